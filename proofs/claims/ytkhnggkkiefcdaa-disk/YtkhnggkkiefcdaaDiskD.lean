/-
  Package disk: turned, Create, Append.
-/
import Derived.Test.YtkhnggkkiefcdaaDiskC
import Derived.Test.YtkhnggkkiefcdaaApp
namespace Go.Proofs.Ytkhnggkkiefcdaa
open Go.RowKit

theorem info_change : ((Try.prog.info? 47).map fun i => (i.zero.map (·.cells.size), i.size, i.bytes)) = some (some 1, 1, 24) := by kernel_rfl
theorem info_entry : ((Try.prog.info? 50).map fun i => (i.zero.map (·.cells.size), i.size, i.bytes)) = some (some 2, 2, 24) := by kernel_rfl
theorem info_u8 : ((Try.prog.info? 5).map fun i => (i.zero.map (·.cells.size), i.size, i.bytes)) = some (some 1, 1, 1) := by kernel_rfl

def DM.turned (M : DM) (d : Dir) : DM := { M with dir := d, chs := M.chs ++ [d] }
def DL.turned (L : DL) (v chV : Value) : DL := { L with dirV := v, chV := chV, chVs := L.chVs ++ [v] }

theorem DRep.turned {w w' : World} {b : Nat} {L : DL} {M : DM} (h : DRep w b L M) {d : Dir} {v chV : Value}
    (hb : Blk w' b ((M.turned d).cells (L.turned v chV)) 45) (hd : w.ownsRow 0 50 2 v d.length (flat d))
    (hc : w'.ownsRow 0 47 1 chV (M.chs.length + 1) (L.chVs ++ [v])) (f : Fr (fun k => k = b ∨ L.chV.ownBlock = some k) w w')
    (hi : ∀ e, e ∈ d → e.2 ∈ M.ids) : DRep w' b (L.turned v chV) (M.turned d) := by
  have far : ∀ {v : Value} {n : Nat} {xs : List Value}, w.ownsRow 0 50 2 v n xs → w'.ownsRow 0 50 2 v n xs := fun ho =>
    own_fr ho f fun k e hk => by
      rcases hk with rfl | hk
      · exact own_ne ho h.blk (by decide) e
      · exact own_ne' ho h.ch (by decide) e hk
  exact {
    blk := hb
    dir := far hd
    safe := far h.safe
    ch := by
      have : (M.turned d).chs.length = M.chs.length + 1 := by simp [DM.turned]
      rw [this]
      exact hc
    chl := by simp [DM.turned, DL.turned, h.chl]
    chs := fun i h1 h2 => by
      simp only [DM.turned, DL.turned, List.length_append, List.length_cons, List.length_nil] at h1 h2
      by_cases hlt : i < M.chs.length
      · have e1 : (L.turned v chV).chVs[i] = L.chVs[i]'(by rw [h.chl]; exact hlt) := by simp [DL.turned, h.chl, hlt]
        have e2 : (M.turned d).chs[i] = M.chs[i] := by simp [DM.turned, hlt]
        rw [e1, e2]
        exact far (h.chs i _ hlt)
      · have hi : i = M.chs.length := by omega
        have e1 : (L.turned v chV).chVs[i] = v := by simp [DL.turned, List.getElem_append, h.chl, hlt]
        have e2 : (M.turned d).chs[i] = d := by simp [DM.turned, List.getElem_append, hlt]
        rw [e1, e2]
        exact far hd
    files := fun g hg => (h.files g hg).fr f fun hk => by
      rcases hk with e | hk
      · exact (h.files g hg).ne h.blk (by decide) e
      · exact own_ne h.ch (h.files g hg) (by decide) hk
    rows := fun g hg => own_fr (h.rows g hg) f fun k e hk => by
      rcases hk with rfl | hk
      · exact own_ne (h.rows g hg) h.blk (by decide) e
      · exact own_ne' (h.rows g hg) h.ch (by decide) e hk
    sep := h.sep
    le := h.le
    inD := hi
    inS := h.inS
    inC := fun c hc => by
      simp only [DM.turned, List.mem_append, List.mem_singleton] at hc
      rcases hc with hc | rfl
      · exact h.inC c hc
      · exact hi }

set_option maxHeartbeats 800000 in
theorem turned_calls (v : Value) (d : Dir) (w : World) (b : Nat) (L : DL) (M : DM) (h : DRep w b L M) (hd : w.ownsRow 0 50 2 v d.length (flat d))
    (hi : ∀ e, e ∈ d → e.2 ∈ M.ids) (hn : M.chs.length + 1 ≤ 1000000000000) :
    Calls Try.prog 24 #[.pointer (some ⟨b, 0, none⟩), v] w fun e w' =>
      e = .returned (.tuple #[]) ∧ ∃ chV, DRep w' b (L.turned v chV) (M.turned d) ∧ Fr (fun k => k = b ∨ L.chV.ownBlock = some k) w w' ∧ (chV.ownBlock = L.chV.ownBlock ∨ ∃ k, chV.ownBlock = some k ∧ w.heap.size ≤ k) := by
  have hc := h.blk.cell
  have hf := h.blk.frozen
  simp only [DM.cells] at hc
  obtain ⟨a, cap, hv⟩ := own_form hd
  obtain ⟨ca, ccap, hcv⟩ := own_form h.ch
  have hlt := h.blk.lt
  rw [hcv] at hc
  have HH := hide h
  have HD := hide hd
  have HV := hide hv
  have HC := hide hcv
  clear h hd
  rw [hv]
  have ho := (own_fr HH.out.ch (w' := (w.setCell ⟨b, 0, none⟩ (.slice a d.length cap)).alloc (.cells #[.slice a d.length cap] 47)) (S := fun k => k = b) (by repeat' first | exact Fr.refl _ _ | (with_reducible assumption) | refine Fr.drewN ?_ _ | refine Fr.drew ?_ | refine Fr.alloc ?_ _ | refine Fr.set ?_ ?_ _ | (intro _; rfl))
    (fun k e hk => by subst hk; exact own_ne HH.out.ch HH.out.blk (by decide) e))
  rw [hcv] at ho
  clear hv hcv
  go_enter Try.func24, Try.ntmps24
  go_wp2_with (at_builtin; go_must (refine wpList_app rfl _ _ _ _ rfl _ _ (by rfl) (by rfl) (run_app_slice (w := _) 43 _ 47 1 24 Try.underlying43 info_change (by decide) _ _ _ ho
    ⟨w.heap.size, 0, none⟩ 1 1 [.slice a d.length cap] rfl (cell_new1 _ _ _ _ (by simp)) (by intro u hu; simp at hu; subst hu; rfl) (by unfold maxLen; omega) (by omega)) ?_))
  intro v' w' happ
  have hb1 : Blk w' b ((M.cells L).set 0 (.slice a d.length cap)) 45 :=
    ((HH.out.blk.set 0 _).alloc _).fr happ.fr (by rw [← HC.out]; exact own_ne HH.out.ch HH.out.blk (by decide))
  have hc' := hb1.cell
  have hf' := hb1.frozen
  simp only [DM.cells, List.set] at hc'
  obtain ⟨a', cap', hv'⟩ := own_form happ.own
  have HA := hide happ
  have HB := hide hb1
  have HX := hide hv'
  clear happ hb1 hc hf ho
  subst hv'
  go_wp2
  go_end0
  refine ⟨rfl, .slice a' (M.chs.length + 1) cap', ?_⟩
  have hfr : Fr (fun k => k = b ∨ L.chV.ownBlock = some k) w (w'.setCell ⟨b, 2, none⟩ (.slice a' (M.chs.length + 1) cap')) := by
    refine Fr.set (Fr.trans' (Fr.alloc (Fr.set (Fr.refl _ w) (fun _ => .inl rfl) _) _) HA.out.fr ?_) (fun _ => .inl rfl) _
    intro k _ hk
    rw [← HC.out] at hk
    exact .inr hk
  rw [← HV.out] at *
  refine ⟨HH.out.turned ?_ HD.out ?_ hfr hi, hfr, ?_⟩
  · have := HB.out.set 2 (.slice a' (M.chs.length + 1) cap')
    exact this
  · have := HA.out.own
    refine own_fr this (S := fun k => k = b) (by repeat' first | exact Fr.refl _ _ | (with_reducible assumption) | refine Fr.drewN ?_ _ | refine Fr.drew ?_ | refine Fr.alloc ?_ _ | refine Fr.set ?_ ?_ _ | (intro _; rfl)) (fun k e hk => by subst hk; exact own_ne this HB.out (by decide) e)
  · rcases HA.out.at_ with h1 | h1
    · exact .inl (by rw [h1, HC.out])
    · exact .inr ⟨_, h1, by simp⟩

end Go.Proofs.Ytkhnggkkiefcdaa
