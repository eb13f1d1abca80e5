/-
  larder: writes_holds: the texts CopyB, ErnA, TriA, PlaA, joined; 
-/
import Derived.Test.YtkhnggkkiefcdaaGreatDoorWAR
import Derived.StillTailTactics
import Derived.LaidEql
import Derived.Stop.Asserts
import Derived.RowKitTokens
namespace Go.Proofs.YtkhnggkkiefcdaaGreatDoor
open Go.RowKit
set_option maxRecDepth 100000
theorem other_step {w0 w : World} {b bo bm nb : Nat} {L0 L : DL} {M : DM} {D S : Dir} {k : Nat} {ps : List (Nat × Nat)} {vo vm : Value} {fV : Nat → Value} {d1 s1 : Dir} {c1 : List Dir} (h : DRep w0 b L0 M)
    (hids : M.ids.length ≤ 100000000000) (hfl : ∀ f, f ∈ M.ids → (M.file f).bytes.length ≤ 1000000000000) (C : CopyAt w0 w bo bm nb M D S k ps vo vm fV L d1 s1 c1)
    (v : Value) (d : Dir) (hd : w0.ownsRow 0 148 2 v d.length (flat d)) (hi : ∀ e, e ∈ d → e.2 ∈ M.ids) (hdl : d.length ≤ 100000000000) :
    Calls Tryz.prog 99 #[v, .pointer (some ⟨bo, 0, none⟩), .pointer (some ⟨bm, 0, none⟩)] w fun e w' =>
      ∃ l, e = .returned l ∧ OtherTo w0 w w' bo bm nb M D S k ps L d1 s1 c1 d l := by
  have hp : ps.length ≤ M.ids.length := by
    have := nodup_le (ps.map Prod.fst) M.ids C.T.n1 C.T.ids
    rw [List.length_map] at this
    exact this
  refine (other_calls w0 w b bo bm L0 M ps vo vm fV h C.T v d hd hi (by omega) hfl).mono ?_
  rintro e w' ⟨l, rfl, ho⟩
  exact ⟨l, rfl, C.other ho⟩
structure First (w w3 : World) (b bo bm nb : Nat) (L : DL) (M : DM) (l1 : Value) : Prop where
  ex : ∃ ps vo vm fV d1, CopyAt w w3 bo bm nb M [] [] 0 ps vo vm fV DL.new [] [] [] ∧ Rel ps M.dir d1 ∧ w3.ownsRow 0 148 2 l1 d1.length (flat d1) ∧ (∀ j, l1.ownBlock = some j → w.heap.size ≤ j)
  c0 : w3.cell? ⟨b, 0, none⟩ = some L.dirV
  c1 : w3.cell? ⟨b, 1, none⟩ = some L.safeV
structure Second (w w4 : World) (b bo bm nb : Nat) (L : DL) (M : DM) (l1 l2 : Value) : Prop where
  ex : ∃ ps vo vm fV d1 s1, CopyAt w w4 bo bm nb M [] [] 0 ps vo vm fV DL.new [] [] [] ∧ Rel ps M.dir d1 ∧ Rel ps M.safe s1 ∧ w4.ownsRow 0 148 2 l1 d1.length (flat d1) ∧ w4.ownsRow 0 148 2 l2 s1.length (flat s1) ∧
    (∀ j, l1.ownBlock = some j → w.heap.size ≤ j) ∧ (∀ j, l2.ownBlock = some j → w.heap.size ≤ j)
  c0 : w4.cell? ⟨b, 0, none⟩ = some L.dirV
  c1 : w4.cell? ⟨b, 1, none⟩ = some L.safeV
  n : ∀ k, w4.cell? ⟨nb, k, none⟩ = (M.cells DL.new)[k]?
  nf : ∀ k, w4.frozen? ⟨nb, k, none⟩ = false
theorem copy_first {w W : World} {b bo bm nb : Nat} {L : DL} {M : DM} {ps : List (Nat × Nat)} {vo vm : Value} {fV : Nat → Value} (h : DRep w b L M)
    (hids : M.ids.length ≤ 100000000000) (hfl : ∀ f, f ∈ M.ids → (M.file f).bytes.length ≤ 1000000000000) (hdl : M.dir.length ≤ 100000000000) (C : CopyAt w W bo bm nb M [] [] 0 ps vo vm fV DL.new [] [] []) :
    Calls Tryz.prog 99 #[L.dirV, .pointer (some ⟨bo, 0, none⟩), .pointer (some ⟨bm, 0, none⟩)] W fun e w3 =>
      ∃ a n, e = .returned (.slice a M.dir.length n) ∧ First w w3 b bo bm nb L M (.slice a M.dir.length n) := by
  refine (other_step h hids hfl C L.dirV M.dir h.dir h.inD hdl).mono ?_
  rintro e w3 ⟨l, rfl, o⟩
  obtain ⟨ps', vo', vm', fV', d', C', _, r, ho, hn⟩ := o.ex
  obtain ⟨a, n, hl⟩ := own_form ho
  rw [r.len] at hl
  subst hl
  have hb := (h.blk.fr C'.T.fr id).cell
  simp only [DM.cells] at hb
  exact ⟨a, n, rfl, ⟨_, _, _, _, _, C', r, ho, hn⟩, hb 0, hb 1⟩
theorem copy_second {w w3 W : World} {b bo bm nb : Nat} {L : DL} {M : DM} {l1 : Value} (h : DRep w b L M)
    (hids : M.ids.length ≤ 100000000000) (hfl : ∀ f, f ∈ M.ids → (M.file f).bytes.length ≤ 1000000000000) (hdl : M.safe.length ≤ 100000000000) (F : First w w3 b bo bm nb L M l1) (f : Fr Nil w3 W) :
    Calls Tryz.prog 99 #[L.safeV, .pointer (some ⟨bo, 0, none⟩), .pointer (some ⟨bm, 0, none⟩)] W fun e w4 =>
      ∃ a n, e = .returned (.slice a M.safe.length n) ∧ Second w w4 b bo bm nb L M l1 (.slice a M.safe.length n) := by
  obtain ⟨ps, vo, vm, fV, d1, C, r1, ho1, hn1⟩ := F.ex
  refine (other_step h hids hfl (C.keep f) L.safeV M.safe h.safe h.inS hdl).mono ?_
  rintro e w4 ⟨l, rfl, o⟩
  obtain ⟨ps', vo', vm', fV', d', C', hs, r, ho, hn⟩ := o.ex
  obtain ⟨a, n, hl⟩ := own_form ho
  rw [r.len] at hl
  subst hl
  have hb := (h.blk.fr C'.T.fr id).cell
  simp only [DM.cells] at hb
  exact ⟨a, n, rfl, ⟨_, _, _, _, _, _, C', r1.more hs, r, o.row _ _ _ _ _ (own_fr ho1 f (fun _ _ => id)) (by decide) (by decide), ho, hn1, hn⟩, hb 0, hb 1, C'.blk.cell, C'.blk.frozen⟩
theorem Second.lists {w w4 : World} {b bo bm nb : Nat} {L : DL} {M : DM} {l1 l2 : Value} (h : Second w w4 b bo bm nb L M l1 l2) :
    ∃ ps vo vm fV d1 s1, CopyAt w ((w4.setCell ⟨nb, 0, none⟩ l1).setCell ⟨nb, 1, none⟩ l2) bo bm nb M M.dir M.safe 0 ps vo vm fV { DL.new with dirV := l1, safeV := l2 } d1 s1 [] := by
  obtain ⟨ps, vo, vm, fV, d1, s1, C, r1, r2, h1, h2, n1, n2⟩ := h.ex
  refine ⟨ps, vo, vm, fV, d1, s1, C.lists ?_ ?_ h1 h2 r1 r2 n1 n2⟩
  · exact Fr.set (S := fun j => j = nb) (p := ⟨nb, 1, none⟩) (Fr.set (S := fun j => j = nb) (p := ⟨nb, 0, none⟩) (Fr.refl _ w4) (fun _ => rfl) l1) (fun _ => rfl) l2
  · exact (C.blk.set 0 l1).set 1 l2
structure Change (w W w5 : World) (bo bm nb : Nat) (M : DM) (k : Nat) (hk : k < M.chs.length) (L1 : DL) (d1 s1 : Dir) (c1 : List Dir) (l : Value) : Prop where
  ex : ∃ ps vo vm fV d', CopyAt w w5 bo bm nb M M.dir M.safe k ps vo vm fV L1 d1 s1 c1 ∧ Rel ps M.chs[k] d' ∧ w5.ownsRow 0 148 2 l d'.length (flat d') ∧ (∀ j, l.ownBlock = some j → w.heap.size ≤ j)
  blk : ∀ (g : Nat) (c : List Value) (e : TypeId), Blk W g c e → e ≠ 168 → e ≠ 146 → Blk w5 g c e
theorem copy_change {w w1 W : World} {b bo bm nb : Nat} {L L1 : DL} {M : DM} {k : Nat} {ps : List (Nat × Nat)} {vo vm v : Value} {fV : Nat → Value} {d1 s1 : Dir} {c1 : List Dir} (h : DRep w b L M)
    (hids : M.ids.length ≤ 100000000000) (hfl : ∀ f, f ∈ M.ids → (M.file f).bytes.length ≤ 1000000000000) (hk : k < M.chs.length) (hkl : k < L.chVs.length) (hdl : M.chs[k].length ≤ 100000000000)
    (C : CopyAt w w1 bo bm nb M M.dir M.safe k ps vo vm fV L1 d1 s1 c1) (hv : L.chVs[k] = v) (f : Fr Nil w1 W) :
    Calls Tryz.prog 99 #[v, .pointer (some ⟨bo, 0, none⟩), .pointer (some ⟨bm, 0, none⟩)] W fun e w5 =>
      ∃ a n, e = .returned (.slice a M.chs[k].length n) ∧ Change w W w5 bo bm nb M k hk L1 d1 s1 c1 (.slice a M.chs[k].length n) := by
  subst hv
  refine (other_step h hids hfl (C.keep f) L.chVs[k] M.chs[k] (h.chs k hkl hk) (h.inC _ (List.getElem_mem hk)) hdl).mono ?_
  rintro e w5 ⟨l, rfl, o⟩
  obtain ⟨ps', vo', vm', fV', d', C', _, r, ho, hn⟩ := o.ex
  obtain ⟨a, n, hl⟩ := own_form ho
  rw [r.len] at hl
  subst hl
  exact ⟨a, n, rfl, ⟨_, _, _, _, _, C', r, ho, hn⟩, o.blk⟩
theorem Change.row {w W w5 W' : World} {bo bm nb : Nat} {M : DM} {k : Nat} {hk : k < M.chs.length} {L1 : DL} {d1 s1 : Dir} {c1 : List Dir} {l v : Value} (X : Change w W w5 bo bm nb M k hk L1 d1 s1 c1 l) (hv : L1.chV = v) (f : Fr Nil w5 W') :
    W'.ownsRow 0 145 1 v k L1.chVs := by
  subst hv
  obtain ⟨_, _, _, _, _, C, _⟩ := X.ex
  exact own_fr C.ch f (fun _ _ => id)
theorem Change.cell {w W w5 : World} {bo bm nb : Nat} {M : DM} {k : Nat} {hk : k < M.chs.length} {L1 : DL} {d1 s1 : Dir} {c1 : List Dir} {l v : Value} (X : Change w W w5 bo bm nb M k hk L1 d1 s1 c1 l) (hv : L1.chV = v) :
    w5.cell? ⟨nb, 2, none⟩ = some v := by
  subst hv
  obtain ⟨_, _, _, _, _, C, _⟩ := X.ex
  exact C.blk.cell 2
theorem Change.lt {w W w5 : World} {bo bm nb : Nat} {M : DM} {k : Nat} {hk : k < M.chs.length} {L1 : DL} {d1 s1 : Dir} {c1 : List Dir} {l : Value} (X : Change w W w5 bo bm nb M k hk L1 d1 s1 c1 l) : nb < w5.heap.size := by
  obtain ⟨_, _, _, _, _, C, _⟩ := X.ex
  exact C.blk.lt
theorem Change.push {w W w5 W' w6 : World} {bo bm nb g : Nat} {M : DM} {k : Nat} {hk : k < M.chs.length} {L1 : DL} {d1 s1 : Dir} {c1 : List Dir} {l v v6 : Value} {c : List Value} (X : Change w W w5 bo bm nb M k hk L1 d1 s1 c1 l) (hv : L1.chV = v) (f : Fr Nil w5 W')
    (ha : App W' v 145 1 (k + 1) (L1.chVs ++ [l]) v6 w6) (hb : Blk w5 g c 145) (hg : ∀ j, L1.chV.ownBlock = some j → j < g) :
    (∃ ps vo vm fV L2 d2 s2 c2, CopyAt w (w6.setCell ⟨nb, 2, none⟩ v6) bo bm nb M M.dir M.safe (k + 1) ps vo vm fV L2 d2 s2 c2) ∧ (∀ i, w6.cell? ⟨nb, i, none⟩ = (M.cells L1)[i]?) ∧ (∀ i, w6.frozen? ⟨nb, i, none⟩ = false) ∧
      (∀ i, w6.cell? ⟨g, i, none⟩ = c[i]?) := by
  subst hv
  obtain ⟨ps, vo, vm, fV, d', C, r, ho, hn⟩ := X.ex
  have hb6 : Blk w6 nb (M.cells L1) 143 := (C.blk.fr f id).fr ha.fr (own_ne (own_fr C.ch f (fun _ _ => id)) (C.blk.fr f id) (by decide))
  have hg6 : Blk w6 g c 145 := (hb.fr f id).fr ha.fr (fun e => by have := hg g e; omega)
  exact ⟨⟨_, _, _, _, _, _, _, _, C.push hk f ha ho r hn⟩, hb6.cell, hb6.frozen, hg6.cell⟩
theorem copy_begins (w : World) (M : DM) :
    CopyAt w (((w.alloc (.cells (M.cells DL.new).toArray 143)).alloc (.cells #[.slice none 0 0] 168)).alloc (.cells #[.slice none 0 0] 168)).drew (w.heap.size + 1) (w.heap.size + 1 + 1) w.heap.size M [] [] 0 [] (.slice none 0 0) (.slice none 0 0) DL.new.fV DL.new [] [] [] := by
  have hf : Fr Nil w (((w.alloc (.cells (M.cells DL.new).toArray 143)).alloc (.cells #[.slice none 0 0] 168)).alloc (.cells #[.slice none 0 0] 168)).drew := (by repeat' first | exact Fr.refl _ _ | (with_reducible assumption) | refine Fr.drewN ?_ _ | refine Fr.drew ?_ | refine Fr.alloc ?_ _ | refine Fr.set ?_ ?_ _ | (intro _; rfl))
  have e1 : (w.alloc (.cells (M.cells DL.new).toArray 143)).heap.size = w.heap.size + 1 := by simp
  have e2 : ((w.alloc (.cells (M.cells DL.new).toArray 143)).alloc (.cells #[.slice none 0 0] 168)).heap.size = w.heap.size + 1 + 1 := by simp
  have h1 := ((Blk.new (w.alloc (.cells (M.cells DL.new).toArray 143)) [.slice none 0 0] 168).alloc (.cells #[.slice none 0 0] 168)).drew
  have h2 := (Blk.new ((w.alloc (.cells (M.cells DL.new).toArray 143)).alloc (.cells #[.slice none 0 0] 168)) [.slice none 0 0] 168).drew
  have h3 := (((Blk.new w (M.cells DL.new) 143).alloc (.cells #[.slice none 0 0] 168)).alloc (.cells #[.slice none 0 0] 168)).drew
  rw [e1] at h1
  rw [e2] at h2
  exact CopyAt.start M (Twin.start M h1 h2 (by omega) (by omega) (by omega) hf _) h3 (Nat.le_refl _)
set_option maxRecDepth 100000 in
set_option maxHeartbeats 3200000 in
theorem copy_calls (w : World) (b : Nat) (L : DL) (M : DM) (h : DRep w b L M) (hids : M.ids.length ≤ 100000000000) (hdl : ∀ d, d ∈ M.dir :: M.safe :: M.chs → d.length ≤ 100000000000) (hcn : M.chs.length ≤ 100000000000)
    (hfl : ∀ f, f ∈ M.ids → (M.file f).bytes.length ≤ 1000000000000) :
    Calls Tryz.prog 54 #[.pointer (some ⟨b, 0, none⟩)] w (CopySaid w M) := by
  have hc := h.blk.cell
  simp only [DM.cells] at hc
  obtain ⟨ca, cc, hcv⟩ := own_form h.ch
  have hlt := h.blk.lt
  have hmf : ∀ (fn : Fn) (first cap : Array Value) (w : World), (Instr.makeFunc fn first cap).run Tryz.prog w = .ok (.func fn first cap) w := fun _ _ _ _ => rfl
  have hne1 : ¬ b = w.heap.size := by omega
  have hne2 : ¬ w.heap.size = b := by omega
  have hC0 := copy_begins w M
  simp only [DM.cells, DL.new] at hC0
  have HC0 := hide hC0
  have HH := hide h
  have HCV := hide hcv
  have HDL := hide hdl
  clear h hcv hdl hC0
  go_enter Tryz.func54, Tryz.ntmps54
  go_wp2
  refine wp_region_still_tail 33 (by kernel_rfl) (by kernel_rfl) ?_
  simp only [List.take_succ_cons, List.take_zero, List.drop_succ_cons, List.drop_zero]
  iterate 33 still_step
  refine wpStill_nil ?_
  go_wp2
  obtain ⟨W2, hW2⟩ : ∃ W2, (((w.alloc (.cells #[.slice none 0 0, .slice none 0 0, .slice none 0 0, .int .i64 M.room, .int .i64 M.calls, .int .i64 M.cut, .int .i64 M.fail, .int .i64 M.part, .int .i64 M.refused, .int .i64 M.fulls, .bool M.dead] 143)).alloc (.cells #[.slice none 0 0] 168)).alloc (.cells #[.slice none 0 0] 168)).drew = W2 := ⟨_, rfl⟩
  have hC2 := HC0.out
  rw [hW2] at hC2 ⊢
  have hb2 := (HH.out.blk.fr hC2.T.fr id).cell
  simp only [DM.cells] at hb2
  have hb20 := hb2 0
  have hb21 := hb2 1
  simp at hb20 hb21
  have HC2 := hide hC2
  clear hC2 hW2 hc HC0 hb2
  go_region_held3 (fun w' => w'.cell? ⟨b, 0, none⟩ = some L.dirV ∧ w'.cell? ⟨b, 1, none⟩ = some L.safeV) (first | go_keep | exact ⟨‹_›, ‹_›⟩)
    (first
    | (go_at_call 99; refine (copy_second HH.out hids hfl (HDL.out _ (List.mem_cons_of_mem _ (List.mem_cons_self ..))) HF.out (by repeat' first | (with_reducible first | exact Fr.refl _ _ | assumption | refine Fr.drewN ?_ _ | refine Fr.drew ?_ | refine Fr.alloc ?_ _ | refine Fr.set ?_ ?_ _) | (intro _; rfl))).mono ?_; rintro e w4 ⟨a2, n2, rfl, hS⟩; have h40 := hS.c0; have h41 := hS.c1; have hn4 := hS.n; have hf4 := hS.nf; simp only [DM.cells, DL.new] at hn4; have HS := hide hS; clear hS)
    | (go_at_call 99; refine (copy_first HH.out hids hfl (HDL.out _ (List.mem_cons_self ..)) (HC2.out.keep (by repeat' first | (with_reducible first | exact Fr.refl _ _ | assumption | refine Fr.drewN ?_ _ | refine Fr.drew ?_ | refine Fr.alloc ?_ _ | refine Fr.set ?_ ?_ _) | (intro _; rfl)))).mono ?_; rintro e w3 ⟨a1, n1, rfl, hF⟩; have h30 := hF.c0; have h31 := hF.c1; have HF := hide hF; clear hF))
  have hL := HS.out.lists
  obtain ⟨W5, hW5⟩ : ∃ W5, ((w4.setCell ⟨w.heap.size, 0, none⟩ (.slice a1 M.dir.length n1)).setCell ⟨w.heap.size, 1, none⟩ (.slice a2 M.safe.length n2)) = W5 := ⟨_, rfl⟩
  rw [hW5] at hL ⊢
  obtain ⟨ps, vo, vm, fV, d1, s1, C⟩ := hL
  have hb5 := (HH.out.blk.fr C.T.fr id).cell
  simp only [DM.cells] at hb5
  have hb52 := hb5 2
  simp at hb52
  rw [HCV.out] at hb52
  have HC5 := hide C
  clear C hb5 hW5 HS HF HC2 hn4 hf4 hb20 hb21
  go_wp2_with fail
  go_loopw [67] (fun c w' => ∃ k : Nat, k ≤ M.chs.length ∧ c = .int .i64 k ∧ ∃ ps vo vm fV L1 d1 s1 c1, CopyAt w w' (w.heap.size + 1) (w.heap.size + 1 + 1) w.heap.size M M.dir M.safe k ps vo vm fV L1 d1 s1 c1) (fun c _ => M.chs.length - (intOf c).toNat)
  case atStart => exact ⟨0, Nat.zero_le _, rfl, _, _, _, _, _, _, _, _, HC5.out⟩
  case round =>
    obtain ⟨w1, rfl⟩ : ∃ x, x = wr := ⟨wr, rfl⟩
    obtain ⟨k, hk, rfl, ps, vo, vm, fV, L1, d1, s1, c1, C⟩ := hrel
    have HC := hide C
    clear C hb52
    by_cases hlk : k < M.chs.length
    · obtain ⟨cg, hcg⟩ : ∃ g, ca = some ⟨g, 0, none⟩ := by
        obtain ⟨g, c', h', _⟩ := own_some HH.out.ch (by omega)
        rw [HCV.out] at h'; simp at h'; exact ⟨g, h'.1⟩
      subst hcg
      have hkl : k < L.chVs.length := by rw [HH.out.chl]; exact hlk
      obtain ⟨ea, ec, hev⟩ := own_form (HH.out.chs k hkl hlk)
      have hck : w1.cell? ⟨cg, k, none⟩ = some (.slice ea M.chs[k].length ec) := by
        have := own_fr HH.out.ch HC.out.T.fr (fun _ _ => id)
        rw [HCV.out] at this
        rw [← hev]
        exact own_cell? this k _ (by simp [hkl])
      have hdk := HDL.out M.chs[k] (by simp)
      obtain ⟨na, nc, hnv⟩ := own_form HC.out.ch
      have HNV := hide hnv
      have HEV := hide hev
      have HNC : Hid (∀ W', Fr Nil w1 W' → W'.cell? ⟨w.heap.size, 2, none⟩ = some (.slice na k nc)) := fun W' hf => by
        have := (HC.out.blk.fr hf id).cell 2
        simp [DM.cells] at this
        rw [HNV.out] at this
        exact this
      clear hnv hev
      have hq0 := HC.out.blk.lt
      have hq1 : ¬ w1.heap.size = w.heap.size := by omega
      have hq2 : ¬ w.heap.size = w1.heap.size := by omega
      have HG : Hid (∀ j, L1.chV.ownBlock = some j → j < w1.heap.size) := fun j hj => own_lt HC.out.ch hj
      go_wp2_with fail
      have hnc1 := HNC.out _ (Fr.alloc (Fr.refl _ _) (.cells #[.slice ea M.chs[k].length ec] 145))
      have hce1 := (Blk.new w1 [.slice ea M.chs[k].length ec] 145).cell 0
      simp at hce1
      go_region_law
        (first
        | (refine step_app (by rfl) _ _ _ _ (by rfl) _ _ (by rfl) (by rfl) (run_app_slice 141 _ 145 1 24 Tryz.underlying141 info_change (by decide) _ _ _ (HX.out.row HNV.out (by repeat' first | (with_reducible first | exact Fr.refl _ _ | assumption | refine Fr.drewN ?_ _ | refine Fr.drew ?_ | refine Fr.alloc ?_ _ | refine Fr.set ?_ ?_ _) | (intro _; rfl)))
            ⟨w5.heap.size, 0, none⟩ 1 1 [.slice a5 M.chs[k].length n5] rfl (cell_new1 _ _ _ _ (by simp)) (by intro u hu; simp at hu; subst hu; rfl) (by unfold maxLen; omega) (by omega)) ?_; intro v6 w6 ha; obtain ⟨a6, c6, hv6⟩ := own_form ha.own; subst hv6
           obtain ⟨hC6, hn6, hf6, he6⟩ := HX.out.push HNV.out (by repeat' first | (with_reducible first | exact Fr.refl _ _ | assumption | refine Fr.drewN ?_ _ | refine Fr.drew ?_ | refine Fr.alloc ?_ _ | refine Fr.set ?_ ?_ _) | (intro _; rfl)) ha HBX.out HG.out
           have he60 := he6 0
           simp at he60
           simp only [DM.cells] at hn6
           have HC6 := hide hC6
           clear he6 ha hC6)
        | (go_simp; go_at_call 99; refine (copy_change HH.out hids hfl hlk hkl hdk HC.out HEV.out (by repeat' first | (with_reducible first | exact Fr.refl _ _ | assumption | refine Fr.drewN ?_ _ | refine Fr.drew ?_ | refine Fr.alloc ?_ _ | refine Fr.set ?_ ?_ _) | (intro _; rfl))).mono ?_; rintro e w5 ⟨a5, n5, rfl, hX⟩
           have hb5 := hX.blk _ _ _ ((Blk.new w1 [.slice ea M.chs[k].length ec] 145).fr (S := Nil) (by repeat' first | (with_reducible first | exact Fr.refl _ _ | assumption | refine Fr.drewN ?_ _ | refine Fr.drew ?_ | refine Fr.alloc ?_ _ | refine Fr.set ?_ ?_ _) | (intro _; rfl)) id) (by decide) (by decide)
           have h50 := hb5.cell 0
           simp at h50
           have hn5 := hX.cell HNV.out
           have hl5 : w.heap.size < w5.heap.size := hX.lt
           have HX := hide hX
           have HBX := hide hb5
           clear hX hb5))
      all_goals
        (clear hn6 hf6 he60 hn5 h50 hce1 hnc1
         go_wp2
         exact ⟨⟨k + 1, by omega, by go_num, HC6.out⟩, by simp [intOf]; omega⟩)
    · have hkn : k = M.chs.length := by omega
      subst hkn
      go_wp2
      go_ret
      exact HC.out.said HH.out.le
end Go.Proofs.YtkhnggkkiefcdaaGreatDoor
namespace Go.Proofs.YtkhnggkkiefcdaaGreatDoor
open Go.RowKit Go.Extern.Stop Go.Stop Go.Extern
set_option maxRecDepth 100000
theorem As_valueOf27 (t : Addr) (w : World) : (ReflectliteValue.unpack (.iface 227 (.pointer (some t)))).run Tryz.prog w
    = .ok (.agg #[.pointer (some ⟨6, 227, none⟩), .pointer (some ⟨w.heap.size, 0, none⟩), .int .u64 150]) (w.alloc (.cells #[.pointer (some t)] 227)) := by kernel_rfl
theorem As_type27 (a : Addr) (w : World) : (ReflectliteValue.methodAny (ReflectliteValue.valueError "reflectlite.Value.Type" 0) (fun t _ _ _ => ReflectliteType.toType t) #[.agg #[.pointer (some ⟨6, 227, none⟩), .pointer (some a), .int .u64 150]]).run Tryz.prog w
    = .ok (.iface 309 (.agg #[.pointer (some ⟨6, 227, none⟩)])) w := by kernel_rfl
theorem As_methodKind (h : Value) (w : World) : (Go.method 496 309 (.agg #[h]) "Kind").run Tryz.prog w = .ok (271, h) w := by kernel_rfl
theorem As_kind27 (w : World) : ((ReflectliteType.abiMethod fun t => Functor.map (fun a:Nat=>Value.int IntKind.u8 (a:Int)) (Rtype.kind t)) #[.pointer (some ⟨6, 227, none⟩)]).run Tryz.prog w = .ok (.int .u8 22) w := by kernel_rfl
theorem As_kind25 (w : World) : ((ReflectliteType.abiMethod fun t => Functor.map (fun a:Nat=>Value.int IntKind.u8 (a:Int)) (Rtype.kind t)) #[.pointer (some ⟨6, 225, none⟩)]).run Tryz.prog w = .ok (.int .u8 22) w := by kernel_rfl
theorem As_parts27 (a : Addr) (w : World) : (ReflectliteValue.parts (.agg #[.pointer (some ⟨6, 227, none⟩), .pointer (some a), .int .u64 150])).run Tryz.prog w = .ok (some (227, a, 150)) w := by kernel_rfl
theorem As_isNil27 (a p : Addr) (W : World) (ha : W.cell? a = some (.pointer (some p))) :
    (ReflectliteValue.method (ReflectliteValue.valueError "reflectlite.Value.IsNil" 0) ReflectliteValue.isNil #[.agg #[.pointer (some ⟨6, 227, none⟩), .pointer (some a), .int .u64 150]]).run Tryz.prog W = .ok (.bool false) W := by
  change Sem.run Tryz.prog (ReflectliteValue.parts (.agg #[.pointer (some ⟨6, 227, none⟩), .pointer (some a), .int .u64 150]) >>= _) W = _
  simp only [Sem.run_bind, As_parts27, Result.andThen]
  simp [ReflectliteValue.isNil, loadVar, isAgg, underlying, Tryz.underlying227, ha, Result.andThen]
theorem As_methodElem (h : Value) (w : World) : (Go.method 496 309 (.agg #[h]) "Elem").run Tryz.prog w = .ok (316, .agg #[h]) w := by kernel_rfl
theorem As_methodImplements (h : Value) (w : World) : (Go.method 496 309 (.agg #[h]) "Implements").run Tryz.prog w = .ok (317, .agg #[h]) w := by kernel_rfl
theorem As_methodAssignableTo (h : Value) (w : World) : (Go.method 496 309 (.agg #[h]) "AssignableTo").run Tryz.prog w = .ok (314, .agg #[h]) w := by kernel_rfl
theorem As_elem27 (w : World) : (ReflectliteType.method ReflectliteType.elem #[.agg #[.pointer (some ⟨6, 227, none⟩)]]).run Tryz.prog w = .ok (.iface 309 (.agg #[.pointer (some ⟨6, 225, none⟩)])) w := by kernel_rfl
theorem As_implements25 (w : World) : (ReflectliteType.relation "Implements" ReflectliteType.implements_ #[.agg #[.pointer (some ⟨6, 225, none⟩)], .iface 309 (.agg #[.pointer (some ⟨6, 132, none⟩)])]).run Tryz.prog w = .ok (.bool true) w := by kernel_rfl
theorem As_typeOf25 (v : Value) (w : World) : (ReflectliteType.typeOf #[.iface 225 v]).run Tryz.prog w = .ok (.iface 309 (.agg #[.pointer (some ⟨6, 225, none⟩)])) w := by kernel_rfl
theorem As_assignable25 (w : World) : (ReflectliteType.relation "AssignableTo" ReflectliteType.assignableTo #[.agg #[.pointer (some ⟨6, 225, none⟩)], .iface 309 (.agg #[.pointer (some ⟨6, 225, none⟩)])]).run Tryz.prog w = .ok (.bool true) w := by kernel_rfl
theorem As_valueOf25 (e : Addr) (w : World) : (ReflectliteValue.unpack (.iface 225 (.pointer (some e)))).run Tryz.prog w
    = .ok (.agg #[.pointer (some ⟨6, 225, none⟩), .pointer (some ⟨w.heap.size, 0, none⟩), .int .u64 150]) (w.alloc (.cells #[.pointer (some e)] 225)) := by kernel_rfl
theorem As_elemOf27 (w : World) : (Rtype.elem? 227).run Tryz.prog w = .ok (some 225) w := by kernel_rfl
theorem As_mk25 (p : Addr) (w : World) : (ReflectliteValue.mk 225 p ReflectliteValue.flagAddr).run Tryz.prog w = .ok (.agg #[.pointer (some ⟨6, 225, none⟩), .pointer (some p), .int .u64 406]) w := by kernel_rfl
theorem As_elemV27 (a p : Addr) (W : World) (ha : W.cell? a = some (.pointer (some p))) :
    (ReflectliteValue.method (ReflectliteValue.valueError "reflectlite.Value.Elem" 0) ReflectliteValue.elem #[.agg #[.pointer (some ⟨6, 227, none⟩), .pointer (some a), .int .u64 150]]).run Tryz.prog W
      = .ok (.agg #[.pointer (some ⟨6, 225, none⟩), .pointer (some p), .int .u64 406]) W := by
  change Sem.run Tryz.prog (ReflectliteValue.parts (.agg #[.pointer (some ⟨6, 227, none⟩), .pointer (some a), .int .u64 150]) >>= _) W = _
  simp only [Sem.run_bind, As_parts27, Result.andThen]
  simp [ReflectliteValue.elem, loadVar, isAgg, underlying, Tryz.underlying227, ha, Result.andThen, As_elemOf27, As_mk25]
theorem As_parts25a (a : Addr) (w : World) : (ReflectliteValue.parts (.agg #[.pointer (some ⟨6, 225, none⟩), .pointer (some a), .int .u64 406])).run Tryz.prog w = .ok (some (225, a, 406)) w := by kernel_rfl
theorem As_parts25 (a : Addr) (w : World) : (ReflectliteValue.parts (.agg #[.pointer (some ⟨6, 225, none⟩), .pointer (some a), .int .u64 150])).run Tryz.prog w = .ok (some (225, a, 150)) w := by kernel_rfl
theorem As_direct25 (w : World) : (Rtype.directlyAssignable 225 225).run Tryz.prog w = .ok true w := by kernel_rfl
theorem As_set25 (ta b e : Addr) (old : Value) (W : World) (hb : W.cell? b = some (.pointer (some e))) (ht : W.cell? ta = some old) (hf : W.frozen? ta = false) :
    (ReflectliteValue.set #[.agg #[.pointer (some ⟨6, 225, none⟩), .pointer (some ta), .int .u64 406], .agg #[.pointer (some ⟨6, 225, none⟩), .pointer (some b), .int .u64 150]]).run Tryz.prog W
      = .ok (.tuple #[]) (W.setCell ta (.pointer (some e))) := by
  change Sem.run Tryz.prog (ReflectliteValue.parts (.agg #[.pointer (some ⟨6, 225, none⟩), .pointer (some ta), .int .u64 406]) >>= fun _ => ReflectliteValue.parts (.agg #[.pointer (some ⟨6, 225, none⟩), .pointer (some b), .int .u64 150]) >>= _) W = _
  simp only [Sem.run_bind, As_parts25a, As_parts25, Result.andThen]
  simp [ReflectliteValue.flagAddr, loadVar, isAgg, underlying, Tryz.underlying225, hb, Result.andThen, As_direct25, storeVar, Value.cells, storeCells, Addr.add]
  rw [run_store Tryz.prog W ta _ _ (by rfl)]
  simp [ht, hf]
theorem As_typeOfD (v : Value) (w : World) : (ReflectliteType.typeOf #[.iface 202 v]).run Tryz.prog w = .ok (.iface 309 (.agg #[.pointer (some ⟨6, 202, none⟩)])) w := by kernel_rfl
theorem As_assignableD (w : World) : (ReflectliteType.relation "AssignableTo" ReflectliteType.assignableTo #[.agg #[.pointer (some ⟨6, 202, none⟩)], .iface 309 (.agg #[.pointer (some ⟨6, 225, none⟩)])]).run Tryz.prog w = .ok (.bool false) w := by kernel_rfl
theorem As_lacks (v : Value) (xT : TypeId) (w : World) : (Instr.typeAssert (.iface 202 v) xT 314 true).run Tryz.prog w = .ok (.tuple #[.nilIface, .bool false]) w :=
  run_typeAssert_lacksB Tryz.underlying314 (by kernel_rfl) (by kernel_rfl) v xT w
theorem As_has (v : Value) (xT : TypeId) (w : World) : (Instr.typeAssert (.iface 202 v) xT 317 true).run Tryz.prog w = .ok (.tuple #[.iface 202 v, .bool true]) w :=
  run_typeAssert_hasB Tryz.underlying317 (by kernel_rfl) v xT w
theorem As_unwrap (v : Value) (w : World) : (Go.method 496 202 v "Unwrap").run Tryz.prog w = .ok (302, v) w := by kernel_rfl
theorem unwrap_calls (b : Nat) (what : ByteArray) (v : Value) (w : World) (h : Blk w b [.string what, v] 204) (t c : Nat) (hv : v = .iface t (.pointer (some ⟨c, 0, none⟩))) :
    Calls Tryz.prog 302 #[.pointer (some ⟨b, 0, none⟩)] w fun e w' => e = .returned v ∧ w' = w := by
  subst hv
  have hc : w.cell? ⟨b, 1, none⟩ = some (.iface t (.pointer (some ⟨c, 0, none⟩))) := h.cell 1
  clear h
  go_enter Tryz.func302, Tryz.ntmps302
  go_wp2
  go_ret
  exact ⟨rfl, rfl⟩
theorem ErrAt.unique {w : World} {n m : Int} : ∀ {k j : Nat} {v : Value}, ErrAt w n k v → ErrAt w m j v → k = j
  | 0, 0, _, _, _ => rfl
  | 0, j + 1, v, ⟨b, c, f, h, hb⟩, ⟨b2, c2, v2, h2, hb2, _⟩ => by
    rw [h] at h2
    exact absurd h2 (by intro x; have := (Value.iface.inj x).1; exact absurd this (by decide))
  | k + 1, 0, v, ⟨b2, c2, v2, h2, hb2, _⟩, ⟨b, c, f, h, hb⟩ => by
    rw [h] at h2
    exact absurd h2 (by intro x; have := (Value.iface.inj x).1; exact absurd this (by decide))
  | k + 1, j + 1, v, ⟨b, c, v1, h, hb, hk⟩, ⟨b2, c2, v2, h2, hb2, hj⟩ => by
    rw [h] at h2
    have e := (Value.iface.inj h2).2
    have e2 : b = b2 := by injection e with e; injection e with e; injection e
    subst e2
    have := (hb.inj hb2).1
    simp at this
    obtain ⟨_, rfl⟩ := this
    rw [ErrAt.unique hk hj]
theorem errDepth_eq(n:Int):∃ D:World->Value->Nat,∀ w v k,ErrAt w n k v->D w v=k:=
 ⟨fun w v=>Classical.epsilon fun k=>ErrAt w n k v,fun w v k h=>ErrAt.unique (Classical.epsilon_spec (p:=fun k=>ErrAt w n k v) ⟨k,h⟩) h⟩
def AsPost (n : Int) (t : Nat) (w w' : World) : Prop := ∃ e c f, w'.cell? ⟨t, 0, none⟩ = some (.pointer (some ⟨e, 0, none⟩)) ∧ Blk w' e [.string c, .string f, .int .i64 n] 229 ∧ Fr (fun k => k = t) w w'
set_option maxHeartbeats 4000000 in
theorem as1_calls (n : Int) (k : Nat) (v : Value) (t a : Nat) (w : World) (hv : ErrAt w n k v) (ht : Blk w t [.pointer none] 225) (ha : Blk w a [.pointer (some ⟨t, 0, none⟩)] 227) :
    Calls Tryz.prog 198 #[v, .iface 227 (.pointer (some ⟨t, 0, none⟩)), .agg #[.pointer (some ⟨6, 227, none⟩), .pointer (some ⟨a, 0, none⟩), .int .u64 150], .iface 309 (.agg #[.pointer (some ⟨6, 225, none⟩)])] w fun e w' => e = .returned (.bool true) ∧ AsPost n t w w' := by
  have h6 := @run_callFunc_extern Tryz.prog 195 _ (fun args => ReflectliteValue.unpack (args.getD 0 (.tuple #[]))) Tryz.func195 (by kernel_rfl) (by kernel_rfl) (by kernel_rfl) (by kernel_rfl)
  have h10 := @run_callFunc_extern Tryz.prog 224 _ ReflectliteType.typeOf Tryz.func224 (by kernel_rfl) (by kernel_rfl) (by kernel_rfl) (by kernel_rfl)
  have h35 := @run_callFunc_extern Tryz.prog 314 _ (ReflectliteType.relation "AssignableTo" ReflectliteType.assignableTo) Tryz.func314 (by kernel_rfl) (by kernel_rfl) (by kernel_rfl) (by kernel_rfl)
  have h11 := @run_callFunc_extern Tryz.prog 225 _ (ReflectliteValue.method (ReflectliteValue.valueError "reflectlite.Value.Elem" 0) ReflectliteValue.elem) Tryz.func225 (by kernel_rfl) (by kernel_rfl) (by kernel_rfl) (by kernel_rfl)
  have h12 := @run_callFunc_extern Tryz.prog 226 _ ReflectliteValue.set Tryz.func226 (by kernel_rfl) (by kernel_rfl) (by kernel_rfl) (by kernel_rfl)
  have tO := As_typeOf25
  have tD := As_typeOfD
  have mA := As_methodAssignableTo
  have a25 := As_assignable25
  have aD := As_assignableD
  have v25 := As_valueOf25
  have hL := As_lacks
  have hH := As_has
  have mU := As_unwrap
  have hbox := Blk.new w [.pointer (some ⟨6, 227, none⟩), .pointer (some ⟨a, 0, none⟩), .int .u64 150] 281
  have f0 : Fr Nil w (w.alloc (.cells #[.pointer (some ⟨6, 227, none⟩), .pointer (some ⟨a, 0, none⟩), .int .u64 150] 281)) := (Fr.refl _ _).alloc _
  have HV := hide (hv.fr f0 (NoErr.nil w))
  have HT := hide (ht.fr f0 id)
  have HA := hide (ha.fr f0 id)
  have HB := hide hbox
  have HF := hide f0
  have htl := ht.lt
  clear hv ht ha hbox f0
  generalize hwb : w.alloc (.cells #[.pointer (some ⟨6, 227, none⟩), .pointer (some ⟨a, 0, none⟩), .int .u64 150] 281) = wb at HV HT HA HB HF
  generalize hN : w.heap.size = N at HB
  have hNlt : N < wb.heap.size := HB.out.lt
  have HWB := hide hwb
  have HN := hide hN
  clear hwb hN
  go_enter Tryz.func198, Tryz.ntmps198
  go_wp2_with fail
  rw [HWB.out, HN.out]
  obtain ⟨qDD9, hDD9⟩ := errDepth_eq n
  have HDD9 := hide hDD9
  clear hDD9
  go_loopw [0] (fun x w' => ∃ k, ErrAt w' n k x ∧ Fr Nil wb w') (fun x w' => qDD9 w' x)
  case atStart => exact ⟨k, HV.out, Fr.refl _ _⟩
  case round =>
    obtain ⟨j, hj, hf⟩ := hrel
    have hcN := (HB.out.fr hf id).cell
    cases j with
    | zero =>
      obtain ⟨e, c, f, rfl, he⟩ := hj
      have el := As_elemV27 ⟨a, 0, none⟩ ⟨t, 0, none⟩ wr ((HA.out.fr hf id).cell 0)
      have hnew := Blk.new wr [.pointer (some ⟨e, 0, none⟩)] 225
      have htw := HT.out.fr hf id
      have htn := htw.alloc (.cells #[.pointer (some ⟨e, 0, none⟩)] 225)
      have st := As_set25 ⟨t, 0, none⟩ ⟨wr.heap.size, 0, none⟩ ⟨e, 0, none⟩ (.pointer none) (wr.alloc (.cells #[.pointer (some ⟨e, 0, none⟩)] 225)) (hnew.cell 0) (htn.cell 0) (htn.frozen 0)
      have hset := htn.set 0 (.pointer (some ⟨e, 0, none⟩))
      have HC := hide (hset.cell 0)
      have HE0 := hide ((he.alloc (.cells #[.pointer (some ⟨e, 0, none⟩)] 225)).far (b' := t) (he.ne htw (by decide)) 0 (.pointer (some ⟨e, 0, none⟩)))
      have HFR : Hid (Fr (fun k => k = t) w ((wr.alloc (.cells #[.pointer (some ⟨e, 0, none⟩)] 225)).setCell ⟨t, 0, none⟩ (.pointer (some ⟨e, 0, none⟩)))) :=
        hide (Fr.set (S := fun k => k = t) (p := ⟨t, 0, none⟩) (((HF.out.trans hf).mono (fun _ _ h => absurd h id)).alloc _) (fun _ => rfl) _)
      clear he hf hnew htw htn hset
      go_wp2
      go_ret
      exact ⟨rfl, e, c, f, HC.out, HE0.out, HFR.out⟩
    | succ j =>
      obtain ⟨e, what, v', rfl, he, hj⟩ := hj
      obtain ⟨t1, b1, rfl⟩ := hj.form
      have HU := hide (unwrap_calls e what _ wr he t1 b1 rfl)
      have HD : Hid (qDD9 wr (.iface t1 (.pointer (some ⟨b1, 0, none⟩))) = j ∧ qDD9 wr (.iface 202 (.pointer (some ⟨e, 0, none⟩))) = j + 1) := ⟨HDD9.out _ _ _ hj,HDD9.out _ _ _ ⟨e, what, _, rfl, he, hj⟩⟩
      have HFF := hide hf
      have HJ := hide hj
      clear he hf hj
      go_wp2_with (refine HU.out.mono ?_; rintro e w1 ⟨rfl, hw1⟩; subst w1)
      exact ⟨⟨j, HJ.out, HFF.out⟩, by rw [HD.out.1, HD.out.2]; omega⟩
set_option maxHeartbeats 4000000 in
theorem as_calls (n : Int) (v : Value) (t : Nat) (w : World) (hv : ERep w v (some n)) (ht : Blk w t [.pointer none] 225) (hg : Hnd w) :
    Calls Tryz.prog 154 #[v, .iface 227 (.pointer (some ⟨t, 0, none⟩))] w fun e w' => e = .returned (.bool true) ∧ AsPost n t w w' := by
  have h6 := @run_callFunc_extern Tryz.prog 195 _ (fun args => ReflectliteValue.unpack (args.getD 0 (.tuple #[]))) Tryz.func195 (by kernel_rfl) (by kernel_rfl) (by kernel_rfl) (by kernel_rfl)
  have h7 := @run_callFunc_extern Tryz.prog 196 _ (ReflectliteValue.methodAny (ReflectliteValue.valueError "reflectlite.Value.Type" 0) (fun t _ _ _ => ReflectliteType.toType t)) Tryz.func196 (by kernel_rfl) (by kernel_rfl) (by kernel_rfl) (by kernel_rfl)
  have h8 := @run_callFunc_extern Tryz.prog 197 _ (ReflectliteValue.method (ReflectliteValue.valueError "reflectlite.Value.IsNil" 0) ReflectliteValue.isNil) Tryz.func197 (by kernel_rfl) (by kernel_rfl) (by kernel_rfl) (by kernel_rfl)
  have h27 := @run_callFunc_extern Tryz.prog 271 _ (ReflectliteType.abiMethod fun t => do pure (.int .u8 (← Rtype.kind t))) Tryz.func271 (by kernel_rfl) (by kernel_rfl) (by kernel_rfl) (by kernel_rfl)
  have h37 := @run_callFunc_extern Tryz.prog 316 _ (ReflectliteType.method ReflectliteType.elem) Tryz.func316 (by kernel_rfl) (by kernel_rfl) (by kernel_rfl) (by kernel_rfl)
  have h38 := @run_callFunc_extern Tryz.prog 317 _ (ReflectliteType.relation "Implements" ReflectliteType.implements_) Tryz.func317 (by kernel_rfl) (by kernel_rfl) (by kernel_rfl) (by kernel_rfl)
  have f6 := As_valueOf27
  have f7 := As_type27
  have mK := As_methodKind
  have mE := As_methodElem
  have mI := As_methodImplements
  have k27 := As_kind27
  have k25 := As_kind25
  have e27 := As_elem27
  have i25 := As_implements25
  obtain ⟨k, hk⟩ := hv
  obtain ⟨t1, b1, rfl⟩ := hk.form
  have hA := Blk.new w [.pointer (some ⟨t, 0, none⟩)] 227
  have fa : Fr Nil w (w.alloc (.cells #[.pointer (some ⟨t, 0, none⟩)] 227)) := (Fr.refl _ _).alloc _
  have s1 : (w.alloc (.cells #[.pointer (some ⟨t, 0, none⟩)] 227)).heap.size = w.heap.size + 1 := alloc_size _ _
  generalize hwa : w.alloc (.cells #[.pointer (some ⟨t, 0, none⟩)] 227) = wa at hA fa s1
  have hB := Blk.new wa [.pointer (some ⟨6, 227, none⟩), .pointer (some ⟨w.heap.size, 0, none⟩), .int .u64 150] 281
  have fb : Fr Nil wa (wa.alloc (.cells #[.pointer (some ⟨6, 227, none⟩), .pointer (some ⟨w.heap.size, 0, none⟩), .int .u64 150] 281)) := (Fr.refl _ _).alloc _
  generalize hwb : wa.alloc (.cells #[.pointer (some ⟨6, 227, none⟩), .pointer (some ⟨w.heap.size, 0, none⟩), .int .u64 150] 281) = wb at hB fb
  have hA2 := hA.fr fb id
  have n8 := As_isNil27 ⟨w.heap.size, 0, none⟩ ⟨t, 0, none⟩ wb (hA2.cell 0)
  have hcb := hB.cell
  have hgb : wb.cell? ⟨0, 0, none⟩ = some (.iface 309 (.agg #[.pointer (some ⟨6, 132, none⟩)])) := ((fa.trans fb).cell (by have := hg; unfold Hnd World.cell? at this; simp only; rcases Nat.lt_or_ge 0 w.heap.size with h | h; exact h; rw [Array.getElem?_eq_none h] at this; cases this) id).trans hg
  have HC := hide (as1_calls n k (.iface t1 (.pointer (some ⟨b1, 0, none⟩))) t w.heap.size wb (hk.fr (fa.trans fb) (NoErr.nil w)) (ht.fr (fa.trans fb) id) hA2)
  have HF := hide (fa.trans fb)
  rw [s1] at hcb
  clear hA hA2 hB hk ht hg fa fb s1
  subst hwb
  subst hwa
  go_enter Tryz.func154, Tryz.ntmps154
  go_wp2_with fail
  refine HC.out.mono ?_
  rintro e w2 ⟨rfl, e1, c1, g1, h1, h2, h3⟩
  have H1 := hide h1
  have H2 := hide h2
  have H3 : Hid (Fr (fun k => k = t) w w2) := (HF.out.mono (fun _ _ h => absurd h id)).trans h3
  clear h1 h2 h3
  go_wp2
  go_ret
  exact ⟨rfl, e1, c1, g1, H1.out, H2.out, H3.out⟩
set_option maxHeartbeats 800000 in
theorem errno_said : ErrnoSaid := by
  intro B w v n ht hv
  have hA := Blk.new w [.pointer none] 225
  have fa : Fr Nil w (w.alloc (.cells #[.pointer none] 225)) := (Fr.refl _ _).alloc _
  have HC := hide (as_calls n v w.heap.size _ (hv.fr fa (NoErr.nil w)) hA (show Hnd _ from (fa.cell (by have := ht.2.2.1; unfold Hnd World.cell? at this; simp only; rcases Nat.lt_or_ge 0 w.heap.size with h | h; exact h; rw [Array.getElem?_eq_none h] at this; cases this) id).trans ht.2.2.1))
  have HF := hide fa
  have HLT := hide (show ∀ k, k < w.heap.size → k ≠ w.heap.size from fun k h => by omega)
  clear hA fa ht hv
  go_enter Tryz.func97, Tryz.ntmps97
  go_wp2_with fail
  refine HC.out.mono ?_
  rintro e w2 ⟨rfl, e1, c1, g1, h1, h2, h3⟩
  have hc2 := h2.cell 2
  have H3 : Hid (Fr Nil w w2) := HF.out.trans' h3 (fun i hi e => absurd e (HLT.out i hi))
  clear h2 h3
  go_wp2
  go_ret
  exact ⟨rfl, H3.out⟩
end Go.Proofs.YtkhnggkkiefcdaaGreatDoor
namespace Go.Proofs.YtkhnggkkiefcdaaGreatDoor
open Go.RowKit
set_option maxRecDepth 100000
def textA : ByteArray := { data := #[97] }
def textTrial : ByteArray := { data := #[97, 32, 116, 114, 105, 97, 108] }
theorem copied_fresh {T : Nat} {w w' : World} {M : DM} {e : Ending} (hM : Fresh T M) (hs : M.safe = []) (h : CopySaid w M e w') : ∃ b' L', e = .returned (.pointer (some ⟨b', 0, none⟩)) ∧ Own w w' b' L' (M.twin []) ∧ Fresh T (M.twin []) ∧ (M.twin []).safe = [] ∧ (M.twin []).refused = M.refused ∧ (M.twin []).fulls = M.fulls := by
  obtain ⟨b', L', ps, he, ho, _, _, hp, _⟩ := h
  have : ps = [] := by
    cases ps with
    | nil => rfl
    | cons p ps => exact absurd (hp p (List.mem_cons_self ..)).1 (by rw [hM.ids]; simp)
  subst this
  refine ⟨b', L', he, ho, ⟨by show twinDir [] M.dir = []; rw [hM.dir]; rfl, rfl, by show M.chs.map _ = []; rw [hM.chs]; rfl, hM.dead, hM.cut, hM.fail, hM.part, hM.calls, hM.room⟩, by show twinDir [] M.safe = []; rw [hs]; rfl, rfl, rfl⟩
theorem copy_fresh {T : Nat} {w : World} {b : Nat} {L : DL} {M : DM} (h : DRep w b L M) (hM : Fresh T M) (hs : M.safe = []) :
    Calls Tryz.prog 54 #[.pointer (some ⟨b, 0, none⟩)] w fun e w' => ∃ b' L', e = .returned (.pointer (some ⟨b', 0, none⟩)) ∧ Own w w' b' L' (M.twin []) ∧ Fresh T (M.twin []) ∧ (M.twin []).safe = [] ∧ (M.twin []).refused = M.refused ∧ (M.twin []).fulls = M.fulls := by
  refine (copy_calls w b L M h (by rw [hM.ids]; decide) (fun d hd => ?_) (by rw [hM.chs]; decide) (fun f hf => by rw [hM.ids] at hf; cases hf)).mono fun e w' hc => copied_fresh hM hs hc
  rw [hM.dir, hs, hM.chs] at hd
  simp only [List.mem_cons, List.not_mem_nil, or_false, or_self] at hd
  subst hd
  exact Nat.zero_le _
theorem fresh_off {T : Nat} {M : DM} (h : Fresh T M) : Fresh T ((M.setCut 0).setFail 0 0) :=
  ⟨h.dir, h.ids, h.chs, h.dead, rfl, rfl, rfl, h.calls, h.room⟩
set_option maxHeartbeats 3200000 in
theorem trial_calls (herr : ErrnoSaid) (T : Nat) (K : Nat → Prop) (B : Nat) (L : WL) (W : WM) (LD : DL) (M : DM) (w : World) (h : WAt K w L W) (hd : DRep w L.db LD M) (htab : TabAt B w) (hB : B ≤ w.heap.size) (hM : Fresh T M) (hT : 40 ≤ T) (hs : M.safe = []) :
    Calls Tryz.prog 53 #[.pointer (some ⟨L.wb, 0, none⟩)] w fun e w' => e = .returned (.tuple #[]) ∧ Fr Nil w w' := by
  have hcw : ∀ wx, Fr Nil w wx → ∀ k, wx.cell? ⟨L.wb, k, none⟩ = (W.cells L)[k]? := fun wx f => (h.nil f).blk.cell
  have HCW := hide hcw
  have hc0 := hcw w (Fr.refl _ _)
  simp only [WM.cells] at hc0
  have HTAB := hide htab
  have HCOPY := hide (copy_fresh hd hM hs)
  have HBW := hide hB
  clear h hd hcw htab hB
  go_enter Tryz.func53, Tryz.ntmps53
  go_wp2_with fail
  refine HCOPY.out.mono ?_
  rintro e w1 ⟨b1, L1, rfl, ho1, hM1, hs1, _, _⟩
  generalize M.twin [] = M1 at ho1 hM1 hs1
  have hnew : ∀ k, Foot b1 L1 M1 k → w.heap.size ≤ k := ho1.new
  have hb1 : w.heap.size ≤ b1 := hnew b1 .blk
  have HO := hide ho1
  have HNEW := hide hnew
  have HB1 := hide hb1
  have hM3 := fresh_off hM1
  have HM3 := hide hM3
  clear ho1 hM1 hs1 hnew hb1 hc0 HCOPY hM hs hM3
  go_wp2_with fail
  refine (cut_calls 0 w1 b1 L1 M1 HO.out.rep).mono ?_
  rintro e w2 ⟨rfl, hd2, hf2⟩
  have HF2 := hide (HO.out.fr.trans' (S' := fun k => k = b1) hf2 (fun i hi e => by have := HB1.out; omega))
  have HD2 := hide hd2
  clear hd2 hf2
  go_wp2_with fail
  refine (fail_calls 0 0 w2 b1 L1 (M1.setCut 0) HD2.out).mono ?_
  rintro e w3 ⟨rfl, hd3, hf3⟩
  have HF3 := hide (HF2.out.trans' (S' := fun k => k = b1) hf3 (fun i hi e => by have := HB1.out; omega))
  have hnew3 : ∀ k, Foot b1 L1 ((M1.setCut 0).setFail 0 0) k → w.heap.size ≤ k := HNEW.out
  generalize (M1.setCut 0).setFail 0 0 = M3 at hd3 hnew3 HM3
  have HD3 := hide hd3
  have HN3 := hide hnew3
  have hc3 := HCW.out w3 HF3.out
  simp only [WM.cells] at hc3
  clear hd3 hf3 hnew3 HO HD2 HNEW
  cases hcfg : configOk W.node 1000 0 with
  | false =>
    have HOP := hide (fun wx => open_bad b1 W.node 1000 0 hcfg wx)
    clear hcfg
    go_wp2_with fail
    refine (HOP.out _).mono ?_
    rintro e w4 ⟨rfl, hf4⟩
    have HF4 := hide (HF3.out.trans hf4)
    clear hf4 hc3
    go_wp2_with fail
    exact bodyPost_end (v := .tuple #[]) (by simp [results, go_sem]) rfl ⟨rfl, HF4.out⟩
  | true =>
    obtain ⟨n, hn, hn4⟩ : ∃ n : Nat, W.node = n ∧ n < 4 := by
      unfold configOk nodeOk at hcfg
      simp only [Bool.and_eq_true, decide_eq_true_eq] at hcfg
      exact ⟨W.node.toNat, by omega, by omega⟩
    rw [hn] at hc3 hcfg
    have HOP := hide (open_none b1 L1 M3 n 1000 0 hcfg w3 HD3.out HM3.out.dir)
    have HCN : Hid (∀ wx, Fr Nil w wx → wx.cell? ⟨L.wb, 0, none⟩ = some (.int .i64 n)) := fun wx f => by rw [HCW.out wx f]; simp only [WM.cells, hn]; rfl
    clear hcfg hn
    go_wp2_with fail
    refine HOP.out.mono ?_
    rintro e w4 ⟨X4, rfl, hr4, hdb, hLD, hfoot, hf4⟩
    have F4 := HF3.out.trans hf4
    have hfoot4 : ∀ k, NFoot X4 M3 k → w.heap.size ≤ k := fun k hk => (hfoot k hk).elim (HN3.out k) (fun e => Nat.le_trans HF3.out.size e)
    have he4 : EnvN B X4 M3 w4 := ⟨HTAB.out.fr HBW.out F4 (fun _ e => absurd e id), Nat.le_trans HBW.out F4.size, fun k hk => Nat.le_trans HBW.out (hfoot4 k hk)⟩
    have hinv := NInv.begins HM3.out n 1000 0 0 0 0 0 (Nat.zero_le _)
    have hids4 : ∀ g ∈ M3.ids, g < w4.heap.size := fun g hg => (hr4.disk.files g hg).lt
    have hput := hinv.put (H0 := w4.heap.size) (by omega) hn4 hids4 textA textTrial (by decide) (by decide)
    have HPUT := hide (put_calls herr B X4 (NM.fresh n 1000 0) M3 textA textTrial w4 hr4 he4 (fun u hu => by cases hu) (fun _ _ => hput.1 _ (Nat.le_refl _)))
    have HPL := hide hput.2
    have HF4 := hide F4
    have HE4 := hide he4
    have HFT4 := hide hfoot4
    clear hc3 hr4 hdb hLD hfoot hf4 F4 hfoot4 he4 hinv hids4 hput
    unfold textA textTrial at HPUT
    go_wp2_with fail
    refine HPUT.out.mono ?_
    rintro e w5 ⟨f, g, X5, rfl, hf5, hg5, hap5, hs5⟩
    obtain ⟨-, -, -, -, hinv5⟩ := HPL.out f g hf5 hg5 hap5
    unfold textA textTrial at hinv5
    generalize (({ WM.begins n 0 0 0 0 with calls := (WM.begins n 0 0 0 0).calls + 1, most := ((NM.fresh n 1000 0).put M3 { data := #[97] } { data := #[97, 32, 116, 114, 105, 97, 108] } f g).1 } : WM).took _) = W5 at hinv5
    generalize ((NM.fresh n 1000 0).put M3 { data := #[97] } { data := #[97, 32, 116, 114, 105, 97, 108] } f g).2.2.1 = N5 at hs5 hinv5
    generalize ((NM.fresh n 1000 0).put M3 { data := #[97] } { data := #[97, 32, 116, 114, 105, 97, 108] } f g).2.2.2 = M5 at hs5 hinv5
    have F5 := HF4.out.trans' (S' := NFoot X4 M3) hs5.fr (fun i hi e => by have := HFT4.out i e; omega)
    have hfoot5 : ∀ k, NFoot X5 M5 k → w.heap.size ≤ k := fun k hk => (hs5.foot k hk).elim (HFT4.out k) (fun e => Nat.le_trans HF4.out.size e)
    have he5 : EnvN B X5 M5 w5 := HE4.out.step hs5
    have hnb5 := hs5.same.nb
    have HHINT := hide (hint_calls herr B X5 N5 M5 (((n : Int) + 1) % 4) textTrial w5 hs5.rep he5 (fun h1 h2 => hinv5.fitH (H0 := w5.heap.size) (by omega) (fun g hg => (hs5.rep.disk.files g hg).lt) _ _ _ (Nat.le_refl _) h1 h2))
    unfold textTrial at HHINT
    rw [hnb5] at HHINT
    have hcn := HCN.out w5 F5
    have hw1 : IntKind.i64.wrap ((n : Int) + 1) = (n : Int) + 1 := by rw [IntKind.wrap_i64]; omega
    have HF5 := hide F5
    have HE5 := hide he5
    have HFT5 := hide hfoot5
    have HNB5 := hide hnb5
    clear hs5 hinv5 F5 hfoot5 he5 HPL HPUT HOP hf5 hg5 hap5 hnb5
    go_wp2_with fail
    refine HHINT.out.mono ?_
    rintro e w6 ⟨f6, X6, rfl, hf6, hs6⟩
    generalize (N5.hint M5 _ _ f6).2.1 = N6 at hs6
    generalize (N5.hint M5 _ _ f6).2.2 = M6 at hs6
    have F6 := HF5.out.trans' (S' := NFoot X5 M5) hs6.fr (fun i hi e => by have := HFT5.out i e; omega)
    have hfoot6 : ∀ k, NFoot X6 M6 k → w.heap.size ≤ k := fun k hk => (hs6.foot k hk).elim (HFT5.out k) (fun e => Nat.le_trans HF5.out.size e)
    have HSYNC := hide (syncCall_calls herr B X6 N6 M6 w6 hs6.rep (HE5.out.step hs6))
    rw [hs6.same.nb, HNB5.out] at HSYNC
    have HF6 := hide F6
    have HFT6 := hide hfoot6
    clear hs6 F6 hfoot6 hcn
    go_wp2_with fail
    refine HSYNC.out.mono ?_
    rintro e w7 ⟨X7, rfl, hs7⟩
    have HF7 := hide (HF6.out.trans' (S' := NFoot X6 M6) hs7.fr (fun i hi e => by have := HFT6.out i e; omega))
    clear hs7
    go_wp2_with fail
    exact bodyPost_end (v := .tuple #[]) (by simp [results, go_sem]) rfl ⟨rfl, HF7.out⟩
def textK : ByteArray := { data := #[107] }
def textV : ByteArray := { data := #[118] }
theorem Fresh.new {T : Nat} {room : Int} (h : 2000 * (T : Int) ≤ room ∧ room ≤ 1152921504606846976 ∧ T ≤ 100000000) : Fresh T (DM.new room) := ⟨rfl, rfl, rfl, rfl, rfl, rfl, rfl, rfl, h⟩
theorem versM_put (m : LM) (hk : m.keys = []) (key text : ByteArray) (n : Int) : versM (m.put key text n).keys key = [⟨m.node, n, 0, 0, 0, 0, text, false⟩] := by
  have e : (m.put key text n).keys = [(key, [m.putV key text n])] := by
    unfold LM.put withM
    simp only [hk, List.foldl_nil]
    rfl
  rw [e]
  have e2 : m.putV key text n = ⟨m.node, n, 0, 0, 0, 0, text, false⟩ := by
    unfold LM.putV
    rw [hk]
    rfl
  rw [e2]
  unfold versM
  rw [List.find?_cons_of_pos (by simp [eqB_iff])]
set_option maxHeartbeats 3200000 in
theorem awake_calls (herr : ErrnoSaid) (B : Nat) (w : World) (htab : TabAt B w) (hB : B ≤ w.heap.size) :
    Calls Tryz.prog 15 #[] w fun e w' => e = .returned (.bool true) ∧ Fr Nil w w' := by
  have HTAB := hide htab
  have HBW := hide hB
  clear htab hB
  go_enter Tryz.func15, Tryz.ntmps15
  go_wp2_with fail
  refine (new_calls 100000 w).mono ?_
  rintro e w1 ⟨rfl, hd1, hf1, hsz1⟩
  have HM : Hid (Fresh 45 (DM.new 100000)) := Fresh.new ⟨by decide, by decide, by decide⟩
  generalize DM.new 100000 = M1 at hd1 HM
  have HOP := hide (open_none w.heap.size DL.new M1 2 1000 0 (by decide) w1 hd1 HM.out.dir)
  have HLOW : Hid (∀ k, Foot w.heap.size DL.new M1 k → w.heap.size ≤ k) := fun k hk => by
    cases hk using Foot.elim with
    | blk => exact Nat.le_refl _
    | dir h => simp [DL.new, Value.ownBlock] at h
    | safe h => simp [DL.new, Value.ownBlock] at h
    | ch h => simp [DL.new, Value.ownBlock] at h
    | chs i h1 h => simp [DL.new] at h1
    | file h => rw [HM.out.ids] at h; cases h
    | row f hf h => rw [HM.out.ids] at hf; cases hf
  have HF1 := hide hf1
  clear hd1 hf1 hsz1
  go_wp2_with fail
  refine HOP.out.mono ?_
  rintro e w4 ⟨X4, rfl, hr4, hdb, hLD, hfoot, hf4⟩
  have F4 := HF1.out.trans hf4
  have hfoot4 : ∀ k, NFoot X4 M1 k → w.heap.size ≤ k := fun k hk => (hfoot k hk).elim (HLOW.out k) (fun e => Nat.le_trans HF1.out.size e)
  have he4 : EnvN B X4 M1 w4 := ⟨HTAB.out.fr HBW.out F4 (fun _ e => absurd e id), Nat.le_trans HBW.out F4.size, fun k hk => Nat.le_trans HBW.out (hfoot4 k hk)⟩
  have hinv := NInv.begins HM.out 2 1000 0 0 0 0 0 (Nat.zero_le _)
  have hids4 : ∀ g ∈ M1.ids, g < w4.heap.size := fun g hg => (hr4.disk.files g hg).lt
  have hput := hinv.put (H0 := w4.heap.size) (by omega) (by show 2 < 4; omega) hids4 textK textV (by decide) (by decide)
  have HPUT := hide (put_calls herr B X4 (NM.fresh 2 1000 0) M1 textK textV w4 hr4 he4 (fun u hu => by cases hu) (fun _ _ => hput.1 _ (Nat.le_refl _)))
  have HPL := hide hput.2
  have HF4 := hide F4
  have HFT4 := hide hfoot4
  clear hr4 hdb hLD hfoot hf4 F4 hfoot4 he4 hinv hids4 hput
  unfold textK textV at HPUT
  go_wp2_with fail
  refine HPUT.out.mono ?_
  rintro e w5 ⟨f, g, X5, rfl, hf5, hg5, hap5, hs5⟩
  obtain ⟨h1, -, h2, h3, hinv5⟩ := HPL.out f g hf5 hg5 hap5
  have hver5 := hinv5.ver textK
  rw [versM_put _ rfl] at hver5
  unfold textK textV at hinv5 hver5 h1 h2 h3
  obtain ⟨n, hn⟩ : ∃ n, n = ((NM.fresh 2 1000 0).put M1 { data := #[107] } { data := #[118] } f g).1 := ⟨_, rfl⟩
  rw [← hn] at h2 h3 hver5 ⊢
  rw [h1]
  have hnk := hinv5.nk
  generalize ((NM.fresh 2 1000 0).put M1 { data := #[107] } { data := #[118] } f g).2.2.1 = N5 at hs5 hver5 hnk
  generalize ((NM.fresh 2 1000 0).put M1 { data := #[107] } { data := #[118] } f g).2.2.2 = M5 at hs5
  have F5 := HF4.out.trans' (S' := NFoot X4 M1) hs5.fr (fun i hi e => by have := HFT4.out i e; omega)
  have HGET := hide (get_calls X5 N5 M5 { data := #[107] } w5 hs5.rep (by omega) (by rw [← hver5]; simp))
  rw [hs5.same.nb, show keyOk { data := #[107] } = true from by decide] at HGET
  simp only [if_true] at HGET
  rw [← hver5] at HGET
  have HF5 := hide F5
  have hn1 : (1 : Int) ≤ (n : Int) := by have h2' : (0 : Nat) < n := h2; omega
  have hn2 : (n : Int) ≤ 32 := by have h3' : n ≤ 16 * (0 + 1) := h3; omega
  have hnn : ((n : Int) == n) = true := by simp
  clear hs5 hinv5 F5 HPL HPUT HOP hf5 hg5 hap5 h1 h2 h3 hver5 hn hnk
  go_wp2_with fail
  refine HGET.out.mono ?_
  rintro e w6 ⟨v6, rfl, hv6, hf6, hn6⟩
  obtain ⟨g6, c6, rfl, _, _⟩ := own_some hv6 (by simp)
  have hc := VRow.cells hv6 0 (by simp)
  have c0 := hc 0 (by omega)
  have c1 := hc 1 (by omega)
  have c6' := hc 6 (by omega)
  simp only [Ver.cells, List.getElem_cons_zero, Nat.zero_mul, Nat.zero_add] at c0 c1 c6'
  have HF6 := hide (HF5.out.trans hf6)
  clear hv6 hf6 hn6 hc
  simp only [List.length_singleton]
  go_wp2_with fail
  go_ret
  exact ⟨rfl, HF6.out⟩
end Go.Proofs.YtkhnggkkiefcdaaGreatDoor
