/-
  larder: writes_holds: the texts BooA, AllI, OpnA, OpnB, OpnC, PlnE, DiskN, DiskO, OwnA, joined; 
-/
import Derived.Test.YtkhnggkkiefcdaaGreatDoorWAO
import Derived.RangeFuncNested
import Derived.RangeFuncBound
import Derived.RangeFuncCalls
import Derived.RangeFuncLeaves
import Derived.Shelf.Abstract
import Derived.Shelf.RegionOpen
import Derived.WalkKit
import Derived.OwnWalkIn
import Derived.TacticsInMore
import Derived.LoopNIn
import Derived.LoopIn
import Derived.Deep.RegionLaw
import Derived.LaidEqlPtr
namespace Go.Proofs.YtkhnggkkiefcdaaGreatDoor
open Go.RowKit
set_option maxRecDepth 100000
structure Booked (B B' : BK) : Prop where
  vs : B'.vs.length ≤ B.vs.length + 4
  vm : B'.vm.length ≤ B.vm.length + 4
  ns : B'.ns.length ≤ B.ns.length + 4
  nm : B'.nm.length ≤ B.nm.length + 4
  hs : B'.hs.length ≤ B.hs.length + 4
  hm : B'.hm.length ≤ B.hm.length + 4
structure BSmall (B : BK) : Prop where
  vs : B.vs.length < 100000000
  vm : B.vm.length < 100000000
  ns : B.ns.length < 100000000
  nm : B.nm.length < 100000000
  hs : B.hs.length < 100000000
  hm : B.hm.length < 100000000
def WM.booked (W : WM) (bk : BK) : WM := { W with next := W.next + 1, bk := bk }
theorem set8_zero (a : Ver) (t : List Value) (x : Ver) : ((((((((a.cells ++ t).set 0 (.int .i64 x.node)).set 1 (.int .i64 x.seq)).set 2 (.int .i64 x.o0)).set 3 (.int .i64 x.o1)).set 4 (.int .i64 x.o2)).set 5 (.int .i64 x.o3)).set 6 (.string x.value)).set 7 (.bool x.gone) = x.cells ++ t := by
  simp [Ver.cells]
theorem set_shift (a : Ver) (t : List Value) (k : Nat) (u : Value) : (a.cells ++ t).set (k + 8) u = a.cells ++ t.set k u := by
  rw [List.set_append_right _ _ (by rw [Ver.cells_length]; omega), Ver.cells_length, Nat.add_sub_cancel]
theorem flatV_set (x : Ver) : ∀ (l : List Ver) (i : Nat), i < l.length → ((((((((flatV l).set (i * 8) (.int .i64 x.node)).set (i * 8 + 1) (.int .i64 x.seq)).set (i * 8 + 2) (.int .i64 x.o0)).set (i * 8 + 3) (.int .i64 x.o1)).set (i * 8 + 4) (.int .i64 x.o2)).set (i * 8 + 5) (.int .i64 x.o3)).set (i * 8 + 6) (.string x.value)).set (i * 8 + 7) (.bool x.gone) = flatV (l.set i x)
  | [], i, h => absurd h (Nat.not_lt_zero _)
  | a :: l, 0, _ => by
    have e : ∀ b : Ver, flatV (b :: l) = b.cells ++ flatV l := fun b => rfl
    rw [e, Nat.zero_mul]
    simp only [Nat.zero_add]
    rw [set8_zero]
    rfl
  | a :: l, i + 1, h => by
    have e : ∀ (b : Ver) (l : List Ver), flatV (b :: l) = b.cells ++ flatV l := fun b l => rfl
    have e0 : (i + 1) * 8 = i * 8 + 8 := by omega
    have e1 : ∀ k, i * 8 + 8 + k = i * 8 + k + 8 := by intro k; omega
    rw [e, e0]
    simp only [e1, set_shift]
    rw [flatV_set x l i (by simpa using h)]
    rfl
theorem VRow.set8 {w : World} {g n cap : Nat} {l : List Ver} (h : VRow w (.slice (some ⟨g, 0, none⟩) n cap) l) (hn : n = l.length) (i : Nat) (hi : i < l.length) (x : Ver) :
    VRow ((((((((w.setCell ⟨g, i * 8, none⟩ (.int .i64 x.node)).setCell ⟨g, i * 8 + 1, none⟩ (.int .i64 x.seq)).setCell ⟨g, i * 8 + 2, none⟩ (.int .i64 x.o0)).setCell ⟨g, i * 8 + 3, none⟩ (.int .i64 x.o1)).setCell ⟨g, i * 8 + 4, none⟩ (.int .i64 x.o2)).setCell ⟨g, i * 8 + 5, none⟩ (.int .i64 x.o3)).setCell ⟨g, i * 8 + 6, none⟩ (.string x.value)).setCell ⟨g, i * 8 + 7, none⟩ (.bool x.gone))
      (.slice (some ⟨g, 0, none⟩) n cap) (l.set i x) := by
  subst hn
  unfold VRow at h ⊢
  rw [← flatV_set x l i hi, List.length_set]
  exact own_set (own_set (own_set (own_set (own_set (own_set (own_set (own_set h _ _) _ _) _ _) _ _) _ _) _ _) _ _) _ _
structure BookV (K : Nat → Prop) (L : WL) (W : WM) (w0 : World) (n xb m i : Nat) (lv : Value) (w' : World) : Prop where
  ex : ∃ l' L' bk', VRow w' lv l' ∧ (∀ k, lv.ownBlock = some k → w0.heap.size ≤ k) ∧ l'.length = n + i ∧ WStep K L w0 L' (W.booked bk') w' ∧ bk'.vs.length = W.bk.vs.length + i ∧ bk'.vm.length = W.bk.vm.length + i ∧ bk'.ns = W.bk.ns ∧ bk'.nm = W.bk.nm ∧ bk'.hs = W.bk.hs ∧ bk'.hm = W.bk.hm ∧ L'.ps = L.ps
  box : Blk w' xb (markV m).cells 37
  low : w0.heap.size ≤ xb
  notBox : ¬ lv.ownBlock = some xb
theorem WAt.notV {K : Nat → Prop} {w : World} {L : WL} {W : WM} (h : WAt K w L W) {v : Value} {l : List Ver} (hv : VRow w v l) : ∀ k, WFoot L k → ¬ v.ownBlock = some k := fun k hk e => by
  obtain ⟨t, ht, hd⟩ := h.ty hk
  have := ht.inj (own_ty hv e)
  subst this
  unfold WTy at hd
  rcases hd with e | e | e | e | e | e <;> exact absurd e (by decide)
theorem WAt.low {K : Nat → Prop} {w : World} {L : WL} {W : WM} (h : WAt K w L W) : ∀ k, K k → k < w.heap.size := fun k e => (h.keep k e).1
theorem Blk.newAt (w : World) (c : List Value) (t : TypeId) (N : Nat) (hN : N = w.heap.size) : Blk (w.alloc (.cells c.toArray t)) N c t := by subst hN; exact Blk.new w c t
theorem arm_vs {K : Nat → Prop} {L1 : WL} {W1 : WM} {wr w4 : World} {v4 x : Value} {n : Nat} (h : WAt K wr L1 W1) (hn : n = W1.bk.vs.length + 1) (ho : w4.ownsRow 0 61 1 v4 n (W1.bk.vs ++ [x])) (hf : Fr (fun k => L1.vs.ownBlock = some k) wr w4) (hn4 : ∀ k, v4.ownBlock = some k → L1.vs.ownBlock = some k ∨ wr.heap.size ≤ k) :
    WStep K L1 wr { L1 with vs := v4 } { W1 with bk := { W1.bk with vs := W1.bk.vs ++ [x] } } (w4.setCell ⟨L1.wb, 17, none⟩ v4) :=
  WStep.vs h (by rw [List.length_append, List.length_singleton, ← hn]; exact ho) hf hn4
theorem marksB_snoc (l : List Nat) (m : Nat) : marksB (l ++ [m]) = marksB l ++ [.int .i64 m] := by simp [marksB]
theorem arm_vm {K : Nat → Prop} {L1 : WL} {W1 : WM} {wr w4 : World} {v4 : Value} {m n : Nat} (h : WAt K wr L1 W1) (hn : n = W1.bk.vm.length + 1) (ho : w4.ownsRow 0 3 1 v4 n (marksB W1.bk.vm ++ [.int .i64 m])) (hf : Fr (fun k => L1.vm.ownBlock = some k) wr w4) (hn4 : ∀ k, v4.ownBlock = some k → L1.vm.ownBlock = some k ∨ wr.heap.size ≤ k) :
    WStep K L1 wr { L1 with vm := v4 } { W1 with bk := { W1.bk with vm := W1.bk.vm ++ [m] } } (w4.setCell ⟨L1.wb, 18, none⟩ v4) :=
  WStep.vm h (by rw [List.length_append, List.length_singleton, ← hn, marksB_snoc]; exact ho) hf hn4
theorem WAt.notB {K : Nat → Prop} {w : World} {L : WL} {W : WM} (h : WAt K w L W) {b : Nat} {c : List Value} {t : TypeId} (hb : Blk w b c t) (ht : ¬ WTy t) : ¬ WFoot L b := fun hk => by
  obtain ⟨u, hu, hd⟩ := h.ty hk
  have := hu.inj hb.ty
  subst this
  exact ht hd
theorem notWV : ¬ WTy 37 := by
  intro hd
  unfold WTy at hd
  rcases hd with e | e | e | e | e | e <;> exact absurd e (by decide)
set_option maxHeartbeats 3200000 in
theorem bookV_calls (K : Nat → Prop) (L : WL) (W : WM) (lv : Value) (l : List Ver) (w0 w : World) (h0 : WAt K w0 L W) (f0 : Fr Nil w0 w) (hl : VRow w lv l) (hnew : ∀ k, lv.ownBlock = some k → w0.heap.size ≤ k) (hn : l.length < 100000) (hb : W.base < 100000000) (hx : W.next < 100000000) (hs : BSmall W.bk) :
    Calls Tryz.prog 119 #[.pointer (some ⟨L.wb, 15, none⟩), lv] w fun e w' => e = .returned (.tuple #[]) ∧ ∃ L' bk', WStep K L w0 L' (W.booked bk') w' ∧ Booked W.bk bk' ∧ L'.ps = L.ps := by
  have HM := hide (mark_calls K L W w (h0.nil f0) hb hx)
  have H0 := hide h0
  have F0 := hide f0
  have HL := hide hl
  have HN := hide hnew
  have HLT : Hid (∀ k, lv.ownBlock = some k → k < w.heap.size) := fun k e => own_lt hl e
  have HSM := hide hs
  obtain ⟨la, lc, rfl⟩ := own_form hl
  have HLEN := hide hn
  clear h0 f0 hl hnew
  obtain ⟨m, hm⟩ : ∃ m, m = W.base + W.next + 1 := ⟨_, rfl⟩
  have hml : m < 1000000000000 := by omega
  rw [← hm] at HM
  clear hm hb hx hs
  go_enter Tryz.func119, Tryz.ntmps119
  go_wp2_with fail
  refine HM.out.mono ?_
  rintro e w1 ⟨rfl, hs1⟩
  have HS1 := hide hs1
  clear hs1
  go_wp2_with fail
  refine (word_calls m w1 hml).mono ?_
  rintro e w2 ⟨rfl, f2⟩
  go_wp2_with fail
  have hbx : Blk (w2.alloc (.cells (markV m).cells.toArray 37)) w2.heap.size (markV m).cells 37 := Blk.new w2 (markV m).cells _
  have f3 : Fr Nil w1 (w2.alloc (.cells (markV m).cells.toArray 37)) := f2.alloc _
  have hlt2 : w.heap.size ≤ w2.heap.size := Nat.le_trans HS1.out.fr.size f2.size
  simp only [markV, Ver.cells] at hbx f3
  generalize w2.alloc (.cells #[.int .i64 m, .int .i64 m, .int .i64 0, .int .i64 0, .int .i64 0, .int .i64 0, .string (wordB m), .bool true] 37) = w3 at hbx f3 ⊢
  generalize w2.heap.size = xb at hbx hlt2 ⊢
  have HBX := hide hbx
  have HX0 : Hid (w0.heap.size ≤ xb) := Nat.le_trans F0.out.size hlt2
  have HNB : Hid (¬ (Value.slice la l.length lc).ownBlock = some xb) := fun e => by have := HLT.out xb e; omega
  have HS3 : Hid (WStep K L w0 L (W.booked W.bk) w3) := (WStep.nil H0.out F0.out).trans (HS1.out.trans (WStep.nil HS1.out.rep f3))
  have HV3 : Hid (VRow w3 (.slice la l.length lc) l) := own_fr (own_fr HL.out HS1.out.fr (fun k e hk => (H0.out.nil F0.out).notV HL.out k hk e)) f3 (fun _ _ => id)
  generalize hnn : l.length = n at HV3 HN HLEN HNB ⊢
  have HNN := hide hnn
  have hn : n < 100000 := HLEN.out
  clear hbx f3 f2 hlt2 HS1 HL HM hnn HLT hml
  go_loopw [6] (fun t6 w' => ∃ i : Nat, ∃ l' : List Ver, i ≤ n ∧ t6 = .int .i64 i ∧ l'.length = n ∧ VRow w' (.slice la n lc) l' ∧ Fr (fun k => (Value.slice la n lc).ownBlock = some k) w3 w') (fun t6 _ => n - (intOf t6).toNat)
  case atStart => exact ⟨0, l, Nat.zero_le _, rfl, HNN.out, HV3.out, Fr.refl _ _⟩
  case round =>
    obtain ⟨i, l', hi, rfl, hl', hv, hf⟩ := hrel
    have HV := hide hv
    have HF := hide hf
    have HL' := hide hl'
    by_cases hlt : i < n
    · obtain ⟨g, rfl⟩ : ∃ g, la = some ⟨g, 0, none⟩ := by
        obtain ⟨g, cap, e, _⟩ := own_some hv (by omega)
        simp at e; exact ⟨g, e.1⟩
      have hx := (HBX.out.fr hf HNB.out).cell
      have hv' := hv
      unfold VRow at hv'
      rw [hl'] at hv'
      have hz : ∀ k, wr.frozen? ⟨g, k, none⟩ = false := fun k => own_frozen hv' k
      have hc := VRow.cells hv' i (by rw [hl']; exact hlt)
      obtain ⟨x, hxx⟩ : ∃ x, x = l'[i]'(by rw [hl']; exact hlt) := ⟨_, rfl⟩
      have g0 := hc 0 (by omega)
      have g1 := hc 1 (by omega)
      have g2 := hc 2 (by omega)
      have g3 := hc 3 (by omega)
      have g4 := hc 4 (by omega)
      have g5 := hc 5 (by omega)
      have g6 := hc 6 (by omega)
      have g7 := hc 7 (by omega)
      rw [← hxx] at g0 g1 g2 g3 g4 g5 g6 g7
      simp only [Ver.cells, Nat.add_zero] at g0 g1 g2 g3 g4 g5 g6 g7
      clear hv hv' hf hl' hc hxx
      go_wp2_with fail
      have hset := HV.out.set8 HL'.out.symm i (by rw [HL'.out]; exact hlt) (markV m)
      refine ⟨⟨i + 1, l'.set i (markV m), by omega, by push_cast; rfl, by rw [List.length_set]; exact HL'.out, hset, ?_⟩, by simp [intOf]; omega⟩
      have hF := HF.out
      exact (by repeat' first | (with_reducible first | exact Fr.refl _ _ | assumption | refine Fr.drewN ?_ _ | refine Fr.drew ?_ | refine Fr.alloc ?_ _ | refine Fr.set ?_ ?_ _) | (intro _; rfl))
    · have hin : i = n := by omega
      subst hin
      have HS4 := hide (HS3.out.far HF.out HN.out (fun k hk e => HS3.out.rep.notV HV3.out k hk e) H0.out.low)
      have HB4 := hide (BookV.mk (i := 0) (n := i) (m := m) ⟨l', L, W.bk, HV.out, HN.out, HL'.out, HS4.out, rfl, rfl, rfl, rfl, rfl, rfl, rfl⟩ (HBX.out.fr HF.out HNB.out) HX0.out HNB.out)
      clear hv hf hl'
      go_wp2_with fail
      clear HS4 HV HF HL' HV3 HBX HNB HS3 HN HX0 HLEN HNN hi hlt
      go_loopw [1, 7] (fun t1 t7 w' => ∃ j : Nat, j ≤ 4 ∧ t7 = .int .i64 j ∧ BookV K L W w0 i xb m j t1 w') (fun _ t7 _ => 4 - (intOf t7).toNat)
      case atStart => exact ⟨0, by omega, rfl, HB4.out⟩
      case round =>
        obtain ⟨j, hj, rfl, hbk⟩ := hrel
        have HBK := hide hbk
        by_cases hlt : j < 4
        · obtain ⟨⟨l1, L1, bk1, hv1, hn1, hl1, hs1, e1, e2, e3, e4, e5, e6, e7⟩, hbx1, _, _⟩ := hbk
          have HV1 := hide hv1
          have HN1 := hide hn1
          have HL1 := hide hl1
          have HS1 := hide hs1
          have HE := hide (And.intro e1 (And.intro e2 (And.intro e3 (And.intro e4 (And.intro e5 (And.intro e6 e7))))))
          have HBX1 := hide hbx1
          have hl1' : l1.length < 1000000 := by omega
          unfold VRow at hv1
          rw [hl1] at hv1
          obtain ⟨a1, c1, rfl⟩ := own_form hv1
          have hwb := hs1.wb
          have hb0 := hs1.rep.blk
          rw [hwb] at hb0
          obtain ⟨va, vc, hvs⟩ : ∃ va vc, L1.vs = .slice va bk1.vs.length vc := own_form hs1.rep.book.vs
          obtain ⟨ma, mc, hvm⟩ : ∃ ma mc, L1.vm = .slice ma bk1.vm.length mc := own_form hs1.rep.book.vm
          have hvsl : bk1.vs.length < 1000000000 := by have := HSM.out.vs; omega
          have hvml : bk1.vm.length < 1000000000 := by have := HSM.out.vm; omega
          have hc := hb0.cell
          simp only [WM.cells, WM.booked, hvs, hvm] at hc
          have hx1 := hbx1.cell
          simp only [markV, Ver.cells] at hx1
          have HROW := hide hs1.rep.book.vs
          have HWB := hide hwb
          have HVS := hide hvs
          have HVM := hide hvm
          rw [hvs] at HROW
          have HB4' : Hid (∀ w4 : World, Fr (fun k => (Value.slice va bk1.vs.length vc).ownBlock = some k) wr w4 → Blk w4 L.wb ((W.booked bk1).cells L1) 49) := fun w4 f => hb0.fr f (own_ne HROW.out hb0 (by decide))
          have HST1 : Hid (∀ (v4 : Value) (w4 : World) (n : Nat), n = bk1.vs.length + 1 → w4.ownsRow 0 61 1 v4 n (bk1.vs ++ [.slice a1 (i + j) c1]) → Fr (fun k => (Value.slice va bk1.vs.length vc).ownBlock = some k) wr w4 → (∀ k, v4.ownBlock = some k → (Value.slice va bk1.vs.length vc).ownBlock = some k ∨ wr.heap.size ≤ k) →
              WStep K L1 wr { L1 with vs := v4 } (W.booked { bk1 with vs := bk1.vs ++ [.slice a1 (i + j) c1] }) (w4.setCell ⟨L.wb, 17, none⟩ v4)) := fun v4 w4 n e ho hf hn => by rw [← hwb]; rw [← hvs] at hf hn; exact arm_vs HS1.out.rep e ho hf hn
          clear hv1 hn1 hl1 hs1 e1 e2 e3 e4 e5 e6 e7 hbx1 hwb hvs hvm hb0
          go_wp2_with (at_builtin; (first
            | (refine wpList_app rfl _ _ _ _ rfl _ _ (by rfl) (by rfl) (app_ver _ _ l1 HV7.out (markV m) hl1' _ (by repeat' first | (with_reducible first | exact Fr.refl _ _ | assumption | refine Fr.drewN ?_ _ | refine Fr.drew ?_ | refine Fr.alloc ?_ _ | refine Fr.set ?_ ?_ _) | (intro _; rfl)) _ (by exact Blk.newAt _ (markV m).cells _ _ (by simp [World.setCell])) _) ?_; rintro v8 w8 ⟨ho8, hf8, hn8⟩)
            | (refine wpList_app rfl _ _ _ _ rfl _ _ (by rfl) (by rfl) (app_one Tryz.underlying26 infoInt (by decide) _ _ _ _ HROW2.out (.int .i64 m) rfl hvml _ (by repeat' first | (with_reducible first | exact Fr.refl _ _ | assumption | refine Fr.drewN ?_ _ | refine Fr.drew ?_ | refine Fr.alloc ?_ _ | refine Fr.set ?_ ?_ _) | (intro _; rfl)) _ (by exact Blk.newAt _ [_] _ _ (by simp [World.setCell])) _) ?_; rintro v6 w6 ⟨ho6, hf6, hn6⟩; have hb6 := HB5.out _ hf6; have hc6 := hb6.cell; simp only [WM.cells, WM.booked] at hc6; have hz6 := hb6.frozen; have HS7 := hide (HST2.out _ _ _ rfl ho6 hf6 hn6); have HV7 : Hid (VRow _ (.slice a1 (i + j) c1) l1) := own_fr HV5.out HS7.out.fr (fun k e hk => HS5.out.rep.notV HV5.out k hk e); have HBX7 := hide (HBX5.out.fr HS7.out.fr (HS5.out.rep.notB HBX5.out notWV)); have hx7 := HBX7.out.cell; simp only [markV, Ver.cells] at hx7; obtain ⟨va6, vc6, rfl⟩ := own_form ho6)
            | (refine wpList_app rfl _ _ _ _ rfl _ _ (by rfl) (by rfl) (app_one Tryz.underlying43 infoVS (by decide) wr _ _ _ HROW.out (.slice a1 (i + j) c1) rfl hvsl _ (by repeat' first | (with_reducible first | exact Fr.refl _ _ | assumption | refine Fr.drewN ?_ _ | refine Fr.drew ?_ | refine Fr.alloc ?_ _ | refine Fr.set ?_ ?_ _) | (intro _; rfl)) _ (by exact Blk.new _ [_] _) _) ?_; rintro v4 w4 ⟨ho4, hf4, hn4⟩; have hb4 := HB4'.out _ hf4; have hc4 := hb4.cell; simp only [WM.cells, WM.booked, HVM.out] at hc4; have hz4 := hb4.frozen; have HS5 := hide (HST1.out _ _ _ rfl ho4 hf4 hn4); have HV5 : Hid (VRow _ (.slice a1 (i + j) c1) l1) := own_fr HV1.out HS5.out.fr (fun k e hk => HS1.out.rep.notV HV1.out k hk e); have HBX5 := hide (HBX1.out.fr HS5.out.fr (HS1.out.rep.notB HBX1.out notWV)); have HROW2 := hide HS5.out.rep.book.vm; rw [show ({ L1 with vs := v4 } : WL).vm = .slice ma bk1.vm.length mc from HVM.out] at HROW2; have HB5 : Hid (∀ w6 : World, Fr (fun k => (Value.slice ma bk1.vm.length mc).ownBlock = some k) _ w6 → Blk w6 L.wb ((W.booked { bk1 with vs := bk1.vs ++ [.slice a1 (i + j) c1] }).cells { L1 with vs := v4 }) 49) := (fun w6 f => by rw [← HWB.out]; exact HS5.out.rep.blk.fr f (own_ne HROW2.out HS5.out.rep.blk (by decide))); have HST2 : Hid (∀ (v6 : Value) (w6 : World) (n : Nat), n = bk1.vm.length + 1 → w6.ownsRow 0 3 1 v6 n (marksB bk1.vm ++ [.int .i64 m]) → Fr (fun k => (Value.slice ma bk1.vm.length mc).ownBlock = some k) (w4.setCell ⟨L.wb, 17, none⟩ v4) w6 → (∀ k, v6.ownBlock = some k → (Value.slice ma bk1.vm.length mc).ownBlock = some k ∨ (w4.setCell ⟨L.wb, 17, none⟩ v4).heap.size ≤ k) → WStep K { L1 with vs := v4 } (w4.setCell ⟨L.wb, 17, none⟩ v4) { L1 with vs := v4, vm := v6 } (W.booked { bk1 with vs := bk1.vs ++ [.slice a1 (i + j) c1], vm := bk1.vm ++ [m] }) (w6.setCell ⟨L.wb, 18, none⟩ v6)) := (fun v6 w6 n e ho hf hn => by rw [← HWB.out] at hf hn ⊢; rw [← HVM.out] at hf hn; have hr := HS5.out.rep; rw [← HWB.out] at hr; exact arm_vm (L1 := { L1 with vs := v4 }) (W1 := W.booked { bk1 with vs := bk1.vs ++ [.slice a1 (i + j) c1] }) (m := m) hr e ho hf hn); obtain ⟨va4, vc4, rfl⟩ := own_form ho4)))
          have hS7 := HS1.out.trans (HS5.out.trans HS7.out)
          have hS8 : WStep K L w0 _ _ w8 := hS7.far hf8 HN1.out (fun k hk e => hS7.rep.notV HV7.out k hk e) H0.out.low
          have hle : w0.heap.size ≤ (w6.setCell ⟨L.wb, 18, none⟩ _).heap.size := hS7.fr.size
          have hbx8 := HBX7.out.fr hf8 HBK.out.notBox
          obtain ⟨e1, e2, e3, e4, e5, e6, e7⟩ := HE.out
          refine ⟨⟨j + 1, by omega, by push_cast; rfl, ⟨⟨l1 ++ [markV m], _, _, ho8, fun k e => (hn8 k e).elim (HN1.out k) (fun e => Nat.le_trans hle e), by rw [List.length_append, List.length_singleton, HL1.out]; omega, hS8, ?_, ?_, e3, e4, e5, e6, e7⟩, hbx8, HBK.out.low, fun e => (hn8 xb e).elim HBK.out.notBox (fun e => by have := HBX7.out.lt; omega)⟩⟩, by simp [intOf]; omega⟩
          · simp only [List.length_append, List.length_singleton]; omega
          · simp only [List.length_append, List.length_singleton]; omega
        · have hj4 : j = 4 := by omega
          subst hj4
          obtain ⟨⟨l1, L1, bk1, hv1, hn1, hl1, hs1, e1, e2, e3, e4, e5, e6, e7⟩, _, _, _⟩ := hbk
          have HS1 := hide hs1
          have HE : Hid (Booked W.bk bk1) := ⟨by omega, by omega, by rw [e3]; omega, by rw [e4]; omega, by rw [e5]; omega, by rw [e6]; omega⟩
          have HPS := hide e7
          clear hv1 hn1 hl1 hs1 e1 e2 e3 e4 e5 e6 e7
          go_wp2_with fail
          exact bodyPost_end (v := .tuple #[]) (by simp [results, go_sem]) rfl ⟨rfl, L1, bk1, HS1.out, HE.out, HPS.out⟩
end Go.Proofs.YtkhnggkkiefcdaaGreatDoor
namespace Go.Proofs.YtkhnggkkiefcdaaGreatDoor
open Go.RowKit Go.Shelf
set_option maxRecDepth 100000
attribute [local go_sem] Oper.semAt_some
def flatI (l : List (Nat × ByteArray)) : List Value := l.flatMap fun e => [.int .i64 e.1, .string e.2]
theorem flatI_get (d : List (Nat × ByteArray)) : ∀ (k : Nat) (h : k < d.length), (flatI d)[k * 2]? = some (.int .i64 d[k].1) ∧ (flatI d)[k * 2 + 1]? = some (.string d[k].2) := by
  induction d with
  | nil => intro k h; simp at h
  | cons e d ih =>
    intro k h
    cases k with
    | zero => exact ⟨rfl, rfl⟩
    | succ k =>
      have := ih k (by simpa using h)
      have e1 : (k + 1) * 2 = k * 2 + 2 := by omega
      simp only [flatI, List.flatMap_cons, e1] at this ⊢
      exact this
theorem allI_calls (mb : Nat) (w : World) :
    Calls Tryz.prog 146 #[.pointer (some ⟨mb, 0, none⟩)] w fun e w' =>
      e = .returned (.func (.func 187) #[] #[.pointer (some ⟨w.heap.size, 0, none⟩)]) ∧ w' = w.alloc (.cells #[.pointer (some ⟨mb, 0, none⟩)] 211) := by
  go_enter Tryz.func146, Tryz.ntmps146
  go_wp2
  go_ret
  exact ⟨rfl, rfl⟩
set_option maxHeartbeats 2000000 in
theorem allI1_in (F : Fence) (n : Nat) (hF : F.fn 187) (hro : F.round = none) (hn : 1 ≤ n) (l Bs mb : Nat) (v : Value) (es : List (Nat × ByteArray)) (X : Nat → Prop) (J Jx : List (Nat × ByteArray) → World → Prop)
    (W : World) (hl : es.length < 4611686018427387904)
    (hJ : AbidesFrom W.heap.size J) (hX : ∀ k, X k → k < W.heap.size) (hXv : ∀ k, v.ownBlock = some k → X k)
    (hY : ∀ pre x W1, J pre W1 → pre.length < es.length → YieldAt F (n - 1) Tryz.prog l #[.int .i64 x.1, .string x.2] W1 fun e W' =>
      (e = .returned (.bool true) ∧ J (pre ++ [x]) W' ∧ KeepX X W1 W' ∧ W1.heap.size ≤ W'.heap.size) ∨ (e = .returned (.bool false) ∧ Jx (pre ++ [x]) W'))
    (hBs : W.cell? ⟨Bs, 0, none⟩ = some (.pointer (some ⟨mb, 0, none⟩))) (hmb : W.cell? ⟨mb, 0, none⟩ = some v) (hv : W.ownsRow 0 268 2 v es.length (flatI es)) (h0 : J [] W) :
    CallsIn F n Tryz.prog 187 #[.func (.yield l) #[] #[], .pointer (some ⟨Bs, 0, none⟩)] W fun e W' => (∃ r, e = .returned r) ∧
      ((∃ ys, ys = es ∧ J ys W') ∨ (∃ pre, pre <+: es ∧ Jx pre W')) := by
  obtain ⟨a0, cap, rfl⟩ := own_form hv
  refine callsIn_of_wp Tryz.func187 rfl hF ?_ hro
  simp only [Tryz.ntmps187, List.size_toArray, List.length_cons, List.length_nil, Nat.reduceAdd, Nat.reduceSub, Array.replicate_succ, Array.replicate_zero, List.push_toArray, List.append_toArray, List.nil_append, List.cons_append]
  gi_wp2
  gi_loopw [10] (fun i wr => ∃ k : Nat, k ≤ es.length ∧ i = .int .i64 k ∧ J (es.take k) wr ∧ KeepX X W wr ∧ W.heap.size ≤ wr.heap.size)
    (fun i _ => es.length - (intOf i).toNat)
  case atStart => exact ⟨0, Nat.zero_le _, rfl, by simpa using h0, KeepX.refl _ _, Nat.le_refl _⟩
  case round =>
    obtain ⟨k, hk, rfl, hJs, hkx, hsz⟩ := hrel
    by_cases hlt : k < es.length
    · have hvr := hkx.own hv hXv
      obtain ⟨g, cap', hg, _, _⟩ := own_some hvr (by omega)
      obtain ⟨rfl, rfl⟩ : a0 = some ⟨g, 0, none⟩ ∧ cap = cap' := by simpa using hg
      have hc0 := own_cell? hvr (k * 2) _ (flatI_get es k hlt).1
      have hc1 := own_cell? hvr (k * 2 + 1) _ (flatI_get es k hlt).2
      have hJb : J (es.take k) (wr.alloc (.cells #[.int .i64 es[k].1, .string es[k].2] 268)) := hJ _ _ _ none hJs (World.grownBy_alloc ..) (fun r e => by cases e)
      obtain ⟨fn, tmps, assign, body, hy, hR⟩ := hY (es.take k) es[k] _ hJb (by simp; omega)
      have HT : Hid (es.take (k + 1) = es.take k ++ [es[k]]) := List.take_succ_eq_append_getElem hlt
      have HKB : Hid (KeepX X W (wr.alloc (.cells #[.int .i64 es[k].1, .string es[k].2] 268))) := hkx.trans (fun k hk => Below.heap_alloc _ _ _ (by have := hX k hk; omega))
      have HJS := hide hJs
      have HR := hide hR
      clear hJb hJs hR
      gi_wp2
      refine HR.out.mono ?_
      rintro e W3 (⟨rfl, hJ3, hk3, hs3⟩ | ⟨rfl, hJx3⟩)
      · gi_wp2
        go_roundw
        case rel => exact ⟨k + 1, by omega, by simp, by rw [HT.out]; exact hJ3, HKB.out.trans hk3, by have := hs3; simp at this; omega⟩
        case measure => simp [intOf]; omega
      · gi_wp2
        refine bodyPost_ret (results_none rfl _ _ _) rfl ?_
        exact ⟨⟨_, rfl⟩, .inr ⟨_, ⟨es.drop (k + 1), by rw [← HT.out, List.take_append_drop]⟩, hJx3⟩⟩
    · obtain rfl : k = es.length := by omega
      rw [List.take_length] at hJs
      gi_wp2
      go_end0
      exact ⟨⟨_, rfl⟩, .inl ⟨_, rfl, hJs⟩⟩
theorem allI_stops (F : Fence) (n : Nat) (hF : F.fn 187) (hro : F.round = none) (hn : 1 ≤ n) (Bs mb : Nat) (v : Value) (es : List (Nat × ByteArray)) (X : Nat → Prop)
    (w : World) (hl : es.length < 4611686018427387904) (hX : ∀ k, X k → k < w.heap.size) (hBl : Bs < w.heap.size) (hml : mb < w.heap.size) (hXv : ∀ k, v.ownBlock = some k → X k)
    (hBs : w.cell? ⟨Bs, 0, none⟩ = some (.pointer (some ⟨mb, 0, none⟩))) (hmb : w.cell? ⟨mb, 0, none⟩ = some v) (hv : w.ownsRow 0 268 2 v es.length (flatI es)) :
    SeqStopsK F n Tryz.prog 187 #[.pointer (some ⟨Bs, 0, none⟩)] (fun x : Nat × ByteArray => #[.int .i64 x.1, .string x.2]) (KpX X) (fun ys => ys = es) (fun pre => pre <+: es) es.length w := by
  intro l J Jx W hW hJ hJx hY h0
  have hk : KeepX X w W := fun k hk => hW.block k (hX k hk)
  exact allI1_in F n hF hro hn l Bs mb v es X J Jx W hl hJ (fun k hk => Nat.lt_of_lt_of_le (hX k hk) hW.size) hXv hY ((hW.cell (p := ⟨Bs, 0, none⟩) hBl).trans hBs) ((hW.cell (p := ⟨mb, 0, none⟩) hml).trans hmb) (hk.own hv hXv) h0
end Go.Proofs.YtkhnggkkiefcdaaGreatDoor
namespace Go.Proofs.YtkhnggkkiefcdaaGreatDoor
open Go.RowKit Go.Shelf
set_option maxRecDepth 100000
attribute [local go_sem] Oper.semAt_some
set_option maxHeartbeats 800000 in
theorem indexS_calls (v : Value) (l : List ByteArray) (s : ByteArray) (w : World) (h : w.ownsRow 0 9 1 v l.length (strs l)) :
    Calls Tryz.prog 234 #[v, .string s] w fun e w' => ∃ r : Int, e = .returned (.int .i64 r) ∧ decide (0 ≤ r) = l.any (· == s) ∧ Fr Nil w w' := by
  have hn := own_le h
  unfold maxLen at hn
  obtain ⟨a, cap, rfl⟩ := own_form h
  go_enter Tryz.func234, Tryz.ntmps234
  go_wp2
  go_loopw [8] (fun t w' => ∃ k : Nat, k ≤ l.length ∧ t = .int .i64 k ∧ (∀ j (hj : j < l.length), j < k → (l[j] == s) = false) ∧ Fr Nil w w') (fun t _ => l.length - (intOf t).toNat)
  case atStart => exact ⟨0, Nat.zero_le _, rfl, fun j _ hj => absurd hj (Nat.not_lt_zero _), Fr.refl _ _⟩
  case round =>
    obtain ⟨k, hk, rfl, hj, hf⟩ := hrel
    by_cases hlt : k < l.length
    · have hr := own_fr h hf (fun _ _ => id)
      obtain ⟨g, cap', hg, _, _⟩ := own_some hr (by omega)
      obtain ⟨rfl, rfl⟩ : a = some ⟨g, 0, none⟩ ∧ cap = cap' := by simpa using hg
      have hc := own_cell? hr k (.string l[k]) (by simp [strs, hlt])
      have hb := beq_toListBytes s l[k]
      cases hm : (s == l[k]) with
      | true =>
        have hm' : (s.toList == l[k].toList) = true := by rw [← hb]; exact hm
        have hany : l.any (· == s) = true := by rw [List.any_eq_true]; exact ⟨l[k], List.getElem_mem hlt, by rw [eqB_iff] at hm ⊢; exact hm.symm⟩
        have HANY := hide hany
        clear hb hm hj hany hr
        go_wp2
        go_ret
        exact ⟨_, rfl, by rw [HANY.out]; simp, hf⟩
      | false =>
        have hm' : (s.toList == l[k].toList) = false := by rw [← hb]; exact hm
        have hj' : ∀ j (hj : j < l.length), j < k + 1 → (l[j] == s) = false := by
          intro j hjl hjk
          by_cases e : j = k
          · subst e
            cases h : (l[j] == s) with
            | false => rfl
            | true => rw [eqB_iff] at h; rw [← h, eqB_iff.2 rfl] at hm; cases hm
          · exact hj j hjl (by omega)
        have HJ := hide hj'
        clear hb hm hj hj' hr
        go_wp2
        exact ⟨⟨k + 1, by omega, by go_num, HJ.out, hf⟩, by simp [intOf]; omega⟩
    · have hany : l.any (· == s) = false := by
        rw [List.any_eq_false]
        intro x hx
        obtain ⟨j, hjl, rfl⟩ := List.getElem_of_mem hx
        rw [hj j hjl (by omega)]
        decide
      have HANY := hide hany
      clear hj hany
      go_wp2
      go_ret
      exact ⟨_, rfl, by rw [HANY.out]; simp, hf⟩
theorem containsS_calls (v : Value) (l : List ByteArray) (s : ByteArray) (w : World) (h : w.ownsRow 0 9 1 v l.length (strs l)) :
    Calls Tryz.prog 218 #[v, .string s] w fun e w' => e = .returned (.bool (l.any (· == s))) ∧ Fr Nil w w' := by
  have HC := hide (indexS_calls v l s w h)
  clear h
  go_enter Tryz.func218, Tryz.ntmps218
  go_wp2_with (refine HC.out.mono ?_; rintro e w1 ⟨r, rfl, hr, hf⟩; have HR := hide hr; clear hr)
  go_ret
  exact ⟨by rw [← HR.out]; rfl, hf⟩
set_option maxHeartbeats 800000 in
theorem files_none (b : Nat) (L : DL) (M : DM) (w : World) (h : DRep w b L M) (hd : M.dir = []) :
    Calls Tryz.prog 145 #[.pointer (some ⟨b, 0, none⟩)] w fun e w' => ∃ mb, e = .returned (.pointer (some ⟨mb, 0, none⟩)) ∧ Blk w' mb [.slice none 0 0] 263 ∧ Fr Nil w w' ∧ w.heap.size ≤ mb := by
  have hb := Blk.new w [.slice none 0 0] 263
  have f0 : Fr Nil w (w.alloc (.cells #[.slice none 0 0] 263)) := (Fr.refl _ _).alloc _
  have HL := hide (list_calls _ b L M (h.nil f0) (by rw [hd]; decide))
  rw [hd] at HL
  have HB := hide hb
  have HF := hide f0
  clear h hb f0
  go_enter Tryz.func145, Tryz.ntmps145
  go_wp2_with fail
  refine HL.out.mono ?_
  rintro e w1 ⟨v, rfl, hrow, hf, _⟩
  obtain ⟨a, c, rfl⟩ := own_form hrow
  have HB1 := hide (HB.out.fr hf id)
  have HF1 := hide (HF.out.trans hf)
  clear hrow hf
  go_wp2
  go_loopw [12] (fun t w' => t = .int .i64 0 ∧ w' = w1) (fun _ _ => 0)
  case atStart => exact ⟨rfl, rfl⟩
  case round =>
    obtain ⟨rfl, rfl⟩ := hrel
    go_wp2
    go_ret
    exact ⟨_, rfl, HB1.out, HF1.out, Nat.le_refl _⟩
set_option maxHeartbeats 2000000 in
theorem spent_none (b : Nat) (L : DL) (M : DM) (w : World) (h : DRep w b L M) (hd : M.dir = []) :
    Calls Tryz.prog 183 #[.pointer (some ⟨b, 0, none⟩)] w fun e w' => e = .returned (.slice none 0 0) ∧ Fr Nil w w' := by
  have HL := hide (fun wx (f : Fr Nil w wx) => list_calls wx b L M (h.nil f) (by rw [hd]; decide))
  have HFI := hide (fun wx (f : Fr Nil w wx) => files_none b L M wx (h.nil f) hd)
  rw [hd] at HL
  clear h
  refine (callsIn_wide (n := 8)).1 ?_
  refine callsIn_of_wp_marks Tryz.func183 rfl trivial ?_ rfl
  simp only [Tryz.ntmps183, List.size_toArray, List.length_cons, List.length_nil, Nat.reduceAdd, Nat.reduceSub, Array.replicate_succ, Array.replicate_zero, List.push_toArray, List.append_toArray, List.nil_append, List.cons_append]
  gi_wp2_with fail
  refine ⟨trivial, ?_⟩
  refine (callsIn_wide.2 (HFI.out _ (by exact (by repeat' first | (with_reducible first | exact Fr.refl _ _ | assumption | refine Fr.drewN ?_ _ | refine Fr.drew ?_ | refine Fr.alloc ?_ _ | refine Fr.set ?_ ?_ _) | (intro _; rfl))))).mono ?_
  rintro e w1 ⟨mb, rfl, hb1, hf1, hm1⟩
  have bo : Boxed w1 w.heap.size 91 (.slice none 0 0) := (hf1.block w.heap.size (by simp; omega) id).trans (Boxed.alloc (Boxed.new w 91 (.slice none 0 0)) _)
  have hB1 : Below w.heap.size w w1 := (((Below.refl _ w).alloc (Nat.le_refl _) _).alloc (by simp) _).trans (hf1.below.mono (by simp; omega))
  have hs1 : w.heap.size + 2 ≤ w1.heap.size := by have := hf1.size; simp at this; omega
  have HMB := hide hb1
  clear hb1 hf1
  gi_wp2_with fail
  refine ⟨trivial, ?_⟩
  refine (callsIn_wide.2 (allI_calls mb _)).mono ?_
  rintro e w3 ⟨rfl, rfl⟩
  have bM := Boxed.new w1 211 (.pointer (some ⟨mb, 0, none⟩))
  have bo2 := bo.alloc (.cells #[.pointer (some ⟨mb, 0, none⟩)] 211)
  have hB2 : Below w.heap.size w (w1.alloc (.cells #[.pointer (some ⟨mb, 0, none⟩)] 211)) := hB1.alloc (by omega) _
  have HM2 := hide (HMB.out.alloc (.cells #[.pointer (some ⟨mb, 0, none⟩)] 211))
  have hs2 : (w1.alloc (.cells #[.pointer (some ⟨mb, 0, none⟩)] 211)).heap.size = w1.heap.size + 1 := by simp
  generalize w1.alloc (.cells #[.pointer (some ⟨mb, 0, none⟩)] 211) = W0 at bM bo2 hB2 HM2 hs2
  have hml := HMB.out.lt
  clear bo hB1
  gi_wp2_with fail
  refine wpIn_rangeFunc_ownF rfl (by decide) (gf := 187) (lb := #[.pointer (some ⟨w1.heap.size, 0, none⟩)]) rfl trivial (enters_of Tryz.func187 (by kernel_rfl) rfl)
    (allI_stops Fence.wide 7 trivial rfl (by decide) w1.heap.size mb (.slice none 0 0) [] (fun _ => False) W0 (by decide) (fun k hk => hk.elim) (by omega) (by omega) (fun k hk => by simp [Value.ownBlock] at hk) bM.cell (HM2.out.cell 0) (World.ownsRow_nil W0 0 _ _))
    KpX.trans (KpX.put (fun k hk => hk.elim)) (Below.refl _ _) (fun _ => rfl)
    (fun _ W => Boxed W w.heap.size 91 (.slice none 0 0) ∧ Below w.heap.size w W)
    (fun _ _ _ => False)
    (OwnFrom.and (Own.from (boxed_own _ _ _) _) (ownFrom_below (by omega) (by omega)))
    (fun _ _ _ _ _ hs _ _ => hs)
    ⟨bo2, hB2⟩
    (fun x => { tmps := #[.pointer (some ⟨b, 0, none⟩), undef, .slice none 0 0, .pointer (some ⟨w.heap.size, 0, none⟩), .pointer (some ⟨w.heap.size + 1, 0, none⟩), undef, .string x.2, .pointer (some ⟨b, 0, none⟩), .pointer (some ⟨mb, 0, none⟩), .func (.func 187) #[] #[.pointer (some ⟨w1.heap.size, 0, none⟩)], .int .i64 x.1, .string x.2, undef, undef, undef, undef, undef, undef, undef, undef, undef, undef, undef, undef, undef, undef, undef, undef, undef], defers := [] }) ?assign ?body ?done ?stop
  case assign =>
    intro l x W K hK
    gi_wp2
    exact hK
  case body =>
    intro l pre x W _ hlen
    exact absurd hlen (Nat.not_lt_zero _)
  case done =>
    rintro D ys W hD rfl ⟨bv, hB⟩ hK
    have hc := bv.cell
    have HL1 := hide (HL.out W (Fr.of_below hB))
    gi_wp2_with fail
    refine ⟨trivial, ?_⟩
    refine (callsIn_wide.2 HL1.out).mono ?_
    rintro e w4 ⟨v, rfl, hrow, hf, _⟩
    have HC := hide (containsS_calls v [] ⟨#[110, 101, 119]⟩ w4 hrow)
    have hc4 : w4.cell? ⟨w.heap.size, 0, none⟩ = some (.slice none 0 0) := (hf.cell bv.lt id).trans hc
    have HB4 : Hid (Below w.heap.size w w4) := hB.trans (hf.below.mono hB.size)
    have hD4 : w.heap.size ≤ D := by omega
    have hK4 := (hf.block D (Array.getElem?_eq_some_iff.1 hK).1 id).trans hK
    clear hrow hf hc bv hB
    gi_wp2_with fail
    refine ⟨trivial, ?_⟩
    refine (callsIn_wide.2 HC.out).mono ?_
    rintro e w5 ⟨rfl, hf⟩
    have hc5 : w5.cell? ⟨w.heap.size, 0, none⟩ = some (.slice none 0 0) := (hf.cell (by have := HB4.out.size; simp only; have := (Array.getElem?_eq_some_iff.1 hK4).1; omega) id).trans hc4
    have HB5 : Hid (Below w.heap.size w w5) := HB4.out.trans (hf.below.mono HB4.out.size)
    have hK5 := (hf.block D (Array.getElem?_eq_some_iff.1 hK4).1 id).trans hK4
    clear hf hc4
    gi_wp2_with fail
    refine ⟨by simp, .inl ⟨_, _, rfl, run_takeDeferred hK5, ?_⟩⟩
    have hBE : Below w.heap.size w (w5.putObj D (.deferred none)) := HB5.out.trans (belowK_b (w := w) (Nat.le_refl _) w5 D _ _ (by omega) hK5 rfl rfl)
    exact ⟨_, results_tmp rfl _ _ _, rfl, Fr.of_below hBE⟩
  case stop =>
    rintro D c pre W _ _ h _
    exact h.elim
theorem sweep_none (b : Nat) (L : DL) (M : DM) (w : World) (h : DRep w b L M) (hd : M.dir = []) :
    Calls Tryz.prog 144 #[.pointer (some ⟨b, 0, none⟩)] w fun e w' => e = .returned .nilIface ∧ Fr Nil w w' := by
  have HC := hide (spent_none b L M w h hd)
  clear h
  go_enter Tryz.func144, Tryz.ntmps144
  go_wp2_with fail
  refine HC.out.mono ?_
  rintro e w1 ⟨rfl, hf⟩
  go_wp2
  go_loopw [9] (fun t w' => t = .int .i64 0 ∧ w' = w1) (fun _ _ => 0)
  case atStart => exact ⟨rfl, rfl⟩
  case round =>
    obtain ⟨rfl, rfl⟩ := hrel
    go_wp2
    go_ret
    exact ⟨rfl, hf⟩
end Go.Proofs.YtkhnggkkiefcdaaGreatDoor
namespace Go.Proofs.YtkhnggkkiefcdaaGreatDoor
open Go.RowKit Go.Shelf
set_option maxRecDepth 100000
attribute [local go_sem] Oper.semAt_some
theorem Blk.kept {W W' : World} {row : Option Nat} {b : Nat} {c : List Value} {t : TypeId} (h : Blk W b c t) (hg : W.grownBy W' row) (hne : some b ≠ row) : Blk W' b c t := h.of_heap (hg.block b h.lt hne)
theorem blk_own {β : Type} (b : Nat) (c : List Value) (t : TypeId) : Own (fun (_ : β) W => Blk W b c t) := fun s X Y row hs hg hrow =>
  hs.kept hg (fun e' => by
    obtain ⟨o, ho, hc⟩ := hrow b e'.symm
    rw [show X.heap[b]? = _ from hs] at ho
    cases ho
    cases hc)
theorem Blk.put {W : World} {b D : Nat} {c : List Value} {t : TypeId} (h : Blk W b c t) {o : Obj} (ho : W.heap[D]? = some o) (hc : o.isCells = false) (o' : Obj) : Blk (W.putObj D o') b c t :=
  h.kept (grownBy_putObj' W D o') (fun e => by
    have e : b = D := by simpa using e
    subst e
    rw [show W.heap[b]? = _ from h] at ho
    cases ho
    cases hc)
def JM.none (limit : Nat) : JM := { limit := limit, last := 0, name := ByteArray.empty, size := 0, torn := false, dirSafe := false }
set_option maxHeartbeats 4000000 in
theorem jopen_none (b : Nat) (L : DL) (M : DM) (limit : Nat) (sb : Nat) (w : World) (h : DRep w b L M) (hd : M.dir = []) :
    Calls Tryz.prog 94 #[.pointer (some ⟨b, 0, none⟩), .int .i64 limit, .func (.func 95) #[] #[], .func (.func 96) #[.pointer (some ⟨sb, 0, none⟩)] #[]] w fun e w' =>
      ∃ jb, e = .returned (.tuple #[.pointer (some ⟨jb, 0, none⟩), .nilIface]) ∧ JRep w' jb b (JM.none limit) ∧ Fr Nil w w' ∧ w.heap.size ≤ jb := by
  have HS := hide (fun wx (f : Fr Nil w wx) => sweep_none b L M wx (h.nil f) hd)
  have HFI := hide (fun wx (f : Fr Nil w wx) => files_none b L M wx (h.nil f) hd)
  clear h
  refine (callsIn_wide (n := 8)).1 ?_
  refine callsIn_of_wp_marks Tryz.func94 rfl trivial ?_ rfl
  simp only [Tryz.ntmps94, List.size_toArray, List.length_cons, List.length_nil, Nat.reduceAdd, Nat.reduceSub, Array.replicate_succ, Array.replicate_zero, List.push_toArray, List.append_toArray, List.nil_append, List.cons_append]
  have b0 := Blk.new w [.pointer (some ⟨b, 0, none⟩)] 40
  have f0 : Fr Nil w (w.alloc (.cells #[.pointer (some ⟨b, 0, none⟩)] 40)) := (Fr.refl _ _).alloc _
  have s0 : (w.alloc (.cells #[.pointer (some ⟨b, 0, none⟩)] 40)).heap.size = w.heap.size + 1 := by simp
  gi_wp2_with fail
  generalize w.alloc (.cells #[.pointer (some ⟨b, 0, none⟩)] 40) = wa at b0 f0 s0 ⊢
  have f1 : Fr Nil wa ((wa.alloc (.cells #[.func (.func 95) #[] #[]] 166)).alloc (.cells #[.func (.func 96) #[.pointer (some ⟨sb, 0, none⟩)] #[]] 167)) := ((Fr.refl _ _).alloc _).alloc _
  have s1 : ((wa.alloc (.cells #[.func (.func 95) #[] #[]] 166)).alloc (.cells #[.func (.func 96) #[.pointer (some ⟨sb, 0, none⟩)] #[]] 167)).heap.size = w.heap.size + 3 := by simp [s0]
  generalize (wa.alloc (.cells #[.func (.func 95) #[] #[]] 166)).alloc (.cells #[.func (.func 96) #[.pointer (some ⟨sb, 0, none⟩)] #[]] 167) = wb at f1 s1 ⊢
  have b3 := Blk.new wb [.pointer none] 119
  have b4 := Blk.new (wb.alloc (.cells #[.pointer none] 119)) [.nilIface] 132
  have s3 : (wb.alloc (.cells #[.pointer none] 119)).heap.size = w.heap.size + 4 := by simp [s1]
  have s4 : ((wb.alloc (.cells #[.pointer none] 119)).alloc (.cells #[.nilIface] 132)).heap.size = w.heap.size + 5 := by simp [s1]
  have f3 : Fr Nil wb ((wb.alloc (.cells #[.pointer none] 119)).alloc (.cells #[.nilIface] 132)) := ((Fr.refl _ _).alloc _).alloc _
  have b3 := b3.alloc (.cells #[.nilIface] 132)
  rw [s1] at b3
  rw [s3] at b4
  have b0 := (b0.fr f1 id).fr f3 id
  generalize (wb.alloc (.cells #[.pointer none] 119)).alloc (.cells #[.nilIface] 132) = wc at b0 b3 b4 s4 f3 ⊢
  have f := (f0.trans f1).trans f3
  rw [show w.heap.size + 1 + 1 + 1 = w.heap.size + 3 from rfl, show w.heap.size + 1 + 1 = w.heap.size + 2 from rfl, show w.heap.size + 3 + 1 = w.heap.size + 4 from rfl] at *
  have HX := hide (show w.heap.size + 5 = wc.heap.size from s4.symm)
  clear f0 f1 f3 s0 s1 s3 s4
  refine ⟨trivial, ?_⟩
  refine (callsIn_wide.2 (HS.out wc f)).mono ?_
  rintro e w1 ⟨rfl, hf1⟩
  have c0 := (b0.fr hf1 id).cell 0
  have b31 := b3.fr hf1 id
  have b41 := b4.fr hf1 id
  have b01 := b0.fr hf1 id
  have F1 := f.trans hf1
  have hs1 : w.heap.size + 5 ≤ w1.heap.size := by rw [HX.out]; exact hf1.size
  clear b0 b3 b4 f hf1
  have bj := Blk.new w1 [.pointer (some ⟨b, 0, none⟩), .int .i64 limit, .int .i64 0, .string ⟨#[]⟩, .int .i64 0, .bool false, .bool false] 197
  have sj : (w1.alloc (.cells #[.pointer (some ⟨b, 0, none⟩), .int .i64 limit, .int .i64 0, .string ⟨#[]⟩, .int .i64 0, .bool false, .bool false] 197)).heap.size = w1.heap.size + 1 := by simp
  have bp := Blk.new (w1.alloc (.cells #[.pointer (some ⟨b, 0, none⟩), .int .i64 limit, .int .i64 0, .string ⟨#[]⟩, .int .i64 0, .bool false, .bool false] 197)) [.pointer (some ⟨w1.heap.size, 0, none⟩)] 119
  rw [sj] at bp
  have sp : ((w1.alloc (.cells #[.pointer (some ⟨b, 0, none⟩), .int .i64 limit, .int .i64 0, .string ⟨#[]⟩, .int .i64 0, .bool false, .bool false] 197)).alloc (.cells #[.pointer (some ⟨w1.heap.size, 0, none⟩)] 119)).heap.size = w1.heap.size + 2 := by simp
  have f4 : Fr Nil w1 ((w1.alloc (.cells #[.pointer (some ⟨b, 0, none⟩), .int .i64 limit, .int .i64 0, .string ⟨#[]⟩, .int .i64 0, .bool false, .bool false] 197)).alloc (.cells #[.pointer (some ⟨w1.heap.size, 0, none⟩)] 119)) := ((Fr.refl _ _).alloc _).alloc _
  have b33 := b31.fr f4 id
  have b43 := b41.fr f4 id
  have bj3 := bj.alloc (.cells #[.pointer (some ⟨w1.heap.size, 0, none⟩)] 119)
  have c03 := (b01.fr f4 id).cell 0
  have F3 := F1.trans f4
  clear b01 b31 b41 F1 bj sj f4
  gi_wp2_with fail
  generalize (w1.alloc (.cells #[.pointer (some ⟨b, 0, none⟩), .int .i64 limit, .int .i64 0, .string ⟨#[]⟩, .int .i64 0, .bool false, .bool false] 197)).alloc (.cells #[.pointer (some ⟨w1.heap.size, 0, none⟩)] 119) = wp at bp sp b33 b43 bj3 F3 c03 ⊢
  refine ⟨trivial, ?_⟩
  refine (callsIn_wide.2 (HFI.out wp F3)).mono ?_
  rintro e w2 ⟨mb, rfl, hm2, hf2, hml2⟩
  have hs2 : w1.heap.size + 2 ≤ w2.heap.size := by have := hf2.size; omega
  have b34 := b33.fr hf2 id
  have b44 := b43.fr hf2 id
  have bj4 := bj3.fr hf2 id
  have bp4 := bp.fr hf2 id
  have F4 := F3.trans hf2
  have hmlt := hm2.lt
  clear b33 b43 bj3 F3 c03 bp hf2
  gi_wp2_with fail
  refine ⟨trivial, ?_⟩
  refine (callsIn_wide.2 (allI_calls mb _)).mono ?_
  rintro e w3 ⟨rfl, rfl⟩
  have bM := Boxed.new w2 211 (.pointer (some ⟨mb, 0, none⟩))
  have b35 := b34.alloc (.cells #[.pointer (some ⟨mb, 0, none⟩)] 211)
  have b45 := b44.alloc (.cells #[.pointer (some ⟨mb, 0, none⟩)] 211)
  have bj5 := bj4.alloc (.cells #[.pointer (some ⟨mb, 0, none⟩)] 211)
  have bp5 := bp4.alloc (.cells #[.pointer (some ⟨mb, 0, none⟩)] 211)
  have hm5 := hm2.alloc (.cells #[.pointer (some ⟨mb, 0, none⟩)] 211)
  have F5 := F4.alloc (.cells #[.pointer (some ⟨mb, 0, none⟩)] 211)
  have s5 : (w2.alloc (.cells #[.pointer (some ⟨mb, 0, none⟩)] 211)).heap.size = w2.heap.size + 1 := by simp
  generalize w2.alloc (.cells #[.pointer (some ⟨mb, 0, none⟩)] 211) = W0 at bM b35 b45 bj5 bp5 hm5 F5 s5 ⊢
  clear b34 b44 bj4 bp4 F4 hm2
  gi_wp2_with fail
  refine wpIn_rangeFunc_ownF rfl (by decide) (gf := 187) (lb := #[.pointer (some ⟨w2.heap.size, 0, none⟩)]) rfl trivial (enters_of Tryz.func187 (by kernel_rfl) rfl)
    (allI_stops Fence.wide 7 trivial rfl (by decide) w2.heap.size mb (.slice none 0 0) [] (fun _ => False) W0 (by decide) (fun k hk => hk.elim) (by omega) (by omega) (fun k hk => by simp [Value.ownBlock] at hk) bM.cell (hm5.cell 0) (World.ownsRow_nil W0 0 _ _))
    KpX.trans (KpX.put (fun k hk => hk.elim)) (Below.refl _ _) (fun _ => rfl)
    (fun _ W => (Blk W (w.heap.size + 3) [.pointer none] 119 ∧ Blk W (w.heap.size + 4) [.nilIface] 132 ∧ Blk W (w1.heap.size + 1) [.pointer (some ⟨w1.heap.size, 0, none⟩)] 119 ∧ JRep W w1.heap.size b (JM.none limit)) ∧ Below w.heap.size w W)
    (fun _ _ _ => False)
    (OwnFrom.and (OwnFrom.and (Own.from (blk_own _ _ _) _) (OwnFrom.and (Own.from (blk_own _ _ _) _) (OwnFrom.and (Own.from (blk_own _ _ _) _) (Own.from (blk_own _ _ _) _)))) (ownFrom_below (by omega) (by omega)))
    (fun _ _ _ _ _ hs _ _ => hs)
    ⟨⟨b35, b45, bp5, bj5⟩, F5.below⟩
    ?a1 ?assign ?body ?done ?stop
  case assign =>
    intro l x W K hK
    gi_wp2
    exact hK
  case body =>
    intro l pre x W _ hlen
    exact absurd hlen (Nat.not_lt_zero _)
  case done =>
    rintro D ys W hD rfl ⟨⟨h3, h4, hp, hj⟩, hB⟩ hK
    have hcp := hp.cell 0
    have hz3 := h3.frozen 0
    have hz4 := h4.frozen 0
    have hc3 := h3.cell 0
    have hc4 := h4.cell 0
    have hne : w.heap.size + 3 ≠ w.heap.size + 4 := by omega
    have h3' := (h3.set 0 (.pointer (some ⟨w1.heap.size, 0, none⟩))).far (b' := w.heap.size + 4) hne 0 .nilIface
    have h4' := (h4.far (b' := w.heap.size + 3) (Ne.symm hne) 0 (.pointer (some ⟨w1.heap.size, 0, none⟩))).set 0 .nilIface
    have hj' := (Blk.far hj (b' := w.heap.size + 3) (by omega) 0 (.pointer (some ⟨w1.heap.size, 0, none⟩))).far (b' := w.heap.size + 4) (by omega) 0 .nilIface
    have HB' := hide ((hB.setCell (p := ⟨w.heap.size + 3, 0, none⟩) (by simp only; omega) (.pointer (some ⟨w1.heap.size, 0, none⟩))).setCell (p := ⟨w.heap.size + 4, 0, none⟩) (by simp only; omega) .nilIface)
    have hK' := ((KeepsOthers.setCell W ⟨w.heap.size + 3, 0, none⟩ (.pointer (some ⟨w1.heap.size, 0, none⟩))).trans (KeepsOthers.setCell _ ⟨w.heap.size + 4, 0, none⟩ .nilIface)).same D _ hK rfl
    have H3 := hide h3'
    have H4 := hide h4'
    have HJ := hide hj'
    have HK := hide hK'
    clear h3 h4 hp hj hB h3' h4' hj' hK' hK
    gi_wp2_with fail
    refine ⟨by simp, .inl ⟨_, _, rfl, run_takeDeferred HK.out, ?_⟩⟩
    have e3 := (H3.out.put HK.out rfl (.deferred none)).cell 0
    have e4 := (H4.out.put HK.out rfl (.deferred none)).cell 0
    have ej := Blk.put HJ.out HK.out rfl (.deferred none)
    have eB : Below w.heap.size w _ := HB'.out.trans (belowK_b (w := w) (Nat.le_refl _) _ D (.deferred (some [])) (.deferred none) (by omega) HK.out rfl rfl)
    refine ⟨.tuple #[.pointer (some ⟨w1.heap.size, 0, none⟩), .nilIface], ?_, w1.heap.size, rfl, ej, Fr.of_below eB, by omega⟩
    simp only [List.set_cons_zero, List.getElem?_cons_zero] at e3 e4
    simp [results, Tryz.f94, go_sem, e3, e4]
  case stop =>
    rintro D c pre W _ _ h _
    exact h.elim
end Go.Proofs.YtkhnggkkiefcdaaGreatDoor
namespace Go.Proofs.YtkhnggkkiefcdaaGreatDoor
open Go.RowKit
set_option maxRecDepth 100000
def NM.fresh (node segment sync : Nat) : NM := { self := node, given := 0, every := sync, writes := 0, readOnly := false, J := JM.none segment, S := { keys := [], hints := [], leased := 0 } }
set_option maxHeartbeats 400000 in
theorem open_bad (b : Nat) (node segment sync : Int) (hc : configOk node segment sync = false) (w : World) :
    Calls Tryz.prog 49 #[.pointer (some ⟨b, 0, none⟩), .agg #[.int .i64 node, .int .i64 segment, .int .i64 sync]] w fun e w' => e = .returned (.tuple #[.pointer none, .int .i64 1]) ∧ Fr Nil w w' := by
  have HC := hide (isConfig_calls node segment sync (w.alloc (.cells #[.int .i64 node, .int .i64 segment, .int .i64 sync] 102)))
  rw [hc] at HC
  clear hc
  go_enter Tryz.func49, Tryz.ntmps49
  go_wp2_with (refine HC.out.mono ?_; rintro e w1 ⟨rfl, hf⟩; have HF := hide hf; clear hf)
  go_ret2
  exact ⟨rfl, ((Fr.refl _ _).alloc _).trans HF.out⟩
set_option maxHeartbeats 1600000 in
theorem open_none (b : Nat) (L : DL) (M : DM) (node segment sync : Nat) (hc : configOk node segment sync = true) (w : World) (h : DRep w b L M) (hd : M.dir = []) :
    Calls Tryz.prog 49 #[.pointer (some ⟨b, 0, none⟩), .agg #[.int .i64 node, .int .i64 segment, .int .i64 sync]] w fun e w' =>
      ∃ NL', e = .returned (.tuple #[.pointer (some ⟨NL'.nb, 0, none⟩), .int .i64 0]) ∧ NRep w' NL' (NM.fresh node segment sync) M ∧ NL'.db = b ∧ NL'.LD = L ∧ (∀ k, NFoot NL' M k → Foot b L M k ∨ w.heap.size ≤ k) ∧ Fr Nil w w' := by
  have bc := Blk.new w [.int .i64 node, .int .i64 segment, .int .i64 sync] 102
  have f0 : Fr Nil w (w.alloc (.cells #[.int .i64 node, .int .i64 segment, .int .i64 sync] 102)) := (Fr.refl _ _).alloc _
  have HC := hide (isConfig_calls node segment sync (w.alloc (.cells #[.int .i64 node, .int .i64 segment, .int .i64 sync] 102)))
  rw [hc] at HC
  have HH := hide h
  clear hc h
  go_enter Tryz.func49, Tryz.ntmps49
  go_wp2_with fail
  generalize w.alloc (.cells #[.int .i64 node, .int .i64 segment, .int .i64 sync] 102) = wc at bc f0 HC ⊢
  refine HC.out.mono ?_
  rintro e w1 ⟨rfl, hf1⟩
  have bc1 := bc.fr hf1 id
  have F1 := f0.trans hf1
  have hb1 := bc1.lt
  have HN : Hid (w.heap.size = w.heap.size) := hide rfl
  generalize hcb : w.heap.size = cb at bc1 hb1 ⊢
  have HCB := hide hcb
  clear bc f0 hf1 hcb HC
  have bs := Blk.new w1 [.slice none 0 0, .slice none 0 0, .int .i64 0] 161
  have f2 : Fr Nil w1 (w1.alloc (.cells #[.slice none 0 0, .slice none 0 0, .int .i64 0] 161)) := (Fr.refl _ _).alloc _
  have c2 := (bc1.fr f2 id).cell
  go_wp2_with fail
  refine (jopen_none b L M segment w1.heap.size _ (HH.out.nil (F1.trans f2)) hd).mono ?_
  rintro e w3 ⟨jb, rfl, hj, hf3, hjb⟩
  have F3 := (F1.trans f2).trans hf3
  have bc3 := bc1.fr (f2.trans hf3) id
  have bs3 := bs.fr hf3 id
  have hle1 := F1.size
  have hsz : w1.heap.size + 1 ≤ jb := by simpa using hjb
  generalize w1.heap.size = sb at bs3 hsz hle1 ⊢
  have HR : SRep w3 sb ⟨.slice none 0 0, .slice none 0 0, []⟩ { keys := [], hints := [], leased := 0 } :=
    ⟨bs3, ⟨World.ownsRow_nil w3 0 _ _, List.Pairwise.nil, fun e he => by cases he⟩, trivial, World.ownsRow_nil w3 0 _ _⟩
  have HJ := hide hj
  have HS := hide HR
  have HF := hide F3
  have HL := hide (fun wx (f : Fr Nil w3 wx) => leased_calls sb _ _ wx (HR.nil f))
  have HK : Hid (∀ wx, Fr Nil w3 wx → wx.cell? ⟨cb, 0, none⟩ = some (.int .i64 node) ∧ wx.cell? ⟨cb, 2, none⟩ = some (.int .i64 sync)) := fun wx f => ⟨(bc3.fr f id).cell 0, (bc3.fr f id).cell 2⟩
  obtain ⟨k0, k2⟩ := HK.out w3 (Fr.refl _ _)
  clear hj hf3 hjb F1 bc1 f2 c2 F3 bc3 bs3 HR bs hb1
  go_wp2_with fail
  go_region_held3 (fun wx => wx.cell? ⟨cb, 0, none⟩ = some (.int .i64 node) ∧ wx.cell? ⟨cb, 2, none⟩ = some (.int .i64 sync)) (first | assumption | go_keep | exact HK.out _ (by repeat' first | (with_reducible first | exact Fr.refl _ _ | assumption | refine Fr.drewN ?_ _ | refine Fr.drew ?_ | refine Fr.alloc ?_ _ | refine Fr.set ?_ ?_ _) | (intro _; rfl)))
    (first | (go_at_call 98; refine (HL.out _ (by repeat' first | (with_reducible first | exact Fr.refl _ _ | assumption | refine Fr.drewN ?_ _ | refine Fr.drew ?_ | refine Fr.alloc ?_ _ | refine Fr.set ?_ ?_ _) | (intro _; rfl))).mono ?_; rintro e wl ⟨rfl, hwl⟩; subst wl))
  have bn := (Blk.new w3 ((NM.fresh node segment sync).cells { nb := w3.heap.size, jb := jb, sb := sb, db := b, mv := .pointer none, LS := ⟨.slice none 0 0, .slice none 0 0, []⟩, LD := L }) 123).drew
  have fn : Fr Nil w3 (w3.alloc (.cells #[.int .i64 node, .pointer (some ⟨jb, 0, none⟩), .pointer (some ⟨sb, 0, none⟩), .int .i64 0, .int .i64 sync, .int .i64 0, .pointer none, .bool false] 123)).drew := ((Fr.refl _ _).alloc _).drew
  have HRES : Hid (NRep _ { nb := w3.heap.size, jb := jb, sb := sb, db := b, mv := .pointer none, LS := ⟨.slice none 0 0, .slice none 0 0, []⟩, LD := L } (NM.fresh node segment sync) M) :=
    ⟨bn, Blk.fr HJ.out fn id, HS.out.nil fn, HH.out.nil (HF.out.trans fn)⟩
  have HFF : Hid (Fr Nil w _) := HF.out.trans fn
  have hl3 := HF.out.size
  clear bn fn
  go_wp2
  go_ret2
  refine ⟨_, rfl, HRES.out, rfl, rfl, fun k hk => ?_, HFF.out⟩
  rcases hk with e | e | e | e
  · exact .inr (by rw [e]; exact hl3)
  · exact .inr (by rw [e]; simp only; omega)
  · rcases e with e | e | e
    · exact .inr (by rw [e]; exact hle1)
    · simp [Value.ownBlock] at e
    · simp [Value.ownBlock] at e
  · exact .inl e
structure Fresh (T : Nat) (M : DM) : Prop where
  dir : M.dir = []
  ids : M.ids = []
  chs : M.chs = []
  dead : M.dead = false
  cut : M.cut = 0
  fail : M.fail = 0
  part : M.part = 0
  calls : M.calls = 0
  room : 2000 * (T : Int) ≤ M.room ∧ M.room ≤ 1152921504606846976 ∧ T ≤ 100000000
theorem LogInv.fresh {T limit : Nat} {M : DM} (h : Fresh T M) : LogInv T (JM.none limit) M 0 where
  calm := ⟨h.dead, h.cut, h.fail, by rw [h.calls]; decide⟩
  calls := by rw [h.calls]; decide
  room := h.room
  part := h.part
  last := Nat.le_refl _
  size := Nat.le_refl _
  names := fun e he => by rw [h.dir] at he; cases he
  cur := fun hl => absurd rfl hl
  tot := by unfold DM.tot; rw [h.dir]; exact Nat.le_refl _
  chs := by rw [h.chs]; exact Nat.le_refl _
  dir := by rw [h.dir]; exact Nat.le_refl _
  ids := fun g hg => by rw [h.ids] at hg; cases hg
  inD := fun e he => by rw [h.dir] at he; cases he
  once := by rw [h.dir]; exact List.nodup_nil
theorem NInv.begins {T : Nat} {M : DM} (h : Fresh T M) (node seg sync : Nat) (room s y : Int) (base : Nat) (hb : base ≤ 100000) : NInv T (WM.begins node room s y base) (NM.fresh node seg sync) M ⟨node, [], []⟩ 0 where
  log := LogInv.fresh h
  held := ⟨List.Pairwise.nil, fun e he => absurd he (by intro h; cases h), Nat.zero_le _⟩
  keys := rfl
  hints := rfl
  self := rfl
  ro := rfl
  broken := rfl
  most := rfl
  given := Nat.le_refl _
  calls := Nat.le_refl _
  nw := Nat.le_refl _
  ww := Nat.le_refl _
  nk := Nat.le_refl _
  last := rfl
  len := Nat.le_refl _
  next := Nat.le_refl _
  base := hb
  bvs := Nat.le_refl _
  bvm := Nat.le_refl _
  bns := Nat.le_refl _
  bnm := Nat.le_refl _
  bhs := Nat.le_refl _
  bhm := Nat.le_refl _
theorem NInv.other {T : Nat} {W W' : WM} {N : NM} {M : DM} {m : LM} {t u : Nat} (h : NInv T W N M m t) (hu : t ≤ u) (h1 : W'.broken = false) (h2 : W'.most = W.most) (h3 : W.calls ≤ W'.calls) (h4 : W'.calls ≤ u) (h5 : W'.writes ≤ u) (h6 : W'.st = W.st) (h7 : W'.next ≤ u) (h8 : W'.base = W.base)
    (hb : W'.bk.vs.length ≤ 4 * u ∧ W'.bk.vm.length ≤ 4 * u ∧ W'.bk.ns.length ≤ 4 * u ∧ W'.bk.nm.length ≤ 4 * u ∧ W'.bk.hs.length ≤ 4 * u ∧ W'.bk.hm.length ≤ 4 * u) : NInv T W' N M m u :=
  ⟨h.log.more hu, h.held, h.keys, h.hints, h.self, h.ro, h1, by rw [h2, h.most], Nat.le_trans h.given h3, h4, Nat.le_trans h.nw hu, h5, Nat.le_trans h.nk hu, by rw [h6]; exact h.last, by rw [h6]; have := h.len; omega, h7, by rw [h8]; exact h.base, hb.1, hb.2.1, hb.2.2.1, hb.2.2.2.1, hb.2.2.2.2.1, hb.2.2.2.2.2⟩
theorem NInv.booked {T : Nat} {W : WM} {N : NM} {M : DM} {m : LM} {t : Nat} {bk : BK} (h : NInv T W N M m t) (hb : Booked W.bk bk) : NInv T (W.booked bk) N M m (t + 1) := by
  have a1 := h.bvs; have a2 := h.bvm; have a3 := h.bns; have a4 := h.bnm; have a5 := h.bhs; have a6 := h.bhm
  have b1 := hb.vs; have b2 := hb.vm; have b3 := hb.ns; have b4 := hb.nm; have b5 := hb.hs; have b6 := hb.hm
  have c1 := h.calls; have c2 := h.ww; have c3 := h.next
  exact h.other (W' := W.booked bk) (Nat.le_succ _) h.broken rfl (Nat.le_refl _) (by show W.calls ≤ _; omega) (by show W.writes ≤ _; omega) rfl (by show W.next + 1 ≤ _; omega) rfl
    ⟨by show bk.vs.length ≤ _; omega, by show bk.vm.length ≤ _; omega, by show bk.ns.length ≤ _; omega, by show bk.nm.length ≤ _; omega, by show bk.hs.length ≤ _; omega, by show bk.hm.length ≤ _; omega⟩
theorem NInv.small {T : Nat} {W : WM} {N : NM} {M : DM} {m : LM} {t : Nat} (h : NInv T W N M m t) (ht : t ≤ 10000000) : BSmall W.bk := by
  have a1 := h.bvs; have a2 := h.bvm; have a3 := h.bns; have a4 := h.bnm; have a5 := h.bhs; have a6 := h.bhm
  exact ⟨by omega, by omega, by omega, by omega, by omega, by omega⟩
theorem info_ptr : ((Tryz.prog.info? 146).map fun i => (i.zero.map (·.cells.size), i.size, i.bytes)) = some (some 1, 1, 8) := by kernel_rfl
def ptrs (l : List Nat) : List Value := l.map fun k => .pointer (some ⟨k, 0, none⟩)
structure Twin (w0 w : World) (bo bm : Nat) (M : DM) (os : List Nat) (ps : List (Nat × Nat)) (vo vm : Value) (fV : Nat → Value) : Prop where
  co : Blk w bo [vo] 168
  cm : Blk w bm [vm] 168
  ne : bo ≠ bm
  old : w.ownsRow 0 146 1 vo os.length (ptrs os)
  made : w.ownsRow 0 146 1 vm ps.length (ptrs (ps.map Prod.snd))
  sepo : ∀ k, vo.ownBlock = some k → vm.ownBlock ≠ some k
  files : ∀ p, p ∈ ps → Blk w p.2 [fV p.2, .int .i64 (M.file p.1).safe] 152
  rows : ∀ p, p ∈ ps → w.ownsRow 0 5 1 (fV p.2) (M.file p.1).bytes.length (u8s (M.file p.1).bytes)
  sep : ∀ p, p ∈ ps → ∀ q, q ∈ ps → p.2 ≠ q.2 → ∀ k, (fV p.2).ownBlock = some k → (fV q.2).ownBlock ≠ some k
  n1 : os.Nodup
  n2 : (ps.map Prod.snd).Nodup
  ids : ∀ f, f ∈ os → f ∈ M.ids
  nbo : w0.heap.size ≤ bo
  nbm : w0.heap.size ≤ bm
  no : ∀ k, vo.ownBlock = some k → w0.heap.size ≤ k
  nm : ∀ k, vm.ownBlock = some k → w0.heap.size ≤ k
  nf : ∀ p, p ∈ ps → w0.heap.size ≤ p.2
  nr : ∀ p, p ∈ ps → ∀ k, (fV p.2).ownBlock = some k → w0.heap.size ≤ k
  fr : Fr Nil w0 w
theorem Twin.keep {w0 w w' : World} {bo bm : Nat} {M : DM} {os : List Nat} {ps : List (Nat × Nat)} {vo vm : Value} {fV : Nat → Value} (h : Twin w0 w bo bm M os ps vo vm fV) (f : Fr Nil w w') :
    Twin w0 w' bo bm M os ps vo vm fV :=
  { h with
    co := h.co.fr f id
    cm := h.cm.fr f id
    old := own_fr h.old f (fun _ _ => id)
    made := own_fr h.made f (fun _ _ => id)
    files := fun p hp => (h.files p hp).fr f id
    rows := fun p hp => own_fr (h.rows p hp) f (fun _ _ => id)
    fr := h.fr.trans f }
theorem Twin.old_push {w0 w w1 w2 : World} {bo bm : Nat} {M : DM} {os : List Nat} {ps : List (Nat × Nat)} {vo vm vo' : Value} {fV : Nat → Value} (h : Twin w0 w bo bm M os ps vo vm fV) (f1 : Fr Nil w w1) {f : Nat}
    (ha : App w1 vo 146 1 (os.length + 1) (ptrs os ++ [.pointer (some ⟨f, 0, none⟩)]) vo' w2) (hf : f ∉ os) (hi : f ∈ M.ids) :
    Twin w0 (w2.setCell ⟨bo, 0, none⟩ vo') bo bm M (os ++ [f]) ps vo' vm fV ∧ Fr (fun k => k = bo ∨ vo.ownBlock = some k) w (w2.setCell ⟨bo, 0, none⟩ vo') ∧
      (∀ k, vo'.ownBlock = some k → vo.ownBlock = some k ∨ w.heap.size ≤ k) := by
  have h1 := h.keep f1
  have hs1 := f1.size
  have hat : ∀ k, vo'.ownBlock = some k → vo.ownBlock = some k ∨ w1.heap.size ≤ k := by
    intro k hk
    rcases ha.at_ with e | e
    · exact .inl (by rw [← e]; exact hk)
    · rw [e] at hk; simp at hk; exact .inr (by omega)
  have hbo : Blk w2 bo [vo] 168 := h1.co.fr ha.fr (own_ne h1.old h1.co (by decide))
  have hw2 : Fr (fun k => k = bo) w2 (w2.setCell ⟨bo, 0, none⟩ vo') := Fr.set (S := fun k => k = bo) (p := ⟨bo, 0, none⟩) (Fr.refl _ _) (fun _ => rfl) vo'
  have hfr : Fr (fun k => k = bo ∨ vo.ownBlock = some k) w1 (w2.setCell ⟨bo, 0, none⟩ vo') :=
    (ha.fr.mono (fun _ _ => .inr)).trans (hw2.mono (fun _ _ => .inl))
  have hfw : Fr (fun k => k = bo ∨ vo.ownBlock = some k) w (w2.setCell ⟨bo, 0, none⟩ vo') := (f1.mono (fun _ _ => False.elim)).trans hfr
  have hno : ∀ k, vo'.ownBlock = some k → w0.heap.size ≤ k := by
    intro k hk
    rcases hat k hk with e | e
    · exact h.no k e
    · have := h1.fr.size; omega
  refine ⟨?_, hfw, fun k hk => (hat k hk).imp id (fun e => by omega)⟩
  refine { h with
    co := hbo.set 0 vo'
    cm := h1.cm.fr hfr (fun e => ?_)
    old := ?_
    made := own_fr h1.made hfr (fun k hk e => ?_)
    sepo := fun k hk e => ?_
    files := fun p hp => (h1.files p hp).fr hfr (fun e => ?_)
    rows := fun p hp => own_fr (h1.rows p hp) hfr (fun k hk e => ?_)
    n1 := ?_
    ids := ?_
    no := hno
    fr := Fr.trans' h.fr hfw (fun k hk e => ?_) }
  · rcases e with e | e
    · exact h.ne e.symm
    · exact own_ne h1.old h1.cm (by decide) e
  · have e : ptrs (os ++ [f]) = ptrs os ++ [.pointer (some ⟨f, 0, none⟩)] := by simp [ptrs]
    rw [e, List.length_append]
    exact own_fr ha.own hw2 (fun k hk e => by subst e; exact own_ne ha.own hbo (by decide) hk)
  · rcases e with e | e
    · subst e; exact own_ne h1.made h1.co (by decide) hk
    · exact h.sepo k e hk
  · rcases hat k hk with e' | e'
    · exact h.sepo k e' e
    · have := own_lt h1.made e; omega
  · rcases e with e | e
    · exact (h1.files p hp).ne h1.co (by decide) e
    · exact own_ne h1.old (h1.files p hp) (by decide) e
  · rcases e with e | e
    · subst e; exact own_ne (h1.rows p hp) h1.co (by decide) hk
    · exact own_ne' h1.old (h1.rows p hp) (by decide) e hk
  · rw [List.nodup_append]
    refine ⟨h.n1, by simp, ?_⟩
    intro a ha' b hb
    simp at hb
    subst hb
    intro e
    subst e
    exact hf ha'
  · intro g hg
    rcases List.mem_append.1 hg with hg | hg
    · exact h.ids g hg
    · simp at hg; subst hg; exact hi
  · rcases e with e | e
    · have := h.nbo; omega
    · have := h.no k e; omega
theorem Twin.made_push {w0 w w1 w2 : World} {bo bm : Nat} {M : DM} {os : List Nat} {ps : List (Nat × Nat)} {vo vm vm' v8 : Value} {fV : Nat → Value} (h : Twin w0 w bo bm M os ps vo vm fV) (f1 : Fr Nil w w1) {f nf : Nat}
    (hrow : w1.ownsRow 0 5 1 v8 (M.file f).bytes.length (u8s (M.file f).bytes)) (hrn : ∀ k, v8.ownBlock = some k → w.heap.size ≤ k)
    (hnf : Blk w1 nf [v8, .int .i64 (M.file f).safe] 152) (hnn : w.heap.size ≤ nf)
    (ha : App w1 vm 146 1 (ps.length + 1) (ptrs (ps.map Prod.snd) ++ [.pointer (some ⟨nf, 0, none⟩)]) vm' w2) :
    Twin w0 (w2.setCell ⟨bm, 0, none⟩ vm') bo bm M os (ps ++ [(f, nf)]) vo vm' (fun g => if g = nf then v8 else fV g) ∧ Fr (fun k => k = bm ∨ vm.ownBlock = some k) w (w2.setCell ⟨bm, 0, none⟩ vm') ∧
      (∀ k, vm'.ownBlock = some k → vm.ownBlock = some k ∨ w.heap.size ≤ k) := by
  have h1 := h.keep f1
  have hs1 := f1.size
  have hs0 := h.fr.size
  have hat : ∀ k, vm'.ownBlock = some k → vm.ownBlock = some k ∨ w1.heap.size ≤ k := by
    intro k hk
    rcases ha.at_ with e | e
    · exact .inl (by rw [← e]; exact hk)
    · rw [e] at hk; simp at hk; exact .inr (by omega)
  have hbm : Blk w2 bm [vm] 168 := h1.cm.fr ha.fr (own_ne h1.made h1.cm (by decide))
  have hw2 : Fr (fun k => k = bm) w2 (w2.setCell ⟨bm, 0, none⟩ vm') := Fr.set (S := fun k => k = bm) (p := ⟨bm, 0, none⟩) (Fr.refl _ _) (fun _ => rfl) vm'
  have hfr : Fr (fun k => k = bm ∨ vm.ownBlock = some k) w1 (w2.setCell ⟨bm, 0, none⟩ vm') :=
    (ha.fr.mono (fun _ _ => .inr)).trans (hw2.mono (fun _ _ => .inl))
  have hfw : Fr (fun k => k = bm ∨ vm.ownBlock = some k) w (w2.setCell ⟨bm, 0, none⟩ vm') := (f1.mono (fun _ _ => False.elim)).trans hfr
  have hpn : ∀ p, p ∈ ps → p.2 ≠ nf := by
    intro p hp e
    have := (h.files p hp).lt
    omega
  have hrl : ∀ p, p ∈ ps → ∀ k, (fV p.2).ownBlock = some k → k < w.heap.size := fun p hp k hk => own_lt (h.rows p hp) hk
  have hfb : ∀ {c : List Value} {g : Nat}, Blk w1 g c 152 → Blk (w2.setCell ⟨bm, 0, none⟩ vm') g c 152 := by
    intro c g hg
    refine hg.fr hfr (fun e => ?_)
    rcases e with e | e
    · exact hg.ne h1.cm (by decide) e
    · exact own_ne h1.made hg (by decide) e
  have hrb : ∀ {v : Value} {n : Nat} {xs : List Value}, w1.ownsRow 0 5 1 v n xs → (w2.setCell ⟨bm, 0, none⟩ vm').ownsRow 0 5 1 v n xs := by
    intro v n xs hv
    refine own_fr hv hfr (fun k hk e => ?_)
    rcases e with e | e
    · subst e; exact own_ne hv h1.cm (by decide) hk
    · exact own_ne' h1.made hv (by decide) e hk
  refine ⟨?_, hfw, fun k hk => (hat k hk).imp id (fun e => by omega)⟩
  refine { h with
    co := h1.co.fr hfr (fun e => ?_)
    cm := hbm.set 0 vm'
    old := own_fr h1.old hfr (fun k hk e => ?_)
    made := ?_
    sepo := fun k hk e => ?_
    files := fun p hp => ?_
    rows := fun p hp => ?_
    sep := fun p hp q hq hne k hk e => ?_
    n2 := ?_
    nm := fun k hk => ?_
    nf := fun p hp => ?_
    nr := fun p hp k hk => ?_
    fr := Fr.trans' h.fr hfw (fun k hk e => ?_) }
  · rcases e with e | e
    · exact h.ne e
    · exact own_ne h1.made h1.co (by decide) e
  · rcases e with e | e
    · subst e; exact own_ne h1.old h1.cm (by decide) hk
    · exact h.sepo k hk e
  · have e : ptrs ((ps ++ [(f, nf)]).map Prod.snd) = ptrs (ps.map Prod.snd) ++ [.pointer (some ⟨nf, 0, none⟩)] := by simp [ptrs]
    rw [e, List.length_append]
    exact own_fr ha.own hw2 (fun k hk e => by subst e; exact own_ne ha.own hbm (by decide) hk)
  · rcases hat k e with e' | e'
    · exact h.sepo k hk e'
    · have := own_lt h1.old hk; omega
  · rcases List.mem_append.1 hp with hp | hp
    · simp only [hpn p hp, if_false]
      exact hfb (h1.files p hp)
    · simp at hp; subst hp
      simp only [if_true]
      exact hfb hnf
  · rcases List.mem_append.1 hp with hp | hp
    · simp only [hpn p hp, if_false]
      exact hrb (h1.rows p hp)
    · simp at hp; subst hp
      simp only [if_true]
      exact hrb hrow
  · rcases List.mem_append.1 hp with hp | hp <;> rcases List.mem_append.1 hq with hq | hq
    · simp only [hpn p hp, hpn q hq, if_false] at hk e
      exact h.sep p hp q hq hne k hk e
    · simp at hq; subst hq
      simp only [hpn p hp, if_false] at hk
      simp only [if_true] at e
      have := hrl p hp k hk
      have := hrn k e
      omega
    · simp at hp; subst hp
      simp only [hpn q hq, if_false] at e
      simp only [if_true] at hk
      have := hrl q hq k e
      have := hrn k hk
      omega
    · simp at hp hq; subst hp; subst hq
      exact hne rfl
  · rw [List.map_append, List.nodup_append]
    refine ⟨h.n2, by simp, ?_⟩
    intro a ha' b hb
    simp at hb
    subst hb
    obtain ⟨p, hp, rfl⟩ := List.mem_map.1 ha'
    exact hpn p hp
  · rcases hat k hk with e | e
    · exact h.nm k e
    · omega
  · rcases List.mem_append.1 hp with hp | hp
    · exact h.nf p hp
    · simp at hp; subst hp; show w0.heap.size ≤ nf; omega
  · rcases List.mem_append.1 hp with hp | hp
    · simp only [hpn p hp, if_false] at hk
      exact h.nr p hp k hk
    · simp at hp; subst hp
      simp only [if_true] at hk
      have := hrn k hk; omega
  · rcases e with e | e
    · have := h.nbm; omega
    · have := h.nm k e; omega
theorem info_file : ((Tryz.prog.info? 152).map fun i => (i.zero.map (·.cells.size), i.size, i.bytes)) = some (some 2, 2, 32) := by kernel_rfl
theorem neq_same (w : World) (f : Nat) : (binOp .neq 146 (.pointer (some ⟨f, 0, none⟩)) (.pointer (some ⟨f, 0, none⟩))).run Tryz.prog w = .ok (.bool false) w := by
  obtain ⟨i, z, hi, _⟩ := info_of info_file
  have h : ∀ d : Nat, (Op.equalIn (d + 1) 146 (.pointer (some ⟨f, 0, none⟩)) (.pointer (some ⟨f, 0, none⟩))).run Tryz.prog w = .ok true w := fun d => by
    simp [Op.equalIn, run_underlying Tryz.underlying146, sizeOf, typeInfo, hi, run_sameAddr_same]
  simp only [binOp]
  simp [Op.equal, Op.maxDepth, h 9999]
theorem neq_other {w : World} {f g : Nat} {c c' : List Value} (hf : Blk w f c 152) (hg : Blk w g c' 152) (hne : f ≠ g) :
    (binOp .neq 146 (.pointer (some ⟨f, 0, none⟩)) (.pointer (some ⟨g, 0, none⟩))).run Tryz.prog w = .ok (.bool true) w := by
  obtain ⟨i, z, hi, _, hs, _⟩ := info_of info_file
  have hsz : i.size ≠ 0 := by omega
  have hab : (⟨f, 0, none⟩ : Addr) ≠ ⟨g, 0, none⟩ := fun e => hne (congrArg Addr.block e)
  have h : ∀ d : Nat, (Op.equalIn (d + 1) 146 (.pointer (some ⟨f, 0, none⟩)) (.pointer (some ⟨g, 0, none⟩))).run Tryz.prog w = .ok false w := fun d => by
    simp [Op.equalIn, run_underlying Tryz.underlying146, sizeOf, typeInfo, hi, hsz, run_sameAddr_other w hab hf hg]
  simp only [binOp]
  simp [Op.equal, Op.maxDepth, h 9999]
structure OtherAt (w0 w : World) (bo bm : Nat) (M : DM) (ps0 : List (Nat × Nat)) (vo0 vm0 : Value) (d : Dir) (k : Nat) (l : Value) (w' : World) : Prop where
  ex : ∃ ps vo vm fV d', Twin w0 w' bo bm M (ps.map Prod.fst) ps vo vm fV ∧ (∀ p, p ∈ ps0 → p ∈ ps) ∧ ps.length ≤ ps0.length + k ∧ d'.length = k ∧
    (∀ i (h1 : i < d.length) (h2 : i < d'.length), d'[i].1 = d[i].1 ∧ (d[i].2, d'[i].2) ∈ ps) ∧ w'.ownsRow 0 148 2 l k (flat d') ∧
    (∀ j, vo.ownBlock = some j → vo0.ownBlock = some j ∨ w.heap.size ≤ j) ∧ (∀ j, vm.ownBlock = some j → vm0.ownBlock = some j ∨ w.heap.size ≤ j)
  new : ∀ j, l.ownBlock = some j → w.heap.size ≤ j
  fr : Fr (fun j => j = bo ∨ j = bm ∨ vo0.ownBlock = some j ∨ vm0.ownBlock = some j) w w'
theorem Twin.far {w0 w w' : World} {bo bm : Nat} {M : DM} {os : List Nat} {ps : List (Nat × Nat)} {vo vm l : Value} {fV : Nat → Value} {n : Nat} {xs : List Value} (h : Twin w0 w bo bm M os ps vo vm fV)
    (hl : w.ownsRow 0 148 2 l n xs) (hn : ∀ k, l.ownBlock = some k → w0.heap.size ≤ k) (f : Fr (fun k => l.ownBlock = some k) w w') :
    Twin w0 w' bo bm M os ps vo vm fV :=
  { h with
    co := h.co.fr f (own_ne hl h.co (by decide))
    cm := h.cm.fr f (own_ne hl h.cm (by decide))
    old := own_fr h.old f (fun _ hk e => own_ne' hl h.old (by decide) e hk)
    made := own_fr h.made f (fun _ hk e => own_ne' hl h.made (by decide) e hk)
    files := fun p hp => (h.files p hp).fr f (own_ne hl (h.files p hp) (by decide))
    rows := fun p hp => own_fr (h.rows p hp) f (fun _ hk e => own_ne' hl (h.rows p hp) (by decide) e hk)
    fr := Fr.trans' h.fr f (fun k hlt hk => absurd (hn k hk) (by omega)) }
theorem OtherAt.step {w0 w W W1 W2 : World} {bo bm : Nat} {M : DM} {ps0 ps : List (Nat × Nat)} {vo0 vm0 vo vm l l' : Value} {fV : Nat → Value} {d d1 : Dir} {k g : Nat} (hk : k < d.length) (h0 : Fr Nil w0 w)
    (T : Twin w0 W bo bm M (ps.map Prod.fst) ps vo vm fV) (hsub : ∀ p, p ∈ ps0 → p ∈ ps) (hpl : ps.length ≤ ps0.length + (k + 1)) (hdl : d1.length = k)
    (hpw : ∀ i (h1 : i < d.length) (h2 : i < d1.length), d1[i].1 = d[i].1 ∧ (d[i].2, d1[i].2) ∈ ps) (hown : W.ownsRow 0 148 2 l k (flat d1)) (hnew : ∀ j, l.ownBlock = some j → w.heap.size ≤ j)
    (hvo : ∀ j, vo.ownBlock = some j → vo0.ownBlock = some j ∨ w.heap.size ≤ j) (hvm : ∀ j, vm.ownBlock = some j → vm0.ownBlock = some j ∨ w.heap.size ≤ j)
    (hfr : Fr (fun j => j = bo ∨ j = bm ∨ vo0.ownBlock = some j ∨ vm0.ownBlock = some j) w W) (hg : (d[k].2, g) ∈ ps) (f1 : Fr Nil W W1)
    (ha : App W1 l 148 2 (k + 1) (flat d1 ++ [.string d[k].1, .pointer (some ⟨g, 0, none⟩)]) l' W2) :
    OtherAt w0 w bo bm M ps0 vo0 vm0 d (k + 1) l' W2 := by
  have hs0 := h0.size
  have hsw := hfr.size
  have hs1 := f1.size
  have hn0 : ∀ j, l.ownBlock = some j → w0.heap.size ≤ j := fun j hj => by have := hnew j hj; omega
  refine ⟨⟨ps, vo, vm, fV, d1 ++ [(d[k].1, g)], (T.keep f1).far (own_fr hown f1 (fun _ _ => id)) hn0 ha.fr, hsub, hpl, by simp [hdl], ?_, ?_, hvo, hvm⟩, ?_, ?_⟩
  · intro i h1 h2
    by_cases e : i < d1.length
    · rw [List.getElem_append_left e]
      exact hpw i h1 e
    · have e' : i = k := by simp at h2; omega
      subst e'
      rw [List.getElem_append_right (by omega)]
      simp only [hdl, Nat.sub_self, List.getElem_cons_zero]
      exact ⟨trivial, hg⟩
  · have e : flat (d1 ++ [(d[k].1, g)]) = flat d1 ++ [.string d[k].1, .pointer (some ⟨g, 0, none⟩)] := by simp [flat]
    rw [e]
    exact ha.own
  · intro j hj
    rcases ha.at_ with e | e
    · exact hnew j (by rw [← e]; exact hj)
    · rw [e] at hj; simp at hj; omega
  · refine Fr.trans' (hfr.trans (f1.mono (fun _ _ => False.elim))) ha.fr ?_
    intro j hlt hj
    have := hnew j hj
    omega
theorem Twin.born {w0 W3 w8 w9 : World} {bo bm f : Nat} {M : DM} {ps : List (Nat × Nat)} {vo vm v9 : Value} {fV : Nat → Value} {a8 : Option Addr} {c8 : Nat} (T : Twin w0 W3 bo bm M (ps.map Prod.fst ++ [f]) ps vo vm fV) (hf8 : Fr Nil W3 w8)
    (ha8 : App W3.drew (.slice none 0 0) 5 1 (0 + (M.file f).bytes.length) ([] ++ u8s (M.file f).bytes) (.slice a8 (0 + (M.file f).bytes.length) c8) w8)
    (ha9 : App ((w8.alloc (.cells #[.slice a8 (M.file f).bytes.length c8, .int .i64 (M.file f).safe] 152)).alloc (.cells #[.pointer (some ⟨w8.heap.size, 0, none⟩)] 146)) vm 146 1 (ps.length + 1)
      (ptrs (ps.map Prod.snd) ++ [.pointer (some ⟨w8.heap.size, 0, none⟩)]) v9 w9) :
    Twin w0 (w9.setCell ⟨bm, 0, none⟩ v9) bo bm M ((ps ++ [(f, w8.heap.size)]).map Prod.fst) (ps ++ [(f, w8.heap.size)]) vo v9 (fun g => if g = w8.heap.size then .slice a8 (M.file f).bytes.length c8 else fV g) ∧
      Fr (fun k => k = bm ∨ vm.ownBlock = some k) W3 (w9.setCell ⟨bm, 0, none⟩ v9) ∧ (∀ k, v9.ownBlock = some k → vm.ownBlock = some k ∨ W3.heap.size ≤ k) := by
  have hown := ha8.own
  simp only [Nat.zero_add, List.nil_append] at hown
  have hat := ha8.at_
  simp only [Nat.zero_add] at hat
  have hnf := (Blk.new w8 [.slice a8 (M.file f).bytes.length c8, .int .i64 (M.file f).safe] 152).alloc (.cells #[.pointer (some ⟨w8.heap.size, 0, none⟩)] 146)
  have hrow : ((w8.alloc (.cells #[.slice a8 (M.file f).bytes.length c8, .int .i64 (M.file f).safe] 152)).alloc (.cells #[.pointer (some ⟨w8.heap.size, 0, none⟩)] 146)).ownsRow 0 5 1 (.slice a8 (M.file f).bytes.length c8) (M.file f).bytes.length (u8s (M.file f).bytes) :=
    (hown.alloc _).alloc _
  have h := T.made_push (v8 := .slice a8 (M.file f).bytes.length c8) ((hf8.alloc _).alloc _) hrow (by
    intro k hk
    rcases hat with e | e
    · rw [e] at hk; simp [Value.ownBlock] at hk
    · rw [e] at hk; simp at hk; rw [← hk]; exact Nat.le_refl _) hnf hf8.size ha9
  rw [List.map_append]
  exact h
theorem OtherAt.step_new {w0 w w1 w2 W3 W4 W5 W6 : World} {bo bm nf : Nat} {M : DM} {ps0 ps : List (Nat × Nat)} {vo0 vm0 vo vm v3 v9 l l' : Value} {fV' : Nat → Value} {d d1 : Dir} {k : Nat} (hk : k < d.length) (h0 : Fr Nil w0 w)
    (hat : OtherAt w0 w bo bm M ps0 vo0 vm0 d k l w1) (hsub : ∀ p, p ∈ ps0 → p ∈ ps) (hpl : ps.length ≤ ps0.length + k) (hdl : d1.length = k)
    (hpw : ∀ i (h1 : i < d.length) (h2 : i < d1.length), d1[i].1 = d[i].1 ∧ (d[i].2, d1[i].2) ∈ ps)
    (hvo : ∀ j, vo.ownBlock = some j → vo0.ownBlock = some j ∨ w.heap.size ≤ j) (hvm : ∀ j, vm.ownBlock = some j → vm0.ownBlock = some j ∨ w.heap.size ≤ j)
    (hf2 : Fr Nil w1 w2) (hf3 : Fr (fun j => j = bo ∨ vo.ownBlock = some j) w2 W3) (hvo3 : ∀ j, v3.ownBlock = some j → vo.ownBlock = some j ∨ w2.heap.size ≤ j)
    (T5 : Twin w0 W4 bo bm M ((ps ++ [(d[k].2, nf)]).map Prod.fst) (ps ++ [(d[k].2, nf)]) v3 v9 fV') (hf4 : Fr (fun j => j = bm ∨ vm.ownBlock = some j) W3 W4) (hvm4 : ∀ j, v9.ownBlock = some j → vm.ownBlock = some j ∨ W3.heap.size ≤ j)
    (hown4 : W4.ownsRow 0 148 2 l k (flat d1)) (f1 : Fr Nil W4 W5)
    (ha : App W5 l 148 2 (k + 1) (flat d1 ++ [.string d[k].1, .pointer (some ⟨nf, 0, none⟩)]) l' W6) :
    OtherAt w0 w bo bm M ps0 vo0 vm0 d (k + 1) l' W6 := by
  have s1 := hat.fr.size
  have s2 := hf2.size
  have s3 := hf3.size
  refine OtherAt.step hk h0 T5 (fun p hp => List.mem_append_left _ (hsub p hp)) (by simp; omega) hdl (fun i h1 h2 => ⟨(hpw i h1 h2).1, List.mem_append_left _ (hpw i h1 h2).2⟩) hown4 hat.new ?_ ?_ ?_ (by simp) f1 ha
  · intro j hj
    rcases hvo3 j hj with e | e
    · exact hvo j e
    · exact .inr (by omega)
  · intro j hj
    rcases hvm4 j hj with e | e
    · exact hvm j e
    · exact .inr (by omega)
  · refine Fr.trans' (Fr.trans' (hat.fr.trans (hf2.mono (fun _ _ => False.elim))) hf3 ?_) hf4 ?_
    · intro j hlt hj
      rcases hj with e | e
      · exact .inl e
      · rcases hvo j e with e' | e'
        · exact .inr (.inr (.inl e'))
        · omega
    · intro j hlt hj
      rcases hj with e | e
      · exact .inr (.inl e)
      · rcases hvm j e with e' | e'
        · exact .inr (.inr (.inr e'))
        · omega
theorem own_past {w0 w2 W3 W4 : World} {bo bm : Nat} {M : DM} {os os' : List Nat} {ps ps' : List (Nat × Nat)} {vo vm vo' l : Value} {fV fV' : Nat → Value} {n : Nat} {xs : List Value} (T2 : Twin w0 w2 bo bm M os ps vo vm fV)
    (T3 : Twin w0 W3 bo bm M os' ps' vo' vm fV') (hl : w2.ownsRow 0 148 2 l n xs) (hf3 : Fr (fun j => j = bo ∨ vo.ownBlock = some j) w2 W3) (hf4 : Fr (fun j => j = bm ∨ vm.ownBlock = some j) W3 W4) :
    W4.ownsRow 0 148 2 l n xs := by
  have h3 : W3.ownsRow 0 148 2 l n xs := own_fr hl hf3 (fun k hk e => by
    rcases e with e | e
    · subst e; exact own_ne hl T2.co (by decide) hk
    · exact own_ne' T2.old hl (by decide) e hk)
  exact own_fr h3 hf4 (fun k hk e => by
    rcases e with e | e
    · subst e; exact own_ne h3 T3.cm (by decide) hk
    · exact own_ne' T3.made h3 (by decide) e hk)
theorem blk_past {w0 W3 W4 : World} {bo bm g : Nat} {M : DM} {os' : List Nat} {ps' : List (Nat × Nat)} {vm vo' : Value} {fV' : Nat → Value} {c : List Value}
    (T3 : Twin w0 W3 bo bm M os' ps' vo' vm fV') (hb : Blk W3 g c 148) (hf4 : Fr (fun j => j = bm ∨ vm.ownBlock = some j) W3 W4) : Blk W4 g c 148 :=
  hb.fr hf4 (fun e => by
    rcases e with e | e
    · exact hb.ne T3.cm (by decide) e
    · exact own_ne T3.made hb (by decide) e)
structure Own (w0 w : World) (b : Nat) (L : DL) (M : DM) : Prop where
  rep : DRep w b L M
  fr : Fr Nil w0 w
  new : ∀ k, Foot b L M k → w0.heap.size ≤ k
end Go.Proofs.YtkhnggkkiefcdaaGreatDoor
