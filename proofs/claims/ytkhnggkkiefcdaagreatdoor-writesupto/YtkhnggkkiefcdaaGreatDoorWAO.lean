/-
  larder: writes_holds: the texts LawS, LawT, LawU, LawV, LawW, LawX, PlnD, LawY, joined; 
-/
import Derived.Test.YtkhnggkkiefcdaaGreatDoorWAN
namespace Go.Proofs.YtkhnggkkiefcdaaGreatDoor
open Go.RowKit
set_option maxRecDepth 100000
set_option maxHeartbeats 1600000 in
theorem sameVersions_calls (v1 v2 : Value) (l1 l2 : List Ver) (w : World) (h1 : VRow w v1 l1) (h2 : VRow w v2 l2) (hl : l1.length < 1000000000) :
    Calls Tryz.prog 118 #[v1, v2] w fun e w' => ∃ b : Bool, e = .returned (.bool b) ∧ (b = true ↔ l1 = l2) ∧ Fr Nil w w' := by
  unfold VRow at h1 h2
  obtain ⟨a1, c1, rfl⟩ := own_form h1
  obtain ⟨a2, c2, rfl⟩ := own_form h2
  have H1 := hide h1
  have H2 := hide h2
  clear h1 h2
  by_cases hlen : l1.length = l2.length
  · have HL := hide hlen
    generalize hn : l1.length = n at hl hlen H1 ⊢
    rw [← hlen] at H2 ⊢
    have HN := hide hn
    clear hlen hn
    go_enter Tryz.func118, Tryz.ntmps118
    go_wp2_with fail
    go_loopw [5] (fun t5 w' => ∃ i : Nat, i ≤ n ∧ t5 = .int .i64 i ∧ (∀ j (h1 : j < l1.length) (h2 : j < l2.length), j < i → l1[j] = l2[j]) ∧ Fr Nil w w') (fun t5 _ => n - (intOf t5).toNat)
    case atStart => exact ⟨0, by omega, rfl, fun j _ _ h => absurd h (Nat.not_lt_zero _), Fr.refl _ _⟩
    case round =>
      obtain ⟨i, hi, rfl, hs, hf⟩ := hrel
      by_cases hlt : i < n
      · have hi1 : i < l1.length := by have := HN.out; omega
        have hi2 : i < l2.length := by have := HL.out; omega
        obtain ⟨g1, c1', e1, _, _⟩ := own_some H1.out (by omega)
        obtain ⟨g2, c2', e2, _, _⟩ := own_some H2.out (by omega)
        simp only [Value.slice.injEq] at e1 e2
        obtain ⟨rfl, -, -⟩ := e1
        obtain ⟨rfl, -, -⟩ := e2
        have hx1 : ∀ wx, Fr Nil wr wx → ∀ k, k < 8 → wx.cell? ⟨g1, i * 8 + k, none⟩ = l1[i].cells[k]? := fun wx f k hk => VRow.cells (own_fr H1.out (hf.trans f) (fun _ _ => id)) i hi1 k hk
        have hx2 : ∀ wx, Fr Nil wr wx → ∀ k, k < 8 → wx.cell? ⟨g2, i * 8 + k, none⟩ = l2[i].cells[k]? := fun wx f k hk => VRow.cells (own_fr H2.out (hf.trans f) (fun _ _ => id)) i hi2 k hk
        have HNE := hide (show ¬ l1[i] = l2[i] → ¬ l1 = l2 from fun e h => by subst h; exact e rfl)
        have HS := hide hs
        have HF := hide hf
        obtain ⟨V1, hp1⟩ : ∃ p, p = l1[i] := ⟨_, rfl⟩
        obtain ⟨V2, hp2⟩ : ∃ p, p = l2[i] := ⟨_, rfl⟩
        rw [← hp1] at hx1
        rw [← hp2] at hx2
        have HP1 := hide hp1
        have HP2 := hide hp2
        have HSV := hide (fun wx => sameVersion_calls V1 V2 wx)
        obtain ⟨b, hb⟩ : ∃ b, b = sameB V1 V2 := ⟨_, rfl⟩
        rw [← hb] at HSV
        have HB := hide hb
        obtain ⟨node, seq, o0, o1, o2, o3, value, gone⟩ := V1
        obtain ⟨node', seq', o0', o1', o2', o3', value', gone'⟩ := V2
        simp only [Ver.cells] at hx1 hx2 HSV
        clear hp1 hp2 hs hf hb
        have HCC : Hid (∀ wx, Fr Nil wr wx → wx.cell? ⟨g1, i * 8, none⟩ = some (.int .i64 node) ∧ wx.cell? ⟨g1, i * 8 + 1, none⟩ = some (.int .i64 seq) ∧ wx.cell? ⟨g1, i * 8 + 2, none⟩ = some (.int .i64 o0) ∧ wx.cell? ⟨g1, i * 8 + 3, none⟩ = some (.int .i64 o1) ∧ wx.cell? ⟨g1, i * 8 + 4, none⟩ = some (.int .i64 o2) ∧ wx.cell? ⟨g1, i * 8 + 5, none⟩ = some (.int .i64 o3) ∧ wx.cell? ⟨g1, i * 8 + 6, none⟩ = some (.string value) ∧ wx.cell? ⟨g1, i * 8 + 7, none⟩ = some (.bool gone) ∧ wx.cell? ⟨g2, i * 8, none⟩ = some (.int .i64 node') ∧ wx.cell? ⟨g2, i * 8 + 1, none⟩ = some (.int .i64 seq') ∧ wx.cell? ⟨g2, i * 8 + 2, none⟩ = some (.int .i64 o0') ∧ wx.cell? ⟨g2, i * 8 + 3, none⟩ = some (.int .i64 o1') ∧ wx.cell? ⟨g2, i * 8 + 4, none⟩ = some (.int .i64 o2') ∧ wx.cell? ⟨g2, i * 8 + 5, none⟩ = some (.int .i64 o3') ∧ wx.cell? ⟨g2, i * 8 + 6, none⟩ = some (.string value') ∧ wx.cell? ⟨g2, i * 8 + 7, none⟩ = some (.bool gone')) := fun wx f => ⟨hx1 wx f 0 (by decide), hx1 wx f 1 (by decide), hx1 wx f 2 (by decide), hx1 wx f 3 (by decide), hx1 wx f 4 (by decide), hx1 wx f 5 (by decide), hx1 wx f 6 (by decide), hx1 wx f 7 (by decide), hx2 wx f 0 (by decide), hx2 wx f 1 (by decide), hx2 wx f 2 (by decide), hx2 wx f 3 (by decide), hx2 wx f 4 (by decide), hx2 wx f 5 (by decide), hx2 wx f 6 (by decide), hx2 wx f 7 (by decide)⟩
        have hcc := HCC.out wr (Fr.refl _ _)
        clear hx1 hx2
        cases b with
        | true =>
          go_wp2_with fail
          go_region_held3 (fun w' => w'.cell? ⟨g1, i * 8, none⟩ = some (.int .i64 node) ∧ w'.cell? ⟨g1, i * 8 + 1, none⟩ = some (.int .i64 seq) ∧ w'.cell? ⟨g1, i * 8 + 2, none⟩ = some (.int .i64 o0) ∧ w'.cell? ⟨g1, i * 8 + 3, none⟩ = some (.int .i64 o1) ∧ w'.cell? ⟨g1, i * 8 + 4, none⟩ = some (.int .i64 o2) ∧ w'.cell? ⟨g1, i * 8 + 5, none⟩ = some (.int .i64 o3) ∧ w'.cell? ⟨g1, i * 8 + 6, none⟩ = some (.string value) ∧ w'.cell? ⟨g1, i * 8 + 7, none⟩ = some (.bool gone) ∧ w'.cell? ⟨g2, i * 8, none⟩ = some (.int .i64 node') ∧ w'.cell? ⟨g2, i * 8 + 1, none⟩ = some (.int .i64 seq') ∧ w'.cell? ⟨g2, i * 8 + 2, none⟩ = some (.int .i64 o0') ∧ w'.cell? ⟨g2, i * 8 + 3, none⟩ = some (.int .i64 o1') ∧ w'.cell? ⟨g2, i * 8 + 4, none⟩ = some (.int .i64 o2') ∧ w'.cell? ⟨g2, i * 8 + 5, none⟩ = some (.int .i64 o3') ∧ w'.cell? ⟨g2, i * 8 + 6, none⟩ = some (.string value') ∧ w'.cell? ⟨g2, i * 8 + 7, none⟩ = some (.bool gone')) (first | assumption | go_keep)
            (first | (go_at_call 67; refine (HSV.out _).mono ?_; rintro e w2 ⟨rfl, hf2⟩; have hF2 : Fr Nil wr w2 := Fr.trans (by repeat' first | (with_reducible first | exact Fr.refl _ _ | assumption | refine Fr.drewN ?_ _ | refine Fr.drew ?_ | refine Fr.alloc ?_ _ | refine Fr.set ?_ ?_ _) | (intro _; rfl)) hf2; have hz2 := HCC.out w2 hF2; have HF2 := hide hF2; clear hf2 hF2))
          clear hcc hz2
          go_wp2_with fail
          refine ⟨⟨i + 1, by omega, by push_cast; rfl, fun j a b hj => ?_, HF.out.trans HF2.out⟩, by simp [intOf]; omega⟩
          by_cases e : j = i
          · subst e; rw [← HP1.out, ← HP2.out]; exact (sameB_iff _ _).1 HB.out.symm
          · exact HS.out j a b (by omega)
        | false =>
          go_wp2_with fail
          go_region_held3 (fun w' => w'.cell? ⟨g1, i * 8, none⟩ = some (.int .i64 node) ∧ w'.cell? ⟨g1, i * 8 + 1, none⟩ = some (.int .i64 seq) ∧ w'.cell? ⟨g1, i * 8 + 2, none⟩ = some (.int .i64 o0) ∧ w'.cell? ⟨g1, i * 8 + 3, none⟩ = some (.int .i64 o1) ∧ w'.cell? ⟨g1, i * 8 + 4, none⟩ = some (.int .i64 o2) ∧ w'.cell? ⟨g1, i * 8 + 5, none⟩ = some (.int .i64 o3) ∧ w'.cell? ⟨g1, i * 8 + 6, none⟩ = some (.string value) ∧ w'.cell? ⟨g1, i * 8 + 7, none⟩ = some (.bool gone) ∧ w'.cell? ⟨g2, i * 8, none⟩ = some (.int .i64 node') ∧ w'.cell? ⟨g2, i * 8 + 1, none⟩ = some (.int .i64 seq') ∧ w'.cell? ⟨g2, i * 8 + 2, none⟩ = some (.int .i64 o0') ∧ w'.cell? ⟨g2, i * 8 + 3, none⟩ = some (.int .i64 o1') ∧ w'.cell? ⟨g2, i * 8 + 4, none⟩ = some (.int .i64 o2') ∧ w'.cell? ⟨g2, i * 8 + 5, none⟩ = some (.int .i64 o3') ∧ w'.cell? ⟨g2, i * 8 + 6, none⟩ = some (.string value') ∧ w'.cell? ⟨g2, i * 8 + 7, none⟩ = some (.bool gone')) (first | assumption | go_keep)
            (first | (go_at_call 67; refine (HSV.out _).mono ?_; rintro e w2 ⟨rfl, hf2⟩; have hF2 : Fr Nil wr w2 := Fr.trans (by repeat' first | (with_reducible first | exact Fr.refl _ _ | assumption | refine Fr.drewN ?_ _ | refine Fr.drew ?_ | refine Fr.alloc ?_ _ | refine Fr.set ?_ ?_ _) | (intro _; rfl)) hf2; have hz2 := HCC.out w2 hF2; have HF2 := hide hF2; clear hf2 hF2))
          clear hcc hz2
          go_wp2_with fail
          go_ret
          exact ⟨false, rfl, ⟨fun h => absurd h (by decide), fun h => absurd h (HNE.out (by rw [← HP1.out, ← HP2.out]; exact fun h => by have := (sameB_iff _ _).2 h; rw [← HB.out] at this; exact absurd this (by decide)))⟩, HF.out.trans HF2.out⟩
      · have HEQ := hide (show l1 = l2 from lists_eq HL.out (fun j a b => hs j a b (by have := HN.out; omega)))
        have HF := hide hf
        clear hs hf
        go_wp2_with fail
        go_ret
        exact ⟨true, rfl, ⟨fun _ => HEQ.out, fun _ => rfl⟩, HF.out⟩
  · have HNE := hide (show ¬ l1 = l2 from fun h => hlen (by rw [h]))
    have hla : ((l1.length : Int) != l2.length) = true := by simp; omega
    generalize l1.length = n1 at hlen hla H1 hl
    generalize l2.length = n2 at hlen hla H2
    go_enter Tryz.func118, Tryz.ntmps118
    go_wp2_with fail
    go_ret
    exact ⟨false, rfl, ⟨fun h => absurd h (by decide), fun h => absurd h HNE.out⟩, Fr.refl _ _⟩
set_option maxHeartbeats 1600000 in
theorem asks_state (K : Nat → Prop) (B : Nat) (L : WL) (W : WM) (X : NL) (N : NM) (M : DM) (o : OpM) (w : World) (h : Play K B w L W X N M) (hk : o.kind = 10) (hp : 0 < L.ps.length) (hl : L.ps.length < 1000000)
    (m : LM) (hm : W.st[L.ps.length - 1]? = some m) (hro : N.readOnly = W.broken) (hkl : N.S.keys.length = m.keys.length) (hhl : N.S.hints.length = m.hints.length) :
    Calls Tryz.prog 65 #[.pointer (some ⟨L.wb, 0, none⟩), .agg o.cells.toArray] w fun e w' => e = .returned (.bool true) ∧ PStep K B L X M w K L W X N M w' := by
  obtain ⟨kind, a, b, c, key, text, v, tails⟩ := o
  simp only at hk ⊢
  subst hk
  simp only [OpM.cells, Ver.cells, List.cons_append, List.nil_append]
  have f1 : Fr Nil w (w.alloc (.cells #[.int .i64 10, .int .i64 a, .int .i64 b, .int .i64 c, .string key, .string text, .int .i64 v.node, .int .i64 v.seq, .int .i64 v.o0, .int .i64 v.o1, .int .i64 v.o2, .int .i64 v.o3, .string v.value, .bool v.gone, tails] 39)) := (Fr.refl _ _).alloc _
  have hb1 := Blk.new w [.int .i64 10, .int .i64 a, .int .i64 b, .int .i64 c, .string key, .string text, .int .i64 v.node, .int .i64 v.seq, .int .i64 v.o0, .int .i64 v.o1, .int .i64 v.o2, .int .i64 v.o3, .string v.value, .bool v.gone, tails] 39
  have HC := hide (fun wx (f : Fr Nil w wx) => calls_calls wx L.db X.LD M ((h.marks).nil f))
  have HST := hide (fun wx (f : Fr Nil w wx) => state_calls X N M wx (h.node.nil f))
  have HNOW := hide (fun wx (f : Fr Nil w wx) => now_calls K L W wx (h.wat.nil f) hp (by omega))
  have hple : L.ps.length = W.st.length := h.wat.ple
  have hlm : W.st[L.ps.length - 1]'(by omega) = m := by rw [List.getElem?_eq_getElem (by omega)] at hm; exact Option.some.inj hm
  have hlast := (h.wat.last hp).2
  simp only [hlm] at hlast
  obtain ⟨q, hqq⟩ : ∃ q, q = L.ps[L.ps.length - 1] := ⟨_, rfl⟩
  rw [← hqq] at hlast HNOW
  obtain ⟨kv, hv, ents, ha, hKb⟩ := hlast
  have hel : ents.length = m.keys.length := ha.pair.length
  obtain ⟨ka, kc, rfl⟩ := own_form ha.ent
  obtain ⟨ja, jc, rfl⟩ := own_form ha.hint
  have HQB := hide ha.blk
  have hcw : ∀ wx, Fr Nil w wx → ∀ k, wx.cell? ⟨L.wb, k, none⟩ = (W.cells L)[k]? := fun wx f => (h.wat.nil f).blk.cell
  have HCW := hide hcw
  have hc0 := hcw _ f1
  simp only [WM.cells, h.nv] at hc0
  have hc1 := hb1.cell
  have HF1 := hide f1
  have HB1 := hide hb1
  have HH := hide h
  rw [hel] at HQB
  clear h f1 hb1 hlm hqq ha hcw hel hKb
  go_enter Tryz.func65, Tryz.ntmps65
  go_wp2_with (refine (HC.out _ HF1.out).mono ?_; rintro e wx ⟨rfl, hwx⟩; subst wx)
  refine (HNOW.out _ HF1.out).mono ?_
  rintro e w2 ⟨rfl, n2, hw2⟩
  subst w2
  have hF2 : Fr Nil w ((w.alloc (.cells #[.int .i64 10, .int .i64 a, .int .i64 b, .int .i64 c, .string key, .string text, .int .i64 v.node, .int .i64 v.seq, .int .i64 v.o0, .int .i64 v.o1, .int .i64 v.o2, .int .i64 v.o3, .string v.value, .bool v.gone, tails] 39)).drewN n2) := HF1.out.drewN n2
  have hc2 := HCW.out _ hF2
  simp only [WM.cells, HH.out.nv] at hc2
  have hx2 : ∀ k, ((w.alloc (.cells #[.int .i64 10, .int .i64 a, .int .i64 b, .int .i64 c, .string key, .string text, .int .i64 v.node, .int .i64 v.seq, .int .i64 v.o0, .int .i64 v.o1, .int .i64 v.o2, .int .i64 v.o3, .string v.value, .bool v.gone, tails] 39)).drewN n2).cell? ⟨w.heap.size, k, none⟩ = _ := (HB1.out.drewN n2).cell
  have HF2 := hide hF2
  clear hc0 hc1 hF2
  generalize (w.alloc (.cells #[.int .i64 10, .int .i64 a, .int .i64 b, .int .i64 c, .string key, .string text, .int .i64 v.node, .int .i64 v.seq, .int .i64 v.o0, .int .i64 v.o1, .int .i64 v.o2, .int .i64 v.o3, .string v.value, .bool v.gone, tails] 39)).drewN n2 = w2 at hc2 hx2 HF2 ⊢
  go_wp2_with fail
  refine (HST.out _ HF2.out).mono ?_
  rintro e w3 ⟨rfl, f3⟩
  rw [hro, hkl, hhl]
  have hb4 := Blk.new w3 [.bool W.broken, .int .i64 m.keys.length, .int .i64 m.hints.length] 81
  have f4 : Fr Nil w (w3.alloc (.cells #[.bool W.broken, .int .i64 m.keys.length, .int .i64 m.hints.length] 81)) := (HF2.out.trans f3).alloc _
  have hw4 : ∀ n k, ((w3.alloc (.cells #[.bool W.broken, .int .i64 m.keys.length, .int .i64 m.hints.length] 81)).drewN n).cell? ⟨L.wb, k, none⟩ = (W.cells L)[k]? := fun n => HCW.out _ (f4.drewN n)
  have hs4 : ∀ n k, ((w3.alloc (.cells #[.bool W.broken, .int .i64 m.keys.length, .int .i64 m.hints.length] 81)).drewN n).cell? ⟨w3.heap.size, k, none⟩ = [Value.bool W.broken, .int .i64 m.keys.length, .int .i64 m.hints.length][k]? := fun n => (hb4.drewN n).cell
  have hq4 : ∀ n k, ((w3.alloc (.cells #[.bool W.broken, .int .i64 m.keys.length, .int .i64 m.hints.length] 81)).drewN n).cell? ⟨q, k, none⟩ = _ := fun n => (HQB.out.fr (f4.drewN n) (fun e => e)).cell
  have HF4 := hide f4
  simp only [WM.cells] at hw4
  clear hc2 hx2 f4 f3 hb4 hro hkl hhl hple hm
  generalize m.keys.length = kl at *
  generalize m.hints.length = hl2 at *
  generalize W.broken = br at *
  cases br
  all_goals
    go_wp2_with fail
    go_quiet (fail)
    go_wp2_with fail
    refine (HC.out _ (HF4.out.drewN _)).mono ?_
    rintro e wx ⟨rfl, hwx⟩
    subst wx
    go_wp2_with fail
    go_ret
    exact ⟨rfl, HH.out.nil (HF4.out.drewN _)⟩
set_option maxHeartbeats 800000 in
theorem among_calls (v : Value) (l : List Int) (k : Int) (w : World) (h : w.ownsRow 0 3 1 v l.length (l.map (.int .i64 ·))) (hl : l.length < 1000000000) :
    Calls Tryz.prog 48 #[v, .int .i64 k] w fun e w' => e = .returned (.bool (decide (k ∈ l))) ∧ Fr Nil w w' := by
  obtain ⟨a1, c1, rfl⟩ := own_form h
  have H1 := hide h
  clear h
  generalize hn : l.length = n at hl H1 ⊢
  have HN := hide hn
  clear hn
  go_enter Tryz.func48, Tryz.ntmps48
  go_wp2_with fail
  go_loopw [5] (fun t5 w' => ∃ i : Nat, i ≤ n ∧ t5 = .int .i64 i ∧ (∀ j (h1 : j < l.length), j < i → ¬ l[j] = k) ∧ Fr Nil w w') (fun t5 _ => n - (intOf t5).toNat)
  case atStart => exact ⟨0, by omega, rfl, fun j _ h => absurd h (Nat.not_lt_zero _), Fr.refl _ _⟩
  case round =>
    obtain ⟨i, hi, rfl, hs, hf⟩ := hrel
    have HS := hide hs
    have HF := hide hf
    by_cases hlt : i < n
    · have hi1 : i < l.length := by have := HN.out; omega
      obtain ⟨g1, c1', e1, _, _⟩ := own_some H1.out (by omega)
      simp only [Value.slice.injEq] at e1
      obtain ⟨rfl, -, -⟩ := e1
      have hx1 : wr.cell? ⟨g1, i, none⟩ = some (.int .i64 l[i]) := by
        have := own_cell? (own_fr H1.out hf (fun _ _ => id)) i (.int .i64 l[i]) (by simp [hi1])
        simpa using this
      clear hs hf
      by_cases hk : l[i] = k
      · have HR := hide (show decide (k ∈ l) = true by simp only [decide_eq_true_eq]; rw [← hk]; exact List.getElem_mem hi1)
        rw [hk] at hx1
        have hkk : (k == k) = true := by simp
        clear hk
        go_wp2_with fail
        go_ret
        exact ⟨by rw [HR.out]; rfl, HF.out⟩
      · have HK := hide hk
        obtain ⟨x, hx⟩ : ∃ x, x = l[i] := ⟨_, rfl⟩
        rw [← hx] at hx1 hk
        have hkk : (x == k) = false := by simp [hk]
        clear hx
        go_wp2_with fail
        refine ⟨⟨i + 1, by omega, by push_cast; rfl, fun j a hj => ?_, HF.out⟩, by simp [intOf]; omega⟩
        by_cases e : j = i
        · subst e; exact HK.out
        · exact HS.out j a (by omega)
    · have HR := hide (show decide (k ∈ l) = false by
        simp only [decide_eq_false_iff_not]
        intro hm
        obtain ⟨j, hj, e⟩ := List.getElem_of_mem hm
        exact hs j hj (by have := HN.out; omega) e)
      clear hs hf
      go_wp2_with fail
      go_ret
      exact ⟨by rw [HR.out]; rfl, HF.out⟩
def roomOf (c : Int) : Int := if c < 0 then 1152921504606846976 else c
def WM.begins (node room seg syn : Int) (base : Nat) : WM := ⟨node, room, seg, syn, false, false, 0, 0, 0, 0, 0, base, 0, [⟨node, [], []⟩], ⟨[], [], [], [], [], []⟩⟩
def WL.begins (db : Nat) : WL := ⟨db + 1, db, .pointer none, .slice (some ⟨db + 3, 0, none⟩) 1 1, .slice none 0 0, [db + 2], .slice none 0 0, .slice none 0 0, .slice none 0 0, .slice none 0 0, .slice none 0 0, .slice none 0 0⟩
theorem wat_begins (w3 : World) (db : Nat) (node room seg syn : Int) (base : Nat) (hb : Blk w3 (db + 1) [.int .i64 node, .int .i64 room, .int .i64 seg, .int .i64 syn, .pointer (some ⟨db, 0, none⟩), .pointer none, .slice none 0 0, .bool false, .bool false, .int .i64 0, .int .i64 0, .int .i64 0, .int .i64 0, .int .i64 0, .slice none 0 0, .int .i64 0, .int .i64 0, .slice none 0 0, .slice none 0 0, .slice none 0 0, .slice none 0 0, .slice none 0 0, .slice none 0 0] 49) (hs : w3.heap.size = db + 2) :
    WAt (fun k => k = db + 2) ((((w3.alloc (.cells #[.int .i64 node, .slice none 0 0, .slice none 0 0] 107)).alloc (.cells #[.pointer (some ⟨db + 2, 0, none⟩)] 104)).setCell ⟨db + 1, 6, none⟩ (.slice (some ⟨db + 3, 0, none⟩) 1 1)).setCell ⟨db + 1, 15, none⟩ (.int .i64 base)) (WL.begins db) (WM.begins node room seg syn base) := by
  have f4 : Fr Nil w3 (w3.alloc (.cells #[.int .i64 node, .slice none 0 0, .slice none 0 0] 107)) := (Fr.refl _ _).alloc _
  have hbm := Blk.new w3 [.int .i64 node, .slice none 0 0, .slice none 0 0] 107
  have hs4 : (w3.alloc (.cells #[.int .i64 node, .slice none 0 0, .slice none 0 0] 107)).heap.size = db + 3 := by simp [hs]
  rw [hs] at hbm
  generalize w3.alloc (.cells #[.int .i64 node, .slice none 0 0, .slice none 0 0] 107) = w4 at *
  have f5 : Fr Nil w4 (w4.alloc (.cells #[.pointer (some ⟨db + 2, 0, none⟩)] 104)) := (Fr.refl _ _).alloc _
  have hbs := Blk.new w4 [.pointer (some ⟨db + 2, 0, none⟩)] 104
  have hs5 : (w4.alloc (.cells #[.pointer (some ⟨db + 2, 0, none⟩)] 104)).heap.size = db + 4 := by simp [hs4]
  rw [hs4] at hbs
  generalize w4.alloc (.cells #[.pointer (some ⟨db + 2, 0, none⟩)] 104) = w5 at *
  have hb5 := ((hb.fr f4 (fun e => e)).fr f5 (fun e => e))
  have hbm5 := hbm.fr f5 (fun e => e)
  have g6 : Fr (fun k => k = db + 1) w5 (w5.setCell ⟨db + 1, 6, none⟩ (.slice (some ⟨db + 3, 0, none⟩) 1 1)) := Fr.set (S := fun k => k = db + 1) (p := ⟨db + 1, 6, none⟩) (Fr.refl _ _) (fun _ => rfl) _
  have g7 : Fr (fun k => k = db + 1) w5 ((w5.setCell ⟨db + 1, 6, none⟩ (.slice (some ⟨db + 3, 0, none⟩) 1 1)).setCell ⟨db + 1, 15, none⟩ (.int .i64 base)) := Fr.set (S := fun k => k = db + 1) (p := ⟨db + 1, 15, none⟩) g6 (fun _ => rfl) _
  have hb7 := (hb5.set 6 (.slice (some ⟨db + 3, 0, none⟩) 1 1)).set 15 (.int .i64 base)
  have hbm7 := hbm5.fr g7 (by omega)
  have hbs7 := hbs.fr g7 (by omega)
  have hs7 := g7.size
  generalize (w5.setCell ⟨db + 1, 6, none⟩ (.slice (some ⟨db + 3, 0, none⟩) 1 1)).setCell ⟨db + 1, 15, none⟩ (.int .i64 base) = w7 at *
  refine ⟨by simpa [WM.cells, WM.begins, WL.begins] using hb7, own_of (cap := 1) hbs7 (Nat.le_refl _) (by decide) rfl rfl, rfl, fun i h1 h2 => ?_, ⟨World.ownsRow_nil w7 0 _ _, World.ownsRow_nil w7 0 _ _, World.ownsRow_nil w7 0 _ _, World.ownsRow_nil w7 0 _ _, World.ownsRow_nil w7 0 _ _, World.ownsRow_nil w7 0 _ _, fun k e => by simp [WL.begins, Value.ownBlock] at e, fun k e => by simp [WL.begins, Value.ownBlock] at e⟩, fun k e => ⟨by omega, fun h => ?_⟩⟩
  · have : i = 0 := by simp [WL.begins] at h1; exact h1
    subst this
    refine ⟨.slice none 0 0, .slice none 0 0, [], ⟨hbm7, World.ownsRow_nil w7 0 _ _, trivial, World.ownsRow_nil w7 0 _ _⟩, fun k hk => ?_⟩
    rcases hk with rfl | e | e | ⟨e, he, _⟩
    · rfl
    · simp [Value.ownBlock] at e
    · simp [Value.ownBlock] at e
    · simp at he
  · subst e
    unfold WFoot WL.begins at h
    simp [Value.ownBlock] at h
theorem foot_new {b k : Nat} {room : Int} (hk : Foot b DL.new (DM.new room) k) : k = b := by
  cases hk using Foot.elim with
  | blk => rfl
  | dir e => simp [DL.new, Value.ownBlock] at e
  | safe e => simp [DL.new, Value.ownBlock] at e
  | ch e => simp [DL.new, Value.ownBlock] at e
  | chs i h1 e => exact absurd h1 (Nat.not_lt_zero _)
  | file e => cases e
  | row f hf e => cases hf
set_option maxHeartbeats 1600000 in
theorem begun_calls (node room seg syn : Int) (base : Nat) (w : World) :
    Calls Tryz.prog 16 #[.agg #[.int .i64 node, .int .i64 room, .int .i64 seg, .int .i64 syn], .int .i64 base] w fun e w' => ∃ db, w.heap.size < db ∧ e = .returned (.pointer (some ⟨db + 1, 0, none⟩)) ∧ WAt (fun k => k = db + 2) w' (WL.begins db) (WM.begins node room seg syn base) ∧ DRep w' db DL.new (DM.new (roomOf room)) ∧ Fr Nil w w' := by
  have f1 : Fr Nil w (w.alloc (.cells #[.int .i64 node, .int .i64 room, .int .i64 seg, .int .i64 syn] 23)) := (Fr.refl _ _).alloc _
  have hb1 := Blk.new w [.int .i64 node, .int .i64 room, .int .i64 seg, .int .i64 syn] 23
  have hc1 := hb1.cell
  have HF1 := hide f1
  have HB1 := hide hb1
  have HRM := hide (fun wx => room_calls room wx)
  rw [show (if room < 0 then 1152921504606846976 else room) = roomOf room from rfl] at HRM
  generalize roomOf room = r at HRM ⊢
  clear f1 hb1
  go_enter Tryz.func16, Tryz.ntmps16
  go_wp2_with fail
  generalize w.alloc (.cells #[.int .i64 node, .int .i64 room, .int .i64 seg, .int .i64 syn] 23) = wa at hc1 HF1 HB1 ⊢
  have hcc : ∀ k, wa.cell? ⟨w.heap.size, k, none⟩ = [Value.int .i64 node, .int .i64 room, .int .i64 seg, .int .i64 syn][k]? := hc1
  have HCK : Hid (∀ wx, Fr Nil wa wx → ∀ k, wx.cell? ⟨w.heap.size, k, none⟩ = [Value.int .i64 node, .int .i64 room, .int .i64 seg, .int .i64 syn][k]?) := fun wx f => (HB1.out.fr f (fun e => e)).cell
  clear hc1
  go_region_held3 (fun w' => ∀ k, w'.cell? ⟨w.heap.size, k, none⟩ = [Value.int .i64 node, .int .i64 room, .int .i64 seg, .int .i64 syn][k]?) (first | assumption | exact HCK.out _ (by repeat' first | (with_reducible first | exact Fr.refl _ _ | assumption | refine Fr.drewN ?_ _ | refine Fr.drew ?_ | refine Fr.alloc ?_ _ | refine Fr.set ?_ ?_ _) | (intro _; rfl)) | go_keep)
    (first
    | (go_at_call 50; refine (new_calls _ _).mono ?_; rintro e w2 ⟨rfl, hd2, hf2, hsz⟩; have hF2 : Fr Nil wa w2 := Fr.trans (by repeat' first | (with_reducible first | exact Fr.refl _ _ | assumption | refine Fr.drewN ?_ _ | refine Fr.drew ?_ | refine Fr.alloc ?_ _ | refine Fr.set ?_ ?_ _) | (intro _; rfl)) hf2; have hz2 := HCK.out w2 hF2; have HF2 := hide hF2; have HD2 : Hid (DRep w2 wa.heap.size DL.new (DM.new r)) := hd2; clear hf2 hd2)
    | (go_at_call 51; refine (HRM.out _).mono ?_; rintro e w2 ⟨rfl, hw2⟩; subst w2))
  replace hsz : w2.heap.size = wa.heap.size + 1 := hsz
  have hz3 : ∀ k, (w2.alloc (.cells #[.int .i64 node, .int .i64 room, .int .i64 seg, .int .i64 syn, .pointer (some ⟨wa.heap.size, 0, none⟩), .pointer none, .slice none 0 0, .bool false, .bool false, .int .i64 0, .int .i64 0, .int .i64 0, .int .i64 0, .int .i64 0, .slice none 0 0, .int .i64 0, .int .i64 0, .slice none 0 0, .slice none 0 0, .slice none 0 0, .slice none 0 0, .slice none 0 0, .slice none 0 0] 49)).cell? ⟨w.heap.size, k, none⟩ = [Value.int .i64 node, .int .i64 room, .int .i64 seg, .int .i64 syn][k]? := HCK.out _ (hF2.alloc _)
  have hb3 := Blk.new w2 [.int .i64 node, .int .i64 room, .int .i64 seg, .int .i64 syn, .pointer (some ⟨wa.heap.size, 0, none⟩), .pointer none, .slice none 0 0, .bool false, .bool false, .int .i64 0, .int .i64 0, .int .i64 0, .int .i64 0, .int .i64 0, .slice none 0 0, .int .i64 0, .int .i64 0, .slice none 0 0, .slice none 0 0, .slice none 0 0, .slice none 0 0, .slice none 0 0, .slice none 0 0] 49
  have f3 : Fr Nil w2 (w2.alloc (.cells #[.int .i64 node, .int .i64 room, .int .i64 seg, .int .i64 syn, .pointer (some ⟨wa.heap.size, 0, none⟩), .pointer none, .slice none 0 0, .bool false, .bool false, .int .i64 0, .int .i64 0, .int .i64 0, .int .i64 0, .int .i64 0, .slice none 0 0, .int .i64 0, .int .i64 0, .slice none 0 0, .slice none 0 0, .slice none 0 0, .slice none 0 0, .slice none 0 0, .slice none 0 0] 49)) := (Fr.refl _ _).alloc _
  have HD3 := hide (HD2.out.nil f3)
  have HF3 := hide (HF1.out.trans (hF2.trans f3))
  rw [hsz] at hb3
  have HB3 := hide hb3
  have HDB : Hid (wa.heap.size = wa.heap.size) := rfl
  have HLA : Hid (w.heap.size < wa.heap.size) := HB1.out.lt
  have hs3 : (w2.alloc (.cells #[.int .i64 node, .int .i64 room, .int .i64 seg, .int .i64 syn, .pointer (some ⟨wa.heap.size, 0, none⟩), .pointer none, .slice none 0 0, .bool false, .bool false, .int .i64 0, .int .i64 0, .int .i64 0, .int .i64 0, .int .i64 0, .slice none 0 0, .int .i64 0, .int .i64 0, .slice none 0 0, .slice none 0 0, .slice none 0 0, .slice none 0 0, .slice none 0 0, .slice none 0 0] 49)).heap.size = wa.heap.size + 1 + 1 := by simp [hsz]
  generalize w2.alloc (.cells #[.int .i64 node, .int .i64 room, .int .i64 seg, .int .i64 syn, .pointer (some ⟨wa.heap.size, 0, none⟩), .pointer none, .slice none 0 0, .bool false, .bool false, .int .i64 0, .int .i64 0, .int .i64 0, .int .i64 0, .int .i64 0, .slice none 0 0, .int .i64 0, .int .i64 0, .slice none 0 0, .slice none 0 0, .slice none 0 0, .slice none 0 0, .slice none 0 0, .slice none 0 0] 49) = w3 at hz3 HD3 HF3 HB3 hs3 ⊢
  have HS3 := hide hs3
  clear hz2 hF2 hsz f3 hb3 hcc HF2 HD2 hs3
  generalize hdb : wa.heap.size = db at HB3 HD3 HS3 HLA ⊢
  clear hdb HDB
  have f5 : Fr Nil w3 ((w3.alloc (.cells #[.int .i64 node, .slice none 0 0, .slice none 0 0] 107)).alloc (.cells #[.pointer (some ⟨w3.heap.size, 0, none⟩)] 104)) := ((Fr.refl _ _).alloc _).alloc _
  have hb5 := HB3.out.fr f5 (fun e => e)
  have hcw := hb5.cell
  have hzw := hb5.frozen
  have HB5 := hide hb5
  have HF5 := hide f5
  clear hb5 f5
  go_wp2_with fail
  go_ret
  have h3 : w3.heap.size = db + 2 := HS3.out
  rw [h3]
  have hgt := HLA.out
  refine ⟨db, hgt, rfl, wat_begins w3 db node room seg syn base HB3.out h3, ?_, ?_⟩
  · have g6 : Fr (fun k => k = db + 1) w3 _ := Fr.set (S := fun k => k = db + 1) (p := ⟨db + 1, 15, none⟩) (Fr.set (S := fun k => k = db + 1) (p := ⟨db + 1, 6, none⟩) (((Fr.refl _ w3).alloc (.cells #[.int .i64 node, .slice none 0 0, .slice none 0 0] 107)).alloc (.cells #[.pointer (some ⟨db + 2, 0, none⟩)] 104)) (fun _ => rfl) (.slice (some ⟨db + 3, 0, none⟩) 1 1)) (fun _ => rfl) (.int .i64 base)
    exact HD3.out.fr g6 (fun k hk => by rw [foot_new hk]; omega)
  · exact Fr.set (Fr.set ((HF3.out.alloc _).alloc _) (fun h => by simp only at h; omega) _) (fun h => by simp only at h; omega) _
set_option maxHeartbeats 3200000 in
theorem told_none (K : Nat → Prop) (B : Nat) (L : WL) (W : WM) (X : NL) (N : NM) (M : DM) (q : Nat) (m : LM) (w : World) (h : Play K B w L W X N M) (hq : MRep K w q m) (hro : N.readOnly = W.broken) (hk0 : N.S.keys = []) (hh0 : N.S.hints = []) (hmk : m.keys = []) (hmh : m.hints = []) :
    Calls Tryz.prog 101 #[.pointer (some ⟨L.wb, 0, none⟩), .pointer (some ⟨q, 0, none⟩)] w fun e w' => e = .returned (.tuple #[.pointer (some ⟨q, 0, none⟩), .bool true]) ∧ Fr Nil w w' := by
  have HST := hide (fun wx (f : Fr Nil w wx) => state_calls X N M wx (h.node.nil f))
  have HKE := hide (fun wx (f : Fr Nil w wx) => keys_calls X N M wx (h.node.nil f) (by rw [hk0]; decide))
  have HHI := hide (fun wx (f : Fr Nil w wx) => hints_calls X N M wx (h.node.nil f) (by rw [hh0]; decide))
  rw [hk0] at HST HKE
  rw [hh0] at HST HHI
  rw [hro] at HST
  simp only [List.length_nil, Int.ofNat_zero] at HST HKE HHI
  obtain ⟨kv, hv, ents, ha, hKb⟩ := hq
  have hel : ents.length = 0 := by rw [ha.pair.length, hmk]; rfl
  obtain ⟨ka, kc, rfl⟩ := own_form ha.ent
  obtain ⟨ja, jc, rfl⟩ := own_form ha.hint
  have hrow := ha.hint
  have HQB := hide ha.blk
  rw [hmh] at hrow HQB
  rw [hel] at HQB
  simp only [List.length_nil] at hrow HQB
  have HSH : Hid (∀ (v : Value) (wx : World), Fr Nil w wx → wx.ownsRow 0 75 2 v 0 (flatH []) → Calls Tryz.prog 121 #[v, .slice ja 0 jc] wx fun e w' => e = .returned (.bool true) ∧ Fr Nil wx w') := fun v wx f hr => (sameHints_calls v _ [] [] wx hr (own_fr hrow f (fun _ _ => id)) (by decide)).mono (fun e w' p => ⟨p.1, p.2⟩)
  have HCW : Hid (∀ wx, Fr Nil w wx → ∀ k, wx.cell? ⟨L.wb, k, none⟩ = (W.cells L)[k]?) := fun wx f => (h.wat.nil f).blk.cell
  have hc0 := HCW.out _ (Fr.refl _ _)
  simp only [WM.cells, h.nv] at hc0
  have HNV := hide h.nv
  clear h hel ha hKb hk0 hh0 hmk hmh hro hrow
  go_enter Tryz.func101, Tryz.ntmps101
  go_wp2_with fail
  refine (HST.out _ (Fr.refl _ _)).mono ?_
  rintro e w1 ⟨rfl, f1⟩
  have f2 : Fr Nil w (w1.alloc (.cells #[.bool W.broken, .int .i64 0, .int .i64 0] 81)) := f1.alloc _
  have hb2 := Blk.new w1 [.bool W.broken, .int .i64 0, .int .i64 0] 81
  have hc2 := HCW.out _ f2
  simp only [WM.cells, HNV.out] at hc2
  have HF2 := hide f2
  have HB2 := hide hb2
  clear hc0 f1 f2 hb2
  go_wp2_with fail
  refine (HKE.out _ HF2.out).mono ?_
  rintro e w3 ⟨vk, rfl, hrk, f3, _⟩
  have hF3 := HF2.out.trans f3
  have hc3 := HCW.out _ hF3
  simp only [WM.cells, HNV.out] at hc3
  obtain ⟨va, vc, rfl⟩ := own_form hrk
  have HF3 := hide hF3
  have HB3 := hide (HB2.out.fr f3 (fun e => e))
  clear hc2 hF3 f3 hrk
  go_wp2_with fail
  refine (HHI.out _ HF3.out).mono ?_
  rintro e w4 ⟨vh, rfl, hrh, f4, _⟩
  have hF4 := HF3.out.trans f4
  have HF4 := hide hF4
  have HB4 := hide (HB3.out.fr f4 (fun e => e))
  have HRH := hide hrh
  have hq4 := (HQB.out.fr hF4 (fun e => e)).cell
  clear hc3 hF4 f4 hrh
  go_wp2_with fail
  refine (HSH.out _ _ HF4.out HRH.out).mono ?_
  rintro e w5 ⟨rfl, f5⟩
  have hF5 := HF4.out.trans f5
  have hs5 : ∀ n k, (w5.drewN n).cell? ⟨w1.heap.size, k, none⟩ = [Value.bool W.broken, .int .i64 0, .int .i64 0][k]? := fun n => ((HB4.out.fr f5 (fun e => e)).drewN n).cell
  have hw5 : ∀ n k, (w5.drewN n).cell? ⟨L.wb, k, none⟩ = (W.cells L)[k]? := fun n => HCW.out _ (hF5.drewN n)
  have hq5 : ∀ n k, (w5.drewN n).cell? ⟨q, k, none⟩ = _ := fun n => (HQB.out.fr (hF5.drewN n) (fun e => e)).cell
  simp only [WM.cells] at hw5
  have HF5 := hide hF5
  clear hq4 hF5 f5
  generalize W.broken = br at *
  cases br
  all_goals
    go_wp2_with fail
    go_quiet (fail)
    go_wp2_with fail
    go_loopw [1, 10] (fun t1 t10 w' => t1 = .pointer (some ⟨q, 0, none⟩) ∧ t10 = .int .i64 0 ∧ Fr Nil w w') (fun _ _ _ => 0)
    case atStart => exact ⟨rfl, rfl, HF5.out.drewN _⟩
    case round =>
      obtain ⟨rfl, rfl, hf⟩ := hrel
      have hqr := (HQB.out.fr hf (fun e => e)).cell
      have HFR := hide hf
      clear hf hq5 hw5 hs5
      go_wp2_with fail
      go_ret2
      exact ⟨rfl, HFR.out⟩
set_option maxHeartbeats 3200000 in
theorem found_none (K : Nat → Prop) (B : Nat) (L : WL) (W : WM) (X : NL) (N : NM) (M : DM) (q : Nat) (m : LM) (w : World) (h : Play K B w L W X N M) (hps : L.ps = [q]) (hst : W.st = [m]) (hro : N.readOnly = W.broken) (hk0 : N.S.keys = []) (hh0 : N.S.hints = []) (hmk : m.keys = []) (hmh : m.hints = []) :
    Calls Tryz.prog 59 #[.pointer (some ⟨L.wb, 0, none⟩)] w fun e w' => e = .returned (.bool true) ∧ ∃ L', PStep K B L X M w K L' { W with fell := false } X N M w' ∧ L'.ps = [q] := by
  have hq : MRep K w q m := by
    have := h.wat.mods 0 (by rw [hps]; exact Nat.one_pos) (by rw [hst]; exact Nat.one_pos)
    simpa [hps, hst] using this
  have HT := hide (fun wx (f : Fr Nil w wx) => told_none K B L W X N M q m wx (h.nil f).rep (hq.keep (KeepX.of_fr f (fun k e => ⟨(h.wat.keep k e).1, id⟩)) (fun _ e => e)) hro hk0 hh0 hmk hmh)
  have hsts := h.wat.sts
  rw [hps] at hsts
  obtain ⟨g, c, hsv, _, _⟩ := own_some hsts (by simp)
  have hc0 : ∀ k, w.cell? ⟨L.wb, k, none⟩ = (W.cells L)[k]? := h.wat.blk.cell
  simp only [WM.cells, hsv, List.length_cons, List.length_nil] at hc0
  rw [hsv] at hsts
  have hg : w.cell? ⟨g, 0, none⟩ = some (.pointer (some ⟨q, 0, none⟩)) := own_cell? hsts 0 _ rfl
  have HH := hide h
  have HSV := hide hsv
  have HQ := hide hq
  have HW : Hid (({ W with st := [m], fell := false } : WM) = { W with fell := false }) := show _ = _ by rw [← hst]
  clear h hq hsts hsv hro hk0 hh0 hmk hmh
  go_enter Tryz.func59, Tryz.ntmps59
  go_wp2_with fail
  go_loopw [3] (fun t3 w' => t3 = .int .i64 0 ∧ w' = w) (fun _ _ => 0)
  case atStart => exact ⟨rfl, rfl⟩
  case round =>
    obtain ⟨rfl, rfl⟩ := hrel
    go_wp2_with fail
    refine (HT.out _ (Fr.refl _ _)).mono ?_
    rintro e w1 ⟨rfl, f1⟩
    have hc1 : ∀ k, w1.cell? ⟨L.wb, k, none⟩ = (W.cells L)[k]? := (HH.out.nil f1).rep.wat.blk.cell
    simp only [WM.cells, HSV.out, List.length_cons, List.length_nil] at hc1
    have hz1 := (HH.out.nil f1).rep.wat.blk.frozen
    have HF1 := hide f1
    clear hc0 hg f1
    have HNIL : Hid (w1.ownsRow 0 104 1 (.slice none 0 0) 0 []) := World.ownsRow_nil w1 0 _ _
    have HB4 : Hid (∀ w4 : World, Fr (fun k => (Value.slice none 0 0).ownBlock = some k) w1 w4 → Blk w4 L.wb (W.cells L) 49) := fun w4 f => (HH.out.nil HF1.out).rep.wat.blk.fr f (fun e => by simp [Value.ownBlock] at e)
    go_wp2_with (at_builtin; (refine wpList_app rfl _ _ _ _ rfl _ _ (by rfl) (by rfl) (app_ptr w1 _ _ _ HNIL.out q (by decide) _ (by repeat' first | (with_reducible first | exact Fr.refl _ _ | assumption | refine Fr.drewN ?_ _ | refine Fr.drew ?_ | refine Fr.alloc ?_ _ | refine Fr.set ?_ ?_ _) | (intro _; rfl)) _ (by exact Blk.new _ [_] _) _) ?_; rintro v4 w4 ⟨ho4, hf4, hn4⟩; have hb4 := HB4.out _ hf4; obtain ⟨va4, vc4, hv4⟩ := own_form ho4; have hc4 := hb4.cell; simp only [WM.cells] at hc4; have hz4 := hb4.frozen))
    have HP1 := HH.out.nil HF1.out
    have HST := WStep.states HP1.rep.wat (v' := v4) (qs := [q]) (st' := [m]) (w4 := w4) ho4 (hf4.mono (fun _ _ e => by simp [Value.ownBlock] at e)) (fun b e => (hn4 b e).elim (fun e => by simp [Value.ownBlock] at e) .inr) rfl (fun i a b => by
      have : i = 0 := by simp at a; exact a
      subst this
      exact HQ.out.keep (KeepX.of_fr HF1.out (fun k e => ⟨(HH.out.wat.keep k e).1, id⟩)) (fun _ e => e))
    have HS2 := HST.trans (WStep.set HST.rep 7 (.bool false) (L' := { L with sv := v4, ps := [q] }) (W' := { W with st := [m], fell := false }) (by simp [WM.cells]) rfl rfl rfl rfl rfl rfl rfl rfl rfl rfl rfl rfl rfl)
    rw [HW.out] at HS2
    subst hv4
    go_ret
    exact ⟨rfl, _, HP1.trans (HP1.rep.turn HS2), rfl⟩
theorem infoVS : ((Tryz.prog.info? 61).map fun i => (i.zero.map (·.cells.size), i.size, i.bytes)) = some (some 1, 1, 24) := by kernel_rfl
theorem infoSS : ((Tryz.prog.info? 91).map fun i => (i.zero.map (·.cells.size), i.size, i.bytes)) = some (some 1, 1, 24) := by kernel_rfl
theorem infoHS : ((Tryz.prog.info? 66).map fun i => (i.zero.map (·.cells.size), i.size, i.bytes)) = some (some 1, 1, 24) := by kernel_rfl
theorem infoInt : ((Tryz.prog.info? 3).map fun i => (i.zero.map (·.cells.size), i.size, i.bytes)) = some (some 1, 1, 8) := by kernel_rfl
theorem app_one {t e : TypeId} {bytes : Nat} (ht : Tryz.prog.underlying t = some (.slice e)) (hI : ((Tryz.prog.info? e).map fun i => (i.zero.map (·.cells.size), i.size, i.bytes)) = some (some 1, 1, bytes)) (hby : bytes ≤ 24)
    (w : World) (v : Value) (n : Nat) (xs : List Value) (h : w.ownsRow 0 e 1 v n xs) (x : Value) (h1 : x.oneCell' = true) (hn : n < 1000000000) (W0 : World) (hf : Fr Nil w W0) (N : Nat) (hN : Blk W0 N [x] e) (ty : TypeId) :
    ∃ v' w', (Builtin.append_ #[t, t] ty #[v, .slice (some ⟨N, 0, none⟩) 1 1]).run Tryz.prog W0 = .ok v' w' ∧
      (w'.ownsRow 0 e 1 v' (n + 1) (xs ++ [x]) ∧ Fr (fun k => v.ownBlock = some k) w w' ∧ (∀ k, v'.ownBlock = some k → v.ownBlock = some k ∨ w.heap.size ≤ k)) := by
  have ho := own_fr h hf (fun _ _ => id)
  obtain ⟨v', w', hr, h1', h2, h3⟩ := run_app_slice (P := Tryz.prog) t ty e 1 bytes ht hI (by omega) v n xs ho ⟨N, 0, none⟩ 1 1 [x] rfl
    (fun j u hu => by rw [Addr.add_lit, Nat.zero_add, hN.cell]; exact hu) (by intro u hu; simp at hu; subst hu; exact h1) (by unfold maxLen; omega) (Nat.le_trans (Nat.mul_le_mul_left _ hby) (by omega))
  refine ⟨v', w', hr, h1', (hf.mono (fun _ _ e => absurd e id)).trans' ((Fr.of_grown h2).mono (fun i _ h => h)) (fun i _ h => h), fun k hk => ?_⟩
  rcases h3 with h3 | h3
  · exact .inl (by rw [← h3]; exact hk)
  · rw [h3] at hk; simp at hk; have := hf.size; exact .inr (by omega)
structure NInv (T : Nat) (W : WM) (N : NM) (M : DM) (m : LM) (t : Nat) : Prop where
  log : LogInv T N.J M t
  held : HeldOk N.S
  keys : m.keys = N.S.keys
  hints : m.hints = N.S.hints
  self : m.node = N.self
  ro : N.readOnly = false
  broken : W.broken = false
  most : W.most = N.given
  given : N.given ≤ W.calls
  calls : W.calls ≤ t
  nw : N.writes ≤ t
  ww : W.writes ≤ t
  nk : N.S.keys.length ≤ t
  last : W.st[W.st.length - 1]? = some m
  len : W.st.length ≤ t + 1
  next : W.next ≤ t
  base : W.base ≤ 100000
  bvs : W.bk.vs.length ≤ 4 * t
  bvm : W.bk.vm.length ≤ 4 * t
  bns : W.bk.ns.length ≤ 4 * t
  bnm : W.bk.nm.length ≤ 4 * t
  bhs : W.bk.hs.length ≤ 4 * t
  bhm : W.bk.hm.length ≤ 4 * t
theorem NInv.tt {T : Nat} {W : WM} {N : NM} {M : DM} {m : LM} {t : Nat} (h : NInv T W N M m t) (ht : t ≤ T) : t ≤ 100000000 := by have := h.log.room; omega
theorem NInv.ver {T : Nat} {W : WM} {N : NM} {M : DM} {m : LM} {t : Nat} (h : NInv T W N M m t) (key : ByteArray) : versM m.keys key = getK N.S.keys key := by
  rw [h.keys]
  exact versM_eq key h.held.asc
theorem NInv.more {T : Nat} {W : WM} {N : NM} {M : DM} {m : LM} {t u : Nat} (h : NInv T W N M m t) (hu : t ≤ u) : NInv T W N M m u :=
  ⟨h.log.more hu, h.held, h.keys, h.hints, h.self, h.ro, h.broken, h.most, h.given, Nat.le_trans h.calls hu, Nat.le_trans h.nw hu, Nat.le_trans h.ww hu, Nat.le_trans h.nk hu, h.last, by have := h.len; omega, Nat.le_trans h.next hu, h.base,
   by have := h.bvs; omega, by have := h.bvm; omega, by have := h.bns; omega, by have := h.bnm; omega, by have := h.bhs; omega, by have := h.bhm; omega⟩
structure Took (W W' : WM) (m : LM) : Prop where
  broken : W'.broken = W.broken
  most : W'.most = W.most
  calls : W'.calls = W.calls
  writes : W'.writes ≤ W.writes + 1
  last : W'.st[W'.st.length - 1]? = some m
  len : W'.st.length ≤ W.st.length + 1
  next : W'.next = W.next
  base : W'.base = W.base
  bk : W'.bk = W.bk
theorem took_is (W : WM) (m : LM) : Took W (W.took m) m := by
  unfold WM.took
  simp only
  split
  · refine ⟨rfl, rfl, rfl, Nat.le_refl _, ?_, ?_, rfl, rfl, rfl⟩
    · simp only [List.length_append, List.length_singleton, List.length_drop]
      rw [List.getElem?_drop]
      have : W.st.length + 1 - 1 + (W.st.length + 1 - (W.st.length + 1 - 1) - 1) = W.st.length := by omega
      rw [this, List.getElem?_append_right (Nat.le_refl _)]
      simp
    · simp only [List.length_append, List.length_singleton, List.length_drop]
      omega
  · refine ⟨rfl, rfl, rfl, Nat.le_refl _, ?_, ?_, rfl, rfl, rfl⟩
    · simp only [List.length_append, List.length_singleton]
      rw [List.getElem?_append_right (by omega)]
      simp
    · simp
theorem NInv.wrote {T : Nat} {W W1 W' : WM} {N N' : NM} {M M' : DM} {m m' : LM} {t u : Nat} (h : NInv T W N M m t) (hu : t + 1 ≤ u) (hT : Took W1 W' m') (hW : W1.broken = W.broken ∧ W1.writes = W.writes ∧ W1.st = W.st ∧ W1.next = W.next ∧ W1.base = W.base ∧ W1.bk = W.bk)
    (hlog : LogInv T N'.J M' u) (hheld : HeldOk N'.S) (hkeys : m'.keys = N'.S.keys) (hhints : m'.hints = N'.S.hints) (hself : m'.node = m.node) (hself2 : N'.self = N.self) (hro : N'.readOnly = N.readOnly)
    (hmost : W1.most = N'.given) (hgiven : N'.given ≤ W1.calls) (hcalls : W1.calls ≤ u) (hnw : N'.writes ≤ N.writes + 1) (hnk : N'.S.keys.length ≤ N.S.keys.length + 1) : NInv T W' N' M' m' u := by
  obtain ⟨e1, e2, e3, e4, e5, e6⟩ := hW
  exact ⟨hlog, hheld, hkeys, hhints, by rw [hself, h.self, hself2], hro.trans h.ro, by rw [hT.broken, e1, h.broken], by rw [hT.most, hmost], by rw [hT.calls]; exact hgiven, by rw [hT.calls]; exact hcalls, by have := h.nw; omega, by have := h.ww; have := hT.writes; omega, by have := h.nk; omega, hT.last, by have := hT.len; have := h.len; rw [e3] at *; omega, by rw [hT.next, e4]; have := h.next; omega, by rw [hT.base, e5]; exact h.base,
   by rw [hT.bk, e6]; have := h.bvs; omega, by rw [hT.bk, e6]; have := h.bvm; omega, by rw [hT.bk, e6]; have := h.bns; omega, by rw [hT.bk, e6]; have := h.bnm; omega, by rw [hT.bk, e6]; have := h.bhs; omega, by rw [hT.bk, e6]; have := h.bhm; omega⟩
theorem grV_isN (l : List Ver) (n : Int) (h : ∀ u ∈ l, u.Nat) : isN (grV l n) := by
  unfold grV
  have key : ∀ (l : List Ver) (a : Int), isN a → (∀ u ∈ l, u.Nat) → isN (l.foldl (fun m u => if u.node = n then max m u.seq else m) a) := by
    intro l
    induction l with
    | nil => intro a ha _; exact ha
    | cons x l ih =>
      intro a ha hl
      rw [List.foldl_cons]
      refine ih _ ?_ (fun u hu => hl u (List.mem_cons_of_mem _ hu))
      split
      · have := (hl x (List.mem_cons_self ..)).seq
        unfold isN at *
        omega
      · exact ha
  exact key l 0 ⟨by decide, by decide⟩ h
theorem NInv.newV {T : Nat} {W : WM} {N : NM} {M : DM} {m : LM} {t : Nat} (h : NInv T W N M m t) (hself : N.self < 4) (hg : N.given < 1000000000000) (key text : ByteArray) (ht : text.size ≤ 128) :
    m.putV key text ((N.given + 1 : Nat) : Int) = ⟨N.self, ((N.given + 1 : Nat) : Int), grV (getK N.S.keys key) 0, grV (getK N.S.keys key) 1, grV (getK N.S.keys key) 2, grV (getK N.S.keys key) 3, text, false⟩ ∧ VOk (m.putV key text ((N.given + 1 : Nat) : Int)) := by
  have e : m.putV key text ((N.given + 1 : Nat) : Int) = ⟨N.self, ((N.given + 1 : Nat) : Int), grV (getK N.S.keys key) 0, grV (getK N.S.keys key) 1, grV (getK N.S.keys key) 2, grV (getK N.S.keys key) 3, text, false⟩ := by
    unfold LM.putV
    rw [h.ver, h.self]
  refine ⟨e, ?_⟩
  rw [e]
  have hn : ∀ u ∈ getK N.S.keys key, u.Nat := fun u hu => ((h.held.get key).2.2 u hu).nat
  have q1 : (0 : Int) ≤ ((N.self : Nat) : Int) := by omega
  have q2 : ((N.self : Nat) : Int) < 4 := by omega
  have q3 : (0 : Int) ≤ ((N.given + 1 : Nat) : Int) := by omega
  have q4 : ((N.given + 1 : Nat) : Int) < 9223372036854775808 := by omega
  exact ⟨⟨q1, q2⟩, ⟨⟨q1, Int.lt_trans q2 (by decide)⟩, ⟨q3, q4⟩, grV_isN _ _ hn, grV_isN _ _ hn, grV_isN _ _ hn, grV_isN _ _ hn, by show text.size < _; omega⟩, ht⟩
theorem NInv.newE {T : Nat} {W : WM} {N : NM} {M : DM} {m : LM} {t : Nat} (h : NInv T W N M m t) (hself : N.self < 4) (hg : N.given < 1000000000000) (key text : ByteArray) (ht : text.size ≤ 128) :
    ∀ N1 : NM, N1.S.keys = N.S.keys → N1.self = N.self → putV key text N1 (N.given + 1) = [m.putV key text ((N.given + 1 : Nat) : Int)] := by
  intro N1 h1 h2
  rw [(h.newV hself hg key text ht).1]
  unfold putV
  rw [h1, h2]
theorem NInv.put {T : Nat} {W : WM} {N : NM} {M : DM} {m : LM} {t H0 : Nat} (h : NInv T W N M m t) (hT : t + 8 ≤ T) (hself : N.self < 4) (hids : ∀ g ∈ M.ids, g < H0) (key text : ByteArray) (hkey : keyOk key = true) (hval : text.size ≤ 128) :
    (∀ H, H0 ≤ H → FitN N M H key (putV key text)) ∧ ∀ f g, H0 ≤ f → H0 ≤ g → Apart2 N M f g → (N.put M key text f g).2.1 = 0 ∧ (N.put M key text f g).2.2.2.refused = M.refused ∧ W.most < (N.put M key text f g).1 ∧ (N.put M key text f g).1 ≤ 16 * (W.calls + 1) ∧
      NInv T (({ W with calls := W.calls + 1, most := (N.put M key text f g).1 } : WM).took (m.put key text (N.put M key text f g).1)) (N.put M key text f g).2.2.1 (N.put M key text f g).2.2.2 (m.put key text (N.put M key text f g).1) (t + 8) := by
  have htt := h.tt (by omega)
  have hgv : N.given < 1000000000 := by have := h.given; have := h.calls; omega
  have hv := h.newV hself (by omega) key text hval
  have hvs := h.newE hself (by omega) key text hval
  have hve : ∀ u ∈ [m.putV key text ((N.given + 1 : Nat) : Int)], VOk u := by intro u hu; rw [List.mem_singleton] at hu; subst hu; exact hv.2
  have hrec := rec_holds hkey hve (by simp)
  refine ⟨fun H hH => fitN_calm h.log (by omega) H (fun g hg => Nat.lt_of_lt_of_le (hids g hg) hH) key _ _ hgv hvs (fok_holds hkey hve (by simp)) hrec (by have := h.nk; omega) h.held.hlen (by have := h.nw; omega), fun f g hf hg ha => ?_⟩
  obtain ⟨J', M', ls, wr, e, hw, hG⟩ := replace_calm h.log (by omega) (by omega) key (putV key text) _ f g (fun hm => by have := hids f hm; omega) (fun hm => by have := hids g hm; omega) ha hvs hrec
  have ep : N.put M key text f g = N.replace M key (putV key text) f g := by
    unfold NM.put
    rw [if_neg (by rw [hkey]; decide), if_neg (by omega), if_neg (by rw [h.ro]; decide)]
  rw [ep, e]
  have hH := (h.held.leased ls).holds key [m.putV key text ((N.given + 1 : Nat) : Int)] (by unfold AscV Asc; simp) (by simp) hve
  have hc := h.given
  refine ⟨rfl, hG.refused, by show W.most < N.given + 1; rw [h.most]; omega, by show N.given + 1 ≤ _; omega, ?_⟩
  refine h.wrote (by omega) (took_is _ _) ⟨rfl, rfl, rfl, rfl, rfl, rfl⟩ (hG.log.more (by omega)) hH ?_ h.hints rfl rfl rfl rfl (by show N.given + 1 ≤ W.calls + 1; omega) (by have := h.calls; show W.calls + 1 ≤ _; omega) hw (holds_len _ _ _)
  show withM m.keys key _ = _
  rw [h.keys, withM_eq key _ h.held.asc]
  rfl
theorem NInv.delete {T : Nat} {W : WM} {N : NM} {M : DM} {m : LM} {t H0 : Nat} (h : NInv T W N M m t) (hT : t + 8 ≤ T) (hids : ∀ g ∈ M.ids, g < H0) (key : ByteArray) (hkey : keyOk key = true) :
    (∀ H, H0 ≤ H → FitN N M H key (fun _ _ => [])) ∧ ∀ f g, H0 ≤ f → H0 ≤ g → Apart2 N M f g → (N.delete M key f g).2.1 = 0 ∧ (N.delete M key f g).2.2.2.refused = M.refused ∧ W.most < (N.delete M key f g).1 ∧ (N.delete M key f g).1 ≤ 16 * (W.calls + 1) ∧
      NInv T (({ W with calls := W.calls + 1, most := (N.delete M key f g).1 } : WM).took (m.delete key)) (N.delete M key f g).2.2.1 (N.delete M key f g).2.2.2 (m.delete key) (t + 8) := by
  have htt := h.tt (by omega)
  have hgv : N.given < 1000000000 := by have := h.given; have := h.calls; omega
  have hve : ∀ u ∈ ([] : List Ver), VOk u := by intro u hu; cases hu
  have hrec := rec_holds hkey hve (by simp)
  refine ⟨fun H hH => fitN_calm h.log (by omega) H (fun g hg => Nat.lt_of_lt_of_le (hids g hg) hH) key _ [] hgv (fun _ _ _ => rfl) (fok_holds hkey hve (by simp)) hrec (by have := h.nk; omega) h.held.hlen (by have := h.nw; omega), fun f g hf hg ha => ?_⟩
  obtain ⟨J', M', ls, wr, e, hw, hG⟩ := replace_calm h.log (by omega) (by omega) key (fun _ _ => []) [] f g (fun hm => by have := hids f hm; omega) (fun hm => by have := hids g hm; omega) ha (fun _ _ _ => rfl) hrec
  have ep : N.delete M key f g = N.replace M key (fun _ _ => []) f g := by
    unfold NM.delete
    rw [if_neg (by rw [hkey]; decide), if_neg (by rw [h.ro]; decide)]
  rw [ep, e]
  have hH := (h.held.leased ls).holds key [] (by unfold AscV Asc; simp) (by simp) hve
  have hc := h.given
  refine ⟨rfl, hG.refused, by show W.most < N.given + 1; rw [h.most]; omega, by show N.given + 1 ≤ _; omega, ?_⟩
  refine h.wrote (by omega) (took_is _ _) ⟨rfl, rfl, rfl, rfl, rfl, rfl⟩ (hG.log.more (by omega)) hH ?_ h.hints rfl rfl rfl rfl (by show N.given + 1 ≤ W.calls + 1; omega) (by have := h.calls; show W.calls + 1 ≤ _; omega) hw (holds_len _ _ _)
  show withM m.keys key _ = _
  rw [h.keys, withM_eq key _ h.held.asc]
  rfl
theorem accV_small {l : List Ver} {v : Ver} (hl : l.length ≤ 4) (hv : ∀ u ∈ l, VOk u) (hvv : VOk v) (hr : v.gone = false → (leftV l v).length < 4) : (accV l v).length ≤ 4 ∧ ∀ u ∈ accV l v, VOk u := by
  have h2 := leftV_len l v
  have h3 : ∀ u ∈ leftV l v, u ∈ l := fun u hu => (List.mem_filter.1 hu).1
  unfold accV
  split
  · exact ⟨by omega, fun u hu => hv u (h3 u hu)⟩
  · rename_i hg
    have hlt := hr (by simpa using hg)
    refine ⟨by rw [withV_length]; omega, ?_⟩
    intro u hu
    unfold withV at hu
    simp only [List.mem_append, List.mem_singleton] at hu
    rcases hu with (hu | rfl) | hu
    · exact hv u (h3 u (List.mem_of_mem_take hu))
    · exact hvv
    · exact hv u (h3 u (List.mem_of_mem_drop hu))
theorem knows_dot {l : List Ver} {v : Ver} (hk : l.any v.knows = false) : ∀ u ∈ l, u.dot ≠ v.dot := by
  intro u hu e
  have : l.any v.knows = true := by
    rw [List.any_eq_true]
    refine ⟨u, hu, ?_⟩
    unfold Ver.knows
    unfold Ver.dot at e
    simp only [Prod.mk.injEq] at e
    simp [e.1, e.2]
  rw [hk] at this
  cases this
theorem accV_asc {l : List Ver} {v : Ver} (ha : AscV l) (hk : l.any v.knows = false) : AscV (accV l v) := by
  have h1 := leftV_asc ha v
  have h3 : ∀ u ∈ leftV l v, u ∈ l := fun u hu => (List.mem_filter.1 hu).1
  unfold accV
  split
  · exact h1
  · unfold AscV at h1 ⊢
    have := Asc.ins dotLt_strict (b := v.dot) h1 (fun hlx e => by
      rw [List.getElem_map] at e
      exact knows_dot hk _ (h3 _ (List.getElem_mem _)) e)
    unfold withV
    simpa [List.map_take, List.map_drop] using this
theorem foreign_ok {self : Nat} {v : Ver} (h : foreign self v = true) (hs : v.value.size ≤ 128) : VOk v := by
  have hn := foreign_node h
  refine ⟨hn, ?_, hs⟩
  unfold foreign Ver.overs at h
  simp only [List.all_cons, List.all_nil, Bool.and_true, Bool.and_eq_true, overOk, decide_eq_true_eq] at h
  obtain ⟨⟨a, b, c, d⟩, _, _, e⟩ := h
  unfold isNode at hn
  exact ⟨⟨hn.1, by omega⟩, ⟨by omega, by omega⟩, ⟨a.1, by omega⟩, ⟨b.1, by omega⟩, ⟨c.1, by omega⟩, ⟨d.1, by omega⟩, by omega⟩
theorem NInv.fitV {T : Nat} {W : WM} {N : NM} {M : DM} {m : LM} {t H0 : Nat} (h : NInv T W N M m t) (hT : t + 8 ≤ T) (hids : ∀ g ∈ M.ids, g < H0) (key : ByteArray) (v : Ver) (H : Nat) (hH : H0 ≤ H) (hkey : keyOk key = true) (hs : v.value.size ≤ 128) (hf : foreign N.self v = true) (hr : v.gone = false → (leftV (getK N.S.keys key) v).length < 4) :
    Fit N M H (.inr (.inl (key, accV (getK N.S.keys key) v))) := by
  have htt := h.tt (by omega)
  have hg := h.held.get key
  have hok := accV_small hg.2.1 hg.2.2 (foreign_ok hf hs) hr
  exact fit_calm h.log (by omega) H (fun g hg => Nat.lt_of_lt_of_le (hids g hg) hH) _ (fok_holds hkey hok.2 (by omega)) (rec_holds hkey hok.2 (by omega)) (by have := h.nk; omega) h.held.hlen (by have := h.nw; omega)
theorem NInv.accept {T : Nat} {W : WM} {N : NM} {M : DM} {m : LM} {t H0 : Nat} (h : NInv T W N M m t) (hT : t + 8 ≤ T) (hids : ∀ g ∈ M.ids, g < H0) (key : ByteArray) (v : Ver) (hbad : badVersion N.self key v = 0) (hway : accWay (getK N.S.keys key) v = 2) :
    ∀ f, H0 ≤ f → (N.accept M key v f).1 = 0 ∧ (N.accept M key v f).2.2.refused = M.refused ∧ NInv T (W.took (m.accept key v)) (N.accept M key v f).2.1 (N.accept M key v f).2.2 (m.accept key v) (t + 8) := by
  intro f hf
  have htt := h.tt (by omega)
  have hkey : keyOk key = true := by
    cases hk : keyOk key with
    | true => rfl
    | false => unfold badVersion at hbad; rw [if_pos hk] at hbad; cases hbad
  have hs : v.value.size ≤ 128 := by
    refine Nat.le_of_not_lt fun hlt => ?_
    unfold badVersion at hbad; rw [if_neg (by rw [hkey]; decide), if_pos hlt] at hbad; cases hbad
  have hfo : foreign N.self v = true := by
    cases hk : foreign N.self v with
    | true => rfl
    | false => unfold badVersion at hbad; rw [if_neg (by rw [hkey]; decide), if_neg (by omega), if_pos hk] at hbad; cases hbad
  have e := accept_way N M key v f hbad h.ro
  rw [hway] at e
  simp only [if_neg (show ¬ (2 : Nat) = 0 by decide), if_neg (show ¬ (2 : Nat) = 1 by decide)] at e
  have hkn : (getK N.S.keys key).any v.knows = false := by
    cases hk : (getK N.S.keys key).any v.knows with
    | false => rfl
    | true => unfold accWay at hway; rw [if_pos hk] at hway; cases hway
  have hroom : v.gone = false → (leftV (getK N.S.keys key) v).length < 4 := by
    intro hg
    refine Nat.lt_of_not_le fun hle => ?_
    unfold accWay at hway; rw [if_neg (by rw [hkn]; decide), if_pos ⟨hg, hle⟩] at hway; cases hway
  have hg := h.held.get key
  have hok := accV_small hg.2.1 hg.2.2 (foreign_ok hfo hs) hroom
  obtain ⟨J', M', wr, e2, hw, hG⟩ := asked_calm h.log (by omega) (.inr (.inl (key, accV (getK N.S.keys key) v))) (rec_holds hkey hok.2 (by omega)) f (fun hm => by have := hids f hm; omega)
  rw [e, e2]
  have hdot := knows_dot hkn
  refine ⟨rfl, hG.refused, ?_⟩
  refine h.wrote (by omega) (took_is _ _) ⟨rfl, rfl, rfl, rfl, rfl, rfl⟩ (hG.log.more (by omega)) (h.held.holds key _ (accV_asc hg.1 hkn) hok.1 hok.2) ?_ h.hints rfl rfl rfl h.most h.given (by have := h.calls; omega) hw (holds_len _ _ _)
  show withM m.keys key (insM (versM m.keys key) v) = _
  rw [h.ver, insM_eq v hg.1 hdot, h.keys, withM_eq key _ h.held.asc]
  rfl
theorem NInv.fitH {T : Nat} {W : WM} {N : NM} {M : DM} {m : LM} {t H0 : Nat} (h : NInv T W N M m t) (hT : t + 8 ≤ T) (hids : ∀ g ∈ M.ids, g < H0) (to : Int) (text : ByteArray) (H : Nat) (hH : H0 ≤ H) (hs : text.size ≤ 64) (hn : nodeOk to = true) :
    Fit N M H (.inr (.inr (.inl (to.toNat, text)))) := by
  have htt := h.tt (by omega)
  unfold nodeOk at hn
  simp only [decide_eq_true_eq] at hn
  exact fit_calm h.log (by omega) H (fun g hg => Nat.lt_of_lt_of_le (hids g hg) hH) _ ⟨by show to.toNat < _; omega, by show text.size < _; omega⟩ (rec_queued (by omega) hs) (by have := h.nk; omega) h.held.hlen (by have := h.nw; omega)
theorem NInv.hint {T : Nat} {W : WM} {N : NM} {M : DM} {m : LM} {t H0 : Nat} (h : NInv T W N M m t) (hT : t + 8 ≤ T) (hids : ∀ g ∈ M.ids, g < H0) (to : Nat) (text : ByteArray) (hbad : badHint N.self to text = 0) (hroom : m.hints.length < 32) :
    ∀ f, H0 ≤ f → (N.hint M to text f).1 = 0 ∧ (N.hint M to text f).2.2.refused = M.refused ∧ NInv T (W.took (m.hint to text)) (N.hint M to text f).2.1 (N.hint M to text f).2.2 (m.hint to text) (t + 8) := by
  intro f hf
  have htt := h.tt (by omega)
  have e := hint_way N M to text f hbad h.ro
  have hh : N.S.hints.length < 32 := by rw [← h.hints]; exact hroom
  rw [if_neg (by omega), Int.toNat_natCast] at e
  have hn : nodeOk to = true := by
    cases hk : nodeOk to with
    | true => rfl
    | false => unfold badHint at hbad; rw [if_pos (by rw [hk]; rfl)] at hbad; cases hbad
  have hs : text.size ≤ 64 := by
    unfold badHint at hbad
    split at hbad
    · cases hbad
    · split at hbad
      · cases hbad
      · omega
  unfold nodeOk at hn
  simp only [decide_eq_true_eq] at hn
  obtain ⟨J', M', wr, e2, hw, hG⟩ := asked_calm h.log (by omega) (.inr (.inr (.inl (to, text)))) (rec_queued (by omega) hs) f (fun hm => by have := hids f hm; omega)
  rw [e, e2]
  refine ⟨rfl, hG.refused, ?_⟩
  refine h.wrote (by omega) (took_is _ _) ⟨rfl, rfl, rfl, rfl, rfl, rfl⟩ (hG.log.more (by omega)) ⟨h.held.asc, h.held.key, by show (N.S.hints ++ [(to, text)]).length ≤ 32; rw [List.length_append, List.length_singleton]; omega⟩ h.keys ?_ rfl rfl rfl h.most h.given (by have := h.calls; omega) hw (Nat.le_succ _)
  show m.hints ++ [(to, text)] = N.S.hints ++ [(to, text)]
  rw [h.hints]
theorem NInv.fitA {T : Nat} {W : WM} {N : NM} {M : DM} {m : LM} {t H0 : Nat} (h : NInv T W N M m t) (hT : t + 8 ≤ T) (hids : ∀ g ∈ M.ids, g < H0) (H : Nat) (hH : H0 ≤ H) : Fit N M H (.inr (.inr (.inr ()))) := by
  have htt := h.tt (by omega)
  exact fit_calm h.log (by omega) H (fun g hg => Nat.lt_of_lt_of_le (hids g hg) hH) _ trivial rec_acked (by have := h.nk; omega) h.held.hlen (by have := h.nw; omega)
theorem NInv.ack {T : Nat} {W : WM} {N : NM} {M : DM} {m : LM} {t H0 : Nat} (h : NInv T W N M m t) (hT : t + 8 ≤ T) (hids : ∀ g ∈ M.ids, g < H0) (hsome : m.hints ≠ []) :
    ∀ f, H0 ≤ f → (N.ack M f).1 = 0 ∧ (N.ack M f).2.2.refused = M.refused ∧ NInv T (W.took m.ack) (N.ack M f).2.1 (N.ack M f).2.2 m.ack (t + 8) := by
  intro f hf
  have htt := h.tt (by omega)
  have hh : N.S.hints.length ≠ 0 := fun e => hsome (by rw [h.hints]; exact List.eq_nil_of_length_eq_zero e)
  have e : N.ack M f = N.asked M (.inr (.inr (.inr ()))) f := by
    unfold NM.ack
    rw [if_neg (by rw [h.ro]; decide), if_neg hh]
  obtain ⟨J', M', wr, e2, hw, hG⟩ := asked_calm h.log (by omega) (.inr (.inr (.inr ()))) rec_acked f (fun hm => by have := hids f hm; omega)
  rw [e, e2]
  refine ⟨rfl, hG.refused, ?_⟩
  refine h.wrote (by omega) (took_is _ _) ⟨rfl, rfl, rfl, rfl, rfl, rfl⟩ (hG.log.more (by omega)) ⟨h.held.asc, h.held.key, by show (N.S.hints.drop 1).length ≤ 32; rw [List.length_drop]; have := h.held.hlen; omega⟩ h.keys ?_ rfl rfl rfl h.most h.given (by have := h.calls; omega) hw (Nat.le_succ _)
  show m.hints.drop 1 = N.S.hints.drop 1
  rw [h.hints]
theorem WStep.gen {K : Nat → Prop} {w w4 : World} {L L' : WL} {W W' : WM} {S : Nat → Prop} (h : WAt K w L W) (i : Nat) (v' : Value) (f4 : Fr S w w4) (hS : ∀ b, S b → WFoot L b ∧ b ≠ L.wb ∧ L.sv.ownBlock ≠ some b)
    (hc : (W.cells L).set i v' = W'.cells L') (e1 : L'.wb = L.wb) (e2 : L'.db = L.db) (e3 : L'.nv = L.nv) (e4 : L'.sv = L.sv) (e5 : L'.ps = L.ps) (e6 : W'.st = W.st)
    (hb : ∀ w5, Fr (fun k => k = L.wb) w4 w5 → BAt w5 L' W'.bk) (hf : ∀ k, WFoot L' k → WFoot L k ∨ w.heap.size ≤ k) :
    WStep K L w L' W' (w4.setCell ⟨L.wb, i, none⟩ v') := by
  obtain ⟨wb, db, nv, sv, tv, ps, vs, vm, ns, nm, hs, hm⟩ := L'
  simp only at e1 e2 e3 e4 e5
  subst e1 e2 e3 e4 e5
  have hb4 : Blk w4 L.wb _ _ := h.blk.fr f4 (fun e => (hS _ e).2.1 rfl)
  have fs : Fr (fun k => k = L.wb) w4 (w4.setCell ⟨L.wb, i, none⟩ v') := Fr.set (S := fun k => k = L.wb) (p := ⟨L.wb, i, none⟩) (Fr.refl _ _) (fun _ => rfl) _
  have fw : Fr (WFoot L) w (w4.setCell ⟨L.wb, i, none⟩ v') := (f4.mono (fun k _ e => (hS k e).1)).trans' (fs.mono (S' := WFoot L) (fun k _ e => .inl e)) (fun _ _ e => e)
  refine ⟨⟨?_, ?_, ?_, fun j h1 h2 => ?_, hb _ fs, fun k e => ⟨Nat.lt_of_lt_of_le (h.keep k e).1 fw.size, fun hk => (hf k hk).elim (h.keep k e).2 (fun e2 => by have := (h.keep k e).1; omega)⟩⟩, fw, hf, rfl, rfl, rfl⟩
  · rw [← hc]
    exact hb4.set i v'
  · exact own_fr (own_fr h.sts f4 (fun k e hk => (hS k hk).2.2 e)) fs (fun k e hk => by subst hk; exact own_ne h.sts h.blk (by decide) e)
  · rw [e6]; exact h.ple
  · simp only [e6] at h2 ⊢
    exact (h.mods j h1 h2).keep (KeepX.of_fr fw (fun k e => h.keep k e)) (fun _ e => e)
theorem WStep.far {K S : Nat → Prop} {w0 w w' : World} {L L' : WL} {W' : WM} (h : WStep K L w0 L' W' w) (f : Fr S w w') (h1 : ∀ k, S k → w0.heap.size ≤ k) (h2 : ∀ k, WFoot L' k → ¬ S k) (hK : ∀ k, K k → k < w0.heap.size) : WStep K L w0 L' W' w' :=
  ⟨h.rep.fr f h2 (fun k e hs => by have := h1 k hs; have := hK k e; omega), h.fr.trans' (f.mono (S' := S) (fun _ _ e => e)) (fun i hi e => by have := h1 i e; omega), h.foot, h.wb, h.db, h.nv⟩
theorem WStep.vs {K : Nat → Prop} {w w4 : World} {L : WL} {W : WM} (h : WAt K w L W) {v' : Value} {xs : List Value} (h4 : w4.ownsRow 0 61 1 v' xs.length xs) (f4 : Fr (fun b => L.vs.ownBlock = some b) w w4) (hn : ∀ b, v'.ownBlock = some b → L.vs.ownBlock = some b ∨ w.heap.size ≤ b) :
    WStep K L w { L with vs := v' } { W with bk := { W.bk with vs := xs } } (w4.setCell ⟨L.wb, 17, none⟩ v') := by
  have hty : ∀ {t : TypeId} {k : Nat}, Ty w k t → t ≠ 61 → ¬ L.vs.ownBlock = some k := fun hk ht e => ht (hk.inj (own_ty h.book.vs e))
  have hrow : ∀ {t : TypeId} {v : Value} {n s : Nat} {xs : List Value}, w.ownsRow 0 t s v n xs → t ≠ 61 → t ≠ 49 → ∀ w5, Fr (fun k => k = L.wb) w4 w5 → w5.ownsRow 0 t s v n xs := fun ho h1 h2 w5 fs =>
    own_fr (own_fr ho f4 (fun k e => hty (own_ty ho e) h1)) fs (fun k e hk => by subst hk; exact own_ne ho h.blk (fun e => h2 e.symm) e)
  have hb4 : Blk w4 L.wb _ _ := h.blk.fr f4 (hty h.blk.ty (by decide))
  refine WStep.gen h 17 v' f4 (fun b e => ⟨.inr (.inr (.inl e)), fun e2 => ?_, fun e2 => ?_⟩) (by simp [WM.cells]) rfl rfl rfl rfl rfl rfl (fun w5 fs => ⟨own_fr h4 fs (fun k e hk => by subst hk; exact own_ne h4 hb4 (by decide) e), hrow h.book.vm (by decide) (by decide) w5 fs, hrow h.book.ns (by decide) (by decide) w5 fs, hrow h.book.nm (by decide) (by decide) w5 fs, hrow h.book.hs (by decide) (by decide) w5 fs, hrow h.book.hm (by decide) (by decide) w5 fs, h.book.s1, h.book.s2⟩) (fun k hk => ?_)
  · subst e2; exact hty h.blk.ty (by decide) e
  · exact hty (own_ty h.sts e2) (by decide) e
  rcases hk with hk | hk | hk | hk | hk | hk | hk | hk
  · exact .inl (.inl hk)
  · exact .inl (.inr (.inl hk))
  · exact (hn k hk).elim (fun e => .inl (.inr (.inr (.inl e)))) .inr
  · exact .inl (.inr (.inr (.inr (.inl hk))))
  · exact .inl (.inr (.inr (.inr (.inr (.inl hk)))))
  · exact .inl (.inr (.inr (.inr (.inr (.inr (.inl hk))))))
  · exact .inl (.inr (.inr (.inr (.inr (.inr (.inr (.inl hk)))))))
  · exact .inl (.inr (.inr (.inr (.inr (.inr (.inr (.inr (hk))))))))
theorem WStep.vm {K : Nat → Prop} {w w4 : World} {L : WL} {W : WM} (h : WAt K w L W) {v' : Value} {xs : List Nat} (h4 : w4.ownsRow 0 3 1 v' xs.length (marksB xs)) (f4 : Fr (fun b => L.vm.ownBlock = some b) w w4) (hn : ∀ b, v'.ownBlock = some b → L.vm.ownBlock = some b ∨ w.heap.size ≤ b) :
    WStep K L w { L with vm := v' } { W with bk := { W.bk with vm := xs } } (w4.setCell ⟨L.wb, 18, none⟩ v') := by
  have hty : ∀ {t : TypeId} {k : Nat}, Ty w k t → t ≠ 3 → ¬ L.vm.ownBlock = some k := fun hk ht e => ht (hk.inj (own_ty h.book.vm e))
  have hrow : ∀ {t : TypeId} {v : Value} {n s : Nat} {xs : List Value}, w.ownsRow 0 t s v n xs → t ≠ 3 → t ≠ 49 → ∀ w5, Fr (fun k => k = L.wb) w4 w5 → w5.ownsRow 0 t s v n xs := fun ho h1 h2 w5 fs =>
    own_fr (own_fr ho f4 (fun k e => hty (own_ty ho e) h1)) fs (fun k e hk => by subst hk; exact own_ne ho h.blk (fun e => h2 e.symm) e)
  have hb4 : Blk w4 L.wb _ _ := h.blk.fr f4 (hty h.blk.ty (by decide))
  refine WStep.gen h 18 v' f4 (fun b e => ⟨.inr (.inr (.inr (.inl e))), fun e2 => ?_, fun e2 => ?_⟩) (by simp [WM.cells]) rfl rfl rfl rfl rfl rfl (fun w5 fs => ⟨hrow h.book.vs (by decide) (by decide) w5 fs, own_fr h4 fs (fun k e hk => by subst hk; exact own_ne h4 hb4 (by decide) e), hrow h.book.ns (by decide) (by decide) w5 fs, own_fr (own_fr h.book.nm f4 (fun k e hk => (h.book.s1 k hk).1 e)) fs (fun k e hk => by subst hk; exact own_ne h.book.nm h.blk (by decide) e), hrow h.book.hs (by decide) (by decide) w5 fs, own_fr (own_fr h.book.hm f4 (fun k e hk => (h.book.s1 k hk).2 e)) fs (fun k e hk => by subst hk; exact own_ne h.book.hm h.blk (by decide) e), fun k e => (hn k e).elim (h.book.s1 k) (fun e3 => ⟨fun e2 => by have := own_lt h.book.nm e2; omega, fun e2 => by have := own_lt h.book.hm e2; omega⟩), h.book.s2⟩) (fun k hk => ?_)
  · subst e2; exact hty h.blk.ty (by decide) e
  · exact hty (own_ty h.sts e2) (by decide) e
  rcases hk with hk | hk | hk | hk | hk | hk | hk | hk
  · exact .inl (.inl hk)
  · exact .inl (.inr (.inl hk))
  · exact .inl (.inr (.inr (.inl hk)))
  · exact (hn k hk).elim (fun e => .inl (.inr (.inr (.inr (.inl e))))) .inr
  · exact .inl (.inr (.inr (.inr (.inr (.inl hk)))))
  · exact .inl (.inr (.inr (.inr (.inr (.inr (.inl hk))))))
  · exact .inl (.inr (.inr (.inr (.inr (.inr (.inr (.inl hk)))))))
  · exact .inl (.inr (.inr (.inr (.inr (.inr (.inr (.inr (hk))))))))
theorem WStep.ns {K : Nat → Prop} {w w4 : World} {L : WL} {W : WM} (h : WAt K w L W) {v' : Value} {xs : List Value} (h4 : w4.ownsRow 0 91 1 v' xs.length xs) (f4 : Fr (fun b => L.ns.ownBlock = some b) w w4) (hn : ∀ b, v'.ownBlock = some b → L.ns.ownBlock = some b ∨ w.heap.size ≤ b) :
    WStep K L w { L with ns := v' } { W with bk := { W.bk with ns := xs } } (w4.setCell ⟨L.wb, 19, none⟩ v') := by
  have hty : ∀ {t : TypeId} {k : Nat}, Ty w k t → t ≠ 91 → ¬ L.ns.ownBlock = some k := fun hk ht e => ht (hk.inj (own_ty h.book.ns e))
  have hrow : ∀ {t : TypeId} {v : Value} {n s : Nat} {xs : List Value}, w.ownsRow 0 t s v n xs → t ≠ 91 → t ≠ 49 → ∀ w5, Fr (fun k => k = L.wb) w4 w5 → w5.ownsRow 0 t s v n xs := fun ho h1 h2 w5 fs =>
    own_fr (own_fr ho f4 (fun k e => hty (own_ty ho e) h1)) fs (fun k e hk => by subst hk; exact own_ne ho h.blk (fun e => h2 e.symm) e)
  have hb4 : Blk w4 L.wb _ _ := h.blk.fr f4 (hty h.blk.ty (by decide))
  refine WStep.gen h 19 v' f4 (fun b e => ⟨.inr (.inr (.inr (.inr (.inl e)))), fun e2 => ?_, fun e2 => ?_⟩) (by simp [WM.cells]) rfl rfl rfl rfl rfl rfl (fun w5 fs => ⟨hrow h.book.vs (by decide) (by decide) w5 fs, hrow h.book.vm (by decide) (by decide) w5 fs, own_fr h4 fs (fun k e hk => by subst hk; exact own_ne h4 hb4 (by decide) e), hrow h.book.nm (by decide) (by decide) w5 fs, hrow h.book.hs (by decide) (by decide) w5 fs, hrow h.book.hm (by decide) (by decide) w5 fs, h.book.s1, h.book.s2⟩) (fun k hk => ?_)
  · subst e2; exact hty h.blk.ty (by decide) e
  · exact hty (own_ty h.sts e2) (by decide) e
  rcases hk with hk | hk | hk | hk | hk | hk | hk | hk
  · exact .inl (.inl hk)
  · exact .inl (.inr (.inl hk))
  · exact .inl (.inr (.inr (.inl hk)))
  · exact .inl (.inr (.inr (.inr (.inl hk))))
  · exact (hn k hk).elim (fun e => .inl (.inr (.inr (.inr (.inr (.inl e)))))) .inr
  · exact .inl (.inr (.inr (.inr (.inr (.inr (.inl hk))))))
  · exact .inl (.inr (.inr (.inr (.inr (.inr (.inr (.inl hk)))))))
  · exact .inl (.inr (.inr (.inr (.inr (.inr (.inr (.inr (hk))))))))
theorem WStep.nm {K : Nat → Prop} {w w4 : World} {L : WL} {W : WM} (h : WAt K w L W) {v' : Value} {xs : List Nat} (h4 : w4.ownsRow 0 3 1 v' xs.length (marksB xs)) (f4 : Fr (fun b => L.nm.ownBlock = some b) w w4) (hn : ∀ b, v'.ownBlock = some b → L.nm.ownBlock = some b ∨ w.heap.size ≤ b) :
    WStep K L w { L with nm := v' } { W with bk := { W.bk with nm := xs } } (w4.setCell ⟨L.wb, 20, none⟩ v') := by
  have hty : ∀ {t : TypeId} {k : Nat}, Ty w k t → t ≠ 3 → ¬ L.nm.ownBlock = some k := fun hk ht e => ht (hk.inj (own_ty h.book.nm e))
  have hrow : ∀ {t : TypeId} {v : Value} {n s : Nat} {xs : List Value}, w.ownsRow 0 t s v n xs → t ≠ 3 → t ≠ 49 → ∀ w5, Fr (fun k => k = L.wb) w4 w5 → w5.ownsRow 0 t s v n xs := fun ho h1 h2 w5 fs =>
    own_fr (own_fr ho f4 (fun k e => hty (own_ty ho e) h1)) fs (fun k e hk => by subst hk; exact own_ne ho h.blk (fun e => h2 e.symm) e)
  have hb4 : Blk w4 L.wb _ _ := h.blk.fr f4 (hty h.blk.ty (by decide))
  refine WStep.gen h 20 v' f4 (fun b e => ⟨.inr (.inr (.inr (.inr (.inr (.inl e))))), fun e2 => ?_, fun e2 => ?_⟩) (by simp [WM.cells]) rfl rfl rfl rfl rfl rfl (fun w5 fs => ⟨hrow h.book.vs (by decide) (by decide) w5 fs, own_fr (own_fr h.book.vm f4 (fun k e hk => (h.book.s1 k e).1 hk)) fs (fun k e hk => by subst hk; exact own_ne h.book.vm h.blk (by decide) e), hrow h.book.ns (by decide) (by decide) w5 fs, own_fr h4 fs (fun k e hk => by subst hk; exact own_ne h4 hb4 (by decide) e), hrow h.book.hs (by decide) (by decide) w5 fs, own_fr (own_fr h.book.hm f4 (fun k e hk => h.book.s2 k hk e)) fs (fun k e hk => by subst hk; exact own_ne h.book.hm h.blk (by decide) e), fun k e => ⟨fun e2 => (hn k e2).elim (fun e3 => (h.book.s1 k e).1 e3) (fun e3 => by have := own_lt h.book.vm e; omega), (h.book.s1 k e).2⟩, fun k e e2 => (hn k e).elim (fun e3 => h.book.s2 k e3 e2) (fun e3 => by have := own_lt h.book.hm e2; omega)⟩) (fun k hk => ?_)
  · subst e2; exact hty h.blk.ty (by decide) e
  · exact hty (own_ty h.sts e2) (by decide) e
  rcases hk with hk | hk | hk | hk | hk | hk | hk | hk
  · exact .inl (.inl hk)
  · exact .inl (.inr (.inl hk))
  · exact .inl (.inr (.inr (.inl hk)))
  · exact .inl (.inr (.inr (.inr (.inl hk))))
  · exact .inl (.inr (.inr (.inr (.inr (.inl hk)))))
  · exact (hn k hk).elim (fun e => .inl (.inr (.inr (.inr (.inr (.inr (.inl e))))))) .inr
  · exact .inl (.inr (.inr (.inr (.inr (.inr (.inr (.inl hk)))))))
  · exact .inl (.inr (.inr (.inr (.inr (.inr (.inr (.inr (hk))))))))
theorem WStep.hs {K : Nat → Prop} {w w4 : World} {L : WL} {W : WM} (h : WAt K w L W) {v' : Value} {xs : List Value} (h4 : w4.ownsRow 0 66 1 v' xs.length xs) (f4 : Fr (fun b => L.hs.ownBlock = some b) w w4) (hn : ∀ b, v'.ownBlock = some b → L.hs.ownBlock = some b ∨ w.heap.size ≤ b) :
    WStep K L w { L with hs := v' } { W with bk := { W.bk with hs := xs } } (w4.setCell ⟨L.wb, 21, none⟩ v') := by
  have hty : ∀ {t : TypeId} {k : Nat}, Ty w k t → t ≠ 66 → ¬ L.hs.ownBlock = some k := fun hk ht e => ht (hk.inj (own_ty h.book.hs e))
  have hrow : ∀ {t : TypeId} {v : Value} {n s : Nat} {xs : List Value}, w.ownsRow 0 t s v n xs → t ≠ 66 → t ≠ 49 → ∀ w5, Fr (fun k => k = L.wb) w4 w5 → w5.ownsRow 0 t s v n xs := fun ho h1 h2 w5 fs =>
    own_fr (own_fr ho f4 (fun k e => hty (own_ty ho e) h1)) fs (fun k e hk => by subst hk; exact own_ne ho h.blk (fun e => h2 e.symm) e)
  have hb4 : Blk w4 L.wb _ _ := h.blk.fr f4 (hty h.blk.ty (by decide))
  refine WStep.gen h 21 v' f4 (fun b e => ⟨.inr (.inr (.inr (.inr (.inr (.inr (.inl e)))))), fun e2 => ?_, fun e2 => ?_⟩) (by simp [WM.cells]) rfl rfl rfl rfl rfl rfl (fun w5 fs => ⟨hrow h.book.vs (by decide) (by decide) w5 fs, hrow h.book.vm (by decide) (by decide) w5 fs, hrow h.book.ns (by decide) (by decide) w5 fs, hrow h.book.nm (by decide) (by decide) w5 fs, own_fr h4 fs (fun k e hk => by subst hk; exact own_ne h4 hb4 (by decide) e), hrow h.book.hm (by decide) (by decide) w5 fs, h.book.s1, h.book.s2⟩) (fun k hk => ?_)
  · subst e2; exact hty h.blk.ty (by decide) e
  · exact hty (own_ty h.sts e2) (by decide) e
  rcases hk with hk | hk | hk | hk | hk | hk | hk | hk
  · exact .inl (.inl hk)
  · exact .inl (.inr (.inl hk))
  · exact .inl (.inr (.inr (.inl hk)))
  · exact .inl (.inr (.inr (.inr (.inl hk))))
  · exact .inl (.inr (.inr (.inr (.inr (.inl hk)))))
  · exact .inl (.inr (.inr (.inr (.inr (.inr (.inl hk))))))
  · exact (hn k hk).elim (fun e => .inl (.inr (.inr (.inr (.inr (.inr (.inr (.inl e)))))))) .inr
  · exact .inl (.inr (.inr (.inr (.inr (.inr (.inr (.inr (hk))))))))
theorem WStep.hm {K : Nat → Prop} {w w4 : World} {L : WL} {W : WM} (h : WAt K w L W) {v' : Value} {xs : List Nat} (h4 : w4.ownsRow 0 3 1 v' xs.length (marksB xs)) (f4 : Fr (fun b => L.hm.ownBlock = some b) w w4) (hn : ∀ b, v'.ownBlock = some b → L.hm.ownBlock = some b ∨ w.heap.size ≤ b) :
    WStep K L w { L with hm := v' } { W with bk := { W.bk with hm := xs } } (w4.setCell ⟨L.wb, 22, none⟩ v') := by
  have hty : ∀ {t : TypeId} {k : Nat}, Ty w k t → t ≠ 3 → ¬ L.hm.ownBlock = some k := fun hk ht e => ht (hk.inj (own_ty h.book.hm e))
  have hrow : ∀ {t : TypeId} {v : Value} {n s : Nat} {xs : List Value}, w.ownsRow 0 t s v n xs → t ≠ 3 → t ≠ 49 → ∀ w5, Fr (fun k => k = L.wb) w4 w5 → w5.ownsRow 0 t s v n xs := fun ho h1 h2 w5 fs =>
    own_fr (own_fr ho f4 (fun k e => hty (own_ty ho e) h1)) fs (fun k e hk => by subst hk; exact own_ne ho h.blk (fun e => h2 e.symm) e)
  have hb4 : Blk w4 L.wb _ _ := h.blk.fr f4 (hty h.blk.ty (by decide))
  refine WStep.gen h 22 v' f4 (fun b e => ⟨.inr (.inr (.inr (.inr (.inr (.inr (.inr (e))))))), fun e2 => ?_, fun e2 => ?_⟩) (by simp [WM.cells]) rfl rfl rfl rfl rfl rfl (fun w5 fs => ⟨hrow h.book.vs (by decide) (by decide) w5 fs, own_fr (own_fr h.book.vm f4 (fun k e hk => (h.book.s1 k e).2 hk)) fs (fun k e hk => by subst hk; exact own_ne h.book.vm h.blk (by decide) e), hrow h.book.ns (by decide) (by decide) w5 fs, own_fr (own_fr h.book.nm f4 (fun k e hk => h.book.s2 k e hk)) fs (fun k e hk => by subst hk; exact own_ne h.book.nm h.blk (by decide) e), hrow h.book.hs (by decide) (by decide) w5 fs, own_fr h4 fs (fun k e hk => by subst hk; exact own_ne h4 hb4 (by decide) e), fun k e => ⟨(h.book.s1 k e).1, fun e2 => (hn k e2).elim (fun e3 => (h.book.s1 k e).2 e3) (fun e3 => by have := own_lt h.book.vm e; omega)⟩, fun k e e2 => (hn k e2).elim (fun e3 => h.book.s2 k e e3) (fun e3 => by have := own_lt h.book.nm e; omega)⟩) (fun k hk => ?_)
  · subst e2; exact hty h.blk.ty (by decide) e
  · exact hty (own_ty h.sts e2) (by decide) e
  rcases hk with hk | hk | hk | hk | hk | hk | hk | hk
  · exact .inl (.inl hk)
  · exact .inl (.inr (.inl hk))
  · exact .inl (.inr (.inr (.inl hk)))
  · exact .inl (.inr (.inr (.inr (.inl hk))))
  · exact .inl (.inr (.inr (.inr (.inr (.inl hk)))))
  · exact .inl (.inr (.inr (.inr (.inr (.inr (.inl hk))))))
  · exact .inl (.inr (.inr (.inr (.inr (.inr (.inr (.inl hk)))))))
  · exact (hn k hk).elim (fun e => .inl (.inr (.inr (.inr (.inr (.inr (.inr (.inr (e))))))))) .inr
end Go.Proofs.YtkhnggkkiefcdaaGreatDoor
