/-
  larder: writes_holds: the texts StpA, BooB, BooC, AskA, AskB, joined; 
-/
import Derived.Test.YtkhnggkkiefcdaaGreatDoorWAS
namespace Go.Proofs.YtkhnggkkiefcdaaGreatDoor
open Go.RowKit
set_option maxRecDepth 100000
set_option maxHeartbeats 800000 in
theorem step_2 (K : Nat → Prop) (L : WL) (W : WM) (nb : Nat) (o : OpM) (w : World) (h : WAt K w L W) (hnv : L.nv = .pointer (some ⟨nb, 0, none⟩)) (hk : o.kind = 2) (Q : World → Prop)
    (hc : ∀ wx, Fr Nil w wx → Calls Tryz.prog 61 #[.pointer (some ⟨L.wb, 0, none⟩), .agg o.cells.toArray] wx fun e w' => e = .returned (.bool true) ∧ Q w') :
    Calls Tryz.prog 18 #[.pointer (some ⟨L.wb, 0, none⟩), .agg o.cells.toArray] w fun e w' => e = .returned (.bool true) ∧ Q w' := by
  obtain ⟨kind, a, b, c, key, text, v, tails⟩ := o
  simp only at hk
  subst hk
  simp only [OpM.cells, Ver.cells, List.cons_append, List.nil_append] at hc ⊢
  have f1 : Fr Nil w (w.alloc (.cells #[.int .i64 2, .int .i64 a, .int .i64 b, .int .i64 c, .string key, .string text, .int .i64 v.node, .int .i64 v.seq, .int .i64 v.o0, .int .i64 v.o1, .int .i64 v.o2, .int .i64 v.o3, .string v.value, .bool v.gone, tails] 39)) := (Fr.refl _ _).alloc _
  have hb1 := Blk.new w [.int .i64 2, .int .i64 a, .int .i64 b, .int .i64 c, .string key, .string text, .int .i64 v.node, .int .i64 v.seq, .int .i64 v.o0, .int .i64 v.o1, .int .i64 v.o2, .int .i64 v.o3, .string v.value, .bool v.gone, tails] 39
  have hc5 : (w.alloc (.cells #[.int .i64 2, .int .i64 a, .int .i64 b, .int .i64 c, .string key, .string text, .int .i64 v.node, .int .i64 v.seq, .int .i64 v.o0, .int .i64 v.o1, .int .i64 v.o2, .int .i64 v.o3, .string v.value, .bool v.gone, tails] 39)).cell? ⟨L.wb, 5, none⟩ = some (.pointer (some ⟨nb, 0, none⟩)) := by rw [← hnv]; exact (h.nil f1).blk.cell 5
  have hc1 := hb1.cell
  have HF1 := hide f1
  have HC := hide (hc _ f1)
  clear h f1 hb1 hc hnv
  go_enter Tryz.func18, Tryz.ntmps18
  go_wp2_with (refine HC.out.mono ?_; rintro e w1 ⟨rfl, hq⟩; have HQ := hide hq; clear hq)
  go_ret
  exact ⟨rfl, HQ.out⟩
set_option maxHeartbeats 800000 in
theorem step_3 (K : Nat → Prop) (L : WL) (W : WM) (nb : Nat) (o : OpM) (w : World) (h : WAt K w L W) (hnv : L.nv = .pointer (some ⟨nb, 0, none⟩)) (hk : o.kind = 3) (Q : World → Prop)
    (hc : ∀ wx, Fr Nil w wx → Calls Tryz.prog 61 #[.pointer (some ⟨L.wb, 0, none⟩), .agg o.cells.toArray] wx fun e w' => e = .returned (.bool true) ∧ Q w') :
    Calls Tryz.prog 18 #[.pointer (some ⟨L.wb, 0, none⟩), .agg o.cells.toArray] w fun e w' => e = .returned (.bool true) ∧ Q w' := by
  obtain ⟨kind, a, b, c, key, text, v, tails⟩ := o
  simp only at hk
  subst hk
  simp only [OpM.cells, Ver.cells, List.cons_append, List.nil_append] at hc ⊢
  have f1 : Fr Nil w (w.alloc (.cells #[.int .i64 3, .int .i64 a, .int .i64 b, .int .i64 c, .string key, .string text, .int .i64 v.node, .int .i64 v.seq, .int .i64 v.o0, .int .i64 v.o1, .int .i64 v.o2, .int .i64 v.o3, .string v.value, .bool v.gone, tails] 39)) := (Fr.refl _ _).alloc _
  have hb1 := Blk.new w [.int .i64 3, .int .i64 a, .int .i64 b, .int .i64 c, .string key, .string text, .int .i64 v.node, .int .i64 v.seq, .int .i64 v.o0, .int .i64 v.o1, .int .i64 v.o2, .int .i64 v.o3, .string v.value, .bool v.gone, tails] 39
  have hc5 : (w.alloc (.cells #[.int .i64 3, .int .i64 a, .int .i64 b, .int .i64 c, .string key, .string text, .int .i64 v.node, .int .i64 v.seq, .int .i64 v.o0, .int .i64 v.o1, .int .i64 v.o2, .int .i64 v.o3, .string v.value, .bool v.gone, tails] 39)).cell? ⟨L.wb, 5, none⟩ = some (.pointer (some ⟨nb, 0, none⟩)) := by rw [← hnv]; exact (h.nil f1).blk.cell 5
  have hc1 := hb1.cell
  have HF1 := hide f1
  have HC := hide (hc _ f1)
  clear h f1 hb1 hc hnv
  go_enter Tryz.func18, Tryz.ntmps18
  go_wp2_with (refine HC.out.mono ?_; rintro e w1 ⟨rfl, hq⟩; have HQ := hide hq; clear hq)
  go_ret
  exact ⟨rfl, HQ.out⟩
set_option maxHeartbeats 800000 in
theorem step_4 (K : Nat → Prop) (L : WL) (W : WM) (nb : Nat) (o : OpM) (w : World) (h : WAt K w L W) (hnv : L.nv = .pointer (some ⟨nb, 0, none⟩)) (hk : o.kind = 4) (Q : World → Prop)
    (hc : ∀ wx, Fr Nil w wx → Calls Tryz.prog 62 #[.pointer (some ⟨L.wb, 0, none⟩), .agg o.cells.toArray] wx fun e w' => e = .returned (.bool true) ∧ Q w') :
    Calls Tryz.prog 18 #[.pointer (some ⟨L.wb, 0, none⟩), .agg o.cells.toArray] w fun e w' => e = .returned (.bool true) ∧ Q w' := by
  obtain ⟨kind, a, b, c, key, text, v, tails⟩ := o
  simp only at hk
  subst hk
  simp only [OpM.cells, Ver.cells, List.cons_append, List.nil_append] at hc ⊢
  have f1 : Fr Nil w (w.alloc (.cells #[.int .i64 4, .int .i64 a, .int .i64 b, .int .i64 c, .string key, .string text, .int .i64 v.node, .int .i64 v.seq, .int .i64 v.o0, .int .i64 v.o1, .int .i64 v.o2, .int .i64 v.o3, .string v.value, .bool v.gone, tails] 39)) := (Fr.refl _ _).alloc _
  have hb1 := Blk.new w [.int .i64 4, .int .i64 a, .int .i64 b, .int .i64 c, .string key, .string text, .int .i64 v.node, .int .i64 v.seq, .int .i64 v.o0, .int .i64 v.o1, .int .i64 v.o2, .int .i64 v.o3, .string v.value, .bool v.gone, tails] 39
  have hc5 : (w.alloc (.cells #[.int .i64 4, .int .i64 a, .int .i64 b, .int .i64 c, .string key, .string text, .int .i64 v.node, .int .i64 v.seq, .int .i64 v.o0, .int .i64 v.o1, .int .i64 v.o2, .int .i64 v.o3, .string v.value, .bool v.gone, tails] 39)).cell? ⟨L.wb, 5, none⟩ = some (.pointer (some ⟨nb, 0, none⟩)) := by rw [← hnv]; exact (h.nil f1).blk.cell 5
  have hc1 := hb1.cell
  have HF1 := hide f1
  have HC := hide (hc _ f1)
  clear h f1 hb1 hc hnv
  go_enter Tryz.func18, Tryz.ntmps18
  go_wp2_with (refine HC.out.mono ?_; rintro e w1 ⟨rfl, hq⟩; have HQ := hide hq; clear hq)
  go_ret
  exact ⟨rfl, HQ.out⟩
set_option maxHeartbeats 800000 in
theorem step_5 (K : Nat → Prop) (L : WL) (W : WM) (nb : Nat) (o : OpM) (w : World) (h : WAt K w L W) (hnv : L.nv = .pointer (some ⟨nb, 0, none⟩)) (hk : o.kind = 5) (Q : World → Prop)
    (hc : ∀ wx, Fr Nil w wx → Calls Tryz.prog 65 #[.pointer (some ⟨L.wb, 0, none⟩), .agg o.cells.toArray] wx fun e w' => e = .returned (.bool true) ∧ Q w') :
    Calls Tryz.prog 18 #[.pointer (some ⟨L.wb, 0, none⟩), .agg o.cells.toArray] w fun e w' => e = .returned (.bool true) ∧ Q w' := by
  obtain ⟨kind, a, b, c, key, text, v, tails⟩ := o
  simp only at hk
  subst hk
  simp only [OpM.cells, Ver.cells, List.cons_append, List.nil_append] at hc ⊢
  have f1 : Fr Nil w (w.alloc (.cells #[.int .i64 5, .int .i64 a, .int .i64 b, .int .i64 c, .string key, .string text, .int .i64 v.node, .int .i64 v.seq, .int .i64 v.o0, .int .i64 v.o1, .int .i64 v.o2, .int .i64 v.o3, .string v.value, .bool v.gone, tails] 39)) := (Fr.refl _ _).alloc _
  have hb1 := Blk.new w [.int .i64 5, .int .i64 a, .int .i64 b, .int .i64 c, .string key, .string text, .int .i64 v.node, .int .i64 v.seq, .int .i64 v.o0, .int .i64 v.o1, .int .i64 v.o2, .int .i64 v.o3, .string v.value, .bool v.gone, tails] 39
  have hc5 : (w.alloc (.cells #[.int .i64 5, .int .i64 a, .int .i64 b, .int .i64 c, .string key, .string text, .int .i64 v.node, .int .i64 v.seq, .int .i64 v.o0, .int .i64 v.o1, .int .i64 v.o2, .int .i64 v.o3, .string v.value, .bool v.gone, tails] 39)).cell? ⟨L.wb, 5, none⟩ = some (.pointer (some ⟨nb, 0, none⟩)) := by rw [← hnv]; exact (h.nil f1).blk.cell 5
  have hc1 := hb1.cell
  have HF1 := hide f1
  have HC := hide (hc _ f1)
  clear h f1 hb1 hc hnv
  go_enter Tryz.func18, Tryz.ntmps18
  go_wp2_with (refine HC.out.mono ?_; rintro e w1 ⟨rfl, hq⟩; have HQ := hide hq; clear hq)
  go_ret
  exact ⟨rfl, HQ.out⟩
set_option maxHeartbeats 800000 in
theorem step_6 (K : Nat → Prop) (L : WL) (W : WM) (nb : Nat) (o : OpM) (w : World) (h : WAt K w L W) (hnv : L.nv = .pointer (some ⟨nb, 0, none⟩)) (hk : o.kind = 6) (Q : World → Prop)
    (hc : ∀ wx, Fr Nil w wx → Calls Tryz.prog 65 #[.pointer (some ⟨L.wb, 0, none⟩), .agg o.cells.toArray] wx fun e w' => e = .returned (.bool true) ∧ Q w') :
    Calls Tryz.prog 18 #[.pointer (some ⟨L.wb, 0, none⟩), .agg o.cells.toArray] w fun e w' => e = .returned (.bool true) ∧ Q w' := by
  obtain ⟨kind, a, b, c, key, text, v, tails⟩ := o
  simp only at hk
  subst hk
  simp only [OpM.cells, Ver.cells, List.cons_append, List.nil_append] at hc ⊢
  have f1 : Fr Nil w (w.alloc (.cells #[.int .i64 6, .int .i64 a, .int .i64 b, .int .i64 c, .string key, .string text, .int .i64 v.node, .int .i64 v.seq, .int .i64 v.o0, .int .i64 v.o1, .int .i64 v.o2, .int .i64 v.o3, .string v.value, .bool v.gone, tails] 39)) := (Fr.refl _ _).alloc _
  have hb1 := Blk.new w [.int .i64 6, .int .i64 a, .int .i64 b, .int .i64 c, .string key, .string text, .int .i64 v.node, .int .i64 v.seq, .int .i64 v.o0, .int .i64 v.o1, .int .i64 v.o2, .int .i64 v.o3, .string v.value, .bool v.gone, tails] 39
  have hc5 : (w.alloc (.cells #[.int .i64 6, .int .i64 a, .int .i64 b, .int .i64 c, .string key, .string text, .int .i64 v.node, .int .i64 v.seq, .int .i64 v.o0, .int .i64 v.o1, .int .i64 v.o2, .int .i64 v.o3, .string v.value, .bool v.gone, tails] 39)).cell? ⟨L.wb, 5, none⟩ = some (.pointer (some ⟨nb, 0, none⟩)) := by rw [← hnv]; exact (h.nil f1).blk.cell 5
  have hc1 := hb1.cell
  have HF1 := hide f1
  have HC := hide (hc _ f1)
  clear h f1 hb1 hc hnv
  go_enter Tryz.func18, Tryz.ntmps18
  go_wp2_with (refine HC.out.mono ?_; rintro e w1 ⟨rfl, hq⟩; have HQ := hide hq; clear hq)
  go_ret
  exact ⟨rfl, HQ.out⟩
set_option maxHeartbeats 800000 in
theorem step_7 (K : Nat → Prop) (L : WL) (W : WM) (nb : Nat) (o : OpM) (w : World) (h : WAt K w L W) (hnv : L.nv = .pointer (some ⟨nb, 0, none⟩)) (hk : o.kind = 7) (Q : World → Prop)
    (hc : ∀ wx, Fr Nil w wx → Calls Tryz.prog 63 #[.pointer (some ⟨L.wb, 0, none⟩), .agg o.cells.toArray] wx fun e w' => e = .returned (.bool true) ∧ Q w') :
    Calls Tryz.prog 18 #[.pointer (some ⟨L.wb, 0, none⟩), .agg o.cells.toArray] w fun e w' => e = .returned (.bool true) ∧ Q w' := by
  obtain ⟨kind, a, b, c, key, text, v, tails⟩ := o
  simp only at hk
  subst hk
  simp only [OpM.cells, Ver.cells, List.cons_append, List.nil_append] at hc ⊢
  have f1 : Fr Nil w (w.alloc (.cells #[.int .i64 7, .int .i64 a, .int .i64 b, .int .i64 c, .string key, .string text, .int .i64 v.node, .int .i64 v.seq, .int .i64 v.o0, .int .i64 v.o1, .int .i64 v.o2, .int .i64 v.o3, .string v.value, .bool v.gone, tails] 39)) := (Fr.refl _ _).alloc _
  have hb1 := Blk.new w [.int .i64 7, .int .i64 a, .int .i64 b, .int .i64 c, .string key, .string text, .int .i64 v.node, .int .i64 v.seq, .int .i64 v.o0, .int .i64 v.o1, .int .i64 v.o2, .int .i64 v.o3, .string v.value, .bool v.gone, tails] 39
  have hc5 : (w.alloc (.cells #[.int .i64 7, .int .i64 a, .int .i64 b, .int .i64 c, .string key, .string text, .int .i64 v.node, .int .i64 v.seq, .int .i64 v.o0, .int .i64 v.o1, .int .i64 v.o2, .int .i64 v.o3, .string v.value, .bool v.gone, tails] 39)).cell? ⟨L.wb, 5, none⟩ = some (.pointer (some ⟨nb, 0, none⟩)) := by rw [← hnv]; exact (h.nil f1).blk.cell 5
  have hc1 := hb1.cell
  have HF1 := hide f1
  have HC := hide (hc _ f1)
  clear h f1 hb1 hc hnv
  go_enter Tryz.func18, Tryz.ntmps18
  go_wp2_with (refine HC.out.mono ?_; rintro e w1 ⟨rfl, hq⟩; have HQ := hide hq; clear hq)
  go_ret
  exact ⟨rfl, HQ.out⟩
set_option maxHeartbeats 800000 in
theorem step_8 (K : Nat → Prop) (L : WL) (W : WM) (nb : Nat) (o : OpM) (w : World) (h : WAt K w L W) (hnv : L.nv = .pointer (some ⟨nb, 0, none⟩)) (hk : o.kind = 8) (Q : World → Prop)
    (hc : ∀ wx, Fr Nil w wx → Calls Tryz.prog 65 #[.pointer (some ⟨L.wb, 0, none⟩), .agg o.cells.toArray] wx fun e w' => e = .returned (.bool true) ∧ Q w') :
    Calls Tryz.prog 18 #[.pointer (some ⟨L.wb, 0, none⟩), .agg o.cells.toArray] w fun e w' => e = .returned (.bool true) ∧ Q w' := by
  obtain ⟨kind, a, b, c, key, text, v, tails⟩ := o
  simp only at hk
  subst hk
  simp only [OpM.cells, Ver.cells, List.cons_append, List.nil_append] at hc ⊢
  have f1 : Fr Nil w (w.alloc (.cells #[.int .i64 8, .int .i64 a, .int .i64 b, .int .i64 c, .string key, .string text, .int .i64 v.node, .int .i64 v.seq, .int .i64 v.o0, .int .i64 v.o1, .int .i64 v.o2, .int .i64 v.o3, .string v.value, .bool v.gone, tails] 39)) := (Fr.refl _ _).alloc _
  have hb1 := Blk.new w [.int .i64 8, .int .i64 a, .int .i64 b, .int .i64 c, .string key, .string text, .int .i64 v.node, .int .i64 v.seq, .int .i64 v.o0, .int .i64 v.o1, .int .i64 v.o2, .int .i64 v.o3, .string v.value, .bool v.gone, tails] 39
  have hc5 : (w.alloc (.cells #[.int .i64 8, .int .i64 a, .int .i64 b, .int .i64 c, .string key, .string text, .int .i64 v.node, .int .i64 v.seq, .int .i64 v.o0, .int .i64 v.o1, .int .i64 v.o2, .int .i64 v.o3, .string v.value, .bool v.gone, tails] 39)).cell? ⟨L.wb, 5, none⟩ = some (.pointer (some ⟨nb, 0, none⟩)) := by rw [← hnv]; exact (h.nil f1).blk.cell 5
  have hc1 := hb1.cell
  have HF1 := hide f1
  have HC := hide (hc _ f1)
  clear h f1 hb1 hc hnv
  go_enter Tryz.func18, Tryz.ntmps18
  go_wp2_with (refine HC.out.mono ?_; rintro e w1 ⟨rfl, hq⟩; have HQ := hide hq; clear hq)
  go_ret
  exact ⟨rfl, HQ.out⟩
set_option maxHeartbeats 800000 in
theorem step_9 (K : Nat → Prop) (L : WL) (W : WM) (nb : Nat) (o : OpM) (w : World) (h : WAt K w L W) (hnv : L.nv = .pointer (some ⟨nb, 0, none⟩)) (hk : o.kind = 9) (Q : World → Prop)
    (hc : ∀ wx, Fr Nil w wx → Calls Tryz.prog 63 #[.pointer (some ⟨L.wb, 0, none⟩), .agg o.cells.toArray] wx fun e w' => e = .returned (.bool true) ∧ Q w') :
    Calls Tryz.prog 18 #[.pointer (some ⟨L.wb, 0, none⟩), .agg o.cells.toArray] w fun e w' => e = .returned (.bool true) ∧ Q w' := by
  obtain ⟨kind, a, b, c, key, text, v, tails⟩ := o
  simp only at hk
  subst hk
  simp only [OpM.cells, Ver.cells, List.cons_append, List.nil_append] at hc ⊢
  have f1 : Fr Nil w (w.alloc (.cells #[.int .i64 9, .int .i64 a, .int .i64 b, .int .i64 c, .string key, .string text, .int .i64 v.node, .int .i64 v.seq, .int .i64 v.o0, .int .i64 v.o1, .int .i64 v.o2, .int .i64 v.o3, .string v.value, .bool v.gone, tails] 39)) := (Fr.refl _ _).alloc _
  have hb1 := Blk.new w [.int .i64 9, .int .i64 a, .int .i64 b, .int .i64 c, .string key, .string text, .int .i64 v.node, .int .i64 v.seq, .int .i64 v.o0, .int .i64 v.o1, .int .i64 v.o2, .int .i64 v.o3, .string v.value, .bool v.gone, tails] 39
  have hc5 : (w.alloc (.cells #[.int .i64 9, .int .i64 a, .int .i64 b, .int .i64 c, .string key, .string text, .int .i64 v.node, .int .i64 v.seq, .int .i64 v.o0, .int .i64 v.o1, .int .i64 v.o2, .int .i64 v.o3, .string v.value, .bool v.gone, tails] 39)).cell? ⟨L.wb, 5, none⟩ = some (.pointer (some ⟨nb, 0, none⟩)) := by rw [← hnv]; exact (h.nil f1).blk.cell 5
  have hc1 := hb1.cell
  have HF1 := hide f1
  have HC := hide (hc _ f1)
  clear h f1 hb1 hc hnv
  go_enter Tryz.func18, Tryz.ntmps18
  go_wp2_with (refine HC.out.mono ?_; rintro e w1 ⟨rfl, hq⟩; have HQ := hide hq; clear hq)
  go_ret
  exact ⟨rfl, HQ.out⟩
set_option maxHeartbeats 800000 in
theorem step_10 (K : Nat → Prop) (L : WL) (W : WM) (nb : Nat) (o : OpM) (w : World) (h : WAt K w L W) (hnv : L.nv = .pointer (some ⟨nb, 0, none⟩)) (hk : o.kind = 10) (Q : World → Prop)
    (hc : ∀ wx, Fr Nil w wx → Calls Tryz.prog 65 #[.pointer (some ⟨L.wb, 0, none⟩), .agg o.cells.toArray] wx fun e w' => e = .returned (.bool true) ∧ Q w') :
    Calls Tryz.prog 18 #[.pointer (some ⟨L.wb, 0, none⟩), .agg o.cells.toArray] w fun e w' => e = .returned (.bool true) ∧ Q w' := by
  obtain ⟨kind, a, b, c, key, text, v, tails⟩ := o
  simp only at hk
  subst hk
  simp only [OpM.cells, Ver.cells, List.cons_append, List.nil_append] at hc ⊢
  have f1 : Fr Nil w (w.alloc (.cells #[.int .i64 10, .int .i64 a, .int .i64 b, .int .i64 c, .string key, .string text, .int .i64 v.node, .int .i64 v.seq, .int .i64 v.o0, .int .i64 v.o1, .int .i64 v.o2, .int .i64 v.o3, .string v.value, .bool v.gone, tails] 39)) := (Fr.refl _ _).alloc _
  have hb1 := Blk.new w [.int .i64 10, .int .i64 a, .int .i64 b, .int .i64 c, .string key, .string text, .int .i64 v.node, .int .i64 v.seq, .int .i64 v.o0, .int .i64 v.o1, .int .i64 v.o2, .int .i64 v.o3, .string v.value, .bool v.gone, tails] 39
  have hc5 : (w.alloc (.cells #[.int .i64 10, .int .i64 a, .int .i64 b, .int .i64 c, .string key, .string text, .int .i64 v.node, .int .i64 v.seq, .int .i64 v.o0, .int .i64 v.o1, .int .i64 v.o2, .int .i64 v.o3, .string v.value, .bool v.gone, tails] 39)).cell? ⟨L.wb, 5, none⟩ = some (.pointer (some ⟨nb, 0, none⟩)) := by rw [← hnv]; exact (h.nil f1).blk.cell 5
  have hc1 := hb1.cell
  have HF1 := hide f1
  have HC := hide (hc _ f1)
  clear h f1 hb1 hc hnv
  go_enter Tryz.func18, Tryz.ntmps18
  go_wp2_with (refine HC.out.mono ?_; rintro e w1 ⟨rfl, hq⟩; have HQ := hide hq; clear hq)
  go_ret
  exact ⟨rfl, HQ.out⟩
set_option maxHeartbeats 800000 in
theorem step_other (K : Nat → Prop) (L : WL) (W : WM) (nb : Nat) (o : OpM) (w : World) (h : WAt K w L W) (hnv : L.nv = .pointer (some ⟨nb, 0, none⟩)) (hk : o.kind ≠ 1 ∧ o.kind ≠ 12 ∧ o.kind ≠ 13 ∧ o.kind ≠ 14 ∧ o.kind ≠ 2 ∧ o.kind ≠ 3 ∧ o.kind ≠ 4 ∧ o.kind ≠ 7 ∧ o.kind ≠ 9 ∧ o.kind ≠ 11 ∧ o.kind ≠ 15 ∧ o.kind ≠ 5 ∧ o.kind ≠ 6 ∧ o.kind ≠ 8 ∧ o.kind ≠ 10) :
    Calls Tryz.prog 18 #[.pointer (some ⟨L.wb, 0, none⟩), .agg o.cells.toArray] w fun e w' => e = .returned (.bool true) ∧ Fr Nil w w' := by
  obtain ⟨kind, a, b, c, key, text, v, tails⟩ := o
  simp only at hk
  obtain ⟨h1, h12, h13, h14, h2, h3, h4, h7, h9, h11, h15, h5, h6, h8, h10⟩ := hk
  have e1 : (kind == 1) = false := by simp [h1]
  have e12 : (kind == 12) = false := by simp [h12]
  have e13 : (kind == 13) = false := by simp [h13]
  have e14 : (kind == 14) = false := by simp [h14]
  have e2 : (kind == 2) = false := by simp [h2]
  have e3 : (kind == 3) = false := by simp [h3]
  have e4 : (kind == 4) = false := by simp [h4]
  have e7 : (kind == 7) = false := by simp [h7]
  have e9 : (kind == 9) = false := by simp [h9]
  have e11 : (kind == 11) = false := by simp [h11]
  have e15 : (kind == 15) = false := by simp [h15]
  have e5 : (kind == 5) = false := by simp [h5]
  have e6 : (kind == 6) = false := by simp [h6]
  have e8 : (kind == 8) = false := by simp [h8]
  have e10 : (kind == 10) = false := by simp [h10]
  simp only [OpM.cells, Ver.cells, List.cons_append, List.nil_append]
  have f1 : Fr Nil w (w.alloc (.cells #[.int .i64 kind, .int .i64 a, .int .i64 b, .int .i64 c, .string key, .string text, .int .i64 v.node, .int .i64 v.seq, .int .i64 v.o0, .int .i64 v.o1, .int .i64 v.o2, .int .i64 v.o3, .string v.value, .bool v.gone, tails] 39)) := (Fr.refl _ _).alloc _
  have hb1 := Blk.new w [.int .i64 kind, .int .i64 a, .int .i64 b, .int .i64 c, .string key, .string text, .int .i64 v.node, .int .i64 v.seq, .int .i64 v.o0, .int .i64 v.o1, .int .i64 v.o2, .int .i64 v.o3, .string v.value, .bool v.gone, tails] 39
  have hc5 : (w.alloc (.cells #[.int .i64 kind, .int .i64 a, .int .i64 b, .int .i64 c, .string key, .string text, .int .i64 v.node, .int .i64 v.seq, .int .i64 v.o0, .int .i64 v.o1, .int .i64 v.o2, .int .i64 v.o3, .string v.value, .bool v.gone, tails] 39)).cell? ⟨L.wb, 5, none⟩ = some (.pointer (some ⟨nb, 0, none⟩)) := by rw [← hnv]; exact (h.nil f1).blk.cell 5
  have hc1 := hb1.cell
  have HF1 := hide f1
  clear h f1 hb1 hnv h1 h12 h13 h14 h2 h3 h4 h7 h9 h11 h15 h5 h6 h8 h10
  go_enter Tryz.func18, Tryz.ntmps18
  go_wp2_with fail
  go_ret
  exact ⟨rfl, HF1.out⟩
set_option maxHeartbeats 800000 in
theorem step_closed (K : Nat → Prop) (L : WL) (W : WM) (o : OpM) (w : World) (h : WAt K w L W) (hnv : L.nv = .pointer none) (hk : o.kind ≠ 1 ∧ o.kind ≠ 12 ∧ o.kind ≠ 13 ∧ o.kind ≠ 14) :
    Calls Tryz.prog 18 #[.pointer (some ⟨L.wb, 0, none⟩), .agg o.cells.toArray] w fun e w' => e = .returned (.bool true) ∧ Fr Nil w w' := by
  obtain ⟨kind, a, b, c, key, text, v, tails⟩ := o
  simp only at hk
  obtain ⟨h1, h12, h13, h14⟩ := hk
  have e1 : (kind == 1) = false := by simp [h1]
  have e12 : (kind == 12) = false := by simp [h12]
  have e13 : (kind == 13) = false := by simp [h13]
  have e14 : (kind == 14) = false := by simp [h14]
  simp only [OpM.cells, Ver.cells, List.cons_append, List.nil_append]
  have f1 : Fr Nil w (w.alloc (.cells #[.int .i64 kind, .int .i64 a, .int .i64 b, .int .i64 c, .string key, .string text, .int .i64 v.node, .int .i64 v.seq, .int .i64 v.o0, .int .i64 v.o1, .int .i64 v.o2, .int .i64 v.o3, .string v.value, .bool v.gone, tails] 39)) := (Fr.refl _ _).alloc _
  have hb1 := Blk.new w [.int .i64 kind, .int .i64 a, .int .i64 b, .int .i64 c, .string key, .string text, .int .i64 v.node, .int .i64 v.seq, .int .i64 v.o0, .int .i64 v.o1, .int .i64 v.o2, .int .i64 v.o3, .string v.value, .bool v.gone, tails] 39
  have hc5 : (w.alloc (.cells #[.int .i64 kind, .int .i64 a, .int .i64 b, .int .i64 c, .string key, .string text, .int .i64 v.node, .int .i64 v.seq, .int .i64 v.o0, .int .i64 v.o1, .int .i64 v.o2, .int .i64 v.o3, .string v.value, .bool v.gone, tails] 39)).cell? ⟨L.wb, 5, none⟩ = some (.pointer none) := by rw [← hnv]; exact (h.nil f1).blk.cell 5
  have hc1 := hb1.cell
  have HF1 := hide f1
  clear h f1 hb1 hnv h1 h12 h13 h14
  go_enter Tryz.func18, Tryz.ntmps18
  go_wp2_with fail
  go_ret
  exact ⟨rfl, HF1.out⟩
theorem infoStrB : ((Tryz.prog.info? 9).map fun i => (i.zero.map (·.cells.size), i.size, i.bytes)) = some (some 1, 1, 16) := by kernel_rfl
structure BookN (K : Nat → Prop) (L : WL) (W : WM) (w0 : World) (n i : Nat) (lv : Value) (w' : World) : Prop where
  ex : ∃ (l' : List Value) (L' : WL) (bk' : BK), w'.ownsRow 0 9 1 lv l'.length l' ∧ (∀ k, lv.ownBlock = some k → w0.heap.size ≤ k) ∧ l'.length = n + i ∧ WStep K L w0 L' (W.booked bk') w' ∧ bk'.ns.length = W.bk.ns.length + i ∧ bk'.nm.length = W.bk.nm.length + i ∧ bk'.vs = W.bk.vs ∧ bk'.vm = W.bk.vm ∧ bk'.hs = W.bk.hs ∧ bk'.hm = W.bk.hm ∧ L'.ps = L.ps
theorem WAt.notR {K : Nat → Prop} {w : World} {L : WL} {W : WM} (h : WAt K w L W) {t : TypeId} {s n : Nat} {v : Value} {xs : List Value} (hv : w.ownsRow 0 t s v n xs) (ht : ¬ WTy t) : ∀ k, WFoot L k → ¬ v.ownBlock = some k := fun k hk e => by
  obtain ⟨u, hu, hd⟩ := h.ty hk
  have := hu.inj (own_ty hv e)
  subst this
  exact ht hd
theorem notWS : ¬ WTy 9 := by
  intro hd
  unfold WTy at hd
  rcases hd with e | e | e | e | e | e <;> exact absurd e (by decide)
theorem arm_ns {K : Nat → Prop} {L1 : WL} {W1 : WM} {wr w4 : World} {v4 x : Value} {n : Nat} (h : WAt K wr L1 W1) (hn : n = W1.bk.ns.length + 1) (ho : w4.ownsRow 0 91 1 v4 n (W1.bk.ns ++ [x])) (hf : Fr (fun k => L1.ns.ownBlock = some k) wr w4) (hn4 : ∀ k, v4.ownBlock = some k → L1.ns.ownBlock = some k ∨ wr.heap.size ≤ k) :
    WStep K L1 wr { L1 with ns := v4 } { W1 with bk := { W1.bk with ns := W1.bk.ns ++ [x] } } (w4.setCell ⟨L1.wb, 19, none⟩ v4) :=
  WStep.ns h (by rw [List.length_append, List.length_singleton, ← hn]; exact ho) hf hn4
theorem arm_nm {K : Nat → Prop} {L1 : WL} {W1 : WM} {wr w4 : World} {v4 : Value} {m n : Nat} (h : WAt K wr L1 W1) (hn : n = W1.bk.nm.length + 1) (ho : w4.ownsRow 0 3 1 v4 n (marksB W1.bk.nm ++ [.int .i64 m])) (hf : Fr (fun k => L1.nm.ownBlock = some k) wr w4) (hn4 : ∀ k, v4.ownBlock = some k → L1.nm.ownBlock = some k ∨ wr.heap.size ≤ k) :
    WStep K L1 wr { L1 with nm := v4 } { W1 with bk := { W1.bk with nm := W1.bk.nm ++ [m] } } (w4.setCell ⟨L1.wb, 20, none⟩ v4) :=
  WStep.nm h (by rw [List.length_append, List.length_singleton, ← hn, marksB_snoc]; exact ho) hf hn4
set_option maxHeartbeats 3200000 in
theorem bookN_calls (K : Nat → Prop) (L : WL) (W : WM) (lv : Value) (l : List Value) (w0 w : World) (h0 : WAt K w0 L W) (f0 : Fr Nil w0 w) (hl : w.ownsRow 0 9 1 lv l.length l) (hnew : ∀ k, lv.ownBlock = some k → w0.heap.size ≤ k) (hn : l.length < 100000000) (hb : W.base < 100000000) (hx : W.next < 100000000) (hs : BSmall W.bk) :
    Calls Tryz.prog 120 #[.pointer (some ⟨L.wb, 15, none⟩), lv] w fun e w' => e = .returned (.tuple #[]) ∧ ∃ L' bk', WStep K L w0 L' (W.booked bk') w' ∧ Booked W.bk bk' ∧ L'.ps = L.ps := by
  have HM := hide (mark_calls K L W w (h0.nil f0) hb hx)
  have H0 := hide h0
  have F0 := hide f0
  have HL := hide hl
  have HN := hide hnew
  have HSM := hide hs
  obtain ⟨la, lc, rfl⟩ := own_form hl
  have HLEN := hide hn
  clear h0 f0 hl hnew
  obtain ⟨m, hm⟩ : ∃ m, m = W.base + W.next + 1 := ⟨_, rfl⟩
  have hml : m < 1000000000000 := by omega
  rw [← hm] at HM
  clear hm hb hx hs
  go_enter Tryz.func120, Tryz.ntmps120
  go_wp2_with fail
  refine HM.out.mono ?_
  rintro e w1 ⟨rfl, hs1⟩
  have HS1 := hide hs1
  clear hs1
  go_wp2_with fail
  refine (word_calls m w1 hml).mono ?_
  rintro e w3 ⟨rfl, f3⟩
  have HS3 : Hid (WStep K L w0 L (W.booked W.bk) w3) := (WStep.nil H0.out F0.out).trans (HS1.out.trans (WStep.nil HS1.out.rep f3))
  have HV3 : Hid (w3.ownsRow 0 9 1 (.slice la l.length lc) l.length l) := own_fr (own_fr HL.out HS1.out.fr (fun k e hk => (H0.out.nil F0.out).notR HL.out notWS k hk e)) f3 (fun _ _ => id)
  generalize hnn : l.length = n at HV3 HN HLEN ⊢
  have HNN := hide hnn
  have hn : n < 100000000 := HLEN.out
  clear f3 HS1 HL HM hnn hml
  go_wp2_with fail
  go_loopw [6] (fun t6 w' => ∃ i : Nat, ∃ l' : List Value, i ≤ n ∧ t6 = .int .i64 i ∧ l'.length = n ∧ w'.ownsRow 0 9 1 (.slice la n lc) n l' ∧ Fr (fun k => (Value.slice la n lc).ownBlock = some k) w3 w') (fun t6 _ => n - (intOf t6).toNat)
  case atStart => exact ⟨0, l, Nat.zero_le _, rfl, HNN.out, HV3.out, Fr.refl _ _⟩
  case round =>
    obtain ⟨i, l', hi, rfl, hl', hv, hf⟩ := hrel
    have HV := hide hv
    have HF := hide hf
    have HL' := hide hl'
    by_cases hlt : i < n
    · obtain ⟨g, rfl⟩ : ∃ g, la = some ⟨g, 0, none⟩ := by
        obtain ⟨g, cap, e, _⟩ := own_some hv (by omega)
        simp at e; exact ⟨g, e.1⟩
      have hz : ∀ k, wr.frozen? ⟨g, k, none⟩ = false := fun k => own_frozen hv k
      have hc : wr.cell? ⟨g, i, none⟩ = some (l'[i]'(by rw [hl']; exact hlt)) := own_cell? hv i _ (by simp [hl', hlt])
      generalize l'[i]'(by rw [hl']; exact hlt) = x at hc
      clear hv hf hl'
      go_wp2_with fail
      have hset := own_set HV.out i (.string (wordB m))
      have hF := HF.out
      exact ⟨⟨i + 1, _, by omega, by push_cast; rfl, by rw [List.length_set]; exact HL'.out, hset, (by repeat' first | (with_reducible first | exact Fr.refl _ _ | assumption | refine Fr.drewN ?_ _ | refine Fr.drew ?_ | refine Fr.alloc ?_ _ | refine Fr.set ?_ ?_ _) | (intro _; rfl))⟩, by simp [intOf]; omega⟩
    · have hin : i = n := by omega
      subst hin
      have HS4 := hide (HS3.out.far HF.out HN.out (fun k hk e => HS3.out.rep.notR HV3.out notWS k hk e) H0.out.low)
      have HB4 : Hid (BookN K L W w0 i 0 (.slice la i lc) wr) := ⟨⟨l', L, W.bk, by rw [hl']; exact HV.out, HN.out, by rw [hl']; rfl, HS4.out, rfl, rfl, rfl, rfl, rfl, rfl, rfl⟩⟩
      clear hv hf hl'
      go_wp2_with fail
      clear HS4 HV HF HL' HV3 HS3 HN HLEN HNN hi hlt
      go_loopw [1, 7] (fun t1 t7 w' => ∃ j : Nat, j ≤ 4 ∧ t7 = .int .i64 j ∧ BookN K L W w0 i j t1 w') (fun _ t7 _ => 4 - (intOf t7).toNat)
      case atStart => exact ⟨0, by omega, rfl, HB4.out⟩
      case round =>
        obtain ⟨j, hj, rfl, hbk⟩ := hrel
        have HBK := hide hbk
        by_cases hlt : j < 4
        · obtain ⟨⟨l1, L1, bk1, hv1, hn1, hl1, hs1, e1, e2, e3, e4, e5, e6, e7⟩⟩ := hbk
          have HV1 := hide hv1
          have HN1 := hide hn1
          have HL1 := hide hl1
          have HS1 := hide hs1
          have HE := hide (And.intro e1 (And.intro e2 (And.intro e3 (And.intro e4 (And.intro e5 (And.intro e6 e7))))))
          have hl1' : i + j < 1000000000 := by omega
          rw [hl1] at hv1 HV1
          obtain ⟨a1, c1, rfl⟩ := own_form hv1
          have hwb := hs1.wb
          have hb0 := hs1.rep.blk
          rw [hwb] at hb0
          obtain ⟨va, vc, hvs⟩ : ∃ va vc, L1.ns = .slice va bk1.ns.length vc := own_form hs1.rep.book.ns
          obtain ⟨ma, mc, hvm⟩ : ∃ ma mc, L1.nm = .slice ma bk1.nm.length mc := own_form hs1.rep.book.nm
          have hvsl : bk1.ns.length < 1000000000 := by have := HSM.out.ns; omega
          have hvml : bk1.nm.length < 1000000000 := by have := HSM.out.nm; omega
          have hc := hb0.cell
          simp only [WM.cells, WM.booked, hvs, hvm] at hc
          have HROW := hide hs1.rep.book.ns
          have HWB := hide hwb
          have HVS := hide hvs
          have HVM := hide hvm
          rw [hvs] at HROW
          have HB4' : Hid (∀ w4 : World, Fr (fun k => (Value.slice va bk1.ns.length vc).ownBlock = some k) wr w4 → Blk w4 L.wb ((W.booked bk1).cells L1) 49) := fun w4 f => hb0.fr f (own_ne HROW.out hb0 (by decide))
          have HST1 : Hid (∀ (v4 : Value) (w4 : World) (n : Nat), n = bk1.ns.length + 1 → w4.ownsRow 0 91 1 v4 n (bk1.ns ++ [.slice a1 (i + j) c1]) → Fr (fun k => (Value.slice va bk1.ns.length vc).ownBlock = some k) wr w4 → (∀ k, v4.ownBlock = some k → (Value.slice va bk1.ns.length vc).ownBlock = some k ∨ wr.heap.size ≤ k) →
              WStep K L1 wr { L1 with ns := v4 } (W.booked { bk1 with ns := bk1.ns ++ [.slice a1 (i + j) c1] }) (w4.setCell ⟨L.wb, 19, none⟩ v4)) := fun v4 w4 n e ho hf hn => by rw [← hwb]; rw [← hvs] at hf hn; exact arm_ns HS1.out.rep e ho hf hn
          clear hv1 hn1 hl1 hs1 e1 e2 e3 e4 e5 e6 e7 hwb hvs hvm hb0
          go_wp2_with (at_builtin; (first
            | (refine wpList_app rfl _ _ _ _ rfl _ _ (by rfl) (by rfl) (app_one Tryz.underlying91 infoStrB (by decide) _ _ _ _ HV7.out (.string (wordB m)) rfl hl1' _ (by repeat' first | (with_reducible first | exact Fr.refl _ _ | assumption | refine Fr.drewN ?_ _ | refine Fr.drew ?_ | refine Fr.alloc ?_ _ | refine Fr.set ?_ ?_ _) | (intro _; rfl)) _ (by exact Blk.newAt _ [_] _ _ (by simp [World.setCell])) _) ?_; rintro v8 w8 ⟨ho8, hf8, hn8⟩)
            | (refine wpList_app rfl _ _ _ _ rfl _ _ (by rfl) (by rfl) (app_one Tryz.underlying26 infoInt (by decide) _ _ _ _ HROW2.out (.int .i64 m) rfl hvml _ (by repeat' first | (with_reducible first | exact Fr.refl _ _ | assumption | refine Fr.drewN ?_ _ | refine Fr.drew ?_ | refine Fr.alloc ?_ _ | refine Fr.set ?_ ?_ _) | (intro _; rfl)) _ (by exact Blk.newAt _ [_] _ _ (by simp [World.setCell])) _) ?_; rintro v6 w6 ⟨ho6, hf6, hn6⟩; have hb6 := HB5.out _ hf6; have hc6 := hb6.cell; simp only [WM.cells, WM.booked] at hc6; have hz6 := hb6.frozen; have HS7 := hide (HST2.out _ _ _ rfl ho6 hf6 hn6); have HV7 : Hid (World.ownsRow _ 0 9 1 (.slice a1 (i + j) c1) (i + j) l1) := own_fr HV5.out HS7.out.fr (fun k e hk => HS5.out.rep.notR HV5.out notWS k hk e); obtain ⟨va6, vc6, rfl⟩ := own_form ho6)
            | (refine wpList_app rfl _ _ _ _ rfl _ _ (by rfl) (by rfl) (app_one Tryz.underlying44 infoSS (by decide) wr _ _ _ HROW.out (.slice a1 (i + j) c1) rfl hvsl _ (by repeat' first | (with_reducible first | exact Fr.refl _ _ | assumption | refine Fr.drewN ?_ _ | refine Fr.drew ?_ | refine Fr.alloc ?_ _ | refine Fr.set ?_ ?_ _) | (intro _; rfl)) _ (by exact Blk.new _ [_] _) _) ?_; rintro v4 w4 ⟨ho4, hf4, hn4⟩; have hb4 := HB4'.out _ hf4; have hc4 := hb4.cell; simp only [WM.cells, WM.booked, HVM.out] at hc4; have hz4 := hb4.frozen; have HS5 := hide (HST1.out _ _ _ rfl ho4 hf4 hn4); have HV5 : Hid (World.ownsRow _ 0 9 1 (.slice a1 (i + j) c1) (i + j) l1) := own_fr HV1.out HS5.out.fr (fun k e hk => HS1.out.rep.notR HV1.out notWS k hk e); have HROW2 := hide HS5.out.rep.book.nm; rw [show ({ L1 with ns := v4 } : WL).nm = .slice ma bk1.nm.length mc from HVM.out] at HROW2; have HB5 : Hid (∀ w6 : World, Fr (fun k => (Value.slice ma bk1.nm.length mc).ownBlock = some k) _ w6 → Blk w6 L.wb ((W.booked { bk1 with ns := bk1.ns ++ [.slice a1 (i + j) c1] }).cells { L1 with ns := v4 }) 49) := (fun w6 f => by rw [← HWB.out]; exact HS5.out.rep.blk.fr f (own_ne HROW2.out HS5.out.rep.blk (by decide))); have HST2 : Hid (∀ (v6 : Value) (w6 : World) (n : Nat), n = bk1.nm.length + 1 → w6.ownsRow 0 3 1 v6 n (marksB bk1.nm ++ [.int .i64 m]) → Fr (fun k => (Value.slice ma bk1.nm.length mc).ownBlock = some k) (w4.setCell ⟨L.wb, 19, none⟩ v4) w6 → (∀ k, v6.ownBlock = some k → (Value.slice ma bk1.nm.length mc).ownBlock = some k ∨ (w4.setCell ⟨L.wb, 19, none⟩ v4).heap.size ≤ k) → WStep K { L1 with ns := v4 } (w4.setCell ⟨L.wb, 19, none⟩ v4) { L1 with ns := v4, nm := v6 } (W.booked { bk1 with ns := bk1.ns ++ [.slice a1 (i + j) c1], nm := bk1.nm ++ [m] }) (w6.setCell ⟨L.wb, 20, none⟩ v6)) := (fun v6 w6 n e ho hf hn => by rw [← HWB.out] at hf hn ⊢; rw [← HVM.out] at hf hn; have hr := HS5.out.rep; rw [← HWB.out] at hr; exact arm_nm (L1 := { L1 with ns := v4 }) (W1 := W.booked { bk1 with ns := bk1.ns ++ [.slice a1 (i + j) c1] }) (m := m) hr e ho hf hn); obtain ⟨va4, vc4, rfl⟩ := own_form ho4)))
          have hS7 := HS1.out.trans (HS5.out.trans HS7.out)
          have hS8 : WStep K L w0 _ _ w8 := hS7.far hf8 HN1.out (fun k hk e => hS7.rep.notR HV7.out notWS k hk e) H0.out.low
          have hle : w0.heap.size ≤ (w6.setCell ⟨L.wb, 20, none⟩ _).heap.size := hS7.fr.size
          obtain ⟨e1, e2, e3, e4, e5, e6, e7⟩ := HE.out
          have hlen : (l1 ++ [.string (wordB m)] : List Value).length = i + j + 1 := by rw [List.length_append, List.length_singleton, HL1.out]
          refine ⟨⟨j + 1, by omega, by push_cast; rfl, ⟨⟨l1 ++ [.string (wordB m)], _, _, by rw [hlen]; exact ho8, fun k e => (hn8 k e).elim (HN1.out k) (fun e => Nat.le_trans hle e), by rw [hlen]; omega, hS8, ?_, ?_, e3, e4, e5, e6, e7⟩⟩⟩, by simp [intOf]; omega⟩
          · simp only [List.length_append, List.length_singleton]; omega
          · simp only [List.length_append, List.length_singleton]; omega
        · have hj4 : j = 4 := by omega
          subst hj4
          obtain ⟨⟨l1, L1, bk1, hv1, hn1, hl1, hs1, e1, e2, e3, e4, e5, e6, e7⟩⟩ := hbk
          have HS1 := hide hs1
          have HE : Hid (Booked W.bk bk1) := ⟨by rw [e3]; omega, by rw [e4]; omega, by omega, by omega, by rw [e5]; omega, by rw [e6]; omega⟩
          have HPS := hide e7
          clear hv1 hn1 hl1 hs1 e1 e2 e3 e4 e5 e6 e7
          go_wp2_with fail
          exact bodyPost_end (v := .tuple #[]) (by simp [results, go_sem]) rfl ⟨rfl, L1, bk1, HS1.out, HE.out, HPS.out⟩
theorem infoHintB : ((Tryz.prog.info? 75).map fun i => (i.zero.map (·.cells.size), i.size, i.bytes)) = some (some 2, 2, 24) := by kernel_rfl
theorem app_hint2 (w : World) (v : Value) (n : Nat) (xs : List Value) (h : w.ownsRow 0 75 2 v n xs) (m : Nat) (t : ByteArray) (hn : n < 1000000000) (W0 : World) (hf : Fr Nil w W0) (N : Nat) (hN : Blk W0 N [.int .i64 m, .string t] 75) (ty : TypeId) :
    ∃ v' w', (Builtin.append_ #[66, 66] ty #[v, .slice (some ⟨N, 0, none⟩) 1 1]).run Tryz.prog W0 = .ok v' w' ∧
      (w'.ownsRow 0 75 2 v' (n + 1) (xs ++ [.int .i64 m, .string t]) ∧ Fr (fun k => v.ownBlock = some k) w w' ∧ (∀ k, v'.ownBlock = some k → v.ownBlock = some k ∨ w.heap.size ≤ k)) := by
  have ho := own_fr h hf (fun _ _ => id)
  obtain ⟨v', w', hr, h1, h2, h3⟩ := run_app_slice (P := Tryz.prog) 66 ty 75 2 24 Tryz.underlying66 infoHintB (by omega) v n xs ho ⟨N, 0, none⟩ 1 1 [.int .i64 m, .string t] rfl
    (fun j u hu => by rw [Addr.add_lit, Nat.zero_add, hN.cell]; exact hu) (by intro u hu; simp at hu; rcases hu with rfl | rfl <;> rfl) (by unfold maxLen; omega) (by omega)
  refine ⟨v', w', hr, h1, (hf.mono (fun _ _ e => absurd e id)).trans' ((Fr.of_grown h2).mono (fun i _ h => h)) (fun i _ h => h), fun k hk => ?_⟩
  rcases h3 with h3 | h3
  · exact .inl (by rw [← h3]; exact hk)
  · rw [h3] at hk; simp at hk; have := hf.size; exact .inr (by omega)
structure BookH (K : Nat → Prop) (L : WL) (W : WM) (w0 : World) (n xb m i : Nat) (lv : Value) (w' : World) : Prop where
  ex : ∃ (l' : List Value) (L' : WL) (bk' : BK), w'.ownsRow 0 75 2 lv (n + i) l' ∧ (∀ k, lv.ownBlock = some k → w0.heap.size ≤ k) ∧ WStep K L w0 L' (W.booked bk') w' ∧ bk'.hs.length = W.bk.hs.length + i ∧ bk'.hm.length = W.bk.hm.length + i ∧ bk'.vs = W.bk.vs ∧ bk'.vm = W.bk.vm ∧ bk'.ns = W.bk.ns ∧ bk'.nm = W.bk.nm ∧ L'.ps = L.ps
  box : Blk w' xb [.int .i64 m, .string (wordB m)] 75
  notBox : ¬ lv.ownBlock = some xb
theorem notWH : ¬ WTy 75 := by
  intro hd
  unfold WTy at hd
  rcases hd with e | e | e | e | e | e <;> exact absurd e (by decide)
theorem arm_hs {K : Nat → Prop} {L1 : WL} {W1 : WM} {wr w4 : World} {v4 x : Value} {n : Nat} (h : WAt K wr L1 W1) (hn : n = W1.bk.hs.length + 1) (ho : w4.ownsRow 0 66 1 v4 n (W1.bk.hs ++ [x])) (hf : Fr (fun k => L1.hs.ownBlock = some k) wr w4) (hn4 : ∀ k, v4.ownBlock = some k → L1.hs.ownBlock = some k ∨ wr.heap.size ≤ k) :
    WStep K L1 wr { L1 with hs := v4 } { W1 with bk := { W1.bk with hs := W1.bk.hs ++ [x] } } (w4.setCell ⟨L1.wb, 21, none⟩ v4) :=
  WStep.hs h (by rw [List.length_append, List.length_singleton, ← hn]; exact ho) hf hn4
theorem arm_hm {K : Nat → Prop} {L1 : WL} {W1 : WM} {wr w4 : World} {v4 : Value} {m n : Nat} (h : WAt K wr L1 W1) (hn : n = W1.bk.hm.length + 1) (ho : w4.ownsRow 0 3 1 v4 n (marksB W1.bk.hm ++ [.int .i64 m])) (hf : Fr (fun k => L1.hm.ownBlock = some k) wr w4) (hn4 : ∀ k, v4.ownBlock = some k → L1.hm.ownBlock = some k ∨ wr.heap.size ≤ k) :
    WStep K L1 wr { L1 with hm := v4 } { W1 with bk := { W1.bk with hm := W1.bk.hm ++ [m] } } (w4.setCell ⟨L1.wb, 22, none⟩ v4) :=
  WStep.hm h (by rw [List.length_append, List.length_singleton, ← hn, marksB_snoc]; exact ho) hf hn4
set_option maxHeartbeats 3200000 in
theorem bookH_calls (K : Nat → Prop) (L : WL) (W : WM) (lv : Value) (l : List (Nat × ByteArray)) (w0 w : World) (h0 : WAt K w0 L W) (f0 : Fr Nil w0 w) (hl : w.ownsRow 0 75 2 lv l.length (flatH l)) (hnew : ∀ k, lv.ownBlock = some k → w0.heap.size ≤ k) (hn : l.length < 100000000) (hb : W.base < 100000000) (hx : W.next < 100000000) (hs : BSmall W.bk) :
    Calls Tryz.prog 122 #[.pointer (some ⟨L.wb, 15, none⟩), lv] w fun e w' => e = .returned (.tuple #[]) ∧ ∃ L' bk', WStep K L w0 L' (W.booked bk') w' ∧ Booked W.bk bk' ∧ L'.ps = L.ps := by
  have HM := hide (mark_calls K L W w (h0.nil f0) hb hx)
  have H0 := hide h0
  have F0 := hide f0
  have HL := hide hl
  have HN := hide hnew
  have HSM := hide hs
  have HLT : Hid (∀ k, lv.ownBlock = some k → k < w.heap.size) := fun k e => own_lt hl e
  obtain ⟨la, lc, rfl⟩ := own_form hl
  have HLEN := hide hn
  clear h0 f0 hl hnew
  obtain ⟨m, hm⟩ : ∃ m, m = W.base + W.next + 1 := ⟨_, rfl⟩
  have hml : m < 1000000000000 := by omega
  rw [← hm] at HM
  clear hm hb hx hs
  go_enter Tryz.func122, Tryz.ntmps122
  go_wp2_with fail
  refine HM.out.mono ?_
  rintro e w1 ⟨rfl, hs1⟩
  have HS1 := hide hs1
  clear hs1
  go_wp2_with fail
  refine (word_calls m w1 hml).mono ?_
  rintro e w2 ⟨rfl, f2⟩
  go_wp2_with fail
  have hbx : Blk (w2.alloc (.cells #[.int .i64 m, .string (wordB m)] 75)) w2.heap.size [.int .i64 m, .string (wordB m)] 75 := Blk.new w2 [.int .i64 m, .string (wordB m)] _
  have f3 : Fr Nil w1 (w2.alloc (.cells #[.int .i64 m, .string (wordB m)] 75)) := f2.alloc _
  have hlt2 : w.heap.size ≤ w2.heap.size := Nat.le_trans HS1.out.fr.size f2.size
  generalize w2.alloc (.cells #[.int .i64 m, .string (wordB m)] 75) = w3 at hbx f3 ⊢
  generalize w2.heap.size = xb at hbx hlt2 ⊢
  have HBX := hide hbx
  have HNB : Hid (¬ (Value.slice la l.length lc).ownBlock = some xb) := fun e => by have := HLT.out xb e; omega
  have HS3 : Hid (WStep K L w0 L (W.booked W.bk) w3) := (WStep.nil H0.out F0.out).trans (HS1.out.trans (WStep.nil HS1.out.rep f3))
  have HV3 : Hid (w3.ownsRow 0 75 2 (.slice la l.length lc) l.length (flatH l)) := own_fr (own_fr HL.out HS1.out.fr (fun k e hk => (H0.out.nil F0.out).notR HL.out notWH k hk e)) f3 (fun _ _ => id)
  generalize l.length = n at HV3 HN HLEN HNB ⊢
  have hn : n < 100000000 := HLEN.out
  clear hbx f3 f2 hlt2 HS1 HL HM hml HLT
  go_loopw [6] (fun t6 w' => ∃ i : Nat, ∃ l' : List Value, i ≤ n ∧ t6 = .int .i64 i ∧ w'.ownsRow 0 75 2 (.slice la n lc) n l' ∧ Fr (fun k => (Value.slice la n lc).ownBlock = some k) w3 w') (fun t6 _ => n - (intOf t6).toNat)
  case atStart => exact ⟨0, flatH l, Nat.zero_le _, rfl, HV3.out, Fr.refl _ _⟩
  case round =>
    obtain ⟨i, l', hi, rfl, hv, hf⟩ := hrel
    have HV := hide hv
    have HF := hide hf
    by_cases hlt : i < n
    · obtain ⟨g, rfl⟩ : ∃ g, la = some ⟨g, 0, none⟩ := by
        obtain ⟨g, cap, e, _⟩ := own_some hv (by omega)
        simp at e; exact ⟨g, e.1⟩
      have hz : ∀ k, wr.frozen? ⟨g, k, none⟩ = false := fun k => own_frozen hv k
      have hll : l'.length = n * 2 := hv.1
      have hc0 : wr.cell? ⟨g, i * 2, none⟩ = some (l'[i * 2]'(by omega)) := own_cell? hv (i * 2) _ (List.getElem?_eq_getElem (by omega))
      have hc1 : wr.cell? ⟨g, i * 2 + 1, none⟩ = some (l'[i * 2 + 1]'(by omega)) := own_cell? hv (i * 2 + 1) _ (List.getElem?_eq_getElem (by omega))
      have hx := (HBX.out.fr hf HNB.out).cell
      generalize l'[i * 2]'(by omega) = x0 at hc0
      generalize l'[i * 2 + 1]'(by omega) = x1 at hc1
      clear hv hf hll
      go_wp2_with fail
      have hset := own_set (own_set HV.out (i * 2) (.int .i64 m)) (i * 2 + 1) (.string (wordB m))
      have hF := HF.out
      exact ⟨⟨i + 1, _, by omega, by push_cast; rfl, hset, (by repeat' first | (with_reducible first | exact Fr.refl _ _ | assumption | refine Fr.drewN ?_ _ | refine Fr.drew ?_ | refine Fr.alloc ?_ _ | refine Fr.set ?_ ?_ _) | (intro _; rfl))⟩, by simp [intOf]; omega⟩
    · have hin : i = n := by omega
      subst hin
      have HS4 := hide (HS3.out.far HF.out HN.out (fun k hk e => HS3.out.rep.notR HV3.out notWH k hk e) H0.out.low)
      have HB4 : Hid (BookH K L W w0 i xb m 0 (.slice la i lc) wr) := ⟨⟨l', L, W.bk, HV.out, HN.out, HS4.out, rfl, rfl, rfl, rfl, rfl, rfl, rfl⟩, HBX.out.fr HF.out HNB.out, HNB.out⟩
      clear hv hf
      go_wp2_with fail
      clear HS4 HV HF HV3 HS3 HN HLEN HBX HNB hi hlt
      go_loopw [1, 7] (fun t1 t7 w' => ∃ j : Nat, j ≤ 4 ∧ t7 = .int .i64 j ∧ BookH K L W w0 i xb m j t1 w') (fun _ t7 _ => 4 - (intOf t7).toNat)
      case atStart => exact ⟨0, by omega, rfl, HB4.out⟩
      case round =>
        obtain ⟨j, hj, rfl, hbk⟩ := hrel
        have HBK := hide hbk
        by_cases hlt : j < 4
        · obtain ⟨⟨l1, L1, bk1, hv1, hn1, hs1, e1, e2, e3, e4, e5, e6, e7⟩, hbx1, hnb1⟩ := hbk
          have HV1 := hide hv1
          have HN1 := hide hn1
          have HBX1 := hide hbx1
          have hx1 := hbx1.cell
          have HS1 := hide hs1
          have HE := hide (And.intro e1 (And.intro e2 (And.intro e3 (And.intro e4 (And.intro e5 (And.intro e6 e7))))))
          have hl1' : i + j < 1000000000 := by omega
          obtain ⟨a1, c1, rfl⟩ := own_form hv1
          have hwb := hs1.wb
          have hb0 := hs1.rep.blk
          rw [hwb] at hb0
          obtain ⟨va, vc, hvs⟩ : ∃ va vc, L1.hs = .slice va bk1.hs.length vc := own_form hs1.rep.book.hs
          obtain ⟨ma, mc, hvm⟩ : ∃ ma mc, L1.hm = .slice ma bk1.hm.length mc := own_form hs1.rep.book.hm
          have hvsl : bk1.hs.length < 1000000000 := by have := HSM.out.hs; omega
          have hvml : bk1.hm.length < 1000000000 := by have := HSM.out.hm; omega
          have hc := hb0.cell
          simp only [WM.cells, WM.booked, hvs, hvm] at hc
          have HROW := hide hs1.rep.book.hs
          have HWB := hide hwb
          have HVS := hide hvs
          have HVM := hide hvm
          rw [hvs] at HROW
          have HB4' : Hid (∀ w4 : World, Fr (fun k => (Value.slice va bk1.hs.length vc).ownBlock = some k) wr w4 → Blk w4 L.wb ((W.booked bk1).cells L1) 49) := fun w4 f => hb0.fr f (own_ne HROW.out hb0 (by decide))
          have HST1 : Hid (∀ (v4 : Value) (w4 : World) (n : Nat), n = bk1.hs.length + 1 → w4.ownsRow 0 66 1 v4 n (bk1.hs ++ [.slice a1 (i + j) c1]) → Fr (fun k => (Value.slice va bk1.hs.length vc).ownBlock = some k) wr w4 → (∀ k, v4.ownBlock = some k → (Value.slice va bk1.hs.length vc).ownBlock = some k ∨ wr.heap.size ≤ k) →
              WStep K L1 wr { L1 with hs := v4 } (W.booked { bk1 with hs := bk1.hs ++ [.slice a1 (i + j) c1] }) (w4.setCell ⟨L.wb, 21, none⟩ v4)) := fun v4 w4 n e ho hf hn => by rw [← hwb]; rw [← hvs] at hf hn; exact arm_hs HS1.out.rep e ho hf hn
          clear hv1 hn1 hs1 e1 e2 e3 e4 e5 e6 e7 hwb hvs hvm hb0 hbx1 hnb1
          go_wp2_with (at_builtin; (first
            | (refine wpList_app rfl _ _ _ _ rfl _ _ (by rfl) (by rfl) (app_hint2 _ _ _ _ HV7.out m (wordB m) hl1' _ (by repeat' first | (with_reducible first | exact Fr.refl _ _ | assumption | refine Fr.drewN ?_ _ | refine Fr.drew ?_ | refine Fr.alloc ?_ _ | refine Fr.set ?_ ?_ _) | (intro _; rfl)) _ (by exact Blk.newAt _ [_, _] _ _ (by simp [World.setCell])) _) ?_; rintro v8 w8 ⟨ho8, hf8, hn8⟩)
            | (refine wpList_app rfl _ _ _ _ rfl _ _ (by rfl) (by rfl) (app_one Tryz.underlying26 infoInt (by decide) _ _ _ _ HROW2.out (.int .i64 m) rfl hvml _ (by repeat' first | (with_reducible first | exact Fr.refl _ _ | assumption | refine Fr.drewN ?_ _ | refine Fr.drew ?_ | refine Fr.alloc ?_ _ | refine Fr.set ?_ ?_ _) | (intro _; rfl)) _ (by exact Blk.newAt _ [_] _ _ (by simp [World.setCell])) _) ?_; rintro v6 w6 ⟨ho6, hf6, hn6⟩; have hb6 := HB5.out _ hf6; have hc6 := hb6.cell; simp only [WM.cells, WM.booked] at hc6; have hz6 := hb6.frozen; have HS7 := hide (HST2.out _ _ _ rfl ho6 hf6 hn6); have HBX7 := hide (HBX5.out.fr HS7.out.fr (HS5.out.rep.notB HBX5.out notWH)); have hx7 := HBX7.out.cell; have HV7 : Hid (World.ownsRow _ 0 75 2 (.slice a1 (i + j) c1) (i + j) l1) := own_fr HV5.out HS7.out.fr (fun k e hk => HS5.out.rep.notR HV5.out notWH k hk e); obtain ⟨va6, vc6, rfl⟩ := own_form ho6)
            | (refine wpList_app rfl _ _ _ _ rfl _ _ (by rfl) (by rfl) (app_one Tryz.underlying45 infoHS (by decide) wr _ _ _ HROW.out (.slice a1 (i + j) c1) rfl hvsl _ (by repeat' first | (with_reducible first | exact Fr.refl _ _ | assumption | refine Fr.drewN ?_ _ | refine Fr.drew ?_ | refine Fr.alloc ?_ _ | refine Fr.set ?_ ?_ _) | (intro _; rfl)) _ (by exact Blk.new _ [_] _) _) ?_; rintro v4 w4 ⟨ho4, hf4, hn4⟩; have hb4 := HB4'.out _ hf4; have hc4 := hb4.cell; simp only [WM.cells, WM.booked, HVM.out] at hc4; have hz4 := hb4.frozen; have HS5 := hide (HST1.out _ _ _ rfl ho4 hf4 hn4); have HBX5 := hide (HBX1.out.fr HS5.out.fr (HS1.out.rep.notB HBX1.out notWH)); have HV5 : Hid (World.ownsRow _ 0 75 2 (.slice a1 (i + j) c1) (i + j) l1) := own_fr HV1.out HS5.out.fr (fun k e hk => HS1.out.rep.notR HV1.out notWH k hk e); have HROW2 := hide HS5.out.rep.book.hm; rw [show ({ L1 with hs := v4 } : WL).hm = .slice ma bk1.hm.length mc from HVM.out] at HROW2; have HB5 : Hid (∀ w6 : World, Fr (fun k => (Value.slice ma bk1.hm.length mc).ownBlock = some k) _ w6 → Blk w6 L.wb ((W.booked { bk1 with hs := bk1.hs ++ [.slice a1 (i + j) c1] }).cells { L1 with hs := v4 }) 49) := (fun w6 f => by rw [← HWB.out]; exact HS5.out.rep.blk.fr f (own_ne HROW2.out HS5.out.rep.blk (by decide))); have HST2 : Hid (∀ (v6 : Value) (w6 : World) (n : Nat), n = bk1.hm.length + 1 → w6.ownsRow 0 3 1 v6 n (marksB bk1.hm ++ [.int .i64 m]) → Fr (fun k => (Value.slice ma bk1.hm.length mc).ownBlock = some k) (w4.setCell ⟨L.wb, 21, none⟩ v4) w6 → (∀ k, v6.ownBlock = some k → (Value.slice ma bk1.hm.length mc).ownBlock = some k ∨ (w4.setCell ⟨L.wb, 21, none⟩ v4).heap.size ≤ k) → WStep K { L1 with hs := v4 } (w4.setCell ⟨L.wb, 21, none⟩ v4) { L1 with hs := v4, hm := v6 } (W.booked { bk1 with hs := bk1.hs ++ [.slice a1 (i + j) c1], hm := bk1.hm ++ [m] }) (w6.setCell ⟨L.wb, 22, none⟩ v6)) := (fun v6 w6 n e ho hf hn => by rw [← HWB.out] at hf hn ⊢; rw [← HVM.out] at hf hn; have hr := HS5.out.rep; rw [← HWB.out] at hr; exact arm_hm (L1 := { L1 with hs := v4 }) (W1 := W.booked { bk1 with hs := bk1.hs ++ [.slice a1 (i + j) c1] }) (m := m) hr e ho hf hn); obtain ⟨va4, vc4, rfl⟩ := own_form ho4)))
          have hS7 := HS1.out.trans (HS5.out.trans HS7.out)
          have hS8 : WStep K L w0 _ _ w8 := hS7.far hf8 HN1.out (fun k hk e => hS7.rep.notR HV7.out notWH k hk e) H0.out.low
          have hle : w0.heap.size ≤ (w6.setCell ⟨L.wb, 22, none⟩ _).heap.size := hS7.fr.size
          obtain ⟨e1, e2, e3, e4, e5, e6, e7⟩ := HE.out
          have hbx8 := HBX7.out.fr hf8 HBK.out.notBox
          refine ⟨⟨j + 1, by omega, by push_cast; rfl, ⟨⟨l1 ++ [.int .i64 m, .string (wordB m)], _, _, ho8, fun k e => (hn8 k e).elim (HN1.out k) (fun e => Nat.le_trans hle e), hS8, ?_, ?_, e3, e4, e5, e6, e7⟩, hbx8, fun e => (hn8 xb e).elim HBK.out.notBox (fun e => by have := HBX7.out.lt; omega)⟩⟩, by simp [intOf]; omega⟩
          · simp only [List.length_append, List.length_singleton]; omega
          · simp only [List.length_append, List.length_singleton]; omega
        · have hj4 : j = 4 := by omega
          subst hj4
          obtain ⟨⟨l1, L1, bk1, hv1, hn1, hs1, e1, e2, e3, e4, e5, e6, e7⟩, _, _⟩ := hbk
          have HS1 := hide hs1
          have HE : Hid (Booked W.bk bk1) := ⟨by rw [e3]; omega, by rw [e4]; omega, by rw [e5]; omega, by rw [e6]; omega, by omega, by omega⟩
          have HPS := hide e7
          clear hv1 hn1 hs1 e1 e2 e3 e4 e5 e6 e7
          go_wp2_with fail
          exact bodyPost_end (v := .tuple #[]) (by simp [results, go_sem]) rfl ⟨rfl, L1, bk1, HS1.out, HE.out, HPS.out⟩
set_option maxHeartbeats 3200000 in
theorem asks_get_ok (K : Nat → Prop) (B : Nat) (L : WL) (W : WM) (X : NL) (N : NM) (M : DM) (o : OpM) (w : World) (h : Play K B w L W X N M) (hk : o.kind = 5) (hp : 0 < L.ps.length) (hl : L.ps.length < 1000000)
    (m : LM) (hm : W.st[L.ps.length - 1]? = some m) (hvs : versM m.keys o.key = getK N.S.keys o.key) (hnk : N.S.keys.length < 1099511627776) (hnl : (getK N.S.keys o.key).length ≤ 1000) (hbs : BSmall W.bk) (hba : W.base < 100000000) (hnx : W.next < 100000000) (hko : keyOk o.key = true) :
    Calls Tryz.prog 65 #[.pointer (some ⟨L.wb, 0, none⟩), .agg o.cells.toArray] w fun e w' => e = .returned (.bool true) ∧ ∃ L' bk', PStep K B L X M w K L' (W.booked bk') X N M w' ∧ L'.ps = L.ps ∧ Booked W.bk bk' := by
  obtain ⟨kind, a, b, c, key, text, v, tails⟩ := o
  simp only at *
  subst hk
  simp only [OpM.cells, Ver.cells, List.cons_append, List.nil_append]
  have f1 : Fr Nil w (w.alloc (.cells #[.int .i64 5, .int .i64 a, .int .i64 b, .int .i64 c, .string key, .string text, .int .i64 v.node, .int .i64 v.seq, .int .i64 v.o0, .int .i64 v.o1, .int .i64 v.o2, .int .i64 v.o3, .string v.value, .bool v.gone, tails] 39)) := (Fr.refl _ _).alloc _
  have hb1 := Blk.new w [.int .i64 5, .int .i64 a, .int .i64 b, .int .i64 c, .string key, .string text, .int .i64 v.node, .int .i64 v.seq, .int .i64 v.o0, .int .i64 v.o1, .int .i64 v.o2, .int .i64 v.o3, .string v.value, .bool v.gone, tails] 39
  have HC := hide (fun wx (f : Fr Nil w wx) => calls_calls wx L.db X.LD M ((h.marks).nil f))
  have HNOW := hide (fun wx (f : Fr Nil w wx) => now_calls K L W wx (h.wat.nil f) hp (by omega))
  have hple : L.ps.length = W.st.length := h.wat.ple
  have hlm : W.st[L.ps.length - 1]'(by omega) = m := by rw [List.getElem?_eq_getElem (by omega)] at hm; exact Option.some.inj hm
  have hlast := (h.wat.last hp).2
  simp only [hlm] at hlast
  obtain ⟨q, hqq⟩ : ∃ q, q = L.ps[L.ps.length - 1] := ⟨_, rfl⟩
  rw [← hqq] at hlast HNOW
  obtain ⟨kv, hv, ents, ha, hKb⟩ := hlast
  have hcw : ∀ wx, Fr Nil w wx → ∀ k, wx.cell? ⟨L.wb, k, none⟩ = (W.cells L)[k]? := fun wx f => (h.wat.nil f).blk.cell
  have HCW := hide hcw
  have hc0 := hcw _ f1
  simp only [WM.cells, h.nv] at hc0
  have hc1 := hb1.cell
  have HF1 := hide f1
  have HB1 := hide hb1
  have HH := hide h
  have HA := hide ha
  have HGET := hide (fun wx (f : Fr Nil w wx) => get_calls X N M key wx (h.node.nil f) hnk (by omega))
  have HVER := hide (fun wx (f : Fr Nil w wx) => versionsM_calls q kv hv ents m key wx (ha.nil f))
  rw [hvs] at HVER
  have HBAD := hide (fun wx => badKey_calls key wx)
  have HBK := hide (fun lv l wx f hl hn hlen => bookV_calls K L W lv l w wx h.wat f hl hn hlen hba hnx hbs)
  have HNL := hide hnl
  unfold badKey at HBAD
  rw [hko] at HBAD HGET
  simp only [if_true] at HBAD HGET
  clear h f1 hb1 hlm hqq ha hcw hKb hple hm hvs hnk hnl hbs hba hnx hko
  go_enter Tryz.func65, Tryz.ntmps65
  go_wp2_with (refine (HC.out _ HF1.out).mono ?_; rintro e wx ⟨rfl, hwx⟩; subst wx)
  refine (HNOW.out _ HF1.out).mono ?_
  rintro e w2 ⟨rfl, n2, hw2⟩
  subst w2
  have hF2 : Fr Nil w ((w.alloc (.cells #[.int .i64 5, .int .i64 a, .int .i64 b, .int .i64 c, .string key, .string text, .int .i64 v.node, .int .i64 v.seq, .int .i64 v.o0, .int .i64 v.o1, .int .i64 v.o2, .int .i64 v.o3, .string v.value, .bool v.gone, tails] 39)).drewN n2) := HF1.out.drewN n2
  have hc2 := HCW.out _ hF2
  simp only [WM.cells, HH.out.nv] at hc2
  have hb2 : Blk ((w.alloc (.cells #[.int .i64 5, .int .i64 a, .int .i64 b, .int .i64 c, .string key, .string text, .int .i64 v.node, .int .i64 v.seq, .int .i64 v.o0, .int .i64 v.o1, .int .i64 v.o2, .int .i64 v.o3, .string v.value, .bool v.gone, tails] 39)).drewN n2) w.heap.size [.int .i64 5, .int .i64 a, .int .i64 b, .int .i64 c, .string key, .string text, .int .i64 v.node, .int .i64 v.seq, .int .i64 v.o0, .int .i64 v.o1, .int .i64 v.o2, .int .i64 v.o3, .string v.value, .bool v.gone, tails] 39 := HB1.out.drewN n2
  have HB2 := hide hb2
  have hx2 := hb2.cell
  have HF2 := hide hF2
  clear hc0 hc1 hF2 hb2
  generalize (w.alloc (.cells #[.int .i64 5, .int .i64 a, .int .i64 b, .int .i64 c, .string key, .string text, .int .i64 v.node, .int .i64 v.seq, .int .i64 v.o0, .int .i64 v.o1, .int .i64 v.o2, .int .i64 v.o3, .string v.value, .bool v.gone, tails] 39)).drewN n2 = w2 at hc2 hx2 HF2 HB2 ⊢
  generalize hbb : w.heap.size = bb at hx2 HB2 ⊢
  have HBB := hide hbb
  clear hbb
  go_wp2_with fail
  have HCK : Hid (∀ wx, Fr Nil w2 wx → wx.cell? ⟨L.wb, 5, none⟩ = some (.pointer (some ⟨X.nb, 0, none⟩)) ∧ ∀ k, wx.cell? ⟨bb, k, none⟩ = ([.int .i64 5, .int .i64 a, .int .i64 b, .int .i64 c, .string key, .string text, .int .i64 v.node, .int .i64 v.seq, .int .i64 v.o0, .int .i64 v.o1, .int .i64 v.o2, .int .i64 v.o3, .string v.value, .bool v.gone, tails] : List Value)[k]?) := fun wx f => ⟨by rw [HCW.out _ (HF2.out.trans f)]; show some L.nv = _; rw [HH.out.nv], (HB2.out.fr f id).cell⟩
  have hcc : w2.cell? ⟨L.wb, 5, none⟩ = some (.pointer (some ⟨X.nb, 0, none⟩)) ∧ w2.cell? ⟨bb, 4, none⟩ = some (.string key) := ⟨(HCK.out w2 (Fr.refl _ _)).1, (HCK.out w2 (Fr.refl _ _)).2 4⟩
  go_region_held3 (fun wx => wx.cell? ⟨L.wb, 5, none⟩ = some (.pointer (some ⟨X.nb, 0, none⟩)) ∧ wx.cell? ⟨bb, 4, none⟩ = some (.string key)) (first | assumption | go_keep)
    (first | (go_at_call 24; refine (HGET.out _ (HF2.out.trans (by exact (by repeat' first | (with_reducible first | exact Fr.refl _ _ | assumption | refine Fr.drewN ?_ _ | refine Fr.drew ?_ | refine Fr.alloc ?_ _ | refine Fr.set ?_ ?_ _) | (intro _; rfl))))).mono ?_; rintro e w4 ⟨v4, rfl, hv4, hf4, hn4⟩; have hF4 : Fr Nil w2 w4 := Fr.trans (by repeat' first | (with_reducible first | exact Fr.refl _ _ | assumption | refine Fr.drewN ?_ _ | refine Fr.drew ?_ | refine Fr.alloc ?_ _ | refine Fr.set ?_ ?_ _) | (intro _; rfl)) hf4; have hz4 : w4.cell? ⟨L.wb, 5, none⟩ = some (.pointer (some ⟨X.nb, 0, none⟩)) ∧ w4.cell? ⟨bb, 4, none⟩ = some (.string key) := ⟨(HCK.out w4 hF4).1, (HCK.out w4 hF4).2 4⟩; have HV4 := hide hv4; have HF4 := hide hF4; have HN4 : Hid (∀ k, v4.ownBlock = some k → w.heap.size ≤ k) := (fun k e => Nat.le_trans HF2.out.size (hn4 k e)); clear hf4 hF4 hv4 hn4))
  obtain ⟨va4, vc4, rfl⟩ := own_form HV4.out
  have hxx := (HCK.out w4 HF4.out).2
  clear hc2 hx2 hcc hz4
  go_wp2_with (refine (HBAD.out _).mono ?_; rintro e wx ⟨rfl, hwx⟩; subst wx)
  refine (HVER.out w4 (HF2.out.trans HF4.out)).mono ?_
  rintro e wx ⟨v5, rfl, hv5, _, hwx⟩
  subst wx
  obtain ⟨va5, vc5, rfl⟩ := own_form hv5
  have HV5 := hide hv5
  clear hv5
  go_wp2_with fail
  have HSAME := hide (sameVersions_calls _ _ _ _ w4 HV4.out HV5.out (by have := HNL.out; omega))
  refine HSAME.out.mono ?_
  rintro e w6 ⟨b6, rfl, hb6, f6⟩
  have hbt : b6 = true := hb6.2 rfl
  subst hbt
  have hF6 := HF4.out.trans f6
  have hc6 := HCW.out w6 (HF2.out.trans hF6)
  simp only [WM.cells, HH.out.nv] at hc6
  have HV6 := hide (VRow.fr HV4.out f6 (fun _ _ => id))
  have HF6 := hide (HF2.out.trans hF6)
  clear hxx hF6 f6 hb6
  go_wp2_with fail
  refine (HBK.out _ _ w6 HF6.out HV6.out HN4.out (by have := HNL.out; omega)).mono ?_
  rintro e w7 ⟨rfl, L7, bk7, hs7, hbk7, hps7⟩
  have hP7 := HH.out.turn hs7
  have HC7 := hide (calls_calls w7 L.db X.LD M (by have := hP7.rep.marks; rw [hs7.db] at this; exact this))
  have hc7 := hP7.rep.wat.blk.cell
  rw [hs7.wb] at hc7
  simp only [WM.cells, hs7.db] at hc7
  have HP7 := hide hP7
  have HB7 := hide hbk7
  have HPS7 := hide hps7
  clear hc6 hP7 hs7 hbk7 hps7
  go_wp2_with (refine HC7.out.mono ?_; rintro e wx ⟨rfl, hwx⟩; subst wx)
  go_ret
  exact ⟨rfl, L7, bk7, HP7.out, HPS7.out, HB7.out⟩
set_option maxHeartbeats 3200000 in
theorem asks_get_bad (K : Nat → Prop) (B : Nat) (L : WL) (W : WM) (X : NL) (N : NM) (M : DM) (o : OpM) (w : World) (h : Play K B w L W X N M) (hk : o.kind = 5) (hp : 0 < L.ps.length) (hl : L.ps.length < 1000000)
    (m : LM) (hm : W.st[L.ps.length - 1]? = some m) (hvs : versM m.keys o.key = getK N.S.keys o.key) (hnk : N.S.keys.length < 1099511627776) (hnl : (getK N.S.keys o.key).length ≤ 1000) (hbs : BSmall W.bk) (hba : W.base < 100000000) (hnx : W.next < 100000000) (hko : keyOk o.key = false) :
    Calls Tryz.prog 65 #[.pointer (some ⟨L.wb, 0, none⟩), .agg o.cells.toArray] w fun e w' => e = .returned (.bool true) ∧ ∃ L' bk', PStep K B L X M w K L' (W.booked bk') X N M w' ∧ L'.ps = L.ps ∧ Booked W.bk bk' := by
  obtain ⟨kind, a, b, c, key, text, v, tails⟩ := o
  simp only at *
  subst hk
  simp only [OpM.cells, Ver.cells, List.cons_append, List.nil_append]
  have f1 : Fr Nil w (w.alloc (.cells #[.int .i64 5, .int .i64 a, .int .i64 b, .int .i64 c, .string key, .string text, .int .i64 v.node, .int .i64 v.seq, .int .i64 v.o0, .int .i64 v.o1, .int .i64 v.o2, .int .i64 v.o3, .string v.value, .bool v.gone, tails] 39)) := (Fr.refl _ _).alloc _
  have hb1 := Blk.new w [.int .i64 5, .int .i64 a, .int .i64 b, .int .i64 c, .string key, .string text, .int .i64 v.node, .int .i64 v.seq, .int .i64 v.o0, .int .i64 v.o1, .int .i64 v.o2, .int .i64 v.o3, .string v.value, .bool v.gone, tails] 39
  have HC := hide (fun wx (f : Fr Nil w wx) => calls_calls wx L.db X.LD M ((h.marks).nil f))
  have HNOW := hide (fun wx (f : Fr Nil w wx) => now_calls K L W wx (h.wat.nil f) hp (by omega))
  have hple : L.ps.length = W.st.length := h.wat.ple
  have hlm : W.st[L.ps.length - 1]'(by omega) = m := by rw [List.getElem?_eq_getElem (by omega)] at hm; exact Option.some.inj hm
  have hlast := (h.wat.last hp).2
  simp only [hlm] at hlast
  obtain ⟨q, hqq⟩ : ∃ q, q = L.ps[L.ps.length - 1] := ⟨_, rfl⟩
  rw [← hqq] at hlast HNOW
  obtain ⟨kv, hv, ents, ha, hKb⟩ := hlast
  have hcw : ∀ wx, Fr Nil w wx → ∀ k, wx.cell? ⟨L.wb, k, none⟩ = (W.cells L)[k]? := fun wx f => (h.wat.nil f).blk.cell
  have HCW := hide hcw
  have hc0 := hcw _ f1
  simp only [WM.cells, h.nv] at hc0
  have hc1 := hb1.cell
  have HF1 := hide f1
  have HB1 := hide hb1
  have HH := hide h
  have HA := hide ha
  have HGET := hide (fun wx (f : Fr Nil w wx) => get_calls X N M key wx (h.node.nil f) hnk (by omega))
  have HVER := hide (fun wx (f : Fr Nil w wx) => versionsM_calls q kv hv ents m key wx (ha.nil f))
  rw [hvs] at HVER
  have HBAD := hide (fun wx => badKey_calls key wx)
  have HBK := hide (fun lv l wx f hl hn hlen => bookV_calls K L W lv l w wx h.wat f hl hn hlen hba hnx hbs)
  have HNL := hide hnl
  unfold badKey at HBAD
  rw [hko] at HBAD HGET
  simp only [Bool.false_eq_true, if_false] at HBAD HGET
  clear h f1 hb1 hlm hqq ha hcw hKb hple hm hvs hnk hnl hbs hba hnx hko
  go_enter Tryz.func65, Tryz.ntmps65
  go_wp2_with (refine (HC.out _ HF1.out).mono ?_; rintro e wx ⟨rfl, hwx⟩; subst wx)
  refine (HNOW.out _ HF1.out).mono ?_
  rintro e w2 ⟨rfl, n2, hw2⟩
  subst w2
  have hF2 : Fr Nil w ((w.alloc (.cells #[.int .i64 5, .int .i64 a, .int .i64 b, .int .i64 c, .string key, .string text, .int .i64 v.node, .int .i64 v.seq, .int .i64 v.o0, .int .i64 v.o1, .int .i64 v.o2, .int .i64 v.o3, .string v.value, .bool v.gone, tails] 39)).drewN n2) := HF1.out.drewN n2
  have hc2 := HCW.out _ hF2
  simp only [WM.cells, HH.out.nv] at hc2
  have hb2 : Blk ((w.alloc (.cells #[.int .i64 5, .int .i64 a, .int .i64 b, .int .i64 c, .string key, .string text, .int .i64 v.node, .int .i64 v.seq, .int .i64 v.o0, .int .i64 v.o1, .int .i64 v.o2, .int .i64 v.o3, .string v.value, .bool v.gone, tails] 39)).drewN n2) w.heap.size [.int .i64 5, .int .i64 a, .int .i64 b, .int .i64 c, .string key, .string text, .int .i64 v.node, .int .i64 v.seq, .int .i64 v.o0, .int .i64 v.o1, .int .i64 v.o2, .int .i64 v.o3, .string v.value, .bool v.gone, tails] 39 := HB1.out.drewN n2
  have HB2 := hide hb2
  have hx2 := hb2.cell
  have HF2 := hide hF2
  clear hc0 hc1 hF2 hb2
  generalize (w.alloc (.cells #[.int .i64 5, .int .i64 a, .int .i64 b, .int .i64 c, .string key, .string text, .int .i64 v.node, .int .i64 v.seq, .int .i64 v.o0, .int .i64 v.o1, .int .i64 v.o2, .int .i64 v.o3, .string v.value, .bool v.gone, tails] 39)).drewN n2 = w2 at hc2 hx2 HF2 HB2 ⊢
  generalize hbb : w.heap.size = bb at hx2 HB2 ⊢
  have HBB := hide hbb
  clear hbb
  go_wp2_with fail
  have HCK : Hid (∀ wx, Fr Nil w2 wx → wx.cell? ⟨L.wb, 5, none⟩ = some (.pointer (some ⟨X.nb, 0, none⟩)) ∧ ∀ k, wx.cell? ⟨bb, k, none⟩ = ([.int .i64 5, .int .i64 a, .int .i64 b, .int .i64 c, .string key, .string text, .int .i64 v.node, .int .i64 v.seq, .int .i64 v.o0, .int .i64 v.o1, .int .i64 v.o2, .int .i64 v.o3, .string v.value, .bool v.gone, tails] : List Value)[k]?) := fun wx f => ⟨by rw [HCW.out _ (HF2.out.trans f)]; show some L.nv = _; rw [HH.out.nv], (HB2.out.fr f id).cell⟩
  have hcc : w2.cell? ⟨L.wb, 5, none⟩ = some (.pointer (some ⟨X.nb, 0, none⟩)) ∧ w2.cell? ⟨bb, 4, none⟩ = some (.string key) := ⟨(HCK.out w2 (Fr.refl _ _)).1, (HCK.out w2 (Fr.refl _ _)).2 4⟩
  go_region_held3 (fun wx => wx.cell? ⟨L.wb, 5, none⟩ = some (.pointer (some ⟨X.nb, 0, none⟩)) ∧ wx.cell? ⟨bb, 4, none⟩ = some (.string key)) (first | assumption | go_keep)
    (first | (go_at_call 24; refine (HGET.out _ (HF2.out.trans (by exact (by repeat' first | (with_reducible first | exact Fr.refl _ _ | assumption | refine Fr.drewN ?_ _ | refine Fr.drew ?_ | refine Fr.alloc ?_ _ | refine Fr.set ?_ ?_ _) | (intro _; rfl))))).mono ?_; rintro e w4 ⟨v4, rfl, hv4, hf4, hn4⟩; have hF4 : Fr Nil w2 w4 := Fr.trans (by repeat' first | (with_reducible first | exact Fr.refl _ _ | assumption | refine Fr.drewN ?_ _ | refine Fr.drew ?_ | refine Fr.alloc ?_ _ | refine Fr.set ?_ ?_ _) | (intro _; rfl)) hf4; have hz4 : w4.cell? ⟨L.wb, 5, none⟩ = some (.pointer (some ⟨X.nb, 0, none⟩)) ∧ w4.cell? ⟨bb, 4, none⟩ = some (.string key) := ⟨(HCK.out w4 hF4).1, (HCK.out w4 hF4).2 4⟩; have HV4 := hide hv4; have HF4 := hide hF4; have HN4 : Hid (∀ k, v4.ownBlock = some k → w.heap.size ≤ k) := (fun k e => Nat.le_trans HF2.out.size (hn4 k e)); clear hf4 hF4 hv4 hn4))
  obtain ⟨va4, vc4, rfl⟩ := own_form HV4.out
  have hxx := (HCK.out w4 HF4.out).2
  clear hc2 hx2 hcc hz4
  go_wp2_with (refine (HBAD.out _).mono ?_; rintro e wx ⟨rfl, hwx⟩; subst wx)
  have HV5 : Hid (VRow w4 (.slice none 0 0) []) := World.ownsRow_nil w4 0 _ _
  have HSAME := hide (sameVersions_calls _ _ _ _ w4 HV4.out HV5.out (by decide))
  refine HSAME.out.mono ?_
  rintro e w6 ⟨b6, rfl, hb6, f6⟩
  have hbt : b6 = true := hb6.2 rfl
  subst hbt
  have hF6 := HF4.out.trans f6
  have hc6 := HCW.out w6 (HF2.out.trans hF6)
  simp only [WM.cells, HH.out.nv] at hc6
  have HV6 := hide (VRow.fr HV4.out f6 (fun _ _ => id))
  have HF6 := hide (HF2.out.trans hF6)
  clear hxx hF6 f6 hb6
  go_wp2_with fail
  refine (HBK.out _ _ w6 HF6.out HV6.out HN4.out (by decide)).mono ?_
  rintro e w7 ⟨rfl, L7, bk7, hs7, hbk7, hps7⟩
  have hP7 := HH.out.turn hs7
  have HC7 := hide (calls_calls w7 L.db X.LD M (by have := hP7.rep.marks; rw [hs7.db] at this; exact this))
  have hc7 := hP7.rep.wat.blk.cell
  rw [hs7.wb] at hc7
  simp only [WM.cells, hs7.db] at hc7
  have HP7 := hide hP7
  have HB7 := hide hbk7
  have HPS7 := hide hps7
  clear hc6 hP7 hs7 hbk7 hps7
  go_wp2_with (refine HC7.out.mono ?_; rintro e wx ⟨rfl, hwx⟩; subst wx)
  go_ret
  exact ⟨rfl, L7, bk7, HP7.out, HPS7.out, HB7.out⟩
theorem asks_get (K : Nat → Prop) (B : Nat) (L : WL) (W : WM) (X : NL) (N : NM) (M : DM) (o : OpM) (w : World) (h : Play K B w L W X N M) (hk : o.kind = 5) (hp : 0 < L.ps.length) (hl : L.ps.length < 1000000)
    (m : LM) (hm : W.st[L.ps.length - 1]? = some m) (hvs : versM m.keys o.key = getK N.S.keys o.key) (hnk : N.S.keys.length < 1099511627776) (hnl : (getK N.S.keys o.key).length ≤ 1000) (hbs : BSmall W.bk) (hba : W.base < 100000000) (hnx : W.next < 100000000) :
    Calls Tryz.prog 65 #[.pointer (some ⟨L.wb, 0, none⟩), .agg o.cells.toArray] w fun e w' => e = .returned (.bool true) ∧ ∃ L' bk', PStep K B L X M w K L' (W.booked bk') X N M w' ∧ L'.ps = L.ps ∧ Booked W.bk bk' := by
  cases hko : keyOk o.key with
  | true => exact asks_get_ok K B L W X N M o w h hk hp hl m hm hvs hnk hnl hbs hba hnx hko
  | false => exact asks_get_bad K B L W X N M o w h hk hp hl m hm hvs hnk hnl hbs hba hnx hko
set_option maxHeartbeats 3200000 in
theorem asks_keys (K : Nat → Prop) (B : Nat) (L : WL) (W : WM) (X : NL) (N : NM) (M : DM) (o : OpM) (w : World) (h : Play K B w L W X N M) (hk : o.kind = 6) (hp : 0 < L.ps.length) (hl : L.ps.length < 1000000)
    (m : LM) (hm : W.st[L.ps.length - 1]? = some m) (hkeys : m.keys = N.S.keys) (hnk : N.S.keys.length < 100000000) (hbs : BSmall W.bk) (hba : W.base < 100000000) (hnx : W.next < 100000000) :
    Calls Tryz.prog 65 #[.pointer (some ⟨L.wb, 0, none⟩), .agg o.cells.toArray] w fun e w' => e = .returned (.bool true) ∧ ∃ L' bk', PStep K B L X M w K L' (W.booked bk') X N M w' ∧ L'.ps = L.ps ∧ Booked W.bk bk' := by
  obtain ⟨kind, a, b, c, key, text, v, tails⟩ := o
  simp only at *
  subst hk
  simp only [OpM.cells, Ver.cells, List.cons_append, List.nil_append]
  have f1 : Fr Nil w (w.alloc (.cells #[.int .i64 6, .int .i64 a, .int .i64 b, .int .i64 c, .string key, .string text, .int .i64 v.node, .int .i64 v.seq, .int .i64 v.o0, .int .i64 v.o1, .int .i64 v.o2, .int .i64 v.o3, .string v.value, .bool v.gone, tails] 39)) := (Fr.refl _ _).alloc _
  have hb1 := Blk.new w [.int .i64 6, .int .i64 a, .int .i64 b, .int .i64 c, .string key, .string text, .int .i64 v.node, .int .i64 v.seq, .int .i64 v.o0, .int .i64 v.o1, .int .i64 v.o2, .int .i64 v.o3, .string v.value, .bool v.gone, tails] 39
  have HC := hide (fun wx (f : Fr Nil w wx) => calls_calls wx L.db X.LD M ((h.marks).nil f))
  have HNOW := hide (fun wx (f : Fr Nil w wx) => now_calls K L W wx (h.wat.nil f) hp (by omega))
  have hple : L.ps.length = W.st.length := h.wat.ple
  have hlm : W.st[L.ps.length - 1]'(by omega) = m := by rw [List.getElem?_eq_getElem (by omega)] at hm; exact Option.some.inj hm
  have hlast := (h.wat.last hp).2
  simp only [hlm] at hlast
  obtain ⟨q, hqq⟩ : ∃ q, q = L.ps[L.ps.length - 1] := ⟨_, rfl⟩
  rw [← hqq] at hlast HNOW
  obtain ⟨kv, hv, ents, ha, hKb⟩ := hlast
  have hcw : ∀ wx, Fr Nil w wx → ∀ k, wx.cell? ⟨L.wb, k, none⟩ = (W.cells L)[k]? := fun wx f => (h.wat.nil f).blk.cell
  have HCW := hide hcw
  have hc0 := hcw _ f1
  simp only [WM.cells, h.nv] at hc0
  have hc1 := hb1.cell
  have HF1 := hide f1
  have HB1 := hide hb1
  have HH := hide h
  have HA := hide ha
  have HKEYS := hide (fun wx (f : Fr Nil w wx) => keys_calls X N M wx (h.node.nil f) (by omega))
  have HBK := hide (fun lv l wx f hl hn hlen => bookN_calls K L W lv l w wx h.wat f hl hn hlen hba hnx hbs)
  have hel : ents.length = N.S.keys.length := by rw [ha.pair.length, hkeys]
  have hek : ∀ i (h1 : i < ents.length) (h2 : i < N.S.keys.length), ents[i].1 = N.S.keys[i].1 := fun i h1 h2 => by
    have := ha.pair.key i h1 (by rw [hkeys]; exact h2)
    simp only [hkeys] at this
    exact this
  obtain ⟨ka, kc, rfl⟩ := own_form ha.ent
  have HEL := hide hel
  have HEK := hide hek
  clear h f1 hb1 hlm hqq ha hcw hKb hple hm hkeys hbs hba hnx hel hek
  go_enter Tryz.func65, Tryz.ntmps65
  go_wp2_with (refine (HC.out _ HF1.out).mono ?_; rintro e wx ⟨rfl, hwx⟩; subst wx)
  refine (HNOW.out _ HF1.out).mono ?_
  rintro e w2 ⟨rfl, n2, hw2⟩
  subst w2
  have hF2 : Fr Nil w ((w.alloc (.cells #[.int .i64 6, .int .i64 a, .int .i64 b, .int .i64 c, .string key, .string text, .int .i64 v.node, .int .i64 v.seq, .int .i64 v.o0, .int .i64 v.o1, .int .i64 v.o2, .int .i64 v.o3, .string v.value, .bool v.gone, tails] 39)).drewN n2) := HF1.out.drewN n2
  have hc2 := HCW.out _ hF2
  simp only [WM.cells, HH.out.nv] at hc2
  have hb2 : Blk ((w.alloc (.cells #[.int .i64 6, .int .i64 a, .int .i64 b, .int .i64 c, .string key, .string text, .int .i64 v.node, .int .i64 v.seq, .int .i64 v.o0, .int .i64 v.o1, .int .i64 v.o2, .int .i64 v.o3, .string v.value, .bool v.gone, tails] 39)).drewN n2) w.heap.size [.int .i64 6, .int .i64 a, .int .i64 b, .int .i64 c, .string key, .string text, .int .i64 v.node, .int .i64 v.seq, .int .i64 v.o0, .int .i64 v.o1, .int .i64 v.o2, .int .i64 v.o3, .string v.value, .bool v.gone, tails] 39 := HB1.out.drewN n2
  have HB2 := hide hb2
  have hx2 := hb2.cell
  have HF2 := hide hF2
  clear hc0 hc1 hF2 hb2
  generalize (w.alloc (.cells #[.int .i64 6, .int .i64 a, .int .i64 b, .int .i64 c, .string key, .string text, .int .i64 v.node, .int .i64 v.seq, .int .i64 v.o0, .int .i64 v.o1, .int .i64 v.o2, .int .i64 v.o3, .string v.value, .bool v.gone, tails] 39)).drewN n2 = w2 at hc2 hx2 HF2 HB2 ⊢
  generalize hbb : w.heap.size = bb at hx2 HB2 ⊢
  have HBB := hide hbb
  clear hbb
  go_wp2_with fail
  refine (HKEYS.out w2 HF2.out).mono ?_
  rintro e w4 ⟨v4, rfl, hv4, hf4, hn4⟩
  obtain ⟨va4, vc4, rfl⟩ := own_form hv4
  have HV4 := hide hv4
  have HN4 : Hid (∀ k, (Value.slice va4 N.S.keys.length vc4).ownBlock = some k → w.heap.size ≤ k) := fun k e => Nat.le_trans HF2.out.size (hn4 k e)
  have HF4 := hide (HF2.out.trans hf4)
  have hq4 := (HA.out.nil HF4.out).blk.cell
  rw [HEL.out] at hq4
  have hc4 := HCW.out w4 HF4.out
  simp only [WM.cells, HH.out.nv] at hc4
  have HENT := hide ((HA.out.nil HF4.out).ent)
  rw [HEL.out] at HENT
  have HXX : Hid (∀ i, i < N.S.keys.length → ∃ x : ByteArray, (strs (N.S.keys.map Prod.fst))[i]? = some (.string x) ∧ (flatE ents)[i * 2]? = some (.string x)) := fun i h2 => by
    have h1 : i < ents.length := by rw [HEL.out]; exact h2
    refine ⟨N.S.keys[i].1, by simp [strs, h2], ?_⟩
    rw [← HEK.out i h1 h2]
    exact (flatE_get ents i h1).1
  generalize hnn : N.S.keys.length = n at hq4 HENT HV4 HN4 hnk HXX ⊢
  have hne : ((n : Int) == n) = true := by simp
  clear hc2 hx2 hv4 hf4 hn4
  go_wp2_with fail
  go_loopw [7, 13] (fun t7 t13 w' => ∃ i : Nat, i ≤ n ∧ t7 = .bool true ∧ t13 = .int .i64 i ∧ Fr Nil w4 w') (fun _ t13 _ => n - (intOf t13).toNat)
  case atStart => exact ⟨0, Nat.zero_le _, rfl, rfl, Fr.refl _ _⟩
  case round =>
    obtain ⟨i, hi, rfl, rfl, hf⟩ := hrel
    have HF := hide hf
    by_cases hlt : i < n
    · obtain ⟨g1, c1', e1, _, _⟩ := own_some HV4.out (by omega)
      obtain ⟨g2, c2', e2, _, _⟩ := own_some HENT.out (by omega)
      simp only [Value.slice.injEq] at e1 e2
      obtain ⟨rfl, -, -⟩ := e1
      obtain ⟨rfl, -, -⟩ := e2
      obtain ⟨xx, hm1, hm2⟩ := HXX.out i hlt
      have hx1 : ∀ n, (wr.drewN n).cell? ⟨g1, i, none⟩ = some (.string xx) := fun n => own_cell? (own_fr HV4.out (hf.drewN n) (fun _ _ => id)) i _ hm1
      have hx2 : ∀ n, (wr.drewN n).cell? ⟨g2, i * 2, none⟩ = some (.string xx) := fun n => own_cell? (own_fr HENT.out (hf.drewN n) (fun _ _ => id)) (i * 2) _ hm2
      have hq5 : ∀ n k, (wr.drewN n).cell? ⟨q, k, none⟩ = _ := fun n k => ((HA.out.nil HF4.out).blk.fr (hf.drewN n) (fun e => e)).cell k
      rw [HEL.out, hnn] at hq5
      have hxe : (xx.toList == xx.toList) = true := by simp
      clear hm1 hm2 hf hq4 hc4
      go_wp2_with fail
      go_quiet (fail)
      go_wp2_with fail
      exact ⟨⟨i + 1, by omega, rfl, by push_cast; rfl, HF.out.drewN _⟩, by simp [intOf]; omega⟩
    · have hin : i = n := by omega
      subst hin
      have HF6 := hide (HF4.out.trans hf)
      have HV6 := hide (own_fr HV4.out hf (fun _ _ => id))
      have hc6 := HCW.out wr HF6.out
      simp only [WM.cells, HH.out.nv] at hc6
      have hll : i = (strs (N.S.keys.map Prod.fst)).length := by rw [← hnn]; simp [strs]
      have HLL := hide hll
      generalize wr = w6 at HV6 HF6 hc6 ⊢
      clear hf HF hq4 hc4 hll
      go_wp2_with fail
      have HV7 : Hid (w6.ownsRow 0 9 1 (.slice va4 i vc4) (strs (N.S.keys.map Prod.fst)).length (strs (N.S.keys.map Prod.fst))) := by rw [← HLL.out]; exact HV6.out
      have hnk2 : (strs (N.S.keys.map Prod.fst)).length < 100000000 := by rw [← HLL.out]; exact hnk
      refine (HBK.out (.slice va4 i vc4) (strs (N.S.keys.map Prod.fst)) w6 HF6.out HV7.out HN4.out (hnk2)).mono ?_
      rintro e w7 ⟨rfl, L7, bk7, hs7, hbk7, hps7⟩
      have hP7 := HH.out.turn hs7
      have HC7 := hide (calls_calls w7 L.db X.LD M (by have := hP7.rep.marks; rw [hs7.db] at this; exact this))
      have hc7 := hP7.rep.wat.blk.cell
      rw [hs7.wb] at hc7
      simp only [WM.cells, hs7.db] at hc7
      have HP7 := hide hP7
      have HB7 := hide hbk7
      have HPS7 := hide hps7
      clear hc6 hP7 hs7 hbk7 hps7
      go_wp2_with (refine HC7.out.mono ?_; rintro e wx ⟨rfl, hwx⟩; subst wx)
      go_ret
      exact ⟨rfl, L7, bk7, HP7.out, HPS7.out, HB7.out⟩
end Go.Proofs.YtkhnggkkiefcdaaGreatDoor
