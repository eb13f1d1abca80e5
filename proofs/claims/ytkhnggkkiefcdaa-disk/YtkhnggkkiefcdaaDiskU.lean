/-
  The closed sentence on the disk: its disks where the power is cut.
-/
import Derived.Test.YtkhnggkkiefcdaaDiskT
namespace Go.Proofs.Ytkhnggkkiefcdaa
open Go.RowKit

theorem used_one (M : DM) (n : ByteArray) (f : Nat) (x : FM) (hd : M.dir = [(n, f)]) (hf : M.file f = x) (hx : x.bytes.length ≤ 100) : M.used = x.bytes.length := by
  have hl : M.dir.length = 0 + 1 := by rw [hd]; rfl
  have h1 := M.usedTo_succ 0 (by omega)
  have h0 : M.usedTo 0 = 0 := by simp [DM.usedTo]
  have e : M.file (M.dir[0]'(by omega)).2 = x := by
    simp only [hd, List.getElem_cons_zero]
    exact hf
  rw [h0, e, wrap_small _ hx] at h1
  unfold DM.used
  rw [hl]
  exact h1

theorem add_does (M M1 : DM) (n : ByteArray) (f : Nat) (a : Int) (data : ByteArray) (hl : M.dir.look n = some f) (hb : M.begins = (true, a, M1)) (hr : (data.size : Int) ≤ M1.left) :
    M.add n data = (a, M1.setFile f { M1.file f with bytes := (M1.file f).bytes ++ data.data.toList }) := by
  have ht : M.tries data.size = some (data.size : Int) := by simp only [DM.tries, hb, if_true]
  have hn : ¬ (M1.left < (data.size : Int)) := by omega
  simp only [DM.add, hl, ht, hb, if_neg hn]
  have e : data.extract 0 ((data.size : Int).toNat) = data := by simp
  rw [e]

/-- The power will be cut at the seventh call. -/
def DM.edge (file : Nat → FM) (f : Nat) (calls refused : Int) (dead : Bool) : DM :=
  { dir := [(nA, f)], safe := [(nA, f)], chs := [], file := file, ids := [f], room := 10, calls := calls, cut := 7, fail := 0, part := 0, refused := refused, fulls := 0, dead := dead }

theorem edge_set (f : Nat) (x y : FM) (c r : Int) (d : Bool) : (DM.edge (fileAt f x) f c r d).setFile f y = DM.edge (fileAt f y) f c r d := by
  simp only [DM.setFile, DM.edge, fileAt_set]

theorem edge_start (f : Nat) : (DM.start true f).setCut 2 = DM.edge (fileAt f ⟨[120, 121], 1⟩) f 5 0 false := by
  simp [DM.start, DM.setCut, DM.calm, DM.edge, wrap64]

theorem edge_first (F : Nat → FM) (f : Nat) : (DM.edge F f 5 0 false).begins = (true, 0, DM.edge F f 6 0 false) := by
  simp [DM.begins, DM.edge, wrap64]
theorem edge_cut (F : Nat → FM) (f : Nat) : (DM.edge F f 6 0 false).begins = (true, 9, DM.edge F f 7 1 true) := by
  simp [DM.begins, DM.edge, wrap64]
theorem edge_dead (F : Nat → FM) (f : Nat) : (DM.edge F f 7 1 true).begins = (false, 9, DM.edge F f 8 2 true) := by
  simp [DM.begins, DM.edge, wrap64]

theorem edge_left (f : Nat) (x : FM) (c r : Int) (d : Bool) (hx : x.bytes.length ≤ 10) : (DM.edge (fileAt f x) f c r d).left = 10 - (x.bytes.length : Int) := by
  refine left_of _ x.bytes.length ?_ (used_one _ nA f x ?_ ?_ (by omega)) hx
  · rfl
  · rfl
  · exact fileAt_self f x

theorem edge_add1 (f : Nat) : (DM.edge (fileAt f ⟨[120, 121], 1⟩) f 5 0 false).add nA ⟨#[122]⟩ = (0, DM.edge (fileAt f ⟨[120, 121, 122], 1⟩) f 6 0 false) := by
  rw [add_does _ _ nA f 0 _ (calm_look nA nAA f) (edge_first _ f) (by rw [edge_left _ _ _ _ _ (by simp)]; decide)]
  have e : (DM.edge (fileAt f ⟨[120, 121], 1⟩) f 6 0 false).file f = ⟨[120, 121], 1⟩ := fileAt_self f _
  rw [e, edge_set]
  rfl

theorem edge_add2 (f : Nat) : (DM.edge (fileAt f ⟨[120, 121, 122], 1⟩) f 6 0 false).add nA ⟨#[49, 50]⟩ = (9, DM.edge (fileAt f ⟨[120, 121, 122, 49, 50], 1⟩) f 7 1 true) := by
  rw [add_does _ _ nA f 9 _ (calm_look nA nAA f) (edge_cut _ f) (by rw [edge_left _ _ _ _ _ (by simp)]; decide)]
  have e : (DM.edge (fileAt f ⟨[120, 121, 122], 1⟩) f 7 1 true).file f = ⟨[120, 121, 122], 1⟩ := fileAt_self f _
  rw [e, edge_set]
  rfl

theorem edge_sync (F : Nat → FM) (f : Nat) : (DM.edge F f 7 1 true).sync nA = (9, DM.edge F f 8 2 true) := by
  have hl : (DM.edge F f 7 1 true).dir.look nA = some f := calm_look nA nAA f
  simp only [DM.sync, hl, edge_dead]
  rfl

theorem Foot.lt {w : World} {b k : Nat} {L : DL} {M : DM} (h : DRep w b L M) (hk : Foot b L M k) : k < w.heap.size := by
  cases hk using Foot.elim with
  | blk => exact h.blk.lt
  | dir e => exact own_lt h.dir e
  | safe e => exact own_lt h.safe e
  | ch e => exact own_lt h.ch e
  | chs i h1 e => exact own_lt (h.chs i h1 (by have := h.chl; omega)) e
  | file e => exact (h.files _ e).lt
  | row f hf e => exact own_lt (h.rows f hf) e

theorem ints_new (w : World) (x : Int) (t : TypeId) : IntsAt (w.alloc (.cells #[.int .i64 x] t)) (.slice (some ⟨w.heap.size, 0, none⟩) 1 1) [x] := by
  refine .inr ⟨w.heap.size, 0, 1, rfl, by simp, by unfold maxLen; simp, ?_⟩
  intro j hj
  have hj0 : j = 0 := by simp at hj; exact hj
  subst hj0
  exact (Blk.new w [.int .i64 x] t).cell 0

end Go.Proofs.Ytkhnggkkiefcdaa
