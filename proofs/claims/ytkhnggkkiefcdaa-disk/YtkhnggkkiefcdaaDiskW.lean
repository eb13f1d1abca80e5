/-
  The closed sentence on the disk: the function in which a call fails and the disk is full.
-/
import Derived.Test.YtkhnggkkiefcdaaDiskV
namespace Go.Proofs.Ytkhnggkkiefcdaa
open Go.RowKit

/-- The sixth call fails, in part. -/
def DM.brim (file : Nat → FM) (f : Nat) (calls refused fulls : Int) : DM :=
  { dir := [(nA, f)], safe := [(nA, f)], chs := [], file := file, ids := [f], room := 10, calls := calls, cut := 0, fail := 6, part := 5, refused := refused, fulls := fulls, dead := false }

theorem brim_set (f : Nat) (x y : FM) (c r u : Int) : (DM.brim (fileAt f x) f c r u).setFile f y = DM.brim (fileAt f y) f c r u := by
  simp only [DM.setFile, DM.brim, fileAt_set]

theorem brim_start (f : Nat) : (DM.start true f).setFail 1 5 = DM.brim (fileAt f ⟨[120, 121], 1⟩) f 5 0 0 := by
  simp [DM.start, DM.setFail, DM.calm, DM.brim, wrap64]

theorem brim_fails (F : Nat → FM) (f : Nat) : (DM.brim F f 5 0 0).begins = (false, 9, DM.brim F f 6 1 0) := by
  simp [DM.begins, DM.brim, wrap64]
theorem brim_next (F : Nat → FM) (f : Nat) : (DM.brim F f 6 1 0).begins = (true, 0, DM.brim F f 7 1 0) := by
  simp [DM.begins, DM.brim, wrap64]

theorem brim_left (f : Nat) (x : FM) (c r u : Int) (hx : x.bytes.length ≤ 10) : (DM.brim (fileAt f x) f c r u).left = 10 - (x.bytes.length : Int) := by
  refine left_of _ x.bytes.length ?_ (used_one _ nA f x ?_ ?_ (by omega)) hx
  · rfl
  · rfl
  · exact fileAt_self f x

theorem add_part (M M1 : DM) (n : ByteArray) (f : Nat) (a k : Int) (data : ByteArray) (hl : M.dir.look n = some f) (hb : M.begins = (false, a, M1)) (hd : M1.dead = false) (h0 : (0 : Int) < (data.size : Int)) (hk : M.part.tmod (data.size : Int) = k) (hr : k ≤ M1.left) :
    M.add n data = (a, M1.setFile f { M1.file f with bytes := (M1.file f).bytes ++ (data.extract 0 k.toNat).data.toList }) := by
  have ht : M.tries data.size = some k := by
    simp only [DM.tries, hb]
    rw [if_neg (by simp), if_pos ⟨hd, h0⟩, hk]
  have hn : ¬ (M1.left < k) := by omega
  simp only [DM.add, hl, ht, hb, if_neg hn]

theorem add_full (M M1 : DM) (n : ByteArray) (f : Nat) (k : Int) (data : ByteArray) (hl : M.dir.look n = some f) (hb : M.begins = (true, 0, M1)) (hk : M1.left = k) (hr : k < (data.size : Int)) :
    M.add n data = (10, ({ M1 with refused := wrap64 (M1.refused + 1), fulls := wrap64 (M1.fulls + 1) } : DM).setFile f { M1.file f with bytes := (M1.file f).bytes ++ (data.extract 0 k.toNat).data.toList }) := by
  have ht : M.tries data.size = some (data.size : Int) := by simp only [DM.tries, hb, if_true]
  simp only [DM.add, hl, ht, hb, hk, if_pos hr, if_true]

theorem brim_add1 (f : Nat) : (DM.brim (fileAt f ⟨[120, 121], 1⟩) f 5 0 0).add nA ⟨#[49, 50, 51, 52]⟩ = (9, DM.brim (fileAt f ⟨[120, 121, 49], 1⟩) f 6 1 0) := by
  rw [add_part (DM.brim (fileAt f ⟨[120, 121], 1⟩) f 5 0 0) _ nA f 9 1 ⟨#[49, 50, 51, 52]⟩ (calm_look nA nAA f) (brim_fails _ f) rfl (by decide) (show (5 : Int).tmod 4 = 1 from by decide) (by rw [brim_left _ _ _ _ _ (by simp)]; decide)]
  have e : (DM.brim (fileAt f ⟨[120, 121], 1⟩) f 6 1 0).file f = ⟨[120, 121], 1⟩ := fileAt_self f _
  rw [e, brim_set]
  rfl

theorem brim_more (F : Nat → FM) (f : Nat) : ({ DM.brim F f 7 1 0 with refused := wrap64 ((DM.brim F f 7 1 0).refused + 1), fulls := wrap64 ((DM.brim F f 7 1 0).fulls + 1) } : DM) = DM.brim F f 7 2 1 := by
  simp [DM.brim, wrap64]

theorem brim_add2 (f : Nat) : (DM.brim (fileAt f ⟨[120, 121, 49], 1⟩) f 6 1 0).add nA ⟨#[49, 50, 51, 52, 53, 54, 55, 56, 57, 48]⟩ = (10, DM.brim (fileAt f ⟨[120, 121, 49, 49, 50, 51, 52, 53, 54, 55], 1⟩) f 7 2 1) := by
  rw [add_full _ _ nA f 7 _ (calm_look nA nAA f) (brim_next _ f) (by rw [brim_left _ _ _ _ _ (by simp)]; decide) (by decide)]
  have e : (DM.brim (fileAt f ⟨[120, 121, 49], 1⟩) f 7 1 0).file f = ⟨[120, 121, 49], 1⟩ := fileAt_self f _
  rw [e, brim_more, brim_set]
  rfl

theorem brim_create (F : Nat → FM) (f g : Nat) : (DM.brim F f 7 2 1).create nA g = (11, DM.brim F f 7 2 1) := by
  have hl : (DM.brim F f 7 2 1).dir.look nA = some f := calm_look nA nAA f
  have hc : nA = ByteArray.empty ∨ ((DM.brim F f 7 2 1).dir.look nA).isSome = true := .inr (by rw [hl]; rfl)
  simp only [DM.create, if_pos hc]

theorem brim_sync (F : Nat → FM) (f : Nat) : (DM.brim F f 7 2 1).sync nB = (11, DM.brim F f 7 2 1) := by
  have hl : (DM.brim F f 7 2 1).dir.look nB = none := by
    show Dir.look [(nA, f)] nB = none
    simp [Dir.look, nAB]
  simp only [DM.sync, hl]

theorem brim_read (f : Nat) (x : FM) (hx : x.bytes.length = 10) : (DM.brim (fileAt f x) f 7 2 1).read nA 9 2 = (ByteArray.empty, 12) := by
  have hl : (DM.brim (fileAt f x) f 7 2 1).dir.look nA = some f := calm_look nA nAA f
  have e : (DM.brim (fileAt f x) f 7 2 1).file f = x := fileAt_self f _
  have hc : ¬ ((0 : Int) ≤ 9 ∧ (0 : Int) ≤ 2 ∧ (9 : Int) ≤ (x.bytes.length : Int) ∧ (2 : Int) ≤ (x.bytes.length : Int) - 9) := by omega
  simp only [DM.read, hl, e, if_neg hc]

end Go.Proofs.Ytkhnggkkiefcdaa
