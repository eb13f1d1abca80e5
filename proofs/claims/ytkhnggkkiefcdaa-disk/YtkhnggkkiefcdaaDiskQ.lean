/-
  The closed sentence on the disk: how its disks begin.
-/
import Derived.Test.YtkhnggkkiefcdaaDiskN
namespace Go.Proofs.Ytkhnggkkiefcdaa
open Go.RowKit

abbrev nA : ByteArray := ⟨#[97]⟩
abbrev nB : ByteArray := ⟨#[98]⟩
abbrev nC : ByteArray := ⟨#[99]⟩

theorem nA_ne : ¬ nA = ByteArray.empty := by decide
theorem nB_ne : ¬ nB = ByteArray.empty := by decide
theorem nC_ne : ¬ nC = ByteArray.empty := by decide
theorem nAA : (nA == nA) = true := by decide
theorem nAB : (nA == nB) = false := by decide
theorem nAC : (nA == nC) = false := by decide
theorem nBA : (nB == nA) = false := by decide
theorem nBB : (nB == nB) = true := by decide
theorem nBC : (nB == nC) = false := by decide
theorem nCA : (nC == nA) = false := by decide
theorem nCB : (nC == nB) = false := by decide
theorem nCC : (nC == nC) = true := by decide

/-- One file with something in it. -/
def fileAt (f : Nat) (x : FM) : Nat → FM := fun g => if g = f then x else ⟨[], 0⟩

theorem fileAt_self (f : Nat) (x : FM) : fileAt f x f = x := by simp [fileAt]
theorem fileAt_set (f : Nat) (x y : FM) : (fun g => if g = f then y else fileAt f x g) = fileAt f y := by
  funext g; unfold fileAt; split <;> rfl

/-- Disks of the sentence: nothing cut, nothing fails. -/
def DM.calm (dir safe : Dir) (chs : List Dir) (file : Nat → FM) (ids : List Nat) (calls : Nat) : DM :=
  { dir := dir, safe := safe, chs := chs, file := file, ids := ids, room := 10, calls := calls, cut := 0, fail := 0, part := 0, refused := 0, fulls := 0, dead := false }

theorem calm_begins (dir safe : Dir) (chs : List Dir) (file : Nat → FM) (ids : List Nat) (c : Nat) (hc : c < 100) : (DM.calm dir safe chs file ids c).begins = (true, 0, DM.calm dir safe chs file ids (c + 1)) := by
  have h : wrap64 ((c : Int) + 1) = ((c + 1 : Nat) : Int) := by unfold wrap64; omega
  have h1 : ¬ (((c + 1 : Nat) : Int) = 0) := by omega
  simp only [DM.begins, DM.calm, h, beq_iff_eq, h1, if_false, Bool.false_eq_true]

theorem calm_new : DM.new 10 = DM.calm [] [] [] (fun _ => ⟨[], 0⟩) [] 0 := rfl

theorem start_create (f : Nat) : (DM.calm [] [] [] (fun _ => ⟨[], 0⟩) [] 0).create nA f = (0, DM.calm [(nA, f)] [] [[(nA, f)]] (fileAt f ⟨[], 0⟩) [f] 1) := by
  have hl : ¬ (nA = ByteArray.empty ∨ ((DM.calm [] [] [] (fun _ => ⟨[], 0⟩) [] 0).dir.look nA).isSome = true) := by
    intro h
    rcases h with h | h
    · exact nA_ne h
    · simp [DM.calm, Dir.look] at h
  simp only [DM.create, if_neg hl, calm_begins _ _ _ _ _ 0 (by omega), if_true]
  rfl

theorem calm_syncDir (dir safe : Dir) (chs : List Dir) (file : Nat → FM) (ids : List Nat) (c : Nat) (hc : c < 100) : (DM.calm dir safe chs file ids c).syncDir = (0, DM.calm dir dir [] file ids (c + 1)) := by
  simp only [DM.syncDir, calm_begins _ _ _ _ _ c hc, if_true]
  rfl

/-- One name in the directory. -/
theorem calm_look (n : ByteArray) (h : (n == n) = true) (f : Nat) : Dir.look [(n, f)] n = some f := by
  simp [Dir.look, h]

theorem calm_sync (n : ByteArray) (h : (n == n) = true) (f : Nat) (safe : Dir) (chs : List Dir) (x : FM) (ids : List Nat) (c : Nat) (hc : c < 100) :
    (DM.calm [(n, f)] safe chs (fileAt f x) ids c).sync n = (0, DM.calm [(n, f)] safe chs (fileAt f ⟨x.bytes, x.bytes.length⟩) ids (c + 1)) := by
  have hl : (DM.calm [(n, f)] safe chs (fileAt f x) ids c).dir.look n = some f := calm_look n h f
  simp only [DM.sync, hl, calm_begins _ _ _ _ _ c hc, if_true]
  simp only [DM.setFile, DM.calm, fileAt_self, fileAt_set]

theorem wrap_small (n : Nat) (h : n ≤ 100) : wrap64 (0 + (n : Int)) = n := by unfold wrap64; omega

theorem calm_used (n : ByteArray) (f : Nat) (safe : Dir) (chs : List Dir) (x : FM) (ids : List Nat) (c : Nat) (hx : x.bytes.length ≤ 100) :
    (DM.calm [(n, f)] safe chs (fileAt f x) ids c).used = x.bytes.length := by
  generalize hM : DM.calm [(n, f)] safe chs (fileAt f x) ids c = M
  have hd : M.dir = [(n, f)] := by rw [← hM]; rfl
  have hf : M.file = fileAt f x := by rw [← hM]; rfl
  have hl : M.dir.length = 0 + 1 := by rw [hd]; rfl
  have h1 := M.usedTo_succ 0 (by omega)
  have h0 : M.usedTo 0 = 0 := by simp [DM.usedTo]
  have e : M.file (M.dir[0]'(by omega)).2 = x := by
    rw [hf]
    simp only [hd, List.getElem_cons_zero]
    exact fileAt_self f x
  rw [h0, e, wrap_small _ hx] at h1
  unfold DM.used
  rw [hl]
  exact h1

theorem add_room (M M1 : DM) (n : ByteArray) (f : Nat) (data : ByteArray) (hl : M.dir.look n = some f) (hb : M.begins = (true, 0, M1)) (hr : (data.size : Int) ≤ M1.left) :
    M.add n data = (0, M1.setFile f { M1.file f with bytes := (M1.file f).bytes ++ data.data.toList }) := by
  have ht : M.tries data.size = some (data.size : Int) := by simp only [DM.tries, hb, if_true]
  have hn : ¬ (M1.left < (data.size : Int)) := by omega
  simp only [DM.add, hl, ht, hb, if_neg hn]
  have e : data.extract 0 ((data.size : Int).toNat) = data := by simp
  rw [e]

theorem left_of (M : DM) (u : Nat) (hr : M.room = 10) (hu : M.used = u) (h : u ≤ 10) : M.left = 10 - (u : Int) := by
  have hw : IntKind.i64.wrap (10 - (u : Int)) = 10 - (u : Int) := by simp (disch := omega) only [IntWalk.i64_in]
  unfold DM.left
  simp only [hr, hu, hw]
  exact if_neg (by omega)

theorem calm_add (n : ByteArray) (h : (n == n) = true) (f : Nat) (safe : Dir) (chs : List Dir) (x : FM) (ids : List Nat) (c : Nat) (hc : c < 100) (data : ByteArray) (hd : x.bytes.length + data.size ≤ 10) :
    (DM.calm [(n, f)] safe chs (fileAt f x) ids c).add n data = (0, DM.calm [(n, f)] safe chs (fileAt f ⟨x.bytes ++ data.data.toList, x.safe⟩) ids (c + 1)) := by
  have hleft := left_of (DM.calm [(n, f)] safe chs (fileAt f x) ids (c + 1)) x.bytes.length rfl (calm_used n f safe chs x ids (c + 1) (by omega)) (by omega)
  rw [add_room _ _ n f data (calm_look n h f) (calm_begins [(n, f)] safe chs (fileAt f x) ids c hc) (by rw [hleft]; omega)]
  simp only [DM.setFile, DM.calm, fileAt_self, fileAt_set]

/-- The disk that a sentence begins with. -/
def DM.start (s : Bool) (f : Nat) : DM :=
  DM.calm [(nA, f)] (if s then [(nA, f)] else []) (if s then [] else [[(nA, f)]]) (fileAt f ⟨[120, 121], 1⟩) [f] (if s then 5 else 4)

end Go.Proofs.Ytkhnggkkiefcdaa
