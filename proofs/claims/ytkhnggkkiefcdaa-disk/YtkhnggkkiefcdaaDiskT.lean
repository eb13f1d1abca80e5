/-
  The closed sentence on the disk: its disks behind Rename, Remove, Create and a crash.
-/
import Derived.Test.YtkhnggkkiefcdaaDiskS
namespace Go.Proofs.Ytkhnggkkiefcdaa
open Go.RowKit

theorem idx_one (n : ByteArray) (h : (n == n) = true) (f : Nat) : Dir.idx [(n, f)] n = some 0 := by
  simp [Dir.idx, h]

theorem calm_rename (n m : ByteArray) (hn : (n == n) = true) (hm : ¬ m = ByteArray.empty) (f : Nat) (safe : Dir) (chs : List Dir) (file : Nat → FM) (ids : List Nat) (c : Nat) (hc : c < 100) :
    (DM.calm [(n, f)] safe chs file ids c).rename n m = (0, DM.calm [(m, f)] safe (chs ++ [[(m, f)]]) file ids (c + 1)) := by
  have hi : (DM.calm [(n, f)] safe chs file ids c).dir.idx n = some 0 := idx_one n hn f
  simp only [DM.rename, hi, if_neg hm, calm_begins _ _ _ _ _ c hc, if_true]
  have hr : (DM.calm [(n, f)] safe chs file ids (c + 1)).dir.renamed 0 m = [(m, f)] := by
    show Dir.renamed [(n, f)] 0 m = [(m, f)]
    simp [Dir.renamed, renK]
  rw [hr]
  rfl

theorem calm_remove (n : ByteArray) (hn : (n == n) = true) (f : Nat) (safe : Dir) (chs : List Dir) (file : Nat → FM) (ids : List Nat) (c : Nat) (hc : c < 100) :
    (DM.calm [(n, f)] safe chs file ids c).remove n = (0, DM.calm [] safe (chs ++ [[]]) file ids (c + 1)) := by
  have hi : (DM.calm [(n, f)] safe chs file ids c).dir.idx n = some 0 := idx_one n hn f
  simp only [DM.remove, hi, calm_begins _ _ _ _ _ c hc, if_true]
  rfl

/-- A crash that leaves one name: what its file has. -/
theorem crash_one (M : DM) (dirs : Int) (tails : List Int) (n : ByteArray) (f : Nat) (hn : (n == n) = true) (hd : M.crashDir dirs = [(n, f)]) :
    (M.crash dirs tails).dir = [(n, f)] ∧ (M.crash dirs tails).file f = crashFile (M.file f) (tails.getD 0 0) := by
  refine ⟨hd, ?_⟩
  show crashK (M.crashDir dirs) tails M.file (M.crashDir dirs).names.length f = _
  rw [hd, names_one]
  have hl := calm_look n hn f
  simp [crashK, names_one, hl]

end Go.Proofs.Ytkhnggkkiefcdaa
