/-
  The closed sentence on the disk: what its disks are behind their crashes.
-/
import Derived.Test.YtkhnggkkiefcdaaDiskX
namespace Go.Proofs.Ytkhnggkkiefcdaa
open Go.RowKit

theorem calm_crash (n : ByteArray) (hn : (n == n) = true) (f : Nat) (x : FM) (dir safe : Dir) (chs : List Dir) (file : Nat → FM) (ids : List Nat) (c : Nat) (dirs : Int) (tails : List Int) (hf : file f = x)
    (hd : (DM.calm dir safe chs file ids c).crashDir dirs = [(n, f)]) :
    ((DM.calm dir safe chs file ids c).crash dirs tails).dir = [(n, f)] ∧ ((DM.calm dir safe chs file ids c).crash dirs tails).file f = crashFile x (tails.getD 0 0) := by
  have h := crash_one (DM.calm dir safe chs file ids c) dirs tails n f hn hd
  have e : (DM.calm dir safe chs file ids c).file f = x := hf
  rw [e] at h
  exact h

theorem calm_create (m : ByteArray) (hm : ¬ m = ByteArray.empty) (g : Nat) (dir safe : Dir) (chs : List Dir) (file : Nat → FM) (ids : List Nat) (c : Nat) (hc : c < 100) (hl : Dir.look dir m = none) :
    (DM.calm dir safe chs file ids c).create m g = (0, DM.calm (dir ++ [(m, g)]) safe (chs ++ [dir ++ [(m, g)]]) (fun x => if x = g then ⟨[], 0⟩ else file x) (g :: ids) (c + 1)) := by
  have h : ¬ (m = ByteArray.empty ∨ ((DM.calm dir safe chs file ids c).dir.look m).isSome = true) := by
    intro h
    rcases h with h | h
    · exact hm h
    · have e : (DM.calm dir safe chs file ids c).dir.look m = none := hl
      rw [e] at h
      simp at h
  simp only [DM.create, if_neg h, calm_begins _ _ _ _ _ c hc, if_true]
  rfl

theorem crash_nil {w0 w : World} {b : Nat} {L : DL} {M : DM} (h : Own w0 w b L M) (dirs : Int) (hd1 : -9223372036854775808 ≤ dirs) (hd2 : dirs ≤ 9223372036854775807)
    (hfl : ∀ f, f ∈ M.ids → (M.file f).bytes.length ≤ 1000000000000) (hn : M.chs.length + 1 ≤ 1000000000000) (hm : ∀ d, d ∈ M.safe :: M.chs → d.length ≤ 1000000000000) :
    Calls Try.prog 6 #[.pointer (some ⟨b, 0, none⟩), .int .i64 dirs, .slice none 0 0] w fun e w' =>
      e = .returned (.tuple #[]) ∧ ∃ L', Own w0 w' b L' (M.crash dirs []) := by
  refine (crash_calls dirs [] _ _ b L M h.rep hd1 hd2 (.inl ⟨rfl, rfl⟩) ?_ ?_ hfl hn hm).mono ?_
  · intro k hk
    simp [Value.ownBlock] at hk
  · intro y hy
    cases hy
  · rintro e w' ⟨h1, L', h2⟩
    exact ⟨h1, L', h.step h2⟩

theorem cf0 : crashFile ⟨[120, 121], 1⟩ 0 = ⟨[120], 1⟩ := by rfl
theorem cf1 : crashFile ⟨[120, 121], 1⟩ 1 = ⟨[120, 121], 2⟩ := by rfl

theorem start_crash (f : Nat) (x : Int) : ((DM.start true f).crash 0 [x]).dir = [(nA, f)] ∧ ((DM.start true f).crash 0 [x]).file f = crashFile ⟨[120, 121], 1⟩ x :=
  calm_crash nA nAA f _ _ _ _ _ _ _ 0 [x] (fileAt_self f _) rfl

theorem start_gone (f : Nat) : ((DM.start false f).crash 0 []).dir = [] := rfl

end Go.Proofs.Ytkhnggkkiefcdaa
