/-
  The closed sentence on the disk returns true: of the translation of the commit that COMMIT names; no condition.
-/
import Derived.Test.YtkhnggkkiefcdaaDiskZ
import Derived.Test.YtkhnggkkiefcdaaRows
import Derived.WalkKit
import Derived.ProofKit
import Derived.OpenShut
namespace Go.Proofs.Ytkhnggkkiefcdaa
open Go.ChangeShapes Go.WideShapes Go.ChangeAt Go.RowKit

theorem disk_own : ownKnob Try.prog.godebug = none := by kernel_rfl

set_option maxRecDepth 100000 in
theorem disk_lifted (os : Os) (started : os.Started) (H : Type) (enc : TypeId × Value → H) :
    ReturnsInHanded {} Try.checked os 3 .any (Rows.diskSpec.pre6 enc Try.prog Try.f3 Rows.diskRow.domain false) (Rows.diskSpec.post enc Try.prog Try.f3 false true false false) := by
  refine returnsInHanded_of_change (C := Try.checked) disk_own started (by kernel_rfl) Try.func3
    (ChangeSpec.witness6 (enc := enc) (C := Try.checked) false ⟨#[], #[], []⟩ 8 (by kernel_rfl) (by kernel_rfl) (by kernel_rfl) (by kernel_rfl)) ?_
  intro W base args ds gs before _ hW _ _
  obtain ⟨p, q, hA0, hV, rfl, hfz, hnd⟩ := hW
  have hW : DataW.Whole enc Try.prog Try.f3.params.toList Rows.diskSpec.vars false W args.toList ds gs (p ++ q) := ⟨p, q, hA0, hV, rfl, hfz, hnd⟩
  have hA : DataW.TrodAll enc Try.prog W 0 (fun _ => true) true Try.f3.params.toList args.toList ds p := hA0
  rw [Try.params3] at hA
  obtain ⟨rfl, rfl, rfl⟩ := trodAll_none hA
  obtain ⟨rfl, rfl⟩ := trodVars_none hV
  clear hA0 hV hA
  simp only [List.append_nil] at hW
  refine (disk_calls W).mono fun e W' ⟨he, hg⟩ => ?_
  subst he
  exact ⟨_, rfl, [], [], [], [], [], [], hW, trodAll_cons_mk (shut_bool Try.underlying4 _) trodAll_mk0, rfl, rfl, hg.below.frame _, fun h => by cases h⟩

theorem disk_over : Rows.diskRow.holds Try.pinned (OpenSpec.ofChange Rows.diskSpec) :=
  OpenClaim.holds_of_wide 3 Try.f3 rfl rfl rfl rfl rfl rfl rfl ⟨rfl, rfl, rfl, rfl, rfl⟩ rfl rfl rfl rfl rfl (by kernel_rfl) Try.func3 (by kernel_rfl)
    (of_decide_eq_true (by kernel_rfl)) (by unfold Func.isWrapper; first | (rw [if_pos (by decide +kernel)]; kernel_rfl) | (rw [if_neg (by decide +kernel)]; exact ⟨rfl, rfl⟩))
    (fun os started H enc _ => disk_lifted os started H enc)

theorem disk_holds : Rows.DiskSaid := disk_over

#print axioms disk_holds
end Go.Proofs.Ytkhnggkkiefcdaa
