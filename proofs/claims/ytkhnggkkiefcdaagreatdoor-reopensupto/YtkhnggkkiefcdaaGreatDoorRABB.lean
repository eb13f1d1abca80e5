/-
  larderlaw.Reopens returns true for every Set and every script that weigh at most 1048576 together: the tied card of the second form; of the translation of the commit that COMMIT names. Its condition: that weight, and that the listed package-level variables start as the program's text lays them.
-/
import Derived.Test.YtkhnggkkiefcdaaGreatDoorRABA
import Derived.Test.YtkhnggkkiefcdaaGreatDoorCards
import Derived.Test.YtkhnggkkiefcdaaGreatDoorTie
import Derived.WalkKit
import Derived.ProofKit
import Derived.OpenShut
import Derived.Carry
import Derived.Lay
import Derived.LaidHandle
import Derived.Deep.DeepHandedRow
import Derived.Deep.DeepWitnessRowRef
namespace Go.Proofs.YtkhnggkkiefcdaaGreatDoor
open Go.ChangeShapes Go.WideShapes Go.ChangeAt Go.RowKit
set_option maxRecDepth 100000
theorem Q9:Rows.ReopensUptoSaid :=
 OpenClaim.holds_of_cond 4 Tryz.f4 rfl rfl rfl rfl rfl rfl rfl ⟨rfl,rfl,rfl,rfl,rfl⟩ rfl rfl rfl rfl rfl Oo Tryz.func4 TB Q7 Q8
  (fun os started H enc _ F=>by rw[OpenClaim.pre_eq_preRow];exact Tc os started H enc F)
theorem SI(f:FuncId)(fn:Func)(hf:Tryz.pinned.checked.prog.funcNamed Rows.reopensUptoRow.func=some f)(hfn:Tryz.pinned.checked.prog.funcs[f]?=some fn) :
  true=Tryz.pinned.checked.prog.looks []∧∀ (j:Nat) t,fn.params[j]?=some t→Tryz.pinned.checked.prog.wantsStandIn t=false:=by
 have e:some f=some 4:=hf.symm.trans (by kernel_rfl)
 obtain rfl:=Option.some.inj e
 obtain rfl:fn=Tryz.f4:=(Option.some.inj (Tryz.func4.symm.trans hfn)).symm
 refine⟨by kernel_rfl,fun j t ht=>?_⟩
 rw[Tryz.params4] at ht
 have h2:t=23∨t=24:=by
  have:=Array.mem_of_getElem? ht
  simpa using this
 rcases h2 with rfl|rfl
 ·exact(show Tryz.prog.wantsStandIn 23=false by kernel_rfl)
 ·exact(show Tryz.prog.wantsStandIn 24=false by kernel_rfl)
theorem reopens_holds:Rows.ReopensUptoCardSaid :=
 Claim7.holds_tied_plain_at .later [] _ _ _ _ Q9 (fun _ h=>by cases h) (by kernel_rfl) (fun _ h=>by cases h) reopensUpto_row_tie rfl ⟨rfl,rfl⟩ (by kernel_rfl) rfl SI (by kernel_rfl)
#print axioms reopens_holds
end Go.Proofs.YtkhnggkkiefcdaaGreatDoor
