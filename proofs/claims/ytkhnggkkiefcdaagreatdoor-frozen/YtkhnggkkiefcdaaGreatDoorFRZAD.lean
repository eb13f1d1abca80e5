/-
  larderkeep.Frozen returns true for all numbers: the tied card of the first form; of the translation of the commit that COMMIT names. Its condition: that the listed package-level variables start as the program's text lays them.
-/
import Derived.Test.YtkhnggkkiefcdaaGreatDoorFRZAB
import Derived.Test.YtkhnggkkiefcdaaGreatDoorFRZAC
import Derived.Test.YtkhnggkkiefcdaaGreatDoorFRAO
import Derived.Test.YtkhnggkkiefcdaaGreatDoorFRAP
import Derived.Test.YtkhnggkkiefcdaaGreatDoorCards
import Derived.Test.YtkhnggkkiefcdaaGreatDoorTie
import Derived.WalkKit
import Derived.ProofKit
import Derived.OpenShut
import Derived.Carry
import Derived.Lay
import Derived.LaidHandle
import Derived.Deep.DeepHandedRow
import Derived.Deep.DeepWitnessRowRef
namespace Go.Proofs.YtkhnggkkiefcdaaGreatDoor
open Go.ChangeShapes Go.WideShapes Go.ChangeAt Go.RowKit
set_option maxRecDepth 100000
theorem Q7:Rows.FrozenSaid :=
 OpenClaim.holds_of_cond 13 Tryz.f13 rfl rfl rfl rfl rfl rfl rfl ⟨rfl,rfl,rfl,rfl,rfl⟩ rfl rfl rfl rfl rfl Oe IC TK Q5 Q6
  (fun b a H enc _ F=>by rw[OpenClaim.pre_eq_preRow];exact Tl b a H enc F)
theorem Rl(f:FuncId)(a:Func)(g:Tryz.pinned.checked.prog.funcNamed Rows.frozenRow.func=some f)(b:Tryz.pinned.checked.prog.funcs[f]?=some a) :
 true=Tryz.pinned.checked.prog.looks []/\∀ (j:Nat) t,a.params[j]?=some t->Tryz.pinned.checked.prog.wantsStandIn t=false:=by
 have e:some f=some 13:=g.symm.trans (by kernel_rfl);obtain rfl:=Mp e;obtain rfl:a=Tryz.f13:=(Mp (IC.symm.trans b)).symm;refine⟨by kernel_rfl,fun j t c=>?_⟩;rw[Tryz.params13] at c;have d:t=3:=by
  have:=Array.mem_of_getElem? c
  simpa using this
 subst d;exact(show Tryz.prog.wantsStandIn 3=false by kernel_rfl)
theorem frozen_holds:Rows.FrozenCardSaid :=
 Claim7.holds_tied_plain_at .later [] _ _ _ _ Q7 (fun _ h=>by cases h) (by kernel_rfl) (fun _ h=>by cases h) frozen_row_tie rfl ⟨rfl,rfl⟩ (by kernel_rfl) rfl Rl (by kernel_rfl)
#print axioms frozen_holds
end Go.Proofs.YtkhnggkkiefcdaaGreatDoor
