/-
  larderkeep.Wholly returns true for all numbers and every list of numbers: the tied card of the first form; of the translation of the commit that COMMIT names. Its condition: that the listed package-level variables start as the program's text lays them.
-/
import Derived.Test.YtkhnggkkiefcdaaGreatDoorWHZAB
import Derived.Test.YtkhnggkkiefcdaaGreatDoorWHZAC
import Derived.Test.YtkhnggkkiefcdaaGreatDoorWHAH
import Derived.Test.YtkhnggkkiefcdaaGreatDoorWHAO
import Derived.Test.YtkhnggkkiefcdaaGreatDoorWHAP
import Derived.Test.YtkhnggkkiefcdaaGreatDoorCards
import Derived.Test.YtkhnggkkiefcdaaGreatDoorTie
import Derived.WalkKit
import Derived.ProofKit
import Derived.OpenShut
import Derived.Carry
import Derived.Lay
import Derived.LaidHandle
import Derived.Deep.DeepHandedRow
import Derived.Deep.DeepWitnessRowRef
namespace Go.Proofs.YtkhnggkkiefcdaaGreatDoor
open Go.ChangeShapes Go.WideShapes Go.ChangeAt Go.RowKit
set_option maxRecDepth 100000
theorem Q5:Rows.WhollySaid :=
 OpenClaim.holds_of_cond 10 Tryz.f10 rfl rfl rfl rfl rfl rfl rfl ⟨rfl,rfl,rfl,rfl,rfl⟩ rfl rfl rfl rfl rfl Oa Ix TF Q3 Q4
  (fun b a H enc _ F=>by rw[OpenClaim.pre_eq_preRow];exact Tg b a H enc F)
theorem Ri(f:FuncId)(a:Func)(g:Tryz.pinned.checked.prog.funcNamed Rows.whollyRow.func=some f)(b:Tryz.pinned.checked.prog.funcs[f]?=some a) :
 true=Tryz.pinned.checked.prog.looks []/\∀ (j:Nat) t,a.params[j]?=some t->Tryz.pinned.checked.prog.wantsStandIn t=false:=by
 have e:some f=some 10:=g.symm.trans (by kernel_rfl);obtain rfl:=Mm e;obtain rfl:a=Tryz.f10:=(Mm (Ix.symm.trans b)).symm;refine⟨by kernel_rfl,fun j t c=>?_⟩;rw[Tryz.params10] at c;have d:t=3\/t=26:=by
  have:=Array.mem_of_getElem? c
  simpa using this
 rcases d with rfl|rfl
 .exact(show Tryz.prog.wantsStandIn 3=false by kernel_rfl)
 .exact(show Tryz.prog.wantsStandIn 26=false by kernel_rfl)
theorem wholly_holds:Rows.WhollyCardSaid :=
 Claim7.holds_tied_plain_at .later [] _ _ _ _ Q5 (fun _ h=>by cases h) (by kernel_rfl) (fun _ h=>by cases h) wholly_row_tie rfl ⟨rfl,rfl⟩ (by kernel_rfl) rfl Ri (by kernel_rfl)
#print axioms wholly_holds
end Go.Proofs.YtkhnggkkiefcdaaGreatDoor
