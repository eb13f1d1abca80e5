/-
  larderlaw.Survives returns true for every Set and every script that weigh at most 1048576 together: the tied card of the second form; of the translation of the commit that COMMIT names. Its condition: that weight, and that the listed package-level variables start as the program's text lays them.
-/
import Derived.Test.YtkhnggkkiefcdaaGreatDoorSFZAA
import Derived.Test.YtkhnggkkiefcdaaGreatDoorSFZAB
import Derived.Test.YtkhnggkkiefcdaaGreatDoorSFBB
import Derived.Test.YtkhnggkkiefcdaaGreatDoorCards
import Derived.Test.YtkhnggkkiefcdaaGreatDoorTie
import Derived.WalkKit
import Derived.ProofKit
import Derived.OpenShut
import Derived.Carry
import Derived.Lay
import Derived.LaidHandle
import Derived.Deep.DeepHandedRow
import Derived.Deep.DeepWitnessRowRef
namespace Go.Proofs.YtkhnggkkiefcdaaGreatDoor
open Go.ChangeShapes Go.WideShapes Go.ChangeAt Go.RowKit
set_option maxRecDepth 100000
theorem Qm:Rows.SurvivesUptoSaid :=
 OpenClaim.holds_of_cond 5 Tryz.f5 rfl rfl rfl rfl rfl rfl rfl ⟨rfl,rfl,rfl,rfl,rfl⟩ rfl rfl rfl rfl rfl NN Tryz.func5 SE Qk Ql
  (fun b a H enc _ F=>by rw[OpenClaim.pre_eq_preRow];exact Sf b a H enc F)
theorem Rc(f:FuncId)(a:Func)(g:Tryz.pinned.checked.prog.funcNamed Rows.survivesUptoRow.func=some f)(b:Tryz.pinned.checked.prog.funcs[f]?=some a) :
 true=Tryz.pinned.checked.prog.looks []/\∀ (j:Nat) t,a.params[j]?=some t->Tryz.pinned.checked.prog.wantsStandIn t=false:=by
 have e:some f=some 5:=g.symm.trans (by kernel_rfl);obtain rfl:=Hl e;obtain rfl:a=Tryz.f5:=(Hl (Tryz.func5.symm.trans b)).symm;refine⟨by kernel_rfl,fun j t c=>?_⟩;rw[Tryz.params5] at c;have d:t=23\/t=24:=by
  have:=Array.mem_of_getElem? c
  simpa using this
 rcases d with rfl|rfl
 .exact(show Tryz.prog.wantsStandIn 23=false by kernel_rfl)
 .exact(show Tryz.prog.wantsStandIn 24=false by kernel_rfl)
theorem survives_holds:Rows.SurvivesUptoCardSaid :=
 Claim7.holds_tied_plain_at .later [] _ _ _ _ Qm (fun _ h=>by cases h) (by kernel_rfl) (fun _ h=>by cases h) survivesUpto_row_tie rfl ⟨rfl,rfl⟩ (by kernel_rfl) rfl Rc (by kernel_rfl)
#print axioms survives_holds
end Go.Proofs.YtkhnggkkiefcdaaGreatDoor
