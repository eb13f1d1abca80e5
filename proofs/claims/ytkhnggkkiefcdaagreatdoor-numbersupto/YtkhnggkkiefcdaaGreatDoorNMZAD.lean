/-
  larderkeep.Numbers returns true for every number and every script that weigh at most 1048576 together: the tied card of the second form; of the translation of the commit that COMMIT names. Its condition: that weight, and that the listed package-level variables start as the program's text lays them.
-/
import Derived.Test.YtkhnggkkiefcdaaGreatDoorNMZAB
import Derived.Test.YtkhnggkkiefcdaaGreatDoorNMZAC
import Derived.Test.YtkhnggkkiefcdaaGreatDoorNMAS
import Derived.Test.YtkhnggkkiefcdaaGreatDoorNMAY
import Derived.Test.YtkhnggkkiefcdaaGreatDoorCards
import Derived.Test.YtkhnggkkiefcdaaGreatDoorTie
import Derived.WalkKit
import Derived.ProofKit
import Derived.OpenShut
import Derived.Carry
import Derived.Lay
import Derived.LaidHandle
import Derived.Deep.DeepHandedRow
import Derived.Deep.DeepWitnessRowRef
namespace Go.Proofs.YtkhnggkkiefcdaaGreatDoor
open Go.ChangeShapes Go.WideShapes Go.ChangeAt Go.RowKit
set_option maxRecDepth 100000
theorem PN:Rows.NumbersUptoSaid :=
 OpenClaim.holds_of_cond 8 Tryz.f8 rfl rfl rfl rfl rfl rfl rfl ⟨rfl,rfl,rfl,rfl,rfl⟩ rfl rfl rfl rfl rfl MA Tryz.func8 SV PL PM
  (fun b a H enc _ F=>by rw[OpenClaim.pre_eq_preRow];exact Sv b a H enc F)
theorem Qd(f:FuncId)(a:Func)(g:Tryz.pinned.checked.prog.funcNamed Rows.numbersUptoRow.func=some f)(b:Tryz.pinned.checked.prog.funcs[f]?=some a) :
 true=Tryz.pinned.checked.prog.looks []/\∀ (j:Nat) t,a.params[j]?=some t->Tryz.pinned.checked.prog.wantsStandIn t=false:=by
 have e:some f=some 8:=g.symm.trans (by kernel_rfl);obtain rfl:=IL e;obtain rfl:a=Tryz.f8:=(IL (Tryz.func8.symm.trans b)).symm;refine⟨by kernel_rfl,fun j t c=>?_⟩;rw[Tryz.params8] at c;have d:t=3\/t=51:=by
  have:=Array.mem_of_getElem? c
  simpa using this
 rcases d with rfl|rfl
 .exact(show Tryz.prog.wantsStandIn 3=false by kernel_rfl)
 .exact(show Tryz.prog.wantsStandIn 51=false by kernel_rfl)
theorem numbers_holds:Rows.NumbersUptoCardSaid :=
 Claim7.holds_tied_plain_at .later [] _ _ _ _ PN (fun _ h=>by cases h) (by kernel_rfl) (fun _ h=>by cases h) numbersUpto_row_tie rfl ⟨rfl,rfl⟩ (by kernel_rfl) rfl Qd (by kernel_rfl)
#print axioms numbers_holds
end Go.Proofs.YtkhnggkkiefcdaaGreatDoor
