/-
  larderlaw.Faults returns true for every Set and every script that weigh at most 1048576 together: the tied card of the second form; of the translation of the commit that COMMIT names. Its condition: that weight, and that the listed package-level variables start as the program's text lays them.
-/
import Derived.Test.YtkhnggkkiefcdaaGreatDoorSFZBA
import Derived.Test.YtkhnggkkiefcdaaGreatDoorSFZBB
import Derived.Test.YtkhnggkkiefcdaaGreatDoorSFBB
import Derived.Test.YtkhnggkkiefcdaaGreatDoorCards
import Derived.Test.YtkhnggkkiefcdaaGreatDoorTie
import Derived.WalkKit
import Derived.ProofKit
import Derived.OpenShut
import Derived.Carry
import Derived.Lay
import Derived.LaidHandle
import Derived.Deep.DeepHandedRow
import Derived.Deep.DeepWitnessRowRef
namespace Go.Proofs.YtkhnggkkiefcdaaGreatDoor
open Go.ChangeShapes Go.WideShapes Go.ChangeAt Go.RowKit
set_option maxRecDepth 100000
theorem NQ:Rows.FaultsUptoSaid :=
 OpenClaim.holds_of_cond 6 Tryz.f6 rfl rfl rfl rfl rfl rfl rfl ⟨rfl,rfl,rfl,rfl,rfl⟩ rfl rfl rfl rfl rfl KV Tryz.func6 QL NO NP
  (fun b a H enc _ F=>by rw[OpenClaim.pre_eq_preRow];exact Qn b a H enc F)
theorem OC(f:FuncId)(a:Func)(g:Tryz.pinned.checked.prog.funcNamed Rows.faultsUptoRow.func=some f)(b:Tryz.pinned.checked.prog.funcs[f]?=some a) :
 true=Tryz.pinned.checked.prog.looks []/\∀ (j:Nat) t,a.params[j]?=some t->Tryz.pinned.checked.prog.wantsStandIn t=false:=by
 have e:some f=some 6:=g.symm.trans (by kernel_rfl);obtain rfl:=Hl e;obtain rfl:a=Tryz.f6:=(Hl (Tryz.func6.symm.trans b)).symm;refine⟨by kernel_rfl,fun j t c=>?_⟩;rw[Tryz.params6] at c;have d:t=23\/t=24:=by
  have:=Array.mem_of_getElem? c
  simpa using this
 rcases d with rfl|rfl
 .exact(show Tryz.prog.wantsStandIn 23=false by kernel_rfl)
 .exact(show Tryz.prog.wantsStandIn 24=false by kernel_rfl)
theorem faults_holds:Rows.FaultsUptoCardSaid :=
 Claim7.holds_tied_plain_at .later [] _ _ _ _ NQ (fun _ h=>by cases h) (by kernel_rfl) (fun _ h=>by cases h) faultsUpto_row_tie rfl ⟨rfl,rfl⟩ (by kernel_rfl) rfl OC (by kernel_rfl)
#print axioms faults_holds
end Go.Proofs.YtkhnggkkiefcdaaGreatDoor
