/-
  larderkeep.Unseen returns true for every number and every script that weigh at most 1048576 together: the tied card of the second form; of the translation of the commit that COMMIT names. Its condition: that weight, and that the listed package-level variables start as the program's text lays them.
-/
import Derived.Test.YtkhnggkkiefcdaaGreatDoorUNZAE
import Derived.Test.YtkhnggkkiefcdaaGreatDoorUNZAF
import Derived.Test.YtkhnggkkiefcdaaGreatDoorUNAT
import Derived.Test.YtkhnggkkiefcdaaGreatDoorUNAV
import Derived.Test.YtkhnggkkiefcdaaGreatDoorUNAX
import Derived.Test.YtkhnggkkiefcdaaGreatDoorCards
import Derived.Test.YtkhnggkkiefcdaaGreatDoorTie
import Derived.WalkKit
import Derived.ProofKit
import Derived.OpenShut
import Derived.Carry
import Derived.Lay
import Derived.LaidHandle
import Derived.Deep.DeepHandedRow
import Derived.Deep.DeepWitnessRowRef
namespace Go.Proofs.YtkhnggkkiefcdaaGreatDoor
open Go.ChangeShapes Go.WideShapes Go.ChangeAt Go.RowKit
set_option maxRecDepth 100000
theorem Nb:Rows.UnseenUptoSaid :=
 OpenClaim.holds_of_cond 12 Tryz.f12 rfl rfl rfl rfl rfl rfl rfl ⟨rfl,rfl,rfl,rfl,rfl⟩ rfl rfl rfl rfl rfl Ks CT Qg N8 Na
  (fun b a H enc _ F=>by rw[OpenClaim.pre_eq_preRow];exact RQ b a H enc F)
theorem O1(f:FuncId)(a:Func)(g:Tryz.pinned.checked.prog.funcNamed Rows.unseenUptoRow.func=some f)(b:Tryz.pinned.checked.prog.funcs[f]?=some a) :
 true=Tryz.pinned.checked.prog.looks []/\∀ (j:Nat) t,a.params[j]?=some t->Tryz.pinned.checked.prog.wantsStandIn t=false:=by
 have e:some f=some 12:=g.symm.trans (by kernel_rfl);obtain rfl:=Hb e;obtain rfl:a=Tryz.f12:=(Hb (CT.symm.trans b)).symm;refine⟨by kernel_rfl,fun j t c=>?_⟩;rw[Tryz.params12] at c;have d:t=3\/t=51\/t=26:=by
  have:=Array.mem_of_getElem? c
  simpa using this
 rcases d with rfl|rfl|rfl
 .exact(show Tryz.prog.wantsStandIn 3=false by kernel_rfl)
 .exact(show Tryz.prog.wantsStandIn 51=false by kernel_rfl)
 .exact(show Tryz.prog.wantsStandIn 26=false by kernel_rfl)
theorem unseen_holds:Rows.UnseenUptoCardSaid :=
 Claim7.holds_tied_plain_at .later [] _ _ _ _ Nb (fun _ h=>by cases h) (by kernel_rfl) (fun _ h=>by cases h) unseenUpto_row_tie rfl ⟨rfl,rfl⟩ (by kernel_rfl) rfl O1 (by kernel_rfl)
#print axioms unseen_holds
end Go.Proofs.YtkhnggkkiefcdaaGreatDoor
