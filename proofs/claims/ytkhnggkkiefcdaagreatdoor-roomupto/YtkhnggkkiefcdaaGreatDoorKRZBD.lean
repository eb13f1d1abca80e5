/-
  larderkeep.Room returns true for every number and every script that weigh at most 1048576 together: the tied card of the second form; of the translation of the commit that COMMIT names. Its condition: that weight, and that the listed package-level variables start as the program's text lays them.
-/
import Derived.Test.YtkhnggkkiefcdaaGreatDoorKRZBB
import Derived.Test.YtkhnggkkiefcdaaGreatDoorKRZBC
import Derived.Test.YtkhnggkkiefcdaaGreatDoorKRAT
import Derived.Test.YtkhnggkkiefcdaaGreatDoorKRAZ
import Derived.Test.YtkhnggkkiefcdaaGreatDoorKRBA
import Derived.Test.YtkhnggkkiefcdaaGreatDoorCards
import Derived.Test.YtkhnggkkiefcdaaGreatDoorTie
import Derived.WalkKit
import Derived.ProofKit
import Derived.OpenShut
import Derived.Carry
import Derived.Lay
import Derived.LaidHandle
import Derived.Deep.DeepHandedRow
import Derived.Deep.DeepWitnessRowRef
namespace Go.Proofs.YtkhnggkkiefcdaaGreatDoor
open Go.ChangeShapes Go.WideShapes Go.ChangeAt Go.RowKit
set_option maxRecDepth 100000
theorem JG:Rows.RoomUptoSaid :=
 OpenClaim.holds_of_cond 11 Tryz.f11 rfl rfl rfl rfl rfl rfl rfl ⟨rfl,rfl,rfl,rfl,rfl⟩ rfl rfl rfl rfl rfl Hk Al Mf JE JF
  (fun b a H enc _ F=>by rw[OpenClaim.pre_eq_preRow];exact NG b a H enc F)
theorem Kh(f:FuncId)(a:Func)(g:Tryz.pinned.checked.prog.funcNamed Rows.roomUptoRow.func=some f)(b:Tryz.pinned.checked.prog.funcs[f]?=some a) :
 true=Tryz.pinned.checked.prog.looks []/\∀ (j:Nat) t,a.params[j]?=some t->Tryz.pinned.checked.prog.wantsStandIn t=false:=by
 have e:some f=some 11:=g.symm.trans (by kernel_rfl);obtain rfl:=GG e;obtain rfl:a=Tryz.f11:=(GG (Al.symm.trans b)).symm;refine⟨by kernel_rfl,fun j t c=>?_⟩;rw[Tryz.params11] at c;have d:t=3\/t=51\/t=3:=by
  have:=Array.mem_of_getElem? c
  simpa using this
 rcases d with rfl|rfl|rfl
 .exact(show Tryz.prog.wantsStandIn 3=false by kernel_rfl)
 .exact(show Tryz.prog.wantsStandIn 51=false by kernel_rfl)
 .exact(show Tryz.prog.wantsStandIn 3=false by kernel_rfl)
theorem room_holds:Rows.RoomUptoCardSaid :=
 Claim7.holds_tied_plain_at .later [] _ _ _ _ JG (fun _ h=>by cases h) (by kernel_rfl) (fun _ h=>by cases h) roomUpto_row_tie rfl ⟨rfl,rfl⟩ (by kernel_rfl) rfl Kh (by kernel_rfl)
#print axioms room_holds
end Go.Proofs.YtkhnggkkiefcdaaGreatDoor
