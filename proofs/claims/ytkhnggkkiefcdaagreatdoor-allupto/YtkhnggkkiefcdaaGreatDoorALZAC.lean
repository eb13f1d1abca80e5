/-
  larderlaw.All returns true for every two settings and every script that weigh at most 1048576 together: the tied card of the second form; of the translation of the commit that COMMIT names. Its condition: that weight, and that the listed package-level variables start as the program's text lays them.
-/
import Derived.Test.YtkhnggkkiefcdaaGreatDoorALZAA
import Derived.Test.YtkhnggkkiefcdaaGreatDoorALZAB
namespace Go.Proofs.YtkhnggkkiefcdaaGreatDoor
open Go.ChangeShapes Go.WideShapes Go.ChangeAt Go.RowKit Proofs.Tryz
set_option maxRecDepth 100000
theorem Ey:Rows.AllUptoSaid :=
 OpenClaim.holds_of_cond 7 Tryz.f7 rfl rfl rfl rfl rfl rfl rfl ⟨rfl,rfl,rfl,rfl,rfl⟩ rfl rfl rfl rfl rfl CK func7 Ib Ew Ex
  (fun b a H enc _ F=>by rw[OpenClaim.pre_eq_preRow];exact JN b a H enc F)
theorem Fw(f:FuncId)(a:Func)(g:Tryz.pinned.checked.prog.funcNamed Rows.allUptoRow.func=some f)(b:Tryz.pinned.checked.prog.funcs[f]?=some a) :
 true=Tryz.pinned.checked.prog.looks []/\∀ (j:Nat) t,a.params[j]?=some t->Tryz.pinned.checked.prog.wantsStandIn t=false:=by
 have e:some f=some 7:=g.symm.trans bI;obtain rfl:=BA e;obtain rfl:a=Tryz.f7:=(BA (func7.symm.trans b)).symm;refine⟨bI,fun j t c=>?_⟩;rw[params7] at c;have d:t=23\/t=24:=by
  have:=Array.mem_of_getElem? c
  simpa using this
 rcases d with rfl|rfl
 .exact(show prog.wantsStandIn 23=false from bI)
 .exact(show prog.wantsStandIn 24=false from bI)
theorem all_holds:Rows.AllUptoCardSaid :=
 Claim7.holds_tied_plain_at .later [] _ _ _ _ Ey (fun _ h=>by cases h) bI (fun _ h=>by cases h) allUpto_row_tie rfl ⟨rfl,rfl⟩ bI rfl Fw bI
#print axioms all_holds
end Go.Proofs.YtkhnggkkiefcdaaGreatDoor
