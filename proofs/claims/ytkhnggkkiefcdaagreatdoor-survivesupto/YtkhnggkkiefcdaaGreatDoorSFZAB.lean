/- larder: joined texts -/
import Derived.Test.YtkhnggkkiefcdaaGreatDoorCards
import Derived.Test.YtkhnggkkiefcdaaGreatDoorTie
import Derived.ProofKit
import Derived.OpenShut
import Derived.Deep.DeepHandedRow
namespace Go.Proofs.YtkhnggkkiefcdaaGreatDoor
open Go.ChangeShapes Go.WideShapes Go.ChangeAt Go.RowKit
set_option maxRecDepth 100000
theorem NN:Tryz.pinned.checked.prog.funcNamed Rows.survivesUptoRow.func=some 5:=by kernel_rfl
theorem R3:(Rows.survivesUptoRow.wf (OpenSpec.ofChange (Rows.OpenSpec.upto Rows.survivesSpec).bare))=true:=by kernel_rfl
theorem R4:(laidOutB Tryz.pinned.checked.prog)=true:=by kernel_rfl
theorem R5:(mapsRowed Tryz.pinned.checked.prog)=true:=by kernel_rfl
theorem R6:(Tryz.f5.params.all (Tryz.pinned.checked.prog.readableRec ·))=true:=by kernel_rfl
theorem R7:(namedTie Tryz.pinned.checked.prog Rows.survivesUptoRow.named (Rows.OpenSpec.upto Rows.survivesSpec).bare.vars)=true:=by kernel_rfl
theorem R8:((Rows.survivesUptoRow.stops==[]))=true:=by kernel_rfl
theorem R9:((Tryz.pinned.checked.prog.stops==[]))=true:=by kernel_rfl
theorem Ra:((Rows.survivesUptoRow.knobs==[]))=true:=by kernel_rfl
theorem Rb:((Tryz.pinned.checked.prog.stopKnobs==[]))=true:=by kernel_rfl
theorem Sg:((Rows.survivesUptoRow.inPlace==Tryz.pinned.checked.prog.inPlace 5))=true:=by kernel_rfl
theorem Si:((Rows.survivesUptoRow.unfollowed==Tryz.pinned.checked.prog.unfollowed 5))=true:=by kernel_rfl
theorem Sj:((Rows.survivesUptoRow.recurses==Tryz.pinned.checked.prog.recurses 5))=true:=by kernel_rfl
theorem Sk:((Rows.survivesUptoRow.named==Tryz.pinned.checked.prog.varsNamed 5))=true:=by kernel_rfl
theorem Sl:((Rows.survivesUptoRow.maps==(Tryz.f5.params.toList++(Rows.OpenSpec.upto Rows.survivesSpec).bare.plain.varTypes Tryz.pinned.checked.prog).any (Tryz.pinned.checked.prog.mapsRec ·)))=true:=by kernel_rfl
theorem Sm:((Rows.survivesUptoRow.ifaces==(Tryz.f5.params.toList++(Rows.OpenSpec.upto Rows.survivesSpec).bare.plain.varTypes Tryz.pinned.checked.prog).any (Tryz.pinned.checked.prog.ifacesRec ·)))=true:=by kernel_rfl
theorem Sn:((Rows.survivesUptoRow.mapsOut==Tryz.pinned.checked.prog.mapsAmong Tryz.f5.resultTypes.toList))=true:=by kernel_rfl
theorem So:((Rows.survivesUptoRow.loops==(Tryz.f5.params.toList++(Rows.OpenSpec.upto Rows.survivesSpec).bare.plain.varTypes Tryz.pinned.checked.prog).any (Tryz.pinned.checked.prog.loopsFrom ·)))=true:=by kernel_rfl
theorem Sp:((Rows.survivesUptoRow.wideKeys==(Tryz.f5.params.toList++(Rows.OpenSpec.upto Rows.survivesSpec).bare.plain.varTypes Tryz.pinned.checked.prog++Tryz.f5.resultTypes.toList).any (Tryz.pinned.checked.prog.wideKeysFrom ·)))=true:=by kernel_rfl
theorem Sq:((Rows.OpenSpec.upto Rows.survivesSpec).bare.vars.all (Tryz.pinned.checked.prog.varReadable ·))=true:=by kernel_rfl
theorem Sr:(Tryz.f5.resultTypes.all (fun t=>Tryz.pinned.checked.prog.readableRec t&&decide (t<Tryz.pinned.checked.prog.types.size)))=true:=by kernel_rfl
theorem Ss:((Rows.survivesUptoRow.ifacesOut==Tryz.f5.resultTypes.toList.any (Tryz.pinned.checked.prog.ifacesRec ·)))=true:=by kernel_rfl
theorem St:((Rows.survivesUptoRow.loopsOut==Tryz.f5.resultTypes.toList.any (Tryz.pinned.checked.prog.loopsFrom ·)))=true:=by kernel_rfl
theorem Su:((Rows.survivesUptoRow.plainKeys==Tryz.pinned.checked.prog.plainKeys))=true:=by kernel_rfl
theorem Sv:(Rows.survivesUptoRow.shortTexts.isNone)=true:=by kernel_rfl
theorem Sw:(Tryz.pinned.checked.prog.stopsHeard)=true:=by kernel_rfl
theorem Sx:(Tryz.pinned.checked.prog.mayEnter)=true:=by kernel_rfl
theorem Sy:((Rows.survivesUptoRow.lifted==Tryz.pinned.checked.prog.liftsFinal))=true:=by kernel_rfl
theorem Sz:((Tryz.pinned.checked.prog.make==some Rows.survivesUptoRow.make))=true:=by kernel_rfl
theorem SA:((Rows.survivesUptoRow.kinds==(if Rows.survivesUptoRow.domain.isEmpty then [] else Tryz.f5.params.toList.map fun t=>match Tryz.pinned.checked.prog.underlying t with|some (.int k)=>some k|_=>none)))=true:=by kernel_rfl
theorem SB:((Rows.survivesUptoRow.pinned==Rows.survivesUptoRow.pinnedBy))=true:=by kernel_rfl
theorem SC:((Rows.survivesUptoRow.veiled==(Tryz.f5.params.toList++(Rows.OpenSpec.upto Rows.survivesSpec).bare.plain.varTypes Tryz.pinned.checked.prog++Tryz.f5.resultTypes.toList).any (Tryz.pinned.checked.prog.veiledRec ·)))=true:=by kernel_rfl
theorem SD:(Rows.survivesUptoRow.veiledFits Tryz.pinned.checked.prog Tryz.f5.params.toList (Tryz.f5.params.toList++(Rows.OpenSpec.upto Rows.survivesSpec).bare.plain.varTypes Tryz.pinned.checked.prog++Tryz.f5.resultTypes.toList))=true:=by kernel_rfl
theorem SE:joinedFacts Tryz.pinned.checked.prog 5 Tryz.f5 (Rows.OpenSpec.upto Rows.survivesSpec).bare Rows.survivesUptoRow=true:=by
 unfold joinedFacts;simp only[Bool.and_eq_true];exact⟨⟨⟨⟨⟨⟨⟨⟨⟨⟨⟨⟨⟨⟨⟨⟨⟨⟨⟨⟨⟨⟨⟨⟨⟨⟨⟨⟨⟨⟨⟨R3,R4⟩,R5⟩,R6⟩,R7⟩,R8⟩,R9⟩,Ra⟩,Rb⟩,Sg⟩,Si⟩,Sj⟩,Sk⟩,Sl⟩,Sm⟩,Sn⟩,So⟩,Sp⟩,Sq⟩,Sr⟩,Ss⟩,St⟩,Su⟩,Sv⟩,Sw⟩,Sx⟩,Sy⟩,Sz⟩,SA⟩,SB⟩,SC⟩,SD⟩
theorem Qk:Tryz.f5.isInstance Tryz.pinned.checked.prog Rows.survivesUptoRow.origin Rows.survivesUptoRow.targs:=of_decide_eq_true (by kernel_rfl)
theorem Ql:Tryz.f5.isWrapper Tryz.pinned.checked.prog Rows.survivesUptoRow.wrapper Rows.survivesUptoRow.mainSum:=by
 unfold Func.isWrapper
 first|(rw[if_pos (by decide +kernel)];kernel_rfl)|(rw[if_neg (by decide +kernel)];exact⟨rfl,rfl⟩)
end Go.Proofs.YtkhnggkkiefcdaaGreatDoor
