/- larder: joined texts -/
import Derived.Test.YtkhnggkkiefcdaaGreatDoorCards
import Derived.Test.YtkhnggkkiefcdaaGreatDoorTie
import Derived.ProofKit
import Derived.OpenShut
import Derived.Deep.DeepHandedRow
namespace Go.Proofs.YtkhnggkkiefcdaaGreatDoor
open Go.ChangeShapes Go.WideShapes Go.ChangeAt Go.RowKit
set_option maxRecDepth 100000
theorem MA:Tryz.pinned.checked.prog.funcNamed Rows.numbersUptoRow.func=some 8:=by kernel_rfl
theorem Q4:(Rows.numbersUptoRow.wf (OpenSpec.ofChange (Rows.OpenSpec.upto Rows.numbersSpec).bare))=true:=by kernel_rfl
theorem Q5:(laidOutB Tryz.pinned.checked.prog)=true:=by kernel_rfl
theorem Q6:(mapsRowed Tryz.pinned.checked.prog)=true:=by kernel_rfl
theorem Q7:(Tryz.f8.params.all (Tryz.pinned.checked.prog.readableRec ·))=true:=by kernel_rfl
theorem Q8:(namedTie Tryz.pinned.checked.prog Rows.numbersUptoRow.named (Rows.OpenSpec.upto Rows.numbersSpec).bare.vars)=true:=by kernel_rfl
theorem Q9:((Rows.numbersUptoRow.stops==[]))=true:=by kernel_rfl
theorem Qa:((Tryz.pinned.checked.prog.stops==[]))=true:=by kernel_rfl
theorem Qb:((Rows.numbersUptoRow.knobs==[]))=true:=by kernel_rfl
theorem Qc:((Tryz.pinned.checked.prog.stopKnobs==[]))=true:=by kernel_rfl
theorem Sw:((Rows.numbersUptoRow.inPlace==Tryz.pinned.checked.prog.inPlace 8))=true:=by kernel_rfl
theorem Sx:((Rows.numbersUptoRow.unfollowed==Tryz.pinned.checked.prog.unfollowed 8))=true:=by kernel_rfl
theorem Sy:((Rows.numbersUptoRow.recurses==Tryz.pinned.checked.prog.recurses 8))=true:=by kernel_rfl
theorem Sz:((Rows.numbersUptoRow.named==Tryz.pinned.checked.prog.varsNamed 8))=true:=by kernel_rfl
theorem SA:((Rows.numbersUptoRow.maps==(Tryz.f8.params.toList++(Rows.OpenSpec.upto Rows.numbersSpec).bare.plain.varTypes Tryz.pinned.checked.prog).any (Tryz.pinned.checked.prog.mapsRec ·)))=true:=by kernel_rfl
theorem SB:((Rows.numbersUptoRow.ifaces==(Tryz.f8.params.toList++(Rows.OpenSpec.upto Rows.numbersSpec).bare.plain.varTypes Tryz.pinned.checked.prog).any (Tryz.pinned.checked.prog.ifacesRec ·)))=true:=by kernel_rfl
theorem SC:((Rows.numbersUptoRow.mapsOut==Tryz.pinned.checked.prog.mapsAmong Tryz.f8.resultTypes.toList))=true:=by kernel_rfl
theorem SD:((Rows.numbersUptoRow.loops==(Tryz.f8.params.toList++(Rows.OpenSpec.upto Rows.numbersSpec).bare.plain.varTypes Tryz.pinned.checked.prog).any (Tryz.pinned.checked.prog.loopsFrom ·)))=true:=by kernel_rfl
theorem SE:((Rows.numbersUptoRow.wideKeys==(Tryz.f8.params.toList++(Rows.OpenSpec.upto Rows.numbersSpec).bare.plain.varTypes Tryz.pinned.checked.prog++Tryz.f8.resultTypes.toList).any (Tryz.pinned.checked.prog.wideKeysFrom ·)))=true:=by kernel_rfl
theorem SF:((Rows.OpenSpec.upto Rows.numbersSpec).bare.vars.all (Tryz.pinned.checked.prog.varReadable ·))=true:=by kernel_rfl
theorem SG:(Tryz.f8.resultTypes.all (fun t=>Tryz.pinned.checked.prog.readableRec t&&decide (t<Tryz.pinned.checked.prog.types.size)))=true:=by kernel_rfl
theorem SH:((Rows.numbersUptoRow.ifacesOut==Tryz.f8.resultTypes.toList.any (Tryz.pinned.checked.prog.ifacesRec ·)))=true:=by kernel_rfl
theorem SI:((Rows.numbersUptoRow.loopsOut==Tryz.f8.resultTypes.toList.any (Tryz.pinned.checked.prog.loopsFrom ·)))=true:=by kernel_rfl
theorem SJ:((Rows.numbersUptoRow.plainKeys==Tryz.pinned.checked.prog.plainKeys))=true:=by kernel_rfl
theorem SK:(Rows.numbersUptoRow.shortTexts.isNone)=true:=by kernel_rfl
theorem SN:(Tryz.pinned.checked.prog.stopsHeard)=true:=by kernel_rfl
theorem SO:(Tryz.pinned.checked.prog.mayEnter)=true:=by kernel_rfl
theorem SP:((Rows.numbersUptoRow.lifted==Tryz.pinned.checked.prog.liftsFinal))=true:=by kernel_rfl
theorem SQ:((Tryz.pinned.checked.prog.make==some Rows.numbersUptoRow.make))=true:=by kernel_rfl
theorem SR:((Rows.numbersUptoRow.kinds==(if Rows.numbersUptoRow.domain.isEmpty then [] else Tryz.f8.params.toList.map fun t=>match Tryz.pinned.checked.prog.underlying t with|some (.int k)=>some k|_=>none)))=true:=by kernel_rfl
theorem SS:((Rows.numbersUptoRow.pinned==Rows.numbersUptoRow.pinnedBy))=true:=by kernel_rfl
theorem ST:((Rows.numbersUptoRow.veiled==(Tryz.f8.params.toList++(Rows.OpenSpec.upto Rows.numbersSpec).bare.plain.varTypes Tryz.pinned.checked.prog++Tryz.f8.resultTypes.toList).any (Tryz.pinned.checked.prog.veiledRec ·)))=true:=by kernel_rfl
theorem SU:(Rows.numbersUptoRow.veiledFits Tryz.pinned.checked.prog Tryz.f8.params.toList (Tryz.f8.params.toList++(Rows.OpenSpec.upto Rows.numbersSpec).bare.plain.varTypes Tryz.pinned.checked.prog++Tryz.f8.resultTypes.toList))=true:=by kernel_rfl
theorem SV:joinedFacts Tryz.pinned.checked.prog 8 Tryz.f8 (Rows.OpenSpec.upto Rows.numbersSpec).bare Rows.numbersUptoRow=true:=by
 unfold joinedFacts;simp only[Bool.and_eq_true];exact⟨⟨⟨⟨⟨⟨⟨⟨⟨⟨⟨⟨⟨⟨⟨⟨⟨⟨⟨⟨⟨⟨⟨⟨⟨⟨⟨⟨⟨⟨⟨Q4,Q5⟩,Q6⟩,Q7⟩,Q8⟩,Q9⟩,Qa⟩,Qb⟩,Qc⟩,Sw⟩,Sx⟩,Sy⟩,Sz⟩,SA⟩,SB⟩,SC⟩,SD⟩,SE⟩,SF⟩,SG⟩,SH⟩,SI⟩,SJ⟩,SK⟩,SN⟩,SO⟩,SP⟩,SQ⟩,SR⟩,SS⟩,ST⟩,SU⟩
theorem PL:Tryz.f8.isInstance Tryz.pinned.checked.prog Rows.numbersUptoRow.origin Rows.numbersUptoRow.targs:=of_decide_eq_true (by kernel_rfl)
theorem PM:Tryz.f8.isWrapper Tryz.pinned.checked.prog Rows.numbersUptoRow.wrapper Rows.numbersUptoRow.mainSum:=by
 unfold Func.isWrapper
 first|(rw[if_pos (by decide +kernel)];kernel_rfl)|(rw[if_neg (by decide +kernel)];exact⟨rfl,rfl⟩)
end Go.Proofs.YtkhnggkkiefcdaaGreatDoor
