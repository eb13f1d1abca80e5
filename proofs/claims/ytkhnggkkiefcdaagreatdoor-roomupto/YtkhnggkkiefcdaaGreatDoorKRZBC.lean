/- larder: joined texts -/
import Derived.Test.YtkhnggkkiefcdaaGreatDoorCards
import Derived.Test.YtkhnggkkiefcdaaGreatDoorTie
import Derived.ProofKit
import Derived.OpenShut
import Derived.Deep.DeepHandedRow
namespace Go.Proofs.YtkhnggkkiefcdaaGreatDoor
open Go.ChangeShapes Go.WideShapes Go.ChangeAt Go.RowKit
set_option maxRecDepth 100000
theorem Hk:Tryz.pinned.checked.prog.funcNamed Rows.roomUptoRow.func=some 11:=by kernel_rfl
theorem K8:(Rows.roomUptoRow.wf (OpenSpec.ofChange (Rows.OpenSpec.upto Rows.roomSpec).bare))=true:=by kernel_rfl
theorem K9:(laidOutB Tryz.pinned.checked.prog)=true:=by kernel_rfl
theorem Ka:(mapsRowed Tryz.pinned.checked.prog)=true:=by kernel_rfl
theorem Kb:(Tryz.f11.params.all (Tryz.pinned.checked.prog.readableRec ·))=true:=by kernel_rfl
theorem Kc:(namedTie Tryz.pinned.checked.prog Rows.roomUptoRow.named (Rows.OpenSpec.upto Rows.roomSpec).bare.vars)=true:=by kernel_rfl
theorem Kd:((Rows.roomUptoRow.stops==[]))=true:=by kernel_rfl
theorem Ke:((Tryz.pinned.checked.prog.stops==[]))=true:=by kernel_rfl
theorem Kf:((Rows.roomUptoRow.knobs==[]))=true:=by kernel_rfl
theorem Kg:((Tryz.pinned.checked.prog.stopKnobs==[]))=true:=by kernel_rfl
theorem NH:((Rows.roomUptoRow.inPlace==Tryz.pinned.checked.prog.inPlace 11))=true:=by kernel_rfl
theorem NJ:((Rows.roomUptoRow.unfollowed==Tryz.pinned.checked.prog.unfollowed 11))=true:=by kernel_rfl
theorem NK:((Rows.roomUptoRow.recurses==Tryz.pinned.checked.prog.recurses 11))=true:=by kernel_rfl
theorem NN:((Rows.roomUptoRow.named==Tryz.pinned.checked.prog.varsNamed 11))=true:=by kernel_rfl
theorem NO:((Rows.roomUptoRow.maps==(Tryz.f11.params.toList++(Rows.OpenSpec.upto Rows.roomSpec).bare.plain.varTypes Tryz.pinned.checked.prog).any (Tryz.pinned.checked.prog.mapsRec ·)))=true:=by kernel_rfl
theorem NP:((Rows.roomUptoRow.ifaces==(Tryz.f11.params.toList++(Rows.OpenSpec.upto Rows.roomSpec).bare.plain.varTypes Tryz.pinned.checked.prog).any (Tryz.pinned.checked.prog.ifacesRec ·)))=true:=by kernel_rfl
theorem NQ:((Rows.roomUptoRow.mapsOut==Tryz.pinned.checked.prog.mapsAmong Tryz.f11.resultTypes.toList))=true:=by kernel_rfl
theorem NR:((Rows.roomUptoRow.loops==(Tryz.f11.params.toList++(Rows.OpenSpec.upto Rows.roomSpec).bare.plain.varTypes Tryz.pinned.checked.prog).any (Tryz.pinned.checked.prog.loopsFrom ·)))=true:=by kernel_rfl
theorem NS:((Rows.roomUptoRow.wideKeys==(Tryz.f11.params.toList++(Rows.OpenSpec.upto Rows.roomSpec).bare.plain.varTypes Tryz.pinned.checked.prog++Tryz.f11.resultTypes.toList).any (Tryz.pinned.checked.prog.wideKeysFrom ·)))=true:=by kernel_rfl
theorem NT:((Rows.OpenSpec.upto Rows.roomSpec).bare.vars.all (Tryz.pinned.checked.prog.varReadable ·))=true:=by kernel_rfl
theorem NU:(Tryz.f11.resultTypes.all (fun t=>Tryz.pinned.checked.prog.readableRec t&&decide (t<Tryz.pinned.checked.prog.types.size)))=true:=by kernel_rfl
theorem NV:((Rows.roomUptoRow.ifacesOut==Tryz.f11.resultTypes.toList.any (Tryz.pinned.checked.prog.ifacesRec ·)))=true:=by kernel_rfl
theorem NW:((Rows.roomUptoRow.loopsOut==Tryz.f11.resultTypes.toList.any (Tryz.pinned.checked.prog.loopsFrom ·)))=true:=by kernel_rfl
theorem NX:((Rows.roomUptoRow.plainKeys==Tryz.pinned.checked.prog.plainKeys))=true:=by kernel_rfl
theorem NY:(Rows.roomUptoRow.shortTexts.isNone)=true:=by kernel_rfl
theorem NZ:(Tryz.pinned.checked.prog.stopsHeard)=true:=by kernel_rfl
theorem M8:(Tryz.pinned.checked.prog.mayEnter)=true:=by kernel_rfl
theorem M9:((Rows.roomUptoRow.lifted==Tryz.pinned.checked.prog.liftsFinal))=true:=by kernel_rfl
theorem Ma:((Tryz.pinned.checked.prog.make==some Rows.roomUptoRow.make))=true:=by kernel_rfl
theorem Mb:((Rows.roomUptoRow.kinds==(if Rows.roomUptoRow.domain.isEmpty then [] else Tryz.f11.params.toList.map fun t=>match Tryz.pinned.checked.prog.underlying t with|some (.int k)=>some k|_=>none)))=true:=by kernel_rfl
theorem Mc:((Rows.roomUptoRow.pinned==Rows.roomUptoRow.pinnedBy))=true:=by kernel_rfl
theorem Md:((Rows.roomUptoRow.veiled==(Tryz.f11.params.toList++(Rows.OpenSpec.upto Rows.roomSpec).bare.plain.varTypes Tryz.pinned.checked.prog++Tryz.f11.resultTypes.toList).any (Tryz.pinned.checked.prog.veiledRec ·)))=true:=by kernel_rfl
theorem Me:(Rows.roomUptoRow.veiledFits Tryz.pinned.checked.prog Tryz.f11.params.toList (Tryz.f11.params.toList++(Rows.OpenSpec.upto Rows.roomSpec).bare.plain.varTypes Tryz.pinned.checked.prog++Tryz.f11.resultTypes.toList))=true:=by kernel_rfl
theorem Mf:joinedFacts Tryz.pinned.checked.prog 11 Tryz.f11 (Rows.OpenSpec.upto Rows.roomSpec).bare Rows.roomUptoRow=true:=by
 unfold joinedFacts;simp only[Bool.and_eq_true];exact⟨⟨⟨⟨⟨⟨⟨⟨⟨⟨⟨⟨⟨⟨⟨⟨⟨⟨⟨⟨⟨⟨⟨⟨⟨⟨⟨⟨⟨⟨⟨K8,K9⟩,Ka⟩,Kb⟩,Kc⟩,Kd⟩,Ke⟩,Kf⟩,Kg⟩,NH⟩,NJ⟩,NK⟩,NN⟩,NO⟩,NP⟩,NQ⟩,NR⟩,NS⟩,NT⟩,NU⟩,NV⟩,NW⟩,NX⟩,NY⟩,NZ⟩,M8⟩,M9⟩,Ma⟩,Mb⟩,Mc⟩,Md⟩,Me⟩
theorem JE:Tryz.f11.isInstance Tryz.pinned.checked.prog Rows.roomUptoRow.origin Rows.roomUptoRow.targs:=of_decide_eq_true (by kernel_rfl)
theorem JF:Tryz.f11.isWrapper Tryz.pinned.checked.prog Rows.roomUptoRow.wrapper Rows.roomUptoRow.mainSum:=by
 unfold Func.isWrapper
 first|(rw[if_pos (by decide +kernel)];kernel_rfl)|(rw[if_neg (by decide +kernel)];exact⟨rfl,rfl⟩)
end Go.Proofs.YtkhnggkkiefcdaaGreatDoor
