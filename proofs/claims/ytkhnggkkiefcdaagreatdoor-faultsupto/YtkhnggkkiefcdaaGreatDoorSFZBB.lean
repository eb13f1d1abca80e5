/- larder: joined texts -/
import Derived.Test.YtkhnggkkiefcdaaGreatDoorCards
import Derived.Test.YtkhnggkkiefcdaaGreatDoorTie
import Derived.ProofKit
import Derived.OpenShut
import Derived.Deep.DeepHandedRow
namespace Go.Proofs.YtkhnggkkiefcdaaGreatDoor
open Go.ChangeShapes Go.WideShapes Go.ChangeAt Go.RowKit
set_option maxRecDepth 100000
theorem KV:Tryz.pinned.checked.prog.funcNamed Rows.faultsUptoRow.func=some 6:=by kernel_rfl
theorem Ot:(Rows.faultsUptoRow.wf (OpenSpec.ofChange (Rows.OpenSpec.upto Rows.faultsSpec).bare))=true:=by kernel_rfl
theorem Ou:(laidOutB Tryz.pinned.checked.prog)=true:=by kernel_rfl
theorem Ov:(mapsRowed Tryz.pinned.checked.prog)=true:=by kernel_rfl
theorem Ow:(Tryz.f6.params.all (Tryz.pinned.checked.prog.readableRec ·))=true:=by kernel_rfl
theorem Ox:(namedTie Tryz.pinned.checked.prog Rows.faultsUptoRow.named (Rows.OpenSpec.upto Rows.faultsSpec).bare.vars)=true:=by kernel_rfl
theorem Oy:((Rows.faultsUptoRow.stops==[]))=true:=by kernel_rfl
theorem Oz:((Tryz.pinned.checked.prog.stops==[]))=true:=by kernel_rfl
theorem OA:((Rows.faultsUptoRow.knobs==[]))=true:=by kernel_rfl
theorem OB:((Tryz.pinned.checked.prog.stopKnobs==[]))=true:=by kernel_rfl
theorem Qo:((Rows.faultsUptoRow.inPlace==Tryz.pinned.checked.prog.inPlace 6))=true:=by kernel_rfl
theorem Qp:((Rows.faultsUptoRow.unfollowed==Tryz.pinned.checked.prog.unfollowed 6))=true:=by kernel_rfl
theorem Qq:((Rows.faultsUptoRow.recurses==Tryz.pinned.checked.prog.recurses 6))=true:=by kernel_rfl
theorem Qr:((Rows.faultsUptoRow.named==Tryz.pinned.checked.prog.varsNamed 6))=true:=by kernel_rfl
theorem Qs:((Rows.faultsUptoRow.maps==(Tryz.f6.params.toList++(Rows.OpenSpec.upto Rows.faultsSpec).bare.plain.varTypes Tryz.pinned.checked.prog).any (Tryz.pinned.checked.prog.mapsRec ·)))=true:=by kernel_rfl
theorem Qt:((Rows.faultsUptoRow.ifaces==(Tryz.f6.params.toList++(Rows.OpenSpec.upto Rows.faultsSpec).bare.plain.varTypes Tryz.pinned.checked.prog).any (Tryz.pinned.checked.prog.ifacesRec ·)))=true:=by kernel_rfl
theorem Qu:((Rows.faultsUptoRow.mapsOut==Tryz.pinned.checked.prog.mapsAmong Tryz.f6.resultTypes.toList))=true:=by kernel_rfl
theorem Qv:((Rows.faultsUptoRow.loops==(Tryz.f6.params.toList++(Rows.OpenSpec.upto Rows.faultsSpec).bare.plain.varTypes Tryz.pinned.checked.prog).any (Tryz.pinned.checked.prog.loopsFrom ·)))=true:=by kernel_rfl
theorem Qw:((Rows.faultsUptoRow.wideKeys==(Tryz.f6.params.toList++(Rows.OpenSpec.upto Rows.faultsSpec).bare.plain.varTypes Tryz.pinned.checked.prog++Tryz.f6.resultTypes.toList).any (Tryz.pinned.checked.prog.wideKeysFrom ·)))=true:=by kernel_rfl
theorem Qx:((Rows.OpenSpec.upto Rows.faultsSpec).bare.vars.all (Tryz.pinned.checked.prog.varReadable ·))=true:=by kernel_rfl
theorem Qy:(Tryz.f6.resultTypes.all (fun t=>Tryz.pinned.checked.prog.readableRec t&&decide (t<Tryz.pinned.checked.prog.types.size)))=true:=by kernel_rfl
theorem Qz:((Rows.faultsUptoRow.ifacesOut==Tryz.f6.resultTypes.toList.any (Tryz.pinned.checked.prog.ifacesRec ·)))=true:=by kernel_rfl
theorem QA:((Rows.faultsUptoRow.loopsOut==Tryz.f6.resultTypes.toList.any (Tryz.pinned.checked.prog.loopsFrom ·)))=true:=by kernel_rfl
theorem QB:((Rows.faultsUptoRow.plainKeys==Tryz.pinned.checked.prog.plainKeys))=true:=by kernel_rfl
theorem QC:(Rows.faultsUptoRow.shortTexts.isNone)=true:=by kernel_rfl
theorem QD:(Tryz.pinned.checked.prog.stopsHeard)=true:=by kernel_rfl
theorem QE:(Tryz.pinned.checked.prog.mayEnter)=true:=by kernel_rfl
theorem QF:((Rows.faultsUptoRow.lifted==Tryz.pinned.checked.prog.liftsFinal))=true:=by kernel_rfl
theorem QG:((Tryz.pinned.checked.prog.make==some Rows.faultsUptoRow.make))=true:=by kernel_rfl
theorem QH:((Rows.faultsUptoRow.kinds==(if Rows.faultsUptoRow.domain.isEmpty then [] else Tryz.f6.params.toList.map fun t=>match Tryz.pinned.checked.prog.underlying t with|some (.int k)=>some k|_=>none)))=true:=by kernel_rfl
theorem QI:((Rows.faultsUptoRow.pinned==Rows.faultsUptoRow.pinnedBy))=true:=by kernel_rfl
theorem QJ:((Rows.faultsUptoRow.veiled==(Tryz.f6.params.toList++(Rows.OpenSpec.upto Rows.faultsSpec).bare.plain.varTypes Tryz.pinned.checked.prog++Tryz.f6.resultTypes.toList).any (Tryz.pinned.checked.prog.veiledRec ·)))=true:=by kernel_rfl
theorem QK:(Rows.faultsUptoRow.veiledFits Tryz.pinned.checked.prog Tryz.f6.params.toList (Tryz.f6.params.toList++(Rows.OpenSpec.upto Rows.faultsSpec).bare.plain.varTypes Tryz.pinned.checked.prog++Tryz.f6.resultTypes.toList))=true:=by kernel_rfl
theorem QL:joinedFacts Tryz.pinned.checked.prog 6 Tryz.f6 (Rows.OpenSpec.upto Rows.faultsSpec).bare Rows.faultsUptoRow=true:=by
 unfold joinedFacts;simp only[Bool.and_eq_true];exact⟨⟨⟨⟨⟨⟨⟨⟨⟨⟨⟨⟨⟨⟨⟨⟨⟨⟨⟨⟨⟨⟨⟨⟨⟨⟨⟨⟨⟨⟨⟨Ot,Ou⟩,Ov⟩,Ow⟩,Ox⟩,Oy⟩,Oz⟩,OA⟩,OB⟩,Qo⟩,Qp⟩,Qq⟩,Qr⟩,Qs⟩,Qt⟩,Qu⟩,Qv⟩,Qw⟩,Qx⟩,Qy⟩,Qz⟩,QA⟩,QB⟩,QC⟩,QD⟩,QE⟩,QF⟩,QG⟩,QH⟩,QI⟩,QJ⟩,QK⟩
theorem NO:Tryz.f6.isInstance Tryz.pinned.checked.prog Rows.faultsUptoRow.origin Rows.faultsUptoRow.targs:=of_decide_eq_true (by kernel_rfl)
theorem NP:Tryz.f6.isWrapper Tryz.pinned.checked.prog Rows.faultsUptoRow.wrapper Rows.faultsUptoRow.mainSum:=by
 unfold Func.isWrapper
 first|(rw[if_pos (by decide +kernel)];kernel_rfl)|(rw[if_neg (by decide +kernel)];exact⟨rfl,rfl⟩)
end Go.Proofs.YtkhnggkkiefcdaaGreatDoor
