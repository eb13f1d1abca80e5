/- larder: joined texts -/
import Derived.Test.YtkhnggkkiefcdaaGreatDoorRAAZ
import Derived.Test.YtkhnggkkiefcdaaGreatDoorCards
import Derived.Test.YtkhnggkkiefcdaaGreatDoorTie
import Derived.ProofKit
import Derived.OpenShut
import Derived.Deep.DeepHandedRow
namespace Go.Proofs.YtkhnggkkiefcdaaGreatDoor
open Go.ChangeShapes Go.WideShapes Go.ChangeAt Go.RowKit
set_option maxRecDepth 100000
theorem Oo:Tryz.pinned.checked.prog.funcNamed Rows.reopensUptoRow.func=some 4:=by kernel_rfl
theorem Sz:(Rows.reopensUptoRow.wf (OpenSpec.ofChange (Rows.OpenSpec.upto Rows.reopensSpec).bare))=true:=by kernel_rfl
theorem SA:(laidOutB Tryz.pinned.checked.prog)=true:=by kernel_rfl
theorem SB:(mapsRowed Tryz.pinned.checked.prog)=true:=by kernel_rfl
theorem SC:(Tryz.f4.params.all (Tryz.pinned.checked.prog.readableRec ·))=true:=by kernel_rfl
theorem SD:(namedTie Tryz.pinned.checked.prog Rows.reopensUptoRow.named (Rows.OpenSpec.upto Rows.reopensSpec).bare.vars)=true:=by kernel_rfl
theorem SE:((Rows.reopensUptoRow.stops==[]))=true:=by kernel_rfl
theorem SF:((Tryz.pinned.checked.prog.stops==[]))=true:=by kernel_rfl
theorem SG:((Rows.reopensUptoRow.knobs==[]))=true:=by kernel_rfl
theorem SH:((Tryz.pinned.checked.prog.stopKnobs==[]))=true:=by kernel_rfl
theorem Td:((Rows.reopensUptoRow.inPlace==Tryz.pinned.checked.prog.inPlace 4))=true:=by kernel_rfl
theorem Te:((Rows.reopensUptoRow.unfollowed==Tryz.pinned.checked.prog.unfollowed 4))=true:=by kernel_rfl
theorem Tf:((Rows.reopensUptoRow.recurses==Tryz.pinned.checked.prog.recurses 4))=true:=by kernel_rfl
theorem Tg:((Rows.reopensUptoRow.named==Tryz.pinned.checked.prog.varsNamed 4))=true:=by kernel_rfl
theorem Th:((Rows.reopensUptoRow.maps==(Tryz.f4.params.toList++(Rows.OpenSpec.upto Rows.reopensSpec).bare.plain.varTypes Tryz.pinned.checked.prog).any (Tryz.pinned.checked.prog.mapsRec ·)))=true:=by kernel_rfl
theorem Ti:((Rows.reopensUptoRow.ifaces==(Tryz.f4.params.toList++(Rows.OpenSpec.upto Rows.reopensSpec).bare.plain.varTypes Tryz.pinned.checked.prog).any (Tryz.pinned.checked.prog.ifacesRec ·)))=true:=by kernel_rfl
theorem Tj:((Rows.reopensUptoRow.mapsOut==Tryz.pinned.checked.prog.mapsAmong Tryz.f4.resultTypes.toList))=true:=by kernel_rfl
theorem Tk:((Rows.reopensUptoRow.loops==(Tryz.f4.params.toList++(Rows.OpenSpec.upto Rows.reopensSpec).bare.plain.varTypes Tryz.pinned.checked.prog).any (Tryz.pinned.checked.prog.loopsFrom ·)))=true:=by kernel_rfl
theorem Tl:((Rows.reopensUptoRow.wideKeys==(Tryz.f4.params.toList++(Rows.OpenSpec.upto Rows.reopensSpec).bare.plain.varTypes Tryz.pinned.checked.prog++Tryz.f4.resultTypes.toList).any (Tryz.pinned.checked.prog.wideKeysFrom ·)))=true:=by kernel_rfl
theorem Tm:((Rows.OpenSpec.upto Rows.reopensSpec).bare.vars.all (Tryz.pinned.checked.prog.varReadable ·))=true:=by kernel_rfl
theorem Tn:(Tryz.f4.resultTypes.all (fun t=>Tryz.pinned.checked.prog.readableRec t&&decide (t<Tryz.pinned.checked.prog.types.size)))=true:=by kernel_rfl
theorem To:((Rows.reopensUptoRow.ifacesOut==Tryz.f4.resultTypes.toList.any (Tryz.pinned.checked.prog.ifacesRec ·)))=true:=by kernel_rfl
theorem Tp:((Rows.reopensUptoRow.loopsOut==Tryz.f4.resultTypes.toList.any (Tryz.pinned.checked.prog.loopsFrom ·)))=true:=by kernel_rfl
theorem Tq:((Rows.reopensUptoRow.plainKeys==Tryz.pinned.checked.prog.plainKeys))=true:=by kernel_rfl
theorem Tr:(Rows.reopensUptoRow.shortTexts.isNone)=true:=by kernel_rfl
theorem Ts:(Tryz.pinned.checked.prog.stopsHeard)=true:=by kernel_rfl
theorem Tt:(Tryz.pinned.checked.prog.mayEnter)=true:=by kernel_rfl
theorem Tu:((Rows.reopensUptoRow.lifted==Tryz.pinned.checked.prog.liftsFinal))=true:=by kernel_rfl
theorem Tv:((Tryz.pinned.checked.prog.make==some Rows.reopensUptoRow.make))=true:=by kernel_rfl
theorem Tw:((Rows.reopensUptoRow.kinds==(if Rows.reopensUptoRow.domain.isEmpty then [] else Tryz.f4.params.toList.map fun t=>match Tryz.pinned.checked.prog.underlying t with|some (.int k)=>some k|_=>none)))=true:=by kernel_rfl
theorem Tx:((Rows.reopensUptoRow.pinned==Rows.reopensUptoRow.pinnedBy))=true:=by kernel_rfl
theorem Tz:((Rows.reopensUptoRow.veiled==(Tryz.f4.params.toList++(Rows.OpenSpec.upto Rows.reopensSpec).bare.plain.varTypes Tryz.pinned.checked.prog++Tryz.f4.resultTypes.toList).any (Tryz.pinned.checked.prog.veiledRec ·)))=true:=by kernel_rfl
theorem TA:(Rows.reopensUptoRow.veiledFits Tryz.pinned.checked.prog Tryz.f4.params.toList (Tryz.f4.params.toList++(Rows.OpenSpec.upto Rows.reopensSpec).bare.plain.varTypes Tryz.pinned.checked.prog++Tryz.f4.resultTypes.toList))=true:=by kernel_rfl
theorem TB:joinedFacts Tryz.pinned.checked.prog 4 Tryz.f4 (Rows.OpenSpec.upto Rows.reopensSpec).bare Rows.reopensUptoRow=true:=by
 unfold joinedFacts
 simp only[Bool.and_eq_true]
 exact⟨⟨⟨⟨⟨⟨⟨⟨⟨⟨⟨⟨⟨⟨⟨⟨⟨⟨⟨⟨⟨⟨⟨⟨⟨⟨⟨⟨⟨⟨⟨Sz,SA⟩,SB⟩,SC⟩,SD⟩,SE⟩,SF⟩,SG⟩,SH⟩,Td⟩,Te⟩,Tf⟩,Tg⟩,Th⟩,Ti⟩,Tj⟩,Tk⟩,Tl⟩,Tm⟩,Tn⟩,To⟩,Tp⟩,Tq⟩,Tr⟩,Ts⟩,Tt⟩,Tu⟩,Tv⟩,Tw⟩,Tx⟩,Tz⟩,TA⟩
theorem Q7:Tryz.f4.isInstance Tryz.pinned.checked.prog Rows.reopensUptoRow.origin Rows.reopensUptoRow.targs:=of_decide_eq_true (by kernel_rfl)
theorem Q8:Tryz.f4.isWrapper Tryz.pinned.checked.prog Rows.reopensUptoRow.wrapper Rows.reopensUptoRow.mainSum:=by
 unfold Func.isWrapper
 first|(rw[if_pos (by decide +kernel)];kernel_rfl)|(rw[if_neg (by decide +kernel)];exact⟨rfl,rfl⟩)
end Go.Proofs.YtkhnggkkiefcdaaGreatDoor
