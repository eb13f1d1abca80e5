/- larder: joined texts -/
import Derived.Test.YtkhnggkkiefcdaaGreatDoorCards
import Derived.Test.YtkhnggkkiefcdaaGreatDoorTie
import Derived.ProofKit
import Derived.OpenShut
import Derived.Deep.DeepHandedRow
namespace Go.Proofs.YtkhnggkkiefcdaaGreatDoor
open Go.ChangeShapes Go.WideShapes Go.ChangeAt Go.RowKit
set_option maxRecDepth 100000
theorem Oa:Tryz.pinned.checked.prog.funcNamed Rows.whollyRow.func=some 10:=by kernel_rfl
theorem R9:(Rows.whollyRow.wf (OpenSpec.ofChange (OpenSpec.ofChange Rows.whollySpec).bare))=true:=by kernel_rfl
theorem Ra:(laidOutB Tryz.pinned.checked.prog)=true:=by kernel_rfl
theorem Rb:(mapsRowed Tryz.pinned.checked.prog)=true:=by kernel_rfl
theorem Rc:(Tryz.f10.params.all (Tryz.pinned.checked.prog.readableRec ·))=true:=by kernel_rfl
theorem Rd:(namedTie Tryz.pinned.checked.prog Rows.whollyRow.named (OpenSpec.ofChange Rows.whollySpec).bare.vars)=true:=by kernel_rfl
theorem Re:((Rows.whollyRow.stops==[]))=true:=by kernel_rfl
theorem Rf:((Tryz.pinned.checked.prog.stops==[]))=true:=by kernel_rfl
theorem Rg:((Rows.whollyRow.knobs==[]))=true:=by kernel_rfl
theorem Rh:((Tryz.pinned.checked.prog.stopKnobs==[]))=true:=by kernel_rfl
theorem Th:((Rows.whollyRow.inPlace==Tryz.pinned.checked.prog.inPlace 10))=true:=by kernel_rfl
theorem Ti:((Rows.whollyRow.unfollowed==Tryz.pinned.checked.prog.unfollowed 10))=true:=by kernel_rfl
theorem Tj:((Rows.whollyRow.recurses==Tryz.pinned.checked.prog.recurses 10))=true:=by kernel_rfl
theorem Tk:((Rows.whollyRow.named==Tryz.pinned.checked.prog.varsNamed 10))=true:=by kernel_rfl
theorem Tl:((Rows.whollyRow.maps==(Tryz.f10.params.toList++(OpenSpec.ofChange Rows.whollySpec).bare.plain.varTypes Tryz.pinned.checked.prog).any (Tryz.pinned.checked.prog.mapsRec ·)))=true:=by kernel_rfl
theorem Tm:((Rows.whollyRow.ifaces==(Tryz.f10.params.toList++(OpenSpec.ofChange Rows.whollySpec).bare.plain.varTypes Tryz.pinned.checked.prog).any (Tryz.pinned.checked.prog.ifacesRec ·)))=true:=by kernel_rfl
theorem Tn:((Rows.whollyRow.mapsOut==Tryz.pinned.checked.prog.mapsAmong Tryz.f10.resultTypes.toList))=true:=by kernel_rfl
theorem To:((Rows.whollyRow.loops==(Tryz.f10.params.toList++(OpenSpec.ofChange Rows.whollySpec).bare.plain.varTypes Tryz.pinned.checked.prog).any (Tryz.pinned.checked.prog.loopsFrom ·)))=true:=by kernel_rfl
theorem Tp:((Rows.whollyRow.wideKeys==(Tryz.f10.params.toList++(OpenSpec.ofChange Rows.whollySpec).bare.plain.varTypes Tryz.pinned.checked.prog++Tryz.f10.resultTypes.toList).any (Tryz.pinned.checked.prog.wideKeysFrom ·)))=true:=by kernel_rfl
theorem Tq:((OpenSpec.ofChange Rows.whollySpec).bare.vars.all (Tryz.pinned.checked.prog.varReadable ·))=true:=by kernel_rfl
theorem Tr:(Tryz.f10.resultTypes.all (fun t=>Tryz.pinned.checked.prog.readableRec t&&decide (t<Tryz.pinned.checked.prog.types.size)))=true:=by kernel_rfl
theorem Ts:((Rows.whollyRow.ifacesOut==Tryz.f10.resultTypes.toList.any (Tryz.pinned.checked.prog.ifacesRec ·)))=true:=by kernel_rfl
theorem Tt:((Rows.whollyRow.loopsOut==Tryz.f10.resultTypes.toList.any (Tryz.pinned.checked.prog.loopsFrom ·)))=true:=by kernel_rfl
theorem Tu:((Rows.whollyRow.plainKeys==Tryz.pinned.checked.prog.plainKeys))=true:=by kernel_rfl
theorem Tv:(Rows.whollyRow.shortTexts.isNone)=true:=by kernel_rfl
theorem Tw:(Tryz.pinned.checked.prog.stopsHeard)=true:=by kernel_rfl
theorem Tx:(Tryz.pinned.checked.prog.mayEnter)=true:=by kernel_rfl
theorem Tz:((Rows.whollyRow.lifted==Tryz.pinned.checked.prog.liftsFinal))=true:=by kernel_rfl
theorem TA:((Tryz.pinned.checked.prog.make==some Rows.whollyRow.make))=true:=by kernel_rfl
theorem TB:((Rows.whollyRow.kinds==(if Rows.whollyRow.domain.isEmpty then [] else Tryz.f10.params.toList.map fun t=>match Tryz.pinned.checked.prog.underlying t with|some (.int k)=>some k|_=>none)))=true:=by kernel_rfl
theorem TC:((Rows.whollyRow.pinned==Rows.whollyRow.pinnedBy))=true:=by kernel_rfl
theorem TD:((Rows.whollyRow.veiled==(Tryz.f10.params.toList++(OpenSpec.ofChange Rows.whollySpec).bare.plain.varTypes Tryz.pinned.checked.prog++Tryz.f10.resultTypes.toList).any (Tryz.pinned.checked.prog.veiledRec ·)))=true:=by kernel_rfl
theorem TE:(Rows.whollyRow.veiledFits Tryz.pinned.checked.prog Tryz.f10.params.toList (Tryz.f10.params.toList++(OpenSpec.ofChange Rows.whollySpec).bare.plain.varTypes Tryz.pinned.checked.prog++Tryz.f10.resultTypes.toList))=true:=by kernel_rfl
theorem TF:joinedFacts Tryz.pinned.checked.prog 10 Tryz.f10 (OpenSpec.ofChange Rows.whollySpec).bare Rows.whollyRow=true:=by
 unfold joinedFacts;simp only[Bool.and_eq_true];exact⟨⟨⟨⟨⟨⟨⟨⟨⟨⟨⟨⟨⟨⟨⟨⟨⟨⟨⟨⟨⟨⟨⟨⟨⟨⟨⟨⟨⟨⟨⟨R9,Ra⟩,Rb⟩,Rc⟩,Rd⟩,Re⟩,Rf⟩,Rg⟩,Rh⟩,Th⟩,Ti⟩,Tj⟩,Tk⟩,Tl⟩,Tm⟩,Tn⟩,To⟩,Tp⟩,Tq⟩,Tr⟩,Ts⟩,Tt⟩,Tu⟩,Tv⟩,Tw⟩,Tx⟩,Tz⟩,TA⟩,TB⟩,TC⟩,TD⟩,TE⟩
theorem Q3:Tryz.f10.isInstance Tryz.pinned.checked.prog Rows.whollyRow.origin Rows.whollyRow.targs:=of_decide_eq_true (by kernel_rfl)
theorem Q4:Tryz.f10.isWrapper Tryz.pinned.checked.prog Rows.whollyRow.wrapper Rows.whollyRow.mainSum:=by
 unfold Func.isWrapper
 first|(rw[if_pos (by decide +kernel)];kernel_rfl)|(rw[if_neg (by decide +kernel)];exact⟨rfl,rfl⟩)
end Go.Proofs.YtkhnggkkiefcdaaGreatDoor
