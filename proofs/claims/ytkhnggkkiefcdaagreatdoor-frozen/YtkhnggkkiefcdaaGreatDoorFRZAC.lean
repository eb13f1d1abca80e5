/- larder: joined texts -/
import Derived.Test.YtkhnggkkiefcdaaGreatDoorCards
import Derived.Test.YtkhnggkkiefcdaaGreatDoorTie
import Derived.ProofKit
import Derived.OpenShut
import Derived.Deep.DeepHandedRow
namespace Go.Proofs.YtkhnggkkiefcdaaGreatDoor
open Go.ChangeShapes Go.WideShapes Go.ChangeAt Go.RowKit
set_option maxRecDepth 100000
theorem Oe:Tryz.pinned.checked.prog.funcNamed Rows.frozenRow.func=some 13:=by kernel_rfl
theorem Rc:(Rows.frozenRow.wf (OpenSpec.ofChange (OpenSpec.ofChange Rows.frozenSpec).bare))=true:=by kernel_rfl
theorem Rd:(laidOutB Tryz.pinned.checked.prog)=true:=by kernel_rfl
theorem Re:(mapsRowed Tryz.pinned.checked.prog)=true:=by kernel_rfl
theorem Rf:(Tryz.f13.params.all (Tryz.pinned.checked.prog.readableRec ·))=true:=by kernel_rfl
theorem Rg:(namedTie Tryz.pinned.checked.prog Rows.frozenRow.named (OpenSpec.ofChange Rows.frozenSpec).bare.vars)=true:=by kernel_rfl
theorem Rh:((Rows.frozenRow.stops==[]))=true:=by kernel_rfl
theorem Ri:((Tryz.pinned.checked.prog.stops==[]))=true:=by kernel_rfl
theorem Rj:((Rows.frozenRow.knobs==[]))=true:=by kernel_rfl
theorem Rk:((Tryz.pinned.checked.prog.stopKnobs==[]))=true:=by kernel_rfl
theorem Tm:((Rows.frozenRow.inPlace==Tryz.pinned.checked.prog.inPlace 13))=true:=by kernel_rfl
theorem Tn:((Rows.frozenRow.unfollowed==Tryz.pinned.checked.prog.unfollowed 13))=true:=by kernel_rfl
theorem To:((Rows.frozenRow.recurses==Tryz.pinned.checked.prog.recurses 13))=true:=by kernel_rfl
theorem Tp:((Rows.frozenRow.named==Tryz.pinned.checked.prog.varsNamed 13))=true:=by kernel_rfl
theorem Tq:((Rows.frozenRow.maps==(Tryz.f13.params.toList++(OpenSpec.ofChange Rows.frozenSpec).bare.plain.varTypes Tryz.pinned.checked.prog).any (Tryz.pinned.checked.prog.mapsRec ·)))=true:=by kernel_rfl
theorem Tr:((Rows.frozenRow.ifaces==(Tryz.f13.params.toList++(OpenSpec.ofChange Rows.frozenSpec).bare.plain.varTypes Tryz.pinned.checked.prog).any (Tryz.pinned.checked.prog.ifacesRec ·)))=true:=by kernel_rfl
theorem Ts:((Rows.frozenRow.mapsOut==Tryz.pinned.checked.prog.mapsAmong Tryz.f13.resultTypes.toList))=true:=by kernel_rfl
theorem Tt:((Rows.frozenRow.loops==(Tryz.f13.params.toList++(OpenSpec.ofChange Rows.frozenSpec).bare.plain.varTypes Tryz.pinned.checked.prog).any (Tryz.pinned.checked.prog.loopsFrom ·)))=true:=by kernel_rfl
theorem Tu:((Rows.frozenRow.wideKeys==(Tryz.f13.params.toList++(OpenSpec.ofChange Rows.frozenSpec).bare.plain.varTypes Tryz.pinned.checked.prog++Tryz.f13.resultTypes.toList).any (Tryz.pinned.checked.prog.wideKeysFrom ·)))=true:=by kernel_rfl
theorem Tv:((OpenSpec.ofChange Rows.frozenSpec).bare.vars.all (Tryz.pinned.checked.prog.varReadable ·))=true:=by kernel_rfl
theorem Tw:(Tryz.f13.resultTypes.all (fun t=>Tryz.pinned.checked.prog.readableRec t&&decide (t<Tryz.pinned.checked.prog.types.size)))=true:=by kernel_rfl
theorem Tx:((Rows.frozenRow.ifacesOut==Tryz.f13.resultTypes.toList.any (Tryz.pinned.checked.prog.ifacesRec ·)))=true:=by kernel_rfl
theorem Tz:((Rows.frozenRow.loopsOut==Tryz.f13.resultTypes.toList.any (Tryz.pinned.checked.prog.loopsFrom ·)))=true:=by kernel_rfl
theorem TA:((Rows.frozenRow.plainKeys==Tryz.pinned.checked.prog.plainKeys))=true:=by kernel_rfl
theorem TB:(Rows.frozenRow.shortTexts.isNone)=true:=by kernel_rfl
theorem TC:(Tryz.pinned.checked.prog.stopsHeard)=true:=by kernel_rfl
theorem TD:(Tryz.pinned.checked.prog.mayEnter)=true:=by kernel_rfl
theorem TE:((Rows.frozenRow.lifted==Tryz.pinned.checked.prog.liftsFinal))=true:=by kernel_rfl
theorem TF:((Tryz.pinned.checked.prog.make==some Rows.frozenRow.make))=true:=by kernel_rfl
theorem TG:((Rows.frozenRow.kinds==(if Rows.frozenRow.domain.isEmpty then [] else Tryz.f13.params.toList.map fun t=>match Tryz.pinned.checked.prog.underlying t with|some (.int k)=>some k|_=>none)))=true:=by kernel_rfl
theorem TH:((Rows.frozenRow.pinned==Rows.frozenRow.pinnedBy))=true:=by kernel_rfl
theorem TI:((Rows.frozenRow.veiled==(Tryz.f13.params.toList++(OpenSpec.ofChange Rows.frozenSpec).bare.plain.varTypes Tryz.pinned.checked.prog++Tryz.f13.resultTypes.toList).any (Tryz.pinned.checked.prog.veiledRec ·)))=true:=by kernel_rfl
theorem TJ:(Rows.frozenRow.veiledFits Tryz.pinned.checked.prog Tryz.f13.params.toList (Tryz.f13.params.toList++(OpenSpec.ofChange Rows.frozenSpec).bare.plain.varTypes Tryz.pinned.checked.prog++Tryz.f13.resultTypes.toList))=true:=by kernel_rfl
theorem TK:joinedFacts Tryz.pinned.checked.prog 13 Tryz.f13 (OpenSpec.ofChange Rows.frozenSpec).bare Rows.frozenRow=true:=by
 unfold joinedFacts;simp only[Bool.and_eq_true];exact⟨⟨⟨⟨⟨⟨⟨⟨⟨⟨⟨⟨⟨⟨⟨⟨⟨⟨⟨⟨⟨⟨⟨⟨⟨⟨⟨⟨⟨⟨⟨Rc,Rd⟩,Re⟩,Rf⟩,Rg⟩,Rh⟩,Ri⟩,Rj⟩,Rk⟩,Tm⟩,Tn⟩,To⟩,Tp⟩,Tq⟩,Tr⟩,Ts⟩,Tt⟩,Tu⟩,Tv⟩,Tw⟩,Tx⟩,Tz⟩,TA⟩,TB⟩,TC⟩,TD⟩,TE⟩,TF⟩,TG⟩,TH⟩,TI⟩,TJ⟩
theorem Q5:Tryz.f13.isInstance Tryz.pinned.checked.prog Rows.frozenRow.origin Rows.frozenRow.targs:=of_decide_eq_true (by kernel_rfl)
theorem Q6:Tryz.f13.isWrapper Tryz.pinned.checked.prog Rows.frozenRow.wrapper Rows.frozenRow.mainSum:=by
 unfold Func.isWrapper
 first|(rw[if_pos (by decide +kernel)];kernel_rfl)|(rw[if_neg (by decide +kernel)];exact⟨rfl,rfl⟩)
end Go.Proofs.YtkhnggkkiefcdaaGreatDoor
