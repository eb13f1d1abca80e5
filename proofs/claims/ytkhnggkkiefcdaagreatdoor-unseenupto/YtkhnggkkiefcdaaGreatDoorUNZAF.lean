/- larder: joined texts -/
import Derived.Test.YtkhnggkkiefcdaaGreatDoorCards
import Derived.Test.YtkhnggkkiefcdaaGreatDoorTie
import Derived.ProofKit
import Derived.OpenShut
import Derived.Deep.DeepHandedRow
namespace Go.Proofs.YtkhnggkkiefcdaaGreatDoor
open Go.ChangeShapes Go.WideShapes Go.ChangeAt Go.RowKit
set_option maxRecDepth 100000
theorem Ks:Tryz.pinned.checked.prog.funcNamed Rows.unseenUptoRow.func=some 12:=by kernel_rfl
theorem PS:(Rows.unseenUptoRow.wf (OpenSpec.ofChange (Rows.OpenSpec.upto Rows.unseenSpec).bare))=true:=by kernel_rfl
theorem PT:(laidOutB Tryz.pinned.checked.prog)=true:=by kernel_rfl
theorem PU:(mapsRowed Tryz.pinned.checked.prog)=true:=by kernel_rfl
theorem PV:(Tryz.f12.params.all (Tryz.pinned.checked.prog.readableRec ·))=true:=by kernel_rfl
theorem PW:(namedTie Tryz.pinned.checked.prog Rows.unseenUptoRow.named (Rows.OpenSpec.upto Rows.unseenSpec).bare.vars)=true:=by kernel_rfl
theorem PX:((Rows.unseenUptoRow.stops==[]))=true:=by kernel_rfl
theorem PY:((Tryz.pinned.checked.prog.stops==[]))=true:=by kernel_rfl
theorem PZ:((Rows.unseenUptoRow.knobs==[]))=true:=by kernel_rfl
theorem O0:((Tryz.pinned.checked.prog.stopKnobs==[]))=true:=by kernel_rfl
theorem RR:((Rows.unseenUptoRow.inPlace==Tryz.pinned.checked.prog.inPlace 12))=true:=by kernel_rfl
theorem RS:((Rows.unseenUptoRow.unfollowed==Tryz.pinned.checked.prog.unfollowed 12))=true:=by kernel_rfl
theorem RT:((Rows.unseenUptoRow.recurses==Tryz.pinned.checked.prog.recurses 12))=true:=by kernel_rfl
theorem RU:((Rows.unseenUptoRow.named==Tryz.pinned.checked.prog.varsNamed 12))=true:=by kernel_rfl
theorem RV:((Rows.unseenUptoRow.maps==(Tryz.f12.params.toList++(Rows.OpenSpec.upto Rows.unseenSpec).bare.plain.varTypes Tryz.pinned.checked.prog).any (Tryz.pinned.checked.prog.mapsRec ·)))=true:=by kernel_rfl
theorem RW:((Rows.unseenUptoRow.ifaces==(Tryz.f12.params.toList++(Rows.OpenSpec.upto Rows.unseenSpec).bare.plain.varTypes Tryz.pinned.checked.prog).any (Tryz.pinned.checked.prog.ifacesRec ·)))=true:=by kernel_rfl
theorem RX:((Rows.unseenUptoRow.mapsOut==Tryz.pinned.checked.prog.mapsAmong Tryz.f12.resultTypes.toList))=true:=by kernel_rfl
theorem RY:((Rows.unseenUptoRow.loops==(Tryz.f12.params.toList++(Rows.OpenSpec.upto Rows.unseenSpec).bare.plain.varTypes Tryz.pinned.checked.prog).any (Tryz.pinned.checked.prog.loopsFrom ·)))=true:=by kernel_rfl
theorem RZ:((Rows.unseenUptoRow.wideKeys==(Tryz.f12.params.toList++(Rows.OpenSpec.upto Rows.unseenSpec).bare.plain.varTypes Tryz.pinned.checked.prog++Tryz.f12.resultTypes.toList).any (Tryz.pinned.checked.prog.wideKeysFrom ·)))=true:=by kernel_rfl
theorem Q0:((Rows.OpenSpec.upto Rows.unseenSpec).bare.vars.all (Tryz.pinned.checked.prog.varReadable ·))=true:=by kernel_rfl
theorem Q3:(Tryz.f12.resultTypes.all (fun t=>Tryz.pinned.checked.prog.readableRec t&&decide (t<Tryz.pinned.checked.prog.types.size)))=true:=by kernel_rfl
theorem Q4:((Rows.unseenUptoRow.ifacesOut==Tryz.f12.resultTypes.toList.any (Tryz.pinned.checked.prog.ifacesRec ·)))=true:=by kernel_rfl
theorem Q5:((Rows.unseenUptoRow.loopsOut==Tryz.f12.resultTypes.toList.any (Tryz.pinned.checked.prog.loopsFrom ·)))=true:=by kernel_rfl
theorem Q6:((Rows.unseenUptoRow.plainKeys==Tryz.pinned.checked.prog.plainKeys))=true:=by kernel_rfl
theorem Q7:(Rows.unseenUptoRow.shortTexts.isNone)=true:=by kernel_rfl
theorem Q8:(Tryz.pinned.checked.prog.stopsHeard)=true:=by kernel_rfl
theorem Q9:(Tryz.pinned.checked.prog.mayEnter)=true:=by kernel_rfl
theorem Qa:((Rows.unseenUptoRow.lifted==Tryz.pinned.checked.prog.liftsFinal))=true:=by kernel_rfl
theorem Qb:((Tryz.pinned.checked.prog.make==some Rows.unseenUptoRow.make))=true:=by kernel_rfl
theorem Qc:((Rows.unseenUptoRow.kinds==(if Rows.unseenUptoRow.domain.isEmpty then [] else Tryz.f12.params.toList.map fun t=>match Tryz.pinned.checked.prog.underlying t with|some (.int k)=>some k|_=>none)))=true:=by kernel_rfl
theorem Qd:((Rows.unseenUptoRow.pinned==Rows.unseenUptoRow.pinnedBy))=true:=by kernel_rfl
theorem Qe:((Rows.unseenUptoRow.veiled==(Tryz.f12.params.toList++(Rows.OpenSpec.upto Rows.unseenSpec).bare.plain.varTypes Tryz.pinned.checked.prog++Tryz.f12.resultTypes.toList).any (Tryz.pinned.checked.prog.veiledRec ·)))=true:=by kernel_rfl
theorem Qf:(Rows.unseenUptoRow.veiledFits Tryz.pinned.checked.prog Tryz.f12.params.toList (Tryz.f12.params.toList++(Rows.OpenSpec.upto Rows.unseenSpec).bare.plain.varTypes Tryz.pinned.checked.prog++Tryz.f12.resultTypes.toList))=true:=by kernel_rfl
theorem Qg:joinedFacts Tryz.pinned.checked.prog 12 Tryz.f12 (Rows.OpenSpec.upto Rows.unseenSpec).bare Rows.unseenUptoRow=true:=by
 unfold joinedFacts;simp only[Bool.and_eq_true];exact⟨⟨⟨⟨⟨⟨⟨⟨⟨⟨⟨⟨⟨⟨⟨⟨⟨⟨⟨⟨⟨⟨⟨⟨⟨⟨⟨⟨⟨⟨⟨PS,PT⟩,PU⟩,PV⟩,PW⟩,PX⟩,PY⟩,PZ⟩,O0⟩,RR⟩,RS⟩,RT⟩,RU⟩,RV⟩,RW⟩,RX⟩,RY⟩,RZ⟩,Q0⟩,Q3⟩,Q4⟩,Q5⟩,Q6⟩,Q7⟩,Q8⟩,Q9⟩,Qa⟩,Qb⟩,Qc⟩,Qd⟩,Qe⟩,Qf⟩
theorem N8:Tryz.f12.isInstance Tryz.pinned.checked.prog Rows.unseenUptoRow.origin Rows.unseenUptoRow.targs:=of_decide_eq_true (by kernel_rfl)
theorem Na:Tryz.f12.isWrapper Tryz.pinned.checked.prog Rows.unseenUptoRow.wrapper Rows.unseenUptoRow.mainSum:=by
 unfold Func.isWrapper
 first|(rw[if_pos (by decide +kernel)];kernel_rfl)|(rw[if_neg (by decide +kernel)];exact⟨rfl,rfl⟩)
end Go.Proofs.YtkhnggkkiefcdaaGreatDoor
