/- larder: joined texts -/
import Derived.Test.YtkhnggkkiefcdaaGreatDoorCards
import Derived.Test.YtkhnggkkiefcdaaGreatDoorTie
import Derived.ProofKit
import Derived.OpenShut
import Derived.Deep.DeepHandedRow
namespace Go.Proofs.YtkhnggkkiefcdaaGreatDoor
open Go.ChangeShapes Go.WideShapes Go.ChangeAt Go.RowKit
set_option maxRecDepth 100000
theorem CK:Tryz.pinned.checked.prog.funcNamed Rows.allUptoRow.func=some 7:=by kernel_rfl
theorem Fl:(Rows.allUptoRow.wf (OpenSpec.ofChange (Rows.OpenSpec.upto Rows.allSpec).bare))=true:=by kernel_rfl
theorem Fm:(laidOutB Tryz.pinned.checked.prog)=true:=by kernel_rfl
theorem Fo:(mapsRowed Tryz.pinned.checked.prog)=true:=by kernel_rfl
theorem Fp:(Tryz.f7.params.all (Tryz.pinned.checked.prog.readableRec ·))=true:=by kernel_rfl
theorem Fq:(namedTie Tryz.pinned.checked.prog Rows.allUptoRow.named (Rows.OpenSpec.upto Rows.allSpec).bare.vars)=true:=by kernel_rfl
theorem Fs:((Rows.allUptoRow.stops==[]))=true:=by kernel_rfl
theorem Ft:((Tryz.pinned.checked.prog.stops==[]))=true:=by kernel_rfl
theorem Fu:((Rows.allUptoRow.knobs==[]))=true:=by kernel_rfl
theorem Fv:((Tryz.pinned.checked.prog.stopKnobs==[]))=true:=by kernel_rfl
theorem JO:((Rows.allUptoRow.inPlace==Tryz.pinned.checked.prog.inPlace 7))=true:=by kernel_rfl
theorem JP:((Rows.allUptoRow.unfollowed==Tryz.pinned.checked.prog.unfollowed 7))=true:=by kernel_rfl
theorem JQ:((Rows.allUptoRow.recurses==Tryz.pinned.checked.prog.recurses 7))=true:=by kernel_rfl
theorem JR:((Rows.allUptoRow.named==Tryz.pinned.checked.prog.varsNamed 7))=true:=by kernel_rfl
theorem JS:((Rows.allUptoRow.maps==(Tryz.f7.params.toList++(Rows.OpenSpec.upto Rows.allSpec).bare.plain.varTypes Tryz.pinned.checked.prog).any (Tryz.pinned.checked.prog.mapsRec ·)))=true:=by kernel_rfl
theorem JT:((Rows.allUptoRow.ifaces==(Tryz.f7.params.toList++(Rows.OpenSpec.upto Rows.allSpec).bare.plain.varTypes Tryz.pinned.checked.prog).any (Tryz.pinned.checked.prog.ifacesRec ·)))=true:=by kernel_rfl
theorem JU:((Rows.allUptoRow.mapsOut==Tryz.pinned.checked.prog.mapsAmong Tryz.f7.resultTypes.toList))=true:=by kernel_rfl
theorem JV:((Rows.allUptoRow.loops==(Tryz.f7.params.toList++(Rows.OpenSpec.upto Rows.allSpec).bare.plain.varTypes Tryz.pinned.checked.prog).any (Tryz.pinned.checked.prog.loopsFrom ·)))=true:=by kernel_rfl
theorem JW:((Rows.allUptoRow.wideKeys==(Tryz.f7.params.toList++(Rows.OpenSpec.upto Rows.allSpec).bare.plain.varTypes Tryz.pinned.checked.prog++Tryz.f7.resultTypes.toList).any (Tryz.pinned.checked.prog.wideKeysFrom ·)))=true:=by kernel_rfl
theorem JX:((Rows.OpenSpec.upto Rows.allSpec).bare.vars.all (Tryz.pinned.checked.prog.varReadable ·))=true:=by kernel_rfl
theorem JY:(Tryz.f7.resultTypes.all (fun t=>Tryz.pinned.checked.prog.readableRec t&&decide (t<Tryz.pinned.checked.prog.types.size)))=true:=by kernel_rfl
theorem JZ:((Rows.allUptoRow.ifacesOut==Tryz.f7.resultTypes.toList.any (Tryz.pinned.checked.prog.ifacesRec ·)))=true:=by kernel_rfl
theorem I0:((Rows.allUptoRow.loopsOut==Tryz.f7.resultTypes.toList.any (Tryz.pinned.checked.prog.loopsFrom ·)))=true:=by kernel_rfl
theorem I1:((Rows.allUptoRow.plainKeys==Tryz.pinned.checked.prog.plainKeys))=true:=by kernel_rfl
theorem I2:(Rows.allUptoRow.shortTexts.isNone)=true:=by kernel_rfl
theorem I3:(Tryz.pinned.checked.prog.stopsHeard)=true:=by kernel_rfl
theorem I4:(Tryz.pinned.checked.prog.mayEnter)=true:=by kernel_rfl
theorem I5:((Rows.allUptoRow.lifted==Tryz.pinned.checked.prog.liftsFinal))=true:=by kernel_rfl
theorem I6:((Tryz.pinned.checked.prog.make==some Rows.allUptoRow.make))=true:=by kernel_rfl
theorem I7:((Rows.allUptoRow.kinds==(if Rows.allUptoRow.domain.isEmpty then [] else Tryz.f7.params.toList.map fun t=>match Tryz.pinned.checked.prog.underlying t with|some (.int k)=>some k|_=>none)))=true:=by kernel_rfl
theorem I8:((Rows.allUptoRow.pinned==Rows.allUptoRow.pinnedBy))=true:=by kernel_rfl
theorem I9:((Rows.allUptoRow.veiled==(Tryz.f7.params.toList++(Rows.OpenSpec.upto Rows.allSpec).bare.plain.varTypes Tryz.pinned.checked.prog++Tryz.f7.resultTypes.toList).any (Tryz.pinned.checked.prog.veiledRec ·)))=true:=by kernel_rfl
theorem Ia:(Rows.allUptoRow.veiledFits Tryz.pinned.checked.prog Tryz.f7.params.toList (Tryz.f7.params.toList++(Rows.OpenSpec.upto Rows.allSpec).bare.plain.varTypes Tryz.pinned.checked.prog++Tryz.f7.resultTypes.toList))=true:=by kernel_rfl
theorem Ib:joinedFacts Tryz.pinned.checked.prog 7 Tryz.f7 (Rows.OpenSpec.upto Rows.allSpec).bare Rows.allUptoRow=true:=by
 unfold joinedFacts;simp only[Bool.and_eq_true];exact⟨⟨⟨⟨⟨⟨⟨⟨⟨⟨⟨⟨⟨⟨⟨⟨⟨⟨⟨⟨⟨⟨⟨⟨⟨⟨⟨⟨⟨⟨⟨Fl,Fm⟩,Fo⟩,Fp⟩,Fq⟩,Fs⟩,Ft⟩,Fu⟩,Fv⟩,JO⟩,JP⟩,JQ⟩,JR⟩,JS⟩,JT⟩,JU⟩,JV⟩,JW⟩,JX⟩,JY⟩,JZ⟩,I0⟩,I1⟩,I2⟩,I3⟩,I4⟩,I5⟩,I6⟩,I7⟩,I8⟩,I9⟩,Ia⟩
theorem Ew:Tryz.f7.isInstance Tryz.pinned.checked.prog Rows.allUptoRow.origin Rows.allUptoRow.targs:=of_decide_eq_true (by kernel_rfl)
theorem Ex:Tryz.f7.isWrapper Tryz.pinned.checked.prog Rows.allUptoRow.wrapper Rows.allUptoRow.mainSum:=by
 unfold Func.isWrapper
 first|(rw[if_pos (by decide +kernel)];kernel_rfl)|(rw[if_neg (by decide +kernel)];exact⟨rfl,rfl⟩)
end Go.Proofs.YtkhnggkkiefcdaaGreatDoor
