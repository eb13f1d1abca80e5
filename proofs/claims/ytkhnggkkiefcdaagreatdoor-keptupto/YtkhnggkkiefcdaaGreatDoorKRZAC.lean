/- larder: joined texts -/
import Derived.Test.YtkhnggkkiefcdaaGreatDoorCards
import Derived.Test.YtkhnggkkiefcdaaGreatDoorTie
import Derived.ProofKit
import Derived.OpenShut
import Derived.Deep.DeepHandedRow
namespace Go.Proofs.YtkhnggkkiefcdaaGreatDoor
open Go.ChangeShapes Go.WideShapes Go.ChangeAt Go.RowKit
set_option maxRecDepth 100000
theorem Hi:Tryz.pinned.checked.prog.funcNamed Rows.keptUptoRow.func=some 9:=by kernel_rfl
theorem LW:(Rows.keptUptoRow.wf (OpenSpec.ofChange (Rows.OpenSpec.upto Rows.keptSpec).bare))=true:=by kernel_rfl
theorem LY:(laidOutB Tryz.pinned.checked.prog)=true:=by kernel_rfl
theorem LZ:(mapsRowed Tryz.pinned.checked.prog)=true:=by kernel_rfl
theorem K0:(Tryz.f9.params.all (Tryz.pinned.checked.prog.readableRec ·))=true:=by kernel_rfl
theorem K1:(namedTie Tryz.pinned.checked.prog Rows.keptUptoRow.named (Rows.OpenSpec.upto Rows.keptSpec).bare.vars)=true:=by kernel_rfl
theorem K3:((Rows.keptUptoRow.stops==[]))=true:=by kernel_rfl
theorem K4:((Tryz.pinned.checked.prog.stops==[]))=true:=by kernel_rfl
theorem K5:((Rows.keptUptoRow.knobs==[]))=true:=by kernel_rfl
theorem K6:((Tryz.pinned.checked.prog.stopKnobs==[]))=true:=by kernel_rfl
theorem Nc:((Rows.keptUptoRow.inPlace==Tryz.pinned.checked.prog.inPlace 9))=true:=by kernel_rfl
theorem Nd:((Rows.keptUptoRow.unfollowed==Tryz.pinned.checked.prog.unfollowed 9))=true:=by kernel_rfl
theorem Nf:((Rows.keptUptoRow.recurses==Tryz.pinned.checked.prog.recurses 9))=true:=by kernel_rfl
theorem Ng:((Rows.keptUptoRow.named==Tryz.pinned.checked.prog.varsNamed 9))=true:=by kernel_rfl
theorem Nh:((Rows.keptUptoRow.maps==(Tryz.f9.params.toList++(Rows.OpenSpec.upto Rows.keptSpec).bare.plain.varTypes Tryz.pinned.checked.prog).any (Tryz.pinned.checked.prog.mapsRec ·)))=true:=by kernel_rfl
theorem Ni:((Rows.keptUptoRow.ifaces==(Tryz.f9.params.toList++(Rows.OpenSpec.upto Rows.keptSpec).bare.plain.varTypes Tryz.pinned.checked.prog).any (Tryz.pinned.checked.prog.ifacesRec ·)))=true:=by kernel_rfl
theorem Nj:((Rows.keptUptoRow.mapsOut==Tryz.pinned.checked.prog.mapsAmong Tryz.f9.resultTypes.toList))=true:=by kernel_rfl
theorem Nk:((Rows.keptUptoRow.loops==(Tryz.f9.params.toList++(Rows.OpenSpec.upto Rows.keptSpec).bare.plain.varTypes Tryz.pinned.checked.prog).any (Tryz.pinned.checked.prog.loopsFrom ·)))=true:=by kernel_rfl
theorem Nl:((Rows.keptUptoRow.wideKeys==(Tryz.f9.params.toList++(Rows.OpenSpec.upto Rows.keptSpec).bare.plain.varTypes Tryz.pinned.checked.prog++Tryz.f9.resultTypes.toList).any (Tryz.pinned.checked.prog.wideKeysFrom ·)))=true:=by kernel_rfl
theorem Nm:((Rows.OpenSpec.upto Rows.keptSpec).bare.vars.all (Tryz.pinned.checked.prog.varReadable ·))=true:=by kernel_rfl
theorem Nn:(Tryz.f9.resultTypes.all (fun t=>Tryz.pinned.checked.prog.readableRec t&&decide (t<Tryz.pinned.checked.prog.types.size)))=true:=by kernel_rfl
theorem Np:((Rows.keptUptoRow.ifacesOut==Tryz.f9.resultTypes.toList.any (Tryz.pinned.checked.prog.ifacesRec ·)))=true:=by kernel_rfl
theorem Nq:((Rows.keptUptoRow.loopsOut==Tryz.f9.resultTypes.toList.any (Tryz.pinned.checked.prog.loopsFrom ·)))=true:=by kernel_rfl
theorem Nr:((Rows.keptUptoRow.plainKeys==Tryz.pinned.checked.prog.plainKeys))=true:=by kernel_rfl
theorem Nt:(Rows.keptUptoRow.shortTexts.isNone)=true:=by kernel_rfl
theorem Nu:(Tryz.pinned.checked.prog.stopsHeard)=true:=by kernel_rfl
theorem Nv:(Tryz.pinned.checked.prog.mayEnter)=true:=by kernel_rfl
theorem Nw:((Rows.keptUptoRow.lifted==Tryz.pinned.checked.prog.liftsFinal))=true:=by kernel_rfl
theorem Nx:((Tryz.pinned.checked.prog.make==some Rows.keptUptoRow.make))=true:=by kernel_rfl
theorem Ny:((Rows.keptUptoRow.kinds==(if Rows.keptUptoRow.domain.isEmpty then [] else Tryz.f9.params.toList.map fun t=>match Tryz.pinned.checked.prog.underlying t with|some (.int k)=>some k|_=>none)))=true:=by kernel_rfl
theorem Nz:((Rows.keptUptoRow.pinned==Rows.keptUptoRow.pinnedBy))=true:=by kernel_rfl
theorem NA:((Rows.keptUptoRow.veiled==(Tryz.f9.params.toList++(Rows.OpenSpec.upto Rows.keptSpec).bare.plain.varTypes Tryz.pinned.checked.prog++Tryz.f9.resultTypes.toList).any (Tryz.pinned.checked.prog.veiledRec ·)))=true:=by kernel_rfl
theorem NB:(Rows.keptUptoRow.veiledFits Tryz.pinned.checked.prog Tryz.f9.params.toList (Tryz.f9.params.toList++(Rows.OpenSpec.upto Rows.keptSpec).bare.plain.varTypes Tryz.pinned.checked.prog++Tryz.f9.resultTypes.toList))=true:=by kernel_rfl
theorem NC:joinedFacts Tryz.pinned.checked.prog 9 Tryz.f9 (Rows.OpenSpec.upto Rows.keptSpec).bare Rows.keptUptoRow=true:=by
 unfold joinedFacts;simp only[Bool.and_eq_true];exact⟨⟨⟨⟨⟨⟨⟨⟨⟨⟨⟨⟨⟨⟨⟨⟨⟨⟨⟨⟨⟨⟨⟨⟨⟨⟨⟨⟨⟨⟨⟨LW,LY⟩,LZ⟩,K0⟩,K1⟩,K3⟩,K4⟩,K5⟩,K6⟩,Nc⟩,Nd⟩,Nf⟩,Ng⟩,Nh⟩,Ni⟩,Nj⟩,Nk⟩,Nl⟩,Nm⟩,Nn⟩,Np⟩,Nq⟩,Nr⟩,Nt⟩,Nu⟩,Nv⟩,Nw⟩,Nx⟩,Ny⟩,Nz⟩,NA⟩,NB⟩
theorem JA:Tryz.f9.isInstance Tryz.pinned.checked.prog Rows.keptUptoRow.origin Rows.keptUptoRow.targs:=of_decide_eq_true (by kernel_rfl)
theorem JB:Tryz.f9.isWrapper Tryz.pinned.checked.prog Rows.keptUptoRow.wrapper Rows.keptUptoRow.mainSum:=by
 unfold Func.isWrapper
 first|(rw[if_pos (by decide +kernel)];kernel_rfl)|(rw[if_neg (by decide +kernel)];exact⟨rfl,rfl⟩)
end Go.Proofs.YtkhnggkkiefcdaaGreatDoor
