/-
  larderlaw.Writes: the row's closed facts, each a theorem of its own.
-/
import Derived.Test.YtkhnggkkiefcdaaGreatDoorCards
import Derived.Test.YtkhnggkkiefcdaaGreatDoorTie
import Derived.ProofKit
import Derived.OpenShut
import Derived.Deep.DeepHandedRow
import Derived.WalkKit
import Derived.Carry
import Derived.Lay
import Derived.LaidHandle
import Derived.Deep.DeepWitnessRowRef
namespace Go.Proofs.YtkhnggkkiefcdaaGreatDoor
open Go.ChangeShapes Go.WideShapes Go.ChangeAt Go.RowKit
set_option maxRecDepth 100000
theorem writes_fn : Tryz.pinned.checked.prog.funcNamed Rows.writesUptoRow.func = some 3 := by kernel_rfl
theorem writes_fact1 : (Rows.writesUptoRow.wf (OpenSpec.ofChange (Rows.OpenSpec.upto Rows.writesSpec).bare)) = true := by kernel_rfl
theorem writes_fact2 : (laidOutB Tryz.pinned.checked.prog) = true := by kernel_rfl
theorem writes_fact3 : (mapsRowed Tryz.pinned.checked.prog) = true := by kernel_rfl
theorem writes_fact4 : (Tryz.f3.params.all (Tryz.pinned.checked.prog.readableRec ·)) = true := by kernel_rfl
theorem writes_fact5 : (namedTie Tryz.pinned.checked.prog Rows.writesUptoRow.named (Rows.OpenSpec.upto Rows.writesSpec).bare.vars) = true := by kernel_rfl
theorem writes_fact6 : ((Rows.writesUptoRow.stops == [])) = true := by kernel_rfl
theorem writes_fact7 : ((Tryz.pinned.checked.prog.stops == [])) = true := by kernel_rfl
theorem writes_fact8 : ((Rows.writesUptoRow.knobs == [])) = true := by kernel_rfl
theorem writes_fact9 : ((Tryz.pinned.checked.prog.stopKnobs == [])) = true := by kernel_rfl
theorem writes_fact10 : ((Rows.writesUptoRow.inPlace == Tryz.pinned.checked.prog.inPlace 3)) = true := by kernel_rfl
theorem writes_fact11 : ((Rows.writesUptoRow.unfollowed == Tryz.pinned.checked.prog.unfollowed 3)) = true := by kernel_rfl
theorem writes_fact12 : ((Rows.writesUptoRow.recurses == Tryz.pinned.checked.prog.recurses 3)) = true := by kernel_rfl
theorem writes_fact13 : ((Rows.writesUptoRow.named == Tryz.pinned.checked.prog.varsNamed 3)) = true := by kernel_rfl
theorem writes_fact14 : ((Rows.writesUptoRow.maps == (Tryz.f3.params.toList ++ (Rows.OpenSpec.upto Rows.writesSpec).bare.plain.varTypes Tryz.pinned.checked.prog).any (Tryz.pinned.checked.prog.mapsRec ·))) = true := by kernel_rfl
theorem writes_fact15 : ((Rows.writesUptoRow.ifaces == (Tryz.f3.params.toList ++ (Rows.OpenSpec.upto Rows.writesSpec).bare.plain.varTypes Tryz.pinned.checked.prog).any (Tryz.pinned.checked.prog.ifacesRec ·))) = true := by kernel_rfl
theorem writes_fact16 : ((Rows.writesUptoRow.mapsOut == Tryz.pinned.checked.prog.mapsAmong Tryz.f3.resultTypes.toList)) = true := by kernel_rfl
theorem writes_fact17 : ((Rows.writesUptoRow.loops == (Tryz.f3.params.toList ++ (Rows.OpenSpec.upto Rows.writesSpec).bare.plain.varTypes Tryz.pinned.checked.prog).any (Tryz.pinned.checked.prog.loopsFrom ·))) = true := by kernel_rfl
theorem writes_fact18 : ((Rows.writesUptoRow.wideKeys == (Tryz.f3.params.toList ++ (Rows.OpenSpec.upto Rows.writesSpec).bare.plain.varTypes Tryz.pinned.checked.prog ++ Tryz.f3.resultTypes.toList).any (Tryz.pinned.checked.prog.wideKeysFrom ·))) = true := by kernel_rfl
theorem writes_fact19 : ((Rows.OpenSpec.upto Rows.writesSpec).bare.vars.all (Tryz.pinned.checked.prog.varReadable ·)) = true := by kernel_rfl
theorem writes_fact20 : (Tryz.f3.resultTypes.all (fun t => Tryz.pinned.checked.prog.readableRec t && decide (t < Tryz.pinned.checked.prog.types.size))) = true := by kernel_rfl
theorem writes_fact21 : ((Rows.writesUptoRow.ifacesOut == Tryz.f3.resultTypes.toList.any (Tryz.pinned.checked.prog.ifacesRec ·))) = true := by kernel_rfl
theorem writes_fact22 : ((Rows.writesUptoRow.loopsOut == Tryz.f3.resultTypes.toList.any (Tryz.pinned.checked.prog.loopsFrom ·))) = true := by kernel_rfl
theorem writes_fact23 : ((Rows.writesUptoRow.plainKeys == Tryz.pinned.checked.prog.plainKeys)) = true := by kernel_rfl
theorem writes_fact24 : (Rows.writesUptoRow.shortTexts.isNone) = true := by kernel_rfl
theorem writes_fact25 : (Tryz.pinned.checked.prog.stopsHeard) = true := by kernel_rfl
theorem writes_fact26 : (Tryz.pinned.checked.prog.mayEnter) = true := by kernel_rfl
theorem writes_fact27 : ((Rows.writesUptoRow.lifted == Tryz.pinned.checked.prog.liftsFinal)) = true := by kernel_rfl
theorem writes_fact28 : ((Tryz.pinned.checked.prog.make == some Rows.writesUptoRow.make)) = true := by kernel_rfl
theorem writes_fact29 : ((Rows.writesUptoRow.kinds == (if Rows.writesUptoRow.domain.isEmpty then [] else Tryz.f3.params.toList.map fun t => match Tryz.pinned.checked.prog.underlying t with | some (.int k) => some k | _ => none))) = true := by kernel_rfl
theorem writes_fact30 : ((Rows.writesUptoRow.pinned == Rows.writesUptoRow.pinnedBy)) = true := by kernel_rfl
theorem writes_fact31 : ((Rows.writesUptoRow.veiled == (Tryz.f3.params.toList ++ (Rows.OpenSpec.upto Rows.writesSpec).bare.plain.varTypes Tryz.pinned.checked.prog ++ Tryz.f3.resultTypes.toList).any (Tryz.pinned.checked.prog.veiledRec ·))) = true := by kernel_rfl
theorem writes_fact32 : (Rows.writesUptoRow.veiledFits Tryz.pinned.checked.prog Tryz.f3.params.toList (Tryz.f3.params.toList ++ (Rows.OpenSpec.upto Rows.writesSpec).bare.plain.varTypes Tryz.pinned.checked.prog ++ Tryz.f3.resultTypes.toList)) = true := by kernel_rfl
theorem writes_closed : joinedFacts Tryz.pinned.checked.prog 3 Tryz.f3 (Rows.OpenSpec.upto Rows.writesSpec).bare Rows.writesUptoRow = true := by
  unfold joinedFacts
  simp only [Bool.and_eq_true]
  exact ⟨⟨⟨⟨⟨⟨⟨⟨⟨⟨⟨⟨⟨⟨⟨⟨⟨⟨⟨⟨⟨⟨⟨⟨⟨⟨⟨⟨⟨⟨⟨writes_fact1, writes_fact2⟩, writes_fact3⟩, writes_fact4⟩, writes_fact5⟩, writes_fact6⟩, writes_fact7⟩, writes_fact8⟩, writes_fact9⟩, writes_fact10⟩, writes_fact11⟩, writes_fact12⟩, writes_fact13⟩, writes_fact14⟩, writes_fact15⟩, writes_fact16⟩, writes_fact17⟩, writes_fact18⟩, writes_fact19⟩, writes_fact20⟩, writes_fact21⟩, writes_fact22⟩, writes_fact23⟩, writes_fact24⟩, writes_fact25⟩, writes_fact26⟩, writes_fact27⟩, writes_fact28⟩, writes_fact29⟩, writes_fact30⟩, writes_fact31⟩, writes_fact32⟩
theorem writes_inst : Tryz.f3.isInstance Tryz.pinned.checked.prog Rows.writesUptoRow.origin Rows.writesUptoRow.targs := of_decide_eq_true (by kernel_rfl)
theorem writes_wrap : Tryz.f3.isWrapper Tryz.pinned.checked.prog Rows.writesUptoRow.wrapper Rows.writesUptoRow.mainSum := by
  unfold Func.isWrapper
  first | (rw [if_pos (by decide +kernel)]; kernel_rfl) | (rw [if_neg (by decide +kernel)]; exact ⟨rfl, rfl⟩)
end Go.Proofs.YtkhnggkkiefcdaaGreatDoor
