/-
  Package disk: Create.
-/
import Derived.Test.YtkhnggkkiefcdaaDiskD
namespace Go.Proofs.Ytkhnggkkiefcdaa
open Go.RowKit

theorem flat_one (d : Dir) : ∀ u ∈ flat d, u.oneCell' = true := by
  induction d with
  | nil => intro u hu; cases hu
  | cons e d ih =>
    intro u hu
    simp only [flat, List.flatMap_cons, List.mem_append, List.mem_cons, List.not_mem_nil, or_false] at hu ih
    rcases hu with (rfl | rfl) | hu
    · rfl
    · rfl
    · exact ih u hu

theorem flat_append (d d' : Dir) : flat (d ++ d') = flat d ++ flat d' := by simp [flat]

def DM.addFile (M : DM) (f : Nat) : DM := { M with ids := f :: M.ids, file := fun g => if g = f then ⟨[], 0⟩ else M.file g }
def DL.addFile (L : DL) (f : Nat) : DL := { L with fV := fun g => if g = f then .slice none 0 0 else L.fV g }

theorem DRep.addFile {w : World} {b : Nat} {L : DL} {M : DM} (h : DRep w b L M) {f : Nat} (hf : Blk w f [.slice none 0 0, .int .i64 0] 54) (hn : f ∉ M.ids) :
    DRep w b (L.addFile f) (M.addFile f) := by
  have ne : ∀ g, g ∈ M.ids → g ≠ f := fun g hg e => hn (e ▸ hg)
  exact {
    blk := h.blk
    dir := h.dir
    safe := h.safe
    ch := h.ch
    chl := h.chl
    chs := h.chs
    files := fun g hg => by
      rcases List.mem_cons.1 hg with rfl | hg
      · simpa [DM.addFile, DL.addFile] using hf
      · simpa [DM.addFile, DL.addFile, ne g hg] using h.files g hg
    rows := fun g hg => by
      rcases List.mem_cons.1 hg with rfl | hg
      · simpa [DM.addFile, DL.addFile, u8s] using World.ownsRow_nil w 0 5 1
      · simpa [DM.addFile, DL.addFile, ne g hg] using h.rows g hg
    sep := fun g hg g' hg' e k hk => by
      rcases List.mem_cons.1 hg with rfl | hg
      · simp [DL.addFile, Value.ownBlock] at hk
      · rcases List.mem_cons.1 hg' with rfl | hg'
        · simp [DL.addFile, Value.ownBlock]
        · simp only [DL.addFile, ne g hg, ne g' hg', if_false] at hk ⊢
          exact h.sep g hg g' hg' e k hk
    le := fun g hg => by
      rcases List.mem_cons.1 hg with rfl | hg
      · simp [DM.addFile]
      · simpa [DM.addFile, ne g hg] using h.le g hg
    inD := fun e he => List.mem_cons_of_mem _ (h.inD e he)
    inS := fun e he => List.mem_cons_of_mem _ (h.inS e he)
    inC := fun d hd e he => List.mem_cons_of_mem _ (h.inC d hd e he) }

/-- A file of this name is made, in block f. -/
def DM.create (M : DM) (name : ByteArray) (f : Nat) : Int × DM :=
  if name = ByteArray.empty ∨ (M.dir.look name).isSome = true then (11, M)
  else (M.begins.2.1, if M.begins.1 = true then (M.begins.2.2.addFile f).turned (M.begins.2.2.dir ++ [(name, f)]) else M.begins.2.2)

set_option maxHeartbeats 1600000 in
theorem create_name (name : ByteArray) (w : World) (b : Nat) (L : DL) (M : DM) (h : DRep w b L M) (hn : name = ByteArray.empty ∨ (M.dir.look name).isSome = true) :
    Calls Try.prog 9 #[.pointer (some ⟨b, 0, none⟩), .string name] w fun e w' =>
      e = .returned (.int .i64 11) ∧ Fr Nil w w' := by
  have hc := h.blk.cell
  simp only [DM.cells] at hc
  by_cases he : name = ByteArray.empty
  · subst he
    go_enter Try.func9, Try.ntmps9
    go_wp2
    go_ret
    exact ⟨rfl, Fr.refl _ _⟩
  · have hn' : (M.dir.look name).isSome = true := by rcases hn with h | h; exact absurd h he; exact h
    rcases look_cases M.dir name with ⟨_, h2⟩ | ⟨k, hk, h1, _, _⟩
    · rw [h2] at hn'; cases hn'
    · have HH := hide h
      have H1 := hide h1
      have he' : name.toList.isEmpty = false := by
        cases h' : name.toList.isEmpty with
        | false => rfl
        | true => exact absurd ((toList_nil_iff_emptyBytes name).1 (by simpa using h')) he
      clear hn hn' h h1
      go_enter Try.func9, Try.ntmps9
      go_wp2_with (go_at_call 22; refine (find_hit H1.out _ HH.out.dir).mono ?_; rintro e w1 ⟨rfl, hf⟩)
      go_ret
      exact ⟨rfl, hf⟩

theorem not_empty {name : ByteArray} (he : ¬ name = ByteArray.empty) : name.toList.isEmpty = false := by
  cases h' : name.toList.isEmpty with
  | false => rfl
  | true => exact absurd ((toList_nil_iff_emptyBytes name).1 (by simpa using h')) he

theorem DStep.look {w w' : World} {b : Nat} {L : DL} {M : DM} (h : DRep w b L M) (f : Fr Nil w w') : DStep b L M w L M w' :=
  ⟨h.fr f (fun _ _ => id), f.mono (fun _ _ => False.elim), fun _ hk => .inl hk⟩

theorem Foot.of_addFile {b : Nat} {L : DL} {M : DM} {f k : Nat} (h : Foot b (L.addFile f) (M.addFile f) k) : k = f ∨ Foot b L M k := by
  cases h using Foot.elim with
  | blk => exact .inr .blk
  | dir e => exact .inr (.dir e)
  | safe e => exact .inr (.safe e)
  | ch e => exact .inr (.ch e)
  | chs i h1 e => exact .inr (.chs i h1 e)
  | file e =>
    rcases List.mem_cons.1 e with e | e
    · exact .inl e
    · exact .inr (.file e)
  | row g hg e =>
    by_cases hgf : g = f
    · simp [DL.addFile, hgf, Value.ownBlock] at e
    · simp only [DL.addFile, hgf, if_false] at e
      rcases List.mem_cons.1 hg with hg | hg
      · exact absurd hg hgf
      · exact .inr (.row g hg e)

theorem Foot.of_turned {b : Nat} {L : DL} {M : DM} {v cv : Value} {d : Dir} {k : Nat} (h : Foot b (L.turned v cv) (M.turned d) k) :
    v.ownBlock = some k ∨ cv.ownBlock = some k ∨ Foot b L M k := by
  cases h using Foot.elim with
  | blk => exact .inr (.inr .blk)
  | dir e => exact .inl e
  | safe e => exact .inr (.inr (.safe e))
  | ch e => exact .inr (.inl e)
  | chs i h1 e =>
    simp only [DL.turned, List.getElem_append] at e
    split at e
    · exact .inr (.inr (.chs i _ e))
    · simp at e; exact .inl e
  | file e => exact .inr (.inr (.file e))
  | row g hg e => exact .inr (.inr (.row g hg e))

set_option maxHeartbeats 1600000 in
theorem create_not (name : ByteArray) (w : World) (b : Nat) (L : DL) (M : DM) (h : DRep w b L M) (he : ¬ name = ByteArray.empty) (h1 : findI M.dir name = -1) (hd : M.begins.1 = false) :
    Calls Try.prog 9 #[.pointer (some ⟨b, 0, none⟩), .string name] w fun e w' =>
      e = .returned (.int .i64 M.begins.2.1) ∧ DStep b L M w L M.begins.2.2 w' := by
  have hc := h.blk.cell
  simp only [DM.cells] at hc
  have HH := hide h
  have H1 := hide h1
  have HD := hide hd
  have he' := not_empty he
  clear h h1 hd he
  go_enter Try.func9, Try.ntmps9
  go_wp2_with fail
  refine (find_miss H1.out _ HH.out.dir).mono ?_
  rintro e w1 ⟨rfl, hf⟩
  go_wp2_with fail
  have HB := begins_step w1 b L M (HH.out.fr hf (fun _ _ => id))
  rw [HD.out] at HB
  refine HB.mono ?_
  rintro e w2 ⟨rfl, hs⟩
  go_wp2
  go_ret
  exact ⟨rfl, (DStep.look HH.out hf).trans hs⟩

set_option maxHeartbeats 1600000 in
theorem create_does (name : ByteArray) (w : World) (b : Nat) (L : DL) (M : DM) (h : DRep w b L M) (he : ¬ name = ByteArray.empty) (h1 : findI M.dir name = -1) (hd : M.begins.1 = true)
    (hn : M.chs.length + 1 ≤ 1000000000000) (hm : M.dir.length + 1 ≤ 1000000000000) :
    Calls Try.prog 9 #[.pointer (some ⟨b, 0, none⟩), .string name] w fun e w' =>
      e = .returned (.int .i64 M.begins.2.1) ∧ ∃ f L', w.heap.size ≤ f ∧ f < w'.heap.size ∧ DStep b L M w L' ((M.begins.2.2.addFile f).turned (M.begins.2.2.dir ++ [(name, f)])) w' := by
  have hc := h.blk.cell
  simp only [DM.cells] at hc
  have HH := hide h
  have H1 := hide h1
  have HD := hide hd
  have he' := not_empty he
  clear h h1 hd he
  go_enter Try.func9, Try.ntmps9
  go_wp2_with fail
  refine (find_miss H1.out _ HH.out.dir).mono ?_
  rintro e w1 ⟨rfl, hf⟩
  go_wp2_with fail
  have HB := begins_step w1 b L M (HH.out.fr hf (fun _ _ => id))
  rw [HD.out] at HB
  refine HB.mono ?_
  rintro e w2 ⟨rfl, hs⟩
  clear hc
  have hc := hs.rep.blk.cell
  simp only [DM.cells] at hc
  have hk := M.begins_keeps
  have hlen : M.begins.2.2.dir.length + 1 ≤ 1000000000000 := by rw [hk.1]; exact hm
  have hlen2 : M.begins.2.2.chs.length + 1 ≤ 1000000000000 := by rw [hk.2.2.1]; exact hn
  clear hk
  have HS := hide hs
  clear hs
  go_wp2_with (at_builtin; go_must (refine wpList_app rfl _ _ _ _ rfl _ _ (by rfl) (by rfl) (run_app_from 42 _ 50 2 24 Try.underlying42 info_entry (by decide) _ _ _ (World.ownsRow_nil _ 0 _ _) _ _ _ HS.out.rep.dir (flat_one _) (by unfold maxLen; omega) (by omega)) ?_))
  intro v1 w3 ha
  have HA := hide ha
  obtain ⟨a1, c1, hv1⟩ := own_form ha.own
  have hfa : Fr Nil w2 w3 := ha.fr.mono (fun _ _ h => by simp [Value.ownBlock] at h)
  have hr3 := HS.out.rep.fr hfa (fun _ _ => id)
  have HR3 := hide hr3
  clear ha hr3 hc
  subst hv1
  have hh : b < w3.heap.size := HR3.out.blk.lt
  -- the file's own block, the entry's, then the entry behind the others
  have hrow : ((w3.alloc (.cells #[.slice none 0 0, .int .i64 0] 54)).alloc (.cells #[.string name, .pointer (some ⟨w3.heap.size, 0, none⟩)] 50)).ownsRow 0 50 2
      (.slice a1 M.begins.2.2.dir.length c1) M.begins.2.2.dir.length (flat M.begins.2.2.dir) := (HA.out.own.alloc _).alloc _
  go_wp2_with (at_builtin; go_must (refine wpList_app rfl _ _ _ _ rfl _ _ (by rfl) (by rfl) (run_app_slice 42 _ 50 2 24 Try.underlying42 info_entry (by decide) _ _ _ hrow
    ⟨w3.heap.size + 1, 0, none⟩ 1 1 [.string name, .pointer (some ⟨w3.heap.size, 0, none⟩)] rfl (cell_new2 _ _ _ _ _ (by simp)) (by intro u hu; simp at hu; rcases hu with rfl | rfl <;> rfl) (by unfold maxLen; omega) (by omega)) ?_))
  intro v2 w4 ha2
  have HA2 := hide ha2
  clear ha2 hrow
  have hr4 : DRep w4 b (L.addFile w3.heap.size) (M.begins.2.2.addFile w3.heap.size) := by
    have hn4 : w3.heap.size ∉ M.begins.2.2.ids := fun hi => by
      have := (HR3.out.files _ hi).lt
      omega
    have h0 := (HR3.out.fr ((Fr.refl Nil w3).alloc (.cells #[.slice none 0 0, .int .i64 0] 54)) (fun _ _ => id)).addFile (f := w3.heap.size) (Blk.new w3 [.slice none 0 0, .int .i64 0] _) hn4
    have h1 := h0.fr ((Fr.refl Nil _).alloc (.cells #[.string name, .pointer (some ⟨w3.heap.size, 0, none⟩)] 50)) (fun _ _ => id)
    refine h1.fr HA2.out.fr ?_
    intro k hk he
    have hb1 : k = w2.heap.size := by
      rcases HA.out.at_ with h | h
      · rw [h] at he; simp [Value.ownBlock] at he
      · rw [h] at he; simpa using he.symm
    have hb2 : w2.heap.size < w3.heap.size := by
      have := own_lt HA.out.own (k := k) he
      omega
    rcases hk.of_addFile with h | h
    · omega
    · have := HS.out.rep.lt h
      omega
  have hv2 : ∀ k, v2.ownBlock = some k → w2.heap.size ≤ k := by
    intro k hk
    rcases HA2.out.at_ with h | h
    · rw [h] at hk
      rcases HA.out.at_ with h' | h'
      · rw [h'] at hk; simp [Value.ownBlock] at hk
      · rw [h'] at hk; simp at hk; omega
    · rw [h] at hk
      simp at hk
      have := hfa.size
      omega
  have hf4 : Fr Nil w2 w4 := by
    refine Fr.trans' (Fr.alloc (Fr.alloc hfa _) _) HA2.out.fr ?_
    intro k hk he
    rcases HA.out.at_ with h' | h'
    · rw [h'] at he; simp [Value.ownBlock] at he
    · rw [h'] at he; simp at he; omega
  have hsz4 := HA2.out.fr.size
  simp only [World.size_alloc] at hsz4
  have htl : (M.begins.2.2.dir ++ [(name, w3.heap.size)]).length = M.begins.2.2.dir.length + 1 := by simp
  have hown2 : w4.ownsRow 0 50 2 v2 (M.begins.2.2.dir ++ [(name, w3.heap.size)]).length (flat (M.begins.2.2.dir ++ [(name, w3.heap.size)])) := by
    rw [htl, flat_append]
    exact HA2.out.own
  have hids : ∀ e, e ∈ M.begins.2.2.dir ++ [(name, w3.heap.size)] → e.2 ∈ (M.begins.2.2.addFile w3.heap.size).ids := by
    intro e he
    simp only [List.mem_append, List.mem_singleton] at he
    rcases he with he | rfl
    · exact List.mem_cons_of_mem _ (HS.out.rep.inD e he)
    · exact List.mem_cons_self ..
  have HT := turned_calls v2 (M.begins.2.2.dir ++ [(name, w3.heap.size)]) w4 b _ _ hr4 hown2 hids hlen2
  have HT' := hide HT
  have HR4 := hide hr4
  clear HT hr4 hown2 hids htl
  go_wp2_with fail
  refine HT'.out.mono ?_
  rintro e w5 ⟨rfl, cv, hr5, hf5, hcv⟩
  have HR5 := hide hr5
  have hfoot5 := fun k => Foot.of_turned (b := b) (L := L.addFile w3.heap.size) (M := M.begins.2.2.addFile w3.heap.size) (v := v2) (cv := cv) (d := M.begins.2.2.dir ++ [(name, w3.heap.size)]) (k := k)
  have HF5 := hide hfoot5
  have HC5 := hide hcv
  have HV2 := hide hv2
  clear hr5 hfoot5 hcv hv2
  go_wp2
  go_ret
  have hs2 := HS.out.fr.size
  have hs1 := hf.size
  have hs3 := hfa.size
  have hs5 := hf5.size
  refine ⟨rfl, w3.heap.size, _, by omega, by omega, (DStep.look HH.out hf).trans (HS.out.trans ⟨HR5.out, ?_, ?_⟩)⟩
  · refine Fr.trans' (hf4.mono (fun _ _ => False.elim)) hf5 ?_
    intro k _ hk
    rcases hk with rfl | hk
    · exact .blk
    · exact .ch hk
  · intro k hk
    rcases HF5.out k hk with h | h | h
    · exact .inr (HV2.out k h)
    · rcases HC5.out with h' | ⟨k', h', hle⟩
      · rw [h'] at h; exact .inl (.ch h)
      · rw [h'] at h; simp at h; omega
    · rcases h.of_addFile with h | h
      · omega
      · exact .inl h

end Go.Proofs.Ytkhnggkkiefcdaa
