/-
  Package disk: Rename.
-/
import Derived.Test.YtkhnggkkiefcdaaDiskH
namespace Go.Proofs.Ytkhnggkkiefcdaa
open Go.RowKit

/-- Of the first k entries those that are not entry i and have not this name. -/
def renK (d : Dir) (i : Nat) (name : ByteArray) (k : Nat) : Dir :=
  (List.range k).flatMap fun j => match d[j]? with
    | some e => if j ≠ i ∧ (e.1 == name) = false then [e] else []
    | none => []

theorem renK_succ (d : Dir) (i : Nat) (name : ByteArray) (k : Nat) (h : k < d.length) :
    renK d i name (k + 1) = renK d i name k ++ (if k ≠ i ∧ (d[k].1 == name) = false then [d[k]] else []) := by
  unfold renK
  rw [List.range_succ, List.flatMap_append]
  simp [h]

theorem renK_le (d : Dir) (i : Nat) (name : ByteArray) : ∀ k, (renK d i name k).length ≤ k := by
  intro k
  induction k with
  | zero => simp [renK]
  | succ k ih =>
    unfold renK at ih ⊢
    rw [List.range_succ, List.flatMap_append, List.length_append]
    have : (List.flatMap (fun j => match d[j]? with
      | some e => if j ≠ i ∧ (e.1 == name) = false then [e] else []
      | none => []) [k]).length ≤ 1 := by
      simp only [List.flatMap_cons, List.flatMap_nil, List.append_nil]
      cases d[k]? with
      | none => simp
      | some e => dsimp only; split <;> simp
    omega

theorem renK_mem (d : Dir) (i : Nat) (name : ByteArray) (k : Nat) (e : ByteArray × Nat) (h : e ∈ renK d i name k) : e ∈ d := by
  unfold renK at h
  simp only [List.mem_flatMap, List.mem_range] at h
  obtain ⟨j, _, hj⟩ := h
  cases hd : d[j]? with
  | none => rw [hd] at hj; cases hj
  | some x =>
    rw [hd] at hj
    dsimp only at hj
    split at hj
    · simp at hj; subst hj; exact List.mem_of_getElem? hd
    · cases hj

/-- Entry i under another name, behind the others but those that had that name. -/
def Dir.renamed (d : Dir) (i : Nat) (name : ByteArray) : Dir := renK d i name d.length ++ (match d[i]? with | some e => [(name, e.2)] | none => [])

def DM.rename (M : DM) (old name : ByteArray) : Int × DM :=
  match M.dir.idx old with
  | none => (11, M)
  | some i => if name = ByteArray.empty then (11, M) else
    (M.begins.2.1, if M.begins.1 = true then M.begins.2.2.turned (M.begins.2.2.dir.renamed i name) else M.begins.2.2)

set_option maxHeartbeats 1600000 in
theorem rename_miss (old name : ByteArray) (w : World) (b : Nat) (L : DL) (M : DM) (h : DRep w b L M) (h1 : findI M.dir old = -1) :
    Calls Try.prog 8 #[.pointer (some ⟨b, 0, none⟩), .string old, .string name] w fun e w' =>
      e = .returned (.int .i64 11) ∧ DStep b L M w L M w' := by
  have hc := h.blk.cell
  simp only [DM.cells] at hc
  have HH := hide h
  have H1 := hide h1
  clear h h1
  go_enter Try.func8, Try.ntmps8
  go_wp2_with (go_at_call 22; refine (find_miss H1.out _ HH.out.dir).mono ?_; rintro e w1 ⟨rfl, hf⟩)
  go_ret
  exact ⟨rfl, DStep.look HH.out hf⟩

set_option maxHeartbeats 1600000 in
theorem rename_empty (old : ByteArray) (w : World) (b : Nat) (L : DL) (M : DM) (h : DRep w b L M) (k : Nat) (_hk : k < M.dir.length) (h1 : findI M.dir old = k) :
    Calls Try.prog 8 #[.pointer (some ⟨b, 0, none⟩), .string old, .string ByteArray.empty] w fun e w' =>
      e = .returned (.int .i64 11) ∧ DStep b L M w L M w' := by
  have hc := h.blk.cell
  simp only [DM.cells] at hc
  have HH := hide h
  have H1 := hide h1
  clear h h1
  go_enter Try.func8, Try.ntmps8
  go_wp2_with (go_at_call 22; refine (find_hit H1.out _ HH.out.dir).mono ?_; rintro e w1 ⟨rfl, hf⟩)
  go_ret
  exact ⟨rfl, DStep.look HH.out hf⟩

set_option maxHeartbeats 1600000 in
theorem rename_not (old name : ByteArray) (w : World) (b : Nat) (L : DL) (M : DM) (h : DRep w b L M) (k : Nat) (_hk : k < M.dir.length) (h1 : findI M.dir old = k) (he : ¬ name = ByteArray.empty) (hd : M.begins.1 = false) :
    Calls Try.prog 8 #[.pointer (some ⟨b, 0, none⟩), .string old, .string name] w fun e w' =>
      e = .returned (.int .i64 M.begins.2.1) ∧ DStep b L M w L M.begins.2.2 w' := by
  have hc := h.blk.cell
  simp only [DM.cells] at hc
  have HH := hide h
  have H1 := hide h1
  have HD := hide hd
  have he' := not_empty he
  clear h h1 hd he
  go_enter Try.func8, Try.ntmps8
  go_wp2_with fail
  refine (find_hit H1.out _ HH.out.dir).mono ?_
  rintro e w1 ⟨rfl, hf⟩
  go_wp2_with fail
  have HB := begins_step w1 b L M (HH.out.fr hf (fun _ _ => id))
  rw [HD.out] at HB
  refine HB.mono ?_
  rintro e w2 ⟨rfl, hs⟩
  go_wp2
  go_ret
  exact ⟨rfl, (DStep.look HH.out hf).trans hs⟩

set_option maxHeartbeats 3200000 in
theorem rename_does (old name : ByteArray) (w : World) (b : Nat) (L : DL) (M : DM) (h : DRep w b L M) (i : Nat) (hi : i < M.dir.length) (h1 : findI M.dir old = i) (he : ¬ name = ByteArray.empty) (hd : M.begins.1 = true)
    (hn : M.chs.length + 1 ≤ 1000000000000) (hm : M.dir.length + 1 ≤ 1000000000000) :
    Calls Try.prog 8 #[.pointer (some ⟨b, 0, none⟩), .string old, .string name] w fun e w' =>
      e = .returned (.int .i64 M.begins.2.1) ∧ ∃ L', DStep b L M w L' (M.begins.2.2.turned (M.begins.2.2.dir.renamed i name)) w' := by
  have hc := h.blk.cell
  have hlen := own_le h.dir
  unfold maxLen at hlen
  simp only [DM.cells] at hc
  have HH := hide h
  have H1 := hide h1
  have HD := hide hd
  have he' := not_empty he
  clear h h1 hd he
  go_enter Try.func8, Try.ntmps8
  go_wp2_with fail
  refine (find_hit H1.out _ HH.out.dir).mono ?_
  rintro e w1 ⟨rfl, hf⟩
  go_wp2_with fail
  have HB := begins_step w1 b L M (HH.out.fr hf (fun _ _ => id))
  rw [HD.out] at HB
  refine HB.mono ?_
  rintro e w2 ⟨rfl, hs⟩
  clear hc HB
  have hkk := M.begins_keeps
  have hl1 : M.begins.2.2.dir.length + 1 ≤ 1000000000000 := by rw [hkk.1]; exact hm
  have hl2 : M.begins.2.2.chs.length + 1 ≤ 1000000000000 := by rw [hkk.2.2.1]; exact hn
  have hl3 : i < M.begins.2.2.dir.length := by rw [hkk.1]; exact hi
  clear hkk
  have hc := hs.rep.blk.cell
  simp only [DM.cells] at hc
  obtain ⟨g, cap, hv, hcap, hcm⟩ := own_some hs.rep.dir (by omega)
  unfold maxLen at hcm
  rw [hv] at hc
  have HS := hide hs
  have HV := hide hv
  have hlt := hs.rep.blk.lt
  clear hs hv
  generalize hM1 : M.begins.2.2 = M1 at *
  go_wp2_with fail
  clear hc
  go_loopw [10, 35] (fun l c w' => ∃ k : Nat, k ≤ M1.dir.length ∧ c = .int .i64 k ∧ w'.ownsRow 0 50 2 l (renK M1.dir i name k).length (flat (renK M1.dir i name k)) ∧ Fr Nil w2 w' ∧ (∀ j, l.ownBlock = some j → w2.heap.size ≤ j)) (fun _ c _ => M1.dir.length - (intOf c).toNat)
  case atStart => exact ⟨0, Nat.zero_le _, rfl, World.ownsRow_nil _ _ _ _, Fr.refl _ _, fun j hj => by simp [Value.ownBlock] at hj⟩
  case round =>
    obtain ⟨k, hk, rfl, hown, hfr, hnew⟩ := hrel
    have hr := HS.out.rep.fr hfr (fun _ _ => id)
    have hc := hr.blk.cell
    simp only [DM.cells] at hc
    rw [HV.out] at hc
    have HR := hide hr
    have HN := hide hnew
    have HO := hide hown
    have hln := renK_le M1.dir i name k
    obtain ⟨la, lc, hlv⟩ := own_form hown
    clear hr hnew hown
    subst hlv
    by_cases hlt' : k < M1.dir.length
    · have hsucc := hide (renK_succ M1.dir i name k hlt')
      have hrow := HR.out.dir
      rw [HV.out] at hrow
      have hp1 := own_cell? hrow _ _ (flat_get M1.dir k hlt').1
      have hp2 := own_cell? hrow _ _ (flat_get M1.dir k hlt').2
      have hgl := World.block_lt_of_cell? _ _ hp1
      clear hrow
      by_cases hki : k = i
      · have e1 : ((k : Int) != i) = false := by simp [hki]
        have HK := hide hki
        clear hki
        go_wp2
        have e3 : renK M1.dir i name (k + 1) = renK M1.dir i name k := by rw [hsucc.out, if_neg (fun h => h.1 HK.out)]; simp
        exact ⟨⟨k + 1, by omega, by go_num, by rw [e3]; exact HO.out, hfr, HN.out⟩, by simp [intOf]; omega⟩
      · have e1 : ((k : Int) != i) = true := by rw [bne_iff_ne]; omega
        have hbq := beq_toListBytes M1.dir[k].1 name
        cases hm2 : (M1.dir[k].1 == name) with
        | true =>
          have e2 : (M1.dir[k].1.toList == name.toList) = true := by rw [← hbq]; exact hm2
          have HM2 := hide hm2
          clear hbq hm2
          go_wp2
          have e3 : renK M1.dir i name (k + 1) = renK M1.dir i name k := by rw [hsucc.out, if_neg (fun h => by rw [HM2.out] at h; exact Bool.noConfusion h.2)]; simp
          exact ⟨⟨k + 1, by omega, by go_num, by rw [e3]; exact HO.out, hfr, HN.out⟩, by simp [intOf]; omega⟩
        | false =>
          have e2 : (M1.dir[k].1.toList == name.toList) = false := by rw [← hbq]; exact hm2
          have HM2 := hide hm2
          clear hbq hm2
          go_wp2_with (at_builtin; go_must (refine wpList_app rfl _ _ _ _ rfl _ _ (by rfl) (by rfl) (run_app_slice 42 _ 50 2 24 Try.underlying42 info_entry (by decide) _ _ _ (HO.out.alloc _)
            ⟨wr.heap.size, 0, none⟩ 1 1 [.string M1.dir[k].1, .pointer (some ⟨M1.dir[k].2, 0, none⟩)] rfl (cell_new2 _ _ _ _ _ rfl) (by intro u hu; simp at hu; rcases hu with rfl | rfl <;> rfl) (by unfold maxLen; omega) (by omega)) ?_))
          intro v2 w4 ha2
          have HA2 := hide ha2
          clear ha2
          go_wp2
          have e3 : renK M1.dir i name (k + 1) = renK M1.dir i name k ++ [M1.dir[k]] := by rw [hsucc.out, if_pos ⟨hki, HM2.out⟩]
          have e4 : (renK M1.dir i name (k + 1)).length = (renK M1.dir i name k).length + 1 := by rw [e3]; simp
          have e5 : flat (renK M1.dir i name (k + 1)) = flat (renK M1.dir i name k) ++ [.string M1.dir[k].1, .pointer (some ⟨M1.dir[k].2, 0, none⟩)] := by rw [e3, flat_append]; rfl
          refine ⟨⟨k + 1, by omega, by go_num, by rw [e4, e5]; exact HA2.out.own, ?_, ?_⟩, by simp [intOf]; omega⟩
          · exact Fr.trans' (hfr.alloc _) HA2.out.fr (fun j hlt hj => by have := HN.out j hj; omega)
          · intro j hj
            rcases HA2.out.at_ with h | h
            · rw [h] at hj; exact HN.out j hj
            · rw [h] at hj; simp at hj; have := hfr.size; omega
    · have hkl : k = M1.dir.length := by omega
      subst hkl
      have hrow := HR.out.dir
      rw [HV.out] at hrow
      have hpi := own_cell? hrow _ _ (flat_get M1.dir i hl3).2
      clear hrow
      go_wp2_with (at_builtin; go_must (refine wpList_app rfl _ _ _ _ rfl _ _ (by rfl) (by rfl) (run_app_slice 42 _ 50 2 24 Try.underlying42 info_entry (by decide) _ _ _ (HO.out.alloc _)
            ⟨wr.heap.size, 0, none⟩ 1 1 [.string name, .pointer (some ⟨M1.dir[i].2, 0, none⟩)] rfl (cell_new2 _ _ _ _ _ rfl) (by intro u hu; simp at hu; rcases hu with rfl | rfl <;> rfl) (by unfold maxLen; omega) (by omega)) ?_))
      intro v2 w4 ha2
      have hren : M1.dir.renamed i name = renK M1.dir i name M1.dir.length ++ [(name, M1.dir[i].2)] := by simp [Dir.renamed, hl3]
      have hown4 : w4.ownsRow 0 50 2 v2 (M1.dir.renamed i name).length (flat (M1.dir.renamed i name)) := by
        rw [hren, flat_append, List.length_append]
        exact ha2.own
      have hf4 : Fr Nil w2 w4 := Fr.trans' (hfr.alloc _) ha2.fr (fun j hlt hj => by have := HN.out j hj; omega)
      have hv2 : ∀ j, v2.ownBlock = some j → w2.heap.size ≤ j := by
        intro j hj
        rcases ha2.at_ with h | h
        · rw [h] at hj; exact HN.out j hj
        · rw [h] at hj; simp at hj; have := hfr.size; omega
      have hids : ∀ e, e ∈ M1.dir.renamed i name → e.2 ∈ M1.ids := by
        intro e he
        rw [hren, List.mem_append] at he
        rcases he with he | he
        · exact HS.out.rep.inD e (renK_mem _ _ _ _ _ he)
        · simp at he; subst he; exact HS.out.rep.inD M1.dir[i] (List.getElem_mem hl3)
      have HT := hide (turned_calls v2 (M1.dir.renamed i name) w4 b _ _ (HS.out.rep.fr hf4 (fun _ _ => id)) hown4 hids hl2)
      have HF4 := hide hf4
      have HV2 := hide hv2
      have HM1 := hide hM1
      clear ha2 hids hf4 hv2 hc hM1 hren hown4
      go_wp2_with fail
      refine HT.out.mono ?_
      rintro e w5 ⟨rfl, cv, hr5, hf5, hcv⟩
      have hst := turn_after hr5 HF4.out HV2.out hf5 hcv
      go_wp2
      go_ret
      obtain rfl := HM1.out
      exact ⟨rfl, _, (DStep.look HH.out hf).trans (HS.out.trans hst)⟩

theorem rename_calls (old name : ByteArray) (w : World) (b : Nat) (L : DL) (M : DM) (h : DRep w b L M) (hn : M.chs.length + 1 ≤ 1000000000000) (hm : M.dir.length + 1 ≤ 1000000000000) :
    Calls Try.prog 8 #[.pointer (some ⟨b, 0, none⟩), .string old, .string name] w fun e w' =>
      e = .returned (.int .i64 (M.rename old name).1) ∧ ∃ L', DStep b L M w L' (M.rename old name).2 w' := by
  rcases idx_cases M.dir old with ⟨h1, h2⟩ | ⟨k, hk, h1, h2⟩
  · refine (rename_miss old name w b L M h h1).mono fun e w' ⟨h3, h4⟩ => ?_
    simp only [DM.rename, h2]
    exact ⟨h3, L, h4⟩
  · by_cases he : name = ByteArray.empty
    · subst he
      refine (rename_empty old w b L M h k hk h1).mono fun e w' ⟨h3, h4⟩ => ?_
      simp only [DM.rename, h2]
      exact ⟨h3, L, h4⟩
    · cases hd : M.begins.1 with
      | false =>
        refine (rename_not old name w b L M h k hk h1 he hd).mono fun e w' ⟨h3, h4⟩ => ?_
        simp only [DM.rename, h2, hd]
        rw [if_neg he]
        exact ⟨h3, L, h4⟩
      | true =>
        refine (rename_does old name w b L M h k hk h1 he hd hn hm).mono fun e w' ⟨h3, h4⟩ => ?_
        simp only [DM.rename, h2, hd]
        rw [if_neg he]
        exact ⟨h3, h4⟩

end Go.Proofs.Ytkhnggkkiefcdaa
