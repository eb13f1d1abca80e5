/-
  Package disk: Remove, Rename.
-/
import Derived.Test.YtkhnggkkiefcdaaDiskG
namespace Go.Proofs.Ytkhnggkkiefcdaa
open Go.RowKit

def Dir.idx (d : Dir) (name : ByteArray) : Option Nat := d.findIdx? (fun e => e.1 == name)

theorem idx_cases (d : Dir) (name : ByteArray) :
    (findI d name = -1 ∧ Dir.idx d name = none) ∨ ∃ k : Nat, k < d.length ∧ findI d name = k ∧ Dir.idx d name = some k := by
  unfold findI Dir.idx
  cases hf : d.findIdx? (fun e => e.1 == name) with
  | none => exact .inl ⟨rfl, rfl⟩
  | some k =>
    rw [List.findIdx?_eq_some_iff_getElem] at hf
    obtain ⟨hk, _⟩ := hf
    exact .inr ⟨k, hk, rfl, rfl⟩

def DM.remove (M : DM) (name : ByteArray) : Int × DM :=
  match M.dir.idx name with
  | none => (11, M)
  | some k => (M.begins.2.1, if M.begins.1 = true then M.begins.2.2.turned (M.begins.2.2.dir.take k ++ M.begins.2.2.dir.drop (k + 1)) else M.begins.2.2)

theorem flat_take (d : Dir) : ∀ k, flat (d.take k) = (flat d).take (k * 2) := by
  induction d with
  | nil => intro k; simp [flat]
  | cons e d ih =>
    intro k
    cases k with
    | zero => rfl
    | succ k =>
      have e1 : (k + 1) * 2 = k * 2 + 2 := by omega
      have := ih k
      simp only [flat, List.flatMap_cons, List.take_succ_cons, e1] at this ⊢
      rw [this]
      rfl

theorem flat_drop (d : Dir) : ∀ k, flat (d.drop k) = (flat d).drop (k * 2) := by
  induction d with
  | nil => intro k; simp [flat]
  | cons e d ih =>
    intro k
    cases k with
    | zero => rfl
    | succ k =>
      have e1 : (k + 1) * 2 = k * 2 + 2 := by omega
      have := ih k
      simp only [flat, List.flatMap_cons, List.drop_succ_cons, e1] at this ⊢
      rw [this]
      rfl

/-- Elements from place p on, m of them, of a row that lies in block g. -/
theorem own_news {w : World} {e : TypeId} {size g n cap : Nat} {xs : List Value} (h : w.ownsRow 0 e size (.slice (some ⟨g, 0, none⟩) n cap) n xs) (p : Nat) (news : List Value)
    (hn : ∀ j u, news[j]? = some u → xs[p + j]? = some u) : ∀ j u, news[j]? = some u → w.cell? ((⟨g, p, none⟩ : Addr).add j) = some u := by
  intro j u hj
  have hadd : (⟨g, p, none⟩ : Addr).add j = ⟨g, p + j, none⟩ := by unfold Addr.add; split <;> simp_all
  rw [hadd]
  exact own_cell? h _ _ (hn j u hj)

/-- Behind turned. -/
theorem turn_after {w2 w4 w5 : World} {b : Nat} {L : DL} {M : DM} {v cv : Value} {d : Dir} (h5 : DRep w5 b (L.turned v cv) (M.turned d)) (hf4 : Fr Nil w2 w4) (hv : ∀ k, v.ownBlock = some k → w2.heap.size ≤ k)
    (hf5 : Fr (fun k => k = b ∨ L.chV.ownBlock = some k) w4 w5) (hcv : cv.ownBlock = L.chV.ownBlock ∨ ∃ k, cv.ownBlock = some k ∧ w4.heap.size ≤ k) : DStep b L M w2 (L.turned v cv) (M.turned d) w5 where
  rep := h5
  fr := by
    refine Fr.trans' (hf4.mono (fun _ _ => False.elim)) hf5 ?_
    intro k _ hk
    rcases hk with rfl | hk
    · exact .blk
    · exact .ch hk
  foot := by
    intro k hk
    have hs4 := hf4.size
    rcases hk.of_turned with h | h | h
    · exact .inr (hv k h)
    · rcases hcv with h' | ⟨k', h', hle⟩
      · rw [h'] at h; exact .inl (.ch h)
      · rw [h'] at h; simp at h; exact .inr (by omega)
    · exact .inl h

/-- Two appends, one behind the other, onto nil: what was there is as it was. -/
theorem app_two {w w2 w3 w4 : World} {v v2 : Value} {e : TypeId} {size n n2 : Nat} {xs xs2 : List Value} (h1 : App w (.slice none 0 0) e size n xs v w2) (hf : Fr Nil w2 w3) (h2 : App w3 v e size n2 xs2 v2 w4) :
    Fr Nil w w4 ∧ ∀ k, v2.ownBlock = some k → w.heap.size ≤ k := by
  have hk : ∀ k, v.ownBlock = some k → w.heap.size ≤ k := by
    intro k hk
    rcases h1.at_ with h | h
    · rw [h] at hk; simp [Value.ownBlock] at hk
    · rw [h] at hk; simp at hk; omega
  have f1 : Fr Nil w w2 := h1.fr.mono (fun _ _ h => by simp [Value.ownBlock] at h)
  refine ⟨Fr.trans' (f1.trans hf) h2.fr (fun k hlt he => by have := hk k he; omega), ?_⟩
  intro k hk2
  rcases h2.at_ with h | h
  · rw [h] at hk2; exact hk k hk2
  · rw [h] at hk2; simp at hk2
    have := (f1.trans hf).size
    omega

set_option maxHeartbeats 1600000 in
theorem remove_miss (name : ByteArray) (w : World) (b : Nat) (L : DL) (M : DM) (h : DRep w b L M) (h1 : findI M.dir name = -1) :
    Calls Try.prog 10 #[.pointer (some ⟨b, 0, none⟩), .string name] w fun e w' =>
      e = .returned (.int .i64 11) ∧ DStep b L M w L M w' := by
  have hc := h.blk.cell
  simp only [DM.cells] at hc
  have HH := hide h
  have H1 := hide h1
  clear h h1
  go_enter Try.func10, Try.ntmps10
  go_wp2_with (go_at_call 22; refine (find_miss H1.out _ HH.out.dir).mono ?_; rintro e w1 ⟨rfl, hf⟩)
  go_ret
  exact ⟨rfl, DStep.look HH.out hf⟩

set_option maxHeartbeats 1600000 in
theorem remove_not (name : ByteArray) (w : World) (b : Nat) (L : DL) (M : DM) (h : DRep w b L M) (k : Nat) (_hk : k < M.dir.length) (h1 : findI M.dir name = k) (hd : M.begins.1 = false) :
    Calls Try.prog 10 #[.pointer (some ⟨b, 0, none⟩), .string name] w fun e w' =>
      e = .returned (.int .i64 M.begins.2.1) ∧ DStep b L M w L M.begins.2.2 w' := by
  have hc := h.blk.cell
  have hlen := own_le h.dir
  unfold maxLen at hlen
  simp only [DM.cells] at hc
  have HH := hide h
  have H1 := hide h1
  have HD := hide hd
  clear h h1 hd
  go_enter Try.func10, Try.ntmps10
  go_wp2_with fail
  refine (find_hit H1.out _ HH.out.dir).mono ?_
  rintro e w1 ⟨rfl, hf⟩
  go_wp2_with fail
  have HB := begins_step w1 b L M (HH.out.fr hf (fun _ _ => id))
  rw [HD.out] at HB
  refine HB.mono ?_
  rintro e w2 ⟨rfl, hs⟩
  go_wp2
  go_ret
  exact ⟨rfl, (DStep.look HH.out hf).trans hs⟩

set_option maxHeartbeats 1600000 in
theorem remove_does (name : ByteArray) (w : World) (b : Nat) (L : DL) (M : DM) (h : DRep w b L M) (k : Nat) (hk : k < M.dir.length) (h1 : findI M.dir name = k) (hd : M.begins.1 = true)
    (hn : M.chs.length + 1 ≤ 1000000000000) (hm : M.dir.length + 1 ≤ 1000000000000) :
    Calls Try.prog 10 #[.pointer (some ⟨b, 0, none⟩), .string name] w fun e w' =>
      e = .returned (.int .i64 M.begins.2.1) ∧ ∃ L', DStep b L M w L' (M.begins.2.2.turned (M.begins.2.2.dir.take k ++ M.begins.2.2.dir.drop (k + 1))) w' := by
  have hc := h.blk.cell
  have hlen := own_le h.dir
  unfold maxLen at hlen
  simp only [DM.cells] at hc
  have HH := hide h
  have H1 := hide h1
  have HD := hide hd
  clear h h1 hd
  go_enter Try.func10, Try.ntmps10
  go_wp2_with fail
  refine (find_hit H1.out _ HH.out.dir).mono ?_
  rintro e w1 ⟨rfl, hf⟩
  go_wp2_with fail
  have HB := begins_step w1 b L M (HH.out.fr hf (fun _ _ => id))
  rw [HD.out] at HB
  refine HB.mono ?_
  rintro e w2 ⟨rfl, hs⟩
  clear hc HB
  have hkk := M.begins_keeps
  have hl1 : M.begins.2.2.dir.length + 1 ≤ 1000000000000 := by rw [hkk.1]; exact hm
  have hl2 : M.begins.2.2.chs.length + 1 ≤ 1000000000000 := by rw [hkk.2.2.1]; exact hn
  have hl3 : k < M.begins.2.2.dir.length := by rw [hkk.1]; exact hk
  clear hkk
  have hc := hs.rep.blk.cell
  simp only [DM.cells] at hc
  obtain ⟨g, cap, hv, hcap, hcm⟩ := own_some hs.rep.dir (by omega)
  unfold maxLen at hcm
  rw [hv] at hc
  have hrow := hs.rep.dir
  rw [hv] at hrow
  have HS := hide hs
  have HROW := hide hrow
  have HV := hide hv
  have hlt := hs.rep.blk.lt
  clear hs hrow hv
  generalize hM1 : M.begins.2.2 = M1 at *
  have hcz : ¬ cap = 0 := by omega
  have hfl := flat_length M1.dir
  have HFL := hide hfl
  clear hfl
  go_wp2_with (at_builtin; go_must (refine wpList_app rfl _ _ _ _ rfl _ _ (by rfl) (by rfl) (run_app_slice 42 _ 50 2 24 Try.underlying42 info_entry (by decide) _ _ _ (World.ownsRow_nil _ 0 _ _)
    ⟨g, 0, none⟩ k cap ((flat M1.dir).take (k * 2)) (by rw [List.length_take, HFL.out]; omega) (own_news HROW.out 0 _ ?n1) (fun u hu => flat_one _ u (List.mem_of_mem_take hu)) (by unfold maxLen; omega) (by omega)) ?_))
  case n1 =>
    intro j u hj
    rw [List.getElem?_take] at hj
    split at hj
    · simpa using hj
    · cases hj
  intro v1 w3 ha
  have HA := hide ha
  obtain ⟨a1, c1, hv1⟩ := own_form ha.own
  have hfa : Fr Nil w2 w3 := ha.fr.mono (fun _ _ h => by simp [Value.ownBlock] at h)
  have hr3 := HS.out.rep.fr hfa (fun _ _ => id)
  have hc3 := hr3.blk.cell
  simp only [DM.cells] at hc3
  rw [HV.out] at hc3
  have hrow3 := hr3.dir
  rw [HV.out] at hrow3
  have HROW3 := hide hrow3
  have HR3 := hide hr3
  clear ha hr3 hc hrow3
  subst hv1
  have hnews : ∀ j u, ((flat M1.dir).drop ((k + 1) * 2))[j]? = some u → (flat M1.dir)[k * 2 + 2 + j]? = some u := by
    intro j u hj
    rw [List.getElem?_drop] at hj
    rw [← hj]; congr 1; omega
  have HN := hide hnews
  clear hnews
  have hk1 : k + 1 ≤ M1.dir.length := hl3
  have ek : (k + 1) * 2 = k * 2 + 2 := by omega
  by_cases hck : cap = k + 1
  · have hlen0 : M1.dir.length - (k + 1) = 0 := by omega
    go_wp2_with (at_builtin; go_must (refine wpList_app rfl _ _ _ _ rfl _ _ (by rfl) (by rfl) (run_app_slice 42 _ 50 2 24 Try.underlying42 info_entry (by decide) _ _ _ HA.out.own
      ⟨g, 0, none⟩ 0 _ [] rfl (by intro j u hj; simp at hj) (by intro u hu; cases hu) (by unfold maxLen; omega) (by omega)) ?_))
    intro v2 w4 ha2
    have ha2' : App w3 (.slice a1 k c1) 50 2 (M1.dir.take k ++ M1.dir.drop (k + 1)).length (flat (M1.dir.take k ++ M1.dir.drop (k + 1))) v2 w4 := by
      have e1 : (M1.dir.take k ++ M1.dir.drop (k + 1)).length = k + (M1.dir.length - (k + 1)) := by simp; omega
      rw [e1, flat_append, flat_take, flat_drop]
      have e2 : (flat M1.dir).drop ((k + 1) * 2) = [] := List.eq_nil_of_length_eq_zero (by rw [List.length_drop, HFL.out]; omega)
      rw [hlen0, e2]
      simpa using ha2
    obtain ⟨hf4, hv2⟩ := app_two HA.out (Fr.refl _ _) ha2'
    have hr4 := HS.out.rep.fr hf4 (fun _ _ => id)
    have hids : ∀ e, e ∈ M1.dir.take k ++ M1.dir.drop (k + 1) → e.2 ∈ M1.ids := by
      intro e he
      simp only [List.mem_append] at he
      rcases he with he | he
      · exact HS.out.rep.inD e (List.mem_of_mem_take he)
      · exact HS.out.rep.inD e (List.mem_of_mem_drop he)
    have HT := hide (turned_calls v2 (M1.dir.take k ++ M1.dir.drop (k + 1)) w4 b _ _ hr4 ha2'.own hids hl2)
    have HF4 := hide hf4
    have HV2 := hide hv2
    have HM1 := hide hM1
    clear ha2 ha2' hids hr4 hf4 hv2 hc3 hM1
    go_wp2_with fail
    refine HT.out.mono ?_
    rintro e w5 ⟨rfl, cv, hr5, hf5, hcv⟩
    have hst := turn_after hr5 HF4.out HV2.out hf5 hcv
    go_wp2
    go_ret
    obtain rfl := HM1.out
    exact ⟨rfl, _, (DStep.look HH.out hf).trans (HS.out.trans hst)⟩
  · go_wp2_with (at_builtin; go_must (refine wpList_app rfl _ _ _ _ rfl _ _ (by rfl) (by rfl) (run_app_slice 42 _ 50 2 24 Try.underlying42 info_entry (by decide) _ _ _ HA.out.own
      ⟨g, k * 2 + 2, none⟩ (M1.dir.length - (k + 1)) _ ((flat M1.dir).drop ((k + 1) * 2)) (by rw [List.length_drop, HFL.out]; omega) (own_news HROW3.out (k * 2 + 2) _ HN.out) (fun u hu => flat_one _ u (List.mem_of_mem_drop hu)) (by unfold maxLen; omega) (by omega)) ?_))
    intro v2 w4 ha2
    have ha2' : App w3 (.slice a1 k c1) 50 2 (M1.dir.take k ++ M1.dir.drop (k + 1)).length (flat (M1.dir.take k ++ M1.dir.drop (k + 1))) v2 w4 := by
      have e1 : (M1.dir.take k ++ M1.dir.drop (k + 1)).length = k + (M1.dir.length - (k + 1)) := by simp; omega
      rw [e1, flat_append, flat_take, flat_drop]
      rw [ek]
      exact ha2
    obtain ⟨hf4, hv2⟩ := app_two HA.out (Fr.refl _ _) ha2'
    have hr4 := HS.out.rep.fr hf4 (fun _ _ => id)
    have hids : ∀ e, e ∈ M1.dir.take k ++ M1.dir.drop (k + 1) → e.2 ∈ M1.ids := by
      intro e he
      simp only [List.mem_append] at he
      rcases he with he | he
      · exact HS.out.rep.inD e (List.mem_of_mem_take he)
      · exact HS.out.rep.inD e (List.mem_of_mem_drop he)
    have HT := hide (turned_calls v2 (M1.dir.take k ++ M1.dir.drop (k + 1)) w4 b _ _ hr4 ha2'.own hids hl2)
    have HF4 := hide hf4
    have HV2 := hide hv2
    have HM1 := hide hM1
    clear ha2 ha2' hids hr4 hf4 hv2 hc3 hM1
    go_wp2_with fail
    refine HT.out.mono ?_
    rintro e w5 ⟨rfl, cv, hr5, hf5, hcv⟩
    have hst := turn_after hr5 HF4.out HV2.out hf5 hcv
    go_wp2
    go_ret
    obtain rfl := HM1.out
    exact ⟨rfl, _, (DStep.look HH.out hf).trans (HS.out.trans hst)⟩

theorem remove_calls (name : ByteArray) (w : World) (b : Nat) (L : DL) (M : DM) (h : DRep w b L M) (hn : M.chs.length + 1 ≤ 1000000000000) (hm : M.dir.length + 1 ≤ 1000000000000) :
    Calls Try.prog 10 #[.pointer (some ⟨b, 0, none⟩), .string name] w fun e w' =>
      e = .returned (.int .i64 (M.remove name).1) ∧ ∃ L', DStep b L M w L' (M.remove name).2 w' := by
  rcases idx_cases M.dir name with ⟨h1, h2⟩ | ⟨k, hk, h1, h2⟩
  · refine (remove_miss name w b L M h h1).mono fun e w' ⟨h3, h4⟩ => ?_
    simp only [DM.remove, h2]
    exact ⟨h3, L, h4⟩
  · cases hd : M.begins.1 with
    | false =>
      refine (remove_not name w b L M h k hk h1 hd).mono fun e w' ⟨h3, h4⟩ => ?_
      simp only [DM.remove, h2, hd]
      exact ⟨h3, L, h4⟩
    | true =>
      refine (remove_does name w b L M h k hk h1 hd hn hm).mono fun e w' ⟨h3, h4⟩ => ?_
      simp only [DM.remove, h2, hd]
      exact ⟨h3, h4⟩

end Go.Proofs.Ytkhnggkkiefcdaa
