/-
  Package disk: List.
-/
import Derived.Test.YtkhnggkkiefcdaaDiskI
namespace Go.Proofs.Ytkhnggkkiefcdaa
open Go.RowKit

theorem info_str : ((Try.prog.info? 9).map fun i => (i.zero.map (·.cells.size), i.size, i.bytes)) = some (some 1, 1, 16) := by kernel_rfl

def lessB (a b : ByteArray) : Bool := Op.bytesLess a.toList b.toList

/-- One more among names that stand the greatest first. -/
def insR : List ByteArray → ByteArray → List ByteArray
  | [], x => [x]
  | y :: r, x => if lessB x y then y :: insR r x else x :: y :: r

def namesK (d : Dir) (k : Nat) : List ByteArray := ((d.take k).foldl (fun r e => insR r e.1) []).reverse
/-- All names, in the order of their bytes. -/
def Dir.names (d : Dir) : List ByteArray := namesK d d.length

theorem insR_length (l : List ByteArray) (x : ByteArray) : (insR l x).length = l.length + 1 := by
  induction l with
  | nil => rfl
  | cons y r ih => simp only [insR]; split <;> simp [ih]

theorem namesK_succ (d : Dir) (k : Nat) (h : k < d.length) : namesK d (k + 1) = (insR (namesK d k).reverse d[k].1).reverse := by
  unfold namesK
  rw [List.take_succ_eq_append_getElem h, List.foldl_append]
  simp

theorem namesK_length (d : Dir) : ∀ k, k ≤ d.length → (namesK d k).length = k := by
  intro k
  induction k with
  | zero => intro _; rfl
  | succ k ih =>
    intro h
    rw [namesK_succ d k h, List.length_reverse, insR_length, List.length_reverse, ih (by omega)]

theorem insR_skip (P R : List ByteArray) (x : ByteArray) (h : ∀ t ∈ P, lessB x t = true) : insR (P ++ R) x = P ++ insR R x := by
  induction P with
  | nil => rfl
  | cons y P ih =>
    have hy := h y (List.mem_cons_self ..)
    simp only [List.cons_append, insR, hy, if_true]
    rw [ih (fun t ht => h t (List.mem_cons_of_mem _ ht))]

theorem ins_spec (A : List ByteArray) (x : ByteArray) (j : Nat) (hj : j ≤ A.length) (h : ∀ t ∈ A.drop j, lessB x t = true) (h0 : ∀ i (hi : i < A.length), j = i + 1 → lessB x A[i] = false) :
    A.take j ++ [x] ++ A.drop j = (insR A.reverse x).reverse := by
  have e : A.reverse = (A.drop j).reverse ++ (A.take j).reverse := by rw [← List.reverse_append, List.take_append_drop]
  rw [e, insR_skip _ _ _ (fun t ht => h t (by simpa using ht))]
  cases j with
  | zero => simp [insR]
  | succ i =>
    have hi : i < A.length := hj
    have e2 : (A.take (i + 1)).reverse = A[i] :: (A.take i).reverse := by
      rw [List.take_succ_eq_append_getElem hi]; simp
    rw [e2]
    have := h0 i hi rfl
    simp only [insR, this, Bool.false_eq_true, if_false]
    rw [← e2]
    simp

def strs (l : List ByteArray) : List Value := l.map Value.string

theorem strs_one (l : List ByteArray) : ∀ u ∈ strs l, u.oneCell' = true := by
  intro u hu
  simp [strs] at hu
  obtain ⟨a, _, rfl⟩ := hu
  rfl

theorem strs_mid (P Q : List ByteArray) (x : ByteArray) : strs (P ++ [x] ++ Q) = strs P ++ .string x :: strs Q := by simp [strs]
theorem strs_length (l : List ByteArray) : (strs l).length = l.length := by simp [strs]

theorem strs_at (A : List ByteArray) (x : ByteArray) (i : Nat) (hi : i < A.length) :
    (strs (A.take (i + 1) ++ [x] ++ A.drop (i + 1)))[i + 1]? = some (.string x) ∧ (strs (A.take (i + 1) ++ [x] ++ A.drop (i + 1)))[i]? = some (.string A[i]) := by
  have e3 : (strs (A.take (i + 1))).length = i + 1 := by rw [strs_length]; simp; omega
  rw [strs_mid]
  constructor
  · rw [List.getElem?_append_right (by omega), e3]; simp
  · rw [List.getElem?_append_left (by omega)]; simp [strs, hi]

/-- The element one place further on is less than those behind it: the two change places. -/
theorem swap_strs (A : List ByteArray) (x : ByteArray) (i : Nat) (hi : i < A.length) :
    ((strs (A.take (i + 1) ++ [x] ++ A.drop (i + 1))).set (i + 1) (.string A[i])).set i (.string x) = strs (A.take i ++ [x] ++ A.drop i) := by
  have e1 : strs (A.take (i + 1)) = strs (A.take i) ++ [.string A[i]] := by unfold strs; rw [List.take_succ_eq_append_getElem hi, List.map_append]; rfl
  have e2 : strs (A.drop i) = .string A[i] :: strs (A.drop (i + 1)) := by unfold strs; rw [List.drop_eq_getElem_cons hi, List.map_cons]
  have e3 : (strs (A.take i)).length = i := by rw [strs_length]; simp; omega
  rw [strs_mid, strs_mid, e1, e2, List.append_assoc]
  rw [List.set_append_right _ _ (by omega), e3, List.set_append_right _ _ (by omega), e3]
  simp

/-- One element of a row is written. -/
theorem own_set {w : World} {base : Nat} {e : TypeId} {size : Nat} {g n cap : Nat} {xs : List Value} (h : w.ownsRow base e size (.slice (some ⟨g, 0, none⟩) n cap) n xs) (j : Nat) (u : Value) :
    (w.setCell ⟨g, j, none⟩ u).ownsRow base e size (.slice (some ⟨g, 0, none⟩) n cap) n (xs.set j u) := by
  rcases h.2 with ⟨h1, _⟩ | ⟨g', cap', cur, h1, hb, hg, hn, hm, hs, ht⟩
  · cases h1
  · simp at h1
    obtain ⟨rfl, rfl⟩ := h1
    refine ⟨by rw [List.length_set]; exact h.1, .inr ⟨g, cap, cur.setIfInBounds j u, rfl, hb, ?_, hn, hm, by simpa using hs, ?_⟩⟩
    · simp [World.setCell, Array.getElem?_modify, hg]
    · rw [← ht]
      simp only [Array.toList_setIfInBounds]
      rw [List.take_set]

theorem own_frozen {w : World} {base : Nat} {e : TypeId} {size : Nat} {g n cap : Nat} {xs : List Value} (h : w.ownsRow base e size (.slice (some ⟨g, 0, none⟩) n cap) n xs) (j : Nat) : w.frozen? ⟨g, j, none⟩ = false := by
  rcases h.2 with ⟨h1, _⟩ | ⟨g', cap', cur, h1, hb, hg, _⟩
  · cases h1
  · simp at h1
    obtain ⟨rfl, _⟩ := h1
    simp [World.frozen?, hg]
    
set_option maxHeartbeats 3200000 in
theorem list_calls (w : World) (b : Nat) (L : DL) (M : DM) (h : DRep w b L M) (hm : M.dir.length ≤ 1000000000000) :
    Calls Try.prog 7 #[.pointer (some ⟨b, 0, none⟩)] w fun e w' =>
      ∃ v, e = .returned v ∧ w'.ownsRow 0 9 1 v M.dir.length (strs M.dir.names) ∧ Fr Nil w w' ∧ (∀ k, v.ownBlock = some k → w.heap.size ≤ k) := by
  have hc := h.blk.cell
  simp only [DM.cells] at hc
  obtain ⟨a, cap, hv⟩ := own_form h.dir
  rw [hv] at hc
  obtain ⟨ti, tz, ht1, ht2, ht3, ht4, ht5⟩ := info_of info_str
  have HH := hide h
  have HV := hide hv
  clear h hv
  go_enter Try.func7, Try.ntmps7
  go_wp2_with (at_make; go_must (refine wpList_make_own _ rfl _ _ 27 rfl 0 9 ti tz 1 Try.underlying27 ht1 ht2 ht3 _ _ _ M.dir.length (by rfl) (by rfl) rfl (by rw [ht4]; omega) (by unfold maxLen; omega) (Nat.zero_le _) ?_))
  intro w1 hown1 hgr1
  have hf1 : Fr Nil w w1 := (Fr.of_grown hgr1).mono (fun _ _ h => by cases h)
  have h1 := HH.out.fr hf1 (fun _ _ => id)
  have hc1 := h1.blk.cell
  simp only [DM.cells] at hc1
  rw [HV.out] at hc1
  clear hc hgr1 h1
  go_wp2_with fail
  clear hc1
  go_loopw [3, 18] (fun l c w' => ∃ k : Nat, k ≤ M.dir.length ∧ c = .int .i64 k ∧ w'.ownsRow 0 9 1 l k (strs (namesK M.dir k)) ∧ Fr Nil w w' ∧ (∀ j, l.ownBlock = some j → w.heap.size ≤ j)) (fun _ c _ => M.dir.length - (intOf c).toNat)
  case atStart => exact ⟨0, Nat.zero_le _, rfl, hown1, hf1, fun j hj => by simp [Value.ownBlock] at hj; omega⟩
  case round =>
    obtain ⟨k, hk, rfl, hown, hfr, hnew⟩ := hrel
    have hr := HH.out.fr hfr (fun _ _ => id)
    have HN := hide hnew
    have HO := hide hown
    have HNL := hide (namesK_length M.dir k hk)
    obtain ⟨la, lc, hlv⟩ := own_form hown
    clear hown1 hf1 hnew hown
    subst hlv
    by_cases hlt : k < M.dir.length
    · obtain ⟨g, hg⟩ : ∃ g, a = some ⟨g, 0, none⟩ := by
        obtain ⟨g, c', hv', _⟩ := own_some hr.dir (by omega)
        rw [HV.out] at hv'; simp at hv'; exact ⟨g, hv'.1⟩
      subst hg
      have hrow := hr.dir
      rw [HV.out] at hrow
      have hp1 := own_cell? hrow _ _ (flat_get M.dir k hlt).1
      have hp2 := own_cell? hrow _ _ (flat_get M.dir k hlt).2
      have hgl := World.block_lt_of_cell? _ _ hp1
      clear hrow hr
      go_wp2_with (at_builtin; go_must (refine wpList_app rfl _ _ _ _ rfl _ _ (by rfl) (by rfl) (run_app_slice 27 _ 9 1 16 Try.underlying27 info_str (by decide) _ _ _ ((HO.out.alloc _).alloc _)
            ⟨wr.heap.size + 1, 0, none⟩ 1 1 [.string M.dir[k].1] rfl (cell_new1 _ _ _ _ (by simp)) (by intro u hu; simp at hu; subst hu; rfl) (by unfold maxLen; omega) (by omega)) ?_))
      intro v2 w4 ha2
      obtain ⟨g2, c2, hv2, _, _⟩ := own_some ha2.own (by omega)
      subst hv2
      have HA2 := hide ha2
      clear ha2
      go_wp2_with fail
      generalize hA : namesK M.dir k = A at *
      generalize hx : M.dir[k].1 = x at *
      have hAl : A.length = k := HNL.out
      have HAL := hide hAl
      have HNK : Hid (namesK M.dir (k + 1) = (insR A.reverse x).reverse) := by rw [Hid, namesK_succ M.dir k hlt, hA, hx]
      have hg2 : w.heap.size ≤ g2 := by
        rcases HA2.out.at_ with h | h
        · exact HN.out g2 (by rw [← h]; rfl)
        · simp [Value.ownBlock] at h; have := hfr.size; omega
      have hf4 : Fr Nil w w4 := Fr.trans' ((hfr.alloc _).alloc _) HA2.out.fr (fun j hlt hj => by have := HN.out j hj; omega)
      have HXA := hide hA
      have HXX := hide hx
      clear hA hx hAl hp1 hp2
      go_loopw [6] (fun c w' => ∃ j : Nat, j ≤ k ∧ c = .int .i64 j ∧ w'.ownsRow 0 9 1 (.slice (some ⟨g2, 0, none⟩) (k + 1) c2) (k + 1) (strs (A.take j ++ [x] ++ A.drop j)) ∧ (∀ t, t ∈ A.drop j → lessB x t = true) ∧ Fr Nil w w') (fun c _ => (intOf c).toNat)
      case atStart =>
        refine ⟨k, Nat.le_refl _, rfl, ?_, ?_, hf4⟩
        · have e : strs (A.take k ++ [x] ++ A.drop k) = strs A ++ [.string x] := by
            have hl := HAL.out
            rw [List.take_of_length_le (by omega), List.drop_of_length_le (by omega)]; simp [strs]
          rw [e]; exact HA2.out.own
        · intro t ht
          rw [List.drop_of_length_le (by have := HAL.out; omega)] at ht; cases ht
      case round =>
        rename_i wq
        obtain ⟨j, hj, rfl, hown, hless, hfq⟩ := hrel
        have HOW := hide hown
        have HLS := hide hless
        clear hown hless hf4
        rcases Nat.eq_zero_or_pos j with rfl | hj0
        · have hd : decide ((0 : Int) < ((0 : Nat) : Int)) = false := by simp
          go_wp2_with fail
          go_quiet (fail)
          go_wp2
          have e3 : namesK M.dir (k + 1) = A.take 0 ++ [x] ++ A.drop 0 := HNK.out.trans (ins_spec A x 0 (Nat.zero_le _) HLS.out (fun i _ h => by omega)).symm
          exact ⟨⟨k + 1, by omega, by go_num, by rw [e3]; exact HOW.out, hfq.drewN _, fun j hj => by simp [Value.ownBlock] at hj; omega⟩, by simp [intOf]; omega⟩
        · obtain ⟨i, rfl⟩ : ∃ i, j = i + 1 := ⟨j - 1, by omega⟩
          have hil : i < A.length := by have := HAL.out; omega
          have hc1 := own_cell? HOW.out _ _ (strs_at A x i hil).1
          have hc2 := own_cell? HOW.out _ _ (strs_at A x i hil).2
          have hf1 := own_frozen HOW.out
          have e1 : (((i + 1 : Nat) : Int)) = (i : Int) + 1 := by omega
          rw [e1]
          cases hls : lessB x A[i] with
          | true =>
            have hls' : Op.bytesLess x.toList A[i].toList = true := hls
            go_wp2_with fail
            go_quiet (fail)
            go_wp2_with fail
            go_region
            go_wp2
            have hset := own_set (own_set (w := wr.drewN (nq + 1)) HOW.out (i + 1) (.string A[i])) i (.string x)
            rw [swap_strs A x i hil] at hset
            have hless' : ∀ t, t ∈ A.drop i → lessB x t = true := by
              intro t ht
              rw [List.drop_eq_getElem_cons hil] at ht
              rcases List.mem_cons.1 ht with rfl | ht
              · exact hls
              · exact HLS.out t ht
            exact ⟨⟨i, by omega, rfl, hset, hless', Fr.set (Fr.set (hfq.drewN _) (fun (h : g2 < w.heap.size) => absurd h (by omega)) _) (fun (h : g2 < w.heap.size) => absurd h (by omega)) _⟩, by simp [intOf]⟩
          | false =>
            have hls' : Op.bytesLess x.toList A[i].toList = false := hls
            go_wp2_with fail
            go_quiet (fail)
            go_wp2
            have hend : ∀ i' (hi' : i' < A.length), i + 1 = i' + 1 → lessB x A[i'] = false := by
              intro i' hi' h
              have h' : i' = i := by omega
              subst h'
              exact hls
            have e3 : namesK M.dir (k + 1) = A.take (i + 1) ++ [x] ++ A.drop (i + 1) := HNK.out.trans (ins_spec A x (i + 1) (by omega) HLS.out hend).symm
            exact ⟨⟨k + 1, by omega, by go_num, by rw [e3]; exact HOW.out, hfq.drewN _, fun j hj => by simp [Value.ownBlock] at hj; omega⟩, by simp [intOf]; omega⟩
    · go_wp2
      go_ret
      have hkl : k = M.dir.length := by omega
      subst hkl
      exact ⟨_, rfl, HO.out, hfr, HN.out⟩

end Go.Proofs.Ytkhnggkkiefcdaa
