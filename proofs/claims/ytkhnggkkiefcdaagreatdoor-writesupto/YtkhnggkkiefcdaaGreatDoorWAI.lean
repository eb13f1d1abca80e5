/-
  larder: writes_holds: the texts PlnA, PlnC, AllS, RefA, KeyA, joined; 
-/
import Derived.Test.YtkhnggkkiefcdaaGreatDoorWAH
import Derived.RangeFuncNested
import Derived.RangeFuncBound
import Derived.RangeFuncCalls
import Derived.RangeFuncLeaves
import Derived.Shelf.Abstract
import Derived.Shelf.RegionOpen
import Derived.WalkKit
import Derived.OwnWalkIn
import Derived.TacticsInMore
import Derived.LoopNIn
import Derived.LoopIn
import Derived.Maps.AppendAt
namespace Go.Proofs.YtkhnggkkiefcdaaGreatDoor
open Go.RowKit
set_option maxRecDepth 100000
abbrev Keys := List (ByteArray × List Ver)
def AscK (K : Keys) : Prop := Asc lessB (K.map Prod.fst)
theorem ne_of_less {a b : ByteArray} (h : lessB a b = true) : a ≠ b := fun e => by rw [e, lessB_strict.irr] at h; cases h
theorem ascK_take {K : Keys} {key : ByteArray} : ∀ x ∈ K.take (low lessB (K.map Prod.fst) key), lessB x.1 key = true := by
  intro x hx
  obtain ⟨j, hj, rfl⟩ := List.getElem_of_mem hx
  rw [List.length_take] at hj
  have h1 : j < (K.map Prod.fst).length := by rw [List.length_map]; omega
  have := low_lt (lt := lessB) (l := K.map Prod.fst) (b := key) (k := j) h1 (by omega)
  rw [List.getElem_map] at this
  rw [List.getElem_take]
  exact this
theorem ascK_drop {K : Keys} {key : ByteArray} (h : AscK K) : ∀ x ∈ K.drop (if isAt lessB (K.map Prod.fst) key = true then low lessB (K.map Prod.fst) key + 1 else low lessB (K.map Prod.fst) key), lessB key x.1 = true := by
  intro x hx
  obtain ⟨j, hj, rfl⟩ := List.getElem_of_mem hx
  rw [List.length_drop] at hj
  rw [List.getElem_drop]
  rcases Nat.lt_or_ge (low lessB (K.map Prod.fst) key) (K.map Prod.fst).length with hl | hl
  · have hge := low_ge hl
    have hl' : low lessB (K.map Prod.fst) key < K.length := by simpa using hl
    have he := isAt_fst (lt := lessB) (b := key) hl' rfl
    rw [List.getElem_map] at hge
    by_cases ha : isAt lessB (K.map Prod.fst) key = true
    · rw [ha] at he
      have ek := eqB_iff.1 he.symm
      simp only [ha, if_true] at hj ⊢
      have := Asc.fst h (i := low lessB (K.map Prod.fst) key) (j := low lessB (K.map Prod.fst) key + 1 + j) (by omega) (by omega)
      rw [ek] at this
      exact this
    · have ha : isAt lessB (K.map Prod.fst) key = false := by simpa using ha
      rw [ha] at he
      have ek : K[low lessB (K.map Prod.fst) key].1 ≠ key := fun e => by rw [eqB_iff.2 e] at he; cases he
      have h0 := lessB_strict.tri _ _ hge ek
      simp only [ha, Bool.false_eq_true, if_false] at hj ⊢
      rcases Nat.eq_zero_or_pos j with e | e
      · subst e; exact h0
      · exact lessB_strict.trans _ _ _ h0 (Asc.fst h (i := low lessB (K.map Prod.fst) key) (j := low lessB (K.map Prod.fst) key + j) (by omega) (by omega))
  · rw [List.length_map] at hl
    exfalso
    have := hj
    split at this <;> omega
theorem split_at {K : Keys} {key : ByteArray} (ha : isAt lessB (K.map Prod.fst) key = true) : ∃ l, K = K.take (low lessB (K.map Prod.fst) key) ++ (key, l) :: K.drop (low lessB (K.map Prod.fst) key + 1) ∧ getK K key = l := by
  rcases Nat.lt_or_ge (low lessB (K.map Prod.fst) key) K.length with hl | hl
  · have he := isAt_fst (lt := lessB) (b := key) hl rfl
    rw [ha] at he
    have ek := eqB_iff.1 he.symm
    refine ⟨K[low lessB (K.map Prod.fst) key].2, ?_, ?_⟩
    · have e2 : (key, K[low lessB (K.map Prod.fst) key].2) = K[low lessB (K.map Prod.fst) key] := by rw [← Prod.eta K[low lessB (K.map Prod.fst) key], ek]
      rw [e2, List.getElem_cons_drop, List.take_append_drop]
    · unfold getK
      rw [if_pos ha, List.getD_eq_getElem?_getD, List.getElem?_eq_getElem hl]
      rfl
  · rw [isAt_ge (by simpa using hl)] at ha
    cases ha
def versM (K : Keys) (key : ByteArray) : List Ver := match K.find? (fun e => e.1 == key) with | some e => e.2 | none => []
theorem find_none {K : Keys} {key : ByteArray} (h : ∀ x ∈ K, x.1 ≠ key) : K.find? (fun e => e.1 == key) = none := by
  rw [List.find?_eq_none]
  intro x hx
  have := h x hx
  intro e
  exact this (eqB_iff.1 e)
theorem versM_eq {K : Keys} (key : ByteArray) (h : AscK K) : versM K key = getK K key := by
  have h1 : ∀ x ∈ K.take (low lessB (K.map Prod.fst) key), x.1 ≠ key := fun x hx => ne_of_less (ascK_take x hx)
  have h2 := ascK_drop (key := key) h
  cases ha : isAt lessB (K.map Prod.fst) key with
  | true =>
    obtain ⟨l, hK, hl⟩ := split_at ha
    rw [hl]
    unfold versM
    have : K.find? (fun e => e.1 == key) = some (key, l) := by
      rw [hK, List.find?_append, find_none h1]
      simp [eqB_iff.2 rfl]
    rw [this]
  | false =>
    have hg : getK K key = [] := by unfold getK; rw [if_neg (by rw [ha]; decide)]
    rw [hg]
    rw [ha] at h2
    simp only [Bool.false_eq_true, if_false] at h2
    unfold versM
    have : K.find? (fun e => e.1 == key) = none := by
      rw [← List.take_append_drop (low lessB (K.map Prod.fst) key) K]
      refine find_none fun x hx => ?_
      rcases List.mem_append.1 hx with hx | hx
      · exact h1 x hx
      · exact (ne_of_less (h2 x hx)).symm
    rw [this]
def withStep (key : ByteArray) (l : List Ver) (st : Keys × Bool) (e : ByteArray × List Ver) : Keys × Bool :=
  (((if st.2 = false ∧ lessB e.1 key = false then st.1 ++ [(key, l)] else st.1) ++ if e.1 = key then [] else [e]), st.2 || !lessB e.1 key)
def withM (K : Keys) (key : ByteArray) (l : List Ver) : Keys :=
  (K.foldl (withStep key l) ([], l.isEmpty)).1 ++ if (K.foldl (withStep key l) ([], l.isEmpty)).2 = true then [] else [(key, l)]
theorem fold_done (key : ByteArray) (l : List Ver) : ∀ (K out : Keys), (∀ x ∈ K, x.1 ≠ key) → K.foldl (withStep key l) (out, true) = (out ++ K, true)
  | [], out, _ => by simp
  | e :: K, out, h => by
    have he : e.1 ≠ key := h e (List.mem_cons_self ..)
    have : withStep key l (out, true) e = (out ++ [e], true) := by simp [withStep, he]
    rw [List.foldl_cons, this, fold_done key l K _ (fun x hx => h x (List.mem_cons_of_mem _ hx))]
    simp
theorem fold_under (key : ByteArray) (l : List Ver) (b : Bool) : ∀ (K out : Keys), (∀ x ∈ K, lessB x.1 key = true) → K.foldl (withStep key l) (out, b) = (out ++ K, b)
  | [], out, _ => by simp
  | e :: K, out, h => by
    have he := h e (List.mem_cons_self ..)
    have hn : e.1 ≠ key := ne_of_less he
    have : withStep key l (out, b) e = (out ++ [e], b) := by simp [withStep, he, hn]
    rw [List.foldl_cons, this, fold_under key l b K _ (fun x hx => h x (List.mem_cons_of_mem _ hx))]
    simp
theorem fold_over (key : ByteArray) (l : List Ver) (K out : Keys) (h : ∀ x ∈ K, lessB key x.1 = true) :
    K.foldl (withStep key l) (out, false) = (if K = [] then (out, false) else (out ++ (key, l) :: K, true)) := by
  cases K with
  | nil => rfl
  | cons e K =>
    have he := h e (List.mem_cons_self ..)
    have hn : e.1 ≠ key := fun x => ne_of_less he x.symm
    have hl : lessB e.1 key = false := lessB_strict.asym he
    have : withStep key l (out, false) e = (out ++ [(key, l)] ++ [e], true) := by simp [withStep, hl, hn]
    rw [List.foldl_cons, this, fold_done key l K _ (fun x hx => fun e' => ne_of_less (h x (List.mem_cons_of_mem _ hx)) e'.symm)]
    simp
theorem withM_eq {K : Keys} (key : ByteArray) (l : List Ver) (h : AscK K) : withM K key l = if l = [] then delK K key else setK K key l := by
  have h1 := ascK_take (K := K) (key := key)
  have h2 := ascK_drop (key := key) h
  cases ha : isAt lessB (K.map Prod.fst) key with
  | true =>
    obtain ⟨l0, hK, _⟩ := split_at ha
    rw [ha] at h2
    simp only [if_true] at h2
    have hd : delK K key = K.take (low lessB (K.map Prod.fst) key) ++ K.drop (low lessB (K.map Prod.fst) key + 1) := by unfold delK; rw [if_pos ha]
    have hs : setK K key l = K.take (low lessB (K.map Prod.fst) key) ++ [(key, l)] ++ K.drop (low lessB (K.map Prod.fst) key + 1) := by unfold setK; rw [if_pos ha]
    rw [hd, hs]
    generalize K.take (low lessB (K.map Prod.fst) key) = A at *
    generalize K.drop (low lessB (K.map Prod.fst) key + 1) = C at *
    subst hK
    unfold withM
    rw [List.foldl_append, fold_under key l _ A [] h1, List.foldl_cons]
    have hlk : lessB key key = false := lessB_strict.irr key
    have hC : ∀ x ∈ C, x.1 ≠ key := fun x hx => (ne_of_less (h2 x hx)).symm
    cases l with
    | nil =>
      have : withStep key [] ([] ++ A, List.isEmpty ([] : List Ver)) (key, l0) = (A, true) := by simp [withStep, hlk]
      rw [this, fold_done key _ C A hC]
      simp
    | cons v l =>
      have : withStep key (v :: l) ([] ++ A, List.isEmpty (v :: l)) (key, l0) = (A ++ [(key, v :: l)], true) := by simp [withStep, hlk]
      rw [this, fold_done key _ C _ hC]
      simp
  | false =>
    rw [ha] at h2
    simp only [Bool.false_eq_true, if_false] at h2
    have hd : delK K key = K := by unfold delK; rw [if_neg (by rw [ha]; decide)]
    have hs : setK K key l = K.take (low lessB (K.map Prod.fst) key) ++ [(key, l)] ++ K.drop (low lessB (K.map Prod.fst) key) := by unfold setK; rw [if_neg (by rw [ha]; decide)]
    have hK : K = K.take (low lessB (K.map Prod.fst) key) ++ K.drop (low lessB (K.map Prod.fst) key) := (List.take_append_drop _ _).symm
    rw [hd, hs]
    generalize K.take (low lessB (K.map Prod.fst) key) = A at *
    generalize K.drop (low lessB (K.map Prod.fst) key) = C at *
    subst hK
    have hC : ∀ x ∈ C, x.1 ≠ key := fun x hx => (ne_of_less (h2 x hx)).symm
    unfold withM
    rw [List.foldl_append, fold_under key l _ A [] h1]
    cases l with
    | nil =>
      rw [show List.isEmpty ([] : List Ver) = true from rfl, fold_done key _ C _ hC]
      simp
    | cons v l =>
      rw [show List.isEmpty (v :: l) = false from rfl, fold_over key _ C _ h2]
      cases C with
      | nil => simp
      | cons c C => simp
def insStep (v : Ver) (st : List Ver × Bool) (u : Ver) : List Ver × Bool :=
  (((if dotLt v.dot u.dot = true ∧ st.2 = false then st.1 ++ [v] else st.1) ++ if v.over u = true then [] else [u]), st.2 || dotLt v.dot u.dot)
def insM (l : List Ver) (v : Ver) : List Ver :=
  (l.foldl (insStep v) ([], v.gone)).1 ++ if (l.foldl (insStep v) ([], v.gone)).2 = true then [] else [v]
theorem ins_done (v : Ver) : ∀ (l out : List Ver), l.foldl (insStep v) (out, true) = (out ++ leftV l v, true)
  | [], out => by simp [leftV]
  | u :: l, out => by
    have : insStep v (out, true) u = (out ++ if v.over u = true then [] else [u], true) := by simp [insStep]
    rw [List.foldl_cons, this, ins_done v l]
    unfold leftV
    cases h : v.over u <;> simp [h]
theorem ins_under (v : Ver) (b : Bool) : ∀ (l out : List Ver), (∀ u ∈ l, dotLt v.dot u.dot = false) → l.foldl (insStep v) (out, b) = (out ++ leftV l v, b)
  | [], out, _ => by simp [leftV]
  | u :: l, out, h => by
    have hu := h u (List.mem_cons_self ..)
    have : insStep v (out, b) u = (out ++ if v.over u = true then [] else [u], b) := by simp [insStep, hu]
    rw [List.foldl_cons, this, ins_under v b l _ (fun x hx => h x (List.mem_cons_of_mem _ hx))]
    unfold leftV
    cases h : v.over u <;> simp [h]
theorem leftV_append (a b : List Ver) (v : Ver) : leftV (a ++ b) v = leftV a v ++ leftV b v := by simp [leftV]
theorem withV_of (A C : List Ver) (v : Ver) (h1 : ∀ u ∈ A, dotLt u.dot v.dot = true) (h2 : ∀ u ∈ C, dotLt v.dot u.dot = true) : withV (A ++ C) v = A ++ [v] ++ C := by
  have hl : low dotLt ((A ++ C).map Ver.dot) v.dot = A.length := by
    refine low_of dotLt v.dot _ _ (by simp) (fun k hk hki => ?_) (fun hk => ?_)
    · rw [List.getElem_map, List.getElem_append_left hki]
      exact h1 _ (List.getElem_mem _)
    · have hc : A.length < (A ++ C).length := by simpa using hk
      have hc' : 0 < C.length := by simp at hc; omega
      rw [List.getElem_map, List.getElem_append_right (Nat.le_refl _)]
      exact dotLt_strict.asym (h2 _ (List.getElem_mem _))
  unfold withV
  rw [hl]
  simp
theorem insM_eq {l : List Ver} (v : Ver) (h : AscV l) (hn : ∀ u ∈ l, u.dot ≠ v.dot) : insM l v = if v.gone = true then leftV l v else withV (leftV l v) v := by
  unfold insM
  cases hg : v.gone with
  | true => rw [ins_done]; simp
  | false =>
    have hl : l = l.take (low dotLt (l.map Ver.dot) v.dot) ++ l.drop (low dotLt (l.map Ver.dot) v.dot) := (List.take_append_drop _ _).symm
    have h1 : ∀ u ∈ l.take (low dotLt (l.map Ver.dot) v.dot), dotLt u.dot v.dot = true := by
      intro u hu
      obtain ⟨j, hj, rfl⟩ := List.getElem_of_mem hu
      rw [List.length_take] at hj
      have h1 : j < (l.map Ver.dot).length := by rw [List.length_map]; omega
      have := low_lt (lt := dotLt) (l := l.map Ver.dot) (b := v.dot) (k := j) h1 (by omega)
      rw [List.getElem_map] at this
      rw [List.getElem_take]
      exact this
    have h2 : ∀ u ∈ l.drop (low dotLt (l.map Ver.dot) v.dot), dotLt v.dot u.dot = true := by
      intro u hu
      obtain ⟨j, hj, rfl⟩ := List.getElem_of_mem hu
      rw [List.length_drop] at hj
      rw [List.getElem_drop]
      have hlt : low dotLt (l.map Ver.dot) v.dot < l.length := by omega
      have hge := low_ge (lt := dotLt) (l := l.map Ver.dot) (b := v.dot) (by simpa using hlt)
      rw [List.getElem_map] at hge
      have h0 := dotLt_strict.tri _ _ hge (hn _ (List.getElem_mem _))
      rcases Nat.eq_zero_or_pos j with e | e
      · subst e; exact h0
      · exact dotLt_strict.trans _ _ _ h0 (h.get (i := low dotLt (l.map Ver.dot) v.dot) (j := low dotLt (l.map Ver.dot) v.dot + j) (by omega) (by omega))
    generalize l.take (low dotLt (l.map Ver.dot) v.dot) = A at *
    generalize l.drop (low dotLt (l.map Ver.dot) v.dot) = C at *
    subst hl
    have e1 : ∀ u ∈ A, dotLt v.dot u.dot = false := fun u hu => dotLt_strict.asym (h1 u hu)
    have g1 : ∀ u ∈ leftV A v, dotLt u.dot v.dot = true := fun u hu => h1 u ((List.mem_filter.1 hu).1)
    have g2 : ∀ u ∈ leftV C v, dotLt v.dot u.dot = true := fun u hu => h2 u ((List.mem_filter.1 hu).1)
    rw [List.foldl_append, ins_under v false A [] e1, leftV_append]
    simp only [Bool.false_eq_true, if_false]
    rw [withV_of _ _ v g1 g2]
    cases C with
    | nil => simp [leftV]
    | cons c C =>
      have hc := h2 c (List.mem_cons_self ..)
      have : insStep v ([] ++ leftV A v, false) c = (leftV A v ++ [v] ++ (if v.over c = true then [] else [c]), true) := by simp [insStep, hc]
      rw [List.foldl_cons, this, ins_done]
      cases ho : v.over c <;> simp [leftV, ho]
structure VOk (u : Ver) : Prop where
  node : isNode u.node
  nat : u.Nat
  size : u.value.size ≤ 128
theorem numB_9 {n : Int} (h : isN n) : (numB n.toNat).length ≤ 9 := numB_len9 (by unfold isN at h; omega)
theorem nums_len : ∀ l : List Nat, (∀ x ∈ l, x < 9223372036854775808) → ((l.map numB).flatten).length ≤ 9 * l.length
  | [], _ => by simp
  | a :: l, h => by
    have := nums_len l (fun x hx => h x (List.mem_cons_of_mem _ hx))
    have h3 := numB_len9 (h a (List.mem_cons_self ..))
    simp only [List.map_cons, List.flatten_cons, List.length_append, List.length_cons]
    omega
theorem intsB_len (l : List Nat) (hl : ∀ x ∈ l, x < 9223372036854775808) (hn : l.length < 9223372036854775808) : (intsB l).length ≤ 9 + 9 * l.length := by
  unfold intsB
  rw [List.length_append]
  have h1 := numB_len9 hn
  have := nums_len l hl
  omega
theorem textB_len (s : ByteArray) (h : s.size < 1000000000) : (textB s.data.toList).length ≤ 9 + s.size := by
  have hs : s.data.toList.length = s.size := by rw [Array.length_toList]; rfl
  unfold textB
  rw [List.length_append, hs]
  have := numB_len9 (n := s.size) (by omega)
  omega
theorem verB_len {u : Ver} (h : VOk u) : (verB u).length ≤ 200 := by
  unfold verB
  simp only [List.length_append]
  have h1 := numB_9 h.nat.node
  have h2 := numB_9 h.nat.seq
  have h3 := intsB_len [u.o0.toNat, u.o1.toNat, u.o2.toNat, u.o3.toNat] (by
    have a := h.nat.o0; have b := h.nat.o1; have c := h.nat.o2; have d := h.nat.o3
    unfold isN at a b c d
    intro x hx
    simp only [List.mem_cons, List.not_mem_nil, or_false] at hx
    rcases hx with rfl | rfl | rfl | rfl <;> omega) (by simp only [List.length_cons, List.length_nil]; omega)
  have h4 := textB_len u.value h.nat.size
  have := h.size
  simp only [List.length_cons, List.length_nil] at h3
  omega
theorem versB_len (l : List Ver) (h : ∀ u ∈ l, VOk u) (hl : l.length ≤ 5) : (versB l).length ≤ 1009 := by
  unfold versB
  rw [List.length_append]
  have h1 := numB_len9 (n := l.length) (by omega)
  have h2 : ∀ l : List Ver, (∀ u ∈ l, VOk u) → ((l.map verB).flatten).length ≤ 200 * l.length := by
    intro l
    induction l with
    | nil => intro _; simp
    | cons a l ih =>
      intro h
      have := ih (fun x hx => h x (List.mem_cons_of_mem _ hx))
      have h3 := verB_len (h a (List.mem_cons_self ..))
      simp only [List.map_cons, List.flatten_cons, List.length_append, List.length_cons]
      omega
  have := h2 l h
  omega
theorem recB_len (l : List UInt8) (h : l.length < 9223372036854775808) : (recB l).length ≤ 9 + l.length := by
  unfold recB
  rw [List.length_append]
  have := numB_len9 h
  omega
theorem strOf_size (l : List UInt8) : (strOf l).size = l.length := rfl
theorem rec_lease {n : Nat} (h : n < 9223372036854775808) : (recOf (.inl n)).size ≤ 2000 := by
  show (strOf (leaseB n)).size ≤ 2000
  rw [strOf_size]
  unfold leaseB
  have h1 := numB_len9 (n := 1) (by decide)
  have h2 := numB_len9 h
  have h3 := recB_len (numB 1 ++ numB n) (by rw [List.length_append]; omega)
  rw [List.length_append] at h3
  omega
theorem rec_holds {key : ByteArray} {l : List Ver} (hk : keyOk key = true) (h : ∀ u ∈ l, VOk u) (hl : l.length ≤ 5) : (recOf (.inr (.inl (key, l)))).size ≤ 2000 := by
  show (strOf (holdsB key l)).size ≤ 2000
  rw [strOf_size]
  unfold keyOk at hk
  simp only [decide_eq_true_eq] at hk
  unfold holdsB
  have h1 := numB_len9 (n := 2) (by decide)
  have h2 := textB_len key (by omega)
  have h3 := versB_len l h hl
  have h4 := recB_len (numB 2 ++ (textB key.data.toList ++ versB l)) (by simp only [List.length_append]; omega)
  simp only [List.length_append] at h4
  omega
theorem rec_queued {to : Nat} {text : ByteArray} (h : to < 9223372036854775808) (hs : text.size ≤ 64) : (recOf (.inr (.inr (.inl (to, text))))).size ≤ 2000 := by
  show (strOf (queuedB to text)).size ≤ 2000
  rw [strOf_size]
  unfold queuedB
  have h1 := numB_len9 (n := 3) (by decide)
  have h2 := textB_len text (by omega)
  have h3 := numB_len9 h
  have h4 := recB_len (numB 3 ++ (numB to ++ textB text.data.toList)) (by simp only [List.length_append]; omega)
  simp only [List.length_append] at h4
  omega
theorem rec_acked : (recOf (.inr (.inr (.inr ())))).size ≤ 2000 := by
  show (strOf ackedB).size ≤ 2000
  rw [strOf_size]
  unfold ackedB
  have h1 := numB_len9 (n := 4) (by decide)
  have h4 := recB_len (numB 4) (by omega)
  omega
theorem fok_holds {key : ByteArray} {l : List Ver} (hk : keyOk key = true) (h : ∀ u ∈ l, VOk u) (hl : l.length ≤ 5) : FOk (.inr (.inl (key, l))) := by
  unfold keyOk at hk
  simp only [decide_eq_true_eq] at hk
  have := versB_len l h hl
  exact ⟨fun v hv => (h v hv).nat, by show l.length < _; omega, by show key.size < _; omega, by show (versB l).length ≤ _; omega⟩
structure HeldOk (S : SM) : Prop where
  asc : AscK S.keys
  key : ∀ e ∈ S.keys, AscV e.2 ∧ e.2.length ≤ 4 ∧ ∀ u ∈ e.2, VOk u
  hlen : S.hints.length ≤ 32
theorem getK_mem (K : Keys) (key : ByteArray) : getK K key = [] ∨ ∃ e ∈ K, e.1 = key ∧ e.2 = getK K key := by
  cases ha : isAt lessB (K.map Prod.fst) key with
  | false => exact .inl (by unfold getK; rw [ha]; rfl)
  | true =>
    obtain ⟨l, hs, hg⟩ := split_at ha
    refine .inr ⟨(key, l), ?_, rfl, hg.symm⟩
    rw [hs]
    simp
theorem HeldOk.get {S : SM} (h : HeldOk S) (key : ByteArray) : AscV (getK S.keys key) ∧ (getK S.keys key).length ≤ 4 ∧ ∀ u ∈ getK S.keys key, VOk u := by
  rcases getK_mem S.keys key with e | ⟨e, he, _, h2⟩
  · rw [e]
    exact ⟨List.Pairwise.nil, by simp, fun u hu => absurd hu (by simp)⟩
  · rw [← h2]
    exact h.key e he
theorem setK_mem {K : Keys} {key : ByteArray} {l : List Ver} : ∀ e ∈ setK K key l, e ∈ K ∨ e = (key, l) := by
  intro e he
  simp only [setK, List.mem_append, List.mem_singleton] at he
  rcases he with (he | rfl) | he
  · exact .inl (List.mem_of_mem_take he)
  · exact .inr rfl
  · exact .inl (List.mem_of_mem_drop he)
theorem delK_mem {K : Keys} {key : ByteArray} : ∀ e ∈ delK K key, e ∈ K := by
  intro e he
  unfold delK at he
  split at he
  · rcases List.mem_append.1 he with he | he
    · exact List.mem_of_mem_take he
    · exact List.mem_of_mem_drop he
  · exact he
theorem setK_asc {K : Keys} (key : ByteArray) (l : List Ver) (h : AscK K) : AscK (setK K key l) := by
  unfold AscK at h ⊢
  cases ha : isAt lessB (K.map Prod.fst) key with
  | true =>
    obtain ⟨l0, hs, _⟩ := split_at ha
    have e : (setK K key l).map Prod.fst = K.map Prod.fst := by
      have e2 : K.map Prod.fst = (K.take (low lessB (K.map Prod.fst) key) ++ (key, l0) :: K.drop (low lessB (K.map Prod.fst) key + 1)).map Prod.fst := congrArg (List.map Prod.fst) hs
      unfold setK
      rw [if_pos ha]
      conv => rhs; rw [e2]
      simp
    rw [e]
    exact h
  | false =>
    have := Asc.ins lessB_strict (b := key) h (fun hl e => by rw [isAt_lt hl, e] at ha; rw [eqB_iff.2 rfl] at ha; cases ha)
    unfold setK
    simp only [ha, Bool.false_eq_true, if_false]
    simpa [List.map_take, List.map_drop] using this
theorem delK_asc {K : Keys} (key : ByteArray) (h : AscK K) : AscK (delK K key) := by
  unfold AscK at h ⊢
  unfold delK
  split
  · have := Asc.del h (low lessB (K.map Prod.fst) key)
    simpa [List.map_take, List.map_drop] using this
  · exact h
theorem setK_len (K : Keys) (key : ByteArray) (l : List Ver) : (setK K key l).length ≤ K.length + 1 := by
  unfold setK
  simp only [List.length_append, List.length_take, List.length_drop, List.length_singleton]
  split <;> omega
theorem delK_len (K : Keys) (key : ByteArray) : (delK K key).length ≤ K.length := by
  unfold delK
  split
  · simp only [List.length_append, List.length_take, List.length_drop]; omega
  · exact Nat.le_refl _
theorem HeldOk.holds {S : SM} (h : HeldOk S) (key : ByteArray) (l : List Ver) (ha : AscV l) (hl : l.length ≤ 4) (hv : ∀ u ∈ l, VOk u) : HeldOk (S.holds key l) := by
  unfold SM.holds
  split
  · exact ⟨delK_asc key h.asc, fun e he => h.key e (delK_mem e he), h.hlen⟩
  · exact ⟨setK_asc key l h.asc, fun e he => (setK_mem e he).elim (h.key e) (fun e2 => by subst e2; exact ⟨ha, hl, hv⟩), h.hlen⟩
theorem holds_len (S : SM) (key : ByteArray) (l : List Ver) : (S.holds key l).keys.length ≤ S.keys.length + 1 := by
  unfold SM.holds
  simp only
  split
  · exact Nat.le_succ_of_le (delK_len S.keys key)
  · exact setK_len S.keys key l
theorem HeldOk.leased {S : SM} (h : HeldOk S) (n : Nat) : HeldOk { S with leased := n } := ⟨h.asc, h.key, h.hlen⟩
structure Goes (T : Nat) (M : DM) (J J' : JM) (M' : DM) (t : Nat) (P : Nat → Prop) : Prop where
  log : LogInv T J' M' t
  limit : J'.limit = J.limit
  calls : M.calls ≤ M'.calls
  refused : M'.refused = M.refused
  fulls : M'.fulls = M.fulls
  ids : ∀ g ∈ M'.ids, P g ∨ g ∈ M.ids
theorem Goes.trans {T : Nat} {M1 M2 M3 : DM} {J1 J2 J3 : JM} {t u : Nat} {P Q R : Nat → Prop} (h : Goes T M1 J1 J2 M2 t P) (k : Goes T M2 J2 J3 M3 u Q) (hp : ∀ g, P g → R g) (hq : ∀ g, Q g → R g) : Goes T M1 J1 J3 M3 u R :=
  ⟨k.log, k.limit.trans h.limit, Int.le_trans h.calls k.calls, k.refused.trans h.refused, k.fulls.trans h.fulls, fun g hg => (k.ids g hg).elim (fun e => .inl (hq g e)) (fun e => (h.ids g e).imp (hp g) id)⟩
theorem write_calm {T : Nat} {N : NM} {M : DM} {t : Nat} (h : LogInv T N.J M t) (ht : t + 2 ≤ T) (x : Fact) (hx : (recOf x).size ≤ 2000) (f : Nat) (hf : f ∉ M.ids) :
    ∃ J' M', N.write M x f = (none, { N with J := J', S := N.S.enter x }, M') ∧ Goes T M N.J J' M' (t + 2) (· = f) := by
  obtain ⟨J', M', e, h1, h2, h3, h4, h5, h6⟩ := h.append ht (recOf x) hx f hf
  refine ⟨J', M', ?_, h1, h2, h3, h4, h5, h6⟩
  unfold NM.write
  rw [e]
  simp only [if_true]
theorem sync_calm {T : Nat} {N : NM} {M : DM} {t : Nat} (h : LogInv T N.J M t) (ht : t ≤ T) :
    ∃ J' M', N.sync M = (none, { N with J := J' }, M') ∧ Goes T M N.J J' M' (t + 1) (fun _ => False) := by
  obtain ⟨J', M', e, h1, h2, h3, h4, h5, h6⟩ := h.syncAll ht
  refine ⟨J', M', ?_, h1, h2, h3, h4, h5, fun g hg => .inr (h6 ▸ hg)⟩
  unfold NM.sync
  rw [e]
theorem counted_calm {T : Nat} {N : NM} {M : DM} {t : Nat} (h : LogInv T N.J M t) (ht : t ≤ T) :
    ∃ J' M' wr, N.counted M = (none, { N with J := J', writes := wr }, M') ∧ wr ≤ N.writes + 1 ∧ Goes T M N.J J' M' (t + 1) (fun _ => False) := by
  unfold NM.counted
  split
  · have := h.calls1 M.calls (by omega) (by have := h.calls; omega)
    exact ⟨N.J, M, N.writes + 1, rfl, Nat.le_refl _, this, rfl, Int.le_refl _, rfl, rfl, fun g hg => .inr hg⟩
  · obtain ⟨J', M', e, hg⟩ := sync_calm (N := { N with writes := 0 }) h ht
    exact ⟨J', M', 0, e, Nat.zero_le _, hg⟩
theorem change_calm {T : Nat} {N : NM} {M : DM} {t : Nat} (h : LogInv T N.J M t) (ht : t + 2 ≤ T) (x : Fact) (hx : (recOf x).size ≤ 2000) (f : Nat) (hf : f ∉ M.ids) :
    ∃ J' M' wr, N.change M x f = (none, { N with J := J', S := N.S.enter x, writes := wr }, M') ∧ wr ≤ N.writes + 1 ∧ Goes T M N.J J' M' (t + 3) (· = f) := by
  obtain ⟨J1, M1, e1, g1⟩ := write_calm h (by omega) x hx f hf
  obtain ⟨J2, M2, wr, e2, hw, g2⟩ := counted_calm (N := { N with J := J1, S := N.S.enter x }) g1.log (by omega)
  refine ⟨J2, M2, wr, ?_, hw, g1.trans g2 (fun _ e => e) (fun _ e => absurd e id)⟩
  unfold NM.change
  rw [e1]
  exact e2
theorem asked_calm {T : Nat} {N : NM} {M : DM} {t : Nat} (h : LogInv T N.J M t) (ht : t + 2 ≤ T) (x : Fact) (hx : (recOf x).size ≤ 2000) (f : Nat) (hf : f ∉ M.ids) :
    ∃ J' M' wr, N.asked M x f = (0, { N with J := J', S := N.S.enter x, writes := wr }, M') ∧ wr ≤ N.writes + 1 ∧ Goes T M N.J J' M' (t + 3) (· = f) := by
  obtain ⟨J1, M1, wr, e1, hw, g1⟩ := change_calm h ht x hx f hf
  refine ⟨J1, M1, wr, ?_, hw, g1⟩
  unfold NM.asked
  rw [e1, ans_none]
  rfl
theorem lease_calm {T : Nat} {N : NM} {M : DM} {t : Nat} (h : LogInv T N.J M t) (ht : t + 2 ≤ T) (hg : N.given < 1000000000000) (f : Nat) (hf : f ∉ M.ids) :
    ∃ J' M', N.lease M f = (none, { N with J := J', S := { N.S with leased := N.given + 16 } }, M') ∧ Goes T M N.J J' M' (t + 3) (· = f) := by
  obtain ⟨J1, M1, e1, g1⟩ := write_calm h (by omega) (.inl (N.given + 16)) (rec_lease (by omega)) f hf
  obtain ⟨J2, M2, e2, g2⟩ := sync_calm (N := { N with J := J1, S := N.S.enter (.inl (N.given + 16)) }) g1.log (by omega)
  refine ⟨J2, M2, ?_, g1.trans g2 (fun _ e => e) (fun _ e => absurd e id)⟩
  unfold NM.lease
  rw [e1]
  exact e2
theorem LogInv.more {T : Nat} {J : JM} {M : DM} {t u : Nat} (h : LogInv T J M t) (hu : t ≤ u) : LogInv T J M u := by
  obtain ⟨k, rfl⟩ := Nat.le.dest hu
  clear hu
  induction k with
  | zero => exact h
  | succ k ih => exact ih.calls1 M.calls (Int.le_refl _) (by have := ih.calls; omega)
theorem next_calm {T : Nat} {N : NM} {M : DM} {t : Nat} (h : LogInv T N.J M t) (ht : t + 2 ≤ T) (hg : N.given < 1000000000000) (f : Nat) (hf : f ∉ M.ids) :
    ∃ J' M' ls, N.next M f = (none, N.given + 1, { N with J := J', S := { N.S with leased := ls }, given := N.given + 1 }, M') ∧ Goes T M N.J J' M' (t + 3) (· = f) := by
  unfold NM.next
  split
  · exact ⟨N.J, M, N.S.leased, rfl, h.more (by omega), rfl, Int.le_refl _, rfl, rfl, fun g hg => .inr hg⟩
  · obtain ⟨J1, M1, e1, g1⟩ := lease_calm h ht hg f hf
    refine ⟨J1, M1, N.given + 16, ?_, g1⟩
    rw [e1]
theorem replace_calm {T : Nat} {N : NM} {M : DM} {t : Nat} (h : LogInv T N.J M t) (ht : t + 5 ≤ T) (hgv : N.given < 1000000000000) (key : ByteArray) (vs : NM → Nat → List Ver) (l : List Ver) (f g : Nat) (hf : f ∉ M.ids) (hg : g ∉ M.ids) (ha : Apart2 N M f g)
    (hv : ∀ N1 : NM, N1.S.keys = N.S.keys → N1.self = N.self → vs N1 (N.given + 1) = l) (hrec : (recOf (.inr (.inl (key, l)))).size ≤ 2000) :
    ∃ J' M' ls wr, N.replace M key vs f g = (N.given + 1, 0, { N with J := J', S := { N.S with leased := ls }.holds key l, given := N.given + 1, writes := wr }, M') ∧ wr ≤ N.writes + 1 ∧ Goes T M N.J J' M' (t + 6) (fun k => k = f ∨ k = g) := by
  obtain ⟨J1, M1, ls, e1, g1⟩ := next_calm h (by omega) hgv f hf
  have hg1 : g ∉ M1.ids := fun hm => by
    rcases g1.ids g hm with e | e
    · subst e
      have := ha rfl
      rw [e1] at this
      exact this hm
    · exact hg e
  have hl := hv { N with J := J1, S := { N.S with leased := ls }, given := N.given + 1 } rfl rfl
  obtain ⟨J2, M2, wr, e2, hw, g2⟩ := change_calm (N := { N with J := J1, S := { N.S with leased := ls }, given := N.given + 1 }) g1.log (by omega) (.inr (.inl (key, l))) hrec g hg1
  refine ⟨J2, M2, ls, wr, ?_, hw, g1.trans g2 (fun _ e => .inl e) (fun _ e => .inr e)⟩
  unfold NM.replace NM.asked
  rw [e1]
  simp only [hl]
  rw [e2]
  simp only [ans_none]
  rfl
theorem fit_calm {T : Nat} {N : NM} {M : DM} {t : Nat} (h : LogInv T N.J M t) (ht : t ≤ T) (H : Nat) (hH : ∀ g ∈ M.ids, g < H) (x : Fact) (hx : FOk x) (hx2 : (recOf x).size ≤ 2000) (hk : N.S.keys.length ≤ 100000000) (hh : N.S.hints.length ≤ 32) (hw : N.writes ≤ 100000000) : Fit N M H x :=
  ⟨hx, h.ok (by omega) H _ hx2 hH, by omega, by omega, by omega⟩
theorem fitN_calm {T : Nat} {N : NM} {M : DM} {t : Nat} (h : LogInv T N.J M t) (ht : t + 5 ≤ T) (H : Nat) (hH : ∀ g ∈ M.ids, g < H) (key : ByteArray) (vs : NM → Nat → List Ver) (l : List Ver) (hgv : N.given < 1000000000)
    (hv : ∀ N1 : NM, N1.S.keys = N.S.keys → N1.self = N.self → vs N1 (N.given + 1) = l) (hx : FOk (.inr (.inl (key, l)))) (hrec : (recOf (.inr (.inl (key, l)))).size ≤ 2000) (hk : N.S.keys.length ≤ 100000000) (hh : N.S.hints.length ≤ 32) (hw : N.writes ≤ 100000000) : FitN N M H key vs where
  log := h.ok (by omega) H _ (rec_lease (by omega)) hH
  keys := by omega
  hints := by omega
  given := by omega
  fact := fun f hf H' _ hids => by
    obtain ⟨J1, M1, ls, e1, g1⟩ := next_calm h (by omega) (by omega) f (fun hm => by have := hH f hm; omega)
    rw [e1] at hids ⊢
    simp only at hids ⊢
    rw [hv { N with J := J1, S := { N.S with leased := ls }, given := N.given + 1 } rfl rfl]
    exact fit_calm (N := { N with J := J1, S := { N.S with leased := ls }, given := N.given + 1 }) g1.log (by omega) H' hids _ hx hrec hk hh hw
end Go.Proofs.YtkhnggkkiefcdaaGreatDoor
namespace Go.Proofs.YtkhnggkkiefcdaaGreatDoor
open Go.RowKit Go.Shelf
set_option maxRecDepth 100000
attribute [local go_sem] Oper.semAt_some
def KeepX (X : Nat → Prop) (W W' : World) : Prop := ∀ k, X k → W'.heap[k]? = W.heap[k]?
theorem KeepX.refl (X : Nat → Prop) (W : World) : KeepX X W W := fun _ _ => rfl
theorem KeepX.trans {X : Nat → Prop} {A B C : World} (h : KeepX X A B) (k : KeepX X B C) : KeepX X A C := fun i hi => (k i hi).trans (h i hi)
theorem KeepX.own {X : Nat → Prop} {W W' : World} {base : Nat} {e : TypeId} {size : Nat} {v : Value} {n : Nat} {xs : List Value} (h : KeepX X W W') (ho : W.ownsRow base e size v n xs) (hx : ∀ k, v.ownBlock = some k → X k) : W'.ownsRow base e size v n xs := by
  refine ⟨ho.1, ?_⟩
  rcases ho.2 with h2 | ⟨g, cap, cur, rfl, hb, hg, r⟩
  · exact .inl h2
  · exact .inr ⟨g, cap, cur, rfl, hb, by rw [h g (hx g rfl)]; exact hg, r⟩
theorem KeepX.of_fr {X S : Nat → Prop} {W W' : World} (f : Fr S W W') (h : ∀ k, X k → k < W.heap.size ∧ ¬ S k) : KeepX X W W' := fun k hk => f.block k (h k hk).1 (h k hk).2
theorem allS_calls (mb : Nat) (w : World) :
    Calls Tryz.prog 182 #[.pointer (some ⟨mb, 0, none⟩)] w fun e w' =>
      e = .returned (.func (.func 217) #[] #[.pointer (some ⟨w.heap.size, 0, none⟩)]) ∧ w' = w.alloc (.cells #[.pointer (some ⟨mb, 0, none⟩)] 236) := by
  go_enter Tryz.func182, Tryz.ntmps182
  go_wp2
  go_ret
  exact ⟨rfl, rfl⟩
set_option maxHeartbeats 2000000 in
theorem allS1_in (F : Fence) (n : Nat) (hF : F.fn 217) (hro : F.round = none) (hn : 1 ≤ n) (l Bs mb : Nat) (v : Value) (es : List (ByteArray × Value)) (X : Nat → Prop) (J Jx : List (ByteArray × Value) → World → Prop)
    (W : World) (hl : es.length < 4611686018427387904)
    (hJ : AbidesFrom W.heap.size J) (hX : ∀ k, X k → k < W.heap.size) (hXv : ∀ k, v.ownBlock = some k → X k)
    (hform : ∀ e ∈ es, ∃ a m c, e.2 = .slice a m c)
    (hY : ∀ pre x W1, J pre W1 → pre.length < es.length → YieldAt F (n - 1) Tryz.prog l #[.string x.1, x.2] W1 fun e W' =>
      (e = .returned (.bool true) ∧ J (pre ++ [x]) W' ∧ KeepX X W1 W' ∧ W1.heap.size ≤ W'.heap.size) ∨ (e = .returned (.bool false) ∧ Jx (pre ++ [x]) W'))
    (hBs : W.cell? ⟨Bs, 0, none⟩ = some (.pointer (some ⟨mb, 0, none⟩))) (hmb : W.cell? ⟨mb, 0, none⟩ = some v) (hv : W.ownsRow 0 239 2 v es.length (flatE es)) (h0 : J [] W) :
    CallsIn F n Tryz.prog 217 #[.func (.yield l) #[] #[], .pointer (some ⟨Bs, 0, none⟩)] W fun e W' => (∃ r, e = .returned r) ∧
      ((∃ ys, ys = es ∧ J ys W') ∨ (∃ pre, pre <+: es ∧ Jx pre W')) := by
  obtain ⟨a0, cap, rfl⟩ := own_form hv
  refine callsIn_of_wp Tryz.func217 rfl hF ?_ hro
  simp only [Tryz.ntmps217, List.size_toArray, List.length_cons, List.length_nil, Nat.reduceAdd, Nat.reduceSub, Array.replicate_succ, Array.replicate_zero, List.push_toArray, List.append_toArray, List.nil_append, List.cons_append]
  gi_wp2
  gi_loopw [10] (fun i wr => ∃ k : Nat, k ≤ es.length ∧ i = .int .i64 k ∧ J (es.take k) wr ∧ KeepX X W wr ∧ W.heap.size ≤ wr.heap.size)
    (fun i _ => es.length - (intOf i).toNat)
  case atStart => exact ⟨0, Nat.zero_le _, rfl, by simpa using h0, KeepX.refl _ _, Nat.le_refl _⟩
  case round =>
    obtain ⟨k, hk, rfl, hJs, hkx, hsz⟩ := hrel
    by_cases hlt : k < es.length
    · have hvr := hkx.own hv hXv
      obtain ⟨g, cap', hg, _, _⟩ := own_some hvr (by omega)
      obtain ⟨rfl, rfl⟩ : a0 = some ⟨g, 0, none⟩ ∧ cap = cap' := by simpa using hg
      obtain ⟨a1, m1, c1, he⟩ := hform es[k] (List.getElem_mem hlt)
      have hc0 := own_cell? hvr (k * 2) _ (flatE_get es k hlt).1
      have hc1 := own_cell? hvr (k * 2 + 1) _ (flatE_get es k hlt).2
      rw [he] at hc1
      have hJb : J (es.take k) (wr.alloc (.cells #[.string es[k].1, .slice a1 m1 c1] 239)) := hJ _ _ _ none hJs (World.grownBy_alloc ..) (fun r e => by cases e)
      obtain ⟨fn, tmps, assign, body, hy, hR⟩ := hY (es.take k) es[k] _ hJb (by simp; omega)
      rw [he] at hy
      have HT : Hid (es.take (k + 1) = es.take k ++ [es[k]]) := List.take_succ_eq_append_getElem hlt
      have HKB : Hid (KeepX X W (wr.alloc (.cells #[.string es[k].1, .slice a1 m1 c1] 239))) := hkx.trans (fun k hk => Below.heap_alloc _ _ _ (by have := hX k hk; omega))
      have HJS := hide hJs
      have HR := hide hR
      clear hJb hJs hR he
      gi_wp2
      refine HR.out.mono ?_
      rintro e W3 (⟨rfl, hJ3, hk3, hs3⟩ | ⟨rfl, hJx3⟩)
      · gi_wp2
        go_roundw
        case rel => exact ⟨k + 1, by omega, by simp, by rw [HT.out]; exact hJ3, HKB.out.trans hk3, by have := hs3; simp at this; omega⟩
        case measure => simp [intOf]; omega
      · gi_wp2
        refine bodyPost_ret (results_none rfl _ _ _) rfl ?_
        exact ⟨⟨_, rfl⟩, .inr ⟨_, ⟨es.drop (k + 1), by rw [← HT.out, List.take_append_drop]⟩, hJx3⟩⟩
    · obtain rfl : k = es.length := by omega
      rw [List.take_length] at hJs
      gi_wp2
      go_end0
      exact ⟨⟨_, rfl⟩, .inl ⟨_, rfl, hJs⟩⟩
def KpX (X : Nat → Prop) (W W' : World) : Prop := KeepX X W W' ∧ W.heap.size ≤ W'.heap.size
theorem allS_stops (F : Fence) (n : Nat) (hF : F.fn 217) (hro : F.round = none) (hn : 1 ≤ n) (Bs mb : Nat) (v : Value) (es : List (ByteArray × Value)) (X : Nat → Prop)
    (w : World) (hl : es.length < 4611686018427387904) (hX : ∀ k, X k → k < w.heap.size) (hBl : Bs < w.heap.size) (hml : mb < w.heap.size) (hXv : ∀ k, v.ownBlock = some k → X k)
    (hform : ∀ e ∈ es, ∃ a m c, e.2 = .slice a m c) (hBs : w.cell? ⟨Bs, 0, none⟩ = some (.pointer (some ⟨mb, 0, none⟩))) (hmb : w.cell? ⟨mb, 0, none⟩ = some v) (hv : w.ownsRow 0 239 2 v es.length (flatE es)) :
    SeqStopsK F n Tryz.prog 217 #[.pointer (some ⟨Bs, 0, none⟩)] (fun x : ByteArray × Value => #[.string x.1, x.2]) (KpX X) (fun ys => ys = es) (fun pre => pre <+: es) es.length w := by
  intro l J Jx W hW hJ hJx hY h0
  have hk : KeepX X w W := fun k hk => hW.block k (hX k hk)
  exact allS1_in F n hF hro hn l Bs mb v es X J Jx W hl hJ (fun k hk => Nat.lt_of_lt_of_le (hX k hk) hW.size) hXv hform hY ((hW.cell (p := ⟨Bs, 0, none⟩) hBl).trans hBs) ((hW.cell (p := ⟨mb, 0, none⟩) hml).trans hmb) (hk.own hv hXv) h0
theorem KpX.trans {X : Nat → Prop} {A B C : World} (h : KpX X A B) (k : KpX X B C) : KpX X A C := ⟨h.1.trans k.1, Nat.le_trans h.2 k.2⟩
theorem KpX.put {X : Nat → Prop} {w : World} (hX : ∀ k, X k → k < w.heap.size) (W : World) (l : Nat) (o o' : Obj) (h : w.heap.size ≤ l) (_ : W.heap[l]? = some o) (_ : o.isCells = false) (_ : o.isWalk = false) : KpX X W (W.putObj l o') :=
  ⟨fun k hk => World.putObj_heap_other (fun e => by have := hX k hk; omega), by simp⟩
end Go.Proofs.YtkhnggkkiefcdaaGreatDoor
namespace Go.Proofs.YtkhnggkkiefcdaaGreatDoor
open Go.RowKit
set_option maxRecDepth 100000
structure LM where
  node : Int
  keys : Keys
  hints : List (Nat × ByteArray)
structure MAt (w : World) (p : Nat) (kv hv : Value) (ents : List (ByteArray × Value)) (m : LM) : Prop where
  blk : Blk w p [.int .i64 m.node, kv, hv] 107
  ent : w.ownsRow 0 186 2 kv ents.length (flatE ents)
  pair : Pair (VRow w) ents m.keys
  hint : w.ownsRow 0 75 2 hv m.hints.length (flatH m.hints)
def MBlk (p : Nat) (kv hv : Value) (ents : List (ByteArray × Value)) (k : Nat) : Prop := k = p ∨ kv.ownBlock = some k ∨ hv.ownBlock = some k ∨ ∃ e ∈ ents, e.2.ownBlock = some k
def MRep (K : Nat → Prop) (w : World) (p : Nat) (m : LM) : Prop := ∃ kv hv ents, MAt w p kv hv ents m ∧ ∀ k, MBlk p kv hv ents k → K k
theorem KeepX.blk {X : Nat → Prop} {W W' : World} (h : KeepX X W W') {b : Nat} {c : List Value} {t : TypeId} (hb : Blk W b c t) (hx : X b) : Blk W' b c t := hb.of_heap (h b hx)
theorem MAt.keep {w w' : World} {p : Nat} {kv hv : Value} {ents : List (ByteArray × Value)} {m : LM} {X : Nat → Prop} (h : MAt w p kv hv ents m) (hk : KeepX X w w') (hx : ∀ k, MBlk p kv hv ents k → X k) : MAt w' p kv hv ents m :=
  ⟨hk.blk h.blk (hx _ (.inl rfl)), hk.own h.ent (fun _ e => hx _ (.inr (.inl e))), h.pair.mono (fun a ha _ hl => hk.own hl (fun _ e => hx _ (.inr (.inr (.inr ⟨a, ha, e⟩))))), hk.own h.hint (fun _ e => hx _ (.inr (.inr (.inl e))))⟩
theorem MRep.keep {K X : Nat → Prop} {w w' : World} {p : Nat} {m : LM} (h : MRep K w p m) (hk : KeepX X w w') (hx : ∀ k, K k → X k) : MRep K w' p m := by
  obtain ⟨kv, hv, ents, ha, hb⟩ := h
  exact ⟨kv, hv, ents, ha.keep hk (fun k hk => hx k (hb k hk)), hb⟩
theorem MRep.mono {K K' : Nat → Prop} {w : World} {p : Nat} {m : LM} (h : MRep K w p m) (hk : ∀ k, K k → K' k) : MRep K' w p m := by
  obtain ⟨kv, hv, ents, ha, hb⟩ := h
  exact ⟨kv, hv, ents, ha, fun k e => hk k (hb k e)⟩
theorem KeepX.nil {X : Nat → Prop} {w w' : World} (f : Fr Nil w w') (hx : ∀ k, X k → k < w.heap.size) : KeepX X w w' := KeepX.of_fr f (fun k hk => ⟨hx k hk, id⟩)
theorem MAt.lt {w : World} {p : Nat} {kv hv : Value} {ents : List (ByteArray × Value)} {m : LM} (h : MAt w p kv hv ents m) : ∀ k, MBlk p kv hv ents k → k < w.heap.size := by
  intro k hk
  rcases hk with rfl | e | e | ⟨a, ha, e⟩
  · exact h.blk.lt
  · exact own_lt h.ent e
  · exact own_lt h.hint e
  · obtain ⟨l, hl⟩ := h.pair.mem a ha
    exact own_lt hl e
theorem MAt.nil {w w' : World} {p : Nat} {kv hv : Value} {ents : List (ByteArray × Value)} {m : LM} (h : MAt w p kv hv ents m) (f : Fr Nil w w') : MAt w' p kv hv ents m := h.keep (KeepX.nil f h.lt) (fun _ e => e)
set_option maxHeartbeats 800000 in
theorem overridesR_calls (v u : Ver) (hu : isNode u.node) (w : World) :
    Calls Tryz.prog 159 #[.agg v.cells.toArray, .agg u.cells.toArray] w fun e w' => e = .returned (.bool (v.over u)) ∧ Fr Nil w w' := by
  obtain ⟨n, s, a0, a1, a2, a3, x, g⟩ := v
  obtain ⟨node, seq, b0, b1, b2, b3, y, gone⟩ := u
  unfold isNode at hu
  simp only at hu
  have hcs : node = 0 ∨ node = 1 ∨ node = 2 ∨ node = 3 := by omega
  have hf : Fr Nil w ((w.alloc (.cells #[.int .i64 n, .int .i64 s, .int .i64 a0, .int .i64 a1, .int .i64 a2, .int .i64 a3, .string x, .bool g] 37)).alloc (.cells #[.int .i64 node, .int .i64 seq, .int .i64 b0, .int .i64 b1, .int .i64 b2, .int .i64 b3, .string y, .bool gone] 37)) := ((Fr.refl _ _).alloc _).alloc _
  simp only [Ver.cells]
  clear hu
  rcases hcs with rfl | rfl | rfl | rfl
  all_goals
    go_enter Tryz.func159, Tryz.ntmps159
    go_wp2_with fail
    go_quiet (fail)
    go_wp2
    go_ret
    refine ⟨?_, (by repeat' first | (with_reducible first | exact Fr.refl _ _ | assumption | refine Fr.drewN ?_ _ | refine Fr.drew ?_ | refine Fr.alloc ?_ _ | refine Fr.set ?_ ?_ _) | (intro _; rfl))⟩
    simp [Ver.over, Ver.ov]
set_option maxHeartbeats 800000 in
theorem before_calls (a b c d : Int) (w : World) :
    Calls Tryz.prog 160 #[.agg #[.int .i64 a, .int .i64 b], .agg #[.int .i64 c, .int .i64 d]] w fun e w' => e = .returned (.bool (dotLt (a, b) (c, d))) ∧ Fr Nil w w' := by
  have hf : Fr Nil w ((w.alloc (.cells #[.int .i64 a, .int .i64 b] 34)).alloc (.cells #[.int .i64 c, .int .i64 d] 34)) := ((Fr.refl _ _).alloc _).alloc _
  by_cases h1 : a < c
  · go_enter Tryz.func160, Tryz.ntmps160
    go_wp2
    go_ret
    exact ⟨by simp [dotLt, h1], (by repeat' first | (with_reducible first | exact Fr.refl _ _ | assumption | refine Fr.drewN ?_ _ | refine Fr.drew ?_ | refine Fr.alloc ?_ _ | refine Fr.set ?_ ?_ _) | (intro _; rfl))⟩
  · by_cases h2 : a = c
    · subst h2
      go_enter Tryz.func160, Tryz.ntmps160
      go_wp2
      go_ret
      exact ⟨by simp [dotLt], (by repeat' first | (with_reducible first | exact Fr.refl _ _ | assumption | refine Fr.drewN ?_ _ | refine Fr.drew ?_ | refine Fr.alloc ?_ _ | refine Fr.set ?_ ?_ _) | (intro _; rfl))⟩
    · have h3 : (a == c) = false := by simp [h2]
      go_enter Tryz.func160, Tryz.ntmps160
      go_wp2
      go_ret
      exact ⟨by simp [dotLt, h1, h2], (by repeat' first | (with_reducible first | exact Fr.refl _ _ | assumption | refine Fr.drewN ?_ _ | refine Fr.drew ?_ | refine Fr.alloc ?_ _ | refine Fr.set ?_ ?_ _) | (intro _; rfl))⟩
def badKey (key : ByteArray) : Int := if keyOk key = true then 0 else 2
theorem badKey_calls (key : ByteArray) (w : World) :
    Calls Tryz.prog 103 #[.string key] w fun e w' => e = .returned (.int .i64 (badKey key)) ∧ w' = w := by
  have hs := size_toList key
  go_enter Tryz.func103, Tryz.ntmps103
  by_cases h0 : key.toList = []
  · have hp : badKey key = 2 := by
      unfold badKey keyOk
      rw [if_neg]
      simp only [decide_eq_true_eq]
      intro h
      have : key.size = 0 := by rw [hs, h0]; rfl
      omega
    have HP := hide hp
    clear hs hp
    go_wp2
    go_ret
    exact ⟨by rw [HP.out]; rfl, rfl⟩
  · have h3 : key.toList.isEmpty = false := by simpa using h0
    have hpos : 0 < key.size := by
      rw [hs]
      exact List.length_pos_iff.2 h0
    by_cases h1 : 32 < key.size
    · have hp : badKey key = 2 := by
        unfold badKey keyOk
        rw [if_neg]
        simp only [decide_eq_true_eq]
        omega
      have HP := hide hp
      have h1' : (32 : Int) < (key.size : Int) := by omega
      clear hs hp
      go_wp2
      go_ret
      exact ⟨by rw [HP.out]; rfl, rfl⟩
    · have hp : badKey key = 0 := by
        unfold badKey keyOk
        rw [if_pos]
        simp only [decide_eq_true_eq]
        omega
      have HP := hide hp
      have h1' : ¬ (32 : Int) < (key.size : Int) := by omega
      clear hs hp
      go_wp2
      go_ret
      exact ⟨by rw [HP.out]; rfl, rfl⟩
def badPut (key value : ByteArray) : Int := if keyOk key = true then (if 128 < value.size then 3 else 0) else 2
theorem badPut_calls (key value : ByteArray) (w : World) :
    Calls Tryz.prog 102 #[.string key, .string value] w fun e w' => e = .returned (.int .i64 (badPut key value)) ∧ w' = w := by
  have HK := hide (badKey_calls key w)
  go_enter Tryz.func102, Tryz.ntmps102
  cases hk : keyOk key with
  | false =>
    have hb : badKey key = 2 := by unfold badKey; rw [if_neg (by rw [hk]; decide)]
    have hp : badPut key value = 2 := by unfold badPut; rw [if_neg (by rw [hk]; decide)]
    have HP := hide hp
    rw [hb] at HK
    clear hk hb hp
    go_wp2_with (refine HK.out.mono ?_; rintro e w1 ⟨rfl, hw1⟩; subst w1)
    go_ret
    exact ⟨by rw [HP.out]; rfl, rfl⟩
  | true =>
    have hb : badKey key = 0 := by unfold badKey; rw [if_pos hk]
    rw [hb] at HK
    by_cases hv : 128 < value.size
    · have hp : badPut key value = 3 := by unfold badPut; rw [if_pos hk, if_pos hv]
      have HP := hide hp
      have hv' : (128 : Int) < (value.size : Int) := by omega
      clear hk hb hp
      go_wp2_with (refine HK.out.mono ?_; rintro e w1 ⟨rfl, hw1⟩; subst w1)
      go_ret
      exact ⟨by rw [HP.out]; rfl, rfl⟩
    · have hp : badPut key value = 0 := by unfold badPut; rw [if_pos hk, if_neg hv]
      have HP := hide hp
      have hv' : ¬ (128 : Int) < (value.size : Int) := by omega
      clear hk hb hp
      go_wp2_with (refine HK.out.mono ?_; rintro e w1 ⟨rfl, hw1⟩; subst w1)
      go_ret
      exact ⟨by rw [HP.out]; rfl, rfl⟩
def badHint (node to : Int) (text : ByteArray) : Int := if (nodeOk to && decide (to ≠ node)) = false then 4 else if text.size = 0 ∨ 64 < text.size then 3 else 0
set_option maxHeartbeats 800000 in
theorem badHint_calls (p : Nat) (node : Int) (kv hv : Value) (to : Int) (text : ByteArray) (w : World) (h : Blk w p [.int .i64 node, kv, hv] 107) :
    Calls Tryz.prog 113 #[.pointer (some ⟨p, 0, none⟩), .int .i64 to, .string text] w fun e w' => e = .returned (.int .i64 (badHint node to text)) ∧ w' = w := by
  have hs := size_toList text
  have hc : w.cell? ⟨p, 0, none⟩ = some (.int .i64 node) := h.cell 0
  clear h
  go_enter Tryz.func113, Tryz.ntmps113
  by_cases h0 : to < 0
  · have hp : badHint node to text = 4 := by unfold badHint nodeOk; rw [if_pos (by simp; omega)]
    have HP := hide hp
    clear hs hp
    go_wp2
    go_ret
    exact ⟨by rw [HP.out]; rfl, rfl⟩
  by_cases h4 : 4 ≤ to
  · have hp : badHint node to text = 4 := by unfold badHint nodeOk; rw [if_pos (by simp; omega)]
    have HP := hide hp
    clear hs hp
    go_wp2
    go_ret
    exact ⟨by rw [HP.out]; rfl, rfl⟩
  by_cases hn : to = node
  · have hp : badHint node to text = 4 := by unfold badHint; rw [if_pos (by simp [hn])]
    have HP := hide hp
    have hn' : (to == node) = true := by simp [hn]
    clear hs hp hn
    go_wp2
    go_ret
    exact ⟨by rw [HP.out]; rfl, rfl⟩
  have hn' : (to == node) = false := by simp [hn]
  have hgo : ∀ x, (if text.size = 0 ∨ 64 < text.size then (3 : Int) else 0) = x → badHint node to text = x := by
    intro x hx; unfold badHint nodeOk; rw [if_neg (by simp [hn]; omega)]; exact hx
  by_cases h5 : text.toList = []
  · have hp := hgo 3 (by rw [if_pos (.inl (by rw [hs, h5]; rfl))])
    have HP := hide hp
    clear hs hp hgo hn
    go_wp2
    go_ret
    exact ⟨by rw [HP.out]; rfl, rfl⟩
  have h6 : text.toList.isEmpty = false := by simpa using h5
  have hpos : 0 < text.size := by rw [hs]; exact List.length_pos_iff.2 h5
  by_cases h7 : 64 < text.size
  · have hp := hgo 3 (by rw [if_pos (.inr h7)])
    have HP := hide hp
    have h7' : (64 : Int) < (text.size : Int) := by omega
    clear hs hp hgo hn
    go_wp2
    go_ret
    exact ⟨by rw [HP.out]; rfl, rfl⟩
  · have hp := hgo 0 (by rw [if_neg (by omega)])
    have HP := hide hp
    have h7' : ¬ (64 : Int) < (text.size : Int) := by omega
    clear hs hp hgo hn
    go_wp2
    go_ret
    exact ⟨by rw [HP.out]; rfl, rfl⟩
end Go.Proofs.YtkhnggkkiefcdaaGreatDoor
namespace Go.Proofs.YtkhnggkkiefcdaaGreatDoor
open Go.RowKit Go.Shelf
set_option maxRecDepth 100000
attribute [local go_sem] Oper.semAt_some
theorem lenM_calls (mb : Nat) (a : Option Addr) (n c : Nat) (w : World) (hc : w.cell? ⟨mb, 0, none⟩ = some (.slice a n c)) :
    Calls Tryz.prog 134 #[.pointer (some ⟨mb, 0, none⟩)] w fun e w' => e = .returned (.int .i64 n) ∧ w' = w := by
  go_enter Tryz.func134, Tryz.ntmps134
  go_wp2
  go_ret
  exact ⟨rfl, rfl⟩
theorem ownsRow_zero {w : World} {base : Nat} {e : TypeId} {size n : Nat} {v : Value} {xs : List Value} (h : w.ownsRow base e size v n xs) : w.ownsRow 0 e size v n xs := by
  refine ⟨h.1, ?_⟩
  rcases h.2 with h2 | ⟨g, cap, cur, hv, hb, r⟩
  · exact .inl h2
  · exact .inr ⟨g, cap, cur, hv, Nat.zero_le _, r⟩
set_option maxHeartbeats 4000000 in
theorem keysM_calls (mb : Nat) (v : Value) (es : List (ByteArray × Value)) (w : World) (hmb : w.cell? ⟨mb, 0, none⟩ = some v) (hml : mb < w.heap.size) (hv : EntS w v es) (hform : ∀ e ∈ es, ∃ a m c, e.2 = .slice a m c) (hlen : es.length < 1000000000) :
    Calls Tryz.prog 143 #[.pointer (some ⟨mb, 0, none⟩)] w fun e w' => ∃ v', e = .returned v' ∧ w'.ownsRow 0 9 1 v' es.length (strs (keysE es)) ∧ Fr Nil w w' ∧ (∀ k, v'.ownBlock = some k → w.heap.size ≤ k) := by
  obtain ⟨a0, c0, hvf⟩ := own_form hv.own
  have HL := hide (lenM_calls mb a0 es.length c0 w (by rw [hmb, hvf]))
  refine (callsIn_wide (n := 8)).1 ?_
  refine callsIn_of_wp_marks Tryz.func143 rfl trivial ?_ rfl
  simp only [Tryz.ntmps143, List.size_toArray, List.length_cons, List.length_nil, Nat.reduceAdd, Nat.reduceSub, Array.replicate_succ, Array.replicate_zero, List.push_toArray, List.append_toArray, List.nil_append, List.cons_append]
  obtain ⟨ti, tz, ht1, ht2, ht3, ht4, ht5⟩ := info_of info_str
  have HV := hide hv
  have HMB := hide hmb
  clear hv hmb
  gi_wp2_with (first
    | (refine ⟨trivial, ?_⟩; gi_at_call 134; refine (callsIn_wide.2 HL.out).mono ?_; rintro e w1 ⟨rfl, hw1⟩; subst w1)
    | (gi_at_make; refine wpListIn_make_own _ rfl _ _ 91 rfl w.heap.size 9 ti tz 1 Tryz.underlying91 ht1 ht2 ht3 .i64 .i64 es.length es.length rfl rfl rfl (by rw [ht4]; omega) (by unfold maxLen; omega) (Nat.le_refl _) ?_; intro w2 hown2 hgrow2))
  refine ⟨trivial, ?_⟩
  refine (callsIn_wide.2 (allS_calls mb _)).mono ?_
  rintro e w3 ⟨rfl, rfl⟩
  have hsz2 := hgrow2.size
  have bO := Boxed.new w2 91 (.slice (some ⟨w.heap.size, 0, none⟩) 0 es.length)
  have bM := Boxed.new (w2.alloc (.cells #[.slice (some ⟨w.heap.size, 0, none⟩) 0 es.length] 91)) 236 (.pointer (some ⟨mb, 0, none⟩))
  rw [World.size_alloc] at bM
  have hB0 : Below w.heap.size w ((w2.alloc (.cells #[.slice (some ⟨w.heap.size, 0, none⟩) 0 es.length] 91)).alloc (.cells #[.pointer (some ⟨mb, 0, none⟩)] 236)) :=
    ((Below.grown (Below.refl _ w) hgrow2 (Nat.le_refl _) (fun k e => by cases e)).alloc hsz2 _).alloc (by simp; omega) _
  have hrow0 := (hown2.alloc (.cells #[.slice (some ⟨w.heap.size, 0, none⟩) 0 es.length] 91)).alloc (.cells #[.pointer (some ⟨mb, 0, none⟩)] 236)
  generalize hW0 : (w2.alloc (.cells #[.slice (some ⟨w.heap.size, 0, none⟩) 0 es.length] 91)).alloc (.cells #[.pointer (some ⟨mb, 0, none⟩)] 236) = W0 at hB0 hrow0 bM
  have hs0 : W0.heap.size = w2.heap.size + 2 := by rw [← hW0]; simp
  have bO0 : Boxed W0 w2.heap.size 91 (.slice (some ⟨w.heap.size, 0, none⟩) 0 es.length) := by rw [← hW0]; exact bO.alloc _
  clear hW0 bO hgrow2 hown2
  gi_wp2_with fail
  refine wpIn_rangeFunc_ownF rfl (by decide) (gf := 217) (lb := #[.pointer (some ⟨w2.heap.size + 1, 0, none⟩)]) rfl trivial (enters_of Tryz.func217 (by kernel_rfl) rfl)
    (allS_stops Fence.wide 7 trivial rfl (by decide) (w2.heap.size + 1) mb v es (fun k => k < w.heap.size ∨ k = w2.heap.size + 1) W0 (by omega) (fun k hk => by omega) (by omega) (by omega) (fun k hk => .inl (own_lt HV.out.own hk)) hform bM.cell ((hB0.cell (p := ⟨mb, 0, none⟩) hml).trans HMB.out) (own_fr HV.out.own (Fr.of_below (S := Nil) hB0) (fun _ _ => id)))
    KpX.trans (KpX.put (fun k hk => by omega)) (Below.refl _ _) (fun _ => rfl)
    (fun pre W => (∃ v', Boxed W w2.heap.size 91 v' ∧ W.ownsRow w.heap.size 9 1 v' pre.length (strs (pre.map Prod.fst)) ∧ True) ∧ Below w.heap.size w W ∧ W0.heap.size ≤ W.heap.size ∧ Boxed W (w2.heap.size + 1) 236 (.pointer (some ⟨mb, 0, none⟩)))
    (fun _ _ _ => False)
    (OwnFrom.and (Own.from (holdsRow_own w.heap.size w2.heap.size 91 9 1 (fun pre : List (ByteArray × Value) => pre.length) (fun pre => strs (pre.map Prod.fst)) (fun _ _ => True)) _) (OwnFrom.and (ownFrom_below (by omega) (by omega)) (OwnFrom.and (fun _ A B row hs hg _ => Nat.le_trans hs hg.size) (Own.from (boxed_own _ _ _) _))))
    (fun _ _ _ _ _ hs _ _ => hs)
    ⟨⟨_, bO0, hrow0, trivial⟩, hB0, Nat.le_refl _, bM⟩
    (fun x => { tmps := #[.pointer (some ⟨mb, 0, none⟩), undef, .slice none 0 0, .pointer (some ⟨w2.heap.size, 0, none⟩), .string x.1, .pointer (some ⟨mb, 0, none⟩), .int .i64 es.length, .slice (some ⟨w.heap.size, 0, none⟩) 0 es.length, .pointer (some ⟨mb, 0, none⟩), .func (.func 217) #[] #[.pointer (some ⟨w2.heap.size + 1, 0, none⟩)], .string x.1, x.2, undef, undef, undef, undef, undef], defers := [] }) ?assign ?body ?done ?stop
  case assign =>
    intro l x W K hK
    gi_wp2
    exact hK
  case body =>
    rintro l pre x W ⟨⟨v', bv, hrow, _⟩, hB, hsW, hbx⟩ hlen
    have hc := bv.cell
    have hf := bv.frozen
    have hlen2 : pre.length < 1000000000 := by omega
    gi_wp2_with (gi_at_builtin; go_must (refine wpListIn_append_own _ rfl _ _ 91 rfl w.heap.size 9 ti tz 1 16 Tryz.underlying91 ht1 ht2 ht3 ht4 ht5 (by decide) _ _ _ rfl (hrow.alloc _) ⟨W.heap.size, 0, none⟩ 1 1 [.string x.1] rfl rfl (cell_one_new _ _ _) (by simp [Value.oneCell']) (by unfold maxLen; omega) (by omega) (by have := hB.size; simp; omega) ?_; intro v1 w1 hown' hgrow _; obtain ⟨g', cap', rfl⟩ := ownsRow_succ hown'; obtain ⟨hv1, hv2, hr2, hk2, hb2⟩ := bv.appended (by decide) hrow hB.size (by omega) hown' hgrow; have hx2 := hgrow.block (w2.heap.size + 1) (by simp; omega) (hbx.not_row (by decide) hrow); have hc1 := hv1.cell; have hf1 := hv1.frozen))
    have hbx2 : Boxed (w1.setCell ⟨w2.heap.size, 0, none⟩ (.slice (some ⟨g', 0, none⟩) (pre.length + 1) cap')) (w2.heap.size + 1) 236 (.pointer (some ⟨mb, 0, none⟩)) := Boxed.other (show Boxed w1 _ _ _ from hx2.trans ((hbx.alloc _))) (by omega) _
    refine ⟨hk2, ⟨fun k hk => ?_, hb2.size⟩, ⟨_, hv2, by simpa [strs] using hr2, trivial⟩, hB.trans hb2, Nat.le_trans hsW hb2.size, hbx2⟩
    rcases hk with hk | hk
    · exact hb2.block k hk
    · subst hk
      exact Eq.trans (show _ = _ from hbx2) (Eq.symm (show _ = _ from hbx))
  case done =>
    rintro D ys W hD rfl ⟨⟨v', bv, hrow, _⟩, hB, hsW, hbx⟩ hK
    have hc := bv.cell
    gi_wp2_with fail
    refine ⟨by simp, .inl ⟨_, _, rfl, run_takeDeferred hK, ?_⟩⟩
    have hBE : Below w.heap.size w (W.putObj D (.deferred none)) := hB.trans (belowK_b (w := w) (Nat.le_refl _) W D _ _ (by omega) hK rfl rfl)
    have hrowE := ownsRow_putObj hrow (.deferred none) hK rfl
    refine ⟨_, results_tmp rfl _ _ _, _, rfl, ownsRow_zero (base := w.heap.size) ?_, Fr.of_below hBE, ?_⟩
    · exact hrowE
    · exact (fun k hk => (hrow.lt k hk).1 : ∀ k, v'.ownBlock = some k → w.heap.size ≤ k)
  case stop =>
    rintro D c pre W _ _ h _
    exact h.elim
theorem keysS_calls (b : Nat) (L : SL) (S : SM) (w : World) (h : SRep w b L S) (hlen : S.keys.length < 1000000000) :
    Calls Tryz.prog 92 #[.pointer (some ⟨b, 0, none⟩)] w fun e w' => ∃ v', e = .returned v' ∧ w'.ownsRow 0 9 1 v' S.keys.length (strs (S.keys.map Prod.fst)) ∧ Fr Nil w w' ∧ (∀ k, v'.ownBlock = some k → w.heap.size ≤ k) := by
  have hle : L.ents.length = S.keys.length := h.pair.length
  have HK := hide (keysM_calls b L.kv L.ents w (h.blk.cell 0) h.blk.lt h.ent (fun e he => by obtain ⟨l, hl⟩ := h.pair.mem e he; obtain ⟨a, c, hf⟩ := own_form hl; exact ⟨a, _, c, hf⟩) (by omega))
  have HE := hide h.pair.keys
  have HL := hide hle
  clear h hle
  go_enter Tryz.func92, Tryz.ntmps92
  go_wp2_with (refine HK.out.mono ?_; rintro e w1 ⟨v', rfl, h1, h2, h3⟩)
  go_ret
  exact ⟨v', rfl, by rw [← HL.out, ← HE.out]; exact h1, h2, h3⟩
theorem keys_calls (L : NL) (N : NM) (M : DM) (w : World) (h : NRep w L N M) (hlen : N.S.keys.length < 1000000000) :
    Calls Tryz.prog 44 #[.pointer (some ⟨L.nb, 0, none⟩)] w fun e w' => ∃ v', e = .returned v' ∧ w'.ownsRow 0 9 1 v' N.S.keys.length (strs (N.S.keys.map Prod.fst)) ∧ Fr Nil w w' ∧ (∀ k, v'.ownBlock = some k → w.heap.size ≤ k) := by
  have hc2 : w.cell? ⟨L.nb, 2, none⟩ = some (.pointer (some ⟨L.sb, 0, none⟩)) := h.blk.cell 2
  have HK := hide (keysS_calls L.sb L.LS N.S w h.held hlen)
  clear h
  go_enter Tryz.func44, Tryz.ntmps44
  go_wp2_with (refine HK.out.mono ?_; rintro e w1 ⟨v', rfl, h1, h2, h3⟩)
  go_ret
  exact ⟨v', rfl, h1, h2, h3⟩
end Go.Proofs.YtkhnggkkiefcdaaGreatDoor
