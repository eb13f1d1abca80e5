/-
  Package disk: what Copy keeps, change by change, and the disk that it leaves.
-/
import Derived.Test.YtkhnggkkiefcdaaDiskO
import Derived.Test.YtkhnggkkiefcdaaDiskR
namespace Go.Proofs.Ytkhnggkkiefcdaa
open Go.RowKit

theorem nodup_le : ∀ (l m : List Nat), l.Nodup → (∀ x, x ∈ l → x ∈ m) → l.length ≤ m.length
  | [], _, _, _ => by simp
  | x :: l, m, hn, hs => by
    have hx : x ∈ m := hs x (List.mem_cons_self ..)
    rw [List.nodup_cons] at hn
    have := nodup_le l (m.erase x) hn.2 (fun y hy => by
      have hy' := hs y (List.mem_cons_of_mem _ hy)
      exact (List.mem_erase_of_ne (fun e : y = x => hn.1 (by rw [← e]; exact hy))).2 hy')
    have e := List.length_erase_of_mem hx
    have hp : 0 < m.length := List.length_pos_of_mem hx
    simp only [List.length_cons]
    omega

/-- The list d' has the names of d, and for each file its second one. -/
structure Rel (ps : List (Nat × Nat)) (d d' : Dir) : Prop where
  len : d'.length = d.length
  at_ : ∀ i (h1 : i < d.length) (h2 : i < d'.length), d'[i].1 = d[i].1 ∧ (d[i].2, d'[i].2) ∈ ps

theorem Rel.more {ps ps' : List (Nat × Nat)} {d d' : Dir} (h : Rel ps d d') (hs : ∀ p, p ∈ ps → p ∈ ps') : Rel ps' d d' :=
  ⟨h.len, fun i h1 h2 => ⟨(h.at_ i h1 h2).1, hs _ (h.at_ i h1 h2).2⟩⟩

def second (ps : List (Nat × Nat)) (f : Nat) : Nat := ((ps.find? fun p => p.1 == f).map Prod.snd).getD 0
def first (ps : List (Nat × Nat)) (g : Nat) : Nat := ((ps.find? fun p => p.2 == g).map Prod.fst).getD 0

theorem second_of : ∀ {ps : List (Nat × Nat)} {f g : Nat}, (ps.map Prod.fst).Nodup → (f, g) ∈ ps → second ps f = g
  | [], _, _, _, h => by cases h
  | p :: ps, f, g, hn, h => by
    rw [List.map_cons, List.nodup_cons] at hn
    rcases List.mem_cons.1 h with e | h'
    · subst e; simp [second]
    · have hne : (p.1 == f) = false := by
        rw [beq_eq_false_iff_ne]
        intro e
        exact hn.1 (by rw [e]; exact List.mem_map.2 ⟨_, h', rfl⟩)
      have := second_of hn.2 h'
      unfold second at this ⊢
      rw [List.find?_cons, hne]
      exact this

theorem first_of : ∀ {ps : List (Nat × Nat)} {f g : Nat}, (ps.map Prod.snd).Nodup → (f, g) ∈ ps → first ps g = f
  | [], _, _, _, h => by cases h
  | p :: ps, f, g, hn, h => by
    rw [List.map_cons, List.nodup_cons] at hn
    rcases List.mem_cons.1 h with e | h'
    · subst e; simp [first]
    · have hne : (p.2 == g) = false := by
        rw [beq_eq_false_iff_ne]
        intro e
        exact hn.1 (by rw [e]; exact List.mem_map.2 ⟨_, h', rfl⟩)
      have := first_of hn.2 h'
      unfold first at this ⊢
      rw [List.find?_cons, hne]
      exact this

def twinDir (ps : List (Nat × Nat)) (d : Dir) : Dir := d.map fun e => (e.1, second ps e.2)

theorem Rel.eq {ps : List (Nat × Nat)} {d d' : Dir} (hn : (ps.map Prod.fst).Nodup) (h : Rel ps d d') : d' = twinDir ps d := by
  refine List.ext_getElem (by rw [h.len]; simp [twinDir]) ?_
  intro i h1 h2
  have h3 : i < d.length := by rw [← h.len]; exact h1
  obtain ⟨e1, e2⟩ := h.at_ i h3 h1
  have e3 := second_of hn e2
  simp only [twinDir, List.getElem_map, e3]
  exact Prod.ext e1 rfl

theorem Rel.mem {ps : List (Nat × Nat)} {d d' : Dir} (h : Rel ps d d') : ∀ e, e ∈ d' → ∃ p, p ∈ ps ∧ p.2 = e.2 := by
  intro e he
  obtain ⟨i, hi, rfl⟩ := List.mem_iff_getElem.1 he
  have h3 : i < d.length := by rw [← h.len]; exact hi
  exact ⟨_, (h.at_ i h3 hi).2, rfl⟩

/-- The copy: each file has its second one's number. -/
def DM.twin (M : DM) (ps : List (Nat × Nat)) : DM :=
  { M with dir := twinDir ps M.dir, safe := twinDir ps M.safe, chs := M.chs.map (twinDir ps), file := fun g => M.file (first ps g), ids := ps.map Prod.snd }

/-- What Copy has at its k-th change. -/
structure CopyAt (w0 w : World) (bo bm nb : Nat) (M : DM) (D S : Dir) (k : Nat) (ps : List (Nat × Nat)) (vo vm : Value) (fV : Nat → Value) (L : DL) (d1 s1 : Dir) (c1 : List Dir) : Prop where
  T : Twin w0 w bo bm M (ps.map Prod.fst) ps vo vm fV
  blk : Blk w nb (M.cells L) 45
  nb0 : w0.heap.size ≤ nb
  dir : w.ownsRow 0 50 2 L.dirV d1.length (flat d1)
  safe : w.ownsRow 0 50 2 L.safeV s1.length (flat s1)
  ch : w.ownsRow 0 47 1 L.chV k L.chVs
  chl : L.chVs.length = k
  cl : c1.length = k
  chs : ∀ i (h1 : i < L.chVs.length) (h2 : i < c1.length), w.ownsRow 0 50 2 L.chVs[i] c1[i].length (flat c1[i])
  rd : Rel ps D d1
  rs : Rel ps S s1
  rc : ∀ i (h1 : i < c1.length) (h2 : i < M.chs.length), Rel ps M.chs[i] c1[i]
  nd : ∀ j, L.dirV.ownBlock = some j → w0.heap.size ≤ j
  ns : ∀ j, L.safeV.ownBlock = some j → w0.heap.size ≤ j
  nc : ∀ j, L.chV.ownBlock = some j → w0.heap.size ≤ j
  ncs : ∀ i (h1 : i < L.chVs.length) j, L.chVs[i].ownBlock = some j → w0.heap.size ≤ j

theorem CopyAt.keep {w0 w w' : World} {bo bm nb : Nat} {M : DM} {D S : Dir} {k : Nat} {ps : List (Nat × Nat)} {vo vm : Value} {fV : Nat → Value} {L : DL} {d1 s1 : Dir} {c1 : List Dir}
    (h : CopyAt w0 w bo bm nb M D S k ps vo vm fV L d1 s1 c1) (f : Fr Nil w w') : CopyAt w0 w' bo bm nb M D S k ps vo vm fV L d1 s1 c1 :=
  { h with
    T := h.T.keep f
    blk := h.blk.fr f id
    dir := own_fr h.dir f (fun _ _ => id)
    safe := own_fr h.safe f (fun _ _ => id)
    ch := own_fr h.ch f (fun _ _ => id)
    chs := fun i h1 h2 => own_fr (h.chs i h1 h2) f (fun _ _ => id) }

/-- What lies apart from the two rows and their variables lies there behind a list. -/
theorem own_other {w0 w w' : World} {bo bm : Nat} {M : DM} {os : List Nat} {ps : List (Nat × Nat)} {vo vm : Value} {fV : Nat → Value} {e : TypeId} {size n : Nat} {v : Value} {xs : List Value} (T : Twin w0 w bo bm M os ps vo vm fV)
    (f : Fr (fun j => j = bo ∨ j = bm ∨ vo.ownBlock = some j ∨ vm.ownBlock = some j) w w') (hv : w.ownsRow 0 e size v n xs) (h1 : e ≠ 58) (h2 : e ≠ 48) : w'.ownsRow 0 e size v n xs :=
  own_fr hv f (fun k hk e => by
    rcases e with e | e | e | e
    · subst e; exact own_ne hv T.co (Ne.symm h1) hk
    · subst e; exact own_ne hv T.cm (Ne.symm h1) hk
    · exact own_ne' T.old hv (Ne.symm h2) e hk
    · exact own_ne' T.made hv (Ne.symm h2) e hk)

theorem blk_other {w0 w w' : World} {bo bm g : Nat} {M : DM} {os : List Nat} {ps : List (Nat × Nat)} {vo vm : Value} {fV : Nat → Value} {e : TypeId} {c : List Value} (T : Twin w0 w bo bm M os ps vo vm fV)
    (f : Fr (fun j => j = bo ∨ j = bm ∨ vo.ownBlock = some j ∨ vm.ownBlock = some j) w w') (hv : Blk w g c e) (h1 : e ≠ 58) (h2 : e ≠ 48) : Blk w' g c e :=
  hv.fr f (fun e => by
    rcases e with e | e | e | e
    · exact hv.ne T.co h1 e
    · exact hv.ne T.cm h1 e
    · exact own_ne T.old hv h2 e
    · exact own_ne T.made hv h2 e)

/-- A list more is turned. -/
structure OtherTo (w0 w w' : World) (bo bm nb : Nat) (M : DM) (D S : Dir) (k : Nat) (ps : List (Nat × Nat)) (L : DL) (d1 s1 : Dir) (c1 : List Dir) (d : Dir) (l : Value) : Prop where
  ex : ∃ ps' vo' vm' fV' d', CopyAt w0 w' bo bm nb M D S k ps' vo' vm' fV' L d1 s1 c1 ∧ (∀ p, p ∈ ps → p ∈ ps') ∧ Rel ps' d d' ∧ w'.ownsRow 0 50 2 l d'.length (flat d') ∧
      (∀ j, l.ownBlock = some j → w0.heap.size ≤ j)
  blk : ∀ (g : Nat) (c : List Value) (e : TypeId), Blk w g c e → e ≠ 58 → e ≠ 48 → Blk w' g c e
  row : ∀ (v : Value) (n size : Nat) (xs : List Value) (e : TypeId), w.ownsRow 0 e size v n xs → e ≠ 58 → e ≠ 48 → w'.ownsRow 0 e size v n xs

theorem CopyAt.other {w0 w w' : World} {bo bm nb : Nat} {M : DM} {D S : Dir} {k : Nat} {ps : List (Nat × Nat)} {vo vm l : Value} {fV : Nat → Value} {L : DL} {d1 s1 d : Dir} {c1 : List Dir}
    (h : CopyAt w0 w bo bm nb M D S k ps vo vm fV L d1 s1 c1) (o : OtherAt w0 w bo bm M ps vo vm d d.length l w') : OtherTo w0 w w' bo bm nb M D S k ps L d1 s1 c1 d l := by
  obtain ⟨ps', vo', vm', fV', d', T', hs, _, hl, hp, ho, _, _⟩ := o.ex
  have hw := h.T.fr.size
  refine ⟨⟨ps', vo', vm', fV', d', ?_, hs, ⟨hl, hp⟩, by rw [hl]; exact ho, fun j hj => Nat.le_trans hw (o.new j hj)⟩, fun _ _ _ hb => blk_other h.T o.fr hb, fun _ _ _ _ _ hv => own_other h.T o.fr hv⟩
  exact { h with
    T := T'
    blk := blk_other h.T o.fr h.blk (by decide) (by decide)
    dir := own_other h.T o.fr h.dir (by decide) (by decide)
    safe := own_other h.T o.fr h.safe (by decide) (by decide)
    ch := own_other h.T o.fr h.ch (by decide) (by decide)
    chs := fun i h1 h2 => own_other h.T o.fr (h.chs i h1 h2) (by decide) (by decide)
    rd := h.rd.more hs
    rs := h.rs.more hs
    rc := fun i h1 h2 => (h.rc i h1 h2).more hs }

/-- A row that holds what the copy holds is turned, and the copy's block. -/
theorem CopyAt.far {w0 w w' : World} {bo bm nb : Nat} {M : DM} {D S D' S' : Dir} {k k' : Nat} {ps : List (Nat × Nat)} {vo vm : Value} {fV : Nat → Value} {L L' : DL} {d1 s1 d1' s1' : Dir} {c1 c1' : List Dir}
    (h : CopyAt w0 w bo bm nb M D S k ps vo vm fV L d1 s1 c1) (f : Fr (fun j => j = nb ∨ L.chV.ownBlock = some j) w w')
    (blk : Blk w' nb (M.cells L') 45)
    (dir : w'.ownsRow 0 50 2 L'.dirV d1'.length (flat d1'))
    (safe : w'.ownsRow 0 50 2 L'.safeV s1'.length (flat s1'))
    (ch : w'.ownsRow 0 47 1 L'.chV k' L'.chVs)
    (chl : L'.chVs.length = k')
    (cl : c1'.length = k')
    (chs : ∀ i (h1 : i < L'.chVs.length) (h2 : i < c1'.length), w'.ownsRow 0 50 2 L'.chVs[i] c1'[i].length (flat c1'[i]))
    (rd : Rel ps D' d1')
    (rs : Rel ps S' s1')
    (rc : ∀ i (h1 : i < c1'.length) (h2 : i < M.chs.length), Rel ps M.chs[i] c1'[i])
    (nd : ∀ j, L'.dirV.ownBlock = some j → w0.heap.size ≤ j)
    (ns : ∀ j, L'.safeV.ownBlock = some j → w0.heap.size ≤ j)
    (nc : ∀ j, L'.chV.ownBlock = some j → w0.heap.size ≤ j)
    (ncs : ∀ i (h1 : i < L'.chVs.length) j, L'.chVs[i].ownBlock = some j → w0.heap.size ≤ j) : CopyAt w0 w' bo bm nb M D' S' k' ps vo vm fV L' d1' s1' c1' where
  T := by
    have b1 : ∀ {g : Nat} {c : List Value} {e : TypeId}, Blk w g c e → e ≠ 45 → e ≠ 47 → Blk w' g c e := fun hb h1 h2 => hb.fr f (fun e => by
      rcases e with e | e
      · exact hb.ne h.blk h1 e
      · exact own_ne h.ch hb h2 e)
    have b2 : ∀ {v : Value} {n size : Nat} {xs : List Value} {e : TypeId}, w.ownsRow 0 e size v n xs → e ≠ 45 → e ≠ 47 → w'.ownsRow 0 e size v n xs := fun hv h1 h2 => own_fr hv f (fun k hk e => by
      rcases e with e | e
      · subst e; exact own_ne hv h.blk (Ne.symm h1) hk
      · exact own_ne' h.ch hv (Ne.symm h2) e hk)
    exact { h.T with
      co := b1 h.T.co (by decide) (by decide)
      cm := b1 h.T.cm (by decide) (by decide)
      old := b2 h.T.old (by decide) (by decide)
      made := b2 h.T.made (by decide) (by decide)
      files := fun p hp => b1 (h.T.files p hp) (by decide) (by decide)
      rows := fun p hp => b2 (h.T.rows p hp) (by decide) (by decide)
      fr := Fr.trans' h.T.fr f (fun j hlt hj => by
        rcases hj with e | e
        · have := h.nb0; omega
        · have := h.nc j e; omega) }
  blk := blk
  nb0 := h.nb0
  dir := dir
  safe := safe
  ch := ch
  chl := chl
  cl := cl
  chs := chs
  rd := rd
  rs := rs
  rc := rc
  nd := nd
  ns := ns
  nc := nc
  ncs := ncs

/-- The copy's two lists come into their places. -/
theorem CopyAt.lists {w0 w w' : World} {bo bm nb : Nat} {M : DM} {D S D' S' : Dir} {ps : List (Nat × Nat)} {vo vm v1 v2 : Value} {fV : Nat → Value} {L : DL} {d1 s1 d2 s2 : Dir}
    (h : CopyAt w0 w bo bm nb M D S 0 ps vo vm fV L d1 s1 []) (f : Fr (fun j => j = nb) w w') (hb : Blk w' nb (M.cells { L with dirV := v1, safeV := v2 }) 45)
    (h1 : w.ownsRow 0 50 2 v1 d2.length (flat d2)) (h2 : w.ownsRow 0 50 2 v2 s2.length (flat s2)) (r1 : Rel ps D' d2) (r2 : Rel ps S' s2)
    (n1 : ∀ j, v1.ownBlock = some j → w0.heap.size ≤ j) (n2 : ∀ j, v2.ownBlock = some j → w0.heap.size ≤ j) :
    CopyAt w0 w' bo bm nb M D' S' 0 ps vo vm fV { L with dirV := v1, safeV := v2 } d2 s2 [] := by
  have b2 : ∀ {v : Value} {n size : Nat} {xs : List Value} {e : TypeId}, w.ownsRow 0 e size v n xs → e ≠ 45 → w'.ownsRow 0 e size v n xs := fun hv h1 => own_fr hv f (fun k hk e => by
    subst e; exact own_ne hv h.blk (Ne.symm h1) hk)
  refine h.far (f.mono (fun _ _ => .inl)) hb (b2 h1 (by decide)) (b2 h2 (by decide)) (b2 h.ch (by decide)) h.chl rfl (fun i h1 h2 => absurd h2 (Nat.not_lt_zero _)) r1 r2 (fun i h1 => absurd h1 (Nat.not_lt_zero _)) n1 n2 h.nc h.ncs

/-- A change more. -/
theorem CopyAt.push {w0 w w1 w2 : World} {bo bm nb : Nat} {M : DM} {D S : Dir} {k : Nat} {ps : List (Nat × Nat)} {vo vm l v' : Value} {fV : Nat → Value} {L : DL} {d1 s1 d' : Dir} {c1 : List Dir} (hk : k < M.chs.length)
    (h : CopyAt w0 w bo bm nb M D S k ps vo vm fV L d1 s1 c1) (f1 : Fr Nil w w1) (ha : App w1 L.chV 47 1 (k + 1) (L.chVs ++ [l]) v' w2)
    (hl : w.ownsRow 0 50 2 l d'.length (flat d')) (hr : Rel ps M.chs[k] d') (hn : ∀ j, l.ownBlock = some j → w0.heap.size ≤ j) :
    CopyAt w0 (w2.setCell ⟨nb, 2, none⟩ v') bo bm nb M D S (k + 1) ps vo vm fV { L with chV := v', chVs := L.chVs ++ [l] } d1 s1 (c1 ++ [d']) := by
  have h1 := h.keep f1
  have s1 := h1.T.fr.size
  have hb2 : Blk w2 nb (M.cells L) 45 := h1.blk.fr ha.fr (own_ne h1.ch h1.blk (by decide))
  have hw2 : Fr (fun k => k = nb) w2 (w2.setCell ⟨nb, 2, none⟩ v') := Fr.set (S := fun k => k = nb) (p := ⟨nb, 2, none⟩) (Fr.refl _ _) (fun _ => rfl) v'
  have hfr : Fr (fun k => k = nb ∨ L.chV.ownBlock = some k) w1 (w2.setCell ⟨nb, 2, none⟩ v') :=
    (ha.fr.mono (fun _ _ => .inr)).trans (hw2.mono (fun _ _ => .inl))
  have b2 : ∀ {v : Value} {n size : Nat} {xs : List Value}, w1.ownsRow 0 50 size v n xs → (w2.setCell ⟨nb, 2, none⟩ v').ownsRow 0 50 size v n xs := fun hv => own_fr hv hfr (fun k hk e => by
    rcases e with e | e
    · subst e; exact own_ne hv h1.blk (by decide) hk
    · exact own_ne' h1.ch hv (by decide) e hk)
  have hlen : (L.chVs ++ [l]).length = k + 1 := by simp [h.chl]
  refine h1.far hfr (hb2.set 2 v') (b2 h1.dir) (b2 h1.safe) ?_ hlen (by simp [h.cl]) ?_ h.rd h.rs ?_ h.nd h.ns ?_ ?_
  · exact own_fr ha.own hw2 (fun k hk e => by subst e; exact own_ne ha.own hb2 (by decide) hk)
  · intro i i1 i2
    simp only [List.length_append, List.length_cons, List.length_nil] at i1 i2
    by_cases e : i < k
    · have e1 : (L.chVs ++ [l])[i] = L.chVs[i]'(by rw [h.chl]; exact e) := List.getElem_append_left _
      have e2 : (c1 ++ [d'])[i] = c1[i]'(by rw [h.cl]; exact e) := List.getElem_append_left _
      simp only [e1, e2]
      exact b2 (h1.chs i _ _)
    · have hi : i = k := by have := h.chl; omega
      have e1 : (L.chVs ++ [l])[i] = l := by simp [h.chl, hi]
      have e2 : (c1 ++ [d'])[i] = d' := by simp [h.cl, hi]
      simp only [e1, e2]
      exact b2 (own_fr hl f1 (fun _ _ => id))
  · intro i i1 i2
    simp only [List.length_append, List.length_cons, List.length_nil] at i1
    by_cases e : i < k
    · have e2 : (c1 ++ [d'])[i] = c1[i]'(by rw [h.cl]; exact e) := List.getElem_append_left _
      simp only [e2]
      exact h.rc i _ i2
    · have hi : i = k := by have := h.cl; omega
      subst hi
      have e2 : (c1 ++ [d'])[i] = d' := by simp [h.cl]
      simp only [e2]
      exact hr
  · intro j hj
    rcases ha.at_ with e | e
    · exact h.nc j (by rw [← e]; exact hj)
    · rw [e] at hj; simp at hj; omega
  · intro i i1 j hj
    simp only [List.length_append, List.length_cons, List.length_nil] at i1
    by_cases e : i < k
    · have e1 : (L.chVs ++ [l])[i] = L.chVs[i]'(by rw [h.chl]; exact e) := List.getElem_append_left _
      simp only [e1] at hj
      exact h.ncs i _ j hj
    · have hi : i = k := by have := h.chl; omega
      have e1 : (L.chVs ++ [l])[i] = l := by simp [h.chl, hi]
      simp only [e1] at hj
      exact hn j hj

/-- The copy is whole. -/
theorem CopyAt.whole {w0 w : World} {bo bm nb : Nat} {M : DM} {ps : List (Nat × Nat)} {vo vm : Value} {fV : Nat → Value} {L : DL} {d1 s1 : Dir} {c1 : List Dir}
    (h : CopyAt w0 w bo bm nb M M.dir M.safe M.chs.length ps vo vm fV L d1 s1 c1) (hle : ∀ f, f ∈ M.ids → (M.file f).safe ≤ (M.file f).bytes.length) : Own w0 w nb { L with fV := fV } (M.twin ps) := by
  have hd := h.rd.eq h.T.n1
  have hs := h.rs.eq h.T.n1
  have hc : c1 = M.chs.map (twinDir ps) := by
    refine List.ext_getElem (by rw [h.cl]; simp) ?_
    intro i h1 h2
    rw [List.getElem_map]
    exact (h.rc i h1 (by rw [← h.cl]; exact h1)).eq h.T.n1
  have hids : ∀ g, g ∈ ps.map Prod.snd → ∃ p, p ∈ ps ∧ p.2 = g ∧ first ps g = p.1 := by
    intro g hg
    obtain ⟨p, hp, rfl⟩ := List.mem_map.1 hg
    exact ⟨p, hp, rfl, first_of h.T.n2 hp⟩
  have hmem : ∀ {d d' : Dir}, Rel ps d d' → ∀ e, e ∈ d' → e.2 ∈ ps.map Prod.snd := fun hr e he => by
    obtain ⟨p, hp, hpe⟩ := hr.mem e he
    exact List.mem_map.2 ⟨p, hp, hpe⟩
  refine ⟨?_, h.T.fr, ?_⟩
  · exact {
      blk := h.blk
      dir := by
        have := h.dir
        rw [hd] at this
        exact this
      safe := by
        have := h.safe
        rw [hs] at this
        exact this
      ch := by
        have e : (M.twin ps).chs.length = M.chs.length := by simp [DM.twin]
        rw [e]
        exact h.ch
      chl := by simp [DM.twin, h.chl]
      chs := by
        have := h.chs
        rw [hc] at this
        exact this
      files := fun g hg => by
        obtain ⟨p, hp, rfl, he⟩ := hids g hg
        have := h.T.files p hp
        simp only [DM.twin, he]
        exact this
      rows := fun g hg => by
        obtain ⟨p, hp, rfl, he⟩ := hids g hg
        have := h.T.rows p hp
        simp only [DM.twin, he]
        exact this
      sep := fun f hf g hg hne k hk => by
        obtain ⟨p, hp, rfl, _⟩ := hids f hf
        obtain ⟨q, hq, rfl, _⟩ := hids g hg
        exact h.T.sep p hp q hq hne k hk
      le := fun g hg => by
        obtain ⟨p, hp, rfl, he⟩ := hids g hg
        simp only [DM.twin, he]
        exact hle _ (h.T.ids _ (List.mem_map_of_mem hp))
      inD := fun e he => hmem h.rd e (by rw [hd]; exact he)
      inS := fun e he => hmem h.rs e (by rw [hs]; exact he)
      inC := fun d hdm e he => by
        have hdm' : d ∈ c1 := by rw [hc]; exact hdm
        obtain ⟨i, hi, rfl⟩ := List.mem_iff_getElem.1 hdm'
        exact hmem (h.rc i hi (by rw [← h.cl]; exact hi)) e he }
  · intro k hk
    cases hk using Foot.elim with
    | blk => exact h.nb0
    | dir e => exact h.nd k e
    | safe e => exact h.ns k e
    | ch e => exact h.nc k e
    | chs i h1 e => exact h.ncs i h1 k e
    | file e =>
      obtain ⟨p, hp, rfl⟩ := List.mem_map.1 e
      exact h.T.nf p hp
    | row f hf e =>
      obtain ⟨p, hp, rfl, _⟩ := hids f hf
      exact h.T.nr p hp k e

/-- What Copy leaves: the copy, whose files are second ones. -/
def CopySaid (w : World) (M : DM) (e : Ending) (w' : World) : Prop :=
  ∃ b' L' ps, e = .returned (.pointer (some ⟨b', 0, none⟩)) ∧ Own w w' b' L' (M.twin ps) ∧ (ps.map Prod.fst).Nodup ∧ (ps.map Prod.snd).Nodup ∧ (∀ p, p ∈ ps → p.1 ∈ M.ids ∧ w.heap.size ≤ p.2) ∧
    (∀ e, e ∈ M.dir ∨ e ∈ M.safe ∨ (∃ d, d ∈ M.chs ∧ e ∈ d) → ∃ g, (e.2, g) ∈ ps)

theorem Rel.hit {ps : List (Nat × Nat)} {d d' : Dir} (h : Rel ps d d') : ∀ e, e ∈ d → ∃ g, (e.2, g) ∈ ps := by
  intro e he
  obtain ⟨i, hi, rfl⟩ := List.mem_iff_getElem.1 he
  have h3 : i < d'.length := by rw [h.len]; exact hi
  exact ⟨_, (h.at_ i hi h3).2⟩

theorem CopyAt.said {w0 w : World} {bo bm nb : Nat} {M : DM} {ps : List (Nat × Nat)} {vo vm : Value} {fV : Nat → Value} {L : DL} {d1 s1 : Dir} {c1 : List Dir}
    (h : CopyAt w0 w bo bm nb M M.dir M.safe M.chs.length ps vo vm fV L d1 s1 c1) (hle : ∀ f, f ∈ M.ids → (M.file f).safe ≤ (M.file f).bytes.length) : CopySaid w0 M (.returned (.pointer (some ⟨nb, 0, none⟩))) w := by
  refine ⟨nb, _, ps, rfl, h.whole hle, h.T.n1, h.T.n2, fun p hp => ⟨h.T.ids _ (List.mem_map_of_mem hp), h.T.nf p hp⟩, ?_⟩
  intro e he
  rcases he with he | he | ⟨d, hd, he⟩
  · exact h.rd.hit e he
  · exact h.rs.hit e he
  · obtain ⟨i, hi, rfl⟩ := List.mem_iff_getElem.1 hd
    exact (h.rc i (by rw [h.cl]; exact hi) hi).hit e he

theorem Twin.start {w W : World} {bo bm : Nat} (M : DM) (h1 : Blk W bo [.slice none 0 0] 58) (h2 : Blk W bm [.slice none 0 0] 58) (hne : bo ≠ bm) (nbo : w.heap.size ≤ bo) (nbm : w.heap.size ≤ bm) (f : Fr Nil w W) (fV : Nat → Value) :
    Twin w W bo bm M [] [] (.slice none 0 0) (.slice none 0 0) fV where
  co := h1
  cm := h2
  ne := hne
  old := World.ownsRow_nil W 0 _ _
  made := World.ownsRow_nil W 0 _ _
  sepo := fun k hk => by simp [Value.ownBlock] at hk
  files := fun p hp => by cases hp
  rows := fun p hp => by cases hp
  sep := fun p hp => by cases hp
  n1 := List.nodup_nil
  n2 := List.nodup_nil
  ids := fun f hf => by cases hf
  nbo := nbo
  nbm := nbm
  no := fun k hk => by simp [Value.ownBlock] at hk
  nm := fun k hk => by simp [Value.ownBlock] at hk
  nf := fun p hp => by cases hp
  nr := fun p hp => by cases hp
  fr := f

theorem CopyAt.start {w W : World} {bo bm nb : Nat} (M : DM) (T : Twin w W bo bm M [] [] (.slice none 0 0) (.slice none 0 0) DL.new.fV) (hb : Blk W nb (M.cells DL.new) 45) (nb0 : w.heap.size ≤ nb) :
    CopyAt w W bo bm nb M [] [] 0 [] (.slice none 0 0) (.slice none 0 0) DL.new.fV DL.new [] [] [] where
  T := T
  blk := hb
  nb0 := nb0
  dir := World.ownsRow_nil W 0 _ _
  safe := World.ownsRow_nil W 0 _ _
  ch := World.ownsRow_nil W 0 _ _
  chl := rfl
  cl := rfl
  chs := fun i h1 => absurd h1 (Nat.not_lt_zero _)
  rd := ⟨rfl, fun i h1 => absurd h1 (Nat.not_lt_zero _)⟩
  rs := ⟨rfl, fun i h1 => absurd h1 (Nat.not_lt_zero _)⟩
  rc := fun i h1 => absurd h1 (Nat.not_lt_zero _)
  nd := fun j hj => by simp [DL.new, Value.ownBlock] at hj
  ns := fun j hj => by simp [DL.new, Value.ownBlock] at hj
  nc := fun j hj => by simp [DL.new, Value.ownBlock] at hj
  ncs := fun i h1 => absurd h1 (Nat.not_lt_zero _)

end Go.Proofs.Ytkhnggkkiefcdaa
