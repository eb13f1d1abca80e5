/-
  Package disk: what Copy does for one list of entries.
-/
import Derived.Test.YtkhnggkkiefcdaaDiskN
import Derived.Deep.RegionLaw
import Derived.LaidEqlPtr
namespace Go.Proofs.Ytkhnggkkiefcdaa
open Go.RowKit

theorem info_file : ((Try.prog.info? 54).map fun i => (i.zero.map (·.cells.size), i.size, i.bytes)) = some (some 2, 2, 32) := by kernel_rfl

theorem neq_same (w : World) (f : Nat) : (binOp .neq 48 (.pointer (some ⟨f, 0, none⟩)) (.pointer (some ⟨f, 0, none⟩))).run Try.prog w = .ok (.bool false) w := by
  obtain ⟨i, z, hi, _⟩ := info_of info_file
  have h : ∀ d : Nat, (Op.equalIn (d + 1) 48 (.pointer (some ⟨f, 0, none⟩)) (.pointer (some ⟨f, 0, none⟩))).run Try.prog w = .ok true w := fun d => by
    simp [Op.equalIn, run_underlying Try.underlying48, sizeOf, typeInfo, hi, run_sameAddr_same]
  simp only [binOp]
  simp [Op.equal, Op.maxDepth, h 9999]

theorem neq_other {w : World} {f g : Nat} {c c' : List Value} (hf : Blk w f c 54) (hg : Blk w g c' 54) (hne : f ≠ g) :
    (binOp .neq 48 (.pointer (some ⟨f, 0, none⟩)) (.pointer (some ⟨g, 0, none⟩))).run Try.prog w = .ok (.bool true) w := by
  obtain ⟨i, z, hi, _, hs, _⟩ := info_of info_file
  have hsz : i.size ≠ 0 := by omega
  have hab : (⟨f, 0, none⟩ : Addr) ≠ ⟨g, 0, none⟩ := fun e => hne (congrArg Addr.block e)
  have h : ∀ d : Nat, (Op.equalIn (d + 1) 48 (.pointer (some ⟨f, 0, none⟩)) (.pointer (some ⟨g, 0, none⟩))).run Try.prog w = .ok false w := fun d => by
    simp [Op.equalIn, run_underlying Try.underlying48, sizeOf, typeInfo, hi, hsz, run_sameAddr_other w hab hf hg]
  simp only [binOp]
  simp [Op.equal, Op.maxDepth, h 9999]

/-- Behind k entries of d: the list so far is l. -/
structure OtherAt (w0 w : World) (bo bm : Nat) (M : DM) (ps0 : List (Nat × Nat)) (vo0 vm0 : Value) (d : Dir) (k : Nat) (l : Value) (w' : World) : Prop where
  ex : ∃ ps vo vm fV d', Twin w0 w' bo bm M (ps.map Prod.fst) ps vo vm fV ∧ (∀ p, p ∈ ps0 → p ∈ ps) ∧ ps.length ≤ ps0.length + k ∧ d'.length = k ∧
    (∀ i (h1 : i < d.length) (h2 : i < d'.length), d'[i].1 = d[i].1 ∧ (d[i].2, d'[i].2) ∈ ps) ∧ w'.ownsRow 0 50 2 l k (flat d') ∧
    (∀ j, vo.ownBlock = some j → vo0.ownBlock = some j ∨ w.heap.size ≤ j) ∧ (∀ j, vm.ownBlock = some j → vm0.ownBlock = some j ∨ w.heap.size ≤ j)
  new : ∀ j, l.ownBlock = some j → w.heap.size ≤ j
  fr : Fr (fun j => j = bo ∨ j = bm ∨ vo0.ownBlock = some j ∨ vm0.ownBlock = some j) w w'

/-- A row of entries is turned, that came behind w0. -/
theorem Twin.far {w0 w w' : World} {bo bm : Nat} {M : DM} {os : List Nat} {ps : List (Nat × Nat)} {vo vm l : Value} {fV : Nat → Value} {n : Nat} {xs : List Value} (h : Twin w0 w bo bm M os ps vo vm fV)
    (hl : w.ownsRow 0 50 2 l n xs) (hn : ∀ k, l.ownBlock = some k → w0.heap.size ≤ k) (f : Fr (fun k => l.ownBlock = some k) w w') :
    Twin w0 w' bo bm M os ps vo vm fV :=
  { h with
    co := h.co.fr f (own_ne hl h.co (by decide))
    cm := h.cm.fr f (own_ne hl h.cm (by decide))
    old := own_fr h.old f (fun _ hk e => own_ne' hl h.old (by decide) e hk)
    made := own_fr h.made f (fun _ hk e => own_ne' hl h.made (by decide) e hk)
    files := fun p hp => (h.files p hp).fr f (own_ne hl (h.files p hp) (by decide))
    rows := fun p hp => own_fr (h.rows p hp) f (fun _ hk e => own_ne' hl (h.rows p hp) (by decide) e hk)
    fr := Fr.trans' h.fr f (fun k hlt hk => absurd (hn k hk) (by omega)) }

theorem OtherAt.step {w0 w W W1 W2 : World} {bo bm : Nat} {M : DM} {ps0 ps : List (Nat × Nat)} {vo0 vm0 vo vm l l' : Value} {fV : Nat → Value} {d d1 : Dir} {k g : Nat} (hk : k < d.length) (h0 : Fr Nil w0 w)
    (T : Twin w0 W bo bm M (ps.map Prod.fst) ps vo vm fV) (hsub : ∀ p, p ∈ ps0 → p ∈ ps) (hpl : ps.length ≤ ps0.length + (k + 1)) (hdl : d1.length = k)
    (hpw : ∀ i (h1 : i < d.length) (h2 : i < d1.length), d1[i].1 = d[i].1 ∧ (d[i].2, d1[i].2) ∈ ps) (hown : W.ownsRow 0 50 2 l k (flat d1)) (hnew : ∀ j, l.ownBlock = some j → w.heap.size ≤ j)
    (hvo : ∀ j, vo.ownBlock = some j → vo0.ownBlock = some j ∨ w.heap.size ≤ j) (hvm : ∀ j, vm.ownBlock = some j → vm0.ownBlock = some j ∨ w.heap.size ≤ j)
    (hfr : Fr (fun j => j = bo ∨ j = bm ∨ vo0.ownBlock = some j ∨ vm0.ownBlock = some j) w W) (hg : (d[k].2, g) ∈ ps) (f1 : Fr Nil W W1)
    (ha : App W1 l 50 2 (k + 1) (flat d1 ++ [.string d[k].1, .pointer (some ⟨g, 0, none⟩)]) l' W2) :
    OtherAt w0 w bo bm M ps0 vo0 vm0 d (k + 1) l' W2 := by
  have hs0 := h0.size
  have hsw := hfr.size
  have hs1 := f1.size
  have hn0 : ∀ j, l.ownBlock = some j → w0.heap.size ≤ j := fun j hj => by have := hnew j hj; omega
  refine ⟨⟨ps, vo, vm, fV, d1 ++ [(d[k].1, g)], (T.keep f1).far (own_fr hown f1 (fun _ _ => id)) hn0 ha.fr, hsub, hpl, by simp [hdl], ?_, ?_, hvo, hvm⟩, ?_, ?_⟩
  · intro i h1 h2
    by_cases e : i < d1.length
    · rw [List.getElem_append_left e]
      exact hpw i h1 e
    · have e' : i = k := by simp at h2; omega
      subst e'
      rw [List.getElem_append_right (by omega)]
      simp only [hdl, Nat.sub_self, List.getElem_cons_zero]
      exact ⟨trivial, hg⟩
  · have e : flat (d1 ++ [(d[k].1, g)]) = flat d1 ++ [.string d[k].1, .pointer (some ⟨g, 0, none⟩)] := by simp [flat]
    rw [e]
    exact ha.own
  · intro j hj
    rcases ha.at_ with e | e
    · exact hnew j (by rw [← e]; exact hj)
    · rw [e] at hj; simp at hj; omega
  · refine Fr.trans' (hfr.trans (f1.mono (fun _ _ => False.elim))) ha.fr ?_
    intro j hlt hj
    have := hnew j hj
    omega

/-- A file is born: its bytes copied, its block, its place in the row made. -/
theorem Twin.born {w0 W3 w8 w9 : World} {bo bm f : Nat} {M : DM} {ps : List (Nat × Nat)} {vo vm v9 : Value} {fV : Nat → Value} {a8 : Option Addr} {c8 : Nat} (T : Twin w0 W3 bo bm M (ps.map Prod.fst ++ [f]) ps vo vm fV) (hf8 : Fr Nil W3 w8)
    (ha8 : App W3.drew (.slice none 0 0) 5 1 (0 + (M.file f).bytes.length) ([] ++ u8s (M.file f).bytes) (.slice a8 (0 + (M.file f).bytes.length) c8) w8)
    (ha9 : App ((w8.alloc (.cells #[.slice a8 (M.file f).bytes.length c8, .int .i64 (M.file f).safe] 54)).alloc (.cells #[.pointer (some ⟨w8.heap.size, 0, none⟩)] 48)) vm 48 1 (ps.length + 1)
      (ptrs (ps.map Prod.snd) ++ [.pointer (some ⟨w8.heap.size, 0, none⟩)]) v9 w9) :
    Twin w0 (w9.setCell ⟨bm, 0, none⟩ v9) bo bm M ((ps ++ [(f, w8.heap.size)]).map Prod.fst) (ps ++ [(f, w8.heap.size)]) vo v9 (fun g => if g = w8.heap.size then .slice a8 (M.file f).bytes.length c8 else fV g) ∧
      Fr (fun k => k = bm ∨ vm.ownBlock = some k) W3 (w9.setCell ⟨bm, 0, none⟩ v9) ∧ (∀ k, v9.ownBlock = some k → vm.ownBlock = some k ∨ W3.heap.size ≤ k) := by
  have hown := ha8.own
  simp only [Nat.zero_add, List.nil_append] at hown
  have hat := ha8.at_
  simp only [Nat.zero_add] at hat
  have hnf := (Blk.new w8 [.slice a8 (M.file f).bytes.length c8, .int .i64 (M.file f).safe] 54).alloc (.cells #[.pointer (some ⟨w8.heap.size, 0, none⟩)] 48)
  have hrow : ((w8.alloc (.cells #[.slice a8 (M.file f).bytes.length c8, .int .i64 (M.file f).safe] 54)).alloc (.cells #[.pointer (some ⟨w8.heap.size, 0, none⟩)] 48)).ownsRow 0 5 1 (.slice a8 (M.file f).bytes.length c8) (M.file f).bytes.length (u8s (M.file f).bytes) :=
    (hown.alloc _).alloc _
  have h := T.made_push (v8 := .slice a8 (M.file f).bytes.length c8) ((hf8.alloc _).alloc _) hrow (by
    intro k hk
    rcases hat with e | e
    · rw [e] at hk; simp [Value.ownBlock] at hk
    · rw [e] at hk; simp at hk; rw [← hk]; exact Nat.le_refl _) hnf hf8.size ha9
  rw [List.map_append]
  exact h

theorem OtherAt.step_new {w0 w w1 w2 W3 W4 W5 W6 : World} {bo bm nf : Nat} {M : DM} {ps0 ps : List (Nat × Nat)} {vo0 vm0 vo vm v3 v9 l l' : Value} {fV' : Nat → Value} {d d1 : Dir} {k : Nat} (hk : k < d.length) (h0 : Fr Nil w0 w)
    (hat : OtherAt w0 w bo bm M ps0 vo0 vm0 d k l w1) (hsub : ∀ p, p ∈ ps0 → p ∈ ps) (hpl : ps.length ≤ ps0.length + k) (hdl : d1.length = k)
    (hpw : ∀ i (h1 : i < d.length) (h2 : i < d1.length), d1[i].1 = d[i].1 ∧ (d[i].2, d1[i].2) ∈ ps)
    (hvo : ∀ j, vo.ownBlock = some j → vo0.ownBlock = some j ∨ w.heap.size ≤ j) (hvm : ∀ j, vm.ownBlock = some j → vm0.ownBlock = some j ∨ w.heap.size ≤ j)
    (hf2 : Fr Nil w1 w2) (hf3 : Fr (fun j => j = bo ∨ vo.ownBlock = some j) w2 W3) (hvo3 : ∀ j, v3.ownBlock = some j → vo.ownBlock = some j ∨ w2.heap.size ≤ j)
    (T5 : Twin w0 W4 bo bm M ((ps ++ [(d[k].2, nf)]).map Prod.fst) (ps ++ [(d[k].2, nf)]) v3 v9 fV') (hf4 : Fr (fun j => j = bm ∨ vm.ownBlock = some j) W3 W4) (hvm4 : ∀ j, v9.ownBlock = some j → vm.ownBlock = some j ∨ W3.heap.size ≤ j)
    (hown4 : W4.ownsRow 0 50 2 l k (flat d1)) (f1 : Fr Nil W4 W5)
    (ha : App W5 l 50 2 (k + 1) (flat d1 ++ [.string d[k].1, .pointer (some ⟨nf, 0, none⟩)]) l' W6) :
    OtherAt w0 w bo bm M ps0 vo0 vm0 d (k + 1) l' W6 := by
  have s1 := hat.fr.size
  have s2 := hf2.size
  have s3 := hf3.size
  refine OtherAt.step hk h0 T5 (fun p hp => List.mem_append_left _ (hsub p hp)) (by simp; omega) hdl (fun i h1 h2 => ⟨(hpw i h1 h2).1, List.mem_append_left _ (hpw i h1 h2).2⟩) hown4 hat.new ?_ ?_ ?_ (by simp) f1 ha
  · intro j hj
    rcases hvo3 j hj with e | e
    · exact hvo j e
    · exact .inr (by omega)
  · intro j hj
    rcases hvm4 j hj with e | e
    · exact hvm j e
    · exact .inr (by omega)
  · refine Fr.trans' (Fr.trans' (hat.fr.trans (hf2.mono (fun _ _ => False.elim))) hf3 ?_) hf4 ?_
    · intro j hlt hj
      rcases hj with e | e
      · exact .inl e
      · rcases hvo j e with e' | e'
        · exact .inr (.inr (.inl e'))
        · omega
    · intro j hlt hj
      rcases hj with e | e
      · exact .inr (.inl e)
      · rcases hvm j e with e' | e'
        · exact .inr (.inr (.inr e'))
        · omega

theorem own_past {w0 w2 W3 W4 : World} {bo bm : Nat} {M : DM} {os os' : List Nat} {ps ps' : List (Nat × Nat)} {vo vm vo' l : Value} {fV fV' : Nat → Value} {n : Nat} {xs : List Value} (T2 : Twin w0 w2 bo bm M os ps vo vm fV)
    (T3 : Twin w0 W3 bo bm M os' ps' vo' vm fV') (hl : w2.ownsRow 0 50 2 l n xs) (hf3 : Fr (fun j => j = bo ∨ vo.ownBlock = some j) w2 W3) (hf4 : Fr (fun j => j = bm ∨ vm.ownBlock = some j) W3 W4) :
    W4.ownsRow 0 50 2 l n xs := by
  have h3 : W3.ownsRow 0 50 2 l n xs := own_fr hl hf3 (fun k hk e => by
    rcases e with e | e
    · subst e; exact own_ne hl T2.co (by decide) hk
    · exact own_ne' T2.old hl (by decide) e hk)
  exact own_fr h3 hf4 (fun k hk e => by
    rcases e with e | e
    · subst e; exact own_ne h3 T3.cm (by decide) hk
    · exact own_ne' T3.made h3 (by decide) e hk)

theorem blk_past {w0 W3 W4 : World} {bo bm g : Nat} {M : DM} {os' : List Nat} {ps' : List (Nat × Nat)} {vm vo' : Value} {fV' : Nat → Value} {c : List Value}
    (T3 : Twin w0 W3 bo bm M os' ps' vo' vm fV') (hb : Blk W3 g c 50) (hf4 : Fr (fun j => j = bm ∨ vm.ownBlock = some j) W3 W4) : Blk W4 g c 50 :=
  hb.fr hf4 (fun e => by
    rcases e with e | e
    · exact hb.ne T3.cm (by decide) e
    · exact own_ne T3.made hb (by decide) e)

end Go.Proofs.Ytkhnggkkiefcdaa
