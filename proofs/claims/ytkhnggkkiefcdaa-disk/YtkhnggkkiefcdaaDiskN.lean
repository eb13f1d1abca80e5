/-
  Package disk: Crash, whole; the two rows that Copy keeps of files and of their twins.
-/
import Derived.Test.YtkhnggkkiefcdaaDiskM
namespace Go.Proofs.Ytkhnggkkiefcdaa
open Go.RowKit

theorem crash_calls (dirs : Int) (tails : List Int) (tv : Value) (w : World) (b : Nat) (L : DL) (M : DM) (h : DRep w b L M) (hd1 : -9223372036854775808 ≤ dirs) (hd2 : dirs ≤ 9223372036854775807)
    (ht : IntsAt w tv tails) (htn : ∀ k, tv.ownBlock = some k → ¬ Foot b L M k) (htr : ∀ x, x ∈ tails → -9223372036854775808 ≤ x ∧ x ≤ 9223372036854775807)
    (hfl : ∀ f, f ∈ M.ids → (M.file f).bytes.length ≤ 1000000000000) (hn : M.chs.length + 1 ≤ 1000000000000) (hm : ∀ d, d ∈ M.safe :: M.chs → d.length ≤ 1000000000000) :
    Calls Try.prog 6 #[.pointer (some ⟨b, 0, none⟩), .int .i64 dirs, tv] w fun e w' =>
      e = .returned (.tuple #[]) ∧ ∃ L', DStep b L M w L' (M.crash dirs tails) w' := by
  have hp := pickN_le dirs M.chs.length
  cases hk : pickN dirs M.chs.length with
  | zero => exact crash_zero dirs tails tv w b L M h hd1 hd2 ht htn htr hfl hn hm hk
  | succ kk => exact crash_some dirs tails tv w b L M h hd1 hd2 ht htn htr hfl hn hm kk (by omega) hk

theorem info_ptr : ((Try.prog.info? 48).map fun i => (i.zero.map (·.cells.size), i.size, i.bytes)) = some (some 1, 1, 8) := by kernel_rfl

def ptrs (l : List Nat) : List Value := l.map fun k => .pointer (some ⟨k, 0, none⟩)

/-- The rows old and made at the variables bo and bm: files os, and of the pairs ps the second ones, each with what the first one has. -/
structure Twin (w0 w : World) (bo bm : Nat) (M : DM) (os : List Nat) (ps : List (Nat × Nat)) (vo vm : Value) (fV : Nat → Value) : Prop where
  co : Blk w bo [vo] 58
  cm : Blk w bm [vm] 58
  ne : bo ≠ bm
  old : w.ownsRow 0 48 1 vo os.length (ptrs os)
  made : w.ownsRow 0 48 1 vm ps.length (ptrs (ps.map Prod.snd))
  sepo : ∀ k, vo.ownBlock = some k → vm.ownBlock ≠ some k
  files : ∀ p, p ∈ ps → Blk w p.2 [fV p.2, .int .i64 (M.file p.1).safe] 54
  rows : ∀ p, p ∈ ps → w.ownsRow 0 5 1 (fV p.2) (M.file p.1).bytes.length (u8s (M.file p.1).bytes)
  sep : ∀ p, p ∈ ps → ∀ q, q ∈ ps → p.2 ≠ q.2 → ∀ k, (fV p.2).ownBlock = some k → (fV q.2).ownBlock ≠ some k
  n1 : os.Nodup
  n2 : (ps.map Prod.snd).Nodup
  ids : ∀ f, f ∈ os → f ∈ M.ids
  nbo : w0.heap.size ≤ bo
  nbm : w0.heap.size ≤ bm
  no : ∀ k, vo.ownBlock = some k → w0.heap.size ≤ k
  nm : ∀ k, vm.ownBlock = some k → w0.heap.size ≤ k
  nf : ∀ p, p ∈ ps → w0.heap.size ≤ p.2
  nr : ∀ p, p ∈ ps → ∀ k, (fV p.2).ownBlock = some k → w0.heap.size ≤ k
  fr : Fr Nil w0 w

theorem Twin.keep {w0 w w' : World} {bo bm : Nat} {M : DM} {os : List Nat} {ps : List (Nat × Nat)} {vo vm : Value} {fV : Nat → Value} (h : Twin w0 w bo bm M os ps vo vm fV) (f : Fr Nil w w') :
    Twin w0 w' bo bm M os ps vo vm fV :=
  { h with
    co := h.co.fr f id
    cm := h.cm.fr f id
    old := own_fr h.old f (fun _ _ => id)
    made := own_fr h.made f (fun _ _ => id)
    files := fun p hp => (h.files p hp).fr f id
    rows := fun p hp => own_fr (h.rows p hp) f (fun _ _ => id)
    fr := h.fr.trans f }

theorem Twin.old_push {w0 w w1 w2 : World} {bo bm : Nat} {M : DM} {os : List Nat} {ps : List (Nat × Nat)} {vo vm vo' : Value} {fV : Nat → Value} (h : Twin w0 w bo bm M os ps vo vm fV) (f1 : Fr Nil w w1) {f : Nat}
    (ha : App w1 vo 48 1 (os.length + 1) (ptrs os ++ [.pointer (some ⟨f, 0, none⟩)]) vo' w2) (hf : f ∉ os) (hi : f ∈ M.ids) :
    Twin w0 (w2.setCell ⟨bo, 0, none⟩ vo') bo bm M (os ++ [f]) ps vo' vm fV ∧ Fr (fun k => k = bo ∨ vo.ownBlock = some k) w (w2.setCell ⟨bo, 0, none⟩ vo') ∧
      (∀ k, vo'.ownBlock = some k → vo.ownBlock = some k ∨ w.heap.size ≤ k) := by
  have h1 := h.keep f1
  have hs1 := f1.size
  have hat : ∀ k, vo'.ownBlock = some k → vo.ownBlock = some k ∨ w1.heap.size ≤ k := by
    intro k hk
    rcases ha.at_ with e | e
    · exact .inl (by rw [← e]; exact hk)
    · rw [e] at hk; simp at hk; exact .inr (by omega)
  have hbo : Blk w2 bo [vo] 58 := h1.co.fr ha.fr (own_ne h1.old h1.co (by decide))
  have hw2 : Fr (fun k => k = bo) w2 (w2.setCell ⟨bo, 0, none⟩ vo') := Fr.set (S := fun k => k = bo) (p := ⟨bo, 0, none⟩) (Fr.refl _ _) (fun _ => rfl) vo'
  have hfr : Fr (fun k => k = bo ∨ vo.ownBlock = some k) w1 (w2.setCell ⟨bo, 0, none⟩ vo') :=
    (ha.fr.mono (fun _ _ => .inr)).trans (hw2.mono (fun _ _ => .inl))
  have hfw : Fr (fun k => k = bo ∨ vo.ownBlock = some k) w (w2.setCell ⟨bo, 0, none⟩ vo') := (f1.mono (fun _ _ => False.elim)).trans hfr
  have hno : ∀ k, vo'.ownBlock = some k → w0.heap.size ≤ k := by
    intro k hk
    rcases hat k hk with e | e
    · exact h.no k e
    · have := h1.fr.size; omega
  refine ⟨?_, hfw, fun k hk => (hat k hk).imp id (fun e => by omega)⟩
  refine { h with
    co := hbo.set 0 vo'
    cm := h1.cm.fr hfr (fun e => ?_)
    old := ?_
    made := own_fr h1.made hfr (fun k hk e => ?_)
    sepo := fun k hk e => ?_
    files := fun p hp => (h1.files p hp).fr hfr (fun e => ?_)
    rows := fun p hp => own_fr (h1.rows p hp) hfr (fun k hk e => ?_)
    n1 := ?_
    ids := ?_
    no := hno
    fr := Fr.trans' h.fr hfw (fun k hk e => ?_) }
  · rcases e with e | e
    · exact h.ne e.symm
    · exact own_ne h1.old h1.cm (by decide) e
  · have e : ptrs (os ++ [f]) = ptrs os ++ [.pointer (some ⟨f, 0, none⟩)] := by simp [ptrs]
    rw [e, List.length_append]
    exact own_fr ha.own hw2 (fun k hk e => by subst e; exact own_ne ha.own hbo (by decide) hk)
  · rcases e with e | e
    · subst e; exact own_ne h1.made h1.co (by decide) hk
    · exact h.sepo k e hk
  · rcases hat k hk with e' | e'
    · exact h.sepo k e' e
    · have := own_lt h1.made e; omega
  · rcases e with e | e
    · exact (h1.files p hp).ne h1.co (by decide) e
    · exact own_ne h1.old (h1.files p hp) (by decide) e
  · rcases e with e | e
    · subst e; exact own_ne (h1.rows p hp) h1.co (by decide) hk
    · exact own_ne' h1.old (h1.rows p hp) (by decide) e hk
  · rw [List.nodup_append]
    refine ⟨h.n1, by simp, ?_⟩
    intro a ha' b hb
    simp at hb
    subst hb
    intro e
    subst e
    exact hf ha'
  · intro g hg
    rcases List.mem_append.1 hg with hg | hg
    · exact h.ids g hg
    · simp at hg; subst hg; exact hi
  · rcases e with e | e
    · have := h.nbo; omega
    · have := h.no k e; omega

theorem Twin.made_push {w0 w w1 w2 : World} {bo bm : Nat} {M : DM} {os : List Nat} {ps : List (Nat × Nat)} {vo vm vm' v8 : Value} {fV : Nat → Value} (h : Twin w0 w bo bm M os ps vo vm fV) (f1 : Fr Nil w w1) {f nf : Nat}
    (hrow : w1.ownsRow 0 5 1 v8 (M.file f).bytes.length (u8s (M.file f).bytes)) (hrn : ∀ k, v8.ownBlock = some k → w.heap.size ≤ k)
    (hnf : Blk w1 nf [v8, .int .i64 (M.file f).safe] 54) (hnn : w.heap.size ≤ nf)
    (ha : App w1 vm 48 1 (ps.length + 1) (ptrs (ps.map Prod.snd) ++ [.pointer (some ⟨nf, 0, none⟩)]) vm' w2) :
    Twin w0 (w2.setCell ⟨bm, 0, none⟩ vm') bo bm M os (ps ++ [(f, nf)]) vo vm' (fun g => if g = nf then v8 else fV g) ∧ Fr (fun k => k = bm ∨ vm.ownBlock = some k) w (w2.setCell ⟨bm, 0, none⟩ vm') ∧
      (∀ k, vm'.ownBlock = some k → vm.ownBlock = some k ∨ w.heap.size ≤ k) := by
  have h1 := h.keep f1
  have hs1 := f1.size
  have hs0 := h.fr.size
  have hat : ∀ k, vm'.ownBlock = some k → vm.ownBlock = some k ∨ w1.heap.size ≤ k := by
    intro k hk
    rcases ha.at_ with e | e
    · exact .inl (by rw [← e]; exact hk)
    · rw [e] at hk; simp at hk; exact .inr (by omega)
  have hbm : Blk w2 bm [vm] 58 := h1.cm.fr ha.fr (own_ne h1.made h1.cm (by decide))
  have hw2 : Fr (fun k => k = bm) w2 (w2.setCell ⟨bm, 0, none⟩ vm') := Fr.set (S := fun k => k = bm) (p := ⟨bm, 0, none⟩) (Fr.refl _ _) (fun _ => rfl) vm'
  have hfr : Fr (fun k => k = bm ∨ vm.ownBlock = some k) w1 (w2.setCell ⟨bm, 0, none⟩ vm') :=
    (ha.fr.mono (fun _ _ => .inr)).trans (hw2.mono (fun _ _ => .inl))
  have hfw : Fr (fun k => k = bm ∨ vm.ownBlock = some k) w (w2.setCell ⟨bm, 0, none⟩ vm') := (f1.mono (fun _ _ => False.elim)).trans hfr
  have hpn : ∀ p, p ∈ ps → p.2 ≠ nf := by
    intro p hp e
    have := (h.files p hp).lt
    omega
  have hrl : ∀ p, p ∈ ps → ∀ k, (fV p.2).ownBlock = some k → k < w.heap.size := fun p hp k hk => own_lt (h.rows p hp) hk
  have hfb : ∀ {c : List Value} {g : Nat}, Blk w1 g c 54 → Blk (w2.setCell ⟨bm, 0, none⟩ vm') g c 54 := by
    intro c g hg
    refine hg.fr hfr (fun e => ?_)
    rcases e with e | e
    · exact hg.ne h1.cm (by decide) e
    · exact own_ne h1.made hg (by decide) e
  have hrb : ∀ {v : Value} {n : Nat} {xs : List Value}, w1.ownsRow 0 5 1 v n xs → (w2.setCell ⟨bm, 0, none⟩ vm').ownsRow 0 5 1 v n xs := by
    intro v n xs hv
    refine own_fr hv hfr (fun k hk e => ?_)
    rcases e with e | e
    · subst e; exact own_ne hv h1.cm (by decide) hk
    · exact own_ne' h1.made hv (by decide) e hk
  refine ⟨?_, hfw, fun k hk => (hat k hk).imp id (fun e => by omega)⟩
  refine { h with
    co := h1.co.fr hfr (fun e => ?_)
    cm := hbm.set 0 vm'
    old := own_fr h1.old hfr (fun k hk e => ?_)
    made := ?_
    sepo := fun k hk e => ?_
    files := fun p hp => ?_
    rows := fun p hp => ?_
    sep := fun p hp q hq hne k hk e => ?_
    n2 := ?_
    nm := fun k hk => ?_
    nf := fun p hp => ?_
    nr := fun p hp k hk => ?_
    fr := Fr.trans' h.fr hfw (fun k hk e => ?_) }
  · rcases e with e | e
    · exact h.ne e
    · exact own_ne h1.made h1.co (by decide) e
  · rcases e with e | e
    · subst e; exact own_ne h1.old h1.cm (by decide) hk
    · exact h.sepo k hk e
  · have e : ptrs ((ps ++ [(f, nf)]).map Prod.snd) = ptrs (ps.map Prod.snd) ++ [.pointer (some ⟨nf, 0, none⟩)] := by simp [ptrs]
    rw [e, List.length_append]
    exact own_fr ha.own hw2 (fun k hk e => by subst e; exact own_ne ha.own hbm (by decide) hk)
  · rcases hat k e with e' | e'
    · exact h.sepo k hk e'
    · have := own_lt h1.old hk; omega
  · rcases List.mem_append.1 hp with hp | hp
    · simp only [hpn p hp, if_false]
      exact hfb (h1.files p hp)
    · simp at hp; subst hp
      simp only [if_true]
      exact hfb hnf
  · rcases List.mem_append.1 hp with hp | hp
    · simp only [hpn p hp, if_false]
      exact hrb (h1.rows p hp)
    · simp at hp; subst hp
      simp only [if_true]
      exact hrb hrow
  · rcases List.mem_append.1 hp with hp | hp <;> rcases List.mem_append.1 hq with hq | hq
    · simp only [hpn p hp, hpn q hq, if_false] at hk e
      exact h.sep p hp q hq hne k hk e
    · simp at hq; subst hq
      simp only [hpn p hp, if_false] at hk
      simp only [if_true] at e
      have := hrl p hp k hk
      have := hrn k e
      omega
    · simp at hp; subst hp
      simp only [hpn q hq, if_false] at e
      simp only [if_true] at hk
      have := hrl q hq k e
      have := hrn k hk
      omega
    · simp at hp hq; subst hp; subst hq
      exact hne rfl
  · rw [List.map_append, List.nodup_append]
    refine ⟨h.n2, by simp, ?_⟩
    intro a ha' b hb
    simp at hb
    subst hb
    obtain ⟨p, hp, rfl⟩ := List.mem_map.1 ha'
    exact hpn p hp
  · rcases hat k hk with e | e
    · exact h.nm k e
    · omega
  · rcases List.mem_append.1 hp with hp | hp
    · exact h.nf p hp
    · simp at hp; subst hp; show w0.heap.size ≤ nf; omega
  · rcases List.mem_append.1 hp with hp | hp
    · simp only [hpn p hp, if_false] at hk
      exact h.nr p hp k hk
    · simp at hp; subst hp
      simp only [if_true] at hk
      have := hrn k hk; omega
  · rcases e with e | e
    · have := h.nbm; omega
    · have := h.nm k e; omega

end Go.Proofs.Ytkhnggkkiefcdaa
