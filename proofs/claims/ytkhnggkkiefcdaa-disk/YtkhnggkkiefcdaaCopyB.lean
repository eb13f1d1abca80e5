/-
  Package disk: Copy, whole.
-/
import Derived.Test.YtkhnggkkiefcdaaCopyA
import Derived.Test.YtkhnggkkiefcdaaDiskP
import Derived.StillTailTactics
namespace Go.Proofs.Ytkhnggkkiefcdaa
open Go.RowKit

theorem other_step {w0 w : World} {b bo bm nb : Nat} {L0 L : DL} {M : DM} {D S : Dir} {k : Nat} {ps : List (Nat × Nat)} {vo vm : Value} {fV : Nat → Value} {d1 s1 : Dir} {c1 : List Dir} (h : DRep w0 b L0 M)
    (hids : M.ids.length ≤ 100000000000) (hfl : ∀ f, f ∈ M.ids → (M.file f).bytes.length ≤ 1000000000000) (C : CopyAt w0 w bo bm nb M D S k ps vo vm fV L d1 s1 c1)
    (v : Value) (d : Dir) (hd : w0.ownsRow 0 50 2 v d.length (flat d)) (hi : ∀ e, e ∈ d → e.2 ∈ M.ids) (hdl : d.length ≤ 100000000000) :
    Calls Try.prog 25 #[v, .pointer (some ⟨bo, 0, none⟩), .pointer (some ⟨bm, 0, none⟩)] w fun e w' =>
      ∃ l, e = .returned l ∧ OtherTo w0 w w' bo bm nb M D S k ps L d1 s1 c1 d l := by
  have hp : ps.length ≤ M.ids.length := by
    have := nodup_le (ps.map Prod.fst) M.ids C.T.n1 C.T.ids
    rw [List.length_map] at this
    exact this
  refine (other_calls w0 w b bo bm L0 M ps vo vm fV h C.T v d hd hi (by omega) hfl).mono ?_
  rintro e w' ⟨l, rfl, ho⟩
  exact ⟨l, rfl, C.other ho⟩

/-- Behind the first list. -/
structure First (w w3 : World) (b bo bm nb : Nat) (L : DL) (M : DM) (l1 : Value) : Prop where
  ex : ∃ ps vo vm fV d1, CopyAt w w3 bo bm nb M [] [] 0 ps vo vm fV DL.new [] [] [] ∧ Rel ps M.dir d1 ∧ w3.ownsRow 0 50 2 l1 d1.length (flat d1) ∧ (∀ j, l1.ownBlock = some j → w.heap.size ≤ j)
  c0 : w3.cell? ⟨b, 0, none⟩ = some L.dirV
  c1 : w3.cell? ⟨b, 1, none⟩ = some L.safeV

/-- Behind the second list. -/
structure Second (w w4 : World) (b bo bm nb : Nat) (L : DL) (M : DM) (l1 l2 : Value) : Prop where
  ex : ∃ ps vo vm fV d1 s1, CopyAt w w4 bo bm nb M [] [] 0 ps vo vm fV DL.new [] [] [] ∧ Rel ps M.dir d1 ∧ Rel ps M.safe s1 ∧ w4.ownsRow 0 50 2 l1 d1.length (flat d1) ∧ w4.ownsRow 0 50 2 l2 s1.length (flat s1) ∧
    (∀ j, l1.ownBlock = some j → w.heap.size ≤ j) ∧ (∀ j, l2.ownBlock = some j → w.heap.size ≤ j)
  c0 : w4.cell? ⟨b, 0, none⟩ = some L.dirV
  c1 : w4.cell? ⟨b, 1, none⟩ = some L.safeV
  n : ∀ k, w4.cell? ⟨nb, k, none⟩ = (M.cells DL.new)[k]?
  nf : ∀ k, w4.frozen? ⟨nb, k, none⟩ = false

theorem copy_first {w W : World} {b bo bm nb : Nat} {L : DL} {M : DM} {ps : List (Nat × Nat)} {vo vm : Value} {fV : Nat → Value} (h : DRep w b L M)
    (hids : M.ids.length ≤ 100000000000) (hfl : ∀ f, f ∈ M.ids → (M.file f).bytes.length ≤ 1000000000000) (hdl : M.dir.length ≤ 100000000000) (C : CopyAt w W bo bm nb M [] [] 0 ps vo vm fV DL.new [] [] []) :
    Calls Try.prog 25 #[L.dirV, .pointer (some ⟨bo, 0, none⟩), .pointer (some ⟨bm, 0, none⟩)] W fun e w3 =>
      ∃ a n, e = .returned (.slice a M.dir.length n) ∧ First w w3 b bo bm nb L M (.slice a M.dir.length n) := by
  refine (other_step h hids hfl C L.dirV M.dir h.dir h.inD hdl).mono ?_
  rintro e w3 ⟨l, rfl, o⟩
  obtain ⟨ps', vo', vm', fV', d', C', _, r, ho, hn⟩ := o.ex
  obtain ⟨a, n, hl⟩ := own_form ho
  rw [r.len] at hl
  subst hl
  have hb := (h.blk.fr C'.T.fr id).cell
  simp only [DM.cells] at hb
  exact ⟨a, n, rfl, ⟨_, _, _, _, _, C', r, ho, hn⟩, hb 0, hb 1⟩

theorem copy_second {w w3 W : World} {b bo bm nb : Nat} {L : DL} {M : DM} {l1 : Value} (h : DRep w b L M)
    (hids : M.ids.length ≤ 100000000000) (hfl : ∀ f, f ∈ M.ids → (M.file f).bytes.length ≤ 1000000000000) (hdl : M.safe.length ≤ 100000000000) (F : First w w3 b bo bm nb L M l1) (f : Fr Nil w3 W) :
    Calls Try.prog 25 #[L.safeV, .pointer (some ⟨bo, 0, none⟩), .pointer (some ⟨bm, 0, none⟩)] W fun e w4 =>
      ∃ a n, e = .returned (.slice a M.safe.length n) ∧ Second w w4 b bo bm nb L M l1 (.slice a M.safe.length n) := by
  obtain ⟨ps, vo, vm, fV, d1, C, r1, ho1, hn1⟩ := F.ex
  refine (other_step h hids hfl (C.keep f) L.safeV M.safe h.safe h.inS hdl).mono ?_
  rintro e w4 ⟨l, rfl, o⟩
  obtain ⟨ps', vo', vm', fV', d', C', hs, r, ho, hn⟩ := o.ex
  obtain ⟨a, n, hl⟩ := own_form ho
  rw [r.len] at hl
  subst hl
  have hb := (h.blk.fr C'.T.fr id).cell
  simp only [DM.cells] at hb
  exact ⟨a, n, rfl, ⟨_, _, _, _, _, _, C', r1.more hs, r, o.row _ _ _ _ _ (own_fr ho1 f (fun _ _ => id)) (by decide) (by decide), ho, hn1, hn⟩, hb 0, hb 1, C'.blk.cell, C'.blk.frozen⟩

theorem Second.lists {w w4 : World} {b bo bm nb : Nat} {L : DL} {M : DM} {l1 l2 : Value} (h : Second w w4 b bo bm nb L M l1 l2) :
    ∃ ps vo vm fV d1 s1, CopyAt w ((w4.setCell ⟨nb, 0, none⟩ l1).setCell ⟨nb, 1, none⟩ l2) bo bm nb M M.dir M.safe 0 ps vo vm fV { DL.new with dirV := l1, safeV := l2 } d1 s1 [] := by
  obtain ⟨ps, vo, vm, fV, d1, s1, C, r1, r2, h1, h2, n1, n2⟩ := h.ex
  refine ⟨ps, vo, vm, fV, d1, s1, C.lists ?_ ?_ h1 h2 r1 r2 n1 n2⟩
  · exact Fr.set (S := fun j => j = nb) (p := ⟨nb, 1, none⟩) (Fr.set (S := fun j => j = nb) (p := ⟨nb, 0, none⟩) (Fr.refl _ w4) (fun _ => rfl) l1) (fun _ => rfl) l2
  · exact (C.blk.set 0 l1).set 1 l2

/-- Behind a change's list. -/
structure Change (w W w5 : World) (bo bm nb : Nat) (M : DM) (k : Nat) (hk : k < M.chs.length) (L1 : DL) (d1 s1 : Dir) (c1 : List Dir) (l : Value) : Prop where
  ex : ∃ ps vo vm fV d', CopyAt w w5 bo bm nb M M.dir M.safe k ps vo vm fV L1 d1 s1 c1 ∧ Rel ps M.chs[k] d' ∧ w5.ownsRow 0 50 2 l d'.length (flat d') ∧ (∀ j, l.ownBlock = some j → w.heap.size ≤ j)
  blk : ∀ (g : Nat) (c : List Value) (e : TypeId), Blk W g c e → e ≠ 58 → e ≠ 48 → Blk w5 g c e

theorem copy_change {w w1 W : World} {b bo bm nb : Nat} {L L1 : DL} {M : DM} {k : Nat} {ps : List (Nat × Nat)} {vo vm v : Value} {fV : Nat → Value} {d1 s1 : Dir} {c1 : List Dir} (h : DRep w b L M)
    (hids : M.ids.length ≤ 100000000000) (hfl : ∀ f, f ∈ M.ids → (M.file f).bytes.length ≤ 1000000000000) (hk : k < M.chs.length) (hkl : k < L.chVs.length) (hdl : M.chs[k].length ≤ 100000000000)
    (C : CopyAt w w1 bo bm nb M M.dir M.safe k ps vo vm fV L1 d1 s1 c1) (hv : L.chVs[k] = v) (f : Fr Nil w1 W) :
    Calls Try.prog 25 #[v, .pointer (some ⟨bo, 0, none⟩), .pointer (some ⟨bm, 0, none⟩)] W fun e w5 =>
      ∃ a n, e = .returned (.slice a M.chs[k].length n) ∧ Change w W w5 bo bm nb M k hk L1 d1 s1 c1 (.slice a M.chs[k].length n) := by
  subst hv
  refine (other_step h hids hfl (C.keep f) L.chVs[k] M.chs[k] (h.chs k hkl hk) (h.inC _ (List.getElem_mem hk)) hdl).mono ?_
  rintro e w5 ⟨l, rfl, o⟩
  obtain ⟨ps', vo', vm', fV', d', C', _, r, ho, hn⟩ := o.ex
  obtain ⟨a, n, hl⟩ := own_form ho
  rw [r.len] at hl
  subst hl
  exact ⟨a, n, rfl, ⟨_, _, _, _, _, C', r, ho, hn⟩, o.blk⟩

theorem Change.row {w W w5 W' : World} {bo bm nb : Nat} {M : DM} {k : Nat} {hk : k < M.chs.length} {L1 : DL} {d1 s1 : Dir} {c1 : List Dir} {l v : Value} (X : Change w W w5 bo bm nb M k hk L1 d1 s1 c1 l) (hv : L1.chV = v) (f : Fr Nil w5 W') :
    W'.ownsRow 0 47 1 v k L1.chVs := by
  subst hv
  obtain ⟨_, _, _, _, _, C, _⟩ := X.ex
  exact own_fr C.ch f (fun _ _ => id)

theorem Change.cell {w W w5 : World} {bo bm nb : Nat} {M : DM} {k : Nat} {hk : k < M.chs.length} {L1 : DL} {d1 s1 : Dir} {c1 : List Dir} {l v : Value} (X : Change w W w5 bo bm nb M k hk L1 d1 s1 c1 l) (hv : L1.chV = v) :
    w5.cell? ⟨nb, 2, none⟩ = some v := by
  subst hv
  obtain ⟨_, _, _, _, _, C, _⟩ := X.ex
  exact C.blk.cell 2

theorem Change.lt {w W w5 : World} {bo bm nb : Nat} {M : DM} {k : Nat} {hk : k < M.chs.length} {L1 : DL} {d1 s1 : Dir} {c1 : List Dir} {l : Value} (X : Change w W w5 bo bm nb M k hk L1 d1 s1 c1 l) : nb < w5.heap.size := by
  obtain ⟨_, _, _, _, _, C, _⟩ := X.ex
  exact C.blk.lt

theorem Change.push {w W w5 W' w6 : World} {bo bm nb g : Nat} {M : DM} {k : Nat} {hk : k < M.chs.length} {L1 : DL} {d1 s1 : Dir} {c1 : List Dir} {l v v6 : Value} {c : List Value} (X : Change w W w5 bo bm nb M k hk L1 d1 s1 c1 l) (hv : L1.chV = v) (f : Fr Nil w5 W')
    (ha : App W' v 47 1 (k + 1) (L1.chVs ++ [l]) v6 w6) (hb : Blk w5 g c 47) (hg : ∀ j, L1.chV.ownBlock = some j → j < g) :
    (∃ ps vo vm fV L2 d2 s2 c2, CopyAt w (w6.setCell ⟨nb, 2, none⟩ v6) bo bm nb M M.dir M.safe (k + 1) ps vo vm fV L2 d2 s2 c2) ∧ (∀ i, w6.cell? ⟨nb, i, none⟩ = (M.cells L1)[i]?) ∧ (∀ i, w6.frozen? ⟨nb, i, none⟩ = false) ∧
      (∀ i, w6.cell? ⟨g, i, none⟩ = c[i]?) := by
  subst hv
  obtain ⟨ps, vo, vm, fV, d', C, r, ho, hn⟩ := X.ex
  have hb6 : Blk w6 nb (M.cells L1) 45 := (C.blk.fr f id).fr ha.fr (own_ne (own_fr C.ch f (fun _ _ => id)) (C.blk.fr f id) (by decide))
  have hg6 : Blk w6 g c 47 := (hb.fr f id).fr ha.fr (fun e => by have := hg g e; omega)
  exact ⟨⟨_, _, _, _, _, _, _, _, C.push hk f ha ho r hn⟩, hb6.cell, hb6.frozen, hg6.cell⟩

theorem copy_begins (w : World) (M : DM) :
    CopyAt w (((w.alloc (.cells (M.cells DL.new).toArray 45)).alloc (.cells #[.slice none 0 0] 58)).alloc (.cells #[.slice none 0 0] 58)).drew (w.heap.size + 1) (w.heap.size + 1 + 1) w.heap.size M [] [] 0 [] (.slice none 0 0) (.slice none 0 0) DL.new.fV DL.new [] [] [] := by
  have hf : Fr Nil w (((w.alloc (.cells (M.cells DL.new).toArray 45)).alloc (.cells #[.slice none 0 0] 58)).alloc (.cells #[.slice none 0 0] 58)).drew := (by repeat' first | exact Fr.refl _ _ | (with_reducible assumption) | refine Fr.drewN ?_ _ | refine Fr.drew ?_ | refine Fr.alloc ?_ _ | refine Fr.set ?_ ?_ _ | (intro _; rfl))
  have e1 : (w.alloc (.cells (M.cells DL.new).toArray 45)).heap.size = w.heap.size + 1 := by simp
  have e2 : ((w.alloc (.cells (M.cells DL.new).toArray 45)).alloc (.cells #[.slice none 0 0] 58)).heap.size = w.heap.size + 1 + 1 := by simp
  have h1 := ((Blk.new (w.alloc (.cells (M.cells DL.new).toArray 45)) [.slice none 0 0] 58).alloc (.cells #[.slice none 0 0] 58)).drew
  have h2 := (Blk.new ((w.alloc (.cells (M.cells DL.new).toArray 45)).alloc (.cells #[.slice none 0 0] 58)) [.slice none 0 0] 58).drew
  have h3 := (((Blk.new w (M.cells DL.new) 45).alloc (.cells #[.slice none 0 0] 58)).alloc (.cells #[.slice none 0 0] 58)).drew
  rw [e1] at h1
  rw [e2] at h2
  exact CopyAt.start M (Twin.start M h1 h2 (by omega) (by omega) (by omega) hf _) h3 (Nat.le_refl _)

set_option maxRecDepth 100000 in
set_option maxHeartbeats 3200000 in
theorem copy_calls (w : World) (b : Nat) (L : DL) (M : DM) (h : DRep w b L M) (hids : M.ids.length ≤ 100000000000) (hdl : ∀ d, d ∈ M.dir :: M.safe :: M.chs → d.length ≤ 100000000000) (hcn : M.chs.length ≤ 100000000000)
    (hfl : ∀ f, f ∈ M.ids → (M.file f).bytes.length ≤ 1000000000000) :
    Calls Try.prog 11 #[.pointer (some ⟨b, 0, none⟩)] w (CopySaid w M) := by
  have hc := h.blk.cell
  simp only [DM.cells] at hc
  obtain ⟨ca, cc, hcv⟩ := own_form h.ch
  have hlt := h.blk.lt
  have hmf : ∀ (fn : Fn) (first cap : Array Value) (w : World), (Instr.makeFunc fn first cap).run Try.prog w = .ok (.func fn first cap) w := fun _ _ _ _ => rfl
  have hne1 : ¬ b = w.heap.size := by omega
  have hne2 : ¬ w.heap.size = b := by omega
  have hC0 := copy_begins w M
  simp only [DM.cells, DL.new] at hC0
  have HC0 := hide hC0
  have HH := hide h
  have HCV := hide hcv
  have HDL := hide hdl
  clear h hcv hdl hC0
  go_enter Try.func11, Try.ntmps11
  go_wp2
  refine wp_region_still_tail 33 (by kernel_rfl) (by kernel_rfl) ?_
  simp only [List.take_succ_cons, List.take_zero, List.drop_succ_cons, List.drop_zero]
  iterate 33 still_step
  refine wpStill_nil ?_
  go_wp2
  obtain ⟨W2, hW2⟩ : ∃ W2, (((w.alloc (.cells #[.slice none 0 0, .slice none 0 0, .slice none 0 0, .int .i64 M.room, .int .i64 M.calls, .int .i64 M.cut, .int .i64 M.fail, .int .i64 M.part, .int .i64 M.refused, .int .i64 M.fulls, .bool M.dead] 45)).alloc (.cells #[.slice none 0 0] 58)).alloc (.cells #[.slice none 0 0] 58)).drew = W2 := ⟨_, rfl⟩
  have hC2 := HC0.out
  rw [hW2] at hC2 ⊢
  have hb2 := (HH.out.blk.fr hC2.T.fr id).cell
  simp only [DM.cells] at hb2
  have hb20 := hb2 0
  have hb21 := hb2 1
  simp at hb20 hb21
  have HC2 := hide hC2
  clear hC2 hW2 hc HC0 hb2
  go_region_held3 (fun w' => w'.cell? ⟨b, 0, none⟩ = some L.dirV ∧ w'.cell? ⟨b, 1, none⟩ = some L.safeV) (first | go_keep | exact ⟨‹_›, ‹_›⟩)
    (first
    | (go_at_call 25; refine (copy_second HH.out hids hfl (HDL.out _ (List.mem_cons_of_mem _ (List.mem_cons_self ..))) HF.out (by repeat' first | (with_reducible exact Fr.refl _ _) | (with_reducible assumption) | (with_reducible refine Fr.drewN ?_ _) | (with_reducible refine Fr.drew ?_) | (with_reducible refine Fr.alloc ?_ _) | (with_reducible refine Fr.set ?_ ?_ _) | (intro _; rfl))).mono ?_; rintro e w4 ⟨a2, n2, rfl, hS⟩; have h40 := hS.c0; have h41 := hS.c1; have hn4 := hS.n; have hf4 := hS.nf; simp only [DM.cells, DL.new] at hn4; have HS := hide hS; clear hS)
    | (go_at_call 25; refine (copy_first HH.out hids hfl (HDL.out _ (List.mem_cons_self ..)) (HC2.out.keep (by repeat' first | (with_reducible exact Fr.refl _ _) | (with_reducible assumption) | (with_reducible refine Fr.drewN ?_ _) | (with_reducible refine Fr.drew ?_) | (with_reducible refine Fr.alloc ?_ _) | (with_reducible refine Fr.set ?_ ?_ _) | (intro _; rfl)))).mono ?_; rintro e w3 ⟨a1, n1, rfl, hF⟩; have h30 := hF.c0; have h31 := hF.c1; have HF := hide hF; clear hF))
  have hL := HS.out.lists
  obtain ⟨W5, hW5⟩ : ∃ W5, ((w4.setCell ⟨w.heap.size, 0, none⟩ (.slice a1 M.dir.length n1)).setCell ⟨w.heap.size, 1, none⟩ (.slice a2 M.safe.length n2)) = W5 := ⟨_, rfl⟩
  rw [hW5] at hL ⊢
  obtain ⟨ps, vo, vm, fV, d1, s1, C⟩ := hL
  have hb5 := (HH.out.blk.fr C.T.fr id).cell
  simp only [DM.cells] at hb5
  have hb52 := hb5 2
  simp at hb52
  rw [HCV.out] at hb52
  have HC5 := hide C
  clear C hb5 hW5 HS HF HC2 hn4 hf4 hb20 hb21
  go_wp2_with fail
  go_loopw [67] (fun c w' => ∃ k : Nat, k ≤ M.chs.length ∧ c = .int .i64 k ∧ ∃ ps vo vm fV L1 d1 s1 c1, CopyAt w w' (w.heap.size + 1) (w.heap.size + 1 + 1) w.heap.size M M.dir M.safe k ps vo vm fV L1 d1 s1 c1) (fun c _ => M.chs.length - (intOf c).toNat)
  case atStart => exact ⟨0, Nat.zero_le _, rfl, _, _, _, _, _, _, _, _, HC5.out⟩
  case round =>
    obtain ⟨w1, rfl⟩ : ∃ x, x = wr := ⟨wr, rfl⟩
    obtain ⟨k, hk, rfl, ps, vo, vm, fV, L1, d1, s1, c1, C⟩ := hrel
    have HC := hide C
    clear C hb52
    by_cases hlk : k < M.chs.length
    · obtain ⟨cg, hcg⟩ : ∃ g, ca = some ⟨g, 0, none⟩ := by
        obtain ⟨g, c', h', _⟩ := own_some HH.out.ch (by omega)
        rw [HCV.out] at h'; simp at h'; exact ⟨g, h'.1⟩
      subst hcg
      have hkl : k < L.chVs.length := by rw [HH.out.chl]; exact hlk
      obtain ⟨ea, ec, hev⟩ := own_form (HH.out.chs k hkl hlk)
      have hck : w1.cell? ⟨cg, k, none⟩ = some (.slice ea M.chs[k].length ec) := by
        have := own_fr HH.out.ch HC.out.T.fr (fun _ _ => id)
        rw [HCV.out] at this
        rw [← hev]
        exact own_cell? this k _ (by simp [hkl])
      have hdk := HDL.out M.chs[k] (by simp)
      obtain ⟨na, nc, hnv⟩ := own_form HC.out.ch
      have HNV := hide hnv
      have HEV := hide hev
      have HNC : Hid (∀ W', Fr Nil w1 W' → W'.cell? ⟨w.heap.size, 2, none⟩ = some (.slice na k nc)) := fun W' hf => by
        have := (HC.out.blk.fr hf id).cell 2
        simp [DM.cells] at this
        rw [HNV.out] at this
        exact this
      clear hnv hev
      have hq0 := HC.out.blk.lt
      have hq1 : ¬ w1.heap.size = w.heap.size := by omega
      have hq2 : ¬ w.heap.size = w1.heap.size := by omega
      have HG : Hid (∀ j, L1.chV.ownBlock = some j → j < w1.heap.size) := fun j hj => own_lt HC.out.ch hj
      go_wp2_with fail
      have hnc1 := HNC.out _ (Fr.alloc (Fr.refl _ _) (.cells #[.slice ea M.chs[k].length ec] 47))
      have hce1 := (Blk.new w1 [.slice ea M.chs[k].length ec] 47).cell 0
      simp at hce1
      go_region_law
        (first
        | (refine step_app (by rfl) _ _ _ _ (by rfl) _ _ (by rfl) (by rfl) (run_app_slice 43 _ 47 1 24 Try.underlying43 info_change (by decide) _ _ _ (HX.out.row HNV.out (by repeat' first | (with_reducible exact Fr.refl _ _) | (with_reducible assumption) | (with_reducible refine Fr.drewN ?_ _) | (with_reducible refine Fr.drew ?_) | (with_reducible refine Fr.alloc ?_ _) | (with_reducible refine Fr.set ?_ ?_ _) | (intro _; rfl)))
            ⟨w5.heap.size, 0, none⟩ 1 1 [.slice a5 M.chs[k].length n5] rfl (cell_new1 _ _ _ _ (by simp)) (by intro u hu; simp at hu; subst hu; rfl) (by unfold maxLen; omega) (by omega)) ?_; intro v6 w6 ha; obtain ⟨a6, c6, hv6⟩ := own_form ha.own; subst hv6
           obtain ⟨hC6, hn6, hf6, he6⟩ := HX.out.push HNV.out (by repeat' first | (with_reducible exact Fr.refl _ _) | (with_reducible assumption) | (with_reducible refine Fr.drewN ?_ _) | (with_reducible refine Fr.drew ?_) | (with_reducible refine Fr.alloc ?_ _) | (with_reducible refine Fr.set ?_ ?_ _) | (intro _; rfl)) ha HBX.out HG.out
           have he60 := he6 0
           simp at he60
           simp only [DM.cells] at hn6
           have HC6 := hide hC6
           clear he6 ha hC6)
        | (go_simp; go_at_call 25; refine (copy_change HH.out hids hfl hlk hkl hdk HC.out HEV.out (by repeat' first | (with_reducible exact Fr.refl _ _) | (with_reducible assumption) | (with_reducible refine Fr.drewN ?_ _) | (with_reducible refine Fr.drew ?_) | (with_reducible refine Fr.alloc ?_ _) | (with_reducible refine Fr.set ?_ ?_ _) | (intro _; rfl))).mono ?_; rintro e w5 ⟨a5, n5, rfl, hX⟩
           have hb5 := hX.blk _ _ _ ((Blk.new w1 [.slice ea M.chs[k].length ec] 47).fr (S := Nil) (by repeat' first | (with_reducible exact Fr.refl _ _) | (with_reducible assumption) | (with_reducible refine Fr.drewN ?_ _) | (with_reducible refine Fr.drew ?_) | (with_reducible refine Fr.alloc ?_ _) | (with_reducible refine Fr.set ?_ ?_ _) | (intro _; rfl)) id) (by decide) (by decide)
           have h50 := hb5.cell 0
           simp at h50
           have hn5 := hX.cell HNV.out
           have hl5 : w.heap.size < w5.heap.size := hX.lt
           have HX := hide hX
           have HBX := hide hb5
           clear hX hb5))
      all_goals
        (clear hn6 hf6 he60 hn5 h50 hce1 hnc1
         go_wp2
         exact ⟨⟨k + 1, by omega, by go_num, HC6.out⟩, by simp [intOf]; omega⟩)
    · have hkn : k = M.chs.length := by omega
      subst hkn
      go_wp2
      go_ret
      exact HC.out.said HH.out.le

end Go.Proofs.Ytkhnggkkiefcdaa
