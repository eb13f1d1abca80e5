/-
  The closed sentence on the disk, walked.
-/
import Derived.Test.YtkhnggkkiefcdaaCopyB
import Derived.Test.YtkhnggkkiefcdaaPairA
namespace Go.Proofs.Ytkhnggkkiefcdaa
open Go.RowKit

theorem start_len (s : Bool) (f : Nat) : ∀ g, g ∈ (DM.start s f).ids → ((DM.start s f).file g).bytes.length ≤ 1000000000000 := by
  intro g _
  show (fileAt f ⟨[120, 121], 1⟩ g).bytes.length ≤ _
  simp only [fileAt]
  split <;> simp

theorem calm_len (f : Nat) (x : FM) (hx : x.bytes.length ≤ 1000) (dir safe : Dir) (chs : List Dir) (ids : List Nat) (c : Nat) : ∀ g, g ∈ (DM.calm dir safe chs (fileAt f x) ids c).ids → ((DM.calm dir safe chs (fileAt f x) ids c).file g).bytes.length ≤ 1000000000000 := by
  intro g _
  show (fileAt f x g).bytes.length ≤ _
  simp only [fileAt]
  split
  · omega
  · simp

theorem start_true (f : Nat) : DM.start true f = DM.calm [(nA, f)] [(nA, f)] [] (fileAt f ⟨[120, 121], 1⟩) [f] 5 := rfl

theorem turned_back (f g : Nat) (h : f ≠ g) :
    ((DM.calm ([(nB, f)] ++ [(nC, g)]) [(nA, f)] ([[(nB, f)]] ++ [[(nB, f)] ++ [(nC, g)]]) (fun x => if x = g then ⟨[], 0⟩ else fileAt f ⟨[120, 121], 1⟩ x) (g :: [f]) 7).crash 1 []).dir = [(nB, f)] ∧
    ((DM.calm ([(nB, f)] ++ [(nC, g)]) [(nA, f)] ([[(nB, f)]] ++ [[(nB, f)] ++ [(nC, g)]]) (fun x => if x = g then ⟨[], 0⟩ else fileAt f ⟨[120, 121], 1⟩ x) (g :: [f]) 7).crash 1 []).file f = ⟨[120], 1⟩ := by
  have h1 := calm_crash nB nBB f ⟨[120, 121], 1⟩ ([(nB, f)] ++ [(nC, g)]) [(nA, f)] ([[(nB, f)]] ++ [[(nB, f)] ++ [(nC, g)]]) (fun x => if x = g then ⟨[], 0⟩ else fileAt f ⟨[120, 121], 1⟩ x) (g :: [f]) 7 1 [] (by simp only [if_neg h]; exact fileAt_self f _) rfl
  exact h1

theorem brought_back (f : Nat) : ((DM.calm [] [(nA, f)] ([] ++ [[]]) (fileAt f ⟨[120, 121], 1⟩) [f] 6).crash 0 [1]).dir = [(nA, f)] ∧ ((DM.calm [] [(nA, f)] ([] ++ [[]]) (fileAt f ⟨[120, 121], 1⟩) [f] 6).crash 0 [1]).file f = ⟨[120, 121], 2⟩ := by
  have h := calm_crash nA nAA f ⟨[120, 121], 1⟩ [] [(nA, f)] ([] ++ [[]]) (fileAt f ⟨[120, 121], 1⟩) [f] 6 0 [1] (fileAt_self f _) rfl
  exact h

set_option maxRecDepth 100000 in
set_option maxHeartbeats 3200000 in
theorem disk_calls (w : World) : Calls Try.prog 3 #[] w fun e w' => e = .returned (.bool true) ∧ Fr Nil w w' := by
  go_enter Try.func3, Try.ntmps3
  -- whole, first
  go_wp2_with fail
  refine (begin_calls true _).mono ?_
  rintro e w1 ⟨b, f, L, rfl, h1⟩
  have H1 := hide h1
  clear h1
  go_wp2_with fail
  refine (has_yes nA ⟨#[120, 121]⟩ _ b f _ _ H1.out.rep rfl nAA (by rw [show (DM.start true f).file f = ⟨[120, 121], 1⟩ from fileAt_self f _]) (by decide)).mono ?_
  rintro e w2 ⟨rfl, hf⟩
  have H2 := hide (H1.out.more hf)
  clear hf
  go_wp2_with fail
  have hm := start_crash f 0
  rw [cf0] at hm
  generalize hM : (DM.start true f).crash 0 [0] = M at hm
  refine (crash_lit H2.out 0 0 _ (by omega) (by omega) (by omega) (by omega) (start_len true f) (by simp [DM.start, DM.calm]) (by simp [DM.start, DM.calm])).mono ?_
  rintro e w3 ⟨rfl, L3, h3⟩
  rw [hM] at h3
  have H3 := hide h3
  have HM := hide hm
  clear h3 hm hM
  go_wp2_with fail
  refine (has_yes nA ⟨#[120]⟩ _ b f _ _ H3.out.rep HM.out.1 nAA (by rw [HM.out.2]) (by decide)).mono ?_
  rintro e w4 ⟨rfl, hf⟩
  have HF4 := hide (H3.out.more hf).fr
  clear hf HM H1 H2 H3
  -- second
  go_wp2_with fail
  refine (begin_calls true _).mono ?_
  rintro e w1' ⟨b, f, L, rfl, h1⟩
  have H1 := hide h1
  clear h1
  go_wp2_with fail
  have hm := start_crash f 1
  rw [cf1] at hm
  generalize hM : (DM.start true f).crash 0 [1] = M at hm
  refine (crash_lit H1.out 0 1 _ (by omega) (by omega) (by omega) (by omega) (start_len true f) (by simp [DM.start, DM.calm]) (by simp [DM.start, DM.calm])).mono ?_
  rintro e w3' ⟨rfl, L3, h3⟩
  rw [hM] at h3
  have H3 := hide h3
  have HM := hide hm
  clear h3 hm hM
  go_wp2_with fail
  refine (has_yes nA ⟨#[120, 121]⟩ _ b f _ _ H3.out.rep HM.out.1 nAA (by rw [HM.out.2]) (by decide)).mono ?_
  rintro e w5 ⟨rfl, hf⟩
  have HF5 := hide (HF4.out.trans (H3.out.more hf).fr)
  clear hf HM H1 H3 HF4
  -- gone
  go_wp2_with fail
  refine (begin_calls false _).mono ?_
  rintro e w6 ⟨b, f, L, rfl, h1⟩
  have H1 := hide h1
  clear h1
  go_wp2_with fail
  have hm := start_gone f
  generalize hM : (DM.start false f).crash 0 [] = M at hm
  refine (crash_nil H1.out 0 (by omega) (by omega) (start_len false f) (by simp [DM.start, DM.calm]) (by simp [DM.start, DM.calm])).mono ?_
  rintro e w7 ⟨rfl, L3, h3⟩
  rw [hM] at h3
  have H3 := hide h3
  have HM := hide hm
  clear h3 hm hM
  go_wp2_with fail
  refine (list_calls _ b _ _ H3.out.rep (by rw [HM.out]; simp)).mono ?_
  rintro e w8 ⟨v, rfl, hv, hf, _⟩
  rw [HM.out] at hv
  obtain ⟨va, vc, hvv⟩ := own_form hv
  subst hvv
  have HF8 := hide (HF5.out.trans (H3.out.more hf).fr)
  clear hf HM H1 H3 HF5 hv
  -- renamed
  go_wp2_with fail
  refine (begin_calls true _).mono ?_
  rintro e w9 ⟨b, f, L, rfl, h1⟩
  rw [start_true] at h1
  have H1 := hide h1
  clear h1
  go_wp2_with fail
  refine (rename_calls nA nB _ b _ _ H1.out.rep (by simp [DM.calm]) (by simp [DM.calm])).mono ?_
  rintro e w10 ⟨rfl, L2, hst⟩
  rw [calm_rename nA nB nAA nB_ne f _ _ _ _ 5 (by omega)] at hst ⊢
  have H2 := hide (H1.out.step hst)
  clear hst
  go_wp2_with fail
  have hfs := (H2.out.rep.files f (by simp [DM.calm])).lt
  refine (create_calls nC _ b _ _ H2.out.rep (by simp [DM.calm]) (by simp [DM.calm])).mono ?_
  rintro e w11 ⟨g, L3, rfl, hg, hst⟩
  have hfg : f ≠ g := by omega
  rw [calm_create nC nC_ne g _ _ _ _ _ 6 (by omega) (by simp [Dir.look, nBC])] at hst ⊢
  have H3 := hide (H2.out.step hst)
  clear hst hfs hg
  go_wp2_with fail
  have hm := turned_back f g hfg
  have hln : ∀ x, x ∈ (DM.calm ([(nB, f)] ++ [(nC, g)]) [(nA, f)] ([[(nB, f)]] ++ [[(nB, f)] ++ [(nC, g)]]) (fun x => if x = g then ⟨[], 0⟩ else fileAt f ⟨[120, 121], 1⟩ x) (g :: [f]) 7).ids →
      ((DM.calm ([(nB, f)] ++ [(nC, g)]) [(nA, f)] ([[(nB, f)]] ++ [[(nB, f)] ++ [(nC, g)]]) (fun x => if x = g then ⟨[], 0⟩ else fileAt f ⟨[120, 121], 1⟩ x) (g :: [f]) 7).file x).bytes.length ≤ 1000000000000 := by
    intro x _
    show (if x = g then (⟨[], 0⟩ : FM) else fileAt f ⟨[120, 121], 1⟩ x).bytes.length ≤ _
    simp only [fileAt]
    split
    · simp
    · split <;> simp
  have HC := hide (crash_nil H3.out 1 (by omega) (by omega) hln (by simp [DM.calm]) (by simp [DM.calm]))
  generalize hM : (DM.calm ([(nB, f)] ++ [(nC, g)]) [(nA, f)] ([[(nB, f)]] ++ [[(nB, f)] ++ [(nC, g)]]) (fun x => if x = g then ⟨[], 0⟩ else fileAt f ⟨[120, 121], 1⟩ x) (g :: [f]) 7).crash 1 [] = M5 at hm
  refine HC.out.mono ?_
  rintro e w12 ⟨rfl, L4, h3⟩
  have h3' : Own w8 w12 b L4 M5 := by rw [← hM]; exact h3
  have H4 := hide h3'
  have HM := hide hm
  clear h3 h3' hm hM hln HC
  go_wp2_with fail
  refine (has_yes nB ⟨#[120]⟩ _ b f _ _ H4.out.rep HM.out.1 nBB (by rw [HM.out.2]) (by decide)).mono ?_
  rintro e w13 ⟨rfl, hf⟩
  have HF13 := hide (HF8.out.trans (H4.out.more hf).fr)
  clear hf HM H1 H2 H3 H4 HF8
  -- back
  go_wp2_with fail
  refine (begin_calls true _).mono ?_
  rintro e w14 ⟨b, f, L, rfl, h1⟩
  rw [start_true] at h1
  have H1 := hide h1
  clear h1
  go_wp2_with fail
  refine (remove_calls nA _ b _ _ H1.out.rep (by simp [DM.calm]) (by simp [DM.calm])).mono ?_
  rintro e w15 ⟨rfl, L2, hst⟩
  rw [calm_remove nA nAA f _ _ _ _ 5 (by omega)] at hst ⊢
  have H2 := hide (H1.out.step hst)
  clear hst
  go_wp2_with fail
  have hm := brought_back f
  generalize hM : (DM.calm [] [(nA, f)] ([] ++ [[]]) (fileAt f ⟨[120, 121], 1⟩) [f] 6).crash 0 [1] = M6 at hm
  refine (crash_lit H2.out 0 1 _ (by omega) (by omega) (by omega) (by omega) (calm_len f _ (by simp) _ _ _ _ _) (by simp [DM.calm]) (by simp [DM.calm])).mono ?_
  rintro e w16 ⟨rfl, L3, h3⟩
  have h3' : Own w13 w16 b L3 M6 := by rw [← hM]; exact h3
  have H3 := hide h3'
  have HM := hide hm
  clear h3 h3' hm hM
  go_wp2_with fail
  refine (has_yes nA ⟨#[120, 121]⟩ _ b f _ _ H3.out.rep HM.out.1 nAA (by rw [HM.out.2]) (by decide)).mono ?_
  rintro e w17 ⟨rfl, hf⟩
  have HF17 := hide (HF13.out.trans (H3.out.more hf).fr)
  clear hf HM H1 H2 H3 HF13
  -- apart
  go_wp2_with fail
  refine (begin_calls true _).mono ?_
  rintro e w18 ⟨b, f, L, rfl, h1⟩
  rw [start_true] at h1
  have H1 := hide h1
  clear h1
  go_wp2_with fail
  refine (rename_calls nA nB _ b _ _ H1.out.rep (by simp [DM.calm]) (by simp [DM.calm])).mono ?_
  rintro e w19 ⟨rfl, L2, hst⟩
  rw [calm_rename nA nB nAA nB_ne f _ _ _ _ 5 (by omega)] at hst ⊢
  have H2 := hide (H1.out.step hst)
  clear hst
  go_wp2_with fail
  generalize hMA : DM.calm [(nB, f)] [(nA, f)] ([] ++ [[(nB, f)]]) (fileAt f ⟨[120, 121], 1⟩) [f] (5 + 1) = MA at H2
  have hcl : ∀ g, g ∈ MA.ids → (MA.file g).bytes.length ≤ 1000000000000 := by
    rw [← hMA]; exact calm_len f _ (by simp) _ _ _ _ _
  have hci : MA.ids.length ≤ 100000000000 := by rw [← hMA]; simp [DM.calm]
  have hcd : ∀ d, d ∈ MA.dir :: MA.safe :: MA.chs → d.length ≤ 100000000000 := by rw [← hMA]; simp [DM.calm]
  have hcn : MA.chs.length ≤ 100000000000 := by rw [← hMA]; simp [DM.calm]
  refine (copy_calls _ b _ _ H2.out.rep hci hcd hcn hcl).mono ?_
  intro e w20 hcs
  rw [← hMA] at hcs H2
  clear hMA hcl hci hcd hcn
  obtain ⟨b', g, L', file', ids', rfl, ho, hfg, hfi⟩ := calm_copied f _ hcs
  have H3 := hide (Two.copied H2.out ho)
  have HFG := hide hfg
  have HFI := hide hfi
  clear hcs ho hfg hfi H1 H2
  go_wp2_with fail
  refine (append_calls nB ⟨#[122]⟩ _ b _ _ H3.out.one.rep (by simp [DM.calm]) (by decide) (calm_len f _ (by simp) _ _ _ _ _)).mono ?_
  rintro e w21 ⟨rfl, L3, hst⟩
  rw [calm_add nB nBB f _ _ ⟨[120, 121], 1⟩ _ 6 (by omega) ⟨#[122]⟩ (by decide)] at hst ⊢
  have H4 := hide (H3.out.step hst).swap
  clear hst H3
  go_wp2_with fail
  have hm := apart_crash g file' ids' HFG.out
  generalize hM : (DM.calm [(nB, g)] [(nA, g)] [[(nB, g)]] file' ids' 6).crash 0 [1] = M7 at hm
  refine (H4.out.crash_lit 0 1 _ (by omega) (by omega) (by omega) (by omega) (by intro i hi; have := HFI.out i hi; show (file' i).bytes.length ≤ _; rw [this]; simp) (by simp [DM.calm]) (by simp [DM.calm])).mono ?_
  rintro e w22 ⟨rfl, L4, h3⟩
  rw [hM] at h3
  have H5 := hide h3
  have HM := hide hm
  clear h3 hm hM H4
  go_wp2_with fail
  refine (has_yes nA ⟨#[120, 121]⟩ _ b' g _ _ H5.out.one.rep HM.out.1 nAA (by rw [HM.out.2]) (by decide)).mono ?_
  rintro e w23 ⟨rfl, hf⟩
  have H6 := hide (H5.out.more hf)
  clear hf H5 HM
  go_wp2_with fail
  have hbb : ∀ (dir safe : Dir) (chs : List Dir) (ids : List Nat) (c : Nat), (DM.calm dir safe chs (fileAt f ⟨[120, 121] ++ (⟨#[122]⟩ : ByteArray).data.toList, 1⟩) ids c).file f = ⟨[120, 121, 122], 1⟩ := fun _ _ _ _ _ => fileAt_self f _
  refine (has_yes nB ⟨#[120, 121, 122]⟩ _ b f _ _ H6.out.two.rep rfl nBB (by rw [hbb]) (by decide)).mono ?_
  rintro e w24 ⟨rfl, hf⟩
  have HF24 := hide (HF17.out.trans (H6.out.more hf).one.fr)
  clear hf hbb H6 HF17
  go_wp2_with fail
  refine (cutting_calls _).mono ?_
  rintro e w25 ⟨rfl, hf⟩
  have HF25 := hide (HF24.out.trans hf)
  clear hf HF24
  go_wp2_with fail
  refine (failing_calls _).mono ?_
  rintro e w26 ⟨rfl, hf⟩
  go_wp2
  go_ret
  exact ⟨rfl, HF25.out.trans hf⟩

end Go.Proofs.Ytkhnggkkiefcdaa
