/-
  The closed sentence on the disk: the function that begins each of its disks.
-/
import Derived.Test.YtkhnggkkiefcdaaDiskQ
namespace Go.Proofs.Ytkhnggkkiefcdaa
open Go.RowKit

/-- A disk that came behind w0. -/
structure Own (w0 w : World) (b : Nat) (L : DL) (M : DM) : Prop where
  rep : DRep w b L M
  fr : Fr Nil w0 w
  new : ∀ k, Foot b L M k → w0.heap.size ≤ k

theorem Own.step {w0 w w' : World} {b : Nat} {L L' : DL} {M M' : DM} (h : Own w0 w b L M) (s : DStep b L M w L' M' w') : Own w0 w' b L' M' where
  rep := s.rep
  fr := Fr.trans' h.fr s.fr (fun k hlt hk => absurd (h.new k hk) (by omega))
  new := fun k hk => by
    rcases s.foot k hk with e | e
    · exact h.new k e
    · have := h.fr.size; omega

theorem Own.made {w w1 : World} {room : Int} (hd : DRep w1 w.heap.size DL.new (DM.new room)) (hf : Fr Nil w w1) : Own w w1 w.heap.size DL.new (DM.new room) where
  rep := hd
  fr := hf
  new := fun k hk => by
    cases hk using Foot.elim with
    | blk => exact Nat.le_refl _
    | dir e => simp [DL.new, Value.ownBlock] at e
    | safe e => simp [DL.new, Value.ownBlock] at e
    | ch e => simp [DL.new, Value.ownBlock] at e
    | chs i h1 e => exact absurd h1 (Nat.not_lt_zero _)
    | file e => cases e
    | row f hf e => cases hf

set_option maxHeartbeats 1600000 in
theorem begin_calls (s : Bool) (w : World) :
    Calls Try.prog 4 #[.bool s] w fun e w' =>
      ∃ b f L, e = .returned (.pointer (some ⟨b, 0, none⟩)) ∧ Own w w' b L (DM.start s f) := by
  go_enter Try.func4, Try.ntmps4
  go_wp2_with fail
  refine (new_calls 10 _).mono ?_
  rintro e w1 ⟨rfl, hd, hf, _⟩
  have h1 := Own.made hd hf
  clear hd hf
  rw [calm_new] at h1
  obtain ⟨b, hb⟩ : ∃ b, w.heap.size = b := ⟨_, rfl⟩
  rw [hb] at h1 ⊢
  have H1 := hide h1
  clear h1 hb
  go_wp2_with fail
  refine (create_calls nA _ b _ _ H1.out.rep (by simp [DM.calm]) (by simp [DM.calm])).mono ?_
  rintro e w2 ⟨f, L2, rfl, _, hst⟩
  rw [start_create] at hst ⊢
  have H2 := hide (H1.out.step hst)
  clear hst
  cases s with
  | true =>
    go_wp2_with fail
    refine (syncDir_calls _ b _ _ H2.out.rep).mono ?_
    rintro e w3 ⟨rfl, L3, hst⟩
    rw [calm_syncDir _ _ _ _ _ 1 (by omega)] at hst ⊢
    have H3 := hide (H2.out.step hst)
    clear hst
    go_wp2_with fail
    refine (append_calls nA ⟨#[120]⟩ _ b _ _ H3.out.rep (by simp [DM.calm]) (by decide) (by intro g _; simp only [DM.calm, fileAt]; split <;> simp)).mono ?_
    rintro e w4 ⟨rfl, L4, hst⟩
    rw [calm_add nA nAA f _ _ _ _ 2 (by omega) _ (by decide)] at hst ⊢
    have H4 := hide (H3.out.step hst)
    clear hst
    go_wp2_with fail
    refine (sync_calls nA _ b _ _ H4.out.rep).mono ?_
    rintro e w5 ⟨rfl, L5, hst⟩
    rw [calm_sync nA nAA f _ _ _ _ 3 (by omega)] at hst ⊢
    have H5 := hide (H4.out.step hst)
    clear hst
    go_wp2_with fail
    refine (append_calls nA ⟨#[121]⟩ _ b _ _ H5.out.rep (by simp [DM.calm]) (by decide) (by intro g _; simp only [DM.calm, fileAt]; split <;> simp)).mono ?_
    rintro e w6 ⟨rfl, L6, hst⟩
    rw [calm_add nA nAA f _ _ _ _ 4 (by omega) _ (by decide)] at hst ⊢
    have H6 := hide (H5.out.step hst)
    clear hst
    go_wp2
    go_ret
    exact ⟨b, f, L6, rfl, H6.out⟩
  | false =>
    go_wp2_with fail
    refine (append_calls nA ⟨#[120]⟩ _ b _ _ H2.out.rep (by simp [DM.calm]) (by decide) (by intro g _; simp only [DM.calm, fileAt]; split <;> simp)).mono ?_
    rintro e w4 ⟨rfl, L4, hst⟩
    rw [calm_add nA nAA f _ _ _ _ 1 (by omega) _ (by decide)] at hst ⊢
    have H4 := hide (H2.out.step hst)
    clear hst
    go_wp2_with fail
    refine (sync_calls nA _ b _ _ H4.out.rep).mono ?_
    rintro e w5 ⟨rfl, L5, hst⟩
    rw [calm_sync nA nAA f _ _ _ _ 2 (by omega)] at hst ⊢
    have H5 := hide (H4.out.step hst)
    clear hst
    go_wp2_with fail
    refine (append_calls nA ⟨#[121]⟩ _ b _ _ H5.out.rep (by simp [DM.calm]) (by decide) (by intro g _; simp only [DM.calm, fileAt]; split <;> simp)).mono ?_
    rintro e w6 ⟨rfl, L6, hst⟩
    rw [calm_add nA nAA f _ _ _ _ 3 (by omega) _ (by decide)] at hst ⊢
    have H6 := hide (H5.out.step hst)
    clear hst
    go_wp2
    go_ret
    exact ⟨b, f, L6, rfl, H6.out⟩

end Go.Proofs.Ytkhnggkkiefcdaa
