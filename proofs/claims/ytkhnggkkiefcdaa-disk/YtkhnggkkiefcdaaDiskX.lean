/-
  The closed sentence on the disk: a call that fails, and a full disk, walked.
-/
import Derived.Test.YtkhnggkkiefcdaaDiskW
namespace Go.Proofs.Ytkhnggkkiefcdaa
open Go.RowKit

set_option maxHeartbeats 1600000 in
theorem failing_calls (w : World) : Calls Try.prog 14 #[] w fun e w' => e = .returned (.bool true) ∧ Fr Nil w w' := by
  go_enter Try.func14, Try.ntmps14
  go_wp2_with fail
  refine (begin_calls true _).mono ?_
  rintro e w1 ⟨b, f, L1, rfl, h1⟩
  have H1 := hide h1
  clear h1
  go_wp2_with fail
  refine (fail_calls 1 5 _ b _ _ H1.out.rep).mono ?_
  rintro e w2 ⟨rfl, hd, hf⟩
  rw [brim_start] at hd
  have H2 : Hid (Own w w2 b L1 (DM.brim (fileAt f ⟨[120, 121], 1⟩) f 5 0 0)) := ⟨hd, Fr.trans' H1.out.fr hf (fun k hlt hk => by subst hk; have := H1.out.new _ .blk; omega), fun k hk => H1.out.new k (by
    cases hk using Foot.elim with
    | blk => exact .blk
    | dir e => exact .dir e
    | safe e => exact .safe e
    | ch e => exact .ch e
    | chs i h1 e => exact .chs i h1 e
    | file e => exact .file e
    | row f hf e => exact .row f hf e)⟩
  clear hd hf
  go_wp2_with fail
  refine (append_calls nA ⟨#[49, 50, 51, 52]⟩ _ b _ _ H2.out.rep (by simp [DM.brim]) (by decide) (by intro g _; simp only [DM.brim, fileAt]; split <;> simp)).mono ?_
  rintro e w3 ⟨rfl, L3, hst⟩
  rw [brim_add1] at hst ⊢
  have H3 := hide (H2.out.step hst)
  clear hst
  go_wp2_with fail
  have e3 : (DM.brim (fileAt f ⟨[120, 121, 49], 1⟩) f 6 1 0).file f = ⟨[120, 121, 49], 1⟩ := fileAt_self f _
  refine (has_yes nA ⟨#[120, 121, 49]⟩ _ b f _ _ H3.out.rep rfl nAA (by rw [e3]) (by decide)).mono ?_
  rintro e w4 ⟨rfl, hf4⟩
  have H4 := hide (H3.out.more hf4)
  clear hf4 e3
  go_wp2_with fail
  refine (append_calls nA ⟨#[49, 50, 51, 52, 53, 54, 55, 56, 57, 48]⟩ _ b _ _ H4.out.rep (by simp [DM.brim]) (by decide) (by intro g _; simp only [DM.brim, fileAt]; split <;> simp)).mono ?_
  rintro e w5 ⟨rfl, L5, hst⟩
  rw [brim_add2] at hst ⊢
  have H5 := hide (H4.out.step hst)
  clear hst
  go_wp2_with fail
  have e5 : (DM.brim (fileAt f ⟨[120, 121, 49, 49, 50, 51, 52, 53, 54, 55], 1⟩) f 7 2 1).file f = ⟨[120, 121, 49, 49, 50, 51, 52, 53, 54, 55], 1⟩ := fileAt_self f _
  refine (has_yes nA ⟨#[120, 121, 49, 49, 50, 51, 52, 53, 54, 55]⟩ _ b f _ _ H5.out.rep rfl nAA (by rw [e5]) (by decide)).mono ?_
  rintro e w6 ⟨rfl, hf6⟩
  have H6 := hide (H5.out.more hf6)
  clear hf6 e5
  go_wp2_with fail
  refine (create_calls nA _ b _ _ H6.out.rep (by simp [DM.brim]) (by simp [DM.brim])).mono ?_
  rintro e w7 ⟨g, L7, rfl, _, hst⟩
  rw [brim_create] at hst ⊢
  have H7 := hide (H6.out.step hst)
  clear hst
  go_wp2_with fail
  refine (sync_calls nB _ b _ _ H7.out.rep).mono ?_
  rintro e w8 ⟨rfl, L8, hst⟩
  rw [brim_sync] at hst ⊢
  have H8 := hide (H7.out.step hst)
  clear hst
  go_wp2_with fail
  have HRD := hide (read_calls nA 9 2 _ b _ _ H8.out.rep)
  rw [brim_read f _ (by simp)] at HRD
  refine HRD.out.mono ?_
  rintro e w9 ⟨rfl, hf9⟩
  have H9 := hide (H8.out.more hf9)
  clear hf9
  go_wp2_with fail
  have HRC := hide (refused_calls _ b _ _ H9.out.rep)
  refine HRC.out.mono ?_
  rintro e wx ⟨rfl, hwx⟩
  subst wx
  have q1 : (DM.brim (fileAt f ⟨[120, 121, 49, 49, 50, 51, 52, 53, 54, 55], 1⟩) f 7 2 1).refused = 2 := rfl
  rw [q1]
  clear q1
  go_wp2_with fail
  have HFC := hide (fulls_calls _ b _ _ H9.out.rep)
  refine HFC.out.mono ?_
  rintro e wx ⟨rfl, hwx⟩
  subst wx
  have q2 : (DM.brim (fileAt f ⟨[120, 121, 49, 49, 50, 51, 52, 53, 54, 55], 1⟩) f 7 2 1).fulls = 1 := rfl
  rw [q2]
  clear q2
  go_wp2_with fail
  have HDC := hide (dead_calls _ b _ _ H9.out.rep)
  refine HDC.out.mono ?_
  rintro e wx ⟨rfl, hwx⟩
  subst wx
  have q3 : (DM.brim (fileAt f ⟨[120, 121, 49, 49, 50, 51, 52, 53, 54, 55], 1⟩) f 7 2 1).dead = false := rfl
  rw [q3]
  clear q3
  go_wp2
  go_ret
  exact ⟨rfl, H9.out.fr⟩

end Go.Proofs.Ytkhnggkkiefcdaa
