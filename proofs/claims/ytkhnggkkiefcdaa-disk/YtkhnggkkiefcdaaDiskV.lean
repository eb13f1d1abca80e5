/-
  The closed sentence on the disk: the function in which the power is cut.
-/
import Derived.Test.YtkhnggkkiefcdaaDiskU
namespace Go.Proofs.Ytkhnggkkiefcdaa
open Go.RowKit

theorem edge_crash (f : Nat) : (((DM.edge (fileAt f ⟨[120, 121, 122, 49, 50], 1⟩) f 8 2 true).crash 0 [3]).dir = [(nA, f)] ∧
    ((DM.edge (fileAt f ⟨[120, 121, 122, 49, 50], 1⟩) f 8 2 true).crash 0 [3]).file f = ⟨[120, 121, 122, 49], 4⟩) := by
  have h := crash_one (DM.edge (fileAt f ⟨[120, 121, 122, 49, 50], 1⟩) f 8 2 true) 0 [3] nA f nAA rfl
  refine ⟨h.1, h.2.trans ?_⟩
  have e : (DM.edge (fileAt f ⟨[120, 121, 122, 49, 50], 1⟩) f 8 2 true).file f = ⟨[120, 121, 122, 49, 50], 1⟩ := fileAt_self f _
  rw [e]
  rfl

theorem Own.more {w0 w w' : World} {b : Nat} {L : DL} {M : DM} (h : Own w0 w b L M) (f : Fr Nil w w') : Own w0 w' b L M :=
  ⟨h.rep.fr f (fun _ _ => id), h.fr.trans f, h.new⟩

/-- A crash with a list of one number, just made. -/
theorem crash_lit {w0 w : World} {b : Nat} {L : DL} {M : DM} (h : Own w0 w b L M) (dirs x : Int) (t : TypeId) (hd1 : -9223372036854775808 ≤ dirs) (hd2 : dirs ≤ 9223372036854775807) (hx1 : -9223372036854775808 ≤ x) (hx2 : x ≤ 9223372036854775807)
    (hfl : ∀ f, f ∈ M.ids → (M.file f).bytes.length ≤ 1000000000000) (hn : M.chs.length + 1 ≤ 1000000000000) (hm : ∀ d, d ∈ M.safe :: M.chs → d.length ≤ 1000000000000) :
    Calls Try.prog 6 #[.pointer (some ⟨b, 0, none⟩), .int .i64 dirs, .slice (some ⟨w.heap.size, 0, none⟩) 1 1] (w.alloc (.cells #[.int .i64 x] t)) fun e w' =>
      e = .returned (.tuple #[]) ∧ ∃ L', Own w0 w' b L' (M.crash dirs [x]) := by
  have h' := h.more ((Fr.refl Nil w).alloc (.cells #[.int .i64 x] t))
  refine (crash_calls dirs [x] _ _ b L M h'.rep hd1 hd2 (ints_new w x t) ?_ ?_ hfl hn hm).mono ?_
  · intro k hk hf
    simp [Value.ownBlock] at hk
    have := Foot.lt h.rep hf
    omega
  · intro y hy
    simp at hy
    subst hy
    exact ⟨hx1, hx2⟩
  · rintro e w' ⟨h1, L', h2⟩
    exact ⟨h1, L', h'.step h2⟩

set_option maxHeartbeats 1600000 in
theorem cutting_calls (w : World) : Calls Try.prog 13 #[] w fun e w' => e = .returned (.bool true) ∧ Fr Nil w w' := by
  go_enter Try.func13, Try.ntmps13
  go_wp2_with fail
  refine (begin_calls true _).mono ?_
  rintro e w1 ⟨b, f, L1, rfl, h1⟩
  have H1 := hide h1
  clear h1
  go_wp2_with fail
  refine (cut_calls 2 _ b _ _ H1.out.rep).mono ?_
  rintro e w2 ⟨rfl, hd, hf⟩
  rw [edge_start] at hd
  have H2 : Hid (Own w w2 b L1 (DM.edge (fileAt f ⟨[120, 121], 1⟩) f 5 0 false)) := ⟨hd, Fr.trans' H1.out.fr hf (fun k hlt hk => by subst hk; have := H1.out.new _ .blk; omega), fun k hk => H1.out.new k (by
    cases hk using Foot.elim with
    | blk => exact .blk
    | dir e => exact .dir e
    | safe e => exact .safe e
    | ch e => exact .ch e
    | chs i h1 e => exact .chs i h1 e
    | file e => exact .file e
    | row f hf e => exact .row f hf e)⟩
  clear hd hf
  go_wp2_with fail
  refine (append_calls nA ⟨#[122]⟩ _ b _ _ H2.out.rep (by simp [DM.edge]) (by decide) (by intro g _; simp only [DM.edge, fileAt]; split <;> simp)).mono ?_
  rintro e w3 ⟨rfl, L3, hst⟩
  rw [edge_add1] at hst ⊢
  have H3 := hide (H2.out.step hst)
  clear hst
  go_wp2_with fail
  refine (append_calls nA ⟨#[49, 50]⟩ _ b _ _ H3.out.rep (by simp [DM.edge]) (by decide) (by intro g _; simp only [DM.edge, fileAt]; split <;> simp)).mono ?_
  rintro e w4 ⟨rfl, L4, hst⟩
  rw [edge_add2] at hst ⊢
  have H4 := hide (H3.out.step hst)
  clear hst
  go_wp2_with fail
  refine (sync_calls nA _ b _ _ H4.out.rep).mono ?_
  rintro e w5 ⟨rfl, L5, hst⟩
  rw [edge_sync] at hst ⊢
  have H5 := hide (H4.out.step hst)
  clear hst
  go_wp2_with fail
  refine (dead_calls _ b _ _ H5.out.rep).mono ?_
  rintro e wx ⟨rfl, hwx⟩
  subst wx
  have hde : (DM.edge (fileAt f ⟨[120, 121, 122, 49, 50], 1⟩) f 8 2 true).dead = true := rfl
  rw [hde]
  go_wp2_with fail
  have hec := edge_crash f
  generalize hM6 : (DM.edge (fileAt f ⟨[120, 121, 122, 49, 50], 1⟩) f 8 2 true).crash 0 [3] = M6 at hec
  have h6d : M6.dead = false := by rw [← hM6]; rfl
  have h6r : M6.refused = 2 := by rw [← hM6]; rfl
  refine (crash_lit H5.out 0 3 _ (by omega) (by omega) (by omega) (by omega) (by intro g _; simp only [DM.edge, fileAt]; split <;> simp) (by simp [DM.edge]) (by simp [DM.edge])).mono ?_
  rintro e w6 ⟨rfl, L6, hst⟩
  rw [hM6] at hst
  have H6 := hide hst
  have HEC := hide hec
  have HD6 := hide h6d
  have HR6 := hide h6r
  clear hst hec hM6 h6d h6r hde
  go_wp2_with fail
  have HDC := hide (dead_calls _ b _ _ H6.out.rep)
  rw [HD6.out] at HDC
  refine HDC.out.mono ?_
  rintro e wx ⟨rfl, hwx⟩
  subst wx
  go_wp2_with fail
  have h46 : M6.file f = ⟨(⟨#[120, 121, 122, 49]⟩ : ByteArray).data.toList, (M6.file f).safe⟩ := by rw [HEC.out.2]
  refine (has_yes nA ⟨#[120, 121, 122, 49]⟩ _ b f _ _ H6.out.rep HEC.out.1 nAA h46 (by decide)).mono ?_
  rintro e w7 ⟨rfl, hf7⟩
  have H7 := hide (H6.out.more hf7)
  clear hf7 h46
  go_wp2_with fail
  have HRC := hide (refused_calls _ b _ _ H7.out.rep)
  rw [HR6.out] at HRC
  refine HRC.out.mono ?_
  rintro e wx ⟨rfl, hwx⟩
  subst wx
  go_wp2
  go_ret
  exact ⟨rfl, H7.out.fr⟩

end Go.Proofs.Ytkhnggkkiefcdaa
