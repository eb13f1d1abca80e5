/-
  Package disk: Create and Append, whole.
-/
import Derived.Test.YtkhnggkkiefcdaaDiskF
namespace Go.Proofs.Ytkhnggkkiefcdaa
open Go.RowKit

theorem DM.begins_not (M : DM) (h : M.begins.1 = false) : M.begins.2.1 = 9 := by
  unfold DM.begins at h ⊢; dsimp only at h ⊢; (repeat' split at h) <;> simp_all

theorem create_calls (name : ByteArray) (w : World) (b : Nat) (L : DL) (M : DM) (h : DRep w b L M) (hn : M.chs.length + 1 ≤ 1000000000000) (hm : M.dir.length + 1 ≤ 1000000000000) :
    Calls Try.prog 9 #[.pointer (some ⟨b, 0, none⟩), .string name] w fun e w' =>
      ∃ f L', e = .returned (.int .i64 (M.create name f).1) ∧ w.heap.size ≤ f ∧ DStep b L M w L' (M.create name f).2 w' := by
  by_cases h0 : name = ByteArray.empty ∨ (M.dir.look name).isSome = true
  · refine (create_name name w b L M h h0).mono fun e w' ⟨h1, h2⟩ => ⟨w.heap.size, L, ?_, Nat.le_refl _, ?_⟩
    · rw [h1]; simp only [DM.create]; rw [if_pos h0]
    · simp only [DM.create]; rw [if_pos h0]; exact DStep.look h h2
  · have he : ¬ name = ByteArray.empty := fun e => h0 (.inl e)
    rcases look_cases M.dir name with ⟨h1, h2⟩ | ⟨k, hk, h1, h2, _⟩
    · cases hd : M.begins.1 with
      | false =>
        refine (create_not name w b L M h he h1 hd).mono fun e w' ⟨h3, h4⟩ => ⟨w.heap.size, L, ?_, Nat.le_refl _, ?_⟩
        · rw [h3]; simp only [DM.create]; rw [if_neg h0]
        · simp only [DM.create]; rw [if_neg h0, hd]; exact h4
      | true =>
        refine (create_does name w b L M h he h1 hd hn hm).mono fun e w' ⟨h3, f, L', h4, _, h5⟩ => ⟨f, L', ?_, h4, ?_⟩
        · rw [h3]; simp only [DM.create]; rw [if_neg h0]
        · simp only [DM.create]; rw [if_neg h0, hd]; exact h5
    · exact absurd (.inr (by rw [h2]; rfl)) h0

/-- Bytes are added to a file: the answer, the disk. -/
def DM.add (M : DM) (name : ByteArray) (data : ByteArray) : Int × DM :=
  match M.dir.look name with
  | none => (11, M)
  | some f =>
    match M.tries data.size with
    | none => (M.begins.2.1, M.begins.2.2)
    | some n =>
      if M.begins.2.2.left < n then
        if M.begins.2.1 = 0 then
          (10, ({ M.begins.2.2 with refused := wrap64 (M.begins.2.2.refused + 1), fulls := wrap64 (M.begins.2.2.fulls + 1) } : DM).setFile f
            { M.begins.2.2.file f with bytes := (M.begins.2.2.file f).bytes ++ (data.extract 0 M.begins.2.2.left.toNat).data.toList })
        else (M.begins.2.1, M.begins.2.2.setFile f { M.begins.2.2.file f with bytes := (M.begins.2.2.file f).bytes ++ (data.extract 0 M.begins.2.2.left.toNat).data.toList })
      else (M.begins.2.1, M.begins.2.2.setFile f { M.begins.2.2.file f with bytes := (M.begins.2.2.file f).bytes ++ (data.extract 0 n.toNat).data.toList })

theorem DM.left_nat (M : DM) : ∃ m : Nat, M.left = m := by
  have : 0 ≤ M.left := by unfold DM.left; split <;> omega
  exact ⟨_, (Int.toNat_of_nonneg this).symm⟩

theorem append_calls (name data : ByteArray) (w : World) (b : Nat) (L : DL) (M : DM) (h : DRep w b L M) (hp : 0 ≤ M.part) (hsz : data.size ≤ 1000000000000) (hfl : ∀ f, f ∈ M.ids → (M.file f).bytes.length ≤ 1000000000000) :
    Calls Try.prog 12 #[.pointer (some ⟨b, 0, none⟩), .string name, .string data] w fun e w' =>
      e = .returned (.int .i64 (M.add name data).1) ∧ ∃ L', DStep b L M w L' (M.add name data).2 w' := by
  rcases look_cases M.dir name with ⟨h1, h2⟩ | ⟨k, hk, h1, h2, _⟩
  · refine (append_miss name data w b L M h h1).mono fun e w' ⟨h3, h4⟩ => ?_
    simp only [DM.add, h2]
    exact ⟨h3, L, h4⟩
  · have hf := hfl _ (h.inD _ (List.getElem_mem hk))
    have hpt : M.begins.2.2.part = M.part := M.begins_keeps.2.2.2.2.2.2.1
    obtain ⟨m, hm⟩ := M.begins.2.2.left_nat
    cases hd : M.begins.1 with
    | false =>
      have he0 := M.begins_not hd
      cases hdd : M.begins.2.2.dead with
      | true =>
        refine (append_not name data w b L M h k hk h1 hd hdd hsz).mono fun e w' ⟨h3, h4⟩ => ?_
        simp only [DM.add, h2, DM.tries, hd, hdd]
        exact ⟨h3, L, h4⟩
      | false =>
        by_cases hz : data.size = 0
        · refine (append_nil name data w b L M h k hk h1 hd hdd hz).mono fun e w' ⟨h3, h4⟩ => ?_
          simp only [DM.add, h2, DM.tries, hd, hdd, hz]
          exact ⟨h3, L, h4⟩
        · obtain ⟨p, hp'⟩ := Int.eq_ofNat_of_zero_le hp
          have hq : (p : Int).tmod data.size = (p % data.size : Nat) := by
            rw [Int.ofNat_tmod]
          have hqs : p % data.size < data.size := Nat.mod_lt _ (by omega)
          have ht : M.tries data.size = some ((p % data.size : Nat) : Int) := by
            simp only [DM.tries, hd, hdd]
            rw [if_neg (by simp), if_pos (by simp; omega), hp', hq]
          by_cases hl : M.begins.2.2.left < ((p % data.size : Nat) : Int)
          · refine (append_failfull name data w b L M h k hk h1 hsz hf hd he0 hdd p (p % data.size) (by rw [hpt, hp']) hq hqs m hm (by omega)).mono fun e w' ⟨h3, h4⟩ => ?_
            simp only [DM.add, h2, ht]
            rw [if_pos hl, if_neg (by omega), he0, hm]
            exact ⟨h3, h4⟩
          · refine (append_failfits name data w b L M h k hk h1 hsz hf hd he0 hdd p (p % data.size) (by rw [hpt, hp']) hq hqs hl).mono fun e w' ⟨h3, h4⟩ => ?_
            simp only [DM.add, h2, ht]
            rw [if_neg hl, he0]
            exact ⟨h3, h4⟩
    | true =>
      have ht : M.tries data.size = some (data.size : Int) := by simp [DM.tries, hd]
      by_cases hl : M.begins.2.2.left < data.size
      · rcases M.begins_err with he0 | he0
        · refine (append_full0 name data w b L M h k hk h1 hsz hf hd he0 m hm (by omega)).mono fun e w' ⟨h3, h4⟩ => ?_
          simp only [DM.add, h2, ht]
          rw [if_pos hl, if_pos he0, hm]
          exact ⟨h3, h4⟩
        · refine (append_full9 name data w b L M h k hk h1 hsz hf hd he0 m hm (by omega)).mono fun e w' ⟨h3, h4⟩ => ?_
          simp only [DM.add, h2, ht]
          rw [if_pos hl, if_neg (by omega), he0, hm]
          exact ⟨h3, h4⟩
      · refine (append_fits name data w b L M h k hk h1 hsz hf hd hl).mono fun e w' ⟨h3, h4⟩ => ?_
        simp only [DM.add, h2, ht]
        rw [if_neg hl]
        have : data.extract 0 ((data.size : Int).toNat) = data := by simp
        rw [this]
        exact ⟨h3, h4⟩

end Go.Proofs.Ytkhnggkkiefcdaa
