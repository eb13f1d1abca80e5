/-
  The closed sentence on the disk: the function that asks whether a disk has just one file.
-/
import Derived.Test.YtkhnggkkiefcdaaDiskR
namespace Go.Proofs.Ytkhnggkkiefcdaa
open Go.RowKit

theorem names_one (n : ByteArray) (f : Nat) : Dir.names [(n, f)] = [n] := by simp [Dir.names, namesK, insR]

set_option maxHeartbeats 1600000 in
theorem has_yes (n s : ByteArray) (w : World) (b f : Nat) (L : DL) (M : DM) (h : DRep w b L M) (hd : M.dir = [(n, f)]) (hn : (n == n) = true) (hb : M.file f = ⟨s.data.toList, (M.file f).safe⟩) (hl : s.size ≤ 100) :
    Calls Try.prog 5 #[.pointer (some ⟨b, 0, none⟩), .string n, .string s] w fun e w' => e = .returned (.bool true) ∧ Fr Nil w w' := by
  have hbl : (M.file f).bytes = s.data.toList := by rw [hb]
  have hsl : (M.file f).bytes.length = s.size := by rw [hbl]; simp
  have hlook : M.dir.look n = some f := by rw [hd]; exact calm_look n hn f
  have hsz : M.size n = ((s.size : Int), 0) := by simp only [DM.size, hlook, hsl]
  have hrd : M.read n 0 (s.size : Int) = (s, 0) := by
    have hc : (0 : Int) ≤ 0 ∧ (0 : Int) ≤ (s.size : Int) ∧ (0 : Int) ≤ ((M.file f).bytes.length : Int) ∧ (s.size : Int) ≤ ((M.file f).bytes.length : Int) - 0 := by omega
    simp only [DM.read, hlook, if_pos hc]
    have e1 : strOf (((M.file f).bytes.drop (0 : Int).toNat).take ((s.size : Int)).toNat) = s := by
      rw [hbl]
      simp only [Int.toNat_zero, List.drop_zero, Int.toNat_natCast, strOf]
      rw [List.take_of_length_le (by simp)]
    rw [e1]
  have hus : M.used = (s.size : Int) := by
    have hdl : M.dir.length = 0 + 1 := by rw [hd]; rfl
    have h1 := M.usedTo_succ 0 (by omega)
    have h0 : M.usedTo 0 = 0 := by simp [DM.usedTo]
    have e : (M.file (M.dir[0]'(by omega)).2).bytes.length = s.size := by
      simp only [hd, List.getElem_cons_zero]
      exact hsl
    rw [h0, e, wrap_small _ hl] at h1
    unfold DM.used
    rw [hdl]
    exact h1
  have HSZ := hide hsz
  have HRD := hide hrd
  have HUS := hide hus
  have HL := hide (list_calls w b L M h (by rw [hd]; simp))
  have HN : Hid (M.dir.names = [n]) := by rw [hd]; exact names_one n f
  have HDL : Hid (M.dir.length = 1) := by rw [hd]; rfl
  have HH := hide h
  clear h hd hb hbl hsl hlook hsz hrd hus
  go_enter Try.func5, Try.ntmps5
  go_wp2_with fail
  refine HL.out.mono ?_
  rintro e w1 ⟨v, rfl, hv, hf1, _⟩
  rw [HN.out, HDL.out] at hv
  obtain ⟨g, cap, hvv, _, _⟩ := own_some hv (by omega)
  subst hvv
  have hc := own_cell? hv 0 (.string n) (by simp [strs])
  have HF1 := hide hf1
  clear hv hf1
  go_wp2_with fail
  have HS2 := hide (size_calls n _ b _ _ (HH.out.fr HF1.out (fun _ _ => id)))
  refine HS2.out.mono ?_
  rintro e w2 ⟨rfl, hf2⟩
  rw [HSZ.out] at *
  have HF2 := hide (HF1.out.trans hf2)
  clear hf2
  go_wp2_with fail
  have HR3 := hide (read_calls n 0 (s.size : Int) _ b _ _ (HH.out.fr HF2.out (fun _ _ => id)))
  refine HR3.out.mono ?_
  rintro e w3 ⟨rfl, hf3⟩
  rw [HRD.out] at *
  have HF3 := hide (HF2.out.trans hf3)
  clear hf3
  go_wp2_with fail
  trace_state
  refine (used_calls _ b _ _ (HH.out.fr HF3.out (fun _ _ => id))).mono ?_
  rintro e w4 ⟨rfl, hf4⟩
  rw [HUS.out] at *
  have HF4 := hide (HF3.out.trans hf4)
  clear hf4
  go_wp2
  go_ret
  exact ⟨rfl, HF4.out⟩

end Go.Proofs.Ytkhnggkkiefcdaa
