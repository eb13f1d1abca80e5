/- Ytkhnggkkiefcdaa, own text DiskM: Crash, where the first so many changes of the directory stay, at least one. -/
import Derived.Test.YtkhnggkkiefcdaaDiskL
namespace Go.Proofs.Ytkhnggkkiefcdaa
open Go.RowKit

set_option maxRecDepth 100000 in
set_option maxHeartbeats 3200000 in
theorem crash_some (dirs : Int) (tails : List Int) (tv : Value) (w : World) (b : Nat) (L : DL) (M : DM) (h : DRep w b L M) (hd1 : -9223372036854775808 ≤ dirs) (hd2 : dirs ≤ 9223372036854775807)
    (ht : IntsAt w tv tails) (htn : ∀ k, tv.ownBlock = some k → ¬ Foot b L M k) (htr : ∀ x, x ∈ tails → -9223372036854775808 ≤ x ∧ x ≤ 9223372036854775807)
    (hfl : ∀ f, f ∈ M.ids → (M.file f).bytes.length ≤ 1000000000000) (hn : M.chs.length + 1 ≤ 1000000000000) (hm : ∀ d, d ∈ M.safe :: M.chs → d.length ≤ 1000000000000)
    (kk : Nat) (hkk : kk < M.chs.length) (hk0 : pickN dirs M.chs.length = kk + 1) :
    Calls Try.prog 6 #[.pointer (some ⟨b, 0, none⟩), .int .i64 dirs, tv] w fun e w' =>
      e = .returned (.tuple #[]) ∧ ∃ L', DStep b L M w L' (M.crash dirs tails) w' := by
  have hc := h.blk.cell
  have hfz := h.blk.frozen
  simp only [DM.cells] at hc
  obtain ⟨cg, ccap, hcv, _, _⟩ := own_some h.ch (by omega)
  have hchl := h.chl
  have hkl : kk < L.chVs.length := by omega
  obtain ⟨d, hd⟩ : ∃ d, d = M.chs[kk] := ⟨_, rfl⟩
  obtain ⟨V, hVe⟩ : ∃ V, V = L.chVs[kk] := ⟨_, rfl⟩
  have hV := h.chs kk hkl hkk
  rw [← hd, ← hVe] at hV
  have hVin : ∀ e, e ∈ d → e.2 ∈ M.ids := by rw [hd]; exact h.inC _ (List.getElem_mem hkk)
  have hVf : ∀ k, V.ownBlock = some k → Foot b L M k := by rw [hVe]; exact fun k hk => .chs kk hkl hk
  have hce : w.cell? ⟨cg, kk, none⟩ = some V := own_cell? (by rw [← hcv]; exact h.ch) kk V (by rw [hVe]; exact List.getElem?_eq_getElem hkl)
  have hcb : cg ≠ b := by
    intro e
    refine own_ne h.ch h.blk (by decide) ?_
    rw [hcv, ← e]
    rfl
  have hmd : d.length ≤ 1000000000000 := by rw [hd]; exact hm _ (List.mem_cons_of_mem _ (List.getElem_mem hkk))
  have hdd : M.crashDir dirs = d := by simp [DM.crashDir, hk0, hd, hkk]
  obtain ⟨sa0, scap0, hss⟩ := own_form h.safe
  obtain ⟨sa, scap, hsv⟩ := own_form hV
  obtain ⟨ta, tc, htv⟩ : ∃ a c, tv = .slice a tails.length c := by
    rcases ht with ⟨rfl, rfl⟩ | ⟨g, off, cap, rfl, _⟩
    · exact ⟨_, _, rfl⟩
    · exact ⟨_, _, rfl⟩
  have hs0 : Blk ((w.setCell ⟨b, 0, none⟩ L.safeV).setCell ⟨b, 0, none⟩ V) b (({ M with dir := d } : DM).cells { L with dirV := V }) 45 := (h.blk.set 0 L.safeV).set 0 V
  have hr0 := h.setDir hV hVin hs0 (by repeat' first | (with_reducible exact Fr.refl _ _) | (with_reducible assumption) | (with_reducible refine Fr.drewN ?_ _) | (with_reducible refine Fr.drew ?_) | (with_reducible refine Fr.alloc ?_ _) | (with_reducible refine Fr.set ?_ ?_ _) | (intro _; rfl))
  rw [hcv, hss] at hc
  have HH := hide h
  have HR0 := hide hr0
  have HCV := hide hcv
  have HSV := hide hsv
  have HSS := hide hss
  have HT := hide ht
  have HTV := hide htv
  have HDD := hide hdd
  have hp := pick_calls dirs M.chs.length w hd1 hd2 (by omega)
  rw [hk0] at hp
  have HP := hide hp
  have htl : tails.length ≤ maxLen := by
    rcases ht with ⟨_, rfl⟩ | ⟨_, _, _, _, _, h, _⟩
    · simp
    · exact h
  unfold maxLen at htl
  have HVI := hide hVin
  have HVF := hide hVf
  rw [hsv] at hce
  clear h hr0 hcv hsv hss ht hs0 hdd hp hk0 hd hVe hV hVin hVf hchl hkl hm
  rw [htv]
  clear htv
  go_enter Try.func6, Try.ntmps6
  go_wp2_with (go_at_call 21; refine HP.out.mono ?_; rintro e wx ⟨rfl, hwx⟩; subst wx)
  have HL := hide (list_calls _ b _ _ HR0.out hmd)
  rw [← HSV.out, ← HSS.out]
  refine HL.out.mono ?_
  rintro e w1 ⟨nv, rfl, hnv, hf1, hnew⟩
  obtain ⟨na, nc, hnvv⟩ := own_form hnv
  have hnle := own_le hnv
  unfold maxLen at hnle
  have hc0 : CrashAt ((w.setCell ⟨b, 0, none⟩ L.safeV).setCell ⟨b, 0, none⟩ V) b { L with dirV := V } { M with dir := d } tails nv 0 w1 :=
    ⟨⟨_, HR0.out.fr hf1 (fun _ _ => id), rfl, rfl, rfl, rfl, fun k hk => hk⟩, hf1.mono (fun _ _ => False.elim), hnv⟩
  have HNN := hide hnvv
  have HNW := hide hnew
  have HF1 := hide hf1
  clear hnv hf1 hnew hc
  subst hnvv
  go_wp2_with fail
  go_loopw [44] (fun c w' => ∃ i : Nat, i ≤ d.length ∧ c = .int .i64 i ∧ CrashAt ((w.setCell ⟨b, 0, none⟩ L.safeV).setCell ⟨b, 0, none⟩ V) b { L with dirV := V } { M with dir := d } tails (.slice na d.length nc) i w') (fun c _ => d.length - (intOf c).toNat)
  case atStart => exact ⟨0, Nat.zero_le _, rfl, hc0⟩
  case round =>
    obtain ⟨i, hi, rfl, hat⟩ := hrel
    have HAT := hide hat
    clear hat hc0
    by_cases hlt : i < d.length
    · have hnl : d.names.length = d.length := names_length _
      obtain ⟨ng, hng⟩ : ∃ g, na = some ⟨g, 0, none⟩ := by
        obtain ⟨g, c', h', _⟩ := own_some HAT.out.names (by show 0 < d.length; omega)
        simp at h'; exact ⟨g, h'.1⟩
      subst hng
      have hil : i < d.names.length := by omega
      have hnm := own_cell? HAT.out.names i (.string d.names[i]) (by simp [strs, hil])
      obtain ⟨k, hk, hfi, hlk⟩ := names_found d d.names[i] (List.getElem_mem hil)
      obtain ⟨Li, hri, e1, e2, e3, e4, hft⟩ := HAT.out.rep
      have hdi := hri.blk.cell 0
      have hrow := hri.dir
      rw [e1] at hrow
      obtain ⟨dg, dcap, hdv, _, hdm⟩ := own_some hrow (by show 0 < d.length; omega)
      simp only at hdv
      have hdv' : Li.dirV = .slice (some ⟨dg, 0, none⟩) d.length dcap := e1.trans hdv
      simp only [DM.cells, hdv'] at hdi
      simp at hdi
      have hpe := own_cell? (by rw [← hdv]; exact hrow) _ _ (flat_get d k hk).2
      have HRI := hide hri
      have HFI := hide hfi
      have HDV := hide hdv'
      have HLK := hide hlk
      have HHH := hide (⟨e1, e2, e3, e4, hft⟩ : Li.dirV = _ ∧ Li.safeV = _ ∧ Li.chV = _ ∧ Li.chVs = _ ∧ _)
      unfold maxLen at hdm
      clear hri hfi e1 e2 e3 e4 hrow hft hdv hdv' hlk
      go_wp2_with fail
      go_region_held3 (fun w' => w'.cell? ⟨b, 0, none⟩ = some (.slice (some ⟨dg, 0, none⟩) d.length dcap) ∧ w'.cell? ⟨dg, k * 2 + 1, none⟩ = some (.pointer (some ⟨d[k].2, 0, none⟩))) (first | go_keep | exact ⟨‹_›, ‹_›⟩)
        (first | (go_at_call 22; refine (find_held HFI.out hk _ wr b _ _ rfl HDV.out HRI.out (Fr.drew (Fr.refl _ _))).mono ?_; rintro e w5 ⟨rfl, hb5, hp5, hf5⟩))
      have h5 := HRI.out.fr hf5 (fun _ _ => id)
      have hi5 : d[k].2 ∈ M.ids := HRI.out.inD _ (List.getElem_mem hk)
      have hfl5 : (crashK d tails M.file i d[k].2).bytes.length ≤ 1000000000000 := Nat.le_trans (crashK_file _ _ _ _ _) (hfl _ hi5)
      have hle5 := h5.le _ hi5
      have hcf := (h5.files _ hi5).cell
      have hff := (h5.files _ hi5).frozen
      obtain ⟨fa, fc, hfv⟩ := own_form (h5.rows _ hi5)
      rw [hfv] at hcf
      simp only at hle5 hcf hfv
      have hT5 : IntsAt w5 tv tails := by
        have hfr5 : Fr (fun k => k = b ∨ Foot b L M k) w w5 := by
          refine Fr.trans' (Fr.set (Fr.set (Fr.refl _ w) (p := ⟨b, 0, none⟩) (fun _ => .inl rfl) L.safeV) (p := ⟨b, 0, none⟩) (fun _ => .inl rfl) V) (HAT.out.fr.trans (hf5.mono (fun _ _ => False.elim))) ?_
          intro j _ hj
          refine .inr ?_
          cases hj using Foot.elim with
          | blk => exact .blk
          | dir e => exact HVF.out _ e
          | safe e => exact .safe e
          | ch e => exact .ch e
          | chs i h1 e => exact .chs i h1 e
          | file e => exact .file e
          | row f hf e => exact .row f hf e
        refine HT.out.fr hfr5 ?_
        intro j hj hb
        rcases hb with rfl | hb
        · exact htn _ hj .blk
        · exact htn j hj hb
      have HFV := hide hfv
      have H5 := hide h5
      have HT5 := hide hT5
      have HLE := hide hle5
      clear h5 hfv hT5
      generalize hF : crashK d tails M.file i d[k].2 = F at hcf hle5 hfl5
      have HF := hide hF
      clear hF
      by_cases hti : i < tails.length
      · obtain ⟨tg, toff, tcap, htv', htc⟩ : ∃ g off cap, tv = .slice (some ⟨g, off, none⟩) tails.length cap ∧ w5.cell? ⟨g, off + i, none⟩ = some (.int .i64 tails[i]) := by
          rcases HT5.out with ⟨_, h0⟩ | ⟨g, off, cap, hv, _, _, hcc⟩
          · subst h0; simp at hti
          · exact ⟨g, off, cap, hv, hcc i hti⟩
        have hta : ta = some ⟨tg, toff, none⟩ := by have := HTV.out.symm.trans htv'; simp at this; exact this.1
        subst hta
        have hgd : tails.getD i 0 = tails[i] := by simp [List.getD, hti]
        have HG := hide hgd
        have hr1 := (htr tails[i] (List.getElem_mem hti)).1
        have hr2 := (htr tails[i] (List.getElem_mem hti)).2
        clear hgd
        generalize tails[i] = tx at *
        obtain ⟨dn, hdn⟩ : ∃ dn : Nat, dn = F.bytes.length - F.safe := ⟨_, rfl⟩
        have hcall : ∀ wx : World, Calls Try.prog 21 #[.int .i64 tx, .int .i64 dn] wx fun e w' => e = .returned (.int .i64 (pickN tx dn)) ∧ w' = wx :=
          fun wx => pick_calls _ _ wx (by omega) (by omega) (by omega)
        have HCALL := hide hcall
        have hpl := pickN_le tx dn
        clear hcall
        generalize hP : pickN tx dn = pn at hpl HCALL
        have HPN := hide hP
        clear hP
        obtain ⟨m, hmm⟩ : ∃ m : Nat, m = F.safe + pn := ⟨_, rfl⟩
        have hw1 : IntKind.i64.wrap ((F.bytes.length : Int) - (F.safe : Int)) = (dn : Int) := by simp (disch := omega) only [IntWalk.i64_in]; omega
        have hw2 : IntKind.i64.wrap ((F.safe : Int) + (pn : Int)) = (m : Int) := by simp (disch := omega) only [IntWalk.i64_in]; omega
        have HDN := hide hdn
        have HMM := hide hmm
        have hml : m ≤ F.bytes.length := by omega
        have hcc : F.bytes.length ≤ fc := by
          rcases (H5.out.rows _ hi5).2 with ⟨h1, h2⟩ | ⟨_, _, _, h1, _, _, h2, _⟩
          · simp only [HF.out] at h2; omega
          · rw [HFV.out] at h1; simp only [HF.out] at h1 h2; simp at h1; omega
        have hs1 : (0 : Int) ≤ (m : Int) := by omega
        have hs2 : (m : Int) ≤ (fc : Int) := by omega
        clear hdn hmm hpl
        by_cases hfc : fc = 0
        · have hm0 : m = 0 := by omega
          go_wp2_with fail
          refine wp_region_still_tail 26 (by kernel_rfl) (by kernel_rfl) ?_
          simp only [List.take_succ_cons, List.take_zero, List.drop_succ_cons, List.drop_zero]
          iterate 21 still_step
          still_call (HCALL.out _)
          iterate 4 still_step
          refine wpStill_nil ?_
          go_wp2
          obtain rfl : m = 0 := hm0
          refine ⟨⟨i + 1, by omega, by go_num, ?_⟩, by simp [intOf]; omega⟩
          refine CrashAt.step (v := .slice fa 0 0) (m := 0) HAT.out HRI.out HHH.out hf5 hil HLK.out hi5 ?_ ?_ ?_
          · show 0 = (crashK d tails M.file i d[k].2).safe + pickN (tails.getD i 0) ((crashK d tails M.file i d[k].2).bytes.length - (crashK d tails M.file i d[k].2).safe)
            rw [HF.out, HG.out, ← HDN.out, HPN.out]; exact HMM.out
          · have hr := H5.out.rows _ hi5
            simp only [HF.out] at hr
            rw [HFV.out] at hr
            simp only [HF.out] at hr
            have hz : F.bytes.length = 0 := by omega
            rw [hz, hfc] at hr
            have hbn : F.bytes = [] := List.eq_nil_of_length_eq_zero hz
            show w5.ownsRow 0 5 1 (.slice fa 0 0) 0 (u8s ((crashK d tails M.file i d[k].2).bytes.take 0))
            rw [hbn] at hr
            simpa using hr
          · intro j hj
            rw [HFV.out]
            cases fa with
            | none => exact hj
            | some a => exact hj
        · obtain ⟨gb, hgb⟩ : ∃ gb, fa = some ⟨gb, 0, none⟩ := by
            rcases (H5.out.rows _ hi5).2 with ⟨h1, _⟩ | ⟨g, _, _, h1, _⟩
            · rw [HFV.out] at h1; simp at h1; omega
            · rw [HFV.out] at h1; simp at h1; exact ⟨g, h1.1⟩
          subst hgb
          go_wp2_with fail
          refine wp_region_still_tail 26 (by kernel_rfl) (by kernel_rfl) ?_
          simp only [List.take_succ_cons, List.take_zero, List.drop_succ_cons, List.drop_zero]
          iterate 21 still_step
          still_call (HCALL.out _)
          iterate 4 still_step
          refine wpStill_nil ?_
          go_wp2
          refine ⟨⟨i + 1, by omega, by go_num, ?_⟩, by simp [intOf]; omega⟩
          refine CrashAt.step (v := .slice (some ⟨gb, 0, none⟩) m fc) (m := m) HAT.out HRI.out HHH.out hf5 hil HLK.out hi5 ?_ ?_ ?_
          · show m = (crashK d tails M.file i d[k].2).safe + pickN (tails.getD i 0) ((crashK d tails M.file i d[k].2).bytes.length - (crashK d tails M.file i d[k].2).safe)
            rw [HF.out, HG.out, ← HDN.out, HPN.out]; exact HMM.out
          · have hr := H5.out.rows _ hi5
            simp only [HF.out] at hr
            rw [HFV.out] at hr
            simp only [HF.out] at hr
            show w5.ownsRow 0 5 1 (.slice (some ⟨gb, 0, none⟩) m fc) m (u8s ((crashK d tails M.file i d[k].2).bytes.take m))
            rw [HF.out]
            have := own_take hr hml
            rw [show u8s (F.bytes.take m) = (u8s F.bytes).take m by simp [u8s]]
            exact this
          · intro j hj
            rw [HFV.out]; exact hj
      · have HG : Hid (tails.getD i 0 = 0) := by simp [Hid, List.getD, hti]
        obtain ⟨dn, hdn⟩ : ∃ dn : Nat, dn = F.bytes.length - F.safe := ⟨_, rfl⟩
        have hcall : ∀ wx : World, Calls Try.prog 21 #[.int .i64 0, .int .i64 dn] wx fun e w' => e = .returned (.int .i64 (pickN 0 dn)) ∧ w' = wx :=
          fun wx => pick_calls _ _ wx (by omega) (by omega) (by omega)
        have HCALL := hide hcall
        have hpl := pickN_le 0 dn
        clear hcall
        generalize hP : pickN 0 dn = pn at hpl HCALL
        have HPN := hide hP
        clear hP
        obtain ⟨m, hmm⟩ : ∃ m : Nat, m = F.safe + pn := ⟨_, rfl⟩
        have hw1 : IntKind.i64.wrap ((F.bytes.length : Int) - (F.safe : Int)) = (dn : Int) := by simp (disch := omega) only [IntWalk.i64_in]; omega
        have hw2 : IntKind.i64.wrap ((F.safe : Int) + (pn : Int)) = (m : Int) := by simp (disch := omega) only [IntWalk.i64_in]; omega
        have HDN := hide hdn
        have HMM := hide hmm
        have hml : m ≤ F.bytes.length := by omega
        have hcc : F.bytes.length ≤ fc := by
          rcases (H5.out.rows _ hi5).2 with ⟨h1, h2⟩ | ⟨_, _, _, h1, _, _, h2, _⟩
          · simp only [HF.out] at h2; omega
          · rw [HFV.out] at h1; simp only [HF.out] at h1 h2; simp at h1; omega
        have hs1 : (0 : Int) ≤ (m : Int) := by omega
        have hs2 : (m : Int) ≤ (fc : Int) := by omega
        clear hdn hmm hpl
        by_cases hfc : fc = 0
        · have hm0 : m = 0 := by omega
          go_wp2_with fail
          refine wp_region_still_tail 26 (by kernel_rfl) (by kernel_rfl) ?_
          simp only [List.take_succ_cons, List.take_zero, List.drop_succ_cons, List.drop_zero]
          iterate 21 still_step
          still_call (HCALL.out _)
          iterate 4 still_step
          refine wpStill_nil ?_
          go_wp2
          obtain rfl : m = 0 := hm0
          refine ⟨⟨i + 1, by omega, by go_num, ?_⟩, by simp [intOf]; omega⟩
          refine CrashAt.step (v := .slice fa 0 0) (m := 0) HAT.out HRI.out HHH.out hf5 hil HLK.out hi5 ?_ ?_ ?_
          · show 0 = (crashK d tails M.file i d[k].2).safe + pickN (tails.getD i 0) ((crashK d tails M.file i d[k].2).bytes.length - (crashK d tails M.file i d[k].2).safe)
            rw [HF.out, HG.out, ← HDN.out, HPN.out]; exact HMM.out
          · have hr := H5.out.rows _ hi5
            simp only [HF.out] at hr
            rw [HFV.out] at hr
            simp only [HF.out] at hr
            have hz : F.bytes.length = 0 := by omega
            rw [hz, hfc] at hr
            have hbn : F.bytes = [] := List.eq_nil_of_length_eq_zero hz
            show w5.ownsRow 0 5 1 (.slice fa 0 0) 0 (u8s ((crashK d tails M.file i d[k].2).bytes.take 0))
            rw [hbn] at hr
            simpa using hr
          · intro j hj
            rw [HFV.out]
            cases fa with
            | none => exact hj
            | some a => exact hj
        · obtain ⟨gb, hgb⟩ : ∃ gb, fa = some ⟨gb, 0, none⟩ := by
            rcases (H5.out.rows _ hi5).2 with ⟨h1, _⟩ | ⟨g, _, _, h1, _⟩
            · rw [HFV.out] at h1; simp at h1; omega
            · rw [HFV.out] at h1; simp at h1; exact ⟨g, h1.1⟩
          subst hgb
          go_wp2_with fail
          refine wp_region_still_tail 26 (by kernel_rfl) (by kernel_rfl) ?_
          simp only [List.take_succ_cons, List.take_zero, List.drop_succ_cons, List.drop_zero]
          iterate 21 still_step
          still_call (HCALL.out _)
          iterate 4 still_step
          refine wpStill_nil ?_
          go_wp2
          refine ⟨⟨i + 1, by omega, by go_num, ?_⟩, by simp [intOf]; omega⟩
          refine CrashAt.step (v := .slice (some ⟨gb, 0, none⟩) m fc) (m := m) HAT.out HRI.out HHH.out hf5 hil HLK.out hi5 ?_ ?_ ?_
          · show m = (crashK d tails M.file i d[k].2).safe + pickN (tails.getD i 0) ((crashK d tails M.file i d[k].2).bytes.length - (crashK d tails M.file i d[k].2).safe)
            rw [HF.out, HG.out, ← HDN.out, HPN.out]; exact HMM.out
          · have hr := H5.out.rows _ hi5
            simp only [HF.out] at hr
            rw [HFV.out] at hr
            simp only [HF.out] at hr
            show w5.ownsRow 0 5 1 (.slice (some ⟨gb, 0, none⟩) m fc) m (u8s ((crashK d tails M.file i d[k].2).bytes.take m))
            rw [HF.out]
            have := own_take hr hml
            rw [show u8s (F.bytes.take m) = (u8s F.bytes).take m by simp [u8s]]
            exact this
          · intro j hj
            rw [HFV.out]; exact hj
    · have hil : i = d.length := by omega
      subst hil
      obtain ⟨Li, hri, e1, e2, e3, e4, hft⟩ := HAT.out.rep
      have hdi := hri.blk.cell
      have hfi := hri.blk.frozen
      simp only [DM.cells, e1, e2, e3] at hdi
      simp only [HSV.out, HCV.out, HSS.out] at hdi
      have hrr := hri
      have HRI := hide hri
      have HE := hide (⟨e1, e2, e3, e4, hft⟩ : _ ∧ _ ∧ _ ∧ _ ∧ _)
      clear hri e1 e2 e3 e4 hft hrr
      go_wp2
      go_end0
      refine ⟨rfl, ?_⟩
      rw [← HSV.out]
      refine crash_end HDD.out HAT.out (by repeat' first | (with_reducible exact Fr.refl _ _) | (with_reducible assumption) | (with_reducible refine Fr.drewN ?_ _) | (with_reducible refine Fr.drew ?_) | (with_reducible refine Fr.alloc ?_ _) | (with_reducible refine Fr.set ?_ ?_ _) | (intro _; rfl)) ?_
      intro k hk
      cases hk using Foot.elim with
      | blk => exact .blk
      | dir e => exact HVF.out _ e
      | safe e => exact .safe e
      | ch e => exact .ch e
      | chs i h1 e => exact .chs i h1 e
      | file e => exact .file e
      | row f hf e => exact .row f hf e

end Go.Proofs.Ytkhnggkkiefcdaa
