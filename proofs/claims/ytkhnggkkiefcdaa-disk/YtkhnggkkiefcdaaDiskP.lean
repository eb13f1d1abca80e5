/-
  Package disk: what Copy does for one list of entries, whole.
-/
import Derived.Test.YtkhnggkkiefcdaaDiskO
import Derived.Deep.DeepCutAuto
namespace Go.Proofs.Ytkhnggkkiefcdaa
open Go.RowKit

set_option maxRecDepth 100000 in
set_option maxHeartbeats 40000000 in
theorem other_calls (w0 w : World) (b bo bm : Nat) (L : DL) (M : DM) (ps : List (Nat × Nat)) (vo vm : Value) (fV : Nat → Value) (h : DRep w0 b L M) (T : Twin w0 w bo bm M (ps.map Prod.fst) ps vo vm fV)
    (v : Value) (d : Dir) (hd : w0.ownsRow 0 50 2 v d.length (flat d)) (hi : ∀ e, e ∈ d → e.2 ∈ M.ids) (hn : ps.length + d.length ≤ 1000000000000)
    (hfl : ∀ f, f ∈ M.ids → (M.file f).bytes.length ≤ 1000000000000) :
    Calls Try.prog 25 #[v, .pointer (some ⟨bo, 0, none⟩), .pointer (some ⟨bm, 0, none⟩)] w fun e w' =>
      ∃ l, e = .returned l ∧ OtherAt w0 w bo bm M ps vo vm d d.length l w' := by
  have hdw := own_fr hd T.fr (fun _ _ => id)
  obtain ⟨a, cap, hv⟩ := own_form hd
  have HH := hide h
  have HD := hide hd
  have HT := hide T
  have h0 : OtherAt w0 w bo bm M ps vo vm d 0 (.slice none 0 0) w :=
    ⟨⟨ps, vo, vm, fV, [], T, fun _ => id, Nat.le_refl _, rfl, fun i _ h2 => absurd h2 (Nat.not_lt_zero _), World.ownsRow_nil w 0 _ _, fun _ => .inl, fun _ => .inl⟩, fun j hj => by simp [Value.ownBlock] at hj, Fr.refl _ _⟩
  have H0 := hide h0
  have HV := hide hv
  clear h hd T hdw h0
  rw [hv]
  clear hv
  go_enter Try.func25, Try.ntmps25
  go_wp2
  go_loopw [5, 11] (fun l c w' => ∃ k : Nat, k ≤ d.length ∧ c = .int .i64 k ∧ OtherAt w0 w bo bm M ps vo vm d k l w') (fun _ c _ => d.length - (intOf c).toNat)
  case atStart => exact ⟨0, Nat.zero_le _, rfl, H0.out⟩
  case round =>
    obtain ⟨k, hk, rfl, hat⟩ := hrel
    obtain ⟨w1, rfl⟩ : ∃ x, x = wr := ⟨wr, rfl⟩
    have HAT := hide hat
    clear hat
    by_cases hlt : k < d.length
    · obtain ⟨ps1, vo1, vm1, fV1, d1, hT1, hsub, hpl, hdl, hpw, hown, hvo, hvm⟩ := HAT.out.ex
      obtain ⟨g, hg⟩ : ∃ g, a = some ⟨g, 0, none⟩ := by
        obtain ⟨g, c', h', _⟩ := own_some HD.out (by omega)
        rw [HV.out] at h'; simp at h'; exact ⟨g, h'.1⟩
      subst hg
      have hrow := own_fr HD.out hT1.fr (fun _ _ => id)
      rw [HV.out] at hrow
      have hp1 := own_cell? hrow _ _ (flat_get d k hlt).1
      have hp2 := own_cell? hrow _ _ (flat_get d k hlt).2
      have HS := hide hsub
      have HPW := hide hpw
      have HOW := hide hown
      have HVO := hide hvo
      have HVM := hide hvm
      have HT1 := hide hT1
      have HDL := hide hdl
      clear hsub hpw hown hvo hvm hT1 hrow hdl
      go_wp2_with fail
      have hpl1 : ps1.length ≤ 1000000000000 := by omega
      clear hp1 hp2
      go_loopw [8] (fun c w' => ∃ j : Nat, j ≤ ps1.length ∧ c = .int .i64 j ∧ (∀ i (h1 : i < ps1.length), i < j → ps1[i].1 ≠ d[k].2) ∧ Fr Nil w1 w' ∧ Blk w' w1.heap.size [.string d[k].1, .pointer (some ⟨d[k].2, 0, none⟩)] 50) (fun c _ => ps1.length - (intOf c).toNat)
      case atStart =>
        refine ⟨0, Nat.zero_le _, rfl, fun i _ h => absurd h (Nat.not_lt_zero _), ?_, ?_⟩
        · exact Fr.alloc (Fr.refl _ _) _
        · exact Blk.new w1 [.string d[k].1, .pointer (some ⟨d[k].2, 0, none⟩)] _
      case round =>
        obtain ⟨w2, rfl⟩ : ∃ x, x = wr := ⟨wr, rfl⟩
        obtain ⟨j, hj, rfl, hmiss, hf2, he2⟩ := hrel
        have hT2 := HT1.out.keep hf2
        have hco := hT2.co.cell
        have hcm := hT2.cm.cell
        have hfo := hT2.co.frozen
        have hfm := hT2.cm.frozen
        have hce := he2.cell
        have hfe := he2.frozen
        obtain ⟨oa, oc, hov⟩ := own_form hT2.old
        obtain ⟨ma, mc, hmv⟩ := own_form hT2.made
        rw [List.length_map] at hov
        rw [hov] at hco
        rw [hmv] at hcm
        have HOV := hide hov
        have HMV := hide hmv
        have HMISS := hide hmiss
        have HT2 := hide hT2
        have HF2 := hide hf2
        have HE2 := hide he2
        clear hov hmv hmiss hT2 hf2 he2
        by_cases hjl : j < ps1.length
        · obtain ⟨og, hog⟩ : ∃ g, oa = some ⟨g, 0, none⟩ := by
            obtain ⟨g, c', h', _⟩ := own_some HT2.out.old (by rw [List.length_map]; omega)
            rw [HOV.out] at h'; simp at h'; exact ⟨g, h'.1⟩
          subst hog
          have hoc : w2.cell? ⟨og, j, none⟩ = some (.pointer (some ⟨ps1[j].1, 0, none⟩)) := by
            have := HT2.out.old
            rw [HOV.out] at this
            rw [List.length_map] at this
            exact own_cell? this j _ (by simp [ptrs, hjl])
          have hb1 : Blk w2 ps1[j].1 _ _ := ((HH.out.files _ (HT2.out.ids _ (List.mem_map_of_mem (List.getElem_mem hjl)))).fr HT2.out.fr id)
          have hb2 : Blk w2 d[k].2 _ _ := ((HH.out.files _ (hi _ (List.getElem_mem hlt))).fr HT2.out.fr id)
          by_cases heq : ps1[j].1 = d[k].2
          · have hneq : ∀ n, _ := fun n => neq_same (w2.drewN n) d[k].2
            rw [heq] at hoc
            have hgm : (d[k].2, ps1[j].2) ∈ ps1 := by rw [← heq]; exact List.getElem_mem hjl
            have HG := hide hgm
            clear heq hb1 hb2 hgm
            obtain ⟨mg, hmg⟩ : ∃ g, ma = some ⟨g, 0, none⟩ := by
              obtain ⟨g, c', h', _⟩ := own_some HT2.out.made (by omega)
              rw [HMV.out] at h'; simp at h'; exact ⟨g, h'.1⟩
            subst hmg
            have hmc : w2.cell? ⟨mg, j, none⟩ = some (.pointer (some ⟨ps1[j].2, 0, none⟩)) := by
              have := HT2.out.made
              rw [HMV.out] at this
              exact own_cell? this j _ (by simp [ptrs, hjl])
            have hown2 := own_fr HOW.out HF2.out (fun _ _ => id)
            have HOW2 : Hid (∀ W', Fr Nil w2 W' → W'.ownsRow 0 50 2 u5 k (flat d1)) := fun W' hf => own_fr hown2 hf (fun _ _ => id)
            clear hown2
            go_wp2_with fail
            go_quiet (fail)
            go_wp2_with fail
            go_region_law
              ((refine step_app (by rfl) _ _ _ _ (by rfl) _ _ (by rfl) (by rfl) (run_app_slice 42 _ 50 2 24 Try.underlying42 info_entry (by decide) _ _ _ (HOW2.out _ (by repeat' first | (with_reducible exact Fr.refl _ _) | (with_reducible assumption) | (with_reducible refine Fr.drewN ?_ _) | (with_reducible refine Fr.drew ?_) | (with_reducible refine Fr.alloc ?_ _) | (with_reducible refine Fr.set ?_ ?_ _) | (intro _; rfl)))
                ⟨w2.heap.size, 0, none⟩ 1 1 [.string d[k].1, .pointer (some ⟨ps1[j].2, 0, none⟩)] rfl (cell_new2 _ _ _ _ _ (by simp)) (by intro u hu; simp at hu; rcases hu with rfl | rfl <;> rfl) (by unfold maxLen; omega) (by omega)) ?_; intro v4 w4 ha; have HA := hide ha; clear ha))
            all_goals (go_wp2; refine ⟨⟨k + 1, by omega, by go_num, ?_⟩, by simp [intOf]; omega⟩; exact OtherAt.step hlt HT.out.fr HT2.out HS.out (by omega) HDL.out HPW.out (HOW2.out _ (Fr.refl _ _)) HAT.out.new HVO.out HVM.out (HAT.out.fr.trans (HF2.out.mono (fun _ _ => False.elim))) HG.out (by repeat' first | (with_reducible exact Fr.refl _ _) | (with_reducible assumption) | (with_reducible refine Fr.drewN ?_ _) | (with_reducible refine Fr.drew ?_) | (with_reducible refine Fr.alloc ?_ _) | (with_reducible refine Fr.set ?_ ?_ _) | (intro _; rfl)) HA.out)
          · have hneq : ∀ n, _ := fun n => neq_other (hb1.drewN n) (hb2.drewN n) heq
            have HEQ := hide heq
            clear heq hb1 hb2
            go_wp2_with fail
            go_quiet (fail)
            go_wp2
            refine ⟨⟨j + 1, by omega, by go_num, ?_, HF2.out.drewN _, HE2.out.drewN _⟩, by simp [intOf]; omega⟩
            intro i h1 h2
            by_cases e : i = j
            · subst e; exact HEQ.out
            · exact HMISS.out i h1 (by omega)
        · have hje : j = ps1.length := by omega
          subst hje
          have hdc : decide ((ps1.length : Int) < (ps1.length : Int)) = false := by simp
          have hnot : d[k].2 ∉ ps1.map Prod.fst := by
            intro hm
            obtain ⟨p, hp, hpe⟩ := List.mem_map.1 hm
            obtain ⟨i, hi', rfl⟩ := List.mem_iff_getElem.1 hp
            exact HMISS.out i hi' hi' hpe
          have hin : d[k].2 ∈ M.ids := hi _ (List.getElem_mem hlt)
          have HNOT := hide hnot
          clear hnot
          have hown2 := own_fr HOW.out HF2.out (fun _ _ => id)
          have HOWN : Hid (w2.ownsRow 0 50 2 u5 k (flat d1)) := hown2
          have holdo := HT2.out.old
          rw [List.length_map, HOV.out] at holdo
          have HOLD : Hid (∀ W', Fr Nil w2 W' → W'.ownsRow 0 48 1 (.slice oa ps1.length oc) ps1.length (ptrs (ps1.map Prod.fst))) := fun W' hf => own_fr holdo hf (fun _ _ => id)
          have HPUSH : Hid (∀ W1 v3 w3, Fr Nil w2 W1 → App W1 (.slice oa ps1.length oc) 48 1 (ps1.length + 1) (ptrs (ps1.map Prod.fst) ++ [.pointer (some ⟨d[k].2, 0, none⟩)]) v3 w3 →
              Blk w3 bo [.slice oa ps1.length oc] 58 ∧ Twin w0 (w3.setCell ⟨bo, 0, none⟩ v3) bo bm M (ps1.map Prod.fst ++ [d[k].2]) ps1 v3 vm1 fV1 ∧ Fr (fun j => j = bo ∨ vo1.ownBlock = some j) w2 (w3.setCell ⟨bo, 0, none⟩ v3) ∧
                (∀ j, v3.ownBlock = some j → vo1.ownBlock = some j ∨ w2.heap.size ≤ j)) := by
            intro W1 v3 w3 hf ha
            rw [← HOV.out] at ha ⊢
            have hb := (HT2.out.co.fr hf id).fr ha.fr (own_ne (own_fr HT2.out.old hf (fun _ _ => id)) (HT2.out.co.fr hf id) (by decide))
            exact ⟨hb, Twin.old_push HT2.out hf (by rw [List.length_map]; exact ha) HNOT.out hin⟩
          clear hown2 holdo
          go_wp2_with fail
          go_quiet (fail)
          go_wp2_with (at_builtin; go_must (refine wpList_app rfl _ _ _ _ rfl _ _ (by rfl) (by rfl) (run_app_slice 58 _ 48 1 8 Try.underlying58 info_ptr (by decide) _ _ _ (HOLD.out _ (by repeat' first | (with_reducible exact Fr.refl _ _) | (with_reducible assumption) | (with_reducible refine Fr.drewN ?_ _) | (with_reducible refine Fr.drew ?_) | (with_reducible refine Fr.alloc ?_ _) | (with_reducible refine Fr.set ?_ ?_ _) | (intro _; rfl)))
            ⟨w2.heap.size, 0, none⟩ 1 1 [.pointer (some ⟨d[k].2, 0, none⟩)] rfl (cell_new1 _ _ _ _ (by simp)) (by intro u hu; simp at hu; subst hu; rfl) (by unfold maxLen; omega) (by omega)) ?_))
          intro v3 w3 ha3
          obtain ⟨a3, c3, hv3⟩ := own_form ha3.own
          subst hv3
          obtain ⟨hb3, hT3, hf3, hvo3⟩ := HPUSH.out _ _ _ (by repeat' first | (with_reducible exact Fr.refl _ _) | (with_reducible assumption) | (with_reducible refine Fr.drewN ?_ _) | (with_reducible refine Fr.drew ?_) | (with_reducible refine Fr.alloc ?_ _) | (with_reducible refine Fr.set ?_ ?_ _) | (intro _; rfl)) ha3
          have hc3 := hb3.cell 0
          have hz3 := hb3.frozen 0
          have HT3 := hide hT3
          have HF3 := hide hf3
          have HVO3 := hide hvo3
          clear hco hcm hfo hfm hce hfe ha3 hb3 hT3 hf3 hvo3
          go_wp2_with fail
          obtain ⟨W3, hW3⟩ : ∃ W3, w3.setCell ⟨bo, 0, none⟩ (.slice a3 (ps1.length + 1) c3) = W3 := ⟨_, rfl⟩
          rw [hW3] at HT3 HF3 ⊢
          have HW3 := hide hW3
          obtain ⟨fa, fc, hfv⟩ := own_form (HH.out.rows _ hin)
          have hle3 := hfl _ hin
          have he3 : Blk W3 w1.heap.size [.string d[k].1, .pointer (some ⟨d[k].2, 0, none⟩)] 50 := HE2.out.fr HF3.out (fun e => by
            rcases e with e | e
            · exact HE2.out.ne HT2.out.co (by decide) e
            · exact own_ne HT2.out.old HE2.out (by decide) e)
          have hb3 : Blk W3 d[k].2 [.slice fa (M.file d[k].2).bytes.length fc, .int .i64 (M.file d[k].2).safe] 54 := by
            have := (HH.out.files _ hin).fr HT3.out.fr id
            rw [hfv] at this
            exact this
          have hm3 : Blk W3 bm [.slice ma ps1.length mc] 58 := by
            have := HT3.out.cm
            rw [HMV.out] at this
            exact this
          have hrow3 : W3.ownsRow 0 5 1 (.slice fa (M.file d[k].2).bytes.length fc) (M.file d[k].2).bytes.length (u8s (M.file d[k].2).bytes) := by
            have := own_fr (HH.out.rows _ hin) HT3.out.fr (fun _ _ => id)
            rw [hfv] at this
            exact this
          have hmade3 : W3.ownsRow 0 48 1 (.slice ma ps1.length mc) ps1.length (ptrs (ps1.map Prod.snd)) := by
            have := HT3.out.made
            rw [HMV.out] at this
            exact this
          have HROW : Hid (∀ W', Fr Nil W3 W' → W'.ownsRow 0 5 1 (.slice fa (M.file d[k].2).bytes.length fc) (M.file d[k].2).bytes.length (u8s (M.file d[k].2).bytes)) := fun W' hf => own_fr hrow3 hf (fun _ _ => id)
          have HMADE : Hid (∀ W', Fr Nil W3 W' → W'.ownsRow 0 48 1 (.slice ma ps1.length mc) ps1.length (ptrs (ps1.map Prod.snd))) := fun W' hf => own_fr hmade3 hf (fun _ _ => id)
          have HKEEP : Hid (∀ W', Fr Nil W3 W' → (∀ i, W'.cell? ⟨w1.heap.size, i, none⟩ = [.string d[k].1, .pointer (some ⟨d[k].2, 0, none⟩)][i]?) ∧
              (∀ i, W'.cell? ⟨d[k].2, i, none⟩ = [.slice fa (M.file d[k].2).bytes.length fc, .int .i64 (M.file d[k].2).safe][i]?) ∧ (∀ i, W'.cell? ⟨bm, i, none⟩ = [.slice ma ps1.length mc][i]?) ∧ bm < W'.heap.size) :=
            fun W' hf => ⟨(he3.fr hf id).cell, (hb3.fr hf id).cell, (hm3.fr hf id).cell, (hm3.fr hf id).lt⟩
          have HMK : Hid (∀ W1 g v9 w9, Fr Nil W3 W1 → App W1 (.slice ma ps1.length mc) 48 1 (ps1.length + 1) (ptrs (ps1.map Prod.snd) ++ [.pointer (some ⟨g, 0, none⟩)]) v9 w9 → Blk w9 bm [.slice ma ps1.length mc] 58) :=
            fun W1 g v9 w9 hf ha => (hm3.fr hf id).fr ha.fr (own_ne (own_fr hmade3 hf (fun _ _ => id)) (hm3.fr hf id) (by decide))
          have hke := he3.cell
          have hkb := hb3.cell
          have hkm := hm3.cell
          have HE3 := hide he3
          have HB3 := hide hb3
          clear hc3 hz3 hW3 he3 hb3 hm3 hrow3 hmade3 hfv
          go_cut [8] (fun ci wx => ci = .int .i64 ps1.length ∧ ∃ nf v9 fV', Twin w0 wx bo bm M ((ps1 ++ [(d[k].2, nf)]).map Prod.fst) (ps1 ++ [(d[k].2, nf)]) (.slice a3 (ps1.length + 1) c3) v9 fV' ∧ Fr (fun j => j = bm ∨ vm1.ownBlock = some j) W3 wx ∧ (∀ j, v9.ownBlock = some j → vm1.ownBlock = some j ∨ W3.heap.size ≤ j))
          case first =>
            go_region_law
              (first
              | (refine step_app (by rfl) _ _ _ _ (by rfl) _ _ (by rfl) (by rfl) (run_app_from 52 _ 5 1 1 Try.underlying52 info_u8 (by decide) (.slice none 0 0) 0 [] (World.ownsRow_nil _ 0 _ _) _ (M.file d[k].2).bytes.length (u8s (M.file d[k].2).bytes) (HROW.out _ (by repeat' first | (with_reducible exact Fr.refl _ _) | (with_reducible assumption) | (with_reducible refine Fr.drewN ?_ _) | (with_reducible refine Fr.drew ?_) | (with_reducible refine Fr.alloc ?_ _) | (with_reducible refine Fr.set ?_ ?_ _) | (intro _; rfl)))
                  (by intro x hx; simp [u8s] at hx; obtain ⟨c, _, rfl⟩ := hx; rfl) (by unfold maxLen; omega) (by omega)) ?_; intro v8 w8 ha8; obtain ⟨a8, c8, hv8⟩ := own_form ha8.own; subst hv8
                 have hf8 : Fr Nil W3 w8 := Fr.trans (by repeat' first | (with_reducible exact Fr.refl _ _) | (with_reducible assumption) | (with_reducible refine Fr.drewN ?_ _) | (with_reducible refine Fr.drew ?_) | (with_reducible refine Fr.alloc ?_ _) | (with_reducible refine Fr.set ?_ ?_ _) | (intro _; rfl)) (ha8.fr.mono (fun _ _ h => by simp [Value.ownBlock] at h))
                 obtain ⟨hke8, hkb8, hkm8, hkl8⟩ := HKEEP.out _ hf8
                 have HA8 := hide ha8
                 clear ha8)
              | (refine step_app (by rfl) _ _ _ _ (by rfl) _ _ (by rfl) (by rfl) (run_app_slice 58 _ 48 1 8 Try.underlying58 info_ptr (by decide) _ _ _ (HMADE.out _ (by repeat' first | (with_reducible exact Fr.refl _ _) | (with_reducible assumption) | (with_reducible refine Fr.drewN ?_ _) | (with_reducible refine Fr.drew ?_) | (with_reducible refine Fr.alloc ?_ _) | (with_reducible refine Fr.set ?_ ?_ _) | (intro _; rfl)))
                  ⟨w8.heap.size + 1, 0, none⟩ 1 1 [.pointer (some ⟨w8.heap.size, 0, none⟩)] rfl (cell_new1 _ _ _ _ (by simp)) (by intro u hu; simp at hu; subst hu; rfl) (by unfold maxLen; omega) (by omega)) ?_; intro v9 w9 ha9; obtain ⟨a9, c9, hv9⟩ := own_form ha9.own; subst hv9
                 have hb9 := HMK.out _ _ _ _ (by repeat' first | (with_reducible exact Fr.refl _ _) | (with_reducible assumption) | (with_reducible refine Fr.drewN ?_ _) | (with_reducible refine Fr.drew ?_) | (with_reducible refine Fr.alloc ?_ _) | (with_reducible refine Fr.set ?_ ?_ _) | (intro _; rfl)) ha9
                 have hc9 := hb9.cell 0
                 have hz9 := hb9.frozen 0
                 have HA9 := hide ha9
                 clear ha9 hb9))
            all_goals
              (have hTB := Twin.born HT3.out hf8 HA8.out (by rw [HMV.out]; exact HA9.out)
               have HTB := hide hTB
               clear hTB hc9 hz9 hke8 hkb8 hkm8 hkl8 HA9 HA8 hf8 hke hkb hkm
               go_wp2_with fail
               go_meet
               exact ⟨rfl, _, _, _, HTB.out⟩)
          case rest =>
            obtain ⟨rfl, nf, v9, fV', hT5, hf4, hvm4⟩ := hcut
            obtain ⟨W4, rfl⟩ : ∃ x, x = wc := ⟨wc, rfl⟩
            obtain ⟨a9, c9, hv9⟩ := own_form hT5.made
            simp only [List.length_append, List.length_cons, List.length_nil] at hv9
            subst hv9
            have hown4 := own_past HT2.out HT3.out HOWN.out HF3.out hf4
            have he4 := blk_past HT3.out HE3.out hf4
            have hce4 := he4.cell
            have hcm4 := hT5.cm.cell
            obtain ⟨mg, hmg⟩ : ∃ g, a9 = some ⟨g, 0, none⟩ := by
              obtain ⟨g, c', h', _⟩ := own_some hT5.made (by simp)
              simp at h'; exact ⟨g, h'.1⟩
            subst hmg
            have hmc4 : W4.cell? ⟨mg, ps1.length, none⟩ = some (.pointer (some ⟨nf, 0, none⟩)) := by
              have := hT5.made
              simp only [List.length_append, List.length_cons, List.length_nil] at this
              exact own_cell? this ps1.length _ (by simp [ptrs])
            have hix : (ps1.length : Int) < (ps1.length : Int) + 1 := by omega
            have HOW4 : Hid (∀ W', Fr Nil W4 W' → W'.ownsRow 0 50 2 u5 k (flat d1)) := fun W' hf => own_fr hown4 hf (fun _ _ => id)
            have HS4 : Hid (∀ W', Fr Nil W4 W' → W'.cell? ⟨w1.heap.size, 0, none⟩ = some (.string d[k].1) ∧ W'.cell? ⟨bm, 0, none⟩ = some (.slice (some ⟨mg, 0, none⟩) (ps1.length + 1) c9) ∧ W'.cell? ⟨mg, ps1.length, none⟩ = some (.pointer (some ⟨nf, 0, none⟩))) :=
              fun W' hf => ⟨(he4.fr hf id).cell 0, (hT5.cm.fr hf id).cell 0, ((hf.cell (p := ⟨mg, ps1.length, none⟩) (own_lt hT5.made rfl) id).trans hmc4)⟩
            have HSA : Hid (∀ W' xs v' w', Fr Nil W4 W' → App W' u5 50 2 (k + 1) xs v' w' → w'.cell? ⟨w1.heap.size, 0, none⟩ = some (.string d[k].1) ∧ w'.cell? ⟨bm, 0, none⟩ = some (.slice (some ⟨mg, 0, none⟩) (ps1.length + 1) c9) ∧ w'.cell? ⟨mg, ps1.length, none⟩ = some (.pointer (some ⟨nf, 0, none⟩))) :=
              fun W' xs v' w' hf ha => ⟨((he4.fr hf id).fr ha.fr (fun e => absurd (own_lt HOW.out e) (by omega))).cell 0, ((hT5.cm.fr hf id).fr ha.fr (own_ne (own_fr hown4 hf (fun _ _ => id)) (hT5.cm.fr hf id) (by decide))).cell 0,
                ((ha.fr.cell (p := ⟨mg, ps1.length, none⟩) (Nat.lt_of_lt_of_le (own_lt hT5.made rfl) hf.size) (fun e => own_ne' (own_fr hown4 hf (fun _ _ => id)) (own_fr hT5.made hf (fun _ _ => id)) (by decide) e rfl)).trans ((hf.cell (p := ⟨mg, ps1.length, none⟩) (own_lt hT5.made rfl) id).trans hmc4))⟩
            have HT5 := hide hT5
            have HF4 := hide hf4
            have HVM4 := hide hvm4
            clear hT5 hf4 hvm4 hown4 he4 hke hkb hkm
            go_wp2_with fail
            go_region_held3 (fun w' => w'.cell? ⟨w1.heap.size, 0, none⟩ = some (.string d[k].1) ∧ w'.cell? ⟨bm, 0, none⟩ = some (.slice (some ⟨mg, 0, none⟩) (ps1.length + 1) c9) ∧ w'.cell? ⟨mg, ps1.length, none⟩ = some (.pointer (some ⟨nf, 0, none⟩))) (first | assumption | exact HS4.out _ (by repeat' first | (with_reducible exact Fr.refl _ _) | (with_reducible assumption) | (with_reducible refine Fr.drewN ?_ _) | (with_reducible refine Fr.drew ?_) | (with_reducible refine Fr.alloc ?_ _) | (with_reducible refine Fr.set ?_ ?_ _) | (intro _; rfl)))
             (first
             | (refine step_app (by rfl) _ _ _ _ (by rfl) _ _ (by rfl) (by rfl) (run_app_slice 42 _ 50 2 24 Try.underlying42 info_entry (by decide) _ _ _ (HOW4.out _ (by repeat' first | (with_reducible exact Fr.refl _ _) | (with_reducible assumption) | (with_reducible refine Fr.drewN ?_ _) | (with_reducible refine Fr.drew ?_) | (with_reducible refine Fr.alloc ?_ _) | (with_reducible refine Fr.set ?_ ?_ _) | (intro _; rfl)))
               ⟨W4.heap.size, 0, none⟩ 1 1 [.string d[k].1, .pointer (some ⟨nf, 0, none⟩)] rfl (cell_new2 _ _ _ _ _ (by simp)) (by intro u hu; simp at hu; rcases hu with rfl | rfl <;> rfl) (by unfold maxLen; omega) (by omega)) ?_; intro v4 w4 ha; have hS4 := HSA.out _ _ _ _ (by repeat' first | (with_reducible exact Fr.refl _ _) | (with_reducible assumption) | (with_reducible refine Fr.drewN ?_ _) | (with_reducible refine Fr.drew ?_) | (with_reducible refine Fr.alloc ?_ _) | (with_reducible refine Fr.set ?_ ?_ _) | (intro _; rfl)) ha; have HA := hide ha; clear ha))
            go_wp2
            refine ⟨⟨k + 1, by omega, by go_num, ?_⟩, by simp [intOf]; omega⟩
            exact OtherAt.step_new hlt HT.out.fr HAT.out HS.out hpl HDL.out HPW.out HVO.out HVM.out HF2.out HF3.out HVO3.out HT5.out HF4.out HVM4.out (HOW4.out _ (Fr.refl _ _)) (by repeat' first | (with_reducible exact Fr.refl _ _) | (with_reducible assumption) | (with_reducible refine Fr.drewN ?_ _) | (with_reducible refine Fr.drew ?_) | (with_reducible refine Fr.alloc ?_ _) | (with_reducible refine Fr.set ?_ ?_ _) | (intro _; rfl)) HA.out
    · go_wp2
      go_ret
      have hkl : k = d.length := by omega
      subst hkl
      exact ⟨_, rfl, HAT.out⟩

end Go.Proofs.Ytkhnggkkiefcdaa
