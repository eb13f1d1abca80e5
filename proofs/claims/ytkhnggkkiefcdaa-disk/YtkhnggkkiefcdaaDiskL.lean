/-
  Package disk: Crash, whole.
-/
import Derived.Test.YtkhnggkkiefcdaaDiskK
namespace Go.Proofs.Ytkhnggkkiefcdaa
open Go.RowKit

/-- Behind i files. -/
structure CrashAt (w0 : World) (b : Nat) (L0 : DL) (M0 : DM) (tails : List Int) (nv : Value) (i : Nat) (w : World) : Prop where
  rep : ∃ L, DRep w b L { M0 with file := crashK M0.dir tails M0.file i } ∧ L.dirV = L0.dirV ∧ L.safeV = L0.safeV ∧ L.chV = L0.chV ∧ L.chVs = L0.chVs ∧ (∀ k, Foot b L { M0 with file := crashK M0.dir tails M0.file i } k → Foot b L0 M0 k)
  fr : Fr (Foot b L0 M0) w0 w
  names : w.ownsRow 0 9 1 nv M0.dir.length (strs M0.dir.names)

theorem crashFile_le (f : FM) (c : Int) (h : f.safe ≤ f.bytes.length) : f.safe + pickN c (f.bytes.length - f.safe) ≤ f.bytes.length := by
  have := pickN_le c (f.bytes.length - f.safe)
  omega

theorem names_length (d : Dir) : d.names.length = d.length := namesK_length d _ (Nat.le_refl _)

theorem insR_mem (l : List ByteArray) (x y : ByteArray) (h : y ∈ insR l x) : y = x ∨ y ∈ l := by
  induction l with
  | nil => simp [insR] at h; exact .inl h
  | cons a r ih =>
    simp only [insR] at h
    split at h
    · rcases List.mem_cons.1 h with h | h
      · exact .inr (by simp [h])
      · rcases ih h with h | h
        · exact .inl h
        · exact .inr (List.mem_cons_of_mem _ h)
    · rcases List.mem_cons.1 h with h | h
      · exact .inl h
      · exact .inr h

theorem namesK_mem (d : Dir) : ∀ k, k ≤ d.length → ∀ y, y ∈ namesK d k → ∃ e, e ∈ d ∧ e.1 = y := by
  intro k
  induction k with
  | zero => intro _ y hy; simp [namesK] at hy
  | succ k ih =>
    intro h y hy
    rw [namesK_succ d k h, List.mem_reverse] at hy
    rcases insR_mem _ _ _ hy with rfl | hy
    · exact ⟨d[k], List.getElem_mem h, rfl⟩
    · exact ih (by omega) y (by simpa using hy)

/-- A name that is told is found. -/
theorem names_found (d : Dir) (y : ByteArray) (h : y ∈ d.names) : ∃ k : Nat, ∃ hk : k < d.length, findI d y = k ∧ Dir.look d y = some d[k].2 := by
  obtain ⟨e, he, rfl⟩ := namesK_mem d _ (Nat.le_refl _) y h
  rcases look_cases d e.1 with ⟨h1, h2⟩ | ⟨k, hk, h1, h2, _⟩
  · exfalso
    cases hf : d.find? (fun x => x.1 == e.1) with
    | none => exact absurd (show (e.1 == e.1) = true by rw [beq_toListBytes]; simp) (List.find?_eq_none.1 hf e he)
    | some x => simp [Dir.look, hf] at h2
  · exact ⟨k, hk, h1, h2⟩

theorem find_room {d : Dir} {name : ByteArray} {k : Nat} (hm : findI d name = k) (w w0 : World) (b : Nat) (L : DL) (M : DM) (hM : M.dir = d) (h : DRep w0 b L M) (hf : Fr Nil w0 w) :
    Calls Try.prog 22 #[L.dirV, .string name] w fun e w' => e = .returned (.int .i64 k) ∧ w'.cell? ⟨b, 0, none⟩ = some L.dirV ∧ Fr Nil w0 w' := by
  subst hM
  refine (find_hit hm w (h.fr hf (fun _ _ => id)).dir).mono fun e w' ⟨h1, h2⟩ => ⟨h1, ?_, hf.trans h2⟩
  exact ((h.fr (hf.trans h2) (fun _ _ => id)).blk.cell 0)

theorem crashK_file (d : Dir) (tails : List Int) (file : Nat → FM) : ∀ i f, (crashK d tails file i f).bytes.length ≤ (file f).bytes.length := by
  intro i
  induction i with
  | zero => intro f; exact Nat.le_refl _
  | succ i ih =>
    intro f
    cases hx : (d.names[i]?).bind (Dir.look d) with
    | none => simp only [crashK, hx]; exact ih f
    | some g =>
      simp only [crashK, hx]
      split
      · rename_i e
        subst e
        have := ih f
        simp only [crashFile, List.length_take]
        omega
      · exact ih f

theorem crashK_succ (d : Dir) (tails : List Int) (file : Nat → FM) (i f : Nat) (hi : i < d.names.length) (h : Dir.look d d.names[i] = some f) :
    crashK d tails file (i + 1) = fun g => if g = f then crashFile (crashK d tails file i f) (tails.getD i 0) else crashK d tails file i g := by
  simp only [crashK, List.getElem?_eq_getElem hi, Option.bind_some, h]

theorem find_held {d : Dir} {name : ByteArray} {k : Nat} (hm : findI d name = k) (hk : k < d.length) (w w0 : World) (b : Nat) (L : DL) (M : DM) (hM : M.dir = d) {g cap : Nat} (hv : L.dirV = .slice (some ⟨g, 0, none⟩) d.length cap) (h : DRep w0 b L M) (hf : Fr Nil w0 w) :
    Calls Try.prog 22 #[.slice (some ⟨g, 0, none⟩) d.length cap, .string name] w fun e w' => e = .returned (.int .i64 k) ∧ w'.cell? ⟨b, 0, none⟩ = some (.slice (some ⟨g, 0, none⟩) d.length cap) ∧
      w'.cell? ⟨g, k * 2 + 1, none⟩ = some (.pointer (some ⟨d[k].2, 0, none⟩)) ∧ Fr Nil w0 w' := by
  subst hM
  have hd := (h.fr hf (fun _ _ => id)).dir
  rw [hv] at hd
  refine (find_hit hm w hd).mono fun e w' ⟨h1, h2⟩ => ⟨h1, ?_, ?_, hf.trans h2⟩
  · rw [← hv]; exact ((h.fr (hf.trans h2) (fun _ _ => id)).blk.cell 0)
  · exact own_cell? (own_fr hd h2 (fun _ _ => id)) _ _ (flat_get _ k hk).2

theorem pick_calls' (c x : Int) (n : Nat) (hx : x = n) (w : World) (h1 : -9223372036854775808 ≤ c) (h2 : c ≤ 9223372036854775807) (hn : n ≤ 140737488355328) :
    Calls Try.prog 21 #[.int .i64 c, .int .i64 x] w fun e w' => e = .returned (.int .i64 (pickN c n)) ∧ w' = w := by
  subst hx
  exact pick_calls c n w h1 h2 hn

theorem CrashAt.step {w0 w w5 : World} {b : Nat} {L0 Li : DL} {M0 : DM} {tails : List Int} {nv v : Value} {i f m : Nat} (h : CrashAt w0 b L0 M0 tails nv i w)
    (hri : DRep w b Li { M0 with file := crashK M0.dir tails M0.file i })
    (hL : Li.dirV = L0.dirV ∧ Li.safeV = L0.safeV ∧ Li.chV = L0.chV ∧ Li.chVs = L0.chVs ∧ (∀ k, Foot b Li { M0 with file := crashK M0.dir tails M0.file i } k → Foot b L0 M0 k))
    (hf5 : Fr Nil w w5) (hi : i < M0.dir.names.length) (hlk : Dir.look M0.dir M0.dir.names[i] = some f) (hif : f ∈ M0.ids)
    (hm : m = (crashK M0.dir tails M0.file i f).safe + pickN (tails.getD i 0) ((crashK M0.dir tails M0.file i f).bytes.length - (crashK M0.dir tails M0.file i f).safe))
    (hv : w5.ownsRow 0 5 1 v m (u8s ((crashK M0.dir tails M0.file i f).bytes.take m))) (hat : ∀ k, v.ownBlock = some k → (Li.fV f).ownBlock = some k) :
    CrashAt w0 b L0 M0 tails nv (i + 1) (((w5.setCell ⟨f, 0, none⟩ v).setCell ⟨f, 1, none⟩ (.int .i64 m)).drew) := by
  have h5 := hri.fr hf5 (fun _ _ => id)
  have hle := h5.le f hif
  simp only at hle
  have hml : m ≤ (crashK M0.dir tails M0.file i f).bytes.length := by
    have := crashFile_le (crashK M0.dir tails M0.file i f) (tails.getD i 0) hle
    omega
  have hfr : Fr (fun k => k = f) w5 (((w5.setCell ⟨f, 0, none⟩ v).setCell ⟨f, 1, none⟩ (.int .i64 m)).drew) := (by repeat' first | exact Fr.refl _ _ | (with_reducible assumption) | refine Fr.drewN ?_ _ | refine Fr.drew ?_ | refine Fr.alloc ?_ _ | refine Fr.set ?_ ?_ _ | (intro _; rfl))
  have hb : Blk (((w5.setCell ⟨f, 0, none⟩ v).setCell ⟨f, 1, none⟩ (.int .i64 m)).drew) f [v, .int .i64 m] 54 := (((h5.files f hif).set 0 v).set 1 (.int .i64 m)).drew
  have hk := h5.keep hif hml hb hv hfr hat
  have eM : ({ M0 with file := crashK M0.dir tails M0.file i } : DM).setFile f ⟨(crashK M0.dir tails M0.file i f).bytes.take m, m⟩ = { M0 with file := crashK M0.dir tails M0.file (i + 1) } := by
    rw [crashK_succ _ _ _ _ _ hi hlk]
    simp only [DM.setFile, crashFile, ← hm]
  have hff : Foot b Li { M0 with file := crashK M0.dir tails M0.file i } f := .file hif
  refine ⟨⟨{ Li with fV := fun g => if g = f then v else Li.fV g }, ?_, hL.1, hL.2.1, hL.2.2.1, hL.2.2.2.1, ?_⟩, ?_, ?_⟩
  · rw [← eM]; exact hk
  · intro k hkf
    rw [← eM] at hkf
    exact hL.2.2.2.2 k (Foot.of_keep hif hat hkf)
  · refine Fr.trans' (h.fr.trans (hf5.mono (fun _ _ => False.elim))) hfr ?_
    intro k _ e
    subst e
    exact hL.2.2.2.2 _ hff
  · have h1 := own_fr h.names hf5 (fun _ _ => id)
    exact own_fr h1 hfr (fun k e hk => by subst hk; exact own_ne h1 (h5.files _ hif) (by decide) e)

theorem DRep.power {w : World} {b : Nat} {L : DL} {M : DM} {d : Dir} {F : Nat → FM} (h : DRep w b L { M with dir := d, file := F }) :
    DRep (((((w.setCell ⟨b, 1, none⟩ L.dirV).setCell ⟨b, 2, none⟩ (.slice none 0 0)).setCell ⟨b, 10, none⟩ (.bool false)).setCell ⟨b, 5, none⟩ (.int .i64 0)).setCell ⟨b, 6, none⟩ (.int .i64 0)) b
      { L with safeV := L.dirV, chV := .slice none 0 0, chVs := [] } { M with dir := d, safe := d, chs := [], file := F, dead := false, cut := 0, fail := 0 } := by
  have h1 := h.synced (w' := (w.setCell ⟨b, 1, none⟩ L.dirV).setCell ⟨b, 2, none⟩ (.slice none 0 0)) ((h.blk.set 1 L.dirV).set 2 (.slice none 0 0)) (by repeat' first | (with_reducible exact Fr.refl _ _) | (with_reducible assumption) | (with_reducible refine Fr.drewN ?_ _) | (with_reducible refine Fr.drew ?_) | (with_reducible refine Fr.alloc ?_ _) | (with_reducible refine Fr.set ?_ ?_ _) | (intro _; rfl))
  exact h1.own (M' := { M with dir := d, safe := d, chs := [], file := F, dead := false, cut := 0, fail := 0 }) (((h1.blk.set 10 (.bool false)).set 5 (.int .i64 0)).set 6 (.int .i64 0)) (by repeat' first | (with_reducible exact Fr.refl _ _) | (with_reducible assumption) | (with_reducible refine Fr.drewN ?_ _) | (with_reducible refine Fr.drew ?_) | (with_reducible refine Fr.alloc ?_ _) | (with_reducible refine Fr.set ?_ ?_ _) | (intro _; rfl)) rfl rfl rfl rfl rfl

/-- The power is back: what is there is safe. -/
theorem crash_end {w w0 wr : World} {b : Nat} {L : DL} {M : DM} {d : Dir} {v nv : Value} {dirs : Int} {tails : List Int} (hd : M.crashDir dirs = d)
    (h : CrashAt w0 b { L with dirV := v } { M with dir := d } tails nv d.length wr) (hf0 : Fr (fun k => k = b) w w0)
    (hft : ∀ k, Foot b { L with dirV := v } { M with dir := d } k → Foot b L M k) :
    ∃ L', DStep b L M w L' (M.crash dirs tails)
      (((((wr.setCell ⟨b, 1, none⟩ v).setCell ⟨b, 2, none⟩ (.slice none 0 0)).setCell ⟨b, 10, none⟩ (.bool false)).setCell ⟨b, 5, none⟩ (.int .i64 0)).setCell ⟨b, 6, none⟩ (.int .i64 0)) := by
  obtain ⟨Li, hri, e1, e2, e3, e4, hfi⟩ := h.rep
  simp only at e1 e2 e3 e4
  subst e1
  have eC : M.crash dirs tails = { M with dir := d, safe := d, chs := [], file := crashK d tails M.file d.length, dead := false, cut := 0, fail := 0 } := by
    simp only [DM.crash, hd, names_length]
  rw [eC]
  have h2 := hri.power
  refine ⟨_, h2, ?_, ?_⟩
  · have hfr : Fr (fun k => k = b) wr (((((wr.setCell ⟨b, 1, none⟩ Li.dirV).setCell ⟨b, 2, none⟩ (.slice none 0 0)).setCell ⟨b, 10, none⟩ (.bool false)).setCell ⟨b, 5, none⟩ (.int .i64 0)).setCell ⟨b, 6, none⟩ (.int .i64 0)) := (by repeat' first | (with_reducible exact Fr.refl _ _) | (with_reducible assumption) | (with_reducible refine Fr.drewN ?_ _) | (with_reducible refine Fr.drew ?_) | (with_reducible refine Fr.alloc ?_ _) | (with_reducible refine Fr.set ?_ ?_ _) | (intro _; rfl))
    refine Fr.trans' (Fr.trans' (hf0.mono (fun k _ e => by subst e; exact .blk)) h.fr (fun k _ hk => hft k hk)) hfr (fun k _ e => by subst e; exact .blk)
  · intro k hk
    refine .inl (hft k ?_)
    cases hk using Foot.elim with
    | blk => exact .blk
    | dir e => exact .dir e
    | safe e => exact .dir e
    | ch e => simp [Value.ownBlock] at e
    | chs i h1 e => exact absurd h1 (Nat.not_lt_zero _)
    | file e => exact .file e
    | row f hf e => exact hfi k (.row f hf e)

set_option maxRecDepth 100000 in
set_option maxHeartbeats 3200000 in
theorem crash_zero (dirs : Int) (tails : List Int) (tv : Value) (w : World) (b : Nat) (L : DL) (M : DM) (h : DRep w b L M) (hd1 : -9223372036854775808 ≤ dirs) (hd2 : dirs ≤ 9223372036854775807)
    (ht : IntsAt w tv tails) (htn : ∀ k, tv.ownBlock = some k → ¬ Foot b L M k) (htr : ∀ x, x ∈ tails → -9223372036854775808 ≤ x ∧ x ≤ 9223372036854775807)
    (hfl : ∀ f, f ∈ M.ids → (M.file f).bytes.length ≤ 1000000000000) (hn : M.chs.length + 1 ≤ 1000000000000) (hm : ∀ d, d ∈ M.safe :: M.chs → d.length ≤ 1000000000000) (hk0 : pickN dirs M.chs.length = 0) :
    Calls Try.prog 6 #[.pointer (some ⟨b, 0, none⟩), .int .i64 dirs, tv] w fun e w' =>
      e = .returned (.tuple #[]) ∧ ∃ L', DStep b L M w L' (M.crash dirs tails) w' := by
  have hc := h.blk.cell
  have hfz := h.blk.frozen
  simp only [DM.cells] at hc
  obtain ⟨ca, ccap, hcv⟩ := own_form h.ch
  obtain ⟨sa, scap, hsv⟩ := own_form h.safe
  obtain ⟨ta, tc, htv⟩ : ∃ a c, tv = .slice a tails.length c := by
    rcases ht with ⟨rfl, rfl⟩ | ⟨g, off, cap, rfl, _⟩
    · exact ⟨_, _, rfl⟩
    · exact ⟨_, _, rfl⟩
  have hdd : M.crashDir dirs = M.safe := by simp [DM.crashDir, hk0]
  have hs0 : Blk (w.setCell ⟨b, 0, none⟩ L.safeV) b (({ M with dir := M.safe } : DM).cells { L with dirV := L.safeV }) 45 := h.blk.set 0 L.safeV
  have hr0 := h.setDir h.safe h.inS hs0 (by repeat' first | exact Fr.refl _ _ | (with_reducible assumption) | refine Fr.drewN ?_ _ | refine Fr.drew ?_ | refine Fr.alloc ?_ _ | refine Fr.set ?_ ?_ _ | (intro _; rfl))
  rw [hcv, hsv] at hc
  have HH := hide h
  have HR0 := hide hr0
  have HCV := hide hcv
  have HSV := hide hsv
  have HT := hide ht
  have HTV := hide htv
  have HDD := hide hdd
  have hp := pick_calls dirs M.chs.length w hd1 hd2 (by omega)
  rw [hk0] at hp
  have HP := hide hp
  have htl : tails.length ≤ maxLen := by
    rcases ht with ⟨_, rfl⟩ | ⟨_, _, _, _, _, h, _⟩
    · simp
    · exact h
  unfold maxLen at htl
  clear h hr0 hcv hsv ht hs0 hdd hp hk0
  rw [htv]
  clear htv
  go_enter Try.func6, Try.ntmps6
  go_wp2_with (go_at_call 21; refine HP.out.mono ?_; rintro e wx ⟨rfl, hwx⟩; subst wx)
  have HL := hide (list_calls _ b _ _ HR0.out (hm M.safe (List.mem_cons_self ..)))
  rw [← HSV.out]
  refine HL.out.mono ?_
  rintro e w1 ⟨nv, rfl, hnv, hf1, hnew⟩
  obtain ⟨na, nc, hnvv⟩ := own_form hnv
  have hnle := own_le hnv
  unfold maxLen at hnle
  have hc0 : CrashAt (w.setCell ⟨b, 0, none⟩ L.safeV) b { L with dirV := L.safeV } { M with dir := M.safe } tails nv 0 w1 :=
    ⟨⟨_, HR0.out.fr hf1 (fun _ _ => id), rfl, rfl, rfl, rfl, fun k hk => hk⟩, hf1.mono (fun _ _ => False.elim), hnv⟩
  have HNN := hide hnvv
  have HNW := hide hnew
  have HF1 := hide hf1
  clear hnv hf1 hnew hc
  subst hnvv
  go_wp2_with fail
  go_loopw [44] (fun c w' => ∃ i : Nat, i ≤ M.safe.length ∧ c = .int .i64 i ∧ CrashAt (w.setCell ⟨b, 0, none⟩ L.safeV) b { L with dirV := L.safeV } { M with dir := M.safe } tails (.slice na M.safe.length nc) i w') (fun c _ => M.safe.length - (intOf c).toNat)
  case atStart => exact ⟨0, Nat.zero_le _, rfl, hc0⟩
  case round =>
    obtain ⟨i, hi, rfl, hat⟩ := hrel
    have HAT := hide hat
    clear hat hc0
    by_cases hlt : i < M.safe.length
    · have hnl : M.safe.names.length = M.safe.length := names_length _
      obtain ⟨ng, hng⟩ : ∃ g, na = some ⟨g, 0, none⟩ := by
        obtain ⟨g, c', h', _⟩ := own_some HAT.out.names (by show 0 < M.safe.length; omega)
        simp at h'; exact ⟨g, h'.1⟩
      subst hng
      have hil : i < M.safe.names.length := by omega
      have hnm := own_cell? HAT.out.names i (.string M.safe.names[i]) (by simp [strs, hil])
      obtain ⟨k, hk, hfi, hlk⟩ := names_found M.safe M.safe.names[i] (List.getElem_mem hil)
      obtain ⟨Li, hri, e1, e2, e3, e4, hft⟩ := HAT.out.rep
      have hdi := hri.blk.cell 0
      have hrow := hri.dir
      rw [e1] at hrow
      obtain ⟨dg, dcap, hdv, _, hdm⟩ := own_some hrow (by show 0 < M.safe.length; omega)
      simp only at hdv
      have hdv' : Li.dirV = .slice (some ⟨dg, 0, none⟩) M.safe.length dcap := e1.trans hdv
      simp only [DM.cells, hdv'] at hdi
      simp at hdi
      have hpe := own_cell? (by rw [← hdv]; exact hrow) _ _ (flat_get M.safe k hk).2
      have HRI := hide hri
      have HFI := hide hfi
      have HDV := hide hdv'
      have HLK := hide hlk
      have HHH := hide (⟨e1, e2, e3, e4, hft⟩ : Li.dirV = _ ∧ Li.safeV = _ ∧ Li.chV = _ ∧ Li.chVs = _ ∧ _)
      unfold maxLen at hdm
      clear hri hfi e1 e2 e3 e4 hrow hft hdv hdv' hlk
      go_wp2_with fail
      go_region_held3 (fun w' => w'.cell? ⟨b, 0, none⟩ = some (.slice (some ⟨dg, 0, none⟩) M.safe.length dcap) ∧ w'.cell? ⟨dg, k * 2 + 1, none⟩ = some (.pointer (some ⟨M.safe[k].2, 0, none⟩))) (first | go_keep | exact ⟨‹_›, ‹_›⟩)
        (first | (go_at_call 22; refine (find_held HFI.out hk _ wr b _ _ rfl HDV.out HRI.out (Fr.drew (Fr.refl _ _))).mono ?_; rintro e w5 ⟨rfl, hb5, hp5, hf5⟩))
      have h5 := HRI.out.fr hf5 (fun _ _ => id)
      have hi5 : M.safe[k].2 ∈ M.ids := HRI.out.inD _ (List.getElem_mem hk)
      have hfl5 : (crashK M.safe tails M.file i M.safe[k].2).bytes.length ≤ 1000000000000 := Nat.le_trans (crashK_file _ _ _ _ _) (hfl _ hi5)
      have hle5 := h5.le _ hi5
      have hcf := (h5.files _ hi5).cell
      have hff := (h5.files _ hi5).frozen
      obtain ⟨fa, fc, hfv⟩ := own_form (h5.rows _ hi5)
      rw [hfv] at hcf
      simp only at hle5 hcf hfv
      have hT5 : IntsAt w5 tv tails := by
        have hfr5 : Fr (fun k => k = b ∨ Foot b L M k) w w5 := by
          refine Fr.trans' (Fr.set (Fr.refl _ w) (p := ⟨b, 0, none⟩) (fun _ => .inl rfl) L.safeV) (HAT.out.fr.trans (hf5.mono (fun _ _ => False.elim))) ?_
          intro j _ hj
          refine .inr ?_
          cases hj using Foot.elim with
          | blk => exact .blk
          | dir e => exact .safe e
          | safe e => exact .safe e
          | ch e => exact .ch e
          | chs i h1 e => exact .chs i h1 e
          | file e => exact .file e
          | row f hf e => exact .row f hf e
        refine HT.out.fr hfr5 ?_
        intro j hj hb
        rcases hb with rfl | hb
        · exact htn _ hj .blk
        · exact htn j hj hb
      have HFV := hide hfv
      have H5 := hide h5
      have HT5 := hide hT5
      have HLE := hide hle5
      clear h5 hfv hT5
      generalize hF : crashK M.safe tails M.file i M.safe[k].2 = F at hcf hle5 hfl5
      have HF := hide hF
      clear hF
      by_cases hti : i < tails.length
      · obtain ⟨tg, toff, tcap, htv', htc⟩ : ∃ g off cap, tv = .slice (some ⟨g, off, none⟩) tails.length cap ∧ w5.cell? ⟨g, off + i, none⟩ = some (.int .i64 tails[i]) := by
          rcases HT5.out with ⟨_, h0⟩ | ⟨g, off, cap, hv, _, _, hcc⟩
          · subst h0; simp at hti
          · exact ⟨g, off, cap, hv, hcc i hti⟩
        have hta : ta = some ⟨tg, toff, none⟩ := by have := HTV.out.symm.trans htv'; simp at this; exact this.1
        subst hta
        have hgd : tails.getD i 0 = tails[i] := by simp [List.getD, hti]
        have HG := hide hgd
        have hr1 := (htr tails[i] (List.getElem_mem hti)).1
        have hr2 := (htr tails[i] (List.getElem_mem hti)).2
        clear hgd
        generalize tails[i] = tx at *
        obtain ⟨dn, hdn⟩ : ∃ dn : Nat, dn = F.bytes.length - F.safe := ⟨_, rfl⟩
        have hcall : ∀ wx : World, Calls Try.prog 21 #[.int .i64 tx, .int .i64 dn] wx fun e w' => e = .returned (.int .i64 (pickN tx dn)) ∧ w' = wx :=
          fun wx => pick_calls _ _ wx (by omega) (by omega) (by omega)
        have HCALL := hide hcall
        have hpl := pickN_le tx dn
        clear hcall
        generalize hP : pickN tx dn = pn at hpl HCALL
        have HPN := hide hP
        clear hP
        obtain ⟨m, hmm⟩ : ∃ m : Nat, m = F.safe + pn := ⟨_, rfl⟩
        have hw1 : IntKind.i64.wrap ((F.bytes.length : Int) - (F.safe : Int)) = (dn : Int) := by simp (disch := omega) only [IntWalk.i64_in]; omega
        have hw2 : IntKind.i64.wrap ((F.safe : Int) + (pn : Int)) = (m : Int) := by simp (disch := omega) only [IntWalk.i64_in]; omega
        have HDN := hide hdn
        have HMM := hide hmm
        have hml : m ≤ F.bytes.length := by omega
        have hcc : F.bytes.length ≤ fc := by
          rcases (H5.out.rows _ hi5).2 with ⟨h1, h2⟩ | ⟨_, _, _, h1, _, _, h2, _⟩
          · simp only [HF.out] at h2; omega
          · rw [HFV.out] at h1; simp only [HF.out] at h1 h2; simp at h1; omega
        have hs1 : (0 : Int) ≤ (m : Int) := by omega
        have hs2 : (m : Int) ≤ (fc : Int) := by omega
        clear hdn hmm hpl
        by_cases hfc : fc = 0
        · have hm0 : m = 0 := by omega
          go_wp2_with fail
          refine wp_region_still_tail 26 (by kernel_rfl) (by kernel_rfl) ?_
          simp only [List.take_succ_cons, List.take_zero, List.drop_succ_cons, List.drop_zero]
          iterate 21 still_step
          still_call (HCALL.out _)
          iterate 4 still_step
          refine wpStill_nil ?_
          go_wp2
          obtain rfl : m = 0 := hm0
          refine ⟨⟨i + 1, by omega, by go_num, ?_⟩, by simp [intOf]; omega⟩
          refine CrashAt.step (v := .slice fa 0 0) (m := 0) HAT.out HRI.out HHH.out hf5 hil HLK.out hi5 ?_ ?_ ?_
          · show 0 = (crashK M.safe tails M.file i M.safe[k].2).safe + pickN (tails.getD i 0) ((crashK M.safe tails M.file i M.safe[k].2).bytes.length - (crashK M.safe tails M.file i M.safe[k].2).safe)
            rw [HF.out, HG.out, ← HDN.out, HPN.out]; exact HMM.out
          · have hr := H5.out.rows _ hi5
            simp only [HF.out] at hr
            rw [HFV.out] at hr
            simp only [HF.out] at hr
            have hz : F.bytes.length = 0 := by omega
            rw [hz, hfc] at hr
            have hbn : F.bytes = [] := List.eq_nil_of_length_eq_zero hz
            show w5.ownsRow 0 5 1 (.slice fa 0 0) 0 (u8s ((crashK M.safe tails M.file i M.safe[k].2).bytes.take 0))
            rw [hbn] at hr
            simpa using hr
          · intro j hj
            rw [HFV.out]
            cases fa with
            | none => exact hj
            | some a => exact hj
        · obtain ⟨gb, hgb⟩ : ∃ gb, fa = some ⟨gb, 0, none⟩ := by
            rcases (H5.out.rows _ hi5).2 with ⟨h1, _⟩ | ⟨g, _, _, h1, _⟩
            · rw [HFV.out] at h1; simp at h1; omega
            · rw [HFV.out] at h1; simp at h1; exact ⟨g, h1.1⟩
          subst hgb
          go_wp2_with fail
          refine wp_region_still_tail 26 (by kernel_rfl) (by kernel_rfl) ?_
          simp only [List.take_succ_cons, List.take_zero, List.drop_succ_cons, List.drop_zero]
          iterate 21 still_step
          still_call (HCALL.out _)
          iterate 4 still_step
          refine wpStill_nil ?_
          go_wp2
          refine ⟨⟨i + 1, by omega, by go_num, ?_⟩, by simp [intOf]; omega⟩
          refine CrashAt.step (v := .slice (some ⟨gb, 0, none⟩) m fc) (m := m) HAT.out HRI.out HHH.out hf5 hil HLK.out hi5 ?_ ?_ ?_
          · show m = (crashK M.safe tails M.file i M.safe[k].2).safe + pickN (tails.getD i 0) ((crashK M.safe tails M.file i M.safe[k].2).bytes.length - (crashK M.safe tails M.file i M.safe[k].2).safe)
            rw [HF.out, HG.out, ← HDN.out, HPN.out]; exact HMM.out
          · have hr := H5.out.rows _ hi5
            simp only [HF.out] at hr
            rw [HFV.out] at hr
            simp only [HF.out] at hr
            show w5.ownsRow 0 5 1 (.slice (some ⟨gb, 0, none⟩) m fc) m (u8s ((crashK M.safe tails M.file i M.safe[k].2).bytes.take m))
            rw [HF.out]
            have := own_take hr hml
            rw [show u8s (F.bytes.take m) = (u8s F.bytes).take m by simp [u8s]]
            exact this
          · intro j hj
            rw [HFV.out]; exact hj
      · have HG : Hid (tails.getD i 0 = 0) := by simp [Hid, List.getD, hti]
        obtain ⟨dn, hdn⟩ : ∃ dn : Nat, dn = F.bytes.length - F.safe := ⟨_, rfl⟩
        have hcall : ∀ wx : World, Calls Try.prog 21 #[.int .i64 0, .int .i64 dn] wx fun e w' => e = .returned (.int .i64 (pickN 0 dn)) ∧ w' = wx :=
          fun wx => pick_calls _ _ wx (by omega) (by omega) (by omega)
        have HCALL := hide hcall
        have hpl := pickN_le 0 dn
        clear hcall
        generalize hP : pickN 0 dn = pn at hpl HCALL
        have HPN := hide hP
        clear hP
        obtain ⟨m, hmm⟩ : ∃ m : Nat, m = F.safe + pn := ⟨_, rfl⟩
        have hw1 : IntKind.i64.wrap ((F.bytes.length : Int) - (F.safe : Int)) = (dn : Int) := by simp (disch := omega) only [IntWalk.i64_in]; omega
        have hw2 : IntKind.i64.wrap ((F.safe : Int) + (pn : Int)) = (m : Int) := by simp (disch := omega) only [IntWalk.i64_in]; omega
        have HDN := hide hdn
        have HMM := hide hmm
        have hml : m ≤ F.bytes.length := by omega
        have hcc : F.bytes.length ≤ fc := by
          rcases (H5.out.rows _ hi5).2 with ⟨h1, h2⟩ | ⟨_, _, _, h1, _, _, h2, _⟩
          · simp only [HF.out] at h2; omega
          · rw [HFV.out] at h1; simp only [HF.out] at h1 h2; simp at h1; omega
        have hs1 : (0 : Int) ≤ (m : Int) := by omega
        have hs2 : (m : Int) ≤ (fc : Int) := by omega
        clear hdn hmm hpl
        by_cases hfc : fc = 0
        · have hm0 : m = 0 := by omega
          go_wp2_with fail
          refine wp_region_still_tail 26 (by kernel_rfl) (by kernel_rfl) ?_
          simp only [List.take_succ_cons, List.take_zero, List.drop_succ_cons, List.drop_zero]
          iterate 21 still_step
          still_call (HCALL.out _)
          iterate 4 still_step
          refine wpStill_nil ?_
          go_wp2
          obtain rfl : m = 0 := hm0
          refine ⟨⟨i + 1, by omega, by go_num, ?_⟩, by simp [intOf]; omega⟩
          refine CrashAt.step (v := .slice fa 0 0) (m := 0) HAT.out HRI.out HHH.out hf5 hil HLK.out hi5 ?_ ?_ ?_
          · show 0 = (crashK M.safe tails M.file i M.safe[k].2).safe + pickN (tails.getD i 0) ((crashK M.safe tails M.file i M.safe[k].2).bytes.length - (crashK M.safe tails M.file i M.safe[k].2).safe)
            rw [HF.out, HG.out, ← HDN.out, HPN.out]; exact HMM.out
          · have hr := H5.out.rows _ hi5
            simp only [HF.out] at hr
            rw [HFV.out] at hr
            simp only [HF.out] at hr
            have hz : F.bytes.length = 0 := by omega
            rw [hz, hfc] at hr
            have hbn : F.bytes = [] := List.eq_nil_of_length_eq_zero hz
            show w5.ownsRow 0 5 1 (.slice fa 0 0) 0 (u8s ((crashK M.safe tails M.file i M.safe[k].2).bytes.take 0))
            rw [hbn] at hr
            simpa using hr
          · intro j hj
            rw [HFV.out]
            cases fa with
            | none => exact hj
            | some a => exact hj
        · obtain ⟨gb, hgb⟩ : ∃ gb, fa = some ⟨gb, 0, none⟩ := by
            rcases (H5.out.rows _ hi5).2 with ⟨h1, _⟩ | ⟨g, _, _, h1, _⟩
            · rw [HFV.out] at h1; simp at h1; omega
            · rw [HFV.out] at h1; simp at h1; exact ⟨g, h1.1⟩
          subst hgb
          go_wp2_with fail
          refine wp_region_still_tail 26 (by kernel_rfl) (by kernel_rfl) ?_
          simp only [List.take_succ_cons, List.take_zero, List.drop_succ_cons, List.drop_zero]
          iterate 21 still_step
          still_call (HCALL.out _)
          iterate 4 still_step
          refine wpStill_nil ?_
          go_wp2
          refine ⟨⟨i + 1, by omega, by go_num, ?_⟩, by simp [intOf]; omega⟩
          refine CrashAt.step (v := .slice (some ⟨gb, 0, none⟩) m fc) (m := m) HAT.out HRI.out HHH.out hf5 hil HLK.out hi5 ?_ ?_ ?_
          · show m = (crashK M.safe tails M.file i M.safe[k].2).safe + pickN (tails.getD i 0) ((crashK M.safe tails M.file i M.safe[k].2).bytes.length - (crashK M.safe tails M.file i M.safe[k].2).safe)
            rw [HF.out, HG.out, ← HDN.out, HPN.out]; exact HMM.out
          · have hr := H5.out.rows _ hi5
            simp only [HF.out] at hr
            rw [HFV.out] at hr
            simp only [HF.out] at hr
            show w5.ownsRow 0 5 1 (.slice (some ⟨gb, 0, none⟩) m fc) m (u8s ((crashK M.safe tails M.file i M.safe[k].2).bytes.take m))
            rw [HF.out]
            have := own_take hr hml
            rw [show u8s (F.bytes.take m) = (u8s F.bytes).take m by simp [u8s]]
            exact this
          · intro j hj
            rw [HFV.out]; exact hj
    · have hil : i = M.safe.length := by omega
      subst hil
      obtain ⟨Li, hri, e1, e2, e3, e4, hft⟩ := HAT.out.rep
      have hdi := hri.blk.cell
      have hfi := hri.blk.frozen
      simp only [DM.cells, e1, e2, e3] at hdi
      simp only [HSV.out, HCV.out] at hdi
      have hrr := hri
      have HRI := hide hri
      have HE := hide (⟨e1, e2, e3, e4, hft⟩ : _ ∧ _ ∧ _ ∧ _ ∧ _)
      clear hri e1 e2 e3 e4 hft hrr
      go_wp2
      go_end0
      refine ⟨rfl, ?_⟩
      rw [← HSV.out]
      refine crash_end HDD.out HAT.out (by repeat' first | exact Fr.refl _ _ | (with_reducible assumption) | refine Fr.drewN ?_ _ | refine Fr.drew ?_ | refine Fr.alloc ?_ _ | refine Fr.set ?_ ?_ _ | (intro _; rfl)) ?_
      intro k hk
      cases hk using Foot.elim with
      | blk => exact .blk
      | dir e => exact .safe e
      | safe e => exact .safe e
      | ch e => exact .ch e
      | chs i h1 e => exact .chs i h1 e
      | file e => exact .file e
      | row f hf e => exact .row f hf e

end Go.Proofs.Ytkhnggkkiefcdaa
