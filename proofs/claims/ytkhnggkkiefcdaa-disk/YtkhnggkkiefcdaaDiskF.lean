/-
  Package disk: Append.
-/
import Derived.Test.YtkhnggkkiefcdaaDiskE
import Derived.Deep.RegionLaw
namespace Go.Proofs.Ytkhnggkkiefcdaa
open Go.RowKit

/-- Bytes behind those that a file has. -/
theorem DRep.grow {w w' : World} {b : Nat} {L : DL} {M : DM} (h : DRep w b L M) {f : Nat} (hf : f ∈ M.ids) {v : Value} {bs : List UInt8}
    (hb : Blk w' f [v, .int .i64 (M.file f).safe] 54) (hv : w'.ownsRow 0 5 1 v ((M.file f).bytes ++ bs).length (u8s ((M.file f).bytes ++ bs)))
    (fr : Fr (fun k => k = f ∨ (L.fV f).ownBlock = some k) w w') (hat : ∀ k, v.ownBlock = some k → (L.fV f).ownBlock = some k ∨ w.heap.size ≤ k) :
    DRep w' b { L with fV := fun g => if g = f then v else L.fV g } (M.setFile f { M.file f with bytes := (M.file f).bytes ++ bs }) := by
  have far : ∀ {k : Nat} {c : List Value} {t : TypeId}, Blk w k c t → t ≠ 54 → t ≠ 5 → Blk w' k c t := fun ho h1 h2 =>
    ho.fr fr fun hk => by
      rcases hk with e | hk
      · exact ho.ne (h.files f hf) h1 e
      · exact own_ne (h.rows f hf) ho h2 hk
  have farO : ∀ {e : TypeId} {sz : Nat} {v : Value} {n : Nat} {xs : List Value}, w.ownsRow 0 e sz v n xs → e ≠ 54 → e ≠ 5 → w'.ownsRow 0 e sz v n xs := fun ho h1 h2 =>
    own_fr ho fr fun k e hk => by
      rcases hk with rfl | hk
      · exact own_ne ho (h.files k hf) (Ne.symm h1) e
      · exact own_ne' ho (h.rows f hf) h2 e hk
  exact {
    blk := far h.blk (by decide) (by decide)
    dir := farO h.dir (by decide) (by decide)
    safe := farO h.safe (by decide) (by decide)
    ch := farO h.ch (by decide) (by decide)
    chl := h.chl
    chs := fun i h1 h2 => farO (h.chs i h1 h2) (by decide) (by decide)
    files := fun g hg => by
      by_cases e : g = f
      · subst e; simpa [DM.setFile] using hb
      · have := (h.files g hg).fr fr (fun hk => by
          rcases hk with hk | hk
          · exact e hk
          · exact own_ne (h.rows f hf) (h.files g hg) (by decide) hk)
        simpa [DM.setFile, e] using this
    rows := fun g hg => by
      by_cases e : g = f
      · subst e; simpa [DM.setFile] using hv
      · have := own_fr (h.rows g hg) fr (fun k ek hk => by
          rcases hk with rfl | hk
          · exact own_ne (h.rows g hg) (h.files k hf) (by decide) ek
          · exact h.sep g hg f hf e k ek hk)
        simpa [DM.setFile, e] using this
    sep := fun g hg g' hg' e k hk => by
      by_cases e1 : g = f
      · subst e1
        have e2 : ¬ g' = g := fun h => e h.symm
        simp only [if_true, e2, if_false] at hk ⊢
        rcases hat k hk with h1 | h1
        · exact h.sep g hg g' hg' e k h1
        · intro h2
          have := own_lt (h.rows g' hg') h2
          omega
      · by_cases e2 : g' = f
        · subst e2
          simp only [e1, if_false, if_true] at hk ⊢
          intro h2
          rcases hat k h2 with h1 | h1
          · exact h.sep g hg g' hg' e k hk h1
          · have := own_lt (h.rows g hg) hk
            omega
        · simp only [e1, e2, if_false] at hk ⊢
          exact h.sep g hg g' hg' e k hk
    le := fun g hg => by
      by_cases e : g = f
      · subst e
        have := h.le g hg
        simp [DM.setFile]
        omega
      · simpa [DM.setFile, e] using h.le g hg
    inD := h.inD
    inS := h.inS
    inC := h.inC }

/-- How many of the bytes a call that begins so adds; none: it answers at once. -/
def DM.tries (M : DM) (n : Int) : Option Int :=
  if M.begins.1 = true then some n
  else if M.begins.2.2.dead = false ∧ 0 < n then some (M.part.tmod n)
  else none

def DM.left (M : DM) : Int := if IntKind.i64.wrap (M.room - M.used) < 0 then 0 else IntKind.i64.wrap (M.room - M.used)

def DM.append (M : DM) (name : ByteArray) (data : ByteArray) : Int × DM :=
  match M.dir.look name with
  | none => (11, M)
  | some f =>
    match M.tries data.size with
    | none => (M.begins.2.1, M.begins.2.2)
    | some n =>
      let M1 := M.begins.2.2
      if M1.left < n then
        (if M.begins.2.1 = 0 then 10 else M.begins.2.1,
          (if M.begins.2.1 = 0 then { M1 with refused := wrap64 (M1.refused + 1), fulls := wrap64 (M1.fulls + 1) } else M1).setFile f { M1.file f with bytes := (M1.file f).bytes ++ data.data.toList.take M1.left.toNat })
      else (M.begins.2.1, M1.setFile f { M1.file f with bytes := (M1.file f).bytes ++ data.data.toList.take n.toNat })

set_option maxHeartbeats 800000 in
theorem append_miss (name data : ByteArray) (w : World) (b : Nat) (L : DL) (M : DM) (h : DRep w b L M) (h1 : findI M.dir name = -1) :
    Calls Try.prog 12 #[.pointer (some ⟨b, 0, none⟩), .string name, .string data] w fun e w' =>
      e = .returned (.int .i64 11) ∧ DStep b L M w L M w' := by
  have hc := h.blk.cell
  simp only [DM.cells] at hc
  have HH := hide h
  have H1 := hide h1
  clear h h1
  go_enter Try.func12, Try.ntmps12
  go_wp2_with (go_at_call 22; refine (find_miss H1.out _ HH.out.dir).mono ?_; rintro e w1 ⟨rfl, hf⟩)
  go_ret
  exact ⟨rfl, DStep.look HH.out hf⟩

set_option maxHeartbeats 800000 in
theorem append_not (name data : ByteArray) (w : World) (b : Nat) (L : DL) (M : DM) (h : DRep w b L M) (k : Nat) (_hk : k < M.dir.length) (h1 : findI M.dir name = k) (hd : M.begins.1 = false) (hdd : M.begins.2.2.dead = true) (_hsz : data.size ≤ 1000000000000) :
    Calls Try.prog 12 #[.pointer (some ⟨b, 0, none⟩), .string name, .string data] w fun e w' =>
      e = .returned (.int .i64 M.begins.2.1) ∧ DStep b L M w L M.begins.2.2 w' := by
  have hc := h.blk.cell
  have hlen := own_le h.dir
  unfold maxLen at hlen
  simp only [DM.cells] at hc
  have HH := hide h
  have H1 := hide h1
  have HD := hide hd
  have HDD := hide hdd
  clear h h1 hd hdd
  go_enter Try.func12, Try.ntmps12
  go_wp2_with fail
  refine (find_hit H1.out _ HH.out.dir).mono ?_
  rintro e w1 ⟨rfl, hf⟩
  go_wp2_with fail
  have HB := begins_step w1 b L M (HH.out.fr hf (fun _ _ => id))
  rw [HD.out] at HB
  refine HB.mono ?_
  rintro e w2 ⟨rfl, hs⟩
  clear hc
  have hc := hs.rep.blk.cell
  simp only [DM.cells, HDD.out] at hc
  go_wp2
  go_ret
  exact ⟨rfl, (DStep.look HH.out hf).trans hs⟩

set_option maxHeartbeats 800000 in
theorem append_nil (name data : ByteArray) (w : World) (b : Nat) (L : DL) (M : DM) (h : DRep w b L M) (k : Nat) (_hk : k < M.dir.length) (h1 : findI M.dir name = k) (hd : M.begins.1 = false) (hdd : M.begins.2.2.dead = false) (_hsz : data.size = 0) :
    Calls Try.prog 12 #[.pointer (some ⟨b, 0, none⟩), .string name, .string data] w fun e w' =>
      e = .returned (.int .i64 M.begins.2.1) ∧ DStep b L M w L M.begins.2.2 w' := by
  have hc := h.blk.cell
  have hlen := own_le h.dir
  unfold maxLen at hlen
  simp only [DM.cells] at hc
  have HH := hide h
  have H1 := hide h1
  have HD := hide hd
  have HDD := hide hdd
  clear h h1 hd hdd
  go_enter Try.func12, Try.ntmps12
  go_wp2_with fail
  refine (find_hit H1.out _ HH.out.dir).mono ?_
  rintro e w1 ⟨rfl, hf⟩
  go_wp2_with fail
  have HB := begins_step w1 b L M (HH.out.fr hf (fun _ _ => id))
  rw [HD.out] at HB
  refine HB.mono ?_
  rintro e w2 ⟨rfl, hs⟩
  clear hc
  have hc := hs.rep.blk.cell
  simp only [DM.cells, HDD.out] at hc
  go_wp2
  go_ret
  exact ⟨rfl, (DStep.look HH.out hf).trans hs⟩

theorem used_room (w : World) (b : Nat) (L : DL) (M : DM) (w0 : World) (h : DRep w0 b L M) (hf : Fr Nil w0 w) :
    Calls Try.prog 20 #[.pointer (some ⟨b, 0, none⟩)] w fun e w' => e = .returned (.int .i64 M.used) ∧ w'.cell? ⟨b, 3, none⟩ = some (.int .i64 M.room) ∧ Fr Nil w0 w' := by
  refine (used_calls w b L M (h.fr hf (fun _ _ => id))).mono fun e w' ⟨h1, h2⟩ => ⟨h1, ?_, hf.trans h2⟩
  exact ((h.fr (hf.trans h2) (fun _ _ => id)).blk.cell 3)

/-- The bytes are there, and the file says so. -/
theorem grow_step {w w' : World} {b : Nat} {L : DL} {M : DM} (h : DRep w b L M) {f : Nat} (hf : f ∈ M.ids) {n : Option Addr} {c m : Nat} {bs : List UInt8} {v : Value}
    (hv : L.fV f = .slice n (M.file f).bytes.length c) (hm : m = bs.length)
    (ha : App w.drew (.slice n (M.file f).bytes.length c) 5 1 ((M.file f).bytes.length + m) (u8s (M.file f).bytes ++ u8s bs) v w') :
    ∃ L', DStep b L M w L' (M.setFile f { M.file f with bytes := (M.file f).bytes ++ bs }) (w'.setCell ⟨f, 0, none⟩ v) := by
  subst hm
  have hfr : Fr (fun k => k = f ∨ (L.fV f).ownBlock = some k) w (w'.setCell ⟨f, 0, none⟩ v) := by
    refine Fr.set (Fr.trans' (Fr.drew (Fr.refl _ w)) ha.fr ?_) (fun _ => .inl rfl) _
    intro k _ hk
    exact .inr (by rw [hv]; exact hk)
  have hb0 : Blk w' f [L.fV f, .int .i64 (M.file f).safe] 54 := by
    have h0 := (h.files f hf).drew
    refine h0.fr ha.fr ?_
    rw [← hv]
    exact own_ne (h.rows f hf) (h.files f hf) (by decide)
  have hb : Blk (w'.setCell ⟨f, 0, none⟩ v) f [v, .int .i64 (M.file f).safe] 54 := hb0.set 0 v
  have hat : ∀ k, v.ownBlock = some k → (L.fV f).ownBlock = some k ∨ w.heap.size ≤ k := by
    intro k hk
    rcases ha.at_ with h1 | h1
    · rw [h1] at hk; exact .inl (by rw [hv]; exact hk)
    · rw [h1] at hk; simp at hk; exact .inr (by omega)
  have hown : (w'.setCell ⟨f, 0, none⟩ v).ownsRow 0 5 1 v ((M.file f).bytes ++ bs).length (u8s ((M.file f).bytes ++ bs)) := by
    have h1 := ha.own
    have e1 : u8s ((M.file f).bytes ++ bs) = u8s (M.file f).bytes ++ u8s bs := by simp [u8s]
    have e2 : ((M.file f).bytes ++ bs).length = (M.file f).bytes.length + bs.length := by simp
    rw [e1, e2]
    exact own_fr h1 (S := fun k => k = f) (by repeat' first | exact Fr.refl _ _ | (with_reducible assumption) | refine Fr.drewN ?_ _ | refine Fr.drew ?_ | refine Fr.alloc ?_ _ | refine Fr.set ?_ ?_ _ | (intro _; rfl)) (fun k e hk => by subst hk; exact own_ne h1 hb0 (by decide) e)
  refine ⟨{ L with fV := fun g => if g = f then v else L.fV g }, ⟨h.grow hf hb hown hfr hat, hfr.mono ?_, ?_⟩⟩
  · intro k _ hk
    rcases hk with rfl | hk
    · exact .file hf
    · exact .row f hf hk
  · intro k hk
    cases hk using Foot.elim with
    | blk => exact .inl .blk
    | dir e => exact .inl (.dir e)
    | safe e => exact .inl (.safe e)
    | ch e => exact .inl (.ch e)
    | chs i h1 e => exact .inl (.chs i h1 e)
    | file e => exact .inl (.file e)
    | row g hg e =>
      by_cases hgf : g = f
      · subst hgf
        simp only [if_true] at e
        rcases hat k e with h1 | h1
        · exact .inl (.row g hg h1)
        · exact .inr h1
      · simp only [hgf, if_false] at e
        exact .inl (.row g hg e)

set_option maxHeartbeats 1600000 in
theorem append_fits (name data : ByteArray) (w : World) (b : Nat) (L : DL) (M : DM) (h : DRep w b L M) (k : Nat) (hk : k < M.dir.length) (h1 : findI M.dir name = k) (hsz : data.size ≤ 1000000000000) (hfl : (M.file M.dir[k].2).bytes.length ≤ 1000000000000)
    (hd : M.begins.1 = true) (hleft : ¬ M.begins.2.2.left < data.size) :
    Calls Try.prog 12 #[.pointer (some ⟨b, 0, none⟩), .string name, .string data] w fun e w' =>
      e = .returned (.int .i64 M.begins.2.1) ∧ ∃ L', DStep b L M w L' ((M.begins.2.2).setFile M.dir[k].2 { M.begins.2.2.file M.dir[k].2 with bytes := (M.begins.2.2.file M.dir[k].2).bytes ++ (data).data.toList }) w' := by
  have hc := h.blk.cell
  have hlen := own_le h.dir
  unfold maxLen at hlen
  simp only [DM.cells] at hc
  have HH := hide h
  have H1 := hide h1
  have HD := hide hd
  have HL := hide hleft
  clear hleft
  clear h h1 hd
  go_enter Try.func12, Try.ntmps12
  go_wp2_with fail
  refine (find_hit H1.out _ HH.out.dir).mono ?_
  rintro e w1 ⟨rfl, hf⟩
  go_wp2_with fail
  have HB := begins_step w1 b L M (HH.out.fr hf (fun _ _ => id))
  rw [HD.out] at HB
  refine HB.mono ?_
  rintro e w2 ⟨rfl, hs⟩
  clear hc HB
  have hc := hs.rep.blk.cell
  simp only [DM.cells] at hc
  have hcr := hs.rep.blk.cell 3
  simp only [DM.cells] at hcr
  simp at hcr
  have HS := hide hs
  clear hs
  go_wp2_with fail
  go_region_held3 (fun w' => w'.cell? ⟨b, 3, none⟩ = some (.int .i64 M.begins.2.2.room)) (first | go_keep | assumption) (first | (go_at_call 20; refine (used_room _ b L M.begins.2.2 w2 HS.out.rep (Fr.drew (Fr.refl _ _))).mono ?_; rintro e w3 ⟨rfl, hr3, hf3⟩))
  have HE : Hid ((if IntKind.i64.wrap (M.begins.2.2.room - M.begins.2.2.used) < 0 then 0 else IntKind.i64.wrap (M.begins.2.2.room - M.begins.2.2.used)) = M.begins.2.2.left) := rfl
  rw [HE.out]
  have HL' := HL.out
  generalize M.begins.2.2.left = left at HL'
  have h3 := HS.out.rep.fr hf3 (fun _ _ => id)
  have hk2 : k < M.begins.2.2.dir.length := by rw [M.begins_keeps.1]; exact hk
  have he : M.begins.2.2.dir[k].2 = M.dir[k].2 := by simp [M.begins_keeps.1]
  obtain ⟨g, cap, n, c, hv, hi, _, hp, hsv⟩ := h3.entry hk2
  rw [he] at hi hp hsv
  have hcf := (h3.files _ hi).cell
  have hff := (h3.files _ hi).frozen
  rw [hsv] at hcf
  clear hc hcr hr3
  have hc := h3.blk.cell
  simp only [DM.cells] at hc
  rw [hv] at hc
  have H3 := hide h3
  have HSV := hide hsv
  clear h3 hsv hv
  have hrow := H3.out.rows _ hi
  rw [HSV.out] at hrow
  have HROW := hide hrow
  have hfl' : (M.begins.2.2.file M.dir[k].2).bytes.length ≤ 1000000000000 := by rw [M.begins_keeps.2.2.2.1]; exact hfl
  have hss : (data).size ≤ 1000000000000 := by exact hsz
  have q1 : (M.begins.2.2.file M.dir[k].2).bytes.length + (data).size ≤ maxLen := by unfold maxLen; omega
  have q2 : (M.begins.2.2.file M.dir[k].2).bytes.length + (data).size ≤ 140737488355328 := by omega
  have Q1 := hide q1
  have Q2 := hide q2
  have HKP : Hid (∀ w4 : World, Fr (fun j => (Value.slice n (M.begins.2.2.file M.dir[k].2).bytes.length c).ownBlock = some j) w3.drew w4 → Blk w4 M.dir[k].2 [.slice n (M.begins.2.2.file M.dir[k].2).bytes.length c, .int .i64 (M.begins.2.2.file M.dir[k].2).safe] 54) := by
    intro w4 hf4
    have h0 := H3.out.files _ hi
    rw [HSV.out] at h0
    exact (h0.drew).fr hf4 (own_ne hrow h0 (by decide))
  clear q1 q2 hrow hss
  go_wp2_with fail
  go_region_law
    ((refine step_app (by rfl) _ _ _ _ (by rfl) _ _ (by rfl) (by rfl) (run_app_string (w := w3.drew) 52 9 _ 5 Try.underlying52 Try.underlying9 info_u8 _ _ _ HROW.out (data) Q1.out Q2.out) ?_; intro v4 w4 ha; obtain ⟨a4, c4, hv4⟩ := own_form ha.own; have hb4 := HKP.out w4 ha.fr; have hc4 := hb4.cell 0; have hf4 := hb4.frozen 0; have HA := hide ha; clear ha; subst hv4))
  go_wp2
  go_ret
  obtain ⟨L', hst⟩ := grow_step H3.out hi HSV.out (by simp) HA.out
  exact ⟨rfl, L', (DStep.look HH.out hf).trans (HS.out.trans ((DStep.look HS.out.rep hf3).trans hst))⟩

set_option maxHeartbeats 1600000 in
theorem append_full9 (name data : ByteArray) (w : World) (b : Nat) (L : DL) (M : DM) (h : DRep w b L M) (k : Nat) (hk : k < M.dir.length) (h1 : findI M.dir name = k) (hsz : data.size ≤ 1000000000000) (hfl : (M.file M.dir[k].2).bytes.length ≤ 1000000000000)
    (hd : M.begins.1 = true) (he0 : M.begins.2.1 = 9) (m : Nat) (hm : M.begins.2.2.left = m) (hleft : (m : Int) < data.size) :
    Calls Try.prog 12 #[.pointer (some ⟨b, 0, none⟩), .string name, .string data] w fun e w' =>
      e = .returned (.int .i64 9) ∧ ∃ L', DStep b L M w L' ((M.begins.2.2).setFile M.dir[k].2 { M.begins.2.2.file M.dir[k].2 with bytes := (M.begins.2.2.file M.dir[k].2).bytes ++ (data.extract 0 m).data.toList }) w' := by
  have hc := h.blk.cell
  have hlen := own_le h.dir
  unfold maxLen at hlen
  simp only [DM.cells] at hc
  have HH := hide h
  have H1 := hide h1
  have HD := hide hd
  have HL := hide hleft
  have HE0 := hide he0
  have HM := hide hm
  clear hleft he0 hm
  clear h h1 hd
  go_enter Try.func12, Try.ntmps12
  go_wp2_with fail
  refine (find_hit H1.out _ HH.out.dir).mono ?_
  rintro e w1 ⟨rfl, hf⟩
  go_wp2_with fail
  have HB := begins_step w1 b L M (HH.out.fr hf (fun _ _ => id))
  rw [HD.out] at HB
  rw [HE0.out] at HB
  refine HB.mono ?_
  rintro e w2 ⟨rfl, hs⟩
  clear hc HB
  have hc := hs.rep.blk.cell
  simp only [DM.cells] at hc
  have hcr := hs.rep.blk.cell 3
  simp only [DM.cells] at hcr
  simp at hcr
  have HS := hide hs
  clear hs
  go_wp2_with fail
  go_region_held3 (fun w' => w'.cell? ⟨b, 3, none⟩ = some (.int .i64 M.begins.2.2.room)) (first | go_keep | assumption) (first | (go_at_call 20; refine (used_room _ b L M.begins.2.2 w2 HS.out.rep (Fr.drew (Fr.refl _ _))).mono ?_; rintro e w3 ⟨rfl, hr3, hf3⟩))
  have HE : Hid ((if IntKind.i64.wrap (M.begins.2.2.room - M.begins.2.2.used) < 0 then 0 else IntKind.i64.wrap (M.begins.2.2.room - M.begins.2.2.used)) = M.begins.2.2.left) := rfl
  rw [HE.out]
  rw [HM.out]
  have HL' := HL.out
  have hmn : m ≤ data.size := by omega
  have h3 := HS.out.rep.fr hf3 (fun _ _ => id)
  have hk2 : k < M.begins.2.2.dir.length := by rw [M.begins_keeps.1]; exact hk
  have he : M.begins.2.2.dir[k].2 = M.dir[k].2 := by simp [M.begins_keeps.1]
  obtain ⟨g, cap, n, c, hv, hi, _, hp, hsv⟩ := h3.entry hk2
  rw [he] at hi hp hsv
  have hcf := (h3.files _ hi).cell
  have hff := (h3.files _ hi).frozen
  rw [hsv] at hcf
  clear hc hcr hr3
  have hc := h3.blk.cell
  simp only [DM.cells] at hc
  rw [hv] at hc
  have H3 := hide h3
  have HSV := hide hsv
  clear h3 hsv hv
  have hrow := H3.out.rows _ hi
  rw [HSV.out] at hrow
  have HROW := hide hrow
  have hfl' : (M.begins.2.2.file M.dir[k].2).bytes.length ≤ 1000000000000 := by rw [M.begins_keeps.2.2.2.1]; exact hfl
  have hss : (data.extract 0 m).size ≤ 1000000000000 := by rw [ByteArray.size_extract]; omega
  have q1 : (M.begins.2.2.file M.dir[k].2).bytes.length + (data.extract 0 m).size ≤ maxLen := by unfold maxLen; omega
  have q2 : (M.begins.2.2.file M.dir[k].2).bytes.length + (data.extract 0 m).size ≤ 140737488355328 := by omega
  have Q1 := hide q1
  have Q2 := hide q2
  have HKP : Hid (∀ w4 : World, Fr (fun j => (Value.slice n (M.begins.2.2.file M.dir[k].2).bytes.length c).ownBlock = some j) w3.drew w4 → Blk w4 M.dir[k].2 [.slice n (M.begins.2.2.file M.dir[k].2).bytes.length c, .int .i64 (M.begins.2.2.file M.dir[k].2).safe] 54) := by
    intro w4 hf4
    have h0 := H3.out.files _ hi
    rw [HSV.out] at h0
    exact (h0.drew).fr hf4 (own_ne hrow h0 (by decide))
  clear q1 q2 hrow hss
  go_wp2_with fail
  go_region_law
    ((refine step_app (by rfl) _ _ _ _ (by rfl) _ _ (by rfl) (by rfl) (run_app_string (w := w3.drew) 52 9 _ 5 Try.underlying52 Try.underlying9 info_u8 _ _ _ HROW.out (data.extract 0 m) Q1.out Q2.out) ?_; intro v4 w4 ha; obtain ⟨a4, c4, hv4⟩ := own_form ha.own; have hb4 := HKP.out w4 ha.fr; have hc4 := hb4.cell 0; have hf4 := hb4.frozen 0; have HA := hide ha; clear ha; subst hv4))
  go_wp2
  go_ret
  obtain ⟨L', hst⟩ := grow_step H3.out hi HSV.out (by simp) HA.out
  have hex : (data.extract 0 m).size = m := by rw [ByteArray.size_extract]; omega
  rw [hex] at hst
  exact ⟨rfl, L', (DStep.look HH.out hf).trans (HS.out.trans ((DStep.look HS.out.rep hf3).trans hst))⟩

set_option maxHeartbeats 1600000 in
theorem append_failfull (name data : ByteArray) (w : World) (b : Nat) (L : DL) (M : DM) (h : DRep w b L M) (k : Nat) (hk : k < M.dir.length) (h1 : findI M.dir name = k) (hsz : data.size ≤ 1000000000000) (hfl : (M.file M.dir[k].2).bytes.length ≤ 1000000000000)
    (hd : M.begins.1 = false) (he0 : M.begins.2.1 = 9) (hdd : M.begins.2.2.dead = false) (p q : Nat) (hpt : M.begins.2.2.part = p) (hq : (p : Int).tmod data.size = q) (hqs : q < data.size) (m : Nat) (hm : M.begins.2.2.left = m) (hleft : (m : Int) < q) :
    Calls Try.prog 12 #[.pointer (some ⟨b, 0, none⟩), .string name, .string data] w fun e w' =>
      e = .returned (.int .i64 9) ∧ ∃ L', DStep b L M w L' ((M.begins.2.2).setFile M.dir[k].2 { M.begins.2.2.file M.dir[k].2 with bytes := (M.begins.2.2.file M.dir[k].2).bytes ++ (data.extract 0 m).data.toList }) w' := by
  have hc := h.blk.cell
  have hlen := own_le h.dir
  unfold maxLen at hlen
  simp only [DM.cells] at hc
  have HH := hide h
  have H1 := hide h1
  have HD := hide hd
  have HE0 := hide he0
  have HDD := hide hdd
  have HPT := hide hpt
  have HL := hide hleft
  have hdz : ((data.size : Int) == 0) = false := by rw [beq_eq_false_iff_ne]; omega
  have hdp : (0 : Int) < data.size := by omega
  clear he0 hdd hpt hleft
  have HM := hide hm
  clear hm
  clear h h1 hd
  go_enter Try.func12, Try.ntmps12
  go_wp2_with fail
  refine (find_hit H1.out _ HH.out.dir).mono ?_
  rintro e w1 ⟨rfl, hf⟩
  go_wp2_with fail
  have HB := begins_step w1 b L M (HH.out.fr hf (fun _ _ => id))
  rw [HD.out] at HB
  rw [HE0.out] at HB
  refine HB.mono ?_
  rintro e w2 ⟨rfl, hs⟩
  clear hc HB
  have hc := hs.rep.blk.cell
  simp only [DM.cells, HDD.out, HPT.out] at hc
  have hcr := hs.rep.blk.cell 3
  simp only [DM.cells] at hcr
  simp at hcr
  have HS := hide hs
  clear hs
  go_wp2_with fail
  go_region_held3 (fun w' => w'.cell? ⟨b, 3, none⟩ = some (.int .i64 M.begins.2.2.room)) (first | go_keep | assumption) (first | (go_at_call 20; refine (used_room _ b L M.begins.2.2 w2 HS.out.rep (Fr.drew (Fr.refl _ _))).mono ?_; rintro e w3 ⟨rfl, hr3, hf3⟩))
  have HE : Hid ((if IntKind.i64.wrap (M.begins.2.2.room - M.begins.2.2.used) < 0 then 0 else IntKind.i64.wrap (M.begins.2.2.room - M.begins.2.2.used)) = M.begins.2.2.left) := rfl
  rw [HE.out]
  rw [HM.out]
  have HL' := HL.out
  have hmn : m ≤ data.size := by omega
  have h3 := HS.out.rep.fr hf3 (fun _ _ => id)
  have hk2 : k < M.begins.2.2.dir.length := by rw [M.begins_keeps.1]; exact hk
  have he : M.begins.2.2.dir[k].2 = M.dir[k].2 := by simp [M.begins_keeps.1]
  obtain ⟨g, cap, n, c, hv, hi, _, hp, hsv⟩ := h3.entry hk2
  rw [he] at hi hp hsv
  have hcf := (h3.files _ hi).cell
  have hff := (h3.files _ hi).frozen
  rw [hsv] at hcf
  clear hc hcr hr3
  have hc := h3.blk.cell
  simp only [DM.cells] at hc
  rw [hv] at hc
  have H3 := hide h3
  have HSV := hide hsv
  clear h3 hsv hv
  have hrow := H3.out.rows _ hi
  rw [HSV.out] at hrow
  have HROW := hide hrow
  have hfl' : (M.begins.2.2.file M.dir[k].2).bytes.length ≤ 1000000000000 := by rw [M.begins_keeps.2.2.2.1]; exact hfl
  have hss : (data.extract 0 m).size ≤ 1000000000000 := by rw [ByteArray.size_extract]; omega
  have q1 : (M.begins.2.2.file M.dir[k].2).bytes.length + (data.extract 0 m).size ≤ maxLen := by unfold maxLen; omega
  have q2 : (M.begins.2.2.file M.dir[k].2).bytes.length + (data.extract 0 m).size ≤ 140737488355328 := by omega
  have Q1 := hide q1
  have Q2 := hide q2
  have HKP : Hid (∀ w4 : World, Fr (fun j => (Value.slice n (M.begins.2.2.file M.dir[k].2).bytes.length c).ownBlock = some j) w3.drew w4 → Blk w4 M.dir[k].2 [.slice n (M.begins.2.2.file M.dir[k].2).bytes.length c, .int .i64 (M.begins.2.2.file M.dir[k].2).safe] 54) := by
    intro w4 hf4
    have h0 := H3.out.files _ hi
    rw [HSV.out] at h0
    exact (h0.drew).fr hf4 (own_ne hrow h0 (by decide))
  clear q1 q2 hrow hss
  go_wp2_with fail
  go_region_law
    ((refine step_app (by rfl) _ _ _ _ (by rfl) _ _ (by rfl) (by rfl) (run_app_string (w := w3.drew) 52 9 _ 5 Try.underlying52 Try.underlying9 info_u8 _ _ _ HROW.out (data.extract 0 m) Q1.out Q2.out) ?_; intro v4 w4 ha; obtain ⟨a4, c4, hv4⟩ := own_form ha.own; have hb4 := HKP.out w4 ha.fr; have hc4 := hb4.cell 0; have hf4 := hb4.frozen 0; have HA := hide ha; clear ha; subst hv4))
  go_wp2
  go_ret
  obtain ⟨L', hst⟩ := grow_step H3.out hi HSV.out (by simp) HA.out
  have hex : (data.extract 0 m).size = m := by rw [ByteArray.size_extract]; omega
  rw [hex] at hst
  exact ⟨rfl, L', (DStep.look HH.out hf).trans (HS.out.trans ((DStep.look HS.out.rep hf3).trans hst))⟩

set_option maxHeartbeats 1600000 in
theorem append_failfits (name data : ByteArray) (w : World) (b : Nat) (L : DL) (M : DM) (h : DRep w b L M) (k : Nat) (hk : k < M.dir.length) (h1 : findI M.dir name = k) (hsz : data.size ≤ 1000000000000) (hfl : (M.file M.dir[k].2).bytes.length ≤ 1000000000000)
    (hd : M.begins.1 = false) (he0 : M.begins.2.1 = 9) (hdd : M.begins.2.2.dead = false) (p q : Nat) (hpt : M.begins.2.2.part = p) (hq : (p : Int).tmod data.size = q) (hqs : q < data.size) (hleft : ¬ M.begins.2.2.left < q) :
    Calls Try.prog 12 #[.pointer (some ⟨b, 0, none⟩), .string name, .string data] w fun e w' =>
      e = .returned (.int .i64 9) ∧ ∃ L', DStep b L M w L' ((M.begins.2.2).setFile M.dir[k].2 { M.begins.2.2.file M.dir[k].2 with bytes := (M.begins.2.2.file M.dir[k].2).bytes ++ (data.extract 0 q).data.toList }) w' := by
  have hc := h.blk.cell
  have hlen := own_le h.dir
  unfold maxLen at hlen
  simp only [DM.cells] at hc
  have HH := hide h
  have H1 := hide h1
  have HD := hide hd
  have HE0 := hide he0
  have HDD := hide hdd
  have HPT := hide hpt
  have HL := hide hleft
  have hdz : ((data.size : Int) == 0) = false := by rw [beq_eq_false_iff_ne]; omega
  have hdp : (0 : Int) < data.size := by omega
  clear he0 hdd hpt hleft
  clear h h1 hd
  go_enter Try.func12, Try.ntmps12
  go_wp2_with fail
  refine (find_hit H1.out _ HH.out.dir).mono ?_
  rintro e w1 ⟨rfl, hf⟩
  go_wp2_with fail
  have HB := begins_step w1 b L M (HH.out.fr hf (fun _ _ => id))
  rw [HD.out] at HB
  rw [HE0.out] at HB
  refine HB.mono ?_
  rintro e w2 ⟨rfl, hs⟩
  clear hc HB
  have hc := hs.rep.blk.cell
  simp only [DM.cells, HDD.out, HPT.out] at hc
  have hcr := hs.rep.blk.cell 3
  simp only [DM.cells] at hcr
  simp at hcr
  have HS := hide hs
  clear hs
  go_wp2_with fail
  go_region_held3 (fun w' => w'.cell? ⟨b, 3, none⟩ = some (.int .i64 M.begins.2.2.room)) (first | go_keep | assumption) (first | (go_at_call 20; refine (used_room _ b L M.begins.2.2 w2 HS.out.rep (Fr.drew (Fr.refl _ _))).mono ?_; rintro e w3 ⟨rfl, hr3, hf3⟩))
  have HE : Hid ((if IntKind.i64.wrap (M.begins.2.2.room - M.begins.2.2.used) < 0 then 0 else IntKind.i64.wrap (M.begins.2.2.room - M.begins.2.2.used)) = M.begins.2.2.left) := rfl
  rw [HE.out]
  have HL' := HL.out
  have hmn : q ≤ data.size := by omega
  generalize M.begins.2.2.left = left at HL'
  have h3 := HS.out.rep.fr hf3 (fun _ _ => id)
  have hk2 : k < M.begins.2.2.dir.length := by rw [M.begins_keeps.1]; exact hk
  have he : M.begins.2.2.dir[k].2 = M.dir[k].2 := by simp [M.begins_keeps.1]
  obtain ⟨g, cap, n, c, hv, hi, _, hp, hsv⟩ := h3.entry hk2
  rw [he] at hi hp hsv
  have hcf := (h3.files _ hi).cell
  have hff := (h3.files _ hi).frozen
  rw [hsv] at hcf
  clear hc hcr hr3
  have hc := h3.blk.cell
  simp only [DM.cells] at hc
  rw [hv] at hc
  have H3 := hide h3
  have HSV := hide hsv
  clear h3 hsv hv
  have hrow := H3.out.rows _ hi
  rw [HSV.out] at hrow
  have HROW := hide hrow
  have hfl' : (M.begins.2.2.file M.dir[k].2).bytes.length ≤ 1000000000000 := by rw [M.begins_keeps.2.2.2.1]; exact hfl
  have hss : (data.extract 0 q).size ≤ 1000000000000 := by rw [ByteArray.size_extract]; omega
  have q1 : (M.begins.2.2.file M.dir[k].2).bytes.length + (data.extract 0 q).size ≤ maxLen := by unfold maxLen; omega
  have q2 : (M.begins.2.2.file M.dir[k].2).bytes.length + (data.extract 0 q).size ≤ 140737488355328 := by omega
  have Q1 := hide q1
  have Q2 := hide q2
  have HKP : Hid (∀ w4 : World, Fr (fun j => (Value.slice n (M.begins.2.2.file M.dir[k].2).bytes.length c).ownBlock = some j) w3.drew w4 → Blk w4 M.dir[k].2 [.slice n (M.begins.2.2.file M.dir[k].2).bytes.length c, .int .i64 (M.begins.2.2.file M.dir[k].2).safe] 54) := by
    intro w4 hf4
    have h0 := H3.out.files _ hi
    rw [HSV.out] at h0
    exact (h0.drew).fr hf4 (own_ne hrow h0 (by decide))
  clear q1 q2 hrow hss
  go_wp2_with fail
  go_region_law
    ((refine step_app (by rfl) _ _ _ _ (by rfl) _ _ (by rfl) (by rfl) (run_app_string (w := w3.drew) 52 9 _ 5 Try.underlying52 Try.underlying9 info_u8 _ _ _ HROW.out (data.extract 0 q) Q1.out Q2.out) ?_; intro v4 w4 ha; obtain ⟨a4, c4, hv4⟩ := own_form ha.own; have hb4 := HKP.out w4 ha.fr; have hc4 := hb4.cell 0; have hf4 := hb4.frozen 0; have HA := hide ha; clear ha; subst hv4))
  go_wp2
  go_ret
  obtain ⟨L', hst⟩ := grow_step H3.out hi HSV.out (by simp) HA.out
  have hex : (data.extract 0 q).size = q := by rw [ByteArray.size_extract]; omega
  rw [hex] at hst
  exact ⟨rfl, L', (DStep.look HH.out hf).trans (HS.out.trans ((DStep.look HS.out.rep hf3).trans hst))⟩

set_option maxHeartbeats 1600000 in
theorem append_full0 (name data : ByteArray) (w : World) (b : Nat) (L : DL) (M : DM) (h : DRep w b L M) (k : Nat) (hk : k < M.dir.length) (h1 : findI M.dir name = k) (hsz : data.size ≤ 1000000000000) (hfl : (M.file M.dir[k].2).bytes.length ≤ 1000000000000)
    (hd : M.begins.1 = true) (he0 : M.begins.2.1 = 0) (m : Nat) (hm : M.begins.2.2.left = m) (hleft : (m : Int) < data.size) :
    Calls Try.prog 12 #[.pointer (some ⟨b, 0, none⟩), .string name, .string data] w fun e w' =>
      e = .returned (.int .i64 10) ∧ ∃ L', DStep b L M w L' (({ M.begins.2.2 with refused := wrap64 (M.begins.2.2.refused + 1), fulls := wrap64 (M.begins.2.2.fulls + 1) } : DM).setFile M.dir[k].2 { M.begins.2.2.file M.dir[k].2 with bytes := (M.begins.2.2.file M.dir[k].2).bytes ++ (data.extract 0 m).data.toList }) w' := by
  have hc := h.blk.cell
  have hlen := own_le h.dir
  unfold maxLen at hlen
  simp only [DM.cells] at hc
  have HH := hide h
  have H1 := hide h1
  have HD := hide hd
  have HL := hide hleft
  have HE0 := hide he0
  have HM := hide hm
  clear hleft he0 hm
  clear h h1 hd
  go_enter Try.func12, Try.ntmps12
  go_wp2_with fail
  refine (find_hit H1.out _ HH.out.dir).mono ?_
  rintro e w1 ⟨rfl, hf⟩
  go_wp2_with fail
  have HB := begins_step w1 b L M (HH.out.fr hf (fun _ _ => id))
  rw [HD.out] at HB
  rw [HE0.out] at HB
  refine HB.mono ?_
  rintro e w2 ⟨rfl, hs⟩
  clear hc HB
  have hc := hs.rep.blk.cell
  simp only [DM.cells] at hc
  have hcr := hs.rep.blk.cell 3
  simp only [DM.cells] at hcr
  simp at hcr
  have HS := hide hs
  clear hs
  go_wp2_with fail
  go_region_held3 (fun w' => w'.cell? ⟨b, 3, none⟩ = some (.int .i64 M.begins.2.2.room)) (first | go_keep | assumption) (first | (go_at_call 20; refine (used_room _ b L M.begins.2.2 w2 HS.out.rep (Fr.drew (Fr.refl _ _))).mono ?_; rintro e w3 ⟨rfl, hr3, hf3⟩))
  have HE : Hid ((if IntKind.i64.wrap (M.begins.2.2.room - M.begins.2.2.used) < 0 then 0 else IntKind.i64.wrap (M.begins.2.2.room - M.begins.2.2.used)) = M.begins.2.2.left) := rfl
  rw [HE.out]
  rw [HM.out]
  have HL' := HL.out
  have hmn : m ≤ data.size := by omega
  have h3 := HS.out.rep.fr hf3 (fun _ _ => id)
  have hc3 := h3.blk.cell
  have hf3' := h3.blk.frozen
  simp only [DM.cells] at hc3
  clear hc hcr hr3
  have hk2 : k < M.begins.2.2.dir.length := by rw [M.begins_keeps.1]; exact hk
  have he : M.begins.2.2.dir[k].2 = M.dir[k].2 := by simp [M.begins_keeps.1]
  have h4 : DRep ((w3.setCell ⟨b, 8, none⟩ (.int .i64 (wrap64 (M.begins.2.2.refused + 1)))).setCell ⟨b, 9, none⟩ (.int .i64 (wrap64 (M.begins.2.2.fulls + 1)))) b L ({ M.begins.2.2 with refused := wrap64 (M.begins.2.2.refused + 1), fulls := wrap64 (M.begins.2.2.fulls + 1) } : DM) :=
    h3.own ((h3.blk.set 8 _).set 9 _) (by repeat' first | exact Fr.refl _ _ | (with_reducible assumption) | refine Fr.drewN ?_ _ | refine Fr.drew ?_ | refine Fr.alloc ?_ _ | refine Fr.set ?_ ?_ _ | (intro _; rfl)) rfl rfl rfl rfl rfl
  obtain ⟨g, cap, n, c, hv, hi, _, hp, hsv⟩ := h3.entry hk2
  rw [he] at hi hp hsv
  have hcf := (h3.files _ hi).cell
  have hff := (h3.files _ hi).frozen
  rw [hsv] at hcf
  rw [hv] at hc3
  have hne1 : M.dir[k].2 ≠ b := (h3.files _ hi).ne h3.blk (by decide)
  have hne2 : g ≠ b := fun e => own_ne h3.dir h3.blk (by decide) (by rw [hv, ← e]; rfl)
  have H3 := hide h4
  have HSV := hide hsv
  have H33 := hide h3
  clear h4 h3 hsv hv
  have hrow := H3.out.rows _ hi
  rw [HSV.out] at hrow
  have HROW := hide hrow
  have hfl' : (M.begins.2.2.file M.dir[k].2).bytes.length ≤ 1000000000000 := by rw [M.begins_keeps.2.2.2.1]; exact hfl
  have hss : (data.extract 0 m).size ≤ 1000000000000 := by rw [ByteArray.size_extract]; omega
  have q1 : (M.begins.2.2.file M.dir[k].2).bytes.length + (data.extract 0 m).size ≤ maxLen := by unfold maxLen; omega
  have q2 : (M.begins.2.2.file M.dir[k].2).bytes.length + (data.extract 0 m).size ≤ 140737488355328 := by omega
  have Q1 := hide q1
  have Q2 := hide q2
  have HKP : Hid (∀ w4 : World, Fr (fun j => (Value.slice n (M.begins.2.2.file M.dir[k].2).bytes.length c).ownBlock = some j) ((w3.setCell ⟨b, 8, none⟩ (.int .i64 (wrap64 (M.begins.2.2.refused + 1)))).setCell ⟨b, 9, none⟩ (.int .i64 (wrap64 (M.begins.2.2.fulls + 1)))).drew w4 → Blk w4 M.dir[k].2 [.slice n (M.begins.2.2.file M.dir[k].2).bytes.length c, .int .i64 (M.begins.2.2.file M.dir[k].2).safe] 54) := by
    intro w4 hf4
    have h0 := H3.out.files _ hi
    rw [HSV.out] at h0
    exact (h0.drew).fr hf4 (own_ne hrow h0 (by decide))
  clear q1 q2 hrow hss
  go_wp2_with fail
  go_region_law
    ((refine step_app (by rfl) _ _ _ _ (by rfl) _ _ (by rfl) (by rfl) (run_app_string (w := ((w3.setCell ⟨b, 8, none⟩ (.int .i64 (wrap64 (M.begins.2.2.refused + 1)))).setCell ⟨b, 9, none⟩ (.int .i64 (wrap64 (M.begins.2.2.fulls + 1)))).drew) 52 9 _ 5 Try.underlying52 Try.underlying9 info_u8 _ _ _ HROW.out (data.extract 0 m) Q1.out Q2.out) ?_; intro v4 w4 ha; obtain ⟨a4, c4, hv4⟩ := own_form ha.own; have hb4 := HKP.out w4 ha.fr; have hc4 := hb4.cell 0; have hf4 := hb4.frozen 0; have HA := hide ha; clear ha; subst hv4))
  go_wp2
  go_ret
  obtain ⟨L', hst⟩ := grow_step H3.out hi HSV.out (by simp) HA.out
  have hex : (data.extract 0 m).size = m := by rw [ByteArray.size_extract]; omega
  rw [hex] at hst
  have hst0 : DStep b L M.begins.2.2 w3 L ({ M.begins.2.2 with refused := wrap64 (M.begins.2.2.refused + 1), fulls := wrap64 (M.begins.2.2.fulls + 1) } : DM) ((w3.setCell ⟨b, 8, none⟩ (.int .i64 (wrap64 (M.begins.2.2.refused + 1)))).setCell ⟨b, 9, none⟩ (.int .i64 (wrap64 (M.begins.2.2.fulls + 1)))) := by
    exact .own (H33.out.own ((H33.out.blk.set 8 _).set 9 _) (by repeat' first | exact Fr.refl _ _ | (with_reducible assumption) | refine Fr.drewN ?_ _ | refine Fr.drew ?_ | refine Fr.alloc ?_ _ | refine Fr.set ?_ ?_ _ | (intro _; rfl)) rfl rfl rfl rfl rfl) (by repeat' first | exact Fr.refl _ _ | (with_reducible assumption) | refine Fr.drewN ?_ _ | refine Fr.drew ?_ | refine Fr.alloc ?_ _ | refine Fr.set ?_ ?_ _ | (intro _; rfl)) rfl
  exact ⟨rfl, L', (DStep.look HH.out hf).trans (HS.out.trans ((DStep.look HS.out.rep hf3).trans (hst0.trans hst)))⟩

end Go.Proofs.Ytkhnggkkiefcdaa
