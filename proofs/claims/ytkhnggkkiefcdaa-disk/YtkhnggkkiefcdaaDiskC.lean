/-
  Package disk: what turns it: SyncDir, Sync, turned, Create.
-/
import Derived.Test.YtkhnggkkiefcdaaDiskB
namespace Go.Proofs.Ytkhnggkkiefcdaa
open Go.RowKit

/-- From one disk to the next: what was turned lies within the old one's blocks; the new one stands on these and on new ones. -/
structure DStep (b : Nat) (L : DL) (M : DM) (w : World) (L' : DL) (M' : DM) (w' : World) : Prop where
  rep : DRep w' b L' M'
  fr : Fr (Foot b L M) w w'
  foot : ∀ k, Foot b L' M' k → Foot b L M k ∨ w.heap.size ≤ k

theorem DStep.trans {b : Nat} {L1 L2 L3 : DL} {M1 M2 M3 : DM} {w1 w2 w3 : World} (h : DStep b L1 M1 w1 L2 M2 w2) (k : DStep b L2 M2 w2 L3 M3 w3) : DStep b L1 M1 w1 L3 M3 w3 where
  rep := k.rep
  fr := h.fr.trans' k.fr (fun i hi hf => by
    rcases h.foot i hf with h' | h'
    · exact h'
    · omega)
  foot := fun i hi => by
    rcases k.foot i hi with h' | h'
    · exact h.foot i h'
    · exact .inr (Nat.le_trans h.fr.size h')

/-- A step that leaves the layout and what lies in the directory as it was: the own block alone was turned. -/
theorem DStep.own {b : Nat} {L : DL} {M M' : DM} {w w' : World} (h : DRep w' b L M') (f : Fr (fun k => k = b) w w')
    (e1 : M'.ids = M.ids) : DStep b L M w L M' w' where
  rep := h
  fr := f.mono (fun k _ e => by subst e; exact .blk)
  foot := fun k hk => .inl (by
    cases hk using Foot.elim with
    | blk => exact .blk
    | dir e => exact .dir e
    | safe e => exact .safe e
    | ch e => exact .ch e
    | chs i h1 e => exact .chs i h1 e
    | file e => exact .file (e1 ▸ e)
    | row f hf e => exact .row f (e1 ▸ hf) e)

theorem DM.begins_keeps (M : DM) : M.begins.2.2.dir = M.dir ∧ M.begins.2.2.safe = M.safe ∧ M.begins.2.2.chs = M.chs ∧ M.begins.2.2.file = M.file ∧ M.begins.2.2.ids = M.ids ∧
    M.begins.2.2.room = M.room ∧ M.begins.2.2.part = M.part ∧ M.begins.2.2.fulls = M.fulls ∧ M.begins.2.2.cut = M.cut ∧ M.begins.2.2.fail = M.fail := by
  unfold DM.begins; dsimp only; (repeat' split) <;> exact ⟨rfl, rfl, rfl, rfl, rfl, rfl, rfl, rfl, rfl, rfl⟩

theorem DM.begins_err (M : DM) : M.begins.2.1 = 0 ∨ M.begins.2.1 = 9 := by
  unfold DM.begins; dsimp only; (repeat' split) <;> simp

theorem begins_step (w : World) (b : Nat) (L : DL) (M : DM) (h : DRep w b L M) :
    Calls Try.prog 23 #[.pointer (some ⟨b, 0, none⟩)] w fun e w' =>
      e = .returned (.tuple #[.bool M.begins.1, .int .i64 M.begins.2.1]) ∧ DStep b L M w L M.begins.2.2 w' :=
  (begins_calls w b L M h).mono fun _ _ ⟨h1, h2, h3⟩ => ⟨h1, .own h2 h3 M.begins_keeps.2.2.2.2.1⟩

def DM.syncDir (M : DM) : Int × DM :=
  (M.begins.2.1, if M.begins.2.1 = 0 then { M.begins.2.2 with safe := M.begins.2.2.dir, chs := [] } else M.begins.2.2)

/-- Behind SyncDir. -/
theorem DRep.synced {w w' : World} {b : Nat} {L : DL} {M : DM} (h : DRep w b L M)
    (hb : Blk w' b (({ M with safe := M.dir, chs := [] } : DM).cells { L with safeV := L.dirV, chV := .slice none 0 0, chVs := [] }) 45) (f : Fr (fun k => k = b) w w') :
    DRep w' b { L with safeV := L.dirV, chV := .slice none 0 0, chVs := [] } { M with safe := M.dir, chs := [] } where
  blk := hb
  dir := own_fr h.dir f fun _ e hk => by subst hk; exact own_ne h.dir h.blk (by decide) e
  safe := own_fr h.dir f fun _ e hk => by subst hk; exact own_ne h.dir h.blk (by decide) e
  ch := World.ownsRow_nil w' 0 _ _
  chl := rfl
  chs := fun i h1 => absurd h1 (Nat.not_lt_zero _)
  files := fun g hg => (h.files g hg).fr f ((h.files g hg).ne h.blk (by decide))
  rows := fun g hg => own_fr (h.rows g hg) f fun _ e hk => by subst hk; exact own_ne (h.rows g hg) h.blk (by decide) e
  sep := h.sep
  le := h.le
  inD := h.inD
  inS := h.inD
  inC := fun d hd => by cases hd

set_option maxHeartbeats 800000 in
theorem syncDir_calls (w : World) (b : Nat) (L : DL) (M : DM) (h : DRep w b L M) :
    Calls Try.prog 16 #[.pointer (some ⟨b, 0, none⟩)] w fun e w' =>
      e = .returned (.int .i64 M.syncDir.1) ∧ ∃ L', DStep b L M w L' M.syncDir.2 w' := by
  have HB := hide (begins_step w b L M h)
  have HH := hide h
  clear h
  rcases M.begins_err with h0 | h0
  · have HM : Hid (M.syncDir = (0, { M.begins.2.2 with safe := M.begins.2.2.dir, chs := [] })) := by simp [Hid, DM.syncDir, h0]
    rw [h0] at HB
    clear h0
    go_enter Try.func16, Try.ntmps16
    go_wp2_with fail
    refine HB.out.mono ?_
    rintro e w1 ⟨rfl, hs⟩
    have hc := hs.rep.blk.cell
    have hf := hs.rep.blk.frozen
    simp only [DM.cells] at hc
    obtain ⟨a, cap, hv⟩ := own_form hs.rep.dir
    rw [hv] at hc
    have HV := hide hv
    clear hv
    go_wp2
    go_ret
    rw [HM.out, ← HV.out]
    refine ⟨rfl, { L with safeV := L.dirV, chV := .slice none 0 0, chVs := [] }, hs.trans ⟨?_, ?_, ?_⟩⟩
    · have := hs.rep.synced (w' := (w1.setCell ⟨b, 1, none⟩ L.dirV).setCell ⟨b, 2, none⟩ (.slice none 0 0)) ((hs.rep.blk.set 1 L.dirV).set 2 (.slice none 0 0)) (by repeat' first | exact Fr.refl _ _ | (with_reducible assumption) | refine Fr.drewN ?_ _ | refine Fr.drew ?_ | refine Fr.alloc ?_ _ | refine Fr.set ?_ ?_ _ | (intro _; rfl))
      exact this
    · exact Fr.set (Fr.set (Fr.refl _ _) (fun _ => .blk) _) (fun _ => .blk) _
    · intro k hk
      refine .inl ?_
      cases hk using Foot.elim with
      | blk => exact .blk
      | dir e => exact .dir e
      | safe e => exact .dir e
      | ch e => simp [Value.ownBlock] at e
      | chs i h1 e => exact absurd h1 (Nat.not_lt_zero _)
      | file e => exact .file e
      | row f hf e => exact .row f hf e
  · have HM : Hid (M.syncDir = (9, M.begins.2.2)) := by simp [Hid, DM.syncDir, h0]
    rw [h0] at HB
    clear h0
    go_enter Try.func16, Try.ntmps16
    go_wp2_with (go_at_call 23; refine HB.out.mono ?_; rintro e w1 ⟨rfl, hs⟩)
    go_ret
    rw [HM.out]
    exact ⟨rfl, _, hs⟩

/-- One file turned. -/
def DM.setFile (M : DM) (f : Nat) (x : FM) : DM := { M with file := fun g => if g = f then x else M.file g }

/-- A file's safe bytes are turned. -/
theorem DRep.setSafe {w w' : World} {b : Nat} {L : DL} {M : DM} (h : DRep w b L M) {f : Nat} {s : Nat} (hs : s ≤ (M.file f).bytes.length)
    (hb : Blk w' f [L.fV f, .int .i64 s] 54) (fr : Fr (fun k => k = f) w w') (hf : f ∈ M.ids) :
    DRep w' b L (M.setFile f { M.file f with safe := s }) where
  blk := h.blk.fr fr ((h.blk).ne (h.files f hf) (by decide))
  dir := own_fr h.dir fr fun _ e hk => by subst hk; exact own_ne h.dir (h.files _ hf) (by decide) e
  safe := own_fr h.safe fr fun _ e hk => by subst hk; exact own_ne h.safe (h.files _ hf) (by decide) e
  ch := own_fr h.ch fr fun _ e hk => by subst hk; exact own_ne h.ch (h.files _ hf) (by decide) e
  chl := h.chl
  chs := fun i h1 h2 => own_fr (h.chs i h1 h2) fr fun _ e hk => by subst hk; exact own_ne (h.chs i h1 h2) (h.files _ hf) (by decide) e
  files := fun g hg => by
    by_cases e : g = f
    · subst e; simpa [DM.setFile] using hb
    · have := (h.files g hg).fr fr e
      simpa [DM.setFile, e] using this
  rows := fun g hg => by
    have h1 := own_fr (h.rows g hg) fr fun _ e hk => by subst hk; exact own_ne (h.rows g hg) (h.files _ hf) (by decide) e
    by_cases e : g = f
    · subst e; simpa [DM.setFile] using h1
    · simpa [DM.setFile, e] using h1
  sep := h.sep
  le := fun g hg => by
    by_cases e : g = f
    · subst e; simpa [DM.setFile] using hs
    · simpa [DM.setFile, e] using h.le g hg
  inD := h.inD
  inS := h.inS
  inC := h.inC

def DM.sync (M : DM) (name : ByteArray) : Int × DM :=
  match M.dir.look name with
  | none => (11, M)
  | some f => (M.begins.2.1, if M.begins.2.1 = 0 then M.begins.2.2.setFile f { M.begins.2.2.file f with safe := (M.begins.2.2.file f).bytes.length } else M.begins.2.2)

set_option maxHeartbeats 1600000 in
theorem sync_calls (name : ByteArray) (w : World) (b : Nat) (L : DL) (M : DM) (h : DRep w b L M) :
    Calls Try.prog 17 #[.pointer (some ⟨b, 0, none⟩), .string name] w fun e w' =>
      e = .returned (.int .i64 (M.sync name).1) ∧ ∃ L', DStep b L M w L' (M.sync name).2 w' := by
  have hc := h.blk.cell
  simp only [DM.cells] at hc
  have hlen := own_le h.dir
  unfold maxLen at hlen
  have HH := hide h
  rcases look_cases M.dir name with ⟨h1, h2⟩ | ⟨k, hk, h1, h2, _⟩
  · have HM : Hid (M.sync name = (11, M)) := by simp [Hid, DM.sync, h2]
    have H1 := hide h1
    clear h h1 h2
    go_enter Try.func17, Try.ntmps17
    go_wp2_with (go_at_call 22; refine (find_miss H1.out _ HH.out.dir).mono ?_; rintro e w1 ⟨rfl, hf⟩)
    go_ret
    rw [HM.out]
    exact ⟨rfl, _, HH.out.fr hf (fun _ _ => id), hf.mono (fun _ _ => False.elim), fun k hk => .inl hk⟩
  · rcases M.begins_err with h0 | h0
    · have HM : Hid (M.sync name = (0, M.begins.2.2.setFile M.dir[k].2 { M.begins.2.2.file M.dir[k].2 with safe := (M.begins.2.2.file M.dir[k].2).bytes.length })) := by simp [Hid, DM.sync, h2, h0]
      have H1 := hide h1
      have H0 := hide h0
      clear h h1 h2 h0
      go_enter Try.func17, Try.ntmps17
      go_wp2_with fail
      refine (find_hit H1.out _ HH.out.dir).mono ?_
      rintro e w1 ⟨rfl, hf⟩
      clear hc
      go_wp2_with fail
      have HB := begins_step w1 b L M (HH.out.fr hf (fun _ _ => id))
      rw [H0.out] at HB
      refine HB.mono ?_
      rintro e w2 ⟨rfl, hs⟩
      have hc := hs.rep.blk.cell
      simp only [DM.cells] at hc
      have hk2 : k < M.begins.2.2.dir.length := by rw [M.begins_keeps.1]; exact hk
      have he : M.begins.2.2.dir[k].2 = M.dir[k].2 := by simp [M.begins_keeps.1]
      obtain ⟨g, cap, n, c, hv, hi, _, hp, hsv⟩ := hs.rep.entry hk2
      rw [he] at hi hp hsv
      have hcf := (hs.rep.files _ hi).cell
      have hff := (hs.rep.files _ hi).frozen
      rw [hsv] at hcf
      rw [hv] at hc
      have HS := hide hs
      clear hs hsv hv he
      go_wp2_with fail
      go_region
      go_wp2
      go_ret
      rw [HM.out]
      refine ⟨rfl, L, DStep.trans ⟨HH.out.fr hf (fun _ _ => id), hf.mono (fun _ _ => False.elim), fun k hk => .inl hk⟩ (HS.out.trans ⟨?_, ?_, ?_⟩)⟩
      · exact HS.out.rep.setSafe (Nat.le_refl _) (((HS.out.rep.files _ hi).set 1 _).drew) (by repeat' first | exact Fr.refl _ _ | (with_reducible assumption) | refine Fr.drewN ?_ _ | refine Fr.drew ?_ | refine Fr.alloc ?_ _ | refine Fr.set ?_ ?_ _ | (intro _; rfl)) hi
      · exact Fr.drew (Fr.set (Fr.refl _ _) (fun _ => .file hi) _)
      · intro j hj
        refine .inl ?_
        cases hj using Foot.elim with
        | blk => exact .blk
        | dir e => exact .dir e
        | safe e => exact .safe e
        | ch e => exact .ch e
        | chs i h1 e => exact .chs i h1 e
        | file e => exact .file e
        | row f hf e => exact .row f hf e
    · have HM : Hid (M.sync name = (9, M.begins.2.2)) := by simp [Hid, DM.sync, h2, h0]
      have H1 := hide h1
      have H0 := hide h0
      clear h h1 h2 h0
      go_enter Try.func17, Try.ntmps17
      go_wp2_with fail
      refine (find_hit H1.out _ HH.out.dir).mono ?_
      rintro e w1 ⟨rfl, hf⟩
      clear hc
      go_wp2_with fail
      have HB := begins_step w1 b L M (HH.out.fr hf (fun _ _ => id))
      rw [H0.out] at HB
      refine HB.mono ?_
      rintro e w2 ⟨rfl, hs⟩
      go_wp2
      go_ret
      rw [HM.out]
      exact ⟨rfl, L, DStep.trans ⟨HH.out.fr hf (fun _ _ => id), hf.mono (fun _ _ => False.elim), fun k hk => .inl hk⟩ hs⟩

end Go.Proofs.Ytkhnggkkiefcdaa
