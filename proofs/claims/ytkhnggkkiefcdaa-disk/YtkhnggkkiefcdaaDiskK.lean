/-
  Package disk: Crash.
-/
import Derived.Test.YtkhnggkkiefcdaaDiskJ
import Derived.StillTailTactics
namespace Go.Proofs.Ytkhnggkkiefcdaa
open Go.RowKit

/-- Which of n + 1 things a raw number picks. -/
def pickN (c : Int) (n : Nat) : Nat := (if c < 0 then -(c + 1) else c).toNat % (n + 1)

theorem pickN_le (c : Int) (n : Nat) : pickN c n ≤ n := by
  have := Nat.mod_lt (if c < 0 then -(c + 1) else c).toNat (show 0 < n + 1 by omega)
  unfold pickN
  omega

set_option maxHeartbeats 400000 in
theorem pick_calls (c : Int) (n : Nat) (w : World) (h1 : -9223372036854775808 ≤ c) (h2 : c ≤ 9223372036854775807) (hn : n ≤ 140737488355328) :
    Calls Try.prog 21 #[.int .i64 c, .int .i64 n] w fun e w' => e = .returned (.int .i64 (pickN c n)) ∧ w' = w := by
  by_cases hc : c < 0
  · obtain ⟨m, hm⟩ := Int.eq_ofNat_of_zero_le (a := -(c + 1)) (by omega)
    have HP : Hid (pickN c n = m % (n + 1)) := by simp [Hid, pickN, hc, hm]
    have ht : (m : Int).tmod ((n : Int) + 1) = ((m % (n + 1) : Nat) : Int) := by rw [show ((n : Int) + 1) = ((n + 1 : Nat) : Int) from rfl, Int.ofNat_tmod]
    have hz : (((n : Int) + 1) == 0) = false := by rw [beq_eq_false_iff_ne]; omega
    have hb1 : (m : Int) ≤ 9223372036854775807 := by omega
    have hb2 : ((m % (n + 1) : Nat) : Int) ≤ 9223372036854775807 := by have := Nat.mod_le m (n + 1); omega
    obtain rfl : c = -(m : Int) - 1 := by omega
    clear hm
    go_enter Try.func21, Try.ntmps21
    go_wp2
    go_ret
    rw [HP.out]
    exact ⟨rfl, rfl⟩
  · obtain ⟨m, rfl⟩ := Int.eq_ofNat_of_zero_le (a := c) (by omega)
    have HP : Hid (pickN m n = m % (n + 1)) := by simp only [Hid, pickN]; rw [if_neg hc]; rfl
    have ht : (m : Int).tmod ((n : Int) + 1) = ((m % (n + 1) : Nat) : Int) := by rw [show ((n : Int) + 1) = ((n + 1 : Nat) : Int) from rfl, Int.ofNat_tmod]
    have hz : (((n : Int) + 1) == 0) = false := by rw [beq_eq_false_iff_ne]; omega
    go_enter Try.func21, Try.ntmps21
    go_wp2
    go_ret
    rw [HP.out]
    exact ⟨rfl, rfl⟩

/-- Numbers that a slice shows. -/
def IntsAt (w : World) (v : Value) (l : List Int) : Prop :=
  (v = .slice none 0 0 ∧ l = []) ∨ ∃ g off cap, v = .slice (some ⟨g, off, none⟩) l.length cap ∧ g < w.heap.size ∧ l.length ≤ maxLen ∧ ∀ j (h : j < l.length), w.cell? ⟨g, off + j, none⟩ = some (.int .i64 l[j])

theorem IntsAt.fr {S : Nat → Prop} {w w' : World} {v : Value} {l : List Int} (h : IntsAt w v l) (f : Fr S w w') (hn : ∀ k, v.ownBlock = some k → ¬ S k) : IntsAt w' v l := by
  rcases h with h | ⟨g, off, cap, rfl, hg, hm, hc⟩
  · exact .inl h
  · exact .inr ⟨g, off, cap, rfl, Nat.lt_of_lt_of_le hg f.size, hm, fun j hj => by rw [f.cell (p := ⟨g, off + j, none⟩) hg (hn g rfl)]; exact hc j hj⟩

/-- What is left of a file. -/
def crashFile (f : FM) (c : Int) : FM :=
  ⟨f.bytes.take (f.safe + pickN c (f.bytes.length - f.safe)), f.safe + pickN c (f.bytes.length - f.safe)⟩

def crashK (d : Dir) (tails : List Int) (file : Nat → FM) : Nat → Nat → FM
  | 0 => file
  | k + 1 => match (d.names[k]?).bind (Dir.look d) with
    | some f => fun g => if g = f then crashFile (crashK d tails file k f) (tails.getD k 0) else crashK d tails file k g
    | none => crashK d tails file k

def DM.crashDir (M : DM) (dirs : Int) : Dir :=
  if pickN dirs M.chs.length = 0 then M.safe else M.chs.getD (pickN dirs M.chs.length - 1) []

def DM.crash (M : DM) (dirs : Int) (tails : List Int) : DM :=
  { M with dir := M.crashDir dirs, safe := M.crashDir dirs, chs := [], file := crashK (M.crashDir dirs) tails M.file (M.crashDir dirs).names.length, dead := false, cut := 0, fail := 0 }

theorem DRep.setDir {w w' : World} {b : Nat} {L : DL} {M : DM} (h : DRep w b L M) {d : Dir} {v : Value} (hd : w.ownsRow 0 50 2 v d.length (flat d)) (hi : ∀ e, e ∈ d → e.2 ∈ M.ids)
    (hb : Blk w' b (({ M with dir := d } : DM).cells { L with dirV := v }) 45) (f : Fr (fun k => k = b) w w') : DRep w' b { L with dirV := v } { M with dir := d } where
  blk := hb
  dir := own_fr hd f fun _ e hk => by subst hk; exact own_ne hd h.blk (by decide) e
  safe := own_fr h.safe f fun _ e hk => by subst hk; exact own_ne h.safe h.blk (by decide) e
  ch := own_fr h.ch f fun _ e hk => by subst hk; exact own_ne h.ch h.blk (by decide) e
  chl := h.chl
  chs := fun i h1 h2 => own_fr (h.chs i h1 h2) f fun _ e hk => by subst hk; exact own_ne (h.chs i h1 h2) h.blk (by decide) e
  files := fun g hg => (h.files g hg).fr f ((h.files g hg).ne h.blk (by decide))
  rows := fun g hg => own_fr (h.rows g hg) f fun _ e hk => by subst hk; exact own_ne (h.rows g hg) h.blk (by decide) e
  sep := h.sep
  le := h.le
  inD := hi
  inS := h.inS
  inC := h.inC

/-- A file keeps its first bytes alone, all of them safe. -/
theorem DRep.keep {w w' : World} {b : Nat} {L : DL} {M : DM} (h : DRep w b L M) {f : Nat} (hf : f ∈ M.ids) {v : Value} {m : Nat} (hm : m ≤ (M.file f).bytes.length)
    (hb : Blk w' f [v, .int .i64 m] 54) (hv : w.ownsRow 0 5 1 v m (u8s ((M.file f).bytes.take m)))
    (fr : Fr (fun k => k = f) w w') (hat : ∀ k, v.ownBlock = some k → (L.fV f).ownBlock = some k) :
    DRep w' b { L with fV := fun g => if g = f then v else L.fV g } (M.setFile f ⟨(M.file f).bytes.take m, m⟩) := by
  have farO : ∀ {e : TypeId} {sz : Nat} {v : Value} {n : Nat} {xs : List Value}, w.ownsRow 0 e sz v n xs → e ≠ 54 → w'.ownsRow 0 e sz v n xs := fun ho h1 =>
    own_fr ho fr fun k e hk => by subst hk; exact own_ne ho (h.files k hf) (Ne.symm h1) e
  have hlen : ((M.file f).bytes.take m).length = m := by simp; omega
  exact {
    blk := h.blk.fr fr (h.blk.ne (h.files f hf) (by decide))
    dir := farO h.dir (by decide)
    safe := farO h.safe (by decide)
    ch := farO h.ch (by decide)
    chl := h.chl
    chs := fun i h1 h2 => farO (h.chs i h1 h2) (by decide)
    files := fun g hg => by
      by_cases e : g = f
      · subst e; simpa [DM.setFile] using hb
      · have := (h.files g hg).fr fr e
        simpa [DM.setFile, e] using this
    rows := fun g hg => by
      by_cases e : g = f
      · subst e
        have := farO hv (by decide)
        simp only [DM.setFile, if_true, hlen]
        exact this
      · have := farO (h.rows g hg) (by decide)
        simpa [DM.setFile, e] using this
    sep := fun g hg g' hg' e k hk => by
      by_cases e1 : g = f
      · subst e1
        have e2 : ¬ g' = g := fun h => e h.symm
        simp only [if_true, e2, if_false] at hk ⊢
        exact h.sep g hg g' hg' e k (hat k hk)
      · by_cases e2 : g' = f
        · subst e2
          simp only [e1, if_false, if_true] at hk ⊢
          intro h2
          exact h.sep g hg g' hg' e k hk (hat k h2)
        · simp only [e1, e2, if_false] at hk ⊢
          exact h.sep g hg g' hg' e k hk
    le := fun g hg => by
      by_cases e : g = f
      · subst e; simp [DM.setFile]; omega
      · simpa [DM.setFile, e] using h.le g hg
    inD := h.inD
    inS := h.inS
    inC := h.inC }

/-- A part of a row, from its beginning on. -/
theorem own_take {w : World} {base : Nat} {e : TypeId} {g n cap m : Nat} {xs : List Value} (h : w.ownsRow base e 1 (.slice (some ⟨g, 0, none⟩) n cap) n xs) (hm : m ≤ n) :
    w.ownsRow base e 1 (.slice (some ⟨g, 0, none⟩) m cap) m (xs.take m) := by
  have hl := h.1
  refine ⟨by simp; omega, ?_⟩
  rcases h.2 with ⟨h1, _⟩ | ⟨g', cap', cur, h1, hb, hg, hn, hmx, hs, ht⟩
  · cases h1
  · simp at h1
    obtain ⟨rfl, rfl⟩ := h1
    refine .inr ⟨g, cap, cur, rfl, hb, hg, by omega, hmx, hs, ?_⟩
    rw [← ht, List.take_take]
    congr 1
    omega

theorem Foot.of_keep {b : Nat} {L : DL} {M : DM} {f k : Nat} {v : Value} {x : FM} (hf : f ∈ M.ids) (hat : ∀ k, v.ownBlock = some k → (L.fV f).ownBlock = some k)
    (h : Foot b { L with fV := fun g => if g = f then v else L.fV g } (M.setFile f x) k) : Foot b L M k := by
  cases h using Foot.elim with
  | blk => exact .blk
  | dir e => exact .dir e
  | safe e => exact .safe e
  | ch e => exact .ch e
  | chs i h1 e => exact .chs i h1 e
  | file e => exact .file e
  | row g hg e =>
    by_cases hgf : g = f
    · simp only [hgf, if_true] at e; exact .row f hf (hat k e)
    · simp only [hgf, if_false] at e; exact .row g hg e

end Go.Proofs.Ytkhnggkkiefcdaa
