/-
  The disk's model, how it lies in memory, and the small calls of package disk.
-/
import Derived.Test.YtkhnggkkiefcdaaChecked
import Derived.Test.YtkhnggkkiefcdaaBase
namespace Go.Proofs.Ytkhnggkkiefcdaa
open Go.RowKit

/-- A file. -/
structure FM where
  bytes : List UInt8
  safe : Nat

abbrev Dir := List (ByteArray × Nat)

/-- A disk. -/
structure DM where
  dir : Dir
  safe : Dir
  chs : List Dir
  file : Nat → FM
  ids : List Nat
  room : Int
  calls : Int
  cut : Int
  fail : Int
  part : Int
  refused : Int
  fulls : Int
  dead : Bool

/-- Where it lies. -/
structure DL where
  dirV : Value
  safeV : Value
  chV : Value
  chVs : List Value
  fV : Nat → Value

def flat (d : Dir) : List Value := d.flatMap fun e => [.string e.1, .pointer (some ⟨e.2, 0, none⟩)]

theorem flat_length (d : Dir) : (flat d).length = d.length * 2 := by
  induction d with
  | nil => rfl
  | cons e d ih => simp only [flat, List.flatMap_cons, List.length_append, List.length_cons, List.length_nil] at ih ⊢; omega

theorem flat_get (d : Dir) : ∀ (k : Nat) (h : k < d.length), (flat d)[k * 2]? = some (.string d[k].1) ∧ (flat d)[k * 2 + 1]? = some (.pointer (some ⟨d[k].2, 0, none⟩)) := by
  induction d with
  | nil => intro k h; simp at h
  | cons e d ih =>
    intro k h
    cases k with
    | zero => exact ⟨rfl, rfl⟩
    | succ k =>
      have := ih k (by simpa using h)
      have e1 : (k + 1) * 2 = k * 2 + 2 := by omega
      simp only [flat, List.flatMap_cons, e1] at this ⊢
      exact this

def findI (d : Dir) (name : ByteArray) : Int :=
  match d.findIdx? (fun e => e.1 == name) with
  | some i => i
  | none => -1

theorem findI_hit (d : Dir) (name : ByteArray) (k : Nat) (hk : k < d.length) (h1 : ∀ j (hj : j < d.length), j < k → (d[j].1 == name) = false) (h2 : (d[k].1 == name) = true) :
    findI d name = k := by
  have : d.findIdx? (fun e => e.1 == name) = some k := by
    rw [List.findIdx?_eq_some_iff_getElem]
    exact ⟨hk, h2, fun j hj => by have := h1 j (by omega) hj; simpa using this⟩
  simp [findI, this]

theorem findI_miss (d : Dir) (name : ByteArray) (h1 : ∀ j (hj : j < d.length), (d[j].1 == name) = false) : findI d name = -1 := by
  have : d.findIdx? (fun e => e.1 == name) = none := by
    rw [List.findIdx?_eq_none_iff]
    intro x hx
    obtain ⟨j, hj, rfl⟩ := List.getElem_of_mem hx
    exact h1 j hj
  simp [findI, this]

/-- What is found lies there. -/
theorem findI_cases (d : Dir) (name : ByteArray) : findI d name = -1 ∨ ∃ k : Nat, ∃ h : k < d.length, findI d name = k ∧ (d[k].1 == name) = true := by
  unfold findI
  cases hf : d.findIdx? (fun e => e.1 == name) with
  | none => exact .inl rfl
  | some k =>
    rw [List.findIdx?_eq_some_iff_getElem] at hf
    obtain ⟨hk, h2, _⟩ := hf
    exact .inr ⟨k, hk, rfl, h2⟩

theorem retI {k : IntKind} {a b : Int} (h : a = b) : Ending.returned (.int k a) = .returned (.int k b) := by rw [h]

set_option maxHeartbeats 400000 in
theorem find_calls (v : Value) (d : Dir) (name : ByteArray) (w : World) (h : w.ownsRow 0 50 2 v d.length (flat d)) :
    Calls Try.prog 22 #[v, .string name] w fun e w' => e = .returned (.int .i64 (findI d name)) ∧ Fr Nil w w' := by
  have hn := own_le h
  unfold maxLen at hn
  obtain ⟨a, cap, rfl⟩ := own_form h
  go_enter Try.func22, Try.ntmps22
  go_wp2
  go_loopw [8] (fun t w' => ∃ k : Nat, k ≤ d.length ∧ t = .int .i64 k ∧ (∀ j (hj : j < d.length), j < k → (d[j].1 == name) = false) ∧ Fr Nil w w') (fun t _ => d.length - (intOf t).toNat)
  case atStart => exact ⟨0, Nat.zero_le _, rfl, fun j _ hj => absurd hj (Nat.not_lt_zero _), Fr.refl _ _⟩
  case round =>
    obtain ⟨k, hk, rfl, hj, hf⟩ := hrel
    by_cases hlt : k < d.length
    · obtain ⟨g, rfl⟩ : ∃ g, a = some ⟨g, 0, none⟩ := by
        rcases h.2 with ⟨h1, h0⟩ | ⟨g, cap, cur, h1, _⟩
        · omega
        · simp at h1; exact ⟨g, h1.1⟩
      have hc := own_cell? (own_fr h hf (fun _ _ => id)) (k * 2) _ (flat_get d k hlt).1
      have hb := beq_toListBytes d[k].1 name
      cases hm : (d[k].1 == name) with
      | true =>
        have hm' : (d[k].1.toList == name.toList) = true := by rw [← hb]; exact hm
        clear hb
        have hr := findI_hit d name k hlt hj hm
        clear hm hj
        go_wp2
        go_ret
        exact ⟨retI hr.symm, hf⟩
      | false =>
        have hm' : (d[k].1.toList == name.toList) = false := by rw [← hb]; exact hm
        clear hb
        have hj' : ∀ j (hj : j < d.length), j < k + 1 → (d[j].1 == name) = false := by
          intro j hjl hjk
          by_cases e : j = k
          · subst e; exact hm
          · exact hj j hjl (by omega)
        clear hm hj
        have HJ := hide hj'
        clear hj'
        go_wp2
        exact ⟨⟨k + 1, by omega, by go_num, HJ.out, hf⟩, by simp [intOf]; omega⟩
    · have hr := findI_miss d name (fun j hjl => hj j hjl (by omega))
      clear hj
      go_wp2
      go_ret
      exact ⟨retI hr.symm, hf⟩


def DM.cells (L : DL) (M : DM) : List Value :=
  [L.dirV, L.safeV, L.chV, .int .i64 M.room, .int .i64 M.calls, .int .i64 M.cut, .int .i64 M.fail, .int .i64 M.part, .int .i64 M.refused, .int .i64 M.fulls, .bool M.dead]

/-- The disk M lies at block b, laid out as L says. -/
structure DRep (w : World) (b : Nat) (L : DL) (M : DM) : Prop where
  blk : Blk w b (M.cells L) 45
  dir : w.ownsRow 0 50 2 L.dirV M.dir.length (flat M.dir)
  safe : w.ownsRow 0 50 2 L.safeV M.safe.length (flat M.safe)
  ch : w.ownsRow 0 47 1 L.chV M.chs.length L.chVs
  chl : L.chVs.length = M.chs.length
  chs : ∀ i (h1 : i < L.chVs.length) (h2 : i < M.chs.length), w.ownsRow 0 50 2 L.chVs[i] M.chs[i].length (flat M.chs[i])
  files : ∀ f, f ∈ M.ids → Blk w f [L.fV f, .int .i64 (M.file f).safe] 54
  rows : ∀ f, f ∈ M.ids → w.ownsRow 0 5 1 (L.fV f) (M.file f).bytes.length (u8s (M.file f).bytes)
  sep : ∀ f, f ∈ M.ids → ∀ g, g ∈ M.ids → f ≠ g → ∀ k, (L.fV f).ownBlock = some k → (L.fV g).ownBlock ≠ some k
  le : ∀ f, f ∈ M.ids → (M.file f).safe ≤ (M.file f).bytes.length
  inD : ∀ e, e ∈ M.dir → e.2 ∈ M.ids
  inS : ∀ e, e ∈ M.safe → e.2 ∈ M.ids
  inC : ∀ d, d ∈ M.chs → ∀ e, e ∈ d → e.2 ∈ M.ids

/-- The blocks that a disk stands on. -/
def Foot (b : Nat) (L : DL) (M : DM) (k : Nat) : Prop :=
  k = b ∨ L.dirV.ownBlock = some k ∨ L.safeV.ownBlock = some k ∨ L.chV.ownBlock = some k
    ∨ (∃ (i : Nat) (_ : i < L.chVs.length), L.chVs[i].ownBlock = some k) ∨ k ∈ M.ids ∨ (∃ f, f ∈ M.ids ∧ (L.fV f).ownBlock = some k)

theorem Foot.blk {b : Nat} {L : DL} {M : DM} : Foot b L M b := .inl rfl
theorem Foot.dir {b : Nat} {L : DL} {M : DM} {k : Nat} (h : L.dirV.ownBlock = some k) : Foot b L M k := .inr (.inl h)
theorem Foot.safe {b : Nat} {L : DL} {M : DM} {k : Nat} (h : L.safeV.ownBlock = some k) : Foot b L M k := .inr (.inr (.inl h))
theorem Foot.ch {b : Nat} {L : DL} {M : DM} {k : Nat} (h : L.chV.ownBlock = some k) : Foot b L M k := .inr (.inr (.inr (.inl h)))
theorem Foot.chs {b : Nat} {L : DL} {M : DM} {k : Nat} (i : Nat) (h1 : i < L.chVs.length) (h : L.chVs[i].ownBlock = some k) : Foot b L M k := .inr (.inr (.inr (.inr (.inl ⟨i, h1, h⟩))))
theorem Foot.file {b : Nat} {L : DL} {M : DM} {k : Nat} (h : k ∈ M.ids) : Foot b L M k := .inr (.inr (.inr (.inr (.inr (.inl h)))))
theorem Foot.row {b : Nat} {L : DL} {M : DM} {k : Nat} (f : Nat) (hf : f ∈ M.ids) (h : (L.fV f).ownBlock = some k) : Foot b L M k := .inr (.inr (.inr (.inr (.inr (.inr ⟨f, hf, h⟩)))))

theorem Foot.elim {b : Nat} {L : DL} {M : DM} {motive : (k : Nat) → Foot b L M k → Prop} (blk : motive b .blk)
    (dir : ∀ {k : Nat} (h : L.dirV.ownBlock = some k), motive k (.dir h)) (safe : ∀ {k : Nat} (h : L.safeV.ownBlock = some k), motive k (.safe h))
    (ch : ∀ {k : Nat} (h : L.chV.ownBlock = some k), motive k (.ch h))
    (chs : ∀ {k : Nat} (i : Nat) (h1 : i < L.chVs.length) (h : L.chVs[i].ownBlock = some k), motive k (.chs i h1 h))
    (file : ∀ {k : Nat} (h : k ∈ M.ids), motive k (.file h)) (row : ∀ {k : Nat} (f : Nat) (hf : f ∈ M.ids) (h : (L.fV f).ownBlock = some k), motive k (.row f hf h))
    {k : Nat} (h : Foot b L M k) : motive k h := by
  rcases id h with e | e | e | e | ⟨i, h1, e⟩ | e | ⟨f, hf, e⟩
  · subst e; exact blk
  · exact dir e
  · exact safe e
  · exact ch e
  · exact chs i h1 e
  · exact file e
  · exact row f hf e

theorem DRep.lt {w : World} {b : Nat} {L : DL} {M : DM} (h : DRep w b L M) {k : Nat} (hk : Foot b L M k) : k < w.heap.size := by
  cases hk using Foot.elim with
  | blk => exact h.blk.lt
  | dir e => exact own_lt h.dir e
  | safe e => exact own_lt h.safe e
  | ch e => exact own_lt h.ch e
  | chs i h1 e => exact own_lt (h.chs i h1 (by rw [← h.chl]; exact h1)) e
  | file e => exact (h.files k e).lt
  | row f hf e => exact own_lt (h.rows f hf) e

theorem DRep.fr {w w' : World} {b : Nat} {L : DL} {M : DM} {S : Nat → Prop} (h : DRep w b L M) (f : Fr S w w') (hn : ∀ k, Foot b L M k → ¬ S k) : DRep w' b L M where
  blk := h.blk.fr f (hn _ .blk)
  dir := own_fr h.dir f fun _ e => hn _ (.dir e)
  safe := own_fr h.safe f fun _ e => hn _ (.safe e)
  ch := own_fr h.ch f fun _ e => hn _ (.ch e)
  chl := h.chl
  chs := fun i h1 h2 => own_fr (h.chs i h1 h2) f fun _ e => hn _ (.chs i h1 e)
  files := fun g hg => (h.files g hg).fr f (hn _ (.file hg))
  rows := fun g hg => own_fr (h.rows g hg) f fun _ e => hn _ (.row g hg e)
  sep := h.sep
  le := h.le
  inD := h.inD
  inS := h.inS
  inC := h.inC

/-- The disk's own block alone is turned, and the directory's rows in it are those of L still. -/
theorem DRep.own {w w' : World} {b : Nat} {L : DL} {M M' : DM} (h : DRep w b L M) (hb : Blk w' b (M'.cells L) 45) (f : Fr (fun k => k = b) w w')
    (e1 : M'.dir = M.dir) (e2 : M'.safe = M.safe) (e3 : M'.chs = M.chs) (e4 : M'.file = M.file) (e5 : M'.ids = M.ids) : DRep w' b L M' where
  blk := hb
  dir := by rw [e1]; exact own_fr h.dir f fun _ e hk => by subst hk; exact own_ne h.dir h.blk (by decide) e
  safe := by rw [e2]; exact own_fr h.safe f fun _ e hk => by subst hk; exact own_ne h.safe h.blk (by decide) e
  ch := by rw [e3]; exact own_fr h.ch f fun _ e hk => by subst hk; exact own_ne h.ch h.blk (by decide) e
  chl := by rw [e3]; exact h.chl
  chs := by
    rw [e3]
    exact fun i h1 h2 => own_fr (h.chs i h1 h2) f fun _ e hk => by subst hk; exact own_ne (h.chs i h1 h2) h.blk (by decide) e
  files := by rw [e4, e5]; exact fun g hg => (h.files g hg).fr f ((h.files g hg).ne h.blk (by decide))
  rows := by rw [e4, e5]; exact fun g hg => own_fr (h.rows g hg) f fun _ e hk => by subst hk; exact own_ne (h.rows g hg) h.blk (by decide) e
  sep := by rw [e5]; exact h.sep
  le := by rw [e4, e5]; exact h.le
  inD := by rw [e1, e5]; exact h.inD
  inS := by rw [e2, e5]; exact h.inS
  inC := by rw [e3, e5]; exact h.inC

/-- A call begins: does it do anything; its answer; the disk behind it. -/
def DM.begins (M : DM) : Bool × Int × DM :=
  let c := wrap64 (M.calls + 1)
  if M.dead = true then (false, 9, { M with calls := c, refused := wrap64 (M.refused + 1) })
  else if (c == M.cut) = true then (true, 9, { M with calls := c, refused := wrap64 (M.refused + 1), dead := true })
  else if (c == M.fail) = true then (false, 9, { M with calls := c, refused := wrap64 (M.refused + 1) })
  else (true, 0, { M with calls := c })

theorem DM.begins_dead (M : DM) (hd : M.dead = true) : M.begins = (false, 9, { M with calls := wrap64 (M.calls + 1), refused := wrap64 (M.refused + 1) }) := by
  simp [DM.begins, hd]
theorem DM.begins_cut (M : DM) (hd : M.dead = false) (h1 : (wrap64 (M.calls + 1) == M.cut) = true) :
    M.begins = (true, 9, { M with calls := wrap64 (M.calls + 1), refused := wrap64 (M.refused + 1), dead := true }) := by
  simp [DM.begins, hd, h1]
theorem DM.begins_fail (M : DM) (hd : M.dead = false) (h1 : (wrap64 (M.calls + 1) == M.cut) = false) (h2 : (wrap64 (M.calls + 1) == M.fail) = true) :
    M.begins = (false, 9, { M with calls := wrap64 (M.calls + 1), refused := wrap64 (M.refused + 1) }) := by
  simp [DM.begins, hd, h1, h2]
theorem DM.begins_ok (M : DM) (hd : M.dead = false) (h1 : (wrap64 (M.calls + 1) == M.cut) = false) (h2 : (wrap64 (M.calls + 1) == M.fail) = false) :
    M.begins = (true, 0, { M with calls := wrap64 (M.calls + 1) }) := by
  simp [DM.begins, hd, h1, h2]

set_option maxHeartbeats 1000000 in
theorem begins_blk (w : World) (b : Nat) (L : DL) (M : DM) (h : Blk w b (M.cells L) 45) :
    Calls Try.prog 23 #[.pointer (some ⟨b, 0, none⟩)] w fun e w' =>
      e = .returned (.tuple #[.bool M.begins.1, .int .i64 M.begins.2.1]) ∧ Blk w' b (M.begins.2.2.cells L) 45 ∧ Fr (fun k => k = b) w w' := by
  have hc := h.cell
  have hf := h.frozen
  have HH := hide h
  clear h
  simp only [DM.cells] at hc
  cases hd : M.dead with
  | true =>
    rw [hd] at hc
    rw [M.begins_dead hd]
    have HD := hide hd
    clear hd
    go_enter Try.func23, Try.ntmps23
    go_wp2
    go_ret2
    refine ⟨rfl, ?_, (by repeat' first | exact Fr.refl _ _ | (with_reducible assumption) | refine Fr.drewN ?_ _ | refine Fr.drew ?_ | refine Fr.alloc ?_ _ | refine Fr.set ?_ ?_ _ | (intro _; rfl))⟩
    have := (HH.out.set 4 (.int .i64 (wrap64 (M.calls + 1)))).set 8 (.int .i64 (wrap64 (M.refused + 1)))
    exact this
  | false =>
    rw [hd] at hc
    cases h1 : (wrap64 (M.calls + 1) == M.cut) with
    | true =>
      rw [M.begins_cut hd h1]
      have HD := hide hd
      clear hd
      go_enter Try.func23, Try.ntmps23
      go_wp2
      go_quiet (fail)
      go_wp2
      go_ret2
      refine ⟨rfl, ?_, (by repeat' first | exact Fr.refl _ _ | (with_reducible assumption) | refine Fr.drewN ?_ _ | refine Fr.drew ?_ | refine Fr.alloc ?_ _ | refine Fr.set ?_ ?_ _ | (intro _; rfl))⟩
      have := ((HH.out.set 4 (.int .i64 (wrap64 (M.calls + 1)))).set 8 (.int .i64 (wrap64 (M.refused + 1)))).set 10 (.bool true)
      exact this
    | false =>
      cases h2 : (wrap64 (M.calls + 1) == M.fail) with
      | true =>
        rw [M.begins_fail hd h1 h2]
        have HD := hide hd
        clear hd
        go_enter Try.func23, Try.ntmps23
        go_wp2
        go_quiet (fail)
        go_wp2
        go_quiet (fail)
        go_wp2
        go_ret2
        refine ⟨rfl, ?_, (by repeat' first | exact Fr.refl _ _ | (with_reducible assumption) | refine Fr.drewN ?_ _ | refine Fr.drew ?_ | refine Fr.alloc ?_ _ | refine Fr.set ?_ ?_ _ | (intro _; rfl))⟩
        have := (HH.out.set 4 (.int .i64 (wrap64 (M.calls + 1)))).set 8 (.int .i64 (wrap64 (M.refused + 1)))
        exact this
      | false =>
        rw [M.begins_ok hd h1 h2]
        have HD := hide hd
        clear hd
        go_enter Try.func23, Try.ntmps23
        go_wp2
        go_quiet (fail)
        go_wp2
        go_quiet (fail)
        go_wp2
        go_ret2
        refine ⟨rfl, ?_, (by repeat' first | exact Fr.refl _ _ | (with_reducible assumption) | refine Fr.drewN ?_ _ | refine Fr.drew ?_ | refine Fr.alloc ?_ _ | refine Fr.set ?_ ?_ _ | (intro _; rfl))⟩
        have := HH.out.set 4 (.int .i64 (wrap64 (M.calls + 1)))
        exact this

theorem begins_calls (w : World) (b : Nat) (L : DL) (M : DM) (h : DRep w b L M) :
    Calls Try.prog 23 #[.pointer (some ⟨b, 0, none⟩)] w fun e w' =>
      e = .returned (.tuple #[.bool M.begins.1, .int .i64 M.begins.2.1]) ∧ DRep w' b L M.begins.2.2 ∧ Fr (fun k => k = b) w w' := by
  refine (begins_blk w b L M h.blk).mono fun e w' ⟨h1, h2, h3⟩ => ⟨h1, ?_, h3⟩
  refine h.own h2 h3 ?_ ?_ ?_ ?_ ?_ <;> (unfold DM.begins; dsimp only; (repeat' split) <;> rfl)

def DM.new (room : Int) : DM := { dir := [], safe := [], chs := [], file := fun _ => ⟨[], 0⟩, ids := [], room := room, calls := 0, cut := 0, fail := 0, part := 0, refused := 0, fulls := 0, dead := false }
def DL.new : DL := { dirV := .slice none 0 0, safeV := .slice none 0 0, chV := .slice none 0 0, chVs := [], fV := fun _ => .slice none 0 0 }

theorem DRep.new {w : World} {b : Nat} {room : Int} (h : Blk w b ((DM.new room).cells DL.new) 45) : DRep w b DL.new (DM.new room) where
  blk := h
  dir := World.ownsRow_nil w 0 _ _
  safe := World.ownsRow_nil w 0 _ _
  ch := World.ownsRow_nil w 0 _ _
  chl := rfl
  chs := fun i h1 => absurd h1 (Nat.not_lt_zero _)
  files := fun f h1 => by cases h1
  rows := fun f h1 => by cases h1
  sep := fun f h1 => by cases h1
  le := fun f h1 => by cases h1
  inD := fun f h1 => by cases h1
  inS := fun f h1 => by cases h1
  inC := fun f h1 => by cases h1

set_option maxHeartbeats 400000 in
theorem new_calls (room : Int) (w : World) :
    Calls Try.prog 15 #[.int .i64 room] w fun e w' => e = .returned (.pointer (some ⟨w.heap.size, 0, none⟩)) ∧ DRep w' w.heap.size DL.new (DM.new room) ∧ Fr Nil w w' ∧ w'.heap.size = w.heap.size + 1 := by
  go_enter Try.func15, Try.ntmps15
  go_wp2
  go_ret
  exact ⟨rfl, DRep.new (Blk.new _ _ _), (by repeat' first | exact Fr.refl _ _ | (with_reducible assumption) | refine Fr.drewN ?_ _ | refine Fr.drew ?_ | refine Fr.alloc ?_ _ | refine Fr.set ?_ ?_ _ | (intro _; rfl)), by simp⟩

set_option maxHeartbeats 400000 in
theorem dead_calls (w : World) (b : Nat) (L : DL) (M : DM) (h : DRep w b L M) :
    Calls Try.prog 27 #[.pointer (some ⟨b, 0, none⟩)] w fun e w' => e = .returned (.bool M.dead) ∧ w' = w := by
  have hc := h.blk.cell
  simp only [DM.cells] at hc
  go_enter Try.func27, Try.ntmps27
  go_wp2
  go_ret
  exact ⟨rfl, rfl⟩

set_option maxHeartbeats 400000 in
theorem refused_calls (w : World) (b : Nat) (L : DL) (M : DM) (h : DRep w b L M) :
    Calls Try.prog 28 #[.pointer (some ⟨b, 0, none⟩)] w fun e w' => e = .returned (.int .i64 M.refused) ∧ w' = w := by
  have hc := h.blk.cell
  simp only [DM.cells] at hc
  go_enter Try.func28, Try.ntmps28
  go_wp2
  go_ret
  exact ⟨rfl, rfl⟩

set_option maxHeartbeats 400000 in
theorem fulls_calls (w : World) (b : Nat) (L : DL) (M : DM) (h : DRep w b L M) :
    Calls Try.prog 30 #[.pointer (some ⟨b, 0, none⟩)] w fun e w' => e = .returned (.int .i64 M.fulls) ∧ w' = w := by
  have hc := h.blk.cell
  simp only [DM.cells] at hc
  go_enter Try.func30, Try.ntmps30
  go_wp2
  go_ret
  exact ⟨rfl, rfl⟩

def DM.setCut (M : DM) (n : Int) : DM := { M with cut := if 0 < n then wrap64 (M.calls + n) else 0 }

set_option maxHeartbeats 400000 in
theorem cut_calls (n : Int) (w : World) (b : Nat) (L : DL) (M : DM) (h : DRep w b L M) :
    Calls Try.prog 26 #[.pointer (some ⟨b, 0, none⟩), .int .i64 n] w fun e w' =>
      e = .returned (.tuple #[]) ∧ DRep w' b L (M.setCut n) ∧ Fr (fun k => k = b) w w' := by
  have hc := h.blk.cell
  have hf := h.blk.frozen
  simp only [DM.cells] at hc
  have HH := hide h
  clear h
  by_cases hn : 0 < n
  · have HM : Hid (M.setCut n = { M with cut := wrap64 (M.calls + n) }) := by simp [Hid, DM.setCut, hn]
    go_enter Try.func26, Try.ntmps26
    go_wp2
    go_end0
    rw [HM.out]
    refine ⟨rfl, HH.out.own ?_ (by repeat' first | exact Fr.refl _ _ | (with_reducible assumption) | refine Fr.drewN ?_ _ | refine Fr.drew ?_ | refine Fr.alloc ?_ _ | refine Fr.set ?_ ?_ _ | (intro _; rfl)) rfl rfl rfl rfl rfl, (by repeat' first | exact Fr.refl _ _ | (with_reducible assumption) | refine Fr.drewN ?_ _ | refine Fr.drew ?_ | refine Fr.alloc ?_ _ | refine Fr.set ?_ ?_ _ | (intro _; rfl))⟩
    have := (HH.out.blk.set 5 (.int .i64 0)).set 5 (.int .i64 (wrap64 (M.calls + n)))
    exact this
  · have HM : Hid (M.setCut n = { M with cut := 0 }) := by simp [Hid, DM.setCut, hn]
    go_enter Try.func26, Try.ntmps26
    go_wp2
    go_end0
    rw [HM.out]
    refine ⟨rfl, HH.out.own ?_ (by repeat' first | exact Fr.refl _ _ | (with_reducible assumption) | refine Fr.drewN ?_ _ | refine Fr.drew ?_ | refine Fr.alloc ?_ _ | refine Fr.set ?_ ?_ _ | (intro _; rfl)) rfl rfl rfl rfl rfl, (by repeat' first | exact Fr.refl _ _ | (with_reducible assumption) | refine Fr.drewN ?_ _ | refine Fr.drew ?_ | refine Fr.alloc ?_ _ | refine Fr.set ?_ ?_ _ | (intro _; rfl))⟩
    have := (HH.out.blk.set 5 (.int .i64 0))
    exact this

def DM.setFail (M : DM) (n part : Int) : DM := { M with fail := if 0 < n then wrap64 (M.calls + n) else 0, part := if part < 0 then wrap64 (-(wrap64 (part + 1))) else part }

set_option maxHeartbeats 800000 in
theorem fail_calls (n part : Int) (w : World) (b : Nat) (L : DL) (M : DM) (h : DRep w b L M) :
    Calls Try.prog 29 #[.pointer (some ⟨b, 0, none⟩), .int .i64 n, .int .i64 part] w fun e w' =>
      e = .returned (.tuple #[]) ∧ DRep w' b L (M.setFail n part) ∧ Fr (fun k => k = b) w w' := by
  have hc := h.blk.cell
  have hf := h.blk.frozen
  simp only [DM.cells] at hc
  have HH := hide h
  clear h
  by_cases hn : 0 < n <;> by_cases hp : part < 0
  · have HM : Hid (M.setFail n part = { M with fail := wrap64 (M.calls + n), part := wrap64 (-(wrap64 (part + 1))) }) := by simp [Hid, DM.setFail, hn, hp]
    go_enter Try.func29, Try.ntmps29
    go_wp2
    go_end0
    rw [HM.out]
    refine ⟨rfl, HH.out.own ?_ (by repeat' first | exact Fr.refl _ _ | (with_reducible assumption) | refine Fr.drewN ?_ _ | refine Fr.drew ?_ | refine Fr.alloc ?_ _ | refine Fr.set ?_ ?_ _ | (intro _; rfl)) rfl rfl rfl rfl rfl, (by repeat' first | exact Fr.refl _ _ | (with_reducible assumption) | refine Fr.drewN ?_ _ | refine Fr.drew ?_ | refine Fr.alloc ?_ _ | refine Fr.set ?_ ?_ _ | (intro _; rfl))⟩
    have := (((HH.out.blk.set 6 (.int .i64 0)).set 6 (.int .i64 (wrap64 (M.calls + n)))).set 7 (.int .i64 part)).set 7 (.int .i64 (wrap64 (-(wrap64 (part + 1)))))
    exact this
  · have HM : Hid (M.setFail n part = { M with fail := wrap64 (M.calls + n), part := part }) := by simp [Hid, DM.setFail, hn, hp]
    go_enter Try.func29, Try.ntmps29
    go_wp2
    go_end0
    rw [HM.out]
    refine ⟨rfl, HH.out.own ?_ (by repeat' first | exact Fr.refl _ _ | (with_reducible assumption) | refine Fr.drewN ?_ _ | refine Fr.drew ?_ | refine Fr.alloc ?_ _ | refine Fr.set ?_ ?_ _ | (intro _; rfl)) rfl rfl rfl rfl rfl, (by repeat' first | exact Fr.refl _ _ | (with_reducible assumption) | refine Fr.drewN ?_ _ | refine Fr.drew ?_ | refine Fr.alloc ?_ _ | refine Fr.set ?_ ?_ _ | (intro _; rfl))⟩
    have := (((HH.out.blk.set 6 (.int .i64 0)).set 6 (.int .i64 (wrap64 (M.calls + n)))).set 7 (.int .i64 part))
    exact this
  · have HM : Hid (M.setFail n part = { M with fail := 0, part := wrap64 (-(wrap64 (part + 1))) }) := by simp [Hid, DM.setFail, hn, hp]
    go_enter Try.func29, Try.ntmps29
    go_wp2
    go_end0
    rw [HM.out]
    refine ⟨rfl, HH.out.own ?_ (by repeat' first | exact Fr.refl _ _ | (with_reducible assumption) | refine Fr.drewN ?_ _ | refine Fr.drew ?_ | refine Fr.alloc ?_ _ | refine Fr.set ?_ ?_ _ | (intro _; rfl)) rfl rfl rfl rfl rfl, (by repeat' first | exact Fr.refl _ _ | (with_reducible assumption) | refine Fr.drewN ?_ _ | refine Fr.drew ?_ | refine Fr.alloc ?_ _ | refine Fr.set ?_ ?_ _ | (intro _; rfl))⟩
    have := (((HH.out.blk.set 6 (.int .i64 0))).set 7 (.int .i64 part)).set 7 (.int .i64 (wrap64 (-(wrap64 (part + 1)))))
    exact this
  · have HM : Hid (M.setFail n part = { M with fail := 0, part := part }) := by simp [Hid, DM.setFail, hn, hp]
    go_enter Try.func29, Try.ntmps29
    go_wp2
    go_end0
    rw [HM.out]
    refine ⟨rfl, HH.out.own ?_ (by repeat' first | exact Fr.refl _ _ | (with_reducible assumption) | refine Fr.drewN ?_ _ | refine Fr.drew ?_ | refine Fr.alloc ?_ _ | refine Fr.set ?_ ?_ _ | (intro _; rfl)) rfl rfl rfl rfl rfl, (by repeat' first | exact Fr.refl _ _ | (with_reducible assumption) | refine Fr.drewN ?_ _ | refine Fr.drew ?_ | refine Fr.alloc ?_ _ | refine Fr.set ?_ ?_ _ | (intro _; rfl))⟩
    have := (((HH.out.blk.set 6 (.int .i64 0))).set 7 (.int .i64 part))
    exact this

end Go.Proofs.Ytkhnggkkiefcdaa
