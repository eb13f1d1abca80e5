/-
  Package disk: what it tells: Size, Used, Read.
-/
import Derived.Test.YtkhnggkkiefcdaaDiskA
namespace Go.Proofs.Ytkhnggkkiefcdaa
open Go.RowKit

/-- The file of a name. -/
def Dir.look (d : Dir) (name : ByteArray) : Option Nat := (d.find? fun e => e.1 == name).map (·.2)

theorem look_cases (d : Dir) (name : ByteArray) :
    (findI d name = -1 ∧ Dir.look d name = none) ∨ ∃ k : Nat, ∃ h : k < d.length, findI d name = k ∧ Dir.look d name = some d[k].2 ∧ (d[k].1 == name) = true := by
  unfold findI Dir.look
  cases hf : d.findIdx? (fun e => e.1 == name) with
  | none =>
    rw [List.findIdx?_eq_none_iff] at hf
    refine .inl ⟨rfl, ?_⟩
    rw [List.find?_eq_none.2 (fun x hx => by simpa using hf x hx)]
    rfl
  | some k =>
    rw [List.findIdx?_eq_some_iff_getElem] at hf
    obtain ⟨hk, h2, h3⟩ := hf
    refine .inr ⟨k, hk, rfl, ?_, h2⟩
    rw [(List.find?_eq_some_iff_getElem (xs := d) (b := d[k])).2 ⟨h2, k, hk, rfl, fun j hj => by simpa using h3 j hj⟩]
    rfl

theorem find_miss {v : Value} {d : Dir} {name : ByteArray} (hm : findI d name = -1) (w : World) (h : w.ownsRow 0 50 2 v d.length (flat d)) :
    Calls Try.prog 22 #[v, .string name] w fun e w' => e = .returned (.int .i64 (-1)) ∧ Fr Nil w w' := by
  have := find_calls v d name w h
  rwa [hm] at this

theorem find_hit {v : Value} {d : Dir} {name : ByteArray} {k : Nat} (hm : findI d name = k) (w : World) (h : w.ownsRow 0 50 2 v d.length (flat d)) :
    Calls Try.prog 22 #[v, .string name] w fun e w' => e = .returned (.int .i64 k) ∧ Fr Nil w w' := by
  have := find_calls v d name w h
  rwa [hm] at this

def DM.size (M : DM) (name : ByteArray) : Int × Int :=
  match M.dir.look name with
  | some f => ((M.file f).bytes.length, 0)
  | none => (0, 11)

/-- What a reader of file k of the directory finds in memory. -/
theorem DRep.entry {w : World} {b : Nat} {L : DL} {M : DM} (h : DRep w b L M) {k : Nat} (hk : k < M.dir.length) :
    ∃ g cap n c, L.dirV = .slice (some ⟨g, 0, none⟩) M.dir.length cap ∧ M.dir[k].2 ∈ M.ids ∧ w.cell? ⟨g, k * 2, none⟩ = some (.string M.dir[k].1) ∧
      w.cell? ⟨g, k * 2 + 1, none⟩ = some (.pointer (some ⟨M.dir[k].2, 0, none⟩)) ∧
      L.fV M.dir[k].2 = .slice n (M.file M.dir[k].2).bytes.length c := by
  obtain ⟨g, cap, hv, _⟩ := own_some h.dir (by omega)
  have hd := h.dir
  rw [hv] at hd
  have hi := h.inD _ (List.getElem_mem hk)
  obtain ⟨a, c, hr⟩ := own_form (h.rows _ hi)
  exact ⟨g, cap, a, c, hv, hi, own_cell? hd _ _ (flat_get _ k hk).1, own_cell? hd _ _ (flat_get _ k hk).2, hr⟩

set_option maxHeartbeats 800000 in
theorem size_calls (name : ByteArray) (w : World) (b : Nat) (L : DL) (M : DM) (h : DRep w b L M) :
    Calls Try.prog 18 #[.pointer (some ⟨b, 0, none⟩), .string name] w fun e w' =>
      e = .returned (.tuple #[.int .i64 (M.size name).1, .int .i64 (M.size name).2]) ∧ Fr Nil w w' := by
  have hc := h.blk.cell
  simp only [DM.cells] at hc
  have HH := hide h
  have hlen := own_le h.dir
  unfold maxLen at hlen
  rcases look_cases M.dir name with ⟨h1, h2⟩ | ⟨k, hk, h1, h2, _⟩
  · have HM : Hid (M.size name = (0, 11)) := by simp [Hid, DM.size, h2]
    have H1 := hide h1
    clear h h1 h2
    go_enter Try.func18, Try.ntmps18
    go_wp2_with (go_at_call 22; refine (find_miss H1.out _ HH.out.dir).mono ?_; rintro e w1 ⟨rfl, hf⟩)
    go_ret2
    rw [HM.out]
    exact ⟨rfl, hf⟩
  · have HM : Hid (M.size name = (((M.file M.dir[k].2).bytes.length : Int), (0 : Int))) := by simp [Hid, DM.size, h2]
    have H1 := hide h1
    clear h h1 h2
    go_enter Try.func18, Try.ntmps18
    go_wp2_with fail
    refine (find_hit H1.out _ HH.out.dir).mono ?_
    rintro e w1 ⟨rfl, hf⟩
    have h' := HH.out.fr hf (fun _ _ => id)
    clear hc
    have hc := h'.blk.cell
    simp only [DM.cells] at hc
    obtain ⟨g, cap, n, c, hv, hi, _, hp, hs⟩ := h'.entry hk
    have hcf := (h'.files _ hi).cell
    rw [hs] at hcf
    rw [hv] at hc
    clear hs hv h'
    go_wp2
    go_ret2
    rw [HM.out]
    exact ⟨rfl, hf⟩

/-- How many bytes the first k files have. -/
def DM.usedTo (M : DM) (k : Nat) : Int := (M.dir.take k).foldl (fun n e => wrap64 (n + (M.file e.2).bytes.length)) 0
def DM.used (M : DM) : Int := M.usedTo M.dir.length

theorem DM.usedTo_succ (M : DM) (k : Nat) (h : k < M.dir.length) : M.usedTo (k + 1) = wrap64 (M.usedTo k + (M.file M.dir[k].2).bytes.length) := by
  unfold DM.usedTo
  rw [List.take_succ_eq_append_getElem h, List.foldl_append]
  rfl

set_option maxHeartbeats 800000 in
theorem used_calls (w : World) (b : Nat) (L : DL) (M : DM) (h : DRep w b L M) :
    Calls Try.prog 20 #[.pointer (some ⟨b, 0, none⟩)] w fun e w' => e = .returned (.int .i64 M.used) ∧ Fr Nil w w' := by
  have hc := h.blk.cell
  simp only [DM.cells] at hc
  have hlen := own_le h.dir
  unfold maxLen at hlen
  obtain ⟨a, cap, hv⟩ := own_form h.dir
  rw [hv] at hc
  have HH := hide h
  have HV := hide hv
  clear h hv
  go_enter Try.func20, Try.ntmps20
  go_wp2
  clear hc
  go_loopw [3, 11] (fun n t w' => ∃ k : Nat, k ≤ M.dir.length ∧ t = .int .i64 k ∧ n = .int .i64 (M.usedTo k) ∧ Fr Nil w w') (fun _ t _ => M.dir.length - (intOf t).toNat)
  case atStart => exact ⟨0, Nat.zero_le _, rfl, rfl, Fr.refl _ _⟩
  case round =>
    obtain ⟨k, hk, rfl, rfl, hf⟩ := hrel
    have h' := HH.out.fr hf (fun _ _ => id)
    by_cases hlt : k < M.dir.length
    · obtain ⟨g, cap', n, c, hv', hi, he, hp, hs⟩ := h'.entry hlt
      rw [HV.out] at hv'
      simp at hv'
      obtain ⟨rfl, rfl⟩ := hv'
      have hcf := (h'.files _ hi).cell
      rw [hs] at hcf
      have HU := hide (M.usedTo_succ k hlt)
      have hl1 := (h'.files _ hi).lt
      have hl2 := World.block_lt_of_cell? _ _ he
      clear hs h'
      go_wp2
      exact ⟨⟨k + 1, by omega, by go_num, by rw [HU.out], hf.alloc _⟩, by simp [intOf]; omega⟩
    · go_wp2
      go_ret
      have : k = M.dir.length := by omega
      subst this
      exact ⟨rfl, hf⟩

/-- The text of some bytes. -/
def strOf (l : List UInt8) : ByteArray := ⟨l.toArray⟩

def DM.read (M : DM) (name : ByteArray) (at_ n : Int) : ByteArray × Int :=
  match M.dir.look name with
  | none => (ByteArray.empty, 11)
  | some f =>
    if 0 ≤ at_ ∧ 0 ≤ n ∧ at_ ≤ (M.file f).bytes.length ∧ n ≤ (M.file f).bytes.length - at_ then
      (strOf (((M.file f).bytes.drop at_.toNat).take n.toNat), 0)
    else (ByteArray.empty, 12)

set_option maxHeartbeats 800000 in
theorem read_miss (name : ByteArray) (x n : Int) (w : World) (b : Nat) (L : DL) (M : DM) (h : DRep w b L M) (h1 : findI M.dir name = -1) (h2 : M.dir.look name = none) :
    Calls Try.prog 19 #[.pointer (some ⟨b, 0, none⟩), .string name, .int .i64 x, .int .i64 n] w fun e w' =>
      e = .returned (.tuple #[.string (M.read name x n).1, .int .i64 (M.read name x n).2]) ∧ Fr Nil w w' := by
  have hc := h.blk.cell
  simp only [DM.cells] at hc
  have HH := hide h
  have HM : Hid (M.read name x n = (ByteArray.empty, (11 : Int))) := by simp [Hid, DM.read, h2]
  have H1 := hide h1
  clear h h1 h2
  go_enter Try.func19, Try.ntmps19
  go_wp2_with (go_at_call 22; refine (find_miss H1.out _ HH.out.dir).mono ?_; rintro e w1 ⟨rfl, hf⟩)
  go_ret2
  rw [HM.out]
  exact ⟨rfl, hf⟩

set_option maxHeartbeats 800000 in
theorem read_end (name : ByteArray) (x n : Int) (w : World) (b : Nat) (L : DL) (M : DM) (h : DRep w b L M) (k : Nat) (hk : k < M.dir.length) (h1 : findI M.dir name = k) (h2 : M.dir.look name = some M.dir[k].2)
    (hx : ¬ (0 ≤ x ∧ 0 ≤ n ∧ x ≤ (M.file M.dir[k].2).bytes.length ∧ n ≤ (M.file M.dir[k].2).bytes.length - x)) :
    Calls Try.prog 19 #[.pointer (some ⟨b, 0, none⟩), .string name, .int .i64 x, .int .i64 n] w fun e w' =>
      e = .returned (.tuple #[.string (M.read name x n).1, .int .i64 (M.read name x n).2]) ∧ Fr Nil w w' := by
  have hc := h.blk.cell
  simp only [DM.cells] at hc
  have HH := hide h
  have hlen := own_le h.dir
  have hlen2 := own_le (h.rows _ (h.inD _ (List.getElem_mem hk)))
  unfold maxLen at hlen hlen2
  have HM : Hid (M.read name x n = (ByteArray.empty, (12 : Int))) := by simp only [Hid, DM.read, h2]; rw [if_neg hx]
  have H1 := hide h1
  clear h h1 h2
  have hway : x < 0 ∨ (0 ≤ x ∧ n < 0) ∨ (0 ≤ x ∧ 0 ≤ n ∧ ((M.file M.dir[k].2).bytes.length : Int) < x) ∨ (0 ≤ x ∧ 0 ≤ n ∧ x ≤ ((M.file M.dir[k].2).bytes.length : Int) ∧ ((M.file M.dir[k].2).bytes.length : Int) - x < n) := by omega
  clear hx
  rcases hway with a1 | ⟨a1, a2⟩ | ⟨a1, a2, a3⟩ | ⟨a1, a2, a3, a4⟩
  all_goals
    go_enter Try.func19, Try.ntmps19
    go_wp2_with fail
    refine (find_hit H1.out _ HH.out.dir).mono ?_
    rintro e w1 ⟨rfl, hf⟩
    have h' := HH.out.fr hf (fun _ _ => id)
    clear hc
    have hc := h'.blk.cell
    simp only [DM.cells] at hc
    obtain ⟨g, cap, m, c, hv, hi, _, hp, hs⟩ := h'.entry hk
    have hcf := (h'.files _ hi).cell
    rw [hs] at hcf
    rw [hv] at hc
    clear hs hv h'
    go_wp2
    go_ret2
    rw [HM.out]
    exact ⟨rfl, hf⟩

/-- Some bytes out of the middle of a slice, as a text. -/
theorem run_text {P : Program} {t e u : TypeId} (ht : P.underlying t = some (.slice e)) (he : P.underlying e = some (.int .u8)) (hu : P.underlying u = some .string)
    {w : World} {g n cap : Nat} {bs : List UInt8} (h : w.ownsRow 0 5 1 (.slice (some ⟨g, 0, none⟩) n cap) n (u8s bs)) (x m c : Nat) (hx : x + m ≤ bs.length) :
    (convert t u (.slice (some ⟨g, x, none⟩) m c)).run P w = .ok (.string (strOf ((bs.drop x).take m))) w := by
  have hl : (loadCells ⟨g, x, none⟩ m).run P w = .ok ((((bs.drop x).take m).map fun c : UInt8 => (c.toNat : Int)).map (Value.int .u8)).toArray w := by
    have h1 := run_loadCells_list (P := P) w ⟨g, x, none⟩ ((((bs.drop x).take m).map fun c : UInt8 => (c.toNat : Int)).map (Value.int .u8)) (by
      intro j v hv
      have hj : j < m := by
        rcases Nat.lt_or_ge j m with h' | h'
        · exact h'
        · rw [List.getElem?_eq_none (by simp; omega)] at hv; cases hv
      have hadd : (⟨g, x, none⟩ : Addr).add j = ⟨g, x + j, none⟩ := by unfold Addr.add; split <;> simp_all
      rw [hadd]
      refine own_cell? h _ _ ?_
      rw [← hv]
      simp [u8s, hj, List.getElem?_drop]
      rfl)
    have h2 : ((((bs.drop x).take m).map fun c : UInt8 => (c.toNat : Int)).map (Value.int .u8)).length = m := by simp; omega
    rw [h2] at h1
    exact h1
  rw [run_convert_bytes_string w t u e _ m c ht he hu, run_bytesToString w _ m c _ hl]
  congr 2
  have key : ∀ (l : List UInt8) (acc : ByteArray), (l.map fun c : UInt8 => (c.toNat : Int)).foldl (fun r n => r.push (UInt8.ofNat n.toNat)) acc = ⟨(acc.data.toList ++ l).toArray⟩ := by
    intro l
    induction l with
    | nil => intro acc; simp
    | cons a l ih =>
      intro acc
      simp only [List.map_cons, List.foldl_cons]
      rw [ih]
      simp [ByteArray.push]
  rw [key]
  rfl

set_option maxHeartbeats 800000 in
theorem read_some (name : ByteArray) (x n : Nat) (w : World) (b : Nat) (L : DL) (M : DM) (h : DRep w b L M) (k : Nat) (hk : k < M.dir.length) (h1 : findI M.dir name = k) (h2 : M.dir.look name = some M.dir[k].2)
    (hx : x + n ≤ (M.file M.dir[k].2).bytes.length) (h0 : 0 < n) :
    Calls Try.prog 19 #[.pointer (some ⟨b, 0, none⟩), .string name, .int .i64 x, .int .i64 n] w fun e w' =>
      e = .returned (.tuple #[.string (M.read name x n).1, .int .i64 (M.read name x n).2]) ∧ Fr Nil w w' := by
  have hc := h.blk.cell
  simp only [DM.cells] at hc
  have HH := hide h
  have hlen := own_le h.dir
  have hlen2 := own_le (h.rows _ (h.inD _ (List.getElem_mem hk)))
  unfold maxLen at hlen hlen2
  have HM : Hid (M.read name x n = (strOf (((M.file M.dir[k].2).bytes.drop x).take n), (0 : Int))) := by simp only [Hid, DM.read, h2]; rw [if_pos (by omega)]; simp
  have H1 := hide h1
  clear h h1 h2
  have a1 : ¬ (x : Int) < 0 := by omega
  have a2 : ¬ (n : Int) < 0 := by omega
  have a3 : ¬ ((M.file M.dir[k].2).bytes.length : Int) < x := by omega
  have a4 : ¬ ((M.file M.dir[k].2).bytes.length : Int) - x < n := by omega
  go_enter Try.func19, Try.ntmps19
  go_wp2_with fail
  refine (find_hit H1.out _ HH.out.dir).mono ?_
  rintro e w1 ⟨rfl, hf⟩
  have h' := HH.out.fr hf (fun _ _ => id)
  clear hc
  have hc := h'.blk.cell
  simp only [DM.cells] at hc
  obtain ⟨g, cap, m, c, hv, hi, _, hp, hs⟩ := h'.entry hk
  have hr := h'.rows _ hi
  obtain ⟨gb, cb, hs', hcl, hcm⟩ := own_some hr (by omega)
  have hcf := (h'.files _ hi).cell
  rw [hs'] at hcf hr
  rw [hv] at hc
  unfold maxLen at hcm
  have hcx : ¬ cb = x := by omega
  have hcv := run_text (P := Try.prog) (t := 52) (u := 9) Try.underlying52 Try.underlying5 Try.underlying9 hr x n (cb - x) hx
  clear hs hv h' hr hs'
  go_wp2
  go_ret2
  rw [HM.out]
  exact ⟨rfl, hf⟩

theorem run_text0 {P : Program} {t e u : TypeId} (ht : P.underlying t = some (.slice e)) (he : P.underlying e = some (.int .u8)) (hu : P.underlying u = some .string)
    (w : World) (a : Option Addr) (c : Nat) : (convert t u (.slice a 0 c)).run P w = .ok (.string ByteArray.empty) w := by
  rw [run_convert_bytes_string w t u e _ 0 c ht he hu]
  cases a with
  | none => rfl
  | some a => exact run_bytesToString w a 0 c [] (by rfl)

set_option maxHeartbeats 800000 in
theorem read_zero (name : ByteArray) (x : Nat) (w : World) (b : Nat) (L : DL) (M : DM) (h : DRep w b L M) (k : Nat) (hk : k < M.dir.length) (h1 : findI M.dir name = k) (h2 : M.dir.look name = some M.dir[k].2)
    (hx : x ≤ (M.file M.dir[k].2).bytes.length) :
    Calls Try.prog 19 #[.pointer (some ⟨b, 0, none⟩), .string name, .int .i64 x, .int .i64 0] w fun e w' =>
      e = .returned (.tuple #[.string (M.read name x 0).1, .int .i64 (M.read name x 0).2]) ∧ Fr Nil w w' := by
  have hc := h.blk.cell
  simp only [DM.cells] at hc
  have HH := hide h
  have hlen := own_le h.dir
  have hlen2 := own_le (h.rows _ (h.inD _ (List.getElem_mem hk)))
  unfold maxLen at hlen hlen2
  have HM : Hid (M.read name x 0 = (ByteArray.empty, (0 : Int))) := by simp only [Hid, DM.read, h2]; rw [if_pos (by omega)]; simp [strOf]; rfl
  have H1 := hide h1
  clear h h1 h2
  have a1 : ¬ (x : Int) < 0 := by omega
  have a3 : ¬ ((M.file M.dir[k].2).bytes.length : Int) < x := by omega
  have a4 : ¬ ((M.file M.dir[k].2).bytes.length : Int) - x < 0 := by omega
  go_enter Try.func19, Try.ntmps19
  go_wp2_with fail
  refine (find_hit H1.out _ HH.out.dir).mono ?_
  rintro e w1 ⟨rfl, hf⟩
  have h' := HH.out.fr hf (fun _ _ => id)
  clear hc
  have hc := h'.blk.cell
  simp only [DM.cells] at hc
  obtain ⟨g, cap, m, c, hv, hi, _, hp, hs⟩ := h'.entry hk
  have hr := h'.rows _ hi
  have hcl : (M.file M.dir[k].2).bytes.length ≤ c ∧ c ≤ maxLen := by
    rcases hr.2 with ⟨h1, h2⟩ | ⟨_, _, _, h1, _, _, h2, h3, _⟩
    · rw [hs] at h1; simp at h1; omega
    · rw [hs] at h1; simp at h1; omega
  unfold maxLen at hcl
  obtain ⟨hcl, hcm⟩ := hcl
  have hcf := (h'.files _ hi).cell
  rw [hs] at hcf
  rw [hv] at hc
  have hcv := run_text0 (P := Try.prog) (t := 52) (u := 9) Try.underlying52 Try.underlying5 Try.underlying9 w1
  clear hs hv h' hr
  go_wp2
  all_goals
    go_ret2
    rw [HM.out]
    exact ⟨rfl, hf⟩

/-- Read, whatever is asked. -/
theorem read_calls (name : ByteArray) (x n : Int) (w : World) (b : Nat) (L : DL) (M : DM) (h : DRep w b L M) :
    Calls Try.prog 19 #[.pointer (some ⟨b, 0, none⟩), .string name, .int .i64 x, .int .i64 n] w fun e w' =>
      e = .returned (.tuple #[.string (M.read name x n).1, .int .i64 (M.read name x n).2]) ∧ Fr Nil w w' := by
  rcases look_cases M.dir name with ⟨h1, h2⟩ | ⟨k, hk, h1, h2, _⟩
  · exact read_miss name x n w b L M h h1 h2
  · by_cases hx : 0 ≤ x ∧ 0 ≤ n ∧ x ≤ (M.file M.dir[k].2).bytes.length ∧ n ≤ (M.file M.dir[k].2).bytes.length - x
    · obtain ⟨a, b', c, d⟩ := hx
      obtain ⟨x, rfl⟩ := Int.eq_ofNat_of_zero_le a
      obtain ⟨n, rfl⟩ := Int.eq_ofNat_of_zero_le b'
      rcases Nat.eq_zero_or_pos n with rfl | hn
      · exact read_zero name x w b L M h k hk h1 h2 (by omega)
      · exact read_some name x n w b L M h k hk h1 h2 (by omega) hn
    · exact read_end name x n w b L M h k hk h1 h2 hx

end Go.Proofs.Ytkhnggkkiefcdaa
