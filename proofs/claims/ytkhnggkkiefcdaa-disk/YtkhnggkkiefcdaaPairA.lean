/-
  The closed sentence on the disk: two disks beside one another, and a copy.
-/
import Derived.Test.YtkhnggkkiefcdaaCopyA
import Derived.Test.YtkhnggkkiefcdaaDiskY
namespace Go.Proofs.Ytkhnggkkiefcdaa
open Go.RowKit

/-- Two disks that stand apart. -/
structure Two (w0 w : World) (b : Nat) (L : DL) (M : DM) (b' : Nat) (L' : DL) (M' : DM) : Prop where
  one : Own w0 w b L M
  two : Own w0 w b' L' M'
  apart : ∀ k, Foot b L M k → ¬ Foot b' L' M' k

theorem Two.swap {w0 w : World} {b b' : Nat} {L L' : DL} {M M' : DM} (h : Two w0 w b L M b' L' M') : Two w0 w b' L' M' b L M :=
  ⟨h.two, h.one, fun k h1 h2 => h.apart k h2 h1⟩

theorem Two.more {w0 w w' : World} {b b' : Nat} {L L' : DL} {M M' : DM} (h : Two w0 w b L M b' L' M') (f : Fr Nil w w') : Two w0 w' b L M b' L' M' :=
  ⟨h.one.more f, h.two.more f, h.apart⟩

theorem Two.step {w0 w w' : World} {b b' : Nat} {L L' L2 : DL} {M M' M2 : DM} (h : Two w0 w b L M b' L' M') (s : DStep b L M w L2 M2 w') : Two w0 w' b L2 M2 b' L' M' := by
  have h1 := h.one.step s
  refine ⟨h1, ⟨h.two.rep.fr s.fr (fun k h2 h1 => h.apart k h1 h2), h1.fr, h.two.new⟩, ?_⟩
  intro k h3 h2
  rcases s.foot k h3 with e | e
  · exact h.apart k e h2
  · have := h.two.rep.lt h2
    omega

theorem Two.copied {w0 w w' : World} {b b' : Nat} {L L' : DL} {M M' : DM} (h : Own w0 w b L M) (o : Own w w' b' L' M') : Two w0 w' b L M b' L' M' := by
  have hs := h.fr.size
  refine ⟨h.more o.fr, ⟨o.rep, h.fr.trans o.fr, fun k hk => Nat.le_trans hs (o.new k hk)⟩, ?_⟩
  intro k h1 h2
  have e1 := h.rep.lt h1
  have e2 := o.new k h2
  omega

theorem Two.crash_lit {w0 w : World} {b b' : Nat} {L L' : DL} {M M' : DM} (h : Two w0 w b L M b' L' M') (dirs x : Int) (t : TypeId) (hd1 : -9223372036854775808 ≤ dirs) (hd2 : dirs ≤ 9223372036854775807) (hx1 : -9223372036854775808 ≤ x) (hx2 : x ≤ 9223372036854775807)
    (hfl : ∀ f, f ∈ M.ids → (M.file f).bytes.length ≤ 1000000000000) (hn : M.chs.length + 1 ≤ 1000000000000) (hm : ∀ d, d ∈ M.safe :: M.chs → d.length ≤ 1000000000000) :
    Calls Try.prog 6 #[.pointer (some ⟨b, 0, none⟩), .int .i64 dirs, .slice (some ⟨w.heap.size, 0, none⟩) 1 1] (w.alloc (.cells #[.int .i64 x] t)) fun e w' =>
      e = .returned (.tuple #[]) ∧ ∃ L2, Two w0 w' b L2 (M.crash dirs [x]) b' L' M' := by
  have h' := h.more ((Fr.refl Nil w).alloc (.cells #[.int .i64 x] t))
  refine (crash_calls dirs [x] _ _ b L M h'.one.rep hd1 hd2 (ints_new w x t) ?_ ?_ hfl hn hm).mono ?_
  · intro k hk hf
    simp [Value.ownBlock] at hk
    have := Foot.lt h.one.rep hf
    omega
  · intro y hy
    simp at hy
    subst hy
    exact ⟨hx1, hx2⟩
  · rintro e w' ⟨h1, L2, h2⟩
    exact ⟨h1, L2, h'.step h2⟩

theorem twin_one {ps : List (Nat × Nat)} {f g : Nat} (hn : (ps.map Prod.fst).Nodup) (hg : (f, g) ∈ ps) (n : ByteArray) : twinDir ps [(n, f)] = [(n, g)] := by
  simp only [twinDir, List.map_cons, List.map_nil, second_of hn hg]

theorem calm_twin (dir safe : Dir) (chs : List Dir) (file : Nat → FM) (ids : List Nat) (c : Nat) (ps : List (Nat × Nat)) :
    (DM.calm dir safe chs file ids c).twin ps = DM.calm (twinDir ps dir) (twinDir ps safe) (chs.map (twinDir ps)) (fun g => file (first ps g)) (ps.map Prod.snd) c := rfl

/-- The copy of the sentence's last disk. -/
theorem calm_copied {w w' : World} {e : Ending} (f : Nat) (x : FM) (h : CopySaid w (DM.calm [(nB, f)] [(nA, f)] ([] ++ [[(nB, f)]]) (fileAt f x) [f] 6) e w') :
    ∃ b' g L' file' ids', e = .returned (.pointer (some ⟨b', 0, none⟩)) ∧ Own w w' b' L' (DM.calm [(nB, g)] [(nA, g)] [[(nB, g)]] file' ids' 6) ∧ file' g = x ∧ (∀ i, i ∈ ids' → file' i = x) := by
  obtain ⟨b', L', ps, rfl, ho, n1, n2, hp, hh⟩ := h
  obtain ⟨g, hg⟩ := hh (nB, f) (.inl (List.mem_singleton.2 rfl))
  rw [calm_twin, twin_one n1 hg, twin_one n1 hg] at ho
  have ec : List.map (twinDir ps) ([] ++ [[(nB, f)]]) = [[(nB, g)]] := by
    simp only [List.nil_append, List.map_cons, List.map_nil, twin_one n1 hg]
  rw [ec] at ho
  refine ⟨b', g, L', _, _, rfl, ho, ?_, ?_⟩
  · show fileAt f x (first ps g) = x
    rw [first_of n2 hg]
    exact fileAt_self f x
  · intro i hi
    obtain ⟨p, hpm, rfl⟩ := List.mem_map.1 hi
    have e1 : p.1 = f := List.mem_singleton.1 (hp p hpm).1
    show fileAt f x (first ps p.2) = x
    rw [first_of n2 hpm, e1]
    exact fileAt_self f x

theorem apart_crash (g : Nat) (file' : Nat → FM) (ids' : List Nat) (hf : file' g = ⟨[120, 121], 1⟩) : ((DM.calm [(nB, g)] [(nA, g)] [[(nB, g)]] file' ids' 6).crash 0 [1]).dir = [(nA, g)] ∧ ((DM.calm [(nB, g)] [(nA, g)] [[(nB, g)]] file' ids' 6).crash 0 [1]).file g = ⟨[120, 121], 2⟩ := by
  have h := calm_crash nA nAA g ⟨[120, 121], 1⟩ [(nB, g)] [(nA, g)] [[(nB, g)]] file' ids' 6 0 [1] hf rfl
  exact h

end Go.Proofs.Ytkhnggkkiefcdaa
