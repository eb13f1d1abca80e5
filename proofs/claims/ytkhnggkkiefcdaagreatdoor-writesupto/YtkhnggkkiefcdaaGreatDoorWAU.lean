/-
  larder: writes_holds: the texts AskC, StpB, OpeA, OpeB, PlaB, ReaA, WriA, WriB, joined; 
-/
import Derived.Test.YtkhnggkkiefcdaaGreatDoorWAT
import Derived.OpenShut
import Derived.Deep.Slices
import Derived.LaidSub
import Derived.Lib.LaidTab
import Derived.Test.YtkhnggkkiefcdaaGreatDoorCards
import Derived.Test.YtkhnggkkiefcdaaGreatDoorTie
import Derived.WalkKit
import Derived.ProofKit
import Derived.Carry
import Derived.Lay
import Derived.LaidHandle
import Derived.Deep.DeepHandedRow
import Derived.Deep.DeepWitnessRowRef
namespace Go.Proofs.YtkhnggkkiefcdaaGreatDoor
open Go.RowKit
set_option maxRecDepth 100000
set_option maxHeartbeats 3200000 in
theorem asks_hints (K : Nat → Prop) (B : Nat) (L : WL) (W : WM) (X : NL) (N : NM) (M : DM) (o : OpM) (w : World) (h : Play K B w L W X N M) (hk : o.kind = 8) (hp : 0 < L.ps.length) (hl : L.ps.length < 1000000)
    (m : LM) (hm : W.st[L.ps.length - 1]? = some m) (hhe : m.hints = N.S.hints) (hhl : N.S.hints.length < 1000) (hbs : BSmall W.bk) (hba : W.base < 100000000) (hnx : W.next < 100000000) :
    Calls Tryz.prog 65 #[.pointer (some ⟨L.wb, 0, none⟩), .agg o.cells.toArray] w fun e w' => e = .returned (.bool true) ∧ ∃ L' bk', PStep K B L X M w K L' (W.booked bk') X N M w' ∧ L'.ps = L.ps ∧ Booked W.bk bk' := by
  obtain ⟨kind, a, b, c, key, text, v, tails⟩ := o
  simp only at *
  subst hk
  simp only [OpM.cells, Ver.cells, List.cons_append, List.nil_append]
  have f1 : Fr Nil w (w.alloc (.cells #[.int .i64 8, .int .i64 a, .int .i64 b, .int .i64 c, .string key, .string text, .int .i64 v.node, .int .i64 v.seq, .int .i64 v.o0, .int .i64 v.o1, .int .i64 v.o2, .int .i64 v.o3, .string v.value, .bool v.gone, tails] 39)) := (Fr.refl _ _).alloc _
  have hb1 := Blk.new w [.int .i64 8, .int .i64 a, .int .i64 b, .int .i64 c, .string key, .string text, .int .i64 v.node, .int .i64 v.seq, .int .i64 v.o0, .int .i64 v.o1, .int .i64 v.o2, .int .i64 v.o3, .string v.value, .bool v.gone, tails] 39
  have HC := hide (fun wx (f : Fr Nil w wx) => calls_calls wx L.db X.LD M ((h.marks).nil f))
  have HNOW := hide (fun wx (f : Fr Nil w wx) => now_calls K L W wx (h.wat.nil f) hp (by omega))
  have hple : L.ps.length = W.st.length := h.wat.ple
  have hlm : W.st[L.ps.length - 1]'(by omega) = m := by rw [List.getElem?_eq_getElem (by omega)] at hm; exact Option.some.inj hm
  have hlast := (h.wat.last hp).2
  simp only [hlm] at hlast
  obtain ⟨q, hqq⟩ : ∃ q, q = L.ps[L.ps.length - 1] := ⟨_, rfl⟩
  rw [← hqq] at hlast HNOW
  obtain ⟨kv, hv, ents, ha, hKb⟩ := hlast
  have hcw : ∀ wx, Fr Nil w wx → ∀ k, wx.cell? ⟨L.wb, k, none⟩ = (W.cells L)[k]? := fun wx f => (h.wat.nil f).blk.cell
  have HCW := hide hcw
  have hc0 := hcw _ f1
  simp only [WM.cells, h.nv] at hc0
  have hc1 := hb1.cell
  have HF1 := hide f1
  have HB1 := hide hb1
  have HH := hide h
  have HA := hide ha
  have HHI := hide (fun wx (f : Fr Nil w wx) => hints_calls X N M wx (h.node.nil f) (by omega))
  have HBK := hide (fun lv l wx f hl hn hlen => bookH_calls K L W lv l w wx h.wat f hl hn hlen hba hnx hbs)
  have hro := ha.hint
  rw [hhe] at hro
  have HRO := hide hro
  obtain ⟨ja, jc, hjv⟩ := own_form hro
  have HJV := hide hjv
  have HHL := hide hhl
  clear h f1 hb1 hlm hqq ha hcw hKb hple hm hhe hhl hbs hba hnx hro hjv
  go_enter Tryz.func65, Tryz.ntmps65
  go_wp2_with (refine (HC.out _ HF1.out).mono ?_; rintro e wx ⟨rfl, hwx⟩; subst wx)
  refine (HNOW.out _ HF1.out).mono ?_
  rintro e w2 ⟨rfl, n2, hw2⟩
  subst w2
  have hF2 : Fr Nil w ((w.alloc (.cells #[.int .i64 8, .int .i64 a, .int .i64 b, .int .i64 c, .string key, .string text, .int .i64 v.node, .int .i64 v.seq, .int .i64 v.o0, .int .i64 v.o1, .int .i64 v.o2, .int .i64 v.o3, .string v.value, .bool v.gone, tails] 39)).drewN n2) := HF1.out.drewN n2
  have hc2 := HCW.out _ hF2
  simp only [WM.cells, HH.out.nv] at hc2
  have hb2 : Blk ((w.alloc (.cells #[.int .i64 8, .int .i64 a, .int .i64 b, .int .i64 c, .string key, .string text, .int .i64 v.node, .int .i64 v.seq, .int .i64 v.o0, .int .i64 v.o1, .int .i64 v.o2, .int .i64 v.o3, .string v.value, .bool v.gone, tails] 39)).drewN n2) w.heap.size [.int .i64 8, .int .i64 a, .int .i64 b, .int .i64 c, .string key, .string text, .int .i64 v.node, .int .i64 v.seq, .int .i64 v.o0, .int .i64 v.o1, .int .i64 v.o2, .int .i64 v.o3, .string v.value, .bool v.gone, tails] 39 := HB1.out.drewN n2
  have HB2 := hide hb2
  have hx2 := hb2.cell
  have HF2 := hide hF2
  clear hc0 hc1 hF2 hb2
  generalize (w.alloc (.cells #[.int .i64 8, .int .i64 a, .int .i64 b, .int .i64 c, .string key, .string text, .int .i64 v.node, .int .i64 v.seq, .int .i64 v.o0, .int .i64 v.o1, .int .i64 v.o2, .int .i64 v.o3, .string v.value, .bool v.gone, tails] 39)).drewN n2 = w2 at hc2 hx2 HF2 HB2 ⊢
  generalize hbb : w.heap.size = bb at hx2 HB2 ⊢
  have HBB := hide hbb
  clear hbb
  go_wp2_with fail
  refine (HHI.out w2 HF2.out).mono ?_
  rintro e w4 ⟨v4, rfl, hv4, hf4, hn4⟩
  obtain ⟨va4, vc4, rfl⟩ := own_form hv4
  have HV4 := hide hv4
  have HN4 : Hid (∀ k, (Value.slice va4 N.S.hints.length vc4).ownBlock = some k → w.heap.size ≤ k) := fun k e => Nat.le_trans HF2.out.size (hn4 k e)
  have HF4 := hide (HF2.out.trans hf4)
  have hq4 := (HA.out.nil HF4.out).blk.cell
  rw [HJV.out] at hq4
  have HSAME := hide (sameHints_calls _ _ N.S.hints N.S.hints w4 HV4.out (own_fr HRO.out HF4.out (fun _ _ => id)) (by have := HHL.out; omega))
  rw [HJV.out] at HSAME
  have HSB : Hid (decide (N.S.hints = N.S.hints) = true) := by show _ = _; simp
  rw [HSB.out] at HSAME
  clear hc2 hx2 hv4 hf4 hn4
  go_wp2_with fail
  refine HSAME.out.mono ?_
  rintro e w6 ⟨rfl, f6⟩
  have HF6 := hide (HF4.out.trans f6)
  have HV6 := hide (own_fr HV4.out f6 (fun _ _ => id))
  have hc6 := HCW.out w6 HF6.out
  simp only [WM.cells, HH.out.nv] at hc6
  clear hq4 f6
  go_wp2_with fail
  refine (HBK.out _ _ w6 HF6.out HV6.out HN4.out (by have := HHL.out; omega)).mono ?_
  rintro e w7 ⟨rfl, L7, bk7, hs7, hbk7, hps7⟩
  have hP7 := HH.out.turn hs7
  have HC7 := hide (calls_calls w7 L.db X.LD M (by have := hP7.rep.marks; rw [hs7.db] at this; exact this))
  have hc7 := hP7.rep.wat.blk.cell
  rw [hs7.wb] at hc7
  simp only [WM.cells, hs7.db] at hc7
  have HP7 := hide hP7
  have HB7 := hide hbk7
  have HPS7 := hide hps7
  clear hc6 hP7 hs7 hbk7 hps7
  go_wp2_with (refine HC7.out.mono ?_; rintro e wx ⟨rfl, hwx⟩; subst wx)
  go_ret
  exact ⟨rfl, L7, bk7, HP7.out, HPS7.out, HB7.out⟩
structure Live (T : Nat) (K : Nat → Prop) (B : Nat) (w : World) (L : WL) (W : WM) (X : NL) (N : NM) (M : DM) (m : LM) (t : Nat) : Prop where
  play : Play K B w L W X N M
  inv : NInv T W N M m t
  ps : L.ps ≠ []
  self : N.self < 4
def Went (T B : Nat) (L : WL) (X : NL) (M : DM) (w : World) (t : Nat) (w' : World) : Prop :=
  ∃ K' L' W' X' N' M' m', Live T K' B w' L' W' X' N' M' m' (t + 8) ∧ L'.wb = L.wb ∧ Fr (PFoot L X M) w w' ∧ ∀ k, PFoot L' X' M' k → PFoot L X M k ∨ w.heap.size ≤ k
theorem Live.went {T B t : Nat} {K K' : Nat → Prop} {L L' : WL} {W W' : WM} {X X' : NL} {N N' : NM} {M M' : DM} {m m' : LM} {w w' : World} (h : Live T K B w L W X N M m t) (s : PStep K B L X M w K' L' W' X' N' M' w') (hinv : NInv T W' N' M' m' (t + 8)) (hps : L'.ps ≠ []) (hn : m'.node = m.node) : Went T B L X M w t w' :=
  ⟨K', L', W', X', N', M', m', ⟨s.rep, hinv, hps, by have h1 := hinv.self; have h2 := h.inv.self; have h3 := h.self; rw [hn, h2] at h1; omega⟩, s.wb, s.fr, s.foot⟩
theorem badPut_zero {key text : ByteArray} (h : badPut key text = 0) : keyOk key = true ∧ text.size ≤ 128 := by
  unfold badPut at h
  split at h
  · rename_i hk
    split at h
    · cases h
    · exact ⟨hk, by omega⟩
  · cases h
theorem badKey_zero {key : ByteArray} (h : badKey key = 0) : keyOk key = true := by
  unfold badKey at h
  split at h
  · assumption
  · cases h
theorem accWay_cases (l : List Ver) (v : Ver) : accWay l v = 0 ∨ accWay l v = 1 ∨ accWay l v = 2 := by
  unfold accWay
  repeat' split
  all_goals simp
set_option maxHeartbeats 1600000 in
theorem live_step (herr : ErrnoSaid) {T B t : Nat} {K : Nat → Prop} {L : WL} {W : WM} {X : NL} {N : NM} {M : DM} {m : LM} {w : World} (h : Live T K B w L W X N M m t) (ht : t + 8 ≤ T) (hT : T ≤ 900000) (o : OpM) (hk1 : o.kind ≠ 1) (hk2 : o.kind ≠ 11) (hk3 : o.kind ≠ 12) (hk4 : o.kind ≠ 13) (hk5 : o.kind ≠ 14) (hk6 : o.kind ≠ 15) :
    Calls Tryz.prog 18 #[.pointer (some ⟨L.wb, 0, none⟩), .agg o.cells.toArray] w fun e w' => e = .returned (.bool true) ∧ Went T B L X M w t w' := by
  have hp : 0 < L.ps.length := Nat.pos_of_ne_zero (fun e => h.ps (List.eq_nil_of_length_eq_zero e))
  have hple := h.play.wat.ple
  have hlen := h.inv.len
  have hl : L.ps.length < 1000000 := by omega
  have hca : W.calls < 10000000 := by have := h.inv.calls; omega
  have hwr : W.writes < 100000000 := by have := h.inv.ww; omega
  have hm : W.st[L.ps.length - 1]? = some m := by rw [hple]; exact h.inv.last
  have hmk : m.keys.length < 100000000 := by rw [h.inv.keys]; have := h.inv.nk; omega
  have hnk : N.S.keys.length < 1099511627776 := by have := h.inv.nk; omega
  have hmh : m.hints.length < 1000000 := by rw [h.inv.hints]; have := h.inv.held.hlen; omega
  have hhe : N.S.hints.length = m.hints.length := by rw [h.inv.hints]
  have hba : W.base < 100000000 := by have := h.inv.base; omega
  have hnx : W.next < 100000000 := by have := h.inv.next; omega
  have hbs := h.inv.small (by omega)
  have hnil : ∀ wx, Fr Nil w wx → PStep K B L X M w K L W X N M wx := fun wx f => h.play.nil f
  have hids : ∀ wx, Fr Nil w wx → ∀ g ∈ M.ids, g < wx.heap.size := fun wx f g hg => ((hnil wx f).rep.node.disk.files g hg).lt
  have hgk := h.inv.held.get o.key
  have hno : ∀ u ∈ getK N.S.keys o.key, isNode u.node := fun u hu => (hgk.2.2 u hu).node
  have hver := h.inv.ver o.key
  have hst := h.inv.more (show t ≤ t + 8 by omega)
  by_cases c2 : o.kind = 2
  · refine step_2 K L W X.nb o w h.play.wat h.play.nv c2 _ (fun wx f => ?_)
    have hx := hnil wx f
    by_cases hb : badPut o.key o.text = 0
    · obtain ⟨hkey, hval⟩ := badPut_zero hb
      obtain ⟨hfit, hcalm⟩ := h.inv.put (H0 := wx.heap.size) ht h.self (hids wx f) o.key o.text hkey hval
      refine (puts_put herr K B L W X N M o wx hx.rep c2 h.inv.broken hp hl hca hwr hkey hval hno m hm hmk (by rw [hver]; exact hno) hfit (fun f g a b c => ⟨(hcalm f g a b c).1, (hcalm f g a b c).2.1, (hcalm f g a b c).2.2.1, (hcalm f g a b c).2.2.2.1⟩)).mono ?_
      rintro e w' ⟨rfl, f', g', K', L', X', hf, hg, ha, hps, hs⟩
      exact ⟨rfl, h.went (hx.trans hs) (hcalm f' g' hf hg ha).2.2.2.2 hps rfl⟩
    · refine (puts_bad herr K B L W X N M o wx hx.rep c2 hb hno).mono ?_
      rintro e w' ⟨rfl, X', hs⟩
      exact ⟨rfl, h.went (hx.trans hs) hst h.ps rfl⟩
  by_cases c3 : o.kind = 3
  · refine step_3 K L W X.nb o w h.play.wat h.play.nv c3 _ (fun wx f => ?_)
    have hx := hnil wx f
    by_cases hb : badKey o.key = 0
    · obtain ⟨hfit, hcalm⟩ := h.inv.delete (H0 := wx.heap.size) ht (hids wx f) o.key (badKey_zero hb)
      refine (puts_delete herr K B L W X N M o wx hx.rep c3 h.inv.broken hp hl hca hwr (badKey_zero hb) m hm hmk hfit (fun f g a b c => ⟨(hcalm f g a b c).1, (hcalm f g a b c).2.1, (hcalm f g a b c).2.2.1, (hcalm f g a b c).2.2.2.1⟩)).mono ?_
      rintro e w' ⟨rfl, f', g', K', L', X', hf, hg, ha, hps, hs⟩
      exact ⟨rfl, h.went (hx.trans hs) (hcalm f' g' hf hg ha).2.2.2.2 hps rfl⟩
    · refine (deletes_bad herr K B L W X N M o wx hx.rep c3 hb).mono ?_
      rintro e w' ⟨rfl, X', hs⟩
      exact ⟨rfl, h.went (hx.trans hs) hst h.ps rfl⟩
  by_cases c4 : o.kind = 4
  · refine step_4 K L W X.nb o w h.play.wat h.play.nv c4 _ (fun wx f => ?_)
    have hx := hnil wx f
    have hfit : ∀ H, wx.heap.size ≤ H → keyOk o.key = true → o.v.value.size ≤ 128 → foreign N.self o.v = true → (o.v.gone = false → (leftV (getK N.S.keys o.key) o.v).length < 4) → Fit N M H (.inr (.inl (o.key, accV (getK N.S.keys o.key) o.v))) :=
      fun H hH a b c d => h.inv.fitV ht (hids wx f) o.key o.v H hH a b c d
    by_cases hb : badVersion N.self o.key o.v = 0
    · have hnv : isNode o.v.node := by
        unfold badVersion at hb
        split at hb
        · cases hb
        · split at hb
          · cases hb
          · split at hb
            · cases hb
            · rename_i hf
              exact foreign_node (by simpa using hf)
      rcases accWay_cases (getK N.S.keys o.key) o.v with hw | hw | hw
      · refine (accepts_same herr K B L W X N M o wx hx.rep h.inv.broken hp hl hno hgk.1 hnk (by omega) hfit m hm h.inv.self hb h.inv.ro hver hmk (by omega) hnv hw).mono ?_
        rintro e w' ⟨rfl, X', hs⟩
        exact ⟨rfl, h.went (hx.trans hs) hst h.ps rfl⟩
      · refine (accepts_many herr K B L W X N M o wx hx.rep h.inv.broken hp hl hno hgk.1 hnk (by omega) hfit m hm h.inv.self hb h.inv.ro hver hmk (by omega) hnv hw).mono ?_
        rintro e w' ⟨rfl, X', hs⟩
        exact ⟨rfl, h.went (hx.trans hs) hst h.ps rfl⟩
      · have hcalm := h.inv.accept ht (hids wx f) o.key o.v hb hw
        refine (accepts_took herr K B L W X N M o wx hx.rep h.inv.broken hp hl hno hgk.1 hnk (by omega) hfit m hm h.inv.self hb hver hmk (by omega) hnv hw hwr (fun f a => ⟨(hcalm f a).1, (hcalm f a).2.1⟩)).mono ?_
        rintro e w' ⟨rfl, f', K', L', X', hf, hps, hs⟩
        exact ⟨rfl, h.went (hx.trans hs) (hcalm f' hf).2.2 hps rfl⟩
    · refine (accepts_bad herr K B L W X N M o wx hx.rep h.inv.broken hp hl hno hgk.1 hnk (by omega) hfit m hm h.inv.self hb).mono ?_
      rintro e w' ⟨rfl, X', hs⟩
      exact ⟨rfl, h.went (hx.trans hs) hst h.ps rfl⟩
  by_cases c7 : o.kind = 7
  · refine step_7 K L W X.nb o w h.play.wat h.play.nv c7 _ (fun wx f => ?_)
    have hx := hnil wx f
    have hfit : ∀ H, wx.heap.size ≤ H → o.text.size ≤ 64 → nodeOk o.a = true → Fit N M H (.inr (.inr (.inl (o.a.toNat, o.text)))) := fun H hH a b => h.inv.fitH ht (hids wx f) o.a o.text H hH a b
    by_cases hb : badHint N.self o.a o.text = 0
    · obtain ⟨tn, htn⟩ : ∃ tn : Nat, o.a = tn := by
        cases hk : nodeOk o.a with
        | true =>
          unfold nodeOk at hk
          simp only [decide_eq_true_eq] at hk
          exact ⟨o.a.toNat, by omega⟩
        | false => unfold badHint at hb; rw [if_pos (by rw [hk]; rfl)] at hb; cases hb
      by_cases hmany : 32 ≤ m.hints.length
      · refine (hints_many herr K B L W X N M o wx hx.rep c7 h.inv.broken hp hl hfit m hm h.inv.self hmh tn htn hb h.inv.ro hmany hhe).mono ?_
        rintro e w' ⟨rfl, X', hs⟩
        exact ⟨rfl, h.went (hx.trans hs) hst h.ps rfl⟩
      · have hcalm := h.inv.hint ht (hids wx f) tn o.text (by rw [← htn]; exact hb) (by omega)
        rw [← htn] at hcalm
        refine (hints_took herr K B L W X N M o wx hx.rep c7 h.inv.broken hp hl hfit m hm h.inv.self hmh tn htn hb (by omega) hwr (fun f a => ⟨(hcalm f a).1, (hcalm f a).2.1⟩)).mono ?_
        rintro e w' ⟨rfl, f', K', L', X', hf, hps, hs⟩
        exact ⟨rfl, h.went (hx.trans hs) (hcalm f' hf).2.2 hps rfl⟩
    · refine (hints_bad herr K B L W X N M o wx hx.rep c7 h.inv.broken hp hl hfit m hm h.inv.self hb).mono ?_
      rintro e w' ⟨rfl, X', hs⟩
      exact ⟨rfl, h.went (hx.trans hs) hst h.ps rfl⟩
  by_cases c9 : o.kind = 9
  · refine step_9 K L W X.nb o w h.play.wat h.play.nv c9 _ (fun wx f => ?_)
    have hx := hnil wx f
    have hfit : ∀ H, wx.heap.size ≤ H → Fit N M H (.inr (.inr (.inr ()))) := fun H hH => h.inv.fitA ht (hids wx f) H hH
    by_cases hmany : m.hints = []
    · refine (acks_none herr K B L W X N M o wx hx.rep c9 h.inv.broken hp hl hfit m hm hmh h.inv.ro hmany hhe).mono ?_
      rintro e w' ⟨rfl, X', hs⟩
      exact ⟨rfl, h.went (hx.trans hs) hst h.ps rfl⟩
    · have hcalm := h.inv.ack ht (hids wx f) hmany
      refine (acks_took herr K B L W X N M o wx hx.rep c9 h.inv.broken hp hl hfit m hm hmh hmany hwr (fun f a => ⟨(hcalm f a).1, (hcalm f a).2.1⟩)).mono ?_
      rintro e w' ⟨rfl, f', K', L', X', hf, hps, hs⟩
      exact ⟨rfl, h.went (hx.trans hs) (hcalm f' hf).2.2 hps rfl⟩
  by_cases c5 : o.kind = 5
  · refine step_5 K L W X.nb o w h.play.wat h.play.nv c5 _ (fun wx f => ?_)
    have hx := hnil wx f
    refine (asks_get K B L W X N M o wx hx.rep c5 hp hl m hm hver hnk (by omega) hbs hba hnx).mono ?_
    rintro e w' ⟨rfl, L', bk', hs, hps, hbk⟩
    exact ⟨rfl, h.went (hx.trans hs) ((h.inv.booked hbk).more (by omega)) (by rw [hps]; exact h.ps) rfl⟩
  by_cases c6 : o.kind = 6
  · refine step_6 K L W X.nb o w h.play.wat h.play.nv c6 _ (fun wx f => ?_)
    have hx := hnil wx f
    refine (asks_keys K B L W X N M o wx hx.rep c6 hp hl m hm h.inv.keys (by have := h.inv.nk; omega) hbs hba hnx).mono ?_
    rintro e w' ⟨rfl, L', bk', hs, hps, hbk⟩
    exact ⟨rfl, h.went (hx.trans hs) ((h.inv.booked hbk).more (by omega)) (by rw [hps]; exact h.ps) rfl⟩
  by_cases c8 : o.kind = 8
  · refine step_8 K L W X.nb o w h.play.wat h.play.nv c8 _ (fun wx f => ?_)
    have hx := hnil wx f
    refine (asks_hints K B L W X N M o wx hx.rep c8 hp hl m hm h.inv.hints (by have := h.inv.held.hlen; omega) hbs hba hnx).mono ?_
    rintro e w' ⟨rfl, L', bk', hs, hps, hbk⟩
    exact ⟨rfl, h.went (hx.trans hs) ((h.inv.booked hbk).more (by omega)) (by rw [hps]; exact h.ps) rfl⟩
  by_cases c10 : o.kind = 10
  · refine step_10 K L W X.nb o w h.play.wat h.play.nv c10 _ (fun wx f => ?_)
    have hx := hnil wx f
    refine (asks_state K B L W X N M o wx hx.rep c10 hp hl m hm (by rw [h.inv.ro, h.inv.broken]) (by rw [h.inv.keys]) hhe).mono ?_
    rintro e w' ⟨rfl, hs⟩
    exact ⟨rfl, h.went (hx.trans hs) hst h.ps rfl⟩
  refine (step_other K L W X.nb o w h.play.wat h.play.nv ⟨hk1, hk3, hk4, hk5, c2, c3, c4, c7, c9, hk2, hk6, c5, c6, c8, c10⟩).mono ?_
  rintro e w' ⟨rfl, f⟩
  exact ⟨rfl, h.went (hnil w' f) hst h.ps rfl⟩
theorem WAt.disk' {K : Nat → Prop} {w : World} {L : WL} {W : WM} (h : WAt K w L W) (b : Nat) : WAt K (w.setCell ⟨L.wb, 4, none⟩ (.pointer (some ⟨b, 0, none⟩))) { L with db := b } W ∧ Fr (fun k => k = L.wb) w (w.setCell ⟨L.wb, 4, none⟩ (.pointer (some ⟨b, 0, none⟩))) := by
  have f : Fr (fun k => k = L.wb) w (w.setCell ⟨L.wb, 4, none⟩ (.pointer (some ⟨b, 0, none⟩))) := Fr.set (S := fun k => k = L.wb) (p := ⟨L.wb, 4, none⟩) (Fr.refl _ _) (fun _ => rfl) _
  refine ⟨h.own (L' := { L with db := b }) (W' := W) ?_ f rfl rfl rfl rfl rfl rfl rfl rfl rfl rfl rfl, f⟩
  have := h.blk.set 4 (.pointer (some ⟨b, 0, none⟩))
  simpa [WM.cells] using this
theorem WAt.node' {K : Nat → Prop} {w : World} {L : WL} {W : WM} (h : WAt K w L W) (v : Value) : WAt K (w.setCell ⟨L.wb, 5, none⟩ v) { L with nv := v } W ∧ Fr (fun k => k = L.wb) w (w.setCell ⟨L.wb, 5, none⟩ v) := by
  have f : Fr (fun k => k = L.wb) w (w.setCell ⟨L.wb, 5, none⟩ v) := Fr.set (S := fun k => k = L.wb) (p := ⟨L.wb, 5, none⟩) (Fr.refl _ _) (fun _ => rfl) _
  refine ⟨h.own (L' := { L with nv := v }) (W' := W) ?_ f rfl rfl rfl rfl rfl rfl rfl rfl rfl rfl rfl, f⟩
  have := h.blk.set 5 v
  simpa [WM.cells] using this
set_option maxHeartbeats 3200000 in
theorem opens_bad (herr : ErrnoSaid) (T : Nat) (K : Nat → Prop) (B : Nat) (L : WL) (W : WM) (LD : DL) (M : DM) (nd seg syn : Int) (w : World) (h : WAt K w L W) (hd : DRep w L.db LD M) (htab : TabAt B w) (hB : B ≤ w.heap.size) (hlow : ∀ k, WFoot L k → B ≤ k) (hM : Fresh T M) (hT : 40 ≤ T) (hs : M.safe = []) (hnd : W.node = nd)
    (hcfg : configOk nd seg syn = false) (hca : W.calls < 100000000) :
    Calls Tryz.prog 17 #[.pointer (some ⟨L.wb, 0, none⟩), .int .i64 seg, .int .i64 syn] w fun e w' => e = .returned (.bool true) ∧ ∃ L' W', WAt K w' L' W' ∧ L'.wb = L.wb ∧ L'.nv = .pointer none ∧ Fr (WFoot L) w w' := by
  have hd' := hd
  have hcw : ∀ wx, Fr Nil w wx → ∀ k, wx.cell? ⟨L.wb, k, none⟩ = (W.cells L)[k]? := fun wx f => (h.nil f).blk.cell
  have hc0 := hcw w (Fr.refl _ _)
  simp only [WM.cells] at hc0
  have HCW := hide hcw
  have HDEAD := hide (dead_calls w L.db LD M hd)
  rw [hM.dead] at HDEAD
  have HTRI := hide (trial_calls herr T K B L W LD M w h hd htab hB hM hT hs)
  have HCOPY := hide (fun wx (f : Fr Nil w wx) => copy_fresh (hd.nil f) hM hs)
  have HH := hide h
  have HTAB := hide htab
  have HBB := hide hB
  have HW := hide hnd
  have HCF := hide hcfg
  clear h hd hd' hcw htab hM hs hnd hcfg
  go_enter Tryz.func17, Tryz.ntmps17
  go_wp2_with (refine HDEAD.out.mono ?_; rintro e wx ⟨rfl, hwx⟩; subst wx)
  refine HTRI.out.mono ?_
  rintro e w1 ⟨rfl, f1⟩
  have hc1 := HCW.out w1 f1
  simp only [WM.cells] at hc1
  have HF1 := hide f1
  clear hc0 f1
  go_wp2_with fail
  refine (HCOPY.out w1 HF1.out).mono ?_
  rintro e w2 ⟨b2, L2, rfl, ho2, hM2, hs2, hr2, hfl2⟩
  generalize M.twin [] = M2 at ho2 hM2 hs2 hr2 hfl2
  have F2 := HF1.out.trans ho2.fr
  have hW2 := HH.out.nil F2
  obtain ⟨hW3, hf3⟩ := hW2.disk' b2
  have hc2 := hW2.blk.cell
  have hz2 := hW2.blk.frozen
  simp only [WM.cells, HW.out] at hc2
  have hbw : ∀ k, Foot b2 L2 M2 k → ¬ k = L.wb := fun k hk e => by subst e; have := ho2.new _ hk; have := HF1.out.size; have := HH.out.blk.lt; omega
  have hD3 := ho2.rep.fr hf3 hbw
  have hnew : ∀ k, Foot b2 L2 M2 k → w.heap.size ≤ k := fun k hk => Nat.le_trans HF1.out.size (ho2.new k hk)
  have hF3 : Fr (WFoot L) w _ := (F2.mono (S' := WFoot L) (fun _ _ e => absurd e id)).trans' (hf3.mono (S' := WFoot L) (fun k _ e => .inl e)) (fun _ _ e => e)
  have HM2 := hide hM2
  have HNEW := hide hnew
  have HW3 := hide hW3
  have HF3 := hide hF3
  have HD3 := hide hD3
  have htab3 : TabAt B _ := (HTAB.out.fr HBB.out F2 (fun _ e => absurd e id)).fr (Nat.le_trans HBB.out F2.size) hf3 (fun k e => by subst e; exact hlow _ (.inl rfl))
  have HTAB3 := hide htab3
  clear hc1 ho2 hM2 hs2 hr2 hfl2 F2 hW2 hW3 hf3 hbw hD3 hnew hF3 htab3
  go_wp2_with fail
  have hsz : w2.heap.size = (w2.setCell ⟨L.wb, 4, none⟩ (.pointer (some ⟨b2, 0, none⟩))).heap.size := by simp [World.setCell]
  generalize w2.setCell ⟨L.wb, 4, none⟩ (.pointer (some ⟨b2, 0, none⟩)) = w3 at HW3 HF3 HD3 HTAB3 hsz ⊢
  have hbx := Blk.newAt w3 [.int .i64 nd, .int .i64 seg, .int .i64 syn] 102 _ hsz
  have f4 : Fr Nil w3 (w3.alloc (.cells #[.int .i64 nd, .int .i64 seg, .int .i64 syn] 102)) := (Fr.refl _ _).alloc _
  generalize w3.alloc (.cells #[.int .i64 nd, .int .i64 seg, .int .i64 syn] 102) = w4 at hbx f4 ⊢
  have HBX := hide hbx
  have HF4 := hide f4
  clear hc2 hz2 hbx f4 hsz
  generalize w2.heap.size = cx at HBX ⊢
  have hx4 := HBX.out.cell
  go_wp2_with fail
  refine (config_calls nd seg syn w4).mono ?_
  rintro e w5 ⟨rfl, f5⟩
  have HF5 := hide (HF4.out.trans f5)
  have HBX5 := hide (HBX.out.fr f5 id)
  rw [HCF.out]
  clear hx4 f5 HBX
  go_wp2_with fail
  refine (marks_calls K { L with db := b2 } W L2 M2 w5 (HW3.out.nil HF5.out) (HD3.out.nil HF5.out)).mono ?_
  rintro e w6 ⟨rfl, f6⟩
  have hmx := Blk.new w6 [.int .i64 M2.refused, .int .i64 M2.fulls] 111
  have f7 : Fr Nil w6 (w6.alloc (.cells #[.int .i64 M2.refused, .int .i64 M2.fulls] 111)) := (Fr.refl _ _).alloc _
  have hc7 := (HW3.out.nil ((HF5.out.trans f6).trans f7)).blk.cell
  simp only [WM.cells, HW.out] at hc7
  go_wp2_with fail
  generalize w6.alloc (.cells #[.int .i64 M2.refused, .int .i64 M2.fulls] 111) = w7 at hmx f7 hc7 ⊢
  have HF7 := hide ((HF5.out.trans f6).trans f7)
  have HBX7 := hide (HBX5.out.fr (f6.trans f7) id)
  have HMX := hide hmx
  generalize w6.heap.size = mx at HMX ⊢
  clear f6 f7 hmx HBX5
  refine (calls_calls w7 b2 L2 M2 (HD3.out.nil HF7.out)).mono ?_
  rintro e wx ⟨rfl, hwx⟩
  subst wx
  rw [HM2.out.calls]
  have HCK : Hid (∀ wx, Fr Nil w7 wx → wx.cell? ⟨L.wb, 4, none⟩ = some (.pointer (some ⟨b2, 0, none⟩)) ∧ wx.cell? ⟨cx, 0, none⟩ = some (.int .i64 nd) ∧ wx.cell? ⟨cx, 1, none⟩ = some (.int .i64 seg) ∧ wx.cell? ⟨cx, 2, none⟩ = some (.int .i64 syn)) :=
    fun wx f => ⟨(HW3.out.nil (HF7.out.trans f)).blk.cell 4, (HBX7.out.fr f id).cell 0, (HBX7.out.fr f id).cell 1, (HBX7.out.fr f id).cell 2⟩
  clear hc7
  go_wp2_with fail
  have hcc := HCK.out w7 (Fr.refl _ _)
  have HOP := hide (fun wx => open_bad b2 nd seg syn HCF.out wx)
  go_region_held3 (fun wx => wx.cell? ⟨L.wb, 4, none⟩ = some (.pointer (some ⟨b2, 0, none⟩)) ∧ wx.cell? ⟨cx, 0, none⟩ = some (.int .i64 nd) ∧ wx.cell? ⟨cx, 1, none⟩ = some (.int .i64 seg) ∧ wx.cell? ⟨cx, 2, none⟩ = some (.int .i64 syn)) (first | assumption | go_keep | exact HCK.out _ (by repeat' first | (with_reducible first | exact Fr.refl _ _ | assumption | refine Fr.drewN ?_ _ | refine Fr.drew ?_ | refine Fr.alloc ?_ _ | refine Fr.set ?_ ?_ _) | (intro _; rfl)))
    (first | (go_at_call 49; refine (HOP.out _).mono ?_; rintro e w8 ⟨rfl, hf8⟩; have hF8 : Fr Nil w7 w8 := Fr.trans (by repeat' first | (with_reducible first | exact Fr.refl _ _ | assumption | refine Fr.drewN ?_ _ | refine Fr.drew ?_ | refine Fr.alloc ?_ _ | refine Fr.set ?_ ?_ _) | (intro _; rfl)) hf8; have hz8 := HCK.out w8 hF8; have HF8 := hide (HF7.out.trans hF8); clear hf8 hF8))
  have hW8 := HW3.out.nil HF8.out
  have hc8 := hW8.blk.cell
  have hfz8 := hW8.blk.frozen
  simp only [WM.cells] at hc8
  have hwc : IntKind.i64.wrap ((W.calls : Int) + 1) = ((W.calls + 1 : Nat) : Int) := by rw [IntKind.wrap_i64]; push_cast; omega
  have hS9 := WStep.set hW8 11 (.int .i64 ((W.calls + 1 : Nat) : Int)) (L' := { L with db := b2 }) (W' := { W with calls := W.calls + 1 }) (by simp [WM.cells]) rfl rfl rfl rfl rfl rfl rfl rfl rfl rfl rfl rfl rfl
  obtain ⟨hW10, hf10⟩ := hS9.rep.node' (.pointer none)
  have F9 := hS9.fr.trans' (hf10.mono (S' := WFoot { L with db := b2 }) (fun k _ e => .inl e)) (fun _ _ e => e)
  have hD10 := (HD3.out.nil HF8.out).fr F9 (fun k hk hw => hW8.disk (HD3.out.nil HF8.out) hw hk)
  have HC10 := hide (calls_calls _ b2 L2 M2 hD10)
  rw [HM2.out.calls] at HC10
  have HW10 := hide hW10
  have HFF := hide ((HF3.out.trans (HF8.out.mono (S' := WFoot L) (fun _ _ e => absurd e id))).trans F9)
  clear hcc hz8 hW8 hS9 hW10 hf10 F9 hD10
  go_wp2_with (refine HC10.out.mono ?_; rintro e wx ⟨rfl, hwx⟩; subst wx)
  go_ret
  exact ⟨rfl, _, _, HW10.out, rfl, rfl, HFF.out⟩
set_option maxHeartbeats 6400000 in
theorem opens_good (herr : ErrnoSaid) (T : Nat) (K : Nat → Prop) (B : Nat) (L : WL) (W : WM) (LD : DL) (M : DM) (nd seg syn : Nat) (q : Nat) (m : LM) (w : World) (h : WAt K w L W) (hd : DRep w L.db LD M) (htab : TabAt B w) (hB : B ≤ w.heap.size) (hlow : ∀ k, WFoot L k → B ≤ k) (hM : Fresh T M) (hT : 40 ≤ T) (hs : M.safe = []) (hnd : W.node = nd)
    (hcfg : configOk nd seg syn = true) (hca : W.calls < 100000000) (hps : L.ps = [q]) (hst : W.st = [m]) (hmk : m.keys = []) (hmh : m.hints = []) :
    Calls Tryz.prog 17 #[.pointer (some ⟨L.wb, 0, none⟩), .int .i64 seg, .int .i64 syn] w fun e w' => e = .returned (.bool true) ∧ ∃ (L' : WL) (X : NL) (M' : DM), Fresh T M' ∧
      Play K B w' L' { W with calls := W.calls + 1, broken := false, every := syn, writes := 0, fell := false } X (NM.fresh nd seg syn) M' ∧ L'.wb = L.wb ∧ L'.ps = [q] ∧ Fr (WFoot L) w w' ∧ (∀ k, PFoot L' X M' k → WFoot L k ∨ w.heap.size ≤ k) := by
  have hd' := hd
  have hcw : ∀ wx, Fr Nil w wx → ∀ k, wx.cell? ⟨L.wb, k, none⟩ = (W.cells L)[k]? := fun wx f => (h.nil f).blk.cell
  have hc0 := hcw w (Fr.refl _ _)
  simp only [WM.cells] at hc0
  have HCW := hide hcw
  have HDEAD := hide (dead_calls w L.db LD M hd)
  rw [hM.dead] at HDEAD
  have HTRI := hide (trial_calls herr T K B L W LD M w h hd htab hB hM hT hs)
  have HCOPY := hide (fun wx (f : Fr Nil w wx) => copy_fresh (hd.nil f) hM hs)
  have HH := hide h
  have HTAB := hide htab
  have HBB := hide hB
  have HW := hide hnd
  have HCF := hide hcfg
  clear h hd hd' hcw htab hM hs hnd hcfg
  go_enter Tryz.func17, Tryz.ntmps17
  go_wp2_with (refine HDEAD.out.mono ?_; rintro e wx ⟨rfl, hwx⟩; subst wx)
  refine HTRI.out.mono ?_
  rintro e w1 ⟨rfl, f1⟩
  have hc1 := HCW.out w1 f1
  simp only [WM.cells] at hc1
  have HF1 := hide f1
  clear hc0 f1
  go_wp2_with fail
  refine (HCOPY.out w1 HF1.out).mono ?_
  rintro e w2 ⟨b2, L2, rfl, ho2, hM2, hs2, hr2, hfl2⟩
  generalize M.twin [] = M2 at ho2 hM2 hs2 hr2 hfl2
  have F2 := HF1.out.trans ho2.fr
  have hW2 := HH.out.nil F2
  obtain ⟨hW3, hf3⟩ := hW2.disk' b2
  have hc2 := hW2.blk.cell
  have hz2 := hW2.blk.frozen
  simp only [WM.cells, HW.out] at hc2
  have hbw : ∀ k, Foot b2 L2 M2 k → ¬ k = L.wb := fun k hk e => by subst e; have := ho2.new _ hk; have := HF1.out.size; have := HH.out.blk.lt; omega
  have hD3 := ho2.rep.fr hf3 hbw
  have hnew : ∀ k, Foot b2 L2 M2 k → w.heap.size ≤ k := fun k hk => Nat.le_trans HF1.out.size (ho2.new k hk)
  have hF3 : Fr (WFoot L) w _ := (F2.mono (S' := WFoot L) (fun _ _ e => absurd e id)).trans' (hf3.mono (S' := WFoot L) (fun k _ e => .inl e)) (fun _ _ e => e)
  have HM2 := hide hM2
  have HNEW := hide hnew
  have HW3 := hide hW3
  have HF3 := hide hF3
  have HD3 := hide hD3
  have htab3 : TabAt B _ := (HTAB.out.fr HBB.out F2 (fun _ e => absurd e id)).fr (Nat.le_trans HBB.out F2.size) hf3 (fun k e => by subst e; exact hlow _ (.inl rfl))
  have HTAB3 := hide htab3
  clear hc1 ho2 hM2 hs2 hr2 hfl2 F2 hW2 hW3 hf3 hbw hD3 hnew hF3 htab3
  go_wp2_with fail
  have hsz : w2.heap.size = (w2.setCell ⟨L.wb, 4, none⟩ (.pointer (some ⟨b2, 0, none⟩))).heap.size := by simp [World.setCell]
  generalize w2.setCell ⟨L.wb, 4, none⟩ (.pointer (some ⟨b2, 0, none⟩)) = w3 at HW3 HF3 HD3 HTAB3 hsz ⊢
  have hbx := Blk.newAt w3 [.int .i64 (nd : Nat), .int .i64 (seg : Nat), .int .i64 (syn : Nat)] 102 _ hsz
  have f4 : Fr Nil w3 (w3.alloc (.cells #[.int .i64 (nd : Nat), .int .i64 (seg : Nat), .int .i64 (syn : Nat)] 102)) := (Fr.refl _ _).alloc _
  generalize w3.alloc (.cells #[.int .i64 (nd : Nat), .int .i64 (seg : Nat), .int .i64 (syn : Nat)] 102) = w4 at hbx f4 ⊢
  have HBX := hide hbx
  have HF4 := hide f4
  clear hc2 hz2 hbx f4 hsz
  generalize w2.heap.size = cx at HBX ⊢
  have hx4 := HBX.out.cell
  go_wp2_with fail
  refine (config_calls nd seg syn w4).mono ?_
  rintro e w5 ⟨rfl, f5⟩
  have HF5 := hide (HF4.out.trans f5)
  have HBX5 := hide (HBX.out.fr f5 id)
  rw [HCF.out]
  clear hx4 f5 HBX
  go_wp2_with fail
  refine (marks_calls K { L with db := b2 } W L2 M2 w5 (HW3.out.nil HF5.out) (HD3.out.nil HF5.out)).mono ?_
  rintro e w6 ⟨rfl, f6⟩
  have hmx := Blk.new w6 [.int .i64 M2.refused, .int .i64 M2.fulls] 111
  have f7 : Fr Nil w6 (w6.alloc (.cells #[.int .i64 M2.refused, .int .i64 M2.fulls] 111)) := (Fr.refl _ _).alloc _
  have hc7 := (HW3.out.nil ((HF5.out.trans f6).trans f7)).blk.cell
  simp only [WM.cells, HW.out] at hc7
  go_wp2_with fail
  generalize w6.alloc (.cells #[.int .i64 M2.refused, .int .i64 M2.fulls] 111) = w7 at hmx f7 hc7 ⊢
  have HF7 := hide ((HF5.out.trans f6).trans f7)
  have HBX7 := hide (HBX5.out.fr (f6.trans f7) id)
  have HMX := hide hmx
  generalize w6.heap.size = mx at HMX ⊢
  clear f6 f7 hmx HBX5
  refine (calls_calls w7 b2 L2 M2 (HD3.out.nil HF7.out)).mono ?_
  rintro e wx ⟨rfl, hwx⟩
  subst wx
  rw [HM2.out.calls]
  have HCK : Hid (∀ wx, Fr Nil w7 wx → wx.cell? ⟨L.wb, 4, none⟩ = some (.pointer (some ⟨b2, 0, none⟩)) ∧ wx.cell? ⟨cx, 0, none⟩ = some (.int .i64 (nd : Nat)) ∧ wx.cell? ⟨cx, 1, none⟩ = some (.int .i64 (seg : Nat)) ∧ wx.cell? ⟨cx, 2, none⟩ = some (.int .i64 (syn : Nat))) :=
    fun wx f => ⟨(HW3.out.nil (HF7.out.trans f)).blk.cell 4, (HBX7.out.fr f id).cell 0, (HBX7.out.fr f id).cell 1, (HBX7.out.fr f id).cell 2⟩
  clear hc7
  go_wp2_with fail
  have hcc := HCK.out w7 (Fr.refl _ _)
  have HOP := hide (fun wx (f : Fr Nil w7 wx) => open_none b2 L2 M2 nd seg syn HCF.out wx (HD3.out.nil (HF7.out.trans f)) HM2.out.dir)
  go_region_held3 (fun wx => wx.cell? ⟨L.wb, 4, none⟩ = some (.pointer (some ⟨b2, 0, none⟩)) ∧ wx.cell? ⟨cx, 0, none⟩ = some (.int .i64 (nd : Nat)) ∧ wx.cell? ⟨cx, 1, none⟩ = some (.int .i64 (seg : Nat)) ∧ wx.cell? ⟨cx, 2, none⟩ = some (.int .i64 (syn : Nat))) (first | assumption | go_keep | exact HCK.out _ (by repeat' first | (with_reducible first | exact Fr.refl _ _ | assumption | refine Fr.drewN ?_ _ | refine Fr.drew ?_ | refine Fr.alloc ?_ _ | refine Fr.set ?_ ?_ _) | (intro _; rfl)))
    (first | (go_at_call 49; refine (HOP.out _ (by repeat' first | (with_reducible first | exact Fr.refl _ _ | assumption | refine Fr.drewN ?_ _ | refine Fr.drew ?_ | refine Fr.alloc ?_ _ | refine Fr.set ?_ ?_ _) | (intro _; rfl))).mono ?_; rintro e w8 ⟨X, rfl, hr8, hdb8, hLD8, hfoot8, hf8⟩; have hF8 : Fr Nil w7 w8 := Fr.trans (by repeat' first | (with_reducible first | exact Fr.refl _ _ | assumption | refine Fr.drewN ?_ _ | refine Fr.drew ?_ | refine Fr.alloc ?_ _ | refine Fr.set ?_ ?_ _) | (intro _; rfl)) hf8; have hz8 := HCK.out w8 hF8; have HR8 := hide hr8; have HDB8 := hide hdb8; have HFT8 : Hid (∀ k, NFoot X M2 k → Foot b2 L2 M2 k ∨ w7.heap.size ≤ k) := (fun k hk => hfoot8 k hk); have HM8 := hide (HMX.out.fr hF8 id); have HF8 := hide (HF7.out.trans hF8); clear hf8 hF8 hr8 hdb8 hLD8 hfoot8))
  have hW8 := HW3.out.nil HF8.out
  have hc8 := hW8.blk.cell
  have hfz8 := hW8.blk.frozen
  simp only [WM.cells] at hc8
  have hm8 := HM8.out.cell
  have hwc : IntKind.i64.wrap ((W.calls : Int) + 1) = ((W.calls + 1 : Nat) : Int) := by rw [IntKind.wrap_i64]; push_cast; omega
  have hS9 := WStep.set hW8 11 (.int .i64 ((W.calls + 1 : Nat) : Int)) (L' := { L with db := b2 }) (W' := { W with calls := W.calls + 1 }) (by simp [WM.cells]) rfl rfl rfl rfl rfl rfl rfl rfl rfl rfl rfl rfl rfl
  obtain ⟨hW10, hf10⟩ := hS9.rep.node' (.pointer none)
  have F9 := hS9.fr.trans' (hf10.mono (S' := WFoot { L with db := b2 }) (fun k _ e => .inl e)) (fun _ _ e => e)
  have HW8 := hide hW8
  have HW10 := hide hW10
  have HF9 := hide F9
  clear hcc hz8 hS9 hW10 hf10 F9 hW8 hm8
  go_wp2_with fail
  rw [show ((W.calls : Int) + 1) = ((W.calls + 1 : Nat) : Int) from by push_cast; rfl]
  generalize (w8.setCell ⟨L.wb, 11, none⟩ (.int .i64 ((W.calls + 1 : Nat) : Int))).setCell ⟨L.wb, 5, none⟩ (.pointer none) = w9 at HW10 HF9 ⊢
  have hD9 := (HD3.out.nil HF8.out).fr HF9.out (fun k hk hw => HW8.out.disk (HD3.out.nil HF8.out) hw hk)
  have hm9 : ∀ n k, (w9.drewN n).cell? ⟨mx, k, none⟩ = [Value.int .i64 M2.refused, .int .i64 M2.fulls][k]? := fun n => ((HM8.out.fr HF9.out (HW8.out.notB HM8.out (by intro hd; unfold WTy at hd; rcases hd with e | e | e | e | e | e <;> exact absurd e (by decide)))).drewN n).cell
  have hc9 : ∀ n k, (w9.drewN n).cell? ⟨L.wb, k, none⟩ = _ := fun n => (HW10.out.blk.drewN n).cell
  have hfz9 : ∀ n k, (w9.drewN n).frozen? ⟨L.wb, k, none⟩ = false := fun n => (HW10.out.blk.drewN n).frozen
  simp only [WM.cells] at hc9
  have HRE := hide (fun n => refused_calls (w9.drewN n) b2 L2 M2 (hD9.nil ((Fr.refl _ _).drewN n)))
  have hlt9 : decide (M2.refused < M2.refused) = false := by simp
  have hlt9' : ¬ M2.refused < M2.refused := by simp
  clear hc8 hfz8 hD9 hwc
  go_quiet ((go_at_call 47; exact Calls.quiet_of_same (HRE.out _)))
  have hW10 := HW10.out.nil ((Fr.refl Nil w9).drewN nq)
  have F10 := HF9.out.drewN nq
  have HW10' := hide hW10
  have HF10 := hide F10
  have hc10 := hc9 nq
  have hfz10 := hfz9 nq
  clear hc9 hfz9 hm9 HRE hlt9 hlt9' hW10 F10
  generalize w9.drewN nq = w10 at HW10' HF10 hc10 hfz10 ⊢
  obtain ⟨hW11, hf11⟩ := HW10'.out.node' (.pointer (some ⟨X.nb, 0, none⟩))
  have hS12 := WStep.set hW11 8 (.bool false) (L' := { L with db := b2, nv := .pointer (some ⟨X.nb, 0, none⟩) }) (W' := { W with calls := W.calls + 1, broken := false }) (by simp [WM.cells]) rfl rfl rfl rfl rfl rfl rfl rfl rfl rfl rfl rfl rfl
  have hS13 := hS12.trans (WStep.set hS12.rep 9 (.int .i64 (syn : Nat)) (L' := { L with db := b2, nv := .pointer (some ⟨X.nb, 0, none⟩) }) (W' := { W with calls := W.calls + 1, broken := false, every := syn }) (by simp [WM.cells]) rfl rfl rfl rfl rfl rfl rfl rfl rfl rfl rfl rfl rfl)
  have hS14 := hS13.trans (WStep.set hS13.rep 10 (.int .i64 0) (L' := { L with db := b2, nv := .pointer (some ⟨X.nb, 0, none⟩) }) (W' := { W with calls := W.calls + 1, broken := false, every := syn, writes := 0 }) (by simp [WM.cells]) rfl rfl rfl rfl rfl rfl rfl rfl rfl rfl rfl rfl rfl)
  have F14 := (HF10.out.trans' (S' := WFoot L) (hf11.mono (fun k _ e => .inl e)) (fun _ _ e => e)).trans' (S' := WFoot L) hS14.fr (fun _ _ e => e)
  have HS14 := hide hS14
  have HF14 := hide F14
  clear hW11 hf11 hS12 hS13 hS14 F14
  go_wp2_with fail
  generalize (((w10.setCell ⟨L.wb, 5, none⟩ (.pointer (some ⟨X.nb, 0, none⟩))).setCell ⟨L.wb, 8, none⟩ (.bool false)).setCell ⟨L.wb, 9, none⟩ (.int .i64 (syn : Nat))).setCell ⟨L.wb, 10, none⟩ (.int .i64 0) = w11 at HS14 HF14 ⊢
  clear hc10 hfz10
  have hge : ∀ k, NFoot X M2 k → w.heap.size ≤ k := fun k hk => (HFT8.out k hk).elim (HNEW.out k) (fun e => Nat.le_trans (Nat.le_trans HF3.out.size HF7.out.size) e)
  have hplay : Play K B w11 { L with db := b2, nv := .pointer (some ⟨X.nb, 0, none⟩) } { W with calls := W.calls + 1, broken := false, every := syn, writes := 0 } X (NM.fresh nd seg syn) M2 :=
    { wat := HS14.out.rep
      node := HR8.out.fr HF14.out (fun k hk hf => HW8.out.node HR8.out hf hk) (fun k hk => HW8.out.read HR8.out hk)
      env := ⟨(HTAB3.out.fr (Nat.le_trans HBB.out HF3.out.size) HF8.out (fun _ e => absurd e id)).fr (Nat.le_trans (Nat.le_trans HBB.out HF3.out.size) HF8.out.size) HF14.out hlow, Nat.le_trans HBB.out (Nat.le_trans HF3.out.size (Nat.le_trans HF8.out.size HF14.out.size)), fun k hk => Nat.le_trans HBB.out (hge k hk)⟩
      nv := rfl
      db := HDB8.out.symm
      sep := fun k hk hf => by have := (HH.out.keep k hk).1; have := hge k hf; omega
      low := hlow }
  refine (found_none K B { L with db := b2, nv := .pointer (some ⟨X.nb, 0, none⟩) } { W with calls := W.calls + 1, broken := false, every := syn, writes := 0 } X (NM.fresh nd seg syn) M2 q m w11 hplay hps hst rfl rfl rfl hmk hmh).mono ?_
  rintro e w12 ⟨rfl, L12, hs12, hps12⟩
  have HP := hide hplay
  have HS12 := hide hs12
  have HGE := hide hge
  clear hplay hs12 hge
  go_wp2_with fail
  go_ret
  have F8 : Fr (WFoot L) w w11 := (HF3.out.trans (HF8.out.mono (S' := WFoot L) (fun _ _ e => absurd e id))).trans HF14.out
  refine ⟨rfl, L12, X, M2, HM2.out, HS12.out.rep, HS12.out.wb, hps12, F8.trans' (S' := PFoot { L with db := b2, nv := .pointer (some ⟨X.nb, 0, none⟩) } X M2) HS12.out.fr (fun i hi e => e.elim id (fun e => by have := HGE.out i e; omega)), fun k hk => ?_⟩
  rcases HS12.out.foot k hk with (e | e) | e
  · exact .inl e
  · exact .inr (HGE.out k e)
  · exact .inr (Nat.le_trans F8.size e)
structure Run (T B : Nat) (w0 : World) (wb t : Nat) (w : World) : Prop where
  fr : Fr Nil w0 w
  st : (∃ K L W, WAt K w L W ∧ L.wb = wb ∧ L.nv = .pointer none) ∨
    (∃ K L W X N M m, Live T K B w L W X N M m t ∧ L.wb = wb ∧ ∀ k, PFoot L X M k → w0.heap.size ≤ k)
theorem Live.more {T B t u : Nat} {K : Nat → Prop} {L : WL} {W : WM} {X : NL} {N : NM} {M : DM} {m : LM} {w : World} (h : Live T K B w L W X N M m t) (hu : t ≤ u) : Live T K B w L W X N M m u :=
  ⟨h.play, h.inv.more hu, h.ps, h.self⟩
theorem Run.more {T B t u wb : Nat} {w0 w : World} (h : Run T B w0 wb t w) (hu : t ≤ u) : Run T B w0 wb u w :=
  ⟨h.fr, h.st.imp id (fun ⟨K, L, W, X, N, M, m, a, b, c⟩ => ⟨K, L, W, X, N, M, m, a.more hu, b, c⟩)⟩
theorem Run.nil {T B t wb : Nat} {w0 w w' : World} (h : Run T B w0 wb t w) (f : Fr Nil w w') : Run T B w0 wb t w' :=
  ⟨h.fr.trans f, h.st.imp (fun ⟨K, L, W, a, b, c⟩ => ⟨K, L, W, a.nil f, b, c⟩) (fun ⟨K, L, W, X, N, M, m, a, b, c⟩ => ⟨K, L, W, X, N, M, m, ⟨(a.play.nil f).rep, a.inv, a.ps, a.self⟩, b, c⟩)⟩
theorem run_step (herr : ErrnoSaid) {T B t wb : Nat} {w0 w : World} (h : Run T B w0 wb t w) (ht : t + 8 ≤ T) (hT : T ≤ 900000) (o : OpM) (hk1 : o.kind ≠ 1) (hk2 : o.kind ≠ 11) (hk3 : o.kind ≠ 12) (hk4 : o.kind ≠ 13) (hk5 : o.kind ≠ 14) (hk6 : o.kind ≠ 15) :
    Calls Tryz.prog 18 #[.pointer (some ⟨wb, 0, none⟩), .agg o.cells.toArray] w fun e w' => e = .returned (.bool true) ∧ Run T B w0 wb (t + 8) w' := by
  obtain ⟨hf, hs⟩ := h
  rcases hs with ⟨K, L, W, hw, rfl, hnv⟩ | ⟨K, L, W, X, N, M, m, hl, rfl, hlow⟩
  · refine (step_closed K L W o w hw hnv ⟨hk1, hk3, hk4, hk5⟩).mono ?_
    rintro e w' ⟨rfl, f⟩
    exact ⟨rfl, hf.trans f, .inl ⟨K, L, W, hw.nil f, rfl, hnv⟩⟩
  · refine (live_step herr hl ht hT o hk1 hk2 hk3 hk4 hk5 hk6).mono ?_
    rintro e w' ⟨rfl, K', L', W', X', N', M', m', hl', hwb, hfr, hft⟩
    exact ⟨rfl, hf.trans' hfr (fun i hi e => by have := hlow i e; omega), .inr ⟨K', L', W', X', N', M', m', hl', hwb, fun k hk => (hft k hk).elim (hlow k) (fun e => Nat.le_trans hf.size e)⟩⟩
def Steps (w : World) (a : Addr) (os : List OpM) : Prop := ∀ i (h : i < os.length) k, k < 15 → w.cell? ((a.add (i * 15)).add k) = os[i].cells[k]?
theorem add_zero (a : Addr) : a.add 0 = a := by unfold Addr.add; simp
theorem add_pos (a : Addr) (k : Nat) (h : k ≠ 0) : a.add k = ⟨a.block, a.off + k, none⟩ := by unfold Addr.add; simp [h]
theorem add_block (a : Addr) (i : Nat) : (a.add i).block = a.block := by unfold Addr.add; split <;> rfl
theorem run_opens (herr : ErrnoSaid) (T B : Nat) (hT : 40 ≤ T) (node seg syn : Int) (db : Nat) (w0 w : World) (f0 : Fr Nil w0 w) (hdb : w0.heap.size ≤ db) (h : WAt (fun k => k = db + 2) w (WL.begins db) (WM.begins node (-1) seg syn 0)) (M : DM) (hd : DRep w db DL.new M) (hM : Fresh T M) (hs : M.safe = []) (htab : TabAt B w) (hB : B ≤ w0.heap.size) :
    Calls Tryz.prog 17 #[.pointer (some ⟨db + 1, 0, none⟩), .int .i64 seg, .int .i64 syn] w fun e w' => e = .returned (.bool true) ∧ Run T B w0 (db + 1) 1 w' := by
  have hfoot : ∀ k, WFoot (WL.begins db) k → w0.heap.size ≤ k := fun k hk => by
    unfold WFoot WL.begins at hk
    simp only [Value.ownBlock] at hk
    rcases hk with rfl | e | e | e | e | e | e | e
    · omega
    · simp at e; omega
    all_goals (simp at e)
  have hBw : B ≤ w.heap.size := Nat.le_trans hB f0.size
  cases hc : configOk node seg syn with
  | false =>
    refine (opens_bad herr T _ B _ _ DL.new M node seg syn w h hd htab hBw (fun k hk => Nat.le_trans hB (hfoot k hk)) hM hT hs rfl hc (show 0 < 100000000 by decide)).mono ?_
    rintro e w' ⟨rfl, L', W', hw, hwb, hnv, hfr⟩
    exact ⟨rfl, f0.trans' hfr (fun i hi e => by have := hfoot i e; omega), .inl ⟨_, L', W', hw, hwb, hnv⟩⟩
  | true =>
    obtain ⟨nd, rfl, hn4⟩ : ∃ nd : Nat, node = nd ∧ nd < 4 := by
      unfold configOk nodeOk at hc
      simp only [Bool.and_eq_true, decide_eq_true_eq] at hc
      exact ⟨node.toNat, by omega, by omega⟩
    obtain ⟨sg, rfl⟩ : ∃ sg : Nat, seg = sg := by
      unfold configOk at hc
      simp only [Bool.and_eq_true, decide_eq_true_eq] at hc
      exact ⟨seg.toNat, by omega⟩
    obtain ⟨sy, rfl⟩ : ∃ sy : Nat, syn = sy := by
      unfold configOk at hc
      simp only [Bool.and_eq_true, decide_eq_true_eq] at hc
      exact ⟨syn.toNat, by omega⟩
    refine (opens_good herr T _ B _ _ DL.new M nd sg sy (db + 2) ⟨nd, [], []⟩ w h hd htab hBw (fun k hk => Nat.le_trans hB (hfoot k hk)) hM hT hs rfl hc (show 0 < 100000000 by decide) rfl rfl rfl rfl).mono ?_
    rintro e w' ⟨rfl, L', X, M', hM', hp, hwb, hps, hfr, hft⟩
    have hinv := NInv.begins hM' nd sg sy (-1) sg sy 0 (Nat.zero_le _)
    refine ⟨rfl, f0.trans' hfr (fun i hi e => by have := hfoot i e; omega), .inr ⟨_, L', _, X, _, M', ⟨nd, [], []⟩, ⟨hp, ?_, by rw [hps]; simp, hn4⟩, hwb, fun k hk => (hft k hk).elim (hfoot k) (fun e => Nat.le_trans f0.size e)⟩⟩
    exact hinv.other (Nat.zero_le _) rfl rfl (Nat.zero_le _) (Nat.le_refl _) (Nat.zero_le _) rfl (Nat.zero_le _) rfl ⟨Nat.zero_le _, Nat.zero_le _, Nat.zero_le _, Nat.zero_le _, Nat.zero_le _, Nat.zero_le _⟩
def kindsOut : List Int := [1, 11, 12, 13, 14, 15]
set_option maxHeartbeats 3200000 in
theorem played_calls (herr : ErrnoSaid) (B : Nat) (node seg syn : Int) (sa : Option Addr) (c : Nat) (os : List OpM) (wv : Value) (w : World) (htab : TabAt B w) (hB : B ≤ w.heap.size) (hos : os ≠ [] → ∃ a, sa = some a ∧ a.block < w.heap.size ∧ Steps w a os) (hlen : os.length ≤ 100000) (hwi : w.ownsRow 0 3 1 wv kindsOut.length (kindsOut.map (.int .i64 ·))) :
    Calls Tryz.prog 14 #[.agg #[.int .i64 node, .int .i64 (-1), .int .i64 seg, .int .i64 syn], .slice sa os.length c, wv] w fun e w' => e = .returned (.bool true) ∧ Fr Nil w w' := by
  have hb1 := Blk.new w [.int .i64 node, .int .i64 (-1), .int .i64 seg, .int .i64 syn] 23
  have f1 : Fr Nil w (w.alloc (.cells #[.int .i64 node, .int .i64 (-1), .int .i64 seg, .int .i64 syn] 23)) := (Fr.refl _ _).alloc _
  have HTAB := hide htab
  have HBW := hide hB
  have HWI := hide hwi
  have HOS := hide hos
  have HMO := hide (fun wx (f : Fr Nil w wx) k => among_calls wv kindsOut k wx (own_fr hwi f (fun _ _ => id)) (by decide))
  obtain ⟨wa, wc, rfl⟩ := own_form hwi
  clear htab hB hwi hos
  go_enter Tryz.func14, Tryz.ntmps14
  go_wp2_with fail
  generalize w.alloc (.cells #[.int .i64 node, .int .i64 (-1), .int .i64 seg, .int .i64 syn] 23) = w1 at hb1 f1 ⊢
  generalize hbb : w.heap.size = bb at hb1 ⊢
  have HB1 := hide hb1
  have HF1 := hide f1
  have HBB := hide hbb
  clear hb1 f1 hbb
  refine (awake_calls herr B w1 (HTAB.out.fr HBW.out HF1.out (fun _ e => absurd e id)) (Nat.le_trans HBW.out HF1.out.size)).mono ?_
  rintro e w2 ⟨rfl, f2⟩
  have HF2 := hide (HF1.out.trans f2)
  have HB2 := hide (HB1.out.fr f2 id)
  have hc2 := HB2.out.cell
  clear f2
  go_wp2_with fail
  refine (begun_calls node (-1) seg syn 0 w2).mono ?_
  rintro e w3 ⟨db, hdb, rfl, hw3, hd3, f3⟩
  have HF3 := hide (HF2.out.trans f3)
  have HB3 := hide (HB2.out.fr f3 id)
  have hc3 := HB3.out.cell
  have hM : Fresh 900000 (DM.new (roomOf (-1))) := Fresh.new ⟨by decide, by decide, by decide⟩
  have HOPN := hide (run_opens herr 900000 B (by decide) node seg syn db w w3 HF3.out (Nat.le_of_lt (Nat.lt_of_le_of_lt HF2.out.size hdb)) hw3 _ hd3 hM rfl (HTAB.out.fr HBW.out HF3.out (fun _ e => absurd e id)) HBW.out)
  clear hc2 hdb hw3 hd3 f3 hM
  go_wp2_with fail
  refine HOPN.out.mono ?_
  rintro e w4 ⟨rfl, hrun⟩
  have HRUN := hide hrun
  clear hrun hc3 HOPN
  generalize hnn : os.length = n at hlen ⊢
  have HNN := hide hnn
  clear hnn
  go_wp2_with fail
  go_loopw [9, 10] (fun t9 t10 w' => ∃ i : Nat, i ≤ n ∧ t9 = .bool true ∧ t10 = .int .i64 i ∧ Run 900000 B w (db + 1) (1 + 8 * i) w') (fun _ t10 _ => n - (intOf t10).toNat)
  case atStart => exact ⟨0, Nat.zero_le _, rfl, rfl, HRUN.out⟩
  case round =>
    obtain ⟨i, hi, rfl, rfl, hr⟩ := hrel
    have HR := hide hr
    by_cases hlt : i < n
    · obtain ⟨a, rfl, hab, hst⟩ := HOS.out (fun e => by have := HNN.out; rw [e] at this; simp at this; omega)
      have hcell : ∀ k, k < 15 → wr.cell? ((a.add (i * 15)).add k) = (os[i]'(by have := HNN.out; omega)).cells[k]? := fun k hk => by
        rw [hr.fr.cell (by rw [add_block, add_block]; exact hab) id]
        exact hst i _ k hk
      generalize os[i]'(by have := HNN.out; omega) = o at hcell
      have g0 := hcell 0 (by omega)
      rw [add_zero] at g0
      obtain ⟨kind, oa, ob, oc, key, text, v, tails⟩ := o
      simp only [OpM.cells, Ver.cells, List.cons_append, List.nil_append] at g0
      clear hr
      go_wp2_with fail
      refine (HMO.out wr HR.out.fr kind).mono ?_
      rintro e w5 ⟨rfl, f5⟩
      have HR5 := hide (HR.out.nil f5)
      cases hin : decide (kind ∈ kindsOut) with
      | true =>
        clear hin f5 g0 hcell
        go_wp2_with fail
        exact ⟨⟨i + 1, by omega, rfl, by push_cast; rfl, HR5.out.more (by omega)⟩, by simp [intOf]; omega⟩
      | false =>
        have hc5 : ∀ k, k < 15 → w5.cell? ((a.add (i * 15)).add k) = _ := fun k hk => (f5.cell (by rw [add_block, add_block]; exact Nat.lt_of_lt_of_le hab HR.out.fr.size) id).trans (hcell k hk)
        simp only [OpM.cells, Ver.cells, List.cons_append, List.nil_append] at hc5
        have q0 := hc5 0 (by omega)
        rw [add_zero] at q0
        have q1 := hc5 1 (by omega)
        rw [add_pos _ 1 (by decide)] at q1
        have q2 := hc5 2 (by omega)
        rw [add_pos _ 2 (by decide)] at q2
        have q3 := hc5 3 (by omega)
        rw [add_pos _ 3 (by decide)] at q3
        have q4 := hc5 4 (by omega)
        rw [add_pos _ 4 (by decide)] at q4
        have q5 := hc5 5 (by omega)
        rw [add_pos _ 5 (by decide)] at q5
        have q6 := hc5 6 (by omega)
        rw [add_pos _ 6 (by decide)] at q6
        have q7 := hc5 7 (by omega)
        rw [add_pos _ 7 (by decide)] at q7
        have q8 := hc5 8 (by omega)
        rw [add_pos _ 8 (by decide)] at q8
        have q9 := hc5 9 (by omega)
        rw [add_pos _ 9 (by decide)] at q9
        have q10 := hc5 10 (by omega)
        rw [add_pos _ 10 (by decide)] at q10
        have q11 := hc5 11 (by omega)
        rw [add_pos _ 11 (by decide)] at q11
        have q12 := hc5 12 (by omega)
        rw [add_pos _ 12 (by decide)] at q12
        have q13 := hc5 13 (by omega)
        rw [add_pos _ 13 (by decide)] at q13
        have q14 := hc5 14 (by omega)
        rw [add_pos _ 14 (by decide)] at q14
        have hni : kind ≠ 1 ∧ kind ≠ 11 ∧ kind ≠ 12 ∧ kind ≠ 13 ∧ kind ≠ 14 ∧ kind ≠ 15 := by
          simp only [decide_eq_false_iff_not, kindsOut, List.mem_cons, List.not_mem_nil, or_false, not_or] at hin
          exact hin
        have HST := hide (run_step herr HR5.out (by omega) (by decide) ⟨kind, oa, ob, oc, key, text, v, tails⟩ hni.1 hni.2.1 hni.2.2.1 hni.2.2.2.1 hni.2.2.2.2.1 hni.2.2.2.2.2)
        simp only [OpM.cells, Ver.cells, List.cons_append, List.nil_append] at HST
        clear f5 hin hc5 hni hcell g0
        go_wp2_with fail
        refine HST.out.mono ?_
        rintro e w6 ⟨rfl, hr6⟩
        have HR6 := hide hr6
        clear hr6 q0 q1 q2 q3 q4 q5 q6 q7 q8 q9 q10 q11 q12 q13 q14
        go_wp2_with fail
        exact ⟨⟨i + 1, by omega, rfl, by push_cast; rfl, HR6.out.more (by omega)⟩, by simp [intOf]; omega⟩
    · have hin : i = n := by omega
      subst hin
      clear hr
      go_wp2_with fail
      refine (HMO.out wr HR.out.fr 1).mono ?_
      rintro e w5 ⟨rfl, f5⟩
      rw [show decide ((1 : Int) ∈ kindsOut) = true by decide]
      have HF5 := hide (HR.out.fr.trans f5)
      clear f5
      go_wp2_with fail
      go_ret
      exact ⟨rfl, HF5.out⟩
theorem cells_int : Tryz.prog.cellsOf 3 = 1 := by kernel_rfl
theorem cells_bool : Tryz.prog.cellsOf 4 = 1 := by kernel_rfl
theorem cells_text : Tryz.prog.cellsOf 9 = 1 := by kernel_rfl
theorem cells_dot : Tryz.prog.cellsOf 34 = 2 := by kernel_rfl
theorem cells_over : Tryz.prog.cellsOf 35 = 4 := by kernel_rfl
theorem cells_version : Tryz.prog.cellsOf 37 = 8 := by kernel_rfl
theorem cells_op : Tryz.prog.cellsOf 39 = 15 := by kernel_rfl
theorem cells_set : Tryz.prog.cellsOf 23 = 4 := by kernel_rfl
theorem bulk_pos {H : Type} (d : DataW H) : 1 ≤ Rows.uptoBulk d := by
  cases d with
  | lit l => cases l <;> simp [Rows.uptoBulk]
  | _ => simp [Rows.uptoBulk]
theorem bulk_all {H : Type} (k : Nat) : ∀ (l : List (DataW H)), (∀ d ∈ l, k ≤ Rows.uptoBulk d) → k * l.length ≤ Rows.uptoBulkAll l
  | [], _ => by simp
  | d :: l, h => by
    have h1 := bulk_all k l (fun x hx => h x (List.mem_cons_of_mem _ hx))
    have h2 := h d (List.mem_cons_self ..)
    simp only [Rows.uptoBulkAll, List.length_cons, Nat.mul_add, Nat.mul_one]
    omega
section
variable {H : Type} {enc : TypeId × Value → H} {W : World} {sp : Nat → Bool} {held : Bool} {n : Nat}
theorem fld_int {c : Value} {x : DataW H × List MemPlace} (h : DataW.trod enc Tryz.prog W 0 sp held n 3 [c] = some x) : ∃ k, c = .int .i64 k := by
  obtain ⟨k, hk, _⟩ := DataW.trod_int Tryz.underlying3 h
  exact ⟨k, by simpa using hk⟩
theorem fld_text {c : Value} {x : DataW H × List MemPlace} (h : DataW.trod enc Tryz.prog W 0 sp held n 9 [c] = some x) : ∃ s, c = .string s := by
  obtain ⟨k, hk, _⟩ := DataW.trod_string Tryz.underlying9 h
  exact ⟨k, by simpa using hk⟩
theorem fld_bool {c : Value} {x : DataW H × List MemPlace} (h : DataW.trod enc Tryz.prog W 0 sp held n 4 [c] = some x) : ∃ b, c = .bool b := by
  obtain ⟨k, hk, _⟩ := DataW.trod_bool Tryz.underlying4 h
  exact ⟨k, by simpa using hk⟩
theorem some_at {α : Type} {l : List α} {i k : Nat} (hl : l.length = k) (hi : i < k) : ∃ x, l[i]? = some x := ⟨l[i]'(by omega), List.getElem?_eq_getElem (by omega)⟩
theorem read_set {cs : List Value} {x : DataW H × List MemPlace} (h : DataW.trod enc Tryz.prog W 0 sp held n 23 cs = some x) : ∃ a b c d, cs = [.int .i64 a, .int .i64 b, .int .i64 c, .int .i64 d] := by
  obtain ⟨xs, m, _, _, hl, hxl, hf⟩ := DataW.trod_struct Tryz.underlying23 h
  rw [cells_set] at hl
  match cs, hl with
  | [c0, c1, c2, c3], _ =>
    have f0 : DataW.trod enc Tryz.prog W 0 sp held m 3 (([c0, c1, c2, c3].drop 0).take (Tryz.prog.cellsOf 3)) = xs[0]? := hf 0 _ rfl
    have f1 : DataW.trod enc Tryz.prog W 0 sp held m 3 (([c0, c1, c2, c3].drop 1).take (Tryz.prog.cellsOf 3)) = xs[1]? := hf 1 _ rfl
    have f2 : DataW.trod enc Tryz.prog W 0 sp held m 3 (([c0, c1, c2, c3].drop 2).take (Tryz.prog.cellsOf 3)) = xs[2]? := hf 2 _ rfl
    have f3 : DataW.trod enc Tryz.prog W 0 sp held m 3 (([c0, c1, c2, c3].drop 3).take (Tryz.prog.cellsOf 3)) = xs[3]? := hf 3 _ rfl
    obtain ⟨x0, e0⟩ := some_at (i := 0) hxl (by decide)
    obtain ⟨x1, e1⟩ := some_at (i := 1) hxl (by decide)
    obtain ⟨x2, e2⟩ := some_at (i := 2) hxl (by decide)
    obtain ⟨x3, e3⟩ := some_at (i := 3) hxl (by decide)
    rw [e0, cells_int] at f0
    rw [e1, cells_int] at f1
    rw [e2, cells_int] at f2
    rw [e3, cells_int] at f3
    obtain ⟨a, rfl⟩ := fld_int f0
    obtain ⟨b, rfl⟩ := fld_int f1
    obtain ⟨c, rfl⟩ := fld_int f2
    obtain ⟨d, rfl⟩ := fld_int f3
    exact ⟨a, b, c, d, rfl⟩
theorem read_version {cs : List Value} {x : DataW H × List MemPlace} (h : DataW.trod enc Tryz.prog W 0 sp held n 37 cs = some x) : (∃ v : Ver, cs = v.cells) ∧ 5 ≤ Rows.uptoBulk x.1 := by
  obtain ⟨xs, m, _, hx, hl, hxl, hf⟩ := DataW.trod_struct Tryz.underlying37 h
  rw [cells_version] at hl
  refine ⟨?_, ?_⟩
  · match cs, hl with
    | [c0, c1, c2, c3, c4, c5, c6, c7], _ =>
      have f0 : DataW.trod enc Tryz.prog W 0 sp held m 34 (([c0, c1, c2, c3, c4, c5, c6, c7].drop 0).take (Tryz.prog.cellsOf 34)) = xs[0]? := hf 0 _ rfl
      have f1 : DataW.trod enc Tryz.prog W 0 sp held m 35 (([c0, c1, c2, c3, c4, c5, c6, c7].drop 2).take (Tryz.prog.cellsOf 35)) = xs[1]? := hf 1 _ rfl
      have f2 : DataW.trod enc Tryz.prog W 0 sp held m 9 (([c0, c1, c2, c3, c4, c5, c6, c7].drop 6).take (Tryz.prog.cellsOf 9)) = xs[2]? := hf 2 _ rfl
      have f3 : DataW.trod enc Tryz.prog W 0 sp held m 4 (([c0, c1, c2, c3, c4, c5, c6, c7].drop 7).take (Tryz.prog.cellsOf 4)) = xs[3]? := hf 3 _ rfl
      obtain ⟨x0, e0⟩ := some_at (i := 0) hxl (by decide)
      obtain ⟨x1, e1⟩ := some_at (i := 1) hxl (by decide)
      obtain ⟨x2, e2⟩ := some_at (i := 2) hxl (by decide)
      obtain ⟨x3, e3⟩ := some_at (i := 3) hxl (by decide)
      rw [e0, cells_dot] at f0
      rw [e1, cells_over] at f1
      rw [e2, cells_text] at f2
      rw [e3, cells_bool] at f3
      obtain ⟨s, rfl⟩ := fld_text f2
      obtain ⟨b, rfl⟩ := fld_bool f3
      obtain ⟨ys, m1, _, _, _, hyl, hg⟩ := DataW.trod_struct Tryz.underlying34 f0
      have g0 : DataW.trod enc Tryz.prog W 0 sp held m1 3 (([c0, c1].drop 0).take (Tryz.prog.cellsOf 3)) = ys[0]? := hg 0 _ rfl
      have g1 : DataW.trod enc Tryz.prog W 0 sp held m1 3 (([c0, c1].drop 1).take (Tryz.prog.cellsOf 3)) = ys[1]? := hg 1 _ rfl
      obtain ⟨y0, d0⟩ := some_at (i := 0) hyl (by decide)
      obtain ⟨y1, d1⟩ := some_at (i := 1) hyl (by decide)
      rw [d0, cells_int] at g0
      rw [d1, cells_int] at g1
      obtain ⟨i0, rfl⟩ := fld_int g0
      obtain ⟨i1, rfl⟩ := fld_int g1
      obtain ⟨zs, m2, _, _, _, hzl, hh⟩ := DataW.trod_array Tryz.underlying35 f1
      have k0 := hh 0 (by decide)
      have k1 := hh 1 (by decide)
      have k2 := hh 2 (by decide)
      have k3 := hh 3 (by decide)
      obtain ⟨z0, b0⟩ := some_at (i := 0) hzl (by decide)
      obtain ⟨z1, b1⟩ := some_at (i := 1) hzl (by decide)
      obtain ⟨z2, b2⟩ := some_at (i := 2) hzl (by decide)
      obtain ⟨z3, b3⟩ := some_at (i := 3) hzl (by decide)
      rw [b0, cells_int] at k0
      rw [b1, cells_int] at k1
      rw [b2, cells_int] at k2
      rw [b3, cells_int] at k3
      obtain ⟨o0, rfl⟩ := fld_int k0
      obtain ⟨o1, rfl⟩ := fld_int k1
      obtain ⟨o2, rfl⟩ := fld_int k2
      obtain ⟨o3, rfl⟩ := fld_int k3
      exact ⟨⟨i0, i1, o0, o1, o2, o3, s, b⟩, rfl⟩
  · rw [hx]
    have := bulk_all 1 (xs.map (·.1)) (fun d _ => bulk_pos d)
    rw [List.length_map, hxl] at this
    simp only [Rows.uptoBulk]
    exact Nat.succ_le_succ this
theorem read_op {cs : List Value} {x : DataW H × List MemPlace} (h : DataW.trod enc Tryz.prog W 0 sp held n 39 cs = some x) : (∃ o : OpM, cs = o.cells) ∧ 13 ≤ Rows.uptoBulk x.1 := by
  obtain ⟨xs, m, _, hx, hl, hxl, hf⟩ := DataW.trod_struct Tryz.underlying39 h
  rw [cells_op] at hl
  have f0 : DataW.trod enc Tryz.prog W 0 sp held m 3 ((cs.drop 0).take (Tryz.prog.cellsOf 3)) = xs[0]? := hf 0 _ rfl
  have f1 : DataW.trod enc Tryz.prog W 0 sp held m 3 ((cs.drop 1).take (Tryz.prog.cellsOf 3)) = xs[1]? := hf 1 _ rfl
  have f2 : DataW.trod enc Tryz.prog W 0 sp held m 3 ((cs.drop 2).take (Tryz.prog.cellsOf 3)) = xs[2]? := hf 2 _ rfl
  have f3 : DataW.trod enc Tryz.prog W 0 sp held m 3 ((cs.drop 3).take (Tryz.prog.cellsOf 3)) = xs[3]? := hf 3 _ rfl
  have f4 : DataW.trod enc Tryz.prog W 0 sp held m 9 ((cs.drop 4).take (Tryz.prog.cellsOf 9)) = xs[4]? := hf 4 _ rfl
  have f5 : DataW.trod enc Tryz.prog W 0 sp held m 9 ((cs.drop 5).take (Tryz.prog.cellsOf 9)) = xs[5]? := hf 5 _ rfl
  have f6 : DataW.trod enc Tryz.prog W 0 sp held m 37 ((cs.drop 6).take (Tryz.prog.cellsOf 37)) = xs[6]? := hf 6 _ rfl
  have hxl8 : xs.length = 8 := hxl
  match xs, hxl8 with
  | [x0, x1, x2, x3, x4, x5, x6, x7], _ =>
    simp only [List.getElem?_cons_zero, List.getElem?_cons_succ] at f0 f1 f2 f3 f4 f5 f6
    rw [cells_int] at f0 f1 f2 f3
    rw [cells_text] at f4 f5
    rw [cells_version] at f6
    obtain ⟨hv, hb⟩ := read_version f6
    refine ⟨?_, ?_⟩
    · match cs, hl with
      | [c0, c1, c2, c3, c4, c5, c6, c7, c8, c9, c10, c11, c12, c13, c14], _ =>
        obtain ⟨i0, rfl⟩ := fld_int f0
        obtain ⟨i1, rfl⟩ := fld_int f1
        obtain ⟨i2, rfl⟩ := fld_int f2
        obtain ⟨i3, rfl⟩ := fld_int f3
        obtain ⟨s4, rfl⟩ := fld_text f4
        obtain ⟨s5, rfl⟩ := fld_text f5
        obtain ⟨v, hv⟩ := hv
        have hv' : [c6, c7, c8, c9, c10, c11, c12, c13] = v.cells := hv
        refine ⟨⟨i0, i1, i2, i3, s4, s5, v, c14⟩, ?_⟩
        unfold OpM.cells
        rw [← hv']
        rfl
    · rw [hx]
      simp only [Rows.uptoBulk, List.map_cons, List.map_nil, Rows.uptoBulkAll]
      have a0 := bulk_pos x0.1; have a1 := bulk_pos x1.1; have a2 := bulk_pos x2.1; have a3 := bulk_pos x3.1; have a4 := bulk_pos x4.1; have a5 := bulk_pos x5.1; have a7 := bulk_pos x7.1
      omega
end
theorem cells_at {w : World} {a : Addr} {n : Nat} {cs : List Value} (h : w.cells? 0 a n = some cs) (k : Nat) (hk : k < n) : w.cell? (a.add k) = cs[k]? := by
  unfold World.cells? at h
  rw [if_pos (Nat.zero_le _)] at h
  exact mapM_some_get h k k (by simp [hk])
theorem cell_lt {w : World} {p : Addr} {v : Value} (h : w.cell? p = some v) : p.block < w.heap.size := by
  refine Nat.lt_of_not_le fun hle => ?_
  unfold World.cell? at h
  rw [Array.getElem?_eq_none hle] at h
  cases h
theorem read_script {H : Type} {enc : TypeId × Value → H} {W : World} {fuel : Nat} {cs : List Value} {x : DataW H × List MemPlace} (h : DataW.trod enc Tryz.prog W 0 (fun _ => true) true fuel 24 cs = some x) :
    ∃ (sa : Option Addr) (c : Nat) (os : List OpM), cs = [.slice sa os.length c] ∧ (os ≠ [] → ∃ a, sa = some a ∧ a.block < W.heap.size ∧ Steps W a os) ∧ 13 * os.length ≤ Rows.uptoBulk x.1 := by
  rcases Deep.open_slice Tryz.underlying24 h with ⟨rfl, rfl⟩ | ⟨a, len, cap, m, n, D, Pl, rfl, hb, hle, hmax, hm, hx, hel⟩
  · exact ⟨none, 0, [], rfl, fun e => absurd rfl e, by simp⟩
  · have hlm : len ≤ m := by rw [hm]; split <;> omega
    have hop : ∀ i, i < len → ∃ o : OpM, W.cells? 0 (a.add (i * 15)) 15 = some o.cells ∧ 13 ≤ Rows.uptoBulk (D i) := fun i hi => by
      obtain ⟨cs', h1, h2⟩ := hel i (by omega)
      rw [cells_op] at h1
      obtain ⟨⟨o, rfl⟩, h4⟩ := read_op h2
      exact ⟨o, h1, h4⟩
    obtain ⟨f, hf⟩ : ∃ f : Nat → OpM, ∀ i, i < len → W.cells? 0 (a.add (i * 15)) 15 = some (f i).cells ∧ 13 ≤ Rows.uptoBulk (D i) := by
      classical
      refine ⟨fun i => if hi : i < len then Classical.choose (hop i hi) else ⟨0, 0, 0, 0, ByteArray.empty, ByteArray.empty, ⟨0, 0, 0, 0, 0, 0, ByteArray.empty, false⟩, .bool false⟩, fun i hi => ?_⟩
      simp only [dif_pos hi]
      exact Classical.choose_spec (hop i hi)
    have hlen : ((List.range len).map f).length = len := by simp
    have hst : Steps W a ((List.range len).map f) := fun i hi k hk => by
      rw [hlen] at hi
      rw [cells_at (hf i hi).1 k hk]
      simp
    refine ⟨some a, cap, (List.range len).map f, by rw [hlen], fun hne => ⟨a, rfl, ?_, hst⟩, ?_⟩
    · have hpos : 0 < len := Nat.pos_of_ne_zero fun e => hne (by rw [e]; rfl)
      have := hst 0 (by rw [hlen]; exact hpos) 0 (by decide)
      rw [Nat.zero_mul, add_zero, add_zero] at this
      exact cell_lt this
    · rw [hlen, hx]
      simp only [Rows.uptoBulk]
      have := bulk_all 13 ((List.range len).map D) (fun d hd => by
        obtain ⟨i, hi, rfl⟩ := List.mem_map.1 hd
        exact (hf i (List.mem_range.1 hi)).2)
      rw [List.length_map, List.length_range] at this
      omega
set_option maxHeartbeats 800000 in
theorem writes_calls (herr : ErrnoSaid) (B : Nat) (node room seg syn : Int) (sa : Option Addr) (c : Nat) (os : List OpM) (w : World) (htab : TabAt B w) (hB : B ≤ w.heap.size) (hos : os ≠ [] → ∃ a, sa = some a ∧ a.block < w.heap.size ∧ Steps w a os) (hlen : os.length ≤ 100000) :
    Calls Tryz.prog 3 #[.agg #[.int .i64 node, .int .i64 room, .int .i64 seg, .int .i64 syn], .slice sa os.length c] w fun e w' => e = .returned (.bool true) ∧ Fr Nil w w' := by
  have HTAB := hide htab
  have HBW := hide hB
  have HOS := hide hos
  clear htab hB hos
  have fA : Fr Nil w (w.alloc (.cells #[.int .i64 node, .int .i64 (-1), .int .i64 seg, .int .i64 syn] 23)) := (Fr.refl _ _).alloc _
  have HFA := hide fA
  clear fA
  go_enter Tryz.func3, Tryz.ntmps3
  go_wp2_with fail
  have hsz : w.heap.size + 1 = (w.alloc (.cells #[.int .i64 node, .int .i64 (-1), .int .i64 seg, .int .i64 syn] 23)).heap.size := by simp
  generalize w.alloc (.cells #[.int .i64 node, .int .i64 (-1), .int .i64 seg, .int .i64 syn] 23) = w1 at HFA hsz ⊢
  have hb2 := Blk.newAt w1 [.int .i64 1, .int .i64 11, .int .i64 12, .int .i64 13, .int .i64 14, .int .i64 15] 3 _ hsz
  have f2 : Fr Nil w1 (w1.alloc (.cells #[.int .i64 1, .int .i64 11, .int .i64 12, .int .i64 13, .int .i64 14, .int .i64 15] 3)) := (Fr.refl _ _).alloc _
  generalize w1.alloc (.cells #[.int .i64 1, .int .i64 11, .int .i64 12, .int .i64 13, .int .i64 14, .int .i64 15] 3) = w2 at hb2 f2 ⊢
  have F2 := HFA.out.trans f2
  have hrow : w2.ownsRow 0 3 1 (.slice (some ⟨w.heap.size + 1, 0, none⟩) kindsOut.length 6) kindsOut.length (kindsOut.map (.int .i64 ·)) := own_of hb2 (by decide) (by decide) rfl rfl
  refine (played_calls herr B node seg syn sa c os _ w2 (HTAB.out.fr HBW.out F2 (fun _ e => absurd e id)) (Nat.le_trans HBW.out F2.size) (fun hne => ?_) hlen hrow).mono ?_
  · obtain ⟨a, e, hab, hst⟩ := HOS.out hne
    refine ⟨a, e, Nat.lt_of_lt_of_le hab F2.size, fun i hi k hk => ?_⟩
    rw [F2.cell (by rw [add_block, add_block]; exact hab) id]
    exact hst i hi k hk
  · rintro e w3 ⟨rfl, f3⟩
    have HF3 := hide (F2.trans f3)
    clear hb2 f2 F2 hrow f3 hsz
    go_wp2_with fail
    go_ret
    exact ⟨rfl, HF3.out⟩
theorem tab_of_laid {W : World} (h : laidMetH Tryz.prog Rows.writesRow.laid W) : Tab W := by
  have h2 := (laidMetH_iff.1 h).1.filter (fun x => x.1 == powName)
  have e : ((Rows.writesRow.laid.filter fun x => x.2.handleName?.isNone).filter fun x => x.1 == powName) = [(powName, Lib.tabData .u64 Lib.pow10Tab)] := by kernel_rfl
  rw [e] at h2
  exact Lib.tabIs_of_head (rest := []) (g := 1) (by kernel_rfl) (t := 322) (by kernel_rfl) Tryz.underlying322 Tryz.underlying274 (by kernel_rfl) (by kernel_rfl) h2
theorem pow_global : Tryz.prog.globalNamed powName = some 1 := by kernel_rfl
theorem err_global : Tryz.prog.globalNamed "errors.errorType" = some 0 := by kernel_rfl
theorem types_size : Tryz.prog.types.size = 396 := by kernel_rfl
theorem one_error : ((List.range 396).filter fun t => Tryz.prog.rowNamed t [101, 114, 114, 111, 114]) = [132] := by kernel_rfl
theorem hnd_of_laid {W : World} (h : laidMetH Tryz.prog Rows.writesRow.laid W) : Hnd W := by
  have h2 := (laidMetH_iff.1 h).2
  have e : (Rows.writesRow.laid.filter fun x => x.2.handleName?.isSome) = [("errors.errorType", Rows.laid_errors_errorType)] := by kernel_rfl
  rw [e] at h2
  obtain ⟨name, u, ty, e1, e2, e3, e4, e5⟩ := h2 _ (List.mem_singleton.2 rfl)
  have en : name = [101, 114, 114, 111, 114] := (Option.some.inj e1).symm
  subst en
  have eu : some u = some 309 := e2.symm.trans (by kernel_rfl)
  obtain rfl := Option.some.inj eu
  have hm : ty ∈ (List.range 396).filter fun t => Tryz.prog.rowNamed t [101, 114, 114, 111, 114] := List.mem_filter.2 ⟨List.mem_range.2 (by rw [← types_size]; exact e3), e4⟩
  rw [one_error] at hm
  obtain rfl := List.mem_singleton.1 hm
  have hh : typeHandle Tryz.prog 132 = .pointer (some ⟨6, 132, none⟩) := by kernel_rfl
  rw [hh] at e5
  have := World.var?_cell err_global e5 0
  unfold Hnd
  simpa using this
theorem tabAt_of_laid {W : World} (h : laidMetH Tryz.prog Rows.writesRow.laid W) : TabAt W.heap.size W := by
  have h1 := tab_of_laid h
  have h2 := hnd_of_laid h
  refine ⟨h1, fun g hg => ?_, h2, cell_lt h2⟩
  have := Option.some.inj (pow_global.symm.trans hg)
  subst this
  exact cell_lt (h1.cell pow_global 0 (by decide))
end Go.Proofs.YtkhnggkkiefcdaaGreatDoor
namespace Go.Proofs.YtkhnggkkiefcdaaGreatDoor
open Go.ChangeShapes Go.WideShapes Go.ChangeAt Go.RowKit
set_option maxRecDepth 100000
theorem no_knob : ownKnob Tryz.prog.godebug = none := by kernel_rfl
theorem all_laid : laidOutB Tryz.prog = true := by kernel_rfl
def plainLaid : List (String × DataW Unit) := Rows.writesRow.laid.filter fun x => x.2.handleName?.isNone
theorem laid_fits (os : Os) : ({ World.holding Tryz.prog os ⟨#[], #[], []⟩ with heap := (World.holding Tryz.prog os ⟨#[], #[], []⟩).heap.modify 0 fun | .cells _ t frozen => .cells #[.iface 309 (.agg #[.pointer (some ⟨6, 132, none⟩)])] t frozen | o => o } : World).layFits Tryz.prog plainLaid [] = true := by kernel_rfl
theorem laid_ifaces (os : Os) : ({ World.holding Tryz.prog os ⟨#[], #[], []⟩ with heap := (World.holding Tryz.prog os ⟨#[], #[], []⟩).heap.modify 0 fun | .cells _ t frozen => .cells #[.iface 309 (.agg #[.pointer (some ⟨6, 132, none⟩)])] t frozen | o => o } : World).layIfaces Tryz.prog plainLaid (({ World.holding Tryz.prog os ⟨#[], #[], []⟩ with heap := (World.holding Tryz.prog os ⟨#[], #[], []⟩).heap.modify 0 fun | .cells _ t frozen => .cells #[.iface 309 (.agg #[.pointer (some ⟨6, 132, none⟩)])] t frozen | o => o } : World).layVars Tryz.prog plainLaid) = true := by kernel_rfl
theorem laid_plain (os : Os) (args : Array Value) : laidMet Tryz.prog plainLaid ((({ World.holding Tryz.prog os ⟨#[], #[], []⟩ with heap := (World.holding Tryz.prog os ⟨#[], #[], []⟩).heap.modify 0 fun | .cells _ t frozen => .cells #[.iface 309 (.agg #[.pointer (some ⟨6, 132, none⟩)])] t frozen | o => o } : World).layVars Tryz.prog plainLaid).forCall (fun _ _ => 0) ⟨#[], args, []⟩).memory := by
  have e1 : (plainLaid.filter fun x => (plainLaid.map (·.1)).contains x.1) = plainLaid := List.filter_eq_self.2 fun x hx => List.contains_iff_mem.2 (List.mem_map.2 ⟨x, hx, rfl⟩)
  have e2 : (plainLaid.filter fun x => !(plainLaid.map (·.1)).contains x.1) = [] := List.filter_eq_nil_iff.2 fun x hx => by rw [List.contains_iff_mem.2 (List.mem_map.2 ⟨x, hx, rfl⟩)]; simp
  have h : laidMet Tryz.prog plainLaid (({ World.holding Tryz.prog os ⟨#[], #[], []⟩ with heap := (World.holding Tryz.prog os ⟨#[], #[], []⟩).heap.modify 0 fun | .cells _ t frozen => .cells #[.iface 309 (.agg #[.pointer (some ⟨6, 132, none⟩)])] t frozen | o => o } : World).layVars Tryz.prog plainLaid) := laidMet_layVars (w0 := ({ World.holding Tryz.prog os ⟨#[], #[], []⟩ with heap := (World.holding Tryz.prog os ⟨#[], #[], []⟩).heap.modify 0 fun | .cells _ t frozen => .cells #[.iface 309 (.agg #[.pointer (some ⟨6, 132, none⟩)])] t frozen | o => o } : World)) (plainLaid.map (·.1)) [] (by rw [e1]) (by rw [e1]; exact laid_fits os) (by rw [e1]; exact laid_ifaces os) (by rw [e2]; exact LaidIn.none)
  exact h.of_heap (by simp [World.memory, World.forCall, Input.heap])
theorem laid_met (os : Os) (args : Array Value) : laidMetH Tryz.prog Rows.writesRow.laid ((({ World.holding Tryz.prog os ⟨#[], #[], []⟩ with heap := (World.holding Tryz.prog os ⟨#[], #[], []⟩).heap.modify 0 fun | .cells _ t frozen => .cells #[.iface 309 (.agg #[.pointer (some ⟨6, 132, none⟩)])] t frozen | o => o } : World).layVars Tryz.prog plainLaid).forCall (fun _ _ => 0) ⟨#[], args, []⟩).memory :=
  laidMetH_of_parts (laid_plain os args) (by kernel_rfl)
theorem agg_cells {cs : Array Value} {l : List Value} (h : (Value.agg cs).cells.toList = l) : cs = l.toArray := by
  have : cs.toList = l := h
  rw [← this]
theorem slice_cells {a b : Option Addr} {n m c d : Nat} (h : (Value.slice a n c).cells.toList = [.slice b m d]) : a = b ∧ n = m ∧ c = d := by
  have h2 : [Value.slice a n c] = [.slice b m d] := h
  simpa using h2
theorem reads (os : Os) {H : Type} (enc : TypeId × Value → H) : ∃ places, DataW.whole enc Tryz.prog ((({ World.holding Tryz.prog os ⟨#[], #[], []⟩ with heap := (World.holding Tryz.prog os ⟨#[], #[], []⟩).heap.modify 0 fun | .cells _ t frozen => .cells #[.iface 309 (.agg #[.pointer (some ⟨6, 132, none⟩)])] t frozen | o => o } : World).layVars Tryz.prog plainLaid).forCall (fun _ _ => 0) ⟨#[], #[.agg #[.int .i64 0, .int .i64 0, .int .i64 0, .int .i64 0], .slice none 0 0], []⟩).memory Tryz.f3.params.toList Rows.writesSpec.vars false #[Value.agg #[.int .i64 0, .int .i64 0, .int .i64 0, .int .i64 0], .slice none 0 0].toList 8 = some ([.agg [.lit (.int .i64 0), .lit (.int .i64 0), .lit (.int .i64 0), .lit (.int .i64 0)], .nil], [], places) :=
  ⟨[], by kernel_rfl⟩
theorem writes_lifted (os : Os) (started : os.Started) (H : Type) (enc : TypeId × Value → H) (F : Stop.Interp) :
    ReturnsInHanded {} Tryz.checked os 3 .any ((Rows.OpenSpec.upto Rows.writesSpec).preRow enc Tryz.prog Tryz.f3 Rows.writesUptoRow.domain false Rows.writesUptoRow.laid) (((Rows.OpenSpec.upto Rows.writesSpec).at F).post enc Tryz.prog Tryz.f3 false true false false) := by
  obtain ⟨places, hx⟩ := reads os enc
  refine returnsInHanded_of_row (C := Tryz.checked) (s := Rows.OpenSpec.upto Rows.writesSpec) no_knob started (by kernel_rfl) Tryz.func3
    (witness_row_atRef (enc := enc) (C := Tryz.checked) false (({ World.holding Tryz.prog os ⟨#[], #[], []⟩ with heap := (World.holding Tryz.prog os ⟨#[], #[], []⟩).heap.modify 0 fun | .cells _ t frozen => .cells #[.iface 309 (.agg #[.pointer (some ⟨6, 132, none⟩)])] t frozen | o => o } : World).layVars Tryz.prog plainLaid) #[.agg #[.int .i64 0, .int .i64 0, .int .i64 0, .int .i64 0], .slice none 0 0] rfl (by kernel_rfl) (by kernel_rfl) (by kernel_rfl)
      (OpenSpec.preRow_of_cond 8 hx (by kernel_rfl) (fun k hk => by cases hk; kernel_rfl) (by kernel_rfl) (laid_met os _))) ?_
  intro W base args ds gs before hval hW _ hcond _ hL _ _
  have hW' := hW
  obtain ⟨p, q, hA0, hV, rfl, hfz, hnd⟩ := hW
  have hA : DataW.TrodAll enc Tryz.prog W 0 (fun _ => true) true Tryz.f3.params.toList args.toList ds p := hA0
  rw [Tryz.params3] at hA hval
  obtain ⟨v0, v1, d0, d1, p0, p1, rfl, rfl, rfl, h0, h1⟩ := trodAll_two hA
  obtain ⟨rfl, rfl⟩ := trodVars_none hV
  obtain ⟨cs0, rfl, _⟩ := okWide_struct Tryz.underlying23 (hval 0 23 v0 rfl rfl)
  obtain ⟨a0, len, cap, rfl⟩ := okWide_slice Tryz.underlying24 (hval 1 24 v1 rfl rfl)
  have h0k := h0
  have h1k := h1
  obtain ⟨f0, hf0⟩ := h0
  obtain ⟨f1, hf1⟩ := h1
  obtain ⟨na, ra, sa, ya, hcs0⟩ := read_set hf0
  obtain ⟨sl, c1, ops, hcs1, hos, hbk⟩ := read_script hf1
  obtain rfl := agg_cells hcs0
  obtain ⟨rfl, rfl, rfl⟩ := slice_cells hcs1
  have hk : Rows.uptoSmall H ([d0, d1] ++ []) = true := hcond _ rfl
  have hlen : ops.length ≤ 100000 := by
    have h := of_decide_eq_true hk
    simp only [List.append_nil, Rows.uptoBulkAll] at h
    have hb : 13 * ops.length ≤ Rows.uptoBulk d1 := hbk
    omega
  have hlt0 : ∀ x ∈ p0, x.block < W.heap.size := fun x hx => hW'.lt x (by simp [hx])
  have hlt1 : ∀ x ∈ p1, x.block < W.heap.size := fun x hx => hW'.lt x (by simp [hx])
  refine (writes_calls errno_said W.heap.size na ra sa ya _ _ ops W (tabAt_of_laid hL) (Nat.le_refl _) hos hlen).mono fun e W' ⟨he, hf⟩ => ?_
  subst he
  refine ⟨_, rfl, [d0, d1], [], _, [], p0 ++ p1, [], hW', trodAll_cons_mk (shut_bool Tryz.underlying4 _) trodAll_mk0, ?_, rfl, hf.below.frame _, fun h => by cases h⟩
  exact trodAll_mk2 (Below.trod all_laid (by kernel_rfl) (of_decide_eq_true (by kernel_rfl)) h0k hf.below hlt0) (Below.trod all_laid (by kernel_rfl) (of_decide_eq_true (by kernel_rfl)) h1k hf.below hlt1)
end Go.Proofs.YtkhnggkkiefcdaaGreatDoor
