/-
  larder: writes_holds: the texts RefB, RefC, RefD, RefE, joined; 
-/
import Derived.Test.YtkhnggkkiefcdaaGreatDoorWAI
namespace Go.Proofs.YtkhnggkkiefcdaaGreatDoor
open Go.RowKit
set_option maxRecDepth 100000
theorem versM_at {K : Keys} {key : ByteArray} (i : Nat) (hi : i < K.length) (h1 : ∀ j (hj : j < K.length), j < i → (K[j].1 == key) = false) (h2 : (K[i].1 == key) = true) : versM K key = K[i].2 := by
  unfold versM
  have : K.find? (fun e => e.1 == key) = some K[i] := by
    rw [List.find?_eq_some_iff_getElem]
    exact ⟨h2, i, hi, rfl, fun j hj => by simp [h1 j (by omega) hj]⟩
  rw [this]
theorem versM_no {K : Keys} {key : ByteArray} (h1 : ∀ j (hj : j < K.length), (K[j].1 == key) = false) : versM K key = [] := by
  unfold versM
  have : K.find? (fun e => e.1 == key) = none := by
    rw [List.find?_eq_none]
    intro x hx
    obtain ⟨j, hj, rfl⟩ := List.getElem_of_mem hx
    simp [h1 j hj]
  rw [this]
theorem Pair.key {R : Value → List Ver → Prop} {us : List (ByteArray × Value)} {bs : Keys} (h : Pair R us bs) (i : Nat) (h1 : i < us.length) (h2 : i < bs.length) : us[i].1 = bs[i].1 := by
  have := h.keys
  have e1 : (us.map Prod.fst)[i]'(by simpa using h1) = us[i].1 := List.getElem_map ..
  have e2 : (bs.map Prod.fst)[i]'(by simpa using h2) = bs[i].1 := List.getElem_map ..
  rw [← e1, ← e2]
  congr 1
set_option maxHeartbeats 1600000 in
theorem versionsM_calls (p : Nat) (kv hv : Value) (ents : List (ByteArray × Value)) (m : LM) (key : ByteArray) (w : World) (h : MAt w p kv hv ents m) :
    Calls Tryz.prog 117 #[.pointer (some ⟨p, 0, none⟩), .string key] w fun e w' => ∃ v, e = .returned v ∧ VRow w v (versM m.keys key) ∧ (∀ k, v.ownBlock = some k → MBlk p kv hv ents k) ∧ w' = w := by
  have hle : ents.length = m.keys.length := h.pair.length
  have hn := own_le h.ent
  unfold maxLen at hn
  have hc1 : w.cell? ⟨p, 1, none⟩ = some kv := h.blk.cell 1
  obtain ⟨a, cap, rfl⟩ := own_form h.ent
  have HH := hide h
  have HLE := hide hle
  clear h hle
  go_enter Tryz.func117, Tryz.ntmps117
  go_wp2_with fail
  go_loopw [5] (fun t w' => ∃ i : Nat, i ≤ ents.length ∧ t = .int .i64 i ∧ (∀ j (hj : j < m.keys.length), j < i → (m.keys[j].1 == key) = false) ∧ w' = w) (fun t _ => ents.length - (intOf t).toNat)
  case atStart => exact ⟨0, Nat.zero_le _, rfl, fun j _ hj => absurd hj (Nat.not_lt_zero _), rfl⟩
  case round =>
    obtain ⟨i, hi, rfl, hj, hw⟩ := hrel
    subst hw
    by_cases hlt : i < ents.length
    · obtain ⟨g, cap', hg, _, _⟩ := own_some HH.out.ent (by omega)
      obtain ⟨rfl, rfl⟩ : a = some ⟨g, 0, none⟩ ∧ cap = cap' := by simpa using hg
      have hlk : i < m.keys.length := by have := HLE.out; omega
      have hc2 := own_cell? HH.out.ent (i * 2) _ (flatE_get ents i hlt).1
      have hc3 := own_cell? HH.out.ent (i * 2 + 1) _ (flatE_get ents i hlt).2
      have hkey : ents[i].1 = m.keys[i].1 := HH.out.pair.key i hlt hlk
      have hrow : VRow wr ents[i].2 m.keys[i].2 := HH.out.pair.get i hlt hlk
      have hblk : ∀ k, ents[i].2.ownBlock = some k → MBlk p (.slice (some ⟨g, 0, none⟩) ents.length cap) hv ents k := fun k e => .inr (.inr (.inr ⟨ents[i], List.getElem_mem hlt, e⟩))
      rw [hkey] at hc2
      obtain ⟨ra, rc, hform⟩ := own_form hrow
      have hb := beq_toListBytes m.keys[i].1 key
      cases hm : (m.keys[i].1 == key) with
      | true =>
        have hm' : (m.keys[i].1.toList == key.toList) = true := by rw [← hb]; exact hm
        have hv := versM_at i hlk hj hm
        have HV := hide hv
        have HROW := hide hrow
        have HBLK := hide hblk
        rw [hform] at hc3 HROW HBLK
        clear hb hm hj hv hrow hblk hkey hform hg
        go_wp2
        go_ret
        exact ⟨_, rfl, by rw [HV.out]; exact HROW.out, HBLK.out, rfl⟩
      | false =>
        have hm' : (m.keys[i].1.toList == key.toList) = false := by rw [← hb]; exact hm
        have hj' : ∀ j (hj : j < m.keys.length), j < i + 1 → (m.keys[j].1 == key) = false := by
          intro j hjl hjk
          by_cases e : j = i
          · subst e; exact hm
          · exact hj j hjl (by omega)
        have HJ := hide hj'
        clear hb hm hj hj' hrow hblk hkey hform hg hc3
        go_wp2
        exact ⟨⟨i + 1, by omega, by go_num, HJ.out, by first | rfl | trivial⟩, by simp [intOf]; omega⟩
    · have hv := versM_no (K := m.keys) (key := key) (fun j hjl => hj j hjl (by have := HLE.out; omega))
      have HV := hide hv
      clear hj hv
      go_wp2
      go_ret
      exact ⟨_, rfl, by rw [HV.out]; exact World.ownsRow_nil _ 0 _ _, fun k hk => by simp [Value.ownBlock] at hk, rfl⟩
theorem infoKey : ((Tryz.prog.info? 186).map fun i => (i.zero.map (·.cells.size), i.size, i.bytes)) = some (some 2, 2, 40) := by kernel_rfl
theorem app_key (w : World) (v : Value) (n : Nat) (xs : List Value) (h : w.ownsRow 0 186 2 v n xs) (key : ByteArray) (a : Option Addr) (l c : Nat) (hn : n < 1000000000) (W0 : World) (hf : Fr Nil w W0) (N : Nat) (hN : Blk W0 N [.string key, .slice a l c] 186) (ty : TypeId) :
    ∃ v' w', (Builtin.append_ #[105, 105] ty #[v, .slice (some ⟨N, 0, none⟩) 1 1]).run Tryz.prog W0 = .ok v' w' ∧
      (w'.ownsRow 0 186 2 v' (n + 1) (xs ++ [.string key, .slice a l c]) ∧ Fr (fun k => v.ownBlock = some k) w w' ∧ (∀ k, v'.ownBlock = some k → v.ownBlock = some k ∨ w.heap.size ≤ k)) := by
  have ho := own_fr h hf (fun _ _ => id)
  obtain ⟨v', w', hr, h1, h2, h3⟩ := run_app_slice (P := Tryz.prog) 105 ty 186 2 40 Tryz.underlying105 infoKey (by omega) v n xs ho ⟨N, 0, none⟩ 1 1 [.string key, .slice a l c] rfl
    (fun j u hu => by rw [Addr.add_lit, Nat.zero_add, hN.cell]; exact hu) (by intro u hu; simp at hu; rcases hu with rfl | rfl <;> rfl) (by unfold maxLen; omega) (by omega)
  refine ⟨v', w', hr, h1, (hf.mono (fun _ _ e => absurd e id)).trans' ((Fr.of_grown h2).mono (fun i _ h => h)) (fun i _ h => h), fun k hk => ?_⟩
  rcases h3 with h3 | h3
  · exact .inl (by rw [← h3]; exact hk)
  · rw [h3] at hk; simp at hk; have := hf.size; exact .inr (by omega)
structure WithAt (w w' : World) (nb : Nat) (hv : Value) (node : Int) (K : Keys) (P : Nat → Prop) : Prop where
  ex : ∃ kv ents, Blk w' nb [.int .i64 node, kv, hv] 107 ∧ w'.ownsRow 0 186 2 kv ents.length (flatE ents) ∧ Pair (VRow w') ents K ∧ (∀ k, kv.ownBlock = some k → w.heap.size ≤ k) ∧ (∀ e ∈ ents, ∀ k, e.2.ownBlock = some k → P k)
  fr : Fr Nil w w'
  le : w.heap.size ≤ nb
theorem flatE_snoc (l : List (ByteArray × Value)) (k : ByteArray) (x : Value) : flatE (l ++ [(k, x)]) = flatE l ++ [.string k, x] := by rw [flatE_append]; rfl
theorem WithAt.app {w wr w4 : World} {nb : Nat} {hv : Value} {node : Int} {K : Keys} {P : Nat → Prop} (hf : Fr Nil w wr) (hle : w.heap.size ≤ nb) {kv kv' : Value} {ents : List (ByteArray × Value)}
    (hb : Blk wr nb [.int .i64 node, kv, hv] 107) (ho : wr.ownsRow 0 186 2 kv ents.length (flatE ents)) (hp : Pair (VRow wr) ents K) (hk : ∀ k, kv.ownBlock = some k → w.heap.size ≤ k) (he : ∀ e ∈ ents, ∀ k, e.2.ownBlock = some k → P k)
    {key : ByteArray} {x : Value} {lx : List Ver} (h4 : w4.ownsRow 0 186 2 kv' (ents.length + 1) (flatE ents ++ [.string key, x])) (f4 : Fr (fun b => kv.ownBlock = some b) wr w4) (hn : ∀ b, kv'.ownBlock = some b → kv.ownBlock = some b ∨ wr.heap.size ≤ b)
    (hx : VRow wr x lx) (hxP : ∀ b, x.ownBlock = some b → P b) : WithAt w (w4.setCell ⟨nb, 1, none⟩ kv') nb hv node (K ++ [(key, lx)]) P := by
  have hne : kv.ownBlock ≠ some nb := own_ne ho hb (by decide)
  have hb4 : Blk w4 nb _ _ := hb.fr f4 hne
  have fs : Fr (fun k => k = nb) w4 (w4.setCell ⟨nb, 1, none⟩ kv') := Fr.set (S := fun k => k = nb) (p := ⟨nb, 1, none⟩) (Fr.refl _ _) (fun _ => rfl) _
  have hrow : ∀ v (lv : List Ver), VRow wr v lv → VRow (w4.setCell ⟨nb, 1, none⟩ kv') v lv := fun v lv hv => VRow.fr (VRow.fr hv f4 (fun k hk e => own_ne' hv ho (by decide) hk e)) fs (fun k hk e => by subst e; exact own_ne hv hb (by decide) hk)
  refine ⟨⟨kv', ents ++ [(key, x)], hb4.set 1 kv', ?_, ?_, ?_, ?_⟩, ?_, hle⟩
  · rw [flatE_snoc, List.length_append, List.length_singleton]
    exact own_fr h4 fs (fun k hk e => by subst e; exact own_ne h4 hb4 (by decide) hk)
  · exact Pair.append (hp.mono fun a _ l' hl' => hrow _ _ hl') ⟨rfl, hrow _ _ hx, trivial⟩
  · intro k hk'
    exact (hn k hk').elim (hk k) (fun h => Nat.le_trans hf.size h)
  · intro e hem k hk'
    rcases List.mem_append.1 hem with hem | hem
    · exact he e hem k hk'
    · simp at hem; subst hem; exact hxP k hk'
  · exact ((hf.trans' f4 (fun i hi e => by have := hk i e; omega)).trans' fs (fun i hi e => by omega))
set_option maxHeartbeats 3200000 in
theorem with_calls' (p : Nat) (kv hv : Value) (ents : List (ByteArray × Value)) (m : LM) (key : ByteArray) (lv : Value) (l : List Ver) (w : World) (h : MAt w p kv hv ents m) (hl : VRow w lv l) (hlen : ents.length < 100000000) :
    Calls Tryz.prog 157 #[.pointer (some ⟨p, 0, none⟩), .string key, lv] w fun e w' =>
      ∃ nb, e = .returned (.pointer (some ⟨nb, 0, none⟩)) ∧ WithAt w w' nb hv m.node (withM m.keys key l) (fun k => MBlk p kv hv ents k ∨ lv.ownBlock = some k) := by
  obtain ⟨la, lc, hlf⟩ := own_form hl
  obtain ⟨ka, kc, hkf⟩ := own_form h.ent
  obtain ⟨ha, hc, hhf⟩ := own_form h.hint
  have hcp := h.blk.cell
  rw [hkf, hhf] at hcp
  have HH := hide h
  have HL := hide hl
  have hle : ents.length = m.keys.length := h.pair.length
  have HLE := hide hle
  subst hlf
  have hb := Blk.new w [.int .i64 m.node, .slice none 0 0, .slice ha m.hints.length hc] 107
  have f0 : Fr Nil w (w.alloc (.cells #[.int .i64 m.node, .slice none 0 0, .slice ha m.hints.length hc] 107)).drew := ((Fr.refl _ _).alloc _).drew
  have HW : Hid (WithAt w (w.alloc (.cells #[.int .i64 m.node, .slice none 0 0, .slice ha m.hints.length hc] 107)).drew w.heap.size hv m.node [] (fun k => MBlk p kv hv ents k ∨ (Value.slice la l.length lc).ownBlock = some k)) :=
    ⟨⟨.slice none 0 0, [], by rw [hhf]; exact hb.drew, World.ownsRow_nil _ 0 _ _, trivial, fun k hk => by simp [Value.ownBlock] at hk, fun e he => by cases he⟩, f0, Nat.le_refl _⟩
  have HC0 := hide (fun wx (f : Fr Nil w wx) => (HH.out.nil f).blk.cell 1)
  have hemp : ((l.length : Int) == 0) = l.isEmpty := by cases l with | nil => rfl | cons a t => simp; omega
  have HEMP := hide hemp
  go_enter Tryz.func157, Tryz.ntmps157
  go_wp2_with fail
  clear h hl hle
  go_region
  have HF0 := hide f0
  generalize (w.alloc (.cells #[.int .i64 m.node, .slice none 0 0, .slice ha m.hints.length hc] 107)).drew = wb at HW HF0 ⊢
  generalize hnb : w.heap.size = nb at HW ⊢
  have HNB := hide hnb
  clear hb f0 hnb hcp
  go_wp2_with fail
  go_loopw [8, 9] (fun t8 t9 w' => ∃ i : Nat, i ≤ ents.length ∧ t9 = .int .i64 i ∧ t8 = .bool ((m.keys.take i).foldl (withStep key l) ([], l.isEmpty)).2 ∧ WithAt w w' nb hv m.node ((m.keys.take i).foldl (withStep key l) ([], l.isEmpty)).1 (fun k => MBlk p kv hv ents k ∨ (Value.slice la l.length lc).ownBlock = some k) ∧ ((m.keys.take i).foldl (withStep key l) ([], l.isEmpty)).1.length ≤ 2 * i) (fun _ t9 _ => ents.length - (intOf t9).toNat)
  case atStart => exact ⟨0, Nat.zero_le _, rfl, by first | rfl | (rw [← HEMP.out]; rfl), HW.out, by simp⟩
  case round =>
    obtain ⟨i, hi, rfl, rfl, hwa, hol⟩ := hrel
    have hc1 := HC0.out wr hwa.fr
    rw [hkf] at hc1
    simp only [List.getElem?_cons_succ, List.getElem?_cons_zero] at hc1
    by_cases hlt : i < ents.length
    · obtain ⟨g, cap', hg, _, _⟩ := own_some HH.out.ent (by omega)
      have hlk : i < m.keys.length := by have := HLE.out; omega
      have hat := HH.out.nil hwa.fr
      rw [hkf] at hg
      obtain ⟨rfl, rfl⟩ : ka = some ⟨g, 0, none⟩ ∧ kc = cap' := by simpa using hg
      have hent := hat.ent
      rw [hkf] at hent
      have hc2 := own_cell? hent (i * 2) _ (flatE_get ents i hlt).1
      have hc3 := own_cell? hent (i * 2 + 1) _ (flatE_get ents i hlt).2
      have hkey : ents[i].1 = m.keys[i].1 := HH.out.pair.key i hlt hlk
      have hrow : VRow wr ents[i].2 m.keys[i].2 := hat.pair.get i hlt hlk
      rw [hkey] at hc2
      obtain ⟨ra, rc, hform⟩ := own_form hrow
      rw [hform] at hc3 hrow
      have HOWN : Hid (∀ k, (Value.slice ra m.keys[i].2.length rc).ownBlock = some k → MBlk p kv hv ents k) := by rw [← hform]; exact fun k e => .inr (.inr (.inr ⟨ents[i], List.getElem_mem hlt, e⟩))
      have HROW := hide hrow
      have HSTEP : Hid ((m.keys.take (i + 1)).foldl (withStep key l) ([], l.isEmpty) = withStep key l ((m.keys.take i).foldl (withStep key l) ([], l.isEmpty)) m.keys[i]) := by
        rw [List.take_succ_eq_append_getElem hlk, List.foldl_append]; rfl
      have hpn : p ≠ nb := fun e => by have := HH.out.blk.lt; have := HNB.out; omega
      have hgn : g ≠ nb := fun e => by have := HH.out.lt g (.inr (.inl (by rw [hkf]; rfl))); have := HNB.out; omega
      have hc2E : ∀ wx, Fr Nil w wx → wx.cell? ⟨g, i * 2, none⟩ = some (.string m.keys[i].1) := fun wx f => by
        have h1 := (HH.out.nil f).ent; rw [hkf] at h1; have h2 := own_cell? h1 (i * 2) _ (flatE_get ents i hlt).1; rw [hkey] at h2; exact h2
      have hc3E : ∀ wx, Fr Nil w wx → wx.cell? ⟨g, i * 2 + 1, none⟩ = some (.slice ra m.keys[i].2.length rc) := fun wx f => by
        have h1 := (HH.out.nil f).ent; rw [hkf] at h1; have h2 := own_cell? h1 (i * 2 + 1) _ (flatE_get ents i hlt).2; rw [hform] at h2; exact h2
      have hrowE : ∀ wx, Fr Nil w wx → VRow wx (.slice ra m.keys[i].2.length rc) m.keys[i].2 := fun wx f => by
        have h1 := (HH.out.nil f).pair.get i hlt hlk; rw [hform] at h1; exact h1
      have hrowE := hide hrowE
      have hc2E := hide hc2E
      have hc3E := hide hc3E
      clear hrow hform hkey hent hat
      generalize (m.keys.take i).foldl (withStep key l) ([], l.isEmpty) = st at hwa hol HSTEP ⊢
      generalize m.keys[i] = K at hc2 hc3 hc2E hc3E hrowE HSTEP HROW HOWN
      obtain ⟨out, done⟩ := st
      obtain ⟨kn, kvs⟩ := K
      simp only at hwa hol hc2 hc3 hc2E hc3E hrowE HROW HOWN ⊢
      have hbq := beq_toListBytes kn key
      cases done with
      | false =>
        cases hb : lessB kn key with
        | false =>
          have hbl : Op.bytesLess kn.toList key.toList = false := hb
          by_cases hke : kn = key
          · have hkt : (kn.toList == key.toList) = true := by rw [hke]; simp
            have HWS : Hid (withStep key l (out, false) (kn, kvs) = (out ++ [(key, l)], true)) := hide (by subst hke; simp [withStep, hb])
            clear hke hb hbq
            obtain ⟨⟨kv1, e1, hb1, ho1, hp1, hk1, he1⟩, hf1, hle1⟩ := hwa
            have hel : e1.length < 1000000000 := by have := hp1.length; omega
            obtain ⟨a1, c1, hv1⟩ := own_form ho1
            subst hv1
            have hcn := hb1.cell
            have hzn := hb1.frozen
            have HB4 : Hid (∀ w4 : World, Fr (fun k => (Value.slice a1 e1.length c1).ownBlock = some k) wr w4 → Blk w4 nb [.int .i64 m.node, .slice a1 e1.length c1, hv] 107) := fun w4 f => hb1.fr f (own_ne ho1 hb1 (by decide))
            have HB1 := hide hb1
            have HO1 := hide ho1
            have HP1 := hide hp1
            have HK1 := hide hk1
            have HE1 := hide he1
            have HF1 := hide hf1
            have HLE1 := hide hle1
            clear hb1 ho1 hp1 hk1 he1 hf1 hle1
            go_wp2_with (at_builtin; go_must (refine wpList_app rfl _ _ _ _ rfl _ _ (by rfl) (by rfl) (app_key wr _ _ _ HO1.out key la l.length lc hel _ (by repeat' first | (with_reducible first | exact Fr.refl _ _ | assumption | refine Fr.drewN ?_ _ | refine Fr.drew ?_ | refine Fr.alloc ?_ _ | refine Fr.set ?_ ?_ _) | (intro _; rfl)) _ (by exact Blk.new _ [_, _] _) _) ?_; rintro v4 w4 ⟨ho4, hf4, hn4⟩; obtain ⟨va4, vc4, hv4⟩ := own_form ho4; subst hv4; have hb4 := HB4.out _ hf4; have hc4 := hb4.cell; have hz4 := hb4.frozen; have HO4 := hide ho4; have HN4 := hide hn4; have HF4 := hide hf4; have hfa := HF1.out.trans' hf4 (fun k hk e => by have := HK1.out k e; omega); have hc14 := HC0.out w4 hfa; rw [hkf] at hc14; simp only [List.getElem?_cons_succ, List.getElem?_cons_zero] at hc14; have hc24 := hc2E.out w4 hfa; have hc34 := hc3E.out w4 hfa; clear ho4 hn4 hf4 hfa))
            have hwa5 := WithAt.app HF1.out HLE1.out HB1.out HO1.out HP1.out HK1.out HE1.out HO4.out HF4.out HN4.out (VRow.fr HL.out HF1.out (fun _ _ => id)) (fun b e => .inr e)
            have HWA5 := hide hwa5
            clear hwa5
            exact ⟨⟨i + 1, by omega, by go_num, by rw [HSTEP.out, HWS.out], by rw [HSTEP.out, HWS.out]; exact HWA5.out, by rw [HSTEP.out, HWS.out]; simp only [List.length_append, List.length_singleton]; omega⟩, by simp [intOf]; omega⟩
          · have hkt : (kn.toList == key.toList) = false := by rw [← hbq]; cases h : (kn == key) with | false => rfl | true => exact absurd (eqB_iff.1 h) hke
            have HWS : Hid (withStep key l (out, false) (kn, kvs) = (out ++ [(key, l)] ++ [(kn, kvs)], true)) := hide (by simp [withStep, hb, hke])
            clear hke hb hbq
            obtain ⟨⟨kv1, e1, hb1, ho1, hp1, hk1, he1⟩, hf1, hle1⟩ := hwa
            have hel : e1.length < 1000000000 := by have := hp1.length; omega
            obtain ⟨a1, c1, hv1⟩ := own_form ho1
            subst hv1
            have hcn := hb1.cell
            have hzn := hb1.frozen
            have HB4 : Hid (∀ w4 : World, Fr (fun k => (Value.slice a1 e1.length c1).ownBlock = some k) wr w4 → Blk w4 nb [.int .i64 m.node, .slice a1 e1.length c1, hv] 107) := fun w4 f => hb1.fr f (own_ne ho1 hb1 (by decide))
            have HB1 := hide hb1
            have HO1 := hide ho1
            have HP1 := hide hp1
            have HK1 := hide hk1
            have HE1 := hide he1
            have HF1 := hide hf1
            have HLE1 := hide hle1
            clear hb1 ho1 hp1 hk1 he1 hf1 hle1
            go_wp2_with (at_builtin; go_must (refine wpList_app rfl _ _ _ _ rfl _ _ (by rfl) (by rfl) (app_key wr _ _ _ HO1.out key la l.length lc hel _ (by repeat' first | (with_reducible first | exact Fr.refl _ _ | assumption | refine Fr.drewN ?_ _ | refine Fr.drew ?_ | refine Fr.alloc ?_ _ | refine Fr.set ?_ ?_ _) | (intro _; rfl)) _ (by exact Blk.new _ [_, _] _) _) ?_; rintro v4 w4 ⟨ho4, hf4, hn4⟩; obtain ⟨va4, vc4, hv4⟩ := own_form ho4; subst hv4; have hb4 := HB4.out _ hf4; have hc4 := hb4.cell; have hz4 := hb4.frozen; have HO4 := hide ho4; have HN4 := hide hn4; have HF4 := hide hf4; have hfa := HF1.out.trans' hf4 (fun k hk e => by have := HK1.out k e; omega); have hc14 := HC0.out w4 hfa; rw [hkf] at hc14; simp only [List.getElem?_cons_succ, List.getElem?_cons_zero] at hc14; have hc24 := hc2E.out w4 hfa; have hc34 := hc3E.out w4 hfa; clear ho4 hn4 hf4 hfa))
            have hwa5 := WithAt.app HF1.out HLE1.out HB1.out HO1.out HP1.out HK1.out HE1.out HO4.out HF4.out HN4.out (VRow.fr HL.out HF1.out (fun _ _ => id)) (fun b e => .inr e)
            have hol5 : (out ++ [(key, l)]).length ≤ 2 * i + 1 := by simp; omega
            generalize out ++ [(key, l)] = out5 at hwa5 hol5 HWS
            clear hc14 hc24 hc34 hcn hzn HB4 HB1 HO1 HP1 HK1 HE1 HF1 HLE1 HO4 HN4 HF4 hb4 hc4 hz4 hel hc1 hc2 hc3
            generalize w4.setCell ⟨nb, 1, none⟩ (.slice va4 (e1.length + 1) vc4) = w5 at hwa5 ⊢
            have hc1 := HC0.out w5 hwa5.fr
            rw [hkf] at hc1
            simp only [List.getElem?_cons_succ, List.getElem?_cons_zero] at hc1
            have hc2 := hc2E.out w5 hwa5.fr
            have hc3 := hc3E.out w5 hwa5.fr
            have hwa := hwa5
            clear hwa5
            obtain ⟨⟨kv1, e1, hb1, ho1, hp1, hk1, he1⟩, hf1, hle1⟩ := hwa
            have hel : e1.length < 1000000000 := by have := hp1.length; omega
            obtain ⟨a1, c1, hv1⟩ := own_form ho1
            subst hv1
            have hcn := hb1.cell
            have hzn := hb1.frozen
            have HB4 : Hid (∀ w4 : World, Fr (fun k => (Value.slice a1 e1.length c1).ownBlock = some k) w5 w4 → Blk w4 nb [.int .i64 m.node, .slice a1 e1.length c1, hv] 107) := fun w4 f => hb1.fr f (own_ne ho1 hb1 (by decide))
            have HB1 := hide hb1
            have HO1 := hide ho1
            have HP1 := hide hp1
            have HK1 := hide hk1
            have HE1 := hide he1
            have HF1 := hide hf1
            have HLE1 := hide hle1
            clear hb1 ho1 hp1 hk1 he1 hf1 hle1
            have hcA : ∀ (ob : Obj) k, (w5.alloc ob).cell? ⟨nb, k, none⟩ = [.int .i64 m.node, .slice a1 e1.length c1, hv][k]? := fun ob k => (HB1.out.alloc ob).cell k
            have hcP : ∀ (ob : Obj), (w5.alloc ob).cell? ⟨p, 1, none⟩ = some (.slice (some ⟨g, 0, none⟩) ents.length kc) := fun ob => by have := HC0.out _ (HF1.out.alloc ob); rw [hkf] at this; exact this
            have hcG : ∀ (ob : Obj), (w5.alloc ob).cell? ⟨g, i * 2, none⟩ = some (.string kn) := fun ob => hc2E.out _ (HF1.out.alloc ob)
            have hcH : ∀ (ob : Obj), (w5.alloc ob).cell? ⟨g, i * 2 + 1, none⟩ = some (.slice ra kvs.length rc) := fun ob => hc3E.out _ (HF1.out.alloc ob)
            have HROWX := hide (hrowE.out _ HF1.out)
            go_region_law
              ((refine step_app (by rfl) _ _ _ _ (by rfl) _ _ (by rfl) (by rfl) (app_key w5 _ _ _ HO1.out kn ra kvs.length rc hel _ (by repeat' first | (with_reducible first | exact Fr.refl _ _ | assumption | refine Fr.drewN ?_ _ | refine Fr.drew ?_ | refine Fr.alloc ?_ _ | refine Fr.set ?_ ?_ _) | (intro _; rfl)) _ (by first | exact Blk.new _ [_, _] _ | exact (Blk.new _ [_, _] _).drew) _) ?_; rintro v4 w4 ⟨ho4, hf4, hn4⟩; obtain ⟨va4, vc4, hv4⟩ := own_form ho4; subst hv4; have hb4 := HB4.out _ hf4; have hc4 := hb4.cell; have hz4 := hb4.frozen; have HO4 := hide ho4; have HN4 := hide hn4; have HF4 := hide hf4; clear ho4 hn4 hf4))
            all_goals
              go_wp2
              have hwa5 := WithAt.app HF1.out HLE1.out HB1.out HO1.out HP1.out HK1.out HE1.out HO4.out HF4.out HN4.out HROWX.out (fun b e => .inl (HOWN.out b e))
              exact ⟨⟨i + 1, by omega, by go_num, by rw [HSTEP.out, HWS.out], by rw [HSTEP.out, HWS.out]; exact hwa5, by rw [HSTEP.out, HWS.out]; simp only [List.length_append, List.length_singleton]; omega⟩, by simp [intOf]; omega⟩
        | true =>
          have hbl : Op.bytesLess kn.toList key.toList = true := hb
          have hke : kn ≠ key := ne_of_less hb
          have hkt : (kn.toList == key.toList) = false := by rw [← hbq]; cases h : (kn == key) with | false => rfl | true => exact absurd (eqB_iff.1 h) hke
          have HWS : Hid (withStep key l (out, false) (kn, kvs) = (out ++ [(kn, kvs)], false)) := hide (by simp [withStep, hb, hke])
          clear hke hb hbq
          obtain ⟨⟨kv1, e1, hb1, ho1, hp1, hk1, he1⟩, hf1, hle1⟩ := hwa
          have hel : e1.length < 1000000000 := by have := hp1.length; omega
          obtain ⟨a1, c1, hv1⟩ := own_form ho1
          subst hv1
          have hcn := hb1.cell
          have hzn := hb1.frozen
          have HB4 : Hid (∀ w4 : World, Fr (fun k => (Value.slice a1 e1.length c1).ownBlock = some k) wr w4 → Blk w4 nb [.int .i64 m.node, .slice a1 e1.length c1, hv] 107) := fun w4 f => hb1.fr f (own_ne ho1 hb1 (by decide))
          have HB1 := hide hb1
          have HO1 := hide ho1
          have HP1 := hide hp1
          have HK1 := hide hk1
          have HE1 := hide he1
          have HF1 := hide hf1
          have HLE1 := hide hle1
          clear hb1 ho1 hp1 hk1 he1 hf1 hle1
          go_wp2_with fail
          have hcA : ∀ (ob : Obj) k, (wr.alloc ob).cell? ⟨nb, k, none⟩ = [.int .i64 m.node, .slice a1 e1.length c1, hv][k]? := fun ob k => (HB1.out.alloc ob).cell k
          have hcP : ∀ (ob : Obj), (wr.alloc ob).cell? ⟨p, 1, none⟩ = some (.slice (some ⟨g, 0, none⟩) ents.length kc) := fun ob => by have := HC0.out _ (HF1.out.alloc ob); rw [hkf] at this; exact this
          have hcG : ∀ (ob : Obj), (wr.alloc ob).cell? ⟨g, i * 2, none⟩ = some (.string kn) := fun ob => hc2E.out _ (HF1.out.alloc ob)
          have hcH : ∀ (ob : Obj), (wr.alloc ob).cell? ⟨g, i * 2 + 1, none⟩ = some (.slice ra kvs.length rc) := fun ob => hc3E.out _ (HF1.out.alloc ob)
          have HROWX := hide (hrowE.out _ HF1.out)
          go_region_law
            ((refine step_app (by rfl) _ _ _ _ (by rfl) _ _ (by rfl) (by rfl) (app_key wr _ _ _ HO1.out kn ra kvs.length rc hel _ (by repeat' first | (with_reducible first | exact Fr.refl _ _ | assumption | refine Fr.drewN ?_ _ | refine Fr.drew ?_ | refine Fr.alloc ?_ _ | refine Fr.set ?_ ?_ _) | (intro _; rfl)) _ (by first | exact Blk.new _ [_, _] _ | exact (Blk.new _ [_, _] _).drew) _) ?_; rintro v4 w4 ⟨ho4, hf4, hn4⟩; obtain ⟨va4, vc4, hv4⟩ := own_form ho4; subst hv4; have hb4 := HB4.out _ hf4; have hc4 := hb4.cell; have hz4 := hb4.frozen; have HO4 := hide ho4; have HN4 := hide hn4; have HF4 := hide hf4; clear ho4 hn4 hf4))
          all_goals
            go_wp2
            have hwa5 := WithAt.app HF1.out HLE1.out HB1.out HO1.out HP1.out HK1.out HE1.out HO4.out HF4.out HN4.out HROWX.out (fun b e => .inl (HOWN.out b e))
            exact ⟨⟨i + 1, by omega, by go_num, by rw [HSTEP.out, HWS.out], by rw [HSTEP.out, HWS.out]; exact hwa5, by rw [HSTEP.out, HWS.out]; simp only [List.length_append, List.length_singleton]; omega⟩, by simp [intOf]; omega⟩
      | true =>
        by_cases hke : kn = key
        · have hkt : (kn.toList == key.toList) = true := by rw [hke]; simp
          have HWS : Hid (withStep key l (out, true) (kn, kvs) = (out, true)) := hide (by simp [withStep, hke])
          have HWA := hide hwa
          clear hke hbq hwa
          go_wp2
          exact ⟨⟨i + 1, by omega, by go_num, by rw [HSTEP.out, HWS.out], by rw [HSTEP.out, HWS.out]; exact HWA.out, by rw [HSTEP.out, HWS.out]; simp only; omega⟩, by simp [intOf]; omega⟩
        · have hkt : (kn.toList == key.toList) = false := by rw [← hbq]; cases h : (kn == key) with | false => rfl | true => exact absurd (eqB_iff.1 h) hke
          have HWS : Hid (withStep key l (out, true) (kn, kvs) = (out ++ [(kn, kvs)], true)) := hide (by simp [withStep, hke])
          clear hke hbq
          obtain ⟨⟨kv1, e1, hb1, ho1, hp1, hk1, he1⟩, hf1, hle1⟩ := hwa
          have hel : e1.length < 1000000000 := by have := hp1.length; omega
          obtain ⟨a1, c1, hv1⟩ := own_form ho1
          subst hv1
          have hcn := hb1.cell
          have hzn := hb1.frozen
          have HB4 : Hid (∀ w4 : World, Fr (fun k => (Value.slice a1 e1.length c1).ownBlock = some k) wr w4 → Blk w4 nb [.int .i64 m.node, .slice a1 e1.length c1, hv] 107) := fun w4 f => hb1.fr f (own_ne ho1 hb1 (by decide))
          have HB1 := hide hb1
          have HO1 := hide ho1
          have HP1 := hide hp1
          have HK1 := hide hk1
          have HE1 := hide he1
          have HF1 := hide hf1
          have HLE1 := hide hle1
          clear hb1 ho1 hp1 hk1 he1 hf1 hle1
          go_wp2_with fail
          have hcA : ∀ (ob : Obj) k, (wr.alloc ob).cell? ⟨nb, k, none⟩ = [.int .i64 m.node, .slice a1 e1.length c1, hv][k]? := fun ob k => (HB1.out.alloc ob).cell k
          have hcP : ∀ (ob : Obj), (wr.alloc ob).cell? ⟨p, 1, none⟩ = some (.slice (some ⟨g, 0, none⟩) ents.length kc) := fun ob => by have := HC0.out _ (HF1.out.alloc ob); rw [hkf] at this; exact this
          have hcG : ∀ (ob : Obj), (wr.alloc ob).cell? ⟨g, i * 2, none⟩ = some (.string kn) := fun ob => hc2E.out _ (HF1.out.alloc ob)
          have hcH : ∀ (ob : Obj), (wr.alloc ob).cell? ⟨g, i * 2 + 1, none⟩ = some (.slice ra kvs.length rc) := fun ob => hc3E.out _ (HF1.out.alloc ob)
          have HROWX := hide (hrowE.out _ HF1.out)
          go_region_law
            ((refine step_app (by rfl) _ _ _ _ (by rfl) _ _ (by rfl) (by rfl) (app_key wr _ _ _ HO1.out kn ra kvs.length rc hel _ (by repeat' first | (with_reducible first | exact Fr.refl _ _ | assumption | refine Fr.drewN ?_ _ | refine Fr.drew ?_ | refine Fr.alloc ?_ _ | refine Fr.set ?_ ?_ _) | (intro _; rfl)) _ (by first | exact Blk.new _ [_, _] _ | exact (Blk.new _ [_, _] _).drew) _) ?_; rintro v4 w4 ⟨ho4, hf4, hn4⟩; obtain ⟨va4, vc4, hv4⟩ := own_form ho4; subst hv4; have hb4 := HB4.out _ hf4; have hc4 := hb4.cell; have hz4 := hb4.frozen; have HO4 := hide ho4; have HN4 := hide hn4; have HF4 := hide hf4; clear ho4 hn4 hf4))
          all_goals
            go_wp2
            have hwa5 := WithAt.app HF1.out HLE1.out HB1.out HO1.out HP1.out HK1.out HE1.out HO4.out HF4.out HN4.out HROWX.out (fun b e => .inl (HOWN.out b e))
            exact ⟨⟨i + 1, by omega, by go_num, by rw [HSTEP.out, HWS.out], by rw [HSTEP.out, HWS.out]; exact hwa5, by rw [HSTEP.out, HWS.out]; simp only [List.length_append, List.length_singleton]; omega⟩, by simp [intOf]; omega⟩
    · obtain rfl : i = ents.length := by omega
      have htk : m.keys.take ents.length = m.keys := by rw [HLE.out, List.take_length]
      rw [htk] at hwa hol ⊢
      have hfin : withM m.keys key l = (m.keys.foldl (withStep key l) ([], l.isEmpty)).1 ++ if (m.keys.foldl (withStep key l) ([], l.isEmpty)).2 = true then [] else [(key, l)] := rfl
      generalize m.keys.foldl (withStep key l) ([], l.isEmpty) = st at hwa hol hfin ⊢
      obtain ⟨out, done⟩ := st
      simp only at hwa hol hfin ⊢
      cases done with
      | true =>
        have HWA := hide hwa
        simp only [if_true, List.append_nil] at hfin
        have HFIN := hide hfin
        clear hwa hfin htk
        go_wp2
        go_ret
        exact ⟨nb, rfl, by rw [HFIN.out]; exact HWA.out⟩
      | false =>
        simp only [Bool.false_eq_true, if_false] at hfin
        have HFIN := hide hfin
        have hpn : p ≠ nb := fun e => by have := HH.out.blk.lt; have := HNB.out; omega
        clear hfin htk
        obtain ⟨⟨kv1, e1, hb1, ho1, hp1, hk1, he1⟩, hf1, hle1⟩ := hwa
        have hel : e1.length < 1000000000 := by have := hp1.length; omega
        obtain ⟨a1, c1, hv1⟩ := own_form ho1
        subst hv1
        have hcn := hb1.cell
        have hzn := hb1.frozen
        have HB4 : Hid (∀ w4 : World, Fr (fun k => (Value.slice a1 e1.length c1).ownBlock = some k) wr w4 → Blk w4 nb [.int .i64 m.node, .slice a1 e1.length c1, hv] 107) := fun w4 f => hb1.fr f (own_ne ho1 hb1 (by decide))
        have HB1 := hide hb1
        have HO1 := hide ho1
        have HP1 := hide hp1
        have HK1 := hide hk1
        have HE1 := hide he1
        have HF1 := hide hf1
        have HLE1 := hide hle1
        clear hb1 ho1 hp1 hk1 he1 hf1 hle1
        go_wp2_with (at_builtin; go_must (refine wpList_app rfl _ _ _ _ rfl _ _ (by rfl) (by rfl) (app_key wr _ _ _ HO1.out key la l.length lc hel _ (by repeat' first | (with_reducible first | exact Fr.refl _ _ | assumption | refine Fr.drewN ?_ _ | refine Fr.drew ?_ | refine Fr.alloc ?_ _ | refine Fr.set ?_ ?_ _) | (intro _; rfl)) _ (by exact Blk.new _ [_, _] _) _) ?_; rintro v4 w4 ⟨ho4, hf4, hn4⟩; obtain ⟨va4, vc4, hv4⟩ := own_form ho4; subst hv4; have hb4 := HB4.out _ hf4; have hc4 := hb4.cell; have hz4 := hb4.frozen; have HO4 := hide ho4; have HN4 := hide hn4; have HF4 := hide hf4; have hfa := HF1.out.trans' hf4 (fun k hk e => by have := HK1.out k e; omega); have hc14 := HC0.out w4 hfa; rw [hkf] at hc14; simp only [List.getElem?_cons_succ, List.getElem?_cons_zero] at hc14; clear ho4 hn4 hf4 hfa))
        have hwa5 := WithAt.app HF1.out HLE1.out HB1.out HO1.out HP1.out HK1.out HE1.out HO4.out HF4.out HN4.out (VRow.fr HL.out HF1.out (fun _ _ => id)) (fun b e => .inr e)
        have HWA5 := hide hwa5
        clear hwa5
        go_ret
        exact ⟨nb, rfl, by rw [HFIN.out]; exact HWA5.out⟩
def KGr (K : Nat → Prop) (w w' : World) (k : Nat) : Prop := K k ∨ (w.heap.size ≤ k ∧ k < w'.heap.size)
theorem WithAt.rep {K : Nat → Prop} {w w' : World} {p nb : Nat} {kv hv : Value} {ents : List (ByteArray × Value)} {m : LM} {lv : Value} {KK : Keys} (h : MAt w p kv hv ents m) (hk : ∀ k, MBlk p kv hv ents k → K k) (hlk : ∀ k, lv.ownBlock = some k → K k)
    (hw : WithAt w w' nb hv m.node KK (fun k => MBlk p kv hv ents k ∨ lv.ownBlock = some k)) : MRep (KGr K w w') w' nb { m with keys := KK } := by
  obtain ⟨⟨kv', ents', h1, h2, h3, h4, h5⟩, hf, hle⟩ := hw
  refine ⟨kv', hv, ents', ⟨h1, h2, h3, own_fr h.hint hf (fun _ _ => id)⟩, fun k hk' => ?_⟩
  rcases hk' with rfl | e | e | ⟨a, ha, e⟩
  · exact .inr ⟨hle, h1.lt⟩
  · exact .inr ⟨h4 k e, own_lt h2 e⟩
  · exact .inl (hk k (.inr (.inr (.inl e))))
  · exact .inl ((h5 a ha k e).elim (hk k) (hlk k))
theorem KGr.trans {K : Nat → Prop} {a b c : World} {k : Nat} (h : KGr (KGr K a b) b c k) (h1 : a.heap.size ≤ b.heap.size) (h2 : b.heap.size ≤ c.heap.size) : KGr K a c k := by
  rcases h with (h | ⟨h, h'⟩) | ⟨h, h'⟩
  · exact .inl h
  · exact .inr ⟨h, by omega⟩
  · exact .inr ⟨by omega, h'⟩
theorem MRep.nil {K : Nat → Prop} {w w' : World} {p : Nat} {m : LM} (h : MRep K w p m) (f : Fr Nil w w') : MRep (KGr K w w') w' p m := by
  obtain ⟨kv, hv, ents, ha, hb⟩ := h
  exact ⟨kv, hv, ents, ha.nil f, fun k hk => .inl (hb k hk)⟩
theorem withM_calls (K : Nat → Prop) (p : Nat) (m : LM) (key : ByteArray) (lv : Value) (l : List Ver) (w : World) (h : MRep K w p m) (hl : VRow w lv l) (hlk : ∀ k, lv.ownBlock = some k → K k) (hlen : m.keys.length < 100000000) :
    Calls Tryz.prog 157 #[.pointer (some ⟨p, 0, none⟩), .string key, lv] w fun e w' =>
      ∃ nb, e = .returned (.pointer (some ⟨nb, 0, none⟩)) ∧ MRep (KGr K w w') w' nb { m with keys := withM m.keys key l } ∧ Fr Nil w w' ∧ w.heap.size ≤ nb := by
  obtain ⟨kv, hv, ents, ha, hb⟩ := h
  refine (with_calls' p kv hv ents m key lv l w ha hl (by rw [ha.pair.length]; exact hlen)).mono ?_
  rintro e w' ⟨nb, rfl, hw⟩
  exact ⟨nb, rfl, hw.rep ha hb hlk, hw.fr, hw.le⟩
def LM.delete (m : LM) (key : ByteArray) : LM := { m with keys := withM m.keys key [] }
theorem deleteM_calls (K : Nat → Prop) (p : Nat) (m : LM) (key : ByteArray) (w : World) (h : MRep K w p m) (hlen : m.keys.length < 100000000) :
    Calls Tryz.prog 108 #[.pointer (some ⟨p, 0, none⟩), .string key] w fun e w' =>
      ∃ nb, e = .returned (.pointer (some ⟨nb, 0, none⟩)) ∧ MRep (KGr K w w') w' nb (m.delete key) ∧ Fr Nil w w' ∧ w.heap.size ≤ nb := by
  have HC := hide (withM_calls K p m key (.slice none 0 0) [] w h (World.ownsRow_nil w 0 _ _) (fun k hk => by simp [Value.ownBlock] at hk) hlen)
  clear h
  go_enter Tryz.func108, Tryz.ntmps108
  go_wp2_with (refine HC.out.mono ?_; rintro e w1 ⟨nb, rfl, h1, h2, h3⟩; have H1 := hide h1; clear h1)
  go_ret
  exact ⟨nb, rfl, H1.out, h2, h3⟩
def LM.putV (m : LM) (key value : ByteArray) (seq : Int) : Ver :=
  ⟨m.node, seq, grV (versM m.keys key) 0, grV (versM m.keys key) 1, grV (versM m.keys key) 2, grV (versM m.keys key) 3, value, false⟩
def LM.put (m : LM) (key value : ByteArray) (seq : Int) : LM := { m with keys := withM m.keys key [m.putV key value seq] }
set_option maxHeartbeats 3200000 in
theorem putM_calls (K : Nat → Prop) (p : Nat) (m : LM) (key value : ByteArray) (seq : Int) (w : World) (h : MRep K w p m) (hlen : m.keys.length < 100000000) (hnode : ∀ u ∈ versM m.keys key, isNode u.node) :
    Calls Tryz.prog 109 #[.pointer (some ⟨p, 0, none⟩), .string key, .string value, .int .i64 seq] w fun e w' =>
      ∃ nb, e = .returned (.pointer (some ⟨nb, 0, none⟩)) ∧ MRep (KGr K w w') w' nb (m.put key value seq) ∧ Fr Nil w w' ∧ w.heap.size ≤ nb := by
  obtain ⟨kv, hv, ents, ha, hb⟩ := h
  have hcp : w.cell? ⟨p, 0, none⟩ = some (.int .i64 m.node) := ha.blk.cell 0
  have hbx := Blk.new w [.int .i64 m.node, .int .i64 seq, .int .i64 0, .int .i64 0, .int .i64 0, .int .i64 0, .string value, .bool false] 37
  have f0 : Fr Nil w (w.alloc (.cells #[.int .i64 m.node, .int .i64 seq, .int .i64 0, .int .i64 0, .int .i64 0, .int .i64 0, .string value, .bool false] 37)) := (Fr.refl _ _).alloc _
  have HA := hide ha
  have HB := hide hb
  have HND := hide hnode
  clear ha hb hnode
  go_enter Tryz.func109, Tryz.ntmps109
  go_wp2_with fail
  generalize w.alloc (.cells #[.int .i64 m.node, .int .i64 seq, .int .i64 0, .int .i64 0, .int .i64 0, .int .i64 0, .string value, .bool false] 37) = wb at hbx f0 ⊢
  generalize hnb : w.heap.size = nb at hbx ⊢
  have HNB := hide hnb
  clear hnb
  refine (versionsM_calls p kv hv ents m key wb (HA.out.nil f0)).mono ?_
  rintro e w1 ⟨v, rfl, hrow, hown, hw1⟩
  subst hw1
  have hn := own_le hrow
  unfold maxLen at hn
  obtain ⟨va, vc, rfl⟩ := own_form hrow
  have HROW := hide hrow
  have HF0 := hide f0
  have HOWN : Hid (∀ k, (Value.slice va (versM m.keys key).length vc).ownBlock = some k → k ≠ nb) := fun k hk e => by have := HA.out.lt k (hown k hk); have := HNB.out; omega
  have HG : Hid (LM.putV m key value seq = ⟨m.node, seq, grV (versM m.keys key) 0, grV (versM m.keys key) 1, grV (versM m.keys key) 2, grV (versM m.keys key) 3, value, false⟩) := rfl
  have hltb := hbx.lt
  generalize versM m.keys key = old at hn HROW HND HG HOWN ⊢
  clear hrow hown f0 hcp
  go_wp2_with fail
  go_loopw [11] (fun t w' => ∃ i : Nat, i ≤ old.length ∧ t = .int .i64 i ∧ Blk w' nb [.int .i64 m.node, .int .i64 seq, .int .i64 (grV (old.take i) 0), .int .i64 (grV (old.take i) 1), .int .i64 (grV (old.take i) 2), .int .i64 (grV (old.take i) 3), .string value, .bool false] 37 ∧ Fr (fun k => k = nb) w1 w') (fun t _ => old.length - (intOf t).toNat)
  case atStart => exact ⟨0, Nat.zero_le _, rfl, hbx, Fr.refl _ _⟩
  case round =>
    obtain ⟨i, hi, rfl, hbi, hf⟩ := hrel
    by_cases hlt : i < old.length
    · obtain ⟨g, rfl⟩ : ∃ g, va = some ⟨g, 0, none⟩ := by
        obtain ⟨g, cap, h, _⟩ := own_some HROW.out (by omega)
        simp at h; exact ⟨g, h.1⟩
      have hc := VRow.cells (own_fr HROW.out hf (fun k hk e => HOWN.out k hk e)) i hlt
      have g0 := hc 0 (by omega)
      have g1 := hc 1 (by omega)
      have hx := HND.out old[i] (List.getElem_mem hlt)
      have HST0 := hide (grV_succ old i hlt 0)
      have HST1 := hide (grV_succ old i hlt 1)
      have HST2 := hide (grV_succ old i hlt 2)
      have HST3 := hide (grV_succ old i hlt 3)
      clear hc
      generalize old[i] = x at g0 g1 hx HST0 HST1 HST2 HST3
      obtain ⟨xn, xs, x0, x1, x2, x3, xv, xg⟩ := x
      simp only [Ver.cells, Nat.add_zero, List.getElem?_cons_zero, List.getElem?_cons_succ] at g0 g1 HST0 HST1 HST2 HST3
      generalize grV (old.take i) 0 = a0 at hbi HST0
      generalize grV (old.take i) 1 = a1 at hbi HST1
      generalize grV (old.take i) 2 = a2 at hbi HST2
      generalize grV (old.take i) 3 = a3 at hbi HST3
      have hcn := hbi.cell
      have hzn := hbi.frozen
      have hcs : xn = 0 ∨ xn = 1 ∨ xn = 2 ∨ xn = 3 := by unfold isNode at hx; simp only at hx; omega
      clear hx
      rcases hcs with hx | hx | hx | hx
      · subst hx
        by_cases hgt : a0 < xs
        · have HB2 := hide ((show Blk wr nb _ _ from hbi).set 2 (.int .i64 xs))
          have HF2 : Hid (∀ n, Fr (fun k => k = nb) w1 ((wr.drewN n).setCell ⟨nb, 2, none⟩ (.int .i64 xs))) := hide (fun n => Fr.set (S := fun k => k = nb) (p := ⟨nb, 2, none⟩) (hf.drewN n) (fun _ => rfl) _)
          have HM : Hid (max a0 xs = xs) := hide (by omega)
          clear hbi hf
          go_wp2
          go_quiet (fail)
          go_wp2
          exact ⟨⟨i + 1, by omega, by go_num, by first | (rw [HST0.out, HST1.out, HST2.out, HST3.out]; simp only [HM.out, if_true, show ¬ ((0:Int) = 1) from by decide, show ¬ ((0:Int) = 2) from by decide, show ¬ ((0:Int) = 3) from by decide, if_false]; exact HB2.out), HF2.out _⟩, by simp [intOf]; omega⟩
        · have HM : Hid (max a0 xs = a0) := hide (by omega)
          have HB2 := hide hbi
          have HF2 : Hid (∀ n, Fr (fun k => k = nb) w1 (wr.drewN n)) := hide (fun n => hf.drewN n)
          clear hbi hf
          go_wp2
          go_quiet (fail)
          go_wp2
          exact ⟨⟨i + 1, by omega, by go_num, by first | (rw [HST0.out, HST1.out, HST2.out, HST3.out]; simp only [HM.out, if_true, show ¬ ((0:Int) = 1) from by decide, show ¬ ((0:Int) = 2) from by decide, show ¬ ((0:Int) = 3) from by decide, if_false]; exact HB2.out), HF2.out _⟩, by simp [intOf]; omega⟩
      · subst hx
        by_cases hgt : a1 < xs
        · have HB2 := hide ((show Blk wr nb _ _ from hbi).set 3 (.int .i64 xs))
          have HF2 : Hid (∀ n, Fr (fun k => k = nb) w1 ((wr.drewN n).setCell ⟨nb, 3, none⟩ (.int .i64 xs))) := hide (fun n => Fr.set (S := fun k => k = nb) (p := ⟨nb, 3, none⟩) (hf.drewN n) (fun _ => rfl) _)
          have HM : Hid (max a1 xs = xs) := hide (by omega)
          clear hbi hf
          go_wp2
          go_quiet (fail)
          go_wp2
          exact ⟨⟨i + 1, by omega, by go_num, by first | (rw [HST0.out, HST1.out, HST2.out, HST3.out]; simp only [HM.out, if_true, show ¬ ((1:Int) = 0) from by decide, show ¬ ((1:Int) = 2) from by decide, show ¬ ((1:Int) = 3) from by decide, if_false]; exact HB2.out), HF2.out _⟩, by simp [intOf]; omega⟩
        · have HM : Hid (max a1 xs = a1) := hide (by omega)
          have HB2 := hide hbi
          have HF2 : Hid (∀ n, Fr (fun k => k = nb) w1 (wr.drewN n)) := hide (fun n => hf.drewN n)
          clear hbi hf
          go_wp2
          go_quiet (fail)
          go_wp2
          exact ⟨⟨i + 1, by omega, by go_num, by first | (rw [HST0.out, HST1.out, HST2.out, HST3.out]; simp only [HM.out, if_true, show ¬ ((1:Int) = 0) from by decide, show ¬ ((1:Int) = 2) from by decide, show ¬ ((1:Int) = 3) from by decide, if_false]; exact HB2.out), HF2.out _⟩, by simp [intOf]; omega⟩
      · subst hx
        by_cases hgt : a2 < xs
        · have HB2 := hide ((show Blk wr nb _ _ from hbi).set 4 (.int .i64 xs))
          have HF2 : Hid (∀ n, Fr (fun k => k = nb) w1 ((wr.drewN n).setCell ⟨nb, 4, none⟩ (.int .i64 xs))) := hide (fun n => Fr.set (S := fun k => k = nb) (p := ⟨nb, 4, none⟩) (hf.drewN n) (fun _ => rfl) _)
          have HM : Hid (max a2 xs = xs) := hide (by omega)
          clear hbi hf
          go_wp2
          go_quiet (fail)
          go_wp2
          exact ⟨⟨i + 1, by omega, by go_num, by first | (rw [HST0.out, HST1.out, HST2.out, HST3.out]; simp only [HM.out, if_true, show ¬ ((2:Int) = 0) from by decide, show ¬ ((2:Int) = 1) from by decide, show ¬ ((2:Int) = 3) from by decide, if_false]; exact HB2.out), HF2.out _⟩, by simp [intOf]; omega⟩
        · have HM : Hid (max a2 xs = a2) := hide (by omega)
          have HB2 := hide hbi
          have HF2 : Hid (∀ n, Fr (fun k => k = nb) w1 (wr.drewN n)) := hide (fun n => hf.drewN n)
          clear hbi hf
          go_wp2
          go_quiet (fail)
          go_wp2
          exact ⟨⟨i + 1, by omega, by go_num, by first | (rw [HST0.out, HST1.out, HST2.out, HST3.out]; simp only [HM.out, if_true, show ¬ ((2:Int) = 0) from by decide, show ¬ ((2:Int) = 1) from by decide, show ¬ ((2:Int) = 3) from by decide, if_false]; exact HB2.out), HF2.out _⟩, by simp [intOf]; omega⟩
      · subst hx
        by_cases hgt : a3 < xs
        · have HB2 := hide ((show Blk wr nb _ _ from hbi).set 5 (.int .i64 xs))
          have HF2 : Hid (∀ n, Fr (fun k => k = nb) w1 ((wr.drewN n).setCell ⟨nb, 5, none⟩ (.int .i64 xs))) := hide (fun n => Fr.set (S := fun k => k = nb) (p := ⟨nb, 5, none⟩) (hf.drewN n) (fun _ => rfl) _)
          have HM : Hid (max a3 xs = xs) := hide (by omega)
          clear hbi hf
          go_wp2
          go_quiet (fail)
          go_wp2
          exact ⟨⟨i + 1, by omega, by go_num, by first | (rw [HST0.out, HST1.out, HST2.out, HST3.out]; simp only [HM.out, if_true, show ¬ ((3:Int) = 0) from by decide, show ¬ ((3:Int) = 1) from by decide, show ¬ ((3:Int) = 2) from by decide, if_false]; exact HB2.out), HF2.out _⟩, by simp [intOf]; omega⟩
        · have HM : Hid (max a3 xs = a3) := hide (by omega)
          have HB2 := hide hbi
          have HF2 : Hid (∀ n, Fr (fun k => k = nb) w1 (wr.drewN n)) := hide (fun n => hf.drewN n)
          clear hbi hf
          go_wp2
          go_quiet (fail)
          go_wp2
          exact ⟨⟨i + 1, by omega, by go_num, by first | (rw [HST0.out, HST1.out, HST2.out, HST3.out]; simp only [HM.out, if_true, show ¬ ((3:Int) = 0) from by decide, show ¬ ((3:Int) = 1) from by decide, show ¬ ((3:Int) = 2) from by decide, if_false]; exact HB2.out), HF2.out _⟩, by simp [intOf]; omega⟩
    · obtain rfl : i = old.length := by omega
      rw [List.take_length] at hbi
      have hcn := hbi.cell
      have hfw : Fr Nil w wr := HF0.out.trans' hf (fun k hk e => by have := HNB.out; omega)
      have fx : Fr Nil w (wr.alloc (.cells #[.int .i64 m.node, .int .i64 seq, .int .i64 (grV old 0), .int .i64 (grV old 1), .int .i64 (grV old 2), .int .i64 (grV old 3), .string value, .bool false] 37)) := hfw.alloc _
      have hbn := Blk.new wr [.int .i64 m.node, .int .i64 seq, .int .i64 (grV old 0), .int .i64 (grV old 1), .int .i64 (grV old 2), .int .i64 (grV old 3), .string value, .bool false] 37
      have hrown : VRow (wr.alloc (.cells #[.int .i64 m.node, .int .i64 seq, .int .i64 (grV old 0), .int .i64 (grV old 1), .int .i64 (grV old 2), .int .i64 (grV old 3), .string value, .bool false] 37)) (.slice (some ⟨wr.heap.size, 0, none⟩) 1 1) [LM.putV m key value seq] := by rw [HG.out]; exact own_of (cap := 1) hbn (Nat.le_refl _) (by decide) rfl rfl
      have HCW := hide (withM_calls (KGr K w (wr.alloc (.cells #[.int .i64 m.node, .int .i64 seq, .int .i64 (grV old 0), .int .i64 (grV old 1), .int .i64 (grV old 2), .int .i64 (grV old 3), .string value, .bool false] 37))) p m key _ _ (wr.alloc (.cells #[.int .i64 m.node, .int .i64 seq, .int .i64 (grV old 0), .int .i64 (grV old 1), .int .i64 (grV old 2), .int .i64 (grV old 3), .string value, .bool false] 37)) (MRep.nil ⟨kv, hv, ents, HA.out, HB.out⟩ fx) hrown (fun k hk => by simp [Value.ownBlock] at hk; subst hk; exact .inr ⟨hfw.size, hbn.lt⟩) hlen)
      have HFX := hide fx
      have HPUT : Hid (LM.put m key value seq = { m with keys := withM m.keys key [LM.putV m key value seq] }) := rfl
      clear hbi hf hfw fx hbn hrown
      go_wp2_with fail
      refine HCW.out.mono ?_
      rintro e w5 ⟨nb5, rfl, h1, h2, h3⟩
      have H1 := hide h1
      have H2 := hide h2
      have H3 := hide h3
      clear h1 h2 h3
      go_wp2
      go_ret
      exact ⟨nb5, rfl, by rw [HPUT.out]; exact H1.out.mono (fun k hk => hk.trans HFX.out.size H2.out.size), HFX.out.trans H2.out, Nat.le_trans HFX.out.size H3.out⟩
theorem MRep.fin {K : Nat → Prop} {w W W' : World} {p : Nat} {m : LM} (h : MRep (KGr K w W) W p m) (f : Fr Nil W W') (hs : w.heap.size ≤ W.heap.size) : MRep (KGr K w W') W' p m := (h.nil f).mono (fun _ hk => hk.trans hs f.size)
def LM.hint (m : LM) (to : Nat) (text : ByteArray) : LM := { m with hints := m.hints ++ [(to, text)] }
def LM.ack (m : LM) : LM := { m with hints := m.hints.drop 1 }
theorem app_hints (w : World) (hv : Value) (l : List (Nat × ByteArray)) (h : w.ownsRow 0 75 2 hv l.length (flatH l)) (hn : l.length < 1000000) (W0 : World) (hf : Fr Nil w W0) (ty : TypeId) :
    ∃ v' w', (Builtin.append_ #[66, 66] ty #[.slice none 0 0, hv]).run Tryz.prog W0 = .ok v' w' ∧
      (w'.ownsRow 0 75 2 v' l.length (flatH l) ∧ Fr Nil w w' ∧ (∀ k, v'.ownBlock = some k → w.heap.size ≤ k)) := by
  have ho := own_fr h hf (fun _ _ => id)
  obtain ⟨v', w', hr, h1, h2, h3⟩ := run_app_from (P := Tryz.prog) 66 ty 75 2 24 Tryz.underlying66 infoHint (by omega) (.slice none 0 0) 0 [] (World.ownsRow_nil W0 0 _ _) hv l.length (flatH l) ho (flatH_one l) (by unfold maxLen; omega) (by omega)
  refine ⟨v', w', hr, by simpa using h1, hf.trans ((Fr.of_grown h2).mono (fun i _ h => by simp [Value.ownBlock] at h)), fun k hk => ?_⟩
  rcases h3 with h3 | h3
  · rw [h3] at hk; simp [Value.ownBlock] at hk
  · rw [h3] at hk; simp at hk; have := hf.size; omega
theorem app_tail (w : World) (g cap : Nat) (l : List (Nat × ByteArray)) (h : w.ownsRow 0 75 2 (.slice (some ⟨g, 0, none⟩) l.length cap) l.length (flatH l)) (hn : l.length < 1000000) (hp : 0 < l.length) (ad : Addr) (had : ad = ⟨g, 2, none⟩ ∨ l.length = 1) (c : Nat) (W0 : World) (hf : Fr Nil w W0) (ty : TypeId) :
    ∃ v' w', (Builtin.append_ #[66, 66] ty #[.slice none 0 0, .slice (some ad) (l.length - 1) c]).run Tryz.prog W0 = .ok v' w' ∧
      (w'.ownsRow 0 75 2 v' (l.length - 1) (flatH (l.drop 1)) ∧ Fr Nil w w' ∧ (∀ k, v'.ownBlock = some k → w.heap.size ≤ k)) := by
  have ho := own_fr h hf (fun _ _ => id)
  obtain ⟨x, r, rfl⟩ : ∃ x r, l = x :: r := by cases l with | nil => simp at hp | cons x r => exact ⟨x, r, rfl⟩
  simp only [List.length_cons, Nat.add_sub_cancel, List.drop_succ_cons, List.drop_zero] at ho ⊢
  obtain ⟨v', w', hr, h1, h2, h3⟩ := run_app_slice (P := Tryz.prog) 66 ty 75 2 24 Tryz.underlying66 infoHint (by omega) (.slice none 0 0) 0 [] (World.ownsRow_nil W0 0 _ _) ad r.length c (flatH r) (flatH_length r)
    (fun j u hu => by
      rcases had with rfl | had
      case inr => simp at had; subst had; simp [flatH] at hu
      rw [Addr.add_lit]; refine own_cell? ho (2 + j) u ?_; rw [show flatH (x :: r) = [.int .i64 x.1, .string x.2] ++ flatH r from rfl, List.getElem?_append_right (by simp)]; simpa using hu) (flatH_one r) (by unfold maxLen; simp at hn; omega) (by simp at hn; omega)
  refine ⟨v', w', hr, by simpa using h1, hf.trans ((Fr.of_grown h2).mono (fun i _ h => by simp [Value.ownBlock] at h)), fun k hk => ?_⟩
  rcases h3 with h3 | h3
  · rw [h3] at hk; simp [Value.ownBlock] at hk
  · rw [h3] at hk; simp at hk; have := hf.size; omega
theorem HintAt.rep {K : Nat → Prop} {w wr w4 : World} {p nb : Nat} {kv hv v' : Value} {ents : List (ByteArray × Value)} {m : LM} {hs hs' : List (Nat × ByteArray)} (ha : MAt w p kv hv ents m) (hk : ∀ k, MBlk p kv hv ents k → K k)
    {h0 : Value} (hbx : Blk wr nb [.int .i64 m.node, kv, h0] 107) (hf : Fr Nil w wr) (hle : w.heap.size ≤ nb) (ho : wr.ownsRow 0 75 2 h0 hs.length (flatH hs)) (h0k : ∀ k, h0.ownBlock = some k → w.heap.size ≤ k)
    {n : Nat} (hn4 : n = hs'.length) (h4 : w4.ownsRow 0 75 2 v' n (flatH hs')) (f4 : Fr (fun k => h0.ownBlock = some k) wr w4) (hn : ∀ k, v'.ownBlock = some k → w.heap.size ≤ k) :
    Blk (w4.setCell ⟨nb, 2, none⟩ v') nb [.int .i64 m.node, kv, v'] 107 ∧ Fr Nil w (w4.setCell ⟨nb, 2, none⟩ v') ∧ (w4.setCell ⟨nb, 2, none⟩ v').ownsRow 0 75 2 v' hs'.length (flatH hs') ∧ MRep (KGr K w (w4.setCell ⟨nb, 2, none⟩ v')) (w4.setCell ⟨nb, 2, none⟩ v') nb { m with hints := hs' } := by
  subst hn4
  have hb4 : Blk w4 nb _ _ := hbx.fr f4 (own_ne ho hbx (by decide))
  have fs : Fr (fun k => k = nb) w4 (w4.setCell ⟨nb, 2, none⟩ v') := Fr.set (S := fun k => k = nb) (p := ⟨nb, 2, none⟩) (Fr.refl _ _) (fun _ => rfl) _
  have hbs := hb4.set 2 v'
  have hF : Fr Nil w (w4.setCell ⟨nb, 2, none⟩ v') := (hf.trans' f4 (fun i hi e => by have := h0k i e; omega)).trans' fs (fun i hi e => by omega)
  have hrow : (w4.setCell ⟨nb, 2, none⟩ v').ownsRow 0 75 2 v' hs'.length (flatH hs') := own_fr h4 fs (fun k hk e => by subst e; exact own_ne h4 hb4 (by decide) hk)
  have ha' := ha.nil hF
  refine ⟨hbs, hF, hrow, kv, v', ents, ⟨hbs, ha'.ent, ha'.pair, hrow⟩, fun k hk' => ?_⟩
  rcases hk' with rfl | e | e | ⟨a, ham, e⟩
  · exact .inr ⟨hle, hbs.lt⟩
  · exact .inl (hk k (.inr (.inl e)))
  · exact .inr ⟨hn k e, own_lt hrow e⟩
  · exact .inl (hk k (.inr (.inr (.inr ⟨a, ham, e⟩))))
set_option maxHeartbeats 3200000 in
theorem ackM_calls (K : Nat → Prop) (p : Nat) (m : LM) (w : World) (h : MRep K w p m) (hlen : m.hints.length < 1000000) :
    Calls Tryz.prog 114 #[.pointer (some ⟨p, 0, none⟩)] w fun e w' =>
      (m.hints = [] ∧ e = .returned (.tuple #[.pointer none, .int .i64 7]) ∧ Fr Nil w w') ∨
      (m.hints ≠ [] ∧ ∃ nb, e = .returned (.tuple #[.pointer (some ⟨nb, 0, none⟩), .int .i64 0]) ∧ MRep (KGr K w w') w' nb m.ack ∧ Fr Nil w w' ∧ w.heap.size ≤ nb) := by
  obtain ⟨kv, hv, ents, ha, hb⟩ := h
  have hcp := ha.blk.cell
  obtain ⟨va, vc, hhv⟩ := own_form ha.hint
  obtain ⟨ka, kc, hkv⟩ := own_form ha.ent
  rw [hhv, hkv] at hcp
  have HA := hide ha
  have HB := hide hb
  clear ha hb
  by_cases h0 : m.hints = []
  · have h0' : ((m.hints.length : Int) == 0) = true := by rw [h0]; rfl
    rw [h0] at hcp
    have H0 := hide h0
    clear h0 h0'
    go_enter Tryz.func114, Tryz.ntmps114
    go_wp2
    go_ret2
    exact .inl ⟨H0.out, rfl, Fr.refl _ _⟩
  · have h0' : ((m.hints.length : Int) == 0) = false := by cases h : m.hints with | nil => exact absurd h h0 | cons a t => simp; omega
    have hpos : 0 < m.hints.length := List.length_pos_iff.2 h0
    have H0 := hide h0
    obtain ⟨g, cap, hgf, hcap, _⟩ := own_some HA.out.hint hpos
    rw [hhv] at hgf
    obtain ⟨rfl, rfl⟩ : va = some ⟨g, 0, none⟩ ∧ vc = cap := by simpa using hgf
    clear h0 hgf
    have hbx := Blk.new w [.int .i64 m.node, .slice ka ents.length kc, .slice none 0 0] 107
    have f0 : Fr Nil w (w.alloc (.cells #[.int .i64 m.node, .slice ka ents.length kc, .slice none 0 0] 107)).drew := ((Fr.refl _ _).alloc _).drew
    go_enter Tryz.func114, Tryz.ntmps114
    go_wp2_with fail
    go_region
    have hbx := hbx.drew
    generalize (w.alloc (.cells #[.int .i64 m.node, .slice ka ents.length kc, .slice none 0 0] 107)).drew = wb at hbx f0 ⊢
    generalize hnb : w.heap.size = nb at hbx ⊢
    have HNB := hide hnb
    have HF0 := hide f0
    have hcp := (HA.out.nil f0).blk.cell
    rw [hhv, hkv] at hcp
    have hcn := hbx.cell
    have hzn := hbx.frozen
    have HBX := hide hbx
    have HB4 : Hid (∀ w4 : World, Fr (fun k => (Value.slice none 0 0).ownBlock = some k) wb w4 → Blk w4 nb [.int .i64 m.node, .slice ka ents.length kc, .slice none 0 0] 107) := fun w4 f => hbx.fr f (by simp [Value.ownBlock])
    have HHINT : Hid (wb.ownsRow 0 75 2 (.slice (some ⟨g, 0, none⟩) m.hints.length vc) m.hints.length (flatH m.hints)) := by have := (HA.out.nil f0).hint; rw [hhv] at this; exact this
    have hi1 : (1 : Int) ≤ (m.hints.length : Int) := by omega
    clear hnb f0 hbx
    by_cases hvc : vc = 1
    · have hl1 : m.hints.length = 1 := by omega
      have hd : m.hints.drop 1 = [] := List.eq_nil_of_length_eq_zero (by rw [List.length_drop]; omega)
      have HACK : Hid (m.ack = { m with hints := [] }) := hide (by unfold LM.ack; rw [hd])
      obtain ⟨_, hF, _, hM⟩ := HintAt.rep (w4 := wb) (v' := .slice none 0 0) (m := m) (hs := []) (hs' := []) HA.out HB.out (by rw [hkv]; exact HBX.out) HF0.out (by rw [HNB.out]; exact Nat.le_refl _) (World.ownsRow_nil _ 0 _ _) (fun k hk => by simp [Value.ownBlock] at hk) rfl (World.ownsRow_nil _ 0 _ _) (Fr.refl _ _) (fun k hk => by simp [Value.ownBlock] at hk)
      have HM := hide hM
      have HFR := hide hF
      clear hM hF hd
      go_wp2_with fail
      go_region
      all_goals
        go_wp2
        go_ret2
        exact .inr ⟨H0.out, nb, rfl, by rw [HACK.out]; exact HM.out.fin (Fr.refl _ _).drew HFR.out.size, HFR.out.drew, by rw [HNB.out]; exact Nat.le_refl _⟩
    · go_wp2_with fail
      go_region_law
        ((refine step_app (by rfl) _ _ _ _ (by rfl) _ _ (by rfl) (by rfl) (app_tail wb g vc m.hints HHINT.out hlen hpos ⟨g, 2, none⟩ (.inl rfl) _ _ (by repeat' first | (with_reducible first | exact Fr.refl _ _ | assumption | refine Fr.drewN ?_ _ | refine Fr.drew ?_ | refine Fr.alloc ?_ _ | refine Fr.set ?_ ?_ _) | (intro _; rfl)) _) ?_; rintro v4 w4 ⟨ho4, hf4, hn4⟩; obtain ⟨va4, vc4, hv4⟩ := own_form ho4; subst hv4; have hb4 := HB4.out _ (hf4.mono (fun _ _ h => absurd h id)); have hc4 := hb4.cell; have hz4 := hb4.frozen; have HO4 := hide ho4; have HN4 := hide hn4; have HF4 := hide hf4; clear ho4 hn4 hf4))
      all_goals
        go_wp2
        obtain ⟨_, hF, _, hM⟩ := HintAt.rep (m := m) (hs := []) HA.out HB.out (by rw [hkv]; exact HBX.out) HF0.out (by rw [HNB.out]; exact Nat.le_refl _) (World.ownsRow_nil _ 0 _ _) (fun k hk => by simp [Value.ownBlock] at hk) (show m.hints.length - 1 = (m.hints.drop 1).length from (List.length_drop ..).symm) HO4.out (HF4.out.mono (fun _ _ h => absurd h id)) (fun k hk => Nat.le_trans HF0.out.size (HN4.out k hk))
        have HM := hide hM
        have HFR := hide hF
        clear hM hF
        go_ret2
        exact .inr ⟨H0.out, nb, rfl, HM.out, HFR.out, by rw [HNB.out]; exact Nat.le_refl _⟩
set_option maxHeartbeats 3200000 in
theorem hintM_calls (K : Nat → Prop) (p : Nat) (m : LM) (to : Nat) (text : ByteArray) (w : World) (h : MRep K w p m) (hlen : m.hints.length < 1000000) :
    Calls Tryz.prog 115 #[.pointer (some ⟨p, 0, none⟩), .int .i64 to, .string text] w fun e w' =>
      (32 ≤ m.hints.length ∧ e = .returned (.tuple #[.pointer none, .int .i64 6]) ∧ Fr Nil w w') ∨
      (m.hints.length < 32 ∧ ∃ nb, e = .returned (.tuple #[.pointer (some ⟨nb, 0, none⟩), .int .i64 0]) ∧ MRep (KGr K w w') w' nb (m.hint to text) ∧ Fr Nil w w' ∧ w.heap.size ≤ nb) := by
  obtain ⟨kv, hv, ents, ha, hb⟩ := h
  have hcp := ha.blk.cell
  obtain ⟨va, vc, hhv⟩ := own_form ha.hint
  obtain ⟨ka, kc, hkv⟩ := own_form ha.ent
  rw [hhv, hkv] at hcp
  have HA := hide ha
  have HB := hide hb
  clear ha hb
  by_cases h0 : 32 ≤ m.hints.length
  · have h0' : (32 : Int) ≤ (m.hints.length : Int) := by omega
    have H0 := hide h0
    clear h0
    go_enter Tryz.func115, Tryz.ntmps115
    go_wp2
    go_ret2
    exact .inl ⟨H0.out, rfl, Fr.refl _ _⟩
  · have h0' : ¬ (32 : Int) ≤ (m.hints.length : Int) := by omega
    have H0 : Hid (m.hints.length < 32) := hide (by omega)
    clear h0
    have hbx := Blk.new w [.int .i64 m.node, .slice ka ents.length kc, .slice none 0 0] 107
    have f0 : Fr Nil w (w.alloc (.cells #[.int .i64 m.node, .slice ka ents.length kc, .slice none 0 0] 107)).drew := ((Fr.refl _ _).alloc _).drew
    go_enter Tryz.func115, Tryz.ntmps115
    go_wp2_with fail
    go_region
    have hbx := hbx.drew
    generalize (w.alloc (.cells #[.int .i64 m.node, .slice ka ents.length kc, .slice none 0 0] 107)).drew = wb at hbx f0 ⊢
    generalize hnb : w.heap.size = nb at hbx ⊢
    have HNB := hide hnb
    have HF0 := hide f0
    have hcp := (HA.out.nil f0).blk.cell
    rw [hhv, hkv] at hcp
    have hcn := hbx.cell
    have hzn := hbx.frozen
    have HBX := hide hbx
    have HB4 : Hid (∀ w4 : World, Fr (fun k => (Value.slice none 0 0).ownBlock = some k) wb w4 → Blk w4 nb [.int .i64 m.node, .slice ka ents.length kc, .slice none 0 0] 107) := fun w4 f => hbx.fr f (by simp [Value.ownBlock])
    have HHINT : Hid (wb.ownsRow 0 75 2 (.slice va m.hints.length vc) m.hints.length (flatH m.hints)) := by have := (HA.out.nil f0).hint; rw [hhv] at this; exact this
    clear hnb f0 hbx
    go_wp2_with fail
    go_region_law
      ((refine step_app (by rfl) _ _ _ _ (by rfl) _ _ (by rfl) (by rfl) (app_hints wb _ m.hints HHINT.out hlen _ (by repeat' first | (with_reducible first | exact Fr.refl _ _ | assumption | refine Fr.drewN ?_ _ | refine Fr.drew ?_ | refine Fr.alloc ?_ _ | refine Fr.set ?_ ?_ _) | (intro _; rfl)) _) ?_; rintro v4 w4 ⟨ho4, hf4, hn4⟩; obtain ⟨va4, vc4, hv4⟩ := own_form ho4; subst hv4; have hb4 := HB4.out _ (hf4.mono (fun _ _ h => absurd h id)); have hc4 := hb4.cell; have hz4 := hb4.frozen; have HO4 := hide ho4; have HN4 := hide hn4; have HF4 := hide hf4; clear ho4 hn4 hf4))
    all_goals
      obtain ⟨hbs, hF, hro, _⟩ := HintAt.rep (m := m) (hs := []) HA.out HB.out (by rw [hkv]; exact HBX.out) HF0.out (by rw [HNB.out]; exact Nat.le_refl _) (World.ownsRow_nil _ 0 _ _) (fun k hk => by simp [Value.ownBlock] at hk) rfl HO4.out (HF4.out.mono (fun _ _ h => absurd h id)) (fun k hk => Nat.le_trans HF0.out.size (HN4.out k hk))
      have HN5 : Hid (∀ k, (Value.slice va4 m.hints.length vc4).ownBlock = some k → w.heap.size ≤ k) := fun k hk => Nat.le_trans HF0.out.size (HN4.out k hk)
      clear hc4 hz4 hb4 HO4 HF4 HN4 hcn hzn hcp
      generalize w4.setCell ⟨nb, 2, none⟩ (.slice va4 m.hints.length vc4) = w5 at hbs hF hro ⊢
      rw [hkv] at hbs
      have hc5 := hbs.cell
      have hz5 := hbs.frozen
      have HB6 : Hid (∀ w6 : World, Fr (fun k => (Value.slice va4 m.hints.length vc4).ownBlock = some k) w5 w6 → Blk w6 nb [.int .i64 m.node, .slice ka ents.length kc, .slice va4 m.hints.length vc4] 107) := fun w6 f => hbs.fr f (own_ne hro hbs (by decide))
      have HBS := hide hbs
      have HRO := hide hro
      have HF5 := hide hF
      clear hbs hro hF
      go_wp2_with (at_builtin; go_must (refine wpList_app rfl _ _ _ _ rfl _ _ (by rfl) (by rfl) (app_hint w5 _ _ _ HRO.out to text hlen _ (by repeat' first | (with_reducible first | exact Fr.refl _ _ | assumption | refine Fr.drewN ?_ _ | refine Fr.drew ?_ | refine Fr.alloc ?_ _ | refine Fr.set ?_ ?_ _) | (intro _; rfl)) _ (by exact Blk.new _ [_, _] _) _) ?_; rintro v6 w6 ⟨ho6, hf6, hn6⟩; obtain ⟨va6, vc6, hv6⟩ := own_form ho6; subst hv6; have hb6 := HB6.out _ hf6; have hc6 := hb6.cell; have hz6 := hb6.frozen; have HO6 := hide ho6; have HN6 := hide hn6; have HF6 := hide hf6; clear ho6 hn6 hf6))
      obtain ⟨_, hF, _, hM⟩ := HintAt.rep (m := m) (hs := m.hints) (hs' := m.hints ++ [(to, text)]) HA.out HB.out (by rw [hkv]; exact HBS.out) HF5.out (by rw [HNB.out]; exact Nat.le_refl _) HRO.out HN5.out (show m.hints.length + 1 = (m.hints ++ [(to, text)]).length by simp) (by rw [flatH_append]; exact HO6.out) HF6.out (fun k hk => (HN6.out k hk).elim (HN5.out k) (fun h => Nat.le_trans HF5.out.size h))
      have HM := hide hM
      have HFR := hide hF
      clear hM hF
      go_ret2
      exact .inr ⟨H0.out, nb, rfl, HM.out, HFR.out, by rw [HNB.out]; exact Nat.le_refl _⟩
def badVersion (self : Nat) (key : ByteArray) (v : Ver) : Int := if keyOk key = false then 2 else if 128 < v.value.size then 3 else if foreign self v = false then 5 else 0
theorem foreign_not {self : Nat} {v : Ver} (h : v.node < 0 ∨ 4 ≤ v.node ∨ v.node = self ∨ v.seq < 1 ∨ 1000000000 < v.seq ∨ (v.gone = true ∧ v.value.size ≠ 0)) : foreign self v = false := by
  unfold foreign nodeOk
  rcases h with h | h | h | h | h | ⟨h, h'⟩
  · simp; intros; omega
  · simp; intros; omega
  · simp [h]
  · simp; intros; omega
  · simp; intros; omega
  · simp [h, h']
theorem foreign_is {self : Nat} {v : Ver} (h1 : ¬ v.node < 0) (h2 : ¬ 4 ≤ v.node) (h3 : v.node ≠ self) (h4 : ¬ v.seq < 1) (h5 : ¬ 1000000000 < v.seq) (h6 : v.gone = false ∨ v.value.size = 0) : foreign self v = v.overs.all overOk := by
  unfold foreign nodeOk
  have e1 : decide (0 ≤ v.node ∧ v.node < 4) = true := by simp; omega
  have e2 : decide (1 ≤ v.seq ∧ v.seq ≤ 1000000000) = true := by simp; omega
  have e3 : (v.gone && decide (v.value.size ≠ 0)) = false := by rcases h6 with h | h <;> simp [h]
  rw [e1, e2, e3]
  simp [h3]
set_option maxHeartbeats 6400000 in
theorem badVersion_calls (p : Nat) (self : Nat) (kv hv : Value) (key : ByteArray) (v : Ver) (w : World) (h : Blk w p [.int .i64 self, kv, hv] 107) :
    Calls Tryz.prog 111 #[.pointer (some ⟨p, 0, none⟩), .string key, .agg v.cells.toArray] w fun e w' => e = .returned (.int .i64 (badVersion self key v)) ∧ Fr Nil w w' := by
  have hA := Blk.new w v.cells 37
  have f0 : Fr Nil w (w.alloc (.cells v.cells.toArray 37)) := (Fr.refl _ _).alloc _
  have hcp : (w.alloc (.cells v.cells.toArray 37)).cell? ⟨p, 0, none⟩ = some (.int .i64 self) := (h.fr f0 id).cell 0
  have HK := hide (badKey_calls key (w.alloc (.cells v.cells.toArray 37)))
  have hcell := hA.cell
  have HF := hide f0
  have HSZ := hide (size_toList v.value)
  clear hA f0 h
  obtain ⟨node, seq, o0, o1, o2, o3, value, gone⟩ := v
  simp only [Ver.cells] at HK HF hcp hcell HSZ ⊢
  go_enter Tryz.func111, Tryz.ntmps111
  go_wp2_with fail
  generalize w.alloc (.cells #[.int .i64 node, .int .i64 seq, .int .i64 o0, .int .i64 o1, .int .i64 o2, .int .i64 o3, .string value, .bool gone] 37) = wb at HK HF hcp hcell ⊢
  generalize w.heap.size = b at hcell ⊢
  have hcv : wb.cell? ⟨b, 6, none⟩ = some (.string value) := hcell 6
  cases hk : keyOk key with
  | false =>
    have hp : badVersion self key ⟨node, seq, o0, o1, o2, o3, value, gone⟩ = 2 := by unfold badVersion; rw [if_pos hk]
    have hb : badKey key = 2 := by unfold badKey; rw [if_neg (by rw [hk]; decide)]
    rw [hb] at HK
    have HP := hide hp
    clear hk hp hb
    refine HK.out.mono ?_
    rintro e w1 ⟨rfl, hw1⟩
    subst w1
    go_wp2
    go_ret
    exact ⟨by rw [HP.out]; rfl, HF.out⟩
  | true =>
  have hb : badKey key = 0 := by unfold badKey; rw [if_pos hk]
  rw [hb] at HK
  have HKK := hide hk
  clear hk hb
  refine HK.out.mono ?_
  rintro e w1 ⟨rfl, hw1⟩
  subst w1
  by_cases hv : 128 < value.size
  · have hp : badVersion self key ⟨node, seq, o0, o1, o2, o3, value, gone⟩ = 3 := by unfold badVersion; rw [if_neg (by rw [HKK.out]; decide), if_pos hv]
    have HP := hide hp
    have hv' : (128 : Int) < (value.size : Int) := by omega
    clear hp hv
    go_wp2
    go_ret
    exact ⟨by rw [HP.out]; rfl, HF.out⟩
  have hv' : ¬ (128 : Int) < (value.size : Int) := by omega
  have HB : Hid (∀ x, foreign self ⟨node, seq, o0, o1, o2, o3, value, gone⟩ = x → badVersion self key ⟨node, seq, o0, o1, o2, o3, value, gone⟩ = if x = false then 5 else 0) := by
    intro x hx; unfold badVersion; rw [if_neg (by rw [HKK.out]; decide), if_neg hv, hx]
  clear hv
  go_wp2_with fail
  by_cases hn1 : node < 0
  · have hp := HB.out false (foreign_not ((.inl hn1)))
    have HP := hide hp
    have d_hn1 : decide (node < 0) = true := by simp [hn1]
    clear hp hn1
    go_quiet (fail)
    go_wp2
    go_ret
    exact ⟨by rw [HP.out]; rfl, HF.out.drewN _⟩
  have d_hn1 : decide (node < 0) = false := by simp [hn1]
  by_cases hn2 : 4 ≤ node
  · have hp := HB.out false (foreign_not ((.inr (.inl hn2))))
    have HP := hide hp
    have d_hn2 : decide (4 ≤ node) = true := by simp [hn2]
    clear hp hn2
    go_quiet (fail)
    go_wp2
    go_ret
    exact ⟨by rw [HP.out]; rfl, HF.out.drewN _⟩
  have d_hn2 : decide (4 ≤ node) = false := by simp [hn2]
  by_cases hn3 : node = self
  · have hp := HB.out false (foreign_not ((.inr (.inr (.inl hn3)))))
    have HP := hide hp
    have d_hn3 : (node == (self : Int)) = true := by simp [hn3]
    clear hp hn3
    go_quiet (fail)
    go_wp2
    go_ret
    exact ⟨by rw [HP.out]; rfl, HF.out.drewN _⟩
  have d_hn3 : (node == (self : Int)) = false := by simp [hn3]
  by_cases hn4 : seq < 1
  · have hp := HB.out false (foreign_not ((.inr (.inr (.inr (.inl hn4))))))
    have HP := hide hp
    have d_hn4 : decide (seq < 1) = true := by simp [hn4]
    clear hp hn4
    go_quiet (fail)
    go_wp2
    go_ret
    exact ⟨by rw [HP.out]; rfl, HF.out.drewN _⟩
  have d_hn4 : decide (seq < 1) = false := by simp [hn4]
  by_cases hn5 : 1000000000 < seq
  · have hp := HB.out false (foreign_not ((.inr (.inr (.inr (.inr (.inl hn5)))))))
    have HP := hide hp
    have d_hn5 : decide (1000000000 < seq) = true := by simp [hn5]
    clear hp hn5
    go_quiet (fail)
    go_wp2
    go_ret
    exact ⟨by rw [HP.out]; rfl, HF.out.drewN _⟩
  have d_hn5 : decide (1000000000 < seq) = false := by simp [hn5]
  have HFI : Hid (gone = false ∨ value.size = 0 → foreign self ⟨node, seq, o0, o1, o2, o3, value, gone⟩ = [o0, o1, o2, o3].all overOk) := fun hx => foreign_is hn1 hn2 hn3 hn4 hn5 hx
  clear hn1 hn2 hn3 hn4 hn5
  cases gone with
  | false =>
    have HFJ := hide (HFI.out (.inl rfl))
    go_quiet (fail)
    go_wp2_with fail
    have hcell : ∀ k, (wb.drewN nq).cell? ⟨b, k, none⟩ = [.int .i64 node, .int .i64 seq, .int .i64 o0, .int .i64 o1, .int .i64 o2, .int .i64 o3, .string value, .bool false][k]? := hcell
    have HWD : Hid (wb.drewN nq = wb.drewN nq) := hide rfl
    generalize hwd : wb.drewN nq = wd at hcell ⊢
    have HFD : Hid (Fr Nil w wd) := by rw [← hwd]; exact HF.out.drewN _
    clear hwd
    go_loopw [8] (fun t w' => ∃ i : Nat, i ≤ 4 ∧ t = .int .i64 i ∧ (([o0, o1, o2, o3].take i).all overOk) = true ∧ w' = wd) (fun t _ => 4 - (intOf t).toNat)
    case atStart => exact ⟨0, by omega, rfl, rfl, rfl⟩
    case round =>
      obtain ⟨i, hi, rfl, hall, hw⟩ := hrel
      subst hw
      have hcase : i = 0 ∨ i = 1 ∨ i = 2 ∨ i = 3 ∨ i = 4 := by omega
      rcases hcase with rfl | rfl | rfl | rfl | rfl
      · cases ho : overOk o0 with
        | false =>
          have hp := HB.out false (by rw [HFJ.out]; simp [ho])
          have HP := hide hp
          have hlt : o0 < 0 ∨ (¬ o0 < 0 ∧ 1000000000 < o0) := by unfold overOk at ho; simp only [decide_eq_false_iff_not] at ho; omega
          clear hp ho hall
          rcases hlt with hlt | ⟨hlt, hgt⟩
          · go_wp2
            go_ret
            exact ⟨by rw [HP.out]; rfl, HFD.out⟩
          · go_wp2
            go_ret
            exact ⟨by rw [HP.out]; rfl, HFD.out⟩
        | true =>
          have hall2 : (([o0, o1, o2, o3].take 1).all overOk) = true := by simp [ho]
          have HALL := hide hall2
          have hlt : ¬ o0 < 0 ∧ ¬ 1000000000 < o0 := by unfold overOk at ho; simp only [decide_eq_true_eq] at ho; omega
          obtain ⟨hl1, hl2⟩ := hlt
          clear hall2 ho hall
          go_wp2
          exact ⟨⟨1, by omega, by go_num, HALL.out, by first | rfl | trivial⟩, by simp [intOf]⟩
      · cases ho : overOk o1 with
        | false =>
          have hp := HB.out false (by rw [HFJ.out]; simp [ho])
          have HP := hide hp
          have hlt : o1 < 0 ∨ (¬ o1 < 0 ∧ 1000000000 < o1) := by unfold overOk at ho; simp only [decide_eq_false_iff_not] at ho; omega
          clear hp ho hall
          rcases hlt with hlt | ⟨hlt, hgt⟩
          · go_wp2
            go_ret
            exact ⟨by rw [HP.out]; rfl, HFD.out⟩
          · go_wp2
            go_ret
            exact ⟨by rw [HP.out]; rfl, HFD.out⟩
        | true =>
          have hall2 : (([o0, o1, o2, o3].take 2).all overOk) = true := by simp at hall; simp [ho, hall]
          have HALL := hide hall2
          have hlt : ¬ o1 < 0 ∧ ¬ 1000000000 < o1 := by unfold overOk at ho; simp only [decide_eq_true_eq] at ho; omega
          obtain ⟨hl1, hl2⟩ := hlt
          clear hall2 ho hall
          go_wp2
          exact ⟨⟨2, by omega, by go_num, HALL.out, by first | rfl | trivial⟩, by simp [intOf]⟩
      · cases ho : overOk o2 with
        | false =>
          have hp := HB.out false (by rw [HFJ.out]; simp [ho])
          have HP := hide hp
          have hlt : o2 < 0 ∨ (¬ o2 < 0 ∧ 1000000000 < o2) := by unfold overOk at ho; simp only [decide_eq_false_iff_not] at ho; omega
          clear hp ho hall
          rcases hlt with hlt | ⟨hlt, hgt⟩
          · go_wp2
            go_ret
            exact ⟨by rw [HP.out]; rfl, HFD.out⟩
          · go_wp2
            go_ret
            exact ⟨by rw [HP.out]; rfl, HFD.out⟩
        | true =>
          have hall2 : (([o0, o1, o2, o3].take 3).all overOk) = true := by simp at hall; simp [ho, hall]
          have HALL := hide hall2
          have hlt : ¬ o2 < 0 ∧ ¬ 1000000000 < o2 := by unfold overOk at ho; simp only [decide_eq_true_eq] at ho; omega
          obtain ⟨hl1, hl2⟩ := hlt
          clear hall2 ho hall
          go_wp2
          exact ⟨⟨3, by omega, by go_num, HALL.out, by first | rfl | trivial⟩, by simp [intOf]⟩
      · cases ho : overOk o3 with
        | false =>
          have hp := HB.out false (by rw [HFJ.out]; simp [ho])
          have HP := hide hp
          have hlt : o3 < 0 ∨ (¬ o3 < 0 ∧ 1000000000 < o3) := by unfold overOk at ho; simp only [decide_eq_false_iff_not] at ho; omega
          clear hp ho hall
          rcases hlt with hlt | ⟨hlt, hgt⟩
          · go_wp2
            go_ret
            exact ⟨by rw [HP.out]; rfl, HFD.out⟩
          · go_wp2
            go_ret
            exact ⟨by rw [HP.out]; rfl, HFD.out⟩
        | true =>
          have hall2 : (([o0, o1, o2, o3].take 4).all overOk) = true := by simp at hall; simp [ho, hall]
          have HALL := hide hall2
          have hlt : ¬ o3 < 0 ∧ ¬ 1000000000 < o3 := by unfold overOk at ho; simp only [decide_eq_true_eq] at ho; omega
          obtain ⟨hl1, hl2⟩ := hlt
          clear hall2 ho hall
          go_wp2
          exact ⟨⟨4, by omega, by go_num, HALL.out, by first | rfl | trivial⟩, by simp [intOf]⟩
      · have hp := HB.out true (by rw [HFJ.out]; exact hall)
        have HP := hide hp
        clear hp hall
        go_wp2
        go_ret
        exact ⟨by rw [HP.out]; rfl, HFD.out⟩
  | true =>
    by_cases he : value.toList = []
    · have HFJ := hide (HFI.out (.inr (by rw [HSZ.out, he]; rfl)))
      have he2 : value.toList.isEmpty = true := by rw [he]; rfl
      go_quiet (fail)
      go_wp2_with fail
      have hcell : ∀ k, (wb.drewN nq).cell? ⟨b, k, none⟩ = [.int .i64 node, .int .i64 seq, .int .i64 o0, .int .i64 o1, .int .i64 o2, .int .i64 o3, .string value, .bool true][k]? := hcell
      have HWD : Hid (wb.drewN nq = wb.drewN nq) := hide rfl
      generalize hwd : wb.drewN nq = wd at hcell ⊢
      have HFD : Hid (Fr Nil w wd) := by rw [← hwd]; exact HF.out.drewN _
      clear hwd
      go_loopw [8] (fun t w' => ∃ i : Nat, i ≤ 4 ∧ t = .int .i64 i ∧ (([o0, o1, o2, o3].take i).all overOk) = true ∧ w' = wd) (fun t _ => 4 - (intOf t).toNat)
      case atStart => exact ⟨0, by omega, rfl, rfl, rfl⟩
      case round =>
        obtain ⟨i, hi, rfl, hall, hw⟩ := hrel
        subst hw
        have hcase : i = 0 ∨ i = 1 ∨ i = 2 ∨ i = 3 ∨ i = 4 := by omega
        rcases hcase with rfl | rfl | rfl | rfl | rfl
        · cases ho : overOk o0 with
          | false =>
            have hp := HB.out false (by rw [HFJ.out]; simp [ho])
            have HP := hide hp
            have hlt : o0 < 0 ∨ (¬ o0 < 0 ∧ 1000000000 < o0) := by unfold overOk at ho; simp only [decide_eq_false_iff_not] at ho; omega
            clear hp ho hall
            rcases hlt with hlt | ⟨hlt, hgt⟩
            · go_wp2
              go_ret
              exact ⟨by rw [HP.out]; rfl, HFD.out⟩
            · go_wp2
              go_ret
              exact ⟨by rw [HP.out]; rfl, HFD.out⟩
          | true =>
            have hall2 : (([o0, o1, o2, o3].take 1).all overOk) = true := by simp [ho]
            have HALL := hide hall2
            have hlt : ¬ o0 < 0 ∧ ¬ 1000000000 < o0 := by unfold overOk at ho; simp only [decide_eq_true_eq] at ho; omega
            obtain ⟨hl1, hl2⟩ := hlt
            clear hall2 ho hall
            go_wp2
            exact ⟨⟨1, by omega, by go_num, HALL.out, by first | rfl | trivial⟩, by simp [intOf]⟩
        · cases ho : overOk o1 with
          | false =>
            have hp := HB.out false (by rw [HFJ.out]; simp [ho])
            have HP := hide hp
            have hlt : o1 < 0 ∨ (¬ o1 < 0 ∧ 1000000000 < o1) := by unfold overOk at ho; simp only [decide_eq_false_iff_not] at ho; omega
            clear hp ho hall
            rcases hlt with hlt | ⟨hlt, hgt⟩
            · go_wp2
              go_ret
              exact ⟨by rw [HP.out]; rfl, HFD.out⟩
            · go_wp2
              go_ret
              exact ⟨by rw [HP.out]; rfl, HFD.out⟩
          | true =>
            have hall2 : (([o0, o1, o2, o3].take 2).all overOk) = true := by simp at hall; simp [ho, hall]
            have HALL := hide hall2
            have hlt : ¬ o1 < 0 ∧ ¬ 1000000000 < o1 := by unfold overOk at ho; simp only [decide_eq_true_eq] at ho; omega
            obtain ⟨hl1, hl2⟩ := hlt
            clear hall2 ho hall
            go_wp2
            exact ⟨⟨2, by omega, by go_num, HALL.out, by first | rfl | trivial⟩, by simp [intOf]⟩
        · cases ho : overOk o2 with
          | false =>
            have hp := HB.out false (by rw [HFJ.out]; simp [ho])
            have HP := hide hp
            have hlt : o2 < 0 ∨ (¬ o2 < 0 ∧ 1000000000 < o2) := by unfold overOk at ho; simp only [decide_eq_false_iff_not] at ho; omega
            clear hp ho hall
            rcases hlt with hlt | ⟨hlt, hgt⟩
            · go_wp2
              go_ret
              exact ⟨by rw [HP.out]; rfl, HFD.out⟩
            · go_wp2
              go_ret
              exact ⟨by rw [HP.out]; rfl, HFD.out⟩
          | true =>
            have hall2 : (([o0, o1, o2, o3].take 3).all overOk) = true := by simp at hall; simp [ho, hall]
            have HALL := hide hall2
            have hlt : ¬ o2 < 0 ∧ ¬ 1000000000 < o2 := by unfold overOk at ho; simp only [decide_eq_true_eq] at ho; omega
            obtain ⟨hl1, hl2⟩ := hlt
            clear hall2 ho hall
            go_wp2
            exact ⟨⟨3, by omega, by go_num, HALL.out, by first | rfl | trivial⟩, by simp [intOf]⟩
        · cases ho : overOk o3 with
          | false =>
            have hp := HB.out false (by rw [HFJ.out]; simp [ho])
            have HP := hide hp
            have hlt : o3 < 0 ∨ (¬ o3 < 0 ∧ 1000000000 < o3) := by unfold overOk at ho; simp only [decide_eq_false_iff_not] at ho; omega
            clear hp ho hall
            rcases hlt with hlt | ⟨hlt, hgt⟩
            · go_wp2
              go_ret
              exact ⟨by rw [HP.out]; rfl, HFD.out⟩
            · go_wp2
              go_ret
              exact ⟨by rw [HP.out]; rfl, HFD.out⟩
          | true =>
            have hall2 : (([o0, o1, o2, o3].take 4).all overOk) = true := by simp at hall; simp [ho, hall]
            have HALL := hide hall2
            have hlt : ¬ o3 < 0 ∧ ¬ 1000000000 < o3 := by unfold overOk at ho; simp only [decide_eq_true_eq] at ho; omega
            obtain ⟨hl1, hl2⟩ := hlt
            clear hall2 ho hall
            go_wp2
            exact ⟨⟨4, by omega, by go_num, HALL.out, by first | rfl | trivial⟩, by simp [intOf]⟩
        · have hp := HB.out true (by rw [HFJ.out]; exact hall)
          have HP := hide hp
          clear hp hall
          go_wp2
          go_ret
          exact ⟨by rw [HP.out]; rfl, HFD.out⟩
    · have he2 : value.toList.isEmpty = false := by simpa using he
      have hp := HB.out false (foreign_not (.inr (.inr (.inr (.inr (.inr ⟨rfl, by show value.size ≠ 0; rw [HSZ.out]; simpa using he⟩))))))
      have HP := hide hp
      clear hp
      go_quiet (fail)
      go_wp2
      go_ret
      exact ⟨by rw [HP.out]; rfl, HF.out.drewN _⟩
end Go.Proofs.YtkhnggkkiefcdaaGreatDoor
