/- larder: joined texts -/
import Derived.Test.YtkhnggkkiefcdaaGreatDoorRAAI
namespace Go.Proofs.YtkhnggkkiefcdaaGreatDoor
open Go.RowKit
set_option maxRecDepth 100000
set_option maxHeartbeats 8000000
theorem Rt{K:Keys}{key:ByteArray}(i:Nat)(hi:i<K.length)(h1:∀ j (hj:j<K.length),j<i→(K[j].1==key)=false)(h2:(K[i].1==key)=true):zL K key=K[i].2:=by
 unfold zL
 have:K.find? (fun e=>e.1==key)=some K[i]:=by
  rw[List.find?_eq_some_iff_getElem]
  exact⟨h2,i,hi,rfl,fun j hj=>by simp[h1 j (by omega) hj]⟩
 rw[this]
theorem Mc{K:Keys}{key:ByteArray}(h1:∀ j (hj:j<K.length),(K[j].1==key)=false):zL K key=[]:=by
 unfold zL
 have:K.find? (fun e=>e.1==key)=none:=by
  rw[List.find?_eq_none]
  intro x hx
  obtain⟨j,hj,rfl⟩:=List.getElem_of_mem hx
  simp[h1 j hj]
 rw[this]
theorem Pair.key{R:Value→List Ver→Prop}{us:List (ByteArray × Value)}{bs:Keys}(h:Pair R us bs)(i:Nat)(h1:i<us.length)(h2:i<bs.length):us[i].1=bs[i].1:=by
 have:=h.keys
 have e1:(us.map Prod.fst)[i]'(by simpa using h1)=us[i].1:=List.getElem_map ..
 have e2:(bs.map Prod.fst)[i]'(by simpa using h2)=bs[i].1:=List.getElem_map ..
 rw[← e1,← e2]
 congr 1
theorem Y9(p:Nat)(kv hv:Value)(ents:List (ByteArray × Value))(m:LM)(key:ByteArray)(w:World)(h:MAt w p kv hv ents m) :
  Calls Tryz.prog 117 #[.pointer (some ⟨p,0,none⟩),.string key] w fun e w'=>∃ v,e=.returned v∧VRow w v (zL m.keys key)∧(∀ k,v.ownBlock=some k→MBlk p kv hv ents k)∧w'=w:=by
 have hle:ents.length=m.keys.length:=h.pair.length
 have hn:=zK h.ent
 unfold maxLen at hn
 have hc1:w.cell? ⟨p,1,none⟩=some kv:=h.blk.cell 1
 obtain⟨a,cap,rfl⟩:=z8 h.ent
 have HH:=Z h
 have HLE:=Z hle
 clear h hle
 go_enter Tryz.func117,Tryz.ntmps117
 go_wp2_with fail
 go_loopw [5] (fun t w'=>∃ i:Nat,i≤ents.length∧t=.int .i64 i∧(∀ j (hj:j<m.keys.length),j<i→(m.keys[j].1==key)=false)∧w'=w) (fun t _=>ents.length-(intOf t).toNat)
 case atStart=>exact⟨0,Nat.zero_le _,rfl,fun j _ hj=>absurd hj (Nat.not_lt_zero _),rfl⟩
 case round =>
  obtain⟨i,hi,rfl,hj,hw⟩:=hrel
  subst hw
  by_cases hlt:i<ents.length
  ·obtain⟨g,cap',hg,_,_⟩:=zi HH.out.ent (by omega)
   obtain⟨rfl,rfl⟩:a=some ⟨g,0,none⟩∧cap=cap':=by simpa using hg
   have hlk:i<m.keys.length:=by have:=HLE.out;omega
   have hc2:=own_cell? HH.out.ent (i*2) _ (zU ents i hlt).1
   have hc3:=own_cell? HH.out.ent (i*2+1) _ (zU ents i hlt).2
   have hkey:ents[i].1=m.keys[i].1:=HH.out.pair.key i hlt hlk
   have hrow:VRow wr ents[i].2 m.keys[i].2:=HH.out.pair.get i hlt hlk
   have hblk:∀ k,ents[i].2.ownBlock=some k→MBlk p (.slice (some ⟨g,0,none⟩) ents.length cap) hv ents k:=fun k e=>.inr (.inr (.inr ⟨ents[i],List.getElem_mem hlt,e⟩))
   rw[hkey] at hc2
   obtain⟨ra,rc,hform⟩:=z8 hrow
   have hb:=beq_toListBytes m.keys[i].1 key
   cases hm:(m.keys[i].1==key) with
   | true =>
    have hm':(m.keys[i].1.toList==key.toList)=true:=by rw[← hb];exact hm
    have hv:=Rt i hlk hj hm
    have HV:=Z hv
    have HROW:=Z hrow
    have HBLK:=Z hblk
    rw[hform] at hc3 HROW HBLK
    clear hb hm hj hv hrow hblk hkey hform hg
    go_wp2
    go_ret
    exact⟨_,rfl,by rw[HV.out];exact HROW.out,HBLK.out,rfl⟩
   | false =>
    have hm':(m.keys[i].1.toList==key.toList)=false:=by rw[← hb];exact hm
    have hj':∀ j (hj:j<m.keys.length),j<i+1→(m.keys[j].1==key)=false:=by
     intro j hjl hjk
     by_cases e:j=i
     ·subst e;exact hm
     ·exact hj j hjl (by omega)
    have HJ:=Z hj'
    clear hb hm hj hj' hrow hblk hkey hform hg hc3
    go_wp2
    exact⟨⟨i+1,by omega,by go_num,HJ.out,by first|rfl|trivial⟩,by simp[intOf];omega⟩
  ·have hv:=Mc (K:=m.keys) (key:=key) (fun j hjl=>hj j hjl (by have:=HLE.out;omega))
   have HV:=Z hv
   clear hj hv
   go_wp2
   go_ret
   exact⟨_,rfl,by rw[HV.out];exact World.ownsRow_nil _ 0 _ _,fun k hk=>by simp[Value.ownBlock] at hk,rfl⟩
theorem MQ:((Tryz.prog.info? 186).map fun i=>(i.zero.map (·.cells.size),i.size,i.bytes))=some (some 2,2,40):=by kernel_rfl
theorem XB(w:World)(v:Value)(n:Nat)(xs:List Value)(h:w.ownsRow 0 186 2 v n xs)(key:ByteArray)(a:Option Addr)(l c:Nat)(hn:n<1000000000)(W0:World)(hf:Fr Nil w W0)(N:Nat)(hN:Blk W0 N [.string key,.slice a l c] 186)(ty:TypeId) :
  ∃ v' w',(Builtin.append_ #[105,105] ty #[v,.slice (some ⟨N,0,none⟩) 1 1]).run Tryz.prog W0=.ok v' w' ∧
   (w'.ownsRow 0 186 2 v' (n+1) (xs++[.string key,.slice a l c])∧Fr (fun k=>v.ownBlock=some k) w w'∧(∀ k,v'.ownBlock=some k→v.ownBlock=some k∨w.heap.size≤k)):=by
 have ho:=z7 h hf (fun _ _=>id)
 obtain⟨v',w',hr,h1,h2,h3⟩:=zo (P:=Tryz.prog) 105 ty 186 2 40 Tryz.underlying105 MQ (by omega) v n xs ho ⟨N,0,none⟩ 1 1 [.string key,.slice a l c] rfl
  (fun j u hu=>by rw[Addr.add_lit,Nat.zero_add,hN.cell];exact hu) (by intro u hu;simp at hu;rcases hu with rfl|rfl <;> rfl) (by unfold maxLen;omega) (by omega)
 refine⟨v',w',hr,h1,(hf.mono (fun _ _ e=>absurd e id)).trans' ((Fr.of_grown h2).mono (fun i _ h=>h)) (fun i _ h=>h),fun k hk=>?_⟩
 rcases h3 with h3|h3
 ·exact .inl (by rw[← h3];exact hk)
 ·rw[h3] at hk;simp at hk;have:=hf.size;exact .inr (by omega)
structure ZZ(w w':World)(nb:Nat)(hv:Value)(node:Int)(K:Keys)(P:Nat→Prop):Prop where
 ex:∃ kv ents,Blk w' nb [.int .i64 node,kv,hv] 107∧w'.ownsRow 0 186 2 kv ents.length (zS ents)∧Pair (VRow w') ents K∧(∀ k,kv.ownBlock=some k→w.heap.size≤k)∧(∀ e∈ents,∀ k,e.2.ownBlock=some k→P k)
 fr:Fr Nil w w'
 le:w.heap.size≤nb
theorem PM(l:List (ByteArray × Value))(k:ByteArray)(x:Value):zS (l++[(k,x)])=zS l++[.string k,x]:=by rw[Z9];rfl
theorem ZZ.app{w wr w4:World}{nb:Nat}{hv:Value}{node:Int}{K:Keys}{P:Nat→Prop}(hf:Fr Nil w wr)(hle:w.heap.size≤nb){kv kv':Value}{ents:List (ByteArray × Value)}
  (hb:Blk wr nb [.int .i64 node,kv,hv] 107)(ho:wr.ownsRow 0 186 2 kv ents.length (zS ents))(hp:Pair (VRow wr) ents K)(hk:∀ k,kv.ownBlock=some k→w.heap.size≤k)(he:∀ e∈ents,∀ k,e.2.ownBlock=some k→P k)
  {key:ByteArray}{x:Value}{lx:List Ver}(h4:w4.ownsRow 0 186 2 kv' (ents.length+1) (zS ents++[.string key,x]))(f4:Fr (fun b=>kv.ownBlock=some b) wr w4)(hn:∀ b,kv'.ownBlock=some b→kv.ownBlock=some b∨wr.heap.size≤b)
  (hx:VRow wr x lx)(hxP:∀ b,x.ownBlock=some b→P b):ZZ w (w4.setCell ⟨nb,1,none⟩ kv') nb hv node (K++[(key,lx)]) P:=by
 have hne:kv.ownBlock≠some nb:=za ho hb (by decide)
 have hb4:Blk w4 nb _ _:=hb.fr f4 hne
 have fs:Fr (fun k=>k=nb) w4 (w4.setCell ⟨nb,1,none⟩ kv'):=Fr.set (S:=fun k=>k=nb) (p:=⟨nb,1,none⟩) (G _ _) (fun _=>rfl) _
 have hrow:∀ v (lv:List Ver),VRow wr v lv→VRow (w4.setCell ⟨nb,1,none⟩ kv') v lv:=fun v lv hv=>VRow.fr (VRow.fr hv f4 (fun k hk e=>Z0 hv ho (by decide) hk e)) fs (fun k hk e=>by subst e;exact za hv hb (by decide) hk)
 refine⟨⟨kv',ents++[(key,x)],hb4.set 1 kv',?_,?_,?_,?_⟩,?_,hle⟩
 ·rw[PM,List.length_append,List.length_singleton]
  exact z7 h4 fs (fun k hk e=>by subst e;exact za h4 hb4 (by decide) hk)
 ·exact Pair.append (hp.mono fun a _ l' hl'=>hrow _ _ hl') ⟨rfl,hrow _ _ hx,trivial⟩
 ·intro k hk'
  exact(hn k hk').elim (hk k) (fun h=>Nat.le_trans hf.size h)
 ·intro e hem k hk'
  rcases List.mem_append.1 hem with hem|hem
  ·exact he e hem k hk'
  ·simp at hem;subst hem;exact hxP k hk'
 ·exact((hf.trans' f4 (fun i hi e=>by have:=hk i e;omega)).trans' fs (fun i hi e=>by omega))
theorem Qx(p:Nat)(kv hv:Value)(ents:List (ByteArray × Value))(m:LM)(key:ByteArray)(lv:Value)(l:List Ver)(w:World)(h:MAt w p kv hv ents m)(hl:VRow w lv l)(hlen:ents.length<100000000) :
  Calls Tryz.prog 157 #[.pointer (some ⟨p,0,none⟩),.string key,lv] w fun e w' =>
   ∃ nb,e=.returned (.pointer (some ⟨nb,0,none⟩))∧ZZ w w' nb hv m.node (ZQ m.keys key l) (fun k=>MBlk p kv hv ents k∨lv.ownBlock=some k):=by
 obtain⟨la,lc,hlf⟩:=z8 hl
 obtain⟨ka,kc,hkf⟩:=z8 h.ent
 obtain⟨ha,hc,hhf⟩:=z8 h.hint
 have hcp:=h.blk.cell
 rw[hkf,hhf] at hcp
 have HH:=Z h
 have HL:=Z hl
 have hle:ents.length=m.keys.length:=h.pair.length
 have HLE:=Z hle
 subst hlf
 have hb:=Blk.new w [.int .i64 m.node,.slice none 0 0,.slice ha m.hints.length hc] 107
 have f0:Fr Nil w (w.alloc (.cells #[.int .i64 m.node,.slice none 0 0,.slice ha m.hints.length hc] 107)).drew:=((G _ _).alloc _).drew
 have HW:Hid (ZZ w (w.alloc (.cells #[.int .i64 m.node,.slice none 0 0,.slice ha m.hints.length hc] 107)).drew w.heap.size hv m.node [] (fun k=>MBlk p kv hv ents k∨(Value.slice la l.length lc).ownBlock=some k)) :=
  ⟨⟨.slice none 0 0,[],by rw[hhf];exact hb.drew,World.ownsRow_nil _ 0 _ _,trivial,fun k hk=>by simp[Value.ownBlock] at hk,fun e he=>by cases he⟩,f0,Nat.le_refl _⟩
 have HC0:=Z (fun wx (f:Fr Nil w wx)=>(HH.out.nil f).blk.cell 1)
 have hemp:((l.length:Int)==0)=l.isEmpty:=by cases l with|nil=>rfl|cons a t=>simp;omega
 have HEMP:=Z hemp
 go_enter Tryz.func157,Tryz.ntmps157
 go_wp2_with fail
 clear h hl hle
 go_region
 have HF0:=Z f0
 generalize (w.alloc (.cells #[.int .i64 m.node,.slice none 0 0,.slice ha m.hints.length hc] 107)).drew=wb at HW HF0 ⊢
 generalize hnb:w.heap.size=nb at HW ⊢
 have HNB:=Z hnb
 clear hb f0 hnb hcp
 go_wp2_with fail
 go_loopw [8,9] (fun t8 t9 w'=>∃ i:Nat,i≤ents.length∧t9=.int .i64 i∧t8=.bool ((m.keys.take i).foldl (zv key l) ([],l.isEmpty)).2∧ZZ w w' nb hv m.node ((m.keys.take i).foldl (zv key l) ([],l.isEmpty)).1 (fun k=>MBlk p kv hv ents k∨(Value.slice la l.length lc).ownBlock=some k)∧((m.keys.take i).foldl (zv key l) ([],l.isEmpty)).1.length≤2*i) (fun _ t9 _=>ents.length-(intOf t9).toNat)
 case atStart=>exact⟨0,Nat.zero_le _,rfl,by first|rfl|(rw[← HEMP.out];rfl),HW.out,by simp⟩
 case round =>
  obtain⟨i,hi,rfl,rfl,hwa,hol⟩:=hrel
  have hc1:=HC0.out wr hwa.fr
  rw[hkf] at hc1
  simp only[List.getElem?_cons_succ,List.getElem?_cons_zero] at hc1
  by_cases hlt:i<ents.length
  ·obtain⟨g,cap',hg,_,_⟩:=zi HH.out.ent (by omega)
   have hlk:i<m.keys.length:=by have:=HLE.out;omega
   have hat:=HH.out.nil hwa.fr
   rw[hkf] at hg
   obtain⟨rfl,rfl⟩:ka=some ⟨g,0,none⟩∧kc=cap':=by simpa using hg
   have hent:=hat.ent
   rw[hkf] at hent
   have hc2:=own_cell? hent (i*2) _ (zU ents i hlt).1
   have hc3:=own_cell? hent (i*2+1) _ (zU ents i hlt).2
   have hkey:ents[i].1=m.keys[i].1:=HH.out.pair.key i hlt hlk
   have hrow:VRow wr ents[i].2 m.keys[i].2:=hat.pair.get i hlt hlk
   rw[hkey] at hc2
   obtain⟨ra,rc,hform⟩:=z8 hrow
   rw[hform] at hc3 hrow
   have HOWN:Hid (∀ k,(Value.slice ra m.keys[i].2.length rc).ownBlock=some k→MBlk p kv hv ents k):=by rw[← hform];exact fun k e=>.inr (.inr (.inr ⟨ents[i],List.getElem_mem hlt,e⟩))
   have HROW:=Z hrow
   have HSTEP:Hid ((m.keys.take (i+1)).foldl (zv key l) ([],l.isEmpty)=zv key l ((m.keys.take i).foldl (zv key l) ([],l.isEmpty)) m.keys[i]):=by
    rw[List.take_succ_eq_append_getElem hlk,List.foldl_append];rfl
   have hpn:p≠nb:=fun e=>by have:=HH.out.blk.lt;have:=HNB.out;omega
   have hgn:g≠nb:=fun e=>by have:=HH.out.lt g (.inr (.inl (by rw[hkf];rfl)));have:=HNB.out;omega
   have hc2E:∀ wx,Fr Nil w wx→wx.cell? ⟨g,i*2,none⟩=some (.string m.keys[i].1):=fun wx f=>by
    have h1:=(HH.out.nil f).ent;rw[hkf] at h1;have h2:=own_cell? h1 (i*2) _ (zU ents i hlt).1;rw[hkey] at h2;exact h2
   have hc3E:∀ wx,Fr Nil w wx→wx.cell? ⟨g,i*2+1,none⟩=some (.slice ra m.keys[i].2.length rc):=fun wx f=>by
    have h1:=(HH.out.nil f).ent;rw[hkf] at h1;have h2:=own_cell? h1 (i*2+1) _ (zU ents i hlt).2;rw[hform] at h2;exact h2
   have hrowE:∀ wx,Fr Nil w wx→VRow wx (.slice ra m.keys[i].2.length rc) m.keys[i].2:=fun wx f=>by
    have h1:=(HH.out.nil f).pair.get i hlt hlk;rw[hform] at h1;exact h1
   have hrowE:=Z hrowE
   have hc2E:=Z hc2E
   have hc3E:=Z hc3E
   clear hrow hform hkey hent hat
   generalize (m.keys.take i).foldl (zv key l) ([],l.isEmpty)=st at hwa hol HSTEP ⊢
   generalize m.keys[i]=K at hc2 hc3 hc2E hc3E hrowE HSTEP HROW HOWN
   obtain⟨out,done⟩:=st
   obtain⟨kn,kvs⟩:=K
   simp only at hwa hol hc2 hc3 hc2E hc3E hrowE HROW HOWN ⊢
   have hbq:=beq_toListBytes kn key
   cases done with
   | false =>
    cases hb:zb kn key with
    | false =>
     have hbl:Op.bytesLess kn.toList key.toList=false:=hb
     by_cases hke:kn=key
     ·have hkt:(kn.toList==key.toList)=true:=by rw[hke];simp
      have HWS:Hid (zv key l (out,false) (kn,kvs)=(out++[(key,l)],true)):=Z (by subst hke;simp[zv,hb])
      clear hke hb hbq
      obtain⟨⟨kv1,e1,hb1,ho1,hp1,hk1,he1⟩,hf1,hle1⟩:=hwa
      have hel:e1.length<1000000000:=by have:=hp1.length;omega
      obtain⟨a1,c1,hv1⟩:=z8 ho1
      subst hv1
      have hcn:=hb1.cell
      have hzn:=hb1.frozen
      have HB4:Hid (∀ w4:World,Fr (fun k=>(Value.slice a1 e1.length c1).ownBlock=some k) wr w4→Blk w4 nb [.int .i64 m.node,.slice a1 e1.length c1,hv] 107):=fun w4 f=>hb1.fr f (za ho1 hb1 (by decide))
      have HB1:=Z hb1
      have HO1:=Z ho1
      have HP1:=Z hp1
      have HK1:=Z hk1
      have HE1:=Z he1
      have HF1:=Z hf1
      have HLE1:=Z hle1
      clear hb1 ho1 hp1 hk1 he1 hf1 hle1
      go_wp2_with (at_builtin;go_must (refine zf rfl _ _ _ _ rfl _ _ (by rfl) (by rfl) (XB wr _ _ _ HO1.out key la l.length lc hel _ (by repeat' first|(with_reducible first|apply G|assumption|apply O|apply U|apply V|apply z6)|(intro _;rfl)) _ (by exact Blk.new _ [_,_] _) _) ?_;rintro v4 w4 ⟨ho4,hf4,hn4⟩;obtain⟨va4,vc4,hv4⟩:=z8 ho4;subst hv4;have hb4:=HB4.out _ hf4;have hc4:=hb4.cell;have hz4:=hb4.frozen;have HO4:=Z ho4;have HN4:=Z hn4;have HF4:=Z hf4;have hfa:=HF1.out.trans' hf4 (fun k hk e=>by have:=HK1.out k e;omega);have hc14:=HC0.out w4 hfa;rw[hkf] at hc14;simp only[List.getElem?_cons_succ,List.getElem?_cons_zero] at hc14;have hc24:=hc2E.out w4 hfa;have hc34:=hc3E.out w4 hfa;clear ho4 hn4 hf4 hfa))
      have hwa5:=ZZ.app HF1.out HLE1.out HB1.out HO1.out HP1.out HK1.out HE1.out HO4.out HF4.out HN4.out (VRow.fr HL.out HF1.out (fun _ _=>id)) (fun b e=>.inr e)
      have HWA5:=Z hwa5
      clear hwa5
      exact⟨⟨i+1,by omega,by go_num,by rw[HSTEP.out,HWS.out],by rw[HSTEP.out,HWS.out];exact HWA5.out,by rw[HSTEP.out,HWS.out];simp only[List.length_append,List.length_singleton];omega⟩,by simp[intOf];omega⟩
     ·have hkt:(kn.toList==key.toList)=false:=by rw[← hbq];cases h:(kn==key) with|false=>rfl|true=>exact absurd (zR.1 h) hke
      have HWS:Hid (zv key l (out,false) (kn,kvs)=(out++[(key,l)]++[(kn,kvs)],true)):=Z (by simp[zv,hb,hke])
      clear hke hb hbq
      obtain⟨⟨kv1,e1,hb1,ho1,hp1,hk1,he1⟩,hf1,hle1⟩:=hwa
      have hel:e1.length<1000000000:=by have:=hp1.length;omega
      obtain⟨a1,c1,hv1⟩:=z8 ho1
      subst hv1
      have hcn:=hb1.cell
      have hzn:=hb1.frozen
      have HB4:Hid (∀ w4:World,Fr (fun k=>(Value.slice a1 e1.length c1).ownBlock=some k) wr w4→Blk w4 nb [.int .i64 m.node,.slice a1 e1.length c1,hv] 107):=fun w4 f=>hb1.fr f (za ho1 hb1 (by decide))
      have HB1:=Z hb1
      have HO1:=Z ho1
      have HP1:=Z hp1
      have HK1:=Z hk1
      have HE1:=Z he1
      have HF1:=Z hf1
      have HLE1:=Z hle1
      clear hb1 ho1 hp1 hk1 he1 hf1 hle1
      go_wp2_with (at_builtin;go_must (refine zf rfl _ _ _ _ rfl _ _ (by rfl) (by rfl) (XB wr _ _ _ HO1.out key la l.length lc hel _ (by repeat' first|(with_reducible first|apply G|assumption|apply O|apply U|apply V|apply z6)|(intro _;rfl)) _ (by exact Blk.new _ [_,_] _) _) ?_;rintro v4 w4 ⟨ho4,hf4,hn4⟩;obtain⟨va4,vc4,hv4⟩:=z8 ho4;subst hv4;have hb4:=HB4.out _ hf4;have hc4:=hb4.cell;have hz4:=hb4.frozen;have HO4:=Z ho4;have HN4:=Z hn4;have HF4:=Z hf4;have hfa:=HF1.out.trans' hf4 (fun k hk e=>by have:=HK1.out k e;omega);have hc14:=HC0.out w4 hfa;rw[hkf] at hc14;simp only[List.getElem?_cons_succ,List.getElem?_cons_zero] at hc14;have hc24:=hc2E.out w4 hfa;have hc34:=hc3E.out w4 hfa;clear ho4 hn4 hf4 hfa))
      have hwa5:=ZZ.app HF1.out HLE1.out HB1.out HO1.out HP1.out HK1.out HE1.out HO4.out HF4.out HN4.out (VRow.fr HL.out HF1.out (fun _ _=>id)) (fun b e=>.inr e)
      have hol5:(out++[(key,l)]).length≤2*i+1:=by simp;omega
      generalize out++[(key,l)]=out5 at hwa5 hol5 HWS
      clear hc14 hc24 hc34 hcn hzn HB4 HB1 HO1 HP1 HK1 HE1 HF1 HLE1 HO4 HN4 HF4 hb4 hc4 hz4 hel hc1 hc2 hc3
      generalize w4.setCell ⟨nb,1,none⟩ (.slice va4 (e1.length+1) vc4)=w5 at hwa5 ⊢
      have hc1:=HC0.out w5 hwa5.fr
      rw[hkf] at hc1
      simp only[List.getElem?_cons_succ,List.getElem?_cons_zero] at hc1
      have hc2:=hc2E.out w5 hwa5.fr
      have hc3:=hc3E.out w5 hwa5.fr
      have hwa:=hwa5
      clear hwa5
      obtain⟨⟨kv1,e1,hb1,ho1,hp1,hk1,he1⟩,hf1,hle1⟩:=hwa
      have hel:e1.length<1000000000:=by have:=hp1.length;omega
      obtain⟨a1,c1,hv1⟩:=z8 ho1
      subst hv1
      have hcn:=hb1.cell
      have hzn:=hb1.frozen
      have HB4:Hid (∀ w4:World,Fr (fun k=>(Value.slice a1 e1.length c1).ownBlock=some k) w5 w4→Blk w4 nb [.int .i64 m.node,.slice a1 e1.length c1,hv] 107):=fun w4 f=>hb1.fr f (za ho1 hb1 (by decide))
      have HB1:=Z hb1
      have HO1:=Z ho1
      have HP1:=Z hp1
      have HK1:=Z hk1
      have HE1:=Z he1
      have HF1:=Z hf1
      have HLE1:=Z hle1
      clear hb1 ho1 hp1 hk1 he1 hf1 hle1
      have hcA:∀ (ob:Obj) k,(w5.alloc ob).cell? ⟨nb,k,none⟩=[.int .i64 m.node,.slice a1 e1.length c1,hv][k]?:=fun ob k=>(HB1.out.alloc ob).cell k
      have hcP:∀ (ob:Obj),(w5.alloc ob).cell? ⟨p,1,none⟩=some (.slice (some ⟨g,0,none⟩) ents.length kc):=fun ob=>by have:=HC0.out _ (HF1.out.alloc ob);rw[hkf] at this;exact this
      have hcG:∀ (ob:Obj),(w5.alloc ob).cell? ⟨g,i*2,none⟩=some (.string kn):=fun ob=>hc2E.out _ (HF1.out.alloc ob)
      have hcH:∀ (ob:Obj),(w5.alloc ob).cell? ⟨g,i*2+1,none⟩=some (.slice ra kvs.length rc):=fun ob=>hc3E.out _ (HF1.out.alloc ob)
      have HROWX:=Z (hrowE.out _ HF1.out)
      go_region_law
       ((refine Z3 (by rfl) _ _ _ _ (by rfl) _ _ (by rfl) (by rfl) (XB w5 _ _ _ HO1.out kn ra kvs.length rc hel _ (by repeat' first|(with_reducible first|apply G|assumption|apply O|apply U|apply V|apply z6)|(intro _;rfl)) _ (by first|exact Blk.new _ [_,_] _|exact(Blk.new _ [_,_] _).drew) _) ?_;rintro v4 w4 ⟨ho4,hf4,hn4⟩;obtain⟨va4,vc4,hv4⟩:=z8 ho4;subst hv4;have hb4:=HB4.out _ hf4;have hc4:=hb4.cell;have hz4:=hb4.frozen;have HO4:=Z ho4;have HN4:=Z hn4;have HF4:=Z hf4;clear ho4 hn4 hf4))
      all_goals
       go_wp2
       have hwa5:=ZZ.app HF1.out HLE1.out HB1.out HO1.out HP1.out HK1.out HE1.out HO4.out HF4.out HN4.out HROWX.out (fun b e=>.inl (HOWN.out b e))
       exact⟨⟨i+1,by omega,by go_num,by rw[HSTEP.out,HWS.out],by rw[HSTEP.out,HWS.out];exact hwa5,by rw[HSTEP.out,HWS.out];simp only[List.length_append,List.length_singleton];omega⟩,by simp[intOf];omega⟩
    | true =>
     have hbl:Op.bytesLess kn.toList key.toList=true:=hb
     have hke:kn≠key:=ZC hb
     have hkt:(kn.toList==key.toList)=false:=by rw[← hbq];cases h:(kn==key) with|false=>rfl|true=>exact absurd (zR.1 h) hke
     have HWS:Hid (zv key l (out,false) (kn,kvs)=(out++[(kn,kvs)],false)):=Z (by simp[zv,hb,hke])
     clear hke hb hbq
     obtain⟨⟨kv1,e1,hb1,ho1,hp1,hk1,he1⟩,hf1,hle1⟩:=hwa
     have hel:e1.length<1000000000:=by have:=hp1.length;omega
     obtain⟨a1,c1,hv1⟩:=z8 ho1
     subst hv1
     have hcn:=hb1.cell
     have hzn:=hb1.frozen
     have HB4:Hid (∀ w4:World,Fr (fun k=>(Value.slice a1 e1.length c1).ownBlock=some k) wr w4→Blk w4 nb [.int .i64 m.node,.slice a1 e1.length c1,hv] 107):=fun w4 f=>hb1.fr f (za ho1 hb1 (by decide))
     have HB1:=Z hb1
     have HO1:=Z ho1
     have HP1:=Z hp1
     have HK1:=Z hk1
     have HE1:=Z he1
     have HF1:=Z hf1
     have HLE1:=Z hle1
     clear hb1 ho1 hp1 hk1 he1 hf1 hle1
     go_wp2_with fail
     have hcA:∀ (ob:Obj) k,(wr.alloc ob).cell? ⟨nb,k,none⟩=[.int .i64 m.node,.slice a1 e1.length c1,hv][k]?:=fun ob k=>(HB1.out.alloc ob).cell k
     have hcP:∀ (ob:Obj),(wr.alloc ob).cell? ⟨p,1,none⟩=some (.slice (some ⟨g,0,none⟩) ents.length kc):=fun ob=>by have:=HC0.out _ (HF1.out.alloc ob);rw[hkf] at this;exact this
     have hcG:∀ (ob:Obj),(wr.alloc ob).cell? ⟨g,i*2,none⟩=some (.string kn):=fun ob=>hc2E.out _ (HF1.out.alloc ob)
     have hcH:∀ (ob:Obj),(wr.alloc ob).cell? ⟨g,i*2+1,none⟩=some (.slice ra kvs.length rc):=fun ob=>hc3E.out _ (HF1.out.alloc ob)
     have HROWX:=Z (hrowE.out _ HF1.out)
     go_region_law
      ((refine Z3 (by rfl) _ _ _ _ (by rfl) _ _ (by rfl) (by rfl) (XB wr _ _ _ HO1.out kn ra kvs.length rc hel _ (by repeat' first|(with_reducible first|apply G|assumption|apply O|apply U|apply V|apply z6)|(intro _;rfl)) _ (by first|exact Blk.new _ [_,_] _|exact(Blk.new _ [_,_] _).drew) _) ?_;rintro v4 w4 ⟨ho4,hf4,hn4⟩;obtain⟨va4,vc4,hv4⟩:=z8 ho4;subst hv4;have hb4:=HB4.out _ hf4;have hc4:=hb4.cell;have hz4:=hb4.frozen;have HO4:=Z ho4;have HN4:=Z hn4;have HF4:=Z hf4;clear ho4 hn4 hf4))
     all_goals
      go_wp2
      have hwa5:=ZZ.app HF1.out HLE1.out HB1.out HO1.out HP1.out HK1.out HE1.out HO4.out HF4.out HN4.out HROWX.out (fun b e=>.inl (HOWN.out b e))
      exact⟨⟨i+1,by omega,by go_num,by rw[HSTEP.out,HWS.out],by rw[HSTEP.out,HWS.out];exact hwa5,by rw[HSTEP.out,HWS.out];simp only[List.length_append,List.length_singleton];omega⟩,by simp[intOf];omega⟩
   | true =>
    by_cases hke:kn=key
    ·have hkt:(kn.toList==key.toList)=true:=by rw[hke];simp
     have HWS:Hid (zv key l (out,true) (kn,kvs)=(out,true)):=Z (by simp[zv,hke])
     have HWA:=Z hwa
     clear hke hbq hwa
     go_wp2
     exact⟨⟨i+1,by omega,by go_num,by rw[HSTEP.out,HWS.out],by rw[HSTEP.out,HWS.out];exact HWA.out,by rw[HSTEP.out,HWS.out];simp only;omega⟩,by simp[intOf];omega⟩
    ·have hkt:(kn.toList==key.toList)=false:=by rw[← hbq];cases h:(kn==key) with|false=>rfl|true=>exact absurd (zR.1 h) hke
     have HWS:Hid (zv key l (out,true) (kn,kvs)=(out++[(kn,kvs)],true)):=Z (by simp[zv,hke])
     clear hke hbq
     obtain⟨⟨kv1,e1,hb1,ho1,hp1,hk1,he1⟩,hf1,hle1⟩:=hwa
     have hel:e1.length<1000000000:=by have:=hp1.length;omega
     obtain⟨a1,c1,hv1⟩:=z8 ho1
     subst hv1
     have hcn:=hb1.cell
     have hzn:=hb1.frozen
     have HB4:Hid (∀ w4:World,Fr (fun k=>(Value.slice a1 e1.length c1).ownBlock=some k) wr w4→Blk w4 nb [.int .i64 m.node,.slice a1 e1.length c1,hv] 107):=fun w4 f=>hb1.fr f (za ho1 hb1 (by decide))
     have HB1:=Z hb1
     have HO1:=Z ho1
     have HP1:=Z hp1
     have HK1:=Z hk1
     have HE1:=Z he1
     have HF1:=Z hf1
     have HLE1:=Z hle1
     clear hb1 ho1 hp1 hk1 he1 hf1 hle1
     go_wp2_with fail
     have hcA:∀ (ob:Obj) k,(wr.alloc ob).cell? ⟨nb,k,none⟩=[.int .i64 m.node,.slice a1 e1.length c1,hv][k]?:=fun ob k=>(HB1.out.alloc ob).cell k
     have hcP:∀ (ob:Obj),(wr.alloc ob).cell? ⟨p,1,none⟩=some (.slice (some ⟨g,0,none⟩) ents.length kc):=fun ob=>by have:=HC0.out _ (HF1.out.alloc ob);rw[hkf] at this;exact this
     have hcG:∀ (ob:Obj),(wr.alloc ob).cell? ⟨g,i*2,none⟩=some (.string kn):=fun ob=>hc2E.out _ (HF1.out.alloc ob)
     have hcH:∀ (ob:Obj),(wr.alloc ob).cell? ⟨g,i*2+1,none⟩=some (.slice ra kvs.length rc):=fun ob=>hc3E.out _ (HF1.out.alloc ob)
     have HROWX:=Z (hrowE.out _ HF1.out)
     go_region_law
      ((refine Z3 (by rfl) _ _ _ _ (by rfl) _ _ (by rfl) (by rfl) (XB wr _ _ _ HO1.out kn ra kvs.length rc hel _ (by repeat' first|(with_reducible first|apply G|assumption|apply O|apply U|apply V|apply z6)|(intro _;rfl)) _ (by first|exact Blk.new _ [_,_] _|exact(Blk.new _ [_,_] _).drew) _) ?_;rintro v4 w4 ⟨ho4,hf4,hn4⟩;obtain⟨va4,vc4,hv4⟩:=z8 ho4;subst hv4;have hb4:=HB4.out _ hf4;have hc4:=hb4.cell;have hz4:=hb4.frozen;have HO4:=Z ho4;have HN4:=Z hn4;have HF4:=Z hf4;clear ho4 hn4 hf4))
     all_goals
      go_wp2
      have hwa5:=ZZ.app HF1.out HLE1.out HB1.out HO1.out HP1.out HK1.out HE1.out HO4.out HF4.out HN4.out HROWX.out (fun b e=>.inl (HOWN.out b e))
      exact⟨⟨i+1,by omega,by go_num,by rw[HSTEP.out,HWS.out],by rw[HSTEP.out,HWS.out];exact hwa5,by rw[HSTEP.out,HWS.out];simp only[List.length_append,List.length_singleton];omega⟩,by simp[intOf];omega⟩
  ·obtain rfl:i=ents.length:=by omega
   have htk:m.keys.take ents.length=m.keys:=by rw[HLE.out,List.take_length]
   rw[htk] at hwa hol ⊢
   have hfin:ZQ m.keys key l=(m.keys.foldl (zv key l) ([],l.isEmpty)).1++if (m.keys.foldl (zv key l) ([],l.isEmpty)).2=true then [] else [(key,l)]:=rfl
   generalize m.keys.foldl (zv key l) ([],l.isEmpty)=st at hwa hol hfin ⊢
   obtain⟨out,done⟩:=st
   simp only at hwa hol hfin ⊢
   cases done with
   | true =>
    have HWA:=Z hwa
    simp only[if_true,List.append_nil] at hfin
    have HFIN:=Z hfin
    clear hwa hfin htk
    go_wp2
    go_ret
    exact⟨nb,rfl,by rw[HFIN.out];exact HWA.out⟩
   | false =>
    simp only[Bool.false_eq_true,if_false] at hfin
    have HFIN:=Z hfin
    have hpn:p≠nb:=fun e=>by have:=HH.out.blk.lt;have:=HNB.out;omega
    clear hfin htk
    obtain⟨⟨kv1,e1,hb1,ho1,hp1,hk1,he1⟩,hf1,hle1⟩:=hwa
    have hel:e1.length<1000000000:=by have:=hp1.length;omega
    obtain⟨a1,c1,hv1⟩:=z8 ho1
    subst hv1
    have hcn:=hb1.cell
    have hzn:=hb1.frozen
    have HB4:Hid (∀ w4:World,Fr (fun k=>(Value.slice a1 e1.length c1).ownBlock=some k) wr w4→Blk w4 nb [.int .i64 m.node,.slice a1 e1.length c1,hv] 107):=fun w4 f=>hb1.fr f (za ho1 hb1 (by decide))
    have HB1:=Z hb1
    have HO1:=Z ho1
    have HP1:=Z hp1
    have HK1:=Z hk1
    have HE1:=Z he1
    have HF1:=Z hf1
    have HLE1:=Z hle1
    clear hb1 ho1 hp1 hk1 he1 hf1 hle1
    go_wp2_with (at_builtin;go_must (refine zf rfl _ _ _ _ rfl _ _ (by rfl) (by rfl) (XB wr _ _ _ HO1.out key la l.length lc hel _ (by repeat' first|(with_reducible first|apply G|assumption|apply O|apply U|apply V|apply z6)|(intro _;rfl)) _ (by exact Blk.new _ [_,_] _) _) ?_;rintro v4 w4 ⟨ho4,hf4,hn4⟩;obtain⟨va4,vc4,hv4⟩:=z8 ho4;subst hv4;have hb4:=HB4.out _ hf4;have hc4:=hb4.cell;have hz4:=hb4.frozen;have HO4:=Z ho4;have HN4:=Z hn4;have HF4:=Z hf4;have hfa:=HF1.out.trans' hf4 (fun k hk e=>by have:=HK1.out k e;omega);have hc14:=HC0.out w4 hfa;rw[hkf] at hc14;simp only[List.getElem?_cons_succ,List.getElem?_cons_zero] at hc14;clear ho4 hn4 hf4 hfa))
    have hwa5:=ZZ.app HF1.out HLE1.out HB1.out HO1.out HP1.out HK1.out HE1.out HO4.out HF4.out HN4.out (VRow.fr HL.out HF1.out (fun _ _=>id)) (fun b e=>.inr e)
    have HWA5:=Z hwa5
    clear hwa5
    go_ret
    exact⟨nb,rfl,by rw[HFIN.out];exact HWA5.out⟩
def KGr(K:Nat→Prop)(w w':World)(k:Nat):Prop:=K k∨(w.heap.size≤k∧k<w'.heap.size)
theorem ZZ.rep{K:Nat→Prop}{w w':World}{p nb:Nat}{kv hv:Value}{ents:List (ByteArray × Value)}{m:LM}{lv:Value}{KK:Keys}(h:MAt w p kv hv ents m)(hk:∀ k,MBlk p kv hv ents k→K k)(hlk:∀ k,lv.ownBlock=some k→K k)
  (hw:ZZ w w' nb hv m.node KK (fun k=>MBlk p kv hv ents k∨lv.ownBlock=some k)):MRep (KGr K w w') w' nb {m with keys:=KK}:=by
 obtain⟨⟨kv',ents',h1,h2,h3,h4,h5⟩,hf,hle⟩:=hw
 refine⟨kv',hv,ents',⟨h1,h2,h3,z7 h.hint hf (fun _ _=>id)⟩,fun k hk'=>?_⟩
 rcases hk' with rfl|e|e|⟨a,ha,e⟩
 ·exact .inr ⟨hle,h1.lt⟩
 ·exact .inr ⟨h4 k e,zA h2 e⟩
 ·exact .inl (hk k (.inr (.inr (.inl e))))
 ·exact .inl ((h5 a ha k e).elim (hk k) (hlk k))
theorem KGr.trans{K:Nat→Prop}{a b c:World}{k:Nat}(h:KGr (KGr K a b) b c k)(h1:a.heap.size≤b.heap.size)(h2:b.heap.size≤c.heap.size):KGr K a c k:=by
 rcases h with(h|⟨h,h'⟩)|⟨h,h'⟩
 ·exact .inl h
 ·exact .inr ⟨h,by omega⟩
 ·exact .inr ⟨by omega,h'⟩
theorem MRep.nil{K:Nat→Prop}{w w':World}{p:Nat}{m:LM}(h:MRep K w p m)(f:Fr Nil w w'):MRep (KGr K w w') w' p m:=by
 obtain⟨kv,hv,ents,ha,hb⟩:=h
 exact⟨kv,hv,ents,ha.nil f,fun k hk=>.inl (hb k hk)⟩
theorem YZ(K:Nat→Prop)(p:Nat)(m:LM)(key:ByteArray)(lv:Value)(l:List Ver)(w:World)(h:MRep K w p m)(hl:VRow w lv l)(hlk:∀ k,lv.ownBlock=some k→K k)(hlen:m.keys.length<100000000) :
  Calls Tryz.prog 157 #[.pointer (some ⟨p,0,none⟩),.string key,lv] w fun e w' =>
   ∃ nb,e=.returned (.pointer (some ⟨nb,0,none⟩))∧MRep (KGr K w w') w' nb {m with keys:=ZQ m.keys key l}∧Fr Nil w w'∧w.heap.size≤nb:=by
 obtain⟨kv,hv,ents,ha,hb⟩:=h
 refine(Qx p kv hv ents m key lv l w ha hl (by rw[ha.pair.length];exact hlen)).mono ?_
 rintro e w' ⟨nb,rfl,hw⟩
 exact⟨nb,rfl,hw.rep ha hb hlk,hw.fr,hw.le⟩
def LM.delete(m:LM)(key:ByteArray):LM:={m with keys:=ZQ m.keys key []}
theorem WW(K:Nat→Prop)(p:Nat)(m:LM)(key:ByteArray)(w:World)(h:MRep K w p m)(hlen:m.keys.length<100000000) :
  Calls Tryz.prog 108 #[.pointer (some ⟨p,0,none⟩),.string key] w fun e w' =>
   ∃ nb,e=.returned (.pointer (some ⟨nb,0,none⟩))∧MRep (KGr K w w') w' nb (m.delete key)∧Fr Nil w w'∧w.heap.size≤nb:=by
 have HC:=Z (YZ K p m key (.slice none 0 0) [] w h (World.ownsRow_nil w 0 _ _) (fun k hk=>by simp[Value.ownBlock] at hk) hlen)
 clear h
 go_enter Tryz.func108,Tryz.ntmps108
 go_wp2_with (refine HC.out.mono ?_;rintro e w1 ⟨nb,rfl,h1,h2,h3⟩;have H1:=Z h1;clear h1)
 go_ret
 exact⟨nb,rfl,H1.out,h2,h3⟩
def LM.putV(m:LM)(key value:ByteArray)(seq:Int):Ver :=
 ⟨m.node,seq,grV (zL m.keys key) 0,grV (zL m.keys key) 1,grV (zL m.keys key) 2,grV (zL m.keys key) 3,value,false⟩
def LM.put(m:LM)(key value:ByteArray)(seq:Int):LM:={m with keys:=ZQ m.keys key [m.putV key value seq]}
theorem PN(K:Nat→Prop)(p:Nat)(m:LM)(key value:ByteArray)(seq:Int)(w:World)(h:MRep K w p m)(hlen:m.keys.length<100000000)(hnode:∀ u∈zL m.keys key,zE u.node) :
  Calls Tryz.prog 109 #[.pointer (some ⟨p,0,none⟩),.string key,.string value,.int .i64 seq] w fun e w' =>
   ∃ nb,e=.returned (.pointer (some ⟨nb,0,none⟩))∧MRep (KGr K w w') w' nb (m.put key value seq)∧Fr Nil w w'∧w.heap.size≤nb:=by
 obtain⟨kv,hv,ents,ha,hb⟩:=h
 have hcp:w.cell? ⟨p,0,none⟩=some (.int .i64 m.node):=ha.blk.cell 0
 have hbx:=Blk.new w [.int .i64 m.node,.int .i64 seq,.int .i64 0,.int .i64 0,.int .i64 0,.int .i64 0,.string value,.bool false] 37
 have f0:Fr Nil w (w.alloc (.cells #[.int .i64 m.node,.int .i64 seq,.int .i64 0,.int .i64 0,.int .i64 0,.int .i64 0,.string value,.bool false] 37)):=(G _ _).alloc _
 have HA:=Z ha
 have HB:=Z hb
 have HND:=Z hnode
 clear ha hb hnode
 go_enter Tryz.func109,Tryz.ntmps109
 go_wp2_with fail
 generalize w.alloc (.cells #[.int .i64 m.node,.int .i64 seq,.int .i64 0,.int .i64 0,.int .i64 0,.int .i64 0,.string value,.bool false] 37)=wb at hbx f0 ⊢
 generalize hnb:w.heap.size=nb at hbx ⊢
 have HNB:=Z hnb
 clear hnb
 refine(Y9 p kv hv ents m key wb (HA.out.nil f0)).mono ?_
 rintro e w1 ⟨v,rfl,hrow,hown,hw1⟩
 subst hw1
 have hn:=zK hrow
 unfold maxLen at hn
 obtain⟨va,vc,rfl⟩:=z8 hrow
 have HROW:=Z hrow
 have HF0:=Z f0
 have HOWN:Hid (∀ k,(Value.slice va (zL m.keys key).length vc).ownBlock=some k→k≠nb):=fun k hk e=>by have:=HA.out.lt k (hown k hk);have:=HNB.out;omega
 have HG:Hid (LM.putV m key value seq=⟨m.node,seq,grV (zL m.keys key) 0,grV (zL m.keys key) 1,grV (zL m.keys key) 2,grV (zL m.keys key) 3,value,false⟩):=rfl
 have hltb:=hbx.lt
 generalize zL m.keys key=old at hn HROW HND HG HOWN ⊢
 clear hrow hown f0 hcp
 go_wp2_with fail
 go_loopw [11] (fun t w'=>∃ i:Nat,i≤old.length∧t=.int .i64 i∧Blk w' nb [.int .i64 m.node,.int .i64 seq,.int .i64 (grV (old.take i) 0),.int .i64 (grV (old.take i) 1),.int .i64 (grV (old.take i) 2),.int .i64 (grV (old.take i) 3),.string value,.bool false] 37∧Fr (fun k=>k=nb) w1 w') (fun t _=>old.length-(intOf t).toNat)
 case atStart=>exact⟨0,Nat.zero_le _,rfl,hbx,G _ _⟩
 case round =>
  obtain⟨i,hi,rfl,hbi,hf⟩:=hrel
  by_cases hlt:i<old.length
  ·obtain⟨g,rfl⟩:∃ g,va=some ⟨g,0,none⟩:=by
    obtain⟨g,cap,h,_⟩:=zi HROW.out (by omega)
    simp at h;exact⟨g,h.1⟩
   have hc:=VRow.cells (z7 HROW.out hf (fun k hk e=>HOWN.out k hk e)) i hlt
   have g0:=hc 0 (by omega)
   have g1:=hc 1 (by omega)
   have hx:=HND.out old[i] (List.getElem_mem hlt)
   have HST0:=Z (XH old i hlt 0)
   have HST1:=Z (XH old i hlt 1)
   have HST2:=Z (XH old i hlt 2)
   have HST3:=Z (XH old i hlt 3)
   clear hc
   generalize old[i]=x at g0 g1 hx HST0 HST1 HST2 HST3
   obtain⟨xn,xs,x0,x1,x2,x3,xv,xg⟩:=x
   simp only[Ver.cells,Nat.add_zero,List.getElem?_cons_zero,List.getElem?_cons_succ] at g0 g1 HST0 HST1 HST2 HST3
   generalize grV (old.take i) 0=a0 at hbi HST0
   generalize grV (old.take i) 1=a1 at hbi HST1
   generalize grV (old.take i) 2=a2 at hbi HST2
   generalize grV (old.take i) 3=a3 at hbi HST3
   have hcn:=hbi.cell
   have hzn:=hbi.frozen
   have hcs:xn=0∨xn=1∨xn=2∨xn=3:=by unfold zE at hx;simp only at hx;omega
   clear hx
   rcases hcs with hx|hx|hx|hx
   ·subst hx
    by_cases hgt:a0<xs
    ·have HB2:=Z ((show Blk wr nb _ _ from hbi).set 2 (.int .i64 xs))
     have HF2:Hid (∀ n,Fr (fun k=>k=nb) w1 ((wr.drewN n).setCell ⟨nb,2,none⟩ (.int .i64 xs))):=Z (fun n=>Fr.set (S:=fun k=>k=nb) (p:=⟨nb,2,none⟩) (hf.drewN n) (fun _=>rfl) _)
     have HM:Hid (max a0 xs=xs):=Z (by omega)
     clear hbi hf
     go_wp2
     go_quiet (fail)
     go_wp2
     exact⟨⟨i+1,by omega,by go_num,by first|(rw[HST0.out,HST1.out,HST2.out,HST3.out];simp only[HM.out,if_true,show ¬((0:Int)=1) from by decide,show ¬((0:Int)=2) from by decide,show ¬((0:Int)=3) from by decide,if_false];exact HB2.out),HF2.out _⟩,by simp[intOf];omega⟩
    ·have HM:Hid (max a0 xs=a0):=Z (by omega)
     have HB2:=Z hbi
     have HF2:Hid (∀ n,Fr (fun k=>k=nb) w1 (wr.drewN n)):=Z (fun n=>hf.drewN n)
     clear hbi hf
     go_wp2
     go_quiet (fail)
     go_wp2
     exact⟨⟨i+1,by omega,by go_num,by first|(rw[HST0.out,HST1.out,HST2.out,HST3.out];simp only[HM.out,if_true,show ¬((0:Int)=1) from by decide,show ¬((0:Int)=2) from by decide,show ¬((0:Int)=3) from by decide,if_false];exact HB2.out),HF2.out _⟩,by simp[intOf];omega⟩
   ·subst hx
    by_cases hgt:a1<xs
    ·have HB2:=Z ((show Blk wr nb _ _ from hbi).set 3 (.int .i64 xs))
     have HF2:Hid (∀ n,Fr (fun k=>k=nb) w1 ((wr.drewN n).setCell ⟨nb,3,none⟩ (.int .i64 xs))):=Z (fun n=>Fr.set (S:=fun k=>k=nb) (p:=⟨nb,3,none⟩) (hf.drewN n) (fun _=>rfl) _)
     have HM:Hid (max a1 xs=xs):=Z (by omega)
     clear hbi hf
     go_wp2
     go_quiet (fail)
     go_wp2
     exact⟨⟨i+1,by omega,by go_num,by first|(rw[HST0.out,HST1.out,HST2.out,HST3.out];simp only[HM.out,if_true,show ¬((1:Int)=0) from by decide,show ¬((1:Int)=2) from by decide,show ¬((1:Int)=3) from by decide,if_false];exact HB2.out),HF2.out _⟩,by simp[intOf];omega⟩
    ·have HM:Hid (max a1 xs=a1):=Z (by omega)
     have HB2:=Z hbi
     have HF2:Hid (∀ n,Fr (fun k=>k=nb) w1 (wr.drewN n)):=Z (fun n=>hf.drewN n)
     clear hbi hf
     go_wp2
     go_quiet (fail)
     go_wp2
     exact⟨⟨i+1,by omega,by go_num,by first|(rw[HST0.out,HST1.out,HST2.out,HST3.out];simp only[HM.out,if_true,show ¬((1:Int)=0) from by decide,show ¬((1:Int)=2) from by decide,show ¬((1:Int)=3) from by decide,if_false];exact HB2.out),HF2.out _⟩,by simp[intOf];omega⟩
   ·subst hx
    by_cases hgt:a2<xs
    ·have HB2:=Z ((show Blk wr nb _ _ from hbi).set 4 (.int .i64 xs))
     have HF2:Hid (∀ n,Fr (fun k=>k=nb) w1 ((wr.drewN n).setCell ⟨nb,4,none⟩ (.int .i64 xs))):=Z (fun n=>Fr.set (S:=fun k=>k=nb) (p:=⟨nb,4,none⟩) (hf.drewN n) (fun _=>rfl) _)
     have HM:Hid (max a2 xs=xs):=Z (by omega)
     clear hbi hf
     go_wp2
     go_quiet (fail)
     go_wp2
     exact⟨⟨i+1,by omega,by go_num,by first|(rw[HST0.out,HST1.out,HST2.out,HST3.out];simp only[HM.out,if_true,show ¬((2:Int)=0) from by decide,show ¬((2:Int)=1) from by decide,show ¬((2:Int)=3) from by decide,if_false];exact HB2.out),HF2.out _⟩,by simp[intOf];omega⟩
    ·have HM:Hid (max a2 xs=a2):=Z (by omega)
     have HB2:=Z hbi
     have HF2:Hid (∀ n,Fr (fun k=>k=nb) w1 (wr.drewN n)):=Z (fun n=>hf.drewN n)
     clear hbi hf
     go_wp2
     go_quiet (fail)
     go_wp2
     exact⟨⟨i+1,by omega,by go_num,by first|(rw[HST0.out,HST1.out,HST2.out,HST3.out];simp only[HM.out,if_true,show ¬((2:Int)=0) from by decide,show ¬((2:Int)=1) from by decide,show ¬((2:Int)=3) from by decide,if_false];exact HB2.out),HF2.out _⟩,by simp[intOf];omega⟩
   ·subst hx
    by_cases hgt:a3<xs
    ·have HB2:=Z ((show Blk wr nb _ _ from hbi).set 5 (.int .i64 xs))
     have HF2:Hid (∀ n,Fr (fun k=>k=nb) w1 ((wr.drewN n).setCell ⟨nb,5,none⟩ (.int .i64 xs))):=Z (fun n=>Fr.set (S:=fun k=>k=nb) (p:=⟨nb,5,none⟩) (hf.drewN n) (fun _=>rfl) _)
     have HM:Hid (max a3 xs=xs):=Z (by omega)
     clear hbi hf
     go_wp2
     go_quiet (fail)
     go_wp2
     exact⟨⟨i+1,by omega,by go_num,by first|(rw[HST0.out,HST1.out,HST2.out,HST3.out];simp only[HM.out,if_true,show ¬((3:Int)=0) from by decide,show ¬((3:Int)=1) from by decide,show ¬((3:Int)=2) from by decide,if_false];exact HB2.out),HF2.out _⟩,by simp[intOf];omega⟩
    ·have HM:Hid (max a3 xs=a3):=Z (by omega)
     have HB2:=Z hbi
     have HF2:Hid (∀ n,Fr (fun k=>k=nb) w1 (wr.drewN n)):=Z (fun n=>hf.drewN n)
     clear hbi hf
     go_wp2
     go_quiet (fail)
     go_wp2
     exact⟨⟨i+1,by omega,by go_num,by first|(rw[HST0.out,HST1.out,HST2.out,HST3.out];simp only[HM.out,if_true,show ¬((3:Int)=0) from by decide,show ¬((3:Int)=1) from by decide,show ¬((3:Int)=2) from by decide,if_false];exact HB2.out),HF2.out _⟩,by simp[intOf];omega⟩
  ·obtain rfl:i=old.length:=by omega
   rw[List.take_length] at hbi
   have hcn:=hbi.cell
   have hfw:Fr Nil w wr:=HF0.out.trans' hf (fun k hk e=>by have:=HNB.out;omega)
   have fx:Fr Nil w (wr.alloc (.cells #[.int .i64 m.node,.int .i64 seq,.int .i64 (grV old 0),.int .i64 (grV old 1),.int .i64 (grV old 2),.int .i64 (grV old 3),.string value,.bool false] 37)):=hfw.alloc _
   have hbn:=Blk.new wr [.int .i64 m.node,.int .i64 seq,.int .i64 (grV old 0),.int .i64 (grV old 1),.int .i64 (grV old 2),.int .i64 (grV old 3),.string value,.bool false] 37
   have hrown:VRow (wr.alloc (.cells #[.int .i64 m.node,.int .i64 seq,.int .i64 (grV old 0),.int .i64 (grV old 1),.int .i64 (grV old 2),.int .i64 (grV old 3),.string value,.bool false] 37)) (.slice (some ⟨wr.heap.size,0,none⟩) 1 1) [LM.putV m key value seq]:=by rw[HG.out];exact Zj (cap:=1) hbn (Nat.le_refl _) (by decide) rfl rfl
   have HCW:=Z (YZ (KGr K w (wr.alloc (.cells #[.int .i64 m.node,.int .i64 seq,.int .i64 (grV old 0),.int .i64 (grV old 1),.int .i64 (grV old 2),.int .i64 (grV old 3),.string value,.bool false] 37))) p m key _ _ (wr.alloc (.cells #[.int .i64 m.node,.int .i64 seq,.int .i64 (grV old 0),.int .i64 (grV old 1),.int .i64 (grV old 2),.int .i64 (grV old 3),.string value,.bool false] 37)) (MRep.nil ⟨kv,hv,ents,HA.out,HB.out⟩ fx) hrown (fun k hk=>by simp[Value.ownBlock] at hk;subst hk;exact .inr ⟨hfw.size,hbn.lt⟩) hlen)
   have HFX:=Z fx
   have HPUT:Hid (LM.put m key value seq={m with keys:=ZQ m.keys key [LM.putV m key value seq]}):=rfl
   clear hbi hf hfw fx hbn hrown
   go_wp2_with fail
   refine HCW.out.mono ?_
   rintro e w5 ⟨nb5,rfl,h1,h2,h3⟩
   have H1:=Z h1
   have H2:=Z h2
   have H3:=Z h3
   clear h1 h2 h3
   go_wp2
   go_ret
   exact⟨nb5,rfl,by rw[HPUT.out];exact H1.out.mono (fun k hk=>hk.trans HFX.out.size H2.out.size),HFX.out.trans H2.out,Nat.le_trans HFX.out.size H3.out⟩
theorem MRep.fin{K:Nat→Prop}{w W W':World}{p:Nat}{m:LM}(h:MRep (KGr K w W) W p m)(f:Fr Nil W W')(hs:w.heap.size≤W.heap.size):MRep (KGr K w W') W' p m:=(h.nil f).mono (fun _ hk=>hk.trans hs f.size)
def LM.hint(m:LM)(to:Nat)(text:ByteArray):LM:={m with hints:=m.hints++[(to,text)]}
def LM.ack(m:LM):LM:={m with hints:=m.hints.drop 1}
theorem OR(w:World)(hv:Value)(l:List (Nat × ByteArray))(h:w.ownsRow 0 75 2 hv l.length (zD l))(hn:l.length<1000000)(W0:World)(hf:Fr Nil w W0)(ty:TypeId) :
  ∃ v' w',(Builtin.append_ #[66,66] ty #[.slice none 0 0,hv]).run Tryz.prog W0=.ok v' w' ∧
   (w'.ownsRow 0 75 2 v' l.length (zD l)∧Fr Nil w w'∧(∀ k,v'.ownBlock=some k→w.heap.size≤k)):=by
 have ho:=z7 h hf (fun _ _=>id)
 obtain⟨v',w',hr,h1,h2,h3⟩:=YF (P:=Tryz.prog) 66 ty 75 2 24 Tryz.underlying66 VX (by omega) (.slice none 0 0) 0 [] (World.ownsRow_nil W0 0 _ _) hv l.length (zD l) ho (XR l) (by unfold maxLen;omega) (by omega)
 refine⟨v',w',hr,by simpa using h1,hf.trans ((Fr.of_grown h2).mono (fun i _ h=>by simp[Value.ownBlock] at h)),fun k hk=>?_⟩
 rcases h3 with h3|h3
 ·rw[h3] at hk;simp[Value.ownBlock] at hk
 ·rw[h3] at hk;simp at hk;have:=hf.size;omega
theorem Md(w:World)(g cap:Nat)(l:List (Nat × ByteArray))(h:w.ownsRow 0 75 2 (.slice (some ⟨g,0,none⟩) l.length cap) l.length (zD l))(hn:l.length<1000000)(hp:0<l.length)(ad:Addr)(had:ad=⟨g,2,none⟩∨l.length=1)(c:Nat)(W0:World)(hf:Fr Nil w W0)(ty:TypeId) :
  ∃ v' w',(Builtin.append_ #[66,66] ty #[.slice none 0 0,.slice (some ad) (l.length-1) c]).run Tryz.prog W0=.ok v' w' ∧
   (w'.ownsRow 0 75 2 v' (l.length-1) (zD (l.drop 1))∧Fr Nil w w'∧(∀ k,v'.ownBlock=some k→w.heap.size≤k)):=by
 have ho:=z7 h hf (fun _ _=>id)
 obtain⟨x,r,rfl⟩:∃ x r,l=x::r:=by cases l with|nil=>simp at hp|cons x r=>exact⟨x,r,rfl⟩
 simp only[List.length_cons,Nat.add_sub_cancel,List.drop_succ_cons,List.drop_zero] at ho ⊢
 obtain⟨v',w',hr,h1,h2,h3⟩:=zo (P:=Tryz.prog) 66 ty 75 2 24 Tryz.underlying66 VX (by omega) (.slice none 0 0) 0 [] (World.ownsRow_nil W0 0 _ _) ad r.length c (zD r) (R9 r)
  (fun j u hu=>by
    rcases had with rfl|had
    case inr=>simp at had;subst had;simp[zD] at hu
    rw[Addr.add_lit];refine own_cell? ho (2+j) u ?_;rw[show zD (x::r)=[.int .i64 x.1,.string x.2]++zD r from rfl,List.getElem?_append_right (by simp)];simpa using hu) (XR r) (by unfold maxLen;simp at hn;omega) (by simp at hn;omega)
 refine⟨v',w',hr,by simpa using h1,hf.trans ((Fr.of_grown h2).mono (fun i _ h=>by simp[Value.ownBlock] at h)),fun k hk=>?_⟩
 rcases h3 with h3|h3
 ·rw[h3] at hk;simp[Value.ownBlock] at hk
 ·rw[h3] at hk;simp at hk;have:=hf.size;omega
theorem HintAt.rep{K:Nat→Prop}{w wr w4:World}{p nb:Nat}{kv hv v':Value}{ents:List (ByteArray × Value)}{m:LM}{hs hs':List (Nat × ByteArray)}(ha:MAt w p kv hv ents m)(hk:∀ k,MBlk p kv hv ents k→K k)
  {h0:Value}(hbx:Blk wr nb [.int .i64 m.node,kv,h0] 107)(hf:Fr Nil w wr)(hle:w.heap.size≤nb)(ho:wr.ownsRow 0 75 2 h0 hs.length (zD hs))(h0k:∀ k,h0.ownBlock=some k→w.heap.size≤k)
  {n:Nat}(hn4:n=hs'.length)(h4:w4.ownsRow 0 75 2 v' n (zD hs'))(f4:Fr (fun k=>h0.ownBlock=some k) wr w4)(hn:∀ k,v'.ownBlock=some k→w.heap.size≤k) :
  Blk (w4.setCell ⟨nb,2,none⟩ v') nb [.int .i64 m.node,kv,v'] 107∧Fr Nil w (w4.setCell ⟨nb,2,none⟩ v')∧(w4.setCell ⟨nb,2,none⟩ v').ownsRow 0 75 2 v' hs'.length (zD hs')∧MRep (KGr K w (w4.setCell ⟨nb,2,none⟩ v')) (w4.setCell ⟨nb,2,none⟩ v') nb {m with hints:=hs'}:=by
 subst hn4
 have hb4:Blk w4 nb _ _:=hbx.fr f4 (za ho hbx (by decide))
 have fs:Fr (fun k=>k=nb) w4 (w4.setCell ⟨nb,2,none⟩ v'):=Fr.set (S:=fun k=>k=nb) (p:=⟨nb,2,none⟩) (G _ _) (fun _=>rfl) _
 have hbs:=hb4.set 2 v'
 have hF:Fr Nil w (w4.setCell ⟨nb,2,none⟩ v'):=(hf.trans' f4 (fun i hi e=>by have:=h0k i e;omega)).trans' fs (fun i hi e=>by omega)
 have hrow:(w4.setCell ⟨nb,2,none⟩ v').ownsRow 0 75 2 v' hs'.length (zD hs'):=z7 h4 fs (fun k hk e=>by subst e;exact za h4 hb4 (by decide) hk)
 have ha':=ha.nil hF
 refine⟨hbs,hF,hrow,kv,v',ents,⟨hbs,ha'.ent,ha'.pair,hrow⟩,fun k hk'=>?_⟩
 rcases hk' with rfl|e|e|⟨a,ham,e⟩
 ·exact .inr ⟨hle,hbs.lt⟩
 ·exact .inl (hk k (.inr (.inl e)))
 ·exact .inr ⟨hn k e,zA hrow e⟩
 ·exact .inl (hk k (.inr (.inr (.inr ⟨a,ham,e⟩))))
theorem Xw(K:Nat→Prop)(p:Nat)(m:LM)(w:World)(h:MRep K w p m)(hlen:m.hints.length<1000000) :
  Calls Tryz.prog 114 #[.pointer (some ⟨p,0,none⟩)] w fun e w' =>
   (m.hints=[]∧e=.returned (.tuple #[.pointer none,.int .i64 7])∧Fr Nil w w') ∨
   (m.hints≠[]∧∃ nb,e=.returned (.tuple #[.pointer (some ⟨nb,0,none⟩),.int .i64 0])∧MRep (KGr K w w') w' nb m.ack∧Fr Nil w w'∧w.heap.size≤nb):=by
 obtain⟨kv,hv,ents,ha,hb⟩:=h
 have hcp:=ha.blk.cell
 obtain⟨va,vc,hhv⟩:=z8 ha.hint
 obtain⟨ka,kc,hkv⟩:=z8 ha.ent
 rw[hhv,hkv] at hcp
 have HA:=Z ha
 have HB:=Z hb
 clear ha hb
 by_cases h0:m.hints=[]
 ·have h0':((m.hints.length:Int)==0)=true:=by rw[h0];rfl
  rw[h0] at hcp
  have H0:=Z h0
  clear h0 h0'
  go_enter Tryz.func114,Tryz.ntmps114
  go_wp2
  go_ret2
  exact .inl ⟨H0.out,rfl,G _ _⟩
 ·have h0':((m.hints.length:Int)==0)=false:=by cases h:m.hints with|nil=>exact absurd h h0|cons a t=>simp;omega
  have hpos:0<m.hints.length:=List.length_pos_iff.2 h0
  have H0:=Z h0
  obtain⟨g,cap,hgf,hcap,_⟩:=zi HA.out.hint hpos
  rw[hhv] at hgf
  obtain⟨rfl,rfl⟩:va=some ⟨g,0,none⟩∧vc=cap:=by simpa using hgf
  clear h0 hgf
  have hbx:=Blk.new w [.int .i64 m.node,.slice ka ents.length kc,.slice none 0 0] 107
  have f0:Fr Nil w (w.alloc (.cells #[.int .i64 m.node,.slice ka ents.length kc,.slice none 0 0] 107)).drew:=((G _ _).alloc _).drew
  go_enter Tryz.func114,Tryz.ntmps114
  go_wp2_with fail
  go_region
  have hbx:=hbx.drew
  generalize (w.alloc (.cells #[.int .i64 m.node,.slice ka ents.length kc,.slice none 0 0] 107)).drew=wb at hbx f0 ⊢
  generalize hnb:w.heap.size=nb at hbx ⊢
  have HNB:=Z hnb
  have HF0:=Z f0
  have hcp:=(HA.out.nil f0).blk.cell
  rw[hhv,hkv] at hcp
  have hcn:=hbx.cell
  have hzn:=hbx.frozen
  have HBX:=Z hbx
  have HB4:Hid (∀ w4:World,Fr (fun k=>(Value.slice none 0 0).ownBlock=some k) wb w4→Blk w4 nb [.int .i64 m.node,.slice ka ents.length kc,.slice none 0 0] 107):=fun w4 f=>hbx.fr f (by simp[Value.ownBlock])
  have HHINT:Hid (wb.ownsRow 0 75 2 (.slice (some ⟨g,0,none⟩) m.hints.length vc) m.hints.length (zD m.hints)):=by have:=(HA.out.nil f0).hint;rw[hhv] at this;exact this
  have hi1:(1:Int)≤(m.hints.length:Int):=by omega
  clear hnb f0 hbx
  by_cases hvc:vc=1
  ·have hl1:m.hints.length=1:=by omega
   have hd:m.hints.drop 1=[]:=List.eq_nil_of_length_eq_zero (by rw[List.length_drop];omega)
   have HACK:Hid (m.ack={m with hints:=[]}):=Z (by unfold LM.ack;rw[hd])
   obtain⟨_,hF,_,hM⟩:=HintAt.rep (w4:=wb) (v':=.slice none 0 0) (m:=m) (hs:=[]) (hs':=[]) HA.out HB.out (by rw[hkv];exact HBX.out) HF0.out (by rw[HNB.out];exact Nat.le_refl _) (World.ownsRow_nil _ 0 _ _) (fun k hk=>by simp[Value.ownBlock] at hk) rfl (World.ownsRow_nil _ 0 _ _) (G _ _) (fun k hk=>by simp[Value.ownBlock] at hk)
   have HM:=Z hM
   have HFR:=Z hF
   clear hM hF hd
   go_wp2_with fail
   go_region
   all_goals
    go_wp2
    go_ret2
    exact .inr ⟨H0.out,nb,rfl,by rw[HACK.out];exact HM.out.fin (G _ _).drew HFR.out.size,HFR.out.drew,by rw[HNB.out];exact Nat.le_refl _⟩
  ·go_wp2_with fail
   go_region_law
    ((refine Z3 (by rfl) _ _ _ _ (by rfl) _ _ (by rfl) (by rfl) (Md wb g vc m.hints HHINT.out hlen hpos ⟨g,2,none⟩ (.inl rfl) _ _ (by repeat' first|(with_reducible first|apply G|assumption|apply O|apply U|apply V|apply z6)|(intro _;rfl)) _) ?_;rintro v4 w4 ⟨ho4,hf4,hn4⟩;obtain⟨va4,vc4,hv4⟩:=z8 ho4;subst hv4;have hb4:=HB4.out _ (hf4.mono (fun _ _ h=>absurd h id));have hc4:=hb4.cell;have hz4:=hb4.frozen;have HO4:=Z ho4;have HN4:=Z hn4;have HF4:=Z hf4;clear ho4 hn4 hf4))
   all_goals
    go_wp2
    obtain⟨_,hF,_,hM⟩:=HintAt.rep (m:=m) (hs:=[]) HA.out HB.out (by rw[hkv];exact HBX.out) HF0.out (by rw[HNB.out];exact Nat.le_refl _) (World.ownsRow_nil _ 0 _ _) (fun k hk=>by simp[Value.ownBlock] at hk) (show m.hints.length-1=(m.hints.drop 1).length from(List.length_drop ..).symm) HO4.out (HF4.out.mono (fun _ _ h=>absurd h id)) (fun k hk=>Nat.le_trans HF0.out.size (HN4.out k hk))
    have HM:=Z hM
    have HFR:=Z hF
    clear hM hF
    go_ret2
    exact .inr ⟨H0.out,nb,rfl,HM.out,HFR.out,by rw[HNB.out];exact Nat.le_refl _⟩
theorem VK(K:Nat→Prop)(p:Nat)(m:LM)(to:Nat)(text:ByteArray)(w:World)(h:MRep K w p m)(hlen:m.hints.length<1000000) :
  Calls Tryz.prog 115 #[.pointer (some ⟨p,0,none⟩),.int .i64 to,.string text] w fun e w' =>
   (32≤m.hints.length∧e=.returned (.tuple #[.pointer none,.int .i64 6])∧Fr Nil w w') ∨
   (m.hints.length<32∧∃ nb,e=.returned (.tuple #[.pointer (some ⟨nb,0,none⟩),.int .i64 0])∧MRep (KGr K w w') w' nb (m.hint to text)∧Fr Nil w w'∧w.heap.size≤nb):=by
 obtain⟨kv,hv,ents,ha,hb⟩:=h
 have hcp:=ha.blk.cell
 obtain⟨va,vc,hhv⟩:=z8 ha.hint
 obtain⟨ka,kc,hkv⟩:=z8 ha.ent
 rw[hhv,hkv] at hcp
 have HA:=Z ha
 have HB:=Z hb
 clear ha hb
 by_cases h0:32≤m.hints.length
 ·have h0':(32:Int)≤(m.hints.length:Int):=by omega
  have H0:=Z h0
  clear h0
  go_enter Tryz.func115,Tryz.ntmps115
  go_wp2
  go_ret2
  exact .inl ⟨H0.out,rfl,G _ _⟩
 ·have h0':¬(32:Int)≤(m.hints.length:Int):=by omega
  have H0:Hid (m.hints.length<32):=Z (by omega)
  clear h0
  have hbx:=Blk.new w [.int .i64 m.node,.slice ka ents.length kc,.slice none 0 0] 107
  have f0:Fr Nil w (w.alloc (.cells #[.int .i64 m.node,.slice ka ents.length kc,.slice none 0 0] 107)).drew:=((G _ _).alloc _).drew
  go_enter Tryz.func115,Tryz.ntmps115
  go_wp2_with fail
  go_region
  have hbx:=hbx.drew
  generalize (w.alloc (.cells #[.int .i64 m.node,.slice ka ents.length kc,.slice none 0 0] 107)).drew=wb at hbx f0 ⊢
  generalize hnb:w.heap.size=nb at hbx ⊢
  have HNB:=Z hnb
  have HF0:=Z f0
  have hcp:=(HA.out.nil f0).blk.cell
  rw[hhv,hkv] at hcp
  have hcn:=hbx.cell
  have hzn:=hbx.frozen
  have HBX:=Z hbx
  have HB4:Hid (∀ w4:World,Fr (fun k=>(Value.slice none 0 0).ownBlock=some k) wb w4→Blk w4 nb [.int .i64 m.node,.slice ka ents.length kc,.slice none 0 0] 107):=fun w4 f=>hbx.fr f (by simp[Value.ownBlock])
  have HHINT:Hid (wb.ownsRow 0 75 2 (.slice va m.hints.length vc) m.hints.length (zD m.hints)):=by have:=(HA.out.nil f0).hint;rw[hhv] at this;exact this
  clear hnb f0 hbx
  go_wp2_with fail
  go_region_law
   ((refine Z3 (by rfl) _ _ _ _ (by rfl) _ _ (by rfl) (by rfl) (OR wb _ m.hints HHINT.out hlen _ (by repeat' first|(with_reducible first|apply G|assumption|apply O|apply U|apply V|apply z6)|(intro _;rfl)) _) ?_;rintro v4 w4 ⟨ho4,hf4,hn4⟩;obtain⟨va4,vc4,hv4⟩:=z8 ho4;subst hv4;have hb4:=HB4.out _ (hf4.mono (fun _ _ h=>absurd h id));have hc4:=hb4.cell;have hz4:=hb4.frozen;have HO4:=Z ho4;have HN4:=Z hn4;have HF4:=Z hf4;clear ho4 hn4 hf4))
  all_goals
   obtain⟨hbs,hF,hro,_⟩:=HintAt.rep (m:=m) (hs:=[]) HA.out HB.out (by rw[hkv];exact HBX.out) HF0.out (by rw[HNB.out];exact Nat.le_refl _) (World.ownsRow_nil _ 0 _ _) (fun k hk=>by simp[Value.ownBlock] at hk) rfl HO4.out (HF4.out.mono (fun _ _ h=>absurd h id)) (fun k hk=>Nat.le_trans HF0.out.size (HN4.out k hk))
   have HN5:Hid (∀ k,(Value.slice va4 m.hints.length vc4).ownBlock=some k→w.heap.size≤k):=fun k hk=>Nat.le_trans HF0.out.size (HN4.out k hk)
   clear hc4 hz4 hb4 HO4 HF4 HN4 hcn hzn hcp
   generalize w4.setCell ⟨nb,2,none⟩ (.slice va4 m.hints.length vc4)=w5 at hbs hF hro ⊢
   rw[hkv] at hbs
   have hc5:=hbs.cell
   have hz5:=hbs.frozen
   have HB6:Hid (∀ w6:World,Fr (fun k=>(Value.slice va4 m.hints.length vc4).ownBlock=some k) w5 w6→Blk w6 nb [.int .i64 m.node,.slice ka ents.length kc,.slice va4 m.hints.length vc4] 107):=fun w6 f=>hbs.fr f (za hro hbs (by decide))
   have HBS:=Z hbs
   have HRO:=Z hro
   have HF5:=Z hF
   clear hbs hro hF
   go_wp2_with (at_builtin;go_must (refine zf rfl _ _ _ _ rfl _ _ (by rfl) (by rfl) (Rc w5 _ _ _ HRO.out to text hlen _ (by repeat' first|(with_reducible first|apply G|assumption|apply O|apply U|apply V|apply z6)|(intro _;rfl)) _ (by exact Blk.new _ [_,_] _) _) ?_;rintro v6 w6 ⟨ho6,hf6,hn6⟩;obtain⟨va6,vc6,hv6⟩:=z8 ho6;subst hv6;have hb6:=HB6.out _ hf6;have hc6:=hb6.cell;have hz6:=hb6.frozen;have HO6:=Z ho6;have HN6:=Z hn6;have HF6:=Z hf6;clear ho6 hn6 hf6))
   obtain⟨_,hF,_,hM⟩:=HintAt.rep (m:=m) (hs:=m.hints) (hs':=m.hints++[(to,text)]) HA.out HB.out (by rw[hkv];exact HBS.out) HF5.out (by rw[HNB.out];exact Nat.le_refl _) HRO.out HN5.out (show m.hints.length+1=(m.hints++[(to,text)]).length by simp) (by rw[Va];exact HO6.out) HF6.out (fun k hk=>(HN6.out k hk).elim (HN5.out k) (fun h=>Nat.le_trans HF5.out.size h))
   have HM:=Z hM
   have HFR:=Z hF
   clear hM hF
   go_ret2
   exact .inr ⟨H0.out,nb,rfl,HM.out,HFR.out,by rw[HNB.out];exact Nat.le_refl _⟩
end Go.Proofs.YtkhnggkkiefcdaaGreatDoor
