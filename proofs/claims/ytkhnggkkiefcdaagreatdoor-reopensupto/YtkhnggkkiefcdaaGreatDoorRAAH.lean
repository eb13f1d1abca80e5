/- larder: joined texts -/
import Derived.Test.YtkhnggkkiefcdaaGreatDoorRAAG
namespace Go.Proofs.YtkhnggkkiefcdaaGreatDoor
open Go.RowKit
set_option maxRecDepth 100000
set_option maxHeartbeats 8000000
def Yq(l:List Ver)(v:Ver):List Ver:=l.take (low zu (l.map Ver.dot) v.dot)++[v]++l.drop (low zu (l.map Ver.dot) v.dot)
theorem Px(l:List Ver)(i:Nat):(zM l).take (i*8)=zM (l.take i):=by
 rcases Nat.le_total i l.length with h|h
 ·have e:=Yc (l.take i) (l.drop i)
  rw[List.take_append_drop] at e
  rw[e]
  exact List.take_left' (by rw[YG,List.length_take,Nat.min_eq_left h])
 ·rw[List.take_of_length_le h,List.take_of_length_le (by rw[YG];omega)]
theorem Py(l:List Ver)(i:Nat):(zM l).drop (i*8)=zM (l.drop i):=by
 rcases Nat.le_total i l.length with h|h
 ·have e:=Yc (l.take i) (l.drop i)
  rw[List.take_append_drop] at e
  rw[e]
  exact List.drop_left' (by rw[YG,List.length_take,Nat.min_eq_left h])
 ·rw[List.drop_eq_nil_of_le h,List.drop_eq_nil_of_le (by rw[YG];omega)]
  rfl
theorem Pz(l:List Ver)(v:Ver):ZH 8 (low zu (l.map Ver.dot) v.dot) (zM l) v.cells=zM (Yq l v):=by
 unfold ZH Yq
 rw[Px,Py,Yc,Yc]
 simp[zM]
theorem Vg(l:List Ver)(v:Ver):(Yq l v).length=l.length+1:=by
 have:=Wj zu (l.map Ver.dot) v.dot
 simp only[List.length_map] at this
 simp only[Yq,List.length_append,List.length_take,List.length_drop,List.length_singleton]
 omega
theorem Wc.row{w0 wx w':World}{lv:Value}{l:List Ver}{v:Ver}{e:Ending}(h:Wc wx lv.ownBlock l.length (low zu (l.map Ver.dot) v.dot) (zM l) v.cells e w')(hf:Fr Nil w0 wx)(hn:∀ k,lv.ownBlock=some k→w0.heap.size≤k) :
  ∃ v',e=.returned v'∧VRow w' v' (Yq l v)∧Fr Nil w0 w'∧(∀ k,v'.ownBlock=some k→w0.heap.size≤k):=by
 obtain⟨g,cap,rfl,ho,hf',hg⟩:=h
 rw[Pz] at ho
 refine⟨_,rfl,?_,hf.trans' hf' (fun i hi h=>absurd (hn i h) (by omega)),fun k hk=>?_⟩
 ·unfold VRow
  rw[Vg]
  exact ho
 ·simp[Value.ownBlock] at hk
  subst hk
  rcases hg with h|h
  ·exact hn _ h
  ·have:=hf.size;omega
theorem PA(lv:Value)(l:List Ver)(v:Ver)(hs:ZU l)(hsz:l.length<1000000)(w:World)(hl:VRow w lv l) :
  Calls Tryz.prog 142 #[lv,.agg v.cells.toArray] w fun e w'=>∃ v',e=.returned v'∧VRow w' v' (Yq l v)∧Fr Nil w w'∧(∀ k,v'.ownBlock=some k→w.heap.size≤k):=by
 obtain⟨node,seq,o0,o1,o2,o3,value,gone⟩:=v
 have hlo:=Wj zu (l.map Ver.dot) (node,seq)
 simp only[List.length_map] at hlo
 have HLO:=Z hlo
 clear hlo
 have hb:Blk (w.alloc (.cells #[.int .i64 node,.int .i64 seq,.int .i64 o0,.int .i64 o1,.int .i64 o2,.int .i64 o3,.string value,.bool gone] 37)) w.heap.size [.int .i64 node,.int .i64 seq,.int .i64 o0,.int .i64 o1,.int .i64 o2,.int .i64 o3,.string value,.bool gone] 37:=Blk.new w [.int .i64 node,.int .i64 seq,.int .i64 o0,.int .i64 o1,.int .i64 o2,.int .i64 o3,.string value,.bool gone] _
 have hf0:Fr Nil w (w.alloc (.cells #[.int .i64 node,.int .i64 seq,.int .i64 o0,.int .i64 o1,.int .i64 o2,.int .i64 o3,.string value,.bool gone] 37)):=(G _ _).alloc _
 simp only[Ver.cells]
 have HS:=Z (Sm lv l node seq hs hsz _ (VRow.fr hl hf0 (fun _ _=>id)))
 have HL:=Z hl
 clear hl hs
 go_enter Tryz.func142,Tryz.ntmps142
 go_wp2_with fail
 refine HS.out.mono ?_
 rintro e w1 ⟨b,rfl,hf1⟩
 have hb1:=hb.fr hf1 id
 have hf01:=hf0.trans hf1
 clear hb hf0 HS hf1
 go_wp2_with fail
 generalize w.heap.size=N at hb1 ⊢
 have HK:Hid (∀ w',Fr Nil w1 w'→w'.cell? ⟨N,0,none⟩=some (.int .i64 node)∧w'.cell? ⟨N,1,none⟩=some (.int .i64 seq)∧w'.cell? ⟨N,2,none⟩=some (.int .i64 o0)∧w'.cell? ⟨N,3,none⟩=some (.int .i64 o1)∧w'.cell? ⟨N,4,none⟩=some (.int .i64 o2)∧w'.cell? ⟨N,5,none⟩=some (.int .i64 o3)∧w'.cell? ⟨N,6,none⟩=some (.string value)∧w'.cell? ⟨N,7,none⟩=some (.bool gone)):=by
  intro w' f
  have hu:=(hb1.fr f id).cell
  exact⟨by rw[hu];rfl,by rw[hu];rfl,by rw[hu];rfl,by rw[hu];rfl,by rw[hu];rfl,by rw[hu];rfl,by rw[hu];rfl,by rw[hu];rfl⟩
 have hK:=HK.out w1 (G _ _)
 have HL1:Hid (∀ w',Fr Nil w1 w'→VRow w' lv l):=fun w' f=>VRow.fr HL.out (hf01.trans f) (fun _ _=>id)
 clear hb1
 go_region_held3 (fun w'=>w'.cell? ⟨N,0,none⟩=some (.int .i64 node)∧w'.cell? ⟨N,1,none⟩=some (.int .i64 seq)∧w'.cell? ⟨N,2,none⟩=some (.int .i64 o0)∧w'.cell? ⟨N,3,none⟩=some (.int .i64 o1)∧w'.cell? ⟨N,4,none⟩=some (.int .i64 o2)∧w'.cell? ⟨N,5,none⟩=some (.int .i64 o3)∧w'.cell? ⟨N,6,none⟩=some (.string value)∧w'.cell? ⟨N,7,none⟩=some (.bool gone)) (first|assumption|exact HK.out _ (by repeat' first|(with_reducible first|apply G|assumption|apply O|apply U|apply V|apply z6)|(intro _;rfl)))
  (first
  | (go_at_call 181;refine(Sl v2 l.length (low zu (l.map Ver.dot) (node,seq)) (zM l) [.int .i64 node,.int .i64 seq,.int .i64 o0,.int .i64 o1,.int .i64 o2,.int .i64 o3,.string value,.bool gone] _ _ (z7 (S:=Nil) HO2.out (by repeat' first|(with_reducible first|apply G|assumption|apply O|apply U|apply V|apply z6)|(intro _;rfl)) (fun _ _=>id)) (Xb l) HLO.out rfl (Xb [⟨node,seq,o0,o1,o2,o3,value,gone⟩]) (by first|exact hvb|exact hvb.drew|exact Blk.new _ [_,_,_,_,_,_,_,_] _|exact(Blk.new _ [_,_,_,_,_,_,_,_] _).drew) (by first|exact HNE.out|exact(fun e=>absurd (zA HO2.out e) (by simp))) (by omega)).mono ?_;rintro e w3 hI;have HI:=Z hI;clear hI;obtain⟨v3,rfl,hv3,hf3,hn3⟩:=Wc.row (v:=⟨node,seq,o0,o1,o2,o3,value,gone⟩) HI.out (show Fr Nil w1 _ from hf12.trans (by repeat' first|(with_reducible first|apply G|assumption|apply O|apply U|apply V|apply z6)|(intro _;rfl))) HN2.out;have hz3:=HK.out w3 hf3;have HV3:=Z hv3;have HN3:=Z hn3;clear hv3 hn3)
  | (go_at_call 75;refine(Vd lv l.length (zM l) _ (HL1.out _ (by repeat' first|(with_reducible first|apply G|assumption|apply O|apply U|apply V|apply z6)|(intro _;rfl))) (Xb l) (by omega)).mono ?_;rintro e w2 ⟨v2,rfl,ho2,hf2,hn2⟩;have hf12:Fr Nil w1 w2:=Fr.trans (by repeat' first|(with_reducible first|apply G|assumption|apply O|apply U|apply V|apply z6)|(intro _;rfl)) hf2;have hz2:=HK.out w2 hf12;have HO2:=Z ho2;(try (have hvb:Blk w2 w1.heap.size [.int .i64 node,.int .i64 seq,.int .i64 o0,.int .i64 o1,.int .i64 o2,.int .i64 o3,.string value,.bool gone] 37:=Blk.fr (S:=Nil) ((Blk.new w1 [.int .i64 node,.int .i64 seq,.int .i64 o0,.int .i64 o1,.int .i64 o2,.int .i64 o3,.string value,.bool gone] 37).drew) hf2 id;have HNE:Hid (v2.ownBlock≠some w1.heap.size):=(fun e=>absurd (hn2 _ e) (by simp))));have HN2:Hid (∀ k,v2.ownBlock=some k→w1.heap.size≤k):=(fun k hk=>Nat.le_trans (Fr.size (S:=Nil) (by repeat' first|(with_reducible first|apply G|assumption|apply O|apply U|apply V|apply z6)|(intro _;rfl))) (hn2 k hk));clear ho2 hn2))
 all_goals
  go_wp2
  go_ret
  exact⟨_,rfl,HV3.out,hf01.trans hf3,fun k hk=>Nat.le_trans hf01.size (HN3.out k hk)⟩
def putV(key value:ByteArray)(N:NM)(n:Nat):List Ver :=
 [{node:=N.self,seq:=n,o0:=grV (zc N.S.keys key) 0,o1:=grV (zc N.S.keys key) 1,o2:=grV (zc N.S.keys key) 2,o3:=grV (zc N.S.keys key) 3,value:=value,gone:=false}]
theorem PB(L:NL)(N:NM)(M:DM)(key value:ByteArray)(b1 b2 b3 n:Nat)(w:World)(h:NRep w L N M)(hb1:Blk w b1 [.pointer (some ⟨L.nb,0,none⟩)] 41)(hb2:Blk w b2 [.string key] 9)(hb3:Blk w b3 [.string value] 9)
  (hk:N.S.keys.length<1099511627776)(hnode:∀ u∈zc N.S.keys key,zE u.node)(hval:value.size≤1000000000) :
  Calls Tryz.prog 71 #[.int .i64 n,.pointer (some ⟨b1,0,none⟩),.pointer (some ⟨b2,0,none⟩),.pointer (some ⟨b3,0,none⟩)] w fun e w'=>∃ v,e=.returned v∧VRow w' v (putV key value N n)∧Fr Nil w w'∧(∀ k,v.ownBlock=some k→w.heap.size≤k):=by
 have HK:Hid (∀ w',Fr Nil w w'→w'.cell? ⟨b1,0,none⟩=some (.pointer (some ⟨L.nb,0,none⟩))∧w'.cell? ⟨b2,0,none⟩=some (.string key)∧w'.cell? ⟨b3,0,none⟩=some (.string value)∧w'.cell? ⟨L.nb,0,none⟩=some (.int .i64 N.self)∧w'.cell? ⟨L.nb,2,none⟩=some (.pointer (some ⟨L.sb,0,none⟩))) :=
  fun w' f=>⟨(hb1.fr f id).cell 0,(hb2.fr f id).cell 0,(hb3.fr f id).cell 0,(h.blk.fr f id).cell 0,(h.blk.fr f id).cell 2⟩
 have HV:=Z (fun w' (f:Fr Nil w w')=>YV key L.sb L.LS N.S w' (h.held.nil f) hk)
 have HG:=Z (fun w' (f:Fr Nil w w')=>UZ (getE L.LS.ents key) (zc N.S.keys key) hnode w' ((h.held.nil f).getE key))
 have HC:=Z (fun w'=>Zm value w' hval)
 obtain⟨hc1,hc2,hc3,hc4,hc5⟩:=HK.out w (G _ _)
 clear h hb1 hb2 hb3 hk hnode hval
 go_enter Tryz.func71,Tryz.ntmps71
 go_wp2_with fail
 go_region_held3 (fun w'=>w'.cell? ⟨b1,0,none⟩=some (.pointer (some ⟨L.nb,0,none⟩))∧w'.cell? ⟨b2,0,none⟩=some (.string key)∧w'.cell? ⟨b3,0,none⟩=some (.string value)∧w'.cell? ⟨L.nb,0,none⟩=some (.int .i64 N.self)∧w'.cell? ⟨L.nb,2,none⟩=some (.pointer (some ⟨L.sb,0,none⟩))) (first|assumption|go_keep|exact HK.out _ (by repeat' first|(with_reducible first|apply G|assumption|apply O|apply U|apply V|apply z6)|(intro _;rfl)))
  (first
  | (go_at_call 72;refine(HG.out _ (by repeat' first|(with_reducible first|apply G|assumption|apply O|apply U|apply V|apply z6)|(intro _;rfl))).mono ?_;rintro e wg ⟨rfl,hfg⟩;have hfg0:Fr Nil w wg:=Fr.trans (by repeat' first|(with_reducible first|apply G|assumption|apply O|apply U|apply V|apply z6)|(intro _;rfl)) hfg;have hkg:=HK.out wg hfg0;clear hfg)
  | (go_at_call 74;refine(HC.out _).mono ?_;rintro e wc ⟨rfl,hfc⟩;have hfc0:Fr Nil w wc:=Fr.trans (by repeat' first|(with_reducible first|apply G|assumption|apply O|apply U|apply V|apply z6)|(intro _;rfl)) hfc;have hkc:=HK.out wc hfc0;clear hfc)
  | (go_at_call 73;refine(HV.out _ (by repeat' first|(with_reducible first|apply G|assumption|apply O|apply U|apply V|apply z6)|(intro _;rfl))).mono ?_;rintro e wv ⟨rfl,hfv⟩;have hfv0:Fr Nil w wv:=Fr.trans (by repeat' first|(with_reducible first|apply G|assumption|apply O|apply U|apply V|apply z6)|(intro _;rfl)) hfv;have hkv:=HK.out wv hfv0;clear hfv))
 have hbn:=Blk.new wc [.int .i64 N.self,.int .i64 n,.int .i64 (grV (zc N.S.keys key) 0),.int .i64 (grV (zc N.S.keys key) 1),.int .i64 (grV (zc N.S.keys key) 2),.int .i64 (grV (zc N.S.keys key) 3),.string value,.bool false] 37
 have hrow:VRow _ (.slice (some ⟨wc.heap.size,0,none⟩) 1 1) (putV key value N n):=Zj (cap:=1) hbn (Nat.le_refl _) (by decide) rfl rfl
 have HROW:=Z hrow
 have HF:=Z (hfc0.alloc (.cells #[.int .i64 N.self,.int .i64 n,.int .i64 (grV (zc N.S.keys key) 0),.int .i64 (grV (zc N.S.keys key) 1),.int .i64 (grV (zc N.S.keys key) 2),.int .i64 (grV (zc N.S.keys key) 3),.string value,.bool false] 37))
 have HSZ:=Z hfc0.size
 clear hbn hrow
 go_wp2
 go_ret
 exact⟨_,rfl,HROW.out,HF.out,fun k hk=>by simp[Value.ownBlock] at hk;subst hk;exact HSZ.out⟩
theorem Xv(w:World)(ob:Obj):(w.alloc ob).heap.size=w.heap.size+1:=Array.size_push ..
theorem Xn.mono{N:NM}{M:DM}{H H':Nat}{key:ByteArray}{vs:NM→Nat→List Ver}(h:Xn N M H key vs)(hh:H≤H'):Xn N M H' key vs :=
 ⟨h.log.mono hh,h.keys,h.hints,h.given,fun f hf H2 h2=>h.fact f (Nat.le_trans hh hf) H2 (Nat.le_trans hh h2)⟩
def NM.put(N:NM)(M:DM)(key value:ByteArray)(f g:Nat):Nat × Int × NM × DM :=
 if zm key=false then(0,2,N,M) else if 128<value.size then(0,3,N,M) else if N.readOnly=true then(0,8,N,M) else N.replace M key (putV key value) f g
theorem XU(herr:zr)(B:Nat)(L:NL)(N:NM)(M:DM)(key value:ByteArray)(w:World)(h:NRep w L N M)(he:ZT B L M w)(hnode:∀ u∈zc N.S.keys key,zE u.node)
  (hfit:zm key=true→value.size≤128→Xn N M w.heap.size key (putV key value)) :
  Calls Tryz.prog 22 #[.pointer (some ⟨L.nb,0,none⟩),.string key,.string value] w fun e w'=>∃ f g L',e=.returned (.tuple #[.int .i64 (N.put M key value f g).1,.int .i64 (N.put M key value f g).2.1])∧w.heap.size≤f∧w.heap.size≤g∧Apart2 N M f g∧NStep L M w L' (N.put M key value f g).2.2.1 (N.put M key value f g).2.2.2 w':=by
 have HH:=Z h
 have HE:=Z he
 have HT:=Z hfit
 have HND:=Z hnode
 clear h he hfit hnode
 go_enter Tryz.func22,Tryz.ntmps22
 go_wp2_with fail
 have hA:=Blk.new w [.pointer (some ⟨L.nb,0,none⟩)] 41
 have hB:=Blk.new (w.alloc (.cells #[.pointer (some ⟨L.nb,0,none⟩)] 41)) [.string key] 9
 have hC:=Blk.new ((w.alloc (.cells #[.pointer (some ⟨L.nb,0,none⟩)] 41)).alloc (.cells #[.string key] 9)) [.string value] 9
 have f1:Fr Nil (w.alloc (.cells #[.pointer (some ⟨L.nb,0,none⟩)] 41)) (((w.alloc (.cells #[.pointer (some ⟨L.nb,0,none⟩)] 41)).alloc (.cells #[.string key] 9)).alloc (.cells #[.string value] 9)):=((G _ _).alloc _).alloc _
 have f2:Fr Nil ((w.alloc (.cells #[.pointer (some ⟨L.nb,0,none⟩)] 41)).alloc (.cells #[.string key] 9)) (((w.alloc (.cells #[.pointer (some ⟨L.nb,0,none⟩)] 41)).alloc (.cells #[.string key] 9)).alloc (.cells #[.string value] 9)):=(G _ _).alloc _
 have f0:Fr Nil w (((w.alloc (.cells #[.pointer (some ⟨L.nb,0,none⟩)] 41)).alloc (.cells #[.string key] 9)).alloc (.cells #[.string value] 9)):=((G _ _).alloc _).trans f1
 have s1:(w.alloc (.cells #[.pointer (some ⟨L.nb,0,none⟩)] 41)).heap.size=w.heap.size+1:=Xv _ _
 have s2:((w.alloc (.cells #[.pointer (some ⟨L.nb,0,none⟩)] 41)).alloc (.cells #[.string key] 9)).heap.size=w.heap.size+1+1:=by rw[Xv,Xv]
 have hA:=hA.fr f1 id
 have hB:=hB.fr f2 id
 rw[s1] at hB
 rw[s2] at hC
 clear f1 f2 s1 s2
 generalize ((w.alloc (.cells #[.pointer (some ⟨L.nb,0,none⟩)] 41)).alloc (.cells #[.string key] 9)).alloc (.cells #[.string value] 9)=wb at hA hB hC f0 ⊢
 have HF0:=Z f0
 have hk1:wb.cell? ⟨w.heap.size,0,none⟩=some (.pointer (some ⟨L.nb,0,none⟩)):=hA.cell 0
 have hk2:wb.cell? ⟨w.heap.size+1,0,none⟩=some (.string key):=hB.cell 0
 have hk3:wb.cell? ⟨w.heap.size+1+1,0,none⟩=some (.string value):=hC.cell 0
 generalize w.heap.size+1+1=b3 at hC hk3 ⊢
 generalize w.heap.size+1=b2 at hB hk2 ⊢
 have HA:=Z hA
 have HB:=Z hB
 have HC:=Z hC
 have HR:=Z (HH.out.nil f0)
 have hc7:wb.cell? ⟨L.nb,7,none⟩=some (.bool N.readOnly):=HR.out.blk.cell 7
 have HK:=Z (YY key wb)
 clear hA hB hC f0
 cases hb:zm key with
 | false =>
  rw[hb] at HK
  have hp:N.put M key value w.heap.size (w.heap.size+1)=(0,2,N,M):=by unfold NM.put;rw[if_pos hb]
  have HP:=Z hp
  clear hb hp
  refine HK.out.mono ?_
  rintro e w1 ⟨rfl,hw1⟩
  subst w1
  go_wp2
  go_ret2
  exact⟨w.heap.size,w.heap.size+1,L,by rw[HP.out];rfl,Nat.le_refl _,Nat.le_succ _,YA N M (by omega),by rw[HP.out];exact NStep.nil HH.out HF0.out⟩
 | true =>
  rw[hb] at HK
  have hks:key.size≤32:=by unfold zm at hb;simp only[decide_eq_true_eq] at hb;exact hb.2
  have HKS:=Z hks
  refine HK.out.mono ?_
  rintro e w1 ⟨rfl,hw1⟩
  subst w1
  by_cases hv:128<value.size
  ·have hp:N.put M key value w.heap.size (w.heap.size+1)=(0,3,N,M):=by unfold NM.put;rw[if_neg (by rw[hb];decide),if_pos hv]
   have HP:=Z hp
   have hv':(128:Int)<(value.size:Int):=by omega
   clear hb hp hks
   go_wp2
   go_ret2
   exact⟨w.heap.size,w.heap.size+1,L,by rw[HP.out];rfl,Nat.le_refl _,Nat.le_succ _,YA N M (by omega),by rw[HP.out];exact NStep.nil HH.out HF0.out⟩
  ·have hv':¬(128:Int)<(value.size:Int):=by omega
   cases hr:N.readOnly with
   | true =>
    rw[hr] at hc7
    have hp:N.put M key value w.heap.size (w.heap.size+1)=(0,8,N,M):=by unfold NM.put;rw[if_neg (by rw[hb];decide),if_neg hv,if_pos hr]
    have HP:=Z hp
    clear hb hp hks hr
    go_wp2
    go_ret2
    exact⟨w.heap.size,w.heap.size+1,L,by rw[HP.out];rfl,Nat.le_refl _,Nat.le_succ _,YA N M (by omega),by rw[HP.out];exact NStep.nil HH.out HF0.out⟩
   | false =>
    rw[hr] at hc7
    have hp:∀ f g,N.put M key value f g=N.replace M key (putV key value) f g:=by intro f g;unfold NM.put;rw[if_neg (by rw[hb];decide),if_neg hv,if_neg (by rw[hr];decide)]
    have HP:=Z hp
    have HFT:=Z (HT.out hb (by omega))
    have HVS:Hid (value.size≤1000000000):=by show _≤_;omega
    clear hb hp hks hr
    have HGV:Hid (Gives L N M wb 71 #[.pointer (some ⟨w.heap.size,0,none⟩),.pointer (some ⟨b2,0,none⟩),.pointer (some ⟨b3,0,none⟩)] (putV key value)):=by
     intro f1 hf1 L1 w1 s
     have hkeys:=(OI N M f1).1
     have hap:∀ {k t},Ty wb k t→t≠123→t≠197→t≠161→t≠239→t≠75→¬DTy t→¬NFoot L M k:=fun hk q1 q2 q3 q4 q5 q6=>HR.out.apart hk q1 q2 q3 q4 q5 q6
     have hA1:Blk w1 w.heap.size [.pointer (some ⟨L1.nb,0,none⟩)] 41:=by
      rw[s.same.nb]
      exact HA.out.fr s.fr (hap HA.out.ty (by decide) (by decide) (by decide) (by decide) (by decide) (by unfold DTy;decide))
     have hB1:=HB.out.fr s.fr (hap HB.out.ty (by decide) (by decide) (by decide) (by decide) (by decide) (by unfold DTy;decide))
     have hC1:=HC.out.fr s.fr (hap HC.out.ty (by decide) (by decide) (by decide) (by decide) (by decide) (by unfold DTy;decide))
     refine(PB L1 (N.next M f1).2.2.1 (N.next M f1).2.2.2 key value w.heap.size b2 b3 (N.next M f1).2.1 w1 s.rep hA1 hB1 hC1 (by rw[hkeys];exact HFT.out.keys) (by rw[hkeys];exact HND.out) HVS.out).mono ?_
     rintro e w2 ⟨v,rfl,h1,h2,h3⟩
     exact⟨v,rfl,h1,h2,fun k hk=>Nat.le_trans s.fr.size (h3 k hk)⟩
    have HFB:=Z (HFT.out.mono HF0.out.size)
    go_wp2_with fail
    refine(WT herr B L N M key (putV key value) 71 _ wb HR.out (HE.out.nil HF0.out) HGV.out Li (Nat.le_trans HKS.out (by decide)) HFB.out.log HFB.out.keys HFB.out.hints HFB.out.given HFB.out.fact).mono ?_
    rintro e w2 ⟨f,g,L2,rfl,hf,hg,hap,hst⟩
    have HAP:=Z hap
    have HF:=Z (Nat.le_trans HF0.out.size hf)
    have HG:=Z (Nat.le_trans HF0.out.size hg)
    have HS:=Z ((NStep.nil HH.out HF0.out).trans hst)
    clear hf hg hap hst
    go_wp2
    go_ret2
    exact⟨f,g,L2,by rw[HP.out];rfl,HF.out,HG.out,HAP.out,by rw[HP.out];exact HS.out⟩
def zC(n s y:Int):Bool:=zt n&&decide (1000≤s∧s≤1000000∧0≤y∧y≤100)
theorem Wn(n s y:Int)(w:World):Calls Tryz.prog 93 #[.agg #[.int .i64 n,.int .i64 s,.int .i64 y]] w fun e w'=>e=.returned (.bool (zC n s y))∧Fr Nil w w':=by
 have hA:=Blk.new w [.int .i64 n,.int .i64 s,.int .i64 y] 102
 have f0:Fr Nil w (w.alloc (.cells #[.int .i64 n,.int .i64 s,.int .i64 y] 102)):=(G _ _).alloc _
 have HA:=Z hA
 have HF:=Z f0
 clear hA f0
 go_enter Tryz.func93,Tryz.ntmps93
 go_wp2_with fail
 generalize hwb:w.alloc (.cells #[.int .i64 n,.int .i64 s,.int .i64 y] 102)=wb
 rw[hwb] at HA HF
 clear hwb
 have hc:=HA.out.cell
 generalize w.heap.size=b at HA hc ⊢
 have HN:=Z (XG n wb)
 cases h1:zt n with
 | false =>
  rw[h1] at HN
  have hp:zC n s y=false:=by unfold zC;rw[h1];rfl
  have HP:=Z hp
  clear h1 hp
  go_wp2_with (refine HN.out.mono ?_;rintro e w1 ⟨rfl,hw1⟩;subst w1)
  go_ret
  exact⟨by rw[HP.out];rfl,HF.out⟩
 | true =>
  rw[h1] at HN
  have hp:zC n s y=decide (1000≤s∧s≤1000000∧0≤y∧y≤100):=by unfold zC;rw[h1];rfl
  have HP:=Z hp
  clear h1 hp
  by_cases h2:1000≤s <;> by_cases h3:s≤1000000 <;> by_cases h4:0≤y <;> by_cases h5:y≤100
  all_goals first
   | (exfalso;omega)
   | (
   go_wp2_with (refine HN.out.mono ?_;rintro e w1 ⟨rfl,hw1⟩;subst w1)
   go_ret
   exact⟨by rw[HP.out];simp[h2,h3,h4,h5],HF.out⟩)
def zj(o:Int):Bool:=decide (0≤o∧o≤1000000000)
def Ver.overs(v:Ver):List Int:=[v.o0,v.o1,v.o2,v.o3]
def foreign(self:Nat)(v:Ver):Bool :=
 v.overs.all zj&&(!(v.gone&&decide (v.value.size≠0))&&((zt v.node&&decide (v.node≠self))&&decide (1≤v.seq∧v.seq≤1000000000)))
theorem PC(a b c d:Int):(∀ w,(Instr.index 35 (.agg #[.int .i64 a,.int .i64 b,.int .i64 c,.int .i64 d]) (.int .i64 0)).run Tryz.prog w=.ok (.int .i64 a) w)∧(∀ w,(Instr.index 35 (.agg #[.int .i64 a,.int .i64 b,.int .i64 c,.int .i64 d]) (.int .i64 1)).run Tryz.prog w=.ok (.int .i64 b) w)∧(∀ w,(Instr.index 35 (.agg #[.int .i64 a,.int .i64 b,.int .i64 c,.int .i64 d]) (.int .i64 2)).run Tryz.prog w=.ok (.int .i64 c) w)∧(∀ w,(Instr.index 35 (.agg #[.int .i64 a,.int .i64 b,.int .i64 c,.int .i64 d]) (.int .i64 3)).run Tryz.prog w=.ok (.int .i64 d) w) :=
 ⟨fun _=>by kernel_rfl,fun _=>by kernel_rfl,fun _=>by kernel_rfl,fun _=>by kernel_rfl⟩
theorem Us(L:NL)(N:NM)(M:DM)(v:Ver)(w:World)(h:NRep w L N M) :
  Calls Tryz.prog 139 #[.pointer (some ⟨L.nb,0,none⟩),.agg v.cells.toArray] w fun e w'=>e=.returned (.bool (foreign N.self v))∧Fr Nil w w':=by
 have hA:=Blk.new w v.cells 37
 have f0:Fr Nil w (w.alloc (.cells v.cells.toArray 37)):=(G _ _).alloc _
 have hr:=h.nil f0
 have HA:=Z hA
 have HF:=Z f0
 have HR:=Z hr
 clear hA f0 h hr
 obtain⟨node,seq,o0,o1,o2,o3,value,gone⟩:=v
 obtain⟨i0,i1,i2,i3⟩:=PC o0 o1 o2 o3
 simp only[Ver.cells] at HA HF HR ⊢
 go_enter Tryz.func139,Tryz.ntmps139
 go_wp2_with fail
 generalize w.alloc (.cells #[.int .i64 node,.int .i64 seq,.int .i64 o0,.int .i64 o1,.int .i64 o2,.int .i64 o3,.string value,.bool gone] 37)=wb at HA HF HR ⊢
 have hc:=HA.out.cell
 generalize w.heap.size=b at HA hc ⊢
 go_loopw [9] (fun t w'=>∃ i:Nat,i≤4∧t=.int .i64 i∧(([o0,o1,o2,o3].take i).all zj)=true∧w'=wb) (fun t _=>4-(intOf t).toNat)
 case atStart=>exact⟨0,by omega,rfl,rfl,rfl⟩
 case round =>
  obtain⟨i,hi,rfl,hall,hw⟩:=hrel
  subst hw
  have hcase:i=0∨i=1∨i=2∨i=3∨i=4:=by omega
  rcases hcase with rfl|rfl|rfl|rfl|rfl
  ·cases ho:zj o0 with
   | false =>
    have hp:foreign N.self ⟨node,seq,o0,o1,o2,o3,value,gone⟩=false:=by unfold foreign;simp[Ver.overs,ho]
    have HP:=Z hp
    have hlt:o0<0∨(¬o0<0∧1000000000<o0):=by unfold zj at ho;simp only[decide_eq_false_iff_not] at ho;omega
    clear hp ho hall
    rcases hlt with hlt|⟨hlt,hgt⟩
    ·go_wp2
     go_ret
     exact⟨by rw[HP.out];rfl,HF.out⟩
    ·go_wp2
     go_ret
     exact⟨by rw[HP.out];rfl,HF.out⟩
   | true =>
    have hall2:(([o0,o1,o2,o3].take 1).all zj)=true:=by simp[ho]
    have HALL:=Z hall2
    have hlt:¬o0<0:=by unfold zj at ho;simp only[decide_eq_true_eq] at ho;omega
    have hgt:¬1000000000<o0:=by unfold zj at ho;simp only[decide_eq_true_eq] at ho;omega
    clear ho hall hall2
    go_wp2
    exact⟨⟨1,by omega,rfl,HALL.out,trivial⟩,by simp[intOf]⟩
  ·cases ho:zj o1 with
   | false =>
    have hp:foreign N.self ⟨node,seq,o0,o1,o2,o3,value,gone⟩=false:=by unfold foreign;simp[Ver.overs,ho]
    have HP:=Z hp
    have hlt:o1<0∨(¬o1<0∧1000000000<o1):=by unfold zj at ho;simp only[decide_eq_false_iff_not] at ho;omega
    clear hp ho hall
    rcases hlt with hlt|⟨hlt,hgt⟩
    ·go_wp2
     go_ret
     exact⟨by rw[HP.out];rfl,HF.out⟩
    ·go_wp2
     go_ret
     exact⟨by rw[HP.out];rfl,HF.out⟩
   | true =>
    have hall2:(([o0,o1,o2,o3].take 2).all zj)=true:=by
     simp only[List.take_succ_cons,List.take_zero,List.all_cons,List.all_nil,Bool.and_true,Bool.and_eq_true] at hall ⊢
     simp[hall,ho]
    have HALL:=Z hall2
    have hlt:¬o1<0:=by unfold zj at ho;simp only[decide_eq_true_eq] at ho;omega
    have hgt:¬1000000000<o1:=by unfold zj at ho;simp only[decide_eq_true_eq] at ho;omega
    clear ho hall hall2
    go_wp2
    exact⟨⟨2,by omega,rfl,HALL.out,trivial⟩,by simp[intOf]⟩
  ·cases ho:zj o2 with
   | false =>
    have hp:foreign N.self ⟨node,seq,o0,o1,o2,o3,value,gone⟩=false:=by unfold foreign;simp[Ver.overs,ho]
    have HP:=Z hp
    have hlt:o2<0∨(¬o2<0∧1000000000<o2):=by unfold zj at ho;simp only[decide_eq_false_iff_not] at ho;omega
    clear hp ho hall
    rcases hlt with hlt|⟨hlt,hgt⟩
    ·go_wp2
     go_ret
     exact⟨by rw[HP.out];rfl,HF.out⟩
    ·go_wp2
     go_ret
     exact⟨by rw[HP.out];rfl,HF.out⟩
   | true =>
    have hall2:(([o0,o1,o2,o3].take 3).all zj)=true:=by
     simp only[List.take_succ_cons,List.take_zero,List.all_cons,List.all_nil,Bool.and_true,Bool.and_eq_true] at hall ⊢
     simp[hall,ho]
    have HALL:=Z hall2
    have hlt:¬o2<0:=by unfold zj at ho;simp only[decide_eq_true_eq] at ho;omega
    have hgt:¬1000000000<o2:=by unfold zj at ho;simp only[decide_eq_true_eq] at ho;omega
    clear ho hall hall2
    go_wp2
    exact⟨⟨3,by omega,rfl,HALL.out,trivial⟩,by simp[intOf]⟩
  ·cases ho:zj o3 with
   | false =>
    have hp:foreign N.self ⟨node,seq,o0,o1,o2,o3,value,gone⟩=false:=by unfold foreign;simp[Ver.overs,ho]
    have HP:=Z hp
    have hlt:o3<0∨(¬o3<0∧1000000000<o3):=by unfold zj at ho;simp only[decide_eq_false_iff_not] at ho;omega
    clear hp ho hall
    rcases hlt with hlt|⟨hlt,hgt⟩
    ·go_wp2
     go_ret
     exact⟨by rw[HP.out];rfl,HF.out⟩
    ·go_wp2
     go_ret
     exact⟨by rw[HP.out];rfl,HF.out⟩
   | true =>
    have hall2:(([o0,o1,o2,o3].take 4).all zj)=true:=by
     simp only[List.take_succ_cons,List.take_zero,List.all_cons,List.all_nil,Bool.and_true,Bool.and_eq_true] at hall ⊢
     simp[hall,ho]
    have HALL:=Z hall2
    have hlt:¬o3<0:=by unfold zj at ho;simp only[decide_eq_true_eq] at ho;omega
    have hgt:¬1000000000<o3:=by unfold zj at ho;simp only[decide_eq_true_eq] at ho;omega
    clear ho hall hall2
    go_wp2
    exact⟨⟨4,by omega,rfl,HALL.out,trivial⟩,by simp[intOf]⟩
  ·have HALL:Hid (([o0,o1,o2,o3].all zj)=true):=hall
   have HO:=Z (WS L N M node wr HR.out)
   have hfo:foreign N.self ⟨node,seq,o0,o1,o2,o3,value,gone⟩=(!(gone&&decide (value.size≠0))&&((zt node&&decide (node≠N.self))&&decide (1≤seq∧seq≤1000000000))):=by
    unfold foreign;simp only[Ver.overs,HALL.out,Bool.true_and]
   have HFO:=Z hfo
   have HSZ:=Z (Y4 value)
   clear hall hfo
   cases gone with
   | true =>
    by_cases h0:value.toList=[]
    ·have hp:foreign N.self ⟨node,seq,o0,o1,o2,o3,value,true⟩=((zt node&&decide (node≠N.self))&&decide (1≤seq∧seq≤1000000000)):=by
      rw[HFO.out]
      simp[show value.size=0 by rw[HSZ.out,h0];rfl]
     cases ho:(zt node&&decide (node≠N.self)) with
     | false =>
      rw[ho] at HO hp
      have HP:=Z hp
      clear ho hp
      go_wp2_with (refine HO.out.mono ?_;rintro e w1 ⟨rfl,hw1⟩;subst w1)
      go_ret
      exact⟨by rw[HP.out];rfl,HF.out⟩
     | true =>
      rw[ho] at HO hp
      have HP:=Z hp
      clear ho hp
      by_cases h1:1≤seq
      ·by_cases h2:seq≤1000000000
       ·go_wp2_with (refine HO.out.mono ?_;rintro e w1 ⟨rfl,hw1⟩;subst w1)
        go_ret
        exact⟨by rw[HP.out,decide_eq_true (show 1≤seq∧seq≤1000000000 by omega)];rfl,HF.out⟩
       ·go_wp2_with (refine HO.out.mono ?_;rintro e w1 ⟨rfl,hw1⟩;subst w1)
        go_ret
        exact⟨by rw[HP.out,decide_eq_false (show ¬(1≤seq∧seq≤1000000000) by omega)];first|rfl|(rw[← decide_eq_false (show ¬seq≤1000000000 by omega)];rfl),HF.out⟩
      ·go_wp2_with (refine HO.out.mono ?_;rintro e w1 ⟨rfl,hw1⟩;subst w1)
       go_ret
       exact⟨by rw[HP.out,decide_eq_false (show ¬(1≤seq∧seq≤1000000000) by omega)];first|rfl|(rw[← decide_eq_false (show ¬seq≤1000000000 by omega)];rfl),HF.out⟩
    ·have hp:foreign N.self ⟨node,seq,o0,o1,o2,o3,value,true⟩=false:=by
      rw[HFO.out]
      have:value.size≠0:=by rw[HSZ.out];exact fun h=>h0 (List.eq_nil_of_length_eq_zero h)
      simp[this]
     have HP:=Z hp
     have h3:value.toList.isEmpty=false:=by simpa using h0
     clear hp
     go_wp2
     go_ret
     exact⟨by rw[HP.out];rfl,HF.out⟩
   | false =>
    have hp:foreign N.self ⟨node,seq,o0,o1,o2,o3,value,false⟩=((zt node&&decide (node≠N.self))&&decide (1≤seq∧seq≤1000000000)):=by
     rw[HFO.out]
     simp
    cases ho:(zt node&&decide (node≠N.self)) with
    | false =>
     rw[ho] at HO hp
     have HP:=Z hp
     clear ho hp
     go_wp2_with (refine HO.out.mono ?_;rintro e w1 ⟨rfl,hw1⟩;subst w1)
     go_ret
     exact⟨by rw[HP.out];rfl,HF.out⟩
    | true =>
     rw[ho] at HO hp
     have HP:=Z hp
     clear ho hp
     by_cases h1:1≤seq
     ·by_cases h2:seq≤1000000000
      ·go_wp2_with (refine HO.out.mono ?_;rintro e w1 ⟨rfl,hw1⟩;subst w1)
       go_ret
       exact⟨by rw[HP.out,decide_eq_true (show 1≤seq∧seq≤1000000000 by omega)];rfl,HF.out⟩
      ·go_wp2_with (refine HO.out.mono ?_;rintro e w1 ⟨rfl,hw1⟩;subst w1)
       go_ret
       exact⟨by rw[HP.out,decide_eq_false (show ¬(1≤seq∧seq≤1000000000) by omega)];first|rfl|(rw[← decide_eq_false (show ¬seq≤1000000000 by omega)];rfl),HF.out⟩
     ·go_wp2_with (refine HO.out.mono ?_;rintro e w1 ⟨rfl,hw1⟩;subst w1)
      go_ret
      exact⟨by rw[HP.out,decide_eq_false (show ¬(1≤seq∧seq≤1000000000) by omega)];first|rfl|(rw[← decide_eq_false (show ¬seq≤1000000000 by omega)];rfl),HF.out⟩
def ZB(l:List Ver)(v:Ver):List Ver:=if v.gone=true then zn l v else Yq (zn l v) v
def NM.accept(N:NM)(M:DM)(key:ByteArray)(v:Ver)(f:Nat):Int × NM × DM :=
 if zm key=false then(2,N,M) else
 if 128<v.value.size then(3,N,M) else
 if foreign N.self v=false then(5,N,M) else
 if N.readOnly=true then(8,N,M) else
 if (zc N.S.keys key).any v.knows=true then(0,N,M) else
 if v.gone=false∧4≤(zn (zc N.S.keys key) v).length then(6,N,M) else
 if v.gone=true∧(zn (zc N.S.keys key) v).length=(zc N.S.keys key).length then(0,N,M) else
 N.asked M (.inr (.inl (key,ZB (zc N.S.keys key) v))) f
theorem XI{self:Nat}{v:Ver}(h:foreign self v=true):zE v.node:=by
 unfold foreign at h
 simp only[Bool.and_eq_true] at h
 have:=h.2.2.1.1
 unfold zt at this
 simpa [zE] using this
theorem XV(l:List Ver)(v:Ver):(zn l v).length≤l.length:=List.length_filter_le ..
theorem TJ{l:List Ver}(h:ZU l)(v:Ver):ZU (zn l v):=by
 unfold ZU Asc zn at *
 exact h.sublist (List.filter_sublist.map _)
theorem Ut(B:Nat)(L:NL)(N:NM)(M:DM)(key:ByteArray)(l:List Ver)(w0 w:World)(h:NRep w0 L N M)(he:ZT B L M w0)(f0:Fr Nil w0 w)(hv:Value)(hrow:VRow w hv l)(hown:∀ k,hv.ownBlock=some k→w0.heap.size≤k)
  (hfit:Fit N M w0.heap.size (.inr (.inl (key,l)))) :
  ∀ what w2,Fr Nil w w2→Calls Tryz.prog 80 #[.pointer (some ⟨L.nb,0,none⟩),.string what,.iface 193 (.agg #[.string key,hv])] w2 fun e w' =>
   ∃ f v L',e=.returned v∧w0.heap.size≤f∧ERep w' v (N.change M (.inr (.inl (key,l))) f).1∧NStep L M w0 L' (N.change M (.inr (.inl (key,l))) f).2.1 (N.change M (.inr (.inl (key,l))) f).2.2 w':=by
 intro what w2 f2
 have f02:=f0.trans f2
 have hft:=hfit.mono f02.size
 refine(Wb B L M w0 L N M what (.inr (.inl (key,l))) _ w2 (NStep.nil h f02) (he.nil f02).env ⟨hv,rfl,VRow.fr hrow f2 (fun _ _=>id)⟩ hft.ok (fun k hb=>?_) hft.log hft.keys hft.hints hft.writes).mono ?_
 ·obtain⟨v,hv',e⟩:=hb
  simp at hv'
  rcases hv' with rfl|rfl
  ·exact absurd e (by simp[Value.ownBlock])
  ·exact .inr (hown k e)
 ·rintro e w' ⟨f,v,L',rfl,hf,hE,hst⟩
  exact⟨f,v,L',rfl,Nat.le_trans f02.size hf,hE,hst⟩
theorem YM(herr:zr)(B:Nat)(L:NL)(N:NM)(M:DM)(key:ByteArray)(v:Ver)(w:World)(h:NRep w L N M)(he:ZT B L M w)(hnode:∀ u∈zc N.S.keys key,zE u.node)(hasc:ZU (zc N.S.keys key))
  (hk:N.S.keys.length<1099511627776)(hlen:(zc N.S.keys key).length<1000000)(hfit:zm key=true→v.value.size≤128→foreign N.self v=true→(v.gone=false→(zn (zc N.S.keys key) v).length<4)→Fit N M w.heap.size (.inr (.inl (key,ZB (zc N.S.keys key) v)))) :
  Calls Tryz.prog 91 #[.pointer (some ⟨L.nb,0,none⟩),.string key,.agg v.cells.toArray] w fun e w'=>∃ f L',e=.returned (.int .i64 (N.accept M key v f).1)∧w.heap.size≤f∧NStep L M w L' (N.accept M key v f).2.1 (N.accept M key v f).2.2 w':=by
 have hA:=Blk.new w v.cells 37
 have f0:Fr Nil w (w.alloc (.cells v.cells.toArray 37)):=(G _ _).alloc _
 have HH:=Z h
 have HE:=Z he
 have HT:=Z hfit
 have HND:=Z hnode
 have HAS:=Z hasc
 have HLEN:=Z hlen
 clear h he hfit hnode hasc hlen
 have HFN:Hid (foreign N.self v=true→zE v.node):=fun h=>XI h
 have HLFT:=Z (XV (zc N.S.keys key) v)
 have HWA:=Z (TJ HAS.out v)
 generalize hb:w.heap.size=b at hA
 have HBE:=Z hb
 generalize hwb:w.alloc (.cells v.cells.toArray 37)=wb at hA f0
 have HWB:=Z hwb
 have HA:=Z hA
 have HF0:=Z f0
 have HR:=Z (HH.out.nil f0)
 have hc7:wb.cell? ⟨L.nb,7,none⟩=some (.bool N.readOnly):=HR.out.blk.cell 7
 have hc2:wb.cell? ⟨L.nb,2,none⟩=some (.pointer (some ⟨L.sb,0,none⟩)):=HR.out.blk.cell 2
 have HI:=Z (Us L N M v wb HR.out)
 have HV:=Z (fun w1 (f:Fr Nil wb w1)=>YV key L.sb L.LS N.S w1 (HR.out.held.nil f) hk)
 have HVR:=Z (fun w1 (f:Fr Nil wb w1)=>(HR.out.held.nil f).getE key)
 generalize getE L.LS.ents key=gv at HV HVR
 have HL:=Z (fun w1 (f:Fr Nil wb w1)=>Pw gv (zc N.S.keys key) v HND.out HLEN.out w1 (HVR.out w1 f))
 have HKN:=Z (fun(hn:zE v.node) w1 (f:Fr Nil wb w1)=>Qs gv (zc N.S.keys key) v hn w1 (HVR.out w1 f))
 have HGF:Hid (∃ a c,gv=.slice a (zc N.S.keys key).length c):=z8 (HVR.out wb (G _ _))
 have HK:=Z (YY key wb)
 clear hA f0 hb hwb
 obtain⟨node,seq,o0,o1,o2,o3,value,gone⟩:=v
 simp only[Ver.cells] at HA HWB HI HL HKN ⊢
 have HSET:Hid (∀ w1,Blk w1 b [.int .i64 node,.int .i64 seq,.int .i64 o0,.int .i64 o1,.int .i64 o2,.int .i64 o3,.string value,.bool gone] 37→Blk (w1.setCell ⟨b,6,none⟩ (.string value)) b [.int .i64 node,.int .i64 seq,.int .i64 o0,.int .i64 o1,.int .i64 o2,.int .i64 o3,.string value,.bool gone] 37):=fun w1 h=>h.set 6 (.string value)
 go_enter Tryz.func91,Tryz.ntmps91
 go_wp2_with fail
 rw[HWB.out,HBE.out]
 cases hb0:zm key with
 | false =>
  rw[hb0] at HK
  have hp:N.accept M key ⟨node,seq,o0,o1,o2,o3,value,gone⟩ b=(2,N,M):=by unfold NM.accept;rw[if_pos hb0]
  have HP:=Z hp
  clear hb0 hp
  refine HK.out.mono ?_
  rintro e w1 ⟨rfl,hw1⟩
  subst w1
  go_wp2
  go_ret
  exact⟨b,L,by rw[HP.out];rfl,Nat.le_refl _,by rw[HP.out];exact NStep.nil HH.out HF0.out⟩
 | true =>
 rw[hb0] at HK
 have HB0:=Z hb0
 clear hb0
 refine HK.out.mono ?_
 rintro e w1 ⟨rfl,hw1⟩
 subst w1
 have hcv:wb.cell? ⟨b,6,none⟩=some (.string value):=HA.out.cell 6
 have hcb:=HA.out.cell
 by_cases hv:128<value.size
 ·have hp:N.accept M key ⟨node,seq,o0,o1,o2,o3,value,gone⟩ b=(3,N,M):=by unfold NM.accept;rw[if_neg (by rw[HB0.out];decide),if_pos hv]
  have HP:=Z hp
  have hv':(128:Int)<(value.size:Int):=by omega
  clear hp
  go_wp2
  go_ret
  exact⟨b,L,by rw[HP.out];rfl,Nat.le_refl _,by rw[HP.out];exact NStep.nil HH.out HF0.out⟩
 have hv':¬(128:Int)<(value.size:Int):=by omega
 cases hfo:foreign N.self ⟨node,seq,o0,o1,o2,o3,value,gone⟩ with
 | false =>
  rw[hfo] at HI
  have hp:N.accept M key ⟨node,seq,o0,o1,o2,o3,value,gone⟩ b=(5,N,M):=by unfold NM.accept;rw[if_neg (by rw[HB0.out];decide),if_neg hv,if_pos hfo]
  have HP:=Z hp
  clear hp hfo
  go_wp2_with (refine HI.out.mono ?_;rintro e w1 ⟨rfl,hf1⟩;have HF1:=Z hf1;clear hf1)
  go_ret
  exact⟨b,L,by rw[HP.out];rfl,Nat.le_refl _,by rw[HP.out];exact NStep.nil HH.out (HF0.out.trans HF1.out)⟩
 | true =>
 rw[hfo] at HI
 have HFO:=Z hfo
 have HVV:=Z hv
 clear hfo hv
 go_wp2_with fail
 refine HI.out.mono ?_
 rintro e w1 ⟨rfl,hf1⟩
 have hcb1:=(HA.out.fr hf1 id).cell
 have hc71:w1.cell? ⟨L.nb,7,none⟩=some (.bool N.readOnly):=(HR.out.nil hf1).blk.cell 7
 have hc21:w1.cell? ⟨L.nb,2,none⟩=some (.pointer (some ⟨L.sb,0,none⟩)):=(HR.out.nil hf1).blk.cell 2
 have HF1:=Z hf1
 clear hf1 hcb hcv hc7 hc2
 cases hr:N.readOnly with
 | true =>
  rw[hr] at hc71
  have hp:N.accept M key ⟨node,seq,o0,o1,o2,o3,value,gone⟩ b=(8,N,M):=by unfold NM.accept;rw[if_neg (by rw[HB0.out];decide),if_neg HVV.out,if_neg (by rw[HFO.out];decide),if_pos hr]
  have HP:=Z hp
  clear hr hp
  go_wp2
  go_ret
  exact⟨b,L,by rw[HP.out];rfl,Nat.le_refl _,by rw[HP.out];exact NStep.nil HH.out (HF0.out.trans HF1.out)⟩
 | false =>
 rw[hr] at hc71
 have HRO:=Z hr
 clear hr
 go_wp2_with fail
 refine(HV.out w1 HF1.out).mono ?_
 rintro e w2 ⟨rfl,hf2⟩
 have HF2:Hid (Fr Nil wb w2):=HF1.out.trans hf2
 have hcb2:=(HA.out.fr HF2.out id).cell
 clear hf2 hcb1 hc71 hc21
 go_wp2_with fail
 refine(HL.out w2 HF2.out).mono ?_
 rintro e w3 ⟨hv,rfl,hrow,hf3,hown⟩
 have HF3:Hid (Fr Nil wb w3):=HF2.out.trans hf3
 have hcb3:=(HA.out.fr HF3.out id).cell
 have HROW:=Z hrow
 have HOWN:Hid (∀ k,hv.ownBlock=some k→w.heap.size≤k):=fun k hk=>Nat.le_trans (Nat.le_trans HF0.out.size HF2.out.size) (hown k hk)
 have HNB:Hid (∀ k,hv.ownBlock=some k→k≠b):=fun k hk e=>by have:=hown k hk;have:=HF2.out.size;have:=HA.out.lt;omega
 obtain⟨la,lc,hlv⟩:=z8 hrow
 clear hf3 hcb2 hrow hown
 generalize hL:(zn (zc N.S.keys key) ⟨node,seq,o0,o1,o2,o3,value,gone⟩)=l at HROW HLFT HWA hlv
 have hll:l.length<1000000:=by have:=HLFT.out;have:=HLEN.out;omega
 have hgl:(zc N.S.keys key).length<1000000:=HLEN.out
 have HLL:=Z hL
 subst hlv
 clear hL
 go_wp2_with fail
 refine(HKN.out (HFN.out HFO.out) w3 HF3.out).mono ?_
 rintro e w4 ⟨rfl,hf4⟩
 have HF4:Hid (Fr Nil wb w4):=HF3.out.trans hf4
 have hcb4:=(HA.out.fr HF4.out id).cell
 have HROW4:=Z (VRow.fr HROW.out hf4 (fun _ _=>id))
 clear hf4 hcb3 HROW
 have hpre:∀ f,N.accept M key ⟨node,seq,o0,o1,o2,o3,value,gone⟩ f=if (zc N.S.keys key).any (Ver.knows ⟨node,seq,o0,o1,o2,o3,value,gone⟩)=true then(0,N,M) else
   if gone=false∧4≤l.length then(6,N,M) else if gone=true∧l.length=(zc N.S.keys key).length then(0,N,M) else
   N.asked M (.inr (.inl (key,ZB (zc N.S.keys key) ⟨node,seq,o0,o1,o2,o3,value,gone⟩))) f:=by
  intro f;unfold NM.accept;rw[if_neg (by rw[HB0.out];decide),if_neg HVV.out,if_neg (by rw[HFO.out];decide),if_neg (by rw[HRO.out];decide),HLL.out]
 have HPRE:=Z hpre
 clear hpre
 cases hkn:(zc N.S.keys key).any (Ver.knows ⟨node,seq,o0,o1,o2,o3,value,gone⟩) with
 | true =>
  have hp:N.accept M key ⟨node,seq,o0,o1,o2,o3,value,gone⟩ b=(0,N,M):=by rw[HPRE.out,if_pos hkn]
  have HP:=Z hp
  clear hp hkn
  go_wp2
  go_ret
  exact⟨b,L,by rw[HP.out];rfl,Nat.le_refl _,by rw[HP.out];exact NStep.nil HH.out (HF0.out.trans HF4.out)⟩
 | false =>
 have HKNF:=Z hkn
 clear hkn
 obtain⟨ga,gc,hgv⟩:=HGF.out
 subst hgv
 cases gone with
 | false =>
  by_cases hm:4≤l.length
  ·have hp:N.accept M key ⟨node,seq,o0,o1,o2,o3,value,false⟩ b=(6,N,M):=by rw[HPRE.out,if_neg (by rw[HKNF.out];decide),if_pos ⟨rfl,hm⟩]
   have HP:=Z hp
   have hm':(4:Int)≤(l.length:Int):=by omega
   clear hp
   go_wp2
   go_ret
   exact⟨b,L,by rw[HP.out];rfl,Nat.le_refl _,by rw[HP.out];exact NStep.nil HH.out (HF0.out.trans HF4.out)⟩
  ·have hm':¬(4:Int)≤(l.length:Int):=by omega
   have HFIT:Hid (Fit N M w.heap.size (.inr (.inl (key,ZB (zc N.S.keys key) ⟨node,seq,o0,o1,o2,o3,value,false⟩)))):=HT.out HB0.out (by have:=HVV.out;omega) HFO.out (fun hg=>by first|(cases hg;done)|(rw[HLL.out];omega))
   have HP:Hid (∀ f,N.accept M key ⟨node,seq,o0,o1,o2,o3,value,false⟩ f=N.asked M (.inr (.inl (key,ZB (zc N.S.keys key) ⟨node,seq,o0,o1,o2,o3,value,false⟩))) f):=by
    intro f;rw[HPRE.out,if_neg (by rw[HKNF.out];decide),if_neg (by exact fun x=>hm x.2),if_neg (by exact fun x=>absurd x.1 (by decide))]
   have hks:key.size≤1000000000:=by have:=HB0.out;unfold zm at this;simp only[decide_eq_true_eq] at this;omega
   have HCL:=Z (fun wx=>Zm key wx hks)
   have HM4:=Z hm
   clear hks hm hm'
   have hvs:value.size≤1000000000:=by have:=HVV.out;omega
   have HCV:=Z (Zm value w4 hvs)
   have hm4:¬(4:Int)≤(l.length:Int):=by have:=HM4.out;omega
   clear hvs
   go_wp2_with fail
   refine HCV.out.mono ?_
   rintro e w5 ⟨rfl,hf5⟩
   have hB5:=HA.out.fr (HF4.out.trans hf5) id
   have HBS:=Z (HSET.out w5 hB5)
   have hcs:=HBS.out.cell
   have hcf:=hB5.frozen
   have hcl:=hB5.cell
   have HROWS:Hid (VRow (w5.setCell ⟨b,6,none⟩ (.string value)) (.slice la l.length lc) l):=VRow.fr (VRow.fr HROW4.out hf5 (fun _ _=>id)) (S:=fun k=>k=b) (Fr.set (S:=fun k=>k=b) (p:=⟨b,6,none⟩) (G _ _) (fun _=>rfl) _) (fun k hk e=>HNB.out k hk e)
   have HF5:Hid (Fr Nil w (w5.setCell ⟨b,6,none⟩ (.string value))):=(HF0.out.trans (HF4.out.trans hf5)).set (p:=⟨b,6,none⟩) (fun h=>absurd h (by simp only[HBE.out];omega)) _
   clear hf5 hB5 hcb4
   go_wp2_with fail
   have HWC:=Z (PA (.slice la l.length lc) l ⟨node,seq,o0,o1,o2,o3,value,false⟩ HWA.out hll _ HROWS.out)
   simp only[Ver.cells] at HWC
   refine HWC.out.mono ?_
   rintro e w6 ⟨v6,rfl,hrow6,hf6,hown6⟩
   have HF6:=Z (HF5.out.trans hf6)
   have HROW6:Hid (VRow w6 v6 (ZB (zc N.S.keys key) ⟨node,seq,o0,o1,o2,o3,value,false⟩)):=by unfold ZB;rw[if_neg (by simp),HLL.out];exact hrow6
   have HOWN6:Hid (∀ k,v6.ownBlock=some k→w.heap.size≤k):=fun k hk=>Nat.le_trans HF5.out.size (hown6 k hk)
   obtain⟨a6,c6,rfl⟩:=z8 hrow6
   clear hrow6 hf6 hown6
   go_wp2_with fail
   refine(HCL.out _).mono ?_
   rintro e w7 ⟨rfl,hf7⟩
   have HEND:=Z (Ut B L N M key _ w w7 HH.out HE.out (HF6.out.trans hf7) _ (VRow.fr HROW6.out hf7 (fun _ _=>id)) HOWN6.out HFIT.out)
   clear hf7
   go_wp2_with fail
   refine(HEND.out _ _ (by exact(by repeat' first|(with_reducible first|apply G|assumption|apply O|apply U|apply V|apply z6)|(intro _;rfl)))).mono ?_
   rintro e w8 ⟨f,v1,L1,rfl,hf,hE,hst⟩
   have HS:=Z hst
   have HE1:=Z hE
   have HF:=Z hf
   clear hE hst hf
   go_wp2_with fail
   rw[← HS.out.same.nb]
   refine(ZI herr B L1 _ _ _ _ w8 HS.out.rep (HE.out.step HS.out) HE1.out).mono ?_
   rintro e w9 ⟨L2,rfl,hst⟩
   have HS2:=Z (HS.out.trans hst)
   clear hst
   go_wp2
   go_ret
   refine⟨f,L2,?_,by rw[← HBE.out];exact HF.out,?_⟩
   ·rw[HP.out];rfl
   ·rw[HP.out];exact HS2.out
 | true =>
  by_cases hm:l.length=(zc N.S.keys key).length
  ·have hp:N.accept M key ⟨node,seq,o0,o1,o2,o3,value,true⟩ b=(0,N,M):=by rw[HPRE.out,if_neg (by rw[HKNF.out];decide),if_neg (fun x=>absurd x.1 (by decide)),if_pos ⟨rfl,hm⟩]
   have HP:=Z hp
   have hm':((l.length:Int)==((zc N.S.keys key).length:Int))=true:=by simp[hm]
   clear hp hm
   go_wp2
   go_ret
   exact⟨b,L,by rw[HP.out];rfl,Nat.le_refl _,by rw[HP.out];exact NStep.nil HH.out (HF0.out.trans HF4.out)⟩
  ·have hm':((l.length:Int)==((zc N.S.keys key).length:Int))=false:=by simp;omega
   have HFIT:Hid (Fit N M w.heap.size (.inr (.inl (key,ZB (zc N.S.keys key) ⟨node,seq,o0,o1,o2,o3,value,true⟩)))):=HT.out HB0.out (by have:=HVV.out;omega) HFO.out (fun hg=>by first|(cases hg;done)|(rw[HLL.out];omega))
   have HP:Hid (∀ f,N.accept M key ⟨node,seq,o0,o1,o2,o3,value,true⟩ f=N.asked M (.inr (.inl (key,ZB (zc N.S.keys key) ⟨node,seq,o0,o1,o2,o3,value,true⟩))) f):=by
    intro f;rw[HPRE.out,if_neg (by rw[HKNF.out];decide),if_neg (by exact fun x=>absurd x.1 (by decide)),if_neg (by exact fun x=>hm x.2)]
   have hks:key.size≤1000000000:=by have:=HB0.out;unfold zm at this;simp only[decide_eq_true_eq] at this;omega
   have HCL:=Z (fun wx=>Zm key wx hks)
   clear hks hm
   have HF6:Hid (Fr Nil w w4):=HF0.out.trans HF4.out
   have HROW6:Hid (VRow w4 (.slice la l.length lc) (ZB (zc N.S.keys key) ⟨node,seq,o0,o1,o2,o3,value,true⟩)):=by unfold ZB;rw[if_pos rfl,HLL.out];exact HROW4.out
   have HOWN6:=HOWN
   go_wp2_with fail
   refine(HCL.out _).mono ?_
   rintro e w7 ⟨rfl,hf7⟩
   have HEND:=Z (Ut B L N M key _ w w7 HH.out HE.out (HF6.out.trans hf7) _ (VRow.fr HROW6.out hf7 (fun _ _=>id)) HOWN6.out HFIT.out)
   clear hf7
   go_wp2_with fail
   refine(HEND.out _ _ (by exact(by repeat' first|(with_reducible first|apply G|assumption|apply O|apply U|apply V|apply z6)|(intro _;rfl)))).mono ?_
   rintro e w8 ⟨f,v1,L1,rfl,hf,hE,hst⟩
   have HS:=Z hst
   have HE1:=Z hE
   have HF:=Z hf
   clear hE hst hf
   go_wp2_with fail
   rw[← HS.out.same.nb]
   refine(ZI herr B L1 _ _ _ _ w8 HS.out.rep (HE.out.step HS.out) HE1.out).mono ?_
   rintro e w9 ⟨L2,rfl,hst⟩
   have HS2:=Z (HS.out.trans hst)
   clear hst
   go_wp2
   go_ret
   refine⟨f,L2,?_,by rw[← HBE.out];exact HF.out,?_⟩
   ·rw[HP.out];rfl
   ·rw[HP.out];exact HS2.out
def Vh(l:List UInt8):Nat:=l.foldl (fun a c=>a*10+(c.toNat-48)) 0
theorem Qu(l:List UInt8)(c:UInt8):Vh (l++[c])=Vh l*10+(c.toNat-48):=by simp[Vh]
theorem WU(u:Nat):Vh (Lib.decDigits u)=u:=by
 induction u using Nat.strongRecOn with
 | _ u ih =>
  rw[Lib.decDigits]
  by_cases h:u<10
  ·rw[dif_pos h]
   have:(UInt8.ofNat (48+u)).toNat=48+u:=by simp;omega
   simp only[Vh,List.foldl_cons,List.foldl_nil,this]
   omega
  ·rw[dif_neg h,Qu,ih (u / 10) (by omega)]
   have:(UInt8.ofNat (48+u%10)).toNat=48+u%10:=by simp;omega
   rw[this]
   omega
theorem NX{a b:Nat}(h:YJ a=YJ b):a=b:=by
 have h1:Lib.itoa (a:Int)=Lib.itoa (b:Int):=by
  have:=congrArg (fun x:ByteArray=>x.data.toList) h
  simpa [YJ] using this
 have e:∀ n:Nat,Lib.itoa (n:Int)=Lib.decDigits n:=by
  intro n
  unfold Lib.itoa
  rw[if_neg (by omega)]
  simp
 rw[e,e] at h1
 rw[← WU a,← WU b,h1]
theorem XW{k:ByteArray}{a b:Nat}(h:ze k a=ze k b):a=b:=by
 refine NX ?_
 have h1:(ze k a).data.toList=(ze k b).data.toList:=by rw[h]
 unfold ze at h1
 simp only[ByteArray.data_append,Array.toList_append,List.append_cancel_left_eq] at h1
 exact ByteArray.ext (Array.ext' h1)
theorem PD(k:ByteArray)(n:Nat):(ze k n).size=k.size+(YJ n).size:=by
 unfold ze;simp
theorem Rj(n:Nat):ze zk n≠ByteArray.empty:=by
 intro h
 have:(ze zk n).size=0:=by rw[h];rfl
 rw[PD] at this
 have h3:zk.size=3:=rfl
 omega
structure Calm(M:DM):Prop where
 dead:M.dead=false
 cut:M.cut=0
 fail:M.fail=0
 calls:0≤M.calls
theorem Calm.begins{M:DM}(h:Calm M)(hb:M.calls<4611686018427387904):M.begins=(true,0,{M with calls:=M.calls+1}):=by
 have hw:wrap64 (M.calls+1)=M.calls+1:=by have:=h.calls;unfold wrap64;omega
 have h1:(wrap64 (M.calls+1)==M.cut)=false:=by rw[hw,h.cut];have:=h.calls;simp;omega
 have h2:(wrap64 (M.calls+1)==M.fail)=false:=by rw[hw,h.fail];have:=h.calls;simp;omega
 rw[M.begins_ok h.dead h1 h2,hw]
def DM.tot(M:DM):Nat:=(M.dir.map fun e=>(M.file e.2).bytes.length).sum
theorem Rk{n:Int}(h0:0≤n)(h1:n<9223372036854775808):wrap64 n=n:=by unfold wrap64;omega
theorem DM.used_eq(M:DM)(h:M.tot<4611686018427387904):M.used=M.tot:=by
 have key:∀ (d:Dir) (a:Nat),a+(d.map fun e=>(M.file e.2).bytes.length).sum<4611686018427387904 →
   d.foldl (fun n e=>wrap64 (n+(M.file e.2).bytes.length)) (a:Int)=((a+(d.map fun e=>(M.file e.2).bytes.length).sum:Nat):Int):=by
  intro d
  induction d with
  | nil=>intro a _;simp
  | cons e d ih =>
   intro a ha
   simp only[List.map_cons,List.sum_cons] at ha
   rw[List.foldl_cons,Rk (by omega) (by omega)]
   have:=ih (a+(M.file e.2).bytes.length) (by omega)
   rw[show((a:Int)+((M.file e.2).bytes.length:Int))=((a+(M.file e.2).bytes.length:Nat):Int) from by push_cast;rfl,this]
   simp only[List.map_cons,List.sum_cons]
   congr 1
   omega
 have:=key M.dir 0 (by unfold DM.tot at h;omega)
 unfold DM.used DM.usedTo
 rw[List.take_length]
 rw[show(0:Int)=((0:Nat):Int) from rfl,this]
 unfold DM.tot
 simp
structure zz(T:Nat)(J:JM)(M:DM)(t:Nat):Prop where
 calm:Calm M
 calls:M.calls≤4*t
 room:2000*(T:Int)≤M.room∧M.room≤1152921504606846976∧T≤100000000
 part:M.part=0
 last:J.last≤t
 size:J.size≤2000*t
 names:∀ e∈M.dir,∃ k,k≤J.last∧e.1=ze zk k
 cur:J.last≠0→∃ f,M.dir.look J.name=some f∧(M.file f).bytes.length=J.size
 tot:M.tot≤2000*t
 chs:M.chs.length≤t
 dir:M.dir.length≤t
 ids:∀ g∈M.ids,(M.file g).bytes.length≤2000*t
 inD:∀ e∈M.dir,e.2∈M.ids
 once:(M.dir.map (·.2)).Nodup
 idn:M.ids.length≤t
 dirs:∀ d∈M.safe::M.chs,d.length≤t
theorem TK{d:Dir}{name:ByteArray}(h:∀ e∈d,e.1≠name):d.look name=none:=by
 have hf:d.find? (fun e=>e.1==name)=none:=by
  rw[List.find?_eq_none]
  intro e he x
  exact h e he (zR.1 x)
 unfold Dir.look
 rw[hf]
 rfl
theorem zz.calls1{T:Nat}{J:JM}{M:DM}{t:Nat}(h:zz T J M t)(c:Int)(hc:M.calls≤c)(hc2:c≤4*(t+1)):zz T J {M with calls:=c} (t+1) where
 calm:=⟨h.calm.dead,h.calm.cut,h.calm.fail,Int.le_trans h.calm.calls hc⟩
 calls:=by have:=hc2;simp only at this ⊢;push_cast;omega
 room:=h.room
 part:=h.part
 last:=Nat.le_succ_of_le h.last
 size:=by have:=h.size;omega
 names:=h.names
 cur:=h.cur
 tot:=by have:=h.tot;have e:DM.tot {M with calls:=c}=M.tot:=rfl;rw[e];omega
 chs:=Nat.le_succ_of_le h.chs
 dir:=Nat.le_succ_of_le h.dir
 ids:=fun g hg=>by have:=h.ids g hg;simp only;omega
 inD:=h.inD
 once:=h.once
 idn:=Nat.le_succ_of_le h.idn
 dirs:=fun d hd=>Nat.le_succ_of_le (h.dirs d hd)
theorem zz.lt{T:Nat}{J:JM}{M:DM}{t:Nat}(h:zz T J M t)(ht:t≤T):M.calls<4611686018427387904:=by have:=h.calls;have:=h.room;omega
theorem zz.syncLast{T:Nat}{J:JM}{M:DM}{t:Nat}(h:zz T J M t)(ht:t≤T):∃ M',J.syncLast M=(none,M')∧M'.calls≤M.calls+1∧M.calls≤M'.calls∧M'.refused=M.refused∧M'.fulls=M.fulls∧zz T J M' (t+1)∧M'.dir=M.dir∧M'.ids=M.ids∧M'.chs=M.chs∧(∀ c:Int,M'.calls≤c→c≤4*(t+1)→zz T J {M' with calls:=c} (t+1)):=by
 unfold JM.syncLast
 by_cases hl:J.last=0
 ·rw[if_pos hl]
  refine⟨M,rfl,by omega,by omega,rfl,rfl,?_,rfl,rfl,rfl,fun c hc hc2=>h.calls1 c hc hc2⟩
  have:=h.calls1 M.calls (by omega) (by have:=h.calls;omega)
  exact this
 ·rw[if_neg hl]
  obtain⟨f,hf,hs⟩:=h.cur hl
  have hm:M.sync J.name=(0,{M with calls:=M.calls+1,file:=fun g=>if g=f then {M.file f with safe:=(M.file f).bytes.length} else M.file g}):=by
   unfold DM.sync
   rw[hf]
   simp only[h.calm.begins (h.lt ht),if_true]
   rfl
  rw[hm]
  have hb:∀ g,((if g=f then {M.file f with safe:=(M.file f).bytes.length} else M.file g:FM)).bytes=(M.file g).bytes:=by
   intro g;split
   ·rename_i e;subst e;rfl
   ·rfl
  have hI:∀ c:Int,M.calls+1≤c→c≤4*(t+1)→zz T J {M with calls:=c,file:=fun g=>if g=f then {M.file f with safe:=(M.file f).bytes.length} else M.file g} (t+1):=by
   intro c hc hc2
   exact {
    calm:=⟨h.calm.dead,h.calm.cut,h.calm.fail,by have:=h.calm.calls;simp only;omega⟩
    calls:=by simp only;push_cast;omega
    room:=h.room
    part:=h.part
    last:=Nat.le_succ_of_le h.last
    size:=by have:=h.size;omega
    names:=h.names
    cur:=fun _=>⟨f,hf,by simp only[if_true];exact hs⟩
    tot:=by
     have e:DM.tot {M with calls:=c,file:=fun g=>if g=f then {M.file f with safe:=(M.file f).bytes.length} else M.file g}=M.tot:=by unfold DM.tot;simp only[hb]
     rw[e];have:=h.tot;omega
    chs:=Nat.le_succ_of_le h.chs
    dir:=Nat.le_succ_of_le h.dir
    ids:=fun g hg=>by have:=h.ids g hg;simp only[hb];omega
    inD:=h.inD
    once:=h.once
    idn:=Nat.le_succ_of_le h.idn
    dirs:=fun d hd=>Nat.le_succ_of_le (h.dirs d hd)}
  refine⟨_,rfl,by simp only;omega,by simp only;omega,rfl,rfl,hI _ (by omega) (by have:=h.calls;omega),rfl,rfl,rfl,fun c hc hc2=>hI c hc hc2⟩
theorem TL{f n:Nat}(size:Nat→Nat):∀ (d:Dir),(d.map (·.2)).Nodup→(d.map fun e=>if e.2=f then size e.2+n else size e.2).sum≤(d.map fun e=>size e.2).sum+n
 | [],_=>by simp
 | e::d,h=>by
  simp only[List.map_cons,List.nodup_cons] at h
  simp only[List.map_cons,List.sum_cons]
  by_cases he:e.2=f
  ·rw[if_pos he]
   have:(d.map fun e=>if e.2=f then size e.2+n else size e.2)=d.map fun e=>size e.2:=by
    apply List.map_congr_left
    intro x hx
    rw[if_neg]
    intro hxf
    exact h.1 (by rw[he,← hxf];exact List.mem_map_of_mem hx)
   rw[this]
   omega
  ·rw[if_neg he]
   have:=TL (f:=f) (n:=n) size d h.2
   omega
theorem zz.makeRoom{T:Nat}{J:JM}{M:DM}{t:Nat}(h:zz T J M t)(ht:t≤T)(n f:Nat)(hf:f∉M.ids) :
  ∃ J' M',J.makeRoom M n f=(none,J',M')∧zz T J' M' (t+1)∧J'.last≠0∧J'.limit=J.limit∧M.calls≤M'.calls∧M'.refused=M.refused∧M'.fulls=M.fulls∧(∀ g∈M'.ids,g=f∨g∈M.ids):=by
 have htt:t≤100000000:=by have:=h.room;omega
 unfold JM.makeRoom
 cases hb:J.fits n with
 | true =>
  have hl:J.last≠0:=by
   unfold JM.fits at hb
   simp only[Bool.and_eq_true,decide_eq_true_eq] at hb
   exact hb.1
  have:=h.calls1 M.calls (by omega) (by have:=h.calls;omega)
  exact⟨J,M,rfl,this,hl,rfl,by omega,rfl,rfl,fun g hg=>.inr hg⟩
 | false =>
  simp only[Bool.false_eq_true,if_false]
  obtain⟨M1,e1,hc1,hc2,hr1,hfl1,hI,hd,hi,hch,hIc⟩:=h.syncLast ht
  have hlt:M1.calls<4611686018427387904:=by have:=h.calls;omega
  have hn:M1.dir.look (ze zk (J.last+1))=none:=by
   refine TK fun e he x=>?_
   rw[hd] at he
   obtain⟨k,hk,ek⟩:=h.names e he
   rw[ek] at x
   have:=XW x
   omega
  have hcr:M1.create (ze zk (J.last+1)) f=(0,({M1 with calls:=M1.calls+1}.addFile f).turned (M1.dir++[(ze zk (J.last+1),f)])):=by
   unfold DM.create
   rw[if_neg (by rw[hn];rintro(e|e);exact Rj _ e;cases e)]
   rw[hI.calm.begins hlt]
   rfl
  unfold JM.begin
  rw[e1]
  simp only[hcr,if_true]
  refine⟨_,_,rfl,?_,by simp,rfl,?_,hr1,hfl1,?_⟩
  ·have hnf:∀ e∈M.dir,e.2≠f:=fun e he x=>hf (x▸h.inD e he)
   have hfm:∀ e∈M1.dir,(if e.2=f then(⟨[],0⟩:FM) else M1.file e.2)=M1.file e.2:=fun e he=>if_neg (hnf e (hd▸he))
   exact {
    calm:=⟨hI.calm.dead,hI.calm.cut,hI.calm.fail,by have:=hI.calm.calls;simp only[DM.turned,DM.addFile];omega⟩
    calls:=by have:=h.calls;simp only[DM.turned,DM.addFile];push_cast;omega
    room:=hI.room
    part:=hI.part
    last:=by have:=h.last;simp only;omega
    size:=by simp only;omega
    names:=by
     intro e he
     simp only[DM.turned,DM.addFile,List.mem_append,List.mem_singleton] at he
     rcases he with he|rfl
     ·rw[hd] at he
      obtain⟨k,hk,ek⟩:=h.names e he
      exact⟨k,by simp only;omega,ek⟩
     ·exact⟨J.last+1,Nat.le_refl _,rfl⟩
    cur:=fun _=>by
     refine⟨f,?_,by simp[DM.turned,DM.addFile]⟩
     simp only[DM.turned,DM.addFile]
     unfold Dir.look at hn ⊢
     rw[Option.map_eq_none_iff] at hn
     rw[List.find?_append,hn]
     simp[zR]
    tot:=by
     have:=hI.tot
     unfold DM.tot at this ⊢
     simp only[DM.turned,DM.addFile,List.map_append,List.map_cons,List.map_nil,List.sum_append,List.sum_cons,List.sum_nil,if_true]
     rw[List.map_congr_left (g:=fun e=>(M1.file e.2).bytes.length) (fun e he=>by rw[hfm e he])]
     simp only[List.length_nil]
     omega
    chs:=by have:=h.chs;simp only[DM.turned,DM.addFile,List.length_append,List.length_singleton,hch];omega
    dir:=by have:=h.dir;simp only[DM.turned,DM.addFile,List.length_append,List.length_singleton,hd];omega
    ids:=by
     intro g hg
     simp only[DM.turned,DM.addFile]
     split
     ·simp
     ·rename_i hne
      simp only[DM.turned,DM.addFile,List.mem_cons] at hg
      rcases hg with hg|hg
      ·exact absurd hg hne
      ·exact hI.ids g hg
    inD:=by
     intro e he
     simp only[DM.turned,DM.addFile,List.mem_append,List.mem_cons,List.not_mem_nil,or_false] at he ⊢
     rcases he with he|rfl
     ·exact .inr (hI.inD e he)
     ·exact .inl rfl
    once:=by
     simp only[DM.turned,DM.addFile,List.map_append,List.map_cons,List.map_nil]
     rw[List.nodup_append]
     refine⟨hI.once,by simp,?_⟩
     intro a ha b hb
     simp only[List.mem_singleton] at hb
     obtain⟨e,he,rfl⟩:=List.mem_map.1 ha
     subst hb
     exact hnf e (hd▸he)
    idn:=by
     have:=h.idn
     simp only[DM.turned,DM.addFile,List.length_cons,hi]
     omega
    dirs:=by
     intro d hdm
     simp only[DM.turned,DM.addFile,List.mem_cons,List.mem_append,List.not_mem_nil,or_false] at hdm
     have hI2:=hI.dirs d
     rcases hdm with e|e|e
     ·exact hI2 (by rw[e];exact List.mem_cons_self ..)
     ·exact hI2 (List.mem_cons_of_mem _ e)
     ·rw[e,List.length_append,hd]
      have:=h.dir
      simp only[List.length_singleton]
      omega}
  ·simp only[DM.turned,DM.addFile];omega
  ·intro g hg
   simp only[DM.turned,DM.addFile,List.mem_cons] at hg
   rcases hg with hg|hg
   ·exact .inl hg
   ·exact .inr (hi▸hg)
theorem zz.append{T:Nat}{J:JM}{M:DM}{t:Nat}(h:zz T J M t)(ht:t+2≤T)(rec:ByteArray)(hrec:rec.size≤2000)(f:Nat)(hf:f∉M.ids) :
  ∃ J' M',J.append M rec f=(true,none,J',M')∧zz T J' M' (t+2)∧J'.limit=J.limit∧M.calls≤M'.calls∧M'.refused=M.refused∧M'.fulls=M.fulls∧(∀ g∈M'.ids,g=f∨g∈M.ids):=by
 obtain⟨J1,M1,e1,hI,hl,hlim,hcl,hr,hfl,hids⟩:=h.makeRoom (by omega) rec.size f hf
 have hroom:=hI.room
 have htot:=hI.tot
 unfold JM.append
 rw[e1]
 simp only
 obtain⟨g,hg,hsz⟩:=hI.cur hl
 have hbeg:=hI.calm.begins (by have:=hI.calls;omega)
 have hused:M1.used=M1.tot:=M1.used_eq (by have:=hI.tot;omega)
 have hadd:M1.add J1.name rec=(0,({M1 with calls:=M1.calls+1}:DM).setFile g {M1.file g with bytes:=(M1.file g).bytes++rec.data.toList}):=by
  unfold DM.add
  rw[hg]
  have ht1:M1.tries rec.size=some (rec.size:Int):=by unfold DM.tries;rw[hbeg];rfl
  simp only[ht1,hbeg]
  have hleft:DM.left {M1 with calls:=M1.calls+1}=M1.room-(M1.tot:Int):=by
   have e:DM.used {M1 with calls:=M1.calls+1}=M1.used:=rfl
   unfold DM.left
   rw[e,hused]
   have:=hI.tot
   have hw:IntKind.i64.wrap (M1.room-(M1.tot:Int))=M1.room-(M1.tot:Int):=by
    rw[IntKind.wrap_i64];omega
   rw[hw,if_neg (by omega)]
  rw[hleft,if_neg (by have:=hI.tot;omega)]
  have hx:(rec.extract 0 (rec.size:Int).toNat).data.toList=rec.data.toList:=by
   have:(rec.size:Int).toNat=rec.size:=by simp
   rw[this,ByteArray.extract_zero_size]
  rw[hx]
 unfold JM.appendTo
 rw[hadd]
 simp only[if_true]
 have hcal:=h.calls
 refine⟨_,_,rfl,?_,hlim,by simp only[DM.setFile];omega,hr,hfl,hids⟩
 have hlen:∀ k,((if k=g then {M1.file g with bytes:=(M1.file g).bytes++rec.data.toList} else M1.file k:FM)).bytes.length=if k=g then(M1.file k).bytes.length+rec.size else(M1.file k).bytes.length:=by
  intro k
  by_cases e:k=g
  ·subst e;simp only[if_true,List.length_append,Array.length_toList];rfl
  ·simp only[if_neg e]
 exact {
  calm:=⟨hI.calm.dead,hI.calm.cut,hI.calm.fail,by have:=hI.calm.calls;simp only[DM.setFile];omega⟩
  calls:=by have:=hI.calls;simp only[DM.setFile];push_cast at this ⊢;omega
  room:=hI.room
  part:=hI.part
  last:=by have:=hI.last;simp only;omega
  size:=by have:=hI.size;simp only;omega
  names:=hI.names
  cur:=fun _=>⟨g,hg,by have:=hlen g;simp only[if_true] at this;simp only[DM.setFile,if_true];omega⟩
  tot:=by
   have h0:=hI.tot
   have h1:=TL (f:=g) (n:=rec.size) (fun k=>(M1.file k).bytes.length) M1.dir hI.once
   unfold DM.tot at h0 ⊢
   simp only[DM.setFile,hlen]
   omega
  chs:=by have:=hI.chs;simp only[DM.setFile];omega
  dir:=by have:=hI.dir;simp only[DM.setFile];omega
  ids:=by
   intro k hk
   have:=hI.ids k hk
   simp only[DM.setFile,hlen]
   split <;> omega
  inD:=hI.inD
  once:=hI.once
  idn:=Nat.le_succ_of_le hI.idn
  dirs:=fun d hd=>Nat.le_succ_of_le (hI.dirs d hd)}
theorem zz.syncAll{T:Nat}{J:JM}{M:DM}{t:Nat}(h:zz T J M t)(ht:t≤T) :
  ∃ J' M',J.syncAll M=(none,J',M')∧zz T J' M' (t+1)∧J'.limit=J.limit∧M.calls≤M'.calls∧M'.refused=M.refused∧M'.fulls=M.fulls∧M'.ids=M.ids:=by
 obtain⟨M1,e1,hc1,hc2,hr1,hfl1,hI,hd,hi,hch,hIc⟩:=h.syncLast ht
 have htt:t≤100000000:=by have:=h.room;omega
 unfold JM.syncAll
 rw[e1]
 by_cases hc:J.last≠0∧J.dirSafe=false
 ·rw[if_pos ⟨rfl,hc⟩]
  have hlt:M1.calls<4611686018427387904:=by have:=h.calls;omega
  have hsd:M1.syncDir=(0,{M1 with calls:=M1.calls+1,safe:=M1.dir,chs:=[]}):=by
   unfold DM.syncDir
   rw[hI.calm.begins hlt]
   rfl
  unfold JM.syncDir
  simp only[hsd]
  refine⟨_,_,rfl,?_,rfl,by simp only;omega,hr1,hfl1,hi⟩
  have hcal:=h.calls
  exact {
   calm:=⟨hI.calm.dead,hI.calm.cut,hI.calm.fail,by have:=hI.calm.calls;simp only;omega⟩
   calls:=by simp only;push_cast;omega
   room:=hI.room
   part:=hI.part
   last:=hI.last
   size:=hI.size
   names:=hI.names
   cur:=hI.cur
   tot:=hI.tot
   chs:=Nat.zero_le _
   dir:=hI.dir
   ids:=hI.ids
   inD:=hI.inD
   once:=hI.once
   idn:=hI.idn
   dirs:=fun d hd=>by
    rcases List.mem_cons.1 hd with e|e
    ·rw[e];exact hI.dir
    ·cases e}
 ·rw[if_neg (fun x=>hc x.2)]
  exact⟨_,_,rfl,hI,rfl,hc2,hr1,hfl1,hi⟩
theorem zz.ok{T:Nat}{J:JM}{M:DM}{t:Nat}(h:zz T J M t)(ht:t≤T)(H n:Nat)(hn:n≤2000)(hH:∀ g∈M.ids,g<H):Yi J M H n where
 bytes:=by omega
 size:=by have:=h.size;have:=h.room;omega
 last:=by have:=h.last;have:=h.room;omega
 chs:=by obtain⟨M1,e1,_,_,_,_,_,_,_,hch,_⟩:=h.syncLast ht;rw[e1];simp only[hch];have:=h.chs;have:=h.room;omega
 dir:=by obtain⟨M1,e1,_,_,_,_,_,hd,_⟩:=h.syncLast ht;rw[e1];simp only[hd];have:=h.dir;have:=h.room;omega
 room:=fun f hf=>by
  obtain⟨J1,M1,e1,hI,_⟩:=h.makeRoom ht n f (fun hm=>by have:=hH f hm;omega)
  rw[e1]
  exact⟨by rw[hI.part];decide,by have:=hI.size;have:=h.room;simp only;omega,fun g hg=>by have:=hI.ids g hg;have:=h.room;simp only;omega⟩
end Go.Proofs.YtkhnggkkiefcdaaGreatDoor
