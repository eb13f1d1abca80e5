/- larder: joined texts -/
import Derived.Test.YtkhnggkkiefcdaaGreatDoorRAAK
namespace Go.Proofs.YtkhnggkkiefcdaaGreatDoor
open Go.RowKit
set_option maxRecDepth 100000
set_option maxHeartbeats 8000000
def LM.accept(m:LM)(key:ByteArray)(v:Ver):LM:={m with keys:=ZQ m.keys key (XK (zL m.keys key) v)}
def zB(out:List Ver)(v x:Ver)(done fb o:Bool):List Ver × Bool:=((if fb=true∧done=false then out++[v] else out)++(if o=true then [] else [x]),done||fb)
def zY(old:List Ver)(v:Ver):Nat:=if old.any v.knows=true then 0 else if v.gone=false∧4≤(zn old v).length then 1 else if v.gone=true∧(zn old v).length=old.length then 0 else 2
theorem Xp(K:Nat→Prop)(p:Nat)(m:LM)(key:ByteArray)(v:Ver)(w:World)(h:MRep K w p m)(hlen:m.keys.length<100000000)(hnode:∀ u∈zL m.keys key,zE u.node)(hv:zE v.node)(hold:(zL m.keys key).length<100000) :
  Calls Tryz.prog 112 #[.pointer (some ⟨p,0,none⟩),.string key,.agg v.cells.toArray] w fun e w' =>
   (zY (zL m.keys key) v=0∧e=.returned (.tuple #[.pointer (some ⟨p,0,none⟩),.int .i64 0])∧Fr Nil w w') ∨
   (zY (zL m.keys key) v=1∧e=.returned (.tuple #[.pointer none,.int .i64 6])∧Fr Nil w w') ∨
   (zY (zL m.keys key) v=2∧∃ nb,e=.returned (.tuple #[.pointer (some ⟨nb,0,none⟩),.int .i64 0])∧MRep (KGr K w w') w' nb (m.accept key v)∧Fr Nil w w'∧w.heap.size≤nb):=by
 obtain⟨kv,hvv,ents,ha,hb⟩:=h
 have hbx:=Blk.new w v.cells 37
 have f0:Fr Nil w (w.alloc (.cells v.cells.toArray 37)):=(G _ _).alloc _
 have HA:=Z ha
 have HB:=Z hb
 have HND:=Z hnode
 have HV:=Z hv
 have HOV:Hid (∀ (a u:Ver) (W:World),zE u.node→Calls Tryz.prog 159 #[.agg a.cells.toArray,.agg u.cells.toArray] W fun e w'=>e=.returned (.bool (a.over u))∧Fr Nil W w'):=fun a u W hu=>U1 a u hu W
 have HWAY:Hid (zY (zL m.keys key) v=if (zL m.keys key).any v.knows=true then 0 else if v.gone=false∧4≤(zn (zL m.keys key) v).length then 1 else if v.gone=true∧(zn (zL m.keys key) v).length=(zL m.keys key).length then 0 else 2):=rfl
 have HACC:Hid (m.accept key v={m with keys:=ZQ m.keys key (XK (zL m.keys key) v)}):=rfl
 have HLEFT:Hid (∀ (l:List Ver) i (hi:i<l.length),zn (l.take (i+1)) v=zn (l.take i) v++if v.over l[i]=true then [] else [l[i]]):=by
  intro l i hi
  unfold zn
  rw[List.take_succ_eq_append_getElem hi,List.filter_append]
  congr 1
  cases hv:v.over l[i] <;> simp[hv]
 have HKN:Hid (∀ u:Ver,v.knows u=((u.node==v.node&&u.seq==v.seq)||u.over v)):=fun u=>rfl
 clear ha hb hnode hv
 generalize hwb:w.alloc (.cells v.cells.toArray 37)=wb at hbx f0
 generalize hnb:w.heap.size=b at hbx
 have HWB:=Z hwb
 have HNB:=Z hnb
 clear hwb hnb
 have HVC:=Z hbx
 have HF0:=Z f0
 have hlt0:=hbx.lt
 clear hbx f0
 obtain⟨node,seq,o0,o1,o2,o3,value,gone⟩:=v
 simp only[Ver.cells] at HVC HWB ⊢
 go_enter Tryz.func112,Tryz.ntmps112
 go_wp2_with fail
 rw[HWB.out,HNB.out]
 refine(Y9 p kv hvv ents m key wb (HA.out.nil HF0.out)).mono ?_
 rintro e w1 ⟨ov,rfl,hrow,hown,hw1⟩
 subst hw1
 have hn:=zK hrow
 unfold maxLen at hn
 obtain⟨va,vc,rfl⟩:=z8 hrow
 have HROW:=Z hrow
 generalize hversm:zL m.keys key=old at hn hold HROW HND HWAY HACC ⊢
 have HVM:=Z hversm
 clear hversm
 clear hrow hown
 go_wp2_with fail
 go_loopw [9,10] (fun t9 t10 w'=>∃ i:Nat,i≤old.length∧t10=.int .i64 i∧t9=.int .i64 (zn (old.take i) ⟨node,seq,o0,o1,o2,o3,value,gone⟩).length∧(∀ j (hj:j<old.length),j<i→(Ver.knows ⟨node,seq,o0,o1,o2,o3,value,gone⟩) old[j]=false)∧Fr Nil w1 w') (fun _ t10 _=>old.length-(intOf t10).toNat)
 case atStart=>exact⟨0,Nat.zero_le _,rfl,rfl,fun j _ hj=>absurd hj (Nat.not_lt_zero _),G _ _⟩
 case round =>
  obtain⟨i,hi,rfl,rfl,hj,hf⟩:=hrel
  have hcb:=(HVC.out.fr hf id).cell
  by_cases hlt:i<old.length
  ·obtain⟨g,rfl⟩:∃ g,va=some ⟨g,0,none⟩:=by
    obtain⟨g,cap,h,_⟩:=zi HROW.out (by omega)
    simp at h;exact⟨g,h.1⟩
   have HCX:Hid (∀ wx,Fr Nil w1 wx→∀ j,j<8→wx.cell? ⟨g,i*8+j,none⟩=old[i].cells[j]?):=fun wx f j hj8=>VRow.cells (z7 HROW.out f (fun _ _=>id)) i hlt j hj8
   have HCB:Hid (∀ wx,Fr Nil w1 wx→∀ j,wx.cell? ⟨b,j,none⟩=(Ver.cells ⟨node,seq,o0,o1,o2,o3,value,gone⟩)[j]?):=fun wx f j=>(HVC.out.fr f id).cell j
   have hx:=HND.out old[i] (List.getElem_mem hlt)
   have HST:=Z (HLEFT.out old i hlt)
   have HJX:Hid ((Ver.knows ⟨node,seq,o0,o1,o2,o3,value,gone⟩) old[i]=false→∀ j (hj:j<old.length),j<i+1→(Ver.knows ⟨node,seq,o0,o1,o2,o3,value,gone⟩) old[j]=false):=by
    intro hk j hjl hji
    by_cases e:j=i
    ·subst e;exact hk
    ·exact hj j hjl (by omega)
   have HANY:Hid ((Ver.knows ⟨node,seq,o0,o1,o2,o3,value,gone⟩) old[i]=true→old.any (Ver.knows ⟨node,seq,o0,o1,o2,o3,value,gone⟩)=true):=fun hk=>List.any_eq_true.2 ⟨old[i],List.getElem_mem hlt,hk⟩
   have HKX:=Z (HKN.out old[i])
   have HX:=Z hx
   have HFW:=Z hf
   have hll:(zn (old.take i) ⟨node,seq,o0,o1,o2,o3,value,gone⟩).length<100000:=by have:=XV (old.take i) ⟨node,seq,o0,o1,o2,o3,value,gone⟩;have:=List.length_take_le' i old;omega
   have HO1:=Z (fun W=>HOV.out old[i] ⟨node,seq,o0,o1,o2,o3,value,gone⟩ W HV.out)
   have HO2:=Z (fun W=>HOV.out ⟨node,seq,o0,o1,o2,o3,value,gone⟩ old[i] W hx)
   clear hj hx hf
   generalize old[i]=x at HCX HST HJX HANY HKX HX HO1 HO2
   obtain⟨xn,xs,x0,x1,x2,x3,xv,xg⟩:=x
   simp only[Ver.cells] at HCX HCB HO1 HO2 HKX hcb
   have g0:=HCX.out wr HFW.out 0 (by omega)
   have g1:=HCX.out wr HFW.out 1 (by omega)
   have g2:=HCX.out wr HFW.out 2 (by omega)
   have g3:=HCX.out wr HFW.out 3 (by omega)
   have g4:=HCX.out wr HFW.out 4 (by omega)
   have g5:=HCX.out wr HFW.out 5 (by omega)
   have g6:=HCX.out wr HFW.out 6 (by omega)
   have g7:=HCX.out wr HFW.out 7 (by omega)
   simp only[Nat.add_zero,List.getElem?_cons_zero,List.getElem?_cons_succ] at g0 g1 g2 g3 g4 g5 g6 g7
   have HALL:Hid (∀ wx,Fr Nil w1 wx→(fun w'=>w'.cell? ⟨b,0,none⟩=some (.int .i64 node)∧w'.cell? ⟨b,1,none⟩=some (.int .i64 seq)∧w'.cell? ⟨b,2,none⟩=some (.int .i64 o0)∧w'.cell? ⟨b,3,none⟩=some (.int .i64 o1)∧w'.cell? ⟨b,4,none⟩=some (.int .i64 o2)∧w'.cell? ⟨b,5,none⟩=some (.int .i64 o3)∧w'.cell? ⟨b,6,none⟩=some (.string value)∧w'.cell? ⟨b,7,none⟩=some (.bool gone)∧w'.cell? ⟨g,i*8,none⟩=some (.int .i64 xn)∧w'.cell? ⟨g,i*8+1,none⟩=some (.int .i64 xs)∧w'.cell? ⟨g,i*8+2,none⟩=some (.int .i64 x0)∧w'.cell? ⟨g,i*8+3,none⟩=some (.int .i64 x1)∧w'.cell? ⟨g,i*8+4,none⟩=some (.int .i64 x2)∧w'.cell? ⟨g,i*8+5,none⟩=some (.int .i64 x3)∧w'.cell? ⟨g,i*8+6,none⟩=some (.string xv)∧w'.cell? ⟨g,i*8+7,none⟩=some (.bool xg)) wx):=fun wx f=>⟨HCB.out wx f 0,HCB.out wx f 1,HCB.out wx f 2,HCB.out wx f 3,HCB.out wx f 4,HCB.out wx f 5,HCB.out wx f 6,HCB.out wx f 7,HCX.out wx f 0 (by omega),HCX.out wx f 1 (by omega),HCX.out wx f 2 (by omega),HCX.out wx f 3 (by omega),HCX.out wx f 4 (by omega),HCX.out wx f 5 (by omega),HCX.out wx f 6 (by omega),HCX.out wx f 7 (by omega)⟩
   clear g0 g1 g2 g3 g4 g5 g6 g7 hcb
   obtain⟨b0,b1,b2,b3,b4,b5,b6,b7,g0,g1,g2,g3,g4,g5,g6,g7⟩:=HALL.out wr HFW.out
   by_cases hn1:xn=node
   ·by_cases hs1:xs=seq
    ·have HK1:=Z (HANY.out (by rw[HKX.out];simp[hn1,hs1]))
     have e1:(xn==node)=true:=by simp[hn1]
     have e2:(xs==seq)=true:=by simp[hs1]
     clear hn1 hs1
     generalize Ver.over ⟨xn,xs,x0,x1,x2,x3,xv,xg⟩ ⟨node,seq,o0,o1,o2,o3,value,gone⟩=u at HO1 HKX
     have HW:Hid (zY old ⟨node,seq,o0,o1,o2,o3,value,gone⟩=0):=Z (by rw[HWAY.out,if_pos HK1.out])
     go_wp2_with fail
     go_quiet (fail)
     go_wp2_with fail
     go_region_held3 (fun w'=>w'.cell? ⟨b,0,none⟩=some (.int .i64 node)∧w'.cell? ⟨b,1,none⟩=some (.int .i64 seq)∧w'.cell? ⟨b,2,none⟩=some (.int .i64 o0)∧w'.cell? ⟨b,3,none⟩=some (.int .i64 o1)∧w'.cell? ⟨b,4,none⟩=some (.int .i64 o2)∧w'.cell? ⟨b,5,none⟩=some (.int .i64 o3)∧w'.cell? ⟨b,6,none⟩=some (.string value)∧w'.cell? ⟨b,7,none⟩=some (.bool gone)∧w'.cell? ⟨g,i*8,none⟩=some (.int .i64 xn)∧w'.cell? ⟨g,i*8+1,none⟩=some (.int .i64 xs)∧w'.cell? ⟨g,i*8+2,none⟩=some (.int .i64 x0)∧w'.cell? ⟨g,i*8+3,none⟩=some (.int .i64 x1)∧w'.cell? ⟨g,i*8+4,none⟩=some (.int .i64 x2)∧w'.cell? ⟨g,i*8+5,none⟩=some (.int .i64 x3)∧w'.cell? ⟨g,i*8+6,none⟩=some (.string xv)∧w'.cell? ⟨g,i*8+7,none⟩=some (.bool xg)) (first|assumption|go_keep|exact HALL.out _ ((HFW.out.drewN _).trans (by repeat' first|(with_reducible first|apply G|assumption|apply O|apply U|apply V|apply z6)|(intro _;rfl))))
      (first|(go_at_call 159;refine(HO1.out _).mono ?_;rintro e w2 ⟨rfl,hf2⟩;have hf02:Fr Nil wr w2:=Fr.trans (by repeat' first|(with_reducible first|apply G|assumption|apply O|apply U|apply V|apply z6)|(intro _;rfl)) hf2;have hz2:=HALL.out w2 (HFW.out.trans hf02)))
     have HFE:Hid (Fr Nil w w2):=HF0.out.trans (HFW.out.trans (Fr.trans (by exact(by repeat' first|(with_reducible first|apply G|assumption|apply O|apply U|apply V|apply z6)|(intro _;rfl))) hf02))
     go_wp2
     go_ret2
     exact .inl ⟨by rw[HVM.out];exact HW.out,rfl,HFE.out⟩
    ·have e1:(xn==node)=true:=by simp[hn1]
     have e2:(xs==seq)=false:=by simp[hs1]
     generalize Ver.over ⟨xn,xs,x0,x1,x2,x3,xv,xg⟩ ⟨node,seq,o0,o1,o2,o3,value,gone⟩=u at HO1 HKX
     have HSAME:Hid (Ver.knows ⟨node,seq,o0,o1,o2,o3,value,gone⟩ ⟨xn,xs,x0,x1,x2,x3,xv,xg⟩=u):=Z (by rw[HKX.out];simp[hs1])
     clear hs1 hn1
     go_wp2_with fail
     go_quiet (fail)
     go_wp2_with fail
     go_region_held3 (fun w'=>w'.cell? ⟨b,0,none⟩=some (.int .i64 node)∧w'.cell? ⟨b,1,none⟩=some (.int .i64 seq)∧w'.cell? ⟨b,2,none⟩=some (.int .i64 o0)∧w'.cell? ⟨b,3,none⟩=some (.int .i64 o1)∧w'.cell? ⟨b,4,none⟩=some (.int .i64 o2)∧w'.cell? ⟨b,5,none⟩=some (.int .i64 o3)∧w'.cell? ⟨b,6,none⟩=some (.string value)∧w'.cell? ⟨b,7,none⟩=some (.bool gone)∧w'.cell? ⟨g,i*8,none⟩=some (.int .i64 xn)∧w'.cell? ⟨g,i*8+1,none⟩=some (.int .i64 xs)∧w'.cell? ⟨g,i*8+2,none⟩=some (.int .i64 x0)∧w'.cell? ⟨g,i*8+3,none⟩=some (.int .i64 x1)∧w'.cell? ⟨g,i*8+4,none⟩=some (.int .i64 x2)∧w'.cell? ⟨g,i*8+5,none⟩=some (.int .i64 x3)∧w'.cell? ⟨g,i*8+6,none⟩=some (.string xv)∧w'.cell? ⟨g,i*8+7,none⟩=some (.bool xg)) (first|assumption|go_keep|exact HALL.out _ ((HFW.out.drewN _).trans (by repeat' first|(with_reducible first|apply G|assumption|apply O|apply U|apply V|apply z6)|(intro _;rfl))))
      (first|(go_at_call 159;refine(HO1.out _).mono ?_;rintro e w2 ⟨rfl,hf_w2⟩;have hfw2:Fr Nil w1 w2:=HFW.out.trans (Fr.trans (by exact(by repeat' first|(with_reducible first|apply G|assumption|apply O|apply U|apply V|apply z6)|(intro _;rfl))) hf_w2);have hzw2:=HALL.out w2 hfw2))
     cases u with
     | true =>
      have HK1:=Z (HANY.out HSAME.out)
      have HW:Hid (zY old ⟨node,seq,o0,o1,o2,o3,value,gone⟩=0):=Z (by rw[HWAY.out,if_pos HK1.out])
      have HFE:Hid (Fr Nil w w2):=HF0.out.trans hfw2
      clear hzw2
      go_wp2
      go_ret2
      exact .inl ⟨by rw[HVM.out];exact HW.out,rfl,HFE.out⟩
     | false =>
      have HJ2:=Z (HJX.out HSAME.out)
      clear g0 g1 g2 g3 g4 g5 g6 g7 b0 b1 b2 b3 b4 b5 b6 b7
      obtain⟨b0,b1,b2,b3,b4,b5,b6,b7,g0,g1,g2,g3,g4,g5,g6,g7⟩:=hzw2
      have HFW2:=Z hfw2
      clear hfw2 hf_w2
      generalize Ver.over ⟨node,seq,o0,o1,o2,o3,value,gone⟩ ⟨xn,xs,x0,x1,x2,x3,xv,xg⟩=o at HO2 HST
      go_wp2_with fail
      go_region_held3 (fun w'=>w'.cell? ⟨b,0,none⟩=some (.int .i64 node)∧w'.cell? ⟨b,1,none⟩=some (.int .i64 seq)∧w'.cell? ⟨b,2,none⟩=some (.int .i64 o0)∧w'.cell? ⟨b,3,none⟩=some (.int .i64 o1)∧w'.cell? ⟨b,4,none⟩=some (.int .i64 o2)∧w'.cell? ⟨b,5,none⟩=some (.int .i64 o3)∧w'.cell? ⟨b,6,none⟩=some (.string value)∧w'.cell? ⟨b,7,none⟩=some (.bool gone)∧w'.cell? ⟨g,i*8,none⟩=some (.int .i64 xn)∧w'.cell? ⟨g,i*8+1,none⟩=some (.int .i64 xs)∧w'.cell? ⟨g,i*8+2,none⟩=some (.int .i64 x0)∧w'.cell? ⟨g,i*8+3,none⟩=some (.int .i64 x1)∧w'.cell? ⟨g,i*8+4,none⟩=some (.int .i64 x2)∧w'.cell? ⟨g,i*8+5,none⟩=some (.int .i64 x3)∧w'.cell? ⟨g,i*8+6,none⟩=some (.string xv)∧w'.cell? ⟨g,i*8+7,none⟩=some (.bool xg)) (first|assumption|go_keep|exact HALL.out _ (HFW2.out.trans (by repeat' first|(with_reducible first|apply G|assumption|apply O|apply U|apply V|apply z6)|(intro _;rfl))))
       (first|(go_at_call 159;refine(HO2.out _).mono ?_;rintro e w3 ⟨rfl,hf_w3⟩;have hfw3:Fr Nil w1 w3:=HFW2.out.trans (Fr.trans (by exact(by repeat' first|(with_reducible first|apply G|assumption|apply O|apply U|apply V|apply z6)|(intro _;rfl))) hf_w3);have hzw3:=HALL.out w3 hfw3))
      have HFW3:=Z hfw3
      clear hzw3 hfw3 hf_w3
      cases o with
      | true =>
       rw[if_pos rfl,List.append_nil] at HST
       go_wp2
       exact⟨⟨i+1,by omega,by go_num,by rw[HST.out],HJ2.out,HFW3.out⟩,by simp[intOf];omega⟩
      | false =>
       rw[if_neg (by decide)] at HST
       go_wp2
       exact⟨⟨i+1,by omega,by go_num,by rw[HST.out,List.length_append,List.length_singleton];go_num,HJ2.out,HFW3.out⟩,by simp[intOf];omega⟩
   ·have e1:(xn==node)=false:=by simp[hn1]
    generalize Ver.over ⟨xn,xs,x0,x1,x2,x3,xv,xg⟩ ⟨node,seq,o0,o1,o2,o3,value,gone⟩=u at HO1 HKX
    have HSAME:Hid (Ver.knows ⟨node,seq,o0,o1,o2,o3,value,gone⟩ ⟨xn,xs,x0,x1,x2,x3,xv,xg⟩=u):=Z (by rw[HKX.out];simp[hn1])
    clear hn1
    go_wp2_with fail
    go_quiet (fail)
    go_wp2_with fail
    go_region_held3 (fun w'=>w'.cell? ⟨b,0,none⟩=some (.int .i64 node)∧w'.cell? ⟨b,1,none⟩=some (.int .i64 seq)∧w'.cell? ⟨b,2,none⟩=some (.int .i64 o0)∧w'.cell? ⟨b,3,none⟩=some (.int .i64 o1)∧w'.cell? ⟨b,4,none⟩=some (.int .i64 o2)∧w'.cell? ⟨b,5,none⟩=some (.int .i64 o3)∧w'.cell? ⟨b,6,none⟩=some (.string value)∧w'.cell? ⟨b,7,none⟩=some (.bool gone)∧w'.cell? ⟨g,i*8,none⟩=some (.int .i64 xn)∧w'.cell? ⟨g,i*8+1,none⟩=some (.int .i64 xs)∧w'.cell? ⟨g,i*8+2,none⟩=some (.int .i64 x0)∧w'.cell? ⟨g,i*8+3,none⟩=some (.int .i64 x1)∧w'.cell? ⟨g,i*8+4,none⟩=some (.int .i64 x2)∧w'.cell? ⟨g,i*8+5,none⟩=some (.int .i64 x3)∧w'.cell? ⟨g,i*8+6,none⟩=some (.string xv)∧w'.cell? ⟨g,i*8+7,none⟩=some (.bool xg)) (first|assumption|go_keep|exact HALL.out _ ((HFW.out.drewN _).trans (by repeat' first|(with_reducible first|apply G|assumption|apply O|apply U|apply V|apply z6)|(intro _;rfl))))
     (first|(go_at_call 159;refine(HO1.out _).mono ?_;rintro e w2 ⟨rfl,hf_w2⟩;have hfw2:Fr Nil w1 w2:=HFW.out.trans (Fr.trans (by exact(by repeat' first|(with_reducible first|apply G|assumption|apply O|apply U|apply V|apply z6)|(intro _;rfl))) hf_w2);have hzw2:=HALL.out w2 hfw2))
    cases u with
    | true =>
     have HK1:=Z (HANY.out HSAME.out)
     have HW:Hid (zY old ⟨node,seq,o0,o1,o2,o3,value,gone⟩=0):=Z (by rw[HWAY.out,if_pos HK1.out])
     have HFE:Hid (Fr Nil w w2):=HF0.out.trans hfw2
     clear hzw2
     go_wp2
     go_ret2
     exact .inl ⟨by rw[HVM.out];exact HW.out,rfl,HFE.out⟩
    | false =>
     have HJ2:=Z (HJX.out HSAME.out)
     clear g0 g1 g2 g3 g4 g5 g6 g7 b0 b1 b2 b3 b4 b5 b6 b7
     obtain⟨b0,b1,b2,b3,b4,b5,b6,b7,g0,g1,g2,g3,g4,g5,g6,g7⟩:=hzw2
     have HFW2:=Z hfw2
     clear hfw2 hf_w2
     generalize Ver.over ⟨node,seq,o0,o1,o2,o3,value,gone⟩ ⟨xn,xs,x0,x1,x2,x3,xv,xg⟩=o at HO2 HST
     go_wp2_with fail
     go_region_held3 (fun w'=>w'.cell? ⟨b,0,none⟩=some (.int .i64 node)∧w'.cell? ⟨b,1,none⟩=some (.int .i64 seq)∧w'.cell? ⟨b,2,none⟩=some (.int .i64 o0)∧w'.cell? ⟨b,3,none⟩=some (.int .i64 o1)∧w'.cell? ⟨b,4,none⟩=some (.int .i64 o2)∧w'.cell? ⟨b,5,none⟩=some (.int .i64 o3)∧w'.cell? ⟨b,6,none⟩=some (.string value)∧w'.cell? ⟨b,7,none⟩=some (.bool gone)∧w'.cell? ⟨g,i*8,none⟩=some (.int .i64 xn)∧w'.cell? ⟨g,i*8+1,none⟩=some (.int .i64 xs)∧w'.cell? ⟨g,i*8+2,none⟩=some (.int .i64 x0)∧w'.cell? ⟨g,i*8+3,none⟩=some (.int .i64 x1)∧w'.cell? ⟨g,i*8+4,none⟩=some (.int .i64 x2)∧w'.cell? ⟨g,i*8+5,none⟩=some (.int .i64 x3)∧w'.cell? ⟨g,i*8+6,none⟩=some (.string xv)∧w'.cell? ⟨g,i*8+7,none⟩=some (.bool xg)) (first|assumption|go_keep|exact HALL.out _ (HFW2.out.trans (by repeat' first|(with_reducible first|apply G|assumption|apply O|apply U|apply V|apply z6)|(intro _;rfl))))
      (first|(go_at_call 159;refine(HO2.out _).mono ?_;rintro e w3 ⟨rfl,hf_w3⟩;have hfw3:Fr Nil w1 w3:=HFW2.out.trans (Fr.trans (by exact(by repeat' first|(with_reducible first|apply G|assumption|apply O|apply U|apply V|apply z6)|(intro _;rfl))) hf_w3);have hzw3:=HALL.out w3 hfw3))
     have HFW3:=Z hfw3
     clear hzw3 hfw3 hf_w3
     cases o with
     | true =>
      rw[if_pos rfl,List.append_nil] at HST
      go_wp2
      exact⟨⟨i+1,by omega,by go_num,by rw[HST.out],HJ2.out,HFW3.out⟩,by simp[intOf];omega⟩
     | false =>
      rw[if_neg (by decide)] at HST
      go_wp2
      exact⟨⟨i+1,by omega,by go_num,by rw[HST.out,List.length_append,List.length_singleton];go_num,HJ2.out,HFW3.out⟩,by simp[intOf];omega⟩
  ·obtain rfl:i=old.length:=by omega
   have hany:old.any (Ver.knows ⟨node,seq,o0,o1,o2,o3,value,gone⟩)=false:=by
    rw[List.any_eq_false]
    intro x hx
    obtain⟨j,hjl,rfl⟩:=List.getElem_of_mem hx
    rw[hj j hjl (by omega)]
    decide
   have HW0:Hid (zY old ⟨node,seq,o0,o1,o2,o3,value,gone⟩=if gone=false∧4≤(zn old ⟨node,seq,o0,o1,o2,o3,value,gone⟩).length then 1 else if gone=true∧(zn old ⟨node,seq,o0,o1,o2,o3,value,gone⟩).length=old.length then 0 else 2):=Z (by rw[HWAY.out,if_neg (by rw[hany];decide)])
   have HND2:Hid (∀ u∈old,u.dot≠Ver.dot ⟨node,seq,o0,o1,o2,o3,value,gone⟩):=by
    intro u hu he
    have:=List.any_eq_false.1 hany u hu
    rw[HKN.out] at this
    simp only[Ver.dot,Prod.mk.injEq] at he
    simp[he.1,he.2] at this
   rw[List.take_length]
   have hll:(zn old ⟨node,seq,o0,o1,o2,o3,value,gone⟩).length≤old.length:=XV old ⟨node,seq,o0,o1,o2,o3,value,gone⟩
   generalize hL:(zn old ⟨node,seq,o0,o1,o2,o3,value,gone⟩).length=n at HW0 hll ⊢
   have HL:=Z hL
   have HFW:=Z hf
   clear hany hj hL hf
   have hcg:wr.cell? ⟨b,7,none⟩=some (.bool gone):=hcb 7
   cases gone with
   | false =>
    by_cases hm:4≤n
    ·have hm':(4:Int)≤(n:Int):=by omega
     have HW:Hid (zY old ⟨node,seq,o0,o1,o2,o3,value,false⟩=1):=Z (by rw[HW0.out,if_pos ⟨rfl,hm⟩])
     have HFE:Hid (Fr Nil w wr):=HF0.out.trans HFW.out
     clear hm
     go_wp2
     go_ret2
     exact .inr (.inl ⟨by rw[HVM.out];exact HW.out,rfl,HFE.out⟩)
    ·have hm':¬(4:Int)≤(n:Int):=by omega
     have HW:Hid (zY old ⟨node,seq,o0,o1,o2,o3,value,false⟩=2):=Z (by rw[HW0.out,if_neg (fun x=>hm x.2),if_neg (fun x=>absurd x.1 (by decide))])
     clear hm
     go_wp2_with fail
     go_loopw [14,15,16] (fun t14 t15 t16 w'=>∃ i:Nat,i≤old.length∧t16=.int .i64 i∧t15=.bool ((old.take i).foldl (zG ⟨node,seq,o0,o1,o2,o3,value,false⟩) ([],false)).2∧VRow w' t14 ((old.take i).foldl (zG ⟨node,seq,o0,o1,o2,o3,value,false⟩) ([],false)).1∧(∀ k,t14.ownBlock=some k→w1.heap.size≤k)∧Fr Nil w1 w'∧((old.take i).foldl (zG ⟨node,seq,o0,o1,o2,o3,value,false⟩) ([],false)).1.length≤2*i) (fun _ _ t16 _=>old.length-(intOf t16).toNat)
     case atStart=>exact⟨0,Nat.zero_le _,rfl,rfl,World.ownsRow_nil _ 0 _ _,fun k hk=>by simp[Value.ownBlock] at hk,HFW.out,Nat.le_refl _⟩
     case round =>
      obtain⟨i,hi,rfl,rfl,hrw,how,hf,hol⟩:=hrel
      have hcb:=(HVC.out.fr hf id).cell
      by_cases hlt:i<old.length
      ·obtain⟨g,rfl⟩:∃ g,va=some ⟨g,0,none⟩:=by
        obtain⟨g,cap,h,_⟩:=zi HROW.out (by omega)
        simp at h;exact⟨g,h.1⟩
       have HCX:Hid (∀ wx,Fr Nil w1 wx→∀ j,j<8→wx.cell? ⟨g,i*8+j,none⟩=old[i].cells[j]?):=fun wx f j hj8=>VRow.cells (z7 HROW.out f (fun _ _=>id)) i hlt j hj8
       have HCB:Hid (∀ wx,Fr Nil w1 wx→∀ j,wx.cell? ⟨b,j,none⟩=(Ver.cells ⟨node,seq,o0,o1,o2,o3,value,false⟩)[j]?):=fun wx f j=>(HVC.out.fr f id).cell j
       have hx:=HND.out old[i] (List.getElem_mem hlt)
       have HSTEP:Hid ((old.take (i+1)).foldl (zG ⟨node,seq,o0,o1,o2,o3,value,false⟩) ([],false)=zG ⟨node,seq,o0,o1,o2,o3,value,false⟩ ((old.take i).foldl (zG ⟨node,seq,o0,o1,o2,o3,value,false⟩) ([],false)) old[i]):=Z (by rw[List.take_succ_eq_append_getElem hlt,List.foldl_append];rfl)
       have HO2:=Z (fun W=>HOV.out ⟨node,seq,o0,o1,o2,o3,value,false⟩ old[i] W hx)
       generalize ((old.take i).foldl (zG ⟨node,seq,o0,o1,o2,o3,value,false⟩) ([],false))=st at hrw hol HSTEP ⊢
       obtain⟨out,done⟩:=st
       simp only at hrw hol ⊢
       obtain⟨ta,tc,rfl⟩:=z8 hrw
       have HRW:=Z hrw
       have HOW:=Z how
       have HFW:=Z hf
       have hol2:out.length<1000000:=by omega
       clear hx hrw how hf hcb
       generalize old[i]=x at HCX HSTEP HO2
       obtain⟨xn,xs,x0,x1,x2,x3,xv,xg⟩:=x
       have HBF:=Z (fun W=>Vl node seq xn xs W)
       simp only[Ver.cells] at HCX HCB HO2
       have HSTEP:Hid ((old.take (i+1)).foldl (zG ⟨node,seq,o0,o1,o2,o3,value,false⟩) ([],false)=zB out ⟨node,seq,o0,o1,o2,o3,value,false⟩ ⟨xn,xs,x0,x1,x2,x3,xv,xg⟩ done (zu (node,seq) (xn,xs)) (Ver.over ⟨node,seq,o0,o1,o2,o3,value,false⟩ ⟨xn,xs,x0,x1,x2,x3,xv,xg⟩)):=HSTEP
       have HALL:Hid (∀ wx,Fr Nil w1 wx→(fun w'=>w'.cell? ⟨b,0,none⟩=some (.int .i64 node)∧w'.cell? ⟨b,1,none⟩=some (.int .i64 seq)∧w'.cell? ⟨b,2,none⟩=some (.int .i64 o0)∧w'.cell? ⟨b,3,none⟩=some (.int .i64 o1)∧w'.cell? ⟨b,4,none⟩=some (.int .i64 o2)∧w'.cell? ⟨b,5,none⟩=some (.int .i64 o3)∧w'.cell? ⟨b,6,none⟩=some (.string value)∧w'.cell? ⟨b,7,none⟩=some (.bool false)∧w'.cell? ⟨g,i*8,none⟩=some (.int .i64 xn)∧w'.cell? ⟨g,i*8+1,none⟩=some (.int .i64 xs)∧w'.cell? ⟨g,i*8+2,none⟩=some (.int .i64 x0)∧w'.cell? ⟨g,i*8+3,none⟩=some (.int .i64 x1)∧w'.cell? ⟨g,i*8+4,none⟩=some (.int .i64 x2)∧w'.cell? ⟨g,i*8+5,none⟩=some (.int .i64 x3)∧w'.cell? ⟨g,i*8+6,none⟩=some (.string xv)∧w'.cell? ⟨g,i*8+7,none⟩=some (.bool xg)) wx):=fun wx f=>⟨HCB.out wx f 0,HCB.out wx f 1,HCB.out wx f 2,HCB.out wx f 3,HCB.out wx f 4,HCB.out wx f 5,HCB.out wx f 6,HCB.out wx f 7,HCX.out wx f 0 (by omega),HCX.out wx f 1 (by omega),HCX.out wx f 2 (by omega),HCX.out wx f 3 (by omega),HCX.out wx f 4 (by omega),HCX.out wx f 5 (by omega),HCX.out wx f 6 (by omega),HCX.out wx f 7 (by omega)⟩
       obtain⟨b0,b1,b2,b3,b4,b5,b6,b7,g0,g1,g2,g3,g4,g5,g6,g7⟩:=HALL.out wr HFW.out
       generalize zu (node,seq) (xn,xs)=fb at HBF HSTEP
       generalize Ver.over ⟨node,seq,o0,o1,o2,o3,value,false⟩ ⟨xn,xs,x0,x1,x2,x3,xv,xg⟩=o at HO2 HSTEP
       go_wp2_with fail
       go_region_held3 (fun w'=>w'.cell? ⟨b,0,none⟩=some (.int .i64 node)∧w'.cell? ⟨b,1,none⟩=some (.int .i64 seq)∧w'.cell? ⟨b,2,none⟩=some (.int .i64 o0)∧w'.cell? ⟨b,3,none⟩=some (.int .i64 o1)∧w'.cell? ⟨b,4,none⟩=some (.int .i64 o2)∧w'.cell? ⟨b,5,none⟩=some (.int .i64 o3)∧w'.cell? ⟨b,6,none⟩=some (.string value)∧w'.cell? ⟨b,7,none⟩=some (.bool false)∧w'.cell? ⟨g,i*8,none⟩=some (.int .i64 xn)∧w'.cell? ⟨g,i*8+1,none⟩=some (.int .i64 xs)∧w'.cell? ⟨g,i*8+2,none⟩=some (.int .i64 x0)∧w'.cell? ⟨g,i*8+3,none⟩=some (.int .i64 x1)∧w'.cell? ⟨g,i*8+4,none⟩=some (.int .i64 x2)∧w'.cell? ⟨g,i*8+5,none⟩=some (.int .i64 x3)∧w'.cell? ⟨g,i*8+6,none⟩=some (.string xv)∧w'.cell? ⟨g,i*8+7,none⟩=some (.bool xg)) (first|assumption|go_keep|exact HALL.out _ (HFW.out.trans (by repeat' first|(with_reducible first|apply G|assumption|apply O|apply U|apply V|apply z6)|(intro _;rfl))))
        (first|(go_at_call 160;refine(HBF.out _).mono ?_;rintro e w2 ⟨rfl,hf_w2⟩;have hfw2:Fr Nil w1 w2:=HFW.out.trans (Fr.trans (by exact(by repeat' first|(with_reducible first|apply G|assumption|apply O|apply U|apply V|apply z6)|(intro _;rfl))) hf_w2);have hzw2:=HALL.out w2 hfw2))
       have HRW2:=Z (VRow.fr HRW.out (Fr.trans (by exact(by repeat' first|(with_reducible first|apply G|assumption|apply O|apply U|apply V|apply z6)|(intro _;rfl))) hf_w2:Fr Nil wr w2) (fun _ _=>id))
       have HFW2:=Z hfw2
       clear hfw2 hf_w2 b0 b1 b2 b3 b4 b5 b6 b7 g0 g1 g2 g3 g4 g5 g6 g7
       obtain⟨b0,b1,b2,b3,b4,b5,b6,b7,g0,g1,g2,g3,g4,g5,g6,g7⟩:=hzw2
       cases done with
       | true =>
        cases fb with
        | false =>
         go_wp2_with fail
         go_region_held3 (fun w'=>w'.cell? ⟨b,0,none⟩=some (.int .i64 node)∧w'.cell? ⟨b,1,none⟩=some (.int .i64 seq)∧w'.cell? ⟨b,2,none⟩=some (.int .i64 o0)∧w'.cell? ⟨b,3,none⟩=some (.int .i64 o1)∧w'.cell? ⟨b,4,none⟩=some (.int .i64 o2)∧w'.cell? ⟨b,5,none⟩=some (.int .i64 o3)∧w'.cell? ⟨b,6,none⟩=some (.string value)∧w'.cell? ⟨b,7,none⟩=some (.bool false)∧w'.cell? ⟨g,i*8,none⟩=some (.int .i64 xn)∧w'.cell? ⟨g,i*8+1,none⟩=some (.int .i64 xs)∧w'.cell? ⟨g,i*8+2,none⟩=some (.int .i64 x0)∧w'.cell? ⟨g,i*8+3,none⟩=some (.int .i64 x1)∧w'.cell? ⟨g,i*8+4,none⟩=some (.int .i64 x2)∧w'.cell? ⟨g,i*8+5,none⟩=some (.int .i64 x3)∧w'.cell? ⟨g,i*8+6,none⟩=some (.string xv)∧w'.cell? ⟨g,i*8+7,none⟩=some (.bool xg)) (first|assumption|go_keep|exact HALL.out _ (HFW2.out.trans (by repeat' first|(with_reducible first|apply G|assumption|apply O|apply U|apply V|apply z6)|(intro _;rfl))))
          (first|(go_at_call 159;refine(HO2.out _).mono ?_;rintro e w5 ⟨rfl,hf_w5⟩;have hfw5:Fr Nil w1 w5:=HFW2.out.trans (Fr.trans (by exact(by repeat' first|(with_reducible first|apply G|assumption|apply O|apply U|apply V|apply z6)|(intro _;rfl))) hf_w5);have hzw5:=HALL.out w5 hfw5))
         have HROW5:=Z (VRow.fr HRW2.out (Fr.trans (by exact(by repeat' first|(with_reducible first|apply G|assumption|apply O|apply U|apply V|apply z6)|(intro _;rfl))) hf_w5:Fr Nil w2 w5) (fun _ _=>id))
         have HFW5:=Z hfw5
         clear hfw5 hf_w5
         obtain⟨b0,b1,b2,b3,b4,b5,b6,b7,g0,g1,g2,g3,g4,g5,g6,g7⟩:=hzw5
         cases o with
         | true =>
          clear b0 b1 b2 b3 b4 b5 b6 b7 g0 g1 g2 g3 g4 g5 g6 g7
          go_wp2
          exact⟨⟨i+1,by omega,by go_num,by rw[HSTEP.out];simp[zB],by rw[HSTEP.out];simpa [zB] using HROW5.out,HOW.out,HFW5.out,by rw[HSTEP.out];simp[zB];omega⟩,by simp[intOf];omega⟩
         | false =>
          go_wp2_with (at_builtin;go_must (refine zf rfl _ _ _ _ rfl _ _ (by rfl) (by rfl) (Zn w5 _ _ HROW5.out ⟨xn,xs,x0,x1,x2,x3,xv,xg⟩ hol2 _ (by repeat' first|(with_reducible first|apply G|assumption|apply O|apply U|apply V|apply z6)|(intro _;rfl)) _ (by exact Blk.new _ [_,_,_,_,_,_,_,_] _) _) ?_;rintro v6 w6 ⟨ho6,hf6,hn6⟩))
          refine⟨⟨i+1,?_,?_,?_,?_,?_,?_,?_⟩,?_⟩
          ·omega
          ·go_num
          ·rw[HSTEP.out];simp[zB]
          ·rw[HSTEP.out];simpa [zB] using ho6
          ·exact fun k hk=>(hn6 k hk).elim (HOW.out k) (fun h=>Nat.le_trans HFW5.out.size h)
          ·exact HFW5.out.trans' hf6 (fun k hk e=>by have:=(HOW.out) k e;omega)
          ·rw[HSTEP.out];simp[zB];omega
          ·simp[intOf];omega
        | true =>
         go_wp2_with fail
         go_region_held3 (fun w'=>w'.cell? ⟨b,0,none⟩=some (.int .i64 node)∧w'.cell? ⟨b,1,none⟩=some (.int .i64 seq)∧w'.cell? ⟨b,2,none⟩=some (.int .i64 o0)∧w'.cell? ⟨b,3,none⟩=some (.int .i64 o1)∧w'.cell? ⟨b,4,none⟩=some (.int .i64 o2)∧w'.cell? ⟨b,5,none⟩=some (.int .i64 o3)∧w'.cell? ⟨b,6,none⟩=some (.string value)∧w'.cell? ⟨b,7,none⟩=some (.bool false)∧w'.cell? ⟨g,i*8,none⟩=some (.int .i64 xn)∧w'.cell? ⟨g,i*8+1,none⟩=some (.int .i64 xs)∧w'.cell? ⟨g,i*8+2,none⟩=some (.int .i64 x0)∧w'.cell? ⟨g,i*8+3,none⟩=some (.int .i64 x1)∧w'.cell? ⟨g,i*8+4,none⟩=some (.int .i64 x2)∧w'.cell? ⟨g,i*8+5,none⟩=some (.int .i64 x3)∧w'.cell? ⟨g,i*8+6,none⟩=some (.string xv)∧w'.cell? ⟨g,i*8+7,none⟩=some (.bool xg)) (first|assumption|go_keep|exact HALL.out _ (HFW2.out.trans (by repeat' first|(with_reducible first|apply G|assumption|apply O|apply U|apply V|apply z6)|(intro _;rfl))))
          (first|(go_at_call 159;refine(HO2.out _).mono ?_;rintro e w5 ⟨rfl,hf_w5⟩;have hfw5:Fr Nil w1 w5:=HFW2.out.trans (Fr.trans (by exact(by repeat' first|(with_reducible first|apply G|assumption|apply O|apply U|apply V|apply z6)|(intro _;rfl))) hf_w5);have hzw5:=HALL.out w5 hfw5))
         have HROW5:=Z (VRow.fr HRW2.out (Fr.trans (by exact(by repeat' first|(with_reducible first|apply G|assumption|apply O|apply U|apply V|apply z6)|(intro _;rfl))) hf_w5:Fr Nil w2 w5) (fun _ _=>id))
         have HFW5:=Z hfw5
         clear hfw5 hf_w5
         obtain⟨b0,b1,b2,b3,b4,b5,b6,b7,g0,g1,g2,g3,g4,g5,g6,g7⟩:=hzw5
         cases o with
         | true =>
          clear b0 b1 b2 b3 b4 b5 b6 b7 g0 g1 g2 g3 g4 g5 g6 g7
          go_wp2
          exact⟨⟨i+1,by omega,by go_num,by rw[HSTEP.out];simp[zB],by rw[HSTEP.out];simpa [zB] using HROW5.out,HOW.out,HFW5.out,by rw[HSTEP.out];simp[zB];omega⟩,by simp[intOf];omega⟩
         | false =>
          go_wp2_with (at_builtin;go_must (refine zf rfl _ _ _ _ rfl _ _ (by rfl) (by rfl) (Zn w5 _ _ HROW5.out ⟨xn,xs,x0,x1,x2,x3,xv,xg⟩ hol2 _ (by repeat' first|(with_reducible first|apply G|assumption|apply O|apply U|apply V|apply z6)|(intro _;rfl)) _ (by exact Blk.new _ [_,_,_,_,_,_,_,_] _) _) ?_;rintro v6 w6 ⟨ho6,hf6,hn6⟩))
          refine⟨⟨i+1,?_,?_,?_,?_,?_,?_,?_⟩,?_⟩
          ·omega
          ·go_num
          ·rw[HSTEP.out];simp[zB]
          ·rw[HSTEP.out];simpa [zB] using ho6
          ·exact fun k hk=>(hn6 k hk).elim (HOW.out k) (fun h=>Nat.le_trans HFW5.out.size h)
          ·exact HFW5.out.trans' hf6 (fun k hk e=>by have:=(HOW.out) k e;omega)
          ·rw[HSTEP.out];simp[zB];omega
          ·simp[intOf];omega
       | false =>
        cases fb with
        | false =>
         go_wp2_with fail
         go_region_held3 (fun w'=>w'.cell? ⟨b,0,none⟩=some (.int .i64 node)∧w'.cell? ⟨b,1,none⟩=some (.int .i64 seq)∧w'.cell? ⟨b,2,none⟩=some (.int .i64 o0)∧w'.cell? ⟨b,3,none⟩=some (.int .i64 o1)∧w'.cell? ⟨b,4,none⟩=some (.int .i64 o2)∧w'.cell? ⟨b,5,none⟩=some (.int .i64 o3)∧w'.cell? ⟨b,6,none⟩=some (.string value)∧w'.cell? ⟨b,7,none⟩=some (.bool false)∧w'.cell? ⟨g,i*8,none⟩=some (.int .i64 xn)∧w'.cell? ⟨g,i*8+1,none⟩=some (.int .i64 xs)∧w'.cell? ⟨g,i*8+2,none⟩=some (.int .i64 x0)∧w'.cell? ⟨g,i*8+3,none⟩=some (.int .i64 x1)∧w'.cell? ⟨g,i*8+4,none⟩=some (.int .i64 x2)∧w'.cell? ⟨g,i*8+5,none⟩=some (.int .i64 x3)∧w'.cell? ⟨g,i*8+6,none⟩=some (.string xv)∧w'.cell? ⟨g,i*8+7,none⟩=some (.bool xg)) (first|assumption|go_keep|exact HALL.out _ (HFW2.out.trans (by repeat' first|(with_reducible first|apply G|assumption|apply O|apply U|apply V|apply z6)|(intro _;rfl))))
          (first|(go_at_call 159;refine(HO2.out _).mono ?_;rintro e w5 ⟨rfl,hf_w5⟩;have hfw5:Fr Nil w1 w5:=HFW2.out.trans (Fr.trans (by exact(by repeat' first|(with_reducible first|apply G|assumption|apply O|apply U|apply V|apply z6)|(intro _;rfl))) hf_w5);have hzw5:=HALL.out w5 hfw5))
         have HROW5:=Z (VRow.fr HRW2.out (Fr.trans (by exact(by repeat' first|(with_reducible first|apply G|assumption|apply O|apply U|apply V|apply z6)|(intro _;rfl))) hf_w5:Fr Nil w2 w5) (fun _ _=>id))
         have HFW5:=Z hfw5
         clear hfw5 hf_w5
         obtain⟨b0,b1,b2,b3,b4,b5,b6,b7,g0,g1,g2,g3,g4,g5,g6,g7⟩:=hzw5
         cases o with
         | true =>
          clear b0 b1 b2 b3 b4 b5 b6 b7 g0 g1 g2 g3 g4 g5 g6 g7
          go_wp2
          exact⟨⟨i+1,by omega,by go_num,by rw[HSTEP.out];simp[zB],by rw[HSTEP.out];simpa [zB] using HROW5.out,HOW.out,HFW5.out,by rw[HSTEP.out];simp[zB];omega⟩,by simp[intOf];omega⟩
         | false =>
          go_wp2_with (at_builtin;go_must (refine zf rfl _ _ _ _ rfl _ _ (by rfl) (by rfl) (Zn w5 _ _ HROW5.out ⟨xn,xs,x0,x1,x2,x3,xv,xg⟩ hol2 _ (by repeat' first|(with_reducible first|apply G|assumption|apply O|apply U|apply V|apply z6)|(intro _;rfl)) _ (by exact Blk.new _ [_,_,_,_,_,_,_,_] _) _) ?_;rintro v6 w6 ⟨ho6,hf6,hn6⟩))
          refine⟨⟨i+1,?_,?_,?_,?_,?_,?_,?_⟩,?_⟩
          ·omega
          ·go_num
          ·rw[HSTEP.out];simp[zB]
          ·rw[HSTEP.out];simpa [zB] using ho6
          ·exact fun k hk=>(hn6 k hk).elim (HOW.out k) (fun h=>Nat.le_trans HFW5.out.size h)
          ·exact HFW5.out.trans' hf6 (fun k hk e=>by have:=(HOW.out) k e;omega)
          ·rw[HSTEP.out];simp[zB];omega
          ·simp[intOf];omega
        | true =>
         go_wp2_with (at_builtin;go_must (refine zf rfl _ _ _ _ rfl _ _ (by rfl) (by rfl) (Zn w2 _ _ HRW2.out ⟨node,seq,o0,o1,o2,o3,value,false⟩ hol2 _ (by repeat' first|(with_reducible first|apply G|assumption|apply O|apply U|apply V|apply z6)|(intro _;rfl)) _ (by exact Blk.new _ [_,_,_,_,_,_,_,_] _) _) ?_;rintro v4 w4 ⟨ho4,hf4,hn4⟩))
         obtain⟨va4,vc4,hv4⟩:=z8 (show w4.ownsRow 0 37 8 v4 (out++[(⟨node,seq,o0,o1,o2,o3,value,false⟩:Ver)]).length (zM (out++[(⟨node,seq,o0,o1,o2,o3,value,false⟩:Ver)])) from ho4)
         rw[show(out++[(⟨node,seq,o0,o1,o2,o3,value,false⟩:Ver)]).length=out.length+1 from by simp] at hv4
         have hfw4:Fr Nil w1 w4:=HFW2.out.trans' hf4 (fun k hk e=>by have:=HOW.out k e;omega)
         have HOW4:Hid (∀ k,v4.ownBlock=some k→w1.heap.size≤k):=Z (fun k hk=>(hn4 k hk).elim (HOW.out k) (fun h=>Nat.le_trans HFW2.out.size h))
         have HRW4:=Z ho4
         have HFW4:=Z hfw4
         obtain⟨c0,c1,c2,c3,c4,c5,c6,c7,d0,d1,d2,d3,d4,d5,d6,d7⟩:=HALL.out w4 hfw4
         subst hv4
         clear ho4 hf4 hn4 hfw4
         clear b0 b1 b2 b3 b4 b5 b6 b7 g0 g1 g2 g3 g4 g5 g6 g7
         go_wp2_with fail
         go_region_held3 (fun w'=>w'.cell? ⟨b,0,none⟩=some (.int .i64 node)∧w'.cell? ⟨b,1,none⟩=some (.int .i64 seq)∧w'.cell? ⟨b,2,none⟩=some (.int .i64 o0)∧w'.cell? ⟨b,3,none⟩=some (.int .i64 o1)∧w'.cell? ⟨b,4,none⟩=some (.int .i64 o2)∧w'.cell? ⟨b,5,none⟩=some (.int .i64 o3)∧w'.cell? ⟨b,6,none⟩=some (.string value)∧w'.cell? ⟨b,7,none⟩=some (.bool false)∧w'.cell? ⟨g,i*8,none⟩=some (.int .i64 xn)∧w'.cell? ⟨g,i*8+1,none⟩=some (.int .i64 xs)∧w'.cell? ⟨g,i*8+2,none⟩=some (.int .i64 x0)∧w'.cell? ⟨g,i*8+3,none⟩=some (.int .i64 x1)∧w'.cell? ⟨g,i*8+4,none⟩=some (.int .i64 x2)∧w'.cell? ⟨g,i*8+5,none⟩=some (.int .i64 x3)∧w'.cell? ⟨g,i*8+6,none⟩=some (.string xv)∧w'.cell? ⟨g,i*8+7,none⟩=some (.bool xg)) (first|assumption|go_keep|exact HALL.out _ (HFW4.out.trans (by repeat' first|(with_reducible first|apply G|assumption|apply O|apply U|apply V|apply z6)|(intro _;rfl))))
          (first|(go_at_call 159;refine(HO2.out _).mono ?_;rintro e w5 ⟨rfl,hf_w5⟩;have hfw5:Fr Nil w1 w5:=HFW4.out.trans (Fr.trans (by exact(by repeat' first|(with_reducible first|apply G|assumption|apply O|apply U|apply V|apply z6)|(intro _;rfl))) hf_w5);have hzw5:=HALL.out w5 hfw5))
         have HROW5:=Z (VRow.fr HRW4.out (Fr.trans (by exact(by repeat' first|(with_reducible first|apply G|assumption|apply O|apply U|apply V|apply z6)|(intro _;rfl))) hf_w5:Fr Nil w4 w5) (fun _ _=>id))
         have HFW5:=Z hfw5
         clear hfw5 hf_w5
         obtain⟨b0,b1,b2,b3,b4,b5,b6,b7,g0,g1,g2,g3,g4,g5,g6,g7⟩:=hzw5
         cases o with
         | true =>
          clear b0 b1 b2 b3 b4 b5 b6 b7 g0 g1 g2 g3 g4 g5 g6 g7
          go_wp2
          exact⟨⟨i+1,by omega,by go_num,by rw[HSTEP.out];simp[zB],by rw[HSTEP.out];simpa [zB] using HROW5.out,HOW4.out,HFW5.out,by rw[HSTEP.out];simp[zB];omega⟩,by simp[intOf];omega⟩
         | false =>
          go_wp2_with (at_builtin;go_must (refine zf rfl _ _ _ _ rfl _ _ (by rfl) (by rfl) (Zn w5 _ _ HROW5.out ⟨xn,xs,x0,x1,x2,x3,xv,xg⟩ (by simp;omega) _ (by repeat' first|(with_reducible first|apply G|assumption|apply O|apply U|apply V|apply z6)|(intro _;rfl)) _ (by exact Blk.new _ [_,_,_,_,_,_,_,_] _) _) ?_;rintro v6 w6 ⟨ho6,hf6,hn6⟩))
          refine⟨⟨i+1,?_,?_,?_,?_,?_,?_,?_⟩,?_⟩
          ·omega
          ·go_num
          ·rw[HSTEP.out];simp[zB]
          ·rw[HSTEP.out];simpa [zB] using ho6
          ·exact fun k hk=>(hn6 k hk).elim (HOW4.out k) (fun h=>Nat.le_trans HFW5.out.size h)
          ·exact HFW5.out.trans' hf6 (fun k hk e=>by have:=(HOW4.out) k e;omega)
          ·rw[HSTEP.out];simp[zB];omega
          ·simp[intOf];omega
      ·obtain rfl:i=old.length:=by omega
       rw[List.take_length] at hrw hol ⊢
       have hfin:XK old ⟨node,seq,o0,o1,o2,o3,value,false⟩=(old.foldl (zG ⟨node,seq,o0,o1,o2,o3,value,false⟩) ([],false)).1++if (old.foldl (zG ⟨node,seq,o0,o1,o2,o3,value,false⟩) ([],false)).2=true then [] else [⟨node,seq,o0,o1,o2,o3,value,false⟩]:=rfl
       generalize old.foldl (zG ⟨node,seq,o0,o1,o2,o3,value,false⟩) ([],false)=st at hrw hol hfin ⊢
       obtain⟨out,done⟩:=st
       simp only at hrw hol hfin ⊢
       obtain⟨ta,tc,rfl⟩:=z8 hrw
       have HRW:=Z hrw
       have HOW:=Z how
       have HFW:=Z hf
       have hol2:out.length<1000000:=by omega
       clear hrw how hf
       obtain⟨b0,b1,b2,b3,b4,b5,b6,b7⟩:wr.cell? ⟨b,0,none⟩=some (.int .i64 node)∧wr.cell? ⟨b,1,none⟩=some (.int .i64 seq)∧wr.cell? ⟨b,2,none⟩=some (.int .i64 o0)∧wr.cell? ⟨b,3,none⟩=some (.int .i64 o1)∧wr.cell? ⟨b,4,none⟩=some (.int .i64 o2)∧wr.cell? ⟨b,5,none⟩=some (.int .i64 o3)∧wr.cell? ⟨b,6,none⟩=some (.string value)∧wr.cell? ⟨b,7,none⟩=some (.bool false):=⟨hcb 0,hcb 1,hcb 2,hcb 3,hcb 4,hcb 5,hcb 6,hcb 7⟩
       clear hcb
       have HEND:Hid (∀ (wx:World) (f:Fr Nil w1 wx) (lv:Value) (l:List Ver),VRow wx lv l→(∀ k,lv.ownBlock=some k→w1.heap.size≤k)→Calls Tryz.prog 157 #[.pointer (some ⟨p,0,none⟩),.string key,lv] wx fun e w' =>
         ∃ nb,e=.returned (.pointer (some ⟨nb,0,none⟩))∧MRep (KGr K w w') w' nb {m with keys:=ZQ m.keys key l}∧Fr Nil w w'∧w.heap.size≤nb):=by
        intro wx f lv l hl hk
        have f02:=HF0.out.trans f
        refine(YZ (KGr K w wx) p m key lv l wx (MRep.nil ⟨kv,hvv,ents,HA.out,HB.out⟩ f02) hl (fun k hk'=>.inr ⟨Nat.le_trans HF0.out.size (hk k hk'),zA hl hk'⟩) hlen).mono ?_
        rintro e w' ⟨nb,rfl,h1,h2,h3⟩
        exact⟨nb,rfl,h1.mono (fun k hk=>hk.trans f02.size h2.size),f02.trans h2,Nat.le_trans f02.size h3⟩
       cases done with
       | true =>
        have HFIN:Hid (XK old ⟨node,seq,o0,o1,o2,o3,value,false⟩=out):=Z (by rw[hfin];simp)
        clear hfin b0 b1 b2 b3 b4 b5 b6 b7
        go_wp2_with fail
        refine(HEND.out wr HFW.out _ out HRW.out HOW.out).mono ?_
        rintro e w9 ⟨nb,rfl,h1,h2,h3⟩
        have H1:=Z h1
        clear h1
        go_wp2
        go_ret2
        exact .inr (.inr ⟨by rw[HVM.out];exact HW.out,nb,rfl,by unfold LM.accept;rw[HVM.out,HFIN.out];exact H1.out,h2,by first|exact h3|(rw[← HNB.out];exact h3)⟩)
       | false =>
        have HFIN:Hid (XK old ⟨node,seq,o0,o1,o2,o3,value,false⟩=out++[⟨node,seq,o0,o1,o2,o3,value,false⟩]):=Z (by rw[hfin];simp)
        clear hfin
        go_wp2_with (at_builtin;go_must (refine zf rfl _ _ _ _ rfl _ _ (by rfl) (by rfl) (Zn wr _ _ HRW.out ⟨node,seq,o0,o1,o2,o3,value,false⟩ hol2 _ (by repeat' first|(with_reducible first|apply G|assumption|apply O|apply U|apply V|apply z6)|(intro _;rfl)) _ (by exact Blk.new _ [_,_,_,_,_,_,_,_] _) _) ?_;rintro v6 w6 ⟨ho6,hf6,hn6⟩;have hf6w:Fr Nil w1 w6:=HFW.out.trans' hf6 (fun k hk e=>by have:=HOW.out k e;omega);have HROW6:=Z ho6;have HN6:Hid (∀ k,v6.ownBlock=some k→w1.heap.size≤k):=fun k hk=>(hn6 k hk).elim (HOW.out k) (fun h=>Nat.le_trans HFW.out.size h);have HFW6:=Z hf6w;clear ho6 hf6 hn6 hf6w b0 b1 b2 b3 b4 b5 b6 b7))
        refine(HEND.out w6 HFW6.out v6 (out++[⟨node,seq,o0,o1,o2,o3,value,false⟩]) HROW6.out HN6.out).mono ?_
        rintro e w9 ⟨nb,rfl,h1,h2,h3⟩
        have H1:=Z h1
        clear h1
        go_wp2
        go_ret2
        exact .inr (.inr ⟨by rw[HVM.out];exact HW.out,nb,rfl,by unfold LM.accept;rw[HVM.out,HFIN.out];exact H1.out,h2,by first|exact h3|(rw[← HNB.out];exact h3)⟩)
   | true =>
    by_cases hm:n=old.length
    ·have hm':((n:Int)==(old.length:Int))=true:=by simp[hm]
     have HW:Hid (zY old ⟨node,seq,o0,o1,o2,o3,value,true⟩=0):=Z (by rw[HW0.out,if_neg (fun x=>absurd x.1 (by decide)),if_pos ⟨rfl,hm⟩])
     have HFE:Hid (Fr Nil w wr):=HF0.out.trans HFW.out
     clear hm
     go_wp2
     go_ret2
     exact .inl ⟨by rw[HVM.out];exact HW.out,rfl,HFE.out⟩
    ·have hm':((n:Int)==(old.length:Int))=false:=by simp;omega
     have HW:Hid (zY old ⟨node,seq,o0,o1,o2,o3,value,true⟩=2):=Z (by rw[HW0.out,if_neg (fun x=>absurd x.1 (by decide)),if_neg (fun x=>hm x.2)])
     clear hm
     go_wp2_with fail
     go_loopw [14,15,16] (fun t14 t15 t16 w'=>∃ i:Nat,i≤old.length∧t16=.int .i64 i∧t15=.bool ((old.take i).foldl (zG ⟨node,seq,o0,o1,o2,o3,value,true⟩) ([],true)).2∧VRow w' t14 ((old.take i).foldl (zG ⟨node,seq,o0,o1,o2,o3,value,true⟩) ([],true)).1∧(∀ k,t14.ownBlock=some k→w1.heap.size≤k)∧Fr Nil w1 w'∧((old.take i).foldl (zG ⟨node,seq,o0,o1,o2,o3,value,true⟩) ([],true)).1.length≤2*i) (fun _ _ t16 _=>old.length-(intOf t16).toNat)
     case atStart=>exact⟨0,Nat.zero_le _,rfl,rfl,World.ownsRow_nil _ 0 _ _,fun k hk=>by simp[Value.ownBlock] at hk,HFW.out,Nat.le_refl _⟩
     case round =>
      obtain⟨i,hi,rfl,rfl,hrw,how,hf,hol⟩:=hrel
      have hcb:=(HVC.out.fr hf id).cell
      by_cases hlt:i<old.length
      ·obtain⟨g,rfl⟩:∃ g,va=some ⟨g,0,none⟩:=by
        obtain⟨g,cap,h,_⟩:=zi HROW.out (by omega)
        simp at h;exact⟨g,h.1⟩
       have HCX:Hid (∀ wx,Fr Nil w1 wx→∀ j,j<8→wx.cell? ⟨g,i*8+j,none⟩=old[i].cells[j]?):=fun wx f j hj8=>VRow.cells (z7 HROW.out f (fun _ _=>id)) i hlt j hj8
       have HCB:Hid (∀ wx,Fr Nil w1 wx→∀ j,wx.cell? ⟨b,j,none⟩=(Ver.cells ⟨node,seq,o0,o1,o2,o3,value,true⟩)[j]?):=fun wx f j=>(HVC.out.fr f id).cell j
       have hx:=HND.out old[i] (List.getElem_mem hlt)
       have HSTEP:Hid ((old.take (i+1)).foldl (zG ⟨node,seq,o0,o1,o2,o3,value,true⟩) ([],true)=zG ⟨node,seq,o0,o1,o2,o3,value,true⟩ ((old.take i).foldl (zG ⟨node,seq,o0,o1,o2,o3,value,true⟩) ([],true)) old[i]):=Z (by rw[List.take_succ_eq_append_getElem hlt,List.foldl_append];rfl)
       have HO2:=Z (fun W=>HOV.out ⟨node,seq,o0,o1,o2,o3,value,true⟩ old[i] W hx)
       generalize ((old.take i).foldl (zG ⟨node,seq,o0,o1,o2,o3,value,true⟩) ([],true))=st at hrw hol HSTEP ⊢
       obtain⟨out,done⟩:=st
       simp only at hrw hol ⊢
       obtain⟨ta,tc,rfl⟩:=z8 hrw
       have HRW:=Z hrw
       have HOW:=Z how
       have HFW:=Z hf
       have hol2:out.length<1000000:=by omega
       clear hx hrw how hf hcb
       generalize old[i]=x at HCX HSTEP HO2
       obtain⟨xn,xs,x0,x1,x2,x3,xv,xg⟩:=x
       have HBF:=Z (fun W=>Vl node seq xn xs W)
       simp only[Ver.cells] at HCX HCB HO2
       have HSTEP:Hid ((old.take (i+1)).foldl (zG ⟨node,seq,o0,o1,o2,o3,value,true⟩) ([],true)=zB out ⟨node,seq,o0,o1,o2,o3,value,true⟩ ⟨xn,xs,x0,x1,x2,x3,xv,xg⟩ done (zu (node,seq) (xn,xs)) (Ver.over ⟨node,seq,o0,o1,o2,o3,value,true⟩ ⟨xn,xs,x0,x1,x2,x3,xv,xg⟩)):=HSTEP
       have HALL:Hid (∀ wx,Fr Nil w1 wx→(fun w'=>w'.cell? ⟨b,0,none⟩=some (.int .i64 node)∧w'.cell? ⟨b,1,none⟩=some (.int .i64 seq)∧w'.cell? ⟨b,2,none⟩=some (.int .i64 o0)∧w'.cell? ⟨b,3,none⟩=some (.int .i64 o1)∧w'.cell? ⟨b,4,none⟩=some (.int .i64 o2)∧w'.cell? ⟨b,5,none⟩=some (.int .i64 o3)∧w'.cell? ⟨b,6,none⟩=some (.string value)∧w'.cell? ⟨b,7,none⟩=some (.bool true)∧w'.cell? ⟨g,i*8,none⟩=some (.int .i64 xn)∧w'.cell? ⟨g,i*8+1,none⟩=some (.int .i64 xs)∧w'.cell? ⟨g,i*8+2,none⟩=some (.int .i64 x0)∧w'.cell? ⟨g,i*8+3,none⟩=some (.int .i64 x1)∧w'.cell? ⟨g,i*8+4,none⟩=some (.int .i64 x2)∧w'.cell? ⟨g,i*8+5,none⟩=some (.int .i64 x3)∧w'.cell? ⟨g,i*8+6,none⟩=some (.string xv)∧w'.cell? ⟨g,i*8+7,none⟩=some (.bool xg)) wx):=fun wx f=>⟨HCB.out wx f 0,HCB.out wx f 1,HCB.out wx f 2,HCB.out wx f 3,HCB.out wx f 4,HCB.out wx f 5,HCB.out wx f 6,HCB.out wx f 7,HCX.out wx f 0 (by omega),HCX.out wx f 1 (by omega),HCX.out wx f 2 (by omega),HCX.out wx f 3 (by omega),HCX.out wx f 4 (by omega),HCX.out wx f 5 (by omega),HCX.out wx f 6 (by omega),HCX.out wx f 7 (by omega)⟩
       obtain⟨b0,b1,b2,b3,b4,b5,b6,b7,g0,g1,g2,g3,g4,g5,g6,g7⟩:=HALL.out wr HFW.out
       generalize zu (node,seq) (xn,xs)=fb at HBF HSTEP
       generalize Ver.over ⟨node,seq,o0,o1,o2,o3,value,true⟩ ⟨xn,xs,x0,x1,x2,x3,xv,xg⟩=o at HO2 HSTEP
       go_wp2_with fail
       go_region_held3 (fun w'=>w'.cell? ⟨b,0,none⟩=some (.int .i64 node)∧w'.cell? ⟨b,1,none⟩=some (.int .i64 seq)∧w'.cell? ⟨b,2,none⟩=some (.int .i64 o0)∧w'.cell? ⟨b,3,none⟩=some (.int .i64 o1)∧w'.cell? ⟨b,4,none⟩=some (.int .i64 o2)∧w'.cell? ⟨b,5,none⟩=some (.int .i64 o3)∧w'.cell? ⟨b,6,none⟩=some (.string value)∧w'.cell? ⟨b,7,none⟩=some (.bool true)∧w'.cell? ⟨g,i*8,none⟩=some (.int .i64 xn)∧w'.cell? ⟨g,i*8+1,none⟩=some (.int .i64 xs)∧w'.cell? ⟨g,i*8+2,none⟩=some (.int .i64 x0)∧w'.cell? ⟨g,i*8+3,none⟩=some (.int .i64 x1)∧w'.cell? ⟨g,i*8+4,none⟩=some (.int .i64 x2)∧w'.cell? ⟨g,i*8+5,none⟩=some (.int .i64 x3)∧w'.cell? ⟨g,i*8+6,none⟩=some (.string xv)∧w'.cell? ⟨g,i*8+7,none⟩=some (.bool xg)) (first|assumption|go_keep|exact HALL.out _ (HFW.out.trans (by repeat' first|(with_reducible first|apply G|assumption|apply O|apply U|apply V|apply z6)|(intro _;rfl))))
        (first|(go_at_call 160;refine(HBF.out _).mono ?_;rintro e w2 ⟨rfl,hf_w2⟩;have hfw2:Fr Nil w1 w2:=HFW.out.trans (Fr.trans (by exact(by repeat' first|(with_reducible first|apply G|assumption|apply O|apply U|apply V|apply z6)|(intro _;rfl))) hf_w2);have hzw2:=HALL.out w2 hfw2))
       have HRW2:=Z (VRow.fr HRW.out (Fr.trans (by exact(by repeat' first|(with_reducible first|apply G|assumption|apply O|apply U|apply V|apply z6)|(intro _;rfl))) hf_w2:Fr Nil wr w2) (fun _ _=>id))
       have HFW2:=Z hfw2
       clear hfw2 hf_w2 b0 b1 b2 b3 b4 b5 b6 b7 g0 g1 g2 g3 g4 g5 g6 g7
       obtain⟨b0,b1,b2,b3,b4,b5,b6,b7,g0,g1,g2,g3,g4,g5,g6,g7⟩:=hzw2
       cases done with
       | true =>
        cases fb with
        | false =>
         go_wp2_with fail
         go_region_held3 (fun w'=>w'.cell? ⟨b,0,none⟩=some (.int .i64 node)∧w'.cell? ⟨b,1,none⟩=some (.int .i64 seq)∧w'.cell? ⟨b,2,none⟩=some (.int .i64 o0)∧w'.cell? ⟨b,3,none⟩=some (.int .i64 o1)∧w'.cell? ⟨b,4,none⟩=some (.int .i64 o2)∧w'.cell? ⟨b,5,none⟩=some (.int .i64 o3)∧w'.cell? ⟨b,6,none⟩=some (.string value)∧w'.cell? ⟨b,7,none⟩=some (.bool true)∧w'.cell? ⟨g,i*8,none⟩=some (.int .i64 xn)∧w'.cell? ⟨g,i*8+1,none⟩=some (.int .i64 xs)∧w'.cell? ⟨g,i*8+2,none⟩=some (.int .i64 x0)∧w'.cell? ⟨g,i*8+3,none⟩=some (.int .i64 x1)∧w'.cell? ⟨g,i*8+4,none⟩=some (.int .i64 x2)∧w'.cell? ⟨g,i*8+5,none⟩=some (.int .i64 x3)∧w'.cell? ⟨g,i*8+6,none⟩=some (.string xv)∧w'.cell? ⟨g,i*8+7,none⟩=some (.bool xg)) (first|assumption|go_keep|exact HALL.out _ (HFW2.out.trans (by repeat' first|(with_reducible first|apply G|assumption|apply O|apply U|apply V|apply z6)|(intro _;rfl))))
          (first|(go_at_call 159;refine(HO2.out _).mono ?_;rintro e w5 ⟨rfl,hf_w5⟩;have hfw5:Fr Nil w1 w5:=HFW2.out.trans (Fr.trans (by exact(by repeat' first|(with_reducible first|apply G|assumption|apply O|apply U|apply V|apply z6)|(intro _;rfl))) hf_w5);have hzw5:=HALL.out w5 hfw5))
         have HROW5:=Z (VRow.fr HRW2.out (Fr.trans (by exact(by repeat' first|(with_reducible first|apply G|assumption|apply O|apply U|apply V|apply z6)|(intro _;rfl))) hf_w5:Fr Nil w2 w5) (fun _ _=>id))
         have HFW5:=Z hfw5
         clear hfw5 hf_w5
         obtain⟨b0,b1,b2,b3,b4,b5,b6,b7,g0,g1,g2,g3,g4,g5,g6,g7⟩:=hzw5
         cases o with
         | true =>
          clear b0 b1 b2 b3 b4 b5 b6 b7 g0 g1 g2 g3 g4 g5 g6 g7
          go_wp2
          exact⟨⟨i+1,by omega,by go_num,by rw[HSTEP.out];simp[zB],by rw[HSTEP.out];simpa [zB] using HROW5.out,HOW.out,HFW5.out,by rw[HSTEP.out];simp[zB];omega⟩,by simp[intOf];omega⟩
         | false =>
          go_wp2_with (at_builtin;go_must (refine zf rfl _ _ _ _ rfl _ _ (by rfl) (by rfl) (Zn w5 _ _ HROW5.out ⟨xn,xs,x0,x1,x2,x3,xv,xg⟩ hol2 _ (by repeat' first|(with_reducible first|apply G|assumption|apply O|apply U|apply V|apply z6)|(intro _;rfl)) _ (by exact Blk.new _ [_,_,_,_,_,_,_,_] _) _) ?_;rintro v6 w6 ⟨ho6,hf6,hn6⟩))
          refine⟨⟨i+1,?_,?_,?_,?_,?_,?_,?_⟩,?_⟩
          ·omega
          ·go_num
          ·rw[HSTEP.out];simp[zB]
          ·rw[HSTEP.out];simpa [zB] using ho6
          ·exact fun k hk=>(hn6 k hk).elim (HOW.out k) (fun h=>Nat.le_trans HFW5.out.size h)
          ·exact HFW5.out.trans' hf6 (fun k hk e=>by have:=(HOW.out) k e;omega)
          ·rw[HSTEP.out];simp[zB];omega
          ·simp[intOf];omega
        | true =>
         go_wp2_with fail
         go_region_held3 (fun w'=>w'.cell? ⟨b,0,none⟩=some (.int .i64 node)∧w'.cell? ⟨b,1,none⟩=some (.int .i64 seq)∧w'.cell? ⟨b,2,none⟩=some (.int .i64 o0)∧w'.cell? ⟨b,3,none⟩=some (.int .i64 o1)∧w'.cell? ⟨b,4,none⟩=some (.int .i64 o2)∧w'.cell? ⟨b,5,none⟩=some (.int .i64 o3)∧w'.cell? ⟨b,6,none⟩=some (.string value)∧w'.cell? ⟨b,7,none⟩=some (.bool true)∧w'.cell? ⟨g,i*8,none⟩=some (.int .i64 xn)∧w'.cell? ⟨g,i*8+1,none⟩=some (.int .i64 xs)∧w'.cell? ⟨g,i*8+2,none⟩=some (.int .i64 x0)∧w'.cell? ⟨g,i*8+3,none⟩=some (.int .i64 x1)∧w'.cell? ⟨g,i*8+4,none⟩=some (.int .i64 x2)∧w'.cell? ⟨g,i*8+5,none⟩=some (.int .i64 x3)∧w'.cell? ⟨g,i*8+6,none⟩=some (.string xv)∧w'.cell? ⟨g,i*8+7,none⟩=some (.bool xg)) (first|assumption|go_keep|exact HALL.out _ (HFW2.out.trans (by repeat' first|(with_reducible first|apply G|assumption|apply O|apply U|apply V|apply z6)|(intro _;rfl))))
          (first|(go_at_call 159;refine(HO2.out _).mono ?_;rintro e w5 ⟨rfl,hf_w5⟩;have hfw5:Fr Nil w1 w5:=HFW2.out.trans (Fr.trans (by exact(by repeat' first|(with_reducible first|apply G|assumption|apply O|apply U|apply V|apply z6)|(intro _;rfl))) hf_w5);have hzw5:=HALL.out w5 hfw5))
         have HROW5:=Z (VRow.fr HRW2.out (Fr.trans (by exact(by repeat' first|(with_reducible first|apply G|assumption|apply O|apply U|apply V|apply z6)|(intro _;rfl))) hf_w5:Fr Nil w2 w5) (fun _ _=>id))
         have HFW5:=Z hfw5
         clear hfw5 hf_w5
         obtain⟨b0,b1,b2,b3,b4,b5,b6,b7,g0,g1,g2,g3,g4,g5,g6,g7⟩:=hzw5
         cases o with
         | true =>
          clear b0 b1 b2 b3 b4 b5 b6 b7 g0 g1 g2 g3 g4 g5 g6 g7
          go_wp2
          exact⟨⟨i+1,by omega,by go_num,by rw[HSTEP.out];simp[zB],by rw[HSTEP.out];simpa [zB] using HROW5.out,HOW.out,HFW5.out,by rw[HSTEP.out];simp[zB];omega⟩,by simp[intOf];omega⟩
         | false =>
          go_wp2_with (at_builtin;go_must (refine zf rfl _ _ _ _ rfl _ _ (by rfl) (by rfl) (Zn w5 _ _ HROW5.out ⟨xn,xs,x0,x1,x2,x3,xv,xg⟩ hol2 _ (by repeat' first|(with_reducible first|apply G|assumption|apply O|apply U|apply V|apply z6)|(intro _;rfl)) _ (by exact Blk.new _ [_,_,_,_,_,_,_,_] _) _) ?_;rintro v6 w6 ⟨ho6,hf6,hn6⟩))
          refine⟨⟨i+1,?_,?_,?_,?_,?_,?_,?_⟩,?_⟩
          ·omega
          ·go_num
          ·rw[HSTEP.out];simp[zB]
          ·rw[HSTEP.out];simpa [zB] using ho6
          ·exact fun k hk=>(hn6 k hk).elim (HOW.out k) (fun h=>Nat.le_trans HFW5.out.size h)
          ·exact HFW5.out.trans' hf6 (fun k hk e=>by have:=(HOW.out) k e;omega)
          ·rw[HSTEP.out];simp[zB];omega
          ·simp[intOf];omega
       | false =>
        cases fb with
        | false =>
         go_wp2_with fail
         go_region_held3 (fun w'=>w'.cell? ⟨b,0,none⟩=some (.int .i64 node)∧w'.cell? ⟨b,1,none⟩=some (.int .i64 seq)∧w'.cell? ⟨b,2,none⟩=some (.int .i64 o0)∧w'.cell? ⟨b,3,none⟩=some (.int .i64 o1)∧w'.cell? ⟨b,4,none⟩=some (.int .i64 o2)∧w'.cell? ⟨b,5,none⟩=some (.int .i64 o3)∧w'.cell? ⟨b,6,none⟩=some (.string value)∧w'.cell? ⟨b,7,none⟩=some (.bool true)∧w'.cell? ⟨g,i*8,none⟩=some (.int .i64 xn)∧w'.cell? ⟨g,i*8+1,none⟩=some (.int .i64 xs)∧w'.cell? ⟨g,i*8+2,none⟩=some (.int .i64 x0)∧w'.cell? ⟨g,i*8+3,none⟩=some (.int .i64 x1)∧w'.cell? ⟨g,i*8+4,none⟩=some (.int .i64 x2)∧w'.cell? ⟨g,i*8+5,none⟩=some (.int .i64 x3)∧w'.cell? ⟨g,i*8+6,none⟩=some (.string xv)∧w'.cell? ⟨g,i*8+7,none⟩=some (.bool xg)) (first|assumption|go_keep|exact HALL.out _ (HFW2.out.trans (by repeat' first|(with_reducible first|apply G|assumption|apply O|apply U|apply V|apply z6)|(intro _;rfl))))
          (first|(go_at_call 159;refine(HO2.out _).mono ?_;rintro e w5 ⟨rfl,hf_w5⟩;have hfw5:Fr Nil w1 w5:=HFW2.out.trans (Fr.trans (by exact(by repeat' first|(with_reducible first|apply G|assumption|apply O|apply U|apply V|apply z6)|(intro _;rfl))) hf_w5);have hzw5:=HALL.out w5 hfw5))
         have HROW5:=Z (VRow.fr HRW2.out (Fr.trans (by exact(by repeat' first|(with_reducible first|apply G|assumption|apply O|apply U|apply V|apply z6)|(intro _;rfl))) hf_w5:Fr Nil w2 w5) (fun _ _=>id))
         have HFW5:=Z hfw5
         clear hfw5 hf_w5
         obtain⟨b0,b1,b2,b3,b4,b5,b6,b7,g0,g1,g2,g3,g4,g5,g6,g7⟩:=hzw5
         cases o with
         | true =>
          clear b0 b1 b2 b3 b4 b5 b6 b7 g0 g1 g2 g3 g4 g5 g6 g7
          go_wp2
          exact⟨⟨i+1,by omega,by go_num,by rw[HSTEP.out];simp[zB],by rw[HSTEP.out];simpa [zB] using HROW5.out,HOW.out,HFW5.out,by rw[HSTEP.out];simp[zB];omega⟩,by simp[intOf];omega⟩
         | false =>
          go_wp2_with (at_builtin;go_must (refine zf rfl _ _ _ _ rfl _ _ (by rfl) (by rfl) (Zn w5 _ _ HROW5.out ⟨xn,xs,x0,x1,x2,x3,xv,xg⟩ hol2 _ (by repeat' first|(with_reducible first|apply G|assumption|apply O|apply U|apply V|apply z6)|(intro _;rfl)) _ (by exact Blk.new _ [_,_,_,_,_,_,_,_] _) _) ?_;rintro v6 w6 ⟨ho6,hf6,hn6⟩))
          refine⟨⟨i+1,?_,?_,?_,?_,?_,?_,?_⟩,?_⟩
          ·omega
          ·go_num
          ·rw[HSTEP.out];simp[zB]
          ·rw[HSTEP.out];simpa [zB] using ho6
          ·exact fun k hk=>(hn6 k hk).elim (HOW.out k) (fun h=>Nat.le_trans HFW5.out.size h)
          ·exact HFW5.out.trans' hf6 (fun k hk e=>by have:=(HOW.out) k e;omega)
          ·rw[HSTEP.out];simp[zB];omega
          ·simp[intOf];omega
        | true =>
         go_wp2_with (at_builtin;go_must (refine zf rfl _ _ _ _ rfl _ _ (by rfl) (by rfl) (Zn w2 _ _ HRW2.out ⟨node,seq,o0,o1,o2,o3,value,true⟩ hol2 _ (by repeat' first|(with_reducible first|apply G|assumption|apply O|apply U|apply V|apply z6)|(intro _;rfl)) _ (by exact Blk.new _ [_,_,_,_,_,_,_,_] _) _) ?_;rintro v4 w4 ⟨ho4,hf4,hn4⟩))
         obtain⟨va4,vc4,hv4⟩:=z8 (show w4.ownsRow 0 37 8 v4 (out++[(⟨node,seq,o0,o1,o2,o3,value,true⟩:Ver)]).length (zM (out++[(⟨node,seq,o0,o1,o2,o3,value,true⟩:Ver)])) from ho4)
         rw[show(out++[(⟨node,seq,o0,o1,o2,o3,value,true⟩:Ver)]).length=out.length+1 from by simp] at hv4
         have hfw4:Fr Nil w1 w4:=HFW2.out.trans' hf4 (fun k hk e=>by have:=HOW.out k e;omega)
         have HOW4:Hid (∀ k,v4.ownBlock=some k→w1.heap.size≤k):=Z (fun k hk=>(hn4 k hk).elim (HOW.out k) (fun h=>Nat.le_trans HFW2.out.size h))
         have HRW4:=Z ho4
         have HFW4:=Z hfw4
         obtain⟨c0,c1,c2,c3,c4,c5,c6,c7,d0,d1,d2,d3,d4,d5,d6,d7⟩:=HALL.out w4 hfw4
         subst hv4
         clear ho4 hf4 hn4 hfw4
         clear b0 b1 b2 b3 b4 b5 b6 b7 g0 g1 g2 g3 g4 g5 g6 g7
         go_wp2_with fail
         go_region_held3 (fun w'=>w'.cell? ⟨b,0,none⟩=some (.int .i64 node)∧w'.cell? ⟨b,1,none⟩=some (.int .i64 seq)∧w'.cell? ⟨b,2,none⟩=some (.int .i64 o0)∧w'.cell? ⟨b,3,none⟩=some (.int .i64 o1)∧w'.cell? ⟨b,4,none⟩=some (.int .i64 o2)∧w'.cell? ⟨b,5,none⟩=some (.int .i64 o3)∧w'.cell? ⟨b,6,none⟩=some (.string value)∧w'.cell? ⟨b,7,none⟩=some (.bool true)∧w'.cell? ⟨g,i*8,none⟩=some (.int .i64 xn)∧w'.cell? ⟨g,i*8+1,none⟩=some (.int .i64 xs)∧w'.cell? ⟨g,i*8+2,none⟩=some (.int .i64 x0)∧w'.cell? ⟨g,i*8+3,none⟩=some (.int .i64 x1)∧w'.cell? ⟨g,i*8+4,none⟩=some (.int .i64 x2)∧w'.cell? ⟨g,i*8+5,none⟩=some (.int .i64 x3)∧w'.cell? ⟨g,i*8+6,none⟩=some (.string xv)∧w'.cell? ⟨g,i*8+7,none⟩=some (.bool xg)) (first|assumption|go_keep|exact HALL.out _ (HFW4.out.trans (by repeat' first|(with_reducible first|apply G|assumption|apply O|apply U|apply V|apply z6)|(intro _;rfl))))
          (first|(go_at_call 159;refine(HO2.out _).mono ?_;rintro e w5 ⟨rfl,hf_w5⟩;have hfw5:Fr Nil w1 w5:=HFW4.out.trans (Fr.trans (by exact(by repeat' first|(with_reducible first|apply G|assumption|apply O|apply U|apply V|apply z6)|(intro _;rfl))) hf_w5);have hzw5:=HALL.out w5 hfw5))
         have HROW5:=Z (VRow.fr HRW4.out (Fr.trans (by exact(by repeat' first|(with_reducible first|apply G|assumption|apply O|apply U|apply V|apply z6)|(intro _;rfl))) hf_w5:Fr Nil w4 w5) (fun _ _=>id))
         have HFW5:=Z hfw5
         clear hfw5 hf_w5
         obtain⟨b0,b1,b2,b3,b4,b5,b6,b7,g0,g1,g2,g3,g4,g5,g6,g7⟩:=hzw5
         cases o with
         | true =>
          clear b0 b1 b2 b3 b4 b5 b6 b7 g0 g1 g2 g3 g4 g5 g6 g7
          go_wp2
          exact⟨⟨i+1,by omega,by go_num,by rw[HSTEP.out];simp[zB],by rw[HSTEP.out];simpa [zB] using HROW5.out,HOW4.out,HFW5.out,by rw[HSTEP.out];simp[zB];omega⟩,by simp[intOf];omega⟩
         | false =>
          go_wp2_with (at_builtin;go_must (refine zf rfl _ _ _ _ rfl _ _ (by rfl) (by rfl) (Zn w5 _ _ HROW5.out ⟨xn,xs,x0,x1,x2,x3,xv,xg⟩ (by simp;omega) _ (by repeat' first|(with_reducible first|apply G|assumption|apply O|apply U|apply V|apply z6)|(intro _;rfl)) _ (by exact Blk.new _ [_,_,_,_,_,_,_,_] _) _) ?_;rintro v6 w6 ⟨ho6,hf6,hn6⟩))
          refine⟨⟨i+1,?_,?_,?_,?_,?_,?_,?_⟩,?_⟩
          ·omega
          ·go_num
          ·rw[HSTEP.out];simp[zB]
          ·rw[HSTEP.out];simpa [zB] using ho6
          ·exact fun k hk=>(hn6 k hk).elim (HOW4.out k) (fun h=>Nat.le_trans HFW5.out.size h)
          ·exact HFW5.out.trans' hf6 (fun k hk e=>by have:=(HOW4.out) k e;omega)
          ·rw[HSTEP.out];simp[zB];omega
          ·simp[intOf];omega
      ·obtain rfl:i=old.length:=by omega
       rw[List.take_length] at hrw hol ⊢
       have hfin:XK old ⟨node,seq,o0,o1,o2,o3,value,true⟩=(old.foldl (zG ⟨node,seq,o0,o1,o2,o3,value,true⟩) ([],true)).1++if (old.foldl (zG ⟨node,seq,o0,o1,o2,o3,value,true⟩) ([],true)).2=true then [] else [⟨node,seq,o0,o1,o2,o3,value,true⟩]:=rfl
       generalize old.foldl (zG ⟨node,seq,o0,o1,o2,o3,value,true⟩) ([],true)=st at hrw hol hfin ⊢
       obtain⟨out,done⟩:=st
       simp only at hrw hol hfin ⊢
       obtain⟨ta,tc,rfl⟩:=z8 hrw
       have HRW:=Z hrw
       have HOW:=Z how
       have HFW:=Z hf
       have hol2:out.length<1000000:=by omega
       clear hrw how hf
       obtain⟨b0,b1,b2,b3,b4,b5,b6,b7⟩:wr.cell? ⟨b,0,none⟩=some (.int .i64 node)∧wr.cell? ⟨b,1,none⟩=some (.int .i64 seq)∧wr.cell? ⟨b,2,none⟩=some (.int .i64 o0)∧wr.cell? ⟨b,3,none⟩=some (.int .i64 o1)∧wr.cell? ⟨b,4,none⟩=some (.int .i64 o2)∧wr.cell? ⟨b,5,none⟩=some (.int .i64 o3)∧wr.cell? ⟨b,6,none⟩=some (.string value)∧wr.cell? ⟨b,7,none⟩=some (.bool true):=⟨hcb 0,hcb 1,hcb 2,hcb 3,hcb 4,hcb 5,hcb 6,hcb 7⟩
       clear hcb
       have HEND:Hid (∀ (wx:World) (f:Fr Nil w1 wx) (lv:Value) (l:List Ver),VRow wx lv l→(∀ k,lv.ownBlock=some k→w1.heap.size≤k)→Calls Tryz.prog 157 #[.pointer (some ⟨p,0,none⟩),.string key,lv] wx fun e w' =>
         ∃ nb,e=.returned (.pointer (some ⟨nb,0,none⟩))∧MRep (KGr K w w') w' nb {m with keys:=ZQ m.keys key l}∧Fr Nil w w'∧w.heap.size≤nb):=by
        intro wx f lv l hl hk
        have f02:=HF0.out.trans f
        refine(YZ (KGr K w wx) p m key lv l wx (MRep.nil ⟨kv,hvv,ents,HA.out,HB.out⟩ f02) hl (fun k hk'=>.inr ⟨Nat.le_trans HF0.out.size (hk k hk'),zA hl hk'⟩) hlen).mono ?_
        rintro e w' ⟨nb,rfl,h1,h2,h3⟩
        exact⟨nb,rfl,h1.mono (fun k hk=>hk.trans f02.size h2.size),f02.trans h2,Nat.le_trans f02.size h3⟩
       cases done with
       | true =>
        have HFIN:Hid (XK old ⟨node,seq,o0,o1,o2,o3,value,true⟩=out):=Z (by rw[hfin];simp)
        clear hfin b0 b1 b2 b3 b4 b5 b6 b7
        go_wp2_with fail
        refine(HEND.out wr HFW.out _ out HRW.out HOW.out).mono ?_
        rintro e w9 ⟨nb,rfl,h1,h2,h3⟩
        have H1:=Z h1
        clear h1
        go_wp2
        go_ret2
        exact .inr (.inr ⟨by rw[HVM.out];exact HW.out,nb,rfl,by unfold LM.accept;rw[HVM.out,HFIN.out];exact H1.out,h2,by first|exact h3|(rw[← HNB.out];exact h3)⟩)
       | false =>
        have HFIN:Hid (XK old ⟨node,seq,o0,o1,o2,o3,value,true⟩=out++[⟨node,seq,o0,o1,o2,o3,value,true⟩]):=Z (by rw[hfin];simp)
        clear hfin
        go_wp2_with (at_builtin;go_must (refine zf rfl _ _ _ _ rfl _ _ (by rfl) (by rfl) (Zn wr _ _ HRW.out ⟨node,seq,o0,o1,o2,o3,value,true⟩ hol2 _ (by repeat' first|(with_reducible first|apply G|assumption|apply O|apply U|apply V|apply z6)|(intro _;rfl)) _ (by exact Blk.new _ [_,_,_,_,_,_,_,_] _) _) ?_;rintro v6 w6 ⟨ho6,hf6,hn6⟩;have hf6w:Fr Nil w1 w6:=HFW.out.trans' hf6 (fun k hk e=>by have:=HOW.out k e;omega);have HROW6:=Z ho6;have HN6:Hid (∀ k,v6.ownBlock=some k→w1.heap.size≤k):=fun k hk=>(hn6 k hk).elim (HOW.out k) (fun h=>Nat.le_trans HFW.out.size h);have HFW6:=Z hf6w;clear ho6 hf6 hn6 hf6w b0 b1 b2 b3 b4 b5 b6 b7))
        refine(HEND.out w6 HFW6.out v6 (out++[⟨node,seq,o0,o1,o2,o3,value,true⟩]) HROW6.out HN6.out).mono ?_
        rintro e w9 ⟨nb,rfl,h1,h2,h3⟩
        have H1:=Z h1
        clear h1
        go_wp2
        go_ret2
        exact .inr (.inr ⟨by rw[HVM.out];exact HW.out,nb,rfl,by unfold LM.accept;rw[HVM.out,HFIN.out];exact H1.out,h2,by first|exact h3|(rw[← HNB.out];exact h3)⟩)
end Go.Proofs.YtkhnggkkiefcdaaGreatDoor
