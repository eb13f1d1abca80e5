/- larder: joined texts -/
import Derived.Test.YtkhnggkkiefcdaaGreatDoorRAAO
import Derived.Laws.Rows
namespace Go.Proofs.YtkhnggkkiefcdaaGreatDoor
open Go.RowKit
set_option maxRecDepth 100000
set_option maxHeartbeats 8000000
theorem Xj(v1 v2:Value)(l1 l2:List Ver)(w:World)(h1:VRow w v1 l1)(h2:VRow w v2 l2)(hl:l1.length<1000000000) :
  Calls Tryz.prog 118 #[v1,v2] w fun e w'=>∃ b:Bool,e=.returned (.bool b)∧(b=true↔l1=l2)∧Fr Nil w w':=by
 unfold VRow at h1 h2
 obtain⟨a1,c1,rfl⟩:=z8 h1
 obtain⟨a2,c2,rfl⟩:=z8 h2
 have H1:=Z h1
 have H2:=Z h2
 clear h1 h2
 by_cases hlen:l1.length=l2.length
 ·have HL:=Z hlen
  generalize hn:l1.length=n at hl hlen H1 ⊢
  rw[← hlen] at H2 ⊢
  have HN:=Z hn
  clear hlen hn
  go_enter Tryz.func118,Tryz.ntmps118
  go_wp2_with fail
  go_loopw [5] (fun t5 w'=>∃ i:Nat,i≤n∧t5=.int .i64 i∧(∀ j (h1:j<l1.length) (h2:j<l2.length),j<i→l1[j]=l2[j])∧Fr Nil w w') (fun t5 _=>n-(intOf t5).toNat)
  case atStart=>exact⟨0,by omega,rfl,fun j _ _ h=>absurd h (Nat.not_lt_zero _),G _ _⟩
  case round =>
   obtain⟨i,hi,rfl,hs,hf⟩:=hrel
   by_cases hlt:i<n
   ·have hi1:i<l1.length:=by have:=HN.out;omega
    have hi2:i<l2.length:=by have:=HL.out;omega
    obtain⟨g1,c1',e1,_,_⟩:=zi H1.out (by omega)
    obtain⟨g2,c2',e2,_,_⟩:=zi H2.out (by omega)
    simp only[Value.slice.injEq] at e1 e2
    obtain⟨rfl,-,-⟩:=e1
    obtain⟨rfl,-,-⟩:=e2
    have hx1:∀ wx,Fr Nil wr wx→∀ k,k<8→wx.cell? ⟨g1,i*8+k,none⟩=l1[i].cells[k]?:=fun wx f k hk=>VRow.cells (z7 H1.out (hf.trans f) (fun _ _=>id)) i hi1 k hk
    have hx2:∀ wx,Fr Nil wr wx→∀ k,k<8→wx.cell? ⟨g2,i*8+k,none⟩=l2[i].cells[k]?:=fun wx f k hk=>VRow.cells (z7 H2.out (hf.trans f) (fun _ _=>id)) i hi2 k hk
    have HNE:=Z (show ¬l1[i]=l2[i]→¬l1=l2 from fun e h=>by subst h;exact e rfl)
    have HS:=Z hs
    have HF:=Z hf
    obtain⟨V1,hp1⟩:∃ p,p=l1[i]:=⟨_,rfl⟩
    obtain⟨V2,hp2⟩:∃ p,p=l2[i]:=⟨_,rfl⟩
    rw[← hp1] at hx1
    rw[← hp2] at hx2
    have HP1:=Z hp1
    have HP2:=Z hp2
    have HSV:=Z (fun wx=>Ym V1 V2 wx)
    obtain⟨b,hb⟩:∃ b,b=Z7 V1 V2:=⟨_,rfl⟩
    rw[← hb] at HSV
    have HB:=Z hb
    obtain⟨node,seq,o0,o1,o2,o3,value,gone⟩:=V1
    obtain⟨node',seq',o0',o1',o2',o3',value',gone'⟩:=V2
    simp only[Ver.cells] at hx1 hx2 HSV
    clear hp1 hp2 hs hf hb
    have HCC:Hid (∀ wx,Fr Nil wr wx→wx.cell? ⟨g1,i*8,none⟩=some (.int .i64 node)∧wx.cell? ⟨g1,i*8+1,none⟩=some (.int .i64 seq)∧wx.cell? ⟨g1,i*8+2,none⟩=some (.int .i64 o0)∧wx.cell? ⟨g1,i*8+3,none⟩=some (.int .i64 o1)∧wx.cell? ⟨g1,i*8+4,none⟩=some (.int .i64 o2)∧wx.cell? ⟨g1,i*8+5,none⟩=some (.int .i64 o3)∧wx.cell? ⟨g1,i*8+6,none⟩=some (.string value)∧wx.cell? ⟨g1,i*8+7,none⟩=some (.bool gone)∧wx.cell? ⟨g2,i*8,none⟩=some (.int .i64 node')∧wx.cell? ⟨g2,i*8+1,none⟩=some (.int .i64 seq')∧wx.cell? ⟨g2,i*8+2,none⟩=some (.int .i64 o0')∧wx.cell? ⟨g2,i*8+3,none⟩=some (.int .i64 o1')∧wx.cell? ⟨g2,i*8+4,none⟩=some (.int .i64 o2')∧wx.cell? ⟨g2,i*8+5,none⟩=some (.int .i64 o3')∧wx.cell? ⟨g2,i*8+6,none⟩=some (.string value')∧wx.cell? ⟨g2,i*8+7,none⟩=some (.bool gone')):=fun wx f=>⟨hx1 wx f 0 (by decide),hx1 wx f 1 (by decide),hx1 wx f 2 (by decide),hx1 wx f 3 (by decide),hx1 wx f 4 (by decide),hx1 wx f 5 (by decide),hx1 wx f 6 (by decide),hx1 wx f 7 (by decide),hx2 wx f 0 (by decide),hx2 wx f 1 (by decide),hx2 wx f 2 (by decide),hx2 wx f 3 (by decide),hx2 wx f 4 (by decide),hx2 wx f 5 (by decide),hx2 wx f 6 (by decide),hx2 wx f 7 (by decide)⟩
    have hcc:=HCC.out wr (G _ _)
    clear hx1 hx2
    cases b with
    | true =>
     go_wp2_with fail
     go_region_held3 (fun w'=>w'.cell? ⟨g1,i*8,none⟩=some (.int .i64 node)∧w'.cell? ⟨g1,i*8+1,none⟩=some (.int .i64 seq)∧w'.cell? ⟨g1,i*8+2,none⟩=some (.int .i64 o0)∧w'.cell? ⟨g1,i*8+3,none⟩=some (.int .i64 o1)∧w'.cell? ⟨g1,i*8+4,none⟩=some (.int .i64 o2)∧w'.cell? ⟨g1,i*8+5,none⟩=some (.int .i64 o3)∧w'.cell? ⟨g1,i*8+6,none⟩=some (.string value)∧w'.cell? ⟨g1,i*8+7,none⟩=some (.bool gone)∧w'.cell? ⟨g2,i*8,none⟩=some (.int .i64 node')∧w'.cell? ⟨g2,i*8+1,none⟩=some (.int .i64 seq')∧w'.cell? ⟨g2,i*8+2,none⟩=some (.int .i64 o0')∧w'.cell? ⟨g2,i*8+3,none⟩=some (.int .i64 o1')∧w'.cell? ⟨g2,i*8+4,none⟩=some (.int .i64 o2')∧w'.cell? ⟨g2,i*8+5,none⟩=some (.int .i64 o3')∧w'.cell? ⟨g2,i*8+6,none⟩=some (.string value')∧w'.cell? ⟨g2,i*8+7,none⟩=some (.bool gone')) (first|assumption|go_keep)
      (first|(go_at_call 67;refine(HSV.out _).mono ?_;rintro e w2 ⟨rfl,hf2⟩;have hF2:Fr Nil wr w2:=Fr.trans (by repeat' first|(with_reducible first|apply G|assumption|apply O|apply U|apply V|apply z6)|(intro _;rfl)) hf2;have hz2:=HCC.out w2 hF2;have HF2:=Z hF2;clear hf2 hF2))
     clear hcc hz2
     go_wp2_with fail
     refine⟨⟨i+1,by omega,by push_cast;rfl,fun j a b hj=>?_,HF.out.trans HF2.out⟩,by simp[intOf];omega⟩
     by_cases e:j=i
     ·subst e;rw[← HP1.out,← HP2.out];exact(Vn _ _).1 HB.out.symm
     ·exact HS.out j a b (by omega)
    | false =>
     go_wp2_with fail
     go_region_held3 (fun w'=>w'.cell? ⟨g1,i*8,none⟩=some (.int .i64 node)∧w'.cell? ⟨g1,i*8+1,none⟩=some (.int .i64 seq)∧w'.cell? ⟨g1,i*8+2,none⟩=some (.int .i64 o0)∧w'.cell? ⟨g1,i*8+3,none⟩=some (.int .i64 o1)∧w'.cell? ⟨g1,i*8+4,none⟩=some (.int .i64 o2)∧w'.cell? ⟨g1,i*8+5,none⟩=some (.int .i64 o3)∧w'.cell? ⟨g1,i*8+6,none⟩=some (.string value)∧w'.cell? ⟨g1,i*8+7,none⟩=some (.bool gone)∧w'.cell? ⟨g2,i*8,none⟩=some (.int .i64 node')∧w'.cell? ⟨g2,i*8+1,none⟩=some (.int .i64 seq')∧w'.cell? ⟨g2,i*8+2,none⟩=some (.int .i64 o0')∧w'.cell? ⟨g2,i*8+3,none⟩=some (.int .i64 o1')∧w'.cell? ⟨g2,i*8+4,none⟩=some (.int .i64 o2')∧w'.cell? ⟨g2,i*8+5,none⟩=some (.int .i64 o3')∧w'.cell? ⟨g2,i*8+6,none⟩=some (.string value')∧w'.cell? ⟨g2,i*8+7,none⟩=some (.bool gone')) (first|assumption|go_keep)
      (first|(go_at_call 67;refine(HSV.out _).mono ?_;rintro e w2 ⟨rfl,hf2⟩;have hF2:Fr Nil wr w2:=Fr.trans (by repeat' first|(with_reducible first|apply G|assumption|apply O|apply U|apply V|apply z6)|(intro _;rfl)) hf2;have hz2:=HCC.out w2 hF2;have HF2:=Z hF2;clear hf2 hF2))
     clear hcc hz2
     go_wp2_with fail
     go_ret
     exact⟨false,rfl,⟨fun h=>absurd h (by decide),fun h=>absurd h (HNE.out (by rw[← HP1.out,← HP2.out];exact fun h=>by have:=(Vn _ _).2 h;rw[← HB.out] at this;exact absurd this (by decide)))⟩,HF.out.trans HF2.out⟩
   ·have HEQ:=Z (show l1=l2 from Ry HL.out (fun j a b=>hs j a b (by have:=HN.out;omega)))
    have HF:=Z hf
    clear hs hf
    go_wp2_with fail
    go_ret
    exact⟨true,rfl,⟨fun _=>HEQ.out,fun _=>rfl⟩,HF.out⟩
 ·have HNE:=Z (show ¬l1=l2 from fun h=>hlen (by rw[h]))
  have hla:((l1.length:Int) != l2.length)=true:=by simp;omega
  generalize l1.length=n1 at hlen hla H1 hl
  generalize l2.length=n2 at hlen hla H2
  go_enter Tryz.func118,Tryz.ntmps118
  go_wp2_with fail
  go_ret
  exact⟨false,rfl,⟨fun h=>absurd h (by decide),fun h=>absurd h HNE.out⟩,G _ _⟩
theorem PV(K:Nat→Prop)(B:Nat)(L:WL)(W:WM)(X:NL)(N:NM)(M:DM)(o:OpM)(w:World)(h:Play K B w L W X N M)(hk:o.kind=10)(hp:0<L.ps.length)(hl:L.ps.length<1000000)
  (m:LM)(hm:W.st[L.ps.length-1]?=some m)(hro:N.readOnly=W.broken)(hkl:N.S.keys.length=m.keys.length)(hhl:N.S.hints.length=m.hints.length) :
  Calls Tryz.prog 65 #[.pointer (some ⟨L.wb,0,none⟩),.agg o.cells.toArray] w fun e w'=>e=.returned (.bool true)∧PStep K B L X M w K L W X N M w':=by
 obtain⟨kind,a,b,c,key,text,v,tails⟩:=o
 simp only at hk ⊢
 subst hk
 simp only[OpM.cells,Ver.cells,List.cons_append,List.nil_append]
 have f1:Fr Nil w (w.alloc (.cells #[.int .i64 10,.int .i64 a,.int .i64 b,.int .i64 c,.string key,.string text,.int .i64 v.node,.int .i64 v.seq,.int .i64 v.o0,.int .i64 v.o1,.int .i64 v.o2,.int .i64 v.o3,.string v.value,.bool v.gone,tails] 39)):=(G _ _).alloc _
 have hb1:=Blk.new w [.int .i64 10,.int .i64 a,.int .i64 b,.int .i64 c,.string key,.string text,.int .i64 v.node,.int .i64 v.seq,.int .i64 v.o0,.int .i64 v.o1,.int .i64 v.o2,.int .i64 v.o3,.string v.value,.bool v.gone,tails] 39
 have HC:=Z (fun wx (f:Fr Nil w wx)=>zq wx L.db X.LD M ((h.marks).nil f))
 have HST:=Z (fun wx (f:Fr Nil w wx)=>VF X N M wx (h.node.nil f))
 have HNOW:=Z (fun wx (f:Fr Nil w wx)=>zV K L W wx (h.wat.nil f) hp (by omega))
 have hple:L.ps.length=W.st.length:=h.wat.ple
 have hlm:W.st[L.ps.length-1]'(by omega)=m:=by rw[List.getElem?_eq_getElem (by omega)] at hm;exact Option.some.inj hm
 have hlast:=(h.wat.last hp).2
 simp only[hlm] at hlast
 obtain⟨q,hqq⟩:∃ q,q=L.ps[L.ps.length-1]:=⟨_,rfl⟩
 rw[← hqq] at hlast HNOW
 obtain⟨kv,hv,ents,ha,hKb⟩:=hlast
 have hel:ents.length=m.keys.length:=ha.pair.length
 obtain⟨ka,kc,rfl⟩:=z8 ha.ent
 obtain⟨ja,jc,rfl⟩:=z8 ha.hint
 have HQB:=Z ha.blk
 have hcw:∀ wx,Fr Nil w wx→∀ k,wx.cell? ⟨L.wb,k,none⟩=(W.cells L)[k]?:=fun wx f=>(h.wat.nil f).blk.cell
 have HCW:=Z hcw
 have hc0:=hcw _ f1
 simp only[WM.cells,h.nv] at hc0
 have hc1:=hb1.cell
 have HF1:=Z f1
 have HB1:=Z hb1
 have HH:=Z h
 rw[hel] at HQB
 clear h f1 hb1 hlm hqq ha hcw hel hKb
 go_enter Tryz.func65,Tryz.ntmps65
 go_wp2_with (refine(HC.out _ HF1.out).mono ?_;rintro e wx ⟨rfl,hwx⟩;subst wx)
 refine(HNOW.out _ HF1.out).mono ?_
 rintro e w2 ⟨rfl,n2,hw2⟩
 subst w2
 have hF2:Fr Nil w ((w.alloc (.cells #[.int .i64 10,.int .i64 a,.int .i64 b,.int .i64 c,.string key,.string text,.int .i64 v.node,.int .i64 v.seq,.int .i64 v.o0,.int .i64 v.o1,.int .i64 v.o2,.int .i64 v.o3,.string v.value,.bool v.gone,tails] 39)).drewN n2):=HF1.out.drewN n2
 have hc2:=HCW.out _ hF2
 simp only[WM.cells,HH.out.nv] at hc2
 have hx2:∀ k,((w.alloc (.cells #[.int .i64 10,.int .i64 a,.int .i64 b,.int .i64 c,.string key,.string text,.int .i64 v.node,.int .i64 v.seq,.int .i64 v.o0,.int .i64 v.o1,.int .i64 v.o2,.int .i64 v.o3,.string v.value,.bool v.gone,tails] 39)).drewN n2).cell? ⟨w.heap.size,k,none⟩=_:=(HB1.out.drewN n2).cell
 have HF2:=Z hF2
 clear hc0 hc1 hF2
 generalize (w.alloc (.cells #[.int .i64 10,.int .i64 a,.int .i64 b,.int .i64 c,.string key,.string text,.int .i64 v.node,.int .i64 v.seq,.int .i64 v.o0,.int .i64 v.o1,.int .i64 v.o2,.int .i64 v.o3,.string v.value,.bool v.gone,tails] 39)).drewN n2=w2 at hc2 hx2 HF2 ⊢
 go_wp2_with fail
 refine(HST.out _ HF2.out).mono ?_
 rintro e w3 ⟨rfl,f3⟩
 rw[hro,hkl,hhl]
 have hb4:=Blk.new w3 [.bool W.broken,.int .i64 m.keys.length,.int .i64 m.hints.length] 81
 have f4:Fr Nil w (w3.alloc (.cells #[.bool W.broken,.int .i64 m.keys.length,.int .i64 m.hints.length] 81)):=(HF2.out.trans f3).alloc _
 have hw4:∀ n k,((w3.alloc (.cells #[.bool W.broken,.int .i64 m.keys.length,.int .i64 m.hints.length] 81)).drewN n).cell? ⟨L.wb,k,none⟩=(W.cells L)[k]?:=fun n=>HCW.out _ (f4.drewN n)
 have hs4:∀ n k,((w3.alloc (.cells #[.bool W.broken,.int .i64 m.keys.length,.int .i64 m.hints.length] 81)).drewN n).cell? ⟨w3.heap.size,k,none⟩=[Value.bool W.broken,.int .i64 m.keys.length,.int .i64 m.hints.length][k]?:=fun n=>(hb4.drewN n).cell
 have hq4:∀ n k,((w3.alloc (.cells #[.bool W.broken,.int .i64 m.keys.length,.int .i64 m.hints.length] 81)).drewN n).cell? ⟨q,k,none⟩=_:=fun n=>(HQB.out.fr (f4.drewN n) (fun e=>e)).cell
 have HF4:=Z f4
 simp only[WM.cells] at hw4
 clear hc2 hx2 f4 f3 hb4 hro hkl hhl hple hm
 generalize m.keys.length=kl at *
 generalize m.hints.length=hl2 at *
 generalize W.broken=br at *
 cases br
 all_goals
  go_wp2_with fail
  go_quiet (fail)
  go_wp2_with fail
  refine(HC.out _ (HF4.out.drewN _)).mono ?_
  rintro e wx ⟨rfl,hwx⟩
  subst wx
  go_wp2_with fail
  go_ret
  exact⟨rfl,HH.out.nil (HF4.out.drewN _)⟩
theorem QC(v:Value)(l:List Int)(k:Int)(w:World)(h:w.ownsRow 0 3 1 v l.length (l.map (.int .i64 ·)))(hl:l.length<1000000000) :
  Calls Tryz.prog 48 #[v,.int .i64 k] w fun e w'=>e=.returned (.bool (decide (k∈l)))∧Fr Nil w w':=by
 obtain⟨a1,c1,rfl⟩:=z8 h
 have H1:=Z h
 clear h
 generalize hn:l.length=n at hl H1 ⊢
 have HN:=Z hn
 clear hn
 go_enter Tryz.func48,Tryz.ntmps48
 go_wp2_with fail
 go_loopw [5] (fun t5 w'=>∃ i:Nat,i≤n∧t5=.int .i64 i∧(∀ j (h1:j<l.length),j<i→¬l[j]=k)∧Fr Nil w w') (fun t5 _=>n-(intOf t5).toNat)
 case atStart=>exact⟨0,by omega,rfl,fun j _ h=>absurd h (Nat.not_lt_zero _),G _ _⟩
 case round =>
  obtain⟨i,hi,rfl,hs,hf⟩:=hrel
  have HS:=Z hs
  have HF:=Z hf
  by_cases hlt:i<n
  ·have hi1:i<l.length:=by have:=HN.out;omega
   obtain⟨g1,c1',e1,_,_⟩:=zi H1.out (by omega)
   simp only[Value.slice.injEq] at e1
   obtain⟨rfl,-,-⟩:=e1
   have hx1:wr.cell? ⟨g1,i,none⟩=some (.int .i64 l[i]):=by
    have:=own_cell? (z7 H1.out hf (fun _ _=>id)) i (.int .i64 l[i]) (by simp[hi1])
    simpa using this
   clear hs hf
   by_cases hk:l[i]=k
   ·have HR:=Z (show decide (k∈l)=true by simp only[decide_eq_true_eq];rw[← hk];exact List.getElem_mem hi1)
    rw[hk] at hx1
    have hkk:(k==k)=true:=by simp
    clear hk
    go_wp2_with fail
    go_ret
    exact⟨by rw[HR.out];rfl,HF.out⟩
   ·have HK:=Z hk
    obtain⟨x,hx⟩:∃ x,x=l[i]:=⟨_,rfl⟩
    rw[← hx] at hx1 hk
    have hkk:(x==k)=false:=by simp[hk]
    clear hx
    go_wp2_with fail
    refine⟨⟨i+1,by omega,by push_cast;rfl,fun j a hj=>?_,HF.out⟩,by simp[intOf];omega⟩
    by_cases e:j=i
    ·subst e;exact HK.out
    ·exact HS.out j a (by omega)
  ·have HR:=Z (show decide (k∈l)=false by
    simp only[decide_eq_false_iff_not]
    intro hm
    obtain⟨j,hj,e⟩:=List.getElem_of_mem hm
    exact hs j hj (by have:=HN.out;omega) e)
   clear hs hf
   go_wp2_with fail
   go_ret
   exact⟨by rw[HR.out];rfl,HF.out⟩
def Uz(c:Int):Int:=if c<0 then 1152921504606846976 else c
def WM.begins(node room seg syn:Int)(base:Nat):WM:=⟨node,room,seg,syn,false,false,0,0,0,0,0,base,0,[⟨node,[],[]⟩],⟨[],[],[],[],[],[]⟩⟩
def WL.begins(db:Nat):WL:=⟨db+1,db,.pointer none,.slice (some ⟨db+3,0,none⟩) 1 1,.slice none 0 0,[db+2],.slice none 0 0,.slice none 0 0,.slice none 0 0,.slice none 0 0,.slice none 0 0,.slice none 0 0⟩
theorem PW(w3:World)(db:Nat)(node room seg syn:Int)(base:Nat)(hb:Blk w3 (db+1) [.int .i64 node,.int .i64 room,.int .i64 seg,.int .i64 syn,.pointer (some ⟨db,0,none⟩),.pointer none,.slice none 0 0,.bool false,.bool false,.int .i64 0,.int .i64 0,.int .i64 0,.int .i64 0,.int .i64 0,.slice none 0 0,.int .i64 0,.int .i64 0,.slice none 0 0,.slice none 0 0,.slice none 0 0,.slice none 0 0,.slice none 0 0,.slice none 0 0] 49)(hs:w3.heap.size=db+2) :
  WAt (fun k=>k=db+2) ((((w3.alloc (.cells #[.int .i64 node,.slice none 0 0,.slice none 0 0] 107)).alloc (.cells #[.pointer (some ⟨db+2,0,none⟩)] 104)).setCell ⟨db+1,6,none⟩ (.slice (some ⟨db+3,0,none⟩) 1 1)).setCell ⟨db+1,15,none⟩ (.int .i64 base)) (WL.begins db) (WM.begins node room seg syn base):=by
 have f4:Fr Nil w3 (w3.alloc (.cells #[.int .i64 node,.slice none 0 0,.slice none 0 0] 107)):=(G _ _).alloc _
 have hbm:=Blk.new w3 [.int .i64 node,.slice none 0 0,.slice none 0 0] 107
 have hs4:(w3.alloc (.cells #[.int .i64 node,.slice none 0 0,.slice none 0 0] 107)).heap.size=db+3:=by simp[hs]
 rw[hs] at hbm
 generalize w3.alloc (.cells #[.int .i64 node,.slice none 0 0,.slice none 0 0] 107)=w4 at *
 have f5:Fr Nil w4 (w4.alloc (.cells #[.pointer (some ⟨db+2,0,none⟩)] 104)):=(G _ _).alloc _
 have hbs:=Blk.new w4 [.pointer (some ⟨db+2,0,none⟩)] 104
 have hs5:(w4.alloc (.cells #[.pointer (some ⟨db+2,0,none⟩)] 104)).heap.size=db+4:=by simp[hs4]
 rw[hs4] at hbs
 generalize w4.alloc (.cells #[.pointer (some ⟨db+2,0,none⟩)] 104)=w5 at *
 have hb5:=((hb.fr f4 (fun e=>e)).fr f5 (fun e=>e))
 have hbm5:=hbm.fr f5 (fun e=>e)
 have g6:Fr (fun k=>k=db+1) w5 (w5.setCell ⟨db+1,6,none⟩ (.slice (some ⟨db+3,0,none⟩) 1 1)):=Fr.set (S:=fun k=>k=db+1) (p:=⟨db+1,6,none⟩) (G _ _) (fun _=>rfl) _
 have g7:Fr (fun k=>k=db+1) w5 ((w5.setCell ⟨db+1,6,none⟩ (.slice (some ⟨db+3,0,none⟩) 1 1)).setCell ⟨db+1,15,none⟩ (.int .i64 base)):=Fr.set (S:=fun k=>k=db+1) (p:=⟨db+1,15,none⟩) g6 (fun _=>rfl) _
 have hb7:=(hb5.set 6 (.slice (some ⟨db+3,0,none⟩) 1 1)).set 15 (.int .i64 base)
 have hbm7:=hbm5.fr g7 (by omega)
 have hbs7:=hbs.fr g7 (by omega)
 have hs7:=g7.size
 generalize (w5.setCell ⟨db+1,6,none⟩ (.slice (some ⟨db+3,0,none⟩) 1 1)).setCell ⟨db+1,15,none⟩ (.int .i64 base)=w7 at *
 refine⟨by simpa [WM.cells,WM.begins,WL.begins] using hb7,Zj (cap:=1) hbs7 (Nat.le_refl _) (by decide) rfl rfl,rfl,fun i h1 h2=>?_,⟨World.ownsRow_nil w7 0 _ _,World.ownsRow_nil w7 0 _ _,World.ownsRow_nil w7 0 _ _,World.ownsRow_nil w7 0 _ _,World.ownsRow_nil w7 0 _ _,World.ownsRow_nil w7 0 _ _,fun k e=>by simp[WL.begins,Value.ownBlock] at e,fun k e=>by simp[WL.begins,Value.ownBlock] at e⟩,fun k e=>⟨by omega,fun h=>?_⟩⟩
 ·have:i=0:=by simp[WL.begins] at h1;exact h1
  subst this
  refine⟨.slice none 0 0,.slice none 0 0,[],⟨hbm7,World.ownsRow_nil w7 0 _ _,trivial,World.ownsRow_nil w7 0 _ _⟩,fun k hk=>?_⟩
  rcases hk with rfl|e|e|⟨e,he,_⟩
  ·rfl
  ·simp[Value.ownBlock] at e
  ·simp[Value.ownBlock] at e
  ·simp at he
 ·subst e
  unfold WFoot WL.begins at h
  simp[Value.ownBlock] at h
theorem Mj{b k:Nat}{room:Int}(hk:Foot b DL.new (DM.new room) k):k=b:=by
 cases hk using Foot.elim with
 | blk=>rfl
 | dir e=>simp[DL.new,Value.ownBlock] at e
 | safe e=>simp[DL.new,Value.ownBlock] at e
 | ch e=>simp[DL.new,Value.ownBlock] at e
 | chs i h1 e=>exact absurd h1 (Nat.not_lt_zero _)
 | file e=>cases e
 | row f hf e=>cases hf
theorem QD(node room seg syn:Int)(base:Nat)(w:World) :
  Calls Tryz.prog 16 #[.agg #[.int .i64 node,.int .i64 room,.int .i64 seg,.int .i64 syn],.int .i64 base] w fun e w'=>∃ db,w.heap.size<db∧e=.returned (.pointer (some ⟨db+1,0,none⟩))∧WAt (fun k=>k=db+2) w' (WL.begins db) (WM.begins node room seg syn base)∧DRep w' db DL.new (DM.new (Uz room))∧Fr Nil w w':=by
 have f1:Fr Nil w (w.alloc (.cells #[.int .i64 node,.int .i64 room,.int .i64 seg,.int .i64 syn] 23)):=(G _ _).alloc _
 have hb1:=Blk.new w [.int .i64 node,.int .i64 room,.int .i64 seg,.int .i64 syn] 23
 have hc1:=hb1.cell
 have HF1:=Z f1
 have HB1:=Z hb1
 have HRM:=Z (fun wx=>Ux room wx)
 rw[show(if room<0 then 1152921504606846976 else room)=Uz room from rfl] at HRM
 generalize Uz room=r at HRM ⊢
 clear f1 hb1
 go_enter Tryz.func16,Tryz.ntmps16
 go_wp2_with fail
 generalize w.alloc (.cells #[.int .i64 node,.int .i64 room,.int .i64 seg,.int .i64 syn] 23)=wa at hc1 HF1 HB1 ⊢
 have hcc:∀ k,wa.cell? ⟨w.heap.size,k,none⟩=[Value.int .i64 node,.int .i64 room,.int .i64 seg,.int .i64 syn][k]?:=hc1
 have HCK:Hid (∀ wx,Fr Nil wa wx→∀ k,wx.cell? ⟨w.heap.size,k,none⟩=[Value.int .i64 node,.int .i64 room,.int .i64 seg,.int .i64 syn][k]?):=fun wx f=>(HB1.out.fr f (fun e=>e)).cell
 clear hc1
 go_region_held3 (fun w'=>∀ k,w'.cell? ⟨w.heap.size,k,none⟩=[Value.int .i64 node,.int .i64 room,.int .i64 seg,.int .i64 syn][k]?) (first|assumption|exact HCK.out _ (by repeat' first|(with_reducible first|apply G|assumption|apply O|apply U|apply V|apply z6)|(intro _;rfl))|go_keep)
  (first
  | (go_at_call 50;refine(TE _ _).mono ?_;rintro e w2 ⟨rfl,hd2,hf2,hsz⟩;have hF2:Fr Nil wa w2:=Fr.trans (by repeat' first|(with_reducible first|apply G|assumption|apply O|apply U|apply V|apply z6)|(intro _;rfl)) hf2;have hz2:=HCK.out w2 hF2;have HF2:=Z hF2;have HD2:Hid (DRep w2 wa.heap.size DL.new (DM.new r)):=hd2;clear hf2 hd2)
  | (go_at_call 51;refine(HRM.out _).mono ?_;rintro e w2 ⟨rfl,hw2⟩;subst w2))
 replace hsz:w2.heap.size=wa.heap.size+1:=hsz
 have hz3:∀ k,(w2.alloc (.cells #[.int .i64 node,.int .i64 room,.int .i64 seg,.int .i64 syn,.pointer (some ⟨wa.heap.size,0,none⟩),.pointer none,.slice none 0 0,.bool false,.bool false,.int .i64 0,.int .i64 0,.int .i64 0,.int .i64 0,.int .i64 0,.slice none 0 0,.int .i64 0,.int .i64 0,.slice none 0 0,.slice none 0 0,.slice none 0 0,.slice none 0 0,.slice none 0 0,.slice none 0 0] 49)).cell? ⟨w.heap.size,k,none⟩=[Value.int .i64 node,.int .i64 room,.int .i64 seg,.int .i64 syn][k]?:=HCK.out _ (hF2.alloc _)
 have hb3:=Blk.new w2 [.int .i64 node,.int .i64 room,.int .i64 seg,.int .i64 syn,.pointer (some ⟨wa.heap.size,0,none⟩),.pointer none,.slice none 0 0,.bool false,.bool false,.int .i64 0,.int .i64 0,.int .i64 0,.int .i64 0,.int .i64 0,.slice none 0 0,.int .i64 0,.int .i64 0,.slice none 0 0,.slice none 0 0,.slice none 0 0,.slice none 0 0,.slice none 0 0,.slice none 0 0] 49
 have f3:Fr Nil w2 (w2.alloc (.cells #[.int .i64 node,.int .i64 room,.int .i64 seg,.int .i64 syn,.pointer (some ⟨wa.heap.size,0,none⟩),.pointer none,.slice none 0 0,.bool false,.bool false,.int .i64 0,.int .i64 0,.int .i64 0,.int .i64 0,.int .i64 0,.slice none 0 0,.int .i64 0,.int .i64 0,.slice none 0 0,.slice none 0 0,.slice none 0 0,.slice none 0 0,.slice none 0 0,.slice none 0 0] 49)):=(G _ _).alloc _
 have HD3:=Z (HD2.out.nil f3)
 have HF3:=Z (HF1.out.trans (hF2.trans f3))
 rw[hsz] at hb3
 have HB3:=Z hb3
 have HDB:Hid (wa.heap.size=wa.heap.size):=rfl
 have HLA:Hid (w.heap.size<wa.heap.size):=HB1.out.lt
 have hs3:(w2.alloc (.cells #[.int .i64 node,.int .i64 room,.int .i64 seg,.int .i64 syn,.pointer (some ⟨wa.heap.size,0,none⟩),.pointer none,.slice none 0 0,.bool false,.bool false,.int .i64 0,.int .i64 0,.int .i64 0,.int .i64 0,.int .i64 0,.slice none 0 0,.int .i64 0,.int .i64 0,.slice none 0 0,.slice none 0 0,.slice none 0 0,.slice none 0 0,.slice none 0 0,.slice none 0 0] 49)).heap.size=wa.heap.size+1+1:=by simp[hsz]
 generalize w2.alloc (.cells #[.int .i64 node,.int .i64 room,.int .i64 seg,.int .i64 syn,.pointer (some ⟨wa.heap.size,0,none⟩),.pointer none,.slice none 0 0,.bool false,.bool false,.int .i64 0,.int .i64 0,.int .i64 0,.int .i64 0,.int .i64 0,.slice none 0 0,.int .i64 0,.int .i64 0,.slice none 0 0,.slice none 0 0,.slice none 0 0,.slice none 0 0,.slice none 0 0,.slice none 0 0] 49)=w3 at hz3 HD3 HF3 HB3 hs3 ⊢
 have HS3:=Z hs3
 clear hz2 hF2 hsz f3 hb3 hcc HF2 HD2 hs3
 generalize hdb:wa.heap.size=db at HB3 HD3 HS3 HLA ⊢
 clear hdb HDB
 have f5:Fr Nil w3 ((w3.alloc (.cells #[.int .i64 node,.slice none 0 0,.slice none 0 0] 107)).alloc (.cells #[.pointer (some ⟨w3.heap.size,0,none⟩)] 104)):=((G _ _).alloc _).alloc _
 have hb5:=HB3.out.fr f5 (fun e=>e)
 have hcw:=hb5.cell
 have hzw:=hb5.frozen
 have HB5:=Z hb5
 have HF5:=Z f5
 clear hb5 f5
 go_wp2_with fail
 go_ret
 have h3:w3.heap.size=db+2:=HS3.out
 rw[h3]
 have hgt:=HLA.out
 refine⟨db,hgt,rfl,PW w3 db node room seg syn base HB3.out h3,?_,?_⟩
 ·have g6:Fr (fun k=>k=db+1) w3 _:=Fr.set (S:=fun k=>k=db+1) (p:=⟨db+1,15,none⟩) (Fr.set (S:=fun k=>k=db+1) (p:=⟨db+1,6,none⟩) (((G _ w3).alloc (.cells #[.int .i64 node,.slice none 0 0,.slice none 0 0] 107)).alloc (.cells #[.pointer (some ⟨db+2,0,none⟩)] 104)) (fun _=>rfl) (.slice (some ⟨db+3,0,none⟩) 1 1)) (fun _=>rfl) (.int .i64 base)
  exact HD3.out.fr g6 (fun k hk=>by rw[Mj hk];omega)
 ·exact Fr.set (Fr.set ((HF3.out.alloc _).alloc _) (fun h=>by simp only at h;omega) _) (fun h=>by simp only at h;omega) _
theorem Lk:((Tryz.prog.info? 61).map fun i=>(i.zero.map (·.cells.size),i.size,i.bytes))=some (some 1,1,24):=by kernel_rfl
theorem Ll:((Tryz.prog.info? 91).map fun i=>(i.zero.map (·.cells.size),i.size,i.bytes))=some (some 1,1,24):=by kernel_rfl
theorem Lm:((Tryz.prog.info? 66).map fun i=>(i.zero.map (·.cells.size),i.size,i.bytes))=some (some 1,1,24):=by kernel_rfl
theorem Vt:((Tryz.prog.info? 3).map fun i=>(i.zero.map (·.cells.size),i.size,i.bytes))=some (some 1,1,8):=by kernel_rfl
theorem YB{t e:TypeId}{bytes:Nat}(ht:Tryz.prog.underlying t=some (.slice e))(hI:((Tryz.prog.info? e).map fun i=>(i.zero.map (·.cells.size),i.size,i.bytes))=some (some 1,1,bytes))(hby:bytes≤24)
  (w:World)(v:Value)(n:Nat)(xs:List Value)(h:w.ownsRow 0 e 1 v n xs)(x:Value)(h1:x.oneCell'=true)(hn:n<1000000000)(W0:World)(hf:Fr Nil w W0)(N:Nat)(hN:Blk W0 N [x] e)(ty:TypeId) :
  ∃ v' w',(Builtin.append_ #[t,t] ty #[v,.slice (some ⟨N,0,none⟩) 1 1]).run Tryz.prog W0=.ok v' w' ∧
   (w'.ownsRow 0 e 1 v' (n+1) (xs++[x])∧Fr (fun k=>v.ownBlock=some k) w w'∧(∀ k,v'.ownBlock=some k→v.ownBlock=some k∨w.heap.size≤k)):=by
 have ho:=z7 h hf (fun _ _=>id)
 obtain⟨v',w',hr,h1',h2,h3⟩:=zo (P:=Tryz.prog) t ty e 1 bytes ht hI (by omega) v n xs ho ⟨N,0,none⟩ 1 1 [x] rfl
  (fun j u hu=>by rw[Addr.add_lit,Nat.zero_add,hN.cell];exact hu) (by intro u hu;simp at hu;subst hu;exact h1) (by unfold maxLen;omega) (Nat.le_trans (Nat.mul_le_mul_left _ hby) (by omega))
 refine⟨v',w',hr,h1',(hf.mono (fun _ _ e=>absurd e id)).trans' ((Fr.of_grown h2).mono (fun i _ h=>h)) (fun i _ h=>h),fun k hk=>?_⟩
 rcases h3 with h3|h3
 ·exact .inl (by rw[← h3];exact hk)
 ·rw[h3] at hk;simp at hk;have:=hf.size;exact .inr (by omega)
theorem zJ(b n:Nat)(r:List UInt8)(w:World)(h:Src w b (zd n++r) false)(hn:n<9223372036854775808) :
  Calls Tryz.prog 149 #[.pointer (some ⟨b,0,none⟩)] w fun e w'=>e=.returned (.int .i64 n)∧Src w' b r false∧Fr (fun k=>k=b) w w':=by
 refine(XL b _ false w h (by simp)).mono ?_
 intro e w' hE
 rw[Rr n r hn] at hE
 exact hE
theorem UA(b:Nat)(xs:List UInt8)(w:World)(h:Src w b xs false)(hn:Zw 0 0 xs=none) :
  Calls Tryz.prog 149 #[.pointer (some ⟨b,0,none⟩)] w fun e w'=>e=.returned (.int .i64 0)∧Src w' b [] true∧Fr (fun k=>k=b) w w':=by
 refine(XL b _ false w h (by simp)).mono ?_
 intro e w' hE
 rw[hn] at hE
 exact hE
def Read1(w:World)(b:Nat)(r:List UInt8)(w':World):Prop:=Src w' b r false∧Fr (fun k=>k=b) w w'
theorem Xq(b:Nat)(s r:List UInt8)(w:World)(h:Src w b (zZ s++r) false)(hs:s.length≤1000000000) :
  Calls Tryz.prog 150 #[.pointer (some ⟨b,0,none⟩)] w fun e w'=>e=.returned (.string (zh s))∧Read1 w b r w':=by
 have e1:zZ s++r=zd s.length++(s++r):=by simp[zZ]
 rw[e1] at h
 have HH:=Z h
 clear h e1
 have HC:=Z (fun wx=>Zm (zh s) wx hs)
 go_enter Tryz.func150,Tryz.ntmps150
 go_wp2_with (first
  | (refine(HC.out _).mono ?_;rintro e w3 ⟨rfl,hf3⟩)
  | (refine(Xh s.length b (s++r) false _ H1.out.1 (by simp)).mono ?_;rintro e w2 ⟨rfl,hw2,hf2⟩;have H2:=Z (And.intro hw2 hf2);clear hw2 hf2)
  | (refine(zJ b s.length (s++r) _ HH.out (by omega)).mono ?_;rintro e w1 ⟨rfl,hw1,hf1⟩;have H1:=Z (And.intro hw1 hf1);clear hw1 hf1))
 go_ret
 have h2:=H2.out.1
 rw[List.drop_left] at h2
 exact⟨rfl,h2.fr hf3 id,(H1.out.2.trans H2.out.2).trans (hf3.mono (fun _ _ e=>absurd e id))⟩
def XM(l:List Nat):List Value:=l.map fun n:Nat=>.int .i64 (n:Int)
def OX(w w':World)(t:TypeId)(size:Nat)(v:Value)(n:Nat)(xs:List Value):Prop :=
 w'.ownsRow 0 t size v n xs∧∀ k,v.ownBlock=some k→w.heap.size≤k
theorem Sn(b:Nat)(l:List Nat)(r:List UInt8)(w:World)(h:Src w b (Yg l++r) false)(hl:∀ x∈l,x<9223372036854775808)(hln:l.length<1000000) :
  Calls Tryz.prog 194 #[.pointer (some ⟨b,0,none⟩),.func (.func 149) #[] #[]] w fun e w' =>
   ∃ v,e=.returned v∧OX w w' 3 1 v l.length (XM l)∧Read1 w b r w':=by
 have e1:Yg l++r=zd l.length++((l.map zd).flatten++r):=by simp[Yg]
 rw[e1] at h
 have hblt:=h.lt
 have HH:=Z h
 clear h e1
 have HL:=Z hl
 clear hl
 go_enter Tryz.func194,Tryz.ntmps194
 go_wp2_with (refine(zJ b l.length _ _ HH.out (by omega)).mono ?_;rintro e w1 ⟨rfl,hw1,hf1⟩;have H1:=Z (And.intro hw1 hf1);clear hw1 hf1)
 go_loopw [5,9] (fun t5 t9 w'=>∃ i:Nat,i≤l.length∧t9=.int .i64 (i:Int)∧OX w w' 3 1 t5 i (XM (l.take i))∧Src w' b (((l.drop i).map zd).flatten++r) false∧Fr (fun k=>k=b) w w') (fun _ t9 _=>(l.length-intOf t9).toNat)
 case atStart=>exact⟨0,by omega,rfl,⟨⟨by simp[XM],.inl ⟨rfl,rfl⟩⟩,fun k hk=>by simp[Value.ownBlock] at hk⟩,H1.out.1,H1.out.2⟩
 case round =>
  obtain⟨i,hi,rfl,⟨hrow,hnew⟩,hS,hf⟩:=hrel
  by_cases hlt:i<l.length
  ·have e2:((l.drop i).map zd).flatten++r=zd l[i]++(((l.drop (i+1)).map zd).flatten++r):=by
    rw[List.drop_eq_getElem_cons hlt];simp only[List.map_cons,List.flatten_cons,List.append_assoc]
   rw[e2] at hS
   have hx:=HL.out l[i] (List.getElem_mem hlt)
   have HX:=Z hx
   have HS:=Z hS
   have HT:Hid (XM (l.take (i+1))=XM (l.take i)++[.int .i64 (l[i]:Int)]):=by
    show XM _=_
    unfold XM
    rw[List.take_add_one,List.getElem?_eq_getElem hlt,List.map_append];rfl
   clear hS e2 hx
   generalize hxi:l[i]=x at HX HS HT
   obtain⟨va,vc,rfl⟩:=z8 hrow
   have HR:=Z hrow
   have HN:=Z hnew
   have HF:=Z hf
   clear hrow hnew hf hxi
   have hin:i<1000000000:=by omega
   go_wp2_with (first
    | (at_builtin;go_must (refine zf rfl _ _ _ _ rfl _ _ (by rfl) (by rfl) (YB Tryz.underlying26 Vt (by decide) _ _ _ _ HR2.out (.int .i64 x) rfl hin _ (by repeat' first|(with_reducible first|apply G|assumption|apply O|apply U|apply V|apply z6)|(intro _;rfl)) _ (by exact Blk.new _ [_] _) _) ?_);rintro v' w3 ⟨ho3,hf3,hn3⟩)
    | (refine(zJ b x _ _ HS.out HX.out).mono ?_;rintro e w2 ⟨rfl,hw2,hf2⟩;have hc2:=hw2.cell;have H2:=Z (And.intro hw2 hf2);have HR2:=Z (z7 HR.out hf2 (fun k hk e=>by have:=HN.out k hk;omega));clear hw2 hf2))
   refine⟨⟨i+1,by omega,by go_num,⟨by rw[HT.out];exact ho3,fun k hk=>?_⟩,?_,?_⟩,by simp[intOf];omega⟩
   ·have:=HF.out.size
    have:=H2.out.2.size
    rcases hn3 k hk with h1|h1
    ·exact HN.out k h1
    ·omega
   ·exact H2.out.1.fr hf3 (fun e=>by have:=HN.out b e;omega)
   ·exact(HF.out.trans H2.out.2).trans' hf3 (fun k hk e=>absurd (HN.out k e) (by omega))
  ·have hil:i=l.length:=by omega
   subst hil
   go_wp2_with fail
   go_ret
   rw[List.take_length] at hrow
   rw[List.drop_length] at hS
   exact⟨_,rfl,⟨hrow,hnew⟩,hS,hf⟩
theorem WF(s:ByteArray):zh s.data.toList=s:=by
 apply ByteArray.ext
 simp[zh]
theorem info1:(Tryz.prog.info? 3).map (·.size)=some 1:=by kernel_rfl
theorem Vy(b:Nat)(v:Ver)(hv:v.Nat)(hg:v.gone=false)(r:List UInt8)(w:World)(h:Src w b (ZA v++r) false) :
  Calls Tryz.prog 152 #[.pointer (some ⟨b,0,none⟩)] w fun e w'=>e=.returned (.agg v.cells.toArray)∧Read1 w b r w':=by
 obtain⟨node,seq,o0,o1,o2,o3,value,gone⟩:=v
 simp only at hg
 subst hg
 obtain⟨hnode,hseq,h0,h1,h2,h3,hsize⟩:=hv
 simp only[isN] at hnode hseq h0 h1 h2 h3 hsize
 obtain⟨node,rfl⟩:=Int.eq_ofNat_of_zero_le hnode.1
 obtain⟨seq,rfl⟩:=Int.eq_ofNat_of_zero_le hseq.1
 obtain⟨o0,rfl⟩:=Int.eq_ofNat_of_zero_le h0.1
 obtain⟨o1,rfl⟩:=Int.eq_ofNat_of_zero_le h1.1
 obtain⟨o2,rfl⟩:=Int.eq_ofNat_of_zero_le h2.1
 obtain⟨o3,rfl⟩:=Int.eq_ofNat_of_zero_le h3.1
 have e1:ZA ⟨node,seq,o0,o1,o2,o3,value,false⟩++r=zd node++(zd seq++(Yg [o0,o1,o2,o3]++(zZ value.data.toList++r))):=by
  simp[ZA]
 rw[e1] at h
 have hblt:=h.lt
 have HH:=Z h
 clear h e1
 have H0:=Z h0
 have H1:=Z h1
 have H2:=Z h2
 have H3:=Z h3
 clear h0 h1 h2 h3
 go_enter Tryz.func152,Tryz.ntmps152
 go_wp2_with fail
 have hZ0:Blk ((w.alloc (.cells #[.int .i64 0,.int .i64 0,.int .i64 0,.int .i64 0,.int .i64 0,.int .i64 0,.string ⟨#[]⟩,.bool false] 37)).alloc (.cells #[.int .i64 0,.int .i64 0,.int .i64 0,.int .i64 0,.int .i64 0,.int .i64 0,.string ⟨#[]⟩,.bool false] 37)) w.heap.size [.int .i64 0,.int .i64 0,.int .i64 0,.int .i64 0,.int .i64 0,.int .i64 0,.string ⟨#[]⟩,.bool false] 37 :=
  (Blk.new w [.int .i64 0,.int .i64 0,.int .i64 0,.int .i64 0,.int .i64 0,.int .i64 0,.string ⟨#[]⟩,.bool false] _).alloc _
 have hZ1:Blk ((w.alloc (.cells #[.int .i64 0,.int .i64 0,.int .i64 0,.int .i64 0,.int .i64 0,.int .i64 0,.string ⟨#[]⟩,.bool false] 37)).alloc (.cells #[.int .i64 0,.int .i64 0,.int .i64 0,.int .i64 0,.int .i64 0,.int .i64 0,.string ⟨#[]⟩,.bool false] 37)) (w.heap.size+1) [.int .i64 0,.int .i64 0,.int .i64 0,.int .i64 0,.int .i64 0,.int .i64 0,.string ⟨#[]⟩,.bool false] 37:=by
  have h0:=Blk.new (w.alloc (.cells #[.int .i64 0,.int .i64 0,.int .i64 0,.int .i64 0,.int .i64 0,.int .i64 0,.string ⟨#[]⟩,.bool false] 37)) [.int .i64 0,.int .i64 0,.int .i64 0,.int .i64 0,.int .i64 0,.int .i64 0,.string ⟨#[]⟩,.bool false] 37
  simpa using h0
 have hf0:Fr Nil w ((w.alloc (.cells #[.int .i64 0,.int .i64 0,.int .i64 0,.int .i64 0,.int .i64 0,.int .i64 0,.string ⟨#[]⟩,.bool false] 37)).alloc (.cells #[.int .i64 0,.int .i64 0,.int .i64 0,.int .i64 0,.int .i64 0,.int .i64 0,.string ⟨#[]⟩,.bool false] 37)):=((G _ _).alloc _).alloc _
 generalize (w.alloc (.cells #[.int .i64 0,.int .i64 0,.int .i64 0,.int .i64 0,.int .i64 0,.int .i64 0,.string ⟨#[]⟩,.bool false] 37)).alloc (.cells #[.int .i64 0,.int .i64 0,.int .i64 0,.int .i64 0,.int .i64 0,.int .i64 0,.string ⟨#[]⟩,.bool false] 37)=W0 at hZ0 hZ1 hf0 ⊢
 have hF0:Fr (fun k=>k=b) w W0:=hf0.mono (fun _ _ e=>absurd e id)
 -- the node
 refine(zJ b node _ W0 (HH.out.fr hf0 id) (by omega)).mono ?_
 rintro e w1 ⟨rfl,hw1,hf1⟩
 have hR1:=hZ0.fr hf1 (by omega)
 have hV1:=hZ1.fr hf1 (by omega)
 have hc1:=hV1.cell
 have hz1:=hV1.frozen
 go_wp2_with fail
 have hV1:=hV1.set 0 (.int .i64 node)
 have hR1:=hR1.far (b':=w.heap.size+1) (by omega) 0 (.int .i64 node)
 have hw1:Src _ b _ false:=Blk.far hw1 (b':=w.heap.size+1) (by omega) 0 (.int .i64 node)
 have hF1:=(hF0.trans hf1).set (p:=⟨w.heap.size+1,0,none⟩) (fun h=>absurd h (by simp)) (.int .i64 node)
 generalize w1.setCell ⟨w.heap.size+1,0,none⟩ (.int .i64 node)=W1 at hV1 hR1 hw1 hF1 ⊢
 clear hc1 hz1 hf1 hZ0 hZ1 hf0 hF0
 -- its number
 refine(zJ b seq _ W1 hw1 (by omega)).mono ?_
 rintro e w2 ⟨rfl,hw2,hf2⟩
 have hR2:=hR1.fr hf2 (by omega)
 have hV2:=hV1.fr hf2 (by omega)
 have hc2:=hV2.cell
 have hz2:=hV2.frozen
 go_wp2_with fail
 have hV2:=hV2.set 1 (.int .i64 seq)
 have hR2:=hR2.far (b':=w.heap.size+1) (by omega) 1 (.int .i64 seq)
 have hw2:Src _ b _ false:=Blk.far hw2 (b':=w.heap.size+1) (by omega) 1 (.int .i64 seq)
 have hF2:=(hF1.trans hf2).set (p:=⟨w.heap.size+1,1,none⟩) (fun h=>absurd h (by simp)) (.int .i64 seq)
 generalize w2.setCell ⟨w.heap.size+1,1,none⟩ (.int .i64 seq)=W2 at hV2 hR2 hw2 hF2 ⊢
 clear hc2 hz2 hf2 hV1 hR1 hw1 hF1
 simp at hV2
 -- the four
 have hl4:∀ x∈[o0,o1,o2,o3],x<9223372036854775808:=by
  have:=H0.out.2;have:=H1.out.2;have:=H2.out.2;have:=H3.out.2
  intro x hx
  simp at hx
  rcases hx with rfl|rfl|rfl|rfl <;> omega
 have HW2:=Z hw2
 have HV2:=Z hV2
 have HR2:=Z hR2
 have HL4:=Z hl4
 have HLT:=Z (HH.out.lt)
 have hsz2:w.heap.size+2≤W2.heap.size:=hV2.lt
 clear hw2 hV2 hR2 hl4
 go_region_law
  (first
  | (go_simp;go_at_call 194;refine(Sn b [o0,o1,o2,o3] _ W2.drew HW2.out HL4.out (by simp)).mono ?_;rintro e w3 ⟨v3,rfl,hn3,hr3⟩
     have hf3:Fr (fun k=>k=b) W2 w3:=Fr.trans ((G _ W2).drew) hr3.2
     obtain⟨g,cap,rfl,hcl,hcm⟩:=zi hn3.1 (by simp)
     have HV3:=Z (HV2.out.fr hf3 (by have:=HLT.out;omega))
     have HR3:=Z (HR2.out.fr hf3 (by have:=HLT.out;omega))
     have HSRC:Hid (∀ (j:Nat) (v:Value),[Value.int .i64 (o0:Int),.int .i64 o1,.int .i64 o2,.int .i64 o3][j]?=some v→w3.cell? ((⟨g,0,none⟩:Addr).add j)=some v):=fun j v hj=>by
      rw[Addr.add_lit,Nat.zero_add];exact own_cell? hn3.1 _ _ hj
     have HN3:=Z hn3
     have HR:=Z (And.intro hr3.1 hf3)
     clear hn3 hr3 hf3)
  | (refine Y1 rfl _ _ 26 26 rfl _ _ (by rfl) (by rfl) (Zb (P:=Tryz.prog) 26 3 _ 1 Tryz.underlying26 info1 (w.heap.size+1) 2 4 4 ⟨g,0,none⟩ 4 cap _ [.int .i64 o0,.int .i64 o1,.int .i64 o2,.int .i64 o3] 37 HV3.out rfl HSRC.out (by simp) (by simp[Value.oneCell'])) ?_))
 have hV4:Blk (w3.setRow (w.heap.size+1) #[.int .i64 node,.int .i64 seq,.int .i64 o0,.int .i64 o1,.int .i64 o2,.int .i64 o3,.string ⟨#[]⟩,.bool false]) (w.heap.size+1) [.int .i64 node,.int .i64 seq,.int .i64 o0,.int .i64 o1,.int .i64 o2,.int .i64 o3,.string ⟨#[]⟩,.bool false] 37 :=
  HV3.out.setRow [.int .i64 node,.int .i64 seq,.int .i64 o0,.int .i64 o1,.int .i64 o2,.int .i64 o3,.string ⟨#[]⟩,.bool false]
 have hfr4:Fr (fun k=>k=w.heap.size+1) w3 (w3.setRow (w.heap.size+1) #[.int .i64 node,.int .i64 seq,.int .i64 o0,.int .i64 o1,.int .i64 o2,.int .i64 o3,.string ⟨#[]⟩,.bool false]):=Fr.setRow (S:=fun k=>k=w.heap.size+1) (G _ _) (fun _=>rfl) _
 have hR4:=HR3.out.fr hfr4 (by omega)
 have hw4:Src _ b _ false:=Blk.fr HR.out.1 hfr4 (by have:=HLT.out;omega)
 have hF4:=(hF2.trans HR.out.2).trans' hfr4 (fun k hk e=>by omega)
 generalize w3.setRow (w.heap.size+1) #[.int .i64 node,.int .i64 seq,.int .i64 o0,.int .i64 o1,.int .i64 o2,.int .i64 o3,.string ⟨#[]⟩,.bool false]=W4 at hV4 hR4 hw4 hF4 ⊢
 clear hfr4 hF2
 have hLT:=HLT.out
 go_wp2_with fail
 refine(Xq b value.data.toList r W4 hw4 (by simpa using Nat.le_of_lt hsize)).mono ?_
 rintro e w5 ⟨rfl,hw5,hf5⟩
 have hV5:=hV4.fr hf5 (by omega)
 have hR5:=hR4.fr hf5 (by omega)
 have hc5:=hV5.cell
 have hz5:=hV5.frozen
 have hcr:=hR5.cell
 have hzr:=hR5.frozen
 rw[WF]
 go_wp2_with fail
 have hfin:=(((((((((hR5.far (b':=w.heap.size+1) (by omega) 6 (.string value)).set 0 (.int .i64 node)).set 1 (.int .i64 seq)).set 2 (.int .i64 o0)).set 3 (.int .i64 o1)).set 4 (.int .i64 o2)).set 5 (.int .i64 o3)).set 6 (.string value)).set 7 (.bool false))
 have hfin:Blk _ w.heap.size (Ver.cells ⟨node,seq,o0,o1,o2,o3,value,false⟩) 37:=hfin
 have hF5:=hF4.trans hf5
 have hS5:Src _ b r false:=((((((((hw5.far (b':=w.heap.size+1) (by omega) 6 (.string value)).far (b':=w.heap.size) (by omega) 0 (.int .i64 node)).far (b':=w.heap.size) (by omega) 1 (.int .i64 seq)).far (b':=w.heap.size) (by omega) 2 (.int .i64 o0)).far (b':=w.heap.size) (by omega) 3 (.int .i64 o1)).far (b':=w.heap.size) (by omega) 4 (.int .i64 o2)).far (b':=w.heap.size) (by omega) 5 (.int .i64 o3)).far (b':=w.heap.size) (by omega) 6 (.string value)).far (b':=w.heap.size) (by omega) 7 (.bool false)
 refine bodyPost_ret (results_cell_row rfl _ _ w.heap.size _ _ _ _ rfl hfin Tryz.underlying37 rfl (by kernel_rfl)) rfl ⟨rfl,hS5,?_⟩
 repeat' first|(with_reducible exact hF5)|(with_reducible refine Fr.set ?_ ?_ _)|(intro h;exact absurd h (by simp))
theorem WStep.gen{K:Nat→Prop}{w w4:World}{L L':WL}{W W':WM}{S:Nat→Prop}(h:WAt K w L W)(i:Nat)(v':Value)(f4:Fr S w w4)(hS:∀ b,S b→WFoot L b∧b≠L.wb∧L.sv.ownBlock≠some b)
  (hc:(W.cells L).set i v'=W'.cells L')(e1:L'.wb=L.wb)(e2:L'.db=L.db)(e3:L'.nv=L.nv)(e4:L'.sv=L.sv)(e5:L'.ps=L.ps)(e6:W'.st=W.st)
  (hb:∀ w5,Fr (fun k=>k=L.wb) w4 w5→BAt w5 L' W'.bk)(hf:∀ k,WFoot L' k→WFoot L k∨w.heap.size≤k) :
  WStep K L w L' W' (w4.setCell ⟨L.wb,i,none⟩ v'):=by
 obtain⟨wb,db,nv,sv,tv,ps,vs,vm,ns,nm,hs,hm⟩:=L'
 simp only at e1 e2 e3 e4 e5
 subst e1 e2 e3 e4 e5
 have hb4:Blk w4 L.wb _ _:=h.blk.fr f4 (fun e=>(hS _ e).2.1 rfl)
 have fs:Fr (fun k=>k=L.wb) w4 (w4.setCell ⟨L.wb,i,none⟩ v'):=Fr.set (S:=fun k=>k=L.wb) (p:=⟨L.wb,i,none⟩) (G _ _) (fun _=>rfl) _
 have fw:Fr (WFoot L) w (w4.setCell ⟨L.wb,i,none⟩ v'):=(f4.mono (fun k _ e=>(hS k e).1)).trans' (fs.mono (S':=WFoot L) (fun k _ e=>.inl e)) (fun _ _ e=>e)
 refine⟨⟨?_,?_,?_,fun j h1 h2=>?_,hb _ fs,fun k e=>⟨Nat.lt_of_lt_of_le (h.keep k e).1 fw.size,fun hk=>(hf k hk).elim (h.keep k e).2 (fun e2=>by have:=(h.keep k e).1;omega)⟩⟩,fw,hf,rfl,rfl,rfl⟩
 ·rw[← hc]
  exact hb4.set i v'
 ·exact z7 (z7 h.sts f4 (fun k e hk=>(hS k hk).2.2 e)) fs (fun k e hk=>by subst hk;exact za h.sts h.blk (by decide) e)
 ·rw[e6];exact h.ple
 ·simp only[e6] at h2 ⊢
  exact(h.mods j h1 h2).keep (zI.of_fr fw (fun k e=>h.keep k e)) (fun _ e=>e)
theorem WStep.far{K S:Nat→Prop}{w0 w w':World}{L L':WL}{W':WM}(h:WStep K L w0 L' W' w)(f:Fr S w w')(h1:∀ k,S k→w0.heap.size≤k)(h2:∀ k,WFoot L' k→¬S k)(hK:∀ k,K k→k<w0.heap.size):WStep K L w0 L' W' w' :=
 ⟨h.rep.fr f h2 (fun k e hs=>by have:=h1 k hs;have:=hK k e;omega),h.fr.trans' (f.mono (S':=S) (fun _ _ e=>e)) (fun i hi e=>by have:=h1 i e;omega),h.foot,h.wb,h.db,h.nv⟩
theorem WStep.vs{K:Nat→Prop}{w w4:World}{L:WL}{W:WM}(h:WAt K w L W){v':Value}{xs:List Value}(h4:w4.ownsRow 0 61 1 v' xs.length xs)(f4:Fr (fun b=>L.vs.ownBlock=some b) w w4)(hn:∀ b,v'.ownBlock=some b→L.vs.ownBlock=some b∨w.heap.size≤b) :
  WStep K L w {L with vs:=v'} {W with bk:={W.bk with vs:=xs}} (w4.setCell ⟨L.wb,17,none⟩ v'):=by
 have hty:∀ {t:TypeId} {k:Nat},Ty w k t→t≠61→¬L.vs.ownBlock=some k:=fun hk ht e=>ht (hk.inj (zy h.book.vs e))
 have hrow:∀ {t:TypeId} {v:Value} {n s:Nat} {xs:List Value},w.ownsRow 0 t s v n xs→t≠61→t≠49→∀ w5,Fr (fun k=>k=L.wb) w4 w5→w5.ownsRow 0 t s v n xs:=fun ho h1 h2 w5 fs =>
  z7 (z7 ho f4 (fun k e=>hty (zy ho e) h1)) fs (fun k e hk=>by subst hk;exact za ho h.blk (fun e=>h2 e.symm) e)
 have hb4:Blk w4 L.wb _ _:=h.blk.fr f4 (hty h.blk.ty (by decide))
 refine WStep.gen h 17 v' f4 (fun b e=>⟨.inr (.inr (.inl e)),fun e2=>?_,fun e2=>?_⟩) (by simp[WM.cells]) rfl rfl rfl rfl rfl rfl (fun w5 fs=>⟨z7 h4 fs (fun k e hk=>by subst hk;exact za h4 hb4 (by decide) e),hrow h.book.vm (by decide) (by decide) w5 fs,hrow h.book.ns (by decide) (by decide) w5 fs,hrow h.book.nm (by decide) (by decide) w5 fs,hrow h.book.hs (by decide) (by decide) w5 fs,hrow h.book.hm (by decide) (by decide) w5 fs,h.book.s1,h.book.s2⟩) (fun k hk=>?_)
 ·subst e2;exact hty h.blk.ty (by decide) e
 ·exact hty (zy h.sts e2) (by decide) e
 rcases hk with hk|hk|hk|hk|hk|hk|hk|hk
 ·exact .inl (.inl hk)
 ·exact .inl (.inr (.inl hk))
 ·exact(hn k hk).elim (fun e=>.inl (.inr (.inr (.inl e)))) .inr
 ·exact .inl (.inr (.inr (.inr (.inl hk))))
 ·exact .inl (.inr (.inr (.inr (.inr (.inl hk)))))
 ·exact .inl (.inr (.inr (.inr (.inr (.inr (.inl hk))))))
 ·exact .inl (.inr (.inr (.inr (.inr (.inr (.inr (.inl hk)))))))
 ·exact .inl (.inr (.inr (.inr (.inr (.inr (.inr (.inr (hk))))))))
theorem WStep.vm{K:Nat→Prop}{w w4:World}{L:WL}{W:WM}(h:WAt K w L W){v':Value}{xs:List Nat}(h4:w4.ownsRow 0 3 1 v' xs.length (ZK xs))(f4:Fr (fun b=>L.vm.ownBlock=some b) w w4)(hn:∀ b,v'.ownBlock=some b→L.vm.ownBlock=some b∨w.heap.size≤b) :
  WStep K L w {L with vm:=v'} {W with bk:={W.bk with vm:=xs}} (w4.setCell ⟨L.wb,18,none⟩ v'):=by
 have hty:∀ {t:TypeId} {k:Nat},Ty w k t→t≠3→¬L.vm.ownBlock=some k:=fun hk ht e=>ht (hk.inj (zy h.book.vm e))
 have hrow:∀ {t:TypeId} {v:Value} {n s:Nat} {xs:List Value},w.ownsRow 0 t s v n xs→t≠3→t≠49→∀ w5,Fr (fun k=>k=L.wb) w4 w5→w5.ownsRow 0 t s v n xs:=fun ho h1 h2 w5 fs =>
  z7 (z7 ho f4 (fun k e=>hty (zy ho e) h1)) fs (fun k e hk=>by subst hk;exact za ho h.blk (fun e=>h2 e.symm) e)
 have hb4:Blk w4 L.wb _ _:=h.blk.fr f4 (hty h.blk.ty (by decide))
 refine WStep.gen h 18 v' f4 (fun b e=>⟨.inr (.inr (.inr (.inl e))),fun e2=>?_,fun e2=>?_⟩) (by simp[WM.cells]) rfl rfl rfl rfl rfl rfl (fun w5 fs=>⟨hrow h.book.vs (by decide) (by decide) w5 fs,z7 h4 fs (fun k e hk=>by subst hk;exact za h4 hb4 (by decide) e),hrow h.book.ns (by decide) (by decide) w5 fs,z7 (z7 h.book.nm f4 (fun k e hk=>(h.book.s1 k hk).1 e)) fs (fun k e hk=>by subst hk;exact za h.book.nm h.blk (by decide) e),hrow h.book.hs (by decide) (by decide) w5 fs,z7 (z7 h.book.hm f4 (fun k e hk=>(h.book.s1 k hk).2 e)) fs (fun k e hk=>by subst hk;exact za h.book.hm h.blk (by decide) e),fun k e=>(hn k e).elim (h.book.s1 k) (fun e3=>⟨fun e2=>by have:=zA h.book.nm e2;omega,fun e2=>by have:=zA h.book.hm e2;omega⟩),h.book.s2⟩) (fun k hk=>?_)
 ·subst e2;exact hty h.blk.ty (by decide) e
 ·exact hty (zy h.sts e2) (by decide) e
 rcases hk with hk|hk|hk|hk|hk|hk|hk|hk
 ·exact .inl (.inl hk)
 ·exact .inl (.inr (.inl hk))
 ·exact .inl (.inr (.inr (.inl hk)))
 ·exact(hn k hk).elim (fun e=>.inl (.inr (.inr (.inr (.inl e))))) .inr
 ·exact .inl (.inr (.inr (.inr (.inr (.inl hk)))))
 ·exact .inl (.inr (.inr (.inr (.inr (.inr (.inl hk))))))
 ·exact .inl (.inr (.inr (.inr (.inr (.inr (.inr (.inl hk)))))))
 ·exact .inl (.inr (.inr (.inr (.inr (.inr (.inr (.inr (hk))))))))
theorem WStep.ns{K:Nat→Prop}{w w4:World}{L:WL}{W:WM}(h:WAt K w L W){v':Value}{xs:List Value}(h4:w4.ownsRow 0 91 1 v' xs.length xs)(f4:Fr (fun b=>L.ns.ownBlock=some b) w w4)(hn:∀ b,v'.ownBlock=some b→L.ns.ownBlock=some b∨w.heap.size≤b) :
  WStep K L w {L with ns:=v'} {W with bk:={W.bk with ns:=xs}} (w4.setCell ⟨L.wb,19,none⟩ v'):=by
 have hty:∀ {t:TypeId} {k:Nat},Ty w k t→t≠91→¬L.ns.ownBlock=some k:=fun hk ht e=>ht (hk.inj (zy h.book.ns e))
 have hrow:∀ {t:TypeId} {v:Value} {n s:Nat} {xs:List Value},w.ownsRow 0 t s v n xs→t≠91→t≠49→∀ w5,Fr (fun k=>k=L.wb) w4 w5→w5.ownsRow 0 t s v n xs:=fun ho h1 h2 w5 fs =>
  z7 (z7 ho f4 (fun k e=>hty (zy ho e) h1)) fs (fun k e hk=>by subst hk;exact za ho h.blk (fun e=>h2 e.symm) e)
 have hb4:Blk w4 L.wb _ _:=h.blk.fr f4 (hty h.blk.ty (by decide))
 refine WStep.gen h 19 v' f4 (fun b e=>⟨.inr (.inr (.inr (.inr (.inl e)))),fun e2=>?_,fun e2=>?_⟩) (by simp[WM.cells]) rfl rfl rfl rfl rfl rfl (fun w5 fs=>⟨hrow h.book.vs (by decide) (by decide) w5 fs,hrow h.book.vm (by decide) (by decide) w5 fs,z7 h4 fs (fun k e hk=>by subst hk;exact za h4 hb4 (by decide) e),hrow h.book.nm (by decide) (by decide) w5 fs,hrow h.book.hs (by decide) (by decide) w5 fs,hrow h.book.hm (by decide) (by decide) w5 fs,h.book.s1,h.book.s2⟩) (fun k hk=>?_)
 ·subst e2;exact hty h.blk.ty (by decide) e
 ·exact hty (zy h.sts e2) (by decide) e
 rcases hk with hk|hk|hk|hk|hk|hk|hk|hk
 ·exact .inl (.inl hk)
 ·exact .inl (.inr (.inl hk))
 ·exact .inl (.inr (.inr (.inl hk)))
 ·exact .inl (.inr (.inr (.inr (.inl hk))))
 ·exact(hn k hk).elim (fun e=>.inl (.inr (.inr (.inr (.inr (.inl e)))))) .inr
 ·exact .inl (.inr (.inr (.inr (.inr (.inr (.inl hk))))))
 ·exact .inl (.inr (.inr (.inr (.inr (.inr (.inr (.inl hk)))))))
 ·exact .inl (.inr (.inr (.inr (.inr (.inr (.inr (.inr (hk))))))))
theorem WStep.nm{K:Nat→Prop}{w w4:World}{L:WL}{W:WM}(h:WAt K w L W){v':Value}{xs:List Nat}(h4:w4.ownsRow 0 3 1 v' xs.length (ZK xs))(f4:Fr (fun b=>L.nm.ownBlock=some b) w w4)(hn:∀ b,v'.ownBlock=some b→L.nm.ownBlock=some b∨w.heap.size≤b) :
  WStep K L w {L with nm:=v'} {W with bk:={W.bk with nm:=xs}} (w4.setCell ⟨L.wb,20,none⟩ v'):=by
 have hty:∀ {t:TypeId} {k:Nat},Ty w k t→t≠3→¬L.nm.ownBlock=some k:=fun hk ht e=>ht (hk.inj (zy h.book.nm e))
 have hrow:∀ {t:TypeId} {v:Value} {n s:Nat} {xs:List Value},w.ownsRow 0 t s v n xs→t≠3→t≠49→∀ w5,Fr (fun k=>k=L.wb) w4 w5→w5.ownsRow 0 t s v n xs:=fun ho h1 h2 w5 fs =>
  z7 (z7 ho f4 (fun k e=>hty (zy ho e) h1)) fs (fun k e hk=>by subst hk;exact za ho h.blk (fun e=>h2 e.symm) e)
 have hb4:Blk w4 L.wb _ _:=h.blk.fr f4 (hty h.blk.ty (by decide))
 refine WStep.gen h 20 v' f4 (fun b e=>⟨.inr (.inr (.inr (.inr (.inr (.inl e))))),fun e2=>?_,fun e2=>?_⟩) (by simp[WM.cells]) rfl rfl rfl rfl rfl rfl (fun w5 fs=>⟨hrow h.book.vs (by decide) (by decide) w5 fs,z7 (z7 h.book.vm f4 (fun k e hk=>(h.book.s1 k e).1 hk)) fs (fun k e hk=>by subst hk;exact za h.book.vm h.blk (by decide) e),hrow h.book.ns (by decide) (by decide) w5 fs,z7 h4 fs (fun k e hk=>by subst hk;exact za h4 hb4 (by decide) e),hrow h.book.hs (by decide) (by decide) w5 fs,z7 (z7 h.book.hm f4 (fun k e hk=>h.book.s2 k hk e)) fs (fun k e hk=>by subst hk;exact za h.book.hm h.blk (by decide) e),fun k e=>⟨fun e2=>(hn k e2).elim (fun e3=>(h.book.s1 k e).1 e3) (fun e3=>by have:=zA h.book.vm e;omega),(h.book.s1 k e).2⟩,fun k e e2=>(hn k e).elim (fun e3=>h.book.s2 k e3 e2) (fun e3=>by have:=zA h.book.hm e2;omega)⟩) (fun k hk=>?_)
 ·subst e2;exact hty h.blk.ty (by decide) e
 ·exact hty (zy h.sts e2) (by decide) e
 rcases hk with hk|hk|hk|hk|hk|hk|hk|hk
 ·exact .inl (.inl hk)
 ·exact .inl (.inr (.inl hk))
 ·exact .inl (.inr (.inr (.inl hk)))
 ·exact .inl (.inr (.inr (.inr (.inl hk))))
 ·exact .inl (.inr (.inr (.inr (.inr (.inl hk)))))
 ·exact(hn k hk).elim (fun e=>.inl (.inr (.inr (.inr (.inr (.inr (.inl e))))))) .inr
 ·exact .inl (.inr (.inr (.inr (.inr (.inr (.inr (.inl hk)))))))
 ·exact .inl (.inr (.inr (.inr (.inr (.inr (.inr (.inr (hk))))))))
theorem WStep.hs{K:Nat→Prop}{w w4:World}{L:WL}{W:WM}(h:WAt K w L W){v':Value}{xs:List Value}(h4:w4.ownsRow 0 66 1 v' xs.length xs)(f4:Fr (fun b=>L.hs.ownBlock=some b) w w4)(hn:∀ b,v'.ownBlock=some b→L.hs.ownBlock=some b∨w.heap.size≤b) :
  WStep K L w {L with hs:=v'} {W with bk:={W.bk with hs:=xs}} (w4.setCell ⟨L.wb,21,none⟩ v'):=by
 have hty:∀ {t:TypeId} {k:Nat},Ty w k t→t≠66→¬L.hs.ownBlock=some k:=fun hk ht e=>ht (hk.inj (zy h.book.hs e))
 have hrow:∀ {t:TypeId} {v:Value} {n s:Nat} {xs:List Value},w.ownsRow 0 t s v n xs→t≠66→t≠49→∀ w5,Fr (fun k=>k=L.wb) w4 w5→w5.ownsRow 0 t s v n xs:=fun ho h1 h2 w5 fs =>
  z7 (z7 ho f4 (fun k e=>hty (zy ho e) h1)) fs (fun k e hk=>by subst hk;exact za ho h.blk (fun e=>h2 e.symm) e)
 have hb4:Blk w4 L.wb _ _:=h.blk.fr f4 (hty h.blk.ty (by decide))
 refine WStep.gen h 21 v' f4 (fun b e=>⟨.inr (.inr (.inr (.inr (.inr (.inr (.inl e)))))),fun e2=>?_,fun e2=>?_⟩) (by simp[WM.cells]) rfl rfl rfl rfl rfl rfl (fun w5 fs=>⟨hrow h.book.vs (by decide) (by decide) w5 fs,hrow h.book.vm (by decide) (by decide) w5 fs,hrow h.book.ns (by decide) (by decide) w5 fs,hrow h.book.nm (by decide) (by decide) w5 fs,z7 h4 fs (fun k e hk=>by subst hk;exact za h4 hb4 (by decide) e),hrow h.book.hm (by decide) (by decide) w5 fs,h.book.s1,h.book.s2⟩) (fun k hk=>?_)
 ·subst e2;exact hty h.blk.ty (by decide) e
 ·exact hty (zy h.sts e2) (by decide) e
 rcases hk with hk|hk|hk|hk|hk|hk|hk|hk
 ·exact .inl (.inl hk)
 ·exact .inl (.inr (.inl hk))
 ·exact .inl (.inr (.inr (.inl hk)))
 ·exact .inl (.inr (.inr (.inr (.inl hk))))
 ·exact .inl (.inr (.inr (.inr (.inr (.inl hk)))))
 ·exact .inl (.inr (.inr (.inr (.inr (.inr (.inl hk))))))
 ·exact(hn k hk).elim (fun e=>.inl (.inr (.inr (.inr (.inr (.inr (.inr (.inl e)))))))) .inr
 ·exact .inl (.inr (.inr (.inr (.inr (.inr (.inr (.inr (hk))))))))
theorem WStep.hm{K:Nat→Prop}{w w4:World}{L:WL}{W:WM}(h:WAt K w L W){v':Value}{xs:List Nat}(h4:w4.ownsRow 0 3 1 v' xs.length (ZK xs))(f4:Fr (fun b=>L.hm.ownBlock=some b) w w4)(hn:∀ b,v'.ownBlock=some b→L.hm.ownBlock=some b∨w.heap.size≤b) :
  WStep K L w {L with hm:=v'} {W with bk:={W.bk with hm:=xs}} (w4.setCell ⟨L.wb,22,none⟩ v'):=by
 have hty:∀ {t:TypeId} {k:Nat},Ty w k t→t≠3→¬L.hm.ownBlock=some k:=fun hk ht e=>ht (hk.inj (zy h.book.hm e))
 have hrow:∀ {t:TypeId} {v:Value} {n s:Nat} {xs:List Value},w.ownsRow 0 t s v n xs→t≠3→t≠49→∀ w5,Fr (fun k=>k=L.wb) w4 w5→w5.ownsRow 0 t s v n xs:=fun ho h1 h2 w5 fs =>
  z7 (z7 ho f4 (fun k e=>hty (zy ho e) h1)) fs (fun k e hk=>by subst hk;exact za ho h.blk (fun e=>h2 e.symm) e)
 have hb4:Blk w4 L.wb _ _:=h.blk.fr f4 (hty h.blk.ty (by decide))
 refine WStep.gen h 22 v' f4 (fun b e=>⟨.inr (.inr (.inr (.inr (.inr (.inr (.inr (e))))))),fun e2=>?_,fun e2=>?_⟩) (by simp[WM.cells]) rfl rfl rfl rfl rfl rfl (fun w5 fs=>⟨hrow h.book.vs (by decide) (by decide) w5 fs,z7 (z7 h.book.vm f4 (fun k e hk=>(h.book.s1 k e).2 hk)) fs (fun k e hk=>by subst hk;exact za h.book.vm h.blk (by decide) e),hrow h.book.ns (by decide) (by decide) w5 fs,z7 (z7 h.book.nm f4 (fun k e hk=>h.book.s2 k e hk)) fs (fun k e hk=>by subst hk;exact za h.book.nm h.blk (by decide) e),hrow h.book.hs (by decide) (by decide) w5 fs,z7 h4 fs (fun k e hk=>by subst hk;exact za h4 hb4 (by decide) e),fun k e=>⟨(h.book.s1 k e).1,fun e2=>(hn k e2).elim (fun e3=>(h.book.s1 k e).2 e3) (fun e3=>by have:=zA h.book.vm e;omega)⟩,fun k e e2=>(hn k e2).elim (fun e3=>h.book.s2 k e e3) (fun e3=>by have:=zA h.book.nm e;omega)⟩) (fun k hk=>?_)
 ·subst e2;exact hty h.blk.ty (by decide) e
 ·exact hty (zy h.sts e2) (by decide) e
 rcases hk with hk|hk|hk|hk|hk|hk|hk|hk
 ·exact .inl (.inl hk)
 ·exact .inl (.inr (.inl hk))
 ·exact .inl (.inr (.inr (.inl hk)))
 ·exact .inl (.inr (.inr (.inr (.inl hk))))
 ·exact .inl (.inr (.inr (.inr (.inr (.inl hk)))))
 ·exact .inl (.inr (.inr (.inr (.inr (.inr (.inl hk))))))
 ·exact .inl (.inr (.inr (.inr (.inr (.inr (.inr (.inl hk)))))))
 ·exact(hn k hk).elim (fun e=>.inl (.inr (.inr (.inr (.inr (.inr (.inr (.inr (e))))))))) .inr
structure Booked(B B':BK):Prop where
 vs:B'.vs.length≤B.vs.length+4
 vm:B'.vm.length≤B.vm.length+4
 ns:B'.ns.length≤B.ns.length+4
 nm:B'.nm.length≤B.nm.length+4
 hs:B'.hs.length≤B.hs.length+4
 hm:B'.hm.length≤B.hm.length+4
structure BSmall(B:BK):Prop where
 vs:B.vs.length<100000000
 vm:B.vm.length<100000000
 ns:B.ns.length<100000000
 nm:B.nm.length<100000000
 hs:B.hs.length<100000000
 hm:B.hm.length<100000000
def WM.booked(W:WM)(bk:BK):WM:={W with next:=W.next+1,bk:=bk}
theorem OY(a:Ver)(t:List Value)(x:Ver):((((((((a.cells++t).set 0 (.int .i64 x.node)).set 1 (.int .i64 x.seq)).set 2 (.int .i64 x.o0)).set 3 (.int .i64 x.o1)).set 4 (.int .i64 x.o2)).set 5 (.int .i64 x.o3)).set 6 (.string x.value)).set 7 (.bool x.gone)=x.cells++t:=by
 simp[Ver.cells]
theorem OZ(a:Ver)(t:List Value)(k:Nat)(u:Value):(a.cells++t).set (k+8) u=a.cells++t.set k u:=by
 rw[List.set_append_right _ _ (by rw[Ver.cells_length];omega),Ver.cells_length,Nat.add_sub_cancel]
theorem TY(x:Ver):∀ (l:List Ver)(i:Nat),i<l.length→((((((((zM l).set (i*8) (.int .i64 x.node)).set (i*8+1) (.int .i64 x.seq)).set (i*8+2) (.int .i64 x.o0)).set (i*8+3) (.int .i64 x.o1)).set (i*8+4) (.int .i64 x.o2)).set (i*8+5) (.int .i64 x.o3)).set (i*8+6) (.string x.value)).set (i*8+7) (.bool x.gone)=zM (l.set i x)
 | [],i,h=>absurd h (Nat.not_lt_zero _)
 | a::l,0,_=>by
  have e:∀ b:Ver,zM (b::l)=b.cells++zM l:=fun b=>rfl
  rw[e,Nat.zero_mul]
  simp only[Nat.zero_add]
  rw[OY]
  rfl
 | a::l,i+1,h=>by
  have e:∀ (b:Ver) (l:List Ver),zM (b::l)=b.cells++zM l:=fun b l=>rfl
  have e0:(i+1)*8=i*8+8:=by omega
  have e1:∀ k,i*8+8+k=i*8+k+8:=by intro k;omega
  rw[e,e0]
  simp only[e1,OZ]
  rw[TY x l i (by simpa using h)]
  rfl
theorem VRow.set8{w:World}{g n cap:Nat}{l:List Ver}(h:VRow w (.slice (some ⟨g,0,none⟩) n cap) l)(hn:n=l.length)(i:Nat)(hi:i<l.length)(x:Ver) :
  VRow ((((((((w.setCell ⟨g,i*8,none⟩ (.int .i64 x.node)).setCell ⟨g,i*8+1,none⟩ (.int .i64 x.seq)).setCell ⟨g,i*8+2,none⟩ (.int .i64 x.o0)).setCell ⟨g,i*8+3,none⟩ (.int .i64 x.o1)).setCell ⟨g,i*8+4,none⟩ (.int .i64 x.o2)).setCell ⟨g,i*8+5,none⟩ (.int .i64 x.o3)).setCell ⟨g,i*8+6,none⟩ (.string x.value)).setCell ⟨g,i*8+7,none⟩ (.bool x.gone))
   (.slice (some ⟨g,0,none⟩) n cap) (l.set i x):=by
 subst hn
 unfold VRow at h ⊢
 rw[← TY x l i hi,List.length_set]
 exact Zu (Zu (Zu (Zu (Zu (Zu (Zu (Zu h _ _) _ _) _ _) _ _) _ _) _ _) _ _) _ _
structure MK(K:Nat→Prop)(L:WL)(W:WM)(w0:World)(n xb m i:Nat)(lv:Value)(w':World):Prop where
 ex:∃ l' L' bk',VRow w' lv l'∧(∀ k,lv.ownBlock=some k→w0.heap.size≤k)∧l'.length=n+i∧WStep K L w0 L' (W.booked bk') w'∧bk'.vs.length=W.bk.vs.length+i∧bk'.vm.length=W.bk.vm.length+i∧bk'.ns=W.bk.ns∧bk'.nm=W.bk.nm∧bk'.hs=W.bk.hs∧bk'.hm=W.bk.hm∧L'.ps=L.ps
 box:Blk w' xb (Yj m).cells 37
 low:w0.heap.size≤xb
 notBox:¬lv.ownBlock=some xb
theorem WAt.notV{K:Nat→Prop}{w:World}{L:WL}{W:WM}(h:WAt K w L W){v:Value}{l:List Ver}(hv:VRow w v l):∀ k,WFoot L k→¬v.ownBlock=some k:=fun k hk e=>by
 obtain⟨t,ht,hd⟩:=h.ty hk
 have:=ht.inj (zy hv e)
 subst this
 unfold WTy at hd
 rcases hd with e|e|e|e|e|e <;> exact absurd e (by decide)
theorem WAt.low{K:Nat→Prop}{w:World}{L:WL}{W:WM}(h:WAt K w L W):∀ k,K k→k<w.heap.size:=fun k e=>(h.keep k e).1
theorem Blk.newAt(w:World)(c:List Value)(t:TypeId)(N:Nat)(hN:N=w.heap.size):Blk (w.alloc (.cells c.toArray t)) N c t:=by subst hN;exact Blk.new w c t
theorem Ln{K:Nat→Prop}{L1:WL}{W1:WM}{wr w4:World}{v4 x:Value}{n:Nat}(h:WAt K wr L1 W1)(hn:n=W1.bk.vs.length+1)(ho:w4.ownsRow 0 61 1 v4 n (W1.bk.vs++[x]))(hf:Fr (fun k=>L1.vs.ownBlock=some k) wr w4)(hn4:∀ k,v4.ownBlock=some k→L1.vs.ownBlock=some k∨wr.heap.size≤k) :
  WStep K L1 wr {L1 with vs:=v4} {W1 with bk:={W1.bk with vs:=W1.bk.vs++[x]}} (w4.setCell ⟨L1.wb,17,none⟩ v4) :=
 WStep.vs h (by rw[List.length_append,List.length_singleton,← hn];exact ho) hf hn4
theorem Wd(l:List Nat)(m:Nat):ZK (l++[m])=ZK l++[.int .i64 m]:=by simp[ZK]
theorem Lo{K:Nat→Prop}{L1:WL}{W1:WM}{wr w4:World}{v4:Value}{m n:Nat}(h:WAt K wr L1 W1)(hn:n=W1.bk.vm.length+1)(ho:w4.ownsRow 0 3 1 v4 n (ZK W1.bk.vm++[.int .i64 m]))(hf:Fr (fun k=>L1.vm.ownBlock=some k) wr w4)(hn4:∀ k,v4.ownBlock=some k→L1.vm.ownBlock=some k∨wr.heap.size≤k) :
  WStep K L1 wr {L1 with vm:=v4} {W1 with bk:={W1.bk with vm:=W1.bk.vm++[m]}} (w4.setCell ⟨L1.wb,18,none⟩ v4) :=
 WStep.vm h (by rw[List.length_append,List.length_singleton,← hn,Wd];exact ho) hf hn4
theorem WAt.notB{K:Nat→Prop}{w:World}{L:WL}{W:WM}(h:WAt K w L W){b:Nat}{c:List Value}{t:TypeId}(hb:Blk w b c t)(ht:¬WTy t):¬WFoot L b:=fun hk=>by
 obtain⟨u,hu,hd⟩:=h.ty hk
 have:=hu.inj hb.ty
 subst this
 exact ht hd
theorem ML:¬WTy 37:=by
 intro hd
 unfold WTy at hd
 rcases hd with e|e|e|e|e|e <;> exact absurd e (by decide)
theorem VM(K:Nat→Prop)(L:WL)(W:WM)(lv:Value)(l:List Ver)(w0 w:World)(h0:WAt K w0 L W)(f0:Fr Nil w0 w)(hl:VRow w lv l)(hnew:∀ k,lv.ownBlock=some k→w0.heap.size≤k)(hn:l.length<100000)(hb:W.base<100000000)(hx:W.next<100000000)(hs:BSmall W.bk) :
  Calls Tryz.prog 119 #[.pointer (some ⟨L.wb,15,none⟩),lv] w fun e w'=>e=.returned (.tuple #[])∧∃ L' bk',WStep K L w0 L' (W.booked bk') w'∧Booked W.bk bk'∧L'.ps=L.ps:=by
 have HM:=Z (WD K L W w (h0.nil f0) hb hx)
 have H0:=Z h0
 have F0:=Z f0
 have HL:=Z hl
 have HN:=Z hnew
 have HLT:Hid (∀ k,lv.ownBlock=some k→k<w.heap.size):=fun k e=>zA hl e
 have HSM:=Z hs
 obtain⟨la,lc,rfl⟩:=z8 hl
 have HLEN:=Z hn
 clear h0 f0 hl hnew
 obtain⟨m,hm⟩:∃ m,m=W.base+W.next+1:=⟨_,rfl⟩
 have hml:m<1000000000000:=by omega
 rw[← hm] at HM
 clear hm hb hx hs
 go_enter Tryz.func119,Tryz.ntmps119
 go_wp2_with fail
 refine HM.out.mono ?_
 rintro e w1 ⟨rfl,hs1⟩
 have HS1:=Z hs1
 clear hs1
 go_wp2_with fail
 refine(WE m w1 hml).mono ?_
 rintro e w2 ⟨rfl,f2⟩
 go_wp2_with fail
 have hbx:Blk (w2.alloc (.cells (Yj m).cells.toArray 37)) w2.heap.size (Yj m).cells 37:=Blk.new w2 (Yj m).cells _
 have f3:Fr Nil w1 (w2.alloc (.cells (Yj m).cells.toArray 37)):=f2.alloc _
 have hlt2:w.heap.size≤w2.heap.size:=Nat.le_trans HS1.out.fr.size f2.size
 simp only[Yj,Ver.cells] at hbx f3
 generalize w2.alloc (.cells #[.int .i64 m,.int .i64 m,.int .i64 0,.int .i64 0,.int .i64 0,.int .i64 0,.string (ZL m),.bool true] 37)=w3 at hbx f3 ⊢
 generalize w2.heap.size=xb at hbx hlt2 ⊢
 have HBX:=Z hbx
 have HX0:Hid (w0.heap.size≤xb):=Nat.le_trans F0.out.size hlt2
 have HNB:Hid (¬(Value.slice la l.length lc).ownBlock=some xb):=fun e=>by have:=HLT.out xb e;omega
 have HS3:Hid (WStep K L w0 L (W.booked W.bk) w3):=(WStep.nil H0.out F0.out).trans (HS1.out.trans (WStep.nil HS1.out.rep f3))
 have HV3:Hid (VRow w3 (.slice la l.length lc) l):=z7 (z7 HL.out HS1.out.fr (fun k e hk=>(H0.out.nil F0.out).notV HL.out k hk e)) f3 (fun _ _=>id)
 generalize hnn:l.length=n at HV3 HN HLEN HNB ⊢
 have HNN:=Z hnn
 have hn:n<100000:=HLEN.out
 clear hbx f3 f2 hlt2 HS1 HL HM hnn HLT hml
 go_loopw [6] (fun t6 w'=>∃ i:Nat,∃ l':List Ver,i≤n∧t6=.int .i64 i∧l'.length=n∧VRow w' (.slice la n lc) l'∧Fr (fun k=>(Value.slice la n lc).ownBlock=some k) w3 w') (fun t6 _=>n-(intOf t6).toNat)
 case atStart=>exact⟨0,l,Nat.zero_le _,rfl,HNN.out,HV3.out,G _ _⟩
 case round =>
  obtain⟨i,l',hi,rfl,hl',hv,hf⟩:=hrel
  have HV:=Z hv
  have HF:=Z hf
  have HL':=Z hl'
  by_cases hlt:i<n
  ·obtain⟨g,rfl⟩:∃ g,la=some ⟨g,0,none⟩:=by
    obtain⟨g,cap,e,_⟩:=zi hv (by omega)
    simp at e;exact⟨g,e.1⟩
   have hx:=(HBX.out.fr hf HNB.out).cell
   have hv':=hv
   unfold VRow at hv'
   rw[hl'] at hv'
   have hz:∀ k,wr.frozen? ⟨g,k,none⟩=false:=fun k=>YH hv' k
   have hc:=VRow.cells hv' i (by rw[hl'];exact hlt)
   obtain⟨x,hxx⟩:∃ x,x=l'[i]'(by rw[hl'];exact hlt):=⟨_,rfl⟩
   have g0:=hc 0 (by omega)
   have g1:=hc 1 (by omega)
   have g2:=hc 2 (by omega)
   have g3:=hc 3 (by omega)
   have g4:=hc 4 (by omega)
   have g5:=hc 5 (by omega)
   have g6:=hc 6 (by omega)
   have g7:=hc 7 (by omega)
   rw[← hxx] at g0 g1 g2 g3 g4 g5 g6 g7
   simp only[Ver.cells,Nat.add_zero] at g0 g1 g2 g3 g4 g5 g6 g7
   clear hv hv' hf hl' hc hxx
   go_wp2_with fail
   have hset:=HV.out.set8 HL'.out.symm i (by rw[HL'.out];exact hlt) (Yj m)
   refine⟨⟨i+1,l'.set i (Yj m),by omega,by push_cast;rfl,by rw[List.length_set];exact HL'.out,hset,?_⟩,by simp[intOf];omega⟩
   have hF:=HF.out
   exact(by repeat' first|(with_reducible first|apply G|assumption|apply O|apply U|apply V|apply z6)|(intro _;rfl))
  ·have hin:i=n:=by omega
   subst hin
   have HS4:=Z (HS3.out.far HF.out HN.out (fun k hk e=>HS3.out.rep.notV HV3.out k hk e) H0.out.low)
   have HB4:=Z (MK.mk (i:=0) (n:=i) (m:=m) ⟨l',L,W.bk,HV.out,HN.out,HL'.out,HS4.out,rfl,rfl,rfl,rfl,rfl,rfl,rfl⟩ (HBX.out.fr HF.out HNB.out) HX0.out HNB.out)
   clear hv hf hl'
   go_wp2_with fail
   clear HS4 HV HF HL' HV3 HBX HNB HS3 HN HX0 HLEN HNN hi hlt
   go_loopw [1,7] (fun t1 t7 w'=>∃ j:Nat,j≤4∧t7=.int .i64 j∧MK K L W w0 i xb m j t1 w') (fun _ t7 _=>4-(intOf t7).toNat)
   case atStart=>exact⟨0,by omega,rfl,HB4.out⟩
   case round =>
    obtain⟨j,hj,rfl,hbk⟩:=hrel
    have HBK:=Z hbk
    by_cases hlt:j<4
    ·obtain⟨⟨l1,L1,bk1,hv1,hn1,hl1,hs1,e1,e2,e3,e4,e5,e6,e7⟩,hbx1,_,_⟩:=hbk
     have HV1:=Z hv1
     have HN1:=Z hn1
     have HL1:=Z hl1
     have HS1:=Z hs1
     have HE:=Z (And.intro e1 (And.intro e2 (And.intro e3 (And.intro e4 (And.intro e5 (And.intro e6 e7))))))
     have HBX1:=Z hbx1
     have hl1':l1.length<1000000:=by omega
     unfold VRow at hv1
     rw[hl1] at hv1
     obtain⟨a1,c1,rfl⟩:=z8 hv1
     have hwb:=hs1.wb
     have hb0:=hs1.rep.blk
     rw[hwb] at hb0
     obtain⟨va,vc,hvs⟩:∃ va vc,L1.vs=.slice va bk1.vs.length vc:=z8 hs1.rep.book.vs
     obtain⟨ma,mc,hvm⟩:∃ ma mc,L1.vm=.slice ma bk1.vm.length mc:=z8 hs1.rep.book.vm
     have hvsl:bk1.vs.length<1000000000:=by have:=HSM.out.vs;omega
     have hvml:bk1.vm.length<1000000000:=by have:=HSM.out.vm;omega
     have hc:=hb0.cell
     simp only[WM.cells,WM.booked,hvs,hvm] at hc
     have hx1:=hbx1.cell
     simp only[Yj,Ver.cells] at hx1
     have HROW:=Z hs1.rep.book.vs
     have HWB:=Z hwb
     have HVS:=Z hvs
     have HVM:=Z hvm
     rw[hvs] at HROW
     have HB4':Hid (∀ w4:World,Fr (fun k=>(Value.slice va bk1.vs.length vc).ownBlock=some k) wr w4→Blk w4 L.wb ((W.booked bk1).cells L1) 49):=fun w4 f=>hb0.fr f (za HROW.out hb0 (by decide))
     have HST1:Hid (∀ (v4:Value) (w4:World) (n:Nat),n=bk1.vs.length+1→w4.ownsRow 0 61 1 v4 n (bk1.vs++[.slice a1 (i+j) c1])→Fr (fun k=>(Value.slice va bk1.vs.length vc).ownBlock=some k) wr w4→(∀ k,v4.ownBlock=some k→(Value.slice va bk1.vs.length vc).ownBlock=some k∨wr.heap.size≤k) →
       WStep K L1 wr {L1 with vs:=v4} (W.booked {bk1 with vs:=bk1.vs++[.slice a1 (i+j) c1]}) (w4.setCell ⟨L.wb,17,none⟩ v4)):=fun v4 w4 n e ho hf hn=>by rw[← hwb];rw[← hvs] at hf hn;exact Ln HS1.out.rep e ho hf hn
     clear hv1 hn1 hl1 hs1 e1 e2 e3 e4 e5 e6 e7 hbx1 hwb hvs hvm hb0
     go_wp2_with (at_builtin;(first
      | (refine zf rfl _ _ _ _ rfl _ _ (by rfl) (by rfl) (Zn _ _ l1 HV7.out (Yj m) hl1' _ (by repeat' first|(with_reducible first|apply G|assumption|apply O|apply U|apply V|apply z6)|(intro _;rfl)) _ (by exact Blk.newAt _ (Yj m).cells _ _ (by simp[World.setCell])) _) ?_;rintro v8 w8 ⟨ho8,hf8,hn8⟩)
      | (refine zf rfl _ _ _ _ rfl _ _ (by rfl) (by rfl) (YB Tryz.underlying26 Vt (by decide) _ _ _ _ HROW2.out (.int .i64 m) rfl hvml _ (by repeat' first|(with_reducible first|apply G|assumption|apply O|apply U|apply V|apply z6)|(intro _;rfl)) _ (by exact Blk.newAt _ [_] _ _ (by simp[World.setCell])) _) ?_;rintro v6 w6 ⟨ho6,hf6,hn6⟩;have hb6:=HB5.out _ hf6;have hc6:=hb6.cell;simp only[WM.cells,WM.booked] at hc6;have hz6:=hb6.frozen;have HS7:=Z (HST2.out _ _ _ rfl ho6 hf6 hn6);have HV7:Hid (VRow _ (.slice a1 (i+j) c1) l1):=z7 HV5.out HS7.out.fr (fun k e hk=>HS5.out.rep.notV HV5.out k hk e);have HBX7:=Z (HBX5.out.fr HS7.out.fr (HS5.out.rep.notB HBX5.out ML));have hx7:=HBX7.out.cell;simp only[Yj,Ver.cells] at hx7;obtain⟨va6,vc6,rfl⟩:=z8 ho6)
      | (refine zf rfl _ _ _ _ rfl _ _ (by rfl) (by rfl) (YB Tryz.underlying43 Lk (by decide) wr _ _ _ HROW.out (.slice a1 (i+j) c1) rfl hvsl _ (by repeat' first|(with_reducible first|apply G|assumption|apply O|apply U|apply V|apply z6)|(intro _;rfl)) _ (by exact Blk.new _ [_] _) _) ?_;rintro v4 w4 ⟨ho4,hf4,hn4⟩;have hb4:=HB4'.out _ hf4;have hc4:=hb4.cell;simp only[WM.cells,WM.booked,HVM.out] at hc4;have hz4:=hb4.frozen;have HS5:=Z (HST1.out _ _ _ rfl ho4 hf4 hn4);have HV5:Hid (VRow _ (.slice a1 (i+j) c1) l1):=z7 HV1.out HS5.out.fr (fun k e hk=>HS1.out.rep.notV HV1.out k hk e);have HBX5:=Z (HBX1.out.fr HS5.out.fr (HS1.out.rep.notB HBX1.out ML));have HROW2:=Z HS5.out.rep.book.vm;rw[show({L1 with vs:=v4}:WL).vm=.slice ma bk1.vm.length mc from HVM.out] at HROW2;have HB5:Hid (∀ w6:World,Fr (fun k=>(Value.slice ma bk1.vm.length mc).ownBlock=some k) _ w6→Blk w6 L.wb ((W.booked {bk1 with vs:=bk1.vs++[.slice a1 (i+j) c1]}).cells {L1 with vs:=v4}) 49):=(fun w6 f=>by rw[← HWB.out];exact HS5.out.rep.blk.fr f (za HROW2.out HS5.out.rep.blk (by decide)));have HST2:Hid (∀ (v6:Value) (w6:World) (n:Nat),n=bk1.vm.length+1→w6.ownsRow 0 3 1 v6 n (ZK bk1.vm++[.int .i64 m])→Fr (fun k=>(Value.slice ma bk1.vm.length mc).ownBlock=some k) (w4.setCell ⟨L.wb,17,none⟩ v4) w6→(∀ k,v6.ownBlock=some k→(Value.slice ma bk1.vm.length mc).ownBlock=some k∨(w4.setCell ⟨L.wb,17,none⟩ v4).heap.size≤k)→WStep K {L1 with vs:=v4} (w4.setCell ⟨L.wb,17,none⟩ v4) {L1 with vs:=v4,vm:=v6} (W.booked {bk1 with vs:=bk1.vs++[.slice a1 (i+j) c1],vm:=bk1.vm++[m]}) (w6.setCell ⟨L.wb,18,none⟩ v6)):=(fun v6 w6 n e ho hf hn=>by rw[← HWB.out] at hf hn ⊢;rw[← HVM.out] at hf hn;have hr:=HS5.out.rep;rw[← HWB.out] at hr;exact Lo (L1:={L1 with vs:=v4}) (W1:=W.booked {bk1 with vs:=bk1.vs++[.slice a1 (i+j) c1]}) (m:=m) hr e ho hf hn);obtain⟨va4,vc4,rfl⟩:=z8 ho4)))
     have hS7:=HS1.out.trans (HS5.out.trans HS7.out)
     have hS8:WStep K L w0 _ _ w8:=hS7.far hf8 HN1.out (fun k hk e=>hS7.rep.notV HV7.out k hk e) H0.out.low
     have hle:w0.heap.size≤(w6.setCell ⟨L.wb,18,none⟩ _).heap.size:=hS7.fr.size
     have hbx8:=HBX7.out.fr hf8 HBK.out.notBox
     obtain⟨e1,e2,e3,e4,e5,e6,e7⟩:=HE.out
     refine⟨⟨j+1,by omega,by push_cast;rfl,⟨⟨l1++[Yj m],_,_,ho8,fun k e=>(hn8 k e).elim (HN1.out k) (fun e=>Nat.le_trans hle e),by rw[List.length_append,List.length_singleton,HL1.out];omega,hS8,?_,?_,e3,e4,e5,e6,e7⟩,hbx8,HBK.out.low,fun e=>(hn8 xb e).elim HBK.out.notBox (fun e=>by have:=HBX7.out.lt;omega)⟩⟩,by simp[intOf];omega⟩
     ·simp only[List.length_append,List.length_singleton];omega
     ·simp only[List.length_append,List.length_singleton];omega
    ·have hj4:j=4:=by omega
     subst hj4
     obtain⟨⟨l1,L1,bk1,hv1,hn1,hl1,hs1,e1,e2,e3,e4,e5,e6,e7⟩,_,_,_⟩:=hbk
     have HS1:=Z hs1
     have HE:Hid (Booked W.bk bk1):=⟨by omega,by omega,by rw[e3];omega,by rw[e4];omega,by rw[e5];omega,by rw[e6];omega⟩
     have HPS:=Z e7
     clear hv1 hn1 hl1 hs1 e1 e2 e3 e4 e5 e6 e7
     go_wp2_with fail
     exact bodyPost_end (v:=.tuple #[]) (by simp[results,go_sem]) rfl ⟨rfl,L1,bk1,HS1.out,HE.out,HPS.out⟩
end Go.Proofs.YtkhnggkkiefcdaaGreatDoor
