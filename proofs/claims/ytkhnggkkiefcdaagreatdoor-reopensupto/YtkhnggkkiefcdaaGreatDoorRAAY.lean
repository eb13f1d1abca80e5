/- larder: joined texts -/
import Derived.Test.YtkhnggkkiefcdaaGreatDoorRAAX
namespace Go.Proofs.YtkhnggkkiefcdaaGreatDoor
open Go.RowKit
set_option maxRecDepth 100000
set_option maxHeartbeats 8000000
theorem QZ(K:Nat→Prop)(B:Nat)(L:WL)(W:WM)(X:NL)(N:NM)(M:DM)(o:OpM)(w:World)(h:Play K B w L W X N M)(hk:o.kind=5)(hp:0<L.ps.length)(hl:L.ps.length<1000000)
  (m:LM)(hm:W.st[L.ps.length-1]?=some m)(hvs:zL m.keys o.key=zc N.S.keys o.key)(hnk:N.S.keys.length<1099511627776)(hnl:(zc N.S.keys o.key).length≤1000)(hbs:BSmall W.bk)(hba:W.base<100000000)(hnx:W.next<100000000)(hko:zm o.key=true) :
  Calls Tryz.prog 65 #[.pointer (some ⟨L.wb,0,none⟩),.agg o.cells.toArray] w fun e w'=>e=.returned (.bool true)∧∃ L' bk',PStep K B L X M w K L' (W.booked bk') X N M w'∧L'.ps=L.ps∧Booked W.bk bk':=by
 obtain⟨kind,a,b,c,key,text,v,tails⟩:=o
 simp only at *
 subst hk
 simp only[OpM.cells,Ver.cells,List.cons_append,List.nil_append]
 have f1:Fr Nil w (w.alloc (.cells #[.int .i64 5,.int .i64 a,.int .i64 b,.int .i64 c,.string key,.string text,.int .i64 v.node,.int .i64 v.seq,.int .i64 v.o0,.int .i64 v.o1,.int .i64 v.o2,.int .i64 v.o3,.string v.value,.bool v.gone,tails] 39)):=(G _ _).alloc _
 have hb1:=Blk.new w [.int .i64 5,.int .i64 a,.int .i64 b,.int .i64 c,.string key,.string text,.int .i64 v.node,.int .i64 v.seq,.int .i64 v.o0,.int .i64 v.o1,.int .i64 v.o2,.int .i64 v.o3,.string v.value,.bool v.gone,tails] 39
 have HC:=Z (fun wx (f:Fr Nil w wx)=>zq wx L.db X.LD M ((h.marks).nil f))
 have HNOW:=Z (fun wx (f:Fr Nil w wx)=>zV K L W wx (h.wat.nil f) hp (by omega))
 have hple:L.ps.length=W.st.length:=h.wat.ple
 have hlm:W.st[L.ps.length-1]'(by omega)=m:=by rw[List.getElem?_eq_getElem (by omega)] at hm;exact Option.some.inj hm
 have hlast:=(h.wat.last hp).2
 simp only[hlm] at hlast
 obtain⟨q,hqq⟩:∃ q,q=L.ps[L.ps.length-1]:=⟨_,rfl⟩
 rw[← hqq] at hlast HNOW
 obtain⟨kv,hv,ents,ha,hKb⟩:=hlast
 have hcw:∀ wx,Fr Nil w wx→∀ k,wx.cell? ⟨L.wb,k,none⟩=(W.cells L)[k]?:=fun wx f=>(h.wat.nil f).blk.cell
 have HCW:=Z hcw
 have hc0:=hcw _ f1
 simp only[WM.cells,h.nv] at hc0
 have hc1:=hb1.cell
 have HF1:=Z f1
 have HB1:=Z hb1
 have HH:=Z h
 have HA:=Z ha
 have HGET:=Z (fun wx (f:Fr Nil w wx)=>XS X N M key wx (h.node.nil f) hnk (by omega))
 have HVER:=Z (fun wx (f:Fr Nil w wx)=>Y9 q kv hv ents m key wx (ha.nil f))
 rw[hvs] at HVER
 have HBAD:=Z (fun wx=>ZY key wx)
 have HBK:=Z (fun lv l wx f hl hn hlen=>VM K L W lv l w wx h.wat f hl hn hlen hba hnx hbs)
 have HNL:=Z hnl
 unfold zT at HBAD
 rw[hko] at HBAD HGET
 simp only[if_true] at HBAD HGET
 clear h f1 hb1 hlm hqq ha hcw hKb hple hm hvs hnk hnl hbs hba hnx hko
 go_enter Tryz.func65,Tryz.ntmps65
 go_wp2_with (refine(HC.out _ HF1.out).mono ?_;rintro e wx ⟨rfl,hwx⟩;subst wx)
 refine(HNOW.out _ HF1.out).mono ?_
 rintro e w2 ⟨rfl,n2,hw2⟩
 subst w2
 have hF2:Fr Nil w ((w.alloc (.cells #[.int .i64 5,.int .i64 a,.int .i64 b,.int .i64 c,.string key,.string text,.int .i64 v.node,.int .i64 v.seq,.int .i64 v.o0,.int .i64 v.o1,.int .i64 v.o2,.int .i64 v.o3,.string v.value,.bool v.gone,tails] 39)).drewN n2):=HF1.out.drewN n2
 have hc2:=HCW.out _ hF2
 simp only[WM.cells,HH.out.nv] at hc2
 have hb2:Blk ((w.alloc (.cells #[.int .i64 5,.int .i64 a,.int .i64 b,.int .i64 c,.string key,.string text,.int .i64 v.node,.int .i64 v.seq,.int .i64 v.o0,.int .i64 v.o1,.int .i64 v.o2,.int .i64 v.o3,.string v.value,.bool v.gone,tails] 39)).drewN n2) w.heap.size [.int .i64 5,.int .i64 a,.int .i64 b,.int .i64 c,.string key,.string text,.int .i64 v.node,.int .i64 v.seq,.int .i64 v.o0,.int .i64 v.o1,.int .i64 v.o2,.int .i64 v.o3,.string v.value,.bool v.gone,tails] 39:=HB1.out.drewN n2
 have HB2:=Z hb2
 have hx2:=hb2.cell
 have HF2:=Z hF2
 clear hc0 hc1 hF2 hb2
 generalize (w.alloc (.cells #[.int .i64 5,.int .i64 a,.int .i64 b,.int .i64 c,.string key,.string text,.int .i64 v.node,.int .i64 v.seq,.int .i64 v.o0,.int .i64 v.o1,.int .i64 v.o2,.int .i64 v.o3,.string v.value,.bool v.gone,tails] 39)).drewN n2=w2 at hc2 hx2 HF2 HB2 ⊢
 generalize hbb:w.heap.size=bb at hx2 HB2 ⊢
 have HBB:=Z hbb
 clear hbb
 go_wp2_with fail
 have HCK:Hid (∀ wx,Fr Nil w2 wx→wx.cell? ⟨L.wb,5,none⟩=some (.pointer (some ⟨X.nb,0,none⟩))∧∀ k,wx.cell? ⟨bb,k,none⟩=([.int .i64 5,.int .i64 a,.int .i64 b,.int .i64 c,.string key,.string text,.int .i64 v.node,.int .i64 v.seq,.int .i64 v.o0,.int .i64 v.o1,.int .i64 v.o2,.int .i64 v.o3,.string v.value,.bool v.gone,tails]:List Value)[k]?):=fun wx f=>⟨by rw[HCW.out _ (HF2.out.trans f)];show some L.nv=_;rw[HH.out.nv],(HB2.out.fr f id).cell⟩
 have hcc:w2.cell? ⟨L.wb,5,none⟩=some (.pointer (some ⟨X.nb,0,none⟩))∧w2.cell? ⟨bb,4,none⟩=some (.string key):=⟨(HCK.out w2 (G _ _)).1,(HCK.out w2 (G _ _)).2 4⟩
 go_region_held3 (fun wx=>wx.cell? ⟨L.wb,5,none⟩=some (.pointer (some ⟨X.nb,0,none⟩))∧wx.cell? ⟨bb,4,none⟩=some (.string key)) (first|assumption|go_keep)
  (first|(go_at_call 24;refine(HGET.out _ (HF2.out.trans (by exact(by repeat' first|(with_reducible first|apply G|assumption|apply O|apply U|apply V|apply z6)|(intro _;rfl))))).mono ?_;rintro e w4 ⟨v4,rfl,hv4,hf4,hn4⟩;have hF4:Fr Nil w2 w4:=Fr.trans (by repeat' first|(with_reducible first|apply G|assumption|apply O|apply U|apply V|apply z6)|(intro _;rfl)) hf4;have hz4:w4.cell? ⟨L.wb,5,none⟩=some (.pointer (some ⟨X.nb,0,none⟩))∧w4.cell? ⟨bb,4,none⟩=some (.string key):=⟨(HCK.out w4 hF4).1,(HCK.out w4 hF4).2 4⟩;have HV4:=Z hv4;have HF4:=Z hF4;have HN4:Hid (∀ k,v4.ownBlock=some k→w.heap.size≤k):=(fun k e=>Nat.le_trans HF2.out.size (hn4 k e));clear hf4 hF4 hv4 hn4))
 obtain⟨va4,vc4,rfl⟩:=z8 HV4.out
 have hxx:=(HCK.out w4 HF4.out).2
 clear hc2 hx2 hcc hz4
 go_wp2_with (refine(HBAD.out _).mono ?_;rintro e wx ⟨rfl,hwx⟩;subst wx)
 refine(HVER.out w4 (HF2.out.trans HF4.out)).mono ?_
 rintro e wx ⟨v5,rfl,hv5,_,hwx⟩
 subst wx
 obtain⟨va5,vc5,rfl⟩:=z8 hv5
 have HV5:=Z hv5
 clear hv5
 go_wp2_with fail
 have HSAME:=Z (Xj _ _ _ _ w4 HV4.out HV5.out (by have:=HNL.out;omega))
 refine HSAME.out.mono ?_
 rintro e w6 ⟨b6,rfl,hb6,f6⟩
 have hbt:b6=true:=hb6.2 rfl
 subst hbt
 have hF6:=HF4.out.trans f6
 have hc6:=HCW.out w6 (HF2.out.trans hF6)
 simp only[WM.cells,HH.out.nv] at hc6
 have HV6:=Z (VRow.fr HV4.out f6 (fun _ _=>id))
 have HF6:=Z (HF2.out.trans hF6)
 clear hxx hF6 f6 hb6
 go_wp2_with fail
 refine(HBK.out _ _ w6 HF6.out HV6.out HN4.out (by have:=HNL.out;omega)).mono ?_
 rintro e w7 ⟨rfl,L7,bk7,hs7,hbk7,hps7⟩
 have hP7:=HH.out.turn hs7
 have HC7:=Z (zq w7 L.db X.LD M (by have:=hP7.rep.marks;rw[hs7.db] at this;exact this))
 have hc7:=hP7.rep.wat.blk.cell
 rw[hs7.wb] at hc7
 simp only[WM.cells,hs7.db] at hc7
 have HP7:=Z hP7
 have HB7:=Z hbk7
 have HPS7:=Z hps7
 clear hc6 hP7 hs7 hbk7 hps7
 go_wp2_with (refine HC7.out.mono ?_;rintro e wx ⟨rfl,hwx⟩;subst wx)
 go_ret
 exact⟨rfl,L7,bk7,HP7.out,HPS7.out,HB7.out⟩
theorem RY(K:Nat→Prop)(B:Nat)(L:WL)(W:WM)(X:NL)(N:NM)(M:DM)(o:OpM)(w:World)(h:Play K B w L W X N M)(hk:o.kind=5)(hp:0<L.ps.length)(hl:L.ps.length<1000000)
  (m:LM)(hm:W.st[L.ps.length-1]?=some m)(hvs:zL m.keys o.key=zc N.S.keys o.key)(hnk:N.S.keys.length<1099511627776)(hnl:(zc N.S.keys o.key).length≤1000)(hbs:BSmall W.bk)(hba:W.base<100000000)(hnx:W.next<100000000)(hko:zm o.key=false) :
  Calls Tryz.prog 65 #[.pointer (some ⟨L.wb,0,none⟩),.agg o.cells.toArray] w fun e w'=>e=.returned (.bool true)∧∃ L' bk',PStep K B L X M w K L' (W.booked bk') X N M w'∧L'.ps=L.ps∧Booked W.bk bk':=by
 obtain⟨kind,a,b,c,key,text,v,tails⟩:=o
 simp only at *
 subst hk
 simp only[OpM.cells,Ver.cells,List.cons_append,List.nil_append]
 have f1:Fr Nil w (w.alloc (.cells #[.int .i64 5,.int .i64 a,.int .i64 b,.int .i64 c,.string key,.string text,.int .i64 v.node,.int .i64 v.seq,.int .i64 v.o0,.int .i64 v.o1,.int .i64 v.o2,.int .i64 v.o3,.string v.value,.bool v.gone,tails] 39)):=(G _ _).alloc _
 have hb1:=Blk.new w [.int .i64 5,.int .i64 a,.int .i64 b,.int .i64 c,.string key,.string text,.int .i64 v.node,.int .i64 v.seq,.int .i64 v.o0,.int .i64 v.o1,.int .i64 v.o2,.int .i64 v.o3,.string v.value,.bool v.gone,tails] 39
 have HC:=Z (fun wx (f:Fr Nil w wx)=>zq wx L.db X.LD M ((h.marks).nil f))
 have HNOW:=Z (fun wx (f:Fr Nil w wx)=>zV K L W wx (h.wat.nil f) hp (by omega))
 have hple:L.ps.length=W.st.length:=h.wat.ple
 have hlm:W.st[L.ps.length-1]'(by omega)=m:=by rw[List.getElem?_eq_getElem (by omega)] at hm;exact Option.some.inj hm
 have hlast:=(h.wat.last hp).2
 simp only[hlm] at hlast
 obtain⟨q,hqq⟩:∃ q,q=L.ps[L.ps.length-1]:=⟨_,rfl⟩
 rw[← hqq] at hlast HNOW
 obtain⟨kv,hv,ents,ha,hKb⟩:=hlast
 have hcw:∀ wx,Fr Nil w wx→∀ k,wx.cell? ⟨L.wb,k,none⟩=(W.cells L)[k]?:=fun wx f=>(h.wat.nil f).blk.cell
 have HCW:=Z hcw
 have hc0:=hcw _ f1
 simp only[WM.cells,h.nv] at hc0
 have hc1:=hb1.cell
 have HF1:=Z f1
 have HB1:=Z hb1
 have HH:=Z h
 have HA:=Z ha
 have HGET:=Z (fun wx (f:Fr Nil w wx)=>XS X N M key wx (h.node.nil f) hnk (by omega))
 have HVER:=Z (fun wx (f:Fr Nil w wx)=>Y9 q kv hv ents m key wx (ha.nil f))
 rw[hvs] at HVER
 have HBAD:=Z (fun wx=>ZY key wx)
 have HBK:=Z (fun lv l wx f hl hn hlen=>VM K L W lv l w wx h.wat f hl hn hlen hba hnx hbs)
 have HNL:=Z hnl
 unfold zT at HBAD
 rw[hko] at HBAD HGET
 simp only[Bool.false_eq_true,if_false] at HBAD HGET
 clear h f1 hb1 hlm hqq ha hcw hKb hple hm hvs hnk hnl hbs hba hnx hko
 go_enter Tryz.func65,Tryz.ntmps65
 go_wp2_with (refine(HC.out _ HF1.out).mono ?_;rintro e wx ⟨rfl,hwx⟩;subst wx)
 refine(HNOW.out _ HF1.out).mono ?_
 rintro e w2 ⟨rfl,n2,hw2⟩
 subst w2
 have hF2:Fr Nil w ((w.alloc (.cells #[.int .i64 5,.int .i64 a,.int .i64 b,.int .i64 c,.string key,.string text,.int .i64 v.node,.int .i64 v.seq,.int .i64 v.o0,.int .i64 v.o1,.int .i64 v.o2,.int .i64 v.o3,.string v.value,.bool v.gone,tails] 39)).drewN n2):=HF1.out.drewN n2
 have hc2:=HCW.out _ hF2
 simp only[WM.cells,HH.out.nv] at hc2
 have hb2:Blk ((w.alloc (.cells #[.int .i64 5,.int .i64 a,.int .i64 b,.int .i64 c,.string key,.string text,.int .i64 v.node,.int .i64 v.seq,.int .i64 v.o0,.int .i64 v.o1,.int .i64 v.o2,.int .i64 v.o3,.string v.value,.bool v.gone,tails] 39)).drewN n2) w.heap.size [.int .i64 5,.int .i64 a,.int .i64 b,.int .i64 c,.string key,.string text,.int .i64 v.node,.int .i64 v.seq,.int .i64 v.o0,.int .i64 v.o1,.int .i64 v.o2,.int .i64 v.o3,.string v.value,.bool v.gone,tails] 39:=HB1.out.drewN n2
 have HB2:=Z hb2
 have hx2:=hb2.cell
 have HF2:=Z hF2
 clear hc0 hc1 hF2 hb2
 generalize (w.alloc (.cells #[.int .i64 5,.int .i64 a,.int .i64 b,.int .i64 c,.string key,.string text,.int .i64 v.node,.int .i64 v.seq,.int .i64 v.o0,.int .i64 v.o1,.int .i64 v.o2,.int .i64 v.o3,.string v.value,.bool v.gone,tails] 39)).drewN n2=w2 at hc2 hx2 HF2 HB2 ⊢
 generalize hbb:w.heap.size=bb at hx2 HB2 ⊢
 have HBB:=Z hbb
 clear hbb
 go_wp2_with fail
 have HCK:Hid (∀ wx,Fr Nil w2 wx→wx.cell? ⟨L.wb,5,none⟩=some (.pointer (some ⟨X.nb,0,none⟩))∧∀ k,wx.cell? ⟨bb,k,none⟩=([.int .i64 5,.int .i64 a,.int .i64 b,.int .i64 c,.string key,.string text,.int .i64 v.node,.int .i64 v.seq,.int .i64 v.o0,.int .i64 v.o1,.int .i64 v.o2,.int .i64 v.o3,.string v.value,.bool v.gone,tails]:List Value)[k]?):=fun wx f=>⟨by rw[HCW.out _ (HF2.out.trans f)];show some L.nv=_;rw[HH.out.nv],(HB2.out.fr f id).cell⟩
 have hcc:w2.cell? ⟨L.wb,5,none⟩=some (.pointer (some ⟨X.nb,0,none⟩))∧w2.cell? ⟨bb,4,none⟩=some (.string key):=⟨(HCK.out w2 (G _ _)).1,(HCK.out w2 (G _ _)).2 4⟩
 go_region_held3 (fun wx=>wx.cell? ⟨L.wb,5,none⟩=some (.pointer (some ⟨X.nb,0,none⟩))∧wx.cell? ⟨bb,4,none⟩=some (.string key)) (first|assumption|go_keep)
  (first|(go_at_call 24;refine(HGET.out _ (HF2.out.trans (by exact(by repeat' first|(with_reducible first|apply G|assumption|apply O|apply U|apply V|apply z6)|(intro _;rfl))))).mono ?_;rintro e w4 ⟨v4,rfl,hv4,hf4,hn4⟩;have hF4:Fr Nil w2 w4:=Fr.trans (by repeat' first|(with_reducible first|apply G|assumption|apply O|apply U|apply V|apply z6)|(intro _;rfl)) hf4;have hz4:w4.cell? ⟨L.wb,5,none⟩=some (.pointer (some ⟨X.nb,0,none⟩))∧w4.cell? ⟨bb,4,none⟩=some (.string key):=⟨(HCK.out w4 hF4).1,(HCK.out w4 hF4).2 4⟩;have HV4:=Z hv4;have HF4:=Z hF4;have HN4:Hid (∀ k,v4.ownBlock=some k→w.heap.size≤k):=(fun k e=>Nat.le_trans HF2.out.size (hn4 k e));clear hf4 hF4 hv4 hn4))
 obtain⟨va4,vc4,rfl⟩:=z8 HV4.out
 have hxx:=(HCK.out w4 HF4.out).2
 clear hc2 hx2 hcc hz4
 go_wp2_with (refine(HBAD.out _).mono ?_;rintro e wx ⟨rfl,hwx⟩;subst wx)
 have HV5:Hid (VRow w4 (.slice none 0 0) []):=World.ownsRow_nil w4 0 _ _
 have HSAME:=Z (Xj _ _ _ _ w4 HV4.out HV5.out (by decide))
 refine HSAME.out.mono ?_
 rintro e w6 ⟨b6,rfl,hb6,f6⟩
 have hbt:b6=true:=hb6.2 rfl
 subst hbt
 have hF6:=HF4.out.trans f6
 have hc6:=HCW.out w6 (HF2.out.trans hF6)
 simp only[WM.cells,HH.out.nv] at hc6
 have HV6:=Z (VRow.fr HV4.out f6 (fun _ _=>id))
 have HF6:=Z (HF2.out.trans hF6)
 clear hxx hF6 f6 hb6
 go_wp2_with fail
 refine(HBK.out _ _ w6 HF6.out HV6.out HN4.out (by decide)).mono ?_
 rintro e w7 ⟨rfl,L7,bk7,hs7,hbk7,hps7⟩
 have hP7:=HH.out.turn hs7
 have HC7:=Z (zq w7 L.db X.LD M (by have:=hP7.rep.marks;rw[hs7.db] at this;exact this))
 have hc7:=hP7.rep.wat.blk.cell
 rw[hs7.wb] at hc7
 simp only[WM.cells,hs7.db] at hc7
 have HP7:=Z hP7
 have HB7:=Z hbk7
 have HPS7:=Z hps7
 clear hc6 hP7 hs7 hbk7 hps7
 go_wp2_with (refine HC7.out.mono ?_;rintro e wx ⟨rfl,hwx⟩;subst wx)
 go_ret
 exact⟨rfl,L7,bk7,HP7.out,HPS7.out,HB7.out⟩
theorem MC(K:Nat→Prop)(B:Nat)(L:WL)(W:WM)(X:NL)(N:NM)(M:DM)(o:OpM)(w:World)(h:Play K B w L W X N M)(hk:o.kind=5)(hp:0<L.ps.length)(hl:L.ps.length<1000000)
  (m:LM)(hm:W.st[L.ps.length-1]?=some m)(hvs:zL m.keys o.key=zc N.S.keys o.key)(hnk:N.S.keys.length<1099511627776)(hnl:(zc N.S.keys o.key).length≤1000)(hbs:BSmall W.bk)(hba:W.base<100000000)(hnx:W.next<100000000) :
  Calls Tryz.prog 65 #[.pointer (some ⟨L.wb,0,none⟩),.agg o.cells.toArray] w fun e w'=>e=.returned (.bool true)∧∃ L' bk',PStep K B L X M w K L' (W.booked bk') X N M w'∧L'.ps=L.ps∧Booked W.bk bk':=by
 cases hko:zm o.key with
 | true=>exact QZ K B L W X N M o w h hk hp hl m hm hvs hnk hnl hbs hba hnx hko
 | false=>exact RY K B L W X N M o w h hk hp hl m hm hvs hnk hnl hbs hba hnx hko
theorem ND(K:Nat→Prop)(B:Nat)(L:WL)(W:WM)(X:NL)(N:NM)(M:DM)(o:OpM)(w:World)(h:Play K B w L W X N M)(hk:o.kind=6)(hp:0<L.ps.length)(hl:L.ps.length<1000000)
  (m:LM)(hm:W.st[L.ps.length-1]?=some m)(hkeys:m.keys=N.S.keys)(hnk:N.S.keys.length<100000000)(hbs:BSmall W.bk)(hba:W.base<100000000)(hnx:W.next<100000000) :
  Calls Tryz.prog 65 #[.pointer (some ⟨L.wb,0,none⟩),.agg o.cells.toArray] w fun e w'=>e=.returned (.bool true)∧∃ L' bk',PStep K B L X M w K L' (W.booked bk') X N M w'∧L'.ps=L.ps∧Booked W.bk bk':=by
 obtain⟨kind,a,b,c,key,text,v,tails⟩:=o
 simp only at *
 subst hk
 simp only[OpM.cells,Ver.cells,List.cons_append,List.nil_append]
 have f1:Fr Nil w (w.alloc (.cells #[.int .i64 6,.int .i64 a,.int .i64 b,.int .i64 c,.string key,.string text,.int .i64 v.node,.int .i64 v.seq,.int .i64 v.o0,.int .i64 v.o1,.int .i64 v.o2,.int .i64 v.o3,.string v.value,.bool v.gone,tails] 39)):=(G _ _).alloc _
 have hb1:=Blk.new w [.int .i64 6,.int .i64 a,.int .i64 b,.int .i64 c,.string key,.string text,.int .i64 v.node,.int .i64 v.seq,.int .i64 v.o0,.int .i64 v.o1,.int .i64 v.o2,.int .i64 v.o3,.string v.value,.bool v.gone,tails] 39
 have HC:=Z (fun wx (f:Fr Nil w wx)=>zq wx L.db X.LD M ((h.marks).nil f))
 have HNOW:=Z (fun wx (f:Fr Nil w wx)=>zV K L W wx (h.wat.nil f) hp (by omega))
 have hple:L.ps.length=W.st.length:=h.wat.ple
 have hlm:W.st[L.ps.length-1]'(by omega)=m:=by rw[List.getElem?_eq_getElem (by omega)] at hm;exact Option.some.inj hm
 have hlast:=(h.wat.last hp).2
 simp only[hlm] at hlast
 obtain⟨q,hqq⟩:∃ q,q=L.ps[L.ps.length-1]:=⟨_,rfl⟩
 rw[← hqq] at hlast HNOW
 obtain⟨kv,hv,ents,ha,hKb⟩:=hlast
 have hcw:∀ wx,Fr Nil w wx→∀ k,wx.cell? ⟨L.wb,k,none⟩=(W.cells L)[k]?:=fun wx f=>(h.wat.nil f).blk.cell
 have HCW:=Z hcw
 have hc0:=hcw _ f1
 simp only[WM.cells,h.nv] at hc0
 have hc1:=hb1.cell
 have HF1:=Z f1
 have HB1:=Z hb1
 have HH:=Z h
 have HA:=Z ha
 have HKEYS:=Z (fun wx (f:Fr Nil w wx)=>Uw X N M wx (h.node.nil f) (by omega))
 have HBK:=Z (fun lv l wx f hl hn hlen=>QX K L W lv l w wx h.wat f hl hn hlen hba hnx hbs)
 have hel:ents.length=N.S.keys.length:=by rw[ha.pair.length,hkeys]
 have hek:∀ i (h1:i<ents.length) (h2:i<N.S.keys.length),ents[i].1=N.S.keys[i].1:=fun i h1 h2=>by
  have:=ha.pair.key i h1 (by rw[hkeys];exact h2)
  simp only[hkeys] at this
  exact this
 obtain⟨ka,kc,rfl⟩:=z8 ha.ent
 have HEL:=Z hel
 have HEK:=Z hek
 clear h f1 hb1 hlm hqq ha hcw hKb hple hm hkeys hbs hba hnx hel hek
 go_enter Tryz.func65,Tryz.ntmps65
 go_wp2_with (refine(HC.out _ HF1.out).mono ?_;rintro e wx ⟨rfl,hwx⟩;subst wx)
 refine(HNOW.out _ HF1.out).mono ?_
 rintro e w2 ⟨rfl,n2,hw2⟩
 subst w2
 have hF2:Fr Nil w ((w.alloc (.cells #[.int .i64 6,.int .i64 a,.int .i64 b,.int .i64 c,.string key,.string text,.int .i64 v.node,.int .i64 v.seq,.int .i64 v.o0,.int .i64 v.o1,.int .i64 v.o2,.int .i64 v.o3,.string v.value,.bool v.gone,tails] 39)).drewN n2):=HF1.out.drewN n2
 have hc2:=HCW.out _ hF2
 simp only[WM.cells,HH.out.nv] at hc2
 have hb2:Blk ((w.alloc (.cells #[.int .i64 6,.int .i64 a,.int .i64 b,.int .i64 c,.string key,.string text,.int .i64 v.node,.int .i64 v.seq,.int .i64 v.o0,.int .i64 v.o1,.int .i64 v.o2,.int .i64 v.o3,.string v.value,.bool v.gone,tails] 39)).drewN n2) w.heap.size [.int .i64 6,.int .i64 a,.int .i64 b,.int .i64 c,.string key,.string text,.int .i64 v.node,.int .i64 v.seq,.int .i64 v.o0,.int .i64 v.o1,.int .i64 v.o2,.int .i64 v.o3,.string v.value,.bool v.gone,tails] 39:=HB1.out.drewN n2
 have HB2:=Z hb2
 have hx2:=hb2.cell
 have HF2:=Z hF2
 clear hc0 hc1 hF2 hb2
 generalize (w.alloc (.cells #[.int .i64 6,.int .i64 a,.int .i64 b,.int .i64 c,.string key,.string text,.int .i64 v.node,.int .i64 v.seq,.int .i64 v.o0,.int .i64 v.o1,.int .i64 v.o2,.int .i64 v.o3,.string v.value,.bool v.gone,tails] 39)).drewN n2=w2 at hc2 hx2 HF2 HB2 ⊢
 generalize hbb:w.heap.size=bb at hx2 HB2 ⊢
 have HBB:=Z hbb
 clear hbb
 go_wp2_with fail
 refine(HKEYS.out w2 HF2.out).mono ?_
 rintro e w4 ⟨v4,rfl,hv4,hf4,hn4⟩
 obtain⟨va4,vc4,rfl⟩:=z8 hv4
 have HV4:=Z hv4
 have HN4:Hid (∀ k,(Value.slice va4 N.S.keys.length vc4).ownBlock=some k→w.heap.size≤k):=fun k e=>Nat.le_trans HF2.out.size (hn4 k e)
 have HF4:=Z (HF2.out.trans hf4)
 have hq4:=(HA.out.nil HF4.out).blk.cell
 rw[HEL.out] at hq4
 have hc4:=HCW.out w4 HF4.out
 simp only[WM.cells,HH.out.nv] at hc4
 have HENT:=Z ((HA.out.nil HF4.out).ent)
 rw[HEL.out] at HENT
 have HXX:Hid (∀ i,i<N.S.keys.length→∃ x:ByteArray,(strs (N.S.keys.map Prod.fst))[i]?=some (.string x)∧(zS ents)[i*2]?=some (.string x)):=fun i h2=>by
  have h1:i<ents.length:=by rw[HEL.out];exact h2
  refine⟨N.S.keys[i].1,by simp[strs,h2],?_⟩
  rw[← HEK.out i h1 h2]
  exact(zU ents i h1).1
 generalize hnn:N.S.keys.length=n at hq4 HENT HV4 HN4 hnk HXX ⊢
 have hne:((n:Int)==n)=true:=by simp
 clear hc2 hx2 hv4 hf4 hn4
 go_wp2_with fail
 go_loopw [7,13] (fun t7 t13 w'=>∃ i:Nat,i≤n∧t7=.bool true∧t13=.int .i64 i∧Fr Nil w4 w') (fun _ t13 _=>n-(intOf t13).toNat)
 case atStart=>exact⟨0,Nat.zero_le _,rfl,rfl,G _ _⟩
 case round =>
  obtain⟨i,hi,rfl,rfl,hf⟩:=hrel
  have HF:=Z hf
  by_cases hlt:i<n
  ·obtain⟨g1,c1',e1,_,_⟩:=zi HV4.out (by omega)
   obtain⟨g2,c2',e2,_,_⟩:=zi HENT.out (by omega)
   simp only[Value.slice.injEq] at e1 e2
   obtain⟨rfl,-,-⟩:=e1
   obtain⟨rfl,-,-⟩:=e2
   obtain⟨xx,hm1,hm2⟩:=HXX.out i hlt
   have hx1:∀ n,(wr.drewN n).cell? ⟨g1,i,none⟩=some (.string xx):=fun n=>own_cell? (z7 HV4.out (hf.drewN n) (fun _ _=>id)) i _ hm1
   have hx2:∀ n,(wr.drewN n).cell? ⟨g2,i*2,none⟩=some (.string xx):=fun n=>own_cell? (z7 HENT.out (hf.drewN n) (fun _ _=>id)) (i*2) _ hm2
   have hq5:∀ n k,(wr.drewN n).cell? ⟨q,k,none⟩=_:=fun n k=>((HA.out.nil HF4.out).blk.fr (hf.drewN n) (fun e=>e)).cell k
   rw[HEL.out,hnn] at hq5
   have hxe:(xx.toList==xx.toList)=true:=by simp
   clear hm1 hm2 hf hq4 hc4
   go_wp2_with fail
   go_quiet (fail)
   go_wp2_with fail
   exact⟨⟨i+1,by omega,rfl,by push_cast;rfl,HF.out.drewN _⟩,by simp[intOf];omega⟩
  ·have hin:i=n:=by omega
   subst hin
   have HF6:=Z (HF4.out.trans hf)
   have HV6:=Z (z7 HV4.out hf (fun _ _=>id))
   have hc6:=HCW.out wr HF6.out
   simp only[WM.cells,HH.out.nv] at hc6
   have hll:i=(strs (N.S.keys.map Prod.fst)).length:=by rw[← hnn];simp[strs]
   have HLL:=Z hll
   generalize wr=w6 at HV6 HF6 hc6 ⊢
   clear hf HF hq4 hc4 hll
   go_wp2_with fail
   have HV7:Hid (w6.ownsRow 0 9 1 (.slice va4 i vc4) (strs (N.S.keys.map Prod.fst)).length (strs (N.S.keys.map Prod.fst))):=by rw[← HLL.out];exact HV6.out
   have hnk2:(strs (N.S.keys.map Prod.fst)).length<100000000:=by rw[← HLL.out];exact hnk
   refine(HBK.out (.slice va4 i vc4) (strs (N.S.keys.map Prod.fst)) w6 HF6.out HV7.out HN4.out (hnk2)).mono ?_
   rintro e w7 ⟨rfl,L7,bk7,hs7,hbk7,hps7⟩
   have hP7:=HH.out.turn hs7
   have HC7:=Z (zq w7 L.db X.LD M (by have:=hP7.rep.marks;rw[hs7.db] at this;exact this))
   have hc7:=hP7.rep.wat.blk.cell
   rw[hs7.wb] at hc7
   simp only[WM.cells,hs7.db] at hc7
   have HP7:=Z hP7
   have HB7:=Z hbk7
   have HPS7:=Z hps7
   clear hc6 hP7 hs7 hbk7 hps7
   go_wp2_with (refine HC7.out.mono ?_;rintro e wx ⟨rfl,hwx⟩;subst wx)
   go_ret
   exact⟨rfl,L7,bk7,HP7.out,HPS7.out,HB7.out⟩
theorem Oh(K:Nat→Prop)(B:Nat)(L:WL)(W:WM)(X:NL)(N:NM)(M:DM)(o:OpM)(w:World)(h:Play K B w L W X N M)(hk:o.kind=8)(hp:0<L.ps.length)(hl:L.ps.length<1000000)
  (m:LM)(hm:W.st[L.ps.length-1]?=some m)(hhe:m.hints=N.S.hints)(hhl:N.S.hints.length<1000)(hbs:BSmall W.bk)(hba:W.base<100000000)(hnx:W.next<100000000) :
  Calls Tryz.prog 65 #[.pointer (some ⟨L.wb,0,none⟩),.agg o.cells.toArray] w fun e w'=>e=.returned (.bool true)∧∃ L' bk',PStep K B L X M w K L' (W.booked bk') X N M w'∧L'.ps=L.ps∧Booked W.bk bk':=by
 obtain⟨kind,a,b,c,key,text,v,tails⟩:=o
 simp only at *
 subst hk
 simp only[OpM.cells,Ver.cells,List.cons_append,List.nil_append]
 have f1:Fr Nil w (w.alloc (.cells #[.int .i64 8,.int .i64 a,.int .i64 b,.int .i64 c,.string key,.string text,.int .i64 v.node,.int .i64 v.seq,.int .i64 v.o0,.int .i64 v.o1,.int .i64 v.o2,.int .i64 v.o3,.string v.value,.bool v.gone,tails] 39)):=(G _ _).alloc _
 have hb1:=Blk.new w [.int .i64 8,.int .i64 a,.int .i64 b,.int .i64 c,.string key,.string text,.int .i64 v.node,.int .i64 v.seq,.int .i64 v.o0,.int .i64 v.o1,.int .i64 v.o2,.int .i64 v.o3,.string v.value,.bool v.gone,tails] 39
 have HC:=Z (fun wx (f:Fr Nil w wx)=>zq wx L.db X.LD M ((h.marks).nil f))
 have HNOW:=Z (fun wx (f:Fr Nil w wx)=>zV K L W wx (h.wat.nil f) hp (by omega))
 have hple:L.ps.length=W.st.length:=h.wat.ple
 have hlm:W.st[L.ps.length-1]'(by omega)=m:=by rw[List.getElem?_eq_getElem (by omega)] at hm;exact Option.some.inj hm
 have hlast:=(h.wat.last hp).2
 simp only[hlm] at hlast
 obtain⟨q,hqq⟩:∃ q,q=L.ps[L.ps.length-1]:=⟨_,rfl⟩
 rw[← hqq] at hlast HNOW
 obtain⟨kv,hv,ents,ha,hKb⟩:=hlast
 have hcw:∀ wx,Fr Nil w wx→∀ k,wx.cell? ⟨L.wb,k,none⟩=(W.cells L)[k]?:=fun wx f=>(h.wat.nil f).blk.cell
 have HCW:=Z hcw
 have hc0:=hcw _ f1
 simp only[WM.cells,h.nv] at hc0
 have hc1:=hb1.cell
 have HF1:=Z f1
 have HB1:=Z hb1
 have HH:=Z h
 have HA:=Z ha
 have HHI:=Z (fun wx (f:Fr Nil w wx)=>VE X N M wx (h.node.nil f) (by omega))
 have HBK:=Z (fun lv l wx f hl hn hlen=>QY K L W lv l w wx h.wat f hl hn hlen hba hnx hbs)
 have hro:=ha.hint
 rw[hhe] at hro
 have HRO:=Z hro
 obtain⟨ja,jc,hjv⟩:=z8 hro
 have HJV:=Z hjv
 have HHL:=Z hhl
 clear h f1 hb1 hlm hqq ha hcw hKb hple hm hhe hhl hbs hba hnx hro hjv
 go_enter Tryz.func65,Tryz.ntmps65
 go_wp2_with (refine(HC.out _ HF1.out).mono ?_;rintro e wx ⟨rfl,hwx⟩;subst wx)
 refine(HNOW.out _ HF1.out).mono ?_
 rintro e w2 ⟨rfl,n2,hw2⟩
 subst w2
 have hF2:Fr Nil w ((w.alloc (.cells #[.int .i64 8,.int .i64 a,.int .i64 b,.int .i64 c,.string key,.string text,.int .i64 v.node,.int .i64 v.seq,.int .i64 v.o0,.int .i64 v.o1,.int .i64 v.o2,.int .i64 v.o3,.string v.value,.bool v.gone,tails] 39)).drewN n2):=HF1.out.drewN n2
 have hc2:=HCW.out _ hF2
 simp only[WM.cells,HH.out.nv] at hc2
 have hb2:Blk ((w.alloc (.cells #[.int .i64 8,.int .i64 a,.int .i64 b,.int .i64 c,.string key,.string text,.int .i64 v.node,.int .i64 v.seq,.int .i64 v.o0,.int .i64 v.o1,.int .i64 v.o2,.int .i64 v.o3,.string v.value,.bool v.gone,tails] 39)).drewN n2) w.heap.size [.int .i64 8,.int .i64 a,.int .i64 b,.int .i64 c,.string key,.string text,.int .i64 v.node,.int .i64 v.seq,.int .i64 v.o0,.int .i64 v.o1,.int .i64 v.o2,.int .i64 v.o3,.string v.value,.bool v.gone,tails] 39:=HB1.out.drewN n2
 have HB2:=Z hb2
 have hx2:=hb2.cell
 have HF2:=Z hF2
 clear hc0 hc1 hF2 hb2
 generalize (w.alloc (.cells #[.int .i64 8,.int .i64 a,.int .i64 b,.int .i64 c,.string key,.string text,.int .i64 v.node,.int .i64 v.seq,.int .i64 v.o0,.int .i64 v.o1,.int .i64 v.o2,.int .i64 v.o3,.string v.value,.bool v.gone,tails] 39)).drewN n2=w2 at hc2 hx2 HF2 HB2 ⊢
 generalize hbb:w.heap.size=bb at hx2 HB2 ⊢
 have HBB:=Z hbb
 clear hbb
 go_wp2_with fail
 refine(HHI.out w2 HF2.out).mono ?_
 rintro e w4 ⟨v4,rfl,hv4,hf4,hn4⟩
 obtain⟨va4,vc4,rfl⟩:=z8 hv4
 have HV4:=Z hv4
 have HN4:Hid (∀ k,(Value.slice va4 N.S.hints.length vc4).ownBlock=some k→w.heap.size≤k):=fun k e=>Nat.le_trans HF2.out.size (hn4 k e)
 have HF4:=Z (HF2.out.trans hf4)
 have hq4:=(HA.out.nil HF4.out).blk.cell
 rw[HJV.out] at hq4
 have HSAME:=Z (W7 _ _ N.S.hints N.S.hints w4 HV4.out (z7 HRO.out HF4.out (fun _ _=>id)) (by have:=HHL.out;omega))
 rw[HJV.out] at HSAME
 have HSB:Hid (decide (N.S.hints=N.S.hints)=true):=by show _=_;simp
 rw[HSB.out] at HSAME
 clear hc2 hx2 hv4 hf4 hn4
 go_wp2_with fail
 refine HSAME.out.mono ?_
 rintro e w6 ⟨rfl,f6⟩
 have HF6:=Z (HF4.out.trans f6)
 have HV6:=Z (z7 HV4.out f6 (fun _ _=>id))
 have hc6:=HCW.out w6 HF6.out
 simp only[WM.cells,HH.out.nv] at hc6
 clear hq4 f6
 go_wp2_with fail
 refine(HBK.out _ _ w6 HF6.out HV6.out HN4.out (by have:=HHL.out;omega)).mono ?_
 rintro e w7 ⟨rfl,L7,bk7,hs7,hbk7,hps7⟩
 have hP7:=HH.out.turn hs7
 have HC7:=Z (zq w7 L.db X.LD M (by have:=hP7.rep.marks;rw[hs7.db] at this;exact this))
 have hc7:=hP7.rep.wat.blk.cell
 rw[hs7.wb] at hc7
 simp only[WM.cells,hs7.db] at hc7
 have HP7:=Z hP7
 have HB7:=Z hbk7
 have HPS7:=Z hps7
 clear hc6 hP7 hs7 hbk7 hps7
 go_wp2_with (refine HC7.out.mono ?_;rintro e wx ⟨rfl,hwx⟩;subst wx)
 go_ret
 exact⟨rfl,L7,bk7,HP7.out,HPS7.out,HB7.out⟩
structure Live(T:Nat)(K:Nat→Prop)(B:Nat)(w:World)(L:WL)(W:WM)(X:NL)(N:NM)(M:DM)(m:LM)(t:Nat):Prop where
 play:Play K B w L W X N M
 inv:NInv T W N M m t
 ps:L.ps≠[]
 self:N.self<4
def Went(T B:Nat)(L:WL)(X:NL)(M:DM)(w:World)(t:Nat)(w':World):Prop :=
 ∃ K' L' W' X' N' M' m',Live T K' B w' L' W' X' N' M' m' (t+8)∧L'.wb=L.wb∧Fr (PFoot L X M) w w'∧∀ k,PFoot L' X' M' k→PFoot L X M k∨w.heap.size≤k
theorem Live.went{T B t:Nat}{K K':Nat→Prop}{L L':WL}{W W':WM}{X X':NL}{N N':NM}{M M':DM}{m m':LM}{w w':World}(h:Live T K B w L W X N M m t)(s:PStep K B L X M w K' L' W' X' N' M' w')(hinv:NInv T W' N' M' m' (t+8))(hps:L'.ps≠[])(hn:m'.node=m.node):Went T B L X M w t w' :=
 ⟨K',L',W',X',N',M',m',⟨s.rep,hinv,hps,by have h1:=hinv.self;have h2:=h.inv.self;have h3:=h.self;rw[hn,h2] at h1;omega⟩,s.wb,s.fr,s.foot⟩
theorem P0{key text:ByteArray}(h:Zc key text=0):zm key=true∧text.size≤128:=by
 unfold Zc at h
 split at h
 ·rename_i hk
  split at h
  ·cases h
  ·exact⟨hk,by omega⟩
 ·cases h
theorem VT{key:ByteArray}(h:zT key=0):zm key=true:=by
 unfold zT at h
 split at h
 ·assumption
 ·cases h
theorem RZ(l:List Ver)(v:Ver):zY l v=0∨zY l v=1∨zY l v=2:=by
 unfold zY
 repeat' split
 all_goals simp
theorem NE(herr:zr){T B t:Nat}{K:Nat→Prop}{L:WL}{W:WM}{X:NL}{N:NM}{M:DM}{m:LM}{w:World}(h:Live T K B w L W X N M m t)(ht:t+8≤T)(hT:T≤900000)(o:OpM)(hk1:o.kind≠1)(hk2:o.kind≠11)(hk3:o.kind≠12)(hk4:o.kind≠13)(hk5:o.kind≠14)(hk6:o.kind≠15) :
  Calls Tryz.prog 18 #[.pointer (some ⟨L.wb,0,none⟩),.agg o.cells.toArray] w fun e w'=>e=.returned (.bool true)∧Went T B L X M w t w':=by
 have hp:0<L.ps.length:=Nat.pos_of_ne_zero (fun e=>h.ps (List.eq_nil_of_length_eq_zero e))
 have hple:=h.play.wat.ple
 have hlen:=h.inv.len
 have hl:L.ps.length<1000000:=by omega
 have hca:W.calls<10000000:=by have:=h.inv.calls;omega
 have hwr:W.writes<100000000:=by have:=h.inv.ww;omega
 have hm:W.st[L.ps.length-1]?=some m:=by rw[hple];exact h.inv.last
 have hmk:m.keys.length<100000000:=by rw[h.inv.keys];have:=h.inv.nk;omega
 have hnk:N.S.keys.length<1099511627776:=by have:=h.inv.nk;omega
 have hmh:m.hints.length<1000000:=by rw[h.inv.hints];have:=h.inv.held.hlen;omega
 have hhe:N.S.hints.length=m.hints.length:=by rw[h.inv.hints]
 have hba:W.base<100000000:=by have:=h.inv.base;omega
 have hnx:W.next<100000000:=by have:=h.inv.next;omega
 have hbs:=h.inv.small (by omega)
 have hnil:∀ wx,Fr Nil w wx→PStep K B L X M w K L W X N M wx:=fun wx f=>h.play.nil f
 have hids:∀ wx,Fr Nil w wx→∀ g∈M.ids,g<wx.heap.size:=fun wx f g hg=>((hnil wx f).rep.node.disk.files g hg).lt
 have hgk:=h.inv.held.get o.key
 have hno:∀ u∈zc N.S.keys o.key,zE u.node:=fun u hu=>(hgk.2.2 u hu).node
 have hver:=h.inv.ver o.key
 have hst:=h.inv.more (show t≤t+8 by omega)
 by_cases c2:o.kind=2
 ·refine Lr K L W X.nb o w h.play.wat h.play.nv c2 _ (fun wx f=>?_)
  have hx:=hnil wx f
  by_cases hb:Zc o.key o.text=0
  ·obtain⟨hkey,hval⟩:=P0 hb
   obtain⟨hfit,hcalm⟩:=h.inv.put (H0:=wx.heap.size) ht h.self (hids wx f) o.key o.text hkey hval
   refine(Me herr K B L W X N M o wx hx.rep c2 h.inv.broken hp hl hca hwr hkey hval hno m hm hmk (by rw[hver];exact hno) hfit (fun f g a b c=>⟨(hcalm f g a b c).1,(hcalm f g a b c).2.1,(hcalm f g a b c).2.2.1,(hcalm f g a b c).2.2.2.1⟩)).mono ?_
   rintro e w' ⟨rfl,f',g',K',L',X',hf,hg,ha,hps,hs⟩
   exact⟨rfl,h.went (hx.trans hs) (hcalm f' g' hf hg ha).2.2.2.2 hps rfl⟩
  ·refine(Mf herr K B L W X N M o wx hx.rep c2 hb hno).mono ?_
   rintro e w' ⟨rfl,X',hs⟩
   exact⟨rfl,h.went (hx.trans hs) hst h.ps rfl⟩
 by_cases c3:o.kind=3
 ·refine Ls K L W X.nb o w h.play.wat h.play.nv c3 _ (fun wx f=>?_)
  have hx:=hnil wx f
  by_cases hb:zT o.key=0
  ·obtain⟨hfit,hcalm⟩:=h.inv.delete (H0:=wx.heap.size) ht (hids wx f) o.key (VT hb)
   refine(Qz herr K B L W X N M o wx hx.rep c3 h.inv.broken hp hl hca hwr (VT hb) m hm hmk hfit (fun f g a b c=>⟨(hcalm f g a b c).1,(hcalm f g a b c).2.1,(hcalm f g a b c).2.2.1,(hcalm f g a b c).2.2.2.1⟩)).mono ?_
   rintro e w' ⟨rfl,f',g',K',L',X',hf,hg,ha,hps,hs⟩
   exact⟨rfl,h.went (hx.trans hs) (hcalm f' g' hf hg ha).2.2.2.2 hps rfl⟩
  ·refine(QA herr K B L W X N M o wx hx.rep c3 hb).mono ?_
   rintro e w' ⟨rfl,X',hs⟩
   exact⟨rfl,h.went (hx.trans hs) hst h.ps rfl⟩
 by_cases c4:o.kind=4
 ·refine Lt K L W X.nb o w h.play.wat h.play.nv c4 _ (fun wx f=>?_)
  have hx:=hnil wx f
  have hfit:∀ H,wx.heap.size≤H→zm o.key=true→o.v.value.size≤128→foreign N.self o.v=true→(o.v.gone=false→(zn (zc N.S.keys o.key) o.v).length<4)→Fit N M H (.inr (.inl (o.key,ZB (zc N.S.keys o.key) o.v))) :=
   fun H hH a b c d=>h.inv.fitV ht (hids wx f) o.key o.v H hH a b c d
  by_cases hb:zw N.self o.key o.v=0
  ·have hnv:zE o.v.node:=by
    unfold zw at hb
    split at hb
    ·cases hb
    ·split at hb
     ·cases hb
     ·split at hb
      ·cases hb
      ·rename_i hf
       exact XI (by simpa using hf)
   rcases RZ (zc N.S.keys o.key) o.v with hw|hw|hw
   ·refine(Ru herr K B L W X N M o wx hx.rep h.inv.broken hp hl hno hgk.1 hnk (by omega) hfit m hm h.inv.self hb h.inv.ro hver hmk (by omega) hnv hw).mono ?_
    rintro e w' ⟨rfl,X',hs⟩
    exact⟨rfl,h.went (hx.trans hs) hst h.ps rfl⟩
   ·refine(Rv herr K B L W X N M o wx hx.rep h.inv.broken hp hl hno hgk.1 hnk (by omega) hfit m hm h.inv.self hb h.inv.ro hver hmk (by omega) hnv hw).mono ?_
    rintro e w' ⟨rfl,X',hs⟩
    exact⟨rfl,h.went (hx.trans hs) hst h.ps rfl⟩
   ·have hcalm:=h.inv.accept ht (hids wx f) o.key o.v hb hw
    refine(Rw herr K B L W X N M o wx hx.rep h.inv.broken hp hl hno hgk.1 hnk (by omega) hfit m hm h.inv.self hb hver hmk (by omega) hnv hw hwr (fun f a=>⟨(hcalm f a).1,(hcalm f a).2.1⟩)).mono ?_
    rintro e w' ⟨rfl,f',K',L',X',hf,hps,hs⟩
    exact⟨rfl,h.went (hx.trans hs) (hcalm f' hf).2.2 hps rfl⟩
  ·refine(QB herr K B L W X N M o wx hx.rep h.inv.broken hp hl hno hgk.1 hnk (by omega) hfit m hm h.inv.self hb).mono ?_
   rintro e w' ⟨rfl,X',hs⟩
   exact⟨rfl,h.went (hx.trans hs) hst h.ps rfl⟩
 by_cases c7:o.kind=7
 ·refine Lw K L W X.nb o w h.play.wat h.play.nv c7 _ (fun wx f=>?_)
  have hx:=hnil wx f
  have hfit:∀ H,wx.heap.size≤H→o.text.size≤64→zt o.a=true→Fit N M H (.inr (.inr (.inl (o.a.toNat,o.text)))):=fun H hH a b=>h.inv.fitH ht (hids wx f) o.a o.text H hH a b
  by_cases hb:zP N.self o.a o.text=0
  ·obtain⟨tn,htn⟩:∃ tn:Nat,o.a=tn:=by
    cases hk:zt o.a with
    | true =>
     unfold zt at hk
     simp only[decide_eq_true_eq] at hk
     exact⟨o.a.toNat,by omega⟩
    | false=>unfold zP at hb;rw[if_pos (by rw[hk];rfl)] at hb;cases hb
   by_cases hmany:32≤m.hints.length
   ·refine(PR herr K B L W X N M o wx hx.rep c7 h.inv.broken hp hl hfit m hm h.inv.self hmh tn htn hb h.inv.ro hmany hhe).mono ?_
    rintro e w' ⟨rfl,X',hs⟩
    exact⟨rfl,h.went (hx.trans hs) hst h.ps rfl⟩
   ·have hcalm:=h.inv.hint ht (hids wx f) tn o.text (by rw[← htn];exact hb) (by omega)
    rw[← htn] at hcalm
    refine(PS herr K B L W X N M o wx hx.rep c7 h.inv.broken hp hl hfit m hm h.inv.self hmh tn htn hb (by omega) hwr (fun f a=>⟨(hcalm f a).1,(hcalm f a).2.1⟩)).mono ?_
    rintro e w' ⟨rfl,f',K',L',X',hf,hps,hs⟩
    exact⟨rfl,h.went (hx.trans hs) (hcalm f' hf).2.2 hps rfl⟩
  ·refine(OU herr K B L W X N M o wx hx.rep c7 h.inv.broken hp hl hfit m hm h.inv.self hb).mono ?_
   rintro e w' ⟨rfl,X',hs⟩
   exact⟨rfl,h.went (hx.trans hs) hst h.ps rfl⟩
 by_cases c9:o.kind=9
 ·refine Ly K L W X.nb o w h.play.wat h.play.nv c9 _ (fun wx f=>?_)
  have hx:=hnil wx f
  have hfit:∀ H,wx.heap.size≤H→Fit N M H (.inr (.inr (.inr ()))):=fun H hH=>h.inv.fitA ht (hids wx f) H hH
  by_cases hmany:m.hints=[]
  ·refine(OV herr K B L W X N M o wx hx.rep c9 h.inv.broken hp hl hfit m hm hmh h.inv.ro hmany hhe).mono ?_
   rintro e w' ⟨rfl,X',hs⟩
   exact⟨rfl,h.went (hx.trans hs) hst h.ps rfl⟩
  ·have hcalm:=h.inv.ack ht (hids wx f) hmany
   refine(OW herr K B L W X N M o wx hx.rep c9 h.inv.broken hp hl hfit m hm hmh hmany hwr (fun f a=>⟨(hcalm f a).1,(hcalm f a).2.1⟩)).mono ?_
   rintro e w' ⟨rfl,f',K',L',X',hf,hps,hs⟩
   exact⟨rfl,h.went (hx.trans hs) (hcalm f' hf).2.2 hps rfl⟩
 by_cases c5:o.kind=5
 ·refine Lu K L W X.nb o w h.play.wat h.play.nv c5 _ (fun wx f=>?_)
  have hx:=hnil wx f
  refine(MC K B L W X N M o wx hx.rep c5 hp hl m hm hver hnk (by omega) hbs hba hnx).mono ?_
  rintro e w' ⟨rfl,L',bk',hs,hps,hbk⟩
  exact⟨rfl,h.went (hx.trans hs) ((h.inv.booked hbk).more (by omega)) (by rw[hps];exact h.ps) rfl⟩
 by_cases c6:o.kind=6
 ·refine Lv K L W X.nb o w h.play.wat h.play.nv c6 _ (fun wx f=>?_)
  have hx:=hnil wx f
  refine(ND K B L W X N M o wx hx.rep c6 hp hl m hm h.inv.keys (by have:=h.inv.nk;omega) hbs hba hnx).mono ?_
  rintro e w' ⟨rfl,L',bk',hs,hps,hbk⟩
  exact⟨rfl,h.went (hx.trans hs) ((h.inv.booked hbk).more (by omega)) (by rw[hps];exact h.ps) rfl⟩
 by_cases c8:o.kind=8
 ·refine Lx K L W X.nb o w h.play.wat h.play.nv c8 _ (fun wx f=>?_)
  have hx:=hnil wx f
  refine(Oh K B L W X N M o wx hx.rep c8 hp hl m hm h.inv.hints (by have:=h.inv.held.hlen;omega) hbs hba hnx).mono ?_
  rintro e w' ⟨rfl,L',bk',hs,hps,hbk⟩
  exact⟨rfl,h.went (hx.trans hs) ((h.inv.booked hbk).more (by omega)) (by rw[hps];exact h.ps) rfl⟩
 by_cases c10:o.kind=10
 ·refine MZ K L W X.nb o w h.play.wat h.play.nv c10 _ (fun wx f=>?_)
  have hx:=hnil wx f
  refine(PV K B L W X N M o wx hx.rep c10 hp hl m hm (by rw[h.inv.ro,h.inv.broken]) (by rw[h.inv.keys]) hhe).mono ?_
  rintro e w' ⟨rfl,hs⟩
  exact⟨rfl,h.went (hx.trans hs) hst h.ps rfl⟩
 refine(Og K L W X.nb o w h.play.wat h.play.nv ⟨hk1,hk3,hk4,hk5,c2,c3,c4,c7,c9,hk2,hk6,c5,c6,c8,c10⟩).mono ?_
 rintro e w' ⟨rfl,f⟩
 exact⟨rfl,h.went (hnil w' f) hst h.ps rfl⟩
theorem LE(L:WL)(o:OpM)(w:World)(hk:o.kind=1)(Q:World→Prop)
  (hc:∀ wx,Fr Nil w wx→Calls Tryz.prog 17 #[.pointer (some ⟨L.wb,0,none⟩),.int .i64 o.a,.int .i64 o.b] wx fun e w'=>e=.returned (.bool true)∧Q w') :
  Calls Tryz.prog 18 #[.pointer (some ⟨L.wb,0,none⟩),.agg o.cells.toArray] w fun e w'=>e=.returned (.bool true)∧Q w':=by
 obtain⟨kind,a,b,c,key,text,v,tails⟩:=o
 simp only at hk
 subst hk
 simp only[OpM.cells,Ver.cells,List.cons_append,List.nil_append] at hc ⊢
 have f1:Fr Nil w (w.alloc (.cells #[.int .i64 1,.int .i64 a,.int .i64 b,.int .i64 c,.string key,.string text,.int .i64 v.node,.int .i64 v.seq,.int .i64 v.o0,.int .i64 v.o1,.int .i64 v.o2,.int .i64 v.o3,.string v.value,.bool v.gone,tails] 39)):=(G _ _).alloc _
 have hb1:=Blk.new w [.int .i64 1,.int .i64 a,.int .i64 b,.int .i64 c,.string key,.string text,.int .i64 v.node,.int .i64 v.seq,.int .i64 v.o0,.int .i64 v.o1,.int .i64 v.o2,.int .i64 v.o3,.string v.value,.bool v.gone,tails] 39
 have hc1:=hb1.cell
 have HF1:=Z f1
 have HC:=Z (hc _ f1)
 clear f1 hb1 hc
 go_enter Tryz.func18,Tryz.ntmps18
 go_wp2_with (refine HC.out.mono ?_;rintro e w1 ⟨rfl,hq⟩;have HQ:=Z hq;clear hq)
 go_ret
 exact⟨rfl,HQ.out⟩
theorem L4(K:Nat→Prop)(L:WL)(W:WM)(nb:Nat)(o:OpM)(w:World)(h:WAt K w L W)(hnv:L.nv=.pointer (some ⟨nb,0,none⟩))(hk:o.kind=11)(Q:World→Prop)
  (hc:∀ wx,Fr Nil w wx→Calls Tryz.prog 64 #[.pointer (some ⟨L.wb,0,none⟩),.agg o.cells.toArray] wx fun e w'=>e=.returned (.bool true)∧Q w') :
  Calls Tryz.prog 18 #[.pointer (some ⟨L.wb,0,none⟩),.agg o.cells.toArray] w fun e w'=>e=.returned (.bool true)∧Q w':=by
 obtain⟨kind,a,b,c,key,text,v,tails⟩:=o
 simp only at hk
 subst hk
 simp only[OpM.cells,Ver.cells,List.cons_append,List.nil_append] at hc ⊢
 have f1:Fr Nil w (w.alloc (.cells #[.int .i64 11,.int .i64 a,.int .i64 b,.int .i64 c,.string key,.string text,.int .i64 v.node,.int .i64 v.seq,.int .i64 v.o0,.int .i64 v.o1,.int .i64 v.o2,.int .i64 v.o3,.string v.value,.bool v.gone,tails] 39)):=(G _ _).alloc _
 have hb1:=Blk.new w [.int .i64 11,.int .i64 a,.int .i64 b,.int .i64 c,.string key,.string text,.int .i64 v.node,.int .i64 v.seq,.int .i64 v.o0,.int .i64 v.o1,.int .i64 v.o2,.int .i64 v.o3,.string v.value,.bool v.gone,tails] 39
 have hc5:(w.alloc (.cells #[.int .i64 11,.int .i64 a,.int .i64 b,.int .i64 c,.string key,.string text,.int .i64 v.node,.int .i64 v.seq,.int .i64 v.o0,.int .i64 v.o1,.int .i64 v.o2,.int .i64 v.o3,.string v.value,.bool v.gone,tails] 39)).cell? ⟨L.wb,5,none⟩=some (.pointer (some ⟨nb,0,none⟩)):=by rw[← hnv];exact(h.nil f1).blk.cell 5
 have hc1:=hb1.cell
 have HF1:=Z f1
 have HC:=Z (hc _ f1)
 clear h f1 hb1 hc hnv
 go_enter Tryz.func18,Tryz.ntmps18
 go_wp2_with (refine HC.out.mono ?_;rintro e w1 ⟨rfl,hq⟩;have HQ:=Z hq;clear hq)
 go_ret
 exact⟨rfl,HQ.out⟩
theorem Oi(herr:zr)(K:Nat→Prop)(B:Nat)(L:WL)(W:WM)(X:NL)(N:NM)(M:DM)(o:OpM)(w:World)(h:Play K B w L W X N M)(hk:o.kind=11)(hbr:W.broken=false)(hp:0<L.ps.length)(hl:L.ps.length<1000000)
  (hcalm:(N.syncCall M).1=0∧(N.syncCall M).2.2.refused=M.refused) :
  Calls Tryz.prog 64 #[.pointer (some ⟨L.wb,0,none⟩),.agg o.cells.toArray] w fun e w'=>e=.returned (.bool true)∧∃ L' X',L'.ps≠[]∧PStep K B L X M w K L' {W with st:=W.st.drop (W.st.length-1)} X' (N.syncCall M).2.1 (N.syncCall M).2.2 w':=by
 obtain⟨kind,a,b,c,key,text,v,tails⟩:=o
 simp only at hk ⊢
 subst hk
 have HCA:=Z hcalm
 clear hcalm
 simp only[OpM.cells,Ver.cells,List.cons_append,List.nil_append]
 have f1:Fr Nil w (w.alloc (.cells #[.int .i64 11,.int .i64 a,.int .i64 b,.int .i64 c,.string key,.string text,.int .i64 v.node,.int .i64 v.seq,.int .i64 v.o0,.int .i64 v.o1,.int .i64 v.o2,.int .i64 v.o3,.string v.value,.bool v.gone,tails] 39)):=(G _ _).alloc _
 have hb1:=Blk.new w [.int .i64 11,.int .i64 a,.int .i64 b,.int .i64 c,.string key,.string text,.int .i64 v.node,.int .i64 v.seq,.int .i64 v.o0,.int .i64 v.o1,.int .i64 v.o2,.int .i64 v.o3,.string v.value,.bool v.gone,tails] 39
 have HM:=Z (fun wx (f:Fr Nil w wx)=>zQ K L W X.LD M wx (h.wat.nil f) ((h.marks).nil f))
 have HF:=Z (fun wx (f:Fr Nil w wx)=>Z2 K L W X.LD M wx (h.wat.nil f) ((h.marks).nil f))
 have HC:=Z (fun wx (f:Fr Nil w wx)=>zq wx L.db X.LD M ((h.marks).nil f))
 have hc1:=hb1.cell
 have HF1:=Z f1
 have HB1:=Z hb1
 have HH:=Z h
 have HBR:=Z hbr
 clear h f1 hb1 hbr
 go_enter Tryz.func64,Tryz.ntmps64
 go_wp2_with fail
 generalize hwa:w.alloc (.cells #[.int .i64 11,.int .i64 a,.int .i64 b,.int .i64 c,.string key,.string text,.int .i64 v.node,.int .i64 v.seq,.int .i64 v.o0,.int .i64 v.o1,.int .i64 v.o2,.int .i64 v.o3,.string v.value,.bool v.gone,tails] 39)=wa at hc1 HF1 HB1 ⊢
 have HBX:Hid (∀ wx,Fr (fun k=>k<w.heap.size) wa wx→∀ k,wx.cell? ⟨w.heap.size,k,none⟩=wa.cell? ⟨w.heap.size,k,none⟩):=fun wx f k=>((HB1.out.fr f (Nat.lt_irrefl _)).cell k).trans (HB1.out.cell k).symm
 have HC1:=Z hc1
 have HLT:Hid (w.heap.size<wa.heap.size):=HB1.out.lt
 clear hwa HB1
 refine(HM.out wa HF1.out).mono ?_
 rintro e w2 ⟨rfl,f2⟩
 have f02:Fr Nil w w2:=HF1.out.trans f2
 have hlt2:w.heap.size<w2.heap.size:=by have:=HLT.out;have:=f2.size;omega
 have F2:=Z f2
 have f3:Fr Nil w (w2.alloc (.cells #[.int .i64 M.refused,.int .i64 M.fulls] 111)):=f02.alloc _
 have hb3:=Blk.new w2 [.int .i64 M.refused,.int .i64 M.fulls] 111
 have hc3:=(HH.out.wat.nil f3).blk.cell
 simp only[WM.cells] at hc3
 have F02:=Z f02
 have HLT2:=Z hlt2
 have F3:=Z f3
 have HB3:=Z hb3
 clear f2 f02 hlt2 f3 hb3 hc1
 go_wp2_with (refine(HC.out _ F3.out).mono ?_;rintro e wx ⟨rfl,hwx⟩;subst wx)
 refine(HF.out _ F3.out).mono ?_
 rintro e w4 ⟨rfl,f4⟩
 have f34:Fr Nil w w4:=F3.out.trans f4
 have h4:=(HH.out.nil f34).rep
 have HF34:=Z f34
 have HF4:=Z f4
 have H4:=Z h4
 clear f34 f4 h4 hc3
 generalize IntKind.i64.wrap ((if W.room<0 then 1152921504606846976 else W.room)-M.used)=fr
 have HACC:=Z (fun wx (f:Fr Nil w4 wx)=>Wm herr B X N M wx (H4.out.node.nil f) (H4.out.env.nil f))
 have HX4:Hid (∀ wx K' L' W' X' N' M',PStep K B L X M w4 K' L' W' X' N' M' wx→(∀ k,wx.cell? ⟨w.heap.size,k,none⟩=([.int .i64 11,.int .i64 a,.int .i64 b,.int .i64 c,.string key,.string text,.int .i64 v.node,.int .i64 v.seq,.int .i64 v.o0,.int .i64 v.o1,.int .i64 v.o2,.int .i64 v.o3,.string v.value,.bool v.gone,tails]:List Value)[k]?)∧(∀ k,wx.cell? ⟨w2.heap.size,k,none⟩=[Value.int .i64 M.refused,.int .i64 M.fulls][k]?)):=by
  intro wx K' L' W' X' N' M' s
  have fl:Fr (fun k=>k<w.heap.size) w4 wx:=s.fr.mono (fun k _ e=>HH.out.lt e)
  refine⟨fun k=>(HBX.out wx ((((F2.out.alloc _).trans HF4.out).mono (S':=fun k=>k<w.heap.size) (fun _ _ e=>absurd e id)).trans' fl (fun _ _ e=>e)) k).trans (HC1.out k),?_⟩
  exact(HB3.out.fr ((HF4.out.mono (S':=fun k=>k<w.heap.size) (fun _ _ e=>absurd e id)).trans' fl (fun _ _ e=>e)) (by have:=HLT2.out;omega)).cell
 have HK:Hid (∀ wx w' X' N' M',Fr Nil w4 wx→NStep X M wx X' N' M' w'→w'.cell? ⟨L.wb,5,none⟩=some (.pointer (some ⟨X.nb,0,none⟩))∧∀ k,w'.cell? ⟨w.heap.size,k,none⟩=([.int .i64 11,.int .i64 a,.int .i64 b,.int .i64 c,.string key,.string text,.int .i64 v.node,.int .i64 v.seq,.int .i64 v.o0,.int .i64 v.o1,.int .i64 v.o2,.int .i64 v.o3,.string v.value,.bool v.gone,tails]:List Value)[k]?):=by
  intro wx w' X' N' M' f s
  have hp:=(H4.out.nil f).trans ((H4.out.nil f).rep.call s)
  refine⟨(hp.rep.wat.blk.cell 5).trans ?_,(HX4.out _ _ _ _ _ _ _ hp).1⟩
  show some L.nv=_
  rw[HH.out.nv]
 have hcc:=HK.out w4 w4 X N M (G _ _) (NStep.nil H4.out.node (G _ _))
 go_wp2_with fail
 refine(HACC.out _ (G _ _)).mono ?_
 rintro e w5 ⟨X5,rfl,hs5⟩
 have HS5:=Z hs5
 clear hs5
 have HP5:=Z (H4.out.call HS5.out)
 rw[HCA.out.1]
 generalize hN5:(N.syncCall M).2.1=N5 at HS5 HP5
 have HRE:=Z HCA.out.2
 generalize hM5:(N.syncCall M).2.2=M5 at HS5 HP5 HRE
 have HEQ:=Z (And.intro hN5 hM5)
 clear hN5 hM5
 clear hcc HK HACC HCA
 have hz5:=(HX4.out _ _ _ _ _ _ _ HP5.out).1
 have hc5:=HP5.out.rep.wat.blk.cell
 simp only[WM.cells,HBR.out] at hc5
 have hc5n:∀ n k,(w5.drewN n).cell? ⟨L.wb,k,none⟩=_:=fun n=>(HP5.out.rep.wat.blk.drewN n).cell
 simp only[WM.cells,HBR.out] at hc5n
 have hm5n:∀ n k,(w5.drewN n).cell? ⟨w2.heap.size,k,none⟩=[Value.int .i64 M.refused,.int .i64 M.fulls][k]?:=fun n=>(HX4.out _ _ _ _ _ _ _ (HP5.out.trans (HP5.out.rep.nil ((G Nil w5).drewN n)))).2
 have hz5n:∀ n k,(w5.drewN n).cell? ⟨w.heap.size,k,none⟩=([.int .i64 11,.int .i64 a,.int .i64 b,.int .i64 c,.string key,.string text,.int .i64 v.node,.int .i64 v.seq,.int .i64 v.o0,.int .i64 v.o1,.int .i64 v.o2,.int .i64 v.o3,.string v.value,.bool v.gone,tails]:List Value)[k]?:=fun n=>(HX4.out _ _ _ _ _ _ _ (HP5.out.trans (HP5.out.rep.nil ((G Nil w5).drewN n)))).1
 have HREF:=Z (fun n=>Yn (w5.drewN n) L.db X5.LD M5 (HP5.out.rep.marks.nil ((G Nil w5).drewN n)))
 rw[HRE.out] at HREF
 have hlt9:decide (M.refused<M.refused)=false:=by simp
 have hlt9':¬M.refused<M.refused:=by simp
 have HSE:=Z (fun wx (f:Fr Nil w5 wx)=>WX K L W wx (HP5.out.rep.wat.nil f) hp (by omega))
 go_wp2_with fail
 go_quiet ((go_at_call 47;exact Calls.quiet_of_same (HREF.out _)))
 go_wp2_with fail
 refine(HSE.out _ ((G Nil w5).drewN nq)).mono ?_
 rintro e w6 ⟨rfl,L6,hs6,hps6⟩
 have hne6:L6.ps≠[]:=fun e=>by
  have:=congrArg List.length (hps6.symm.trans e)
  simp at this
  omega
 have HS6:=Z (And.intro hs6 hne6)
 clear hs6 hps6 hne6 hc5 hc5n hm5n hz5n hz5
 go_wp2_with fail
 go_ret
 rw[HEQ.out.1,HEQ.out.2]
 exact⟨rfl,L6,X5,HS6.out.2,(HH.out.nil HF34.out).trans ((HP5.out.trans (HP5.out.rep.nil ((G Nil w5).drewN nq))).trans ((HP5.out.rep.nil ((G Nil w5).drewN nq)).rep.turn HS6.out.1))⟩
structure Shut(T:Nat)(K:Nat→Prop)(B:Nat)(w:World)(L:WL)(W:WM)(LD:DL)(M:DM)(m:LM)(ss:List Seg)(t:Nat):Prop where
 wat:WAt K w L W
 disk:DRep w L.db LD M
 rest:Rest T W M m ss t
 ps:L.ps≠[]
 low:∀ k,WFoot L k→B≤k
structure Ply(T B:Nat)(w0:World)(wb t:Nat)(w:World):Prop where
 fr:Fr Nil w0 w
 st:(∃ K L W LD M m ss,Shut T K B w L W LD M m ss t∧L.nv=.pointer none∧L.wb=wb∧∀ k,WFoot L k→w0.heap.size≤k) ∨
  (∃ K L W X N M m,Live T K B w L W X N M m t∧L.wb=wb∧∀ k,PFoot L X M k→w0.heap.size≤k)
theorem Live.more'{T B t u:Nat}{K:Nat→Prop}{L:WL}{W:WM}{X:NL}{N:NM}{M:DM}{m:LM}{w:World}(h:Live T K B w L W X N M m t)(hu:t≤u):Live T K B w L W X N M m u :=
 ⟨h.play,h.inv.more hu,h.ps,h.self⟩
theorem Ply.more{T B t u wb:Nat}{w0 w:World}(h:Ply T B w0 wb t w)(hu:t≤u):Ply T B w0 wb u w :=
 ⟨h.fr,h.st.imp (fun⟨K,L,W,LD,M,m,ss,a,b,c,d⟩=>⟨K,L,W,LD,M,m,ss,⟨a.wat,a.disk,a.rest.more hu,a.ps,a.low⟩,b,c,d⟩) (fun⟨K,L,W,X,N,M,m,a,b,c⟩=>⟨K,L,W,X,N,M,m,a.more' hu,b,c⟩)⟩
theorem Ply.nil{T B t wb:Nat}{w0 w w':World}(h:Ply T B w0 wb t w)(f:Fr Nil w w'):Ply T B w0 wb t w' :=
 ⟨h.fr.trans f,h.st.imp (fun⟨K,L,W,LD,M,m,ss,a,b,c,d⟩=>⟨K,L,W,LD,M,m,ss,⟨a.wat.nil f,a.disk.nil f,a.rest,a.ps,a.low⟩,b,c,d⟩) (fun⟨K,L,W,X,N,M,m,a,b,c⟩=>⟨K,L,W,X,N,M,m,⟨(a.play.nil f).rep,a.inv,a.ps,a.self⟩,b,c⟩)⟩
theorem Vr(herr:zr){T B t wb:Nat}{K:Nat→Prop}{L:WL}{W:WM}{LD:DL}{M:DM}{m:LM}{ss:List Seg}{w0 w:World}(f0:Fr Nil w0 w)(h:Shut T K B w L W LD M m ss t)(hwb:L.wb=wb)(hlow:∀ k,WFoot L k→w0.heap.size≤k)(htab:Y8 B w)(hB:B≤w.heap.size)(hT:t+20≤T)(hT9:T≤900000)(seg syn:Int) :
  Calls Tryz.prog 17 #[.pointer (some ⟨L.wb,0,none⟩),.int .i64 seg,.int .i64 syn] w fun e w'=>e=.returned (.bool true)∧Ply T B w0 wb (t+1) w':=by
 have hca:W.calls<100000000:=by have:=h.rest.calls;omega
 cases hc:zC W.node seg syn with
 | false =>
  refine(Ny herr T K B L W LD M m ss t W.node seg syn w h.wat h.disk htab hB h.low h.rest hT hT9 rfl hc hca).mono ?_
  rintro e w' ⟨rfl,b2,L2,M2,hw,hd,hn,hdi,hli,hfr⟩
  exact⟨rfl,f0.trans' hfr (fun i hi e=>by have:=hlow i e;omega),.inl ⟨K,_,_,L2,M2,m,ss,⟨hw,hd,h.rest.counted hdi hli,h.ps,h.low⟩,rfl,hwb,hlow⟩⟩
 | true =>
  obtain⟨nd,hnd,hn4⟩:∃ nd:Nat,W.node=nd∧nd<4:=by
   unfold zC zt at hc
   simp only[Bool.and_eq_true,decide_eq_true_eq] at hc
   exact⟨W.node.toNat,by omega,by omega⟩
  obtain⟨sg,rfl⟩:∃ sg:Nat,seg=sg:=by
   unfold zC at hc
   simp only[Bool.and_eq_true,decide_eq_true_eq] at hc
   exact⟨seg.toNat,by omega⟩
  obtain⟨sy,rfl⟩:∃ sy:Nat,syn=sy:=by
   unfold zC at hc
   simp only[Bool.and_eq_true,decide_eq_true_eq] at hc
   exact⟨syn.toNat,by omega⟩
  rw[hnd] at hc
  refine(MA herr T K B L W LD M m ss t nd sg sy w h.wat h.disk htab hB h.low h.rest hT hT9 hnd hc hca h.ps).mono ?_
  rintro e w' ⟨rfl,L',X,M',hp,hdi,hli,hwb',hps,hfr,hft⟩
  refine⟨rfl,f0.trans' hfr (fun i hi e=>by have:=hlow i e;omega),.inr ⟨K,L',_,X,_,M',m,⟨hp,?_,by rw[hps];exact h.ps,hn4⟩,hwb'.trans hwb,fun k hk=>(hft k hk).elim (hlow k) (fun e=>Nat.le_trans f0.size e)⟩⟩
  exact(h.rest.copy hdi hli).opened (Nat.le_refl _) nd sg sy hnd rfl rfl rfl rfl rfl h.rest.last (Nat.le_refl _) rfl rfl rfl
theorem Live.shut{T B t:Nat}{K:Nat→Prop}{L:WL}{W:WM}{X:NL}{N:NM}{M:DM}{m:LM}{w:World}(h:Live T K B w L W X N M m t):∃ ss,Shut T K B w L W X.LD M m ss t:=by
 obtain⟨ss,hr⟩:=h.inv.rest
 exact⟨ss,h.play.wat,h.play.marks,hr,h.ps,h.play.low⟩
theorem MD(herr:zr){T B t wb:Nat}{w0 w:World}(h:Ply T B w0 wb t w)(htab:Y8 B w0)(hB:B≤w0.heap.size)(hT:t+20≤T)(hT9:T≤900000)(o:OpM)(hk3:o.kind≠12)(hk4:o.kind≠13)(hk5:o.kind≠14)(hk6:o.kind≠15) :
  Calls Tryz.prog 18 #[.pointer (some ⟨wb,0,none⟩),.agg o.cells.toArray] w fun e w'=>e=.returned (.bool true)∧Ply T B w0 wb (t+8) w':=by
 obtain⟨hf,hs⟩:=h
 have hBw:=Nat.le_trans hB hf.size
 have htw:∀ wx,Fr Nil w wx→Y8 B wx:=fun wx f=>htab.fr hB (hf.trans f) (fun _ e=>absurd e id)
 by_cases hk1:o.kind=1
 ·obtain⟨K,L,W,LD,M,m,ss,hsh,rfl,hlow⟩:∃ K L W LD M m ss,Shut T K B w L W LD M m ss t∧L.wb=wb∧∀ k,WFoot L k→w0.heap.size≤k:=by
   rcases hs with⟨K,L,W,LD,M,m,ss,a,_,b,c⟩|⟨K,L,W,X,N,M,m,a,b,c⟩
   ·exact⟨K,L,W,LD,M,m,ss,a,b,c⟩
   ·obtain⟨ss,hsh⟩:=a.shut
    exact⟨K,L,W,X.LD,M,m,ss,hsh,b,fun k e=>c k (.inl e)⟩
  refine(LE L o w hk1 (Ply T B w0 L.wb (t+1)) (fun wx f=>Vr herr (hf.trans f) ⟨hsh.wat.nil f,hsh.disk.nil f,hsh.rest,hsh.ps,hsh.low⟩ rfl hlow (htw wx f) (Nat.le_trans hBw f.size) hT hT9 o.a o.b)).mono ?_
  rintro e w' ⟨rfl,hp⟩
  exact⟨rfl,hp.more (by omega)⟩
 rcases hs with⟨K,L,W,LD,M,m,ss,hsh,hnv,rfl,hlow⟩|⟨K,L,W,X,N,M,m,hl,rfl,hlow⟩
 ·refine(QW K L W o w hsh.wat hnv ⟨hk1,hk3,hk4,hk5⟩).mono ?_
  rintro e w' ⟨rfl,f⟩
  exact⟨rfl,hf.trans f,.inl ⟨K,L,W,LD,M,m,ss,⟨hsh.wat.nil f,hsh.disk.nil f,hsh.rest.more (by omega),hsh.ps,hsh.low⟩,hnv,rfl,hlow⟩⟩
 ·by_cases hk2:o.kind=11
  ·have hp:0<L.ps.length:=Nat.pos_of_ne_zero (fun e=>hl.ps (List.eq_nil_of_length_eq_zero e))
   have hple:=hl.play.wat.ple
   have hlen:=hl.inv.len
   obtain⟨h1,h2,h3⟩:=hl.inv.sync (by omega)
   refine(L4 K L W X.nb o w hl.play.wat hl.play.nv hk2 (Ply T B w0 L.wb (t+8)) (fun wx f=>?_))
   refine(Oi herr K B L W X N M o wx (hl.play.nil f).rep hk2 hl.inv.broken hp (by omega) ⟨h1,h2⟩).mono ?_
   rintro e w' ⟨rfl,L',X',hps,hst⟩
   have hs2:=(hl.play.nil f).trans hst
   exact⟨rfl,hf.trans' hs2.fr (fun i hi e=>by have:=hlow i e;omega),.inr ⟨K,L',_,X',_,_,m,⟨hs2.rep,h3.more (by omega),hps,by have h4:=h3.self;have h5:=hl.inv.self;have h6:=hl.self;omega⟩,hs2.wb,fun k hk=>(hs2.foot k hk).elim (hlow k) (fun e=>Nat.le_trans hf.size e)⟩⟩
  ·refine(NE herr hl (by omega) hT9 o hk1 hk2 hk3 hk4 hk5 hk6).mono ?_
   rintro e w' ⟨rfl,K',L',W',X',N',M',m',hl',hwb,hfr,hft⟩
   exact⟨rfl,hf.trans' hfr (fun i hi e=>by have:=hlow i e;omega),.inr ⟨K',L',W',X',N',M',m',hl',hwb,fun k hk=>(hft k hk).elim (hlow k) (fun e=>Nat.le_trans hf.size e)⟩⟩
def US:ByteArray:={data:=#[107]}
def SK:ByteArray:={data:=#[118]}
theorem Fresh.new{T:Nat}{room:Int}(h:2000*(T:Int)≤room∧room≤1152921504606846976∧T≤100000000):Fresh T (DM.new room):=⟨rfl,rfl,rfl,rfl,rfl,rfl,rfl,rfl,rfl,h⟩
theorem NF(m:LM)(hk:m.keys=[])(key text:ByteArray)(n:Int):zL (m.put key text n).keys key=[⟨m.node,n,0,0,0,0,text,false⟩]:=by
 have e:(m.put key text n).keys=[(key,[m.putV key text n])]:=by
  unfold LM.put ZQ
  simp only[hk,List.foldl_nil]
  rfl
 rw[e]
 have e2:m.putV key text n=⟨m.node,n,0,0,0,0,text,false⟩:=by
  unfold LM.putV
  rw[hk]
  rfl
 rw[e2]
 unfold zL
 rw[List.find?_cons_of_pos (by simp[zR])]
def Steps(w:World)(a:Addr)(os:List OpM):Prop:=∀ i (h:i<os.length) k,k<15→w.cell? ((a.add (i*15)).add k)=os[i].cells[k]?
theorem add_zero(a:Addr):a.add 0=a:=by unfold Addr.add;simp
theorem Zx(a:Addr)(k:Nat)(h:k≠0):a.add k=⟨a.block,a.off+k,none⟩:=by unfold Addr.add;simp[h]
theorem YE(a:Addr)(i:Nat):(a.add i).block=a.block:=by unfold Addr.add;split <;> rfl
theorem NG(herr:zr){T B t wb:Nat}{w0 w:World}(h:Ply T B w0 wb t w)(htab:Y8 B w0)(hB:B≤w0.heap.size)(hT:t+20≤T)(hT9:T≤900000)(seg syn:Int) :
  Calls Tryz.prog 17 #[.pointer (some ⟨wb,0,none⟩),.int .i64 seg,.int .i64 syn] w fun e w'=>e=.returned (.bool true)∧Ply T B w0 wb (t+1) w':=by
 obtain⟨hf,hs⟩:=h
 obtain⟨K,L,W,LD,M,m,ss,hsh,rfl,hlow⟩:∃ K L W LD M m ss,Shut T K B w L W LD M m ss t∧L.wb=wb∧∀ k,WFoot L k→w0.heap.size≤k:=by
  rcases hs with⟨K,L,W,LD,M,m,ss,a,_,b,c⟩|⟨K,L,W,X,N,M,m,a,b,c⟩
  ·exact⟨K,L,W,LD,M,m,ss,a,b,c⟩
  ·obtain⟨ss,hsh⟩:=a.shut
   exact⟨K,L,W,X.LD,M,m,ss,hsh,b,fun k e=>c k (.inl e)⟩
 exact Vr herr hf hsh rfl hlow (htab.fr hB hf (fun _ e=>absurd e id)) (Nat.le_trans hB hf.size) hT hT9 seg syn
theorem ME(herr:zr)(B:Nat)(w:World)(htab:Y8 B w)(hB:B≤w.heap.size) :
  Calls Tryz.prog 15 #[] w fun e w'=>e=.returned (.bool true)∧Fr Nil w w':=by
 have HTAB:=Z htab
 have HBW:=Z hB
 clear htab hB
 go_enter Tryz.func15,Tryz.ntmps15
 go_wp2_with fail
 refine(TE 100000 w).mono ?_
 rintro e w1 ⟨rfl,hd1,hf1,hsz1⟩
 have HM:Hid (Fresh 45 (DM.new 100000)):=Fresh.new ⟨by decide,by decide,by decide⟩
 generalize DM.new 100000=M1 at hd1 HM
 have HLOW:Hid (∀ k,Foot w.heap.size DL.new M1 k→w.heap.size≤k):=fun k hk=>by
  cases hk using Foot.elim with
  | blk=>exact Nat.le_refl _
  | dir h=>simp[DL.new,Value.ownBlock] at h
  | safe h=>simp[DL.new,Value.ownBlock] at h
  | ch h=>simp[DL.new,Value.ownBlock] at h
  | chs i h1 h=>simp[DL.new] at h1
  | file h=>rw[HM.out.ids] at h;cases h
  | row f hf h=>rw[HM.out.ids] at hf;cases hf
 have hrest:=Rest.fresh HM.out 2 0 0 0 0 (Nat.zero_le _)
 have HOP:=Z (Vq B w.heap.size DL.new M1 2 1000 0 [] (by decide) w1 hd1 hrest.lies hrest.ok (by decide) (hrest.lims (by omega)) (HTAB.out.fr HBW.out hf1 (fun _ e=>absurd e id)) (Nat.le_trans HBW.out hf1.size) (fun k hk=>Nat.le_trans HBW.out (HLOW.out k hk)))
 rw[show NM.opened 2 1000 0 []=NM.fresh 2 1000 0 from rfl] at HOP
 have HF1:=Z hf1
 clear hd1 hf1 hsz1 hrest
 go_wp2_with fail
 refine HOP.out.mono ?_
 rintro e w4 ⟨X4,rfl,hr4,hdb,hfoot,_,hf4⟩
 have F4:=HF1.out.trans' (S':=Foot w.heap.size DL.new M1) hf4 (fun i hi e=>by have:=HLOW.out i e;omega)
 have hfoot4:∀ k,NFoot X4 M1 k→w.heap.size≤k:=fun k hk=>(hfoot k hk).elim (HLOW.out k) (fun e=>Nat.le_trans HF1.out.size e)
 have he4:ZT B X4 M1 w4:=⟨(HTAB.out.fr HBW.out F4 (fun _ e=>absurd e id)).1,Nat.le_trans HBW.out F4.size,fun k hk=>Nat.le_trans HBW.out (hfoot4 k hk)⟩
 have hinv:=NInv.begins HM.out 2 1000 0 0 0 0 0 (Nat.zero_le _)
 have hids4:∀ g∈M1.ids,g<w4.heap.size:=fun g hg=>(hr4.disk.files g hg).lt
 have hput:=hinv.put (H0:=w4.heap.size) (by omega) (by show 2<4;omega) hids4 US SK (by decide) (by decide)
 have HPUT:=Z (XU herr B X4 (NM.fresh 2 1000 0) M1 US SK w4 hr4 he4 (fun u hu=>by cases hu) (fun _ _=>hput.1 _ (Nat.le_refl _)))
 have HPL:=Z hput.2
 have HF4:=Z F4
 have HFT4:=Z hfoot4
 clear hr4 hdb hfoot hf4 F4 hfoot4 he4 hinv hids4 hput
 unfold US SK at HPUT
 go_wp2_with fail
 refine HPUT.out.mono ?_
 rintro e w5 ⟨f,g,X5,rfl,hf5,hg5,hap5,hs5⟩
 obtain⟨h1,-,h2,h3,hinv5⟩:=HPL.out f g hf5 hg5 hap5
 have hver5:=hinv5.ver US
 rw[NF _ rfl] at hver5
 unfold US SK at hinv5 hver5 h1 h2 h3
 obtain⟨n,hn⟩:∃ n,n=((NM.fresh 2 1000 0).put M1 {data:=#[107]} {data:=#[118]} f g).1:=⟨_,rfl⟩
 rw[← hn] at h2 h3 hver5 ⊢
 rw[h1]
 have hnk:=hinv5.nk
 generalize ((NM.fresh 2 1000 0).put M1 {data:=#[107]} {data:=#[118]} f g).2.2.1=N5 at hs5 hver5 hnk
 generalize ((NM.fresh 2 1000 0).put M1 {data:=#[107]} {data:=#[118]} f g).2.2.2=M5 at hs5
 have F5:=HF4.out.trans' (S':=NFoot X4 M1) hs5.fr (fun i hi e=>by have:=HFT4.out i e;omega)
 have HGET:=Z (XS X5 N5 M5 {data:=#[107]} w5 hs5.rep (by omega) (by rw[← hver5];simp))
 rw[hs5.same.nb,show zm {data:=#[107]}=true from by decide] at HGET
 simp only[if_true] at HGET
 rw[← hver5] at HGET
 have HF5:=Z F5
 have hn1:(1:Int)≤(n:Int):=by have h2':(0:Nat)<n:=h2;omega
 have hn2:(n:Int)≤32:=by have h3':n≤16*(0+1):=h3;omega
 have hnn:((n:Int)==n)=true:=by simp
 clear hs5 hinv5 F5 HPL HPUT HOP hf5 hg5 hap5 h1 h2 h3 hver5 hn hnk
 go_wp2_with fail
 refine HGET.out.mono ?_
 rintro e w6 ⟨v6,rfl,hv6,hf6,hn6⟩
 obtain⟨g6,c6,rfl,_,_⟩:=zi hv6 (by simp)
 have hc:=VRow.cells hv6 0 (by simp)
 have c0:=hc 0 (by omega)
 have c1:=hc 1 (by omega)
 have c6':=hc 6 (by omega)
 simp only[Ver.cells,List.getElem_cons_zero,Nat.zero_mul,Nat.zero_add] at c0 c1 c6'
 have HF6:=Z (HF5.out.trans hf6)
 clear hv6 hf6 hn6 hc
 simp only[List.length_singleton]
 go_wp2_with fail
 go_ret
 exact⟨rfl,HF6.out⟩
def Yk:List Int:=[12,13,14,15]
theorem NH(herr:zr)(B:Nat)(node seg syn:Int)(sa:Option Addr)(c:Nat)(os:List OpM)(wv:Value)(w:World)(htab:Y8 B w)(hB:B≤w.heap.size)(hos:os≠[]→∃ a,sa=some a∧a.block<w.heap.size∧Steps w a os)(hlen:os.length≤100000)(hwi:w.ownsRow 0 3 1 wv Yk.length (Yk.map (.int .i64 ·))) :
  Calls Tryz.prog 14 #[.agg #[.int .i64 node,.int .i64 (-1),.int .i64 seg,.int .i64 syn],.slice sa os.length c,wv] w fun e w'=>e=.returned (.bool true)∧Fr Nil w w':=by
 have hb1:=Blk.new w [.int .i64 node,.int .i64 (-1),.int .i64 seg,.int .i64 syn] 23
 have f1:Fr Nil w (w.alloc (.cells #[.int .i64 node,.int .i64 (-1),.int .i64 seg,.int .i64 syn] 23)):=(G _ _).alloc _
 have HTAB:=Z htab
 have HBW:=Z hB
 have HWI:=Z hwi
 have HOS:=Z hos
 have HMO:=Z (fun wx (f:Fr Nil w wx) k=>QC wv Yk k wx (z7 hwi f (fun _ _=>id)) (by decide))
 obtain⟨wa,wc,rfl⟩:=z8 hwi
 clear htab hB hwi hos
 go_enter Tryz.func14,Tryz.ntmps14
 go_wp2_with fail
 generalize w.alloc (.cells #[.int .i64 node,.int .i64 (-1),.int .i64 seg,.int .i64 syn] 23)=w1 at hb1 f1 ⊢
 generalize hbb:w.heap.size=bb at hb1 ⊢
 have HB1:=Z hb1
 have HF1:=Z f1
 have HBB:=Z hbb
 clear hb1 f1 hbb
 refine(ME herr B w1 (HTAB.out.fr HBW.out HF1.out (fun _ e=>absurd e id)) (Nat.le_trans HBW.out HF1.out.size)).mono ?_
 rintro e w2 ⟨rfl,f2⟩
 have HF2:=Z (HF1.out.trans f2)
 have HB2:=Z (HB1.out.fr f2 id)
 have hc2:=HB2.out.cell
 clear f2
 go_wp2_with fail
 refine(QD node (-1) seg syn 0 w2).mono ?_
 rintro e w3 ⟨db,hdb,rfl,hw3,hd3,f3⟩
 have HF3:=Z (HF2.out.trans f3)
 have HB3:=Z (HB2.out.fr f3 id)
 have hc3:=HB3.out.cell
 have hM:Fresh 900000 (DM.new (Uz (-1))):=Fresh.new ⟨by decide,by decide,by decide⟩
 have HF02:=Z HF2.out
 have hdle:w2.heap.size≤db:=Nat.le_of_lt hdb
 have hlow:∀ k,WFoot (WL.begins db) k→w2.heap.size≤k:=fun k hk=>by
  unfold WFoot WL.begins at hk
  simp only[Value.ownBlock] at hk
  rcases hk with rfl|e|e|e|e|e|e|e
  ·omega
  ·simp at e;omega
  all_goals (simp at e)
 have HT2:=Z (HTAB.out.fr HBW.out HF2.out (fun _ e=>absurd e id))
 have HB22:=Z (Nat.le_trans HBW.out HF2.out.size)
 have HOPN:=Z (Vr herr f3 (wb:=db+1) (LD:=DL.new) ⟨hw3,hd3,Rest.fresh hM node (-1) seg syn 0 (Nat.zero_le _),by simp[WL.begins],fun k hk=>Nat.le_trans HB22.out (hlow k hk)⟩ rfl hlow (HTAB.out.fr HBW.out HF3.out (fun _ e=>absurd e id)) (Nat.le_trans HBW.out HF3.out.size) (by decide) (by decide) seg syn)
 clear hc2 hdb hw3 hd3 f3 hM hlow hdle
 go_wp2_with fail
 refine HOPN.out.mono ?_
 rintro e w4 ⟨rfl,hrun⟩
 have HRUN:=Z hrun
 clear hrun hc3 HOPN
 generalize hnn:os.length=n at hlen ⊢
 have HNN:=Z hnn
 clear hnn
 go_wp2_with fail
 go_loopw [9,10] (fun t9 t10 w'=>∃ i:Nat,i≤n∧t9=.bool true∧t10=.int .i64 i∧Ply 900000 B w2 (db+1) (1+8*i) w') (fun _ t10 _=>n-(intOf t10).toNat)
 case atStart=>exact⟨0,Nat.zero_le _,rfl,rfl,HRUN.out⟩
 case round =>
  obtain⟨i,hi,rfl,rfl,hr⟩:=hrel
  have HR:=Z hr
  by_cases hlt:i<n
  ·obtain⟨a,rfl,hab,hst⟩:=HOS.out (fun e=>by have:=HNN.out;rw[e] at this;simp at this;omega)
   have hcell:∀ k,k<15→wr.cell? ((a.add (i*15)).add k)=(os[i]'(by have:=HNN.out;omega)).cells[k]?:=fun k hk=>by
    rw[(HF02.out.trans hr.fr).cell (by rw[YE,YE];exact hab) id]
    exact hst i _ k hk
   generalize os[i]'(by have:=HNN.out;omega)=o at hcell
   have g0:=hcell 0 (by omega)
   rw[add_zero] at g0
   obtain⟨kind,oa,ob,oc,key,text,v,tails⟩:=o
   simp only[OpM.cells,Ver.cells,List.cons_append,List.nil_append] at g0
   clear hr
   go_wp2_with fail
   refine(HMO.out wr (HF02.out.trans HR.out.fr) kind).mono ?_
   rintro e w5 ⟨rfl,f5⟩
   have HR5:=Z (HR.out.nil f5)
   cases hin:decide (kind∈Yk) with
   | true =>
    clear hin f5 g0 hcell
    go_wp2_with fail
    exact⟨⟨i+1,by omega,rfl,by push_cast;rfl,HR5.out.more (by omega)⟩,by simp[intOf];omega⟩
   | false =>
    have hc5:∀ k,k<15→w5.cell? ((a.add (i*15)).add k)=_:=fun k hk=>(f5.cell (by rw[YE,YE];exact Nat.lt_of_lt_of_le hab (HF02.out.trans HR.out.fr).size) id).trans (hcell k hk)
    simp only[OpM.cells,Ver.cells,List.cons_append,List.nil_append] at hc5
    have q0:=hc5 0 (by omega)
    rw[add_zero] at q0
    have q1:=hc5 1 (by omega)
    rw[Zx _ 1 (by decide)] at q1
    have q2:=hc5 2 (by omega)
    rw[Zx _ 2 (by decide)] at q2
    have q3:=hc5 3 (by omega)
    rw[Zx _ 3 (by decide)] at q3
    have q4:=hc5 4 (by omega)
    rw[Zx _ 4 (by decide)] at q4
    have q5:=hc5 5 (by omega)
    rw[Zx _ 5 (by decide)] at q5
    have q6:=hc5 6 (by omega)
    rw[Zx _ 6 (by decide)] at q6
    have q7:=hc5 7 (by omega)
    rw[Zx _ 7 (by decide)] at q7
    have q8:=hc5 8 (by omega)
    rw[Zx _ 8 (by decide)] at q8
    have q9:=hc5 9 (by omega)
    rw[Zx _ 9 (by decide)] at q9
    have q10:=hc5 10 (by omega)
    rw[Zx _ 10 (by decide)] at q10
    have q11:=hc5 11 (by omega)
    rw[Zx _ 11 (by decide)] at q11
    have q12:=hc5 12 (by omega)
    rw[Zx _ 12 (by decide)] at q12
    have q13:=hc5 13 (by omega)
    rw[Zx _ 13 (by decide)] at q13
    have q14:=hc5 14 (by omega)
    rw[Zx _ 14 (by decide)] at q14
    have hni:kind≠12∧kind≠13∧kind≠14∧kind≠15:=by
     simp only[decide_eq_false_iff_not,Yk,List.mem_cons,List.not_mem_nil,or_false,not_or] at hin
     exact hin
    have HST:=Z (MD herr HR5.out HT2.out HB22.out (by omega) (by decide) ⟨kind,oa,ob,oc,key,text,v,tails⟩ hni.1 hni.2.1 hni.2.2.1 hni.2.2.2)
    simp only[OpM.cells,Ver.cells,List.cons_append,List.nil_append] at HST
    clear f5 hin hc5 hni hcell g0
    go_wp2_with fail
    refine HST.out.mono ?_
    rintro e w6 ⟨rfl,hr6⟩
    have HR6:=Z hr6
    clear hr6 q0 q1 q2 q3 q4 q5 q6 q7 q8 q9 q10 q11 q12 q13 q14
    go_wp2_with fail
    exact⟨⟨i+1,by omega,rfl,by push_cast;rfl,HR6.out.more (by omega)⟩,by simp[intOf];omega⟩
  ·have hin:i=n:=by omega
   subst hin
   clear hr
   go_wp2_with fail
   have hc4:wr.cell? ⟨bb,2,none⟩=some (.int .i64 seg)∧wr.cell? ⟨bb,3,none⟩=some (.int .i64 syn):=⟨(HB2.out.fr HR.out.fr id).cell 2,(HB2.out.fr HR.out.fr id).cell 3⟩
   refine(HMO.out wr (HF02.out.trans HR.out.fr) 1).mono ?_
   rintro e w5 ⟨rfl,f5⟩
   rw[show decide ((1:Int)∈Yk)=false by decide]
   have HR5:=Z (HR.out.nil f5)
   have hc5:w5.cell? ⟨bb,2,none⟩=some (.int .i64 seg)∧w5.cell? ⟨bb,3,none⟩=some (.int .i64 syn):=⟨((HB2.out.fr HR.out.fr id).fr f5 id).cell 2,((HB2.out.fr HR.out.fr id).fr f5 id).cell 3⟩
   have HEND:=Z (NG herr HR5.out HT2.out HB22.out (by omega) (by decide) seg syn)
   have c2:=hc5.1
   have c3:=hc5.2
   clear f5 hc4 hc5
   go_wp2_with fail
   refine HEND.out.mono ?_
   rintro e w6 ⟨rfl,hr6⟩
   have HF6:=Z (HF02.out.trans hr6.fr)
   clear hr6 c2 c3
   go_wp2_with fail
   go_ret
   exact⟨rfl,HF6.out⟩
end Go.Proofs.YtkhnggkkiefcdaaGreatDoor
