/- larder: joined texts -/
import Derived.Test.YtkhnggkkiefcdaaGreatDoorRAAN
namespace Go.Proofs.YtkhnggkkiefcdaaGreatDoor
open Go.RowKit
set_option maxRecDepth 100000
set_option maxHeartbeats 8000000
theorem Mg(N:NM)(M:DM)(to:Int)(text:ByteArray)(f:Nat)(h:zP N.self to text≠0):N.hint M to text f=(zP N.self to text,N,M):=by
 unfold NM.hint zP at *
 by_cases h1:(zt to&&decide (to≠N.self))=false
 ·rw[if_pos h1,if_pos h1]
 ·rw[if_neg h1,if_neg h1]
  rw[if_neg h1] at h
  by_cases h2:text.size=0∨64<text.size
  ·rw[if_pos h2,if_pos h2]
  ·rw[if_neg h2] at h
   exact absurd rfl h
theorem Rx(N:NM)(M:DM)(to:Int)(text:ByteArray)(f:Nat)(h:zP N.self to text=0)(hr:N.readOnly=false) :
  N.hint M to text f=if 32≤N.S.hints.length then(6,N,M) else N.asked M (.inr (.inr (.inl (to.toNat,text)))) f:=by
 unfold NM.hint zP at *
 by_cases h1:(zt to&&decide (to≠N.self))=false
 ·rw[if_pos h1] at h;exact absurd h (by decide)
 ·rw[if_neg h1]
  rw[if_neg h1] at h
  by_cases h2:text.size=0∨64<text.size
  ·rw[if_pos h2] at h;exact absurd h (by decide)
  ·rw[if_neg h2,if_neg (by rw[hr];decide)]
theorem OU(herr:zr)(K:Nat→Prop)(B:Nat)(L:WL)(W:WM)(X:NL)(N:NM)(M:DM)(o:OpM)(w:World)(h:Play K B w L W X N M)(hk:o.kind=7)(hbr:W.broken=false)(hp:0<L.ps.length)(hl:L.ps.length<1000000)
  (hfit:∀ H,w.heap.size≤H→o.text.size≤64→zt o.a=true→Fit N M H (.inr (.inr (.inl (o.a.toNat,o.text)))))
  (m:LM)(hm:W.st[L.ps.length-1]?=some m)(hself:m.node=N.self)
  (hbad:zP N.self o.a o.text≠0) :
  Calls Tryz.prog 63 #[.pointer (some ⟨L.wb,0,none⟩),.agg o.cells.toArray] w fun e w'=>e=.returned (.bool true)∧∃ X',PStep K B L X M w K L W X' N M w':=by
 obtain⟨kind,a,b,c,key,text,v,tails⟩:=o
 simp only at hk hfit hbad ⊢
 subst hk
 have HPB:=Z (fun f=>Mg N M a text f hbad)
 simp only[OpM.cells,Ver.cells,List.cons_append,List.nil_append]
 have f1:Fr Nil w (w.alloc (.cells #[.int .i64 7,.int .i64 a,.int .i64 b,.int .i64 c,.string key,.string text,.int .i64 v.node,.int .i64 v.seq,.int .i64 v.o0,.int .i64 v.o1,.int .i64 v.o2,.int .i64 v.o3,.string v.value,.bool v.gone,tails] 39)):=(G _ _).alloc _
 have hb1:=Blk.new w [.int .i64 7,.int .i64 a,.int .i64 b,.int .i64 c,.string key,.string text,.int .i64 v.node,.int .i64 v.seq,.int .i64 v.o0,.int .i64 v.o1,.int .i64 v.o2,.int .i64 v.o3,.string v.value,.bool v.gone,tails] 39
 have HM:=Z (fun wx (f:Fr Nil w wx)=>zQ K L W X.LD M wx (h.wat.nil f) ((h.marks).nil f))
 have HF:=Z (fun wx (f:Fr Nil w wx)=>Z2 K L W X.LD M wx (h.wat.nil f) ((h.marks).nil f))
 have HC:=Z (fun wx (f:Fr Nil w wx)=>zq wx L.db X.LD M ((h.marks).nil f))
 have hc1:=hb1.cell
 have HF1:=Z f1
 have HB1:=Z hb1
 have HH:=Z h
 have HFI:=Z hfit
 have HBR:=Z hbr
 clear h f1 hb1 hfit hbr
 go_enter Tryz.func63,Tryz.ntmps63
 go_wp2_with fail
 generalize hwa:w.alloc (.cells #[.int .i64 7,.int .i64 a,.int .i64 b,.int .i64 c,.string key,.string text,.int .i64 v.node,.int .i64 v.seq,.int .i64 v.o0,.int .i64 v.o1,.int .i64 v.o2,.int .i64 v.o3,.string v.value,.bool v.gone,tails] 39)=wa at hc1 HF1 HB1 ⊢
 have HBX:Hid (∀ wx,Fr (fun k=>k<w.heap.size) wa wx→∀ k,wx.cell? ⟨w.heap.size,k,none⟩=wa.cell? ⟨w.heap.size,k,none⟩):=fun wx f k=>((HB1.out.fr f (Nat.lt_irrefl _)).cell k).trans (HB1.out.cell k).symm
 have HC1:=Z hc1
 have HLT:Hid (w.heap.size<wa.heap.size):=HB1.out.lt
 clear hwa HB1
 refine(HM.out wa HF1.out).mono ?_
 rintro e w2 ⟨rfl,f2⟩
 have f02:Fr Nil w w2:=HF1.out.trans f2
 have hlt2:w.heap.size<w2.heap.size:=by have:=HLT.out;have:=f2.size;omega
 have F2:=Z f2
 have f3:Fr Nil w (w2.alloc (.cells #[.int .i64 M.refused,.int .i64 M.fulls] 111)):=f02.alloc _
 have hb3:=Blk.new w2 [.int .i64 M.refused,.int .i64 M.fulls] 111
 have hc3:=(HH.out.wat.nil f3).blk.cell
 simp only[WM.cells] at hc3
 have F02:=Z f02
 have HLT2:=Z hlt2
 have F3:=Z f3
 have HB3:=Z hb3
 clear f2 f02 hlt2 f3 hb3 hc1
 go_wp2_with (refine(HC.out _ F3.out).mono ?_;rintro e wx ⟨rfl,hwx⟩;subst wx)
 refine(HF.out _ F3.out).mono ?_
 rintro e w4 ⟨rfl,f4⟩
 have f34:Fr Nil w w4:=F3.out.trans f4
 have h4:=(HH.out.nil f34).rep
 have HF34:=Z f34
 have HF4:=Z f4
 have H4:=Z h4
 clear f34 f4 h4 hc3
 generalize IntKind.i64.wrap ((if W.room<0 then 1152921504606846976 else W.room)-M.used)=fr
 have HACC:=Z (fun wx (f:Fr Nil w4 wx)=>Xu herr B X N M a text wx (H4.out.node.nil f) (H4.out.env.nil f) (HFI.out _ (HF34.out.trans f).size))
 have HX4:Hid (∀ wx K' L' W' X' N' M',PStep K B L X M w4 K' L' W' X' N' M' wx→(∀ k,wx.cell? ⟨w.heap.size,k,none⟩=([.int .i64 7,.int .i64 a,.int .i64 b,.int .i64 c,.string key,.string text,.int .i64 v.node,.int .i64 v.seq,.int .i64 v.o0,.int .i64 v.o1,.int .i64 v.o2,.int .i64 v.o3,.string v.value,.bool v.gone,tails]:List Value)[k]?)∧(∀ k,wx.cell? ⟨w2.heap.size,k,none⟩=[Value.int .i64 M.refused,.int .i64 M.fulls][k]?)):=by
  intro wx K' L' W' X' N' M' s
  have fl:Fr (fun k=>k<w.heap.size) w4 wx:=s.fr.mono (fun k _ e=>HH.out.lt e)
  refine⟨fun k=>(HBX.out wx ((((F2.out.alloc _).trans HF4.out).mono (S':=fun k=>k<w.heap.size) (fun _ _ e=>absurd e id)).trans' fl (fun _ _ e=>e)) k).trans (HC1.out k),?_⟩
  exact(HB3.out.fr ((HF4.out.mono (S':=fun k=>k<w.heap.size) (fun _ _ e=>absurd e id)).trans' fl (fun _ _ e=>e)) (by have:=HLT2.out;omega)).cell
 have HK:Hid (∀ wx w' X' N' M',Fr Nil w4 wx→NStep X M wx X' N' M' w'→w'.cell? ⟨L.wb,5,none⟩=some (.pointer (some ⟨X.nb,0,none⟩))∧∀ k,w'.cell? ⟨w.heap.size,k,none⟩=([.int .i64 7,.int .i64 a,.int .i64 b,.int .i64 c,.string key,.string text,.int .i64 v.node,.int .i64 v.seq,.int .i64 v.o0,.int .i64 v.o1,.int .i64 v.o2,.int .i64 v.o3,.string v.value,.bool v.gone,tails]:List Value)[k]?):=by
  intro wx w' X' N' M' f s
  have hp:=(H4.out.nil f).trans ((H4.out.nil f).rep.call s)
  refine⟨(hp.rep.wat.blk.cell 5).trans ?_,(HX4.out _ _ _ _ _ _ _ hp).1⟩
  show some L.nv=_
  rw[HH.out.nv]
 have hcc:=HK.out w4 w4 X N M (G _ _) (NStep.nil H4.out.node (G _ _))
 go_wp2_with fail
 go_region_held3 (fun w'=>w'.cell? ⟨L.wb,5,none⟩=some (.pointer (some ⟨X.nb,0,none⟩))∧∀ k,w'.cell? ⟨w.heap.size,k,none⟩=([.int .i64 7,.int .i64 a,.int .i64 b,.int .i64 c,.string key,.string text,.int .i64 v.node,.int .i64 v.seq,.int .i64 v.o0,.int .i64 v.o1,.int .i64 v.o2,.int .i64 v.o3,.string v.value,.bool v.gone,tails]:List Value)[k]?) (first|assumption|go_keep)
  (first|(go_at_call 31;refine(HACC.out _ (by repeat' first|(with_reducible first|apply G|assumption|apply O|apply U|apply V|apply z6)|(intro _;rfl))).mono ?_;rintro e w5 ⟨f,X5,rfl,hf5,hs5⟩;have hz5:=HK.out _ _ _ _ _ (by repeat' first|(with_reducible first|apply G|assumption|apply O|apply U|apply V|apply z6)|(intro _;rfl)) hs5;have HS5:=Z (NStep.trans (NStep.nil H4.out.node (by exact(by repeat' first|(with_reducible first|apply G|assumption|apply O|apply U|apply V|apply z6)|(intro _;rfl)))) hs5);have HFF:=Z hf5;clear hs5 hf5))
 have HP5:=Z (H4.out.call HS5.out)
 have hple:L.ps.length=W.st.length:=HH.out.wat.ple
 have hlm:W.st[L.ps.length-1]'(by omega)=m:=by rw[List.getElem?_eq_getElem (by omega)] at hm;exact Option.some.inj hm
 have hlast:=(HP5.out.rep.wat.last hp).2
 simp only[hlm] at hlast
 have HNOW:=Z (fun wx (f:Fr Nil w5 wx)=>zV K L _ wx (HP5.out.rep.wat.nil f) hp (by omega))
 have hlt5:L.ps[L.ps.length-1]<w5.heap.size:=by obtain⟨c0,hb0⟩:=hlast.blk;exact hb0.lt
 obtain⟨q,hqq⟩:∃ q,q=L.ps[L.ps.length-1]:=⟨_,rfl⟩
 rw[← hqq] at hlast hlt5 HNOW
 have HQQ:=Z hqq
 have HLA:Hid (∀ wx,Fr Nil w5 wx→MRep K wx q m):=fun wx f=>hlast.keep (zI.of_fr f (fun k e=>⟨(HP5.out.rep.wat.keep k e).1,id⟩)) (fun _ e=>e)
 have HBV:Hid (∀ wx,Fr Nil w5 wx→Calls Tryz.prog 113 #[.pointer (some ⟨q,0,none⟩),.int .i64 a,.string text] wx fun e w'=>e=.returned (.int .i64 (zP N.self a text))∧w'=wx):=by
  intro wx f
  obtain⟨kv,hv,ents,ha,_⟩:=HLA.out wx f
  have hb:=ha.blk
  rw[hself] at hb
  exact Xo q N.self kv hv a text wx hb
 have HLT5:=Z hlt5
 have HCK:Hid (∀ wx,Fr Nil w5 wx→∀ k,wx.cell? ⟨w.heap.size,k,none⟩=([.int .i64 7,.int .i64 a,.int .i64 b,.int .i64 c,.string key,.string text,.int .i64 v.node,.int .i64 v.seq,.int .i64 v.o0,.int .i64 v.o1,.int .i64 v.o2,.int .i64 v.o3,.string v.value,.bool v.gone,tails]:List Value)[k]?):=fun wx f=>(HX4.out _ _ _ _ _ _ _ (HP5.out.trans (HP5.out.rep.nil f))).1
 clear hcc hlast hlt5 hqq hlm HK HACC
 have hz5:=HCK.out w5 (G _ _)
 go_wp2_with fail
 go_region_held3 (fun w'=>∀ k,w'.cell? ⟨w.heap.size,k,none⟩=([.int .i64 7,.int .i64 a,.int .i64 b,.int .i64 c,.string key,.string text,.int .i64 v.node,.int .i64 v.seq,.int .i64 v.o0,.int .i64 v.o1,.int .i64 v.o2,.int .i64 v.o3,.string v.value,.bool v.gone,tails]:List Value)[k]?) (first|assumption|go_keep)
  (first
  | (go_at_call 113;refine(HBV.out _ (by repeat' first|(with_reducible first|apply G|assumption|apply O|apply U|apply V|apply z6)|(intro _;rfl))).mono ?_;rintro e w8 ⟨rfl,hw8⟩;have hF8:Fr Nil w5 w8:=by rw[hw8];exact(by repeat' first|(with_reducible first|apply G|assumption|apply O|apply U|apply V|apply z6)|(intro _;rfl))
     have HF8:=Z hF8;have hz8:=HCK.out w8 hF8;clear hF8 hw8)
  | (go_at_call 107;refine(HNOW.out _ (by repeat' first|(with_reducible first|apply G|assumption|apply O|apply U|apply V|apply z6)|(intro _;rfl))).mono ?_;rintro e w9 ⟨rfl,n9,hw9⟩;subst w9))
 rw[HPB.out f] at HP5 ⊢
 generalize zP N.self a text=bp at hbad ⊢
 have hb0:(bp==0)=false:=by simp[hbad]
 have HQT:=Z (ZE K L W X5.LD M bp bp M.calls w8 (HP5.out.rep.wat.nil HF8.out) (HP5.out.rep.marks.nil HF8.out))
 simp only[and_self,decide_true] at HQT
 go_wp2_with fail
 refine HQT.out.mono ?_
 rintro e wx ⟨rfl,hwx⟩
 subst wx
 go_wp2_with fail
 go_ret
 exact⟨rfl,X5,(HH.out.nil HF34.out).trans (HP5.out.trans (HP5.out.rep.nil HF8.out))⟩
theorem PR(herr:zr)(K:Nat→Prop)(B:Nat)(L:WL)(W:WM)(X:NL)(N:NM)(M:DM)(o:OpM)(w:World)(h:Play K B w L W X N M)(hk:o.kind=7)(hbr:W.broken=false)(hp:0<L.ps.length)(hl:L.ps.length<1000000)
  (hfit:∀ H,w.heap.size≤H→o.text.size≤64→zt o.a=true→Fit N M H (.inr (.inr (.inl (o.a.toNat,o.text)))))
  (m:LM)(hm:W.st[L.ps.length-1]?=some m)(hself:m.node=N.self)
  (hhl:m.hints.length<1000000)(to:Nat)(hto:o.a=to)(hbad:zP N.self o.a o.text=0)(hro:N.readOnly=false)(hmany:32≤m.hints.length)(hmh:N.S.hints.length=m.hints.length) :
  Calls Tryz.prog 63 #[.pointer (some ⟨L.wb,0,none⟩),.agg o.cells.toArray] w fun e w'=>e=.returned (.bool true)∧∃ X',PStep K B L X M w K L W X' N M w':=by
 obtain⟨kind,a,b,c,key,text,v,tails⟩:=o
 simp only at hk hto hfit hbad ⊢
 subst hk hto
 have HPB:=Z (fun f=>(Rx N M to text f hbad hro).trans (by rw[if_pos (by omega)]):∀ f,N.hint M to text f=(6,N,M))
 have HHL:=Z hhl
 have HMY:=Z hmany
 clear hhl hmany hmh hro
 simp only[OpM.cells,Ver.cells,List.cons_append,List.nil_append]
 have f1:Fr Nil w (w.alloc (.cells #[.int .i64 7,.int .i64 to,.int .i64 b,.int .i64 c,.string key,.string text,.int .i64 v.node,.int .i64 v.seq,.int .i64 v.o0,.int .i64 v.o1,.int .i64 v.o2,.int .i64 v.o3,.string v.value,.bool v.gone,tails] 39)):=(G _ _).alloc _
 have hb1:=Blk.new w [.int .i64 7,.int .i64 to,.int .i64 b,.int .i64 c,.string key,.string text,.int .i64 v.node,.int .i64 v.seq,.int .i64 v.o0,.int .i64 v.o1,.int .i64 v.o2,.int .i64 v.o3,.string v.value,.bool v.gone,tails] 39
 have HM:=Z (fun wx (f:Fr Nil w wx)=>zQ K L W X.LD M wx (h.wat.nil f) ((h.marks).nil f))
 have HF:=Z (fun wx (f:Fr Nil w wx)=>Z2 K L W X.LD M wx (h.wat.nil f) ((h.marks).nil f))
 have HC:=Z (fun wx (f:Fr Nil w wx)=>zq wx L.db X.LD M ((h.marks).nil f))
 have hc1:=hb1.cell
 have HF1:=Z f1
 have HB1:=Z hb1
 have HH:=Z h
 have HFI:=Z hfit
 have HBR:=Z hbr
 clear h f1 hb1 hfit hbr
 go_enter Tryz.func63,Tryz.ntmps63
 go_wp2_with fail
 generalize hwa:w.alloc (.cells #[.int .i64 7,.int .i64 to,.int .i64 b,.int .i64 c,.string key,.string text,.int .i64 v.node,.int .i64 v.seq,.int .i64 v.o0,.int .i64 v.o1,.int .i64 v.o2,.int .i64 v.o3,.string v.value,.bool v.gone,tails] 39)=wa at hc1 HF1 HB1 ⊢
 have HBX:Hid (∀ wx,Fr (fun k=>k<w.heap.size) wa wx→∀ k,wx.cell? ⟨w.heap.size,k,none⟩=wa.cell? ⟨w.heap.size,k,none⟩):=fun wx f k=>((HB1.out.fr f (Nat.lt_irrefl _)).cell k).trans (HB1.out.cell k).symm
 have HC1:=Z hc1
 have HLT:Hid (w.heap.size<wa.heap.size):=HB1.out.lt
 clear hwa HB1
 refine(HM.out wa HF1.out).mono ?_
 rintro e w2 ⟨rfl,f2⟩
 have f02:Fr Nil w w2:=HF1.out.trans f2
 have hlt2:w.heap.size<w2.heap.size:=by have:=HLT.out;have:=f2.size;omega
 have F2:=Z f2
 have f3:Fr Nil w (w2.alloc (.cells #[.int .i64 M.refused,.int .i64 M.fulls] 111)):=f02.alloc _
 have hb3:=Blk.new w2 [.int .i64 M.refused,.int .i64 M.fulls] 111
 have hc3:=(HH.out.wat.nil f3).blk.cell
 simp only[WM.cells] at hc3
 have F02:=Z f02
 have HLT2:=Z hlt2
 have F3:=Z f3
 have HB3:=Z hb3
 clear f2 f02 hlt2 f3 hb3 hc1
 go_wp2_with (refine(HC.out _ F3.out).mono ?_;rintro e wx ⟨rfl,hwx⟩;subst wx)
 refine(HF.out _ F3.out).mono ?_
 rintro e w4 ⟨rfl,f4⟩
 have f34:Fr Nil w w4:=F3.out.trans f4
 have h4:=(HH.out.nil f34).rep
 have HF34:=Z f34
 have HF4:=Z f4
 have H4:=Z h4
 clear f34 f4 h4 hc3
 generalize IntKind.i64.wrap ((if W.room<0 then 1152921504606846976 else W.room)-M.used)=fr
 have HACC:=Z (fun wx (f:Fr Nil w4 wx)=>Xu herr B X N M to text wx (H4.out.node.nil f) (H4.out.env.nil f) (HFI.out _ (HF34.out.trans f).size))
 have HX4:Hid (∀ wx K' L' W' X' N' M',PStep K B L X M w4 K' L' W' X' N' M' wx→(∀ k,wx.cell? ⟨w.heap.size,k,none⟩=([.int .i64 7,.int .i64 to,.int .i64 b,.int .i64 c,.string key,.string text,.int .i64 v.node,.int .i64 v.seq,.int .i64 v.o0,.int .i64 v.o1,.int .i64 v.o2,.int .i64 v.o3,.string v.value,.bool v.gone,tails]:List Value)[k]?)∧(∀ k,wx.cell? ⟨w2.heap.size,k,none⟩=[Value.int .i64 M.refused,.int .i64 M.fulls][k]?)):=by
  intro wx K' L' W' X' N' M' s
  have fl:Fr (fun k=>k<w.heap.size) w4 wx:=s.fr.mono (fun k _ e=>HH.out.lt e)
  refine⟨fun k=>(HBX.out wx ((((F2.out.alloc _).trans HF4.out).mono (S':=fun k=>k<w.heap.size) (fun _ _ e=>absurd e id)).trans' fl (fun _ _ e=>e)) k).trans (HC1.out k),?_⟩
  exact(HB3.out.fr ((HF4.out.mono (S':=fun k=>k<w.heap.size) (fun _ _ e=>absurd e id)).trans' fl (fun _ _ e=>e)) (by have:=HLT2.out;omega)).cell
 have HK:Hid (∀ wx w' X' N' M',Fr Nil w4 wx→NStep X M wx X' N' M' w'→w'.cell? ⟨L.wb,5,none⟩=some (.pointer (some ⟨X.nb,0,none⟩))∧∀ k,w'.cell? ⟨w.heap.size,k,none⟩=([.int .i64 7,.int .i64 to,.int .i64 b,.int .i64 c,.string key,.string text,.int .i64 v.node,.int .i64 v.seq,.int .i64 v.o0,.int .i64 v.o1,.int .i64 v.o2,.int .i64 v.o3,.string v.value,.bool v.gone,tails]:List Value)[k]?):=by
  intro wx w' X' N' M' f s
  have hp:=(H4.out.nil f).trans ((H4.out.nil f).rep.call s)
  refine⟨(hp.rep.wat.blk.cell 5).trans ?_,(HX4.out _ _ _ _ _ _ _ hp).1⟩
  show some L.nv=_
  rw[HH.out.nv]
 have hcc:=HK.out w4 w4 X N M (G _ _) (NStep.nil H4.out.node (G _ _))
 go_wp2_with fail
 go_region_held3 (fun w'=>w'.cell? ⟨L.wb,5,none⟩=some (.pointer (some ⟨X.nb,0,none⟩))∧∀ k,w'.cell? ⟨w.heap.size,k,none⟩=([.int .i64 7,.int .i64 to,.int .i64 b,.int .i64 c,.string key,.string text,.int .i64 v.node,.int .i64 v.seq,.int .i64 v.o0,.int .i64 v.o1,.int .i64 v.o2,.int .i64 v.o3,.string v.value,.bool v.gone,tails]:List Value)[k]?) (first|assumption|go_keep)
  (first|(go_at_call 31;refine(HACC.out _ (by repeat' first|(with_reducible first|apply G|assumption|apply O|apply U|apply V|apply z6)|(intro _;rfl))).mono ?_;rintro e w5 ⟨f,X5,rfl,hf5,hs5⟩;have hz5:=HK.out _ _ _ _ _ (by repeat' first|(with_reducible first|apply G|assumption|apply O|apply U|apply V|apply z6)|(intro _;rfl)) hs5;have HS5:=Z (NStep.trans (NStep.nil H4.out.node (by exact(by repeat' first|(with_reducible first|apply G|assumption|apply O|apply U|apply V|apply z6)|(intro _;rfl)))) hs5);have HFF:=Z hf5;clear hs5 hf5))
 have HP5:=Z (H4.out.call HS5.out)
 have hple:L.ps.length=W.st.length:=HH.out.wat.ple
 have hlm:W.st[L.ps.length-1]'(by omega)=m:=by rw[List.getElem?_eq_getElem (by omega)] at hm;exact Option.some.inj hm
 have hlast:=(HP5.out.rep.wat.last hp).2
 simp only[hlm] at hlast
 have HNOW:=Z (fun wx (f:Fr Nil w5 wx)=>zV K L _ wx (HP5.out.rep.wat.nil f) hp (by omega))
 have hlt5:L.ps[L.ps.length-1]<w5.heap.size:=by obtain⟨c0,hb0⟩:=hlast.blk;exact hb0.lt
 obtain⟨q,hqq⟩:∃ q,q=L.ps[L.ps.length-1]:=⟨_,rfl⟩
 rw[← hqq] at hlast hlt5 HNOW
 have HQQ:=Z hqq
 have HLA:Hid (∀ wx,Fr Nil w5 wx→MRep K wx q m):=fun wx f=>hlast.keep (zI.of_fr f (fun k e=>⟨(HP5.out.rep.wat.keep k e).1,id⟩)) (fun _ e=>e)
 have HBV:Hid (∀ wx,Fr Nil w5 wx→Calls Tryz.prog 113 #[.pointer (some ⟨q,0,none⟩),.int .i64 to,.string text] wx fun e w'=>e=.returned (.int .i64 (zP N.self to text))∧w'=wx):=by
  intro wx f
  obtain⟨kv,hv,ents,ha,_⟩:=HLA.out wx f
  have hb:=ha.blk
  rw[hself] at hb
  exact Xo q N.self kv hv to text wx hb
 have HLT5:=Z hlt5
 have HCK:Hid (∀ wx,Fr Nil w5 wx→∀ k,wx.cell? ⟨w.heap.size,k,none⟩=([.int .i64 7,.int .i64 to,.int .i64 b,.int .i64 c,.string key,.string text,.int .i64 v.node,.int .i64 v.seq,.int .i64 v.o0,.int .i64 v.o1,.int .i64 v.o2,.int .i64 v.o3,.string v.value,.bool v.gone,tails]:List Value)[k]?):=fun wx f=>(HX4.out _ _ _ _ _ _ _ (HP5.out.trans (HP5.out.rep.nil f))).1
 clear hcc hlast hlt5 hqq hlm HK HACC
 have hz5:=HCK.out w5 (G _ _)
 go_wp2_with fail
 go_region_held3 (fun w'=>∀ k,w'.cell? ⟨w.heap.size,k,none⟩=([.int .i64 7,.int .i64 to,.int .i64 b,.int .i64 c,.string key,.string text,.int .i64 v.node,.int .i64 v.seq,.int .i64 v.o0,.int .i64 v.o1,.int .i64 v.o2,.int .i64 v.o3,.string v.value,.bool v.gone,tails]:List Value)[k]?) (first|assumption|go_keep)
  (first
  | (go_at_call 113;refine(HBV.out _ (by repeat' first|(with_reducible first|apply G|assumption|apply O|apply U|apply V|apply z6)|(intro _;rfl))).mono ?_;rintro e w8 ⟨rfl,hw8⟩;have hF8:Fr Nil w5 w8:=by rw[hw8];exact(by repeat' first|(with_reducible first|apply G|assumption|apply O|apply U|apply V|apply z6)|(intro _;rfl))
     have HF8:=Z hF8;have hz8:=HCK.out w8 hF8;clear hF8 hw8)
  | (go_at_call 107;refine(HNOW.out _ (by repeat' first|(with_reducible first|apply G|assumption|apply O|apply U|apply V|apply z6)|(intro _;rfl))).mono ?_;rintro e w9 ⟨rfl,n9,hw9⟩;subst w9))
 rw[HPB.out f] at HP5 ⊢
 clear hbad
 have h8:=HP5.out.trans (HP5.out.rep.nil HF8.out)
 have hc8:=h8.rep.wat.blk.cell
 simp only[WM.cells,HBR.out] at hc8
 have HP8:=Z h8
 have HACK:Hid (∀ wx,Fr Nil w8 wx→Calls Tryz.prog 114 #[.pointer (some ⟨q,0,none⟩)] wx fun e w'=>∃ pv n,e=.returned (.tuple #[.pointer pv,.int .i64 n])∧Fr Nil wx w'):=by
  intro wx f
  refine(Xw K q m wx (HLA.out wx (HF8.out.trans f)) HHL.out).mono ?_
  intro e w' h
  rcases h with⟨_,h,h2⟩|⟨_,nb,h,_,h2,_⟩
  ·exact⟨_,_,h,h2⟩
  ·exact⟨_,_,h,h2⟩
 have HHM:Hid (∀ wx,Fr Nil w8 wx→Calls Tryz.prog 115 #[.pointer (some ⟨q,0,none⟩),.int .i64 to,.string text] wx fun e w'=>e=.returned (.tuple #[.pointer none,.int .i64 6])∧Fr Nil wx w'):=by
  intro wx f
  refine(VK K q m to text wx (HLA.out wx (HF8.out.trans f)) HHL.out).mono ?_
  intro e w' h
  rcases h with⟨h0,h⟩|⟨h0,h⟩
  ·exact h
  ·exact absurd h0 (by have:=HMY.out;omega)
 clear h8
 go_wp2_with fail
 clear hc8
 refine(HNOW.out _ HF8.out).mono ?_
 rintro e w9 ⟨rfl,n9,hw9⟩
 subst w9
 go_wp2_with fail
 refine(HACK.out _ (by exact(by repeat' first|(with_reducible first|apply G|assumption|apply O|apply U|apply V|apply z6)|(intro _;rfl)))).mono ?_
 rintro e w9 ⟨pv,na,rfl,hf9⟩
 have hF9:Fr Nil w8 w9:=Fr.trans (by exact(by repeat' first|(with_reducible first|apply G|assumption|apply O|apply U|apply V|apply z6)|(intro _;rfl))) hf9
 have HF9:=Z hF9
 have hz9:=HCK.out w9 (HF8.out.trans hF9)
 clear hz8 hf9 hF9
 go_wp2_with fail
 go_region_held3 (fun w'=>∀ k,w'.cell? ⟨w.heap.size,k,none⟩=([.int .i64 7,.int .i64 to,.int .i64 b,.int .i64 c,.string key,.string text,.int .i64 v.node,.int .i64 v.seq,.int .i64 v.o0,.int .i64 v.o1,.int .i64 v.o2,.int .i64 v.o3,.string v.value,.bool v.gone,tails]:List Value)[k]?) (first|assumption|go_keep)
  (first
  | (go_at_call 115;refine(HHM.out _ (HF9.out.trans (by exact(by repeat' first|(with_reducible first|apply G|assumption|apply O|apply U|apply V|apply z6)|(intro _;rfl))))).mono ?_;rintro e w10 ⟨rfl,hf10⟩;have hF10:Fr Nil w8 w10:=(HF9.out.trans (by exact(by repeat' first|(with_reducible first|apply G|assumption|apply O|apply U|apply V|apply z6)|(intro _;rfl)))).trans hf10;have HF10:=Z hF10;have hz10:=HCK.out w10 (HF8.out.trans hF10);clear hf10 hF10)
  | (go_at_call 107;refine(HNOW.out _ (HF8.out.trans (HF9.out.trans (by exact(by repeat' first|(with_reducible first|apply G|assumption|apply O|apply U|apply V|apply z6)|(intro _;rfl)))))).mono ?_;rintro e w10 ⟨rfl,n10,hw10⟩;subst w10))
 have HQT:=Z (fun wx (f:Fr Nil w10 wx)=>ZE K L W X5.LD M 6 6 M.calls wx (HP8.out.rep.wat.nil (HF10.out.trans f)) (HP8.out.rep.marks.nil (HF10.out.trans f)))
 simp only[and_self,decide_true] at HQT
 clear hz10
 go_wp2_with fail
 refine(HQT.out _ (by exact(by repeat' first|(with_reducible first|apply G|assumption|apply O|apply U|apply V|apply z6)|(intro _;rfl)))).mono ?_
 rintro e wx ⟨rfl,hwx⟩
 subst wx
 go_wp2_with fail
 go_ret
 exact⟨rfl,X5,(HH.out.nil HF34.out).trans (HP8.out.trans (HP8.out.rep.nil (HF10.out.trans (by exact(by repeat' first|(with_reducible first|apply G|assumption|apply O|apply U|apply V|apply z6)|(intro _;rfl))))))⟩
theorem PS(herr:zr)(K:Nat→Prop)(B:Nat)(L:WL)(W:WM)(X:NL)(N:NM)(M:DM)(o:OpM)(w:World)(h:Play K B w L W X N M)(hk:o.kind=7)(hbr:W.broken=false)(hp:0<L.ps.length)(hl:L.ps.length<1000000)
  (hfit:∀ H,w.heap.size≤H→o.text.size≤64→zt o.a=true→Fit N M H (.inr (.inr (.inl (o.a.toNat,o.text)))))
  (m:LM)(hm:W.st[L.ps.length-1]?=some m)(hself:m.node=N.self)
  (hhl:m.hints.length<1000000)(to:Nat)(hto:o.a=to)(hbad:zP N.self o.a o.text=0)(hroom:m.hints.length<32)(hwr:W.writes<100000000)(hcalm:∀ f,w.heap.size≤f→(N.hint M o.a o.text f).1=0∧(N.hint M o.a o.text f).2.2.refused=M.refused) :
  Calls Tryz.prog 63 #[.pointer (some ⟨L.wb,0,none⟩),.agg o.cells.toArray] w fun e w'=>e=.returned (.bool true)∧∃ f K' L' X',w.heap.size≤f∧L'.ps≠[]∧PStep K B L X M w K' L' (W.took (m.hint to o.text)) X' (N.hint M o.a o.text f).2.1 (N.hint M o.a o.text f).2.2 w':=by
 obtain⟨kind,a,b,c,key,text,v,tails⟩:=o
 simp only at hk hto hfit hbad hcalm ⊢
 subst hk hto
 have HHL:=Z hhl
 have HMY:=Z hroom
 have HCA:=Z hcalm
 clear hhl hroom hcalm
 simp only[OpM.cells,Ver.cells,List.cons_append,List.nil_append]
 have f1:Fr Nil w (w.alloc (.cells #[.int .i64 7,.int .i64 to,.int .i64 b,.int .i64 c,.string key,.string text,.int .i64 v.node,.int .i64 v.seq,.int .i64 v.o0,.int .i64 v.o1,.int .i64 v.o2,.int .i64 v.o3,.string v.value,.bool v.gone,tails] 39)):=(G _ _).alloc _
 have hb1:=Blk.new w [.int .i64 7,.int .i64 to,.int .i64 b,.int .i64 c,.string key,.string text,.int .i64 v.node,.int .i64 v.seq,.int .i64 v.o0,.int .i64 v.o1,.int .i64 v.o2,.int .i64 v.o3,.string v.value,.bool v.gone,tails] 39
 have HM:=Z (fun wx (f:Fr Nil w wx)=>zQ K L W X.LD M wx (h.wat.nil f) ((h.marks).nil f))
 have HF:=Z (fun wx (f:Fr Nil w wx)=>Z2 K L W X.LD M wx (h.wat.nil f) ((h.marks).nil f))
 have HC:=Z (fun wx (f:Fr Nil w wx)=>zq wx L.db X.LD M ((h.marks).nil f))
 have hc1:=hb1.cell
 have HF1:=Z f1
 have HB1:=Z hb1
 have HH:=Z h
 have HFI:=Z hfit
 have HBR:=Z hbr
 clear h f1 hb1 hfit hbr
 go_enter Tryz.func63,Tryz.ntmps63
 go_wp2_with fail
 generalize hwa:w.alloc (.cells #[.int .i64 7,.int .i64 to,.int .i64 b,.int .i64 c,.string key,.string text,.int .i64 v.node,.int .i64 v.seq,.int .i64 v.o0,.int .i64 v.o1,.int .i64 v.o2,.int .i64 v.o3,.string v.value,.bool v.gone,tails] 39)=wa at hc1 HF1 HB1 ⊢
 have HBX:Hid (∀ wx,Fr (fun k=>k<w.heap.size) wa wx→∀ k,wx.cell? ⟨w.heap.size,k,none⟩=wa.cell? ⟨w.heap.size,k,none⟩):=fun wx f k=>((HB1.out.fr f (Nat.lt_irrefl _)).cell k).trans (HB1.out.cell k).symm
 have HC1:=Z hc1
 have HLT:Hid (w.heap.size<wa.heap.size):=HB1.out.lt
 clear hwa HB1
 refine(HM.out wa HF1.out).mono ?_
 rintro e w2 ⟨rfl,f2⟩
 have f02:Fr Nil w w2:=HF1.out.trans f2
 have hlt2:w.heap.size<w2.heap.size:=by have:=HLT.out;have:=f2.size;omega
 have F2:=Z f2
 have f3:Fr Nil w (w2.alloc (.cells #[.int .i64 M.refused,.int .i64 M.fulls] 111)):=f02.alloc _
 have hb3:=Blk.new w2 [.int .i64 M.refused,.int .i64 M.fulls] 111
 have hc3:=(HH.out.wat.nil f3).blk.cell
 simp only[WM.cells] at hc3
 have F02:=Z f02
 have HLT2:=Z hlt2
 have F3:=Z f3
 have HB3:=Z hb3
 clear f2 f02 hlt2 f3 hb3 hc1
 go_wp2_with (refine(HC.out _ F3.out).mono ?_;rintro e wx ⟨rfl,hwx⟩;subst wx)
 refine(HF.out _ F3.out).mono ?_
 rintro e w4 ⟨rfl,f4⟩
 have f34:Fr Nil w w4:=F3.out.trans f4
 have h4:=(HH.out.nil f34).rep
 have HF34:=Z f34
 have HF4:=Z f4
 have H4:=Z h4
 clear f34 f4 h4 hc3
 generalize IntKind.i64.wrap ((if W.room<0 then 1152921504606846976 else W.room)-M.used)=fr
 have HACC:=Z (fun wx (f:Fr Nil w4 wx)=>Xu herr B X N M to text wx (H4.out.node.nil f) (H4.out.env.nil f) (HFI.out _ (HF34.out.trans f).size))
 have HX4:Hid (∀ wx K' L' W' X' N' M',PStep K B L X M w4 K' L' W' X' N' M' wx→(∀ k,wx.cell? ⟨w.heap.size,k,none⟩=([.int .i64 7,.int .i64 to,.int .i64 b,.int .i64 c,.string key,.string text,.int .i64 v.node,.int .i64 v.seq,.int .i64 v.o0,.int .i64 v.o1,.int .i64 v.o2,.int .i64 v.o3,.string v.value,.bool v.gone,tails]:List Value)[k]?)∧(∀ k,wx.cell? ⟨w2.heap.size,k,none⟩=[Value.int .i64 M.refused,.int .i64 M.fulls][k]?)):=by
  intro wx K' L' W' X' N' M' s
  have fl:Fr (fun k=>k<w.heap.size) w4 wx:=s.fr.mono (fun k _ e=>HH.out.lt e)
  refine⟨fun k=>(HBX.out wx ((((F2.out.alloc _).trans HF4.out).mono (S':=fun k=>k<w.heap.size) (fun _ _ e=>absurd e id)).trans' fl (fun _ _ e=>e)) k).trans (HC1.out k),?_⟩
  exact(HB3.out.fr ((HF4.out.mono (S':=fun k=>k<w.heap.size) (fun _ _ e=>absurd e id)).trans' fl (fun _ _ e=>e)) (by have:=HLT2.out;omega)).cell
 have HK:Hid (∀ wx w' X' N' M',Fr Nil w4 wx→NStep X M wx X' N' M' w'→w'.cell? ⟨L.wb,5,none⟩=some (.pointer (some ⟨X.nb,0,none⟩))∧∀ k,w'.cell? ⟨w.heap.size,k,none⟩=([.int .i64 7,.int .i64 to,.int .i64 b,.int .i64 c,.string key,.string text,.int .i64 v.node,.int .i64 v.seq,.int .i64 v.o0,.int .i64 v.o1,.int .i64 v.o2,.int .i64 v.o3,.string v.value,.bool v.gone,tails]:List Value)[k]?):=by
  intro wx w' X' N' M' f s
  have hp:=(H4.out.nil f).trans ((H4.out.nil f).rep.call s)
  refine⟨(hp.rep.wat.blk.cell 5).trans ?_,(HX4.out _ _ _ _ _ _ _ hp).1⟩
  show some L.nv=_
  rw[HH.out.nv]
 have hcc:=HK.out w4 w4 X N M (G _ _) (NStep.nil H4.out.node (G _ _))
 go_wp2_with fail
 go_region_held3 (fun w'=>w'.cell? ⟨L.wb,5,none⟩=some (.pointer (some ⟨X.nb,0,none⟩))∧∀ k,w'.cell? ⟨w.heap.size,k,none⟩=([.int .i64 7,.int .i64 to,.int .i64 b,.int .i64 c,.string key,.string text,.int .i64 v.node,.int .i64 v.seq,.int .i64 v.o0,.int .i64 v.o1,.int .i64 v.o2,.int .i64 v.o3,.string v.value,.bool v.gone,tails]:List Value)[k]?) (first|assumption|go_keep)
  (first|(go_at_call 31;refine(HACC.out _ (by repeat' first|(with_reducible first|apply G|assumption|apply O|apply U|apply V|apply z6)|(intro _;rfl))).mono ?_;rintro e w5 ⟨f,X5,rfl,hf5,hs5⟩;have hz5:=HK.out _ _ _ _ _ (by repeat' first|(with_reducible first|apply G|assumption|apply O|apply U|apply V|apply z6)|(intro _;rfl)) hs5;have HS5:=Z (NStep.trans (NStep.nil H4.out.node (by exact(by repeat' first|(with_reducible first|apply G|assumption|apply O|apply U|apply V|apply z6)|(intro _;rfl)))) hs5);have HFF:=Z hf5;clear hs5 hf5))
 have HP5:=Z (H4.out.call HS5.out)
 have hple:L.ps.length=W.st.length:=HH.out.wat.ple
 have hlm:W.st[L.ps.length-1]'(by omega)=m:=by rw[List.getElem?_eq_getElem (by omega)] at hm;exact Option.some.inj hm
 have hlast:=(HP5.out.rep.wat.last hp).2
 simp only[hlm] at hlast
 have HNOW:=Z (fun wx (f:Fr Nil w5 wx)=>zV K L _ wx (HP5.out.rep.wat.nil f) hp (by omega))
 have hlt5:L.ps[L.ps.length-1]<w5.heap.size:=by obtain⟨c0,hb0⟩:=hlast.blk;exact hb0.lt
 obtain⟨q,hqq⟩:∃ q,q=L.ps[L.ps.length-1]:=⟨_,rfl⟩
 rw[← hqq] at hlast hlt5 HNOW
 have HQQ:=Z hqq
 have HLA:Hid (∀ wx,Fr Nil w5 wx→MRep K wx q m):=fun wx f=>hlast.keep (zI.of_fr f (fun k e=>⟨(HP5.out.rep.wat.keep k e).1,id⟩)) (fun _ e=>e)
 have HBV:Hid (∀ wx,Fr Nil w5 wx→Calls Tryz.prog 113 #[.pointer (some ⟨q,0,none⟩),.int .i64 to,.string text] wx fun e w'=>e=.returned (.int .i64 (zP N.self to text))∧w'=wx):=by
  intro wx f
  obtain⟨kv,hv,ents,ha,_⟩:=HLA.out wx f
  have hb:=ha.blk
  rw[hself] at hb
  exact Xo q N.self kv hv to text wx hb
 have HLT5:=Z hlt5
 have HCK:Hid (∀ wx,Fr Nil w5 wx→∀ k,wx.cell? ⟨w.heap.size,k,none⟩=([.int .i64 7,.int .i64 to,.int .i64 b,.int .i64 c,.string key,.string text,.int .i64 v.node,.int .i64 v.seq,.int .i64 v.o0,.int .i64 v.o1,.int .i64 v.o2,.int .i64 v.o3,.string v.value,.bool v.gone,tails]:List Value)[k]?):=fun wx f=>(HX4.out _ _ _ _ _ _ _ (HP5.out.trans (HP5.out.rep.nil f))).1
 clear hcc hlast hlt5 hqq hlm HK HACC
 have hz5:=HCK.out w5 (G _ _)
 go_wp2_with fail
 go_region_held3 (fun w'=>∀ k,w'.cell? ⟨w.heap.size,k,none⟩=([.int .i64 7,.int .i64 to,.int .i64 b,.int .i64 c,.string key,.string text,.int .i64 v.node,.int .i64 v.seq,.int .i64 v.o0,.int .i64 v.o1,.int .i64 v.o2,.int .i64 v.o3,.string v.value,.bool v.gone,tails]:List Value)[k]?) (first|assumption|go_keep)
  (first
  | (go_at_call 113;refine(HBV.out _ (by repeat' first|(with_reducible first|apply G|assumption|apply O|apply U|apply V|apply z6)|(intro _;rfl))).mono ?_;rintro e w8 ⟨rfl,hw8⟩;have hF8:Fr Nil w5 w8:=by rw[hw8];exact(by repeat' first|(with_reducible first|apply G|assumption|apply O|apply U|apply V|apply z6)|(intro _;rfl))
     have HF8:=Z hF8;have hz8:=HCK.out w8 hF8;clear hF8 hw8)
  | (go_at_call 107;refine(HNOW.out _ (by repeat' first|(with_reducible first|apply G|assumption|apply O|apply U|apply V|apply z6)|(intro _;rfl))).mono ?_;rintro e w9 ⟨rfl,n9,hw9⟩;subst w9))
 have hq:=HCA.out f (Nat.le_trans HF34.out.size HFF.out)
 rw[hq.1]
 obtain⟨M5,hM5⟩:∃ M5,M5=(N.hint M to text f).2.2:=⟨_,rfl⟩
 obtain⟨N5,hN5⟩:∃ N5,N5=(N.hint M to text f).2.1:=⟨_,rfl⟩
 rw[← hM5,← hN5] at HP5
 rw[← hM5] at hq
 have HEQ:=Z (And.intro hN5 hM5)
 have HQ:=Z hq
 clear hN5 hM5 hq
 clear hbad
 have h8:=HP5.out.trans (HP5.out.rep.nil HF8.out)
 have hc8:=h8.rep.wat.blk.cell
 simp only[WM.cells,HBR.out] at hc8
 have HP8:=Z h8
 have HACK:Hid (∀ wx,Fr Nil w8 wx→Calls Tryz.prog 114 #[.pointer (some ⟨q,0,none⟩)] wx fun e w'=>∃ pv n,e=.returned (.tuple #[.pointer pv,.int .i64 n])∧Fr Nil wx w'):=by
  intro wx f
  refine(Xw K q m wx (HLA.out wx (HF8.out.trans f)) HHL.out).mono ?_
  intro e w' h
  rcases h with⟨_,h,h2⟩|⟨_,nb,h,_,h2,_⟩
  ·exact⟨_,_,h,h2⟩
  ·exact⟨_,_,h,h2⟩
 have HHM:Hid (∀ wx,Fr Nil w8 wx→Calls Tryz.prog 115 #[.pointer (some ⟨q,0,none⟩),.int .i64 to,.string text] wx fun e w'=>∃ nb,e=.returned (.tuple #[.pointer (some ⟨nb,0,none⟩),.int .i64 0])∧MRep (KGr K wx w') w' nb (m.hint to text)∧Fr Nil wx w'∧wx.heap.size≤nb):=by
  intro wx f
  refine(VK K q m to text wx (HLA.out wx (HF8.out.trans f)) HHL.out).mono ?_
  intro e w' h
  rcases h with⟨h0,h⟩|⟨h0,h⟩
  ·exact absurd h0 (by have:=HMY.out;omega)
  ·exact h
 clear h8
 go_wp2_with fail
 clear hc8
 refine(HNOW.out _ HF8.out).mono ?_
 rintro e w9 ⟨rfl,n9,hw9⟩
 subst w9
 go_wp2_with fail
 refine(HACK.out _ (by exact(by repeat' first|(with_reducible first|apply G|assumption|apply O|apply U|apply V|apply z6)|(intro _;rfl)))).mono ?_
 rintro e w9 ⟨pv,na,rfl,hf9⟩
 have hF9:Fr Nil w8 w9:=Fr.trans (by exact(by repeat' first|(with_reducible first|apply G|assumption|apply O|apply U|apply V|apply z6)|(intro _;rfl))) hf9
 have HF9:=Z hF9
 have hz9:=HCK.out w9 (HF8.out.trans hF9)
 clear hz8 hf9 hF9
 go_wp2_with fail
 go_region_held3 (fun w'=>∀ k,w'.cell? ⟨w.heap.size,k,none⟩=([.int .i64 7,.int .i64 to,.int .i64 b,.int .i64 c,.string key,.string text,.int .i64 v.node,.int .i64 v.seq,.int .i64 v.o0,.int .i64 v.o1,.int .i64 v.o2,.int .i64 v.o3,.string v.value,.bool v.gone,tails]:List Value)[k]?) (first|assumption|go_keep)
  (first
  | (go_at_call 115;refine(HHM.out _ (HF9.out.trans (by exact(by repeat' first|(with_reducible first|apply G|assumption|apply O|apply U|apply V|apply z6)|(intro _;rfl))))).mono ?_;rintro e w10 ⟨nb,rfl,hr10,hf10,hn10⟩;have hF10:Fr Nil w8 w10:=(HF9.out.trans (by exact(by repeat' first|(with_reducible first|apply G|assumption|apply O|apply U|apply V|apply z6)|(intro _;rfl)))).trans hf10;have hz10:=HCK.out w10 (HF8.out.trans hF10);have HR10:=Z hr10;have HP10:=Z (HP8.out.trans ((HP8.out.rep.nil (HF9.out.trans (by exact(by repeat' first|(with_reducible first|apply G|assumption|apply O|apply U|apply V|apply z6)|(intro _;rfl))))).trans ((HP8.out.rep.nil (HF9.out.trans (by exact(by repeat' first|(with_reducible first|apply G|assumption|apply O|apply U|apply V|apply z6)|(intro _;rfl))))).rep.gr hf10)));have HN10:=Z hn10;clear hf10 hF10 hr10 hn10)
  | (go_at_call 107;refine(HNOW.out _ (HF8.out.trans (HF9.out.trans (by exact(by repeat' first|(with_reducible first|apply G|assumption|apply O|apply U|apply V|apply z6)|(intro _;rfl)))))).mono ?_;rintro e w10 ⟨rfl,n10,hw10⟩;subst w10))
 clear hz10
 have HEND:=Z (Xi _ L _ X5.LD M5 nb (m.hint to text) fr M.fulls _ HP10.out.rep.wat HP10.out.rep.marks hp (by omega) HR10.out (by rw[← HQQ.out];have h1:=HLT5.out;have h2:w9.heap.size≤nb:=HN10.out;have h3:=HF8.out.size;have h4:=HF9.out.size;omega) (by omega))
 rw[HQ.out.2] at HEND
 have hcm:=(HX4.out _ _ _ _ _ _ _ HP10.out).2
 clear HNOW HACK HHM
 go_wp2_with fail
 refine HEND.out.mono ?_
 rintro e w11 ⟨rfl,L11,hs11,hps11⟩
 have HS11:=Z hs11
 have HPS:=Z hps11
 clear hs11 hps11
 go_wp2_with fail
 go_ret
 have h:=(HH.out.nil HF34.out).trans (HP10.out.trans (HP10.out.rep.turn HS11.out))
 rw[HEQ.out.1,HEQ.out.2] at h
 exact⟨rfl,f,_,L11,X5,Nat.le_trans HF34.out.size HFF.out,HPS.out,h⟩
theorem OV(herr:zr)(K:Nat→Prop)(B:Nat)(L:WL)(W:WM)(X:NL)(N:NM)(M:DM)(o:OpM)(w:World)(h:Play K B w L W X N M)(hk:o.kind=9)(hbr:W.broken=false)(hp:0<L.ps.length)(hl:L.ps.length<1000000)
  (hfit:∀ H,w.heap.size≤H→Fit N M H (.inr (.inr (.inr ()))))
  (m:LM)(hm:W.st[L.ps.length-1]?=some m)
  (hhl:m.hints.length<1000000)(hro:N.readOnly=false)(hmany:m.hints=[])(hmh:N.S.hints.length=m.hints.length) :
  Calls Tryz.prog 63 #[.pointer (some ⟨L.wb,0,none⟩),.agg o.cells.toArray] w fun e w'=>e=.returned (.bool true)∧∃ X',PStep K B L X M w K L W X' N M w':=by
 obtain⟨kind,a,b,c,key,text,v,tails⟩:=o
 simp only at hk hfit ⊢
 subst hk
 have HPB:=Z (fun f=>by unfold NM.ack;rw[if_neg (by rw[hro];decide),if_pos (by rw[hmh,hmany];rfl)]:∀ f,N.ack M f=(7,N,M))
 have HHL:=Z hhl
 have HMY:=Z hmany
 clear hhl hmany hmh hro
 simp only[OpM.cells,Ver.cells,List.cons_append,List.nil_append]
 have f1:Fr Nil w (w.alloc (.cells #[.int .i64 9,.int .i64 a,.int .i64 b,.int .i64 c,.string key,.string text,.int .i64 v.node,.int .i64 v.seq,.int .i64 v.o0,.int .i64 v.o1,.int .i64 v.o2,.int .i64 v.o3,.string v.value,.bool v.gone,tails] 39)):=(G _ _).alloc _
 have hb1:=Blk.new w [.int .i64 9,.int .i64 a,.int .i64 b,.int .i64 c,.string key,.string text,.int .i64 v.node,.int .i64 v.seq,.int .i64 v.o0,.int .i64 v.o1,.int .i64 v.o2,.int .i64 v.o3,.string v.value,.bool v.gone,tails] 39
 have HM:=Z (fun wx (f:Fr Nil w wx)=>zQ K L W X.LD M wx (h.wat.nil f) ((h.marks).nil f))
 have HF:=Z (fun wx (f:Fr Nil w wx)=>Z2 K L W X.LD M wx (h.wat.nil f) ((h.marks).nil f))
 have HC:=Z (fun wx (f:Fr Nil w wx)=>zq wx L.db X.LD M ((h.marks).nil f))
 have hc1:=hb1.cell
 have HF1:=Z f1
 have HB1:=Z hb1
 have HH:=Z h
 have HFI:=Z hfit
 have HBR:=Z hbr
 clear h f1 hb1 hfit hbr
 go_enter Tryz.func63,Tryz.ntmps63
 go_wp2_with fail
 generalize hwa:w.alloc (.cells #[.int .i64 9,.int .i64 a,.int .i64 b,.int .i64 c,.string key,.string text,.int .i64 v.node,.int .i64 v.seq,.int .i64 v.o0,.int .i64 v.o1,.int .i64 v.o2,.int .i64 v.o3,.string v.value,.bool v.gone,tails] 39)=wa at hc1 HF1 HB1 ⊢
 have HBX:Hid (∀ wx,Fr (fun k=>k<w.heap.size) wa wx→∀ k,wx.cell? ⟨w.heap.size,k,none⟩=wa.cell? ⟨w.heap.size,k,none⟩):=fun wx f k=>((HB1.out.fr f (Nat.lt_irrefl _)).cell k).trans (HB1.out.cell k).symm
 have HC1:=Z hc1
 have HLT:Hid (w.heap.size<wa.heap.size):=HB1.out.lt
 clear hwa HB1
 refine(HM.out wa HF1.out).mono ?_
 rintro e w2 ⟨rfl,f2⟩
 have f02:Fr Nil w w2:=HF1.out.trans f2
 have hlt2:w.heap.size<w2.heap.size:=by have:=HLT.out;have:=f2.size;omega
 have F2:=Z f2
 have f3:Fr Nil w (w2.alloc (.cells #[.int .i64 M.refused,.int .i64 M.fulls] 111)):=f02.alloc _
 have hb3:=Blk.new w2 [.int .i64 M.refused,.int .i64 M.fulls] 111
 have hc3:=(HH.out.wat.nil f3).blk.cell
 simp only[WM.cells] at hc3
 have F02:=Z f02
 have HLT2:=Z hlt2
 have F3:=Z f3
 have HB3:=Z hb3
 clear f2 f02 hlt2 f3 hb3 hc1
 go_wp2_with (refine(HC.out _ F3.out).mono ?_;rintro e wx ⟨rfl,hwx⟩;subst wx)
 refine(HF.out _ F3.out).mono ?_
 rintro e w4 ⟨rfl,f4⟩
 have f34:Fr Nil w w4:=F3.out.trans f4
 have h4:=(HH.out.nil f34).rep
 have HF34:=Z f34
 have HF4:=Z f4
 have H4:=Z h4
 clear f34 f4 h4 hc3
 generalize IntKind.i64.wrap ((if W.room<0 then 1152921504606846976 else W.room)-M.used)=fr
 have HACC:=Z (fun wx (f:Fr Nil w4 wx)=>TI herr B X N M wx (H4.out.node.nil f) (H4.out.env.nil f) (HFI.out _ (HF34.out.trans f).size))
 have HX4:Hid (∀ wx K' L' W' X' N' M',PStep K B L X M w4 K' L' W' X' N' M' wx→(∀ k,wx.cell? ⟨w.heap.size,k,none⟩=([.int .i64 9,.int .i64 a,.int .i64 b,.int .i64 c,.string key,.string text,.int .i64 v.node,.int .i64 v.seq,.int .i64 v.o0,.int .i64 v.o1,.int .i64 v.o2,.int .i64 v.o3,.string v.value,.bool v.gone,tails]:List Value)[k]?)∧(∀ k,wx.cell? ⟨w2.heap.size,k,none⟩=[Value.int .i64 M.refused,.int .i64 M.fulls][k]?)):=by
  intro wx K' L' W' X' N' M' s
  have fl:Fr (fun k=>k<w.heap.size) w4 wx:=s.fr.mono (fun k _ e=>HH.out.lt e)
  refine⟨fun k=>(HBX.out wx ((((F2.out.alloc _).trans HF4.out).mono (S':=fun k=>k<w.heap.size) (fun _ _ e=>absurd e id)).trans' fl (fun _ _ e=>e)) k).trans (HC1.out k),?_⟩
  exact(HB3.out.fr ((HF4.out.mono (S':=fun k=>k<w.heap.size) (fun _ _ e=>absurd e id)).trans' fl (fun _ _ e=>e)) (by have:=HLT2.out;omega)).cell
 have HK:Hid (∀ wx w' X' N' M',Fr Nil w4 wx→NStep X M wx X' N' M' w'→w'.cell? ⟨L.wb,5,none⟩=some (.pointer (some ⟨X.nb,0,none⟩))∧∀ k,w'.cell? ⟨w.heap.size,k,none⟩=([.int .i64 9,.int .i64 a,.int .i64 b,.int .i64 c,.string key,.string text,.int .i64 v.node,.int .i64 v.seq,.int .i64 v.o0,.int .i64 v.o1,.int .i64 v.o2,.int .i64 v.o3,.string v.value,.bool v.gone,tails]:List Value)[k]?):=by
  intro wx w' X' N' M' f s
  have hp:=(H4.out.nil f).trans ((H4.out.nil f).rep.call s)
  refine⟨(hp.rep.wat.blk.cell 5).trans ?_,(HX4.out _ _ _ _ _ _ _ hp).1⟩
  show some L.nv=_
  rw[HH.out.nv]
 have hcc:=HK.out w4 w4 X N M (G _ _) (NStep.nil H4.out.node (G _ _))
 go_wp2_with fail
 refine(HACC.out _ (G _ _)).mono ?_
 rintro e w5 ⟨f,X5,rfl,hf5,hs5⟩
 have HS5:=Z hs5
 have HFF:=Z hf5
 clear hs5 hf5
 have HP5:=Z (H4.out.call HS5.out)
 have hple:L.ps.length=W.st.length:=HH.out.wat.ple
 have hlm:W.st[L.ps.length-1]'(by omega)=m:=by rw[List.getElem?_eq_getElem (by omega)] at hm;exact Option.some.inj hm
 have hlast:=(HP5.out.rep.wat.last hp).2
 simp only[hlm] at hlast
 have HNOW:=Z (fun wx (f:Fr Nil w5 wx)=>zV K L _ wx (HP5.out.rep.wat.nil f) hp (by omega))
 have hlt5:L.ps[L.ps.length-1]<w5.heap.size:=by obtain⟨c0,hb0⟩:=hlast.blk;exact hb0.lt
 obtain⟨q,hqq⟩:∃ q,q=L.ps[L.ps.length-1]:=⟨_,rfl⟩
 rw[← hqq] at hlast hlt5 HNOW
 have HQQ:=Z hqq
 have HLA:Hid (∀ wx,Fr Nil w5 wx→MRep K wx q m):=fun wx f=>hlast.keep (zI.of_fr f (fun k e=>⟨(HP5.out.rep.wat.keep k e).1,id⟩)) (fun _ e=>e)
 have HLT5:=Z hlt5
 have HCK:Hid (∀ wx,Fr Nil w5 wx→∀ k,wx.cell? ⟨w.heap.size,k,none⟩=([.int .i64 9,.int .i64 a,.int .i64 b,.int .i64 c,.string key,.string text,.int .i64 v.node,.int .i64 v.seq,.int .i64 v.o0,.int .i64 v.o1,.int .i64 v.o2,.int .i64 v.o3,.string v.value,.bool v.gone,tails]:List Value)[k]?):=fun wx f=>(HX4.out _ _ _ _ _ _ _ (HP5.out.trans (HP5.out.rep.nil f))).1
 clear hcc hlast hlt5 hqq hlm HK HACC
 have hz5:=HCK.out w5 (G _ _)
 have hc5:=HP5.out.rep.wat.blk.cell
 simp only[WM.cells,HBR.out] at hc5
 rw[HPB.out f] at HP5 ⊢
 have HACK:Hid (∀ wx,Fr Nil w5 wx→Calls Tryz.prog 114 #[.pointer (some ⟨q,0,none⟩)] wx fun e w'=>e=.returned (.tuple #[.pointer none,.int .i64 7])∧Fr Nil wx w'):=by
  intro wx f
  refine(Xw K q m wx (HLA.out wx f) HHL.out).mono ?_
  intro e w' h
  rcases h with⟨_,h⟩|⟨h0,h⟩
  ·exact h
  ·exact absurd HMY.out h0
 go_wp2_with fail
 clear hc5
 refine(HNOW.out _ (G _ _)).mono ?_
 rintro e w9 ⟨rfl,n9,hw9⟩
 subst w9
 go_wp2_with fail
 refine(HACK.out _ (by exact(by repeat' first|(with_reducible first|apply G|assumption|apply O|apply U|apply V|apply z6)|(intro _;rfl)))).mono ?_
 rintro e w10 ⟨rfl,hf10⟩
 have hF10:Fr Nil w5 w10:=Fr.trans (by exact(by repeat' first|(with_reducible first|apply G|assumption|apply O|apply U|apply V|apply z6)|(intro _;rfl))) hf10
 have HF10:=Z hF10
 have hz10:=HCK.out w10 hF10
 have HQT:=Z (fun wx (f:Fr Nil w10 wx)=>ZE K L W X5.LD M 7 7 M.calls wx (HP5.out.rep.wat.nil (HF10.out.trans f)) (HP5.out.rep.marks.nil (HF10.out.trans f)))
 simp only[and_self,decide_true] at HQT
 clear hz5 hf10 hF10
 go_wp2_with fail
 refine(HQT.out _ (by exact(by repeat' first|(with_reducible first|apply G|assumption|apply O|apply U|apply V|apply z6)|(intro _;rfl)))).mono ?_
 rintro e wx ⟨rfl,hwx⟩
 subst wx
 go_wp2_with fail
 go_ret
 exact⟨rfl,X5,(HH.out.nil HF34.out).trans (HP5.out.trans (HP5.out.rep.nil (HF10.out.trans (by exact(by repeat' first|(with_reducible first|apply G|assumption|apply O|apply U|apply V|apply z6)|(intro _;rfl))))))⟩
theorem OW(herr:zr)(K:Nat→Prop)(B:Nat)(L:WL)(W:WM)(X:NL)(N:NM)(M:DM)(o:OpM)(w:World)(h:Play K B w L W X N M)(hk:o.kind=9)(hbr:W.broken=false)(hp:0<L.ps.length)(hl:L.ps.length<1000000)
  (hfit:∀ H,w.heap.size≤H→Fit N M H (.inr (.inr (.inr ()))))
  (m:LM)(hm:W.st[L.ps.length-1]?=some m)
  (hhl:m.hints.length<1000000)(hsome:m.hints≠[])(hwr:W.writes<100000000)(hcalm:∀ f,w.heap.size≤f→(N.ack M f).1=0∧(N.ack M f).2.2.refused=M.refused) :
  Calls Tryz.prog 63 #[.pointer (some ⟨L.wb,0,none⟩),.agg o.cells.toArray] w fun e w'=>e=.returned (.bool true)∧∃ f K' L' X',w.heap.size≤f∧L'.ps≠[]∧PStep K B L X M w K' L' (W.took m.ack) X' (N.ack M f).2.1 (N.ack M f).2.2 w':=by
 obtain⟨kind,a,b,c,key,text,v,tails⟩:=o
 simp only at hk hfit hcalm ⊢
 subst hk
 have HHL:=Z hhl
 have HMY:=Z hsome
 have HCA:=Z hcalm
 clear hhl hsome hcalm
 simp only[OpM.cells,Ver.cells,List.cons_append,List.nil_append]
 have f1:Fr Nil w (w.alloc (.cells #[.int .i64 9,.int .i64 a,.int .i64 b,.int .i64 c,.string key,.string text,.int .i64 v.node,.int .i64 v.seq,.int .i64 v.o0,.int .i64 v.o1,.int .i64 v.o2,.int .i64 v.o3,.string v.value,.bool v.gone,tails] 39)):=(G _ _).alloc _
 have hb1:=Blk.new w [.int .i64 9,.int .i64 a,.int .i64 b,.int .i64 c,.string key,.string text,.int .i64 v.node,.int .i64 v.seq,.int .i64 v.o0,.int .i64 v.o1,.int .i64 v.o2,.int .i64 v.o3,.string v.value,.bool v.gone,tails] 39
 have HM:=Z (fun wx (f:Fr Nil w wx)=>zQ K L W X.LD M wx (h.wat.nil f) ((h.marks).nil f))
 have HF:=Z (fun wx (f:Fr Nil w wx)=>Z2 K L W X.LD M wx (h.wat.nil f) ((h.marks).nil f))
 have HC:=Z (fun wx (f:Fr Nil w wx)=>zq wx L.db X.LD M ((h.marks).nil f))
 have hc1:=hb1.cell
 have HF1:=Z f1
 have HB1:=Z hb1
 have HH:=Z h
 have HFI:=Z hfit
 have HBR:=Z hbr
 clear h f1 hb1 hfit hbr
 go_enter Tryz.func63,Tryz.ntmps63
 go_wp2_with fail
 generalize hwa:w.alloc (.cells #[.int .i64 9,.int .i64 a,.int .i64 b,.int .i64 c,.string key,.string text,.int .i64 v.node,.int .i64 v.seq,.int .i64 v.o0,.int .i64 v.o1,.int .i64 v.o2,.int .i64 v.o3,.string v.value,.bool v.gone,tails] 39)=wa at hc1 HF1 HB1 ⊢
 have HBX:Hid (∀ wx,Fr (fun k=>k<w.heap.size) wa wx→∀ k,wx.cell? ⟨w.heap.size,k,none⟩=wa.cell? ⟨w.heap.size,k,none⟩):=fun wx f k=>((HB1.out.fr f (Nat.lt_irrefl _)).cell k).trans (HB1.out.cell k).symm
 have HC1:=Z hc1
 have HLT:Hid (w.heap.size<wa.heap.size):=HB1.out.lt
 clear hwa HB1
 refine(HM.out wa HF1.out).mono ?_
 rintro e w2 ⟨rfl,f2⟩
 have f02:Fr Nil w w2:=HF1.out.trans f2
 have hlt2:w.heap.size<w2.heap.size:=by have:=HLT.out;have:=f2.size;omega
 have F2:=Z f2
 have f3:Fr Nil w (w2.alloc (.cells #[.int .i64 M.refused,.int .i64 M.fulls] 111)):=f02.alloc _
 have hb3:=Blk.new w2 [.int .i64 M.refused,.int .i64 M.fulls] 111
 have hc3:=(HH.out.wat.nil f3).blk.cell
 simp only[WM.cells] at hc3
 have F02:=Z f02
 have HLT2:=Z hlt2
 have F3:=Z f3
 have HB3:=Z hb3
 clear f2 f02 hlt2 f3 hb3 hc1
 go_wp2_with (refine(HC.out _ F3.out).mono ?_;rintro e wx ⟨rfl,hwx⟩;subst wx)
 refine(HF.out _ F3.out).mono ?_
 rintro e w4 ⟨rfl,f4⟩
 have f34:Fr Nil w w4:=F3.out.trans f4
 have h4:=(HH.out.nil f34).rep
 have HF34:=Z f34
 have HF4:=Z f4
 have H4:=Z h4
 clear f34 f4 h4 hc3
 generalize IntKind.i64.wrap ((if W.room<0 then 1152921504606846976 else W.room)-M.used)=fr
 have HACC:=Z (fun wx (f:Fr Nil w4 wx)=>TI herr B X N M wx (H4.out.node.nil f) (H4.out.env.nil f) (HFI.out _ (HF34.out.trans f).size))
 have HX4:Hid (∀ wx K' L' W' X' N' M',PStep K B L X M w4 K' L' W' X' N' M' wx→(∀ k,wx.cell? ⟨w.heap.size,k,none⟩=([.int .i64 9,.int .i64 a,.int .i64 b,.int .i64 c,.string key,.string text,.int .i64 v.node,.int .i64 v.seq,.int .i64 v.o0,.int .i64 v.o1,.int .i64 v.o2,.int .i64 v.o3,.string v.value,.bool v.gone,tails]:List Value)[k]?)∧(∀ k,wx.cell? ⟨w2.heap.size,k,none⟩=[Value.int .i64 M.refused,.int .i64 M.fulls][k]?)):=by
  intro wx K' L' W' X' N' M' s
  have fl:Fr (fun k=>k<w.heap.size) w4 wx:=s.fr.mono (fun k _ e=>HH.out.lt e)
  refine⟨fun k=>(HBX.out wx ((((F2.out.alloc _).trans HF4.out).mono (S':=fun k=>k<w.heap.size) (fun _ _ e=>absurd e id)).trans' fl (fun _ _ e=>e)) k).trans (HC1.out k),?_⟩
  exact(HB3.out.fr ((HF4.out.mono (S':=fun k=>k<w.heap.size) (fun _ _ e=>absurd e id)).trans' fl (fun _ _ e=>e)) (by have:=HLT2.out;omega)).cell
 have HK:Hid (∀ wx w' X' N' M',Fr Nil w4 wx→NStep X M wx X' N' M' w'→w'.cell? ⟨L.wb,5,none⟩=some (.pointer (some ⟨X.nb,0,none⟩))∧∀ k,w'.cell? ⟨w.heap.size,k,none⟩=([.int .i64 9,.int .i64 a,.int .i64 b,.int .i64 c,.string key,.string text,.int .i64 v.node,.int .i64 v.seq,.int .i64 v.o0,.int .i64 v.o1,.int .i64 v.o2,.int .i64 v.o3,.string v.value,.bool v.gone,tails]:List Value)[k]?):=by
  intro wx w' X' N' M' f s
  have hp:=(H4.out.nil f).trans ((H4.out.nil f).rep.call s)
  refine⟨(hp.rep.wat.blk.cell 5).trans ?_,(HX4.out _ _ _ _ _ _ _ hp).1⟩
  show some L.nv=_
  rw[HH.out.nv]
 have hcc:=HK.out w4 w4 X N M (G _ _) (NStep.nil H4.out.node (G _ _))
 go_wp2_with fail
 refine(HACC.out _ (G _ _)).mono ?_
 rintro e w5 ⟨f,X5,rfl,hf5,hs5⟩
 have HS5:=Z hs5
 have HFF:=Z hf5
 clear hs5 hf5
 have HP5:=Z (H4.out.call HS5.out)
 have hple:L.ps.length=W.st.length:=HH.out.wat.ple
 have hlm:W.st[L.ps.length-1]'(by omega)=m:=by rw[List.getElem?_eq_getElem (by omega)] at hm;exact Option.some.inj hm
 have hlast:=(HP5.out.rep.wat.last hp).2
 simp only[hlm] at hlast
 have HNOW:=Z (fun wx (f:Fr Nil w5 wx)=>zV K L _ wx (HP5.out.rep.wat.nil f) hp (by omega))
 have hlt5:L.ps[L.ps.length-1]<w5.heap.size:=by obtain⟨c0,hb0⟩:=hlast.blk;exact hb0.lt
 obtain⟨q,hqq⟩:∃ q,q=L.ps[L.ps.length-1]:=⟨_,rfl⟩
 rw[← hqq] at hlast hlt5 HNOW
 have HQQ:=Z hqq
 have HLA:Hid (∀ wx,Fr Nil w5 wx→MRep K wx q m):=fun wx f=>hlast.keep (zI.of_fr f (fun k e=>⟨(HP5.out.rep.wat.keep k e).1,id⟩)) (fun _ e=>e)
 have HLT5:=Z hlt5
 have HCK:Hid (∀ wx,Fr Nil w5 wx→∀ k,wx.cell? ⟨w.heap.size,k,none⟩=([.int .i64 9,.int .i64 a,.int .i64 b,.int .i64 c,.string key,.string text,.int .i64 v.node,.int .i64 v.seq,.int .i64 v.o0,.int .i64 v.o1,.int .i64 v.o2,.int .i64 v.o3,.string v.value,.bool v.gone,tails]:List Value)[k]?):=fun wx f=>(HX4.out _ _ _ _ _ _ _ (HP5.out.trans (HP5.out.rep.nil f))).1
 clear hcc hlast hlt5 hqq hlm HK HACC
 have hz5:=HCK.out w5 (G _ _)
 have hc5:=HP5.out.rep.wat.blk.cell
 simp only[WM.cells,HBR.out] at hc5
 have hq:=HCA.out f (Nat.le_trans HF34.out.size HFF.out)
 rw[hq.1]
 obtain⟨M5,hM5⟩:∃ M5,M5=(N.ack M f).2.2:=⟨_,rfl⟩
 obtain⟨N5,hN5⟩:∃ N5,N5=(N.ack M f).2.1:=⟨_,rfl⟩
 rw[← hM5,← hN5] at HP5
 rw[← hM5] at hq
 have HEQ:=Z (And.intro hN5 hM5)
 have HQ:=Z hq
 clear hN5 hM5 hq
 have HACK:Hid (∀ wx,Fr Nil w5 wx→Calls Tryz.prog 114 #[.pointer (some ⟨q,0,none⟩)] wx fun e w'=>∃ nb,e=.returned (.tuple #[.pointer (some ⟨nb,0,none⟩),.int .i64 0])∧MRep (KGr K wx w') w' nb m.ack∧Fr Nil wx w'∧wx.heap.size≤nb):=by
  intro wx f
  refine(Xw K q m wx (HLA.out wx f) HHL.out).mono ?_
  intro e w' h
  rcases h with⟨h0,h⟩|⟨_,h⟩
  ·exact absurd h0 HMY.out
  ·exact h
 go_wp2_with fail
 clear hc5
 refine(HNOW.out _ (G _ _)).mono ?_
 rintro e w9 ⟨rfl,n9,hw9⟩
 subst w9
 go_wp2_with fail
 refine(HACK.out _ (by exact(by repeat' first|(with_reducible first|apply G|assumption|apply O|apply U|apply V|apply z6)|(intro _;rfl)))).mono ?_
 rintro e w10 ⟨nb,rfl,hr10,hf10,hn10⟩
 have hF10:Fr Nil w5 w10:=Fr.trans (by exact(by repeat' first|(with_reducible first|apply G|assumption|apply O|apply U|apply V|apply z6)|(intro _;rfl))) hf10
 have hz10:=HCK.out w10 hF10
 have HR10:=Z hr10
 have HP10:=Z (HP5.out.trans ((HP5.out.rep.nil (by exact(by repeat' first|(with_reducible first|apply G|assumption|apply O|apply U|apply V|apply z6)|(intro _;rfl)))).trans ((HP5.out.rep.nil (by exact(by repeat' first|(with_reducible first|apply G|assumption|apply O|apply U|apply V|apply z6)|(intro _;rfl)))).rep.gr hf10)))
 have HN10:=Z hn10
 clear hz5 hf10 hF10 hr10 hn10
 have HEND:=Z (Xi _ L _ X5.LD M5 nb m.ack fr M.fulls _ HP10.out.rep.wat HP10.out.rep.marks hp (by omega) HR10.out (by rw[← HQQ.out];have h1:=HLT5.out;have h2:w5.heap.size≤nb:=HN10.out;omega) (by omega))
 rw[HQ.out.2] at HEND
 have hcm:=(HX4.out _ _ _ _ _ _ _ HP10.out).2
 clear HNOW HACK
 go_wp2_with fail
 refine HEND.out.mono ?_
 rintro e w11 ⟨rfl,L11,hs11,hps11⟩
 have HS11:=Z hs11
 have HPS:=Z hps11
 clear hs11 hps11
 go_wp2_with fail
 go_ret
 have h:=(HH.out.nil HF34.out).trans (HP10.out.trans (HP10.out.rep.turn HS11.out))
 rw[HEQ.out.1,HEQ.out.2] at h
 exact⟨rfl,f,_,L11,X5,Nat.le_trans HF34.out.size HFF.out,HPS.out,h⟩
theorem WD(K:Nat→Prop)(L:WL)(W:WM)(w:World)(h:WAt K w L W)(hb:W.base<100000000)(hn:W.next<100000000) :
  Calls Tryz.prog 161 #[.pointer (some ⟨L.wb,15,none⟩)] w fun e w'=>e=.returned (.int .i64 ((W.base+W.next+1:Nat):Int))∧WStep K L w L {W with next:=W.next+1} w':=by
 have hc:=h.blk.cell
 simp only[WM.cells] at hc
 have hz:=h.blk.frozen
 have hw1:IntKind.i64.wrap ((W.next:Int)+1)=(W.next:Int)+1:=by rw[IntKind.wrap_i64];omega
 have hw2:IntKind.i64.wrap ((W.base:Int)+((W.next:Int)+1))=((W.base+W.next+1:Nat):Int):=by rw[IntKind.wrap_i64];push_cast;omega
 have HS:=Z (WStep.set h 16 (.int .i64 ((W.next:Int)+1)) (L':=L) (W':={W with next:=W.next+1}) (by simp[WM.cells]) rfl rfl rfl rfl rfl rfl rfl rfl rfl rfl rfl rfl rfl)
 clear h
 go_enter Tryz.func161,Tryz.ntmps161
 go_wp2_with fail
 generalize w.setCell ⟨L.wb,16,none⟩ (.int .i64 ((W.next:Int)+1))=w2 at HS ⊢
 have hc2:∀ n k,(w2.drewN n).cell? ⟨L.wb,k,none⟩=(({W with next:=W.next+1}:WM).cells L)[k]?:=fun n=>(HS.out.rep.blk.drewN n).cell
 simp only[WM.cells] at hc2
 push_cast at hc2
 clear hc hz
 go_quiet (fail)
 go_wp2
 go_ret
 exact⟨rfl,HS.out.trans (WStep.nil HS.out.rep (by exact(by repeat' first|(with_reducible first|apply G|assumption|apply O|apply U|apply V|apply z6)|(intro _;rfl))))⟩
def divs(m:Nat):Nat→Nat
 | 0=>m
 | k+1=>divs m k / 16
def Xx(m:Nat):Nat→ByteArray
 | 0=>⟨#[35]⟩
 | k+1=>Xx m k++zh [ZG (divs m k)]
theorem MS(m k:Nat):divs m k≤m:=by
 induction k with
 | zero=>exact Nat.le_refl _
 | succ k ih=>exact Nat.le_trans (Nat.div_le_self _ _) ih
theorem TX(x:UInt8):(zh [x]).size=1:=rfl
theorem PT(m k:Nat):(Xx m k).size=k+1:=by
 induction k with
 | zero=>rfl
 | succ k ih=>rw[Xx,ByteArray.size_append,ih,TX]
theorem Mh(m:Nat):ZL m=Xx m 6:=by
 apply ByteArray.ext
 simp[ZL,Xx,divs,zh,ByteArray.data_append]
theorem PU(m:Nat):(ZG m).toNat=97+m%16:=by
 unfold ZG
 rw[UInt8.toNat_ofNat_of_lt' (show _<256 by omega)]
theorem Mi(wy:World)(x:UInt8):(convert 150 9 (.slice (some ⟨wy.heap.size,0,none⟩) 1 1)).run Tryz.prog (wy.alloc (.cells #[.int .u8 (x.toNat:Int)] 5))=.ok (.string (zh [x])) (wy.alloc (.cells #[.int .u8 (x.toNat:Int)] 5)):=by
 have ho:(wy.alloc (.cells #[.int .u8 (x.toNat:Int)] 5)).ownsRow 0 5 1 (.slice (some ⟨wy.heap.size,0,none⟩) 1 1) 1 (u8s [x]):=Zj (cap:=1) (Blk.new wy [.int .u8 (x.toNat:Int)] 5) (Nat.le_refl _) (by decide) rfl rfl
 exact VU Tryz.underlying150 Tryz.underlying5 Tryz.underlying9 ho 0 1 1 (by simp)
theorem WE(m:Nat)(w:World)(hm:m<1000000000000) :
  Calls Tryz.prog 66 #[.int .i64 m] w fun e w'=>e=.returned (.string (ZL m))∧Fr Nil w w':=by
 have HE:=Z (Mh m)
 go_enter Tryz.func66,Tryz.ntmps66
 go_wp2_with fail
 go_loopw [0,3,4] (fun t0 t3 t4 w'=>∃ k:Nat,k≤6∧t0=.int .i64 (divs m k)∧t3=.string (Xx m k)∧t4=.int .i64 k∧Fr Nil w w') (fun _ _ t4 _=>6-(intOf t4).toNat)
 case atStart=>exact⟨0,by omega,rfl,rfl,rfl,G _ _⟩
 case round =>
  obtain⟨k,hk,rfl,rfl,rfl,hf⟩:=hrel
  by_cases hlt:k<6
  ·have hd:=MS m k
   have hst:divs m (k+1)=divs m k / 16:=rfl
   have hwd:Xx m (k+1)=Xx m k++zh [ZG (divs m k)]:=rfl
   have HST:=Z (And.intro hst hwd)
   have hwc:IntKind.u8.wrap (97+(divs m k:Int)%16)=((ZG (divs m k)).toNat:Int):=by rw[PU,IntKind.wrap_u8];push_cast;omega
   have hw9:IntKind.i64.wrap (97+(divs m k:Int)%16)=97+(divs m k:Int)%16:=by rw[IntKind.wrap_i64];omega
   have hcv:=Mi wr (ZG (divs m k))
   clear hst hwd
   generalize divs m k=d at hd hwc hw9 hcv HST ⊢
   have hdd:d<1000000000000:=by omega
   have hsz:¬9223372036854775807<(Xx m k).size+(zh [ZG d]).size:=by rw[PT,TX];omega
   have HF:=Z hf
   clear hf hd
   go_wp2_with fail
   refine⟨⟨k+1,by omega,?_,?_,?_,HF.out.alloc _⟩,by simp[intOf];omega⟩
   ·rw[HST.out.1];rfl
   ·rw[HST.out.2]
   ·push_cast;rfl
  ·have:k=6:=by omega
   subst this
   have HF:=Z hf
   clear hf
   rw[← HE.out]
   go_wp2_with fail
   go_ret
   exact⟨rfl,HF.out⟩
theorem XZ(l:List (Nat × ByteArray)):∀ (k:Nat)(h:k<l.length),(zD l)[k*2]?=some (.int .i64 l[k].1)∧(zD l)[k*2+1]?=some (.string l[k].2):=by
 induction l with
 | nil=>intro k h;exact absurd h (Nat.not_lt_zero _)
 | cons a l ih =>
  intro k h
  cases k with
  | zero=>exact⟨rfl,rfl⟩
  | succ k =>
   have:=ih k (by simpa using h)
   exact⟨by rw[← (show(zD (a::l))[(k+1)*2]?=(zD l)[k*2]? by rw[show(k+1)*2=k*2+2 from by omega];rfl)] at this;exact this.1,by have h2:=this.2;rw[← (show(zD (a::l))[(k+1)*2+1]?=(zD l)[k*2+1]? by rw[show(k+1)*2+1=k*2+1+2 from by omega];rfl)] at h2;exact h2⟩
theorem Ry{α:Type}{l1 l2:List α}(hl:l1.length=l2.length)(h:∀ j (h1:j<l1.length)(h2:j<l2.length),l1[j]=l2[j]):l1=l2 :=
 List.ext_getElem hl h
theorem W7(v1 v2:Value)(l1 l2:List (Nat × ByteArray))(w:World)(h1:w.ownsRow 0 75 2 v1 l1.length (zD l1))(h2:w.ownsRow 0 75 2 v2 l2.length (zD l2))(hl:l1.length<1000000000) :
  Calls Tryz.prog 121 #[v1,v2] w fun e w'=>e=.returned (.bool (decide (l1=l2)))∧Fr Nil w w':=by
 obtain⟨a1,c1,rfl⟩:=z8 h1
 obtain⟨a2,c2,rfl⟩:=z8 h2
 have H1:=Z h1
 have H2:=Z h2
 clear h1 h2
 by_cases hlen:l1.length=l2.length
 ·have HL:=Z hlen
  generalize hn:l1.length=n at hl hlen H1 ⊢
  rw[← hlen] at H2 ⊢
  have HN:=Z hn
  clear hlen hn
  go_enter Tryz.func121,Tryz.ntmps121
  go_wp2_with fail
  go_loopw [5] (fun t5 w'=>∃ i:Nat,i≤n∧t5=.int .i64 i∧(∀ j (h1:j<l1.length) (h2:j<l2.length),j<i→l1[j]=l2[j])∧Fr Nil w w') (fun t5 _=>n-(intOf t5).toNat)
  case atStart=>exact⟨0,by omega,rfl,fun j _ _ h=>absurd h (Nat.not_lt_zero _),G _ _⟩
  case round =>
   obtain⟨i,hi,rfl,hs,hf⟩:=hrel
   by_cases hlt:i<n
   ·have hi1:i<l1.length:=by have:=HN.out;omega
    have hi2:i<l2.length:=by have:=HL.out;omega
    obtain⟨g1,c1',e1,_,_⟩:=zi H1.out (by omega)
    obtain⟨g2,c2',e2,_,_⟩:=zi H2.out (by omega)
    simp only[Value.slice.injEq] at e1 e2
    obtain⟨rfl,_,_⟩:=e1
    obtain⟨rfl,_,_⟩:=e2
    have hx1:∀ n,(wr.drewN n).cell? ⟨g1,i*2,none⟩=some (.int .i64 l1[i].1):=fun n=>own_cell? (z7 H1.out (hf.drewN n) (fun _ _=>id)) _ _ (XZ l1 i hi1).1
    have hy1:∀ n,(wr.drewN n).cell? ⟨g1,i*2+1,none⟩=some (.string l1[i].2):=fun n=>own_cell? (z7 H1.out (hf.drewN n) (fun _ _=>id)) _ _ (XZ l1 i hi1).2
    have hx2:∀ n,(wr.drewN n).cell? ⟨g2,i*2,none⟩=some (.int .i64 l2[i].1):=fun n=>own_cell? (z7 H2.out (hf.drewN n) (fun _ _=>id)) _ _ (XZ l2 i hi2).1
    have hy2:∀ n,(wr.drewN n).cell? ⟨g2,i*2+1,none⟩=some (.string l2[i].2):=fun n=>own_cell? (z7 H2.out (hf.drewN n) (fun _ _=>id)) _ _ (XZ l2 i hi2).2
    have hne:¬l1[i]=l2[i]→decide (l1=l2)=false:=fun e=>by simp only[decide_eq_false_iff_not];intro h;subst h;exact e rfl
    have HNE:=Z hne
    have HS:=Z hs
    have HF:=Z hf
    obtain⟨⟨t1,x1⟩,hp1⟩:∃ p,p=l1[i]:=⟨_,rfl⟩
    obtain⟨⟨t2,x2⟩,hp2⟩:∃ p,p=l2[i]:=⟨_,rfl⟩
    rw[← hp1] at hx1 hy1
    rw[← hp2] at hx2 hy2
    have HP1:=Z hp1
    have HP2:=Z hp2
    simp only at hx1 hx2 hy1 hy2
    clear hp1 hp2 hne hs hf
    by_cases ht:t1=t2
    ·subst ht
     have hta:((t1:Int)==t1)=true:=by simp
     by_cases hx:x1=x2
     ·subst hx
      go_wp2_with fail
      go_quiet (fail)
      go_wp2_with fail
      refine⟨⟨i+1,by omega,by push_cast;rfl,fun j a b hj=>?_,HF.out.drewN _⟩,by simp[intOf];omega⟩
      by_cases e:j=i
      ·subst e;rw[← HP1.out,← HP2.out]
      ·exact HS.out j a b (by omega)
     ·have hxa:(x1.toList==x2.toList)=false:=by simp only[beq_eq_false_iff_ne,ne_eq];exact fun h=>hx (Xt h)
      have HX:=Z (show ¬l1[i]=l2[i] by rw[← HP1.out,← HP2.out];exact fun h=>hx (congrArg Prod.snd h))
      clear hx
      go_wp2_with fail
      go_quiet (fail)
      go_wp2_with fail
      go_ret
      exact⟨by rw[HNE.out HX.out];rfl,HF.out.drewN _⟩
    ·have hta:((t1:Int) != t2)=true:=by simp;omega
     have HX:=Z (show ¬l1[i]=l2[i] by rw[← HP1.out,← HP2.out];exact fun h=>ht (congrArg Prod.fst h))
     clear ht
     go_wp2_with fail
     go_quiet (fail)
     go_wp2_with fail
     go_ret
     exact⟨by rw[HNE.out HX.out];rfl,HF.out.drewN _⟩
   ·have HEQ:=Z (show decide (l1=l2)=true by simp only[decide_eq_true_eq];exact Ry HL.out (fun j a b=>hs j a b (by have:=HN.out;omega)))
    have HF:=Z hf
    clear hs hf
    go_wp2_with fail
    go_ret
    exact⟨by rw[HEQ.out];rfl,HF.out⟩
 ·have HNE:=Z (show decide (l1=l2)=false by simp only[decide_eq_false_iff_not];exact fun h=>hlen (by rw[h]))
  have hla:((l1.length:Int) != l2.length)=true:=by simp;omega
  generalize l1.length=n1 at hlen hla H1 hl
  generalize l2.length=n2 at hlen hla H2
  go_enter Tryz.func121,Tryz.ntmps121
  go_wp2_with fail
  go_ret
  exact⟨by rw[HNE.out];rfl,G _ _⟩
def Z7(a b:Ver):Bool:=(decide (a.o0=b.o0)&&decide (a.o1=b.o1)&&decide (a.o2=b.o2)&&decide (a.o3=b.o3))&&(decide (a.node=b.node)&&(decide (a.seq=b.seq)&&(a.value.toList==b.value.toList&&(a.gone==b.gone))))
theorem Vn(a b:Ver):Z7 a b=true↔a=b:=by
 obtain⟨n,s,o0,o1,o2,o3,x,g⟩:=a
 obtain⟨n',s',p0,p1,p2,p3,y,h⟩:=b
 simp only[Z7,Bool.and_eq_true,decide_eq_true_eq,beq_iff_eq,Ver.mk.injEq]
 constructor
 ·rintro⟨⟨⟨⟨h0,h1⟩,h2⟩,h3⟩,h4,h5,h6,h7⟩
  exact⟨h4,h5,h0,h1,h2,h3,Xt h6,h7⟩
 ·rintro⟨h4,h5,h0,h1,h2,h3,h6,h7⟩
  exact⟨⟨⟨⟨h0,h1⟩,h2⟩,h3⟩,h4,h5,by rw[h6],h7⟩
def ovs(o0 o1 o2 o3:Int):Nat→Int
 | 0=>o0
 | 1=>o1
 | 2=>o2
 | _=>o3
theorem Ym(a b:Ver)(w:World) :
  Calls Tryz.prog 67 #[.agg a.cells.toArray,.agg b.cells.toArray] w fun e w'=>e=.returned (.bool (Z7 a b))∧Fr Nil w w':=by
 obtain⟨n,s,o0,o1,o2,o3,x,g⟩:=a
 obtain⟨n',s',p0,p1,p2,p3,y,h⟩:=b
 simp only[Ver.cells]
 have hb1:=Blk.new w [.int .i64 n,.int .i64 s,.int .i64 o0,.int .i64 o1,.int .i64 o2,.int .i64 o3,.string x,.bool g] 37
 have f1:Fr Nil w (w.alloc (.cells #[.int .i64 n,.int .i64 s,.int .i64 o0,.int .i64 o1,.int .i64 o2,.int .i64 o3,.string x,.bool g] 37)):=(G _ _).alloc _
 generalize hw1:w.alloc (.cells #[.int .i64 n,.int .i64 s,.int .i64 o0,.int .i64 o1,.int .i64 o2,.int .i64 o3,.string x,.bool g] 37)=w1 at hb1 f1
 have hb2:=Blk.new w1 [.int .i64 n',.int .i64 s',.int .i64 p0,.int .i64 p1,.int .i64 p2,.int .i64 p3,.string y,.bool h] 37
 have f2:Fr Nil w1 (w1.alloc (.cells #[.int .i64 n',.int .i64 s',.int .i64 p0,.int .i64 p1,.int .i64 p2,.int .i64 p3,.string y,.bool h] 37)):=(G _ _).alloc _
 have hb12:=hb1.fr f2 (fun e=>e)
 have HSZ:=Z hb1.lt
 have HF:=Z (f1.trans f2)
 have HB1:=Z hb12
 have HB2:=Z hb2
 have HW1:=Z hw1
 clear hb1 f1 f2 hb12 hb2
 go_enter Tryz.func67,Tryz.ntmps67
 go_wp2_with fail
 clear hw1
 generalize w1.alloc (.cells #[.int .i64 n',.int .i64 s',.int .i64 p0,.int .i64 p1,.int .i64 p2,.int .i64 p3,.string y,.bool h] 37)=wz at HF HB1 HB2 ⊢
 generalize w.heap.size=ba at HB1 HSZ ⊢
 generalize w1.heap.size=bb at HB2 HSZ ⊢
 go_loopw [5] (fun t5 w'=>∃ i:Nat,i≤4∧t5=.int .i64 i∧(∀ j,j<i→ovs o0 o1 o2 o3 j=ovs p0 p1 p2 p3 j)∧Fr Nil wz w') (fun t5 _=>4-(intOf t5).toNat)
 case atStart=>exact⟨0,by omega,rfl,fun j h=>absurd h (Nat.not_lt_zero _),G _ _⟩
 case round =>
  obtain⟨i,hi,rfl,hs,hf⟩:=hrel
  have hca:∀ q k,(wr.drewN q).cell? ⟨ba,k,none⟩=_:=fun q=>(HB1.out.fr (hf.drewN q) (fun e=>e)).cell
  have hcb:∀ q k,(wr.drewN q).cell? ⟨bb,k,none⟩=_:=fun q=>(HB2.out.fr (hf.drewN q) (fun e=>e)).cell
  have HS:=Z hs
  have HFR:=Z hf
  clear hs hf
  by_cases hlt:i<4
  ·have hcs:i=0∨i=1∨i=2∨i=3:=by omega
   rcases hcs with rfl|rfl|rfl|rfl
   ·by_cases ho:o0=p0
    ·subst ho
     have hta:(o0 != o0)=false:=by simp
     go_wp2_with fail
     go_quiet (fail)
     go_wp2_with fail
     refine⟨⟨1,by omega,rfl,fun j hj=>?_,HFR.out.drewN _⟩,by decide⟩
     by_cases e:j=0
     ·subst e;rfl
     ·exact HS.out j (by omega)
    ·have hta:(o0 != p0)=true:=by simp[ho]
     have HR:=Z (show Z7 (⟨n,s,o0,o1,o2,o3,x,g⟩:Ver) (⟨n',s',p0,p1,p2,p3,y,h⟩:Ver)=false by simp[Z7,ho])
     clear ho
     go_wp2_with fail
     go_quiet (fail)
     go_wp2_with fail
     go_ret
     exact⟨by rw[HR.out];rfl,HF.out.trans (HFR.out.drewN _)⟩
   ·by_cases ho:o1=p1
    ·subst ho
     have hta:(o1 != o1)=false:=by simp
     go_wp2_with fail
     go_quiet (fail)
     go_wp2_with fail
     refine⟨⟨2,by omega,rfl,fun j hj=>?_,HFR.out.drewN _⟩,by decide⟩
     by_cases e:j=1
     ·subst e;rfl
     ·exact HS.out j (by omega)
    ·have hta:(o1 != p1)=true:=by simp[ho]
     have HR:=Z (show Z7 (⟨n,s,o0,o1,o2,o3,x,g⟩:Ver) (⟨n',s',p0,p1,p2,p3,y,h⟩:Ver)=false by simp[Z7,ho])
     clear ho
     go_wp2_with fail
     go_quiet (fail)
     go_wp2_with fail
     go_ret
     exact⟨by rw[HR.out];rfl,HF.out.trans (HFR.out.drewN _)⟩
   ·by_cases ho:o2=p2
    ·subst ho
     have hta:(o2 != o2)=false:=by simp
     go_wp2_with fail
     go_quiet (fail)
     go_wp2_with fail
     refine⟨⟨3,by omega,rfl,fun j hj=>?_,HFR.out.drewN _⟩,by decide⟩
     by_cases e:j=2
     ·subst e;rfl
     ·exact HS.out j (by omega)
    ·have hta:(o2 != p2)=true:=by simp[ho]
     have HR:=Z (show Z7 (⟨n,s,o0,o1,o2,o3,x,g⟩:Ver) (⟨n',s',p0,p1,p2,p3,y,h⟩:Ver)=false by simp[Z7,ho])
     clear ho
     go_wp2_with fail
     go_quiet (fail)
     go_wp2_with fail
     go_ret
     exact⟨by rw[HR.out];rfl,HF.out.trans (HFR.out.drewN _)⟩
   ·by_cases ho:o3=p3
    ·subst ho
     have hta:(o3 != o3)=false:=by simp
     go_wp2_with fail
     go_quiet (fail)
     go_wp2_with fail
     refine⟨⟨4,by omega,rfl,fun j hj=>?_,HFR.out.drewN _⟩,by decide⟩
     by_cases e:j=3
     ·subst e;rfl
     ·exact HS.out j (by omega)
    ·have hta:(o3 != p3)=true:=by simp[ho]
     have HR:=Z (show Z7 (⟨n,s,o0,o1,o2,o3,x,g⟩:Ver) (⟨n',s',p0,p1,p2,p3,y,h⟩:Ver)=false by simp[Z7,ho])
     clear ho
     go_wp2_with fail
     go_quiet (fail)
     go_wp2_with fail
     go_ret
     exact⟨by rw[HR.out];rfl,HF.out.trans (HFR.out.drewN _)⟩
  ·have:i=4:=by omega
   subst this
   have g0:o0=p0:=HS.out 0 (by decide)
   have g1:o1=p1:=HS.out 1 (by decide)
   have g2:o2=p2:=HS.out 2 (by decide)
   have g3:o3=p3:=HS.out 3 (by decide)
   have hca0:∀ k,wr.cell? ⟨ba,k,none⟩=_:=hca 0
   have hcb0:∀ k,wr.cell? ⟨bb,k,none⟩=_:=hcb 0
   clear hca hcb
   by_cases h1:n=n'
   ·by_cases h2:s=s'
    ·by_cases h3:x.toList=y.toList
     ·by_cases h4:g=h
      ·have e1:(n==n')=true:=by simp[h1]
       have e2:(s==s')=true:=by simp[h2]
       have e3:(x.toList==y.toList)=true:=by simp[h3]
       have e4:(g==h)=true:=by simp[h4]
       have HR:=Z (show Z7 (⟨n,s,o0,o1,o2,o3,x,g⟩:Ver) (⟨n',s',p0,p1,p2,p3,y,h⟩:Ver)=true by simp[Z7,g0,g1,g2,g3,h1,h2,h3,h4])
       clear g0 g1 g2 g3 h1 h2 h3 h4
       go_wp2_with fail
       go_ret
       exact⟨by rw[HR.out];rfl,HF.out.trans HFR.out⟩
      ·have e1:(n==n')=true:=by simp[h1]
       have e2:(s==s')=true:=by simp[h2]
       have e3:(x.toList==y.toList)=true:=by simp[h3]
       have e4:(g==h)=false:=by simp[h4]
       have HR:=Z (show Z7 (⟨n,s,o0,o1,o2,o3,x,g⟩:Ver) (⟨n',s',p0,p1,p2,p3,y,h⟩:Ver)=false by simp[Z7,h1,h2,h3,h4])
       clear g0 g1 g2 g3 h1 h2 h3 h4
       go_wp2_with fail
       go_ret
       exact⟨by rw[HR.out];rfl,HF.out.trans HFR.out⟩
     ·have e1:(n==n')=true:=by simp[h1]
      have e2:(s==s')=true:=by simp[h2]
      have e3:(x.toList==y.toList)=false:=by simp[h3]
      have HR:=Z (show Z7 (⟨n,s,o0,o1,o2,o3,x,g⟩:Ver) (⟨n',s',p0,p1,p2,p3,y,h⟩:Ver)=false by simp[Z7,h1,h2,h3])
      clear g0 g1 g2 g3 h1 h2 h3
      go_wp2_with fail
      go_ret
      exact⟨by rw[HR.out];rfl,HF.out.trans HFR.out⟩
    ·have e1:(n==n')=true:=by simp[h1]
     have e2:(s==s')=false:=by simp[h2]
     have HR:=Z (show Z7 (⟨n,s,o0,o1,o2,o3,x,g⟩:Ver) (⟨n',s',p0,p1,p2,p3,y,h⟩:Ver)=false by simp[Z7,h1,h2])
     clear g0 g1 g2 g3 h1 h2
     go_wp2_with fail
     go_ret
     exact⟨by rw[HR.out];rfl,HF.out.trans HFR.out⟩
   ·have e1:(n==n')=false:=by simp[h1]
    have HR:=Z (show Z7 (⟨n,s,o0,o1,o2,o3,x,g⟩:Ver) (⟨n',s',p0,p1,p2,p3,y,h⟩:Ver)=false by simp[Z7,h1])
    clear g0 g1 g2 g3 h1
    go_wp2_with fail
    go_ret
    exact⟨by rw[HR.out];rfl,HF.out.trans HFR.out⟩
end Go.Proofs.YtkhnggkkiefcdaaGreatDoor
