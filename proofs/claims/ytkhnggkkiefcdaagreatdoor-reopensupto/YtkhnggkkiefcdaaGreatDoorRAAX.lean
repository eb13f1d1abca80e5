/- larder: joined texts -/
import Derived.Test.YtkhnggkkiefcdaaGreatDoorRAAW
namespace Go.Proofs.YtkhnggkkiefcdaaGreatDoor
open Go.RowKit
set_option maxRecDepth 100000
set_option maxHeartbeats 8000000
theorem MA(herr:zr)(T:Nat)(K:Nat→Prop)(B:Nat)(L:WL)(W:WM)(LD:DL)(M:DM)(m:LM)(ss:List Seg)(t:Nat)(nd seg syn:Nat)(w:World)(h:WAt K w L W)(hd:DRep w L.db LD M)(htab:Y8 B w)(hB:B≤w.heap.size)(hlow:∀ k,WFoot L k→B≤k)(hr:Rest T W M m ss t)(hT:t+20≤T)(hT9:T≤900000)(hnd:W.node=nd)
  (hcfg:zC nd seg syn=true)(hca:W.calls<100000000)(hps:L.ps≠[]) :
  Calls Tryz.prog 17 #[.pointer (some ⟨L.wb,0,none⟩),.int .i64 seg,.int .i64 syn] w fun e w'=>e=.returned (.bool true)∧∃ (L':WL) (X:NL) (M':DM),
   Play K B w' L' {W with calls:=W.calls+1,broken:=false,every:=syn,writes:=0,fell:=false} X (NM.opened nd seg syn ss) M'∧DInv T M' t∧Lies M' ss∧L'.wb=L.wb∧L'.ps=L.ps∧Fr (WFoot L) w w'∧(∀ k,PFoot L' X M' k→WFoot L k∨w.heap.size≤k):=by
 have hd':=hd
 have hcw:∀ wx,Fr Nil w wx→∀ k,wx.cell? ⟨L.wb,k,none⟩=(W.cells L)[k]?:=fun wx f=>(h.nil f).blk.cell
 have hc0:=hcw w (G _ _)
 simp only[WM.cells] at hc0
 have HCW:=Z hcw
 have HDEAD:=Z (Ud w L.db LD M hd)
 rw[hr.disk.calm.dead] at HDEAD
 have HTRI:=Z (UQ herr T K B L W LD M m ss t w h hd htab hB hr hT hT9)
 have HR:=Z hr
 have HCOPY:=Z (fun wx (f:Fr Nil w wx)=>Vp (hd.nil f) hr.disk (by omega) hr.lies)
 have HH:=Z h
 have HTAB:=Z htab
 have HBB:=Z hB
 have HW:=Z hnd
 have HCF:=Z hcfg
 clear h hd hd' hcw htab hr hnd hcfg
 go_enter Tryz.func17,Tryz.ntmps17
 go_wp2_with (refine HDEAD.out.mono ?_;rintro e wx ⟨rfl,hwx⟩;subst wx)
 refine HTRI.out.mono ?_
 rintro e w1 ⟨rfl,f1⟩
 have hc1:=HCW.out w1 f1
 simp only[WM.cells] at hc1
 have HF1:=Z f1
 clear hc0 f1
 go_wp2_with fail
 refine(HCOPY.out w1 HF1.out).mono ?_
 rintro e w2 ⟨b2,L2,M2,rfl,ho2,hM2,hs2,hr2,hfl2,hcl2⟩
 have F2:=HF1.out.trans ho2.fr
 have hW2:=HH.out.nil F2
 obtain⟨hW3,hf3⟩:=hW2.disk' b2
 have hc2:=hW2.blk.cell
 have hz2:=hW2.blk.frozen
 simp only[WM.cells,HW.out] at hc2
 have hbw:∀ k,Foot b2 L2 M2 k→¬k=L.wb:=fun k hk e=>by subst e;have:=ho2.new _ hk;have:=HF1.out.size;have:=HH.out.blk.lt;omega
 have hD3:=ho2.rep.fr hf3 hbw
 have hnew:∀ k,Foot b2 L2 M2 k→w.heap.size≤k:=fun k hk=>Nat.le_trans HF1.out.size (ho2.new k hk)
 have hF3:Fr (WFoot L) w _:=(F2.mono (S':=WFoot L) (fun _ _ e=>absurd e id)).trans' (hf3.mono (S':=WFoot L) (fun k _ e=>.inl e)) (fun _ _ e=>e)
 have HM2:=Z (And.intro hM2 hs2)
 have HNEW:=Z hnew
 have HW3:=Z hW3
 have HF3:=Z hF3
 have HD3:=Z hD3
 have htab3:Y8 B _:=(HTAB.out.fr HBB.out F2 (fun _ e=>absurd e id)).fr (Nat.le_trans HBB.out F2.size) hf3 (fun k e=>by subst e;exact hlow _ (.inl rfl))
 have HTAB3:=Z htab3
 clear hc1 ho2 hM2 hs2 hr2 hfl2 hcl2 F2 hW2 hW3 hf3 hbw hD3 hnew hF3 htab3
 go_wp2_with fail
 have hsz:w2.heap.size=(w2.setCell ⟨L.wb,4,none⟩ (.pointer (some ⟨b2,0,none⟩))).heap.size:=by simp[World.setCell]
 generalize w2.setCell ⟨L.wb,4,none⟩ (.pointer (some ⟨b2,0,none⟩))=w3 at HW3 HF3 HD3 HTAB3 hsz ⊢
 have hbx:=Blk.newAt w3 [.int .i64 (nd:Nat),.int .i64 (seg:Nat),.int .i64 (syn:Nat)] 102 _ hsz
 have f4:Fr Nil w3 (w3.alloc (.cells #[.int .i64 (nd:Nat),.int .i64 (seg:Nat),.int .i64 (syn:Nat)] 102)):=(G _ _).alloc _
 generalize w3.alloc (.cells #[.int .i64 (nd:Nat),.int .i64 (seg:Nat),.int .i64 (syn:Nat)] 102)=w4 at hbx f4 ⊢
 have HBX:=Z hbx
 have HF4:=Z f4
 clear hc2 hz2 hbx f4 hsz
 generalize w2.heap.size=cx at HBX ⊢
 have hx4:=HBX.out.cell
 go_wp2_with fail
 refine(Vm nd seg syn w4).mono ?_
 rintro e w5 ⟨rfl,f5⟩
 have HF5:=Z (HF4.out.trans f5)
 have HBX5:=Z (HBX.out.fr f5 id)
 rw[HCF.out]
 clear hx4 f5 HBX
 go_wp2_with fail
 refine(zQ K {L with db:=b2} W L2 M2 w5 (HW3.out.nil HF5.out) (HD3.out.nil HF5.out)).mono ?_
 rintro e w6 ⟨rfl,f6⟩
 have hmx:=Blk.new w6 [.int .i64 M2.refused,.int .i64 M2.fulls] 111
 have f7:Fr Nil w6 (w6.alloc (.cells #[.int .i64 M2.refused,.int .i64 M2.fulls] 111)):=(G _ _).alloc _
 have hc7:=(HW3.out.nil ((HF5.out.trans f6).trans f7)).blk.cell
 simp only[WM.cells,HW.out] at hc7
 go_wp2_with fail
 generalize w6.alloc (.cells #[.int .i64 M2.refused,.int .i64 M2.fulls] 111)=w7 at hmx f7 hc7 ⊢
 have HF7:=Z ((HF5.out.trans f6).trans f7)
 have HBX7:=Z (HBX5.out.fr (f6.trans f7) id)
 have HMX:=Z hmx
 generalize w6.heap.size=mx at HMX ⊢
 clear f6 f7 hmx HBX5
 refine(zq w7 b2 L2 M2 (HD3.out.nil HF7.out)).mono ?_
 rintro e wx ⟨rfl,hwx⟩
 subst wx
 have HNX:Hid (¬Foot b2 L2 M2 cx):=(HD3.out.nil HF7.out).apart HBX7.out.ty (by unfold DTy;decide)
 have HNM:Hid (¬Foot b2 L2 M2 mx):=(HD3.out.nil HF7.out).apart HMX.out.ty (by unfold DTy;decide)
 have HCK:Hid (∀ wx,Fr (Foot b2 L2 M2) w7 wx→wx.cell? ⟨L.wb,4,none⟩=some (.pointer (some ⟨b2,0,none⟩))∧wx.cell? ⟨cx,0,none⟩=some (.int .i64 (nd:Nat))∧wx.cell? ⟨cx,1,none⟩=some (.int .i64 (seg:Nat))∧wx.cell? ⟨cx,2,none⟩=some (.int .i64 (syn:Nat))) :=
  fun wx f=>⟨((HW3.out.nil HF7.out).blk.fr f (fun e=>(HW3.out.nil HF7.out).disk (HD3.out.nil HF7.out) (.inl rfl) e)).cell 4,(HBX7.out.fr f HNX.out).cell 0,(HBX7.out.fr f HNX.out).cell 1,(HBX7.out.fr f HNX.out).cell 2⟩
 clear hc7
 go_wp2_with fail
 have hcc:=HCK.out w7 (G _ _)
 have HB3:Hid (B≤w3.heap.size):=Nat.le_trans HBB.out HF3.out.size
 have HOP:=Z (fun wx (f:Fr Nil w7 wx)=>Vq B b2 L2 M2 nd seg syn ss HCF.out wx (HD3.out.nil (HF7.out.trans f)) HM2.out.2 HR.out.ok (HR.out.short (by omega)) (HR.out.lims (by omega)) (HTAB3.out.fr HB3.out (HF7.out.trans f) (fun _ e=>absurd e id)) (Nat.le_trans HB3.out (HF7.out.trans f).size) (fun k hk=>Nat.le_trans HBB.out (HNEW.out k hk)))
 go_region_held3 (fun wx=>wx.cell? ⟨L.wb,4,none⟩=some (.pointer (some ⟨b2,0,none⟩))∧wx.cell? ⟨cx,0,none⟩=some (.int .i64 (nd:Nat))∧wx.cell? ⟨cx,1,none⟩=some (.int .i64 (seg:Nat))∧wx.cell? ⟨cx,2,none⟩=some (.int .i64 (syn:Nat))) (first|assumption|go_keep|exact HCK.out _ (by repeat' first|(with_reducible first|apply G|assumption|apply O|apply U|apply V|apply z6)|(intro _;rfl)))
  (first|(go_at_call 49;refine(HOP.out _ (by repeat' first|(with_reducible first|apply G|assumption|apply O|apply U|apply V|apply z6)|(intro _;rfl))).mono ?_;rintro e w8 ⟨X,rfl,hr8,hdb8,hfoot8,_,hf8⟩;have hF8:Fr (Foot b2 L2 M2) w7 w8:=Fr.trans (by repeat' first|(with_reducible first|apply G|assumption|apply O|apply U|apply V|apply z6)|(intro _;rfl)) hf8;have hz8:=HCK.out w8 hF8;have HR8:=Z hr8;have HDB8:=Z hdb8;have HFT8:Hid (∀ k,NFoot X M2 k→Foot b2 L2 M2 k∨w7.heap.size≤k):=(fun k hk=>hfoot8 k hk);have HM8:=Z (HMX.out.fr hF8 HNM.out);have HF8:=Z ((HF7.out.mono (S':=Foot b2 L2 M2) (fun _ _ e=>absurd e id)).trans hF8);clear hf8 hF8 hr8 hdb8 hfoot8))
 have hW8:=HW3.out.fr HF8.out (fun k hk e=>HW3.out.disk HD3.out hk e) (fun k hk e=>by have:=(HH.out.keep k hk).1;have:=HNEW.out k e;omega)
 have hD8:DRep w8 b2 X.LD M2:=by have:=HR8.out.disk;rw[HDB8.out] at this;exact this
 have HD8:=Z hD8
 clear hD8
 have hc8:=hW8.blk.cell
 have hfz8:=hW8.blk.frozen
 simp only[WM.cells] at hc8
 have hm8:=HM8.out.cell
 have hwc:IntKind.i64.wrap ((W.calls:Int)+1)=((W.calls+1:Nat):Int):=by rw[IntKind.wrap_i64];push_cast;omega
 have hS9:=WStep.set hW8 11 (.int .i64 ((W.calls+1:Nat):Int)) (L':={L with db:=b2}) (W':={W with calls:=W.calls+1}) (by simp[WM.cells]) rfl rfl rfl rfl rfl rfl rfl rfl rfl rfl rfl rfl rfl
 obtain⟨hW10,hf10⟩:=hS9.rep.node' (.pointer none)
 have F9:=hS9.fr.trans' (hf10.mono (S':=WFoot {L with db:=b2}) (fun k _ e=>.inl e)) (fun _ _ e=>e)
 have HW8:=Z hW8
 have HW10:=Z hW10
 have HF9:=Z F9
 clear hcc hz8 hS9 hW10 hf10 F9 hW8 hm8
 go_wp2_with fail
 rw[show((W.calls:Int)+1)=((W.calls+1:Nat):Int) from by push_cast;rfl]
 generalize (w8.setCell ⟨L.wb,11,none⟩ (.int .i64 ((W.calls+1:Nat):Int))).setCell ⟨L.wb,5,none⟩ (.pointer none)=w9 at HW10 HF9 ⊢
 have hD9:=HD8.out.fr HF9.out (fun k hk hw=>HW8.out.disk HD8.out hw hk)
 have hm9:∀ n k,(w9.drewN n).cell? ⟨mx,k,none⟩=[Value.int .i64 M2.refused,.int .i64 M2.fulls][k]?:=fun n=>((HM8.out.fr HF9.out (HW8.out.notB HM8.out (by intro hd;unfold WTy at hd;rcases hd with e|e|e|e|e|e <;> exact absurd e (by decide)))).drewN n).cell
 have hc9:∀ n k,(w9.drewN n).cell? ⟨L.wb,k,none⟩=_:=fun n=>(HW10.out.blk.drewN n).cell
 have hfz9:∀ n k,(w9.drewN n).frozen? ⟨L.wb,k,none⟩=false:=fun n=>(HW10.out.blk.drewN n).frozen
 simp only[WM.cells] at hc9
 have HRE:=Z (fun n=>Yn (w9.drewN n) b2 X.LD M2 (hD9.nil ((G _ _).drewN n)))
 have hlt9:decide (M2.refused<M2.refused)=false:=by simp
 have hlt9':¬M2.refused<M2.refused:=by simp
 clear hc8 hfz8 hD9 hwc
 go_quiet ((go_at_call 47;exact Calls.quiet_of_same (HRE.out _)))
 have hW10:=HW10.out.nil ((G Nil w9).drewN nq)
 have F10:=HF9.out.drewN nq
 have HW10':=Z hW10
 have HF10:=Z F10
 have hc10:=hc9 nq
 have hfz10:=hfz9 nq
 clear hc9 hfz9 hm9 HRE hlt9 hlt9' hW10 F10
 generalize w9.drewN nq=w10 at HW10' HF10 hc10 hfz10 ⊢
 obtain⟨hW11,hf11⟩:=HW10'.out.node' (.pointer (some ⟨X.nb,0,none⟩))
 have hS12:=WStep.set hW11 8 (.bool false) (L':={L with db:=b2,nv:=.pointer (some ⟨X.nb,0,none⟩)}) (W':={W with calls:=W.calls+1,broken:=false}) (by simp[WM.cells]) rfl rfl rfl rfl rfl rfl rfl rfl rfl rfl rfl rfl rfl
 have hS13:=hS12.trans (WStep.set hS12.rep 9 (.int .i64 (syn:Nat)) (L':={L with db:=b2,nv:=.pointer (some ⟨X.nb,0,none⟩)}) (W':={W with calls:=W.calls+1,broken:=false,every:=syn}) (by simp[WM.cells]) rfl rfl rfl rfl rfl rfl rfl rfl rfl rfl rfl rfl rfl)
 have hS14:=hS13.trans (WStep.set hS13.rep 10 (.int .i64 0) (L':={L with db:=b2,nv:=.pointer (some ⟨X.nb,0,none⟩)}) (W':={W with calls:=W.calls+1,broken:=false,every:=syn,writes:=0}) (by simp[WM.cells]) rfl rfl rfl rfl rfl rfl rfl rfl rfl rfl rfl rfl rfl)
 have F14:=(HF10.out.trans' (S':=WFoot L) (hf11.mono (fun k _ e=>.inl e)) (fun _ _ e=>e)).trans' (S':=WFoot L) hS14.fr (fun _ _ e=>e)
 have HS14:=Z hS14
 have HF14:=Z F14
 clear hW11 hf11 hS12 hS13 hS14 F14
 go_wp2_with fail
 generalize (((w10.setCell ⟨L.wb,5,none⟩ (.pointer (some ⟨X.nb,0,none⟩))).setCell ⟨L.wb,8,none⟩ (.bool false)).setCell ⟨L.wb,9,none⟩ (.int .i64 (syn:Nat))).setCell ⟨L.wb,10,none⟩ (.int .i64 0)=w11 at HS14 HF14 ⊢
 clear hc10 hfz10
 have hge:∀ k,NFoot X M2 k→w.heap.size≤k:=fun k hk=>(HFT8.out k hk).elim (HNEW.out k) (fun e=>Nat.le_trans (Nat.le_trans HF3.out.size HF7.out.size) e)
 have hplay:Play K B w11 {L with db:=b2,nv:=.pointer (some ⟨X.nb,0,none⟩)} {W with calls:=W.calls+1,broken:=false,every:=syn,writes:=0} X (NM.opened nd seg syn ss) M2 :=
  {wat:=HS14.out.rep
   node:=HR8.out.fr HF14.out (fun k hk hf=>HW8.out.node HR8.out hf hk) (fun k hk=>HW8.out.read HR8.out hk)
   env:=⟨((HTAB3.out.fr (Nat.le_trans HBB.out HF3.out.size) HF8.out (fun k e=>Nat.le_trans HBB.out (HNEW.out k e))).fr (Nat.le_trans (Nat.le_trans HBB.out HF3.out.size) HF8.out.size) HF14.out hlow).1,Nat.le_trans HBB.out (Nat.le_trans HF3.out.size (Nat.le_trans HF8.out.size HF14.out.size)),fun k hk=>Nat.le_trans HBB.out (hge k hk)⟩
   nv:=rfl
   db:=HDB8.out.symm
   sep:=fun k hk hf=>by have:=(HH.out.keep k hk).1;have:=hge k hf;omega
   low:=hlow}
 have hrest:=HR.out
 have hple:=hplay.wat.ple
 have hpp:0<L.ps.length:=Nat.pos_of_ne_zero (fun e=>hps (List.eq_nil_of_length_eq_zero e))
 have hlast:W.st[L.ps.length-1]?=some m:=by have e1:L.ps.length=W.st.length:=hple;rw[e1];exact hrest.last
 have hmod:=(hplay.wat.last hpp).2
 have hmm:W.st[L.ps.length-1]'(by have e1:L.ps.length=W.st.length:=hple;omega)=m:=by rw[List.getElem?_eq_getElem (by have e1:L.ps.length=W.st.length:=hple;omega)] at hlast;exact Option.some.inj hlast
 have hmod2:MRep K w11 L.ps[L.ps.length-1] m:=by rw[← hmm];exact hmod
 refine(Of K B {L with db:=b2,nv:=.pointer (some ⟨X.nb,0,none⟩)} {W with calls:=W.calls+1,broken:=false,every:=syn,writes:=0} X (NM.opened nd seg syn ss) M2 w11 hplay hpp (by have:=hrest.len;have e1:L.ps.length=W.st.length:=hple;show L.ps.length<_;omega) (fun wx f =>
  Nz K B _ _ X (NM.opened nd seg syn ss) M2 _ m wx (hplay.nil f).rep (hmod2.keep (zI.of_fr f (fun k e=>⟨(hplay.wat.keep k e).1,id⟩)) (fun _ e=>e)) rfl hrest.keys hrest.hints (by have:=hrest.nk;show(Z4 ss).keys.length<_;omega) (by have:=hrest.held.hlen;show(Z4 ss).hints.length<_;omega) hrest.held (by show W.calls+1<_;have:=hrest.calls;omega))).mono ?_
 rintro e w12 ⟨rfl,L12,hs12,hps12⟩
 have HP:=Z hplay
 have HS12:=Z hs12
 have HGE:=Z hge
 clear hplay hs12 hge hmod hmod2 hmm hlast hrest hple
 go_wp2_with fail
 go_ret
 have F8:Fr (WFoot L) w w11:=(HF3.out.trans' HF8.out (fun i hi e=>by have:=HNEW.out i e;omega)).trans HF14.out
 refine⟨rfl,L12,X,M2,HS12.out.rep,HM2.out.1,HM2.out.2,HS12.out.wb,hps12,F8.trans' (S':=PFoot {L with db:=b2,nv:=.pointer (some ⟨X.nb,0,none⟩)} X M2) HS12.out.fr (fun i hi e=>e.elim id (fun e=>by have:=HGE.out i e;omega)),fun k hk=>?_⟩
 rcases HS12.out.foot k hk with(e|e)|e
 ·exact .inl e
 ·exact .inr (HGE.out k e)
 ·exact .inr (Nat.le_trans F8.size e)
theorem Lr(K:Nat→Prop)(L:WL)(W:WM)(nb:Nat)(o:OpM)(w:World)(h:WAt K w L W)(hnv:L.nv=.pointer (some ⟨nb,0,none⟩))(hk:o.kind=2)(Q:World→Prop)
  (hc:∀ wx,Fr Nil w wx→Calls Tryz.prog 61 #[.pointer (some ⟨L.wb,0,none⟩),.agg o.cells.toArray] wx fun e w'=>e=.returned (.bool true)∧Q w') :
  Calls Tryz.prog 18 #[.pointer (some ⟨L.wb,0,none⟩),.agg o.cells.toArray] w fun e w'=>e=.returned (.bool true)∧Q w':=by
 obtain⟨kind,a,b,c,key,text,v,tails⟩:=o
 simp only at hk
 subst hk
 simp only[OpM.cells,Ver.cells,List.cons_append,List.nil_append] at hc ⊢
 have f1:Fr Nil w (w.alloc (.cells #[.int .i64 2,.int .i64 a,.int .i64 b,.int .i64 c,.string key,.string text,.int .i64 v.node,.int .i64 v.seq,.int .i64 v.o0,.int .i64 v.o1,.int .i64 v.o2,.int .i64 v.o3,.string v.value,.bool v.gone,tails] 39)):=(G _ _).alloc _
 have hb1:=Blk.new w [.int .i64 2,.int .i64 a,.int .i64 b,.int .i64 c,.string key,.string text,.int .i64 v.node,.int .i64 v.seq,.int .i64 v.o0,.int .i64 v.o1,.int .i64 v.o2,.int .i64 v.o3,.string v.value,.bool v.gone,tails] 39
 have hc5:(w.alloc (.cells #[.int .i64 2,.int .i64 a,.int .i64 b,.int .i64 c,.string key,.string text,.int .i64 v.node,.int .i64 v.seq,.int .i64 v.o0,.int .i64 v.o1,.int .i64 v.o2,.int .i64 v.o3,.string v.value,.bool v.gone,tails] 39)).cell? ⟨L.wb,5,none⟩=some (.pointer (some ⟨nb,0,none⟩)):=by rw[← hnv];exact(h.nil f1).blk.cell 5
 have hc1:=hb1.cell
 have HF1:=Z f1
 have HC:=Z (hc _ f1)
 clear h f1 hb1 hc hnv
 go_enter Tryz.func18,Tryz.ntmps18
 go_wp2_with (refine HC.out.mono ?_;rintro e w1 ⟨rfl,hq⟩;have HQ:=Z hq;clear hq)
 go_ret
 exact⟨rfl,HQ.out⟩
theorem Ls(K:Nat→Prop)(L:WL)(W:WM)(nb:Nat)(o:OpM)(w:World)(h:WAt K w L W)(hnv:L.nv=.pointer (some ⟨nb,0,none⟩))(hk:o.kind=3)(Q:World→Prop)
  (hc:∀ wx,Fr Nil w wx→Calls Tryz.prog 61 #[.pointer (some ⟨L.wb,0,none⟩),.agg o.cells.toArray] wx fun e w'=>e=.returned (.bool true)∧Q w') :
  Calls Tryz.prog 18 #[.pointer (some ⟨L.wb,0,none⟩),.agg o.cells.toArray] w fun e w'=>e=.returned (.bool true)∧Q w':=by
 obtain⟨kind,a,b,c,key,text,v,tails⟩:=o
 simp only at hk
 subst hk
 simp only[OpM.cells,Ver.cells,List.cons_append,List.nil_append] at hc ⊢
 have f1:Fr Nil w (w.alloc (.cells #[.int .i64 3,.int .i64 a,.int .i64 b,.int .i64 c,.string key,.string text,.int .i64 v.node,.int .i64 v.seq,.int .i64 v.o0,.int .i64 v.o1,.int .i64 v.o2,.int .i64 v.o3,.string v.value,.bool v.gone,tails] 39)):=(G _ _).alloc _
 have hb1:=Blk.new w [.int .i64 3,.int .i64 a,.int .i64 b,.int .i64 c,.string key,.string text,.int .i64 v.node,.int .i64 v.seq,.int .i64 v.o0,.int .i64 v.o1,.int .i64 v.o2,.int .i64 v.o3,.string v.value,.bool v.gone,tails] 39
 have hc5:(w.alloc (.cells #[.int .i64 3,.int .i64 a,.int .i64 b,.int .i64 c,.string key,.string text,.int .i64 v.node,.int .i64 v.seq,.int .i64 v.o0,.int .i64 v.o1,.int .i64 v.o2,.int .i64 v.o3,.string v.value,.bool v.gone,tails] 39)).cell? ⟨L.wb,5,none⟩=some (.pointer (some ⟨nb,0,none⟩)):=by rw[← hnv];exact(h.nil f1).blk.cell 5
 have hc1:=hb1.cell
 have HF1:=Z f1
 have HC:=Z (hc _ f1)
 clear h f1 hb1 hc hnv
 go_enter Tryz.func18,Tryz.ntmps18
 go_wp2_with (refine HC.out.mono ?_;rintro e w1 ⟨rfl,hq⟩;have HQ:=Z hq;clear hq)
 go_ret
 exact⟨rfl,HQ.out⟩
theorem Lt(K:Nat→Prop)(L:WL)(W:WM)(nb:Nat)(o:OpM)(w:World)(h:WAt K w L W)(hnv:L.nv=.pointer (some ⟨nb,0,none⟩))(hk:o.kind=4)(Q:World→Prop)
  (hc:∀ wx,Fr Nil w wx→Calls Tryz.prog 62 #[.pointer (some ⟨L.wb,0,none⟩),.agg o.cells.toArray] wx fun e w'=>e=.returned (.bool true)∧Q w') :
  Calls Tryz.prog 18 #[.pointer (some ⟨L.wb,0,none⟩),.agg o.cells.toArray] w fun e w'=>e=.returned (.bool true)∧Q w':=by
 obtain⟨kind,a,b,c,key,text,v,tails⟩:=o
 simp only at hk
 subst hk
 simp only[OpM.cells,Ver.cells,List.cons_append,List.nil_append] at hc ⊢
 have f1:Fr Nil w (w.alloc (.cells #[.int .i64 4,.int .i64 a,.int .i64 b,.int .i64 c,.string key,.string text,.int .i64 v.node,.int .i64 v.seq,.int .i64 v.o0,.int .i64 v.o1,.int .i64 v.o2,.int .i64 v.o3,.string v.value,.bool v.gone,tails] 39)):=(G _ _).alloc _
 have hb1:=Blk.new w [.int .i64 4,.int .i64 a,.int .i64 b,.int .i64 c,.string key,.string text,.int .i64 v.node,.int .i64 v.seq,.int .i64 v.o0,.int .i64 v.o1,.int .i64 v.o2,.int .i64 v.o3,.string v.value,.bool v.gone,tails] 39
 have hc5:(w.alloc (.cells #[.int .i64 4,.int .i64 a,.int .i64 b,.int .i64 c,.string key,.string text,.int .i64 v.node,.int .i64 v.seq,.int .i64 v.o0,.int .i64 v.o1,.int .i64 v.o2,.int .i64 v.o3,.string v.value,.bool v.gone,tails] 39)).cell? ⟨L.wb,5,none⟩=some (.pointer (some ⟨nb,0,none⟩)):=by rw[← hnv];exact(h.nil f1).blk.cell 5
 have hc1:=hb1.cell
 have HF1:=Z f1
 have HC:=Z (hc _ f1)
 clear h f1 hb1 hc hnv
 go_enter Tryz.func18,Tryz.ntmps18
 go_wp2_with (refine HC.out.mono ?_;rintro e w1 ⟨rfl,hq⟩;have HQ:=Z hq;clear hq)
 go_ret
 exact⟨rfl,HQ.out⟩
theorem Lu(K:Nat→Prop)(L:WL)(W:WM)(nb:Nat)(o:OpM)(w:World)(h:WAt K w L W)(hnv:L.nv=.pointer (some ⟨nb,0,none⟩))(hk:o.kind=5)(Q:World→Prop)
  (hc:∀ wx,Fr Nil w wx→Calls Tryz.prog 65 #[.pointer (some ⟨L.wb,0,none⟩),.agg o.cells.toArray] wx fun e w'=>e=.returned (.bool true)∧Q w') :
  Calls Tryz.prog 18 #[.pointer (some ⟨L.wb,0,none⟩),.agg o.cells.toArray] w fun e w'=>e=.returned (.bool true)∧Q w':=by
 obtain⟨kind,a,b,c,key,text,v,tails⟩:=o
 simp only at hk
 subst hk
 simp only[OpM.cells,Ver.cells,List.cons_append,List.nil_append] at hc ⊢
 have f1:Fr Nil w (w.alloc (.cells #[.int .i64 5,.int .i64 a,.int .i64 b,.int .i64 c,.string key,.string text,.int .i64 v.node,.int .i64 v.seq,.int .i64 v.o0,.int .i64 v.o1,.int .i64 v.o2,.int .i64 v.o3,.string v.value,.bool v.gone,tails] 39)):=(G _ _).alloc _
 have hb1:=Blk.new w [.int .i64 5,.int .i64 a,.int .i64 b,.int .i64 c,.string key,.string text,.int .i64 v.node,.int .i64 v.seq,.int .i64 v.o0,.int .i64 v.o1,.int .i64 v.o2,.int .i64 v.o3,.string v.value,.bool v.gone,tails] 39
 have hc5:(w.alloc (.cells #[.int .i64 5,.int .i64 a,.int .i64 b,.int .i64 c,.string key,.string text,.int .i64 v.node,.int .i64 v.seq,.int .i64 v.o0,.int .i64 v.o1,.int .i64 v.o2,.int .i64 v.o3,.string v.value,.bool v.gone,tails] 39)).cell? ⟨L.wb,5,none⟩=some (.pointer (some ⟨nb,0,none⟩)):=by rw[← hnv];exact(h.nil f1).blk.cell 5
 have hc1:=hb1.cell
 have HF1:=Z f1
 have HC:=Z (hc _ f1)
 clear h f1 hb1 hc hnv
 go_enter Tryz.func18,Tryz.ntmps18
 go_wp2_with (refine HC.out.mono ?_;rintro e w1 ⟨rfl,hq⟩;have HQ:=Z hq;clear hq)
 go_ret
 exact⟨rfl,HQ.out⟩
theorem Lv(K:Nat→Prop)(L:WL)(W:WM)(nb:Nat)(o:OpM)(w:World)(h:WAt K w L W)(hnv:L.nv=.pointer (some ⟨nb,0,none⟩))(hk:o.kind=6)(Q:World→Prop)
  (hc:∀ wx,Fr Nil w wx→Calls Tryz.prog 65 #[.pointer (some ⟨L.wb,0,none⟩),.agg o.cells.toArray] wx fun e w'=>e=.returned (.bool true)∧Q w') :
  Calls Tryz.prog 18 #[.pointer (some ⟨L.wb,0,none⟩),.agg o.cells.toArray] w fun e w'=>e=.returned (.bool true)∧Q w':=by
 obtain⟨kind,a,b,c,key,text,v,tails⟩:=o
 simp only at hk
 subst hk
 simp only[OpM.cells,Ver.cells,List.cons_append,List.nil_append] at hc ⊢
 have f1:Fr Nil w (w.alloc (.cells #[.int .i64 6,.int .i64 a,.int .i64 b,.int .i64 c,.string key,.string text,.int .i64 v.node,.int .i64 v.seq,.int .i64 v.o0,.int .i64 v.o1,.int .i64 v.o2,.int .i64 v.o3,.string v.value,.bool v.gone,tails] 39)):=(G _ _).alloc _
 have hb1:=Blk.new w [.int .i64 6,.int .i64 a,.int .i64 b,.int .i64 c,.string key,.string text,.int .i64 v.node,.int .i64 v.seq,.int .i64 v.o0,.int .i64 v.o1,.int .i64 v.o2,.int .i64 v.o3,.string v.value,.bool v.gone,tails] 39
 have hc5:(w.alloc (.cells #[.int .i64 6,.int .i64 a,.int .i64 b,.int .i64 c,.string key,.string text,.int .i64 v.node,.int .i64 v.seq,.int .i64 v.o0,.int .i64 v.o1,.int .i64 v.o2,.int .i64 v.o3,.string v.value,.bool v.gone,tails] 39)).cell? ⟨L.wb,5,none⟩=some (.pointer (some ⟨nb,0,none⟩)):=by rw[← hnv];exact(h.nil f1).blk.cell 5
 have hc1:=hb1.cell
 have HF1:=Z f1
 have HC:=Z (hc _ f1)
 clear h f1 hb1 hc hnv
 go_enter Tryz.func18,Tryz.ntmps18
 go_wp2_with (refine HC.out.mono ?_;rintro e w1 ⟨rfl,hq⟩;have HQ:=Z hq;clear hq)
 go_ret
 exact⟨rfl,HQ.out⟩
theorem Lw(K:Nat→Prop)(L:WL)(W:WM)(nb:Nat)(o:OpM)(w:World)(h:WAt K w L W)(hnv:L.nv=.pointer (some ⟨nb,0,none⟩))(hk:o.kind=7)(Q:World→Prop)
  (hc:∀ wx,Fr Nil w wx→Calls Tryz.prog 63 #[.pointer (some ⟨L.wb,0,none⟩),.agg o.cells.toArray] wx fun e w'=>e=.returned (.bool true)∧Q w') :
  Calls Tryz.prog 18 #[.pointer (some ⟨L.wb,0,none⟩),.agg o.cells.toArray] w fun e w'=>e=.returned (.bool true)∧Q w':=by
 obtain⟨kind,a,b,c,key,text,v,tails⟩:=o
 simp only at hk
 subst hk
 simp only[OpM.cells,Ver.cells,List.cons_append,List.nil_append] at hc ⊢
 have f1:Fr Nil w (w.alloc (.cells #[.int .i64 7,.int .i64 a,.int .i64 b,.int .i64 c,.string key,.string text,.int .i64 v.node,.int .i64 v.seq,.int .i64 v.o0,.int .i64 v.o1,.int .i64 v.o2,.int .i64 v.o3,.string v.value,.bool v.gone,tails] 39)):=(G _ _).alloc _
 have hb1:=Blk.new w [.int .i64 7,.int .i64 a,.int .i64 b,.int .i64 c,.string key,.string text,.int .i64 v.node,.int .i64 v.seq,.int .i64 v.o0,.int .i64 v.o1,.int .i64 v.o2,.int .i64 v.o3,.string v.value,.bool v.gone,tails] 39
 have hc5:(w.alloc (.cells #[.int .i64 7,.int .i64 a,.int .i64 b,.int .i64 c,.string key,.string text,.int .i64 v.node,.int .i64 v.seq,.int .i64 v.o0,.int .i64 v.o1,.int .i64 v.o2,.int .i64 v.o3,.string v.value,.bool v.gone,tails] 39)).cell? ⟨L.wb,5,none⟩=some (.pointer (some ⟨nb,0,none⟩)):=by rw[← hnv];exact(h.nil f1).blk.cell 5
 have hc1:=hb1.cell
 have HF1:=Z f1
 have HC:=Z (hc _ f1)
 clear h f1 hb1 hc hnv
 go_enter Tryz.func18,Tryz.ntmps18
 go_wp2_with (refine HC.out.mono ?_;rintro e w1 ⟨rfl,hq⟩;have HQ:=Z hq;clear hq)
 go_ret
 exact⟨rfl,HQ.out⟩
theorem Lx(K:Nat→Prop)(L:WL)(W:WM)(nb:Nat)(o:OpM)(w:World)(h:WAt K w L W)(hnv:L.nv=.pointer (some ⟨nb,0,none⟩))(hk:o.kind=8)(Q:World→Prop)
  (hc:∀ wx,Fr Nil w wx→Calls Tryz.prog 65 #[.pointer (some ⟨L.wb,0,none⟩),.agg o.cells.toArray] wx fun e w'=>e=.returned (.bool true)∧Q w') :
  Calls Tryz.prog 18 #[.pointer (some ⟨L.wb,0,none⟩),.agg o.cells.toArray] w fun e w'=>e=.returned (.bool true)∧Q w':=by
 obtain⟨kind,a,b,c,key,text,v,tails⟩:=o
 simp only at hk
 subst hk
 simp only[OpM.cells,Ver.cells,List.cons_append,List.nil_append] at hc ⊢
 have f1:Fr Nil w (w.alloc (.cells #[.int .i64 8,.int .i64 a,.int .i64 b,.int .i64 c,.string key,.string text,.int .i64 v.node,.int .i64 v.seq,.int .i64 v.o0,.int .i64 v.o1,.int .i64 v.o2,.int .i64 v.o3,.string v.value,.bool v.gone,tails] 39)):=(G _ _).alloc _
 have hb1:=Blk.new w [.int .i64 8,.int .i64 a,.int .i64 b,.int .i64 c,.string key,.string text,.int .i64 v.node,.int .i64 v.seq,.int .i64 v.o0,.int .i64 v.o1,.int .i64 v.o2,.int .i64 v.o3,.string v.value,.bool v.gone,tails] 39
 have hc5:(w.alloc (.cells #[.int .i64 8,.int .i64 a,.int .i64 b,.int .i64 c,.string key,.string text,.int .i64 v.node,.int .i64 v.seq,.int .i64 v.o0,.int .i64 v.o1,.int .i64 v.o2,.int .i64 v.o3,.string v.value,.bool v.gone,tails] 39)).cell? ⟨L.wb,5,none⟩=some (.pointer (some ⟨nb,0,none⟩)):=by rw[← hnv];exact(h.nil f1).blk.cell 5
 have hc1:=hb1.cell
 have HF1:=Z f1
 have HC:=Z (hc _ f1)
 clear h f1 hb1 hc hnv
 go_enter Tryz.func18,Tryz.ntmps18
 go_wp2_with (refine HC.out.mono ?_;rintro e w1 ⟨rfl,hq⟩;have HQ:=Z hq;clear hq)
 go_ret
 exact⟨rfl,HQ.out⟩
theorem Ly(K:Nat→Prop)(L:WL)(W:WM)(nb:Nat)(o:OpM)(w:World)(h:WAt K w L W)(hnv:L.nv=.pointer (some ⟨nb,0,none⟩))(hk:o.kind=9)(Q:World→Prop)
  (hc:∀ wx,Fr Nil w wx→Calls Tryz.prog 63 #[.pointer (some ⟨L.wb,0,none⟩),.agg o.cells.toArray] wx fun e w'=>e=.returned (.bool true)∧Q w') :
  Calls Tryz.prog 18 #[.pointer (some ⟨L.wb,0,none⟩),.agg o.cells.toArray] w fun e w'=>e=.returned (.bool true)∧Q w':=by
 obtain⟨kind,a,b,c,key,text,v,tails⟩:=o
 simp only at hk
 subst hk
 simp only[OpM.cells,Ver.cells,List.cons_append,List.nil_append] at hc ⊢
 have f1:Fr Nil w (w.alloc (.cells #[.int .i64 9,.int .i64 a,.int .i64 b,.int .i64 c,.string key,.string text,.int .i64 v.node,.int .i64 v.seq,.int .i64 v.o0,.int .i64 v.o1,.int .i64 v.o2,.int .i64 v.o3,.string v.value,.bool v.gone,tails] 39)):=(G _ _).alloc _
 have hb1:=Blk.new w [.int .i64 9,.int .i64 a,.int .i64 b,.int .i64 c,.string key,.string text,.int .i64 v.node,.int .i64 v.seq,.int .i64 v.o0,.int .i64 v.o1,.int .i64 v.o2,.int .i64 v.o3,.string v.value,.bool v.gone,tails] 39
 have hc5:(w.alloc (.cells #[.int .i64 9,.int .i64 a,.int .i64 b,.int .i64 c,.string key,.string text,.int .i64 v.node,.int .i64 v.seq,.int .i64 v.o0,.int .i64 v.o1,.int .i64 v.o2,.int .i64 v.o3,.string v.value,.bool v.gone,tails] 39)).cell? ⟨L.wb,5,none⟩=some (.pointer (some ⟨nb,0,none⟩)):=by rw[← hnv];exact(h.nil f1).blk.cell 5
 have hc1:=hb1.cell
 have HF1:=Z f1
 have HC:=Z (hc _ f1)
 clear h f1 hb1 hc hnv
 go_enter Tryz.func18,Tryz.ntmps18
 go_wp2_with (refine HC.out.mono ?_;rintro e w1 ⟨rfl,hq⟩;have HQ:=Z hq;clear hq)
 go_ret
 exact⟨rfl,HQ.out⟩
theorem MZ(K:Nat→Prop)(L:WL)(W:WM)(nb:Nat)(o:OpM)(w:World)(h:WAt K w L W)(hnv:L.nv=.pointer (some ⟨nb,0,none⟩))(hk:o.kind=10)(Q:World→Prop)
  (hc:∀ wx,Fr Nil w wx→Calls Tryz.prog 65 #[.pointer (some ⟨L.wb,0,none⟩),.agg o.cells.toArray] wx fun e w'=>e=.returned (.bool true)∧Q w') :
  Calls Tryz.prog 18 #[.pointer (some ⟨L.wb,0,none⟩),.agg o.cells.toArray] w fun e w'=>e=.returned (.bool true)∧Q w':=by
 obtain⟨kind,a,b,c,key,text,v,tails⟩:=o
 simp only at hk
 subst hk
 simp only[OpM.cells,Ver.cells,List.cons_append,List.nil_append] at hc ⊢
 have f1:Fr Nil w (w.alloc (.cells #[.int .i64 10,.int .i64 a,.int .i64 b,.int .i64 c,.string key,.string text,.int .i64 v.node,.int .i64 v.seq,.int .i64 v.o0,.int .i64 v.o1,.int .i64 v.o2,.int .i64 v.o3,.string v.value,.bool v.gone,tails] 39)):=(G _ _).alloc _
 have hb1:=Blk.new w [.int .i64 10,.int .i64 a,.int .i64 b,.int .i64 c,.string key,.string text,.int .i64 v.node,.int .i64 v.seq,.int .i64 v.o0,.int .i64 v.o1,.int .i64 v.o2,.int .i64 v.o3,.string v.value,.bool v.gone,tails] 39
 have hc5:(w.alloc (.cells #[.int .i64 10,.int .i64 a,.int .i64 b,.int .i64 c,.string key,.string text,.int .i64 v.node,.int .i64 v.seq,.int .i64 v.o0,.int .i64 v.o1,.int .i64 v.o2,.int .i64 v.o3,.string v.value,.bool v.gone,tails] 39)).cell? ⟨L.wb,5,none⟩=some (.pointer (some ⟨nb,0,none⟩)):=by rw[← hnv];exact(h.nil f1).blk.cell 5
 have hc1:=hb1.cell
 have HF1:=Z f1
 have HC:=Z (hc _ f1)
 clear h f1 hb1 hc hnv
 go_enter Tryz.func18,Tryz.ntmps18
 go_wp2_with (refine HC.out.mono ?_;rintro e w1 ⟨rfl,hq⟩;have HQ:=Z hq;clear hq)
 go_ret
 exact⟨rfl,HQ.out⟩
theorem Og(K:Nat→Prop)(L:WL)(W:WM)(nb:Nat)(o:OpM)(w:World)(h:WAt K w L W)(hnv:L.nv=.pointer (some ⟨nb,0,none⟩))(hk:o.kind≠1∧o.kind≠12∧o.kind≠13∧o.kind≠14∧o.kind≠2∧o.kind≠3∧o.kind≠4∧o.kind≠7∧o.kind≠9∧o.kind≠11∧o.kind≠15∧o.kind≠5∧o.kind≠6∧o.kind≠8∧o.kind≠10) :
  Calls Tryz.prog 18 #[.pointer (some ⟨L.wb,0,none⟩),.agg o.cells.toArray] w fun e w'=>e=.returned (.bool true)∧Fr Nil w w':=by
 obtain⟨kind,a,b,c,key,text,v,tails⟩:=o
 simp only at hk
 obtain⟨h1,h12,h13,h14,h2,h3,h4,h7,h9,h11,h15,h5,h6,h8,h10⟩:=hk
 have e1:(kind==1)=false:=by simp[h1]
 have e12:(kind==12)=false:=by simp[h12]
 have e13:(kind==13)=false:=by simp[h13]
 have e14:(kind==14)=false:=by simp[h14]
 have e2:(kind==2)=false:=by simp[h2]
 have e3:(kind==3)=false:=by simp[h3]
 have e4:(kind==4)=false:=by simp[h4]
 have e7:(kind==7)=false:=by simp[h7]
 have e9:(kind==9)=false:=by simp[h9]
 have e11:(kind==11)=false:=by simp[h11]
 have e15:(kind==15)=false:=by simp[h15]
 have e5:(kind==5)=false:=by simp[h5]
 have e6:(kind==6)=false:=by simp[h6]
 have e8:(kind==8)=false:=by simp[h8]
 have e10:(kind==10)=false:=by simp[h10]
 simp only[OpM.cells,Ver.cells,List.cons_append,List.nil_append]
 have f1:Fr Nil w (w.alloc (.cells #[.int .i64 kind,.int .i64 a,.int .i64 b,.int .i64 c,.string key,.string text,.int .i64 v.node,.int .i64 v.seq,.int .i64 v.o0,.int .i64 v.o1,.int .i64 v.o2,.int .i64 v.o3,.string v.value,.bool v.gone,tails] 39)):=(G _ _).alloc _
 have hb1:=Blk.new w [.int .i64 kind,.int .i64 a,.int .i64 b,.int .i64 c,.string key,.string text,.int .i64 v.node,.int .i64 v.seq,.int .i64 v.o0,.int .i64 v.o1,.int .i64 v.o2,.int .i64 v.o3,.string v.value,.bool v.gone,tails] 39
 have hc5:(w.alloc (.cells #[.int .i64 kind,.int .i64 a,.int .i64 b,.int .i64 c,.string key,.string text,.int .i64 v.node,.int .i64 v.seq,.int .i64 v.o0,.int .i64 v.o1,.int .i64 v.o2,.int .i64 v.o3,.string v.value,.bool v.gone,tails] 39)).cell? ⟨L.wb,5,none⟩=some (.pointer (some ⟨nb,0,none⟩)):=by rw[← hnv];exact(h.nil f1).blk.cell 5
 have hc1:=hb1.cell
 have HF1:=Z f1
 clear h f1 hb1 hnv h1 h12 h13 h14 h2 h3 h4 h7 h9 h11 h15 h5 h6 h8 h10
 go_enter Tryz.func18,Tryz.ntmps18
 go_wp2_with fail
 go_ret
 exact⟨rfl,HF1.out⟩
theorem QW(K:Nat→Prop)(L:WL)(W:WM)(o:OpM)(w:World)(h:WAt K w L W)(hnv:L.nv=.pointer none)(hk:o.kind≠1∧o.kind≠12∧o.kind≠13∧o.kind≠14) :
  Calls Tryz.prog 18 #[.pointer (some ⟨L.wb,0,none⟩),.agg o.cells.toArray] w fun e w'=>e=.returned (.bool true)∧Fr Nil w w':=by
 obtain⟨kind,a,b,c,key,text,v,tails⟩:=o
 simp only at hk
 obtain⟨h1,h12,h13,h14⟩:=hk
 have e1:(kind==1)=false:=by simp[h1]
 have e12:(kind==12)=false:=by simp[h12]
 have e13:(kind==13)=false:=by simp[h13]
 have e14:(kind==14)=false:=by simp[h14]
 simp only[OpM.cells,Ver.cells,List.cons_append,List.nil_append]
 have f1:Fr Nil w (w.alloc (.cells #[.int .i64 kind,.int .i64 a,.int .i64 b,.int .i64 c,.string key,.string text,.int .i64 v.node,.int .i64 v.seq,.int .i64 v.o0,.int .i64 v.o1,.int .i64 v.o2,.int .i64 v.o3,.string v.value,.bool v.gone,tails] 39)):=(G _ _).alloc _
 have hb1:=Blk.new w [.int .i64 kind,.int .i64 a,.int .i64 b,.int .i64 c,.string key,.string text,.int .i64 v.node,.int .i64 v.seq,.int .i64 v.o0,.int .i64 v.o1,.int .i64 v.o2,.int .i64 v.o3,.string v.value,.bool v.gone,tails] 39
 have hc5:(w.alloc (.cells #[.int .i64 kind,.int .i64 a,.int .i64 b,.int .i64 c,.string key,.string text,.int .i64 v.node,.int .i64 v.seq,.int .i64 v.o0,.int .i64 v.o1,.int .i64 v.o2,.int .i64 v.o3,.string v.value,.bool v.gone,tails] 39)).cell? ⟨L.wb,5,none⟩=some (.pointer none):=by rw[← hnv];exact(h.nil f1).blk.cell 5
 have hc1:=hb1.cell
 have HF1:=Z f1
 clear h f1 hb1 hnv h1 h12 h13 h14
 go_enter Tryz.func18,Tryz.ntmps18
 go_wp2_with fail
 go_ret
 exact⟨rfl,HF1.out⟩
theorem MB:((Tryz.prog.info? 9).map fun i=>(i.zero.map (·.cells.size),i.size,i.bytes))=some (some 1,1,16):=by kernel_rfl
structure MM(K:Nat→Prop)(L:WL)(W:WM)(w0:World)(n i:Nat)(lv:Value)(w':World):Prop where
 ex:∃ (l':List Value) (L':WL) (bk':BK),w'.ownsRow 0 9 1 lv l'.length l'∧(∀ k,lv.ownBlock=some k→w0.heap.size≤k)∧l'.length=n+i∧WStep K L w0 L' (W.booked bk') w'∧bk'.ns.length=W.bk.ns.length+i∧bk'.nm.length=W.bk.nm.length+i∧bk'.vs=W.bk.vs∧bk'.vm=W.bk.vm∧bk'.hs=W.bk.hs∧bk'.hm=W.bk.hm∧L'.ps=L.ps
theorem WAt.notR{K:Nat→Prop}{w:World}{L:WL}{W:WM}(h:WAt K w L W){t:TypeId}{s n:Nat}{v:Value}{xs:List Value}(hv:w.ownsRow 0 t s v n xs)(ht:¬WTy t):∀ k,WFoot L k→¬v.ownBlock=some k:=fun k hk e=>by
 obtain⟨u,hu,hd⟩:=h.ty hk
 have:=hu.inj (zy hv e)
 subst this
 exact ht hd
theorem UR:¬WTy 9:=by
 intro hd
 unfold WTy at hd
 rcases hd with e|e|e|e|e|e <;> exact absurd e (by decide)
theorem Lz{K:Nat→Prop}{L1:WL}{W1:WM}{wr w4:World}{v4 x:Value}{n:Nat}(h:WAt K wr L1 W1)(hn:n=W1.bk.ns.length+1)(ho:w4.ownsRow 0 91 1 v4 n (W1.bk.ns++[x]))(hf:Fr (fun k=>L1.ns.ownBlock=some k) wr w4)(hn4:∀ k,v4.ownBlock=some k→L1.ns.ownBlock=some k∨wr.heap.size≤k) :
  WStep K L1 wr {L1 with ns:=v4} {W1 with bk:={W1.bk with ns:=W1.bk.ns++[x]}} (w4.setCell ⟨L1.wb,19,none⟩ v4) :=
 WStep.ns h (by rw[List.length_append,List.length_singleton,← hn];exact ho) hf hn4
theorem LA{K:Nat→Prop}{L1:WL}{W1:WM}{wr w4:World}{v4:Value}{m n:Nat}(h:WAt K wr L1 W1)(hn:n=W1.bk.nm.length+1)(ho:w4.ownsRow 0 3 1 v4 n (ZK W1.bk.nm++[.int .i64 m]))(hf:Fr (fun k=>L1.nm.ownBlock=some k) wr w4)(hn4:∀ k,v4.ownBlock=some k→L1.nm.ownBlock=some k∨wr.heap.size≤k) :
  WStep K L1 wr {L1 with nm:=v4} {W1 with bk:={W1.bk with nm:=W1.bk.nm++[m]}} (w4.setCell ⟨L1.wb,20,none⟩ v4) :=
 WStep.nm h (by rw[List.length_append,List.length_singleton,← hn,Wd];exact ho) hf hn4
theorem QX(K:Nat→Prop)(L:WL)(W:WM)(lv:Value)(l:List Value)(w0 w:World)(h0:WAt K w0 L W)(f0:Fr Nil w0 w)(hl:w.ownsRow 0 9 1 lv l.length l)(hnew:∀ k,lv.ownBlock=some k→w0.heap.size≤k)(hn:l.length<100000000)(hb:W.base<100000000)(hx:W.next<100000000)(hs:BSmall W.bk) :
  Calls Tryz.prog 120 #[.pointer (some ⟨L.wb,15,none⟩),lv] w fun e w'=>e=.returned (.tuple #[])∧∃ L' bk',WStep K L w0 L' (W.booked bk') w'∧Booked W.bk bk'∧L'.ps=L.ps:=by
 have HM:=Z (WD K L W w (h0.nil f0) hb hx)
 have H0:=Z h0
 have F0:=Z f0
 have HL:=Z hl
 have HN:=Z hnew
 have HSM:=Z hs
 obtain⟨la,lc,rfl⟩:=z8 hl
 have HLEN:=Z hn
 clear h0 f0 hl hnew
 obtain⟨m,hm⟩:∃ m,m=W.base+W.next+1:=⟨_,rfl⟩
 have hml:m<1000000000000:=by omega
 rw[← hm] at HM
 clear hm hb hx hs
 go_enter Tryz.func120,Tryz.ntmps120
 go_wp2_with fail
 refine HM.out.mono ?_
 rintro e w1 ⟨rfl,hs1⟩
 have HS1:=Z hs1
 clear hs1
 go_wp2_with fail
 refine(WE m w1 hml).mono ?_
 rintro e w3 ⟨rfl,f3⟩
 have HS3:Hid (WStep K L w0 L (W.booked W.bk) w3):=(WStep.nil H0.out F0.out).trans (HS1.out.trans (WStep.nil HS1.out.rep f3))
 have HV3:Hid (w3.ownsRow 0 9 1 (.slice la l.length lc) l.length l):=z7 (z7 HL.out HS1.out.fr (fun k e hk=>(H0.out.nil F0.out).notR HL.out UR k hk e)) f3 (fun _ _=>id)
 generalize hnn:l.length=n at HV3 HN HLEN ⊢
 have HNN:=Z hnn
 have hn:n<100000000:=HLEN.out
 clear f3 HS1 HL HM hnn hml
 go_wp2_with fail
 go_loopw [6] (fun t6 w'=>∃ i:Nat,∃ l':List Value,i≤n∧t6=.int .i64 i∧l'.length=n∧w'.ownsRow 0 9 1 (.slice la n lc) n l'∧Fr (fun k=>(Value.slice la n lc).ownBlock=some k) w3 w') (fun t6 _=>n-(intOf t6).toNat)
 case atStart=>exact⟨0,l,Nat.zero_le _,rfl,HNN.out,HV3.out,G _ _⟩
 case round =>
  obtain⟨i,l',hi,rfl,hl',hv,hf⟩:=hrel
  have HV:=Z hv
  have HF:=Z hf
  have HL':=Z hl'
  by_cases hlt:i<n
  ·obtain⟨g,rfl⟩:∃ g,la=some ⟨g,0,none⟩:=by
    obtain⟨g,cap,e,_⟩:=zi hv (by omega)
    simp at e;exact⟨g,e.1⟩
   have hz:∀ k,wr.frozen? ⟨g,k,none⟩=false:=fun k=>YH hv k
   have hc:wr.cell? ⟨g,i,none⟩=some (l'[i]'(by rw[hl'];exact hlt)):=own_cell? hv i _ (by simp[hl',hlt])
   generalize l'[i]'(by rw[hl'];exact hlt)=x at hc
   clear hv hf hl'
   go_wp2_with fail
   have hset:=Zu HV.out i (.string (ZL m))
   have hF:=HF.out
   exact⟨⟨i+1,_,by omega,by push_cast;rfl,by rw[List.length_set];exact HL'.out,hset,(by repeat' first|(with_reducible first|apply G|assumption|apply O|apply U|apply V|apply z6)|(intro _;rfl))⟩,by simp[intOf];omega⟩
  ·have hin:i=n:=by omega
   subst hin
   have HS4:=Z (HS3.out.far HF.out HN.out (fun k hk e=>HS3.out.rep.notR HV3.out UR k hk e) H0.out.low)
   have HB4:Hid (MM K L W w0 i 0 (.slice la i lc) wr):=⟨⟨l',L,W.bk,by rw[hl'];exact HV.out,HN.out,by rw[hl'];rfl,HS4.out,rfl,rfl,rfl,rfl,rfl,rfl,rfl⟩⟩
   clear hv hf hl'
   go_wp2_with fail
   clear HS4 HV HF HL' HV3 HS3 HN HLEN HNN hi hlt
   go_loopw [1,7] (fun t1 t7 w'=>∃ j:Nat,j≤4∧t7=.int .i64 j∧MM K L W w0 i j t1 w') (fun _ t7 _=>4-(intOf t7).toNat)
   case atStart=>exact⟨0,by omega,rfl,HB4.out⟩
   case round =>
    obtain⟨j,hj,rfl,hbk⟩:=hrel
    have HBK:=Z hbk
    by_cases hlt:j<4
    ·obtain⟨⟨l1,L1,bk1,hv1,hn1,hl1,hs1,e1,e2,e3,e4,e5,e6,e7⟩⟩:=hbk
     have HV1:=Z hv1
     have HN1:=Z hn1
     have HL1:=Z hl1
     have HS1:=Z hs1
     have HE:=Z (And.intro e1 (And.intro e2 (And.intro e3 (And.intro e4 (And.intro e5 (And.intro e6 e7))))))
     have hl1':i+j<1000000000:=by omega
     rw[hl1] at hv1 HV1
     obtain⟨a1,c1,rfl⟩:=z8 hv1
     have hwb:=hs1.wb
     have hb0:=hs1.rep.blk
     rw[hwb] at hb0
     obtain⟨va,vc,hvs⟩:∃ va vc,L1.ns=.slice va bk1.ns.length vc:=z8 hs1.rep.book.ns
     obtain⟨ma,mc,hvm⟩:∃ ma mc,L1.nm=.slice ma bk1.nm.length mc:=z8 hs1.rep.book.nm
     have hvsl:bk1.ns.length<1000000000:=by have:=HSM.out.ns;omega
     have hvml:bk1.nm.length<1000000000:=by have:=HSM.out.nm;omega
     have hc:=hb0.cell
     simp only[WM.cells,WM.booked,hvs,hvm] at hc
     have HROW:=Z hs1.rep.book.ns
     have HWB:=Z hwb
     have HVS:=Z hvs
     have HVM:=Z hvm
     rw[hvs] at HROW
     have HB4':Hid (∀ w4:World,Fr (fun k=>(Value.slice va bk1.ns.length vc).ownBlock=some k) wr w4→Blk w4 L.wb ((W.booked bk1).cells L1) 49):=fun w4 f=>hb0.fr f (za HROW.out hb0 (by decide))
     have HST1:Hid (∀ (v4:Value) (w4:World) (n:Nat),n=bk1.ns.length+1→w4.ownsRow 0 91 1 v4 n (bk1.ns++[.slice a1 (i+j) c1])→Fr (fun k=>(Value.slice va bk1.ns.length vc).ownBlock=some k) wr w4→(∀ k,v4.ownBlock=some k→(Value.slice va bk1.ns.length vc).ownBlock=some k∨wr.heap.size≤k) →
       WStep K L1 wr {L1 with ns:=v4} (W.booked {bk1 with ns:=bk1.ns++[.slice a1 (i+j) c1]}) (w4.setCell ⟨L.wb,19,none⟩ v4)):=fun v4 w4 n e ho hf hn=>by rw[← hwb];rw[← hvs] at hf hn;exact Lz HS1.out.rep e ho hf hn
     clear hv1 hn1 hl1 hs1 e1 e2 e3 e4 e5 e6 e7 hwb hvs hvm hb0
     go_wp2_with (at_builtin;(first
      | (refine zf rfl _ _ _ _ rfl _ _ (by rfl) (by rfl) (YB Tryz.underlying91 MB (by decide) _ _ _ _ HV7.out (.string (ZL m)) rfl hl1' _ (by repeat' first|(with_reducible first|apply G|assumption|apply O|apply U|apply V|apply z6)|(intro _;rfl)) _ (by exact Blk.newAt _ [_] _ _ (by simp[World.setCell])) _) ?_;rintro v8 w8 ⟨ho8,hf8,hn8⟩)
      | (refine zf rfl _ _ _ _ rfl _ _ (by rfl) (by rfl) (YB Tryz.underlying26 Vt (by decide) _ _ _ _ HROW2.out (.int .i64 m) rfl hvml _ (by repeat' first|(with_reducible first|apply G|assumption|apply O|apply U|apply V|apply z6)|(intro _;rfl)) _ (by exact Blk.newAt _ [_] _ _ (by simp[World.setCell])) _) ?_;rintro v6 w6 ⟨ho6,hf6,hn6⟩;have hb6:=HB5.out _ hf6;have hc6:=hb6.cell;simp only[WM.cells,WM.booked] at hc6;have hz6:=hb6.frozen;have HS7:=Z (HST2.out _ _ _ rfl ho6 hf6 hn6);have HV7:Hid (World.ownsRow _ 0 9 1 (.slice a1 (i+j) c1) (i+j) l1):=z7 HV5.out HS7.out.fr (fun k e hk=>HS5.out.rep.notR HV5.out UR k hk e);obtain⟨va6,vc6,rfl⟩:=z8 ho6)
      | (refine zf rfl _ _ _ _ rfl _ _ (by rfl) (by rfl) (YB Tryz.underlying44 Ll (by decide) wr _ _ _ HROW.out (.slice a1 (i+j) c1) rfl hvsl _ (by repeat' first|(with_reducible first|apply G|assumption|apply O|apply U|apply V|apply z6)|(intro _;rfl)) _ (by exact Blk.new _ [_] _) _) ?_;rintro v4 w4 ⟨ho4,hf4,hn4⟩;have hb4:=HB4'.out _ hf4;have hc4:=hb4.cell;simp only[WM.cells,WM.booked,HVM.out] at hc4;have hz4:=hb4.frozen;have HS5:=Z (HST1.out _ _ _ rfl ho4 hf4 hn4);have HV5:Hid (World.ownsRow _ 0 9 1 (.slice a1 (i+j) c1) (i+j) l1):=z7 HV1.out HS5.out.fr (fun k e hk=>HS1.out.rep.notR HV1.out UR k hk e);have HROW2:=Z HS5.out.rep.book.nm;rw[show({L1 with ns:=v4}:WL).nm=.slice ma bk1.nm.length mc from HVM.out] at HROW2;have HB5:Hid (∀ w6:World,Fr (fun k=>(Value.slice ma bk1.nm.length mc).ownBlock=some k) _ w6→Blk w6 L.wb ((W.booked {bk1 with ns:=bk1.ns++[.slice a1 (i+j) c1]}).cells {L1 with ns:=v4}) 49):=(fun w6 f=>by rw[← HWB.out];exact HS5.out.rep.blk.fr f (za HROW2.out HS5.out.rep.blk (by decide)));have HST2:Hid (∀ (v6:Value) (w6:World) (n:Nat),n=bk1.nm.length+1→w6.ownsRow 0 3 1 v6 n (ZK bk1.nm++[.int .i64 m])→Fr (fun k=>(Value.slice ma bk1.nm.length mc).ownBlock=some k) (w4.setCell ⟨L.wb,19,none⟩ v4) w6→(∀ k,v6.ownBlock=some k→(Value.slice ma bk1.nm.length mc).ownBlock=some k∨(w4.setCell ⟨L.wb,19,none⟩ v4).heap.size≤k)→WStep K {L1 with ns:=v4} (w4.setCell ⟨L.wb,19,none⟩ v4) {L1 with ns:=v4,nm:=v6} (W.booked {bk1 with ns:=bk1.ns++[.slice a1 (i+j) c1],nm:=bk1.nm++[m]}) (w6.setCell ⟨L.wb,20,none⟩ v6)):=(fun v6 w6 n e ho hf hn=>by rw[← HWB.out] at hf hn ⊢;rw[← HVM.out] at hf hn;have hr:=HS5.out.rep;rw[← HWB.out] at hr;exact LA (L1:={L1 with ns:=v4}) (W1:=W.booked {bk1 with ns:=bk1.ns++[.slice a1 (i+j) c1]}) (m:=m) hr e ho hf hn);obtain⟨va4,vc4,rfl⟩:=z8 ho4)))
     have hS7:=HS1.out.trans (HS5.out.trans HS7.out)
     have hS8:WStep K L w0 _ _ w8:=hS7.far hf8 HN1.out (fun k hk e=>hS7.rep.notR HV7.out UR k hk e) H0.out.low
     have hle:w0.heap.size≤(w6.setCell ⟨L.wb,20,none⟩ _).heap.size:=hS7.fr.size
     obtain⟨e1,e2,e3,e4,e5,e6,e7⟩:=HE.out
     have hlen:(l1++[.string (ZL m)]:List Value).length=i+j+1:=by rw[List.length_append,List.length_singleton,HL1.out]
     refine⟨⟨j+1,by omega,by push_cast;rfl,⟨⟨l1++[.string (ZL m)],_,_,by rw[hlen];exact ho8,fun k e=>(hn8 k e).elim (HN1.out k) (fun e=>Nat.le_trans hle e),by rw[hlen];omega,hS8,?_,?_,e3,e4,e5,e6,e7⟩⟩⟩,by simp[intOf];omega⟩
     ·simp only[List.length_append,List.length_singleton];omega
     ·simp only[List.length_append,List.length_singleton];omega
    ·have hj4:j=4:=by omega
     subst hj4
     obtain⟨⟨l1,L1,bk1,hv1,hn1,hl1,hs1,e1,e2,e3,e4,e5,e6,e7⟩⟩:=hbk
     have HS1:=Z hs1
     have HE:Hid (Booked W.bk bk1):=⟨by rw[e3];omega,by rw[e4];omega,by omega,by omega,by rw[e5];omega,by rw[e6];omega⟩
     have HPS:=Z e7
     clear hv1 hn1 hl1 hs1 e1 e2 e3 e4 e5 e6 e7
     go_wp2_with fail
     exact bodyPost_end (v:=.tuple #[]) (by simp[results,go_sem]) rfl ⟨rfl,L1,bk1,HS1.out,HE.out,HPS.out⟩
theorem NB:((Tryz.prog.info? 75).map fun i=>(i.zero.map (·.cells.size),i.size,i.bytes))=some (some 2,2,24):=by kernel_rfl
theorem NC(w:World)(v:Value)(n:Nat)(xs:List Value)(h:w.ownsRow 0 75 2 v n xs)(m:Nat)(t:ByteArray)(hn:n<1000000000)(W0:World)(hf:Fr Nil w W0)(N:Nat)(hN:Blk W0 N [.int .i64 m,.string t] 75)(ty:TypeId) :
  ∃ v' w',(Builtin.append_ #[66,66] ty #[v,.slice (some ⟨N,0,none⟩) 1 1]).run Tryz.prog W0=.ok v' w' ∧
   (w'.ownsRow 0 75 2 v' (n+1) (xs++[.int .i64 m,.string t])∧Fr (fun k=>v.ownBlock=some k) w w'∧(∀ k,v'.ownBlock=some k→v.ownBlock=some k∨w.heap.size≤k)):=by
 have ho:=z7 h hf (fun _ _=>id)
 obtain⟨v',w',hr,h1,h2,h3⟩:=zo (P:=Tryz.prog) 66 ty 75 2 24 Tryz.underlying66 NB (by omega) v n xs ho ⟨N,0,none⟩ 1 1 [.int .i64 m,.string t] rfl
  (fun j u hu=>by rw[Addr.add_lit,Nat.zero_add,hN.cell];exact hu) (by intro u hu;simp at hu;rcases hu with rfl|rfl <;> rfl) (by unfold maxLen;omega) (by omega)
 refine⟨v',w',hr,h1,(hf.mono (fun _ _ e=>absurd e id)).trans' ((Fr.of_grown h2).mono (fun i _ h=>h)) (fun i _ h=>h),fun k hk=>?_⟩
 rcases h3 with h3|h3
 ·exact .inl (by rw[← h3];exact hk)
 ·rw[h3] at hk;simp at hk;have:=hf.size;exact .inr (by omega)
structure MN(K:Nat→Prop)(L:WL)(W:WM)(w0:World)(n xb m i:Nat)(lv:Value)(w':World):Prop where
 ex:∃ (l':List Value) (L':WL) (bk':BK),w'.ownsRow 0 75 2 lv (n+i) l'∧(∀ k,lv.ownBlock=some k→w0.heap.size≤k)∧WStep K L w0 L' (W.booked bk') w'∧bk'.hs.length=W.bk.hs.length+i∧bk'.hm.length=W.bk.hm.length+i∧bk'.vs=W.bk.vs∧bk'.vm=W.bk.vm∧bk'.ns=W.bk.ns∧bk'.nm=W.bk.nm∧L'.ps=L.ps
 box:Blk w' xb [.int .i64 m,.string (ZL m)] 75
 notBox:¬lv.ownBlock=some xb
theorem WQ:¬WTy 75:=by
 intro hd
 unfold WTy at hd
 rcases hd with e|e|e|e|e|e <;> exact absurd e (by decide)
theorem LB{K:Nat→Prop}{L1:WL}{W1:WM}{wr w4:World}{v4 x:Value}{n:Nat}(h:WAt K wr L1 W1)(hn:n=W1.bk.hs.length+1)(ho:w4.ownsRow 0 66 1 v4 n (W1.bk.hs++[x]))(hf:Fr (fun k=>L1.hs.ownBlock=some k) wr w4)(hn4:∀ k,v4.ownBlock=some k→L1.hs.ownBlock=some k∨wr.heap.size≤k) :
  WStep K L1 wr {L1 with hs:=v4} {W1 with bk:={W1.bk with hs:=W1.bk.hs++[x]}} (w4.setCell ⟨L1.wb,21,none⟩ v4) :=
 WStep.hs h (by rw[List.length_append,List.length_singleton,← hn];exact ho) hf hn4
theorem LC{K:Nat→Prop}{L1:WL}{W1:WM}{wr w4:World}{v4:Value}{m n:Nat}(h:WAt K wr L1 W1)(hn:n=W1.bk.hm.length+1)(ho:w4.ownsRow 0 3 1 v4 n (ZK W1.bk.hm++[.int .i64 m]))(hf:Fr (fun k=>L1.hm.ownBlock=some k) wr w4)(hn4:∀ k,v4.ownBlock=some k→L1.hm.ownBlock=some k∨wr.heap.size≤k) :
  WStep K L1 wr {L1 with hm:=v4} {W1 with bk:={W1.bk with hm:=W1.bk.hm++[m]}} (w4.setCell ⟨L1.wb,22,none⟩ v4) :=
 WStep.hm h (by rw[List.length_append,List.length_singleton,← hn,Wd];exact ho) hf hn4
theorem QY(K:Nat→Prop)(L:WL)(W:WM)(lv:Value)(l:List (Nat × ByteArray))(w0 w:World)(h0:WAt K w0 L W)(f0:Fr Nil w0 w)(hl:w.ownsRow 0 75 2 lv l.length (zD l))(hnew:∀ k,lv.ownBlock=some k→w0.heap.size≤k)(hn:l.length<100000000)(hb:W.base<100000000)(hx:W.next<100000000)(hs:BSmall W.bk) :
  Calls Tryz.prog 122 #[.pointer (some ⟨L.wb,15,none⟩),lv] w fun e w'=>e=.returned (.tuple #[])∧∃ L' bk',WStep K L w0 L' (W.booked bk') w'∧Booked W.bk bk'∧L'.ps=L.ps:=by
 have HM:=Z (WD K L W w (h0.nil f0) hb hx)
 have H0:=Z h0
 have F0:=Z f0
 have HL:=Z hl
 have HN:=Z hnew
 have HSM:=Z hs
 have HLT:Hid (∀ k,lv.ownBlock=some k→k<w.heap.size):=fun k e=>zA hl e
 obtain⟨la,lc,rfl⟩:=z8 hl
 have HLEN:=Z hn
 clear h0 f0 hl hnew
 obtain⟨m,hm⟩:∃ m,m=W.base+W.next+1:=⟨_,rfl⟩
 have hml:m<1000000000000:=by omega
 rw[← hm] at HM
 clear hm hb hx hs
 go_enter Tryz.func122,Tryz.ntmps122
 go_wp2_with fail
 refine HM.out.mono ?_
 rintro e w1 ⟨rfl,hs1⟩
 have HS1:=Z hs1
 clear hs1
 go_wp2_with fail
 refine(WE m w1 hml).mono ?_
 rintro e w2 ⟨rfl,f2⟩
 go_wp2_with fail
 have hbx:Blk (w2.alloc (.cells #[.int .i64 m,.string (ZL m)] 75)) w2.heap.size [.int .i64 m,.string (ZL m)] 75:=Blk.new w2 [.int .i64 m,.string (ZL m)] _
 have f3:Fr Nil w1 (w2.alloc (.cells #[.int .i64 m,.string (ZL m)] 75)):=f2.alloc _
 have hlt2:w.heap.size≤w2.heap.size:=Nat.le_trans HS1.out.fr.size f2.size
 generalize w2.alloc (.cells #[.int .i64 m,.string (ZL m)] 75)=w3 at hbx f3 ⊢
 generalize w2.heap.size=xb at hbx hlt2 ⊢
 have HBX:=Z hbx
 have HNB:Hid (¬(Value.slice la l.length lc).ownBlock=some xb):=fun e=>by have:=HLT.out xb e;omega
 have HS3:Hid (WStep K L w0 L (W.booked W.bk) w3):=(WStep.nil H0.out F0.out).trans (HS1.out.trans (WStep.nil HS1.out.rep f3))
 have HV3:Hid (w3.ownsRow 0 75 2 (.slice la l.length lc) l.length (zD l)):=z7 (z7 HL.out HS1.out.fr (fun k e hk=>(H0.out.nil F0.out).notR HL.out WQ k hk e)) f3 (fun _ _=>id)
 generalize l.length=n at HV3 HN HLEN HNB ⊢
 have hn:n<100000000:=HLEN.out
 clear hbx f3 f2 hlt2 HS1 HL HM hml HLT
 go_loopw [6] (fun t6 w'=>∃ i:Nat,∃ l':List Value,i≤n∧t6=.int .i64 i∧w'.ownsRow 0 75 2 (.slice la n lc) n l'∧Fr (fun k=>(Value.slice la n lc).ownBlock=some k) w3 w') (fun t6 _=>n-(intOf t6).toNat)
 case atStart=>exact⟨0,zD l,Nat.zero_le _,rfl,HV3.out,G _ _⟩
 case round =>
  obtain⟨i,l',hi,rfl,hv,hf⟩:=hrel
  have HV:=Z hv
  have HF:=Z hf
  by_cases hlt:i<n
  ·obtain⟨g,rfl⟩:∃ g,la=some ⟨g,0,none⟩:=by
    obtain⟨g,cap,e,_⟩:=zi hv (by omega)
    simp at e;exact⟨g,e.1⟩
   have hz:∀ k,wr.frozen? ⟨g,k,none⟩=false:=fun k=>YH hv k
   have hll:l'.length=n*2:=hv.1
   have hc0:wr.cell? ⟨g,i*2,none⟩=some (l'[i*2]'(by omega)):=own_cell? hv (i*2) _ (List.getElem?_eq_getElem (by omega))
   have hc1:wr.cell? ⟨g,i*2+1,none⟩=some (l'[i*2+1]'(by omega)):=own_cell? hv (i*2+1) _ (List.getElem?_eq_getElem (by omega))
   have hx:=(HBX.out.fr hf HNB.out).cell
   generalize l'[i*2]'(by omega)=x0 at hc0
   generalize l'[i*2+1]'(by omega)=x1 at hc1
   clear hv hf hll
   go_wp2_with fail
   have hset:=Zu (Zu HV.out (i*2) (.int .i64 m)) (i*2+1) (.string (ZL m))
   have hF:=HF.out
   exact⟨⟨i+1,_,by omega,by push_cast;rfl,hset,(by repeat' first|(with_reducible first|apply G|assumption|apply O|apply U|apply V|apply z6)|(intro _;rfl))⟩,by simp[intOf];omega⟩
  ·have hin:i=n:=by omega
   subst hin
   have HS4:=Z (HS3.out.far HF.out HN.out (fun k hk e=>HS3.out.rep.notR HV3.out WQ k hk e) H0.out.low)
   have HB4:Hid (MN K L W w0 i xb m 0 (.slice la i lc) wr):=⟨⟨l',L,W.bk,HV.out,HN.out,HS4.out,rfl,rfl,rfl,rfl,rfl,rfl,rfl⟩,HBX.out.fr HF.out HNB.out,HNB.out⟩
   clear hv hf
   go_wp2_with fail
   clear HS4 HV HF HV3 HS3 HN HLEN HBX HNB hi hlt
   go_loopw [1,7] (fun t1 t7 w'=>∃ j:Nat,j≤4∧t7=.int .i64 j∧MN K L W w0 i xb m j t1 w') (fun _ t7 _=>4-(intOf t7).toNat)
   case atStart=>exact⟨0,by omega,rfl,HB4.out⟩
   case round =>
    obtain⟨j,hj,rfl,hbk⟩:=hrel
    have HBK:=Z hbk
    by_cases hlt:j<4
    ·obtain⟨⟨l1,L1,bk1,hv1,hn1,hs1,e1,e2,e3,e4,e5,e6,e7⟩,hbx1,hnb1⟩:=hbk
     have HV1:=Z hv1
     have HN1:=Z hn1
     have HBX1:=Z hbx1
     have hx1:=hbx1.cell
     have HS1:=Z hs1
     have HE:=Z (And.intro e1 (And.intro e2 (And.intro e3 (And.intro e4 (And.intro e5 (And.intro e6 e7))))))
     have hl1':i+j<1000000000:=by omega
     obtain⟨a1,c1,rfl⟩:=z8 hv1
     have hwb:=hs1.wb
     have hb0:=hs1.rep.blk
     rw[hwb] at hb0
     obtain⟨va,vc,hvs⟩:∃ va vc,L1.hs=.slice va bk1.hs.length vc:=z8 hs1.rep.book.hs
     obtain⟨ma,mc,hvm⟩:∃ ma mc,L1.hm=.slice ma bk1.hm.length mc:=z8 hs1.rep.book.hm
     have hvsl:bk1.hs.length<1000000000:=by have:=HSM.out.hs;omega
     have hvml:bk1.hm.length<1000000000:=by have:=HSM.out.hm;omega
     have hc:=hb0.cell
     simp only[WM.cells,WM.booked,hvs,hvm] at hc
     have HROW:=Z hs1.rep.book.hs
     have HWB:=Z hwb
     have HVS:=Z hvs
     have HVM:=Z hvm
     rw[hvs] at HROW
     have HB4':Hid (∀ w4:World,Fr (fun k=>(Value.slice va bk1.hs.length vc).ownBlock=some k) wr w4→Blk w4 L.wb ((W.booked bk1).cells L1) 49):=fun w4 f=>hb0.fr f (za HROW.out hb0 (by decide))
     have HST1:Hid (∀ (v4:Value) (w4:World) (n:Nat),n=bk1.hs.length+1→w4.ownsRow 0 66 1 v4 n (bk1.hs++[.slice a1 (i+j) c1])→Fr (fun k=>(Value.slice va bk1.hs.length vc).ownBlock=some k) wr w4→(∀ k,v4.ownBlock=some k→(Value.slice va bk1.hs.length vc).ownBlock=some k∨wr.heap.size≤k) →
       WStep K L1 wr {L1 with hs:=v4} (W.booked {bk1 with hs:=bk1.hs++[.slice a1 (i+j) c1]}) (w4.setCell ⟨L.wb,21,none⟩ v4)):=fun v4 w4 n e ho hf hn=>by rw[← hwb];rw[← hvs] at hf hn;exact LB HS1.out.rep e ho hf hn
     clear hv1 hn1 hs1 e1 e2 e3 e4 e5 e6 e7 hwb hvs hvm hb0 hbx1 hnb1
     go_wp2_with (at_builtin;(first
      | (refine zf rfl _ _ _ _ rfl _ _ (by rfl) (by rfl) (NC _ _ _ _ HV7.out m (ZL m) hl1' _ (by repeat' first|(with_reducible first|apply G|assumption|apply O|apply U|apply V|apply z6)|(intro _;rfl)) _ (by exact Blk.newAt _ [_,_] _ _ (by simp[World.setCell])) _) ?_;rintro v8 w8 ⟨ho8,hf8,hn8⟩)
      | (refine zf rfl _ _ _ _ rfl _ _ (by rfl) (by rfl) (YB Tryz.underlying26 Vt (by decide) _ _ _ _ HROW2.out (.int .i64 m) rfl hvml _ (by repeat' first|(with_reducible first|apply G|assumption|apply O|apply U|apply V|apply z6)|(intro _;rfl)) _ (by exact Blk.newAt _ [_] _ _ (by simp[World.setCell])) _) ?_;rintro v6 w6 ⟨ho6,hf6,hn6⟩;have hb6:=HB5.out _ hf6;have hc6:=hb6.cell;simp only[WM.cells,WM.booked] at hc6;have hz6:=hb6.frozen;have HS7:=Z (HST2.out _ _ _ rfl ho6 hf6 hn6);have HBX7:=Z (HBX5.out.fr HS7.out.fr (HS5.out.rep.notB HBX5.out WQ));have hx7:=HBX7.out.cell;have HV7:Hid (World.ownsRow _ 0 75 2 (.slice a1 (i+j) c1) (i+j) l1):=z7 HV5.out HS7.out.fr (fun k e hk=>HS5.out.rep.notR HV5.out WQ k hk e);obtain⟨va6,vc6,rfl⟩:=z8 ho6)
      | (refine zf rfl _ _ _ _ rfl _ _ (by rfl) (by rfl) (YB Tryz.underlying45 Lm (by decide) wr _ _ _ HROW.out (.slice a1 (i+j) c1) rfl hvsl _ (by repeat' first|(with_reducible first|apply G|assumption|apply O|apply U|apply V|apply z6)|(intro _;rfl)) _ (by exact Blk.new _ [_] _) _) ?_;rintro v4 w4 ⟨ho4,hf4,hn4⟩;have hb4:=HB4'.out _ hf4;have hc4:=hb4.cell;simp only[WM.cells,WM.booked,HVM.out] at hc4;have hz4:=hb4.frozen;have HS5:=Z (HST1.out _ _ _ rfl ho4 hf4 hn4);have HBX5:=Z (HBX1.out.fr HS5.out.fr (HS1.out.rep.notB HBX1.out WQ));have HV5:Hid (World.ownsRow _ 0 75 2 (.slice a1 (i+j) c1) (i+j) l1):=z7 HV1.out HS5.out.fr (fun k e hk=>HS1.out.rep.notR HV1.out WQ k hk e);have HROW2:=Z HS5.out.rep.book.hm;rw[show({L1 with hs:=v4}:WL).hm=.slice ma bk1.hm.length mc from HVM.out] at HROW2;have HB5:Hid (∀ w6:World,Fr (fun k=>(Value.slice ma bk1.hm.length mc).ownBlock=some k) _ w6→Blk w6 L.wb ((W.booked {bk1 with hs:=bk1.hs++[.slice a1 (i+j) c1]}).cells {L1 with hs:=v4}) 49):=(fun w6 f=>by rw[← HWB.out];exact HS5.out.rep.blk.fr f (za HROW2.out HS5.out.rep.blk (by decide)));have HST2:Hid (∀ (v6:Value) (w6:World) (n:Nat),n=bk1.hm.length+1→w6.ownsRow 0 3 1 v6 n (ZK bk1.hm++[.int .i64 m])→Fr (fun k=>(Value.slice ma bk1.hm.length mc).ownBlock=some k) (w4.setCell ⟨L.wb,21,none⟩ v4) w6→(∀ k,v6.ownBlock=some k→(Value.slice ma bk1.hm.length mc).ownBlock=some k∨(w4.setCell ⟨L.wb,21,none⟩ v4).heap.size≤k)→WStep K {L1 with hs:=v4} (w4.setCell ⟨L.wb,21,none⟩ v4) {L1 with hs:=v4,hm:=v6} (W.booked {bk1 with hs:=bk1.hs++[.slice a1 (i+j) c1],hm:=bk1.hm++[m]}) (w6.setCell ⟨L.wb,22,none⟩ v6)):=(fun v6 w6 n e ho hf hn=>by rw[← HWB.out] at hf hn ⊢;rw[← HVM.out] at hf hn;have hr:=HS5.out.rep;rw[← HWB.out] at hr;exact LC (L1:={L1 with hs:=v4}) (W1:=W.booked {bk1 with hs:=bk1.hs++[.slice a1 (i+j) c1]}) (m:=m) hr e ho hf hn);obtain⟨va4,vc4,rfl⟩:=z8 ho4)))
     have hS7:=HS1.out.trans (HS5.out.trans HS7.out)
     have hS8:WStep K L w0 _ _ w8:=hS7.far hf8 HN1.out (fun k hk e=>hS7.rep.notR HV7.out WQ k hk e) H0.out.low
     have hle:w0.heap.size≤(w6.setCell ⟨L.wb,22,none⟩ _).heap.size:=hS7.fr.size
     obtain⟨e1,e2,e3,e4,e5,e6,e7⟩:=HE.out
     have hbx8:=HBX7.out.fr hf8 HBK.out.notBox
     refine⟨⟨j+1,by omega,by push_cast;rfl,⟨⟨l1++[.int .i64 m,.string (ZL m)],_,_,ho8,fun k e=>(hn8 k e).elim (HN1.out k) (fun e=>Nat.le_trans hle e),hS8,?_,?_,e3,e4,e5,e6,e7⟩,hbx8,fun e=>(hn8 xb e).elim HBK.out.notBox (fun e=>by have:=HBX7.out.lt;omega)⟩⟩,by simp[intOf];omega⟩
     ·simp only[List.length_append,List.length_singleton];omega
     ·simp only[List.length_append,List.length_singleton];omega
    ·have hj4:j=4:=by omega
     subst hj4
     obtain⟨⟨l1,L1,bk1,hv1,hn1,hs1,e1,e2,e3,e4,e5,e6,e7⟩,_,_⟩:=hbk
     have HS1:=Z hs1
     have HE:Hid (Booked W.bk bk1):=⟨by rw[e3];omega,by rw[e4];omega,by rw[e5];omega,by rw[e6];omega,by omega,by omega⟩
     have HPS:=Z e7
     clear hv1 hn1 hs1 e1 e2 e3 e4 e5 e6 e7
     go_wp2_with fail
     exact bodyPost_end (v:=.tuple #[]) (by simp[results,go_sem]) rfl ⟨rfl,L1,bk1,HS1.out,HE.out,HPS.out⟩
end Go.Proofs.YtkhnggkkiefcdaaGreatDoor
