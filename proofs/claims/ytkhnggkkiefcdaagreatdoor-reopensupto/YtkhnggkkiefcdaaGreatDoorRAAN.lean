/- larder: joined texts -/
import Derived.Test.YtkhnggkkiefcdaaGreatDoorRAAM
namespace Go.Proofs.YtkhnggkkiefcdaaGreatDoor
open Go.RowKit
set_option maxRecDepth 100000
set_option maxHeartbeats 8000000
theorem MR(N:NM)(M:DM)(key value:ByteArray)(f g:Nat)(h:Zc key value≠0):N.put M key value f g=(0,Zc key value,N,M):=by
 unfold NM.put Zc at *
 cases hk:zm key
 ·simp
 ·rw[hk] at h
  by_cases hv:128<value.size
  ·simp[hv]
  ·simp[hv] at h
theorem PP(N:NM)(M:DM)(key:ByteArray)(f g:Nat)(h:zT key≠0):N.delete M key f g=(0,zT key,N,M):=by
 unfold NM.delete zT at *
 cases hk:zm key
 ·simp
 ·rw[hk] at h;simp at h
theorem Mf(herr:zr)(K:Nat→Prop)(B:Nat)(L:WL)(W:WM)(X:NL)(N:NM)(M:DM)(o:OpM)(w:World)(h:Play K B w L W X N M)(hk:o.kind=2)(hbad:Zc o.key o.text≠0)(hnode:∀ u∈zc N.S.keys o.key,zE u.node) :
  Calls Tryz.prog 61 #[.pointer (some ⟨L.wb,0,none⟩),.agg o.cells.toArray] w fun e w'=>e=.returned (.bool true)∧∃ X',PStep K B L X M w K L W X' N M w':=by
 obtain⟨kind,a,b,c,key,text,v,tails⟩:=o
 simp only at hk hbad hnode ⊢
 subst hk
 have HBP:=Z (fun wx=>YN key text wx)
 have HPB:=Z (fun f g=>MR N M key text f g hbad)
 have hfit:zm key=true→text.size≤128→∀ H,Xn N M H key (putV key text):=fun h1 h2=>absurd (by unfold Zc;rw[if_pos h1,if_neg (by omega)]) hbad
 generalize Zc key text=bp at HBP HPB hbad
 have hb0:(bp==0)=false:=by simp[hbad]
 simp only[OpM.cells,Ver.cells,List.cons_append,List.nil_append]
 have f1:Fr Nil w (w.alloc (.cells #[.int .i64 2,.int .i64 a,.int .i64 b,.int .i64 c,.string key,.string text,.int .i64 v.node,.int .i64 v.seq,.int .i64 v.o0,.int .i64 v.o1,.int .i64 v.o2,.int .i64 v.o3,.string v.value,.bool v.gone,tails] 39)):=(G _ _).alloc _
 have hb1:=Blk.new w [.int .i64 2,.int .i64 a,.int .i64 b,.int .i64 c,.string key,.string text,.int .i64 v.node,.int .i64 v.seq,.int .i64 v.o0,.int .i64 v.o1,.int .i64 v.o2,.int .i64 v.o3,.string v.value,.bool v.gone,tails] 39
 have HM:=Z (fun wx (f:Fr Nil w wx)=>zQ K L W X.LD M wx (h.wat.nil f) ((h.marks).nil f))
 have HF:=Z (fun wx (f:Fr Nil w wx)=>Z2 K L W X.LD M wx (h.wat.nil f) ((h.marks).nil f))
 have HC:=Z (fun wx (f:Fr Nil w wx)=>zq wx L.db X.LD M ((h.marks).nil f))
 have hc1:=hb1.cell
 have HF1:=Z f1
 have HB1:=Z hb1
 have HH:=Z h
 have HNO:=Z hnode
 have HFI:=Z hfit
 clear h f1 hb1 hnode hfit
 go_enter Tryz.func61,Tryz.ntmps61
 go_wp2_with fail
 generalize hwa:w.alloc (.cells #[.int .i64 2,.int .i64 a,.int .i64 b,.int .i64 c,.string key,.string text,.int .i64 v.node,.int .i64 v.seq,.int .i64 v.o0,.int .i64 v.o1,.int .i64 v.o2,.int .i64 v.o3,.string v.value,.bool v.gone,tails] 39)=wa at hc1 HF1 HB1 ⊢
 refine(HBP.out _).mono ?_
 rintro e wx ⟨rfl,hwx⟩
 subst wx
 have HBX:Hid (∀ wx,Fr (fun k=>k<w.heap.size) wa wx→∀ k,wx.cell? ⟨w.heap.size,k,none⟩=wa.cell? ⟨w.heap.size,k,none⟩):=fun wx f k=>((HB1.out.fr f (Nat.lt_irrefl _)).cell k).trans (HB1.out.cell k).symm
 have HC1:=Z hc1
 have HLT:Hid (w.heap.size<wa.heap.size):=HB1.out.lt
 clear hwa HB1
 go_wp2_with fail
 refine(HM.out wa HF1.out).mono ?_
 rintro e w2 ⟨rfl,f2⟩
 have f02:Fr Nil w w2:=HF1.out.trans f2
 have hlt2:w.heap.size<w2.heap.size:=by have:=HLT.out;have:=f2.size;omega
 have F2:=Z f2
 have f3:Fr Nil w (w2.alloc (.cells #[.int .i64 M.refused,.int .i64 M.fulls] 111)):=f02.alloc _
 have hb3:=Blk.new w2 [.int .i64 M.refused,.int .i64 M.fulls] 111
 have hc3:=(HH.out.wat.nil f3).blk.cell
 simp only[WM.cells] at hc3
 have F02:=Z f02
 have HLT2:=Z hlt2
 have F3:=Z f3
 have HB3:=Z hb3
 clear f2 f02 hlt2 f3 hb3
 go_wp2_with (refine(HC.out _ F3.out).mono ?_;rintro e wx ⟨rfl,hwx⟩;subst wx)
 refine(HF.out _ F3.out).mono ?_
 rintro e w4 ⟨rfl,f4⟩
 have f34:Fr Nil w w4:=F3.out.trans f4
 have h4:=(HH.out.nil f34).rep
 have hc4:∀ n k,(w4.drewN n).cell? ⟨L.wb,k,none⟩=(W.cells L)[k]?:=fun n=>(h4.wat.blk.drewN n).cell
 simp only[WM.cells] at hc4
 have hx4:∀ k,w4.cell? ⟨w.heap.size,k,none⟩=([.int .i64 2,.int .i64 a,.int .i64 b,.int .i64 c,.string key,.string text,.int .i64 v.node,.int .i64 v.seq,.int .i64 v.o0,.int .i64 v.o1,.int .i64 v.o2,.int .i64 v.o3,.string v.value,.bool v.gone,tails]:List Value)[k]?:=fun k=>(HBX.out w4 (((F2.out.alloc _).trans f4).mono (fun _ _ e=>absurd e id)) k).trans (HC1.out k)
 have hx5:∀ n k,(w4.drewN n).cell? ⟨w.heap.size,k,none⟩=([.int .i64 2,.int .i64 a,.int .i64 b,.int .i64 c,.string key,.string text,.int .i64 v.node,.int .i64 v.seq,.int .i64 v.o0,.int .i64 v.o1,.int .i64 v.o2,.int .i64 v.o3,.string v.value,.bool v.gone,tails]:List Value)[k]?:=fun n k=>hx4 k
 have HF34:=Z f34
 have HF4:=Z f4
 have H4:=Z h4
 rw[HH.out.nv] at hc4
 clear f34 f4 h4 hc3 hc1
 generalize IntKind.i64.wrap ((if W.room<0 then 1152921504606846976 else W.room)-M.used)=fr
 have HPUT:=Z (fun wx (f:Fr Nil w4 wx)=>XU herr B X N M key text wx (H4.out.node.nil f) (H4.out.env.nil f) HNO.out (fun h1 h2=>HFI.out h1 h2 _))
 have HK:Hid (∀ wx w' X' N' M',Fr Nil w4 wx→NStep X M wx X' N' M' w'→w'.cell? ⟨L.wb,5,none⟩=some (.pointer (some ⟨X.nb,0,none⟩))∧w'.cell? ⟨w.heap.size,4,none⟩=some (.string key)∧w'.cell? ⟨w.heap.size,5,none⟩=some (.string text)):=by
  intro wx w' X' N' M' f s
  have hw:=(((H4.out.nil f).rep.call s).rep.wat).blk.cell 5
  have hfx:Fr (fun k=>k<w.heap.size) wa w':=((((F2.out.alloc _).trans HF4.out).trans f).mono (S':=fun k=>k<w.heap.size) (fun _ _ e=>absurd e id)).trans' (s.fr.mono (S':=fun k=>k<w.heap.size) (fun k _ e=>HH.out.lt (.inr e))) (fun _ _ e=>e)
  refine⟨hw.trans ?_,(HBX.out w' hfx 4).trans (HC1.out 4),(HBX.out w' hfx 5).trans (HC1.out 5)⟩
  show some L.nv=_
  rw[HH.out.nv]
 have HKN:Hid (∀ wx,Fr Nil w4 wx→wx.cell? ⟨L.wb,5,none⟩=some (.pointer (some ⟨X.nb,0,none⟩))∧wx.cell? ⟨w.heap.size,4,none⟩=some (.string key)∧wx.cell? ⟨w.heap.size,5,none⟩=some (.string text)):=fun wx f=>HK.out wx wx X N M f (NStep.nil (H4.out.node.nil f) (G _ _))
 go_wp2_with fail
 have hcc:=HKN.out w4 (G _ _)
 clear hx5 hc4
 go_region_held3 (fun w'=>w'.cell? ⟨L.wb,5,none⟩=some (.pointer (some ⟨X.nb,0,none⟩))∧w'.cell? ⟨w.heap.size,4,none⟩=some (.string key)∧w'.cell? ⟨w.heap.size,5,none⟩=some (.string text)) (first|assumption|go_keep)
  (first|(go_at_call 22;refine(HPUT.out _ (by repeat' first|(with_reducible first|apply G|assumption|apply O|apply U|apply V|apply z6)|(intro _;rfl))).mono ?_;rintro e w5 ⟨f,g,X5,rfl,hf5,hg5,hap5,hs5⟩;have hz5:=HK.out _ _ _ _ _ (by repeat' first|(with_reducible first|apply G|assumption|apply O|apply U|apply V|apply z6)|(intro _;rfl)) hs5;have HS5:=Z (NStep.trans (NStep.nil H4.out.node (by exact(by repeat' first|(with_reducible first|apply G|assumption|apply O|apply U|apply V|apply z6)|(intro _;rfl)))) hs5);have HFF:=Z hf5;have HGG:=Z hg5;clear hs5 hf5 hg5 hap5))
 have HP5:=Z ((HH.out.nil HF34.out).trans (H4.out.call HS5.out))
 rw[HPB.out f g] at HP5 ⊢
 have HQT:=Z (ZE K L W X5.LD M bp bp M.calls w5 HP5.out.rep.wat HP5.out.rep.marks)
 simp only[and_self,decide_true] at HQT
 clear hcc hz5
 go_wp2_with fail
 refine HQT.out.mono ?_
 rintro e wx ⟨rfl,hwx⟩
 subst wx
 go_wp2_with fail
 go_ret
 exact⟨rfl,X5,HP5.out⟩
theorem QA(herr:zr)(K:Nat→Prop)(B:Nat)(L:WL)(W:WM)(X:NL)(N:NM)(M:DM)(o:OpM)(w:World)(h:Play K B w L W X N M)(hk:o.kind=3)(hbad:zT o.key≠0) :
  Calls Tryz.prog 61 #[.pointer (some ⟨L.wb,0,none⟩),.agg o.cells.toArray] w fun e w'=>e=.returned (.bool true)∧∃ X',PStep K B L X M w K L W X' N M w':=by
 obtain⟨kind,a,b,c,key,text,v,tails⟩:=o
 simp only at hk hbad ⊢
 subst hk
 have HBP:=Z (fun wx=>YN key text wx)
 have HBK:=Z (fun wx=>ZY key wx)
 have HPB:=Z (fun f g=>PP N M key f g hbad)
 have hfit:zm key=true→∀ H,Xn N M H key (fun _ _=>[]):=fun h1=>absurd (by unfold zT;rw[if_pos h1]) hbad
 generalize Zc key text=bp0 at HBP
 generalize zT key=bp at HBK HPB hbad
 have hb0:(bp==0)=false:=by simp[hbad]
 simp only[OpM.cells,Ver.cells,List.cons_append,List.nil_append]
 have f1:Fr Nil w (w.alloc (.cells #[.int .i64 3,.int .i64 a,.int .i64 b,.int .i64 c,.string key,.string text,.int .i64 v.node,.int .i64 v.seq,.int .i64 v.o0,.int .i64 v.o1,.int .i64 v.o2,.int .i64 v.o3,.string v.value,.bool v.gone,tails] 39)):=(G _ _).alloc _
 have hb1:=Blk.new w [.int .i64 3,.int .i64 a,.int .i64 b,.int .i64 c,.string key,.string text,.int .i64 v.node,.int .i64 v.seq,.int .i64 v.o0,.int .i64 v.o1,.int .i64 v.o2,.int .i64 v.o3,.string v.value,.bool v.gone,tails] 39
 have HM:=Z (fun wx (f:Fr Nil w wx)=>zQ K L W X.LD M wx (h.wat.nil f) ((h.marks).nil f))
 have HF:=Z (fun wx (f:Fr Nil w wx)=>Z2 K L W X.LD M wx (h.wat.nil f) ((h.marks).nil f))
 have HC:=Z (fun wx (f:Fr Nil w wx)=>zq wx L.db X.LD M ((h.marks).nil f))
 have hc1:=hb1.cell
 have HF1:=Z f1
 have HB1:=Z hb1
 have HH:=Z h
 have HFI:=Z hfit
 clear h f1 hb1 hfit
 go_enter Tryz.func61,Tryz.ntmps61
 go_wp2_with fail
 generalize hwa:w.alloc (.cells #[.int .i64 3,.int .i64 a,.int .i64 b,.int .i64 c,.string key,.string text,.int .i64 v.node,.int .i64 v.seq,.int .i64 v.o0,.int .i64 v.o1,.int .i64 v.o2,.int .i64 v.o3,.string v.value,.bool v.gone,tails] 39)=wa at hc1 HF1 HB1 ⊢
 refine(HBP.out _).mono ?_
 rintro e wx ⟨rfl,hwx⟩
 subst wx
 go_wp2_with fail
 refine(HBK.out _).mono ?_
 rintro e wx ⟨rfl,hwx⟩
 subst wx
 have HBX:Hid (∀ wx,Fr (fun k=>k<w.heap.size) wa wx→∀ k,wx.cell? ⟨w.heap.size,k,none⟩=wa.cell? ⟨w.heap.size,k,none⟩):=fun wx f k=>((HB1.out.fr f (Nat.lt_irrefl _)).cell k).trans (HB1.out.cell k).symm
 have HC1:=Z hc1
 have HLT:Hid (w.heap.size<wa.heap.size):=HB1.out.lt
 clear hwa HB1
 go_wp2_with fail
 refine(HM.out wa HF1.out).mono ?_
 rintro e w2 ⟨rfl,f2⟩
 have f02:Fr Nil w w2:=HF1.out.trans f2
 have hlt2:w.heap.size<w2.heap.size:=by have:=HLT.out;have:=f2.size;omega
 have F2:=Z f2
 have f3:Fr Nil w (w2.alloc (.cells #[.int .i64 M.refused,.int .i64 M.fulls] 111)):=f02.alloc _
 have hb3:=Blk.new w2 [.int .i64 M.refused,.int .i64 M.fulls] 111
 have hc3:=(HH.out.wat.nil f3).blk.cell
 simp only[WM.cells] at hc3
 have F02:=Z f02
 have HLT2:=Z hlt2
 have F3:=Z f3
 have HB3:=Z hb3
 clear f2 f02 hlt2 f3 hb3
 go_wp2_with (refine(HC.out _ F3.out).mono ?_;rintro e wx ⟨rfl,hwx⟩;subst wx)
 refine(HF.out _ F3.out).mono ?_
 rintro e w4 ⟨rfl,f4⟩
 have f34:Fr Nil w w4:=F3.out.trans f4
 have h4:=(HH.out.nil f34).rep
 have hc4:∀ n k,(w4.drewN n).cell? ⟨L.wb,k,none⟩=(W.cells L)[k]?:=fun n=>(h4.wat.blk.drewN n).cell
 simp only[WM.cells] at hc4
 have hx4:∀ k,w4.cell? ⟨w.heap.size,k,none⟩=([.int .i64 3,.int .i64 a,.int .i64 b,.int .i64 c,.string key,.string text,.int .i64 v.node,.int .i64 v.seq,.int .i64 v.o0,.int .i64 v.o1,.int .i64 v.o2,.int .i64 v.o3,.string v.value,.bool v.gone,tails]:List Value)[k]?:=fun k=>(HBX.out w4 (((F2.out.alloc _).trans f4).mono (fun _ _ e=>absurd e id)) k).trans (HC1.out k)
 have hx5:∀ n k,(w4.drewN n).cell? ⟨w.heap.size,k,none⟩=([.int .i64 3,.int .i64 a,.int .i64 b,.int .i64 c,.string key,.string text,.int .i64 v.node,.int .i64 v.seq,.int .i64 v.o0,.int .i64 v.o1,.int .i64 v.o2,.int .i64 v.o3,.string v.value,.bool v.gone,tails]:List Value)[k]?:=fun n k=>hx4 k
 have HF34:=Z f34
 have HF4:=Z f4
 have H4:=Z h4
 rw[HH.out.nv] at hc4
 clear f34 f4 h4 hc3 hc1
 generalize IntKind.i64.wrap ((if W.room<0 then 1152921504606846976 else W.room)-M.used)=fr
 have HPUT:=Z (fun wx (f:Fr Nil w4 wx)=>Ve herr B X N M key wx (H4.out.node.nil f) (H4.out.env.nil f) (fun h1=>HFI.out h1 _))
 have HK:Hid (∀ wx w' X' N' M',Fr Nil w4 wx→NStep X M wx X' N' M' w'→w'.cell? ⟨L.wb,5,none⟩=some (.pointer (some ⟨X.nb,0,none⟩))∧w'.cell? ⟨w.heap.size,4,none⟩=some (.string key)∧w'.cell? ⟨w.heap.size,5,none⟩=some (.string text)):=by
  intro wx w' X' N' M' f s
  have hw:=(((H4.out.nil f).rep.call s).rep.wat).blk.cell 5
  have hfx:Fr (fun k=>k<w.heap.size) wa w':=((((F2.out.alloc _).trans HF4.out).trans f).mono (S':=fun k=>k<w.heap.size) (fun _ _ e=>absurd e id)).trans' (s.fr.mono (S':=fun k=>k<w.heap.size) (fun k _ e=>HH.out.lt (.inr e))) (fun _ _ e=>e)
  refine⟨hw.trans ?_,(HBX.out w' hfx 4).trans (HC1.out 4),(HBX.out w' hfx 5).trans (HC1.out 5)⟩
  show some L.nv=_
  rw[HH.out.nv]
 have HKN:Hid (∀ wx,Fr Nil w4 wx→wx.cell? ⟨L.wb,5,none⟩=some (.pointer (some ⟨X.nb,0,none⟩))∧wx.cell? ⟨w.heap.size,4,none⟩=some (.string key)∧wx.cell? ⟨w.heap.size,5,none⟩=some (.string text)):=fun wx f=>HK.out wx wx X N M f (NStep.nil (H4.out.node.nil f) (G _ _))
 go_wp2_with fail
 have hcc:=HKN.out w4 (G _ _)
 clear hx5 hc4
 go_region_held3 (fun w'=>w'.cell? ⟨L.wb,5,none⟩=some (.pointer (some ⟨X.nb,0,none⟩))∧w'.cell? ⟨w.heap.size,4,none⟩=some (.string key)∧w'.cell? ⟨w.heap.size,5,none⟩=some (.string text)) (first|assumption|go_keep)
  (first|(go_at_call 30;refine(HPUT.out _ (by repeat' first|(with_reducible first|apply G|assumption|apply O|apply U|apply V|apply z6)|(intro _;rfl))).mono ?_;rintro e w5 ⟨f,g,X5,rfl,hf5,hg5,hap5,hs5⟩;have hz5:=HK.out _ _ _ _ _ (by repeat' first|(with_reducible first|apply G|assumption|apply O|apply U|apply V|apply z6)|(intro _;rfl)) hs5;have HS5:=Z (NStep.trans (NStep.nil H4.out.node (by exact(by repeat' first|(with_reducible first|apply G|assumption|apply O|apply U|apply V|apply z6)|(intro _;rfl)))) hs5);have HFF:=Z hf5;have HGG:=Z hg5;clear hs5 hf5 hg5 hap5))
 have HP5:=Z ((HH.out.nil HF34.out).trans (H4.out.call HS5.out))
 rw[HPB.out f g] at HP5 ⊢
 have HQT:=Z (ZE K L W X5.LD M bp bp M.calls w5 HP5.out.rep.wat HP5.out.rep.marks)
 simp only[and_self,decide_true] at HQT
 clear hcc hz5
 go_wp2_with fail
 refine HQT.out.mono ?_
 rintro e wx ⟨rfl,hwx⟩
 subst wx
 go_wp2_with fail
 go_ret
 exact⟨rfl,X5,HP5.out⟩
theorem PQ(N:NM)(M:DM)(key:ByteArray)(v:Ver)(f:Nat)(h:zw N.self key v≠0):N.accept M key v f=(zw N.self key v,N,M):=by
 unfold NM.accept zw at *
 cases hk:zm key
 ·simp
 ·rw[hk] at h
  by_cases hv:128<v.value.size
  ·simp[hv]
  ·cases hf:foreign N.self v
   ·simp[hv]
   ·simp[hv,hf] at h
theorem QB(herr:zr)(K:Nat→Prop)(B:Nat)(L:WL)(W:WM)(X:NL)(N:NM)(M:DM)(o:OpM)(w:World)(h:Play K B w L W X N M)(hbr:W.broken=false)(hp:0<L.ps.length)(hl:L.ps.length<1000000)
  (hnode:∀ u∈zc N.S.keys o.key,zE u.node)(hasc:ZU (zc N.S.keys o.key))(hnk:N.S.keys.length<1099511627776)(hnl:(zc N.S.keys o.key).length<1000000)
  (hfit:∀ H,w.heap.size≤H→zm o.key=true→o.v.value.size≤128→foreign N.self o.v=true→(o.v.gone=false→(zn (zc N.S.keys o.key) o.v).length<4)→Fit N M H (.inr (.inl (o.key,ZB (zc N.S.keys o.key) o.v))))
  (m:LM)(hm:W.st[L.ps.length-1]?=some m)(hself:m.node=N.self)
  (hbad:zw N.self o.key o.v≠0) :
  Calls Tryz.prog 62 #[.pointer (some ⟨L.wb,0,none⟩),.agg o.cells.toArray] w fun e w'=>e=.returned (.bool true)∧∃ X',PStep K B L X M w K L W X' N M w':=by
 obtain⟨kind,a,b,c,key,text,v,tails⟩:=o
 simp only at hnode hasc hnl hfit hbad ⊢
 have HPB:=Z (fun f=>PQ N M key v f hbad)
 simp only[OpM.cells,Ver.cells,List.cons_append,List.nil_append]
 have f1:Fr Nil w (w.alloc (.cells #[.int .i64 kind,.int .i64 a,.int .i64 b,.int .i64 c,.string key,.string text,.int .i64 v.node,.int .i64 v.seq,.int .i64 v.o0,.int .i64 v.o1,.int .i64 v.o2,.int .i64 v.o3,.string v.value,.bool v.gone,tails] 39)):=(G _ _).alloc _
 have hb1:=Blk.new w [.int .i64 kind,.int .i64 a,.int .i64 b,.int .i64 c,.string key,.string text,.int .i64 v.node,.int .i64 v.seq,.int .i64 v.o0,.int .i64 v.o1,.int .i64 v.o2,.int .i64 v.o3,.string v.value,.bool v.gone,tails] 39
 have HM:=Z (fun wx (f:Fr Nil w wx)=>zQ K L W X.LD M wx (h.wat.nil f) ((h.marks).nil f))
 have HF:=Z (fun wx (f:Fr Nil w wx)=>Z2 K L W X.LD M wx (h.wat.nil f) ((h.marks).nil f))
 have HC:=Z (fun wx (f:Fr Nil w wx)=>zq wx L.db X.LD M ((h.marks).nil f))
 have hc1:=hb1.cell
 have HF1:=Z f1
 have HB1:=Z hb1
 have HH:=Z h
 have HFI:=Z hfit
 have HND:=Z hnode
 have HAS:=Z hasc
 have HBR:=Z hbr
 clear h f1 hb1 hfit hnode hasc hbr
 go_enter Tryz.func62,Tryz.ntmps62
 go_wp2_with fail
 generalize hwa:w.alloc (.cells #[.int .i64 kind,.int .i64 a,.int .i64 b,.int .i64 c,.string key,.string text,.int .i64 v.node,.int .i64 v.seq,.int .i64 v.o0,.int .i64 v.o1,.int .i64 v.o2,.int .i64 v.o3,.string v.value,.bool v.gone,tails] 39)=wa at hc1 HF1 HB1 ⊢
 have HBX:Hid (∀ wx,Fr (fun k=>k<w.heap.size) wa wx→∀ k,wx.cell? ⟨w.heap.size,k,none⟩=wa.cell? ⟨w.heap.size,k,none⟩):=fun wx f k=>((HB1.out.fr f (Nat.lt_irrefl _)).cell k).trans (HB1.out.cell k).symm
 have HC1:=Z hc1
 have HLT:Hid (w.heap.size<wa.heap.size):=HB1.out.lt
 clear hwa HB1
 refine(HM.out wa HF1.out).mono ?_
 rintro e w2 ⟨rfl,f2⟩
 have f02:Fr Nil w w2:=HF1.out.trans f2
 have hlt2:w.heap.size<w2.heap.size:=by have:=HLT.out;have:=f2.size;omega
 have F2:=Z f2
 have f3:Fr Nil w (w2.alloc (.cells #[.int .i64 M.refused,.int .i64 M.fulls] 111)):=f02.alloc _
 have hb3:=Blk.new w2 [.int .i64 M.refused,.int .i64 M.fulls] 111
 have hc3:=(HH.out.wat.nil f3).blk.cell
 simp only[WM.cells] at hc3
 have F02:=Z f02
 have HLT2:=Z hlt2
 have F3:=Z f3
 have HB3:=Z hb3
 clear f2 f02 hlt2 f3 hb3 hc1
 go_wp2_with (refine(HC.out _ F3.out).mono ?_;rintro e wx ⟨rfl,hwx⟩;subst wx)
 refine(HF.out _ F3.out).mono ?_
 rintro e w4 ⟨rfl,f4⟩
 have f34:Fr Nil w w4:=F3.out.trans f4
 have h4:=(HH.out.nil f34).rep
 have HF34:=Z f34
 have HF4:=Z f4
 have H4:=Z h4
 clear f34 f4 h4 hc3
 generalize IntKind.i64.wrap ((if W.room<0 then 1152921504606846976 else W.room)-M.used)=fr
 have HACC:=Z (fun wx (f:Fr Nil w4 wx)=>YM herr B X N M key v wx (H4.out.node.nil f) (H4.out.env.nil f) HND.out HAS.out hnk hnl (HFI.out _ (HF34.out.trans f).size))
 simp only[Ver.cells] at HACC
 have HX4:Hid (∀ wx K' L' W' X' N' M',PStep K B L X M w4 K' L' W' X' N' M' wx→(∀ k,wx.cell? ⟨w.heap.size,k,none⟩=([.int .i64 kind,.int .i64 a,.int .i64 b,.int .i64 c,.string key,.string text,.int .i64 v.node,.int .i64 v.seq,.int .i64 v.o0,.int .i64 v.o1,.int .i64 v.o2,.int .i64 v.o3,.string v.value,.bool v.gone,tails]:List Value)[k]?)∧(∀ k,wx.cell? ⟨w2.heap.size,k,none⟩=[Value.int .i64 M.refused,.int .i64 M.fulls][k]?)):=by
  intro wx K' L' W' X' N' M' s
  have fl:Fr (fun k=>k<w.heap.size) w4 wx:=s.fr.mono (fun k _ e=>HH.out.lt e)
  refine⟨fun k=>(HBX.out wx ((((F2.out.alloc _).trans HF4.out).mono (S':=fun k=>k<w.heap.size) (fun _ _ e=>absurd e id)).trans' fl (fun _ _ e=>e)) k).trans (HC1.out k),?_⟩
  exact(HB3.out.fr ((HF4.out.mono (S':=fun k=>k<w.heap.size) (fun _ _ e=>absurd e id)).trans' fl (fun _ _ e=>e)) (by have:=HLT2.out;omega)).cell
 have HK:Hid (∀ wx w' X' N' M',Fr Nil w4 wx→NStep X M wx X' N' M' w'→w'.cell? ⟨L.wb,5,none⟩=some (.pointer (some ⟨X.nb,0,none⟩))∧∀ k,w'.cell? ⟨w.heap.size,k,none⟩=([.int .i64 kind,.int .i64 a,.int .i64 b,.int .i64 c,.string key,.string text,.int .i64 v.node,.int .i64 v.seq,.int .i64 v.o0,.int .i64 v.o1,.int .i64 v.o2,.int .i64 v.o3,.string v.value,.bool v.gone,tails]:List Value)[k]?):=by
  intro wx w' X' N' M' f s
  have hp:=(H4.out.nil f).trans ((H4.out.nil f).rep.call s)
  refine⟨(hp.rep.wat.blk.cell 5).trans ?_,(HX4.out _ _ _ _ _ _ _ hp).1⟩
  show some L.nv=_
  rw[HH.out.nv]
 have hcc:=HK.out w4 w4 X N M (G _ _) (NStep.nil H4.out.node (G _ _))
 go_wp2_with fail
 go_region_held3 (fun w'=>w'.cell? ⟨L.wb,5,none⟩=some (.pointer (some ⟨X.nb,0,none⟩))∧∀ k,w'.cell? ⟨w.heap.size,k,none⟩=([.int .i64 kind,.int .i64 a,.int .i64 b,.int .i64 c,.string key,.string text,.int .i64 v.node,.int .i64 v.seq,.int .i64 v.o0,.int .i64 v.o1,.int .i64 v.o2,.int .i64 v.o3,.string v.value,.bool v.gone,tails]:List Value)[k]?) (first|assumption|go_keep)
  (first|(go_at_call 91;refine(HACC.out _ (by repeat' first|(with_reducible first|apply G|assumption|apply O|apply U|apply V|apply z6)|(intro _;rfl))).mono ?_;rintro e w5 ⟨f,X5,rfl,hf5,hs5⟩;have hz5:=HK.out _ _ _ _ _ (by repeat' first|(with_reducible first|apply G|assumption|apply O|apply U|apply V|apply z6)|(intro _;rfl)) hs5;have HS5:=Z (NStep.trans (NStep.nil H4.out.node (by exact(by repeat' first|(with_reducible first|apply G|assumption|apply O|apply U|apply V|apply z6)|(intro _;rfl)))) hs5);have HFF:=Z hf5;clear hs5 hf5))
 have HP5:=Z (H4.out.call HS5.out)
 have hple:L.ps.length=W.st.length:=HH.out.wat.ple
 have hlm:W.st[L.ps.length-1]'(by omega)=m:=by rw[List.getElem?_eq_getElem (by omega)] at hm;exact Option.some.inj hm
 have hlast:=(HP5.out.rep.wat.last hp).2
 simp only[hlm] at hlast
 have HNOW:=Z (fun wx (f:Fr Nil w5 wx)=>zV K L _ wx (HP5.out.rep.wat.nil f) hp (by omega))
 have hlt5:L.ps[L.ps.length-1]<w5.heap.size:=by obtain⟨c0,hb0⟩:=hlast.blk;exact hb0.lt
 obtain⟨q,hqq⟩:∃ q,q=L.ps[L.ps.length-1]:=⟨_,rfl⟩
 rw[← hqq] at hlast hlt5 HNOW
 have HQQ:=Z hqq
 have HLA:Hid (∀ wx,Fr Nil w5 wx→MRep K wx q m):=fun wx f=>hlast.keep (zI.of_fr f (fun k e=>⟨(HP5.out.rep.wat.keep k e).1,id⟩)) (fun _ e=>e)
 have HBV:Hid (∀ wx,Fr Nil w5 wx→Calls Tryz.prog 111 #[.pointer (some ⟨q,0,none⟩),.string key,.agg #[.int .i64 v.node,.int .i64 v.seq,.int .i64 v.o0,.int .i64 v.o1,.int .i64 v.o2,.int .i64 v.o3,.string v.value,.bool v.gone]] wx fun e w'=>e=.returned (.int .i64 (zw N.self key v))∧Fr Nil wx w'):=by
  intro wx f
  obtain⟨kv,hv,ents,ha,_⟩:=HLA.out wx f
  have hb:=ha.blk
  rw[hself] at hb
  exact Y2 q N.self kv hv key v wx hb
 have HLT5:=Z hlt5
 have HCK:Hid (∀ wx,Fr Nil w5 wx→∀ k,wx.cell? ⟨w.heap.size,k,none⟩=([.int .i64 kind,.int .i64 a,.int .i64 b,.int .i64 c,.string key,.string text,.int .i64 v.node,.int .i64 v.seq,.int .i64 v.o0,.int .i64 v.o1,.int .i64 v.o2,.int .i64 v.o3,.string v.value,.bool v.gone,tails]:List Value)[k]?):=fun wx f=>(HX4.out _ _ _ _ _ _ _ (HP5.out.trans (HP5.out.rep.nil f))).1
 clear hcc hlast hlt5 hqq hlm HK HACC
 have hz5:=HCK.out w5 (G _ _)
 go_wp2_with fail
 go_region_held3 (fun w'=>∀ k,w'.cell? ⟨w.heap.size,k,none⟩=([.int .i64 kind,.int .i64 a,.int .i64 b,.int .i64 c,.string key,.string text,.int .i64 v.node,.int .i64 v.seq,.int .i64 v.o0,.int .i64 v.o1,.int .i64 v.o2,.int .i64 v.o3,.string v.value,.bool v.gone,tails]:List Value)[k]?) (first|assumption|go_keep)
  (first
  | (go_at_call 111;refine(HBV.out _ (by repeat' first|(with_reducible first|apply G|assumption|apply O|apply U|apply V|apply z6)|(intro _;rfl))).mono ?_;rintro e w8 ⟨rfl,hf8⟩;have hF8:Fr Nil w5 w8:=Fr.trans (by repeat' first|(with_reducible first|apply G|assumption|apply O|apply U|apply V|apply z6)|(intro _;rfl)) hf8;have HF8:=Z hF8;have hz8:=HCK.out w8 hF8;clear hf8 hF8)
  | (go_at_call 107;refine(HNOW.out _ (by repeat' first|(with_reducible first|apply G|assumption|apply O|apply U|apply V|apply z6)|(intro _;rfl))).mono ?_;rintro e w9 ⟨rfl,n9,hw9⟩;subst w9))
 rw[HPB.out f] at HP5 ⊢
 generalize zw N.self key v=bp at hbad ⊢
 have hb0:(bp==0)=false:=by simp[hbad]
 have HQT:=Z (ZE K L W X5.LD M bp bp M.calls w8 (HP5.out.rep.wat.nil HF8.out) (HP5.out.rep.marks.nil HF8.out))
 simp only[and_self,decide_true] at HQT
 go_wp2_with fail
 refine HQT.out.mono ?_
 rintro e wx ⟨rfl,hwx⟩
 subst wx
 go_wp2_with fail
 go_ret
 exact⟨rfl,X5,(HH.out.nil HF34.out).trans (HP5.out.trans (HP5.out.rep.nil HF8.out))⟩
theorem OT(w:World)(f:Nat):(binOp .eql 104 (.pointer (some ⟨f,0,none⟩)) (.pointer (some ⟨f,0,none⟩))).run Tryz.prog w=.ok (.bool true) w:=by
 obtain⟨i,z,hi,_⟩:=Zk TW
 have h:∀ d:Nat,(Op.equalIn (d+1) 104 (.pointer (some ⟨f,0,none⟩)) (.pointer (some ⟨f,0,none⟩))).run Tryz.prog w=.ok true w:=fun d=>by
  simp[Op.equalIn,run_underlying Tryz.underlying104,sizeOf,typeInfo,hi,run_sameAddr_same]
 simp only[binOp]
 simp[Op.equal,Op.maxDepth,h 9999]
theorem WC(N:NM)(M:DM)(key:ByteArray)(v:Ver)(f:Nat)(h:zw N.self key v=0)(hr:N.readOnly=false) :
  N.accept M key v f=if zY (zc N.S.keys key) v=0 then(0,N,M) else if zY (zc N.S.keys key) v=1 then(6,N,M) else N.asked M (.inr (.inl (key,ZB (zc N.S.keys key) v))) f:=by
 unfold NM.accept zw zY at *
 cases hk:zm key
 ·simp[hk] at h
 ·by_cases hv:128<v.value.size
  ·simp[hk,hv] at h
  ·cases hf:foreign N.self v
   ·simp[hk,hv,hf] at h
   ·simp only[hv,hr,if_false,Bool.true_eq_false,Bool.false_eq_true]
    by_cases h1:(zc N.S.keys key).any v.knows=true
    ·simp[h1]
    ·simp only[h1]
     by_cases h2:v.gone=false∧4≤(zn (zc N.S.keys key) v).length
     ·simp[h2]
     ·simp only[h2,if_false]
      by_cases h3:v.gone=true∧(zn (zc N.S.keys key) v).length=(zc N.S.keys key).length
      ·simp[h3]
      ·simp[h3]
theorem Ru(herr:zr)(K:Nat→Prop)(B:Nat)(L:WL)(W:WM)(X:NL)(N:NM)(M:DM)(o:OpM)(w:World)(h:Play K B w L W X N M)(hbr:W.broken=false)(hp:0<L.ps.length)(hl:L.ps.length<1000000)
  (hnode:∀ u∈zc N.S.keys o.key,zE u.node)(hasc:ZU (zc N.S.keys o.key))(hnk:N.S.keys.length<1099511627776)(hnl:(zc N.S.keys o.key).length<1000000)
  (hfit:∀ H,w.heap.size≤H→zm o.key=true→o.v.value.size≤128→foreign N.self o.v=true→(o.v.gone=false→(zn (zc N.S.keys o.key) o.v).length<4)→Fit N M H (.inr (.inl (o.key,ZB (zc N.S.keys o.key) o.v))))
  (m:LM)(hm:W.st[L.ps.length-1]?=some m)(hself:m.node=N.self)
  (hbad:zw N.self o.key o.v=0)(hro:N.readOnly=false)(hvs:zL m.keys o.key=zc N.S.keys o.key)(hmk:m.keys.length<100000000)(hvl:(zc N.S.keys o.key).length<100000)(hnv:zE o.v.node)
  (hway:zY (zc N.S.keys o.key) o.v=0) :
  Calls Tryz.prog 62 #[.pointer (some ⟨L.wb,0,none⟩),.agg o.cells.toArray] w fun e w'=>e=.returned (.bool true)∧∃ X',PStep K B L X M w K L W X' N M w':=by
 obtain⟨kind,a,b,c,key,text,v,tails⟩:=o
 simp only at hnode hasc hnl hfit hbad hvs hvl hnv hway ⊢
 have HPB:=Z (fun f=>(WC N M key v f hbad hro).trans (by simp[hway]):∀ f,N.accept M key v f=(0,N,M))
 have HNV:=Z hnv
 have HVS:=Z hvs
 have HND2:=Z hnode
 have HVL:=Z hvl
 have HWY:=Z hway
 have HNR:=Z hro
 clear hro hvs hvl hnv hway
 simp only[OpM.cells,Ver.cells,List.cons_append,List.nil_append]
 have f1:Fr Nil w (w.alloc (.cells #[.int .i64 kind,.int .i64 a,.int .i64 b,.int .i64 c,.string key,.string text,.int .i64 v.node,.int .i64 v.seq,.int .i64 v.o0,.int .i64 v.o1,.int .i64 v.o2,.int .i64 v.o3,.string v.value,.bool v.gone,tails] 39)):=(G _ _).alloc _
 have hb1:=Blk.new w [.int .i64 kind,.int .i64 a,.int .i64 b,.int .i64 c,.string key,.string text,.int .i64 v.node,.int .i64 v.seq,.int .i64 v.o0,.int .i64 v.o1,.int .i64 v.o2,.int .i64 v.o3,.string v.value,.bool v.gone,tails] 39
 have HM:=Z (fun wx (f:Fr Nil w wx)=>zQ K L W X.LD M wx (h.wat.nil f) ((h.marks).nil f))
 have HF:=Z (fun wx (f:Fr Nil w wx)=>Z2 K L W X.LD M wx (h.wat.nil f) ((h.marks).nil f))
 have HC:=Z (fun wx (f:Fr Nil w wx)=>zq wx L.db X.LD M ((h.marks).nil f))
 have hc1:=hb1.cell
 have HF1:=Z f1
 have HB1:=Z hb1
 have HH:=Z h
 have HFI:=Z hfit
 have HND:=Z hnode
 have HAS:=Z hasc
 have HBR:=Z hbr
 clear h f1 hb1 hfit hnode hasc hbr
 go_enter Tryz.func62,Tryz.ntmps62
 go_wp2_with fail
 generalize hwa:w.alloc (.cells #[.int .i64 kind,.int .i64 a,.int .i64 b,.int .i64 c,.string key,.string text,.int .i64 v.node,.int .i64 v.seq,.int .i64 v.o0,.int .i64 v.o1,.int .i64 v.o2,.int .i64 v.o3,.string v.value,.bool v.gone,tails] 39)=wa at hc1 HF1 HB1 ⊢
 have HBX:Hid (∀ wx,Fr (fun k=>k<w.heap.size) wa wx→∀ k,wx.cell? ⟨w.heap.size,k,none⟩=wa.cell? ⟨w.heap.size,k,none⟩):=fun wx f k=>((HB1.out.fr f (Nat.lt_irrefl _)).cell k).trans (HB1.out.cell k).symm
 have HC1:=Z hc1
 have HLT:Hid (w.heap.size<wa.heap.size):=HB1.out.lt
 clear hwa HB1
 refine(HM.out wa HF1.out).mono ?_
 rintro e w2 ⟨rfl,f2⟩
 have f02:Fr Nil w w2:=HF1.out.trans f2
 have hlt2:w.heap.size<w2.heap.size:=by have:=HLT.out;have:=f2.size;omega
 have F2:=Z f2
 have f3:Fr Nil w (w2.alloc (.cells #[.int .i64 M.refused,.int .i64 M.fulls] 111)):=f02.alloc _
 have hb3:=Blk.new w2 [.int .i64 M.refused,.int .i64 M.fulls] 111
 have hc3:=(HH.out.wat.nil f3).blk.cell
 simp only[WM.cells] at hc3
 have F02:=Z f02
 have HLT2:=Z hlt2
 have F3:=Z f3
 have HB3:=Z hb3
 clear f2 f02 hlt2 f3 hb3 hc1
 go_wp2_with (refine(HC.out _ F3.out).mono ?_;rintro e wx ⟨rfl,hwx⟩;subst wx)
 refine(HF.out _ F3.out).mono ?_
 rintro e w4 ⟨rfl,f4⟩
 have f34:Fr Nil w w4:=F3.out.trans f4
 have h4:=(HH.out.nil f34).rep
 have HF34:=Z f34
 have HF4:=Z f4
 have H4:=Z h4
 clear f34 f4 h4 hc3
 generalize IntKind.i64.wrap ((if W.room<0 then 1152921504606846976 else W.room)-M.used)=fr
 have HACC:=Z (fun wx (f:Fr Nil w4 wx)=>YM herr B X N M key v wx (H4.out.node.nil f) (H4.out.env.nil f) HND.out HAS.out hnk hnl (HFI.out _ (HF34.out.trans f).size))
 simp only[Ver.cells] at HACC
 have HX4:Hid (∀ wx K' L' W' X' N' M',PStep K B L X M w4 K' L' W' X' N' M' wx→(∀ k,wx.cell? ⟨w.heap.size,k,none⟩=([.int .i64 kind,.int .i64 a,.int .i64 b,.int .i64 c,.string key,.string text,.int .i64 v.node,.int .i64 v.seq,.int .i64 v.o0,.int .i64 v.o1,.int .i64 v.o2,.int .i64 v.o3,.string v.value,.bool v.gone,tails]:List Value)[k]?)∧(∀ k,wx.cell? ⟨w2.heap.size,k,none⟩=[Value.int .i64 M.refused,.int .i64 M.fulls][k]?)):=by
  intro wx K' L' W' X' N' M' s
  have fl:Fr (fun k=>k<w.heap.size) w4 wx:=s.fr.mono (fun k _ e=>HH.out.lt e)
  refine⟨fun k=>(HBX.out wx ((((F2.out.alloc _).trans HF4.out).mono (S':=fun k=>k<w.heap.size) (fun _ _ e=>absurd e id)).trans' fl (fun _ _ e=>e)) k).trans (HC1.out k),?_⟩
  exact(HB3.out.fr ((HF4.out.mono (S':=fun k=>k<w.heap.size) (fun _ _ e=>absurd e id)).trans' fl (fun _ _ e=>e)) (by have:=HLT2.out;omega)).cell
 have HK:Hid (∀ wx w' X' N' M',Fr Nil w4 wx→NStep X M wx X' N' M' w'→w'.cell? ⟨L.wb,5,none⟩=some (.pointer (some ⟨X.nb,0,none⟩))∧∀ k,w'.cell? ⟨w.heap.size,k,none⟩=([.int .i64 kind,.int .i64 a,.int .i64 b,.int .i64 c,.string key,.string text,.int .i64 v.node,.int .i64 v.seq,.int .i64 v.o0,.int .i64 v.o1,.int .i64 v.o2,.int .i64 v.o3,.string v.value,.bool v.gone,tails]:List Value)[k]?):=by
  intro wx w' X' N' M' f s
  have hp:=(H4.out.nil f).trans ((H4.out.nil f).rep.call s)
  refine⟨(hp.rep.wat.blk.cell 5).trans ?_,(HX4.out _ _ _ _ _ _ _ hp).1⟩
  show some L.nv=_
  rw[HH.out.nv]
 have hcc:=HK.out w4 w4 X N M (G _ _) (NStep.nil H4.out.node (G _ _))
 go_wp2_with fail
 go_region_held3 (fun w'=>w'.cell? ⟨L.wb,5,none⟩=some (.pointer (some ⟨X.nb,0,none⟩))∧∀ k,w'.cell? ⟨w.heap.size,k,none⟩=([.int .i64 kind,.int .i64 a,.int .i64 b,.int .i64 c,.string key,.string text,.int .i64 v.node,.int .i64 v.seq,.int .i64 v.o0,.int .i64 v.o1,.int .i64 v.o2,.int .i64 v.o3,.string v.value,.bool v.gone,tails]:List Value)[k]?) (first|assumption|go_keep)
  (first|(go_at_call 91;refine(HACC.out _ (by repeat' first|(with_reducible first|apply G|assumption|apply O|apply U|apply V|apply z6)|(intro _;rfl))).mono ?_;rintro e w5 ⟨f,X5,rfl,hf5,hs5⟩;have hz5:=HK.out _ _ _ _ _ (by repeat' first|(with_reducible first|apply G|assumption|apply O|apply U|apply V|apply z6)|(intro _;rfl)) hs5;have HS5:=Z (NStep.trans (NStep.nil H4.out.node (by exact(by repeat' first|(with_reducible first|apply G|assumption|apply O|apply U|apply V|apply z6)|(intro _;rfl)))) hs5);have HFF:=Z hf5;clear hs5 hf5))
 have HP5:=Z (H4.out.call HS5.out)
 have hple:L.ps.length=W.st.length:=HH.out.wat.ple
 have hlm:W.st[L.ps.length-1]'(by omega)=m:=by rw[List.getElem?_eq_getElem (by omega)] at hm;exact Option.some.inj hm
 have hlast:=(HP5.out.rep.wat.last hp).2
 simp only[hlm] at hlast
 have HNOW:=Z (fun wx (f:Fr Nil w5 wx)=>zV K L _ wx (HP5.out.rep.wat.nil f) hp (by omega))
 have hlt5:L.ps[L.ps.length-1]<w5.heap.size:=by obtain⟨c0,hb0⟩:=hlast.blk;exact hb0.lt
 obtain⟨q,hqq⟩:∃ q,q=L.ps[L.ps.length-1]:=⟨_,rfl⟩
 rw[← hqq] at hlast hlt5 HNOW
 have HQQ:=Z hqq
 have HLA:Hid (∀ wx,Fr Nil w5 wx→MRep K wx q m):=fun wx f=>hlast.keep (zI.of_fr f (fun k e=>⟨(HP5.out.rep.wat.keep k e).1,id⟩)) (fun _ e=>e)
 have HBV:Hid (∀ wx,Fr Nil w5 wx→Calls Tryz.prog 111 #[.pointer (some ⟨q,0,none⟩),.string key,.agg #[.int .i64 v.node,.int .i64 v.seq,.int .i64 v.o0,.int .i64 v.o1,.int .i64 v.o2,.int .i64 v.o3,.string v.value,.bool v.gone]] wx fun e w'=>e=.returned (.int .i64 (zw N.self key v))∧Fr Nil wx w'):=by
  intro wx f
  obtain⟨kv,hv,ents,ha,_⟩:=HLA.out wx f
  have hb:=ha.blk
  rw[hself] at hb
  exact Y2 q N.self kv hv key v wx hb
 have HLT5:=Z hlt5
 have HCK:Hid (∀ wx,Fr Nil w5 wx→∀ k,wx.cell? ⟨w.heap.size,k,none⟩=([.int .i64 kind,.int .i64 a,.int .i64 b,.int .i64 c,.string key,.string text,.int .i64 v.node,.int .i64 v.seq,.int .i64 v.o0,.int .i64 v.o1,.int .i64 v.o2,.int .i64 v.o3,.string v.value,.bool v.gone,tails]:List Value)[k]?):=fun wx f=>(HX4.out _ _ _ _ _ _ _ (HP5.out.trans (HP5.out.rep.nil f))).1
 clear hcc hlast hlt5 hqq hlm HK HACC
 have hz5:=HCK.out w5 (G _ _)
 go_wp2_with fail
 go_region_held3 (fun w'=>∀ k,w'.cell? ⟨w.heap.size,k,none⟩=([.int .i64 kind,.int .i64 a,.int .i64 b,.int .i64 c,.string key,.string text,.int .i64 v.node,.int .i64 v.seq,.int .i64 v.o0,.int .i64 v.o1,.int .i64 v.o2,.int .i64 v.o3,.string v.value,.bool v.gone,tails]:List Value)[k]?) (first|assumption|go_keep)
  (first
  | (go_at_call 111;refine(HBV.out _ (by repeat' first|(with_reducible first|apply G|assumption|apply O|apply U|apply V|apply z6)|(intro _;rfl))).mono ?_;rintro e w8 ⟨rfl,hf8⟩;have hF8:Fr Nil w5 w8:=Fr.trans (by repeat' first|(with_reducible first|apply G|assumption|apply O|apply U|apply V|apply z6)|(intro _;rfl)) hf8;have HF8:=Z hF8;have hz8:=HCK.out w8 hF8;clear hf8 hF8)
  | (go_at_call 107;refine(HNOW.out _ (by repeat' first|(with_reducible first|apply G|assumption|apply O|apply U|apply V|apply z6)|(intro _;rfl))).mono ?_;rintro e w9 ⟨rfl,n9,hw9⟩;subst w9))
 rw[HPB.out f] at HP5 ⊢
 clear hbad
 have h8:=HP5.out.trans (HP5.out.rep.nil HF8.out)
 have hc8:=h8.rep.wat.blk.cell
 simp only[WM.cells,HBR.out] at hc8
 have HP8:=Z h8
 have HAM:Hid (∀ wx,Fr Nil w8 wx→Calls Tryz.prog 112 #[.pointer (some ⟨q,0,none⟩),.string key,.agg #[.int .i64 v.node,.int .i64 v.seq,.int .i64 v.o0,.int .i64 v.o1,.int .i64 v.o2,.int .i64 v.o3,.string v.value,.bool v.gone]] wx fun e w'=>e=.returned (.tuple #[.pointer (some ⟨q,0,none⟩),.int .i64 0])∧Fr Nil wx w'):=by
  intro wx f
  refine(Xp K q m key v wx (HLA.out wx (HF8.out.trans f)) hmk (by rw[HVS.out];exact HND2.out) HNV.out (by rw[HVS.out];exact HVL.out)).mono ?_
  intro e w' h
  rw[HVS.out,HWY.out] at h
  rcases h with⟨h0,h⟩|⟨h0,h⟩|⟨h0,h⟩
  ·exact h
  ·exact absurd h0 (by decide)
  ·exact absurd h0 (by decide)
 clear h8
 go_wp2_with fail
 clear hc8
 go_region_held3 (fun w'=>∀ k,w'.cell? ⟨w.heap.size,k,none⟩=([.int .i64 kind,.int .i64 a,.int .i64 b,.int .i64 c,.string key,.string text,.int .i64 v.node,.int .i64 v.seq,.int .i64 v.o0,.int .i64 v.o1,.int .i64 v.o2,.int .i64 v.o3,.string v.value,.bool v.gone,tails]:List Value)[k]?) (first|assumption|go_keep)
  (first
  | (go_at_call 112;refine(HAM.out _ (by repeat' first|(with_reducible first|apply G|assumption|apply O|apply U|apply V|apply z6)|(intro _;rfl))).mono ?_;rintro e w9 ⟨rfl,hf9⟩;have hF9:Fr Nil w8 w9:=Fr.trans (by repeat' first|(with_reducible first|apply G|assumption|apply O|apply U|apply V|apply z6)|(intro _;rfl)) hf9;have HF9:=Z hF9;have hz9:=HCK.out w9 (HF8.out.trans hF9);clear hf9 hF9)
  | (go_at_call 107;refine(HNOW.out _ (HF8.out.trans (by exact(by repeat' first|(with_reducible first|apply G|assumption|apply O|apply U|apply V|apply z6)|(intro _;rfl))))).mono ?_;rintro e w9 ⟨rfl,n9,hw9⟩;subst w9))
 have heq:=fun wx=>OT wx q
 have HQT:=Z (fun wx (f:Fr Nil w9 wx)=>ZE K L W X5.LD M 0 0 M.calls wx (HP8.out.rep.wat.nil (HF9.out.trans f)) (HP8.out.rep.marks.nil (HF9.out.trans f)))
 simp only[and_self,decide_true] at HQT
 clear hz9
 go_wp2_with fail
 refine(HNOW.out _ (HF8.out.trans HF9.out)).mono ?_
 rintro e w10 ⟨rfl,n10,hw10⟩
 subst w10
 go_wp2_with fail
 refine(HQT.out _ (by exact(by repeat' first|(with_reducible first|apply G|assumption|apply O|apply U|apply V|apply z6)|(intro _;rfl)))).mono ?_
 rintro e wx ⟨rfl,hwx⟩
 subst wx
 go_wp2_with fail
 go_ret
 exact⟨rfl,X5,(HH.out.nil HF34.out).trans (HP8.out.trans (HP8.out.rep.nil (HF9.out.trans (by exact(by repeat' first|(with_reducible first|apply G|assumption|apply O|apply U|apply V|apply z6)|(intro _;rfl))))))⟩
theorem MRep.drewN{K:Nat→Prop}{w:World}{p:Nat}{m:LM}(h:MRep K w p m)(n:Nat):MRep K (w.drewN n) p m:=h.keep (fun _ _=>rfl) (fun _ e=>e)
theorem Rv(herr:zr)(K:Nat→Prop)(B:Nat)(L:WL)(W:WM)(X:NL)(N:NM)(M:DM)(o:OpM)(w:World)(h:Play K B w L W X N M)(hbr:W.broken=false)(hp:0<L.ps.length)(hl:L.ps.length<1000000)
  (hnode:∀ u∈zc N.S.keys o.key,zE u.node)(hasc:ZU (zc N.S.keys o.key))(hnk:N.S.keys.length<1099511627776)(hnl:(zc N.S.keys o.key).length<1000000)
  (hfit:∀ H,w.heap.size≤H→zm o.key=true→o.v.value.size≤128→foreign N.self o.v=true→(o.v.gone=false→(zn (zc N.S.keys o.key) o.v).length<4)→Fit N M H (.inr (.inl (o.key,ZB (zc N.S.keys o.key) o.v))))
  (m:LM)(hm:W.st[L.ps.length-1]?=some m)(hself:m.node=N.self)
  (hbad:zw N.self o.key o.v=0)(hro:N.readOnly=false)(hvs:zL m.keys o.key=zc N.S.keys o.key)(hmk:m.keys.length<100000000)(hvl:(zc N.S.keys o.key).length<100000)(hnv:zE o.v.node)
  (hway:zY (zc N.S.keys o.key) o.v=1) :
  Calls Tryz.prog 62 #[.pointer (some ⟨L.wb,0,none⟩),.agg o.cells.toArray] w fun e w'=>e=.returned (.bool true)∧∃ X',PStep K B L X M w K L W X' N M w':=by
 obtain⟨kind,a,b,c,key,text,v,tails⟩:=o
 simp only at hnode hasc hnl hfit hbad hvs hvl hnv hway ⊢
 have HPB:=Z (fun f=>(WC N M key v f hbad hro).trans (by simp[hway]):∀ f,N.accept M key v f=(6,N,M))
 have HNV:=Z hnv
 have HVS:=Z hvs
 have HND2:=Z hnode
 have HVL:=Z hvl
 have HWY:=Z hway
 have HNR:=Z hro
 clear hro hvs hvl hnv hway
 simp only[OpM.cells,Ver.cells,List.cons_append,List.nil_append]
 have f1:Fr Nil w (w.alloc (.cells #[.int .i64 kind,.int .i64 a,.int .i64 b,.int .i64 c,.string key,.string text,.int .i64 v.node,.int .i64 v.seq,.int .i64 v.o0,.int .i64 v.o1,.int .i64 v.o2,.int .i64 v.o3,.string v.value,.bool v.gone,tails] 39)):=(G _ _).alloc _
 have hb1:=Blk.new w [.int .i64 kind,.int .i64 a,.int .i64 b,.int .i64 c,.string key,.string text,.int .i64 v.node,.int .i64 v.seq,.int .i64 v.o0,.int .i64 v.o1,.int .i64 v.o2,.int .i64 v.o3,.string v.value,.bool v.gone,tails] 39
 have HM:=Z (fun wx (f:Fr Nil w wx)=>zQ K L W X.LD M wx (h.wat.nil f) ((h.marks).nil f))
 have HF:=Z (fun wx (f:Fr Nil w wx)=>Z2 K L W X.LD M wx (h.wat.nil f) ((h.marks).nil f))
 have HC:=Z (fun wx (f:Fr Nil w wx)=>zq wx L.db X.LD M ((h.marks).nil f))
 have hc1:=hb1.cell
 have HF1:=Z f1
 have HB1:=Z hb1
 have HH:=Z h
 have HFI:=Z hfit
 have HND:=Z hnode
 have HAS:=Z hasc
 have HBR:=Z hbr
 clear h f1 hb1 hfit hnode hasc hbr
 go_enter Tryz.func62,Tryz.ntmps62
 go_wp2_with fail
 generalize hwa:w.alloc (.cells #[.int .i64 kind,.int .i64 a,.int .i64 b,.int .i64 c,.string key,.string text,.int .i64 v.node,.int .i64 v.seq,.int .i64 v.o0,.int .i64 v.o1,.int .i64 v.o2,.int .i64 v.o3,.string v.value,.bool v.gone,tails] 39)=wa at hc1 HF1 HB1 ⊢
 have HBX:Hid (∀ wx,Fr (fun k=>k<w.heap.size) wa wx→∀ k,wx.cell? ⟨w.heap.size,k,none⟩=wa.cell? ⟨w.heap.size,k,none⟩):=fun wx f k=>((HB1.out.fr f (Nat.lt_irrefl _)).cell k).trans (HB1.out.cell k).symm
 have HC1:=Z hc1
 have HLT:Hid (w.heap.size<wa.heap.size):=HB1.out.lt
 clear hwa HB1
 refine(HM.out wa HF1.out).mono ?_
 rintro e w2 ⟨rfl,f2⟩
 have f02:Fr Nil w w2:=HF1.out.trans f2
 have hlt2:w.heap.size<w2.heap.size:=by have:=HLT.out;have:=f2.size;omega
 have F2:=Z f2
 have f3:Fr Nil w (w2.alloc (.cells #[.int .i64 M.refused,.int .i64 M.fulls] 111)):=f02.alloc _
 have hb3:=Blk.new w2 [.int .i64 M.refused,.int .i64 M.fulls] 111
 have hc3:=(HH.out.wat.nil f3).blk.cell
 simp only[WM.cells] at hc3
 have F02:=Z f02
 have HLT2:=Z hlt2
 have F3:=Z f3
 have HB3:=Z hb3
 clear f2 f02 hlt2 f3 hb3 hc1
 go_wp2_with (refine(HC.out _ F3.out).mono ?_;rintro e wx ⟨rfl,hwx⟩;subst wx)
 refine(HF.out _ F3.out).mono ?_
 rintro e w4 ⟨rfl,f4⟩
 have f34:Fr Nil w w4:=F3.out.trans f4
 have h4:=(HH.out.nil f34).rep
 have HF34:=Z f34
 have HF4:=Z f4
 have H4:=Z h4
 clear f34 f4 h4 hc3
 generalize IntKind.i64.wrap ((if W.room<0 then 1152921504606846976 else W.room)-M.used)=fr
 have HACC:=Z (fun wx (f:Fr Nil w4 wx)=>YM herr B X N M key v wx (H4.out.node.nil f) (H4.out.env.nil f) HND.out HAS.out hnk hnl (HFI.out _ (HF34.out.trans f).size))
 simp only[Ver.cells] at HACC
 have HX4:Hid (∀ wx K' L' W' X' N' M',PStep K B L X M w4 K' L' W' X' N' M' wx→(∀ k,wx.cell? ⟨w.heap.size,k,none⟩=([.int .i64 kind,.int .i64 a,.int .i64 b,.int .i64 c,.string key,.string text,.int .i64 v.node,.int .i64 v.seq,.int .i64 v.o0,.int .i64 v.o1,.int .i64 v.o2,.int .i64 v.o3,.string v.value,.bool v.gone,tails]:List Value)[k]?)∧(∀ k,wx.cell? ⟨w2.heap.size,k,none⟩=[Value.int .i64 M.refused,.int .i64 M.fulls][k]?)):=by
  intro wx K' L' W' X' N' M' s
  have fl:Fr (fun k=>k<w.heap.size) w4 wx:=s.fr.mono (fun k _ e=>HH.out.lt e)
  refine⟨fun k=>(HBX.out wx ((((F2.out.alloc _).trans HF4.out).mono (S':=fun k=>k<w.heap.size) (fun _ _ e=>absurd e id)).trans' fl (fun _ _ e=>e)) k).trans (HC1.out k),?_⟩
  exact(HB3.out.fr ((HF4.out.mono (S':=fun k=>k<w.heap.size) (fun _ _ e=>absurd e id)).trans' fl (fun _ _ e=>e)) (by have:=HLT2.out;omega)).cell
 have HK:Hid (∀ wx w' X' N' M',Fr Nil w4 wx→NStep X M wx X' N' M' w'→w'.cell? ⟨L.wb,5,none⟩=some (.pointer (some ⟨X.nb,0,none⟩))∧∀ k,w'.cell? ⟨w.heap.size,k,none⟩=([.int .i64 kind,.int .i64 a,.int .i64 b,.int .i64 c,.string key,.string text,.int .i64 v.node,.int .i64 v.seq,.int .i64 v.o0,.int .i64 v.o1,.int .i64 v.o2,.int .i64 v.o3,.string v.value,.bool v.gone,tails]:List Value)[k]?):=by
  intro wx w' X' N' M' f s
  have hp:=(H4.out.nil f).trans ((H4.out.nil f).rep.call s)
  refine⟨(hp.rep.wat.blk.cell 5).trans ?_,(HX4.out _ _ _ _ _ _ _ hp).1⟩
  show some L.nv=_
  rw[HH.out.nv]
 have hcc:=HK.out w4 w4 X N M (G _ _) (NStep.nil H4.out.node (G _ _))
 go_wp2_with fail
 go_region_held3 (fun w'=>w'.cell? ⟨L.wb,5,none⟩=some (.pointer (some ⟨X.nb,0,none⟩))∧∀ k,w'.cell? ⟨w.heap.size,k,none⟩=([.int .i64 kind,.int .i64 a,.int .i64 b,.int .i64 c,.string key,.string text,.int .i64 v.node,.int .i64 v.seq,.int .i64 v.o0,.int .i64 v.o1,.int .i64 v.o2,.int .i64 v.o3,.string v.value,.bool v.gone,tails]:List Value)[k]?) (first|assumption|go_keep)
  (first|(go_at_call 91;refine(HACC.out _ (by repeat' first|(with_reducible first|apply G|assumption|apply O|apply U|apply V|apply z6)|(intro _;rfl))).mono ?_;rintro e w5 ⟨f,X5,rfl,hf5,hs5⟩;have hz5:=HK.out _ _ _ _ _ (by repeat' first|(with_reducible first|apply G|assumption|apply O|apply U|apply V|apply z6)|(intro _;rfl)) hs5;have HS5:=Z (NStep.trans (NStep.nil H4.out.node (by exact(by repeat' first|(with_reducible first|apply G|assumption|apply O|apply U|apply V|apply z6)|(intro _;rfl)))) hs5);have HFF:=Z hf5;clear hs5 hf5))
 have HP5:=Z (H4.out.call HS5.out)
 have hple:L.ps.length=W.st.length:=HH.out.wat.ple
 have hlm:W.st[L.ps.length-1]'(by omega)=m:=by rw[List.getElem?_eq_getElem (by omega)] at hm;exact Option.some.inj hm
 have hlast:=(HP5.out.rep.wat.last hp).2
 simp only[hlm] at hlast
 have HNOW:=Z (fun wx (f:Fr Nil w5 wx)=>zV K L _ wx (HP5.out.rep.wat.nil f) hp (by omega))
 have hlt5:L.ps[L.ps.length-1]<w5.heap.size:=by obtain⟨c0,hb0⟩:=hlast.blk;exact hb0.lt
 obtain⟨q,hqq⟩:∃ q,q=L.ps[L.ps.length-1]:=⟨_,rfl⟩
 rw[← hqq] at hlast hlt5 HNOW
 have HQQ:=Z hqq
 have HLA:Hid (∀ wx,Fr Nil w5 wx→MRep K wx q m):=fun wx f=>hlast.keep (zI.of_fr f (fun k e=>⟨(HP5.out.rep.wat.keep k e).1,id⟩)) (fun _ e=>e)
 have HBV:Hid (∀ wx,Fr Nil w5 wx→Calls Tryz.prog 111 #[.pointer (some ⟨q,0,none⟩),.string key,.agg #[.int .i64 v.node,.int .i64 v.seq,.int .i64 v.o0,.int .i64 v.o1,.int .i64 v.o2,.int .i64 v.o3,.string v.value,.bool v.gone]] wx fun e w'=>e=.returned (.int .i64 (zw N.self key v))∧Fr Nil wx w'):=by
  intro wx f
  obtain⟨kv,hv,ents,ha,_⟩:=HLA.out wx f
  have hb:=ha.blk
  rw[hself] at hb
  exact Y2 q N.self kv hv key v wx hb
 have HLT5:=Z hlt5
 have HCK:Hid (∀ wx,Fr Nil w5 wx→∀ k,wx.cell? ⟨w.heap.size,k,none⟩=([.int .i64 kind,.int .i64 a,.int .i64 b,.int .i64 c,.string key,.string text,.int .i64 v.node,.int .i64 v.seq,.int .i64 v.o0,.int .i64 v.o1,.int .i64 v.o2,.int .i64 v.o3,.string v.value,.bool v.gone,tails]:List Value)[k]?):=fun wx f=>(HX4.out _ _ _ _ _ _ _ (HP5.out.trans (HP5.out.rep.nil f))).1
 clear hcc hlast hlt5 hqq hlm HK HACC
 have hz5:=HCK.out w5 (G _ _)
 go_wp2_with fail
 go_region_held3 (fun w'=>∀ k,w'.cell? ⟨w.heap.size,k,none⟩=([.int .i64 kind,.int .i64 a,.int .i64 b,.int .i64 c,.string key,.string text,.int .i64 v.node,.int .i64 v.seq,.int .i64 v.o0,.int .i64 v.o1,.int .i64 v.o2,.int .i64 v.o3,.string v.value,.bool v.gone,tails]:List Value)[k]?) (first|assumption|go_keep)
  (first
  | (go_at_call 111;refine(HBV.out _ (by repeat' first|(with_reducible first|apply G|assumption|apply O|apply U|apply V|apply z6)|(intro _;rfl))).mono ?_;rintro e w8 ⟨rfl,hf8⟩;have hF8:Fr Nil w5 w8:=Fr.trans (by repeat' first|(with_reducible first|apply G|assumption|apply O|apply U|apply V|apply z6)|(intro _;rfl)) hf8;have HF8:=Z hF8;have hz8:=HCK.out w8 hF8;clear hf8 hF8)
  | (go_at_call 107;refine(HNOW.out _ (by repeat' first|(with_reducible first|apply G|assumption|apply O|apply U|apply V|apply z6)|(intro _;rfl))).mono ?_;rintro e w9 ⟨rfl,n9,hw9⟩;subst w9))
 rw[HPB.out f] at HP5 ⊢
 clear hbad
 have h8:=HP5.out.trans (HP5.out.rep.nil HF8.out)
 have hc8:=h8.rep.wat.blk.cell
 simp only[WM.cells,HBR.out] at hc8
 have HP8:=Z h8
 have HAM:Hid (∀ wx,Fr Nil w8 wx→Calls Tryz.prog 112 #[.pointer (some ⟨q,0,none⟩),.string key,.agg #[.int .i64 v.node,.int .i64 v.seq,.int .i64 v.o0,.int .i64 v.o1,.int .i64 v.o2,.int .i64 v.o3,.string v.value,.bool v.gone]] wx fun e w'=>e=.returned (.tuple #[.pointer none,.int .i64 6])∧Fr Nil wx w'):=by
  intro wx f
  refine(Xp K q m key v wx (HLA.out wx (HF8.out.trans f)) hmk (by rw[HVS.out];exact HND2.out) HNV.out (by rw[HVS.out];exact HVL.out)).mono ?_
  intro e w' h
  rw[HVS.out,HWY.out] at h
  rcases h with⟨h0,h⟩|⟨h0,h⟩|⟨h0,h⟩
  ·exact absurd h0 (by decide)
  ·exact h
  ·exact absurd h0 (by decide)
 clear h8
 go_wp2_with fail
 clear hc8
 go_region_held3 (fun w'=>∀ k,w'.cell? ⟨w.heap.size,k,none⟩=([.int .i64 kind,.int .i64 a,.int .i64 b,.int .i64 c,.string key,.string text,.int .i64 v.node,.int .i64 v.seq,.int .i64 v.o0,.int .i64 v.o1,.int .i64 v.o2,.int .i64 v.o3,.string v.value,.bool v.gone,tails]:List Value)[k]?) (first|assumption|go_keep)
  (first
  | (go_at_call 112;refine(HAM.out _ (by repeat' first|(with_reducible first|apply G|assumption|apply O|apply U|apply V|apply z6)|(intro _;rfl))).mono ?_;rintro e w9 ⟨rfl,hf9⟩;have hF9:Fr Nil w8 w9:=Fr.trans (by repeat' first|(with_reducible first|apply G|assumption|apply O|apply U|apply V|apply z6)|(intro _;rfl)) hf9;have HF9:=Z hF9;have hz9:=HCK.out w9 (HF8.out.trans hF9);clear hf9 hF9)
  | (go_at_call 107;refine(HNOW.out _ (HF8.out.trans (by exact(by repeat' first|(with_reducible first|apply G|assumption|apply O|apply U|apply V|apply z6)|(intro _;rfl))))).mono ?_;rintro e w9 ⟨rfl,n9,hw9⟩;subst w9))
 have HQT:=Z (fun wx (f:Fr Nil w9 wx)=>ZE K L W X5.LD M 6 6 M.calls wx (HP8.out.rep.wat.nil (HF9.out.trans f)) (HP8.out.rep.marks.nil (HF9.out.trans f)))
 simp only[and_self,decide_true] at HQT
 clear hz9
 go_wp2_with fail
 refine(HQT.out _ (by exact(by repeat' first|(with_reducible first|apply G|assumption|apply O|apply U|apply V|apply z6)|(intro _;rfl)))).mono ?_
 rintro e wx ⟨rfl,hwx⟩
 subst wx
 go_wp2_with fail
 go_ret
 exact⟨rfl,X5,(HH.out.nil HF34.out).trans (HP8.out.trans (HP8.out.rep.nil (HF9.out.trans (by exact(by repeat' first|(with_reducible first|apply G|assumption|apply O|apply U|apply V|apply z6)|(intro _;rfl))))))⟩
theorem Rw(herr:zr)(K:Nat→Prop)(B:Nat)(L:WL)(W:WM)(X:NL)(N:NM)(M:DM)(o:OpM)(w:World)(h:Play K B w L W X N M)(hbr:W.broken=false)(hp:0<L.ps.length)(hl:L.ps.length<1000000)
  (hnode:∀ u∈zc N.S.keys o.key,zE u.node)(hasc:ZU (zc N.S.keys o.key))(hnk:N.S.keys.length<1099511627776)(hnl:(zc N.S.keys o.key).length<1000000)
  (hfit:∀ H,w.heap.size≤H→zm o.key=true→o.v.value.size≤128→foreign N.self o.v=true→(o.v.gone=false→(zn (zc N.S.keys o.key) o.v).length<4)→Fit N M H (.inr (.inl (o.key,ZB (zc N.S.keys o.key) o.v))))
  (m:LM)(hm:W.st[L.ps.length-1]?=some m)(hself:m.node=N.self)
  (hbad:zw N.self o.key o.v=0)(hvs:zL m.keys o.key=zc N.S.keys o.key)(hmk:m.keys.length<100000000)(hvl:(zc N.S.keys o.key).length<100000)(hnv:zE o.v.node)
  (hway:zY (zc N.S.keys o.key) o.v=2)(hwr:W.writes<100000000)(hcalm:∀ f,w.heap.size≤f→(N.accept M o.key o.v f).1=0∧(N.accept M o.key o.v f).2.2.refused=M.refused) :
  Calls Tryz.prog 62 #[.pointer (some ⟨L.wb,0,none⟩),.agg o.cells.toArray] w fun e w'=>e=.returned (.bool true)∧∃ f K' L' X',w.heap.size≤f∧L'.ps≠[]∧PStep K B L X M w K' L' (W.took (m.accept o.key o.v)) X' (N.accept M o.key o.v f).2.1 (N.accept M o.key o.v f).2.2 w':=by
 obtain⟨kind,a,b,c,key,text,v,tails⟩:=o
 simp only at hnode hasc hnl hfit hbad hvs hvl hnv hway hcalm ⊢
 have HNV:=Z hnv
 have HVS:=Z hvs
 have HND2:=Z hnode
 have HVL:=Z hvl
 have HWY:=Z hway
 have HCA:=Z hcalm
 clear hvs hvl hnv hway hcalm
 simp only[OpM.cells,Ver.cells,List.cons_append,List.nil_append]
 have f1:Fr Nil w (w.alloc (.cells #[.int .i64 kind,.int .i64 a,.int .i64 b,.int .i64 c,.string key,.string text,.int .i64 v.node,.int .i64 v.seq,.int .i64 v.o0,.int .i64 v.o1,.int .i64 v.o2,.int .i64 v.o3,.string v.value,.bool v.gone,tails] 39)):=(G _ _).alloc _
 have hb1:=Blk.new w [.int .i64 kind,.int .i64 a,.int .i64 b,.int .i64 c,.string key,.string text,.int .i64 v.node,.int .i64 v.seq,.int .i64 v.o0,.int .i64 v.o1,.int .i64 v.o2,.int .i64 v.o3,.string v.value,.bool v.gone,tails] 39
 have HM:=Z (fun wx (f:Fr Nil w wx)=>zQ K L W X.LD M wx (h.wat.nil f) ((h.marks).nil f))
 have HF:=Z (fun wx (f:Fr Nil w wx)=>Z2 K L W X.LD M wx (h.wat.nil f) ((h.marks).nil f))
 have HC:=Z (fun wx (f:Fr Nil w wx)=>zq wx L.db X.LD M ((h.marks).nil f))
 have hc1:=hb1.cell
 have HF1:=Z f1
 have HB1:=Z hb1
 have HH:=Z h
 have HFI:=Z hfit
 have HND:=Z hnode
 have HAS:=Z hasc
 have HBR:=Z hbr
 clear h f1 hb1 hfit hnode hasc hbr
 go_enter Tryz.func62,Tryz.ntmps62
 go_wp2_with fail
 generalize hwa:w.alloc (.cells #[.int .i64 kind,.int .i64 a,.int .i64 b,.int .i64 c,.string key,.string text,.int .i64 v.node,.int .i64 v.seq,.int .i64 v.o0,.int .i64 v.o1,.int .i64 v.o2,.int .i64 v.o3,.string v.value,.bool v.gone,tails] 39)=wa at hc1 HF1 HB1 ⊢
 have HBX:Hid (∀ wx,Fr (fun k=>k<w.heap.size) wa wx→∀ k,wx.cell? ⟨w.heap.size,k,none⟩=wa.cell? ⟨w.heap.size,k,none⟩):=fun wx f k=>((HB1.out.fr f (Nat.lt_irrefl _)).cell k).trans (HB1.out.cell k).symm
 have HC1:=Z hc1
 have HLT:Hid (w.heap.size<wa.heap.size):=HB1.out.lt
 clear hwa HB1
 refine(HM.out wa HF1.out).mono ?_
 rintro e w2 ⟨rfl,f2⟩
 have f02:Fr Nil w w2:=HF1.out.trans f2
 have hlt2:w.heap.size<w2.heap.size:=by have:=HLT.out;have:=f2.size;omega
 have F2:=Z f2
 have f3:Fr Nil w (w2.alloc (.cells #[.int .i64 M.refused,.int .i64 M.fulls] 111)):=f02.alloc _
 have hb3:=Blk.new w2 [.int .i64 M.refused,.int .i64 M.fulls] 111
 have hc3:=(HH.out.wat.nil f3).blk.cell
 simp only[WM.cells] at hc3
 have F02:=Z f02
 have HLT2:=Z hlt2
 have F3:=Z f3
 have HB3:=Z hb3
 clear f2 f02 hlt2 f3 hb3 hc1
 go_wp2_with (refine(HC.out _ F3.out).mono ?_;rintro e wx ⟨rfl,hwx⟩;subst wx)
 refine(HF.out _ F3.out).mono ?_
 rintro e w4 ⟨rfl,f4⟩
 have f34:Fr Nil w w4:=F3.out.trans f4
 have h4:=(HH.out.nil f34).rep
 have HF34:=Z f34
 have HF4:=Z f4
 have H4:=Z h4
 clear f34 f4 h4 hc3
 generalize IntKind.i64.wrap ((if W.room<0 then 1152921504606846976 else W.room)-M.used)=fr
 have HACC:=Z (fun wx (f:Fr Nil w4 wx)=>YM herr B X N M key v wx (H4.out.node.nil f) (H4.out.env.nil f) HND.out HAS.out hnk hnl (HFI.out _ (HF34.out.trans f).size))
 simp only[Ver.cells] at HACC
 have HX4:Hid (∀ wx K' L' W' X' N' M',PStep K B L X M w4 K' L' W' X' N' M' wx→(∀ k,wx.cell? ⟨w.heap.size,k,none⟩=([.int .i64 kind,.int .i64 a,.int .i64 b,.int .i64 c,.string key,.string text,.int .i64 v.node,.int .i64 v.seq,.int .i64 v.o0,.int .i64 v.o1,.int .i64 v.o2,.int .i64 v.o3,.string v.value,.bool v.gone,tails]:List Value)[k]?)∧(∀ k,wx.cell? ⟨w2.heap.size,k,none⟩=[Value.int .i64 M.refused,.int .i64 M.fulls][k]?)):=by
  intro wx K' L' W' X' N' M' s
  have fl:Fr (fun k=>k<w.heap.size) w4 wx:=s.fr.mono (fun k _ e=>HH.out.lt e)
  refine⟨fun k=>(HBX.out wx ((((F2.out.alloc _).trans HF4.out).mono (S':=fun k=>k<w.heap.size) (fun _ _ e=>absurd e id)).trans' fl (fun _ _ e=>e)) k).trans (HC1.out k),?_⟩
  exact(HB3.out.fr ((HF4.out.mono (S':=fun k=>k<w.heap.size) (fun _ _ e=>absurd e id)).trans' fl (fun _ _ e=>e)) (by have:=HLT2.out;omega)).cell
 have HK:Hid (∀ wx w' X' N' M',Fr Nil w4 wx→NStep X M wx X' N' M' w'→w'.cell? ⟨L.wb,5,none⟩=some (.pointer (some ⟨X.nb,0,none⟩))∧∀ k,w'.cell? ⟨w.heap.size,k,none⟩=([.int .i64 kind,.int .i64 a,.int .i64 b,.int .i64 c,.string key,.string text,.int .i64 v.node,.int .i64 v.seq,.int .i64 v.o0,.int .i64 v.o1,.int .i64 v.o2,.int .i64 v.o3,.string v.value,.bool v.gone,tails]:List Value)[k]?):=by
  intro wx w' X' N' M' f s
  have hp:=(H4.out.nil f).trans ((H4.out.nil f).rep.call s)
  refine⟨(hp.rep.wat.blk.cell 5).trans ?_,(HX4.out _ _ _ _ _ _ _ hp).1⟩
  show some L.nv=_
  rw[HH.out.nv]
 have hcc:=HK.out w4 w4 X N M (G _ _) (NStep.nil H4.out.node (G _ _))
 go_wp2_with fail
 go_region_held3 (fun w'=>w'.cell? ⟨L.wb,5,none⟩=some (.pointer (some ⟨X.nb,0,none⟩))∧∀ k,w'.cell? ⟨w.heap.size,k,none⟩=([.int .i64 kind,.int .i64 a,.int .i64 b,.int .i64 c,.string key,.string text,.int .i64 v.node,.int .i64 v.seq,.int .i64 v.o0,.int .i64 v.o1,.int .i64 v.o2,.int .i64 v.o3,.string v.value,.bool v.gone,tails]:List Value)[k]?) (first|assumption|go_keep)
  (first|(go_at_call 91;refine(HACC.out _ (by repeat' first|(with_reducible first|apply G|assumption|apply O|apply U|apply V|apply z6)|(intro _;rfl))).mono ?_;rintro e w5 ⟨f,X5,rfl,hf5,hs5⟩;have hz5:=HK.out _ _ _ _ _ (by repeat' first|(with_reducible first|apply G|assumption|apply O|apply U|apply V|apply z6)|(intro _;rfl)) hs5;have HS5:=Z (NStep.trans (NStep.nil H4.out.node (by exact(by repeat' first|(with_reducible first|apply G|assumption|apply O|apply U|apply V|apply z6)|(intro _;rfl)))) hs5);have HFF:=Z hf5;clear hs5 hf5))
 have HP5:=Z (H4.out.call HS5.out)
 have hple:L.ps.length=W.st.length:=HH.out.wat.ple
 have hlm:W.st[L.ps.length-1]'(by omega)=m:=by rw[List.getElem?_eq_getElem (by omega)] at hm;exact Option.some.inj hm
 have hlast:=(HP5.out.rep.wat.last hp).2
 simp only[hlm] at hlast
 have HNOW:=Z (fun wx (f:Fr Nil w5 wx)=>zV K L _ wx (HP5.out.rep.wat.nil f) hp (by omega))
 have hlt5:L.ps[L.ps.length-1]<w5.heap.size:=by obtain⟨c0,hb0⟩:=hlast.blk;exact hb0.lt
 obtain⟨q,hqq⟩:∃ q,q=L.ps[L.ps.length-1]:=⟨_,rfl⟩
 rw[← hqq] at hlast hlt5 HNOW
 have HQQ:=Z hqq
 have HLA:Hid (∀ wx,Fr Nil w5 wx→MRep K wx q m):=fun wx f=>hlast.keep (zI.of_fr f (fun k e=>⟨(HP5.out.rep.wat.keep k e).1,id⟩)) (fun _ e=>e)
 have HBV:Hid (∀ wx,Fr Nil w5 wx→Calls Tryz.prog 111 #[.pointer (some ⟨q,0,none⟩),.string key,.agg #[.int .i64 v.node,.int .i64 v.seq,.int .i64 v.o0,.int .i64 v.o1,.int .i64 v.o2,.int .i64 v.o3,.string v.value,.bool v.gone]] wx fun e w'=>e=.returned (.int .i64 (zw N.self key v))∧Fr Nil wx w'):=by
  intro wx f
  obtain⟨kv,hv,ents,ha,_⟩:=HLA.out wx f
  have hb:=ha.blk
  rw[hself] at hb
  exact Y2 q N.self kv hv key v wx hb
 have HLT5:=Z hlt5
 have HCK:Hid (∀ wx,Fr Nil w5 wx→∀ k,wx.cell? ⟨w.heap.size,k,none⟩=([.int .i64 kind,.int .i64 a,.int .i64 b,.int .i64 c,.string key,.string text,.int .i64 v.node,.int .i64 v.seq,.int .i64 v.o0,.int .i64 v.o1,.int .i64 v.o2,.int .i64 v.o3,.string v.value,.bool v.gone,tails]:List Value)[k]?):=fun wx f=>(HX4.out _ _ _ _ _ _ _ (HP5.out.trans (HP5.out.rep.nil f))).1
 clear hcc hlast hlt5 hqq hlm HK HACC
 have hz5:=HCK.out w5 (G _ _)
 go_wp2_with fail
 go_region_held3 (fun w'=>∀ k,w'.cell? ⟨w.heap.size,k,none⟩=([.int .i64 kind,.int .i64 a,.int .i64 b,.int .i64 c,.string key,.string text,.int .i64 v.node,.int .i64 v.seq,.int .i64 v.o0,.int .i64 v.o1,.int .i64 v.o2,.int .i64 v.o3,.string v.value,.bool v.gone,tails]:List Value)[k]?) (first|assumption|go_keep)
  (first
  | (go_at_call 111;refine(HBV.out _ (by repeat' first|(with_reducible first|apply G|assumption|apply O|apply U|apply V|apply z6)|(intro _;rfl))).mono ?_;rintro e w8 ⟨rfl,hf8⟩;have hF8:Fr Nil w5 w8:=Fr.trans (by repeat' first|(with_reducible first|apply G|assumption|apply O|apply U|apply V|apply z6)|(intro _;rfl)) hf8;have HF8:=Z hF8;have hz8:=HCK.out w8 hF8;clear hf8 hF8)
  | (go_at_call 107;refine(HNOW.out _ (by repeat' first|(with_reducible first|apply G|assumption|apply O|apply U|apply V|apply z6)|(intro _;rfl))).mono ?_;rintro e w9 ⟨rfl,n9,hw9⟩;subst w9))
 have hq:=HCA.out f (Nat.le_trans HF34.out.size HFF.out)
 rw[hq.1]
 obtain⟨M5,hM5⟩:∃ M5,M5=(N.accept M key v f).2.2:=⟨_,rfl⟩
 obtain⟨N5,hN5⟩:∃ N5,N5=(N.accept M key v f).2.1:=⟨_,rfl⟩
 rw[← hM5,← hN5] at HP5
 rw[← hM5] at hq
 have HEQ:=Z (And.intro hN5 hM5)
 have HQ:=Z hq
 clear hbad hN5 hM5 hq
 have h8:=HP5.out.trans (HP5.out.rep.nil HF8.out)
 have hc8:=h8.rep.wat.blk.cell
 simp only[WM.cells,HBR.out] at hc8
 have HP8:=Z h8
 have HAM:Hid (∀ wx,Fr Nil w8 wx→Calls Tryz.prog 112 #[.pointer (some ⟨q,0,none⟩),.string key,.agg #[.int .i64 v.node,.int .i64 v.seq,.int .i64 v.o0,.int .i64 v.o1,.int .i64 v.o2,.int .i64 v.o3,.string v.value,.bool v.gone]] wx fun e w'=>∃ nb,e=.returned (.tuple #[.pointer (some ⟨nb,0,none⟩),.int .i64 0])∧MRep (KGr K wx w') w' nb (m.accept key v)∧Fr Nil wx w'∧wx.heap.size≤nb):=by
  intro wx f
  refine(Xp K q m key v wx (HLA.out wx (HF8.out.trans f)) hmk (by rw[HVS.out];exact HND2.out) HNV.out (by rw[HVS.out];exact HVL.out)).mono ?_
  intro e w' h
  rw[HVS.out,HWY.out] at h
  rcases h with⟨h0,h⟩|⟨h0,h⟩|⟨h0,h⟩
  ·exact absurd h0 (by decide)
  ·exact absurd h0 (by decide)
  ·exact h
 clear h8
 go_wp2_with fail
 clear hc8
 go_region_held3 (fun w'=>∀ k,w'.cell? ⟨w.heap.size,k,none⟩=([.int .i64 kind,.int .i64 a,.int .i64 b,.int .i64 c,.string key,.string text,.int .i64 v.node,.int .i64 v.seq,.int .i64 v.o0,.int .i64 v.o1,.int .i64 v.o2,.int .i64 v.o3,.string v.value,.bool v.gone,tails]:List Value)[k]?) (first|assumption|go_keep)
  (first
  | (go_at_call 112;refine(HAM.out _ (by repeat' first|(with_reducible first|apply G|assumption|apply O|apply U|apply V|apply z6)|(intro _;rfl))).mono ?_;rintro e w9 ⟨nb,rfl,hr9,hf9,hn9⟩;have hF9:Fr Nil w8 w9:=Fr.trans (by repeat' first|(with_reducible first|apply G|assumption|apply O|apply U|apply V|apply z6)|(intro _;rfl)) hf9;have hz9:=HCK.out w9 (HF8.out.trans hF9);have HR9:=Z hr9;have HP9:=Z (HP8.out.trans ((HP8.out.rep.nil (by exact(by repeat' first|(with_reducible first|apply G|assumption|apply O|apply U|apply V|apply z6)|(intro _;rfl)))).trans ((HP8.out.rep.nil (by exact(by repeat' first|(with_reducible first|apply G|assumption|apply O|apply U|apply V|apply z6)|(intro _;rfl)))).rep.gr hf9)));have HN9:=Z hn9;have HF9:=Z hF9;clear hf9 hF9 hr9 hn9)
  | (go_at_call 107;refine(HNOW.out _ (HF8.out.trans (by exact(by repeat' first|(with_reducible first|apply G|assumption|apply O|apply U|apply V|apply z6)|(intro _;rfl))))).mono ?_;rintro e w9 ⟨rfl,n9,hw9⟩;subst w9))
 have hne:nb≠q:=by have h1:=HLT5.out;have h2:w8.heap.size≤nb:=HN9.out;have h3:=HF8.out.size;omega
 have HNE:=Z hne
 have heq:∀ n,(binOp .eql 104 (.pointer (some ⟨nb,0,none⟩)) (.pointer (some ⟨q,0,none⟩))).run Tryz.prog (w9.drewN n)=.ok (.bool false) (w9.drewN n):=by
  intro n
  obtain⟨c1,hb1⟩:=HR9.out.blk
  obtain⟨c2,hb2⟩:=(HLA.out w9 (HF8.out.trans HF9.out)).blk
  exact(Uy (hb1.drewN n) (hb2.drewN n) hne).2
 clear hz9 hne
 go_wp2_with fail
 refine(HNOW.out _ (HF8.out.trans HF9.out)).mono ?_
 rintro e w10 ⟨rfl,n10,hw10⟩
 subst w10
 have HP10:=Z (HP9.out.trans (HP9.out.rep.nil ((G _ w9).drewN n10)))
 have HEND:=Z (Xi _ L _ X5.LD M5 nb (m.accept key v) fr M.fulls _ HP10.out.rep.wat HP10.out.rep.marks hp (by omega) (HR9.out.drewN n10) (by rw[← HQQ.out];exact HNE.out) (by omega))
 rw[HQ.out.2] at HEND
 have hcm:=(HX4.out _ _ _ _ _ _ _ HP10.out).2
 clear HNOW HAM
 have heq10:=heq n10
 go_wp2_with fail
 refine HEND.out.mono ?_
 rintro e w11 ⟨rfl,L11,hs11,hps11⟩
 have HS11:=Z hs11
 have HPS:=Z hps11
 clear hs11 hps11
 go_wp2_with fail
 go_ret
 have h:=(HH.out.nil HF34.out).trans (HP10.out.trans (HP10.out.rep.turn HS11.out))
 rw[HEQ.out.1,HEQ.out.2] at h
 exact⟨rfl,f,_,L11,X5,Nat.le_trans HF34.out.size HFF.out,HPS.out,h⟩
end Go.Proofs.YtkhnggkkiefcdaaGreatDoor
