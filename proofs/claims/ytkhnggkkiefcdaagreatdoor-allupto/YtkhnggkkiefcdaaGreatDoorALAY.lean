/- larder: joined texts -/
import Derived.Test.YtkhnggkkiefcdaaGreatDoorALAX
import Derived.Stop.Asserts
import Derived.RowKitTokens
namespace Go.Proofs.YtkhnggkkiefcdaaGreatDoor
open Go.RowKit Proofs.Tryz
set_option maxRecDepth 100000
set_option maxHeartbeats 8000000
variable{p:Prop}{W:WM}{N:NM}{M:DM}{F:List Fact}{t:Nat}{node:Int}{m:LM}
def Y7(N:NM)(b:Int)(a:ByteArray):Option Int :=
 if Zo N.tN b a≠0 then some (Zo N.tN b a) else if N.uW=true then some 8 else if 32<=N.S.uU.length then some 6 else none
theorem OV(N:NM)(M:DM)(b:Int)(a:ByteArray)(f:Nat):N.sE M b a f=match Y7 N b a with
 | some c=>(c,N,M)
 | none=>N.rk M (.inr (.inr (.inl (b.toNat,a)))) f:=by
 unfold Y7 NM.sE Zo;by_cases d:(zM b&&decide (b≠N.tN))=false
 .simp only[d];simp
 .rw[CW d,CW d]
  by_cases e:a.size=0\/64<a.size
  .simp only[e];simp
  .rw[CW e,CW e]
   cases hr:N.uW
   .by_cases h3:32<=N.S.uU.length
    .simp[h3]
    .simp[h3]
   .simp
def YP(N:NM):Option Int:=if N.uW=true then some 8 else if N.S.uU.length=0 then some 7 else none
theorem LZ(N:NM)(M:DM)(f:Nat):N.qJ M f=match YP N with
 | some c=>(c,N,M)
 | none=>N.rk M (.inr (.inr (.inr ()))) f:=by
 unfold YP NM.qJ;cases hr:N.uW
 .by_cases h3:N.S.uU.length=0
  .simp[h3]
  .simp[h3]
 .simp
theorem GI(h:p:=by
 go_wp2_with fail;refine(a1.o _ zd).mono ?_;rintro e g ⟨rfl,e7⟩;subst g;go_wp2_with fail;go_ret;exact⟨rfl,b3.o _ (b9.o.trans zd)⟩):p:=h
theorem OW(d6:zy)(K:Nat->Prop)(B:Nat)(L:WL)(W:WM)(X:NL)(N:NM)(M:DM)(o:OpM)(w:World)(h:Play K B w L W X N M)(hk:o.kind=7)(G:N.uW=W.tq)(hp:0<L.ps.length)(hl:L.ps.length<1000000)
 (b0:∀ H,w.heap.size<=H->o.tZ.size<=64->zM o.a=true->N.uW=false->Fit N M H (.inr (.inr (.inl (o.a.toNat,o.tZ)))))
 (m:LM)(hm:W.st[L.ps.length-1]?=some m)(c6:m.node=N.tN)(f7:m.uU.length=N.S.uU.length)(f6:m.uU.length<1000000)
 (Q:World->Prop)
 (D:∀ c,Y7 N o.a o.tZ=some c->∀ X' g,PStep K B L X M w K L W X' N M g->Q g)
 (hQ:Y7 N o.a o.tZ=none->∀ f K' X' q g,w.heap.size<=f->PStep K B L X M w K' L W X' (N.sE M o.a o.tZ f).2.1 (N.sE M o.a o.tZ f).2.2 g->MRep K' g q (m.sE o.a.toNat o.tZ)->q≠L.ps[L.ps.length-1] ->
   Calls prog 110 #[E L.wb 0,E q 0,I (N.sE M o.a o.tZ f).1,.agg #[I M.uT,I M.tr],I (W.free M)] g fun e j=>e=.returned (.bool true)/\Q j) :
 Calls prog 63 #[E L.wb 0,.agg o.cells.toArray] w fun e j=>e=.returned (.bool true)/\Q j:=by
 have f1:Fr Nil w (w.alloc (.cells o.cells.toArray 39)):=(U _ _).alloc _;have a8:=Blk.new w o.cells 39;have HM:=Z (fun g (f:Fr Nil w g)=>Ze K L W X.LD M g (h.tE.nil f) ((h.tI).nil f));have HF:=Z (fun g (f:Fr Nil w g)=>Zu K L W X.LD M g (h.tE.nil f) ((h.tI).nil f));have HC:=Z (fun g (f:Fr Nil w g)=>zE g L.db X.LD M ((h.tI).nil f));obtain⟨wa,a7⟩:∃ wa,w.alloc (.cells o.cells.toArray 39)=wa:=⟨_,rfl⟩;rw[a7] at f1 a8;have d4:=a8.cell;have d3:=Z a7;simp only[OpM.cells,Ver.cells,CZ,Ba,hk] at a7 d4 |-;have b2:=Z f1;have HH:=Z h;have f0:=Z b0;have c7:=Z (OV N M o.a o.tZ);have a2:=Z D;have HQ:=Z hQ;have d1:=Z G;have g6:=Z f7;have g5:=Z f6;clear h f1 a8 b0 D hQ G f7 f6;go_enter func63,ntmps63;go_wp2_with fail;clear a7;refine(HM.o wa b2.o).mono ?_;rintro e w2 ⟨rfl,f2⟩;have f3:Fr Nil w (w2.alloc (.cells #[I M.uT,I M.tr] 111)):=(b2.o.trans f2).alloc _;have d5:=(HH.o.nil f3).th.tE.td.cell;simp only[WM.cells] at d5;have F2:=Z f2;have F3:=Z f3;clear f2 f3 d4
 go_wp2_with (refine(HC.o _ F3.o).mono ?_;rintro e g ⟨rfl,e7⟩;subst g)
 refine(HF.o _ F3.o).mono ?_;rintro e w4 ⟨rfl,f4⟩;have t:=Z (Pre.of HH.o d3.o F2.o f4);have H4:=Z t.o.st.th;clear f4 d5 F2 F3 d3 HM HF HC b2;have d8:IntKind.i64.wrap ((if W.room<0 then 1152921504606846976 else W.room)-M.rE)=W.free M:=rfl;rw[d8];clear d8;generalize W.free M=fr at HQ |-;have a5:=Z (fun g (f:Fr Nil w4 g)=>SC d6 B X N M o.a o.tZ g (H4.o.node.nil f) (H4.o.qg.nil f) (fun a b c=>f0.o _ (t.o.fr.trans f).size a b c));have HK:aa (∀ g j X' N' M',Fr Nil w4 g->NStep X M g X' N' M' j->j.cell? (Y L.wb 5)=some (E X.nb 0)/\j.cell? (Y w.heap.size 1)=some (I o.a)/\j.cell? (Y w.heap.size 5)=some (.string o.tZ)):=by
  intro g j X' N' M' f s;have hs:=(H4.o.nil f).trans ((H4.o.nil f).th.call s);refine⟨(hs.th.tE.td.cell 5).trans ?_,t.o.op hs 1,t.o.op hs 5⟩;show some L.nv=_;rw[HH.o.nv]
 have i2:=HK.o w4 w4 X N M (U _ _) (NStep.nil H4.o.node (U _ _));have g1:=t.o.op (H4.o.nil (U _ _));simp only[OpM.cells,Ver.cells,CZ,Ba,hk] at g1;go_wp2_with fail;clear g1
 go_region_held3 (fun j=>j.cell? (Y L.wb 5)=some (E X.nb 0)/\j.cell? (Y w.heap.size 1)=some (I o.a)/\j.cell? (Y w.heap.size 5)=some (.string o.tZ)) (first|assumption|go_keep)
  (first|(go_at_call 31;refine(a5.o _ zd).mono ?_;rintro e w5 ⟨f,X5,rfl,d7,b8⟩;have g3:=HK.o _ _ _ _ _ zd b8;have d2:=Z (NStep.trans (NStep.nil H4.o.node zd) b8);have c8:=Z d7;clear b8 d7))
 have b5:=H4.o.call d2.o;have i:=c7.o f;have b6:=fun h K' X' q g=>HQ.o h f K' X' q g (CO t.o.fr.size c8.o);generalize N.sE M o.a o.tZ f=r at *;obtain⟨er,N5,M5⟩:=r;simp only at b5 b6;have l:=Z b5;have a3:=Z b6;have C:=Z i;have h5:L.ps.length=W.st.length:=HH.o.tE.qB;have d9:W.st[L.ps.length-1]' V=m:=by rw[CS V] at hm;exact BA hm
 have v:=(l.o.th.tE.tu hp).2;simp only[d9] at v;have y:=Z (fun g (f:Fr Nil w5 g)=>ZD K L _ g (l.o.th.tE.nil f) hp V);have a4:L.ps[L.ps.length-1]<w5.heap.size:=by obtain⟨c0,e5⟩:=v.td;exact e5.lt
 obtain⟨q,e1⟩:∃ q,q=L.ps[L.ps.length-1]:=⟨_,rfl⟩;rw[<- e1] at v a4 y a3;have c3:aa (∀ g,Fr Nil w5 g->MRep K g q m):=fun g f=>v.tW (zR.rv f (fun k e=>⟨(l.o.th.tE.tW k e).1,id⟩)) (fun _ e=>e);have c9:=Z a4;have a0:aa (∀ c,Y7 N o.a o.tZ=some c->er=c/\N5=N/\M5=M):=fun c hc=>by
  have:=C.o;rw[hc] at this;simp only[Ak] at this;exact this
 have h7:aa (∀ g,Fr Nil w5 g->Calls prog 113 #[E q 0,I o.a,.string o.tZ] g fun e j=>e=.returned (I (Zo N.tN o.a o.tZ))/\j=g):=by
  intro g f;obtain⟨kv,hv,j2,ha,_⟩:=c3.o g f;have hb:=ha.td;rw[c6] at hb;exact QW q N.tN kv hv o.a o.tZ g hb
 have b7:aa (∀ g,Fr Nil w5 g->g.cell? (Y w.heap.size 1)=some (I o.a)/\g.cell? (Y w.heap.size 5)=some (.string o.tZ)):=fun g f=>⟨t.o.op (l.o.trans (l.o.th.nil f)) 1,t.o.op (l.o.trans (l.o.th.nil f)) 5⟩;have e3:=Z (fun g (f:Fr Nil w5 g)=>t.o.op (l.o.trans (l.o.th.nil f)));simp only[OpM.cells,Ver.cells,CZ,Ba,hk] at e3;clear i2 v a4 e1 d9 HK a5 i b6 b5 c7 HQ c8 d2 g3;have g3:=b7.o w5 (U _ _);go_wp2_with fail
 go_region_held3 (fun j=>j.cell? (Y w.heap.size 1)=some (I o.a)/\j.cell? (Y w.heap.size 5)=some (.string o.tZ)) (first|assumption|go_keep)
  (first
  | (go_at_call 113;refine(h7.o _ zd).mono ?_;rintro e w8 ⟨rfl,k2⟩;have e4:Fr Nil w5 w8:=by rw[k2];exact zd
     have A:=Z e4;have k4:=b7.o w8 e4;clear e4 k2)
  | (go_at_call 107;refine(y.o _ zd).mono ?_;rintro e w9 ⟨rfl,n9,g0⟩;subst w9))
 have h8:=l.o.trans (l.o.th.nil A.o);have x:=Z h8;have c4:=h8.th.tE.td.cell;simp only[WM.cells] at c4;have l5:=e3.o w8 A.o;clear h8 k4;by_cases hb:Zo N.tN o.a o.tZ=0
 .cases hbr:W.tq with
  | true =>
   have i:Y7 N o.a o.tZ=some 8:=by unfold Y7;rw[CW bw,Bl (by rw[d1.o,hbr])]
   exact GG
  | false =>
   have G:N.uW=false:=by rw[d1.o,hbr]
   have j9:((o.a.toNat:Nat):Int)=o.a:=by
    unfold Zo at hb;cases hn:zM o.a with
    | true=>unfold zM at hn;simp only[Bi] at hn;omega
    | false=>rw[hn] at hb;simp at hb
   have g8:aa (∀ g,Fr Nil w8 g->Calls prog 114 #[E q 0] g fun e j=>∃ pv n,e=.returned (.tuple #[.pointer pv,I n])/\Fr Nil g j):=by
    intro g f;refine(SE K q m g (c3.o g (A.o.trans f)) g5.o).mono ?_;intro e j h;rcases h with⟨_,h,h2⟩|⟨_,nb,h,_,h2,_⟩
    .exact⟨_,_,h,h2⟩
    .exact⟨_,_,h,h2⟩
   have f5:=Z (fun g (f:Fr Nil w8 g)=>NS K q m o.a.toNat o.tZ g (c3.o g (A.o.trans f)) g5.o);rw[j9] at f5;rw[hbr] at c4;rw[hb];have i1:(32<=m.uU.length/\Y7 N o.a o.tZ=some 6)\/(m.uU.length<32/\Y7 N o.a o.tZ=none):=by
    unfold Y7;rw[CW bw,CW aS,<- g6.o];by_cases h:32<=m.uU.length
    .exact .inl ⟨h,by rw[Bl h]⟩
    .exact .inr ⟨V,by rw[CW h]⟩
   clear hb G j9;go_wp2_with fail;clear c4;refine(y.o _ A.o).mono ?_;rintro e w9 ⟨rfl,n9,g0⟩;subst w9;go_wp2_with fail;refine(g8.o _ zd).mono ?_;rintro e w9 ⟨pv,na,rfl,c5⟩;have b4:Fr Nil w8 w9:=Fr.trans zd c5;have R:=Z b4;have l6:=e3.o w9 (A.o.trans b4);clear l5 c5 b4;go_wp2_with fail;have g4:=b7.o w9 (A.o.trans R.o);clear l6;rcases i1 with⟨i0,i⟩|⟨i0,i⟩
   .have e6:aa (∀ g,Fr Nil w8 g->Calls prog 115 #[E q 0,I o.a,.string o.tZ] g fun e j=>e=.returned (.tuple #[.pointer none,I 6])/\Fr Nil g j):=fun g f=>(f5.o g f).mono (fun e j h=>by
     rcases h with⟨_,h⟩|⟨h0,_⟩
     .exact h
     .omega)
    obtain⟨rfl,rfl,rfl⟩:=a0.o _ i;have b3:=Z (fun g f=>a2.o _ i X5 g (t.o.st.trans (x.o.trans (x.o.th.nil f))));clear i a0 a3 C a2 f5 i0
    go_region_held3 (fun j=>j.cell? (Y w.heap.size 1)=some (I o.a)/\j.cell? (Y w.heap.size 5)=some (.string o.tZ)) (first|assumption|go_keep)
     (first
     | (go_at_call 115;refine(e6.o _ (R.o.trans zd)).mono ?_;rintro e J ⟨rfl,T⟩;have S:Fr Nil w8 J:=(R.o.trans zd).trans T;have b9:=Z S;have g2:=b7.o J (A.o.trans S);clear T S)
     | (go_at_call 107;refine(y.o _ (A.o.trans (R.o.trans zd))).mono ?_;rintro e J ⟨rfl,e8,f9⟩;subst J))
    have a1:=Z (fun g (f:Fr Nil J g)=>Zd K L W X5.LD M5 6 6 M5.uS g (x.o.th.tE.nil (b9.o.trans f)) (x.o.th.tI.nil (b9.o.trans f)));simp only[xu,yx] at a1;clear g2;exact GI
   .have d0:=Z (a3.o i)
    have e6:aa (∀ g,Fr Nil w8 g->Calls prog 115 #[E q 0,I o.a,.string o.tZ] g fun e j=>∃ nb,e=.returned (.tuple #[E nb 0,I 0])/\MRep (KGr K g j) j nb (m.sE o.a.toNat o.tZ)/\Fr Nil g j/\g.heap.size<=nb):=fun g f=>(f5.o g f).mono (fun e j h=>by
     rcases h with⟨h0,_⟩|⟨_,h⟩
     .omega
     .exact h)
    clear i a0 a3 C a2 f5 i0
    go_region_held3 (fun j=>j.cell? (Y w.heap.size 1)=some (I o.a)/\j.cell? (Y w.heap.size 5)=some (.string o.tZ)) (first|assumption|go_keep)
     (first
     | (go_at_call 115;refine(e6.o _ (R.o.trans zd)).mono ?_;rintro e J ⟨nb,rfl,e2,T,e0⟩;have S:Fr Nil w8 J:=(R.o.trans zd).trans T;have g2:=b7.o J (A.o.trans S);have i9:=Z e2;have a9:=Z (x.o.trans ((x.o.th.nil (R.o.trans zd)).trans ((x.o.th.nil (R.o.trans zd)).th.gr T)));have i5:=Z e0;clear T S e2 e0)
     | (go_at_call 107;refine(y.o _ (A.o.trans (R.o.trans zd))).mono ?_;rintro e J ⟨rfl,e8,f9⟩;subst J))
    clear g2;have e9:=Z (d0.o _ X5 nb _ (t.o.st.trans a9.o) i9.o (by have h1:=c9.o;have h2:w9.heap.size<=nb:=i5.o;have h3:=A.o.size;have h4:=R.o.size;omega));have j4:=t.o.ma a9.o;clear y g8 e6 d0;exact OT
 .have i:Y7 N o.a o.tZ=some (Zo N.tN o.a o.tZ):=by unfold Y7;rw[Bl hb]
  obtain⟨rfl,rfl,rfl⟩:=a0.o _ i;have b3:=Z (fun g f=>a2.o _ i X5 g (t.o.st.trans (x.o.trans (x.o.th.nil f))));have e5:(Zo N5.tN o.a o.tZ==0)=false:=by simp[hb]
  have a1:=Z (Zd K L W X5.LD M5 (Zo N5.tN o.a o.tZ) (Zo N5.tN o.a o.tZ) M5.uS w8 x.o.th.tE x.o.th.tI);simp only[xu,yx] at a1;clear i a0 a3 C a2;generalize Zo N5.tN o.a o.tZ=bp at *;exact OU
theorem DQ(h:p:=by
 rintro e J ⟨nb,rfl,e2,T,e0⟩;have S:Fr Nil w5 J:=Fr.trans zd T;have k3:=e3.o J S;have a9:=Z (l.o.trans ((l.o.th.nil zd).trans ((l.o.th.nil zd).th.gr T)));have e9:=Z (d0.o _ X5 nb _ (t.o.st.trans a9.o) e2 (by have h1:=c9.o;have h2:w5.heap.size<=nb:=e0;omega));have j4:=t.o.ma a9.o;clear i4 T S e2 e0 y a6 d0;exact OT):p:=h
theorem DR(h:p:=by
 rintro e J ⟨rfl,T⟩;have S:Fr Nil w5 J:=Fr.trans zd T;have b9:=Z S;have k3:=e3.o J S;have a1:=Z (fun g (f:Fr Nil J g)=>Zd K L W X5.LD M5 7 7 M5.uS g (l.o.th.tE.nil (b9.o.trans f)) (l.o.th.tI.nil (b9.o.trans f)));simp only[xu,yx] at a1;clear i4 T S;exact GI):p:=h
theorem K4(h:p:=by
 clear i a0 a3 C a2 b1 h0 G;go_wp2_with fail;clear g7;refine(y.o _ (U _ _)).mono ?_;rintro e w9 ⟨rfl,n9,g0⟩;subst w9;go_wp2_with fail;refine(a6.o _ zd).mono ?_
 first
  | (clear k5;exact DR)
  | exact DQ):p:=h
theorem Mk(d6:zy)(K:Nat->Prop)(B:Nat)(L:WL)(W:WM)(X:NL)(N:NM)(M:DM)(o:OpM)(w:World)(h:Play K B w L W X N M)(hk:o.kind=9)(G:N.uW=W.tq)(hp:0<L.ps.length)(hl:L.ps.length<1000000)
 (b0:∀ H,w.heap.size<=H->N.uW=false->Fit N M H (.inr (.inr (.inr ()))))
 (m:LM)(hm:W.st[L.ps.length-1]?=some m)(c6:m.node=N.tN)(f7:m.uU.length=N.S.uU.length)(f6:m.uU.length<1000000)
 (Q:World->Prop)
 (D:∀ c,YP N=some c->∀ X' g,PStep K B L X M w K L W X' N M g->Q g)
 (hQ:YP N=none->∀ f K' X' q g,w.heap.size<=f->PStep K B L X M w K' L W X' (N.qJ M f).2.1 (N.qJ M f).2.2 g->MRep K' g q (m.qJ)->q≠L.ps[L.ps.length-1] ->
   Calls prog 110 #[E L.wb 0,E q 0,I (N.qJ M f).1,.agg #[I M.uT,I M.tr],I (W.free M)] g fun e j=>e=.returned (.bool true)/\Q j) :
 Calls prog 63 #[E L.wb 0,.agg o.cells.toArray] w fun e j=>e=.returned (.bool true)/\Q j:=by
 have f1:Fr Nil w (w.alloc (.cells o.cells.toArray 39)):=(U _ _).alloc _;have a8:=Blk.new w o.cells 39;have HM:=Z (fun g (f:Fr Nil w g)=>Ze K L W X.LD M g (h.tE.nil f) ((h.tI).nil f));have HF:=Z (fun g (f:Fr Nil w g)=>Zu K L W X.LD M g (h.tE.nil f) ((h.tI).nil f));have HC:=Z (fun g (f:Fr Nil w g)=>zE g L.db X.LD M ((h.tI).nil f));obtain⟨wa,a7⟩:∃ wa,w.alloc (.cells o.cells.toArray 39)=wa:=⟨_,rfl⟩;rw[a7] at f1 a8;have d4:=a8.cell;have d3:=Z a7;simp only[OpM.cells,Ver.cells,CZ,Ba,hk] at a7 d4 |-;have b2:=Z f1;have HH:=Z h;have f0:=Z b0;have c7:=Z (LZ N M);have a2:=Z D;have HQ:=Z hQ;have d1:=Z G;have g6:=Z f7;have g5:=Z f6;clear h f1 a8 b0 D hQ G f7 f6;go_enter func63,ntmps63;go_wp2_with fail;clear a7;refine(HM.o wa b2.o).mono ?_;rintro e w2 ⟨rfl,f2⟩;have f3:Fr Nil w (w2.alloc (.cells #[I M.uT,I M.tr] 111)):=(b2.o.trans f2).alloc _;have d5:=(HH.o.nil f3).th.tE.td.cell;simp only[WM.cells] at d5;have F2:=Z f2;have F3:=Z f3;clear f2 f3 d4
 go_wp2_with (refine(HC.o _ F3.o).mono ?_;rintro e g ⟨rfl,e7⟩;subst g)
 refine(HF.o _ F3.o).mono ?_;rintro e w4 ⟨rfl,f4⟩;have t:=Z (Pre.of HH.o d3.o F2.o f4);have H4:=Z t.o.st.th;clear f4 d5 F2 F3 d3 HM HF HC b2;have d8:IntKind.i64.wrap ((if W.room<0 then 1152921504606846976 else W.room)-M.rE)=W.free M:=rfl;rw[d8];clear d8;generalize W.free M=fr at HQ |-;have a5:=Z (fun g (f:Fr Nil w4 g)=>Hc d6 B X N M g (H4.o.node.nil f) (H4.o.qg.nil f) (fun a=>f0.o _ (t.o.fr.trans f).size a));have g1:=t.o.op (H4.o.nil (U _ _));simp only[OpM.cells,Ver.cells,CZ,Ba,hk] at g1;have j3:=H4.o.tE.td.cell;simp only[WM.cells,HH.o.nv] at j3;go_wp2_with fail;clear g1 j3;refine(a5.o _ (U _ _)).mono ?_;rintro e w5 ⟨f,X5,rfl,d7,b8⟩;have d2:=Z b8;have c8:=Z d7;clear b8 d7;have b5:=H4.o.call d2.o;have i:=c7.o f;have b6:=fun h K' X' q g=>HQ.o h f K' X' q g (CO t.o.fr.size c8.o);generalize N.qJ M f=r at *;obtain⟨er,N5,M5⟩:=r;simp only at b5 b6;have l:=Z b5;have a3:=Z b6;have C:=Z i;have h5:L.ps.length=W.st.length:=HH.o.tE.qB;have d9:W.st[L.ps.length-1]' V=m:=by rw[CS V] at hm;exact BA hm
 have v:=(l.o.th.tE.tu hp).2;simp only[d9] at v;have y:=Z (fun g (f:Fr Nil w5 g)=>ZD K L _ g (l.o.th.tE.nil f) hp V);have a4:L.ps[L.ps.length-1]<w5.heap.size:=by obtain⟨c0,e5⟩:=v.td;exact e5.lt
 obtain⟨q,e1⟩:∃ q,q=L.ps[L.ps.length-1]:=⟨_,rfl⟩;rw[<- e1] at v a4 y a3;have c3:aa (∀ g,Fr Nil w5 g->MRep K g q m):=fun g f=>v.tW (zR.rv f (fun k e=>⟨(l.o.th.tE.tW k e).1,id⟩)) (fun _ e=>e);have c9:=Z a4;have a0:aa (∀ c,YP N=some c->er=c/\N5=N/\M5=M):=fun c hc=>by
  have:=C.o;rw[hc] at this;simp only[Ak] at this;exact this
 have i4:=t.o.op l.o;simp only[OpM.cells,Ver.cells,CZ,Ba,hk] at i4;have e3:=Z (fun g (f:Fr Nil w5 g)=>t.o.op (l.o.trans (l.o.th.nil f)));simp only[OpM.cells,Ver.cells,CZ,Ba,hk] at e3;have g7:=l.o.th.tE.td.cell;simp only[WM.cells] at g7;clear v a4 e1 d9 a5 i b6 b5 c7 HQ c8 d2;cases hbr:W.tq with
 | true =>
  have i:YP N=some 8:=by unfold YP;rw[Bl (by rw[d1.o,hbr])]
  obtain⟨rfl,rfl,rfl⟩:=a0.o _ i;have b3:=Z (fun g f=>a2.o _ i X5 g (t.o.st.trans (l.o.trans (l.o.th.nil f))));have a1:=Z (Zd K L W X5.LD M5 8 8 M5.uS w5 l.o.th.tE l.o.th.tI);simp only[xu,yx] at a1;rw[hbr] at g7;clear i a0 a3 C a2;exact OU
 | false =>
  have G:N.uW=false:=by rw[d1.o,hbr]
  have b1:=Z (fun g (f:Fr Nil w5 g)=>SE K q m g (c3.o g f) g5.o);rw[hbr] at g7;by_cases h0:m.uU=[]
  .have i:YP N=some 7:=by unfold YP;rw[CW aS,Bl (by rw[<- g6.o,h0];rfl)]
   obtain⟨rfl,rfl,rfl⟩:=a0.o _ i;have b3:=Z (fun g f=>a2.o _ i X5 g (t.o.st.trans (l.o.trans (l.o.th.nil f))));have a6:aa (∀ g,Fr Nil w5 g->Calls prog 114 #[E q 0] g fun e j=>e=.returned (.tuple #[.pointer none,I 7])/\Fr Nil g j):=fun g f=>(b1.o g f).mono (fun e j h=>by
    rcases h with⟨_,h⟩|⟨h1,_⟩
    .exact h
    .exact absurd h0 h1)
   have k5:=0;exact K4
  .have i:YP N=none:=by
    unfold YP;rw[CW aS,CW];rw[<- g6.o];exact fun e=>h0 (BH e)
   have d0:=Z (a3.o i);have a6:aa (∀ g,Fr Nil w5 g->Calls prog 114 #[E q 0] g fun e j=>∃ nb,e=.returned (.tuple #[E nb 0,I 0])/\MRep (KGr K g j) j nb m.qJ/\Fr Nil g j/\g.heap.size<=nb):=fun g f=>(b1.o g f).mono (fun e j h=>by
    rcases h with⟨h1,_⟩|⟨_,h⟩
    .exact absurd h1 h0
    .exact h)
   exact K4
theorem NI.ri{p:Nat}(h:NI W N M F p t):∃ m,W.st[W.st.length-1]?=some m/\ZA m N.S/\MOk W.node m t:=by
 obtain⟨m,hm,a,_⟩:=h.re.tu h.kp.le;rw[<- h.kp.held] at a;exact⟨m,hm,a,h.cm.qe m (AV hm)⟩
theorem NI.st{p:Nat}(h:NI W N M F p t):WT W.node W.uS W.tM N.S:=by
 have:=h.rY F.length h.kp.le (CP _)
 rwa [<- h.kp.held] at this
theorem NI.nk{p:Nat}(h:NI W N M F p t):N.S.uR.length<=t:=by
 obtain⟨m,_,a,hm⟩:=h.ri;rw[<- a.1];exact hm.uR
theorem RJ(G:List Fact)(x:Fact):atF (G++[x]) (G++[x]).length=(atF G G.length).enter x:=by
 rw[CN,CQ,XO]
theorem OX{w k:Nat}(c:k≠0):(w+1)%k=if w%k+1<k then w%k+1 else 0:=by
 have d:=vE w (Nat.pos_of_ne_zero c);split
 .rename_i hlt
  rw[<- Nat.mod_add_mod,Nat.mod_eq_of_lt hlt]
 .rw[<- Nat.mod_add_mod,show w%k+1=k from V,Nat.mod_self]
theorem NI.qz{p:Nat}(h:NI W N M F p t)(e:N.uW=false) :
 (({W with tf:=W.tf+1}:WM).qz=true->N.qz=true)/\(N.tH≠0->(if N.qz=true then 0 else N.tf+1)=(W.tf+1)%N.tH):=by
 have i:=h.tH;have f:=h.wr e;unfold WM.qz NM.qz;simp only[Ar,Bi,vK,Bool.or_eq_false_iff,BP];rw[i]
 constructor
 .rintro⟨h1,h2⟩
  have d:N.tH≠0:=V
  have g:(W.tf+1)%N.tH=0:=by
   have:=xd (a:=((W.tf+1:Nat):Int)) (b:=(N.tH:Int)) V;rw[this] at h2
   exact_mod_cast h2
  refine⟨d,fun c=>?_⟩;rw[f d] at c;rw[OX d,Bl c] at g;omega
 .intro d
  rw[OX d,f d];by_cases c:W.tf%N.tH+1<N.tH
  .rw[Bl c,CW (fun x=>x.2 c)]
  .rw[CW c,Bl ⟨d,c⟩]
theorem NI.sN{A:List Fact}{p:Nat}(h:NI W N M F p t)(e:A=[]\/A=[.inl (N.uY+16)]/\¬N.uY<N.S.tm) :
 Hist W.st (F++A) p True/\ZB W.node (W.uS+1) W.tM (F++A) p/\(atF (F++A) (F++A).length).uR=N.S.uR/\(atF (F++A) (F++A).length).uU=N.S.uU:=by
 have d:=h.st;have c:ZB W.node (W.uS+1) W.tM F p:=fun q a b=>(h.rY q a b).mono (yc _) (CP _) (h.rY q a b).2.1;rcases e with rfl|⟨rfl,f⟩
 .rw[Bz,<- h.kp.held]
  exact⟨h.re,c,rfl,rfl⟩
 .rw[CN,CQ,XO,<- h.kp.held]
  refine⟨h.re.quiet h.kp.le _ (fun m g=>g),ZB.oS (fun _=>c) _ ?_,rfl,rfl⟩;rw[<- h.kp.held];have i:=h.tM;have j:=h.uY;have k:=d.2.2.1;exact⟨d.1.tm _,by show W.tM<=N.uY+16;omega,by show N.uY+16<=16*(W.uS+1);omega,d.2.2.2⟩
theorem Ml{a c:Int}{S:SM}(h:Wy a c S.uR)(key:ByteArray)(l:List Ver)(f:∀ u∈l,u.node=a->u.seq<=c):Wy a c (S.holds key l).uR:=by
 unfold SM.holds;simp only;split
 .exact fun e b=>h e (Vo e b)
 .exact fun e b=>(Vn e b).elim (h e) (fun d=>by subst d;exact f)
theorem WT.holds{a e b:Nat}{S:SM}(h:WT node a e S)(key:ByteArray)(i:zu key=true)(l:List Ver)(f:YM l)(j:l.length<=4)(o:∀ u∈l,VOk u)(k:e<=b)(d:b<=S.tm)(c:∀ u∈l,u.node=node->u.seq<=b):WT node a b (S.holds key l) :=
 ⟨h.1.holds key i l f j o,by rw[YO];exact d,by rw[YO];exact h.2.2.1,Ml (h.2.2.2.mono V) key l c⟩
theorem K7(h:p:=by
 rcases w.rD.1 with⟨j,_⟩|⟨_,⟨j,_⟩|⟨j,_⟩⟩
 .exact .inl j
 .exact .inr (.inl j)
 .exact .inr (.inr j)):p:=h
theorem NI.tG{p:Nat}(h:NI W N M F p t)(ht:t+20<=990000)(i:N.uW=false)(key:ByteArray)(C:zu key=true)(vs:NM->Nat->List Ver)(l:List Ver)(f g:Nat)(hf:f∉M.tL)(hg:g∉M.tL)(ha:Apart2 N M f g)
 (c5:∀ N1:NM,N1.S.uR=N.S.uR->N1.tN=N.tN->vs N1 (N.uY+1)=l)(hv:∀ u∈l,VOk u)(b3:∀ u∈l,u.seq=((N.uY+1:Nat):Int))(J m0:LM)(b2:MOk W.node J (t+10))(d0:MOk W.node m0 (t+10))(hrel:J.uR=Z4 N.S.uR key l/\J.uU=N.S.uU)
 (T:(l=[]/\m0=J)\/(∃ v,l=[{v with seq:=((N.uY+1:Nat):Int)}]/\v.seq=0/\v.node=W.node/\m0.uR=Z4 N.S.uR key [v]/\m0.uU=N.S.uU)) :
 ∃ e N' K,N.tG M key vs f g=((if e=none then N.uY+1 else 0),Zt e,N',K)/\(∀ k∈K.tL,(k=f\/k=g)\/k∈M.tL)/\(e=none\/e=some 9\/e=some 10) /\
  Aft {W with uS:=W.uS+1,tM:=if e=none then N.uY+1 else W.tM} (if e=none then J else m0) M e N' K (t+10):=by
 have G:=h.st;have b6:N.uY<100000000000:=by have:=h.uY;have:=G.2.2.1;have:=h.cm.uS;omega
 have a5:l.length<=4/\YM l:=by
  rcases T with⟨e,_⟩|⟨v,e,_⟩
  .rw[e];exact⟨Bg _,by unfold YM Asc;simp⟩
  .rw[e];exact⟨bG,by unfold YM Asc;simp⟩
 obtain⟨e,J',S',gv,wr,K,A,B,p',er,w,D,hA,hB,o,c6,c7,c8,c9,b5,r⟩:=Qv (h.kp.mono (fun _=>i) (CP _)) V b6 h.uY (h.oU i) i key vs l f g hf hg ha c5 (Wh C hv V) (R0 C hv V);obtain⟨a1,a2,a3,a4⟩:=h.sN hA;refine⟨e,_,K,er,w.tL,?_,?_⟩
 .exact K7
 have s:=w.kp;have X:S'=atF (F++A++B) (F++A++B).length:=s.held;have hd:=h.qz i;have c1:=h.tM;exact {
  body:=by
   refine⟨F++A++B,p',s,fun j b1=>?_,fun j a6=>(o j).2 (hd.1 a6),?_⟩
   .rcases hB with⟨_,d⟩|⟨_,_,_,hL⟩
    .exact absurd j d
    .exact hL
   .rcases hB with⟨rfl,d⟩|⟨rfl,a8,hn1,hL⟩
    .rw[Bz] at s X |-
     refine .inr ⟨d,.inl ⟨a1.mono D id,?_⟩⟩;rw[CW d];exact fun q b c=>a2 q (CO D b) c
    .have hF1:WT W.node (W.uS+1) W.tM (atF (F++A) (F++A).length):=a2 _ (by have:=h.kp.le;rw[CN];omega) (CP _)
     have b0:=s.le;have b4:(atF (F++A) (F++A).length).tm=S'.tm:=by
      rw[X,RJ];show _=(SM.holds _ _ _).tm;rw[YO]
     have y:ZA J (atF (F++A++[.inr (.inl (key,l))]) (F++A++[(.inr (.inl (key,l)):Fact)]).length):=by
      rw[RJ];refine⟨?_,?_⟩
      .rw[hrel.1,<- a3,Yl key _ hF1.1.rp]
       rfl
      .show _=(SM.holds _ _ _).uU
       rw[XC,a4];exact hrel.2
     have a7:WT W.node (W.uS+1) (N.uY+1) ((atF (F++A) (F++A).length).enter (.inr (.inl (key,l)))):=hF1.holds key C l a5.2 a5.1 hv V (by rw[b4];exact hn1) (fun u hu _=>by rw[b3 u hu];exact yO _);have L:ZB W.node (W.uS+1) (N.uY+1) (F++A++[.inr (.inl (key,l))]) p':=ZB.oS (fun _ q b c=>by
      have hq:=a2 q (CO D b) c;refine hq.mono (CP _) V ?_;have:=hL q b (by rw[CN];omega);rw[XX c] at this;omega) _ a7
     have a0:Hist (W.st++[J]) (F++A++[.inr (.inl (key,l))]) p' True:=Hist.push bG (fun _=>a1.mono D id) b0 J y;cases e with
     | none=>exact .inl ⟨a0,L⟩
     | some x =>
      simp only[reduceCtorEq,Aa];rcases T with⟨b9,rfl⟩|⟨v,c0,c3,c4,b8,b7⟩
      .refine .inl ⟨a0,ZB.oS (fun _ q b c=>a2 q (CO D b) c) _ (hF1.holds key C l a5.2 a5.1 hv (CP _) hF1.2.1 (fun u hu _=>by rw[b9] at hu;cases hu))⟩
      .refine .inr ⟨bG,.inr ⟨N.uY+1,⟨F++A,.inr (.inl (key,l)),rfl,fun _=>a1.mono D id,⟨N.S.uR,key,v,G.1.rp,G.1.uY,G.2.2.2,c3,c4,b8,?_,?_⟩,by show W.tM<N.uY+1;omega,L,fun q b c=>?_⟩,by show N.uY+1<=gv;omega⟩⟩
       .rw[<- y.1,hrel.1,c0]
       .rw[<- y.2,b7,hrel.2]
       .rw[XX c]
        exact(a2 q (CO D b) c).2.2.2
  ro:=rfl
  br:=by have:=h.ro;show W.tq=false;rw[<- this,i]
  rD:=w.rD
  grow:=r
  sM:=w.sM
  room:=by rw[w.room];exact h.room
  cm:=⟨fun m hm=>(h.cm.qe m hm).tU V,by have:=h.cm.uS;show W.uS+1<=_;omega,by have:=h.cm.ww;show W.tf<=_;omega,by have:=h.cm.len;show W.st.length<=_;omega,h.cm.ne,by have:=h.cm.next;show W.next<=_;omega,h.cm.base,by have:=h.cm.ow;show W.bk.vs.length<=_;omega,by have:=h.cm.ox;show W.bk.vm.length<=_;omega,by have:=h.cm.ou;show W.bk.ns.length<=_;omega,by have:=h.cm.ot;show W.bk.nm.length<=_;omega,by have:=h.cm.oo;show W.bk.hs.length<=_;omega,by have:=h.cm.oq;show W.bk.hm.length<=_;omega,h.cm.sD⟩
  ww:=by have:=h.cm.ww;show W.tf+1<=_;omega
  len:=by have:=h.cm.len;show W.st.length+1<=_;omega
  qe:=by split <;> assumption
  tN:=h.tN
  nd:=h.nd
  tM:=by
   show(if e=none then N.uY+1 else W.tM)<=gv;split
   .rename_i j
    rcases hB with⟨_,d⟩|⟨_,a8,_⟩
    .exact absurd j d
    .omega
   .omega
  uY:=b5
  tH:=h.tH
  wr:=fun j d=>by
   show wr=_;rw[(o j).1];exact hd.2 d
  nw:=by have:=h.nw;show wr<=_;omega
  tJ:=h.tJ}
theorem NI.rk{p:Nat}(h:NI W N M F p t)(ht:t+20<=990000)(i:N.uW=false)(x:Fact)(hx:Yb x)(c2:(zj x).size<=2000)(hq:(N.S.enter x).uU.length<=32)(f:Nat)(hf:f∉M.tL)(J:LM)(b2:MOk W.node J (t+10))(hrel:ZA J (N.S.enter x))(G:WT W.node W.uS W.tM (N.S.enter x))(a9:(N.S.enter x).tm=N.S.tm) :
 ∃ e N' K,N.rk M x f=(Zt e,N',K)/\(∀ k∈K.tL,k=f\/k∈M.tL)/\(e=none\/e=some 9\/e=some 10)/\Aft W J M e N' K (t+10):=by
 obtain⟨e,J',S',wr,K,B,p',er,w,D,hB,o,c6,r⟩:=DJ (h.kp.mono (fun _=>i) (CP _)) V i x hx c2 hq f hf;refine⟨e,_,K,er,w.tL,?_,?_⟩
 .exact K7
 have s:=w.kp.mono id (show t+5<=t+10 from V);have hd:=h.qz i;have hS:S'.tm=N.S.tm:=by
  rcases hB with⟨_,_,e⟩|⟨_,e⟩
  .rw[e]
  .rw[e,a9]
 exact {
  body:=by
   refine⟨F++B,p',s,fun j b1=>?_,fun j a6=>(o j).2 (hd.1 a6),?_⟩
   .have hL:=h.oU i (by rw[<- hS];exact b1)
    rcases hB with⟨_,d,_⟩|⟨rfl,_⟩
    .exact absurd j d
    .intro q a b
     rw[CN,CQ] at b;show S'.tm<=_;rw[hS];by_cases hq:q<=F.length
     .rw[XX hq]
      exact hL q (CO D a) hq
     .have e1:q=F.length+1:=V
      rw[e1,XO,<- h.kp.held,a9];exact CP _
   .rcases hB with⟨rfl,d,_⟩|⟨rfl,_⟩
    .rw[Bz]
     exact .inr ⟨d,.inl ⟨h.re.mono D id,fun q a b=>h.rY q (CO D a) b⟩⟩
    .refine .inl ⟨Hist.push bG (fun _=>h.re.mono D id) s.le J ?_,ZB.oS (fun _ q a b=>h.rY q (CO D a) b) _ ?_⟩
     .rw[RJ,<- h.kp.held]
      exact hrel
     .rw[<- h.kp.held]
      exact G
  ro:=rfl
  br:=by have:=h.ro;rw[<- this,i]
  rD:=w.rD
  grow:=r
  sM:=w.sM
  room:=by rw[w.room];exact h.room
  cm:=h.cm.tU V
  ww:=by have:=h.cm.ww;omega
  len:=by have:=h.cm.len;omega
  qe:=b2
  tN:=h.tN
  nd:=h.nd
  tM:=h.tM
  uY:=by show N.uY<=S'.tm;rw[hS];exact h.uY
  tH:=h.tH
  wr:=fun j d=>by
   show wr=_;rw[(o j).1];exact hd.2 d
  nw:=by have:=h.nw;show wr<=_;omega
  tJ:=h.tJ}
theorem MOk.with(h:MOk node m t)(key:ByteArray)(l:List Ver)(y:l.length<=5)(A:∀ u∈l,u.seq=0->u.node=node):MOk node {m with uR:=Z4 m.uR key l} (t+10):=by
 have r:Z4 m.uR key l=if l=[] then Xh m.uR key else Ya m.uR key l:=Yl key l h.rp
 have o:∀ e∈Z4 m.uR key l,e∈m.uR\/e=(key,l):=fun e c=>by
  rw[r] at c;split at c
  .exact .inl (Vo e c)
  .exact Vn e c
 refine⟨?_,?_,fun e c=>?_,h.uU,fun e c=>?_,h.node⟩
 .show ZR (Z4 m.uR key l)
  rw[r];split
  .exact Ol key h.rp
  .exact Ok key l h.rp
 .show(Z4 m.uR key l).length<=_
  have:=h.uR;rw[r];split
  .have:=On m.uR key;omega
  .have:=Om m.uR key l;omega
 .rcases o e c with x|x
  .exact h.oB e x
  .rw[x];exact y
 .rcases o e c with x|x
  .exact h.zero e x
  .rw[x];exact A
theorem NI.nH{p:Nat}(h:NI W N M F p t)(a:ZA m N.S)(key:ByteArray):zJ m.uR key=zn N.S.uR key:=by
 rw[a.1];exact TS key h.st.1.rp
theorem GJ(h:p:=by
 have k:(0:Int)<=((N.tN:Nat):Int):=V
 have l:((N.tN:Nat):Int)<4:=V
 have r:(0:Int)<=((N.uY+1:Nat):Int):=V
 have s:((N.uY+1:Nat):Int)<9223372036854775808:=V
 exact⟨⟨k,l⟩,⟨⟨k,Int.lt_trans l O⟩,⟨r,s⟩,Tj _ _ d,Tj _ _ d,Tj _ _ d,Tj _ _ d,by show a.size<_;omega⟩,hs,by show(1:Int)<=((N.uY+1:Nat):Int);omega,rfl⟩):p:=h
theorem NI.mz{p:Nat}(h:NI W N M F p t)(v:t+20<=990000)(q:ZA m N.S)(hm:MOk W.node m t)(key a:ByteArray)(hs:a.size<=128) :
 (∀ b:NM,b.S.uR=N.S.uR->b.tN=N.tN->putV key a b (N.uY+1)=[m.putV key a ((N.uY+1:Nat):Int)])/\VOk (m.putV key a ((N.uY+1:Nat):Int)):=by
 have e:m.putV key a ((N.uY+1:Nat):Int)=⟨N.tN,((N.uY+1:Nat):Int),grV (zn N.S.uR key) 0,grV (zn N.S.uR key) 1,grV (zn N.S.uR key) 2,grV (zn N.S.uR key) 3,a,false⟩:=by
  unfold LM.putV;rw[h.nH q,hm.node,h.tN]
 have d:∀ u∈zn N.S.uR key,u.Nat:=fun u c=>((h.st.1.get key).2.2 u c).oR;have j:=h.nd;have i:N.uY<100000000000:=by have:=h.uY;have:=h.st.2.2.1;have:=h.cm.uS;omega
 refine⟨fun b f g=>?_,?_⟩
 .rw[e]
  unfold putV;rw[f,g]
 .rw[e]
  exact GJ
theorem NI.put{p H0:Nat}(h:NI W N M F p t)(y:t+20<=990000)(i:N.uW=false)(o:ZA m N.S)(hm:MOk W.node m t)(c:∀ g∈M.tL,g<H0)(key a:ByteArray)(b:zu key=true)(hs:a.size<=128) :
 (∀ H,H0<=H->Wq N M H key (putV key a))/\W.tM<N.uY+1/\N.uY+1<=16*(W.uS+1)/\∀ f g,H0<=f->H0<=g->Apart2 N M f g->∃ e s r,N.put M key a f g=((if e=none then N.uY+1 else 0),Zt e,s,r)/\(e=none\/e=some 9\/e=some 10) /\
   Aft {W with uS:=W.uS+1,tM:=if e=none then N.uY+1 else W.tM} (m.put key a (((if e=none then N.uY+1 else 0:Nat)):Int)) M e s r (t+10):=by
 obtain⟨q,J⟩:=h.mz y o hm key a hs;have k:∀ u∈[m.putV key a ((N.uY+1:Nat):Int)],VOk u:=by intro u d;rw[CX] at d;subst d;exact J
 have K:=h.st.2.2.1;have L:=h.tM;have Q:=h.uY;have R:=h.cm.uS;have T:=h.nk;have X:=h.nw;refine⟨fun H C=>OR (h.kp.mono (fun _=>i) (CP _)) V V h.uY (h.oU i) H (fun g x=>Bv (c g x) C) key _ _ q (WH b k bG) (Xl b k bG) V V,V,V,fun f g hf x D=>?_⟩;obtain⟨e,s,r,A,_,G,l⟩:=h.tG y i key b (putV key a) [m.putV key a ((N.uY+1:Nat):Int)] f g (fun j=>by have:=c f j;omega) (fun j=>by have:=c g j;omega) D q k (fun u d=>by rw[CX] at d;subst d;rfl)
  (m.put key a ((N.uY+1:Nat):Int)) (m.put key a 0) (hm.with key _ bG (fun u d B=>by rw[CX] at d;subst d;exact hm.node)) (hm.with key _ bG (fun u d B=>by rw[CX] at d;subst d;exact hm.node)) ⟨by show Z4 m.uR key _=_;rw[o.1],o.2⟩
  (.inr ⟨m.putV key a 0,rfl,rfl,hm.node,by show Z4 m.uR key _=_;rw[o.1],o.2⟩)
 refine⟨e,s,r,?_,G,?_⟩
 .unfold NM.put
  rw[CW (by rw[b];decide),CW V,CW (by rw[i];decide)];exact A
 .cases e <;> exact l
theorem NI.sr{p H0:Nat}(h:NI W N M F p t)(B:t+20<=990000)(c:N.uW=false)(s:ZA m N.S)(hm:MOk W.node m t)(b:∀ g∈M.tL,g<H0)(key:ByteArray)(a:zu key=true) :
 (∀ H,H0<=H->Wq N M H key (fun _ _=>[]))/\W.tM<N.uY+1/\N.uY+1<=16*(W.uS+1)/\∀ f g,H0<=f->H0<=g->Apart2 N M f g->∃ e q o,N.sr M key f g=((if e=none then N.uY+1 else 0),Zt e,q,o)/\(e=none\/e=some 9\/e=some 10) /\
   Aft {W with uS:=W.uS+1,tM:=if e=none then N.uY+1 else W.tM} (m.sr key) M e q o (t+10):=by
 have i:∀ u∈([]:List Ver),VOk u:=by intro u l;cases l
 have C:=h.st.2.2.1;have D:=h.tM;have G:=h.uY;have J:=h.cm.uS;have K:=h.nk;have L:=h.nw;have k:MOk W.node (m.sr key) (t+10):=hm.with key [] bG (fun u l=>by cases l);refine⟨fun H x=>OR (h.kp.mono (fun _=>c) (CP _)) V V h.uY (h.oU c) H (fun g r=>Bv (b g r) x) key _ [] (fun _ _ _=>rfl) (WH a i bG) (Xl a i bG) V V,V,V,fun f g Q r y=>?_⟩;obtain⟨e,q,o,v,_,A,j⟩:=h.tG B c key a (fun _ _=>[]) [] f g (fun d=>by have:=b f d;omega) (fun d=>by have:=b g d;omega) y (fun _ _ _=>rfl) i (fun u l=>by cases l)
  (m.sr key) (m.sr key) k k ⟨by show Z4 m.uR key _=_;rw[s.1],s.2⟩ (.inl ⟨rfl,rfl⟩)
 refine⟨e,q,o,?_,A,?_⟩
 .unfold NM.sr
  rw[CW (by rw[a];decide),CW (by rw[c];decide)];exact v
 .cases e <;> exact j
theorem NI.se{p H0:Nat}(h:NI W N M F p t)(ht:t+20<=990000)(hr:ZA m N.S)(hm:MOk W.node m t)(q:∀ g∈M.tL,g<H0)(key:ByteArray)(v:Ver) :
 (∀ H,H0<=H->zu key=true->v.value.size<=128->foreign N.tN v=true->N.uW=false->(v.ts=false->(zC (zn N.S.uR key) v).length<4)->Fit N M H (.inr (.inl (key,Yf (zn N.S.uR key) v)))) /\
   (Y2 N key v=none->∀ f,H0<=f->∃ e R Q,N.se M key v f=(Zt e,R,Q)/\(e=none\/e=some 9\/e=some 10)/\Aft W (m.se key v) M e R Q (t+10)):=by
 have d:=h.st;have k:=d.1.get key;have h5:=h.nk;have h6:=h.nw;refine⟨fun H hH C hs hf j c=>?_,fun i f hf=>?_⟩
 .have b:=SY k.2.1 k.2.2 (fun h=>SZ hf hs h) c
  exact Tk (h.kp.mono (fun _=>j) (CP _)) V H (fun g k=>Bv (q g k) hH) _ (WH C b.2 V) (Xl C b.2 V) V V
 .have hout:=R1 N M key v f
  rw[i] at hout;unfold Y2 at i;by_cases o:zP N.tN key v=0
  .rw[CW (by simp[o])] at i
   cases j:N.uW with
   | true=>rw[Bl j] at i;cases i
   | false =>
    rw[CW (by rw[j];decide)] at i;by_cases B:Zv (zn N.S.uR key) v=0
    .rw[Bl B] at i;cases i
    .by_cases hw1:Zv (zn N.S.uR key) v=1
     .rw[CW B,Bl hw1] at i;cases i
     .have hfo:=TJ o
      have l:zu key=true/\v.value.size<=128:=by
       unfold zP at o;split at o
       .cases o
       .rename_i C
        split at o
        .cases o
        .exact⟨by simpa using C,V⟩
      have s:(zn N.S.uR key).any v.sP=false:=by
       cases C:(zn N.S.uR key).any v.sP with
       | false=>rfl
       | true=>exact absurd (by unfold Zv;rw[Bl C]) B
      have c:v.ts=false->(zC (zn N.S.uR key) v).length<4:=fun k=>by
       refine uc fun T=>hw1 ?_;unfold Zv;rw[CW (by rw[s];decide),Bl ⟨k,T⟩]
      have b:=SY k.2.1 k.2.2 (fun h=>SZ hfo l.2 h) c;have G:=E4 k.1 s;have A:v.node≠W.node:=by
       rw[h.tN];unfold foreign at hfo;simp only[Ar,Bi] at hfo;intro e;have:=hfo.2.2.1;exact this.2 e
      have K:∀ u∈Yf (zn N.S.uR key) v,u∈zn N.S.uR key\/u=v:=fun u a=>by
       unfold Yf at a;split at a
       .exact .inl (yR.1 a).1
       .unfold Xt at a
        simp only[CV,CX] at a;rcases a with(a|a)|a
        .exact .inl (yR.1 (BN a)).1
        .exact .inr a
        .exact .inl (yR.1 (Bx a)).1
      have y:∀ u∈zn N.S.uR key,∃ e∈N.S.uR,u∈e.2:=fun u a=>by
       rcases Oj N.S.uR key with e|⟨e,J,_,h2⟩
       .rw[e] at a;cases a
       .exact⟨e,J,by rw[h2];exact a⟩
      have L:∀ u∈Yf (zn N.S.uR key) v,u.node=W.node->u.seq<=(W.tM:Int):=fun u a hn=>by
       rcases K u a with x|x
       .obtain⟨e,J,hx⟩:=y u x
        exact d.2.2.2 e J u hx hn
       .rw[x] at hn;exact absurd hn A
      have r:WO (zJ m.uR key) v=Yf (zn N.S.uR key) v:=by
       rw[h.nH hr];exact D5 v k.1 (Qz s)
      have a0:MOk W.node (m.se key v) (t+10):=by
       unfold LM.se;rw[r];exact hm.with key _ V (fun u a h0=>by have:=(b.2 u a).qy;omega)
      obtain⟨e,R,Q,er,_,J,D⟩:=h.rk ht j (.inr (.inl (key,Yf (zn N.S.uR key) v))) (Wh l.1 b.2 V) (Xl l.1 b.2 V) (by show(SM.holds _ _ _).uU.length<=32;rw[XC];exact d.1.qT) f (fun X=>by have:=q f X;omega) (m.se key v) a0
       ⟨by show Z4 m.uR key (WO (zJ m.uR key) v)=_;rw[r,hr.1,Yl key _ d.1.rp];rfl,by show m.uU=(SM.holds _ _ _).uU;rw[XC];exact hr.2⟩ (d.holds key l.1 _ G b.1 b.2 (CP _) d.2.1 L) (YO _ _ _)
      exact⟨e,R,Q,by rw[hout];exact er,J,D⟩
  .rw[Bl o] at i;cases i
theorem NI.sE{p H0:Nat}(h:NI W N M F p t)(K:t+20<=990000)(B:ZA m N.S)(hm:MOk W.node m t)(k:∀ g∈M.tL,g<H0)(c:Int)(b:ByteArray) :
 (∀ H,H0<=H->b.size<=64->zM c=true->N.uW=false->Fit N M H (.inr (.inr (.inl (c.toNat,b))))) /\
   (Y7 N c b=none->∀ f,H0<=f->∃ e u s,N.sE M c b f=(Zt e,u,s)/\(e=none\/e=some 9\/e=some 10)/\Aft W (m.sE c.toNat b) M e u s (t+10)):=by
 have d:=h.st;have Q:=h.nk;have R:=h.nw;refine⟨fun H D hs o i=>?_,fun j f T=>?_⟩
 .unfold zM at o
  simp only[Bi] at o;exact Tk (h.kp.mono (fun _=>i) (CP _)) V H (fun g J=>Bv (k g J) D) _ ⟨by show c.toNat<_;omega,by show b.size<_;omega⟩ (Wg V hs) V V
 .have hout:=OV N M c b f
  rw[j] at hout;unfold Y7 at j;by_cases l:Zo N.tN c b=0
  .rw[CW (by simp[l])] at j
   cases i:N.uW with
   | true=>rw[Bl i] at j;cases j
   | false =>
    rw[CW (by rw[i];decide)] at j;by_cases y:32<=N.S.uU.length
    .rw[Bl y] at j;cases j
    .have o:zM c=true/\b.size<=64:=by
      unfold Zo at l;split at l
      .cases l
      .rename_i h1
       split at l
       .cases l
       .simp only[Bool.not_eq_false,Ar] at h1
        exact⟨h1.1,V⟩
     have r:=o.1;unfold zM at r;simp only[Bi] at r;obtain⟨e,u,s,C,_,G,q⟩:=h.rk K i (.inr (.inr (.inl (c.toNat,b)))) (Uy V o.2) (Wg V o.2) (by show(N.S.uU++[_]).length<=32;rw[CN,CQ];omega) f (fun A=>by have:=k f A;omega) (m.sE c.toNat b)
      ⟨hm.rp,by have:=hm.uR;show m.uR.length<=_;omega,hm.oB,by show(m.uU++[_]).length<=33;rw[CN,CQ,B.2];omega,hm.zero,hm.node⟩
      ⟨B.1,by show m.uU++[_]=N.S.uU++[_];rw[B.2]⟩ ⟨⟨d.1.rp,d.1.key,by show(N.S.uU++[_]).length<=32;rw[CN,CQ];omega,d.1.tT,d.1.some,fun x L=>(CV.1 L).elim (d.1.tZ x) (fun e=>by rw[CX] at e;subst e;exact⟨by show c.toNat<4;omega,o.2⟩)⟩,d.2.1,d.2.2.1,d.2.2.2⟩ rfl
     exact⟨e,u,s,by rw[hout];exact C,G,q⟩
  .rw[Bl l] at j;cases j
theorem NI.qJ{W:WM}{N:NM}{M:DM}{F:List Fact}{p t H0:Nat}(h:NI W N M F p t)(B:t+20<=990000){m:LM}(q:ZA m N.S)(hm:MOk W.node m t)(c:∀ g∈M.tL,g<H0) :
 (∀ H,H0<=H->N.uW=false->Fit N M H (.inr (.inr (.inr ())))) /\
   (YP N=none->∀ f,H0<=f->∃ e k j,N.qJ M f=(Zt e,k,j)/\(e=none\/e=some 9\/e=some 10)/\Aft W m.qJ M e k j (t+10)):=by
 have a:=h.st;have D:=h.nk;have G:=h.nw;refine⟨fun H s b=>Tk (h.kp.mono (fun _=>b) (CP _)) V H (fun g v=>Bv (c g v) s) _ trivial Qk V V,fun l f J=>?_⟩;have d:=LZ N M f;rw[l] at d;unfold YP at l;cases b:N.uW with
 | true=>rw[Bl b] at l;cases l
 | false =>
  have y:=a.1.qT;have A:=hm.uU;obtain⟨e,k,j,r,_,u,i⟩:=h.rk B b (.inr (.inr (.inr ()))) Ov Qk (by show(N.S.uU.drop 1).length<=32;rw[Bc];omega) f (fun o=>by have:=c f o;omega) m.qJ
   ⟨hm.rp,by have:=hm.uR;show m.uR.length<=_;omega,hm.oB,by show(m.uU.drop 1).length<=33;rw[Bc];omega,hm.zero,hm.node⟩
   ⟨q.1,by show m.uU.drop 1=N.S.uU.drop 1;rw[q.2]⟩ ⟨⟨a.1.rp,a.1.key,by show(N.S.uU.drop 1).length<=32;rw[Bc];omega,a.1.tT,a.1.some,fun x C=>a.1.tZ x (Bx C)⟩,a.2.1,a.2.2.1,a.2.2.2⟩ rfl
  exact⟨e,k,j,by rw[d];exact r,u,i⟩
end Go.Proofs.YtkhnggkkiefcdaaGreatDoor
namespace Go.Proofs.YtkhnggkkiefcdaaGreatDoor
open Go.RowKit Go.Extern.Stop Go.Stop Go.Extern Proofs.Tryz
set_option maxRecDepth 100000
set_option maxHeartbeats 8000000
theorem OY(t:Addr)(w:World):(ReflectliteValue.unpack (.iface 227 (.pointer (some t)))).run prog w
 = .ok (.agg #[E 6 227,E w.heap.size 0,.int .u64 150]) (w.alloc (.cells #[.pointer (some t)] 227)):=bI
theorem GK(a:Addr)(w:World):(ReflectliteValue.methodAny (ReflectliteValue.valueError "reflectlite.Value.Type" 0) (fun t _ _ _=>ReflectliteType.toType t) #[.agg #[E 6 227,.pointer (some a),.int .u64 150]]).run prog w
 = .ok (.iface 309 (.agg #[E 6 227])) w:=bI
theorem P7(h:Value)(w:World):(Go.method 496 309 (.agg #[h]) "Kind").run prog w=.ok (271,h) w:=bI
theorem GL(w:World):((ReflectliteType.abiMethod fun t=>Functor.map (fun a:Nat=>Value.int IntKind.u8 (a:Int)) (Rtype.kind t)) #[E 6 227]).run prog w=.ok (.int .u8 22) w:=bI
theorem GM(w:World):((ReflectliteType.abiMethod fun t=>Functor.map (fun a:Nat=>Value.int IntKind.u8 (a:Int)) (Rtype.kind t)) #[E 6 225]).run prog w=.ok (.int .u8 22) w:=bI
theorem R2(a:Addr)(w:World):(ReflectliteValue.parts (.agg #[E 6 227,.pointer (some a),.int .u64 150])).run prog w=.ok (some (227,a,150)) w:=bI
theorem Jk(a p:Addr)(W:World)(b:W.cell? a=some (.pointer (some p))) :
 (ReflectliteValue.method (ReflectliteValue.valueError "reflectlite.Value.IsNil" 0) ReflectliteValue.isNil #[.agg #[E 6 227,.pointer (some a),.int .u64 150]]).run prog W=.ok (.bool false) W:=by
 change Sem.run prog (ReflectliteValue.parts (.agg #[E 6 227,.pointer (some a),.int .u64 150]) >>= _) W=_;simp only[xz,R2,Result.andThen];simp[ReflectliteValue.isNil,loadVar,isAgg,underlying,underlying227,b,Result.andThen]
theorem P8(h:Value)(w:World):(Go.method 496 309 (.agg #[h]) "Elem").run prog w=.ok (316,.agg #[h]) w:=bI
theorem UB(h:Value)(w:World):(Go.method 496 309 (.agg #[h]) "Implements").run prog w=.ok (317,.agg #[h]) w:=bI
theorem U5(h:Value)(w:World):(Go.method 496 309 (.agg #[h]) "AssignableTo").run prog w=.ok (314,.agg #[h]) w:=bI
theorem GN(w:World):(ReflectliteType.method ReflectliteType.elem #[.agg #[E 6 227]]).run prog w=.ok (.iface 309 (.agg #[E 6 225])) w:=bI
theorem R3(w:World):(ReflectliteType.relation "Implements" ReflectliteType.implements_ #[.agg #[E 6 225],.iface 309 (.agg #[E 6 132])]).run prog w=.ok (.bool true) w:=bI
theorem Mm(v:Value)(w:World):(ReflectliteType.typeOf #[.iface 225 v]).run prog w=.ok (.iface 309 (.agg #[E 6 225])) w:=bI
theorem R4(w:World):(ReflectliteType.relation "AssignableTo" ReflectliteType.assignableTo #[.agg #[E 6 225],.iface 309 (.agg #[E 6 225])]).run prog w=.ok (.bool true) w:=bI
theorem OZ(e:Addr)(w:World):(ReflectliteValue.unpack (.iface 225 (.pointer (some e)))).run prog w
 = .ok (.agg #[E 6 225,E w.heap.size 0,.int .u64 150]) (w.alloc (.cells #[.pointer (some e)] 225)):=bI
theorem Mn(w:World):(Rtype.elem? 227).run prog w=.ok (some 225) w:=bI
theorem DS(p:Addr)(w:World):(ReflectliteValue.mk 225 p ReflectliteValue.flagAddr).run prog w=.ok (.agg #[E 6 225,.pointer (some p),.int .u64 406]) w:=bI
theorem Jm(a p:Addr)(W:World)(b:W.cell? a=some (.pointer (some p))) :
 (ReflectliteValue.method (ReflectliteValue.valueError "reflectlite.Value.Elem" 0) ReflectliteValue.elem #[.agg #[E 6 227,.pointer (some a),.int .u64 150]]).run prog W
   = .ok (.agg #[E 6 225,.pointer (some p),.int .u64 406]) W:=by
 change Sem.run prog (ReflectliteValue.parts (.agg #[E 6 227,.pointer (some a),.int .u64 150]) >>= _) W=_;simp only[xz,R2,Result.andThen];simp[ReflectliteValue.elem,loadVar,isAgg,underlying,underlying227,b,Result.andThen,Mn,DS]
theorem Mp(a:Addr)(w:World):(ReflectliteValue.parts (.agg #[E 6 225,.pointer (some a),.int .u64 406])).run prog w=.ok (some (225,a,406)) w:=bI
theorem Jn(a:Addr)(w:World):(ReflectliteValue.parts (.agg #[E 6 225,.pointer (some a),.int .u64 150])).run prog w=.ok (some (225,a,150)) w:=bI
theorem Mq(w:World):(Rtype.directlyAssignable 225 225).run prog w=.ok true w:=bI
theorem E5(a b e:Addr)(c:Value)(W:World)(d:W.cell? b=some (.pointer (some e)))(g:W.cell? a=some c)(f:W.frozen? a=false) :
 (ReflectliteValue.set #[.agg #[E 6 225,.pointer (some a),.int .u64 406],.agg #[E 6 225,.pointer (some b),.int .u64 150]]).run prog W
   = .ok (.tuple #[]) (W.setCell a (.pointer (some e))):=by
 change Sem.run prog (ReflectliteValue.parts (.agg #[E 6 225,.pointer (some a),.int .u64 406]) >>= fun _=>ReflectliteValue.parts (.agg #[E 6 225,.pointer (some b),.int .u64 150]) >>= _) W=_;simp only[xz,Mp,Jn,Result.andThen];simp[ReflectliteValue.flagAddr,loadVar,isAgg,underlying,underlying225,d,Result.andThen,Mq,storeVar,Value.cells,storeCells,Addr.add];rw[run_store prog W a _ _ bH];simp[g,f]
theorem Jo(v:Value)(w:World):(ReflectliteType.typeOf #[.iface 202 v]).run prog w=.ok (.iface 309 (.agg #[E 6 202])) w:=bI
theorem RK(w:World):(ReflectliteType.relation "AssignableTo" ReflectliteType.assignableTo #[.agg #[E 6 202],.iface 309 (.agg #[E 6 225])]).run prog w=.ok (.bool false) w:=bI
theorem E6(v:Value)(a:TypeId)(w:World):(Instr.typeAssert (.iface 202 v) a 314 true).run prog w=.ok (.tuple #[.nilIface,.bool false]) w :=
 run_typeAssert_lacksB underlying314 bI bI v a w
theorem CD(v:Value)(a:TypeId)(w:World):(Instr.typeAssert (.iface 202 v) a 317 true).run prog w=.ok (.tuple #[.iface 202 v,.bool true]) w :=
 run_typeAssert_hasB underlying317 bI v a w
theorem GO(v:Value)(w:World):(Go.method 496 202 v "Unwrap").run prog w=.ok (302,v) w:=bI
theorem N0(b:Nat)(a:ByteArray)(v:Value)(w:World)(h:Blk w b [.string a,v] 204)(t c:Nat)(d:v=.iface t (E c 0)) :
 Calls prog 302 #[E b 0] w fun e f=>e=.returned v/\f=w:=by
 subst d;have g:w.cell? (Y b 1)=some (.iface t (E c 0)):=h.cell 1;clear h;go_enter func302,ntmps302
 go_wp2
 go_ret;exact⟨rfl,rfl⟩
theorem ZU.oE{w:World}{n m:Int}:∀ {k j:Nat}{v:Value},ZU w n k v->ZU w m j v->k=j
 | 0,0,_,_,_=>rfl
 | 0,j+1,v,⟨b,c,f,h,i⟩,⟨g,l,o,a,d,_⟩=>by
  rw[h] at a;exact absurd a (by intro x;have:=(uD x).1;exact absurd this O)
 | k+1,0,v,⟨g,l,o,a,d,_⟩,⟨b,c,f,h,i⟩=>by
  rw[h] at a;exact absurd a (by intro x;have:=(uD x).1;exact absurd this O)
 | k+1,j+1,v,⟨b,c,t,h,i,s⟩,⟨g,l,o,a,d,r⟩=>by
  rw[h] at a;have e:=(uD a).2;have q:b=g:=by injection e with e;injection e with e;injection e
  subst q;have:=(i.inj d).1;simp at this;obtain⟨_,rfl⟩:=this;rw[ZU.oE s r]
theorem Mr(n:Int):∃ D:World->Value->Nat,∀ w v k,ZU w n k v->D w v=k :=
 ⟨fun w v=>Classical.epsilon fun k=>ZU w n k v,fun w v k h=>ZU.oE (Classical.epsilon_spec (p:=fun k=>ZU w n k v) ⟨k,h⟩) h⟩
def GP(n:Int)(t:Nat)(w a:World):Prop:=∃ e c f,a.cell? (Y t 0)=some (E e 0)/\Blk a e [.string c,.string f,I n] 229/\Fr (fun k=>k=t) w a
theorem GQ(n:Int)(k:Nat)(v:Value)(t a:Nat)(w:World)(hv:ZU w n k v)(Q:Blk w t [.pointer none] 225)(ha:Blk w a [E t 0] 227) :
 Calls prog 198 #[v,.iface 227 (E t 0),.agg #[E 6 227,E a 0,.int .u64 150],.iface 309 (.agg #[E 6 225])] w fun e s=>e=.returned (.bool true)/\GP n t w s:=by
 have h6:=@Ag prog 195 _ (fun y=>ReflectliteValue.unpack (y.getD 0 (.tuple #[]))) func195 bI bI bI bI;have a2:=@Ag prog 224 _ ReflectliteType.typeOf func224 bI bI bI bI;have a5:=@Ag prog 314 _ (ReflectliteType.relation "AssignableTo" ReflectliteType.assignableTo) func314 bI bI bI bI;have a3:=@Ag prog 225 _ (ReflectliteValue.method (ReflectliteValue.valueError "reflectlite.Value.Elem" 0) ReflectliteValue.elem) func225 bI bI bI bI;have a4:=@Ag prog 226 _ ReflectliteValue.set func226 bI bI bI bI;have tO:=Mm;have tD:=Jo;have mA:=U5;have a1:=R4;have aD:=RK;have a9:=OZ;have hL:=E6;have hH:=CD;have mU:=GO;have d:=Blk.new w [E 6 227,E a 0,.int .u64 150] 281;have A:Fr Nil w (w.alloc (.cells #[E 6 227,E a 0,.int .u64 150] 281)):=(U _ _).alloc _;have HV:=Z (hv.fr A (Wt.nil w));have HT:=Z (Q.fr A id);have R:=Z (ha.fr A id);have G:=Z d;have X:=Z A;have a7:=Q.lt;clear hv Q ha d A;generalize C:w.alloc (.cells #[E 6 227,E a 0,.int .u64 150] 281)=wb at HV HT R G X;generalize hN:w.heap.size=N at G;have a0:N<wb.heap.size:=G.o.lt;have M:=Z C;have HN:=Z hN;clear C hN;go_enter func198,ntmps198;go_wp2_with fail;rw[M.o,HN.o];obtain⟨D,B⟩:=Mr n;have u:=Z B;clear B
 go_loopw [0] (fun x s=>∃ k,ZU s n k x/\Fr Nil wb s) (fun x s=>D s x)
 case atStart=>exact⟨k,HV.o,U _ _⟩
 case round =>
  obtain⟨j,g,q⟩:=hrel;have a6:=(G.o.fr q id).cell;cases j with
  | zero =>
   obtain⟨e,c,f,rfl,o⟩:=g;have el:=Jm ⟨a,0,none⟩ ⟨t,0,none⟩ wr ((R.o.fr q id).cell 0);have i:=Blk.new wr [E e 0] 225;have r:=HT.o.fr q id;have b:=r.alloc (.cells #[E e 0] 225);have st:=E5 ⟨t,0,none⟩ ⟨wr.heap.size,0,none⟩ ⟨e,0,none⟩ (.pointer none) (wr.alloc (.cells #[E e 0] 225)) (i.cell 0) (b.cell 0) (b.frozen 0);have l:=b.set 0 (E e 0);have HC:=Z (l.cell 0);have J:=Z ((o.alloc (.cells #[E e 0] 225)).qv (b':=t) (o.ne r O) 0 (E e 0));have L:aa (Fr (fun k=>k=t) w ((wr.alloc (.cells #[E e 0] 225)).setCell (Y t 0) (E e 0))) :=
    Z (Fr.set (S:=fun k=>k=t) (p:=⟨t,0,none⟩) (((X.o.trans q).mono (fun _ _ h=>absurd h id)).alloc _) (fun _=>rfl) _)
   clear o q i r b l
   go_wp2
   go_ret;exact⟨rfl,e,c,f,HC.o,J.o,L.o⟩
  | succ j =>
   obtain⟨e,m,v',rfl,o,g⟩:=g;obtain⟨t1,b1,rfl⟩:=g.form;have HU:=Z (N0 e m _ wr o t1 b1 rfl);have T:aa (D wr (.iface t1 (E b1 0))=j/\D wr (.iface 202 (E e 0))=j+1):=⟨u.o _ _ _ g,u.o _ _ _ ⟨e,m,_,rfl,o,g⟩⟩;have K:=Z q;have HJ:=Z g;clear o q g
   go_wp2_with (refine HU.o.mono ?_;rintro e w1 ⟨rfl,a8⟩;subst w1)
   exact⟨⟨j,HJ.o,K.o⟩,by rw[T.o.1,T.o.2];omega⟩
theorem E7(n:Int)(v:Value)(t:Nat)(w:World)(X:ERep w v (some n))(y:Blk w t [.pointer none] 225)(l:Hnd w) :
 Calls prog 154 #[v,.iface 227 (E t 0)] w fun e w'=>e=.returned (.bool true)/\GP n t w w':=by
 have h6:=@Ag prog 195 _ (fun d=>ReflectliteValue.unpack (d.getD 0 (.tuple #[]))) func195 bI bI bI bI;have h7:=@Ag prog 196 _ (ReflectliteValue.methodAny (ReflectliteValue.valueError "reflectlite.Value.Type" 0) (fun t _ _ _=>ReflectliteType.toType t)) func196 bI bI bI bI;have h8:=@Ag prog 197 _ (ReflectliteValue.method (ReflectliteValue.valueError "reflectlite.Value.IsNil" 0) ReflectliteValue.isNil) func197 bI bI bI bI;have Q:=@Ag prog 271 _ (ReflectliteType.abiMethod fun t=>do pure (.int .u8 (<- Rtype.kind t))) func271 bI bI bI bI;have R:=@Ag prog 316 _ (ReflectliteType.method ReflectliteType.elem) func316 bI bI bI bI;have S:=@Ag prog 317 _ (ReflectliteType.relation "Implements" ReflectliteType.implements_) func317 bI bI bI bI;have f6:=OY;have f7:=GK;have mK:=P7;have mE:=P8;have mI:=UB;have a2:=GL;have a1:=GM;have M:=GN;have a0:=R3;obtain⟨k,m⟩:=X;obtain⟨t1,J,rfl⟩:=m.form;have g:=Blk.new w [E t 0] 227;have c:Fr Nil w (w.alloc (.cells #[E t 0] 227)):=(U _ _).alloc _;have q:(w.alloc (.cells #[E t 0] 227)).heap.size=w.heap.size+1:=Xv _ _;generalize o:w.alloc (.cells #[E t 0] 227)=f at g c q;have i:=Blk.new f [E 6 227,E w.heap.size 0,.int .u64 150] 281;have a:Fr Nil f (f.alloc (.cells #[E 6 227,E w.heap.size 0,.int .u64 150] 281)):=(U _ _).alloc _;generalize p:f.alloc (.cells #[E 6 227,E w.heap.size 0,.int .u64 150] 281)=r at i a;have b:=g.fr a id;have n8:=Jk ⟨w.heap.size,0,none⟩ ⟨t,0,none⟩ r (b.cell 0);have j:=i.cell;have T:r.cell? (Y 0 0)=some (.iface 309 (.agg #[E 6 132])):=((c.trans a).cell (by have:=l;unfold Hnd World.cell? at this;simp only;rcases Az 0 w.heap.size with h|h;exact h;rw[yU h] at this;cases this) id).trans l;have D:=Z (GQ n k (.iface t1 (E J 0)) t w.heap.size r (m.fr (c.trans a) (Wt.nil w)) (y.fr (c.trans a) id) b);have G:=Z (c.trans a);rw[q] at j;clear g b i m y l c a q;subst p;subst o;go_enter func154,ntmps154;go_wp2_with fail;refine D.o.mono ?_;rintro e w2 ⟨rfl,L,K,N,s,u,x⟩;have A:=Z s;have B:=Z u;have C:aa (Fr (fun k=>k=t) w w2):=(G.o.mono (fun _ _ h=>absurd h id)).trans x;clear s u x
 go_wp2
 go_ret;exact⟨rfl,L,K,N,A.o,B.o,C.o⟩
theorem R5:zy:=by
 intro B w v n c j;have g:=Blk.new w [.pointer none] 225;have a:Fr Nil w (w.alloc (.cells #[.pointer none] 225)):=(U _ _).alloc _;have m:=Z (E7 n v w.heap.size _ (j.fr a (Wt.nil w)) g (show Hnd _ from(a.cell (by have:=c.2.2.1;unfold Hnd World.cell? at this;simp only;rcases Az 0 w.heap.size with h|h;exact h;rw[yU h] at this;cases this) id).trans c.2.2.1));have o:=Z a;have b:=Z (show ∀ k,k<w.heap.size->k≠w.heap.size from fun k h=>V);clear g a c j;go_enter func97,ntmps97;go_wp2_with fail;refine m.o.mono ?_;rintro e r ⟨rfl,u,t,x,y,d,f⟩;have p:=d.cell 2;have l:aa (Fr Nil w r):=o.o.tk f (fun i q e=>absurd e (b.o i q));clear d f
 go_wp2
 go_ret;exact⟨rfl,l.o⟩
end Go.Proofs.YtkhnggkkiefcdaaGreatDoor
