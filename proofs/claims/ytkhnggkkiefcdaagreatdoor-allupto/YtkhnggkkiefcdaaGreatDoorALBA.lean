/- larder: joined texts -/
import Derived.Test.YtkhnggkkiefcdaaGreatDoorALAW
namespace Go.Proofs.YtkhnggkkiefcdaaGreatDoor
open Go.RowKit Proofs.Tryz
set_option maxRecDepth 100000
set_option maxHeartbeats 8000000
variable{K:Nat->Prop}{w wr c:World}{L L1:WL}{n:Nat}{v a:Value}{W1:WM}{p:Prop}
theorem WStep.nG{w4:World}{W:WM}{v4:Value}{q:Nat}{m:LM}(h:WAt K w L W)(g:MRep K w q m)(d:w4.ownsRow 0 104 1 v4 (L.ps.length+1) (Y6 L.ps++[E q 0]))(a:Fr (fun k=>L.sv.ownBlock=some k) w w4)(c:∀ k,v4.ownBlock=some k->L.sv.ownBlock=some k\/w.heap.size<=k) :
 WStep K L w {L with sv:=v4,ps:=L.ps++[q]} {W with st:=W.st++[m]} (w4.setCell (Y L.wb 6) v4) :=
 WStep.rR h (qs:=L.ps++[q]) (st':=W.st++[m]) (by rw[CN,CQ];simpa [Y6] using d) a c (by simp[h.qB]) (fun i f j=>by
  by_cases e:i<L.ps.length
  .have h3:i<W.st.length:=by have:=h.qB;omega
   rw[BE e,BE h3];exact h.qY i e h3
  .have hi2:i=L.ps.length:=by simp at f;omega
   have b:i=W.st.length:=by have:=h.qB;omega
   subst hi2;rw[BV (CP _)];simp only[b,BV (CP _)];simp only[wN,AA];exact g)
theorem VG(K:Nat->Prop)(L:WL)(W:WM)(l:DL)(M:DM)(x r u:Int)(w:World)(h:WAt K w L W)(o:DRep w L.db l M)(p:(x=9/\M.uT=r+1/\M.tr=u)\/(x=10/\M.uT=r+1/\M.tr=u+1)) :
 Calls prog 58 #[E L.wb 0,I x,.agg #[I r,I u]] w fun e J=>e=.returned (.bool true)/\Fr Nil w J:=by
 have d:Fr Nil w (w.alloc (Obj.cells #[I r,I u] 111)):=(U _ _).alloc _;have s:=Blk.new w [I r,I u] 111;have t:=Z (fun i (f:Fr Nil w i)=>Zr i L.db l M (o.nil f));have v:=Z (fun i (f:Fr Nil w i)=>Tp i L.db l M (o.nil f));have b:∀ n,((w.alloc (Obj.cells #[I r,I u] 111)).drewN n).cell? (Y L.wb 4)=some (E L.db 0):=fun n=>(h.nil (d.drewN n)).td.cell 4;have c:∀ n k,((w.alloc (Obj.cells #[I r,I u] 111)).drewN n).cell? (Y w.heap.size k)=[I r,I u][k]?:=fun n=>(s.drewN n).cell;have D:IntKind.i64.wrap (M.uT-r)=1:=by rw[Bu];omega
 have a:=Z d;have G:IntKind.i64.wrap (M.tr-u)=if x=9 then 0 else 1:=by
  rw[Bu];rcases p with⟨e,_,A⟩|⟨e,_,A⟩
  .rw[Bl e];omega
  .rw[CW V];omega
 have y:aa (x=9\/x=10):=p.imp (fun h=>h.1) (fun h=>h.1);clear h o d s p;go_enter func58,ntmps58;go_wp2_with fail;generalize w.alloc (Obj.cells #[I r,I u] 111)=j at b c a |-
 go_quiet ((go_at_call 47;exact Ah (t.o _ (a.o.trans zd))))
 go_wp2_with fail;have g:aa (Fr Nil w (j.drewN nq)):=a.o.drewN nq;have B:∀ n,((j.drewN nq).drewN n).cell? (Y L.wb 4)=some (E L.db 0):=fun n=>b n;have C:∀ n k,((j.drewN nq).drewN n).cell? (Y w.heap.size k)=[I r,I u][k]?:=fun n=>c n;clear b c;generalize j.drewN nq=N at *
 go_quiet ((go_at_call 100;exact Ah (v.o _ (g.o.trans zd))))
 go_wp2_with fail
 all_goals (first|(exfalso;have:=y.o;omega)|(go_ret;exact⟨rfl,g.o.drewN _⟩))
structure Off(K:Nat->Prop)(L:WL)(X:NL)(M:DM)(w:World)(L':WL)(W':WM)(w':World):Prop where
 th:WAt K w' L' W'
 sf:DRep w' L'.db X.LD M
 fr:Fr (PFoot L X M) w w'
 sd:∀ k,WFoot L' k->PFoot L X M k\/w.heap.size<=k
 wb:L'.wb=L.wb
 db:L'.db=X.db
 nv:L'.nv=.pointer none
 tv:L'.tv=L.tv
 rF:∀ k,K k->¬Foot L'.db X.LD M k
 ps:L'.ps≠[]
theorem Off.of{B:Nat}{L':WL}{W':WM}{X:NL}{N:NM}{M:DM}{b:World}(h:PStep K B L X M w K L' W' X N M b)(c:L'.ps≠[]):Off K L X M w {L' with nv:=.pointer none} W' (b.setCell (Y L.wb 5) (.pointer none)):=by
 have f:Fr (fun k=>k=L'.wb) b (b.setCell (Y L.wb 5) (.pointer none)):=by rw[<- h.wb];exact Fr.set (S:=fun k=>k=L'.wb) (p:=⟨L'.wb,5,none⟩) (U _ _) (fun _=>rfl) _
 have g:=h.th.tE.td.set 5 (.pointer none);have d:DRep b L'.db X.LD M:=by rw[h.th.db];exact h.th.node.sf
 refine⟨h.th.tE.sL (by rw[<- h.wb];exact g) f rfl rfl rfl rfl rfl rfl rfl rfl rfl rfl rfl,d.fr f (fun k a e=>h.th.tE.sf d (.inl e) a),h.fr.tk f (fun k a e=>?_),fun k a=>h.sd k (.inl a),h.wb,h.th.db,rfl,h.tv,fun k a e=>h.th.rF k a (.inr (.inr (.inr (.inl (by rw[<- h.th.db];exact e))))),c⟩;exact .inl (.inl (e.trans h.wb))
theorem DX(K:Nat->Prop)(B:Nat)(L:WL)(W:WM)(X:NL)(N:NM)(M:DM)(q:Nat)(m n:LM)(x r u fr:Int)(w:World)(h:Play K B w L W X N M)(hp:0<L.ps.length)(hl:L.ps.length<1000000)(hq:MRep K w q m)(hn:W.st[L.ps.length-1]?=some n)
 (hx:(x=9/\M.uT=r+1/\M.tr=u)\/(x=10/\M.uT=r+1/\M.tr=u+1))(b9:¬(x=10/\2000<=fr))
 (a5:∀ l∈[m,n],ZR l.uR/\l.uR.length<100000000/\(∀ e∈l.uR,e.2.length<100000)/\l.uU.length<1000000)
 (c2:N.S.uR.length<100000000)(c1:N.S.uU.length<1000000)(G:Zc N.S)(b6:W.uS<100000000)
 (Q:World->Prop)
 (hD:M.tJ=true->∀ L' J,Off K L X M w L' {W with tq:=true,st:=W.st++[m]} J->Q J)
 (hT:M.tJ=false->∀ m',(Zj {W with tq:=true} N m).2=some m'->∀ K' L' J,L'.ps≠[]->PStep K B L X M w K' L' {W with tq:=true,tM:=(Zj {W with tq:=true} N m).1,st:=W.st++[m']} X N M J->Q J)
 (hS:M.tJ=false->(Zj {W with tq:=true} N m).2=none->(Zj {W with tq:=true} N m).1=W.tM/\∃ n',Zj {W with tq:=true} N n=(W.tM,some n')/\∀ K' J,PStep K B L X M w K' L {W with tq:=true} X N M J->Q J) :
 Calls prog 110 #[E L.wb 0,E q 0,I x,.agg #[I r,I u],I fr] w fun e J=>e=.returned (.bool true)/\Q J:=by
 have D:Fr Nil w (w.alloc (Obj.cells #[I r,I u] 111)):=(U _ _).alloc _;have hb:=Blk.new w [I r,I u] 111;have HR:=Z (fun y (f:Fr Nil w y)=>Zr y L.db X.LD M (h.tI.nil f));have i:∀ n,((w.alloc (Obj.cells #[I r,I u] 111)).drewN n).cell? (Y L.wb 4)=some (E L.db 0):=fun n=>(h.nil (D.drewN n)).th.tE.td.cell 4;have e3:∀ n k,((w.alloc (Obj.cells #[I r,I u] 111)).drewN n).cell? (Y w.heap.size k)=[I r,I u][k]?:=fun n=>(hb.drewN n).cell;have e6:(M.uT==r)=false:=by simp;omega
 have d2:∀ n k,((w.alloc (Obj.cells #[I r,I u] 111)).drewN n).cell? (Y L.wb k)=(W.cells L)[k]?:=fun n=>(h.nil (D.drewN n)).th.tE.td.cell;have e9:∀ n,_:=fun n=>(h.nil (D.drewN n)).th.tE.td.frozen;simp only[WM.cells] at d2;have HB:=Z hb;have R:=Z D;have HH:=Z h;have d5:=Z hq;have HX:=Z hx;have d4:=Z b9;have HA:=Z a5;have b1:=Z G;have d8:=Z hD;have e0:=Z hT;have d9:=Z hS;clear h D hb hq hx b9 a5 G hD hT hS;go_enter func110,ntmps110;go_wp2_with fail
 go_quiet ((go_at_call 47;exact Ah (HR.o _ (R.o.trans zd))))
 go_wp2_with fail;have b3:=(HH.o.nil (R.o.drewN nq)).trans ((HH.o.nil (R.o.drewN nq)).th.sX (WStep.set (HH.o.nil (R.o.drewN nq)).th.tE 8 (.bool true) (L':=L) (W':={W with tq:=true}) ai rfl rfl rfl rfl rfl rfl rfl rfl rfl rfl rfl rfl rfl));have S:=Z b3;clear i e3 d2 e9 b3 HB;generalize ((w.alloc (Obj.cells #[I r,I u] 111)).drewN nq).setCell (Y L.wb 8) (.bool true)=w3 at *;refine(VG K L _ X.LD M x r u w3 S.o.th.tE S.o.th.tI HX.o).mono ?_;rintro e w4 ⟨rfl,f4⟩;have C:=S.o.trans (S.o.th.nil f4);have c:=Z C;have i:=C.th.tE.td.cell;have o:∀ n k,(w4.drewN n).cell? (Y L.wb k)=_:=fun n=>(C.th.nil ((U _ w4).drewN n)).th.tE.td.cell;simp only[WM.cells] at i o;have d3:=Z (fun y (f:Fr Nil w4 y)=>WV y L.db X.LD M ((C.th.nil f).th.tI));have hg:(x==10)=true->¬(2000:Int)<=fr:=fun e h=>d4.o ⟨by simpa using e,h⟩;clear C f4 e6;have a0:L.ps.length<1000000000:=V
 have a2:aa (MRep K w4 q m):=d5.o.tW (zR.rv c.o.fr (fun k e=>⟨(HH.o.tE.tW k e).1,fun hf=>hf.elim (HH.o.tE.tW k e).2 (HH.o.rF k e)⟩)) (fun _ e=>e);obtain⟨sa,sc,a1⟩:=zf c.o.th.tE.rY;have p:=c.o.th.tE.rY;rw[a1] at p;have a4:=Z p;have a9:aa (∀ v:World,Fr (fun k=>(Value.slice sa L.ps.length sc).ownBlock=some k) w4 v->Blk v L.wb (WM.cells L {W with tq:=true}) 49):=fun v f=>c.o.th.tE.td.fr f (zh p c.o.th.tE.td O);have s:=Z a1;rw[a1] at i o;clear p a1;cases hx10:(x==10)
 case' true =>
  have c0:=hg hx10;have f0:decide ((2000:Int)<=fr)=false:=by simpa using c0
 all_goals
  go_wp2_with fail;refine(d3.o w4 (U _ _)).mono ?_;rintro e y ⟨rfl,f2⟩;subst y;clear hg hx10;cases hdd:M.tJ with
  | true =>
   generalize g:L.ps.length=len at a0 a4 a9 i;have b:=Z g;clear g
   go_wp2_with (at_builtin;go_must (refine zm rfl _ _ _ _ rfl _ _ bH bH (Td w4 _ _ _ a4.o q a0 _ zd _ aw _) ?_;rintro v5 v ⟨c6,b7,e4⟩;have b4:=a9.o _ b7;obtain⟨f6,f8,e7⟩:=zf c6;have T:=b4.cell;simp only[WM.cells] at T;have f3:=b4.frozen))
   have a6:=WStep.nG (q:=q) (m:=m) c.o.th.tE a2.o (v4:=v5) (w4:=v) (by rw[b.o];exact c6) (by rw[s.o,b.o];exact b7) (fun k e=>by rw[s.o,b.o];exact e4 k e);have a8:=c.o.trans (c.o.th.sX a6);subst e7;go_ret;exact⟨rfl,d8.o hdd _ _ (Off.of a8 bG)⟩
  | false =>
   go_wp2_with fail;refine(OO K B L _ X N M q m w4 c.o.th a2.o (HA.o m bG).1 (HA.o m bG).2.1 (HA.o m bG).2.2.1 (HA.o m bG).2.2.2 c2 c1 b1.o b6).mono ?_;intro e v h5;cases ho:(Zj {W with tq:=true} N m).2 with
   | some m' =>
    rw[ho] at h5;obtain⟨K5,q5,t,rfl,d0⟩:=h5;have b2:=Z (e0.o hdd m' ho K5);have a:=Z (c.o.trans t);have d:=a.o.th.tE.rY;rw[s.o] at d;have A:=Z d;have b0:aa (∀ w6:World,Fr (fun k=>(Value.slice sa L.ps.length sc).ownBlock=some k) v w6->Blk w6 L.wb (WM.cells L {W with tq:=true,tM:=(Zj {W with tq:=true} N m).1}) 49):=fun w6 f=>a.o.th.tE.td.fr f (zh d a.o.th.tE.td O);have e1:=Z d0;have T:=a.o.th.tE.td.cell;simp only[WM.cells,s.o] at T;clear t d0 d i o ho hdd;generalize (Zj {W with tq:=true} N m).1=mo at *;generalize g:L.ps.length=len at a0 A b0 T;have b:=Z g;clear g
    go_wp2_with (at_builtin;go_must (refine zm rfl _ _ _ _ rfl _ _ bH bH (Td v _ _ _ A.o q5 a0 _ zd _ aw _) ?_;rintro v6 w6 ⟨c7,b8,e5⟩;have b5:=b0.o _ b8;obtain⟨f7,f9,e8⟩:=zf c7;have e2:=b5.cell;simp only[WM.cells] at e2;have f5:=b5.frozen))
    have a6:=WStep.nG (q:=q5) (m:=m') a.o.th.tE e1.o (v4:=v6) (w4:=w6) (by rw[b.o];exact c7) (by rw[s.o,b.o];exact b8) (fun k e=>by rw[s.o,b.o];exact e5 k e);have a8:=a.o.trans (a.o.th.sX a6);subst e8;go_ret;exact⟨rfl,b2.o _ _ bG a8⟩
   | none =>
    rw[ho] at h5;obtain⟨K5,t,rfl⟩:=h5;obtain⟨c4,n',c5,c9⟩:=d9.o hdd ho;rw[c4] at t;have a:aa (PStep K B L X M w K5 L {W with tq:=true} X N M v):=c.o.trans t;have a3:=Z (fun y (f:Fr Nil v y)=>ZD K5 L _ y (a.o.th.tE.nil f) hp V);have d7:=Z c9;have c8:=HH.o.tE.qB;have c3:W.st[L.ps.length-1]' V=n:=by rw[CS V] at hn;exact BA hn
    have j:=(a.o.th.tE.tu hp).2;simp only[c3] at j;have a7:=Z (fun y (f:Fr Nil v y)=>OO K5 B L _ X N M _ n y (a.o.th.nil f).th (j.tW (zR.rv f (fun k e=>⟨(a.o.th.tE.tW k e).1,id⟩)) (fun _ e=>e)) (HA.o n bG).1 (HA.o n bG).2.1 (HA.o n bG).2.2.1 (HA.o n bG).2.2.2 c2 c1 b1.o b6);rw[c5] at a7;generalize L.ps[L.ps.length-1]=ql at a3 a7;clear t j c3 i o ho hdd c5 c9 c4 c8;go_wp2_with fail;refine(a3.o _ (U _ _)).mono ?_;rintro e w9 ⟨rfl,n9,f1⟩;subst w9;go_wp2_with fail;refine(a7.o _ ((U _ v).drewN n9)).mono ?_;intro e w6 h6;obtain⟨K6,q6,d1,rfl,_⟩:=h6;have d6:=Z (a.o.trans ((a.o.th.nil ((U _ v).drewN n9)).trans d1));clear d1;go_wp2_with fail;go_ret;exact⟨rfl,d7.o _ _ d6.o⟩
theorem Ec:((prog.info? 9).map fun i=>(i.zero.map (·.cells.size),i.size,i.bytes))=some (some 1,1,16):=bI
theorem WAt.qO{W:WM}(h:WAt K w L W){t:TypeId}{s:Nat}{g:List Value}(f:w.ownsRow 0 t s v n g)(c:¬WTy t):∀ k,WFoot L k->¬v.ownBlock=some k:=fun k b e=>by
 obtain⟨u,d,a⟩:=h.ty b;have:=d.inj (zr f e);subst this;exact c a
theorem Tl:¬WTy 9:=by
 exact Rx
theorem CE{x:Value}(h:WAt K wr L1 W1)(e:n=W1.bk.ns.length+1)(f:c.ownsRow 0 91 1 a n (W1.bk.ns++[x]))(d:Fr (fun k=>L1.ns.ownBlock=some k) wr c)(b:∀ k,a.ownBlock=some k->L1.ns.ownBlock=some k\/wr.heap.size<=k) :
 WStep K L1 wr {L1 with ns:=a} {W1 with bk:={W1.bk with ns:=W1.bk.ns++[x]}} (c.setCell (Y L1.wb 19) a) :=
 WStep.ns h bv d b
theorem CF{m:Nat}(h:WAt K wr L1 W1)(e:n=W1.bk.nm.length+1)(f:c.ownsRow 0 3 1 a n (ZN W1.bk.nm++[I m]))(d:Fr (fun k=>L1.nm.ownBlock=some k) wr c)(b:∀ k,a.ownBlock=some k->L1.nm.ownBlock=some k\/wr.heap.size<=k) :
 WStep K L1 wr {L1 with nm:=a} {W1 with bk:={W1.bk with nm:=W1.bk.nm++[m]}} (c.setCell (Y L1.wb 20) a) :=
 WStep.nm h be d b
theorem QB:((prog.info? 75).map fun i=>(i.zero.map (·.cells.size),i.size,i.bytes))=some (some 2,2,24):=bI
theorem GV(w:World)(v:Value)(n:Nat)(o:List Value)(h:w.ownsRow 0 75 2 v n o)(m:Nat)(t:ByteArray)(A:n<1000000000)(f:World)(g:Fr Nil w f)(N:Nat)(s:Blk f N [I m,.string t] 75)(ty:TypeId) :
 ∃ b c,(Builtin.append_ #[66,66] ty #[v,.slice (some (Y N 0)) 1 1]).run prog f=.ok b c /\
  (c.ownsRow 0 75 2 b (n+1) (o++[I m,.string t])/\Fr (fun k=>v.ownBlock=some k) w c/\(∀ k,b.ownBlock=some k->v.ownBlock=some k\/w.heap.size<=k)):=by
 have x:=ze h g (fun _ _=>id);obtain⟨b,c,y,q,r,a⟩:=zq (P:=prog) 66 ty 75 2 24 yq QB V v n o x ⟨N,0,none⟩ 1 1 [I m,.string t] rfl
  (fun j u d=>by rw[BO,BQ,s.cell];exact d) (by intro u d;simp at d;rcases d with rfl|rfl <;> rfl) ac V
 refine⟨b,c,y,q,(g.mono (fun _ _ e=>absurd e id)).tk ((Fr.sB r).mono (fun i _ h=>h)) (fun i _ h=>h),fun k l=>?_⟩;rcases a with a|a
 .exact .inl (by rw[<- a];exact l)
 .rw[a] at l;simp at l;have:=g.size;exact .inr V
theorem VH:¬WTy 75:=by
 exact Rx
theorem CG{x:Value}(h:WAt K wr L1 W1)(e:n=W1.bk.hs.length+1)(f:c.ownsRow 0 66 1 a n (W1.bk.hs++[x]))(d:Fr (fun k=>L1.hs.ownBlock=some k) wr c)(b:∀ k,a.ownBlock=some k->L1.hs.ownBlock=some k\/wr.heap.size<=k) :
 WStep K L1 wr {L1 with hs:=a} {W1 with bk:={W1.bk with hs:=W1.bk.hs++[x]}} (c.setCell (Y L1.wb 21) a) :=
 WStep.hs h bv d b
theorem CH{m:Nat}(h:WAt K wr L1 W1)(e:n=W1.bk.hm.length+1)(f:c.ownsRow 0 3 1 a n (ZN W1.bk.hm++[I m]))(d:Fr (fun k=>L1.hm.ownBlock=some k) wr c)(b:∀ k,a.ownBlock=some k->L1.hm.ownBlock=some k\/wr.heap.size<=k) :
 WStep K L1 wr {L1 with hm:=a} {W1 with bk:={W1.bk with hm:=W1.bk.hm++[m]}} (c.setCell (Y L1.wb 22) a) :=
 WStep.hm h be d b
theorem S6(t ty e:TypeId)(size f:Nat)(ht:prog.underlying t=some (.slice e))(hI:((prog.info? e).map fun i=>(i.zero.map (·.cells.size),i.size,i.bytes))=some (some size,size,f))(X:0<size)
 (w:World)(v:Value)(n:Nat)(J:List Value)(b:w.ownsRow 0 e size v n J)(A:Addr)(m c:Nat)(d:List Value)(L:d.length=m*size)(h:∀ j u,d[j]?=some u->w.cell? (A.add j)=some u)(h1:∀ u∈d,u.oneCell'=true)
 (D:n+m<=maxLen)(k:(n+m)*f<=140737488355328)(v':Value)(w':World)(T:(Builtin.append_ #[t,t] ty #[v,.slice (some A) m c]).run prog w=.ok v' w') :
 ∀ g j,g<w.heap.size->(v.ownBlock=some g->j<n*size)->w'.cell? (Y g j)=w.cell? (Y g j):=by
 obtain⟨i,z,S,hz,h2,h3,h4⟩:=ZK hI;obtain⟨v2,w2,G,x,Q,_,l⟩:=run_append_own_at (P:=prog) w 0 t ty e i z size f ht S hz h2 h3 h4 X v n J b A m c d L h h1 D k (Bg _);obtain⟨rfl,rfl⟩:v2=v'/\w2=w':=by
  rw[T] at G;cases G;exact⟨rfl,rfl⟩
 intro g j hg hj;by_cases K:v.ownBlock=some g
 .have hjn:=hj K
  obtain⟨a,s,rfl⟩:=zf b;rcases b.2 with⟨M,_⟩|⟨y,a0,B,M,a3,R,a5,a4,N,a6⟩
  .cases M
   simp[Value.ownBlock] at K
  .cases M
   obtain rfl:y=g:=by simpa [Value.ownBlock] using K
   have o:j<J.length:=by rw[b.1];exact hjn
   have hx:=own_cell? b j _ (CS o);rw[hx];rcases l with l|l
   .obtain⟨a2,cap2,rfl⟩:=zf x
    rcases x.2 with⟨C,_⟩|⟨g2,c2,a1,C,_⟩
    .injection C with C
     subst C;simp[Value.ownBlock] at l
    .cases C
     obtain rfl:g2=y:=by simpa [Value.ownBlock] using l
     exact own_cell? x j _ (by rw[Aq o,CS o])
   .subst h2
    by_cases r:n+m<=s
    .have hfit:n*i.size+d.length<=B.size:=by rw[L,N,<- yo];exact BG _ r
     have q:=run_append_room (P:=prog) w t ty e i ht S y n s B R A m c d L h h1 r hfit;rw[T] at q;cases q;simp[Value.ownBlock] at l;omega
    .have holds:∀ j u,J[j]?=some u->w.cell? (((Y y 0):Addr).add j)=some u:=b.cells (g:=y) rfl
     have q:=run_append_grow (P:=prog) w t ty e i z ht S hz ⟨y,0,none⟩ n s J b.1 holds A m c d L h V (by simp only[maxLen] at D;omega) (wI V (by rw[h3];exact k));rw[T] at q;cases q;rw[<- hx];exact vj (heap_alloc_old w.drew _ hg)
 .exact vj (Q.block g hg (fun e=>K e.symm))
def Rds(w:World)(v:Value)(n size:Nat)(b:List Value):Prop:=b.length=n*size/\∃ a c,v=.slice a n c/\(0<n->∃ g,a=some (Y g 0)/\g<w.heap.size/\∀ j,j<n*size->w.cell? (Y g j)=b[j]?)
theorem Rds.of{e:TypeId}{size:Nat}{b:List Value}(h:w.ownsRow 0 e size v n b):Rds w v n size b:=by
 obtain⟨a,c,rfl⟩:=zf h;refine⟨h.1,a,c,rfl,fun l=>?_⟩;obtain⟨g,i,e,_⟩:=zl h l;cases e;refine⟨g,rfl,zF h rfl,fun j k=>?_⟩;have d:j<b.length:=by rw[h.1];exact k
 rw[CS d];exact own_cell? h j _ (CS d)
theorem Rds.to{b:World}{size:Nat}{e:List Value}(h:Rds w v n size e)(hs:w.heap.size<=b.heap.size)(l:∀ g j,v.ownBlock=some g->j<n*size->b.cell? (Y g j)=w.cell? (Y g j)):Rds b v n size e:=by
 obtain⟨f,a,c,rfl,i⟩:=h;refine⟨f,a,c,rfl,fun p=>?_⟩;obtain⟨g,rfl,o,k⟩:=i p;exact⟨g,rfl,Bv o hs,fun j d=>(l g j rfl d).trans (k j d)⟩
theorem Rds.fr{S:Nat->Prop}{w':World}{size:Nat}{r:List Value}(h:Rds w v n size r)(f:Fr S w w')(G:0<n->∀ k,v.ownBlock=some k->¬S k):Rds w' v n size r:=by
 obtain⟨y,a,c,rfl,A⟩:=h;refine⟨y,a,c,rfl,fun o=>?_⟩;obtain⟨g,rfl,e,C⟩:=A o;exact⟨g,rfl,Bv e f.size,fun j D=>(f.cell (p:=⟨g,j,none⟩) e (G o g rfl)).trans (C j D)⟩
theorem N8(w:World)(v:Value)(l:List Ver)(h:VRow w v l)(x:Ver)(s:l.length<1000000)(c:World)(d:Fr Nil w c)(N:Nat)(f:Blk c N x.cells 37)(ty:TypeId) :
 ∃ b a,(Builtin.append_ #[61,61] ty #[v,.slice (some (Y N 0)) 1 1]).run prog c=.ok b a /\
  ((VRow a b (l++[x])/\Fr (fun k=>v.ownBlock=some k) w a/\(∀ k,b.ownBlock=some k->v.ownBlock=some k\/w.heap.size<=k))/\∀ g j,g<w.heap.size->(v.ownBlock=some g->j<l.length*8)->a.cell? (Y g j)=w.cell? (Y g j)):=by
 obtain⟨b,a,o,y⟩:=Yt w v l h x s c d N f ty;refine⟨b,a,o,y,fun g j i q=>?_⟩;have t:=ze h d (fun _ _=>id);have r:=S6 61 ty 37 8 72 AL Ez V c v l.length _ t ⟨N,0,none⟩ 1 1 x.cells rfl
  (fun j u e=>by rw[BO,BQ,f.cell];exact e) (fun u e=>XS [x] u (by simpa [zS] using e)) ac V b a o g j (Bv i d.size) q
 exact r.trans (d.cell (p:=⟨g,j,none⟩) i id)
structure S7(vs:List Value)(vm:List Nat)(vs':List Value)(vm':List Nat)(ne:List Value)(i m:Nat):Prop where
 vs:vs'=vs++ne
 vm:vm'=vm++List.replicate i m
 len:ne.length=i
def Ws(a w:World)(L:WL)(size:Nat)(R:Nat->List Value)(b:Nat)(ne:List Value):Prop :=
 ∀ v∈ne,(∃ n,n<=b/\Rds w v n size (R n))/\∀ k,v.ownBlock=some k->a.heap.size<=k/\k<w.heap.size/\¬WFoot L k
theorem Ws.step{r d s:World}{t f:WL}{x:WM}{e:TypeId}{size b:Nat}{R:Nat->List Value}{ne:List Value}{c:Value}(h:Ws r wr t size R b ne)(hs:WStep K t wr f x d)(q:d.ownsRow 0 e size c b (R b))(o:∀ k,c.ownBlock=some k->r.heap.size<=k)(a:d.heap.size<=s.heap.size)
 (u:∀ g j,g<d.heap.size->(c.ownBlock=some g->j<b*size)->s.cell? (Y g j)=d.cell? (Y g j))(y:∀ k,WFoot f k->¬c.ownBlock=some k):Ws r s f size R (b+1) (ne++[c]):=by
 intro v hm;rcases CV.1 hm with hm|hm
 .obtain⟨⟨n,hn1,hr⟩,hf⟩:=h v hm
  refine⟨⟨n,V,(hr.fr hs.fr (fun _ k e=>(hf k e).2.2)).to a (fun g j e l=>?_)⟩,fun k e=>?_⟩
  .exact u g j (Bv (hf g e).2.1 hs.fr.size) (fun _=>Bv l (BG size V))
  .obtain⟨a1,a2,a3⟩:=hf k e
   exact⟨a1,Bv a2 (CO hs.fr.size a),fun i=>(hs.sd k i).elim a3 (fun A=>V)⟩
 .obtain rfl:=CX.1 hm
  exact⟨⟨b,V,(Rds.of q).to a (fun g j e l=>u g j (zF q e) (fun _=>l))⟩,fun k e=>⟨o k e,Bv (zF q e) a,fun i=>y k i e⟩⟩
theorem N9{t e:TypeId}{a:Nat}(C:prog.underlying t=some (.slice e))(s:((prog.info? e).map fun i=>(i.zero.map (·.cells.size),i.size,i.bytes))=some (some 1,1,a))(f:a<=24)
 (w:World)(v:Value)(n:Nat)(q:List Value)(h:w.ownsRow 0 e 1 v n q)(x:Value)(r:x.oneCell'=true)(J:n<1000000000)(d:World)(l:Fr Nil w d)(N:Nat)(y:Blk d N [x] e)(ty:TypeId) :
 ∃ c b,(Builtin.append_ #[t,t] ty #[v,.slice (some (Y N 0)) 1 1]).run prog d=.ok c b /\
  ((b.ownsRow 0 e 1 c (n+1) (q++[x])/\Fr (fun k=>v.ownBlock=some k) w b/\(∀ k,c.ownBlock=some k->v.ownBlock=some k\/w.heap.size<=k))/\∀ g j,g<w.heap.size->(v.ownBlock=some g->j<n*1)->b.cell? (Y g j)=w.cell? (Y g j)):=by
 obtain⟨c,b,B,K⟩:=XU C s f w v n q h x r J d l N y ty;refine⟨c,b,B,K,fun g j A D=>?_⟩;have G:=S6 t ty e 1 a C s V d v n q (ze h l (fun _ _=>id)) ⟨N,0,none⟩ 1 1 [x] rfl
  (fun j u o=>by rw[BO,BQ,y.cell];exact o) (by intro u o;simp at o;subst o;exact r) ac (CO (vz _ f) V) c b B g j (Bv A l.size) D
 exact G.trans (l.cell (p:=⟨g,j,none⟩) A id)
theorem P9(w:World)(v:Value)(n:Nat)(f:List Value)(h:w.ownsRow 0 75 2 v n f)(m:Nat)(t:ByteArray)(s:n<1000000000)(c:World)(d:Fr Nil w c)(N:Nat)(i:Blk c N [I m,.string t] 75)(ty:TypeId) :
 ∃ b a,(Builtin.append_ #[66,66] ty #[v,.slice (some (Y N 0)) 1 1]).run prog c=.ok b a /\
  ((a.ownsRow 0 75 2 b (n+1) (f++[I m,.string t])/\Fr (fun k=>v.ownBlock=some k) w a/\(∀ k,b.ownBlock=some k->v.ownBlock=some k\/w.heap.size<=k))/\∀ g j,g<w.heap.size->(v.ownBlock=some g->j<n*2)->a.cell? (Y g j)=w.cell? (Y g j)):=by
 obtain⟨b,a,o,x⟩:=GV w v n f h m t s c d N i ty;refine⟨b,a,o,x,fun g j l q=>?_⟩;have r:=S6 66 ty 75 2 24 yq QB V c v n f (ze h d (fun _ _=>id)) ⟨N,0,none⟩ 1 1 [I m,.string t] rfl
  (fun j u e=>by rw[BO,BQ,i.cell];exact e) (by intro u e;simp at e;rcases e with rfl|rfl <;> rfl) ac V b a o g j (Bv l d.size) q
 exact r.trans (d.cell (p:=⟨g,j,none⟩) l id)
def Jr(m n:Nat):List Value:=zS (List.replicate n (Zl m))
theorem DY(l:List Ver)(n m:Nat)(b:l.length=n)(h:∀ k (d:k<l.length),l[k]=Zl m):l=List.replicate (n+0) (Zl m):=by
 refine xt (by simp[b]) (fun k a c=>?_);rw[h k a,wS]
structure EH(K:Nat->Prop)(L:WL)(W:WM)(w0:World)(n xb m i:Nat)(lv:Value)(w':World):Prop where
 ex:∃ l' L' bk' ne,VRow w' lv l'/\(∀ k,lv.ownBlock=some k->w0.heap.size<=k)/\l'.length=n+i/\WStep K L w0 L' (W.tV bk') w'/\bk'.vs.length=W.bk.vs.length+i/\bk'.vm.length=W.bk.vm.length+i/\bk'.ns=W.bk.ns/\bk'.nm=W.bk.nm/\bk'.hs=W.bk.hs/\bk'.hm=W.bk.hm/\L'.ps=L.ps/\S7 W.bk.vs W.bk.vm bk'.vs bk'.vm ne i m/\l'=List.replicate (n+i) (Zl m)/\Ws w0 w' L' 8 (Jr m) (n+i) ne
 box:Blk w' xb (Zl m).cells 37
 low:w0.heap.size<=xb
 qQ:¬lv.ownBlock=some xb
theorem GW(h:p:=by
 have i8:=Z e7;clear u b1 a2 b e1 e2 e3 e4 e5 e6 e7;go_wp2_with fail;exact Aw (v:=.tuple #[]) af rfl ⟨rfl,L1,a,ne,m,c.o,HE.o,i8.o,HQ.o.1,HQ.o.2.1,i3.o,by rw[f5.o];exact HQ.o.2.2⟩):p:=h
theorem K9(h:p:=by
 rw[List.getElem_set];split
 .rfl
 .exact b3.o k (by rw[xF] at r;exact r) V):p:=h
theorem DZ(h:p:=by
 have d3:i+j<1000000000:=V
 rw[a2] at u c5;obtain⟨T,X,rfl⟩:=zf u;have a3:=b.wb;have C:=b.th.td;rw[a3] at C;obtain⟨va,vc,G⟩:∃ va vc,L1.ns=.slice va a.ns.length vc:=zf b.th.tC.ns;obtain⟨ma,mc,b2⟩:∃ ma mc,L1.nm=.slice ma a.nm.length mc:=zf b.th.tC.nm;have e9:a.ns.length<1000000000:=by have:=c2.o.ns;omega
 have e8:a.nm.length<1000000000:=by have:=c2.o.nm;omega
 have hc:=C.cell;simp only[WM.cells,WM.tV,G,b2] at hc;have B:=Z b.th.tC.ns;have a8:=Z a3;have i9:=Z G;have a7:=Z b2;rw[G] at B;have b7:aa (∀ y:World,Fr (fun k=>(Value.slice va a.ns.length vc).ownBlock=some k) wr y->Blk y L.wb ((W.tV a).cells L1) 49):=fun y f=>C.fr f (zh B.o C O);have c3:aa (∀ (t:Value) (y:World) (n:Nat),n=a.ns.length+1->y.ownsRow 0 91 1 t n (a.ns++[.slice T (i+j) X])->Fr (fun k=>(Value.slice va a.ns.length vc).ownBlock=some k) wr y->(∀ k,t.ownBlock=some k->(Value.slice va a.ns.length vc).ownBlock=some k\/wr.heap.size<=k) ->
  WStep K L1 wr {L1 with ns:=t} (W.tV {a with ns:=a.ns++[.slice T (i+j) X]}) (y.setCell (Y L.wb 19) t)):=fun t y n e ho J hn=>by rw[<- a3];rw[<- G] at J hn;exact CE c.o.th e ho J hn
 clear u b1 a2 b e1 e2 e3 e4 e5 e6 e7 a3 G b2 C
 go_wp2_with (at_builtin;(first
  | (refine zm rfl _ _ _ _ rfl _ _ bH bH (N9 yp Ec O _ _ _ _ S.o (.string (Zi m)) rfl d3 _ zd _ ax _) ?_;rintro v8 w8 ⟨⟨i1,b5,f7⟩,f6⟩)
  | (refine zm rfl _ _ _ _ rfl _ _ bH bH (XU xf Te O _ _ _ _ s.o (I m) rfl e8 _ zd _ ax _) ?_;rintro v6 Q ⟨d8,d2,i0⟩;have c8:=h3.o _ d2;have h7:=c8.cell;simp only[WM.cells,WM.tV] at h7;have j5:=c8.frozen;have a4:=Z (c4.o _ _ _ rfl d8 d2 i0);have S:aa (World.ownsRow _ 0 9 1 (.slice T (i+j) X) (i+j) l1):=ze c6.o a4.o.fr (fun k e r=>d.o.th.qO c6.o Tl k r e);obtain⟨j7,j9,rfl⟩:=zf d8)
  | (refine zm rfl _ _ _ _ rfl _ _ bH bH (XU underlying44 Cw O wr _ _ _ B.o (.slice T (i+j) X) rfl e9 _ zd _ aw _) ?_;rintro t y ⟨d7,d1,h9⟩;have c7:=b7.o _ d1;have h6:=c7.cell;simp only[WM.cells,WM.tV,a7.o] at h6;have j4:=c7.frozen;have d:=Z (c3.o _ _ _ rfl d7 d1 h9);have c6:aa (World.ownsRow _ 0 9 1 (.slice T (i+j) X) (i+j) l1):=ze c5.o d.o.fr (fun k e r=>c.o.th.qO c5.o Tl k r e);have s:=Z d.o.th.tC.nm;rw[show({L1 with ns:=t}:WL).nm=.slice ma a.nm.length mc from a7.o] at s;have h3:aa (∀ Q:World,Fr (fun k=>(Value.slice ma a.nm.length mc).ownBlock=some k) _ Q->Blk Q L.wb ((W.tV {a with ns:=a.ns++[.slice T (i+j) X]}).cells {L1 with ns:=t}) 49):=(fun Q f=>by rw[<- a8.o];exact d.o.th.td.fr f (zh s.o d.o.th.td O));have c4:aa (∀ (v6:Value) (Q:World) (n:Nat),n=a.nm.length+1->Q.ownsRow 0 3 1 v6 n (ZN a.nm++[I m])->Fr (fun k=>(Value.slice ma a.nm.length mc).ownBlock=some k) (y.setCell (Y L.wb 19) t) Q->(∀ k,v6.ownBlock=some k->(Value.slice ma a.nm.length mc).ownBlock=some k\/(y.setCell (Y L.wb 19) t).heap.size<=k)->WStep K {L1 with ns:=t} (y.setCell (Y L.wb 19) t) {L1 with ns:=t,nm:=v6} (W.tV {a with ns:=a.ns++[.slice T (i+j) X],nm:=a.nm++[m]}) (Q.setCell (Y L.wb 20) v6)):=(fun v6 Q n e ho J hn=>by rw[<- a8.o] at J hn |-;rw[<- a7.o] at J hn;have hr:=d.o.th;rw[<- a8.o] at hr;exact CF (L1:={L1 with ns:=t}) (W1:=W.tV {a with ns:=a.ns++[.slice T (i+j) X]}) (m:=m) hr e ho J hn);obtain⟨j6,j8,rfl⟩:=zf d7)))
 have a0:=c.o.trans (d.o.trans a4.o);have h5:WStep K L N _ _ w8:=a0.qv b5 b4.o (fun k r e=>a0.th.qO S.o Tl k r e) H0.o.low;have h8:N.heap.size<=(Q.setCell (Y L.wb 20) _).heap.size:=a0.fr.size;obtain⟨e1,e2,e3,e4,e5,e6,e7⟩:=HE.o;have g8:(l1++[.string (Zi m)]:List Value).length=i+j+1:=by rw[CN,CQ,f4.o]
 obtain⟨q1,q2,q3⟩:=HQ.o;have b6:=S.o;rw[q2] at b6;have d0:=Ws.step q3 (d.o.trans a4.o) b6 b4.o b5.size f6 (fun k r e=>a0.th.qO S.o Tl k r e);refine⟨⟨j+1,V,by push_cast;rfl,⟨⟨l1++[.string (Zi m)],_,_,ne++[.slice T (i+j) X],by rw[g8];exact i1,fun k e=>(f7 k e).elim (b4.o k) (fun e=>CO h8 e),by rw[g8];omega,h5,?_,?_,e3,e4,e5,e6,e7,⟨?_,?_,?_⟩,?_,d0⟩⟩⟩,by simp[intOf];omega⟩
 .simp only[CN,CQ];omega
 .simp only[CN,CQ];omega
 .simp only[q1.vs,Be]
 .simp only[q1.vm,Be,xi]
 .rw[CN,CQ,q1.len]
 .rw[q2,<- vR];unfold T6;rw[xi]):p:=h
theorem C0(h:p:=by
 have f8:=Z hbx1;have d3:l1.length<1000000:=V
 unfold VRow at u;rw[a2] at u;obtain⟨T,X,rfl⟩:=zf u;have a3:=b.wb;have C:=b.th.td;rw[a3] at C;obtain⟨va,vc,G⟩:∃ va vc,L1.vs=.slice va a.vs.length vc:=zf b.th.tC.vs;obtain⟨ma,mc,b2⟩:∃ ma mc,L1.vm=.slice ma a.vm.length mc:=zf b.th.tC.vm;have e9:a.vs.length<1000000000:=by have:=c2.o.vs;omega
 have e8:a.vm.length<1000000000:=by have:=c2.o.vm;omega
 have hc:=C.cell;simp only[WM.cells,WM.tV,G,b2] at hc;have j2:=hbx1.cell;simp only[Zl,Ver.cells] at j2;have B:=Z b.th.tC.vs;have a8:=Z a3;have i9:=Z G;have a7:=Z b2;rw[G] at B;have b7:aa (∀ y:World,Fr (fun k=>(Value.slice va a.vs.length vc).ownBlock=some k) wr y->Blk y L.wb ((W.tV a).cells L1) 49):=fun y f=>C.fr f (zh B.o C O);have c3:aa (∀ (t:Value) (y:World) (n:Nat),n=a.vs.length+1->y.ownsRow 0 61 1 t n (a.vs++[.slice T (i+j) X])->Fr (fun k=>(Value.slice va a.vs.length vc).ownBlock=some k) wr y->(∀ k,t.ownBlock=some k->(Value.slice va a.vs.length vc).ownBlock=some k\/wr.heap.size<=k) ->
  WStep K L1 wr {L1 with vs:=t} (W.tV {a with vs:=a.vs++[.slice T (i+j) X]}) (y.setCell (Y L.wb 17) t)):=fun t y n e ho J hn=>by rw[<- a3];rw[<- G] at J hn;exact Cy c.o.th e ho J hn
 clear u b1 a2 b e1 e2 e3 e4 e5 e6 e7 hbx1 a3 G b2 C
 go_wp2_with (at_builtin;(first
  | (refine zm rfl _ _ _ _ rfl _ _ bH bH (N8 _ _ l1 S.o (Zl m) d3 _ zd _ (by exact Blk.qC _ (Zl m).cells _ _ aK) _) ?_;rintro v8 w8 ⟨⟨i1,b5,f7⟩,f6⟩)
  | (refine zm rfl _ _ _ _ rfl _ _ bH bH (XU xf Te O _ _ _ _ s.o (I m) rfl e8 _ zd _ ax _) ?_;rintro v6 Q ⟨d8,d2,i0⟩;have c8:=h3.o _ d2;have h7:=c8.cell;simp only[WM.cells,WM.tV] at h7;have j5:=c8.frozen;have a4:=Z (c4.o _ _ _ rfl d8 d2 i0);have S:aa (VRow _ (.slice T (i+j) X) l1):=ze c6.o a4.o.fr (fun k e r=>d.o.th.oj c6.o k r e);have b8:=Z (f9.o.fr a4.o.fr (d.o.th.oP f9.o EE));have j3:=b8.o.cell;simp only[Zl,Ver.cells] at j3;obtain⟨j7,j9,rfl⟩:=zf d8)
  | (refine zm rfl _ _ _ _ rfl _ _ bH bH (XU underlying43 Cv O wr _ _ _ B.o (.slice T (i+j) X) rfl e9 _ zd _ aw _) ?_;rintro t y ⟨d7,d1,h9⟩;have c7:=b7.o _ d1;have h6:=c7.cell;simp only[WM.cells,WM.tV,a7.o] at h6;have j4:=c7.frozen;have d:=Z (c3.o _ _ _ rfl d7 d1 h9);have c6:aa (VRow _ (.slice T (i+j) X) l1):=ze c5.o d.o.fr (fun k e r=>c.o.th.oj c5.o k r e);have f9:=Z (f8.o.fr d.o.fr (c.o.th.oP f8.o EE));have s:=Z d.o.th.tC.vm;rw[show({L1 with vs:=t}:WL).vm=.slice ma a.vm.length mc from a7.o] at s;have h3:aa (∀ Q:World,Fr (fun k=>(Value.slice ma a.vm.length mc).ownBlock=some k) _ Q->Blk Q L.wb ((W.tV {a with vs:=a.vs++[.slice T (i+j) X]}).cells {L1 with vs:=t}) 49):=(fun Q f=>by rw[<- a8.o];exact d.o.th.td.fr f (zh s.o d.o.th.td O));have c4:aa (∀ (v6:Value) (Q:World) (n:Nat),n=a.vm.length+1->Q.ownsRow 0 3 1 v6 n (ZN a.vm++[I m])->Fr (fun k=>(Value.slice ma a.vm.length mc).ownBlock=some k) (y.setCell (Y L.wb 17) t) Q->(∀ k,v6.ownBlock=some k->(Value.slice ma a.vm.length mc).ownBlock=some k\/(y.setCell (Y L.wb 17) t).heap.size<=k)->WStep K {L1 with vs:=t} (y.setCell (Y L.wb 17) t) {L1 with vs:=t,vm:=v6} (W.tV {a with vs:=a.vs++[.slice T (i+j) X],vm:=a.vm++[m]}) (Q.setCell (Y L.wb 18) v6)):=(fun v6 Q n e ho J hn=>by rw[<- a8.o] at J hn |-;rw[<- a7.o] at J hn;have hr:=d.o.th;rw[<- a8.o] at hr;exact Cz (L1:={L1 with vs:=t}) (W1:=W.tV {a with vs:=a.vs++[.slice T (i+j) X]}) (m:=m) hr e ho J hn);obtain⟨j6,j8,rfl⟩:=zf d7)))
 have a0:=c.o.trans (d.o.trans a4.o);have h5:WStep K L N _ _ w8:=a0.qv b5 b4.o (fun k r e=>a0.th.oj S.o k r e) H0.o.low;have h8:N.heap.size<=(Q.setCell (Y L.wb 18) _).heap.size:=a0.fr.size;have i5:=b8.o.fr b5 f1.o.qQ;obtain⟨e1,e2,e3,e4,e5,e6,e7⟩:=HE.o;obtain⟨q1,q2,q3⟩:=HQ.o;have b6:=S.o;unfold VRow at b6;rw[f4.o] at f6;rw[f4.o,q2] at b6;have d0:=Ws.step q3 (d.o.trans a4.o) b6 b4.o b5.size f6 (fun k r e=>a0.th.oj S.o k r e);refine⟨⟨j+1,V,by push_cast;rfl,⟨⟨l1++[Zl m],_,_,ne++[.slice T (i+j) X],i1,fun k e=>(f7 k e).elim (b4.o k) (fun e=>CO h8 e),by rw[CN,CQ,f4.o];omega,h5,?_,?_,e3,e4,e5,e6,e7,⟨?_,?_,?_⟩,?_,d0⟩,i5,f1.o.low,fun e=>(f7 xb e).elim f1.o.qQ (fun e=>by have:=b8.o.lt;omega)⟩⟩,by simp[intOf];omega⟩
 .simp only[CN,CQ];omega
 .simp only[CN,CQ];omega
 .simp only[q1.vs,Be]
 .simp only[q1.vm,Be,xi]
 .rw[CN,CQ,q1.len]
 .rw[q2,<- vR,xi]):p:=h
theorem Ka(h:p:=by
 have HQ:=Z (And.intro q1 (And.intro q2 q3));clear q1 q2 q3;have c5:=Z u;have b4:=Z b1;have f4:=Z a2;have c:=Z b;have HE:=Z (And.intro e1 (And.intro e2 (And.intro e3 (And.intro e4 (And.intro e5 (And.intro e6 e7))))))
 first
  | (clear i7;exact C0)
  | exact DZ):p:=h
theorem Mt(K:Nat->Prop)(L:WL)(W:WM)(lv:Value)(l:List Ver)(N w:World)(h0:WAt K N L W)(f0:Fr Nil N w)(hl:VRow w lv l)(a5:∀ k,lv.ownBlock=some k->N.heap.size<=k)(hn:l.length<100000)(hb:W.base<100000000)(hx:W.next<100000000)(hs:BSmall W.bk) :
 Calls prog 119 #[E L.wb 15,lv] w fun e w'=>e=.returned (.tuple #[])/\∃ L' o ne m,WStep K L N L' (W.tV o) w'/\Booked W.bk o/\L'.ps=L.ps/\(o.ns=W.bk.ns/\o.nm=W.bk.nm/\o.hs=W.bk.hs/\o.hm=W.bk.hm)/\S7 W.bk.vs W.bk.vm o.vs o.vm ne 4 m/\m<1000000000000/\Ws N w' L' 8 (Jr m) (l.length+4) ne:=by
 have HM:=Z (Ua K L W w (h0.nil f0) hb hx);have H0:=Z h0;have F0:=Z f0;have HL:=Z hl;have HN:=Z a5;have i2:aa (∀ k,lv.ownBlock=some k->k<w.heap.size):=fun k e=>zF hl e;have c2:=Z hs;obtain⟨la,lc,rfl⟩:=zf hl;have A:=Z hn;clear h0 f0 hl a5;obtain⟨m,hm⟩:∃ m,m=W.base+W.next+1:=⟨_,rfl⟩;have b0:m<1000000000000:=V
 rw[<- hm] at HM;clear hm hb hx hs;go_enter func119,ntmps119;go_wp2_with fail;refine HM.o.mono ?_;rintro e w1 ⟨rfl,b⟩;have c:=Z b;clear b;go_wp2_with fail;refine(Xw m w1 b0).mono ?_;rintro e w2 ⟨rfl,f2⟩;go_wp2_with fail;have c9:Blk (w2.alloc (.cells (Zl m).cells.toArray 37)) w2.heap.size (Zl m).cells 37:=Blk.new w2 (Zl m).cells _;have f3:Fr Nil w1 (w2.alloc (.cells (Zl m).cells.toArray 37)):=f2.alloc _;have d4:w.heap.size<=w2.heap.size:=CO c.o.fr.size f2.size;simp only[Zl,Ver.cells] at c9 f3;generalize w2.alloc (.cells #[I m,I m,I 0,I 0,I 0,I 0,.string (Zi m),.bool true] 37)=w3 at c9 f3 |-;generalize w2.heap.size=xb at c9 d4 |-;have h4:=Z c9;have i4:aa (N.heap.size<=xb):=CO F0.o.size d4;have b9:aa (¬(Value.slice la l.length lc).ownBlock=some xb):=fun e=>by have:=i2.o xb e;omega
 have a6:aa (WStep K L N L (W.tV W.bk) w3):=(WStep.nil H0.o F0.o).trans (c.o.trans (WStep.nil c.o.th f3));have R:aa (VRow w3 (.slice la l.length lc) l):=ze (ze HL.o c.o.fr (fun k e r=>(H0.o.nil F0.o).oj HL.o k r e)) f3 (fun _ _=>id);generalize d6:l.length=n at R HN A b9 |-;have f5:=Z d6;have hn:n<100000:=A.o;have i3:=Z b0;clear c9 f3 f2 d4 c HL HM d6 i2 b0
 go_loopw [6] (fun t6 w'=>∃ i:Nat,∃ l':List Ver,i<=n/\t6=I i/\l'.length=n/\VRow w' (.slice la n lc) l'/\Fr (fun k=>(Value.slice la n lc).ownBlock=some k) w3 w'/\∀ k (r:k<l'.length),k<i->l'[k]=Zl m) (fun t6 _=>n-(intOf t6).toNat)
 case atStart=>exact⟨0,l,Bg _,rfl,f5.o,R.o,U _ _,fun _ _ h=>absurd h (BF _)⟩
 case round =>
  obtain⟨i,l',hi,rfl,q,hv,J,d5⟩:=hrel;have b3:=Z d5;clear d5;have HV:=Z hv;have HF:=Z J;have M:=Z q;by_cases D:i<n
  .obtain⟨g,rfl⟩:∃ g,la=some (Y g 0):=by
    obtain⟨g,j0,e,_⟩:=zl hv V;simp at e;exact⟨g,e.1⟩
   have hx:=(h4.o.fr J b9.o).cell;have e0:=hv;unfold VRow at e0;rw[q] at e0;have hz:∀ k,wr.frozen? (Y g k)=false:=fun k=>W9 e0 k;have hc:=VRow.cells e0 i bE;obtain⟨x,i6⟩:∃ x,x=l'[i]' bE:=⟨_,rfl⟩;have g0:=hc 0 V;have g1:=hc 1 V;have g2:=hc 2 V;have g3:=hc 3 V;have g4:=hc 4 V;have g5:=hc 5 V;have g6:=hc 6 V;have g7:=hc 7 V;rw[<- i6] at g0 g1 g2 g3 g4 g5 g6 g7;simp only[Ver.cells,AM] at g0 g1 g2 g3 g4 g5 g6 g7;clear hv e0 J q hc i6;go_wp2_with fail;have d9:=HV.o.mC M.o.symm i (by rw[M.o];exact D) (Zl m);refine⟨⟨i+1,l'.set i (Zl m),V,by push_cast;rfl,by rw[xF];exact M.o,d9,?_,fun k r j1=>?_⟩,by simp[intOf];omega⟩
   .have hF:=HF.o
    exact zd
   .exact K9
  .have hin:i=n:=V
   subst hin;have c0:=Z (a6.o.qv HF.o HN.o (fun k r e=>a6.o.th.oj R.o k r e) H0.o.low);have g9:=Z (EH.mk (i:=0) (n:=i) (m:=m) ⟨l',L,W.bk,[],HV.o,HN.o,M.o,c0.o,rfl,rfl,rfl,rfl,rfl,rfl,rfl,⟨bG,bG,rfl⟩,DY l' i m M.o (fun k r=>b3.o k r (by rw[M.o] at r;exact r)),fun v hv=>by cases hv⟩ (h4.o.fr HF.o b9.o) i4.o b9.o);clear hv J q;go_wp2_with fail;clear c0 HV HF M b3 R h4 b9 a6 HN i4 A hi D
   go_loopw [1,7] (fun t1 t7 w'=>∃ j:Nat,j<=4/\t7=I j/\EH K L W N i xb m j t1 w') (fun _ t7 _=>4-(intOf t7).toNat)
   case atStart=>exact⟨0,V,rfl,g9.o⟩
   case round =>
    obtain⟨j,hj,rfl,a9⟩:=hrel;have f1:=Z a9;by_cases D:j<4
    .obtain⟨⟨l1,L1,a,ne,u,b1,a2,b,e1,e2,e3,e4,e5,e6,e7,q1,q2,q3⟩,hbx1,_,_⟩:=a9
     have i7:=0;exact Ka
    .have hj4:j=4:=V
     subst hj4;obtain⟨⟨l1,L1,a,ne,u,b1,a2,b,e1,e2,e3,e4,e5,e6,e7,q1,q2,q3⟩,_,_,_⟩:=a9;have HQ:=Z (And.intro (And.intro e3 (And.intro e4 (And.intro e5 e6))) (And.intro q1 q3));clear q1 q2 q3;have c:=Z b;have HE:aa (Booked W.bk a):=⟨V,V,by rw[e3];omega,by rw[e4];omega,by rw[e5];omega,by rw[e6];omega⟩;exact GW
def T6(m n:Nat):List Value:=List.replicate n (.string (Zi m))
structure EI(K:Nat->Prop)(L:WL)(W:WM)(w0:World)(n m i:Nat)(lv:Value)(w':World):Prop where
 ex:∃ (l':List Value) (L':WL) (bk':BK) (ne:List Value),w'.ownsRow 0 9 1 lv l'.length l'/\(∀ k,lv.ownBlock=some k->w0.heap.size<=k)/\l'.length=n+i/\WStep K L w0 L' (W.tV bk') w'/\bk'.ns.length=W.bk.ns.length+i/\bk'.nm.length=W.bk.nm.length+i/\bk'.vs=W.bk.vs/\bk'.vm=W.bk.vm/\bk'.hs=W.bk.hs/\bk'.hm=W.bk.hm/\L'.ps=L.ps/\S7 W.bk.ns W.bk.nm bk'.ns bk'.nm ne i m/\l'=T6 m (n+i)/\Ws w0 w' L' 1 (T6 m) (n+i) ne
theorem Mu(K:Nat->Prop)(L:WL)(W:WM)(lv:Value)(l:List Value)(N w:World)(h0:WAt K N L W)(f0:Fr Nil N w)(hl:w.ownsRow 0 9 1 lv l.length l)(a5:∀ k,lv.ownBlock=some k->N.heap.size<=k)(hn:l.length<100000000)(hb:W.base<100000000)(hx:W.next<100000000)(hs:BSmall W.bk) :
 Calls prog 120 #[E L.wb 15,lv] w fun e w'=>e=.returned (.tuple #[])/\∃ L' o ne m,WStep K L N L' (W.tV o) w'/\Booked W.bk o/\L'.ps=L.ps/\(o.vs=W.bk.vs/\o.vm=W.bk.vm/\o.hs=W.bk.hs/\o.hm=W.bk.hm)/\S7 W.bk.ns W.bk.nm o.ns o.nm ne 4 m/\m<1000000000000/\Ws N w' L' 1 (T6 m) (l.length+4) ne:=by
 have HM:=Z (Ua K L W w (h0.nil f0) hb hx);have H0:=Z h0;have F0:=Z f0;have HL:=Z hl;have HN:=Z a5;have c2:=Z hs;obtain⟨la,lc,rfl⟩:=zf hl;have A:=Z hn;clear h0 f0 hl a5;obtain⟨m,hm⟩:∃ m,m=W.base+W.next+1:=⟨_,rfl⟩;have b0:m<1000000000000:=V
 rw[<- hm] at HM;clear hm hb hx hs;go_enter func120,ntmps120;go_wp2_with fail;refine HM.o.mono ?_;rintro e w1 ⟨rfl,b⟩;have c:=Z b;clear b;go_wp2_with fail;refine(Xw m w1 b0).mono ?_;rintro e w3 ⟨rfl,f3⟩;have a6:aa (WStep K L N L (W.tV W.bk) w3):=(WStep.nil H0.o F0.o).trans (c.o.trans (WStep.nil c.o.th f3));have R:aa (w3.ownsRow 0 9 1 (.slice la l.length lc) l.length l):=ze (ze HL.o c.o.fr (fun k e r=>(H0.o.nil F0.o).qO HL.o Tl k r e)) f3 (fun _ _=>id);generalize d6:l.length=n at R HN A |-;have f5:=Z d6;have hn:n<100000000:=A.o;have i3:=Z b0;clear f3 c HL HM d6 b0;go_wp2_with fail
 go_loopw [6] (fun t6 w'=>∃ i:Nat,∃ l':List Value,i<=n/\t6=I i/\l'.length=n/\w'.ownsRow 0 9 1 (.slice la n lc) n l'/\Fr (fun k=>(Value.slice la n lc).ownBlock=some k) w3 w'/\∀ k (r:k<l'.length),k<i->l'[k]=.string (Zi m)) (fun t6 _=>n-(intOf t6).toNat)
 case atStart=>exact⟨0,l,Bg _,rfl,f5.o,R.o,U _ _,fun _ _ h=>absurd h (BF _)⟩
 case round =>
  obtain⟨i,l',hi,rfl,q,hv,J,d5⟩:=hrel;have b3:=Z d5;clear d5;have HV:=Z hv;have HF:=Z J;have M:=Z q;by_cases D:i<n
  .obtain⟨g,rfl⟩:∃ g,la=some (Y g 0):=by
    obtain⟨g,j0,e,_⟩:=zl hv V;simp at e;exact⟨g,e.1⟩
   have hz:∀ k,wr.frozen? (Y g k)=false:=fun k=>W9 hv k;have hc:wr.cell? (Y g i)=some (l'[i]' bE):=own_cell? hv i _ (by simp[q,D]);generalize l'[i]' bE=x at hc;clear hv J q;go_wp2_with fail;have d9:=Y5 HV.o i (.string (Zi m));have hF:=HF.o;refine⟨⟨i+1,_,V,by push_cast;rfl,by rw[xF];exact M.o,d9,zd,fun k r j1=>?_⟩,by simp[intOf];omega⟩;exact K9
  .have hin:i=n:=V
   subst hin;have c0:=Z (a6.o.qv HF.o HN.o (fun k r e=>a6.o.th.qO R.o Tl k r e) H0.o.low);have g9:aa (EI K L W N i m 0 (.slice la i lc) wr):=⟨⟨l',L,W.bk,[],by rw[q];exact HV.o,HN.o,by rw[q];rfl,c0.o,rfl,rfl,rfl,rfl,rfl,rfl,rfl,⟨bG,bG,rfl⟩,xt (by rw[q];simp[T6]) (fun k h1 h2=>by rw[b3.o k h1 (by rw[q] at h1;exact h1)];simp[T6]),fun v hv=>by cases hv⟩⟩;clear hv J q;go_wp2_with fail;clear c0 HV HF M b3 R a6 HN A hi D
   go_loopw [1,7] (fun t1 t7 w'=>∃ j:Nat,j<=4/\t7=I j/\EI K L W N i m j t1 w') (fun _ t7 _=>4-(intOf t7).toNat)
   case atStart=>exact⟨0,V,rfl,g9.o⟩
   case round =>
    obtain⟨j,hj,rfl,a9⟩:=hrel;have f1:=Z a9;by_cases D:j<4
    .obtain⟨⟨l1,L1,a,ne,u,b1,a2,b,e1,e2,e3,e4,e5,e6,e7,q1,q2,q3⟩⟩:=a9
     exact Ka
    .have hj4:j=4:=V
     subst hj4;obtain⟨⟨l1,L1,a,ne,u,b1,a2,b,e1,e2,e3,e4,e5,e6,e7,q1,q2,q3⟩⟩:=a9;have HQ:=Z (And.intro (And.intro e3 (And.intro e4 (And.intro e5 e6))) (And.intro q1 q3));clear q1 q2 q3;have c:=Z b;have HE:aa (Booked W.bk a):=⟨by rw[e3];omega,by rw[e4];omega,V,V,by rw[e5];omega,by rw[e6];omega⟩;exact GW
def Vt(m:Nat):Nat->List Value
 | 0=>[]
 | n+1=>Vt m n++[I m,.string (Zi m)]
theorem XP(m:Nat):∀ n,(Vt m n).length=n*2
 | 0=>rfl
 | n+1=>by rw[Vt,CN,XP m n];simp;omega
theorem Tm(m:Nat):∀ n k,k<n->(Vt m n)[k*2]?=some (I m)/\(Vt m n)[k*2+1]?=some (.string (Zi m))
 | 0,k,h=>absurd h (BF _)
 | n+1,k,h=>by
  rw[Vt];rcases Az k n with a|a
  .rw[Aq bg,Aq bg]
   exact Tm m n k a
  .obtain rfl:k=n:=V
   rw[AJ bg,AJ bg,XP];simp
theorem C1(m n:Nat)(l:List Value)(c:l.length=n*2)(h:∀ k,k<n->l[k*2]?=some (I m)/\l[k*2+1]?=some (.string (Zi m))):l=Vt m (n+0):=by
 rw[AM];refine List.ext_getElem? (fun j=>?_);rcases Az j (n*2) with b|b
 .have h1:=h (j / 2) V
  have a:=Tm m n (j / 2) V;rcases Nat.mod_two_eq_zero_or_one j with e|e
  .have e1:j / 2*2=j:=V
   rw[e1] at h1 a;rw[h1.1,a.1]
  .have e1:j / 2*2+1=j:=V
   rw[e1] at h1 a;rw[h1.2,a.2]
 .rw[xI V,xI bg]
structure EJ(K:Nat->Prop)(L:WL)(W:WM)(w0:World)(n xb m i:Nat)(lv:Value)(w':World):Prop where
 ex:∃ (l':List Value) (L':WL) (bk':BK) (ne:List Value),w'.ownsRow 0 75 2 lv (n+i) l'/\(∀ k,lv.ownBlock=some k->w0.heap.size<=k)/\WStep K L w0 L' (W.tV bk') w'/\bk'.hs.length=W.bk.hs.length+i/\bk'.hm.length=W.bk.hm.length+i/\bk'.vs=W.bk.vs/\bk'.vm=W.bk.vm/\bk'.ns=W.bk.ns/\bk'.nm=W.bk.nm/\L'.ps=L.ps/\S7 W.bk.hs W.bk.hm bk'.hs bk'.hm ne i m/\l'=Vt m (n+i)/\Ws w0 w' L' 2 (Vt m) (n+i) ne
 box:Blk w' xb [I m,.string (Zi m)] 75
 qQ:¬lv.ownBlock=some xb
theorem Mv(K:Nat->Prop)(L:WL)(W:WM)(lv:Value)(l:List (Nat × ByteArray))(M w:World)(h0:WAt K M L W)(f0:Fr Nil M w)(hl:w.ownsRow 0 75 2 lv l.length (zI l))(a8:∀ k,lv.ownBlock=some k->M.heap.size<=k)(hn:l.length<100000000)(hb:W.base<100000000)(hx:W.next<100000000)(hs:BSmall W.bk) :
 Calls prog 122 #[E L.wb 15,lv] w fun e w'=>e=.returned (.tuple #[])/\∃ L' o ne m,WStep K L M L' (W.tV o) w'/\Booked W.bk o/\L'.ps=L.ps/\(o.vs=W.bk.vs/\o.vm=W.bk.vm/\o.ns=W.bk.ns/\o.nm=W.bk.nm)/\S7 W.bk.hs W.bk.hm o.hs o.hm ne 4 m/\m<1000000000000/\Ws M w' L' 2 (Vt m) (l.length+4) ne:=by
 have HM:=Z (Ua K L W w (h0.nil f0) hb hx);have H0:=Z h0;have F0:=Z f0;have HL:=Z hl;have HN:=Z a8;have c4:=Z hs;have c2:aa (∀ k,lv.ownBlock=some k->k<w.heap.size):=fun k e=>zF hl e;obtain⟨la,lc,rfl⟩:=zf hl;have t:=Z hn;clear h0 f0 hl a8;obtain⟨m,hm⟩:∃ m,m=W.base+W.next+1:=⟨_,rfl⟩;have b7:m<1000000000000:=V
 rw[<- hm] at HM;clear hm hb hx hs;go_enter func122,ntmps122;go_wp2_with fail;refine HM.o.mono ?_;rintro e w1 ⟨rfl,b⟩;have c:=Z b;clear b;go_wp2_with fail;refine(Xw m w1 b7).mono ?_;rintro e w2 ⟨rfl,f2⟩;go_wp2_with fail;have a2:Blk (w2.alloc (.cells #[I m,.string (Zi m)] 75)) w2.heap.size [I m,.string (Zi m)] 75:=Blk.new w2 [I m,.string (Zi m)] _;have f3:Fr Nil w1 (w2.alloc (.cells #[I m,.string (Zi m)] 75)):=f2.alloc _;have a7:w.heap.size<=w2.heap.size:=CO c.o.fr.size f2.size;generalize w2.alloc (.cells #[I m,.string (Zi m)] 75)=w3 at a2 f3 |-;generalize w2.heap.size=xb at a2 a7 |-;have a9:=Z a2;have u:aa (¬(Value.slice la l.length lc).ownBlock=some xb):=fun e=>by have:=c2.o xb e;omega
 have b2:aa (WStep K L M L (W.tV W.bk) w3):=(WStep.nil H0.o F0.o).trans (c.o.trans (WStep.nil c.o.th f3));have R:aa (w3.ownsRow 0 75 2 (.slice la l.length lc) l.length (zI l)):=ze (ze HL.o c.o.fr (fun k e B=>(H0.o.nil F0.o).qO HL.o VH k B e)) f3 (fun _ _=>id);generalize d9:l.length=n at R HN t u |-;have f9:=Z d9;have f8:=Z b7;have hn:n<100000000:=t.o;clear a2 f3 f2 a7 c HL HM b7 c2 d9
 go_loopw [6] (fun t6 w'=>∃ i:Nat,∃ G:List Value,i<=n/\t6=I i/\w'.ownsRow 0 75 2 (.slice la n lc) n G/\Fr (fun k=>(Value.slice la n lc).ownBlock=some k) w3 w'/\∀ k,k<i->G[k*2]?=some (I m)/\G[k*2+1]?=some (.string (Zi m))) (fun t6 _=>n-(intOf t6).toNat)
 case atStart=>exact⟨0,zI l,Bg _,rfl,R.o,U _ _,fun _ h=>absurd h (BF _)⟩
 case round =>
  obtain⟨i,G,hi,rfl,J,A,d7⟩:=hrel;have b0:=Z d7;clear d7;have HV:=Z J;have HF:=Z A;by_cases d6:i<n
  .obtain⟨g,rfl⟩:∃ g,la=some (Y g 0):=by
    obtain⟨g,h6,e,_⟩:=zl J V;simp at e;exact⟨g,e.1⟩
   have hz:∀ k,wr.frozen? (Y g k)=false:=fun k=>W9 J k;have g8:G.length=n*2:=J.1;have g2:wr.cell? (Y g (i*2))=some (G[i*2]' V):=own_cell? J (i*2) _ (CS V);have g3:wr.cell? (Y g (i*2+1))=some (G[i*2+1]' V):=own_cell? J (i*2+1) _ (CS V);have hx:=(a9.o.fr A u.o).cell;generalize G[i*2]' V=x0 at g2;generalize G[i*2+1]' V=x1 at g3;clear J A g8;go_wp2_with fail;have e9:=Y5 (Y5 HV.o (i*2) (I m)) (i*2+1) (.string (Zi m));have hF:=HF.o;refine⟨⟨i+1,_,V,by push_cast;rfl,e9,zd,fun k h7=>?_⟩,by simp[intOf];omega⟩;have h4:=HV.o.1;rcases Az k i with h1|h1
   .rw[xj V,xj V,xj V,xj V]
    exact b0.o k h1
   .obtain rfl:k=i:=V
    rw[xj V];exact⟨by rw[List.getElem?_set_self V],by rw[List.getElem?_set_self (by rw[xF];omega)]⟩
  .have hin:i=n:=V
   subst hin;have c3:=Z (b2.o.qv HF.o HN.o (fun k B e=>b2.o.th.qO R.o VH k B e) H0.o.low);have f6:aa (EJ K L W M i xb m 0 (.slice la i lc) wr):=⟨⟨G,L,W.bk,[],HV.o,HN.o,c3.o,rfl,rfl,rfl,rfl,rfl,rfl,rfl,⟨bG,bG,rfl⟩,C1 m i G HV.o.1 b0.o,fun v J=>by cases J⟩,a9.o.fr HF.o u.o,u.o⟩;clear J A;go_wp2_with fail;clear c3 HV HF b0 R b2 HN t a9 u hi d6
   go_loopw [1,7] (fun t1 t7 w'=>∃ j:Nat,j<=4/\t7=I j/\EJ K L W M i xb m j t1 w') (fun _ t7 _=>4-(intOf t7).toNat)
   case atStart=>exact⟨0,V,rfl,f6.o⟩
   case round =>
    obtain⟨j,hj,rfl,b5⟩:=hrel;have c0:=Z b5;by_cases d6:j<4
    .obtain⟨⟨l1,L1,a,ne,C,a3,b,e1,e2,e3,e4,e5,e6,e7,q1,q2,q3⟩,hbx1,hnb1⟩:=b5
     have HQ:=Z (And.intro q1 (And.intro q2 q3));clear q1 q2 q3;have c7:=Z C;have b1:=Z a3;have a5:=Z hbx1;have h8:=hbx1.cell;have c:=Z b;have HE:=Z (And.intro e1 (And.intro e2 (And.intro e3 (And.intro e4 (And.intro e5 (And.intro e6 e7))))));have d5:i+j<1000000000:=V
     obtain⟨T,X,rfl⟩:=zf C;have a4:=b.wb;have y:=b.th.td;rw[a4] at y;obtain⟨va,vc,D⟩:∃ va vc,L1.hs=.slice va a.hs.length vc:=zf b.th.tC.hs;obtain⟨ma,mc,b8⟩:∃ ma mc,L1.hm=.slice ma a.hm.length mc:=zf b.th.tC.hm;have f5:a.hs.length<1000000000:=by have:=c4.o.hs;omega
     have f4:a.hm.length<1000000000:=by have:=c4.o.hm;omega
     have hc:=y.cell;simp only[WM.cells,WM.tV,D,b8] at hc;have x:=Z b.th.tC.hs;have b4:=Z a4;have h5:=Z D;have b3:=Z b8;rw[D] at x;have b9:aa (∀ r:World,Fr (fun k=>(Value.slice va a.hs.length vc).ownBlock=some k) wr r->Blk r L.wb ((W.tV a).cells L1) 49):=fun r f=>y.fr f (zh x.o y O);have c5:aa (∀ (q:Value) (r:World) (n:Nat),n=a.hs.length+1->r.ownsRow 0 66 1 q n (a.hs++[.slice T (i+j) X])->Fr (fun k=>(Value.slice va a.hs.length vc).ownBlock=some k) wr r->(∀ k,q.ownBlock=some k->(Value.slice va a.hs.length vc).ownBlock=some k\/wr.heap.size<=k) ->
      WStep K L1 wr {L1 with hs:=q} (W.tV {a with hs:=a.hs++[.slice T (i+j) X]}) (r.setCell (Y L.wb 21) q)):=fun q r n e ho A hn=>by rw[<- a4];rw[<- D] at A hn;exact CG c.o.th e ho A hn
     clear C a3 b e1 e2 e3 e4 e5 e6 e7 a4 D b8 y hbx1 hnb1
     go_wp2_with (at_builtin;(first
      | (refine zm rfl _ _ _ _ rfl _ _ bH bH (P9 _ _ _ _ S.o m (Zi m) d5 _ zd _ (by exact Blk.qC _ [_,_] _ _ aK) _) ?_;rintro v8 w8 ⟨⟨h3,b6,d8⟩,g6⟩)
      | (refine zm rfl _ _ _ _ rfl _ _ bH bH (XU xf Te O _ _ _ _ p.o (I m) rfl f4 _ zd _ ax _) ?_;rintro v6 N ⟨e8,d4,h2⟩;have d0:=f7.o _ d4;have g5:=d0.cell;simp only[WM.cells,WM.tV] at g5;have i1:=d0.frozen;have Q:=Z (c6.o _ _ _ rfl e8 d4 h2);have s:=Z (a6.o.fr Q.o.fr (d.o.th.oP a6.o VH));have h9:=s.o.cell;have S:aa (World.ownsRow _ 0 75 2 (.slice T (i+j) X) (i+j) l1):=ze c8.o Q.o.fr (fun k e B=>d.o.th.qO c8.o VH k B e);obtain⟨i3,i5,rfl⟩:=zf e8)
      | (refine zm rfl _ _ _ _ rfl _ _ bH bH (XU underlying45 Cx O wr _ _ _ x.o (.slice T (i+j) X) rfl f5 _ zd _ aw _) ?_;rintro q r ⟨e0,d3,g9⟩;have c9:=b9.o _ d3;have g4:=c9.cell;simp only[WM.cells,WM.tV,b3.o] at g4;have i0:=c9.frozen;have d:=Z (c5.o _ _ _ rfl e0 d3 g9);have a6:=Z (a5.o.fr d.o.fr (c.o.th.oP a5.o VH));have c8:aa (World.ownsRow _ 0 75 2 (.slice T (i+j) X) (i+j) l1):=ze c7.o d.o.fr (fun k e B=>c.o.th.qO c7.o VH k B e);have p:=Z d.o.th.tC.hm;rw[show({L1 with hs:=q}:WL).hm=.slice ma a.hm.length mc from b3.o] at p;have f7:aa (∀ N:World,Fr (fun k=>(Value.slice ma a.hm.length mc).ownBlock=some k) _ N->Blk N L.wb ((W.tV {a with hs:=a.hs++[.slice T (i+j) X]}).cells {L1 with hs:=q}) 49):=(fun N f=>by rw[<- b4.o];exact d.o.th.td.fr f (zh p.o d.o.th.td O));have c6:aa (∀ (v6:Value) (N:World) (n:Nat),n=a.hm.length+1->N.ownsRow 0 3 1 v6 n (ZN a.hm++[I m])->Fr (fun k=>(Value.slice ma a.hm.length mc).ownBlock=some k) (r.setCell (Y L.wb 21) q) N->(∀ k,v6.ownBlock=some k->(Value.slice ma a.hm.length mc).ownBlock=some k\/(r.setCell (Y L.wb 21) q).heap.size<=k)->WStep K {L1 with hs:=q} (r.setCell (Y L.wb 21) q) {L1 with hs:=q,hm:=v6} (W.tV {a with hs:=a.hs++[.slice T (i+j) X],hm:=a.hm++[m]}) (N.setCell (Y L.wb 22) v6)):=(fun v6 N n e ho A hn=>by rw[<- b4.o] at A hn |-;rw[<- b3.o] at A hn;have hr:=d.o.th;rw[<- b4.o] at hr;exact CH (L1:={L1 with hs:=q}) (W1:=W.tV {a with hs:=a.hs++[.slice T (i+j) X]}) (m:=m) hr e ho A hn);obtain⟨i2,i4,rfl⟩:=zf e0)))
     have a0:=c.o.trans (d.o.trans Q.o);have g1:WStep K L M _ _ w8:=a0.qv b6 b1.o (fun k B e=>a0.th.qO S.o VH k B e) H0.o.low;have g7:M.heap.size<=(N.setCell (Y L.wb 22) _).heap.size:=a0.fr.size;obtain⟨e1,e2,e3,e4,e5,e6,e7⟩:=HE.o;have d1:=s.o.fr b6 c0.o.qQ;obtain⟨q1,q2,q3⟩:=HQ.o;have f1:=S.o;rw[q2] at f1;have d2:=Ws.step q3 (d.o.trans Q.o) f1 b1.o b6.size g6 (fun k B e=>a0.th.qO S.o VH k B e);refine⟨⟨j+1,V,by push_cast;rfl,⟨⟨l1++[I m,.string (Zi m)],_,_,ne++[.slice T (i+j) X],h3,fun k e=>(d8 k e).elim (b1.o k) (fun e=>CO g7 e),g1,?_,?_,e3,e4,e5,e6,e7,⟨?_,?_,?_⟩,?_,d2⟩,d1,fun e=>(d8 xb e).elim c0.o.qQ (fun e=>by have:=s.o.lt;omega)⟩⟩,by simp[intOf];omega⟩
     .simp only[CN,CQ];omega
     .simp only[CN,CQ];omega
     .simp only[q1.vs,Be]
     .simp only[q1.vm,Be,xi]
     .rw[CN,CQ,q1.len]
     .rw[q2,<- vR];rfl
    .have hj4:j=4:=V
     subst hj4;obtain⟨⟨l1,L1,a,ne,C,a3,b,e1,e2,e3,e4,e5,e6,e7,q1,q2,q3⟩,_,_⟩:=b5;have HQ:=Z (And.intro (And.intro e3 (And.intro e4 (And.intro e5 e6))) (And.intro q1 q3));clear q1 q2 q3;have c:=Z b;have HE:aa (Booked W.bk a):=⟨by rw[e3];omega,by rw[e4];omega,by rw[e5];omega,by rw[e6];omega,V,V⟩;have g0:=Z e7;clear C a3 b e1 e2 e3 e4 e5 e6 e7;go_wp2_with fail;exact Aw (v:=.tuple #[]) af rfl ⟨rfl,L1,a,ne,m,c.o,HE.o,g0.o,HQ.o.1,HQ.o.2.1,f8.o,by rw[f9.o];exact HQ.o.2.2⟩
end Go.Proofs.YtkhnggkkiefcdaaGreatDoor
