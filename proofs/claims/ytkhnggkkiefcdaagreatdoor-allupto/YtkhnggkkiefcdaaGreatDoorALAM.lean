/- larder: joined texts -/
import Derived.Test.YtkhnggkkiefcdaaGreatDoorALAL
namespace Go.Proofs.YtkhnggkkiefcdaaGreatDoor
open Go.RowKit Proofs.Tryz
set_option maxRecDepth 100000
set_option maxHeartbeats 8000000
structure WL where
 wb:Nat
 db:Nat
 nv:Value
 sv:Value
 tv:Value
 ps:List Nat
 vs:Value
 vm:Value
 ns:Value
 nm:Value
 hs:Value
 hm:Value
structure BK where
 vs:List Value
 vm:List Nat
 ns:List Value
 nm:List Nat
 hs:List Value
 hm:List Nat
structure WM where
 node:Int
 room:Int
 nj:Int
 tY:Int
 rZ:Bool
 tq:Bool
 tH:Int
 tf:Nat
 uS:Nat
 tM:Nat
 sD:Int
 base:Nat
 next:Nat
 st:List LM
 bk:BK
variable{S K:Nat->Prop}{w w':World}{L:WL}{B k:Nat}{W:WM}{N:NM}{M:DM}{p:Prop}{X:NL}
def WM.cells(L:WL)(W:WM):List Value :=
 [I W.node,I W.room,I W.nj,I W.tY,E L.db 0,L.nv,L.sv,.bool W.rZ,.bool W.tq,I W.tH,I W.tf,I W.uS,I W.tM,I W.sD,L.tv,I W.base,I W.next,L.vs,L.vm,L.ns,L.nm,L.hs,L.hm]
def Y6(l:List Nat):List Value:=l.map fun p=>E p 0
def ZN(l:List Nat):List Value:=l.map fun(x:Nat)=>I (x:Int)
def Yi(m:Nat):UInt8:=UInt8.ofNat (97+m%16)
def Zi(m:Nat):ByteArray:=⟨#[35,Yi m,Yi (m / 16),Yi (m / 16 / 16),Yi (m / 16 / 16 / 16),Yi (m / 16 / 16 / 16 / 16),Yi (m / 16 / 16 / 16 / 16 / 16)]⟩
def Zl(m:Nat):Ver:=⟨m,m,0,0,0,0,Zi m,true⟩
def WFoot(L:WL)(k:Nat):Prop:=k=L.wb\/L.sv.ownBlock=some k\/L.vs.ownBlock=some k\/L.vm.ownBlock=some k\/L.ns.ownBlock=some k\/L.nm.ownBlock=some k\/L.hs.ownBlock=some k\/L.hm.ownBlock=some k
structure BAt(w:World)(L:WL)(B:BK):Prop where
 vs:w.ownsRow 0 61 1 L.vs B.vs.length B.vs
 vm:w.ownsRow 0 3 1 L.vm B.vm.length (ZN B.vm)
 ns:w.ownsRow 0 91 1 L.ns B.ns.length B.ns
 nm:w.ownsRow 0 3 1 L.nm B.nm.length (ZN B.nm)
 hs:w.ownsRow 0 66 1 L.hs B.hs.length B.hs
 hm:w.ownsRow 0 3 1 L.hm B.hm.length (ZN B.hm)
 s1:∀ k,L.vm.ownBlock=some k->L.nm.ownBlock≠some k/\L.hm.ownBlock≠some k
 s2:∀ k,L.nm.ownBlock=some k->L.hm.ownBlock≠some k
structure WAt(K:Nat->Prop)(w:World)(L:WL)(W:WM):Prop where
 td:Blk w L.wb (W.cells L) 49
 rY:w.ownsRow 0 104 1 L.sv L.ps.length (Y6 L.ps)
 qB:L.ps.length=W.st.length
 qY:∀ i (h1:i<L.ps.length) (h2:i<W.st.length),MRep K w L.ps[i] W.st[i]
 tC:BAt w L W.bk
 tW:∀ k,K k->k<w.heap.size/\¬WFoot L k
theorem BAt.fr{B:BK}(h:BAt w L B)(f:Fr S w w')(c:∀ k,WFoot L k->¬S k):BAt w' L B where
 vs:=ze h.vs f (fun k e=>c k (.inr (.inr (.inl e))))
 vm:=ze h.vm f (fun k e=>c k (.inr (.inr (.inr (.inl e)))))
 ns:=ze h.ns f (fun k e=>c k (.inr (.inr (.inr (.inr (.inl e))))))
 nm:=ze h.nm f (fun k e=>c k (.inr (.inr (.inr (.inr (.inr (.inl e)))))))
 hs:=ze h.hs f (fun k e=>c k (.inr (.inr (.inr (.inr (.inr (.inr (.inl e))))))))
 hm:=ze h.hm f (fun k e=>c k (.inr (.inr (.inr (.inr (.inr (.inr (.inr e))))))))
 s1:=h.s1
 s2:=h.s2
theorem WAt.fr(h:WAt K w L W)(f:Fr S w w')(c:∀ k,WFoot L k->¬S k)(r:∀ k,K k->¬S k):WAt K w' L W where
 td:=h.td.fr f (c _ (.inl rfl))
 rY:=ze h.rY f (fun k e=>c k (.inr (.inl e)))
 qB:=h.qB
 qY:=fun i g o=>(h.qY i g o).tW (zR.rv f (fun k e=>⟨(h.tW k e).1,r k e⟩)) (fun _ e=>e)
 tC:=h.tC.fr f c
 tW:=fun k e=>⟨Bv (h.tW k e).1 f.size,(h.tW k e).2⟩
theorem WAt.nil{c:World}(h:WAt K w L W)(f:Fr Nil w c):WAt K c L W:=h.fr f (fun _ _=>id) (fun _ _=>id)
theorem WAt.lt(h:WAt K w L W):∀ k,WFoot L k->k<w.heap.size:=by
 intro k c;rcases c with rfl|e|e|e|e|e|e|e
 .exact h.td.lt
 .exact zF h.rY e
 .exact zF h.tC.vs e
 .exact zF h.tC.vm e
 .exact zF h.tC.ns e
 .exact zF h.tC.nm e
 .exact zF h.tC.hs e
 .exact zF h.tC.hm e
theorem WAt.tU{c:Nat->Prop}(h:WAt K w L W)(d:∀ k,K k->c k)(e:∀ k,c k->k<w.heap.size/\¬WFoot L k):WAt c w L W :=
 ⟨h.td,h.rY,h.qB,fun i a b=>(h.qY i a b).mono d,h.tC,e⟩
theorem WAt.gr{b:World}(h:WAt K w L W)(f:Fr Nil w b):WAt (KGr K w b) b L W :=
 (h.nil f).tU (fun _ e=>.inl e) (fun k e=>e.elim (fun e=>⟨Bv (h.tW k e).1 f.size,(h.tW k e).2⟩) (fun e=>⟨e.2,fun c=>by have:=h.lt k c;omega⟩))
def WTy(t:TypeId):Prop:=t=49\/t=104\/t=61\/t=3\/t=91\/t=66
theorem WAt.ty(h:WAt K w L W)(a:WFoot L k):∃ t,Ty w k t/\WTy t:=by
 rcases a with rfl|e|e|e|e|e|e|e
 .exact⟨_,h.td.ty,.inl rfl⟩
 .exact⟨_,zr h.rY e,.inr (.inl rfl)⟩
 .exact⟨_,zr h.tC.vs e,.inr (.inr (.inl rfl))⟩
 .exact⟨_,zr h.tC.vm e,.inr (.inr (.inr (.inl rfl)))⟩
 .exact⟨_,zr h.tC.ns e,.inr (.inr (.inr (.inr (.inl rfl))))⟩
 .exact⟨_,zr h.tC.nm e,.inr (.inr (.inr (.inl rfl)))⟩
 .exact⟨_,zr h.tC.hs e,.inr (.inr (.inr (.inr (.inr rfl))))⟩
 .exact⟨_,zr h.tC.hm e,.inr (.inr (.inr (.inl rfl)))⟩
theorem WAt.node(h:WAt K w L W){b:NL}(e:NRep w b N M)(d:WFoot L k):¬NFoot b M k:=by
 obtain⟨t,f,c⟩:=h.ty d;refine e.apart f ?_ ?_ ?_ ?_ ?_ ?_ ?_
 all_goals (unfold WTy at c;rcases c with rfl|rfl|rfl|rfl|rfl|rfl <;> (try unfold DTy) <;> decide)
theorem WAt.sf(h:WAt K w L W){b:Nat}{a:DL}(e:DRep w b a M)(d:WFoot L k):¬Foot b a M k:=by
 obtain⟨t,f,c⟩:=h.ty d;refine e.apart f ?_;unfold WTy at c;rcases c with rfl|rfl|rfl|rfl|rfl|rfl <;> unfold DTy <;> decide
theorem WAt.step(h:WAt K w L W){a b:NL}{g i:NM}{c d:DM}(o:NRep w a g c)(hs:NStep a c w b i d w')(f:∀ k,K k->¬NFoot a c k) :
 WAt K w' L W/\(∀ k,K k->¬NFoot b d k) :=
 ⟨h.fr hs.fr (fun _ e=>h.node o e) f,fun k e j=>(hs.sd k j).elim (f k e) (fun l=>by have:=(h.tW k e).1;omega)⟩
theorem Hs(l:List Nat)(i:Nat)(h:i<l.length):(Y6 l)[i]?=some (E (l[i]) 0):=by simp[Y6,h]
theorem ZD(K:Nat->Prop)(L:WL)(W:WM)(w:World)(h:WAt K w L W)(i:0<L.ps.length)(k:L.ps.length<1000000000000) :
 Calls prog 107 #[E L.wb 0] w fun e l=>e=.returned (E (L.ps[L.ps.length-1]) 0)/\∃ n,l=w.drewN n:=by
 obtain⟨g,c,a,_,_⟩:=zl h.rY i;have b:w.cell? (Y L.wb 6)=some (.slice (some (Y g 0)) L.ps.length c):=by rw[<- a];exact h.td.cell 6
 have hs:=h.rY;rw[a] at hs;have f:=own_cell? hs (L.ps.length-1) _ (Hs L.ps (L.ps.length-1) V);have j:IntKind.i64.wrap ((L.ps.length:Int)-1)=((L.ps.length-1:Nat):Int):=by rw[Bu];omega
 have d:L.ps.length-1<L.ps.length:=V
 generalize L.ps[L.ps.length-1]=q at f |-;generalize hm:L.ps.length-1=m at f j d |-;generalize L.ps.length=n at b j d i k;clear h hs a hm;go_enter func107,ntmps107;go_wp2_with fail
 go_quiet (fail)
 go_wp2
 go_ret;exact⟨rfl,_,rfl⟩
theorem SG(c:Int)(w:World) :
 Calls prog 51 #[I c] w fun e a=>e=.returned (I (if c<0 then 1152921504606846976 else c))/\a=w:=by
 by_cases h:c<0
 .go_enter func51,ntmps51
  go_wp2
  go_ret;exact⟨rfl,rfl⟩
 .go_enter func51,ntmps51
  go_wp2
  go_ret;exact⟨rfl,rfl⟩
theorem U0(h:p:=by
 have a:=Z (show Zn n s y=false by unfold Zn zM;simp;omega);go_enter func55,ntmps55
 go_wp2
 go_ret;exact⟨by rw[a.o];rfl,b⟩):p:=h
theorem O2(n s y:Int)(w:World) :
 Calls prog 55 #[.agg #[I n,I s,I y]] w fun e c=>e=.returned (.bool (Zn n s y))/\Fr Nil w c:=by
 have b:Fr Nil w (w.alloc (.cells #[I n,I s,I y] 102)):=(U _ _).alloc _;by_cases d:0<=n
 .by_cases h1:n<4
  .by_cases h2:1000<=s
   .by_cases h3:s<=1000000
    .by_cases h4:0<=y
     .by_cases h5:y<=100
      .have a:=Z (show Zn n s y=true by unfold Zn zM;simp;omega)
       go_enter func55,ntmps55
       go_wp2
       go_ret;exact⟨by rw[a.o];rfl,b⟩
      .exact U0
     .exact U0
    .exact U0
   .exact U0
  .exact U0
 .exact U0
theorem zE(w:World)(b:Nat)(L:DL)(M:DM)(h:DRep w b L M) :
 Calls prog 57 #[E b 0] w fun e c=>e=.returned (I M.uS)/\c=w:=by
 have a:=h.td.cell;simp only[DM.cells] at a;clear h;go_enter func57,ntmps57
 go_wp2
 go_ret;exact⟨rfl,rfl⟩
theorem Ht(h:p:=by
 clear c h2;go_enter func105,ntmps105
 go_wp2_with (refine i.o.mono ?_;rintro x m ⟨rfl,k⟩;subst m)
 go_ret;exact⟨by rw[d.o];rfl,rfl⟩):p:=h
theorem Zd(K:Nat->Prop)(L:WL)(W:WM)(f:DL)(M:DM)(e b a:Int)(w:World)(h:WAt K w L W)(g:DRep w L.db f M) :
 Calls prog 105 #[E L.wb 0,I e,I b,I a] w fun r l=>r=.returned (.bool (decide (e=b/\M.uS=a)))/\l=w:=by
 have o:w.cell? (Y L.wb 4)=some (E L.db 0):=h.td.cell 4;have i:=Z (zE w L.db f M g);clear h g;by_cases c:e=b
 .by_cases h2:M.uS=a
  .have e1:(e==b)=true:=by simp[c]
   have j:(M.uS==a)=true:=by simp[h2]
   have d:=Z (show decide (e=b/\M.uS=a)=true by simp[c,h2]);exact Ht
  .have e1:(e==b)=true:=by simp[c]
   have j:(M.uS==a)=false:=by simp[h2]
   have d:=Z (show decide (e=b/\M.uS=a)=false by simp[h2]);exact Ht
 .have e1:(e==b)=false:=by simp[c]
  have d:=Z (show decide (e=b/\M.uS=a)=false by simp[c]);clear c;go_enter func105,ntmps105
  go_wp2
  go_ret;exact⟨by rw[d.o];rfl,rfl⟩
structure WStep(K:Nat->Prop)(L:WL)(w:World)(L':WL)(W':WM)(w':World):Prop where
 th:WAt K w' L' W'
 fr:Fr (WFoot L) w w'
 sd:∀ k,WFoot L' k->WFoot L k\/w.heap.size<=k
 wb:L'.wb=L.wb
 db:L'.db=L.db
 nv:L'.nv=L.nv
 tv:L'.tv=L.tv:=by rfl
theorem WStep.nil{c:World}(h:WAt K w L W)(f:Fr Nil w c):WStep K L w L W c:=⟨h.nil f,f.mono (fun _ _ e=>absurd e id),fun _ e=>.inl e,rfl,rfl,rfl,rfl⟩
theorem WStep.trans{L1 c g:WL}{t o:WM}{r w2 s:World}(h:WStep K L1 r c t w2)(k:WStep K c w2 g o s):WStep K L1 r g o s :=
 ⟨k.th,h.fr.tk k.fr (fun i x e=>(h.sd i e).resolve_right V),fun i e=>(k.sd i e).elim (h.sd i) (fun e=>.inr (CO h.fr.size e)),k.wb.trans h.wb,k.db.trans h.db,k.nv.trans h.nv,k.tv.trans h.tv⟩
theorem WAt.sL{L':WL}{W':WM}(h:WAt K w L W)(J:Blk w' L.wb (W'.cells L') 49)(f:Fr (fun k=>k=L.wb) w w')(m:L'.wb=L.wb)(o:L'.sv=L.sv)(q:L'.ps=L.ps)(r:L'.vs=L.vs)(u:L'.vm=L.vm)(y:L'.ns=L.ns)(A:L'.nm=L.nm)(B:L'.hs=L.hs)(C:L'.hm=L.hm)(c:W'.st=W.st)(g:W'.bk=W.bk):WAt K w' L' W':=by
 obtain⟨wb,T,X,sv,tv,ps,vs,vm,ns,nm,hs,hm⟩:=L';simp only at m o q r u y A B C;subst m o q r u y A B C;have a:∀ {t} {v:Value} {n s:Nat} {R:List Value},w.ownsRow 0 t s v n R->t≠49->∀ k,v.ownBlock=some k->¬k=L.wb:=fun N Q k e j=>by subst j;exact zh N h.td (fun e=>Q e.symm) e
 refine⟨J,ze h.rY f (a h.rY O),by rw[c];exact h.qB,fun i G D=>?_,?_,fun k e=>?_⟩
 .simp only[c] at D |-
  exact(h.qY i G D).tW (zR.rv f (fun k e=>⟨(h.tW k e).1,fun j=>(h.tW k e).2 (.inl j)⟩)) (fun _ e=>e)
 .rw[g]
  exact⟨ze h.tC.vs f (a h.tC.vs O),ze h.tC.vm f (a h.tC.vm O),ze h.tC.ns f (a h.tC.ns O),ze h.tC.nm f (a h.tC.nm O),ze h.tC.hs f (a h.tC.hs O),ze h.tC.hm f (a h.tC.hm O),h.tC.s1,h.tC.s2⟩
 .exact⟨Bv (h.tW k e).1 f.size,(h.tW k e).2⟩
theorem WStep.set{L':WL}{W':WM}(h:WAt K w L W)(i:Nat)(v:Value)(Q:(W.cells L).set i v=W'.cells L')(b:L'.wb=L.wb)(r:L'.sv=L.sv)(G:L'.ps=L.ps)(t:L'.vs=L.vs)(u:L'.vm=L.vm)(y:L'.ns=L.ns)(A:L'.nm=L.nm)(B:L'.hs=L.hs)(C:L'.hm=L.hm)(c:W'.st=W.st)(d:W'.bk=W.bk)(g:L'.db=L.db)(j:L'.nv=L.nv)(o:L'.tv=L.tv:=by rfl) :
 WStep K L w L' W' (w.setCell (Y L.wb i) v):=by
 have f:Fr (fun k=>k=L.wb) w (w.setCell (Y L.wb i) v):=Fr.set (S:=fun k=>k=L.wb) (p:=⟨L.wb,i,none⟩) (U _ _) (fun _=>rfl) _;refine⟨h.sL (by rw[<- Q];exact h.td.set i v) f b r G t u y A B C c d,f.mono (fun k _ e=>.inl e),fun k D=>.inl ?_,b,g,j,o⟩;unfold WFoot at D |-
 rwa [b,r,t,u,y,A,B,C] at D
theorem Lp:((prog.info? 104).map fun i=>(i.zero.map (·.cells.size),i.size,i.bytes))=some (some 1,1,8):=bI
theorem Td(w:World)(v:Value)(n:Nat)(l:List Value)(h:w.ownsRow 0 104 1 v n l)(q:Nat)(x:n<1000000000)(d:World)(f:Fr Nil w d)(N:Nat)(r:Blk d N [E q 0] 104)(ty:TypeId) :
 ∃ v' b,(Builtin.append_ #[42,42] ty #[v,.slice (some (Y N 0)) 1 1]).run prog d=.ok v' b /\
  (b.ownsRow 0 104 1 v' (n+1) (l++[E q 0])/\Fr (fun k=>v.ownBlock=some k) w b/\(∀ k,v'.ownBlock=some k->v.ownBlock=some k\/w.heap.size<=k)):=by
 have s:=ze h f (fun _ _=>id);obtain⟨v',b,t,o,p,a⟩:=zq (P:=prog) 42 ty 104 1 8 underlying42 Lp V v n l s ⟨N,0,none⟩ 1 1 [E q 0] rfl
  (fun j u c=>by rw[BO,BQ,r.cell];exact c) (by intro u c;simp at c;subst c;rfl) ac V
 refine⟨v',b,t,o,(f.mono (fun _ _ e=>absurd e id)).tk ((Fr.sB p).mono (fun i _ h=>h)) (fun i _ h=>h),fun k g=>?_⟩;rcases a with a|a
 .exact .inl (by rw[<- a];exact g)
 .rw[a] at g;simp at g;have:=f.size;exact .inr V
theorem WStep.rR{w4:World}(h:WAt K w L W){v':Value}{qs:List Nat}{st':List LM}(r:w4.ownsRow 0 104 1 v' qs.length (Y6 qs))(l:Fr (fun b=>L.sv.ownBlock=some b) w w4)(x:∀ b,v'.ownBlock=some b->L.sv.ownBlock=some b\/w.heap.size<=b)
 (A:qs.length=st'.length)(hm:∀ i (g:i<qs.length)(j:i<st'.length),MRep K w qs[i] st'[i]) :
 WStep K L w {L with sv:=v',ps:=qs} {W with st:=st'} (w4.setCell (Y L.wb 6) v'):=by
 have f:∀ {t:TypeId} {k:Nat},Ty w k t->t≠104->¬L.sv.ownBlock=some k:=fun a B e=>B (a.inj (zr h.rY e));have d:Blk w4 L.wb _ _:=h.td.fr l (f h.td.ty O);have m:Fr (fun k=>k=L.wb) w4 (w4.setCell (Y L.wb 6) v'):=Fr.set (S:=fun k=>k=L.wb) (p:=⟨L.wb,6,none⟩) (U _ _) (fun _=>rfl) _;have o:Fr (WFoot L) w (w4.setCell (Y L.wb 6) v'):=(l.mono (fun k _ e=>.inr (.inl e))).tk (m.mono (S':=WFoot L) (fun k _ e=>.inl e)) (fun _ _ e=>e);have c:∀ {t} {v:Value} {n s:Nat} {y:List Value},w.ownsRow 0 t s v n y->t≠104->t≠49->(w4.setCell (Y L.wb 6) v').ownsRow 0 t s v n y:=fun q g j =>
  ze (ze q l (fun k e=>f (zr q e) g)) m (fun k e a=>by subst a;exact zh q h.td (fun e=>j e.symm) e)
 refine⟨⟨d.set 6 v',ze r m (fun k e a=>by subst a;exact zh r d O e),A,fun i g j=>(hm i g j).tW (zR.rv o (fun k e=>h.tW k e)) (fun _ e=>e),?_,fun k e=>⟨Bv (h.tW k e).1 o.size,fun a=>?_⟩⟩,o,fun k a=>?_,rfl,rfl,rfl,rfl⟩
 .exact⟨c h.tC.vs O O,c h.tC.vm O O,c h.tC.ns O O,c h.tC.nm O O,c h.tC.hs O O,c h.tC.hm O O,h.tC.s1,h.tC.s2⟩
 .have h0:=h.tW k e
  rcases a with a|a|a
  .exact h0.2 (.inl a)
  .exact(x k a).elim (fun e=>h0.2 (.inr (.inl e))) (fun e=>V)
  .exact h0.2 (.inr (.inr a))
 .rcases a with a|a|a
  .exact .inl (.inl a)
  .exact(x k a).elim (fun e=>.inl (.inr (.inl e))) .inr
  .exact .inl (.inr (.inr a))
theorem Qc:((prog.info? 107).map fun i=>(i.zero.map (·.cells.size),i.size,i.bytes))=some (some 3,3,56):=bI
theorem SH{f g:Nat}{c k:List Value}(l:Blk w f c 107)(m:Blk w g k 107)(b:f≠g) :
 (binOp .neq 104 (E f 0) (E g 0)).run prog w=.ok (.bool true) w/\(binOp .eql 104 (E f 0) (E g 0)).run prog w=.ok (.bool false) w:=by
 obtain⟨i,z,o,_,hs,_⟩:=ZK Qc;have j:i.size≠0:=V
 have a:((Y f 0):Addr)≠⟨g,0,none⟩:=fun e=>b (AB Addr.block e);have h:∀ d:Nat,(Op.equalIn (d+1) 104 (E f 0) (E g 0)).run prog w=.ok false w:=fun d=>by
  simp[Op.equalIn,run_underlying underlying104,sizeOf,typeInfo,o,j,run_sameAddr_other w a l m]
 simp only[binOp];exact⟨by simp[Op.equal,Op.maxDepth,h 9999],by simp[Op.equal,Op.maxDepth,h 9999]⟩
theorem MRep.td{p:Nat}{m:LM}(h:MRep K w p m):∃ c,Blk w p c 107:=by
 obtain⟨j,i,e,g,_⟩:=h;exact⟨_,g.td⟩
theorem WAt.tu(h:WAt K w L W)(b:0<L.ps.length):∃ a:L.ps.length-1<W.st.length,MRep K w L.ps[L.ps.length-1] W.st[L.ps.length-1] :=
 ⟨by have:=h.qB;omega,h.qY _ V (by have:=h.qB;omega)⟩
theorem NT(K:Nat->Prop)(L:WL)(W:WM)(q:Nat)(m:LM)(w:World)(h:WAt K w L W)(hp:0<L.ps.length)(hl:L.ps.length<100000000)(hq:MRep K w q m)(G:q≠L.ps[L.ps.length-1])(hw:W.tf<1000000000000) :
 Calls prog 158 #[E L.wb 0,E q 0] w fun e w'=>e=.returned (.tuple #[])/\∃ L',WStep K L w L' {W with st:=W.st++[m],tf:=W.tf+1} w'/\L'.ps=L.ps++[q]:=by
 have HN:=Z (ZD K L W w h hp V);obtain⟨c1,y⟩:=hq.td;obtain⟨_,d⟩:=h.tu hp;obtain⟨c2,A⟩:=d.td;have r:=Z h;have HQ:=Z hq;have t:aa (∀ n,_):=fun n=>(SH (y.drewN n) (A.drewN n) G).1;clear h y A d hq G;generalize L.ps[L.ps.length-1]=q0 at HN t;go_enter func158,ntmps158;go_wp2_with fail;refine HN.o.mono ?_;rintro e M ⟨rfl,n,p⟩;have T:=t.o n;rw[<- p] at T;have Q:Fr Nil w M:=by rw[p];exact(U _ _).drewN n
 have g:=r.o.nil Q;obtain⟨sa,sc,j⟩:=zf g.rY;have S:M.cell? (Y L.wb 6)=some (.slice sa L.ps.length sc):=by rw[<- j];exact g.td.cell 6
 have a5:=g.td.frozen;have a:=g.rY;rw[j] at a;have l:=Z a;have s:aa (∀ w4:World,Fr (fun k=>(Value.slice sa L.ps.length sc).ownBlock=some k) M w4->Blk w4 L.wb (W.cells L) 49):=fun w4 f=>g.td.fr f (zh a g.td O);have H1:=Z g;have u:=Z Q;have D:L.ps.length<1000000000:=V
 have a3:IntKind.i64.wrap ((W.tf:Int)+1)=((W.tf+1:Nat):Int):=by rw[Bu];push_cast;omega
 clear g a Q p;generalize o:L.ps.length=len at S l s D;have c:=Z o;clear o
 go_wp2_with (at_builtin;go_must (refine zm rfl _ _ _ _ rfl _ _ bH bH (Td M _ _ _ l.o q D _ zd _ aw _) ?_;rintro v4 w4 ⟨J,C,a1⟩;have B:=s.o _ C;obtain⟨a6,a7,a2⟩:=zf J;have R:=B.cell;simp only[WM.cells] at R;have a4:=B.frozen))
 have a0:(L.ps++[q]).length=(W.st++[m]).length:=by simp[r.o.qB]
 have x:=WStep.rR H1.o (v':=v4) (qs:=L.ps++[q]) (st':=W.st++[m]) (w4:=w4) (by rw[CN,CQ,c.o];simpa [Y6] using J) (by rw[j,c.o];exact C) (fun b e=>by rw[j,c.o];exact a1 b e) a0 (fun i g h2=>by
  by_cases hi:i<L.ps.length
  .have h3:i<W.st.length:=by have:=r.o.qB;omega
   rw[BE hi,BE h3];exact H1.o.qY i hi h3
  .have hi2:i=L.ps.length:=by simp at g;omega
   have X:i=W.st.length:=by have:=r.o.qB;omega
   subst hi2;rw[BV (CP _)];simp only[X,BV (CP _)];simp only[wN,AA];exact(HQ.o.tW (zR.rv u.o (fun k e=>⟨(r.o.tW k e).1,id⟩)) (fun _ e=>e)))
 have N:=x.trans (WStep.set x.th 10 (I ((W.tf:Int)+1)) (L':={L with sv:=v4,ps:=L.ps++[q]}) (W':={W with st:=W.st++[m],tf:=W.tf+1}) ai rfl rfl rfl rfl rfl rfl rfl rfl rfl rfl rfl rfl rfl);subst a2;exact Aw (v:=.tuple #[]) af rfl ⟨rfl,_,(WStep.nil r.o u.o).trans N,rfl⟩
theorem Uw(K:Nat->Prop)(L:WL)(W:WM)(w:World)(h:WAt K w L W)(J:0<L.ps.length)(R:L.ps.length<100000000) :
 Calls prog 116 #[E L.wb 0] w fun e Q=>e=.returned (.tuple #[])/\∃ C,WStep K L w C {W with st:=W.st.drop (W.st.length-1)} Q/\C.ps=L.ps.drop (L.ps.length-1):=by
 have A:=Z (ZD K L W w h J V);obtain⟨x,c⟩:=h.tu J;have d:=h.qB;have j:L.ps.drop (L.ps.length-1)=[L.ps[L.ps.length-1]]:=by
  rw[BJ V,BT V]
 have l:W.st.drop (W.st.length-1)=[W.st[L.ps.length-1]]:=by
  rw[BJ V,BT V];simp only[d]
 rw[j,l];generalize L.ps[L.ps.length-1]=q at A c |-;generalize W.st[L.ps.length-1]=m at c |-;have p:=Z h;have y:=Z c;clear h c x d j l;go_enter func116,ntmps116;go_wp2_with fail;refine A.o.mono ?_;rintro e g ⟨rfl,n,o⟩;have r:Fr Nil w g:=by rw[o];exact(U _ _).drewN n
 have s:=p.o.nil r;have u:=Blk.new g [E q 0] 104;have D:Fr Nil g (g.alloc (.cells #[E q 0] 104)):=(U _ _).alloc _;have G:=s.nil D;have f:(g.alloc (.cells #[E q 0] 104)).ownsRow 0 104 1 (.slice (some (Y g.heap.size 0)) 1 1) [q].length (Y6 [q]):=Yw (cap:=1) u (CP _) O rfl rfl;have N:=G.td.cell;simp only[WM.cells] at N;have S:=G.td.frozen;have B:=WStep.rR s (v':=.slice (some (Y g.heap.size 0)) 1 1) (qs:=[q]) (st':=[m]) f (D.mono (fun _ _ e=>absurd e id)) (fun b e=>.inr (by simp[Value.ownBlock] at e;subst e;exact CP _)) rfl (fun i a b=>by
  have:i=0:=by simp at a;exact a
  subst this;exact y.o.tW (zR.rv r (fun k e=>⟨(p.o.tW k e).1,id⟩)) (fun _ e=>e))
 have t:=Z (WStep.trans (WStep.nil p.o r) B);have M:=Z s;clear p y B r s f o;go_wp2_with fail;exact Aw (v:=.tuple #[]) af rfl ⟨rfl,_,t.o,rfl⟩
theorem Tz(K:Nat->Prop)(L:WL)(W:WM)(n:Nat)(w:World)(h:WAt K w L W)(j:W.uS<100000000)(d:W.tM<n)(b:n<=16*W.uS) :
 Calls prog 106 #[E L.wb 0,I n] w fun e f=>e=.returned (.bool true)/\WStep K L w L {W with tM:=n} f:=by
 have a:=h.td.cell;simp only[WM.cells] at a;have k:=h.td.frozen;have hm:IntKind.i64.wrap (16*(W.uS:Int))=16*(W.uS:Int):=by rw[Bu];omega
 have g:¬(n:Int)<=W.tM:=V
 have i:¬16*(W.uS:Int)<n:=V
 have c:=Z (WStep.set h 12 (I n) (L':=L) (W':={W with tM:=n}) ai rfl rfl rfl rfl rfl rfl rfl rfl rfl rfl rfl rfl rfl);clear h d b;go_enter func106,ntmps106;go_wp2_with fail;go_ret;exact⟨rfl,c.o⟩
theorem Ze(K:Nat->Prop)(L:WL)(W:WM)(r:DL)(M:DM)(w:World)(h:WAt K w L W)(u:DRep w L.db r M) :
 Calls prog 56 #[E L.wb 0] w fun e N=>e=.returned (.agg #[I M.uT,I M.tr])/\Fr Nil w N:=by
 have a:Fr Nil w (w.alloc (Obj.cells #[I 0,I 0] 111)):=(U _ _).alloc _;have c:=Blk.new w [I 0,I 0] 111;have D:=Z (fun o (f:Fr Nil w o)=>Zr o L.db r M (u.nil f));have G:=Z (fun o (f:Fr Nil w o)=>Tp o L.db r M (u.nil f));have y:=Z (h.nil a);have i:=Z a;have A:=Z c;clear h u a c;go_enter func56,ntmps56;go_wp2_with fail;generalize b:w.alloc (Obj.cells #[I 0,I 0] 111)=g;have c:Blk g w.heap.size [I 0,I 0] 111:=by rw[<- b];exact A.o
 have B:WAt K g L W:=by rw[<- b];exact y.o
 have a:Fr Nil w g:=by rw[<- b];exact i.o
 have q:=Z a;have J:g.cell? (Y L.wb 4)=some (E L.db 0):=B.td.cell 4;have t:=c.cell;have x:=c.frozen;have p:=Z c;have C:aa (w.heap.size<=w.heap.size):=CP _;clear b B a i A y c;refine yN 11 bI bI ?_;simp only[AF,yC,yk,Au]
 iterate 4 still_step
 still_call (D.o _ (q.o.trans zd))
 iterate 4 still_step
 still_call (G.o _ (q.o.trans zd))
 iterate 1 still_step
 refine vp ?_;go_wp2_with fail;have l:=(p.o.set 0 (I M.uT)).set 1 (I M.tr);have m:Fr Nil w ((g.setCell (Y w.heap.size 0) (I M.uT)).setCell (Y w.heap.size 1) (I M.tr)) :=
  Fr.set (Fr.set q.o (fun h=>by simp only at h;omega) _) (fun h=>by simp only at h;omega) _
 have j:=Z m;have d:=l.cell;simp only[BD,BI] at d;clear t x m l;generalize (g.setCell (Y w.heap.size 0) (I M.uT)).setCell (Y w.heap.size 1) (I M.tr)=Q at d j |-;have s:∀ k,Q.drew.cell? (Y w.heap.size k)=[I M.uT,I M.tr][k]?:=d;refine xC (v:=.agg #[I M.uT,I M.tr]) (by simp[results,Tryz.results56,go_sem,s,isAgg111,sizeOf111]) rfl ⟨rfl,j.o.drew⟩
theorem Zu(K:Nat->Prop)(L:WL)(W:WM)(j:DL)(M:DM)(w:World)(h:WAt K w L W)(k:DRep w L.db j M) :
 Calls prog 104 #[E L.wb 0] w fun e c=>e=.returned (I (IntKind.i64.wrap ((if W.room<0 then 1152921504606846976 else W.room)-M.rE)))/\Fr Nil w c:=by
 have i:aa (∀ a,Fr Nil w a->a.cell? (Y L.wb 1)=some (I W.room)/\a.cell? (Y L.wb 4)=some (E L.db 0)):=fun a f=>⟨(h.nil f).td.cell 1,(h.nil f).td.cell 4⟩;have s:=i.o w (U _ _);have l:=Z (fun a (f:Fr Nil w a)=>(Sj a L.db j M (k.nil f)).mono (fun e c (p:_/\Fr Nil a c)=>And.intro p.1 (f.trans p.2)));have d:=Z (fun a=>SG W.room a);generalize (if W.room<0 then 1152921504606846976 else W.room)=r at d |-;clear h k;go_enter func104,ntmps104;go_wp2_with fail
 go_region_held3 (fun c=>c.cell? (Y L.wb 1)=some (I W.room)/\c.cell? (Y L.wb 4)=some (E L.db 0)) (first|assumption|go_keep)
  (first
  | (go_at_call 41;refine(l.o _ zd).mono ?_;rintro e t ⟨rfl,b⟩;have o:=i.o _ b;have g:=Z b;clear b)
  | (go_at_call 51;refine(d.o _).mono ?_;rintro e q ⟨rfl,m⟩;subst q))
 go_wp2
 go_ret;exact⟨rfl,g.o⟩
def WM.qz(W:WM):Bool:=decide (0<W.tH)&&decide ((W.tf:Int).tmod W.tH=0)
def WM.rH(W:WM)(m:LM):WM :=
 let a:={W with st:=W.st++[m],tf:=W.tf+1}
 if a.qz then {a with st:=a.st.drop (a.st.length-1)} else a
theorem Hu(h:p:=by
 go_wp2_with fail
 go_quiet (fail)
 go_wp2_with fail;go_ret;exact⟨rfl,g,by rw[Q.o,CW B.o];exact d.o.trans (WStep.nil d.o.th zd),u.o.1⟩):p:=h
theorem Hv(K:Nat->Prop)(L:WL)(W:WM)(LD:DL)(M:DM)(q:Nat)(m:LM)(free a:Int)(w:World)(h:WAt K w L W)(hd:DRep w L.db LD M)(hp:0<L.ps.length)(hl:L.ps.length<10000000)(hq:MRep K w q m)(x:q≠L.ps[L.ps.length-1])(hw:W.tf<1000000000) :
 Calls prog 110 #[E L.wb 0,E q 0,I 0,.agg #[I M.uT,I a],I free] w fun e w'=>e=.returned (.bool true)/\∃ L',WStep K L w L' (W.rH m) w'/\L'.ps≠[]:=by
 have r:Fr Nil w (w.alloc (Obj.cells #[I M.uT,I a] 111)):=(U _ _).alloc _;have hb:=Blk.new w [I M.uT,I a] 111;have HR:=Z (fun j (f:Fr Nil w j)=>Zr j L.db LD M (hd.nil f));have HH:=Z (fun j (f:Fr Nil w j)=>NT K L W q m j (h.nil f) hp V (hq.tW (zR.rv f (fun k e=>⟨(h.tW k e).1,id⟩)) (fun _ e=>e)) x V);have T:∀ n,((w.alloc (Obj.cells #[I M.uT,I a] 111)).drewN n).cell? (Y L.wb 4)=some (E L.db 0):=fun n=>(h.nil (r.drewN n)).td.cell 4;have X:∀ n k,((w.alloc (Obj.cells #[I M.uT,I a] 111)).drewN n).cell? (Y w.heap.size k)=[I M.uT,I a][k]?:=fun n=>(hb.drewN n).cell;have i:=Z r;have H0:=Z h;have J:aa (L.ps.length<10000000):=hl;clear h hd r hb hq x;go_enter func110,ntmps110;go_wp2_with fail
 go_quiet ((go_at_call 47;exact Ah (HR.o _ (i.o.trans zd))))
 go_wp2_with fail;refine(HH.o _ (i.o.trans zd)).mono ?_;rintro e w2 ⟨rfl,g,s,l⟩;have D:=Z l;have Q:aa ((W.rH m)=(if ({W with st:=W.st++[m],tf:=W.tf+1}:WM).qz then _ else _)):=(rfl:W.rH m=_);generalize R:({W with st:=W.st++[m],tf:=W.tf+1}:WM)=c at s Q;have d:aa (WStep K L w g c w2):=(WStep.nil H0.o (i.o.trans zd)).trans s;have S:∀ n k,(w2.drewN n).cell? (Y L.wb k)=(c.cells g)[k]?:=fun n=>by rw[<- d.o.wb];exact((d.o.th.nil ((U _ _).drewN n)).td).cell
 simp only[WM.cells] at S;have C:aa (g.wb=L.wb):=d.o.wb;clear s l X T R H0 i HH HR;generalize (w.alloc (Obj.cells #[Value.int IntKind.i64 M.uT,Value.int IntKind.i64 a] 111)).drewN _=j;have b:0<g.ps.length/\g.ps.length<100000000:=by rw[D.o];simp;have:=J.o;omega
 have v:=Z (fun j (f:Fr Nil w2 j)=>Uw K g c j (d.o.th.nil f) b.1 b.2);have u:aa (g.ps≠[]/\g.ps.drop (g.ps.length-1)≠[]):=by
  refine⟨fun e=>by rw[e] at b;simp at b,fun e=>?_⟩;have:=AB List.length e;simp at this;omega
 clear b;rw[C.o] at v;by_cases A:0<c.tH
 .by_cases hz:(c.tf:Int).tmod c.tH=0
  .have hdy:decide (0<c.tH)=true:=by simp[A]
   have B:=Z (show c.qz=true by simp[WM.qz,A,hz]);go_wp2_with fail
   go_quiet (fail)
   go_wp2_with (refine(v.o _ zd).mono ?_;rintro e w3 ⟨rfl,L3,y,o⟩;have N:=Z y;have G:=Z o;clear y o)
   go_ret;exact⟨rfl,L3,by rw[Q.o,Bl B.o];exact d.o.trans ((WStep.nil d.o.th zd).trans N.o),by rw[G.o];exact u.o.2⟩
  .have hdy:decide (0<c.tH)=true:=by simp[A]
   have t:(c.tf:Int).tmod c.tH=(c.tf:Int)%c.tH:=xd V;have a1:((c.tf:Int)%c.tH==0)=false:=by rw[<- t];simp[hz]
   have a0:¬(c.tf:Int)%c.tH=0:=by rw[<- t];exact hz
   have B:=Z (show ¬c.qz=true by simp[WM.qz,hz]);clear t;exact Hu
 .have hdy:decide (0<c.tH)=false:=by simp[A]
  have B:=Z (show ¬c.qz=true by simp[WM.qz,A]);exact Hu
theorem Ty.lt{t:TypeId}(h:Ty w k t):k<w.heap.size:=by
 obtain⟨c,f,h⟩:=h;exact uc fun g=>by rw[yU g] at h;exact absurd h bG
theorem NRep.lt{L:NL}(h:NRep w L N M)(c:NFoot L M k):k<w.heap.size:=by
 rcases c with rfl|rfl|c|c|c
 .exact h.td.lt
 .exact Blk.lt h.qb
 .rcases h.held.rh c with e|e|e <;> exact e.lt
 .obtain⟨t,ht,_⟩:=h.sf.ty c
  exact ht.lt
 .exact(h.oe.ty c).lt
theorem WAt.rn(h:WAt K w L W)(d:NRep w X N M)(c:SRead X.LS k):¬WFoot L k:=by
 intro b;obtain⟨t,f,a⟩:=h.ty b;have:=f.inj (d.held.rK c);subst this;unfold WTy at a;rcases a with e|e|e|e|e|e <;> exact absurd e O
structure Play(K:Nat->Prop)(B:Nat)(w:World)(L:WL)(W:WM)(X:NL)(N:NM)(M:DM):Prop where
 tE:WAt K w L W
 node:NRep w X N M
 qg:Ye B X M w
 nv:L.nv=E X.nb 0
 db:L.db=X.db
 rF:∀ k,K k->¬NFoot X M k
 low:∀ k,WFoot L k->B<=k
def PFoot(L:WL)(X:NL)(M:DM)(k:Nat):Prop:=WFoot L k\/NFoot X M k
structure PStep(K:Nat->Prop)(B:Nat)(L:WL)(X:NL)(M:DM)(w:World)(K':Nat->Prop)(L':WL)(W':WM)(X':NL)(N':NM)(M':DM)(w':World):Prop where
 th:Play K' B w' L' W' X' N' M'
 old:∀ k,K k->K' k
 new:∀ k,K' k->K k\/w.heap.size<=k
 fr:Fr (PFoot L X M) w w'
 sd:∀ k,PFoot L' X' M' k->PFoot L X M k\/w.heap.size<=k
 wb:L'.wb=L.wb
 tv:L'.tv=L.tv:=by rfl
theorem PStep.trans{c g o:Nat->Prop}{L1 r s:WL}{W2 A:WM}{C D G:NL}{X y:NM}{t M2 x:DM}{K w2 T:World}
 (h:PStep c B L1 C t K g r W2 D X M2 w2)(k:PStep g B r D M2 w2 o s A G y x T):PStep c B L1 C t K o s A G y x T where
 th:=k.th
 old:=fun i e=>k.old i (h.old i e)
 new:=fun i e=>(k.new i e).elim (h.new i) (fun e=>.inr (CO h.fr.size e))
 fr:=h.fr.tk k.fr (fun i hi e=>(h.sd i e).resolve_right V)
 sd:=fun i e=>(k.sd i e).elim (h.sd i) (fun e=>.inr (CO h.fr.size e))
 wb:=k.wb.trans h.wb
 tv:=k.tv.trans h.tv
theorem Play.nil{c:World}(h:Play K B w L W X N M)(f:Fr Nil w c):PStep K B L X M w K L W X N M c :=
 ⟨⟨h.tE.nil f,h.node.nil f,h.qg.nil f,h.nv,h.db,h.rF,h.low⟩,fun _ e=>e,fun _ e=>.inl e,f.mono (fun _ _ e=>absurd e id),fun _ e=>.inl e,rfl,rfl⟩
theorem Play.gr{b:World}(h:Play K B w L W X N M)(f:Fr Nil w b):PStep K B L X M w (KGr K w b) L W X N M b :=
 ⟨⟨h.tE.gr f,h.node.nil f,h.qg.nil f,h.nv,h.db,fun k e c=>e.elim (fun e=>h.rF k e c) (fun e=>by have:=h.node.lt c;omega),h.low⟩,fun _ e=>.inl e,fun k e=>e.elim .inl (fun e=>.inr e.1),f.mono (fun _ _ e=>absurd e id),fun _ e=>.inl e,rfl,rfl⟩
theorem Play.call{d:World}{c:NL}{b:NM}{a:DM}(h:Play K B w L W X N M)(s:NStep X M w c b a d):PStep K B L X M w K L W c b a d where
 th:=⟨(h.tE.step h.node s h.rF).1,s.th,h.qg.step s,by rw[h.nv,s.same.nb],by rw[h.db,s.same.db],(h.tE.step h.node s h.rF).2,h.low⟩
 old:=fun _ e=>e
 new:=fun _ e=>.inl e
 fr:=s.fr.mono (fun _ _ e=>.inr e)
 sd:=fun k e=>e.elim (fun e=>.inl (.inl e)) (fun e=>(s.sd k e).elim (fun e=>.inl (.inr e)) .inr)
 wb:=rfl
theorem Play.sX{i:World}{L':WL}{W':WM}(h:Play K B w L W X N M)(s:WStep K L w L' W' i):PStep K B L X M w K L' W' X N M i where
 th:=⟨s.th,h.node.fr s.fr (fun k b c=>h.tE.node h.node c b) (fun k b=>h.tE.rn h.node b) (fun k t b g c=>by
  obtain⟨j,d,f⟩:=h.tE.ty c;have:=d.inj b;subst this;unfold WTy at f;unfold MTy at g;rcases g with rfl|rfl|rfl|rfl <;> (rcases f with e|e|e|e|e|e <;> exact absurd e O)),⟨h.qg.pW.fr h.qg.le s.fr h.low,CO h.qg.le s.fr.size,h.qg.sd⟩,by rw[s.nv,h.nv],by rw[s.db,h.db],h.rF,fun k e=>(s.sd k e).elim (h.low k) (fun e=>CO h.qg.le e)⟩
 old:=fun _ e=>e
 new:=fun _ e=>.inl e
 fr:=s.fr.mono (fun _ _ e=>.inl e)
 sd:=fun k e=>e.elim (fun e=>(s.sd k e).elim (fun e=>.inl (.inl e)) .inr) (fun e=>.inl (.inr e))
 wb:=s.wb
 tv:=s.tv
structure OpM where
 kind:Int
 a:Int
 b:Int
 c:Int
 key:ByteArray
 tZ:ByteArray
 v:Ver
 rz:Value
def OpM.cells(o:OpM):List Value:=[I o.kind,I o.a,I o.b,I o.c,.string o.key,.string o.tZ]++o.v.cells++[o.rz]
theorem Play.lt(h:Play K B w L W X N M)(c:PFoot L X M k):k<w.heap.size :=
 c.elim (h.tE.lt k) (fun e=>h.node.lt e)
theorem Play.tI(h:Play K B w L W X N M):DRep w L.db X.LD M:=by rw[h.db];exact h.node.sf
structure Pre(K:Nat->Prop)(B:Nat)(L:WL)(W:WM)(X:NL)(N:NM)(M:DM)(w:World)(ops:List Value)(ob mb:Nat)(w4:World):Prop where
 st:PStep K B L X M w K L W X N M w4
 fr:Fr Nil w w4
 op:∀ {wx:World} {K':Nat->Prop} {L':WL} {W':WM} {X':NL} {N':NM} {M':DM},PStep K B L X M w4 K' L' W' X' N' M' wx->∀ k,wx.cell? (Y ob k)=ops[k]?
 ma:∀ {wx:World} {K':Nat->Prop} {L':WL} {W':WM} {X':NL} {N':NM} {M':DM},PStep K B L X M w4 K' L' W' X' N' M' wx->∀ k,wx.cell? (Y mb k)=[I M.uT,I M.tr][k]?
theorem Pre.of{j i w4:World}{a:List Value}(h:Play K B w L W X N M)(g:w.alloc (.cells a.toArray 39)=j)(l:Fr Nil j i)
 (o:Fr Nil (i.alloc (.cells #[I M.uT,I M.tr] 111)) w4):Pre K B L W X N M w a w.heap.size i.heap.size w4:=by
 have A:Fr Nil w j:=by rw[<- g];exact(U _ _).alloc _
 have c:Blk j w.heap.size a 39:=by rw[<- g];exact Blk.new w a _
 have r:=Blk.new i [I M.uT,I M.tr] 111;have b:Fr Nil w w4:=A.trans (l.trans (((U _ _).alloc _).trans o));have C:w.heap.size<i.heap.size:=by have:=c.lt;have:=l.size;omega
 have D:=h.nil b;have d:∀ {t:World} {u:Nat->Prop} {L':WL} {W':WM} {y:NL} {x:NM} {M':DM},PStep K B L X M w4 u L' W' y x M' t->Fr (fun k=>k<w.heap.size) w4 t:=fun s=>s.fr.mono (fun k _ e=>h.lt e);refine⟨D,b,fun s k=>?_,fun s k=>?_⟩
 .exact(c.fr (((l.trans (((U _ _).alloc _).trans o)).mono (S':=fun k=>k<w.heap.size) (fun _ _ e=>absurd e id)).tk (d s) (fun _ _ e=>e)) (yu _)).cell k
 .exact(r.fr ((o.mono (S':=fun k=>k<w.heap.size) (fun _ _ e=>absurd e id)).tk (d s) (fun _ _ e=>e)) V).cell k
def WM.free(W:WM)(M:DM):Int:=IntKind.i64.wrap ((if W.room<0 then 1152921504606846976 else W.room)-M.rE)
theorem Ua(K:Nat->Prop)(L:WL)(W:WM)(w:World)(h:WAt K w L W)(o:W.base<100000000)(p:W.next<100000000) :
 Calls prog 161 #[E L.wb 15] w fun e j=>e=.returned (I ((W.base+W.next+1:Nat):Int))/\WStep K L w L {W with next:=W.next+1} j:=by
 have c:=h.td.cell;simp only[WM.cells] at c;have g:=h.td.frozen;have d:IntKind.i64.wrap ((W.next:Int)+1)=(W.next:Int)+1:=by rw[Bu];omega
 have f:IntKind.i64.wrap ((W.base:Int)+((W.next:Int)+1))=((W.base+W.next+1:Nat):Int):=by rw[Bu];push_cast;omega
 have b:=Z (WStep.set h 16 (I ((W.next:Int)+1)) (L':=L) (W':={W with next:=W.next+1}) ai rfl rfl rfl rfl rfl rfl rfl rfl rfl rfl rfl rfl rfl);clear h;go_enter func161,ntmps161;go_wp2_with fail;generalize w.setCell (Y L.wb 16) (I ((W.next:Int)+1))=l at b |-;have a:∀ n k,(l.drewN n).cell? (Y L.wb k)=(({W with next:=W.next+1}:WM).cells L)[k]?:=fun n=>(b.o.th.td.drewN n).cell;simp only[WM.cells] at a
 push_cast at a
 clear c g
 go_quiet (fail)
 go_wp2
 go_ret;exact⟨rfl,b.o.trans (WStep.nil b.o.th zd)⟩
def divs(m:Nat):Nat->Nat
 | 0=>m
 | k+1=>divs m k / 16
def WY(m:Nat):Nat->ByteArray
 | 0=>⟨#[35]⟩
 | k+1=>WY m k++zp [Yi (divs m k)]
theorem Dj(m k:Nat):divs m k<=m:=by
 induction k with
 | zero=>exact CP _
 | succ k a=>exact CO (Nat.div_le_self _ _) a
theorem Qd(x:UInt8):(zp [x]).size=1:=rfl
theorem KV(m k:Nat):(WY m k).size=k+1:=by
 induction k with
 | zero=>rfl
 | succ k a=>rw[WY,ByteArray.size_append,a,Qd]
theorem FJ(m:Nat):Zi m=WY m 6:=by
 apply wA
 simp[Zi,WY,divs,zp,ByteArray.data_append]
theorem KW(m:Nat):(Yi m).toNat=97+m%16:=by
 unfold Yi;rw[UInt8.toNat_ofNat_of_lt' (show _<256 from V)]
theorem FK(a:World)(x:UInt8):(convert 150 9 (.slice (some (Y a.heap.size 0)) 1 1)).run prog (a.alloc (.cells #[.int .u8 (x.toNat:Int)] 5))=.ok (.string (zp [x])) (a.alloc (.cells #[.int .u8 (x.toNat:Int)] 5)):=by
 have b:(a.alloc (.cells #[.int .u8 (x.toNat:Int)] 5)).ownsRow 0 5 1 (.slice (some (Y a.heap.size 0)) 1 1) 1 (u8s [x]):=Yw (cap:=1) (Blk.new a [.int .u8 (x.toNat:Int)] 5) (CP _) O rfl rfl;exact TN Ap wY AH b 0 1 1 bG
theorem Xw(m:Nat)(w:World)(hm:m<1000000000000) :
 Calls prog 66 #[I m] w fun e p=>e=.returned (.string (Zi m))/\Fr Nil w p:=by
 have q:=Z (FJ m);go_enter func66,ntmps66;go_wp2_with fail
 go_loopw [0,3,4] (fun u x o p=>∃ k:Nat,k<=6/\u=I (divs m k)/\x=.string (WY m k)/\o=I k/\Fr Nil w p) (fun _ _ o _=>6-(intOf o).toNat)
 case atStart=>exact⟨0,V,rfl,rfl,rfl,U _ _⟩
 case round =>
  obtain⟨k,y,rfl,rfl,rfl,f⟩:=hrel;by_cases s:k<6
  .have hd:=Dj m k
   have b:divs m (k+1)=divs m k / 16:=rfl;have c:WY m (k+1)=WY m k++zp [Yi (divs m k)]:=rfl;have a:=Z (And.intro b c);have l:IntKind.u8.wrap (97+(divs m k:Int)%16)=((Yi (divs m k)).toNat:Int):=by rw[KW,IntKind.wrap_u8];push_cast;omega
   have j:IntKind.i64.wrap (97+(divs m k:Int)%16)=97+(divs m k:Int)%16:=by rw[Bu];omega
   have h:=FK wr (Yi (divs m k));clear b c;generalize divs m k=d at hd l j h a |-;have r:d<1000000000000:=V
   have t:¬9223372036854775807<(WY m k).size+(zp [Yi d]).size:=by rw[KV,Qd];omega
   have g:=Z f;clear f hd;go_wp2_with fail;refine⟨⟨k+1,V,?_,?_,?_,g.o.alloc _⟩,by simp[intOf];omega⟩
   .rw[a.o.1];rfl
   .rw[a.o.2]
   .push_cast;rfl
  .have:k=6:=V
   subst this;have g:=Z f;clear f;rw[<- q.o];go_wp2_with fail;go_ret;exact⟨rfl,g.o⟩
theorem VC(l:List (Nat × ByteArray)):∀ (k:Nat)(h:k<l.length),(zI l)[k*2]?=some (I l[k].1)/\(zI l)[k*2+1]?=some (.string l[k].2):=by
 induction l with
 | nil=>intro k h;exact absurd h (BF _)
 | cons a l c =>
  intro k h;cases k with
  | zero=>exact⟨rfl,rfl⟩
  | succ k =>
   have:=c k aE;exact⟨by rw[<- (show(zI (a::l))[(k+1)*2]?=(zI l)[k*2]? by rw[show(k+1)*2=k*2+2 from by omega];rfl)] at this;exact this.1,by have b:=this.2;rw[<- (show(zI (a::l))[(k+1)*2+1]?=(zI l)[k*2+1]? by rw[show(k+1)*2+1=k*2+1+2 from by omega];rfl)] at b;exact b⟩
theorem O3{α:Type}{a b:List α}(c:a.length=b.length)(h:∀ j (d:j<a.length)(e:j<b.length),a[j]=b[j]):a=b :=
 xt c h
theorem Lq(h:p:=by
 go_wp2_with fail
 go_quiet (fail)
 go_wp2_with fail;go_ret;exact⟨by rw[k.o X.o];rfl,C.o.drewN _⟩):p:=h
theorem VD(v1 v2:Value)(d f:List (Nat × ByteArray))(w:World)(D:w.ownsRow 0 75 2 v1 d.length (zI d))(G:w.ownsRow 0 75 2 v2 f.length (zI f))(hl:d.length<1000000000) :
 Calls prog 121 #[v1,v2] w fun e R=>e=.returned (.bool (decide (d=f)))/\Fr Nil w R:=by
 obtain⟨a1,c1,rfl⟩:=zf D;obtain⟨a2,c2,rfl⟩:=zf G;have r:=Z D;have s:=Z G;clear D G;by_cases c:d.length=f.length
 .have HL:=Z c
  generalize hn:d.length=n at hl c r |-;rw[<- c] at s |-;have T:=Z hn;clear c hn;go_enter func121,ntmps121;go_wp2_with fail
  go_loopw [5] (fun Q R=>∃ i:Nat,i<=n/\Q=I i/\(∀ j (D:j<d.length) (G:j<f.length),j<i->d[j]=f[j])/\Fr Nil w R) (fun Q _=>n-(intOf Q).toNat)
  case atStart=>exact⟨0,V,rfl,fun j _ _ h=>absurd h (BF _),U _ _⟩
  case round =>
   obtain⟨i,hi,rfl,hs,g⟩:=hrel;by_cases a4:i<n
   .have hi1:i<d.length:=by have:=T.o;omega
    have t:i<f.length:=by have:=HL.o;omega
    obtain⟨g1,a0,e1,_,_⟩:=zl r.o V;obtain⟨g2,a3,e2,_,_⟩:=zl s.o V;simp only[wO] at e1 e2;obtain⟨rfl,_,_⟩:=e1;obtain⟨rfl,_,_⟩:=e2;have x:∀ n,(wr.drewN n).cell? (Y g1 (i*2))=some (I d[i].1):=fun n=>own_cell? (ze r.o (g.drewN n) (fun _ _=>id)) _ _ (VC d i hi1).1;have A:∀ n,(wr.drewN n).cell? (Y g1 (i*2+1))=some (.string d[i].2):=fun n=>own_cell? (ze r.o (g.drewN n) (fun _ _=>id)) _ _ (VC d i hi1).2;have y:∀ n,(wr.drewN n).cell? (Y g2 (i*2))=some (I f[i].1):=fun n=>own_cell? (ze s.o (g.drewN n) (fun _ _=>id)) _ _ (VC f i t).1;have B:∀ n,(wr.drewN n).cell? (Y g2 (i*2+1))=some (.string f[i].2):=fun n=>own_cell? (ze s.o (g.drewN n) (fun _ _=>id)) _ _ (VC f i t).2;have v:¬d[i]=f[i]->decide (d=f)=false:=fun e=>by simp only[BP];intro h;subst h;exact e rfl
    have k:=Z v;have HS:=Z hs;have C:=Z g;obtain⟨⟨K,x1⟩,o⟩:∃ p,p=d[i]:=⟨_,rfl⟩;obtain⟨⟨t2,x2⟩,q⟩:∃ p,p=f[i]:=⟨_,rfl⟩;rw[<- o] at x A;rw[<- q] at y B;have l:=Z o;have m:=Z q;simp only at x y A B;clear o q v hs g;by_cases L:K=t2
    .subst L
     have N:((K:Int)==K)=true:=bG
     by_cases J:x1=x2
     .subst J
      go_wp2_with fail
      go_quiet (fail)
      go_wp2_with fail;refine⟨⟨i+1,V,by push_cast;rfl,fun j a b hj=>?_,C.o.drewN _⟩,by simp[intOf];omega⟩;by_cases e:j=i
      .subst e;rw[<- l.o,<- m.o]
      .exact HS.o j a b V
     .have hxa:(x1.toList==x2.toList)=false:=by simp only[Ay,ne_eq];exact fun h=>J (Wa h)
      have X:=Z (show ¬d[i]=f[i] by rw[<- l.o,<- m.o];exact fun h=>J (AB Prod.snd h));clear J;exact Lq
    .have N:((K:Int) != t2)=true:=by simp;omega
     have X:=Z (show ¬d[i]=f[i] by rw[<- l.o,<- m.o];exact fun h=>L (AB Prod.fst h));clear L;exact Lq
   .have HEQ:=Z (show decide (d=f)=true by simp only[Bi];exact O3 HL.o (fun j a b=>hs j a b (by have:=T.o;omega)))
    have C:=Z g;clear hs g;go_wp2_with fail;go_ret;exact⟨by rw[HEQ.o];rfl,C.o⟩
 .have k:=Z (show decide (d=f)=false by simp only[BP];exact fun h=>c (by rw[h]))
  have u:((d.length:Int) != f.length)=true:=by simp;omega
  generalize d.length=n1 at c u r hl;generalize f.length=n2 at c u s;go_enter func121,ntmps121;go_wp2_with fail;go_ret;exact⟨by rw[k.o];rfl,U _ _⟩
def ZV(a b:Ver):Bool:=(decide (a.o0=b.o0)&&decide (a.o1=b.o1)&&decide (a.o2=b.o2)&&decide (a.o3=b.o3))&&(decide (a.node=b.node)&&(decide (a.seq=b.seq)&&(a.value.toList==b.value.toList&&(a.ts==b.ts))))
theorem Xk(a b:Ver):ZV a b=true↔a=b:=by
 obtain⟨n,s,d,e,f,i,x,g⟩:=a;obtain⟨c,q,j,k,o,p,y,h⟩:=b;simp only[ZV,Ar,Bi,beq_iff_eq,Ver.mk.injEq]
 constructor
 .rintro⟨⟨⟨⟨h0,h1⟩,h2⟩,h3⟩,h4,h5,h6,h7⟩
  exact⟨h4,h5,h0,h1,h2,h3,Wa h6,h7⟩
 .rintro⟨h4,h5,h0,h1,h2,h3,h6,h7⟩
  exact⟨⟨⟨⟨h0,h1⟩,h2⟩,h3⟩,h4,h5,by rw[h6],h7⟩
def ovs(a b c d:Int):Nat->Int
 | 0=>a
 | 1=>b
 | 2=>c
 | _=>d
theorem SI(h:p:=by
 have D:=Z (show ZV (⟨n,s,m,o,r,t,x,g⟩:Ver) (⟨l,u,v,A,B,C,y,h⟩:Ver)=false by simp[ZV,ho]);clear ho;go_wp2_with fail
 go_quiet (fail)
 go_wp2_with fail;go_ret;exact⟨by rw[D.o];rfl,N.o.trans (c.o.drewN _)⟩):p:=h
theorem YD(a b:Ver)(w:World) :
 Calls prog 67 #[.agg a.cells.toArray,.agg b.cells.toArray] w fun e w'=>e=.returned (.bool (ZV a b))/\Fr Nil w w':=by
 obtain⟨n,s,m,o,r,t,x,g⟩:=a;obtain⟨l,u,v,A,B,C,y,h⟩:=b;simp only[Ver.cells];have G:=Blk.new w [I n,I s,I m,I o,I r,I t,.string x,.bool g] 37;have f1:Fr Nil w (w.alloc (.cells #[I n,I s,I m,I o,I r,I t,.string x,.bool g] 37)):=(U _ _).alloc _;generalize a3:w.alloc (.cells #[I n,I s,I m,I o,I r,I t,.string x,.bool g] 37)=w1 at G f1;have a0:=Blk.new w1 [I l,I u,I v,I A,I B,I C,.string y,.bool h] 37;have f2:Fr Nil w1 (w1.alloc (.cells #[I l,I u,I v,I A,I B,I C,.string y,.bool h] 37)):=(U _ _).alloc _;have K:=G.fr f2 (fun e=>e);have X:=Z G.lt;have N:=Z (f1.trans f2);have L:=Z K;have M:=Z a0;have a6:=Z a3;clear G f1 f2 K a0;go_enter func67,ntmps67;go_wp2_with fail;clear a3;generalize w1.alloc (.cells #[I l,I u,I v,I A,I B,I C,.string y,.bool h] 37)=wz at N L M |-;generalize w.heap.size=ba at L X |-;generalize w1.heap.size=bb at M X |-
 go_loopw [5] (fun t5 w'=>∃ i:Nat,i<=4/\t5=I i/\(∀ j,j<i->ovs m o r t j=ovs v A B C j)/\Fr Nil wz w') (fun t5 _=>4-(intOf t5).toNat)
 case atStart=>exact⟨0,V,rfl,fun j h=>absurd h (BF _),U _ _⟩
 case round =>
  obtain⟨i,hi,rfl,hs,hf⟩:=hrel;have a1:∀ q k,(wr.drewN q).cell? (Y ba k)=_:=fun q=>(L.o.fr (hf.drewN q) (fun e=>e)).cell;have a2:∀ q k,(wr.drewN q).cell? (Y bb k)=_:=fun q=>(M.o.fr (hf.drewN q) (fun e=>e)).cell;have J:=Z hs;have c:=Z hf;clear hs hf;by_cases a7:i<4
  .have hcs:i=0\/i=1\/i=2\/i=3:=V
   rcases hcs with rfl|rfl|rfl|rfl
   .by_cases ho:m=v
    .subst ho
     have f:(m != m)=false:=bG
     go_wp2_with fail
     go_quiet (fail)
     go_wp2_with fail;refine⟨⟨1,V,rfl,fun j hj=>?_,c.o.drewN _⟩,O⟩;by_cases e:j=0
     .subst e;rfl
     .exact J.o j V
    .have f:(m != v)=true:=by simp[ho]
     exact SI
   .by_cases ho:o=A
    .subst ho
     have f:(o != o)=false:=bG
     go_wp2_with fail
     go_quiet (fail)
     go_wp2_with fail;refine⟨⟨2,V,rfl,fun j hj=>?_,c.o.drewN _⟩,O⟩;by_cases e:j=1
     .subst e;rfl
     .exact J.o j V
    .have f:(o != A)=true:=by simp[ho]
     exact SI
   .by_cases ho:r=B
    .subst ho
     have f:(r != r)=false:=bG
     go_wp2_with fail
     go_quiet (fail)
     go_wp2_with fail;refine⟨⟨3,V,rfl,fun j hj=>?_,c.o.drewN _⟩,O⟩;by_cases e:j=2
     .subst e;rfl
     .exact J.o j V
    .have f:(r != B)=true:=by simp[ho]
     exact SI
   .by_cases ho:t=C
    .subst ho
     have f:(t != t)=false:=bG
     go_wp2_with fail
     go_quiet (fail)
     go_wp2_with fail;refine⟨⟨4,V,rfl,fun j hj=>?_,c.o.drewN _⟩,O⟩;by_cases e:j=3
     .subst e;rfl
     .exact J.o j V
    .have f:(t != C)=true:=by simp[ho]
     exact SI
  .have:i=4:=V
   subst this;have Q:m=v:=J.o 0 O;have R:o=A:=J.o 1 O;have S:r=B:=J.o 2 O;have T:t=C:=J.o 3 O;have a4:∀ k,wr.cell? (Y ba k)=_:=a1 0;have a5:∀ k,wr.cell? (Y bb k)=_:=a2 0;clear a1 a2;by_cases d:n=l
   .by_cases h2:s=u
    .by_cases h3:x.toList=y.toList
     .by_cases h4:g=h
      .have e1:(n==l)=true:=by simp[d]
       have e2:(s==u)=true:=by simp[h2]
       have e3:(x.toList==y.toList)=true:=by simp[h3]
       have e4:(g==h)=true:=by simp[h4]
       have D:=Z (show ZV (⟨n,s,m,o,r,t,x,g⟩:Ver) (⟨l,u,v,A,B,C,y,h⟩:Ver)=true by simp[ZV,Q,R,S,T,d,h2,h3,h4]);clear Q R S T d h2 h3 h4;go_wp2_with fail;go_ret;exact⟨by rw[D.o];rfl,N.o.trans c.o⟩
      .have e1:(n==l)=true:=by simp[d]
       have e2:(s==u)=true:=by simp[h2]
       have e3:(x.toList==y.toList)=true:=by simp[h3]
       have e4:(g==h)=false:=by simp[h4]
       have D:=Z (show ZV (⟨n,s,m,o,r,t,x,g⟩:Ver) (⟨l,u,v,A,B,C,y,h⟩:Ver)=false by simp[ZV,d,h2,h3,h4]);clear Q R S T d h2 h3 h4;go_wp2_with fail;go_ret;exact⟨by rw[D.o];rfl,N.o.trans c.o⟩
     .have e1:(n==l)=true:=by simp[d]
      have e2:(s==u)=true:=by simp[h2]
      have e3:(x.toList==y.toList)=false:=by simp[h3]
      have D:=Z (show ZV (⟨n,s,m,o,r,t,x,g⟩:Ver) (⟨l,u,v,A,B,C,y,h⟩:Ver)=false by simp[ZV,d,h2,h3]);clear Q R S T d h2 h3;go_wp2_with fail;go_ret;exact⟨by rw[D.o];rfl,N.o.trans c.o⟩
    .have e1:(n==l)=true:=by simp[d]
     have e2:(s==u)=false:=by simp[h2]
     have D:=Z (show ZV (⟨n,s,m,o,r,t,x,g⟩:Ver) (⟨l,u,v,A,B,C,y,h⟩:Ver)=false by simp[ZV,d,h2]);clear Q R S T d h2;go_wp2_with fail;go_ret;exact⟨by rw[D.o];rfl,N.o.trans c.o⟩
   .have e1:(n==l)=false:=by simp[d]
    have D:=Z (show ZV (⟨n,s,m,o,r,t,x,g⟩:Ver) (⟨l,u,v,A,B,C,y,h⟩:Ver)=false by simp[ZV,d]);clear Q R S T d;go_wp2_with fail;go_ret;exact⟨by rw[D.o];rfl,N.o.trans c.o⟩
theorem Dk(h:p:=by
 go_ret;exact⟨false,rfl,⟨fun h=>absurd h O,fun h=>absurd h (c4.o (by rw[<- c7.o,<- b0.o];exact fun h=>by have:=(Xk _ _).2 h;rw[<- HB.o] at this;exact absurd this O))⟩,HF.o.trans a3.o⟩):p:=h
theorem Dm(h:p:=by
 refine⟨⟨i+1,V,by push_cast;rfl,fun j a b hj=>?_,HF.o.trans a3.o⟩,by simp[intOf];omega⟩;by_cases e:j=i
 .subst e;rw[<- c7.o,<- b0.o];exact(Xk _ _).1 HB.o.symm
 .exact HS.o j a b V):p:=h
theorem Lr(h:p:=by
 go_wp2_with fail
 go_region_held3 (fun o=>o.cell? (Y G (i*8))=some (I node)/\o.cell? (Y G (i*8+1))=some (I d0)/\o.cell? (Y G (i*8+2))=some (I o0)/\o.cell? (Y G (i*8+3))=some (I o1)/\o.cell? (Y G (i*8+4))=some (I o2)/\o.cell? (Y G (i*8+5))=some (I o3)/\o.cell? (Y G (i*8+6))=some (.string b8)/\o.cell? (Y G (i*8+7))=some (.bool c0)/\o.cell? (Y q (i*8))=some (I B)/\o.cell? (Y q (i*8+1))=some (I N)/\o.cell? (Y q (i*8+2))=some (I a6)/\o.cell? (Y q (i*8+3))=some (I a7)/\o.cell? (Y q (i*8+4))=some (I a8)/\o.cell? (Y q (i*8+5))=some (I a9)/\o.cell? (Y q (i*8+6))=some (.string v)/\o.cell? (Y q (i*8+7))=some (.bool A)) (first|assumption|go_keep)
  (first|(go_at_call 67;refine(Q.o _).mono ?_;rintro e w2 ⟨rfl,a4⟩;have R:Fr Nil wr w2:=Fr.trans zd a4;have a5:=T.o w2 R;have a3:=Z R;clear a4 R))
 clear b4 a5;go_wp2_with fail
 first
  | (clear d2;exact Dm)
  | exact Dk):p:=h
theorem Dn(h:p:=by
 rw[BJ c6,BJ b5] at hs;unfold Z7 at hs;have u:∀ c,Fr Nil wr c->∀ k,k<8->c.cell? (Y G (i*8+k))=D[i].cells[k]?:=fun c f k hk=>VRow.cells (ze H1.o (hf.trans f) (fun _ _=>id)) i c6 k hk;have g:∀ c,Fr Nil wr c->c.cell? (Y q (i*8+1))=J[i].cells[1]?:=fun c f=>VRow.cells (ze H2.o (hf.trans f) (fun _ _=>id)) i b5 1 V;obtain⟨V1,b2⟩:∃ p,p=D[i]:=⟨_,rfl⟩;obtain⟨V2,b1⟩:∃ p,p=J[i]:=⟨_,rfl⟩;rw[<- b2] at u hs;rw[<- b1] at g hs;have b0:=Z b1;have HF:=Z hf;have a5:∀ c,Fr Nil wr c->c.cell? (Y q (i*8+1))=some (I V2.seq):=fun c f=>g c f;obtain⟨m,x,x0,x1,x2,x3,d,l⟩:=V1;have y0:wr.cell? (Y G (i*8))=some (I m):=u wr (U _ _) 0 V;have y1:wr.cell? (Y G (i*8+1))=some (I x):=u wr (U _ _) 1 V;have y2:wr.cell? (Y G (i*8+2))=some (I x0):=u wr (U _ _) 2 V;have y3:wr.cell? (Y G (i*8+3))=some (I x1):=u wr (U _ _) 3 V;have y4:wr.cell? (Y G (i*8+4))=some (I x2):=u wr (U _ _) 4 V;have y5:wr.cell? (Y G (i*8+5))=some (I x3):=u wr (U _ _) 5 V;have y6:wr.cell? (Y G (i*8+6))=some (.string d):=u wr (U _ _) 6 V;have y7:wr.cell? (Y G (i*8+7))=some (.bool l):=u wr (U _ _) 7 V;have b9:=Z (HF.o.alloc (.cells #[I m,I 0,I x0,I x1,I x2,I x3,.string d,.bool l] 37));have d3:=(c3.o _ b9.o).1;have d4:=(c3.o _ b9.o).2;have z2:=a5 _ ((U Nil wr).alloc (.cells #[I m,I x,I x0,I x1,I x2,I x3,.string d,.bool l] 37));clear b2 b1 u g a5 hf;by_cases hz:V2.seq=0
 .rw[Bl hz] at hs
  rw[hz] at z2;by_cases c1:x<=mo
  .rw[Bl (.inl c1)] at hs
   subst hs;go_wp2_with fail;go_ret2;exact⟨rfl,b9.o⟩
  by_cases c2:16*(W.uS:Int)<x
  .rw[Bl (.inr c2)] at hs
   subst hs;go_wp2_with fail;go_ret2;exact⟨rfl,b9.o⟩
  rw[CW (fun e=>e.elim c1 c2)] at hs;have a0:=Blk.new wr [I m,I 0,I x0,I x1,I x2,I x3,.string d,.bool l] 37;have X:Fr Nil w (wr.alloc (.cells #[I m,I 0,I x0,I x1,I x2,I x3,.string d,.bool l] 37)):=HF.o.alloc _;go_wp2_with fail;generalize wr.alloc (.cells #[I m,I 0,I x0,I x1,I x2,I x3,.string d,.bool l] 37)=wb at a0 X |-;generalize wr.heap.size=C at a0 |-;have g:∀ c,Fr Nil wb c->∀ k,k<8->c.cell? (Y q (i*8+k))=V2.cells[k]?:=fun c f k hk=>by rw[b0.o];exact VRow.cells (ze H2.o (X.trans f) (fun _ _=>id)) i b5 k hk
  have Q:=Z (fun c=>YD ⟨m,0,x0,x1,x2,x3,d,l⟩ V2 c);have b3:=Z X;have y:=Z a0;clear b0 a0 X y0 y1 y2 y3 y4 y5 y6 y7 z2;generalize c5:ZV ⟨m,0,x0,x1,x2,x3,d,l⟩ V2=b at hs Q;clear c5;obtain⟨B,N,a6,a7,a8,a9,v,A⟩:=V2;simp only[Ver.cells] at g Q;have T:aa (∀ c,Fr Nil wb c->c.cell? (Y C 0)=some (I m)/\c.cell? (Y C 1)=some (I 0)/\c.cell? (Y C 2)=some (I x0)/\c.cell? (Y C 3)=some (I x1)/\c.cell? (Y C 4)=some (I x2)/\c.cell? (Y C 5)=some (I x3)/\c.cell? (Y C 6)=some (.string d)/\c.cell? (Y C 7)=some (.bool l)/\c.cell? (Y q (i*8))=some (I B)/\c.cell? (Y q (i*8+1))=some (I N)/\c.cell? (Y q (i*8+2))=some (I a6)/\c.cell? (Y q (i*8+3))=some (I a7)/\c.cell? (Y q (i*8+4))=some (I a8)/\c.cell? (Y q (i*8+5))=some (I a9)/\c.cell? (Y q (i*8+6))=some (.string v)/\c.cell? (Y q (i*8+7))=some (.bool A)):=fun c f=>⟨(y.o.fr f id).cell 0,(y.o.fr f id).cell 1,(y.o.fr f id).cell 2,(y.o.fr f id).cell 3,(y.o.fr f id).cell 4,(y.o.fr f id).cell 5,(y.o.fr f id).cell 6,(y.o.fr f id).cell 7,g c f 0 V,g c f 1 V,g c f 2 V,g c f 3 V,g c f 4 V,g c f 5 V,g c f 6 V,g c f 7 V⟩;have b4:=T.o wb (U _ _);have HS:=Z hs;clear g hs hz
  go_region_held3 (fun o=>o.cell? (Y C 0)=some (I m)/\o.cell? (Y C 1)=some (I 0)/\o.cell? (Y C 2)=some (I x0)/\o.cell? (Y C 3)=some (I x1)/\o.cell? (Y C 4)=some (I x2)/\o.cell? (Y C 5)=some (I x3)/\o.cell? (Y C 6)=some (.string d)/\o.cell? (Y C 7)=some (.bool l)/\o.cell? (Y q (i*8))=some (I B)/\o.cell? (Y q (i*8+1))=some (I N)/\o.cell? (Y q (i*8+2))=some (I a6)/\o.cell? (Y q (i*8+3))=some (I a7)/\o.cell? (Y q (i*8+4))=some (I a8)/\o.cell? (Y q (i*8+5))=some (I a9)/\o.cell? (Y q (i*8+6))=some (.string v)/\o.cell? (Y q (i*8+7))=some (.bool A)) (first|assumption|go_keep|exact T.o _ zd)
   (first|(go_at_call 67;refine(Q.o _).mono ?_;rintro e w2 ⟨rfl,a4⟩;have R:Fr Nil wb w2:=Fr.trans zd a4;have a5:=T.o w2 R;have a3:=Z R;clear a4 R))
  clear b4 a5;cases b with
  | true =>
   go_wp2_with fail;exact⟨⟨i+1,x,V,rfl,by push_cast;rfl,HS.o,b3.o.trans a3.o⟩,by simp[intOf];omega⟩
  | false =>
   have b7:none=r:=HS.o;subst b7;go_wp2_with fail;go_ret2;exact⟨rfl,b3.o.trans a3.o⟩
 .rw[CW hz] at hs
  have a0:=Blk.new wr [I m,I x,I x0,I x1,I x2,I x3,.string d,.bool l] 37;have X:Fr Nil w (wr.alloc (.cells #[I m,I x,I x0,I x1,I x2,I x3,.string d,.bool l] 37)):=HF.o.alloc _;go_wp2_with fail;generalize wr.alloc (.cells #[I m,I x,I x0,I x1,I x2,I x3,.string d,.bool l] 37)=wb at a0 X |-;generalize wr.heap.size=C at a0 |-;have g:∀ c,Fr Nil wb c->∀ k,k<8->c.cell? (Y q (i*8+k))=V2.cells[k]?:=fun c f k hk=>by rw[b0.o];exact VRow.cells (ze H2.o (X.trans f) (fun _ _=>id)) i b5 k hk
  have Q:=Z (fun c=>YD ⟨m,x,x0,x1,x2,x3,d,l⟩ V2 c);have b3:=Z X;have y:=Z a0;clear b0 a0 X y0 y1 y2 y3 y4 y5 y6 y7 z2;generalize c5:ZV ⟨m,x,x0,x1,x2,x3,d,l⟩ V2=b at hs Q;clear c5;obtain⟨B,N,a6,a7,a8,a9,v,A⟩:=V2;simp only[Ver.cells] at g Q;have T:aa (∀ c,Fr Nil wb c->c.cell? (Y C 0)=some (I m)/\c.cell? (Y C 1)=some (I x)/\c.cell? (Y C 2)=some (I x0)/\c.cell? (Y C 3)=some (I x1)/\c.cell? (Y C 4)=some (I x2)/\c.cell? (Y C 5)=some (I x3)/\c.cell? (Y C 6)=some (.string d)/\c.cell? (Y C 7)=some (.bool l)/\c.cell? (Y q (i*8))=some (I B)/\c.cell? (Y q (i*8+1))=some (I N)/\c.cell? (Y q (i*8+2))=some (I a6)/\c.cell? (Y q (i*8+3))=some (I a7)/\c.cell? (Y q (i*8+4))=some (I a8)/\c.cell? (Y q (i*8+5))=some (I a9)/\c.cell? (Y q (i*8+6))=some (.string v)/\c.cell? (Y q (i*8+7))=some (.bool A)):=fun c f=>⟨(y.o.fr f id).cell 0,(y.o.fr f id).cell 1,(y.o.fr f id).cell 2,(y.o.fr f id).cell 3,(y.o.fr f id).cell 4,(y.o.fr f id).cell 5,(y.o.fr f id).cell 6,(y.o.fr f id).cell 7,g c f 0 V,g c f 1 V,g c f 2 V,g c f 3 V,g c f 4 V,g c f 5 V,g c f 6 V,g c f 7 V⟩;have b4:=T.o wb (U _ _);have HS:=Z hs;clear g hs hz
  go_region_held3 (fun o=>o.cell? (Y C 0)=some (I m)/\o.cell? (Y C 1)=some (I x)/\o.cell? (Y C 2)=some (I x0)/\o.cell? (Y C 3)=some (I x1)/\o.cell? (Y C 4)=some (I x2)/\o.cell? (Y C 5)=some (I x3)/\o.cell? (Y C 6)=some (.string d)/\o.cell? (Y C 7)=some (.bool l)/\o.cell? (Y q (i*8))=some (I B)/\o.cell? (Y q (i*8+1))=some (I N)/\o.cell? (Y q (i*8+2))=some (I a6)/\o.cell? (Y q (i*8+3))=some (I a7)/\o.cell? (Y q (i*8+4))=some (I a8)/\o.cell? (Y q (i*8+5))=some (I a9)/\o.cell? (Y q (i*8+6))=some (.string v)/\o.cell? (Y q (i*8+7))=some (.bool A)) (first|assumption|go_keep|exact T.o _ zd)
   (first|(go_at_call 67;refine(Q.o _).mono ?_;rintro e w2 ⟨rfl,a4⟩;have R:Fr Nil wb w2:=Fr.trans zd a4;have a5:=T.o w2 R;have a3:=Z R;clear a4 R))
  clear b4 a5;cases b with
  | true =>
   go_wp2_with fail;exact⟨⟨i+1,s,V,rfl,by push_cast;rfl,HS.o,b3.o.trans a3.o⟩,by simp[intOf];omega⟩
  | false =>
   have b7:none=r:=HS.o;subst b7;go_wp2_with fail;go_ret2;exact⟨rfl,b3.o.trans a3.o⟩):p:=h
theorem Do(h:p:=by
 have u:∀ c,Fr Nil wr c->∀ k,k<8->c.cell? (Y G (i*8+k))=D[i].cells[k]?:=fun c f k hk=>VRow.cells (ze H1.o (hf.trans f) (fun _ _=>id)) i c6 k hk;have g:∀ c,Fr Nil wr c->∀ k,k<8->c.cell? (Y q (i*8+k))=J[i].cells[k]?:=fun c f k hk=>VRow.cells (ze H2.o (hf.trans f) (fun _ _=>id)) i b5 k hk;have c4:=Z (show ¬D[i]=J[i]->¬D=J from fun e h=>by subst h;exact e rfl);have HS:=Z hs;have HF:=Z hf;obtain⟨V1,b2⟩:∃ p,p=D[i]:=⟨_,rfl⟩;obtain⟨V2,b1⟩:∃ p,p=J[i]:=⟨_,rfl⟩;rw[<- b2] at u;rw[<- b1] at g;have c7:=Z b2;have b0:=Z b1;have Q:=Z (fun c=>YD V1 V2 c);obtain⟨b,hb⟩:∃ b,b=ZV V1 V2:=⟨_,rfl⟩;rw[<- hb] at Q;have HB:=Z hb;obtain⟨node,d0,o0,o1,o2,o3,b8,c0⟩:=V1;obtain⟨B,N,a6,a7,a8,a9,v,A⟩:=V2;simp only[Ver.cells] at u g Q;clear b2 b1 hs hf hb;have T:aa (∀ c,Fr Nil wr c->c.cell? (Y G (i*8))=some (I node)/\c.cell? (Y G (i*8+1))=some (I d0)/\c.cell? (Y G (i*8+2))=some (I o0)/\c.cell? (Y G (i*8+3))=some (I o1)/\c.cell? (Y G (i*8+4))=some (I o2)/\c.cell? (Y G (i*8+5))=some (I o3)/\c.cell? (Y G (i*8+6))=some (.string b8)/\c.cell? (Y G (i*8+7))=some (.bool c0)/\c.cell? (Y q (i*8))=some (I B)/\c.cell? (Y q (i*8+1))=some (I N)/\c.cell? (Y q (i*8+2))=some (I a6)/\c.cell? (Y q (i*8+3))=some (I a7)/\c.cell? (Y q (i*8+4))=some (I a8)/\c.cell? (Y q (i*8+5))=some (I a9)/\c.cell? (Y q (i*8+6))=some (.string v)/\c.cell? (Y q (i*8+7))=some (.bool A)):=fun c f=>⟨u c f 0 O,u c f 1 O,u c f 2 O,u c f 3 O,u c f 4 O,u c f 5 O,u c f 6 O,u c f 7 O,g c f 0 O,g c f 1 O,g c f 2 O,g c f 3 O,g c f 4 O,g c f 5 O,g c f 6 O,g c f 7 O⟩;have b4:=T.o wr (U _ _);clear u g;cases b with
 | true =>
  have d2:=0;exact Lr
 | false =>
  exact Lr):p:=h
theorem Ls(h:p:=by
 have c6:i<D.length:=by have:=HN.o;omega
 have b5:i<J.length:=by have:=HL.o;omega
 obtain⟨G,d5,e1,_,_⟩:=zl H1.o V;obtain⟨q,d6,e2,_,_⟩:=zl H2.o V;simp only[wO] at e1 e2;obtain⟨rfl,-,-⟩:=e1;obtain⟨rfl,-,-⟩:=e2
 first
  | (clear mk24;exact Do)
  | exact Dn):p:=h
theorem WG(v1 v2:Value)(D J:List Ver)(w:World)(h1:VRow w v1 D)(h2:VRow w v2 J)(hl:D.length<1000000000) :
 Calls prog 118 #[v1,v2] w fun e o=>∃ b:Bool,e=.returned (.bool b)/\(b=true↔D=J)/\Fr Nil w o:=by
 unfold VRow at h1 h2;obtain⟨a1,c1,rfl⟩:=zf h1;obtain⟨a2,c2,rfl⟩:=zf h2;have H1:=Z h1;have H2:=Z h2;clear h1 h2;by_cases t:D.length=J.length
 .have HL:=Z t
  generalize hn:D.length=n at hl t H1 |-;rw[<- t] at H2 |-;have HN:=Z hn;clear t hn;go_enter func118,ntmps118;go_wp2_with fail
  go_loopw [5] (fun t5 o=>∃ i:Nat,i<=n/\t5=I i/\(∀ j (h1:j<D.length) (h2:j<J.length),j<i->D[j]=J[j])/\Fr Nil w o) (fun t5 _=>n-(intOf t5).toNat)
  case atStart=>exact⟨0,V,rfl,fun j _ _ h=>absurd h (BF _),U _ _⟩
  case round =>
   obtain⟨i,hi,rfl,hs,hf⟩:=hrel;by_cases d1:i<n
   .have mk24:=0
    exact Ls
   .have HEQ:=Z (show D=J from O3 HL.o (fun j a b=>hs j a b (by have:=HN.o;omega)))
    have HF:=Z hf;clear hs hf;go_wp2_with fail;go_ret;exact⟨true,rfl,⟨fun _=>HEQ.o,fun _=>rfl⟩,HF.o⟩
 .have c4:=Z (show ¬D=J from fun h=>t (by rw[h]))
  have b6:((D.length:Int) != J.length)=true:=by simp;omega
  generalize D.length=n1 at t b6 H1 hl;generalize J.length=n2 at t b6 H2;go_enter func118,ntmps118;go_wp2_with fail;go_ret;exact⟨false,rfl,⟨fun h=>absurd h O,fun h=>absurd h c4.o⟩,U _ _⟩
end Go.Proofs.YtkhnggkkiefcdaaGreatDoor
