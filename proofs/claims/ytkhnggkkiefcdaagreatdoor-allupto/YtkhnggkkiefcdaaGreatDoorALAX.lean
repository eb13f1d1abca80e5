/- larder: joined texts -/
import Derived.Test.YtkhnggkkiefcdaaGreatDoorALAW
namespace Go.Proofs.YtkhnggkkiefcdaaGreatDoor
open Go.RowKit Proofs.Tryz
set_option maxRecDepth 100000
set_option maxHeartbeats 8000000
variable{K:Keys}{st:List LM}{F:List Fact}{p T:Prop}{W:WM}{N:NM}{m:LM}{l:List Ver}{v:Ver}{key:ByteArray}{M M':DM}{y:Lay}{t r:Nat}{x:Int}
def Wy(a:Int)(b:Int)(K:Keys):Prop:=∀ e∈K,∀ u∈e.2,u.node=a->u.seq<=b
def Given(K:Keys):Prop:=∀ e∈K,∀ u∈e.2,1<=u.seq
def Ti(a:Int)(K:Keys):Prop:=∀ e∈K,∀ u∈e.2,u.seq=0->u.node=a
theorem Wy.mono{c o g:Int}(h:Wy c o K)(hm:o<=g):Wy c g K:=fun e r u A y=>Int.le_trans (h e r u A y) hm
theorem Given.zero{a:Int}(h:Given K):Ti a K:=fun e b u c d=>by have:=h e b u c;omega
theorem Qy{b k top:Int}:∀ {l m:List Ver}{s:Int},(∀ u∈l,u.node=b->u.seq<=k)->(∀ u∈l,1<=u.seq)->(∀ u∈m,u.seq=0->u.node=b)->l≠m->Z7 k top l m s=none
 | [],[],s,_,_,_,h=>absurd rfl h
 | a::l,u::m,s,f,g,i,h=>by
  have o:=fun s=>Qy (top:=top) (s:=s) (fun x c=>f x (CV _ c)) (fun x c=>g x (CV _ c)) (fun x c=>i x (CV _ c)) (l:=l) (m:=m);unfold Z7;have p:=g a (Ba ..);by_cases d:u.seq=0
  .rw[Bn d]
   split
   .rfl
   .split
    .rename_i hm hs
     exfalso
     have e:=(Xk _ _).1 hs;have j:=i u (Ba ..) d;rw[<- e] at j;have:=f a (Ba ..) j;exact hm (.inl this)
    .rfl
  .rw[CY d]
   split
   .rename_i hs
    have e:=(Xk _ _).1 hs;subst e;exact o s (fun e=>h (by rw[e]))
   .rfl
 | [],_::_,_,_,_,_,_=>rfl
 | _::_,[],_,_,_,_,_=>rfl
theorem T4{mo top:Int}:∀ {S:Keys},Given S->zQ top mo S S=(S,mo,true)
 | [],_=>rfl
 | (a,l)::S,h=>by
  have d:=T4 (mo:=mo) (top:=top) (S:=S) (fun e b=>h e (CV _ b));rw[Ul (Wx (n:=0) (fun u c=>by have:=h (a,l) (Ba ..) u c;omega)) V,d]
theorem OP{c i top:Int}:∀ {S M:Keys},Wy c i S->Given S->Ti c M->S≠M->zQ top i S M=(M,i,false)
 | [],[],_,_,_,h=>absurd rfl h
 | (a,l)::S,(b,u)::M,j,g,k,h=>by
  by_cases d:a=b
  .subst d
   by_cases m:l=u
   .subst m
    have p:=OP (top:=top) (S:=S) (M:=M) (fun e f=>j e (CV _ f)) (fun e f=>g e (CV _ f)) (fun e f=>k e (CV _ f)) (fun e=>h (by rw[e]));rw[Ul (Wx (n:=0) (fun u o=>by have:=g (a,l) (Ba ..) u o;omega)) V,p]
   .unfold zQ
    rw[Bn rfl,Qy (j (a,l) (Ba ..)) (g (a,l) (Ba ..)) (k (a,u) (Ba ..)) m]
  .unfold zQ
   rw[CY d]
 | [],_::_,_,_,_,_=>rfl
 | _::_,[],_,_,_,_=>rfl
theorem Qz{mo top:Int}:∀ (A:Keys){S M:Keys},Given A->zQ top mo (A++S) (A++M)=(A++(zQ top mo S M).1,(zQ top mo S M).2)
 | [],_,_,_=>rfl
 | (a,l)::A,S,M,h=>by
  have d:=Qz (mo:=mo) (top:=top) A (S:=S) (M:=M) (fun e b=>h e (CV _ b));rw[Bb,Bb,Ul (Wx (n:=0) (fun u c=>by have:=h (a,l) (Ba ..) u c;omega)) V,d]
  rfl
theorem Ml{mo top n:Int}(key:ByteArray)(v:Ver)(g:ZR K)(c:Given K)(b:v.seq=0)(i:mo<n)(j:0<=mo)(k:n<=top) :
 zQ top mo (Z4 K key [{v with seq:=n}]) (Z4 K key [v])=(Z4 K key [{v with seq:=n}],n,true):=by
 rw[Yl key _ g,Yl key _ g];simp only[vn,Ac];unfold Ya;have d:∀ e∈K.take (low zi (K.map Prod.fst) key),e∈K:=fun e a=>BP a;have f:∀ e∈K.drop (if Zb zi (K.map Prod.fst) key=true then low zi (K.map Prod.fst) key+1 else low zi (K.map Prod.fst) key),e∈K:=fun e a=>BA a;generalize K.take (low zi (K.map Prod.fst) key)=A at d |-;generalize K.drop (if Zb zi (K.map Prod.fst) key=true then low zi (K.map Prod.fst) key+1 else low zi (K.map Prod.fst) key)=C at f |-;rw[Bg,Bg,Qz A (fun e a=>c e (d e a))];simp only[xM];have h:Z7 mo top [{v with seq:=n}] [v] 0=some n:=by
  unfold Z7;rw[Bn b,CY aU,Bn ((Xk _ _).2 (by cases v;simp only at b |-;rw[b]))]
  rfl
 rw[Qx h V,T4 (fun e a=>c e (f e a))];simp[Xd,b]
def ZA(m:LM)(S:SM):Prop:=m.uT=S.uT/\m.uW=S.uW
structure MOk(node:Int)(m:LM)(t:Nat):Prop where
 ru:ZR m.uT
 uT:m.uT.length<=t
 oH:∀ e∈m.uT,e.2.length<=5
 uW:m.uW.length<=33
 zero:Ti node m.uT
 node:m.node=node
def WT(node:Int)(a b:Nat)(S:SM):Prop:=Zc S/\b<=S.tr/\S.tr<=16*a/\Wy node b S.uT
def ZB(node:Int)(a b:Nat)(F:List Fact)(p:Nat):Prop:=∀ q,p<=q->q<=F.length->WT node a b (atF F q)
def Hist(st:List LM)(F:List Fact)(p:Nat)(a:Prop):Prop :=
 ∃ j:Nat->Nat,(∀ q r,q<=r->j q<=j r)/\(∀ q,p<=q->q<=F.length->∃ m,st[j q]?=some m/\ZA m (atF F q))/\(a->j F.length+1=st.length)
theorem Hist.mono{p e:Nat}{c:Prop}(h:Hist st F p T)(A:p<=e)(y:c->T):Hist st F e c:=by
 obtain⟨j,g,o,r⟩:=h;exact⟨j,g,fun q a b=>o q (CQ A a) b,fun t=>r (y t)⟩
theorem Hist.tw{p:Nat}(h:Hist st F p True)(c:p<=F.length):∃ m,st[st.length-1]?=some m/\ZA m (atF F F.length)/\0<st.length:=by
 obtain⟨j,g,a,b⟩:=h;obtain⟨m,hm,d⟩:=a F.length c (CR _);have:=b trivial;have e:j F.length=st.length-1:=V
 rw[e] at hm;exact⟨m,hm,d,V⟩
theorem Hist.quiet{p:Nat}(h:Hist st F p T)(k:p<=F.length)(x:Fact)(l:∀ m,ZA m (atF F F.length)->ZA m ((atF F F.length).enter x)):Hist st (F++[x]) p T:=by
 obtain⟨j,g,f,i⟩:=h;refine⟨fun q=>j (min q F.length),fun q r h=>g _ _ V,fun q a b=>?_,fun t=>?_⟩
 .rw[FS,CS] at b
  by_cases c:q<=F.length
  .obtain⟨m,hm,d⟩:=f q a c
   refine⟨m,?_,by rw[XX c];exact d⟩;show st[j (min q F.length)]?=_;rw[Ad c];exact hm
  .have e:q=F.length+1:=V
   obtain⟨m,hm,d⟩:=f F.length k (CR _);refine⟨m,?_,?_⟩
   .show st[j (min q F.length)]?=_
    rw[ui V];exact hm
   .rw[e,XO]
    exact l m d
 .rw[FS,CS]
  show j (min (F.length+1) F.length)+1=_;rw[ui V];exact i t
theorem Hist.push{G:List Fact}{p:Nat}(l:G.length<=1)(h:p<=F.length->Hist st F p T)(g:p<=(F++G).length)(m:LM)(hm:ZA m (atF (F++G) (F++G).length)):Hist (st++[m]) (F++G) p True:=by
 by_cases f:p<=F.length
 .obtain⟨j,h1,h2,h3⟩:=h f
  refine⟨fun q=>if q<(F++G).length then min (j q) st.length else st.length,fun q r h=>?_,fun q a b=>?_,fun _=>?_⟩
  .have:=h1 q r h
   simp only;split <;> split <;> omega
  .by_cases hq:q<(F++G).length
   .have hqF:q<=F.length:=by rw[FS] at hq;omega
    obtain⟨k,c,i⟩:=h2 q a hqF;have d:=(BN.1 c).1;refine⟨k,?_,by rw[XX hqF];exact i⟩;simp only;rw[Bn hq,Ad V,As d];exact c
   .have e:q=(F++G).length:=V
    refine⟨m,?_,by rw[e];exact hm⟩;simp only;rw[CY hq];simp
  .simp
 .refine⟨fun _=>st.length,fun _ _ _=>CR _,fun q a b=>?_,fun _=>bG⟩
  have e:q=(F++G).length:=by rw[FS] at b g |-;omega
  exact⟨m,bG,by rw[e];exact hm⟩
theorem Hist.qA(m:LM)(hm:ZA m (atF F F.length)):Hist [m] F F.length True:=by
 refine⟨fun _=>0,fun _ _ _=>CR _,fun q a b=>?_,fun _=>rfl⟩;have e:q=F.length:=V
 rw[e];exact⟨m,rfl,hm⟩
theorem Hist.nB{p:Nat}(h:Hist st F p T)(m:LM):Hist (st++[m]) F p False:=by
 obtain⟨j,d,e,_⟩:=h;refine⟨j,d,fun q a b=>?_,fun f=>f.elim⟩;obtain⟨i,c,g⟩:=e q a b;exact⟨i,by rw[As (BN.1 c).1];exact c,g⟩
theorem Um{a:List Fact}(h:a<+:F){q:Nat}(b:q<=a.length):atF a q=atF F q:=by
 obtain⟨r,rfl⟩:=h;rw[XX b]
theorem Hist.cut{c:List Fact}{p e:Nat}(h:Hist st F p T)(d:c<+:F)(k:p<=e):Hist st c e False:=by
 obtain⟨j,g,i,_⟩:=h;refine⟨j,g,fun q a b=>?_,fun f=>f.elim⟩;obtain⟨m,hm,l⟩:=i q (CQ k a) (CQ b d.length_le);exact⟨m,hm,by rw[Um d b];exact l⟩
theorem ZB.cut{node:Int}{c f:Nat}{d:List Fact}{p g:Nat}(h:ZB node c f F p)(e:d<+:F)(i:p<=g):ZB node c f d g:=fun q a b=>by
 rw[Um e b];exact h q (CQ i a) (CQ b e.length_le)
theorem ZB.nl{node:Int}{c f:Nat}{p:Nat}(h:p<=F.length->ZB node c f F p)(x:Fact)(g:WT node c f ((atF F F.length).enter x)):ZB node c f (F++[x]) p:=fun q a b=>by
 rw[FS,CS] at b;by_cases d:q<=F.length
 .rw[XX d]
  exact h (CQ a d) q a d
 .have e:q=F.length+1:=V
  rw[e,XO];exact g
theorem WT.mono{node:Int}{e c o g:Nat}{S:SM}(h:WT node e o S)(r:e<=c)(hm:o<=g)(y:g<=S.tr):WT node c g S :=
 ⟨h.1,y,CQ h.2.2.1 (vB 16 r),h.2.2.2.mono V⟩
theorem Hist.pX{p:Nat}(h:Hist st F p T)(R:p<=F.length) :
 ∃ i m,st[i]?=some m/\ZA m (atF F F.length)/\(∀ k f,i<k->st[k]?=some f->¬ZA f (atF F F.length))/\Hist (st.take i++[m]) F p True/\(T->i+1=st.length):=by
 obtain⟨j,C,D,L⟩:=h;obtain⟨X,A,B⟩:=D F.length R (CR _)
 -- the greatest index
 have key:∀ d i m,st.length-i<=d->st[i]?=some m->ZA m (atF F F.length)->j F.length<=i->∃ i m,st[i]?=some m/\ZA m (atF F F.length)/\j F.length<=i/\∀ k f,i<k->st[k]?=some f->¬ZA f (atF F F.length):=by
  intro d
  induction d with
  | zero =>
   intro i m M hm;have:=(BN.1 hm).1;omega
  | succ d S =>
   intro i m M hm v J;by_cases o:∃ k f,i<k/\st[k]?=some f/\ZA f (atF F F.length)
   .obtain⟨k,f,x,c,g⟩:=o
    exact S k f (by have:=(BN.1 c).1;omega) c g V
   .exact⟨i,m,hm,v,J,fun k f x c g=>o ⟨k,f,x,c,g⟩⟩
 obtain⟨i,m,hm,v,J,s⟩:=key _ _ X (CR _) A B (CR _);have N:=(BN.1 hm).1;have l:∀ k f,k<=i->st[k]?=some f->(st.take i++[m])[k]?=some f:=fun k f x c=>by
  by_cases y:k<i
  .rw[As aR,AQ y]
   exact c
  .have:k=i:=V
   subst this;rw[hm] at c;obtain rfl:=BC c;rw[AL aR];have K:k-(st.take k).length=0:=by rw[CT];omega
   rw[K]
   rfl
 refine⟨i,m,hm,v,s,⟨fun q=>if q<F.length then min (j q) i else i,fun q r h=>?_,fun q a b=>?_,fun _=>?_⟩,fun t=>?_⟩
 .have:=C q r h
  simp only;split <;> split <;> omega
 .by_cases hq:q<F.length
  .obtain⟨f,c,g⟩:=D q a b
   have Q:=C q F.length b;refine⟨f,?_,g⟩;simp only;rw[Bn hq,Ad V];exact l _ f V c
  .have e:q=F.length:=V
   refine⟨m,?_,by rw[e];exact v⟩;simp only;rw[CY hq];exact l i m (CR _) hm
 .simp only[yw,Ac,FS,CT,CS]
  omega
 .have:=L t
  omega
def Zer(a:Int)(mo:Nat)(m:LM)(S:SM)(n:Nat):Prop :=
 ∃ K key v,ZR K/\Given K/\Wy a mo K/\v.seq=0/\v.node=a/\m.uT=Z4 K key [v]/\S.uT=Z4 K key [{v with seq:=n}]/\m.uW=S.uW
theorem Zc.td{S:SM}(h:Zc S):Given S.uT:=fun e a u b=>((h.key e a).2.2 u b).qA
theorem VF(d:Zc N.S)(b:N.uY=W.ts)(e:ZA m N.S):Zj W N m=(W.tN,some m):=by
 obtain⟨a,c⟩:=e;unfold Zj;rw[Bn ⟨b,by rw[a],c.symm⟩,a,T4 d.td];simp only[wR,Af];rw[<- a]
theorem OQ(a:Zc N.S)(b:Wy W.node W.tN N.S.uT)(d:Ti W.node m.uT)(c:¬(N.uY=W.ts/\ZA m N.S)):Zj W N m=(W.tN,none):=by
 unfold Zj;split
 .rename_i h1
  rw[OP b a.td d (fun e=>c ⟨h1.1,e.symm,h1.2.2.symm⟩)];simp
 .rfl
theorem TH{n:Nat}(h:Zer W.node W.tN m N.S n)(o:W.tN<n)(p:n<=16*W.uU)(c:N.uY=W.ts) :
 Zj W N m=(n,some {m with uT:=N.S.uT}):=by
 obtain⟨K,key,v,b,d,k,e,l,f,g,i⟩:=h;have j:=Ml (mo:=W.tN) (top:=16*W.uU) (n:=(n:Int)) key v b d e V V V;unfold Zj;have a:(Z4 K key [{v with seq:=(n:Int)}]).length=(Z4 K key [v]).length:=by
  rw[Yl key _ b,Yl key _ b];simp only[vn,Ac,Ya,FS,CS]
 rw[f,g,j,Bn ⟨c,a,i.symm⟩];simp
structure Cm(W:WM)(t:Nat):Prop where
 qi:∀ m∈W.st,MOk W.node m t
 uU:W.uU<=t
 ww:W.tk<=t
 len:W.st.length<=t+1
 ne:0<W.st.length
 next:W.next<=t
 base:W.base<=100000
 ox:W.bk.vs.length<=4*t
 ou:W.bk.vm.length<=4*t
 ow:W.bk.ns.length<=4*t
 oy:W.bk.nm.length<=4*t
 oz:W.bk.hs.length<=4*t
 ot:W.bk.hm.length<=4*t
 sG:-9223372036854775808<=W.sG/\W.sG<=9223372036854775807
def WM.qB(W:WM):Int:=if W.room<0 then 1152921504606846976 else W.room
structure NI(W:WM)(N:NM)(M:DM)(F:List Fact)(p t:Nat):Prop where
 kp:Kp N M F p t (N.uY=false)
 cm:Cm W t
 room:M.room=W.qB
 re:Hist W.st F p True
 rZ:ZB W.node W.uU W.tN F p
 ro:N.uY=W.ts
 tQ:W.node=(N.tQ:Int)
 nd:N.tQ<4
 tN:W.tN<=N.td
 td:N.td<=N.S.tr
 oU:N.uY=false->N.td<N.S.tr->Leas F p N.S.tr
 tJ:W.tJ=(N.tJ:Int)
 wr:N.uY=false->N.tJ≠0->N.tk=W.tk%N.tJ
 nw:N.tk<=t
 tL:M.tL=false
def Doubt(W:WM)(st:List LM)(m:LM)(F:List Fact)(p n:Nat):Prop :=
 ∃ a x,F=a++[x]/\(p<=a.length->Hist st a p True)/\Zer W.node W.tN m (atF F F.length) n/\W.tN<n/\ZB W.node W.uU n F p/\∀ q,p<=q->q<=a.length->Wy W.node W.tN (atF F q).uT
structure Sh(W:WM)(M:DM)(F:List Fact)(p t:Nat):Prop where
 lg:∃ y,Lg M y p t/\y.F=F
 cm:Cm W t
 room:M.room=W.qB
 all:(ZB W.node W.uU W.tN F p/\(Hist W.st F p True\/(W.qf=true\/M.tL=true)/\Hist W.st F p False))\/(W.qf=true\/M.tL=true)/\∃ st m n,W.st=st++[m]/\Doubt W st m F p n
theorem Tj(l:List Ver)(n:Int)(h:∀ u∈l,u.Nat):isN (grV l n):=by
 unfold grV;have key:∀ (l:List Ver) (a:Int),isN a->(∀ u∈l,u.Nat)->isN (l.foldl (fun m u=>if u.node=n then max m u.seq else m) a):=by
  intro l
  induction l with
  | nil=>intro a b _;exact b
  | cons x l e =>
   intro a b c;rw[Aa];refine e _ ?_ (fun u d=>c u (CV _ d));split
   .have:=(c x (Ba ..)).seq
    unfold isN at *;omega
   .exact b
 exact key l 0 ⟨O,O⟩ h
theorem SY(h:l.length<=4)(c:∀ u∈l,VOk u)(d:v.tA=false->VOk v)(f:v.tA=false->(zC l v).length<4):(Yf l v).length<=4/\∀ u∈Yf l v,VOk u:=by
 have g:=VB l v;have b:∀ u∈zC l v,u∈l:=fun u a=>(yT.1 a).1;unfold Yf;split
 .exact⟨V,fun u a=>c u (b u a)⟩
 .rename_i hg
  have e:=f (by simpa using hg);refine⟨by rw[UQ];omega,?_⟩;intro u a;unfold Xt at a;simp only[CX,CZ] at a;rcases a with(a|rfl)|a
  .exact c u (b u (BP a))
  .exact d (by simpa using hg)
  .exact c u (b u (BA a))
theorem QA(a:l.any v.sR=false):∀ u∈l,u.rk≠v.rk:=by
 intro u c e;have:l.any v.sR=true:=by
  rw[wt];refine⟨u,c,?_⟩;unfold Ver.sR;unfold Ver.rk at e;simp only[Am] at e;simp[e.1,e.2]
 rw[a] at this;cases this
theorem E6(d:YM l)(f:l.any v.sR=false):YM (Yf l v):=by
 have a:=Qc d v;have c:∀ u∈zC l v,u∈l:=fun u h=>(yT.1 h).1;unfold Yf;split
 .exact a
 .unfold YM at a |-
  have:=Asc.mm Yk (b:=v.rk) a (fun g e=>by
   rw[BD] at e;exact QA f _ (c _ (CW _)) e)
  unfold Xt
  simpa [List.map_take,List.map_drop] using this
theorem SZ{f:Nat}(h:foreign f v=true)(hs:v.value.size<=128)(g:v.tA=false):VOk v:=by
 have i:=Vj h
 suffices j:v.Nat/\1<=v.seq from⟨i,j.1,hs,j.2,g⟩
 unfold foreign Ver.qK at h;simp only[List.all_cons,List.all_nil,Bool.and_true,At,zG,Bl] at h;obtain⟨⟨a,b,c,d⟩,_,_,e⟩:=h;unfold zW at i;exact⟨⟨⟨i.1,V⟩,⟨V,V⟩,⟨a.1,V⟩,⟨b.1,V⟩,⟨c.1,V⟩,⟨d.1,V⟩,V⟩,V⟩
theorem R0(a:zu key=true)(h:∀ u∈l,VOk u)(b:l.length<=5):(zj (.inr (.inl (key,l)))).size<=1900:=by
 show(zp (WB key l)).size<=1900;exact Ge
theorem Jl.size{J:JM}{p:Nat}(h:Jl J M y)(c:Lg M y p t):J.size<=2000*(t+100)/\J.tw<=2*t:=by
 have o:=h.1;refine⟨?_,c.pR o⟩;rcases AD y.G with e|⟨r,s,e⟩
 .rw[o,e];exact Bi _
 .rw[AE] at e
  have hm:s∈y.G:=by rw[e];simp
  have:=c.bd.uX (c.qF s hm);rw[c.bytes s hm] at this;rw[o,e,JM.rE];exact this
theorem DP{J:JM}{p:Nat}(h:Lg M y p t)(b:Jl J M y)(r:t+2<=990000)(H n:Nat)(q:n<=2000)(l:∀ g∈M.tP,g<H):Xs J M H n where
 bytes:=V
 size:=by have:=(b.size h).1;omega
 tw:=by have:=(b.size h).2;omega
 tE:=by
  obtain⟨e,k,c,a,_⟩:=Wj h b.1 V;rw[c];have:=a.bd.tE;simp only;omega
 uZ:=by
  obtain⟨e,k,c,a,_⟩:=Wj h b.1 V;rw[c];have:=a.bd.uZ;simp only;omega
 room:=fun f o=>by
  obtain⟨e,m,k,s,c,a,_,_,_,_,_,_,_,_,_,j,i⟩:=SV h b V n f (fun hm=>by have:=l f hm;omega);rw[c];refine⟨a.bd.part,?_,fun g d=>by have:=a.bd.uX d;simp only;omega⟩;cases e with
  | none =>
   have:=((i rfl).1.size a).1;simp only;omega
  | some x =>
   have:=(b.size h).1;rw[j bG];simp only;omega
theorem Tk{p:Nat}(h:Kp N M F p t True)(f:t+2<=990000)(H:Nat)(d:∀ g∈M.tP,g<H)(x:Fact)(i:FOk x)(a:(zj x).size<=2000)(j:N.S.uT.length<=100000000)(k:N.tk<=100000000):Fit N M H x:=by
 have e:=h.rU F.length;rw[<- h.held] at e;obtain⟨⟨l,b,_,c⟩,_⟩:=h;exact⟨i,DP b (c trivial).1 f H _ a d,V,V,V⟩
theorem OR{p:Nat}(h:Kp N M F p t True)(Q:t+10<=990000)(k:N.td<100000000000)(j:N.td<=N.S.tr)(C:N.td<N.S.tr->Leas F p N.S.tr)(H:Nat)(q:∀ g∈M.tP,g<H)(key:ByteArray)(vs:NM->Nat->List Ver)(l:List Ver)
 (G:∀ i:NM,i.S.uT=N.S.uT->i.tQ=N.tQ->vs i (N.td+1)=l)(J:FOk (.inr (.inl (key,l))))(c:(zj (.inr (.inl (key,l)))).size<=2000)(s:N.S.uT.length<=100000000)(u:N.tk<=100000000):Wq N M H key vs where
 qe:=(Tk h V H q (.inl (N.td+16)) (by show N.td+16<_;omega) (by have:=SW (n:=N.td+16) V;omega) s u).qe
 uT:=V
 uW:=by have r:=h.rU F.length;rw[<- h.held] at r;omega
 td:=V
 nh:=fun f r m x _ a=>by
  obtain⟨L,o,d,K,A,R,y,v,D,B,_⟩:=GA h V k j C f (fun hm=>by have:=q f hm;omega);rw[y] at m a |-;simp only at m a |-;subst m;simp only[Af] at a v |-;have b:d.uT=N.S.uT:=by
   rcases B with⟨_,e⟩|⟨_,e,_⟩
   .rw[e]
   .rw[e]
  rw[G {N with J:=o,S:=d,td:=N.td+1} b rfl];exact Tk (N:={N with J:=o,S:=d,td:=N.td+1}) (v.kp.mono (fun _=>rfl) (CR _)) V x a _ J c (by show d.uT.length<=_;rw[b];exact s) u
theorem MOk.tV{node:Int}{u:Nat}(h:MOk node m t)(a:t<=u):MOk node m u:=⟨h.ru,CQ h.uT a,h.oH,h.uW,h.zero,h.node⟩
theorem Cm.tV{u:Nat}(h:Cm W t)(a:t<=u):Cm W u :=
 ⟨fun m hm=>(h.qi m hm).tV a,CQ h.uU a,CQ h.ww a,by have:=h.len;omega,h.ne,CQ h.next a,h.base,by have:=h.ox;omega,by have:=h.ou;omega,by have:=h.ow;omega,by have:=h.oy;omega,by have:=h.oz;omega,by have:=h.ot;omega,h.sG⟩
theorem Cm.rT{W':WM}(h:Cm W t)(j:W'.node=W.node)(hm:∀ m∈W'.st,MOk W.node m t)(i:W'.st.length<=t+1)(c:0<W'.st.length)(k:W'.tk<=t)(g:W'.uU=W.uU)(d:W'.next=W.next)(e:W'.base=W.base)(a:W'.bk=W.bk)(f:W'.sG=W.sG:=bH):Cm W' t :=
 ⟨fun m b=>by rw[j];exact hm m b,by rw[g];exact h.uU,k,i,c,by rw[d];exact h.next,by rw[e];exact h.base,by rw[a];exact h.ox,by rw[a];exact h.ou,by rw[a];exact h.ow,by rw[a];exact h.oy,by rw[a];exact h.oz,by rw[a];exact h.ot,by rw[f];exact h.sG⟩
structure Aft(W:WM)(mx:LM)(M:DM)(e:Option Int)(N':NM)(M':DM)(t':Nat):Prop where
 body:∃ F' p',Kp N' M' F' p' t' (e=none)/\(e=none->N'.td<N'.S.tr->Leas F' p' N'.S.tr)/\(e=none->({W with tk:=W.tk+1}:WM).qE=true->p'=F'.length) /\
  ((Hist (W.st++[mx]) F' p' True/\ZB W.node W.uU W.tN F' p')\/(e≠none/\(Hist W.st F' p' True/\ZB W.node W.uU W.tN F' p'\/∃ n,Doubt W W.st mx F' p' n/\n<=N'.td)))
 ro:N'.uY=e.isSome
 br:W.ts=false
 rF:Ans M M' e
 grow:e=none->M.uU<M'.uU
 sO:e=some 10->M.room<M.sY+2000
 room:M'.room=W.qB
 cm:Cm W t'
 ww:W.tk+1<=t'
 len:W.st.length+1<=t'+1
 qi:MOk W.node mx t'
 tQ:W.node=(N'.tQ:Int)
 nd:N'.tQ<4
 tN:W.tN<=N'.td
 td:N'.td<=N'.S.tr
 tJ:W.tJ=(N'.tJ:Int)
 wr:e=none->N'.tJ≠0->N'.tk=(W.tk+1)%N'.tJ
 nw:N'.tk<=t'
 tL:M.tL=false
theorem LZ(h:p:=by
 rcases CX.1 hm with hm|hm
 .exact h.cm.qi m hm
 .rw[CZ] at hm;subst hm;exact h.qi):p:=h
theorem Aft.rJ{o:LM}{A:NM}(h:Aft W o M none A M' r):∃ s y,NI (W.rJ o) A M' s y r:=by
 obtain⟨s,y,hk,hL,K,Q⟩:=h.body;have T:=Q.resolve_right (fun x=>x.1 rfl);have G:=hk.le;have t:M'.tL=false:=by
  rcases h.rF.1 with⟨_,_,_,e⟩|⟨_,⟨e,_⟩|⟨e,_⟩⟩
  .rw[e];exact h.tL
  .cases e
  .cases e
 have a2:A.uY=false:=h.ro;obtain⟨c,D,hrel,a3⟩:=T.1.tw G;have X:c=o:=by simp at D;exact D.symm
 subst X;have d:∀ m∈W.st++[c],MOk W.node m r:=fun m hm=>by
  exact LZ
 refine⟨s,y,?_⟩;have a:(W.rJ c).node=W.node:=by unfold WM.rJ;simp only;split <;> rfl
 have f:(W.rJ c).uU=W.uU:=by unfold WM.rJ;simp only;split <;> rfl
 have g:(W.rJ c).tN=W.tN:=by unfold WM.rJ;simp only;split <;> rfl
 have N:(W.rJ c).ts=W.ts:=by unfold WM.rJ;simp only;split <;> rfl
 have R:(W.rJ c).tJ=W.tJ:=by unfold WM.rJ;simp only;split <;> rfl
 have J:(W.rJ c).tk=W.tk+1:=by unfold WM.rJ;simp only;split <;> rfl
 have a1:(W.rJ c).qB=W.qB:=by unfold WM.rJ;simp only;split <;> rfl
 have q:((W.rJ c).st=W.st++[c])\/(({W with tk:=W.tk+1}:WM).qE=true/\(W.rJ c).st=[c]):=by
  unfold WM.rJ;simp only;split
  .rename_i u
   refine .inr ⟨u,?_⟩;simp
  .exact .inl rfl
 have C:∀ m∈(W.rJ c).st,MOk W.node m r:=fun m hm=>by
  rcases q with e|⟨_,e⟩
  .rw[e] at hm;exact d m hm
  .rw[e] at hm;exact d m (yv _ hm)
 exact {
  kp:=hk.mono (fun _=>rfl) (CR _)
  cm:=h.cm.rT a C (by rcases q with e|⟨_,e⟩ <;> rw[e] <;> simp <;> (have:=h.len;omega)) (by rcases q with e|⟨_,e⟩ <;> rw[e] <;> simp) (by rw[J];exact h.ww) f aF aF aF aF
  room:=by rw[a1];exact h.room
  re:=by
   rcases q with e|⟨u,e⟩
   .rw[e];exact T.1
   .rw[e,K rfl u];exact Hist.qA c hrel
  rZ:=by rw[a,f,g];exact T.2
  ro:=by rw[N,h.br];exact a2
  tQ:=by rw[a];exact h.tQ
  nd:=h.nd
  tN:=by rw[g];exact h.tN
  td:=h.td
  oU:=fun _=>hL rfl
  tJ:=by rw[R];exact h.tJ
  wr:=fun _ a0=>by rw[J];exact h.wr rfl a0
  nw:=h.nw
  tL:=t}
theorem Aft.tA{o:LM}{A:NM}(h:Aft W o M (some x) A M' r)(K:M'.tL=true):∃ s y,Sh {W with ts:=true,st:=W.st++[o]} M' s y r:=by
 obtain⟨s,y,⟨⟨ss,hg,hf,_⟩,_⟩,_,_,Q⟩:=h.body;have d:∀ m∈W.st++[o],MOk W.node m r:=fun m hm=>by
  exact LZ
 refine⟨s,y,⟨ss,hg,hf⟩,h.cm.rT rfl d (by have:=h.len;show(W.st++[o]).length<=_;rw[FS];exact this) (by show 0<(W.st++[o]).length;simp) h.cm.ww rfl rfl rfl rfl,h.room,?_⟩;rcases Q with⟨B,L⟩|⟨_,⟨B,L⟩|⟨n,B,_⟩⟩
 .exact .inl ⟨L,.inl B⟩
 .exact .inl ⟨L,.inr ⟨.inr K,B.nB o⟩⟩
 .exact .inr ⟨.inr K,W.st,o,n,rfl,B⟩
theorem GD(h:p:=by
 obtain⟨K,key,v,k1,k2,k3,k4,k5,k6,k7,k8⟩:=hz;rw[k6,k7,Yl key _ k1,Yl key _ k1];simp only[vn,Ac,Ya,FS,CS]):p:=h
theorem Aft.nO{Q:LM}{o:NM}{D:Nat}(h:Aft W Q M (some x) o M' D)(hd:M'.tL=false) :
 (∀ g,(Zj {W with ts:=true} o Q).2=some g->∃ q C,NI {W with ts:=true,tN:=(Zj {W with ts:=true} o Q).1,st:=W.st++[g]} o M' q C D) /\
   ((Zj {W with ts:=true} o Q).2=none->(Zj {W with ts:=true} o Q).1=W.tN/\∀ n,W.st[W.st.length-1]?=some n->Zj {W with ts:=true} o n=(W.tN,some n)/\∃ q C,NI {W with ts:=true} o M' q C D):=by
 obtain⟨q,C,hk,_,_,R⟩:=h.body;have c:=hk.le;have j:o.uY=true:=h.ro;have a:o.S=atF q q.length:=hk.held;have a1:Kp o M' q C D (o.uY=false):=hk.mono (fun e=>by rw[j] at e;cases e) (CR _);have a7:∀ g,MOk W.node g D->∀ m∈W.st++[g],MOk W.node m D:=fun g B m hm=>by
  rcases CX.1 hm with hm|hm
  .exact h.cm.qi m hm
  .rw[CZ] at hm;subst hm;exact B
 have b1:∀ (N:Nat) (st:List LM),(∀ m∈st,MOk W.node m D)->st.length<=D+1->0<st.length->Hist st q C True->ZB W.node W.uU N q C->N<=o.td->NI {W with ts:=true,tN:=N,st:=st} o M' q C D:=fun N st J s h3 hh ha b4 =>
  ⟨a1,h.cm.rT rfl J s h3 (by have:=h.ww;show W.tk<=D;omega) rfl rfl rfl rfl,h.room,hh,ha,j,h.tQ,h.nd,b4,h.td,(fun e=>by rw[j] at e;cases e),h.tJ,(fun e=>by rw[j] at e;cases e),h.nw,hd⟩
 have mk:=fun(N:Nat) (g:LM) (B:MOk W.node g D)=>b1 N (W.st++[g]) (a7 g B) (by have:=h.len;rw[FS];exact this) bG;rcases R with⟨J,s⟩|⟨_,⟨J,s⟩|⟨n,J,hn⟩⟩
 .-- it took effect
  obtain⟨ml,a2,hrel,_⟩:=J.tw c;have b5:ml=Q:=by simp at a2;exact a2.symm
  subst b5;rw[<- a] at hrel;have b:=s q.length c (CR _);rw[<- a] at b;rw[VF (W:={W with ts:=true}) b.1 j hrel];exact⟨fun g e=>⟨q,C,by obtain rfl:=BC e;exact mk W.tN ml h.qi J s h.tN⟩,fun e=>by cases e⟩
 .-- it did not
  obtain⟨ml,a2,hrel,_⟩:=J.tw c;have b:=s q.length c (CR _);rw[<- a] at b hrel;have a9:∀ n,W.st[W.st.length-1]?=some n->Zj {W with ts:=true} o n=(W.tN,some n)/\∃ q C,NI {W with ts:=true} o M' q C D:=fun n hn=>by
   rw[a2] at hn;obtain rfl:=BC hn;exact⟨VF (W:={W with ts:=true}) b.1 j hrel,q,C,b1 W.tN W.st h.cm.qi (by have:=h.len;omega) h.cm.ne J s h.tN⟩
  by_cases hr:ZA Q o.S
  .rw[VF (W:={W with ts:=true}) b.1 j hr]
   refine⟨fun g e=>⟨q,C,?_⟩,fun e=>by cases e⟩;obtain rfl:=BC e;have:=Hist.push (G:=[]) (Bi _) (fun _=>J) (by rw[BB];exact c) Q (by rw[BB,<- a];exact hr);rw[BB] at this;exact mk W.tN Q h.qi this s h.tN
  .rw[OQ (W:={W with ts:=true}) b.1 b.2.2.2 h.qi.zero (fun e=>hr e.2)]
   exact⟨fun g e=>(by cases e),fun _=>⟨rfl,a9⟩⟩
 .-- its number was not told
  obtain⟨F0,x0,hF,a3,hz,X,ha,_⟩:=J;have b:=ha q.length c (CR _);rw[<- a] at b hz;rw[TH (W:={W with ts:=true}) hz X (by have:=b.2.1;have:=b.2.2.1;show n<=16*W.uU;omega) j];refine⟨fun g e=>⟨q,C,?_⟩,fun e=>by cases e⟩;obtain rfl:=BC e;have S:o.S.uT.length=Q.uT.length:=by
   exact GD
  have a4:Q.uW=o.S.uW:=by obtain⟨K,key,v,k1,k2,k3,k4,k5,k6,k7,k8⟩:=hz;exact k8
  have B:MOk W.node {Q with uT:=o.S.uT} D:=⟨b.1.ru,by show o.S.uT.length<=D;rw[S];exact h.qi.uT,fun e he=>by have:=(b.1.key e he).2.1;omega,h.qi.uW,b.1.td.zero,h.qi.node⟩;have:=Hist.push (F:=F0) (G:=[x0]) bG (fun hp=>a3 hp) (by rw[<- hF];exact c) {Q with uT:=o.S.uT} (by rw[<- hF,<- a];exact⟨rfl,a4⟩);rw[<- hF] at this;exact mk n _ B this ha hn
theorem GE(w:World)(f:Nat):(binOp .eql 104 (E f 0) (E f 0)).run prog w=.ok (.bool true) w:=by
 obtain⟨i,z,a,_⟩:=ZK Qd;have h:∀ d:Nat,(Op.equalIn (d+1) 104 (E f 0) (E f 0)).run prog w=.ok true w:=fun d=>by
  simp[Op.equalIn,run_underlying underlying104,sizeOf,typeInfo,a,run_sameAddr_same]
 simp only[binOp];simp[Op.equal,Op.maxDepth,h 9999]
theorem MRep.drewN{K:Nat->Prop}{w:World}{p:Nat}(h:MRep K w p m)(n:Nat):MRep K (w.drewN n) p m:=h.tY (fun _ _=>rfl) (fun _ e=>e)
theorem OS(l:List Ver)(v:Ver):Zv l v=0\/Zv l v=1\/Zv l v=2:=by
 unfold Zv;split
 .exact .inl rfl
 .split
  .exact .inr (.inl rfl)
  .split
   .exact .inl rfl
   .exact .inr (.inr rfl)
theorem TI{a:Nat}(h:zP a key v=0):foreign a v=true:=by
 unfold zP at h;split at h
 .cases h
 .split at h
  .cases h
  .split at h
   .cases h
   .rename_i hf
    simpa using hf
def Y2(N:NM)(key:ByteArray)(v:Ver):Option Int :=
 if zP N.tQ key v≠0 then some (zP N.tQ key v) else if N.uY=true then some 8 else if Zv (zn N.S.uT key) v=0 then some 0 else if Zv (zn N.S.uT key) v=1 then some 6 else none
theorem R1(N:NM)(M:DM)(key:ByteArray)(v:Ver)(f:Nat):N.sj M key v f=match Y2 N key v with
 | some c=>(c,N,M)
 | none=>N.rn M (.inr (.inl (key,Yf (zn N.S.uT key) v))) f:=by
 unfold Y2 NM.sj zP Zv;cases hk:zu key
 .simp
 .by_cases hv:128<v.value.size
  .simp[hv]
  .cases hf:foreign N.tQ v
   .simp[hv]
   .cases hr:N.uY
    .simp only[hv]
     by_cases a:(zn N.S.uT key).any v.sR=true
     .simp[a]
     .simp only[a]
      by_cases b:v.tA=false/\4<=(zC (zn N.S.uT key) v).length
      .simp[b]
      .simp only[b,Ac]
       by_cases d:v.tA=true/\(zC (zn N.S.uT key) v).length=(zn N.S.uT key).length
       .simp[d]
       .simp[d]
    .simp[hv]
theorem GF(h:p:=by
 go_wp2_with fail;refine(a1.o _ zd).mono ?_;rintro e g ⟨rfl,e7⟩;subst g;go_wp2_with fail;go_ret;exact⟨rfl,b3.o _ (R.o.trans zd)⟩):p:=h
theorem GG(h:p:=by
 obtain⟨rfl,rfl,rfl⟩:=a0.o _ i;have b3:=Z (fun g f=>a2.o _ i X5 g (t.o.st.trans (x.o.trans (x.o.tm.nil f))));have a1:=Z (Zd K L W X5.LD M5 8 8 M5.uU w8 x.o.tm.tG x.o.tm.tK);simp only[xy,yz] at a1;rw[hbr] at c4;rw[hb];clear i a0 a3 C a2 hb;go_wp2_with fail;refine a1.o.mono ?_;rintro e g ⟨rfl,e7⟩;subst g;go_wp2_with fail;go_ret;exact⟨rfl,b3.o _ (U _ _)⟩):p:=h
theorem OT(h:p:=by
 go_wp2_with fail;refine e9.o.mono ?_;rintro e l8 ⟨rfl,h6⟩;have i8:=Z h6;clear h6;go_wp2_with fail;go_ret;exact⟨rfl,i8.o⟩):p:=h
theorem OU(h:p:=by
 go_wp2_with fail;refine a1.o.mono ?_;rintro e g ⟨rfl,e7⟩;subst g;go_wp2_with fail;go_ret;exact⟨rfl,b3.o _ (U _ _)⟩):p:=h
theorem DQ(h:p:=by
 have a1:=Z (fun g (f:Fr Nil w9 g)=>Zd K L W X5.LD M5 6 6 M5.uU g (x.o.tm.tG.nil (R.o.trans f)) (x.o.tm.tK.nil (R.o.trans f)));simp only[xy,yz] at a1;clear g4;exact GF):p:=h
theorem DR(h:p:=by
 have j5:=fun g=>GE g q;have a1:=Z (fun g (f:Fr Nil w9 g)=>Zd K L W X5.LD M5 0 0 M5.uU g (x.o.tm.tG.nil (R.o.trans f)) (x.o.tm.tK.nil (R.o.trans f)));simp only[xy,yz] at a1;clear g4;go_wp2_with fail;refine(y.o _ (A.o.trans R.o)).mono ?_;rintro e J ⟨rfl,e8,f9⟩;subst J;exact GF):p:=h
theorem K4(h:p:=by
 clear i a0 a3 C a2 hb hw b1 G;go_wp2_with fail;clear c4
 go_region_held3 (fun j=>∀ k,j.cell? (Y w.heap.size k)=([I o.kind,I o.a,I o.b,I o.c,.string o.key,.string o.se,I o.v.node,I o.v.seq,I o.v.o0,I o.v.o1,I o.v.o2,I o.v.o3,.string o.v.value,.bool o.v.tA,o.rA]:List Value)[k]?) (first|assumption|go_keep)
  (first
  | (go_at_call 112;refine(a6.o _ zd).mono ?_;rintro e w9 ⟨rfl,c5⟩;have b4:Fr Nil w8 w9:=Fr.trans zd c5;have R:=Z b4;have g4:=b7.o w9 (A.o.trans b4);clear c5 b4)
  | (go_at_call 107;refine(y.o _ (A.o.trans zd)).mono ?_;rintro e w9 ⟨rfl,n9,g0⟩;subst w9))
 first
  | (clear l7;exact DR)
  | exact DQ):p:=h
theorem GH(d6:zy)(K:Nat->Prop)(B:Nat)(L:WL)(W:WM)(X:NL)(N:NM)(M:DM)(o:OpM)(w:World)(h:Play K B w L W X N M)(G:N.uY=W.ts)(hp:0<L.ps.length)(hl:L.ps.length<1000000)
 (f8:∀ u∈zn N.S.uT o.key,zW u.node)(g9:YM (zn N.S.uT o.key))(l2:N.S.uT.length<1099511627776)(k0:(zn N.S.uT o.key).length<100000)
 (b0:∀ H,w.heap.size<=H->zu o.key=true->o.v.value.size<=128->foreign N.tQ o.v=true->N.uY=false->(o.v.tA=false->(zC (zn N.S.uT o.key) o.v).length<4)->Fit N M H (.inr (.inl (o.key,Yf (zn N.S.uT o.key) o.v))))
 (m:LM)(hm:W.st[L.ps.length-1]?=some m)(c6:m.node=N.tQ)(k1:zJ m.uT o.key=zn N.S.uT o.key)(l1:m.uT.length<100000000)
 (Q:World->Prop)
 (D:∀ c,Y2 N o.key o.v=some c->∀ X' g,PStep K B L X M w K L W X' N M g->Q g)
 (hQ:Y2 N o.key o.v=none->∀ f K' X' q g,w.heap.size<=f->PStep K B L X M w K' L W X' (N.sj M o.key o.v f).2.1 (N.sj M o.key o.v f).2.2 g->MRep K' g q (m.sj o.key o.v)->q≠L.ps[L.ps.length-1] ->
   Calls prog 110 #[E L.wb 0,E q 0,I (N.sj M o.key o.v f).1,.agg #[I M.uV,I M.tu],I (W.free M)] g fun e j=>e=.returned (.bool true)/\Q j) :
 Calls prog 62 #[E L.wb 0,.agg o.cells.toArray] w fun e j=>e=.returned (.bool true)/\Q j:=by
 have f1:Fr Nil w (w.alloc (.cells o.cells.toArray 39)):=(U _ _).alloc _;have a8:=Blk.new w o.cells 39;have HM:=Z (fun g (f:Fr Nil w g)=>Ze K L W X.LD M g (h.tG.nil f) ((h.tK).nil f));have HF:=Z (fun g (f:Fr Nil w g)=>Zu K L W X.LD M g (h.tG.nil f) ((h.tK).nil f));have HC:=Z (fun g (f:Fr Nil w g)=>zE g L.db X.LD M ((h.tK).nil f));obtain⟨wa,a7⟩:∃ wa,w.alloc (.cells o.cells.toArray 39)=wa:=⟨_,rfl⟩;rw[a7] at f1 a8;have d4:=a8.cell;have d3:=Z a7;simp only[OpM.cells,Ver.cells,Bb,Bc] at a7 d4 |-;have b2:=Z f1;have HH:=Z h;have i6:=Z f8;have f0:=Z b0;have c7:=Z (R1 N M o.key o.v);have a2:=Z D;have HQ:=Z hQ;have d1:=Z G;have k6:=Z g9;have h9:=Z k1;have j1:=Z k0;clear h f1 a8 f8 b0 D hQ G g9 k1 k0;go_enter func62,ntmps62;go_wp2_with fail;clear a7;refine(HM.o wa b2.o).mono ?_;rintro e w2 ⟨rfl,f2⟩;have f3:Fr Nil w (w2.alloc (.cells #[I M.uV,I M.tu] 111)):=(b2.o.trans f2).alloc _;have d5:=(HH.o.nil f3).tm.tG.th.cell;simp only[WM.cells] at d5;have F2:=Z f2;have F3:=Z f3;clear f2 f3 d4
 go_wp2_with (refine(HC.o _ F3.o).mono ?_;rintro e g ⟨rfl,e7⟩;subst g)
 refine(HF.o _ F3.o).mono ?_;rintro e w4 ⟨rfl,f4⟩;have t:=Z (Pre.of HH.o d3.o F2.o f4);have H4:=Z t.o.st.tm;clear f4 d5 F2 F3 d3 HM HF HC b2;have d8:IntKind.i64.wrap ((if W.room<0 then 1152921504606846976 else W.room)-M.rG)=W.free M:=rfl;rw[d8];clear d8;generalize W.free M=fr at HQ |-;have a5:=Z (fun g (f:Fr Nil w4 g)=>O0 d6 B X N M o.key o.v g (H4.o.node.nil f) (H4.o.qg.nil f) i6.o k6.o l2 (vD j1.o O) (fun a b c d e=>f0.o _ (t.o.fr.trans f).size a b c d e));simp only[Ver.cells] at a5;have HK:aa (∀ g j X' N' M',Fr Nil w4 g->NStep X M g X' N' M' j->j.cell? (Y L.wb 5)=some (E X.nb 0)/\∀ k,j.cell? (Y w.heap.size k)=([I o.kind,I o.a,I o.b,I o.c,.string o.key,.string o.se,I o.v.node,I o.v.seq,I o.v.o0,I o.v.o1,I o.v.o2,I o.v.o3,.string o.v.value,.bool o.v.tA,o.rA]:List Value)[k]?):=by
  intro g j X' N' M' f s;have hs:=(H4.o.nil f).trans ((H4.o.nil f).tm.call s);refine⟨(hs.tm.tG.th.cell 5).trans ?_,t.o.op hs⟩;show some L.nv=_;rw[HH.o.nv]
 have i2:=HK.o w4 w4 X N M (U _ _) (NStep.nil H4.o.node (U _ _));go_wp2_with fail
 go_region_held3 (fun j=>j.cell? (Y L.wb 5)=some (E X.nb 0)/\∀ k,j.cell? (Y w.heap.size k)=([I o.kind,I o.a,I o.b,I o.c,.string o.key,.string o.se,I o.v.node,I o.v.seq,I o.v.o0,I o.v.o1,I o.v.o2,I o.v.o3,.string o.v.value,.bool o.v.tA,o.rA]:List Value)[k]?) (first|assumption|go_keep)
  (first|(go_at_call 91;refine(a5.o _ zd).mono ?_;rintro e w5 ⟨f,X5,rfl,d7,b8⟩;have g3:=HK.o _ _ _ _ _ zd b8;have d2:=Z (NStep.trans (NStep.nil H4.o.node zd) b8);have c8:=Z d7;clear b8 d7))
 have b5:=H4.o.call d2.o;have i:=c7.o f;have b6:=fun h K' X' q g=>HQ.o h f K' X' q g (CQ t.o.fr.size c8.o);generalize N.sj M o.key o.v f=r at *;obtain⟨er,N5,M5⟩:=r;simp only at b5 b6;have l:=Z b5;have a3:=Z b6;have C:=Z i;have h5:L.ps.length=W.st.length:=HH.o.tG.qC;have d9:W.st[L.ps.length-1]' V=m:=by rw[CU V] at hm;exact BC hm
 have v:=(l.o.tm.tG.tw hp).2;simp only[d9] at v;have y:=Z (fun g (f:Fr Nil w5 g)=>ZD K L _ g (l.o.tm.tG.nil f) hp V);have a4:L.ps[L.ps.length-1]<w5.heap.size:=by obtain⟨c0,e5⟩:=v.th;exact e5.lt
 obtain⟨q,e1⟩:∃ q,q=L.ps[L.ps.length-1]:=⟨_,rfl⟩;rw[<- e1] at v a4 y a3;have c3:aa (∀ g,Fr Nil w5 g->MRep K g q m):=fun g f=>v.tY (zR.rz f (fun k e=>⟨(l.o.tm.tG.tY k e).1,id⟩)) (fun _ e=>e);have h7:aa (∀ g,Fr Nil w5 g->Calls prog 111 #[E q 0,.string o.key,.agg #[I o.v.node,I o.v.seq,I o.v.o0,I o.v.o1,I o.v.o2,I o.v.o3,.string o.v.value,.bool o.v.tA]] g fun e j=>e=.returned (I (zP N.tQ o.key o.v))/\Fr Nil g j):=by
  intro g f;obtain⟨kv,hv,j2,ha,_⟩:=c3.o g f;have hb:=ha.th;rw[c6] at hb;exact TV q N.tQ kv hv o.key o.v g hb
 have c9:=Z a4;have b7:aa (∀ g,Fr Nil w5 g->∀ k,g.cell? (Y w.heap.size k)=([I o.kind,I o.a,I o.b,I o.c,.string o.key,.string o.se,I o.v.node,I o.v.seq,I o.v.o0,I o.v.o1,I o.v.o2,I o.v.o3,.string o.v.value,.bool o.v.tA,o.rA]:List Value)[k]?):=fun g f=>t.o.op (l.o.trans (l.o.tm.nil f));clear i2 v a4 e1 d9 HK a5 i b6 b5 c7 HQ c8 d2 g3;have g3:=b7.o w5 (U _ _);go_wp2_with fail
 go_region_held3 (fun j=>∀ k,j.cell? (Y w.heap.size k)=([I o.kind,I o.a,I o.b,I o.c,.string o.key,.string o.se,I o.v.node,I o.v.seq,I o.v.o0,I o.v.o1,I o.v.o2,I o.v.o3,.string o.v.value,.bool o.v.tA,o.rA]:List Value)[k]?) (first|assumption|go_keep)
  (first
  | (go_at_call 111;refine(h7.o _ zd).mono ?_;rintro e w8 ⟨rfl,j6⟩;have e4:Fr Nil w5 w8:=Fr.trans zd j6;have A:=Z e4;have k4:=b7.o w8 e4;clear j6 e4)
  | (go_at_call 107;refine(y.o _ zd).mono ?_;rintro e w9 ⟨rfl,n9,g0⟩;subst w9))
 have h8:=l.o.trans (l.o.tm.nil A.o);have x:=Z h8;have c4:=h8.tm.tG.th.cell;simp only[WM.cells] at c4;have a0:aa (∀ c,Y2 N o.key o.v=some c->er=c/\N5=N/\M5=M):=fun c hc=>by
  have:=C.o;rw[hc] at this;simp only[Am] at this;exact this
 clear h8;by_cases hb:zP N.tQ o.key o.v=0
 .cases hbr:W.ts with
  | true =>
   have i:Y2 N o.key o.v=some 8:=by unfold Y2;rw[CY bw,Bn (by rw[d1.o,hbr])]
   exact GG
  | false =>
   have G:N.uY=false:=by rw[d1.o,hbr]
   have l3:zW o.v.node:=Vj (TI hb);have b1:=Z (fun g (f:Fr Nil w8 g)=>QY K q m o.key o.v g (c3.o g (A.o.trans f)) l1 (by rw[h9.o];exact i6.o) l3 (by rw[h9.o];exact j1.o));rw[hbr] at c4;rw[hb];simp only[Ver.cells] at b1;rw[h9.o] at b1;have l4:=OS (zn N.S.uT o.key) o.v;rcases l4 with hw|hw|hw
   .have i:Y2 N o.key o.v=some 0:=by unfold Y2;rw[CY bw,CY aS,Bn hw]
    obtain⟨rfl,rfl,rfl⟩:=a0.o _ i;have b3:=Z (fun g f=>a2.o _ i X5 g (t.o.st.trans (x.o.trans (x.o.tm.nil f))));have a6:aa (∀ g,Fr Nil w8 g->Calls prog 112 #[E q 0,.string o.key,.agg #[I o.v.node,I o.v.seq,I o.v.o0,I o.v.o1,I o.v.o2,I o.v.o3,.string o.v.value,.bool o.v.tA]] g fun e j=>e=.returned (.tuple #[E q 0,I 0])/\Fr Nil g j):=fun g f=>(b1.o g f).mono (fun e j h=>by
     rw[hw] at h;rcases h with⟨_,h⟩|⟨h0,_⟩|⟨h0,_⟩
     .exact h
     .exact absurd h0 O
     .exact absurd h0 O)
    have l7:=0;exact K4
   .have i:Y2 N o.key o.v=some 6:=by unfold Y2;rw[CY bw,CY aS,CY (by rw[hw];decide),Bn hw]
    obtain⟨rfl,rfl,rfl⟩:=a0.o _ i;have b3:=Z (fun g f=>a2.o _ i X5 g (t.o.st.trans (x.o.trans (x.o.tm.nil f))));have a6:aa (∀ g,Fr Nil w8 g->Calls prog 112 #[E q 0,.string o.key,.agg #[I o.v.node,I o.v.seq,I o.v.o0,I o.v.o1,I o.v.o2,I o.v.o3,.string o.v.value,.bool o.v.tA]] g fun e j=>e=.returned (.tuple #[.pointer none,I 6])/\Fr Nil g j):=fun g f=>(b1.o g f).mono (fun e j h=>by
     rw[hw] at h;rcases h with⟨h0,_⟩|⟨_,h⟩|⟨h0,_⟩
     .exact absurd h0 O
     .exact h
     .exact absurd h0 O)
    exact K4
   .have i:Y2 N o.key o.v=none:=by unfold Y2;rw[CY bw,CY aS,CY (by rw[hw];decide),CY (by rw[hw];decide)]
    have d0:=Z (a3.o i);have a6:aa (∀ g,Fr Nil w8 g->Calls prog 112 #[E q 0,.string o.key,.agg #[I o.v.node,I o.v.seq,I o.v.o0,I o.v.o1,I o.v.o2,I o.v.o3,.string o.v.value,.bool o.v.tA]] g fun e j=>∃ nb,e=.returned (.tuple #[E nb 0,I 0])/\MRep (KGr K g j) j nb (m.sj o.key o.v)/\Fr Nil g j/\g.heap.size<=nb):=fun g f=>(b1.o g f).mono (fun e j h=>by
     rw[hw] at h;rcases h with⟨h0,_⟩|⟨h0,_⟩|⟨_,h⟩
     .exact absurd h0 O
     .exact absurd h0 O
     .exact h)
    clear i a0 a3 C a2 hb hw b1 G;go_wp2_with fail;clear c4
    go_region_held3 (fun j=>∀ k,j.cell? (Y w.heap.size k)=([I o.kind,I o.a,I o.b,I o.c,.string o.key,.string o.se,I o.v.node,I o.v.seq,I o.v.o0,I o.v.o1,I o.v.o2,I o.v.o3,.string o.v.value,.bool o.v.tA,o.rA]:List Value)[k]?) (first|assumption|go_keep)
     (first
     | (go_at_call 112;refine(a6.o _ zd).mono ?_;rintro e w9 ⟨nb,rfl,j8,c5,j7⟩;have b4:Fr Nil w8 w9:=Fr.trans zd c5;have g4:=b7.o w9 (A.o.trans b4);have j0:=Z j8;have i7:=Z (x.o.trans ((x.o.tm.nil zd).trans ((x.o.tm.nil zd).tm.gr c5)));have k7:=Z j7;have R:=Z b4;clear c5 b4 j8 j7)
     | (go_at_call 107;refine(y.o _ (A.o.trans zd)).mono ?_;rintro e w9 ⟨rfl,n9,g0⟩;subst w9))
    have i3:nb≠q:=by have h1:=c9.o;have h2:w8.heap.size<=nb:=k7.o;have h3:=A.o.size;omega
    have k8:=Z i3;have j5:∀ n,(binOp .eql 104 (E nb 0) (E q 0)).run prog (w9.drewN n)=.ok (.bool false) (w9.drewN n):=by
     intro n;obtain⟨c1,a8⟩:=j0.o.th;obtain⟨c2,k9⟩:=(c3.o w9 (A.o.trans R.o)).th;exact(SH (a8.drewN n) (k9.drewN n) i3).2
    clear g4 i3;go_wp2_with fail;refine(y.o _ (A.o.trans R.o)).mono ?_;rintro e J ⟨rfl,e8,f9⟩;subst J;have a9:=Z (i7.o.trans (i7.o.tm.nil ((U _ w9).drewN e8)));have e9:=Z (d0.o _ X5 nb _ (t.o.st.trans a9.o) (j0.o.drewN e8) k8.o);have j4:=t.o.ma a9.o;clear y a6 d0;have l0:=j5 e8;exact OT
 .have i:Y2 N o.key o.v=some (zP N.tQ o.key o.v):=by unfold Y2;rw[Bn hb]
  obtain⟨rfl,rfl,rfl⟩:=a0.o _ i;have b3:=Z (fun g f=>a2.o _ i X5 g (t.o.st.trans (x.o.trans (x.o.tm.nil f))));have e5:(zP N5.tQ o.key o.v==0)=false:=by simp[hb]
  have a1:=Z (Zd K L W X5.LD M5 (zP N5.tQ o.key o.v) (zP N5.tQ o.key o.v) M5.uU w8 x.o.tm.tG x.o.tm.tK);simp only[xy,yz] at a1;clear i a0 a3 C a2;generalize zP N5.tQ o.key o.v=bp at *;exact OU
end Go.Proofs.YtkhnggkkiefcdaaGreatDoor
