/- larder: joined texts -/
import Derived.Test.YtkhnggkkiefcdaaGreatDoorALAW
namespace Go.Proofs.YtkhnggkkiefcdaaGreatDoor
open Go.RowKit Proofs.Tryz
set_option maxRecDepth 100000
set_option maxHeartbeats 8000000
variable{K:Keys}{st:List LM}{F:List Fact}{p T:Prop}{W:WM}{N:NM}{m:LM}{l:List Ver}{v:Ver}{key:ByteArray}{M M':DM}{y:Lay}{t r:Nat}{x:Int}
def Wy(a:Int)(b:Int)(K:Keys):Prop:=∀ e∈K,∀ u∈e.2,u.node=a->u.seq<=b
def Given(K:Keys):Prop:=∀ e∈K,∀ u∈e.2,1<=u.seq
def Ti(a:Int)(K:Keys):Prop:=∀ e∈K,∀ u∈e.2,u.seq=0->u.node=a
theorem Wy.mono{c o g:Int}(h:Wy c o K)(hm:o<=g):Wy c g K:=fun e r u A y=>Int.le_trans (h e r u A y) hm
theorem Given.zero{a:Int}(h:Given K):Ti a K:=fun e b u c d=>by have:=h e b u c;omega
theorem Qx{b k top:Int}:∀ {l m:List Ver}{s:Int},(∀ u∈l,u.node=b->u.seq<=k)->(∀ u∈l,1<=u.seq)->(∀ u∈m,u.seq=0->u.node=b)->l≠m->Z7 k top l m s=none
 | [],[],s,_,_,_,h=>absurd rfl h
 | a::l,u::m,s,f,g,i,h=>by
  have o:=fun s=>Qx (top:=top) (s:=s) (fun x c=>f x (CT _ c)) (fun x c=>g x (CT _ c)) (fun x c=>i x (CT _ c)) (l:=l) (m:=m);unfold Z7;have p:=g a (CY ..);by_cases d:u.seq=0
  .rw[Bl d]
   split
   .rfl
   .split
    .rename_i hm hs
     exfalso
     have e:=(Xk _ _).1 hs;have j:=i u (CY ..) d;rw[<- e] at j;have:=f a (CY ..) j;exact hm (.inl this)
    .rfl
  .rw[CW d]
   split
   .rename_i hs
    have e:=(Xk _ _).1 hs;subst e;exact o s (fun e=>h (by rw[e]))
   .rfl
 | [],_::_,_,_,_,_,_=>rfl
 | _::_,[],_,_,_,_,_=>rfl
theorem T4{mo top:Int}:∀ {S:Keys},Given S->zQ top mo S S=(S,mo,true)
 | [],_=>rfl
 | (a,l)::S,h=>by
  have d:=T4 (mo:=mo) (top:=top) (S:=S) (fun e b=>h e (CT _ b));rw[Ul (Wx (n:=0) (fun u c=>by have:=h (a,l) (CY ..) u c;omega)) V,d]
theorem OP{c i top:Int}:∀ {S M:Keys},Wy c i S->Given S->Ti c M->S≠M->zQ top i S M=(M,i,false)
 | [],[],_,_,_,h=>absurd rfl h
 | (a,l)::S,(b,u)::M,j,g,k,h=>by
  by_cases d:a=b
  .subst d
   by_cases m:l=u
   .subst m
    have p:=OP (top:=top) (S:=S) (M:=M) (fun e f=>j e (CT _ f)) (fun e f=>g e (CT _ f)) (fun e f=>k e (CT _ f)) (fun e=>h (by rw[e]));rw[Ul (Wx (n:=0) (fun u o=>by have:=g (a,l) (CY ..) u o;omega)) V,p]
   .unfold zQ
    rw[Bl rfl,Qx (j (a,l) (CY ..)) (g (a,l) (CY ..)) (k (a,u) (CY ..)) m]
  .unfold zQ
   rw[CW d]
 | [],_::_,_,_,_,_=>rfl
 | _::_,[],_,_,_,_=>rfl
theorem Qy{mo top:Int}:∀ (A:Keys){S M:Keys},Given A->zQ top mo (A++S) (A++M)=(A++(zQ top mo S M).1,(zQ top mo S M).2)
 | [],_,_,_=>rfl
 | (a,l)::A,S,M,h=>by
  have d:=Qy (mo:=mo) (top:=top) A (S:=S) (M:=M) (fun e b=>h e (CT _ b));rw[CZ,CZ,Ul (Wx (n:=0) (fun u c=>by have:=h (a,l) (CY ..) u c;omega)) V,d]
  rfl
theorem Mj{mo top n:Int}(key:ByteArray)(v:Ver)(g:ZR K)(c:Given K)(b:v.seq=0)(i:mo<n)(j:0<=mo)(k:n<=top) :
 zQ top mo (Z4 K key [{v with seq:=n}]) (Z4 K key [v])=(Z4 K key [{v with seq:=n}],n,true):=by
 rw[Yl key _ g,Yl key _ g];simp only[vi,Aa];unfold Ya;have d:∀ e∈K.take (low zi (K.map Prod.fst) key),e∈K:=fun e a=>BN a;have f:∀ e∈K.drop (if Zb zi (K.map Prod.fst) key=true then low zi (K.map Prod.fst) key+1 else low zi (K.map Prod.fst) key),e∈K:=fun e a=>Bx a;generalize K.take (low zi (K.map Prod.fst) key)=A at d |-;generalize K.drop (if Zb zi (K.map Prod.fst) key=true then low zi (K.map Prod.fst) key+1 else low zi (K.map Prod.fst) key)=C at f |-;rw[Be,Be,Qy A (fun e a=>c e (d e a))];simp only[xK];have h:Z7 mo top [{v with seq:=n}] [v] 0=some n:=by
  unfold Z7;rw[Bl b,CW aU,Bl ((Xk _ _).2 (by cases v;simp only at b |-;rw[b]))]
  rfl
 rw[Qw h V,T4 (fun e a=>c e (f e a))];simp[Xd,b]
def ZA(m:LM)(S:SM):Prop:=m.uR=S.uR/\m.uU=S.uU
structure MOk(node:Int)(m:LM)(t:Nat):Prop where
 rp:ZR m.uR
 uR:m.uR.length<=t
 oB:∀ e∈m.uR,e.2.length<=5
 uU:m.uU.length<=33
 zero:Ti node m.uR
 node:m.node=node
def WT(node:Int)(a b:Nat)(S:SM):Prop:=Zc S/\b<=S.tm/\S.tm<=16*a/\Wy node b S.uR
def ZB(node:Int)(a b:Nat)(F:List Fact)(p:Nat):Prop:=∀ q,p<=q->q<=F.length->WT node a b (atF F q)
def Hist(st:List LM)(F:List Fact)(p:Nat)(a:Prop):Prop :=
 ∃ j:Nat->Nat,(∀ q r,q<=r->j q<=j r)/\(∀ q,p<=q->q<=F.length->∃ m,st[j q]?=some m/\ZA m (atF F q))/\(a->j F.length+1=st.length)
theorem Hist.mono{p e:Nat}{c:Prop}(h:Hist st F p T)(A:p<=e)(y:c->T):Hist st F e c:=by
 obtain⟨j,g,o,r⟩:=h;exact⟨j,g,fun q a b=>o q (CO A a) b,fun t=>r (y t)⟩
theorem Hist.tu{p:Nat}(h:Hist st F p True)(c:p<=F.length):∃ m,st[st.length-1]?=some m/\ZA m (atF F F.length)/\0<st.length:=by
 obtain⟨j,g,a,b⟩:=h;obtain⟨m,hm,d⟩:=a F.length c (CP _);have:=b trivial;have e:j F.length=st.length-1:=V
 rw[e] at hm;exact⟨m,hm,d,V⟩
theorem Hist.quiet{p:Nat}(h:Hist st F p T)(k:p<=F.length)(x:Fact)(l:∀ m,ZA m (atF F F.length)->ZA m ((atF F F.length).enter x)):Hist st (F++[x]) p T:=by
 obtain⟨j,g,f,i⟩:=h;refine⟨fun q=>j (min q F.length),fun q r h=>g _ _ V,fun q a b=>?_,fun t=>?_⟩
 .rw[CN,CQ] at b
  by_cases c:q<=F.length
  .obtain⟨m,hm,d⟩:=f q a c
   refine⟨m,?_,by rw[XX c];exact d⟩;show st[j (min q F.length)]?=_;rw[Ab c];exact hm
  .have e:q=F.length+1:=V
   obtain⟨m,hm,d⟩:=f F.length k (CP _);refine⟨m,?_,?_⟩
   .show st[j (min q F.length)]?=_
    rw[ug V];exact hm
   .rw[e,XO]
    exact l m d
 .rw[CN,CQ]
  show j (min (F.length+1) F.length)+1=_;rw[ug V];exact i t
theorem Hist.push{G:List Fact}{p:Nat}(l:G.length<=1)(h:p<=F.length->Hist st F p T)(g:p<=(F++G).length)(m:LM)(hm:ZA m (atF (F++G) (F++G).length)):Hist (st++[m]) (F++G) p True:=by
 by_cases f:p<=F.length
 .obtain⟨j,h1,h2,h3⟩:=h f
  refine⟨fun q=>if q<(F++G).length then min (j q) st.length else st.length,fun q r h=>?_,fun q a b=>?_,fun _=>?_⟩
  .have:=h1 q r h
   simp only;split <;> split <;> omega
  .by_cases hq:q<(F++G).length
   .have hqF:q<=F.length:=by rw[CN] at hq;omega
    obtain⟨k,c,i⟩:=h2 q a hqF;have d:=(BL.1 c).1;refine⟨k,?_,by rw[XX hqF];exact i⟩;simp only;rw[Bl hq,Ab V,Aq d];exact c
   .have e:q=(F++G).length:=V
    refine⟨m,?_,by rw[e];exact hm⟩;simp only;rw[CW hq];simp
  .simp
 .refine⟨fun _=>st.length,fun _ _ _=>CP _,fun q a b=>?_,fun _=>bG⟩
  have e:q=(F++G).length:=by rw[CN] at b g |-;omega
  exact⟨m,bG,by rw[e];exact hm⟩
theorem Hist.qy(m:LM)(hm:ZA m (atF F F.length)):Hist [m] F F.length True:=by
 refine⟨fun _=>0,fun _ _ _=>CP _,fun q a b=>?_,fun _=>rfl⟩;have e:q=F.length:=V
 rw[e];exact⟨m,rfl,hm⟩
theorem Hist.nu{p:Nat}(h:Hist st F p T)(m:LM):Hist (st++[m]) F p False:=by
 obtain⟨j,d,e,_⟩:=h;refine⟨j,d,fun q a b=>?_,fun f=>f.elim⟩;obtain⟨i,c,g⟩:=e q a b;exact⟨i,by rw[Aq (BL.1 c).1];exact c,g⟩
theorem Um{a:List Fact}(h:a<+:F){q:Nat}(b:q<=a.length):atF a q=atF F q:=by
 obtain⟨r,rfl⟩:=h;rw[XX b]
theorem Hist.cut{c:List Fact}{p e:Nat}(h:Hist st F p T)(d:c<+:F)(k:p<=e):Hist st c e False:=by
 obtain⟨j,g,i,_⟩:=h;refine⟨j,g,fun q a b=>?_,fun f=>f.elim⟩;obtain⟨m,hm,l⟩:=i q (CO k a) (CO b d.length_le);exact⟨m,hm,by rw[Um d b];exact l⟩
theorem ZB.cut{node:Int}{c f:Nat}{d:List Fact}{p g:Nat}(h:ZB node c f F p)(e:d<+:F)(i:p<=g):ZB node c f d g:=fun q a b=>by
 rw[Um e b];exact h q (CO i a) (CO b e.length_le)
theorem ZB.oS{node:Int}{c f:Nat}{p:Nat}(h:p<=F.length->ZB node c f F p)(x:Fact)(g:WT node c f ((atF F F.length).enter x)):ZB node c f (F++[x]) p:=fun q a b=>by
 rw[CN,CQ] at b;by_cases d:q<=F.length
 .rw[XX d]
  exact h (CO a d) q a d
 .have e:q=F.length+1:=V
  rw[e,XO];exact g
theorem WT.mono{node:Int}{e c o g:Nat}{S:SM}(h:WT node e o S)(r:e<=c)(hm:o<=g)(y:g<=S.tm):WT node c g S :=
 ⟨h.1,y,CO h.2.2.1 (vz 16 r),h.2.2.2.mono V⟩
theorem Hist.pS{p:Nat}(h:Hist st F p T)(R:p<=F.length) :
 ∃ i m,st[i]?=some m/\ZA m (atF F F.length)/\(∀ k f,i<k->st[k]?=some f->¬ZA f (atF F F.length))/\Hist (st.take i++[m]) F p True/\(T->i+1=st.length):=by
 obtain⟨j,C,D,L⟩:=h;obtain⟨X,A,B⟩:=D F.length R (CP _)
 -- the greatest index
 have key:∀ d i m,st.length-i<=d->st[i]?=some m->ZA m (atF F F.length)->j F.length<=i->∃ i m,st[i]?=some m/\ZA m (atF F F.length)/\j F.length<=i/\∀ k f,i<k->st[k]?=some f->¬ZA f (atF F F.length):=by
  intro d
  induction d with
  | zero =>
   intro i m M hm;have:=(BL.1 hm).1;omega
  | succ d S =>
   intro i m M hm v J;by_cases o:∃ k f,i<k/\st[k]?=some f/\ZA f (atF F F.length)
   .obtain⟨k,f,x,c,g⟩:=o
    exact S k f (by have:=(BL.1 c).1;omega) c g V
   .exact⟨i,m,hm,v,J,fun k f x c g=>o ⟨k,f,x,c,g⟩⟩
 obtain⟨i,m,hm,v,J,s⟩:=key _ _ X (CP _) A B (CP _);have N:=(BL.1 hm).1;have l:∀ k f,k<=i->st[k]?=some f->(st.take i++[m])[k]?=some f:=fun k f x c=>by
  by_cases y:k<i
  .rw[Aq aR,AO y]
   exact c
  .have:k=i:=V
   subst this;rw[hm] at c;obtain rfl:=BA c;rw[AJ aR];have K:k-(st.take k).length=0:=by rw[CR];omega
   rw[K]
   rfl
 refine⟨i,m,hm,v,s,⟨fun q=>if q<F.length then min (j q) i else i,fun q r h=>?_,fun q a b=>?_,fun _=>?_⟩,fun t=>?_⟩
 .have:=C q r h
  simp only;split <;> split <;> omega
 .by_cases hq:q<F.length
  .obtain⟨f,c,g⟩:=D q a b
   have Q:=C q F.length b;refine⟨f,?_,g⟩;simp only;rw[Bl hq,Ab V];exact l _ f V c
  .have e:q=F.length:=V
   refine⟨m,?_,by rw[e];exact v⟩;simp only;rw[CW hq];exact l i m (CP _) hm
 .simp only[yu,Aa,CN,CR,CQ]
  omega
 .have:=L t
  omega
def Zer(a:Int)(mo:Nat)(m:LM)(S:SM)(n:Nat):Prop :=
 ∃ K key v,ZR K/\Given K/\Wy a mo K/\v.seq=0/\v.node=a/\m.uR=Z4 K key [v]/\S.uR=Z4 K key [{v with seq:=n}]/\m.uU=S.uU
theorem Zc.uY{S:SM}(h:Zc S):Given S.uR:=fun e a u b=>((h.key e a).2.2 u b).qy
theorem VF(d:Zc N.S)(b:N.uW=W.tq)(e:ZA m N.S):Zj W N m=(W.tM,some m):=by
 obtain⟨a,c⟩:=e;unfold Zj;rw[Bl ⟨b,by rw[a],c.symm⟩,a,T4 d.uY];simp only[wP,Ad];rw[<- a]
theorem OQ(a:Zc N.S)(b:Wy W.node W.tM N.S.uR)(d:Ti W.node m.uR)(c:¬(N.uW=W.tq/\ZA m N.S)):Zj W N m=(W.tM,none):=by
 unfold Zj;split
 .rename_i h1
  rw[OP b a.uY d (fun e=>c ⟨h1.1,e.symm,h1.2.2.symm⟩)];simp
 .rfl
theorem TI{n:Nat}(h:Zer W.node W.tM m N.S n)(o:W.tM<n)(p:n<=16*W.uS)(c:N.uW=W.tq) :
 Zj W N m=(n,some {m with uR:=N.S.uR}):=by
 obtain⟨K,key,v,b,d,k,e,l,f,g,i⟩:=h;have j:=Mj (mo:=W.tM) (top:=16*W.uS) (n:=(n:Int)) key v b d e V V V;unfold Zj;have a:(Z4 K key [{v with seq:=(n:Int)}]).length=(Z4 K key [v]).length:=by
  rw[Yl key _ b,Yl key _ b];simp only[vi,Aa,Ya,CN,CQ]
 rw[f,g,j,Bl ⟨c,a,i.symm⟩];simp
structure Cm(W:WM)(t:Nat):Prop where
 qe:∀ m∈W.st,MOk W.node m t
 uS:W.uS<=t
 ww:W.tf<=t
 len:W.st.length<=t+1
 ne:0<W.st.length
 next:W.next<=t
 base:W.base<=100000
 ow:W.bk.vs.length<=4*t
 ox:W.bk.vm.length<=4*t
 ou:W.bk.ns.length<=4*t
 ot:W.bk.nm.length<=4*t
 oo:W.bk.hs.length<=4*t
 oq:W.bk.hm.length<=4*t
 sD:-9223372036854775808<=W.sD/\W.sD<=9223372036854775807
def WM.qA(W:WM):Int:=if W.room<0 then 1152921504606846976 else W.room
structure NI(W:WM)(N:NM)(M:DM)(F:List Fact)(p t:Nat):Prop where
 kp:Kp N M F p t (N.uW=false)
 cm:Cm W t
 room:M.room=W.qA
 re:Hist W.st F p True
 rY:ZB W.node W.uS W.tM F p
 ro:N.uW=W.tq
 tN:W.node=(N.tN:Int)
 nd:N.tN<4
 tM:W.tM<=N.uY
 uY:N.uY<=N.S.tm
 oU:N.uW=false->N.uY<N.S.tm->Leas F p N.S.tm
 tH:W.tH=(N.tH:Int)
 wr:N.uW=false->N.tH≠0->N.tf=W.tf%N.tH
 nw:N.tf<=t
 tJ:M.tJ=false
def Doubt(W:WM)(st:List LM)(m:LM)(F:List Fact)(p n:Nat):Prop :=
 ∃ a x,F=a++[x]/\(p<=a.length->Hist st a p True)/\Zer W.node W.tM m (atF F F.length) n/\W.tM<n/\ZB W.node W.uS n F p/\∀ q,p<=q->q<=a.length->Wy W.node W.tM (atF F q).uR
structure Sh(W:WM)(M:DM)(F:List Fact)(p t:Nat):Prop where
 lg:∃ y,Lg M y p t/\y.F=F
 cm:Cm W t
 room:M.room=W.qA
 all:(ZB W.node W.uS W.tM F p/\(Hist W.st F p True\/(W.rZ=true\/M.tJ=true)/\Hist W.st F p False))\/(W.rZ=true\/M.tJ=true)/\∃ st m n,W.st=st++[m]/\Doubt W st m F p n
theorem Tj(l:List Ver)(n:Int)(h:∀ u∈l,u.Nat):isN (grV l n):=by
 unfold grV;have key:∀ (l:List Ver) (a:Int),isN a->(∀ u∈l,u.Nat)->isN (l.foldl (fun m u=>if u.node=n then max m u.seq else m) a):=by
  intro l
  induction l with
  | nil=>intro a b _;exact b
  | cons x l e =>
   intro a b c;rw[BX];refine e _ ?_ (fun u d=>c u (CT _ d));split
   .have:=(c x (CY ..)).seq
    unfold isN at *;omega
   .exact b
 exact key l 0 ⟨O,O⟩ h
theorem SY(h:l.length<=4)(c:∀ u∈l,VOk u)(d:v.ts=false->VOk v)(f:v.ts=false->(zC l v).length<4):(Yf l v).length<=4/\∀ u∈Yf l v,VOk u:=by
 have g:=VB l v;have b:∀ u∈zC l v,u∈l:=fun u a=>(yR.1 a).1;unfold Yf;split
 .exact⟨V,fun u a=>c u (b u a)⟩
 .rename_i hg
  have e:=f (by simpa using hg);refine⟨by rw[UQ];omega,?_⟩;intro u a;unfold Xt at a;simp only[CV,CX] at a;rcases a with(a|rfl)|a
  .exact c u (b u (BN a))
  .exact d (by simpa using hg)
  .exact c u (b u (Bx a))
theorem Qz(a:l.any v.sP=false):∀ u∈l,u.rj≠v.rj:=by
 intro u c e;have:l.any v.sP=true:=by
  rw[wk];refine⟨u,c,?_⟩;unfold Ver.sP;unfold Ver.rj at e;simp only[Ak] at e;simp[e.1,e.2]
 rw[a] at this;cases this
theorem E4(d:YM l)(f:l.any v.sP=false):YM (Yf l v):=by
 have a:=Qb d v;have c:∀ u∈zC l v,u∈l:=fun u h=>(yR.1 h).1;unfold Yf;split
 .exact a
 .unfold YM at a |-
  have:=Asc.mf Yk (b:=v.rj) a (fun g e=>by
   rw[BB] at e;exact Qz f _ (c _ (CU _)) e)
  unfold Xt
  simpa [List.map_take,List.map_drop] using this
theorem SZ{f:Nat}(h:foreign f v=true)(hs:v.value.size<=128)(g:v.ts=false):VOk v:=by
 have i:=Vj h
 suffices j:v.Nat/\1<=v.seq from⟨i,j.1,hs,j.2,g⟩
 unfold foreign Ver.qG at h;simp only[List.all_cons,List.all_nil,Bool.and_true,Ar,zG,Bi] at h;obtain⟨⟨a,b,c,d⟩,_,_,e⟩:=h;unfold zW at i;exact⟨⟨⟨i.1,V⟩,⟨V,V⟩,⟨a.1,V⟩,⟨b.1,V⟩,⟨c.1,V⟩,⟨d.1,V⟩,V⟩,V⟩
theorem R0(a:zu key=true)(h:∀ u∈l,VOk u)(b:l.length<=5):(zj (.inr (.inl (key,l)))).size<=1900:=by
 show(zp (WB key l)).size<=1900;exact Gd
theorem Jl.size{J:JM}{p:Nat}(h:Jl J M y)(c:Lg M y p t):J.size<=2000*(t+100)/\J.tu<=2*t:=by
 have o:=h.1;refine⟨?_,c.pQ o⟩;rcases AC y.G with e|⟨r,s,e⟩
 .rw[o,e];exact Bg _
 .rw[AD] at e
  have hm:s∈y.G:=by rw[e];simp
  have:=c.bd.uV (c.qD s hm);rw[c.bytes s hm] at this;rw[o,e,JM.rC];exact this
theorem DN{J:JM}{p:Nat}(h:Lg M y p t)(b:Jl J M y)(r:t+2<=990000)(H n:Nat)(q:n<=2000)(l:∀ g∈M.tL,g<H):Xs J M H n where
 bytes:=by omega
 size:=by have:=(b.size h).1;omega
 tu:=by have:=(b.size h).2;omega
 tB:=by
  obtain⟨e,k,c,a,_⟩:=Wj h b.1 V;rw[c];have:=a.bd.tB;simp only;omega
 uX:=by
  obtain⟨e,k,c,a,_⟩:=Wj h b.1 V;rw[c];have:=a.bd.uX;simp only;omega
 room:=fun f o=>by
  obtain⟨e,m,k,s,c,a,_,_,_,_,_,_,_,_,_,j,i⟩:=SV h b V n f (fun hm=>by have:=l f hm;omega);rw[c];refine⟨a.bd.part,?_,fun g d=>by have:=a.bd.uV d;simp only;omega⟩;cases e with
  | none =>
   have:=((i rfl).1.size a).1;simp only;omega
  | some x =>
   have:=(b.size h).1;rw[j bG];simp only;omega
theorem Tk{p:Nat}(h:Kp N M F p t True)(f:t+2<=990000)(H:Nat)(d:∀ g∈M.tL,g<H)(x:Fact)(i:FOk x)(a:(zj x).size<=2000)(j:N.S.uR.length<=100000000)(k:N.tf<=100000000):Fit N M H x:=by
 have e:=h.rS F.length;rw[<- h.held] at e;obtain⟨⟨l,b,_,c⟩,_⟩:=h;exact⟨i,DN b (c trivial).1 f H _ a d,V,V,V⟩
theorem OR{p:Nat}(h:Kp N M F p t True)(Q:t+10<=990000)(k:N.uY<100000000000)(j:N.uY<=N.S.tm)(C:N.uY<N.S.tm->Leas F p N.S.tm)(H:Nat)(q:∀ g∈M.tL,g<H)(key:ByteArray)(vs:NM->Nat->List Ver)(l:List Ver)
 (G:∀ i:NM,i.S.uR=N.S.uR->i.tN=N.tN->vs i (N.uY+1)=l)(J:FOk (.inr (.inl (key,l))))(c:(zj (.inr (.inl (key,l)))).size<=2000)(s:N.S.uR.length<=100000000)(u:N.tf<=100000000):Wq N M H key vs where
 qb:=(Tk h V H q (.inl (N.uY+16)) (by show N.uY+16<_;omega) (by have:=SW (n:=N.uY+16) V;omega) s u).qb
 uR:=by omega
 uU:=by have r:=h.rS F.length;rw[<- h.held] at r;omega
 uY:=by omega
 oX:=fun f r m x _ a=>by
  obtain⟨L,o,d,K,A,R,y,v,D,B,_⟩:=GA h V k j C f (fun hm=>by have:=q f hm;omega);rw[y] at m a |-;simp only at m a |-;subst m;simp only[Ad] at a v |-;have b:d.uR=N.S.uR:=by
   rcases B with⟨_,e⟩|⟨_,e,_⟩
   .rw[e]
   .rw[e]
  rw[G {N with J:=o,S:=d,uY:=N.uY+1} b rfl];exact Tk (N:={N with J:=o,S:=d,uY:=N.uY+1}) (v.kp.mono (fun _=>rfl) (CP _)) V x a _ J c (by show d.uR.length<=_;rw[b];exact s) u
theorem MOk.tU{node:Int}{u:Nat}(h:MOk node m t)(a:t<=u):MOk node m u:=⟨h.rp,CO h.uR a,h.oB,h.uU,h.zero,h.node⟩
theorem Cm.tU{u:Nat}(h:Cm W t)(a:t<=u):Cm W u :=
 ⟨fun m hm=>(h.qe m hm).tU a,CO h.uS a,CO h.ww a,by have:=h.len;omega,h.ne,CO h.next a,h.base,by have:=h.ow;omega,by have:=h.ox;omega,by have:=h.ou;omega,by have:=h.ot;omega,by have:=h.oo;omega,by have:=h.oq;omega,h.sD⟩
theorem Cm.rR{W':WM}(h:Cm W t)(j:W'.node=W.node)(hm:∀ m∈W'.st,MOk W.node m t)(i:W'.st.length<=t+1)(c:0<W'.st.length)(k:W'.tf<=t)(g:W'.uS=W.uS)(d:W'.next=W.next)(e:W'.base=W.base)(a:W'.bk=W.bk)(f:W'.sD=W.sD:=by rfl):Cm W' t :=
 ⟨fun m b=>by rw[j];exact hm m b,by rw[g];exact h.uS,k,i,c,by rw[d];exact h.next,by rw[e];exact h.base,by rw[a];exact h.ow,by rw[a];exact h.ox,by rw[a];exact h.ou,by rw[a];exact h.ot,by rw[a];exact h.oo,by rw[a];exact h.oq,by rw[f];exact h.sD⟩
structure Aft(W:WM)(mx:LM)(M:DM)(e:Option Int)(N':NM)(M':DM)(t':Nat):Prop where
 body:∃ F' p',Kp N' M' F' p' t' (e=none)/\(e=none->N'.uY<N'.S.tm->Leas F' p' N'.S.tm)/\(e=none->({W with tf:=W.tf+1}:WM).qz=true->p'=F'.length) /\
  ((Hist (W.st++[mx]) F' p' True/\ZB W.node W.uS W.tM F' p')\/(e≠none/\(Hist W.st F' p' True/\ZB W.node W.uS W.tM F' p'\/∃ n,Doubt W W.st mx F' p' n/\n<=N'.uY)))
 ro:N'.uW=e.isSome
 br:W.tq=false
 rD:Ans M M' e
 grow:e=none->M.uS<M'.uS
 sM:e=some 10->M.room<M.sW+2000
 room:M'.room=W.qA
 cm:Cm W t'
 ww:W.tf+1<=t'
 len:W.st.length+1<=t'+1
 qe:MOk W.node mx t'
 tN:W.node=(N'.tN:Int)
 nd:N'.tN<4
 tM:W.tM<=N'.uY
 uY:N'.uY<=N'.S.tm
 tH:W.tH=(N'.tH:Int)
 wr:e=none->N'.tH≠0->N'.tf=(W.tf+1)%N'.tH
 nw:N'.tf<=t'
 tJ:M.tJ=false
theorem LW(h:p:=by
 rcases CV.1 hm with hm|hm
 .exact h.cm.qe m hm
 .rw[CX] at hm;subst hm;exact h.qe):p:=h
theorem Aft.rH{o:LM}{A:NM}(h:Aft W o M none A M' r):∃ s y,NI (W.rH o) A M' s y r:=by
 obtain⟨s,y,hk,hL,K,Q⟩:=h.body;have T:=Q.resolve_right (fun x=>x.1 rfl);have G:=hk.le;have t:M'.tJ=false:=by
  rcases h.rD.1 with⟨_,_,_,e⟩|⟨_,⟨e,_⟩|⟨e,_⟩⟩
  .rw[e];exact h.tJ
  .cases e
  .cases e
 have a2:A.uW=false:=h.ro;obtain⟨c,D,hrel,a3⟩:=T.1.tu G;have X:c=o:=by simp at D;exact D.symm
 subst X;have d:∀ m∈W.st++[c],MOk W.node m r:=fun m hm=>by
  exact LW
 refine⟨s,y,?_⟩;have a:(W.rH c).node=W.node:=by unfold WM.rH;simp only;split <;> rfl
 have f:(W.rH c).uS=W.uS:=by unfold WM.rH;simp only;split <;> rfl
 have g:(W.rH c).tM=W.tM:=by unfold WM.rH;simp only;split <;> rfl
 have N:(W.rH c).tq=W.tq:=by unfold WM.rH;simp only;split <;> rfl
 have R:(W.rH c).tH=W.tH:=by unfold WM.rH;simp only;split <;> rfl
 have J:(W.rH c).tf=W.tf+1:=by unfold WM.rH;simp only;split <;> rfl
 have a1:(W.rH c).qA=W.qA:=by unfold WM.rH;simp only;split <;> rfl
 have q:((W.rH c).st=W.st++[c])\/(({W with tf:=W.tf+1}:WM).qz=true/\(W.rH c).st=[c]):=by
  unfold WM.rH;simp only;split
  .rename_i u
   refine .inr ⟨u,?_⟩;simp
  .exact .inl rfl
 have C:∀ m∈(W.rH c).st,MOk W.node m r:=fun m hm=>by
  rcases q with e|⟨_,e⟩
  .rw[e] at hm;exact d m hm
  .rw[e] at hm;exact d m (yt _ hm)
 exact {
  kp:=hk.mono (fun _=>rfl) (CP _)
  cm:=h.cm.rR a C (by rcases q with e|⟨_,e⟩ <;> rw[e] <;> simp <;> (have:=h.len;omega)) (by rcases q with e|⟨_,e⟩ <;> rw[e] <;> simp) (by rw[J];exact h.ww) f aF aF aF aF
  room:=by rw[a1];exact h.room
  re:=by
   rcases q with e|⟨u,e⟩
   .rw[e];exact T.1
   .rw[e,K rfl u];exact Hist.qy c hrel
  rY:=by rw[a,f,g];exact T.2
  ro:=by rw[N,h.br];exact a2
  tN:=by rw[a];exact h.tN
  nd:=h.nd
  tM:=by rw[g];exact h.tM
  uY:=h.uY
  oU:=fun _=>hL rfl
  tH:=by rw[R];exact h.tH
  wr:=fun _ a0=>by rw[J];exact h.wr rfl a0
  nw:=h.nw
  tJ:=t}
theorem Aft.ts{o:LM}{A:NM}(h:Aft W o M (some x) A M' r)(K:M'.tJ=true):∃ s y,Sh {W with tq:=true,st:=W.st++[o]} M' s y r:=by
 obtain⟨s,y,⟨⟨ss,hg,hf,_⟩,_⟩,_,_,Q⟩:=h.body;have d:∀ m∈W.st++[o],MOk W.node m r:=fun m hm=>by
  exact LW
 refine⟨s,y,⟨ss,hg,hf⟩,h.cm.rR rfl d (by have:=h.len;show(W.st++[o]).length<=_;rw[CN];exact this) (by show 0<(W.st++[o]).length;simp) h.cm.ww rfl rfl rfl rfl,h.room,?_⟩;rcases Q with⟨B,L⟩|⟨_,⟨B,L⟩|⟨n,B,_⟩⟩
 .exact .inl ⟨L,.inl B⟩
 .exact .inl ⟨L,.inr ⟨.inr K,B.nu o⟩⟩
 .exact .inr ⟨.inr K,W.st,o,n,rfl,B⟩
theorem GD(h:p:=by
 obtain⟨K,key,v,k1,k2,k3,k4,k5,k6,k7,k8⟩:=hz;rw[k6,k7,Yl key _ k1,Yl key _ k1];simp only[vi,Aa,Ya,CN,CQ]):p:=h
theorem Aft.nQ{Q:LM}{o:NM}{D:Nat}(h:Aft W Q M (some x) o M' D)(hd:M'.tJ=false) :
 (∀ g,(Zj {W with tq:=true} o Q).2=some g->∃ q C,NI {W with tq:=true,tM:=(Zj {W with tq:=true} o Q).1,st:=W.st++[g]} o M' q C D) /\
   ((Zj {W with tq:=true} o Q).2=none->(Zj {W with tq:=true} o Q).1=W.tM/\∀ n,W.st[W.st.length-1]?=some n->Zj {W with tq:=true} o n=(W.tM,some n)/\∃ q C,NI {W with tq:=true} o M' q C D):=by
 obtain⟨q,C,hk,_,_,R⟩:=h.body;have c:=hk.le;have j:o.uW=true:=h.ro;have a:o.S=atF q q.length:=hk.held;have a1:Kp o M' q C D (o.uW=false):=hk.mono (fun e=>by rw[j] at e;cases e) (CP _);have a7:∀ g,MOk W.node g D->∀ m∈W.st++[g],MOk W.node m D:=fun g B m hm=>by
  rcases CV.1 hm with hm|hm
  .exact h.cm.qe m hm
  .rw[CX] at hm;subst hm;exact B
 have b1:∀ (N:Nat) (st:List LM),(∀ m∈st,MOk W.node m D)->st.length<=D+1->0<st.length->Hist st q C True->ZB W.node W.uS N q C->N<=o.uY->NI {W with tq:=true,tM:=N,st:=st} o M' q C D:=fun N st J s h3 hh ha b4 =>
  ⟨a1,h.cm.rR rfl J s h3 (by have:=h.ww;show W.tf<=D;omega) rfl rfl rfl rfl,h.room,hh,ha,j,h.tN,h.nd,b4,h.uY,(fun e=>by rw[j] at e;cases e),h.tH,(fun e=>by rw[j] at e;cases e),h.nw,hd⟩
 have mk:=fun(N:Nat) (g:LM) (B:MOk W.node g D)=>b1 N (W.st++[g]) (a7 g B) (by have:=h.len;rw[CN];exact this) bG;rcases R with⟨J,s⟩|⟨_,⟨J,s⟩|⟨n,J,hn⟩⟩
 .-- it took effect
  obtain⟨ml,a2,hrel,_⟩:=J.tu c;have b5:ml=Q:=by simp at a2;exact a2.symm
  subst b5;rw[<- a] at hrel;have b:=s q.length c (CP _);rw[<- a] at b;rw[VF (W:={W with tq:=true}) b.1 j hrel];exact⟨fun g e=>⟨q,C,by obtain rfl:=BA e;exact mk W.tM ml h.qe J s h.tM⟩,fun e=>by cases e⟩
 .-- it did not
  obtain⟨ml,a2,hrel,_⟩:=J.tu c;have b:=s q.length c (CP _);rw[<- a] at b hrel;have a9:∀ n,W.st[W.st.length-1]?=some n->Zj {W with tq:=true} o n=(W.tM,some n)/\∃ q C,NI {W with tq:=true} o M' q C D:=fun n hn=>by
   rw[a2] at hn;obtain rfl:=BA hn;exact⟨VF (W:={W with tq:=true}) b.1 j hrel,q,C,b1 W.tM W.st h.cm.qe (by have:=h.len;omega) h.cm.ne J s h.tM⟩
  by_cases hr:ZA Q o.S
  .rw[VF (W:={W with tq:=true}) b.1 j hr]
   refine⟨fun g e=>⟨q,C,?_⟩,fun e=>by cases e⟩;obtain rfl:=BA e;have:=Hist.push (G:=[]) (Bg _) (fun _=>J) (by rw[Bz];exact c) Q (by rw[Bz,<- a];exact hr);rw[Bz] at this;exact mk W.tM Q h.qe this s h.tM
  .rw[OQ (W:={W with tq:=true}) b.1 b.2.2.2 h.qe.zero (fun e=>hr e.2)]
   exact⟨fun g e=>(by cases e),fun _=>⟨rfl,a9⟩⟩
 .-- its number was not told
  obtain⟨F0,x0,hF,a3,hz,X,ha,_⟩:=J;have b:=ha q.length c (CP _);rw[<- a] at b hz;rw[TI (W:={W with tq:=true}) hz X (by have:=b.2.1;have:=b.2.2.1;show n<=16*W.uS;omega) j];refine⟨fun g e=>⟨q,C,?_⟩,fun e=>by cases e⟩;obtain rfl:=BA e;have S:o.S.uR.length=Q.uR.length:=by
   exact GD
  have a4:Q.uU=o.S.uU:=by obtain⟨K,key,v,k1,k2,k3,k4,k5,k6,k7,k8⟩:=hz;exact k8
  have B:MOk W.node {Q with uR:=o.S.uR} D:=⟨b.1.rp,by show o.S.uR.length<=D;rw[S];exact h.qe.uR,fun e he=>by have:=(b.1.key e he).2.1;omega,h.qe.uU,b.1.uY.zero,h.qe.node⟩;have:=Hist.push (F:=F0) (G:=[x0]) bG (fun hp=>a3 hp) (by rw[<- hF];exact c) {Q with uR:=o.S.uR} (by rw[<- hF,<- a];exact⟨rfl,a4⟩);rw[<- hF] at this;exact mk n _ B this ha hn
theorem GE(w:World)(f:Nat):(binOp .eql 104 (E f 0) (E f 0)).run prog w=.ok (.bool true) w:=by
 obtain⟨i,z,a,_⟩:=ZK Qc;have h:∀ d:Nat,(Op.equalIn (d+1) 104 (E f 0) (E f 0)).run prog w=.ok true w:=fun d=>by
  simp[Op.equalIn,run_underlying underlying104,sizeOf,typeInfo,a,run_sameAddr_same]
 simp only[binOp];simp[Op.equal,Op.maxDepth,h 9999]
theorem MRep.drewN{K:Nat->Prop}{w:World}{p:Nat}(h:MRep K w p m)(n:Nat):MRep K (w.drewN n) p m:=h.tW (fun _ _=>rfl) (fun _ e=>e)
theorem OS(l:List Ver)(v:Ver):Zv l v=0\/Zv l v=1\/Zv l v=2:=by
 unfold Zv;split
 .exact .inl rfl
 .split
  .exact .inr (.inl rfl)
  .split
   .exact .inl rfl
   .exact .inr (.inr rfl)
theorem TJ{a:Nat}(h:zP a key v=0):foreign a v=true:=by
 unfold zP at h;split at h
 .cases h
 .split at h
  .cases h
  .split at h
   .cases h
   .rename_i hf
    simpa using hf
def Y2(N:NM)(key:ByteArray)(v:Ver):Option Int :=
 if zP N.tN key v≠0 then some (zP N.tN key v) else if N.uW=true then some 8 else if Zv (zn N.S.uR key) v=0 then some 0 else if Zv (zn N.S.uR key) v=1 then some 6 else none
theorem R1(N:NM)(M:DM)(key:ByteArray)(v:Ver)(f:Nat):N.se M key v f=match Y2 N key v with
 | some c=>(c,N,M)
 | none=>N.rk M (.inr (.inl (key,Yf (zn N.S.uR key) v))) f:=by
 unfold Y2 NM.se zP Zv;cases hk:zu key
 .simp
 .by_cases hv:128<v.value.size
  .simp[hv]
  .cases hf:foreign N.tN v
   .simp[hv]
   .cases hr:N.uW
    .simp only[hv]
     by_cases a:(zn N.S.uR key).any v.sP=true
     .simp[a]
     .simp only[a]
      by_cases b:v.ts=false/\4<=(zC (zn N.S.uR key) v).length
      .simp[b]
      .simp only[b,Aa]
       by_cases d:v.ts=true/\(zC (zn N.S.uR key) v).length=(zn N.S.uR key).length
       .simp[d]
       .simp[d]
    .simp[hv]
theorem GF(h:p:=by
 go_wp2_with fail;refine(a1.o _ zd).mono ?_;rintro e g ⟨rfl,e7⟩;subst g;go_wp2_with fail;go_ret;exact⟨rfl,b3.o _ (R.o.trans zd)⟩):p:=h
theorem GG(h:p:=by
 obtain⟨rfl,rfl,rfl⟩:=a0.o _ i;have b3:=Z (fun g f=>a2.o _ i X5 g (t.o.st.trans (x.o.trans (x.o.th.nil f))));have a1:=Z (Zd K L W X5.LD M5 8 8 M5.uS w8 x.o.th.tE x.o.th.tI);simp only[xu,yx] at a1;rw[hbr] at c4;rw[hb];clear i a0 a3 C a2 hb;go_wp2_with fail;refine a1.o.mono ?_;rintro e g ⟨rfl,e7⟩;subst g;go_wp2_with fail;go_ret;exact⟨rfl,b3.o _ (U _ _)⟩):p:=h
theorem OT(h:p:=by
 go_wp2_with fail;refine e9.o.mono ?_;rintro e l8 ⟨rfl,h6⟩;have i8:=Z h6;clear h6;go_wp2_with fail;go_ret;exact⟨rfl,i8.o⟩):p:=h
theorem OU(h:p:=by
 go_wp2_with fail;refine a1.o.mono ?_;rintro e g ⟨rfl,e7⟩;subst g;go_wp2_with fail;go_ret;exact⟨rfl,b3.o _ (U _ _)⟩):p:=h
theorem DO(h:p:=by
 have a1:=Z (fun g (f:Fr Nil w9 g)=>Zd K L W X5.LD M5 6 6 M5.uS g (x.o.th.tE.nil (R.o.trans f)) (x.o.th.tI.nil (R.o.trans f)));simp only[xu,yx] at a1;clear g4;exact GF):p:=h
theorem DP(h:p:=by
 have j5:=fun g=>GE g q;have a1:=Z (fun g (f:Fr Nil w9 g)=>Zd K L W X5.LD M5 0 0 M5.uS g (x.o.th.tE.nil (R.o.trans f)) (x.o.th.tI.nil (R.o.trans f)));simp only[xu,yx] at a1;clear g4;go_wp2_with fail;refine(y.o _ (A.o.trans R.o)).mono ?_;rintro e J ⟨rfl,e8,f9⟩;subst J;exact GF):p:=h
theorem LY(h:p:=by
 clear i a0 a3 C a2 hb hw b1 G;go_wp2_with fail;clear c4
 go_region_held3 (fun j=>∀ k,j.cell? (Y w.heap.size k)=([I o.kind,I o.a,I o.b,I o.c,.string o.key,.string o.tZ,I o.v.node,I o.v.seq,I o.v.o0,I o.v.o1,I o.v.o2,I o.v.o3,.string o.v.value,.bool o.v.ts,o.rz]:List Value)[k]?) (first|assumption|go_keep)
  (first
  | (go_at_call 112;refine(a6.o _ zd).mono ?_;rintro e w9 ⟨rfl,c5⟩;have b4:Fr Nil w8 w9:=Fr.trans zd c5;have R:=Z b4;have g4:=b7.o w9 (A.o.trans b4);clear c5 b4)
  | (go_at_call 107;refine(y.o _ (A.o.trans zd)).mono ?_;rintro e w9 ⟨rfl,n9,g0⟩;subst w9))
 first
  | (clear l7;exact DP)
  | exact DO):p:=h
theorem GH(d6:zy)(K:Nat->Prop)(B:Nat)(L:WL)(W:WM)(X:NL)(N:NM)(M:DM)(o:OpM)(w:World)(h:Play K B w L W X N M)(G:N.uW=W.tq)(hp:0<L.ps.length)(hl:L.ps.length<1000000)
 (f8:∀ u∈zn N.S.uR o.key,zW u.node)(g9:YM (zn N.S.uR o.key))(l2:N.S.uR.length<1099511627776)(k0:(zn N.S.uR o.key).length<100000)
 (b0:∀ H,w.heap.size<=H->zu o.key=true->o.v.value.size<=128->foreign N.tN o.v=true->N.uW=false->(o.v.ts=false->(zC (zn N.S.uR o.key) o.v).length<4)->Fit N M H (.inr (.inl (o.key,Yf (zn N.S.uR o.key) o.v))))
 (m:LM)(hm:W.st[L.ps.length-1]?=some m)(c6:m.node=N.tN)(k1:zJ m.uR o.key=zn N.S.uR o.key)(l1:m.uR.length<100000000)
 (Q:World->Prop)
 (D:∀ c,Y2 N o.key o.v=some c->∀ X' g,PStep K B L X M w K L W X' N M g->Q g)
 (hQ:Y2 N o.key o.v=none->∀ f K' X' q g,w.heap.size<=f->PStep K B L X M w K' L W X' (N.se M o.key o.v f).2.1 (N.se M o.key o.v f).2.2 g->MRep K' g q (m.se o.key o.v)->q≠L.ps[L.ps.length-1] ->
   Calls prog 110 #[E L.wb 0,E q 0,I (N.se M o.key o.v f).1,.agg #[I M.uT,I M.tr],I (W.free M)] g fun e j=>e=.returned (.bool true)/\Q j) :
 Calls prog 62 #[E L.wb 0,.agg o.cells.toArray] w fun e j=>e=.returned (.bool true)/\Q j:=by
 have f1:Fr Nil w (w.alloc (.cells o.cells.toArray 39)):=(U _ _).alloc _;have a8:=Blk.new w o.cells 39;have HM:=Z (fun g (f:Fr Nil w g)=>Ze K L W X.LD M g (h.tE.nil f) ((h.tI).nil f));have HF:=Z (fun g (f:Fr Nil w g)=>Zu K L W X.LD M g (h.tE.nil f) ((h.tI).nil f));have HC:=Z (fun g (f:Fr Nil w g)=>zE g L.db X.LD M ((h.tI).nil f));obtain⟨wa,a7⟩:∃ wa,w.alloc (.cells o.cells.toArray 39)=wa:=⟨_,rfl⟩;rw[a7] at f1 a8;have d4:=a8.cell;have d3:=Z a7;simp only[OpM.cells,Ver.cells,CZ,Ba] at a7 d4 |-;have b2:=Z f1;have HH:=Z h;have i6:=Z f8;have f0:=Z b0;have c7:=Z (R1 N M o.key o.v);have a2:=Z D;have HQ:=Z hQ;have d1:=Z G;have k6:=Z g9;have h9:=Z k1;have j1:=Z k0;clear h f1 a8 f8 b0 D hQ G g9 k1 k0;go_enter func62,ntmps62;go_wp2_with fail;clear a7;refine(HM.o wa b2.o).mono ?_;rintro e w2 ⟨rfl,f2⟩;have f3:Fr Nil w (w2.alloc (.cells #[I M.uT,I M.tr] 111)):=(b2.o.trans f2).alloc _;have d5:=(HH.o.nil f3).th.tE.td.cell;simp only[WM.cells] at d5;have F2:=Z f2;have F3:=Z f3;clear f2 f3 d4
 go_wp2_with (refine(HC.o _ F3.o).mono ?_;rintro e g ⟨rfl,e7⟩;subst g)
 refine(HF.o _ F3.o).mono ?_;rintro e w4 ⟨rfl,f4⟩;have t:=Z (Pre.of HH.o d3.o F2.o f4);have H4:=Z t.o.st.th;clear f4 d5 F2 F3 d3 HM HF HC b2;have d8:IntKind.i64.wrap ((if W.room<0 then 1152921504606846976 else W.room)-M.rE)=W.free M:=rfl;rw[d8];clear d8;generalize W.free M=fr at HQ |-;have a5:=Z (fun g (f:Fr Nil w4 g)=>O0 d6 B X N M o.key o.v g (H4.o.node.nil f) (H4.o.qg.nil f) i6.o k6.o l2 (vB j1.o O) (fun a b c d e=>f0.o _ (t.o.fr.trans f).size a b c d e));simp only[Ver.cells] at a5;have HK:aa (∀ g j X' N' M',Fr Nil w4 g->NStep X M g X' N' M' j->j.cell? (Y L.wb 5)=some (E X.nb 0)/\∀ k,j.cell? (Y w.heap.size k)=([I o.kind,I o.a,I o.b,I o.c,.string o.key,.string o.tZ,I o.v.node,I o.v.seq,I o.v.o0,I o.v.o1,I o.v.o2,I o.v.o3,.string o.v.value,.bool o.v.ts,o.rz]:List Value)[k]?):=by
  intro g j X' N' M' f s;have hs:=(H4.o.nil f).trans ((H4.o.nil f).th.call s);refine⟨(hs.th.tE.td.cell 5).trans ?_,t.o.op hs⟩;show some L.nv=_;rw[HH.o.nv]
 have i2:=HK.o w4 w4 X N M (U _ _) (NStep.nil H4.o.node (U _ _));go_wp2_with fail
 go_region_held3 (fun j=>j.cell? (Y L.wb 5)=some (E X.nb 0)/\∀ k,j.cell? (Y w.heap.size k)=([I o.kind,I o.a,I o.b,I o.c,.string o.key,.string o.tZ,I o.v.node,I o.v.seq,I o.v.o0,I o.v.o1,I o.v.o2,I o.v.o3,.string o.v.value,.bool o.v.ts,o.rz]:List Value)[k]?) (first|assumption|go_keep)
  (first|(go_at_call 91;refine(a5.o _ zd).mono ?_;rintro e w5 ⟨f,X5,rfl,d7,b8⟩;have g3:=HK.o _ _ _ _ _ zd b8;have d2:=Z (NStep.trans (NStep.nil H4.o.node zd) b8);have c8:=Z d7;clear b8 d7))
 have b5:=H4.o.call d2.o;have i:=c7.o f;have b6:=fun h K' X' q g=>HQ.o h f K' X' q g (CO t.o.fr.size c8.o);generalize N.se M o.key o.v f=r at *;obtain⟨er,N5,M5⟩:=r;simp only at b5 b6;have l:=Z b5;have a3:=Z b6;have C:=Z i;have h5:L.ps.length=W.st.length:=HH.o.tE.qB;have d9:W.st[L.ps.length-1]' V=m:=by rw[CS V] at hm;exact BA hm
 have v:=(l.o.th.tE.tu hp).2;simp only[d9] at v;have y:=Z (fun g (f:Fr Nil w5 g)=>ZD K L _ g (l.o.th.tE.nil f) hp V);have a4:L.ps[L.ps.length-1]<w5.heap.size:=by obtain⟨c0,e5⟩:=v.td;exact e5.lt
 obtain⟨q,e1⟩:∃ q,q=L.ps[L.ps.length-1]:=⟨_,rfl⟩;rw[<- e1] at v a4 y a3;have c3:aa (∀ g,Fr Nil w5 g->MRep K g q m):=fun g f=>v.tW (zR.rv f (fun k e=>⟨(l.o.th.tE.tW k e).1,id⟩)) (fun _ e=>e);have h7:aa (∀ g,Fr Nil w5 g->Calls prog 111 #[E q 0,.string o.key,.agg #[I o.v.node,I o.v.seq,I o.v.o0,I o.v.o1,I o.v.o2,I o.v.o3,.string o.v.value,.bool o.v.ts]] g fun e j=>e=.returned (I (zP N.tN o.key o.v))/\Fr Nil g j):=by
  intro g f;obtain⟨kv,hv,j2,ha,_⟩:=c3.o g f;have hb:=ha.td;rw[c6] at hb;exact TV q N.tN kv hv o.key o.v g hb
 have c9:=Z a4;have b7:aa (∀ g,Fr Nil w5 g->∀ k,g.cell? (Y w.heap.size k)=([I o.kind,I o.a,I o.b,I o.c,.string o.key,.string o.tZ,I o.v.node,I o.v.seq,I o.v.o0,I o.v.o1,I o.v.o2,I o.v.o3,.string o.v.value,.bool o.v.ts,o.rz]:List Value)[k]?):=fun g f=>t.o.op (l.o.trans (l.o.th.nil f));clear i2 v a4 e1 d9 HK a5 i b6 b5 c7 HQ c8 d2 g3;have g3:=b7.o w5 (U _ _);go_wp2_with fail
 go_region_held3 (fun j=>∀ k,j.cell? (Y w.heap.size k)=([I o.kind,I o.a,I o.b,I o.c,.string o.key,.string o.tZ,I o.v.node,I o.v.seq,I o.v.o0,I o.v.o1,I o.v.o2,I o.v.o3,.string o.v.value,.bool o.v.ts,o.rz]:List Value)[k]?) (first|assumption|go_keep)
  (first
  | (go_at_call 111;refine(h7.o _ zd).mono ?_;rintro e w8 ⟨rfl,j6⟩;have e4:Fr Nil w5 w8:=Fr.trans zd j6;have A:=Z e4;have k4:=b7.o w8 e4;clear j6 e4)
  | (go_at_call 107;refine(y.o _ zd).mono ?_;rintro e w9 ⟨rfl,n9,g0⟩;subst w9))
 have h8:=l.o.trans (l.o.th.nil A.o);have x:=Z h8;have c4:=h8.th.tE.td.cell;simp only[WM.cells] at c4;have a0:aa (∀ c,Y2 N o.key o.v=some c->er=c/\N5=N/\M5=M):=fun c hc=>by
  have:=C.o;rw[hc] at this;simp only[Ak] at this;exact this
 clear h8;by_cases hb:zP N.tN o.key o.v=0
 .cases hbr:W.tq with
  | true =>
   have i:Y2 N o.key o.v=some 8:=by unfold Y2;rw[CW bw,Bl (by rw[d1.o,hbr])]
   exact GG
  | false =>
   have G:N.uW=false:=by rw[d1.o,hbr]
   have l3:zW o.v.node:=Vj (TJ hb);have b1:=Z (fun g (f:Fr Nil w8 g)=>QX K q m o.key o.v g (c3.o g (A.o.trans f)) l1 (by rw[h9.o];exact i6.o) l3 (by rw[h9.o];exact j1.o));rw[hbr] at c4;rw[hb];simp only[Ver.cells] at b1;rw[h9.o] at b1;have l4:=OS (zn N.S.uR o.key) o.v;rcases l4 with hw|hw|hw
   .have i:Y2 N o.key o.v=some 0:=by unfold Y2;rw[CW bw,CW aS,Bl hw]
    obtain⟨rfl,rfl,rfl⟩:=a0.o _ i;have b3:=Z (fun g f=>a2.o _ i X5 g (t.o.st.trans (x.o.trans (x.o.th.nil f))));have a6:aa (∀ g,Fr Nil w8 g->Calls prog 112 #[E q 0,.string o.key,.agg #[I o.v.node,I o.v.seq,I o.v.o0,I o.v.o1,I o.v.o2,I o.v.o3,.string o.v.value,.bool o.v.ts]] g fun e j=>e=.returned (.tuple #[E q 0,I 0])/\Fr Nil g j):=fun g f=>(b1.o g f).mono (fun e j h=>by
     rw[hw] at h;rcases h with⟨_,h⟩|⟨h0,_⟩|⟨h0,_⟩
     .exact h
     .exact absurd h0 O
     .exact absurd h0 O)
    have l7:=0;exact LY
   .have i:Y2 N o.key o.v=some 6:=by unfold Y2;rw[CW bw,CW aS,CW (by rw[hw];decide),Bl hw]
    obtain⟨rfl,rfl,rfl⟩:=a0.o _ i;have b3:=Z (fun g f=>a2.o _ i X5 g (t.o.st.trans (x.o.trans (x.o.th.nil f))));have a6:aa (∀ g,Fr Nil w8 g->Calls prog 112 #[E q 0,.string o.key,.agg #[I o.v.node,I o.v.seq,I o.v.o0,I o.v.o1,I o.v.o2,I o.v.o3,.string o.v.value,.bool o.v.ts]] g fun e j=>e=.returned (.tuple #[.pointer none,I 6])/\Fr Nil g j):=fun g f=>(b1.o g f).mono (fun e j h=>by
     rw[hw] at h;rcases h with⟨h0,_⟩|⟨_,h⟩|⟨h0,_⟩
     .exact absurd h0 O
     .exact h
     .exact absurd h0 O)
    exact LY
   .have i:Y2 N o.key o.v=none:=by unfold Y2;rw[CW bw,CW aS,CW (by rw[hw];decide),CW (by rw[hw];decide)]
    have d0:=Z (a3.o i);have a6:aa (∀ g,Fr Nil w8 g->Calls prog 112 #[E q 0,.string o.key,.agg #[I o.v.node,I o.v.seq,I o.v.o0,I o.v.o1,I o.v.o2,I o.v.o3,.string o.v.value,.bool o.v.ts]] g fun e j=>∃ nb,e=.returned (.tuple #[E nb 0,I 0])/\MRep (KGr K g j) j nb (m.se o.key o.v)/\Fr Nil g j/\g.heap.size<=nb):=fun g f=>(b1.o g f).mono (fun e j h=>by
     rw[hw] at h;rcases h with⟨h0,_⟩|⟨h0,_⟩|⟨_,h⟩
     .exact absurd h0 O
     .exact absurd h0 O
     .exact h)
    clear i a0 a3 C a2 hb hw b1 G;go_wp2_with fail;clear c4
    go_region_held3 (fun j=>∀ k,j.cell? (Y w.heap.size k)=([I o.kind,I o.a,I o.b,I o.c,.string o.key,.string o.tZ,I o.v.node,I o.v.seq,I o.v.o0,I o.v.o1,I o.v.o2,I o.v.o3,.string o.v.value,.bool o.v.ts,o.rz]:List Value)[k]?) (first|assumption|go_keep)
     (first
     | (go_at_call 112;refine(a6.o _ zd).mono ?_;rintro e w9 ⟨nb,rfl,j8,c5,j7⟩;have b4:Fr Nil w8 w9:=Fr.trans zd c5;have g4:=b7.o w9 (A.o.trans b4);have j0:=Z j8;have i7:=Z (x.o.trans ((x.o.th.nil zd).trans ((x.o.th.nil zd).th.gr c5)));have k7:=Z j7;have R:=Z b4;clear c5 b4 j8 j7)
     | (go_at_call 107;refine(y.o _ (A.o.trans zd)).mono ?_;rintro e w9 ⟨rfl,n9,g0⟩;subst w9))
    have i3:nb≠q:=by have h1:=c9.o;have h2:w8.heap.size<=nb:=k7.o;have h3:=A.o.size;omega
    have k8:=Z i3;have j5:∀ n,(binOp .eql 104 (E nb 0) (E q 0)).run prog (w9.drewN n)=.ok (.bool false) (w9.drewN n):=by
     intro n;obtain⟨c1,a8⟩:=j0.o.td;obtain⟨c2,k9⟩:=(c3.o w9 (A.o.trans R.o)).td;exact(SH (a8.drewN n) (k9.drewN n) i3).2
    clear g4 i3;go_wp2_with fail;refine(y.o _ (A.o.trans R.o)).mono ?_;rintro e J ⟨rfl,e8,f9⟩;subst J;have a9:=Z (i7.o.trans (i7.o.th.nil ((U _ w9).drewN e8)));have e9:=Z (d0.o _ X5 nb _ (t.o.st.trans a9.o) (j0.o.drewN e8) k8.o);have j4:=t.o.ma a9.o;clear y a6 d0;have l0:=j5 e8;exact OT
 .have i:Y2 N o.key o.v=some (zP N.tN o.key o.v):=by unfold Y2;rw[Bl hb]
  obtain⟨rfl,rfl,rfl⟩:=a0.o _ i;have b3:=Z (fun g f=>a2.o _ i X5 g (t.o.st.trans (x.o.trans (x.o.th.nil f))));have e5:(zP N5.tN o.key o.v==0)=false:=by simp[hb]
  have a1:=Z (Zd K L W X5.LD M5 (zP N5.tN o.key o.v) (zP N5.tN o.key o.v) M5.uS w8 x.o.th.tE x.o.th.tI);simp only[xu,yx] at a1;clear i a0 a3 C a2;generalize zP N5.tN o.key o.v=bp at *;exact OU
end Go.Proofs.YtkhnggkkiefcdaaGreatDoor
