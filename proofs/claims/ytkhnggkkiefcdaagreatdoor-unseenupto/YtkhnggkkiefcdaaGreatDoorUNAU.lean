/- larder: joined texts -/
import Derived.Test.YtkhnggkkiefcdaaGreatDoorUNAH
import Derived.Test.YtkhnggkkiefcdaaGreatDoorUNAI
import Derived.Test.YtkhnggkkiefcdaaGreatDoorUNAK
import Derived.Test.YtkhnggkkiefcdaaGreatDoorUNAM
import Derived.Test.YtkhnggkkiefcdaaGreatDoorUNAN
import Derived.Test.YtkhnggkkiefcdaaGreatDoorUNAO
import Derived.Test.YtkhnggkkiefcdaaGreatDoorUNAT
namespace Go.Proofs.YtkhnggkkiefcdaaGreatDoor
open Go.RowKit
set_option maxRecDepth 100000
set_option maxHeartbeats 8000000
def X0(W:WM)(N:NM)(m:LM):Nat × Option LM :=
 if N.readOnly=W.broken/\N.S.keys.length=m.keys.length/\N.S.hints=m.hints then
  ((Z3 (16*W.calls) W.most N.S.keys m.keys).2.1.toNat,if (Z3 (16*W.calls) W.most N.S.keys m.keys).2.2=true then some {m with keys:=(Z3 (16*W.calls) W.most N.S.keys m.keys).1} else none)
 else(W.most,none)
theorem Kb{b c n:Int}{a:ByteArray}{l u:List Ver}{S M:Keys}(h:Y6 c b l u 0=some n)(d:0<n):Z3 b c ((a,l)::S) ((a,u)::M)=((a,u.map (Ta n))::(Z3 b n S M).1,(Z3 b n S M).2):=by
 conv=>lhs;unfold Z3
 rw[IC rfl,h];simp only;rw[IC d]
theorem Tb{top mo n:Int}{a:ByteArray}{l u:List Ver}{S M:Keys}(h:Y6 mo top l u 0=some n)(b:¬0<n):Z3 top mo ((a,l)::S) ((a,u)::M)=((a,u)::(Z3 top mo S M).1,(Z3 top mo S M).2):=by
 conv=>lhs;unfold Z3
 rw[IC rfl,h];simp only;rw[It b]
def W8(self:Int)(a:Int)(K:Keys):Prop:=∀ e∈K,∀ u∈e.2,u.node=self->u.seq<=a
def Given(K:Keys):Prop:=∀ e∈K,∀ u∈e.2,1<=u.seq
def Uz(self:Int)(K:Keys):Prop:=∀ e∈K,∀ u∈e.2,u.seq=0->u.node=self
theorem W8.mono{self c a:Int}{K:Keys}(h:W8 self c K)(q:c<=a):W8 self a K:=fun e o u y r=>Int.le_trans (h e o u y r) q
theorem Given.zero{self:Int}{K:Keys}(h:Given K):Uz self K:=fun e a u b c=>by have:=h e a u b;omega
theorem Rg{self j top:Int}:∀ {l m:List Ver}{s:Int},(∀ u∈l,u.node=self->u.seq<=j)->(∀ u∈l,1<=u.seq)->(∀ u∈m,u.seq=0->u.node=self)->l≠m->Y6 j top l m s=none
 | [],[],s,_,_,_,h=>absurd rfl h
 | a::l,u::m,s,d,f,g,h=>by
  have k:=fun s=>Rg (top:=top) (s:=s) (fun x b=>d x (Iq _ b)) (fun x b=>f x (Iq _ b)) (fun x b=>g x (Iq _ b)) (l:=l) (m:=m);unfold Y6;have o:=f a (Is ..);by_cases c:u.seq=0
  .rw[IC c]
   split
   .rfl
   .split
    .rename_i hm hs
     exfalso
     have e:=(Wh _ _).1 hs;have i:=g u (Is ..) c;rw[<- e] at i;have:=d a (Is ..) i;exact hm (.inl this)
    .rfl
  .rw[It c]
   split
   .rename_i hs
    have e:=(Wh _ _).1 hs;subst e;exact k s (fun e=>h (by rw[e]))
   .rfl
 | [],_::_,_,_,_,_,_=>rfl
 | _::_,[],_,_,_,_,_=>rfl
theorem Ut{mo top:Int}:∀ {S:Keys},Given S->Z3 top mo S S=(S,mo,true)
 | [],_=>rfl
 | (a,l)::S,h=>by
  have d:=Ut (mo:=mo) (top:=top) (S:=S) (fun e b=>h e (Iq _ b));rw[Tb (W7 (n:=0) (fun u c=>by have:=h (a,l) (Is ..) u c;omega)) (by omega),d]
theorem PC{self g top:Int}:∀ {S M:Keys},W8 self g S->Given S->Uz self M->S≠M->Z3 top g S M=(M,g,false)
 | [],[],_,_,_,h=>absurd rfl h
 | (a,l)::S,(b,u)::M,i,f,j,h=>by
  by_cases c:a=b
  .subst c
   by_cases k:l=u
   .subst k
    have o:=PC (top:=top) (S:=S) (M:=M) (fun e d=>i e (Iq _ d)) (fun e d=>f e (Iq _ d)) (fun e d=>j e (Iq _ d)) (fun e=>h (by rw[e]));rw[Tb (W7 (n:=0) (fun u m=>by have:=f (a,l) (Is ..) u m;omega)) (by omega),o]
   .unfold Z3
    rw[IC rfl,Rg (i (a,l) (Is ..)) (f (a,l) (Is ..)) (j (a,u) (Is ..)) k]
  .unfold Z3
   rw[It c]
 | [],_::_,_,_,_,_=>rfl
 | _::_,[],_,_,_,_=>rfl
theorem Rh{mo top:Int}:∀ (A:Keys){S M:Keys},Given A->Z3 top mo (A++S) (A++M)=(A++(Z3 top mo S M).1,(Z3 top mo S M).2)
 | [],_,_,_=>rfl
 | (a,l)::A,S,M,h=>by
  have d:=Rh (mo:=mo) (top:=top) A (S:=S) (M:=M) (fun e b=>h e (Iq _ b));rw[IU,IU,Tb (W7 (n:=0) (fun u c=>by have:=h (a,l) (Is ..) u c;omega)) (by omega),d]
  rfl
theorem OR{mo top n:Int}{K:Keys}(a:ByteArray)(v:Ver)(h:YH K)(d:Given K)(c:v.seq=0)(j:mo<n)(k:0<=mo)(l:n<=top) :
 Z3 top mo (zX K a [{v with seq:=n}]) (zX K a [v])=(zX K a [{v with seq:=n}],n,true):=by
 rw[Y5 a _ h,Y5 a _ h];simp only[Du,Hy];unfold ZU;have f:∀ e∈K.take (low zh (K.map Prod.fst) a),e∈K:=fun e b=>He b;have g:∀ e∈K.drop (if zZ zh (K.map Prod.fst) a=true then low zh (K.map Prod.fst) a+1 else low zh (K.map Prod.fst) a),e∈K:=fun e b=>IK b;generalize K.take (low zh (K.map Prod.fst) a)=A at f |-;generalize K.drop (if zZ zh (K.map Prod.fst) a=true then low zh (K.map Prod.fst) a+1 else low zh (K.map Prod.fst) a)=C at g |-;rw[IA,IA,Rh A (fun e b=>d e (f e b))];simp only[Dg];have i:Y6 mo top [{v with seq:=n}] [v] 0=some n:=by
  unfold Y6;rw[IC c,It (by simp only;omega),IC ((Wh _ _).2 (by cases v;simp only at c |-;rw[c]))]
  rfl
 rw[Kb i (by omega),Ut (fun e b=>d e (g e b))];simp[Ta,c]
def Z9(m:LM)(S:SM):Prop:=m.keys=S.keys/\m.hints=S.hints
structure MOk(node:Int)(m:LM)(t:Nat):Prop where
 Aa:YH m.keys
 keys:m.keys.length<=t
 lens:∀ e∈m.keys,e.2.length<=5
 hints:m.hints.length<=33
 zero:Uz node m.keys
 node:m.node=node
def Ws(node:Int)(a b:Nat)(S:SM):Prop:=zK S/\b<=S.Bh/\S.Bh<=16*a/\W8 node b S.keys
def Zx(node:Int)(a b:Nat)(F:List Fact)(p:Nat):Prop:=∀ q,p<=q->q<=F.length->Ws node a b (atF F q)
def Hist(st:List LM)(F:List Fact)(p:Nat)(a:Prop):Prop :=
 ∃ j:Nat->Nat,(∀ q r,q<=r->j q<=j r)/\(∀ q,p<=q->q<=F.length->∃ m,st[j q]?=some m/\Z9 m (atF F q))/\(a->j F.length+1=st.length)
theorem Hist.mono{st:List LM}{F:List Fact}{p e:Nat}{T c:Prop}(h:Hist st F p T)(B:p<=e)(A:c->T):Hist st F e c:=by
 obtain⟨j,o,r,y⟩:=h;exact⟨j,o,fun q a b=>r q (Im B a) b,fun t=>y (A t)⟩
theorem Hist.last{st:List LM}{F:List Fact}{p:Nat}(h:Hist st F p True)(d:p<=F.length):∃ m,st[st.length-1]?=some m/\Z9 m (atF F F.length)/\0<st.length:=by
 obtain⟨j,i,b,c⟩:=h;obtain⟨m,a,g⟩:=b F.length d (Io _);have:=c trivial;have e:j F.length=st.length-1:=by omega
 rw[e] at a;exact⟨m,a,g,by omega⟩
theorem Hist.quiet{st:List LM}{F:List Fact}{p:Nat}{T:Prop}(h:Hist st F p T)(l:p<=F.length)(x:Fact)(o:∀ m,Z9 m (atF F F.length)->Z9 m ((atF F F.length).enter x)):Hist st (F++[x]) p T:=by
 obtain⟨j,i,g,k⟩:=h;refine⟨fun q=>j (min q F.length),fun q r h=>i _ _ (by omega),fun q a b=>?_,fun t=>?_⟩
 .rw[Il,Ix] at b
  by_cases d:q<=F.length
  .obtain⟨m,c,f⟩:=g q a d
   refine⟨m,?_,by rw[Xr d];exact f⟩;show st[j (min q F.length)]?=_;rw[Hx d];exact c
  .have e:q=F.length+1:=by omega
   obtain⟨m,c,f⟩:=g F.length l (Io _);refine⟨m,?_,?_⟩
   .show st[j (min q F.length)]?=_
    rw[Cr (by omega)];exact c
   .rw[e,Xj]
    exact o m f
 .rw[Il,Ix]
  show j (min (F.length+1) F.length)+1=_;rw[Cr (by omega)];exact k t
theorem Hist.push{st:List LM}{F G:List Fact}{p:Nat}{T:Prop}(o:G.length<=1)(h:p<=F.length->Hist st F p T)(i:p<=(F++G).length)(m:LM)(g:Z9 m (atF (F++G) (F++G).length)):Hist (st++[m]) (F++G) p True:=by
 by_cases f:p<=F.length
 .obtain⟨j,h1,h2,h3⟩:=h f
  refine⟨fun q=>if q<(F++G).length then min (j q) st.length else st.length,fun q r h=>?_,fun q a b=>?_,fun _=>?_⟩
  .have:=h1 q r h
   simp only;split <;> split <;> omega
  .by_cases hq:q<(F++G).length
   .have hqF:q<=F.length:=by rw[Il] at hq;omega
    obtain⟨l,c,k⟩:=h2 q a hqF;have d:=(IQ.1 c).1;refine⟨l,?_,by rw[Xr hqF];exact k⟩;simp only;rw[IC hq,Hx (by omega),GZ d];exact c
   .have e:q=(F++G).length:=by omega
    refine⟨m,?_,by rw[e];exact g⟩;simp only;rw[It hq];simp
  .simp
 .refine⟨fun _=>st.length,fun _ _ _=>Io _,fun q a b=>?_,fun _=>by simp⟩
  have e:q=(F++G).length:=by rw[Il] at b i |-;omega
  exact⟨m,by simp,by rw[e];exact g⟩
theorem Hist.one{F:List Fact}(m:LM)(c:Z9 m (atF F F.length)):Hist [m] F F.length True:=by
 refine⟨fun _=>0,fun _ _ _=>Io _,fun q a b=>?_,fun _=>rfl⟩;have e:q=F.length:=by omega
 rw[e];exact⟨m,rfl,c⟩
theorem Hist.maybe{st:List LM}{F:List Fact}{p:Nat}{T:Prop}(h:Hist st F p T)(m:LM):Hist (st++[m]) F p False:=by
 obtain⟨j,d,e,_⟩:=h;refine⟨j,d,fun q a b=>?_,fun f=>f.elim⟩;obtain⟨i,c,g⟩:=e q a b;exact⟨i,by rw[GZ (IQ.1 c).1];exact c,g⟩
theorem VO{F a:List Fact}(h:a<+:F){q:Nat}(b:q<=a.length):atF a q=atF F q:=by
 obtain⟨r,rfl⟩:=h;rw[Xr b]
theorem Hist.cut{st:List LM}{F c:List Fact}{p e:Nat}{T:Prop}(h:Hist st F p T)(d:c<+:F)(l:p<=e):Hist st c e False:=by
 obtain⟨j,g,i,_⟩:=h;refine⟨j,g,fun q a b=>?_,fun f=>f.elim⟩;obtain⟨m,k,o⟩:=i q (Im l a) (Im b d.length_le);exact⟨m,k,by rw[VO d b];exact o⟩
theorem Zx.cut{node:Int}{c f:Nat}{F d:List Fact}{p g:Nat}(h:Zx node c f F p)(e:d<+:F)(i:p<=g):Zx node c f d g:=fun q a b=>by
 rw[VO e b];exact h q (Im i a) (Im b e.length_le)
theorem Zx.snoc{node:Int}{c f:Nat}{F:List Fact}{p:Nat}(h:p<=F.length->Zx node c f F p)(x:Fact)(g:Ws node c f ((atF F F.length).enter x)):Zx node c f (F++[x]) p:=fun q a b=>by
 rw[Il,Ix] at b;by_cases d:q<=F.length
 .rw[Xr d]
  exact h (Im a d) q a d
 .have e:q=F.length+1:=by omega
  rw[e,Xj];exact g
theorem Ws.mono{node:Int}{c a o e:Nat}{S:SM}(h:Ws node c o S)(q:c<=a)(y:o<=e)(r:e<=S.Bh):Ws node a e S :=
 ⟨h.1,r,Im h.2.2.1 (Nat.mul_le_mul_left 16 q),h.2.2.2.mono (by omega)⟩
theorem Hist.found{st:List LM}{F:List Fact}{p:Nat}{T:Prop}(h:Hist st F p T)(Q:p<=F.length) :
 ∃ i m,st[i]?=some m/\Z9 m (atF F F.length)/\(∀ k f,i<k->st[k]?=some f->¬Z9 f (atF F F.length))/\Hist (st.take i++[m]) F p True/\(T->i+1=st.length):=by
 obtain⟨j,E,I,L⟩:=h;obtain⟨S,B,C⟩:=I F.length Q (Io _)
 -- the greatest index
 have D:∀ d i m,st.length-i<=d->st[i]?=some m->Z9 m (atF F F.length)->j F.length<=i->∃ i m,st[i]?=some m/\Z9 m (atF F F.length)/\j F.length<=i/\∀ k f,i<k->st[k]?=some f->¬Z9 f (atF F F.length):=by
  intro d
  induction d with
  | zero =>
   intro i m M o;have:=(IQ.1 o).1;omega
  | succ d R =>
   intro i m M o x J;by_cases s:∃ k f,i<k/\st[k]?=some f/\Z9 f (atF F F.length)
   .obtain⟨k,f,y,c,g⟩:=s
    exact R k f (by have:=(IQ.1 c).1;omega) c g (by omega)
   .exact⟨i,m,o,x,J,fun k f y c g=>s ⟨k,f,y,c,g⟩⟩
 obtain⟨i,m,o,x,J,v⟩:=D _ _ S (Io _) B C (Io _);have N:=(IQ.1 o).1;have l:∀ k f,k<=i->st[k]?=some f->(st.take i++[m])[k]?=some f:=fun k f y c=>by
  by_cases A:k<i
  .rw[GZ (by rw[Ip];omega),Gc A]
   exact c
  .have:k=i:=by omega
   subst this;rw[o] at c;obtain rfl:=Hb c;rw[FR (by rw[Ip];omega)];have K:k-(st.take k).length=0:=by rw[Ip];omega
   rw[K]
   rfl
 refine⟨i,m,o,x,v,⟨fun q=>if q<F.length then min (j q) i else i,fun q r h=>?_,fun q a b=>?_,fun _=>?_⟩,fun t=>?_⟩
 .have:=E q r h
  simp only;split <;> split <;> omega
 .by_cases hq:q<F.length
  .obtain⟨f,c,g⟩:=I q a b
   have O:=E q F.length b;refine⟨f,?_,g⟩;simp only;rw[IC hq,Hx (by omega)];exact l _ f (by omega) c
  .have e:q=F.length:=by omega
   refine⟨m,?_,by rw[e];exact x⟩;simp only;rw[It hq];exact l i m (Io _) o
 .simp only[CW,Hy,Il,Ip,Ix]
  omega
 .have:=L t
  omega
def Zer(self:Int)(mo:Nat)(m:LM)(S:SM)(n:Nat):Prop :=
 ∃ K a v,YH K/\Given K/\W8 self mo K/\v.seq=0/\v.node=self/\m.keys=zX K a [v]/\S.keys=zX K a [{v with seq:=n}]/\m.hints=S.hints
theorem zK.given{S:SM}(h:zK S):Given S.keys:=fun e a u b=>((h.key e a).2.2 u b).one
theorem Kc{W:WM}{N:NM}{m:LM}(d:zK N.S)(b:N.readOnly=W.broken)(e:Z9 m N.S):X0 W N m=(W.most,some m):=by
 obtain⟨a,c⟩:=e;unfold X0;rw[IC ⟨b,by rw[a],c.symm⟩,a,Ut d.given];simp only[DV,Gh];rw[<- a]
theorem J0{W:WM}{N:NM}{m:LM}(a:zK N.S)(b:W8 W.node W.most N.S.keys)(d:Uz W.node m.keys)(c:¬(N.readOnly=W.broken/\Z9 m N.S)):X0 W N m=(W.most,none):=by
 unfold X0;split
 .rename_i h1
  rw[PC b a.given d (fun e=>c ⟨h1.1,e.symm,h1.2.2.symm⟩)];simp
 .rfl
theorem OS{W:WM}{N:NM}{m:LM}{n:Nat}(h:Zer W.node W.most m N.S n)(p:W.most<n)(q:n<=16*W.calls)(d:N.readOnly=W.broken) :
 X0 W N m=(n,some {m with keys:=N.S.keys}):=by
 obtain⟨K,a,v,c,e,l,f,o,g,i,j⟩:=h;have k:=OR (mo:=W.most) (top:=16*W.calls) (n:=(n:Int)) a v c e f (by omega) (by omega) (by omega);unfold X0;have b:(zX K a [{v with seq:=(n:Int)}]).length=(zX K a [v]).length:=by
  rw[Y5 a _ c,Y5 a _ c];simp only[Du,Hy,ZU,Il,Ix]
 rw[g,i,k,IC ⟨d,b,j.symm⟩];simp
structure Cm(W:WM)(t:Nat):Prop where
 AV:∀ m∈W.st,MOk W.node m t
 calls:W.calls<=t
 ww:W.writes<=t
 len:W.st.length<=t+1
 ne:0<W.st.length
 next:W.next<=t
 base:W.base<=100000
 xF:W.bk.vs.length<=4*t
 xH:W.bk.vm.length<=4*t
 xL:W.bk.ns.length<=4*t
 xI:W.bk.nm.length<=4*t
 xJ:W.bk.hs.length<=4*t
 xG:W.bk.hm.length<=4*t
 BT:-9223372036854775808<=W.BT/\W.BT<=9223372036854775807
def WM.As(W:WM):Int:=if W.room<0 then 1152921504606846976 else W.room
structure NI(W:WM)(N:NM)(M:DM)(F:List Fact)(p t:Nat):Prop where
 kp:Kp N M F p t (N.readOnly=false)
 cm:Cm W t
 room:M.room=W.As
 BR:Hist W.st F p True
 yG:Zx W.node W.calls W.most F p
 ro:N.readOnly=W.broken
 self:W.node=(N.self:Int)
 nd:N.self<4
 most:W.most<=N.given
 given:N.given<=N.S.Bh
 xm:N.readOnly=false->N.given<N.S.Bh->Leas F p N.S.Bh
 every:W.every=(N.every:Int)
 wr:N.readOnly=false->N.every≠0->N.writes=W.writes%N.every
 nw:N.writes<=t
 dead:M.dead=false
def Doubt(W:WM)(st:List LM)(m:LM)(F:List Fact)(p n:Nat):Prop :=
 ∃ a x,F=a++[x]/\(p<=a.length->Hist st a p True)/\Zer W.node W.most m (atF F F.length) n/\W.most<n/\Zx W.node W.calls n F p/\∀ q,p<=q->q<=a.length->W8 W.node W.most (atF F q).keys
structure Sh(W:WM)(M:DM)(F:List Fact)(p t:Nat):Prop where
 lg:∃ y,Lg M y p t/\y.F=F
 cm:Cm W t
 room:M.room=W.As
 all:(Zx W.node W.calls W.most F p/\(Hist W.st F p True\/(W.BV=true\/M.dead=true)/\Hist W.st F p False))\/(W.BV=true\/M.dead=true)/\∃ st m n,W.st=st++[m]/\Doubt W st m F p n
theorem Xs(l:List Ver)(n:Int)(h:∀ u∈l,u.Nat):isN (grV l n):=by
 unfold grV;have c:∀ (l:List Ver) (a:Int),isN a->(∀ u∈l,u.Nat)->isN (l.foldl (fun m u=>if u.node=n then max m u.seq else m) a):=by
  intro l
  induction l with
  | nil=>intro a b _;exact b
  | cons x l f =>
   intro a b d;rw[Hk];refine f _ ?_ (fun u e=>d u (Iq _ e));split
   .have:=(d x (Is ..)).seq
    unfold isN at *;omega
   .exact b
 exact c l 0 ⟨by decide,by decide⟩ h
theorem TX{l:List Ver}{v:Ver}(h:l.length<=4)(c:∀ u∈l,VOk u)(d:v.gone=false->VOk v)(f:v.gone=false->(zC l v).length<4):(Zu l v).length<=4/\∀ u∈Zu l v,VOk u:=by
 have g:=SX l v;have b:∀ u∈zC l v,u∈l:=fun u a=>(FJ.1 a).1;unfold Zu;split
 .exact⟨by omega,fun u a=>c u (b u a)⟩
 .rename_i hg
  have e:=f (by simpa using hg);refine⟨by rw[Uh];omega,?_⟩;intro u a;unfold withV at a;simp only[Ir,Iv] at a;rcases a with(a|rfl)|a
  .exact c u (b u (He a))
  .exact d (by simpa using hg)
  .exact c u (b u (IK a))
theorem Uu{l:List Ver}{v:Ver}(a:l.any v.BQ=false):∀ u∈l,u.dot≠v.dot:=by
 intro u c e;have:l.any v.BQ=true:=by
  rw[Do];refine⟨u,c,?_⟩;unfold Ver.BQ;unfold Ver.dot at e;simp only[Gq] at e;simp[e.1,e.2]
 rw[a] at this;cases this
theorem J5{l:List Ver}{v:Ver}(d:Yx l)(f:l.any v.BQ=false):Yx (Zu l v):=by
 have a:=SY d v;have c:∀ u∈zC l v,u∈l:=fun u h=>(FJ.1 h).1;unfold Zu;split
 .exact a
 .unfold Yx at a |-
  have:=Asc.ins Y4 (b:=v.dot) a (fun g e=>by
   rw[IR] at e;exact Uu f _ (c _ (Iu _)) e)
  unfold withV
  simpa [List.map_take,List.map_drop] using this
theorem TY{self:Nat}{v:Ver}(h:foreign self v=true)(j:v.value.size<=128)(f:v.gone=false):VOk v:=by
 have g:=Uj h
 suffices i:v.Nat/\1<=v.seq from⟨g,i.1,j,i.2,f⟩
 unfold foreign Ver.AO at h;simp only[Ci,CD,Cj,Hz,Zf,IF] at h;obtain⟨⟨a,b,c,d⟩,_,_,e⟩:=h;unfold Zt at g;exact⟨⟨⟨g.1,by omega⟩,⟨by omega,by omega⟩,⟨a.1,by omega⟩,⟨b.1,by omega⟩,⟨c.1,by omega⟩,⟨d.1,by omega⟩,by omega⟩,by omega⟩
theorem TZ{a:ByteArray}{l:List Ver}(b:zF a=true)(h:∀ u∈l,VOk u)(d:l.length<=5):(zj (.inr (.inl (a,l)))).size<=1900:=by
 show(zp (Xx a l)).size<=1900;rw[YO];unfold zF at b;simp only[IF] at b;unfold Xx;have e:=zB (n:=2) (by decide);have f:=V8 a (by omega);have g:=Un l h d;have c:=XQ (zk 2++(Z7 a.data.toList++ZG l)) (by simp only[Il];omega);simp only[Il] at c;omega
theorem Jl.size{J:JM}{M:DM}{y:Lay}{p t:Nat}(h:Jl J M y)(a:Lg M y p t):J.size<=2000*(t+100)/\J.last<=2*t:=by
 have c:=h.1;refine⟨?_,a.yD c⟩;rcases Gy y.G with e|⟨r,s,e⟩
 .rw[c,e];exact II _
 .rw[Gz] at e
  have o:s∈y.G:=by rw[e];simp
  have:=a.bd.file (a.AC s o);rw[a.bytes s o] at this;rw[c,e,JM.Ac];exact this
theorem JG{J:JM}{M:DM}{y:Lay}{p t:Nat}(h:Lg M y p t)(b:Jl J M y)(s:t+2<=990000)(H n:Nat)(r:n<=2000)(l:∀ g∈M.ids,g<H):YV J M H n where
 bytes:=by omega
 size:=by have:=(b.size h).1;omega
 last:=by have:=(b.size h).2;omega
 Bl:=by
  obtain⟨e,k,c,a,_⟩:=XI h b.1 (by omega);rw[c];have:=a.bd.Bl;simp only;omega
 dir:=by
  obtain⟨e,k,c,a,_⟩:=XI h b.1 (by omega);rw[c];have:=a.bd.dir;simp only;omega
 room:=fun f q=>by
  obtain⟨e,o,k,u,c,a,_,_,_,_,_,_,_,_,_,j,i⟩:=TQ h b (by omega) n f (fun m=>by have:=l f m;omega);rw[c];refine⟨a.bd.part,?_,fun g d=>by have:=a.bd.file d;simp only;omega⟩;cases e with
  | none =>
   have:=((i rfl).1.size a).1;simp only;omega
  | some x =>
   have:=(b.size h).1;rw[j (by simp)];simp only;omega
theorem UA{N:NM}{M:DM}{F:List Fact}{p t:Nat}(h:Kp N M F p t True)(f:t+2<=990000)(H:Nat)(d:∀ g∈M.ids,g<H)(x:Fact)(i:FOk x)(a:(zj x).size<=2000)(j:N.S.keys.length<=100000000)(k:N.writes<=100000000):Fit N M H x:=by
 have e:=h.An F.length;rw[<- h.held] at e;obtain⟨⟨l,b,_,c⟩,_⟩:=h;exact⟨i,JG b (c trivial).1 f H _ a d,by omega,by omega,by omega⟩
theorem PD{N:NM}{M:DM}{F:List Fact}{p t:Nat}(h:Kp N M F p t True)(Q:t+10<=990000)(m:N.given<100000000000)(k:N.given<=N.S.Bh)(E:N.given<N.S.Bh->Leas F p N.S.Bh)(H:Nat)(r:∀ g∈M.ids,g<H)(b:ByteArray)(x:NM->Nat->List Ver)(l:List Ver)
 (J:∀ j:NM,j.S.keys=N.S.keys->j.self=N.self->x j (N.given+1)=l)(K:FOk (.inr (.inl (b,l))))(d:(zj (.inr (.inl (b,l)))).size<=2000)(u:N.S.keys.length<=100000000)(v:N.writes<=100000000):VE N M H b x where
 log:=(UA h (by omega) H r (.inl (N.given+16)) (by show N.given+16<_;omega) (by have:=TS (n:=N.given+16) (by omega);omega) u v).log
 keys:=by omega
 hints:=by have s:=h.An F.length;rw[<- h.held] at s;omega
 given:=by omega
 fact:=fun f s o B _ a=>by
  obtain⟨O,q,i,L,A,R,C,y,I,D,_⟩:=LY h (by omega) m k E f (fun G=>by have:=r f G;omega);rw[C] at o a |-;simp only at o a |-;subst o;simp only[Gh] at a y |-;have c:i.keys=N.S.keys:=by
   rcases D with⟨_,e⟩|⟨_,e,_⟩
   .rw[e]
   .rw[e]
  rw[J {N with J:=q,S:=i,given:=N.given+1} c rfl];exact UA (N:={N with J:=q,S:=i,given:=N.given+1}) (y.kp.mono (fun _=>rfl) (Io _)) (by omega) B a _ K d (by show i.keys.length<=_;rw[c];exact u) v
theorem MOk.more{node:Int}{m:LM}{t u:Nat}(h:MOk node m t)(a:t<=u):MOk node m u:=⟨h.Aa,Im h.keys a,h.lens,h.hints,h.zero,h.node⟩
theorem Cm.more{W:WM}{t u:Nat}(h:Cm W t)(a:t<=u):Cm W u :=
 ⟨fun m b=>(h.AV m b).more a,Im h.calls a,Im h.ww a,by have:=h.len;omega,h.ne,Im h.next a,h.base,by have:=h.xF;omega,by have:=h.xH;omega,by have:=h.xL;omega,by have:=h.xI;omega,by have:=h.xJ;omega,by have:=h.xG;omega,h.BT⟩
theorem Cm.AP{W W':WM}{t:Nat}(h:Cm W t)(k:W'.node=W.node)(j:∀ m∈W'.st,MOk W.node m t)(i:W'.st.length<=t+1)(c:0<W'.st.length)(l:W'.writes<=t)(g:W'.calls=W.calls)(d:W'.next=W.next)(e:W'.base=W.base)(a:W'.bk=W.bk)(f:W'.BT=W.BT:=by rfl):Cm W' t :=
 ⟨fun m b=>by rw[k];exact j m b,by rw[g];exact h.calls,l,i,c,by rw[d];exact h.next,by rw[e];exact h.base,by rw[a];exact h.xF,by rw[a];exact h.xH,by rw[a];exact h.xL,by rw[a];exact h.xI,by rw[a];exact h.xJ,by rw[a];exact h.xG,by rw[f];exact h.BT⟩
structure Aft(W:WM)(mx:LM)(M:DM)(e:Option Int)(N':NM)(M':DM)(t':Nat):Prop where
 body:∃ F' p',Kp N' M' F' p' t' (e=none)/\(e=none->N'.given<N'.S.Bh->Leas F' p' N'.S.Bh)/\(e=none->({W with writes:=W.writes+1}:WM).due=true->p'=F'.length) /\
  ((Hist (W.st++[mx]) F' p' True/\Zx W.node W.calls W.most F' p')\/(e≠none/\(Hist W.st F' p' True/\Zx W.node W.calls W.most F' p'\/∃ n,Doubt W W.st mx F' p' n/\n<=N'.given)))
 ro:N'.readOnly=e.isSome
 br:W.broken=false
 Af:Ans M M' e
 grow:e=none->M.calls<M'.calls
 full:e=some 10->M.room<M.BU+2000
 room:M'.room=W.As
 cm:Cm W t'
 ww:W.writes+1<=t'
 len:W.st.length+1<=t'+1
 AV:MOk W.node mx t'
 self:W.node=(N'.self:Int)
 nd:N'.self<4
 most:W.most<=N'.given
 given:N'.given<=N'.S.Bh
 every:W.every=(N'.every:Int)
 wr:e=none->N'.every≠0->N'.writes=(W.writes+1)%N'.every
 nw:N'.writes<=t'
 dead:M.dead=false
theorem Aft.Ae{W:WM}{G:LM}{M:DM}{u:NM}{t:DM}{r:Nat}(h:Aft W G M none u t r):∃ s I,NI (W.Ae G) u t s I r:=by
 obtain⟨s,I,J,L,O,N⟩:=h.body;have A:=N.resolve_right (fun x=>x.1 rfl);have p:=J.le;have j:t.dead=false:=by
  rcases h.Af.1 with⟨_,_,_,e⟩|⟨_,⟨e,_⟩|⟨e,_⟩⟩
  .rw[e];exact h.dead
  .cases e
  .cases e
 have E:u.readOnly=false:=h.ro;obtain⟨b,o,hrel,K⟩:=A.1.last p;have B:b=G:=by simp at o;exact o.symm
 subst B;have i:∀ m∈W.st++[b],MOk W.node m r:=fun m d=>by
  rcases Ir.1 d with d|d
  .exact h.cm.AV m d
  .rw[Iv] at d;subst d;exact h.AV
 refine⟨s,I,?_⟩;have a:(W.Ae b).node=W.node:=by unfold WM.Ae;simp only;split <;> rfl
 have c:(W.Ae b).calls=W.calls:=by unfold WM.Ae;simp only;split <;> rfl
 have f:(W.Ae b).most=W.most:=by unfold WM.Ae;simp only;split <;> rfl
 have v:(W.Ae b).broken=W.broken:=by unfold WM.Ae;simp only;split <;> rfl
 have y:(W.Ae b).every=W.every:=by unfold WM.Ae;simp only;split <;> rfl
 have q:(W.Ae b).writes=W.writes+1:=by unfold WM.Ae;simp only;split <;> rfl
 have D:(W.Ae b).As=W.As:=by unfold WM.Ae;simp only;split <;> rfl
 have g:((W.Ae b).st=W.st++[b])\/(({W with writes:=W.writes+1}:WM).due=true/\(W.Ae b).st=[b]):=by
  unfold WM.Ae;simp only;split
  .rename_i k
   refine .inr ⟨k,?_⟩;simp
  .exact .inl rfl
 have l:∀ m∈(W.Ae b).st,MOk W.node m r:=fun m d=>by
  rcases g with e|⟨_,e⟩
  .rw[e] at d;exact i m d
  .rw[e] at d;exact i m (Ff _ d)
 exact {
  kp:=J.mono (fun _=>rfl) (Io _)
  cm:=h.cm.AP a l (by rcases g with e|⟨_,e⟩ <;> rw[e] <;> simp <;> (have:=h.len;omega)) (by rcases g with e|⟨_,e⟩ <;> rw[e] <;> simp) (by rw[q];exact h.ww) c (by unfold WM.Ae;simp only;split <;> rfl) (by unfold WM.Ae;simp only;split <;> rfl) (by unfold WM.Ae;simp only;split <;> rfl) (by unfold WM.Ae;simp only;split <;> rfl)
  room:=by rw[D];exact h.room
  BR:=by
   rcases g with e|⟨k,e⟩
   .rw[e];exact A.1
   .rw[e,O rfl k];exact Hist.one b hrel
  yG:=by rw[a,c,f];exact A.2
  ro:=by rw[v,h.br];exact E
  self:=by rw[a];exact h.self
  nd:=h.nd
  most:=by rw[f];exact h.most
  given:=h.given
  xm:=fun _=>L rfl
  every:=by rw[y];exact h.every
  wr:=fun _ C=>by rw[q];exact h.wr rfl C
  nw:=h.nw
  dead:=j}
theorem OT{self:Nat}{a:ByteArray}{v:Ver}(h:Z8 self a v=0):foreign self v=true:=by
 unfold Z8 at h;split at h
 .cases h
 .split at h
  .cases h
  .split at h
   .cases h
   .rename_i hf
    simpa using hf
def V0(N:NM)(a:ByteArray)(v:Ver):Option Int :=
 if Z8 N.self a v≠0 then some (Z8 N.self a v) else if N.readOnly=true then some 8 else if Zn (zl N.S.keys a) v=0 then some 0 else if Zn (zl N.S.keys a) v=1 then some 6 else none
theorem S3(N:NM)(M:DM)(a:ByteArray)(v:Ver)(f:Nat):N.accept M a v f=match V0 N a v with
 | some c=>(c,N,M)
 | none=>N.asked M (.inr (.inl (a,Zu (zl N.S.keys a) v))) f:=by
 unfold V0 NM.accept Z8 Zn;cases hk:zF a
 .simp
 .by_cases hv:128<v.value.size
  .simp[hv]
  .cases hf:foreign N.self v
   .simp[hv]
   .cases hr:N.readOnly
    .simp only[hv]
     by_cases b:(zl N.S.keys a).any v.BQ=true
     .simp[b]
     .simp only[b]
      by_cases d:v.gone=false/\4<=(zC (zl N.S.keys a) v).length
      .simp[d]
      .simp only[d,Hy]
       by_cases e:v.gone=true/\(zC (zl N.S.keys a) v).length=(zl N.S.keys a).length
       .simp[e]
       .simp[e]
    .simp[hv]
def XS(N:NM)(b:Int)(a:ByteArray):Option Int :=
 if XP N.self b a≠0 then some (XP N.self b a) else if N.readOnly=true then some 8 else if 32<=N.S.hints.length then some 6 else none
theorem Tc(N:NM)(M:DM)(b:Int)(a:ByteArray)(f:Nat):N.hint M b a f=match XS N b a with
 | some c=>(c,N,M)
 | none=>N.asked M (.inr (.inr (.inl (b.toNat,a)))) f:=by
 unfold XS NM.hint XP;by_cases d:(zO b&&decide (b≠N.self))=false
 .simp only[d];simp
 .rw[It d,It d]
  by_cases e:a.size=0\/64<a.size
  .simp only[e];simp
  .rw[It e,It e]
   cases hr:N.readOnly
   .by_cases h3:32<=N.S.hints.length
    .simp[h3]
    .simp[h3]
   .simp
def Vx(N:NM):Option Int:=if N.readOnly=true then some 8 else if N.S.hints.length=0 then some 7 else none
theorem Nz(N:NM)(M:DM)(f:Nat):N.AH M f=match Vx N with
 | some c=>(c,N,M)
 | none=>N.asked M (.inr (.inr (.inr ()))) f:=by
 unfold Vx NM.AH;cases hr:N.readOnly
 .by_cases h3:N.S.hints.length=0
  .simp[h3]
  .simp[h3]
 .simp
theorem NI.now{W:WM}{N:NM}{M:DM}{F:List Fact}{p t:Nat}(h:NI W N M F p t):∃ m,W.st[W.st.length-1]?=some m/\Z9 m N.S/\MOk W.node m t:=by
 obtain⟨m,a,b,_⟩:=h.BR.last h.kp.le;rw[<- h.kp.held] at b;exact⟨m,a,b,h.cm.AV m (GS a)⟩
theorem NI.st{W:WM}{N:NM}{M:DM}{F:List Fact}{p t:Nat}(h:NI W N M F p t):Ws W.node W.calls W.most N.S:=by
 have:=h.yG F.length h.kp.le (Io _)
 rwa [<- h.kp.held] at this
theorem NI.nk{W:WM}{N:NM}{M:DM}{F:List Fact}{p t:Nat}(h:NI W N M F p t):N.S.keys.length<=t:=by
 obtain⟨m,_,b,a⟩:=h.now;rw[<- b.1];exact a.keys
theorem Sx(G:List Fact)(x:Fact):atF (G++[x]) (G++[x]).length=(atF G G.length).enter x:=by
 rw[Il,Ix,Xj]
theorem PE{w k:Nat}(c:k≠0):(w+1)%k=if w%k+1<k then w%k+1 else 0:=by
 have d:=Dk w (Nat.pos_of_ne_zero c);split
 .rename_i hlt
  rw[<- Nat.mod_add_mod,Co hlt]
 .rw[<- Nat.mod_add_mod,show w%k+1=k by omega,Nat.mod_self]
theorem NI.due{W:WM}{N:NM}{M:DM}{F:List Fact}{p t:Nat}(h:NI W N M F p t)(e:N.readOnly=false) :
 (({W with writes:=W.writes+1}:WM).due=true->N.due=true)/\(N.every≠0->(if N.due=true then 0 else N.writes+1)=(W.writes+1)%N.every):=by
 have i:=h.every;have f:=h.wr e;unfold WM.due NM.due;simp only[Hz,IF,DR,Bool.or_eq_false_iff,Gn];rw[i]
 constructor
 .rintro⟨h1,h2⟩
  have d:N.every≠0:=by omega
  have g:(W.writes+1)%N.every=0:=by
   have:=Int.tmod_eq_emod_of_nonneg (a:=((W.writes+1:Nat):Int)) (b:=(N.every:Int)) (by omega);rw[this] at h2
   exact_mod_cast h2
  refine⟨d,fun c=>?_⟩;rw[f d] at c;rw[PE d,IC c] at g;omega
 .intro d
  rw[PE d,f d];by_cases c:W.writes%N.every+1<N.every
  .rw[IC c,It (fun x=>x.2 c)]
  .rw[It c,IC ⟨d,c⟩]
theorem NI.BG{W:WM}{N:NM}{M:DM}{F A:List Fact}{p t:Nat}(h:NI W N M F p t)(e:A=[]\/A=[.inl (N.given+16)]/\¬N.given<N.S.Bh) :
 Hist W.st (F++A) p True/\Zx W.node (W.calls+1) W.most (F++A) p/\(atF (F++A) (F++A).length).keys=N.S.keys/\(atF (F++A) (F++A).length).hints=N.S.hints:=by
 have d:=h.st;have c:Zx W.node (W.calls+1) W.most F p:=fun q a b=>(h.yG q a b).mono (GA _) (Io _) (h.yG q a b).2.1;rcases e with rfl|⟨rfl,f⟩
 .rw[IV,<- h.kp.held]
  exact⟨h.BR,c,rfl,rfl⟩
 .rw[Il,Ix,Xj,<- h.kp.held]
  refine⟨h.BR.quiet h.kp.le _ (fun m g=>g),Zx.snoc (fun _=>c) _ ?_,rfl,rfl⟩;rw[<- h.kp.held];have i:=h.most;have j:=h.given;have k:=d.2.2.1;exact⟨d.1.Bh _,by show W.most<=N.given+16;omega,by show N.given+16<=16*(W.calls+1);omega,d.2.2.2⟩
theorem OU{self c:Int}{S:SM}(h:W8 self c S.keys)(b:ByteArray)(l:List Ver)(f:∀ u∈l,u.node=self->u.seq<=c):W8 self c (S.holds b l).keys:=by
 unfold SM.holds;simp only;split
 .exact fun e a=>h e (WV e a)
 .exact fun e a=>(WU e a).elim (h e) (fun d=>by subst d;exact f)
theorem Ws.holds{node:Int}{a f c:Nat}{S:SM}(h:Ws node a f S)(b:ByteArray)(j:zF b=true)(l:List Ver)(i:Yx l)(k:l.length<=4)(p:∀ u∈l,VOk u)(o:f<=c)(e:c<=S.Bh)(d:∀ u∈l,u.node=node->u.seq<=c):Ws node a c (S.holds b l) :=
 ⟨h.1.holds b j l i k p,by rw[Yn];exact e,by rw[Yn];exact h.2.2.1,OU (h.2.2.2.mono (by omega)) b l d⟩
theorem NI.replace{W:WM}{N:NM}{M:DM}{F:List Fact}{p t:Nat}(h:NI W N M F p t)(ht:t+20<=990000)(D:N.readOnly=false)(a:ByteArray)(j:zF a=true)(vs:NM->Nat->List Ver)(l:List Ver)(f g:Nat)(hf:f∉M.ids)(hg:g∉M.ids)(ha:Apart2 N M f g)
 (b6:∀ N1:NM,N1.S.keys=N.S.keys->N1.self=N.self->vs N1 (N.given+1)=l)(hv:∀ u∈l,VOk u)(a0:∀ u∈l,u.seq=((N.given+1:Nat):Int))(K m0:LM)(c2:MOk W.node K (t+10))(c1:MOk W.node m0 (t+10))(hrel:K.keys=zX N.S.keys a l/\K.hints=N.S.hints)
 (s:(l=[]/\m0=K)\/(∃ v,l=[{v with seq:=((N.given+1:Nat):Int)}]/\v.seq=0/\v.node=W.node/\m0.keys=zX N.S.keys a [v]/\m0.hints=N.S.hints)) :
 ∃ e N' S,N.replace M a vs f g=((if e=none then N.given+1 else 0),ZA e,N',S)/\(∀ k∈S.ids,(k=f\/k=g)\/k∈M.ids)/\(e=none\/e=some 9\/e=some 10) /\
  Aft {W with calls:=W.calls+1,most:=if e=none then N.given+1 else W.most} (if e=none then K else m0) M e N' S (t+10):=by
 have I:=h.st;have a8:N.given<100000000000:=by have:=h.given;have:=I.2.2.1;have:=h.cm.calls;omega
 have G:l.length<=4/\Yx l:=by
  rcases s with⟨e,_⟩|⟨v,e,_⟩
  .rw[e];exact⟨II _,by unfold Yx Asc;simp⟩
  .rw[e];exact⟨by simp,by unfold Yx Asc;simp⟩
 obtain⟨e,J',S',gv,wr,S,A,B,p',er,w,O,hA,hB,J,c3,b7,b8,b9,a7,L⟩:=Re (h.kp.mono (fun _=>D) (Io _)) (by omega) a8 h.given (h.xm D) D a vs l f g hf hg ha b6 (XG j hv (by omega)) (TZ j hv (by omega));obtain⟨a1,T,a3,a4⟩:=h.BG hA;refine⟨e,_,S,er,w.ids,?_,?_⟩
 .rcases w.Af.1 with⟨o,_⟩|⟨_,⟨o,_⟩|⟨o,_⟩⟩
  .exact .inl o
  .exact .inr (.inl o)
  .exact .inr (.inr o)
 have E:=w.kp;have y:S'=atF (F++A++B) (F++A++B).length:=E.held;have hd:=h.due D;have b3:=h.most;exact {
  body:=by
   refine⟨F++A++B,p',E,fun o c0=>?_,fun o a6=>(J o).2 (hd.1 a6),?_⟩
   .rcases hB with⟨_,d⟩|⟨_,_,_,hL⟩
    .exact absurd o d
    .exact hL
   .rcases hB with⟨rfl,d⟩|⟨rfl,X,hn1,hL⟩
    .rw[IV] at E y |-
     refine .inr ⟨d,.inl ⟨a1.mono O id,?_⟩⟩;rw[It d];exact fun q b c=>T q (Im O b) c
    .have hF1:Ws W.node (W.calls+1) W.most (atF (F++A) (F++A).length):=T _ (by have:=h.kp.le;rw[Il];omega) (Io _)
     have Y:=E.le;have a5:(atF (F++A) (F++A).length).Bh=S'.Bh:=by
      rw[y,Sx];show _=(SM.holds _ _ _).Bh;rw[Yn]
     have i:Z9 K (atF (F++A++[.inr (.inl (a,l))]) (F++A++[(.inr (.inl (a,l)):Fact)]).length):=by
      rw[Sx];refine⟨?_,?_⟩
      .rw[hrel.1,<- a3,Y5 a _ hF1.1.Aa]
       rfl
      .show _=(SM.holds _ _ _).hints
       rw[X3,a4];exact hrel.2
     have V:Ws W.node (W.calls+1) (N.given+1) ((atF (F++A) (F++A).length).enter (.inr (.inl (a,l)))):=hF1.holds a j l G.2 G.1 hv (by omega) (by rw[a5];exact hn1) (fun u hu _=>by rw[a0 u hu];exact FH _);have r:Zx W.node (W.calls+1) (N.given+1) (F++A++[.inr (.inl (a,l))]) p':=Zx.snoc (fun _ q b c=>by
      have hq:=T q (Im O b) c;refine hq.mono (Io _) (by omega) ?_;have:=hL q b (by rw[Il];omega);rw[Xr c] at this;omega) _ V
     have C:Hist (W.st++[K]) (F++A++[.inr (.inl (a,l))]) p' True:=Hist.push (by simp) (fun _=>a1.mono O id) Y K i;cases e with
     | none=>exact .inl ⟨C,r⟩
     | some x =>
      simp only[reduceCtorEq,Hy];rcases s with⟨b1,rfl⟩|⟨v,b2,b4,b5,b0,a9⟩
      .refine .inl ⟨C,Zx.snoc (fun _ q b c=>T q (Im O b) c) _ (hF1.holds a j l G.2 G.1 hv (Io _) hF1.2.1 (fun u hu _=>by rw[b1] at hu;cases hu))⟩
      .refine .inr ⟨by simp,.inr ⟨N.given+1,⟨F++A,.inr (.inl (a,l)),rfl,fun _=>a1.mono O id,⟨N.S.keys,a,v,I.1.Aa,I.1.given,I.2.2.2,b4,b5,b0,?_,?_⟩,by show W.most<N.given+1;omega,r,fun q b c=>?_⟩,by show N.given+1<=gv;omega⟩⟩
       .rw[<- i.1,hrel.1,b2]
       .rw[<- i.2,a9,hrel.2]
       .rw[Xr c]
        exact(T q (Im O b) c).2.2.2
  ro:=rfl
  br:=by have:=h.ro;show W.broken=false;rw[<- this,D]
  Af:=w.Af
  grow:=L
  full:=w.full
  room:=by rw[w.room];exact h.room
  cm:=⟨fun m hm=>(h.cm.AV m hm).more (by omega),by have:=h.cm.calls;show W.calls+1<=_;omega,by have:=h.cm.ww;show W.writes<=_;omega,by have:=h.cm.len;show W.st.length<=_;omega,h.cm.ne,by have:=h.cm.next;show W.next<=_;omega,h.cm.base,by have:=h.cm.xF;show W.bk.vs.length<=_;omega,by have:=h.cm.xH;show W.bk.vm.length<=_;omega,by have:=h.cm.xL;show W.bk.ns.length<=_;omega,by have:=h.cm.xI;show W.bk.nm.length<=_;omega,by have:=h.cm.xJ;show W.bk.hs.length<=_;omega,by have:=h.cm.xG;show W.bk.hm.length<=_;omega,h.cm.BT⟩
  ww:=by have:=h.cm.ww;show W.writes+1<=_;omega
  len:=by have:=h.cm.len;show W.st.length+1<=_;omega
  AV:=by split <;> assumption
  self:=h.self
  nd:=h.nd
  most:=by
   show(if e=none then N.given+1 else W.most)<=gv;split
   .rename_i o
    rcases hB with⟨_,d⟩|⟨_,X,_⟩
    .exact absurd o d
    .omega
   .omega
  given:=a7
  every:=h.every
  wr:=fun o d=>by
   show wr=_;rw[(J o).1];exact hd.2 d
  nw:=by have:=h.nw;show wr<=_;omega
  dead:=h.dead}
theorem NI.asked{W:WM}{N:NM}{M:DM}{F:List Fact}{p t:Nat}(h:NI W N M F p t)(ht:t+20<=990000)(g:N.readOnly=false)(x:Fact)(Y:ZW x)(K:(zj x).size<=2000)(v:(N.S.enter x).hints.length<=32)(f:Nat)(V:f∉M.ids)(y:LM)(I:MOk W.node y (t+10))(hrel:Z9 y (N.S.enter x))(J:Ws W.node W.calls W.most (N.S.enter x))(r:(N.S.enter x).Bh=N.S.Bh) :
 ∃ e L l,N.asked M x f=(ZA e,L,l)/\(∀ k∈l.ids,k=f\/k∈M.ids)/\(e=none\/e=some 9\/e=some 10)/\Aft W y M e L l (t+10):=by
 obtain⟨e,J',A,wr,l,B,p',T,w,s,C,i,X,j⟩:=JC (h.kp.mono (fun _=>g) (Io _)) (by omega) g x Y K v f V;refine⟨e,_,l,T,w.ids,?_,?_⟩
 .rcases w.Af.1 with⟨c,_⟩|⟨_,⟨c,_⟩|⟨c,_⟩⟩
  .exact .inl c
  .exact .inr (.inl c)
  .exact .inr (.inr c)
 have o:=w.kp.mono id (show t+5<=t+10 by omega);have O:=h.due g;have D:A.Bh=N.S.Bh:=by
  rcases C with⟨_,_,e⟩|⟨_,e⟩
  .rw[e]
  .rw[e,r]
 exact {
  body:=by
   refine⟨F++B,p',o,fun c G=>?_,fun c E=>(i c).2 (O.1 E),?_⟩
   .have hL:=h.xm g (by rw[<- D];exact G)
    rcases C with⟨_,d,_⟩|⟨rfl,_⟩
    .exact absurd c d
    .intro q a b
     rw[Il,Ix] at b;show A.Bh<=_;rw[D];by_cases v:q<=F.length
     .rw[Xr v]
      exact hL q (Im s a) v
     .have e1:q=F.length+1:=by omega
      rw[e1,Xj,<- h.kp.held,r];exact Io _
   .rcases C with⟨rfl,d,_⟩|⟨rfl,_⟩
    .rw[IV]
     exact .inr ⟨d,.inl ⟨h.BR.mono s id,fun q a b=>h.yG q (Im s a) b⟩⟩
    .refine .inl ⟨Hist.push (by simp) (fun _=>h.BR.mono s id) o.le y ?_,Zx.snoc (fun _ q a b=>h.yG q (Im s a) b) _ ?_⟩
     .rw[Sx,<- h.kp.held]
      exact hrel
     .rw[<- h.kp.held]
      exact J
  ro:=rfl
  br:=by have:=h.ro;rw[<- this,g]
  Af:=w.Af
  grow:=j
  full:=w.full
  room:=by rw[w.room];exact h.room
  cm:=h.cm.more (by omega)
  ww:=by have:=h.cm.ww;omega
  len:=by have:=h.cm.len;omega
  AV:=I
  self:=h.self
  nd:=h.nd
  most:=h.most
  given:=by show N.given<=A.Bh;rw[D];exact h.given
  every:=h.every
  wr:=fun c d=>by
   show wr=_;rw[(i c).1];exact O.2 d
  nw:=by have:=h.nw;show wr<=_;omega
  dead:=h.dead}
theorem MOk.with{node:Int}{m:LM}{t:Nat}(h:MOk node m t)(key:ByteArray)(l:List Ver)(r:l.length<=5)(y:∀ u∈l,u.seq=0->u.node=node):MOk node {m with keys:=zX m.keys key l} (t+10):=by
 have q:zX m.keys key l=if l=[] then YL m.keys key else ZU m.keys key l:=Y5 key l h.Aa
 have o:∀ e∈zX m.keys key l,e∈m.keys\/e=(key,l):=fun e c=>by
  rw[q] at c;split at c
  .exact .inl (WV e c)
  .exact WU e c
 refine⟨?_,?_,fun e c=>?_,h.hints,fun e c=>?_,h.node⟩
 .show YH (zX m.keys key l)
  rw[q];split
  .exact Pc key h.Aa
  .exact Pb key l h.Aa
 .show(zX m.keys key l).length<=_
  have:=h.keys;rw[q];split
  .have:=Pe m.keys key;omega
  .have:=Pd m.keys key l;omega
 .rcases o e c with x|x
  .exact h.lens e x
  .rw[x];exact r
 .rcases o e c with x|x
  .exact h.zero e x
  .rw[x];exact y
theorem NI.yI{W:WM}{N:NM}{M:DM}{F:List Fact}{p t:Nat}(h:NI W N M F p t){m:LM}(c:Z9 m N.S)(b:ByteArray):ZH m.keys b=zl N.S.keys b:=by
 rw[c.1];exact WO b h.st.1.Aa
theorem NI.wz{W:WM}{N:NM}{M:DM}{F:List Fact}{p t:Nat}(h:NI W N M F p t)(y:t+20<=990000){m:LM}(q:Z9 m N.S)(l:MOk W.node m t)(b a:ByteArray)(r:a.size<=128) :
 (∀ c:NM,c.S.keys=N.S.keys->c.self=N.self->putV b a c (N.given+1)=[m.putV b a ((N.given+1:Nat):Int)])/\VOk (m.putV b a ((N.given+1:Nat):Int)):=by
 have e:m.putV b a ((N.given+1:Nat):Int)=⟨N.self,((N.given+1:Nat):Int),grV (zl N.S.keys b) 0,grV (zl N.S.keys b) 1,grV (zl N.S.keys b) 2,grV (zl N.S.keys b) 3,a,false⟩:=by
  unfold LM.putV;rw[h.yI q,l.node,h.self]
 have d:∀ u∈zl N.S.keys b,u.Nat:=fun u s=>((h.st.1.get b).2.2 u s).nat;have o:=h.nd;have k:N.given<100000000000:=by have:=h.given;have:=h.st.2.2.1;have:=h.cm.calls;omega
 refine⟨fun c i j=>?_,?_⟩
 .rw[e]
  unfold putV;rw[i,j]
 .rw[e]
  have f:(0:Int)<=((N.self:Nat):Int):=by omega
  have g:((N.self:Nat):Int)<4:=by omega
  have v:(0:Int)<=((N.given+1:Nat):Int):=by omega
  have x:((N.given+1:Nat):Int)<9223372036854775808:=by omega
  exact⟨⟨f,g⟩,⟨⟨f,Int.lt_trans g (by decide)⟩,⟨v,x⟩,Xs _ _ d,Xs _ _ d,Xs _ _ d,Xs _ _ d,by show a.size<_;omega⟩,r,by show(1:Int)<=((N.given+1:Nat):Int);omega,rfl⟩
theorem NI.put{W:WM}{N:NM}{M:DM}{F:List Fact}{p t H0:Nat}(h:NI W N M F p t)(D:t+20<=990000)(j:N.readOnly=false){m:LM}(x:Z9 m N.S)(r:MOk W.node m t)(d:∀ g∈M.ids,g<H0)(a b:ByteArray)(c:zF a=true)(L:b.size<=128) :
 (∀ H,H0<=H->VE N M H a (putV a b))/\W.most<N.given+1/\N.given+1<=16*(W.calls+1)/\∀ f g,H0<=f->H0<=g->Apart2 N M f g->∃ e B A,N.put M a b f g=((if e=none then N.given+1 else 0),ZA e,B,A)/\(e=none\/e=some 9\/e=some 10) /\
   Aft {W with calls:=W.calls+1,most:=if e=none then N.given+1 else W.most} (m.put a b (((if e=none then N.given+1 else 0:Nat)):Int)) M e B A (t+10):=by
 obtain⟨y,O⟩:=h.wz D x r a b L;have q:∀ u∈[m.putV a b ((N.given+1:Nat):Int)],VOk u:=by intro u i;rw[Iv] at i;subst i;exact O
 have Q:=h.st.2.2.1;have R:=h.most;have T:=h.given;have V:=h.cm.calls;have X:=h.nk;have Y:=h.nw;refine⟨fun H I=>PD (h.kp.mono (fun _=>j) (Io _)) (by omega) (by omega) h.given (h.xm j) H (fun g C=>Hu (d g C) I) a _ _ y (Wi c q (by simp)) (YP c q (by simp)) (by omega) (by omega),by omega,by omega,fun f g hf C J=>?_⟩;obtain⟨e,B,A,E,_,K,s⟩:=h.replace D j a c (putV a b) [m.putV a b ((N.given+1:Nat):Int)] f g (fun o=>by have:=d f o;omega) (fun o=>by have:=d g o;omega) J y q (fun u i=>by rw[Iv] at i;subst i;rfl)
  (m.put a b ((N.given+1:Nat):Int)) (m.put a b 0) (r.with a _ (by simp) (fun u i G=>by rw[Iv] at i;subst i;exact r.node)) (r.with a _ (by simp) (fun u i G=>by rw[Iv] at i;subst i;exact r.node)) ⟨by show zX m.keys a _=_;rw[x.1],x.2⟩
  (.inr ⟨m.putV a b 0,rfl,rfl,r.node,by show zX m.keys a _=_;rw[x.1],x.2⟩)
 refine⟨e,B,A,?_,K,?_⟩
 .unfold NM.put
  rw[It (by rw[c];decide),It (by omega),It (by rw[j];decide)];exact E
 .cases e <;> exact s
theorem NI.delete{W:WM}{N:NM}{M:DM}{F:List Fact}{p t H0:Nat}(h:NI W N M F p t)(D:t+20<=990000)(d:N.readOnly=false){m:LM}(v:Z9 m N.S)(C:MOk W.node m t)(c:∀ g∈M.ids,g<H0)(a:ByteArray)(b:zF a=true) :
 (∀ H,H0<=H->VE N M H a (fun _ _=>[]))/\W.most<N.given+1/\N.given+1<=16*(W.calls+1)/\∀ f g,H0<=f->H0<=g->Apart2 N M f g->∃ e r q,N.delete M a f g=((if e=none then N.given+1 else 0),ZA e,r,q)/\(e=none\/e=some 9\/e=some 10) /\
   Aft {W with calls:=W.calls+1,most:=if e=none then N.given+1 else W.most} (m.delete a) M e r q (t+10):=by
 have j:∀ u∈([]:List Ver),VOk u:=by intro u o;cases o
 have E:=h.st.2.2.1;have G:=h.most;have I:=h.given;have J:=h.cm.calls;have K:=h.nk;have L:=h.nw;have l:MOk W.node (m.delete a) (t+10):=C.with a [] (by simp) (fun u o=>by cases o);refine⟨fun H y=>PD (h.kp.mono (fun _=>d) (Io _)) (by omega) (by omega) h.given (h.xm d) H (fun g s=>Hu (c g s) y) a _ [] (fun _ _ _=>rfl) (Wi b j (by simp)) (YP b j (by simp)) (by omega) (by omega),by omega,by omega,fun f g O s A=>?_⟩;obtain⟨e,r,q,x,_,B,k⟩:=h.replace D d a b (fun _ _=>[]) [] f g (fun i=>by have:=c f i;omega) (fun i=>by have:=c g i;omega) A (fun _ _ _=>rfl) j (fun u o=>by cases o)
  (m.delete a) (m.delete a) l l ⟨by show zX m.keys a _=_;rw[v.1],v.2⟩ (.inl ⟨rfl,rfl⟩)
 refine⟨e,r,q,?_,B,?_⟩
 .unfold NM.delete
  rw[It (by rw[b];decide),It (by rw[d];decide)];exact x
 .cases e <;> exact k
theorem NI.accept{W:WM}{N:NM}{M:DM}{F:List Fact}{p t H0:Nat}(h:NI W N M F p t)(ht:t+20<=990000){m:LM}(X:Z9 m N.S)(hm:MOk W.node m t)(r:∀ g∈M.ids,g<H0)(a:ByteArray)(v:Ver) :
 (∀ H,H0<=H->zF a=true->v.value.size<=128->foreign N.self v=true->N.readOnly=false->(v.gone=false->(zC (zl N.S.keys a) v).length<4)->Fit N M H (.inr (.inl (a,Zu (zl N.S.keys a) v)))) /\
   (V0 N a v=none->∀ f,H0<=f->∃ e O L,N.accept M a v f=(ZA e,O,L)/\(e=none\/e=some 9\/e=some 10)/\Aft W (m.accept a v) M e O L (t+10)):=by
 have i:=h.st;have l:=i.1.get a;have h5:=h.nk;have h6:=h.nw;refine⟨fun H hH D hs Y k d=>?_,fun j f Y=>?_⟩
 .have c:=TX l.2.1 l.2.2 (fun h=>TY Y hs h) d
  exact UA (h.kp.mono (fun _=>k) (Io _)) (by omega) H (fun g l=>Hu (r g l) hH) _ (Wi D c.2 (by omega)) (YP D c.2 (by omega)) (by omega) (by omega)
 .have hout:=S3 N M a v f
  rw[j] at hout;unfold V0 at j;by_cases q:Z8 N.self a v=0
  .rw[It (by simp[q])] at j
   cases k:N.readOnly with
   | true=>rw[IC k] at j;cases j
   | false =>
    rw[It (by rw[k];decide)] at j;by_cases C:Zn (zl N.S.keys a) v=0
    .rw[IC C] at j;cases j
    .by_cases hw1:Zn (zl N.S.keys a) v=1
     .rw[It C,IC hw1] at j;cases j
     .have hfo:=OT q
      have o:zF a=true/\v.value.size<=128:=by
       unfold Z8 at q;split at q
       .cases q
       .rename_i D
        split at q
        .cases q
        .exact⟨by simpa using D,by omega⟩
      have y:(zl N.S.keys a).any v.BQ=false:=by
       cases D:(zl N.S.keys a).any v.BQ with
       | false=>rfl
       | true=>exact absurd (by unfold Zn;rw[IC D]) C
      have d:v.gone=false->(zC (zl N.S.keys a) v).length<4:=fun l=>by
       refine Dp fun Q=>hw1 ?_;unfold Zn;rw[It (by rw[y];decide),IC ⟨l,Q⟩]
      have c:=TX l.2.1 l.2.2 (fun h=>TY hfo o.2 h) d;have G:=J5 l.1 y;have B:v.node≠W.node:=by
       rw[h.self];unfold foreign at hfo;simp only[Hz,IF] at hfo;intro e;have:=hfo.2.2.1;exact this.2 e
      have J:∀ u∈Zu (zl N.S.keys a) v,u∈zl N.S.keys a\/u=v:=fun u b=>by
       unfold Zu at b;split at b
       .exact .inl (FJ.1 b).1
       .unfold withV at b
        simp only[Ir,Iv] at b;rcases b with(b|b)|b
        .exact .inl (FJ.1 (He b)).1
        .exact .inr b
        .exact .inl (FJ.1 (IK b)).1
      have A:∀ u∈zl N.S.keys a,∃ e∈N.S.keys,u∈e.2:=fun u b=>by
       rcases Pa N.S.keys a with e|⟨e,I,_,h2⟩
       .rw[e] at b;cases b
       .exact⟨e,I,by rw[h2];exact b⟩
      have K:∀ u∈Zu (zl N.S.keys a) v,u.node=W.node->u.seq<=(W.most:Int):=fun u b V=>by
       rcases J u b with x|x
       .obtain⟨e,I,hx⟩:=A u x
        exact i.2.2.2 e I u hx V
       .rw[x] at V;exact absurd V B
      have s:Sl (ZH m.keys a) v=Zu (zl N.S.keys a) v:=by
       rw[h.yI X];exact Nh v l.1 (Uu y)
      have T:MOk W.node (m.accept a v) (t+10):=by
       unfold LM.accept;rw[s];exact hm.with a _ (by omega) (fun u b h0=>by have:=(c.2 u b).one;omega)
      obtain⟨e,O,L,er,_,I,E⟩:=h.asked ht k (.inr (.inl (a,Zu (zl N.S.keys a) v))) (XG o.1 c.2 (by omega)) (YP o.1 c.2 (by omega)) (by show(SM.holds _ _ _).hints.length<=32;rw[X3];exact i.1.hlen) f (fun R=>by have:=r f R;omega) (m.accept a v) T
       ⟨by show zX m.keys a (Sl (ZH m.keys a) v)=_;rw[s,X.1,Y5 a _ i.1.Aa];rfl,by show m.hints=(SM.holds _ _ _).hints;rw[X3];exact X.2⟩ (i.holds a o.1 _ G c.1 c.2 (Io _) i.2.1 K) (Yn _ _ _)
      exact⟨e,O,L,by rw[hout];exact er,I,E⟩
  .rw[IC q] at j;cases j
theorem NI.hint{W:WM}{N:NM}{M:DM}{F:List Fact}{p t H0:Nat}(h:NI W N M F p t)(J:t+20<=990000){m:LM}(B:Z9 m N.S)(q:MOk W.node m t)(j:∀ g∈M.ids,g<H0)(b:Int)(a:ByteArray) :
 (∀ H,H0<=H->a.size<=64->zO b=true->N.readOnly=false->Fit N M H (.inr (.inr (.inl (b.toNat,a))))) /\
   (XS N b a=none->∀ f,H0<=f->∃ e u s,N.hint M b a f=(ZA e,u,s)/\(e=none\/e=some 9\/e=some 10)/\Aft W (m.hint b.toNat a) M e u s (t+10)):=by
 have c:=h.st;have L:=h.nk;have O:=h.nw;refine⟨fun H D I l d=>?_,fun i f Q=>?_⟩
 .unfold zO at l
  simp only[IF] at l;exact UA (h.kp.mono (fun _=>d) (Io _)) (by omega) H (fun g G=>Hu (j g G) D) _ ⟨by show b.toNat<_;omega,by show a.size<_;omega⟩ (XF (by omega) I) (by omega) (by omega)
 .have hout:=Tc N M b a f
  rw[i] at hout;unfold XS at i;by_cases k:XP N.self b a=0
  .rw[It (by simp[k])] at i
   cases d:N.readOnly with
   | true=>rw[IC d] at i;cases i
   | false =>
    rw[It (by rw[d];decide)] at i;by_cases y:32<=N.S.hints.length
    .rw[IC y] at i;cases i
    .have l:zO b=true/\a.size<=64:=by
      unfold XP at k;split at k
      .cases k
      .rename_i h1
       split at k
       .cases k
       .simp only[Bool.not_eq_false,Hz] at h1
        exact⟨h1.1,by omega⟩
     have r:=l.1;unfold zO at r;simp only[IF] at r;obtain⟨e,u,s,C,_,E,o⟩:=h.asked J d (.inr (.inr (.inl (b.toNat,a)))) (VY (by omega) l.2) (XF (by omega) l.2) (by show(N.S.hints++[_]).length<=32;rw[Il,Ix];omega) f (fun A=>by have:=j f A;omega) (m.hint b.toNat a)
      ⟨q.Aa,by have:=q.keys;show m.keys.length<=_;omega,q.lens,by show(m.hints++[_]).length<=33;rw[Il,Ix,B.2];omega,q.zero,q.node⟩
      ⟨B.1,by show m.hints++[_]=N.S.hints++[_];rw[B.2]⟩ ⟨⟨c.1.Aa,c.1.key,by show(N.S.hints++[_]).length<=32;rw[Il,Ix];omega,c.1.names,c.1.some,fun x K=>(Ir.1 K).elim (c.1.text x) (fun e=>by rw[Iv] at e;subst e;exact⟨by show b.toNat<4;omega,l.2⟩)⟩,c.2.1,c.2.2.1,c.2.2.2⟩ rfl
     exact⟨e,u,s,by rw[hout];exact C,E,o⟩
  .rw[IC k] at i;cases i
theorem NI.AH{W:WM}{N:NM}{M:DM}{F:List Fact}{p t H0:Nat}(h:NI W N M F p t)(C:t+20<=990000){m:LM}(r:Z9 m N.S)(i:MOk W.node m t)(c:∀ g∈M.ids,g<H0) :
 (∀ H,H0<=H->N.readOnly=false->Fit N M H (.inr (.inr (.inr ())))) /\
   (Vx N=none->∀ f,H0<=f->∃ e l k,N.AH M f=(ZA e,l,k)/\(e=none\/e=some 9\/e=some 10)/\Aft W m.AH M e l k (t+10)):=by
 have a:=h.st;have E:=h.nk;have G:=h.nw;refine⟨fun H u b=>UA (h.kp.mono (fun _=>b) (Io _)) (by omega) H (fun g y=>Hu (c g y) u) _ trivial R3 (by omega) (by omega),fun o f I=>?_⟩;have d:=Nz N M f;rw[o] at d;unfold Vx at o;cases b:N.readOnly with
 | true=>rw[IC b] at o;cases o
 | false =>
  have A:=a.1.hlen;have B:=i.hints;obtain⟨e,l,k,s,_,v,j⟩:=h.asked C b (.inr (.inr (.inr ()))) Ph R3 (by show(N.S.hints.drop 1).length<=32;rw[Iw];omega) f (fun q=>by have:=c f q;omega) m.AH
   ⟨i.Aa,by have:=i.keys;show m.keys.length<=_;omega,i.lens,by show(m.hints.drop 1).length<=33;rw[Iw];omega,i.zero,i.node⟩
   ⟨r.1,by show m.hints.drop 1=N.S.hints.drop 1;rw[r.2]⟩ ⟨⟨a.1.Aa,a.1.key,by show(N.S.hints.drop 1).length<=32;rw[Iw];omega,a.1.names,a.1.some,fun x D=>a.1.text x (IK D)⟩,a.2.1,a.2.2.1,a.2.2.2⟩ rfl
  exact⟨e,l,k,by rw[d];exact s,v,j⟩
def Xt:ByteArray:={data:=#[97,32,116,114,105,97,108]}
structure Sane(S:SM)(t:Nat):Prop where
 held:zK S
 Bh:S.Bh<=16*t
 keys:S.keys.length<=t
theorem Sane.more{S:SM}{t u:Nat}(h:Sane S t)(a:t<=u):Sane S u:=⟨h.held,by have:=h.Bh;omega,by have:=h.keys;omega⟩
theorem Sh.wk{W:WM}{M:DM}{F:List Fact}{p t:Nat}(h:Sh W M F p t):p<=F.length/\Sane (atF F F.length) t:=by
 obtain⟨y,q,k⟩:=h.lg;have c:p<=F.length:=by rw[<- k];exact q.yc
 have G:=h.cm.calls;refine⟨c,?_⟩;have a:∀ T,Hist W.st F p T->(atF F F.length).keys.length<=t:=fun T l=>by
  obtain⟨j,_,d,_⟩:=l;obtain⟨m,s,u⟩:=d F.length c (Io _);rw[<- u.1];exact(h.cm.AV m (GS s)).keys
 rcases h.all with⟨g,d⟩|⟨_,st,m,n,e,D,x,E,o,A,r,i,_⟩
 .have:=g F.length c (Io _)
  exact⟨this.1,by have:=this.2.2.1;omega,d.elim (a _) (fun x=>a _ x.2)⟩
 .have:=i F.length c (Io _)
  refine⟨this.1,by have:=this.2.2.1;omega,?_⟩;obtain⟨K,a,v,f,I,J,L,N,B,C,O⟩:=A;have b:(atF F F.length).keys.length=m.keys.length:=by
   rw[B,C,Y5 a _ f,Y5 a _ f];simp only[Du,Hy,ZU,Il,Ix]
  rw[b];exact(h.cm.AV m (by rw[e];simp)).keys
theorem JH{N:NM}(j:zK N.S)(l:N.self<4)(k:N.given<100000000000)(b a:ByteArray)(m:a.size<=128) :
 (∀ d:NM,d.S.keys=N.S.keys->d.self=N.self->putV b a d (N.given+1)=putV b a N (N.given+1))/\(∀ u∈putV b a N (N.given+1),VOk u)/\(putV b a N (N.given+1)).length<=4:=by
 have e:∀ u∈zl N.S.keys b,u.Nat:=fun u c=>((j.get b).2.2 u c).nat;refine⟨fun d h i=>?_,fun u c=>?_,by unfold putV;simp⟩
 .unfold putV
  rw[h,i]
 .unfold putV at c
  rw[Iv] at c;subst c;have f:(0:Int)<=((N.self:Nat):Int):=by omega
  have g:((N.self:Nat):Int)<4:=by omega
  have o:(0:Int)<=((N.given+1:Nat):Int):=by omega
  have p:((N.given+1:Nat):Int)<9223372036854775808:=by omega
  exact⟨⟨f,g⟩,⟨⟨f,Int.lt_trans g (by decide)⟩,⟨o,p⟩,Xs _ _ e,Xs _ _ e,Xs _ _ e,Xs _ _ e,by show a.size<_;omega⟩,m,by show(1:Int)<=((N.given+1:Nat):Int);omega,rfl⟩
theorem J6(F G:List Fact):(atF (F++G) (F++G).length).keys.length<=(atF F F.length).keys.length+G.length:=by
 unfold atF;rw[ID,ID,Hm];exact XZ G _
theorem MJ{M:DM}{y:Lay}{p t H0:Nat}(hl:Lg M y p t)(O:y.new=none)(R:Sane y.held t)(ht:t<=950000)(n:Nat)(hn:n<4)(a b:Nat)(i:∀ g∈M.ids,g<H0)(d c:ByteArray)(u:zF d=true)(hv:c.size<=128) :
 (∀ H,H0<=H->VE (NM.opened n a b y) M H d (putV d c))/\∀ f g,H0<=f->H0<=g->Apart2 (NM.opened n a b y) M f g->∀ (j:Int)(J:ByteArray)(G:Nat),(∀ g'∈((NM.opened n a b y).put M d c f g).2.2.2.ids,g'<G)->J.size<=64->zO j=true->((NM.opened n a b y).put M d c f g).2.2.1.readOnly=false->Fit ((NM.opened n a b y).put M d c f g).2.2.1 ((NM.opened n a b y).put M d c f g).2.2.2 G (.inr (.inr (.inl (j.toNat,J)))):=by
 have C:=R.Bh;have L:=R.keys;have l:(NM.opened n a b y).given<100000000000:=by show y.held.Bh<_;omega
 obtain⟨T,I,h3⟩:=JH (N:=NM.opened n a b y) R.held hn l d c hv;have o:Kp (NM.opened n a b y) M y.F p t True:=hl.opened O n a b True;have s:(NM.opened n a b y).given<(NM.opened n a b y).S.Bh->Leas y.F p (NM.opened n a b y).S.Bh:=fun h=>absurd h (CW _);refine⟨fun H hH=>PD o (by omega) l (Io _) s H (fun g X=>Hu (i g X) hH) d _ _ T (Wi u I (by omega)) (YP u I (by omega)) (by show y.held.keys.length<=_;omega) (II _),?_⟩;intro f g hf X ha j J G;rcases hput:(NM.opened n a b y).put M d c f g with⟨r,e,N',M'⟩;intro q S E D;simp only at q D |-;obtain⟨K,J',S',gv,wr,M2,A,B,p',er,w,hp,hA,hB,V,a3,_,_,_,_⟩:=Re o (by omega) l (Io _) s rfl d (putV d c) _ f g (fun h=>by have:=i f h;omega) (fun h=>by have:=i g h;omega) ha T (XG u I (by omega)) (TZ u I (by omega));have Q:(NM.opened n a b y).put M d c f g=(NM.opened n a b y).replace M d (putV d c) f g:=by
  unfold NM.put;rw[It (by rw[u];decide),It (by omega),It (by show ¬false=true;decide)]
 rw[Q,er] at hput;obtain⟨rfl,rfl⟩:{NM.opened n a b y with J:=J',S:=S',given:=gv,writes:=wr,readOnly:=K.isSome}=N'/\M2=M':=by
  simp only[Gq] at hput;exact⟨hput.2.2.1,hput.2.2.2⟩
 have he:K=none:=by
  cases K with
  | none=>rfl
  | some x=>cases D
 have k:=w.kp;have m:S'=atF (y.F++A++B) (y.F++A++B).length:=k.held;have h0:y.held=atF y.F y.F.length:=o.held;have a2:S'.keys.length<=t+2:=by
  have:=J6 y.F (A++B);rw[<- IA,<- m,<- h0] at this;rw[Il] at this;have a0:A.length<=1:=by rcases hA with e|⟨e,_⟩ <;> rw[e] <;> simp
  have a1:B.length<=1:=by rcases hB with⟨e,_⟩|⟨e,_⟩ <;> rw[e] <;> simp
  omega
 unfold zO at E;simp only[IF] at E;have Y:(NM.opened n a b y).writes=0:=rfl;exact UA (k.mono (fun _=>he) (Io _)) (by omega) G q _ ⟨by show j.toNat<_;omega,by show J.size<_;omega⟩ (XF (by omega) S) (by show S'.keys.length<=_;omega) (by show wr<=_;omega)
def Zh(c:Int)(n:Nat):Nat:=(if c<0 then -(c+1) else c).toNat%n
theorem VP(c:Int){n:Nat}(a:0<n):Zh c n<n:=Dk _ a
theorem Wa(c:Int)(n:Nat)(w:World)(l:-9223372036854775808<=c)(o:c<=9223372036854775807)(k:0<n)(q:n<=140737488355328) :
 Calls Tryz.prog 21 #[.int .i64 c,.int .i64 n] w fun e j=>e=.returned (.int .i64 (Zh c n))/\j=w:=by
 by_cases d:c<0
 .obtain⟨m,hm⟩:=Ht (a:=-(c+1)) (by omega)
  have b:Hid (Zh c n=m%n):=by simp[Hid,Zh,d,hm]
  have h:(m:Int).tmod (n:Int)=((m%n:Nat):Int):=Db ..;have i:((n:Int)==0)=false:=by rw[Gj];omega
  have f:(m:Int)<=9223372036854775807:=by omega
  have g:((m%n:Nat):Int)<=9223372036854775807:=by have:=Nat.mod_le m n;omega
  obtain rfl:c=-(m:Int)-1:=by omega
  clear hm;go_enter Tryz.func21,Tryz.ntmps21
  go_wp2
  go_ret;rw[b.out];exact⟨rfl,rfl⟩
 .obtain⟨m,rfl⟩:=Ht (a:=c) (by omega)
  have b:Hid (Zh m n=m%n):=by simp only[Hid,Zh];rw[It d];rfl
  have h:(m:Int).tmod (n:Int)=((m%n:Nat):Int):=Db ..;have i:((n:Int)==0)=false:=by rw[Gj];omega
  go_enter Tryz.func21,Tryz.ntmps21
  go_wp2
  go_ret;rw[b.out];exact⟨rfl,rfl⟩
theorem VZ(n s y:Int)(w:World)(i:-9223372036854775808<=n/\n<=9223372036854775807)(k:-9223372036854775808<=s/\s<=9223372036854775807)(l:-9223372036854775808<=y/\y<=9223372036854775807) :
 Calls Tryz.prog 127 #[.int .i64 n,.int .i64 s,.int .i64 y] w fun e g=>e=.returned (.agg #[.int .i64 (Zh n 4),.int .i64 (1000+Zh s 2000:Nat),.int .i64 (Zh y 5)])/\Fr Nil w g:=by
 have m:Hid (∀ d,Calls Tryz.prog 21 #[.int .i64 n,.int .i64 4] d fun e g=>e=.returned (.int .i64 (Zh n 4))/\g=d):=fun d=>Wa n 4 d i.1 i.2 (by decide) (by decide);have o:Hid (∀ d,Calls Tryz.prog 21 #[.int .i64 s,.int .i64 2000] d fun e g=>e=.returned (.int .i64 (Zh s 2000))/\g=d):=fun d=>Wa s 2000 d k.1 k.2 (by decide) (by decide);have q:Hid (∀ d,Calls Tryz.prog 21 #[.int .i64 y,.int .i64 5] d fun e g=>e=.returned (.int .i64 (Zh y 5))/\g=d):=fun d=>Wa y 5 d l.1 l.2 (by decide) (by decide);have x:=VP s (n:=2000) (by decide);clear i k l;generalize Zh n 4=a at m |-;generalize Zh s 2000=b at o x |-;generalize Zh y 5=c at q |-;go_enter Tryz.func127,Tryz.ntmps127;have f:=Blk.new w [.int .i64 0,.int .i64 0,.int .i64 0] 102;have r:Fr Nil w (w.alloc (.cells #[.int .i64 0,.int .i64 0,.int .i64 0] 102)):=(U _ _).alloc _;have A:=f.cell;have B:=f.frozen;have t:=Z f;have u:=Z r;clear f r;go_wp2_with fail;refine(m.out _).mono ?_;rintro e d ⟨rfl,h⟩;subst d;go_wp2_with fail;refine(o.out _).mono ?_;rintro e d ⟨rfl,h⟩;subst d;have C:IntKind.i64.wrap (1000+(b:Int))=((1000+b:Nat):Int):=by rw[Hg];push_cast;omega
 go_wp2_with fail;refine(q.out _).mono ?_;rintro e d ⟨rfl,h⟩;subst d;go_wp2_with fail;have j:=Blk.new w [.int .i64 (a:Nat),.int .i64 (1000+(b:Int)),.int .i64 (c:Nat)] 102;refine EK (results_cell_row rfl _ _ w.heap.size _ _ _ _ rfl j Tryz.underlying102 rfl (by kernel_rfl)) rfl ⟨by push_cast;rfl,(U _ _).alloc _⟩
end Go.Proofs.YtkhnggkkiefcdaaGreatDoor
