/- larder: joined texts -/
import Derived.Test.YtkhnggkkiefcdaaGreatDoorKRAH
import Derived.Test.YtkhnggkkiefcdaaGreatDoorKRAK
import Derived.Test.YtkhnggkkiefcdaaGreatDoorKRAM
import Derived.Test.YtkhnggkkiefcdaaGreatDoorKRAO
import Derived.Test.YtkhnggkkiefcdaaGreatDoorKRAT
namespace Go.Proofs.YtkhnggkkiefcdaaGreatDoor
open Go.RowKit
set_option maxRecDepth 100000
def ZM(W:WM)(N:NM)(m:LM):Nat × Option LM :=
 if N.readOnly=W.broken/\N.S.keys.length=m.keys.length/\N.S.hints=m.hints then
  ((Z9 (16*W.calls) W.most N.S.keys m.keys).2.1.toNat,if (Z9 (16*W.calls) W.most N.S.keys m.keys).2.2=true then some {m with keys:=(Z9 (16*W.calls) W.most N.S.keys m.keys).1} else none)
 else(W.most,none)
theorem TJ(c:Int):∀ (d:Int)(S M:Keys),d<=(Z9 c d S M).2.1
 | _,[],[]=>Ef _
 | d,(a,l)::S,(b,u)::M=>by
  unfold Z9;split
  .split
   .exact Ef _
   .rename_i n hn
    split
    .rcases U2 hn with e|⟨h,_⟩
     .omega
     .have:=TJ c n S M
      simp only;omega
    .exact TJ c d S M
  .exact Ef _
 | _,[],_::_=>Ef _
 | _,_::_,[]=>Ef _
theorem Ji{b c n:Int}{a:ByteArray}{l u:List Ver}{S M:Keys}(h:Y0 c b l u 0=some n)(d:0<n):Z9 b c ((a,l)::S) ((a,u)::M)=((a,u.map (TI n))::(Z9 b n S M).1,(Z9 b n S M).2):=by
 conv=>lhs;unfold Z9
 rw[GA rfl,h];simp only;rw[GA d]
theorem TK{top mo n:Int}{a:ByteArray}{l u:List Ver}{S M:Keys}(h:Y0 mo top l u 0=some n)(b:¬0<n):Z9 top mo ((a,l)::S) ((a,u)::M)=((a,u)::(Z9 top mo S M).1,(Z9 top mo S M).2):=by
 conv=>lhs;unfold Z9
 rw[GA rfl,h];simp only;rw[Gl b]
def Wf(self:Int)(a:Int)(K:Keys):Prop:=∀ e∈K,∀ u∈e.2,u.node=self->u.seq<=a
def Given(K:Keys):Prop:=∀ e∈K,∀ u∈e.2,1<=u.seq
def T1(self:Int)(K:Keys):Prop:=∀ e∈K,∀ u∈e.2,u.seq=0->u.node=self
theorem Wf.mono{self c a:Int}{K:Keys}(h:Wf self c K)(q:c<=a):Wf self a K:=fun e o u y r=>Int.le_trans (h e o u y r) q
theorem Given.zero{self:Int}{K:Keys}(h:Given K):T1 self K:=fun e a u b c=>by have:=h e a u b;omega
theorem Q0{self j top:Int}:∀ {l m:List Ver}{s:Int},(∀ u∈l,u.node=self->u.seq<=j)->(∀ u∈l,1<=u.seq)->(∀ u∈m,u.seq=0->u.node=self)->l≠m->Y0 j top l m s=none
 | [],[],s,_,_,_,h=>absurd rfl h
 | a::l,u::m,s,d,f,g,h=>by
  have k:=fun s=>Q0 (top:=top) (s:=s) (fun x b=>d x (Ge _ b)) (fun x b=>f x (Ge _ b)) (fun x b=>g x (Ge _ b)) (l:=l) (m:=m);unfold Y0;have o:=f a (Gh ..);by_cases c:u.seq=0
  .rw[GA c]
   split
   .rfl
   .split
    .rename_i hm hs
     exfalso
     have e:=(Vd _ _).1 hs;have i:=g u (Gh ..) c;rw[<- e] at i;have:=d a (Gh ..) i;exact hm (.inl this)
    .rfl
  .rw[Gl c]
   split
   .rename_i hs
    have e:=(Vd _ _).1 hs;subst e;exact k s (fun e=>h (by rw[e]))
   .rfl
 | [],_::_,_,_,_,_,_=>rfl
 | _::_,[],_,_,_,_,_=>rfl
theorem UP{mo top:Int}:∀ {S:Keys},Given S->Z9 top mo S S=(S,mo,true)
 | [],_=>rfl
 | (a,l)::S,h=>by
  have d:=UP (mo:=mo) (top:=top) (S:=S) (fun e b=>h e (Ge _ b));rw[TK (We (n:=0) (fun u c=>by have:=h (a,l) (Gh ..) u c;omega)) (by omega),d]
theorem PX{self g top:Int}:∀ {S M:Keys},Wf self g S->Given S->T1 self M->S≠M->Z9 top g S M=(M,g,false)
 | [],[],_,_,_,h=>absurd rfl h
 | (a,l)::S,(b,u)::M,i,f,j,h=>by
  by_cases c:a=b
  .subst c
   by_cases k:l=u
   .subst k
    have o:=PX (top:=top) (S:=S) (M:=M) (fun e d=>i e (Ge _ d)) (fun e d=>f e (Ge _ d)) (fun e d=>j e (Ge _ d)) (fun e=>h (by rw[e]));rw[TK (We (n:=0) (fun u m=>by have:=f (a,l) (Gh ..) u m;omega)) (by omega),o]
   .unfold Z9
    rw[GA rfl,Q0 (i (a,l) (Gh ..)) (f (a,l) (Gh ..)) (j (a,u) (Gh ..)) k]
  .unfold Z9
   rw[Gl c]
 | [],_::_,_,_,_,_=>rfl
 | _::_,[],_,_,_,_=>rfl
theorem Q3{mo top:Int}:∀ (A:Keys){S M:Keys},Given A->Z9 top mo (A++S) (A++M)=(A++(Z9 top mo S M).1,(Z9 top mo S M).2)
 | [],_,_,_=>rfl
 | (a,l)::A,S,M,h=>by
  have d:=Q3 (mo:=mo) (top:=top) A (S:=S) (M:=M) (fun e b=>h e (Ge _ b));rw[GC,GC,TK (We (n:=0) (fun u c=>by have:=h (a,l) (Gh ..) u c;omega)) (by omega),d]
  rfl
theorem OY{mo top n:Int}{K:Keys}(a:ByteArray)(v:Ver)(h:Zz K)(d:Given K)(c:v.seq=0)(j:mo<n)(k:0<=mo)(l:n<=top) :
 Z9 top mo (Z0 K a [{v with seq:=n}]) (Z0 K a [v])=(Z0 K a [{v with seq:=n}],n,true):=by
 rw[Ze a _ h,Ze a _ h];simp only[Ds,Fk];unfold Zu;have f:∀ e∈K.take (low zh (K.map Prod.fst) a),e∈K:=fun e b=>GN b;have g:∀ e∈K.drop (if zY zh (K.map Prod.fst) a=true then low zh (K.map Prod.fst) a+1 else low zh (K.map Prod.fst) a),e∈K:=fun e b=>GB b;generalize K.take (low zh (K.map Prod.fst) a)=A at f |-;generalize K.drop (if zY zh (K.map Prod.fst) a=true then low zh (K.map Prod.fst) a+1 else low zh (K.map Prod.fst) a)=C at g |-;rw[Gp,Gp,Q3 A (fun e b=>d e (f e b))];simp only[Cz];have i:Y0 mo top [{v with seq:=n}] [v] 0=some n:=by
  unfold Y0;rw[GA c,Gl (by simp only;omega),GA ((Vd _ _).2 (by cases v;simp only at c |-;rw[c]))]
  rfl
 rw[Ji i (by omega),UP (fun e b=>d e (g e b))];simp[TI,c]
def Z3(m:LM)(S:SM):Prop:=m.keys=S.keys/\m.hints=S.hints
structure MOk(node:Int)(m:LM)(t:Nat):Prop where
 ym:Zz m.keys
 keys:m.keys.length<=t
 lens:∀ e∈m.keys,e.2.length<=5
 hints:m.hints.length<=33
 zero:T1 node m.keys
 node:m.node=node
def Wx(node:Int)(a b:Nat)(S:SM):Prop:=zO S/\b<=S.Ax/\S.Ax<=16*a/\Wf node b S.keys
def Zn(node:Int)(a b:Nat)(F:List Fact)(p:Nat):Prop:=∀ q,p<=q->q<=F.length->Wx node a b (atF F q)
def Hist(st:List LM)(F:List Fact)(p:Nat)(a:Prop):Prop :=
 ∃ j:Nat->Nat,(∀ q r,q<=r->j q<=j r)/\(∀ q,p<=q->q<=F.length->∃ m,st[j q]?=some m/\Z3 m (atF F q))/\(a->j F.length+1=st.length)
theorem Hist.mono{st:List LM}{F:List Fact}{p e:Nat}{T c:Prop}(h:Hist st F p T)(B:p<=e)(A:c->T):Hist st F e c:=by
 obtain⟨j,o,r,y⟩:=h;exact⟨j,o,fun q a b=>r q (Gc B a) b,fun t=>y (A t)⟩
theorem Hist.last{st:List LM}{F:List Fact}{p:Nat}(h:Hist st F p True)(d:p<=F.length):∃ m,st[st.length-1]?=some m/\Z3 m (atF F F.length)/\0<st.length:=by
 obtain⟨j,i,b,c⟩:=h;obtain⟨m,a,g⟩:=b F.length d (Gb _);have:=c trivial;have e:j F.length=st.length-1:=by omega
 rw[e] at a;exact⟨m,a,g,by omega⟩
theorem Hist.quiet{st:List LM}{F:List Fact}{p:Nat}{T:Prop}(h:Hist st F p T)(l:p<=F.length)(x:Fact)(o:∀ m,Z3 m (atF F F.length)->Z3 m ((atF F F.length).enter x)):Hist st (F++[x]) p T:=by
 obtain⟨j,i,g,k⟩:=h;refine⟨fun q=>j (min q F.length),fun q r h=>i _ _ (by omega),fun q a b=>?_,fun t=>?_⟩
 .rw[Ga,Gi] at b
  by_cases d:q<=F.length
  .obtain⟨m,c,f⟩:=g q a d
   refine⟨m,?_,by rw[XA d];exact f⟩;show st[j (min q F.length)]?=_;rw[Fi d];exact c
  .have e:q=F.length+1:=by omega
   obtain⟨m,c,f⟩:=g F.length l (Gb _);refine⟨m,?_,?_⟩
   .show st[j (min q F.length)]?=_
    rw[BF (by omega)];exact c
   .rw[e,Xu]
    exact o m f
 .rw[Ga,Gi]
  show j (min (F.length+1) F.length)+1=_;rw[BF (by omega)];exact k t
theorem Hist.push{st:List LM}{F G:List Fact}{p:Nat}{T:Prop}(o:G.length<=1)(h:p<=F.length->Hist st F p T)(i:p<=(F++G).length)(m:LM)(g:Z3 m (atF (F++G) (F++G).length)):Hist (st++[m]) (F++G) p True:=by
 by_cases f:p<=F.length
 .obtain⟨j,h1,h2,h3⟩:=h f
  refine⟨fun q=>if q<(F++G).length then min (j q) st.length else st.length,fun q r h=>?_,fun q a b=>?_,fun _=>?_⟩
  .have:=h1 q r h
   simp only;split <;> split <;> omega
  .by_cases hq:q<(F++G).length
   .have hqF:q<=F.length:=by rw[Ga] at hq;omega
    obtain⟨l,c,k⟩:=h2 q a hqF;have d:=(GF.1 c).1;refine⟨l,?_,by rw[XA hqF];exact k⟩;simp only;rw[GA hq,Fi (by omega),Ey d];exact c
   .have e:q=(F++G).length:=by omega
    refine⟨m,?_,by rw[e];exact g⟩;simp only;rw[Gl hq];simp
  .simp
 .refine⟨fun _=>st.length,fun _ _ _=>Gb _,fun q a b=>?_,fun _=>by simp⟩
  have e:q=(F++G).length:=by rw[Ga] at b i |-;omega
  exact⟨m,by simp,by rw[e];exact g⟩
theorem Hist.one{F:List Fact}(m:LM)(c:Z3 m (atF F F.length)):Hist [m] F F.length True:=by
 refine⟨fun _=>0,fun _ _ _=>Gb _,fun q a b=>?_,fun _=>rfl⟩;have e:q=F.length:=by omega
 rw[e];exact⟨m,rfl,c⟩
theorem Hist.maybe{st:List LM}{F:List Fact}{p:Nat}{T:Prop}(h:Hist st F p T)(m:LM):Hist (st++[m]) F p False:=by
 obtain⟨j,d,e,_⟩:=h;refine⟨j,d,fun q a b=>?_,fun f=>f.elim⟩;obtain⟨i,c,g⟩:=e q a b;exact⟨i,by rw[Ey (GF.1 c).1];exact c,g⟩
theorem U3{F a:List Fact}(h:a<+:F){q:Nat}(b:q<=a.length):atF a q=atF F q:=by
 obtain⟨r,rfl⟩:=h;rw[XA b]
theorem Hist.cut{st:List LM}{F c:List Fact}{p e:Nat}{T:Prop}(h:Hist st F p T)(d:c<+:F)(o:p<=e):Hist st c e False:=by
 obtain⟨j,g,k,_⟩:=h;refine⟨j,g,fun q a b=>?_,fun f=>f.elim⟩;obtain⟨m,l,r⟩:=k q (Gc o a) (Gc b d.length_le);exact⟨m,l,by rw[U3 d b];exact r⟩
theorem Zn.cut{node:Int}{c g:Nat}{F d:List Fact}{p j:Nat}(h:Zn node c g F p)(e:d<+:F)(k:p<=j):Zn node c g d j:=fun q a b=>by
 rw[U3 e b];exact h q (Gc k a) (Gc b e.length_le)
theorem Zn.snoc{node:Int}{c f:Nat}{F:List Fact}{p:Nat}(h:p<=F.length->Zn node c f F p)(x:Fact)(g:Wx node c f ((atF F F.length).enter x)):Zn node c f (F++[x]) p:=fun q a b=>by
 rw[Ga,Gi] at b;by_cases d:q<=F.length
 .rw[XA d]
  exact h (Gc a d) q a d
 .have e:q=F.length+1:=by omega
  rw[e,Xu];exact g
theorem Wx.mono{node:Int}{c a o e:Nat}{S:SM}(h:Wx node c o S)(q:c<=a)(y:o<=e)(r:e<=S.Ax):Wx node a e S :=
 ⟨h.1,r,Gc h.2.2.1 (Nat.mul_le_mul_left 16 q),h.2.2.2.mono (by omega)⟩
theorem Hist.found{st:List LM}{F:List Fact}{p:Nat}{T:Prop}(h:Hist st F p T)(Q:p<=F.length) :
 ∃ i m,st[i]?=some m/\Z3 m (atF F F.length)/\(∀ k f,i<k->st[k]?=some f->¬Z3 f (atF F F.length))/\Hist (st.take i++[m]) F p True/\(T->i+1=st.length):=by
 obtain⟨j,E,I,L⟩:=h;obtain⟨S,B,C⟩:=I F.length Q (Gb _)
 -- the greatest index
 have D:∀ d i m,st.length-i<=d->st[i]?=some m->Z3 m (atF F F.length)->j F.length<=i->∃ i m,st[i]?=some m/\Z3 m (atF F F.length)/\j F.length<=i/\∀ k f,i<k->st[k]?=some f->¬Z3 f (atF F F.length):=by
  intro d
  induction d with
  | zero =>
   intro i m M o;have:=(GF.1 o).1;omega
  | succ d R =>
   intro i m M o x J;by_cases s:∃ k f,i<k/\st[k]?=some f/\Z3 f (atF F F.length)
   .obtain⟨k,f,y,c,g⟩:=s
    exact R k f (by have:=(GF.1 c).1;omega) c g (by omega)
   .exact⟨i,m,o,x,J,fun k f y c g=>s ⟨k,f,y,c,g⟩⟩
 obtain⟨i,m,o,x,J,v⟩:=D _ _ S (Gb _) B C (Gb _);have N:=(GF.1 o).1;have l:∀ k f,k<=i->st[k]?=some f->(st.take i++[m])[k]?=some f:=fun k f y c=>by
  by_cases A:k<i
  .rw[Ey (by rw[Gd];omega),Fq A]
   exact c
  .have:k=i:=by omega
   subst this;rw[o] at c;obtain rfl:=GG c;rw[EL (by rw[Gd];omega)];have K:k-(st.take k).length=0:=by rw[Gd];omega
   rw[K]
   rfl
 refine⟨i,m,o,x,v,⟨fun q=>if q<F.length then min (j q) i else i,fun q r h=>?_,fun q a b=>?_,fun _=>?_⟩,fun t=>?_⟩
 .have:=E q r h
  simp only;split <;> split <;> omega
 .by_cases hq:q<F.length
  .obtain⟨f,c,g⟩:=I q a b
   have O:=E q F.length b;refine⟨f,?_,g⟩;simp only;rw[GA hq,Fi (by omega)];exact l _ f (by omega) c
  .have e:q=F.length:=by omega
   refine⟨m,?_,by rw[e];exact x⟩;simp only;rw[Gl hq];exact l i m (Gb _) o
 .simp only[Ao,Fk,Ga,Gd,Gi]
  omega
 .have:=L t
  omega
def Zer(self:Int)(mo:Nat)(m:LM)(S:SM)(n:Nat):Prop :=
 ∃ K a v,Zz K/\Given K/\Wf self mo K/\v.seq=0/\v.node=self/\m.keys=Z0 K a [v]/\S.keys=Z0 K a [{v with seq:=n}]/\m.hints=S.hints
theorem zO.given{S:SM}(h:zO S):Given S.keys:=fun e a u b=>((h.key e a).2.2 u b).one
theorem Vf{W:WM}{N:NM}{m:LM}(d:zO N.S)(b:N.readOnly=W.broken)(e:Z3 m N.S):ZM W N m=(W.most,some m):=by
 obtain⟨a,c⟩:=e;unfold ZM;rw[GA ⟨b,by rw[a],c.symm⟩,a,UP d.given];simp only[Bg,Ft];rw[<- a]
theorem PY{W:WM}{N:NM}{m:LM}(a:zO N.S)(b:Wf W.node W.most N.S.keys)(d:T1 W.node m.keys)(c:¬(N.readOnly=W.broken/\Z3 m N.S)):ZM W N m=(W.most,none):=by
 unfold ZM;split
 .rename_i h1
  rw[PX b a.given d (fun e=>c ⟨h1.1,e.symm,h1.2.2.symm⟩)];simp
 .rfl
theorem Tq{W:WM}{N:NM}{m:LM}{n:Nat}(h:Zer W.node W.most m N.S n)(p:W.most<n)(q:n<=16*W.calls)(d:N.readOnly=W.broken) :
 ZM W N m=(n,some {m with keys:=N.S.keys}):=by
 obtain⟨K,a,v,c,e,l,f,o,g,i,j⟩:=h;have k:=OY (mo:=W.most) (top:=16*W.calls) (n:=(n:Int)) a v c e f (by omega) (by omega) (by omega);unfold ZM;have b:(Z0 K a [{v with seq:=(n:Int)}]).length=(Z0 K a [v]).length:=by
  rw[Ze a _ c,Ze a _ c];simp only[Ds,Fk,Zu,Ga,Gi]
 rw[g,i,k,GA ⟨d,b,j.symm⟩];simp
structure Cm(W:WM)(t:Nat):Prop where
 yO:∀ m∈W.st,MOk W.node m t
 calls:W.calls<=t
 ww:W.writes<=t
 len:W.st.length<=t+1
 ne:0<W.st.length
 next:W.next<=t
 base:W.base<=100000
 vh:W.bk.vs.length<=4*t
 ve:W.bk.vm.length<=4*t
 vp:W.bk.ns.length<=4*t
 vt:W.bk.nm.length<=4*t
 vq:W.bk.hs.length<=4*t
 vf:W.bk.hm.length<=4*t
 yk:-9223372036854775808<=W.yk/\W.yk<=9223372036854775807
def WM.yF(W:WM):Int:=if W.room<0 then 1152921504606846976 else W.room
structure NI(W:WM)(N:NM)(M:DM)(F:List Fact)(p t:Nat):Prop where
 kp:Kp N M F p t (N.readOnly=false)
 cm:Cm W t
 room:M.room=W.yF
 yl:Hist W.st F p True
 xI:Zn W.node W.calls W.most F p
 ro:N.readOnly=W.broken
 self:W.node=(N.self:Int)
 nd:N.self<4
 most:W.most<=N.given
 given:N.given<=N.S.Ax
 wM:N.readOnly=false->N.given<N.S.Ax->Leas F p N.S.Ax
 every:W.every=(N.every:Int)
 wr:N.readOnly=false->N.every≠0->N.writes=W.writes%N.every
 nw:N.writes<=t
 dead:M.dead=false
def Doubt(W:WM)(st:List LM)(m:LM)(F:List Fact)(p n:Nat):Prop :=
 ∃ a x,F=a++[x]/\(p<=a.length->Hist st a p True)/\Zer W.node W.most m (atF F F.length) n/\W.most<n/\Zn W.node W.calls n F p/\∀ q,p<=q->q<=a.length->Wf W.node W.most (atF F q).keys
structure Sh(W:WM)(M:DM)(F:List Fact)(p t:Nat):Prop where
 lg:∃ y,Lg M y p t/\y.F=F
 cm:Cm W t
 room:M.room=W.yF
 all:(Zn W.node W.calls W.most F p/\(Hist W.st F p True\/(W.ye=true\/M.dead=true)/\Hist W.st F p False))\/(W.ye=true\/M.dead=true)/\∃ st m n,W.st=st++[m]/\Doubt W st m F p n
theorem XB(l:List Ver)(n:Int)(h:∀ u∈l,u.Nat):isN (grV l n):=by
 unfold grV;have c:∀ (l:List Ver) (a:Int),isN a->(∀ u∈l,u.Nat)->isN (l.foldl (fun m u=>if u.node=n then max m u.seq else m) a):=by
  intro l
  induction l with
  | nil=>intro a b _;exact b
  | cons x l f =>
   intro a b d;rw[Fj];refine f _ ?_ (fun u e=>d u (Ge _ e));split
   .have:=(d x (Gh ..)).seq
    unfold isN at *;omega
   .exact b
 exact c l 0 ⟨by decide,by decide⟩ h
theorem SC{l:List Ver}{v:Ver}(h:l.length<=4)(c:∀ u∈l,VOk u)(d:v.gone=false->VOk v)(f:v.gone=false->(zK l v).length<4):(Yb l v).length<=4/\∀ u∈Yb l v,VOk u:=by
 have g:=RG l v;have b:∀ u∈zK l v,u∈l:=fun u a=>(EX.1 a).1;unfold Yb;split
 .exact⟨by omega,fun u a=>c u (b u a)⟩
 .rename_i hg
  have e:=f (by simpa using hg);refine⟨by rw[UB];omega,?_⟩;intro u a;unfold Xb at a;simp only[Gf,Gg] at a;rcases a with(a|rfl)|a
  .exact c u (b u (GN a))
  .exact d (by simpa using hg)
  .exact c u (b u (GB a))
theorem Q4{l:List Ver}{v:Ver}(a:l.any v.yu=false):∀ u∈l,u.dot≠v.dot:=by
 intro u c e;have:l.any v.yu=true:=by
  rw[CF];refine⟨u,c,?_⟩;unfold Ver.yu;unfold Ver.dot at e;simp only[FF] at e;simp[e.1,e.2]
 rw[a] at this;cases this
theorem Ig{l:List Ver}{v:Ver}(d:YE l)(f:l.any v.yu=false):YE (Yb l v):=by
 have a:=RH d v;have c:∀ u∈zK l v,u∈l:=fun u h=>(EX.1 h).1;unfold Yb;split
 .exact a
 .unfold YE at a |-
  have:=Asc.ins Ya (b:=v.dot) a (fun g e=>by
   rw[GJ] at e;exact Q4 f _ (c _ (Gj _)) e)
  unfold Xb
  simpa [List.map_take,List.map_drop] using this
theorem SD{self:Nat}{v:Ver}(h:foreign self v=true)(j:v.value.size<=128)(f:v.gone=false):VOk v:=by
 have g:=UF h
 suffices i:v.Nat/\1<=v.seq from⟨g,i.1,j,i.2,f⟩
 unfold foreign Ver.xf at h;simp only[Bu,BT,Bv,Fm,Zd,Gr] at h;obtain⟨⟨a,b,c,d⟩,_,_,e⟩:=h;unfold Zy at g;exact⟨⟨⟨g.1,by omega⟩,⟨by omega,by omega⟩,⟨a.1,by omega⟩,⟨b.1,by omega⟩,⟨c.1,by omega⟩,⟨d.1,by omega⟩,by omega⟩,by omega⟩
theorem SE{a:ByteArray}{l:List Ver}(b:zz a=true)(h:∀ u∈l,VOk u)(d:l.length<=5):(zj (.inr (.inl (a,l)))).size<=1900:=by
 show(zt (XG a l)).size<=1900;rw[YY];unfold zz at b;simp only[Gr] at b;unfold XG;have e:=zD (n:=2) (by decide);have f:=YX a (by omega);have g:=UJ l h d;have c:=YG (zk 2++(zW a.data.toList++Zm l)) (by simp only[Ga];omega);simp only[Ga] at c;omega
theorem Jl.size{J:JM}{M:DM}{y:Lay}{p t:Nat}(h:Jl J M y)(a:Lg M y p t):J.size<=2000*(t+100)/\J.last<=2*t:=by
 have c:=h.1;refine⟨?_,a.xX c⟩;rcases FG y.G with e|⟨r,s,e⟩
 .rw[c,e];exact Gz _
 .rw[FH] at e
  have o:s∈y.G:=by rw[e];simp
  have:=a.bd.file (a.yT s o);rw[a.bytes s o] at this;rw[c,e,JM.yr];exact this
theorem IX{J:JM}{M:DM}{y:Lay}{p t:Nat}(h:Lg M y p t)(b:Jl J M y)(s:t+2<=990000)(H n:Nat)(r:n<=2000)(l:∀ g∈M.ids,g<H):Xa J M H n where
 bytes:=by omega
 size:=by have:=(b.size h).1;omega
 last:=by have:=(b.size h).2;omega
 AA:=by
  obtain⟨e,k,c,a,_⟩:=XQ h b.1 (by omega);rw[c];have:=a.bd.AA;simp only;omega
 dir:=by
  obtain⟨e,k,c,a,_⟩:=XQ h b.1 (by omega);rw[c];have:=a.bd.dir;simp only;omega
 room:=fun f q=>by
  obtain⟨e,o,k,u,c,a,_,_,_,_,_,_,_,_,_,j,i⟩:=Su h b (by omega) n f (fun m=>by have:=l f m;omega);rw[c];refine⟨a.bd.part,?_,fun g d=>by have:=a.bd.file d;simp only;omega⟩;cases e with
  | none =>
   have:=((i rfl).1.size a).1;simp only;omega
  | some x =>
   have:=(b.size h).1;rw[j (by simp)];simp only;omega
theorem T4{N:NM}{M:DM}{F:List Fact}{p t:Nat}(h:Kp N M F p t True)(f:t+2<=990000)(H:Nat)(d:∀ g∈M.ids,g<H)(x:Fact)(i:FOk x)(a:(zj x).size<=2000)(j:N.S.keys.length<=100000000)(k:N.writes<=100000000):Fit N M H x:=by
 have e:=h.yD F.length;rw[<- h.held] at e;obtain⟨⟨l,b,_,c⟩,_⟩:=h;exact⟨i,IX b (c trivial).1 f H _ a d,by omega,by omega,by omega⟩
theorem PZ{N:NM}{M:DM}{F:List Fact}{p t:Nat}(h:Kp N M F p t True)(Q:t+10<=990000)(m:N.given<100000000000)(k:N.given<=N.S.Ax)(E:N.given<N.S.Ax->Leas F p N.S.Ax)(H:Nat)(r:∀ g∈M.ids,g<H)(b:ByteArray)(x:NM->Nat->List Ver)(l:List Ver)
 (J:∀ j:NM,j.S.keys=N.S.keys->j.self=N.self->x j (N.given+1)=l)(K:FOk (.inr (.inl (b,l))))(d:(zj (.inr (.inl (b,l)))).size<=2000)(u:N.S.keys.length<=100000000)(v:N.writes<=100000000):VT N M H b x where
 log:=(T4 h (by omega) H r (.inl (N.given+16)) (by show N.given+16<_;omega) (by have:=Sw (n:=N.given+16) (by omega);omega) u v).log
 keys:=by omega
 hints:=by have s:=h.yD F.length;rw[<- h.held] at s;omega
 given:=by omega
 fact:=fun f s o B _ a=>by
  obtain⟨O,q,i,L,A,R,C,y,I,D,_⟩:=J6 h (by omega) m k E f (fun G=>by have:=r f G;omega);rw[C] at o a |-;simp only at o a |-;subst o;simp only[Ft] at a y |-;have c:i.keys=N.S.keys:=by
   rcases D with⟨_,e⟩|⟨_,e,_⟩
   .rw[e]
   .rw[e]
  rw[J {N with J:=q,S:=i,given:=N.given+1} c rfl];exact T4 (N:={N with J:=q,S:=i,given:=N.given+1}) (y.kp.mono (fun _=>rfl) (Gb _)) (by omega) B a _ K d (by show i.keys.length<=_;rw[c];exact u) v
theorem MOk.more{node:Int}{m:LM}{t u:Nat}(h:MOk node m t)(a:t<=u):MOk node m u:=⟨h.ym,Gc h.keys a,h.lens,h.hints,h.zero,h.node⟩
theorem Cm.more{W:WM}{t u:Nat}(h:Cm W t)(a:t<=u):Cm W u :=
 ⟨fun m b=>(h.yO m b).more a,Gc h.calls a,Gc h.ww a,by have:=h.len;omega,h.ne,Gc h.next a,h.base,by have:=h.vh;omega,by have:=h.ve;omega,by have:=h.vp;omega,by have:=h.vt;omega,by have:=h.vq;omega,by have:=h.vf;omega,h.yk⟩
theorem Cm.yR{W W':WM}{t:Nat}(h:Cm W t)(k:W'.node=W.node)(j:∀ m∈W'.st,MOk W.node m t)(i:W'.st.length<=t+1)(c:0<W'.st.length)(l:W'.writes<=t)(g:W'.calls=W.calls)(d:W'.next=W.next)(e:W'.base=W.base)(a:W'.bk=W.bk)(f:W'.yk=W.yk:=by rfl):Cm W' t :=
 ⟨fun m b=>by rw[k];exact j m b,by rw[g];exact h.calls,l,i,c,by rw[d];exact h.next,by rw[e];exact h.base,by rw[a];exact h.vh,by rw[a];exact h.ve,by rw[a];exact h.vp,by rw[a];exact h.vt,by rw[a];exact h.vq,by rw[a];exact h.vf,by rw[f];exact h.yk⟩
structure Aft(W:WM)(mx:LM)(M:DM)(e:Option Int)(N':NM)(M':DM)(t':Nat):Prop where
 body:∃ F' p',Kp N' M' F' p' t' (e=none)/\(e=none->N'.given<N'.S.Ax->Leas F' p' N'.S.Ax)/\(e=none->({W with writes:=W.writes+1}:WM).due=true->p'=F'.length) /\
  ((Hist (W.st++[mx]) F' p' True/\Zn W.node W.calls W.most F' p')\/(e≠none/\(Hist W.st F' p' True/\Zn W.node W.calls W.most F' p'\/∃ n,Doubt W W.st mx F' p' n/\n<=N'.given)))
 ro:N'.readOnly=e.isSome
 br:W.broken=false
 yo:Ans M M' e
 grow:e=none->M.calls<M'.calls
 full:e=some 10->M.room<M.yj+2000
 room:M'.room=W.yF
 cm:Cm W t'
 ww:W.writes+1<=t'
 len:W.st.length+1<=t'+1
 yO:MOk W.node mx t'
 self:W.node=(N'.self:Int)
 nd:N'.self<4
 most:W.most<=N'.given
 given:N'.given<=N'.S.Ax
 every:W.every=(N'.every:Int)
 wr:e=none->N'.every≠0->N'.writes=(W.writes+1)%N'.every
 nw:N'.writes<=t'
 dead:M.dead=false
theorem Aft.yp{W:WM}{G:LM}{M:DM}{u:NM}{t:DM}{r:Nat}(h:Aft W G M none u t r):∃ s I,NI (W.yp G) u t s I r:=by
 obtain⟨s,I,J,L,O,N⟩:=h.body;have A:=N.resolve_right (fun x=>x.1 rfl);have p:=J.le;have j:t.dead=false:=by
  rcases h.yo.1 with⟨_,_,_,e⟩|⟨_,⟨e,_⟩|⟨e,_⟩⟩
  .rw[e];exact h.dead
  .cases e
  .cases e
 have E:u.readOnly=false:=h.ro;obtain⟨b,o,hrel,K⟩:=A.1.last p;have B:b=G:=by simp at o;exact o.symm
 subst B;have i:∀ m∈W.st++[b],MOk W.node m r:=fun m d=>by
  rcases Gf.1 d with d|d
  .exact h.cm.yO m d
  .rw[Gg] at d;subst d;exact h.yO
 refine⟨s,I,?_⟩;have a:(W.yp b).node=W.node:=by unfold WM.yp;simp only;split <;> rfl
 have c:(W.yp b).calls=W.calls:=by unfold WM.yp;simp only;split <;> rfl
 have f:(W.yp b).most=W.most:=by unfold WM.yp;simp only;split <;> rfl
 have v:(W.yp b).broken=W.broken:=by unfold WM.yp;simp only;split <;> rfl
 have y:(W.yp b).every=W.every:=by unfold WM.yp;simp only;split <;> rfl
 have q:(W.yp b).writes=W.writes+1:=by unfold WM.yp;simp only;split <;> rfl
 have D:(W.yp b).yF=W.yF:=by unfold WM.yp;simp only;split <;> rfl
 have g:((W.yp b).st=W.st++[b])\/(({W with writes:=W.writes+1}:WM).due=true/\(W.yp b).st=[b]):=by
  unfold WM.yp;simp only;split
  .rename_i k
   refine .inr ⟨k,?_⟩;simp
  .exact .inl rfl
 have l:∀ m∈(W.yp b).st,MOk W.node m r:=fun m d=>by
  rcases g with e|⟨_,e⟩
  .rw[e] at d;exact i m d
  .rw[e] at d;exact i m (EE _ d)
 exact {
  kp:=J.mono (fun _=>rfl) (Gb _)
  cm:=h.cm.yR a l (by rcases g with e|⟨_,e⟩ <;> rw[e] <;> simp <;> (have:=h.len;omega)) (by rcases g with e|⟨_,e⟩ <;> rw[e] <;> simp) (by rw[q];exact h.ww) c (by unfold WM.yp;simp only;split <;> rfl) (by unfold WM.yp;simp only;split <;> rfl) (by unfold WM.yp;simp only;split <;> rfl) (by unfold WM.yp;simp only;split <;> rfl)
  room:=by rw[D];exact h.room
  yl:=by
   rcases g with e|⟨k,e⟩
   .rw[e];exact A.1
   .rw[e,O rfl k];exact Hist.one b hrel
  xI:=by rw[a,c,f];exact A.2
  ro:=by rw[v,h.br];exact E
  self:=by rw[a];exact h.self
  nd:=h.nd
  most:=by rw[f];exact h.most
  given:=h.given
  wM:=fun _=>L rfl
  every:=by rw[y];exact h.every
  wr:=fun _ C=>by rw[q];exact h.wr rfl C
  nw:=h.nw
  dead:=j}
theorem Aft.gone{W:WM}{a:LM}{M:DM}{x:Int}{t:NM}{g:DM}{r:Nat}(h:Aft W a M (some x) t g r)(s:g.dead=true):∃ f q,Sh {W with broken:=true,st:=W.st++[a]} g f q r:=by
 obtain⟨f,q,⟨⟨C,B,A,_⟩,_⟩,_,_,y⟩:=h.body;have e:∀ m∈W.st++[a],MOk W.node m r:=fun m c=>by
  rcases Gf.1 c with c|c
  .exact h.cm.yO m c
  .rw[Gg] at c;subst c;exact h.yO
 refine⟨f,q,⟨C,B,A⟩,h.cm.yR rfl e (by have:=h.len;show(W.st++[a]).length<=_;rw[Ga];exact this) (by show 0<(W.st++[a]).length;simp) h.cm.ww rfl rfl rfl rfl,h.room,?_⟩;rcases y with⟨d,o⟩|⟨_,⟨d,o⟩|⟨n,d,_⟩⟩
 .exact .inl ⟨o,.inl d⟩
 .exact .inl ⟨o,.inr ⟨.inr s,d.maybe a⟩⟩
 .exact .inr ⟨.inr s,W.st,a,n,rfl,d⟩
theorem Aft.told{W:WM}{l:LM}{M:DM}{x:Int}{d:NM}{s:DM}{k:Nat}(h:Aft W l M (some x) d s k)(hd:s.dead=false) :
 (∀ i,(ZM {W with broken:=true} d l).2=some i->∃ f j,NI {W with broken:=true,most:=(ZM {W with broken:=true} d l).1,st:=W.st++[i]} d s f j k) /\
   ((ZM {W with broken:=true} d l).2=none->(ZM {W with broken:=true} d l).1=W.most/\∀ n,W.st[W.st.length-1]?=some n->ZM {W with broken:=true} d n=(W.most,some n)/\∃ f j,NI {W with broken:=true} d s f j k):=by
 obtain⟨f,j,Q,_,_,hc⟩:=h.body;have c:=Q.le;have g:d.readOnly=true:=h.ro;have b:d.S=atF f f.length:=Q.held;have R:Kp d s f j k (d.readOnly=false):=Q.mono (fun e=>by rw[g] at e;cases e) (Gb _);have B:∀ i,MOk W.node i k->∀ m∈W.st++[i],MOk W.node m k:=fun i o m u=>by
  rcases Gf.1 u with u|u
  .exact h.cm.yO m u
  .rw[Gg] at u;subst u;exact o
 have D:∀ (y:Nat) (st:List LM),(∀ m∈st,MOk W.node m k)->st.length<=k+1->0<st.length->Hist st f j True->Zn W.node W.calls y f j->y<=d.given->NI {W with broken:=true,most:=y,st:=st} d s f j k:=fun y st p r h3 hh E T =>
  ⟨R,h.cm.yR rfl p r h3 (by have:=h.ww;show W.writes<=k;omega) rfl rfl rfl rfl,h.room,hh,E,g,h.self,h.nd,T,h.given,(fun e=>by rw[g] at e;cases e),h.every,(fun e=>by rw[g] at e;cases e),h.nw,hd⟩
 have mk:=fun(y:Nat) (i:LM) (o:MOk W.node i k)=>D y (W.st++[i]) (B i o) (by have:=h.len;rw[Ga];exact this) (by simp);rcases hc with⟨p,r⟩|⟨_,⟨p,r⟩|⟨n,p,I⟩⟩
 .-- it took effect
  obtain⟨ml,q,hrel,_⟩:=p.last c;have V:ml=l:=by simp at q;exact q.symm
  subst V;rw[<- b] at hrel;have a:=r f.length c (Gb _);rw[<- b] at a;rw[Vf (W:={W with broken:=true}) a.1 g hrel];exact⟨fun i e=>⟨f,j,by obtain rfl:=GG e;exact mk W.most ml h.yO p r h.most⟩,fun e=>by cases e⟩
 .-- it did not
  obtain⟨ml,q,hrel,_⟩:=p.last c;have a:=r f.length c (Gb _);rw[<- b] at a hrel;have C:∀ n,W.st[W.st.length-1]?=some n->ZM {W with broken:=true} d n=(W.most,some n)/\∃ f j,NI {W with broken:=true} d s f j k:=fun n I=>by
   rw[q] at I;obtain rfl:=GG I;exact⟨Vf (W:={W with broken:=true}) a.1 g hrel,f,j,D W.most W.st h.cm.yO (by have:=h.len;omega) h.cm.ne p r h.most⟩
  by_cases X:Z3 l d.S
  .rw[Vf (W:={W with broken:=true}) a.1 g X]
   refine⟨fun i e=>⟨f,j,?_⟩,fun e=>by cases e⟩;obtain rfl:=GG e;have:=Hist.push (G:=[]) (Gz _) (fun _=>p) (by rw[GI];exact c) l (by rw[GI,<- b];exact X);rw[GI] at this;exact mk W.most l h.yO this r h.most
  .rw[PY (W:={W with broken:=true}) a.1 a.2.2.2 h.yO.zero (fun e=>X e.2)]
   exact⟨fun i e=>(by cases e),fun _=>⟨rfl,C⟩⟩
 .-- its number was not told
  obtain⟨F0,x0,L,N,J,S,E,_⟩:=p;have a:=E f.length c (Gb _);rw[<- b] at a J;rw[Tq (W:={W with broken:=true}) J S (by have:=a.2.1;have:=a.2.2.1;show n<=16*W.calls;omega) g];refine⟨fun i e=>⟨f,j,?_⟩,fun e=>by cases e⟩;obtain rfl:=GG e;have A:d.S.keys.length=l.keys.length:=by
   obtain⟨K,t,v,Y,k2,k3,k4,k5,k6,k7,k8⟩:=J;rw[k6,k7,Ze t _ Y,Ze t _ Y];simp only[Ds,Fk,Zu,Ga,Gi]
  have O:l.hints=d.S.hints:=by obtain⟨K,t,v,Y,k2,k3,k4,k5,k6,k7,k8⟩:=J;exact k8
  have o:MOk W.node {l with keys:=d.S.keys} k:=⟨a.1.ym,by show d.S.keys.length<=k;rw[A];exact h.yO.keys,fun e he=>by have:=(a.1.key e he).2.1;omega,h.yO.hints,a.1.given.zero,h.yO.node⟩;have:=Hist.push (F:=F0) (G:=[x0]) (by simp) (fun hp=>N hp) (by rw[<- L];exact c) {l with keys:=d.S.keys} (by rw[<- L,<- b];exact⟨rfl,O⟩);rw[<- L] at this;exact mk n _ o this E I
theorem OZ{self:Nat}{a:ByteArray}{v:Ver}(h:YF self a v=0):foreign self v=true:=by
 unfold YF at h;split at h
 .cases h
 .split at h
  .cases h
  .split at h
   .cases h
   .rename_i hf
    simpa using hf
def VJ(N:NM)(a:ByteArray)(v:Ver):Option Int :=
 if YF N.self a v≠0 then some (YF N.self a v) else if N.readOnly=true then some 8 else if WW (zr N.S.keys a) v=0 then some 0 else if WW (zr N.S.keys a) v=1 then some 6 else none
theorem SF(N:NM)(M:DM)(a:ByteArray)(v:Ver)(f:Nat):N.accept M a v f=match VJ N a v with
 | some c=>(c,N,M)
 | none=>N.asked M (.inr (.inl (a,Yb (zr N.S.keys a) v))) f:=by
 unfold VJ NM.accept YF WW;cases hk:zz a
 .simp
 .by_cases hv:128<v.value.size
  .simp[hv]
  .cases hf:foreign N.self v
   .simp[hv]
   .cases hr:N.readOnly
    .simp only[hv]
     by_cases b:(zr N.S.keys a).any v.yu=true
     .simp[b]
     .simp only[b]
      by_cases d:v.gone=false/\4<=(zK (zr N.S.keys a) v).length
      .simp[d]
      .simp only[d,Fk]
       by_cases e:v.gone=true/\(zK (zr N.S.keys a) v).length=(zr N.S.keys a).length
       .simp[e]
       .simp[e]
    .simp[hv]
def Xg(N:NM)(b:Int)(a:ByteArray):Option Int :=
 if XX N.self b a≠0 then some (XX N.self b a) else if N.readOnly=true then some 8 else if 32<=N.S.hints.length then some 6 else none
theorem TL(N:NM)(M:DM)(b:Int)(a:ByteArray)(f:Nat):N.hint M b a f=match Xg N b a with
 | some c=>(c,N,M)
 | none=>N.asked M (.inr (.inr (.inl (b.toNat,a)))) f:=by
 unfold Xg NM.hint XX;by_cases d:(zR b&&decide (b≠N.self))=false
 .simp only[d];simp
 .rw[Gl d,Gl d]
  by_cases e:a.size=0\/64<a.size
  .simp only[e];simp
  .rw[Gl e,Gl e]
   cases hr:N.readOnly
   .by_cases h3:32<=N.S.hints.length
    .simp[h3]
    .simp[h3]
   .simp
def Wq(N:NM):Option Int:=if N.readOnly=true then some 8 else if N.S.hints.length=0 then some 7 else none
theorem Ri(N:NM)(M:DM)(f:Nat):N.yY M f=match Wq N with
 | some c=>(c,N,M)
 | none=>N.asked M (.inr (.inr (.inr ()))) f:=by
 unfold Wq NM.yY;cases hr:N.readOnly
 .by_cases h3:N.S.hints.length=0
  .simp[h3]
  .simp[h3]
 .simp
theorem NI.now{W:WM}{N:NM}{M:DM}{F:List Fact}{p t:Nat}(h:NI W N M F p t):∃ m,W.st[W.st.length-1]?=some m/\Z3 m N.S/\MOk W.node m t:=by
 obtain⟨m,a,b,_⟩:=h.yl.last h.kp.le;rw[<- h.kp.held] at b;exact⟨m,a,b,h.cm.yO m (fFS a)⟩
theorem NI.st{W:WM}{N:NM}{M:DM}{F:List Fact}{p t:Nat}(h:NI W N M F p t):Wx W.node W.calls W.most N.S:=by
 have:=h.xI F.length h.kp.le (Gb _)
 rwa [<- h.kp.held] at this
theorem NI.nk{W:WM}{N:NM}{M:DM}{F:List Fact}{p t:Nat}(h:NI W N M F p t):N.S.keys.length<=t:=by
 obtain⟨m,_,b,a⟩:=h.now;rw[<- b.1];exact a.keys
theorem Rj(G:List Fact)(x:Fact):atF (G++[x]) (G++[x]).length=(atF G G.length).enter x:=by
 rw[Ga,Gi,Xu]
theorem O0{w k:Nat}(c:k≠0):(w+1)%k=if w%k+1<k then w%k+1 else 0:=by
 have d:=CD w (Nat.pos_of_ne_zero c);split
 .rename_i hlt
  rw[<- Nat.mod_add_mod,BA hlt]
 .rw[<- Nat.mod_add_mod,show w%k+1=k by omega,Nat.mod_self]
theorem NI.due{W:WM}{N:NM}{M:DM}{F:List Fact}{p t:Nat}(h:NI W N M F p t)(e:N.readOnly=false) :
 (({W with writes:=W.writes+1}:WM).due=true->N.due=true)/\(N.every≠0->(if N.due=true then 0 else N.writes+1)=(W.writes+1)%N.every):=by
 have i:=h.every;have f:=h.wr e;unfold WM.due NM.due;simp only[Fm,Gr,Be,Bool.or_eq_false_iff,FB];rw[i]
 constructor
 .rintro⟨h1,h2⟩
  have d:N.every≠0:=by omega
  have g:(W.writes+1)%N.every=0:=by
   have:=Int.tmod_eq_emod_of_nonneg (a:=((W.writes+1:Nat):Int)) (b:=(N.every:Int)) (by omega);rw[this] at h2
   exact_mod_cast h2
  refine⟨d,fun c=>?_⟩;rw[f d] at c;rw[O0 d,GA c] at g;omega
 .intro d
  rw[O0 d,f d];by_cases c:W.writes%N.every+1<N.every
  .rw[GA c,Gl (fun x=>x.2 c)]
  .rw[Gl c,GA ⟨d,c⟩]
theorem NI.AY{W:WM}{N:NM}{M:DM}{F A:List Fact}{p t:Nat}(h:NI W N M F p t)(e:A=[]\/A=[.inl (N.given+16)]/\¬N.given<N.S.Ax) :
 Hist W.st (F++A) p True/\Zn W.node (W.calls+1) W.most (F++A) p/\(atF (F++A) (F++A).length).keys=N.S.keys/\(atF (F++A) (F++A).length).hints=N.S.hints:=by
 have d:=h.st;have c:Zn W.node (W.calls+1) W.most F p:=fun q a b=>(h.xI q a b).mono (FQ _) (Gb _) (h.xI q a b).2.1;rcases e with rfl|⟨rfl,f⟩
 .rw[GI,<- h.kp.held]
  exact⟨h.yl,c,rfl,rfl⟩
 .rw[Ga,Gi,Xu,<- h.kp.held]
  refine⟨h.yl.quiet h.kp.le _ (fun m g=>g),Zn.snoc (fun _=>c) _ ?_,rfl,rfl⟩;rw[<- h.kp.held];have i:=h.most;have j:=h.given;have k:=d.2.2.1;exact⟨d.1.Ax _,by show W.most<=N.given+16;omega,by show N.given+16<=16*(W.calls+1);omega,d.2.2.2⟩
theorem N4{self c:Int}{S:SM}(h:Wf self c S.keys)(b:ByteArray)(l:List Ver)(f:∀ u∈l,u.node=self->u.seq<=c):Wf self c (S.holds b l).keys:=by
 unfold SM.holds;simp only;split
 .exact fun e a=>h e (V0 e a)
 .exact fun e a=>(WZ e a).elim (h e) (fun d=>by subst d;exact f)
theorem Wx.holds{node:Int}{a f c:Nat}{S:SM}(h:Wx node a f S)(b:ByteArray)(j:zz b=true)(l:List Ver)(i:YE l)(k:l.length<=4)(p:∀ u∈l,VOk u)(o:f<=c)(e:c<=S.Ax)(d:∀ u∈l,u.node=node->u.seq<=c):Wx node a c (S.holds b l) :=
 ⟨h.1.holds b j l i k p,by rw[Yu];exact e,by rw[Yu];exact h.2.2.1,N4 (h.2.2.2.mono (by omega)) b l d⟩
theorem NI.replace{W:WM}{N:NM}{M:DM}{F:List Fact}{p t:Nat}(h:NI W N M F p t)(ht:t+20<=990000)(D:N.readOnly=false)(a:ByteArray)(j:zz a=true)(vs:NM->Nat->List Ver)(l:List Ver)(f g:Nat)(hf:f∉M.ids)(hg:g∉M.ids)(ha:Apart2 N M f g)
 (b6:∀ N1:NM,N1.S.keys=N.S.keys->N1.self=N.self->vs N1 (N.given+1)=l)(hv:∀ u∈l,VOk u)(a0:∀ u∈l,u.seq=((N.given+1:Nat):Int))(K m0:LM)(c2:MOk W.node K (t+10))(c1:MOk W.node m0 (t+10))(hrel:K.keys=Z0 N.S.keys a l/\K.hints=N.S.hints)
 (s:(l=[]/\m0=K)\/(∃ v,l=[{v with seq:=((N.given+1:Nat):Int)}]/\v.seq=0/\v.node=W.node/\m0.keys=Z0 N.S.keys a [v]/\m0.hints=N.S.hints)) :
 ∃ e N' S,N.replace M a vs f g=((if e=none then N.given+1 else 0),Zh e,N',S)/\(∀ k∈S.ids,(k=f\/k=g)\/k∈M.ids)/\(e=none\/e=some 9\/e=some 10) /\
  Aft {W with calls:=W.calls+1,most:=if e=none then N.given+1 else W.most} (if e=none then K else m0) M e N' S (t+10):=by
 have I:=h.st;have a8:N.given<100000000000:=by have:=h.given;have:=I.2.2.1;have:=h.cm.calls;omega
 have G:l.length<=4/\YE l:=by
  rcases s with⟨e,_⟩|⟨v,e,_⟩
  .rw[e];exact⟨Gz _,by unfold YE Asc;simp⟩
  .rw[e];exact⟨by simp,by unfold YE Asc;simp⟩
 obtain⟨e,J',S',gv,wr,S,A,B,p',er,w,O,hA,hB,J,c3,b7,b8,b9,a7,L⟩:=RY (h.kp.mono (fun _=>D) (Gb _)) (by omega) a8 h.given (h.wM D) D a vs l f g hf hg ha b6 (XO j hv (by omega)) (SE j hv (by omega));obtain⟨a1,T,a3,a4⟩:=h.AY hA;refine⟨e,_,S,er,w.ids,?_,?_⟩
 .rcases w.yo.1 with⟨o,_⟩|⟨_,⟨o,_⟩|⟨o,_⟩⟩
  .exact .inl o
  .exact .inr (.inl o)
  .exact .inr (.inr o)
 have E:=w.kp;have y:S'=atF (F++A++B) (F++A++B).length:=E.held;have hd:=h.due D;have b3:=h.most;exact {
  body:=by
   refine⟨F++A++B,p',E,fun o c0=>?_,fun o a6=>(J o).2 (hd.1 a6),?_⟩
   .rcases hB with⟨_,d⟩|⟨_,_,_,hL⟩
    .exact absurd o d
    .exact hL
   .rcases hB with⟨rfl,d⟩|⟨rfl,X,hn1,hL⟩
    .rw[GI] at E y |-
     refine .inr ⟨d,.inl ⟨a1.mono O id,?_⟩⟩;rw[Gl d];exact fun q b c=>T q (Gc O b) c
    .have hF1:Wx W.node (W.calls+1) W.most (atF (F++A) (F++A).length):=T _ (by have:=h.kp.le;rw[Ga];omega) (Gb _)
     have Y:=E.le;have a5:(atF (F++A) (F++A).length).Ax=S'.Ax:=by
      rw[y,Rj];show _=(SM.holds _ _ _).Ax;rw[Yu]
     have i:Z3 K (atF (F++A++[.inr (.inl (a,l))]) (F++A++[(.inr (.inl (a,l)):Fact)]).length):=by
      rw[Rj];refine⟨?_,?_⟩
      .rw[hrel.1,<- a3,Ze a _ hF1.1.ym]
       rfl
      .show _=(SM.holds _ _ _).hints
       rw[Xi,a4];exact hrel.2
     have V:Wx W.node (W.calls+1) (N.given+1) ((atF (F++A) (F++A).length).enter (.inr (.inl (a,l)))):=hF1.holds a j l G.2 G.1 hv (by omega) (by rw[a5];exact hn1) (fun u hu _=>by rw[a0 u hu];exact Ef _);have r:Zn W.node (W.calls+1) (N.given+1) (F++A++[.inr (.inl (a,l))]) p':=Zn.snoc (fun _ q b c=>by
      have hq:=T q (Gc O b) c;refine hq.mono (Gb _) (by omega) ?_;have:=hL q b (by rw[Ga];omega);rw[XA c] at this;omega) _ V
     have C:Hist (W.st++[K]) (F++A++[.inr (.inl (a,l))]) p' True:=Hist.push (by simp) (fun _=>a1.mono O id) Y K i;cases e with
     | none=>exact .inl ⟨C,r⟩
     | some x =>
      simp only[reduceCtorEq,Fk];rcases s with⟨b1,rfl⟩|⟨v,b2,b4,b5,b0,a9⟩
      .refine .inl ⟨C,Zn.snoc (fun _ q b c=>T q (Gc O b) c) _ (hF1.holds a j l G.2 G.1 hv (Gb _) hF1.2.1 (fun u hu _=>by rw[b1] at hu;cases hu))⟩
      .refine .inr ⟨by simp,.inr ⟨N.given+1,⟨F++A,.inr (.inl (a,l)),rfl,fun _=>a1.mono O id,⟨N.S.keys,a,v,I.1.ym,I.1.given,I.2.2.2,b4,b5,b0,?_,?_⟩,by show W.most<N.given+1;omega,r,fun q b c=>?_⟩,by show N.given+1<=gv;omega⟩⟩
       .rw[<- i.1,hrel.1,b2]
       .rw[<- i.2,a9,hrel.2]
       .rw[XA c]
        exact(T q (Gc O b) c).2.2.2
  ro:=rfl
  br:=by have:=h.ro;show W.broken=false;rw[<- this,D]
  yo:=w.yo
  grow:=L
  full:=w.full
  room:=by rw[w.room];exact h.room
  cm:=⟨fun m hm=>(h.cm.yO m hm).more (by omega),by have:=h.cm.calls;show W.calls+1<=_;omega,by have:=h.cm.ww;show W.writes<=_;omega,by have:=h.cm.len;show W.st.length<=_;omega,h.cm.ne,by have:=h.cm.next;show W.next<=_;omega,h.cm.base,by have:=h.cm.vh;show W.bk.vs.length<=_;omega,by have:=h.cm.ve;show W.bk.vm.length<=_;omega,by have:=h.cm.vp;show W.bk.ns.length<=_;omega,by have:=h.cm.vt;show W.bk.nm.length<=_;omega,by have:=h.cm.vq;show W.bk.hs.length<=_;omega,by have:=h.cm.vf;show W.bk.hm.length<=_;omega,h.cm.yk⟩
  ww:=by have:=h.cm.ww;show W.writes+1<=_;omega
  len:=by have:=h.cm.len;show W.st.length+1<=_;omega
  yO:=by split <;> assumption
  self:=h.self
  nd:=h.nd
  most:=by
   show(if e=none then N.given+1 else W.most)<=gv;split
   .rename_i o
    rcases hB with⟨_,d⟩|⟨_,X,_⟩
    .exact absurd o d
    .omega
   .omega
  given:=a7
  every:=h.every
  wr:=fun o d=>by
   show wr=_;rw[(J o).1];exact hd.2 d
  nw:=by have:=h.nw;show wr<=_;omega
  dead:=h.dead}
theorem NI.asked{W:WM}{N:NM}{M:DM}{F:List Fact}{p t:Nat}(h:NI W N M F p t)(ht:t+20<=990000)(g:N.readOnly=false)(x:Fact)(Y:ZY x)(K:(zj x).size<=2000)(v:(N.S.enter x).hints.length<=32)(f:Nat)(V:f∉M.ids)(y:LM)(I:MOk W.node y (t+10))(hrel:Z3 y (N.S.enter x))(J:Wx W.node W.calls W.most (N.S.enter x))(r:(N.S.enter x).Ax=N.S.Ax) :
 ∃ e L l,N.asked M x f=(Zh e,L,l)/\(∀ k∈l.ids,k=f\/k∈M.ids)/\(e=none\/e=some 9\/e=some 10)/\Aft W y M e L l (t+10):=by
 obtain⟨e,J',A,wr,l,B,p',T,w,s,C,i,X,j⟩:=IQ (h.kp.mono (fun _=>g) (Gb _)) (by omega) g x Y K v f V;refine⟨e,_,l,T,w.ids,?_,?_⟩
 .rcases w.yo.1 with⟨c,_⟩|⟨_,⟨c,_⟩|⟨c,_⟩⟩
  .exact .inl c
  .exact .inr (.inl c)
  .exact .inr (.inr c)
 have o:=w.kp.mono id (show t+5<=t+10 by omega);have O:=h.due g;have D:A.Ax=N.S.Ax:=by
  rcases C with⟨_,_,e⟩|⟨_,e⟩
  .rw[e]
  .rw[e,r]
 exact {
  body:=by
   refine⟨F++B,p',o,fun c G=>?_,fun c E=>(i c).2 (O.1 E),?_⟩
   .have hL:=h.wM g (by rw[<- D];exact G)
    rcases C with⟨_,d,_⟩|⟨rfl,_⟩
    .exact absurd c d
    .intro q a b
     rw[Ga,Gi] at b;show A.Ax<=_;rw[D];by_cases v:q<=F.length
     .rw[XA v]
      exact hL q (Gc s a) v
     .have e1:q=F.length+1:=by omega
      rw[e1,Xu,<- h.kp.held,r];exact Gb _
   .rcases C with⟨rfl,d,_⟩|⟨rfl,_⟩
    .rw[GI]
     exact .inr ⟨d,.inl ⟨h.yl.mono s id,fun q a b=>h.xI q (Gc s a) b⟩⟩
    .refine .inl ⟨Hist.push (by simp) (fun _=>h.yl.mono s id) o.le y ?_,Zn.snoc (fun _ q a b=>h.xI q (Gc s a) b) _ ?_⟩
     .rw[Rj,<- h.kp.held]
      exact hrel
     .rw[<- h.kp.held]
      exact J
  ro:=rfl
  br:=by have:=h.ro;rw[<- this,g]
  yo:=w.yo
  grow:=j
  full:=w.full
  room:=by rw[w.room];exact h.room
  cm:=h.cm.more (by omega)
  ww:=by have:=h.cm.ww;omega
  len:=by have:=h.cm.len;omega
  yO:=I
  self:=h.self
  nd:=h.nd
  most:=h.most
  given:=by show N.given<=A.Ax;rw[D];exact h.given
  every:=h.every
  wr:=fun c d=>by
   show wr=_;rw[(i c).1];exact O.2 d
  nw:=by have:=h.nw;show wr<=_;omega
  dead:=h.dead}
theorem MOk.with{node:Int}{m:LM}{t:Nat}(h:MOk node m t)(key:ByteArray)(l:List Ver)(r:l.length<=5)(y:∀ u∈l,u.seq=0->u.node=node):MOk node {m with keys:=Z0 m.keys key l} (t+10):=by
 have q:Z0 m.keys key l=if l=[] then YC m.keys key else Zu m.keys key l:=Ze key l h.ym
 have o:∀ e∈Z0 m.keys key l,e∈m.keys\/e=(key,l):=fun e c=>by
  rw[q] at c;split at c
  .exact .inl (V0 e c)
  .exact WZ e c
 refine⟨?_,?_,fun e c=>?_,h.hints,fun e c=>?_,h.node⟩
 .show Zz (Z0 m.keys key l)
  rw[q];split
  .exact PA key h.ym
  .exact TB key l h.ym
 .show(Z0 m.keys key l).length<=_
  have:=h.keys;rw[q];split
  .have:=PC m.keys key;omega
  .have:=PB m.keys key l;omega
 .rcases o e c with x|x
  .exact h.lens e x
  .rw[x];exact r
 .rcases o e c with x|x
  .exact h.zero e x
  .rw[x];exact y
theorem NI.vE{W:WM}{N:NM}{M:DM}{F:List Fact}{p t:Nat}(h:NI W N M F p t){m:LM}(b:Z3 m N.S)(a:ByteArray):Z5 m.keys a=zr N.S.keys a:=by
 rw[b.1];exact VP a h.st.1.ym
theorem NI.vO{W:WM}{N:NM}{M:DM}{F:List Fact}{p t:Nat}(h:NI W N M F p t)(y:t+20<=990000){m:LM}(q:Z3 m N.S)(l:MOk W.node m t)(b a:ByteArray)(r:a.size<=128) :
 (∀ c:NM,c.S.keys=N.S.keys->c.self=N.self->putV b a c (N.given+1)=[m.putV b a ((N.given+1:Nat):Int)])/\VOk (m.putV b a ((N.given+1:Nat):Int)):=by
 have e:m.putV b a ((N.given+1:Nat):Int)=⟨N.self,((N.given+1:Nat):Int),grV (zr N.S.keys b) 0,grV (zr N.S.keys b) 1,grV (zr N.S.keys b) 2,grV (zr N.S.keys b) 3,a,false⟩:=by
  unfold LM.putV;rw[h.vE q,l.node,h.self]
 have d:∀ u∈zr N.S.keys b,u.Nat:=fun u s=>((h.st.1.get b).2.2 u s).nat;have o:=h.nd;have k:N.given<100000000000:=by have:=h.given;have:=h.st.2.2.1;have:=h.cm.calls;omega
 refine⟨fun c i j=>?_,?_⟩
 .rw[e]
  unfold putV;rw[i,j]
 .rw[e]
  have f:(0:Int)<=((N.self:Nat):Int):=by omega
  have g:((N.self:Nat):Int)<4:=by omega
  have v:(0:Int)<=((N.given+1:Nat):Int):=by omega
  have x:((N.given+1:Nat):Int)<9223372036854775808:=by omega
  exact⟨⟨f,g⟩,⟨⟨f,Int.lt_trans g (by decide)⟩,⟨v,x⟩,XB _ _ d,XB _ _ d,XB _ _ d,XB _ _ d,by show a.size<_;omega⟩,r,by show(1:Int)<=((N.given+1:Nat):Int);omega,rfl⟩
theorem NI.put{W:WM}{N:NM}{M:DM}{F:List Fact}{p t H0:Nat}(h:NI W N M F p t)(B:t+20<=990000)(j:N.readOnly=false){m:LM}(r:Z3 m N.S)(o:MOk W.node m t)(d:∀ g∈M.ids,g<H0)(a b:ByteArray)(c:zz a=true)(J:b.size<=128) :
 (∀ H,H0<=H->VT N M H a (putV a b))/\W.most<N.given+1/\N.given+1<=16*(W.calls+1)/\∀ f g,H0<=f->H0<=g->Apart2 N M f g->∃ e y x,N.put M a b f g=((if e=none then N.given+1 else 0),Zh e,y,x)/\(e=none\/e=some 9\/e=some 10) /\
   Aft {W with calls:=W.calls+1,most:=if e=none then N.given+1 else W.most} (m.put a b (((if e=none then N.given+1 else 0:Nat)):Int)) M e y x (t+10):=by
 obtain⟨s,K⟩:=h.vO B r o a b J;have l:∀ u∈[m.putV a b ((N.given+1:Nat):Int)],VOk u:=by intro u i;rw[Gg] at i;subst i;exact K
 have L:=h.st.2.2.1;have O:=h.most;have Q:=h.given;have R:=h.cm.calls;have T:=h.nk;have V:=h.nw;refine⟨fun H E=>PZ (h.kp.mono (fun _=>j) (Gb _)) (by omega) (by omega) h.given (h.wM j) H (fun g A=>Ff (d g A) E) a _ _ s (Wo c l (by simp)) (YZ c l (by simp)) (by omega) (by omega),by omega,by omega,fun f g X A G=>?_⟩;obtain⟨e,y,x,C,_,I,q⟩:=h.replace B j a c (putV a b) [m.putV a b ((N.given+1:Nat):Int)] f g (fun k=>by have:=d f k;omega) (fun k=>by have:=d g k;omega) G s l (fun u i=>by rw[Gg] at i;subst i;rfl)
  (m.put a b ((N.given+1:Nat):Int)) (m.put a b 0) (o.with a _ (by simp) (fun u i D=>by rw[Gg] at i;subst i;exact o.node)) (o.with a _ (by simp) (fun u i D=>by rw[Gg] at i;subst i;exact o.node)) ⟨by show Z0 m.keys a _=_;rw[r.1],r.2⟩
  (.inr ⟨m.putV a b 0,rfl,rfl,o.node,by show Z0 m.keys a _=_;rw[r.1],r.2⟩)
 refine⟨e,y,x,?_,I,?_⟩
 .unfold NM.put
  rw[Gl (by rw[c];decide),Gl (by omega),Gl (by rw[j];decide)];exact C
 .cases e <;> exact q
theorem NI.delete{W:WM}{N:NM}{M:DM}{F:List Fact}{p t H0:Nat}(h:NI W N M F p t)(D:t+20<=990000)(d:N.readOnly=false){m:LM}(v:Z3 m N.S)(C:MOk W.node m t)(c:∀ g∈M.ids,g<H0)(a:ByteArray)(b:zz a=true) :
 (∀ H,H0<=H->VT N M H a (fun _ _=>[]))/\W.most<N.given+1/\N.given+1<=16*(W.calls+1)/\∀ f g,H0<=f->H0<=g->Apart2 N M f g->∃ e r q,N.delete M a f g=((if e=none then N.given+1 else 0),Zh e,r,q)/\(e=none\/e=some 9\/e=some 10) /\
   Aft {W with calls:=W.calls+1,most:=if e=none then N.given+1 else W.most} (m.delete a) M e r q (t+10):=by
 have j:∀ u∈([]:List Ver),VOk u:=by intro u o;cases o
 have E:=h.st.2.2.1;have G:=h.most;have I:=h.given;have J:=h.cm.calls;have K:=h.nk;have L:=h.nw;have l:MOk W.node (m.delete a) (t+10):=C.with a [] (by simp) (fun u o=>by cases o);refine⟨fun H y=>PZ (h.kp.mono (fun _=>d) (Gb _)) (by omega) (by omega) h.given (h.wM d) H (fun g s=>Ff (c g s) y) a _ [] (fun _ _ _=>rfl) (Wo b j (by simp)) (YZ b j (by simp)) (by omega) (by omega),by omega,by omega,fun f g O s A=>?_⟩;obtain⟨e,r,q,x,_,B,k⟩:=h.replace D d a b (fun _ _=>[]) [] f g (fun i=>by have:=c f i;omega) (fun i=>by have:=c g i;omega) A (fun _ _ _=>rfl) j (fun u o=>by cases o)
  (m.delete a) (m.delete a) l l ⟨by show Z0 m.keys a _=_;rw[v.1],v.2⟩ (.inl ⟨rfl,rfl⟩)
 refine⟨e,r,q,?_,B,?_⟩
 .unfold NM.delete
  rw[Gl (by rw[b];decide),Gl (by rw[d];decide)];exact x
 .cases e <;> exact k
theorem NI.accept{W:WM}{N:NM}{M:DM}{F:List Fact}{p t Q:Nat}(h:NI W N M F p t)(ht:t+20<=990000){m:LM}(Y:Z3 m N.S)(hm:MOk W.node m t)(r:∀ g∈M.ids,g<Q)(a:ByteArray)(v:Ver) :
 (∀ H,Q<=H->zz a=true->v.value.size<=128->foreign N.self v=true->N.readOnly=false->(v.gone=false->(zK (zr N.S.keys a) v).length<4)->Fit N M H (.inr (.inl (a,Yb (zr N.S.keys a) v)))) /\
   (VJ N a v=none->∀ f,Q<=f->∃ e O L,N.accept M a v f=(Zh e,O,L)/\(e=none\/e=some 9\/e=some 10)/\Aft W (m.accept a v) M e O L (t+10)):=by
 have i:=h.st;have l:=i.1.get a;have h5:=h.nk;have h6:=h.nw;refine⟨fun H hH D hs hf k d=>?_,fun j f hf=>?_⟩
 .have c:=SC l.2.1 l.2.2 (fun h=>SD hf hs h) d
  exact T4 (h.kp.mono (fun _=>k) (Gb _)) (by omega) H (fun g l=>Ff (r g l) hH) _ (Wo D c.2 (by omega)) (YZ D c.2 (by omega)) (by omega) (by omega)
 .have hout:=SF N M a v f
  rw[j] at hout;unfold VJ at j;by_cases q:YF N.self a v=0
  .rw[Gl (by simp[q])] at j
   cases k:N.readOnly with
   | true=>rw[GA k] at j;cases j
   | false =>
    rw[Gl (by rw[k];decide)] at j;by_cases C:WW (zr N.S.keys a) v=0
    .rw[GA C] at j;cases j
    .by_cases hw1:WW (zr N.S.keys a) v=1
     .rw[Gl C,GA hw1] at j;cases j
     .have hfo:=OZ q
      have o:zz a=true/\v.value.size<=128:=by
       unfold YF at q;split at q
       .cases q
       .rename_i D
        split at q
        .cases q
        .exact⟨by simpa using D,by omega⟩
      have y:(zr N.S.keys a).any v.yu=false:=by
       cases D:(zr N.S.keys a).any v.yu with
       | false=>rfl
       | true=>exact absurd (by unfold WW;rw[GA D]) C
      have d:v.gone=false->(zK (zr N.S.keys a) v).length<4:=fun l=>by
       refine BB fun R=>hw1 ?_;unfold WW;rw[Gl (by rw[y];decide),GA ⟨l,R⟩]
      have c:=SC l.2.1 l.2.2 (fun h=>SD hfo o.2 h) d;have G:=Ig l.1 y;have B:v.node≠W.node:=by
       rw[h.self];unfold foreign at hfo;simp only[Fm,Gr] at hfo;intro e;have:=hfo.2.2.1;exact this.2 e
      have J:∀ u∈Yb (zr N.S.keys a) v,u∈zr N.S.keys a\/u=v:=fun u b=>by
       unfold Yb at b;split at b
       .exact .inl (EX.1 b).1
       .unfold Xb at b
        simp only[Gf,Gg] at b;rcases b with(b|b)|b
        .exact .inl (EX.1 (GN b)).1
        .exact .inr b
        .exact .inl (EX.1 (GB b)).1
      have A:∀ u∈zr N.S.keys a,∃ e∈N.S.keys,u∈e.2:=fun u b=>by
       rcases Pz N.S.keys a with e|⟨e,I,_,h2⟩
       .rw[e] at b;cases b
       .exact⟨e,I,by rw[h2];exact b⟩
      have K:∀ u∈Yb (zr N.S.keys a) v,u.node=W.node->u.seq<=(W.most:Int):=fun u b X=>by
       rcases J u b with x|x
       .obtain⟨e,I,hx⟩:=A u x
        exact i.2.2.2 e I u hx X
       .rw[x] at X;exact absurd X B
      have s:Pe (Z5 m.keys a) v=Yb (zr N.S.keys a) v:=by
       rw[h.vE Y];exact IF v l.1 (Q4 y)
      have V:MOk W.node (m.accept a v) (t+10):=by
       unfold LM.accept;rw[s];exact hm.with a _ (by omega) (fun u b h0=>by have:=(c.2 u b).one;omega)
      obtain⟨e,O,L,er,_,I,E⟩:=h.asked ht k (.inr (.inl (a,Yb (zr N.S.keys a) v))) (XO o.1 c.2 (by omega)) (YZ o.1 c.2 (by omega)) (by show(SM.holds _ _ _).hints.length<=32;rw[Xi];exact i.1.hlen) f (fun T=>by have:=r f T;omega) (m.accept a v) V
       ⟨by show Z0 m.keys a (Pe (Z5 m.keys a) v)=_;rw[s,Y.1,Ze a _ i.1.ym];rfl,by show m.hints=(SM.holds _ _ _).hints;rw[Xi];exact Y.2⟩ (i.holds a o.1 _ G c.1 c.2 (Gb _) i.2.1 K) (Yu _ _ _)
      exact⟨e,O,L,by rw[hout];exact er,I,E⟩
  .rw[GA q] at j;cases j
theorem NI.hint{W:WM}{N:NM}{M:DM}{F:List Fact}{p t H0:Nat}(h:NI W N M F p t)(L:t+20<=990000){m:LM}(D:Z3 m N.S)(r:MOk W.node m t)(j:∀ g∈M.ids,g<H0)(b:Int)(a:ByteArray) :
 (∀ H,H0<=H->a.size<=64->zR b=true->N.readOnly=false->Fit N M H (.inr (.inr (.inl (b.toNat,a))))) /\
   (Xg N b a=none->∀ f,H0<=f->∃ e A y,N.hint M b a f=(Zh e,A,y)/\(e=none\/e=some 9\/e=some 10)/\Aft W (m.hint b.toNat a) M e A y (t+10)):=by
 have c:=h.st;have Q:=h.nk;have T:=h.nw;refine⟨fun H G K o d=>?_,fun i f V=>?_⟩
 .unfold zR at o
  simp only[Gr] at o;exact T4 (h.kp.mono (fun _=>d) (Gb _)) (by omega) H (fun g J=>Ff (j g J) G) _ ⟨by show b.toNat<_;omega,by show a.size<_;omega⟩ (XN (by omega) K) (by omega) (by omega)
 .have hout:=TL N M b a f
  rw[i] at hout;unfold Xg at i;by_cases l:XX N.self b a=0
  .rw[Gl (by simp[l])] at i
   cases d:N.readOnly with
   | true=>rw[GA d] at i;cases i
   | false =>
    rw[Gl (by rw[d];decide)] at i;by_cases B:32<=N.S.hints.length
    .rw[GA B] at i;cases i
    .have o:zR b=true/\a.size<=64:=by
      unfold XX at l;split at l
      .cases l
      .rename_i h1
       split at l
       .cases l
       .simp only[Bool.not_eq_false,Fm] at h1
        exact⟨h1.1,by omega⟩
     have s:=o.1;unfold zR at s;simp only[Gr] at s;obtain⟨e,A,y,E,_,I,q⟩:=h.asked L d (.inr (.inr (.inl (b.toNat,a)))) (Uj (by omega) o.2) (XN (by omega) o.2) (by show(N.S.hints++[_]).length<=32;rw[Ga,Gi];omega) f (fun C=>by have:=j f C;omega) (m.hint b.toNat a)
      ⟨r.ym,by have:=r.keys;show m.keys.length<=_;omega,r.lens,by show(m.hints++[_]).length<=33;rw[Ga,Gi,D.2];omega,r.zero,r.node⟩
      ⟨D.1,by show m.hints++[_]=N.S.hints++[_];rw[D.2]⟩ ⟨⟨c.1.ym,c.1.key,by show(N.S.hints++[_]).length<=32;rw[Ga,Gi];omega,c.1.names,c.1.some,fun x O=>(Gf.1 O).elim (c.1.text x) (fun e=>by rw[Gg] at e;subst e;exact⟨by show b.toNat<4;omega,o.2⟩)⟩,c.2.1,c.2.2.1,c.2.2.2⟩ rfl
     exact⟨e,A,y,by rw[hout];exact E,I,q⟩
  .rw[GA l] at i;cases i
theorem NI.yY{W:WM}{N:NM}{M:DM}{F:List Fact}{p t H0:Nat}(h:NI W N M F p t)(E:t+20<=990000){m:LM}(s:Z3 m N.S)(i:MOk W.node m t)(c:∀ g∈M.ids,g<H0) :
 (∀ H,H0<=H->N.readOnly=false->Fit N M H (.inr (.inr (.inr ())))) /\
   (Wq N=none->∀ f,H0<=f->∃ e o l,N.yY M f=(Zh e,o,l)/\(e=none\/e=some 9\/e=some 10)/\Aft W m.yY M e o l (t+10)):=by
 have a:=h.st;have I:=h.nk;have J:=h.nw;refine⟨fun H y b=>T4 (h.kp.mono (fun _=>b) (Gb _)) (by omega) H (fun g B=>Ff (c g B) y) _ trivial RN (by omega) (by omega),fun q f K=>?_⟩;have d:=Ri N M f;rw[q] at d;unfold Wq at q;cases b:N.readOnly with
 | true=>rw[GA b] at q;cases q
 | false =>
  have C:=a.1.hlen;have D:=i.hints;obtain⟨e,o,l,v,_,A,j⟩:=h.asked E b (.inr (.inr (.inr ()))) PE RN (by show(N.S.hints.drop 1).length<=32;rw[Gk];omega) f (fun r=>by have:=c f r;omega) m.yY
   ⟨i.ym,by have:=i.keys;show m.keys.length<=_;omega,i.lens,by show(m.hints.drop 1).length<=33;rw[Gk];omega,i.zero,i.node⟩
   ⟨s.1,by show m.hints.drop 1=N.S.hints.drop 1;rw[s.2]⟩ ⟨⟨a.1.ym,a.1.key,by show(N.S.hints.drop 1).length<=32;rw[Gk];omega,a.1.names,a.1.some,fun x G=>a.1.text x (GB G)⟩,a.2.1,a.2.2.1,a.2.2.2⟩ rfl
  exact⟨e,o,l,by rw[d];exact v,A,j⟩
def XC:ByteArray:={data:=#[97,32,116,114,105,97,108]}
structure Sane(S:SM)(t:Nat):Prop where
 held:zO S
 Ax:S.Ax<=16*t
 keys:S.keys.length<=t
theorem Sane.more{S:SM}{t u:Nat}(h:Sane S t)(a:t<=u):Sane S u:=⟨h.held,by have:=h.Ax;omega,by have:=h.keys;omega⟩
theorem Sh.vS{W:WM}{M:DM}{F:List Fact}{p t:Nat}(h:Sh W M F p t):p<=F.length/\Sane (atF F F.length) t:=by
 obtain⟨y,q,k⟩:=h.lg;have c:p<=F.length:=by rw[<- k];exact q.xr
 have G:=h.cm.calls;refine⟨c,?_⟩;have a:∀ T,Hist W.st F p T->(atF F F.length).keys.length<=t:=fun T l=>by
  obtain⟨j,_,d,_⟩:=l;obtain⟨m,s,u⟩:=d F.length c (Gb _);rw[<- u.1];exact(h.cm.yO m (fFS s)).keys
 rcases h.all with⟨g,d⟩|⟨_,st,m,n,e,D,x,E,o,A,r,i,_⟩
 .have:=g F.length c (Gb _)
  exact⟨this.1,by have:=this.2.2.1;omega,d.elim (a _) (fun x=>a _ x.2)⟩
 .have:=i F.length c (Gb _)
  refine⟨this.1,by have:=this.2.2.1;omega,?_⟩;obtain⟨K,a,v,f,I,J,L,N,B,C,O⟩:=A;have b:(atF F F.length).keys.length=m.keys.length:=by
   rw[B,C,Ze a _ f,Ze a _ f];simp only[Ds,Fk,Zu,Ga,Gi]
  rw[b];exact(h.cm.yO m (by rw[e];simp)).keys
theorem IY{N:NM}(j:zO N.S)(l:N.self<4)(k:N.given<100000000000)(b a:ByteArray)(m:a.size<=128) :
 (∀ d:NM,d.S.keys=N.S.keys->d.self=N.self->putV b a d (N.given+1)=putV b a N (N.given+1))/\(∀ u∈putV b a N (N.given+1),VOk u)/\(putV b a N (N.given+1)).length<=4:=by
 have e:∀ u∈zr N.S.keys b,u.Nat:=fun u c=>((j.get b).2.2 u c).nat;refine⟨fun d h i=>?_,fun u c=>?_,by unfold putV;simp⟩
 .unfold putV
  rw[h,i]
 .unfold putV at c
  rw[Gg] at c;subst c;have f:(0:Int)<=((N.self:Nat):Int):=by omega
  have g:((N.self:Nat):Int)<4:=by omega
  have o:(0:Int)<=((N.given+1:Nat):Int):=by omega
  have p:((N.given+1:Nat):Int)<9223372036854775808:=by omega
  exact⟨⟨f,g⟩,⟨⟨f,Int.lt_trans g (by decide)⟩,⟨o,p⟩,XB _ _ e,XB _ _ e,XB _ _ e,XB _ _ e,by show a.size<_;omega⟩,m,by show(1:Int)<=((N.given+1:Nat):Int);omega,rfl⟩
theorem Ih(F G:List Fact):(atF (F++G) (F++G).length).keys.length<=(atF F F.length).keys.length+G.length:=by
 unfold atF;rw[Gt,Gt,GW];exact Wd G _
theorem Lz{M:DM}{y:Lay}{p t H0:Nat}(hl:Lg M y p t)(O:y.new=none)(R:Sane y.held t)(ht:t<=950000)(n:Nat)(hn:n<4)(a b:Nat)(i:∀ g∈M.ids,g<H0)(d c:ByteArray)(u:zz d=true)(hv:c.size<=128) :
 (∀ H,H0<=H->VT (NM.opened n a b y) M H d (putV d c))/\∀ f g,H0<=f->H0<=g->Apart2 (NM.opened n a b y) M f g->∀ (j:Int)(J:ByteArray)(G:Nat),(∀ g'∈((NM.opened n a b y).put M d c f g).2.2.2.ids,g'<G)->J.size<=64->zR j=true->((NM.opened n a b y).put M d c f g).2.2.1.readOnly=false->Fit ((NM.opened n a b y).put M d c f g).2.2.1 ((NM.opened n a b y).put M d c f g).2.2.2 G (.inr (.inr (.inl (j.toNat,J)))):=by
 have C:=R.Ax;have L:=R.keys;have l:(NM.opened n a b y).given<100000000000:=by show y.held.Ax<_;omega
 obtain⟨T,I,h3⟩:=IY (N:=NM.opened n a b y) R.held hn l d c hv;have o:Kp (NM.opened n a b y) M y.F p t True:=hl.opened O n a b True;have s:(NM.opened n a b y).given<(NM.opened n a b y).S.Ax->Leas y.F p (NM.opened n a b y).S.Ax:=fun h=>absurd h (Ao _);refine⟨fun H hH=>PZ o (by omega) l (Gb _) s H (fun g X=>Ff (i g X) hH) d _ _ T (Wo u I (by omega)) (YZ u I (by omega)) (by show y.held.keys.length<=_;omega) (Gz _),?_⟩;intro f g hf X ha j J G;rcases hput:(NM.opened n a b y).put M d c f g with⟨r,e,N',M'⟩;intro q S E D;simp only at q D |-;obtain⟨K,J',S',gv,wr,M2,A,B,p',er,w,hp,hA,hB,V,a3,_,_,_,_⟩:=RY o (by omega) l (Gb _) s rfl d (putV d c) _ f g (fun h=>by have:=i f h;omega) (fun h=>by have:=i g h;omega) ha T (XO u I (by omega)) (SE u I (by omega));have Q:(NM.opened n a b y).put M d c f g=(NM.opened n a b y).replace M d (putV d c) f g:=by
  unfold NM.put;rw[Gl (by rw[u];decide),Gl (by omega),Gl (by show ¬false=true;decide)]
 rw[Q,er] at hput;obtain⟨rfl,rfl⟩:{NM.opened n a b y with J:=J',S:=S',given:=gv,writes:=wr,readOnly:=K.isSome}=N'/\M2=M':=by
  simp only[FF] at hput;exact⟨hput.2.2.1,hput.2.2.2⟩
 have he:K=none:=by
  cases K with
  | none=>rfl
  | some x=>cases D
 have k:=w.kp;have m:S'=atF (y.F++A++B) (y.F++A++B).length:=k.held;have h0:y.held=atF y.F y.F.length:=o.held;have a2:S'.keys.length<=t+2:=by
  have:=Ih y.F (A++B);rw[<- Gp,<- m,<- h0] at this;rw[Ga] at this;have a0:A.length<=1:=by rcases hA with e|⟨e,_⟩ <;> rw[e] <;> simp
  have a1:B.length<=1:=by rcases hB with⟨e,_⟩|⟨e,_⟩ <;> rw[e] <;> simp
  omega
 unfold zR at E;simp only[Gr] at E;have Y:(NM.opened n a b y).writes=0:=rfl;exact T4 (k.mono (fun _=>he) (Gb _)) (by omega) G q _ ⟨by show j.toNat<_;omega,by show J.size<_;omega⟩ (XN (by omega) S) (by show S'.keys.length<=_;omega) (by show wr<=_;omega)
end Go.Proofs.YtkhnggkkiefcdaaGreatDoor
