/- larder: joined texts -/
import Derived.Test.YtkhnggkkiefcdaaGreatDoorNMAH
import Derived.Test.YtkhnggkkiefcdaaGreatDoorNMAJ
import Derived.Test.YtkhnggkkiefcdaaGreatDoorNMAK
import Derived.Test.YtkhnggkkiefcdaaGreatDoorNMAM
import Derived.Test.YtkhnggkkiefcdaaGreatDoorNMAN
import Derived.Test.YtkhnggkkiefcdaaGreatDoorNMAS
namespace Go.Proofs.YtkhnggkkiefcdaaGreatDoor
open Go.RowKit
set_option maxRecDepth 100000
def XV(self:Int)(a:Int)(K:Keys):Prop:=∀ e∈K,∀ u∈e.2,u.node=self->u.seq<=a
def Given(K:Keys):Prop:=∀ e∈K,∀ u∈e.2,1<=u.seq
def Up(self:Int)(K:Keys):Prop:=∀ e∈K,∀ u∈e.2,u.seq=0->u.node=self
theorem XV.mono{self c a:Int}{K:Keys}(h:XV self c K)(o:c<=a):XV self a K:=fun e g u r q=>Int.le_trans (h e g u r q) o
theorem Given.zero{self:Int}{K:Keys}(h:Given K):Up self K:=fun e a u b c=>by have:=h e a u b;omega
theorem Rs{self j top:Int}:∀ {l m:List Ver}{s:Int},(∀ u∈l,u.node=self->u.seq<=j)->(∀ u∈l,1<=u.seq)->(∀ u∈m,u.seq=0->u.node=self)->l≠m->ZP j top l m s=none
 | [],[],s,_,_,_,h=>absurd rfl h
 | a::l,u::m,s,d,f,g,h=>by
  have k:=fun s=>Rs (top:=top) (s:=s) (fun x b=>d x (JV _ b)) (fun x b=>f x (JV _ b)) (fun x b=>g x (JV _ b)) (l:=l) (m:=m);unfold ZP;have o:=f a (JX ..);by_cases c:u.seq=0
  .rw[Io c]
   split
   .rfl
   .split
    .rename_i hm hs
     exfalso
     have e:=(WV _ _).1 hs;have i:=g u (JX ..) c;rw[<- e] at i;have:=d a (JX ..) i;exact hm (.inl this)
    .rfl
  .rw[Ie c]
   split
   .rename_i hs
    have e:=(WV _ _).1 hs;subst e;exact k s (fun e=>h (by rw[e]))
   .rfl
 | [],_::_,_,_,_,_,_=>rfl
 | _::_,[],_,_,_,_,_=>rfl
theorem Uj{mo top:Int}:∀ {S:Keys},Given S->Z3 top mo S S=(S,mo,true)
 | [],_=>rfl
 | (a,l)::S,h=>by
  have d:=Uj (mo:=mo) (top:=top) (S:=S) (fun e b=>h e (JV _ b));rw[T0 (XU (n:=0) (fun u c=>by have:=h (a,l) (JX ..) u c;omega)) (by omega),d]
theorem Px{self g top:Int}:∀ {S M:Keys},XV self g S->Given S->Up self M->S≠M->Z3 top g S M=(M,g,false)
 | [],[],_,_,_,h=>absurd rfl h
 | (a,l)::S,(b,u)::M,i,f,j,h=>by
  by_cases c:a=b
  .subst c
   by_cases k:l=u
   .subst k
    have o:=Px (top:=top) (S:=S) (M:=M) (fun e d=>i e (JV _ d)) (fun e d=>f e (JV _ d)) (fun e d=>j e (JV _ d)) (fun e=>h (by rw[e]));rw[T0 (XU (n:=0) (fun u m=>by have:=f (a,l) (JX ..) u m;omega)) (by omega),o]
   .unfold Z3
    rw[Io rfl,Rs (i (a,l) (JX ..)) (f (a,l) (JX ..)) (j (a,u) (JX ..)) k]
  .unfold Z3
   rw[Ie c]
 | [],_::_,_,_,_,_=>rfl
 | _::_,[],_,_,_,_=>rfl
theorem Rt{mo top:Int}:∀ (A:Keys){S M:Keys},Given A->Z3 top mo (A++S) (A++M)=(A++(Z3 top mo S M).1,(Z3 top mo S M).2)
 | [],_,_,_=>rfl
 | (a,l)::A,S,M,h=>by
  have d:=Rt (mo:=mo) (top:=top) A (S:=S) (M:=M) (fun e b=>h e (JV _ b));rw[It,It,T0 (XU (n:=0) (fun u c=>by have:=h (a,l) (JX ..) u c;omega)) (by omega),d]
  rfl
theorem OB{mo top n:Int}{K:Keys}(a:ByteArray)(v:Ver)(h:Yb K)(d:Given K)(c:v.seq=0)(j:mo<n)(k:0<=mo)(l:n<=top) :
 Z3 top mo (Zf K a [{v with seq:=n}]) (Zf K a [v])=(Zf K a [{v with seq:=n}],n,true):=by
 rw[Zc a _ h,Zc a _ h];simp only[FH,Hf];unfold Zt;have f:∀ e∈K.take (low zh (K.map Prod.fst) a),e∈K:=fun e b=>IJ b;have g:∀ e∈K.drop (if zX zh (K.map Prod.fst) a=true then low zh (K.map Prod.fst) a+1 else low zh (K.map Prod.fst) a),e∈K:=fun e b=>Ir b;generalize K.take (low zh (K.map Prod.fst) a)=A at f |-;generalize K.drop (if zX zh (K.map Prod.fst) a=true then low zh (K.map Prod.fst) a+1 else low zh (K.map Prod.fst) a)=C at g |-;rw[Ig,Ig,Rt A (fun e b=>d e (f e b))];simp only[EC];have i:ZP mo top [{v with seq:=n}] [v] 0=some n:=by
  unfold ZP;rw[Io c,Ie (by simp only;omega),Io ((WV _ _).2 (by cases v;simp only at c |-;rw[c]))]
  rfl
 rw[LN i (by omega),Uj (fun e b=>d e (g e b))];simp[UY,c]
def Z9(m:LM)(S:SM):Prop:=m.keys=S.keys/\m.hints=S.hints
structure MOk(node:Int)(m:LM)(t:Nat):Prop where
 Bp:Yb m.keys
 keys:m.keys.length<=t
 lens:∀ e∈m.keys,e.2.length<=5
 hints:m.hints.length<=33
 zero:Up node m.keys
 node:m.node=node
def Wh(node:Int)(a b:Nat)(S:SM):Prop:=zY S/\b<=S.CA/\S.CA<=16*a/\XV node b S.keys
def Zg(node:Int)(a b:Nat)(F:List Fact)(p:Nat):Prop:=∀ q,p<=q->q<=F.length->Wh node a b (atF F q)
def Hist(st:List LM)(F:List Fact)(p:Nat)(a:Prop):Prop :=
 ∃ j:Nat->Nat,(∀ q r,q<=r->j q<=j r)/\(∀ q,p<=q->q<=F.length->∃ m,st[j q]?=some m/\Z9 m (atF F q))/\(a->j F.length+1=st.length)
theorem Hist.mono{st:List LM}{F:List Fact}{p e:Nat}{T c:Prop}(h:Hist st F p T)(A:p<=e)(y:c->T):Hist st F e c:=by
 obtain⟨j,g,o,r⟩:=h;exact⟨j,g,fun q a b=>o q (JT A a) b,fun t=>r (y t)⟩
theorem Hist.last{st:List LM}{F:List Fact}{p:Nat}(h:Hist st F p True)(d:p<=F.length):∃ m,st[st.length-1]?=some m/\Z9 m (atF F F.length)/\0<st.length:=by
 obtain⟨j,i,b,c⟩:=h;obtain⟨m,a,g⟩:=b F.length d (JS _);have:=c trivial;have e:j F.length=st.length-1:=by omega
 rw[e] at a;exact⟨m,a,g,by omega⟩
theorem Hist.quiet{st:List LM}{F:List Fact}{p:Nat}{T:Prop}(h:Hist st F p T)(l:p<=F.length)(x:Fact)(o:∀ m,Z9 m (atF F F.length)->Z9 m ((atF F F.length).enter x)):Hist st (F++[x]) p T:=by
 obtain⟨j,i,g,k⟩:=h;refine⟨fun q=>j (min q F.length),fun q r h=>i _ _ (by omega),fun q a b=>?_,fun t=>?_⟩
 .rw[JR,JZ] at b
  by_cases d:q<=F.length
  .obtain⟨m,c,f⟩:=g q a d
   refine⟨m,?_,by rw[Xo d];exact f⟩;show st[j (min q F.length)]?=_;rw[Hc d];exact c
  .have e:q=F.length+1:=by omega
   obtain⟨m,c,f⟩:=g F.length l (JS _);refine⟨m,?_,?_⟩
   .show st[j (min q F.length)]?=_
    rw[DH (by omega)];exact c
   .rw[e,Xi]
    exact o m f
 .rw[JR,JZ]
  show j (min (F.length+1) F.length)+1=_;rw[DH (by omega)];exact k t
theorem Hist.push{st:List LM}{F G:List Fact}{p:Nat}{T:Prop}(o:G.length<=1)(h:p<=F.length->Hist st F p T)(i:p<=(F++G).length)(m:LM)(g:Z9 m (atF (F++G) (F++G).length)):Hist (st++[m]) (F++G) p True:=by
 by_cases f:p<=F.length
 .obtain⟨j,h1,h2,h3⟩:=h f
  refine⟨fun q=>if q<(F++G).length then min (j q) st.length else st.length,fun q r h=>?_,fun q a b=>?_,fun _=>?_⟩
  .have:=h1 q r h
   simp only;split <;> split <;> omega
  .by_cases hq:q<(F++G).length
   .have hqF:q<=F.length:=by rw[JR] at hq;omega
    obtain⟨l,c,k⟩:=h2 q a hqF;have d:=(IA.1 c).1;refine⟨l,?_,by rw[Xo hqF];exact k⟩;simp only;rw[Io hq,Hc (by omega),GI d];exact c
   .have e:q=(F++G).length:=by omega
    refine⟨m,?_,by rw[e];exact g⟩;simp only;rw[Ie hq];simp
  .simp
 .refine⟨fun _=>st.length,fun _ _ _=>JS _,fun q a b=>?_,fun _=>by simp⟩
  have e:q=(F++G).length:=by rw[JR] at b i |-;omega
  exact⟨m,by simp,by rw[e];exact g⟩
theorem Hist.one{F:List Fact}(m:LM)(c:Z9 m (atF F F.length)):Hist [m] F F.length True:=by
 refine⟨fun _=>0,fun _ _ _=>JS _,fun q a b=>?_,fun _=>rfl⟩;have e:q=F.length:=by omega
 rw[e];exact⟨m,rfl,c⟩
theorem Hist.maybe{st:List LM}{F:List Fact}{p:Nat}{T:Prop}(h:Hist st F p T)(m:LM):Hist (st++[m]) F p False:=by
 obtain⟨j,d,e,_⟩:=h;refine⟨j,d,fun q a b=>?_,fun f=>f.elim⟩;obtain⟨i,c,g⟩:=e q a b;exact⟨i,by rw[GI (IA.1 c).1];exact c,g⟩
theorem VE{F a:List Fact}(h:a<+:F){q:Nat}(b:q<=a.length):atF a q=atF F q:=by
 obtain⟨r,rfl⟩:=h;rw[Xo b]
theorem Hist.cut{st:List LM}{F c:List Fact}{p e:Nat}{T:Prop}(h:Hist st F p T)(d:c<+:F)(l:p<=e):Hist st c e False:=by
 obtain⟨j,g,i,_⟩:=h;refine⟨j,g,fun q a b=>?_,fun f=>f.elim⟩;obtain⟨m,k,o⟩:=i q (JT l a) (JT b d.length_le);exact⟨m,k,by rw[VE d b];exact o⟩
theorem Zg.cut{node:Int}{c f:Nat}{F d:List Fact}{p g:Nat}(h:Zg node c f F p)(e:d<+:F)(i:p<=g):Zg node c f d g:=fun q a b=>by
 rw[VE e b];exact h q (JT i a) (JT b e.length_le)
theorem Zg.snoc{node:Int}{c f:Nat}{F:List Fact}{p:Nat}(h:p<=F.length->Zg node c f F p)(x:Fact)(g:Wh node c f ((atF F F.length).enter x)):Zg node c f (F++[x]) p:=fun q a b=>by
 rw[JR,JZ] at b;by_cases d:q<=F.length
 .rw[Xo d]
  exact h (JT a d) q a d
 .have e:q=F.length+1:=by omega
  rw[e,Xi];exact g
theorem Wh.mono{node:Int}{c a g e:Nat}{S:SM}(h:Wh node c g S)(o:c<=a)(r:g<=e)(q:e<=S.CA):Wh node a e S :=
 ⟨h.1,q,JT h.2.2.1 (Nat.mul_le_mul_left 16 o),h.2.2.2.mono (by omega)⟩
theorem Hist.found{st:List LM}{F:List Fact}{p:Nat}{T:Prop}(h:Hist st F p T)(Q:p<=F.length) :
 ∃ i m,st[i]?=some m/\Z9 m (atF F F.length)/\(∀ k f,i<k->st[k]?=some f->¬Z9 f (atF F F.length))/\Hist (st.take i++[m]) F p True/\(T->i+1=st.length):=by
 obtain⟨j,E,I,L⟩:=h;obtain⟨S,B,C⟩:=I F.length Q (JS _)
 -- the greatest index
 have D:∀ d i m,st.length-i<=d->st[i]?=some m->Z9 m (atF F F.length)->j F.length<=i->∃ i m,st[i]?=some m/\Z9 m (atF F F.length)/\j F.length<=i/\∀ k f,i<k->st[k]?=some f->¬Z9 f (atF F F.length):=by
  intro d
  induction d with
  | zero =>
   intro i m M o;have:=(IA.1 o).1;omega
  | succ d R =>
   intro i m M o x J;by_cases s:∃ k f,i<k/\st[k]?=some f/\Z9 f (atF F F.length)
   .obtain⟨k,f,y,c,g⟩:=s
    exact R k f (by have:=(IA.1 c).1;omega) c g (by omega)
   .exact⟨i,m,o,x,J,fun k f y c g=>s ⟨k,f,y,c,g⟩⟩
 obtain⟨i,m,o,x,J,v⟩:=D _ _ S (JS _) B C (JS _);have N:=(IA.1 o).1;have l:∀ k f,k<=i->st[k]?=some f->(st.take i++[m])[k]?=some f:=fun k f y c=>by
  by_cases A:k<i
  .rw[GI (by rw[JU];omega),Hr A]
   exact c
  .have:k=i:=by omega
   subst this;rw[o] at c;obtain rfl:=IL c;rw[Fs (by rw[JU];omega)];have K:k-(st.take k).length=0:=by rw[JU];omega
   rw[K]
   rfl
 refine⟨i,m,o,x,v,⟨fun q=>if q<F.length then min (j q) i else i,fun q r h=>?_,fun q a b=>?_,fun _=>?_⟩,fun t=>?_⟩
 .have:=E q r h
  simp only;split <;> split <;> omega
 .by_cases hq:q<F.length
  .obtain⟨f,c,g⟩:=I q a b
   have O:=E q F.length b;refine⟨f,?_,g⟩;simp only;rw[Io hq,Hc (by omega)];exact l _ f (by omega) c
  .have e:q=F.length:=by omega
   refine⟨m,?_,by rw[e];exact x⟩;simp only;rw[Ie hq];exact l i m (JS _) o
 .simp only[Cp,Hf,JR,JU,JZ]
  omega
 .have:=L t
  omega
def Zer(self:Int)(mo:Nat)(m:LM)(S:SM)(n:Nat):Prop :=
 ∃ K a v,Yb K/\Given K/\XV self mo K/\v.seq=0/\v.node=self/\m.keys=Zf K a [v]/\S.keys=Zf K a [{v with seq:=n}]/\m.hints=S.hints
theorem zY.given{S:SM}(h:zY S):Given S.keys:=fun e a u b=>((h.key e a).2.2 u b).one
theorem WY{W:WM}{N:NM}{m:LM}(d:zY N.S)(b:N.readOnly=W.broken)(e:Z9 m N.S):ZD W N m=(W.most,some m):=by
 obtain⟨a,c⟩:=e;unfold ZD;rw[Io ⟨b,by rw[a],c.symm⟩,a,Uj d.given];simp only[Dk,Hp];rw[<- a]
theorem Py{W:WM}{N:NM}{m:LM}(a:zY N.S)(b:XV W.node W.most N.S.keys)(d:Up W.node m.keys)(c:¬(N.readOnly=W.broken/\Z9 m N.S)):ZD W N m=(W.most,none):=by
 unfold ZD;split
 .rename_i h1
  rw[Px b a.given d (fun e=>c ⟨h1.1,e.symm,h1.2.2.symm⟩)];simp
 .rfl
theorem UJ{W:WM}{N:NM}{m:LM}{n:Nat}(h:Zer W.node W.most m N.S n)(p:W.most<n)(q:n<=16*W.calls)(d:N.readOnly=W.broken) :
 ZD W N m=(n,some {m with keys:=N.S.keys}):=by
 obtain⟨K,a,v,c,e,l,f,o,g,i,j⟩:=h;have k:=OB (mo:=W.most) (top:=16*W.calls) (n:=(n:Int)) a v c e f (by omega) (by omega) (by omega);unfold ZD;have b:(Zf K a [{v with seq:=(n:Int)}]).length=(Zf K a [v]).length:=by
  rw[Zc a _ c,Zc a _ c];simp only[FH,Hf,Zt,JR,JZ]
 rw[g,i,k,Io ⟨d,b,j.symm⟩];simp
structure Cm(W:WM)(t:Nat):Prop where
 BR:∀ m∈W.st,MOk W.node m t
 calls:W.calls<=t
 ww:W.writes<=t
 len:W.st.length<=t+1
 ne:0<W.st.length
 next:W.next<=t
 base:W.base<=100000
 yT:W.bk.vs.length<=4*t
 yJ:W.bk.vm.length<=4*t
 yP:W.bk.ns.length<=4*t
 yO:W.bk.nm.length<=4*t
 yL:W.bk.hs.length<=4*t
 yN:W.bk.hm.length<=4*t
 Bh:-9223372036854775808<=W.Bh/\W.Bh<=9223372036854775807
def WM.BU(W:WM):Int:=if W.room<0 then 1152921504606846976 else W.room
structure NI(W:WM)(N:NM)(M:DM)(F:List Fact)(p t:Nat):Prop where
 kp:Kp N M F p t (N.readOnly=false)
 cm:Cm W t
 room:M.room=W.BU
 Bj:Hist W.st F p True
 AJ:Zg W.node W.calls W.most F p
 ro:N.readOnly=W.broken
 self:W.node=(N.self:Int)
 nd:N.self<4
 most:W.most<=N.given
 given:N.given<=N.S.CA
 yy:N.readOnly=false->N.given<N.S.CA->Leas F p N.S.CA
 every:W.every=(N.every:Int)
 wr:N.readOnly=false->N.every≠0->N.writes=W.writes%N.every
 nw:N.writes<=t
 dead:M.dead=false
def Doubt(W:WM)(st:List LM)(m:LM)(F:List Fact)(p n:Nat):Prop :=
 ∃ a x,F=a++[x]/\(p<=a.length->Hist st a p True)/\Zer W.node W.most m (atF F F.length) n/\W.most<n/\Zg W.node W.calls n F p/\∀ q,p<=q->q<=a.length->XV W.node W.most (atF F q).keys
structure Sh(W:WM)(M:DM)(F:List Fact)(p t:Nat):Prop where
 lg:∃ y,Lg M y p t/\y.F=F
 cm:Cm W t
 room:M.room=W.BU
 all:(Zg W.node W.calls W.most F p/\(Hist W.st F p True\/(W.Bz=true\/M.dead=true)/\Hist W.st F p False))\/(W.Bz=true\/M.dead=true)/\∃ st m n,W.st=st++[m]/\Doubt W st m F p n
theorem Xp(l:List Ver)(n:Int)(h:∀ u∈l,u.Nat):isN (grV l n):=by
 unfold grV;have c:∀ (l:List Ver) (a:Int),isN a->(∀ u∈l,u.Nat)->isN (l.foldl (fun m u=>if u.node=n then max m u.seq else m) a):=by
  intro l
  induction l with
  | nil=>intro a b _;exact b
  | cons x l f =>
   intro a b d;rw[Hd];refine f _ ?_ (fun u e=>d u (JV _ e));split
   .have:=(d x (JX ..)).seq
    unfold isN at *;omega
   .exact b
 exact c l 0 ⟨by decide,by decide⟩ h
theorem TK{l:List Ver}{v:Ver}(h:l.length<=4)(c:∀ u∈l,VOk u)(d:v.gone=false->VOk v)(f:v.gone=false->(zG l v).length<4):(Y0 l v).length<=4/\∀ u∈Y0 l v,VOk u:=by
 have g:=R9 l v;have b:∀ u∈zG l v,u∈l:=fun u a=>(Fk.1 a).1;unfold Y0;split
 .exact⟨by omega,fun u a=>c u (b u a)⟩
 .rename_i hg
  have e:=f (by simpa using hg);refine⟨by rw[U5];omega,?_⟩;intro u a;unfold YX at a;simp only[JW,JY] at a;rcases a with(a|rfl)|a
  .exact c u (b u (IJ a))
  .exact d (by simpa using hg)
  .exact c u (b u (Ir a))
theorem Ru{l:List Ver}{v:Ver}(a:l.any v.Br=false):∀ u∈l,u.dot≠v.dot:=by
 intro u c e;have:l.any v.Br=true:=by
  rw[EI];refine⟨u,c,?_⟩;unfold Ver.Br;unfold Ver.dot at e;simp only[Ga] at e;simp[e.1,e.2]
 rw[a] at this;cases this
theorem KC{l:List Ver}{v:Ver}(d:Ys l)(f:l.any v.Br=false):Ys (Y0 l v):=by
 have a:=Ra d v;have c:∀ u∈zG l v,u∈l:=fun u h=>(Fk.1 h).1;unfold Y0;split
 .exact a
 .unfold Ys at a |-
  have:=Asc.ins ZZ (b:=v.dot) a (fun g e=>by
   rw[Iy] at e;exact Ru f _ (c _ (Ia _)) e)
  unfold YX
  simpa [List.map_take,List.map_drop] using this
theorem TL{self:Nat}{v:Ver}(h:foreign self v=true)(j:v.value.size<=128)(f:v.gone=false):VOk v:=by
 have g:=U9 h
 suffices i:v.Nat/\1<=v.seq from⟨g,i.1,j,i.2,f⟩
 unfold foreign Ver.Ag at h;simp only[Dx,DW,Dy,Hq,Z8,Im] at h;obtain⟨⟨a,b,c,d⟩,_,_,e⟩:=h;unfold Zp at g;exact⟨⟨⟨g.1,by omega⟩,⟨by omega,by omega⟩,⟨a.1,by omega⟩,⟨b.1,by omega⟩,⟨c.1,by omega⟩,⟨d.1,by omega⟩,by omega⟩,by omega⟩
theorem TM{a:ByteArray}{l:List Ver}(b:zJ a=true)(h:∀ u∈l,VOk u)(d:l.length<=5):(zj (.inr (.inl (a,l)))).size<=1900:=by
 show(zp (Xu a l)).size<=1900;rw[YN];unfold zJ at b;simp only[Im] at b;unfold Xu;have e:=zC (n:=2) (by decide);have f:=WW a (by omega);have g:=Ud l h d;have c:=XL (zk 2++(Z1 a.data.toList++ZA l)) (by simp only[JR];omega);simp only[JR] at c;omega
theorem Jl.size{J:JM}{M:DM}{y:Lay}{p t:Nat}(h:Jl J M y)(a:Lg M y p t):J.size<=2000*(t+100)/\J.last<=2*t:=by
 have c:=h.1;refine⟨?_,a.AL c⟩;rcases Hv y.G with e|⟨r,s,e⟩
 .rw[c,e];exact Iq _
 .rw[Hw] at e
  have o:s∈y.G:=by rw[e];simp
  have:=a.bd.file (a.BV s o);rw[a.bytes s o] at this;rw[c,e,JM.Bo];exact this
theorem Jf{J:JM}{M:DM}{y:Lay}{p t:Nat}(h:Lg M y p t)(b:Jl J M y)(s:t+2<=990000)(H n:Nat)(r:n<=2000)(l:∀ g∈M.ids,g<H):YW J M H n where
 bytes:=by omega
 size:=by have:=(b.size h).1;omega
 last:=by have:=(b.size h).2;omega
 CD:=by
  obtain⟨e,k,c,a,_⟩:=XF h b.1 (by omega);rw[c];have:=a.bd.CD;simp only;omega
 dir:=by
  obtain⟨e,k,c,a,_⟩:=XF h b.1 (by omega);rw[c];have:=a.bd.dir;simp only;omega
 room:=fun f q=>by
  obtain⟨e,o,k,u,c,a,_,_,_,_,_,_,_,_,_,j,i⟩:=TE h b (by omega) n f (fun m=>by have:=l f m;omega);rw[c];refine⟨a.bd.part,?_,fun g d=>by have:=a.bd.file d;simp only;omega⟩;cases e with
  | none =>
   have:=((i rfl).1.size a).1;simp only;omega
  | some x =>
   have:=(b.size h).1;rw[j (by simp)];simp only;omega
theorem Uq{N:NM}{M:DM}{F:List Fact}{p t:Nat}(h:Kp N M F p t True)(f:t+2<=990000)(H:Nat)(d:∀ g∈M.ids,g<H)(x:Fact)(i:FOk x)(a:(zj x).size<=2000)(j:N.S.keys.length<=100000000)(k:N.writes<=100000000):Fit N M H x:=by
 have e:=h.BF F.length;rw[<- h.held] at e;obtain⟨⟨l,b,_,c⟩,_⟩:=h;exact⟨i,Jf b (c trivial).1 f H _ a d,by omega,by omega,by omega⟩
theorem Pz{N:NM}{M:DM}{F:List Fact}{p t:Nat}(h:Kp N M F p t True)(Q:t+10<=990000)(m:N.given<100000000000)(k:N.given<=N.S.CA)(E:N.given<N.S.CA->Leas F p N.S.CA)(H:Nat)(r:∀ g∈M.ids,g<H)(b:ByteArray)(x:NM->Nat->List Ver)(l:List Ver)
 (J:∀ j:NM,j.S.keys=N.S.keys->j.self=N.self->x j (N.given+1)=l)(K:FOk (.inr (.inl (b,l))))(d:(zj (.inr (.inl (b,l)))).size<=2000)(u:N.S.keys.length<=100000000)(v:N.writes<=100000000):Vu N M H b x where
 log:=(Uq h (by omega) H r (.inl (N.given+16)) (by show N.given+16<_;omega) (by have:=TF (n:=N.given+16) (by omega);omega) u v).log
 keys:=by omega
 hints:=by have s:=h.BF F.length;rw[<- h.held] at s;omega
 given:=by omega
 fact:=fun f s o B _ a=>by
  obtain⟨O,q,i,L,A,R,C,y,I,D,_⟩:=Lz h (by omega) m k E f (fun G=>by have:=r f G;omega);rw[C] at o a |-;simp only at o a |-;subst o;simp only[Hp] at a y |-;have c:i.keys=N.S.keys:=by
   rcases D with⟨_,e⟩|⟨_,e,_⟩
   .rw[e]
   .rw[e]
  rw[J {N with J:=q,S:=i,given:=N.given+1} c rfl];exact Uq (N:={N with J:=q,S:=i,given:=N.given+1}) (y.kp.mono (fun _=>rfl) (JS _)) (by omega) B a _ K d (by show i.keys.length<=_;rw[c];exact u) v
theorem MOk.more{node:Int}{m:LM}{t u:Nat}(h:MOk node m t)(a:t<=u):MOk node m u:=⟨h.Bp,JT h.keys a,h.lens,h.hints,h.zero,h.node⟩
theorem Cm.more{W:WM}{t u:Nat}(h:Cm W t)(a:t<=u):Cm W u :=
 ⟨fun m b=>(h.BR m b).more a,JT h.calls a,JT h.ww a,by have:=h.len;omega,h.ne,JT h.next a,h.base,by have:=h.yT;omega,by have:=h.yJ;omega,by have:=h.yP;omega,by have:=h.yO;omega,by have:=h.yL;omega,by have:=h.yN;omega,h.Bh⟩
theorem Cm.BT{W W':WM}{t:Nat}(h:Cm W t)(k:W'.node=W.node)(j:∀ m∈W'.st,MOk W.node m t)(i:W'.st.length<=t+1)(c:0<W'.st.length)(l:W'.writes<=t)(g:W'.calls=W.calls)(d:W'.next=W.next)(e:W'.base=W.base)(a:W'.bk=W.bk)(f:W'.Bh=W.Bh:=by rfl):Cm W' t :=
 ⟨fun m b=>by rw[k];exact j m b,by rw[g];exact h.calls,l,i,c,by rw[d];exact h.next,by rw[e];exact h.base,by rw[a];exact h.yT,by rw[a];exact h.yJ,by rw[a];exact h.yP,by rw[a];exact h.yO,by rw[a];exact h.yL,by rw[a];exact h.yN,by rw[f];exact h.Bh⟩
structure Aft(W:WM)(mx:LM)(M:DM)(e:Option Int)(N':NM)(M':DM)(t':Nat):Prop where
 body:∃ F' p',Kp N' M' F' p' t' (e=none)/\(e=none->N'.given<N'.S.CA->Leas F' p' N'.S.CA)/\(e=none->({W with writes:=W.writes+1}:WM).due=true->p'=F'.length) /\
  ((Hist (W.st++[mx]) F' p' True/\Zg W.node W.calls W.most F' p')\/(e≠none/\(Hist W.st F' p' True/\Zg W.node W.calls W.most F' p'\/∃ n,Doubt W W.st mx F' p' n/\n<=N'.given)))
 ro:N'.readOnly=e.isSome
 br:W.broken=false
 Bv:Ans M M' e
 grow:e=none->M.calls<M'.calls
 full:e=some 10->M.room<M.Bi+2000
 room:M'.room=W.BU
 cm:Cm W t'
 ww:W.writes+1<=t'
 len:W.st.length+1<=t'+1
 BR:MOk W.node mx t'
 self:W.node=(N'.self:Int)
 nd:N'.self<4
 most:W.most<=N'.given
 given:N'.given<=N'.S.CA
 every:W.every=(N'.every:Int)
 wr:e=none->N'.every≠0->N'.writes=(W.writes+1)%N'.every
 nw:N'.writes<=t'
 dead:M.dead=false
theorem Aft.Bu{W:WM}{G:LM}{M:DM}{u:NM}{t:DM}{r:Nat}(h:Aft W G M none u t r):∃ s I,NI (W.Bu G) u t s I r:=by
 obtain⟨s,I,J,L,O,N⟩:=h.body;have A:=N.resolve_right (fun x=>x.1 rfl);have p:=J.le;have j:t.dead=false:=by
  rcases h.Bv.1 with⟨_,_,_,e⟩|⟨_,⟨e,_⟩|⟨e,_⟩⟩
  .rw[e];exact h.dead
  .cases e
  .cases e
 have E:u.readOnly=false:=h.ro;obtain⟨b,o,hrel,K⟩:=A.1.last p;have B:b=G:=by simp at o;exact o.symm
 subst B;have i:∀ m∈W.st++[b],MOk W.node m r:=fun m d=>by
  rcases JW.1 d with d|d
  .exact h.cm.BR m d
  .rw[JY] at d;subst d;exact h.BR
 refine⟨s,I,?_⟩;have a:(W.Bu b).node=W.node:=by unfold WM.Bu;simp only;split <;> rfl
 have c:(W.Bu b).calls=W.calls:=by unfold WM.Bu;simp only;split <;> rfl
 have f:(W.Bu b).most=W.most:=by unfold WM.Bu;simp only;split <;> rfl
 have v:(W.Bu b).broken=W.broken:=by unfold WM.Bu;simp only;split <;> rfl
 have y:(W.Bu b).every=W.every:=by unfold WM.Bu;simp only;split <;> rfl
 have q:(W.Bu b).writes=W.writes+1:=by unfold WM.Bu;simp only;split <;> rfl
 have D:(W.Bu b).BU=W.BU:=by unfold WM.Bu;simp only;split <;> rfl
 have g:((W.Bu b).st=W.st++[b])\/(({W with writes:=W.writes+1}:WM).due=true/\(W.Bu b).st=[b]):=by
  unfold WM.Bu;simp only;split
  .rename_i k
   refine .inr ⟨k,?_⟩;simp
  .exact .inl rfl
 have l:∀ m∈(W.Bu b).st,MOk W.node m r:=fun m d=>by
  rcases g with e|⟨_,e⟩
  .rw[e] at d;exact i m d
  .rw[e] at d;exact i m (GO _ d)
 exact {
  kp:=J.mono (fun _=>rfl) (JS _)
  cm:=h.cm.BT a l (by rcases g with e|⟨_,e⟩ <;> rw[e] <;> simp <;> (have:=h.len;omega)) (by rcases g with e|⟨_,e⟩ <;> rw[e] <;> simp) (by rw[q];exact h.ww) c (by unfold WM.Bu;simp only;split <;> rfl) (by unfold WM.Bu;simp only;split <;> rfl) (by unfold WM.Bu;simp only;split <;> rfl) (by unfold WM.Bu;simp only;split <;> rfl)
  room:=by rw[D];exact h.room
  Bj:=by
   rcases g with e|⟨k,e⟩
   .rw[e];exact A.1
   .rw[e,O rfl k];exact Hist.one b hrel
  AJ:=by rw[a,c,f];exact A.2
  ro:=by rw[v,h.br];exact E
  self:=by rw[a];exact h.self
  nd:=h.nd
  most:=by rw[f];exact h.most
  given:=h.given
  yy:=fun _=>L rfl
  every:=by rw[y];exact h.every
  wr:=fun _ C=>by rw[q];exact h.wr rfl C
  nw:=h.nw
  dead:=j}
theorem Aft.gone{W:WM}{a:LM}{M:DM}{x:Int}{t:NM}{g:DM}{r:Nat}(h:Aft W a M (some x) t g r)(s:g.dead=true):∃ f q,Sh {W with broken:=true,st:=W.st++[a]} g f q r:=by
 obtain⟨f,q,⟨⟨C,B,A,_⟩,_⟩,_,_,y⟩:=h.body;have e:∀ m∈W.st++[a],MOk W.node m r:=fun m c=>by
  rcases JW.1 c with c|c
  .exact h.cm.BR m c
  .rw[JY] at c;subst c;exact h.BR
 refine⟨f,q,⟨C,B,A⟩,h.cm.BT rfl e (by have:=h.len;show(W.st++[a]).length<=_;rw[JR];exact this) (by show 0<(W.st++[a]).length;simp) h.cm.ww rfl rfl rfl rfl,h.room,?_⟩;rcases y with⟨d,o⟩|⟨_,⟨d,o⟩|⟨n,d,_⟩⟩
 .exact .inl ⟨o,.inl d⟩
 .exact .inl ⟨o,.inr ⟨.inr s,d.maybe a⟩⟩
 .exact .inr ⟨.inr s,W.st,a,n,rfl,d⟩
theorem Aft.told{W:WM}{l:LM}{M:DM}{x:Int}{d:NM}{s:DM}{k:Nat}(h:Aft W l M (some x) d s k)(hd:s.dead=false) :
 (∀ i,(ZD {W with broken:=true} d l).2=some i->∃ f j,NI {W with broken:=true,most:=(ZD {W with broken:=true} d l).1,st:=W.st++[i]} d s f j k) /\
   ((ZD {W with broken:=true} d l).2=none->(ZD {W with broken:=true} d l).1=W.most/\∀ n,W.st[W.st.length-1]?=some n->ZD {W with broken:=true} d n=(W.most,some n)/\∃ f j,NI {W with broken:=true} d s f j k):=by
 obtain⟨f,j,Q,_,_,hc⟩:=h.body;have c:=Q.le;have g:d.readOnly=true:=h.ro;have b:d.S=atF f f.length:=Q.held;have R:Kp d s f j k (d.readOnly=false):=Q.mono (fun e=>by rw[g] at e;cases e) (JS _);have B:∀ i,MOk W.node i k->∀ m∈W.st++[i],MOk W.node m k:=fun i o m u=>by
  rcases JW.1 u with u|u
  .exact h.cm.BR m u
  .rw[JY] at u;subst u;exact o
 have D:∀ (y:Nat) (st:List LM),(∀ m∈st,MOk W.node m k)->st.length<=k+1->0<st.length->Hist st f j True->Zg W.node W.calls y f j->y<=d.given->NI {W with broken:=true,most:=y,st:=st} d s f j k:=fun y st p r h3 hh E T =>
  ⟨R,h.cm.BT rfl p r h3 (by have:=h.ww;show W.writes<=k;omega) rfl rfl rfl rfl,h.room,hh,E,g,h.self,h.nd,T,h.given,(fun e=>by rw[g] at e;cases e),h.every,(fun e=>by rw[g] at e;cases e),h.nw,hd⟩
 have mk:=fun(y:Nat) (i:LM) (o:MOk W.node i k)=>D y (W.st++[i]) (B i o) (by have:=h.len;rw[JR];exact this) (by simp);rcases hc with⟨p,r⟩|⟨_,⟨p,r⟩|⟨n,p,I⟩⟩
 .-- it took effect
  obtain⟨ml,q,hrel,_⟩:=p.last c;have V:ml=l:=by simp at q;exact q.symm
  subst V;rw[<- b] at hrel;have a:=r f.length c (JS _);rw[<- b] at a;rw[WY (W:={W with broken:=true}) a.1 g hrel];exact⟨fun i e=>⟨f,j,by obtain rfl:=IL e;exact mk W.most ml h.BR p r h.most⟩,fun e=>by cases e⟩
 .-- it did not
  obtain⟨ml,q,hrel,_⟩:=p.last c;have a:=r f.length c (JS _);rw[<- b] at a hrel;have C:∀ n,W.st[W.st.length-1]?=some n->ZD {W with broken:=true} d n=(W.most,some n)/\∃ f j,NI {W with broken:=true} d s f j k:=fun n I=>by
   rw[q] at I;obtain rfl:=IL I;exact⟨WY (W:={W with broken:=true}) a.1 g hrel,f,j,D W.most W.st h.cm.BR (by have:=h.len;omega) h.cm.ne p r h.most⟩
  by_cases X:Z9 l d.S
  .rw[WY (W:={W with broken:=true}) a.1 g X]
   refine⟨fun i e=>⟨f,j,?_⟩,fun e=>by cases e⟩;obtain rfl:=IL e;have:=Hist.push (G:=[]) (Iq _) (fun _=>p) (by rw[Iz];exact c) l (by rw[Iz,<- b];exact X);rw[Iz] at this;exact mk W.most l h.BR this r h.most
  .rw[Py (W:={W with broken:=true}) a.1 a.2.2.2 h.BR.zero (fun e=>X e.2)]
   exact⟨fun i e=>(by cases e),fun _=>⟨rfl,C⟩⟩
 .-- its number was not told
  obtain⟨F0,x0,L,N,J,S,E,_⟩:=p;have a:=E f.length c (JS _);rw[<- b] at a J;rw[UJ (W:={W with broken:=true}) J S (by have:=a.2.1;have:=a.2.2.1;show n<=16*W.calls;omega) g];refine⟨fun i e=>⟨f,j,?_⟩,fun e=>by cases e⟩;obtain rfl:=IL e;have A:d.S.keys.length=l.keys.length:=by
   obtain⟨K,t,v,Y,k2,k3,k4,k5,k6,k7,k8⟩:=J;rw[k6,k7,Zc t _ Y,Zc t _ Y];simp only[FH,Hf,Zt,JR,JZ]
  have O:l.hints=d.S.hints:=by obtain⟨K,t,v,Y,k2,k3,k4,k5,k6,k7,k8⟩:=J;exact k8
  have o:MOk W.node {l with keys:=d.S.keys} k:=⟨a.1.Bp,by show d.S.keys.length<=k;rw[A];exact h.BR.keys,fun e he=>by have:=(a.1.key e he).2.1;omega,h.BR.hints,a.1.given.zero,h.BR.node⟩;have:=Hist.push (F:=F0) (G:=[x0]) (by simp) (fun hp=>N hp) (by rw[<- L];exact c) {l with keys:=d.S.keys} (by rw[<- L,<- b];exact⟨rfl,O⟩);rw[<- L] at this;exact mk n _ o this E I
theorem OC{self:Nat}{a:ByteArray}{v:Ver}(h:Yt self a v=0):foreign self v=true:=by
 unfold Yt at h;split at h
 .cases h
 .split at h
  .cases h
  .split at h
   .cases h
   .rename_i hf
    simpa using hf
def Vm(N:NM)(a:ByteArray)(v:Ver):Option Int :=
 if Yt N.self a v≠0 then some (Yt N.self a v) else if N.readOnly=true then some 8 else if WE (zr N.S.keys a) v=0 then some 0 else if WE (zr N.S.keys a) v=1 then some 6 else none
theorem TN(N:NM)(M:DM)(a:ByteArray)(v:Ver)(f:Nat):N.accept M a v f=match Vm N a v with
 | some c=>(c,N,M)
 | none=>N.asked M (.inr (.inl (a,Y0 (zr N.S.keys a) v))) f:=by
 unfold Vm NM.accept Yt WE;cases hk:zJ a
 .simp
 .by_cases hv:128<v.value.size
  .simp[hv]
  .cases hf:foreign N.self v
   .simp[hv]
   .cases hr:N.readOnly
    .simp only[hv]
     by_cases b:(zr N.S.keys a).any v.Br=true
     .simp[b]
     .simp only[b]
      by_cases d:v.gone=false/\4<=(zG (zr N.S.keys a) v).length
      .simp[d]
      .simp only[d,Hf]
       by_cases e:v.gone=true/\(zG (zr N.S.keys a) v).length=(zr N.S.keys a).length
       .simp[e]
       .simp[e]
    .simp[hv]
def Wv(N:NM)(b:Int)(a:ByteArray):Option Int :=
 if Vf N.self b a≠0 then some (Vf N.self b a) else if N.readOnly=true then some 8 else if 32<=N.S.hints.length then some 6 else none
theorem PA(N:NM)(M:DM)(b:Int)(a:ByteArray)(f:Nat):N.hint M b a f=match Wv N b a with
 | some c=>(c,N,M)
 | none=>N.asked M (.inr (.inr (.inl (b.toNat,a)))) f:=by
 unfold Wv NM.hint Vf;by_cases d:(zR b&&decide (b≠N.self))=false
 .simp only[d];simp
 .rw[Ie d,Ie d]
  by_cases e:a.size=0\/64<a.size
  .simp only[e];simp
  .rw[Ie e,Ie e]
   cases hr:N.readOnly
   .by_cases h3:32<=N.S.hints.length
    .simp[h3]
    .simp[h3]
   .simp
def Vn(N:NM):Option Int:=if N.readOnly=true then some 8 else if N.S.hints.length=0 then some 7 else none
theorem N8(N:NM)(M:DM)(f:Nat):N.Ar M f=match Vn N with
 | some c=>(c,N,M)
 | none=>N.asked M (.inr (.inr (.inr ()))) f:=by
 unfold Vn NM.Ar;cases hr:N.readOnly
 .by_cases h3:N.S.hints.length=0
  .simp[h3]
  .simp[h3]
 .simp
theorem NI.now{W:WM}{N:NM}{M:DM}{F:List Fact}{p t:Nat}(h:NI W N M F p t):∃ m,W.st[W.st.length-1]?=some m/\Z9 m N.S/\MOk W.node m t:=by
 obtain⟨m,a,b,_⟩:=h.Bj.last h.kp.le;rw[<- h.kp.held] at b;exact⟨m,a,b,h.cm.BR m (GA a)⟩
theorem NI.st{W:WM}{N:NM}{M:DM}{F:List Fact}{p t:Nat}(h:NI W N M F p t):Wh W.node W.calls W.most N.S:=by
 have:=h.AJ F.length h.kp.le (JS _)
 rwa [<- h.kp.held] at this
theorem NI.nk{W:WM}{N:NM}{M:DM}{F:List Fact}{p t:Nat}(h:NI W N M F p t):N.S.keys.length<=t:=by
 obtain⟨m,_,b,a⟩:=h.now;rw[<- b.1];exact a.keys
theorem Sn(G:List Fact)(x:Fact):atF (G++[x]) (G++[x]).length=(atF G G.length).enter x:=by
 rw[JR,JZ,Xi]
theorem PB{w k:Nat}(c:k≠0):(w+1)%k=if w%k+1<k then w%k+1 else 0:=by
 have d:=EG w (Nat.pos_of_ne_zero c);split
 .rename_i hlt
  rw[<- Nat.mod_add_mod,DC hlt]
 .rw[<- Nat.mod_add_mod,show w%k+1=k by omega,Nat.mod_self]
theorem NI.due{W:WM}{N:NM}{M:DM}{F:List Fact}{p t:Nat}(h:NI W N M F p t)(e:N.readOnly=false) :
 (({W with writes:=W.writes+1}:WM).due=true->N.due=true)/\(N.every≠0->(if N.due=true then 0 else N.writes+1)=(W.writes+1)%N.every):=by
 have i:=h.every;have f:=h.wr e;unfold WM.due NM.due;simp only[Hq,Im,Dh,Bool.or_eq_false_iff,Ht];rw[i]
 constructor
 .rintro⟨h1,h2⟩
  have d:N.every≠0:=by omega
  have g:(W.writes+1)%N.every=0:=by
   have:=Int.tmod_eq_emod_of_nonneg (a:=((W.writes+1:Nat):Int)) (b:=(N.every:Int)) (by omega);rw[this] at h2
   exact_mod_cast h2
  refine⟨d,fun c=>?_⟩;rw[f d] at c;rw[PB d,Io c] at g;omega
 .intro d
  rw[PB d,f d];by_cases c:W.writes%N.every+1<N.every
  .rw[Io c,Ie (fun x=>x.2 c)]
  .rw[Ie c,Io ⟨d,c⟩]
theorem NI.CZ{W:WM}{N:NM}{M:DM}{F A:List Fact}{p t:Nat}(h:NI W N M F p t)(e:A=[]\/A=[.inl (N.given+16)]/\¬N.given<N.S.CA) :
 Hist W.st (F++A) p True/\Zg W.node (W.calls+1) W.most (F++A) p/\(atF (F++A) (F++A).length).keys=N.S.keys/\(atF (F++A) (F++A).length).hints=N.S.hints:=by
 have d:=h.st;have c:Zg W.node (W.calls+1) W.most F p:=fun q a b=>(h.AJ q a b).mono (Gg _) (JS _) (h.AJ q a b).2.1;rcases e with rfl|⟨rfl,f⟩
 .rw[Iz,<- h.kp.held]
  exact⟨h.Bj,c,rfl,rfl⟩
 .rw[JR,JZ,Xi,<- h.kp.held]
  refine⟨h.Bj.quiet h.kp.le _ (fun m g=>g),Zg.snoc (fun _=>c) _ ?_,rfl,rfl⟩;rw[<- h.kp.held];have i:=h.most;have j:=h.given;have k:=d.2.2.1;exact⟨d.1.CA _,by show W.most<=N.given+16;omega,by show N.given+16<=16*(W.calls+1);omega,d.2.2.2⟩
theorem OD{self c:Int}{S:SM}(h:XV self c S.keys)(b:ByteArray)(l:List Ver)(f:∀ u∈l,u.node=self->u.seq<=c):XV self c (S.holds b l).keys:=by
 unfold SM.holds;simp only;split
 .exact fun e a=>h e (WI e a)
 .exact fun e a=>(WH e a).elim (h e) (fun d=>by subst d;exact f)
theorem Wh.holds{node:Int}{a f c:Nat}{S:SM}(h:Wh node a f S)(b:ByteArray)(j:zJ b=true)(l:List Ver)(i:Ys l)(k:l.length<=4)(p:∀ u∈l,VOk u)(o:f<=c)(e:c<=S.CA)(d:∀ u∈l,u.node=node->u.seq<=c):Wh node a c (S.holds b l) :=
 ⟨h.1.holds b j l i k p,by rw[Yi];exact e,by rw[Yi];exact h.2.2.1,OD (h.2.2.2.mono (by omega)) b l d⟩
theorem NI.replace{W:WM}{N:NM}{M:DM}{F:List Fact}{p t:Nat}(h:NI W N M F p t)(ht:t+20<=990000)(D:N.readOnly=false)(a:ByteArray)(j:zJ a=true)(vs:NM->Nat->List Ver)(l:List Ver)(f g:Nat)(hf:f∉M.ids)(hg:g∉M.ids)(ha:Apart2 N M f g)
 (b6:∀ N1:NM,N1.S.keys=N.S.keys->N1.self=N.self->vs N1 (N.given+1)=l)(hv:∀ u∈l,VOk u)(a0:∀ u∈l,u.seq=((N.given+1:Nat):Int))(K m0:LM)(c2:MOk W.node K (t+10))(c1:MOk W.node m0 (t+10))(hrel:K.keys=Zf N.S.keys a l/\K.hints=N.S.hints)
 (s:(l=[]/\m0=K)\/(∃ v,l=[{v with seq:=((N.given+1:Nat):Int)}]/\v.seq=0/\v.node=W.node/\m0.keys=Zf N.S.keys a [v]/\m0.hints=N.S.hints)) :
 ∃ e N' S,N.replace M a vs f g=((if e=none then N.given+1 else 0),Zd e,N',S)/\(∀ k∈S.ids,(k=f\/k=g)\/k∈M.ids)/\(e=none\/e=some 9\/e=some 10) /\
  Aft {W with calls:=W.calls+1,most:=if e=none then N.given+1 else W.most} (if e=none then K else m0) M e N' S (t+10):=by
 have I:=h.st;have a8:N.given<100000000000:=by have:=h.given;have:=I.2.2.1;have:=h.cm.calls;omega
 have G:l.length<=4/\Ys l:=by
  rcases s with⟨e,_⟩|⟨v,e,_⟩
  .rw[e];exact⟨Iq _,by unfold Ys Asc;simp⟩
  .rw[e];exact⟨by simp,by unfold Ys Asc;simp⟩
 obtain⟨e,J',S',gv,wr,S,A,B,p',er,w,O,hA,hB,J,c3,b7,b8,b9,a7,L⟩:=Rq (h.kp.mono (fun _=>D) (JS _)) (by omega) a8 h.given (h.yy D) D a vs l f g hf hg ha b6 (XD j hv (by omega)) (TM j hv (by omega));obtain⟨a1,T,a3,a4⟩:=h.CZ hA;refine⟨e,_,S,er,w.ids,?_,?_⟩
 .rcases w.Bv.1 with⟨o,_⟩|⟨_,⟨o,_⟩|⟨o,_⟩⟩
  .exact .inl o
  .exact .inr (.inl o)
  .exact .inr (.inr o)
 have E:=w.kp;have y:S'=atF (F++A++B) (F++A++B).length:=E.held;have hd:=h.due D;have b3:=h.most;exact {
  body:=by
   refine⟨F++A++B,p',E,fun o c0=>?_,fun o a6=>(J o).2 (hd.1 a6),?_⟩
   .rcases hB with⟨_,d⟩|⟨_,_,_,hL⟩
    .exact absurd o d
    .exact hL
   .rcases hB with⟨rfl,d⟩|⟨rfl,X,hn1,hL⟩
    .rw[Iz] at E y |-
     refine .inr ⟨d,.inl ⟨a1.mono O id,?_⟩⟩;rw[Ie d];exact fun q b c=>T q (JT O b) c
    .have hF1:Wh W.node (W.calls+1) W.most (atF (F++A) (F++A).length):=T _ (by have:=h.kp.le;rw[JR];omega) (JS _)
     have Y:=E.le;have a5:(atF (F++A) (F++A).length).CA=S'.CA:=by
      rw[y,Sn];show _=(SM.holds _ _ _).CA;rw[Yi]
     have i:Z9 K (atF (F++A++[.inr (.inl (a,l))]) (F++A++[(.inr (.inl (a,l)):Fact)]).length):=by
      rw[Sn];refine⟨?_,?_⟩
      .rw[hrel.1,<- a3,Zc a _ hF1.1.Bp]
       rfl
      .show _=(SM.holds _ _ _).hints
       rw[X3,a4];exact hrel.2
     have V:Wh W.node (W.calls+1) (N.given+1) ((atF (F++A) (F++A).length).enter (.inr (.inl (a,l)))):=hF1.holds a j l G.2 G.1 hv (by omega) (by rw[a5];exact hn1) (fun u hu _=>by rw[a0 u hu];exact Gt _);have r:Zg W.node (W.calls+1) (N.given+1) (F++A++[.inr (.inl (a,l))]) p':=Zg.snoc (fun _ q b c=>by
      have hq:=T q (JT O b) c;refine hq.mono (JS _) (by omega) ?_;have:=hL q b (by rw[JR];omega);rw[Xo c] at this;omega) _ V
     have C:Hist (W.st++[K]) (F++A++[.inr (.inl (a,l))]) p' True:=Hist.push (by simp) (fun _=>a1.mono O id) Y K i;cases e with
     | none=>exact .inl ⟨C,r⟩
     | some x =>
      simp only[reduceCtorEq,Hf];rcases s with⟨b1,rfl⟩|⟨v,b2,b4,b5,b0,a9⟩
      .refine .inl ⟨C,Zg.snoc (fun _ q b c=>T q (JT O b) c) _ (hF1.holds a j l G.2 G.1 hv (JS _) hF1.2.1 (fun u hu _=>by rw[b1] at hu;cases hu))⟩
      .refine .inr ⟨by simp,.inr ⟨N.given+1,⟨F++A,.inr (.inl (a,l)),rfl,fun _=>a1.mono O id,⟨N.S.keys,a,v,I.1.Bp,I.1.given,I.2.2.2,b4,b5,b0,?_,?_⟩,by show W.most<N.given+1;omega,r,fun q b c=>?_⟩,by show N.given+1<=gv;omega⟩⟩
       .rw[<- i.1,hrel.1,b2]
       .rw[<- i.2,a9,hrel.2]
       .rw[Xo c]
        exact(T q (JT O b) c).2.2.2
  ro:=rfl
  br:=by have:=h.ro;show W.broken=false;rw[<- this,D]
  Bv:=w.Bv
  grow:=L
  full:=w.full
  room:=by rw[w.room];exact h.room
  cm:=⟨fun m hm=>(h.cm.BR m hm).more (by omega),by have:=h.cm.calls;show W.calls+1<=_;omega,by have:=h.cm.ww;show W.writes<=_;omega,by have:=h.cm.len;show W.st.length<=_;omega,h.cm.ne,by have:=h.cm.next;show W.next<=_;omega,h.cm.base,by have:=h.cm.yT;show W.bk.vs.length<=_;omega,by have:=h.cm.yJ;show W.bk.vm.length<=_;omega,by have:=h.cm.yP;show W.bk.ns.length<=_;omega,by have:=h.cm.yO;show W.bk.nm.length<=_;omega,by have:=h.cm.yL;show W.bk.hs.length<=_;omega,by have:=h.cm.yN;show W.bk.hm.length<=_;omega,h.cm.Bh⟩
  ww:=by have:=h.cm.ww;show W.writes+1<=_;omega
  len:=by have:=h.cm.len;show W.st.length+1<=_;omega
  BR:=by split <;> assumption
  self:=h.self
  nd:=h.nd
  most:=by
   show(if e=none then N.given+1 else W.most)<=gv;split
   .rename_i o
    rcases hB with⟨_,d⟩|⟨_,X,_⟩
    .exact absurd o d
    .omega
   .omega
  given:=a7
  every:=h.every
  wr:=fun o d=>by
   show wr=_;rw[(J o).1];exact hd.2 d
  nw:=by have:=h.nw;show wr<=_;omega
  dead:=h.dead}
theorem NI.asked{W:WM}{N:NM}{M:DM}{F:List Fact}{p t:Nat}(h:NI W N M F p t)(ht:t+20<=990000)(g:N.readOnly=false)(x:Fact)(Y:ZO x)(K:(zj x).size<=2000)(v:(N.S.enter x).hints.length<=32)(f:Nat)(V:f∉M.ids)(y:LM)(I:MOk W.node y (t+10))(hrel:Z9 y (N.S.enter x))(J:Wh W.node W.calls W.most (N.S.enter x))(r:(N.S.enter x).CA=N.S.CA) :
 ∃ e L l,N.asked M x f=(Zd e,L,l)/\(∀ k∈l.ids,k=f\/k∈M.ids)/\(e=none\/e=some 9\/e=some 10)/\Aft W y M e L l (t+10):=by
 obtain⟨e,J',A,wr,l,B,p',T,w,s,C,i,X,j⟩:=Jb (h.kp.mono (fun _=>g) (JS _)) (by omega) g x Y K v f V;refine⟨e,_,l,T,w.ids,?_,?_⟩
 .rcases w.Bv.1 with⟨c,_⟩|⟨_,⟨c,_⟩|⟨c,_⟩⟩
  .exact .inl c
  .exact .inr (.inl c)
  .exact .inr (.inr c)
 have o:=w.kp.mono id (show t+5<=t+10 by omega);have O:=h.due g;have D:A.CA=N.S.CA:=by
  rcases C with⟨_,_,e⟩|⟨_,e⟩
  .rw[e]
  .rw[e,r]
 exact {
  body:=by
   refine⟨F++B,p',o,fun c G=>?_,fun c E=>(i c).2 (O.1 E),?_⟩
   .have hL:=h.yy g (by rw[<- D];exact G)
    rcases C with⟨_,d,_⟩|⟨rfl,_⟩
    .exact absurd c d
    .intro q a b
     rw[JR,JZ] at b;show A.CA<=_;rw[D];by_cases v:q<=F.length
     .rw[Xo v]
      exact hL q (JT s a) v
     .have e1:q=F.length+1:=by omega
      rw[e1,Xi,<- h.kp.held,r];exact JS _
   .rcases C with⟨rfl,d,_⟩|⟨rfl,_⟩
    .rw[Iz]
     exact .inr ⟨d,.inl ⟨h.Bj.mono s id,fun q a b=>h.AJ q (JT s a) b⟩⟩
    .refine .inl ⟨Hist.push (by simp) (fun _=>h.Bj.mono s id) o.le y ?_,Zg.snoc (fun _ q a b=>h.AJ q (JT s a) b) _ ?_⟩
     .rw[Sn,<- h.kp.held]
      exact hrel
     .rw[<- h.kp.held]
      exact J
  ro:=rfl
  br:=by have:=h.ro;rw[<- this,g]
  Bv:=w.Bv
  grow:=j
  full:=w.full
  room:=by rw[w.room];exact h.room
  cm:=h.cm.more (by omega)
  ww:=by have:=h.cm.ww;omega
  len:=by have:=h.cm.len;omega
  BR:=I
  self:=h.self
  nd:=h.nd
  most:=h.most
  given:=by show N.given<=A.CA;rw[D];exact h.given
  every:=h.every
  wr:=fun c d=>by
   show wr=_;rw[(i c).1];exact O.2 d
  nw:=by have:=h.nw;show wr<=_;omega
  dead:=h.dead}
theorem MOk.with{node:Int}{m:LM}{t:Nat}(h:MOk node m t)(key:ByteArray)(l:List Ver)(r:l.length<=5)(y:∀ u∈l,u.seq=0->u.node=node):MOk node {m with keys:=Zf m.keys key l} (t+10):=by
 have q:Zf m.keys key l=if l=[] then YK m.keys key else Zt m.keys key l:=Zc key l h.Bp
 have o:∀ e∈Zf m.keys key l,e∈m.keys\/e=(key,l):=fun e c=>by
  rw[q] at c;split at c
  .exact .inl (WI e c)
  .exact WH e c
 refine⟨?_,?_,fun e c=>?_,h.hints,fun e c=>?_,h.node⟩
 .show Yb (Zf m.keys key l)
  rw[q];split
  .exact P7 key h.Bp
  .exact UR key l h.Bp
 .show(Zf m.keys key l).length<=_
  have:=h.keys;rw[q];split
  .have:=P9 m.keys key;omega
  .have:=P8 m.keys key l;omega
 .rcases o e c with x|x
  .exact h.lens e x
  .rw[x];exact r
 .rcases o e c with x|x
  .exact h.zero e x
  .rw[x];exact y
theorem NI.xe{W:WM}{N:NM}{M:DM}{F:List Fact}{p t:Nat}(h:NI W N M F p t){m:LM}(b:Z9 m N.S)(a:ByteArray):YG m.keys a=zr N.S.keys a:=by
 rw[b.1];exact QN a h.st.1.Bp
theorem NI.xm{W:WM}{N:NM}{M:DM}{F:List Fact}{p t:Nat}(h:NI W N M F p t)(y:t+20<=990000){m:LM}(q:Z9 m N.S)(l:MOk W.node m t)(b a:ByteArray)(r:a.size<=128) :
 (∀ c:NM,c.S.keys=N.S.keys->c.self=N.self->putV b a c (N.given+1)=[m.putV b a ((N.given+1:Nat):Int)])/\VOk (m.putV b a ((N.given+1:Nat):Int)):=by
 have e:m.putV b a ((N.given+1:Nat):Int)=⟨N.self,((N.given+1:Nat):Int),grV (zr N.S.keys b) 0,grV (zr N.S.keys b) 1,grV (zr N.S.keys b) 2,grV (zr N.S.keys b) 3,a,false⟩:=by
  unfold LM.putV;rw[h.xe q,l.node,h.self]
 have d:∀ u∈zr N.S.keys b,u.Nat:=fun u s=>((h.st.1.get b).2.2 u s).nat;have o:=h.nd;have k:N.given<100000000000:=by have:=h.given;have:=h.st.2.2.1;have:=h.cm.calls;omega
 refine⟨fun c i j=>?_,?_⟩
 .rw[e]
  unfold putV;rw[i,j]
 .rw[e]
  have f:(0:Int)<=((N.self:Nat):Int):=by omega
  have g:((N.self:Nat):Int)<4:=by omega
  have v:(0:Int)<=((N.given+1:Nat):Int):=by omega
  have x:((N.given+1:Nat):Int)<9223372036854775808:=by omega
  exact⟨⟨f,g⟩,⟨⟨f,Int.lt_trans g (by decide)⟩,⟨v,x⟩,Xp _ _ d,Xp _ _ d,Xp _ _ d,Xp _ _ d,by show a.size<_;omega⟩,r,by show(1:Int)<=((N.given+1:Nat):Int);omega,rfl⟩
theorem NI.put{W:WM}{N:NM}{M:DM}{F:List Fact}{p t H0:Nat}(h:NI W N M F p t)(B:t+20<=990000)(j:N.readOnly=false){m:LM}(r:Z9 m N.S)(o:MOk W.node m t)(d:∀ g∈M.ids,g<H0)(a b:ByteArray)(c:zJ a=true)(J:b.size<=128) :
 (∀ H,H0<=H->Vu N M H a (putV a b))/\W.most<N.given+1/\N.given+1<=16*(W.calls+1)/\∀ f g,H0<=f->H0<=g->Apart2 N M f g->∃ e y x,N.put M a b f g=((if e=none then N.given+1 else 0),Zd e,y,x)/\(e=none\/e=some 9\/e=some 10) /\
   Aft {W with calls:=W.calls+1,most:=if e=none then N.given+1 else W.most} (m.put a b (((if e=none then N.given+1 else 0:Nat)):Int)) M e y x (t+10):=by
 obtain⟨s,K⟩:=h.xm B r o a b J;have l:∀ u∈[m.putV a b ((N.given+1:Nat):Int)],VOk u:=by intro u i;rw[JY] at i;subst i;exact K
 have L:=h.st.2.2.1;have O:=h.most;have Q:=h.given;have R:=h.cm.calls;have T:=h.nk;have V:=h.nw;refine⟨fun H E=>Pz (h.kp.mono (fun _=>j) (JS _)) (by omega) (by omega) h.given (h.yy j) H (fun g A=>Ha (d g A) E) a _ _ s (W9 c l (by simp)) (YO c l (by simp)) (by omega) (by omega),by omega,by omega,fun f g X A G=>?_⟩;obtain⟨e,y,x,C,_,I,q⟩:=h.replace B j a c (putV a b) [m.putV a b ((N.given+1:Nat):Int)] f g (fun k=>by have:=d f k;omega) (fun k=>by have:=d g k;omega) G s l (fun u i=>by rw[JY] at i;subst i;rfl)
  (m.put a b ((N.given+1:Nat):Int)) (m.put a b 0) (o.with a _ (by simp) (fun u i D=>by rw[JY] at i;subst i;exact o.node)) (o.with a _ (by simp) (fun u i D=>by rw[JY] at i;subst i;exact o.node)) ⟨by show Zf m.keys a _=_;rw[r.1],r.2⟩
  (.inr ⟨m.putV a b 0,rfl,rfl,o.node,by show Zf m.keys a _=_;rw[r.1],r.2⟩)
 refine⟨e,y,x,?_,I,?_⟩
 .unfold NM.put
  rw[Ie (by rw[c];decide),Ie (by omega),Ie (by rw[j];decide)];exact C
 .cases e <;> exact q
theorem NI.delete{W:WM}{N:NM}{M:DM}{F:List Fact}{p t H0:Nat}(h:NI W N M F p t)(D:t+20<=990000)(d:N.readOnly=false){m:LM}(v:Z9 m N.S)(C:MOk W.node m t)(c:∀ g∈M.ids,g<H0)(a:ByteArray)(b:zJ a=true) :
 (∀ H,H0<=H->Vu N M H a (fun _ _=>[]))/\W.most<N.given+1/\N.given+1<=16*(W.calls+1)/\∀ f g,H0<=f->H0<=g->Apart2 N M f g->∃ e r q,N.delete M a f g=((if e=none then N.given+1 else 0),Zd e,r,q)/\(e=none\/e=some 9\/e=some 10) /\
   Aft {W with calls:=W.calls+1,most:=if e=none then N.given+1 else W.most} (m.delete a) M e r q (t+10):=by
 have j:∀ u∈([]:List Ver),VOk u:=by intro u o;cases o
 have E:=h.st.2.2.1;have G:=h.most;have I:=h.given;have J:=h.cm.calls;have K:=h.nk;have L:=h.nw;have l:MOk W.node (m.delete a) (t+10):=C.with a [] (by simp) (fun u o=>by cases o);refine⟨fun H y=>Pz (h.kp.mono (fun _=>d) (JS _)) (by omega) (by omega) h.given (h.yy d) H (fun g s=>Ha (c g s) y) a _ [] (fun _ _ _=>rfl) (W9 b j (by simp)) (YO b j (by simp)) (by omega) (by omega),by omega,by omega,fun f g O s A=>?_⟩;obtain⟨e,r,q,x,_,B,k⟩:=h.replace D d a b (fun _ _=>[]) [] f g (fun i=>by have:=c f i;omega) (fun i=>by have:=c g i;omega) A (fun _ _ _=>rfl) j (fun u o=>by cases o)
  (m.delete a) (m.delete a) l l ⟨by show Zf m.keys a _=_;rw[v.1],v.2⟩ (.inl ⟨rfl,rfl⟩)
 refine⟨e,r,q,?_,B,?_⟩
 .unfold NM.delete
  rw[Ie (by rw[b];decide),Ie (by rw[d];decide)];exact x
 .cases e <;> exact k
theorem NI.accept{W:WM}{N:NM}{M:DM}{F:List Fact}{p t Q:Nat}(h:NI W N M F p t)(ht:t+20<=990000){m:LM}(Y:Z9 m N.S)(hm:MOk W.node m t)(r:∀ g∈M.ids,g<Q)(a:ByteArray)(v:Ver) :
 (∀ H,Q<=H->zJ a=true->v.value.size<=128->foreign N.self v=true->N.readOnly=false->(v.gone=false->(zG (zr N.S.keys a) v).length<4)->Fit N M H (.inr (.inl (a,Y0 (zr N.S.keys a) v)))) /\
   (Vm N a v=none->∀ f,Q<=f->∃ e O L,N.accept M a v f=(Zd e,O,L)/\(e=none\/e=some 9\/e=some 10)/\Aft W (m.accept a v) M e O L (t+10)):=by
 have i:=h.st;have l:=i.1.get a;have h5:=h.nk;have h6:=h.nw;refine⟨fun H hH D hs hf k d=>?_,fun j f hf=>?_⟩
 .have c:=TK l.2.1 l.2.2 (fun h=>TL hf hs h) d
  exact Uq (h.kp.mono (fun _=>k) (JS _)) (by omega) H (fun g l=>Ha (r g l) hH) _ (W9 D c.2 (by omega)) (YO D c.2 (by omega)) (by omega) (by omega)
 .have hout:=TN N M a v f
  rw[j] at hout;unfold Vm at j;by_cases q:Yt N.self a v=0
  .rw[Ie (by simp[q])] at j
   cases k:N.readOnly with
   | true=>rw[Io k] at j;cases j
   | false =>
    rw[Ie (by rw[k];decide)] at j;by_cases C:WE (zr N.S.keys a) v=0
    .rw[Io C] at j;cases j
    .by_cases hw1:WE (zr N.S.keys a) v=1
     .rw[Ie C,Io hw1] at j;cases j
     .have hfo:=OC q
      have o:zJ a=true/\v.value.size<=128:=by
       unfold Yt at q;split at q
       .cases q
       .rename_i D
        split at q
        .cases q
        .exact⟨by simpa using D,by omega⟩
      have y:(zr N.S.keys a).any v.Br=false:=by
       cases D:(zr N.S.keys a).any v.Br with
       | false=>rfl
       | true=>exact absurd (by unfold WE;rw[Io D]) C
      have d:v.gone=false->(zG (zr N.S.keys a) v).length<4:=fun l=>by
       refine DD fun R=>hw1 ?_;unfold WE;rw[Ie (by rw[y];decide),Io ⟨l,R⟩]
      have c:=TK l.2.1 l.2.2 (fun h=>TL hfo o.2 h) d;have G:=KC l.1 y;have B:v.node≠W.node:=by
       rw[h.self];unfold foreign at hfo;simp only[Hq,Im] at hfo;intro e;have:=hfo.2.2.1;exact this.2 e
      have J:∀ u∈Y0 (zr N.S.keys a) v,u∈zr N.S.keys a\/u=v:=fun u b=>by
       unfold Y0 at b;split at b
       .exact .inl (Fk.1 b).1
       .unfold YX at b
        simp only[JW,JY] at b;rcases b with(b|b)|b
        .exact .inl (Fk.1 (IJ b)).1
        .exact .inr b
        .exact .inl (Fk.1 (Ir b)).1
      have A:∀ u∈zr N.S.keys a,∃ e∈N.S.keys,u∈e.2:=fun u b=>by
       rcases P6 N.S.keys a with e|⟨e,I,_,h2⟩
       .rw[e] at b;cases b
       .exact⟨e,I,by rw[h2];exact b⟩
      have K:∀ u∈Y0 (zr N.S.keys a) v,u.node=W.node->u.seq<=(W.most:Int):=fun u b X=>by
       rcases J u b with x|x
       .obtain⟨e,I,hx⟩:=A u x
        exact i.2.2.2 e I u hx X
       .rw[x] at X;exact absurd X B
      have s:QO (YG m.keys a) v=Y0 (zr N.S.keys a) v:=by
       rw[h.xe Y];exact KX v l.1 (Ru y)
      have V:MOk W.node (m.accept a v) (t+10):=by
       unfold LM.accept;rw[s];exact hm.with a _ (by omega) (fun u b h0=>by have:=(c.2 u b).one;omega)
      obtain⟨e,O,L,er,_,I,E⟩:=h.asked ht k (.inr (.inl (a,Y0 (zr N.S.keys a) v))) (XD o.1 c.2 (by omega)) (YO o.1 c.2 (by omega)) (by show(SM.holds _ _ _).hints.length<=32;rw[X3];exact i.1.hlen) f (fun T=>by have:=r f T;omega) (m.accept a v) V
       ⟨by show Zf m.keys a (QO (YG m.keys a) v)=_;rw[s,Y.1,Zc a _ i.1.Bp];rfl,by show m.hints=(SM.holds _ _ _).hints;rw[X3];exact Y.2⟩ (i.holds a o.1 _ G c.1 c.2 (JS _) i.2.1 K) (Yi _ _ _)
      exact⟨e,O,L,by rw[hout];exact er,I,E⟩
  .rw[Io q] at j;cases j
theorem NI.hint{W:WM}{N:NM}{M:DM}{F:List Fact}{p t H0:Nat}(h:NI W N M F p t)(J:t+20<=990000){m:LM}(B:Z9 m N.S)(q:MOk W.node m t)(j:∀ g∈M.ids,g<H0)(b:Int)(a:ByteArray) :
 (∀ H,H0<=H->a.size<=64->zR b=true->N.readOnly=false->Fit N M H (.inr (.inr (.inl (b.toNat,a))))) /\
   (Wv N b a=none->∀ f,H0<=f->∃ e u s,N.hint M b a f=(Zd e,u,s)/\(e=none\/e=some 9\/e=some 10)/\Aft W (m.hint b.toNat a) M e u s (t+10)):=by
 have c:=h.st;have L:=h.nk;have O:=h.nw;refine⟨fun H D I l d=>?_,fun i f Q=>?_⟩
 .unfold zR at l
  simp only[Im] at l;exact Uq (h.kp.mono (fun _=>d) (JS _)) (by omega) H (fun g G=>Ha (j g G) D) _ ⟨by show b.toNat<_;omega,by show a.size<_;omega⟩ (XC (by omega) I) (by omega) (by omega)
 .have hout:=PA N M b a f
  rw[i] at hout;unfold Wv at i;by_cases k:Vf N.self b a=0
  .rw[Ie (by simp[k])] at i
   cases d:N.readOnly with
   | true=>rw[Io d] at i;cases i
   | false =>
    rw[Ie (by rw[d];decide)] at i;by_cases y:32<=N.S.hints.length
    .rw[Io y] at i;cases i
    .have l:zR b=true/\a.size<=64:=by
      unfold Vf at k;split at k
      .cases k
      .rename_i h1
       split at k
       .cases k
       .simp only[Bool.not_eq_false,Hq] at h1
        exact⟨h1.1,by omega⟩
     have r:=l.1;unfold zR at r;simp only[Im] at r;obtain⟨e,u,s,C,_,E,o⟩:=h.asked J d (.inr (.inr (.inl (b.toNat,a)))) (VO (by omega) l.2) (XC (by omega) l.2) (by show(N.S.hints++[_]).length<=32;rw[JR,JZ];omega) f (fun A=>by have:=j f A;omega) (m.hint b.toNat a)
      ⟨q.Bp,by have:=q.keys;show m.keys.length<=_;omega,q.lens,by show(m.hints++[_]).length<=33;rw[JR,JZ,B.2];omega,q.zero,q.node⟩
      ⟨B.1,by show m.hints++[_]=N.S.hints++[_];rw[B.2]⟩ ⟨⟨c.1.Bp,c.1.key,by show(N.S.hints++[_]).length<=32;rw[JR,JZ];omega,c.1.names,c.1.some,fun x K=>(JW.1 K).elim (c.1.text x) (fun e=>by rw[JY] at e;subst e;exact⟨by show b.toNat<4;omega,l.2⟩)⟩,c.2.1,c.2.2.1,c.2.2.2⟩ rfl
     exact⟨e,u,s,by rw[hout];exact C,E,o⟩
  .rw[Io k] at i;cases i
theorem NI.Ar{W:WM}{N:NM}{M:DM}{F:List Fact}{p t q:Nat}(h:NI W N M F p t)(D:t+20<=990000){m:LM}(s:Z9 m N.S)(i:MOk W.node m t)(c:∀ g∈M.ids,g<q) :
 (∀ H,q<=H->N.readOnly=false->Fit N M H (.inr (.inr (.inr ())))) /\
   (Vn N=none->∀ f,q<=f->∃ e l k,N.Ar M f=(Zd e,l,k)/\(e=none\/e=some 9\/e=some 10)/\Aft W m.Ar M e l k (t+10)):=by
 have a:=h.st;have G:=h.nk;have I:=h.nw;refine⟨fun H v b=>Uq (h.kp.mono (fun _=>b) (JS _)) (by omega) H (fun g A=>Ha (c g A) v) _ trivial Rf (by omega) (by omega),fun o f J=>?_⟩;have d:=N8 N M f;rw[o] at d;unfold Vn at o;cases b:N.readOnly with
 | true=>rw[Io b] at o;cases o
 | false =>
  have B:=a.1.hlen;have C:=i.hints;obtain⟨e,l,k,u,_,y,j⟩:=h.asked D b (.inr (.inr (.inr ()))) Pb Rf (by show(N.S.hints.drop 1).length<=32;rw[Ib];omega) f (fun r=>by have:=c f r;omega) m.Ar
   ⟨i.Bp,by have:=i.keys;show m.keys.length<=_;omega,i.lens,by show(m.hints.drop 1).length<=33;rw[Ib];omega,i.zero,i.node⟩
   ⟨s.1,by show m.hints.drop 1=N.S.hints.drop 1;rw[s.2]⟩ ⟨⟨a.1.Bp,a.1.key,by show(N.S.hints.drop 1).length<=32;rw[Ib];omega,a.1.names,a.1.some,fun x E=>a.1.text x (Ir E)⟩,a.2.1,a.2.2.1,a.2.2.2⟩ rfl
  exact⟨e,l,k,by rw[d];exact u,y,j⟩
def Xq:ByteArray:={data:=#[97,32,116,114,105,97,108]}
structure Sane(S:SM)(t:Nat):Prop where
 held:zY S
 CA:S.CA<=16*t
 keys:S.keys.length<=t
theorem Sane.more{S:SM}{t u:Nat}(h:Sane S t)(a:t<=u):Sane S u:=⟨h.held,by have:=h.CA;omega,by have:=h.keys;omega⟩
theorem Sh.xq{W:WM}{M:DM}{F:List Fact}{p t:Nat}(h:Sh W M F p t):p<=F.length/\Sane (atF F F.length) t:=by
 obtain⟨y,q,k⟩:=h.lg;have c:p<=F.length:=by rw[<- k];exact q.Aq
 have G:=h.cm.calls;refine⟨c,?_⟩;have a:∀ T,Hist W.st F p T->(atF F F.length).keys.length<=t:=fun T l=>by
  obtain⟨j,_,d,_⟩:=l;obtain⟨m,s,u⟩:=d F.length c (JS _);rw[<- u.1];exact(h.cm.BR m (GA s)).keys
 rcases h.all with⟨g,d⟩|⟨_,st,m,n,e,D,x,E,o,A,r,i,_⟩
 .have:=g F.length c (JS _)
  exact⟨this.1,by have:=this.2.2.1;omega,d.elim (a _) (fun x=>a _ x.2)⟩
 .have:=i F.length c (JS _)
  refine⟨this.1,by have:=this.2.2.1;omega,?_⟩;obtain⟨K,a,v,f,I,J,L,N,B,C,O⟩:=A;have b:(atF F F.length).keys.length=m.keys.length:=by
   rw[B,C,Zc a _ f,Zc a _ f];simp only[FH,Hf,Zt,JR,JZ]
  rw[b];exact(h.cm.BR m (by rw[e];simp)).keys
theorem Jg{N:NM}(j:zY N.S)(l:N.self<4)(k:N.given<100000000000)(b a:ByteArray)(m:a.size<=128) :
 (∀ d:NM,d.S.keys=N.S.keys->d.self=N.self->putV b a d (N.given+1)=putV b a N (N.given+1))/\(∀ u∈putV b a N (N.given+1),VOk u)/\(putV b a N (N.given+1)).length<=4:=by
 have e:∀ u∈zr N.S.keys b,u.Nat:=fun u c=>((j.get b).2.2 u c).nat;refine⟨fun d h i=>?_,fun u c=>?_,by unfold putV;simp⟩
 .unfold putV
  rw[h,i]
 .unfold putV at c
  rw[JY] at c;subst c;have f:(0:Int)<=((N.self:Nat):Int):=by omega
  have g:((N.self:Nat):Int)<4:=by omega
  have o:(0:Int)<=((N.given+1:Nat):Int):=by omega
  have p:((N.given+1:Nat):Int)<9223372036854775808:=by omega
  exact⟨⟨f,g⟩,⟨⟨f,Int.lt_trans g (by decide)⟩,⟨o,p⟩,Xp _ _ e,Xp _ _ e,Xp _ _ e,Xp _ _ e,by show a.size<_;omega⟩,m,by show(1:Int)<=((N.given+1:Nat):Int);omega,rfl⟩
theorem KD(F G:List Fact):(atF (F++G) (F++G).length).keys.length<=(atF F F.length).keys.length+G.length:=by
 unfold atF;rw[Ij,Ij,IQ];exact XT G _
theorem Mf{M:DM}{y:Lay}{p t H0:Nat}(hl:Lg M y p t)(O:y.new=none)(R:Sane y.held t)(ht:t<=950000)(n:Nat)(hn:n<4)(a b:Nat)(i:∀ g∈M.ids,g<H0)(d c:ByteArray)(u:zJ d=true)(hv:c.size<=128) :
 (∀ H,H0<=H->Vu (NM.opened n a b y) M H d (putV d c))/\∀ f g,H0<=f->H0<=g->Apart2 (NM.opened n a b y) M f g->∀ (j:Int)(J:ByteArray)(G:Nat),(∀ g'∈((NM.opened n a b y).put M d c f g).2.2.2.ids,g'<G)->J.size<=64->zR j=true->((NM.opened n a b y).put M d c f g).2.2.1.readOnly=false->Fit ((NM.opened n a b y).put M d c f g).2.2.1 ((NM.opened n a b y).put M d c f g).2.2.2 G (.inr (.inr (.inl (j.toNat,J)))):=by
 have C:=R.CA;have L:=R.keys;have l:(NM.opened n a b y).given<100000000000:=by show y.held.CA<_;omega
 obtain⟨T,I,h3⟩:=Jg (N:=NM.opened n a b y) R.held hn l d c hv;have o:Kp (NM.opened n a b y) M y.F p t True:=hl.opened O n a b True;have s:(NM.opened n a b y).given<(NM.opened n a b y).S.CA->Leas y.F p (NM.opened n a b y).S.CA:=fun h=>absurd h (Cp _);refine⟨fun H hH=>Pz o (by omega) l (JS _) s H (fun g X=>Ha (i g X) hH) d _ _ T (W9 u I (by omega)) (YO u I (by omega)) (by show y.held.keys.length<=_;omega) (Iq _),?_⟩;intro f g hf X ha j J G;rcases hput:(NM.opened n a b y).put M d c f g with⟨r,e,N',M'⟩;intro q S E D;simp only at q D |-;obtain⟨K,J',S',gv,wr,M2,A,B,p',er,w,hp,hA,hB,V,a3,_,_,_,_⟩:=Rq o (by omega) l (JS _) s rfl d (putV d c) _ f g (fun h=>by have:=i f h;omega) (fun h=>by have:=i g h;omega) ha T (XD u I (by omega)) (TM u I (by omega));have Q:(NM.opened n a b y).put M d c f g=(NM.opened n a b y).replace M d (putV d c) f g:=by
  unfold NM.put;rw[Ie (by rw[u];decide),Ie (by omega),Ie (by show ¬false=true;decide)]
 rw[Q,er] at hput;obtain⟨rfl,rfl⟩:{NM.opened n a b y with J:=J',S:=S',given:=gv,writes:=wr,readOnly:=K.isSome}=N'/\M2=M':=by
  simp only[Ga] at hput;exact⟨hput.2.2.1,hput.2.2.2⟩
 have he:K=none:=by
  cases K with
  | none=>rfl
  | some x=>cases D
 have k:=w.kp;have m:S'=atF (y.F++A++B) (y.F++A++B).length:=k.held;have h0:y.held=atF y.F y.F.length:=o.held;have a2:S'.keys.length<=t+2:=by
  have:=KD y.F (A++B);rw[<- Ig,<- m,<- h0] at this;rw[JR] at this;have a0:A.length<=1:=by rcases hA with e|⟨e,_⟩ <;> rw[e] <;> simp
  have a1:B.length<=1:=by rcases hB with⟨e,_⟩|⟨e,_⟩ <;> rw[e] <;> simp
  omega
 unfold zR at E;simp only[Im] at E;have Y:(NM.opened n a b y).writes=0:=rfl;exact Uq (k.mono (fun _=>he) (JS _)) (by omega) G q _ ⟨by show j.toNat<_;omega,by show J.size<_;omega⟩ (XC (by omega) S) (by show S'.keys.length<=_;omega) (by show wr<=_;omega)
end Go.Proofs.YtkhnggkkiefcdaaGreatDoor
