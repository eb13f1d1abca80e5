/- larder: joined texts -/
import Derived.Test.YtkhnggkkiefcdaaGreatDoorSFAL
import Derived.Test.YtkhnggkkiefcdaaGreatDoorSFAS
namespace Go.Proofs.YtkhnggkkiefcdaaGreatDoor
open Go.RowKit
set_option maxRecDepth 100000
set_option maxHeartbeats 8000000
def XU(self:Int)(a:Int)(K:Keys):Prop:=∀ e∈K,∀ u∈e.2,u.node=self->u.seq<=a
def Given(K:Keys):Prop:=∀ e∈K,∀ u∈e.2,1<=u.seq
def Uz(self:Int)(K:Keys):Prop:=∀ e∈K,∀ u∈e.2,u.seq=0->u.node=self
theorem XU.mono{self g c:Int}{K:Keys}(h:XU self g K)(hm:g<=c):XU self c K:=fun e o u y r=>CT (h e o u y r) hm
theorem Given.zero{self:Int}{K:Keys}(h:Given K):Uz self K:=fun e a u b c=>by have:=h e a u b;omega
theorem RE{self j top:Int}:∀ {l m:List Ver}{s:Int},(∀ u∈l,u.node=self->u.seq<=j)->(∀ u∈l,1<=u.seq)->(∀ u∈m,u.seq=0->u.node=self)->l≠m->Z2 j top l m s=none
 | [],[],s,_,_,_,h=>absurd rfl h
 | a::l,u::m,s,d,f,g,h=>by
  have k:=fun s=>RE (top:=top) (s:=s) (fun x b=>d x (Hb _ b)) (fun x b=>f x (Hb _ b)) (fun x b=>g x (Hb _ b)) (l:=l) (m:=m);unfold Z2;have o:=f a (Hf ..);by_cases c:u.seq=0
  .rw[He c]
   split
   .rfl
   .split
    .rename_i hm hs
     exfalso
     have e:=(Xl _ _).1 hs;have i:=g u (Hf ..) c;rw[<- e] at i;have:=d a (Hf ..) i;exact hm (.inl this)
    .rfl
  .rw[IV c]
   split
   .rename_i hs
    have e:=(Xl _ _).1 hs;subst e;exact k s (fun e=>h (by rw[e]))
   .rfl
 | [],_::_,_,_,_,_,_=>rfl
 | _::_,[],_,_,_,_,_=>rfl
theorem Ul{mo top:Int}:∀ {S:Keys},Given S->zO top mo S S=(S,mo,true)
 | [],_=>rfl
 | (a,l)::S,h=>by
  have d:=Ul (mo:=mo) (top:=top) (S:=S) (fun e b=>h e (Hb _ b));rw[VH (XT (n:=0) (fun u c=>by have:=h (a,l) (Hf ..) u c;omega)) (by omega),d]
theorem O5{self g top:Int}:∀ {S M:Keys},XU self g S->Given S->Uz self M->S≠M->zO top g S M=(M,g,false)
 | [],[],_,_,_,h=>absurd rfl h
 | (a,l)::S,(b,u)::M,i,f,j,h=>by
  by_cases c:a=b
  .subst c
   by_cases k:l=u
   .subst k
    have o:=O5 (top:=top) (S:=S) (M:=M) (fun e d=>i e (Hb _ d)) (fun e d=>f e (Hb _ d)) (fun e d=>j e (Hb _ d)) (fun e=>h (by rw[e]));rw[VH (XT (n:=0) (fun u m=>by have:=f (a,l) (Hf ..) u m;omega)) (by omega),o]
   .unfold zO
    rw[He rfl,RE (i (a,l) (Hf ..)) (f (a,l) (Hf ..)) (j (a,u) (Hf ..)) k]
  .unfold zO
   rw[IV c]
 | [],_::_,_,_,_,_=>rfl
 | _::_,[],_,_,_,_=>rfl
theorem RF{mo top:Int}:∀ (A:Keys){S M:Keys},Given A->zO top mo (A++S) (A++M)=(A++(zO top mo S M).1,(zO top mo S M).2)
 | [],_,_,_=>rfl
 | (a,l)::A,S,M,h=>by
  have d:=RF (mo:=mo) (top:=top) A (S:=S) (M:=M) (fun e b=>h e (Hb _ b));rw[IY,IY,VH (XT (n:=0) (fun u c=>by have:=h (a,l) (Hf ..) u c;omega)) (by omega),d]
  rfl
theorem Nn{mo top n:Int}{K:Keys}(key:ByteArray)(v:Ver)(g:Y1 K)(c:Given K)(b:v.seq=0)(i:mo<n)(j:0<=mo)(k:n<=top) :
 zO top mo (zX K key [{v with seq:=n}]) (zX K key [v])=(zX K key [{v with seq:=n}],n,true):=by
 rw[Zo key _ g,Zo key _ g];simp only[Eu,Gj];unfold Y0;have d:∀ e∈K.take (low zf (K.map Prod.fst) key),e∈K:=fun e a=>GV a;have f:∀ e∈K.drop (if Z5 zf (K.map Prod.fst) key=true then low zf (K.map Prod.fst) key+1 else low zf (K.map Prod.fst) key),e∈K:=fun e a=>Gn a;generalize K.take (low zf (K.map Prod.fst) key)=A at d |-;generalize K.drop (if Z5 zf (K.map Prod.fst) key=true then low zf (K.map Prod.fst) key+1 else low zf (K.map Prod.fst) key)=C at f |-;rw[Hu,Hu,RF A (fun e a=>c e (d e a))];simp only[Dp];have h:Z2 mo top [{v with seq:=n}] [v] 0=some n:=by
  unfold Z2;rw[He b,IV (by simp only;omega),He ((Xl _ _).2 (by cases v;simp only at b |-;rw[b]))]
  rfl
 rw[RD h (by omega),Ul (fun e a=>c e (f e a))];simp[YF,b]
def Zt(m:LM)(S:SM):Prop:=m.keys=S.keys/\m.hints=S.hints
structure MOk(node:Int)(m:LM)(t:Nat):Prop where
 Al:Y1 m.keys
 keys:m.keys.length<=t
 lens:∀ e∈m.keys,e.2.length<=5
 hints:m.hints.length<=33
 zero:Uz node m.keys
 node:m.node=node
def Wj(node:Int)(a b:Nat)(S:SM):Prop:=Zm S/\b<=S.Ba/\S.Ba<=16*a/\XU node b S.keys
def Zu(node:Int)(a b:Nat)(F:List Fact)(p:Nat):Prop:=∀ q,p<=q->q<=F.length->Wj node a b (atF F q)
def Hist(st:List LM)(F:List Fact)(p:Nat)(a:Prop):Prop :=
 ∃ j:Nat->Nat,(∀ q r,q<=r->j q<=j r)/\(∀ q,p<=q->q<=F.length->∃ m,st[j q]?=some m/\Zt m (atF F q))/\(a->j F.length+1=st.length)
theorem Hist.mono{st:List LM}{F:List Fact}{p e:Nat}{T c:Prop}(h:Hist st F p T)(z:p<=e)(y:c->T):Hist st F e c:=by
 obtain⟨j,g,o,r⟩:=h;exact⟨j,g,fun q a b=>o q (IP z a) b,fun t=>r (y t)⟩
theorem Hist.last{st:List LM}{F:List Fact}{p:Nat}(h:Hist st F p True)(c:p<=F.length):∃ m,st[st.length-1]?=some m/\Zt m (atF F F.length)/\0<st.length:=by
 obtain⟨j,k,a,b⟩:=h;obtain⟨m,hm,i⟩:=a F.length c (IQ _);have:=b trivial;have e:j F.length=st.length-1:=by omega
 rw[e] at hm;exact⟨m,hm,i,by omega⟩
theorem Hist.quiet{st:List LM}{F:List Fact}{p:Nat}{T:Prop}(h:Hist st F p T)(k:p<=F.length)(x:Fact)(l:∀ m,Zt m (atF F F.length)->Zt m ((atF F F.length).enter x)):Hist st (F++[x]) p T:=by
 obtain⟨j,g,f,i⟩:=h;refine⟨fun q=>j (min q F.length),fun q r h=>g _ _ (by omega),fun q a b=>?_,fun t=>?_⟩
 .rw[IM,IU] at b
  by_cases c:q<=F.length
  .obtain⟨m,hm,d⟩:=f q a c
   refine⟨m,?_,by rw[Xq c];exact d⟩;show st[j (min q F.length)]?=_;rw[Gv c];exact hm
  .have e:q=F.length+1:=by omega
   obtain⟨m,hm,d⟩:=f F.length k (IQ _);refine⟨m,?_,?_⟩
   .show st[j (min q F.length)]?=_
    rw[Cr (by omega)];exact hm
   .rw[e,Xf]
    exact l m d
 .rw[IM,IU]
  show j (min (F.length+1) F.length)+1=_;rw[Cr (by omega)];exact i t
theorem Hist.push{st:List LM}{F G:List Fact}{p:Nat}{T:Prop}(l:G.length<=1)(h:p<=F.length->Hist st F p T)(g:p<=(F++G).length)(m:LM)(hm:Zt m (atF (F++G) (F++G).length)):Hist (st++[m]) (F++G) p True:=by
 by_cases f:p<=F.length
 .obtain⟨j,h1,h2,h3⟩:=h f
  refine⟨fun q=>if q<(F++G).length then min (j q) st.length else st.length,fun q r h=>?_,fun q a b=>?_,fun _=>?_⟩
  .have:=h1 q r h
   simp only;split <;> split <;> omega
  .by_cases hq:q<(F++G).length
   .have hqF:q<=F.length:=by rw[IM] at hq;omega
    obtain⟨k,c,i⟩:=h2 q a hqF;have d:=(Hp.1 c).1;refine⟨k,?_,by rw[Xq hqF];exact i⟩;simp only;rw[He hq,Gv (by omega),FE d];exact c
   .have e:q=(F++G).length:=by omega
    refine⟨m,?_,by rw[e];exact hm⟩;simp only;rw[IV hq];simp
  .simp
 .refine⟨fun _=>st.length,fun _ _ _=>IQ _,fun q a b=>?_,fun _=>by simp⟩
  have e:q=(F++G).length:=by rw[IM] at b g |-;omega
  exact⟨m,by simp,by rw[e];exact hm⟩
theorem Hist.one{F:List Fact}(m:LM)(hm:Zt m (atF F F.length)):Hist [m] F F.length True:=by
 refine⟨fun _=>0,fun _ _ _=>IQ _,fun q a b=>?_,fun _=>rfl⟩;have e:q=F.length:=by omega
 rw[e];exact⟨m,rfl,hm⟩
theorem Hist.maybe{st:List LM}{F:List Fact}{p:Nat}{T:Prop}(h:Hist st F p T)(m:LM):Hist (st++[m]) F p False:=by
 obtain⟨j,d,e,_⟩:=h;refine⟨j,d,fun q a b=>?_,fun f=>f.elim⟩;obtain⟨i,c,g⟩:=e q a b;exact⟨i,by rw[FE (Hp.1 c).1];exact c,g⟩
theorem VI{F a:List Fact}(h:a<+:F){q:Nat}(b:q<=a.length):atF a q=atF F q:=by
 obtain⟨r,rfl⟩:=h;rw[Xq b]
theorem Hist.cut{st:List LM}{F c:List Fact}{p e:Nat}{T:Prop}(h:Hist st F p T)(d:c<+:F)(l:p<=e):Hist st c e False:=by
 obtain⟨j,i,k,_⟩:=h;refine⟨j,i,fun q a b=>?_,fun f=>f.elim⟩;obtain⟨m,hm,o⟩:=k q (IP l a) (IP b d.length_le);exact⟨m,hm,by rw[VI d b];exact o⟩
theorem Zu.cut{node:Int}{c i:Nat}{F d:List Fact}{p j:Nat}(h:Zu node c i F p)(e:d<+:F)(k:p<=j):Zu node c i d j:=fun q a b=>by
 rw[VI e b];exact h q (IP k a) (IP b e.length_le)
theorem Zu.snoc{node:Int}{c f:Nat}{F:List Fact}{p:Nat}(h:p<=F.length->Zu node c f F p)(x:Fact)(g:Wj node c f ((atF F F.length).enter x)):Zu node c f (F++[x]) p:=fun q a b=>by
 rw[IM,IU] at b;by_cases d:q<=F.length
 .rw[Xq d]
  exact h (IP a d) q a d
 .have e:q=F.length+1:=by omega
  rw[e,Xf];exact g
theorem Wj.mono{node:Int}{e c o g:Nat}{S:SM}(h:Wj node e o S)(r:e<=c)(hm:o<=g)(y:g<=S.Ba):Wj node c g S :=
 ⟨h.1,y,IP h.2.2.1 (Nat.mul_le_mul_left 16 r),h.2.2.2.mono (by omega)⟩
theorem Hist.found{st:List LM}{F:List Fact}{p:Nat}{T:Prop}(h:Hist st F p T)(M:p<=F.length) :
 ∃ i m,st[i]?=some m/\Zt m (atF F F.length)/\(∀ k f,i<k->st[k]?=some f->¬Zt f (atF F F.length))/\Hist (st.take i++[m]) F p True/\(T->i+1=st.length):=by
 obtain⟨j,B,C,I⟩:=h;obtain⟨Q,z,A⟩:=C F.length M (IQ _)
 -- the greatest index
 have key:∀ d i m,st.length-i<=d->st[i]?=some m->Zt m (atF F F.length)->j F.length<=i->∃ i m,st[i]?=some m/\Zt m (atF F F.length)/\j F.length<=i/\∀ k f,i<k->st[k]?=some f->¬Zt f (atF F F.length):=by
  intro d
  induction d with
  | zero =>
   intro i m J hm;have:=(Hp.1 hm).1;omega
  | succ d N =>
   intro i m J hm v D;by_cases o:∃ k f,i<k/\st[k]?=some f/\Zt f (atF F F.length)
   .obtain⟨k,f,x,c,g⟩:=o
    exact N k f (by have:=(Hp.1 c).1;omega) c g (by omega)
   .exact⟨i,m,hm,v,D,fun k f x c g=>o ⟨k,f,x,c,g⟩⟩
 obtain⟨i,m,hm,v,D,s⟩:=key _ _ Q (IQ _) z A (IQ _);have K:=(Hp.1 hm).1;have l:∀ k f,k<=i->st[k]?=some f->(st.take i++[m])[k]?=some f:=fun k f x c=>by
  by_cases y:k<i
  .rw[FE (by rw[IR];omega),Gx y]
   exact c
  .have:k=i:=by omega
   subst this;rw[hm] at c;obtain rfl:=Hl c;rw[Fk (by rw[IR];omega)];have E:k-(st.take k).length=0:=by rw[IR];omega
   rw[E]
   rfl
 refine⟨i,m,hm,v,s,⟨fun q=>if q<F.length then min (j q) i else i,fun q r h=>?_,fun q a b=>?_,fun _=>?_⟩,fun t=>?_⟩
 .have:=B q r h
  simp only;split <;> split <;> omega
 .by_cases hq:q<F.length
  .obtain⟨f,c,g⟩:=C q a b
   have L:=B q F.length b;refine⟨f,?_,g⟩;simp only;rw[He hq,Gv (by omega)];exact l _ f (by omega) c
  .have e:q=F.length:=by omega
   refine⟨m,?_,by rw[e];exact v⟩;simp only;rw[IV hq];exact l i m (IQ _) hm
 .simp only[Fw,Gj,IM,IR,IU]
  omega
 .have:=I t
  omega
def Zer(self:Int)(mo:Nat)(m:LM)(S:SM)(n:Nat):Prop :=
 ∃ K key v,Y1 K/\Given K/\XU self mo K/\v.seq=0/\v.node=self/\m.keys=zX K key [v]/\S.keys=zX K key [{v with seq:=n}]/\m.hints=S.hints
theorem Zm.given{S:SM}(h:Zm S):Given S.keys:=fun e a u b=>((h.key e a).2.2 u b).one
theorem WV{W:WM}{N:NM}{m:LM}(d:Zm N.S)(b:N.readOnly=W.broken)(e:Zt m N.S):Zb W N m=(W.most,some m):=by
 obtain⟨a,c⟩:=e;unfold Zb;rw[He ⟨b,by rw[a],c.symm⟩,a,Ul d.given];simp only[Dl,Gi];rw[<- a]
theorem O6{W:WM}{N:NM}{m:LM}(a:Zm N.S)(b:XU W.node W.most N.S.keys)(d:Uz W.node m.keys)(c:¬(N.readOnly=W.broken/\Zt m N.S)):Zb W N m=(W.most,none):=by
 unfold Zb;split
 .rename_i h1
  rw[O5 b a.given d (fun e=>c ⟨h1.1,e.symm,h1.2.2.symm⟩)];simp
 .rfl
theorem US{W:WM}{N:NM}{m:LM}{n:Nat}(h:Zer W.node W.most m N.S n)(o:W.most<n)(p:n<=16*W.calls)(c:N.readOnly=W.broken) :
 Zb W N m=(n,some {m with keys:=N.S.keys}):=by
 obtain⟨K,key,v,b,d,k,e,l,f,g,i⟩:=h;have j:=Nn (mo:=W.most) (top:=16*W.calls) (n:=(n:Int)) key v b d e (by omega) (by omega) (by omega);unfold Zb;have a:(zX K key [{v with seq:=(n:Int)}]).length=(zX K key [v]).length:=by
  rw[Zo key _ b,Zo key _ b];simp only[Eu,Gj,Y0,IM,IU]
 rw[f,g,j,He ⟨c,a,i.symm⟩];simp
structure Cm(W:WM)(t:Nat):Prop where
 Af:∀ m∈W.st,MOk W.node m t
 calls:W.calls<=t
 ww:W.writes<=t
 len:W.st.length<=t+1
 ne:0<W.st.length
 next:W.next<=t
 base:W.base<=100000
 yj:W.bk.vs.length<=4*t
 yg:W.bk.vm.length<=4*t
 yl:W.bk.ns.length<=4*t
 ye:W.bk.nm.length<=4*t
 yk:W.bk.hs.length<=4*t
 yf:W.bk.hm.length<=4*t
 Bu:-9223372036854775808<=W.Bu/\W.Bu<=9223372036854775807
def WM.Ap(W:WM):Int:=if W.room<0 then 1152921504606846976 else W.room
structure NI(W:WM)(N:NM)(M:DM)(F:List Fact)(p t:Nat):Prop where
 kp:Kp N M F p t (N.readOnly=false)
 cm:Cm W t
 room:M.room=W.Ap
 As:Hist W.st F p True
 Ab:Zu W.node W.calls W.most F p
 ro:N.readOnly=W.broken
 self:W.node=(N.self:Int)
 nd:N.self<4
 most:W.most<=N.given
 given:N.given<=N.S.Ba
 yF:N.readOnly=false->N.given<N.S.Ba->Leas F p N.S.Ba
 every:W.every=(N.every:Int)
 wr:N.readOnly=false->N.every≠0->N.writes=W.writes%N.every
 nw:N.writes<=t
 dead:M.dead=false
def Doubt(W:WM)(st:List LM)(m:LM)(F:List Fact)(p n:Nat):Prop :=
 ∃ a x,F=a++[x]/\(p<=a.length->Hist st a p True)/\Zer W.node W.most m (atF F F.length) n/\W.most<n/\Zu W.node W.calls n F p/\∀ q,p<=q->q<=a.length->XU W.node W.most (atF F q).keys
structure Sh(W:WM)(M:DM)(F:List Fact)(p t:Nat):Prop where
 lg:∃ ss,Lg M ss p t/\ze ss=F
 cm:Cm W t
 room:M.room=W.Ap
 all:(Zu W.node W.calls W.most F p/\(Hist W.st F p True\/(W.Ac=true\/M.dead=true)/\Hist W.st F p False))\/(W.Ac=true\/M.dead=true)/\∃ st m n,W.st=st++[m]/\Doubt W st m F p n
theorem Ye(l:List Ver)(n:Int)(h:∀ u∈l,u.Nat):isN (grV l n):=by
 unfold grV;have key:∀ (l:List Ver) (a:Int),isN a->(∀ u∈l,u.Nat)->isN (l.foldl (fun m u=>if u.node=n then max m u.seq else m) a):=by
  intro l
  induction l with
  | nil=>intro a b _;exact b
  | cons x l e =>
   intro a b c;rw[GT];refine e _ ?_ (fun u d=>c u (Hb _ d));split
   .have:=(c x (Hf ..)).seq
    unfold isN at *;omega
   .exact b
 exact key l 0 ⟨by decide,by decide⟩ h
theorem TY{l:List Ver}{v:Ver}(h:l.length<=4)(c:∀ u∈l,VOk u)(d:v.gone=false->VOk v)(f:v.gone=false->(zx l v).length<4):(Y2 l v).length<=4/\∀ u∈Y2 l v,VOk u:=by
 have g:=WQ l v;have b:∀ u∈zx l v,u∈l:=fun u a=>(FP.1 a).1;unfold Y2;split
 .exact⟨by omega,fun u a=>c u (b u a)⟩
 .rename_i hg
  have e:=f (by simpa using hg);refine⟨by rw[Uc];omega,?_⟩;intro u a;unfold YR at a;simp only[Hh,IZ] at a;rcases a with(a|rfl)|a
  .exact c u (b u (GV a))
  .exact d (by simpa using hg)
  .exact c u (b u (Gn a))
theorem RG{l:List Ver}{v:Ver}(a:l.any v.BF=false):∀ u∈l,u.dot≠v.dot:=by
 intro u c e;have:l.any v.BF=true:=by
  rw[Dw];refine⟨u,c,?_⟩;unfold Ver.BF;unfold Ver.dot at e;simp only[FW] at e;simp[e.1,e.2]
 rw[a] at this;cases this
theorem Jr{l:List Ver}{v:Ver}(d:Yl l)(f:l.any v.BF=false):Yl (Y2 l v):=by
 have a:=Ro d v;have c:∀ u∈zx l v,u∈l:=fun u h=>(FP.1 h).1;unfold Y2;split
 .exact a
 .unfold Yl at a |-
  have:=Asc.ins Y6 (b:=v.dot) a (fun g e=>by
   rw[Gf] at e;exact RG f _ (c _ (IX _)) e)
  unfold YR
  simpa [List.map_take,List.map_drop] using this
theorem TZ{self:Nat}{v:Ver}(h:foreign self v=true)(hs:v.value.size<=128)(f:v.gone=false):VOk v:=by
 have g:=WE h
 suffices i:v.Nat/\1<=v.seq from⟨g,i.1,hs,i.2,f⟩
 unfold foreign Ver.Av at h;simp only[Cg,CB,Ch,Gr,zq,Ha] at h;obtain⟨⟨a,b,c,d⟩,_,_,e⟩:=h;unfold zS at g;exact⟨⟨⟨g.1,by omega⟩,⟨by omega,by omega⟩,⟨a.1,by omega⟩,⟨b.1,by omega⟩,⟨c.1,by omega⟩,⟨d.1,by omega⟩,by omega⟩,by omega⟩
theorem S3{key:ByteArray}{l:List Ver}(a:zp key=true)(h:∀ u∈l,VOk u)(c:l.length<=5):(zh (.inr (.inl (key,l)))).size<=1900:=by
 show(zo (XY key l)).size<=1900;rw[YK];unfold zp at a;simp only[Ha] at a;unfold XY;have d:=zG (n:=2) (by decide);have e:=WU key (by omega);have f:=Uh l h c;have b:=XL (zi 2++(Za key.data.toList++ZN l)) (by simp only[IM];omega);simp only[IM] at b;omega
theorem Jl.size{J:JM}{M:DM}{y:List Seg}{p t:Nat}(h:Jl J M y)(o:Lg M y p t):J.size<=2000*t/\J.last<=t:=by
 have z:=h.1;have c:J.last=y.length:=by rw[z];exact JM.Aw _ _ _
 refine⟨?_,by rw[c,<- o.BC.length];exact o.bd.dir⟩;rcases GN y with e|⟨r,s,e⟩
 .rw[z,e];exact Hg _
 .rw[GO] at e
  subst e;obtain⟨d,f,B,A,E,_,_⟩:=o.BC.last;have D:f∈M.ids:=o.bd.BQ (zg zl (r.length+1),f) (by rw[B];simp);have:=o.bd.file D;rw[A] at this;rw[z,JM.BJ];exact this
theorem I7{J:JM}{M:DM}{l:List Seg}{p t:Nat}(h:Lg M l p t)(b:Jl J M l)(u:t+2<=100000000)(H n:Nat)(s:n<=2000)(m:∀ g∈M.ids,g<H):YG J M H n where
 bytes:=by omega
 size:=by have:=(b.size h).1;omega
 last:=by have:=(b.size h).2;omega
 Bj:=by
  obtain⟨e,k,c,a,_⟩:=Ws h b.1 (by omega);rw[c];have:=a.bd.Bj;simp only;omega
 dir:=by
  obtain⟨e,k,c,a,_⟩:=Ws h b.1 (by omega);rw[c];have:=a.bd.dir;simp only;omega
 room:=fun f r=>by
  obtain⟨e,q,k,o,c,a,_,_,_,_,_,_,_,j,i⟩:=TV h b (by omega) n f (fun hm=>by have:=m f hm;omega);rw[c];refine⟨a.bd.part,?_,fun g d=>by have:=a.bd.file d;simp only;omega⟩;cases e with
  | none =>
   have:=((i rfl).1.size a).1;simp only;omega
  | some x =>
   have:=(b.size h).1;rw[j (by simp)];simp only;omega
theorem UA{N:NM}{M:DM}{F:List Fact}{p t:Nat}(h:Kp N M F p t True)(f:t+2<=100000000)(H:Nat)(d:∀ g∈M.ids,g<H)(x:Fact)(i:FOk x)(a:(zh x).size<=2000)(j:N.S.keys.length<=100000000)(k:N.writes<=100000000):Fit N M H x:=by
 have e:=h.Ai F.length;rw[<- h.held] at e;obtain⟨⟨l,b,_,c⟩,_⟩:=h;exact⟨i,I7 b (c trivial) f H _ a d,by omega,by omega,by omega⟩
theorem O7{N:NM}{M:DM}{F:List Fact}{p t:Nat}(h:Kp N M F p t True)(J:t+10<=100000000)(k:N.given<100000000000)(j:N.given<=N.S.Ba)(B:N.given<N.S.Ba->Leas F p N.S.Ba)(H:Nat)(q:∀ g∈M.ids,g<H)(key:ByteArray)(vs:NM->Nat->List Ver)(l:List Ver)
 (D:∀ i:NM,i.S.keys=N.S.keys->i.self=N.self->vs i (N.given+1)=l)(E:FOk (.inr (.inl (key,l))))(c:(zh (.inr (.inl (key,l)))).size<=2000)(s:N.S.keys.length<=100000000)(u:N.writes<=100000000):Xe N M H key vs where
 log:=(UA h (by omega) H q (.inl (N.given+16)) (by show N.given+16<_;omega) (by have:=TW (n:=N.given+16) (by omega);omega) s u).log
 keys:=by omega
 hints:=by have r:=h.Ai F.length;rw[<- h.held] at r;omega
 given:=by omega
 fact:=fun f r m x _ a=>by
  obtain⟨I,o,d,G,A,K,y,v,C,z,_⟩:=Kw h (by omega) k j B f (fun hm=>by have:=q f hm;omega);rw[y] at m a |-;simp only at m a |-;subst m;simp only[Gi] at a v |-;have b:d.keys=N.S.keys:=by
   rcases z with⟨_,e⟩|⟨_,e,_⟩
   .rw[e]
   .rw[e]
  rw[D {N with J:=o,S:=d,given:=N.given+1} b rfl];exact UA (N:={N with J:=o,S:=d,given:=N.given+1}) (v.kp.mono (fun _=>rfl) (IQ _)) (by omega) x a _ E c (by show d.keys.length<=_;rw[b];exact s) u
theorem MOk.more{node:Int}{m:LM}{t u:Nat}(h:MOk node m t)(a:t<=u):MOk node m u:=⟨h.Al,IP h.keys a,h.lens,h.hints,h.zero,h.node⟩
theorem Cm.more{W:WM}{t u:Nat}(h:Cm W t)(a:t<=u):Cm W u :=
 ⟨fun m hm=>(h.Af m hm).more a,IP h.calls a,IP h.ww a,by have:=h.len;omega,h.ne,IP h.next a,h.base,by have:=h.yj;omega,by have:=h.yg;omega,by have:=h.yl;omega,by have:=h.ye;omega,by have:=h.yk;omega,by have:=h.yf;omega,h.Bu⟩
theorem Cm.BZ{W W':WM}{t:Nat}(h:Cm W t)(j:W'.node=W.node)(hm:∀ m∈W'.st,MOk W.node m t)(i:W'.st.length<=t+1)(c:0<W'.st.length)(k:W'.writes<=t)(g:W'.calls=W.calls)(d:W'.next=W.next)(e:W'.base=W.base)(a:W'.bk=W.bk)(f:W'.Bu=W.Bu:=by rfl):Cm W' t :=
 ⟨fun m b=>by rw[j];exact hm m b,by rw[g];exact h.calls,k,i,c,by rw[d];exact h.next,by rw[e];exact h.base,by rw[a];exact h.yj,by rw[a];exact h.yg,by rw[a];exact h.yl,by rw[a];exact h.ye,by rw[a];exact h.yk,by rw[a];exact h.yf,by rw[f];exact h.Bu⟩
structure Aft(W:WM)(mx:LM)(M:DM)(e:Option Int)(N':NM)(M':DM)(t':Nat):Prop where
 body:∃ F' p',Kp N' M' F' p' t' (e=none)/\(e=none->N'.given<N'.S.Ba->Leas F' p' N'.S.Ba)/\(e=none->({W with writes:=W.writes+1}:WM).due=true->p'=F'.length) /\
  ((Hist (W.st++[mx]) F' p' True/\Zu W.node W.calls W.most F' p')\/(e≠none/\(Hist W.st F' p' True/\Zu W.node W.calls W.most F' p'\/∃ n,Doubt W W.st mx F' p' n/\n<=N'.given)))
 ro:N'.readOnly=e.isSome
 br:W.broken=false
 BX:Ans M M' e
 full:e=some 10->M.room<M.BG+2000
 room:M'.room=W.Ap
 cm:Cm W t'
 ww:W.writes+1<=t'
 len:W.st.length+1<=t'+1
 Af:MOk W.node mx t'
 self:W.node=(N'.self:Int)
 nd:N'.self<4
 most:W.most<=N'.given
 given:N'.given<=N'.S.Ba
 every:W.every=(N'.every:Int)
 wr:e=none->N'.every≠0->N'.writes=(W.writes+1)%N'.every
 nw:N'.writes<=t'
 dead:M.dead=false
theorem Aft.BS{W:WM}{D:LM}{M:DM}{t:NM}{s:DM}{q:Nat}(h:Aft W D M none t s q):∃ r E,NI (W.BS D) t s r E q:=by
 obtain⟨r,E,F,I,K,J⟩:=h.body;have y:=J.resolve_right (fun x=>x.1 rfl);have o:=F.le;have i:s.dead=false:=by
  rcases h.BX with⟨_,_,_,e⟩|⟨_,⟨e,_⟩|⟨e,_⟩⟩
  .rw[e];exact h.dead
  .cases e
  .cases e
 have C:t.readOnly=false:=h.ro;obtain⟨b,l,hrel,G⟩:=y.1.last o;have z:b=D:=by simp at l;exact l.symm
 subst z;have g:∀ m∈W.st++[b],MOk W.node m q:=fun m hm=>by
  rcases Hh.1 hm with hm|hm
  .exact h.cm.Af m hm
  .rw[IZ] at hm;subst hm;exact h.Af
 refine⟨r,E,?_⟩;have a:(W.BS b).node=W.node:=by unfold WM.BS;simp only;split <;> rfl
 have c:(W.BS b).calls=W.calls:=by unfold WM.BS;simp only;split <;> rfl
 have d:(W.BS b).most=W.most:=by unfold WM.BS;simp only;split <;> rfl
 have u:(W.BS b).broken=W.broken:=by unfold WM.BS;simp only;split <;> rfl
 have v:(W.BS b).every=W.every:=by unfold WM.BS;simp only;split <;> rfl
 have p:(W.BS b).writes=W.writes+1:=by unfold WM.BS;simp only;split <;> rfl
 have B:(W.BS b).Ap=W.Ap:=by unfold WM.BS;simp only;split <;> rfl
 have f:((W.BS b).st=W.st++[b])\/(({W with writes:=W.writes+1}:WM).due=true/\(W.BS b).st=[b]):=by
  unfold WM.BS;simp only;split
  .rename_i j
   refine .inr ⟨j,?_⟩;simp
  .exact .inl rfl
 have k:∀ m∈(W.BS b).st,MOk W.node m q:=fun m hm=>by
  rcases f with e|⟨_,e⟩
  .rw[e] at hm;exact g m hm
  .rw[e] at hm;exact g m (List.mem_append_right _ hm)
 exact {
  kp:=F.mono (fun _=>rfl) (IQ _)
  cm:=h.cm.BZ a k (by rcases f with e|⟨_,e⟩ <;> rw[e] <;> simp <;> (have:=h.len;omega)) (by rcases f with e|⟨_,e⟩ <;> rw[e] <;> simp) (by rw[p];exact h.ww) c (by unfold WM.BS;simp only;split <;> rfl) (by unfold WM.BS;simp only;split <;> rfl) (by unfold WM.BS;simp only;split <;> rfl) (by unfold WM.BS;simp only;split <;> rfl)
  room:=by rw[B];exact h.room
  As:=by
   rcases f with e|⟨j,e⟩
   .rw[e];exact y.1
   .rw[e,K rfl j];exact Hist.one b hrel
  Ab:=by rw[a,c,d];exact y.2
  ro:=by rw[u,h.br];exact C
  self:=by rw[a];exact h.self
  nd:=h.nd
  most:=by rw[d];exact h.most
  given:=h.given
  yF:=fun _=>I rfl
  every:=by rw[v];exact h.every
  wr:=fun _ A=>by rw[p];exact h.wr rfl A
  nw:=h.nw
  dead:=i}
theorem Aft.gone{W:WM}{a:LM}{M:DM}{x:Int}{s:NM}{f:DM}{q:Nat}(h:Aft W a M (some x) s f q)(r:f.dead=true):∃ e o,Sh {W with broken:=true,st:=W.st++[a]} f e o q:=by
 obtain⟨e,o,⟨⟨z,y,u,_⟩,_⟩,_,_,t⟩:=h.body;have d:∀ m∈W.st++[a],MOk W.node m q:=fun m hm=>by
  rcases Hh.1 hm with hm|hm
  .exact h.cm.Af m hm
  .rw[IZ] at hm;subst hm;exact h.Af
 refine⟨e,o,⟨z,y,u⟩,h.cm.BZ rfl d (by have:=h.len;show(W.st++[a]).length<=_;rw[IM];exact this) (by show 0<(W.st++[a]).length;simp) h.cm.ww rfl rfl rfl rfl,h.room,?_⟩;rcases t with⟨c,g⟩|⟨_,⟨c,g⟩|⟨n,c,_⟩⟩
 .exact .inl ⟨g,.inl c⟩
 .exact .inl ⟨g,.inr ⟨.inr r,c.maybe a⟩⟩
 .exact .inr ⟨.inr r,W.st,a,n,rfl,c⟩
theorem Aft.told{W:WM}{l:LM}{M:DM}{x:Int}{d:NM}{s:DM}{k:Nat}(h:Aft W l M (some x) d s k)(hd:s.dead=false) :
 (∀ i,(Zb {W with broken:=true} d l).2=some i->∃ f j,NI {W with broken:=true,most:=(Zb {W with broken:=true} d l).1,st:=W.st++[i]} d s f j k) /\
   ((Zb {W with broken:=true} d l).2=none->(Zb {W with broken:=true} d l).1=W.most/\∀ n,W.st[W.st.length-1]?=some n->Zb {W with broken:=true} d n=(W.most,some n)/\∃ f j,NI {W with broken:=true} d s f j k):=by
 obtain⟨f,j,L,_,_,hc⟩:=h.body;have c:=L.le;have g:d.readOnly=true:=h.ro;have b:d.S=atF f f.length:=L.held;have N:Kp d s f j k (d.readOnly=false):=L.mono (fun e=>by rw[g] at e;cases e) (IQ _);have y:∀ i,MOk W.node i k->∀ m∈W.st++[i],MOk W.node m k:=fun i o m hm=>by
  rcases Hh.1 hm with hm|hm
  .exact h.cm.Af m hm
  .rw[IZ] at hm;subst hm;exact o
 have A:∀ (t:Nat) (st:List LM),(∀ m∈st,MOk W.node m k)->st.length<=k+1->0<st.length->Hist st f j True->Zu W.node W.calls t f j->t<=d.given->NI {W with broken:=true,most:=t,st:=st} d s f j k:=fun t st p r h3 hh B R =>
  ⟨N,h.cm.BZ rfl p r h3 (by have:=h.ww;show W.writes<=k;omega) rfl rfl rfl rfl,h.room,hh,B,g,h.self,h.nd,R,h.given,(fun e=>by rw[g] at e;cases e),h.every,(fun e=>by rw[g] at e;cases e),h.nw,hd⟩
 have X:=fun(t:Nat) (i:LM) (o:MOk W.node i k)=>A t (W.st++[i]) (y i o) (by have:=h.len;rw[IM];exact this) (by simp);rcases hc with⟨p,r⟩|⟨_,⟨p,r⟩|⟨n,p,C⟩⟩
 .-- it took effect
  obtain⟨Y,q,hrel,_⟩:=p.last c;have S:Y=l:=by simp at q;exact q.symm
  subst S;rw[<- b] at hrel;have a:=r f.length c (IQ _);rw[<- b] at a;rw[WV (W:={W with broken:=true}) a.1 g hrel];exact⟨fun i e=>⟨f,j,by obtain rfl:=Hl e;exact X W.most Y h.Af p r h.most⟩,fun e=>by cases e⟩
 .-- it did not
  obtain⟨Y,q,hrel,_⟩:=p.last c;have a:=r f.length c (IQ _);rw[<- b] at a hrel;have z:∀ n,W.st[W.st.length-1]?=some n->Zb {W with broken:=true} d n=(W.most,some n)/\∃ f j,NI {W with broken:=true} d s f j k:=fun n C=>by
   rw[q] at C;obtain rfl:=Hl C;exact⟨WV (W:={W with broken:=true}) a.1 g hrel,f,j,A W.most W.st h.cm.Af (by have:=h.len;omega) h.cm.ne p r h.most⟩
  by_cases T:Zt l d.S
  .rw[WV (W:={W with broken:=true}) a.1 g T]
   refine⟨fun i e=>⟨f,j,?_⟩,fun e=>by cases e⟩;obtain rfl:=Hl e;have:=Hist.push (G:=[]) (Hg _) (fun _=>p) (by rw[Hx];exact c) l (by rw[Hx,<- b];exact T);rw[Hx] at this;exact X W.most l h.Af this r h.most
  .rw[O6 (W:={W with broken:=true}) a.1 a.2.2.2 h.Af.zero (fun e=>T e.2)]
   exact⟨fun i e=>(by cases e),fun _=>⟨rfl,z⟩⟩
 .-- its number was not told
  obtain⟨F0,x0,E,I,D,Q,B,_⟩:=p;have a:=B f.length c (IQ _);rw[<- b] at a D;rw[US (W:={W with broken:=true}) D Q (by have:=a.2.1;have:=a.2.2.1;show n<=16*W.calls;omega) g];refine⟨fun i e=>⟨f,j,?_⟩,fun e=>by cases e⟩;obtain rfl:=Hl e;have u:d.S.keys.length=l.keys.length:=by
   obtain⟨K,key,v,V,k2,k3,k4,k5,k6,k7,k8⟩:=D;rw[k6,k7,Zo key _ V,Zo key _ V];simp only[Eu,Gj,Y0,IM,IU]
  have J:l.hints=d.S.hints:=by obtain⟨K,key,v,V,k2,k3,k4,k5,k6,k7,k8⟩:=D;exact k8
  have o:MOk W.node {l with keys:=d.S.keys} k:=⟨a.1.Al,by show d.S.keys.length<=k;rw[u];exact h.Af.keys,fun e he=>by have:=(a.1.key e he).2.1;omega,h.Af.hints,a.1.given.zero,h.Af.node⟩;have:=Hist.push (F:=F0) (G:=[x0]) (by simp) (fun hp=>I hp) (by rw[<- E];exact c) {l with keys:=d.S.keys} (by rw[<- E,<- b];exact⟨rfl,J⟩);rw[<- E] at this;exact X n _ o this B C
theorem Ky(w:World)(f:Nat):(binOp .eql 104 (.pointer (some ⟨f,0,none⟩)) (.pointer (some ⟨f,0,none⟩))).run Tryz.prog w=.ok (.bool true) w:=by
 obtain⟨i,z,a,_⟩:=ZH Rp;have h:∀ d:Nat,(Op.equalIn (d+1) 104 (.pointer (some ⟨f,0,none⟩)) (.pointer (some ⟨f,0,none⟩))).run Tryz.prog w=.ok true w:=fun d=>by
  simp[Op.equalIn,run_underlying Tryz.underlying104,sizeOf,typeInfo,a,run_sameAddr_same]
 simp only[binOp];simp[Op.equal,Op.maxDepth,h 9999]
theorem MRep.drewN{K:Nat->Prop}{w:World}{p:Nat}{m:LM}(h:MRep K w p m)(n:Nat):MRep K (w.drewN n) p m:=h.Bt (fun _ _=>rfl) (fun _ e=>e)
theorem O8(l:List Ver)(v:Ver):Zi l v=0\/Zi l v=1\/Zi l v=2:=by
 unfold Zi;split
 .exact .inl rfl
 .split
  .exact .inr (.inl rfl)
  .split
   .exact .inl rfl
   .exact .inr (.inr rfl)
theorem UT{self:Nat}{key:ByteArray}{v:Ver}(h:zN self key v=0):foreign self v=true:=by
 unfold zN at h;split at h
 .cases h
 .split at h
  .cases h
  .split at h
   .cases h
   .rename_i hf
    simpa using hf
def ZR(N:NM)(key:ByteArray)(v:Ver):Option Int :=
 if zN N.self key v≠0 then some (zN N.self key v) else if N.readOnly=true then some 8 else if Zi (zj N.S.keys key) v=0 then some 0 else if Zi (zj N.S.keys key) v=1 then some 6 else none
theorem S4(N:NM)(M:DM)(key:ByteArray)(v:Ver)(f:Nat):N.accept M key v f=match ZR N key v with
 | some c=>(c,N,M)
 | none=>N.asked M (.inr (.inl (key,Y2 (zj N.S.keys key) v))) f:=by
 unfold ZR NM.accept zN Zi;cases hk:zp key
 .simp
 .by_cases hv:128<v.value.size
  .simp[hv]
  .cases hf:foreign N.self v
   .simp[hv]
   .cases hr:N.readOnly
    .simp only[hv]
     by_cases a:(zj N.S.keys key).any v.BF=true
     .simp[a]
     .simp only[a]
      by_cases b:v.gone=false/\4<=(zx (zj N.S.keys key) v).length
      .simp[b]
      .simp only[b,Gj]
       by_cases d:v.gone=true/\(zx (zj N.S.keys key) v).length=(zj N.S.keys key).length
       .simp[d]
       .simp[d]
    .simp[hv]
theorem Kz(e6:zz)(K:Nat->Prop)(B:Nat)(L:WL)(W:WM)(X:NL)(N:NM)(M:DM)(o:OpM)(w:World)(h:Play K B w L W X N M)(J:N.readOnly=W.broken)(hp:0<L.ps.length)(hl:L.ps.length<1000000)
 (a6:∀ u∈zj N.S.keys o.key,zS u.node)(b2:Yl (zj N.S.keys o.key))(h5:N.S.keys.length<1099511627776)(f8:(zj N.S.keys o.key).length<100000)
 (b3:∀ H,w.heap.size<=H->zp o.key=true->o.v.value.size<=128->foreign N.self o.v=true->N.readOnly=false->(o.v.gone=false->(zx (zj N.S.keys o.key) o.v).length<4)->Fit N M H (.inr (.inl (o.key,Y2 (zj N.S.keys o.key) o.v))))
 (m:LM)(hm:W.st[L.ps.length-1]?=some m)(c6:m.node=N.self)(f9:zE m.keys o.key=zj N.S.keys o.key)(h4:m.keys.length<100000000)
 (Q:World->Prop)
 (a0:∀ c,ZR N o.key o.v=some c->∀ X' g,PStep K B L X M w K L W X' N M g->Q g)
 (hQ:ZR N o.key o.v=none->∀ f K' X' q g,w.heap.size<=f->PStep K B L X M w K' L W X' (N.accept M o.key o.v f).2.1 (N.accept M o.key o.v f).2.2 g->MRep K' g q (m.accept o.key o.v)->q≠L.ps[L.ps.length-1] ->
   Calls Tryz.prog 110 #[.pointer (some ⟨L.wb,0,none⟩),.pointer (some ⟨q,0,none⟩),.int .i64 (N.accept M o.key o.v f).1,.agg #[.int .i64 M.refused,.int .i64 M.Bb],.int .i64 (W.free M)] g fun e l=>e=.returned (.bool true)/\Q l) :
 Calls Tryz.prog 62 #[.pointer (some ⟨L.wb,0,none⟩),.agg o.cells.toArray] w fun e l=>e=.returned (.bool true)/\Q l:=by
 have f1:Fr Nil w (w.alloc (.cells o.cells.toArray 39)):=(O _ _).alloc _;have a4:=Blk.new w o.cells 39;have HM:=Z (fun g (f:Fr Nil w g)=>Zd K L W X.LD M g (h.Bi.nil f) ((h.marks).nil f));have HF:=Z (fun g (f:Fr Nil w g)=>Zr K L W X.LD M g (h.Bi.nil f) ((h.marks).nil f));have HC:=Z (fun g (f:Fr Nil w g)=>zB g L.db X.LD M ((h.marks).nil f));obtain⟨wa,a8⟩:∃ wa,w.alloc (.cells o.cells.toArray 39)=wa:=⟨_,rfl⟩;rw[a8] at f1 a4;have e3:=a4.cell;have e1:=Z a8;simp only[OpM.cells,Ver.cells,IY,Hd] at a8 e3 |-;have b5:=Z f1;have HH:=Z h;have d3:=Z a6;have g4:=Z b3;have c9:=Z (S4 N M o.key o.v);have G:=Z a0;have HQ:=Z hQ;have d8:=Z J;have g2:=Z b2;have b7:=Z f9;have e0:=Z f8;clear h f1 a4 a6 b3 a0 hQ J b2 f9 f8;go_enter Tryz.func62,Tryz.ntmps62;go_wp2_with fail;clear a8;refine(HM.out wa b5.out).mono ?_;rintro e w2 ⟨rfl,f2⟩;have f3:Fr Nil w (w2.alloc (.cells #[.int .i64 M.refused,.int .i64 M.Bb] 111)):=(b5.out.trans f2).alloc _;have e4:=(HH.out.nil f3).CZ.Bi.CY.cell;simp only[WM.cells] at e4;have F2:=Z f2;have F3:=Z f3;clear f2 f3 e3
 go_wp2_with (refine(HC.out _ F3.out).mono ?_;rintro e g ⟨rfl,a9⟩;subst g)
 refine(HF.out _ F3.out).mono ?_;rintro e w4 ⟨rfl,f4⟩;have x:=Z (Pre.of HH.out e1.out F2.out f4);have H4:=Z x.out.st.CZ;clear f4 e4 F2 F3 e1 HM HF HC b5;have e9:IntKind.i64.wrap ((if W.room<0 then 1152921504606846976 else W.room)-M.used)=W.free M:=rfl;rw[e9];clear e9;generalize W.free M=fr at HQ |-;have a2:=Z (fun g (f:Fr Nil w4 g)=>Pn e6 B X N M o.key o.v g (H4.out.node.nil f) (H4.out.env.nil f) d3.out g2.out h5 (DO e0.out (by decide)) (fun a b c d e=>g4.out _ (x.out.fr.trans f).size a b c d e));simp only[Ver.cells] at a2;have HK:Hid (∀ g l X' N' M',Fr Nil w4 g->NStep X M g X' N' M' l->l.cell? ⟨L.wb,5,none⟩=some (.pointer (some ⟨X.nb,0,none⟩))/\∀ k,l.cell? ⟨w.heap.size,k,none⟩=([.int .i64 o.kind,.int .i64 o.a,.int .i64 o.b,.int .i64 o.c,.string o.key,.string o.text,.int .i64 o.v.node,.int .i64 o.v.seq,.int .i64 o.v.o0,.int .i64 o.v.o1,.int .i64 o.v.o2,.int .i64 o.v.o3,.string o.v.value,.bool o.v.gone,o.BN]:List Value)[k]?):=by
  intro g l X' N' M' f s;have hs:=(H4.out.nil f).trans ((H4.out.nil f).CZ.call s);refine⟨(hs.CZ.Bi.CY.cell 5).trans ?_,x.out.op hs⟩;show some L.nv=_;rw[HH.out.nv]
 have g8:=HK.out w4 w4 X N M (O _ _) (NStep.nil H4.out.node (O _ _));go_wp2_with fail
 go_region_held3 (fun l=>l.cell? ⟨L.wb,5,none⟩=some (.pointer (some ⟨X.nb,0,none⟩))/\∀ k,l.cell? ⟨w.heap.size,k,none⟩=([.int .i64 o.kind,.int .i64 o.a,.int .i64 o.b,.int .i64 o.c,.string o.key,.string o.text,.int .i64 o.v.node,.int .i64 o.v.seq,.int .i64 o.v.o0,.int .i64 o.v.o1,.int .i64 o.v.o2,.int .i64 o.v.o3,.string o.v.value,.bool o.v.gone,o.BN]:List Value)[k]?) (first|assumption|go_keep)
  (first|(go_at_call 91;refine(a2.out _ za).mono ?_;rintro e w5 ⟨f,X5,rfl,e7,c5⟩;have g1:=HK.out _ _ _ _ _ za c5;have d9:=Z (NStep.trans (NStep.nil H4.out.node (by exact za)) c5);have d1:=Z e7;clear c5 e7))
 have b9:=H4.out.call d9.out;have i:=c9.out f;have c3:=fun h K' X' q g=>HQ.out h f K' X' q g (IP x.out.fr.size d1.out);generalize N.accept M o.key o.v f=r at *;obtain⟨er,N5,M5⟩:=r;simp only at b9 c3;have T:=Z b9;have V:=Z c3;have E:=Z i;have i0:L.ps.length=W.st.length:=HH.out.Bi.Ao;have f0:W.st[L.ps.length-1]'(by omega)=m:=by rw[IW (by omega)] at hm;exact Hl hm
 have A:=(T.out.CZ.Bi.last hp).2;simp only[f0] at A;have p:=Z (fun g (f:Fr Nil w5 g)=>Zx K L _ g (T.out.CZ.Bi.nil f) hp (by omega));have a5:L.ps[L.ps.length-1]<w5.heap.size:=by obtain⟨c0,e2⟩:=A.CY;exact e2.lt
 obtain⟨q,f6⟩:∃ q,q=L.ps[L.ps.length-1]:=⟨_,rfl⟩;rw[<- f6] at A a5 p V;have b6:Hid (∀ g,Fr Nil w5 g->MRep K g q m):=fun g f=>A.Bt (zQ.BO f (fun k e=>⟨(T.out.CZ.Bi.Bt k e).1,id⟩)) (fun _ e=>e);have g3:Hid (∀ g,Fr Nil w5 g->Calls Tryz.prog 111 #[.pointer (some ⟨q,0,none⟩),.string o.key,.agg #[.int .i64 o.v.node,.int .i64 o.v.seq,.int .i64 o.v.o0,.int .i64 o.v.o1,.int .i64 o.v.o2,.int .i64 o.v.o3,.string o.v.value,.bool o.v.gone]] g fun e l=>e=.returned (.int .i64 (zN N.self o.key o.v))/\Fr Nil g l):=by
  intro g f;obtain⟨kv,hv,h9,ha,_⟩:=b6.out g f;have S:=ha.CY;rw[c6] at S;exact T7 q N.self kv hv o.key o.v g S
 have d2:=Z a5;have a3:Hid (∀ g,Fr Nil w5 g->∀ k,g.cell? ⟨w.heap.size,k,none⟩=([.int .i64 o.kind,.int .i64 o.a,.int .i64 o.b,.int .i64 o.c,.string o.key,.string o.text,.int .i64 o.v.node,.int .i64 o.v.seq,.int .i64 o.v.o0,.int .i64 o.v.o1,.int .i64 o.v.o2,.int .i64 o.v.o3,.string o.v.value,.bool o.v.gone,o.BN]:List Value)[k]?):=fun g f=>x.out.op (T.out.trans (T.out.CZ.nil f));clear g8 A a5 f6 f0 HK a2 i c3 b9 c9 HQ d1 d9 g1;have g1:=a3.out w5 (O _ _);go_wp2_with fail
 go_region_held3 (fun l=>∀ k,l.cell? ⟨w.heap.size,k,none⟩=([.int .i64 o.kind,.int .i64 o.a,.int .i64 o.b,.int .i64 o.c,.string o.key,.string o.text,.int .i64 o.v.node,.int .i64 o.v.seq,.int .i64 o.v.o0,.int .i64 o.v.o1,.int .i64 o.v.o2,.int .i64 o.v.o3,.string o.v.value,.bool o.v.gone,o.BN]:List Value)[k]?) (first|assumption|go_keep)
  (first
  | (go_at_call 111;refine(g3.out _ za).mono ?_;rintro e w8 ⟨rfl,e8⟩;have b8:Fr Nil w5 w8:=Fr.trans za e8;have t:=Z b8;have i2:=a3.out w8 b8;clear e8 b8)
  | (go_at_call 107;refine(p.out _ za).mono ?_;rintro e C ⟨rfl,n9,c7⟩;subst C))
 have h8:=T.out.trans (T.out.CZ.nil t.out);have j:=Z h8;have a1:=h8.CZ.Bi.CY.cell;simp only[WM.cells] at a1;have F:Hid (∀ c,ZR N o.key o.v=some c->er=c/\N5=N/\M5=M):=fun c hc=>by
  have:=E.out;rw[hc] at this;simp only[FW] at this;exact this
 clear h8;by_cases S:zN N.self o.key o.v=0
 .cases hbr:W.broken with
  | true =>
   have i:ZR N o.key o.v=some 8:=by unfold ZR;rw[IV (by simp[S]),He (by rw[d8.out,hbr])]
   obtain⟨rfl,rfl,rfl⟩:=F.out _ i;have Y:=Z (fun g f=>G.out _ i X5 g (x.out.st.trans (j.out.trans (j.out.CZ.nil f))));have y:=Z (Z7 K L W X5.LD M5 8 8 M5.calls w8 j.out.CZ.Bi j.out.CZ.marks);simp only[Ev,Fu] at y;rw[hbr] at a1;rw[S];clear i F V E G S;go_wp2_with fail;refine y.out.mono ?_;rintro e g ⟨rfl,a9⟩;subst g;go_wp2_with fail;go_ret;exact⟨rfl,Y.out _ (O _ _)⟩
  | false =>
   have J:N.readOnly=false:=by rw[d8.out,hbr]
   have h6:zS o.v.node:=WE (UT S);have R:=Z (fun g (f:Fr Nil w8 g)=>Q5 K q m o.key o.v g (b6.out g (t.out.trans f)) h4 (by rw[b7.out];exact d3.out) h6 (by rw[b7.out];exact e0.out));rw[hbr] at a1;rw[S];simp only[Ver.cells] at R;rw[b7.out] at R;have h7:=O8 (zj N.S.keys o.key) o.v;rcases h7 with hw|hw|hw
   .have i:ZR N o.key o.v=some 0:=by unfold ZR;rw[IV (by simp[S]),IV (by rw[J];decide),He hw]
    obtain⟨rfl,rfl,rfl⟩:=F.out _ i;have Y:=Z (fun g f=>G.out _ i X5 g (x.out.st.trans (j.out.trans (j.out.CZ.nil f))));have D:Hid (∀ g,Fr Nil w8 g->Calls Tryz.prog 112 #[.pointer (some ⟨q,0,none⟩),.string o.key,.agg #[.int .i64 o.v.node,.int .i64 o.v.seq,.int .i64 o.v.o0,.int .i64 o.v.o1,.int .i64 o.v.o2,.int .i64 o.v.o3,.string o.v.value,.bool o.v.gone]] g fun e l=>e=.returned (.tuple #[.pointer (some ⟨q,0,none⟩),.int .i64 0])/\Fr Nil g l):=fun g f=>(R.out g f).mono (fun e l h=>by
     rw[hw] at h;rcases h with⟨_,h⟩|⟨h0,_⟩|⟨h0,_⟩
     .exact h
     .exact absurd h0 (by decide)
     .exact absurd h0 (by decide))
    clear i F V E G S hw R J;go_wp2_with fail;clear a1
    go_region_held3 (fun l=>∀ k,l.cell? ⟨w.heap.size,k,none⟩=([.int .i64 o.kind,.int .i64 o.a,.int .i64 o.b,.int .i64 o.c,.string o.key,.string o.text,.int .i64 o.v.node,.int .i64 o.v.seq,.int .i64 o.v.o0,.int .i64 o.v.o1,.int .i64 o.v.o2,.int .i64 o.v.o3,.string o.v.value,.bool o.v.gone,o.BN]:List Value)[k]?) (first|assumption|go_keep)
     (first
     | (go_at_call 112;refine(D.out _ za).mono ?_;rintro e C ⟨rfl,I⟩;have z:Fr Nil w8 C:=Fr.trans za I;have v:=Z z;have a7:=a3.out C (t.out.trans z);clear I z)
     | (go_at_call 107;refine(p.out _ (t.out.trans (by exact za))).mono ?_;rintro e C ⟨rfl,n9,c7⟩;subst C))
    have e5:=fun g=>Ky g q;have y:=Z (fun g (f:Fr Nil C g)=>Z7 K L W X5.LD M5 0 0 M5.calls g (j.out.CZ.Bi.nil (v.out.trans f)) (j.out.CZ.marks.nil (v.out.trans f)));simp only[Ev,Fu] at y;clear a7;go_wp2_with fail;refine(p.out _ (t.out.trans v.out)).mono ?_;rintro e c8 ⟨rfl,b0,g0⟩;subst c8;go_wp2_with fail;refine(y.out _ (by exact za)).mono ?_;rintro e g ⟨rfl,a9⟩;subst g;go_wp2_with fail;go_ret;exact⟨rfl,Y.out _ (v.out.trans (by exact za))⟩
   .have i:ZR N o.key o.v=some 6:=by unfold ZR;rw[IV (by simp[S]),IV (by rw[J];decide),IV (by rw[hw];decide),He hw]
    obtain⟨rfl,rfl,rfl⟩:=F.out _ i;have Y:=Z (fun g f=>G.out _ i X5 g (x.out.st.trans (j.out.trans (j.out.CZ.nil f))));have D:Hid (∀ g,Fr Nil w8 g->Calls Tryz.prog 112 #[.pointer (some ⟨q,0,none⟩),.string o.key,.agg #[.int .i64 o.v.node,.int .i64 o.v.seq,.int .i64 o.v.o0,.int .i64 o.v.o1,.int .i64 o.v.o2,.int .i64 o.v.o3,.string o.v.value,.bool o.v.gone]] g fun e l=>e=.returned (.tuple #[.pointer none,.int .i64 6])/\Fr Nil g l):=fun g f=>(R.out g f).mono (fun e l h=>by
     rw[hw] at h;rcases h with⟨h0,_⟩|⟨_,h⟩|⟨h0,_⟩
     .exact absurd h0 (by decide)
     .exact h
     .exact absurd h0 (by decide))
    clear i F V E G S hw R J;go_wp2_with fail;clear a1
    go_region_held3 (fun l=>∀ k,l.cell? ⟨w.heap.size,k,none⟩=([.int .i64 o.kind,.int .i64 o.a,.int .i64 o.b,.int .i64 o.c,.string o.key,.string o.text,.int .i64 o.v.node,.int .i64 o.v.seq,.int .i64 o.v.o0,.int .i64 o.v.o1,.int .i64 o.v.o2,.int .i64 o.v.o3,.string o.v.value,.bool o.v.gone,o.BN]:List Value)[k]?) (first|assumption|go_keep)
     (first
     | (go_at_call 112;refine(D.out _ za).mono ?_;rintro e C ⟨rfl,I⟩;have z:Fr Nil w8 C:=Fr.trans za I;have v:=Z z;have a7:=a3.out C (t.out.trans z);clear I z)
     | (go_at_call 107;refine(p.out _ (t.out.trans (by exact za))).mono ?_;rintro e C ⟨rfl,n9,c7⟩;subst C))
    have y:=Z (fun g (f:Fr Nil C g)=>Z7 K L W X5.LD M5 6 6 M5.calls g (j.out.CZ.Bi.nil (v.out.trans f)) (j.out.CZ.marks.nil (v.out.trans f)));simp only[Ev,Fu] at y;clear a7;go_wp2_with fail;refine(y.out _ (by exact za)).mono ?_;rintro e g ⟨rfl,a9⟩;subst g;go_wp2_with fail;go_ret;exact⟨rfl,Y.out _ (v.out.trans (by exact za))⟩
   .have i:ZR N o.key o.v=none:=by unfold ZR;rw[IV (by simp[S]),IV (by rw[J];decide),IV (by rw[hw];decide),IV (by rw[hw];decide)]
    have d6:=Z (V.out i);have D:Hid (∀ g,Fr Nil w8 g->Calls Tryz.prog 112 #[.pointer (some ⟨q,0,none⟩),.string o.key,.agg #[.int .i64 o.v.node,.int .i64 o.v.seq,.int .i64 o.v.o0,.int .i64 o.v.o1,.int .i64 o.v.o2,.int .i64 o.v.o3,.string o.v.value,.bool o.v.gone]] g fun e l=>∃ nb,e=.returned (.tuple #[.pointer (some ⟨nb,0,none⟩),.int .i64 0])/\MRep (KGr K g l) l nb (m.accept o.key o.v)/\Fr Nil g l/\g.heap.size<=nb):=fun g f=>(R.out g f).mono (fun e l h=>by
     rw[hw] at h;rcases h with⟨h0,_⟩|⟨h0,_⟩|⟨_,h⟩
     .exact absurd h0 (by decide)
     .exact absurd h0 (by decide)
     .exact h)
    clear i F V E G S hw R J;go_wp2_with fail;clear a1
    go_region_held3 (fun l=>∀ k,l.cell? ⟨w.heap.size,k,none⟩=([.int .i64 o.kind,.int .i64 o.a,.int .i64 o.b,.int .i64 o.c,.string o.key,.string o.text,.int .i64 o.v.node,.int .i64 o.v.seq,.int .i64 o.v.o0,.int .i64 o.v.o1,.int .i64 o.v.o2,.int .i64 o.v.o3,.string o.v.value,.bool o.v.gone,o.BN]:List Value)[k]?) (first|assumption|go_keep)
     (first
     | (go_at_call 112;refine(D.out _ za).mono ?_;rintro e C ⟨nb,rfl,f7,I,f5⟩;have z:Fr Nil w8 C:=Fr.trans za I;have a7:=a3.out C (t.out.trans z);have d7:=Z f7;have d4:=Z (j.out.trans ((j.out.CZ.nil (by exact za)).trans ((j.out.CZ.nil (by exact za)).CZ.gr I)));have g5:=Z f5;have v:=Z z;clear I z f7 f5)
     | (go_at_call 107;refine(p.out _ (t.out.trans (by exact za))).mono ?_;rintro e C ⟨rfl,n9,c7⟩;subst C))
    have c4:nb≠q:=by have h1:=d2.out;have h2:w8.heap.size<=nb:=g5.out;have h3:=t.out.size;omega
    have g6:=Z c4;have e5:∀ n,(binOp .eql 104 (.pointer (some ⟨nb,0,none⟩)) (.pointer (some ⟨q,0,none⟩))).run Tryz.prog (C.drewN n)=.ok (.bool false) (C.drewN n):=by
     intro n;obtain⟨c1,a4⟩:=d7.out.CY;obtain⟨c2,g7⟩:=(b6.out C (t.out.trans v.out)).CY;exact(TJ (a4.drewN n) (g7.drewN n) c4).2
    clear a7 c4;go_wp2_with fail;refine(p.out _ (t.out.trans v.out)).mono ?_;rintro e c8 ⟨rfl,b0,g0⟩;subst c8;have b1:=Z (d4.out.trans (d4.out.CZ.nil ((O _ C).drewN b0)));have d0:=Z (d6.out _ X5 nb _ (x.out.st.trans b1.out) (d7.out.drewN b0) g6.out);have i1:=x.out.ma b1.out;clear p D d6;have g9:=e5 b0;go_wp2_with fail;refine d0.out.mono ?_;rintro e i3 ⟨rfl,b4⟩;have d5:=Z b4;clear b4;go_wp2_with fail;go_ret;exact⟨rfl,d5.out⟩
 .have i:ZR N o.key o.v=some (zN N.self o.key o.v):=by unfold ZR;rw[He S]
  obtain⟨rfl,rfl,rfl⟩:=F.out _ i;have Y:=Z (fun g f=>G.out _ i X5 g (x.out.st.trans (j.out.trans (j.out.CZ.nil f))));have e2:(zN N5.self o.key o.v==0)=false:=by simp[S]
  have y:=Z (Z7 K L W X5.LD M5 (zN N5.self o.key o.v) (zN N5.self o.key o.v) M5.calls w8 j.out.CZ.Bi j.out.CZ.marks);simp only[Ev,Fu] at y;clear i F V E G;generalize zN N5.self o.key o.v=bp at *;go_wp2_with fail;refine y.out.mono ?_;rintro e g ⟨rfl,a9⟩;subst g;go_wp2_with fail;go_ret;exact⟨rfl,Y.out _ (O _ _)⟩
end Go.Proofs.YtkhnggkkiefcdaaGreatDoor
