/- larder: joined texts -/
import Derived.Test.YtkhnggkkiefcdaaGreatDoorALAV
namespace Go.Proofs.YtkhnggkkiefcdaaGreatDoor
open Go.RowKit Proofs.Tryz
set_option maxRecDepth 100000
set_option maxHeartbeats 8000000
variable{F:List Fact}{N:NM}{M:DM}{p t:Nat}{u:List Ver}{P:Prop}{e:Option Int}{b a:ByteArray}
def atF(F:List Fact)(q:Nat):SM:=(F.take q).foldl SM.enter SM.nil
theorem LU(F:List Fact):atF F F.length=F.foldl SM.enter SM.nil:=by unfold atF;rw[Bj]
theorem XX{G:List Fact}{q:Nat}(h:q<=F.length):atF (F++G) q=atF F q:=by unfold atF;rw[BR h]
theorem XO(F:List Fact)(x:Fact):atF (F++[x]) (F.length+1)=(atF F F.length).enter x:=by
 unfold atF;rw[Bn bG,Bj,BM]
 rfl
structure Kp(N:NM)(M:DM)(F:List Fact)(p t:Nat)(qX:Prop):Prop where
 lg:∃ y,Lg M y p t/\y.F=F/\(qX->Jl N.J M y/\Mo M y N.mg)
 held:N.S=atF F F.length
theorem Kp.mono{u:Nat}{Q:Prop}(h:Kp N M F p t P)(f:Q->P)(r:t<=u):Kp N M F p u Q:=by
 obtain⟨⟨y,c,e,g⟩,o⟩:=h;exact⟨⟨y,c.tU r,e,fun q=>g (f q)⟩,o⟩
theorem Kp.le(h:Kp N M F p t P):p<=F.length:=by
 obtain⟨⟨g,a,b,c⟩,d⟩:=h;rw[<- b];exact a.pz
theorem Kp.rS(h:Kp N M F p t P)(i:Nat):(atF F i).uU.length<=32:=by
 obtain⟨⟨g,a,b,c⟩,d⟩:=h;rw[<- b];exact a.rS i
structure Went(M:DM)(P:Nat->Prop)(n:Nat)(e:Option Int)(N':NM)(M':DM)(F':List Fact)(p' t':Nat):Prop where
 kp:Kp N' M' F' p' t' (e=none)
 rD:Ans M M' e
 room:M'.room=M.room
 tL:∀ g∈M'.tL,P g\/g∈M.tL
 sW:M'.sW<=M.sW+n
 sM:e=some 10->M.room<M.sW+n
theorem Went.trans{s M2 t:DM}{P Q R:Nat->Prop}{n k m:Nat}{G y:NM}{D r:List Fact}{p2 A t2 C:Nat}(h:Went s P n none G M2 D p2 t2)(c:Went M2 Q k e y t r A C)(T:∀ g,P g->R g)(X:∀ g,Q g->R g)(hm:n+k<=m):Went s R m e y t r A C where
 kp:=c.kp
 rD:=h.rD.trans c.rD
 room:=c.room.trans h.room
 tL:=fun g K=>(c.tL g K).elim (fun x=>.inl (X g x)) (fun x=>(h.tL g x).imp (T g) id)
 sW:=by have:=h.sW;have:=c.sW;omega
 sM:=fun o=>by have h3:=c.sM o;have:=h.sW;have:=h.room;omega
theorem Went.tU{P Q:Nat->Prop}{n m:Nat}{c:NM}{M':DM}{b:List Fact}{d f u:Nat}(h:Went M P n e c M' b d f)(j:∀ g,P g->Q g)(l:n<=m)(k:f<=u):Went M Q m e c M' b d u :=
 ⟨h.kp.mono id k,h.rD,h.room,fun g i=>(h.tL g i).imp (j g) id,by have:=h.sW;omega,fun a=>by have:=h.sM a;omega⟩
theorem Went.tN(h:Kp N M F p t True)(P:Nat->Prop):Went M P 0 none N M F p t :=
 ⟨h.mono (fun _=>trivial) (CP _),Ans.refl M,rfl,fun _ a=>.inr a,CP _,fun e=>by cases e⟩
theorem LV(h:Kp N M F p t True)(L:t+3<=1000000)(x:Fact)(Q:Yb x)(s:(zj x).size<=2000)(B:(N.S.enter x).uU.length<=32)(f:Nat)(G:f∉M.tL) :
 ∃ e b i j c,N.so M x f=(e,{N with J:=i,S:=j},c)/\Went M (·=f) (zj x).size e {N with J:=i,S:=j} c (F++if b=true then [x] else []) p (t+3)/\(e=none->b=true)/\j=(if b=true then N.S.enter x else N.S)/\(e=none->M.uS<c.uS):=by
 obtain⟨⟨S,D,rfl,y⟩,A⟩:=h;rw[A] at B;obtain⟨b,e,i,c,v,C,J,l,q,g,r,K,o,u,k,a⟩:=E3 D (y trivial).1 L x Q s (by rw[BM,<- LU];exact B) f G;refine⟨e,b,i,_,c,?_,⟨⟨⟨v,J,l,fun d=>⟨(a d).2.1,q _ (y trivial).2⟩⟩,?_⟩,g,r,o,u,k⟩,fun d=>(a d).1,rfl,fun d=>(a d).2.2.2⟩
 .unfold NM.so
  rw[C]
 .show(if b=true then N.S.enter x else N.S)=_
  rw[A];split
  .rw[CN,CQ,XO]
  .rw[Bz]
theorem OL(h:Kp N M F p t True)(D:t+2<=1000000) :
 ∃ e f i q,N.tY M=(e,{N with J:=f},i)/\Went M (fun _=>False) 0 e {N with J:=f} i F q (t+2)/\p<=q/\e≠some 10/\(e=none->q=F.length):=by
 obtain⟨⟨G,r,rfl,s⟩,v⟩:=h;obtain⟨e,f,i,B,C,k,x,o,c,j,d,A,l⟩:=Gy r (s trivial).1 D;have y:N.tY M=(e,{N with J:=f},i):=by unfold NM.tY;rw[C]
 cases e with
 | none =>
  obtain⟨a,b⟩:=l rfl;exact⟨none,f,i,_,y,⟨⟨⟨B,b,x,fun _=>⟨a,o _ (s trivial).2⟩⟩,v⟩,c,j.room,fun g k=>.inr (j.tL▸k),yE j.sW,fun e=>by cases e⟩,r.pz,d,fun _=>rfl⟩
 | some n=>exact⟨some n,f,i,p,y,⟨⟨⟨B,k,x,fun e=>by cases e⟩,v⟩,c,j.room,fun g k=>.inr (j.tL▸k),yE j.sW,fun e=>absurd e d⟩,CP _,d,fun e=>by cases e⟩
def NM.qz(N:NM):Bool:=!(decide (N.tH=0)||decide (N.tf+1<N.tH))
theorem Gz(h:Kp N M F p t True)(l:t+2<=1000000) :
 ∃ e b c wr a,N.rV M=(e,{N with J:=b,tf:=wr},c)/\Went M (fun _=>False) 0 e {N with J:=b,tf:=wr} c F a (t+2)/\p<=a/\wr=(if N.qz=true then 0 else N.tf+1)/\(e=none->N.qz=true->a=F.length):=by
 unfold NM.rV NM.qz;by_cases f:N.tH=0\/N.tf+1<N.tH
 .rw[Bl f]
  refine⟨none,N.J,M,N.tf+1,p,rfl,(Went.tN (N:={N with tf:=N.tf+1}) ⟨h.lg,h.held⟩ _).tU (fun _ e=>e) (CP _) V,CP _,?_,fun _ e=>?_⟩
  .rw[CW];simp;omega
  .exfalso;simp at e;omega
 .rw[CW f]
  obtain⟨e,b,c,a,i,m,k,j,d⟩:=OL (N:={N with tf:=0}) ⟨h.lg,h.held⟩ l;refine⟨e,b,c,0,a,i,m,k,?_,fun g _=>d g⟩;rw[Bl];simp;omega
theorem OM(h:Kp N M F p t True)(ht:t+5<=1000000)(x:Fact)(hx:Yb x)(l:(zj x).size<=2000)(hq:(N.S.enter x).uU.length<=32)(f:Nat)(hf:f∉M.tL) :
 ∃ e c v g wr d r,N.change M x f=(e,{N with J:=v,S:=g,tf:=wr},d)/\Went M (·=f) (zj x).size e {N with J:=v,S:=g,tf:=wr} d (F++if c=true then [x] else []) r (t+5)/\p<=r/\(e=none->c=true)/\g=(if c=true then N.S.enter x else N.S) /\
  (e=none->wr=(if N.qz=true then 0 else N.tf+1)/\(N.qz=true->r=F.length+1))/\wr<=N.tf+1/\(e=none->M.uS<d.uS):=by
 obtain⟨K,c,y,i,D,S,s,q,A,j⟩:=LV h V x hx l hq f hf;unfold NM.change;rw[S];cases K with
 | some n=>exact⟨some n,c,y,i,N.tf,D,p,rfl,s.tU (fun _ e=>e) (CP _) V,CP _,(fun e=>by cases e),A,(fun e=>by cases e),yc _,(fun e=>by cases e)⟩
 | none =>
  have o:=q rfl;subst o;obtain⟨L,C,G,wr,p2,T,B,k,b,a⟩:=Gz (N:={N with J:=y,S:=i}) (s.kp.mono (fun _=>rfl) (CP _)) V;refine⟨L,true,C,i,wr,G,p2,T,s.trans B (fun _ e=>e) (fun _ e=>absurd e id) (CP _),k,fun _=>rfl,A,fun J=>⟨b,fun X=>?_⟩,?_,fun _=>Int.lt_of_lt_of_le (j rfl) B.rD.2.le⟩
  .have:=a J X
   rw[Bl rfl,CN,CQ] at this;exact this
  .rw[b];show(if N.qz=true then 0 else N.tf+1)<=_;split <;> omega
def Leas(F:List Fact)(p g:Nat):Prop:=∀ q,p<=q->q<=F.length->g<=(atF F q).tm
theorem SW{n:Nat}(h:n<1000000000000):(zj (.inl n)).size<=100:=by
 show(zp (W8 n)).size<=100;rw[XW];unfold W8;have a:=zL (n:=1) O;have b:=zL (n:=n) V;exact Lu
theorem GA(h:Kp N M F p t True)(ht:t+5<=1000000)(hg:N.uY<100000000000)(a0:N.uY<=N.S.tm)(hL:N.uY<N.S.tm->Leas F p N.S.tm)(f:Nat)(hf:f∉M.tL) :
 ∃ e y d D A v,N.next M f=(e,(if e=none then N.uY+1 else 0),{N with J:=y,S:=d,uY:=if e=none then N.uY+1 else N.uY},D)/\Went M (·=f) 100 e {N with J:=y,S:=d,uY:=if e=none then N.uY+1 else N.uY} D (F++A) v (t+5)/\p<=v /\
  (A=[]/\d=N.S\/A=[.inl (N.uY+16)]/\d={N.S with tm:=N.uY+16}/\¬N.uY<N.S.tm)/\(e=none->N.uY+1<=d.tm/\Leas (F++A) v d.tm):=by
 unfold NM.next;by_cases b:N.uY<N.S.tm
 .rw[Bl b]
  refine⟨none,N.J,N.S,M,[],p,rfl,?_,CP _,.inl ⟨rfl,rfl⟩,fun _=>⟨b,by rw[Bz];exact hL b⟩⟩;rw[Bz];exact(Went.tN (N:={N with uY:=N.uY+1}) ⟨h.lg,h.held⟩ _).tU (fun _ e=>e) (Bg _) V
 .rw[CW b]
  have j:=SW (n:=N.uY+16) V;obtain⟨L,x,B,c,K,T,l,s,k,_⟩:=LV h V (.inl (N.uY+16)) (UX V) V (by show N.S.uU.length<=32;rw[h.held];exact h.rS _) f hf;unfold NM.sN;rw[T];have g:(if x=true then [.inl (N.uY+16)] else []:List Fact)=[]/\c=N.S\/(if x=true then [.inl (N.uY+16)] else []:List Fact)=[.inl (N.uY+16)]/\c={N.S with tm:=N.uY+16}/\¬N.uY<N.S.tm:=by
   rw[k];cases x with
   | true=>exact .inr ⟨rfl,rfl,b⟩
   | false=>exact .inl ⟨rfl,rfl⟩
  cases L with
  | some n=>exact⟨some n,B,c,K,_,p,rfl,l.tU (fun _ e=>e) j V,CP _,g,fun e=>by cases e⟩
  | none =>
   have r:=s rfl;subst r;simp only[Ad] at k l |-;clear g;have g:([.inl (N.uY+16)]:List Fact)=[]/\c=N.S\/([.inl (N.uY+16)]:List Fact)=[.inl (N.uY+16)]/\c={N.S with tm:=N.uY+16}/\¬N.uY<N.S.tm:=.inr ⟨rfl,k,b⟩;obtain⟨S,C,G,J,X,w2,i,a1,o⟩:=OL (N:={N with J:=B,S:=c}) (l.kp.mono (fun _=>rfl) (CP _)) V;have a:=l.trans (R:=(·=f)) (m:=100) w2 (fun _ e=>e) (fun _ e=>absurd e id) V;simp only[X];cases S with
   | some n=>exact⟨some n,C,c,G,_,J,rfl,a,i,g,fun e=>by cases e⟩
   | none =>
    refine⟨none,C,c,G,_,J,rfl,⟨⟨a.kp.lg,a.kp.held⟩,a.rD,a.room,a.tL,a.sW,a.sM⟩,i,g,fun _=>⟨?_,fun q h1 h2=>?_⟩⟩
    .rw[k];exact Nat.add_le_add_left O _
    .have:=o rfl
     have hq:q=(F++[(.inl (N.uY+16):Fact)]).length:=V
     rw[hq,<- a.kp.held];exact CP _
theorem Qv(h:Kp N M F p t True)(ht:t+10<=1000000)(a3:N.uY<100000000000)(J:N.uY<=N.S.tm)(hL:N.uY<N.S.tm->Leas F p N.S.tm)(a7:N.uW=false)(key:ByteArray)(vs:NM->Nat->List Ver)(l:List Ver)(f g:Nat)(hf:f∉M.tL)(hg:g∉M.tL)(ha:Apart2 N M f g)
 (hv:∀ d:NM,d.S.uR=N.S.uR->d.tN=N.tN->vs d (N.uY+1)=l)(hx:Yb (.inr (.inl (key,l))))(a9:(zj (.inr (.inl (key,l)))).size<=1900) :
 ∃ e J' v y wr M' A B X,N.tG M key vs f g=((if e=none then N.uY+1 else 0),Zt e,{N with J:=J',S:=v,uY:=y,tf:=wr,uW:=e.isSome},M')/\Went M (fun k=>k=f\/k=g) 2000 e {N with J:=J',S:=v,uY:=y,tf:=wr,uW:=e.isSome} M' (F++A++B) X (t+10)/\p<=X /\
  (A=[]\/A=[.inl (N.uY+16)]/\¬N.uY<N.S.tm)/\(B=[]/\e≠none\/B=[.inr (.inl (key,l))]/\y=N.uY+1/\N.uY+1<=v.tm/\Leas (F++A++B) X v.tm) /\
  (e=none->wr=(if N.qz=true then 0 else N.tf+1)/\(N.qz=true->X=(F++A++B).length))/\wr<=N.tf+1/\N.uY<=y/\y<=N.uY+1/\v.uU=N.S.uU/\y<=v.tm/\(e=none->M.uS<M'.uS):=by
 obtain⟨e1,J1,j,M1,A,p1,ea,s,L,hA,hn⟩:=GA h V a3 J hL f hf;have G:A=[]\/A=[.inl (N.uY+16)]/\¬N.uY<N.S.tm:=hA.imp (fun x=>x.1) (fun x=>⟨x.1,x.2.2⟩);have a:j.uU=N.S.uU/\j.uR=N.S.uR:=by
  rcases hA with⟨_,e⟩|⟨_,e,_⟩
  .rw[e];exact⟨rfl,rfl⟩
  .rw[e];exact⟨rfl,rfl⟩
 unfold NM.tG;rw[ea];cases e1 with
 | some n =>
  refine⟨some n,J1,j,N.uY,N.tf,M1,A,[],p1,?_,?_,L,G,.inl ⟨rfl,fun e=>by cases e⟩,(fun e=>by cases e),yc _,CP _,yc _,a.1,?_,(fun e=>by cases e)⟩
  .simp[NM.rD,Zt]
  .rw[Bz]
   have:=s.tU (Q:=fun k=>k=f\/k=g) (m:=2000) (u:=t+10) (fun _ e=>.inl e) V V;exact⟨⟨this.kp.lg,this.kp.held⟩,this.rD,this.room,this.tL,this.sW,this.sM⟩
  .rcases hA with⟨_,e⟩|⟨_,e,_⟩
   .rw[e];exact J
   .rw[e];exact uf _ _
 | none =>
  simp only[Ad] at s |-;obtain⟨K,a5⟩:=hn rfl;have a2:g∉M1.tL:=fun hm=>by
   rcases s.tL g hm with e|e
   .subst e
    have:=ha rfl;rw[ea] at this;exact this hm
   .exact hg e
  have hl:=hv {N with J:=J1,S:=j,uY:=N.uY+1} a.2 rfl;rw[hl];obtain⟨e2,T,J2,C,wr,M2,p2,eb,w2,a6,S,r,o,a8,a1⟩:=OM (N:={N with J:=J1,S:=j,uY:=N.uY+1}) (s.kp.mono (fun _=>rfl) (CP _)) V (.inr (.inl (key,l))) hx V (by show(SM.holds _ _ _).uU.length<=32;rw[XC,a.1,h.held];exact h.rS _) g a2;have b:=s.trans (R:=fun k=>k=f\/k=g) (m:=2000) w2 (fun _ e=>.inl e) (fun _ e=>.inr e) V;have hk:=b.kp;have i:C.tm=j.tm:=by
   rw[r];split
   .exact YO _ _ _
   .rfl
  have a4:C.uU=N.S.uU:=by
   rw[r];split
   .show(SM.holds _ _ _).uU=_;rw[XC];exact a.1
   .exact a.1
  have hB:(if T=true then [.inr (.inl (key,l))] else []:List Fact)=[]/\e2≠none\/(if T=true then [.inr (.inl (key,l))] else []:List Fact)=[.inr (.inl (key,l))]/\N.uY+1=N.uY+1/\N.uY+1<=C.tm/\Leas (F++A++if T=true then [.inr (.inl (key,l))] else []) p2 C.tm:=by
   cases T with
   | false=>exact .inl ⟨rfl,fun e=>by have:=S e;cases this⟩
   | true =>
    refine .inr ⟨rfl,rfl,by rw[i];exact K,fun q h1 h2=>?_⟩;simp only[Ad] at h2 r |-;rw[CN,CQ] at h2;by_cases hq:q<=(F++A).length
    .rw[XX hq,i]
     exact a5 q V hq
    .have e:q=(F++A).length+1:=V
     rw[e,XO];have h3:j=atF (F++A) (F++A).length:=s.kp.held;rw[<- h3,i];show j.tm<=(SM.holds _ _ _).tm;rw[YO];exact CP _
  have a0:∀ d c (x:Fact),NM.rk d c x g=(Zt (d.change c x g).1,(d.change c x g).2.1.rD (d.change c x g).1,(d.change c x g).2.2):=fun _ _ _=>rfl;rw[a0,eb];refine⟨e2,J2,C,N.uY+1,wr,M2,A,if T=true then [.inr (.inl (key,l))] else [],p2,?_,⟨⟨hk.lg,hk.held⟩,b.rD,b.room,b.tL,b.sW,b.sM⟩,CO L a6,G,hB,fun D=>⟨(o D).1,fun hd=>?_⟩,a8,yc _,CP _,a4,by rw[i];exact K,fun D=>Int.lt_of_le_of_lt s.rD.2.le (a1 D)⟩
  .cases e2 with
   | none=>simp[NM.rD,Zt,a7]
   | some n=>simp[NM.rD,Zt]
  .have h3:=(o D).2 hd
   rw[S D,Bl rfl,CN,CQ];exact h3
theorem DJ(h:Kp N M F p t True)(J:t+5<=1000000)(q:N.uW=false)(x:Fact)(K:Yb x)(i:(zj x).size<=2000)(G:(N.S.enter x).uU.length<=32)(f:Nat)(C:f∉M.tL) :
 ∃ e l c wr d B k,N.rk M x f=(Zt e,{N with J:=l,S:=c,tf:=wr,uW:=e.isSome},d)/\Went M (·=f) 2000 e {N with J:=l,S:=c,tf:=wr,uW:=e.isSome} d (F++B) k (t+5)/\p<=k/\(B=[]/\e≠none/\c=N.S\/B=[x]/\c=N.S.enter x) /\
  (e=none->wr=(if N.qz=true then 0 else N.tf+1)/\(N.qz=true->k=(F++B).length))/\wr<=N.tf+1/\(e=none->M.uS<d.uS):=by
 obtain⟨e,s,l,c,wr,d,k,v,w,D,j,y,a,r,o⟩:=OM h J x K i G f C;have b:=w.tU (Q:=(·=f)) (m:=2000) (u:=t+5) (fun _ e=>e) i (CP _);unfold NM.rk;rw[v];refine⟨e,l,c,wr,d,if s=true then [x] else [],k,?_,⟨⟨b.kp.lg,b.kp.held⟩,b.rD,b.room,b.tL,b.sW,b.sM⟩,D,?_,fun g=>⟨(a g).1,fun A=>?_⟩,r,o⟩
 .cases e with
  | none=>simp[NM.rD,Zt,q]
  | some n=>simp[NM.rD,Zt]
 .rw[y]
  cases s with
  | false=>exact .inl ⟨rfl,(fun g=>by have:=j g;cases this),rfl⟩
  | true=>exact .inr ⟨rfl,rfl⟩
 .rw[j g,Bl rfl,CN,CQ]
  exact(a g).2 A
def Z7(b top:Int):List Ver->List Ver->Int->Option Int
 | [],[],n=>some n
 | a::l,u::m,n =>
  if u.seq=0 then(if a.seq<=b\/top<a.seq then none else if ZV {a with seq:=0} u then Z7 b top l m a.seq else none)
  else if ZV a u then Z7 b top l m n else none
 | _,_,_=>none
theorem Uj{b c:Int}:∀ {l m:List Ver}{n:Int},l.length≠m.length->Z7 b c l m n=none
 | [],[],_,h=>absurd rfl h
 | [],_::_,_,_=>rfl
 | _::_,[],_,_=>rfl
 | a::l,u::m,n,h=>by
  have d:l.length≠m.length:=fun e=>h (by simp[e]);unfold Z7;rw[Uj (n:=a.seq) d,Uj (n:=n) d];simp
theorem Wx{a top:Int}:∀ {m:List Ver}{n:Int},(∀ u∈m,u.seq≠0)->Z7 a top m m n=some n
 | [],_,_=>rfl
 | u::m,n,h=>by
  unfold Z7;rw[CW (h u (CY ..)),Bl ((Xk _ _).2 rfl),Wx (n:=n) (fun v b=>h v (CT _ b))]
def RI(o:Option Int):Int:=o.getD 0
theorem Mh(K:Nat->Prop)(L:WL)(W:WM)(v1 v2:Value)(D J:List Ver)(w:World)(h:WAt K w L W)(hc:W.uS<100000000)(h1:VRow w v1 D)(h2:VRow w v2 J)(hl:D.length<1000000000) :
 Calls prog 155 #[E L.wb 0,v1,v2] w fun e o=>e=.returned (.tuple #[I (RI (Z7 W.tM (16*W.uS) D J 0)),.bool (Z7 W.tM (16*W.uS) D J 0).isSome])/\Fr Nil w o:=by
 unfold VRow at h1 h2;obtain⟨a1,c1,rfl⟩:=zf h1;obtain⟨a2,c2,rfl⟩:=zf h2;have H1:=Z h1;have H2:=Z h2;have c3:aa (∀ c,Fr Nil w c->c.cell? (Y L.wb 11)=some (I W.uS)/\c.cell? (Y L.wb 12)=some (I W.tM)):=fun c f=>⟨(h.nil f).td.cell 11,(h.nil f).td.cell 12⟩;have hm:IntKind.i64.wrap (16*(W.uS:Int))=16*(W.uS:Int):=by rw[Bu];omega
 generalize (W.tM:Int)=mo at c3 |-;clear h h1 h2;generalize hr:Z7 mo (16*W.uS) D J 0=r;by_cases t:D.length=J.length
 .have HL:=Z t
  have HR:=Z hr;generalize hn:D.length=n at hl t H1 |-;rw[<- t] at H2 |-;have HN:=Z hn;clear t hn hr;go_enter func155,ntmps155;go_wp2_with fail
  go_loopw [8,9] (fun t8 t9 o=>∃ (i:Nat) (s:Int),i<=n/\t8=I s/\t9=I i/\Z7 mo (16*W.uS) (D.drop i) (J.drop i) s=r/\Fr Nil w o) (fun _ t9 _=>n-(intOf t9).toNat)
  case atStart=>exact⟨0,0,V,rfl,rfl,by rw[Au,Au];exact HR.o,U _ _⟩
  case round =>
   obtain⟨i,s,hi,rfl,rfl,hs,hf⟩:=hrel;by_cases d1:i<n
   .exact Ls
   .have hin:i=n:=V
    subst hin;have c8:D.drop i=[]:=yg (by have:=HN.o;omega);have c9:J.drop i=[]:=yg (by have:=HL.o;have:=HN.o;omega);rw[c8,c9] at hs;have b7:some s=r:=hs;subst b7;have HF:=Z hf;clear hs hf c8 c9;go_wp2_with fail;go_ret2;exact⟨rfl,HF.o⟩
 .rw[Uj t] at hr
  subst hr;have b6:((D.length:Int) != J.length)=true:=by simp;omega
  generalize D.length=n1 at t b6 H1 hl;generalize J.length=n2 at t b6 H2;go_enter func155,ntmps155;go_wp2_with fail;go_ret2;exact⟨rfl,U _ _⟩
theorem DK{K:Keys}(h:ZR K)(i:Nat)(c:i<K.length):zn K K[i].1=K[i].2:=by
 rw[<- TS _ h];refine O1 i c (fun j d b=>?_) (zY.2 rfl);cases e:(K[j].1==K[i].1) with
 | false=>rfl
 | true=>exact absurd (zY.1 e) (ZH (Asc.fst h b c))
def Xd(n:Int)(v:Ver):Ver:=if v.seq=0 then {v with seq:=n} else v
def LM.number(m:LM)(key:ByteArray)(n:Int):LM:={m with uR:=Z4 m.uR key ((zJ m.uR key).map (Xd n))}
theorem GB(w:World)(c:List Value)(t:TypeId)(N:Nat)(a:N=w.heap.size):Blk (w.alloc (.cells c.toArray t)) N c t:=by subst a;exact Blk.new w c t
theorem GC{p:Prop}(h:p:=by
 refine⟨⟨i+1,?_,?_,?_,?_,?_⟩,?_⟩
 .omega
 .go_num
 .rw[b.o];exact a1
 .exact fun k D=>(a0 k D).elim (v.o k) (fun h=>CO u.o.size h)
 .exact u.o.tk N (fun k D e=>by have:=(v.o) k e;omega)
 .simp[intOf];omega):p:=h
theorem P6(K:Nat->Prop)(p:Nat)(m:LM)(key:ByteArray)(n:Int)(w:World)(h:MRep K w p m)(R:m.uR.length<100000000)(a2:(zJ m.uR key).length<100000) :
 Calls prog 156 #[E p 0,.string key,I n] w fun e s =>
  ∃ r,e=.returned (E r 0)/\MRep (KGr K w s) s r (m.number key n)/\Fr Nil w s/\w.heap.size<=r:=by
 obtain⟨kv,a4,C,ha,hb⟩:=h;have HA:=Z ha;have HB:=Z hb;have B:aa (m.number key n={m with uR:=Z4 m.uR key ((zJ m.uR key).map (Xd n))}):=rfl;clear ha hb;go_enter func156,ntmps156;go_wp2_with fail;refine(Yx p kv a4 C m key w HA.o).mono ?_;rintro e G ⟨ov,rfl,j,a3,a5⟩;subst a5;have hn:=zH j;unfold maxLen at hn;obtain⟨va,vc,rfl⟩:=zf j;have q:=Z j;have A:aa (∀ (L:World) (f:Fr Nil G L) (lv:Value) (l:List Ver),VRow L lv l->(∀ k,lv.ownBlock=some k->G.heap.size<=k)->l=(zJ m.uR key).map (Xd n)->Calls prog 157 #[E p 0,.string key,lv] L fun e s =>
  ∃ r,e=.returned (E r 0)/\MRep (KGr K G s) s r (m.number key n)/\Fr Nil G s/\G.heap.size<=r):=by
  intro L f lv l hl D e;refine(XB (KGr K G L) p m key lv l L (MRep.nil ⟨kv,a4,C,HA.o,HB.o⟩ f) hl (fun k Q=>.inr ⟨D k Q,zF hl Q⟩) R).mono ?_;rintro e' s ⟨r,rfl,h1,h2,h3⟩;refine⟨r,rfl,?_,f.trans h2,CO f.size h3⟩;rw[B.o,<- e];exact h1.mono (fun k D=>D.trans f.size h2.size)
 generalize zJ m.uR key=c at hn a2 q A |-;clear j a3 B;go_wp2_with fail
 go_loopw [7,9] (fun t7 t9 s=>∃ i:Nat,i<=c.length/\t9=I i/\VRow s t7 ((c.take i).map (Xd n))/\(∀ k,t7.ownBlock=some k->G.heap.size<=k)/\Fr Nil G s) (fun _ t9 _=>c.length-(intOf t9).toNat)
 case atStart=>exact⟨0,Bg _,rfl,Bf _ 0 _ _,fun k D=>by simp[Value.ownBlock] at D,U _ _⟩
 case round =>
  obtain⟨i,hi,rfl,d,y,hf⟩:=hrel;by_cases T:i<c.length
  .obtain⟨g,rfl⟩:∃ g,va=some (Y g 0):=by
    obtain⟨g,a6,h,_⟩:=zl q.o V;simp at h;exact⟨g,h.1⟩
   have t:=VRow.cells (ze q.o hf (fun _ _=>id)) i T;have J:((c.take i).map (Xd n)).length<1000000:=by simp only[Bm,CR];omega
   have b:aa ((c.take (i+1)).map (Xd n)=(c.take i).map (Xd n)++[Xd n c[i]]):=Z (by rw[Bp T,Bq];rfl);generalize (c.take i).map (Xd n)=o at d J b;have x:=Z d;have v:=Z y;have u:=Z hf;obtain⟨ta,tc,rfl⟩:=zf d;clear d y;obtain⟨X,hX⟩:∃ X,X=c[i]:=⟨_,rfl⟩;rw[<- hX] at t b;clear hX;obtain⟨xn,xs,x0,x1,x2,x3,xv,xg⟩:=X;have y0:wr.cell? (Y g (i*8))=some (I xn):=t 0 V;have y1:wr.cell? (Y g (i*8+1))=some (I xs):=t 1 V;have y2:wr.cell? (Y g (i*8+2))=some (I x0):=t 2 V;have y3:wr.cell? (Y g (i*8+3))=some (I x1):=t 3 V;have y4:wr.cell? (Y g (i*8+4))=some (I x2):=t 4 V;have y5:wr.cell? (Y g (i*8+5))=some (I x3):=t 5 V;have y6:wr.cell? (Y g (i*8+6))=some (.string xv):=t 6 V;have y7:wr.cell? (Y g (i*8+7))=some (.bool xg):=t 7 V;clear t;by_cases hz:xs=0
   .subst hz
    have b:aa ((c.take (i+1)).map (Xd n)=o++[⟨xn,n,x0,x1,x2,x3,xv,xg⟩]):=b
    go_wp2_with (at_builtin;go_must (refine zm rfl _ _ _ _ rfl _ _ bH bH (Yt wr _ _ x.o ⟨xn,n,x0,x1,x2,x3,xv,xg⟩ J _ zd _ (GB _ [_,_,_,_,_,_,_,_] _ _ (Xv _ _).symm) _) ?_;rintro v6 w6 ⟨a1,N,a0⟩))
    exact GC
   .have b:aa ((c.take (i+1)).map (Xd n)=o++[⟨xn,xs,x0,x1,x2,x3,xv,xg⟩]):=Z (by rw[b.o];unfold Xd;rw[CW hz])
    go_wp2_with (at_builtin;go_must (refine zm rfl _ _ _ _ rfl _ _ bH bH (Yt wr _ _ x.o ⟨xn,xs,x0,x1,x2,x3,xv,xg⟩ J _ zd _ (GB _ [_,_,_,_,_,_,_,_] _ _ (Xv _ _).symm) _) ?_;rintro v6 w6 ⟨a1,N,a0⟩))
    exact GC
  .obtain rfl:i=c.length:=V
   rw[Bj] at d;obtain⟨o,ho⟩:∃ o,o=c.map (Xd n):=⟨_,rfl⟩;rw[<- ho] at d;have HO:=Z ho;clear ho;have x:=Z d;have v:=Z y;have u:=Z hf;obtain⟨ta,tc,rfl⟩:=zf d;clear d y hf;go_wp2_with fail;refine(A.o wr u.o _ o x.o v.o HO.o).mono ?_;rintro e w9 ⟨r,rfl,h1,h2,h3⟩;have H1:=Z h1;clear h1
   go_wp2
   go_ret;exact⟨r,rfl,H1.o,h2,h3⟩
theorem ON{A C:Keys}(h:ZR (A++(b,u)::C)):(∀ x∈A,zi x.1 b=true)/\(∀ x∈C,zi b x.1=true):=by
 constructor
 .intro x hx
  obtain⟨i,c,rfl⟩:=Bt.1 hx;have:=Asc.fst h (i:=i) (j:=A.length) c bG
  simpa [List.getElem_append_left c] using this
 .intro x hx
  obtain⟨i,c,rfl⟩:=Bt.1 hx;have:=Asc.fst h (i:=A.length) (j:=A.length+1+i) V ar;have d:(A++(b,u)::C)[A.length+1+i]' ar=C[i]:=by
   rw[BV V];simp[show A.length+1+i-A.length=i+1 from V]
  rw[d] at this
  simpa using this
theorem Jj{A C:Keys}{l:List Ver}(h:ZR (A++(b,u)::C))(i:l≠[]):Z4 (A++(b,u)::C) b l=A++(b,l)::C:=by
 obtain⟨d,f⟩:=ON h;have c:zi b b=false:=Zp.nz b;have g:l.isEmpty=false:=by cases l with
  | nil=>exact absurd rfl i
  | cons _ _=>rfl
 have e:zB b l ([]++A,false) (b,u)=(A++[(b,l)],true):=by simp[zB,c]
 unfold Z4;rw[g,BM,WX b l _ A [] d,BX,e,XT b l C _ (fun x j=>(ZH (f x j)).symm)];simp
theorem SX{A C:Keys}(h:ZR (A++(b,u)::C)):zJ (A++(b,u)::C) b=u:=by
 obtain⟨c,g⟩:=ON h;unfold zJ;have d:(b==b)=true:=zY.2 rfl;rw[vL,UR (fun x f=>ZH (c x f)),Option.none_or,wQ (p:=fun e:ByteArray × List Ver=>e.1==b) (a:=(b,u)) d]
def zQ(top:Int):Int->Keys->Keys->Keys × Int × Bool
 | mo,[],[]=>([],mo,true)
 | mo,(a,l)::S,(b,u)::M =>
  if a=b then
   match Z7 mo top l u 0 with
   | none=>((b,u)::M,mo,false)
   | some n=>if 0<n then((b,u.map (Xd n))::(zQ top n S M).1,(zQ top n S M).2) else((b,u)::(zQ top mo S M).1,(zQ top mo S M).2)
  else((b,u)::M,mo,false)
 | mo,_,M=>(M,mo,false)
theorem Uk{c b:Int}:∀ {l m:List Ver}{s n:Int},Z7 c b l m s=some n->n=s\/(c<n/\n<=b/\(∃ a∈l,a.seq=n)/\∃ u∈m,u.seq=0)
 | [],[],s,n,h=>by simp[Z7] at h;exact .inl h.symm
 | a::l,u::m,s,n,h=>by
  unfold Z7 at h;split at h
  .rename_i hz
   split at h
   .cases h
   .rename_i hm
    split at h
    .rcases Uk h with e|⟨h1,h2,⟨x,hx,e⟩,y,hy,e'⟩
     .subst e
      exact .inr ⟨V,V,⟨a,CY ..,rfl⟩,u,CY ..,hz⟩
     .exact .inr ⟨h1,h2,⟨x,CT _ hx,e⟩,y,CT _ hy,e'⟩
    .cases h
  .split at h
   .rcases Uk h with e|⟨h1,h2,⟨x,hx,e⟩,y,hy,e'⟩
    .exact .inl e
    .exact .inr ⟨h1,h2,⟨x,CT _ hx,e⟩,y,CT _ hy,e'⟩
   .cases h
 | [],_::_,_,_,h=>by simp[Z7] at h
 | _::_,[],_,_,h=>by simp[Z7] at h
def Zj(W:WM)(N:NM)(m:LM):Nat × Option LM :=
 if N.uW=W.tq/\N.S.uR.length=m.uR.length/\N.S.uU=m.uU then
  ((zQ (16*W.uS) W.tM N.S.uR m.uR).2.1.toNat,if (zQ (16*W.uS) W.tM N.S.uR m.uR).2.2=true then some {m with uR:=(zQ (16*W.uS) W.tM N.S.uR m.uR).1} else none)
 else(W.tM,none)
def Told(K:Nat->Prop)(B:Nat)(L:WL)(W:WM)(X:NL)(N:NM)(M:DM)(w:World)(d:Nat)(o:Option LM)(e:Ending)(c:World):Prop :=
 match o with
 | some g=>∃ b f,PStep K B L X M w b L {W with tM:=d} X N M c/\e=.returned (.tuple #[E f 0,.bool true])/\MRep b c f g
 | none=>∃ b,PStep K B L X M w b L {W with tM:=d} X N M c/\e=.returned (.tuple #[.pointer none,.bool false])
theorem Qw{b c n:Int}{l:List Ver}{S M:Keys}(h:Z7 c b l u 0=some n)(d:0<n):zQ b c ((a,l)::S) ((a,u)::M)=((a,u.map (Xd n))::(zQ b n S M).1,(zQ b n S M).2):=by
 conv=>lhs;unfold zQ
 rw[Bl rfl,h];simp only;rw[Bl d]
theorem Ul{top mo n:Int}{l:List Ver}{S M:Keys}(h:Z7 mo top l u 0=some n)(b:¬0<n):zQ top mo ((a,l)::S) ((a,u)::M)=((a,u)::(zQ top mo S M).1,(zQ top mo S M).2):=by
 conv=>lhs;unfold zQ
 rw[Bl rfl,h];simp only;rw[CW b]
theorem Th{p:Prop}(h:p:=by
 go_wp2_with fail
 go_quiet (fail)
 go_wp2_with fail;go_ret2;exact i9.o _ (f6.o.drewN _) HX.o):p:=h
theorem OO(K:Nat->Prop)(B:Nat)(L:WL)(W:WM)(X:NL)(N:NM)(M:DM)(q:Nat)(m:LM)(w:World)(h:Play K B w L W X N M)(hq:MRep K w q m)(d8:ZR m.uR)(h3:m.uR.length<100000000)(m2:∀ e∈m.uR,e.2.length<100000)(h0:m.uU.length<1000000)
 (g7:N.S.uR.length<100000000)(c7:N.S.uU.length<1000000)(c0:Zc N.S)(k8:W.uS<100000000) :
 Calls prog 101 #[E L.wb 0,E q 0] w fun e J=>Told K B L W X N M w (Zj W N m).1 (Zj W N m).2 e J:=by
 have T:=Z (fun d (f:Fr Nil w d)=>Tx X N M d (h.node.nil f));have i4:=Z (fun d (f:Fr Nil w d)=>SD X N M d (h.node.nil f) V);have i3:=Z (fun d (f:Fr Nil w d)=>Tw X N M d (h.node.nil f) c7);have HH:=Z h;have HQ:=Z hq;have a9:=Z c0;have n3:=Z d8;have i6:=Z m2;obtain⟨kv,hv,k1,ha,o2⟩:=hq;have l0:k1.length=m.uR.length:=ha.rq.length;obtain⟨ka,kc,rfl⟩:=zf ha.qi;obtain⟨ja,jc,rfl⟩:=zf ha.sE;have b7:=Z ha.td;have j5:aa (∀ (v:Value) (d:World),Fr Nil w d->d.ownsRow 0 75 2 v N.S.uU.length (zI N.S.uU)->Calls prog 121 #[v,.slice ja m.uU.length jc] d fun e J=>e=.returned (.bool (decide (N.S.uU=m.uU)))/\Fr Nil d J):=fun v d f hr=>VD v _ _ _ d hr (ze ha.sE f (fun _ _=>id)) V;have h7:∀ d,Fr Nil w d->∀ k,d.cell? (Y L.wb k)=(W.cells L)[k]?:=fun d f=>(h.tE.nil f).td.cell;have e9:=Z h7;have c6:=h7 _ (U _ _);simp only[WM.cells,h.nv] at c6;have g0:=Z h.nv;have r3:aa (L.wb<w.heap.size):=h.tE.td.lt;have c4:=Z (And.intro h3 (And.intro g7 (And.intro k8 (And.intro c7 h0))));clear h ha o2 c0 d8 m2 h7;rw[l0] at b7;obtain⟨n,d4⟩:∃ n,N.S.uR.length=n:=⟨_,rfl⟩;obtain⟨n2,d3⟩:∃ n2,N.S.uU.length=n2:=⟨_,rfl⟩;obtain⟨k,g6⟩:∃ k,m.uR.length=k:=⟨_,rfl⟩;obtain⟨k2,d0⟩:∃ k2,m.uU.length=k2:=⟨_,rfl⟩;obtain⟨b4,g5⟩:∃ b4,decide (N.S.uU=m.uU)=b4:=⟨_,rfl⟩;obtain⟨ro,h4⟩:∃ ro,N.uW=ro:=⟨_,rfl⟩;obtain⟨tp,h5⟩:∃ tp,Zj W N m=tp:=⟨_,rfl⟩;have r:aa (Zj W N m=tp/\N.S.uR.length=n/\N.S.uU.length=n2/\m.uR.length=k/\m.uU.length=k2/\decide (N.S.uU=m.uU)=b4/\N.uW=ro):=⟨h5,d4,d3,g6,d0,g5,h4⟩;rw[d4] at g7 i4 T;rw[d3] at c7 i3 T;rw[h4] at T;rw[g6] at h3 l0 b7;rw[d0] at h0 b7;rw[h5];simp only[d3,d0,g5] at j5;have i9:aa (∀ J,Fr Nil w J->¬(N.uW=W.tq/\N.S.uR.length=m.uR.length/\N.S.uU=m.uU)->Told K B L W X N M w tp.1 tp.2 (.returned (.tuple #[.pointer none,.bool false])) J):=fun J f c1=>by
  have e:tp=(W.tM,none):=by rw[<- r.o.1];unfold Zj;rw[CW c1]
  rw[e];exact⟨K,HH.o.nil f,rfl⟩
 clear d4 d3 g6 d0 g5 h4 h5 h3 g7 h0 c7 k8;go_enter func101,ntmps101;go_wp2_with fail;refine(T.o _ (U _ _)).mono ?_;rintro e w1 ⟨rfl,f1⟩;have f2:Fr Nil w (w1.alloc (.cells #[.bool ro,I n,I n2] 81)):=f1.alloc _;have k5:=Blk.new w1 [.bool ro,I n,I n2] 81;have k6:=e9.o _ f2;simp only[WM.cells,g0.o] at k6;have f0:=Z f2;have n4:=Z k5;clear c6 f1 f2 k5;go_wp2_with fail;refine(i4.o _ f0.o).mono ?_;rintro e w3 ⟨vk,rfl,G,f3,m3⟩;have g1:=f0.o.trans f3;have k7:=e9.o _ g1;simp only[WM.cells,g0.o] at k7;obtain⟨va,vc,rfl⟩:=zf G;have i0:=Z g1;have n5:=Z (n4.o.fr f3 (fun e=>e));have d7:=Z G;have i7:aa (∀ k,(Value.slice va n vc).ownBlock=some k->w.heap.size<=k):=fun k e=>CO f0.o.size (m3 k e);clear k6 g1 f3 G m3;go_wp2_with fail;refine(i3.o _ i0.o).mono ?_;rintro e w4 ⟨vh,rfl,m7,f4,_⟩;have g2:=i0.o.trans f4;have i1:=Z g2;have n6:=Z (n5.o.fr f4 (fun e=>e));have d6:=Z (ze d7.o f4 (fun _ _=>id));have o0:=Z m7;have q0:=(b7.o.fr g2 (fun e=>e)).cell;clear k7 g2 f4 m7 d7;go_wp2_with fail;refine(j5.o _ _ i1.o o0.o).mono ?_;rintro e w5 ⟨rfl,f5⟩;have c5:=i1.o.trans f5;have q4:∀ j k,(w5.drewN j).cell? (Y w1.heap.size k)=[Value.bool ro,I n,I n2][k]?:=fun j=>((n6.o.fr f5 (fun e=>e)).drewN j).cell;have h6:∀ j k,(w5.drewN j).cell? (Y L.wb k)=(W.cells L)[k]?:=fun j=>e9.o _ (c5.drewN j);have q2:∀ j k,(w5.drewN j).cell? (Y q k)=_:=fun j=>(b7.o.fr (c5.drewN j) (fun e=>e)).cell;simp only[WM.cells] at h6;have f6:=Z c5;have j2:=Z (ze d6.o f5 (fun _ _=>id));clear q0 c5 f5 d6;generalize a0:W.tq=br at h6;have b3:∀ a b:Nat,a≠b->((a:Int)==b)=false/\((a:Int) != b)=true/\decide ((a:Int)=b)=false:=fun a b h=>by
  have t:¬(a:Int)=b:=V
  exact⟨by simp[t],by simp[t],by simp[t]⟩
 have a8:∀ a:Nat,((a:Int)==a)=true/\((a:Int) != a)=false/\decide ((a:Int)=a)=true:=fun a=>⟨bG,bG,bG⟩;by_cases e1:ro=br
 .by_cases e2:n=k
  .by_cases e3:n2=k2
   .subst e1 e2 e3
    obtain⟨p1,p2,p3⟩:=a8 n;obtain⟨p4,p5,p6⟩:=a8 n2;have p7:(ro==ro)=true:=bG
    have p8:(ro != ro)=false:=bG
    clear a8 b3;cases b4 with
    | false =>
     have HX:=Z (show ¬(N.uW=W.tq/\N.S.uR.length=m.uR.length/\N.S.uU=m.uU) from fun x=>by have:=r.o.2.2.2.2.2.1;rw[yZ x.2.2] at this;cases this);clear a0;exact Th
    | true =>
     have j6:aa (tp=((zQ (16*W.uS) W.tM N.S.uR m.uR).2.1.toNat,if (zQ (16*W.uS) W.tM N.S.uR m.uR).2.2=true then some {m with uR:=(zQ (16*W.uS) W.tM N.S.uR m.uR).1} else none)):=by
      obtain⟨a1,a2,a3,a4,a5,a6,a7⟩:=r.o;show tp=_;rw[<- a1];unfold Zj;rw[Bl ⟨by rw[a7,a0],by rw[a2,a4],by simpa using a6⟩]
     clear a0 i9;have r7:n<100000000:=by have t:=c4.o.2.1;have h2:=r.o.2.1;omega
     go_wp2_with fail
     go_quiet (fail)
     clear q4 h6 q2;go_wp2_with fail
     go_loopw [1,10] (fun t1 h8 J=>∃ (i:Nat) (K1:Nat->Prop) (q1:Nat) (m1:LM) (s:Nat) (done:Keys),i<=n/\t1=E q1 0/\h8=I i/\PStep K B L X M w K1 L {W with tM:=s} X N M J/\MRep K1 J q1 m1/\m1={m with uR:=done++m.uR.drop i}/\done.length=i/\m1.uR.map Prod.fst=m.uR.map Prod.fst/\(∀ e∈m1.uR,e.2.length<100000)/\zQ (16*W.uS) W.tM N.S.uR m.uR=(done++(zQ (16*W.uS) s (N.S.uR.drop i) (m.uR.drop i)).1,(zQ (16*W.uS) s (N.S.uR.drop i) (m.uR.drop i)).2)/\J.ownsRow 0 9 1 (.slice va n vc) n (strs (N.S.uR.map Prod.fst))) (fun _ h8 _=>n-(intOf h8).toNat)
     case atStart=>exact⟨0,K,q,m,W.tM,[],Bg _,rfl,rfl,HH.o.nil (f6.o.drewN _),HQ.o.tW (zR.rv (f6.o.drewN _) (fun k e=>⟨(HH.o.tE.tW k e).1,id⟩)) (fun _ e=>e),rfl,rfl,rfl,i6.o,rfl,ze j2.o ((U _ _).drewN _) (fun _ _=>id)⟩
     case round =>
      obtain⟨i,K1,q1,m1,s,done,hi,rfl,rfl,hs,m4,d1,g8,g9,l8,d2,G⟩:=hrel;have g4:=Z m4;obtain⟨s2,r9,y,D,k3⟩:=m4;have r4:N.S.uR.length=n:=r.o.2.1;have o3:m.uR.length=n:=r.o.2.2.2.1;have m0:m1.uR.length=n:=by have:=AB List.length g9;simp only[Bm] at this;rw[this];exact o3
      have l1:y.length=n:=D.rq.length.trans m0;obtain⟨q7,q8,rfl⟩:=zf D.qi;obtain⟨s0,s1,rfl⟩:=zf D.sE;have q3:=D.td.cell;have c2:=D.qi;rw[l1] at q3 c2;by_cases r6:i<n
      .have hie:i<y.length:=V
       have c8:i<N.S.uR.length:=V
       have l5:i<m1.uR.length:=V
       have l4:i<m.uR.length:=V
       obtain⟨g,j9,hg,_,_⟩:=zl c2 V;obtain⟨rfl,rfl⟩:q7=some (Y g 0)/\q8=j9:=by simpa using hg
       have e1:=D.rq.key i hie l5;have e2:=D.rq.get i hie l5;have c6:=own_cell? c2 (i*2) _ (Z8 y i hie).1;have o6:=own_cell? c2 (i*2+1) _ (Z8 y i hie).2;have l9:m1.uR[i]=m.uR[i]:=by
        simp only[d1];rw[BV V];simp only[g8,wN,Ac,AM]
       rw[l9] at e1 e2;have o5:N.S.uR.drop i=(N.S.uR[i].1,N.S.uR[i].2)::N.S.uR.drop (i+1):=BJ c8;have k4:m.uR.drop i=(m.uR[i].1,m.uR[i].2)::m.uR.drop (i+1):=BJ l4;have o4:zu N.S.uR[i].1=true/\zn N.S.uR N.S.uR[i].1=N.S.uR[i].2:=⟨a9.o.tT _ (CU c8),DK a9.o.rp i c8⟩;have q5:m.uR[i].2.length<100000:=i6.o _ (CU l4);obtain⟨gk,ck,p9,_,_⟩:=zl G V;obtain⟨rfl,rfl⟩:va=some (Y gk 0)/\vc=ck:=by simpa using p9
       have l6:∀ d,Fr Nil wr d->d.cell? (Y gk i)=some (.string N.S.uR[i].1):=fun d f=>own_cell? (ze G f (fun _ _=>id)) i _ (by simp[strs,c8]);rw[e1] at c6;obtain⟨ea,ec,o9⟩:=zf e2;rw[o9] at o6 e2;have HD:=Z (And.intro d1 (And.intro g8 (And.intro g9 (And.intro l8 l9))));have R:=Z hs;have j1:=Z G;have n7:=Z e2;have b6:=Z k4;rw[o5,k4] at d2;generalize N.S.uR[i].1=a at *;generalize N.S.uR[i].2=al at *;generalize m.uR[i].1=c at *;generalize m.uR[i].2=o at *;have i5:=Z d2;have i8:=Z o4;have j7:=Z q5;have b9:=Blk.new wr [.string c,.slice ea o.length ec] 186;have C:Fr Nil wr (wr.alloc (.cells #[.string c,.slice ea o.length ec] 186)):=(U _ _).alloc _;obtain⟨wb,n1⟩:∃ wb,wr.alloc (.cells #[.string c,.slice ea o.length ec] 186)=wb:=⟨_,rfl⟩;rw[n1] at b9 C;have f8:aa (∀ d,Fr Nil wb d->Calls prog 24 #[E X.nb 0,.string c] d fun e J=>∃ v',e=.returned (.tuple #[v',I (if zu c=true then 0 else 2)])/\VRow J v' (if zu c=true then zn N.S.uR c else [])/\Fr Nil d J/\(∀ k,v'.ownBlock=some k->d.heap.size<=k)):=fun d f=>VA X N M c d (R.o.th.node.nil (C.trans f)) (by have:=c4.o.2.1;omega) (by have:=(a9.o.get c).2.1;omega);have l7:(if zu c=true then zn N.S.uR c else []).length<1000000000:=by
        split
        .have:=(a9.o.get c).2.1;omega
        .simp
       have e8:aa (∀ v1 d,Fr Nil wb d->VRow d v1 (if zu c=true then zn N.S.uR c else [])->Calls prog 155 #[E L.wb 0,v1,.slice ea o.length ec] d fun e J=>e=.returned (.tuple #[I (RI (Z7 s (16*W.uS) (if zu c=true then zn N.S.uR c else []) o 0)),.bool (Z7 s (16*W.uS) (if zu c=true then zn N.S.uR c else []) o 0).isSome])/\Fr Nil d J):=fun v1 d f t =>
        Mh K1 L {W with tM:=s} v1 (.slice ea o.length ec) _ o d (R.o.th.tE.nil (C.trans f)) c4.o.2.2.1 t (VRow.fr n7.o (C.trans f) (fun _ _=>id)) l7
       have Q:aa (∀ d,Fr Nil wr d->(zQ (16*W.uS) s ((a,al)::N.S.uR.drop (i+1)) ((c,o)::m.uR.drop (i+1))).2=((s:Int),false)->Told K B L W X N M w tp.1 tp.2 (.returned (.tuple #[.pointer none,.bool false])) d):=fun d f hf=>by
        rw[j6.o,i5.o];simp only[hf,wP];exact⟨K1,R.o.trans (R.o.th.nil f),rfl⟩
       have b2:aa (∀ d,Fr Nil wb d->d.cell? (Y wr.heap.size 0)=some (.string c)/\d.cell? (Y wr.heap.size 1)=some (.slice ea o.length ec)/\d.cell? (Y L.wb 5)=some (E X.nb 0)/\d.cell? (Y gk i)=some (.string a)):=fun d f=>⟨(b9.fr f id).cell 0,(b9.fr f id).cell 1,by rw[<- g0.o];exact(R.o.th.nil (C.trans f)).th.tE.td.cell 5,l6 d (C.trans f)⟩;have o7:=b2.o wb (U _ _);have n8:=Z C;have r2:aa (wr.heap.size<wb.heap.size):=b9.lt;clear b9 C l6 l7;cases hko:zu c
       all_goals
        simp only[hko,Ad,Aa,Av] at f8 e8;go_wp2_with fail;clear n1;generalize wr.heap.size=nb at *
        go_region_held3 (fun d=>d.cell? (Y nb 0)=some (.string c)/\d.cell? (Y nb 1)=some (.slice ea o.length ec)/\d.cell? (Y L.wb 5)=some (E X.nb 0)/\d.cell? (Y gk i)=some (.string a)) (first|assumption|go_keep|exact b2.o _ zd)
         (first|(go_at_call 24;refine(f8.o _ zd).mono ?_;rintro e w6 ⟨v6,rfl,m9,l2,_⟩;have g3:Fr Nil wb w6:=Fr.trans zd l2;have q6:=b2.o w6 g3;have j8:=Z m9;have b5:=Z g3;clear l2 g3 m9))
        clear o7;go_wp2_with fail;refine(e8.o v6 w6 b5.o j8.o).mono ?_;rintro e w7 ⟨rfl,f7⟩;have r5:∀ j,(w7.drewN j).cell? (Y nb 0)=some (.string c):=fun j=>(b2.o _ (b5.o.trans (f7.drewN j))).1;have c9:∀ j,(w7.drewN j).cell? (Y gk i)=some (.string a):=fun j=>(b2.o _ (b5.o.trans (f7.drewN j))).2.2.2;have l:=Z (n8.o.trans (b5.o.trans f7));have r0:aa (∀ d,Fr Nil w7 d->d.cell? (Y nb 0)=some (.string c)):=fun d f=>(b2.o _ (b5.o.trans (f7.trans f))).1;clear q6 f7 e8 f8 j8
       .have hne:a≠c:=fun e=>by have:=i8.o.1;rw[e,hko] at this;exact absurd this O
        have u:aa ((zQ (16*W.uS) s ((a,al)::N.S.uR.drop (i+1)) ((c,o)::m.uR.drop (i+1))).2=((s:Int),false)):=by show _=_;unfold zQ;rw[CW hne]
        generalize (Z7 s (16*W.uS) [] o 0)=b8;generalize b8.isSome=s3;generalize RI b8=n0;have e7:∃ b0,(a.toList != c.toList)=b0:=⟨_,rfl⟩;clear hne hko;go_wp2_with fail
        go_quiet (fail)
        go_wp2_with fail;go_ret2;exact Q.o _ (l.o.drewN _) u.o
       .by_cases hab:a=c
        .subst hab
         have b1:zn N.S.uR a=al:=i8.o.2;rw[b1];have r8:(a.toList==a.toList)=true:=bG
         have d4:(a.toList != a.toList)=false:=bG
         cases hal:Z7 s (16*W.uS) al o 0 with
         | none =>
          have u:aa ((zQ (16*W.uS) s ((a,al)::N.S.uR.drop (i+1)) ((a,o)::m.uR.drop (i+1))).2=((s:Int),false)):=by show _=_;unfold zQ;rw[Bl rfl,hal]
          simp only[Option.isSome_none];generalize RI none=n0;clear hko hal b1;go_wp2_with fail
          go_quiet (fail)
          go_wp2_with fail;go_ret2;exact Q.o _ (l.o.drewN _) u.o
         | some nn =>
          have c1:RI (some nn)=nn:=rfl;rw[c1];simp only[Option.isSome_some];have k9:∀ j k,(w7.drewN j).cell? (Y L.wb k)=_:=fun j=>(R.o.th.nil (l.o.drewN j)).th.tE.td.cell;have p0:∀ j,_:=fun j=>(R.o.th.nil (l.o.drewN j)).th.tE.td.frozen;simp only[WM.cells] at k9;have T:aa (∀ (K2:Nat->Prop) (u2:List Ver) (c3:Nat),zQ (16*W.uS) s ((a,al)::N.S.uR.drop (i+1)) ((a,o)::m.uR.drop (i+1))=((a,u2)::(zQ (16*W.uS) c3 (N.S.uR.drop (i+1)) (m.uR.drop (i+1))).1,(zQ (16*W.uS) c3 (N.S.uR.drop (i+1)) (m.uR.drop (i+1))).2)->zQ (16*W.uS) W.tM N.S.uR m.uR=((done++[(a,u2)])++(zQ (16*W.uS) c3 (N.S.uR.drop (i+1)) (m.uR.drop (i+1))).1,(zQ (16*W.uS) c3 (N.S.uR.drop (i+1)) (m.uR.drop (i+1))).2)):=fun _ u2 c3 h=>by
           rw[i5.o,h];simp
          by_cases e4:0<nn
          .obtain⟨k0,rfl⟩:∃ k0:Nat,nn=(k0:Int):=⟨nn.toNat,V⟩
           have o8:decide (0<(k0:Int))=true:=by simp;omega
           have u:=Z (Qw (a:=a) (S:=N.S.uR.drop (i+1)) (M:=m.uR.drop (i+1)) hal e4);have o1:aa (o≠[]):=fun e=>by
            rcases Uk hal with e0|⟨_,_,_,x,hx,_⟩
            .omega
            .rw[e] at hx;cases hx
           clear hko hal b1 c1;go_wp2_with fail
           go_quiet (fail)
           go_wp2_with fail;have d5:=WStep.set (R.o.th.nil (l.o.drewN nq)).th.tE 12 (I (k0:Int)) (L':=L) (W':={W with tM:=k0}) ai rfl rfl rfl rfl rfl rfl rfl rfl rfl rfl rfl rfl rfl;have m8:=R.o.trans ((R.o.th.nil (l.o.drewN nq)).trans ((R.o.th.nil (l.o.drewN nq)).th.sX d5));have m5:MRep K1 ((w7.drewN nq).setCell (Y L.wb 12) (I (k0:Int))) q1 m1:=g4.o.tW (zR.rv (((l.o.drewN nq).mono (S':=WFoot L) (fun _ _ e=>absurd e id)).trans d5.fr) (fun k e=>R.o.th.tE.tW k e)) (fun _ e=>e);have e5:=ze j1.o ((l.o.drewN nq).mono (S':=PFoot L X M) (fun _ _ e=>absurd e id)) (fun k e hp=>by have t:=i7.o k e;have h2:=HH.o.lt hp;omega);have e6:=ze e5 (d5.fr.mono (S':=PFoot L X M) (fun _ _ e=>.inl e)) (fun k e hp=>by have t:=i7.o k e;have h2:=HH.o.lt hp;omega);have A:ZR (done++(a,o)::m.uR.drop (i+1)):=by
            have t:=HD.o.2.2.1;rw[HD.o.1,b6.o] at t;have h2:=n3.o;unfold ZR at h2 |-;rw[t];exact h2
           have c9:m1.uR=done++(a,o)::m.uR.drop (i+1):=by rw[HD.o.1,b6.o]
           have d9:m1.number a (k0:Int)={m with uR:=(done++[(a,o.map (Xd k0))])++m.uR.drop (i+1)}:=by
            unfold LM.number;rw[c9,SX A,Jj A (by simpa using o1.o),HD.o.1];simp
           have j0:=Z (P6 K1 q1 m1 a (k0:Int) _ m5 (by have t:=c4.o.1;have h2:=AB List.length HD.o.2.2.1;simp only[Bm] at h2;omega) (by rw[c9,SX A];exact j7.o));have j4:=Z m8;have j3:=Z e6;have f9:=Z d9;clear d5 m8 m5 e5 e6 A c9 d9 k9 p0;refine j0.o.mono ?_;rintro e w9 ⟨q9,rfl,m6,l3,_⟩;have n9:=Z m6;have i2:=Z l3;clear m6 l3;go_wp2_with fail;refine⟨⟨i+1,_,q9,_,k0,done++[(a,o.map (Xd k0))],V,rfl,by push_cast;rfl,j4.o.trans (j4.o.th.gr i2.o),n9.o,f9.o,by rw[CN,HD.o.2.1];rfl,?_,?_,T.o K1 _ k0 u.o,ze j3.o i2.o (fun _ _=>id)⟩,by simp[intOf];omega⟩
           .have t:=HD.o.2.2.1
            rw[HD.o.1,b6.o] at t;rw[f9.o,<- t];simp
           .intro e he
            rw[f9.o] at he;have t:=HD.o.2.2.2.1;rw[HD.o.1,b6.o] at t;simp only[Be,xK,CV,BC] at he t;rcases he with he|rfl|he
            .exact t e (.inl he)
            .rw[Bm];exact j7.o
            .exact t e (.inr (.inr he))
          .have o8:decide (0<nn)=false:=by simp;omega
           have u:=Z (Ul (a:=a) (S:=N.S.uR.drop (i+1)) (M:=m.uR.drop (i+1)) hal e4);clear hko hal b1 c1;go_wp2_with fail
           go_quiet (fail)
           go_wp2_with fail;refine⟨⟨i+1,K1,q1,m1,s,done++[(a,o)],V,rfl,by push_cast;rfl,R.o.trans (R.o.th.nil (l.o.drewN _)),g4.o.tW (zR.rv (l.o.drewN _) (fun k e=>⟨(R.o.th.tE.tW k e).1,id⟩)) (fun _ e=>e),?_,by rw[CN,HD.o.2.1];rfl,HD.o.2.2.1,HD.o.2.2.2.1,T.o K1 o s u.o,ze j1.o (l.o.drewN _) (fun _ _=>id)⟩,by simp[intOf];omega⟩;rw[HD.o.1,b6.o];simp
        .have u:aa ((zQ (16*W.uS) s ((a,al)::N.S.uR.drop (i+1)) ((c,o)::m.uR.drop (i+1))).2=((s:Int),false)):=by show _=_;unfold zQ;rw[CW hab]
         have e7:(a.toList==c.toList)=false:=by
          cases e:(a.toList==c.toList) with
          | false=>rfl
          | true=>exact absurd (Wa (by simpa using e)) hab
         have r1:(a.toList != c.toList)=true:=by rw[bne,e7];rfl
         generalize (Z7 s (16*W.uS) (zn N.S.uR c) o 0)=b8;generalize RI b8=n0;cases b8.isSome
         all_goals
          clear hko hab;go_wp2_with fail
          go_quiet (fail)
          go_wp2_with fail;go_ret2;exact Q.o _ (l.o.drewN _) u.o
      .obtain rfl:i=n:=V
       have h9:aa (Told K B L W X N M w tp.1 tp.2 (.returned (.tuple #[E q1 0,.bool true])) wr):=by
        show Told K B L W X N M w tp.1 tp.2 _ wr;rw[j6.o,d2,yg V,yg V];simp only[zQ,wP,Ad,Bz];refine⟨K1,q1,hs,rfl,?_⟩;have:=g4.o;rw[d1,yg V,Bz] at this;exact this
       clear hs d1 g8 g9 l8 d2 G c2 D k3;go_wp2_with fail;go_ret2;exact h9.o
   .subst e1 e2
    obtain⟨p1,p2,p3⟩:=a8 n;obtain⟨p4,p5,p6⟩:=b3 _ _ e3;have p7:(ro==ro)=true:=bG
    have p8:(ro != ro)=false:=bG
    have HX:=Z (show ¬(N.uW=W.tq/\N.S.uR.length=m.uR.length/\N.S.uU=m.uU) from fun x=>e3 (by rw[<- r.o.2.2.1,<- r.o.2.2.2.2.1,x.2.2]));clear a0 a8 b3 e3;exact Th
  .subst e1
   obtain⟨p1,p2,p3⟩:=b3 _ _ e2;have p7:(ro==ro)=true:=bG
   have p8:(ro != ro)=false:=bG
   have HX:=Z (show ¬(N.uW=W.tq/\N.S.uR.length=m.uR.length/\N.S.uU=m.uU) from fun x=>e2 (by rw[<- r.o.2.1,<- r.o.2.2.2.1,x.2.1]));clear a0 a8 b3 e2;exact Th
 .have p7:(ro==br)=false:=by simp;exact e1
  have p8:(ro != br)=true:=by simp;exact e1
  have HX:=Z (show ¬(N.uW=W.tq/\N.S.uR.length=m.uR.length/\N.S.uU=m.uU) from fun x=>e1 (by rw[<- r.o.2.2.2.2.2.2,x.1,a0]));clear e1 a0 a8 b3;exact Th
end Go.Proofs.YtkhnggkkiefcdaaGreatDoor
