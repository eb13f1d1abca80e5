/- larder: joined texts -/
import Derived.Test.YtkhnggkkiefcdaaGreatDoorSFAG
import Derived.Test.YtkhnggkkiefcdaaGreatDoorSFAJ
import Derived.Test.YtkhnggkkiefcdaaGreatDoorSFAL
import Derived.Test.YtkhnggkkiefcdaaGreatDoorSFAM
import Derived.Test.YtkhnggkkiefcdaaGreatDoorSFAO
import Derived.Test.YtkhnggkkiefcdaaGreatDoorSFAP
import Derived.Test.YtkhnggkkiefcdaaGreatDoorSFAR
namespace Go.Proofs.YtkhnggkkiefcdaaGreatDoor
open Go.RowKit
set_option maxRecDepth 100000
set_option maxHeartbeats 8000000
def atF(F:List Fact)(q:Nat):SM:=(F.take q).foldl SM.enter SM.nil
theorem I4(F:List Fact):atF F F.length=F.foldl SM.enter SM.nil:=by unfold atF;rw[HZ]
theorem Xq{F G:List Fact}{q:Nat}(h:q<=F.length):atF (F++G) q=atF F q:=by unfold atF;rw[Gk h]
theorem Xf(F:List Fact)(x:Fact):atF (F++[x]) (F.length+1)=(atF F F.length).enter x:=by
 unfold atF;rw[Hn (by simp),HZ,Gq]
 rfl
structure Kp(N:NM)(M:DM)(F:List Fact)(p t:Nat)(good:Prop):Prop where
 lg:∃ ss,Lg M ss p t/\ze ss=F/\(good->Jl N.J M ss)
 held:N.S=atF F F.length
theorem Kp.mono{N:NM}{M:DM}{F:List Fact}{p t u:Nat}{P Q:Prop}(h:Kp N M F p t P)(f:Q->P)(r:t<=u):Kp N M F p u Q:=by
 obtain⟨⟨y,c,e,g⟩,o⟩:=h;exact⟨⟨y,c.more r,e,fun q=>g (f q)⟩,o⟩
theorem Kp.le{N:NM}{M:DM}{F:List Fact}{p t:Nat}{P:Prop}(h:Kp N M F p t P):p<=F.length:=by
 obtain⟨⟨e,a,b,c⟩,d⟩:=h;rw[<- b];exact a.AL
theorem Kp.Ai{N:NM}{M:DM}{F:List Fact}{p t:Nat}{P:Prop}(h:Kp N M F p t P)(i:Nat):(atF F i).hints.length<=32:=by
 obtain⟨⟨e,a,b,c⟩,d⟩:=h;rw[<- b];exact a.Ai i
structure Went(M:DM)(P:Nat->Prop)(n:Nat)(e:Option Int)(N':NM)(M':DM)(F':List Fact)(p' t':Nat):Prop where
 kp:Kp N' M' F' p' t' (e=none)
 BX:Ans M M' e
 room:M'.room=M.room
 ids:∀ g∈M'.ids,P g\/g∈M.ids
 BG:M'.BG<=M.BG+n
 full:e=some 10->M.room<M.BG+n
theorem Went.trans{s t y:DM}{P Q R:Nat->Prop}{n k m:Nat}{e:Option Int}{D z:NM}{C r:List Fact}{I A J B:Nat}(h:Went s P n none D t C I J)(c:Went t Q k e z y r A B)(F:∀ g,P g->R g)(G:∀ g,Q g->R g)(hm:n+k<=m):Went s R m e z y r A B where
 kp:=c.kp
 BX:=h.BX.trans c.BX
 room:=c.room.trans h.room
 ids:=fun g E=>(c.ids g E).elim (fun x=>.inl (G g x)) (fun x=>(h.ids g x).imp (F g) id)
 BG:=by have:=h.BG;have:=c.BG;omega
 full:=fun o=>by have K:=c.full o;have:=h.BG;have:=h.room;omega
theorem Went.more{M:DM}{P Q:Nat->Prop}{n m:Nat}{e:Option Int}{c:NM}{M':DM}{b:List Fact}{i j u:Nat}(h:Went M P n e c M' b i j)(l:∀ g,P g->Q g)(p:n<=m)(o:j<=u):Went M Q m e c M' b i u :=
 ⟨h.kp.mono id o,h.BX,h.room,fun g k=>(h.ids g k).imp (l g) id,by have:=h.BG;omega,fun a=>by have:=h.full a;omega⟩
theorem Went.self{N:NM}{M:DM}{F:List Fact}{p t:Nat}(h:Kp N M F p t True)(P:Nat->Prop):Went M P 0 none N M F p t :=
 ⟨h.mono (fun _=>trivial) (IQ _),Ans.refl M,rfl,fun _ a=>.inr a,IQ _,fun e=>by cases e⟩
theorem NZ{N:NM}{M:DM}{F:List Fact}{p t:Nat}(h:Kp N M F p t True)(G:t+3<=1000000000)(x:Fact)(I:ZG x)(r:(zh x).size<=2000)(y:(N.S.enter x).hints.length<=32)(f:Nat)(C:f∉M.ids) :
 ∃ e a d i g,N.write M x f=(e,{N with J:=d,S:=i},g)/\Went M (·=f) (zh x).size e {N with J:=d,S:=i} g (F++if a=true then [x] else []) p (t+3)/\(e=none->a=true)/\i=(if a=true then N.S.enter x else N.S):=by
 obtain⟨⟨J,A,rfl,B⟩,v⟩:=h;rw[v] at y;obtain⟨a,e,d,g,u,z,D,l,b,q,E,o,s,k,c⟩:=Jq A (B trivial) G x I r (by rw[Gq,<- I4];exact y) f C;refine⟨e,a,d,_,g,?_,⟨⟨⟨u,D,l,fun j=>(c j).2.1⟩,?_⟩,b,q,o,s,k⟩,fun j=>(c j).1,rfl⟩
 .unfold NM.write
  rw[z]
 .show(if a=true then N.S.enter x else N.S)=_
  rw[v];split
  .rw[IM,IU,Xf]
  .rw[Hx]
theorem O1{N:NM}{M:DM}{F:List Fact}{p t:Nat}(h:Kp N M F p t True)(A:t+2<=1000000000) :
 ∃ e f i o,N.sync M=(e,{N with J:=f},i)/\Went M (fun _=>False) 0 e {N with J:=f} i F o (t+2)/\p<=o/\e≠some 10/\(e=none->o=F.length):=by
 obtain⟨⟨x,q,rfl,z⟩,r⟩:=h;obtain⟨e,f,i,y,k,c,j,d,v,l⟩:=Ku q (z trivial) A;have s:N.sync M=(e,{N with J:=f},i):=by unfold NM.sync;rw[y]
 cases e with
 | none =>
  obtain⟨a,b⟩:=l rfl;exact⟨none,f,i,_,s,⟨⟨⟨x,b,rfl,fun _=>a⟩,r⟩,c,j.room,fun g k=>.inr (j.ids▸k),DQ j.BG,fun e=>by cases e⟩,q.AL,d,fun _=>rfl⟩
 | some n=>exact⟨some n,f,i,p,s,⟨⟨⟨x,k,rfl,fun e=>by cases e⟩,r⟩,c,j.room,fun g k=>.inr (j.ids▸k),DQ j.BG,fun e=>absurd e d⟩,IQ _,d,fun e=>by cases e⟩
def NM.due(N:NM):Bool:=!(decide (N.every=0)||decide (N.writes+1<N.every))
theorem Kv{N:NM}{M:DM}{F:List Fact}{p t:Nat}(h:Kp N M F p t True)(l:t+2<=1000000000) :
 ∃ e b c wr a,N.counted M=(e,{N with J:=b,writes:=wr},c)/\Went M (fun _=>False) 0 e {N with J:=b,writes:=wr} c F a (t+2)/\p<=a/\wr=(if N.due=true then 0 else N.writes+1)/\(e=none->N.due=true->a=F.length):=by
 unfold NM.counted NM.due;by_cases f:N.every=0\/N.writes+1<N.every
 .rw[He f]
  refine⟨none,N.J,M,N.writes+1,p,rfl,(Went.self (N:={N with writes:=N.writes+1}) ⟨h.lg,h.held⟩ _).more (fun _ e=>e) (IQ _) (by omega),IQ _,?_,fun _ e=>?_⟩
  .rw[IV];simp;omega
  .exfalso;simp at e;omega
 .rw[IV f]
  obtain⟨e,b,c,a,i,m,k,j,d⟩:=O1 (N:={N with writes:=0}) ⟨h.lg,h.held⟩ l;refine⟨e,b,c,0,a,i,m,k,?_,fun g _=>d g⟩;rw[He];simp;omega
theorem O2{N:NM}{M:DM}{F:List Fact}{p t:Nat}(h:Kp N M F p t True)(X:t+5<=1000000000)(x:Fact)(S:ZG x)(j:(zh x).size<=2000)(L:(N.S.enter x).hints.length<=32)(f:Nat)(K:f∉M.ids) :
 ∃ e c r d wr v o,N.change M x f=(e,{N with J:=r,S:=d,writes:=wr},v)/\Went M (·=f) (zh x).size e {N with J:=r,S:=d,writes:=wr} v (F++if c=true then [x] else []) o (t+5)/\p<=o/\(e=none->c=true)/\d=(if c=true then N.S.enter x else N.S) /\
  (e=none->wr=(if N.due=true then 0 else N.writes+1)/\(N.due=true->o=F.length+1))/\wr<=N.writes+1:=by
 obtain⟨D,c,s,g,A,G,q,l,y⟩:=NZ h (by omega) x S j L f K;unfold NM.change;rw[G];cases D with
 | some n=>exact⟨some n,c,s,g,N.writes,A,p,rfl,q.more (fun _ e=>e) (IQ _) (by omega),IQ _,(fun e=>by cases e),y,(fun e=>by cases e),Fs _⟩
 | none =>
  have k:=l rfl;subst k;obtain⟨E,z,B,wr,T,I,V,i,b,a⟩:=Kv (N:={N with J:=s,S:=g}) (q.kp.mono (fun _=>rfl) (IQ _)) (by omega);refine⟨E,true,z,g,wr,B,T,I,q.trans V (fun _ e=>e) (fun _ e=>absurd e id) (IQ _),i,fun _=>rfl,y,fun C=>⟨b,fun J=>?_⟩,?_⟩
  .have:=a C J
   rw[He rfl,IM,IU] at this;exact this
  .rw[b];show(if N.due=true then 0 else N.writes+1)<=_;split <;> omega
def Leas(F:List Fact)(p g:Nat):Prop:=∀ q,p<=q->q<=F.length->g<=(atF F q).Ba
theorem TW{n:Nat}(h:n<1000000000000):(zh (.inl n)).size<=100:=by
 show(zo (XX n)).size<=100;rw[YK];unfold XX;have b:=zG (n:=1) (by decide);have c:=zG (n:=n) (by omega);have a:=XL (zi 1++zi n) (by rw[IM];omega);rw[IM] at a;omega
theorem Kw{N:NM}{M:DM}{F:List Fact}{p t:Nat}(h:Kp N M F p t True)(ht:t+5<=1000000000)(hg:N.given<100000000000)(V:N.given<=N.S.Ba)(S:N.given<N.S.Ba->Leas F p N.S.Ba)(f:Nat)(T:f∉M.ids) :
 ∃ e y d C A v,N.next M f=(e,(if e=none then N.given+1 else 0),{N with J:=y,S:=d,given:=if e=none then N.given+1 else N.given},C)/\Went M (·=f) 100 e {N with J:=y,S:=d,given:=if e=none then N.given+1 else N.given} C (F++A) v (t+5)/\p<=v /\
  (A=[]/\d=N.S\/A=[.inl (N.given+16)]/\d={N.S with Ba:=N.given+16}/\¬N.given<N.S.Ba)/\(e=none->N.given+1<=d.Ba/\Leas (F++A) v d.Ba):=by
 unfold NM.next;by_cases b:N.given<N.S.Ba
 .rw[He b]
  refine⟨none,N.J,N.S,M,[],p,rfl,?_,IQ _,.inl ⟨rfl,rfl⟩,fun _=>⟨b,by rw[Hx];exact S b⟩⟩;rw[Hx];exact(Went.self (N:={N with given:=N.given+1}) ⟨h.lg,h.held⟩ _).more (fun _ e=>e) (Hg _) (by omega)
 .rw[IV b]
  have j:=TW (n:=N.given+16) (by omega);obtain⟨I,x,z,c,G,K,l,s,k⟩:=NZ h (by omega) (.inl (N.given+16)) (Uj (by omega)) (by omega) (by show N.S.hints.length<=32;rw[h.held];exact h.Ai _) f T;unfold NM.Br;rw[K];have g:(if x=true then [.inl (N.given+16)] else []:List Fact)=[]/\c=N.S\/(if x=true then [.inl (N.given+16)] else []:List Fact)=[.inl (N.given+16)]/\c={N.S with Ba:=N.given+16}/\¬N.given<N.S.Ba:=by
   rw[k];cases x with
   | true=>exact .inr ⟨rfl,rfl,b⟩
   | false=>exact .inl ⟨rfl,rfl⟩
  cases I with
  | some n=>exact⟨some n,z,c,G,_,p,rfl,l.more (fun _ e=>e) j (by omega),IQ _,g,fun e=>by cases e⟩
  | none =>
   have r:=s rfl;subst r;simp only[Gi] at k l |-;clear g;have g:([.inl (N.given+16)]:List Fact)=[]/\c=N.S\/([.inl (N.given+16)]:List Fact)=[.inl (N.given+16)]/\c={N.S with Ba:=N.given+16}/\¬N.given<N.S.Ba:=.inr ⟨rfl,k,b⟩;obtain⟨J,B,D,E,L,w2,i,X,o⟩:=O1 (N:={N with J:=z,S:=c}) (l.kp.mono (fun _=>rfl) (IQ _)) (by omega);have a:=l.trans (R:=(·=f)) (m:=100) w2 (fun _ e=>e) (fun _ e=>absurd e id) (by omega);simp only[L];cases J with
   | some n=>exact⟨some n,B,c,D,_,E,rfl,a,i,g,fun e=>by cases e⟩
   | none =>
    refine⟨none,B,c,D,_,E,rfl,⟨⟨a.kp.lg,a.kp.held⟩,a.BX,a.room,a.ids,a.BG,a.full⟩,i,g,fun _=>⟨?_,fun q h1 h2=>?_⟩⟩
    .rw[k];exact Nat.add_le_add_left (by decide) _
    .have:=o rfl
     have Y:q=(F++[(.inl (N.given+16):Fact)]).length:=by omega
     rw[Y,<- a.kp.held];exact IQ _
theorem RC{N:NM}{M:DM}{F:List Fact}{p t:Nat}(h:Kp N M F p t True)(ht:t+10<=1000000000)(a1:N.given<100000000000)(D:N.given<=N.S.Ba)(hL:N.given<N.S.Ba->Leas F p N.S.Ba)(a5:N.readOnly=false)(key:ByteArray)(vs:NM->Nat->List Ver)(l:List Ver)(f g:Nat)(hf:f∉M.ids)(hg:g∉M.ids)(ha:Apart2 N M f g)
 (hv:∀ d:NM,d.S.keys=N.S.keys->d.self=N.self->vs d (N.given+1)=l)(hx:ZG (.inr (.inl (key,l))))(a7:(zh (.inr (.inl (key,l)))).size<=1900) :
 ∃ e J' s v wr M' A B K,N.replace M key vs f g=((if e=none then N.given+1 else 0),Zy e,{N with J:=J',S:=s,given:=v,writes:=wr,readOnly:=e.isSome},M')/\Went M (fun k=>k=f\/k=g) 2000 e {N with J:=J',S:=s,given:=v,writes:=wr,readOnly:=e.isSome} M' (F++A++B) K (t+10)/\p<=K /\
  (A=[]\/A=[.inl (N.given+16)]/\¬N.given<N.S.Ba)/\(B=[]/\e≠none\/B=[.inr (.inl (key,l))]/\v=N.given+1/\N.given+1<=s.Ba/\Leas (F++A++B) K s.Ba) /\
  (e=none->wr=(if N.due=true then 0 else N.writes+1)/\(N.due=true->K=(F++A++B).length))/\wr<=N.writes+1/\N.given<=v/\v<=N.given+1/\s.hints=N.S.hints/\v<=s.Ba:=by
 obtain⟨e1,L,j,M1,A,p1,ea,y,G,X,hn⟩:=Kw h (by omega) a1 D hL f hf;have C:A=[]\/A=[.inl (N.given+16)]/\¬N.given<N.S.Ba:=X.imp (fun x=>x.1) (fun x=>⟨x.1,x.2.2⟩);have a:j.hints=N.S.hints/\j.keys=N.S.keys:=by
  rcases X with⟨_,e⟩|⟨_,e,_⟩
  .rw[e];exact⟨rfl,rfl⟩
  .rw[e];exact⟨rfl,rfl⟩
 unfold NM.replace;rw[ea];cases e1 with
 | some n =>
  refine⟨some n,L,j,N.given,N.writes,M1,A,[],p1,?_,?_,G,C,.inl ⟨rfl,fun e=>by cases e⟩,(fun e=>by cases e),Fs _,IQ _,Fs _,a.1,?_⟩
  .simp[NM.BX,Zy]
  .rw[Hx]
   have:=y.more (Q:=fun k=>k=f\/k=g) (m:=2000) (u:=t+10) (fun _ e=>.inl e) (by omega) (by omega);exact⟨⟨this.kp.lg,this.kp.held⟩,this.BX,this.room,this.ids,this.BG,this.full⟩
  .rcases X with⟨_,e⟩|⟨_,e,_⟩
   .rw[e];exact D
   .rw[e];exact Cp _ _
 | none =>
  simp only[Gi] at y |-;obtain⟨E,a3⟩:=hn rfl;have a0:g∉M1.ids:=fun hm=>by
   rcases y.ids g hm with e|e
   .subst e
    have:=ha rfl;rw[ea] at this;exact this hm
   .exact hg e
  have hl:=hv {N with J:=L,S:=j,given:=N.given+1} a.2 rfl;rw[hl];obtain⟨T,J,J2,z,wr,M2,p2,eb,w2,a4,I,r,o,a6⟩:=O2 (N:={N with J:=L,S:=j,given:=N.given+1}) (y.kp.mono (fun _=>rfl) (IQ _)) (by omega) (.inr (.inl (key,l))) hx (by omega) (by show(SM.holds _ _ _).hints.length<=32;rw[YC,a.1,h.held];exact h.Ai _) g a0;have b:=y.trans (R:=fun k=>k=f\/k=g) (m:=2000) w2 (fun _ e=>.inl e) (fun _ e=>.inr e) (by omega);have hk:=b.kp;have i:z.Ba=j.Ba:=by
   rw[r];split
   .exact ZQ _ _ _
   .rfl
  have a2:z.hints=N.S.hints:=by
   rw[r];split
   .show(SM.holds _ _ _).hints=_;rw[YC];exact a.1
   .exact a.1
  have hB:(if J=true then [.inr (.inl (key,l))] else []:List Fact)=[]/\T≠none\/(if J=true then [.inr (.inl (key,l))] else []:List Fact)=[.inr (.inl (key,l))]/\N.given+1=N.given+1/\N.given+1<=z.Ba/\Leas (F++A++if J=true then [.inr (.inl (key,l))] else []) p2 z.Ba:=by
   cases J with
   | false=>exact .inl ⟨rfl,fun e=>by have:=I e;cases this⟩
   | true =>
    refine .inr ⟨rfl,rfl,by rw[i];exact E,fun q h1 h2=>?_⟩;simp only[Gi] at h2 r |-;rw[IM,IU] at h2;by_cases hq:q<=(F++A).length
    .rw[Xq hq,i]
     exact a3 q (by omega) hq
    .have e:q=(F++A).length+1:=by omega
     rw[e,Xf];have V:j=atF (F++A) (F++A).length:=y.kp.held;rw[<- V,i];show j.Ba<=(SM.holds _ _ _).Ba;rw[ZQ];exact IQ _
  have Y:∀ d c (x:Fact),NM.asked d c x g=(Zy (d.change c x g).1,(d.change c x g).2.1.BX (d.change c x g).1,(d.change c x g).2.2):=fun _ _ _=>rfl;rw[Y,eb];refine⟨T,J2,z,N.given+1,wr,M2,A,if J=true then [.inr (.inl (key,l))] else [],p2,?_,⟨⟨hk.lg,hk.held⟩,b.BX,b.room,b.ids,b.BG,b.full⟩,IP G a4,C,hB,fun S=>⟨(o S).1,fun hd=>?_⟩,a6,Fs _,IQ _,a2,by rw[i];exact E⟩
  .cases T with
   | none=>simp[NM.BX,Zy,a5]
   | some n=>simp[NM.BX,Zy]
  .have V:=(o S).2 hd
   rw[I S,He rfl,IM,IU];exact V
theorem I5{N:NM}{M:DM}{F:List Fact}{p t:Nat}(h:Kp N M F p t True)(D:t+5<=1000000000)(o:N.readOnly=false)(x:Fact)(E:ZG x)(g:(zh x).size<=2000)(C:(N.S.enter x).hints.length<=32)(f:Nat)(z:f∉M.ids) :
 ∃ e k c wr l B j,N.asked M x f=(Zy e,{N with J:=k,S:=c,writes:=wr,readOnly:=e.isSome},l)/\Went M (·=f) 2000 e {N with J:=k,S:=c,writes:=wr,readOnly:=e.isSome} l (F++B) j (t+5)/\p<=j/\(B=[]/\e≠none/\c=N.S\/B=[x]/\c=N.S.enter x) /\
  (e=none->wr=(if N.due=true then 0 else N.writes+1)/\(N.due=true->j=(F++B).length))/\wr<=N.writes+1:=by
 obtain⟨e,r,k,c,wr,l,j,s,w,A,i,v,a,q⟩:=O2 h D x E g C f z;have b:=w.more (Q:=(·=f)) (m:=2000) (u:=t+5) (fun _ e=>e) g (IQ _);unfold NM.asked;rw[s];refine⟨e,k,c,wr,l,if r=true then [x] else [],j,?_,⟨⟨b.kp.lg,b.kp.held⟩,b.BX,b.room,b.ids,b.BG,b.full⟩,A,?_,fun d=>⟨(a d).1,fun y=>?_⟩,q⟩
 .cases e with
  | none=>simp[NM.BX,Zy,o]
  | some n=>simp[NM.BX,Zy]
 .rw[v]
  cases r with
  | false=>exact .inl ⟨rfl,(fun d=>by have:=i d;cases this),rfl⟩
  | true=>exact .inr ⟨rfl,rfl⟩
 .rw[i d,He rfl,IM,IU]
  exact(a d).2 y
def Z2(b top:Int):List Ver->List Ver->Int->Option Int
 | [],[],n=>some n
 | a::l,u::m,n =>
  if u.seq=0 then(if a.seq<=b\/top<a.seq then none else if Zp {a with seq:=0} u then Z2 b top l m a.seq else none)
  else if Zp a u then Z2 b top l m n else none
 | _,_,_=>none
theorem VF{b c:Int}:∀ {l m:List Ver}{n:Int},l.length≠m.length->Z2 b c l m n=none
 | [],[],_,h=>absurd rfl h
 | [],_::_,_,_=>rfl
 | _::_,[],_,_=>rfl
 | a::l,u::m,n,h=>by
  have d:l.length≠m.length:=fun e=>h (by simp[e]);unfold Z2;rw[VF (n:=a.seq) d,VF (n:=n) d];simp
theorem XT{a top:Int}:∀ {m:List Ver}{n:Int},(∀ u∈m,u.seq≠0)->Z2 a top m m n=some n
 | [],_,_=>rfl
 | u::m,n,h=>by
  unfold Z2;rw[IV (h u (Hf ..)),He ((Xl _ _).2 rfl),XT (n:=n) (fun v b=>h v (Hb _ b))]
def SV(o:Option Int):Int:=o.getD 0
theorem Nm(K:Nat->Prop)(L:WL)(W:WM)(v1 v2:Value)(R V:List Ver)(w:World)(h:WAt K w L W)(hc:W.calls<100000000)(h1:VRow w v1 R)(h2:VRow w v2 V)(hl:R.length<1000000000) :
 Calls Tryz.prog 155 #[.pointer (some ⟨L.wb,0,none⟩),v1,v2] w fun e o=>e=.returned (.tuple #[.int .i64 (SV (Z2 W.most (16*W.calls) R V 0)),.bool (Z2 W.most (16*W.calls) R V 0).isSome])/\Fr Nil w o:=by
 unfold VRow at h1 h2;obtain⟨a1,c1,rfl⟩:=zc h1;obtain⟨a2,c2,rfl⟩:=zc h2;have H1:=Z h1;have H2:=Z h2;have b1:Hid (∀ d,Fr Nil w d->d.cell? ⟨L.wb,11,none⟩=some (.int .i64 W.calls)/\d.cell? ⟨L.wb,12,none⟩=some (.int .i64 W.most)):=fun d f=>⟨(h.nil f).CY.cell 11,(h.nil f).CY.cell 12⟩;have hm:IntKind.i64.wrap (16*(W.calls:Int))=16*(W.calls:Int):=by rw[Hr];omega
 generalize (W.most:Int)=mo at b1 |-;clear h h1 h2;generalize hr:Z2 mo (16*W.calls) R V 0=r;by_cases y:R.length=V.length
 .have HL:=Z y
  have HR:=Z hr;generalize hn:R.length=n at hl y H1 |-;rw[<- y] at H2 |-;have HN:=Z hn;clear y hn hr;go_enter Tryz.func155,Tryz.ntmps155;go_wp2_with fail
  go_loopw [8,9] (fun t8 t9 o=>∃ (i:Nat) (s:Int),i<=n/\t8=.int .i64 s/\t9=.int .i64 i/\Z2 mo (16*W.calls) (R.drop i) (V.drop i) s=r/\Fr Nil w o) (fun _ t9 _=>n-(intOf t9).toNat)
  case atStart=>exact⟨0,0,by omega,rfl,rfl,by rw[GU,GU];exact HR.out,O _ _⟩
  case round =>
   obtain⟨i,s,hi,rfl,rfl,hs,hf⟩:=hrel;by_cases c5:i<n
   .have hi1:i<R.length:=by have:=HN.out;omega
    have b0:i<V.length:=by have:=HL.out;omega
    obtain⟨g1,c3,e1,_,_⟩:=zm H1.out (by omega);obtain⟨q,c4,e2,_,_⟩:=zm H2.out (by omega);simp only[EL] at e1 e2;obtain⟨rfl,-,-⟩:=e1;obtain⟨rfl,-,-⟩:=e2;rw[Gm hi1,Gm b0] at hs;unfold Z2 at hs;have A:∀ d,Fr Nil wr d->∀ k,k<8->d.cell? ⟨g1,i*8+k,none⟩=R[i].cells[k]?:=fun d f k hk=>VRow.cells (zb H1.out (hf.trans f) (fun _ _=>id)) i hi1 k hk;have l:∀ d,Fr Nil wr d->d.cell? ⟨q,i*8+1,none⟩=V[i].cells[1]?:=fun d f=>VRow.cells (zb H2.out (hf.trans f) (fun _ _=>id)) i b0 1 (by omega);obtain⟨V1,b8⟩:∃ p,p=R[i]:=⟨_,rfl⟩;obtain⟨V2,b4⟩:∃ p,p=V[i]:=⟨_,rfl⟩;rw[<- b8] at A hs;rw[<- b4] at l hs;have a9:=Z b4;have HF:=Z hf;have T:∀ d,Fr Nil wr d->d.cell? ⟨q,i*8+1,none⟩=some (.int .i64 V2.seq):=fun d f=>l d f;obtain⟨j,m,E,F,G,I,c,g⟩:=V1;have y0:wr.cell? ⟨g1,i*8,none⟩=some (.int .i64 j):=A wr (O _ _) 0 (by omega);have y1:wr.cell? ⟨g1,i*8+1,none⟩=some (.int .i64 m):=A wr (O _ _) 1 (by omega);have y2:wr.cell? ⟨g1,i*8+2,none⟩=some (.int .i64 E):=A wr (O _ _) 2 (by omega);have y3:wr.cell? ⟨g1,i*8+3,none⟩=some (.int .i64 F):=A wr (O _ _) 3 (by omega);have y4:wr.cell? ⟨g1,i*8+4,none⟩=some (.int .i64 G):=A wr (O _ _) 4 (by omega);have y5:wr.cell? ⟨g1,i*8+5,none⟩=some (.int .i64 I):=A wr (O _ _) 5 (by omega);have y6:wr.cell? ⟨g1,i*8+6,none⟩=some (.string c):=A wr (O _ _) 6 (by omega);have y7:wr.cell? ⟨g1,i*8+7,none⟩=some (.bool g):=A wr (O _ _) 7 (by omega);have a8:=Z (HF.out.alloc (.cells #[.int .i64 j,.int .i64 0,.int .i64 E,.int .i64 F,.int .i64 G,.int .i64 I,.string c,.bool g] 37));have b9:=(b1.out _ a8.out).1;have c0:=(b1.out _ a8.out).2;have z2:=T _ ((O Nil wr).alloc (.cells #[.int .i64 j,.int .i64 m,.int .i64 E,.int .i64 F,.int .i64 G,.int .i64 I,.string c,.bool g] 37));clear b8 b4 A l T hf;by_cases hz:V2.seq=0
    .rw[He hz] at hs
     rw[hz] at z2;by_cases c1:m<=mo
     .rw[He (.inl c1)] at hs
      subst hs;go_wp2_with fail;go_ret2;exact⟨rfl,a8.out⟩
     by_cases c2:16*(W.calls:Int)<m
     .rw[He (.inr c2)] at hs
      subst hs;go_wp2_with fail;go_ret2;exact⟨rfl,a8.out⟩
     rw[IV (fun e=>e.elim c1 c2)] at hs;have C:=Blk.new wr [.int .i64 j,.int .i64 0,.int .i64 E,.int .i64 F,.int .i64 G,.int .i64 I,.string c,.bool g] 37;have B:Fr Nil w (wr.alloc (.cells #[.int .i64 j,.int .i64 0,.int .i64 E,.int .i64 F,.int .i64 G,.int .i64 I,.string c,.bool g] 37)):=HF.out.alloc _;go_wp2_with fail;generalize wr.alloc (.cells #[.int .i64 j,.int .i64 0,.int .i64 E,.int .i64 F,.int .i64 G,.int .i64 I,.string c,.bool g] 37)=wb at C B |-;generalize wr.heap.size=u at C |-;have l:∀ d,Fr Nil wb d->∀ k,k<8->d.cell? ⟨q,i*8+k,none⟩=V2.cells[k]?:=fun d f k hk=>by rw[a9.out];exact VRow.cells (zb H2.out (B.trans f) (fun _ _=>id)) i b0 k hk
     have N:=Z (fun d=>YW ⟨j,0,E,F,G,I,c,g⟩ V2 d);have Y:=Z B;have t:=Z C;clear a9 C B y0 y1 y2 y3 y4 y5 y6 y7 z2;generalize b2:Zp ⟨j,0,E,F,G,I,c,g⟩ V2=b at hs N;clear b2;obtain⟨z,D,a4,a5,a6,a7,v,x⟩:=V2;simp only[Ver.cells] at l N;have J:Hid (∀ d,Fr Nil wb d->d.cell? ⟨u,0,none⟩=some (.int .i64 j)/\d.cell? ⟨u,1,none⟩=some (.int .i64 0)/\d.cell? ⟨u,2,none⟩=some (.int .i64 E)/\d.cell? ⟨u,3,none⟩=some (.int .i64 F)/\d.cell? ⟨u,4,none⟩=some (.int .i64 G)/\d.cell? ⟨u,5,none⟩=some (.int .i64 I)/\d.cell? ⟨u,6,none⟩=some (.string c)/\d.cell? ⟨u,7,none⟩=some (.bool g)/\d.cell? ⟨q,i*8,none⟩=some (.int .i64 z)/\d.cell? ⟨q,i*8+1,none⟩=some (.int .i64 D)/\d.cell? ⟨q,i*8+2,none⟩=some (.int .i64 a4)/\d.cell? ⟨q,i*8+3,none⟩=some (.int .i64 a5)/\d.cell? ⟨q,i*8+4,none⟩=some (.int .i64 a6)/\d.cell? ⟨q,i*8+5,none⟩=some (.int .i64 a7)/\d.cell? ⟨q,i*8+6,none⟩=some (.string v)/\d.cell? ⟨q,i*8+7,none⟩=some (.bool x)):=fun d f=>⟨(t.out.fr f id).cell 0,(t.out.fr f id).cell 1,(t.out.fr f id).cell 2,(t.out.fr f id).cell 3,(t.out.fr f id).cell 4,(t.out.fr f id).cell 5,(t.out.fr f id).cell 6,(t.out.fr f id).cell 7,l d f 0 (by omega),l d f 1 (by omega),l d f 2 (by omega),l d f 3 (by omega),l d f 4 (by omega),l d f 5 (by omega),l d f 6 (by omega),l d f 7 (by omega)⟩;have b3:=J.out wb (O _ _);have HS:=Z hs;clear l hs hz
     go_region_held3 (fun o=>o.cell? ⟨u,0,none⟩=some (.int .i64 j)/\o.cell? ⟨u,1,none⟩=some (.int .i64 0)/\o.cell? ⟨u,2,none⟩=some (.int .i64 E)/\o.cell? ⟨u,3,none⟩=some (.int .i64 F)/\o.cell? ⟨u,4,none⟩=some (.int .i64 G)/\o.cell? ⟨u,5,none⟩=some (.int .i64 I)/\o.cell? ⟨u,6,none⟩=some (.string c)/\o.cell? ⟨u,7,none⟩=some (.bool g)/\o.cell? ⟨q,i*8,none⟩=some (.int .i64 z)/\o.cell? ⟨q,i*8+1,none⟩=some (.int .i64 D)/\o.cell? ⟨q,i*8+2,none⟩=some (.int .i64 a4)/\o.cell? ⟨q,i*8+3,none⟩=some (.int .i64 a5)/\o.cell? ⟨q,i*8+4,none⟩=some (.int .i64 a6)/\o.cell? ⟨q,i*8+5,none⟩=some (.int .i64 a7)/\o.cell? ⟨q,i*8+6,none⟩=some (.string v)/\o.cell? ⟨q,i*8+7,none⟩=some (.bool x)) (first|assumption|go_keep|exact J.out _ za)
      (first|(go_at_call 67;refine(N.out _).mono ?_;rintro e w2 ⟨rfl,a0⟩;have Q:Fr Nil wb w2:=Fr.trans za a0;have T:=J.out w2 Q;have X:=Z Q;clear a0 Q))
     clear b3 T;cases b with
     | true =>
      go_wp2_with fail;exact⟨⟨i+1,m,by omega,rfl,by push_cast;rfl,HS.out,Y.out.trans X.out⟩,by simp[intOf];omega⟩
     | false =>
      have a3:none=r:=HS.out;subst a3;go_wp2_with fail;go_ret2;exact⟨rfl,Y.out.trans X.out⟩
    .rw[IV hz] at hs
     have C:=Blk.new wr [.int .i64 j,.int .i64 m,.int .i64 E,.int .i64 F,.int .i64 G,.int .i64 I,.string c,.bool g] 37;have B:Fr Nil w (wr.alloc (.cells #[.int .i64 j,.int .i64 m,.int .i64 E,.int .i64 F,.int .i64 G,.int .i64 I,.string c,.bool g] 37)):=HF.out.alloc _;go_wp2_with fail;generalize wr.alloc (.cells #[.int .i64 j,.int .i64 m,.int .i64 E,.int .i64 F,.int .i64 G,.int .i64 I,.string c,.bool g] 37)=wb at C B |-;generalize wr.heap.size=u at C |-;have l:∀ d,Fr Nil wb d->∀ k,k<8->d.cell? ⟨q,i*8+k,none⟩=V2.cells[k]?:=fun d f k hk=>by rw[a9.out];exact VRow.cells (zb H2.out (B.trans f) (fun _ _=>id)) i b0 k hk
     have N:=Z (fun d=>YW ⟨j,m,E,F,G,I,c,g⟩ V2 d);have Y:=Z B;have t:=Z C;clear a9 C B y0 y1 y2 y3 y4 y5 y6 y7 z2;generalize b2:Zp ⟨j,m,E,F,G,I,c,g⟩ V2=b at hs N;clear b2;obtain⟨z,D,a4,a5,a6,a7,v,x⟩:=V2;simp only[Ver.cells] at l N;have J:Hid (∀ d,Fr Nil wb d->d.cell? ⟨u,0,none⟩=some (.int .i64 j)/\d.cell? ⟨u,1,none⟩=some (.int .i64 m)/\d.cell? ⟨u,2,none⟩=some (.int .i64 E)/\d.cell? ⟨u,3,none⟩=some (.int .i64 F)/\d.cell? ⟨u,4,none⟩=some (.int .i64 G)/\d.cell? ⟨u,5,none⟩=some (.int .i64 I)/\d.cell? ⟨u,6,none⟩=some (.string c)/\d.cell? ⟨u,7,none⟩=some (.bool g)/\d.cell? ⟨q,i*8,none⟩=some (.int .i64 z)/\d.cell? ⟨q,i*8+1,none⟩=some (.int .i64 D)/\d.cell? ⟨q,i*8+2,none⟩=some (.int .i64 a4)/\d.cell? ⟨q,i*8+3,none⟩=some (.int .i64 a5)/\d.cell? ⟨q,i*8+4,none⟩=some (.int .i64 a6)/\d.cell? ⟨q,i*8+5,none⟩=some (.int .i64 a7)/\d.cell? ⟨q,i*8+6,none⟩=some (.string v)/\d.cell? ⟨q,i*8+7,none⟩=some (.bool x)):=fun d f=>⟨(t.out.fr f id).cell 0,(t.out.fr f id).cell 1,(t.out.fr f id).cell 2,(t.out.fr f id).cell 3,(t.out.fr f id).cell 4,(t.out.fr f id).cell 5,(t.out.fr f id).cell 6,(t.out.fr f id).cell 7,l d f 0 (by omega),l d f 1 (by omega),l d f 2 (by omega),l d f 3 (by omega),l d f 4 (by omega),l d f 5 (by omega),l d f 6 (by omega),l d f 7 (by omega)⟩;have b3:=J.out wb (O _ _);have HS:=Z hs;clear l hs hz
     go_region_held3 (fun o=>o.cell? ⟨u,0,none⟩=some (.int .i64 j)/\o.cell? ⟨u,1,none⟩=some (.int .i64 m)/\o.cell? ⟨u,2,none⟩=some (.int .i64 E)/\o.cell? ⟨u,3,none⟩=some (.int .i64 F)/\o.cell? ⟨u,4,none⟩=some (.int .i64 G)/\o.cell? ⟨u,5,none⟩=some (.int .i64 I)/\o.cell? ⟨u,6,none⟩=some (.string c)/\o.cell? ⟨u,7,none⟩=some (.bool g)/\o.cell? ⟨q,i*8,none⟩=some (.int .i64 z)/\o.cell? ⟨q,i*8+1,none⟩=some (.int .i64 D)/\o.cell? ⟨q,i*8+2,none⟩=some (.int .i64 a4)/\o.cell? ⟨q,i*8+3,none⟩=some (.int .i64 a5)/\o.cell? ⟨q,i*8+4,none⟩=some (.int .i64 a6)/\o.cell? ⟨q,i*8+5,none⟩=some (.int .i64 a7)/\o.cell? ⟨q,i*8+6,none⟩=some (.string v)/\o.cell? ⟨q,i*8+7,none⟩=some (.bool x)) (first|assumption|go_keep|exact J.out _ za)
      (first|(go_at_call 67;refine(N.out _).mono ?_;rintro e w2 ⟨rfl,a0⟩;have Q:Fr Nil wb w2:=Fr.trans za a0;have T:=J.out w2 Q;have X:=Z Q;clear a0 Q))
     clear b3 T;cases b with
     | true =>
      go_wp2_with fail;exact⟨⟨i+1,s,by omega,rfl,by push_cast;rfl,HS.out,Y.out.trans X.out⟩,by simp[intOf];omega⟩
     | false =>
      have a3:none=r:=HS.out;subst a3;go_wp2_with fail;go_ret2;exact⟨rfl,Y.out.trans X.out⟩
   .have hin:i=n:=by omega
    subst hin;have b5:R.drop i=[]:=Fp (by have:=HN.out;omega);have b6:V.drop i=[]:=Fp (by have:=HL.out;have:=HN.out;omega);rw[b5,b6] at hs;have a3:some s=r:=hs;subst a3;have HF:=Z hf;clear hs hf b5 b6;go_wp2_with fail;go_ret2;exact⟨rfl,HF.out⟩
 .rw[VF y] at hr
  subst hr;have b7:((R.length:Int) != V.length)=true:=by simp;omega
  generalize R.length=n1 at y b7 H1 hl;generalize V.length=n2 at y b7 H2;go_enter Tryz.func155,Tryz.ntmps155;go_wp2_with fail;go_ret2;exact⟨rfl,O _ _⟩
theorem I6{K:Keys}(h:Y1 K)(i:Nat)(c:i<K.length):zj K K[i].1=K[i].2:=by
 rw[<- T1 _ h];refine Pp i c (fun j d b=>?_) (zT.2 rfl);cases e:(K[j].1==K[i].1) with
 | false=>rfl
 | true=>exact absurd (zT.1 e) (ZC (Asc.fst h b c))
def YF(n:Int)(v:Ver):Ver:=if v.seq=0 then {v with seq:=n} else v
def LM.number(m:LM)(key:ByteArray)(n:Int):LM:={m with keys:=zX m.keys key ((zE m.keys key).map (YF n))}
theorem Kx(w:World)(c:List Value)(t:TypeId)(N:Nat)(a:N=w.heap.size):Blk (w.alloc (.cells c.toArray t)) N c t:=by subst a;exact Blk.new w c t
theorem Qf(K:Nat->Prop)(p:Nat)(m:LM)(key:ByteArray)(n:Int)(w:World)(h:MRep K w p m)(N:m.keys.length<100000000)(R:(zE m.keys key).length<100000) :
 Calls Tryz.prog 156 #[.pointer (some ⟨p,0,none⟩),.string key,.int .i64 n] w fun e v =>
  ∃ u,e=.returned (.pointer (some ⟨u,0,none⟩))/\MRep (KGr K w v) v u (m.number key n)/\Fr Nil w v/\w.heap.size<=u:=by
 obtain⟨kv,V,C,ha,hb⟩:=h;have HA:=Z ha;have HB:=Z hb;have B:Hid (m.number key n={m with keys:=zX m.keys key ((zE m.keys key).map (YF n))}):=rfl;clear ha hb;go_enter Tryz.func156,Tryz.ntmps156;go_wp2_with fail;refine(Yi p kv V C m key w HA.out).mono ?_;rintro e D ⟨ov,rfl,j,T,a0⟩;subst a0;have hn:=zH j;unfold maxLen at hn;obtain⟨va,vc,rfl⟩:=zc j;have s:=Z j;have A:Hid (∀ (J:World) (f:Fr Nil D J) (Y:Value) (l:List Ver),VRow J Y l->(∀ k,Y.ownBlock=some k->D.heap.size<=k)->l=(zE m.keys key).map (YF n)->Calls Tryz.prog 157 #[.pointer (some ⟨p,0,none⟩),.string key,Y] J fun e v =>
  ∃ u,e=.returned (.pointer (some ⟨u,0,none⟩))/\MRep (KGr K D v) v u (m.number key n)/\Fr Nil D v/\D.heap.size<=u):=by
  intro J f Y l hl t e;refine(YY (KGr K D J) p m key Y l J (MRep.nil ⟨kv,V,C,HA.out,HB.out⟩ f) hl (fun k L=>.inr ⟨t k L,zC hl L⟩) N).mono ?_;rintro e' v ⟨u,rfl,h1,h2,h3⟩;refine⟨u,rfl,?_,f.trans h2,IP f.size h3⟩;rw[B.out,<- e];exact h1.mono (fun k t=>t.trans f.size h2.size)
 generalize zE m.keys key=c at hn R s A |-;clear j T B;go_wp2_with fail
 go_loopw [7,9] (fun t7 t9 v=>∃ i:Nat,i<=c.length/\t9=.int .i64 i/\VRow v t7 ((c.take i).map (YF n))/\(∀ k,t7.ownBlock=some k->D.heap.size<=k)/\Fr Nil D v) (fun _ t9 _=>c.length-(intOf t9).toNat)
 case atStart=>exact⟨0,Hg _,rfl,Hc _ 0 _ _,fun k t=>by simp[Value.ownBlock] at t,O _ _⟩
 case round =>
  obtain⟨i,hi,rfl,d,z,hf⟩:=hrel;by_cases Q:i<c.length
  .obtain⟨g,rfl⟩:∃ g,va=some ⟨g,0,none⟩:=by
    obtain⟨g,a1,h,_⟩:=zm s.out (by omega);simp at h;exact⟨g,h.1⟩
   have x:=VRow.cells (zb s.out hf (fun _ _=>id)) i Q;have F:((c.take i).map (YF n)).length<1000000:=by simp only[Hy,IR];omega
   have b:Hid ((c.take (i+1)).map (YF n)=(c.take i).map (YF n)++[YF n c[i]]):=Z (by rw[Hj Q,Gs];rfl);generalize (c.take i).map (YF n)=r at d F b;have y:=Z d;have q:=Z z;have o:=Z hf;obtain⟨ta,tc,rfl⟩:=zc d;clear d z;obtain⟨X,hX⟩:∃ X,X=c[i]:=⟨_,rfl⟩;rw[<- hX] at x b;clear hX;obtain⟨xn,xs,x0,x1,x2,x3,xv,xg⟩:=X;have y0:wr.cell? ⟨g,i*8,none⟩=some (.int .i64 xn):=x 0 (by omega);have y1:wr.cell? ⟨g,i*8+1,none⟩=some (.int .i64 xs):=x 1 (by omega);have y2:wr.cell? ⟨g,i*8+2,none⟩=some (.int .i64 x0):=x 2 (by omega);have y3:wr.cell? ⟨g,i*8+3,none⟩=some (.int .i64 x1):=x 3 (by omega);have y4:wr.cell? ⟨g,i*8+4,none⟩=some (.int .i64 x2):=x 4 (by omega);have y5:wr.cell? ⟨g,i*8+5,none⟩=some (.int .i64 x3):=x 5 (by omega);have y6:wr.cell? ⟨g,i*8+6,none⟩=some (.string xv):=x 6 (by omega);have y7:wr.cell? ⟨g,i*8+7,none⟩=some (.bool xg):=x 7 (by omega);clear x;by_cases hz:xs=0
   .subst hz
    have b:Hid ((c.take (i+1)).map (YF n)=r++[⟨xn,n,x0,x1,x2,x3,xv,xg⟩]):=b
    go_wp2_with (at_builtin;go_must (refine zk rfl _ _ _ _ rfl _ _ (by rfl) (by rfl) (Zw wr _ _ y.out ⟨xn,n,x0,x1,x2,x3,xv,xg⟩ F _ za _ (Kx _ [_,_,_,_,_,_,_,_] _ _ (YT _ _).symm) _) ?_;rintro v6 w6 ⟨I,E,G⟩))
    refine⟨⟨i+1,?_,?_,?_,?_,?_⟩,?_⟩
    .omega
    .go_num
    .rw[b.out];exact I
    .exact fun k t=>(G k t).elim (q.out k) (fun h=>IP o.out.size h)
    .exact o.out.trans' E (fun k t e=>by have:=(q.out) k e;omega)
    .simp[intOf];omega
   .have b:Hid ((c.take (i+1)).map (YF n)=r++[⟨xn,xs,x0,x1,x2,x3,xv,xg⟩]):=Z (by rw[b.out];unfold YF;rw[IV hz])
    go_wp2_with (at_builtin;go_must (refine zk rfl _ _ _ _ rfl _ _ (by rfl) (by rfl) (Zw wr _ _ y.out ⟨xn,xs,x0,x1,x2,x3,xv,xg⟩ F _ za _ (Kx _ [_,_,_,_,_,_,_,_] _ _ (YT _ _).symm) _) ?_;rintro v6 w6 ⟨I,E,G⟩))
    refine⟨⟨i+1,?_,?_,?_,?_,?_⟩,?_⟩
    .omega
    .go_num
    .rw[b.out];exact I
    .exact fun k t=>(G k t).elim (q.out k) (fun h=>IP o.out.size h)
    .exact o.out.trans' E (fun k t e=>by have:=(q.out) k e;omega)
    .simp[intOf];omega
  .obtain rfl:i=c.length:=by omega
   rw[HZ] at d;obtain⟨r,ho⟩:∃ r,r=c.map (YF n):=⟨_,rfl⟩;rw[<- ho] at d;have HO:=Z ho;clear ho;have y:=Z d;have q:=Z z;have o:=Z hf;obtain⟨ta,tc,rfl⟩:=zc d;clear d z hf;go_wp2_with fail;refine(A.out wr o.out _ r y.out q.out HO.out).mono ?_;rintro e w9 ⟨u,rfl,h1,h2,h3⟩;have H1:=Z h1;clear h1
   go_wp2
   go_ret;exact⟨u,rfl,H1.out,h2,h3⟩
theorem O3{A C:Keys}{b:ByteArray}{u:List Ver}(h:Y1 (A++(b,u)::C)):(∀ x∈A,zf x.1 b=true)/\(∀ x∈C,zf b x.1=true):=by
 constructor
 .intro x hx
  obtain⟨i,c,rfl⟩:=GD.1 hx;have:=Asc.fst h (i:=i) (j:=A.length) c (by simp)
  simpa [List.getElem_append_left c] using this
 .intro x hx
  obtain⟨i,c,rfl⟩:=GD.1 hx;have:=Asc.fst h (i:=A.length) (j:=A.length+1+i) (by omega) (by simp;omega);have d:(A++(b,u)::C)[A.length+1+i]'(by simp;omega)=C[i]:=by
   rw[Gu (by omega)];simp[show A.length+1+i-A.length=i+1 by omega]
  rw[d] at this
  simpa using this
theorem L8{A C:Keys}{b:ByteArray}{u l:List Ver}(h:Y1 (A++(b,u)::C))(i:l≠[]):zX (A++(b,u)::C) b l=A++(b,l)::C:=by
 obtain⟨d,f⟩:=O3 h;have c:zf b b=false:=Zg.yI b;have g:l.isEmpty=false:=by cases l with
  | nil=>exact absurd rfl i
  | cons _ _=>rfl
 have e:zw b l ([]++A,false) (b,u)=(A++[(b,l)],true):=by simp[zw,c]
 unfold zX;rw[g,Gq,Wn b l _ A [] d,GT,e,Xj b l C _ (fun x j=>(ZC (f x j)).symm)];simp
theorem TX{A C:Keys}{b:ByteArray}{u:List Ver}(h:Y1 (A++(b,u)::C)):zE (A++(b,u)::C) b=u:=by
 obtain⟨c,g⟩:=O3 h;unfold zE;have d:(b==b)=true:=zT.2 rfl;rw[EJ,Ud (fun x f=>ZC (c x f)),Option.none_or,Dm (p:=fun e:ByteArray × List Ver=>e.1==b) (a:=(b,u)) d]
def zO(top:Int):Int->Keys->Keys->Keys × Int × Bool
 | mo,[],[]=>([],mo,true)
 | mo,(a,l)::S,(b,u)::M =>
  if a=b then
   match Z2 mo top l u 0 with
   | none=>((b,u)::M,mo,false)
   | some n=>if 0<n then((b,u.map (YF n))::(zO top n S M).1,(zO top n S M).2) else((b,u)::(zO top mo S M).1,(zO top mo S M).2)
  else((b,u)::M,mo,false)
 | mo,_,M=>(M,mo,false)
theorem VG{c b:Int}:∀ {l m:List Ver}{s n:Int},Z2 c b l m s=some n->n=s\/(c<n/\n<=b/\(∃ a∈l,a.seq=n)/\∃ u∈m,u.seq=0)
 | [],[],s,n,h=>by simp[Z2] at h;exact .inl h.symm
 | a::l,u::m,s,n,h=>by
  unfold Z2 at h;split at h
  .rename_i hz
   split at h
   .cases h
   .rename_i hm
    split at h
    .rcases VG h with e|⟨h1,h2,⟨x,hx,e⟩,y,hy,e'⟩
     .subst e
      exact .inr ⟨by omega,by omega,⟨a,Hf ..,rfl⟩,u,Hf ..,hz⟩
     .exact .inr ⟨h1,h2,⟨x,Hb _ hx,e⟩,y,Hb _ hy,e'⟩
    .cases h
  .split at h
   .rcases VG h with e|⟨h1,h2,⟨x,hx,e⟩,y,hy,e'⟩
    .exact .inl e
    .exact .inr ⟨h1,h2,⟨x,Hb _ hx,e⟩,y,Hb _ hy,e'⟩
   .cases h
 | [],_::_,_,_,h=>by simp[Z2] at h
 | _::_,[],_,_,h=>by simp[Z2] at h
def Zb(W:WM)(N:NM)(m:LM):Nat × Option LM :=
 if N.readOnly=W.broken/\N.S.keys.length=m.keys.length/\N.S.hints=m.hints then
  ((zO (16*W.calls) W.most N.S.keys m.keys).2.1.toNat,if (zO (16*W.calls) W.most N.S.keys m.keys).2.2=true then some {m with keys:=(zO (16*W.calls) W.most N.S.keys m.keys).1} else none)
 else(W.most,none)
def Told(K:Nat->Prop)(B:Nat)(L:WL)(W:WM)(X:NL)(N:NM)(M:DM)(w:World)(d:Nat)(o:Option LM)(e:Ending)(c:World):Prop :=
 match o with
 | some g=>∃ b f,PStep K B L X M w b L {W with most:=d} X N M c/\e=.returned (.tuple #[.pointer (some ⟨f,0,none⟩),.bool true])/\MRep b c f g
 | none=>∃ b,PStep K B L X M w b L {W with most:=d} X N M c/\e=.returned (.tuple #[.pointer none,.bool false])
theorem RD{b c n:Int}{a:ByteArray}{l u:List Ver}{S M:Keys}(h:Z2 c b l u 0=some n)(d:0<n):zO b c ((a,l)::S) ((a,u)::M)=((a,u.map (YF n))::(zO b n S M).1,(zO b n S M).2):=by
 conv=>lhs;unfold zO
 rw[He rfl,h];simp only;rw[He d]
theorem VH{top mo n:Int}{a:ByteArray}{l u:List Ver}{S M:Keys}(h:Z2 mo top l u 0=some n)(b:¬0<n):zO top mo ((a,l)::S) ((a,u)::M)=((a,u)::(zO top mo S M).1,(zO top mo S M).2):=by
 conv=>lhs;unfold zO
 rw[He rfl,h];simp only;rw[IV b]
theorem O4(K:Nat->Prop)(B:Nat)(L:WL)(W:WM)(X:NL)(N:NM)(M:DM)(q:Nat)(m:LM)(w:World)(h:Play K B w L W X N M)(hq:MRep K w q m)(d6:Y1 m.keys)(g8:m.keys.length<100000000)(l7:∀ e∈m.keys,e.2.length<100000)(g7:m.hints.length<1000000)
 (g4:N.S.keys.length<100000000)(c5:N.S.hints.length<1000000)(b8:Zm N.S)(k4:W.calls<100000000) :
 Calls Tryz.prog 101 #[.pointer (some ⟨L.wb,0,none⟩),.pointer (some ⟨q,0,none⟩)] w fun e E=>Told K B L W X N M w (Zb W N m).1 (Zb W N m).2 e E:=by
 have I:=Z (fun d (f:Fr Nil w d)=>UL X N M d (h.node.nil f));have i1:=Z (fun d (f:Fr Nil w d)=>TG X N M d (h.node.nil f) (by omega));have i0:=Z (fun d (f:Fr Nil w d)=>UK X N M d (h.node.nil f) c5);have HH:=Z h;have HQ:=Z hq;have T:=Z b8;have m7:=Z d6;have i3:=Z l7;obtain⟨kv,hv,j6,ha,n8⟩:=hq;have k6:j6.length=m.keys.length:=ha.pair.length;obtain⟨ka,kc,rfl⟩:=zc ha.Ah;obtain⟨ja,jc,rfl⟩:=zc ha.hint;have b5:=Z ha.CY;have j1:Hid (∀ (v:Value) (d:World),Fr Nil w d->d.ownsRow 0 75 2 v N.S.hints.length (zJ N.S.hints)->Calls Tryz.prog 121 #[v,.slice ja m.hints.length jc] d fun e E=>e=.returned (.bool (decide (N.S.hints=m.hints)))/\Fr Nil d E):=fun v d f hr=>WT v _ _ _ d hr (zb ha.hint f (fun _ _=>id)) (by omega);have h4:∀ d,Fr Nil w d->∀ k,d.cell? ⟨L.wb,k,none⟩=(W.cells L)[k]?:=fun d f=>(h.Bi.nil f).CY.cell;have e7:=Z h4;have c4:=h4 _ (O _ _);simp only[WM.cells,h.nv] at c4;have f6:=Z h.nv;have q8:Hid (L.wb<w.heap.size):=h.Bi.CY.lt;have c2:=Z (And.intro g8 (And.intro g4 (And.intro k4 (And.intro c5 g7))));clear h ha n8 b8 d6 l7 h4;rw[k6] at b5;obtain⟨n,d2⟩:∃ n,N.S.keys.length=n:=⟨_,rfl⟩;obtain⟨n2,d1⟩:∃ n2,N.S.hints.length=n2:=⟨_,rfl⟩;obtain⟨k,g3⟩:∃ k,m.keys.length=k:=⟨_,rfl⟩;obtain⟨k2,c8⟩:∃ k2,m.hints.length=k2:=⟨_,rfl⟩;obtain⟨b4,g2⟩:∃ b4,decide (N.S.hints=m.hints)=b4:=⟨_,rfl⟩;obtain⟨s,g9⟩:∃ s,N.readOnly=s:=⟨_,rfl⟩;obtain⟨Y,h0⟩:∃ Y,Zb W N m=Y:=⟨_,rfl⟩;have p:Hid (Zb W N m=Y/\N.S.keys.length=n/\N.S.hints.length=n2/\m.keys.length=k/\m.hints.length=k2/\decide (N.S.hints=m.hints)=b4/\N.readOnly=s):=⟨h0,d2,d1,g3,c8,g2,g9⟩;rw[d2] at g4 i1 I;rw[d1] at c5 i0 I;rw[g9] at I;rw[g3] at g8 k6 b5;rw[c8] at g7 b5;rw[h0];simp only[d1,c8,g2] at j1;have b3:Hid (∀ E,Fr Nil w E->¬(N.readOnly=W.broken/\N.S.keys.length=m.keys.length/\N.S.hints=m.hints)->Told K B L W X N M w Y.1 Y.2 (.returned (.tuple #[.pointer none,.bool false])) E):=fun E f b9=>by
  have e:Y=(W.most,none):=by rw[<- p.out.1];unfold Zb;rw[IV b9]
  rw[e];exact⟨K,HH.out.nil f,rfl⟩
 clear d2 d1 g3 c8 g2 g9 h0 g8 g4 g7 c5 k4;go_enter Tryz.func101,Tryz.ntmps101;go_wp2_with fail;refine(I.out _ (O _ _)).mono ?_;rintro e w1 ⟨rfl,f1⟩;have f2:Fr Nil w (w1.alloc (.cells #[.bool s,.int .i64 n,.int .i64 n2] 81)):=f1.alloc _;have j9:=Blk.new w1 [.bool s,.int .i64 n,.int .i64 n2] 81;have k1:=e7.out _ f2;simp only[WM.cells,f6.out] at k1;have e8:=Z f2;have m8:=Z j9;clear c4 f1 f2 j9;go_wp2_with fail;refine(i1.out _ e8.out).mono ?_;rintro e w3 ⟨vk,rfl,D,f3,l8⟩;have f8:=e8.out.trans f3;have k3:=e7.out _ f8;simp only[WM.cells,f6.out] at k3;obtain⟨va,vc,rfl⟩:=zc D;have h7:=Z f8;have m9:=Z (m8.out.fr f3 (fun e=>e));have d5:=Z D;have i4:Hid (∀ k,(Value.slice va n vc).ownBlock=some k->w.heap.size<=k):=fun k e=>IP e8.out.size (l8 k e);clear k1 f8 f3 D l8;go_wp2_with fail;refine(i0.out _ h7.out).mono ?_;rintro e w4 ⟨vh,rfl,m3,f4,_⟩;have f9:=h7.out.trans f4;have h8:=Z f9;have n1:=Z (m9.out.fr f4 (fun e=>e));have d4:=Z (zb d5.out f4 (fun _ _=>id));have n6:=Z m3;have o8:=(b5.out.fr f9 (fun e=>e)).cell;clear k3 f9 f4 m3 d5;go_wp2_with fail;refine(j1.out _ _ h8.out n6.out).mono ?_;rintro e w5 ⟨rfl,f5⟩;have c3:=h8.out.trans f5;have p9:∀ j k,(w5.drewN j).cell? ⟨w1.heap.size,k,none⟩=[Value.bool s,.int .i64 n,.int .i64 n2][k]?:=fun j=>((n1.out.fr f5 (fun e=>e)).drewN j).cell;have h3:∀ j k,(w5.drewN j).cell? ⟨L.wb,k,none⟩=(W.cells L)[k]?:=fun j=>e7.out _ (c3.drewN j);have o9:∀ j k,(w5.drewN j).cell? ⟨q,k,none⟩=_:=fun j=>(b5.out.fr (c3.drewN j) (fun e=>e)).cell;simp only[WM.cells] at h3;have a8:=Z c3;have i8:=Z (zb d4.out f5 (fun _ _=>id));clear o8 c3 f5 d4;generalize J:W.broken=br at h3;have a9:∀ a b:Nat,a≠b->((a:Int)==b)=false/\((a:Int) != b)=true/\decide ((a:Int)=b)=false:=fun a b h=>by
  have t:¬(a:Int)=b:=by omega
  exact⟨by simp[t],by simp[t],by simp[t]⟩
 have Q:∀ a:Nat,((a:Int)==a)=true/\((a:Int) != a)=false/\decide ((a:Int)=a)=true:=fun a=>⟨by simp,by simp,by simp⟩;by_cases e1:s=br
 .by_cases e2:n=k
  .by_cases e3:n2=k2
   .subst e1 e2 e3
    obtain⟨p1,p2,p3⟩:=Q n;obtain⟨p4,p5,p6⟩:=Q n2;have p7:(s==s)=true:=by simp
    have p8:(s != s)=false:=by simp
    clear Q a9;cases b4 with
    | false =>
     have HX:=Z (show ¬(N.readOnly=W.broken/\N.S.keys.length=m.keys.length/\N.S.hints=m.hints) from fun x=>by have:=p.out.2.2.2.2.2.1;rw[Er x.2.2] at this;cases this);clear J;go_wp2_with fail
     go_quiet (fail)
     go_wp2_with fail;go_ret2;exact b3.out _ (a8.out.drewN _) HX.out
    | true =>
     have j2:Hid (Y=((zO (16*W.calls) W.most N.S.keys m.keys).2.1.toNat,if (zO (16*W.calls) W.most N.S.keys m.keys).2.2=true then some {m with keys:=(zO (16*W.calls) W.most N.S.keys m.keys).1} else none)):=by
      obtain⟨a1,a2,a3,a4,a5,a6,a7⟩:=p.out;show Y=_;rw[<- a1];unfold Zb;rw[He ⟨by rw[a7,J],by rw[a2,a4],by simpa using a6⟩]
     clear J b3;have r3:n<100000000:=by have t:=c2.out.2.1;have h2:=p.out.2.1;omega
     go_wp2_with fail
     go_quiet (fail)
     clear p9 h3 o9;go_wp2_with fail
     go_loopw [1,10] (fun t1 h5 E=>∃ (i:Nat) (K1:Nat->Prop) (q1:Nat) (m1:LM) (r:Nat) (done:Keys),i<=n/\t1=.pointer (some ⟨q1,0,none⟩)/\h5=.int .i64 i/\PStep K B L X M w K1 L {W with most:=r} X N M E/\MRep K1 E q1 m1/\m1={m with keys:=done++m.keys.drop i}/\done.length=i/\m1.keys.map Prod.fst=m.keys.map Prod.fst/\(∀ e∈m1.keys,e.2.length<100000)/\zO (16*W.calls) W.most N.S.keys m.keys=(done++(zO (16*W.calls) r (N.S.keys.drop i) (m.keys.drop i)).1,(zO (16*W.calls) r (N.S.keys.drop i) (m.keys.drop i)).2)/\E.ownsRow 0 9 1 (.slice va n vc) n (strs (N.S.keys.map Prod.fst))) (fun _ h5 _=>n-(intOf h5).toNat)
     case atStart=>exact⟨0,K,q,m,W.most,[],Hg _,rfl,rfl,HH.out.nil (a8.out.drewN _),HQ.out.Bt (zQ.BO (a8.out.drewN _) (fun k e=>⟨(HH.out.Bi.Bt k e).1,id⟩)) (fun _ e=>e),rfl,rfl,rfl,i3.out,rfl,zb i8.out ((O _ _).drewN _) (fun _ _=>id)⟩
     case round =>
      obtain⟨i,K1,q1,m1,r,done,hi,rfl,rfl,hs,l9,c9,g5,g6,l4,d0,D⟩:=hrel;have g1:=Z l9;obtain⟨r8,r5,y,C,j7⟩:=l9;have r0:N.S.keys.length=n:=p.out.2.1;have n9:m.keys.length=n:=p.out.2.2.2.1;have l6:m1.keys.length=n:=by have:=GY List.length g6;simp only[Hy] at this;rw[this];exact n9
      have k7:y.length=n:=C.pair.length.trans l6;obtain⟨q3,q4,rfl⟩:=zc C.Ah;obtain⟨r6,r7,rfl⟩:=zc C.hint;have p0:=C.CY.cell;have c0:=C.Ah;rw[k7] at p0 c0;by_cases r2:i<n
      .have hie:i<y.length:=by omega
       have c6:i<N.S.keys.length:=by omega
       have l1:i<m1.keys.length:=by omega
       have l0:i<m.keys.length:=by omega
       obtain⟨g,j5,hg,_,_⟩:=zm c0 (by omega);obtain⟨rfl,rfl⟩:q3=some ⟨g,0,none⟩/\q4=j5:=by simpa using hg
       have e1:=C.pair.key i hie l1;have e2:=C.pair.get i hie l1;have c4:=own_cell? c0 (i*2) _ (Z3 y i hie).1;have o2:=own_cell? c0 (i*2+1) _ (Z3 y i hie).2;have l5:m1.keys[i]=m.keys[i]:=by
        simp only[c9];rw[Gu (by omega)];simp only[g5,Dj,Dg,Fx]
       rw[l5] at e1 e2;have o1:N.S.keys.drop i=(N.S.keys[i].1,N.S.keys[i].2)::N.S.keys.drop (i+1):=Gm c6;have j8:m.keys.drop i=(m.keys[i].1,m.keys[i].2)::m.keys.drop (i+1):=Gm l0;have o0:zp N.S.keys[i].1=true/\zj N.S.keys N.S.keys[i].1=N.S.keys[i].2:=⟨T.out.names _ (IX c6),I6 T.out.Al i c6⟩;have q0:m.keys[i].2.length<100000:=i3.out _ (IX l0);obtain⟨gk,ck,o7,_,_⟩:=zm D (by omega);obtain⟨rfl,rfl⟩:va=some ⟨gk,0,none⟩/\vc=ck:=by simpa using o7
       have l2:∀ d,Fr Nil wr d->d.cell? ⟨gk,i,none⟩=some (.string N.S.keys[i].1):=fun d f=>own_cell? (zb D f (fun _ _=>id)) i _ (by simp[strs,c6]);rw[e1] at c4;obtain⟨ea,ec,o5⟩:=zc e2;rw[o5] at o2 e2;have R:=Z (And.intro c9 (And.intro g5 (And.intro g6 (And.intro l4 l5))));have G:=Z hs;have i7:=Z D;have n3:=Z e2;have b2:=Z j8;rw[o1,j8] at d0;generalize N.S.keys[i].1=a at *;generalize N.S.keys[i].2=al at *;generalize m.keys[i].1=c at *;generalize m.keys[i].2=o at *;have i2:=Z d0;have i5:=Z o0;have j3:=Z q0;have b7:=Blk.new wr [.string c,.slice ea o.length ec] 186;have A:Fr Nil wr (wr.alloc (.cells #[.string c,.slice ea o.length ec] 186)):=(O _ _).alloc _;obtain⟨wb,m6⟩:∃ wb,wr.alloc (.cells #[.string c,.slice ea o.length ec] 186)=wb:=⟨_,rfl⟩;rw[m6] at b7 A;have e9:Hid (∀ d,Fr Nil wb d->Calls Tryz.prog 24 #[.pointer (some ⟨X.nb,0,none⟩),.string c] d fun e E=>∃ v',e=.returned (.tuple #[v',.int .i64 (if zp c=true then 0 else 2)])/\VRow E v' (if zp c=true then zj N.S.keys c else [])/\Fr Nil d E/\(∀ k,v'.ownBlock=some k->d.heap.size<=k)):=fun d f=>WP X N M c d (G.out.CZ.node.nil (A.trans f)) (by have:=c2.out.2.1;omega) (by have:=(T.out.get c).2.1;omega);have l3:(if zp c=true then zj N.S.keys c else []).length<1000000000:=by
        split
        .have:=(T.out.get c).2.1;omega
        .simp
       have e6:Hid (∀ v1 d,Fr Nil wb d->VRow d v1 (if zp c=true then zj N.S.keys c else [])->Calls Tryz.prog 155 #[.pointer (some ⟨L.wb,0,none⟩),v1,.slice ea o.length ec] d fun e E=>e=.returned (.tuple #[.int .i64 (SV (Z2 r (16*W.calls) (if zp c=true then zj N.S.keys c else []) o 0)),.bool (Z2 r (16*W.calls) (if zp c=true then zj N.S.keys c else []) o 0).isSome])/\Fr Nil d E):=fun v1 d f t =>
        Nm K1 L {W with most:=r} v1 (.slice ea o.length ec) _ o d (G.out.CZ.Bi.nil (A.trans f)) c2.out.2.2.1 t (VRow.fr n3.out (A.trans f) (fun _ _=>id)) l3
       have F:Hid (∀ d,Fr Nil wr d->(zO (16*W.calls) r ((a,al)::N.S.keys.drop (i+1)) ((c,o)::m.keys.drop (i+1))).2=((r:Int),false)->Told K B L W X N M w Y.1 Y.2 (.returned (.tuple #[.pointer none,.bool false])) d):=fun d f hf=>by
        rw[j2.out,i2.out];simp only[hf,Dl];exact⟨K1,G.out.trans (G.out.CZ.nil f),rfl⟩
       have a0:Hid (∀ d,Fr Nil wb d->d.cell? ⟨wr.heap.size,0,none⟩=some (.string c)/\d.cell? ⟨wr.heap.size,1,none⟩=some (.slice ea o.length ec)/\d.cell? ⟨L.wb,5,none⟩=some (.pointer (some ⟨X.nb,0,none⟩))/\d.cell? ⟨gk,i,none⟩=some (.string a)):=fun d f=>⟨(b7.fr f id).cell 0,(b7.fr f id).cell 1,by rw[<- f6.out];exact(G.out.CZ.nil (A.trans f)).CZ.Bi.CY.cell 5,l2 d (A.trans f)⟩;have o3:=a0.out wb (O _ _);have n4:=Z A;have q7:Hid (wr.heap.size<wb.heap.size):=b7.lt;clear b7 A l2 l3;cases hko:zp c
       all_goals
        simp only[hko,Gi,Gj,Gl] at e9 e6;go_wp2_with fail;clear m6;generalize wr.heap.size=nb at *
        go_region_held3 (fun d=>d.cell? ⟨nb,0,none⟩=some (.string c)/\d.cell? ⟨nb,1,none⟩=some (.slice ea o.length ec)/\d.cell? ⟨L.wb,5,none⟩=some (.pointer (some ⟨X.nb,0,none⟩))/\d.cell? ⟨gk,i,none⟩=some (.string a)) (first|assumption|go_keep|exact a0.out _ za)
         (first|(go_at_call 24;refine(e9.out _ za).mono ?_;rintro e w6 ⟨v6,rfl,m5,k8,_⟩;have g0:Fr Nil wb w6:=Fr.trans za k8;have q2:=a0.out w6 g0;have j4:=Z m5;have b1:=Z g0;clear k8 g0 m5))
        clear o3;go_wp2_with fail;refine(e6.out v6 w6 b1.out j4.out).mono ?_;rintro e w7 ⟨rfl,f7⟩;have r1:∀ j,(w7.drewN j).cell? ⟨nb,0,none⟩=some (.string c):=fun j=>(a0.out _ (b1.out.trans (f7.drewN j))).1;have c7:∀ j,(w7.drewN j).cell? ⟨gk,i,none⟩=some (.string a):=fun j=>(a0.out _ (b1.out.trans (f7.drewN j))).2.2.2;have l:=Z (n4.out.trans (b1.out.trans f7));have q5:Hid (∀ d,Fr Nil w7 d->d.cell? ⟨nb,0,none⟩=some (.string c)):=fun d f=>(a0.out _ (b1.out.trans (f7.trans f))).1;clear q2 f7 e6 e9 j4
       .have hne:a≠c:=fun e=>by have:=i5.out.1;rw[e,hko] at this;exact absurd this (by decide)
        have u:Hid ((zO (16*W.calls) r ((a,al)::N.S.keys.drop (i+1)) ((c,o)::m.keys.drop (i+1))).2=((r:Int),false)):=by show _=_;unfold zO;rw[IV hne]
        generalize (Z2 r (16*W.calls) [] o 0)=b6;generalize b6.isSome=r9;generalize SV b6=n0;have e5:∃ b0,(a.toList != c.toList)=b0:=⟨_,rfl⟩;clear hne hko;go_wp2_with fail
        go_quiet (fail)
        go_wp2_with fail;go_ret2;exact F.out _ (l.out.drewN _) u.out
       .by_cases hab:a=c
        .subst hab
         have V:zj N.S.keys a=al:=i5.out.2;rw[V];have r4:(a.toList==a.toList)=true:=by simp
         have d2:(a.toList != a.toList)=false:=by simp
         cases hal:Z2 r (16*W.calls) al o 0 with
         | none =>
          have u:Hid ((zO (16*W.calls) r ((a,al)::N.S.keys.drop (i+1)) ((a,o)::m.keys.drop (i+1))).2=((r:Int),false)):=by show _=_;unfold zO;rw[He rfl,hal]
          simp only[Option.isSome_none];generalize SV none=n0;clear hko hal V;go_wp2_with fail
          go_quiet (fail)
          go_wp2_with fail;go_ret2;exact F.out _ (l.out.drewN _) u.out
         | some nn =>
          have b9:SV (some nn)=nn:=rfl;rw[b9];simp only[Option.isSome_some];have k5:∀ j k,(w7.drewN j).cell? ⟨L.wb,k,none⟩=_:=fun j=>(G.out.CZ.nil (l.out.drewN j)).CZ.Bi.CY.cell;have o6:∀ j,_:=fun j=>(G.out.CZ.nil (l.out.drewN j)).CZ.Bi.CY.frozen;simp only[WM.cells] at k5;have I:Hid (∀ (K2:Nat->Prop) (u2:List Ver) (c1:Nat),zO (16*W.calls) r ((a,al)::N.S.keys.drop (i+1)) ((a,o)::m.keys.drop (i+1))=((a,u2)::(zO (16*W.calls) c1 (N.S.keys.drop (i+1)) (m.keys.drop (i+1))).1,(zO (16*W.calls) c1 (N.S.keys.drop (i+1)) (m.keys.drop (i+1))).2)->zO (16*W.calls) W.most N.S.keys m.keys=((done++[(a,u2)])++(zO (16*W.calls) c1 (N.S.keys.drop (i+1)) (m.keys.drop (i+1))).1,(zO (16*W.calls) c1 (N.S.keys.drop (i+1)) (m.keys.drop (i+1))).2)):=fun _ u2 c1 h=>by
           rw[i2.out,h];simp
          by_cases d8:0<nn
          .obtain⟨k0,rfl⟩:∃ k0:Nat,nn=(k0:Int):=⟨nn.toNat,by omega⟩
           have o4:decide (0<(k0:Int))=true:=by simp;omega
           have u:=Z (RD (a:=a) (S:=N.S.keys.drop (i+1)) (M:=m.keys.drop (i+1)) hal d8);have n7:Hid (o≠[]):=fun e=>by
            rcases VG hal with e0|⟨_,_,_,x,hx,_⟩
            .omega
            .rw[e] at hx;cases hx
           clear hko hal V b9;go_wp2_with fail
           go_quiet (fail)
           go_wp2_with fail;have d3:=WStep.set (G.out.CZ.nil (l.out.drewN nq)).CZ.Bi 12 (.int .i64 (k0:Int)) (L':=L) (W':={W with most:=k0}) (by simp[WM.cells]) rfl rfl rfl rfl rfl rfl rfl rfl rfl rfl rfl rfl rfl;have m4:=G.out.trans ((G.out.CZ.nil (l.out.drewN nq)).trans ((G.out.CZ.nil (l.out.drewN nq)).CZ.turn d3));have m0:MRep K1 ((w7.drewN nq).setCell ⟨L.wb,12,none⟩ (.int .i64 (k0:Int))) q1 m1:=g1.out.Bt (zQ.BO (((l.out.drewN nq).mono (S':=WFoot L) (fun _ _ e=>absurd e id)).trans d3.fr) (fun k e=>G.out.CZ.Bi.Bt k e)) (fun _ e=>e);have d9:=zb i7.out ((l.out.drewN nq).mono (S':=PFoot L X M) (fun _ _ e=>absurd e id)) (fun k e hp=>by have t:=i4.out k e;have h2:=HH.out.lt hp;omega);have e4:=zb d9 (d3.fr.mono (S':=PFoot L X M) (fun _ _ e=>.inl e)) (fun k e hp=>by have t:=i4.out k e;have h2:=HH.out.lt hp;omega);have z:Y1 (done++(a,o)::m.keys.drop (i+1)):=by
            have t:=R.out.2.2.1;rw[R.out.1,b2.out] at t;have h2:=m7.out;unfold Y1 at h2 |-;rw[t];exact h2
           have c7:m1.keys=done++(a,o)::m.keys.drop (i+1):=by rw[R.out.1,b2.out]
           have d7:m1.number a (k0:Int)={m with keys:=(done++[(a,o.map (YF k0))])++m.keys.drop (i+1)}:=by
            unfold LM.number;rw[c7,TX z,L8 z (by simpa using n7.out),R.out.1];simp
           have i6:=Z (Qf K1 q1 m1 a (k0:Int) _ m0 (by have t:=c2.out.1;have h2:=GY List.length R.out.2.2.1;simp only[Hy] at h2;omega) (by rw[c7,TX z];exact j3.out));have j0:=Z m4;have i9:=Z e4;have f0:=Z d7;clear d3 m4 m0 d9 e4 z c7 d7 k5 o6;refine i6.out.mono ?_;rintro e w9 ⟨q9,rfl,m2,k9,_⟩;have n5:=Z m2;have h9:=Z k9;clear m2 k9;go_wp2_with fail;refine⟨⟨i+1,_,q9,_,k0,done++[(a,o.map (YF k0))],by omega,rfl,by push_cast;rfl,j0.out.trans (j0.out.CZ.gr h9.out),n5.out,f0.out,by rw[IM,R.out.2.1];rfl,?_,?_,I.out K1 _ k0 u.out,zb i9.out h9.out (fun _ _=>id)⟩,by simp[intOf];omega⟩
           .have t:=R.out.2.2.1
            rw[R.out.1,b2.out] at t;rw[f0.out,<- t];simp
           .intro e he
            rw[f0.out] at he;have t:=R.out.2.2.2.1;rw[R.out.1,b2.out] at t;simp only[Hu,Dp,Hh,HY] at he t;rcases he with he|rfl|he
            .exact t e (.inl he)
            .rw[Hy];exact j3.out
            .exact t e (.inr (.inr he))
          .have o4:decide (0<nn)=false:=by simp;omega
           have u:=Z (VH (a:=a) (S:=N.S.keys.drop (i+1)) (M:=m.keys.drop (i+1)) hal d8);clear hko hal V b9;go_wp2_with fail
           go_quiet (fail)
           go_wp2_with fail;refine⟨⟨i+1,K1,q1,m1,r,done++[(a,o)],by omega,rfl,by push_cast;rfl,G.out.trans (G.out.CZ.nil (l.out.drewN _)),g1.out.Bt (zQ.BO (l.out.drewN _) (fun k e=>⟨(G.out.CZ.Bi.Bt k e).1,id⟩)) (fun _ e=>e),?_,by rw[IM,R.out.2.1];rfl,R.out.2.2.1,R.out.2.2.2.1,I.out K1 o r u.out,zb i7.out (l.out.drewN _) (fun _ _=>id)⟩,by simp[intOf];omega⟩;rw[R.out.1,b2.out];simp
        .have u:Hid ((zO (16*W.calls) r ((a,al)::N.S.keys.drop (i+1)) ((c,o)::m.keys.drop (i+1))).2=((r:Int),false)):=by show _=_;unfold zO;rw[IV hab]
         have e5:(a.toList==c.toList)=false:=by
          cases e:(a.toList==c.toList) with
          | false=>rfl
          | true=>exact absurd (Xw (by simpa using e)) hab
         have q6:(a.toList != c.toList)=true:=by rw[bne,e5];rfl
         generalize (Z2 r (16*W.calls) (zj N.S.keys c) o 0)=b6;generalize SV b6=n0;cases b6.isSome
         all_goals
          clear hko hab;go_wp2_with fail
          go_quiet (fail)
          go_wp2_with fail;go_ret2;exact F.out _ (l.out.drewN _) u.out
      .obtain rfl:i=n:=by omega
       have h6:Hid (Told K B L W X N M w Y.1 Y.2 (.returned (.tuple #[.pointer (some ⟨q1,0,none⟩),.bool true])) wr):=by
        show Told K B L W X N M w Y.1 Y.2 _ wr;rw[j2.out,d0,Fp (by omega),Fp (by omega)];simp only[zO,Dl,Gi,Hx];refine⟨K1,q1,hs,rfl,?_⟩;have:=g1.out;rw[c9,Fp (by omega),Hx] at this;exact this
       clear hs c9 g5 g6 l4 d0 D c0 C j7;go_wp2_with fail;go_ret2;exact h6.out
   .subst e1 e2
    obtain⟨p1,p2,p3⟩:=Q n;obtain⟨p4,p5,p6⟩:=a9 _ _ e3;have p7:(s==s)=true:=by simp
    have p8:(s != s)=false:=by simp
    have HX:=Z (show ¬(N.readOnly=W.broken/\N.S.keys.length=m.keys.length/\N.S.hints=m.hints) from fun x=>e3 (by rw[<- p.out.2.2.1,<- p.out.2.2.2.2.1,x.2.2]));clear J Q a9 e3;go_wp2_with fail
    go_quiet (fail)
    go_wp2_with fail;go_ret2;exact b3.out _ (a8.out.drewN _) HX.out
  .subst e1
   obtain⟨p1,p2,p3⟩:=a9 _ _ e2;have p7:(s==s)=true:=by simp
   have p8:(s != s)=false:=by simp
   have HX:=Z (show ¬(N.readOnly=W.broken/\N.S.keys.length=m.keys.length/\N.S.hints=m.hints) from fun x=>e2 (by rw[<- p.out.2.1,<- p.out.2.2.2.1,x.2.1]));clear J Q a9 e2;go_wp2_with fail
   go_quiet (fail)
   go_wp2_with fail;go_ret2;exact b3.out _ (a8.out.drewN _) HX.out
 .have p7:(s==br)=false:=by simp;exact e1
  have p8:(s != br)=true:=by simp;exact e1
  have HX:=Z (show ¬(N.readOnly=W.broken/\N.S.keys.length=m.keys.length/\N.S.hints=m.hints) from fun x=>e1 (by rw[<- p.out.2.2.2.2.2.2,x.1,J]));clear e1 J Q a9;go_wp2_with fail
  go_quiet (fail)
  go_wp2_with fail;go_ret2;exact b3.out _ (a8.out.drewN _) HX.out
end Go.Proofs.YtkhnggkkiefcdaaGreatDoor
