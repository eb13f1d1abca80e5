/- larder: joined texts -/
import Derived.Test.YtkhnggkkiefcdaaGreatDoorUNAG
import Derived.Test.YtkhnggkkiefcdaaGreatDoorUNAI
import Derived.Test.YtkhnggkkiefcdaaGreatDoorUNAJ
import Derived.Test.YtkhnggkkiefcdaaGreatDoorUNAK
import Derived.Test.YtkhnggkkiefcdaaGreatDoorUNAL
import Derived.Test.YtkhnggkkiefcdaaGreatDoorUNAM
import Derived.Test.YtkhnggkkiefcdaaGreatDoorUNAS
import Derived.LaidEql
import Derived.Stop.Asserts
import Derived.RowKitTokens
namespace Go.Proofs.YtkhnggkkiefcdaaGreatDoor
open Go.RowKit
set_option maxRecDepth 100000
set_option maxHeartbeats 8000000
def atF(F:List Fact)(q:Nat):SM:=(F.take q).foldl SM.enter SM.nil
theorem Nv(F:List Fact):atF F F.length=F.foldl SM.enter SM.nil:=by unfold atF;rw[ID]
theorem Xr{F G:List Fact}{q:Nat}(h:q<=F.length):atF (F++G) q=atF F q:=by unfold atF;rw[Ha h]
theorem Xj(F:List Fact)(x:Fact):atF (F++[x]) (F.length+1)=(atF F F.length).enter x:=by
 unfold atF;rw[IH (by simp),ID,Hm]
 rfl
structure Kp(N:NM)(M:DM)(F:List Fact)(p t:Nat)(AR:Prop):Prop where
 lg:∃ y,Lg M y p t/\y.F=F/\(AR->Jl N.J M y/\Mo M y N.mg)
 held:N.S=atF F F.length
theorem Kp.mono{N:NM}{M:DM}{F:List Fact}{p t u:Nat}{P Q:Prop}(h:Kp N M F p t P)(f:Q->P)(r:t<=u):Kp N M F p u Q:=by
 obtain⟨⟨y,a,c,e⟩,o⟩:=h;exact⟨⟨y,a.more r,c,fun q=>e (f q)⟩,o⟩
theorem Kp.le{N:NM}{M:DM}{F:List Fact}{p t:Nat}{P:Prop}(h:Kp N M F p t P):p<=F.length:=by
 obtain⟨⟨g,a,b,c⟩,d⟩:=h;rw[<- b];exact a.yc
theorem Kp.An{N:NM}{M:DM}{F:List Fact}{p t:Nat}{P:Prop}(h:Kp N M F p t P)(i:Nat):(atF F i).hints.length<=32:=by
 obtain⟨⟨g,a,b,c⟩,d⟩:=h;rw[<- b];exact a.An i
structure Went(M:DM)(P:Nat->Prop)(n:Nat)(e:Option Int)(N':NM)(M':DM)(F':List Fact)(p' t':Nat):Prop where
 kp:Kp N' M' F' p' t' (e=none)
 Af:Ans M M' e
 room:M'.room=M.room
 ids:∀ g∈M'.ids,P g\/g∈M.ids
 BU:M'.BU<=M.BU+n
 full:e=some 10->M.room<M.BU+n
theorem Went.trans{q M2 r:DM}{P Q R:Nat->Prop}{n k m:Nat}{e:Option Int}{B s:NM}{A o:List Fact}{I t K y:Nat}(h:Went q P n none B M2 A I K)(a:Went M2 Q k e s r o t y)(D:∀ g,P g->R g)(G:∀ g,Q g->R g)(V:n+k<=m):Went q R m e s r o t y where
 kp:=a.kp
 Af:=h.Af.trans a.Af
 room:=a.room.trans h.room
 ids:=fun g C=>(a.ids g C).elim (fun x=>.inl (G g x)) (fun x=>(h.ids g x).imp (D g) id)
 BU:=by have:=h.BU;have:=a.BU;omega
 full:=fun c=>by have O:=a.full c;have:=h.BU;have:=h.room;omega
theorem Went.more{M:DM}{P Q:Nat->Prop}{n m:Nat}{e:Option Int}{d:NM}{c:DM}{b:List Fact}{f i u:Nat}(h:Went M P n e d c b f i)(k:∀ g,P g->Q g)(o:n<=m)(l:i<=u):Went M Q m e d c b f u :=
 ⟨h.kp.mono id l,h.Af,h.room,fun g j=>(h.ids g j).imp (k g) id,by have:=h.BU;omega,fun a=>by have:=h.full a;omega⟩
theorem Went.self{N:NM}{M:DM}{F:List Fact}{p t:Nat}(h:Kp N M F p t True)(P:Nat->Prop):Went M P 0 none N M F p t :=
 ⟨h.mono (fun _=>trivial) (Io _),Ans.refl M,rfl,fun _ a=>.inr a,Io _,fun e=>by cases e⟩
theorem Nw{N:NM}{M:DM}{F:List Fact}{p t:Nat}(h:Kp N M F p t True)(J:t+3<=1000000)(x:Fact)(K:ZW x)(s:(zj x).size<=2000)(B:(N.S.enter x).hints.length<=32)(f:Nat)(E:f∉M.ids) :
 ∃ e b i j c,N.write M x f=(e,{N with J:=i,S:=j},c)/\Went M (·=f) (zj x).size e {N with J:=i,S:=j} c (F++if b=true then [x] else []) p (t+3)/\(e=none->b=true)/\j=(if b=true then N.S.enter x else N.S)/\(e=none->M.calls<c.calls):=by
 obtain⟨⟨L,D,rfl,y⟩,A⟩:=h;rw[A] at B;obtain⟨b,e,i,c,v,C,G,l,q,g,r,I,o,u,k,a⟩:=KT D (y trivial).1 J x K s (by rw[Hm,<- Nv];exact B) f E;refine⟨e,b,i,_,c,?_,⟨⟨⟨v,G,l,fun d=>⟨(a d).2.1,q _ (y trivial).2⟩⟩,?_⟩,g,r,o,u,k⟩,fun d=>(a d).1,rfl,fun d=>(a d).2.2.2⟩
 .unfold NM.write
  rw[C]
 .show(if b=true then N.S.enter x else N.S)=_
  rw[A];split
  .rw[Il,Ix,Xj]
  .rw[IV]
theorem TR{N:NM}{M:DM}{F:List Fact}{p t:Nat}(h:Kp N M F p t True)(D:t+2<=1000000) :
 ∃ e f i q,N.sync M=(e,{N with J:=f},i)/\Went M (fun _=>False) 0 e {N with J:=f} i F q (t+2)/\p<=q/\e≠some 10/\(e=none->q=F.length):=by
 obtain⟨⟨E,r,rfl,s⟩,v⟩:=h;obtain⟨e,f,i,B,C,k,x,o,c,j,d,A,l⟩:=LV r (s trivial).1 D;have y:N.sync M=(e,{N with J:=f},i):=by unfold NM.sync;rw[C]
 cases e with
 | none =>
  obtain⟨a,b⟩:=l rfl;exact⟨none,f,i,_,y,⟨⟨⟨B,b,x,fun _=>⟨a,o _ (s trivial).2⟩⟩,v⟩,c,j.room,fun g k=>.inr (j.ids▸k),Fw j.BU,fun e=>by cases e⟩,r.yc,d,fun _=>rfl⟩
 | some n=>exact⟨some n,f,i,p,y,⟨⟨⟨B,k,x,fun e=>by cases e⟩,v⟩,c,j.room,fun g k=>.inr (j.ids▸k),Fw j.BU,fun e=>absurd e d⟩,Io _,d,fun e=>by cases e⟩
def NM.due(N:NM):Bool:=!(decide (N.every=0)||decide (N.writes+1<N.every))
theorem LW{N:NM}{M:DM}{F:List Fact}{p t:Nat}(h:Kp N M F p t True)(l:t+2<=1000000) :
 ∃ e b c wr a,N.counted M=(e,{N with J:=b,writes:=wr},c)/\Went M (fun _=>False) 0 e {N with J:=b,writes:=wr} c F a (t+2)/\p<=a/\wr=(if N.due=true then 0 else N.writes+1)/\(e=none->N.due=true->a=F.length):=by
 unfold NM.counted NM.due;by_cases f:N.every=0\/N.writes+1<N.every
 .rw[IC f]
  refine⟨none,N.J,M,N.writes+1,p,rfl,(Went.self (N:={N with writes:=N.writes+1}) ⟨h.lg,h.held⟩ _).more (fun _ e=>e) (Io _) (by omega),Io _,?_,fun _ e=>?_⟩
  .rw[It];simp;omega
  .exfalso;simp at e;omega
 .rw[It f]
  obtain⟨e,b,c,a,i,m,k,j,d⟩:=TR (N:={N with writes:=0}) ⟨h.lg,h.held⟩ l;refine⟨e,b,c,0,a,i,m,k,?_,fun g _=>d g⟩;rw[IC];simp;omega
theorem Py{N:NM}{M:DM}{F:List Fact}{p t:Nat}(h:Kp N M F p t True)(Y:t+5<=1000000)(x:Fact)(V:ZW x)(l:(zj x).size<=2000)(T:(N.S.enter x).hints.length<=32)(f:Nat)(S:f∉M.ids) :
 ∃ e c v g wr d r,N.change M x f=(e,{N with J:=v,S:=g,writes:=wr},d)/\Went M (·=f) (zj x).size e {N with J:=v,S:=g,writes:=wr} d (F++if c=true then [x] else []) r (t+5)/\p<=r/\(e=none->c=true)/\g=(if c=true then N.S.enter x else N.S) /\
  (e=none->wr=(if N.due=true then 0 else N.writes+1)/\(N.due=true->r=F.length+1))/\wr<=N.writes+1/\(e=none->M.calls<d.calls):=by
 obtain⟨I,c,y,i,D,K,s,q,A,j⟩:=Nw h (by omega) x V l T f S;unfold NM.change;rw[K];cases I with
 | some n=>exact⟨some n,c,y,i,N.writes,D,p,rfl,s.more (fun _ e=>e) (Io _) (by omega),Io _,(fun e=>by cases e),A,(fun e=>by cases e),GA _,(fun e=>by cases e)⟩
 | none =>
  have o:=q rfl;subst o;obtain⟨J,C,E,wr,X,L,B,k,b,a⟩:=LW (N:={N with J:=y,S:=i}) (s.kp.mono (fun _=>rfl) (Io _)) (by omega);refine⟨J,true,C,i,wr,E,X,L,s.trans B (fun _ e=>e) (fun _ e=>absurd e id) (Io _),k,fun _=>rfl,A,fun G=>⟨b,fun O=>?_⟩,?_,fun _=>Int.lt_of_lt_of_le (j rfl) B.Af.2.le⟩
  .have:=a G O
   rw[IC rfl,Il,Ix] at this;exact this
  .rw[b];show(if N.due=true then 0 else N.writes+1)<=_;split <;> omega
def Leas(F:List Fact)(p g:Nat):Prop:=∀ q,p<=q->q<=F.length->g<=(atF F q).Bh
theorem TS{n:Nat}(h:n<1000000000000):(zj (.inl n)).size<=100:=by
 show(zp (Xw n)).size<=100;rw[YO];unfold Xw;have b:=zB (n:=1) (by decide);have c:=zB (n:=n) (by omega);have a:=XQ (zk 1++zk n) (by rw[Il];omega);rw[Il] at a;omega
theorem LY{N:NM}{M:DM}{F:List Fact}{p t:Nat}(h:Kp N M F p t True)(ht:t+5<=1000000)(hg:N.given<100000000000)(V:N.given<=N.S.Bh)(S:N.given<N.S.Bh->Leas F p N.S.Bh)(f:Nat)(T:f∉M.ids) :
 ∃ e y d D A v,N.next M f=(e,(if e=none then N.given+1 else 0),{N with J:=y,S:=d,given:=if e=none then N.given+1 else N.given},D)/\Went M (·=f) 100 e {N with J:=y,S:=d,given:=if e=none then N.given+1 else N.given} D (F++A) v (t+5)/\p<=v /\
  (A=[]/\d=N.S\/A=[.inl (N.given+16)]/\d={N.S with Bh:=N.given+16}/\¬N.given<N.S.Bh)/\(e=none->N.given+1<=d.Bh/\Leas (F++A) v d.Bh):=by
 unfold NM.next;by_cases b:N.given<N.S.Bh
 .rw[IC b]
  refine⟨none,N.J,N.S,M,[],p,rfl,?_,Io _,.inl ⟨rfl,rfl⟩,fun _=>⟨b,by rw[IV];exact S b⟩⟩;rw[IV];exact(Went.self (N:={N with given:=N.given+1}) ⟨h.lg,h.held⟩ _).more (fun _ e=>e) (II _) (by omega)
 .rw[It b]
  have j:=TS (n:=N.given+16) (by omega);obtain⟨J,x,B,c,I,L,l,s,k,_⟩:=Nw h (by omega) (.inl (N.given+16)) (Uo (by omega)) (by omega) (by show N.S.hints.length<=32;rw[h.held];exact h.An _) f T;unfold NM.BG;rw[L];have g:(if x=true then [.inl (N.given+16)] else []:List Fact)=[]/\c=N.S\/(if x=true then [.inl (N.given+16)] else []:List Fact)=[.inl (N.given+16)]/\c={N.S with Bh:=N.given+16}/\¬N.given<N.S.Bh:=by
   rw[k];cases x with
   | true=>exact .inr ⟨rfl,rfl,b⟩
   | false=>exact .inl ⟨rfl,rfl⟩
  cases J with
  | some n=>exact⟨some n,B,c,I,_,p,rfl,l.more (fun _ e=>e) j (by omega),Io _,g,fun e=>by cases e⟩
  | none =>
   have r:=s rfl;subst r;simp only[Gh] at k l |-;clear g;have g:([.inl (N.given+16)]:List Fact)=[]/\c=N.S\/([.inl (N.given+16)]:List Fact)=[.inl (N.given+16)]/\c={N.S with Bh:=N.given+16}/\¬N.given<N.S.Bh:=.inr ⟨rfl,k,b⟩;obtain⟨K,C,E,G,O,w2,i,X,o⟩:=TR (N:={N with J:=B,S:=c}) (l.kp.mono (fun _=>rfl) (Io _)) (by omega);have a:=l.trans (R:=(·=f)) (m:=100) w2 (fun _ e=>e) (fun _ e=>absurd e id) (by omega);simp only[O];cases K with
   | some n=>exact⟨some n,C,c,E,_,G,rfl,a,i,g,fun e=>by cases e⟩
   | none =>
    refine⟨none,C,c,E,_,G,rfl,⟨⟨a.kp.lg,a.kp.held⟩,a.Af,a.room,a.ids,a.BU,a.full⟩,i,g,fun _=>⟨?_,fun q h1 h2=>?_⟩⟩
    .rw[k];exact Nat.add_le_add_left (by decide) _
    .have:=o rfl
     have Y:q=(F++[(.inl (N.given+16):Fact)]).length:=by omega
     rw[Y,<- a.kp.held];exact Io _
theorem Re{N:NM}{M:DM}{F:List Fact}{p t:Nat}(h:Kp N M F p t True)(ht:t+10<=1000000)(a3:N.given<100000000000)(I:N.given<=N.S.Bh)(hL:N.given<N.S.Bh->Leas F p N.S.Bh)(a7:N.readOnly=false)(a:ByteArray)(vs:NM->Nat->List Ver)(l:List Ver)(f g:Nat)(hf:f∉M.ids)(hg:g∉M.ids)(ha:Apart2 N M f g)
 (hv:∀ i:NM,i.S.keys=N.S.keys->i.self=N.self->vs i (N.given+1)=l)(hx:ZW (.inr (.inl (a,l))))(a9:(zj (.inr (.inl (a,l)))).size<=1900) :
 ∃ e J' y C wr V A B S,N.replace M a vs f g=((if e=none then N.given+1 else 0),ZA e,{N with J:=J',S:=y,given:=C,writes:=wr,readOnly:=e.isSome},V)/\Went M (fun k=>k=f\/k=g) 2000 e {N with J:=J',S:=y,given:=C,writes:=wr,readOnly:=e.isSome} V (F++A++B) S (t+10)/\p<=S /\
  (A=[]\/A=[.inl (N.given+16)]/\¬N.given<N.S.Bh)/\(B=[]/\e≠none\/B=[.inr (.inl (a,l))]/\C=N.given+1/\N.given+1<=y.Bh/\Leas (F++A++B) S y.Bh) /\
  (e=none->wr=(if N.due=true then 0 else N.writes+1)/\(N.due=true->S=(F++A++B).length))/\wr<=N.writes+1/\N.given<=C/\C<=N.given+1/\y.hints=N.S.hints/\C<=y.Bh/\(e=none->M.calls<V.calls):=by
 obtain⟨e1,T,o,M1,A,p1,ea,v,K,hA,hn⟩:=LY h (by omega) a3 I hL f hf;have G:A=[]\/A=[.inl (N.given+16)]/\¬N.given<N.S.Bh:=hA.imp (fun x=>x.1) (fun x=>⟨x.1,x.2.2⟩);have b:o.hints=N.S.hints/\o.keys=N.S.keys:=by
  rcases hA with⟨_,e⟩|⟨_,e,_⟩
  .rw[e];exact⟨rfl,rfl⟩
  .rw[e];exact⟨rfl,rfl⟩
 unfold NM.replace;rw[ea];cases e1 with
 | some n =>
  refine⟨some n,T,o,N.given,N.writes,M1,A,[],p1,?_,?_,K,G,.inl ⟨rfl,fun e=>by cases e⟩,(fun e=>by cases e),GA _,Io _,GA _,b.1,?_,(fun e=>by cases e)⟩
  .simp[NM.Af,ZA]
  .rw[IV]
   have:=v.more (Q:=fun k=>k=f\/k=g) (m:=2000) (u:=t+10) (fun _ e=>.inl e) (by omega) (by omega);exact⟨⟨this.kp.lg,this.kp.held⟩,this.Af,this.room,this.ids,this.BU,this.full⟩
  .rcases hA with⟨_,e⟩|⟨_,e,_⟩
   .rw[e];exact I
   .rw[e];exact Cq _ _
 | none =>
  simp only[Gh] at v |-;obtain⟨J,a5⟩:=hn rfl;have a2:g∉M1.ids:=fun hm=>by
   rcases v.ids g hm with e|e
   .subst e
    have:=ha rfl;rw[ea] at this;exact this hm
   .exact hg e
  have hl:=hv {N with J:=T,S:=o,given:=N.given+1} b.2 rfl;rw[hl];obtain⟨X,O,J2,D,wr,M2,p2,eb,w2,a6,L,s,r,a8,a1⟩:=Py (N:={N with J:=T,S:=o,given:=N.given+1}) (v.kp.mono (fun _=>rfl) (Io _)) (by omega) (.inr (.inl (a,l))) hx (by omega) (by show(SM.holds _ _ _).hints.length<=32;rw[X3,b.1,h.held];exact h.An _) g a2;have c:=v.trans (R:=fun k=>k=f\/k=g) (m:=2000) w2 (fun _ e=>.inl e) (fun _ e=>.inr e) (by omega);have hk:=c.kp;have j:D.Bh=o.Bh:=by
   rw[s];split
   .exact Yn _ _ _
   .rfl
  have a4:D.hints=N.S.hints:=by
   rw[s];split
   .show(SM.holds _ _ _).hints=_;rw[X3];exact b.1
   .exact b.1
  have hB:(if O=true then [.inr (.inl (a,l))] else []:List Fact)=[]/\X≠none\/(if O=true then [.inr (.inl (a,l))] else []:List Fact)=[.inr (.inl (a,l))]/\N.given+1=N.given+1/\N.given+1<=D.Bh/\Leas (F++A++if O=true then [.inr (.inl (a,l))] else []) p2 D.Bh:=by
   cases O with
   | false=>exact .inl ⟨rfl,fun e=>by have:=L e;cases this⟩
   | true =>
    refine .inr ⟨rfl,rfl,by rw[j];exact J,fun q h1 h2=>?_⟩;simp only[Gh] at h2 s |-;rw[Il,Ix] at h2;by_cases hq:q<=(F++A).length
    .rw[Xr hq,j]
     exact a5 q (by omega) hq
    .have e:q=(F++A).length+1:=by omega
     rw[e,Xj];have Y:o=atF (F++A) (F++A).length:=v.kp.held;rw[<- Y,j];show o.Bh<=(SM.holds _ _ _).Bh;rw[Yn];exact Io _
  have a0:∀ i d (x:Fact),NM.asked i d x g=(ZA (i.change d x g).1,(i.change d x g).2.1.Af (i.change d x g).1,(i.change d x g).2.2):=fun _ _ _=>rfl;rw[a0,eb];refine⟨X,J2,D,N.given+1,wr,M2,A,if O=true then [.inr (.inl (a,l))] else [],p2,?_,⟨⟨hk.lg,hk.held⟩,c.Af,c.room,c.ids,c.BU,c.full⟩,Im K a6,G,hB,fun E=>⟨(r E).1,fun hd=>?_⟩,a8,GA _,Io _,a4,by rw[j];exact J,fun E=>Int.lt_of_le_of_lt v.Af.2.le (a1 E)⟩
  .cases X with
   | none=>simp[NM.Af,ZA,a7]
   | some n=>simp[NM.Af,ZA]
  .have Y:=(r E).2 hd
   rw[L E,IC rfl,Il,Ix];exact Y
theorem JC{N:NM}{M:DM}{F:List Fact}{p t:Nat}(h:Kp N M F p t True)(G:t+5<=1000000)(q:N.readOnly=false)(x:Fact)(I:ZW x)(i:(zj x).size<=2000)(E:(N.S.enter x).hints.length<=32)(f:Nat)(C:f∉M.ids) :
 ∃ e l c wr d B k,N.asked M x f=(ZA e,{N with J:=l,S:=c,writes:=wr,readOnly:=e.isSome},d)/\Went M (·=f) 2000 e {N with J:=l,S:=c,writes:=wr,readOnly:=e.isSome} d (F++B) k (t+5)/\p<=k/\(B=[]/\e≠none/\c=N.S\/B=[x]/\c=N.S.enter x) /\
  (e=none->wr=(if N.due=true then 0 else N.writes+1)/\(N.due=true->k=(F++B).length))/\wr<=N.writes+1/\(e=none->M.calls<d.calls):=by
 obtain⟨e,s,l,c,wr,d,k,v,w,D,j,y,a,r,o⟩:=Py h G x I i E f C;have b:=w.more (Q:=(·=f)) (m:=2000) (u:=t+5) (fun _ e=>e) i (Io _);unfold NM.asked;rw[v];refine⟨e,l,c,wr,d,if s=true then [x] else [],k,?_,⟨⟨b.kp.lg,b.kp.held⟩,b.Af,b.room,b.ids,b.BU,b.full⟩,D,?_,fun g=>⟨(a g).1,fun A=>?_⟩,r,o⟩
 .cases e with
  | none=>simp[NM.Af,ZA,q]
  | some n=>simp[NM.Af,ZA]
 .rw[y]
  cases s with
  | false=>exact .inl ⟨rfl,(fun g=>by have:=j g;cases this),rfl⟩
  | true=>exact .inr ⟨rfl,rfl⟩
 .rw[j g,IC rfl,Il,Ix]
  exact(a g).2 A
end Go.Proofs.YtkhnggkkiefcdaaGreatDoor
namespace Go.Proofs.YtkhnggkkiefcdaaGreatDoor
open Go.RowKit Go.Extern.Stop Go.Stop Go.Extern
set_option maxRecDepth 100000
set_option maxHeartbeats 8000000
theorem Pz(t:Addr)(w:World):(ReflectliteValue.unpack (.iface 227 (.pointer (some t)))).run Tryz.prog w
 = .ok (.agg #[.pointer (some ⟨6,227,none⟩),.pointer (some ⟨w.heap.size,0,none⟩),.int .u64 150]) (w.alloc (.cells #[.pointer (some t)] 227)):=by kernel_rfl
theorem LZ(a:Addr)(w:World):(ReflectliteValue.methodAny (ReflectliteValue.valueError "reflectlite.Value.Type" 0) (fun t _ _ _=>ReflectliteType.toType t) #[.agg #[.pointer (some ⟨6,227,none⟩),.pointer (some a),.int .u64 150]]).run Tryz.prog w
 = .ok (.iface 309 (.agg #[.pointer (some ⟨6,227,none⟩)])) w:=by kernel_rfl
theorem RM(h:Value)(w:World):(Go.method 496 309 (.agg #[h]) "Kind").run Tryz.prog w=.ok (271,h) w:=by kernel_rfl
theorem K0(w:World):((ReflectliteType.abiMethod fun t=>Functor.map (fun a:Nat=>Value.int IntKind.u8 (a:Int)) (Rtype.kind t)) #[.pointer (some ⟨6,227,none⟩)]).run Tryz.prog w=.ok (.int .u8 22) w:=by kernel_rfl
theorem K1(w:World):((ReflectliteType.abiMethod fun t=>Functor.map (fun a:Nat=>Value.int IntKind.u8 (a:Int)) (Rtype.kind t)) #[.pointer (some ⟨6,225,none⟩)]).run Tryz.prog w=.ok (.int .u8 22) w:=by kernel_rfl
theorem TT(a:Addr)(w:World):(ReflectliteValue.parts (.agg #[.pointer (some ⟨6,227,none⟩),.pointer (some a),.int .u64 150])).run Tryz.prog w=.ok (some (227,a,150)) w:=by kernel_rfl
theorem MD(a p:Addr)(W:World)(b:W.cell? a=some (.pointer (some p))) :
 (ReflectliteValue.method (ReflectliteValue.valueError "reflectlite.Value.IsNil" 0) ReflectliteValue.isNil #[.agg #[.pointer (some ⟨6,227,none⟩),.pointer (some a),.int .u64 150]]).run Tryz.prog W=.ok (.bool false) W:=by
 change Sem.run Tryz.prog (ReflectliteValue.parts (.agg #[.pointer (some ⟨6,227,none⟩),.pointer (some a),.int .u64 150]) >>= _) W=_;simp only[El,TT,Result.andThen];simp[ReflectliteValue.isNil,loadVar,isAgg,underlying,Tryz.underlying227,b,Result.andThen]
theorem RN(h:Value)(w:World):(Go.method 496 309 (.agg #[h]) "Elem").run Tryz.prog w=.ok (316,.agg #[h]) w:=by kernel_rfl
theorem U2(h:Value)(w:World):(Go.method 496 309 (.agg #[h]) "Implements").run Tryz.prog w=.ok (317,.agg #[h]) w:=by kernel_rfl
theorem Vw(h:Value)(w:World):(Go.method 496 309 (.agg #[h]) "AssignableTo").run Tryz.prog w=.ok (314,.agg #[h]) w:=by kernel_rfl
theorem K3(w:World):(ReflectliteType.method ReflectliteType.elem #[.agg #[.pointer (some ⟨6,227,none⟩)]]).run Tryz.prog w=.ok (.iface 309 (.agg #[.pointer (some ⟨6,225,none⟩)])) w:=by kernel_rfl
theorem TU(w:World):(ReflectliteType.relation "Implements" ReflectliteType.implements_ #[.agg #[.pointer (some ⟨6,225,none⟩)],.iface 309 (.agg #[.pointer (some ⟨6,132,none⟩)])]).run Tryz.prog w=.ok (.bool true) w:=by kernel_rfl
theorem OM(v:Value)(w:World):(ReflectliteType.typeOf #[.iface 225 v]).run Tryz.prog w=.ok (.iface 309 (.agg #[.pointer (some ⟨6,225,none⟩)])) w:=by kernel_rfl
theorem TV(w:World):(ReflectliteType.relation "AssignableTo" ReflectliteType.assignableTo #[.agg #[.pointer (some ⟨6,225,none⟩)],.iface 309 (.agg #[.pointer (some ⟨6,225,none⟩)])]).run Tryz.prog w=.ok (.bool true) w:=by kernel_rfl
theorem PA(e:Addr)(w:World):(ReflectliteValue.unpack (.iface 225 (.pointer (some e)))).run Tryz.prog w
 = .ok (.agg #[.pointer (some ⟨6,225,none⟩),.pointer (some ⟨w.heap.size,0,none⟩),.int .u64 150]) (w.alloc (.cells #[.pointer (some e)] 225)):=by kernel_rfl
theorem ON(w:World):(Rtype.elem? 227).run Tryz.prog w=.ok (some 225) w:=by kernel_rfl
theorem JD(p:Addr)(w:World):(ReflectliteValue.mk 225 p ReflectliteValue.flagAddr).run Tryz.prog w=.ok (.agg #[.pointer (some ⟨6,225,none⟩),.pointer (some p),.int .u64 406]) w:=by kernel_rfl
theorem ME(a p:Addr)(W:World)(b:W.cell? a=some (.pointer (some p))) :
 (ReflectliteValue.method (ReflectliteValue.valueError "reflectlite.Value.Elem" 0) ReflectliteValue.elem #[.agg #[.pointer (some ⟨6,227,none⟩),.pointer (some a),.int .u64 150]]).run Tryz.prog W
   = .ok (.agg #[.pointer (some ⟨6,225,none⟩),.pointer (some p),.int .u64 406]) W:=by
 change Sem.run Tryz.prog (ReflectliteValue.parts (.agg #[.pointer (some ⟨6,227,none⟩),.pointer (some a),.int .u64 150]) >>= _) W=_;simp only[El,TT,Result.andThen];simp[ReflectliteValue.elem,loadVar,isAgg,underlying,Tryz.underlying227,b,Result.andThen,ON,JD]
theorem OO(a:Addr)(w:World):(ReflectliteValue.parts (.agg #[.pointer (some ⟨6,225,none⟩),.pointer (some a),.int .u64 406])).run Tryz.prog w=.ok (some (225,a,406)) w:=by kernel_rfl
theorem MF(a:Addr)(w:World):(ReflectliteValue.parts (.agg #[.pointer (some ⟨6,225,none⟩),.pointer (some a),.int .u64 150])).run Tryz.prog w=.ok (some (225,a,150)) w:=by kernel_rfl
theorem OP(w:World):(Rtype.directlyAssignable 225 225).run Tryz.prog w=.ok true w:=by kernel_rfl
theorem KU(a b e:Addr)(c:Value)(W:World)(d:W.cell? b=some (.pointer (some e)))(g:W.cell? a=some c)(f:W.frozen? a=false) :
 (ReflectliteValue.set #[.agg #[.pointer (some ⟨6,225,none⟩),.pointer (some a),.int .u64 406],.agg #[.pointer (some ⟨6,225,none⟩),.pointer (some b),.int .u64 150]]).run Tryz.prog W
   = .ok (.tuple #[]) (W.setCell a (.pointer (some e))):=by
 change Sem.run Tryz.prog (ReflectliteValue.parts (.agg #[.pointer (some ⟨6,225,none⟩),.pointer (some a),.int .u64 406]) >>= fun _=>ReflectliteValue.parts (.agg #[.pointer (some ⟨6,225,none⟩),.pointer (some b),.int .u64 150]) >>= _) W=_;simp only[El,OO,MF,Result.andThen];simp[ReflectliteValue.flagAddr,loadVar,isAgg,underlying,Tryz.underlying225,d,Result.andThen,OP,storeVar,Value.cells,storeCells,Addr.add];rw[run_store Tryz.prog W a _ _ (by rfl)];simp[g,f]
theorem MG(v:Value)(w:World):(ReflectliteType.typeOf #[.iface 202 v]).run Tryz.prog w=.ok (.iface 309 (.agg #[.pointer (some ⟨6,202,none⟩)])) w:=by kernel_rfl
theorem Sw(w:World):(ReflectliteType.relation "AssignableTo" ReflectliteType.assignableTo #[.agg #[.pointer (some ⟨6,202,none⟩)],.iface 309 (.agg #[.pointer (some ⟨6,225,none⟩)])]).run Tryz.prog w=.ok (.bool false) w:=by kernel_rfl
theorem KV(v:Value)(a:TypeId)(w:World):(Instr.typeAssert (.iface 202 v) a 314 true).run Tryz.prog w=.ok (.tuple #[.nilIface,.bool false]) w :=
 run_typeAssert_lacksB Tryz.underlying314 (by kernel_rfl) (by kernel_rfl) v a w
theorem I8(v:Value)(a:TypeId)(w:World):(Instr.typeAssert (.iface 202 v) a 317 true).run Tryz.prog w=.ok (.tuple #[.iface 202 v,.bool true]) w :=
 run_typeAssert_hasB Tryz.underlying317 (by kernel_rfl) v a w
theorem K4(v:Value)(w:World):(Go.method 496 202 v "Unwrap").run Tryz.prog w=.ok (302,v) w:=by kernel_rfl
theorem PB(b:Nat)(a:ByteArray)(v:Value)(w:World)(h:Blk w b [.string a,v] 204)(t c:Nat)(d:v=.iface t (.pointer (some ⟨c,0,none⟩))) :
 Calls Tryz.prog 302 #[.pointer (some ⟨b,0,none⟩)] w fun e f=>e=.returned v/\f=w:=by
 subst d;have g:w.cell? ⟨b,1,none⟩=some (.iface t (.pointer (some ⟨c,0,none⟩))):=h.cell 1;clear h;go_enter Tryz.func302,Tryz.ntmps302
 go_wp2
 go_ret;exact⟨rfl,rfl⟩
theorem Zo.unique{w:World}{n m:Int}:∀ {k j:Nat}{v:Value},Zo w n k v->Zo w m j v->k=j
 | 0,0,_,_,_=>rfl
 | 0,j+1,v,⟨b,c,f,h,i⟩,⟨g,l,o,a,d,_⟩=>by
  rw[h] at a;exact absurd a (by intro x;have:=(CM x).1;exact absurd this (by decide))
 | k+1,0,v,⟨g,l,o,a,d,_⟩,⟨b,c,f,h,i⟩=>by
  rw[h] at a;exact absurd a (by intro x;have:=(CM x).1;exact absurd this (by decide))
 | k+1,j+1,v,⟨b,c,t,h,i,s⟩,⟨g,l,o,a,d,r⟩=>by
  rw[h] at a;have e:=(CM a).2;have q:b=g:=by injection e with e;injection e with e;injection e
  subst q;have:=(i.inj d).1;simp at this;obtain⟨_,rfl⟩:=this;rw[Zo.unique s r]
theorem UR(n:Int):∃ D:World->Value->Nat,∀ w v k,Zo w n k v->D w v=k:=
 ⟨fun w v=>Classical.epsilon fun k=>Zo w n k v,fun w v k h=>Zo.unique (Classical.epsilon_spec (p:=fun k=>Zo w n k v) ⟨k,h⟩) h⟩
def K5(n:Int)(t:Nat)(w a:World):Prop:=∃ e c f,a.cell? ⟨t,0,none⟩=some (.pointer (some ⟨e,0,none⟩))/\Blk a e [.string c,.string f,.int .i64 n] 229/\Fr (fun k=>k=t) w a
theorem K6(n:Int)(k:Nat)(v:Value)(t a:Nat)(w:World)(X:Zo w n k v)(I:Blk w t [.pointer none] 225)(V:Blk w a [.pointer (some ⟨t,0,none⟩)] 227) :
 Calls Tryz.prog 198 #[v,.iface 227 (.pointer (some ⟨t,0,none⟩)),.agg #[.pointer (some ⟨6,227,none⟩),.pointer (some ⟨a,0,none⟩),.int .u64 150],.iface 309 (.agg #[.pointer (some ⟨6,225,none⟩)])] w fun e s=>e=.returned (.bool true)/\K5 n t w s:=by
 have h6:=@Gf Tryz.prog 195 _ (fun u=>ReflectliteValue.unpack (u.getD 0 (.tuple #[]))) Tryz.func195 (by kernel_rfl) (by kernel_rfl) (by kernel_rfl) (by kernel_rfl);have a1:=@Gf Tryz.prog 224 _ ReflectliteType.typeOf Tryz.func224 (by kernel_rfl) (by kernel_rfl) (by kernel_rfl) (by kernel_rfl);have a4:=@Gf Tryz.prog 314 _ (ReflectliteType.relation "AssignableTo" ReflectliteType.assignableTo) Tryz.func314 (by kernel_rfl) (by kernel_rfl) (by kernel_rfl) (by kernel_rfl);have a2:=@Gf Tryz.prog 225 _ (ReflectliteValue.method (ReflectliteValue.valueError "reflectlite.Value.Elem" 0) ReflectliteValue.elem) Tryz.func225 (by kernel_rfl) (by kernel_rfl) (by kernel_rfl) (by kernel_rfl);have a3:=@Gf Tryz.prog 226 _ ReflectliteValue.set Tryz.func226 (by kernel_rfl) (by kernel_rfl) (by kernel_rfl) (by kernel_rfl);have tO:=OM;have tD:=MG;have mA:=Vw;have a0:=TV;have aD:=Sw;have a8:=PA;have hL:=KV;have hH:=I8;have mU:=K4;have d:=Blk.new w [.pointer (some ⟨6,227,none⟩),.pointer (some ⟨a,0,none⟩),.int .u64 150] 281;have y:Fr Nil w (w.alloc (.cells #[.pointer (some ⟨6,227,none⟩),.pointer (some ⟨a,0,none⟩),.int .u64 150] 281)):=(U _ _).alloc _;have O:=Z (X.fr y (XU.nil w));have M:=Z (I.fr y id);have J:=Z (V.fr y id);have B:=Z d;have L:=Z y;have a6:=I.lt;clear X I V d y;generalize A:w.alloc (.cells #[.pointer (some ⟨6,227,none⟩),.pointer (some ⟨a,0,none⟩),.int .u64 150] 281)=wb at O M J B L;generalize R:w.heap.size=N at B;have T:N<wb.heap.size:=B.out.lt;have G:=Z A;have HN:=Z R;clear A R;go_enter Tryz.func198,Tryz.ntmps198;go_wp2_with fail;rw[G.out,HN.out]
 obtain ⟨qDD9, hDD9⟩ := UR n
 have HDD9 := Z hDD9
 clear hDD9
 go_loopw [0] (fun x s=>∃ k,Zo s n k x/\Fr Nil wb s) (fun x s=>qDD9 s x)
 case atStart=>exact⟨k,O.out,U _ _⟩
 case round =>
  obtain⟨j,g,q⟩:=hrel;have a5:=(B.out.fr q id).cell;cases j with
  | zero =>
   obtain⟨e,c,f,rfl,o⟩:=g;have el:=ME ⟨a,0,none⟩ ⟨t,0,none⟩ wr ((J.out.fr q id).cell 0);have i:=Blk.new wr [.pointer (some ⟨e,0,none⟩)] 225;have r:=M.out.fr q id;have b:=r.alloc (.cells #[.pointer (some ⟨e,0,none⟩)] 225);have st:=KU ⟨t,0,none⟩ ⟨wr.heap.size,0,none⟩ ⟨e,0,none⟩ (.pointer none) (wr.alloc (.cells #[.pointer (some ⟨e,0,none⟩)] 225)) (i.cell 0) (b.cell 0) (b.frozen 0);have l:=b.set 0 (.pointer (some ⟨e,0,none⟩));have HC:=Z (l.cell 0);have C:=Z ((o.alloc (.cells #[.pointer (some ⟨e,0,none⟩)] 225)).AE (b':=t) (o.ne r (by decide)) 0 (.pointer (some ⟨e,0,none⟩)));have E:Hid (Fr (fun k=>k=t) w ((wr.alloc (.cells #[.pointer (some ⟨e,0,none⟩)] 225)).setCell ⟨t,0,none⟩ (.pointer (some ⟨e,0,none⟩)))) :=
    Z (Fr.set (S:=fun k=>k=t) (p:=⟨t,0,none⟩) (((L.out.trans q).mono (fun _ _ h=>absurd h id)).alloc _) (fun _=>rfl) _)
   clear o q i r b l
   go_wp2
   go_ret;exact⟨rfl,e,c,f,HC.out,C.out,E.out⟩
  | succ j =>
   obtain⟨e,m,v',rfl,o,g⟩:=g;obtain⟨Y,Q,rfl⟩:=g.form;have HU:=Z (PB e m _ wr o Y Q rfl);have K:Hid (qDD9 wr (.iface Y (.pointer (some ⟨Q,0,none⟩)))=j/\qDD9 wr (.iface 202 (.pointer (some ⟨e,0,none⟩)))=j+1):=⟨HDD9.out _ _ _ g,HDD9.out _ _ _ ⟨e,m,_,rfl,o,g⟩⟩;have D:=Z q;have HJ:=Z g;clear o q g
   go_wp2_with (refine HU.out.mono ?_;rintro e w1 ⟨rfl,a7⟩;subst w1)
   exact⟨⟨j,HJ.out,D.out⟩,by rw[K.out.1,K.out.2];omega⟩
theorem KW(n:Int)(v:Value)(t:Nat)(w:World)(R:ERep w v (some n))(y:Blk w t [.pointer none] 225)(l:Hnd w) :
 Calls Tryz.prog 154 #[v,.iface 227 (.pointer (some ⟨t,0,none⟩))] w fun e Y=>e=.returned (.bool true)/\K5 n t w Y:=by
 have h6:=@Gf Tryz.prog 195 _ (fun d=>ReflectliteValue.unpack (d.getD 0 (.tuple #[]))) Tryz.func195 (by kernel_rfl) (by kernel_rfl) (by kernel_rfl) (by kernel_rfl);have h7:=@Gf Tryz.prog 196 _ (ReflectliteValue.methodAny (ReflectliteValue.valueError "reflectlite.Value.Type" 0) (fun t _ _ _=>ReflectliteType.toType t)) Tryz.func196 (by kernel_rfl) (by kernel_rfl) (by kernel_rfl) (by kernel_rfl);have h8:=@Gf Tryz.prog 197 _ (ReflectliteValue.method (ReflectliteValue.valueError "reflectlite.Value.IsNil" 0) ReflectliteValue.isNil) Tryz.func197 (by kernel_rfl) (by kernel_rfl) (by kernel_rfl) (by kernel_rfl);have M:=@Gf Tryz.prog 271 _ (ReflectliteType.abiMethod fun t=>do pure (.int .u8 (<- Rtype.kind t))) Tryz.func271 (by kernel_rfl) (by kernel_rfl) (by kernel_rfl) (by kernel_rfl);have N:=@Gf Tryz.prog 316 _ (ReflectliteType.method ReflectliteType.elem) Tryz.func316 (by kernel_rfl) (by kernel_rfl) (by kernel_rfl) (by kernel_rfl);have O:=@Gf Tryz.prog 317 _ (ReflectliteType.relation "Implements" ReflectliteType.implements_) Tryz.func317 (by kernel_rfl) (by kernel_rfl) (by kernel_rfl) (by kernel_rfl);have f6:=Pz;have f7:=LZ;have mK:=RM;have mE:=RN;have mI:=U2;have V:=K0;have T:=K1;have K:=K3;have S:=TU;obtain⟨k,m⟩:=R;obtain⟨X,G,rfl⟩:=m.form;have g:=Blk.new w [.pointer (some ⟨t,0,none⟩)] 227;have c:Fr Nil w (w.alloc (.cells #[.pointer (some ⟨t,0,none⟩)] 227)):=(U _ _).alloc _;have q:(w.alloc (.cells #[.pointer (some ⟨t,0,none⟩)] 227)).heap.size=w.heap.size+1:=Ww _ _;generalize o:w.alloc (.cells #[.pointer (some ⟨t,0,none⟩)] 227)=f at g c q;have i:=Blk.new f [.pointer (some ⟨6,227,none⟩),.pointer (some ⟨w.heap.size,0,none⟩),.int .u64 150] 281;have a:Fr Nil f (f.alloc (.cells #[.pointer (some ⟨6,227,none⟩),.pointer (some ⟨w.heap.size,0,none⟩),.int .u64 150] 281)):=(U _ _).alloc _;generalize p:f.alloc (.cells #[.pointer (some ⟨6,227,none⟩),.pointer (some ⟨w.heap.size,0,none⟩),.int .u64 150] 281)=r at i a;have b:=g.fr a id;have n8:=MD ⟨w.heap.size,0,none⟩ ⟨t,0,none⟩ r (b.cell 0);have j:=i.cell;have Q:r.cell? ⟨0,0,none⟩=some (.iface 309 (.agg #[.pointer (some ⟨6,132,none⟩)])):=((c.trans a).cell (by have:=l;unfold Hnd World.cell? at this;simp only;rcases GO 0 w.heap.size with h|h;exact h;rw[FN h] at this;cases this) id).trans l;have D:=Z (K6 n k (.iface X (.pointer (some ⟨G,0,none⟩))) t w.heap.size r (m.fr (c.trans a) (XU.nil w)) (y.fr (c.trans a) id) b);have E:=Z (c.trans a);rw[q] at j;clear g b i m y l c a q;subst p;subst o;go_enter Tryz.func154,Tryz.ntmps154;go_wp2_with fail;refine D.out.mono ?_;rintro e w2 ⟨rfl,J,I,L,s,u,x⟩;have A:=Z s;have B:=Z u;have C:Hid (Fr (fun k=>k=t) w w2):=(E.out.mono (fun _ _ h=>absurd h id)).trans x;clear s u x
 go_wp2
 go_ret;exact⟨rfl,J,I,L,A.out,B.out,C.out⟩
theorem MH:zr:=by
 intro B w v n c j;have g:=Blk.new w [.pointer none] 225;have a:Fr Nil w (w.alloc (.cells #[.pointer none] 225)):=(U _ _).alloc _;have m:=Z (KW n v w.heap.size _ (j.fr a (XU.nil w)) g (show Hnd _ from(a.cell (by have:=c.2.2.1;unfold Hnd World.cell? at this;simp only;rcases GO 0 w.heap.size with h|h;exact h;rw[FN h] at this;cases this) id).trans c.2.2.1));have o:=Z a;have b:=Z (show ∀ k,k<w.heap.size->k≠w.heap.size from fun k h=>by omega);clear g a c j;go_enter Tryz.func97,Tryz.ntmps97;go_wp2_with fail;refine m.out.mono ?_;rintro e r ⟨rfl,u,t,x,y,d,f⟩;have p:=d.cell 2;have l:Hid (Fr Nil w r):=o.out.trans' f (fun i q e=>absurd e (b.out i q));clear d f
 go_wp2
 go_ret;exact⟨rfl,l.out⟩
end Go.Proofs.YtkhnggkkiefcdaaGreatDoor
namespace Go.Proofs.YtkhnggkkiefcdaaGreatDoor
open Go.RowKit Go.Shelf
set_option maxRecDepth 100000
set_option maxHeartbeats 8000000
attribute [local go_sem] GX
theorem KX(b:Nat) (L M2)(M:DM)(x:Nat)(I:Nat)(n:Int)(w:World)(h:DRep w b L M)
 (Y:∀ wx,Fr Nil w wx->Calls Tryz.prog 144 #[.pointer (some ⟨b,0,none⟩)] wx fun e w'=>∃ v L2,e=.returned v/\ERep w' v (some n)/\DStep b L M wx L2 M2 w') :
 Calls Tryz.prog 94 #[.pointer (some ⟨b,0,none⟩),.int .i64 x,.func (.func 95) #[] #[],.func (.func 96) #[.pointer (some ⟨I,0,none⟩)] #[]] w fun e w' =>
  ∃ v L',e=.returned (.tuple #[.pointer none,v])/\ERep w' v (some n)/\DStep b L M w L' M2 w':=by
 have a4:=Z Y;have HD:=Z h;clear Y h;refine(Gl (n:=8)).1 ?_;refine Ef Tryz.func94 rfl trivial ?_ rfl;simp only[Tryz.ntmps94,GP,Iz,Ho,Nat.reduceAdd,Nat.reduceSub,GV,GW,Fv,Fc,Hh,IU];have C:=Blk.new w [.pointer (some ⟨b,0,none⟩)] 40;have f0:Fr Nil w (w.alloc (.cells #[.pointer (some ⟨b,0,none⟩)] 40)):=(U _ _).alloc _;have s0:(w.alloc (.cells #[.pointer (some ⟨b,0,none⟩)] 40)).heap.size=w.heap.size+1:=by simp
 gi_wp2_with fail
 generalize w.alloc (.cells #[.pointer (some ⟨b,0,none⟩)] 40)=A at C f0 s0 |-;have f1:Fr Nil A ((A.alloc (.cells #[.func (.func 95) #[] #[]] 166)).alloc (.cells #[.func (.func 96) #[.pointer (some ⟨I,0,none⟩)] #[]] 167)):=((U _ _).alloc _).alloc _;have q:=(Blk.new A [.func (.func 95) #[] #[]] 166).alloc (.cells #[.func (.func 96) #[.pointer (some ⟨I,0,none⟩)] #[]] 167);have d:=Blk.new (A.alloc (.cells #[.func (.func 95) #[] #[]] 166)) [.func (.func 96) #[.pointer (some ⟨I,0,none⟩)] #[]] 167;rw[show(A.alloc (.cells #[.func (.func 95) #[] #[]] 166)).heap.size=w.heap.size+2 by simp[s0]] at d;rw[s0] at q;have s1:((A.alloc (.cells #[.func (.func 95) #[] #[]] 166)).alloc (.cells #[.func (.func 96) #[.pointer (some ⟨I,0,none⟩)] #[]] 167)).heap.size=w.heap.size+3:=by simp[s0]
 generalize (A.alloc (.cells #[.func (.func 95) #[] #[]] 166)).alloc (.cells #[.func (.func 96) #[.pointer (some ⟨I,0,none⟩)] #[]] 167)=B at q d f1 s1 |-;have D:=Blk.new B [.pointer none] 119;have b4:=Blk.new (B.alloc (.cells #[.pointer none] 119)) [.nilIface] 132;have s3:(B.alloc (.cells #[.pointer none] 119)).heap.size=w.heap.size+4:=by simp[s1]
 have s4:((B.alloc (.cells #[.pointer none] 119)).alloc (.cells #[.nilIface] 132)).heap.size=w.heap.size+5:=by simp[s1]
 have E:Fr Nil B ((B.alloc (.cells #[.pointer none] 119)).alloc (.cells #[.nilIface] 132)):=((U _ _).alloc _).alloc _;have D:=D.alloc (.cells #[.nilIface] 132);rw[s1] at D;rw[s3] at b4;have C:=(C.fr f1 id).fr E id;have q:=q.fr E id;have d:=d.fr E id;generalize (B.alloc (.cells #[.pointer none] 119)).alloc (.cells #[.nilIface] 132)=wc at C q d D b4 s4 E |-;have f:=(f0.trans f1).trans E;rw[show w.heap.size+1+1+1=w.heap.size+3 from rfl,show w.heap.size+1+1=w.heap.size+2 from rfl,show w.heap.size+3+1=w.heap.size+4 from rfl] at *;have HX:=Z (show w.heap.size+5=wc.heap.size from s4.symm);have l:=Z (And.intro C (And.intro q (And.intro d (And.intro D b4))));have o:=Z f;clear f0 f1 E s0 s1 s3 s4 C q d D b4 f;refine⟨trivial,?_⟩;refine(Gl.2 (a4.out wc o.out)).mono ?_;rintro e w1 ⟨v1,L2,rfl,R,a⟩;have s:∀ {k c t},Blk wc k c t->¬DTy t->¬Foot b L M k:=fun hb G=>(HD.out.nil o.out).apart hb.ty G;have J:=l.out.2.2.2.1.fr a.fr (s l.out.2.2.2.1 (by unfold DTy;decide));have K:=l.out.2.2.2.2.fr a.fr (s l.out.2.2.2.2 (by unfold DTy;decide));have a5:w.heap.size+5<=w1.heap.size:=by rw[HX.out];exact a.fr.size
 have a3:=Z (a.of o.out);have HE:=Z R;obtain⟨k,r⟩:=R;obtain⟨t,bb,rfl⟩:=r.form;clear a s r
 gi_wp2_with fail
 refine⟨trivial,?_⟩;refine(Gl.2 (zz _ _ _ w1 HE.out)).mono ?_;rintro e w2 ⟨v2,rfl,S,m⟩;have i:=J.fr m id;have j:=K.fr m id;have z3:=i.frozen 0;have z4:=j.frozen 0;have c3:=i.cell 0;have c4:=j.cell 0;have g:=Z (a3.out.Bn m);have a1:=Z S;have X:w.heap.size+3≠w.heap.size+4:=by omega
 obtain⟨k2,V⟩:=S;obtain⟨y,d,rfl⟩:=V.form;have N:=(i.set 0 (.pointer none)).AE (b':=w.heap.size+4) X 0 (.iface y (.pointer (some ⟨d,0,none⟩)));have O:=(j.AE (b':=w.heap.size+3) (Da X) 0 (.pointer none)).set 0 (.iface y (.pointer (some ⟨d,0,none⟩)));have H3:=Z N;have H4:=Z O;have fE:Fr (fun k=>k=w.heap.size+3\/k=w.heap.size+4) w2 ((w2.setCell ⟨w.heap.size+3,0,none⟩ (.pointer none)).setCell ⟨w.heap.size+4,0,none⟩ (.iface y (.pointer (some ⟨d,0,none⟩)))) :=
  Fr.set (p:=⟨w.heap.size+4,0,none⟩) (Fr.set (p:=⟨w.heap.size+3,0,none⟩) (U _ _) (fun _=>.inl rfl) _) (fun _=>.inr rfl) _
 have u:∀ {k t},Ty w2 k t->t≠119->t≠132->¬(k=w.heap.size+3\/k=w.heap.size+4):=fun G n1 n2 e=>by
  rcases e with rfl|rfl
  .exact n1 (G.inj i.ty)
  .exact n2 (G.inj j.ty)
 have T:ERep ((w2.setCell ⟨w.heap.size+3,0,none⟩ (.pointer none)).setCell ⟨w.heap.size+4,0,none⟩ (.iface y (.pointer (some ⟨d,0,none⟩)))) (.iface y (.pointer (some ⟨d,0,none⟩))) (some n) :=
  a1.out.fr fE (fun k r=>by rcases r with e|e <;> exact u e (by decide) (by decide))
 have Q:DStep b L M w L2 M2 ((w2.setCell ⟨w.heap.size+3,0,none⟩ (.pointer none)).setCell ⟨w.heap.size+4,0,none⟩ (.iface y (.pointer (some ⟨d,0,none⟩)))) :=
  ⟨g.out.Bt.fr fE (fun k r=>by
   obtain⟨t,G,hd⟩:=g.out.Bt.ty r;unfold DTy at hd;rcases hd with rfl|rfl|rfl|rfl|rfl <;> exact u G (by decide) (by decide)),g.out.fr.trans' fE (fun k r e=>by omega),g.out.BF⟩
 have a2:=Z T;have a0:=Z Q;clear N O fE u T Q V m J K i j
 gi_wp2_with fail
 have e3:=H3.out.cell 0;have e4:=H4.out.cell 0;refine⟨.tuple #[.pointer none,.iface y (.pointer (some ⟨d,0,none⟩))],?_,_,L2,rfl,a2.out,a0.out⟩;simp only[Hd,Ga] at e3 e4;simp[results,Tryz.f94,go_sem,e3,e4]
theorem MI(S:SM)(x:Fact):(S.enter x).keys.length<=S.keys.length+1:=by
 rcases x with n|x|x|x
 .exact GA _
 .exact LJ S x.1 x.2
 .exact GA _
 .exact GA _
theorem XZ(a:List Fact):∀ S:SM,(a.foldl SM.enter S).keys.length<=S.keys.length+a.length:=by
 induction a with
 | nil=>intro S;exact Io _
 | cons x a b =>
  intro S;have c:=b (S.enter x);have d:=MI S x;rw[Hk,Iz];omega
theorem OQ{d:List (Option (Bool × Nat))}(h:(YJ d).Nodup):∃ o,WZ d o:=by
 have j:=List.mergeSort_perm (d.filterMap id) (fun a b:Bool × Nat=>decide (a.2<=b.2));have m:=List.pairwise_mergeSort (le:=fun a b:Bool × Nat=>decide (a.2<=b.2)) (fun a b c f g=>by simp only[IF] at f g |-;omega) (fun a b=>by simp only[Bool.or_eq_true,IF];omega) (d.filterMap id);have l:(YJ d)=(d.filterMap id).map (·.2):=by
  unfold YJ;rw[List.map_filterMap]
  rfl
 rw[l] at h;have i:=(j.map (fun e:Bool × Nat=>e.2)).nodup_iff.2 h;refine⟨(d.filterMap id).mergeSort fun a b:Bool × Nat=>decide (a.2<=b.2),fun e=>?_,?_⟩
 .rw[j.mem_iff,DO]
  exact⟨fun⟨a,k,e⟩=>by rw[<- show a=some _ from e];exact k,fun h=>⟨_,h,rfl⟩⟩
 .rw[Ge,Gp] at i
  refine(m.and i).imp fun⟨f,g⟩=>?_;simp only[IF] at f;omega
theorem TW{c:List (Option (Bool × Nat))}{b a:List (Bool × Nat)}(h:WZ c b)(d:WZ c a):b=a :=
 Ni (fun e=>e.2) b a h.Aa d.Aa fun e=>by rw[h.mem,d.mem]
theorem Nx(a:List (Bool × Nat))(i:Nat)(h:i<a.length):ZZ (a.map Zq) i=Zq a[i]:=by
 simp[ZZ,List.getD_eq_getElem?_getD,h]
def Lay.kinds(y:Lay):List (Bool × Nat):=y.base.toList.map (fun b=>(true,b.1))++(y.G.drop y.i).map fun e=>(false,e.1)
def Lay.reads(y:Lay):List Seg:=y.base.toList.map (fun b=>(b.2.2,[]))++(y.G.drop y.i).map fun e=>e.2.2
def Lay.held(y:Lay):SM:=y.F.foldl SM.enter SM.nil
theorem Lk.kinds{M:DM}{y:Lay}{p t k:Nat}(h:Lk M y p t k)(r:y.BC=[])(q:y.new=none){c:List (Option (Bool × Nat))}(m:c.Perm (y.z.BP y.G)):WZ c y.kinds where
 mem:=fun e=>by
  rw[m.mem_iff];unfold Lay.kinds Dl.BP;have f:y.z.BC=[]:=r;have g:y.z.new=none:=q;have i:y.z.base=y.base:=rfl;have j:(y.G.take y.z.j).drop y.z.i=y.G.drop y.i:=by show(y.G.take y.G.length).drop y.i=_;rw[ID]
  rw[f,g,i,j];simp only[Gm,Hh,Option.toList_none,IV,Ir,Iy,Hi]
 Aa:=by
  unfold Lay.kinds;have d:((y.G.drop y.i).map fun e=>(false,e.1)).Pairwise fun a b=>a.2<b.2:=by
   rw[Gp];exact h.Aa.sublist (Ey _ _)
  cases hb:y.base with
  | none=>simpa using d
  | some b =>
   simp only[Option.toList_some,IJ,Gm,Dg,EV];refine⟨fun a l=>?_,d⟩;obtain⟨e,o,rfl⟩:=Iy.1 l;exact(h.now.base b hb).hi e o
theorem US(y:Lay):Z5 y.reads=(match y.base with|some b=>b.2.2|none=>[])++zq (y.G.drop y.i):=by
 unfold Lay.reads Z5 zq;cases y.base <;> simp[List.map_map,Function.comp_def]
theorem Lk.heldBy{M:DM}{y:Lay}{p t k:Nat}(h:Lk M y p t k):heldBy y.reads=y.held:=by
 unfold Go.Proofs.YtkhnggkkiefcdaaGreatDoor.heldBy Lay.held;rw[US,Hm];have e:y.F=y.pre y.i++zq (y.G.drop y.i):=by
  show y.F0++zq y.G=y.F0++zq (y.G.take y.i)++_;rw[IA,<- Zg,IG]
 rw[e,Hm]
 congr 1
 cases hb:y.base with
 | none =>
  obtain⟨a,c⟩:=h.now.bare hb;have d:y.i=0:=a;rw[d];show _=(y.F0++zq (y.G.take 0)).foldl _ _;rw[c]
  rfl
 | some b=>exact(h.now.base b hb).held
theorem K7{M:DM}{y:Lay}(h:Snd M y M.dir y.z):y.Ap.length<=M.dir.length:=by
 have:=h.perm.length_eq;rw[this];unfold Lay.Ap Dl.dir;show _<=(y.BC.map YR++_++_++y.new.toList.map _).length;simp only[Il,IE];omega
theorem Rf{M:DM}{y:Lay}{p t k:Nat}(h:Lk M y p t k)(J:t<=990000)(I:k<=2000000):∃ l,l.Perm y.Ap/\l.length<=t/\∀ b f c,DRep c b f M->(∀ d,Fr Nil c d->Tab d)->Yg c ->
 Calls Tryz.prog 144 #[.pointer (some ⟨b,0,none⟩)] c fun e d=>∃ v u,e=.returned v/\ERep d v (M.BO l).1/\DStep b f M c u (M.BO l).2 d:=by
 obtain⟨x,r,a,i,j,B,_⟩:=h.now.BP h.Aa;obtain⟨K,g⟩:=OQ j;have m:=h.now.xU a g;have G:=K7 h.now;have C:=h.bd.dir;have A:=h.bd.Bl;have D:=m.length_eq;refine⟨_,m,by omega,fun b f c s q o=>?_⟩;refine LT b f M _ c s (by omega) (by omega) ((LR b f M c s x r i j (fun k n E=>?_) (by omega) q o).mono ?_)
 .have:=h.xW h.now (a.mem_iff.1 E)
  omega
 .rintro e d ⟨v,ks',rfl,hk',hrow,hf,_⟩
  obtain rfl:=TW g hk';exact⟨v,rfl,hrow,hf⟩
theorem K8{M:DM}{y:Lay}{p t k:Nat}(h:Lk M y p t k)(E:t<=990000)(D:y.BC=[])(C:y.new=none):∀ b m c,DRep c b m M->(∀ d,Fr Nil c d->Tab d)->Yg c ->
 Calls Tryz.prog 145 #[.pointer (some ⟨b,0,none⟩)] c fun e d=>∃ j v,e=.returned (.pointer (some ⟨j,0,none⟩))/\Blk d j [v] 263/\WT d v (y.kinds.map Zq)/\c.heap.size<=j/\(∀ k,v.ownBlock=some k->c.heap.size<=k)/\Fr Nil c d:=by
 obtain⟨r,q,a,f,o,s,_⟩:=h.now.BP h.Aa;have x:=h.bd.dir;intro b m c u i g;refine(R8 b m M c u r q f o (fun k n B=>?_) (by omega) i g).mono ?_
 .have:=h.xW h.now (a.mem_iff.1 B)
  omega
 .rintro e d ⟨j,v,l,rfl,h1,h2,h3,h4,h5,h6⟩
  obtain⟨G,A,rfl⟩:=Nt h3 h2.Aa;obtain rfl:=TW (h.kinds D C a) A;exact⟨j,v,rfl,h1,h2,h4,h5,h6⟩
def Lay.full(y:Lay):List ((Bool × Nat) × Nat × Seg):=y.base.toList.map (fun b=>((true,b.1),b.2.1,(b.2.2,[])))++(y.G.drop y.i).map fun e=>((false,e.1),e.2.1,e.2.2)
theorem Lay.Ao(y:Lay):y.kinds=y.full.map (·.1):=by unfold Lay.kinds Lay.full;simp[List.map_map,Function.comp_def]
theorem Lay.Aq(y:Lay):y.reads=y.full.map (·.2.2):=by unfold Lay.reads Lay.full;simp[List.map_map,Function.comp_def]
theorem Lk.Bo{M:DM}{y:Lay}{p t k:Nat}(h:Lk M y p t k):∀ x∈y.full,M.dir.look (zn x.1.1 x.1.2)=some x.2.1/\(M.file x.2.1).bytes=Zv x.2.2/\WA x.2.2:=fun x a=>by
 unfold Lay.full at a;rcases Ir.1 a with a|a
 .obtain⟨b,hb,rfl⟩:=Iy.1 a
  have c:=zM.1 hb;have k:=h.now.base b c;refine⟨Y2 h.names (h.now.mem c),?_,k.ok,T1⟩;show(M.file b.2.1).bytes=zD b.2.2++[];rw[IV];exact k.bytes
 .obtain⟨e,he,rfl⟩:=Iy.1 a
  have d:e∈y.G:=IK he;refine⟨Y2 h.names (h.now.yx (e:=e) ?_),h.bytes e d,h.ok e d⟩;show e∈(y.G.take y.G.length).drop y.i;rw[ID];exact he
theorem Lk.xE{M:DM}{y:Lay}{p t k:Nat}(h:Lk M y p t k)(x:t<=990000)(i:Nat):(((Z5 y.reads).take i).foldl SM.enter SM.nil).keys.length<1099511627776/\(((Z5 y.reads).take i).foldl SM.enter SM.nil).hints.length<1000000:=by
 have f:=h.fl;have a:∀ c:List Fact,c.length<=3000000->(c.foldl SM.enter SM.nil).keys.length<1099511627776:=fun c u=>by
  have:=XZ c SM.nil;have s:SM.nil.keys.length=0:=rfl;omega
 have q:=(Yz y y.i).length_le;have r:(zq (y.G.drop y.i)).length<=t:=by
  have e:y.F=y.pre y.i++zq (y.G.drop y.i):=by
   show y.F0++zq y.G=y.F0++zq (y.G.take y.i)++_;rw[IA,<- Zg,IG]
  rw[e,Il] at f;omega
 rw[US];have d:y.F=y.pre y.i++zq (y.G.drop y.i):=by
  show y.F0++zq y.G=y.F0++zq (y.G.take y.i)++_;rw[IA,<- Zg,IG]
 cases hb:y.base with
 | none =>
  obtain⟨g,j⟩:=h.now.bare hb;have l:y.i=0:=g;have e:y.pre y.i=[]:=by
   rw[l];show y.F0++zq (y.G.take 0)=[];rw[j]
   rfl
  rw[e,Hh] at d;simp only[Hh];refine⟨a _ (by rw[Ip];omega),?_⟩;have:=h.An i;rw[d] at this;omega
 | some b =>
  have k:=h.now.base b hb;have v:=k.len;have o:(y.pre y.z.i).length<=y.F.length:=q;simp only;refine⟨a _ (by rw[Ip,Il];omega),?_⟩;by_cases m:i<=b.2.2.length
  .rw[Ha m]
   have:=k.An i;omega
  .rw[Dq,IH (by omega),Hm,k.held,<- Hm]
   have e:y.pre y.z.i++(zq (y.G.drop y.i)).take (i-b.2.2.length)=y.F.take ((y.pre y.i).length+(i-b.2.2.length)):=by
    rw[d,Dq,IH (Cq _ _),Nat.add_sub_cancel_left]
    rfl
   rw[e];have:=h.An ((y.pre y.i).length+(i-b.2.2.length));omega
theorem JE{M:DM}{y:Lay}{p t k:Nat}(h:Lk M y p t k)(a:Nat):JM.read a (y.kinds.map Zq) y.reads (y.kinds.map Zq).length=JM.on a y.G false:=by
 rcases Gy y.G with c|⟨r,s,c⟩
 .have hb:y.base=none:=by
   cases hb:y.base with
   | none=>rfl
   | some b =>
    have:=(h.now.base b hb).lt;have f:y.i<y.G.length:=this;rw[c] at f;cases f
  have d:y.kinds=[]:=by unfold Lay.kinds;rw[hb,c];simp
  rw[d,c]
  rfl
 .rw[Gz] at c
  have l:y.i<=r.length:=by
   rcases h.dlt with e|e
   .rw[c,Il,Ix] at e;omega
   .omega
  obtain⟨A,g⟩:∃ A,y.full=A++[((false,s.1),s.2.1,s.2.2)]:=by
   unfold Lay.full;rw[c,Fe l,IL,<- IA];exact⟨_,rfl⟩
  have d:y.kinds=A.map (·.1)++[(false,s.1)]:=by rw[Lay.Ao,g,IL];rfl
  have o:y.reads=A.map (·.2.2)++[s.2.2]:=by rw[Lay.Aq,g,IL];rfl
  have m:(y.kinds.map Zq).length=A.length+1:=by rw[d];simp
  rw[m,c,JM.Ac];have i:ZZ (y.kinds.map Zq) A.length=(s.1,zu zL s.1):=by
   rw[Nx _ _ (by rw[d];simp)];simp[d,Zq,zn]
  have j:Zw y.reads A.length=s.2.2:=by
   unfold Zw;rw[o,Hl];simp
  show({limit:=a,last:=(ZZ (y.kinds.map Zq) A.length).1,name:=(ZZ (y.kinds.map Zq) A.length).2,size:=(Zv (Zw y.reads A.length)).length,At:=decide (0<(Zw y.reads A.length).2.length),Bp:=false}:JM)=_;rw[i,j]
def NM.opened(c a b:Nat)(y:Lay):NM:={self:=c,given:=y.held.Bh,every:=b,writes:=0,readOnly:=false,J:=JM.on a y.G false,S:=y.held}
end Go.Proofs.YtkhnggkkiefcdaaGreatDoor
namespace Go.Proofs.YtkhnggkkiefcdaaGreatDoor
open Go.RowKit
set_option maxRecDepth 100000
set_option maxHeartbeats 8000000
theorem KY(b:Nat)(L:DL)(M K:DM)(node a sync:Nat)(y:Lay)(hc:ZV node a sync=true)(w:World)(h:DRep w b L M)
 (X:∀ c d LS,DRep c b L M->SRep c d LS SM.nil->Fr Nil w c->Calls Tryz.prog 94 #[.pointer (some ⟨b,0,none⟩),.int .i64 a,.func (.func 95) #[] #[],.func (.func 96) #[.pointer (some ⟨d,0,none⟩)] #[]] c fun e E =>
   ∃ s J i,e=.returned (.tuple #[.pointer (some ⟨s,0,none⟩),.nilIface])/\JRep E s b (JM.on a y.G false)/\c.heap.size<=s/\DRep E b J K/\(∀ k,Foot b J K k->Foot b L M k\/c.heap.size<=k) /\
    SRep E d i y.held/\(∀ k,SFoot d i k->SFoot d LS k\/c.heap.size<=k)/\(∀ k,SRead i k->SRead LS k\/c.heap.size<=k)/\Fr (fun k=>SFoot d LS k\/Foot b L M k) c E) :
 Calls Tryz.prog 49 #[.pointer (some ⟨b,0,none⟩),.agg #[.int .i64 node,.int .i64 a,.int .i64 sync]] w fun e E =>
  ∃ m,e=.returned (.tuple #[.pointer (some ⟨m.nb,0,none⟩),.int .i64 0])/\NRep E m (NM.opened node a sync y) K/\m.db=b/\(∀ k,NFoot m K k->Foot b L M k\/w.heap.size<=k)/\(∀ k,SRead m.LS k->w.heap.size<=k)/\Fr (Foot b L M) w E:=by
 have bc:=Blk.new w [.int .i64 node,.int .i64 a,.int .i64 sync] 102;have f0:Fr Nil w (w.alloc (.cells #[.int .i64 node,.int .i64 a,.int .i64 sync] 102)):=(U _ _).alloc _;have HC:=Z (Vq node a sync (w.alloc (.cells #[.int .i64 node,.int .i64 a,.int .i64 sync] 102)));rw[hc] at HC;have HH:=Z h;have a3:=Z X;clear hc h X;go_enter Tryz.func49,Tryz.ntmps49;go_wp2_with fail;generalize w.alloc (.cells #[.int .i64 node,.int .i64 a,.int .i64 sync] 102)=wc at bc f0 HC |-;refine HC.out.mono ?_;rintro e j ⟨rfl,C⟩;have o:=bc.fr C id;have F1:=f0.trans C;generalize R:w.heap.size=t at o |-;have a0:=Z R;clear bc f0 C R HC;have bs:=Blk.new j [.slice none 0 0,.slice none 0 0,.int .i64 0] 161;have f2:Fr Nil j (j.alloc (.cells #[.slice none 0 0,.slice none 0 0,.int .i64 0] 161)):=(U _ _).alloc _;have c2:=(o.fr f2 id).cell;have HR:SRep (j.alloc (.cells #[.slice none 0 0,.slice none 0 0,.int .i64 0] 161)) j.heap.size ⟨.slice none 0 0,.slice none 0 0,[]⟩ SM.nil :=
  ⟨bs,⟨IX _ 0 _ _,List.Pairwise.nil,fun e he=>by cases he⟩,trivial,IX _ 0 _ _⟩
 have Y:=F1.trans f2;have A:=Z (a3.out _ j.heap.size ⟨.slice none 0 0,.slice none 0 0,[]⟩ (HH.out.nil Y) HR Y);have l:=Z (o.fr f2 id);have g:=Z Y;have u:=F1.size;have a5:t<j.heap.size:=o.lt;have v:j.heap.size<(j.alloc (.cells #[.slice none 0 0,.slice none 0 0,.int .i64 0] 161)).heap.size:=by simp
 have V:∀ k,SFoot j.heap.size ⟨.slice none 0 0,.slice none 0 0,[]⟩ k->k=j.heap.size:=fun k G=>by
  rcases G with e|e|e
  .exact e
  .simp[Value.ownBlock] at e
  .simp[Value.ownBlock] at e
 have q:=Z V;clear bs o F1 f2 HR Y V;go_wp2_with fail;generalize j.alloc (.cells #[.slice none 0 0,.slice none 0 0,.int .i64 0] 161)=w2 at A l g c2 v |-;generalize j.heap.size=d at A u v q a5 |-;refine A.out.mono ?_;rintro e p ⟨s,J,i,rfl,hj,b1,T,a6,D,a8,a9,r⟩;have F3:Fr (Foot b L M) w p:=(g.out.mono (S':=Foot b L M) (fun _ _ e=>absurd e id)).trans' r (fun k G e=>e.elim (fun e=>by have:=q.out k e;omega) id);have S:¬(SFoot d ⟨.slice none 0 0,.slice none 0 0,[]⟩ t\/Foot b L M t):=fun e=>e.elim (fun e=>by have h1:=q.out t e;omega) (fun e=>by have:=HH.out.lt e;have:=a0.out;omega);have B:=l.out.fr r S;have HJ:=Z hj;have HS:=Z D;have a1:=Z T;have HF:=Z F3;have HL:=Z (fun c (f:Fr Nil p c)=>Ud d _ _ c (D.nil f));have HK:Hid (∀ c,Fr Nil p c->c.cell? ⟨t,0,none⟩=some (.int .i64 node)/\c.cell? ⟨t,2,none⟩=some (.int .i64 sync)):=fun c f=>⟨(B.fr f id).cell 0,(B.fr f id).cell 2⟩;obtain⟨k0,k2⟩:=HK.out p (U _ _);have b0:=r.size;clear hj r F3 B D T c2 S l;generalize Q:y.held=N at HL HS;have a4:=Z Q;clear Q;go_wp2_with fail
 go_region_held3 (fun c=>c.cell? ⟨t,0,none⟩=some (.int .i64 node)/\c.cell? ⟨t,2,none⟩=some (.int .i64 sync)) (first|assumption|go_keep|exact HK.out _ zd)
  (first|(go_at_call 98;refine(HL.out _ zd).mono ?_;rintro e wl ⟨rfl,b2⟩;subst wl))
 have bn:=(Blk.new p (({self:=node,given:=N.Bh,every:=sync,writes:=0,readOnly:=false,J:=JM.on a y.G false,S:=N}:NM).cells {nb:=p.heap.size,jb:=s,sb:=d,db:=b,mv:=.pointer none,LS:=i,LD:=J}) 123).drew;have O:Fr Nil p (p.alloc (.cells #[.int .i64 node,.pointer (some ⟨s,0,none⟩),.pointer (some ⟨d,0,none⟩),.int .i64 N.Bh,.int .i64 sync,.int .i64 0,.pointer none,.bool false] 123)).drew:=((U _ _).alloc _).drew;have I:Hid (NRep (p.alloc (.cells #[.int .i64 node,.pointer (some ⟨s,0,none⟩),.pointer (some ⟨d,0,none⟩),.int .i64 N.Bh,.int .i64 sync,.int .i64 0,.pointer none,.bool false] 123)).drew {nb:=p.heap.size,jb:=s,sb:=d,db:=b,mv:=.pointer none,LS:=i,LD:=J} (NM.opened node a sync y) K):=by
  unfold NM.opened;rw[a4.out];exact⟨bn,Blk.fr HJ.out O id,HS.out.nil O,a1.out.nil O,rfl⟩
 have a2:Hid (Fr (Foot b L M) w (p.alloc (.cells #[.int .i64 node,.pointer (some ⟨s,0,none⟩),.pointer (some ⟨d,0,none⟩),.int .i64 N.Bh,.int .i64 sync,.int .i64 0,.pointer none,.bool false] 123)).drew):=HF.out.trans (O.mono (S':=Foot b L M) (fun _ _ e=>absurd e id));have a7:=HF.out.size;clear bn O
 go_wp2
 go_ret2;refine⟨_,rfl,I.out,rfl,fun k G=>?_,fun k G=>?_,a2.out⟩
 .rcases G with e|e|e|e|e
  .exact .inr (by rw[e];exact a7)
  .exact .inr (by rw[e];have:=g.out.size;simp only;omega)
  .rcases a8 k e with e|e
   .exact .inr (by rw[q.out k e];exact u)
   .exact .inr (Im g.out.size e)
  .exact(a6 k e).imp id (fun e=>Im g.out.size e)
  .cases e
 .rcases a9 k G with e|e
  .obtain⟨x,hx,_⟩:=e
   cases hx
  .exact Im g.out.size e
theorem JF(o:zr)(B b:Nat)(L:DL)(M N:DM)(node a sync:Nat)(n:Int)(S:ZV node a sync=true)(w:World)(h:DRep w b L M)(d:YU B w)(Q:B<=w.heap.size)(c:∀ k,Foot b L M k->B<=k)
 (q:∀ A sb,DRep A b L M->Fr Nil w A->Calls Tryz.prog 94 #[.pointer (some ⟨b,0,none⟩),.int .i64 a,.func (.func 95) #[] #[],.func (.func 96) #[.pointer (some ⟨sb,0,none⟩)] #[]] A fun e x =>
   ∃ v D,e=.returned (.tuple #[.pointer none,v])/\ERep x v (some n)/\DStep b L M A D N x) :
 Calls Tryz.prog 49 #[.pointer (some ⟨b,0,none⟩),.agg #[.int .i64 node,.int .i64 a,.int .i64 sync]] w fun e x =>
  ∃ D,e=.returned (.tuple #[.pointer none,.int .i64 n])/\DStep b L M w D N x:=by
 have E:=Blk.new w [.int .i64 node,.int .i64 a,.int .i64 sync] 102;have G:Fr Nil w (w.alloc (.cells #[.int .i64 node,.int .i64 a,.int .i64 sync] 102)):=(U _ _).alloc _;have u:=Z (Vq node a sync (w.alloc (.cells #[.int .i64 node,.int .i64 a,.int .i64 sync] 102)));rw[S] at u;have Y:=Z h;have C:=Z q;have f:=Z (And.intro d (And.intro Q c));clear S h q d Q c;go_enter Tryz.func49,Tryz.ntmps49;go_wp2_with fail;generalize w.alloc (.cells #[.int .i64 node,.int .i64 a,.int .i64 sync] 102)=wc at E G u |-;refine u.out.mono ?_;rintro e y ⟨rfl,i⟩;have g:=E.fr i id;have K:=G.trans i;generalize J:w.heap.size=cb at g |-;have I:Fr Nil y (y.alloc (.cells #[.slice none 0 0,.slice none 0 0,.int .i64 0] 161)):=(U _ _).alloc _;have O:=(g.fr I id).cell;have s:=K.trans I;have l:=Z (C.out _ y.heap.size (Y.out.nil s) s);have j:=Z s;clear E G i J u g K I s;go_wp2_with fail;generalize y.alloc (.cells #[.slice none 0 0,.slice none 0 0,.int .i64 0] 161)=w2 at l j O |-;refine l.out.mono ?_;rintro e w3 ⟨v3,L3,rfl,R,r⟩;have m:=Z (r.of j.out);have V:=Z R;obtain⟨k,T⟩:=R;obtain⟨t,bb,rfl⟩:=T.form;clear r T O;go_wp2_with fail;refine(o B w3 _ n (f.out.1.fr f.out.2.1 m.out.fr f.out.2.2) V.out).mono ?_;rintro e w4 ⟨rfl,p⟩;have X:=Z (m.out.Bn p);clear p
 go_wp2
 go_ret2;exact⟨L3,rfl,X.out⟩
theorem K9(O:zr)(B:Nat)(M:DM)(node a sync:Nat)(y:Lay)(p t:Nat)(hc:ZV node a sync=true)(hl:Lg M y p t)(ht:t<=980000) :
 ∃ u m c,(Lg m c p (t+1)/\c.F=y.F/\Ans M m u/\m.room=M.room/\m.ids=M.ids/\m.BU<=M.BU/\u≠some 10/\(u=none->c.new=none))/\∀ b L w,DRep w b L M->Z0 B w->B<=w.heap.size->(∀ k,Foot b L M k->B<=k)->Calls Tryz.prog 49 #[.pointer (some ⟨b,0,none⟩),.agg #[.int .i64 node,.int .i64 a,.int .i64 sync]] w fun e r =>
  (u=none/\∃ q,e=.returned (.tuple #[.pointer (some ⟨q.nb,0,none⟩),.int .i64 0])/\NRep r q (NM.opened node a sync c) m/\q.db=b/\(∀ k,NFoot q m k->Foot b L M k\/w.heap.size<=k)/\(∀ k,SRead q.LS k->w.heap.size<=k)/\Fr (Foot b L M) w r) \/
  (∃ n K,u=some n/\e=.returned (.tuple #[.pointer none,.int .i64 n])/\DStep b L M w K m r):=by
 obtain⟨l,X,a2,I⟩:=Rf hl (by omega) (by decide);obtain⟨u,m,c,q0,q1,q2,q3,q4,q5,q6,q7,q8,q9,a0,a1,Q⟩:=Pw l hl (by omega) (by omega) X;have d:=q1.close (by omega);have hF:c.F=y.F:=by unfold Lay.F;rw[q2,q3]
 rw[q0] at I;refine⟨u,m,c,⟨d,hF,q7,q8,q9,a0,a1,fun e=>(Q e).2⟩,fun b L w h g E j=>?_⟩;have A:∀ D,Fr Nil w D->(∀ r,Fr Nil D r->Tab r)/\Yg D:=fun D f=>⟨fun r T=>(g.fr E (f.trans T) (fun _ e=>absurd e id)).1.1,(g.fr E f (fun _ e=>absurd e id)).2.1⟩;cases u with
 | none =>
  obtain⟨ho,hn⟩:=Q rfl;refine(KY b L M m node a sync c hc w h (fun D sb LS N R f=>?_)).mono (fun e r hp=>.inl ⟨rfl,hp⟩);have:=OB b L m M a sb LS (c.kinds.map Zq) c.reads D N R
   (fun C o=>(I b L C (N.nil o) (A C (f.trans o)).1 (A C (f.trans o)).2).mono (by
     rintro e r ⟨v,K,rfl,hE,Y⟩;have hv:v=.nilIface:=hE;subst hv;exact⟨K,rfl,Y⟩))
   (fun C L2 V o=>K8 d (by omega) ho hn b L2 C V
     (fun r T=>((g.fr E f (fun _ e=>absurd e id)).fr (Im E f.size) (o.trans (T.mono (S':=Foot b L M) (fun _ _ e=>absurd e id))) j).1.1)
     ((g.fr E f (fun _ e=>absurd e id)).fr (Im E f.size) o j).2.1)
   (by rw[Lay.Ao,Lay.Aq];simp) (by
     have h1:=d.bd.dir;have J:=d.now.perm.length_eq;unfold Dl.dir at J;simp only[Il,IE] at J;unfold Lay.kinds;have u:((c.G.take c.z.j).drop c.z.i)=c.G.drop c.i:=by show(c.G.take c.G.length).drop c.i=_;rw[ID]
     rw[u] at J;simp only[Il,IE];have e3:c.z.base=c.base:=rfl;rw[e3] at J;omega)
   (fun i hi=>by
     have G:i<c.full.length:=by rw[IE,Lay.Ao,IE] at hi;exact hi
     obtain⟨f1,o,_⟩:=d.Bo _ (Iu G);refine⟨c.full[i].2.1,?_,?_⟩
     .rw[Nx _ _ (by rw[Lay.Ao];simpa using G)]
      simp only[Lay.Ao,IR];exact f1
     .rw[o]
      unfold Zw;rw[Lay.Aq,Hl,List.getElem?_map,IB G]
      rfl)
   (fun s R=>by
     rw[Lay.Aq] at R;obtain⟨x,hx,rfl⟩:=Iy.1 R;exact(d.Bo x hx).2.2)
   (fun i=>d.xE (by omega) i)
  rw[JE d,d.heldBy] at this;exact this
 | some n =>
  refine(JF O B b L M m node a sync n hc w h g.1 E j (fun D sb N f=>?_)).mono (fun e r ⟨K,h1,J⟩=>.inr ⟨n,K,rfl,h1,J⟩);exact KX b L m M a sb n D N (fun C o=>(I b L C (N.nil o) (A C (f.trans o)).1 (A C (f.trans o)).2))
theorem Ka{w:World}{b:Nat}{L:DL}{M:DM}{y:Lay}{p t:Nat}(h:DRep w b L M)(s:Lg M y p t)(x:t<=990000) :
 Calls Tryz.prog 54 #[.pointer (some ⟨b,0,none⟩)] w fun e o=>∃ i k j,e=.returned (.pointer (some ⟨i,0,none⟩))/\Own w o i k (M.BA j)/\Pairs M j:=by
 have c:=s.bd;have m:=c.AK;have l:=c.Bl;refine(MC w b L M h (by omega) (fun d q=>?_) (by omega) (fun f r=>by have:=c.file r;omega)).mono ?_
 .rcases IW.1 q with e|e
  .rw[e];have:=c.dir;omega
  .have:=c.BT d e;omega
 .rintro e o ⟨i,k,j,g,ho,h1,h2,h3,h4⟩
  exact⟨i,k,j,g,ho,h1,h2,fun p u=>(h3 p u).1,fun D a e g=>by
   rcases IW.1 a with rfl|a
   .exact h4 e (.inl g)
   .rcases IW.1 a with rfl|a
    .exact h4 e (.inr (.inl g))
    .exact h4 e (.inr (.inr ⟨D,a,g⟩))⟩
theorem KZ(y:Lay):y.held=atF y.F y.F.length:=by
 unfold atF Lay.held;rw[ID]
theorem Lg.opened{M:DM}{y:Lay}{p t:Nat}(h:Lg M y p t)(d:y.new=none)(c a b:Nat)(P:Prop):Kp (NM.opened c a b y) M y.F p t P :=
 ⟨⟨y,h,rfl,fun _=>⟨⟨by rw[show(NM.opened c a b y).J=JM.on a y.G false from rfl,JM.yP,JM.xu],fun e=>by rw[show(NM.opened c a b y).J=JM.on a y.G false from rfl,JM.xu] at e;cases e⟩,d⟩⟩,KZ y⟩
def Y6(b top:Int):List Ver->List Ver->Int->Option Int
 | [],[],n=>some n
 | a::l,u::m,n =>
  if u.seq=0 then(if a.seq<=b\/top<a.seq then none else if Qh {a with seq:=0} u then Y6 b top l m a.seq else none)
  else if Qh a u then Y6 b top l m n else none
 | _,_,_=>none
theorem W7{a top:Int}:∀ {m:List Ver}{n:Int},(∀ u∈m,u.seq≠0)->Y6 a top m m n=some n
 | [],_,_=>rfl
 | u::m,n,h=>by
  unfold Y6;rw[It (h u (Is ..)),IC ((Wh _ _).2 rfl),W7 (n:=n) (fun v b=>h v (Iq _ b))]
theorem Ny{K:Keys}(h:YH K)(i:Nat)(b:i<K.length):zl K K[i].1=K[i].2:=by
 rw[<- WO _ h];refine KE i b (fun j c a=>?_) (Z4.2 rfl);cases e:(K[j].1==K[i].1) with
 | false=>rfl
 | true=>exact absurd (Z4.1 e) (Yb (Asc.fst h a b))
def Ta(n:Int)(v:Ver):Ver:=if v.seq=0 then {v with seq:=n} else v
def Z3(top:Int):Int->Keys->Keys->Keys × Int × Bool
 | mo,[],[]=>([],mo,true)
 | mo,(a,l)::S,(b,u)::M =>
  if a=b then
   match Y6 mo top l u 0 with
   | none=>((b,u)::M,mo,false)
   | some n=>if 0<n then((b,u.map (Ta n))::(Z3 top n S M).1,(Z3 top n S M).2) else((b,u)::(Z3 top mo S M).1,(Z3 top mo S M).2)
  else((b,u)::M,mo,false)
 | mo,_,M=>(M,mo,false)
end Go.Proofs.YtkhnggkkiefcdaaGreatDoor
