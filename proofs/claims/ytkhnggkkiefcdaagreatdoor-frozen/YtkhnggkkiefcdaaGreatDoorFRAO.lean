/- larder: joined texts -/
import Derived.Test.YtkhnggkkiefcdaaGreatDoorFRAG
import Derived.Test.YtkhnggkkiefcdaaGreatDoorFRAH
import Derived.Test.YtkhnggkkiefcdaaGreatDoorFRAI
import Derived.Test.YtkhnggkkiefcdaaGreatDoorFRAJ
import Derived.Test.YtkhnggkkiefcdaaGreatDoorFRAK
import Derived.Test.YtkhnggkkiefcdaaGreatDoorFRAN
import Derived.OpenShut
import Derived.Deep.Slices
namespace Go.Proofs.YtkhnggkkiefcdaaGreatDoor
open Go.RowKit
set_option maxRecDepth 100000
set_option maxHeartbeats 8000000
theorem NI.now{W:WM}{N:NM}{M:DM}{F:List Fact}{p t:Nat}(h:NI W N M F p t):∃ m,W.st[W.st.length-1]?=some m/\zP m N.S/\MOk W.node m t:=by
 obtain⟨m,a,b,_⟩:=h.Gt.last h.kp.le;rw[<- h.kp.held] at b;exact⟨m,a,b,h.cm.Gq m (LR a)⟩
theorem NI.st{W:WM}{N:NM}{M:DM}{F:List Fact}{p t:Nat}(h:NI W N M F p t):YV W.node W.calls W.most N.S:=by
 have:=h.GR F.length h.kp.le (NS _)
 rwa [<- h.kp.held] at this
theorem NI.nk{W:WM}{N:NM}{M:DM}{F:List Fact}{p t:Nat}(h:NI W N M F p t):N.S.keys.length<=t:=by
 obtain⟨m,_,b,a⟩:=h.now;rw[<- b.1];exact a.keys
theorem Up(G:List Fact)(x:Fact):atF (G++[x]) (G++[x]).length=(atF G G.length).enter x:=by
 rw[NQ,NU,Yf]
theorem R4{w k:Nat}(c:k≠0):(w+1)%k=if w%k+1<k then w%k+1 else 0:=by
 have d:=Jk w (Nat.pos_of_ne_zero c);split
 .rename_i hlt
  rw[<- Nat.mod_add_mod,JW hlt]
 .rw[<- Nat.mod_add_mod,show w%k+1=k by omega,Nat.mod_self]
theorem NI.due{W:WM}{N:NM}{M:DM}{F:List Fact}{p t:Nat}(h:NI W N M F p t)(e:N.readOnly=false) :
 (({W with writes:=W.writes+1}:WM).due=true->N.due=true)/\(N.every≠0->(if N.due=true then 0 else N.writes+1)=(W.writes+1)%N.every):=by
 have i:=h.every;have f:=h.wr e;unfold WM.due NM.due;simp only[Ln,Ms,Jg,Bool.or_eq_false_iff,LV];rw[i]
 constructor
 .rintro⟨h1,h2⟩
  have d:N.every≠0:=by omega
  have g:(W.writes+1)%N.every=0:=by
   have:=Int.tmod_eq_emod_of_nonneg (a:=((W.writes+1:Nat):Int)) (b:=(N.every:Int)) (by omega);rw[this] at h2
   exact_mod_cast h2
  refine⟨d,fun c=>?_⟩;rw[f d] at c;rw[R4 d,Mg c] at g;omega
 .intro d
  rw[R4 d,f d];by_cases c:W.writes%N.every+1<N.every
  .rw[Mg c,Ma (fun x=>x.2 c)]
  .rw[Ma c,Mg ⟨d,c⟩]
theorem NI.Hk{W:WM}{N:NM}{M:DM}{F A:List Fact}{p t:Nat}(h:NI W N M F p t)(e:A=[]\/A=[.inl (N.given+16)]/\¬N.given<N.S.IQ) :
 Hist W.st (F++A) p True/\Z1 W.node (W.calls+1) W.most (F++A) p/\(atF (F++A) (F++A).length).keys=N.S.keys/\(atF (F++A) (F++A).length).hints=N.S.hints:=by
 have d:=h.st;have c:Z1 W.node (W.calls+1) W.most F p:=fun q a b=>(h.GR q a b).mono (Ls _) (NS _) (h.GR q a b).2.1;rcases e with rfl|⟨rfl,f⟩
 .rw[MB,<- h.kp.held]
  exact⟨h.Gt,c,rfl,rfl⟩
 .rw[NQ,NU,Yf,<- h.kp.held]
  refine⟨h.Gt.quiet h.kp.le _ (fun m g=>g),Z1.snoc (fun _=>c) _ ?_,rfl,rfl⟩;rw[<- h.kp.held];have i:=h.most;have j:=h.given;have k:=d.2.2.1;exact⟨d.1.IQ _,by show W.most<=N.given+16;omega,by show N.given+16<=16*(W.calls+1);omega,d.2.2.2⟩
theorem RV{self c:Int}{S:SM}(h:YF self c S.keys)(b:ByteArray)(l:List Ver)(f:∀ u∈l,u.node=self->u.seq<=c):YF self c (S.holds b l).keys:=by
 unfold SM.holds;simp only;split
 .exact fun e a=>h e (Wi e a)
 .exact fun e a=>(Wh e a).elim (h e) (fun d=>by subst d;exact f)
theorem YV.holds{b:Int}{a i d:Nat}{S:SM}(h:YV b a i S)(c:ByteArray)(k:zz c=true)(l:List Ver)(j:Vp l)(o:l.length<=4)(q:∀ u∈l,VOk u)(p:i<=d)(f:d<=S.IQ)(e:∀ u∈l,u.node=b->u.seq<=d):YV b a d (S.holds c l) :=
 ⟨h.1.holds c k l j o q,by rw[ZU];exact f,by rw[ZU];exact h.2.2.1,RV (h.2.2.2.mono (by omega)) c l e⟩
theorem NI.replace{W:WM}{N:NM}{M:DM}{F:List Fact}{p t:Nat}(h:NI W N M F p t)(ht:t+20<=100000000)(C:N.readOnly=false)(a:ByteArray)(j:zz a=true)(vs:NM->Nat->List Ver)(l:List Ver)(f g:Nat)(hf:f∉M.ids)(hg:g∉M.ids)(ha:Apart2 N M f g)
 (b6:∀ N1:NM,N1.S.keys=N.S.keys->N1.self=N.self->vs N1 (N.given+1)=l)(hv:∀ u∈l,VOk u)(a0:∀ u∈l,u.seq=((N.given+1:Nat):Int))(J m0:LM)(c2:MOk W.node J (t+10))(c1:MOk W.node m0 (t+10))(hrel:J.keys=Z0 N.S.keys a l/\J.hints=N.S.hints)
 (s:(l=[]/\m0=J)\/(∃ v,l=[{v with seq:=((N.given+1:Nat):Int)}]/\v.seq=0/\v.node=W.node/\m0.keys=Z0 N.S.keys a [v]/\m0.hints=N.S.hints)) :
 ∃ e N' S,N.replace M a vs f g=((if e=none then N.given+1 else 0),zT e,N',S)/\(∀ k∈S.ids,(k=f\/k=g)\/k∈M.ids)/\(e=none\/e=some 9\/e=some 10) /\
  Aft {W with calls:=W.calls+1,most:=if e=none then N.given+1 else W.most} (if e=none then J else m0) M e N' S (t+10):=by
 have G:=h.st;have a8:N.given<100000000000:=by have:=h.given;have:=G.2.2.1;have:=h.cm.calls;omega
 have E:l.length<=4/\Vp l:=by
  rcases s with⟨e,_⟩|⟨v,e,_⟩
  .rw[e];exact⟨Me _,by unfold Vp Asc;simp⟩
  .rw[e];exact⟨by simp,by unfold Vp Asc;simp⟩
 obtain⟨e,J',S',gv,wr,S,A,B,p',er,w,L,hA,hB,I,c3,b7,b8,b9,a7,K⟩:=UK (h.kp.mono (fun _=>C) (NS _)) (by omega) a8 h.given (h.FD C) C a vs l f g hf hg ha b6 (WS j hv (by omega)) (U2 j hv (by omega));obtain⟨a1,T,a3,a4⟩:=h.Hk hA;refine⟨e,_,S,er,w.ids,?_,?_⟩
 .rcases w.Gf.1 with⟨o,_⟩|⟨_,⟨o,_⟩|⟨o,_⟩⟩
  .exact .inl o
  .exact .inr (.inl o)
  .exact .inr (.inr o)
 have D:=w.kp;have y:S'=atF (F++A++B) (F++A++B).length:=D.held;have hd:=h.due C;have b3:=h.most;exact {
  body:=by
   refine⟨F++A++B,p',D,fun o c0=>?_,fun o a6=>(I o).2 (hd.1 a6),?_⟩
   .rcases hB with⟨_,d⟩|⟨_,_,_,hL⟩
    .exact absurd o d
    .exact hL
   .rcases hB with⟨rfl,d⟩|⟨rfl,X,hn1,hL⟩
    .rw[MB] at D y |-
     refine .inr ⟨d,.inl ⟨a1.mono L id,?_⟩⟩;rw[Ma d];exact fun q b c=>T q (NR L b) c
    .have hF1:YV W.node (W.calls+1) W.most (atF (F++A) (F++A).length):=T _ (by have:=h.kp.le;rw[NQ];omega) (NS _)
     have Y:=D.le;have a5:(atF (F++A) (F++A).length).IQ=S'.IQ:=by
      rw[y,Up];show _=(SM.holds _ _ _).IQ;rw[ZU]
     have i:zP J (atF (F++A++[.inr (.inl (a,l))]) (F++A++[(.inr (.inl (a,l)):Fact)]).length):=by
      rw[Up];refine⟨?_,?_⟩
      .rw[hrel.1,<- a3,Zk a _ hF1.1.Gv]
       rfl
      .show _=(SM.holds _ _ _).hints
       rw[XG,a4];exact hrel.2
     have V:YV W.node (W.calls+1) (N.given+1) ((atF (F++A) (F++A).length).enter (.inr (.inl (a,l)))):=hF1.holds a j l E.2 E.1 hv (by omega) (by rw[a5];exact hn1) (fun u hu _=>by rw[a0 u hu];exact Kx _);have r:Z1 W.node (W.calls+1) (N.given+1) (F++A++[.inr (.inl (a,l))]) p':=Z1.snoc (fun _ q b c=>by
      have hq:=T q (NR L b) c;refine hq.mono (NS _) (by omega) ?_;have:=hL q b (by rw[NQ];omega);rw[Ym c] at this;omega) _ V
     have z:Hist (W.st++[J]) (F++A++[.inr (.inl (a,l))]) p' True:=Hist.push (by simp) (fun _=>a1.mono L id) Y J i;cases e with
     | none=>exact .inl ⟨z,r⟩
     | some x =>
      simp only[reduceCtorEq,MN];rcases s with⟨b1,rfl⟩|⟨v,b2,b4,b5,b0,a9⟩
      .refine .inl ⟨z,Z1.snoc (fun _ q b c=>T q (NR L b) c) _ (hF1.holds a j l E.2 E.1 hv (NS _) hF1.2.1 (fun u hu _=>by rw[b1] at hu;cases hu))⟩
      .refine .inr ⟨by simp,.inr ⟨N.given+1,⟨F++A,.inr (.inl (a,l)),rfl,fun _=>a1.mono L id,⟨N.S.keys,a,v,G.1.Gv,G.1.given,G.2.2.2,b4,b5,b0,?_,?_⟩,by show W.most<N.given+1;omega,r,fun q b c=>?_⟩,by show N.given+1<=gv;omega⟩⟩
       .rw[<- i.1,hrel.1,b2]
       .rw[<- i.2,a9,hrel.2]
       .rw[Ym c]
        exact(T q (NR L b) c).2.2.2
  ro:=rfl
  br:=by have:=h.ro;show W.broken=false;rw[<- this,C]
  Gf:=w.Gf
  grow:=K
  full:=w.full
  room:=by rw[w.room];exact h.room
  cm:=⟨fun m hm=>(h.cm.Gq m hm).more (by omega),by have:=h.cm.calls;show W.calls+1<=_;omega,by have:=h.cm.ww;show W.writes<=_;omega,by have:=h.cm.len;show W.st.length<=_;omega,h.cm.ne,by have:=h.cm.next;show W.next<=_;omega,h.cm.base,by have:=h.cm.FW;show W.bk.vs.length<=_;omega,by have:=h.cm.FT;show W.bk.vm.length<=_;omega,by have:=h.cm.FQ;show W.bk.ns.length<=_;omega,by have:=h.cm.FU;show W.bk.nm.length<=_;omega,by have:=h.cm.FV;show W.bk.hs.length<=_;omega,by have:=h.cm.FP;show W.bk.hm.length<=_;omega,h.cm.Hy⟩
  ww:=by have:=h.cm.ww;show W.writes+1<=_;omega
  len:=by have:=h.cm.len;show W.st.length+1<=_;omega
  Gq:=by split <;> assumption
  self:=h.self
  nd:=h.nd
  most:=by
   show(if e=none then N.given+1 else W.most)<=gv;split
   .rename_i o
    rcases hB with⟨_,d⟩|⟨_,X,_⟩
    .exact absurd o d
    .omega
   .omega
  given:=a7
  every:=h.every
  wr:=fun o d=>by
   show wr=_;rw[(I o).1];exact hd.2 d
  nw:=by have:=h.nw;show wr<=_;omega
  dead:=h.dead}
theorem NI.asked{W:WM}{N:NM}{M:DM}{F:List Fact}{p t:Nat}(h:NI W N M F p t)(ht:t+20<=100000000)(g:N.readOnly=false)(x:Fact)(X:ZT x)(J:(zj x).size<=2000)(v:(N.S.enter x).hints.length<=32)(f:Nat)(T:f∉M.ids)(y:LM)(G:MOk W.node y (t+10))(hrel:zP y (N.S.enter x))(I:YV W.node W.calls W.most (N.S.enter x))(r:(N.S.enter x).IQ=N.S.IQ) :
 ∃ e K l,N.asked M x f=(zT e,K,l)/\(∀ k∈l.ids,k=f\/k∈M.ids)/\(e=none\/e=some 9\/e=some 10)/\Aft W y M e K l (t+10):=by
 obtain⟨e,J',z,wr,l,B,Y,S,w,s,A,i,V,j⟩:=Ng (h.kp.mono (fun _=>g) (NS _)) (by omega) g x X J v f T;refine⟨e,_,l,S,w.ids,?_,?_⟩
 .rcases w.Gf.1 with⟨c,_⟩|⟨_,⟨c,_⟩|⟨c,_⟩⟩
  .exact .inl c
  .exact .inr (.inl c)
  .exact .inr (.inr c)
 have o:=w.kp.mono id (show t+5<=t+10 by omega);have L:=h.due g;have C:z.IQ=N.S.IQ:=by
  rcases A with⟨_,_,e⟩|⟨_,e⟩
  .rw[e]
  .rw[e,r]
 exact {
  body:=by
   refine⟨F++B,Y,o,fun c E=>?_,fun c D=>(i c).2 (L.1 D),?_⟩
   .have hL:=h.FD g (by rw[<- C];exact E)
    rcases A with⟨_,d,_⟩|⟨rfl,_⟩
    .exact absurd c d
    .intro q a b
     rw[NQ,NU] at b;show z.IQ<=_;rw[C];by_cases v:q<=F.length
     .rw[Ym v]
      exact hL q (NR s a) v
     .have e1:q=F.length+1:=by omega
      rw[e1,Yf,<- h.kp.held,r];exact NS _
   .rcases A with⟨rfl,d,_⟩|⟨rfl,_⟩
    .rw[MB]
     exact .inr ⟨d,.inl ⟨h.Gt.mono s id,fun q a b=>h.GR q (NR s a) b⟩⟩
    .refine .inl ⟨Hist.push (by simp) (fun _=>h.Gt.mono s id) o.le y ?_,Z1.snoc (fun _ q a b=>h.GR q (NR s a) b) _ ?_⟩
     .rw[Up,<- h.kp.held]
      exact hrel
     .rw[<- h.kp.held]
      exact I
  ro:=rfl
  br:=by have:=h.ro;rw[<- this,g]
  Gf:=w.Gf
  grow:=j
  full:=w.full
  room:=by rw[w.room];exact h.room
  cm:=h.cm.more (by omega)
  ww:=by have:=h.cm.ww;omega
  len:=by have:=h.cm.len;omega
  Gq:=G
  self:=h.self
  nd:=h.nd
  most:=h.most
  given:=by show N.given<=z.IQ;rw[C];exact h.given
  every:=h.every
  wr:=fun c d=>by
   show wr=_;rw[(i c).1];exact L.2 d
  nw:=by have:=h.nw;show wr<=_;omega
  dead:=h.dead}
theorem MOk.with{c:Int}{m:LM}{t:Nat}(h:MOk c m t)(key:ByteArray)(l:List Ver)(y:l.length<=5)(z:∀ u∈l,u.seq=0->u.node=c):MOk c {m with keys:=Z0 m.keys key l} (t+10):=by
 have r:Z0 m.keys key l=if l=[] then ZR m.keys key else Zm m.keys key l:=Zk key l h.Gv
 have q:∀ e∈Z0 m.keys key l,e∈m.keys\/e=(key,l):=fun e o=>by
  rw[r] at o;split at o
  .exact .inl (Wi e o)
  .exact Wh e o
 refine⟨?_,?_,fun e o=>?_,h.hints,fun e o=>?_,h.node⟩
 .show Ye (Z0 m.keys key l)
  rw[r];split
  .exact SK key h.Gv
  .exact SJ key l h.Gv
 .show(Z0 m.keys key l).length<=_
  have:=h.keys;rw[r];split
  .have:=SO m.keys key;omega
  .have:=SN m.keys key l;omega
 .rcases q e o with x|x
  .exact h.lens e x
  .rw[x];exact y
 .rcases q e o with x|x
  .exact h.zero e x
  .rw[x];exact z
theorem NI.Eh{W:WM}{N:NM}{M:DM}{F:List Fact}{p t:Nat}(h:NI W N M F p t){m:LM}(b:zP m N.S)(a:ByteArray):YZ m.keys a=zt N.S.keys a:=by
 rw[b.1];exact Sr a h.st.1.Gv
theorem NI.Ej{W:WM}{N:NM}{M:DM}{F:List Fact}{p t:Nat}(h:NI W N M F p t)(y:t+20<=100000000){m:LM}(q:zP m N.S)(l:MOk W.node m t)(b a:ByteArray)(r:a.size<=128) :
 (∀ c:NM,c.S.keys=N.S.keys->c.self=N.self->putV b a c (N.given+1)=[m.putV b a ((N.given+1:Nat):Int)])/\VOk (m.putV b a ((N.given+1:Nat):Int)):=by
 have e:m.putV b a ((N.given+1:Nat):Int)=⟨N.self,((N.given+1:Nat):Int),grV (zt N.S.keys b) 0,grV (zt N.S.keys b) 1,grV (zt N.S.keys b) 2,grV (zt N.S.keys b) 3,a,false⟩:=by
  unfold LM.putV;rw[h.Eh q,l.node,h.self]
 have d:∀ u∈zt N.S.keys b,u.Nat:=fun u s=>((h.st.1.get b).2.2 u s).nat;have o:=h.nd;have k:N.given<100000000000:=by have:=h.given;have:=h.st.2.2.1;have:=h.cm.calls;omega
 refine⟨fun c i j=>?_,?_⟩
 .rw[e]
  unfold putV;rw[i,j]
 .rw[e]
  have f:(0:Int)<=((N.self:Nat):Int):=by omega
  have g:((N.self:Nat):Int)<4:=by omega
  have v:(0:Int)<=((N.given+1:Nat):Int):=by omega
  have x:((N.given+1:Nat):Int)<9223372036854775808:=by omega
  exact⟨⟨f,g⟩,⟨⟨f,Int.lt_trans g (by decide)⟩,⟨v,x⟩,Yn _ _ d,Yn _ _ d,Yn _ _ d,Yn _ _ d,by show a.size<_;omega⟩,r,by show(1:Int)<=((N.given+1:Nat):Int);omega,rfl⟩
theorem NI.put{W:WM}{N:NM}{M:DM}{F:List Fact}{p t H0:Nat}(h:NI W N M F p t)(A:t+20<=100000000)(j:N.readOnly=false){m:LM}(r:zP m N.S)(o:MOk W.node m t)(d:∀ g∈M.ids,g<H0)(a b:ByteArray)(c:zz a=true)(I:b.size<=128) :
 (∀ H,H0<=H->WJ N M H a (putV a b))/\W.most<N.given+1/\N.given+1<=16*(W.calls+1)/\∀ f g,H0<=f->H0<=g->Apart2 N M f g->∃ e y x,N.put M a b f g=((if e=none then N.given+1 else 0),zT e,y,x)/\(e=none\/e=some 9\/e=some 10) /\
   Aft {W with calls:=W.calls+1,most:=if e=none then N.given+1 else W.most} (m.put a b (((if e=none then N.given+1 else 0:Nat)):Int)) M e y x (t+10):=by
 obtain⟨s,J⟩:=h.Ej A r o a b I;have l:∀ u∈[m.putV a b ((N.given+1:Nat):Int)],VOk u:=by intro u i;rw[NW] at i;subst i;exact J
 have K:=h.st.2.2.1;have L:=h.most;have Q:=h.given;have R:=h.cm.calls;have T:=h.nk;have V:=h.nw;refine⟨fun H D=>PY (h.kp.mono (fun _=>j) (NS _)) (by omega) (by omega) h.given (h.FD j) H (fun g z=>Lb (d g z) D) a _ _ s (WP c l (by simp)) (WO c l (by simp)) (by omega) (by omega),by omega,by omega,fun f g X z E=>?_⟩;obtain⟨e,y,x,B,_,G,q⟩:=h.replace A j a c (putV a b) [m.putV a b ((N.given+1:Nat):Int)] f g (fun k=>by have:=d f k;omega) (fun k=>by have:=d g k;omega) E s l (fun u i=>by rw[NW] at i;subst i;rfl)
  (m.put a b ((N.given+1:Nat):Int)) (m.put a b 0) (o.with a _ (by simp) (fun u i C=>by rw[NW] at i;subst i;exact o.node)) (o.with a _ (by simp) (fun u i C=>by rw[NW] at i;subst i;exact o.node)) ⟨by show Z0 m.keys a _=_;rw[r.1],r.2⟩
  (.inr ⟨m.putV a b 0,rfl,rfl,o.node,by show Z0 m.keys a _=_;rw[r.1],r.2⟩)
 refine⟨e,y,x,?_,G,?_⟩
 .unfold NM.put
  rw[Ma (by rw[c];decide),Ma (by omega),Ma (by rw[j];decide)];exact B
 .cases e <;> exact q
theorem NI.hint{W:WM}{N:NM}{M:DM}{F:List Fact}{p t H0:Nat}(h:NI W N M F p t)(G:t+20<=100000000){m:LM}(z:zP m N.S)(q:MOk W.node m t)(j:∀ g∈M.ids,g<H0)(d:Int)(a:ByteArray) :
 (∀ H,H0<=H->a.size<=64->zM d=true->N.readOnly=false->Fit N M H (.inr (.inr (.inl (d.toNat,a))))) /\
   (XV N d a=none->∀ f,H0<=f->∃ e u s,N.hint M d a f=(zT e,u,s)/\(e=none\/e=some 9\/e=some 10)/\Aft W (m.hint d.toNat a) M e u s (t+10)):=by
 have b:=h.st;have I:=h.nk;have J:=h.nw;refine⟨fun H B E l c=>?_,fun i f K=>?_⟩
 .unfold zM at l
  simp only[Ms] at l;exact TM (h.kp.mono (fun _=>c) (NS _)) (by omega) H (fun g D=>Lb (j g D) B) _ ⟨by show d.toNat<_;omega,by show a.size<_;omega⟩ (Xb (by omega) E) (by omega) (by omega)
 .have hout:=ON N M d a f
  rw[i] at hout;unfold XV at i;by_cases k:XP N.self d a=0
  .rw[Ma (by simp[k])] at i
   cases c:N.readOnly with
   | true=>rw[Mg c] at i;cases i
   | false =>
    rw[Ma (by rw[c];decide)] at i;by_cases x:32<=N.S.hints.length
    .rw[Mg x] at i;cases i
    .have l:zM d=true/\a.size<=64:=by
      unfold XP at k;split at k
      .cases k
      .rename_i h1
       split at k
       .cases k
       .simp only[Bool.not_eq_false,Ln] at h1
        exact⟨h1.1,by omega⟩
     have r:=l.1;unfold zM at r;simp only[Ms] at r;obtain⟨e,u,s,A,_,C,o⟩:=h.asked G c (.inr (.inr (.inl (d.toNat,a)))) (Tg (by omega) l.2) (Xb (by omega) l.2) (by show(N.S.hints++[_]).length<=32;rw[NQ,NU];omega) f (fun y=>by have:=j f y;omega) (m.hint d.toNat a)
      ⟨q.Gv,by have:=q.keys;show m.keys.length<=_;omega,q.lens,by show(m.hints++[_]).length<=33;rw[NQ,NU,z.2];omega,q.zero,q.node⟩
      ⟨z.1,by show m.hints++[_]=N.S.hints++[_];rw[z.2]⟩ ⟨⟨b.1.Gv,b.1.key,by show(N.S.hints++[_]).length<=32;rw[NQ,NU];omega,b.1.names⟩,b.2.1,b.2.2.1,b.2.2.2⟩ rfl
     exact⟨e,u,s,by rw[hout];exact A,C,o⟩
  .rw[Mg k] at i;cases i
def Yo:ByteArray:={data:=#[97,32,116,114,105,97,108]}
structure Sane(S:SM)(t:Nat):Prop where
 held:Zo S
 IQ:S.IQ<=16*t
 keys:S.keys.length<=t
theorem Sh.Ei{W:WM}{M:DM}{F:List Fact}{p t:Nat}(h:Sh W M F p t):p<=F.length/\Sane (atF F F.length) t:=by
 obtain⟨N,q,k⟩:=h.lg;have c:p<=F.length:=by rw[<- k];exact q.GF
 have D:=h.cm.calls;refine⟨c,?_⟩;have a:∀ T,Hist W.st F p T->(atF F F.length).keys.length<=t:=fun T l=>by
  obtain⟨j,_,d,_⟩:=l;obtain⟨m,s,u⟩:=d F.length c (NS _);rw[<- u.1];exact(h.cm.Gq m (LR s)).keys
 rcases h.all with⟨g,d⟩|⟨_,st,m,n,e,B,x,C,o,y,r,i,_⟩
 .have:=g F.length c (NS _)
  exact⟨this.1,by have:=this.2.2.1;omega,d.elim (a _) (fun x=>a _ x.2)⟩
 .have:=i F.length c (NS _)
  refine⟨this.1,by have:=this.2.2.1;omega,?_⟩;obtain⟨K,a,v,f,E,G,I,J,z,A,L⟩:=y;have b:(atF F F.length).keys.length=m.keys.length:=by
   rw[z,A,Zk a _ f,Zk a _ f];simp only[KT,MN,Zm,NQ,NU]
  rw[b];exact(h.cm.Gq m (by rw[e];simp)).keys
theorem Nj{N:NM}(j:Zo N.S)(l:N.self<4)(k:N.given<100000000000)(b a:ByteArray)(m:a.size<=128) :
 (∀ d:NM,d.S.keys=N.S.keys->d.self=N.self->putV b a d (N.given+1)=putV b a N (N.given+1))/\(∀ u∈putV b a N (N.given+1),VOk u)/\(putV b a N (N.given+1)).length<=4:=by
 have e:∀ u∈zt N.S.keys b,u.Nat:=fun u c=>((j.get b).2.2 u c).nat;refine⟨fun d h i=>?_,fun u c=>?_,by unfold putV;simp⟩
 .unfold putV
  rw[h,i]
 .unfold putV at c
  rw[NW] at c;subst c;have f:(0:Int)<=((N.self:Nat):Int):=by omega
  have g:((N.self:Nat):Int)<4:=by omega
  have o:(0:Int)<=((N.given+1:Nat):Int):=by omega
  have p:((N.given+1:Nat):Int)<9223372036854775808:=by omega
  exact⟨⟨f,g⟩,⟨⟨f,Int.lt_trans g (by decide)⟩,⟨o,p⟩,Yn _ _ e,Yn _ _ e,Yn _ _ e,Yn _ _ e,by show a.size<_;omega⟩,m,by show(1:Int)<=((N.given+1:Nat):Int);omega,rfl⟩
theorem OO(F G:List Fact):(atF (F++G) (F++G).length).keys.length<=(atF F F.length).keys.length+G.length:=by
 unfold atF;rw[Mz,Mz,Lj];exact Vi G _
theorem QZ{M:DM}{i:List Seg}{p t H0:Nat}(hl:Lg M i p t)(L:Sane (Z5 i) t)(ht:t<=900000)(n:Nat)(hn:n<4)(a b:Nat)(j:∀ g∈M.ids,g<H0)(d c:ByteArray)(y:zz d=true)(hv:c.size<=128) :
 (∀ H,H0<=H->WJ (NM.opened n a b i) M H d (putV d c))/\∀ f g,H0<=f->H0<=g->Apart2 (NM.opened n a b i) M f g->∀ (k:Int)(G:ByteArray)(E:Nat),(∀ g'∈((NM.opened n a b i).put M d c f g).2.2.2.ids,g'<E)->G.size<=64->zM k=true->((NM.opened n a b i).put M d c f g).2.2.1.readOnly=false->Fit ((NM.opened n a b i).put M d c f g).2.2.1 ((NM.opened n a b i).put M d c f g).2.2.2 E (.inr (.inr (.inl (k.toNat,G)))):=by
 have z:=L.IQ;have J:=L.keys;have m:(NM.opened n a b i).given<100000000000:=by show(Z5 i).IQ<_;omega
 obtain⟨R,F,h3⟩:=Nj (N:=NM.opened n a b i) L.held hn m d c hv;have q:Kp (NM.opened n a b i) M (zc i) p t True:=hl.opened n a b True;have u:(NM.opened n a b i).given<(NM.opened n a b i).S.IQ->Leas (zc i) p (NM.opened n a b i).S.IQ:=fun h=>absurd h (IE _);refine⟨fun H hH=>PY q (by omega) m (NS _) u H (fun g T=>Lb (j g T) hH) d _ _ R (WP y F (by omega)) (WO y F (by omega)) (by show(Z5 i).keys.length<=_;omega) (Me _),?_⟩;intro f g hf T ha k G E;rcases hput:(NM.opened n a b i).put M d c f g with⟨r,e,N',Y⟩;intro s Q D C;simp only at s C |-;obtain⟨I,X,S',gv,wr,M2,A,B,p',er,w,hp,hA,hB,S,a3,_,_,_,_⟩:=UK q (by omega) m (NS _) u rfl d (putV d c) _ f g (fun h=>by have:=j f h;omega) (fun h=>by have:=j g h;omega) ha R (WS y F (by omega)) (U2 y F (by omega));have K:(NM.opened n a b i).put M d c f g=(NM.opened n a b i).replace M d (putV d c) f g:=by
  unfold NM.put;rw[Ma (by rw[y];decide),Ma (by omega),Ma (by show ¬false=true;decide)]
 rw[K,er] at hput;obtain⟨rfl,rfl⟩:{NM.opened n a b i with J:=X,S:=S',given:=gv,writes:=wr,readOnly:=I.isSome}=N'/\M2=Y:=by
  simp only[Kc] at hput;exact⟨hput.2.2.1,hput.2.2.2⟩
 have he:I=none:=by
  cases I with
  | none=>rfl
  | some x=>cases C
 have l:=w.kp;have o:S'=atF (zc i++A++B) (zc i++A++B).length:=l.held;have h0:Z5 i=atF (zc i) (zc i).length:=q.held;have a2:S'.keys.length<=t+2:=by
  have:=OO (zc i) (A++B);rw[<- Mm,<- o,<- h0] at this;rw[NQ] at this;have a0:A.length<=1:=by rcases hA with e|⟨e,_⟩ <;> rw[e] <;> simp
  have a1:B.length<=1:=by rcases hB with⟨e,_⟩|⟨e,_⟩ <;> rw[e] <;> simp
  omega
 unfold zM at D;simp only[Ms] at D;have V:(NM.opened n a b i).writes=0:=rfl;exact TM (l.mono (fun _=>he) (NS _)) (by omega) E s _ ⟨by show k.toNat<_;omega,by show G.size<_;omega⟩ (Xb (by omega) Q) (by show S'.keys.length<=_;omega) (by show wr<=_;omega)
def zI(c:Int)(n:Nat):Nat:=(if c<0 then -(c+1) else c).toNat%n
theorem Xs(c:Int){n:Nat}(a:0<n):zI c n<n:=Jk _ a
theorem Y8(c:Int)(n:Nat)(w:World)(l:-9223372036854775808<=c)(o:c<=9223372036854775807)(k:0<n)(p:n<=140737488355328) :
 Calls Tryz.prog 21 #[.int .i64 c,.int .i64 n] w fun e j=>e=.returned (.int .i64 (zI c n))/\j=w:=by
 by_cases d:c<0
 .obtain⟨m,hm⟩:=Mx (a:=-(c+1)) (by omega)
  have b:Hid (zI c n=m%n):=by simp[Hid,zI,d,hm]
  have h:(m:Int).tmod (n:Int)=((m%n:Nat):Int):=Je ..;have i:((n:Int)==0)=false:=by rw[MI];omega
  have f:(m:Int)<=9223372036854775807:=by omega
  have g:((m%n:Nat):Int)<=9223372036854775807:=by have:=Nat.mod_le m n;omega
  obtain rfl:c=-(m:Int)-1:=by omega
  clear hm;go_enter Tryz.func21,Tryz.ntmps21
  go_wp2
  go_ret;rw[b.out];exact⟨rfl,rfl⟩
 .obtain⟨m,rfl⟩:=Mx (a:=c) (by omega)
  have b:Hid (zI m n=m%n):=by simp only[Hid,zI];rw[Ma d];rfl
  have h:(m:Int).tmod (n:Int)=((m%n:Nat):Int):=Je ..;have i:((n:Int)==0)=false:=by rw[MI];omega
  go_enter Tryz.func21,Tryz.ntmps21
  go_wp2
  go_ret;rw[b.out];exact⟨rfl,rfl⟩
theorem Wx(n s y:Int)(w:World)(i:-9223372036854775808<=n/\n<=9223372036854775807)(k:-9223372036854775808<=s/\s<=9223372036854775807)(l:-9223372036854775808<=y/\y<=9223372036854775807) :
 Calls Tryz.prog 127 #[.int .i64 n,.int .i64 s,.int .i64 y] w fun e g=>e=.returned (.agg #[.int .i64 (zI n 4),.int .i64 (1000+zI s 2000:Nat),.int .i64 (zI y 5)])/\Fr Nil w g:=by
 have m:Hid (∀ d,Calls Tryz.prog 21 #[.int .i64 n,.int .i64 4] d fun e g=>e=.returned (.int .i64 (zI n 4))/\g=d):=fun d=>Y8 n 4 d i.1 i.2 (by decide) (by decide);have o:Hid (∀ d,Calls Tryz.prog 21 #[.int .i64 s,.int .i64 2000] d fun e g=>e=.returned (.int .i64 (zI s 2000))/\g=d):=fun d=>Y8 s 2000 d k.1 k.2 (by decide) (by decide);have q:Hid (∀ d,Calls Tryz.prog 21 #[.int .i64 y,.int .i64 5] d fun e g=>e=.returned (.int .i64 (zI y 5))/\g=d):=fun d=>Y8 y 5 d l.1 l.2 (by decide) (by decide);have x:=Xs s (n:=2000) (by decide);clear i k l;generalize zI n 4=a at m |-;generalize zI s 2000=b at o x |-;generalize zI y 5=c at q |-;go_enter Tryz.func127,Tryz.ntmps127;have f:=Blk.new w [.int .i64 0,.int .i64 0,.int .i64 0] 102;have r:Fr Nil w (w.alloc (.cells #[.int .i64 0,.int .i64 0,.int .i64 0] 102)):=(O _ _).alloc _;have z:=f.cell;have A:=f.frozen;have t:=Z f;have u:=Z r;clear f r;go_wp2_with fail;refine(m.out _).mono ?_;rintro e d ⟨rfl,h⟩;subst d;go_wp2_with fail;refine(o.out _).mono ?_;rintro e d ⟨rfl,h⟩;subst d;have B:IntKind.i64.wrap (1000+(b:Int))=((1000+b:Nat):Int):=by rw[MC];push_cast;omega
 go_wp2_with fail;refine(q.out _).mono ?_;rintro e d ⟨rfl,h⟩;subst d;go_wp2_with fail;have j:=Blk.new w [.int .i64 (a:Nat),.int .i64 (1000+(b:Int)),.int .i64 (c:Nat)] 102;refine KR (results_cell_row rfl _ _ w.heap.size _ _ _ _ rfl j Tryz.underlying102 rfl (by kernel_rfl)) rfl ⟨by push_cast;rfl,(O _ _).alloc _⟩
theorem R5(n:Nat)(h:n<9223372036854775808)(w:World)(a:Tab w) :
 Calls Tryz.prog 29 #[.int .i64 n] w fun e d=>e=.returned (.string (Zc n))/\Fr Nil w d:=by
 have b:=Z (VN n h w a);clear a;go_enter Tryz.func29,Tryz.ntmps29;go_wp2_with fail;refine b.out.mono ?_;rintro e f ⟨rfl,c⟩
 go_wp2
 go_ret;exact⟨rfl,c⟩
def Y3(l:List Ver)(a:ByteArray):Bool:=match l with
 | [v]=>decide (v.value=a)&&!v.gone
 | _=>false
theorem Xt(L:NL)(N:NM)(M:DM)(c a:ByteArray)(w:World)(h:NRep w L N M)(o:zz c=true)(r:N.S.keys.length<1099511627776)(b:(zt N.S.keys c).length<=1000000) :
 Calls Tryz.prog 34 #[.pointer (some ⟨L.nb,0,none⟩),.string c,.string a] w fun e y=>e=.returned (.bool (Y3 (zt N.S.keys c) a))/\Fr Nil w y:=by
 have f:=Z (WI L N M c w h r b);rw[o] at f;simp only[MP] at f;clear h r o;generalize zt N.S.keys c=l at f b |-;rcases l with _|⟨v,_|⟨u,l⟩⟩
 .go_enter Tryz.func34,Tryz.ntmps34
  go_wp2_with fail;refine f.out.mono ?_;rintro e p ⟨s,rfl,d,i,-⟩;clear b;obtain⟨t,k,rfl⟩:=zd d;clear d f
  go_wp2
  go_ret;exact⟨rfl,i⟩
 .have HP:Hid (Y3 [v] a=(decide (v.value=a)&&!v.gone)):=rfl
  go_enter Tryz.func34,Tryz.ntmps34;go_wp2_with fail;refine f.out.mono ?_;rintro e p ⟨s,rfl,d,i,-⟩;clear b;obtain⟨g,k,rfl,_,_⟩:=zq d (by simp);have x:p.cell? ⟨g,6,none⟩=some (.string v.value):=own_cell? d 6 _ rfl;have z:p.cell? ⟨g,7,none⟩=some (.bool v.gone):=own_cell? d 7 _ rfl;clear d f;simp only[NU];by_cases j:v.value=a
  .rw[j] at x
   rw[IB j] at HP;clear j
   go_wp2
   go_ret;rw[HP.out];exact⟨by simp,i⟩
  .rw[Jv j] at HP
   have A:¬v.value.toList=a.toList:=fun e=>j (YY e);clear j
   go_wp2
   go_ret;rw[HP.out];exact⟨by simp,i⟩
 .have HP:Hid (Y3 (v::u::l) a=false):=rfl
  go_enter Tryz.func34,Tryz.ntmps34;go_wp2_with fail;refine f.out.mono ?_;rintro e p ⟨s,rfl,d,i,-⟩;clear b;obtain⟨t,k,rfl⟩:=zd d;have q:(((v::u::l).length:Int)==1)=false:=by rw[MI];simp;omega
  clear d f;generalize (v::u::l).length=m at q |-
  go_wp2
  go_ret;rw[HP.out];exact⟨rfl,i⟩
theorem Ns(L:NL)(N:NM)(M:DM)(b:ByteArray)(w:World)(h:NRep w L N M)(d:zz b=true)(k:N.S.keys.length<1099511627776)(a:(zt N.S.keys b).length<=1000000) :
 Calls Tryz.prog 35 #[.pointer (some ⟨L.nb,0,none⟩),.string b] w fun e q=>e=.returned (.bool (decide (zt N.S.keys b=[])))/\Fr Nil w q:=by
 have c:=Z (WI L N M b w h k a);rw[d] at c;simp only[MP] at c;clear h k d;generalize zt N.S.keys b=l at c a |-;rcases l with _|⟨v,l⟩
 .go_enter Tryz.func35,Tryz.ntmps35
  go_wp2_with fail;refine c.out.mono ?_;rintro e r ⟨p,rfl,f,i,-⟩;clear a;obtain⟨o,g,rfl⟩:=zd f;clear f c
  go_wp2
  go_ret;exact⟨by simp,i⟩
 .have HP:Hid (decide ((v::l)=[])=false):=by simp[Hid]
  go_enter Tryz.func35,Tryz.ntmps35;go_wp2_with fail;refine c.out.mono ?_;rintro e r ⟨p,rfl,f,i,-⟩;clear a;obtain⟨o,g,rfl⟩:=zd f;have j:(((v::l).length:Int)==0)=false:=by rw[MI];simp;omega
  clear f c;generalize (v::l).length=m at j |-
  go_wp2
  go_ret;rw[HP.out];exact⟨rfl,i⟩
def zG(d:Nat)(e:Value)(b a:Int)(c:Value):List Value:=[.pointer (some ⟨d,0,none⟩),e,.int .i64 b,.int .i64 a,c]
def zB:ByteArray:={data:=#[107]}
theorem Vk{n m:Nat}(h:n<m):zI (n:Int) m=n:=by
 unfold zI;rw[Ma (by omega),JO,JW h]
theorem OP(D:zv)(B sb db n:Nat)(nv:Value)(C:Int)(a2:Value)(LD:DL)(M:DM)(ss:List Seg)(p t:Nat)(w:World)(h:Blk w sb (zG db nv n C a2) 58)(d0:n<4)(hd:DRep w db LD M)(a1:Zp B w)(hB:B<=w.heap.size)(hl:Lg M ss p t)(hs:Sane (Z5 ss) t)(ht:t<=900000) :
 Calls Tryz.prog 126 #[.pointer (some ⟨sb,0,none⟩)] w fun e w'=>e=.returned (.tuple #[])/\Fr Nil w w':=by
 have a4:∀ j,Fr Nil w j->∀ k,j.cell? ⟨sb,k,none⟩=(zG db nv n C a2)[k]?:=fun j f=>(h.fr f id).cell;have b3:=Z a4;have c2:=a4 w (O _ _);simp only[zG] at c2;have X:=Z a1;have x:=Z (PV hd hl (by omega));have HR:=Z (And.intro hl hs);have r:=Z hB;clear h hd a4 a1 hB hl hs;go_enter Tryz.func126,Tryz.ntmps126;go_wp2_with fail;refine x.out.mono ?_;rintro e w1 ⟨K,L1,ps,rfl,Q,d1⟩;have a8:Lg (((M.HQ ps).Hr 0).Hi 0 0) ss p t:=((HR.out.1.HQ d1).Hr 0).Hi 0 0 (by decide) (by decide);generalize M.HQ ps=M1 at Q a8;have I:∀ k,Foot K L1 M1 k->w.heap.size<=k:=Q.new;have c1:w.heap.size<=K:=I K .IR;have HO:=Z Q;have V:=Z I;have b0:=Z c1;have s:=Z a8;clear Q I c1 c2 x a8 d1;go_wp2_with fail;refine(Us 0 w1 K L1 M1 HO.out.Hl).mono ?_;rintro e w2 ⟨rfl,c4,c5⟩;have d7:=Z (HO.out.fr.trans' (S':=fun k=>k=K) c5 (fun i hi e=>by have:=b0.out;omega));have b4:=Z c4;clear c4 c5;go_wp2_with fail;refine(XY 0 0 w2 K L1 (M1.Hr 0) b4.out).mono ?_;rintro e w3 ⟨rfl,a5,c6⟩;have y:=Z (d7.out.trans' (S':=fun k=>k=K) c6 (fun i hi e=>by have:=b0.out;omega));have m:∀ k,Foot K L1 ((M1.Hr 0).Hi 0 0) k->w.heap.size<=k:=V.out;generalize (M1.Hr 0).Hi 0 0=L at a5 m s;have d4:=Z a5;have a3:=Z m;have c3:=b3.out w3 y.out;simp only[zG] at c3;clear a5 c6 m HO b4 V;have b2:Hid (∀ j,Calls Tryz.prog 127 #[.int .i64 n,.int .i64 0,.int .i64 0] j fun e w'=>e=.returned (.agg #[.int .i64 n,.int .i64 1000,.int .i64 0])/\Fr Nil j w'):=fun j=>by
  have h0:=Wx n 0 0 j ⟨by omega,by omega⟩ ⟨by decide,by decide⟩ ⟨by decide,by decide⟩;rw[Vk d0] at h0;exact h0
 have a0:ZC n 1000 0=true:=by
  unfold ZC zM;simp only[Ln,Ms];omega
 have b9:Hid _:=Z (fun j (f:Fr Nil w3 j)=>UO B K L1 L n 1000 0 ss a0 j (d4.out.nil f) s.out.Hs s.out.ok (s.out.short (by omega)) (s.out.FZ (by omega)) (X.out.fr r.out (y.out.trans f) (fun _ e=>absurd e id)) (NR r.out (y.out.trans f).size) (fun k N=>NR r.out (a3.out k N)));have d3:Hid (∀ j,Fr Nil w j->j.cell? ⟨sb,2,none⟩=some (.int .i64 n)):=fun j f=>by rw[b3.out j f];rfl
 clear a0;go_wp2_with fail;refine(b2.out _).mono ?_;rintro e wc ⟨rfl,fc⟩;have FC:=Z fc;go_wp2_with fail;refine(b9.out _ FC.out).mono ?_;rintro e w4 ⟨X4,rfl,a9,e1,E,_,c7⟩;have F4:=(y.out.trans FC.out).trans' (S':=Foot K L1 L) c7 (fun i hi e=>by have:=a3.out i e;omega);have b:∀ k,NFoot X4 L k->w.heap.size<=k:=fun k N=>(E k N).elim (a3.out k) (fun e=>NR (y.out.trans FC.out).size e);have a6:ZN B X4 L w4:=⟨(X.out.fr r.out F4 (fun _ e=>absurd e id)).1,NR r.out F4.size,fun k N=>NR r.out (b k N)⟩;have F:∀ g∈L.ids,g<w4.heap.size:=fun g hg=>(a9.Hu.files g hg).lt;have J:=QZ (H0:=w4.heap.size) s.out HR.out.2 (by omega) n d0 1000 0 F zB Yo (by decide) (by decide);have z:=Z (WK D B X4 (NM.opened n 1000 0 ss) L zB Yo w4 a9 a6 (fun u hu=>((HR.out.2.held.get zB).2.2 u hu).node) (fun _ _ _=>J.1 _ (NS _)));have c0:=Z J.2;have b5:=Z F4;have d5:=Z a6;have R:=Z b;clear c3 a9 e1 E c7 F4 b a6 F J;unfold zB Yo at z;go_wp2_with fail;refine z.out.mono ?_;rintro e w5 ⟨f,g,X5,rfl,c8,c9,Y,c⟩;have a:=c0.out f g c8 c9 Y;unfold zB Yo at a;generalize ((NM.opened n 1000 0 ss).put L {data:=#[107]} {data:=#[97,32,116,114,105,97,108]} f g).2.2.1=N5 at c a;generalize ((NM.opened n 1000 0 ss).put L {data:=#[107]} {data:=#[97,32,116,114,105,97,108]} f g).2.2.2=M5 at c a;have F5:=b5.out.trans' (S':=NFoot X4 L) c.fr (fun i hi e=>by have:=R.out i e;omega);have o:∀ k,NFoot X5 M5 k->w.heap.size<=k:=fun k N=>(c.Hw k N).elim (R.out k) (fun e=>NR b5.out.size e);have a7:ZN B X5 M5 w5:=d5.out.step c;have G:=c.same.nb;have l:=Z (Wa D B X5 N5 M5 (((n:Int)+1)%4) Yo w5 c.Hl a7 (fun h1 h2 h3=>a _ _ _ (fun g hg=>(c.Hl.Hu.files g hg).lt) h1 h2 h3));unfold Yo at l;rw[G] at l;have e0:=d3.out w5 F5;have e3:IntKind.i64.wrap ((n:Int)+1)=(n:Int)+1:=by rw[MC];omega
 have b6:=Z F5;have d6:=Z a7;have T:=Z o;have b8:=Z G;clear c a F5 o a7 c0 z b9 c8 c9 Y G;go_wp2_with fail;refine l.out.mono ?_;rintro e w6 ⟨f6,X6,rfl,e2,d⟩;generalize (N5.hint M5 _ _ f6).2.1=N6 at d;generalize (N5.hint M5 _ _ f6).2.2=M6 at d;have F6:=b6.out.trans' (S':=NFoot X5 M5) d.fr (fun i hi e=>by have:=T.out i e;omega);have q:∀ k,NFoot X6 M6 k->w.heap.size<=k:=fun k N=>(d.Hw k N).elim (T.out k) (fun e=>NR b6.out.size e);have A:=Z (Yz D B X6 N6 M6 w6 d.Hl (d6.out.step d));rw[d.same.nb,b8.out] at A;have d8:=Z F6;have b7:=Z q;clear d F6 q e0;go_wp2_with fail;refine A.out.mono ?_;rintro e w7 ⟨X7,rfl,d2⟩;have d9:=Z (d8.out.trans' (S':=NFoot X6 M6) d2.fr (fun i hi e=>by have:=b7.out i e;omega));clear d2;go_wp2_with fail;exact Lo (v:=.tuple #[]) (by simp[results,go_sem]) rfl ⟨rfl,d9.out⟩
theorem NI.sh{W:WM}{N:NM}{M:DM}{F:List Fact}{p t:Nat}(h:NI W N M F p t):Sh W M F p t:=by
 obtain⟨c,b,a,_⟩:=h.kp.lg;exact⟨⟨c,b,a⟩,h.cm,h.room,.inl ⟨h.GR,.inl h.Gt⟩⟩
theorem Cm.Hp{W:WM}{t:Nat}(h:Cm W t)(b:Bool):Cm {W with Hp:=b} t :=
 ⟨h.Gq,h.calls,h.ww,h.len,h.ne,h.next,h.base,h.FW,h.FT,h.FQ,h.FU,h.FV,h.FP,h.Hy⟩
theorem Sh.Gd{W:WM}{M:DM}{F:List Fact}{p t:Nat}(h:Sh W M F p t)(g:Int)(e:List Int):∃ B K,Sh {W with Hp:=true} (M.Gd g e) B K t:=by
 obtain⟨L,I,E⟩:=h.lg;obtain⟨d,z,c,f⟩:=I.Gd g e;rw[E] at c;refine⟨zc d,(zc d).length,⟨d,z,rfl⟩,h.cm.Hp true,h.room,?_⟩;rcases h.all with⟨C,k⟩|⟨_,st,m,n,o,r,x,s,y,J,l,A,i⟩
 .exact .inl ⟨C.cut c f,.inr ⟨.inl rfl,k.elim (fun k=>k.cut c f) (fun k=>k.2.cut c f)⟩⟩
 .by_cases hlen:(zc d).length=F.length
  .have he:zc d=F:=c.eq_of_length hlen
   rw[he] at f |-;refine .inr ⟨.inl rfl,st,m,n,o,r,x,s,fun h=>?_,J,l,fun q a b=>A q (NR f a) b,fun q a b=>i q (NR f a) b⟩;rw[s,NQ,NU] at h;omega
  .have hl3:(zc d).length<=r.length:=by
    have u:=c.length_le;rw[s,NQ,NU] at u hlen;omega
   have j:zc d<+:r:=by
    have u:r<+:F:=by rw[s];exact Kh _ _
    exact Kt c u hl3
   have G:=(y (NR f hl3)).cut j f;refine .inl ⟨fun q a b=>?_,.inr ⟨.inl rfl,?_⟩⟩
   .have h5:=A q (NR f a) (NR b c.length_le)
    have D:=i q (NR f a) (NR b hl3);rw[Wq c b];exact⟨h5.1,NR (Io l) h5.2.1,h5.2.2.1,D⟩
   .show Hist W.st _ _ _
    rw[o];exact G.maybe m
theorem Sh.HQ{W:WM}{M:DM}{F:List Fact}{p t:Nat}(h:Sh W M F p t){a:List (Nat × Nat)}(d:Pairs M a):Sh W (M.HQ a) F p t:=by
 obtain⟨e,c,b⟩:=h.lg;exact⟨⟨e,c.HQ d,b⟩,h.cm,h.room,h.all⟩
theorem Z1.called{d:Int}{c e:Nat}{F:List Fact}{p:Nat}(h:Z1 d c e F p):Z1 d (c+1) e F p:=fun q a b=>(h q a b).mono (Ls _) (NS _) (h q a b).2.1
theorem Sh.found{W:WM}{M:DM}{p t:Nat}{f:List Seg}(h:Sh W M (zc f) p t)(hl:Lg M f p t)(l:M.dead=false)(j b a:Nat)(a6:W.node=(j:Int))(a5:j<4)(s:WM)(hW:s={W with calls:=W.calls+1,broken:=false,every:=a,writes:=0}) :
 ∃ i m I z,s.st[i]?=some m/\Zh s (NM.opened j b a f) m=(I,some z)/\(∀ k m,i<k->s.st[k]?=some m->Zh s (NM.opened j b a f) m=(s.most,none))/\(s.Hp=true\/i+1=s.st.length) /\
  NI {s with most:=I,st:=s.st.take i++[z],Hp:=false} (NM.opened j b a f) M (zc f) p (t+10):=by
 subst hW;have g:=hl.GF;have L:Kp (NM.opened j b a f) M (zc f) p (t+10) ((NM.opened j b a f).readOnly=false):=(hl.opened j b a _).mono id (by omega);have c:(NM.opened j b a f).S=atF (zc f) (zc f).length:=L.held;have S:(NM.opened j b a f).readOnly=false:=rfl;have mk:∀ (i I:Nat) (z:LM),i<W.st.length->MOk W.node z (t+10)->Hist (W.st.take i++[z]) (zc f) p True->Z1 W.node (W.calls+1) I (zc f) p ->
  NI {W with calls:=W.calls+1,broken:=false,every:=a,writes:=0,most:=I,st:=W.st.take i++[z],Hp:=false} (NM.opened j b a f) M (zc f) p (t+10):=fun i I z hi A hh V=>by
  have y:=h.cm.more (u:=t+10) (by omega);have h1:=h.cm.calls;have E:=h.cm.len;have o:=V _ g (NS _);rw[<- c] at o;exact {
   kp:=L
   cm:=⟨fun m q=>by
    rcases Mc.1 q with e|e
    .exact y.Gq m (Lr e)
    .rw[NW] at e;subst e;exact A,(by show W.calls+1<=_;omega),Me _,(by show(W.st.take i++[z]).length<=_;rw[NQ,NT,NU];omega),(by show 0<(W.st.take i++[z]).length;simp),y.next,y.base,y.FW,y.FT,y.FQ,y.FU,y.FV,y.FP,y.Hy⟩
   room:=h.room
   Gt:=hh
   GR:=V
   ro:=rfl
   self:=a6
   nd:=a5
   most:=o.2.1
   given:=NS _
   FD:=fun _ C=>absurd C (IE _)
   every:=rfl
   wr:=fun _ _=>by show 0=0%_;rw[Nat.zero_mod]
   nw:=Me _
   dead:=l}
 rcases h.all with⟨h1,E⟩|⟨hd,st,m,n,o,F0,x,Y,a1,X,C,V,a7⟩
 .have h1':=h1.called
  have d:=h1' _ g (NS _);rw[<- c] at d;obtain⟨T,hh,hT⟩:∃ T:Prop,Hist W.st (zc f) p T/\(T\/W.Hp=true):=by
   rcases E with E|⟨hd,E⟩
   .exact⟨True,E,.inl trivial⟩
   .exact⟨False,E,.inr (hd.resolve_right (by rw[l];decide))⟩
  obtain⟨i,m,A,hr,Q,a0,B⟩:=hh.found g;rw[<- c] at hr Q;have a3:=(Md.1 A).1;exact⟨i,m,W.most,m,A,Xy (W:={W with calls:=W.calls+1,broken:=false,every:=a,writes:=0}) d.1 S hr,fun k m2 hk q=>R3 (W:={W with calls:=W.calls+1,broken:=false,every:=a,writes:=0}) d.1 d.2.2.2 (h.cm.Gq m2 (LR q)).zero (fun e=>Q k m2 hk q e.2),hT.elim (fun x=>.inr (B x)) .inl,
   mk i W.most m a3 ((h.cm.Gq m (LR A)).more (by omega)) a0 h1'⟩
 .have hfell:W.Hp=true:=hd.resolve_right (by rw[l];decide)
  have J:=V.called;have d:=J _ g (NS _);rw[<- c] at d X;have A:W.st[st.length]?=some m:=by rw[o];simp
  have N:(NM.opened j b a f).S.keys.length=m.keys.length:=by
   obtain⟨K,D,v,k1,k2,k3,k4,k5,k6,k7,k8⟩:=X;rw[k6,k7,Zk D _ k1,Zk D _ k1];simp only[KT,MN,Zm,NQ,NU]
  have a2:m.hints=(NM.opened j b a f).S.hints:=by obtain⟨K,D,v,k1,k2,k3,k4,k5,k6,k7,k8⟩:=X;exact k8
  have r:=h.cm.Gq m (LR A);have a4:MOk W.node {m with keys:=(NM.opened j b a f).S.keys} (t+10):=⟨d.1.Gv,by show(NM.opened j b a f).S.keys.length<=_;rw[N];have:=r.keys;omega,fun e he=>by have:=(d.1.key e he).2.1;omega,r.hints,d.1.given.zero,r.node⟩;have R:=Hist.push (F:=F0) (G:=[x]) (by simp) (fun hp=>a1 hp) (by rw[<- Y];exact g) {m with keys:=(NM.opened j b a f).S.keys} (by rw[<- Y,<- c];exact⟨rfl,a2⟩);rw[<- Y] at R;refine⟨st.length,m,n,_,A,Vj (W:={W with calls:=W.calls+1,broken:=false,every:=a,writes:=0}) X C (by have:=d.2.1;have:=d.2.2.1;show n<=16*(W.calls+1);omega) S,fun k m2 hk q=>?_,.inl hfell,mk st.length n _ (by rw[o];simp) a4 ?_ J⟩
  .have:=(Md.1 q).1
   have e:({W with calls:=W.calls+1,broken:=false,every:=a,writes:=0}:WM).st.length=st.length+1:=by show W.st.length=_;rw[o];simp
   omega
  .rw[o,JF]
   exact R
structure StC(w:World)(sb db:Nat)(nv:Value)(n calls:Nat)(nums:Value)(LD:DL)(M:DM):Prop where
 IR:Blk w sb (zG db nv n calls nums) 58
 Hu:DRep w db LD M
structure StO(w:World)(sb n calls:Nat)(nums:Value)(X:NL)(N:NM)(M:DM):Prop where
 IR:Blk w sb (zG X.db (.pointer (some ⟨X.nb,0,none⟩)) n calls nums) 58
 node:NRep w X N M
theorem Nk:¬DTy 58:=by unfold DTy;decide
theorem StC.sep{w:World}{e d:Nat}{f:Value}{n a:Nat}{b:Value}{c:DL}{M:DM}(h:StC w e d f n a b c M):¬Foot d c M e:=h.Hu.apart h.IR.ty Nk
structure Opd(W:WM)(M:DM)(syn:Nat)(N:NM)(M':DM)(W':WM):Prop where
 refused:M'.refused=M.refused
 IZ:M'.IZ=M.IZ
 calls:M'.calls=M.calls
 room:M'.room=M.room
 cut:M'.cut=M.cut\/M'.cut=0
 fail:M'.fail=M.fail\/M'.fail=0
 found:∃ (Hp:Bool) (i mo:Nat) (m m':LM),(M.dead=false->Hp=W.Hp)/\W.st[i]?=some m/\(Hp=true\/i+1=W.st.length) /\
  Zh {W with Hp:=Hp,calls:=W.calls+1,broken:=false,every:=syn,writes:=0} N m=(mo,some m') /\
  W'={W with calls:=W.calls+1,broken:=false,every:=syn,writes:=0,most:=mo,st:=W.st.take i++[m'],Hp:=false}
structure Rst(W:WM)(M:DM)(t:Nat)(Hp:Bool)(M1:DM)(ss:List Seg)(p:Nat):Prop where
 sh:Sh {W with Hp:=Hp} M1 (zc ss) p t
 lg:Lg M1 ss p t
 dead:M1.dead=false
 same:M.dead=false->Hp=W.Hp
 refused:M1.refused=M.refused
 IZ:M1.IZ=M.IZ
 calls:M1.calls=M.calls
 room:M1.room=M.room
 cut:M1.cut=M.cut\/M1.cut=0
 fail:M1.fail=M.fail\/M1.fail=0
theorem Sh.Fp{W:WM}{M:DM}{F:List Fact}{p t:Nat}(h:Sh W M F p t):∃ a,Lg M a p t/\Sh W M (zc a) p t:=by
 obtain⟨a,c,b⟩:=h.lg;exact⟨a,c,by rw[b];exact h⟩
theorem Sh.FB{W:WM}{M:DM}{a:List Seg}{p t:Nat}(h:Sh W M (zc a) p t):Sane (Z5 a) t:=by
 have:=h.Ei.2;unfold atF at this;rw[Mz] at this;exact this
theorem Rst.Gd{W:WM}{M:DM}{F:List Fact}{p t:Nat}(h:Sh W M F p t)(g:M.dead=true)(b:Int)(a:List Int):∃ d c,Rst W M t true (M.Gd b a) d c:=by
 obtain⟨k,c,f⟩:=h.Gd b a;obtain⟨d,i,j⟩:=f.Fp;exact⟨d,c,j,i,rfl,(fun e=>by rw[g] at e;cases e),rfl,rfl,rfl,rfl,.inr rfl,.inr rfl⟩
theorem Rst.stay{W:WM}{M:DM}{F:List Fact}{p t:Nat}(h:Sh W M F p t)(b:M.dead=false):∃ a e,Rst W M t W.Hp M a e:=by
 obtain⟨a,c,d⟩:=h.Fp;exact⟨a,p,d,c,b,fun _=>rfl,rfl,rfl,rfl,rfl,.inl rfl,.inl rfl⟩
theorem Rst.HQ{W:WM}{M:DM}{t:Nat}{a:Bool}{b:DM}{e:List Seg}{p:Nat}(h:Rst W M t a b e p){d:List (Nat × Nat)}(c:Pairs b d):Rst W M t a (b.HQ d) e p :=
 ⟨h.sh.HQ c,h.lg.HQ c,h.dead,h.same,h.refused,h.IZ,h.calls,h.room,h.cut,h.fail⟩
theorem Rst.opd{W:WM}{M:DM}{t:Nat}{b:Bool}{f:DM}{e:List Seg}{p:Nat}(h:Rst W M t b f e p)(d c a:Nat)(k:W.node=(d:Int))(j:d<4) :
 ∃ o,NI o (NM.opened d c a e) f (zc e) p (t+10)/\Opd W M a (NM.opened d c a e) f o:=by
 obtain⟨i,m,u,s,r,q,_,g,l⟩:=Sh.found h.sh h.lg h.dead d c a k j _ rfl;exact⟨_,l,h.refused,h.IZ,h.calls,h.room,h.cut,h.fail,b,i,u,m,s,h.same,r,g,q,rfl⟩
structure UpK(sb db:Nat)(nv:Value)(n calls:Nat)(nums:Value)(W:WM)(LD:DL)(M:DM)(t:Nat)(w:World)(Hp:Bool)(LD1:DL)(M1:DM)(ss:List Seg)(p:Nat)(w1:World):Prop where
 st:StC w1 sb db nv n calls nums LD1 M1
 Ed:Rst W M t Hp M1 ss p
 fr:Fr (Foot db LD M) w w1
 Hw:∀ k,Foot db LD1 M1 k->Foot db LD M k\/w.heap.size<=k
theorem PZ(g7:zv)(B c y n a:Nat)(nv b:Value)(W:WM)(I:DL)(M:DM)(g m:Int)(t:Nat)(w:World)(h:StC w c y nv n a b I M)(d3:Zp B w)(hB:B<=w.heap.size)(h6:B<=c)(c8:∀ k,Foot y I M k->B<=k)
 (hr:∃ F p,Sh W M F p t)(ht:t<=890000)(e2:W.node=(n:Int))(e1:n<4)(i0:a<=10000000)(Q:-9223372036854775808<=g/\g<=9223372036854775807)(d2:-9223372036854775808<=m/\m<=9223372036854775807) :
 Calls Tryz.prog 76 #[.pointer (some ⟨c,0,none⟩),.int .i64 g,.int .i64 m] w fun e w'=>e=.returned (.bool true) /\
  ∃ X N M' W',StO w' c n (a+1) b X N M'/\(∃ F p,NI W' N M' F p (t+10))/\Opd W M (zI m 5) N M' W'/\(∀ k,NFoot X M' k->w.heap.size<=k)/\(∀ k,SRead X.LS k->w.heap.size<=k)/\Fr (fun k=>k=c\/Foot y I M k) w w':=by
 obtain⟨F0,p0,d0⟩:=hr;obtain⟨j5,h0,h8⟩:=d0.Fp;have b8:=h0.bd;have d9:∀ k,w.cell? ⟨c,k,none⟩=(zG y nv n a b)[k]?:=h.IR.cell;simp only[zG] at d9;have q:=Z (Qj w y I M h.Hu);have a4:Hid (∀ o tv,Fr Nil w o->ZJ o tv [m,g]->(∀ k,tv.ownBlock=some k->w.heap.size<=k)->Calls Tryz.prog 33 #[.pointer (some ⟨y,0,none⟩),.int .i64 g,tv] o fun e w'=>e=.returned (.tuple #[])/\∃ L',DStep y I M o L' (M.Gd g [m,g]) w'):=fun o tv f i8 D =>
  RP g [m,g] tv o y I M (h.Hu.nil f) Q.1 Q.2 i8 (fun k _ e z=>by have h1:=D k e;have h2:=h.Hu.lt z;omega) (fun x hx=>by simp only[Mr,LO,JG] at hx;rcases hx with rfl|rfl;exact d2;exact Q) (fun f hf=>by have:=b8.file hf;omega) (by have:=b8.IW;omega) (fun d i7=>by have:=b8.Hy d i7;omega)
 have HH:=Z h;have f5:=Z d3;have e6:=Z hB;have e8:=Z c8;have i4:=Z h6;have f3:=Z h8;clear h d3 hB c8 h6 b8 h0 h8 d0;go_enter Tryz.func76,Tryz.ntmps76;cases hdd:M.dead
 case' false =>
  rw[hdd] at q
  go_wp2_with (refine q.out.mono ?_;rintro e o ⟨rfl,e4⟩;subst o)
  obtain⟨s,p1,E⟩:=Rst.stay f3.out hdd;have b4:UpK c y nv n a b W I M t w W.Hp I M s p1 w:=⟨HH.out,E,O _ _,fun _ e=>.inl e⟩;clear E d9 q a4 hdd;obtain⟨C,Y,M1,R,h9,G⟩:∃ C Y M1 R,R=w/\UpK c y nv n a b W I M t w C Y M1 s p1 R:=⟨_,_,_,_,rfl,b4⟩;have l:=Z G;clear b4 G;rw[<- h9];clear h9
 case' true =>
  rw[hdd] at q;have g0:=Blk.new w [.int .i64 m,.int .i64 g] 3;have f0:Fr Nil w (w.alloc (.cells #[.int .i64 m,.int .i64 g] 3)):=(O _ _).alloc _;have HC:=Z (a4.out _ (.slice (some ⟨w.heap.size,0,none⟩) 2 2) f0 (.inr ⟨w.heap.size,0,2,rfl,by simp,(by show 2<=maxLen;decide),fun j hj=>by rw[MD,g0.cell];exact(match j,hj with|0,_=>rfl|1,_=>rfl|(j+2),hj=>absurd hj (by simp))⟩) (fun k e=>by simp only[Value.ownBlock,KK] at e;omega));have d5:=Z f0;clear g0 f0
  go_wp2_with (refine q.out.mono ?_;rintro e o ⟨rfl,e4⟩;subst o)
  refine HC.out.mono ?_;rintro e R ⟨rfl,Y,hs⟩;obtain⟨s,p1,E⟩:=Rst.Gd f3.out hdd g [m,g];have d7:Fr (Foot y I M) w R:=(d5.out.mono (S':=Foot y I M) (fun _ _ e=>absurd e id)).trans hs.fr;have b4:UpK c y nv n a b W I M t w true Y (M.Gd g [m,g]) s p1 R:=⟨⟨HH.out.IR.fr d7 HH.out.sep,hs.Hl⟩,E,d7,fun k e=>(hs.Hw k e).imp id (fun e=>NR d5.out.size e)⟩;clear E d9 q a4 hdd hs d7 d5 HC;go_wp2_with fail;obtain⟨C,M1,G⟩:∃ C M1,UpK c y nv n a b W I M t w C Y M1 s p1 R:=⟨_,_,b4⟩;have l:=Z G;clear b4 G
 all_goals
  have a8:Hid (Zp B R):=f5.out.fr e6.out l.out.fr e8.out;have a2:Hid (B<=R.heap.size):=NR e6.out l.out.fr.size;refine(OP g7 B c y n nv a b Y M1 s p1 t R l.out.st.IR e1 l.out.st.Hu a8.out a2.out l.out.Ed.lg l.out.Ed.sh.FB (by omega)).mono ?_;rintro e w2 ⟨rfl,f2⟩;have g3:∀ k,w2.cell? ⟨c,k,none⟩=(zG y nv n a b)[k]?:=(l.out.st.IR.fr f2 id).cell;simp only[zG] at g3;have d6:=Z f2;clear f2;go_wp2_with fail;refine(PV (l.out.st.Hu.nil d6.out) l.out.Ed.lg (by omega)).mono ?_;rintro e w3 ⟨r,L2,ps,rfl,b1,c9⟩;have J:=l.out.Ed.HQ c9;generalize M1.HQ ps=v at b1 J;have F3:=d6.out.trans b1.fr;have b7:=l.out.st.IR.fr F3 id;have h3:c<R.heap.size:=l.out.st.IR.lt;have D:∀ k,Foot r L2 v k->R.heap.size<=k:=fun k z=>NR d6.out.size (b1.new k z);have g1:∀ k,Foot r L2 v k->¬k=c:=fun k z e=>by subst e;have:=D _ z;omega
  have b9:Fr (fun k=>k=c) w3 (w3.setCell ⟨c,0,none⟩ (.pointer (some ⟨r,0,none⟩))):=Fr.set (S:=fun k=>k=c) (p:=⟨c,0,none⟩) (O _ _) (fun _=>rfl) _;have f6:=b1.Hl.fr b9 g1;have f9:=b7.set 0 (.pointer (some ⟨r,0,none⟩));have b6:Fr (fun k=>k=c) R _:=(F3.mono (S':=fun k=>k=c) (fun _ _ e=>absurd e id)).trans b9;have b3:Zp B _:=(a8.out.fr a2.out F3 (fun _ e=>absurd e id)).fr (NR a2.out F3.size) b9 (fun k e=>by subst e;exact i4.out);have g4:∀ k,w3.cell? ⟨c,k,none⟩=(zG y nv n a b)[k]?:=b7.cell;have i9:=b7.frozen;simp only[zG] at g4;have a6:=Z J;have u:=Z D;have a5:=Z h3;have a7:=Z f9;have T:=Z b6;have d4:=Z f6;have a9:=Z b3;clear g3 b1 c9 J F3 b7 f9 b9 h3 g1 f6 D b6 b3;go_wp2_with fail;generalize w3.setCell ⟨c,0,none⟩ (.pointer (some ⟨r,0,none⟩))=w4 at a7 T d4 a9 |-;have g5:∀ k,w4.cell? ⟨c,k,none⟩=(zG r nv n a b)[k]?:=a7.out.cell;simp only[zG] at g5;clear g4 i9;refine(YQ w4 r L2 v d4.out).mono ?_;rintro e o ⟨rfl,e4⟩;subst o;have e5:Hid (B<=w4.heap.size):=NR a2.out T.out.size;have a3:=Z (fun o=>Wx n g m o ⟨by omega,by omega⟩ Q d2);rw[Vk e1] at a3;have c5:ZC n (1000+zI g 2000:Nat) (zI m 5)=true:=by
   have h1:=Xs g (n:=2000) (by decide);have h2:=Xs m (n:=5) (by decide);unfold ZC zM;simp only[Ln,Ms];omega
  have e9:=Z (fun o (f:Fr Nil w4 o)=>UO B r L2 v n (1000+zI g 2000) (zI m 5) s c5 o (d4.out.nil f) a6.out.lg.Hs a6.out.lg.ok (a6.out.lg.short (by omega)) (a6.out.lg.FZ (by omega)) (a9.out.fr e5.out f (fun _ e=>absurd e id)) (NR e5.out f.size) (fun k z=>NR a2.out (u.out k z)));clear c5;obtain⟨sg,h7⟩:∃ sg:Nat,sg=1000+zI g 2000:=⟨_,rfl⟩;obtain⟨sy,e3⟩:∃ sy:Nat,sy=zI m 5:=⟨_,rfl⟩;rw[<- h7,<- e3] at a3 e9;have f4:=Z e3;clear h7 e3;have b5:Hid (∀ o,Fr (Foot r L2 v) w4 o->o.cell? ⟨c,0,none⟩=some (.pointer (some ⟨r,0,none⟩))/\o.cell? ⟨c,2,none⟩=some (.int .i64 (n:Nat))) :=
   fun o f=>⟨(a7.out.fr f (fun e=>by have:=u.out _ e;have:=a5.out;omega)).cell 0,(a7.out.fr f (fun e=>by have:=u.out _ e;have:=a5.out;omega)).cell 2⟩
  have i6:=b5.out w4 (O _ _);clear g5;go_wp2_with fail;have c0:Hid (∀ o,Fr Nil w4 o->o.cell? ⟨c,0,none⟩=some (.pointer (some ⟨r,0,none⟩))/\o.cell? ⟨c,2,none⟩=some (.int .i64 (n:Nat))):=fun o f=>b5.out o (f.mono (fun _ _ e=>absurd e id))
  go_region_held3 (fun o=>o.cell? ⟨c,0,none⟩=some (.pointer (some ⟨r,0,none⟩))/\o.cell? ⟨c,2,none⟩=some (.int .i64 (n:Nat))) (first|assumption|go_keep|exact c0.out _ z8|exact b5.out _ z8)
   (first
     | (go_at_call 49;refine(e9.out _ V.out).mono ?_;rintro e w9 ⟨X,rfl,h5,c6,L,d1,g8⟩;have d8:Fr (Foot r L2 v) w4 w9:=(V.out.mono (S':=Foot r L2 v) (fun _ _ e=>absurd e id)).trans g8;have j0:=b5.out w9 d8;have e7:=Z d8;have A:=Z (And.intro h5 (And.intro c6 (And.intro L d1)));clear h5 c6 L d1 g8 d8)
     | (go_at_call 127;refine(a3.out _).mono ?_;rintro e wc ⟨rfl,fc⟩;have V:Hid (Fr Nil w4 wc):=Fr.trans z8 fc;have j1:=c0.out wc V.out;clear fc))
  have a0:¬Foot r L2 v c:=fun e=>by have:=u.out _ e;have:=a5.out;omega
  have b0:=a7.out.fr e7.out a0;have f7:DRep w9 r X.LD v:=by have:=A.out.1.Hu;rw[A.out.2.1] at this;exact this
  have g6:∀ k,w9.cell? ⟨c,k,none⟩=(zG r nv n a b)[k]?:=b0.cell;have g9:=b0.frozen;simp only[zG] at g6;have c4:=(b0.set 3 (.int .i64 ((a:Int)+1))).set 1 (.pointer (some ⟨X.nb,0,none⟩));have c7:Fr (fun k=>k=c) w9 ((w9.setCell ⟨c,3,none⟩ (.int .i64 ((a:Int)+1))).setCell ⟨c,1,none⟩ (.pointer (some ⟨X.nb,0,none⟩))) :=
   Fr.set (S:=fun k=>k=c) (p:=⟨c,1,none⟩) (Fr.set (S:=fun k=>k=c) (p:=⟨c,3,none⟩) (O _ _) (fun _=>rfl) _) (fun _=>rfl) _
  have j4:IntKind.i64.wrap ((a:Int)+1)=(a:Int)+1:=by rw[MC];omega
  have c1:=Z c4;have K:=Z c7;have j2:=Z b0;have i1:=Z f7;clear i6 j1 j0 c4 c7 a0 b0 f7;go_wp2_with fail;generalize (w9.setCell ⟨c,3,none⟩ (.int .i64 ((a:Int)+1))).setCell ⟨c,1,none⟩ (.pointer (some ⟨X.nb,0,none⟩))=a1 at c1 K |-;clear g6 g9;have hS:Blk a1 c (zG r (.pointer (some ⟨X.nb,0,none⟩)) n ((a+1:Nat):Int) b) 58:=c1.out;have e0:∀ k,NFoot X v k->R.heap.size<=k:=fun k z=>(A.out.2.2.1 k z).elim (u.out k) (fun e=>NR (NR T.out.size V.out.size) e);have a0:∀ k,NFoot X v k->¬k=c:=fun k z e=>by have:=e0 k z;have:=a5.out;omega
  have h4:∀ k,SRead X.LS k->¬k=c:=fun k z e=>by have:=A.out.2.2.2 k z;have:=a5.out;have:=T.out.size;have:=V.out.size;omega
  have c3:=A.out.1.fr K.out a0 h4;have i5:Hid (StO a1 c n (a+1) b X (NM.opened n sg sy s) v):=⟨by rw[A.out.2.1];exact hS,c3⟩;have c2:DRep a1 r X.LD v:=i1.out.fr K.out (fun k z=>a0 k (.inr (.inr (.inr (by rw[A.out.2.1];exact z)))));have f1:Hid (∃ W',(∃ F p,NI W' (NM.opened n sg sy s) v F p (t+10))/\Opd W M (zI m 5) (NM.opened n sg sy s) v W'):=by
   obtain⟨W',h1,h2⟩:=a6.out.opd n sg sy e2 e1;rw[f4.out] at h2;exact⟨W',⟨_,_,h1⟩,by rw[f4.out];exact h2⟩
  have g2:∀ k,a1.cell? ⟨c,k,none⟩=(zG r (.pointer (some ⟨X.nb,0,none⟩)) n ((a+1:Nat):Int) b)[k]?:=hS.cell;simp only[zG] at g2;have i3:=Z (YQ a1 r X.LD v c2);have j3:decide (v.refused<v.refused)=false:=by simp
  have i2:=Z e0;clear hS a0 h4 c3 c2 e0
  go_wp2_with (refine i3.out.mono ?_;rintro e o ⟨rfl,e4⟩;subst o)
  go_ret;obtain⟨W',h1,h2⟩:=f1.out;have b6:Fr (fun k=>k=c\/Foot y I M k) w w4:=(l.out.fr.mono (fun _ _ e=>.inr e)).trans (T.out.mono (fun _ _ e=>.inl e));have f8:Fr (fun k=>k=c\/Foot y I M k) w a1:=(b6.trans' e7.out (fun i hi e=>by have:=u.out i e;have:=l.out.fr.size;omega)).trans (K.out.mono (fun _ _ e=>.inl e));exact⟨rfl,X,_,v,W',i5.out,h1,h2,fun k z=>NR l.out.fr.size (i2.out k z),fun k z=>NR l.out.fr.size (NR T.out.size (NR V.out.size (A.out.2.2.2 k z))),f8⟩
theorem NI.more{W:WM}{N:NM}{M:DM}{F:List Fact}{p t u:Nat}(h:NI W N M F p t)(a:t<=u):NI W N M F p u :=
 {h with kp:=h.kp.mono id a,cm:=h.cm.more a,nw:=NR h.nw a}
theorem Sh.more{W:WM}{M:DM}{F:List Fact}{p t u:Nat}(h:Sh W M F p t)(a:t<=u):Sh W M F p u:=by
 obtain⟨d,c,b⟩:=h.lg;exact⟨⟨d,c.more a,b⟩,h.cm.more a,h.room,h.all⟩
theorem NI.sync{W:WM}{N:NM}{M:DM}{F:List Fact}{p t:Nat}(h:NI W N M F p t)(T:t<=100000000)(g:N.readOnly=false) :
 ((N.Hc M).1=0/\(N.Hc M).2.2.refused=M.refused/\∃ l i,NI {W with st:=W.st.drop (W.st.length-1)} (N.Hc M).2.1 (N.Hc M).2.2 l i (t+2)) \/
   ((N.Hc M).1=9/\(N.Hc M).2.2.refused=M.refused+1/\(N.Hc M).2.2.IZ=M.IZ/\∃ l i,Sh {W with broken:=true} (N.Hc M).2.2 l i (t+2)/\((N.Hc M).2.2.dead=false->NI {W with broken:=true} (N.Hc M).2.1 (N.Hc M).2.2 l i (t+2))):=by
 obtain⟨e,C,D,i,L,w,o,y,j⟩:=U0 (h.kp.mono (fun _=>g) (NS _)) (by omega);have A:N.Hc M=(zT e,({N with J:=C}:NM).Gf e,D):=by
  unfold NM.Hc;rw[Ma (by rw[g];decide),L]
 rw[A];simp only;have d:D.room=W.Gn:=w.room.trans h.room;have c:Z1 W.node W.calls W.most F i:=fun q a b=>h.GR q (NR o a) b;have S:=h.nw;rcases w.Gf.1 with⟨rfl,s,E,Q⟩|⟨s,⟨rfl,E⟩|⟨rfl,_⟩⟩
 .obtain⟨ml,hml,hrel,hpos⟩:=h.Gt.last h.kp.le
  have z:=j rfl;have B:W.st.drop (W.st.length-1)=[ml]:=by
   have K:=Lk (show W.st.length-1<W.st.length by omega);rw[NZ (by omega)] at hml;rw[K,Mp hml,Lu (by omega)]
  have f:=w.kp;refine .inl ⟨rfl,s,F,i,?_⟩;rw[B];have k:=h.cm.Gq ml (LR hml);have G:=h.cm.len;exact {h with
   kp:=⟨f.lg.imp fun J x=>⟨x.1,x.2.1,fun _=>x.2.2 rfl⟩,f.held⟩
   cm:=(h.cm.more (u:=t+2) (by omega)).Gs (W':={W with st:=[ml]}) rfl (fun m I=>by rw[NW] at I;subst I;exact k.more (by omega)) (by show 1<=_;omega) (by show 0<1;omega) ((h.cm.more (u:=t+2) (by omega)).ww) rfl rfl rfl rfl
   room:=d
   Gt:=by rw[z];exact Hist.one ml hrel
   GR:=c
   ro:=by show(N.readOnly||false)=_;rw[Bool.or_false];exact h.ro
   FD:=fun _ v q a b=>h.FD g v q (NR o a) b
   wr:=fun _=>h.wr g
   nw:=by show N.writes<=_;omega
   dead:=Q.trans h.dead}
 .refine .inr ⟨rfl,s,E,F,i,⟨w.kp.lg.imp fun J x=>⟨x.1,x.2.1⟩,(h.cm.more (u:=t+2) (by omega)).Gs (W':={W with broken:=true}) rfl (h.cm.more (u:=t+2) (by omega)).Gq (h.cm.more (u:=t+2) (by omega)).len h.cm.ne (h.cm.more (u:=t+2) (by omega)).ww rfl rfl rfl rfl,d,.inl ⟨c,.inl (h.Gt.mono o id)⟩⟩,fun R=>?_⟩
  have f:=w.kp;have r:(({N with J:=C}:NM).Gf (some 9)).readOnly=true:=by show(N.readOnly||true)=true;rw[Bool.or_true]
  exact {h with
   kp:=⟨f.lg.imp fun J x=>⟨x.1,x.2.1,fun e=>by rw[r] at e;cases e⟩,f.held⟩
   cm:=(h.cm.more (u:=t+2) (by omega)).Gs (W':={W with broken:=true}) rfl (h.cm.more (u:=t+2) (by omega)).Gq (h.cm.more (u:=t+2) (by omega)).len h.cm.ne (h.cm.more (u:=t+2) (by omega)).ww rfl rfl rfl rfl
   room:=d
   Gt:=h.Gt.mono o id
   GR:=c
   ro:=r
   FD:=fun e=>by rw[r] at e;cases e
   wr:=fun e=>by rw[r] at e;cases e
   nw:=by show N.writes<=_;omega
   dead:=R}
 .exact absurd rfl y
theorem NI.Hu{W:WM}{N:NM}{M a:DM}{F:List Fact}{p t:Nat}(h:NI W N M F p t)(j:∀ b,Lg M b p t->Lg a b p t)(c:a.safe=M.safe)(d:a.dir=M.dir)(f:a.IW=M.IW)(g:a.room=M.room)(i:a.dead=M.dead):NI W N a F p t :=
 {h with
  kp:=⟨h.kp.lg.imp fun b x=>⟨j b x.1,x.2.1,fun e=>by have:=x.2.2 e;unfold Jl at this |-;rw[c,d,f];exact this⟩,h.kp.held⟩
  room:=g.trans h.room
  dead:=i.trans h.dead}
def InR(x:Int):Prop:=-9223372036854775808<=x/\x<=9223372036854775807
def NO(w:World)(v:Value):Prop:=∃ l,ZJ w v l/\∀ x,x∈l->InR x
theorem ZJ.own{w:World}{v:Value}{l:List Int}(h:ZJ w v l):∀ k,l≠[]->v.ownBlock=some k->k<w.heap.size:=fun k a e=>by
 rcases h with⟨_,i⟩|⟨g,j,c,rfl,m,_⟩
 .exact absurd i a
 .simp[Value.ownBlock] at e;omega
theorem add_zero(a:Addr):a.add 0=a:=by unfold Addr.add;simp
theorem Nl(a:Addr)(k:Nat)(h:k≠0):a.add k=⟨a.block,a.off+k,none⟩:=by unfold Addr.add;simp[h]
theorem V2{w:World}{p:Addr}{v:Value}(h:w.cell? p=some v):p.block<w.heap.size:=by
 refine Nat.lt_of_not_le fun a=>?_;unfold World.cell? at h;rw[Ky a] at h;cases h
theorem O0{w:World}{p:Addr}{v:Value}(h:w.cell? p=some v):p.spot=none:=by
 unfold World.cell? at h;split at h
 .split at h
  .cases h
  .rename_i hs
   simpa using hs
 .cases h
theorem O1:Tryz.prog.cellsOf 3=1:=by kernel_rfl
section
variable {H:Type} {enc:TypeId × Value->H} {W:World} {sp:Nat->Bool} {held:Bool} {n:Nat}
theorem XW{c:Value}{x:DataW H × List MemPlace}(h:DataW.trod enc Tryz.prog W 0 sp held n 3 [c]=some x):∃ k,c=.int .i64 k/\InR k:=by
 obtain⟨k,e,_,a⟩:=DataW.trod_int Kd h;refine⟨k,by simpa using e,?_⟩;unfold Lit.wf at a;simp only[Ln,Ms] at a;have b:IntKind.i64.min=-9223372036854775808:=by decide
 have d:IntKind.i64.max=9223372036854775807:=by decide
 rw[b,d] at a;exact a
theorem NP{c:Value}{x:DataW H × List MemPlace}(A:sp=fun _=>true)(h:DataW.trod enc Tryz.prog W 0 sp held n 26 [c]=some x):NO W c:=by
 subst A;rcases Deep.open_slice1 JL O1 h with⟨v,_⟩|⟨a,b,d,m,M,V,D,L,v,_,I,C,J,_,l⟩
 .have:c=.slice none 0 0:=by simpa using v
  exact⟨[],.inl ⟨⟨none,0,this⟩,rfl⟩,fun x t=>by cases t⟩
 .have hcv:c=.slice (some a) b d:=by simpa using v
  have K:m=d:=by rw[J];rfl
  have E:∀ i,i<m->∃ k,V i=.int .i64 k/\InR k:=fun i p=>XW (l i p).2;obtain⟨f,B⟩:∃ f:Nat->Int,∀ i,i<m->V i=.int .i64 (f i)/\InR (f i):=by
   classical
   refine⟨fun i=>if p:i<m then Classical.choose (E i p) else 0,fun i p=>?_⟩;simp only[IK p];exact Classical.choose_spec (E i p)
  by_cases G:b=0
  .subst G
   exact⟨[],.inl ⟨⟨some a,d,hcv⟩,rfl⟩,fun x t=>by cases t⟩
  .have hc0:=(l 0 (by omega)).1
   rw[add_zero] at hc0;have s:=O0 hc0;have r:=V2 hc0;obtain⟨g,o,F⟩:=a;simp only at s r;subst s;have z:((List.range b).map f).length=b:=by simp
   refine⟨(List.range b).map f,.inr ⟨g,o,d,by rw[z];exact hcv,r,by rw[z];omega,fun j y=>?_⟩,fun x t=>?_⟩
   .rw[z] at y
    have u:=(l j (by omega)).1;rw[(B j (by omega)).1] at u;have e:Addr.add ⟨g,o,none⟩ j=⟨g,o+j,none⟩:=by
     by_cases q:j=0
     .subst q;rw[add_zero];rfl
     .rw[Nl _ _ q]
    rw[e] at u
    simpa using u
   .obtain⟨j,y,rfl⟩:=Mt.1 t
    exact(B j (by have:=KO.1 y;omega)).2
end
end Go.Proofs.YtkhnggkkiefcdaaGreatDoor
