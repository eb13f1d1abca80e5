/- larder: joined texts -/
import Derived.Test.YtkhnggkkiefcdaaGreatDoorWHAG
import Derived.Test.YtkhnggkkiefcdaaGreatDoorWHAH
import Derived.Test.YtkhnggkkiefcdaaGreatDoorWHAI
import Derived.Test.YtkhnggkkiefcdaaGreatDoorWHAJ
import Derived.Test.YtkhnggkkiefcdaaGreatDoorWHAK
import Derived.Test.YtkhnggkkiefcdaaGreatDoorWHAN
import Derived.OpenShut
import Derived.Deep.Slices
namespace Go.Proofs.YtkhnggkkiefcdaaGreatDoor
open Go.RowKit
set_option maxRecDepth 100000
set_option maxHeartbeats 8000000
theorem NI.asked{W:WM}{N:NM}{M:DM}{F:List Fact}{p t:Nat}(h:NI W N M F p t)(ht:t+20<=100000000)(g:N.readOnly=false)(x:Fact)(V:ZR x)(I:(zj x).size<=2000)(s:(N.S.enter x).hints.length<=32)(f:Nat)(S:f∉M.ids)(v:LM)(E:MOk W.node v (t+10))(hrel:zV v (N.S.enter x))(G:YT W.node W.calls W.most (N.S.enter x))(o:(N.S.enter x).II=N.S.II) :
 ∃ e J M',N.asked M x f=(zR e,J,M')/\(∀ k∈M'.ids,k=f\/k∈M.ids)/\(e=none\/e=some 9\/e=some 10)/\Aft W v M e J M' (t+10):=by
 obtain⟨e,Y,y,wr,M',B,X,L,w,r,z,i,T,j⟩:=Nc (h.kp.mono (fun _=>g) (NH _)) (by omega) g x V I s f S;refine⟨e,_,M',L,w.ids,?_,?_⟩
 .rcases w.Gc.1 with⟨c,_⟩|⟨_,⟨c,_⟩|⟨c,_⟩⟩
  .exact .inl c
  .exact .inr (.inl c)
  .exact .inr (.inr c)
 have l:=w.kp.mono id (show t+5<=t+10 by omega);have K:=h.due g;have A:y.II=N.S.II:=by
  rcases z with⟨_,_,e⟩|⟨_,e⟩
  .rw[e]
  .rw[e,o]
 exact {
  body:=by
   refine⟨F++B,X,l,fun c D=>?_,fun c C=>(i c).2 (K.1 C),?_⟩
   .have hL:=h.Ft g (by rw[<- A];exact D)
    rcases z with⟨_,d,_⟩|⟨rfl,_⟩
    .exact absurd c d
    .intro q a b
     rw[NF,NK] at b;show y.II<=_;rw[A];by_cases s:q<=F.length
     .rw[Yi s]
      exact hL q (NG r a) s
     .have e1:q=F.length+1:=by omega
      rw[e1,Yc,<- h.kp.held,o];exact NH _
   .rcases z with⟨rfl,d,_⟩|⟨rfl,_⟩
    .rw[MD]
     exact .inr ⟨d,.inl ⟨h.Gj.mono r id,fun q a b=>h.GS q (NG r a) b⟩⟩
    .refine .inl ⟨Hist.push (by simp) (fun _=>h.Gj.mono r id) l.le v ?_,Z6.snoc (fun _ q a b=>h.GS q (NG r a) b) _ ?_⟩
     .rw[Ui,<- h.kp.held]
      exact hrel
     .rw[<- h.kp.held]
      exact G
  ro:=rfl
  br:=by have:=h.ro;rw[<- this,g]
  Gc:=w.Gc
  grow:=j
  full:=w.full
  room:=by rw[w.room];exact h.room
  cm:=h.cm.more (by omega)
  ww:=by have:=h.cm.ww;omega
  len:=by have:=h.cm.len;omega
  Gv:=E
  self:=h.self
  nd:=h.nd
  most:=h.most
  given:=by show N.given<=y.II;rw[A];exact h.given
  every:=h.every
  wr:=fun c d=>by
   show wr=_;rw[(i c).1];exact K.2 d
  nw:=by have:=h.nw;show wr<=_;omega
  dead:=h.dead}
theorem MOk.with{c:Int}{m:LM}{t:Nat}(h:MOk c m t)(key:ByteArray)(l:List Ver)(y:l.length<=5)(z:∀ u∈l,u.seq=0->u.node=c):MOk c {m with keys:=Z0 m.keys key l} (t+10):=by
 have r:Z0 m.keys key l=if l=[] then ZQ m.keys key else Zk m.keys key l:=Zy key l h.Gm
 have q:∀ e∈Z0 m.keys key l,e∈m.keys\/e=(key,l):=fun e o=>by
  rw[r] at o;split at o
  .exact .inl (Wc e o)
  .exact Wb e o
 refine⟨?_,?_,fun e o=>?_,h.hints,fun e o=>?_,h.node⟩
 .show Yb (Z0 m.keys key l)
  rw[r];split
  .exact SG key h.Gm
  .exact SF key l h.Gm
 .show(Z0 m.keys key l).length<=_
  have:=h.keys;rw[r];split
  .have:=SI m.keys key;omega
  .have:=SH m.keys key l;omega
 .rcases q e o with x|x
  .exact h.lens e x
  .rw[x];exact y
 .rcases q e o with x|x
  .exact h.zero e x
  .rw[x];exact z
theorem NI.FV{W:WM}{N:NM}{M:DM}{F:List Fact}{p t:Nat}(h:NI W N M F p t){m:LM}(b:zV m N.S)(a:ByteArray):YX m.keys a=zq N.S.keys a:=by
 rw[b.1];exact Sn a h.st.1.Gm
theorem NI.FU{W:WM}{N:NM}{M:DM}{F:List Fact}{p t:Nat}(h:NI W N M F p t)(y:t+20<=100000000){m:LM}(q:zV m N.S)(l:MOk W.node m t)(b a:ByteArray)(r:a.size<=128) :
 (∀ c:NM,c.S.keys=N.S.keys->c.self=N.self->putV b a c (N.given+1)=[m.putV b a ((N.given+1:Nat):Int)])/\VOk (m.putV b a ((N.given+1:Nat):Int)):=by
 have e:m.putV b a ((N.given+1:Nat):Int)=⟨N.self,((N.given+1:Nat):Int),grV (zq N.S.keys b) 0,grV (zq N.S.keys b) 1,grV (zq N.S.keys b) 2,grV (zq N.S.keys b) 3,a,false⟩:=by
  unfold LM.putV;rw[h.FV q,l.node,h.self]
 have d:∀ u∈zq N.S.keys b,u.Nat:=fun u s=>((h.st.1.get b).2.2 u s).nat;have o:=h.nd;have k:N.given<100000000000:=by have:=h.given;have:=h.st.2.2.1;have:=h.cm.calls;omega
 refine⟨fun c i j=>?_,?_⟩
 .rw[e]
  unfold putV;rw[i,j]
 .rw[e]
  have f:(0:Int)<=((N.self:Nat):Int):=by omega
  have g:((N.self:Nat):Int)<4:=by omega
  have v:(0:Int)<=((N.given+1:Nat):Int):=by omega
  have x:((N.given+1:Nat):Int)<9223372036854775808:=by omega
  exact⟨⟨f,g⟩,⟨⟨f,Int.lt_trans g (by decide)⟩,⟨v,x⟩,Yj _ _ d,Yj _ _ d,Yj _ _ d,Yj _ _ d,by show a.size<_;omega⟩,r,by show(1:Int)<=((N.given+1:Nat):Int);omega,rfl⟩
theorem NI.put{W:WM}{N:NM}{M:DM}{F:List Fact}{p t H0:Nat}(h:NI W N M F p t)(z:t+20<=100000000)(j:N.readOnly=false){m:LM}(r:zV m N.S)(o:MOk W.node m t)(d:∀ g∈M.ids,g<H0)(a b:ByteArray)(c:zL a=true)(G:b.size<=128) :
 (∀ H,H0<=H->Vg N M H a (putV a b))/\W.most<N.given+1/\N.given+1<=16*(W.calls+1)/\∀ f g,H0<=f->H0<=g->Apart2 N M f g->∃ e x M',N.put M a b f g=((if e=none then N.given+1 else 0),zR e,x,M')/\(e=none\/e=some 9\/e=some 10) /\
   Aft {W with calls:=W.calls+1,most:=if e=none then N.given+1 else W.most} (m.put a b (((if e=none then N.given+1 else 0:Nat)):Int)) M e x M' (t+10):=by
 obtain⟨s,I⟩:=h.FU z r o a b G;have l:∀ u∈[m.putV a b ((N.given+1:Nat):Int)],VOk u:=by intro u i;rw[NP] at i;subst i;exact I
 have J:=h.st.2.2.1;have K:=h.most;have L:=h.given;have Q:=h.cm.calls;have R:=h.nk;have T:=h.nw;refine⟨fun H C=>PV (h.kp.mono (fun _=>j) (NH _)) (by omega) (by omega) h.given (h.Ft j) H (fun g y=>MT (d g y) C) a _ _ s (WF c l (by simp)) (WE c l (by simp)) (by omega) (by omega),by omega,by omega,fun f g V y D=>?_⟩;obtain⟨e,x,M',A,_,E,q⟩:=h.replace z j a c (putV a b) [m.putV a b ((N.given+1:Nat):Int)] f g (fun k=>by have:=d f k;omega) (fun k=>by have:=d g k;omega) D s l (fun u i=>by rw[NP] at i;subst i;rfl)
  (m.put a b ((N.given+1:Nat):Int)) (m.put a b 0) (o.with a _ (by simp) (fun u i B=>by rw[NP] at i;subst i;exact o.node)) (o.with a _ (by simp) (fun u i B=>by rw[NP] at i;subst i;exact o.node)) ⟨by show Z0 m.keys a _=_;rw[r.1],r.2⟩
  (.inr ⟨m.putV a b 0,rfl,rfl,o.node,by show Z0 m.keys a _=_;rw[r.1],r.2⟩)
 refine⟨e,x,M',?_,E,?_⟩
 .unfold NM.put
  rw[NU (by rw[c];decide),NU (by omega),NU (by rw[j];decide)];exact A
 .cases e <;> exact q
theorem NI.hint{W:WM}{N:NM}{M:DM}{F:List Fact}{p t H0:Nat}(h:NI W N M F p t)(E:t+20<=100000000){m:LM}(y:zV m N.S)(q:MOk W.node m t)(j:∀ g∈M.ids,g<H0)(d:Int)(a:ByteArray) :
 (∀ H,H0<=H->a.size<=64->zN d=true->N.readOnly=false->Fit N M H (.inr (.inr (.inl (d.toNat,a))))) /\
   (Yy N d a=none->∀ f,H0<=f->∃ e s M',N.hint M d a f=(zR e,s,M')/\(e=none\/e=some 9\/e=some 10)/\Aft W (m.hint d.toNat a) M e s M' (t+10)):=by
 have b:=h.st;have G:=h.nk;have I:=h.nw;refine⟨fun H A D l c=>?_,fun i f J=>?_⟩
 .unfold zN at l
  simp only[Mk] at l;exact TH (h.kp.mono (fun _=>c) (NH _)) (by omega) H (fun g C=>MT (j g C) A) _ ⟨by show d.toNat<_;omega,by show a.size<_;omega⟩ (X0 (by omega) D) (by omega) (by omega)
 .have hout:=OJ N M d a f
  rw[i] at hout;unfold Yy at i;by_cases k:Yx N.self d a=0
  .rw[NU (by simp[k])] at i
   cases c:N.readOnly with
   | true=>rw[Mg c] at i;cases i
   | false =>
    rw[NU (by rw[c];decide)] at i;by_cases u:32<=N.S.hints.length
    .rw[Mg u] at i;cases i
    .have l:zN d=true/\a.size<=64:=by
      unfold Yx at k;split at k
      .cases k
      .rename_i h1
       split at k
       .cases k
       .simp only[Bool.not_eq_false,Ld] at h1
        exact⟨h1.1,by omega⟩
     have r:=l.1;unfold zN at r;simp only[Mk] at r;obtain⟨e,s,M',z,_,B,o⟩:=h.asked E c (.inr (.inr (.inl (d.toNat,a)))) (Ta (by omega) l.2) (X0 (by omega) l.2) (by show(N.S.hints++[_]).length<=32;rw[NF,NK];omega) f (fun x=>by have:=j f x;omega) (m.hint d.toNat a)
      ⟨q.Gm,by have:=q.keys;show m.keys.length<=_;omega,q.lens,by show(m.hints++[_]).length<=33;rw[NF,NK,y.2];omega,q.zero,q.node⟩
      ⟨y.1,by show m.hints++[_]=N.S.hints++[_];rw[y.2]⟩ ⟨⟨b.1.Gm,b.1.key,by show(N.S.hints++[_]).length<=32;rw[NF,NK];omega,b.1.names⟩,b.2.1,b.2.2.1,b.2.2.2⟩ rfl
     exact⟨e,s,M',by rw[hout];exact z,B,o⟩
  .rw[Mg k] at i;cases i
def Yk:ByteArray:={data:=#[97,32,116,114,105,97,108]}
structure Sane(S:SM)(t:Nat):Prop where
 held:Zl S
 II:S.II<=16*t
 keys:S.keys.length<=t
theorem Sh.FX{W:WM}{M:DM}{F:List Fact}{p t:Nat}(h:Sh W M F p t):p<=F.length/\Sane (atF F F.length) t:=by
 obtain⟨N,q,k⟩:=h.lg;have c:p<=F.length:=by rw[<- k];exact q.GA
 have D:=h.cm.calls;refine⟨c,?_⟩;have a:∀ T,Hist W.st F p T->(atF F F.length).keys.length<=t:=fun T l=>by
  obtain⟨j,_,d,_⟩:=l;obtain⟨m,s,u⟩:=d F.length c (NH _);rw[<- u.1];exact(h.cm.Gv m (LK s)).keys
 rcases h.all with⟨g,d⟩|⟨_,st,m,n,e,B,x,C,o,y,r,i,_⟩
 .have:=g F.length c (NH _)
  exact⟨this.1,by have:=this.2.2.1;omega,d.elim (a _) (fun x=>a _ x.2)⟩
 .have:=i F.length c (NH _)
  refine⟨this.1,by have:=this.2.2.1;omega,?_⟩;obtain⟨K,a,v,f,E,G,I,J,z,A,L⟩:=y;have b:(atF F F.length).keys.length=m.keys.length:=by
   rw[z,A,Zy a _ f,Zy a _ f];simp only[Ji,MG,Zk,NF,NK]
  rw[b];exact(h.cm.Gv m (by rw[e];simp)).keys
theorem Ng{N:NM}(j:Zl N.S)(l:N.self<4)(k:N.given<100000000000)(b a:ByteArray)(m:a.size<=128) :
 (∀ d:NM,d.S.keys=N.S.keys->d.self=N.self->putV b a d (N.given+1)=putV b a N (N.given+1))/\(∀ u∈putV b a N (N.given+1),VOk u)/\(putV b a N (N.given+1)).length<=4:=by
 have e:∀ u∈zq N.S.keys b,u.Nat:=fun u c=>((j.get b).2.2 u c).nat;refine⟨fun d h i=>?_,fun u c=>?_,by unfold putV;simp⟩
 .unfold putV
  rw[h,i]
 .unfold putV at c
  rw[NP] at c;subst c;have f:(0:Int)<=((N.self:Nat):Int):=by omega
  have g:((N.self:Nat):Int)<4:=by omega
  have o:(0:Int)<=((N.given+1:Nat):Int):=by omega
  have p:((N.given+1:Nat):Int)<9223372036854775808:=by omega
  exact⟨⟨f,g⟩,⟨⟨f,Int.lt_trans g (by decide)⟩,⟨o,p⟩,Yj _ _ e,Yj _ _ e,Yj _ _ e,Yj _ _ e,by show a.size<_;omega⟩,m,by show(1:Int)<=((N.given+1:Nat):Int);omega,rfl⟩
theorem OK(F G:List Fact):(atF (F++G) (F++G).length).keys.length<=(atF F F.length).keys.length+G.length:=by
 unfold atF;rw[Mt,Mt,MZ];exact Va G _
theorem QX{M:DM}{i:List Seg}{p t H0:Nat}(hl:Lg M i p t)(L:Sane (Z4 i) t)(ht:t<=900000)(n:Nat)(hn:n<4)(a b:Nat)(j:∀ g∈M.ids,g<H0)(d c:ByteArray)(y:zL d=true)(hv:c.size<=128) :
 (∀ H,H0<=H->Vg (NM.opened n a b i) M H d (putV d c))/\∀ f g,H0<=f->H0<=g->Apart2 (NM.opened n a b i) M f g->∀ (k:Int)(G:ByteArray)(E:Nat),(∀ g'∈((NM.opened n a b i).put M d c f g).2.2.2.ids,g'<E)->G.size<=64->zN k=true->((NM.opened n a b i).put M d c f g).2.2.1.readOnly=false->Fit ((NM.opened n a b i).put M d c f g).2.2.1 ((NM.opened n a b i).put M d c f g).2.2.2 E (.inr (.inr (.inl (k.toNat,G)))):=by
 have z:=L.II;have J:=L.keys;have m:(NM.opened n a b i).given<100000000000:=by show(Z4 i).II<_;omega
 obtain⟨R,F,h3⟩:=Ng (N:=NM.opened n a b i) L.held hn m d c hv;have q:Kp (NM.opened n a b i) M (zc i) p t True:=hl.opened n a b True;have u:(NM.opened n a b i).given<(NM.opened n a b i).S.II->Leas (zc i) p (NM.opened n a b i).S.II:=fun h=>absurd h (Iz _);refine⟨fun H hH=>PV q (by omega) m (NH _) u H (fun g T=>MT (j g T) hH) d _ _ R (WF y F (by omega)) (WE y F (by omega)) (by show(Z4 i).keys.length<=_;omega) (NV _),?_⟩;intro f g hf T ha k G E;rcases hput:(NM.opened n a b i).put M d c f g with⟨r,e,N',Y⟩;intro s Q D C;simp only at s C |-;obtain⟨I,X,S',gv,wr,M2,A,B,p',er,w,hp,hA,hB,S,a3,_,_,_,_⟩:=UE q (by omega) m (NH _) u rfl d (putV d c) _ f g (fun h=>by have:=j f h;omega) (fun h=>by have:=j g h;omega) ha R (WH y F (by omega)) (VV y F (by omega));have K:(NM.opened n a b i).put M d c f g=(NM.opened n a b i).replace M d (putV d c) f g:=by
  unfold NM.put;rw[NU (by rw[y];decide),NU (by omega),NU (by show ¬false=true;decide)]
 rw[K,er] at hput;obtain⟨rfl,rfl⟩:{NM.opened n a b i with J:=X,S:=S',given:=gv,writes:=wr,readOnly:=I.isSome}=N'/\M2=Y:=by
  simp only[LV] at hput;exact⟨hput.2.2.1,hput.2.2.2⟩
 have he:I=none:=by
  cases I with
  | none=>rfl
  | some x=>cases C
 have l:=w.kp;have o:S'=atF (zc i++A++B) (zc i++A++B).length:=l.held;have h0:Z4 i=atF (zc i) (zc i).length:=q.held;have a2:S'.keys.length<=t+2:=by
  have:=OK (zc i) (A++B);rw[<- Mf,<- o,<- h0] at this;rw[NF] at this;have a0:A.length<=1:=by rcases hA with e|⟨e,_⟩ <;> rw[e] <;> simp
  have a1:B.length<=1:=by rcases hB with⟨e,_⟩|⟨e,_⟩ <;> rw[e] <;> simp
  omega
 unfold zN at D;simp only[Mk] at D;have V:(NM.opened n a b i).writes=0:=rfl;exact TH (l.mono (fun _=>he) (NH _)) (by omega) E s _ ⟨by show k.toNat<_;omega,by show G.size<_;omega⟩ (X0 (by omega) Q) (by show S'.keys.length<=_;omega) (by show wr<=_;omega)
def zG(c:Int)(n:Nat):Nat:=(if c<0 then -(c+1) else c).toNat%n
theorem Xo(c:Int){n:Nat}(a:0<n):zG c n<n:=Jd _ a
theorem ZJ(c:Int)(n:Nat)(w:World)(l:-9223372036854775808<=c)(o:c<=9223372036854775807)(k:0<n)(p:n<=140737488355328) :
 Calls Tryz.prog 21 #[.int .i64 c,.int .i64 n] w fun e j=>e=.returned (.int .i64 (zG c n))/\j=w:=by
 by_cases d:c<0
 .obtain⟨m,hm⟩:=Ms (a:=-(c+1)) (by omega)
  have b:Hid (zG c n=m%n):=by simp[Hid,zG,d,hm]
  have h:(m:Int).tmod (n:Int)=((m%n:Nat):Int):=KW ..;have i:((n:Int)==0)=false:=by rw[Ml];omega
  have f:(m:Int)<=9223372036854775807:=by omega
  have g:((m%n:Nat):Int)<=9223372036854775807:=by have:=Nat.mod_le m n;omega
  obtain rfl:c=-(m:Int)-1:=by omega
  clear hm;go_enter Tryz.func21,Tryz.ntmps21
  go_wp2
  go_ret;rw[b.out];exact⟨rfl,rfl⟩
 .obtain⟨m,rfl⟩:=Ms (a:=c) (by omega)
  have b:Hid (zG m n=m%n):=by simp only[Hid,zG];rw[NU d];rfl
  have h:(m:Int).tmod (n:Int)=((m%n:Nat):Int):=KW ..;have i:((n:Int)==0)=false:=by rw[Ml];omega
  go_enter Tryz.func21,Tryz.ntmps21
  go_wp2
  go_ret;rw[b.out];exact⟨rfl,rfl⟩
theorem Wr(n s y:Int)(w:World)(i:-9223372036854775808<=n/\n<=9223372036854775807)(k:-9223372036854775808<=s/\s<=9223372036854775807)(l:-9223372036854775808<=y/\y<=9223372036854775807) :
 Calls Tryz.prog 127 #[.int .i64 n,.int .i64 s,.int .i64 y] w fun e g=>e=.returned (.agg #[.int .i64 (zG n 4),.int .i64 (1000+zG s 2000:Nat),.int .i64 (zG y 5)])/\Fr Nil w g:=by
 have m:Hid (∀ d,Calls Tryz.prog 21 #[.int .i64 n,.int .i64 4] d fun e g=>e=.returned (.int .i64 (zG n 4))/\g=d):=fun d=>ZJ n 4 d i.1 i.2 (by decide) (by decide);have o:Hid (∀ d,Calls Tryz.prog 21 #[.int .i64 s,.int .i64 2000] d fun e g=>e=.returned (.int .i64 (zG s 2000))/\g=d):=fun d=>ZJ s 2000 d k.1 k.2 (by decide) (by decide);have q:Hid (∀ d,Calls Tryz.prog 21 #[.int .i64 y,.int .i64 5] d fun e g=>e=.returned (.int .i64 (zG y 5))/\g=d):=fun d=>ZJ y 5 d l.1 l.2 (by decide) (by decide);have x:=Xo s (n:=2000) (by decide);clear i k l;generalize zG n 4=a at m |-;generalize zG s 2000=b at o x |-;generalize zG y 5=c at q |-;go_enter Tryz.func127,Tryz.ntmps127;have f:=Blk.new w [.int .i64 0,.int .i64 0,.int .i64 0] 102;have r:Fr Nil w (w.alloc (.cells #[.int .i64 0,.int .i64 0,.int .i64 0] 102)):=(O _ _).alloc _;have z:=f.cell;have A:=f.frozen;have t:=Z f;have u:=Z r;clear f r;go_wp2_with fail;refine(m.out _).mono ?_;rintro e d ⟨rfl,h⟩;subst d;go_wp2_with fail;refine(o.out _).mono ?_;rintro e d ⟨rfl,h⟩;subst d;have B:IntKind.i64.wrap (1000+(b:Int))=((1000+b:Nat):Int):=by rw[Me];push_cast;omega
 go_wp2_with fail;refine(q.out _).mono ?_;rintro e d ⟨rfl,h⟩;subst d;go_wp2_with fail;have j:=Blk.new w [.int .i64 (a:Nat),.int .i64 (1000+(b:Int)),.int .i64 (c:Nat)] 102;refine KJ (results_cell_row rfl _ _ w.heap.size _ _ _ _ rfl j Tryz.underlying102 rfl (by kernel_rfl)) rfl ⟨by push_cast;rfl,(O _ _).alloc _⟩
theorem Yu(n:Nat)(h:n<9223372036854775808)(w:World)(a:Tab w) :
 Calls Tryz.prog 29 #[.int .i64 n] w fun e d=>e=.returned (.string (zu n))/\Fr Nil w d:=by
 have b:=Z (VF n h w a);clear a;go_enter Tryz.func29,Tryz.ntmps29;go_wp2_with fail;refine b.out.mono ?_;rintro e f ⟨rfl,c⟩
 go_wp2
 go_ret;exact⟨rfl,c⟩
def Y1(l:List Ver)(a:ByteArray):Bool:=match l with
 | [v]=>decide (v.value=a)&&!v.gone
 | _=>false
theorem R0(L:NL)(N:NM)(M:DM)(c a:ByteArray)(w:World)(h:NRep w L N M)(o:zL c=true)(r:N.S.keys.length<1099511627776)(b:(zq N.S.keys c).length<=1000000) :
 Calls Tryz.prog 34 #[.pointer (some ⟨L.nb,0,none⟩),.string c,.string a] w fun e y=>e=.returned (.bool (Y1 (zq N.S.keys c) a))/\Fr Nil w y:=by
 have f:=Z (Uv L N M c w h r b);rw[o] at f;simp only[MK] at f;clear h r o;generalize zq N.S.keys c=l at f b |-;rcases l with _|⟨v,_|⟨u,l⟩⟩
 .go_enter Tryz.func34,Tryz.ntmps34
  go_wp2_with fail;refine f.out.mono ?_;rintro e p ⟨s,rfl,d,i,-⟩;clear b;obtain⟨t,k,rfl⟩:=zd d;clear d f
  go_wp2
  go_ret;exact⟨rfl,i⟩
 .have HP:Hid (Y1 [v] a=(decide (v.value=a)&&!v.gone)):=rfl
  go_enter Tryz.func34,Tryz.ntmps34;go_wp2_with fail;refine f.out.mono ?_;rintro e p ⟨s,rfl,d,i,-⟩;clear b;obtain⟨g,k,rfl,_,_⟩:=zr d (by simp);have x:p.cell? ⟨g,6,none⟩=some (.string v.value):=own_cell? d 6 _ rfl;have z:p.cell? ⟨g,7,none⟩=some (.bool v.gone):=own_cell? d 7 _ rfl;clear d f;simp only[NK];by_cases j:v.value=a
  .rw[j] at x
   rw[Iw j] at HP;clear j
   go_wp2
   go_ret;rw[HP.out];exact⟨by simp,i⟩
  .rw[Jp j] at HP
   have A:¬v.value.toList=a.toList:=fun e=>j (YW e);clear j
   go_wp2
   go_ret;rw[HP.out];exact⟨by simp,i⟩
 .have HP:Hid (Y1 (v::u::l) a=false):=rfl
  go_enter Tryz.func34,Tryz.ntmps34;go_wp2_with fail;refine f.out.mono ?_;rintro e p ⟨s,rfl,d,i,-⟩;clear b;obtain⟨t,k,rfl⟩:=zd d;have q:(((v::u::l).length:Int)==1)=false:=by rw[Ml];simp;omega
  clear d f;generalize (v::u::l).length=m at q |-
  go_wp2
  go_ret;rw[HP.out];exact⟨rfl,i⟩
theorem Tc(L:NL)(N:NM)(M:DM)(b:ByteArray)(w:World)(h:NRep w L N M)(d:zL b=true)(k:N.S.keys.length<1099511627776)(a:(zq N.S.keys b).length<=1000000) :
 Calls Tryz.prog 35 #[.pointer (some ⟨L.nb,0,none⟩),.string b] w fun e q=>e=.returned (.bool (decide (zq N.S.keys b=[])))/\Fr Nil w q:=by
 have c:=Z (Uv L N M b w h k a);rw[d] at c;simp only[MK] at c;clear h k d;generalize zq N.S.keys b=l at c a |-;rcases l with _|⟨v,l⟩
 .go_enter Tryz.func35,Tryz.ntmps35
  go_wp2_with fail;refine c.out.mono ?_;rintro e r ⟨p,rfl,f,i,-⟩;clear a;obtain⟨o,g,rfl⟩:=zd f;clear f c
  go_wp2
  go_ret;exact⟨by simp,i⟩
 .have HP:Hid (decide ((v::l)=[])=false):=by simp[Hid]
  go_enter Tryz.func35,Tryz.ntmps35;go_wp2_with fail;refine c.out.mono ?_;rintro e r ⟨p,rfl,f,i,-⟩;clear a;obtain⟨o,g,rfl⟩:=zd f;have j:(((v::l).length:Int)==0)=false:=by rw[Ml];simp;omega
  clear f c;generalize (v::l).length=m at j |-
  go_wp2
  go_ret;rw[HP.out];exact⟨rfl,i⟩
def zA(d:Nat)(e:Value)(b a:Int)(c:Value):List Value:=[.pointer (some ⟨d,0,none⟩),e,.int .i64 b,.int .i64 a,c]
def R1:ByteArray:={data:=#[107]}
theorem XF{n m:Nat}(h:n<m):zG (n:Int) m=n:=by
 unfold zG;rw[NU (by omega),JG,JP h]
theorem OL(D:zU)(B sb db n:Nat)(nv:Value)(C:Int)(a2:Value)(LD:DL)(M:DM)(ss:List Seg)(p t:Nat)(w:World)(h:Blk w sb (zA db nv n C a2) 58)(d0:n<4)(hd:DRep w db LD M)(a1:ZM B w)(hB:B<=w.heap.size)(hl:Lg M ss p t)(hs:Sane (Z4 ss) t)(ht:t<=900000) :
 Calls Tryz.prog 126 #[.pointer (some ⟨sb,0,none⟩)] w fun e w'=>e=.returned (.tuple #[])/\Fr Nil w w':=by
 have a4:∀ j,Fr Nil w j->∀ k,j.cell? ⟨sb,k,none⟩=(zA db nv n C a2)[k]?:=fun j f=>(h.fr f id).cell;have b3:=Z a4;have c2:=a4 w (O _ _);simp only[zA] at c2;have X:=Z a1;have x:=Z (PR hd hl (by omega));have HR:=Z (And.intro hl hs);have r:=Z hB;clear h hd a4 a1 hB hl hs;go_enter Tryz.func126,Tryz.ntmps126;go_wp2_with fail;refine x.out.mono ?_;rintro e w1 ⟨K,L1,ps,rfl,Q,d1⟩;have a8:Lg (((M.Hv ps).Hj 0).Hf 0 0) ss p t:=((HR.out.1.Hv d1).Hj 0).Hf 0 0 (by decide) (by decide);generalize M.Hv ps=M1 at Q a8;have I:∀ k,Foot K L1 M1 k->w.heap.size<=k:=Q.new;have c1:w.heap.size<=K:=I K .IJ;have HO:=Z Q;have V:=Z I;have b0:=Z c1;have s:=Z a8;clear Q I c1 c2 x a8 d1;go_wp2_with fail;refine(Wu 0 w1 K L1 M1 HO.out.Hd).mono ?_;rintro e w2 ⟨rfl,c4,c5⟩;have d7:=Z (HO.out.fr.trans' (S':=fun k=>k=K) c5 (fun i hi e=>by have:=b0.out;omega));have b4:=Z c4;clear c4 c5;go_wp2_with fail;refine(Vq 0 0 w2 K L1 (M1.Hj 0) b4.out).mono ?_;rintro e w3 ⟨rfl,a5,c6⟩;have y:=Z (d7.out.trans' (S':=fun k=>k=K) c6 (fun i hi e=>by have:=b0.out;omega));have m:∀ k,Foot K L1 ((M1.Hj 0).Hf 0 0) k->w.heap.size<=k:=V.out;generalize (M1.Hj 0).Hf 0 0=L at a5 m s;have d4:=Z a5;have a3:=Z m;have c3:=b3.out w3 y.out;simp only[zA] at c3;clear a5 c6 m HO b4 V;have b2:Hid (∀ j,Calls Tryz.prog 127 #[.int .i64 n,.int .i64 0,.int .i64 0] j fun e w'=>e=.returned (.agg #[.int .i64 n,.int .i64 1000,.int .i64 0])/\Fr Nil j w'):=fun j=>by
  have h0:=Wr n 0 0 j ⟨by omega,by omega⟩ ⟨by decide,by decide⟩ ⟨by decide,by decide⟩;rw[XF d0] at h0;exact h0
 have a0:Zz n 1000 0=true:=by
  unfold Zz zN;simp only[Ld,Mk];omega
 have b9:Hid _:=Z (fun j (f:Fr Nil w3 j)=>UI B K L1 L n 1000 0 ss a0 j (d4.out.nil f) s.out.Hl s.out.ok (s.out.short (by omega)) (s.out.FN (by omega)) (X.out.fr r.out (y.out.trans f) (fun _ e=>absurd e id)) (NG r.out (y.out.trans f).size) (fun k N=>NG r.out (a3.out k N)));have d3:Hid (∀ j,Fr Nil w j->j.cell? ⟨sb,2,none⟩=some (.int .i64 n)):=fun j f=>by rw[b3.out j f];rfl
 clear a0;go_wp2_with fail;refine(b2.out _).mono ?_;rintro e wc ⟨rfl,fc⟩;have FC:=Z fc;go_wp2_with fail;refine(b9.out _ FC.out).mono ?_;rintro e w4 ⟨X4,rfl,a9,e1,E,_,c7⟩;have F4:=(y.out.trans FC.out).trans' (S':=Foot K L1 L) c7 (fun i hi e=>by have:=a3.out i e;omega);have b:∀ k,NFoot X4 L k->w.heap.size<=k:=fun k N=>(E k N).elim (a3.out k) (fun e=>NG (y.out.trans FC.out).size e);have a6:Y2 B X4 L w4:=⟨(X.out.fr r.out F4 (fun _ e=>absurd e id)).1,NG r.out F4.size,fun k N=>NG r.out (b k N)⟩;have F:∀ g∈L.ids,g<w4.heap.size:=fun g hg=>(a9.Hm.files g hg).lt;have J:=QX (H0:=w4.heap.size) s.out HR.out.2 (by omega) n d0 1000 0 F R1 Yk (by decide) (by decide);have z:=Z (Uw D B X4 (NM.opened n 1000 0 ss) L R1 Yk w4 a9 a6 (fun u hu=>((HR.out.2.held.get R1).2.2 u hu).node) (fun _ _ _=>J.1 _ (NH _)));have c0:=Z J.2;have b5:=Z F4;have d5:=Z a6;have R:=Z b;clear c3 a9 e1 E c7 F4 b a6 F J;unfold R1 Yk at z;go_wp2_with fail;refine z.out.mono ?_;rintro e w5 ⟨f,g,X5,rfl,c8,c9,Y,c⟩;have a:=c0.out f g c8 c9 Y;unfold R1 Yk at a;generalize ((NM.opened n 1000 0 ss).put L {data:=#[107]} {data:=#[97,32,116,114,105,97,108]} f g).2.2.1=N5 at c a;generalize ((NM.opened n 1000 0 ss).put L {data:=#[107]} {data:=#[97,32,116,114,105,97,108]} f g).2.2.2=M5 at c a;have F5:=b5.out.trans' (S':=NFoot X4 L) c.fr (fun i hi e=>by have:=R.out i e;omega);have o:∀ k,NFoot X5 M5 k->w.heap.size<=k:=fun k N=>(c.Hn k N).elim (R.out k) (fun e=>NG b5.out.size e);have a7:Y2 B X5 M5 w5:=d5.out.step c;have G:=c.same.nb;have l:=Z (VI D B X5 N5 M5 (((n:Int)+1)%4) Yk w5 c.Hd a7 (fun h1 h2 h3=>a _ _ _ (fun g hg=>(c.Hd.Hm.files g hg).lt) h1 h2 h3));unfold Yk at l;rw[G] at l;have e0:=d3.out w5 F5;have e3:IntKind.i64.wrap ((n:Int)+1)=(n:Int)+1:=by rw[Me];omega
 have b6:=Z F5;have d6:=Z a7;have T:=Z o;have b8:=Z G;clear c a F5 o a7 c0 z b9 c8 c9 Y G;go_wp2_with fail;refine l.out.mono ?_;rintro e w6 ⟨f6,X6,rfl,e2,d⟩;generalize (N5.hint M5 _ _ f6).2.1=N6 at d;generalize (N5.hint M5 _ _ f6).2.2=M6 at d;have F6:=b6.out.trans' (S':=NFoot X5 M5) d.fr (fun i hi e=>by have:=T.out i e;omega);have q:∀ k,NFoot X6 M6 k->w.heap.size<=k:=fun k N=>(d.Hn k N).elim (T.out k) (fun e=>NG b6.out.size e);have A:=Z (XL D B X6 N6 M6 w6 d.Hd (d6.out.step d));rw[d.same.nb,b8.out] at A;have d8:=Z F6;have b7:=Z q;clear d F6 q e0;go_wp2_with fail;refine A.out.mono ?_;rintro e w7 ⟨X7,rfl,d2⟩;have d9:=Z (d8.out.trans' (S':=NFoot X6 M6) d2.fr (fun i hi e=>by have:=b7.out i e;omega));clear d2;go_wp2_with fail;exact Le (v:=.tuple #[]) (by simp[results,go_sem]) rfl ⟨rfl,d9.out⟩
theorem NI.sh{W:WM}{N:NM}{M:DM}{F:List Fact}{p t:Nat}(h:NI W N M F p t):Sh W M F p t:=by
 obtain⟨c,b,a,_⟩:=h.kp.lg;exact⟨⟨c,b,a⟩,h.cm,h.room,.inl ⟨h.GS,.inl h.Gj⟩⟩
theorem Cm.Hs{W:WM}{t:Nat}(h:Cm W t)(b:Bool):Cm {W with Hs:=b} t :=
 ⟨h.Gv,h.calls,h.ww,h.len,h.ne,h.next,h.base,h.FB,h.FL,h.FF,h.FE,h.FP,h.FJ,h.Hq⟩
theorem Sh.Ht{W:WM}{M:DM}{F:List Fact}{p t:Nat}(h:Sh W M F p t)(g:Int)(e:List Int):∃ B K,Sh {W with Hs:=true} (M.Ht g e) B K t:=by
 obtain⟨L,I,E⟩:=h.lg;obtain⟨d,z,c,f⟩:=I.Ht g e;rw[E] at c;refine⟨zc d,(zc d).length,⟨d,z,rfl⟩,h.cm.Hs true,h.room,?_⟩;rcases h.all with⟨C,k⟩|⟨_,st,m,n,o,r,x,s,y,J,l,A,i⟩
 .exact .inl ⟨C.cut c f,.inr ⟨.inl rfl,k.elim (fun k=>k.cut c f) (fun k=>k.2.cut c f)⟩⟩
 .by_cases hlen:(zc d).length=F.length
  .have he:zc d=F:=c.eq_of_length hlen
   rw[he] at f |-;refine .inr ⟨.inl rfl,st,m,n,o,r,x,s,fun h=>?_,J,l,fun q a b=>A q (NG f a) b,fun q a b=>i q (NG f a) b⟩;rw[s,NF,NK] at h;omega
  .have hl3:(zc d).length<=r.length:=by
    have u:=c.length_le;rw[s,NF,NK] at u hlen;omega
   have j:zc d<+:r:=by
    have u:r<+:F:=by rw[s];exact Ka _ _
    exact Km c u hl3
   have G:=(y (NG f hl3)).cut j f;refine .inl ⟨fun q a b=>?_,.inr ⟨.inl rfl,?_⟩⟩
   .have h5:=A q (NG f a) (NG b c.length_le)
    have D:=i q (NG f a) (NG b hl3);rw[Wk c b];exact⟨h5.1,NG (Ig l) h5.2.1,h5.2.2.1,D⟩
   .show Hist W.st _ _ _
    rw[o];exact G.maybe m
theorem Sh.Hv{W:WM}{M:DM}{F:List Fact}{p t:Nat}(h:Sh W M F p t){a:List (Nat × Nat)}(d:Pairs M a):Sh W (M.Hv a) F p t:=by
 obtain⟨e,c,b⟩:=h.lg;exact⟨⟨e,c.Hv d,b⟩,h.cm,h.room,h.all⟩
theorem Z6.called{d:Int}{c e:Nat}{F:List Fact}{p:Nat}(h:Z6 d c e F p):Z6 d (c+1) e F p:=fun q a b=>(h q a b).mono (Ly _) (NH _) (h q a b).2.1
theorem Sh.found{W:WM}{M:DM}{p t:Nat}{f:List Seg}(h:Sh W M (zc f) p t)(hl:Lg M f p t)(l:M.dead=false)(j b a:Nat)(a6:W.node=(j:Int))(a5:j<4)(s:WM)(hW:s={W with calls:=W.calls+1,broken:=false,every:=a,writes:=0}) :
 ∃ i m I z,s.st[i]?=some m/\Y7 s (NM.opened j b a f) m=(I,some z)/\(∀ k m,i<k->s.st[k]?=some m->Y7 s (NM.opened j b a f) m=(s.most,none))/\(s.Hs=true\/i+1=s.st.length) /\
  NI {s with most:=I,st:=s.st.take i++[z],Hs:=false} (NM.opened j b a f) M (zc f) p (t+10):=by
 subst hW;have g:=hl.GA;have L:Kp (NM.opened j b a f) M (zc f) p (t+10) ((NM.opened j b a f).readOnly=false):=(hl.opened j b a _).mono id (by omega);have c:(NM.opened j b a f).S=atF (zc f) (zc f).length:=L.held;have S:(NM.opened j b a f).readOnly=false:=rfl;have mk:∀ (i I:Nat) (z:LM),i<W.st.length->MOk W.node z (t+10)->Hist (W.st.take i++[z]) (zc f) p True->Z6 W.node (W.calls+1) I (zc f) p ->
  NI {W with calls:=W.calls+1,broken:=false,every:=a,writes:=0,most:=I,st:=W.st.take i++[z],Hs:=false} (NM.opened j b a f) M (zc f) p (t+10):=fun i I z hi A hh V=>by
  have y:=h.cm.more (u:=t+10) (by omega);have h1:=h.cm.calls;have E:=h.cm.len;have o:=V _ g (NH _);rw[<- c] at o;exact {
   kp:=L
   cm:=⟨fun m q=>by
    rcases NW.1 q with e|e
    .exact y.Gv m (Lj e)
    .rw[NP] at e;subst e;exact A,(by show W.calls+1<=_;omega),NV _,(by show(W.st.take i++[z]).length<=_;rw[NF,NJ,NK];omega),(by show 0<(W.st.take i++[z]).length;simp),y.next,y.base,y.FB,y.FL,y.FF,y.FE,y.FP,y.FJ,y.Hq⟩
   room:=h.room
   Gj:=hh
   GS:=V
   ro:=rfl
   self:=a6
   nd:=a5
   most:=o.2.1
   given:=NH _
   Ft:=fun _ C=>absurd C (Iz _)
   every:=rfl
   wr:=fun _ _=>by show 0=0%_;rw[Nat.zero_mod]
   nw:=NV _
   dead:=l}
 rcases h.all with⟨h1,E⟩|⟨hd,st,m,n,o,F0,x,Y,a1,X,C,V,a7⟩
 .have h1':=h1.called
  have d:=h1' _ g (NH _);rw[<- c] at d;obtain⟨T,hh,hT⟩:∃ T:Prop,Hist W.st (zc f) p T/\(T\/W.Hs=true):=by
   rcases E with E|⟨hd,E⟩
   .exact⟨True,E,.inl trivial⟩
   .exact⟨False,E,.inr (hd.resolve_right (by rw[l];decide))⟩
  obtain⟨i,m,A,hr,Q,a0,B⟩:=hh.found g;rw[<- c] at hr Q;have a3:=(NQ.1 A).1;exact⟨i,m,W.most,m,A,PU (W:={W with calls:=W.calls+1,broken:=false,every:=a,writes:=0}) d.1 S hr,fun k m2 hk q=>OI (W:={W with calls:=W.calls+1,broken:=false,every:=a,writes:=0}) d.1 d.2.2.2 (h.cm.Gv m2 (LK q)).zero (fun e=>Q k m2 hk q e.2),hT.elim (fun x=>.inr (B x)) .inl,
   mk i W.most m a3 ((h.cm.Gv m (LK A)).more (by omega)) a0 h1'⟩
 .have hfell:W.Hs=true:=hd.resolve_right (by rw[l];decide)
  have J:=V.called;have d:=J _ g (NH _);rw[<- c] at d X;have A:W.st[st.length]?=some m:=by rw[o];simp
  have N:(NM.opened j b a f).S.keys.length=m.keys.length:=by
   obtain⟨K,D,v,k1,k2,k3,k4,k5,k6,k7,k8⟩:=X;rw[k6,k7,Zy D _ k1,Zy D _ k1];simp only[Ji,MG,Zk,NF,NK]
  have a2:m.hints=(NM.opened j b a f).S.hints:=by obtain⟨K,D,v,k1,k2,k3,k4,k5,k6,k7,k8⟩:=X;exact k8
  have r:=h.cm.Gv m (LK A);have a4:MOk W.node {m with keys:=(NM.opened j b a f).S.keys} (t+10):=⟨d.1.Gm,by show(NM.opened j b a f).S.keys.length<=_;rw[N];have:=r.keys;omega,fun e he=>by have:=(d.1.key e he).2.1;omega,r.hints,d.1.given.zero,r.node⟩;have R:=Hist.push (F:=F0) (G:=[x]) (by simp) (fun hp=>a1 hp) (by rw[<- Y];exact g) {m with keys:=(NM.opened j b a f).S.keys} (by rw[<- Y,<- c];exact⟨rfl,a2⟩);rw[<- Y] at R;refine⟨st.length,m,n,_,A,RS (W:={W with calls:=W.calls+1,broken:=false,every:=a,writes:=0}) X C (by have:=d.2.1;have:=d.2.2.1;show n<=16*(W.calls+1);omega) S,fun k m2 hk q=>?_,.inl hfell,mk st.length n _ (by rw[o];simp) a4 ?_ J⟩
  .have:=(NQ.1 q).1
   have e:({W with calls:=W.calls+1,broken:=false,every:=a,writes:=0}:WM).st.length=st.length+1:=by show W.st.length=_;rw[o];simp
   omega
  .rw[o,Jz]
   exact R
structure StC(w:World)(sb db:Nat)(nv:Value)(n calls:Nat)(nums:Value)(LD:DL)(M:DM):Prop where
 IJ:Blk w sb (zA db nv n calls nums) 58
 Hm:DRep w db LD M
structure StO(w:World)(sb n calls:Nat)(nums:Value)(X:NL)(N:NM)(M:DM):Prop where
 IJ:Blk w sb (zA X.db (.pointer (some ⟨X.nb,0,none⟩)) n calls nums) 58
 node:NRep w X N M
theorem Nh:¬DTy 58:=by unfold DTy;decide
theorem StC.sep{w:World}{e d:Nat}{f:Value}{n a:Nat}{b:Value}{c:DL}{M:DM}(h:StC w e d f n a b c M):¬Foot d c M e:=h.Hm.apart h.IJ.ty Nh
structure Opd(W:WM)(M:DM)(syn:Nat)(N:NM)(M':DM)(W':WM):Prop where
 refused:M'.refused=M.refused
 IR:M'.IR=M.IR
 calls:M'.calls=M.calls
 room:M'.room=M.room
 cut:M'.cut=M.cut\/M'.cut=0
 fail:M'.fail=M.fail\/M'.fail=0
 found:∃ (Hs:Bool) (i mo:Nat) (m m':LM),(M.dead=false->Hs=W.Hs)/\W.st[i]?=some m/\(Hs=true\/i+1=W.st.length) /\
  Y7 {W with Hs:=Hs,calls:=W.calls+1,broken:=false,every:=syn,writes:=0} N m=(mo,some m') /\
  W'={W with calls:=W.calls+1,broken:=false,every:=syn,writes:=0,most:=mo,st:=W.st.take i++[m'],Hs:=false}
structure Rst(W:WM)(M:DM)(t:Nat)(Hs:Bool)(M1:DM)(ss:List Seg)(p:Nat):Prop where
 sh:Sh {W with Hs:=Hs} M1 (zc ss) p t
 lg:Lg M1 ss p t
 dead:M1.dead=false
 same:M.dead=false->Hs=W.Hs
 refused:M1.refused=M.refused
 IR:M1.IR=M.IR
 calls:M1.calls=M.calls
 room:M1.room=M.room
 cut:M1.cut=M.cut\/M1.cut=0
 fail:M1.fail=M.fail\/M1.fail=0
theorem Sh.Fc{W:WM}{M:DM}{F:List Fact}{p t:Nat}(h:Sh W M F p t):∃ a,Lg M a p t/\Sh W M (zc a) p t:=by
 obtain⟨a,c,b⟩:=h.lg;exact⟨a,c,by rw[b];exact h⟩
theorem Sh.Fl{W:WM}{M:DM}{a:List Seg}{p t:Nat}(h:Sh W M (zc a) p t):Sane (Z4 a) t:=by
 have:=h.FX.2;unfold atF at this;rw[Mt] at this;exact this
theorem Rst.Ht{W:WM}{M:DM}{F:List Fact}{p t:Nat}(h:Sh W M F p t)(g:M.dead=true)(b:Int)(a:List Int):∃ d c,Rst W M t true (M.Ht b a) d c:=by
 obtain⟨k,c,f⟩:=h.Ht b a;obtain⟨d,i,j⟩:=f.Fc;exact⟨d,c,j,i,rfl,(fun e=>by rw[g] at e;cases e),rfl,rfl,rfl,rfl,.inr rfl,.inr rfl⟩
theorem Rst.stay{W:WM}{M:DM}{F:List Fact}{p t:Nat}(h:Sh W M F p t)(b:M.dead=false):∃ a e,Rst W M t W.Hs M a e:=by
 obtain⟨a,c,d⟩:=h.Fc;exact⟨a,p,d,c,b,fun _=>rfl,rfl,rfl,rfl,rfl,.inl rfl,.inl rfl⟩
theorem Rst.Hv{W:WM}{M:DM}{t:Nat}{a:Bool}{b:DM}{e:List Seg}{p:Nat}(h:Rst W M t a b e p){d:List (Nat × Nat)}(c:Pairs b d):Rst W M t a (b.Hv d) e p :=
 ⟨h.sh.Hv c,h.lg.Hv c,h.dead,h.same,h.refused,h.IR,h.calls,h.room,h.cut,h.fail⟩
theorem Rst.opd{W:WM}{M:DM}{t:Nat}{b:Bool}{f:DM}{e:List Seg}{p:Nat}(h:Rst W M t b f e p)(d c a:Nat)(k:W.node=(d:Int))(j:d<4) :
 ∃ o,NI o (NM.opened d c a e) f (zc e) p (t+10)/\Opd W M a (NM.opened d c a e) f o:=by
 obtain⟨i,m,u,s,r,q,_,g,l⟩:=Sh.found h.sh h.lg h.dead d c a k j _ rfl;exact⟨_,l,h.refused,h.IR,h.calls,h.room,h.cut,h.fail,b,i,u,m,s,h.same,r,g,q,rfl⟩
structure UpK(sb db:Nat)(nv:Value)(n calls:Nat)(nums:Value)(W:WM)(LD:DL)(M:DM)(t:Nat)(w:World)(Hs:Bool)(LD1:DL)(M1:DM)(ss:List Seg)(p:Nat)(w1:World):Prop where
 st:StC w1 sb db nv n calls nums LD1 M1
 FQ:Rst W M t Hs M1 ss p
 fr:Fr (Foot db LD M) w w1
 Hn:∀ k,Foot db LD1 M1 k->Foot db LD M k\/w.heap.size<=k
theorem PW(g7:zU)(B c y n a:Nat)(nv b:Value)(W:WM)(I:DL)(M:DM)(g m:Int)(t:Nat)(w:World)(h:StC w c y nv n a b I M)(d3:ZM B w)(hB:B<=w.heap.size)(h6:B<=c)(c8:∀ k,Foot y I M k->B<=k)
 (hr:∃ F p,Sh W M F p t)(ht:t<=890000)(e2:W.node=(n:Int))(e1:n<4)(i0:a<=10000000)(Q:-9223372036854775808<=g/\g<=9223372036854775807)(d2:-9223372036854775808<=m/\m<=9223372036854775807) :
 Calls Tryz.prog 76 #[.pointer (some ⟨c,0,none⟩),.int .i64 g,.int .i64 m] w fun e w'=>e=.returned (.bool true) /\
  ∃ X N M' W',StO w' c n (a+1) b X N M'/\(∃ F p,NI W' N M' F p (t+10))/\Opd W M (zG m 5) N M' W'/\(∀ k,NFoot X M' k->w.heap.size<=k)/\(∀ k,SRead X.LS k->w.heap.size<=k)/\Fr (fun k=>k=c\/Foot y I M k) w w':=by
 obtain⟨F0,p0,d0⟩:=hr;obtain⟨j5,h0,h8⟩:=d0.Fc;have b8:=h0.bd;have d9:∀ k,w.cell? ⟨c,k,none⟩=(zA y nv n a b)[k]?:=h.IJ.cell;simp only[zA] at d9;have q:=Z (XT w y I M h.Hm);have a4:Hid (∀ o tv,Fr Nil w o->ZD o tv [m,g]->(∀ k,tv.ownBlock=some k->w.heap.size<=k)->Calls Tryz.prog 33 #[.pointer (some ⟨y,0,none⟩),.int .i64 g,tv] o fun e w'=>e=.returned (.tuple #[])/\∃ L',DStep y I M o L' (M.Ht g [m,g]) w'):=fun o tv f i8 D =>
  V9 g [m,g] tv o y I M (h.Hm.nil f) Q.1 Q.2 i8 (fun k _ e z=>by have h1:=D k e;have h2:=h.Hm.lt z;omega) (fun x hx=>by simp only[Mj,LH,JA] at hx;rcases hx with rfl|rfl;exact d2;exact Q) (fun f hf=>by have:=b8.file hf;omega) (by have:=b8.IM;omega) (fun d i7=>by have:=b8.Hq d i7;omega)
 have HH:=Z h;have f5:=Z d3;have e6:=Z hB;have e8:=Z c8;have i4:=Z h6;have f3:=Z h8;clear h d3 hB c8 h6 b8 h0 h8 d0;go_enter Tryz.func76,Tryz.ntmps76;cases hdd:M.dead
 case' false =>
  rw[hdd] at q
  go_wp2_with (refine q.out.mono ?_;rintro e o ⟨rfl,e4⟩;subst o)
  obtain⟨s,p1,E⟩:=Rst.stay f3.out hdd;have b4:UpK c y nv n a b W I M t w W.Hs I M s p1 w:=⟨HH.out,E,O _ _,fun _ e=>.inl e⟩;clear E d9 q a4 hdd;obtain⟨C,Y,M1,R,h9,G⟩:∃ C Y M1 R,R=w/\UpK c y nv n a b W I M t w C Y M1 s p1 R:=⟨_,_,_,_,rfl,b4⟩;have l:=Z G;clear b4 G;rw[<- h9];clear h9
 case' true =>
  rw[hdd] at q;have g0:=Blk.new w [.int .i64 m,.int .i64 g] 3;have f0:Fr Nil w (w.alloc (.cells #[.int .i64 m,.int .i64 g] 3)):=(O _ _).alloc _;have HC:=Z (a4.out _ (.slice (some ⟨w.heap.size,0,none⟩) 2 2) f0 (.inr ⟨w.heap.size,0,2,rfl,by simp,(by show 2<=maxLen;decide),fun j hj=>by rw[Mv,g0.cell];exact(match j,hj with|0,_=>rfl|1,_=>rfl|(j+2),hj=>absurd hj (by simp))⟩) (fun k e=>by simp only[Value.ownBlock,KE] at e;omega));have d5:=Z f0;clear g0 f0
  go_wp2_with (refine q.out.mono ?_;rintro e o ⟨rfl,e4⟩;subst o)
  refine HC.out.mono ?_;rintro e R ⟨rfl,Y,hs⟩;obtain⟨s,p1,E⟩:=Rst.Ht f3.out hdd g [m,g];have d7:Fr (Foot y I M) w R:=(d5.out.mono (S':=Foot y I M) (fun _ _ e=>absurd e id)).trans hs.fr;have b4:UpK c y nv n a b W I M t w true Y (M.Ht g [m,g]) s p1 R:=⟨⟨HH.out.IJ.fr d7 HH.out.sep,hs.Hd⟩,E,d7,fun k e=>(hs.Hn k e).imp id (fun e=>NG d5.out.size e)⟩;clear E d9 q a4 hdd hs d7 d5 HC;go_wp2_with fail;obtain⟨C,M1,G⟩:∃ C M1,UpK c y nv n a b W I M t w C Y M1 s p1 R:=⟨_,_,b4⟩;have l:=Z G;clear b4 G
 all_goals
  have a8:Hid (ZM B R):=f5.out.fr e6.out l.out.fr e8.out;have a2:Hid (B<=R.heap.size):=NG e6.out l.out.fr.size;refine(OL g7 B c y n nv a b Y M1 s p1 t R l.out.st.IJ e1 l.out.st.Hm a8.out a2.out l.out.FQ.lg l.out.FQ.sh.Fl (by omega)).mono ?_;rintro e w2 ⟨rfl,f2⟩;have g3:∀ k,w2.cell? ⟨c,k,none⟩=(zA y nv n a b)[k]?:=(l.out.st.IJ.fr f2 id).cell;simp only[zA] at g3;have d6:=Z f2;clear f2;go_wp2_with fail;refine(PR (l.out.st.Hm.nil d6.out) l.out.FQ.lg (by omega)).mono ?_;rintro e w3 ⟨r,L2,ps,rfl,b1,c9⟩;have J:=l.out.FQ.Hv c9;generalize M1.Hv ps=v at b1 J;have F3:=d6.out.trans b1.fr;have b7:=l.out.st.IJ.fr F3 id;have h3:c<R.heap.size:=l.out.st.IJ.lt;have D:∀ k,Foot r L2 v k->R.heap.size<=k:=fun k z=>NG d6.out.size (b1.new k z);have g1:∀ k,Foot r L2 v k->¬k=c:=fun k z e=>by subst e;have:=D _ z;omega
  have b9:Fr (fun k=>k=c) w3 (w3.setCell ⟨c,0,none⟩ (.pointer (some ⟨r,0,none⟩))):=Fr.set (S:=fun k=>k=c) (p:=⟨c,0,none⟩) (O _ _) (fun _=>rfl) _;have f6:=b1.Hd.fr b9 g1;have f9:=b7.set 0 (.pointer (some ⟨r,0,none⟩));have b6:Fr (fun k=>k=c) R _:=(F3.mono (S':=fun k=>k=c) (fun _ _ e=>absurd e id)).trans b9;have b3:ZM B _:=(a8.out.fr a2.out F3 (fun _ e=>absurd e id)).fr (NG a2.out F3.size) b9 (fun k e=>by subst e;exact i4.out);have g4:∀ k,w3.cell? ⟨c,k,none⟩=(zA y nv n a b)[k]?:=b7.cell;have i9:=b7.frozen;simp only[zA] at g4;have a6:=Z J;have u:=Z D;have a5:=Z h3;have a7:=Z f9;have T:=Z b6;have d4:=Z f6;have a9:=Z b3;clear g3 b1 c9 J F3 b7 f9 b9 h3 g1 f6 D b6 b3;go_wp2_with fail;generalize w3.setCell ⟨c,0,none⟩ (.pointer (some ⟨r,0,none⟩))=w4 at a7 T d4 a9 |-;have g5:∀ k,w4.cell? ⟨c,k,none⟩=(zA r nv n a b)[k]?:=a7.out.cell;simp only[zA] at g5;clear g4 i9;refine(Wn w4 r L2 v d4.out).mono ?_;rintro e o ⟨rfl,e4⟩;subst o;have e5:Hid (B<=w4.heap.size):=NG a2.out T.out.size;have a3:=Z (fun o=>Wr n g m o ⟨by omega,by omega⟩ Q d2);rw[XF e1] at a3;have c5:Zz n (1000+zG g 2000:Nat) (zG m 5)=true:=by
   have h1:=Xo g (n:=2000) (by decide);have h2:=Xo m (n:=5) (by decide);unfold Zz zN;simp only[Ld,Mk];omega
  have e9:=Z (fun o (f:Fr Nil w4 o)=>UI B r L2 v n (1000+zG g 2000) (zG m 5) s c5 o (d4.out.nil f) a6.out.lg.Hl a6.out.lg.ok (a6.out.lg.short (by omega)) (a6.out.lg.FN (by omega)) (a9.out.fr e5.out f (fun _ e=>absurd e id)) (NG e5.out f.size) (fun k z=>NG a2.out (u.out k z)));clear c5;obtain⟨sg,h7⟩:∃ sg:Nat,sg=1000+zG g 2000:=⟨_,rfl⟩;obtain⟨sy,e3⟩:∃ sy:Nat,sy=zG m 5:=⟨_,rfl⟩;rw[<- h7,<- e3] at a3 e9;have f4:=Z e3;clear h7 e3;have b5:Hid (∀ o,Fr (Foot r L2 v) w4 o->o.cell? ⟨c,0,none⟩=some (.pointer (some ⟨r,0,none⟩))/\o.cell? ⟨c,2,none⟩=some (.int .i64 (n:Nat))) :=
   fun o f=>⟨(a7.out.fr f (fun e=>by have:=u.out _ e;have:=a5.out;omega)).cell 0,(a7.out.fr f (fun e=>by have:=u.out _ e;have:=a5.out;omega)).cell 2⟩
  have i6:=b5.out w4 (O _ _);clear g5;go_wp2_with fail;have c0:Hid (∀ o,Fr Nil w4 o->o.cell? ⟨c,0,none⟩=some (.pointer (some ⟨r,0,none⟩))/\o.cell? ⟨c,2,none⟩=some (.int .i64 (n:Nat))):=fun o f=>b5.out o (f.mono (fun _ _ e=>absurd e id))
  go_region_held3 (fun o=>o.cell? ⟨c,0,none⟩=some (.pointer (some ⟨r,0,none⟩))/\o.cell? ⟨c,2,none⟩=some (.int .i64 (n:Nat))) (first|assumption|go_keep|exact c0.out _ z8|exact b5.out _ z8)
   (first
     | (go_at_call 49;refine(e9.out _ V.out).mono ?_;rintro e w9 ⟨X,rfl,h5,c6,L,d1,g8⟩;have d8:Fr (Foot r L2 v) w4 w9:=(V.out.mono (S':=Foot r L2 v) (fun _ _ e=>absurd e id)).trans g8;have j0:=b5.out w9 d8;have e7:=Z d8;have A:=Z (And.intro h5 (And.intro c6 (And.intro L d1)));clear h5 c6 L d1 g8 d8)
     | (go_at_call 127;refine(a3.out _).mono ?_;rintro e wc ⟨rfl,fc⟩;have V:Hid (Fr Nil w4 wc):=Fr.trans z8 fc;have j1:=c0.out wc V.out;clear fc))
  have a0:¬Foot r L2 v c:=fun e=>by have:=u.out _ e;have:=a5.out;omega
  have b0:=a7.out.fr e7.out a0;have f7:DRep w9 r X.LD v:=by have:=A.out.1.Hm;rw[A.out.2.1] at this;exact this
  have g6:∀ k,w9.cell? ⟨c,k,none⟩=(zA r nv n a b)[k]?:=b0.cell;have g9:=b0.frozen;simp only[zA] at g6;have c4:=(b0.set 3 (.int .i64 ((a:Int)+1))).set 1 (.pointer (some ⟨X.nb,0,none⟩));have c7:Fr (fun k=>k=c) w9 ((w9.setCell ⟨c,3,none⟩ (.int .i64 ((a:Int)+1))).setCell ⟨c,1,none⟩ (.pointer (some ⟨X.nb,0,none⟩))) :=
   Fr.set (S:=fun k=>k=c) (p:=⟨c,1,none⟩) (Fr.set (S:=fun k=>k=c) (p:=⟨c,3,none⟩) (O _ _) (fun _=>rfl) _) (fun _=>rfl) _
  have j4:IntKind.i64.wrap ((a:Int)+1)=(a:Int)+1:=by rw[Me];omega
  have c1:=Z c4;have K:=Z c7;have j2:=Z b0;have i1:=Z f7;clear i6 j1 j0 c4 c7 a0 b0 f7;go_wp2_with fail;generalize (w9.setCell ⟨c,3,none⟩ (.int .i64 ((a:Int)+1))).setCell ⟨c,1,none⟩ (.pointer (some ⟨X.nb,0,none⟩))=a1 at c1 K |-;clear g6 g9;have hS:Blk a1 c (zA r (.pointer (some ⟨X.nb,0,none⟩)) n ((a+1:Nat):Int) b) 58:=c1.out;have e0:∀ k,NFoot X v k->R.heap.size<=k:=fun k z=>(A.out.2.2.1 k z).elim (u.out k) (fun e=>NG (NG T.out.size V.out.size) e);have a0:∀ k,NFoot X v k->¬k=c:=fun k z e=>by have:=e0 k z;have:=a5.out;omega
  have h4:∀ k,SRead X.LS k->¬k=c:=fun k z e=>by have:=A.out.2.2.2 k z;have:=a5.out;have:=T.out.size;have:=V.out.size;omega
  have c3:=A.out.1.fr K.out a0 h4;have i5:Hid (StO a1 c n (a+1) b X (NM.opened n sg sy s) v):=⟨by rw[A.out.2.1];exact hS,c3⟩;have c2:DRep a1 r X.LD v:=i1.out.fr K.out (fun k z=>a0 k (.inr (.inr (.inr (by rw[A.out.2.1];exact z)))));have f1:Hid (∃ W',(∃ F p,NI W' (NM.opened n sg sy s) v F p (t+10))/\Opd W M (zG m 5) (NM.opened n sg sy s) v W'):=by
   obtain⟨W',h1,h2⟩:=a6.out.opd n sg sy e2 e1;rw[f4.out] at h2;exact⟨W',⟨_,_,h1⟩,by rw[f4.out];exact h2⟩
  have g2:∀ k,a1.cell? ⟨c,k,none⟩=(zA r (.pointer (some ⟨X.nb,0,none⟩)) n ((a+1:Nat):Int) b)[k]?:=hS.cell;simp only[zA] at g2;have i3:=Z (Wn a1 r X.LD v c2);have j3:decide (v.refused<v.refused)=false:=by simp
  have i2:=Z e0;clear hS a0 h4 c3 c2 e0
  go_wp2_with (refine i3.out.mono ?_;rintro e o ⟨rfl,e4⟩;subst o)
  go_ret;obtain⟨W',h1,h2⟩:=f1.out;have b6:Fr (fun k=>k=c\/Foot y I M k) w w4:=(l.out.fr.mono (fun _ _ e=>.inr e)).trans (T.out.mono (fun _ _ e=>.inl e));have f8:Fr (fun k=>k=c\/Foot y I M k) w a1:=(b6.trans' e7.out (fun i hi e=>by have:=u.out i e;have:=l.out.fr.size;omega)).trans (K.out.mono (fun _ _ e=>.inl e));exact⟨rfl,X,_,v,W',i5.out,h1,h2,fun k z=>NG l.out.fr.size (i2.out k z),fun k z=>NG l.out.fr.size (NG T.out.size (NG V.out.size (A.out.2.2.2 k z))),f8⟩
theorem NI.more{W:WM}{N:NM}{M:DM}{F:List Fact}{p t u:Nat}(h:NI W N M F p t)(a:t<=u):NI W N M F p u :=
 {h with kp:=h.kp.mono id a,cm:=h.cm.more a,nw:=NG h.nw a}
theorem Sh.more{W:WM}{M:DM}{F:List Fact}{p t u:Nat}(h:Sh W M F p t)(a:t<=u):Sh W M F p u:=by
 obtain⟨d,c,b⟩:=h.lg;exact⟨⟨d,c.more a,b⟩,h.cm.more a,h.room,h.all⟩
theorem NI.sync{W:WM}{N:NM}{M:DM}{F:List Fact}{p t:Nat}(h:NI W N M F p t)(S:t<=100000000)(g:N.readOnly=false) :
 ((N.IX M).1=0/\(N.IX M).2.2.refused=M.refused/\∃ l i,NI {W with st:=W.st.drop (W.st.length-1)} (N.IX M).2.1 (N.IX M).2.2 l i (t+2)) \/
   ((N.IX M).1=9/\(N.IX M).2.2.refused=M.refused+1/\(N.IX M).2.2.IR=M.IR/\∃ l i,Sh {W with broken:=true} (N.IX M).2.2 l i (t+2)/\((N.IX M).2.2.dead=false->NI {W with broken:=true} (N.IX M).2.1 (N.IX M).2.2 l i (t+2))):=by
 obtain⟨e,C,M',i,K,w,o,y,j⟩:=VT (h.kp.mono (fun _=>g) (NH _)) (by omega);have A:N.IX M=(zR e,({N with J:=C}:NM).Gc e,M'):=by
  unfold NM.IX;rw[NU (by rw[g];decide),K]
 rw[A];simp only;have d:M'.room=W.Gi:=w.room.trans h.room;have c:Z6 W.node W.calls W.most F i:=fun q a b=>h.GS q (NG o a) b;have R:=h.nw;rcases w.Gc.1 with⟨rfl,s,D,L⟩|⟨s,⟨rfl,D⟩|⟨rfl,_⟩⟩
 .obtain⟨ml,hml,hrel,hpos⟩:=h.Gj.last h.kp.le
  have z:=j rfl;have B:W.st.drop (W.st.length-1)=[ml]:=by
   have J:=La (show W.st.length-1<W.st.length by omega);rw[NS (by omega)] at hml;rw[J,Mm hml,Ln (by omega)]
  have f:=w.kp;refine .inl ⟨rfl,s,F,i,?_⟩;rw[B];have k:=h.cm.Gv ml (LK hml);have E:=h.cm.len;exact {h with
   kp:=⟨f.lg.imp fun I x=>⟨x.1,x.2.1,fun _=>x.2.2 rfl⟩,f.held⟩
   cm:=(h.cm.more (u:=t+2) (by omega)).Gs (W':={W with st:=[ml]}) rfl (fun m G=>by rw[NP] at G;subst G;exact k.more (by omega)) (by show 1<=_;omega) (by show 0<1;omega) ((h.cm.more (u:=t+2) (by omega)).ww) rfl rfl rfl rfl
   room:=d
   Gj:=by rw[z];exact Hist.one ml hrel
   GS:=c
   ro:=by show(N.readOnly||false)=_;rw[Bool.or_false];exact h.ro
   Ft:=fun _ v q a b=>h.Ft g v q (NG o a) b
   wr:=fun _=>h.wr g
   nw:=by show N.writes<=_;omega
   dead:=L.trans h.dead}
 .refine .inr ⟨rfl,s,D,F,i,⟨w.kp.lg.imp fun I x=>⟨x.1,x.2.1⟩,(h.cm.more (u:=t+2) (by omega)).Gs (W':={W with broken:=true}) rfl (h.cm.more (u:=t+2) (by omega)).Gv (h.cm.more (u:=t+2) (by omega)).len h.cm.ne (h.cm.more (u:=t+2) (by omega)).ww rfl rfl rfl rfl,d,.inl ⟨c,.inl (h.Gj.mono o id)⟩⟩,fun Q=>?_⟩
  have f:=w.kp;have r:(({N with J:=C}:NM).Gc (some 9)).readOnly=true:=by show(N.readOnly||true)=true;rw[Bool.or_true]
  exact {h with
   kp:=⟨f.lg.imp fun I x=>⟨x.1,x.2.1,fun e=>by rw[r] at e;cases e⟩,f.held⟩
   cm:=(h.cm.more (u:=t+2) (by omega)).Gs (W':={W with broken:=true}) rfl (h.cm.more (u:=t+2) (by omega)).Gv (h.cm.more (u:=t+2) (by omega)).len h.cm.ne (h.cm.more (u:=t+2) (by omega)).ww rfl rfl rfl rfl
   room:=d
   Gj:=h.Gj.mono o id
   GS:=c
   ro:=r
   Ft:=fun e=>by rw[r] at e;cases e
   wr:=fun e=>by rw[r] at e;cases e
   nw:=by show N.writes<=_;omega
   dead:=Q}
 .exact absurd rfl y
theorem NI.Hm{W:WM}{N:NM}{M M':DM}{F:List Fact}{p t:Nat}(h:NI W N M F p t)(i:∀ a,Lg M a p t->Lg M' a p t)(b:M'.safe=M.safe)(c:M'.dir=M.dir)(d:M'.IM=M.IM)(f:M'.room=M.room)(g:M'.dead=M.dead):NI W N M' F p t :=
 {h with
  kp:=⟨h.kp.lg.imp fun a x=>⟨i a x.1,x.2.1,fun e=>by have:=x.2.2 e;unfold Jl at this |-;rw[b,c,d];exact this⟩,h.kp.held⟩
  room:=f.trans h.room
  dead:=g.trans h.dead}
def InR(x:Int):Prop:=-9223372036854775808<=x/\x<=9223372036854775807
def ND(w:World)(v:Value):Prop:=∃ l,ZD w v l/\∀ x,x∈l->InR x
theorem ZD.own{w:World}{v:Value}{l:List Int}(h:ZD w v l):∀ k,l≠[]->v.ownBlock=some k->k<w.heap.size:=fun k a e=>by
 rcases h with⟨_,i⟩|⟨g,j,c,rfl,m,_⟩
 .exact absurd i a
 .simp[Value.ownBlock] at e;omega
theorem add_zero(a:Addr):a.add 0=a:=by unfold Addr.add;simp
theorem Ni(a:Addr)(k:Nat)(h:k≠0):a.add k=⟨a.block,a.off+k,none⟩:=by unfold Addr.add;simp[h]
theorem WS{w:World}{p:Addr}{v:Value}(h:w.cell? p=some v):p.block<w.heap.size:=by
 refine Nat.lt_of_not_le fun a=>?_;unfold World.cell? at h;rw[Ks a] at h;cases h
theorem PX{w:World}{p:Addr}{v:Value}(h:w.cell? p=some v):p.spot=none:=by
 unfold World.cell? at h;split at h
 .split at h
  .cases h
  .rename_i hs
   simpa using hs
 .cases h
theorem PY:Tryz.prog.cellsOf 3=1:=by kernel_rfl
section
variable {H:Type} {enc:TypeId × Value->H} {W:World} {sp:Nat->Bool} {held:Bool} {n:Nat}
theorem XR{c:Value}{x:DataW H × List MemPlace}(h:DataW.trod enc Tryz.prog W 0 sp held n 3 [c]=some x):∃ k,c=.int .i64 k/\InR k:=by
 obtain⟨k,e,_,a⟩:=DataW.trod_int LW h;refine⟨k,by simpa using e,?_⟩;unfold Lit.wf at a;simp only[Ld,Mk] at a;have b:IntKind.i64.min=-9223372036854775808:=by decide
 have d:IntKind.i64.max=9223372036854775807:=by decide
 rw[b,d] at a;exact a
theorem OM{c:Value}{x:DataW H × List MemPlace}(B:sp=fun _=>true)(h:DataW.trod enc Tryz.prog W 0 sp held n 26 [c]=some x):ND W c:=by
 subst B;rcases Deep.open_slice1 KZ PY h with⟨y,_⟩|⟨a,b,d,m,Q,V,D,N,y,_,K,F,L,_,l⟩
 .have:c=.slice none 0 0:=by simpa using y
  exact⟨[],.inl ⟨⟨none,0,this⟩,rfl⟩,fun x u=>by cases u⟩
 .have hcv:c=.slice (some a) b d:=by simpa using y
  have M:m=d:=by rw[L];rfl
  have G:∀ i,i<m->∃ k,V i=.int .i64 k/\InR k:=fun i p=>XR (l i p).2;obtain⟨f,E⟩:∃ f:Nat->Int,∀ i,i<m->V i=.int .i64 (f i)/\InR (f i):=by
   classical
   refine⟨fun i=>if p:i<m then Classical.choose (G i p) else 0,fun i p=>?_⟩;simp only[IF p];exact Classical.choose_spec (G i p)
  by_cases J:b=0
  .subst J
   exact⟨[],.inl ⟨⟨some a,d,hcv⟩,rfl⟩,fun x u=>by cases u⟩
  .have hc0:=(l 0 (by omega)).1
   rw[add_zero] at hc0;have t:=PX hc0;have r:=WS hc0;obtain⟨g,o,I⟩:=a;simp only at t r;subst t;have A:((List.range b).map f).length=b:=by simp
   refine⟨(List.range b).map f,.inr ⟨g,o,d,by rw[A];exact hcv,r,by rw[A];omega,fun j z=>?_⟩,fun x u=>?_⟩
   .rw[A] at z
    have v:=(l j (by omega)).1;rw[(E j (by omega)).1] at v;have e:Addr.add ⟨g,o,none⟩ j=⟨g,o+j,none⟩:=by
     by_cases q:j=0
     .subst q;rw[add_zero];rfl
     .rw[Ni _ _ q]
    rw[e] at v
    simpa using v
   .obtain⟨j,z,rfl⟩:=Mn.1 u
    exact(E j (by have:=KG.1 z;omega)).2
end
theorem Sh.IH(h c o p:Int)(x:InR c):Sh (WM.IH h c o p 0) (DM.new (Y4 c)) [] 0 0 where
 lg:=by
  refine⟨[],?_,rfl⟩;have r:0<=Y4 c/\Y4 c<9223372036854775808:=by
   have z:=x.2;unfold Y4;split <;> omega
  exact {
   bd:=⟨Kr _,Kr _,Kr _,Kr _,Kr _,r.1,r.2,Kr _,NH _,Ja,NH _,(fun e g=>by cases g),Ja,NH _,(fun d t=>by rw[show DM.safe (DM.new (Y4 c))::DM.IM (DM.new (Y4 c))=[[]] from rfl,NP] at t;subst t;exact NH _),NH _⟩
   Hl:=⟨rfl,Ja,fun e g=>by cases g⟩
   ok:=fun s y=>by cases y
   Gp:=fun i=>by simp[zc,SM.nil]
   pre:=fun D l=>by rw[show DM.safe (DM.new (Y4 c))::DM.IM (DM.new (Y4 c))=[[]] from rfl,NP] at l;subst l;exact Ik
   le:=fun e g=>by cases g
   full:=fun e g=>by cases g
   Gz:=fun D l=>NV _}
 cm:=⟨fun m u=>by
  have j:m∈[(⟨h,[],[]⟩:LM)]:=u;rw[NP] at j;subst j;exact⟨List.Pairwise.nil,NH _,fun e g=>(by cases g),NV _,fun e g=>(by cases g),rfl⟩,NH _,NH _,NH _,Nat.zero_lt_one,NH _,NV _,NH _,NH _,NH _,NH _,NH _,NH _,⟨by show(-9223372036854775808:Int)<=0;decide,by show(0:Int)<=9223372036854775807;decide⟩⟩
 room:=rfl
 all:=.inl ⟨fun q a b=>by
  have:q=0:=Nat.le_zero.1 b;subst this;exact⟨⟨List.Pairwise.nil,fun e g=>(by cases g),NV _,fun e g=>(by cases g)⟩,NH _,NV _,fun e g=>(by cases g)⟩,.inl (Hist.one ⟨h,[],[]⟩ ⟨rfl,rfl⟩)⟩
def YF(v:Ver):Ver:={v with seq:=0}
def Zv(K:Keys):Keys:=K.map fun e=>(e.1,e.2.map YF)
theorem ON(n:Int)(u:List Ver):(u.map (Vn n)).map YF=u.map YF:=by
 rw[LQ];refine MP fun v _=>?_;show YF (Vn n v)=YF v;unfold Vn;split <;> rfl
theorem Wl(c:Int):∀ (d:Int)(S M:Keys),Zv (zM c d S M).1=Zv M
 | _,[],[]=>rfl
 | d,(a,l)::S,(b,u)::M=>by
  unfold zM;split
  .split
   .rfl
   .rename_i n _
    split
    .show(b,(u.map (Vn n)).map YF)::Zv (zM c n S M).1=(b,u.map YF)::Zv M
     rw[ON,Wl c n S M]
    .show(b,u.map YF)::Zv (zM c d S M).1=(b,u.map YF)::Zv M
     rw[Wl c d S M]
  .rfl
 | _,[],_::_=>rfl
 | _,_::_,[]=>rfl
theorem Wm{W:WM}{N:NM}{m a:LM}{c:Nat}(h:Y7 W N m=(c,some a)):Zv a.keys=Zv m.keys/\a.hints=m.hints/\a.node=m.node:=by
 unfold Y7 at h;split at h
 .simp only[LV] at h
  have b:=h.2;split at b
  .obtain rfl:=Mm b
   exact⟨Wl _ _ _ _,rfl,rfl⟩
  .cases b
 .simp at h
theorem Sh.calm{W:WM}{M:DM}{F:List Fact}{p t:Nat}(h:Sh W M F p t):Sh W ((M.Hj 0).Hf 0 0) F p t:=by
 obtain⟨c,b,a⟩:=h.lg;exact⟨⟨c,(b.Hj 0).Hf 0 0 (by decide) (by decide),a⟩,h.cm,h.room,h.all⟩
def Std(W:WM)(M:DM)(d g n a:Nat)(c:Value)(t:Nat)(S:Nat->Prop)(w f:World):Prop :=
 ∃ X N b e,StO f g n a c X N b/\(∃ F p,NI e N b F p t)/\Opd W ((M.Hj 0).Hf 0 0) d N b e/\b.cut=0/\b.fail=0/\(∀ k,NFoot X b k->w.heap.size<=k)/\(∀ k,SRead X.LS k->w.heap.size<=k)/\Fr S w f
theorem WL(L:zU)(B d g n a:Nat)(nv b:Value)(W:WM)(u:DL)(M:DM)(l c:Int)(t:Nat)(w:World)(h:StC w d g nv n a b u M)(r:ZM B w)(hB:B<=w.heap.size)(T:B<=d)(o:∀ k,Foot g u M k->B<=k)
 (hr:∃ F p,Sh W M F p t)(ht:t<=890000)(x:W.node=(n:Int))(a9:n<4)(i:a<=10000000)(V:-9223372036854775808<=l/\l<=9223372036854775807)(a0:-9223372036854775808<=c/\c<=9223372036854775807) :
 Calls Tryz.prog 25 #[.pointer (some ⟨d,0,none⟩),.int .i64 l,.int .i64 c] w fun e w'=>e=.returned (.bool true)/\Std W M (zG c 5) d n (a+1) b (t+10) (fun k=>k=d\/Foot g u M k) w w':=by
 have G:∀ k,w.cell? ⟨d,k,none⟩=(zA g nv n a b)[k]?:=h.IJ.cell;simp only[zA] at G;have Q:g≠d:=fun e=>h.sep (e▸.IJ);obtain⟨F0,p0,Y⟩:=hr;have a8:=Z Y.calm;have D:=Z r;have z:=Z hB;have a7:=Z T;have m:=Z o;have a1:=Z h.IJ;have a3:=Z h.Hm;have A:=Z Q;clear h r hB T o Y Q;go_enter Tryz.func25,Tryz.ntmps25;go_wp2_with fail;refine(Wu 0 w g u M a3.out).mono ?_;rintro e w1 ⟨rfl,J,f1⟩;have v:=a1.out.fr f1 (fun e=>A.out e.symm);have I:∀ k,w1.cell? ⟨d,k,none⟩=(zA g nv n a b)[k]?:=v.cell;simp only[zA] at I;have a4:=Z J;have a2:=Z v;have a5:=Z f1;clear G J v f1;go_wp2_with fail;refine(Vq 0 0 w1 g u (M.Hj 0) a4.out).mono ?_;rintro e w2 ⟨rfl,K,f2⟩;have E:=a2.out.fr f2 (fun e=>A.out e.symm);have F2:=a5.out.trans f2;have f:ZM B w2:=D.out.fr z.out F2 (fun k e=>by subst e;exact m.out _ .IJ);have a6:=Z (PW L B d g n a nv b W u ((M.Hj 0).Hf 0 0) l c t w2 ⟨E,K⟩ f (NG z.out F2.size) a7.out m.out ⟨F0,p0,a8.out⟩ ht x a9 i V a0);have s:=Z F2;clear I K E f2 F2 f;go_wp2_with fail;refine a6.out.mono ?_;rintro e w3 ⟨rfl,X,N,M',W',y,R,j,q,S,f3⟩;have b0:w3.cell? ⟨d,1,none⟩=some (.pointer (some ⟨X.nb,0,none⟩)):=y.IJ.cell 1;have C:Hid (Std W M (zG c 5) d n (a+1) b (t+10) (fun k=>k=d\/Foot g u M k) w w3):=⟨X,N,M',W',y,R,j,j.cut.elim id id,j.fail.elim id id,fun k hk=>NG s.out.size (q k hk),fun k hk=>NG s.out.size (S k hk),(s.out.mono (fun k _ e=>by subst e;exact .inr .IJ)).trans f3⟩;clear y R j q S f3
 go_wp2
 go_ret;exact⟨rfl,C.out⟩
end Go.Proofs.YtkhnggkkiefcdaaGreatDoor
