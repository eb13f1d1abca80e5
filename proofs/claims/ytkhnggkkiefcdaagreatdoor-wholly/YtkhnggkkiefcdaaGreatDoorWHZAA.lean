/- larder: joined texts -/
import Derived.Test.YtkhnggkkiefcdaaGreatDoorWHAH
import Derived.Test.YtkhnggkkiefcdaaGreatDoorWHAP
namespace Go.Proofs.YtkhnggkkiefcdaaGreatDoor
open Go.RowKit
set_option maxRecDepth 100000
set_option maxHeartbeats 8000000
def ZA:ByteArray:={data:=#[110]}
structure Sem(j:Nat)(m:LM):Prop where
 hints:m.hints=(List.range (j / 2)).map fun i=>(2,zu (i+1))
 keys:(j=0/\m.keys=[])\/(0<j/\∃ v:Ver,m.keys=[(ZA,[v])]/\v.value=zu ((j+1) / 2)/\v.gone=false)
theorem O7(a:ByteArray)(v:Ver):Z0 [] a [v]=[(a,[v])]:=rfl
theorem O8(a:ByteArray)(l:List Ver)(v:Ver):Z0 [(a,l)] a [v]=[(a,[v])]:=by
 cases h:zb a a <;> simp[Z0,zT,h]
theorem Sem.put{j:Nat}{m:LM}(h:Sem j m)(a:j%2=0)(n:Int):Sem (j+1) (m.put ZA (zu (j / 2+1)) n) where
 hints:=by
  show m.hints=_;rw[h.hints,show(j+1) / 2=j / 2 by omega]
 keys:=by
  refine .inr ⟨Nat.succ_pos _,m.putV ZA (zu (j / 2+1)) n,?_,?_,rfl⟩
  .show Z0 m.keys ZA _=_
   rcases h.keys with⟨_,e⟩|⟨_,v,e,_⟩
   .rw[e];exact O7 _ _
   .rw[e];exact O8 _ _ _
  .show zu (j / 2+1)=_
   congr 1
   omega
theorem Sem.hint{j:Nat}{m:LM}(h:Sem j m)(c:j%2=1):Sem (j+1) (m.hint 2 (zu (j / 2+1))) where
 hints:=by
  show m.hints++[_]=_;rw[h.hints,show(j+1) / 2=j / 2+1 by omega,List.range_succ,MB]
  rfl
 keys:=by
  rcases h.keys with⟨e,_⟩|⟨_,v,e,a,b⟩
  .omega
  .exact .inr ⟨Nat.succ_pos _,v,e,by rw[a];congr 1;omega,b⟩
theorem Sem.bare{j:Nat}{m c:LM}(h:Sem j m)(b:Zv c.keys=Zv m.keys)(k:c.hints=m.hints):Sem j c where
 hints:=by rw[k];exact h.hints
 keys:=by
  rcases h.keys with⟨e,f⟩|⟨e,v,f,g,i⟩
  .rw[f] at b
   refine .inl ⟨e,?_⟩;cases hk:c.keys with
   | nil=>rfl
   | cons a l=>rw[hk] at b;simp[Zv] at b
  .rw[f] at b
   refine .inr ⟨e,?_⟩
   match hk:c.keys,b with
   | [(a,[u])],b =>
    simp only[Zv,NX,Lu,Jo,LV,and_true] at b;obtain⟨rfl,d⟩:=b;unfold YF at d;simp only[Ver.mk.injEq] at d;exact⟨u,rfl,by rw[<- g];exact d.2.2.2.2.2.2.1,by rw[<- i];exact d.2.2.2.2.2.2.2⟩
   | [],b=>simp[Zv] at b
   | [(_,[])],b=>simp[Zv] at b
   | [(_,_::_::_)],b=>simp[Zv] at b
   | _::_::_,b=>simp[Zv] at b
def Sems(a:Nat)(st:List LM):Prop:=∀ k m,st[k]?=some m->Sem (a+k) m
theorem Sems.snoc{a:Nat}{st:List LM}(h:Sems a st){m:LM}(d:Sem (a+st.length) m):Sems a (st++[m]):=fun k x b=>by
 by_cases c:k<st.length
 .rw[Lo c] at b
  exact h k x b
 .have h1:=(NQ.1 b).1
  rw[NF,NK] at h1;have e:k=st.length:=by omega
  subst e;rw[LA (NH _),Jw] at b;obtain rfl:=Mm b;exact d
structure WhA(ev d s:Nat)(W:WM)(N:NM)(M:DM):Prop where
 dead:M.dead=false
 ro:N.readOnly=false
 fail:M.fail=0
 room:M.room=1152921504606846976
 self:N.self=1
 GV:∃ base,s<=base/\base+W.st.length=d+1/\Sems base W.st/\(0<ev->d%ev=0->base=d)
 every:W.every=(ev:Int)
 writes:W.writes=d
structure WhD(ev d s:Nat)(W:WM)(M:DM):Prop where
 dead:M.dead=true
 GV:∃ base,s<=base/\d+1<=base+W.st.length/\base+W.st.length<=d+2/\Sems base W.st/\(0<ev->d%ev=0->d<=base)
theorem Qf(W:WM)(m:LM):(W.Hp m).writes=W.writes+1/\(W.Hp m).every=W.every/\(W.Hp m).node=W.node/\(W.Hp m).broken=W.broken/\(W.Hp m).room=W.room /\
 (((0<W.every/\((W.writes+1:Nat):Int).tmod W.every=0)/\(W.Hp m).st=[m])\/(¬(0<W.every/\((W.writes+1:Nat):Int).tmod W.every=0)/\(W.Hp m).st=W.st++[m])):=by
 unfold WM.Hp WM.due;simp only[Ld,Mk];split
 .rename_i h
  exact⟨rfl,rfl,rfl,rfl,rfl,.inl ⟨h,by simp⟩⟩
 .rename_i h
  exact⟨rfl,rfl,rfl,rfl,rfl,.inr ⟨h,rfl⟩⟩
theorem WhA.Hp{r d s:Nat}{W g:WM}{N o:NM}{M l:DM}(h:WhA r d s W N M)(f:g.st=W.st/\g.every=W.every/\g.writes=W.writes){q:LM}(u:Sem (d+1) q)(A:l.dead=false)(p:o.readOnly=false)(B:l.fail=0)(C:l.room=1152921504606846976)(D:o.self=1) :
 WhA r (d+1) s (g.Hp q) o l:=by
 obtain⟨i,x,y,z,G⟩:=h.GV;obtain⟨E,F,I,J,K,v⟩:=Qf g q;have j:=h.every;refine⟨A,p,B,C,D,?_,by rw[F,f.2.1];exact j,by rw[E,f.2.2,h.writes]⟩;rw[f.2.1,f.2.2,h.writes,j] at v;rcases v with⟨c,e⟩|⟨c,e⟩
 .refine⟨d+1,by omega,by rw[e];rfl,?_,fun _ _=>rfl⟩
  rw[e];intro k m t;have:=(NQ.1 t).1;simp only[NK] at this;obtain rfl:k=0:=by omega
  obtain rfl:=Mm t;exact u
 .refine⟨i,x,by rw[e,f.1,NF,NK];omega,?_,fun a b=>?_⟩
  .rw[e,f.1]
   exact z.snoc (by rw[y];exact u)
  .exfalso
   refine c ⟨by omega,?_⟩;rw[Int.tmod_eq_emod_of_nonneg (by omega)]
   exact_mod_cast b
theorem WhA.gone{j d s:Nat}{W e:WM}{N:NM}{M i:DM}(h:WhA j d s W N M)(g:e.st=W.st){f:LM}(r:Sem (d+1) f)(q:i.dead=true):WhD j d s {e with broken:=true,st:=e.st++[f]} i:=by
 obtain⟨c,k,l,m,o⟩:=h.GV;refine⟨q,c,k,?_,?_,?_,fun a b=>KL (o a b).symm⟩
 .show d+1<=c+(e.st++[f]).length
  rw[g,NF];omega
 .show c+(e.st++[f]).length<=_
  rw[g,NF,NK];omega
 .show Sems c (e.st++[f])
  rw[g];exact m.snoc (by rw[l];exact r)
theorem WhA.synced{f d s:Nat}{W:WM}{N c:NM}{M M':DM}(h:WhA f d s W N M)(l:0<W.st.length)(i:M'.dead=false)(e:c.readOnly=false)(j:M'.fail=0)(o:M'.room=1152921504606846976)(p:c.self=1):WhA f d d {W with st:=W.st.drop (W.st.length-1)} c M':=by
 obtain⟨a,q,r,g,t⟩:=h.GV;refine⟨i,e,j,o,p,⟨d,NH _,?_,fun k m b=>?_,fun _ _=>rfl⟩,h.every,h.writes⟩
 .show d+(W.st.drop (W.st.length-1)).length=d+1
  rw[Md];omega
 .have b:(W.st.drop (W.st.length-1))[k]?=some m:=b
  rw[Lv] at b;have:=(NQ.1 b).1;have:=g _ m b;rw[show a+(W.st.length-1+k)=d+k by omega] at this;exact this
theorem WhA.safe{b d s:Nat}{W:WM}{N:NM}{M:DM}(h:WhA b d s W N M)(i:0<b)(j:d%b=0):WhA b d d W N M:=by
 obtain⟨a,k,e,g,c⟩:=h.GV;exact {h with GV:=⟨a,by have:=c i j;omega,e,g,c⟩}
theorem WhD.safe{b d s:Nat}{W:WM}{M:DM}(h:WhD b d s W M)(j:0<b)(k:d%b=0):WhD b d d W M:=by
 obtain⟨a,l,e,g,i,c⟩:=h.GV;exact⟨h.dead,a,c j k,e,g,i,c⟩
theorem WhA.cut{e d s:Nat}{W:WM}{N:NM}{M M':DM}(h:WhA e d s W N M)(j:M'.dead=true):WhD e d s {W with broken:=true} M':=by
 obtain⟨c,f,k,g,i⟩:=h.GV;exact⟨j,c,f,by show d+1<=c+W.st.length;omega,by show c+W.st.length<=_;omega,g,fun a b=>KL (i a b).symm⟩
theorem Nm{b:Nat}{W k:WM}{M M':DM}{j:Nat}{N:NM}{F:List Fact}{p t:Nat}(h:Sems b W.st)(g:Opd W M j N M' k)(f:NI k N M' F p t):∃ i m,i<W.st.length/\Sem (b+i) m/\zV m N.S:=by
 obtain⟨l,i,v,m,d,_,q,_,s,rfl⟩:=g.found;have o:=Wm s;have e:=(NQ.1 q).1;obtain⟨r,a,u,_⟩:=f.now;refine⟨i,d,e,(h i m q).bare o.1 o.2.1,?_⟩;have c:r=d:=by
  have a:(W.st.take i++[d])[(W.st.take i++[d]).length-1]?=some r:=a;rw[NF,NK,Nat.add_sub_cancel,LA (NH _),Jw] at a;exact(Mm a).symm
 rw[<- c];exact u
theorem Sem.asked{j:Nat}{m:LM}{S:SM}(h:Sem j m)(c:zV m S):S.hints.length=j / 2/\(∀ i (k:i<S.hints.length),S.hints[i]=(2,zu (i+1)))/\S.keys.length<=1/\(zq S.keys ZA).length<=1 /\
 ((j%2=1/\Y1 (zq S.keys ZA) (zu (j / 2+1))=true)\/(j%2=0/\Y1 (zq S.keys ZA) (zu (j / 2+1))=false/\((0<j/\Y1 (zq S.keys ZA) (zu (j / 2))=true)\/(j=0/\zq S.keys ZA=[])))):=by
 have b:=h.hints;rw[c.2] at b;refine⟨by rw[b];simp,fun i k=>?_,?_⟩
 .simp only[b,MH,List.getElem_range]
 .have hk:=h.keys
  rw[c.1] at hk;rcases hk with⟨e,a⟩|⟨e,v,a,d,f⟩
  .subst e
   rw[a];exact⟨NV _,NV _,.inr ⟨rfl,rfl,.inr ⟨rfl,rfl⟩⟩⟩
  .rw[a]
   have g:zq [(ZA,[v])] ZA=[v]:=by
    rw[<- Sn ZA (by unfold Yb Asc;simp)];unfold YX;rw[List.find?_cons_of_pos (by simp[zH])]
   rw[g];refine⟨NH _,NH _,?_⟩;unfold Y1;simp only[f,It,Bool.and_true,Mk,Lw,d];by_cases l:j%2=1
   .exact .inl ⟨l,by congr 1;omega⟩
   .refine .inr ⟨by omega,fun h=>?_,.inl ⟨e,by congr 1;omega⟩⟩
    have:=SC h;omega
theorem Kpt.turn{r w p:World}{q n a:Nat}{f:Value}{X:NL}{N:NM}{M o:DM}(h:Kpt r w q n a f X N M)(s:DRep p X.db X.LD o)(l:Fr (fun k=>k=X.db) w p)(g:∀ k,Foot X.db X.LD o k->Foot X.db X.LD M k):Kpt r p q n a f X N o:=by
 have d:=h.st.node;have m:∀ k,NFoot X o k->NFoot X M k:=fun k b=>by
  rcases b with e|e|e|e
  .exact .inl e
  .exact .inr (.inl e)
  .exact .inr (.inr (.inl e))
  .exact .inr (.inr (.inr (g k e)))
 have j:Ty w X.db 143:=d.Hm.IJ.ty;have c:∀ k t,Ty w k t->t≠143->k≠X.db:=fun k t b u e=>by subst e;exact u (b.inj j)
 refine⟨⟨h.st.IJ.fr l (fun e=>h.sep X.db (.inr (.inr (.inr .IJ))) e.symm),d.IJ.fr l (c _ _ d.IJ.ty (by decide)),Blk.fr d.log l (c _ _ (Blk.ty d.log) (by decide)),d.held.fr l (fun k b e=>?_) (fun k b e=>?_),s⟩,h.fr.trans' l (fun i v e=>by have:=h.new X.db (.inr (.inr (.inr .IJ)));omega),h.low,fun k b=>h.new k (m k b),fun k b=>h.sep k (m k b),h.Fu⟩
 .rcases d.held.Hh b with e2|e2|e2 <;> exact c _ _ e2 (by decide) e
 .exact c _ _ (d.held.HZ b) (by decide) e
theorem Kpt.std{m w u:World}{g q n a:Nat}{b:Value}{o:DL}{W:WM}{M:DM}{j t:Nat}(s:Fr Nil m w)(d:m.heap.size<=g)(D:g<w.heap.size)(f:∀ k,Foot q o M k->m.heap.size<=k)(h:Std W M j g n a b t (fun k=>k=g\/Foot q o M k) w u) :
 ∃ X N M' l,Kpt m u g n a b X N M'/\(∃ F p,NI l N M' F p t)/\Opd W ((M.Hj 0).Hf 0 0) j N M' l/\M'.cut=0/\M'.fail=0:=by
 obtain⟨X,N,M',l,v,x,y,z,A,r,B,C⟩:=h;exact⟨X,N,M',l,⟨v,s.trans' C (fun i E e=>by rcases e with rfl|e;omega;have:=f i e;omega),d,fun k c=>NG s.size (r k c),fun k c e=>by have:=r k c;omega,fun k c e=>by have:=B k c;omega⟩,x,y,z,A⟩
theorem Opd.GS{W W':WM}{M b:DM}{a:Nat}{N:NM}(h:Opd W M a N b W'):W'.node=W.node/\W'.every=a/\W'.writes=0/\W'.broken=false/\W'.room=W.room:=by
 obtain⟨_,_,_,_,_,_,_,_,_,rfl⟩:=h.found;exact⟨rfl,rfl,rfl,rfl,rfl⟩
theorem WhA.IH{n s:Nat}{W h:WM}{M g:DM}{N:NM}{F:List Fact}{p t:Nat}(j:Bare n W M)(I:n=1)(e:Opd W ((M.Hj 0).Hf 0 0) s N g h)(a:NI h N g F p t)(D:g.fail=0):WhA s 0 0 h N g:=by
 obtain⟨m,y,G,E⟩:=j.st;obtain⟨A,Q,R,S,B⟩:=e.GS;obtain⟨u,i,T,K,r,_,l,_,C,rfl⟩:=e.found;have o:i=0:=by
  have:=(NQ.1 l).1;rw[y,NK] at this;omega
 subst o;have q:K=m:=by
  rw[y,Kq] at l;exact(Mm l).symm
 subst q;have c:=Wm C;have J:Sem 0 r:=Sem.bare ⟨by rw[E];rfl,.inl ⟨rfl,G⟩⟩ c.1 c.2.1;refine⟨a.dead,a.ro,D,?_,?_,⟨0,NH _,?_,?_,fun _ _=>rfl⟩,rfl,rfl⟩
 .have:=a.room
  rw[this];unfold WM.Gi;rw[B,j.room]
  rfl
 .have h1:=a.self
  rw[A,j.node,I] at h1;omega
 .show 0+(W.st.take 0++[r]).length=0+1
  simp
 .show Sems 0 (W.st.take 0++[r])
  simp only[Lk,Ll];intro k x z;have:=(NQ.1 z).1;simp only[NK] at this;obtain rfl:k=0:=by omega
  obtain rfl:=Mm z;exact J
def okV(v:Value):Nat:=match v with
 | .int _ x=>if x=0 then 1 else 0
 | _=>1
def WhR(e:World)(b c d s:Nat)(a:Value)(w:World):Prop:=∃ X N M W t,Kpt e w c 1 2 (.slice none 0 0) X N M /\
 ((t<=40+20*d/\(∃ F p,NI W N M F p t)/\WhA b d s W N M/\okV a=1)\/(t<=60+20*d/\(∃ F p,Sh W M F p t)/\WhD b d s W M/\W.node=1/\okV a=0))
def WhE(f:World)(b e d s t c:Nat)(a:Option Int)(w:World):Prop:=∃ X N M W,Kpt f w e 1 2 (.slice none 0 0) X N M/\X.nb=c /\
 ((a=none/\(∃ F p,NI W N M F p (t+10))/\WhA b (d+1) s W N M)\/(∃ x,a=some x/\x≠0/\(∃ F p,Sh W M F p (t+10))/\WhD b d s W M/\W.node=1))
theorem WhA.aft{E D:World}{v C d s t:Nat}{W c:WM}{m:NL}{N l:NM}{M M':DM}{F:List Fact}{p:Nat}{r:LM}{g:Option Int}(h:WhA v d s W N M)(b:NI W N M F p t)(L:t<=10000000)(f:c.st=W.st/\c.every=W.every/\c.writes=W.writes/\c.node=W.node/\c.broken=W.broken/\c.room=W.room)
 (A:Sem (d+1) r)(a:Aft c r M g l M' (t+10))(q:g=none\/g=some 9\/g=some 10)(z:Kpt E D C 1 2 (.slice none 0 0) m l M'){B:Nat}(j:m.nb=B):WhE E v C d s t B g D:=by
 have k:W.node=1:=by rw[b.self,h.self];rfl
 cases g with
 | none =>
  obtain⟨o,u,i⟩:=a.Hp;obtain⟨Q,R,I,J,K,S⟩:=Qf c r;refine⟨m,l,M',_,z,j,.inl ⟨rfl,⟨o,u,i⟩,h.Hp ⟨f.1,f.2.1,f.2.2.1⟩ A i.dead ?_ (a.Gc.2.fail.trans h.fail) ?_ ?_⟩⟩
  .rw[i.ro,J,f.2.2.2.2.1,<- b.ro,h.ro]
  .rw[i.room]
   unfold WM.Gi;rw[K,f.2.2.2.2.2];have:=b.room;unfold WM.Gi at this;rw[<- this,h.room]
  .have h1:=i.self
   rw[I,f.2.2.2.1,k] at h1;omega
 | some x =>
  have y:=a.FK b.bd' (by omega) h.fail h.room (by simp);obtain⟨o,u,G⟩:=a.gone y;exact⟨m,l,M',_,z,j,.inr ⟨x,rfl,by rcases q with e|e|e <;> cases e <;> decide,⟨o,u,G⟩,h.gone f.1 A y,f.2.2.2.1.trans k⟩⟩
theorem WhA.now{f d s t:Nat}{W:WM}{N:NM}{M:DM}{F:List Fact}{p:Nat}(h:WhA f d s W N M)(b:NI W N M F p t):∃ m,Sem d m/\zV m N.S/\MOk W.node m t:=by
 obtain⟨m,e,i,c⟩:=b.now;obtain⟨a,j,k,g,l⟩:=h.GV;have o:=(NQ.1 e).1;have:=g _ m e;rw[show a+(W.st.length-1)=d by omega] at this;exact⟨m,this,i,c⟩
theorem U1{n:Nat}(h:n<1000000):(zu n).size<=21:=by
 unfold zu
 simpa [ByteArray.size] using Lib.itoa_length_le (n:Int) (by omega) (by omega)
theorem R7(b0:zU)(B:Nat)(c a4 e9 a9:Int)(Q:List Int)(tv:Value)(w:World)(g5:ZM B w)(hB:B<=w.heap.size)(hc:InR c)(r5:InR a4)(p7:InR e9)(q4:InR a9)(g6:ZD w tv Q)(r6:∀ x,x∈Q->InR x) :
 Calls Tryz.prog 10 #[.int .i64 c,.int .i64 a4,.int .i64 e9,.int .i64 a9,tv] w fun e w'=>e=.returned (.bool true)/\Fr Nil w w':=by
 have I:=Z g5;have D:=Z hB;have m0:=Z (And.intro g6 r6);have o4:=Z (Nj b0 B 1 w g5 hB (by decide));have l9:=Z (fun a=>ZJ a4 5 a r5.1 r5.2 (by decide) (by decide));have o5:=Z (fun a=>ZJ e9 60 a p7.1 p7.2 (by decide) (by decide));have e6:Hid (∀ a,Calls Tryz.prog 21 #[.int .i64 c,.int .i64 7] a fun e w'=>e=.returned (.int .i64 (zG c 7))/\w'=a):=fun a=>ZJ c 7 a hc.1 hc.2 (by decide) (by decide);generalize zG c 7=pc at e6;have q5:=Xo a4 (n:=5) (by decide);have s7:=Xo e9 (n:=60) (by decide);obtain⟨K,j9⟩:∃ K,zG a4 5=K:=⟨_,rfl⟩;obtain⟨ca,j7⟩:∃ ca,zG e9 60=ca:=⟨_,rfl⟩;rw[j9] at l9 q5;rw[j7] at o5 s7;clear g5 hB g6 r6 j9 j7;go_enter Ix,Tryz.ntmps10;go_wp2_with fail;refine o4.out.mono ?_;rintro e w1 ⟨J,X1,N1,M1,W1,rfl,r0,⟨F1,p1,k3⟩,R⟩;have a5:=Z r0;have j4:=Z k3;have l5:=Z R;clear r0 k3 R o4;go_wp2_with fail;refine(l9.out _).mono ?_;rintro e a ⟨rfl,L⟩;subst a;have p3:W1.node=((1:Nat):Int):=l5.out.node;have a8:=Z (WL b0 B J X1.db 1 1 (.pointer (some ⟨X1.nb,0,none⟩)) (.slice none 0 0) W1 X1.LD M1 c K 10 w1 a5.out.closed (I.out.fr D.out a5.out.fr (fun _ e=>absurd e id)) (NG D.out a5.out.fr.size) (NG D.out a5.out.low) (fun k hk=>NG D.out (a5.out.new k (.inr (.inr (.inr hk))))) ⟨F1,p1,j4.out.sh⟩ (by decide) p3 (by decide) (by decide) hc ⟨by omega,by omega⟩);rw[XF q5] at a8;clear p3;go_wp2_with fail;refine a8.out.mono ?_;rintro e w2 ⟨rfl,c4⟩;obtain⟨X2,N2,M2,W2,m8,⟨F2,p2,f5⟩,k7,m5,d4⟩:=Kpt.std a5.out.fr a5.out.low a5.out.st.IJ.lt (fun k hk=>a5.out.new k (.inr (.inr (.inr hk)))) c4;have l4:=WhA.IH l5.out rfl k7 f5 d4;clear c4 k7 m5 d4 a8 a5 j4 l5 l9;have g9:=Z m8;have j5:=Z f5;have j6:=Z l4;have f0:w2.cell? ⟨J,0,none⟩=some (.pointer (some ⟨X2.db,0,none⟩)):=m8.st.IJ.cell 0;clear m8 f5 l4;have i8:=Z (fun a (f:Fr Nil w2 a)=>Wu (1+(ca:Int)) a X2.db X2.LD M2 (g9.out.st.node.Hm.nil f));have t2:IntKind.i64.wrap (1+(ca:Int))=1+(ca:Int):=by rw[Me];omega
 have E:Hid (∀ a,Fr Nil w2 a->a.cell? ⟨J,0,none⟩=some (.pointer (some ⟨X2.db,0,none⟩))):=fun a f=>(g9.out.nil f).st.IJ.cell 0;go_wp2_with fail
 go_region_held3 (fun a=>a.cell? ⟨J,0,none⟩=some (.pointer (some ⟨X2.db,0,none⟩))) (first|assumption|go_keep|exact E.out _ z8)
  (first
    | (go_at_call 37;refine(i8.out _ z8).mono ?_;rintro e w3 ⟨rfl,q0,q6⟩;have p0:Fr (fun k=>k=X2.db) w2 w3:=Fr.trans z8 q6;have T:=Z (g9.out.turn q0 p0 (fun k hk=>hk));have t3:=T.out.st.IJ.cell 0;clear q0 q6 p0)
    | (go_at_call 21;refine(o5.out _).mono ?_;rintro e wp ⟨rfl,x0⟩;subst wp))
 have r9:WhR w K J 0 0 undef w3:=⟨X2,N2,_,W2,20,T.out,.inl ⟨by decide,⟨F2,p2,j5.out.Hm (M':=M2.Hj (1+(ca:Int))) (fun ss x=>x.Hj _) rfl rfl rfl rfl rfl⟩,{j6.out with},rfl⟩⟩;have s4:=Z r9;clear r9 t3 f0 i8 E g9 T j5 j6 t2;go_wp2_with fail
 go_loopw [14,15,16] (fun n6 t6 n7 wy=>∃ d s:Nat,d<=64/\n6=.int .i64 d/\t6=.int .i64 s/\WhR w K J d s n7 wy) (fun n6 _ n7 _=>2*(64-(intOf n6).toNat)+okV n7)
 case atStart=>exact⟨0,0,NV _,rfl,rfl,s4.out⟩
 case round =>
  obtain⟨d,s,hd,rfl,rfl,X,N,M,W,t,hk,a2⟩:=hrel;have HK:=Z hk;have v:=Z (fun a (f:Fr Nil wr a)=>XT a X.db X.LD M (hk.st.node.Hm.nil f));have p8:∀ k,wr.cell? ⟨J,k,none⟩=(zA X.db (.pointer (some ⟨X.nb,0,none⟩)) 1 2 (.slice none 0 0))[k]?:=hk.st.IJ.cell;simp only[zA] at p8;by_cases i1:d<64/\M.dead=false
  .obtain⟨i4,hde0⟩:=i1
   have i0:decide ((d:Int)<64)=true:=by simp;omega
   obtain⟨ht,⟨F,p,i6⟩,d8,i7⟩:=a2.resolve_right (fun h=>by have:=h.2.2.1.dead;rw[hde0] at this;cases this);clear hde0 a2;rw[d8.dead] at v;have c0:=Z i6;have b5:=Z d8;have h4:=Z i7;have m6:=v.out wr (O _ _);clear i6 d8 i7 hk;have E:Hid (∀ a,Fr Nil wr a->a.cell? ⟨J,1,none⟩=some (.pointer (some ⟨X.nb,0,none⟩))):=fun a f=>(HK.out.nil f).st.IJ.cell 1;have f0:=E.out wr (O _ _);obtain⟨q,n3⟩:∃ q,q=d / 2:=⟨_,rfl⟩;have t1:IntKind.i64.wrap ((d:Int).tdiv 2)=(q:Int):=by rw[show(d:Int).tdiv 2=((d / 2:Nat):Int) from(Int.ofNat_tdiv d 2).symm,<- n3,Me];omega
   have r7:IntKind.i64.wrap ((q:Int)+1)=(q:Int)+1:=by rw[Me];omega
   have e0:Hid (∀ a,Fr Nil wr a->Calls Tryz.prog 29 #[.int .i64 (IntKind.i64.wrap (IntKind.i64.wrap ((d:Int) / 2)+1))] a fun e w'=>e=.returned (.string (zu (q+1)))/\Fr Nil a w'):=fun a f=>by
    have e:IntKind.i64.wrap (IntKind.i64.wrap ((d:Int) / 2)+1)=((q+1:Nat):Int):=by rw[Me,Me];omega
    rw[e];exact Yu (q+1) (by omega) a (I.out.fr D.out (HK.out.fr.trans f) (fun _ e=>absurd e id)).1.1
   have v0:q<40:=by omega
   have HQ:=Z n3;clear n3;by_cases d5:d%2=0
   case' pos =>
    have n0:decide ((d:Int)%2=0)=true:=by simp;omega
    have n1:((d:Int)%2==0)=true:=by simp;omega
    have n2:(d:Int)%2=0:=by omega
    have e7:=Z (fun a (f:Fr Nil wr a)=>(HK.out.nil f).put b0 c0.out (by omega) I.out D.out b5.out.ro ZA (zu (q+1)) (by decide) (by have:=U1 (n:=q+1) (by omega);omega));unfold ZA at e7;have c1:=Z d5;clear d5
    go_wp2_with (refine(v.out _ (O _ _)).mono ?_;rintro e a ⟨rfl,L⟩;subst a)
    go_region_held3 (fun a=>a.cell? ⟨J,1,none⟩=some (.pointer (some ⟨X.nb,0,none⟩))) (first|assumption|go_keep|exact E.out _ z8)
     (first
       | (go_at_call 22;refine(e7.out _ o.out).mono ?_;rintro e w4 ⟨er,X',N',M',rfl,c7,a3,f1,r2,q7,f6,d6⟩;generalize (if er=none then N.given+1 else 0)=nn at d6 |-;have S:=Z (And.intro c7 (And.intro f6 (And.intro a3 d6)));have n5:w4.cell? ⟨J,1,none⟩=some (.pointer (some ⟨X.nb,0,none⟩)):=(by rw[<- a3];exact c7.st.IJ.cell 1);clear c7 a3 f1 f6 d6 r2 q7)
       | (go_at_call 29;refine(e0.out _ z8).mono ?_;rintro e wg ⟨rfl,fg⟩;have o:Hid (Fr Nil wr wg):=Fr.trans z8 fg;have b9:=E.out wg o.out;clear fg))
    have HE:Hid (WhE w K J d s t X.nb er w4):=by
     obtain⟨m,hm,hr,i5⟩:=b5.out.now c0.out;have hs:=hm.put c1.out (nn:Int);rw[<- HQ.out] at hs;exact b5.out.aft c0.out (by omega) (by exact⟨rfl,rfl,rfl,rfl,rfl,rfl⟩) hs (S.out.2.2.2 m hr i5) S.out.2.1 S.out.1 S.out.2.2.1
    clear n0 n1 n2 b9 n5 e7 o S c1
   case' neg =>
    have n0:decide ((d:Int)%2=0)=false:=by simp;omega
    have n1:((d:Int)%2==0)=false:=by simp;omega
    have n2:¬(d:Int)%2=0:=by omega
    have q8:Yy N 2 (zu (q+1))=none:=by
     obtain⟨m,hm,hr,i5⟩:=b5.out.now c0.out;have hl:N.S.hints.length=d / 2:=by rw[<- hr.2,hm.hints];simp
     have v8:=U1 (n:=q+1) (by omega);have r4:(zu (q+1)).size≠0:=by
      unfold zu;rw[Lib.itoa_nonneg];obtain⟨b,r,e,_⟩:=V4 (q+1);rw[e];show(b::r).toArray.size≠0;simp
     have hb:Yx ((1:Nat):Int) 2 (zu (q+1))=0:=by
      unfold Yx;rw[NU (by decide),NU (by omega)]
     unfold Yy;rw[b5.out.self,hb,NU (by simp),NU (by rw[b5.out.ro];simp),NU (by omega)]
    have e5:=Z (fun a (f:Fr Nil wr a)=>(HK.out.nil f).hint b0 c0.out (by omega) I.out D.out 2 (zu (q+1)) q8);have c1:=Z d5;clear d5 q8
    go_wp2_with (refine(v.out _ (O _ _)).mono ?_;rintro e a ⟨rfl,L⟩;subst a)
    go_region_held3 (fun a=>a.cell? ⟨J,1,none⟩=some (.pointer (some ⟨X.nb,0,none⟩))) (first|assumption|go_keep|exact E.out _ z8)
     (first
       | (go_at_call 31;refine(e5.out _ o.out).mono ?_;rintro e w4 ⟨er,X',N',M',rfl,c7,a3,f1,f6,d6⟩;have S:=Z (And.intro c7 (And.intro f6 (And.intro a3 d6)));have n5:w4.cell? ⟨J,1,none⟩=some (.pointer (some ⟨X.nb,0,none⟩)):=(by rw[<- a3];exact c7.st.IJ.cell 1);clear c7 a3 f1 f6 d6)
       | (go_at_call 29;refine(e0.out _ z8).mono ?_;rintro e wg ⟨rfl,fg⟩;have o:Hid (Fr Nil wr wg):=Fr.trans z8 fg;have b9:=E.out wg o.out;clear fg))
    have HE:Hid (WhE w K J d s t X.nb er w4):=by
     obtain⟨m,hm,hr,i5⟩:=b5.out.now c0.out;have hp:=c1.out;have hs:=hm.hint (by omega);rw[<- HQ.out] at hs;exact b5.out.aft c0.out (by omega) (by exact⟨rfl,rfl,rfl,rfl,rfl,rfl⟩) hs (S.out.2.2.2 m hr i5) S.out.2.1 S.out.1 S.out.2.2.1
    clear n0 n1 n2 b9 n5 e5 o S c1
   all_goals
    clear f0 t1 r7 e0 E HQ i0 v c0 b5 HK;obtain⟨X3,N3,M3,W3,i2,f4,h9⟩:=HE.out;have v:=Z (XT w4 X3.db X3.LD M3 i2.st.node.Hm);have p9:∀ k,w4.cell? ⟨J,k,none⟩=(zA X3.db (.pointer (some ⟨X3.nb,0,none⟩)) 1 2 (.slice none 0 0))[k]?:=i2.st.IJ.cell;simp only[zA] at p9;rw[f4] at p9;have T:=Z i2;have s3:=Z f4;clear f4;clear HE i2;rcases h9 with⟨rfl,k4,g8⟩|⟨x,rfl,s0,l3,g7,k1⟩
    .have HNI3:=Z k4
     have l:=Z g8;rw[g8.dead] at v;clear k4 g8;have ha:zR none=0:=rfl;have r8:IntKind.i64.wrap ((d:Int)+1)=(d:Int)+1:=by rw[Me];omega
     rw[ha];by_cases f2:K=0
     .have hg:decide ((K:Int)>0)=false:=by simp;omega
      have m7:((K:Int)==0)=true:=by simp;omega
      have s1:=Z f2;clear ha f2;by_cases a7:(pc:Int)=((d:Int)+1)%7
      .have hpb:((pc:Int)==((d:Int)+1)%7)=true:=by simp[a7]
       have v3:=Z a7;clear a7;have o7:=Z (T.out.sync b0 HNI3.out.choose_spec.choose_spec (by omega) I.out D.out l.out.ro);rw[s3.out] at o7;go_wp2_with fail;refine(e6.out _).mono ?_;rintro e a ⟨rfl,L⟩;subst a;go_wp2_with fail;refine v.out.mono ?_;rintro e a ⟨rfl,L⟩;subst a;go_wp2_with fail;refine o7.out.mono ?_;rintro e w5 ⟨v5,X4,N4,M4,rfl,f3,k0,j8,r3,b6,b8,b7,c6⟩;have v6:w5.cell? ⟨J,0,none⟩=some (.pointer (some ⟨X4.db,0,none⟩)):=f3.st.IJ.cell 0;rcases r3 with rfl|rfl
       .obtain⟨F5,p5,hn5⟩:=b7 rfl
        have k9:N4.readOnly=false:=by rw[hn5.ro];exact HNI3.out.choose_spec.choose_spec.ro.symm.trans l.out.ro
        have l1:N4.self=1:=by
         have h1:=hn5.self;have h2:=HNI3.out.choose_spec.choose_spec.self;have h3:=l.out.self;have h1:W3.node=(N4.self:Int):=h1;omega
        have A:Hid (WhR w K J (d+1) (d+1) (.int .i64 0) w5):=⟨X4,N4,M4,_,t+10+10,f3,.inl ⟨by omega,⟨F5,p5,hn5⟩,l.out.synced HNI3.out.choose_spec.choose_spec.cm.ne hn5.dead k9 (b6.2.fail.trans l.out.fail) (b8.trans l.out.room) l1,rfl⟩⟩;rw[show zR none=0 from rfl];clear f3 k0 j8 b6 b8 b7 c6 hn5 k9 l1;go_wp2_with fail;exact⟨⟨d+1,d+1,by omega,by push_cast;rfl,by push_cast;rfl,A.out⟩,by simp[intOf,okV];omega⟩
       .have hd5:=b6.dead HNI3.out.choose_spec.choose_spec.bd' (by omega) l.out.dead l.out.fail l.out.room (n:=0) (fun e=>by cases e) (by decide) (by simp)
        obtain⟨F5,p5,g3,_⟩:=c6 (by simp);have k2:W3.node=1:=by rw[HNI3.out.choose_spec.choose_spec.self,l.out.self];rfl
        have A:Hid (WhR w K J (d+1) s (.int .i64 9) w5):=⟨X4,N4,M4,_,t+10+10,f3,.inr ⟨by omega,⟨F5,p5,g3⟩,l.out.cut hd5,k2,rfl⟩⟩;rw[show zR (some 9)=9 from rfl];clear f3 k0 j8 b6 b8 b7 c6 hd5 g3 k2;go_wp2_with fail;exact⟨⟨d+1,s,by omega,by push_cast;rfl,rfl,A.out⟩,by simp[intOf,okV];omega⟩
      .have hpb:((pc:Int)==((d:Int)+1)%7)=false:=by rw[Ml];exact a7
       clear a7;go_wp2_with fail;refine(e6.out _).mono ?_;rintro e a ⟨rfl,L⟩;subst a;go_wp2_with fail;exact⟨⟨d+1,s,by omega,by push_cast;rfl,rfl,X3,N3,M3,W3,t+10,T.out,.inl ⟨by omega,HNI3.out,l.out,rfl⟩⟩,by simp[intOf,okV];omega⟩
     .have hg:decide ((K:Int)>0)=true:=by simp;omega
      have m7:((K:Int)==0)=false:=by simp;omega
      by_cases hm:(d+1)%K=0
      .have hm2:((d:Int)+1)%(K:Int)=0:=by exact_mod_cast hm
       clear ha;go_wp2_with fail;exact⟨⟨d+1,d+1,by omega,by push_cast;rfl,by push_cast;rfl,X3,N3,M3,W3,t+10,T.out,.inl ⟨by omega,HNI3.out,l.out.safe (by omega) hm,rfl⟩⟩,by simp[intOf,okV];omega⟩
      .have hm2:(((d:Int)+1)%(K:Int)==0)=false:=by rw[Ml];exact_mod_cast hm
       clear ha;go_wp2_with fail;exact⟨⟨d+1,s,by omega,by push_cast;rfl,rfl,X3,N3,M3,W3,t+10,T.out,.inl ⟨by omega,HNI3.out,l.out,rfl⟩⟩,by simp[intOf,okV];omega⟩
    .have ha:zR (some x)=x:=rfl
     rw[ha];clear ha;rw[g7.dead] at v;have x1:(x==0)=false:=by rw[Ml];exact s0
     have k6:okV (.int .i64 x)=0:=by show(if x=0 then 1 else 0)=0;rw[NU s0]
     have Y:=Z k6;have b4:=Z (And.intro l3 (And.intro g7 k1));clear k6 l3 g7 k1;by_cases f2:K=0
     .have hg:decide ((K:Int)>0)=false:=by simp;omega
      have m7:((K:Int)==0)=true:=by simp;omega
      have s1:=Z f2;have A:Hid (WhR w K J d s (.int .i64 x) w4):=⟨X3,N3,M3,W3,t+10,T.out,.inr ⟨by omega,b4.out.1,b4.out.2.1,b4.out.2.2,Y.out⟩⟩;clear f2;by_cases a7:(pc:Int)=(d:Int)%7
      .have hpb:((pc:Int)==(d:Int)%7)=true:=by simp[a7]
       clear a7;go_wp2_with fail;refine v.out.mono ?_;rintro e a ⟨rfl,L⟩;subst a;go_wp2_with fail;refine(e6.out _).mono ?_;rintro e a ⟨rfl,L⟩;subst a;go_wp2_with fail;refine v.out.mono ?_;rintro e a ⟨rfl,L⟩;subst a;go_wp2_with fail;exact⟨⟨d,s,by omega,rfl,rfl,A.out⟩,by rw[Y.out,h4.out];simp[intOf]⟩
      .have hpb:((pc:Int)==(d:Int)%7)=false:=by rw[Ml];exact a7
       clear a7;go_wp2_with fail;refine v.out.mono ?_;rintro e a ⟨rfl,L⟩;subst a;go_wp2_with fail;refine(e6.out _).mono ?_;rintro e a ⟨rfl,L⟩;subst a;go_wp2_with fail;exact⟨⟨d,s,by omega,rfl,rfl,A.out⟩,by rw[Y.out,h4.out];simp[intOf]⟩
     .have hg:decide ((K:Int)>0)=true:=by simp;omega
      have m7:((K:Int)==0)=false:=by simp;omega
      by_cases hm:d%K=0
      .have hm2:(d:Int)%(K:Int)=0:=by exact_mod_cast hm
       have A:Hid (WhR w K J d d (.int .i64 x) w4):=⟨X3,N3,M3,W3,t+10,T.out,.inr ⟨by omega,b4.out.1,b4.out.2.1.safe (by omega) hm,b4.out.2.2,Y.out⟩⟩;go_wp2_with fail;refine v.out.mono ?_;rintro e a ⟨rfl,L⟩;subst a;go_wp2_with fail;exact⟨⟨d,d,by omega,rfl,rfl,A.out⟩,by rw[Y.out,h4.out];simp[intOf]⟩
      .have hm2:((d:Int)%(K:Int)==0)=false:=by rw[Ml];exact_mod_cast hm
       have A:Hid (WhR w K J d s (.int .i64 x) w4):=⟨X3,N3,M3,W3,t+10,T.out,.inr ⟨by omega,b4.out.1,b4.out.2.1,b4.out.2.2,Y.out⟩⟩;go_wp2_with fail;refine v.out.mono ?_;rintro e a ⟨rfl,L⟩;subst a;go_wp2_with fail;exact⟨⟨d,s,by omega,rfl,rfl,A.out⟩,by rw[Y.out,h4.out];simp[intOf]⟩
  .have HX:Hid (∃ F p,Sh W M F p t):=a2.elim (fun x=>x.2.1.imp fun _ y=>y.imp fun _ z=>z.sh) (fun x=>x.2.1)
   have d1:Hid (t<=2000/\W.node=1/\∃ c2,s<=c2/\c2+W.st.length<=d+2/\Sems c2 W.st):=by
    rcases a2 with⟨ht,⟨F,p,i6⟩,d8,i7⟩|⟨ht,v7,r8,m9,i7⟩
    .exact⟨by omega,by rw[i6.self,d8.self];rfl,d8.GV.imp fun b h=>⟨h.1,by omega,h.2.2.1⟩⟩
    .exact⟨by omega,m9,r8.GV.imp fun b h=>⟨h.1,h.2.2.1,h.2.2.2.1⟩⟩
   clear a2 hk;by_cases i4:d<64
   case' pos =>
    have i0:decide ((d:Int)<64)=true:=by simp;omega
    have m6:M.dead=true:=by
     cases h:M.dead
     .exact absurd ⟨i4,h⟩ i1
     .rfl
    rw[m6] at v;clear m6 i1
    go_wp2_with (refine(v.out _ (O _ _)).mono ?_;rintro e a ⟨rfl,L⟩;subst a)
   case' neg =>
    have i0:decide ((d:Int)<64)=false:=by simp;omega
    clear i1;go_wp2_with fail
   all_goals
    have o3:Hid (d<=64):=hd;clear i4 i0 p8 v hd;obtain⟨Fx,px,n4⟩:=HX.out;have g6:=m0.out.1.fr HK.out.fr (fun _ _ _=>id);have h8:Bd M t:=by
     obtain⟨ss,hl,_⟩:=n4.lg;exact hl.bd
    have t0:=d1.out.1;have o1:=Z (V9 a9 Q tv wr X.db X.LD M HK.out.st.node.Hm q4.1 q4.2 g6 (fun k s8 e hk=>by have h1:=m0.out.1.own k s8 e;have h2:=HK.out.new k (.inr (.inr (.inr hk)));omega) m0.out.2 (fun f hf=>by have:=h8.file hf;omega) (by have:=h8.IM;omega) (fun x hx=>by have:=h8.Hq x hx;omega));obtain⟨F5,p5,g3⟩:=n4.Ht a9 Q;have o6:=Z g3;clear g3 n4 g6 h8;refine o1.out.mono ?_;rintro e w5 ⟨rfl,o8,c3⟩;have c8:=fun k (hk:Foot X.db X.LD M k)=>HK.out.new k (.inr (.inr (.inr hk)));have h6:Fr Nil w w5:=HK.out.fr.trans' c3.fr (fun i hi e=>by have:=c8 i e;omega);have m3:=HK.out.st.IJ.fr c3.fr (fun e=>HK.out.sep J (.inr (.inr (.inr e))) rfl);have c9:∀ k,Foot X.db o8 (M.Ht a9 Q) k->w.heap.size<=k:=fun k hk=>(c3.Hn k hk).elim (c8 k) (fun e=>NG HK.out.fr.size e);have p4:({W with Hs:=true}:WM).node=((1:Nat):Int):=d1.out.2.1;have a8:=Z (WL b0 B J X.db 1 2 (.pointer (some ⟨X.nb,0,none⟩)) (.slice none 0 0) {W with Hs:=true} o8 (M.Ht a9 Q) c 0 t w5 ⟨m3,c3.Hd⟩ (I.out.fr D.out h6 (fun _ e=>absurd e id)) (NG D.out h6.size) (NG D.out HK.out.low) (fun k hk=>NG D.out (c9 k hk)) ⟨F5,p5,o6.out⟩ (by omega) p4 (by decide) (by decide) hc ⟨by decide,by decide⟩);have h5:=Z (And.intro h6 (And.intro m3.lt c9));clear c8 h6 m3 c9 p4 t0 c3 o1;go_wp2_with fail;refine a8.out.mono ?_;rintro e w6 ⟨rfl,c4⟩;obtain⟨X6,N6,M6,W6,i3,⟨F6,p6,k5⟩,k8,-,-⟩:=Kpt.std h5.out.1 HK.out.low h5.out.2.1 h5.out.2.2 c4;obtain⟨c2,s9,r1,g4⟩:=d1.out.2.2;obtain⟨i,m,hi,l2,l0⟩:=Nm (W:={W with Hs:=true}) g4 k8 k5;have d3:=l2.asked l0;have d7:i<W.st.length:=hi;obtain⟨j,q9⟩:∃ j,j=c2+i:=⟨_,rfl⟩;rw[<- q9] at d3;have hj:s<=j/\j<=d+1/\j<=65:=by have:=o3.out;omega
    obtain⟨h,hh⟩:∃ h,h=N6.S.hints.length:=⟨_,rfl⟩;have u:=Z (And.intro d3 (And.intro hj hh));have V:=Z i3;have t8:h<40:=by have:=d3.1;omega
    have l8:=Z (RA X6 N6 M6 w6 i3.st.node (by omega));rw[<- hh] at l8;have s5:w6.cell? ⟨J,1,none⟩=some (.pointer (some ⟨X6.nb,0,none⟩)):=i3.st.IJ.cell 1;clear c4 a8 i3 k5 k8 s9 r1 g4 hi l2 l0 d3 d7 q9 hj hh h5 o6 HX d1 HK;go_wp2_with fail;refine l8.out.mono ?_;rintro e w7 ⟨lv,rfl,g0,f7,-⟩;obtain⟨a0,v4,rfl⟩:=zd g0;have e8:=Z g0;have c5:=Z f7;have s6:w7.cell? ⟨J,1,none⟩=some (.pointer (some ⟨X6.nb,0,none⟩)):=(V.out.nil f7).st.IJ.cell 1;have w0:IntKind.i64.wrap (2*(h:Int))=2*(h:Int):=by rw[Me];omega
    have r7:IntKind.i64.wrap ((h:Int)+1)=(h:Int)+1:=by rw[Me];omega
    have E:Hid (∀ a,Fr Nil w7 a->a.cell? ⟨J,1,none⟩=some (.pointer (some ⟨X6.nb,0,none⟩))):=fun a f=>(V.out.nil (c5.out.trans f)).st.IJ.cell 1;have j0:Hid (∀ a,Fr Nil w7 a->Calls Tryz.prog 29 #[.int .i64 ((h:Int)+1)] a fun e w'=>e=.returned (.string (zu (h+1)))/\Fr Nil a w'):=fun a f=>by
     have:=Yu (h+1) (by omega) a (I.out.fr D.out (V.out.fr.trans (c5.out.trans f)) (fun _ e=>absurd e id)).1.1;rw[show(((h+1:Nat)):Int)=(h:Int)+1 by push_cast;rfl] at this;exact this
    have i9:Hid (∀ a,Fr Nil w7 a->Calls Tryz.prog 29 #[.int .i64 (h:Int)] a fun e w'=>e=.returned (.string (zu h))/\Fr Nil a w'):=fun a f=>Yu h (by omega) a (I.out.fr D.out (V.out.fr.trans (c5.out.trans f)) (fun _ e=>absurd e id)).1.1;have d2:=Z (fun n9 a (f:Fr Nil w7 a)=>R0 X6 N6 M6 ZA n9 a (V.out.nil (c5.out.trans f)).st.node (by decide) (by have:=u.out.1.2.2.1;omega) (by have:=u.out.1.2.2.2.1;omega));have d0:=Z (fun a (f:Fr Nil w7 a)=>Tc X6 N6 M6 ZA a (V.out.nil (c5.out.trans f)).st.node (by decide) (by have:=u.out.1.2.2.1;omega) (by have:=u.out.1.2.2.2.1;omega));unfold ZA at d2 d0;clear g0 f7 s5 l8;obtain⟨b1,R⟩:∃ b,Y1 (zq N6.S.keys ZA) (zu (h+1))=b:=⟨_,rfl⟩;obtain⟨b2,a1⟩:∃ b,Y1 (zq N6.S.keys ZA) (zu h)=b:=⟨_,rfl⟩;obtain⟨b3,a6⟩:∃ b,decide (zq N6.S.keys ZA=[])=b:=⟨_,rfl⟩;have HB:=Z (And.intro R (And.intro a1 a6));unfold ZA at R a1 a6;have m2:=Z (fun a (f:Fr Nil w7 a)=>d2.out (zu (h+1)) a f);have m1:=Z (fun a (f:Fr Nil w7 a)=>d2.out (zu h) a f);rw[R] at m2;rw[a1] at m1;rw[a6] at d0;clear R a1 a6 d2;go_wp2_with fail
    go_region_held3 (fun a=>a.cell? ⟨J,1,none⟩=some (.pointer (some ⟨X6.nb,0,none⟩))) (first|assumption|go_keep|exact E.out _ z8)
     (first
       | (go_at_call 34;refine(m2.out _ o.out).mono ?_;rintro e w8 ⟨rfl,f8⟩;have e4:=Z (o.out.trans f8);have t4:=E.out w8 e4.out;clear f8)
       | (go_at_call 29;refine(j0.out _ z8).mono ?_;rintro e wg ⟨rfl,fg⟩;have o:Hid (Fr Nil w7 wg):=Fr.trans z8 fg;have b9:=E.out wg o.out;clear fg))
    clear s6 b9 o m2 j0;have d9:Hid (∀ a,Fr Nil w8 a->a.cell? ⟨J,1,none⟩=some (.pointer (some ⟨X6.nb,0,none⟩))):=fun a f=>E.out a (e4.out.trans f);go_wp2_with fail
    go_region_held3 (fun a=>a.cell? ⟨J,1,none⟩=some (.pointer (some ⟨X6.nb,0,none⟩))) (first|assumption|go_keep|exact d9.out _ z8)
     (first
       | (go_at_call 34;refine(m1.out _ (e4.out.trans o.out)).mono ?_;rintro e w9 ⟨rfl,f9⟩;have l6:=Z ((e4.out.trans o.out).trans f9);have t5:=E.out w9 l6.out;clear f9)
       | (go_at_call 29;refine(i9.out _ (e4.out.trans z8)).mono ?_;rintro e wg ⟨rfl,fg⟩;have o:Hid (Fr Nil w8 wg):=Fr.trans z8 fg;have b9:=d9.out wg o.out;clear fg))
    clear t4 b9 o m1 i9 d9;go_wp2_with fail;refine(d0.out _ l6.out).mono ?_;rintro e x2 ⟨rfl,o9⟩;have o2:=Z (l6.out.trans o9);clear o9 t5 d0;go_wp2_with fail;have t7:=o3.out
    go_loopw [22] (fun n8 wy=>∃ i:Nat,i<=h/\n8=.int .i64 i/\Fr Nil w7 wy) (fun n8 _=>h-(intOf n8).toNat)
    case atStart=>exact⟨0,NV _,rfl,o2.out⟩
    case round =>
     obtain⟨i,hi,rfl,hf⟩:=hrel;have HF:=Z hf;by_cases i4:i<h
     .obtain⟨g,cap',e1,_,_⟩:=zr e8.out (by have:=u.out.2.2;omega)
      simp only[Value.slice.injEq] at e1;obtain⟨rfl,-,-⟩:=e1;have d7:i<N6.S.hints.length:=by have:=u.out.2.2;omega
      have hx:N6.S.hints[i]=(2,zu (i+1)):=u.out.1.2.1 i d7;have m4:∀ a,Fr Nil wr a->a.cell? ⟨g,i*2,none⟩=some (.int .i64 2)/\a.cell? ⟨g,i*2+1,none⟩=some (.string (zu (i+1))):=fun a f=>by
       have h0:=own_cell? (za e8.out (hf.trans f) (fun _ _=>id)) _ _ (Ux N6.S.hints i d7).1;have h1:=own_cell? (za e8.out (hf.trans f) (fun _ _=>id)) _ _ (Ux N6.S.hints i d7).2;rw[hx] at h0 h1;exact⟨h0,h1⟩
      have o0:=Z m4;have f0:=m4 wr (O _ _);have v9:IntKind.i64.wrap ((i:Int)+1)=(i:Int)+1:=by rw[Me];omega
      have t9:((2:Int) != 2)=false:=by decide
      have e0:Hid (∀ a,Fr Nil wr a->Calls Tryz.prog 29 #[.int .i64 ((i:Int)+1)] a fun e w'=>e=.returned (.string (zu (i+1)))/\Fr Nil a w'):=fun a f=>by
       have:=Yu (i+1) (by omega) a (I.out.fr D.out (V.out.fr.trans (c5.out.trans (HF.out.trans f))) (fun _ e=>absurd e id)).1.1;rw[show(((i+1:Nat)):Int)=(i:Int)+1 by push_cast;rfl] at this;exact this
      clear m4 hx d7 hf;go_wp2_with fail
      go_region_held3 (fun a=>a.cell? ⟨g,i*2,none⟩=some (.int .i64 2)/\a.cell? ⟨g,i*2+1,none⟩=some (.string (zu (i+1)))) (first|assumption|go_keep|exact o0.out _ z8)
       (first|(go_at_call 29;refine(e0.out _ z8).mono ?_;rintro e wg ⟨rfl,fg⟩;have o:Hid (Fr Nil wr wg):=Fr.trans z8 fg;have b9:=o0.out wg o.out;clear fg))
      have s2:=Z (HF.out.trans o.out);clear b9 f0;go_wp2_with fail;exact⟨⟨i+1,by omega,by push_cast;rfl,s2.out⟩,by simp[intOf];omega⟩
     .obtain⟨⟨q1,_,_,_,q2⟩,⟨j1,j2,j3⟩,q3⟩:=u.out
      obtain⟨R,a1,a6⟩:=HB.out;have h7:Fr Nil w wr:=V.out.fr.trans (c5.out.trans hf);have l7:=Z h7;have v2:IntKind.i64.wrap (2*(h:Int)+1)=2*(h:Int)+1:=by rw[Me];omega
      have v1:IntKind.i64.wrap ((d:Int)+1)=(d:Int)+1:=by rw[Me];omega
      rw[<- q1,<- q3] at q2;rw[R,a1] at q2;rcases q2 with⟨ho,rfl⟩|⟨he,rfl,hq⟩
      .have g1:decide (2*(h:Int)+1>=(s:Int))=true:=by simp;omega
       have g2:decide (2*(h:Int)+1<=(d:Int)+1)=true:=by simp;omega
       have G:=Z (show s<=2*h+1/\2*h<=d by omega);clear V u HB R a1 a6 h7 hf q1 q3 ho j1 j2 j3;go_wp2_with fail;go_ret;have:=G.out;exact⟨by simp <;> omega,l7.out⟩
      .rcases hq with⟨hj0,rfl⟩|⟨hj0,hnil⟩
       .have g1:decide (2*(h:Int)>=(s:Int))=true:=by simp;omega
        have g2:decide (2*(h:Int)<=(d:Int)+1)=true:=by simp;omega
        have G:=Z (show s<=2*h/\2*h<=d+1 by omega);clear V u HB R a1 a6 h7 hf q1 q3 he hj0 j1 j2 j3;go_wp2_with fail;go_ret;have:=G.out;exact⟨by simp <;> omega,l7.out⟩
       .have h0:h=0:=by omega
        have r4:s=0:=by omega
        rw[hnil] at a1 a6;have e2:b2=false:=by rw[<- a1];rfl
        have e3:b3=true:=by rw[<- a6];rfl
        clear V u HB R a1 a6 h7 hf q1 q3 he hj0 j1 j2 j3 hnil;subst h0 r4 e2 e3;go_wp2_with fail;go_ret;exact⟨by simp <;> omega,l7.out⟩
end Go.Proofs.YtkhnggkkiefcdaaGreatDoor
