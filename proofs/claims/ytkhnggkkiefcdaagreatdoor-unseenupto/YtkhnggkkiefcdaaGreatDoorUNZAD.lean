/- larder: joined texts -/
import Derived.Test.YtkhnggkkiefcdaaGreatDoorUNZAB
import Derived.Test.YtkhnggkkiefcdaaGreatDoorUNZAC
import Derived.Test.YtkhnggkkiefcdaaGreatDoorUNAT
import Derived.Test.YtkhnggkkiefcdaaGreatDoorUNAV
import Derived.Test.YtkhnggkkiefcdaaGreatDoorUNAX
namespace Go.Proofs.YtkhnggkkiefcdaaGreatDoor
open Go.RowKit
set_option maxRecDepth 100000
set_option maxHeartbeats 8000000
theorem Rk.xA(q:zr){B:Nat}{D w:World}{Y n t x b:Nat}{j:Value}{W:WM}{X:NL}{N:NM}{M:DM}{F:List Fact}{p:Nat}(h:Rk D w Y n t x b j W X N M F p)(v:Z0 B D)(I:B<=D.heap.size)(ht:t+20<=980000) :
 Calls Tryz.prog 40 #[.pointer (some ⟨X.nb,0,none⟩)] w fun e O=>(∃ l:Bool,e=.returned (.tuple #[.bool l,.int .i64 0]))/\∃ C G A W' F' p',NStep X M w C G A O/\Rk D O Y n (t+3) x b j W' C G A F' p'/\G.S=N.S:=by
 obtain⟨y,T,S,hg⟩:=h.ni.kp.lg;obtain⟨hj,d⟩:=hg h.ro;have L:∃ i f,(N.mg=none->y.new=none)/\∀ m,N.mg=some m->Mgx M y m i f/\m.calls<=m.done.length+1:=by
  cases g:N.mg with
  | none=>rw[g] at d;exact⟨0,0,(fun _=>d),fun m e=>by cases e⟩
  | some m =>
   rw[g] at d;obtain⟨i,f,h1,h2⟩:=d;exact⟨i,f,(fun e=>by cases e),fun m' e=>by obtain rfl:=Hb e;exact⟨h1,h2⟩⟩
 obtain⟨i,f,K,s⟩:=L;have u:=h.ni.st;have r:N.S.Bh<9223372036854775808:=by have:=u.2.2.1;have:=h.ni.cm.calls;omega
 have hS:N.S=y.F.foldl SM.enter SM.nil:=by rw[S,<- Nv];exact h.ni.kp.held
 have c:=h.As;have J:∀ m,N.mg=some m->0+m.left.length<=980950:=fun m g=>by
  have hx:=(s m g).1.len;have a0:=T.fl;have a1:=(Yz y i).length_le;rw[Il] at hx;omega
 refine(OW q B X N M y p t 0 i f w h.kp.st.node (v.fr I h.kp.fr (fun _ e=>absurd e id)) (Im I h.kp.fr.size) (fun k hk=>Im I (h.kp.new k hk)) h.ro T hj (fun _=>rfl) J K s hS u.1 r (by omega)).mono ?_;rintro e O ⟨l,er,C,J',a2,A,y',rfl,a,o⟩;have g:=h.ni.merged o.lg (o.F.trans S) o.Af o.room o.full (fun Q=>⟨(o.AR Q).1,(o.AR Q).2.1⟩);obtain⟨rfl,c1,c2,_⟩:=g.Af.xz (n:=0) h.ni.bd (by omega) h.ni.dead h.cut h.fail c (fun e=>absurd (g.full e) (by rw[c];omega)) (by decide);have V:=g.AR rfl;rw[QT] at V a;exact⟨⟨l,rfl⟩,C,_,A,W,F,p,a,⟨h.kp.step a,V,c1,c2,h.ro,h.every,h.node,h.room,by have:=h.top;omega,h.BV⟩,rfl⟩
theorem Z2.xB(b:zr){B:Nat}{g w:World}{n k f sp j i nq:Nat}(h:Z2 g w n k f sp j i nq (Za n))(d:Z0 B g)(q:B<=g.heap.size)(t:f+20<=980000) :
 Calls Tryz.prog 40 #[.pointer (some ⟨nq,0,none⟩)] w fun e l=>∃ a:Bool,e=.returned (.tuple #[.bool a,.int .i64 0])/\Z2 g l n k (f+3) sp j i nq (Za n):=by
 refine(h.Az (U _ _) (tu:=f+3) (E:=fun _ e=>∃ a:Bool,e=.returned (.tuple #[.bool a,.int .i64 0])) (R:=fun S m=>m=S) (fun c W X N M F p s u=>by
  subst u;exact s.xA b d q t)).mono ?_
 rintro e l ⟨v,_,⟨a,r⟩,o,_⟩;exact⟨a,r,o.imp (fun S T _ _ x=>by rw[x.2];exact x.1)⟩
theorem Z2.xw(i:zr){B:Nat}{v w:World}{n Q r sp t O nq:Nat}(h:Z2 v w n Q r sp t O nq (Za n))(q:Z0 B v)(s:B<=v.heap.size)(ht:r<=890000)(y:n<4)(g:Int)(o:InR g) :
 Calls Tryz.prog 25 #[.pointer (some ⟨t,0,none⟩),.int .i64 g,.int .i64 0] w fun e R=>e=.returned (.bool true)/\∃ E,Z2 v R n Q (r+3) sp t O E (Za n):=by
 obtain⟨cp,J,Wp,Xp,Np,Y,T,pp,Wq,I,Nq,Mq,V,pq,K,d,L,M,h5,h6,N⟩:=h;have b:=d.kp;refine(Ri i B t I.db n J _ (.slice none 0 0) Wq I.LD Mq g 0 r w b.closed (q.fr s b.fr (fun _ e=>absurd e id)) (Im s b.fr.size) (Im s b.low) (fun k e=>Im s (b.new k (.inr (.inr (.inr (.inl e)))))) ⟨V,pq,d.ni.sh⟩ ht d.node y (by have:=d.top;omega) o (by decide)).mono ?_;rintro e R ⟨rfl,G,N',X,W',D,⟨S,p',A⟩,m,hc,hf,j,l,f⟩;have C:=Ic (u:=r+3) b.fr b.low b.st.Bi.lt (fun k e=>b.new k (.inr (.inr (.inr (.inl e))))) D A m hc hf j l f d.node d.room (by have:=d.top;omega);have c:=m.same d.ni d.ni.dead d.BV;refine⟨rfl,G.nb,cp,J+1,Wp,Xp,Np,Y,T,pp,W',G,N',X,S,p',K.beside f (fun k a e=>M k e (a.elim .inl (fun x=>.inr (.inl (.inr (.inr (.inr (.inl x)))))))) (fun k a=>a.elim (fun e=>by subst e;exact b.low) (fun x=>b.new k (.inr (.inr (.inr (.inl x)))))) (.inl L),C,L,fun k a e=>?_,h5,rfl,?_⟩
 .have hlt:=K.own_lt a
  rcases e with e|e|e
  .exact M k a (.inl e)
  .have:=j k e;omega
  .have:=l k e;omega
 .refine⟨?_,?_⟩
  .rw[c.1];exact N.1
  .rw[c.2];exact N.2
theorem Kpt.base{d j w:World}{c n a:Nat}{b:Value}{X:NL}{N:NM}{M:DM}(h:Kpt j w c n a b X N M)(f:Fr Nil d j):Kpt d w c n a b X N M :=
 ⟨h.st,f.trans h.fr,Im f.size h.low,fun k l=>Im f.size (h.new k l),h.sep,h.xe⟩
theorem Bare.rk{d w:World}{c n:Nat}{W:WM}{X:NL}{N:NM}{M:DM}{F:List Fact}{p:Nat}(a:Bare n W N M)(e:Kpt d w c n 1 (.slice none 0 0) X N M)(b:NI W N M F p 10):Rk d w c n 10 0 1 (.slice none 0 0) W X N M F p :=
 ⟨e,b,a.cut,a.fail,a.ro,a.every,a.node,a.room,by decide,a.BV⟩
theorem Zk.refl(n:Int):∀ K:Keys,Zk n K K
 | []=>trivial
 | a::K=>⟨rfl,zx.refl n a.2,Zk.refl n K⟩
theorem Jk{O K Q:World}{sp N n:Nat}{v y:WM}{A B:NL}{t u:NM}{r s:DM}(L:Kpt O K sp n 1 (.slice none 0 0) A t r)(d:∃ F p,NI v t r F p 10)(j:Bare n v t r)(o:Kpt K Q N n 1 (.slice none 0 0) B u s)(a:∃ F p,NI y u s F p 10)(c:Bare n y u s):Z2 O Q n 10 10 sp N A.nb B.nb (Za n):=by
 obtain⟨R,pp,d⟩:=d;obtain⟨S,pq,a⟩:=a;have q:=j.rk L d;have Y:=c.rk o a;refine⟨1,1,v,A,t,r,R,pp,y,B,u,s,S,pq,q.nil o.fr,c.rk (o.base L.fr) a,j.mg,fun k X e=>?_,rfl,rfl,?_⟩
 .have hlt:=q.own_lt X
  rcases e with e|e|e
  .have:=o.low;omega
  .have:=o.new k e;omega
  .have h1:=(o.st.node.held.Ag e)
   -- what is read alone lies behind K too
   obtain⟨m,E,l,_⟩:=c.st;obtain⟨I,b,f,_⟩:=a.now;rw[E] at b;have:I=m:=(Hb b).symm;subst this;obtain⟨x,M,_⟩:=e;have g:=o.st.node.held.pair.length;rw[<- f.1,l] at g;rw[IY g] at M;cases M
 .obtain⟨m,E,l,hh0⟩:=j.st
  obtain⟨m2,G,D,C⟩:=c.st;obtain⟨I,b,f,_⟩:=d.now;obtain⟨J,h,i,_⟩:=a.now;rw[E] at b;rw[G] at h;have T:I=m:=(Hb b).symm;have V:J=m2:=(Hb h).symm;subst T V;refine⟨?_,by rw[<- f.2,<- i.2,hh0,C]⟩;rw[<- f.1,<- i.1,l,D];exact Zk.refl _ _
theorem PQ(A:zr)(B:Nat)(node:Int)(a2:InR node)(h:List Int)(wv:Option Addr)(wn wc:Nat)(sa:Option Addr)(cp:Nat)(os:List OpM)(w:World)(a3:Z0 B w)(hB:B<=w.heap.size)(k6:os≠[]->∃ a,sa=some a/\a.block<w.heap.size/\PI w a os)(k5:∀ o∈os,Td w o)(e8:Yo w (.slice wv wn wc) h)(k7:∀ x,x∈h->InR x)(j8:10*os.length+6*min os.length h.length<=889000) :
 Calls Tryz.prog 12 #[.int .i64 node,.slice sa os.length cp,.slice wv wn wc] w fun e M=>e=.returned (.bool true)/\Fr Nil w M:=by
 have a8:=Z (fun b=>Wa node 4 b a2.1 a2.2 (by decide) (by decide));have S:=VP node (n:=4) (by decide);generalize Zh node 4=n at a8 S;have i1:=Z (NA A B n w a3 hB S);have E:=Z a3;have N:=Z hB;have m5:=Z k6;have m4:=Z k5;have l0:wn=h.length:=by
  rcases e8 with⟨⟨a,c,e⟩,rfl⟩|⟨g,L,m7,e,_⟩
  .simp only[GE] at e;exact e.2.1
  .simp only[GE] at e;exact e.2.1
 have m6:Hid (∀ i (Y:i<h.length),∃ g L,wv=some ⟨g,L,none⟩/\InR h[i]/\∀ b,Fr Nil w b->b.cell? ⟨g,L+i,none⟩=some (.int .i64 h[i])):=fun i Y=>by
  rcases e8 with⟨_,h0⟩|⟨g,L,m7,e,hg,_,hc⟩
  .rw[h0] at Y;exact absurd Y (Hj _)
  .simp only[GE] at e
   exact⟨g,L,e.1,k7 _ (Iu Y),fun b f=>by rw[f.cell (p:=⟨g,L+i,none⟩) hg id];exact hc i Y⟩
 obtain⟨m,hm⟩:∃ m,os.length=m:=⟨_,rfl⟩;have a6:=Z hm;obtain⟨q,K⟩:∃ q,h.length=q:=⟨_,rfl⟩;have i4:=Z K;rw[hm,K] at j8;rw[K] at l0;rw[hm];subst l0;clear a3 hB k6 k5 e8 k7 hm K;go_enter CT,Tryz.ntmps12;go_wp2_with fail;refine(a8.out _).mono ?_;rintro e b ⟨rfl,n8⟩;subst b;go_wp2_with fail;refine i1.out.mono ?_;rintro e w1 ⟨sp,Xp,Np,Mp,Wp,rfl,b4,b6,j0⟩;have a7:=Z (And.intro b4 (And.intro b6 j0));have i2:=Z (NA A B n w1 (E.out.fr N.out b4.fr (fun _ e=>absurd e id)) (Im N.out b4.fr.size) S);clear b4 b6 j0 i1;go_wp2_with fail;refine(a8.out _).mono ?_;rintro e b ⟨rfl,n8⟩;subst b;go_wp2_with fail;refine i2.out.mono ?_;rintro e w2 ⟨sq,Xq,Nq,Mq,Wq,rfl,b5,b7,j1⟩;have H2:=Z (Jk a7.out.1 a7.out.2.1 a7.out.2.2 b5 b7 j1);clear a7 b5 b7 j1 i2 a8;generalize Xp.nb=np at H2;generalize Xq.nb=o2 at H2;go_wp2_with fail
 go_loopw [9] (fun t9 M=>∃ i nq:Nat,i<=m/\t9=.int .i64 i/\Z2 w M n (10+10*i) (10+10*i+6*min i wn) sp sq np nq (Za n)) (fun t9 _=>m-(intOf t9).toNat)
 case atStart=>exact⟨0,o2,II _,rfl,H2.out.more (by omega) (by omega)⟩
 case round =>
  obtain⟨i,nq,Y,rfl,hr⟩:=hrel;by_cases p6:i<m
  .obtain⟨a,rfl,hab,hst⟩:=m5.out (fun e=>by have:=a6.out;rw[e] at this;simp at this;omega)
   have d:∀ k,k<14->wr.cell? ((a.add (i*14)).add k)=(os[i]'(by have:=a6.out;omega)).BS[k]?:=fun k hk=>by
    rw[hr.fr.cell (by rw[S9,S9];exact hab) id];exact hst i _ k hk
   have b8:Td w (os[i]'(by have:=a6.out;omega)):=m4.out _ (Iu _);generalize os[i]'(by have:=a6.out;omega)=o at d b8;have c5:=Z (fun b (f:Fr Nil wr b)=>MV A E.out N.out (hr.nil f) o b8 S (by omega) (by omega));obtain⟨c3,oa,ob,oc,r,c4,v,g0⟩:=o;simp only[OpM.BS,Ver.cells,IU,Hh] at d c5;have q0:=d 0 (by omega);rw[Kh] at q0;have q1:=d 1 (by omega);rw[ZF _ 1 (by decide)] at q1;have q2:=d 2 (by omega);rw[ZF _ 2 (by decide)] at q2;have q3:=d 3 (by omega);rw[ZF _ 3 (by decide)] at q3;have q4:=d 4 (by omega);rw[ZF _ 4 (by decide)] at q4;have q5:=d 5 (by omega);rw[ZF _ 5 (by decide)] at q5;have q6:=d 6 (by omega);rw[ZF _ 6 (by decide)] at q6;have q7:=d 7 (by omega);rw[ZF _ 7 (by decide)] at q7;have q8:=d 8 (by omega);rw[ZF _ 8 (by decide)] at q8;have q9:=d 9 (by omega);rw[ZF _ 9 (by decide)] at q9;have l1:=d 10 (by omega);rw[ZF _ 10 (by decide)] at l1;have l3:=d 11 (by omega);rw[ZF _ 11 (by decide)] at l3;have l4:=d 12 (by omega);rw[ZF _ 12 (by decide)] at l4;have l5:=d 13 (by omega);rw[ZF _ 13 (by decide)] at l5;have p4:(i:Int)<m:=by omega
   have HR:=Z hr;obtain⟨l6,l8,l7,rfl⟩:∃ ta tn tc,g0=.slice ta tn tc:=by obtain⟨l,hl,_⟩:=b8.Ai;exact hl.form
   have j2:=Blk.new wr [.int .i64 c3,.int .i64 oa,.int .i64 ob,.string r,.string c4,.int .i64 v.node,.int .i64 v.seq,.int .i64 v.o0,.int .i64 v.o1,.int .i64 v.o2,.int .i64 v.o3,.string v.value,.bool v.gone,.slice l6 l8 l7] 89;have n2:=j2.cell;have i9:Fr Nil wr (wr.alloc (.cells #[.int .i64 c3,.int .i64 oa,.int .i64 ob,.string r,.string c4,.int .i64 v.node,.int .i64 v.seq,.int .i64 v.o0,.int .i64 v.o1,.int .i64 v.o2,.int .i64 v.o3,.string v.value,.bool v.gone,.slice l6 l8 l7] 89)):=(U _ _).alloc _;have g3:=Z (c5.out _ i9);clear d hr b8 hst c5 j2 i9;go_wp2_with fail;refine g3.out.mono ?_;rintro e w6 ⟨rfl,h6,-⟩;have H6:=Z h6;have j3:=h6.cell;clear h6 g3 q0 q1 q2 q3 q4 q5 q6 q7 q8 q9 l1 l3 l4 l5 n2;have p9:IntKind.i64.wrap ((i:Int)+1)=(i:Int)+1:=by rw[Hg];omega
   by_cases j6:i<wn
   rotate_left
   .have hl2:¬(i:Int)<wn:=by omega
    go_wp2_with fail;exact⟨⟨i+1,nq,by omega,by push_cast;rfl,H6.out.more (by omega) (by omega)⟩,by simp[intOf];omega⟩
   .have hl2:(i:Int)<wn:=by omega
    obtain⟨g,L,rfl,f1,f0⟩:=m6.out i (by rw[i4.out];exact j6);have e9:=f0 w6 H6.out.fr;have i5:=Z f0;generalize h[i]'(by rw[i4.out];exact j6)=x at f1 e9 i5;have i6:=Z f1;clear f0 f1;cases h3:(x.tmod 3==0) with
    | false =>
     cases h7:(x.tmod 7==0) with
     | false =>
      go_wp2_with fail;exact⟨⟨i+1,nq,by omega,by push_cast;rfl,H6.out.more (by omega) (by omega)⟩,by simp[intOf];omega⟩
     | true =>
      have X:=Z (H6.out.xw A E.out N.out (by omega) S x i6.out);go_wp2_with fail;refine X.out.mono ?_;rintro e w8 ⟨rfl,f7,h8⟩;have H8:=Z h8;clear h8 X H6 j3 e9;go_wp2_with fail;exact⟨⟨i+1,f7,by omega,by push_cast;rfl,H8.out.more (by omega) (by omega)⟩,by simp[intOf];omega⟩
    | true =>
     have i3:=Z (H6.out.xB A E.out N.out (by omega));go_wp2_with fail;refine i3.out.mono ?_;rintro e w7 ⟨p0,rfl,d8⟩;have H7:=Z d8;have n7:=i5.out w7 d8.fr;clear d8 i3 H6 j3 e9;cases h7:(x.tmod 7==0) with
     | false =>
      go_wp2_with fail;exact⟨⟨i+1,nq,by omega,by push_cast;rfl,H7.out.more (by omega) (by omega)⟩,by simp[intOf];omega⟩
     | true =>
      have X:=Z (H7.out.xw A E.out N.out (by omega) S x i6.out);go_wp2_with fail;refine X.out.mono ?_;rintro e w8 ⟨rfl,f7,h8⟩;have H8:=Z h8;clear h8 X H7 n7;go_wp2_with fail;exact⟨⟨i+1,f7,by omega,by push_cast;rfl,H8.out.more (by omega) (by omega)⟩,by simp[intOf];omega⟩
  .obtain rfl:i=m:=by omega
   obtain⟨o8,o9,o6,u,t,d6,o4,r6,o7,y,R,d7,o5,r7,J,K,-,-,b6,b7,I,e6⟩:=hr;subst b6 b7;have m8:wr.cell? ⟨sp,1,none⟩=some (.pointer (some ⟨u.nb,0,none⟩))/\wr.cell? ⟨sp,2,none⟩=some (.int .i64 (n:Int))/\wr.cell? ⟨sq,1,none⟩=some (.pointer (some ⟨y.nb,0,none⟩)):=⟨J.kp.st.Bi.cell 1,J.kp.st.Bi.cell 2,K.kp.st.Bi.cell 1⟩;have O:Hid (∀ b,Fr Nil wr b->b.cell? ⟨sp,1,none⟩=some (.pointer (some ⟨u.nb,0,none⟩))/\b.cell? ⟨sp,2,none⟩=some (.int .i64 (n:Int))/\b.cell? ⟨sq,1,none⟩=some (.pointer (some ⟨y.nb,0,none⟩))):=fun b f=>⟨(J.nil f).kp.st.Bi.cell 1,(J.nil f).kp.st.Bi.cell 2,(K.nil f).kp.st.Bi.cell 1⟩;have n5:=J.ni.nk;have b5:=K.ni.nk;have G:=I.len;have h9:=Z (fun b (f:Fr Nil wr b)=>VF u t d6 b (J.nil f).kp.st.node (by omega));have d2:=Z (fun b (f:Fr Nil wr b)=>VF y R d7 b (K.nil f).kp.st.node (by omega));have n3:=J.ni.st.1.hlen;have g6:=Z (fun b (f:Fr Nil wr b)=>UJ u t d6 b (J.nil f).kp.st.node (by omega));have d1:=Z (fun b (f:Fr Nil wr b)=>UJ y R d7 b (K.nil f).kp.st.node (by rw[<- e6];omega));rw[<- e6] at d1;have k4:R.S.keys.map Prod.fst=t.S.keys.map Prod.fst:=by
    refine Dt (by rw[IE,IE,G]) fun i h1 h2=>?_;rw[IE] at h1 h2;rw[IR,IR];exact(I.get i h2 h1).1.symm
   rw[k4,<- G] at d2;have g4:Hid (∀ i (Y:i<t.S.keys.length),∃ l l2,zx n l l2/\l≠[]/\l.length<=4/\(∀ b,Fr Nil wr b->Calls Tryz.prog 24 #[.pointer (some ⟨u.nb,0,none⟩),.string t.S.keys[i].1] b fun e M=>∃ v',e=.returned (.tuple #[v',.int .i64 0])/\VRow M v' l/\Fr Nil b M)/\(∀ b,Fr Nil wr b->Calls Tryz.prog 24 #[.pointer (some ⟨y.nb,0,none⟩),.string t.S.keys[i].1] b fun e M=>∃ v',e=.returned (.tuple #[v',.int .i64 0])/\VRow M v' l2/\Fr Nil b M)):=fun i Y=>by
    have e3:i<R.S.keys.length:=by omega
    have e7:=Iu Y;have k0:=Iu e3;have e1:=Ny J.ni.st.1.Aa i Y;have e2:=Ny K.ni.st.1.Aa i e3;obtain⟨g1,g2⟩:=I.get i Y e3;have k1:=(J.ni.st.1.key _ e7).2.1;have k2:=(K.ni.st.1.key _ k0).2.1;refine⟨_,_,g2,J.ni.st.1.some _ e7,k1,fun b f=>?_,fun b f=>?_⟩
    .have:=SW u t d6 t.S.keys[i].1 b (J.nil f).kp.st.node (by omega) (by rw[e1];omega)
     rw[J.ni.st.1.names _ e7,IC rfl,IC rfl,e1] at this;refine this.mono ?_;rintro e M ⟨v',rfl,hv,f2,_⟩;exact⟨v',rfl,hv,f2⟩
    .have:=SW y R d7 R.S.keys[i].1 b (K.nil f).kp.st.node (by omega) (by rw[e2];omega)
     rw[K.ni.st.1.names _ k0,IC rfl,IC rfl,e2,<- g1] at this;refine this.mono ?_;rintro e M ⟨v',rfl,hv,f2,_⟩;exact⟨v',rfl,hv,f2⟩
   have m2:=Z J.kp.fr;clear J K I e6 G k4 b5;generalize t.S.keys=ks at *;generalize t.S.hints=hs at *;obtain⟨kn,b3⟩:∃ kn,ks.length=kn:=⟨_,rfl⟩;obtain⟨hn,b2⟩:∃ hn,hs.length=hn:=⟨_,rfl⟩;have h5:=Z (And.intro b3 b2);rw[b3] at n5;rw[b2] at n3;go_wp2_with fail;refine(h9.out wr (U _ _)).mono ?_;rintro e w3 ⟨kv,rfl,e4,f3,-⟩;obtain⟨ka,kc,rfl⟩:=zg e4;have g7:=Z e4;have c7:=Z f3;have m9:=O.out w3 f3;clear e4 f3 h9 m8;go_wp2_with fail;refine(d2.out w3 c7.out).mono ?_;rintro e w4 ⟨r5,rfl,e5,f4,-⟩;obtain⟨r3,r4,rfl⟩:=zg e5;have g8:=Z e5;have c0:=Z (ze g7.out f4 (fun _ _=>id));have a4:=Z (c7.out.trans f4);have n0:=O.out w4 a4.out;clear e5 f4 d2 m9 g7 c7;go_wp2_with fail;refine(g6.out w4 a4.out).mono ?_;rintro e w5 ⟨p7,rfl,d9,f5,-⟩;obtain⟨ha,p2,rfl⟩:=zg d9;have g5:=Z d9;have g9:=Z (ze c0.out f5 (fun _ _=>id));have c1:=Z (ze g8.out f5 (fun _ _=>id));have a5:=Z (a4.out.trans f5);have n1:=O.out w5 a5.out;clear d9 f5 g6 n0 c0 g8 a4;go_wp2_with fail;refine(d1.out w5 a5.out).mono ?_;rintro e w6 ⟨p8,rfl,e0,f6,-⟩;obtain⟨p1,p3,rfl⟩:=zg e0;have d0:=Z e0;have V:=Z (ze g5.out f6 (fun _ _=>id));have h4:=Z (ze g9.out f6 (fun _ _=>id));have c2:=Z (ze c1.out f6 (fun _ _=>id));have Q:=Z (a5.out.trans f6);clear e0 f6 d1 n1 g5 g9 c1 a5;rw[b2]
   try rw[b3]
   clear b3 b2;go_wp2_with fail
   go_loopw [18] (fun f8 M=>∃ j:Nat,j<=hn/\f8=.int .i64 j/\Fr Nil w6 M) (fun f8 _=>hn-(intOf f8).toNat)
   case atStart=>exact⟨0,II _,rfl,U _ _⟩
   case round =>
    obtain⟨j,hj,rfl,D⟩:=hrel;by_cases n4:j<hn
    .have hjn:j<hs.length:=by rw[h5.out.2];exact n4
     obtain⟨g1,i7,e1,_,_⟩:=zv V.out (by omega);obtain⟨g2,i8,e2,_,_⟩:=zv d0.out (by omega);simp only[GE] at e1 e2;obtain⟨rfl,-,-⟩:=e1;obtain⟨rfl,-,-⟩:=e2;have a0:=own_cell? (ze V.out D (fun _ _=>id)) _ _ (V7 hs j hjn).1;have a1:=own_cell? (ze V.out D (fun _ _=>id)) _ _ (V7 hs j hjn).2;have b0:=own_cell? (ze d0.out D (fun _ _=>id)) _ _ (V7 hs j hjn).1;have b1:=own_cell? (ze d0.out D (fun _ _=>id)) _ _ (V7 hs j hjn).2;generalize hs[j].1=x0 at a0 b0;generalize hs[j].2=x1 at a1 b1;have n6:(j:Int)<hn:=by omega
     have r0:IntKind.i64.wrap ((j:Int)+1)=(j:Int)+1:=by rw[Hg];omega
     have m0:=Z D;clear D hjn;go_wp2_with fail
     go_quiet (fail)
     go_wp2_with fail;exact⟨⟨j+1,by omega,by push_cast;rfl,m0.out.drewN _⟩,by simp[intOf];omega⟩
    .obtain rfl:j=hn:=by omega
     have l9:=Z D;clear D;go_wp2_with fail
     go_loopw [19] (fun f9 M=>∃ j:Nat,j<=kn/\f9=.int .i64 j/\Fr Nil w6 M) (fun f9 _=>kn-(intOf f9).toNat)
     case atStart=>exact⟨0,II _,rfl,l9.out⟩
     case round =>
      obtain⟨k,hk,rfl,D⟩:=hrel;by_cases j7:k<kn
      .have hkn2:k<ks.length:=by rw[h5.out.1];exact j7
       obtain⟨g1,i7,e1,_,_⟩:=zv h4.out (by omega);obtain⟨g2,i8,e2,_,_⟩:=zv c2.out (by omega);simp only[GE] at e1 e2;obtain⟨rfl,-,-⟩:=e1;obtain⟨rfl,-,-⟩:=e2;obtain⟨l,l2,I,k3,p5,j4,j5⟩:=g4.out k hkn2;have c8:=Z (fun b (f:Fr Nil wr b)=>j4 b ((Q.out.trans D).trans f));have c9:=Z (fun b (f:Fr Nil wr b)=>j5 b ((Q.out.trans D).trans f));have a9:∀ b,Fr Nil wr b->b.cell? ⟨g1,k,none⟩=some (.string ks[k].1)/\b.cell? ⟨g2,k,none⟩=some (.string ks[k].1):=fun b f=>⟨own_cell? (ze h4.out (D.trans f) (fun _ _=>id)) k _ (by simp[strs,hkn2]),own_cell? (ze c2.out (D.trans f) (fun _ _=>id)) k _ (by simp[strs,hkn2])⟩;generalize ks[k].1=r at a9 c8 c9;have T:Hid (∀ b,Fr Nil wr b->b.cell? ⟨sp,1,none⟩=some (.pointer (some ⟨u.nb,0,none⟩))/\b.cell? ⟨sp,2,none⟩=some (.int .i64 (n:Int))/\b.cell? ⟨sq,1,none⟩=some (.pointer (some ⟨y.nb,0,none⟩))/\b.cell? ⟨g1,k,none⟩=some (.string r)/\b.cell? ⟨g2,k,none⟩=some (.string r)):=fun b f=>⟨(O.out b ((Q.out.trans D).trans f)).1,(O.out b ((Q.out.trans D).trans f)).2.1,(O.out b ((Q.out.trans D).trans f)).2.2,(a9 b f).1,(a9 b f).2⟩;have n9:=T.out wr (U _ _);have n6:(k:Int)<kn:=by omega
       have r1:IntKind.i64.wrap ((k:Int)+1)=(k:Int)+1:=by rw[Hg];omega
       have m1:=Z D;have m3:=Z I;obtain⟨ln,j9⟩:∃ ln,l.length=ln:=⟨_,rfl⟩;have i0:=Z j9;have o3:((ln:Int)==0)=false:=by
        rw[Gj];have:=DD.2 k3;omega
       clear D j4 j5 a9 I hkn2 k3 j9;go_wp2_with fail
       go_region_held3 (fun b=>b.cell? ⟨sp,1,none⟩=some (.pointer (some ⟨u.nb,0,none⟩))/\b.cell? ⟨sp,2,none⟩=some (.int .i64 (n:Int))/\b.cell? ⟨sq,1,none⟩=some (.pointer (some ⟨y.nb,0,none⟩))/\b.cell? ⟨g1,k,none⟩=some (.string r)/\b.cell? ⟨g2,k,none⟩=some (.string r)) (first|assumption|go_keep|exact T.out _ zd)
        ((go_at_call 24;refine(c8.out _ zd).mono ?_;rintro e wa ⟨va,rfl,k8,fa⟩;have FA:Hid (Fr Nil wr wa):=Fr.trans zd fa;have o0:=T.out wa FA.out;have d4:=Z k8;clear k8 fa))
       have c6:Hid (∀ b,Fr Nil wa b->b.cell? ⟨sp,1,none⟩=some (.pointer (some ⟨u.nb,0,none⟩))/\b.cell? ⟨sp,2,none⟩=some (.int .i64 (n:Int))/\b.cell? ⟨sq,1,none⟩=some (.pointer (some ⟨y.nb,0,none⟩))/\b.cell? ⟨g1,k,none⟩=some (.string r)/\b.cell? ⟨g2,k,none⟩=some (.string r)):=fun b f=>T.out b (FA.out.trans f);have b9:=Z (fun b (f:Fr Nil wa b)=>c9.out b (FA.out.trans f));obtain⟨r8,r9,rfl⟩:=zg d4.out;clear n9 c8 c9;go_wp2_with fail
       go_region_held3 (fun b=>b.cell? ⟨sp,1,none⟩=some (.pointer (some ⟨u.nb,0,none⟩))/\b.cell? ⟨sp,2,none⟩=some (.int .i64 (n:Int))/\b.cell? ⟨sq,1,none⟩=some (.pointer (some ⟨y.nb,0,none⟩))/\b.cell? ⟨g1,k,none⟩=some (.string r)/\b.cell? ⟨g2,k,none⟩=some (.string r)) (first|assumption|go_keep|exact c6.out _ zd)
        ((go_at_call 24;refine(b9.out _ zd).mono ?_;rintro e wb ⟨vb,rfl,k9,fb⟩;have FB:Hid (Fr Nil wa wb):=Fr.trans zd fb;have o1:=c6.out wb FB.out;have d5:=Z k9;clear k9 fb))
       obtain⟨s0,s1,rfl⟩:=zg d5.out;have d3:=Z (MW _ _ l l2 n wb (VRow.fr d4.out FB.out (fun _ _=>id)) d5.out m3.out (by omega));rw[i0.out] at d3
       try rw[i0.out]
       clear o0 b9 c6;go_wp2_with fail;refine d3.out.mono ?_;rintro e wd ⟨rfl,fd⟩;have FD:Hid (Fr Nil wr wd):=(FA.out.trans FB.out).trans fd;have r2:=T.out wd FD.out;clear fd d3 o1 d4 d5;go_wp2_with fail
       go_quiet (fail)
       go_wp2_with fail;exact⟨⟨k+1,by omega,by push_cast;rfl,(m1.out.trans FD.out).drewN _⟩,by simp[intOf];omega⟩
      .obtain rfl:k=kn:=by omega
       go_wp2_with fail;go_ret;exact⟨rfl,(m2.out.trans Q.out).trans D⟩
section
variable {H:Type} {enc:TypeId × Value->H} {W:World} {sp:Nat->Bool} {held:Bool} {n:Nat}
theorem Jm{b:List Value}{x:DataW H × List MemPlace}(h:DataW.trod enc Tryz.prog W 0 sp held n 34 b=some x):3<=Rows.uptoBulk x.1:=by
 obtain⟨e,m,_,c,g,a,f⟩:=FZ DS h;rw[c];have:=Xk 1 (e.map (·.1)) (fun d _=>Zd d);rw[IE,a] at this;simp only[Rows.uptoBulk];exact EO this
theorem Ko{b:List Value}{x:DataW H × List MemPlace}(h:DataW.trod enc Tryz.prog W 0 sp held n 35 b=some x):5<=Rows.uptoBulk x.1:=by
 obtain⟨e,m,_,c,g,a,f⟩:=DataW.trod_array Tryz.underlying35 h;rw[c];have:=Xk 1 (e.map (·.1)) (fun d _=>Zd d);rw[IE,a] at this;simp only[Rows.uptoBulk];exact EO this
theorem PR{c:List Value}{x:DataW H × List MemPlace}(h:DataW.trod enc Tryz.prog W 0 sp held n 37 c=some x):11<=Rows.uptoBulk x.1:=by
 obtain⟨b,m,_,i,r,d,g⟩:=FZ DU h;have e:DataW.trod enc Tryz.prog W 0 sp held m 34 ((c.drop 0).take (Tryz.prog.cellsOf 34))=b[0]?:=g 0 _ rfl;have f:DataW.trod enc Tryz.prog W 0 sp held m 35 ((c.drop 2).take (Tryz.prog.cellsOf 35))=b[1]?:=g 1 _ rfl;have a:b.length=4:=d
 match b,a with
 | [s,t,j,k],_ =>
  simp only[Ga,GB] at e f;rw[i];simp only[Rows.uptoBulk,IJ,Gm,Rows.uptoBulkAll];have l:=Jm e;have o:=Ko f;have p:=Zd j.1;have q:=Zd k.1;omega
theorem JU{d:List Value}{x:DataW H × List MemPlace}(h:DataW.trod enc Tryz.prog W 0 sp held n 89 d=some x):18<=Rows.uptoBulk x.1:=by
 obtain⟨c,m,_,g,A,b,f⟩:=FZ Tryz.underlying89 h;have e:DataW.trod enc Tryz.prog W 0 sp held m 37 ((d.drop 5).take (Tryz.prog.cellsOf 37))=c[5]?:=f 5 _ rfl;have a:c.length=7:=b
 match c,a with
 | [i,j,k,l,o,B,p],_ =>
  simp only[Ga,GB] at e;rw[g];simp only[Rows.uptoBulk,IJ,Gm,Rows.uptoBulkAll];have q:=Zd i.1;have r:=Zd j.1;have s:=Zd k.1;have t:=Zd l.1;have u:=Zd o.1;have v:=PR e;have y:=Zd p.1;omega
end
theorem OZ{H:Type}{enc:TypeId × Value->H}{W:World}{b:Nat}{j:List Value}{x:DataW H × List MemPlace}(h:DataW.trod enc Tryz.prog W 0 (fun _=>true) true b 51 j=some x){a:Option Addr}{k c:Nat}(f:j=[.slice a k c]):18*k<=Rows.uptoBulk x.1:=by
 rcases CN DY h with⟨e,rfl⟩|⟨E,len,o,m,n,D,B,e,I,u,l,y,A,g⟩
 .rw[f] at e
  simp only[FW,GE,DK] at e;omega
 .rw[f] at e
  simp only[FW,GE,DK] at e;obtain⟨_,rfl,_⟩:=e;have v:k<=m:=by rw[y];split <;> omega
  rw[A];simp only[Rows.uptoBulk];have:=Xk 18 ((List.range k).map D) (fun d r=>by
   obtain⟨i,t,rfl⟩:=Iy.1 r;obtain⟨p,G,q⟩:=g i (by have:=EC.1 t;omega);exact JU q)
  rw[IE,DZ] at this;omega
theorem Kq{H:Type}{enc:TypeId × Value->H}{W:World}{b:Nat}{g:List Value}{x:DataW H × List MemPlace}(h:DataW.trod enc Tryz.prog W 0 (fun _=>true) true b 26 g=some x){a:Option Addr}{k c:Nat}(f:g=[.slice a k c]):k<=Rows.uptoBulk x.1:=by
 rcases CN Ex h with⟨e,rfl⟩|⟨u,len,j,m,n,D,t,e,v,o,i,q,r,l⟩
 .rw[f] at e
  simp only[FW,GE,DK] at e;omega
 .rw[f] at e
  simp only[FW,GE,DK] at e;obtain⟨_,rfl,_⟩:=e;have p:k<=m:=by rw[q];split <;> omega
  rw[r];simp only[Rows.uptoBulk];have:=Xk 1 ((List.range k).map D) (fun d _=>Zd d);rw[IE,DZ] at this;omega
end Go.Proofs.YtkhnggkkiefcdaaGreatDoor
