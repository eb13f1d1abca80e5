/- larder: joined texts -/
import Derived.Test.YtkhnggkkiefcdaaGreatDoorUNAJ
import Derived.Test.YtkhnggkkiefcdaaGreatDoorUNAK
import Derived.Test.YtkhnggkkiefcdaaGreatDoorUNAM
import Derived.Test.YtkhnggkkiefcdaaGreatDoorUNAO
import Derived.Test.YtkhnggkkiefcdaaGreatDoorUNAU
namespace Go.Proofs.YtkhnggkkiefcdaaGreatDoor
open Go.RowKit
set_option maxRecDepth 100000
set_option maxHeartbeats 8000000
def Z1(c:Nat)(d:Value)(node a:Int)(b:Value):List Value:=[.pointer (some ⟨c,0,none⟩),d,.int .i64 node,.int .i64 a,b]
def PF:ByteArray:={data:=#[107]}
theorem UT{n m:Nat}(h:n<m):Zh (n:Int) m=n:=by
 unfold Zh;rw[It (by omega),DV,Co h]
theorem J7(m:zr)(B sb db n:Nat)(nv:Value)(G:Int)(a9:Value)(LD:DL)(M:DM)(y:Lay)(p t:Nat)(w:World)(h:Blk w sb (Z1 db nv n G a9) 58)(d7:n<4)(hd:DRep w db LD M)(a8:Z0 B w)(hB:B<=w.heap.size)(hl:Lg M y p t)(hs:Sane y.held t)(ht:t<=900000) :
 Calls Tryz.prog 126 #[.pointer (some ⟨sb,0,none⟩)] w fun e w'=>e=.returned (.tuple #[])/\Fr Nil w w':=by
 have b2:∀ x,Fr Nil w x->∀ k,x.cell? ⟨sb,k,none⟩=(Z1 db nv n G a9)[k]?:=fun x f=>(h.fr f id).cell;have b9:=Z b2;have c9:=b2 w (U _ _);simp only[Z1] at c9;have a3:=Z a8;have A:=Z (Ka hd hl (by omega));have HR:=Z hl;have e9:Hid (∀ y':Lay,y'.F=y.F->Sane y'.held t):=fun y' e=>by unfold Lay.held;rw[e];exact hs
 have r:=Z hB;clear h hd b2 a8 hB hl hs;go_enter Tryz.func126,Tryz.ntmps126;go_wp2_with fail;refine A.out.mono ?_;rintro e w1 ⟨E,L1,ps,rfl,X,d8⟩;have K:∃ y1:Lay,y1.F=y.F/\Lg (((M.BA ps).Ab 0).BL 0 0) y1 p t:=⟨y.BA ps,Lay.AM ps y,((HR.out.BA d8).Ab 0).BL 0 0 (by decide) (by decide)⟩;obtain⟨y1,f3,K⟩:=K;generalize M.BA ps=M1 at X K;have N:∀ k,Foot E L1 M1 k->w.heap.size<=k:=X.new;have c8:w.heap.size<=E:=N E .Bi;have HO:=Z X;have a2:=Z N;have b7:=Z c8;have c6:=Z K;clear X N c8 c9 A K d8;go_wp2_with fail;refine(SG 0 w1 E L1 M1 HO.out.Bt).mono ?_;rintro e w2 ⟨rfl,d0,d1⟩;have e6:=Z (HO.out.fr.trans' (S':=fun k=>k=E) d1 (fun i hi e=>by have:=b7.out;omega));have c0:=Z d0;clear d0 d1;go_wp2_with fail;refine(Tm 0 0 w2 E L1 (M1.Ab 0) c0.out).mono ?_;rintro e w3 ⟨rfl,b3,d2⟩;have s:=Z (e6.out.trans' (S':=fun k=>k=E) d2 (fun i hi e=>by have:=b7.out;omega));have l:∀ k,Foot E L1 ((M1.Ab 0).BL 0 0) k->w.heap.size<=k:=a2.out;generalize (M1.Ab 0).BL 0 0=M3 at b3 l c6;have e3:=Z b3;have T:=Z l;have b0:=b9.out w3 s.out;simp only[Z1] at b0;clear b3 d2 l HO c0 a2;have b8:Hid (∀ x,Calls Tryz.prog 127 #[.int .i64 n,.int .i64 0,.int .i64 0] x fun e w'=>e=.returned (.agg #[.int .i64 n,.int .i64 1000,.int .i64 0])/\Fr Nil x w'):=fun x=>by
  have h0:=VZ n 0 0 x ⟨by omega,by omega⟩ ⟨by decide,by decide⟩ ⟨by decide,by decide⟩;rw[UT d7] at h0;exact h0
 have a5:ZV n 1000 0=true:=by
  unfold ZV zO;simp only[Hz,IF];omega
 have e2:Hid (∀ x,Fr Nil w x->x.cell? ⟨sb,2,none⟩=some (.int .i64 n)):=fun x f=>by rw[b9.out x f];rfl
 have e0:=Z a5;clear a5;go_wp2_with fail;refine(b8.out _).mono ?_;rintro e wc ⟨rfl,fc⟩;have FC:=Z fc;obtain⟨e1,M4,y4,⟨d6,c7,-,-,-,-,-,a6⟩,Y⟩:=K9 m B M3 n 1000 0 y1 p t e0.out c6.out (by omega);have Y:=Y E L1 wc (e3.out.nil FC.out) (a3.out.fr r.out (s.out.trans FC.out) (fun _ e=>absurd e id)) (Im r.out (s.out.trans FC.out).size) (fun k V=>Im r.out (T.out k V));have c4:=Z Y;have R:=Z (And.intro d6 (And.intro (e9.out y4 (c7.trans f3)) a6));clear Y d6 c7 a6;go_wp2_with fail;refine c4.out.mono ?_;rintro e w4 (h4|⟨n1,L4,-,rfl,a7⟩)
 rotate_left
 .have Q:=Z ((s.out.trans FC.out).trans' (S':=Foot E L1 M3) a7.fr (fun i hi e=>by have:=T.out i e;omega))
  clear a7 b0;go_wp2_with fail;exact GJ (v:=.tuple #[]) (by simp[results,go_sem]) rfl ⟨rfl,Q.out⟩
 obtain⟨f2,X4,rfl,b6,f1,I,_,d3⟩:=h4;have F4:=(s.out.trans FC.out).trans' (S':=Foot E L1 M3) d3 (fun i hi e=>by have:=T.out i e;omega);have b:∀ k,NFoot X4 M4 k->w.heap.size<=k:=fun k V=>(I k V).elim (T.out k) (fun e=>Im (s.out.trans FC.out).size e);have b4:Yf B X4 M4 w4:=⟨(a3.out.fr r.out F4 (fun _ e=>absurd e id)).1,Im r.out F4.size,fun k V=>Im r.out (b k V)⟩;have J:∀ g∈M4.ids,g<w4.heap.size:=fun g hg=>(b6.BM.files g hg).lt;have O:=MJ (H0:=w4.heap.size) R.out.1 (R.out.2.2 f2) (R.out.2.1.more (GA t)) (by omega) n d7 1000 0 J PF Xt (by decide) (by decide);have C:=Z (Ui m B X4 (NM.opened n 1000 0 y4) M4 PF Xt w4 b6 b4 (fun u hu=>((R.out.2.1.held.get PF).2.2 u hu).node) (fun _ _ _=>O.1 _ (Io _)));have c5:=Z O.2;have Q:=Z F4;have e4:=Z b4;have a0:=Z b;clear b0 b6 f1 I d3 F4 b b4 J O;unfold PF Xt at C;go_wp2_with fail;refine C.out.mono ?_;rintro e w5 ⟨f,g,X5,rfl,d4,d5,a4,c⟩;have a:=c5.out f g d4 d5 a4;unfold PF Xt at a;generalize ((NM.opened n 1000 0 y4).put M4 {data:=#[107]} {data:=#[97,32,116,114,105,97,108]} f g).2.2.1=N5 at c a;generalize ((NM.opened n 1000 0 y4).put M4 {data:=#[107]} {data:=#[97,32,116,114,105,97,108]} f g).2.2.2=M5 at c a;have F5:=Q.out.trans' (S':=NFoot X4 M4) c.fr (fun i hi e=>by have:=a0.out i e;omega);have o:∀ k,NFoot X5 M5 k->w.heap.size<=k:=fun k V=>(c.BF k V).elim (a0.out k) (fun e=>Im Q.out.size e);have b5:Yf B X5 M5 w5:=e4.out.step c;have L:=c.same.nb;have j:=Z (TE m B X5 N5 M5 (((n:Int)+1)%4) Xt w5 c.Bt b5 (fun h1 h2 h3=>a _ _ _ (fun g hg=>(c.Bt.BM.files g hg).lt) h1 h2 h3));unfold Xt at j;rw[L] at j;have f0:=e2.out w5 F5;have f5:IntKind.i64.wrap ((n:Int)+1)=(n:Int)+1:=by rw[Hg];omega
 have c1:=Z F5;have e5:=Z b5;have a1:=Z o;have c3:=Z L;clear c a F5 o b5 c5 C c4 d4 d5 a4 L;go_wp2_with fail;refine j.out.mono ?_;rintro e w6 ⟨f6,X6,rfl,f4,d⟩;generalize (N5.hint M5 _ _ f6).2.1=N6 at d;generalize (N5.hint M5 _ _ f6).2.2=M6 at d;have F6:=c1.out.trans' (S':=NFoot X5 M5) d.fr (fun i hi e=>by have:=a1.out i e;omega);have q:∀ k,NFoot X6 M6 k->w.heap.size<=k:=fun k V=>(d.BF k V).elim (a1.out k) (fun e=>Im c1.out.size e);have D:=Z (Vr m B X6 N6 M6 w6 d.Bt (e5.out.step d));rw[d.same.nb,c3.out] at D;have e7:=Z F6;have c2:=Z q;clear d F6 q f0;go_wp2_with fail;refine D.out.mono ?_;rintro e w7 ⟨X7,rfl,d9⟩;have e8:=Z (e7.out.trans' (S':=NFoot X6 M6) d9.fr (fun i hi e=>by have:=c2.out i e;omega));clear d9;go_wp2_with fail;exact GJ (v:=.tuple #[]) (by simp[results,go_sem]) rfl ⟨rfl,e8.out⟩
theorem NI.sh{W:WM}{N:NM}{M:DM}{F:List Fact}{p t:Nat}(h:NI W N M F p t):Sh W M F p t:=by
 obtain⟨y,b,a,_⟩:=h.kp.lg;exact⟨⟨y,b,a⟩,h.cm,h.room,.inl ⟨h.yG,.inl h.BR⟩⟩
theorem Cm.BV{W:WM}{t:Nat}(h:Cm W t)(b:Bool):Cm {W with BV:=b} t :=
 ⟨h.AV,h.calls,h.ww,h.len,h.ne,h.next,h.base,h.xF,h.xH,h.xL,h.xI,h.xJ,h.xG,h.BT⟩
theorem Sh.Bw{W:WM}{M:DM}{F:List Fact}{p t:Nat}(h:Sh W M F p t)(f:Int)(d:List Int):∃ D N,Sh {W with BV:=true} (M.Bw f d) D N t:=by
 obtain⟨y,K,I⟩:=h.lg;obtain⟨j,B,c,e⟩:=K.Bw f d;rw[I] at c;refine⟨j.F,j.F.length,⟨j,B,rfl⟩,h.cm.BV true,h.room,?_⟩;rcases h.all with⟨E,k⟩|⟨_,st,m,n,o,r,x,s,A,L,l,C,g⟩
 .exact .inl ⟨E.cut c e,.inr ⟨.inl rfl,k.elim (fun k=>k.cut c e) (fun k=>k.2.cut c e)⟩⟩
 .by_cases hlen:j.F.length=F.length
  .have he:j.F=F:=c.eq_of_length hlen
   rw[he] at e |-;refine .inr ⟨.inl rfl,st,m,n,o,r,x,s,fun h=>?_,L,l,fun q a b=>C q (Im e a) b,fun q a b=>g q (Im e a) b⟩;rw[s,Il,Ix] at h;omega
  .have hl3:j.F.length<=r.length:=by
    have u:=c.length_le;rw[s,Il,Ix] at u hlen;omega
   have i:j.F<+:r:=by
    have u:r<+:F:=by rw[s];exact Ep _ _
    exact Ec c u hl3
   have J:=(A (Im e hl3)).cut i e;refine .inl ⟨fun q a b=>?_,.inr ⟨.inl rfl,?_⟩⟩
   .have h5:=C q (Im e a) (Im b c.length_le)
    have G:=g q (Im e a) (Im b hl3);rw[VO c b];exact⟨h5.1,Im (EN l) h5.2.1,h5.2.2.1,G⟩
   .show Hist W.st _ _ _
    rw[o];exact J.maybe m
theorem Sh.BA{W:WM}{M:DM}{F:List Fact}{p t:Nat}(h:Sh W M F p t){a:List (Nat × Nat)}(d:Pairs M a):Sh W (M.BA a) F p t:=by
 obtain⟨y,c,b⟩:=h.lg;exact⟨⟨y.BA a,c.BA d,(Lay.AM a y).trans b⟩,h.cm,h.room,h.all⟩
theorem Zx.called{node:Int}{c d:Nat}{F:List Fact}{p:Nat}(h:Zx node c d F p):Zx node (c+1) d F p:=fun q a b=>(h q a b).mono (GA _) (Io _) (h q a b).2.1
theorem Sh.called{W:WM}{M:DM}{F:List Fact}{p t:Nat}(h:Sh W M F p t):Sh {W with calls:=W.calls+1} M F p (t+1):=by
 obtain⟨y,q,o⟩:=h.lg;have a:=h.cm.more (u:=t+1) (by omega);have f:=h.cm.calls;refine⟨⟨y,q.more (by omega),o⟩,⟨a.AV,(by show W.calls+1<=_;omega),a.ww,a.len,a.ne,a.next,a.base,a.xF,a.xH,a.xL,a.xI,a.xJ,a.xG,a.BT⟩,h.room,?_⟩;rcases h.all with⟨f,i⟩|⟨l,st,m,n,e,g,x,j,c,r,d,k,b⟩
 .exact .inl ⟨f.called,i⟩
 .exact .inr ⟨l,st,m,n,e,g,x,j,c,r,d,k.called,b⟩
theorem Sh.found{W:WM}{M:DM}{p t:Nat}{y:Lay}(h:Sh W M y.F p t)(hl:Lg M y p t)(a7:y.new=none)(j:M.dead=false)(g b a:Nat)(a6:W.node=(g:Int))(a5:g<4)(r:WM)(hW:r={W with calls:=W.calls+1,broken:=false,every:=a,writes:=0}) :
 ∃ i m J A,r.st[i]?=some m/\X0 r (NM.opened g b a y) m=(J,some A)/\(∀ k m,i<k->r.st[k]?=some m->X0 r (NM.opened g b a y) m=(r.most,none))/\(r.BV=true\/i+1=r.st.length) /\
  NI {r with most:=J,st:=r.st.take i++[A],BV:=false} (NM.opened g b a y) M y.F p (t+1):=by
 subst hW;have f:=hl.yc;have N:Kp (NM.opened g b a y) M y.F p (t+1) ((NM.opened g b a y).readOnly=false):=(hl.opened a7 g b a _).mono id (by omega);have c:(NM.opened g b a y).S=atF y.F y.F.length:=N.held;have S:(NM.opened g b a y).readOnly=false:=rfl;have mk:∀ (i J:Nat) (A:LM),i<W.st.length->MOk W.node A (t+1)->Hist (W.st.take i++[A]) y.F p True->Zx W.node (W.calls+1) J y.F p ->
  NI {W with calls:=W.calls+1,broken:=false,every:=a,writes:=0,most:=J,st:=W.st.take i++[A],BV:=false} (NM.opened g b a y) M y.F p (t+1):=fun i J A hi B hh V=>by
  have s:=h.cm.more (u:=t+1) (by omega);have h1:=h.cm.calls;have I:=h.cm.len;have l:=V _ f (Io _);rw[<- c] at l;exact {
   kp:=N
   cm:=⟨fun m o=>by
    rcases Ir.1 o with e|e
    .exact s.AV m (He e)
    .rw[Iv] at e;subst e;exact B,(by show W.calls+1<=_;omega),II _,(by show(W.st.take i++[A]).length<=_;rw[Il,Ip,Ix];omega),(by show 0<(W.st.take i++[A]).length;simp),s.next,s.base,s.xF,s.xH,s.xL,s.xI,s.xJ,s.xG,s.BT⟩
   room:=h.room
   BR:=hh
   yG:=V
   ro:=rfl
   self:=a6
   nd:=a5
   most:=l.2.1
   given:=Io _
   xm:=fun _ D=>absurd D (CW _)
   every:=rfl
   wr:=fun _ _=>by show 0=0%_;rw[Nat.zero_mod]
   nw:=II _
   dead:=j}
 rcases h.all with⟨h1,I⟩|⟨hd,st,m,n,l,F0,x,Y,a1,X,D,V,a8⟩
 .have h1':=h1.called
  have d:=h1' _ f (Io _);rw[<- c] at d;obtain⟨T,hh,hT⟩:∃ T:Prop,Hist W.st y.F p T/\(T\/W.BV=true):=by
   rcases I with I|⟨hd,I⟩
   .exact⟨True,I,.inl trivial⟩
   .exact⟨False,I,.inr (hd.resolve_right (by rw[j];decide))⟩
  obtain⟨i,m,B,hr,Q,a0,C⟩:=hh.found f;rw[<- c] at hr Q;have a3:=(IQ.1 B).1;exact⟨i,m,W.most,m,B,Kc (W:={W with calls:=W.calls+1,broken:=false,every:=a,writes:=0}) d.1 S hr,fun k m2 hk o=>J0 (W:={W with calls:=W.calls+1,broken:=false,every:=a,writes:=0}) d.1 d.2.2.2 (h.cm.AV m2 (GS o)).zero (fun e=>Q k m2 hk o e.2),hT.elim (fun x=>.inr (C x)) .inl,
   mk i W.most m a3 ((h.cm.AV m (GS B)).more (by omega)) a0 h1'⟩
 .have hfell:W.BV=true:=hd.resolve_right (by rw[j];decide)
  have L:=V.called;have d:=L _ f (Io _);rw[<- c] at d X;have B:W.st[st.length]?=some m:=by rw[l];simp
  have O:(NM.opened g b a y).S.keys.length=m.keys.length:=by
   obtain⟨K,E,v,k1,k2,k3,k4,k5,k6,k7,k8⟩:=X;rw[k6,k7,Y5 E _ k1,Y5 E _ k1];simp only[Du,Hy,ZU,Il,Ix]
  have a2:m.hints=(NM.opened g b a y).S.hints:=by obtain⟨K,E,v,k1,k2,k3,k4,k5,k6,k7,k8⟩:=X;exact k8
  have q:=h.cm.AV m (GS B);have a4:MOk W.node {m with keys:=(NM.opened g b a y).S.keys} (t+1):=⟨d.1.Aa,by show(NM.opened g b a y).S.keys.length<=_;rw[O];have:=q.keys;omega,fun e he=>by have:=(d.1.key e he).2.1;omega,q.hints,d.1.given.zero,q.node⟩;have R:=Hist.push (F:=F0) (G:=[x]) (by simp) (fun hp=>a1 hp) (by rw[<- Y];exact f) {m with keys:=(NM.opened g b a y).S.keys} (by rw[<- Y,<- c];exact⟨rfl,a2⟩);rw[<- Y] at R;refine⟨st.length,m,n,_,B,OS (W:={W with calls:=W.calls+1,broken:=false,every:=a,writes:=0}) X D (by have:=d.2.1;have:=d.2.2.1;show n<=16*(W.calls+1);omega) S,fun k m2 hk o=>?_,.inl hfell,mk st.length n _ (by rw[l];simp) a4 ?_ L⟩
  .have:=(IQ.1 o).1
   have e:({W with calls:=W.calls+1,broken:=false,every:=a,writes:=0}:WM).st.length=st.length+1:=by show W.st.length=_;rw[l];simp
   omega
  .rw[l,EB]
   exact R
theorem NI.bd{W:WM}{N:NM}{M:DM}{F:List Fact}{p t:Nat}(h:NI W N M F p t):Bd M t:=by
 obtain⟨b,a,_⟩:=h.kp.lg;exact a.bd
theorem NI.more{W:WM}{N:NM}{M:DM}{F:List Fact}{p t u:Nat}(h:NI W N M F p t)(a:t<=u):NI W N M F p u :=
 {h with kp:=h.kp.mono id a,cm:=h.cm.more a,nw:=Im h.nw a}
theorem Sh.more{W:WM}{M:DM}{F:List Fact}{p t u:Nat}(h:Sh W M F p t)(a:t<=u):Sh W M F p u:=by
 obtain⟨d,c,b⟩:=h.lg;exact⟨⟨d,c.more a,b⟩,h.cm.more a,h.room,h.all⟩
theorem NI.sync{W:WM}{N:NM}{M:DM}{F:List Fact}{p t:Nat}(h:NI W N M F p t)(T:t<=980000)(g:N.readOnly=false) :
 ((N.Bz M).1=0/\(N.Bz M).2.2.refused=M.refused/\∃ l i,NI {W with st:=W.st.drop (W.st.length-1)} (N.Bz M).2.1 (N.Bz M).2.2 l i (t+2)) \/
   ((N.Bz M).1=9/\(N.Bz M).2.2.refused=M.refused+1/\(N.Bz M).2.2.Bo=M.Bo/\∃ l i,Sh {W with broken:=true} (N.Bz M).2.2 l i (t+2)/\((N.Bz M).2.2.dead=false->NI {W with broken:=true} (N.Bz M).2.1 (N.Bz M).2.2 l i (t+2))):=by
 obtain⟨e,D,E,i,O,w,o,y,j⟩:=TR (h.kp.mono (fun _=>g) (Io _)) (by omega);have B:N.Bz M=(ZA e,({N with J:=D}:NM).Af e,E):=by
  unfold NM.Bz;rw[It (by rw[g];decide),O]
 rw[B];simp only;have d:E.room=W.As:=w.room.trans h.room;have c:Zx W.node W.calls W.most F i:=fun q a b=>h.yG q (Im o a) b;have S:=h.nw;rcases w.Af.1 with⟨rfl,s,G,Q⟩|⟨s,⟨rfl,G⟩|⟨rfl,_⟩⟩
 .obtain⟨ml,hml,hrel,hpos⟩:=h.BR.last h.kp.le
  have A:=j rfl;have C:W.st.drop (W.st.length-1)=[ml]:=by
   have L:=Hs (show W.st.length-1<W.st.length by omega);rw[IB (by omega)] at hml;rw[L,Hb hml,Hn (by omega)]
  have f:=w.kp;refine .inl ⟨rfl,s,F,i,?_⟩;rw[C];have k:=h.cm.AV ml (GS hml);have I:=h.cm.len;exact {h with
   kp:=⟨f.lg.imp fun K x=>⟨x.1,x.2.1,fun _=>x.2.2 rfl⟩,f.held⟩
   cm:=(h.cm.more (u:=t+2) (by omega)).AP (W':={W with st:=[ml]}) rfl (fun m J=>by rw[Iv] at J;subst J;exact k.more (by omega)) (by show 1<=_;omega) (by show 0<1;omega) ((h.cm.more (u:=t+2) (by omega)).ww) rfl rfl rfl rfl
   room:=d
   BR:=by rw[A];exact Hist.one ml hrel
   yG:=c
   ro:=by show(N.readOnly||false)=_;rw[Bool.or_false];exact h.ro
   xm:=fun _ v q a b=>h.xm g v q (Im o a) b
   wr:=fun _=>h.wr g
   nw:=by show N.writes<=_;omega
   dead:=Q.trans h.dead}
 .refine .inr ⟨rfl,s,G,F,i,⟨w.kp.lg.imp fun K x=>⟨x.1,x.2.1⟩,(h.cm.more (u:=t+2) (by omega)).AP (W':={W with broken:=true}) rfl (h.cm.more (u:=t+2) (by omega)).AV (h.cm.more (u:=t+2) (by omega)).len h.cm.ne (h.cm.more (u:=t+2) (by omega)).ww rfl rfl rfl rfl,d,.inl ⟨c,.inl (h.BR.mono o id)⟩⟩,fun R=>?_⟩
  have f:=w.kp;have r:(({N with J:=D}:NM).Af (some 9)).readOnly=true:=by show(N.readOnly||true)=true;rw[Bool.or_true]
  exact {h with
   kp:=⟨f.lg.imp fun K x=>⟨x.1,x.2.1,fun e=>by rw[r] at e;cases e⟩,f.held⟩
   cm:=(h.cm.more (u:=t+2) (by omega)).AP (W':={W with broken:=true}) rfl (h.cm.more (u:=t+2) (by omega)).AV (h.cm.more (u:=t+2) (by omega)).len h.cm.ne (h.cm.more (u:=t+2) (by omega)).ww rfl rfl rfl rfl
   room:=d
   BR:=h.BR.mono o id
   yG:=c
   ro:=r
   xm:=fun e=>by rw[r] at e;cases e
   wr:=fun e=>by rw[r] at e;cases e
   nw:=by show N.writes<=_;omega
   dead:=R}
 .exact absurd rfl y
structure StC(w:World)(sb db:Nat)(nv:Value)(n calls:Nat)(nums:Value)(LD:DL)(M:DM):Prop where
 Bi:Blk w sb (Z1 db nv n calls nums) 58
 BM:DRep w db LD M
structure StO(w:World)(sb n calls:Nat)(nums:Value)(X:NL)(N:NM)(M:DM):Prop where
 Bi:Blk w sb (Z1 X.db (.pointer (some ⟨X.nb,0,none⟩)) n calls nums) 58
 node:NRep w X N M
theorem JI:¬DTy 58:=by unfold DTy;decide
theorem StC.sep{w:World}{e d:Nat}{f:Value}{n a:Nat}{b:Value}{c:DL}{M:DM}(h:StC w e d f n a b c M):¬Foot d c M e:=h.BM.apart h.Bi.ty JI
structure Opd(W:WM)(M:DM)(syn:Nat)(N:NM)(M':DM)(W':WM):Prop where
 refused:M'.refused=M.refused
 Bo:M'.Bo=M.Bo
 calls:M.calls<=M'.calls
 room:M'.room=M.room
 cut:M'.cut=M.cut\/M'.cut=0
 fail:M'.fail=M.fail\/M'.fail=0
 mg:N.mg=none
 found:∃ (BV:Bool) (i mo:Nat) (m m':LM),(M.dead=false->BV=W.BV)/\W.st[i]?=some m/\(BV=true\/i+1=W.st.length) /\
  X0 {W with BV:=BV,calls:=W.calls+1,broken:=false,every:=syn,writes:=0} N m=(mo,some m') /\
  W'={W with calls:=W.calls+1,broken:=false,every:=syn,writes:=0,most:=mo,st:=W.st.take i++[m'],BV:=false}
structure Rst(W:WM)(M:DM)(t:Nat)(BV:Bool)(M1:DM)(y:Lay)(p:Nat):Prop where
 sh:Sh {W with BV:=BV} M1 y.F p t
 lg:Lg M1 y p t
 dead:M1.dead=false
 same:M.dead=false->BV=W.BV
 refused:M1.refused=M.refused
 Bo:M1.Bo=M.Bo
 calls:M1.calls=M.calls
 room:M1.room=M.room
 cut:M1.cut=M.cut\/M1.cut=0
 fail:M1.fail=M.fail\/M1.fail=0
theorem Sh.yR{W:WM}{M:DM}{F:List Fact}{p t:Nat}(h:Sh W M F p t):∃ y,Lg M y p t/\Sh W M y.F p t:=by
 obtain⟨y,b,a⟩:=h.lg;exact⟨y,b,by rw[a];exact h⟩
theorem Sh.xb{W:WM}{M:DM}{y:Lay}{p t:Nat}(h:Sh W M y.F p t):Sane y.held t:=by
 have:=h.wk.2;unfold atF at this;rw[ID] at this;exact this
theorem Rst.Bw{W:WM}{M:DM}{F:List Fact}{p t:Nat}(h:Sh W M F p t)(f:M.dead=true)(b:Int)(a:List Int):∃ y c,Rst W M t true (M.Bw b a) y c:=by
 obtain⟨j,c,d⟩:=h.Bw b a;obtain⟨y,g,i⟩:=d.yR;exact⟨y,c,i,g,rfl,(fun e=>by rw[f] at e;cases e),rfl,rfl,rfl,rfl,.inr rfl,.inr rfl⟩
theorem Rst.stay{W:WM}{M:DM}{F:List Fact}{p t:Nat}(h:Sh W M F p t)(a:M.dead=false):∃ y d,Rst W M t W.BV M y d:=by
 obtain⟨y,b,c⟩:=h.yR;exact⟨y,p,c,b,a,fun _=>rfl,rfl,rfl,rfl,rfl,.inl rfl,.inl rfl⟩
theorem Rst.BA{W:WM}{M:DM}{t:Nat}{a:Bool}{b:DM}{y:Lay}{p:Nat}(h:Rst W M t a b y p){c:List (Nat × Nat)}(d:Pairs b c):Rst W M t a (b.BA c) (y.BA c) p :=
 ⟨by rw[Lay.AM];exact h.sh.BA d,h.lg.BA d,h.dead,h.same,h.refused,h.Bo,h.calls,h.room,h.cut,h.fail⟩
theorem Sh.xq{W:WM}{M c:DM}{F:List Fact}{p t u:Nat}(h:Sh W M F p t){y:Lay}(f:Lg c y p u)(e:y.F=F)(g:c.room=M.room)(d:M.dead=true->c.dead=true)(i:t<=u):Sh W c F p u:=by
 refine⟨⟨y,f,e⟩,h.cm.more i,g.trans h.room,?_⟩;rcases h.all with⟨a,b⟩|⟨a,b⟩
 .exact .inl ⟨a,b.imp id fun x=>⟨x.1.imp id d,x.2⟩⟩
 .exact .inr ⟨a.imp id d,b⟩
theorem Rst.opd{W:WM}{M:DM}{t:Nat}{b:Bool}{l:DM}{y:Lay}{p:Nat}(h:Rst W M t b l y p){f:DM}{d:Lay}(D:Lg f d p (t+1))(C:d.F=y.F)(v:d.new=none)(K:Ans l f none)(g:f.room=l.room)(k c a:Nat)(s:W.node=(k:Int))(r:k<4) :
 ∃ B,NI B (NM.opened k c a d) f d.F p (t+3)/\Opd W M a (NM.opened k c a d) f B:=by
 obtain⟨o,A⟩:=K;obtain⟨_,E,G,I⟩:=o.resolve_right (fun x=>by rcases x.2 with⟨e,_⟩|⟨e,_⟩ <;> cases e);have j:=Sh.xq h.sh D C g (fun e=>by rw[h.dead] at e;cases e) (GA t);rw[<- C] at j;obtain⟨i,m,O,N,L,J,_,q,u⟩:=Sh.found j D v (I.trans h.dead) k c a s r _ rfl;exact⟨_,u.more (by omega),E.trans h.refused,G.trans h.Bo,by rw[<- h.calls];exact A.le,g.trans h.room,by rw[A.cut];exact h.cut,by rw[A.fail];exact h.fail,rfl,b,i,O,m,N,h.same,L,q,J,rfl⟩
structure Shd(W:WM)(M:DM)(M':DM)(W':WM):Prop where
 node:W'.node=W.node
 calls:W'.calls=W.calls+1
 most:W'.most=W.most
 As:W'.room=W.room
 room:M'.room=M.room
 wu:M.cut=0->M.fail=0->False
theorem Rst.shd{W:WM}{M:DM}{t:Nat}{d:Bool}{b:DM}{y:Lay}{p:Nat}(h:Rst W M t d b y p){c:DM}{l:Lay}(u:Lg c l p (t+1))(m:l.F=y.F){n:Int}(o:Ans b c (some n))(i:(some n:Option Int)≠some 10)(f:c.room=b.room) :
 n=9/\c.refused=b.refused+1/\∃ k,(∃ F p,Sh k c F p (t+3))/\Shd W M c k:=by
 obtain⟨g,A⟩:=o;have v:n=9/\c.refused=b.refused+1:=by
  rcases g with⟨e,_⟩|⟨a,⟨e,_⟩|⟨e,_⟩⟩
  .cases e
  .exact⟨Hb e,a⟩
  .exact absurd e i
 obtain⟨rfl,x⟩:=v;have q:=A.bad rfl h.dead;have B:=h.lg.bd.c0;have j:=Sh.xq h.sh u m f (fun e=>by rw[h.dead] at e;cases e) (GA t);refine⟨rfl,x,_,⟨_,_,(Sh.called j).more (by omega)⟩,rfl,rfl,rfl,rfl,f.trans h.room,fun C D=>?_⟩;have r:b.cut=0:=by rcases h.cut with e|e <;> omega
 have s:b.fail=0:=by rcases h.fail with e|e <;> omega
 rcases q.2 with⟨e,_⟩|⟨e,_⟩ <;> omega
structure UpK(sb db:Nat)(nv:Value)(n calls:Nat)(nums:Value)(W:WM)(LD:DL)(M:DM)(t:Nat)(w:World)(BV:Bool)(LD1:DL)(M1:DM)(y:Lay)(p:Nat)(w1:World):Prop where
 st:StC w1 sb db nv n calls nums LD1 M1
 wj:Rst W M t BV M1 y p
 fr:Fr (Foot db LD M) w w1
 BF:∀ k,Foot db LD1 M1 k->Foot db LD M k\/w.heap.size<=k
theorem Kd(d9:zr)(B c D n a:Nat)(nv b:Value)(W:WM)(V:DL)(M:DM)(l q:Int)(t:Nat)(w:World)(h:StC w c D nv n a b V M)(f3:Z0 B w)(hB:B<=w.heap.size)(k1:B<=c)(e0:∀ k,Foot D V M k->B<=k)
 (hr:∃ F p,Sh W M F p t)(ht:t<=890000)(g4:W.node=(n:Int))(g3:n<4)(k5:a<=10000000)(a1:-9223372036854775808<=l/\l<=9223372036854775807)(f1:-9223372036854775808<=q/\q<=9223372036854775807) :
 Calls Tryz.prog 76 #[.pointer (some ⟨c,0,none⟩),.int .i64 l,.int .i64 q] w fun e w'=>e=.returned (.bool true) /\
  Fr (fun k=>k=c\/Foot D V M k) w w'/\((∃ X N M' Y,StO w' c n (a+1) b X N M'/\(∃ F p,NI Y N M' F p (t+3))/\Opd W M (Zh q 5) N M' Y/\(∀ k,NFoot X M' k->w.heap.size<=k)/\(∀ k,SRead X.LS k->w.heap.size<=k)) \/
   ∃ i1 i0 M' Y,StC w' c i1 (.pointer none) n (a+1) b i0 M'/\(∃ F p,Sh Y M' F p (t+3))/\Shd W M M' Y/\∀ k,Foot i1 i0 M' k->w.heap.size<=k):=by
 obtain⟨F0,p0,e8⟩:=hr;obtain⟨y0,j5,k3⟩:=e8.yR;have d4:=j5.bd;have g2:∀ k,w.cell? ⟨c,k,none⟩=(Z1 D nv n a b)[k]?:=h.Bi.cell;simp only[Z1] at g2;have s:=Z (NH w D V M h.BM);have a8:Hid (∀ g tv,Fr Nil w g->Yo g tv [q,l]->(∀ k,tv.ownBlock=some k->w.heap.size<=k)->Calls Tryz.prog 33 #[.pointer (some ⟨D,0,none⟩),.int .i64 l,tv] g fun e w'=>e=.returned (.tuple #[])/\∃ L',DStep D V M g L' (M.Bw l [q,l]) w'):=fun g tv f l9 J =>
  OD l [q,l] tv g D V M (h.BM.nil f) a1.1 a1.2 l9 (fun k _ e v=>by have h1:=J k e;have h2:=h.BM.lt v;omega) (fun x hx=>by simp only[IW,Fk,Dw] at hx;rcases hx with rfl|rfl;exact f1;exact a1) (fun f hf=>by have:=d4.file hf;omega) (by have:=d4.Bl;omega) (fun d l0=>by have:=d4.BT d l0;omega)
 have HH:=Z h;have h9:=Z f3;have g7:=Z hB;have g9:=Z e0;have k8:=Z k1;have h0:=Z k3;clear h f3 hB e0 k1 d4 j5 k3 e8;go_enter Tryz.func76,Tryz.ntmps76;cases hdd:M.dead
 case' false =>
  rw[hdd] at s
  go_wp2_with (refine s.out.mono ?_;rintro e g ⟨rfl,d6⟩;subst g)
  obtain⟨y1,p1,K⟩:=Rst.stay h0.out hdd;have c6:UpK c D nv n a b W V M t w W.BV V M y1 p1 w:=⟨HH.out,K,U _ _,fun _ e=>.inl e⟩;clear K g2 s a8 hdd;obtain⟨I,a4,M1,O,k4,L⟩:∃ I a4 M1 O,O=w/\UpK c D nv n a b W V M t w I a4 M1 y1 p1 O:=⟨_,_,_,_,rfl,c6⟩;have o:=Z L;clear c6 L;rw[<- k4];clear k4
 case' true =>
  rw[hdd] at s;have i7:=Blk.new w [.int .i64 q,.int .i64 l] 3;have f0:Fr Nil w (w.alloc (.cells #[.int .i64 q,.int .i64 l] 3)):=(U _ _).alloc _;have HC:=Z (a8.out _ (.slice (some ⟨w.heap.size,0,none⟩) 2 2) f0 (.inr ⟨w.heap.size,0,2,rfl,by simp,(by show 2<=maxLen;decide),fun j hj=>by rw[Hw,i7.cell];exact(match j,hj with|0,_=>rfl|1,_=>rfl|(j+2),hj=>absurd hj (by simp))⟩) (fun k e=>by simp only[Value.ownBlock,Hi] at e;omega));have f5:=Z f0;clear i7 f0
  go_wp2_with (refine s.out.mono ?_;rintro e g ⟨rfl,d6⟩;subst g)
  refine HC.out.mono ?_;rintro e O ⟨rfl,a4,hs⟩;obtain⟨y1,p1,K⟩:=Rst.Bw h0.out hdd l [q,l];have g0:Fr (Foot D V M) w O:=(f5.out.mono (S':=Foot D V M) (fun _ _ e=>absurd e id)).trans hs.fr;have c6:UpK c D nv n a b W V M t w true a4 (M.Bw l [q,l]) y1 p1 O:=⟨⟨HH.out.Bi.fr g0 HH.out.sep,hs.Bt⟩,K,g0,fun k e=>(hs.BF k e).imp id (fun e=>Im f5.out.size e)⟩;clear K g2 s a8 hdd hs g0 f5 HC;go_wp2_with fail;obtain⟨I,M1,L⟩:∃ I M1,UpK c D nv n a b W V M t w I a4 M1 y1 p1 O:=⟨_,_,c6⟩;have o:=Z L;clear c6 L
 all_goals
  have b3:Hid (Z0 B O):=h9.out.fr g7.out o.out.fr g9.out;have a6:Hid (B<=O.heap.size):=Im g7.out o.out.fr.size;refine(J7 d9 B c D n nv a b a4 M1 y1 p1 t O o.out.st.Bi g3 o.out.st.BM b3.out a6.out o.out.wj.lg o.out.wj.sh.xb (by omega)).mono ?_;rintro e w2 ⟨rfl,f2⟩;have i9:∀ k,w2.cell? ⟨c,k,none⟩=(Z1 D nv n a b)[k]?:=(o.out.st.Bi.fr f2 id).cell;simp only[Z1] at i9;have f6:=Z f2;clear f2;go_wp2_with fail;refine(Ka (o.out.st.BM.nil f6.out) o.out.wj.lg (by omega)).mono ?_;rintro e w3 ⟨r,L2,ps,rfl,c1,e3⟩;have C:=o.out.wj.BA e3;generalize M1.BA ps=Q at c1 C;generalize y1.BA ps=y2 at C;have F3:=f6.out.trans c1.fr;have d2:=o.out.st.Bi.fr F3 id;have j7:c<O.heap.size:=o.out.st.Bi.lt;have J:∀ k,Foot r L2 Q k->O.heap.size<=k:=fun k v=>Im f6.out.size (c1.new k v);have i8:∀ k,Foot r L2 Q k->¬k=c:=fun k v e=>by subst e;have:=J _ v;omega
  have d5:Fr (fun k=>k=c) w3 (w3.setCell ⟨c,0,none⟩ (.pointer (some ⟨r,0,none⟩))):=Fr.set (S:=fun k=>k=c) (p:=⟨c,0,none⟩) (U _ _) (fun _=>rfl) _;have i2:=c1.Bt.fr d5 i8;have i5:=d2.set 0 (.pointer (some ⟨r,0,none⟩));have i3:Fr (fun k=>k=c) O _:=(F3.mono (S':=fun k=>k=c) (fun _ _ e=>absurd e id)).trans d5;have c5:Z0 B _:=(b3.out.fr a6.out F3 (fun _ e=>absurd e id)).fr (Im a6.out F3.size) d5 (fun k e=>by subst e;exact k8.out);have j0:∀ k,w3.cell? ⟨c,k,none⟩=(Z1 D nv n a b)[k]?:=d2.cell;have m0:=d2.frozen;simp only[Z1] at j0;have d1:=Z C;have u:=Z J;have R:=Z j7;have a2:=Z i5;have c8:=Z i3;have f4:=Z i2;have b4:=Z c5;clear i9 c1 e3 C F3 d2 i5 d5 j7 i8 i2 J i3 c5;go_wp2_with fail;generalize w3.setCell ⟨c,0,none⟩ (.pointer (some ⟨r,0,none⟩))=w4 at a2 c8 f4 b4 |-;have j1:∀ k,w4.cell? ⟨c,k,none⟩=(Z1 r nv n a b)[k]?:=a2.out.cell;simp only[Z1] at j1;clear j0 m0;refine(Wk w4 r L2 Q f4.out).mono ?_;rintro e g ⟨rfl,d6⟩;subst g;have g6:Hid (B<=w4.heap.size):=Im a6.out c8.out.size;have a7:=Z (fun g=>VZ n l q g ⟨by omega,by omega⟩ a1 f1);rw[UT g3] at a7;have b7:ZV n (1000+Zh l 2000:Nat) (Zh q 5)=true:=by
   have h1:=VP l (n:=2000) (by decide);have h2:=VP q (n:=5) (by decide);unfold ZV zO;simp only[Hz,IF];omega
  obtain⟨sg,k2⟩:∃ sg:Nat,sg=1000+Zh l 2000:=⟨_,rfl⟩;obtain⟨sy,g5⟩:∃ sy:Nat,sy=Zh q 5:=⟨_,rfl⟩;rw[<- k2,<- g5] at a7 b7;obtain⟨e5,G,y5,⟨j6,i4,i6,e4,-,-,e1,e2⟩,j9⟩:=K9 d9 B Q n sg sy y2 p1 t b7 d1.out.lg (by omega);have k6:Hid (∀ g,Fr Nil w4 g->Calls Tryz.prog 49 #[.pointer (some ⟨r,0,none⟩),.agg #[.int .i64 n,.int .i64 sg,.int .i64 sy]] g fun e w'=>∃ na en,e=.returned (.tuple #[.pointer na,.int .i64 en])/\Fr (Foot r L2 Q) g w' /\
   ((e5=none/\en=0/\∃ X,na=some ⟨X.nb,0,none⟩/\NRep w' X (NM.opened n sg sy y5) G/\X.db=r/\(∀ k,NFoot X G k->Foot r L2 Q k\/g.heap.size<=k)/\(∀ k,SRead X.LS k->g.heap.size<=k))\/(na=none/\e5=some en/\∃ L',DStep r L2 Q g L' G w'))):=fun g f=>by
   refine(j9 r L2 g (f4.out.nil f) (b4.out.fr g6.out f (fun _ e=>absurd e id)) (Im g6.out f.size) (fun k v=>Im a6.out (u.out k v))).mono ?_;rintro e w' (⟨h1,X,h2,h3,h4,h5,h6,h7⟩|⟨m,L',h1,h2,h3⟩)
   .exact⟨_,_,h2,h7,.inl ⟨h1,rfl,X,rfl,h3,h4,h5,h6⟩⟩
   .exact⟨_,_,h2,h3.fr,.inr ⟨rfl,h1,L',h3⟩⟩
  have g8:=Z (And.intro j6 (And.intro i4 (And.intro i6 (And.intro e4 (And.intro e1 e2)))));clear b7 j9 j6 i4 i6 e4 e1 e2;have h8:=Z g5;clear k2 g5;have c7:Hid (∀ g,Fr (Foot r L2 Q) w4 g->g.cell? ⟨c,0,none⟩=some (.pointer (some ⟨r,0,none⟩))/\g.cell? ⟨c,2,none⟩=some (.int .i64 (n:Nat))) :=
   fun g f=>⟨(a2.out.fr f (fun e=>by have:=u.out _ e;have:=R.out;omega)).cell 0,(a2.out.fr f (fun e=>by have:=u.out _ e;have:=R.out;omega)).cell 2⟩
  have k9:=c7.out w4 (U _ _);clear j1;go_wp2_with fail;have d7:Hid (∀ g,Fr Nil w4 g->g.cell? ⟨c,0,none⟩=some (.pointer (some ⟨r,0,none⟩))/\g.cell? ⟨c,2,none⟩=some (.int .i64 (n:Nat))):=fun g f=>c7.out g (f.mono (fun _ _ e=>absurd e id))
  go_region_held3 (fun g=>g.cell? ⟨c,0,none⟩=some (.pointer (some ⟨r,0,none⟩))/\g.cell? ⟨c,2,none⟩=some (.int .i64 (n:Nat))) (first|assumption|go_keep|exact d7.out _ zd|exact c7.out _ zd)
   (first
     | (go_at_call 49;refine(k6.out _ c9.out).mono ?_;rintro e w9 ⟨na,en,rfl,j3,c2⟩;have g1:Fr (Foot r L2 Q) w4 w9:=(c9.out.mono (S':=Foot r L2 Q) (fun _ _ e=>absurd e id)).trans j3;have m1:=c7.out w9 g1;have f7:=Z g1;have k7:=Z c2;clear c2 j3 g1)
     | (go_at_call 127;refine(a7.out _).mono ?_;rintro e wc ⟨rfl,fc⟩;have c9:Hid (Fr Nil w4 wc):=Fr.trans zd fc;have m2:=d7.out wc c9.out;clear fc))
  have c0:¬Foot r L2 Q c:=fun e=>by have:=u.out _ e;have:=R.out;omega
  have d3:=a2.out.fr f7.out c0;have j2:∀ k,w9.cell? ⟨c,k,none⟩=(Z1 r nv n a b)[k]?:=d3.cell;have j4:=d3.frozen;simp only[Z1] at j2;have d8:=(d3.set 3 (.int .i64 ((a:Int)+1))).set 1 (.pointer na);have b9:Fr (fun k=>k=c) w9 ((w9.setCell ⟨c,3,none⟩ (.int .i64 ((a:Int)+1))).setCell ⟨c,1,none⟩ (.pointer na)) :=
   Fr.set (S:=fun k=>k=c) (p:=⟨c,1,none⟩) (Fr.set (S:=fun k=>k=c) (p:=⟨c,3,none⟩) (U _ _) (fun _=>rfl) _) (fun _=>rfl) _
  have m3:IntKind.i64.wrap ((a:Int)+1)=(a:Int)+1:=by rw[Hg];omega
  have b1:=Z d8;have a9:=Z b9;have f8:Hid (Fr (fun k=>k=c\/Foot D V M k) w ((w9.setCell ⟨c,3,none⟩ (.int .i64 ((a:Int)+1))).setCell ⟨c,1,none⟩ (.pointer na))) :=
   ((((o.out.fr.mono (fun _ _ e=>.inr e)).trans (c8.out.mono (fun _ _ e=>.inl e))).trans' f7.out (fun i hi e=>by have:=u.out i e;have:=o.out.fr.size;omega)).trans (b9.mono (fun _ _ e=>.inl e)))
  have a3:Hid (w.heap.size<=O.heap.size/\O.heap.size<=wc.heap.size):=⟨o.out.fr.size,Im c8.out.size c9.out.size⟩;clear k9 m2 m1 d8 b9 c0 d3;go_wp2_with fail;generalize (w9.setCell ⟨c,3,none⟩ (.int .i64 ((a:Int)+1))).setCell ⟨c,1,none⟩ (.pointer na)=y at b1 a9 f8 |-;clear j2 j4;rcases k7.out with⟨a5,rfl,X,rfl,c2,b8,a0,c3⟩|⟨rfl,a5,L9,c4⟩
  .have hS:Blk y c (Z1 r (.pointer (some ⟨X.nb,0,none⟩)) n ((a+1:Nat):Int) b) 58:=b1.out
   have T:∀ k,NFoot X G k->O.heap.size<=k:=fun k v=>(a0 k v).elim (u.out k) (fun e=>by have:=a3.out;omega);have c0:∀ k,NFoot X G k->¬k=c:=fun k v e=>by have:=T k v;have:=R.out;omega
   have j8:∀ k,SRead X.LS k->¬k=c:=fun k v e=>by have:=c3 k v;have:=R.out;have:=a3.out;omega
   have e6:Ty w9 c 58:=(a2.out.fr f7.out (fun e=>by have:=u.out _ e;have:=R.out;omega)).ty;have b5:=c2.fr a9.out c0 j8 (fun k t v ht e=>by subst e;have:=v.inj e6;subst this;revert ht;unfold MTy;decide);have f9:Hid (StO y c n (a+1) b X (NM.opened n sg sy y5) G):=⟨by rw[b8];exact hS,b5⟩;have A:DRep y r X.LD G:=by have:=b5.BM;rw[b8] at this;exact this
   have E:Hid (G.refused=Q.refused/\∃ Y,(∃ F p,NI Y (NM.opened n sg sy y5) G F p (t+3))/\Opd W M (Zh q 5) (NM.opened n sg sy y5) G Y):=by
    obtain⟨l1,l2,l3,l4,_,l6⟩:=g8.out;rw[a5] at l3;obtain⟨Y,h1,h2⟩:=d1.out.opd l1 l2 (l6 a5) l3 l4 n sg sy g4 g3;rw[h8.out] at h2;refine⟨?_,Y,⟨_,_,h1⟩,by rw[h8.out];exact h2⟩;have:=h2.refused;rw[this,d1.out.refused]
   have b6:∀ k,y.cell? ⟨c,k,none⟩=(Z1 r (.pointer (some ⟨X.nb,0,none⟩)) n ((a+1:Nat):Int) b)[k]?:=hS.cell;simp only[Z1] at b6;have b0:=Z (Wk y r X.LD G A);rw[E.out.1] at b0;have l8:decide (Q.refused<Q.refused)=false:=by simp
   have d0:=Z (And.intro T c3);clear hS c0 j8 b5 A T c2 b8 a0 c3 e6 a5
   go_wp2_with (refine b0.out.mono ?_;rintro e g ⟨rfl,d6⟩;subst g)
   go_ret;obtain⟨_,Y,h1,h2⟩:=E.out;exact⟨rfl,f8.out,.inl ⟨X,_,G,Y,f9.out,h1,h2,fun k v=>by have:=d0.out.1 k v;have:=a3.out;omega,fun k v=>by have:=d0.out.2 k v;have:=a3.out;omega⟩⟩
  .obtain⟨l1,l2,l3,l4,l5,_⟩:=g8.out
   rw[a5] at l3 l5;obtain⟨l7,k0,Y,e7,e9⟩:=d1.out.shd l1 l2 l3 l5 l4;subst l7;have hS:Blk y c (Z1 r (.pointer none) n ((a+1:Nat):Int) b) 58:=b1.out;have T:∀ k,Foot r L9 G k->O.heap.size<=k:=fun k v=>(c4.BF k v).elim (u.out k) (fun e=>by have:=a3.out;omega);have A:DRep y r L9 G:=c4.Bt.fr a9.out (fun k v e=>by have:=T k v;have:=R.out;omega);have f9:Hid (StC y c r (.pointer none) n (a+1) b L9 G):=⟨hS,A⟩;have b6:∀ k,y.cell? ⟨c,k,none⟩=(Z1 r (.pointer none) n ((a+1:Nat):Int) b)[k]?:=hS.cell;simp only[Z1] at b6;have b0:=Z (Wk y r L9 G A);rw[k0] at b0;have l8:decide (Q.refused<Q.refused+1)=true:=by simp;omega
   have E:=Z (And.intro e7 e9);have d0:=Z T;clear hS A T a5 l1 l2 l3 l4 l5 k0 e7 e9 c4
   go_wp2_with (refine b0.out.mono ?_;rintro e g ⟨rfl,d6⟩;subst g)
   go_ret;exact⟨rfl,f8.out,.inr ⟨r,L9,G,Y,f9.out,E.out.1,E.out.2,fun k v=>by have:=d0.out k v;have:=a3.out;omega⟩⟩
def InR(x:Int):Prop:=-9223372036854775808<=x/\x<=9223372036854775807
def I9(w:World)(v:Value):Prop:=∃ l,Yo w v l/\∀ x,x∈l->InR x
structure Td(w:World)(o:OpM):Prop where
 a:InR o.a
 b:InR o.b
 Ai:I9 w o.Ai
theorem Yo.form{w:World}{v:Value}{l:List Int}(h:Yo w v l):∃ a n c,v=.slice a n c:=by
 rcases h with⟨⟨a,c,rfl⟩,_⟩|⟨g,d,b,rfl,_⟩
 .exact⟨_,_,_,rfl⟩
 .exact⟨_,_,_,rfl⟩
theorem Sh.Bg(node h r s:Int)(B:InR h):Sh (WM.Bg node h r s 0) (DM.new (YN h)) [] 0 0 where
 lg:=by
  refine⟨⟨[],[],none,[],none,0⟩,?_,rfl⟩;have t:0<=YN h/\YN h<9223372036854775808:=by
   have C:=B.2;unfold YN;split <;> omega
  have l:∀ D∈(DM.new (YN h)).safe::(DM.new (YN h)).Bl,D=[]:=fun D p=>by
   rw[show DM.safe (DM.new (YN h))::DM.Bl (DM.new (YN h))=[[]] from rfl] at p;exact Iv.1 p
  have j:Snd (DM.new (YN h)) ⟨[],[],none,[],none,0⟩ [] ⟨[],none,0,0,none⟩:=⟨ED _,Io _,Io _,(fun e c=>by cases c),FU,(fun b u=>by cases u),fun _=>⟨rfl,rfl⟩,FU,(fun e c=>by cases c)⟩;exact {
   bd:=⟨FH _,FH _,FH _,FH _,FH _,t.1,t.2,FH _,(fun g y=>by cases y),FU,Io _,(fun e c=>by cases c),FU,Io _,(fun d x=>by rw[l d x];exact Io _),Io _⟩
   Aa:=List.Pairwise.nil
   pos:=fun e c=>by cases c
   gid:=FU
   AC:=fun e c=>by cases c
   Ak:=fun e c=>by cases c
   bytes:=fun e c=>by cases c
   ok:=fun e c=>by cases c
   le:=fun e c=>by cases c
   full:=fun e c=>by cases c
   An:=fun i=>by simp[Lay.F,zq,SM.nil]
   fl:=Io _
   now:=j
   BR:=fun D p=>by rw[l D p];exact⟨_,j,II _⟩
   cur:=Is ..
   live:=fun e c=>by cases c}
 cm:=⟨fun m A=>by
  have o:m∈[(⟨node,[],[]⟩:LM)]:=A;rw[Iv] at o;subst o;exact⟨List.Pairwise.nil,Io _,fun e c=>(by cases c),II _,fun e c=>(by cases c),rfl⟩,Io _,Io _,Io _,Nat.zero_lt_one,Io _,II _,Io _,Io _,Io _,Io _,Io _,Io _,⟨by show(-9223372036854775808:Int)<=0;decide,by show(0:Int)<=9223372036854775807;decide⟩⟩
 room:=rfl
 all:=.inl ⟨fun q a b=>by
  have:q=0:=Nat.le_zero.1 b;subst this;exact⟨⟨List.Pairwise.nil,fun e c=>(by cases c),II _,fun e c=>(by cases c),fun e c=>(by cases c),fun e c=>(by cases c)⟩,Io _,II _,fun e c=>(by cases c)⟩,.inl (Hist.one ⟨node,[],[]⟩ ⟨rfl,rfl⟩)⟩
def WB(v:Ver):Ver:={v with seq:=0}
def WC(K:Keys):Keys:=K.map fun e=>(e.1,e.2.map WB)
theorem J8(n:Int)(u:List Ver):(u.map (Ta n)).map WB=u.map WB:=by
 rw[Gi];refine GN fun v _=>?_;show WB (Ta n v)=WB v;unfold Ta;split <;> rfl
theorem VQ(c:Int):∀ (d:Int)(S M:Keys),WC (Z3 c d S M).1=WC M
 | _,[],[]=>rfl
 | d,(a,l)::S,(b,u)::M=>by
  unfold Z3;split
  .split
   .rfl
   .rename_i n _
    split
    .show(b,(u.map (Ta n)).map WB)::WC (Z3 c n S M).1=(b,u.map WB)::WC M
     rw[J8,VQ c n S M]
    .show(b,u.map WB)::WC (Z3 c d S M).1=(b,u.map WB)::WC M
     rw[VQ c d S M]
  .rfl
 | _,[],_::_=>rfl
 | _,_::_,[]=>rfl
theorem MK{W:WM}{N:NM}{m a:LM}{c:Nat}(h:X0 W N m=(c,some a)):WC a.keys=WC m.keys/\a.hints=m.hints/\a.node=m.node:=by
 unfold X0 at h;split at h
 .simp only[Gq] at h
  have b:=h.2;split at b
  .obtain rfl:=Hb b
   exact⟨VQ _ _ _ _,rfl,rfl⟩
  .cases b
 .simp at h
theorem Sh.calm{W:WM}{M:DM}{F:List Fact}{p t:Nat}(h:Sh W M F p t):Sh W ((M.Ab 0).BL 0 0) F p t:=by
 obtain⟨y,b,a⟩:=h.lg;exact⟨⟨y,(b.Ab 0).BL 0 0 (by decide) (by decide),a⟩,h.cm,h.room,h.all⟩
def Std(W:WM)(M:DM)(d g n a:Nat)(c:Value)(t:Nat)(S:Nat->Prop)(w f:World):Prop :=
 ∃ X N b e,StO f g n a c X N b/\(∃ F p,NI e N b F p t)/\Opd W ((M.Ab 0).BL 0 0) d N b e/\b.cut=0/\b.fail=0/\(∀ k,NFoot X b k->w.heap.size<=k)/\(∀ k,SRead X.LS k->w.heap.size<=k)/\Fr S w f
theorem Ri(Q:zr)(B d g n a:Nat)(nv b:Value)(W:WM)(v:DL)(M:DM)(l c:Int)(t:Nat)(w:World)(h:StC w d g nv n a b v M)(r:Z0 B w)(hB:B<=w.heap.size)(V:B<=d)(o:∀ k,Foot g v M k->B<=k)
 (hr:∃ F p,Sh W M F p t)(ht:t<=890000)(y:W.node=(n:Int))(b1:n<4)(i:a<=10000000)(Y:-9223372036854775808<=l/\l<=9223372036854775807)(a2:-9223372036854775808<=c/\c<=9223372036854775807) :
 Calls Tryz.prog 25 #[.pointer (some ⟨d,0,none⟩),.int .i64 l,.int .i64 c] w fun e w'=>e=.returned (.bool true)/\Std W M (Zh c 5) d n (a+1) b (t+3) (fun k=>k=d\/Foot g v M k) w w':=by
 have J:∀ k,w.cell? ⟨d,k,none⟩=(Z1 g nv n a b)[k]?:=h.Bi.cell;simp only[Z1] at J;have R:g≠d:=fun e=>h.sep (e▸.Bi);obtain⟨F0,p0,a0⟩:=hr;have b0:=Z a0.calm;have G:=Z r;have C:=Z hB;have a9:=Z V;have m:=Z o;have a3:=Z h.Bi;have a5:=Z h.BM;have D:=Z R;clear h r hB V o a0 R;go_enter Tryz.func25,Tryz.ntmps25;go_wp2_with fail;refine(SG 0 w g v M a5.out).mono ?_;rintro e w1 ⟨rfl,L,f1⟩;have x:=a3.out.fr f1 (fun e=>D.out e.symm);have K:∀ k,w1.cell? ⟨d,k,none⟩=(Z1 g nv n a b)[k]?:=x.cell;simp only[Z1] at K;have a6:=Z L;have a4:=Z x;have a7:=Z f1;clear J L x f1;go_wp2_with fail;refine(Tm 0 0 w1 g v (M.Ab 0) a6.out).mono ?_;rintro e w2 ⟨rfl,O,f2⟩;have I:=a4.out.fr f2 (fun e=>D.out e.symm);have F2:=a7.out.trans f2;have f:Z0 B w2:=G.out.fr C.out F2 (fun k e=>by subst e;exact m.out _ .Bi);have a8:=Z (Kd Q B d g n a nv b W v ((M.Ab 0).BL 0 0) l c t w2 ⟨I,O⟩ f (Im C.out F2.size) a9.out m.out ⟨F0,p0,b0.out⟩ ht y b1 i Y a2);have s:=Z F2;clear K O I f2 F2 f;go_wp2_with fail;refine a8.out.mono ?_;rintro e w3 ⟨rfl,f3,⟨X,N,M',W',A,S,j,q,T⟩|⟨_,_,_,_,_,_,a1,_⟩⟩
 rotate_left
 .exact absurd rfl (fun e=>a1.wu e rfl)
 have b2:w3.cell? ⟨d,1,none⟩=some (.pointer (some ⟨X.nb,0,none⟩)):=A.Bi.cell 1;have E:Hid (Std W M (Zh c 5) d n (a+1) b (t+3) (fun k=>k=d\/Foot g v M k) w w3):=⟨X,N,M',W',A,S,j,j.cut.elim id id,j.fail.elim id id,fun k hk=>Im s.out.size (q k hk),fun k hk=>Im s.out.size (T k hk),(s.out.mono (fun k _ e=>by subst e;exact .inr .Bi)).trans f3⟩;clear A S j q T f3
 go_wp2
 go_ret;exact⟨rfl,E.out⟩
structure Kpt(w0 w:World)(sb n calls:Nat)(nums:Value)(X:NL)(N:NM)(M:DM):Prop where
 st:StO w sb n calls nums X N M
 fr:Fr Nil w0 w
 low:w0.heap.size<=sb
 new:∀ k,NFoot X M k->w0.heap.size<=k
 sep:∀ k,NFoot X M k->k≠sb
 xe:∀ k,SRead X.LS k->k≠sb
theorem Kpt.nil{e w w':World}{d n a:Nat}{c:Value}{X:NL}{N:NM}{M:DM}(h:Kpt e w d n a c X N M)(f:Fr Nil w w'):Kpt e w' d n a c X N M :=
 ⟨⟨h.st.Bi.fr f id,h.st.node.nil f⟩,h.fr.trans f,h.low,h.new,h.sep,h.xe⟩
theorem Kpt.step{o w w':World}{d n a:Nat}{b:Value}{X j:NL}{N g:NM}{M f:DM}(h:Kpt o w d n a b X N M)(s:NStep X M w j g f w'):Kpt o w' d n a b j g f:=by
 have q:=h.st.Bi.lt;have l:=h.st.Bi.fr s.fr (fun e=>h.sep d e rfl);rw[<- s.same.nb,<- s.same.db] at l;exact⟨⟨l,s.Bt⟩,h.fr.trans' s.fr (fun i r e=>by have:=h.new i e;omega),h.low,fun k c=>(s.BF k c).elim (h.new k) (fun e=>Im h.fr.size e),
  fun k c=>(s.BF k c).elim (h.sep k) (fun e=>by omega),fun k c=>(s.read k c).elim (h.xe k) (fun e=>by omega)⟩
theorem Kpt.env{B:Nat}{f w:World}{j n a:Nat}{c:Value}{X:NL}{N:NM}{M:DM}(h:Kpt f w j n a c X N M)(b:Z0 B f)(d:B<=f.heap.size):Yf B X M w :=
 ⟨(b.fr d h.fr (fun _ e=>absurd e id)).1,Im d h.fr.size,fun k i=>Im d (h.new k i)⟩
theorem Kpt.closed{d w:World}{c n a:Nat}{b:Value}{X:NL}{N:NM}{M:DM}(h:Kpt d w c n a b X N M):StC w c X.db (.pointer (some ⟨X.nb,0,none⟩)) n a b X.LD M:=⟨h.st.Bi,h.st.node.BM⟩
structure Bare(n:Nat)(W:WM)(N:NM)(M:DM):Prop where
 node:W.node=(n:Int)
 st:∃ m,W.st=[m]/\m.keys=[]/\m.hints=[]
 calls:W.calls=1
 most:W.most=0
 BV:W.BV=false
 broken:W.broken=false
 room:W.room=-1
 refused:M.refused=0
 cut:M.cut=0
 fail:M.fail=0
 mg:N.mg=none
 ro:N.readOnly=false
 every:W.every=0
theorem Std.bare{n D a:Nat}{c:Value}{t:Nat}{S:Nat->Prop}{w y:World}(h:Std (WM.Bg n (-1) 0 0 0) (DM.new 1152921504606846976) 0 D n a c t S w y) :
 ∃ X N M W,StO y D n a c X N M/\(∃ F p,NI W N M F p t)/\Bare n W N M/\N.S.keys=[]/\N.S.hints=[]/\N.readOnly=false/\(∀ k,NFoot X M k->w.heap.size<=k)/\(∀ k,SRead X.LS k->w.heap.size<=k)/\Fr S w y:=by
 obtain⟨X,N,M,W,x,⟨F,p,b⟩,g,E,G,I,J,K⟩:=h;obtain⟨A,i,Q,m,B,L,q,_,d,rfl⟩:=g.found;have r:i=0:=by
  have:=(IQ.1 q).1;simp only[WM.Bg,Ix] at this;omega
 subst r;have O:m=⟨n,[],[]⟩:=by
  simp only[WM.Bg,Ga,Hi] at q;exact q.symm
 subst O;have o:=MK d;have f:B.keys=[]:=by
  have:=o.1;unfold WC at this;simp only[Gm,DG] at this;exact this
 obtain⟨C,j,v,_⟩:=b.now;have l:C=B:=by
  simp only[WM.Bg,Gs,Hh,Ix,Bc,Ga,Hi] at j;exact j.symm
 subst l;have u:Q=0:=by
  have s:N.S.keys=[]:=by rw[<- v.1];exact f
  unfold X0 at d;split at d
  .rw[s] at d
   simp only[Z3,Gq] at d;exact d.1.symm
  .simp at d
 refine⟨X,N,M,_,x,⟨F,p,b⟩,⟨rfl,⟨C,by simp[WM.Bg],f,o.2.1⟩,rfl,u,rfl,rfl,rfl,g.refused,E,G,g.mg,b.ro,rfl⟩,by rw[<- v.1];exact f,by rw[<- v.2];exact o.2.1,b.ro,I,J,K⟩
theorem NA(V:zr)(B n:Nat)(w:World)(u:Z0 B w)(hB:B<=w.heap.size)(a6:n<4) :
 Calls Tryz.prog 36 #[.int .i64 n,.int .i64 1152921504606846976] w fun e w'=>∃ sb X N M W,e=.returned (.pointer (some ⟨sb,0,none⟩))/\Kpt w w' sb n 1 (.slice none 0 0) X N M/\(∃ F p,NI W N M F p 10)/\Bare n W N M:=by
 have L:=Z u;have o:=Z hB;clear u hB;go_enter Tryz.func36,Tryz.ntmps36;go_wp2_with fail;refine(L8 1152921504606846976 w).mono ?_;rintro e w1 ⟨rfl,S,Y,m⟩;go_wp2_with fail;have g:=Blk.newAt w1 [.pointer (some ⟨w.heap.size,0,none⟩),.pointer none,.int .i64 n,.int .i64 0,.slice none 0 0] 58 (w.heap.size+1) m.symm;have f2:Fr Nil w1 (w1.alloc (.cells #[.pointer (some ⟨w.heap.size,0,none⟩),.pointer none,.int .i64 n,.int .i64 0,.slice none 0 0] 58)):=(U _ _).alloc _;have t:(w1.alloc (.cells #[.pointer (some ⟨w.heap.size,0,none⟩),.pointer none,.int .i64 n,.int .i64 0,.slice none 0 0] 58)).heap.size=w.heap.size+2:=by simp[m]
 generalize w1.alloc (.cells #[.pointer (some ⟨w.heap.size,0,none⟩),.pointer none,.int .i64 n,.int .i64 0,.slice none 0 0] 58)=w2 at g f2 t |-;have g:Blk w2 (w.heap.size+1) (Z1 w.heap.size (.pointer none) n (0:Nat) (.slice none 0 0)) 58:=g;have F2:=Y.trans f2;have T:=S.nil f2;have a:∀ k,Foot w.heap.size DL.new (DM.new 1152921504606846976) k->k=w.heap.size:=fun k b=>by
  cases b using Foot.elim with
  | blk=>rfl
  | dir h=>simp[DL.new,Value.ownBlock] at h
  | safe h=>simp[DL.new,Value.ownBlock] at h
  | ch h=>simp[DL.new,Value.ownBlock] at h
  | chs i h1 h=>simp[DL.new] at h1
  | file h=>simp[DM.new] at h
  | row f hf h=>simp[DM.new] at hf
 have D:=Sh.Bg n (-1) 0 0 ⟨by decide,by decide⟩;rw[show YN (-1)=1152921504606846976 from by unfold YN;rw[IC (by decide)]] at D;have q:=Z (Ri V B (w.heap.size+1) w.heap.size n 0 (.pointer none) (.slice none 0 0) (WM.Bg n (-1) 0 0 0) DL.new (DM.new 1152921504606846976) 0 0 0 w2 ⟨g,T⟩ (L.out.fr o.out F2 (fun _ e=>absurd e id)) (Im o.out F2.size) (by have:=o.out;omega) (fun k b=>by rw[a k b];exact o.out) ⟨_,_,D⟩ (by decide) rfl a6 (by decide) ⟨by decide,by decide⟩ ⟨by decide,by decide⟩);have I:=Z F2;have J:=Z a;clear S Y m g f2 F2 T a D;refine q.out.mono ?_;rintro e v ⟨rfl,s⟩;obtain⟨X,N,M,W,l,⟨F3,p3,r⟩,O,b,hh,a3,j,a2,f3⟩:=s.bare;have a1:∃ F p,NI W N M F p 10:=⟨F3,p3,r.more (by decide)⟩;have F3:=I.out.trans' f3 (fun i hi e=>by rcases e with e|e;omega;rw[J.out i e] at hi;omega);have hK:Kpt w v (w.heap.size+1) n 1 (.slice none 0 0) X N M:=⟨l,F3,GA _,fun k b=>by have:=j k b;omega,fun k b e=>by have:=j k b;omega,fun k b e=>by have:=a2 k b;omega⟩;have A:=fun E (f:Fr Nil v E)=>VF X N M E (l.node.nil f) (by rw[b];decide);have d:=Oq X N M v l.node;rw[b,hh,a3] at d;rw[b] at A;have K:Hid (Calls Tryz.prog 39 #[.pointer (some ⟨X.nb,0,none⟩)] v fun e w'=>e=.returned (.agg #[.bool false,.int .i64 0,.int .i64 0])/\Fr Nil v w'):=d;have a5:=Z A;have HK:=Z (And.intro hK (And.intro a1 O));have x:Hid (∀ E,Fr Nil v E->E.cell? ⟨w.heap.size+1,1,none⟩=some (.pointer (some ⟨X.nb,0,none⟩))):=fun E f=>(l.Bi.fr f id).cell 1;have Q:=x.out v (U _ _);generalize w.heap.size+1=sb at x Q HK |-;clear d A l a1 r O b hh a3 j a2 f3 F3 hK s t I J q;go_wp2_with fail;refine K.out.mono ?_;rintro e w4 ⟨rfl,f4⟩;have C:=Blk.new w4 [.bool false,.int .i64 0,.int .i64 0] 81;have f5:Fr Nil v (w4.alloc (.cells #[.bool false,.int .i64 0,.int .i64 0] 81)):=f4.alloc _;have R:=x.out _ f5;have a4:=C.cell;have y:=Z f5;have G:=Z C;clear f5 C Q;go_wp2_with fail;generalize w4.alloc (.cells #[.bool false,.int .i64 0,.int .i64 0] 81)=w5 at R a4 y G |-;refine(a5.out _ y.out).mono ?_;rintro e w6 ⟨lv,rfl,hv,f6,-⟩;obtain⟨a0,a7,rfl⟩:=zg hv;have a8:=(G.out.fr f6 id).cell;have c:=Z (And.intro (HK.out.1.nil (y.out.trans f6)) HK.out.2);clear a4 R hv f6;simp only[Ho]
 go_wp2
 go_ret;exact⟨_,X,N,M,W,rfl,c.out.1,c.out.2.1,c.out.2.2⟩
end Go.Proofs.YtkhnggkkiefcdaaGreatDoor
namespace Go.Proofs.YtkhnggkkiefcdaaGreatDoor
open Go.RowKit Go.Shelf
set_option maxRecDepth 100000
set_option maxHeartbeats 8000000
attribute [local go_sem] GX
theorem Ke:((Tryz.prog.info? 165).map fun i=>(i.zero.map (·.cells.size),i.size,i.bytes))=some (some 1,1,16):=by kernel_rfl
def Xd(e:ByteArray × Value):Value:=.iface 193 (.agg #[.string e.1,e.2])
def Qj(x:Nat × ByteArray):Value:=.iface 138 (.agg #[.int .i64 x.1,.string x.2])
def VR(n:Nat):Value:=.iface 220 (.agg #[.int .i64 n])
def YA(a:List (ByteArray × Value))(i:Nat):ByteArray × Value:=a.getD i (ByteArray.empty,.slice none 0 0)
def PG(a:List (ByteArray × Value))(i:Nat):Array Value:=#[.string (YA a i).1,(YA a i).2]
theorem J9(F:Fence)(n:Nat)(Y:F.fn 217)(D:F.round=none)(hn:1<=n)(l E O:Nat)(v:Value)(b:List (ByteArray × Value))(J:Nat->World->Prop)
 (W:World)(hl:b.length<4611686018427387904)
 (j:∀ e∈b,∃ a m c,e.2=.slice a m c)(hJ:AbidesFrom W.heap.size J)(h:∀ i o,J i o->o.ownsRow 0 239 2 v b.length (Ze b))
 (hY:∀ i o,i<b.length->J i o->YieldAt F (n-1) Tryz.prog l (PG b i) o fun e x=>e=.returned (.bool true)/\J (i+1) x)
 (X:W.cell? ⟨E,0,none⟩=some (.pointer (some ⟨O,0,none⟩)))(a3:W.cell? ⟨O,0,none⟩=some v)(L:J 0 W) :
 CallsIn F n Tryz.prog 217 #[.func (.yield l) #[] #[],.pointer (some ⟨E,0,none⟩)] W fun e x=>(∃ r,e=.returned r)/\J b.length x:=by
 obtain⟨V,y,rfl⟩:=zg (h 0 W L);refine CV CE rfl Y ?_ D;simp only[Tryz.ntmps217,GP,Iz,Ho,Nat.reduceAdd,Nat.reduceSub,GV,GW,Fv,Fc,Hh,IU]
 gi_wp2
 gi_loopw [10] (fun i wr=>∃ k:Nat,k<=b.length/\i=.int .i64 k/\J k wr) (fun i _=>b.length-(intOf i).toNat)
 case atStart=>exact⟨0,II _,rfl,L⟩
 case round =>
  obtain⟨k,hk,rfl,d⟩:=hrel;by_cases f:k<b.length
  .have hvr:=h _ _ d
   obtain⟨g,q,hg,_,_⟩:=zv hvr (by omega);obtain⟨rfl,rfl⟩:V=some ⟨g,0,none⟩/\y=q:=by simpa using hg
   obtain⟨G,N,K,C⟩:=j b[k] (Iu f);have a2:=own_cell? hvr (k*2) _ (ZM b k f).1;have B:=own_cell? hvr (k*2+1) _ (ZM b k f).2;rw[C] at B;have s:J k (wr.alloc (.cells #[.string b[k].1,.slice G N K] 239)):=hJ _ _ _ none d (DE ..) (fun r e=>by cases e);have t:=hY k _ f s;rw[show PG b k=#[.string b[k].1,.slice G N K] by simp[PG,YA,List.getD_eq_getElem?_getD,List.getElem?_eq_getElem f,C]] at t;obtain⟨fn,Q,u,I,hy,M⟩:=t;have R:=Z d;have T:=Z M;clear s d M C
   gi_wp2
   refine T.out.mono ?_;rintro e W3 ⟨rfl,A⟩
   gi_wp2
   go_roundw
   case rel=>exact⟨k+1,by omega,by simp,A⟩
   case measure=>simp[intOf];omega
  .obtain rfl:k=b.length:=by omega
   gi_wp2
   go_end0
   exact⟨⟨_,rfl⟩,d⟩
theorem PH(d:List (Nat × ByteArray)):∀ (k:Nat)(h:k<d.length),(Zj d)[k*2]?=some (.int .i64 d[k].1)/\(Zj d)[k*2+1]?=some (.string d[k].2):=by
 induction d with
 | nil=>intro k h;simp at h
 | cons e d a =>
  intro k h;cases k with
  | zero=>exact⟨rfl,rfl⟩
  | succ k =>
   have:=a k (by simpa using h);rw[show(k+1)*2=k*2+2 by omega];exact this
theorem OV(b:Nat)(L:SL)(S:SM)(w:World)(h:SRep w b L S)(c6:S.keys.length<1000000000)(c3:S.hints.length<1000000) :
 Calls Tryz.prog 170 #[.pointer (some ⟨b,0,none⟩)] w fun e w'=>∃ G,e=.returned G/\w'.ownsRow 0 165 1 G (1+L.BD.length+S.hints.length) (VR S.Bh::(L.BD.map Xd++S.hints.map Qj))/\Fr Nil w w'/\(∀ k,G.ownBlock=some k->w.heap.size<=k):=by
 have c2:L.BD.length=S.keys.length:=h.pair.length;have u:∀ e∈L.BD,∃ a m c,e.2=.slice a m c:=fun e Q=>by obtain⟨l,hl⟩:=h.pair.mem e Q;obtain⟨a,c,hf⟩:=zg hl;exact⟨a,_,c,hf⟩
 have HB:=Z h.Bi;have HV:=Z h.yo;have HH:=Z h.hint;have HF:=Z u;have b6:w.cell? ⟨b,0,none⟩=some L.kv:=h.Bi.cell 0;have b7:w.cell? ⟨b,1,none⟩=some L.hv:=h.Bi.cell 1;have c7:w.cell? ⟨b,2,none⟩=some (.int .i64 S.Bh):=h.Bi.cell 2;have a2:=h.Bi.lt;have c4:L.BD.length<1000000000:=by omega
 clear h u c2;refine(Gl (n:=8)).1 ?_;refine Ef Tryz.func170 rfl trivial ?_ rfl;simp only[Tryz.ntmps170,GP,Iz,Ho,Nat.reduceAdd,Nat.reduceSub,GV,GW,Fv,Fc,Hh,IU];obtain⟨ti,tz,a6,a7,a8,a9,b0⟩:=Y0 Ke
 gi_wp2_with fail
 refine⟨trivial,?_⟩;refine(Gl.2 (TD b _)).mono ?_;rintro e w3 ⟨rfl,rfl⟩;have A:(w.alloc (.cells #[Value.iface 220 (.agg #[.int .i64 S.Bh])] 165)).ownsRow w.heap.size 165 1 (.slice (some ⟨w.heap.size,0,none⟩) 1 1) 1 [Value.iface 220 (.agg #[.int .i64 S.Bh])] :=
  ⟨rfl,.inr ⟨_,1,#[Value.iface 220 (.agg #[.int .i64 S.Bh])],rfl,Io _,DH w 165 (Value.iface 220 (.agg #[.int .i64 S.Bh])),Io _,by unfold maxLen;omega,rfl,rfl⟩⟩
 have y:=(A.alloc (.cells #[.slice (some ⟨w.heap.size,0,none⟩) 1 1] 199)).alloc (.cells #[.pointer (some ⟨b,0,none⟩)] 236);have bO:=(DH (w.alloc (.cells #[Value.iface 220 (.agg #[.int .i64 S.Bh])] 165)) 199 (.slice (some ⟨w.heap.size,0,none⟩) 1 1)).alloc (.cells #[.pointer (some ⟨b,0,none⟩)] 236);have bM:=DH ((w.alloc (.cells #[Value.iface 220 (.agg #[.int .i64 S.Bh])] 165)).alloc (.cells #[.slice (some ⟨w.heap.size,0,none⟩) 1 1] 199)) 236 (.pointer (some ⟨b,0,none⟩));rw[FE,FE] at bM;rw[FE] at bO;have I:Below w.heap.size w (((w.alloc (.cells #[Value.iface 220 (.agg #[.int .i64 S.Bh])] 165)).alloc (.cells #[.slice (some ⟨w.heap.size,0,none⟩) 1 1] 199)).alloc (.cells #[.pointer (some ⟨b,0,none⟩)] 236)) :=
  (((CF _ w).alloc (Io _) _).alloc (by simp) _).alloc (by simp;omega) _
 have c5:(((w.alloc (.cells #[Value.iface 220 (.agg #[.int .i64 S.Bh])] 165)).alloc (.cells #[.slice (some ⟨w.heap.size,0,none⟩) 1 1] 199)).alloc (.cells #[.pointer (some ⟨b,0,none⟩)] 236)).heap.size=w.heap.size+3:=by simp
 generalize ((w.alloc (.cells #[Value.iface 220 (.agg #[.int .i64 S.Bh])] 165)).alloc (.cells #[.slice (some ⟨w.heap.size,0,none⟩) 1 1] 199)).alloc (.cells #[.pointer (some ⟨b,0,none⟩)] 236)=W0 at I y bM bO c5;clear A;have b2:Hid (∀ i,i<L.BD.length->∃ a m c,YA L.BD i=((YA L.BD i).1,.slice a m c)):=fun i hi=>by
  obtain⟨a,m,c,Q⟩:=HF.out L.BD[i] (Iu hi);exact⟨a,m,c,by rw[<- Q];simp[YA,List.getD_eq_getElem?_getD,List.getElem?_eq_getElem hi]⟩
 have b3:Hid (OwnFrom W0.heap.size (fun(i:Nat) W=>(∃ G,Boxed W (w.heap.size+1) 199 G/\W.ownsRow w.heap.size 165 1 G (i+1) (VR S.Bh::(List.range i).map fun k=>Xd (YA L.BD k))/\True)/\Below w.heap.size w W/\W.ownsRow 0 239 2 L.kv L.BD.length (Ze L.BD))) :=
  DT (Own.from (holdsRow_own w.heap.size (w.heap.size+1) 199 165 1 (fun i:Nat=>i+1) (fun i=>VR S.Bh::(List.range i).map fun k=>Xd (YA L.BD k)) (fun _ _=>True)) _) (DT (ownFrom_below (by omega) (by omega)) (Own.from (Jw _ _ _ _ _ _) _))
 have a4:=ze HV.out.own (Fr.Am (S:=Nil) I) (fun _ _=>id);have b4:=Z a4;clear a4
 gi_wp2_with fail
 refine XR rfl (by decide) (gf:=217) (lb:=#[.pointer (some ⟨w.heap.size+2,0,none⟩)]) rfl trivial (EX CE (by kernel_rfl) rfl)
  L.BD.length (PG L.BD) (fun _=>rfl) _ b3.out
  ⟨⟨_,bO,y,trivial⟩,I,b4.out⟩
  (fun k J W hW hJ hI hY h0=>J9 Fence.wide 7 trivial rfl (by decide) k (w.heap.size+2) b L.kv L.BD J W (by omega) HF.out hJ (fun i W1 h=>(hI i W1 h).2.2) hY ((hW.cell (p:=⟨w.heap.size+2,0,none⟩) (by simp only;omega)).trans bM.cell) ((hW.cell (p:=⟨b,0,none⟩) (by simp only;omega)).trans ((I.cell (p:=⟨b,0,none⟩) a2).trans b6)) h0)
  (fun i=>{tmps:=#[.pointer (some ⟨b,0,none⟩),undef,.slice none 0 0,.pointer (some ⟨w.heap.size+1,0,none⟩),.string (YA L.BD i).1,(YA L.BD i).2,undef,undef,.pointer (some ⟨b,0,none⟩),.pointer (some ⟨b,0,none⟩),.pointer (some ⟨b,2,none⟩),.int .i64 S.Bh,.agg #[.int .i64 S.Bh],.iface 220 (.agg #[.int .i64 S.Bh]),.slice (some ⟨w.heap.size,0,none⟩) 1 1,.pointer (some ⟨b,0,none⟩),.pointer (some ⟨b,0,none⟩),.pointer (some ⟨b,0,none⟩),.func (.func 217) #[] #[.pointer (some ⟨w.heap.size+2,0,none⟩)],.string (YA L.BD i).1,(YA L.BD i).2,undef,undef,undef,undef,undef,undef,undef,undef,undef,undef,undef,undef,undef,undef,undef,undef,undef,undef,undef,undef,undef,undef,undef,undef],defers:=[]}) ?assign ?body ?done
 case assign =>
  intro l x W K E;unfold PG
  gi_wp2
  exact E
 case body =>
  rintro q i W hi ⟨⟨G,s,d,_⟩,t,v⟩;have hc:=s.cell;have hf:=s.frozen;obtain⟨a1,m1,c1,Q⟩:=b2.out i hi;have b1:Hid ((VR S.Bh::(List.range (i+1)).map fun k=>Xd (YA L.BD k))=(VR S.Bh::(List.range i).map fun k=>Xd (YA L.BD k))++[.iface 193 (.agg #[.string (YA L.BD i).1,.slice a1 m1 c1])]):=by
   show _=_;rw[CJ,IL,List.map_singleton,Q];simp[Xd]
  have d0:i<1000000000:=by omega
  rw[Q];clear Q
  gi_wp2_with (gi_at_builtin;go_must (refine DF _ rfl _ _ 199 rfl w.heap.size 165 ti tz 1 16 Tryz.underlying199 a6 a7 a8 a9 b0 (by decide) _ _ _ rfl (d.alloc _) ⟨W.heap.size,0,none⟩ 1 1 [.iface 193 (.agg #[.string (YA L.BD i).1,.slice a1 m1 c1])] rfl rfl (Ct _ _ _) (by simp[Value.oneCell']) (by unfold maxLen;omega) (by omega) (by have:=t.size;simp;omega) ?_;intro v3 w3 o f _;obtain⟨g',r,rfl⟩:=Ba o;obtain⟨C,Y,X,T,O⟩:=Boxed.appended s (by decide) d t.size (by omega) o f;have b8:=C.cell;have b9:=C.frozen))
  have R:Fr (fun k=>G.ownBlock=some k\/k=w.heap.size+1) W (w3.setCell ⟨w.heap.size+1,0,none⟩ (.slice (some ⟨g',0,none⟩) (i+1+1) r)) :=
   Fr.set (p:=⟨w.heap.size+1,0,none⟩) (Fr.grown ((U _ W).alloc _) f (fun k e _=>.inl e)) (fun _=>.inr rfl) _
  refine⟨T,trivial,⟨_,Y,by rw[b1.out];exact X,trivial⟩,t.trans O,ze v R (fun k hk e=>?_)⟩;rcases e with e|e
  .exact Zb d v (by decide) e hk
  .subst e
   exact zi v (show Blk W (w.heap.size+1) [G] 199 from s) (by decide) hk
 case done =>
  rintro D W hD ⟨⟨G,s,d,_⟩,t,v⟩ E;have hc:=s.cell;have hf:=s.frozen;have M:=(t.cell (p:=⟨b,1,none⟩) a2).trans b7;obtain⟨ah,ch,c0⟩:=zg HH.out;have a0:=Z (ze HH.out (Fr.Am (S:=Nil) t) (fun _ _=>id));rw[c0] at M a0;have a3:=a0.out;clear v
  gi_wp2_with fail
  gi_loopw [33] (fun i wr=>∃ k:Nat,k<=S.hints.length/\i=.int .i64 k/\(∃ v2,Boxed wr (w.heap.size+1) 199 v2/\wr.ownsRow w.heap.size 165 1 v2 (L.BD.length+1+k) ((VR S.Bh::(List.range L.BD.length).map fun k=>Xd (YA L.BD k))++(S.hints.take k).map Qj))/\Below w.heap.size w wr/\wr.ownsRow 0 75 2 (.slice ah S.hints.length ch) S.hints.length (Zj S.hints)/\wr.heap[D]?=some (.deferred (some []))) (fun i _=>S.hints.length-(intOf i).toNat)
  case atStart=>exact⟨0,II _,rfl,⟨_,s,by simpa using d⟩,t,a3,E⟩
  case round =>
   clear hc hf s d t E M a3;obtain⟨k,hk,rfl,⟨v2,s,d⟩,t,hh,E⟩:=hrel;have hc:=s.cell;have hf:=s.frozen;by_cases V:k<S.hints.length
   .obtain⟨g,r,hg,_,_⟩:=zv hh (by omega)
    obtain⟨rfl,rfl⟩:ah=some ⟨g,0,none⟩/\ch=r:=by simpa using hg
    have d1:=own_cell? hh (k*2) _ (PH S.hints k V).1;have d2:=own_cell? hh (k*2+1) _ (PH S.hints k V).2;have N:=s.alloc (.cells #[.int .i64 S.hints[k].1,.string S.hints[k].2] 75);have a5:=d.alloc (.cells #[.int .i64 S.hints[k].1,.string S.hints[k].2] 75);have c8:=N.cell;have c9:=N.frozen
    gi_wp2_with (gi_at_builtin;go_must (refine DF _ rfl _ _ 199 rfl w.heap.size 165 ti tz 1 16 Tryz.underlying199 a6 a7 a8 a9 b0 (by decide) _ _ _ rfl (a5.alloc _) ⟨wr.heap.size+1,0,none⟩ 1 1 [.iface 138 (.agg #[.int .i64 S.hints[k].1,.string S.hints[k].2])] rfl rfl (by have:=Ct (wr.alloc (.cells #[.int .i64 S.hints[k].1,.string S.hints[k].2] 75)) (.iface 138 (.agg #[.int .i64 S.hints[k].1,.string S.hints[k].2])) 165;rwa [FE] at this) (by simp[Value.oneCell']) (by unfold maxLen;omega) (by omega) (by have:=t.size;simp;omega) ?_;intro v3 w3 o f _;obtain⟨g',r,rfl⟩:=Ba o;obtain⟨C,Y,X,T,O⟩:=Boxed.appended N (by decide) a5 (by have:=t.size;simp;omega) (by omega) o f;have b8:=C.cell;have b9:=C.frozen))
    have R:Fr (fun j=>v2.ownBlock=some j\/j=w.heap.size+1) wr (w3.setCell ⟨w.heap.size+1,0,none⟩ (.slice (some ⟨g',0,none⟩) (L.BD.length+1+k+1) r)) :=
     Fr.set (p:=⟨w.heap.size+1,0,none⟩) (Fr.grown (((U _ wr).alloc _).alloc _) f (fun j e _=>.inl e)) (fun _=>.inr rfl) _
    have hT:S.hints.take (k+1)=S.hints.take k++[S.hints[k]]:=Hc V;refine⟨⟨k+1,by omega,by simp,⟨_,Y,?_⟩,(t.alloc t.size _).trans O,ze hh R (fun j hj e=>?_),T.same D _ ((Eg _ _ _ (Hr.1 E).1).trans E) rfl⟩,by simp[intOf];omega⟩
    .rw[hT,IL,<- IA]
     exact X
    .rcases e with e|e
     .exact Zb d hh (by decide) e hj
     .subst e
      exact zi hh (show Blk wr (w.heap.size+1) [v2] 199 from s) (by decide) hj
   .obtain rfl:k=S.hints.length:=by omega
    gi_wp2_with fail
    refine⟨by simp,.inl ⟨_,_,rfl,EL E,?_⟩⟩;have b5:Below w.heap.size w (wr.putObj D (.deferred none)):=t.trans (belowK_b (w:=w) (Io _) wr D _ _ (by omega) E rfl rfl);have B:=ownsRow_putObj d (.deferred none) E rfl;refine⟨_,CR rfl _ _ _,_,rfl,Uk (base:=w.heap.size) ?_,Fr.Am b5,?_⟩
    .have e1:(List.range L.BD.length).map (fun k=>Xd (YA L.BD k))=L.BD.map Xd:=by
      refine Dt (by simp) fun i h1 h2=>?_;have h3:i<L.BD.length:=by simpa using h2
      simp[YA,List.getD_eq_getElem?_getD,List.getElem?_eq_getElem h3]
     rw[e1,ID,IU,Nat.add_comm L.BD.length 1] at B;exact B
    .exact(fun k hk=>(d.lt k hk).1:∀ k,v2.ownBlock=some k->w.heap.size<=k)
end Go.Proofs.YtkhnggkkiefcdaaGreatDoor
