/- larder: joined texts -/
import Derived.Test.YtkhnggkkiefcdaaGreatDoorFRAG
import Derived.Test.YtkhnggkkiefcdaaGreatDoorFRAH
import Derived.Test.YtkhnggkkiefcdaaGreatDoorFRAI
import Derived.Test.YtkhnggkkiefcdaaGreatDoorFRAJ
import Derived.Test.YtkhnggkkiefcdaaGreatDoorFRAN
import Derived.Test.YtkhnggkkiefcdaaGreatDoorFRAO
import Derived.LaidSub
import Derived.Lib.LaidTab
import Derived.Stop.LaidErr
import Derived.LaidEql
import Derived.Stop.Asserts
import Derived.RowKitTokens
namespace Go.Proofs.YtkhnggkkiefcdaaGreatDoor
open Go.RowKit
set_option maxRecDepth 100000
set_option maxHeartbeats 8000000
abbrev IM:=@Go.laidMetH_iff
theorem Sh.IP(h c o p:Int)(x:InR c):Sh (WM.IP h c o p 0) (DM.new (Y6 c)) [] 0 0 where
 lg:=by
  refine⟨[],?_,rfl⟩;have r:0<=Y6 c/\Y6 c<9223372036854775808:=by
   have z:=x.2;unfold Y6;split <;> omega
  exact {
   bd:=⟨Kx _,Kx _,Kx _,Kx _,Kx _,r.1,r.2,Kx _,NS _,Jh,NS _,(fun e g=>by cases g),Jh,NS _,(fun d t=>by rw[show DM.safe (DM.new (Y6 c))::DM.IW (DM.new (Y6 c))=[[]] from rfl,NW] at t;subst t;exact NS _),NS _⟩
   Hs:=⟨rfl,Jh,fun e g=>by cases g⟩
   ok:=fun s y=>by cases y
   Gw:=fun i=>by simp[zc,SM.nil]
   pre:=fun D l=>by rw[show DM.safe (DM.new (Y6 c))::DM.IW (DM.new (Y6 c))=[[]] from rfl,NW] at l;subst l;exact Ir
   le:=fun e g=>by cases g
   full:=fun e g=>by cases g
   GI:=fun D l=>Me _}
 cm:=⟨fun m u=>by
  have j:m∈[(⟨h,[],[]⟩:LM)]:=u;rw[NW] at j;subst j;exact⟨List.Pairwise.nil,NS _,fun e g=>(by cases g),Me _,fun e g=>(by cases g),rfl⟩,NS _,NS _,NS _,Nat.zero_lt_one,NS _,Me _,NS _,NS _,NS _,NS _,NS _,NS _,⟨by show(-9223372036854775808:Int)<=0;decide,by show(0:Int)<=9223372036854775807;decide⟩⟩
 room:=rfl
 all:=.inl ⟨fun q a b=>by
  have:q=0:=Nat.le_zero.1 b;subst this;exact⟨⟨List.Pairwise.nil,fun e g=>(by cases g),Me _,fun e g=>(by cases g)⟩,NS _,Me _,fun e g=>(by cases g)⟩,.inl (Hist.one ⟨h,[],[]⟩ ⟨rfl,rfl⟩)⟩
def YG(v:Ver):Ver:={v with seq:=0}
def Zz(K:Keys):Keys:=K.map fun e=>(e.1,e.2.map YG)
theorem OQ(n:Int)(u:List Ver):(u.map (Vw n)).map YG=u.map YG:=by
 rw[LZ];refine MX fun v _=>?_;show YG (Vw n v)=YG v;unfold Vw;split <;> rfl
theorem Wr(c:Int):∀ (d:Int)(S M:Keys),Zz (zO c d S M).1=Zz M
 | _,[],[]=>rfl
 | d,(a,l)::S,(b,u)::M=>by
  unfold zO;split
  .split
   .rfl
   .rename_i n _
    split
    .show(b,(u.map (Vw n)).map YG)::Zz (zO c n S M).1=(b,u.map YG)::Zz M
     rw[OQ,Wr c n S M]
    .show(b,u.map YG)::Zz (zO c d S M).1=(b,u.map YG)::Zz M
     rw[Wr c d S M]
  .rfl
 | _,[],_::_=>rfl
 | _,_::_,[]=>rfl
theorem Xe{W:WM}{N:NM}{m m':LM}{mo:Nat}(h:Zh W N m=(mo,some m')):Zz m'.keys=Zz m.keys/\m'.hints=m.hints/\m'.node=m.node:=by
 unfold Zh at h;split at h
 .simp only[Kc] at h
  have a:=h.2;split at a
  .obtain rfl:=Mp a
   exact⟨Wr _ _ _ _,rfl,rfl⟩
  .cases a
 .simp at h
theorem Sh.calm{W:WM}{M:DM}{F:List Fact}{p t:Nat}(h:Sh W M F p t):Sh W ((M.Hr 0).Hi 0 0) F p t:=by
 obtain⟨c,b,a⟩:=h.lg;exact⟨⟨c,(b.Hr 0).Hi 0 0 (by decide) (by decide),a⟩,h.cm,h.room,h.all⟩
def Std(W:WM)(M:DM)(d g n a:Nat)(c:Value)(t:Nat)(S:Nat->Prop)(w f:World):Prop :=
 ∃ X N b e,StO f g n a c X N b/\(∃ F p,NI e N b F p t)/\Opd W ((M.Hr 0).Hi 0 0) d N b e/\b.cut=0/\b.fail=0/\(∀ k,NFoot X b k->w.heap.size<=k)/\(∀ k,SRead X.LS k->w.heap.size<=k)/\Fr S w f
theorem WW(L:zv)(B d g n a:Nat)(nv b:Value)(W:WM)(u:DL)(M:DM)(l c:Int)(t:Nat)(w:World)(h:StC w d g nv n a b u M)(r:Zp B w)(hB:B<=w.heap.size)(T:B<=d)(o:∀ k,Foot g u M k->B<=k)
 (hr:∃ F p,Sh W M F p t)(ht:t<=890000)(x:W.node=(n:Int))(a9:n<4)(i:a<=10000000)(V:-9223372036854775808<=l/\l<=9223372036854775807)(a0:-9223372036854775808<=c/\c<=9223372036854775807) :
 Calls Tryz.prog 25 #[.pointer (some ⟨d,0,none⟩),.int .i64 l,.int .i64 c] w fun e w'=>e=.returned (.bool true)/\Std W M (zI c 5) d n (a+1) b (t+10) (fun k=>k=d\/Foot g u M k) w w':=by
 have G:∀ k,w.cell? ⟨d,k,none⟩=(zG g nv n a b)[k]?:=h.IR.cell;simp only[zG] at G;have Q:g≠d:=fun e=>h.sep (e▸.IR);obtain⟨F0,p0,Y⟩:=hr;have a8:=Z Y.calm;have D:=Z r;have z:=Z hB;have a7:=Z T;have m:=Z o;have a1:=Z h.IR;have a3:=Z h.Hu;have A:=Z Q;clear h r hB T o Y Q;go_enter Tryz.func25,Tryz.ntmps25;go_wp2_with fail;refine(Us 0 w g u M a3.out).mono ?_;rintro e w1 ⟨rfl,J,f1⟩;have v:=a1.out.fr f1 (fun e=>A.out e.symm);have I:∀ k,w1.cell? ⟨d,k,none⟩=(zG g nv n a b)[k]?:=v.cell;simp only[zG] at I;have a4:=Z J;have a2:=Z v;have a5:=Z f1;clear G J v f1;go_wp2_with fail;refine(XY 0 0 w1 g u (M.Hr 0) a4.out).mono ?_;rintro e w2 ⟨rfl,K,f2⟩;have E:=a2.out.fr f2 (fun e=>A.out e.symm);have F2:=a5.out.trans f2;have f:Zp B w2:=D.out.fr z.out F2 (fun k e=>by subst e;exact m.out _ .IR);have a6:=Z (PZ L B d g n a nv b W u ((M.Hr 0).Hi 0 0) l c t w2 ⟨E,K⟩ f (NR z.out F2.size) a7.out m.out ⟨F0,p0,a8.out⟩ ht x a9 i V a0);have s:=Z F2;clear I K E f2 F2 f;go_wp2_with fail;refine a6.out.mono ?_;rintro e w3 ⟨rfl,X,N,M',W',y,R,j,q,S,f3⟩;have b0:w3.cell? ⟨d,1,none⟩=some (.pointer (some ⟨X.nb,0,none⟩)):=y.IR.cell 1;have C:Hid (Std W M (zI c 5) d n (a+1) b (t+10) (fun k=>k=d\/Foot g u M k) w w3):=⟨X,N,M',W',y,R,j,j.cut.elim id id,j.fail.elim id id,fun k hk=>NR s.out.size (q k hk),fun k hk=>NR s.out.size (S k hk),(s.out.mono (fun k _ e=>by subst e;exact .inr .IR)).trans f3⟩;clear y R j q S f3
 go_wp2
 go_ret;exact⟨rfl,C.out⟩
structure Kpt(w0 w:World)(sb n calls:Nat)(nums:Value)(X:NL)(N:NM)(M:DM):Prop where
 st:StO w sb n calls nums X N M
 fr:Fr Nil w0 w
 low:w0.heap.size<=sb
 new:∀ k,NFoot X M k->w0.heap.size<=k
 sep:∀ k,NFoot X M k->k≠sb
 FH:∀ k,SRead X.LS k->k≠sb
theorem Kpt.nil{d w w':World}{c n a:Nat}{b:Value}{X:NL}{N:NM}{M:DM}(h:Kpt d w c n a b X N M)(f:Fr Nil w w'):Kpt d w' c n a b X N M :=
 ⟨⟨h.st.IR.fr f id,h.st.node.nil f⟩,h.fr.trans f,h.low,h.new,h.sep,h.FH⟩
theorem Kpt.step{l w w':World}{d n a:Nat}{b:Value}{X g:NL}{N N':NM}{M f:DM}(h:Kpt l w d n a b X N M)(s:NStep X M w g N' f w'):Kpt l w' d n a b g N' f:=by
 have o:=h.st.IR.lt;have j:=h.st.IR.fr s.fr (fun e=>h.sep d e rfl);rw[<- s.same.nb,<- s.same.db] at j;exact⟨⟨j,s.Hl⟩,h.fr.trans' s.fr (fun i q e=>by have:=h.new i e;omega),h.low,fun k c=>(s.Hw k c).elim (h.new k) (fun e=>NR h.fr.size e),
  fun k c=>(s.Hw k c).elim (h.sep k) (fun e=>by omega),fun k c=>(s.read k c).elim (h.FH k) (fun e=>by omega)⟩
theorem Kpt.env{B:Nat}{f w:World}{i n a:Nat}{c:Value}{X:NL}{N:NM}{M:DM}(h:Kpt f w i n a c X N M)(b:Zp B f)(d:B<=f.heap.size):ZN B X M w :=
 ⟨(b.fr d h.fr (fun _ e=>absurd e id)).1,NR d h.fr.size,fun k g=>NR d (h.new k g)⟩
theorem Kpt.closed{d w:World}{c n a:Nat}{b:Value}{X:NL}{N:NM}{M:DM}(h:Kpt d w c n a b X N M):StC w c X.db (.pointer (some ⟨X.nb,0,none⟩)) n a b X.LD M:=⟨h.st.IR,h.st.node.Hu⟩
structure Bare(n:Nat)(W:WM)(M:DM):Prop where
 node:W.node=(n:Int)
 st:∃ m,W.st=[m]/\m.keys=[]/\m.hints=[]
 calls:W.calls=1
 most:W.most=0
 Hp:W.Hp=false
 broken:W.broken=false
 room:W.room=-1
 refused:M.refused=0
 FK:M.calls=0
 cut:M.cut=0
 fail:M.fail=0
theorem Std.bare{n B a x:Nat}{b:Value}{t:Nat}{S:Nat->Prop}{w y:World}(h:Std (WM.IP n (-1) 0 0 0) (DM.new 1152921504606846976) x B n a b t S w y) :
 ∃ X N M W,StO y B n a b X N M/\(∃ F p,NI W N M F p t)/\Bare n W M/\N.S.keys=[]/\N.S.hints=[]/\N.readOnly=false/\(∀ k,NFoot X M k->w.heap.size<=k)/\(∀ k,SRead X.LS k->w.heap.size<=k)/\Fr S w y:=by
 obtain⟨X,N,M,W,v,⟨F,p,e⟩,f,C,D,E,G,I⟩:=h;obtain⟨z,i,mo,m,m',J,o,_,c,rfl⟩:=f.found;have q:i=0:=by
  have:=(Md.1 o).1;simp only[WM.IP,NU] at this;omega
 subst q;have K:m=⟨n,[],[]⟩:=by
  simp only[WM.IP,Kw,KK] at o;exact o.symm
 subst K;have l:=Xe c;have d:m'.keys=[]:=by
  have:=l.1;unfold Zz at this;simp only[LC,List.map_eq_nil_iff] at this;exact this
 obtain⟨A,g,u,_⟩:=e.now;have j:A=m':=by
  simp only[WM.IP,Lx,LB,NU,IL,Kw,KK] at g;exact g.symm
 subst j;have s:mo=0:=by
  have r:N.S.keys=[]:=by rw[<- u.1];exact d
  unfold Zh at c;split at c
  .rw[r] at c
   simp only[zO,Kc] at c;exact c.1.symm
  .simp at c
 refine⟨X,N,M,_,v,⟨F,p,e⟩,⟨rfl,⟨A,by simp[WM.IP],d,l.2.1⟩,rfl,s,rfl,rfl,rfl,f.refused,f.calls,C,D⟩,by rw[<- u.1];exact d,by rw[<- u.2];exact l.2.1,e.ro,E,G,I⟩
theorem Nm(T:zv)(B n:Nat)(w:World)(t:Zp B w)(hB:B<=w.heap.size)(a5:n<4) :
 Calls Tryz.prog 36 #[.int .i64 n,.int .i64 1152921504606846976] w fun e w'=>∃ sb X N M W,e=.returned (.pointer (some ⟨sb,0,none⟩))/\Kpt w w' sb n 1 (.slice none 0 0) X N M/\(∃ F p,NI W N M F p 10)/\Bare n W M:=by
 have J:=Z t;have o:=Z hB;clear t hB;go_enter Tryz.func36,Tryz.ntmps36;go_wp2_with fail;refine(P9 1152921504606846976 w).mono ?_;rintro e w1 ⟨rfl,R,V,m⟩;go_wp2_with fail;have g:=Blk.newAt w1 [.pointer (some ⟨w.heap.size,0,none⟩),.pointer none,.int .i64 n,.int .i64 0,.slice none 0 0] 58 (w.heap.size+1) m.symm;have f2:Fr Nil w1 (w1.alloc (.cells #[.pointer (some ⟨w.heap.size,0,none⟩),.pointer none,.int .i64 n,.int .i64 0,.slice none 0 0] 58)):=(O _ _).alloc _;have s:(w1.alloc (.cells #[.pointer (some ⟨w.heap.size,0,none⟩),.pointer none,.int .i64 n,.int .i64 0,.slice none 0 0] 58)).heap.size=w.heap.size+2:=by simp[m]
 generalize w1.alloc (.cells #[.pointer (some ⟨w.heap.size,0,none⟩),.pointer none,.int .i64 n,.int .i64 0,.slice none 0 0] 58)=w2 at g f2 s |-;have g:Blk w2 (w.heap.size+1) (zG w.heap.size (.pointer none) n (0:Nat) (.slice none 0 0)) 58:=g;have F2:=V.trans f2;have S:=R.nil f2;have a:∀ k,Foot w.heap.size DL.new (DM.new 1152921504606846976) k->k=w.heap.size:=fun k b=>by
  cases b using Foot.elim with
  | blk=>rfl
  | dir h=>simp[DL.new,Value.ownBlock] at h
  | safe h=>simp[DL.new,Value.ownBlock] at h
  | ch h=>simp[DL.new,Value.ownBlock] at h
  | chs i h1 h=>simp[DL.new] at h1
  | file h=>simp[DM.new] at h
  | row f hf h=>simp[DM.new] at hf
 have A:=Sh.IP n (-1) 0 0 ⟨by decide,by decide⟩;rw[show Y6 (-1)=1152921504606846976 from by unfold Y6;rw[Mg (by decide)]] at A;have q:=Z (WW T B (w.heap.size+1) w.heap.size n 0 (.pointer none) (.slice none 0 0) (WM.IP n (-1) 0 0 0) DL.new (DM.new 1152921504606846976) 0 0 0 w2 ⟨g,S⟩ (J.out.fr o.out F2 (fun _ e=>absurd e id)) (NR o.out F2.size) (by have:=o.out;omega) (fun k b=>by rw[a k b];exact o.out) ⟨_,_,A⟩ (by decide) rfl a5 (by decide) ⟨by decide,by decide⟩ ⟨by decide,by decide⟩);have E:=Z F2;have G:=Z a;clear R V m g f2 F2 S a A;refine q.out.mono ?_;rintro e u ⟨rfl,r⟩;obtain⟨X,N,M,W,l,Y,K,b,hh,a2,j,a1,f3⟩:=r.bare;have F3:=E.out.trans' f3 (fun i hi e=>by rcases e with e|e;omega;rw[G.out i e] at hi;omega);have hK:Kpt w u (w.heap.size+1) n 1 (.slice none 0 0) X N M:=⟨l,F3,Ls _,fun k b=>by have:=j k b;omega,fun k b e=>by have:=j k b;omega,fun k b e=>by have:=a1 k b;omega⟩;have y:=fun C (f:Fr Nil u C)=>QH X N M C (l.node.nil f) (by rw[b];decide);have d:=Vc X N M u l.node;rw[b,hh,a2] at d;rw[b] at y;have I:Hid (Calls Tryz.prog 39 #[.pointer (some ⟨X.nb,0,none⟩)] u fun e w'=>e=.returned (.agg #[.bool false,.int .i64 0,.int .i64 0])/\Fr Nil u w'):=d;have a4:=Z y;have HK:=Z (And.intro hK (And.intro Y K));have v:Hid (∀ C,Fr Nil u C->C.cell? ⟨w.heap.size+1,1,none⟩=some (.pointer (some ⟨X.nb,0,none⟩))):=fun C f=>(l.IR.fr f id).cell 1;have L:=v.out u (O _ _);generalize w.heap.size+1=sb at v L HK |-;clear d y l Y K b hh a2 j a1 f3 F3 hK r s E G q;go_wp2_with fail;refine I.out.mono ?_;rintro e w4 ⟨rfl,f4⟩;have z:=Blk.new w4 [.bool false,.int .i64 0,.int .i64 0] 81;have f5:Fr Nil u (w4.alloc (.cells #[.bool false,.int .i64 0,.int .i64 0] 81)):=f4.alloc _;have Q:=v.out _ f5;have a3:=z.cell;have x:=Z f5;have D:=Z z;clear f5 z L;go_wp2_with fail;generalize w4.alloc (.cells #[.bool false,.int .i64 0,.int .i64 0] 81)=w5 at Q a3 x D |-;refine(a4.out _ x.out).mono ?_;rintro e w6 ⟨lv,rfl,hv,f6,-⟩;obtain⟨a0,a6,rfl⟩:=zd hv;have a7:=(D.out.fr f6 id).cell;have c:=Z (And.intro (HK.out.1.nil (x.out.trans f6)) HK.out.2);clear a3 Q hv f6;simp only[ME]
 go_wp2
 go_ret;exact⟨_,X,N,M,W,rfl,c.out.1,c.out.2.1,c.out.2.2⟩
theorem Ans.dead{M M':DM}{e:Option Int}{n t:Nat}(h:Ans M M' e)(d:Bd M t)(l:t<=100000000)(f:M.dead=false)(i:M.fail=0)(k:M.room=1152921504606846976)(a:e=some 10->M.room<M.Hx+n)(j:n<=100000)(g:e≠none):M'.dead=true:=by
 rcases h.1 with⟨b,_⟩|⟨_,⟨b,_⟩|⟨b,_⟩⟩
 .exact absurd b g
 .have h1:=h.2.bad b f
  rcases h1.2 with c|c
  .exact c.2
  .have:=d.c0
   have:=h1.1;have:=c.1;omega
 .have h1:=a b
  have:=d.Hx;omega
theorem NI.Eg{W:WM}{N:NM}{M:DM}{F:List Fact}{p t:Nat}(h:NI W N M F p t):Bd M t:=by
 obtain⟨b,a,_⟩:=h.kp.lg;exact a.bd
theorem Aft.dead'{W:WM}{j:LM}{M:DM}{e:Option Int}{b:NM}{a:DM}{t k:Nat}(h:Aft W j M e b a k)(c:Bd M t)(i:t<=100000000)(f:M.fail=0)(g:M.room=1152921504606846976)(d:e≠none):a.dead=true :=
 h.Gf.dead c i h.dead f g h.full (by decide) d
theorem UR{a b:Option Int}(c:a=none\/a=some 9\/a=some 10)(d:b=none\/b=some 9\/b=some 10)(h:zT a=zT b):a=b:=by
 rcases c with rfl|rfl|rfl <;> rcases d with rfl|rfl|rfl <;> first|rfl|cases h
theorem Kpt.put(x:zv){B:Nat}{K w:World}{sb n d:Nat}{k:Value}{W:WM}{X:NL}{N:NM}{M:DM}{F:List Fact}{p t:Nat}(h:Kpt K w sb n d k X N M)(o:NI W N M F p t)(ht:t+20<=100000000)(D:Zp B K)(hB:B<=K.heap.size)(a0:N.readOnly=false)(c b:ByteArray)(z:zz c=true)(hs:b.size<=128) :
 Calls Tryz.prog 22 #[.pointer (some ⟨X.nb,0,none⟩),.string c,.string b] w fun e w'=>∃ i q G E,e=.returned (.tuple #[.int .i64 ((if i=none then N.given+1 else 0:Nat):Int),.int .i64 (zT i)])/\Kpt K w' sb n d k q G E/\q.nb=X.nb/\q.db=X.db /\
  W.most<N.given+1/\N.given+1<=16*(W.calls+1)/\(i=none\/i=some 9\/i=some 10)/\∀ m,zP m N.S->MOk W.node m t->Aft {W with calls:=W.calls+1,most:=if i=none then N.given+1 else W.most} (m.put c b ((if i=none then N.given+1 else 0:Nat):Int)) M i G E (t+10):=by
 obtain⟨m0,_,Y,T⟩:=o.now;have y:∀ g∈M.ids,g<w.heap.size:=fun g J=>(h.st.node.Hu.files g J).lt;have j:=fun m V R=>o.put (m:=m) (H0:=w.heap.size) ht a0 V R y c b z hs;have I:=j m0 Y T;refine(WK x B X N M c b w h.st.node (h.env D hB) (fun u hu=>((o.st.1.get c).2.2 u hu).node) (fun _ _ _=>I.1 _ (NS _))).mono ?_;rintro e w' ⟨f,g,q,rfl,hf,J,s,a⟩;obtain⟨i,G,E,Q,A,_⟩:=I.2.2.2 f g hf J s;rw[Q] at a;refine⟨i,q,G,E,by rw[Q],h.step a,a.same.nb,a.same.db,I.2.1,I.2.2.1,A,fun m V R=>?_⟩;obtain⟨L,N2,M2,l,C,r⟩:=(j m V R).2.2.2 f g hf J s;rw[Q] at l;simp only[Kc] at l;obtain⟨_,h3,rfl,rfl⟩:=l;obtain rfl:i=L:=UR A C h3;exact r
theorem Kpt.hint(s:zv){B:Nat}{E w:World}{Y n c:Nat}{l:Value}{W:WM}{X:NL}{N:NM}{M:DM}{F:List Fact}{p t:Nat}(h:Kpt E w Y n c l X N M)(x:NI W N M F p t)(ht:t+20<=100000000)(A:Zp B E)(hB:B<=E.heap.size)(d:Int)(b:ByteArray)(k:XV N d b=none) :
 Calls Tryz.prog 31 #[.pointer (some ⟨X.nb,0,none⟩),.int .i64 d,.string b] w fun e w'=>∃ j q D C,e=.returned (.int .i64 (zT j))/\Kpt E w' Y n c l q D C/\q.nb=X.nb/\q.db=X.db /\
  (j=none\/j=some 9\/j=some 10)/\∀ m,zP m N.S->MOk W.node m t->Aft W (m.hint d.toNat b) M j D C (t+10):=by
 obtain⟨m0,_,R,L⟩:=x.now;have u:∀ g∈M.ids,g<w.heap.size:=fun g hg=>(h.st.node.Hu.files g hg).lt;have i:=fun m Q K=>x.hint (m:=m) (H0:=w.heap.size) ht Q K u d b;have T:=i m0 R L;refine(Wa s B X N M d b w h.st.node (h.env A hB) (fun h1 h2 I=>T.1 _ (NS _) h1 h2 I)).mono ?_;rintro e w' ⟨f,q,rfl,V,a⟩;obtain⟨j,D,C,J,y,_⟩:=T.2 k f V;rw[J] at a;refine⟨j,q,D,C,by rw[J],h.step a,a.same.nb,a.same.db,y,fun m Q K=>?_⟩;obtain⟨G,N2,M2,o,z,r⟩:=(i m Q K).2 k f V;rw[J] at o;simp only[Kc] at o;obtain⟨I,rfl,rfl⟩:=o;obtain rfl:j=G:=UR y z I;exact r
theorem Kpt.sync(m:zv){B:Nat}{s w:World}{A n c:Nat}{j:Value}{W:WM}{X:NL}{N:NM}{M:DM}{F:List Fact}{p t:Nat}(h:Kpt s w A n c j X N M)(o:NI W N M F p t)(L:t+20<=100000000)(r:Zp B s)(I:B<=s.heap.size)(k:N.readOnly=false) :
 Calls Tryz.prog 32 #[.pointer (some ⟨X.nb,0,none⟩)] w fun e C=>∃ b l N' d,e=.returned (.int .i64 (zT b))/\Kpt s C A n c j l N' d/\l.nb=X.nb/\l.db=X.db/\(b=none\/b=some 9)/\Ans M d b/\d.room=M.room /\
  (b=none->∃ i g,NI {W with st:=W.st.drop (W.st.length-1)} N' d i g (t+10))/\(b≠none->∃ i g,Sh {W with broken:=true} d i g (t+10)/\(d.dead=false->NI {W with broken:=true} N' d i g (t+10))):=by
 refine(Yz m B X N M w h.st.node (h.env r I)).mono ?_;rintro e C ⟨l,rfl,a⟩;obtain⟨b,D,d,g,E,z,_,v,_⟩:=U0 (h:=o.kp.mono (fun _=>k) (NS _)) (by omega);have y:N.Hc M=(zT b,({N with J:=D}:NM).Gf b,d):=by
  unfold NM.Hc;rw[Ma (by rw[k];decide),E]
 have x:=o.sync (by omega) k;rw[y] at x a |-;have q:b=none\/b=some 9:=by
  rcases z.Gf.1 with⟨f,_⟩|⟨_,⟨f,_⟩|⟨f,_⟩⟩
  .exact .inl f
  .exact .inr f
  .exact absurd f v
 refine⟨b,l,_,d,rfl,h.step a,a.same.nb,a.same.db,q,z.Gf,z.room,fun f=>?_,fun f=>?_⟩
 .subst f
  rcases x with⟨_,_,i,g,K⟩|⟨G,_⟩
  .exact⟨i,g,K.more (by omega)⟩
  .cases G
 .rcases x with⟨h0,_⟩|⟨_,_,_,i,g,h1,h2⟩
  .rcases q with rfl|rfl
   .exact absurd rfl f
   .cases h0
  .exact⟨i,g,h1.more (by omega),fun J=>(h2 J).more (by omega)⟩
theorem O2(a:ByteArray)(v:Ver):Z0 [] a [v]=[(a,[v])]:=rfl
theorem O3(a:ByteArray)(l:List Ver)(v:Ver):Z0 [(a,l)] a [v]=[(a,[v])]:=by
 cases h:zb a a <;> simp[Z0,zV,h]
theorem Nn(W:WM)(m:LM):(W.Hv m).writes=W.writes+1/\(W.Hv m).every=W.every/\(W.Hv m).node=W.node/\(W.Hv m).broken=W.broken/\(W.Hv m).room=W.room /\
 (((0<W.every/\((W.writes+1:Nat):Int).tmod W.every=0)/\(W.Hv m).st=[m])\/(¬(0<W.every/\((W.writes+1:Nat):Int).tmod W.every=0)/\(W.Hv m).st=W.st++[m])):=by
 unfold WM.Hv WM.due;simp only[Ln,Ms];split
 .rename_i h
  exact⟨rfl,rfl,rfl,rfl,rfl,.inl ⟨h,by simp⟩⟩
 .rename_i h
  exact⟨rfl,rfl,rfl,rfl,rfl,.inr ⟨h,rfl⟩⟩
theorem Kpt.turn{r w p:World}{q n a:Nat}{f:Value}{X:NL}{N:NM}{M o:DM}(h:Kpt r w q n a f X N M)(s:DRep p X.db X.LD o)(l:Fr (fun k=>k=X.db) w p)(g:∀ k,Foot X.db X.LD o k->Foot X.db X.LD M k):Kpt r p q n a f X N o:=by
 have d:=h.st.node;have m:∀ k,NFoot X o k->NFoot X M k:=fun k b=>by
  rcases b with e|e|e|e
  .exact .inl e
  .exact .inr (.inl e)
  .exact .inr (.inr (.inl e))
  .exact .inr (.inr (.inr (g k e)))
 have j:Ty w X.db 143:=d.Hu.IR.ty;have c:∀ k t,Ty w k t->t≠143->k≠X.db:=fun k t b u e=>by subst e;exact u (b.inj j)
 refine⟨⟨h.st.IR.fr l (fun e=>h.sep X.db (.inr (.inr (.inr .IR))) e.symm),d.IR.fr l (c _ _ d.IR.ty (by decide)),Blk.fr d.log l (c _ _ (Blk.ty d.log) (by decide)),d.held.fr l (fun k b e=>?_) (fun k b e=>?_),s⟩,h.fr.trans' l (fun i v e=>by have:=h.new X.db (.inr (.inr (.inr .IR)));omega),h.low,fun k b=>h.new k (m k b),fun k b=>h.sep k (m k b),h.FH⟩
 .rcases d.held.Hn b with e2|e2|e2 <;> exact c _ _ e2 (by decide) e
 .exact c _ _ (d.held.Gg b) (by decide) e
theorem Kpt.std{o w v:World}{j r n a:Nat}{b:Value}{q:DL}{W:WM}{M:DM}{l t:Nat}(u:Fr Nil o w)(f:o.heap.size<=j)(E:j<w.heap.size)(g:∀ k,Foot r q M k->o.heap.size<=k)(h:Std W M l j n a b t (fun k=>k=j\/Foot r q M k) w v) :
 ∃ X N c m,Kpt o v j n a b X N c/\(∃ F p,NI m N c F p t)/\Opd W ((M.Hr 0).Hi 0 0) l N c m/\c.cut=0/\c.fail=0:=by
 obtain⟨X,N,c,m,x,y,z,A,B,s,C,D⟩:=h;exact⟨X,N,c,m,⟨x,u.trans' D (fun i G e=>by rcases e with rfl|e;omega;have:=g i e;omega),f,fun k d=>NR u.size (s k d),fun k d e=>by have:=s k d;omega,fun k d e=>by have:=C k d;omega⟩,y,z,A,B⟩
theorem Opd.GR{W W':WM}{M b:DM}{a:Nat}{N:NM}(h:Opd W M a N b W'):W'.node=W.node/\W'.every=a/\W'.writes=0/\W'.broken=false/\W'.room=W.room:=by
 obtain⟨_,_,_,_,_,_,_,_,_,rfl⟩:=h.found;exact⟨rfl,rfl,rfl,rfl,rfl⟩
theorem U3{n:Nat}(h:n<1000000):(Zc n).size<=21:=by
 unfold Zc
 simpa [ByteArray.size] using Lib.itoa_length_le (n:Int) (by omega) (by omega)
end Go.Proofs.YtkhnggkkiefcdaaGreatDoor
namespace Go.Proofs.YtkhnggkkiefcdaaGreatDoor
open Go.RowKit Go.ChangeShapes
set_option maxRecDepth 100000
set_option maxHeartbeats 8000000
theorem RW{W:World}(h:laidMetH Tryz.prog Rows.writesRow.laid W):Tab W:=by
 have a:=(IM.1 h).1.filter (fun x=>x.1==Yy);have e:((Rows.writesRow.laid.filter fun x=>x.2.handleName?.isNone).filter fun x=>x.1==Yy)=[(Yy,Lib.tabData .u64 Lib.pow10Tab)]:=by kernel_rfl
 rw[e] at a;exact Lib.tabIs_of_head (rest:=[]) (g:=1) (by kernel_rfl) (t:=322) (by kernel_rfl) Tryz.underlying322 Tryz.underlying274 (by kernel_rfl) (by kernel_rfl) a
theorem U4:Tryz.prog.globalNamed Yy=some 1:=by kernel_rfl
theorem P0:Tryz.prog.globalNamed "errors.errorType"=some 0:=by kernel_rfl
theorem P1:Tryz.prog.types.size=396:=by kernel_rfl
theorem O4:((List.range 396).filter fun t=>Tryz.prog.rowNamed t [101,114,114,111,114])=[132]:=by kernel_rfl
theorem RX{W:World}(h:laidMetH Tryz.prog Rows.writesRow.laid W):Hnd W:=by
 have c:=(IM.1 h).2;have e:(Rows.writesRow.laid.filter fun x=>x.2.handleName?.isSome)=[("errors.errorType",Rows.laid_errors_errorType)]:=by kernel_rfl
 rw[e] at c;obtain⟨a,u,ty,f,g,i,j,b⟩:=c _ (NW.2 rfl);have k:a=[101,114,114,111,114]:=(Mp f).symm;subst k;have l:some u=some 309:=g.symm.trans (by kernel_rfl);obtain rfl:=Mp l;have d:ty∈(List.range 396).filter fun t=>Tryz.prog.rowNamed t [101,114,114,111,114]:=List.mem_filter.2 ⟨KO.2 (by rw[<- P1];exact i),j⟩;rw[O4] at d;obtain rfl:=NW.1 d;have m:typeHandle Tryz.prog 132=.pointer (some ⟨6,132,none⟩):=by kernel_rfl
 rw[m] at b;have:=World.var?_cell P0 b 0;unfold Hnd
 simpa using this
theorem Ti{W:World}(h:laidMetH Tryz.prog Rows.writesRow.laid W):Yt W.heap.size W:=by
 have a:=RW h;have b:=RX h;refine⟨a,fun g c=>?_,b,V2 b⟩;have:=Mp (U4.symm.trans c);subst this;exact V2 (a.cell U4 0 (by decide))
theorem U5:Tryz.prog.globalNamed "strconv.ErrSyntax"=some 4:=by kernel_rfl
theorem OR:(Tryz.prog.globals[4]?).map (·.type)=some 132:=by kernel_rfl
theorem Wy{W:World}(h:laidMetH Tryz.prog Rows.writesRow.laid W):Yv W:=by
 have b:=(IM.1 h).1.filter (fun x=>x.1== "strconv.ErrSyntax");have e:((Rows.writesRow.laid.filter fun x=>x.2.handleName?.isNone).filter fun x=>x.1== "strconv.ErrSyntax")=[("strconv.ErrSyntax",Rows.laid_strconv_ErrSyntax)]:=by kernel_rfl
 rw[e] at b;obtain⟨a,s,c,_⟩:=laid_sentinel b U5 OR Tryz.underlying132 (fun u h => typeName_ptr_named (P := Tryz.prog) (nm := "errors.errorString") (by kernel_rfl) (by kernel_rfl) (by decide) u (h.trans (congrArg some (by decide)))) Tryz.underlying348 Tryz.underlying350 rfl rfl Lt (by kernel_rfl) (by kernel_rfl);have:=World.var?_cell U5 c 0;exact⟨V2 (p:=⟨4,0,none⟩) (by simpa using this),_,_,by simpa using this⟩
theorem R7{W:World}(h:laidMetH Tryz.prog Rows.writesRow.laid W):Zp W.heap.size W :=
 ⟨Ti h,Wy h,(Wy h).1⟩
end Go.Proofs.YtkhnggkkiefcdaaGreatDoor
namespace Go.Proofs.YtkhnggkkiefcdaaGreatDoor
open Go.RowKit Go.Extern.Stop Go.Stop Go.Extern
set_option maxRecDepth 100000
set_option maxHeartbeats 8000000
theorem R8(t:Addr)(w:World):(ReflectliteValue.unpack (.iface 227 (.pointer (some t)))).run Tryz.prog w
 = .ok (.agg #[.pointer (some ⟨6,227,none⟩),.pointer (some ⟨w.heap.size,0,none⟩),.int .u64 150]) (w.alloc (.cells #[.pointer (some t)] 227)):=by kernel_rfl
theorem O5(a:Addr)(w:World):(ReflectliteValue.methodAny (ReflectliteValue.valueError "reflectlite.Value.Type" 0) (fun t _ _ _=>ReflectliteType.toType t) #[.agg #[.pointer (some ⟨6,227,none⟩),.pointer (some a),.int .u64 150]]).run Tryz.prog w
 = .ok (.iface 309 (.agg #[.pointer (some ⟨6,227,none⟩)])) w:=by kernel_rfl
theorem Tj(h:Value)(w:World):(Go.method 496 309 (.agg #[h]) "Kind").run Tryz.prog w=.ok (271,h) w:=by kernel_rfl
theorem O6(w:World):((ReflectliteType.abiMethod fun t=>Functor.map (fun a:Nat=>Value.int IntKind.u8 (a:Int)) (Rtype.kind t)) #[.pointer (some ⟨6,227,none⟩)]).run Tryz.prog w=.ok (.int .u8 22) w:=by kernel_rfl
theorem O7(w:World):((ReflectliteType.abiMethod fun t=>Functor.map (fun a:Nat=>Value.int IntKind.u8 (a:Int)) (Rtype.kind t)) #[.pointer (some ⟨6,225,none⟩)]).run Tryz.prog w=.ok (.int .u8 22) w:=by kernel_rfl
theorem U6(a:Addr)(w:World):(ReflectliteValue.parts (.agg #[.pointer (some ⟨6,227,none⟩),.pointer (some a),.int .u64 150])).run Tryz.prog w=.ok (some (227,a,150)) w:=by kernel_rfl
theorem P2(a p:Addr)(W:World)(b:W.cell? a=some (.pointer (some p))) :
 (ReflectliteValue.method (ReflectliteValue.valueError "reflectlite.Value.IsNil" 0) ReflectliteValue.isNil #[.agg #[.pointer (some ⟨6,227,none⟩),.pointer (some a),.int .u64 150]]).run Tryz.prog W=.ok (.bool false) W:=by
 change Sem.run Tryz.prog (ReflectliteValue.parts (.agg #[.pointer (some ⟨6,227,none⟩),.pointer (some a),.int .u64 150]) >>= _) W=_;simp only[Kz,U6,Result.andThen];simp[ReflectliteValue.isNil,loadVar,isAgg,underlying,Tryz.underlying227,b,Result.andThen]
theorem Tk(h:Value)(w:World):(Go.method 496 309 (.agg #[h]) "Elem").run Tryz.prog w=.ok (316,.agg #[h]) w:=by kernel_rfl
theorem Wz(h:Value)(w:World):(Go.method 496 309 (.agg #[h]) "Implements").run Tryz.prog w=.ok (317,.agg #[h]) w:=by kernel_rfl
theorem XX(h:Value)(w:World):(Go.method 496 309 (.agg #[h]) "AssignableTo").run Tryz.prog w=.ok (314,.agg #[h]) w:=by kernel_rfl
theorem O8(w:World):(ReflectliteType.method ReflectliteType.elem #[.agg #[.pointer (some ⟨6,227,none⟩)]]).run Tryz.prog w=.ok (.iface 309 (.agg #[.pointer (some ⟨6,225,none⟩)])) w:=by kernel_rfl
theorem U7(w:World):(ReflectliteType.relation "Implements" ReflectliteType.implements_ #[.agg #[.pointer (some ⟨6,225,none⟩)],.iface 309 (.agg #[.pointer (some ⟨6,132,none⟩)])]).run Tryz.prog w=.ok (.bool true) w:=by kernel_rfl
theorem RY(v:Value)(w:World):(ReflectliteType.typeOf #[.iface 225 v]).run Tryz.prog w=.ok (.iface 309 (.agg #[.pointer (some ⟨6,225,none⟩)])) w:=by kernel_rfl
theorem U9(w:World):(ReflectliteType.relation "AssignableTo" ReflectliteType.assignableTo #[.agg #[.pointer (some ⟨6,225,none⟩)],.iface 309 (.agg #[.pointer (some ⟨6,225,none⟩)])]).run Tryz.prog w=.ok (.bool true) w:=by kernel_rfl
theorem R9(e:Addr)(w:World):(ReflectliteValue.unpack (.iface 225 (.pointer (some e)))).run Tryz.prog w
 = .ok (.agg #[.pointer (some ⟨6,225,none⟩),.pointer (some ⟨w.heap.size,0,none⟩),.int .u64 150]) (w.alloc (.cells #[.pointer (some e)] 225)):=by kernel_rfl
theorem RZ(w:World):(Rtype.elem? 227).run Tryz.prog w=.ok (some 225) w:=by kernel_rfl
theorem Nq(p:Addr)(w:World):(ReflectliteValue.mk 225 p ReflectliteValue.flagAddr).run Tryz.prog w=.ok (.agg #[.pointer (some ⟨6,225,none⟩),.pointer (some p),.int .u64 406]) w:=by kernel_rfl
theorem P3(a p:Addr)(W:World)(b:W.cell? a=some (.pointer (some p))) :
 (ReflectliteValue.method (ReflectliteValue.valueError "reflectlite.Value.Elem" 0) ReflectliteValue.elem #[.agg #[.pointer (some ⟨6,227,none⟩),.pointer (some a),.int .u64 150]]).run Tryz.prog W
   = .ok (.agg #[.pointer (some ⟨6,225,none⟩),.pointer (some p),.int .u64 406]) W:=by
 change Sem.run Tryz.prog (ReflectliteValue.parts (.agg #[.pointer (some ⟨6,227,none⟩),.pointer (some a),.int .u64 150]) >>= _) W=_;simp only[Kz,U6,Result.andThen];simp[ReflectliteValue.elem,loadVar,isAgg,underlying,Tryz.underlying227,b,Result.andThen,RZ,Nq]
theorem Q0(a:Addr)(w:World):(ReflectliteValue.parts (.agg #[.pointer (some ⟨6,225,none⟩),.pointer (some a),.int .u64 406])).run Tryz.prog w=.ok (some (225,a,406)) w:=by kernel_rfl
theorem P4(a:Addr)(w:World):(ReflectliteValue.parts (.agg #[.pointer (some ⟨6,225,none⟩),.pointer (some a),.int .u64 150])).run Tryz.prog w=.ok (some (225,a,150)) w:=by kernel_rfl
theorem Q3(w:World):(Rtype.directlyAssignable 225 225).run Tryz.prog w=.ok true w:=by kernel_rfl
theorem OS(a b e:Addr)(c:Value)(W:World)(d:W.cell? b=some (.pointer (some e)))(g:W.cell? a=some c)(f:W.frozen? a=false) :
 (ReflectliteValue.set #[.agg #[.pointer (some ⟨6,225,none⟩),.pointer (some a),.int .u64 406],.agg #[.pointer (some ⟨6,225,none⟩),.pointer (some b),.int .u64 150]]).run Tryz.prog W
   = .ok (.tuple #[]) (W.setCell a (.pointer (some e))):=by
 change Sem.run Tryz.prog (ReflectliteValue.parts (.agg #[.pointer (some ⟨6,225,none⟩),.pointer (some a),.int .u64 406]) >>= fun _=>ReflectliteValue.parts (.agg #[.pointer (some ⟨6,225,none⟩),.pointer (some b),.int .u64 150]) >>= _) W=_;simp only[Kz,Q0,P4,Result.andThen];simp[ReflectliteValue.flagAddr,loadVar,isAgg,underlying,Tryz.underlying225,d,Result.andThen,Q3,storeVar,Value.cells,storeCells,Addr.add];rw[run_store Tryz.prog W a _ _ (by rfl)];simp[g,f]
theorem P5(v:Value)(w:World):(ReflectliteType.typeOf #[.iface 202 v]).run Tryz.prog w=.ok (.iface 309 (.agg #[.pointer (some ⟨6,202,none⟩)])) w:=by kernel_rfl
theorem Uq(w:World):(ReflectliteType.relation "AssignableTo" ReflectliteType.assignableTo #[.agg #[.pointer (some ⟨6,202,none⟩)],.iface 309 (.agg #[.pointer (some ⟨6,225,none⟩)])]).run Tryz.prog w=.ok (.bool false) w:=by kernel_rfl
theorem OT(v:Value)(a:TypeId)(w:World):(Instr.typeAssert (.iface 202 v) a 314 true).run Tryz.prog w=.ok (.tuple #[.nilIface,.bool false]) w :=
 run_typeAssert_lacksB Tryz.underlying314 (by kernel_rfl) (by kernel_rfl) v a w
theorem ND(v:Value)(a:TypeId)(w:World):(Instr.typeAssert (.iface 202 v) a 317 true).run Tryz.prog w=.ok (.tuple #[.iface 202 v,.bool true]) w :=
 run_typeAssert_hasB Tryz.underlying317 (by kernel_rfl) v a w
theorem O9(v:Value)(w:World):(Go.method 496 202 v "Unwrap").run Tryz.prog w=.ok (302,v) w:=by kernel_rfl
theorem Ra(b:Nat)(a:ByteArray)(v:Value)(w:World)(h:Blk w b [.string a,v] 204)(t c:Nat)(d:v=.iface t (.pointer (some ⟨c,0,none⟩))) :
 Calls Tryz.prog 302 #[.pointer (some ⟨b,0,none⟩)] w fun e f=>e=.returned v/\f=w:=by
 subst d;have g:w.cell? ⟨b,1,none⟩=some (.iface t (.pointer (some ⟨c,0,none⟩))):=h.cell 1;clear h;go_enter Tryz.func302,Tryz.ntmps302
 go_wp2
 go_ret;exact⟨rfl,rfl⟩
theorem Zg.unique{w:World}{n m:Int}:∀ {k j:Nat}{v:Value},Zg w n k v->Zg w m j v->k=j
 | 0,0,_,_,_=>rfl
 | 0,j+1,v,⟨b,c,f,h,i⟩,⟨g,l,o,a,d,_⟩=>by
  rw[h] at a;exact absurd a (by intro x;have:=(It x).1;exact absurd this (by decide))
 | k+1,0,v,⟨g,l,o,a,d,_⟩,⟨b,c,f,h,i⟩=>by
  rw[h] at a;exact absurd a (by intro x;have:=(It x).1;exact absurd this (by decide))
 | k+1,j+1,v,⟨b,c,t,h,i,s⟩,⟨g,l,o,a,d,r⟩=>by
  rw[h] at a;have e:=(It a).2;have q:b=g:=by injection e with e;injection e with e;injection e
  subst q;have:=(i.inj d).1;simp at this;obtain⟨_,rfl⟩:=this;rw[Zg.unique s r]
theorem Vl(n:Int):∃ D:World->Value->Nat,∀ w v k,Zg w n k v->D w v=k:=
 ⟨fun w v=>Classical.epsilon fun k=>Zg w n k v,fun w v k h=>Zg.unique (Classical.epsilon_spec (p:=fun k=>Zg w n k v) ⟨k,h⟩) h⟩
def Oa(n:Int)(t:Nat)(w a:World):Prop:=∃ e c f,a.cell? ⟨t,0,none⟩=some (.pointer (some ⟨e,0,none⟩))/\Blk a e [.string c,.string f,.int .i64 n] 229/\Fr (fun k=>k=t) w a
theorem Ob(n:Int)(k:Nat)(v:Value)(t a:Nat)(w:World)(V:Zg w n k v)(F:Blk w t [.pointer none] 225)(T:Blk w a [.pointer (some ⟨t,0,none⟩)] 227) :
 Calls Tryz.prog 198 #[v,.iface 227 (.pointer (some ⟨t,0,none⟩)),.agg #[.pointer (some ⟨6,227,none⟩),.pointer (some ⟨a,0,none⟩),.int .u64 150],.iface 309 (.agg #[.pointer (some ⟨6,225,none⟩)])] w fun e s=>e=.returned (.bool true)/\Oa n t w s:=by
 have h6:=@MM Tryz.prog 195 _ (fun u=>ReflectliteValue.unpack (u.getD 0 (.tuple #[]))) Tryz.func195 (by kernel_rfl) (by kernel_rfl) (by kernel_rfl) (by kernel_rfl);have a1:=@MM Tryz.prog 224 _ ReflectliteType.typeOf Tryz.func224 (by kernel_rfl) (by kernel_rfl) (by kernel_rfl) (by kernel_rfl);have a4:=@MM Tryz.prog 314 _ (ReflectliteType.relation "AssignableTo" ReflectliteType.assignableTo) Tryz.func314 (by kernel_rfl) (by kernel_rfl) (by kernel_rfl) (by kernel_rfl);have a2:=@MM Tryz.prog 225 _ (ReflectliteValue.method (ReflectliteValue.valueError "reflectlite.Value.Elem" 0) ReflectliteValue.elem) Tryz.func225 (by kernel_rfl) (by kernel_rfl) (by kernel_rfl) (by kernel_rfl);have a3:=@MM Tryz.prog 226 _ ReflectliteValue.set Tryz.func226 (by kernel_rfl) (by kernel_rfl) (by kernel_rfl) (by kernel_rfl);have tO:=RY;have tD:=P5;have mA:=XX;have a0:=U9;have aD:=Uq;have a8:=R9;have hL:=OT;have hH:=ND;have mU:=O9;have d:=Blk.new w [.pointer (some ⟨6,227,none⟩),.pointer (some ⟨a,0,none⟩),.int .u64 150] 281;have y:Fr Nil w (w.alloc (.cells #[.pointer (some ⟨6,227,none⟩),.pointer (some ⟨a,0,none⟩),.int .u64 150] 281)):=(O _ _).alloc _;have L:=Z (V.fr y (YA.nil w));have K:=Z (F.fr y id);have G:=Z (T.fr y id);have A:=Z d;have J:=Z y;have a6:=F.lt;clear V F T d y;generalize z:w.alloc (.cells #[.pointer (some ⟨6,227,none⟩),.pointer (some ⟨a,0,none⟩),.int .u64 150] 281)=Y at L K G A J;generalize Q:w.heap.size=N at A;have R:N<Y.heap.size:=A.out.lt;have E:=Z z;have HN:=Z Q;clear z Q;go_enter Tryz.func198,Tryz.ntmps198;go_wp2_with fail;rw[E.out,HN.out]
 obtain ⟨qDD9, hDD9⟩ := Vl n
 have HDD9 := Z hDD9
 clear hDD9
 go_loopw [0] (fun x s=>∃ k,Zg s n k x/\Fr Nil Y s) (fun x s=>qDD9 s x)
 case atStart=>exact⟨k,L.out,O _ _⟩
 case round =>
  obtain⟨j,g,q⟩:=hrel;have a5:=(A.out.fr q id).cell;cases j with
  | zero =>
   obtain⟨e,c,f,rfl,o⟩:=g;have el:=P3 ⟨a,0,none⟩ ⟨t,0,none⟩ wr ((G.out.fr q id).cell 0);have i:=Blk.new wr [.pointer (some ⟨e,0,none⟩)] 225;have r:=K.out.fr q id;have b:=r.alloc (.cells #[.pointer (some ⟨e,0,none⟩)] 225);have st:=OS ⟨t,0,none⟩ ⟨wr.heap.size,0,none⟩ ⟨e,0,none⟩ (.pointer none) (wr.alloc (.cells #[.pointer (some ⟨e,0,none⟩)] 225)) (i.cell 0) (b.cell 0) (b.frozen 0);have l:=b.set 0 (.pointer (some ⟨e,0,none⟩));have HC:=Z (l.cell 0);have B:=Z ((o.alloc (.cells #[.pointer (some ⟨e,0,none⟩)] 225)).Gz (b':=t) (o.ne r (by decide)) 0 (.pointer (some ⟨e,0,none⟩)));have D:Hid (Fr (fun k=>k=t) w ((wr.alloc (.cells #[.pointer (some ⟨e,0,none⟩)] 225)).setCell ⟨t,0,none⟩ (.pointer (some ⟨e,0,none⟩)))) :=
    Z (Fr.set (S:=fun k=>k=t) (p:=⟨t,0,none⟩) (((J.out.trans q).mono (fun _ _ h=>absurd h id)).alloc _) (fun _=>rfl) _)
   clear o q i r b l
   go_wp2
   go_ret;exact⟨rfl,e,c,f,HC.out,B.out,D.out⟩
  | succ j =>
   obtain⟨e,m,v',rfl,o,g⟩:=g;obtain⟨X,M,rfl⟩:=g.form;have HU:=Z (Ra e m _ wr o X M rfl);have I:Hid (qDD9 wr (.iface X (.pointer (some ⟨M,0,none⟩)))=j/\qDD9 wr (.iface 202 (.pointer (some ⟨e,0,none⟩)))=j+1):=⟨HDD9.out _ _ _ g,HDD9.out _ _ _ ⟨e,m,_,rfl,o,g⟩⟩;have C:=Z q;have HJ:=Z g;clear o q g
   go_wp2_with (refine HU.out.mono ?_;rintro e w1 ⟨rfl,a7⟩;subst w1)
   exact⟨⟨j,HJ.out,C.out⟩,by rw[I.out.1,I.out.2];omega⟩
theorem OU(n:Int)(v:Value)(t:Nat)(w:World)(Q:ERep w v (some n))(y:Blk w t [.pointer none] 225)(l:Hnd w) :
 Calls Tryz.prog 154 #[v,.iface 227 (.pointer (some ⟨t,0,none⟩))] w fun e X=>e=.returned (.bool true)/\Oa n t w X:=by
 have h6:=@MM Tryz.prog 195 _ (fun d=>ReflectliteValue.unpack (d.getD 0 (.tuple #[]))) Tryz.func195 (by kernel_rfl) (by kernel_rfl) (by kernel_rfl) (by kernel_rfl);have h7:=@MM Tryz.prog 196 _ (ReflectliteValue.methodAny (ReflectliteValue.valueError "reflectlite.Value.Type" 0) (fun t _ _ _=>ReflectliteType.toType t)) Tryz.func196 (by kernel_rfl) (by kernel_rfl) (by kernel_rfl) (by kernel_rfl);have h8:=@MM Tryz.prog 197 _ (ReflectliteValue.method (ReflectliteValue.valueError "reflectlite.Value.IsNil" 0) ReflectliteValue.isNil) Tryz.func197 (by kernel_rfl) (by kernel_rfl) (by kernel_rfl) (by kernel_rfl);have K:=@MM Tryz.prog 271 _ (ReflectliteType.abiMethod fun t=>do pure (.int .u8 (<- Rtype.kind t))) Tryz.func271 (by kernel_rfl) (by kernel_rfl) (by kernel_rfl) (by kernel_rfl);have L:=@MM Tryz.prog 316 _ (ReflectliteType.method ReflectliteType.elem) Tryz.func316 (by kernel_rfl) (by kernel_rfl) (by kernel_rfl) (by kernel_rfl);have M:=@MM Tryz.prog 317 _ (ReflectliteType.relation "Implements" ReflectliteType.implements_) Tryz.func317 (by kernel_rfl) (by kernel_rfl) (by kernel_rfl) (by kernel_rfl);have f6:=R8;have f7:=O5;have mK:=Tj;have mE:=Tk;have mI:=Wz;have T:=O6;have S:=O7;have I:=O8;have R:=U7;obtain⟨k,m⟩:=Q;obtain⟨V,E,rfl⟩:=m.form;have g:=Blk.new w [.pointer (some ⟨t,0,none⟩)] 227;have c:Fr Nil w (w.alloc (.cells #[.pointer (some ⟨t,0,none⟩)] 227)):=(O _ _).alloc _;have q:(w.alloc (.cells #[.pointer (some ⟨t,0,none⟩)] 227)).heap.size=w.heap.size+1:=X0 _ _;generalize o:w.alloc (.cells #[.pointer (some ⟨t,0,none⟩)] 227)=f at g c q;have i:=Blk.new f [.pointer (some ⟨6,227,none⟩),.pointer (some ⟨w.heap.size,0,none⟩),.int .u64 150] 281;have a:Fr Nil f (f.alloc (.cells #[.pointer (some ⟨6,227,none⟩),.pointer (some ⟨w.heap.size,0,none⟩),.int .u64 150] 281)):=(O _ _).alloc _;generalize p:f.alloc (.cells #[.pointer (some ⟨6,227,none⟩),.pointer (some ⟨w.heap.size,0,none⟩),.int .u64 150] 281)=r at i a;have b:=g.fr a id;have n8:=P2 ⟨w.heap.size,0,none⟩ ⟨t,0,none⟩ r (b.cell 0);have j:=i.cell;have N:r.cell? ⟨0,0,none⟩=some (.iface 309 (.agg #[.pointer (some ⟨6,132,none⟩)])):=((c.trans a).cell (by have:=l;unfold Hnd World.cell? at this;simp only;rcases Lz 0 w.heap.size with h|h;exact h;rw[Ky h] at this;cases this) id).trans l;have C:=Z (Ob n k (.iface V (.pointer (some ⟨E,0,none⟩))) t w.heap.size r (m.fr (c.trans a) (YA.nil w)) (y.fr (c.trans a) id) b);have D:=Z (c.trans a);rw[q] at j;clear g b i m y l c a q;subst p;subst o;go_enter Tryz.func154,Tryz.ntmps154;go_wp2_with fail;refine C.out.mono ?_;rintro e Y ⟨rfl,G,F,J,s,u,x⟩;have z:=Z s;have A:=Z u;have B:Hid (Fr (fun k=>k=t) w Y):=(D.out.mono (fun _ _ h=>absurd h id)).trans x;clear s u x
 go_wp2
 go_ret;exact⟨rfl,G,F,J,z.out,A.out,B.out⟩
theorem P6:zv:=by
 intro B w v n c j;have g:=Blk.new w [.pointer none] 225;have a:Fr Nil w (w.alloc (.cells #[.pointer none] 225)):=(O _ _).alloc _;have m:=Z (OU n v w.heap.size _ (j.fr a (YA.nil w)) g (show Hnd _ from(a.cell (by have:=c.2.2.1;unfold Hnd World.cell? at this;simp only;rcases Lz 0 w.heap.size with h|h;exact h;rw[Ky h] at this;cases this) id).trans c.2.2.1));have o:=Z a;have b:=Z (show ∀ k,k<w.heap.size->k≠w.heap.size from fun k h=>by omega);clear g a c j;go_enter Tryz.func97,Tryz.ntmps97;go_wp2_with fail;refine m.out.mono ?_;rintro e r ⟨rfl,u,t,x,y,d,f⟩;have p:=d.cell 2;have l:Hid (Fr Nil w r):=o.out.trans' f (fun i q e=>absurd e (b.out i q));clear d f
 go_wp2
 go_ret;exact⟨rfl,l.out⟩
end Go.Proofs.YtkhnggkkiefcdaaGreatDoor
