/- larder: joined texts -/
import Derived.Test.YtkhnggkkiefcdaaGreatDoorALAG
namespace Go.Proofs.YtkhnggkkiefcdaaGreatDoor
open Go.RowKit Proofs.Tryz
set_option maxRecDepth 100000
set_option maxHeartbeats 8000000
variable{l:List Ver}{p:Prop}
theorem IY:((prog.info? 37).map fun i=>(i.zero.map (·.cells.size),i.size,i.bytes))=some (some 8,8,72):=bI
def VN(w:World)(c:Option Nat)(n i:Nat)(h f:List Value)(e:Ending)(d:World):Prop :=
 ∃ g a,e=.returned (.slice (some (Y g 0)) (n+1) a)/\d.ownsRow 0 37 8 (.slice (some (Y g 0)) (n+1) a) (n+1) (YH 8 i h f)/\Fr (fun b=>c=some b) w d/\(c=some g\/w.heap.size<=g)
theorem NO(v:Value)(n:Nat)(d f:List Value)(r:Nat)(w:World)(b:w.ownsRow 0 37 8 v n d)(t:f.length=8)(s:∀ u∈f,u.oneCell'=true)(J:Blk w r f 37)(p:(n+1)*72<=140737488355328) :
 Calls prog 181 #[v,I n,.slice (some (Y r 0)) 1 1] w fun e c=>VN w v.ownBlock n n d f e c:=by
 have q:∀ ty,∃ m c,(Builtin.append_ #[61,61] ty #[v,.slice (some (Y r 0)) 1 1]).run prog w=.ok m c/\App w v 37 8 (n+1) (d++f) m c:=fun ty =>
  zq (P:=prog) 61 ty 37 8 72 AL IY V v n d b ⟨r,0,none⟩ 1 1 f (by rw[t]) (fun j u G=>by rw[BO,BQ];rw[J.cell];exact G) s ac p
 have k:∀ m c,App w v 37 8 (n+1) (d++f) m c->VN w v.ownBlock n n d f (.returned m) c:=by
  rintro m c ⟨y,C,o⟩;obtain⟨g,l,rfl,_,_⟩:=y.form V;refine⟨g,l,rfl,?_,(Fr.sB C).mono (fun i _ h=>h),?_⟩
  .have e1:d.take (n*8)=d:=Bn aV
   have A:d.drop (n*8)=[]:=BT aV;unfold YH;rw[e1,A,Bz];exact y
  .rcases o with o|o
   .left;rw[<- o];rfl
   .right;have:g=w.heap.size:=by simpa [Value.ownBlock] using o
    omega
 have D:=zH b;unfold maxLen at D;obtain⟨a,l,rfl⟩:=zf b;have x:=Z k;clear k b;generalize (Value.slice a n l).ownBlock=K at x |-;go_enter func181,ntmps181
 go_wp2_with (at_builtin;go_must (refine zm rfl _ _ _ _ rfl _ _ bH bH (q _) ?_);rintro m c B)
 all_goals
  go_ret;exact x.o _ _ B
theorem IZ(w:World)(k m l i h f:Nat)(a g:Nat)(j c:List Value)(d:Blk w a j 37)(p:Blk w g c 37)(b:a≠g)(o:c.length≠0) :
 (callFunc 215 #[.slice (some (Y a k)) m l,.slice (some (Y g i)) h f]).run prog w=.ok (.value (.bool false)) w:=by
 rw[Ag func215 bI bI bI (e:=Extern.SlicesOverlaps.overlaps #[61,61] #[4]) bI,
  wM w 61 4 37 AL 8 sizeOf37 ⟨a,k,none⟩ ⟨g,i,none⟩ m l h f b 37 37 j.length c.length d.pk p.pk o (d.frozen _) (d.frozen _)]
 rfl
theorem QT(g n a i:Nat)(c l k:List Value)(A:Nat)(w:World)(Q:Blk w g c 37)(m:c.length=a*8)(ht:c.take (n*8)=l)(h1:∀ u∈l,u.oneCell'=true)(hi:i<n)(d:n+1<=a)(T:a<=maxLen)
 (s:k.length=8)(N:∀ u∈k,u.oneCell'=true)(hv:Blk w A k 37)(R:A≠g) :
 Calls prog 181 #[.slice (some (Y g 0)) n a,I i,.slice (some (Y A 0)) 1 1] w fun e w'=>VN w (some g) n i l k e w':=by
 have a0:=fun va vl vc bo bl bc=>IZ w va vl vc bo bl bc A g k c hv Q R V;have B:l.length=n*8:=by rw[<- ht,CR,m];exact Ab (BG _ V)
 have r:(l.drop (i*8)).length=(n-i)*8:=by rw[Bc,B,vn]
 have M:∀ j u,(l.drop (i*8))[j]?=some u->c[i*8+j]?=some u:=by
  exact PB
 have o:∀ ty C sc,(Builtin.copy_ #[61,61] ty #[.slice (some (Y g ((i+1)*8))) (n-i) C,.slice (some (Y g (i*8))) (n+1-i) sc]).run prog w.drew=_:=fun ty C sc =>
  ZC 61 37 ty 8 AL bI g ((i+1)*8) (n-i) C ⟨g,i*8,none⟩ (n+1-i) sc c (l.drop (i*8)) 37 Q
   aI (fun j u G=>by rw[BO,show w.drew.cell? (Y g (i*8+j))=c[i*8+j]? from Q.drew.cell _];exact M j u G)
   (by rw[r,m];have:=BG 8 d;have e:(i+1)*8+(n-i)*8=(n+1)*8:=bh;omega)
   (fun u G=>h1 u (Bx G))
 obtain⟨f,t⟩:∃ f,f=c.take ((i+1)*8)++l.drop (i*8)++c.drop ((i+1)*8+(l.drop (i*8)).length):=⟨_,rfl⟩;rw[<- t] at o;have v:Blk (w.drew.setRow g f.toArray) g f 37:=Q.drew.setRow f;have D:Blk (w.drew.setRow g f.toArray) A k 37:=hv.drew.of_heap (xy _ g A _ R);have q:f.length=a*8:=by
  have:=BG 8 d;have e:(i+1)*8+(n-i)*8=(n+1)*8:=by rw[<- yo];congr 1;omega
  rw[t];simp only[CN,CR,Bc,B,m];omega
 have J:Fr (fun b=>some g=some b) w (w.drew.setRow g f.toArray):=Fr.setRow (S:=fun b=>some g=some b) ((U _ w).drew) (fun _=>rfl) _;obtain⟨X,K⟩:∃ X,X=w.drew.setRow g f.toArray:=⟨_,rfl⟩;rw[<- K] at o v D J;clear K;have x:∀ ty C,(Builtin.copy_ #[61,61] ty #[.slice (some (Y g (i*8))) (n+1-i) C,.slice (some (Y A 0)) 1 1]).run prog X=_:=fun ty C =>
  ZC 61 37 ty 8 AL bI g (i*8) (n+1-i) C ⟨A,0,none⟩ 1 1 f k 37 v
   au (fun j u G=>by rw[BO,BQ,D.cell];exact G)
   (by rw[s,q];have:=BG 8 d;have e:i*8+8=(i+1)*8:=(by rw[yo,vJ]);have:=BG 8 (show i+1<=n+1 from V);omega)
   N
 have y:VN w (some g) n i l k (.returned (.slice (some (Y g 0)) (n+1) a)) (X.setRow g (f.take (i*8)++k++f.drop (i*8+k.length)).toArray):=by
  have e0:=BG 8 d;have e1:i*8+8=(i+1)*8:=by rw[yo,vJ]
  have e2:(i+1)*8+(n-i)*8=(n+1)*8:=by rw[<- yo];congr 1;omega
  have e3:=BG 8 (show i<=n from V);refine⟨g,a,rfl,Yw (v.setRow _) d T ?_ ?_,Fr.setRow (S:=fun b=>some g=some b) J (fun _=>rfl) _,.inl rfl⟩
  .rw[CN,CN,CR,Bc,s,q]
   omega
  .unfold YH
   have a1:f.take (i*8)=l.take (i*8):=by
    exact Iz
   have a2:f.drop (i*8+k.length)=l.drop (i*8)++c.drop ((n+1)*8):=by
    have e4:(c.take ((i+1)*8)).length=i*8+k.length:=by rw[CR,m];omega
    rw[t,Be,<- e4,yB,r,e2]
   rw[a1,a2,<- Be,AG (by rw[CN,CN,r,s,CR,B];omega)]
 obtain⟨c2,L⟩:∃ c2,c2=f.take (i*8)++k++f.drop (i*8+k.length):=⟨_,rfl⟩;rw[<- L] at x y;clear v D J q M Q hv r B h1 N t L ht s m;unfold maxLen at T;have a3:¬(i:Int)=(n:Int):=V
 have a4:¬(a:Int)<(n:Int)+1:=V
 have a5:¬a=i:=V
 have a6:¬a=i+1:=V
 have a7:IntKind.i64.wrap ((i:Int)+1)=(i:Int)+1:=by rw[Bu];omega
 have a8:(0:Int)<=(i:Int)+1:=V
 have a9:((i:Int)+1).toNat=i+1:=V
 have b0:(i:Int)<=(n:Int)+1:=V
 have b1:(i:Int)<=(n:Int):=V
 go_enter func181,ntmps181
 go_wp2_with (simp only[a0])
 go_region_law (refine YT rfl _ _ 61 61 rfl _ _ aj aj (o _ _ _) ?_)
 go_wp2_with (at_builtin;go_must (refine YJ rfl _ _ 61 61 rfl _ _ bH bH (x _ _) ?_))
 go_ret;exact y
theorem PT(g n i:Nat)(b r:List Value)(vb:Nat)(w:World)(hg:Blk w g b 37)(l:b.length=n*8)(h1:∀ u∈b,u.oneCell'=true)(hi:i<n)
 (v:r.length=8)(a6:∀ u∈r,u.oneCell'=true)(hv:Blk w vb r 37)(a5:(n+1)*72<=140737488355328) :
 Calls prog 181 #[.slice (some (Y g 0)) n n,I i,.slice (some (Y vb 0)) 1 1] w fun e w'=>VN w (some g) n i b r e w':=by
 obtain⟨i0,z,a9,b1,X,J,b3⟩:=ZK IY;have q:i+(n+1-i)=n+1:=V
 have a:∀ ty,(Builtin.append_ #[61,3] ty #[.slice (some (Y g 0)) i n,I ((n+1-i:Nat):Int)]).run prog w=_:=fun ty =>
  wt (P:=prog) w 61 3 ty 37 i0 z .i64 .i64 AL we a9 b1 (some (Y g 0)) i n (b.take (i*8))
   (by rw[X];exact xo (P:=prog) w.drew 8 i ⟨g,0,none⟩ i n (b.take (i*8)) (by rw[CR,l];omega) (fun j u s=>by
     have b4:=(BL.1 s).1;rw[BO,BQ,hg.drew.cell];rw[CR] at b4;rw[AO V] at s;exact s))
   (n+1-i) V (by rw[X];omega) V V (by rw[J];omega) (wI V (by rw[J,q];exact a5))
 rw[q] at a;have b2:=uE w (n+1) n 37;have a1:=wB w (n+1) n 37 ac;generalize grownCap w (n+1) n 37=c at a b2 a1;obtain⟨d,K⟩:∃ d:List Value,d=b.take (i*8)++(Builtin.zeroCells z.cells (n+1-i)).toList++(Builtin.zeroCells z.cells (c-(n+1))).toList:=⟨_,rfl⟩;have A:(b.take (i*8)).toArray++Builtin.zeroCells z.cells (n+1-i)++Builtin.zeroCells z.cells (c-(n+1))=d.toArray:=by rw[K];apply xQ;simp
 rw[A] at a;have t:d.length=c*8:=by
  exact Rn
 have L:d.take (i*8)=b.take (i*8):=by
  have e:(b.take (i*8)).length=i*8:=by rw[CR,l];omega
  rw[K,Be];exact AG e
 have a8:=hg.lt;have b0:=hv.lt;have o:Blk (w.drew.alloc (.cells d.toArray 37)) w.heap.size d 37:=Blk.new w.drew d _;have a0:Blk (w.drew.alloc (.cells d.toArray 37)) vb r 37:=hv.drew.alloc _;have S:Blk (w.drew.alloc (.cells d.toArray 37)) g b 37:=hg.drew.alloc _;have R:Fr Nil w (w.drew.alloc (.cells d.toArray 37)):=((U _ w).drew).alloc _;obtain⟨N,hN⟩:∃ N,N=w.heap.size:=⟨_,rfl⟩;rw[<- hN] at a o a8 b0;obtain⟨D,a3⟩:∃ D,D=w.drew.alloc (.cells d.toArray 37):=⟨_,rfl⟩;rw[<- a3] at a o a0 S R;clear a3;obtain⟨f,M⟩:∃ f,f=d.take (i*8)++r++d.drop (i*8+r.length):=⟨_,rfl⟩;have m:∀ ty G,(Builtin.copy_ #[61,61] ty #[.slice (some (Y N (i*8))) (n+1-i) G,.slice (some (Y vb 0)) 1 1]).run prog D=_:=fun ty G =>
  ZC 61 37 ty 8 AL bI N (i*8) (n+1-i) G ⟨vb,0,none⟩ 1 1 d r 37 o
   av (fun j u s=>by rw[BO,BQ,a0.cell];exact s)
   (by rw[v,t];omega)
   a6
 rw[<- M] at m;have k:f.length=c*8:=by
  exact Ro
 have Q:f.take ((i+1)*8)=b.take (i*8)++r:=by
  have e:(b.take (i*8)++r).length=(i+1)*8:=by rw[CN,CR,l,v];omega
  rw[M,L];exact AG e
 have y:Blk (D.setRow N f.toArray) N f 37:=o.setRow f;have T:Blk (D.setRow N f.toArray) g b 37:=S.of_heap (xy _ N g _ V);have a2:Fr Nil w (D.setRow N f.toArray):=R.setRow (fun h=>V) _;obtain⟨W2,a4⟩:∃ W2,W2=D.setRow N f.toArray:=⟨_,rfl⟩;rw[<- a4] at m y T a2;clear a4;have x:(b.drop (i*8)).length=(n-i)*8:=by rw[Bc,l,vn]
 obtain⟨c3,C⟩:∃ c3,c3=f.take ((i+1)*8)++b.drop (i*8)++f.drop ((i+1)*8+(b.drop (i*8)).length):=⟨_,rfl⟩;have B:∀ ty G sc,(Builtin.copy_ #[61,61] ty #[.slice (some (Y N ((i+1)*8))) (n-i) G,.slice (some (Y g (i*8))) (n-i) sc]).run prog W2.drew=_:=fun ty G sc =>
  ZC 61 37 ty 8 AL bI N ((i+1)*8) (n-i) G ⟨g,i*8,none⟩ (n-i) sc f (b.drop (i*8)) 37 y.drew
   aJ (fun j u s=>by rw[BO,T.drew.cell];rw[yJ] at s;exact s)
   (by rw[x,k];omega)
   (fun u s=>h1 u (Bx s))
 rw[<- C] at B;have a7:VN w (some g) n i b r (.returned (.slice (some (Y N 0)) (n+1) c)) (W2.drew.setRow N c3.toArray):=by
  refine⟨N,c,rfl,Yw (y.drew.setRow _) b2 a1 ?_ ?_,(a2.drew.setRow (fun h=>V) _).mono (fun _ _ h=>absurd h id),.inr V⟩
  .rw[C]
   simp only[CN,CR,Bc,l,k];omega
  .have e:(f.take ((i+1)*8)++b.drop (i*8)).length=(n+1)*8:=by rw[CN,CR,k,x];omega
   rw[C,AG e,Q]
   rfl
 clear L Q A C M K o a0 S R y T a2 x k t h1 a6 v l hv hg hN q b3 J X b1 a9;unfold maxLen at a1;have b5:¬(i:Int)=(n:Int):=V
 have b6:¬n=i:=V
 have b7:¬c=i+1:=V
 have b8:¬c=i:=V
 have b9:(n:Int)+1-i=((n+1-i:Nat):Int):=V
 have c0:IntKind.i64.wrap ((i:Int)+1)=(i:Int)+1:=by rw[Bu];omega
 have c4:(0:Int)<=(i:Int)+1:=V
 have c5:((i:Int)+1).toNat=i+1:=V
 have c6:(i:Int)<=(n:Int)+1:=V
 have c7:(i:Int)<=(n:Int):=V
 go_enter func181,ntmps181
 go_wp2_with (at_builtin;go_must (first|(refine wV _ rfl _ _ _ _ rfl _ _ bH bH _ _ (a _) ?_)|(refine YJ rfl _ _ 61 61 rfl _ _ bH bH (m _ _) ?_)))
 go_region_law (refine YT rfl _ _ 61 61 rfl _ _ aj aj (B _ _ _) ?_)
 go_wp2
 go_ret;exact a7
theorem QU(v:Value)(n i:Nat)(k d:List Value)(j:Nat)(w:World)(b:w.ownsRow 0 37 8 v n k)(q:∀ u∈k,u.oneCell'=true)(x:i<=n)
 (h:d.length=8)(f:∀ u∈d,u.oneCell'=true)(p:Blk w j d 37)(o:v.ownBlock≠some j)(a:(n+1)*72<=140737488355328) :
 Calls prog 181 #[v,I i,.slice (some (Y j 0)) 1 1] w fun e t=>VN w v.ownBlock n i k d e t:=by
 rcases Az i n with l|s
 .rcases YG b with⟨_,h0,_⟩|⟨g,cap,c,rfl,hg,hn,hm,hc,ht⟩
  .omega
  .have hne':j≠g:=fun e=>o bF
   rcases Az n cap with r|r
   .exact QT g n cap i c k d j w hg hc ht q l r hm h f p hne'
   .have e:cap=n:=V
    subst e;have m:c=k:=by rw[<- ht];exact(Bn V).symm
    subst m;exact PT g cap i c d j w hg hc q l h f p a
 .have e:i=n:=V
  subst e;exact NO v i k d j w b h f p a
theorem Ct:((prog.info? 37).map fun i=>(i.zero.map (·.cells.size),i.size,i.bytes))=some (some 8,8,72):=bI
theorem UP(v:Value)(n:Nat)(o:List Value)(w:World)(d:w.ownsRow 0 37 8 v n o)(J:∀ u∈o,u.oneCell'=true)(D:n*72<=140737488355328) :
 Calls prog 75 #[v] w fun e f =>
  ∃ b,e=.returned b/\f.ownsRow 0 37 8 b n o/\Fr Nil w f/\(∀ k,b.ownBlock=some k->w.heap.size<=k):=by
 have N:∀ (w:World) (a:Option Addr) (n c:Nat),(binOp .eql 61 (.slice a n c) (.slice none 0 0)).run prog w=.ok (.bool a.isNone) w:=fun w a n c=>by exact Lib.run_eql_slice_nil (h:=AL) ..
 rcases YG d with⟨rfl,rfl,rfl⟩|⟨g,r,c,rfl,G,hn,y,K,R⟩
 .go_enter func75,ntmps75
  exact L8
 .have hl:=d.1
  have t:Blk (w.alloc (.cells #[] 37)) w.heap.size [] 37:=Blk.new w [] _;have s:(w.alloc (.cells #[] 37)).ownsRow 0 37 8 (.slice (some (Y w.heap.size 0)) 0 0) 0 []:=Yw t (CP _) (Bg _) bG bG;have m:∀ j u,o[j]?=some u->(w.alloc (.cells #[] 37)).cell? (((Y g 0):Addr).add j)=some u:=by
   exact IR
  have x:∀ ty,∃ b f,(Builtin.append_ #[61,61] ty #[.slice (some (Y w.heap.size 0)) 0 0,.slice (some (Y g 0)) n r]).run prog (w.alloc (.cells #[] 37))=.ok b f/\App (w.alloc (.cells #[] 37)) (.slice (some (Y w.heap.size 0)) 0 0) 37 8 (0+n) ([]++o) b f:=fun ty =>
   zq (P:=prog) 61 ty 37 8 72 AL Ct V _ 0 [] s ⟨g,0,none⟩ n r o hl m J (by unfold maxLen at *;omega) V
  have l:∀ b f,App (w.alloc (.cells #[] 37)) (.slice (some (Y w.heap.size 0)) 0 0) 37 8 (0+n) ([]++o) b f ->
   ∃ q,Ending.returned b=.returned q/\f.ownsRow 0 37 8 q n o/\Fr Nil w f/\(∀ k,q.ownBlock=some k->w.heap.size<=k):=by
   rintro b f ⟨L,A,C⟩;refine⟨b,rfl,by simpa using L,((U Nil w).alloc _).tk ((Fr.sB A).mono (fun i _ h=>h)) (fun i X h=>?_),fun k B=>?_⟩
   .simp[Value.ownBlock] at h;omega
   .exact MZ
  have Q:=Z l;clear l m s t d G;unfold maxLen at y;go_enter func75,ntmps75;exact IU
def Wo(a b:Int):Int:=if a<b then -1 else if b<a then 1 else 0
theorem Sy(a b:Int)(w:World) :
 Calls prog 180 #[I a,I b] w fun e d=>e=.returned (I (Wo a b))/\d=w:=by
 unfold Wo;by_cases c:a<b
 .rw[Bl c]
  go_enter func180,ntmps180
  go_wp2
  go_ret;exact⟨rfl,rfl⟩
 .by_cases h2:b<a
  .rw[CW c,Bl h2]
   go_enter func180,ntmps180
   go_wp2
   go_ret;exact⟨rfl,rfl⟩
  .rw[CW c,CW h2]
   go_enter func180,ntmps180
   go_wp2
   go_ret;exact⟨rfl,rfl⟩
def orI(a b:Int):Int:=if a=0 then b else a
theorem H6(a b:Int)(g:Nat)(w:World)(c:Blk w g [I a,I b] 3) :
 Calls prog 179 #[.slice (some (Y g 0)) 2 2] w fun e l=>e=.returned (I (orI a b))/\Fr Nil w l:=by
 have o:w.cell? (Y g 0)=some (I a):=by rw[c.cell];rfl
 have p:w.cell? (Y g 1)=some (I b):=by rw[c.cell];rfl
 clear c;go_enter func179,ntmps179;go_wp2_with fail
 go_loopw [8] (fun k l=>∃ i:Nat,k=I i/\(i=0\/i=1/\a=0\/i=2/\a=0/\b=0)/\l=w) (fun k _=>2-(intOf k).toNat)
 case atStart=>exact⟨0,rfl,.inl rfl,rfl⟩
 case round =>
  obtain⟨i,rfl,m,rfl⟩:=hrel;rcases m with rfl|⟨rfl,rfl⟩|⟨rfl,rfl,rfl⟩
  .cases ha:(a != 0) with
   | true =>
    have d:orI a b=a:=(by have j:a≠0:=(by simpa using ha);simp[orI,j]);have f:=Z d;clear d
    go_wp2
    go_ret;rw[f.o];exact⟨rfl,U _ _⟩
   | false =>
    have h:a=0:=by simpa using ha
    subst h
    go_wp2
    exact⟨⟨1,by go_num,.inr (.inl ⟨rfl,bG⟩),by trivial⟩,by simp[intOf]⟩
  .cases c:(b != 0) with
   | true =>
    go_wp2
    go_ret;exact⟨rfl,U _ _⟩
   | false =>
    have h:b=0:=by simpa using c
    subst h
    go_wp2
    exact⟨⟨2,by go_num,.inr (.inr ⟨rfl,bG,bG⟩),by trivial⟩,by simp[intOf]⟩
  .go_wp2
   go_ret;exact⟨rfl,U _ _⟩
def Ver.rj(v:Ver):Int × Int:=(v.node,v.seq)
def Ru(a b:Int × Int):Int:=orI (Wo a.1 b.1) (Wo a.2 b.2)
def zD(a b:Int × Int):Bool:=decide (a.1<b.1\/a.1=b.1/\a.2<b.2)
theorem Yk:Strict zD where
 nz a:=by simp[zD]
 trans a b c h1 h2:=by simp only[zD,Bi] at *;omega
 nJ a b h1 h2:=by
  obtain⟨d,e⟩:=a;obtain⟨f,g⟩:=b;simp only[zD,Bi,BP] at *;have:¬(d=f/\e=g):=fun h=>h2 (by rw[h.1,h.2]);omega
theorem PU{a b:Int × Int}:Ru a b<0↔zD a b=true:=by
 simp only[Ru,orI,Wo,zD,Bi];split <;> split <;> (try split) <;> (try split) <;> omega
theorem Tv(u:Ver)(n s:Int)(w:World) :
 Calls prog 178 #[.agg u.cells.toArray,.agg #[I n,I s]] w fun e g=>e=.returned (I (Ru u.rj (n,s)))/\Fr Nil w g:=by
 obtain⟨node,c,l,m,o,p,a,b⟩:=u;simp only[Ver.cells,Ver.rj,Ru];go_enter func178,ntmps178;go_wp2_with fail;have f:Blk ((w.alloc (.cells #[I node,I c,I l,I m,I o,I p,.string a,.bool b] 37)).alloc (.cells #[I n,I s] 34)) w.heap.size [I node,I c,I l,I m,I o,I p,.string a,.bool b] 37 :=
  (Blk.new w [I node,I c,I l,I m,I o,I p,.string a,.bool b] _).alloc _
 have d:Blk ((w.alloc (.cells #[I node,I c,I l,I m,I o,I p,.string a,.bool b] 37)).alloc (.cells #[I n,I s] 34)) (w.heap.size+1) [I n,I s] 34:=by
  have:=Blk.new (w.alloc (.cells #[I node,I c,I l,I m,I o,I p,.string a,.bool b] 37)) [I n,I s] 34
  simpa using this
 have k:Fr Nil w ((w.alloc (.cells #[I node,I c,I l,I m,I o,I p,.string a,.bool b] 37)).alloc (.cells #[I n,I s] 34)):=((U _ _).alloc _).alloc _;generalize (w.alloc (.cells #[I node,I c,I l,I m,I o,I p,.string a,.bool b] 37)).alloc (.cells #[I n,I s] 34)=q at f d k |-;generalize w.heap.size=N at f d |-;have G:q.cell? (Y N 0)=some (I node):=by rw[f.cell];rfl
 have J:q.cell? (Y N 1)=some (I c):=by rw[f.cell];rfl
 have K:q.cell? (Y (N+1) 0)=some (I n):=by rw[d.cell];rfl
 have L:q.cell? (Y (N+1) 1)=some (I s):=by rw[d.cell];rfl
 have v:aa (∀ g,Fr Nil q g->g.cell? (Y N 0)=some (I node)/\g.cell? (Y N 1)=some (I c)/\g.cell? (Y (N+1) 0)=some (I n)/\g.cell? (Y (N+1) 1)=some (I s)):=by
  intro g y;have A:=(f.fr y id).cell;have x:=(d.fr y id).cell;exact⟨by rw[A];rfl,by rw[A];rfl,by rw[x];rfl,by rw[x];rfl⟩
 clear f d
 go_region_held3 (fun g=>g.cell? (Y N 0)=some (I node)/\g.cell? (Y N 1)=some (I c)/\g.cell? (Y (N+1) 0)=some (I n)/\g.cell? (Y (N+1) 1)=some (I s)) (first|assumption|exact v.o _ zd)
  (first
  | (go_at_call 179;refine(H6 _ _ _ _ aL).mono ?_;rintro e B ⟨rfl,r⟩;have h:Fr Nil q B:=Fr.trans zd r;have D:=v.o B h)
  | (go_at_call 180;refine(Sy _ _ _).mono ?_;rintro e M ⟨rfl,t⟩;subst t))
 have C:=Z (k.trans h);clear k h r
 go_wp2
 go_ret;exact⟨rfl,C.o⟩
def YM(l:List Ver):Prop:=Asc zD (l.map Ver.rj)
theorem YM.get(h:YM l){i j:Nat}(c:i<j)(d:j<l.length):zD (l[i]'(vB c d)).rj l[j].rj=true:=by
 have:=Asc.get h (i:=i) (j:=j) c bB
 rwa [BB,BB] at this
theorem H7(h:p:=by
 intro c f;have D:=HC.o c f;have hd:=HX.o c f;exact⟨D 0 V,D 1 V,D 2 V,D 3 V,D 4 V,D 5 V,D 6 V,D 7 V,hd.1,hd.2⟩):p:=h
theorem D3(h:p:=by
 exact⟨⟨i,(i+j) / 2,V,V,rfl,by go_num,H1.o,H3.o,G.trans q⟩,by simp[intOf];omega⟩):p:=h
theorem D4(h:p:=by
 exact⟨⟨(i+j) / 2+1,j,V,hj,by go_num,rfl,H3.o,H2.o,G.trans q⟩,by simp[intOf];omega⟩):p:=h
theorem Lc(h:p:=by
 clear y;go_wp2_with fail
 go_region_held3 (fun c=>c.cell? (Y g ((i+j) / 2*8))=some (I node)/\c.cell? (Y g ((i+j) / 2*8+1))=some (I o)/\c.cell? (Y g ((i+j) / 2*8+2))=some (I Q)/\c.cell? (Y g ((i+j) / 2*8+3))=some (I R)/\c.cell? (Y g ((i+j) / 2*8+4))=some (I T)/\c.cell? (Y g ((i+j) / 2*8+5))=some (I X)/\c.cell? (Y g ((i+j) / 2*8+6))=some (.string d)/\c.cell? (Y g ((i+j) / 2*8+7))=some (.bool m)/\c.cell? (Y N 0)=some (I n)/\c.cell? (Y N 1)=some (I s)) (first|assumption|exact K.o _ zd)
  (first
  | (go_at_call 178;refine(HW.o _).mono ?_;rintro e w1 ⟨rfl,L⟩;have q:Fr Nil wr w1:=Fr.trans zd L;have a5:=K.o w1 q))
 go_wp2
 first
  | (clear a6;exact D4)
  | exact D3):p:=h
theorem QV(lv:Value)(l:List Ver)(n s:Int)(hs:YM l)(b6:l.length<1000000)(w:World)(y:VRow w lv l) :
 Calls prog 177 #[lv,.agg #[I n,I s],.func (.func 178) #[] #[]] w fun e c =>
  ∃ b:Bool,e=.returned (.tuple #[I (low zD (l.map Ver.rj) (n,s)),.bool b])/\Fr Nil w c:=by
 obtain⟨a,a0,rfl⟩:=zf y;have HL:=Z y;clear y;have B:Blk (w.alloc (.cells #[I n,I s] 34)) w.heap.size [I n,I s] 34:=Blk.new w [I n,I s] _;have A:Fr Nil w (w.alloc (.cells #[I n,I s] 34)):=(U _ _).alloc _;go_enter func177,ntmps177
 go_wp2
 generalize w.alloc (.cells #[I n,I s] 34)=w0 at B A |-;generalize w.heap.size=N at B |-
 go_loopw [9,10] (fun ti tj c=>∃ i j:Nat,i<=j/\j<=l.length/\ti=I i/\tj=I j/\(∀ k (u:k<l.length),k<i->zD l[k].rj (n,s)=true)/\(∀ k (u:k<l.length),j<=k->zD l[k].rj (n,s)=false)/\Fr Nil w0 c) (fun ti tj _=>(intOf tj).toNat-(intOf ti).toNat)
 case atStart=>exact⟨0,l.length,Bg _,CP _,rfl,rfl,fun k _ u=>absurd u (BF _),fun k u b4=>absurd u V,U _ _⟩
 case round =>
  obtain⟨i,j,a1,hj,rfl,rfl,h1,h2,G⟩:=hrel;by_cases b5:i<j
  .obtain⟨g,rfl⟩:∃ g,a=some (Y g 0):=by
    obtain⟨g,a0,h,_⟩:=zl HL.o V;simp at h;exact⟨g,h.1⟩
   have hm:(i+j) / 2<l.length:=V
   have HC:aa (∀ c,Fr Nil wr c->∀ k,k<8->c.cell? (Y g ((i+j) / 2*8+k))=l[(i+j) / 2].cells[k]?):=fun c f k u=>VRow.cells (ze (S:=Nil) HL.o ((A.trans G).trans f) (fun _ _=>id)) _ hm k u;have HX:aa (∀ c,Fr Nil wr c->c.cell? (Y N 0)=some (I n)/\c.cell? (Y N 1)=some (I s)):=by
    intro c f;have hu:=((B.fr G id).fr f id).cell;exact⟨by rw[hu];rfl,by rw[hu];rfl⟩
   have H1:=Z h1;have H2:=Z h2;clear h1 h2;have a7:(i:Int)<=1000000:=V
   have a8:(j:Int)<=1000000:=V
   have a9:(i:Int)+j<=9223372036854775807:=V
   have hq:(((i:Int)+j) / 2).toNat=(i+j) / 2:=V
   have r:aa (zD l[(i+j) / 2].rj (n,s)=true->∀ k (u:k<l.length),k<(i+j) / 2+1->zD l[k].rj (n,s)=true):=by
    intro y k u M;by_cases e:k=(i+j) / 2
    .subst e;exact y
    .exact Yk.trans _ _ _ (hs.get (i:=k) (j:=(i+j) / 2) V hm) y
   have t:aa (zD l[(i+j) / 2].rj (n,s)=false->∀ k (u:k<l.length),(i+j) / 2<=k->zD l[k].rj (n,s)=false):=by
    intro y k u M;by_cases e:k=(i+j) / 2
    .subst e;exact y
    .cases hk2:zD l[k].rj (n,s) with
     | false=>rfl
     | true =>
      have:=Yk.trans _ _ _ (hs.get (i:=(i+j) / 2) (j:=k) V u) hk2;rw[y] at this;cases this
   generalize l[(i+j) / 2]=x at HC r t;obtain⟨node,o,Q,R,T,X,d,m⟩:=x;have HW:=Z (Tv ⟨node,o,Q,R,T,X,d,m⟩ n s);simp only[Ver.cells,Ver.rj] at HC r t HW;have K:aa (∀ c,Fr Nil wr c->c.cell? (Y g ((i+j) / 2*8))=some (I node)/\c.cell? (Y g ((i+j) / 2*8+1))=some (I o)/\c.cell? (Y g ((i+j) / 2*8+2))=some (I Q)/\c.cell? (Y g ((i+j) / 2*8+3))=some (I R)/\c.cell? (Y g ((i+j) / 2*8+4))=some (I T)/\c.cell? (Y g ((i+j) / 2*8+5))=some (I X)/\c.cell? (Y g ((i+j) / 2*8+6))=some (.string d)/\c.cell? (Y g ((i+j) / 2*8+7))=some (.bool m)/\c.cell? (Y N 0)=some (I n)/\c.cell? (Y N 1)=some (I s)):=by
    exact H7
   have hS:=K.o wr (U _ _);clear a1;have b0:(0:Int)<=((i:Int)+j) / 2:=V
   have b1:((i:Int)+j) / 2<l.length:=V
   cases y:zD (node,o) (n,s) with
   | true =>
    have a2:Ru (node,o) (n,s)<0:=PU.2 y;have H3:=Z (r.o y);have a6:=0;exact Lc
   | false =>
    have a2:¬Ru (node,o) (n,s)<0:=by rw[PU];simp[y]
    have H3:=Z (t.o y);exact Lc
  .have he:i=j:=V
   subst he;have J:low zD (l.map Ver.rj) (n,s)=i:=VX zD _ _ i (by simpa using hj) (fun k u M=>by rw[BB];exact h1 k bC M) (fun u=>by rw[BB];exact h2 i bC (CP _));have C:=Z J;clear J h1 h2 a1;by_cases a4:i<l.length
   .obtain⟨g,rfl⟩:∃ g,a=some (Y g 0):=by
     obtain⟨g,a0,h,_⟩:=zl HL.o V;simp at h;exact⟨g,h.1⟩
    have HC:aa (∀ c,Fr Nil wr c->∀ k,k<8->c.cell? (Y g (i*8+k))=l[i].cells[k]?):=fun c f k u=>VRow.cells (ze (S:=Nil) HL.o ((A.trans G).trans f) (fun _ _=>id)) _ a4 k u;have HX:aa (∀ c,Fr Nil wr c->c.cell? (Y N 0)=some (I n)/\c.cell? (Y N 1)=some (I s)):=by
     intro c f;have hu:=((B.fr G id).fr f id).cell;exact⟨by rw[hu];rfl,by rw[hu];rfl⟩
    generalize l[i]=x at HC;obtain⟨node,o,Q,R,T,X,d,m⟩:=x;have HW:=Z (Tv ⟨node,o,Q,R,T,X,d,m⟩ n s);simp only[Ver.cells,Ver.rj] at HC HW;have K:aa (∀ c,Fr Nil wr c->c.cell? (Y g (i*8))=some (I node)/\c.cell? (Y g (i*8+1))=some (I o)/\c.cell? (Y g (i*8+2))=some (I Q)/\c.cell? (Y g (i*8+3))=some (I R)/\c.cell? (Y g (i*8+4))=some (I T)/\c.cell? (Y g (i*8+5))=some (I X)/\c.cell? (Y g (i*8+6))=some (.string d)/\c.cell? (Y g (i*8+7))=some (.bool m)/\c.cell? (Y N 0)=some (I n)/\c.cell? (Y N 1)=some (I s)):=by
     exact H7
    have hS:=K.o wr (U _ _);have a3:decide ((i:Int)<(l.length:Int))=true:=by simp;omega
    have b2:(i:Int)<(l.length:Int):=V
    have b3:(0:Int)<=(i:Int):=V
    go_wp2_with fail
    go_region_held3 (fun c=>c.cell? (Y g (i*8))=some (I node)/\c.cell? (Y g (i*8+1))=some (I o)/\c.cell? (Y g (i*8+2))=some (I Q)/\c.cell? (Y g (i*8+3))=some (I R)/\c.cell? (Y g (i*8+4))=some (I T)/\c.cell? (Y g (i*8+5))=some (I X)/\c.cell? (Y g (i*8+6))=some (.string d)/\c.cell? (Y g (i*8+7))=some (.bool m)/\c.cell? (Y N 0)=some (I n)/\c.cell? (Y N 1)=some (I s)) (first|assumption|exact K.o _ zd)
     (first
     | (go_at_call 178;refine(HW.o _).mono ?_;rintro e w1 ⟨rfl,L⟩;have q:Fr Nil wr w1:=Fr.trans zd L;have a5:=K.o w1 q))
    go_wp2
    go_ret2;rw[C.o];exact⟨_,rfl,(A.trans G).trans q⟩
   .have a3:decide ((i:Int)<(l.length:Int))=false:=by simp;omega
    go_wp2_with fail
    go_quiet (fail)
    go_wp2
    go_ret2;rw[C.o];exact⟨_,rfl,Fr.drewN (A.trans G) _⟩
def Xt(l:List Ver)(v:Ver):List Ver:=l.take (low zD (l.map Ver.rj) v.rj)++[v]++l.drop (low zD (l.map Ver.rj) v.rj)
theorem KG(l:List Ver)(i:Nat):(zS l).take (i*8)=zS (l.take i):=by
 rcases wj i l.length with h|h
 .have e:=Xi (l.take i) (l.drop i)
  rw[Bo] at e;rw[e];exact AG (by rw[XZ,CR,Ab h])
 .rw[Bn h,Bn (by rw[XZ];omega)]
theorem KH(l:List Ver)(i:Nat):(zS l).drop (i*8)=zS (l.drop i):=by
 rcases wj i l.length with h|h
 .have e:=Xi (l.take i) (l.drop i)
  rw[Bo] at e;rw[e];exact uC (by rw[XZ,CR,Ab h])
 .rw[BT h,BT (by rw[XZ];omega)]
  rfl
theorem KI(l:List Ver)(v:Ver):YH 8 (low zD (l.map Ver.rj) v.rj) (zS l) v.cells=zS (Xt l v):=by
 unfold YH Xt;rw[KG,KH,Xi,Xi];simp[zS]
theorem UQ(l:List Ver)(v:Ver):(Xt l v).length=l.length+1:=by
 have:=VW zD (l.map Ver.rj) v.rj;simp only[Bm] at this;simp only[Xt,CN,CR,Bc,CQ];omega
theorem VN.row{a r w':World}{q:Value}{v:Ver}{e:Ending}(h:VN r q.ownBlock l.length (low zD (l.map Ver.rj) v.rj) (zS l) v.cells e w')(d:Fr Nil a r)(j:∀ k,q.ownBlock=some k->a.heap.size<=k) :
 ∃ c,e=.returned c/\VRow w' c (Xt l v)/\Fr Nil a w'/\(∀ k,c.ownBlock=some k->a.heap.size<=k):=by
 obtain⟨g,s,rfl,o,b,t⟩:=h;rw[KI] at o;refine⟨_,rfl,?_,d.tk b (fun i u h=>absurd (j i h) V),fun k f=>?_⟩
 .unfold VRow
  rw[UQ];exact o
 .simp[Value.ownBlock] at f
  subst f;rcases t with h|h
  .exact j _ h
  .have:=d.size;omega
theorem KJ(M:Value)(l:List Ver)(v:Ver)(hs:YM l)(a3:l.length<1000000)(w:World)(hl:VRow w M l) :
 Calls prog 142 #[M,.agg v.cells.toArray] w fun e g=>∃ v',e=.returned v'/\VRow g v' (Xt l v)/\Fr Nil w g/\(∀ k,v'.ownBlock=some k->w.heap.size<=k):=by
 obtain⟨node,d,i,j,m,o,a,c⟩:=v;have y:=VW zD (l.map Ver.rj) (node,d);simp only[Bm] at y;have T:=Z y;clear y;have hb:Blk (w.alloc (.cells #[I node,I d,I i,I j,I m,I o,.string a,.bool c] 37)) w.heap.size [I node,I d,I i,I j,I m,I o,.string a,.bool c] 37:=Blk.new w [I node,I d,I i,I j,I m,I o,.string a,.bool c] _;have u:Fr Nil w (w.alloc (.cells #[I node,I d,I i,I j,I m,I o,.string a,.bool c] 37)):=(U _ _).alloc _;simp only[Ver.cells];have HS:=Z (QV M l node d hs a3 _ (VRow.fr hl u (fun _ _=>id)));have HL:=Z hl;clear hl hs;go_enter func142,ntmps142;go_wp2_with fail;refine HS.o.mono ?_;rintro e q ⟨b,rfl,x⟩;have t:=hb.fr x id;have h:=u.trans x;clear hb u HS x;go_wp2_with fail;generalize w.heap.size=N at t |-;have Q:aa (∀ g,Fr Nil q g->g.cell? (Y N 0)=some (I node)/\g.cell? (Y N 1)=some (I d)/\g.cell? (Y N 2)=some (I i)/\g.cell? (Y N 3)=some (I j)/\g.cell? (Y N 4)=some (I m)/\g.cell? (Y N 5)=some (I o)/\g.cell? (Y N 6)=some (.string a)/\g.cell? (Y N 7)=some (.bool c)):=by
  intro g f;have s:=(t.fr f id).cell;exact⟨by rw[s];rfl,by rw[s];rfl,by rw[s];rfl,by rw[s];rfl,by rw[s];rfl,by rw[s];rfl,by rw[s];rfl,by rw[s];rfl⟩
 have hK:=Q.o q (U _ _);have R:aa (∀ g,Fr Nil q g->VRow g M l):=fun g f=>VRow.fr HL.o (h.trans f) (fun _ _=>id);clear t
 go_region_held3 (fun g=>g.cell? (Y N 0)=some (I node)/\g.cell? (Y N 1)=some (I d)/\g.cell? (Y N 2)=some (I i)/\g.cell? (Y N 3)=some (I j)/\g.cell? (Y N 4)=some (I m)/\g.cell? (Y N 5)=some (I o)/\g.cell? (Y N 6)=some (.string a)/\g.cell? (Y N 7)=some (.bool c)) (first|assumption|exact Q.o _ zd)
  (first
  | (go_at_call 181;refine(QU v2 l.length (low zD (l.map Ver.rj) (node,d)) (zS l) [I node,I d,I i,I j,I m,I o,.string a,.bool c] _ _ (ze (S:=Nil) B.o zd (fun _ _=>id)) (XS l) T.o rfl (XS [⟨node,d,i,j,m,o,a,c⟩]) (by first|exact L|exact L.drew|exact Blk.new _ [_,_,_,_,_,_,_,_] _|exact(Blk.new _ [_,_,_,_,_,_,_,_] _).drew) (by first|exact a1.o|exact(fun e=>absurd (zF B.o e) bG)) V).mono ?_;rintro e w3 hI;have HI:=Z hI;clear hI;obtain⟨v3,rfl,K,D,G⟩:=VN.row (v:=⟨node,d,i,j,m,o,a,c⟩) HI.o (show Fr Nil q _ from r.trans zd) X.o;have a5:=Q.o w3 D;have a2:=Z K;have a0:=Z G;clear K G)
  | (go_at_call 75;refine(UP M l.length (zS l) _ (R.o _ zd) (XS l) V).mono ?_;rintro e w2 ⟨v2,rfl,J,C,A⟩;have r:Fr Nil q w2:=Fr.trans zd C;have a4:=Q.o w2 r;have B:=Z J;(try (have L:Blk w2 q.heap.size [I node,I d,I i,I j,I m,I o,.string a,.bool c] 37:=Blk.fr (S:=Nil) ((Blk.new q [I node,I d,I i,I j,I m,I o,.string a,.bool c] 37).drew) C id;have a1:aa (v2.ownBlock≠some q.heap.size):=(fun e=>absurd (A _ e) bG)));have X:aa (∀ k,v2.ownBlock=some k->q.heap.size<=k):=(fun k hk=>CO (Fr.size (S:=Nil) zd) (A k hk));clear J A))
 all_goals
  go_wp2
  go_ret;exact⟨_,rfl,a2.o,h.trans D,fun k hk=>CO h.size (a0.o k hk)⟩
abbrev Keys:=List (ByteArray × List Ver)
variable{K:Keys}{key:ByteArray}
def ZR(K:Keys):Prop:=Asc zi (K.map Prod.fst)
theorem ZH{a b:ByteArray}(h:zi a b=true):a≠b:=fun e=>by rw[e,Zp.nz] at h;cases h
theorem Q8:∀ x∈K.take (low zi (K.map Prod.fst) key),zi x.1 key=true:=by
 intro x d;obtain⟨j,c,rfl⟩:=AP d;rw[CR] at c;have a:j<(K.map Prod.fst).length:=by rw[Bm];omega
 have:=Sq (lt:=zi) (l:=K.map Prod.fst) (b:=key) (k:=j) a V;rw[BB] at this;rw[xN];exact this
theorem Q9(h:ZR K):∀ x∈K.drop (if Zb zi (K.map Prod.fst) key=true then low zi (K.map Prod.fst) key+1 else low zi (K.map Prod.fst) key),zi key x.1=true:=by
 intro x m;obtain⟨j,d,rfl⟩:=AP m;rw[Bc] at d;rw[Ac];rcases Az (low zi (K.map Prod.fst) key) (K.map Prod.fst).length with f|f
 .have hge:=Sr f
  have k:low zi (K.map Prod.fst) key<K.length:=by simpa using f
  have c:=Wl (lt:=zi) (b:=key) k rfl;rw[BB] at hge;by_cases a:Zb zi (K.map Prod.fst) key=true
  .rw[a] at c
   have g:=zY.1 c.symm;simp only[a,Ad] at d |-;have:=Asc.fst h (i:=low zi (K.map Prod.fst) key) (j:=low zi (K.map Prod.fst) key+1+j) V V;rw[g] at this;exact this
  .have a:Zb zi (K.map Prod.fst) key=false:=by simpa using a
   rw[a] at c;have g:K[low zi (K.map Prod.fst) key].1≠key:=fun e=>by rw[zY.2 e] at c;cases c
   have l:=Zp.nJ _ _ hge g;simp only[a,Av,Aa] at d |-;rcases yI j with e|e
   .subst e;exact l
   .exact Zp.trans _ _ _ l (Asc.fst h (i:=low zi (K.map Prod.fst) key) (j:=low zi (K.map Prod.fst) key+j) V V)
 .rw[Bm] at f
  exfalso
  have:=d;split at this <;> omega
theorem U9(a:Zb zi (K.map Prod.fst) key=true):∃ l,K=K.take (low zi (K.map Prod.fst) key)++(key,l)::K.drop (low zi (K.map Prod.fst) key+1)/\zn K key=l:=by
 rcases Az (low zi (K.map Prod.fst) key) K.length with c|c
 .have he:=Wl (lt:=zi) (b:=key) c rfl
  rw[a] at he;have d:=zY.1 he.symm;refine⟨K[low zi (K.map Prod.fst) key].2,?_,?_⟩
  .have e2:(key,K[low zi (K.map Prod.fst) key].2)=K[low zi (K.map Prod.fst) key]:=by rw[<- Prod.eta K[low zi (K.map Prod.fst) key],d]
   rw[e2,List.getElem_cons_drop,Bo]
  .unfold zn
   rw[Bl a,BS,CS c]
   rfl
 .rw[V7 aY] at a
  cases a
def zJ(K:Keys)(key:ByteArray):List Ver:=match K.find? (fun e=>e.1==key) with|some e=>e.2|none=>[]
theorem UR(h:∀ x∈K,x.1≠key):K.find? (fun e=>e.1==key)=none:=by
 rw[yY];intro x b;have:=h x b;intro e;exact this (zY.1 e)
theorem TS(key:ByteArray)(h:ZR K):zJ K key=zn K key:=by
 have c:∀ x∈K.take (low zi (K.map Prod.fst) key),x.1≠key:=fun x a=>ZH (Q8 x a);have b:=Q9 (key:=key) h;cases ha:Zb zi (K.map Prod.fst) key with
 | true =>
  obtain⟨l,d,g⟩:=U9 ha;rw[g];unfold zJ;have:K.find? (fun e=>e.1==key)=some (key,l):=by
   rw[d,vL,UR c];simp[zY.2 rfl]
  rw[this]
 | false =>
  have f:zn K key=[]:=by unfold zn;rw[CW (by rw[ha];decide)]
  rw[f];rw[ha] at b;simp only[Av,Aa] at b;unfold zJ;have:K.find? (fun e=>e.1==key)=none:=by
   rw[<- Bo (low zi (K.map Prod.fst) key) K];refine UR fun x a=>?_;rcases CV.1 a with a|a
   .exact c x a
   .exact(ZH (b x a)).symm
  rw[this]
def zB(key:ByteArray)(l:List Ver)(st:Keys × Bool)(e:ByteArray × List Ver):Keys × Bool :=
 (((if st.2=false/\zi e.1 key=false then st.1++[(key,l)] else st.1)++if e.1=key then [] else [e]),st.2||!zi e.1 key)
def Z4(K:Keys)(key:ByteArray)(l:List Ver):Keys :=
 (K.foldl (zB key l) ([],l.isEmpty)).1++if (K.foldl (zB key l) ([],l.isEmpty)).2=true then [] else [(key,l)]
theorem XT(key:ByteArray)(l:List Ver):∀ (K a:Keys),(∀ x∈K,x.1≠key)->K.foldl (zB key l) (a,true)=(a++K,true)
 | [],a,_=>bG
 | e::K,a,h=>by
  have b:e.1≠key:=h e (CY ..);have:zB key l (a,true) e=(a++[e],true):=by simp[zB,b]
  rw[BX,this,XT key l K _ (fun x c=>h x (CT _ c))];simp
theorem WX(key:ByteArray)(l:List Ver)(b:Bool):∀ (K a:Keys),(∀ x∈K,zi x.1 key=true)->K.foldl (zB key l) (a,b)=(a++K,b)
 | [],a,_=>bG
 | e::K,a,h=>by
  have c:=h e (CY ..);have d:e.1≠key:=ZH c;have:zB key l (a,b) e=(a++[e],b):=by simp[zB,c,d]
  rw[BX,this,WX key l b K _ (fun x f=>h x (CT _ f))];simp
theorem H8(key:ByteArray)(l:List Ver)(K a:Keys)(h:∀ x∈K,zi key x.1=true) :
 K.foldl (zB key l) (a,false)=(if K=[] then(a,false) else(a++(key,l)::K,true)):=by
 cases K with
 | nil=>rfl
 | cons e K =>
  have b:=h e (CY ..);have f:e.1≠key:=fun x=>ZH b x.symm;have d:zi e.1 key=false:=Zp.nC b;have:zB key l (a,false) e=(a++[(key,l)]++[e],true):=by simp[zB,d,f]
  rw[BX,this,XT key l K _ (fun x g=>fun c=>ZH (h x (CT _ g)) c.symm)];simp
theorem Yl(key:ByteArray)(l:List Ver)(h:ZR K):Z4 K key l=if l=[] then Xh K key else Ya K key l:=by
 have i:=Q8 (K:=K) (key:=key);have a:=Q9 (key:=key) h;cases ha:Zb zi (K.map Prod.fst) key with
 | true =>
  obtain⟨j,e,_⟩:=U9 ha;rw[ha] at a;simp only[Ad] at a;have f:Xh K key=K.take (low zi (K.map Prod.fst) key)++K.drop (low zi (K.map Prod.fst) key+1):=by unfold Xh;rw[Bl ha]
  have hs:Ya K key l=K.take (low zi (K.map Prod.fst) key)++[(key,l)]++K.drop (low zi (K.map Prod.fst) key+1):=by unfold Ya;rw[Bl ha]
  rw[f,hs];generalize K.take (low zi (K.map Prod.fst) key)=A at *;generalize K.drop (low zi (K.map Prod.fst) key+1)=C at *;subst e;unfold Z4;rw[BM,WX key l _ A [] i,BX];have b:zi key key=false:=Zp.nz key;have d:∀ x∈C,x.1≠key:=fun x g=>(ZH (a x g)).symm;cases l with
  | nil =>
   have:zB key [] ([]++A,List.isEmpty ([]:List Ver)) (key,j)=(A,true):=by simp[zB,b]
   rw[this,XT key _ C A d];simp
  | cons v l =>
   have:zB key (v::l) ([]++A,List.isEmpty (v::l)) (key,j)=(A++[(key,v::l)],true):=by simp[zB,b]
   rw[this,XT key _ C _ d];simp
 | false =>
  rw[ha] at a;simp only[Av,Aa] at a;have f:Xh K key=K:=by unfold Xh;rw[CW (by rw[ha];decide)]
  have hs:Ya K key l=K.take (low zi (K.map Prod.fst) key)++[(key,l)]++K.drop (low zi (K.map Prod.fst) key):=by unfold Ya;rw[CW (by rw[ha];decide)]
  have e:K=K.take (low zi (K.map Prod.fst) key)++K.drop (low zi (K.map Prod.fst) key):=(Bo _ _).symm;rw[f,hs];generalize K.take (low zi (K.map Prod.fst) key)=A at *;generalize K.drop (low zi (K.map Prod.fst) key)=C at *;subst e;have d:∀ x∈C,x.1≠key:=fun x g=>(ZH (a x g)).symm;unfold Z4;rw[BM,WX key l _ A [] i];cases l with
  | nil =>
   rw[show List.isEmpty ([]:List Ver)=true from rfl,XT key _ C _ d];simp
  | cons v l =>
   rw[show List.isEmpty (v::l)=false from rfl,H8 key _ C _ a];cases C with
   | nil=>simp
   | cons c C=>simp
def zN(v:Ver)(st:List Ver × Bool)(u:Ver):List Ver × Bool :=
 (((if zD v.rj u.rj=true/\st.2=false then st.1++[v] else st.1)++if v.rI u=true then [] else [u]),st.2||zD v.rj u.rj)
def WO(l:List Ver)(v:Ver):List Ver :=
 (l.foldl (zN v) ([],v.ts)).1++if (l.foldl (zN v) ([],v.ts)).2=true then [] else [v]
theorem TT(v:Ver):∀ (l a:List Ver),l.foldl (zN v) (a,true)=(a++zC l v,true)
 | [],a=>by simp[zC]
 | u::l,a=>by
  have:zN v (a,true) u=(a++if v.rI u=true then [] else [u],true):=by simp[zN]
  rw[BX,this,TT v l];unfold zC;cases h:v.rI u <;> simp[h]
theorem Qa(v:Ver)(b:Bool):∀ (l a:List Ver),(∀ u∈l,zD v.rj u.rj=false)->l.foldl (zN v) (a,b)=(a++zC l v,b)
 | [],a,_=>by simp[zC]
 | u::l,a,h=>by
  have c:=h u (CY ..);have:zN v (a,b) u=(a++if v.rI u=true then [] else [u],b):=by simp[zN,c]
  rw[BX,this,Qa v b l _ (fun x d=>h x (CT _ d))];unfold zC;cases h:v.rI u <;> simp[h]
theorem PV(a b:List Ver)(v:Ver):zC (a++b) v=zC a v++zC b v:=by simp[zC]
theorem FE(A C:List Ver)(v:Ver)(d:∀ u∈A,zD u.rj v.rj=true)(e:∀ u∈C,zD v.rj u.rj=true):Xt (A++C) v=A++[v]++C:=by
 have g:low zD ((A++C).map Ver.rj) v.rj=A.length:=by
  refine VX zD v.rj _ _ bG (fun k c a=>?_) (fun c=>?_)
  .rw[BB,BE a]
   exact d _ (CU _)
  .have hc:A.length<(A++C).length:=by simpa using c
   have f:0<C.length:=by simp at hc;omega
   rw[BB,BV (CP _)];exact Yk.nC (e _ (CU _))
 unfold Xt;rw[g];simp
theorem D5(v:Ver)(h:YM l)(y:∀ u∈l,u.rj≠v.rj):WO l v=if v.ts=true then zC l v else Xt (zC l v) v:=by
 unfold WO;cases hg:v.ts with
 | true=>rw[TT];simp
 | false =>
  have x:l=l.take (low zD (l.map Ver.rj) v.rj)++l.drop (low zD (l.map Ver.rj) v.rj):=(Bo _ _).symm;have f:∀ u∈l.take (low zD (l.map Ver.rj) v.rj),zD u.rj v.rj=true:=by
   intro u a;obtain⟨j,g,rfl⟩:=AP a;rw[CR] at g;have f:j<(l.map Ver.rj).length:=by rw[Bm];omega
   have:=Sq (lt:=zD) (l:=l.map Ver.rj) (b:=v.rj) (k:=j) f V;rw[BB] at this;rw[xN];exact this
  have p:∀ u∈l.drop (low zD (l.map Ver.rj) v.rj),zD v.rj u.rj=true:=by
   intro u a;obtain⟨j,g,rfl⟩:=AP a;rw[Bc] at g;rw[Ac];have m:low zD (l.map Ver.rj) v.rj<l.length:=V
   have d:=Sr (lt:=zD) (l:=l.map Ver.rj) (b:=v.rj) (by simpa using m);rw[BB] at d;have o:=Yk.nJ _ _ d (y _ (CU _));rcases yI j with e|e
   .subst e;exact o
   .exact Yk.trans _ _ _ o (h.get (i:=low zD (l.map Ver.rj) v.rj) (j:=low zD (l.map Ver.rj) v.rj+j) V V)
  generalize l.take (low zD (l.map Ver.rj) v.rj)=A at *;generalize l.drop (low zD (l.map Ver.rj) v.rj)=C at *;subst x;have q:∀ u∈A,zD v.rj u.rj=false:=fun u a=>Yk.nC (f u a);have r:∀ u∈zC A v,zD u.rj v.rj=true:=fun u a=>f u ((yR.1 a).1);have s:∀ u∈zC C v,zD v.rj u.rj=true:=fun u a=>p u ((yR.1 a).1);rw[BM,Qa v false A [] q,PV];simp only[Av,Aa];rw[FE _ _ v r s];cases C with
  | nil=>simp[zC]
  | cons c C =>
   have t:=p c (CY ..);have:zN v ([]++zC A v,false) c=(zC A v++[v]++(if v.rI c=true then [] else [c]),true):=by simp[zN,t]
   rw[BX,this,TT];cases ho:v.rI c <;> simp[zC,ho]
def Zn(n s y:Int):Bool:=zM n&&decide (1000<=s/\s<=1000000/\0<=y/\y<=100)
theorem Wp(n s y:Int)(w:World):Calls prog 93 #[.agg #[I n,I s,I y]] w fun e t=>e=.returned (.bool (Zn n s y))/\Fr Nil w t:=by
 have l:=Blk.new w [I n,I s,I y] 102;have k:Fr Nil w (w.alloc (.cells #[I n,I s,I y] 102)):=(U _ _).alloc _;have f:=Z l;have g:=Z k;clear l k;go_enter func93,ntmps93;go_wp2_with fail;generalize c:w.alloc (.cells #[I n,I s,I y] 102)=u;rw[c] at f g;clear c;have r:=f.o.cell;generalize w.heap.size=b at f r |-;have d:=Z (Vg n u);cases h1:zM n with
 | false =>
  rw[h1] at d;have a:Zn n s y=false:=by unfold Zn;rw[h1];rfl
  have h:=Z a;clear h1 a
  go_wp2_with (refine d.o.mono ?_;rintro e j ⟨rfl,i⟩;subst j)
  go_ret;exact⟨by rw[h.o];rfl,g.o⟩
 | true =>
  rw[h1] at d;have a:Zn n s y=decide (1000<=s/\s<=1000000/\0<=y/\y<=100):=by unfold Zn;rw[h1];rfl
  have h:=Z a;clear h1 a;by_cases m:1000<=s <;> by_cases o:s<=1000000 <;> by_cases p:0<=y <;> by_cases q:y<=100
  all_goals first
   | (exfalso;omega)
   | (
   go_wp2_with (refine d.o.mono ?_;rintro e j ⟨rfl,i⟩;subst j)
   go_ret;exact⟨by rw[h.o];simp[m,o,p,q],g.o⟩)
def zG(o:Int):Bool:=decide (0<=o/\o<=1000000000)
def Ver.qG(v:Ver):List Int:=[v.o0,v.o1,v.o2,v.o3]
def foreign(a:Nat)(v:Ver):Bool :=
 v.qG.all zG&&(!(v.ts&&decide (v.value.size≠0))&&((zM v.node&&decide (v.node≠a))&&decide (1<=v.seq/\v.seq<=1000000000)))
theorem KL(a b c d:Int):(∀ w,(Instr.index 35 (.agg #[I a,I b,I c,I d]) (I 0)).run prog w=.ok (I a) w)/\(∀ w,(Instr.index 35 (.agg #[I a,I b,I c,I d]) (I 1)).run prog w=.ok (I b) w)/\(∀ w,(Instr.index 35 (.agg #[I a,I b,I c,I d]) (I 2)).run prog w=.ok (I c) w)/\(∀ w,(Instr.index 35 (.agg #[I a,I b,I c,I d]) (I 3)).run prog w=.ok (I d) w) :=
 ⟨fun _=>bI,fun _=>bI,fun _=>bI,fun _=>bI⟩
theorem H9(h:p:=by
 cases ho:(zM node&&decide (node≠N.tN)) with
 | false =>
  rw[ho] at D r;have s:=Z r;clear ho r
  go_wp2_with (refine D.o.mono ?_;rintro e C ⟨rfl,B⟩;subst C)
  go_ret;exact⟨by rw[s.o];rfl,u.o⟩
 | true =>
  rw[ho] at D r;have s:=Z r;clear ho r;by_cases h1:1<=c
  .by_cases h2:c<=1000000000
   .go_wp2_with (refine D.o.mono ?_;rintro e C ⟨rfl,B⟩;subst C)
    go_ret;exact⟨by rw[s.o,yZ (show 1<=c/\c<=1000000000 from V)];rfl,u.o⟩
   .go_wp2_with (refine D.o.mono ?_;rintro e C ⟨rfl,B⟩;subst C)
    go_ret;exact⟨by rw[s.o,yd (show ¬(1<=c/\c<=1000000000) from V)];first|rfl|(rw[<- yd (show ¬c<=1000000000 from V)];rfl),u.o⟩
  .go_wp2_with (refine D.o.mono ?_;rintro e C ⟨rfl,B⟩;subst C)
   go_ret;exact⟨by rw[s.o,yd (show ¬(1<=c/\c<=1000000000) from V)];first|rfl|(rw[<- yd (show ¬c<=1000000000 from V)];rfl),u.o⟩):p:=h
theorem Sz(h:p:=by
 clear r ho g;rcases q with q|⟨q,x⟩
 .go_wp2
  go_ret;exact⟨by rw[s.o];rfl,u.o⟩
 .go_wp2
  go_ret;exact⟨by rw[s.o];rfl,u.o⟩):p:=h
theorem PW(h:p:=by
 simp only[AF,yC,List.all_cons,List.all_nil,Bool.and_true,Ar] at g |-;simp[g,ho]):p:=h
theorem SA(L:NL)(N:NM)(M:DM)(v:Ver)(w:World)(h:NRep w L N M) :
 Calls prog 139 #[E L.nb 0,.agg v.cells.toArray] w fun e X=>e=.returned (.bool (foreign N.tN v))/\Fr Nil w X:=by
 have hA:=Blk.new w v.cells 37;have R:Fr Nil w (w.alloc (.cells v.cells.toArray 37)):=(U _ _).alloc _;have hr:=h.nil R;have K:=Z hA;have u:=Z R;have Q:=Z hr;clear hA R h hr;obtain⟨node,c,k,l,m,o,a,j⟩:=v;obtain⟨i0,i1,i2,i3⟩:=KL k l m o;simp only[Ver.cells] at K u Q |-;go_enter func139,ntmps139;go_wp2_with fail;generalize w.alloc (.cells #[I node,I c,I k,I l,I m,I o,.string a,.bool j] 37)=wb at K u Q |-;have hc:=K.o.cell;generalize w.heap.size=b at K hc |-
 go_loopw [9] (fun t X=>∃ i:Nat,i<=4/\t=I i/\(([k,l,m,o].take i).all zG)=true/\X=wb) (fun t _=>4-(intOf t).toNat)
 case atStart=>exact⟨0,V,rfl,rfl,rfl⟩
 case round =>
  obtain⟨i,hi,rfl,g,hw⟩:=hrel;subst hw;have A:i=0\/i=1\/i=2\/i=3\/i=4:=V
  rcases A with rfl|rfl|rfl|rfl|rfl
  .cases ho:zG k with
   | false =>
    have r:foreign N.tN ⟨node,c,k,l,m,o,a,j⟩=false:=by unfold foreign;simp[Ver.qG,ho]
    have s:=Z r;have q:k<0\/(¬k<0/\1000000000<k):=by unfold zG at ho;simp only[BP] at ho;omega
    exact Sz
   | true =>
    have d:(([k,l,m,o].take 1).all zG)=true:=by simp[ho]
    have f:=Z d;have q:¬k<0:=by unfold zG at ho;simp only[Bi] at ho;omega
    have x:¬1000000000<k:=by unfold zG at ho;simp only[Bi] at ho;omega
    clear ho g d
    go_wp2
    exact⟨⟨1,V,rfl,f.o,trivial⟩,by simp[intOf]⟩
  .cases ho:zG l with
   | false =>
    have r:foreign N.tN ⟨node,c,k,l,m,o,a,j⟩=false:=by unfold foreign;simp[Ver.qG,ho]
    have s:=Z r;have q:l<0\/(¬l<0/\1000000000<l):=by unfold zG at ho;simp only[BP] at ho;omega
    exact Sz
   | true =>
    have d:(([k,l,m,o].take 2).all zG)=true:=by
     exact PW
    have f:=Z d;have q:¬l<0:=by unfold zG at ho;simp only[Bi] at ho;omega
    have x:¬1000000000<l:=by unfold zG at ho;simp only[Bi] at ho;omega
    clear ho g d
    go_wp2
    exact⟨⟨2,V,rfl,f.o,trivial⟩,by simp[intOf]⟩
  .cases ho:zG m with
   | false =>
    have r:foreign N.tN ⟨node,c,k,l,m,o,a,j⟩=false:=by unfold foreign;simp[Ver.qG,ho]
    have s:=Z r;have q:m<0\/(¬m<0/\1000000000<m):=by unfold zG at ho;simp only[BP] at ho;omega
    exact Sz
   | true =>
    have d:(([k,l,m,o].take 3).all zG)=true:=by
     exact PW
    have f:=Z d;have q:¬m<0:=by unfold zG at ho;simp only[Bi] at ho;omega
    have x:¬1000000000<m:=by unfold zG at ho;simp only[Bi] at ho;omega
    clear ho g d
    go_wp2
    exact⟨⟨3,V,rfl,f.o,trivial⟩,by simp[intOf]⟩
  .cases ho:zG o with
   | false =>
    have r:foreign N.tN ⟨node,c,k,l,m,o,a,j⟩=false:=by unfold foreign;simp[Ver.qG,ho]
    have s:=Z r;have q:o<0\/(¬o<0/\1000000000<o):=by unfold zG at ho;simp only[BP] at ho;omega
    exact Sz
   | true =>
    have d:(([k,l,m,o].take 4).all zG)=true:=by
     exact PW
    have f:=Z d;have q:¬o<0:=by unfold zG at ho;simp only[Bi] at ho;omega
    have x:¬1000000000<o:=by unfold zG at ho;simp only[Bi] at ho;omega
    clear ho g d
    go_wp2
    exact⟨⟨4,V,rfl,f.o,trivial⟩,by simp[intOf]⟩
  .have f:aa (([k,l,m,o].all zG)=true):=g
   have D:=Z (Ut L N M node wr Q.o);have J:foreign N.tN ⟨node,c,k,l,m,o,a,j⟩=(!(j&&decide (a.size≠0))&&((zM node&&decide (node≠N.tN))&&decide (1<=c/\c<=1000000000))):=by
    unfold foreign;simp only[Ver.qG,f.o,vW]
   have y:=Z J;have G:=Z (X8 a);clear g J;cases j with
   | true =>
    by_cases T:a.toList=[]
    .have r:foreign N.tN ⟨node,c,k,l,m,o,a,true⟩=((zM node&&decide (node≠N.tN))&&decide (1<=c/\c<=1000000000)):=by
      rw[y.o];simp[show a.size=0 by rw[G.o,T];rfl]
     exact H9
    .have r:foreign N.tN ⟨node,c,k,l,m,o,a,true⟩=false:=by
      rw[y.o];have:a.size≠0:=by rw[G.o];exact fun h=>T (BH h)
      simp[this]
     have s:=Z r;have h3:a.toList.isEmpty=false:=by simpa using T
     clear r
     go_wp2
     go_ret;exact⟨by rw[s.o];rfl,u.o⟩
   | false =>
    have r:foreign N.tN ⟨node,c,k,l,m,o,a,false⟩=((zM node&&decide (node≠N.tN))&&decide (1<=c/\c<=1000000000)):=by
     rw[y.o];simp
    exact H9
end Go.Proofs.YtkhnggkkiefcdaaGreatDoor
