/- larder: joined texts -/
import Derived.Test.YtkhnggkkiefcdaaGreatDoorUNAA
import Derived.Test.YtkhnggkkiefcdaaGreatDoorUNAF
import Derived.Test.YtkhnggkkiefcdaaGreatDoorUNAG
import Derived.Test.YtkhnggkkiefcdaaGreatDoorChecked
import Derived.Lib.LazyBuf
namespace Go.Proofs.YtkhnggkkiefcdaaGreatDoor
open Go.RowKit
set_option maxRecDepth 100000
set_option maxHeartbeats 8000000
theorem Lp:((Tryz.prog.info? 37).map fun i=>(i.zero.map (·.cells.size),i.size,i.bytes))=some (some 8,8,72):=by kernel_rfl
def Vh(w:World)(c:Option Nat)(n i:Nat)(h f:List Value)(e:Ending)(d:World):Prop :=
 ∃ g a,e=.returned (.slice (some ⟨g,0,none⟩) (n+1) a)/\d.ownsRow 0 37 8 (.slice (some ⟨g,0,none⟩) (n+1) a) (n+1) (Y3 8 i h f)/\Fr (fun b=>c=some b) w d/\(c=some g\/w.heap.size<=g)
theorem Oo(v:Value)(n:Nat)(d f:List Value)(r:Nat)(w:World)(b:w.ownsRow 0 37 8 v n d)(t:f.length=8)(s:∀ u∈f,u.oneCell'=true)(G:Blk w r f 37)(p:(n+1)*72<=140737488355328) :
 Calls Tryz.prog 181 #[v,.int .i64 n,.slice (some ⟨r,0,none⟩) 1 1] w fun e c=>Vh w v.ownBlock n n d f e c:=by
 have q:∀ ty,∃ m c,(Builtin.append_ #[61,61] ty #[v,.slice (some ⟨r,0,none⟩) 1 1]).run Tryz.prog w=.ok m c/\App w v 37 8 (n+1) (d++f) m c:=fun ty =>
  zt (P:=Tryz.prog) 61 ty 37 8 72 GQ Lp (by omega) v n d b ⟨r,0,none⟩ 1 1 f (by rw[t]) (fun j u E=>by rw[Hp,Hw];rw[G.cell];exact E) s (by unfold maxLen;omega) p
 have k:∀ m c,App w v 37 8 (n+1) (d++f) m c->Vh w v.ownBlock n n d f (.returned m) c:=by
  rintro m c ⟨y,C,o⟩;obtain⟨g,l,rfl,_,_⟩:=y.form (by omega);refine⟨g,l,rfl,?_,(Fr.BI C).mono (fun i _ h=>h),?_⟩
  .have e1:d.take (n*8)=d:=IH (by rw[b.1];exact Io _)
   have A:d.drop (n*8)=[]:=Hn (by rw[b.1];exact Io _);unfold Y3;rw[e1,A,IV];exact y
  .rcases o with o|o
   .left;rw[<- o];rfl
   .right;have:g=w.heap.size:=by simpa [Value.ownBlock] using o
    omega
 have D:=zG b;unfold maxLen at D;obtain⟨a,l,rfl⟩:=zg b;have x:=Z k;clear k b;generalize (Value.slice a n l).ownBlock=I at x |-;go_enter Tryz.func181,Tryz.ntmps181
 go_wp2_with (at_builtin;go_must (refine zJ rfl _ _ _ _ rfl _ _ (by rfl) (by rfl) (q _) ?_);rintro m c B)
 all_goals
  go_ret;exact x.out _ _ B
theorem Lq(w:World)(k m l i h f:Nat)(a g:Nat)(j c:List Value)(d:Blk w a j 37)(p:Blk w g c 37)(b:a≠g)(o:c.length≠0) :
 (callFunc 215 #[.slice (some ⟨a,k,none⟩) m l,.slice (some ⟨g,i,none⟩) h f]).run Tryz.prog w=.ok (.value (.bool false)) w:=by
 rw[Gf Tryz.func215 (by kernel_rfl) (by kernel_rfl) (by kernel_rfl) (e:=Extern.SlicesOverlaps.overlaps #[61,61] #[4]) (by kernel_rfl),
  Dc w 61 4 37 GQ 8 Tryz.sizeOf37 ⟨a,k,none⟩ ⟨g,i,none⟩ m l h f b 37 37 j.length c.length d.shape p.shape o (d.frozen _) (d.frozen _)]
 rfl
theorem RB(g n d i:Nat)(c l k:List Value)(A:Nat)(w:World)(L:Blk w g c 37)(h:c.length=d*8)(O:c.take (n*8)=l)(X:∀ u∈l,u.oneCell'=true)(hi:i<n)(a:n+1<=d)(I:d<=maxLen)
 (r:k.length=8)(K:∀ u∈k,u.oneCell'=true)(R:Blk w A k 37)(M:A≠g) :
 Calls Tryz.prog 181 #[.slice (some ⟨g,0,none⟩) n d,.int .i64 i,.slice (some ⟨A,0,none⟩) 1 1] w fun e w'=>Vh w (some g) n i l k e w':=by
 have Q:=fun va vl vc bo bl bc=>Lq w va vl vc bo bl bc A g k c R L M (by omega);have v:l.length=n*8:=by rw[<- O,Ip,h];exact Hx (IZ _ (by omega))
 have q:(l.drop (i*8)).length=(n-i)*8:=by rw[Iw,v,Dx]
 have J:∀ j u,(l.drop (i*8))[j]?=some u->c[i*8+j]?=some u:=by
  intro j u s;rw[GI] at s;have a0:=(IQ.1 s).1;rw[<- O,Gc (by omega)] at s;exact s
 have p:∀ ty B T,(Builtin.copy_ #[61,61] ty #[.slice (some ⟨g,(i+1)*8,none⟩) (n-i) B,.slice (some ⟨g,i*8,none⟩) (n+1-i) T]).run Tryz.prog w.drew=_:=fun ty B T =>
  Zm 61 37 ty 8 GQ (by kernel_rfl) g ((i+1)*8) (n-i) B ⟨g,i*8,none⟩ (n+1-i) T c (l.drop (i*8)) 37 L
   (by rw[q];congr 1;simp only[FG];split <;> omega) (fun j u s=>by rw[Hp,show w.drew.cell? ⟨g,i*8+j,none⟩=c[i*8+j]? from L.drew.cell _];exact J j u s)
   (by rw[q,h];have:=IZ 8 a;have e:(i+1)*8+(n-i)*8=(n+1)*8:=(by rw[<- GM];congr 1;omega);omega)
   (fun u s=>X u (IK s))
 obtain⟨f,m⟩:∃ f,f=c.take ((i+1)*8)++l.drop (i*8)++c.drop ((i+1)*8+(l.drop (i*8)).length):=⟨_,rfl⟩;rw[<- m] at p;have t:Blk (w.drew.setRow g f.toArray) g f 37:=L.drew.setRow f;have D:Blk (w.drew.setRow g f.toArray) A k 37:=R.drew.of_heap (Ek _ g A _ M);have o:f.length=d*8:=by
  have:=IZ 8 a;have e:(i+1)*8+(n-i)*8=(n+1)*8:=by rw[<- GM];congr 1;omega
  rw[m];simp only[Il,Ip,Iw,v,h];omega
 have C:Fr (fun b=>some g=some b) w (w.drew.setRow g f.toArray):=Fr.setRow (S:=fun b=>some g=some b) ((U _ w).drew) (fun _=>rfl) _;obtain⟨N,E⟩:∃ N,N=w.drew.setRow g f.toArray:=⟨_,rfl⟩;rw[<- E] at p t D C;clear E;have x:∀ ty B,(Builtin.copy_ #[61,61] ty #[.slice (some ⟨g,i*8,none⟩) (n+1-i) B,.slice (some ⟨A,0,none⟩) 1 1]).run Tryz.prog N=_:=fun ty B =>
  Zm 61 37 ty 8 GQ (by kernel_rfl) g (i*8) (n+1-i) B ⟨A,0,none⟩ 1 1 f k 37 t
   (by rw[r];have:Nat.min 1 (n+1-i)=1:=(by simp only[FG];split <;> omega);rw[this]) (fun j u s=>by rw[Hp,Hw,D.cell];exact s)
   (by rw[r,o];have:=IZ 8 a;have e:i*8+8=(i+1)*8:=(by rw[GM,Dy]);have:=IZ 8 (show i+1<=n+1 by omega);omega)
   K
 have y:Vh w (some g) n i l k (.returned (.slice (some ⟨g,0,none⟩) (n+1) d)) (N.setRow g (f.take (i*8)++k++f.drop (i*8+k.length)).toArray):=by
  have e0:=IZ 8 a;have e1:i*8+8=(i+1)*8:=by rw[GM,Dy]
  have e2:(i+1)*8+(n-i)*8=(n+1)*8:=by rw[<- GM];congr 1;omega
  have e3:=IZ 8 (show i<=n by omega);refine⟨g,d,rfl,Yi (t.setRow _) a I ?_ ?_,Fr.setRow (S:=fun b=>some g=some b) C (fun _=>rfl) _,.inl rfl⟩
  .rw[Il,Il,Ip,Iw,r,o]
   omega
  .unfold Y3
   have Y:f.take (i*8)=l.take (i*8):=by
    rw[m,<- O,Ha (by rw[Il,Ip,h];omega),Ha (by rw[Ip,h];omega),Fh,Fh]
    congr 1
    omega
   have a2:f.drop (i*8+k.length)=l.drop (i*8)++c.drop ((n+1)*8):=by
    have e4:(c.take ((i+1)*8)).length=i*8+k.length:=by rw[Ip,h];omega
    rw[m,IA,<- e4,Fi,q,e2]
   rw[Y,a2,<- IA,Gb (by rw[Il,Il,q,r,Ip,v];omega)]
 obtain⟨V,G⟩:∃ V,V=f.take (i*8)++k++f.drop (i*8+k.length):=⟨_,rfl⟩;rw[<- G] at x y;clear t D C o J L R q v X K m G O r h;unfold maxLen at I;have a3:¬(i:Int)=(n:Int):=by omega
 have a4:¬(d:Int)<(n:Int)+1:=by omega
 have a5:¬d=i:=by omega
 have a6:¬d=i+1:=by omega
 have a7:IntKind.i64.wrap ((i:Int)+1)=(i:Int)+1:=by rw[Hg];omega
 have a8:(0:Int)<=(i:Int)+1:=by omega
 have a9:((i:Int)+1).toNat=i+1:=by omega
 have b0:(i:Int)<=(n:Int)+1:=by omega
 have b1:(i:Int)<=(n:Int):=by omega
 go_enter Tryz.func181,Tryz.ntmps181
 go_wp2_with (simp only[Q])
 go_region_law (refine Yu rfl _ _ 61 61 rfl _ _ (by simp[Act.eval,Act.put]) (by simp[Act.eval,Act.put]) (p _ _ _) ?_)
 go_wp2_with (at_builtin;go_must (refine Yk rfl _ _ 61 61 rfl _ _ (by rfl) (by rfl) (x _ _) ?_))
 go_ret;exact y
theorem QQ(g n i:Nat)(b m:List Value)(vb:Nat)(w:World)(hg:Blk w g b 37)(f:b.length=n*8)(h1:∀ u∈b,u.oneCell'=true)(hi:i<n)
 (q:m.length=8)(a0:∀ u∈m,u.oneCell'=true)(hv:Blk w vb m 37)(Y:(n+1)*72<=140737488355328) :
 Calls Tryz.prog 181 #[.slice (some ⟨g,0,none⟩) n n,.int .i64 i,.slice (some ⟨vb,0,none⟩) 1 1] w fun e w'=>Vh w (some g) n i b m e w':=by
 obtain⟨i0,z,a4,a6,S,K,a7⟩:=Y0 Lp;have s:i+(n+1-i)=n+1:=by omega
 have a:∀ ty,(Builtin.append_ #[61,3] ty #[.slice (some ⟨g,0,none⟩) i n,.int .i64 ((n+1-i:Nat):Int)]).run Tryz.prog w=_:=fun ty =>
  EP (P:=Tryz.prog) w 61 3 ty 37 i0 z .i64 .i64 GQ Eh a4 a6 (some ⟨g,0,none⟩) i n (b.take (i*8))
   (by rw[S];exact Ed (P:=Tryz.prog) w.drew 8 i ⟨g,0,none⟩ i n (b.take (i*8)) (by rw[Ip,f];omega) (fun j u t=>by
     have a8:=(IQ.1 t).1;rw[Hp,Hw,hg.drew.cell];rw[Ip] at a8;rw[Gc (by omega)] at t;exact t))
   (n+1-i) (by omega) (by rw[S];omega) (by omega) (by omega) (by rw[K];omega) (DJ (by omega) (by rw[K,s];exact Y))
 rw[s] at a;have a2:=CO w (n+1) n 37;have L:=EU w (n+1) n 37 (by unfold maxLen;omega);generalize grownCap w (n+1) n 37=c at a a2 L;obtain⟨d,v⟩:∃ d:List Value,d=b.take (i*8)++(Builtin.zeroCells z.cells (n+1-i)).toList++(Builtin.zeroCells z.cells (c-(n+1))).toList:=⟨_,rfl⟩;have C:(b.take (i*8)).toArray++Builtin.zeroCells z.cells (n+1-i)++Builtin.zeroCells z.cells (c-(n+1))=d.toArray:=by rw[v];apply EA;simp
 rw[C] at a;have o:d.length=c*8:=by
  rw[v];simp only[Il,Ip,GF,DI,a7,f];omega
 have D:d.take (i*8)=b.take (i*8):=by
  have e:(b.take (i*8)).length=i*8:=by rw[Ip,f];omega
  rw[v,IA];exact Gb e
 have a3:=hg.lt;have a5:=hv.lt;have r:Blk (w.drew.alloc (.cells d.toArray 37)) w.heap.size d 37:=Blk.new w.drew d _;have T:Blk (w.drew.alloc (.cells d.toArray 37)) vb m 37:=hv.drew.alloc _;have Q:Blk (w.drew.alloc (.cells d.toArray 37)) g b 37:=hg.drew.alloc _;have M:Fr Nil w (w.drew.alloc (.cells d.toArray 37)):=((U _ w).drew).alloc _;obtain⟨N,hN⟩:∃ N,N=w.heap.size:=⟨_,rfl⟩;rw[<- hN] at a r a3 a5;obtain⟨I,V⟩:∃ I,I=w.drew.alloc (.cells d.toArray 37):=⟨_,rfl⟩;rw[<- V] at a r T Q M;clear V;obtain⟨k,x⟩:∃ k,k=d.take (i*8)++m++d.drop (i*8+m.length):=⟨_,rfl⟩;have p:∀ ty J,(Builtin.copy_ #[61,61] ty #[.slice (some ⟨N,i*8,none⟩) (n+1-i) J,.slice (some ⟨vb,0,none⟩) 1 1]).run Tryz.prog I=_:=fun ty J =>
  Zm 61 37 ty 8 GQ (by kernel_rfl) N (i*8) (n+1-i) J ⟨vb,0,none⟩ 1 1 d m 37 r
   (by rw[q];have:Nat.min 1 (n+1-i)=1:=(by simp only[FG];split <;> omega);rw[this]) (fun j u t=>by rw[Hp,Hw,T.cell];exact t)
   (by rw[q,o];omega)
   a0
 rw[<- x] at p;have l:k.length=c*8:=by
  rw[x];simp only[Il,Ip,Iw,q,o];omega
 have E:k.take ((i+1)*8)=b.take (i*8)++m:=by
  have e:(b.take (i*8)++m).length=(i+1)*8:=by rw[Il,Ip,f,q];omega
  rw[x,D];exact Gb e
 have B:Blk (I.setRow N k.toArray) N k 37:=r.setRow k;have R:Blk (I.setRow N k.toArray) g b 37:=Q.of_heap (Ek _ N g _ (by omega));have O:Fr Nil w (I.setRow N k.toArray):=M.setRow (fun h=>by omega) _;obtain⟨W2,X⟩:∃ W2,W2=I.setRow N k.toArray:=⟨_,rfl⟩;rw[<- X] at p B R O;clear X;have A:(b.drop (i*8)).length=(n-i)*8:=by rw[Iw,f,Dx]
 obtain⟨c3,y⟩:∃ c3,c3=k.take ((i+1)*8)++b.drop (i*8)++k.drop ((i+1)*8+(b.drop (i*8)).length):=⟨_,rfl⟩;have G:∀ ty J sc,(Builtin.copy_ #[61,61] ty #[.slice (some ⟨N,(i+1)*8,none⟩) (n-i) J,.slice (some ⟨g,i*8,none⟩) (n-i) sc]).run Tryz.prog W2.drew=_:=fun ty J sc =>
  Zm 61 37 ty 8 GQ (by kernel_rfl) N ((i+1)*8) (n-i) J ⟨g,i*8,none⟩ (n-i) sc k (b.drop (i*8)) 37 B.drew
   (by rw[A];congr 1;simp only[FG];split <;> omega) (fun j u t=>by rw[Hp,R.drew.cell];rw[GI] at t;exact t)
   (by rw[A,l];omega)
   (fun u t=>h1 u (IK t))
 rw[<- y] at G;have a1:Vh w (some g) n i b m (.returned (.slice (some ⟨N,0,none⟩) (n+1) c)) (W2.drew.setRow N c3.toArray):=by
  refine⟨N,c,rfl,Yi (B.drew.setRow _) a2 L ?_ ?_,(O.drew.setRow (fun h=>by omega) _).mono (fun _ _ h=>absurd h id),.inr (by omega)⟩
  .rw[y]
   simp only[Il,Ip,Iw,f,l];omega
  .have e:(k.take ((i+1)*8)++b.drop (i*8)).length=(n+1)*8:=by rw[Il,Ip,l,A];omega
   rw[y,Gb e,E]
   rfl
 clear D E C y x v r T Q M B R O A l o h1 a0 q f hv hg hN s a7 K S a6 a4;unfold maxLen at L;have a9:¬(i:Int)=(n:Int):=by omega
 have b0:¬n=i:=by omega
 have b1:¬c=i+1:=by omega
 have b2:¬c=i:=by omega
 have b3:(n:Int)+1-i=((n+1-i:Nat):Int):=by omega
 have b4:IntKind.i64.wrap ((i:Int)+1)=(i:Int)+1:=by rw[Hg];omega
 have b5:(0:Int)<=(i:Int)+1:=by omega
 have b6:((i:Int)+1).toNat=i+1:=by omega
 have b7:(i:Int)<=(n:Int)+1:=by omega
 have b8:(i:Int)<=(n:Int):=by omega
 go_enter Tryz.func181,Tryz.ntmps181
 go_wp2_with (at_builtin;go_must (first|(refine Dh _ rfl _ _ _ _ rfl _ _ (by rfl) (by rfl) _ _ (a _) ?_)|(refine Yk rfl _ _ 61 61 rfl _ _ (by rfl) (by rfl) (p _ _) ?_)))
 go_region_law (refine Yu rfl _ _ 61 61 rfl _ _ (by simp[Act.eval,Act.put]) (by simp[Act.eval,Act.put]) (G _ _ _) ?_)
 go_wp2
 go_ret;exact a1
theorem RC(v:Value)(n i:Nat)(k d:List Value)(j:Nat)(w:World)(b:w.ownsRow 0 37 8 v n k)(q:∀ u∈k,u.oneCell'=true)(x:i<=n)
 (h:d.length=8)(f:∀ u∈d,u.oneCell'=true)(p:Blk w j d 37)(o:v.ownBlock≠some j)(a:(n+1)*72<=140737488355328) :
 Calls Tryz.prog 181 #[v,.int .i64 i,.slice (some ⟨j,0,none⟩) 1 1] w fun e t=>Vh w v.ownBlock n i k d e t:=by
 rcases GO i n with l|s
 .rcases Yj b with⟨_,h0,_⟩|⟨g,cap,c,rfl,hg,hn,hm,hc,ht⟩
  .omega
  .have hne':j≠g:=fun e=>o (by rw[e];rfl)
   rcases GO n cap with r|r
   .exact RB g n cap i c k d j w hg hc ht q l r hm h f p hne'
   .have e:cap=n:=by omega
    subst e;have m:c=k:=by rw[<- ht];exact(IH (by omega)).symm
    subst m;exact QQ g cap i c d j w hg hc q l h f p a
 .have e:i=n:=by omega
  subst e;exact Oo v i k d j w b h f p a
theorem I3:((Tryz.prog.info? 37).map fun i=>(i.zero.map (·.cells.size),i.size,i.bytes))=some (some 8,8,72):=by kernel_rfl
theorem Ug(v:Value)(n:Nat)(o:List Value)(w:World)(d:w.ownsRow 0 37 8 v n o)(I:∀ u∈o,u.oneCell'=true)(D:n*72<=140737488355328) :
 Calls Tryz.prog 75 #[v] w fun e f =>
  ∃ b,e=.returned b/\f.ownsRow 0 37 8 b n o/\Fr Nil w f/\(∀ k,b.ownBlock=some k->w.heap.size<=k):=by
 have O:∀ (w:World) (a:Option Addr) (n c:Nat),(binOp .eql 61 (.slice a n c) (.slice none 0 0)).run Tryz.prog w=.ok (.bool a.isNone) w:=fun w a n c=>by exact Lib.run_eql_slice_nil (h:=GQ) ..
 rcases Yj d with⟨rfl,rfl,rfl⟩|⟨g,r,c,rfl,E,R,A,K,N⟩
 .go_enter Tryz.func75,Tryz.ntmps75
  go_wp2
  go_ret;exact⟨_,rfl,IX w 0 _ _,U _ _,fun k q=>by simp[Value.ownBlock] at q⟩
 .have hl:=d.1
  have y:Blk (w.alloc (.cells #[] 37)) w.heap.size [] 37:=Blk.new w [] _;have t:(w.alloc (.cells #[] 37)).ownsRow 0 37 8 (.slice (some ⟨w.heap.size,0,none⟩) 0 0) 0 []:=Yi y (Io _) (II _) (by simp) (by simp);have m:∀ j u,o[j]?=some u->(w.alloc (.cells #[] 37)).cell? ((⟨g,0,none⟩:Addr).add j)=some u:=by
   intro j u C;have L:=(IQ.1 C).1;rw[Hp,Hw,(E.alloc _).cell];rw[<- N,Gc (by omega)] at C;exact C
  have x:∀ ty,∃ b f,(Builtin.append_ #[61,61] ty #[.slice (some ⟨w.heap.size,0,none⟩) 0 0,.slice (some ⟨g,0,none⟩) n r]).run Tryz.prog (w.alloc (.cells #[] 37))=.ok b f/\App (w.alloc (.cells #[] 37)) (.slice (some ⟨w.heap.size,0,none⟩) 0 0) 37 8 (0+n) ([]++o) b f:=fun ty =>
   zt (P:=Tryz.prog) 61 ty 37 8 72 GQ I3 (by omega) _ 0 [] t ⟨g,0,none⟩ n r o hl m I (by unfold maxLen at *;omega) (by omega)
  have l:∀ b f,App (w.alloc (.cells #[] 37)) (.slice (some ⟨w.heap.size,0,none⟩) 0 0) 37 8 (0+n) ([]++o) b f ->
   ∃ p,Ending.returned b=.returned p/\f.ownsRow 0 37 8 p n o/\Fr Nil w f/\(∀ k,p.ownBlock=some k->w.heap.size<=k):=by
   rintro b f ⟨M,B,s⟩;refine⟨b,rfl,by simpa using M,((U Nil w).alloc _).trans' ((Fr.BI B).mono (fun i _ h=>h)) (fun i Q h=>?_),fun k q=>?_⟩
   .simp[Value.ownBlock] at h;omega
   .rcases s with s|s
    .rw[s] at q;simp[Value.ownBlock] at q;omega
    .rw[s] at q;simp at q;omega
  have G:=Z l;clear l m t y d E;unfold maxLen at A;go_enter Tryz.func75,Tryz.ntmps75
  go_wp2_with (at_builtin;go_must (refine zJ rfl _ _ _ _ rfl _ _ (by rfl) (by rfl) (x _) ?_);rintro b f J)
  go_ret;exact G.out _ _ J
def XO(a b:Int):Int:=if a<b then -1 else if b<a then 1 else 0
theorem TB(a b:Int)(w:World) :
 Calls Tryz.prog 180 #[.int .i64 a,.int .i64 b] w fun e d=>e=.returned (.int .i64 (XO a b))/\d=w:=by
 unfold XO;by_cases c:a<b
 .rw[IC c]
  go_enter Tryz.func180,Tryz.ntmps180
  go_wp2
  go_ret;exact⟨rfl,rfl⟩
 .by_cases h2:b<a
  .rw[It c,IC h2]
   go_enter Tryz.func180,Tryz.ntmps180
   go_wp2
   go_ret;exact⟨rfl,rfl⟩
  .rw[It c,It h2]
   go_enter Tryz.func180,Tryz.ntmps180
   go_wp2
   go_ret;exact⟨rfl,rfl⟩
def orI(a b:Int):Int:=if a=0 then b else a
theorem Lr(a b:Int)(g:Nat)(w:World)(c:Blk w g [.int .i64 a,.int .i64 b] 3) :
 Calls Tryz.prog 179 #[.slice (some ⟨g,0,none⟩) 2 2] w fun e l=>e=.returned (.int .i64 (orI a b))/\Fr Nil w l:=by
 have o:w.cell? ⟨g,0,none⟩=some (.int .i64 a):=by rw[c.cell];rfl
 have p:w.cell? ⟨g,1,none⟩=some (.int .i64 b):=by rw[c.cell];rfl
 clear c;go_enter Tryz.func179,Tryz.ntmps179;go_wp2_with fail
 go_loopw [8] (fun k l=>∃ i:Nat,k=.int .i64 i/\(i=0\/i=1/\a=0\/i=2/\a=0/\b=0)/\l=w) (fun k _=>2-(intOf k).toNat)
 case atStart=>exact⟨0,rfl,.inl rfl,rfl⟩
 case round =>
  obtain⟨i,rfl,m,rfl⟩:=hrel;rcases m with rfl|⟨rfl,rfl⟩|⟨rfl,rfl,rfl⟩
  .cases ha:(a != 0) with
   | true =>
    have d:orI a b=a:=(by have j:a≠0:=(by simpa using ha);simp[orI,j]);have f:=Z d;clear d
    go_wp2
    go_ret;rw[f.out];exact⟨rfl,U _ _⟩
   | false =>
    have h:a=0:=by simpa using ha
    subst h
    go_wp2
    exact⟨⟨1,by go_num,.inr (.inl ⟨rfl,by simp⟩),by trivial⟩,by simp[intOf]⟩
  .cases c:(b != 0) with
   | true =>
    go_wp2
    go_ret;exact⟨rfl,U _ _⟩
   | false =>
    have h:b=0:=by simpa using c
    subst h
    go_wp2
    exact⟨⟨2,by go_num,.inr (.inr ⟨rfl,by simp,by simp⟩),by trivial⟩,by simp[intOf]⟩
  .go_wp2
   go_ret;exact⟨rfl,U _ _⟩
def Ver.dot(v:Ver):Int × Int:=(v.node,v.seq)
def Sk(a b:Int × Int):Int:=orI (XO a.1 b.1) (XO a.2 b.2)
def zA(a b:Int × Int):Bool:=decide (a.1<b.1\/a.1=b.1/\a.2<b.2)
theorem Y4:Strict zA where
 xx a:=by simp[zA]
 trans a b c h1 h2:=by simp only[zA,IF] at *;omega
 xK a b h1 h2:=by
  obtain⟨d,e⟩:=a;obtain⟨f,g⟩:=b;simp only[zA,IF,Gn] at *;have:¬(d=f/\e=g):=fun h=>h2 (by rw[h.1,h.2]);omega
theorem QR{a b:Int × Int}:Sk a b<0↔zA a b=true:=by
 simp only[Sk,orI,XO,zA,IF];split <;> split <;> (try split) <;> (try split) <;> omega
theorem UI(u:Ver)(n s:Int)(w:World) :
 Calls Tryz.prog 178 #[.agg u.cells.toArray,.agg #[.int .i64 n,.int .i64 s]] w fun e g=>e=.returned (.int .i64 (Sk u.dot (n,s)))/\Fr Nil w g:=by
 obtain⟨node,c,l,m,o,p,a,b⟩:=u;simp only[Ver.cells,Ver.dot,Sk];go_enter Tryz.func178,Tryz.ntmps178;go_wp2_with fail;have f:Blk ((w.alloc (.cells #[.int .i64 node,.int .i64 c,.int .i64 l,.int .i64 m,.int .i64 o,.int .i64 p,.string a,.bool b] 37)).alloc (.cells #[.int .i64 n,.int .i64 s] 34)) w.heap.size [.int .i64 node,.int .i64 c,.int .i64 l,.int .i64 m,.int .i64 o,.int .i64 p,.string a,.bool b] 37 :=
  (Blk.new w [.int .i64 node,.int .i64 c,.int .i64 l,.int .i64 m,.int .i64 o,.int .i64 p,.string a,.bool b] _).alloc _
 have d:Blk ((w.alloc (.cells #[.int .i64 node,.int .i64 c,.int .i64 l,.int .i64 m,.int .i64 o,.int .i64 p,.string a,.bool b] 37)).alloc (.cells #[.int .i64 n,.int .i64 s] 34)) (w.heap.size+1) [.int .i64 n,.int .i64 s] 34:=by
  have:=Blk.new (w.alloc (.cells #[.int .i64 node,.int .i64 c,.int .i64 l,.int .i64 m,.int .i64 o,.int .i64 p,.string a,.bool b] 37)) [.int .i64 n,.int .i64 s] 34
  simpa using this
 have k:Fr Nil w ((w.alloc (.cells #[.int .i64 node,.int .i64 c,.int .i64 l,.int .i64 m,.int .i64 o,.int .i64 p,.string a,.bool b] 37)).alloc (.cells #[.int .i64 n,.int .i64 s] 34)):=((U _ _).alloc _).alloc _;generalize (w.alloc (.cells #[.int .i64 node,.int .i64 c,.int .i64 l,.int .i64 m,.int .i64 o,.int .i64 p,.string a,.bool b] 37)).alloc (.cells #[.int .i64 n,.int .i64 s] 34)=q at f d k |-;generalize w.heap.size=N at f d |-;have E:q.cell? ⟨N,0,none⟩=some (.int .i64 node):=by rw[f.cell];rfl
 have G:q.cell? ⟨N,1,none⟩=some (.int .i64 c):=by rw[f.cell];rfl
 have I:q.cell? ⟨N+1,0,none⟩=some (.int .i64 n):=by rw[d.cell];rfl
 have J:q.cell? ⟨N+1,1,none⟩=some (.int .i64 s):=by rw[d.cell];rfl
 have v:Hid (∀ g,Fr Nil q g->g.cell? ⟨N,0,none⟩=some (.int .i64 node)/\g.cell? ⟨N,1,none⟩=some (.int .i64 c)/\g.cell? ⟨N+1,0,none⟩=some (.int .i64 n)/\g.cell? ⟨N+1,1,none⟩=some (.int .i64 s)):=by
  intro g y;have A:=(f.fr y id).cell;have x:=(d.fr y id).cell;exact⟨by rw[A];rfl,by rw[A];rfl,by rw[x];rfl,by rw[x];rfl⟩
 clear f d
 go_region_held3 (fun g=>g.cell? ⟨N,0,none⟩=some (.int .i64 node)/\g.cell? ⟨N,1,none⟩=some (.int .i64 c)/\g.cell? ⟨N+1,0,none⟩=some (.int .i64 n)/\g.cell? ⟨N+1,1,none⟩=some (.int .i64 s)) (first|assumption|exact v.out _ zd)
  (first
  | (go_at_call 179;refine(Lr _ _ _ _ (by exact Blk.new _ [_,_] _)).mono ?_;rintro e B ⟨rfl,r⟩;have h:Fr Nil q B:=Fr.trans zd r;have D:=v.out B h)
  | (go_at_call 180;refine(TB _ _ _).mono ?_;rintro e K ⟨rfl,t⟩;subst t))
 have C:=Z (k.trans h);clear k h r
 go_wp2
 go_ret;exact⟨rfl,C.out⟩
def Yx(l:List Ver):Prop:=Asc zA (l.map Ver.dot)
theorem Yx.get{l:List Ver}(h:Yx l){i j:Nat}(a:i<j)(c:j<l.length):zA (l[i]'(Cz a c)).dot l[j].dot=true:=by
 have:=Asc.get h (i:=i) (j:=j) a (by simpa using c)
 rwa [IR,IR] at this
theorem RD(lv:Value)(l:List Ver)(n s:Int)(hs:Yx l)(b3:l.length<1000000)(w:World)(y:VRow w lv l) :
 Calls Tryz.prog 177 #[lv,.agg #[.int .i64 n,.int .i64 s],.func (.func 178) #[] #[]] w fun e c =>
  ∃ b:Bool,e=.returned (.tuple #[.int .i64 (low zA (l.map Ver.dot) (n,s)),.bool b])/\Fr Nil w c:=by
 obtain⟨a,V,rfl⟩:=zg y;have HL:=Z y;clear y;have D:Blk (w.alloc (.cells #[.int .i64 n,.int .i64 s] 34)) w.heap.size [.int .i64 n,.int .i64 s] 34:=Blk.new w [.int .i64 n,.int .i64 s] _;have A:Fr Nil w (w.alloc (.cells #[.int .i64 n,.int .i64 s] 34)):=(U _ _).alloc _;go_enter Tryz.func177,Tryz.ntmps177
 go_wp2
 generalize w.alloc (.cells #[.int .i64 n,.int .i64 s] 34)=w0 at D A |-;generalize w.heap.size=N at D |-
 go_loopw [9,10] (fun ti tj c=>∃ i j:Nat,i<=j/\j<=l.length/\ti=.int .i64 i/\tj=.int .i64 j/\(∀ k (t:k<l.length),k<i->zA l[k].dot (n,s)=true)/\(∀ k (t:k<l.length),j<=k->zA l[k].dot (n,s)=false)/\Fr Nil w0 c) (fun ti tj _=>(intOf tj).toNat-(intOf ti).toNat)
 case atStart=>exact⟨0,l.length,II _,Io _,rfl,rfl,fun k _ t=>absurd t (Hj _),fun k t b1=>absurd t (by omega),U _ _⟩
 case round =>
  obtain⟨i,j,Y,hj,rfl,rfl,h1,h2,G⟩:=hrel;by_cases b2:i<j
  .obtain⟨g,rfl⟩:∃ g,a=some ⟨g,0,none⟩:=by
    obtain⟨g,V,h,_⟩:=zv HL.out (by omega);simp at h;exact⟨g,h.1⟩
   have hm:(i+j) / 2<l.length:=by omega
   have Q:Hid (∀ c,Fr Nil wr c->∀ k,k<8->c.cell? ⟨g,(i+j) / 2*8+k,none⟩=l[(i+j) / 2].cells[k]?):=fun c f k t=>VRow.cells (ze (S:=Nil) HL.out ((A.trans G).trans f) (fun _ _=>id)) _ hm k t;have HX:Hid (∀ c,Fr Nil wr c->c.cell? ⟨N,0,none⟩=some (.int .i64 n)/\c.cell? ⟨N,1,none⟩=some (.int .i64 s)):=by
    intro c f;have hu:=((D.fr G id).fr f id).cell;exact⟨by rw[hu];rfl,by rw[hu];rfl⟩
   have H1:=Z h1;have H2:=Z h2;clear h1 h2;have a4:(i:Int)<=1000000:=by omega
   have a5:(j:Int)<=1000000:=by omega
   have a6:(i:Int)+j<=9223372036854775807:=by omega
   have hq:(((i:Int)+j) / 2).toNat=(i+j) / 2:=by omega
   have q:Hid (zA l[(i+j) / 2].dot (n,s)=true->∀ k (t:k<l.length),k<(i+j) / 2+1->zA l[k].dot (n,s)=true):=by
    intro y k t R;by_cases e:k=(i+j) / 2
    .subst e;exact y
    .exact Y4.trans _ _ _ (hs.get (i:=k) (j:=(i+j) / 2) (by omega) hm) y
   have r:Hid (zA l[(i+j) / 2].dot (n,s)=false->∀ k (t:k<l.length),(i+j) / 2<=k->zA l[k].dot (n,s)=false):=by
    intro y k t R;by_cases e:k=(i+j) / 2
    .subst e;exact y
    .cases hk2:zA l[k].dot (n,s) with
     | false=>rfl
     | true =>
      have:=Y4.trans _ _ _ (hs.get (i:=(i+j) / 2) (j:=k) (by omega) t) hk2;rw[y] at this;cases this
   generalize l[(i+j) / 2]=x at Q q r;obtain⟨node,p,J,K,L,M,d,m⟩:=x;have T:=Z (UI ⟨node,p,J,K,L,M,d,m⟩ n s);simp only[Ver.cells,Ver.dot] at Q q r T;have C:Hid (∀ c,Fr Nil wr c->c.cell? ⟨g,(i+j) / 2*8,none⟩=some (.int .i64 node)/\c.cell? ⟨g,(i+j) / 2*8+1,none⟩=some (.int .i64 p)/\c.cell? ⟨g,(i+j) / 2*8+2,none⟩=some (.int .i64 J)/\c.cell? ⟨g,(i+j) / 2*8+3,none⟩=some (.int .i64 K)/\c.cell? ⟨g,(i+j) / 2*8+4,none⟩=some (.int .i64 L)/\c.cell? ⟨g,(i+j) / 2*8+5,none⟩=some (.int .i64 M)/\c.cell? ⟨g,(i+j) / 2*8+6,none⟩=some (.string d)/\c.cell? ⟨g,(i+j) / 2*8+7,none⟩=some (.bool m)/\c.cell? ⟨N,0,none⟩=some (.int .i64 n)/\c.cell? ⟨N,1,none⟩=some (.int .i64 s)):=by
    intro c f;have u:=Q.out c f;have X:=HX.out c f;exact⟨u 0 (by omega),u 1 (by omega),u 2 (by omega),u 3 (by omega),u 4 (by omega),u 5 (by omega),u 6 (by omega),u 7 (by omega),X.1,X.2⟩
   have hS:=C.out wr (U _ _);clear Y;have a7:(0:Int)<=((i:Int)+j) / 2:=by omega
   have a8:((i:Int)+j) / 2<l.length:=by omega
   cases y:zA (node,p) (n,s) with
   | true =>
    have a1:Sk (node,p) (n,s)<0:=QR.2 y;have H3:=Z (q.out y);clear y;go_wp2_with fail
    go_region_held3 (fun c=>c.cell? ⟨g,(i+j) / 2*8,none⟩=some (.int .i64 node)/\c.cell? ⟨g,(i+j) / 2*8+1,none⟩=some (.int .i64 p)/\c.cell? ⟨g,(i+j) / 2*8+2,none⟩=some (.int .i64 J)/\c.cell? ⟨g,(i+j) / 2*8+3,none⟩=some (.int .i64 K)/\c.cell? ⟨g,(i+j) / 2*8+4,none⟩=some (.int .i64 L)/\c.cell? ⟨g,(i+j) / 2*8+5,none⟩=some (.int .i64 M)/\c.cell? ⟨g,(i+j) / 2*8+6,none⟩=some (.string d)/\c.cell? ⟨g,(i+j) / 2*8+7,none⟩=some (.bool m)/\c.cell? ⟨N,0,none⟩=some (.int .i64 n)/\c.cell? ⟨N,1,none⟩=some (.int .i64 s)) (first|assumption|exact C.out _ zd)
     (first
     | (go_at_call 178;refine(T.out _).mono ?_;rintro e O ⟨rfl,B⟩;have o:Fr Nil wr O:=Fr.trans zd B;have a0:=C.out O o))
    go_wp2
    exact⟨⟨(i+j) / 2+1,j,by omega,hj,by go_num,rfl,H3.out,H2.out,G.trans o⟩,by simp[intOf];omega⟩
   | false =>
    have a1:¬Sk (node,p) (n,s)<0:=by rw[QR];simp[y]
    have H3:=Z (r.out y);clear y;go_wp2_with fail
    go_region_held3 (fun c=>c.cell? ⟨g,(i+j) / 2*8,none⟩=some (.int .i64 node)/\c.cell? ⟨g,(i+j) / 2*8+1,none⟩=some (.int .i64 p)/\c.cell? ⟨g,(i+j) / 2*8+2,none⟩=some (.int .i64 J)/\c.cell? ⟨g,(i+j) / 2*8+3,none⟩=some (.int .i64 K)/\c.cell? ⟨g,(i+j) / 2*8+4,none⟩=some (.int .i64 L)/\c.cell? ⟨g,(i+j) / 2*8+5,none⟩=some (.int .i64 M)/\c.cell? ⟨g,(i+j) / 2*8+6,none⟩=some (.string d)/\c.cell? ⟨g,(i+j) / 2*8+7,none⟩=some (.bool m)/\c.cell? ⟨N,0,none⟩=some (.int .i64 n)/\c.cell? ⟨N,1,none⟩=some (.int .i64 s)) (first|assumption|exact C.out _ zd)
     (first
     | (go_at_call 178;refine(T.out _).mono ?_;rintro e O ⟨rfl,B⟩;have o:Fr Nil wr O:=Fr.trans zd B;have a0:=C.out O o))
    go_wp2
    exact⟨⟨i,(i+j) / 2,by omega,by omega,rfl,by go_num,H1.out,H3.out,G.trans o⟩,by simp[intOf];omega⟩
  .have he:i=j:=by omega
   subst he;have I:low zA (l.map Ver.dot) (n,s)=i:=Vn zA _ _ i (by simpa using hj) (fun k t R=>by rw[IR];exact h1 k (by simpa using t) R) (fun t=>by rw[IR];exact h2 i (by simpa using t) (Io _));have E:=Z I;clear I h1 h2 Y;by_cases a3:i<l.length
   .obtain⟨g,rfl⟩:∃ g,a=some ⟨g,0,none⟩:=by
     obtain⟨g,V,h,_⟩:=zv HL.out (by omega);simp at h;exact⟨g,h.1⟩
    have Q:Hid (∀ c,Fr Nil wr c->∀ k,k<8->c.cell? ⟨g,i*8+k,none⟩=l[i].cells[k]?):=fun c f k t=>VRow.cells (ze (S:=Nil) HL.out ((A.trans G).trans f) (fun _ _=>id)) _ a3 k t;have HX:Hid (∀ c,Fr Nil wr c->c.cell? ⟨N,0,none⟩=some (.int .i64 n)/\c.cell? ⟨N,1,none⟩=some (.int .i64 s)):=by
     intro c f;have hu:=((D.fr G id).fr f id).cell;exact⟨by rw[hu];rfl,by rw[hu];rfl⟩
    generalize l[i]=x at Q;obtain⟨node,p,J,K,L,M,d,m⟩:=x;have T:=Z (UI ⟨node,p,J,K,L,M,d,m⟩ n s);simp only[Ver.cells,Ver.dot] at Q T;have C:Hid (∀ c,Fr Nil wr c->c.cell? ⟨g,i*8,none⟩=some (.int .i64 node)/\c.cell? ⟨g,i*8+1,none⟩=some (.int .i64 p)/\c.cell? ⟨g,i*8+2,none⟩=some (.int .i64 J)/\c.cell? ⟨g,i*8+3,none⟩=some (.int .i64 K)/\c.cell? ⟨g,i*8+4,none⟩=some (.int .i64 L)/\c.cell? ⟨g,i*8+5,none⟩=some (.int .i64 M)/\c.cell? ⟨g,i*8+6,none⟩=some (.string d)/\c.cell? ⟨g,i*8+7,none⟩=some (.bool m)/\c.cell? ⟨N,0,none⟩=some (.int .i64 n)/\c.cell? ⟨N,1,none⟩=some (.int .i64 s)):=by
     intro c f;have u:=Q.out c f;have X:=HX.out c f;exact⟨u 0 (by omega),u 1 (by omega),u 2 (by omega),u 3 (by omega),u 4 (by omega),u 5 (by omega),u 6 (by omega),u 7 (by omega),X.1,X.2⟩
    have hS:=C.out wr (U _ _);have a2:decide ((i:Int)<(l.length:Int))=true:=by simp;omega
    have a9:(i:Int)<(l.length:Int):=by omega
    have b0:(0:Int)<=(i:Int):=by omega
    go_wp2_with fail
    go_region_held3 (fun c=>c.cell? ⟨g,i*8,none⟩=some (.int .i64 node)/\c.cell? ⟨g,i*8+1,none⟩=some (.int .i64 p)/\c.cell? ⟨g,i*8+2,none⟩=some (.int .i64 J)/\c.cell? ⟨g,i*8+3,none⟩=some (.int .i64 K)/\c.cell? ⟨g,i*8+4,none⟩=some (.int .i64 L)/\c.cell? ⟨g,i*8+5,none⟩=some (.int .i64 M)/\c.cell? ⟨g,i*8+6,none⟩=some (.string d)/\c.cell? ⟨g,i*8+7,none⟩=some (.bool m)/\c.cell? ⟨N,0,none⟩=some (.int .i64 n)/\c.cell? ⟨N,1,none⟩=some (.int .i64 s)) (first|assumption|exact C.out _ zd)
     (first
     | (go_at_call 178;refine(T.out _).mono ?_;rintro e O ⟨rfl,B⟩;have o:Fr Nil wr O:=Fr.trans zd B;have a0:=C.out O o))
    go_wp2
    go_ret2;rw[E.out];exact⟨_,rfl,(A.trans G).trans o⟩
   .have a2:decide ((i:Int)<(l.length:Int))=false:=by simp;omega
    go_wp2_with fail
    go_quiet (fail)
    go_wp2
    go_ret2;rw[E.out];exact⟨_,rfl,Fr.drewN (A.trans G) _⟩
def withV(l:List Ver)(v:Ver):List Ver:=l.take (low zA (l.map Ver.dot) v.dot)++[v]++l.drop (low zA (l.map Ver.dot) v.dot)
theorem Mb(l:List Ver)(i:Nat):(zV l).take (i*8)=zV (l.take i):=by
 rcases EJ i l.length with h|h
 .have e:=YM (l.take i) (l.drop i)
  rw[IG] at e;rw[e];exact Gb (by rw[Xv,Ip,Hx h])
 .rw[IH h,IH (by rw[Xv];omega)]
theorem Mc(l:List Ver)(i:Nat):(zV l).drop (i*8)=zV (l.drop i):=by
 rcases EJ i l.length with h|h
 .have e:=YM (l.take i) (l.drop i)
  rw[IG] at e;rw[e];exact CL (by rw[Xv,Ip,Hx h])
 .rw[Hn h,Hn (by rw[Xv];omega)]
  rfl
theorem Md(l:List Ver)(v:Ver):Y3 8 (low zA (l.map Ver.dot) v.dot) (zV l) v.cells=zV (withV l v):=by
 unfold Y3 withV;rw[Mb,Mc,YM,YM];simp[zV]
theorem Uh(l:List Ver)(v:Ver):(withV l v).length=l.length+1:=by
 have:=Vm zA (l.map Ver.dot) v.dot;simp only[IE] at this;simp only[withV,Il,Ip,Iw,Ix];omega
theorem Vh.row{a r w':World}{q:Value}{l:List Ver}{v:Ver}{e:Ending}(h:Vh r q.ownBlock l.length (low zA (l.map Ver.dot) v.dot) (zV l) v.cells e w')(d:Fr Nil a r)(j:∀ k,q.ownBlock=some k->a.heap.size<=k) :
 ∃ c,e=.returned c/\VRow w' c (withV l v)/\Fr Nil a w'/\(∀ k,c.ownBlock=some k->a.heap.size<=k):=by
 obtain⟨g,s,rfl,o,b,t⟩:=h;rw[Md] at o;refine⟨_,rfl,?_,d.trans' b (fun i u h=>absurd (j i h) (by omega)),fun k f=>?_⟩
 .unfold VRow
  rw[Uh];exact o
 .simp[Value.ownBlock] at f
  subst f;rcases t with h|h
  .exact j _ h
  .have:=d.size;omega
theorem Me(K:Value)(l:List Ver)(v:Ver)(hs:Yx l)(a0:l.length<1000000)(w:World)(Y:VRow w K l) :
 Calls Tryz.prog 142 #[K,.agg v.cells.toArray] w fun e g=>∃ v',e=.returned v'/\VRow g v' (withV l v)/\Fr Nil w g/\(∀ k,v'.ownBlock=some k->w.heap.size<=k):=by
 obtain⟨node,d,i,j,m,o,a,c⟩:=v;have y:=Vm zA (l.map Ver.dot) (node,d);simp only[IE] at y;have O:=Z y;clear y;have hb:Blk (w.alloc (.cells #[.int .i64 node,.int .i64 d,.int .i64 i,.int .i64 j,.int .i64 m,.int .i64 o,.string a,.bool c] 37)) w.heap.size [.int .i64 node,.int .i64 d,.int .i64 i,.int .i64 j,.int .i64 m,.int .i64 o,.string a,.bool c] 37:=Blk.new w [.int .i64 node,.int .i64 d,.int .i64 i,.int .i64 j,.int .i64 m,.int .i64 o,.string a,.bool c] _;have u:Fr Nil w (w.alloc (.cells #[.int .i64 node,.int .i64 d,.int .i64 i,.int .i64 j,.int .i64 m,.int .i64 o,.string a,.bool c] 37)):=(U _ _).alloc _;simp only[Ver.cells];have HS:=Z (RD K l node d hs a0 _ (VRow.fr Y u (fun _ _=>id)));have HL:=Z Y;clear Y hs;go_enter Tryz.func142,Tryz.ntmps142;go_wp2_with fail;refine HS.out.mono ?_;rintro e q ⟨b,rfl,x⟩;have t:=hb.fr x id;have h:=u.trans x;clear hb u HS x;go_wp2_with fail;generalize w.heap.size=N at t |-;have L:Hid (∀ g,Fr Nil q g->g.cell? ⟨N,0,none⟩=some (.int .i64 node)/\g.cell? ⟨N,1,none⟩=some (.int .i64 d)/\g.cell? ⟨N,2,none⟩=some (.int .i64 i)/\g.cell? ⟨N,3,none⟩=some (.int .i64 j)/\g.cell? ⟨N,4,none⟩=some (.int .i64 m)/\g.cell? ⟨N,5,none⟩=some (.int .i64 o)/\g.cell? ⟨N,6,none⟩=some (.string a)/\g.cell? ⟨N,7,none⟩=some (.bool c)):=by
  intro g f;have s:=(t.fr f id).cell;exact⟨by rw[s];rfl,by rw[s];rfl,by rw[s];rfl,by rw[s];rfl,by rw[s];rfl,by rw[s];rfl,by rw[s];rfl,by rw[s];rfl⟩
 have hK:=L.out q (U _ _);have M:Hid (∀ g,Fr Nil q g->VRow g K l):=fun g f=>VRow.fr HL.out (h.trans f) (fun _ _=>id);clear t
 go_region_held3 (fun g=>g.cell? ⟨N,0,none⟩=some (.int .i64 node)/\g.cell? ⟨N,1,none⟩=some (.int .i64 d)/\g.cell? ⟨N,2,none⟩=some (.int .i64 i)/\g.cell? ⟨N,3,none⟩=some (.int .i64 j)/\g.cell? ⟨N,4,none⟩=some (.int .i64 m)/\g.cell? ⟨N,5,none⟩=some (.int .i64 o)/\g.cell? ⟨N,6,none⟩=some (.string a)/\g.cell? ⟨N,7,none⟩=some (.bool c)) (first|assumption|exact L.out _ zd)
  (first
  | (go_at_call 181;refine(RC v2 l.length (low zA (l.map Ver.dot) (node,d)) (zV l) [.int .i64 node,.int .i64 d,.int .i64 i,.int .i64 j,.int .i64 m,.int .i64 o,.string a,.bool c] _ _ (ze (S:=Nil) B.out zd (fun _ _=>id)) (Wc l) O.out rfl (Wc [⟨node,d,i,j,m,o,a,c⟩]) (by first|exact J|exact J.drew|exact Blk.new _ [_,_,_,_,_,_,_,_] _|exact(Blk.new _ [_,_,_,_,_,_,_,_] _).drew) (by first|exact T.out|exact(fun e=>absurd (own_lt B.out e) (by simp))) (by omega)).mono ?_;rintro e w3 hI;have HI:=Z hI;clear hI;obtain⟨v3,rfl,I,D,E⟩:=Vh.row (v:=⟨node,d,i,j,m,o,a,c⟩) HI.out (show Fr Nil q _ from r.trans zd) Q.out;have a2:=L.out w3 D;have V:=Z I;have R:=Z E;clear I E)
  | (go_at_call 75;refine(Ug K l.length (zV l) _ (M.out _ zd) (Wc l) (by omega)).mono ?_;rintro e w2 ⟨v2,rfl,G,C,A⟩;have r:Fr Nil q w2:=Fr.trans zd C;have a1:=L.out w2 r;have B:=Z G;(try (have J:Blk w2 q.heap.size [.int .i64 node,.int .i64 d,.int .i64 i,.int .i64 j,.int .i64 m,.int .i64 o,.string a,.bool c] 37:=Blk.fr (S:=Nil) ((Blk.new q [.int .i64 node,.int .i64 d,.int .i64 i,.int .i64 j,.int .i64 m,.int .i64 o,.string a,.bool c] 37).drew) C id;have T:Hid (v2.ownBlock≠some q.heap.size):=(fun e=>absurd (A _ e) (by simp))));have Q:Hid (∀ k,v2.ownBlock=some k->q.heap.size<=k):=(fun k X=>Im (Fr.size (S:=Nil) zd) (A k X));clear G A))
 all_goals
  go_wp2
  go_ret;exact⟨_,rfl,V.out,h.trans D,fun k X=>Im h.size (R.out k X)⟩
abbrev Keys:=List (ByteArray × List Ver)
def YH(K:Keys):Prop:=Asc zh (K.map Prod.fst)
theorem Yb{a b:ByteArray}(h:zh a b=true):a≠b:=fun e=>by rw[e,Zi.xx] at h;cases h
theorem SR{K:Keys}{key:ByteArray}:∀ x∈K.take (low zh (K.map Prod.fst) key),zh x.1 key=true:=by
 intro x d;obtain⟨j,c,rfl⟩:=Fb d;rw[Ip] at c;have a:j<(K.map Prod.fst).length:=by rw[IE];omega
 have:=Tu (lt:=zh) (l:=K.map Prod.fst) (b:=key) (k:=j) a (by omega);rw[IR] at this;rw[DQ];exact this
theorem SS{K:Keys}{key:ByteArray}(h:YH K):∀ x∈K.drop (if zZ zh (K.map Prod.fst) key=true then low zh (K.map Prod.fst) key+1 else low zh (K.map Prod.fst) key),zh key x.1=true:=by
 intro x m;obtain⟨j,d,rfl⟩:=Fb m;rw[Iw] at d;rw[Gd];rcases GO (low zh (K.map Prod.fst) key) (K.map Prod.fst).length with f|f
 .have hge:=Tv f
  have k:low zh (K.map Prod.fst) key<K.length:=by simpa using f
  have c:=XL (lt:=zh) (b:=key) k rfl;rw[IR] at hge;by_cases a:zZ zh (K.map Prod.fst) key=true
  .rw[a] at c
   have g:=Z4.1 c.symm;simp only[a,Gh] at d |-;have:=Asc.fst h (i:=low zh (K.map Prod.fst) key) (j:=low zh (K.map Prod.fst) key+1+j) (by omega) (by omega);rw[g] at this;exact this
  .have a:zZ zh (K.map Prod.fst) key=false:=by simpa using a
   rw[a] at c;have g:K[low zh (K.map Prod.fst) key].1≠key:=fun e=>by rw[Z4.2 e] at c;cases c
   have l:=Zi.xK _ _ hge g;simp only[a,Gx,Hy] at d |-;rcases Fz j with e|e
   .subst e;exact l
   .exact Zi.trans _ _ _ l (Asc.fst h (i:=low zh (K.map Prod.fst) key) (j:=low zh (K.map Prod.fst) key+j) (by omega) (by omega))
 .rw[IE] at f
  exfalso
  have:=d;split at this <;> omega
theorem VC{K:Keys}{key:ByteArray}(a:zZ zh (K.map Prod.fst) key=true):∃ l,K=K.take (low zh (K.map Prod.fst) key)++(key,l)::K.drop (low zh (K.map Prod.fst) key+1)/\zl K key=l:=by
 rcases GO (low zh (K.map Prod.fst) key) K.length with c|c
 .have he:=XL (lt:=zh) (b:=key) c rfl
  rw[a] at he;have d:=Z4.1 he.symm;refine⟨K[low zh (K.map Prod.fst) key].2,?_,?_⟩
  .have e2:(key,K[low zh (K.map Prod.fst) key].2)=K[low zh (K.map Prod.fst) key]:=by rw[<- Prod.eta K[low zh (K.map Prod.fst) key],d]
   rw[e2,List.getElem_cons_drop,IG]
  .unfold zl
   rw[IC a,Hl,IB c]
   rfl
 .rw[WE (by simpa using c)] at a
  cases a
def ZH(K:Keys)(key:ByteArray):List Ver:=match K.find? (fun e=>e.1==key) with|some e=>e.2|none=>[]
theorem ST{K:Keys}{key:ByteArray}(h:∀ x∈K,x.1≠key):K.find? (fun e=>e.1==key)=none:=by
 rw[Em];intro x a;have:=h x a;intro e;exact this (Z4.1 e)
theorem WO{K:Keys}(key:ByteArray)(h:YH K):ZH K key=zl K key:=by
 have c:∀ x∈K.take (low zh (K.map Prod.fst) key),x.1≠key:=fun x a=>Yb (SR x a);have b:=SS (key:=key) h;cases ha:zZ zh (K.map Prod.fst) key with
 | true =>
  obtain⟨l,d,i⟩:=VC ha;rw[i];unfold ZH;have:K.find? (fun e=>e.1==key)=some (key,l):=by
   rw[d,List.find?_append,ST c];simp[Z4.2 rfl]
  rw[this]
 | false =>
  have f:zl K key=[]:=by unfold zl;rw[It (by rw[ha];decide)]
  rw[f];rw[ha] at b;simp only[Gx,Hy] at b;unfold ZH;have:K.find? (fun e=>e.1==key)=none:=by
   rw[<- IG (low zh (K.map Prod.fst) key) K];refine ST fun x a=>?_;rcases Ir.1 a with a|a
   .exact c x a
   .exact(Yb (b x a)).symm
  rw[this]
def zU(key:ByteArray)(l:List Ver)(st:Keys × Bool)(e:ByteArray × List Ver):Keys × Bool :=
 (((if st.2=false/\zh e.1 key=false then st.1++[(key,l)] else st.1)++if e.1=key then [] else [e]),st.2||!zh e.1 key)
def zX(K:Keys)(key:ByteArray)(l:List Ver):Keys :=
 (K.foldl (zU key l) ([],l.isEmpty)).1++if (K.foldl (zU key l) ([],l.isEmpty)).2=true then [] else [(key,l)]
theorem Wg(key:ByteArray)(l:List Ver):∀ (K out:Keys),(∀ x∈K,x.1≠key)->K.foldl (zU key l) (out,true)=(out++K,true)
 | [],out,_=>by simp
 | e::K,out,h=>by
  have a:e.1≠key:=h e (Is ..);have:zU key l (out,true) e=(out++[e],true):=by simp[zU,a]
  rw[Hk,this,Wg key l K _ (fun x b=>h x (Iq _ b))];simp
theorem VD(key:ByteArray)(l:List Ver)(b:Bool):∀ (K out:Keys),(∀ x∈K,zh x.1 key=true)->K.foldl (zU key l) (out,b)=(out++K,b)
 | [],out,_=>by simp
 | e::K,out,h=>by
  have a:=h e (Is ..);have c:e.1≠key:=Yb a;have:zU key l (out,b) e=(out++[e],b):=by simp[zU,a,c]
  rw[Hk,this,VD key l b K _ (fun x d=>h x (Iq _ d))];simp
theorem Ls(key:ByteArray)(l:List Ver)(K out:Keys)(h:∀ x∈K,zh key x.1=true) :
 K.foldl (zU key l) (out,false)=(if K=[] then(out,false) else(out++(key,l)::K,true)):=by
 cases K with
 | nil=>rfl
 | cons e K =>
  have a:=h e (Is ..);have d:e.1≠key:=fun x=>Yb a x.symm;have c:zh e.1 key=false:=Zi.xy a;have:zU key l (out,false) e=(out++[(key,l)]++[e],true):=by simp[zU,c,d]
  rw[Hk,this,Wg key l K _ (fun x f=>fun b=>Yb (h x (Iq _ f)) b.symm)];simp
theorem Y5{K:Keys}(key:ByteArray)(l:List Ver)(h:YH K):zX K key l=if l=[] then YL K key else ZU K key l:=by
 have j:=SR (K:=K) (key:=key);have a:=SS (key:=key) h;cases ha:zZ zh (K.map Prod.fst) key with
 | true =>
  obtain⟨k,e,_⟩:=VC ha;rw[ha] at a;simp only[Gh] at a;have f:YL K key=K.take (low zh (K.map Prod.fst) key)++K.drop (low zh (K.map Prod.fst) key+1):=by unfold YL;rw[IC ha]
  have g:ZU K key l=K.take (low zh (K.map Prod.fst) key)++[(key,l)]++K.drop (low zh (K.map Prod.fst) key+1):=by unfold ZU;rw[IC ha]
  rw[f,g];generalize K.take (low zh (K.map Prod.fst) key)=A at *;generalize K.drop (low zh (K.map Prod.fst) key+1)=C at *;subst e;unfold zX;rw[Hm,VD key l _ A [] j,Hk];have b:zh key key=false:=Zi.xx key;have d:∀ x∈C,x.1≠key:=fun x i=>(Yb (a x i)).symm;cases l with
  | nil =>
   have:zU key [] ([]++A,List.isEmpty ([]:List Ver)) (key,k)=(A,true):=by simp[zU,b]
   rw[this,Wg key _ C A d];simp
  | cons v l =>
   have:zU key (v::l) ([]++A,List.isEmpty (v::l)) (key,k)=(A++[(key,v::l)],true):=by simp[zU,b]
   rw[this,Wg key _ C _ d];simp
 | false =>
  rw[ha] at a;simp only[Gx,Hy] at a;have f:YL K key=K:=by unfold YL;rw[It (by rw[ha];decide)]
  have g:ZU K key l=K.take (low zh (K.map Prod.fst) key)++[(key,l)]++K.drop (low zh (K.map Prod.fst) key):=by unfold ZU;rw[It (by rw[ha];decide)]
  have e:K=K.take (low zh (K.map Prod.fst) key)++K.drop (low zh (K.map Prod.fst) key):=(IG _ _).symm;rw[f,g];generalize K.take (low zh (K.map Prod.fst) key)=A at *;generalize K.drop (low zh (K.map Prod.fst) key)=C at *;subst e;have d:∀ x∈C,x.1≠key:=fun x i=>(Yb (a x i)).symm;unfold zX;rw[Hm,VD key l _ A [] j];cases l with
  | nil =>
   rw[show List.isEmpty ([]:List Ver)=true from rfl,Wg key _ C _ d];simp
  | cons v l =>
   rw[show List.isEmpty (v::l)=false from rfl,Ls key _ C _ a];cases C with
   | nil=>simp
   | cons c C=>simp
def YC(v:Ver)(st:List Ver × Bool)(u:Ver):List Ver × Bool :=
 (((if zA v.dot u.dot=true/\st.2=false then st.1++[v] else st.1)++if v.over u=true then [] else [u]),st.2||zA v.dot u.dot)
def Sl(l:List Ver)(v:Ver):List Ver :=
 (l.foldl (YC v) ([],v.gone)).1++if (l.foldl (YC v) ([],v.gone)).2=true then [] else [v]
theorem UY(v:Ver):∀ (l out:List Ver),l.foldl (YC v) (out,true)=(out++zC l v,true)
 | [],out=>by simp[zC]
 | u::l,out=>by
  have:YC v (out,true) u=(out++if v.over u=true then [] else [u],true):=by simp[YC]
  rw[Hk,this,UY v l];unfold zC;cases h:v.over u <;> simp[h]
theorem SU(v:Ver)(b:Bool):∀ (l out:List Ver),(∀ u∈l,zA v.dot u.dot=false)->l.foldl (YC v) (out,b)=(out++zC l v,b)
 | [],out,_=>by simp[zC]
 | u::l,out,h=>by
  have a:=h u (Is ..);have:YC v (out,b) u=(out++if v.over u=true then [] else [u],b):=by simp[YC,a]
  rw[Hk,this,SU v b l _ (fun x c=>h x (Iq _ c))];unfold zC;cases h:v.over u <;> simp[h]
theorem QS(a b:List Ver)(v:Ver):zC (a++b) v=zC a v++zC b v:=by simp[zC]
theorem KC(A C:List Ver)(v:Ver)(d:∀ u∈A,zA u.dot v.dot=true)(e:∀ u∈C,zA v.dot u.dot=true):withV (A++C) v=A++[v]++C:=by
 have g:low zA ((A++C).map Ver.dot) v.dot=A.length:=by
  refine Vn zA v.dot _ _ (by simp) (fun k c a=>?_) (fun c=>?_)
  .rw[IR,Gk a]
   exact d _ (Iu _)
  .have hc:A.length<(A++C).length:=by simpa using c
   have f:0<C.length:=by simp at hc;omega
   rw[IR,ER (Io _)];exact Y4.xy (e _ (Iu _))
 unfold withV;rw[g];simp
theorem Nh{l:List Ver}(v:Ver)(h:Yx l)(D:∀ u∈l,u.dot≠v.dot):Sl l v=if v.gone=true then zC l v else withV (zC l v) v:=by
 unfold Sl;cases hg:v.gone with
 | true=>rw[UY];simp
 | false =>
  have B:l=l.take (low zA (l.map Ver.dot) v.dot)++l.drop (low zA (l.map Ver.dot) v.dot):=(IG _ _).symm;have f:∀ u∈l.take (low zA (l.map Ver.dot) v.dot),zA u.dot v.dot=true:=by
   intro u a;obtain⟨j,o,rfl⟩:=Fb a;rw[Ip] at o;have f:j<(l.map Ver.dot).length:=by rw[IE];omega
   have:=Tu (lt:=zA) (l:=l.map Ver.dot) (b:=v.dot) (k:=j) f (by omega);rw[IR] at this;rw[DQ];exact this
  have r:∀ u∈l.drop (low zA (l.map Ver.dot) v.dot),zA v.dot u.dot=true:=by
   intro u a;obtain⟨j,o,rfl⟩:=Fb a;rw[Iw] at o;rw[Gd];have p:low zA (l.map Ver.dot) v.dot<l.length:=by omega
   have d:=Tv (lt:=zA) (l:=l.map Ver.dot) (b:=v.dot) (by simpa using p);rw[IR] at d;have q:=Y4.xK _ _ d (D _ (Iu _));rcases Fz j with e|e
   .subst e;exact q
   .exact Y4.trans _ _ _ q (h.get (i:=low zA (l.map Ver.dot) v.dot) (j:=low zA (l.map Ver.dot) v.dot+j) (by omega) (by omega))
  generalize l.take (low zA (l.map Ver.dot) v.dot)=A at *;generalize l.drop (low zA (l.map Ver.dot) v.dot)=C at *;subst B;have s:∀ u∈A,zA v.dot u.dot=false:=fun u a=>Y4.xy (f u a);have t:∀ u∈zC A v,zA u.dot v.dot=true:=fun u a=>f u ((FJ.1 a).1);have x:∀ u∈zC C v,zA v.dot u.dot=true:=fun u a=>r u ((FJ.1 a).1);rw[Hm,SU v false A [] s,QS];simp only[Gx,Hy];rw[KC _ _ v t x];cases C with
  | nil=>simp[zC]
  | cons c C =>
   have y:=r c (Is ..);have:YC v ([]++zC A v,false) c=(zC A v++[v]++(if v.over c=true then [] else [c]),true):=by simp[YC,y]
   rw[Hk,this,UY];cases ho:v.over c <;> simp[zC,ho]
def ZV(n s y:Int):Bool:=zO n&&decide (1000<=s/\s<=1000000/\0<=y/\y<=100)
theorem Vq(n s y:Int)(w:World):Calls Tryz.prog 93 #[.agg #[.int .i64 n,.int .i64 s,.int .i64 y]] w fun e t=>e=.returned (.bool (ZV n s y))/\Fr Nil w t:=by
 have l:=Blk.new w [.int .i64 n,.int .i64 s,.int .i64 y] 102;have k:Fr Nil w (w.alloc (.cells #[.int .i64 n,.int .i64 s,.int .i64 y] 102)):=(U _ _).alloc _;have f:=Z l;have g:=Z k;clear l k;go_enter Tryz.func93,Tryz.ntmps93;go_wp2_with fail;generalize c:w.alloc (.cells #[.int .i64 n,.int .i64 s,.int .i64 y] 102)=u;rw[c] at f g;clear c;have r:=f.out.cell;generalize w.heap.size=b at f r |-;have d:=Z (WN n u);cases h1:zO n with
 | false =>
  rw[h1] at d;have a:ZV n s y=false:=by unfold ZV;rw[h1];rfl
  have h:=Z a;clear h1 a
  go_wp2_with (refine d.out.mono ?_;rintro e j ⟨rfl,i⟩;subst j)
  go_ret;exact⟨by rw[h.out];rfl,g.out⟩
 | true =>
  rw[h1] at d;have a:ZV n s y=decide (1000<=s/\s<=1000000/\0<=y/\y<=100):=by unfold ZV;rw[h1];rfl
  have h:=Z a;clear h1 a;by_cases m:1000<=s <;> by_cases o:s<=1000000 <;> by_cases p:0<=y <;> by_cases q:y<=100
  all_goals first
   | (exfalso;omega)
   | (
   go_wp2_with (refine d.out.mono ?_;rintro e j ⟨rfl,i⟩;subst j)
   go_ret;exact⟨by rw[h.out];simp[m,o,p,q],g.out⟩)
def Zf(o:Int):Bool:=decide (0<=o/\o<=1000000000)
def Ver.AO(v:Ver):List Int:=[v.o0,v.o1,v.o2,v.o3]
def foreign(self:Nat)(v:Ver):Bool :=
 v.AO.all Zf&&(!(v.gone&&decide (v.value.size≠0))&&((zO v.node&&decide (v.node≠self))&&decide (1<=v.seq/\v.seq<=1000000000)))
theorem Mf(a b c d:Int):(∀ w,(Instr.index 35 (.agg #[.int .i64 a,.int .i64 b,.int .i64 c,.int .i64 d]) (.int .i64 0)).run Tryz.prog w=.ok (.int .i64 a) w)/\(∀ w,(Instr.index 35 (.agg #[.int .i64 a,.int .i64 b,.int .i64 c,.int .i64 d]) (.int .i64 1)).run Tryz.prog w=.ok (.int .i64 b) w)/\(∀ w,(Instr.index 35 (.agg #[.int .i64 a,.int .i64 b,.int .i64 c,.int .i64 d]) (.int .i64 2)).run Tryz.prog w=.ok (.int .i64 c) w)/\(∀ w,(Instr.index 35 (.agg #[.int .i64 a,.int .i64 b,.int .i64 c,.int .i64 d]) (.int .i64 3)).run Tryz.prog w=.ok (.int .i64 d) w) :=
 ⟨fun _=>by kernel_rfl,fun _=>by kernel_rfl,fun _=>by kernel_rfl,fun _=>by kernel_rfl⟩
theorem TC(L:NL)(N:NM)(M:DM)(v:Ver)(w:World)(h:NRep w L N M) :
 Calls Tryz.prog 139 #[.pointer (some ⟨L.nb,0,none⟩),.agg v.cells.toArray] w fun e Q=>e=.returned (.bool (foreign N.self v))/\Fr Nil w Q:=by
 have R:=Blk.new w v.cells 37;have K:Fr Nil w (w.alloc (.cells v.cells.toArray 37)):=(U _ _).alloc _;have T:=h.nil K;have I:=Z R;have u:=Z K;have J:=Z T;clear R K h T;obtain⟨node,a,o,q,r,s,c,l⟩:=v;obtain⟨i0,i1,i2,i3⟩:=Mf o q r s;simp only[Ver.cells] at I u J |-;go_enter Tryz.func139,Tryz.ntmps139;go_wp2_with fail;generalize w.alloc (.cells #[.int .i64 node,.int .i64 a,.int .i64 o,.int .i64 q,.int .i64 r,.int .i64 s,.string c,.bool l] 37)=wb at I u J |-;have X:=I.out.cell;generalize w.heap.size=b at I X |-
 go_loopw [9] (fun t Q=>∃ i:Nat,i<=4/\t=.int .i64 i/\(([o,q,r,s].take i).all Zf)=true/\Q=wb) (fun t _=>4-(intOf t).toNat)
 case atStart=>exact⟨0,by omega,rfl,rfl,rfl⟩
 case round =>
  obtain⟨i,hi,rfl,d,Y⟩:=hrel;subst Y;have D:i=0\/i=1\/i=2\/i=3\/i=4:=by omega
  rcases D with rfl|rfl|rfl|rfl|rfl
  .cases ho:Zf o with
   | false =>
    have k:foreign N.self ⟨node,a,o,q,r,s,c,l⟩=false:=by unfold foreign;simp[Ver.AO,ho]
    have m:=Z k;have g:o<0\/(¬o<0/\1000000000<o):=by unfold Zf at ho;simp only[Gn] at ho;omega
    clear k ho d;rcases g with g|⟨g,x⟩
    .go_wp2
     go_ret;exact⟨by rw[m.out];rfl,u.out⟩
    .go_wp2
     go_ret;exact⟨by rw[m.out];rfl,u.out⟩
   | true =>
    have f:(([o,q,r,s].take 1).all Zf)=true:=by simp[ho]
    have j:=Z f;have g:¬o<0:=by unfold Zf at ho;simp only[IF] at ho;omega
    have x:¬1000000000<o:=by unfold Zf at ho;simp only[IF] at ho;omega
    clear ho d f
    go_wp2
    exact⟨⟨1,by omega,rfl,j.out,trivial⟩,by simp[intOf]⟩
  .cases ho:Zf q with
   | false =>
    have k:foreign N.self ⟨node,a,o,q,r,s,c,l⟩=false:=by unfold foreign;simp[Ver.AO,ho]
    have m:=Z k;have g:q<0\/(¬q<0/\1000000000<q):=by unfold Zf at ho;simp only[Gn] at ho;omega
    clear k ho d;rcases g with g|⟨g,x⟩
    .go_wp2
     go_ret;exact⟨by rw[m.out];rfl,u.out⟩
    .go_wp2
     go_ret;exact⟨by rw[m.out];rfl,u.out⟩
   | true =>
    have f:(([o,q,r,s].take 2).all Zf)=true:=by
     simp only[Hv,Gs,Ci,CD,Cj,Hz] at d |-;simp[d,ho]
    have j:=Z f;have g:¬q<0:=by unfold Zf at ho;simp only[IF] at ho;omega
    have x:¬1000000000<q:=by unfold Zf at ho;simp only[IF] at ho;omega
    clear ho d f
    go_wp2
    exact⟨⟨2,by omega,rfl,j.out,trivial⟩,by simp[intOf]⟩
  .cases ho:Zf r with
   | false =>
    have k:foreign N.self ⟨node,a,o,q,r,s,c,l⟩=false:=by unfold foreign;simp[Ver.AO,ho]
    have m:=Z k;have g:r<0\/(¬r<0/\1000000000<r):=by unfold Zf at ho;simp only[Gn] at ho;omega
    clear k ho d;rcases g with g|⟨g,x⟩
    .go_wp2
     go_ret;exact⟨by rw[m.out];rfl,u.out⟩
    .go_wp2
     go_ret;exact⟨by rw[m.out];rfl,u.out⟩
   | true =>
    have f:(([o,q,r,s].take 3).all Zf)=true:=by
     simp only[Hv,Gs,Ci,CD,Cj,Hz] at d |-;simp[d,ho]
    have j:=Z f;have g:¬r<0:=by unfold Zf at ho;simp only[IF] at ho;omega
    have x:¬1000000000<r:=by unfold Zf at ho;simp only[IF] at ho;omega
    clear ho d f
    go_wp2
    exact⟨⟨3,by omega,rfl,j.out,trivial⟩,by simp[intOf]⟩
  .cases ho:Zf s with
   | false =>
    have k:foreign N.self ⟨node,a,o,q,r,s,c,l⟩=false:=by unfold foreign;simp[Ver.AO,ho]
    have m:=Z k;have g:s<0\/(¬s<0/\1000000000<s):=by unfold Zf at ho;simp only[Gn] at ho;omega
    clear k ho d;rcases g with g|⟨g,x⟩
    .go_wp2
     go_ret;exact⟨by rw[m.out];rfl,u.out⟩
    .go_wp2
     go_ret;exact⟨by rw[m.out];rfl,u.out⟩
   | true =>
    have f:(([o,q,r,s].take 4).all Zf)=true:=by
     simp only[Hv,Gs,Ci,CD,Cj,Hz] at d |-;simp[d,ho]
    have j:=Z f;have g:¬s<0:=by unfold Zf at ho;simp only[IF] at ho;omega
    have x:¬1000000000<s:=by unfold Zf at ho;simp only[IF] at ho;omega
    clear ho d f
    go_wp2
    exact⟨⟨4,by omega,rfl,j.out,trivial⟩,by simp[intOf]⟩
  .have j:Hid (([o,q,r,s].all Zf)=true):=d
   have B:=Z (VV L N M node wr J.out);have G:foreign N.self ⟨node,a,o,q,r,s,c,l⟩=(!(l&&decide (c.size≠0))&&((zO node&&decide (node≠N.self))&&decide (1<=a/\a<=1000000000))):=by
    unfold foreign;simp only[Ver.AO,j.out,Cf]
   have C:=Z G;have E:=Z (Vg c);clear d G;cases l with
   | true =>
    by_cases O:c.toList=[]
    .have k:foreign N.self ⟨node,a,o,q,r,s,c,true⟩=((zO node&&decide (node≠N.self))&&decide (1<=a/\a<=1000000000)):=by
      rw[C.out];simp[show c.size=0 by rw[E.out,O];rfl]
     cases ho:(zO node&&decide (node≠N.self)) with
     | false =>
      rw[ho] at B k;have m:=Z k;clear ho k
      go_wp2_with (refine B.out.mono ?_;rintro e A ⟨rfl,y⟩;subst A)
      go_ret;exact⟨by rw[m.out];rfl,u.out⟩
     | true =>
      rw[ho] at B k;have m:=Z k;clear ho k;by_cases V:1<=a
      .by_cases h2:a<=1000000000
       .go_wp2_with (refine B.out.mono ?_;rintro e A ⟨rfl,y⟩;subst A)
        go_ret;exact⟨by rw[m.out,fFS (show 1<=a/\a<=1000000000 by omega)];rfl,u.out⟩
       .go_wp2_with (refine B.out.mono ?_;rintro e A ⟨rfl,y⟩;subst A)
        go_ret;exact⟨by rw[m.out,Gu (show ¬(1<=a/\a<=1000000000) by omega)];first|rfl|(rw[<- Gu (show ¬a<=1000000000 by omega)];rfl),u.out⟩
      .go_wp2_with (refine B.out.mono ?_;rintro e A ⟨rfl,y⟩;subst A)
       go_ret;exact⟨by rw[m.out,Gu (show ¬(1<=a/\a<=1000000000) by omega)];first|rfl|(rw[<- Gu (show ¬a<=1000000000 by omega)];rfl),u.out⟩
    .have k:foreign N.self ⟨node,a,o,q,r,s,c,true⟩=false:=by
      rw[C.out];have:c.size≠0:=by rw[E.out];exact fun h=>O (IY h)
      simp[this]
     have m:=Z k;have h3:c.toList.isEmpty=false:=by simpa using O
     clear k
     go_wp2
     go_ret;exact⟨by rw[m.out];rfl,u.out⟩
   | false =>
    have k:foreign N.self ⟨node,a,o,q,r,s,c,false⟩=((zO node&&decide (node≠N.self))&&decide (1<=a/\a<=1000000000)):=by
     rw[C.out];simp
    cases ho:(zO node&&decide (node≠N.self)) with
    | false =>
     rw[ho] at B k;have m:=Z k;clear ho k
     go_wp2_with (refine B.out.mono ?_;rintro e A ⟨rfl,y⟩;subst A)
     go_ret;exact⟨by rw[m.out];rfl,u.out⟩
    | true =>
     rw[ho] at B k;have m:=Z k;clear ho k;by_cases V:1<=a
     .by_cases h2:a<=1000000000
      .go_wp2_with (refine B.out.mono ?_;rintro e A ⟨rfl,y⟩;subst A)
       go_ret;exact⟨by rw[m.out,fFS (show 1<=a/\a<=1000000000 by omega)];rfl,u.out⟩
      .go_wp2_with (refine B.out.mono ?_;rintro e A ⟨rfl,y⟩;subst A)
       go_ret;exact⟨by rw[m.out,Gu (show ¬(1<=a/\a<=1000000000) by omega)];first|rfl|(rw[<- Gu (show ¬a<=1000000000 by omega)];rfl),u.out⟩
     .go_wp2_with (refine B.out.mono ?_;rintro e A ⟨rfl,y⟩;subst A)
      go_ret;exact⟨by rw[m.out,Gu (show ¬(1<=a/\a<=1000000000) by omega)];first|rfl|(rw[<- Gu (show ¬a<=1000000000 by omega)];rfl),u.out⟩
end Go.Proofs.YtkhnggkkiefcdaaGreatDoor
