/- larder: joined texts -/
import Derived.Test.YtkhnggkkiefcdaaGreatDoorNMAA
import Derived.Test.YtkhnggkkiefcdaaGreatDoorNMAE
import Derived.Test.YtkhnggkkiefcdaaGreatDoorNMAH
import Derived.Test.YtkhnggkkiefcdaaGreatDoorNMAI
import Derived.Test.YtkhnggkkiefcdaaGreatDoorNMAJ
import Derived.Test.YtkhnggkkiefcdaaGreatDoorNMAK
import Derived.Test.YtkhnggkkiefcdaaGreatDoorChecked
namespace Go.Proofs.YtkhnggkkiefcdaaGreatDoor
open Go.RowKit
set_option maxRecDepth 100000
set_option maxHeartbeats 8000000
theorem Lc:((Tryz.prog.info? 268).map fun i=>(i.zero.map (·.cells.size),i.size,i.bytes))=some (some 2,2,24):=by kernel_rfl
def UQ(w:World)(c:Option Nat)(n i:Nat)(h f:List Value)(e:Ending)(d:World):Prop :=
 ∃ g a,e=.returned (.slice (some ⟨g,0,none⟩) (n+1) a)/\d.ownsRow 0 268 2 (.slice (some ⟨g,0,none⟩) (n+1) a) (n+1) (ZY 2 i h f)/\Fr (fun b=>c=some b) w d/\(c=some g\/w.heap.size<=g)
theorem Oh(v:Value)(n:Nat)(d f:List Value)(r:Nat)(w:World)(b:w.ownsRow 0 268 2 v n d)(t:f.length=2)(s:∀ u∈f,u.oneCell'=true)(G:Blk w r f 268)(p:(n+1)*24<=140737488355328) :
 Calls Tryz.prog 223 #[v,.int .i64 n,.slice (some ⟨r,0,none⟩) 1 1] w fun e c=>UQ w v.ownBlock n n d f e c:=by
 have q:∀ ty,∃ m c,(Builtin.append_ #[261,261] ty #[v,.slice (some ⟨r,0,none⟩) 1 1]).run Tryz.prog w=.ok m c/\App w v 268 2 (n+1) (d++f) m c:=fun ty =>
  zv (P:=Tryz.prog) 261 ty 268 2 24 Ff Lc (by omega) v n d b ⟨r,0,none⟩ 1 1 f (by rw[t]) (fun j u E=>by rw[IW,Hg];rw[G.cell];exact E) s (by unfold maxLen;omega) p
 have k:∀ m c,App w v 268 2 (n+1) (d++f) m c->UQ w v.ownBlock n n d f (.returned m) c:=by
  rintro m c ⟨y,C,o⟩;obtain⟨g,l,rfl,_,_⟩:=y.form (by omega);refine⟨g,l,rfl,?_,(Fr.Bb C).mono (fun i _ h=>h),?_⟩
  .have e1:d.take (n*2)=d:=Il (by rw[b.1];exact JS _)
   have A:d.drop (n*2)=[]:=IX (by rw[b.1];exact JS _);unfold ZY;rw[e1,A,Iz];exact y
  .rcases o with o|o
   .left;rw[<- o];rfl
   .right;have:g=w.heap.size:=by simpa [Value.ownBlock] using o
    omega
 have D:=zH b;unfold maxLen at D;obtain⟨a,l,rfl⟩:=zg b;have x:=Z k;clear k b;generalize (Value.slice a n l).ownBlock=I at x |-;go_enter Tryz.func223,Tryz.ntmps223
 go_wp2_with (at_builtin;go_must (refine zI rfl _ _ _ _ rfl _ _ (by rfl) (by rfl) (q _) ?_);rintro m c B)
 all_goals
  go_ret;exact x.out _ _ B
theorem Ld(w:World)(k m l i h f:Nat)(a g:Nat)(j c:List Value)(d:Blk w a j 268)(p:Blk w g c 268)(b:a≠g)(o:c.length≠0) :
 (callFunc 240 #[.slice (some ⟨a,k,none⟩) m l,.slice (some ⟨g,i,none⟩) h f]).run Tryz.prog w=.ok (.value (.bool false)) w:=by
 rw[Hl Tryz.func240 (by kernel_rfl) (by kernel_rfl) (by kernel_rfl) (e:=Extern.SlicesOverlaps.overlaps #[261,261] #[4]) (by kernel_rfl),
  Ey w 261 4 268 Ff 2 Tryz.sizeOf268 ⟨a,k,none⟩ ⟨g,i,none⟩ m l h f b 268 268 j.length c.length d.shape p.shape o (d.frozen _) (d.frozen _)]
 rfl
theorem RS(g n d i:Nat)(c l k:List Value)(A:Nat)(w:World)(L:Blk w g c 268)(h:c.length=d*2)(O:c.take (n*2)=l)(X:∀ u∈l,u.oneCell'=true)(hi:i<n)(a:n+1<=d)(I:d<=maxLen)
 (r:k.length=2)(K:∀ u∈k,u.oneCell'=true)(R:Blk w A k 268)(M:A≠g) :
 Calls Tryz.prog 223 #[.slice (some ⟨g,0,none⟩) n d,.int .i64 i,.slice (some ⟨A,0,none⟩) 1 1] w fun e w'=>UQ w (some g) n i l k e w':=by
 have Q:=fun va vl vc bo bl bc=>Ld w va vl vc bo bl bc A g k c R L M (by omega);have v:l.length=n*2:=by rw[<- O,JU,h];exact Hc (IC _ (by omega))
 have q:(l.drop (i*2)).length=(n-i)*2:=by rw[Ib,v,EO]
 have J:∀ j u,(l.drop (i*2))[j]?=some u->c[i*2+j]?=some u:=by
  intro j u s;rw[Gm] at s;have a0:=(IA.1 s).1;rw[<- O,Hr (by omega)] at s;exact s
 have p:∀ ty B T,(Builtin.copy_ #[261,261] ty #[.slice (some ⟨g,(i+1)*2,none⟩) (n-i) B,.slice (some ⟨g,i*2,none⟩) (n+1-i) T]).run Tryz.prog w.drew=_:=fun ty B T =>
  Zj 261 268 ty 2 Ff (by kernel_rfl) g ((i+1)*2) (n-i) B ⟨g,i*2,none⟩ (n+1-i) T c (l.drop (i*2)) 268 L
   (by rw[q];congr 1;simp only[Fh];split <;> omega) (fun j u s=>by rw[IW,show w.drew.cell? ⟨g,i*2+j,none⟩=c[i*2+j]? from L.drew.cell _];exact J j u s)
   (by rw[q,h];have:=IC 2 a;have e:(i+1)*2+(n-i)*2=(n+1)*2:=(by rw[<- Gr];congr 1;omega);omega)
   (fun u s=>X u (Ir s))
 obtain⟨f,m⟩:∃ f,f=c.take ((i+1)*2)++l.drop (i*2)++c.drop ((i+1)*2+(l.drop (i*2)).length):=⟨_,rfl⟩;rw[<- m] at p;have t:Blk (w.drew.setRow g f.toArray) g f 268:=L.drew.setRow f;have D:Blk (w.drew.setRow g f.toArray) A k 268:=R.drew.of_heap (FK _ g A _ M);have o:f.length=d*2:=by
  have:=IC 2 a;have e:(i+1)*2+(n-i)*2=(n+1)*2:=by rw[<- Gr];congr 1;omega
  rw[m];simp only[JR,JU,Ib,v,h];omega
 have C:Fr (fun b=>some g=some b) w (w.drew.setRow g f.toArray):=Fr.setRow (S:=fun b=>some g=some b) ((U _ w).drew) (fun _=>rfl) _;obtain⟨N,E⟩:∃ N,N=w.drew.setRow g f.toArray:=⟨_,rfl⟩;rw[<- E] at p t D C;clear E;have x:∀ ty B,(Builtin.copy_ #[261,261] ty #[.slice (some ⟨g,i*2,none⟩) (n+1-i) B,.slice (some ⟨A,0,none⟩) 1 1]).run Tryz.prog N=_:=fun ty B =>
  Zj 261 268 ty 2 Ff (by kernel_rfl) g (i*2) (n+1-i) B ⟨A,0,none⟩ 1 1 f k 268 t
   (by rw[r];have:Nat.min 1 (n+1-i)=1:=(by simp only[Fh];split <;> omega);rw[this]) (fun j u s=>by rw[IW,Hg,D.cell];exact s)
   (by rw[r,o];have:=IC 2 a;have e:i*2+2=(i+1)*2:=(by rw[Gr,EP]);have:=IC 2 (show i+1<=n+1 by omega);omega)
   K
 have y:UQ w (some g) n i l k (.returned (.slice (some ⟨g,0,none⟩) (n+1) d)) (N.setRow g (f.take (i*2)++k++f.drop (i*2+k.length)).toArray):=by
  have e0:=IC 2 a;have e1:i*2+2=(i+1)*2:=by rw[Gr,EP]
  have e2:(i+1)*2+(n-i)*2=(n+1)*2:=by rw[<- Gr];congr 1;omega
  have e3:=IC 2 (show i<=n by omega);refine⟨g,d,rfl,Yy (t.setRow _) a I ?_ ?_,Fr.setRow (S:=fun b=>some g=some b) C (fun _=>rfl) _,.inl rfl⟩
  .rw[JR,JR,JU,Ib,r,o]
   omega
  .unfold ZY
   have Y:f.take (i*2)=l.take (i*2):=by
    rw[m,<- O,ID (by rw[JR,JU,h];omega),ID (by rw[JU,h];omega),GQ,GQ]
    congr 1
    omega
   have a2:f.drop (i*2+k.length)=l.drop (i*2)++c.drop ((n+1)*2):=by
    have e4:(c.take ((i+1)*2)).length=i*2+k.length:=by rw[JU,h];omega
    rw[m,Ig,<- e4,GR,q,e2]
   rw[Y,a2,<- Ig,Hh (by rw[JR,JR,q,r,JU,v];omega)]
 obtain⟨V,G⟩:∃ V,V=f.take (i*2)++k++f.drop (i*2+k.length):=⟨_,rfl⟩;rw[<- G] at x y;clear t D C o J L R q v X K m G O r h;unfold maxLen at I;have a3:¬(i:Int)=(n:Int):=by omega
 have a4:¬(d:Int)<(n:Int)+1:=by omega
 have a5:¬d=i:=by omega
 have a6:¬d=i+1:=by omega
 have a7:IntKind.i64.wrap ((i:Int)+1)=(i:Int)+1:=by rw[IB];omega
 have a8:(0:Int)<=(i:Int)+1:=by omega
 have a9:((i:Int)+1).toNat=i+1:=by omega
 have b0:(i:Int)<=(n:Int)+1:=by omega
 have b1:(i:Int)<=(n:Int):=by omega
 go_enter Tryz.func223,Tryz.ntmps223
 go_wp2_with (simp only[Q])
 go_region_law (refine Yp rfl _ _ 261 261 rfl _ _ (by simp[Act.eval,Act.put]) (by simp[Act.eval,Act.put]) (p _ _ _) ?_)
 go_wp2_with (at_builtin;go_must (refine Yf rfl _ _ 261 261 rfl _ _ (by rfl) (by rfl) (x _ _) ?_))
 go_ret;exact y
theorem QZ(g n i:Nat)(b m:List Value)(vb:Nat)(w:World)(hg:Blk w g b 268)(f:b.length=n*2)(h1:∀ u∈b,u.oneCell'=true)(hi:i<n)
 (q:m.length=2)(a0:∀ u∈m,u.oneCell'=true)(hv:Blk w vb m 268)(Y:(n+1)*24<=140737488355328) :
 Calls Tryz.prog 223 #[.slice (some ⟨g,0,none⟩) n n,.int .i64 i,.slice (some ⟨vb,0,none⟩) 1 1] w fun e w'=>UQ w (some g) n i b m e w':=by
 obtain⟨i0,z,a4,a6,S,K,a7⟩:=ZV Lc;have s:i+(n+1-i)=n+1:=by omega
 have a:∀ ty,(Builtin.append_ #[261,3] ty #[.slice (some ⟨g,0,none⟩) i n,.int .i64 ((n+1-i:Nat):Int)]).run Tryz.prog w=_:=fun ty =>
  El (P:=Tryz.prog) w 261 3 ty 268 i0 z .i64 .i64 Ff FF a4 a6 (some ⟨g,0,none⟩) i n (b.take (i*2))
   (by rw[S];exact FB (P:=Tryz.prog) w.drew 2 i ⟨g,0,none⟩ i n (b.take (i*2)) (by rw[JU,f];omega) (fun j u t=>by
     have a8:=(IA.1 t).1;rw[IW,Hg,hg.drew.cell];rw[JU] at a8;rw[Hr (by omega)] at t;exact t))
   (n+1-i) (by omega) (by rw[S];omega) (by omega) (by omega) (by rw[K];omega) (Db (by omega) (by rw[K,s];exact Y))
 rw[s] at a;have a2:=Ch w (n+1) n 268;have L:=Eo w (n+1) n 268 (by unfold maxLen;omega);generalize grownCap w (n+1) n 268=c at a a2 L;obtain⟨d,v⟩:∃ d:List Value,d=b.take (i*2)++(Builtin.zeroCells z.cells (n+1-i)).toList++(Builtin.zeroCells z.cells (c-(n+1))).toList:=⟨_,rfl⟩;have C:(b.take (i*2)).toArray++Builtin.zeroCells z.cells (n+1-i)++Builtin.zeroCells z.cells (c-(n+1))=d.toArray:=by rw[v];apply FZ;simp
 rw[C] at a;have o:d.length=c*2:=by
  rw[v];simp only[JR,JU,Gj,Da,a7,f];omega
 have D:d.take (i*2)=b.take (i*2):=by
  have e:(b.take (i*2)).length=i*2:=by rw[JU,f];omega
  rw[v,Ig];exact Hh e
 have a3:=hg.lt;have a5:=hv.lt;have r:Blk (w.drew.alloc (.cells d.toArray 268)) w.heap.size d 268:=Blk.new w.drew d _;have T:Blk (w.drew.alloc (.cells d.toArray 268)) vb m 268:=hv.drew.alloc _;have Q:Blk (w.drew.alloc (.cells d.toArray 268)) g b 268:=hg.drew.alloc _;have M:Fr Nil w (w.drew.alloc (.cells d.toArray 268)):=((U _ w).drew).alloc _;obtain⟨N,hN⟩:∃ N,N=w.heap.size:=⟨_,rfl⟩;rw[<- hN] at a r a3 a5;obtain⟨I,V⟩:∃ I,I=w.drew.alloc (.cells d.toArray 268):=⟨_,rfl⟩;rw[<- V] at a r T Q M;clear V;obtain⟨k,x⟩:∃ k,k=d.take (i*2)++m++d.drop (i*2+m.length):=⟨_,rfl⟩;have p:∀ ty J,(Builtin.copy_ #[261,261] ty #[.slice (some ⟨N,i*2,none⟩) (n+1-i) J,.slice (some ⟨vb,0,none⟩) 1 1]).run Tryz.prog I=_:=fun ty J =>
  Zj 261 268 ty 2 Ff (by kernel_rfl) N (i*2) (n+1-i) J ⟨vb,0,none⟩ 1 1 d m 268 r
   (by rw[q];have:Nat.min 1 (n+1-i)=1:=(by simp only[Fh];split <;> omega);rw[this]) (fun j u t=>by rw[IW,Hg,T.cell];exact t)
   (by rw[q,o];omega)
   a0
 rw[<- x] at p;have l:k.length=c*2:=by
  rw[x];simp only[JR,JU,Ib,q,o];omega
 have E:k.take ((i+1)*2)=b.take (i*2)++m:=by
  have e:(b.take (i*2)++m).length=(i+1)*2:=by rw[JR,JU,f,q];omega
  rw[x,D];exact Hh e
 have B:Blk (I.setRow N k.toArray) N k 268:=r.setRow k;have R:Blk (I.setRow N k.toArray) g b 268:=Q.of_heap (FK _ N g _ (by omega));have O:Fr Nil w (I.setRow N k.toArray):=M.setRow (fun h=>by omega) _;obtain⟨W2,X⟩:∃ W2,W2=I.setRow N k.toArray:=⟨_,rfl⟩;rw[<- X] at p B R O;clear X;have A:(b.drop (i*2)).length=(n-i)*2:=by rw[Ib,f,EO]
 obtain⟨c3,y⟩:∃ c3,c3=k.take ((i+1)*2)++b.drop (i*2)++k.drop ((i+1)*2+(b.drop (i*2)).length):=⟨_,rfl⟩;have G:∀ ty J sc,(Builtin.copy_ #[261,261] ty #[.slice (some ⟨N,(i+1)*2,none⟩) (n-i) J,.slice (some ⟨g,i*2,none⟩) (n-i) sc]).run Tryz.prog W2.drew=_:=fun ty J sc =>
  Zj 261 268 ty 2 Ff (by kernel_rfl) N ((i+1)*2) (n-i) J ⟨g,i*2,none⟩ (n-i) sc k (b.drop (i*2)) 268 B.drew
   (by rw[A];congr 1;simp only[Fh];split <;> omega) (fun j u t=>by rw[IW,R.drew.cell];rw[Gm] at t;exact t)
   (by rw[A,l];omega)
   (fun u t=>h1 u (Ir t))
 rw[<- y] at G;have a1:UQ w (some g) n i b m (.returned (.slice (some ⟨N,0,none⟩) (n+1) c)) (W2.drew.setRow N c3.toArray):=by
  refine⟨N,c,rfl,Yy (B.drew.setRow _) a2 L ?_ ?_,(O.drew.setRow (fun h=>by omega) _).mono (fun _ _ h=>absurd h id),.inr (by omega)⟩
  .rw[y]
   simp only[JR,JU,Ib,f,l];omega
  .have e:(k.take ((i+1)*2)++b.drop (i*2)).length=(n+1)*2:=by rw[JR,JU,l,A];omega
   rw[y,Hh e,E]
   rfl
 clear D E C y x v r T Q M B R O A l o h1 a0 q f hv hg hN s a7 K S a6 a4;unfold maxLen at L;have a9:¬(i:Int)=(n:Int):=by omega
 have b0:¬n=i:=by omega
 have b1:¬c=i+1:=by omega
 have b2:¬c=i:=by omega
 have b3:(n:Int)+1-i=((n+1-i:Nat):Int):=by omega
 have b4:IntKind.i64.wrap ((i:Int)+1)=(i:Int)+1:=by rw[IB];omega
 have b5:(0:Int)<=(i:Int)+1:=by omega
 have b6:((i:Int)+1).toNat=i+1:=by omega
 have b7:(i:Int)<=(n:Int)+1:=by omega
 have b8:(i:Int)<=(n:Int):=by omega
 go_enter Tryz.func223,Tryz.ntmps223
 go_wp2_with (at_builtin;go_must (first|(refine ED _ rfl _ _ _ _ rfl _ _ (by rfl) (by rfl) _ _ (a _) ?_)|(refine Yf rfl _ _ 261 261 rfl _ _ (by rfl) (by rfl) (p _ _) ?_)))
 go_region_law (refine Yp rfl _ _ 261 261 rfl _ _ (by simp[Act.eval,Act.put]) (by simp[Act.eval,Act.put]) (G _ _ _) ?_)
 go_wp2
 go_ret;exact a1
theorem RT(v:Value)(n i:Nat)(k d:List Value)(j:Nat)(w:World)(b:w.ownsRow 0 268 2 v n k)(r:∀ u∈k,u.oneCell'=true)(B:i<=n)
 (h:d.length=2)(f:∀ u∈d,u.oneCell'=true)(q:Blk w j d 268)(p:v.ownBlock≠some j)(a:(n+1)*24<=140737488355328) :
 Calls Tryz.prog 223 #[v,.int .i64 i,.slice (some ⟨j,0,none⟩) 1 1] w fun e A=>UQ w v.ownBlock n i k d e A:=by
 rcases Gu i n with m|y
 .rcases YA b with⟨_,h0,_⟩|⟨g,cap,c,rfl,hg,hn,hm,hc,ht⟩
  .omega
  .have hne':j≠g:=fun e=>p (by rw[e];rfl)
   rcases Gu n cap with t|t
   .exact RS g n cap i c k d j w hg hc ht r m t hm h f q hne'
   .have e:cap=n:=by omega
    subst e;have o:c=k:=by rw[<- ht];exact(Il (by omega)).symm
    subst o;exact QZ g cap i c d j w hg hc r m h f q a
 .have e:i=n:=by omega
  subst e;exact Oh v i k d j w b h f q a
def zP(a b:Nat):Bool:=decide (a<b)
theorem WF:Strict zP where
 yQ a:=by simp[zP]
 trans a b c h1 h2:=by simp only[zP,Im] at *;omega
 yV a b h1 h2:=by simp only[zP,Im,Ht] at *;omega
theorem P0{a b:Nat}:XK a b<0↔zP a b=true:=by
 unfold XK zP;rw[Im];split
 .rename_i h;constructor <;> intro <;> omega
 .rename_i h
  split
  .constructor <;> intro <;> omega
  .constructor <;> intro <;> omega
theorem Le{a b:Nat}:XK a b=0↔(a==b)=true:=by
 unfold XK;rw[beq_iff_eq];split
 .rename_i h;constructor <;> intro <;> omega
 .rename_i h
  split
  .constructor <;> intro <;> omega
  .constructor <;> intro <;> omega
theorem Wf(a b:Nat)(v:ByteArray)(w:World) :
 Calls Tryz.prog 239 #[.agg #[.int .i64 a,.string v],.int .i64 b] w fun e d=>e=.returned (.int .i64 (XK a b))/\Fr Nil w d:=by
 go_enter Tryz.func239,Tryz.ntmps239
 go_wp2_with (go_at_call 180;refine(To _ _ _).mono ?_;rintro e f ⟨rfl,c⟩;subst c)
 go_ret;exact⟨rfl,(by repeat' first|exact U _ _|(with_reducible assumption)|refine Fr.drewN ?_ _|refine Fr.drew ?_|refine Fr.alloc ?_ _|refine Fr.set ?_ ?_ _|(intro _;rfl))⟩
theorem RU(v:Value)(l:List (Nat × ByteArray))(s:Nat)(w:World)(h:w.ownsRow 0 268 2 v l.length (Zl l))(K:Asc zP (l.map Prod.fst))(a0:l.length<4611686018427387904) :
 Calls Tryz.prog 238 #[v,.int .i64 s,.func (.func 239) #[] #[]] w fun e I =>
  e=.returned (.tuple #[.int .i64 (low zP (l.map Prod.fst) s),.bool (zX zP (l.map Prod.fst) s)])/\Fr Nil w I:=by
 have hn:=zH h;unfold maxLen at hn;obtain⟨a,t,rfl⟩:=zg h;go_enter Tryz.func238,Tryz.ntmps238
 go_wp2
 go_loopw [9,10] (fun E G I=>∃ i j:Nat,i<=j/\j<=l.length/\E=.int .i64 i/\G=.int .i64 j/\(∀ k (d:k<l.length),k<i->zP l[k].1 s=true)/\(∀ k (d:k<l.length),j<=k->zP l[k].1 s=false)/\Fr Nil w I) (fun E G _=>(intOf G).toNat-(intOf E).toNat)
 case atStart=>exact⟨0,l.length,Iq _,JS _,rfl,rfl,fun k _ d=>absurd d (IY _),fun k d X=>absurd d (by omega),U _ _⟩
 case round =>
  obtain⟨i,j,V,J,rfl,rfl,c,u,p⟩:=hrel;by_cases Y:i<j
  .obtain⟨g,rfl⟩:∃ g,a=some ⟨g,0,none⟩:=by
    rcases h.2 with⟨c,O⟩|⟨g,t,A,c,_⟩
    .omega
    .simp at c;exact⟨g,c.1⟩
   have D:(i+j) / 2<l.length:=by omega
   have T:=own_cell? (ze h p (fun _ _=>id)) ((i+j) / 2*2) _ (Xn l _ D).1;have B:=own_cell? (ze h p (fun _ _=>id)) ((i+j) / 2*2+1) _ (Xn l _ D).2;have M:=Z c;have N:=Z u;clear c u;have Q:(i:Int)<=4611686018427387903:=by omega
   have R:(j:Int)<=4611686018427387903:=by omega
   have S:(i:Int)+j<=9223372036854775807:=by omega
   have hq:(((i:Int)+j) / 2).toNat=(i+j) / 2:=by omega
   cases hl:zP l[(i+j) / 2].1 s with
   | true =>
    have r:=Z hl;have C:XK l[(i+j) / 2].1 s<0:=P0.2 hl;clear hl
    go_wp2_with (go_at_call 239;refine(Wf _ _ _ _).mono ?_;rintro e L ⟨rfl,m⟩)
    refine⟨⟨(i+j) / 2+1,j,by omega,J,by go_num,rfl,fun k d q=>?_,N.out,p.trans m⟩,by simp[intOf];omega⟩;by_cases e:k=(i+j) / 2
    .subst e;exact r.out
    .exact WF.trans _ _ _ (K.fst (i:=k) (j:=(i+j) / 2) (by omega) D) r.out
   | false =>
    have r:=Z hl;have C:¬XK l[(i+j) / 2].1 s<0:=by rw[P0];simp[hl]
    clear hl
    go_wp2_with (go_at_call 239;refine(Wf _ _ _ _).mono ?_;rintro e L ⟨rfl,m⟩)
    refine⟨⟨i,(i+j) / 2,by omega,by omega,rfl,by go_num,M.out,fun k d q=>?_,p.trans m⟩,by simp[intOf];omega⟩;by_cases e:k=(i+j) / 2
    .subst e;exact r.out
    .cases hk2:zP l[k].1 s with
     | false=>rfl
     | true =>
      have:=WF.trans _ _ _ (K.fst (i:=(i+j) / 2) (j:=k) (by omega) d) hk2;rw[r.out] at this;cases this
  .have he:i=j:=by omega
   subst he;have b:low zP (l.map Prod.fst) s=i:=Vb zP s _ i (by simpa using J) (fun k d q=>by simpa using c k (by simpa using d) q) (fun d=>by simpa using u i (by simpa using d) (JS _));by_cases o:i<l.length
   .obtain⟨g,rfl⟩:∃ g,a=some ⟨g,0,none⟩:=by
     rcases h.2 with⟨c,O⟩|⟨g,t,A,c,_⟩
     .omega
     .simp at c;exact⟨g,c.1⟩
    have T:=own_cell? (ze h p (fun _ _=>id)) (i*2) _ (Xn l _ o).1;have B:=own_cell? (ze h p (fun _ _=>id)) (i*2+1) _ (Xn l _ o).2;have f:zX zP (l.map Prod.fst) s=(XK l[i].1 s==0):=by
     rw[XH o b,Ce,<- Le];simp
    have y:=Z b;have x:=Z f;clear c u b f
    go_wp2_with (go_at_call 239;refine(Wf _ _ _ _).mono ?_;rintro e L ⟨rfl,m⟩)
    go_ret2;rw[y.out,x.out];exact⟨rfl,p.trans m⟩
   .have f:zX zP (l.map Prod.fst) s=false:=Wu (by rw[b];simpa using o)
    have y:=Z b;have x:=Z f;clear c u b f
    go_wp2
    go_ret2;rw[y.out,x.out];exact⟨rfl,p⟩
abbrev ZB (l:List (Nat × ByteArray)):List Nat:=l.map Prod.fst
structure WG(w:World)(v:Value)(l:List (Nat × ByteArray)):Prop where
 own:w.ownsRow 0 268 2 v l.length (Zl l)
 Bp:Asc zP (ZB l)
theorem WG.fr{w w':World}{v:Value}{l:List (Nat × ByteArray)}{S:Nat->Prop}(h:WG w v l)(f:Fr S w w')(a:∀ k,v.ownBlock=some k->¬S k):WG w' v l :=
 ⟨ze h.own f a,h.Bp⟩
theorem P1(v:Value)(l:List (Nat × ByteArray))(s:Nat)(b:Nat)(w:World)(g:w.cell? ⟨b,0,none⟩=some v)(h:WG w v l)(c:l.length<4611686018427387904) :
 Calls Tryz.prog 222 #[.pointer (some ⟨b,0,none⟩),.int .i64 s] w fun e f =>
  e=.returned (.tuple #[.int .i64 (low zP (ZB l) s),.bool (zX zP (ZB l) s)])/\Fr Nil w f:=by
 have d:=Z (RU v l s w h.own h.Bp c);clear h;go_enter Tryz.func222,Tryz.ntmps222
 go_wp2_with (refine d.out.mono ?_;rintro e i ⟨rfl,a⟩)
 go_ret2;exact⟨rfl,a⟩
theorem Lf(l:List (Nat × ByteArray)):∀ u∈Zl l,u.oneCell'=true:=by
 intro u a;simp only[Zl,Eg] at a;obtain⟨e,b,a⟩:=a;simp at a;rcases a with rfl|rfl <;> rfl
theorem XB(a b:List (Nat × ByteArray)):Zl (a++b)=Zl a++Zl b:=by simp[Zl]
theorem NK(l:List (Nat × ByteArray))(i:Nat):(Zl l).take (i*2)=Zl (l.take i):=by
 rcases Eh i l.length with h|h
 .have e:=XB (l.take i) (l.drop i)
  rw[Ik] at e;rw[e];exact Hh (by rw[XA,JU,Hc h])
 .rw[Il h,Il (by rw[XA];omega)]
theorem NN(l:List (Nat × ByteArray))(i:Nat):(Zl l).drop (i*2)=Zl (l.drop i):=by
 rcases Eh i l.length with h|h
 .have e:=XB (l.take i) (l.drop i)
  rw[Ik] at e;rw[e];exact Cf (by rw[XA,JU,Hc h])
 .rw[IX h,IX (by rw[XA];omega)]
  rfl
def Wg(l:List (Nat × ByteArray))(s:Nat)(x:ByteArray):List (Nat × ByteArray):=l.take (low zP (ZB l) s)++[(s,x)]++l.drop (low zP (ZB l) s)
theorem Kg{l:List (Nat × ByteArray)}(s:Nat)(x:ByteArray)(h:Asc zP (ZB l))(a:zX zP (ZB l) s=false):Asc zP (ZB (Wg l s x)):=by
 have:=Asc.ins WF (b:=s) h (fun c e=>by rw[Um c,e] at a;simp at a);unfold Wg
 simpa [ZB,List.map_take,List.map_drop] using this
theorem UA{l:List (Nat × ByteArray)}{s:Nat}{x:ByteArray}:(Wg l s x).length=l.length+1:=by
 have:=Va zP (ZB l) s;simp only[Is] at this;simp[Wg];omega
def JE(w:World)(b:Nat)(t:TypeId)(v:Value)(a:List Value)(l:List (Nat × ByteArray))(d:World):Prop :=
 ∃ c,Blk d b (c::a) t/\WG d c l/\Fr (fun k=>k=b\/v.ownBlock=some k) w d/\(∀ k,c.ownBlock=some k->v.ownBlock=some k\/w.heap.size<=k)
theorem NO(v:Value)(a:List Value)(l:List (Nat × ByteArray))(s:Nat)(x:ByteArray)(b:Nat)(t:TypeId)(w:World)(E:Blk w b (v::a) t)(ht:t≠268)(h:WG w v l)
 (a1:l.length<1099511627776)(V:zX zP (ZB l) s=false) :
 Calls Tryz.prog 186 #[.pointer (some ⟨b,0,none⟩),.int .i64 s,.string x] w fun e w' =>
  e=.returned (.tuple #[])/\JE w b t v a (Wg l s x) w':=by
 have M:w.cell? ⟨b,0,none⟩=some v:=by rw[E.cell];rfl
 have R:=Z (P1 v l s b w M h (by omega));have hn:=zH h.own;unfold maxLen at hn;have K:=Z h;have Q:=Z E;clear M h E;go_enter Tryz.func186,Tryz.ntmps186;go_wp2_with fail;refine R.out.mono ?_;rintro e j ⟨rfl,p⟩;have m:=Q.out.fr p id;have Y:j.cell? ⟨b,0,none⟩=some v:=by rw[m.cell];rfl
 have a2:=m.frozen 0;go_wp2_with fail;have L:Blk (j.alloc (.cells #[.int .i64 s,.string x] 268)) j.heap.size [.int .i64 s,.string x] 268:=Blk.new j [.int .i64 s,.string x] _;have c:=m.alloc (.cells #[.int .i64 s,.string x] 268);have d:Fr Nil w (j.alloc (.cells #[.int .i64 s,.string x] 268)):=p.alloc _;have G:∀ k,v.ownBlock=some k->k<j.heap.size:=fun k q=>Zi (K.out.fr p (fun _ _=>id)).own q;generalize j.alloc (.cells #[.int .i64 s,.string x] 268)=w2 at L c d |-;have D:=K.out.fr d (fun _ _=>id);have C:v.ownBlock≠some b:=zi D.own c ht;have A:=Va zP (ZB l) s;simp only[Is] at A;refine(RT v l.length (low zP (ZB l) s) (Zl l) [.int .i64 s,.string x] j.heap.size w2 D.own (Lf l) A rfl (by intro u N;simp at N;rcases N with rfl|rfl <;> rfl) L (fun e=>by have:=G _ e;omega) (by omega)).mono ?_;rintro e O ⟨g,r,rfl,I,y,B⟩;have o:=c.fr y C;have a0:O.cell? ⟨b,0,none⟩=some v:=by rw[o.cell];rfl
 have a3:=o.frozen 0;have X:b≠g:=by
  rcases B with h|h
  .intro e;exact C (by rw[h,e])
  .have:=c.lt;omega
 have f:JE w b t v a (Wg l s x) (O.setCell ⟨b,0,none⟩ (.slice (some ⟨g,0,none⟩) (l.length+1) r)):=by
  have J:=UA (l:=l) (s:=s) (x:=x);refine⟨.slice (some ⟨g,0,none⟩) (l.length+1) r,o.set 0 _,⟨?_,Kg s _ D.Bp V⟩,Fr.set ((d.mono (fun _ _ h=>absurd h id)).trans' y (fun i _ h=>.inr h)) (fun _=>.inl rfl) _,fun k q=>?_⟩
  .rw[J]
   have e:Zl (Wg l s x)=ZY 2 (low zP (ZB l) s) (Zl l) [.int .i64 s,.string x]:=by
    unfold Wg ZY;rw[XB,XB,NK,NN]
    rfl
   rw[e];exact ze I (Fr.set (S:=fun k=>k=b) (U _ _) (fun _=>rfl) _) (fun k q=>by simp[Value.ownBlock] at q;omega)
  .simp[Value.ownBlock] at q
   subst q;rcases B with h|h
   .exact .inl h
   .exact .inr (by have:=d.size;omega)
 have T:=Z f;clear f
 go_wp2
 exact Gn (v:=.tuple #[]) (by simp[results,go_sem]) rfl ⟨rfl,T.out⟩
end Go.Proofs.YtkhnggkkiefcdaaGreatDoor
namespace Go.Proofs.YtkhnggkkiefcdaaGreatDoor
open Go.RowKit Go.Shelf
set_option maxRecDepth 100000
set_option maxHeartbeats 8000000
attribute [local go_sem] GF
theorem P2(v:Value)(l:List ByteArray)(s:ByteArray)(w:World)(h:w.ownsRow 0 9 1 v l.length (strs l)) :
 Calls Tryz.prog 234 #[v,.string s] w fun e A=>∃ r:Int,e=.returned (.int .i64 r)/\decide (0<=r)=l.any (·==s)/\Fr Nil w A:=by
 have E:=zH h;unfold maxLen at E;obtain⟨a,u,rfl⟩:=zg h;go_enter Tryz.func234,Tryz.ntmps234
 go_wp2
 go_loopw [8] (fun t A=>∃ k:Nat,k<=l.length/\t=.int .i64 k/\(∀ j (d:j<l.length),j<k->(l[j]==s)=false)/\Fr Nil w A) (fun t _=>l.length-(intOf t).toNat)
 case atStart=>exact⟨0,Iq _,rfl,fun j _ d=>absurd d (IY _),U _ _⟩
 case round =>
  obtain⟨k,J,rfl,d,q⟩:=hrel;by_cases o:k<l.length
  .have hr:=ze h q (fun _ _=>id)
   obtain⟨g,i,C,_,_⟩:=zz hr (by omega);obtain⟨rfl,rfl⟩:a=some ⟨g,0,none⟩/\u=i:=by simpa using C
   have I:=own_cell? hr k (.string l[k]) (by simp[strs,o]);have p:=fFS s l[k];cases hm:(s==l[k]) with
   | true =>
    have y:(s.toList==l[k].toList)=true:=by rw[<- p];exact hm
    have b:l.any (·==s)=true:=by rw[EI];exact⟨l[k],Ia o,by rw[Z5] at hm |-;exact hm.symm⟩
    have c:=Z b;clear p hm d b hr
    go_wp2
    go_ret;exact⟨_,rfl,by rw[c.out];simp,q⟩
   | false =>
    have y:(s.toList==l[k].toList)=false:=by rw[<- p];exact hm
    have m:∀ j (d:j<l.length),j<k+1->(l[j]==s)=false:=by
     intro j f D;by_cases e:j=k
     .subst e
      cases h:(l[j]==s) with
      | false=>rfl
      | true=>rw[Z5] at h;rw[<- h,Z5.2 rfl] at hm;cases hm
     .exact d j f (by omega)
    have B:=Z m;clear p hm d m hr
    go_wp2
    exact⟨⟨k+1,by omega,by go_num,B.out,q⟩,by simp[intOf];omega⟩
  .have b:l.any (·==s)=false:=by
    rw[List.any_eq_false];intro x G;obtain⟨j,f,rfl⟩:=GK G;rw[d j f (by omega)]
    decide
   have c:=Z b;clear d b
   go_wp2
   go_ret;exact⟨_,rfl,by rw[c.out];simp,q⟩
theorem Tz(v:Value)(l:List ByteArray)(s:ByteArray)(w:World)(h:w.ownsRow 0 9 1 v l.length (strs l)) :
 Calls Tryz.prog 218 #[v,.string s] w fun e f=>e=.returned (.bool (l.any (·==s)))/\Fr Nil w f:=by
 have b:=Z (P2 v l s w h);clear h;go_enter Tryz.func218,Tryz.ntmps218
 go_wp2_with (refine b.out.mono ?_;rintro e g ⟨r,rfl,a,d⟩;have c:=Z a;clear a)
 go_ret;exact⟨by rw[<- c.out];rfl,d⟩
end Go.Proofs.YtkhnggkkiefcdaaGreatDoor
namespace Go.Proofs.YtkhnggkkiefcdaaGreatDoor
open Go.RowKit
set_option maxRecDepth 100000
set_option maxHeartbeats 8000000
def Y1:ByteArray:=⟨#[98,97,115,101]⟩
theorem Lh{l:List (Nat × ByteArray)}{s:Nat}(h:s∉ZB l):zX zP (ZB l) s=false:=by
 rcases Gu (low zP (ZB l) s) l.length with a|a
 .rw[XH a rfl,Hy]
  rintro e;exact h (by rw[<- e];exact IU (Ia a))
 .exact Wu (by simpa using a)
theorem Kh{l:List (Nat × ByteArray)}{s:Nat}{x:ByteArray}{e:Nat × ByteArray}:e∈Wg l s x↔e∈l\/e=(s,x):=by
 have h:e∈l↔e∈l.take (low zP (ZB l) s)\/e∈l.drop (low zP (ZB l) s):=by
  rw[<- JW,Ik]
 rw[h];simp only[Wg,JW,JY]
 constructor
 .rintro((h|h)|h)
  .exact .inl (.inl h)
  .exact .inr h
  .exact .inl (.inr h)
 .rintro((h|h)|h)
  .exact .inl (.inl h)
  .exact .inr h
  .exact .inl (.inr h)
theorem P3(n:Nat):Lib.hasPrefix (zu zL n).data.toList Y1.data.toList=false/\Lib.atoi (zu zL n).data.toList=none:=by
 have e:(zu zL n).data.toList=108::111::103::Lib.decDigits n:=by
  simp only[zu,zL,Fv,Fl,Wo]
  rfl
 rw[e];exact⟨rfl,rfl⟩
theorem Ki(n:Nat)(a:n<10^15):(zu zL n).size<=18:=by
 have h:=Wn 14 n a;have e:(zu zL n).data.toList.length=3+(Lib.decDigits n).length:=by
  simp only[zu,zL,Fv,Fl,Wo];simp;omega
 have b:(zu zL n).size=(zu zL n).data.toList.length:=by simp
 omega
end Go.Proofs.YtkhnggkkiefcdaaGreatDoor
namespace Go.Proofs.YtkhnggkkiefcdaaGreatDoor
open Go.RowKit
theorem OQ{α:Type}(f:α->Nat):∀ (a b:List α),a.Pairwise (fun x y=>f x<f y)->b.Pairwise (fun x y=>f x<f y)->(∀ e,e∈a↔e∈b)->a=b
 | [],[],_,_,_=>rfl
 | [],y::b,_,_,h=>absurd ((h y).2 (JX ..)) (by simp)
 | x::a,[],_,_,h=>absurd ((h x).1 (JX ..)) (by simp)
 | x::a,y::b,d,g,h=>by
  rw[Ep] at d g;have i:x=y:=by
   rcases Ix.1 ((h x).1 (JX ..)) with e|e
   .exact e
   .rcases Ix.1 ((h y).2 (JX ..)) with e2|e2
    .exact e2.symm
    .have c:=g.1 x e
     have j:=d.1 y e2;omega
  subst i;rw[OQ f a b d.2 g.2 fun e=>?_]
  constructor
  .intro he
   rcases Ix.1 ((h e).1 (JV _ he)) with rfl|c
   .have:=d.1 e he;omega
   .exact c
  .intro he
   rcases Ix.1 ((h e).2 (JV _ he)) with rfl|c
   .have:=g.1 e he;omega
   .exact c
end Go.Proofs.YtkhnggkkiefcdaaGreatDoor
namespace Go.Proofs.YtkhnggkkiefcdaaGreatDoor
open Go.RowKit
set_option maxRecDepth 100000
set_option maxHeartbeats 8000000
def Uc(l:List UInt8):Nat:=l.foldl (fun a c=>a*10+(c.toNat-48)) 0
theorem Oi(l:List UInt8)(c:UInt8):Uc (l++[c])=Uc l*10+(c.toNat-48):=by simp[Uc]
theorem VN(u:Nat):Uc (Lib.decDigits u)=u:=by
 induction u using Nat.strongRecOn with
 | _ u a =>
  rw[Lib.decDigits];by_cases h:u<10
  .rw[Cn h]
   have:(UInt8.ofNat (48+u)).toNat=48+u:=by simp;omega
   simp only[Uc,Hd,List.foldl_nil,this];omega
  .rw[dif_neg h,Oi,a (u / 10) (by omega)]
   have:(UInt8.ofNat (48+u%10)).toNat=48+u%10:=by simp;omega
   rw[this];omega
theorem Kj{a b:Nat}(h:Xx a=Xx b):a=b:=by
 have c:Lib.itoa (a:Int)=Lib.itoa (b:Int):=by
  have:=GP (fun x:ByteArray=>x.data.toList) h
  simpa [Xx] using this
 have e:∀ n:Nat,Lib.itoa (n:Int)=Lib.decDigits n:=by
  intro n;unfold Lib.itoa;rw[Ie (by omega)];simp
 rw[e,e] at c;rw[<- VN a,<- VN b,c]
theorem Rc{k:ByteArray}{a b:Nat}(h:zu k a=zu k b):a=b:=by
 refine Kj ?_;have c:(zu k a).data.toList=(zu k b).data.toList:=by rw[h]
 unfold zu at c;simp only[Fv,Fl,List.append_cancel_left_eq] at c;exact EM (FZ c)
theorem NP(k:ByteArray)(n:Nat):(zu k n).size=k.size+(Xx n).size:=by
 unfold zu;simp
theorem Kk(n:Nat):zu zL n≠ByteArray.empty:=by
 intro h;have:(zu zL n).size=0:=by rw[h];rfl
 rw[NP] at this;have a:zL.size=3:=rfl;omega
def DM.Bi(M:DM):Nat:=(M.dir.map fun e=>(M.file e.2).bytes.length).sum
theorem P4{n:Int}(a:0<=n)(b:n<9223372036854775808):wrap64 n=n:=by unfold wrap64;omega
theorem DM.yA(M:DM)(h:M.Bi<4611686018427387904):M.used=M.Bi:=by
 have b:∀ (d:Dir) (a:Nat),a+(d.map fun e=>(M.file e.2).bytes.length).sum<4611686018427387904 ->
  d.foldl (fun n e=>wrap64 (n+(M.file e.2).bytes.length)) (a:Int)=((a+(d.map fun e=>(M.file e.2).bytes.length).sum:Nat):Int):=by
  intro d
  induction d with
  | nil=>intro a _;simp
  | cons e d f =>
   intro a c;simp only[Iw,GG] at c;rw[Hd,P4 (by omega) (by omega)];have:=f (a+(M.file e.2).bytes.length) (by omega);rw[show((a:Int)+((M.file e.2).bytes.length:Int))=((a+(M.file e.2).bytes.length:Nat):Int) from by push_cast;rfl,this];simp only[Iw,GG]
   congr 1
   omega
 have:=b M.dir 0 (by unfold DM.Bi at h;omega);unfold DM.used DM.BX;rw[Ij];rw[show(0:Int)=((0:Nat):Int) from rfl,this];unfold DM.Bi;simp
theorem Rd{d:Dir}{a:ByteArray}(h:∀ e∈d,e.1≠a):d.look a=none:=by
 have c:d.find? (fun e=>e.1==a)=none:=by
  rw[FN];intro e b x;exact h e b (Z5.1 x)
 unfold Dir.look;rw[c]
 rfl
theorem Re{f n:Nat}(size:Nat->Nat):∀ (d:Dir),(d.map (·.2)).Nodup->(d.map fun e=>if e.2=f then size e.2+n else size e.2).sum<=(d.map fun e=>size e.2).sum+n
 | [],_=>by simp
 | e::d,h=>by
  simp only[Iw,GS] at h;simp only[Iw,GG];by_cases a:e.2=f
  .rw[Io a]
   have:(d.map fun e=>if e.2=f then size e.2+n else size e.2)=d.map fun e=>size e.2:=by
    apply Gs
    intro x c;rw[Ie];intro b;exact h.1 (by rw[a,<- b];exact IU c)
   rw[this];omega
  .rw[Ie a]
   have:=Re (f:=f) (n:=n) size d h.2;omega
structure VOk(u:Ver):Prop where
 node:Zp u.node
 nat:u.Nat
 size:u.value.size<=128
 one:1<=u.seq
 gone:u.gone=false
theorem Lj{n:Int}(h:isN n):(zk n.toNat).length<=9:=zC (by unfold isN at h;omega)
theorem P5:∀ l:List Nat,(∀ x∈l,x<9223372036854775808)->((l.map zk).flatten).length<=9*l.length
 | [],_=>by simp
 | a::l,h=>by
  have:=P5 l (fun x b=>h x (JV _ b));have c:=zC (h a (JX ..));simp only[Iw,GX,JR,Ih];omega
theorem Ll(l:List Nat)(a:∀ x∈l,x<9223372036854775808)(b:l.length<9223372036854775808):(YU l).length<=9+9*l.length:=by
 unfold YU;rw[JR];have c:=zC b;have:=P5 l a;omega
theorem WW(s:ByteArray)(h:s.size<1000000000):(Z1 s.data.toList).length<=9+s.size:=by
 have a:s.data.toList.length=s.size:=by rw[Gj];rfl
 unfold Z1;rw[JR,a];have:=zC (n:=s.size) (by omega);omega
theorem Kl{u:Ver}(h:VOk u):(ZM u).length<=200:=by
 unfold ZM;simp only[JR];have g:=Lj h.nat.node;have i:=Lj h.nat.seq;have f:=Ll [u.o0.toNat,u.o1.toNat,u.o2.toNat,u.o3.toNat] (by
  have a:=h.nat.o0;have b:=h.nat.o1;have c:=h.nat.o2;have d:=h.nat.o3;unfold isN at a b c d;intro x e;simp only[Ix,GT,EN] at e;rcases e with rfl|rfl|rfl|rfl <;> omega) (by simp only[Ih,IR];omega)
 have j:=WW u.value h.nat.size;have:=h.size;simp only[Ih,IR] at f;omega
theorem Ud(l:List Ver)(h:∀ u∈l,VOk u)(g:l.length<=5):(ZA l).length<=1009:=by
 unfold ZA;rw[JR];have e:=zC (n:=l.length) (by omega);have b:∀ l:List Ver,(∀ u∈l,VOk u)->((l.map ZM).flatten).length<=200*l.length:=by
  intro l
  induction l with
  | nil=>intro _;simp
  | cons a l d =>
   intro h;have:=d (fun x c=>h x (JV _ c));have f:=Kl (h a (JX ..));simp only[Iw,GX,JR,Ih];omega
 have:=b l h;omega
theorem XL(l:List UInt8)(h:l.length<9223372036854775808):(zS l).length<=9+l.length:=by
 unfold zS;rw[JR];have:=zC h;omega
theorem YN(l:List UInt8):(zp l).size=l.length:=rfl
theorem Lm{n:Nat}(h:n<9223372036854775808):(zj (.inl n)).size<=2000:=by
 show(zp (Xt n)).size<=2000;rw[YN];unfold Xt;have b:=zC (n:=1) (by decide);have c:=zC h;have a:=XL (zk 1++zk n) (by rw[JR];omega);rw[JR] at a;omega
theorem YO{a:ByteArray}{l:List Ver}(b:zJ a=true)(h:∀ u∈l,VOk u)(d:l.length<=5):(zj (.inr (.inl (a,l)))).size<=2000:=by
 show(zp (Xu a l)).size<=2000;rw[YN];unfold zJ at b;simp only[Im] at b;unfold Xu;have e:=zC (n:=2) (by decide);have f:=WW a (by omega);have g:=Ud l h d;have c:=XL (zk 2++(Z1 a.data.toList++ZA l)) (by simp only[JR];omega);simp only[JR] at c;omega
theorem XC{b:Nat}{a:ByteArray}(h:b<9223372036854775808)(g:a.size<=64):(zj (.inr (.inr (.inl (b,a))))).size<=2000:=by
 show(zp (XG b a)).size<=2000;rw[YN];unfold XG;have d:=zC (n:=3) (by decide);have e:=WW a (by omega);have f:=zC h;have c:=XL (zk 3++(zk b++Z1 a.data.toList)) (by simp only[JR];omega);simp only[JR] at c;omega
theorem Rf:(zj (.inr (.inr (.inr ())))).size<=2000:=by
 show(zp Wy).size<=2000;rw[YN];unfold Wy;have a:=zC (n:=4) (by decide);have b:=XL (zk 4) (by omega);omega
theorem W9{a:ByteArray}{l:List Ver}(b:zJ a=true)(h:∀ u∈l,VOk u)(c:l.length<=5):FOk (.inr (.inl (a,l))):=by
 unfold zJ at b;simp only[Im] at b;have:=Ud l h c;exact⟨fun v d=>(h v d).nat,by show l.length<_;omega,by show a.size<_;omega,by show(ZA l).length<=_;omega⟩
structure zY(S:SM):Prop where
 Bp:Yb S.keys
 key:∀ e∈S.keys,Ys e.2/\e.2.length<=4/\∀ u∈e.2,VOk u
 hlen:S.hints.length<=32
 names:∀ e∈S.keys,zJ e.1=true
 some:∀ e∈S.keys,e.2≠[]
 text:∀ x∈S.hints,x.1<4/\x.2.size<=64
theorem P6(K:Keys)(a:ByteArray):zr K a=[]\/∃ e∈K,e.1=a/\e.2=zr K a:=by
 cases ha:zX zh (K.map Prod.fst) a with
 | false=>exact .inl (by unfold zr;rw[ha];rfl)
 | true =>
  obtain⟨l,c,b⟩:=Vs ha;refine .inr ⟨(a,l),?_,rfl,b.symm⟩;rw[c];simp
theorem zY.get{S:SM}(h:zY S)(a:ByteArray):Ys (zr S.keys a)/\(zr S.keys a).length<=4/\∀ u∈zr S.keys a,VOk u:=by
 rcases P6 S.keys a with e|⟨e,d,_,c⟩
 .rw[e]
  exact⟨List.Pairwise.nil,by simp,fun u f=>absurd f (by simp)⟩
 .rw[<- c]
  exact h.key e d
theorem WH{K:Keys}{b:ByteArray}{l:List Ver}:∀ e∈Zt K b l,e∈K\/e=(b,l):=by
 intro e a;simp only[Zt,JW,JY] at a;rcases a with(a|rfl)|a
 .exact .inl (IJ a)
 .exact .inr rfl
 .exact .inl (Ir a)
theorem WI{K:Keys}{b:ByteArray}:∀ e∈YK K b,e∈K:=by
 intro e a;unfold YK at a;split at a
 .rcases JW.1 a with a|a
  .exact IJ a
  .exact Ir a
 .exact a
theorem UR{K:Keys}(a:ByteArray)(l:List Ver)(h:Yb K):Yb (Zt K a l):=by
 unfold Yb at h |-;cases ha:zX zh (K.map Prod.fst) a with
 | true =>
  obtain⟨g,f,_⟩:=Vs ha;have e:(Zt K a l).map Prod.fst=K.map Prod.fst:=by
   have c:K.map Prod.fst=(K.take (low zh (K.map Prod.fst) a)++(a,g)::K.drop (low zh (K.map Prod.fst) a+1)).map Prod.fst:=GP (List.map Prod.fst) f;unfold Zt;rw[Io ha]
   conv=>rhs;rw[c]
   simp
  rw[e];exact h
 | false =>
  have:=Asc.ins Ze (b:=a) h (fun d e=>by rw[Um d,e] at ha;rw[Z5.2 rfl] at ha;cases ha);unfold Zt;simp only[ha,Ge,Hf]
  simpa [List.map_take,List.map_drop] using this
theorem P7{K:Keys}(a:ByteArray)(h:Yb K):Yb (YK K a):=by
 unfold Yb at h |-;unfold YK;split
 .have:=Asc.del h (low zh (K.map Prod.fst) a)
  simpa [List.map_take,List.map_drop] using this
 .exact h
theorem P8(K:Keys)(a:ByteArray)(l:List Ver):(Zt K a l).length<=K.length+1:=by
 unfold Zt;simp only[JR,JU,Ib,JZ];split <;> omega
theorem P9(K:Keys)(a:ByteArray):(YK K a).length<=K.length:=by
 unfold YK;split
 .simp only[JR,JU,Ib];omega
 .exact JS _
theorem zY.holds{S:SM}(h:zY S)(b:ByteArray)(f:zJ b=true)(l:List Ver)(d:Ys l)(i:l.length<=4)(j:∀ u∈l,VOk u):zY (S.holds b l):=by
 unfold SM.holds;split
 .exact⟨P7 b h.Bp,fun e a=>h.key e (WI e a),h.hlen,fun e a=>h.names e (WI e a),fun e a=>h.some e (WI e a),h.text⟩
 .rename_i hne
  exact⟨UR b l h.Bp,fun e a=>(WH e a).elim (h.key e) (fun c=>by subst c;exact⟨d,i,j⟩),h.hlen,fun e a=>(WH e a).elim (h.names e) (fun c=>by subst c;exact f),fun e a=>(WH e a).elim (h.some e) (fun c=>by subst c;exact hne),h.text⟩
theorem Ln(S:SM)(a:ByteArray)(l:List Ver):(S.holds a l).keys.length<=S.keys.length+1:=by
 unfold SM.holds;simp only;split
 .exact Gc (P9 S.keys a)
 .exact P8 S.keys a l
theorem zY.CA{S:SM}(h:zY S)(n:Nat):zY {S with CA:=n}:=⟨h.Bp,h.key,h.hlen,h.names,h.some,h.text⟩
abbrev Seg:=List Fact × List UInt8
def Zq(s:Seg):List UInt8:=zE s.1++s.2
def zZ(a:List Seg):List Fact:=(a.map Prod.fst).flatten
theorem Vj(a b:List Seg):zZ (a++b)=zZ a++zZ b:=by simp[zZ]
def Torn(l:List UInt8):Prop:=∃ a,l<+:zS a/\l≠zS a/\a.length<9223372036854775808
theorem US:Torn []:=⟨[],(QY []).1,(QY []).2,by decide⟩
def ZO(x:Fact):Prop:=FRead x/\(zw x).length<9223372036854775808
def Wp(s:Seg):Prop:=(∀ x∈s.1,ZO x)/\Torn s.2
def JF(a:List Seg):Prop:=∀ s∈a,Wp s
theorem J0{f n:Nat}(size:Nat->Nat):∀ l:List Nat,l.Nodup->(l.map fun g=>if g=f then size g+n else size g).sum<=(l.map size).sum+n
 | [],_=>by simp
 | a::l,h=>by
  simp only[GS] at h;simp only[Iw,GG];by_cases e:a=f
  .subst e
   have:(l.map fun g=>if g=a then size g+n else size g)=l.map size:=by
    apply Gs
    intro x b;rw[Ie (fun e=>h.1 (by rw[<- e];exact b))]
   rw[this,Io rfl];omega
  .rw[Ie e]
   have:=J0 (f:=f) (n:=n) size l h.2;omega
theorem OR(s:Nat->Nat):∀ (l m:List Nat),l.Nodup->(∀ x∈l,x∈m)->(l.map s).sum<=(m.map s).sum
 | [],m,_,_=>Iq _
 | a::l,m,h,c=>by
  simp only[GS] at h;obtain⟨e,f,rfl⟩:=Er (c a (JX ..));have:=OR s l (e++f) h.2 (fun x d=>by
   have b:=c x (JV _ d);simp only[JW,Ix] at b |-;rcases b with b|b|b
   .exact .inl b
   .exact absurd (b▸d) h.1
   .exact .inr b)
  simp only[Ip,Fa,Iw,GG] at this |-;omega
structure Bk(M:DM)(t k:Nat):Prop where
 c0:0<=M.calls
 calls:M.calls<=(1000000*t+k:Nat)
 f0:0<=M.CG
 fr:M.CG<=M.refused
 rc:M.refused<=M.calls
 r0:0<=M.room
 r1:M.room<9223372036854775808
 part:0<=M.part
 Ab:∀ g∈M.ids,(M.file g).bytes.length<=2000*(t+100)
 Ah:M.ids.Nodup
 Ac:M.ids.length<=t
 Bq:∀ e∈M.dir,e.2∈M.ids
 once:(M.dir.map (·.2)).Nodup
 CD:M.CD.length<=1000000*t+k
 Bh:∀ d∈M.safe::M.CD,d.length<=t
 dir:M.dir.length<=t
abbrev Bd (M:DM)(t:Nat):Prop:=Bk M t 0
theorem Bk.more{M:DM}{t u k:Nat}(h:Bk M t k)(a:t<=u):Bk M u k :=
 ⟨h.c0,by have:=h.calls;omega,h.f0,h.fr,h.rc,h.r0,h.r1,h.part,fun g c=>by have:=h.Ab g c;omega,h.Ah,JT h.Ac a,h.Bq,h.once,by have:=h.CD;omega,fun d b=>JT (h.Bh d b) a,JT h.dir a⟩
theorem Bk.AR{M:DM}{t k n:Nat}(h:Bk M t k)(a:k<=n):Bk M t n :=
 ⟨h.c0,by have:=h.calls;omega,h.f0,h.fr,h.rc,h.r0,h.r1,h.part,h.Ab,h.Ah,h.Ac,h.Bq,h.once,by have:=h.CD;omega,h.Bh,h.dir⟩
theorem Bk.close{M:DM}{t k:Nat}(h:Bk M t k)(c:k<=1000000):Bd M (t+1) :=
 ⟨h.c0,by have:=h.calls;omega,h.f0,h.fr,h.rc,h.r0,h.r1,h.part,fun g b=>by have:=h.Ab g b;omega,h.Ah,Gc h.Ac,h.Bq,h.once,by have:=h.CD;omega,fun d a=>Gc (h.Bh d a),Gc h.dir⟩
theorem Rg(s:Nat->Nat)(B:Nat):∀ l:List Nat,(∀ g∈l,s g<=B)->(l.map s).sum<=l.length*B
 | [],_=>by simp
 | a::l,h=>by
  have c:=h a (JX ..);have d:=Rg s B l (fun g b=>h g (JV _ b));rw[Iw,GG,Ih,Nat.succ_mul];omega
theorem Bk.Bi{M:DM}{t k:Nat}(h:Bk M t k)(c:t<=1000000):M.Bi<=2000200000000000:=by
 have a:=OR (fun g=>(M.file g).bytes.length) (M.dir.map (·.2)) M.ids h.once (fun x d=>by
  obtain⟨e,b,rfl⟩:=Ic.1 d;exact h.Bq e b)
 rw[Ho] at a;have i:=Rg (fun g=>(M.file g).bytes.length) (2000*(t+100)) M.ids h.Ab;have j:M.ids.length*(2000*(t+100))<=1000000*(2000*1000100):=Nat.mul_le_mul (JT h.Ac c) (by omega);have l:M.Bi<=(M.ids.map fun g=>(M.file g).bytes.length).sum:=a;omega
theorem Bk.file{M:DM}{t k:Nat}(h:Bk M t k){g:Nat}(a:g∈M.ids):(M.file g).bytes.length<=2000*(t+100):=h.Ab g a
structure Tick(M M':DM)(e:Option Int):Prop where
 cut:M'.cut=M.cut
 fail:M'.fail=M.fail
 le:M.calls<=M'.calls
 BZ:e=none->∀ c,M.calls<c->c<=M'.calls->c≠M.cut/\c≠M.fail
 bad:e=some 9->M.dead=false->M.calls<M'.calls/\(M'.calls=M.cut/\M'.dead=true\/M'.calls=M.fail/\M'.dead=false)
def Ans(M a:DM)(e:Option Int):Prop :=
 ((e=none/\a.refused=M.refused/\a.CG=M.CG/\a.dead=M.dead) \/
 (a.refused=M.refused+1/\((e=some 9/\a.CG=M.CG)\/(e=some 10/\a.CG=M.CG+1/\a.dead=M.dead))))/\Tick M a e
theorem Ans.refl(M:DM):Ans M M none:=⟨.inl ⟨rfl,rfl,rfl,rfl⟩,⟨rfl,rfl,Gt _,fun _ c a b=>absurd a (Int.not_lt.2 b),fun e=>by cases e⟩⟩
theorem Ans.trans{q M2 t:DM}{e:Option Int}(h:Ans q M2 none)(k:Ans M2 t e):Ans q t e:=by
 obtain⟨h,g⟩:=h;obtain⟨k,o⟩:=k;have y:M2.dead=q.dead:=by
  rcases h with⟨_,_,_,c⟩|⟨_,⟨h,_⟩|⟨h,_⟩⟩
  .exact c
  .cases h
  .cases h
 refine⟨?_,o.cut.trans g.cut,o.fail.trans g.fail,Int.le_trans g.le o.le,fun r c s x=>?_,fun r s=>?_⟩
 .rcases h with⟨_,a,b,c⟩|⟨_,⟨h,_⟩|⟨h,_⟩⟩
  .rw[a,b,c] at k
   exact k
  .cases h
  .cases h
 .by_cases hc:c<=M2.calls
  .exact g.BZ rfl c s hc
  .have:=o.BZ r c (by omega) x
   rw[g.cut,g.fail] at this;exact this
 .have:=o.bad r (y.trans s)
  rw[g.cut,g.fail] at this;exact⟨Int.lt_of_le_of_lt g.le this.1,this.2⟩
structure Pass(M:DM):Prop where
 dead:M.dead=false
 cut:M.calls+1≠M.cut
 fail:M.calls+1≠M.fail
structure Stop(M:DM)(d:Bool):Prop where
 dead:M.dead=true->d=true
 xp:M.dead=false->M.calls+1=M.cut/\d=true\/M.calls+1=M.fail/\d=false
theorem YZ{M:DM}{t k:Nat}(h:Bk M t k)(o:t<=1000000)(m:k<=2000000) :
 (M.Cz=(true,0,{M with calls:=M.calls+1})/\Pass M)\/(∃ b d,M.Cz=(b,9,{M with calls:=M.calls+1,refused:=M.refused+1,dead:=d})/\(b=true->d=true)/\Stop M d):=by
 have f:=h.calls;have g:=h.c0;have i:=h.rc;have j:=h.fr;have l:=h.f0;have a:wrap64 (M.calls+1)=M.calls+1:=by unfold wrap64;omega
 have c:wrap64 (M.refused+1)=M.refused+1:=by unfold wrap64;omega
 unfold DM.Cz;simp only[a,c];split
 .rename_i hd
  exact .inr ⟨false,true,by rw[<- hd],(fun e=>by cases e),⟨fun _=>rfl,fun e=>by rw[hd] at e;cases e⟩⟩
 .rename_i hd
  simp only[Bool.not_eq_true] at hd;split
  .rename_i hc
   exact .inr ⟨true,true,rfl,fun _=>rfl,fun _=>rfl,fun _=>.inl ⟨by simpa using hc,rfl⟩⟩
  .rename_i hc
   split
   .rename_i hf
    exact .inr ⟨false,false,by rw[<- hd],(fun e=>by cases e),⟨(fun e=>by rw[hd] at e;cases e),fun _=>.inr ⟨by simpa using hf,rfl⟩⟩⟩
   .rename_i hf
    exact .inl ⟨rfl,hd,by simpa using hc,by simpa using hf⟩
def DM.no(M:DM)(d:Bool):DM:={M with calls:=M.calls+1,refused:=M.refused+1,dead:=d}
theorem Bk.no{M:DM}{t k:Nat}(h:Bk M t k)(d:Bool):Bk (M.no d) t (k+1) where
 c0:=by have:=h.c0;show 0<=M.calls+1;omega
 calls:=by have:=h.calls;show M.calls+1<=_;omega
 f0:=h.f0
 fr:=by have:=h.fr;show M.CG<=M.refused+1;omega
 rc:=by have:=h.rc;show M.refused+1<=M.calls+1;omega
 r0:=h.r0
 r1:=h.r1
 part:=h.part
 Ab:=h.Ab
 Ah:=h.Ah
 Ac:=h.Ac
 Bq:=h.Bq
 once:=h.once
 CD:=Gc h.CD
 Bh:=h.Bh
 dir:=h.dir
theorem Ans.no{M a:DM}{d:Bool}(k:Stop M d)(h:a.refused=(M.no d).refused)(b:a.CG=M.CG)(c:a.calls=M.calls+1:=by rfl)(f:a.cut=M.cut:=by rfl)(g:a.fail=M.fail:=by rfl)(i:a.dead=d:=by rfl):Ans M a (some 9) :=
 ⟨.inr ⟨h,.inl ⟨rfl,b⟩⟩,f,g,(by omega),(fun e=>by cases e),fun _ j=>⟨by omega,by rw[c,i];exact k.xp j⟩⟩
def DM.BN(M:DM)(f:Nat):DM:={M with calls:=M.calls+1,file:=fun g=>if g=f then {M.file f with safe:=(M.file f).bytes.length} else M.file g}
theorem Y7(M:DM)(f g:Nat):((M.BN f).file g).bytes=(M.file g).bytes:=by
 show(if g=f then {M.file f with safe:=(M.file f).bytes.length} else M.file g:FM).bytes=_;split
 .rename_i e;subst e;rfl
 .rfl
theorem WJ(M:DM)(f g:Nat):((M.BN f).file g).safe=if g=f then(M.file f).bytes.length else(M.file g).safe:=by
 show(if g=f then {M.file f with safe:=(M.file f).bytes.length} else M.file g:FM).safe=_;split <;> rfl
theorem sync_any{M:DM}{t k:Nat}(h:Bk M t k)(j:t<=1000000)(g:k<=2000000){a:ByteArray}{f:Nat}(i:M.dir.look a=some f) :
 (M.sync a=(0,M.BN f)/\Pass M)\/∃ d,M.sync a=(9,M.no d)/\Stop M d:=by
 unfold DM.sync;rw[i];rcases YZ h j g with⟨e,c⟩|⟨b,d,e,_,c⟩
 .refine .inl ⟨?_,c⟩
  simp only[e,Hp]
  rfl
 .refine .inr ⟨d,?_,c⟩
  simp only[e]
  rfl
theorem Bk.BN{M:DM}{t k:Nat}(h:Bk M t k)(f:Nat):Bk (M.BN f) t (k+1) where
 c0:=by have:=h.c0;show 0<=M.calls+1;omega
 calls:=by have:=h.calls;show M.calls+1<=_;omega
 f0:=h.f0
 fr:=h.fr
 rc:=by have:=h.rc;show M.refused<=M.calls+1;omega
 r0:=h.r0
 r1:=h.r1
 part:=h.part
 Ab:=fun g a=>by rw[Y7];exact h.Ab g a
 Ah:=h.Ah
 Ac:=h.Ac
 Bq:=h.Bq
 once:=h.once
 CD:=Gc h.CD
 Bh:=h.Bh
 dir:=h.dir
theorem Ans.ok{M a:DM}(d:Pass M)(h:a.refused=M.refused)(b:a.CG=M.CG)(j:a.dead=M.dead)(o:a.calls=M.calls+1:=by rfl)(k:a.cut=M.cut:=by rfl)(l:a.fail=M.fail:=by rfl):Ans M a none :=
 ⟨.inl ⟨rfl,h,b,j⟩,k,l,by omega,fun _ c m b=>(show c=M.calls+1 by omega)▸⟨d.cut,d.fail⟩,fun e=>by cases e⟩
def DM.BO(M:DM):DM:={M with calls:=M.calls+1,safe:=M.dir,CD:=[]}
theorem UB{M:DM}{t k:Nat}(h:Bk M t k)(f:t<=1000000)(c:k<=2000000) :
 (M.CQ=(0,M.BO)/\Pass M)\/∃ d,M.CQ=(9,M.no d)/\Stop M d:=by
 unfold DM.CQ;rcases YZ h f c with⟨e,a⟩|⟨b,d,e,_,a⟩
 .refine .inl ⟨?_,a⟩
  simp only[e,Hp]
  rfl
 .refine .inr ⟨d,?_,a⟩
  simp only[e]
  rfl
theorem Bk.BO{M:DM}{t k:Nat}(h:Bk M t k):Bk M.BO t (k+1) where
 c0:=by have:=h.c0;show 0<=M.calls+1;omega
 calls:=by have:=h.calls;show M.calls+1<=_;omega
 f0:=h.f0
 fr:=h.fr
 rc:=by have:=h.rc;show M.refused<=M.calls+1;omega
 r0:=h.r0
 r1:=h.r1
 part:=h.part
 Ab:=h.Ab
 Ah:=h.Ah
 Ac:=h.Ac
 Bq:=h.Bq
 once:=h.once
 CD:=Iq _
 Bh:=fun x a=>by
  rcases Ix.1 a with e|e
  .rw[e];exact h.dir
  .cases e
 dir:=h.dir
def DM.born(M:DM)(a:ByteArray)(f:Nat)(r:Int)(d:Bool):DM:={M with calls:=M.calls+1,refused:=r,dead:=d,ids:=f::M.ids,file:=fun g=>if g=f then⟨[],0⟩ else M.file g,dir:=M.dir++[(a,f)],CD:=M.CD++[M.dir++[(a,f)]]}
theorem TA{M:DM}{t k:Nat}(h:Bk M t k)(m:t<=1000000)(j:k<=2000000){a:ByteArray}(g:a≠ByteArray.empty)(l:M.dir.look a=none)(f:Nat) :
 (M.create a f=(0,M.born a f M.refused M.dead)/\Pass M)\/(∃ d,M.create a f=(9,M.no d)/\Stop M d)\/(M.create a f=(9,M.born a f (M.refused+1) true)/\Stop M true):=by
 unfold DM.create;rw[Ie (by rw[l];rintro(e|e);exact g e;cases e)];rcases YZ h m j with⟨e,c⟩|⟨b,d,e,i,c⟩
 .refine .inl ⟨?_,c⟩
  simp only[e,Hp]
  rfl
 .cases b with
  | false =>
   refine .inr (.inl ⟨d,?_,c⟩);simp only[e]
   rfl
  | true =>
   rw[i rfl] at e c;refine .inr (.inr ⟨?_,c⟩);simp only[e,Hp]
   rfl
theorem Bd.born{M:DM}{t:Nat}(h:Bd M t)(c:ByteArray)(f:Nat)(o:f∉M.ids)(r:Int)(d:Bool)(u:M.refused<=r)(v:r<=M.refused+1):Bd (M.born c f r d) (t+1) where
 c0:=by have:=h.c0;show 0<=M.calls+1;omega
 calls:=by have:=h.calls;show M.calls+1<=_;omega
 f0:=h.f0
 fr:=by have:=h.fr;show M.CG<=r;omega
 rc:=by have:=h.rc;show r<=M.calls+1;omega
 r0:=h.r0
 r1:=h.r1
 part:=h.part
 Ab:=fun g s=>by
  show(if g=f then(⟨[],0⟩:FM) else M.file g).bytes.length<=_;split
  .simp
  .rcases Ix.1 s with e|e
   .contradiction
   .have:=h.Ab g e;omega
 Ah:=GS.2 ⟨o,h.Ah⟩
 Ac:=DE h.Ac
 Bq:=fun e i=>by
  rcases JW.1 i with i|i
  .exact JV _ (h.Bq e i)
  .rw[JY] at i;subst i;exact JX ..
 once:=by
  show((M.dir++[(c,f)]).map (·.2)).Nodup;rw[Ip,Gl];refine⟨h.once,by simp,fun a q b m e=>?_⟩;simp only[Iw,Gf,JY] at m;obtain⟨x,l,rfl⟩:=Ic.1 q;exact o (by rw[<- m,<- e];exact h.Bq x l)
 CD:=by show(M.CD++[_]).length<=_;rw[JR,JZ];have:=h.CD;omega
 Bh:=fun x l=>by
  have k:=h.Bh x;have j:x∈M.safe::(M.CD++[M.dir++[(c,f)]]):=l;simp only[Ix,JW,GT,EN] at j k;rcases j with e|e|e
  .exact Gc (k (.inl e))
  .exact Gc (k (.inr e))
  .rw[e,JR,JZ];have:=h.dir;omega
 dir:=by show(M.dir++[_]).length<=_;rw[JR,JZ];have:=h.dir;omega
def DM.put(M:DM)(f:Nat)(l:List UInt8)(r u:Int)(d:Bool):DM:={M with calls:=M.calls+1,refused:=r,CG:=u,dead:=d,file:=fun g=>if g=f then {M.file f with bytes:=(M.file f).bytes++l} else M.file g}
theorem Yn(M:DM)(f:Nat)(l:List UInt8)(r u:Int)(d:Bool)(g:Nat):((M.put f l r u d).file g).bytes=if g=f then(M.file f).bytes++l else(M.file g).bytes:=by
 show(if g=f then {M.file f with bytes:=(M.file f).bytes++l} else M.file g:FM).bytes=_;split <;> rfl
theorem UT(M:DM)(f:Nat)(l:List UInt8)(r u:Int)(d:Bool)(g:Nat):((M.put f l r u d).file g).safe=(M.file g).safe:=by
 show(if g=f then {M.file f with bytes:=(M.file f).bytes++l} else M.file g:FM).safe=_;split
 .rename_i e;subst e;rfl
 .rfl
theorem Bk.left{M:DM}{t k:Nat}(h:Bk M t k)(a:t<=1000000):M.left=if M.room<M.Bi then 0 else M.room-M.Bi:=by
 have d:=h.Bi a;have g:=h.r0;have i:=h.r1;have b:M.used=M.Bi:=M.yA (by omega);have c:IntKind.i64.wrap (M.room-(M.Bi:Int))=M.room-(M.Bi:Int):=by rw[IB];omega
 unfold DM.left;rw[b,c];by_cases e:M.room<M.Bi
 .rw[Io e,Io (by omega)]
 .rw[Ie e,Ie (by omega)]
theorem OS{M:DM}{t n:Nat}(h:Bk M t n)(p:t<=1000000)(x:n<=2000000){i:ByteArray}{f:Nat}(y:M.dir.look i=some f)(a:ByteArray) :
 ∃ e k r u d,M.add i a=(e,M.put f (a.data.toList.take k) r u d)/\k<=a.size /\
  ((e=0/\k=a.size/\r=M.refused/\u=M.CG/\d=M.dead/\Pass M)\/(r=M.refused+1/\((e=9/\u=M.CG/\Stop M d)\/(e=10/\u=M.CG+1/\d=M.dead/\M.dead=false/\M.room<M.Bi+a.size)))):=by
 have v:a.data.toList.length=a.size:=by rw[Gj];rfl
 have o:∀ n:Nat,(a.extract 0 n).data.toList=a.data.toList.take n:=by
  intro n;rw[ByteArray.data_extract];simp
 have C:=h.rc;have D:=h.fr;have E:=h.f0;have B:=h.calls;have q:wrap64 (M.refused+1)=M.refused+1:=by unfold wrap64;omega
 have s:wrap64 (M.CG+1)=M.CG+1:=by unfold wrap64;omega
 have j:∀ (r:Int) (d:Bool),DM.left {M with calls:=M.calls+1,refused:=r,dead:=d}=M.left:=fun r d=>rfl;have m:=h.left p;unfold DM.add;rw[y];simp only;rcases YZ h p x with⟨e,l⟩|⟨b,d,e,G,l⟩
 .have ht1:M.tries a.size=some (a.size:Int):=by unfold DM.tries;rw[e];rfl
  simp only[ht1,e];rw[show DM.left {M with calls:=M.calls+1}=M.left from rfl,m];by_cases c:(if M.room<(M.Bi:Int) then 0 else M.room-(M.Bi:Int))<a.size
  .rw[Io c]
   simp only[Hp];rw[q,s,o];refine⟨10,min (if M.room<(M.Bi:Int) then 0 else M.room-(M.Bi:Int)).toNat a.size,M.refused+1,M.CG+1,M.dead,?_,DF _ _,.inr ⟨rfl,.inr ⟨rfl,rfl,rfl,l.dead,?_⟩⟩⟩
   .rw[Hc (by split at c <;> omega)]
    rfl
   .split at c <;> omega
  .rw[Ie c]
   refine⟨0,a.size,M.refused,M.CG,M.dead,?_,JS _,.inl ⟨rfl,rfl,rfl,rfl,rfl,l⟩⟩;rw[Dk,o]
   rfl
 .cases ht1:M.tries a.size with
  | none =>
   simp only[e];refine⟨9,0,M.refused+1,M.CG,d,?_,Iq _,.inr ⟨rfl,.inl ⟨rfl,rfl,l⟩⟩⟩
   congr 1
   unfold DM.put
   congr 1
   funext g
   split
   .rename_i e';subst e';simp
   .rfl
  | some n =>
   have A:0<=n/\n<=a.size:=by
    unfold DM.tries at ht1;split at ht1
    .obtain rfl:=IL ht1
     exact⟨by omega,Gt _⟩
    .split at ht1
     .rename_i h2
      obtain rfl:=IL ht1;exact⟨Int.tmod_nonneg _ h.part,Cu (Int.tmod_lt_of_pos _ h2.2)⟩
     .cases ht1
   simp only[e];rw[j,m];by_cases c:(if M.room<(M.Bi:Int) then 0 else M.room-(M.Bi:Int))<n
   .rw[Io c,Ie (by decide),o]
    exact⟨9,(if M.room<(M.Bi:Int) then 0 else M.room-(M.Bi:Int)).toNat,M.refused+1,M.CG,d,rfl,by split at c <;> omega,.inr ⟨rfl,.inl ⟨rfl,rfl,l⟩⟩⟩
   .rw[Ie c,o]
    exact⟨9,n.toNat,M.refused+1,M.CG,d,rfl,by omega,.inr ⟨rfl,.inl ⟨rfl,rfl,l⟩⟩⟩
theorem Bk.put{M:DM}{t k:Nat}(h:Bk M t k)(f:Nat)(l:List UInt8)(b:f∈M.ids->(M.file f).bytes.length+l.length<=2000*(t+100))(r u:Int)(d:Bool)(c:M.refused<=r)(i:r<=M.refused+1)(j:M.CG<=u)(o:u-M.CG<=r-M.refused):Bk (M.put f l r u d) t (k+1) where
 c0:=by have:=h.c0;show 0<=M.calls+1;omega
 calls:=by have:=h.calls;show M.calls+1<=_;omega
 f0:=by have:=h.f0;show 0<=u;omega
 fr:=by have:=h.fr;show u<=r;omega
 rc:=by have:=h.rc;show r<=M.calls+1;omega
 r0:=h.r0
 r1:=h.r1
 part:=h.part
 Ab:=fun g a=>by
  rw[Yn];split
  .rename_i e;subst e;rw[JR];exact b a
  .exact h.Ab g a
 Ah:=h.Ah
 Ac:=h.Ac
 Bq:=h.Bq
 once:=h.once
 CD:=Gc h.CD
 Bh:=h.Bh
 dir:=h.dir
theorem Bd.put{M:DM}{t:Nat}(h:Bd M t)(f:Nat)(l:List UInt8)(j:l.length<=2000)(r u:Int)(d:Bool)(b:M.refused<=r)(c:r<=M.refused+1)(e:M.CG<=u)(g:u-M.CG<=r-M.refused):Bd (M.put f l r u d) (t+1):=by
 have a:=Bk.put (t:=t+1) (Bk.more h (Gg _)) f l (fun i=>by have:=h.Ab f i;omega) r u d b c e g;exact⟨a.c0,by have:=h.calls;show M.calls+1<=_;omega,a.f0,a.fr,a.rc,a.r0,a.r1,a.part,a.Ab,a.Ah,a.Ac,a.Bq,a.once,by have:=h.CD;show M.CD.length<=_;omega,a.Bh,a.dir⟩
theorem J5{M:DM}{t k:Nat}(h:Bk M t k)(f:Nat)(l:List UInt8)(r u:Int)(d:Bool):(M.put f l r u d).Bi<=M.Bi+l.length:=by
 have a:=Re (f:=f) (n:=l.length) (fun k=>(M.file k).bytes.length) M.dir h.once;unfold DM.Bi;simp only[Yn];have e:(fun e:ByteArray × Nat=>(if e.2=f then(M.file f).bytes++l else(M.file e.2).bytes).length)=fun e=>if e.2=f then(M.file e.2).bytes.length+l.length else(M.file e.2).bytes.length:=by
  funext g
  split
  .rename_i e;rw[<- e];simp
  .rfl
 rw[e];exact a
end Go.Proofs.YtkhnggkkiefcdaaGreatDoor
