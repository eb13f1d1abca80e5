/- larder: joined texts -/
import Derived.Test.YtkhnggkkiefcdaaGreatDoorFRAC
import Derived.Test.YtkhnggkkiefcdaaGreatDoorFRAG
import Derived.Test.YtkhnggkkiefcdaaGreatDoorFRAH
import Derived.Test.YtkhnggkkiefcdaaGreatDoorChecked
namespace Go.Proofs.YtkhnggkkiefcdaaGreatDoor
open Go.RowKit
set_option maxRecDepth 100000
set_option maxHeartbeats 8000000
theorem Pz:((Tryz.prog.info? 268).map fun i=>(i.zero.map (·.cells.size),i.size,i.bytes))=some (some 2,2,24):=by kernel_rfl
def Vr(w:World)(c:Option Nat)(n i:Nat)(h f:List Value)(e:Ending)(d:World):Prop :=
 ∃ g a,e=.returned (.slice (some ⟨g,0,none⟩) (n+1) a)/\d.ownsRow 0 268 2 (.slice (some ⟨g,0,none⟩) (n+1) a) (n+1) (Y5 2 i h f)/\Fr (fun b=>c=some b) w d/\(c=some g\/w.heap.size<=g)
theorem RI(v:Value)(n:Nat)(d f:List Value)(r:Nat)(w:World)(b:w.ownsRow 0 268 2 v n d)(t:f.length=2)(s:∀ u∈f,u.oneCell'=true)(E:Blk w r f 268)(p:(n+1)*24<=140737488355328) :
 Calls Tryz.prog 223 #[v,.int .i64 n,.slice (some ⟨r,0,none⟩) 1 1] w fun e c=>Vr w v.ownBlock n n d f e c:=by
 have q:∀ ty,∃ m c,(Builtin.append_ #[261,261] ty #[v,.slice (some ⟨r,0,none⟩) 1 1]).run Tryz.prog w=.ok m c/\App w v 268 2 (n+1) (d++f) m c:=fun ty =>
  zn (P:=Tryz.prog) 261 ty 268 2 24 LP Pz (by omega) v n d b ⟨r,0,none⟩ 1 1 f (by rw[t]) (fun j u D=>by rw[MK,MD];rw[E.cell];exact D) s (by unfold maxLen;omega) p
 have k:∀ m c,App w v 268 2 (n+1) (d++f) m c->Vr w v.ownBlock n n d f (.returned m) c:=by
  rintro m c ⟨y,B,o⟩;obtain⟨g,l,rfl,_,_⟩:=y.form (by omega);refine⟨g,l,rfl,?_,(Fr.Ho B).mono (fun i _ h=>h),?_⟩
  .have e1:d.take (n*2)=d:=Mj (by rw[b.1];exact NS _)
   have z:d.drop (n*2)=[]:=Lu (by rw[b.1];exact NS _);unfold Y5;rw[e1,z,MB];exact y
  .rcases o with o|o
   .left;rw[<- o];rfl
   .right;have:g=w.heap.size:=by simpa [Value.ownBlock] using o
    omega
 have C:=zu b;unfold maxLen at C;obtain⟨a,l,rfl⟩:=zd b;have x:=Z k;clear k b;generalize (Value.slice a n l).ownBlock=F at x |-;go_enter Tryz.func223,Tryz.ntmps223
 go_wp2_with (at_builtin;go_must (refine zL rfl _ _ _ _ rfl _ _ (by rfl) (by rfl) (q _) ?_);rintro m c A)
 all_goals
  go_ret;exact x.out _ _ A
theorem PA(w:World)(k m l i h f:Nat)(a g:Nat)(j c:List Value)(d:Blk w a j 268)(p:Blk w g c 268)(b:a≠g)(o:c.length≠0) :
 (callFunc 240 #[.slice (some ⟨a,k,none⟩) m l,.slice (some ⟨g,i,none⟩) h f]).run Tryz.prog w=.ok (.value (.bool false)) w:=by
 rw[MM Tryz.func240 (by kernel_rfl) (by kernel_rfl) (by kernel_rfl) (e:=Extern.SlicesOverlaps.overlaps #[261,261] #[4]) (by kernel_rfl),
  Lib.run_overlaps_apart w 261 4 268 LP 2 Tryz.sizeOf268 ⟨a,k,none⟩ ⟨g,i,none⟩ m l h f b 268 268 j.length c.length d.shape p.shape o (d.frozen _) (d.frozen _)]
 rfl
theorem Tc(g n d i:Nat)(c l k:List Value)(z:Nat)(w:World)(J:Blk w g c 268)(h:c.length=d*2)(M:c.take (n*2)=l)(V:∀ u∈l,u.oneCell'=true)(hi:i<n)(a:n+1<=d)(F:d<=maxLen)
 (r:k.length=2)(I:∀ u∈k,u.oneCell'=true)(Q:Blk w z k 268)(K:z≠g) :
 Calls Tryz.prog 223 #[.slice (some ⟨g,0,none⟩) n d,.int .i64 i,.slice (some ⟨z,0,none⟩) 1 1] w fun e w'=>Vr w (some g) n i l k e w':=by
 have N:=fun va vl vc bo bl bc=>PA w va vl vc bo bl bc z g k c Q J K (by omega);have v:l.length=n*2:=by rw[<- M,NT,h];exact MU (Mu _ (by omega))
 have q:(l.drop (i*2)).length=(n-i)*2:=by rw[Mn,v,Ix]
 have G:∀ j u,(l.drop (i*2))[j]?=some u->c[i*2+j]?=some u:=by
  intro j u s;rw[LN] at s;have a0:=(Md.1 s).1;rw[<- M,MS (by omega)] at s;exact s
 have p:∀ ty A R,(Builtin.copy_ #[261,261] ty #[.slice (some ⟨g,(i+1)*2,none⟩) (n-i) A,.slice (some ⟨g,i*2,none⟩) (n+1-i) R]).run Tryz.prog w.drew=_:=fun ty A R =>
  Zw 261 268 ty 2 LP (by kernel_rfl) g ((i+1)*2) (n-i) A ⟨g,i*2,none⟩ (n+1-i) R c (l.drop (i*2)) 268 J
   (by rw[q];congr 1;simp only[KN];split <;> omega) (fun j u s=>by rw[MK,show w.drew.cell? ⟨g,i*2+j,none⟩=c[i*2+j]? from J.drew.cell _];exact G j u s)
   (by rw[q,h];have:=Mu 2 a;have e:(i+1)*2+(n-i)*2=(n+1)*2:=(by rw[<- LQ];congr 1;omega);omega)
   (fun u s=>V u (MO s))
 obtain⟨f,m⟩:∃ f,f=c.take ((i+1)*2)++l.drop (i*2)++c.drop ((i+1)*2+(l.drop (i*2)).length):=⟨_,rfl⟩;rw[<- m] at p;have t:Blk (w.drew.setRow g f.toArray) g f 268:=J.drew.setRow f;have C:Blk (w.drew.setRow g f.toArray) z k 268:=Q.drew.of_heap (Jd _ g z _ K);have o:f.length=d*2:=by
  have:=Mu 2 a;have e:(i+1)*2+(n-i)*2=(n+1)*2:=by rw[<- LQ];congr 1;omega
  rw[m];simp only[NQ,NT,Mn,v,h];omega
 have B:Fr (fun b=>some g=some b) w (w.drew.setRow g f.toArray):=Fr.setRow (S:=fun b=>some g=some b) ((O _ w).drew) (fun _=>rfl) _;obtain⟨L,D⟩:∃ L,L=w.drew.setRow g f.toArray:=⟨_,rfl⟩;rw[<- D] at p t C B;clear D;have x:∀ ty A,(Builtin.copy_ #[261,261] ty #[.slice (some ⟨g,i*2,none⟩) (n+1-i) A,.slice (some ⟨z,0,none⟩) 1 1]).run Tryz.prog L=_:=fun ty A =>
  Zw 261 268 ty 2 LP (by kernel_rfl) g (i*2) (n+1-i) A ⟨z,0,none⟩ 1 1 f k 268 t
   (by rw[r];have:Nat.min 1 (n+1-i)=1:=(by simp only[KN];split <;> omega);rw[this]) (fun j u s=>by rw[MK,MD,C.cell];exact s)
   (by rw[r,o];have:=Mu 2 a;have e:i*2+2=(i+1)*2:=(by rw[LQ,Iy]);have:=Mu 2 (show i+1<=n+1 by omega);omega)
   I
 have y:Vr w (some g) n i l k (.returned (.slice (some ⟨g,0,none⟩) (n+1) d)) (L.setRow g (f.take (i*2)++k++f.drop (i*2+k.length)).toArray):=by
  have e0:=Mu 2 a;have e1:i*2+2=(i+1)*2:=by rw[LQ,Iy]
  have e2:(i+1)*2+(n-i)*2=(n+1)*2:=by rw[<- LQ];congr 1;omega
  have e3:=Mu 2 (show i<=n by omega);refine⟨g,d,rfl,ZQ (t.setRow _) a F ?_ ?_,Fr.setRow (S:=fun b=>some g=some b) B (fun _=>rfl) _,.inl rfl⟩
  .rw[NQ,NQ,NT,Mn,r,o]
   omega
  .unfold Y5
   have X:f.take (i*2)=l.take (i*2):=by
    rw[m,<- M,MF (by rw[NQ,NT,h];omega),MF (by rw[NT,h];omega),Kg,Kg]
    congr 1
    omega
   have Y:f.drop (i*2+k.length)=l.drop (i*2)++c.drop ((n+1)*2):=by
    have e4:(c.take ((i+1)*2)).length=i*2+k.length:=by rw[NT,h];omega
    rw[m,Mm,<- e4,Jf,q,e2]
   rw[X,Y,<- Mm,MY (by rw[NQ,NQ,q,r,NT,v];omega)]
 obtain⟨T,E⟩:∃ T,T=f.take (i*2)++k++f.drop (i*2+k.length):=⟨_,rfl⟩;rw[<- E] at x y;clear t C B o G J Q q v V I m E M r h;unfold maxLen at F;have a3:¬(i:Int)=(n:Int):=by omega
 have a4:¬(d:Int)<(n:Int)+1:=by omega
 have a5:¬d=i:=by omega
 have a6:¬d=i+1:=by omega
 have a7:IntKind.i64.wrap ((i:Int)+1)=(i:Int)+1:=by rw[MC];omega
 have a8:(0:Int)<=(i:Int)+1:=by omega
 have a9:((i:Int)+1).toNat=i+1:=by omega
 have b0:(i:Int)<=(n:Int)+1:=by omega
 have b1:(i:Int)<=(n:Int):=by omega
 go_enter Tryz.func223,Tryz.ntmps223
 go_wp2_with (simp only[N])
 go_region_law (refine Yr rfl _ _ 261 261 rfl _ _ (by simp[Act.eval,Act.put]) (by simp[Act.eval,Act.put]) (p _ _ _) ?_)
 go_wp2_with (at_builtin;go_must (refine Yq rfl _ _ 261 261 rfl _ _ (by rfl) (by rfl) (x _ _) ?_))
 go_ret;exact y
theorem SB(g n i:Nat)(b m:List Value)(vb:Nat)(w:World)(hg:Blk w g b 268)(f:b.length=n*2)(h1:∀ u∈b,u.oneCell'=true)(hi:i<n)
 (q:m.length=2)(a0:∀ u∈m,u.oneCell'=true)(hv:Blk w vb m 268)(Y:(n+1)*24<=140737488355328) :
 Calls Tryz.prog 223 #[.slice (some ⟨g,0,none⟩) n n,.int .i64 i,.slice (some ⟨vb,0,none⟩) 1 1] w fun e w'=>Vr w (some g) n i b m e w':=by
 obtain⟨i0,z,a4,a6,S,J,a7⟩:=Zr Pz;have s:i+(n+1-i)=n+1:=by omega
 have a:∀ ty,(Builtin.append_ #[261,3] ty #[.slice (some ⟨g,0,none⟩) i n,.int .i64 ((n+1-i:Nat):Int)]).run Tryz.prog w=_:=fun ty =>
  Lib.run_append_grow_zeros (P:=Tryz.prog) w 261 3 ty 268 i0 z .i64 .i64 LP Kd a4 a6 (some ⟨g,0,none⟩) i n (b.take (i*2))
   (by rw[S];exact KU (P:=Tryz.prog) w.drew 2 i ⟨g,0,none⟩ i n (b.take (i*2)) (by rw[NT,f];omega) (fun j u t=>by
     have a8:=(Md.1 t).1;rw[MK,MD,hg.drew.cell];rw[NT] at a8;rw[MS (by omega)] at t;exact t))
   (n+1-i) (by omega) (by rw[S];omega) (by omega) (by omega) (by rw[J];omega) (Iw (by omega) (by rw[J,s];exact Y))
 rw[s] at a;have a2:=grownCap_ge w (n+1) n 268;have K:=JE w (n+1) n 268 (by unfold maxLen;omega);generalize grownCap w (n+1) n 268=c at a a2 K;obtain⟨d,v⟩:∃ d:List Value,d=b.take (i*2)++(Builtin.zeroCells z.cells (n+1-i)).toList++(Builtin.zeroCells z.cells (c-(n+1))).toList:=⟨_,rfl⟩;have C:(b.take (i*2)).toArray++Builtin.zeroCells z.cells (n+1-i)++Builtin.zeroCells z.cells (c-(n+1))=d.toArray:=by rw[v];apply KY;simp
 rw[C] at a;have o:d.length=c*2:=by
  rw[v];simp only[NQ,NT,LJ,Iv,a7,f];omega
 have D:d.take (i*2)=b.take (i*2):=by
  have e:(b.take (i*2)).length=i*2:=by rw[NT,f];omega
  rw[v,Mm];exact MY e
 have a3:=hg.lt;have a5:=hv.lt;have r:Blk (w.drew.alloc (.cells d.toArray 268)) w.heap.size d 268:=Blk.new w.drew d _;have T:Blk (w.drew.alloc (.cells d.toArray 268)) vb m 268:=hv.drew.alloc _;have Q:Blk (w.drew.alloc (.cells d.toArray 268)) g b 268:=hg.drew.alloc _;have L:Fr Nil w (w.drew.alloc (.cells d.toArray 268)):=((O _ w).drew).alloc _;obtain⟨N,hN⟩:∃ N,N=w.heap.size:=⟨_,rfl⟩;rw[<- hN] at a r a3 a5;obtain⟨G,V⟩:∃ G,G=w.drew.alloc (.cells d.toArray 268):=⟨_,rfl⟩;rw[<- V] at a r T Q L;clear V;obtain⟨k,x⟩:∃ k,k=d.take (i*2)++m++d.drop (i*2+m.length):=⟨_,rfl⟩;have p:∀ ty I,(Builtin.copy_ #[261,261] ty #[.slice (some ⟨N,i*2,none⟩) (n+1-i) I,.slice (some ⟨vb,0,none⟩) 1 1]).run Tryz.prog G=_:=fun ty I =>
  Zw 261 268 ty 2 LP (by kernel_rfl) N (i*2) (n+1-i) I ⟨vb,0,none⟩ 1 1 d m 268 r
   (by rw[q];have:Nat.min 1 (n+1-i)=1:=(by simp only[KN];split <;> omega);rw[this]) (fun j u t=>by rw[MK,MD,T.cell];exact t)
   (by rw[q,o];omega)
   a0
 rw[<- x] at p;have l:k.length=c*2:=by
  rw[x];simp only[NQ,NT,Mn,q,o];omega
 have E:k.take ((i+1)*2)=b.take (i*2)++m:=by
  have e:(b.take (i*2)++m).length=(i+1)*2:=by rw[NQ,NT,f,q];omega
  rw[x,D];exact MY e
 have B:Blk (G.setRow N k.toArray) N k 268:=r.setRow k;have R:Blk (G.setRow N k.toArray) g b 268:=Q.of_heap (Jd _ N g _ (by omega));have M:Fr Nil w (G.setRow N k.toArray):=L.setRow (fun h=>by omega) _;obtain⟨W2,X⟩:∃ W2,W2=G.setRow N k.toArray:=⟨_,rfl⟩;rw[<- X] at p B R M;clear X;have A:(b.drop (i*2)).length=(n-i)*2:=by rw[Mn,f,Ix]
 obtain⟨c3,y⟩:∃ c3,c3=k.take ((i+1)*2)++b.drop (i*2)++k.drop ((i+1)*2+(b.drop (i*2)).length):=⟨_,rfl⟩;have F:∀ ty I sc,(Builtin.copy_ #[261,261] ty #[.slice (some ⟨N,(i+1)*2,none⟩) (n-i) I,.slice (some ⟨g,i*2,none⟩) (n-i) sc]).run Tryz.prog W2.drew=_:=fun ty I sc =>
  Zw 261 268 ty 2 LP (by kernel_rfl) N ((i+1)*2) (n-i) I ⟨g,i*2,none⟩ (n-i) sc k (b.drop (i*2)) 268 B.drew
   (by rw[A];congr 1;simp only[KN];split <;> omega) (fun j u t=>by rw[MK,R.drew.cell];rw[LN] at t;exact t)
   (by rw[A,l];omega)
   (fun u t=>h1 u (MO t))
 rw[<- y] at F;have a1:Vr w (some g) n i b m (.returned (.slice (some ⟨N,0,none⟩) (n+1) c)) (W2.drew.setRow N c3.toArray):=by
  refine⟨N,c,rfl,ZQ (B.drew.setRow _) a2 K ?_ ?_,(M.drew.setRow (fun h=>by omega) _).mono (fun _ _ h=>absurd h id),.inr (by omega)⟩
  .rw[y]
   simp only[NQ,NT,Mn,f,l];omega
  .have e:(k.take ((i+1)*2)++b.drop (i*2)).length=(n+1)*2:=by rw[NQ,NT,l,A];omega
   rw[y,MY e,E]
   rfl
 clear D E C y x v r T Q L B R M A l o h1 a0 q f hv hg hN s a7 J S a6 a4;unfold maxLen at K;have a9:¬(i:Int)=(n:Int):=by omega
 have b0:¬n=i:=by omega
 have b1:¬c=i+1:=by omega
 have b2:¬c=i:=by omega
 have b3:(n:Int)+1-i=((n+1-i:Nat):Int):=by omega
 have b4:IntKind.i64.wrap ((i:Int)+1)=(i:Int)+1:=by rw[MC];omega
 have b5:(0:Int)<=(i:Int)+1:=by omega
 have b6:((i:Int)+1).toNat=i+1:=by omega
 have b7:(i:Int)<=(n:Int)+1:=by omega
 have b8:(i:Int)<=(n:Int):=by omega
 go_enter Tryz.func223,Tryz.ntmps223
 go_wp2_with (at_builtin;go_must (first|(refine Lib.wpList_append_run _ rfl _ _ _ _ rfl _ _ (by rfl) (by rfl) _ _ (a _) ?_)|(refine Yq rfl _ _ 261 261 rfl _ _ (by rfl) (by rfl) (p _ _) ?_)))
 go_region_law (refine Yr rfl _ _ 261 261 rfl _ _ (by simp[Act.eval,Act.put]) (by simp[Act.eval,Act.put]) (F _ _ _) ?_)
 go_wp2
 go_ret;exact a1
theorem Td(v:Value)(n i:Nat)(k d:List Value)(j:Nat)(w:World)(b:w.ownsRow 0 268 2 v n k)(r:∀ u∈k,u.oneCell'=true)(A:i<=n)
 (h:d.length=2)(f:∀ u∈d,u.oneCell'=true)(q:Blk w j d 268)(p:v.ownBlock≠some j)(a:(n+1)*24<=140737488355328) :
 Calls Tryz.prog 223 #[v,.int .i64 i,.slice (some ⟨j,0,none⟩) 1 1] w fun e z=>Vr w v.ownBlock n i k d e z:=by
 rcases Lz i n with m|y
 .rcases ZK b with⟨_,h0,_⟩|⟨g,cap,c,rfl,hg,hn,hm,hc,ht⟩
  .omega
  .have hne':j≠g:=fun e=>p (by rw[e];rfl)
   rcases Lz n cap with t|t
   .exact Tc g n cap i c k d j w hg hc ht r m t hm h f q hne'
   .have e:cap=n:=by omega
    subst e;have o:c=k:=by rw[<- ht];exact(Mj (by omega)).symm
    subst o;exact SB g cap i c d j w hg hc r m h f q a
 .have e:i=n:=by omega
  subst e;exact RI v i k d j w b h f q a
def zy(a b:Nat):Bool:=decide (a<b)
theorem Xp:Strict zy where
 FO a:=by simp[zy]
 trans a b c h1 h2:=by simp only[zy,Ms] at *;omega
 Ee a b h1 h2:=by simp only[zy,Ms,LV] at *;omega
theorem SC{a b:Nat}:XE a b<0↔zy a b=true:=by
 unfold XE zy;rw[Ms];split
 .rename_i h;constructor <;> intro <;> omega
 .rename_i h
  split
  .constructor <;> intro <;> omega
  .constructor <;> intro <;> omega
theorem PB{a b:Nat}:XE a b=0↔(a==b)=true:=by
 unfold XE;rw[beq_iff_eq];split
 .rename_i h;constructor <;> intro <;> omega
 .rename_i h
  split
  .constructor <;> intro <;> omega
  .constructor <;> intro <;> omega
theorem YU(a b:Nat)(v:ByteArray)(w:World) :
 Calls Tryz.prog 239 #[.agg #[.int .i64 a,.string v],.int .i64 b] w fun e d=>e=.returned (.int .i64 (XE a b))/\Fr Nil w d:=by
 go_enter Tryz.func239,Tryz.ntmps239
 go_wp2_with (go_at_call 180;refine(QE _ _ _).mono ?_;rintro e f ⟨rfl,c⟩;subst c)
 go_ret;exact⟨rfl,(by repeat' first|exact O _ _|(with_reducible assumption)|refine Fr.drewN ?_ _|refine Fr.drew ?_|refine Fr.alloc ?_ _|refine Fr.set ?_ ?_ _|(intro _;rfl))⟩
theorem Te(v:Value)(l:List (Nat × ByteArray))(s:Nat)(w:World)(h:w.ownsRow 0 268 2 v l.length (zZ l))(I:Asc zy (l.map Prod.fst))(a0:l.length<4611686018427387904) :
 Calls Tryz.prog 238 #[v,.int .i64 s,.func (.func 239) #[] #[]] w fun e F =>
  e=.returned (.tuple #[.int .i64 (low zy (l.map Prod.fst) s),.bool (zD zy (l.map Prod.fst) s)])/\Fr Nil w F:=by
 have Y:=zu h;unfold maxLen at Y;obtain⟨a,t,rfl⟩:=zd h;go_enter Tryz.func238,Tryz.ntmps238
 go_wp2
 go_loopw [9,10] (fun D E F=>∃ i j:Nat,i<=j/\j<=l.length/\D=.int .i64 i/\E=.int .i64 j/\(∀ k (d:k<l.length),k<i->zy l[k].1 s=true)/\(∀ k (d:k<l.length),j<=k->zy l[k].1 s=false)/\Fr Nil w F) (fun D E _=>(intOf E).toNat-(intOf D).toNat)
 case atStart=>exact⟨0,l.length,Me _,NS _,rfl,rfl,fun k _ d=>absurd d (MA _),fun k d V=>absurd d (by omega),O _ _⟩
 case round =>
  obtain⟨i,j,T,G,rfl,rfl,c,u,p⟩:=hrel;by_cases X:i<j
  .obtain⟨g,rfl⟩:∃ g,a=some ⟨g,0,none⟩:=by
    rcases h.2 with⟨c,M⟩|⟨g,t,z,c,_⟩
    .omega
    .simp at c;exact⟨g,c.1⟩
   have C:(i+j) / 2<l.length:=by omega
   have S:=own_cell? (za h p (fun _ _=>id)) ((i+j) / 2*2) _ (Yi l _ C).1;have A:=own_cell? (za h p (fun _ _=>id)) ((i+j) / 2*2+1) _ (Yi l _ C).2;have K:=Z c;have L:=Z u;clear c u;have N:(i:Int)<=4611686018427387903:=by omega
   have Q:(j:Int)<=4611686018427387903:=by omega
   have R:(i:Int)+j<=9223372036854775807:=by omega
   have hq:(((i:Int)+j) / 2).toNat=(i+j) / 2:=by omega
   cases hl:zy l[(i+j) / 2].1 s with
   | true =>
    have r:=Z hl;have B:XE l[(i+j) / 2].1 s<0:=SC.2 hl;clear hl
    go_wp2_with (go_at_call 239;refine(YU _ _ _ _).mono ?_;rintro e J ⟨rfl,m⟩)
    refine⟨⟨(i+j) / 2+1,j,by omega,G,by go_num,rfl,fun k d q=>?_,L.out,p.trans m⟩,by simp[intOf];omega⟩;by_cases e:k=(i+j) / 2
    .subst e;exact r.out
    .exact Xp.trans _ _ _ (I.fst (i:=k) (j:=(i+j) / 2) (by omega) C) r.out
   | false =>
    have r:=Z hl;have B:¬XE l[(i+j) / 2].1 s<0:=by rw[SC];simp[hl]
    clear hl
    go_wp2_with (go_at_call 239;refine(YU _ _ _ _).mono ?_;rintro e J ⟨rfl,m⟩)
    refine⟨⟨i,(i+j) / 2,by omega,by omega,rfl,by go_num,K.out,fun k d q=>?_,p.trans m⟩,by simp[intOf];omega⟩;by_cases e:k=(i+j) / 2
    .subst e;exact r.out
    .cases hk2:zy l[k].1 s with
     | false=>rfl
     | true =>
      have:=Xp.trans _ _ _ (I.fst (i:=(i+j) / 2) (j:=k) (by omega) d) hk2;rw[r.out] at this;cases this
  .have he:i=j:=by omega
   subst he;have b:low zy (l.map Prod.fst) s=i:=TW zy s _ i (by simpa using G) (fun k d q=>by simpa using c k (by simpa using d) q) (fun d=>by simpa using u i (by simpa using d) (NS _));by_cases o:i<l.length
   .obtain⟨g,rfl⟩:∃ g,a=some ⟨g,0,none⟩:=by
     rcases h.2 with⟨c,M⟩|⟨g,t,z,c,_⟩
     .omega
     .simp at c;exact⟨g,c.1⟩
    have S:=own_cell? (za h p (fun _ _=>id)) (i*2) _ (Yi l _ o).1;have A:=own_cell? (za h p (fun _ _=>id)) (i*2+1) _ (Yi l _ o).2;have f:zD zy (l.map Prod.fst) s=(XE l[i].1 s==0):=by
     rw[Yx o b,Bool.eq_iff_iff,<- PB];simp
    have y:=Z b;have x:=Z f;clear c u b f
    go_wp2_with (go_at_call 239;refine(YU _ _ _ _).mono ?_;rintro e J ⟨rfl,m⟩)
    go_ret2;rw[y.out,x.out];exact⟨rfl,p.trans m⟩
   .have f:zD zy (l.map Prod.fst) s=false:=XK (by rw[b];simpa using o)
    have y:=Z b;have x:=Z f;clear c u b f
    go_wp2
    go_ret2;rw[y.out,x.out];exact⟨rfl,p⟩
abbrev Zd (l:List (Nat × ByteArray)):List Nat:=l.map Prod.fst
structure Wd(w:World)(v:Value)(l:List (Nat × ByteArray)):Prop where
 own:w.ownsRow 0 268 2 v l.length (zZ l)
 Gv:Asc zy (Zd l)
theorem Wd.fr{w w':World}{v:Value}{l:List (Nat × ByteArray)}{S:Nat->Prop}(h:Wd w v l)(f:Fr S w w')(a:∀ k,v.ownBlock=some k->¬S k):Wd w' v l :=
 ⟨za h.own f a,h.Gv⟩
theorem SD(v:Value)(l:List (Nat × ByteArray))(s:Nat)(b:Nat)(w:World)(g:w.cell? ⟨b,0,none⟩=some v)(h:Wd w v l)(c:l.length<4611686018427387904) :
 Calls Tryz.prog 222 #[.pointer (some ⟨b,0,none⟩),.int .i64 s] w fun e f =>
  e=.returned (.tuple #[.int .i64 (low zy (Zd l) s),.bool (zD zy (Zd l) s)])/\Fr Nil w f:=by
 have d:=Z (Te v l s w h.own h.Gv c);clear h;go_enter Tryz.func222,Tryz.ntmps222
 go_wp2_with (refine d.out.mono ?_;rintro e i ⟨rfl,a⟩)
 go_ret2;exact⟨rfl,a⟩
theorem PC(l:List (Nat × ByteArray)):∀ u∈zZ l,u.oneCell'=true:=by
 intro u a;simp only[zZ,Jm] at a;obtain⟨e,b,a⟩:=a;simp at a;rcases a with rfl|rfl <;> rfl
theorem Yw(a b:List (Nat × ByteArray)):zZ (a++b)=zZ a++zZ b:=by simp[zZ]
theorem QJ(l:List (Nat × ByteArray))(i:Nat):(zZ l).take (i*2)=zZ (l.take i):=by
 rcases JC i l.length with h|h
 .have e:=Yw (l.take i) (l.drop i)
  rw[Mv] at e;rw[e];exact MY (by rw[Ys,NT,MU h])
 .rw[Mj h,Mj (by rw[Ys];omega)]
theorem QK(l:List (Nat × ByteArray))(i:Nat):(zZ l).drop (i*2)=zZ (l.drop i):=by
 rcases JC i l.length with h|h
 .have e:=Yw (l.take i) (l.drop i)
  rw[Mv] at e;rw[e];exact List.drop_left' (by rw[Ys,NT,MU h])
 .rw[Lu h,Lu (by rw[Ys];omega)]
  rfl
def Xq(l:List (Nat × ByteArray))(s:Nat)(x:ByteArray):List (Nat × ByteArray):=l.take (low zy (Zd l) s)++[(s,x)]++l.drop (low zy (Zd l) s)
theorem Ow{l:List (Nat × ByteArray)}(s:Nat)(x:ByteArray)(h:Asc zy (Zd l))(a:zD zy (Zd l) s=false):Asc zy (Zd (Xq l s x)):=by
 have:=Asc.ins Xp (b:=s) h (fun c e=>by rw[WY c,e] at a;simp at a);unfold Xq
 simpa [Zd,List.map_take,List.map_drop] using this
theorem Ve{l:List (Nat × ByteArray)}{s:Nat}{x:ByteArray}:(Xq l s x).length=l.length+1:=by
 have:=VD zy (Zd l) s;simp only[Mw] at this;simp[Xq];omega
def NC(w:World)(b:Nat)(t:TypeId)(v:Value)(a:List Value)(l:List (Nat × ByteArray))(d:World):Prop :=
 ∃ c,Blk d b (c::a) t/\Wd d c l/\Fr (fun k=>k=b\/v.ownBlock=some k) w d/\(∀ k,c.ownBlock=some k->v.ownBlock=some k\/w.heap.size<=k)
theorem QL(v:Value)(a:List Value)(l:List (Nat × ByteArray))(s:Nat)(x:ByteArray)(b:Nat)(t:TypeId)(w:World)(D:Blk w b (v::a) t)(ht:t≠268)(h:Wd w v l)
 (a0:l.length<1099511627776)(T:zD zy (Zd l) s=false) :
 Calls Tryz.prog 186 #[.pointer (some ⟨b,0,none⟩),.int .i64 s,.string x] w fun e w' =>
  e=.returned (.tuple #[])/\NC w b t v a (Xq l s x) w':=by
 have K:w.cell? ⟨b,0,none⟩=some v:=by rw[D.cell];rfl
 have Q:=Z (SD v l s b w K h (by omega));have hn:=zu h.own;unfold maxLen at hn;have I:=Z h;have N:=Z D;clear K h D;go_enter Tryz.func186,Tryz.ntmps186;go_wp2_with fail;refine Q.out.mono ?_;rintro e j ⟨rfl,p⟩;have m:=N.out.fr p id;have X:j.cell? ⟨b,0,none⟩=some v:=by rw[m.cell];rfl
 have a1:=m.frozen 0;go_wp2_with fail;have J:Blk (j.alloc (.cells #[.int .i64 s,.string x] 268)) j.heap.size [.int .i64 s,.string x] 268:=Blk.new j [.int .i64 s,.string x] _;have c:=m.alloc (.cells #[.int .i64 s,.string x] 268);have d:Fr Nil w (j.alloc (.cells #[.int .i64 s,.string x] 268)):=p.alloc _;have E:∀ k,v.ownBlock=some k->k<j.heap.size:=fun k q=>Z2 (I.out.fr p (fun _ _=>id)).own q;generalize j.alloc (.cells #[.int .i64 s,.string x] 268)=w2 at J c d |-;have C:=I.out.fr d (fun _ _=>id);have B:v.ownBlock≠some b:=zf C.own c ht;have z:=VD zy (Zd l) s;simp only[Mw] at z;refine(Td v l.length (low zy (Zd l) s) (zZ l) [.int .i64 s,.string x] j.heap.size w2 C.own (PC l) z rfl (by intro u L;simp at L;rcases L with rfl|rfl <;> rfl) J (fun e=>by have:=E _ e;omega) (by omega)).mono ?_;rintro e M ⟨g,r,rfl,F,y,A⟩;have o:=c.fr y B;have Y:M.cell? ⟨b,0,none⟩=some v:=by rw[o.cell];rfl
 have a2:=o.frozen 0;have V:b≠g:=by
  rcases A with h|h
  .intro e;exact B (by rw[h,e])
  .have:=c.lt;omega
 have f:NC w b t v a (Xq l s x) (M.setCell ⟨b,0,none⟩ (.slice (some ⟨g,0,none⟩) (l.length+1) r)):=by
  have G:=Ve (l:=l) (s:=s) (x:=x);refine⟨.slice (some ⟨g,0,none⟩) (l.length+1) r,o.set 0 _,⟨?_,Ow s _ C.Gv T⟩,Fr.set ((d.mono (fun _ _ h=>absurd h id)).trans' y (fun i _ h=>.inr h)) (fun _=>.inl rfl) _,fun k q=>?_⟩
  .rw[G]
   have e:zZ (Xq l s x)=Y5 2 (low zy (Zd l) s) (zZ l) [.int .i64 s,.string x]:=by
    unfold Xq Y5;rw[Yw,Yw,QJ,QK]
    rfl
   rw[e];exact za F (Fr.set (S:=fun k=>k=b) (O _ _) (fun _=>rfl) _) (fun k q=>by simp[Value.ownBlock] at q;omega)
  .simp[Value.ownBlock] at q
   subst q;rcases A with h|h
   .exact .inl h
   .exact .inr (by have:=d.size;omega)
 have R:=Z f;clear f
 go_wp2
 exact Lo (v:=.tuple #[]) (by simp[results,go_sem]) rfl ⟨rfl,R.out⟩
end Go.Proofs.YtkhnggkkiefcdaaGreatDoor
namespace Go.Proofs.YtkhnggkkiefcdaaGreatDoor
open Go.RowKit Go.Shelf
set_option maxRecDepth 100000
set_option maxHeartbeats 8000000
attribute [local go_sem] LW
theorem SE(v:Value)(l:List ByteArray)(s:ByteArray)(w:World)(h:w.ownsRow 0 9 1 v l.length (strs l)) :
 Calls Tryz.prog 234 #[v,.string s] w fun e z=>∃ r:Int,e=.returned (.int .i64 r)/\decide (0<=r)=l.any (·==s)/\Fr Nil w z:=by
 have D:=zu h;unfold maxLen at D;obtain⟨a,u,rfl⟩:=zd h;go_enter Tryz.func234,Tryz.ntmps234
 go_wp2
 go_loopw [8] (fun t z=>∃ k:Nat,k<=l.length/\t=.int .i64 k/\(∀ j (d:j<l.length),j<k->(l[j]==s)=false)/\Fr Nil w z) (fun t _=>l.length-(intOf t).toNat)
 case atStart=>exact⟨0,Me _,rfl,fun j _ d=>absurd d (MA _),O _ _⟩
 case round =>
  obtain⟨k,G,rfl,d,q⟩:=hrel;by_cases o:k<l.length
  .have hr:=za h q (fun _ _=>id)
   obtain⟨g,i,B,_,_⟩:=zq hr (by omega);obtain⟨rfl,rfl⟩:a=some ⟨g,0,none⟩/\u=i:=by simpa using B
   have F:=own_cell? hr k (.string l[k]) (by simp[strs,o]);have p:=KW s l[k];cases hm:(s==l[k]) with
   | true =>
    have y:(s.toList==l[k].toList)=true:=by rw[<- p];exact hm
    have b:l.any (·==s)=true:=by rw[List.any_eq_true];exact⟨l[k],NV o,by rw[zJ] at hm |-;exact hm.symm⟩
    have c:=Z b;clear p hm d b hr
    go_wp2
    go_ret;exact⟨_,rfl,by rw[c.out];simp,q⟩
   | false =>
    have y:(s.toList==l[k].toList)=false:=by rw[<- p];exact hm
    have m:∀ j (d:j<l.length),j<k+1->(l[j]==s)=false:=by
     intro j f C;by_cases e:j=k
     .subst e
      cases h:(l[j]==s) with
      | false=>rfl
      | true=>rw[zJ] at h;rw[<- h,zJ.2 rfl] at hm;cases hm
     .exact d j f (by omega)
    have A:=Z m;clear p hm d m hr
    go_wp2
    exact⟨⟨k+1,by omega,by go_num,A.out,q⟩,by simp[intOf];omega⟩
  .have b:l.any (·==s)=false:=by
    rw[List.any_eq_false];intro x E;obtain⟨j,f,rfl⟩:=LI E;rw[d j f (by omega)]
    decide
   have c:=Z b;clear d b
   go_wp2
   go_ret;exact⟨_,rfl,by rw[c.out];simp,q⟩
theorem VU(v:Value)(l:List ByteArray)(s:ByteArray)(w:World)(h:w.ownsRow 0 9 1 v l.length (strs l)) :
 Calls Tryz.prog 218 #[v,.string s] w fun e f=>e=.returned (.bool (l.any (·==s)))/\Fr Nil w f:=by
 have b:=Z (SE v l s w h);clear h;go_enter Tryz.func218,Tryz.ntmps218
 go_wp2_with (refine b.out.mono ?_;rintro e g ⟨r,rfl,a,d⟩;have c:=Z a;clear a)
 go_ret;exact⟨by rw[<- c.out];rfl,d⟩
end Go.Proofs.YtkhnggkkiefcdaaGreatDoor
namespace Go.Proofs.YtkhnggkkiefcdaaGreatDoor
open Go.RowKit
set_option maxRecDepth 100000
set_option maxHeartbeats 8000000
def VV:ByteArray:=⟨#[98,97,115,101]⟩
theorem PD{l:List (Nat × ByteArray)}{s:Nat}(h:s∉Zd l):zD zy (Zd l) s=false:=by
 rcases Lz (low zy (Zd l) s) l.length with a|a
 .rw[Yx a rfl,MI]
  rintro e;exact h (by rw[<- e];exact MR (NV a))
 .exact XK (by simpa using a)
theorem Ox{l:List (Nat × ByteArray)}{s:Nat}{x:ByteArray}{e:Nat × ByteArray}:e∈Xq l s x↔e∈l\/e=(s,x):=by
 have h:e∈l↔e∈l.take (low zy (Zd l) s)\/e∈l.drop (low zy (Zd l) s):=by
  rw[<- Mc,Mv]
 rw[h];simp only[Xq,Mc,NW]
 constructor
 .rintro((h|h)|h)
  .exact .inl (.inl h)
  .exact .inr h
  .exact .inl (.inr h)
 .rintro((h|h)|h)
  .exact .inl (.inl h)
  .exact .inr h
  .exact .inl (.inr h)
theorem We(n:Nat):Lib.hasPrefix (ze zi n).data.toList VV.data.toList=false/\Lib.atoi (ze zi n).data.toList=none:=by
 have e:(ze zi n).data.toList=108::111::103::Lib.decDigits n:=by
  simp only[ze,zi,Kk,LX,Xa]
  rfl
 rw[e];exact⟨rfl,rfl⟩
theorem SF(n:Nat)(a:n<10^15):(ze zi n).size<=18:=by
 have h:=Wc 14 n a;have e:(ze zi n).data.toList.length=3+(Lib.decDigits n).length:=by
  simp only[ze,zi,Kk,LX,Xa];simp;omega
 have b:(ze zi n).size=(ze zi n).data.toList.length:=by simp
 omega
def Um(a:List Nat)(l:List (Nat × ByteArray)):Prop:=l.length=a.length/\∀ e,e∈l↔∃ n∈a,e=(n,ze zi n)
theorem VW(b:Nat)(L:DL)(M:DM)(w:World)(h:DRep w b L M)(a:List Nat)(hd:M.dir.names=a.map (ze zi))(a4:M.dir.length=a.length)(a0:a.Nodup)(Q:∀ n∈a,1<=n/\n<10^15)(b0:a.length<1000000000)
 (ht:∀ o,Fr Nil w o->Tab o)(y:Yv w) :
 Calls Tryz.prog 145 #[.pointer (some ⟨b,0,none⟩)] w fun e o =>
  ∃ mb v l,e=.returned (.pointer (some ⟨mb,0,none⟩))/\Blk o mb [v] 263/\Wd o v l/\Um a l/\w.heap.size<=mb/\(∀ k,v.ownBlock=some k->w.heap.size<=k)/\Fr Nil w o:=by
 have HL:=Z (fun z (f:Fr Nil w z)=>YX z b L M (h.fr f (fun _ _=>id)) (by omega));rw[hd,a4] at HL;clear h;go_enter Tryz.func145,Tryz.ntmps145;go_wp2_with fail;have X:Blk (w.alloc (.cells #[.slice none 0 0] 263)) w.heap.size [.slice none 0 0] 263:=Blk.new w [_] _;have B:Fr Nil w (w.alloc (.cells #[.slice none 0 0] 263)):=(O _ _).alloc _;generalize w.alloc (.cells #[.slice none 0 0] 263)=W0 at X B |-;refine(HL.out W0 B).mono ?_;rintro e w1 ⟨lv,rfl,V,I,b2⟩;have a6:=X.fr I id;obtain⟨la,lc,rfl⟩:=zd V;go_wp2_with fail;have HT:=Z ht;have b1:=Z y;have a3:=Z a0;have HB:=Z Q;have HX:Hid (∀ n∈a,∀ z,Fr Nil w z->(Calls Tryz.prog 185 #[.string zi,.string (ze zi n)] z fun e o=>e=.returned (.int .i64 n)/\Fr Nil z o) /\
  (Calls Tryz.prog 185 #[.string VV,.string (ze zi n)] z fun e o=>e=.returned (.int .i64 0)/\Fr Nil z o)):=fun n Y z f =>
  ⟨SA zi (by decide) n (Q n Y).1 (by have:=(Q n Y).2;omega) z (fun o f'=>ht o (f.trans f')),
   XS VV (ze zi n) (We n).1 (SF n (Q n Y).2) (We n).2 z (y.fr f id)⟩
 clear ht y a0 Q;have b5:=B.size;have b6:=I.size
 go_loopw [12] (fun K o=>∃ (i:Nat) (v:Value) (l:List (Nat × ByteArray)),i<=a.length/\K=.int .i64 (i:Int)/\Blk o w.heap.size [v] 263/\Wd o v l/\Um (a.take i) l/\(∀ k,v.ownBlock=some k->w.heap.size<=k)/\o.ownsRow 0 9 1 (.slice la a.length lc) a.length (strs (a.map (ze zi)))/\Fr Nil w o) (fun K _=>(a.length-intOf K).toNat)
 case atStart =>
  refine⟨0,_,[],by omega,rfl,a6,⟨⟨rfl,.inl ⟨rfl,rfl⟩⟩,?_⟩,⟨rfl,by simp⟩,fun k D=>by simp[Value.ownBlock] at D,V,B.trans I⟩;exact List.Pairwise.nil
 case round =>
  obtain⟨i,v,l,hi,rfl,A,s,t,u,r,hf⟩:=hrel;by_cases C:i<a.length
  .obtain⟨g,cap',hg,_,_⟩:=zq r (by omega)
   obtain⟨rfl,rfl⟩:la=some ⟨g,0,none⟩/\lc=cap':=by simpa using hg
   have hc:=own_cell? r i (.string (ze zi a[i])) (by simp[strs,C]);have d:=NV C;have a2:=(HB.out _ d).1;have R:a[i]<10^15:=(HB.out _ d).2;have a1:a[i]∉Zd l:=by
    intro D;obtain⟨e,he,E⟩:=Mt.1 D;obtain⟨n,Y,rfl⟩:=(t.2 e).1 he;simp only at E;obtain⟨j,hj,rfl⟩:=LI Y;simp only[NT] at hj;rw[KG] at E;exact(List.pairwise_iff_getElem.1 a3.out) j i (by omega) C (by omega) E
   have HN:=Z a1;have q:=Z (And.intro A (And.intro s (And.intro t (And.intro u (And.intro r hf)))));have N:Hid (a.take (i+1)=a.take i++[a[i]]):=by
    show a.take (i+1)=_;rw[KJ,NZ C];rfl
   clear A s t u r hf a1;generalize b4:a[i]=n at hc d a2 R HN N;go_wp2_with fail;refine((HX.out n d wr q.out.2.2.2.2.2).1).mono ?_;rintro e w2 ⟨rfl,S⟩;go_wp2_with fail;refine((HX.out n d w2 (q.out.2.2.2.2.2.trans S)).2).mono ?_;rintro e w3 ⟨rfl,a5⟩;have a9:(0:Int)<n:=by omega
   have b3:¬(n:Int)<0:=by omega
   go_wp2_with fail;have c:=S.trans a5;refine(QL v [] l n (ze zi n) w.heap.size 263 w3 (q.out.1.fr c id) (by decide) (q.out.2.1.fr c (fun _ _=>id)) (by have:=q.out.2.2.1.1;simp at this;omega) (PD HN.out)).mono ?_;rintro e w4 ⟨rfl,v',a8,G,T,J⟩;go_wp2_with fail;have x:=za q.out.2.2.2.2.1 c (fun _ _=>id);have a7:=q.out.1.fr c id;have F:=q.out.2.1.fr c (fun _ _=>id);have b7:=(q.out.2.2.2.2.2.trans c).size;refine⟨⟨i+1,v',Xq l n (ze zi n),by omega,by go_num,a8,G,⟨?_,fun e=>?_⟩,fun k D=>?_,za x T (fun k D e=>?_),?_⟩,by simp[intOf];omega⟩
   .have:=q.out.2.2.1.1
    rw[Ve,this];simp;omega
   .rw[Ox,N.out,q.out.2.2.1.2 e]
    constructor
    .rintro(⟨m,A,rfl⟩|rfl)
     .exact⟨m,by simp only[Mc];exact .inl A,rfl⟩
     .exact⟨n,by simp,rfl⟩
    .rintro⟨m,A,rfl⟩
     simp only[Mc,NW] at A;rcases A with A|rfl
     .exact .inl ⟨m,A,rfl⟩
     .exact .inr rfl
   .rcases J k D with h1|h1
    .exact q.out.2.2.2.1 k h1
    .omega
   .have h0:=Zx x D
    rcases e with rfl|e
    .exact absurd (Ty.inj h0 (Blk.ty a7)) (by decide)
    .exact absurd (Ty.inj h0 (Zx F.own e)) (by decide)
   .refine(q.out.2.2.2.2.2.trans c).trans' T (fun k D e=>?_)
    rcases e with rfl|e
    .omega
    .have:=q.out.2.2.2.1 k e;omega
  .have hil:i=a.length:=by omega
   subst hil;go_wp2_with fail;go_ret;rw[Mz] at t;exact⟨_,v,l,rfl,A,s,t,NS _,u,hf⟩
end Go.Proofs.YtkhnggkkiefcdaaGreatDoor
namespace Go.Proofs.YtkhnggkkiefcdaaGreatDoor
open Go.RowKit
theorem Qa{α:Type}(f:α->Nat):∀ (a b:List α),a.Pairwise (fun x y=>f x<f y)->b.Pairwise (fun x y=>f x<f y)->(∀ e,e∈a↔e∈b)->a=b
 | [],[],_,_,_=>rfl
 | [],y::b,_,_,h=>absurd ((h y).2 (NY ..)) (by simp)
 | x::a,[],_,_,h=>absurd ((h x).1 (NY ..)) (by simp)
 | x::a,y::b,d,g,h=>by
  rw[List.pairwise_cons] at d g;have i:x=y:=by
   rcases Mr.1 ((h x).1 (NY ..)) with e|e
   .exact e
   .rcases Mr.1 ((h y).2 (NY ..)) with e2|e2
    .exact e2.symm
    .have c:=g.1 x e
     have j:=d.1 y e2;omega
  subst i;rw[Qa f a b d.2 g.2 fun e=>?_]
  constructor
  .intro he
   rcases Mr.1 ((h e).1 (NX _ he)) with rfl|c
   .have:=d.1 e he;omega
   .exact c
  .intro he
   rcases Mr.1 ((h e).2 (NX _ he)) with rfl|c
   .have:=g.1 e he;omega
   .exact c
def segs(k:Nat):List (Nat × ByteArray):=(List.range k).map fun i=>(i+1,ze zi (i+1))
theorem RJ{a:List Nat}{l:List (Nat × ByteArray)}{k:Nat}(h:Um a l)(c:Asc zy (Zd l))(b:∀ n,n∈a↔1<=n/\n<=k):l=segs k:=by
 refine Qa Prod.fst l (segs k) ?_ ?_ fun e=>?_
 .have h1:(l.map Prod.fst).Pairwise (fun x y=>zy x y=true):=c
  rw[Kq] at h1;exact h1.imp fun h=>by simpa [zy] using h
 .unfold segs
  rw[Kq];exact List.pairwise_lt_range.imp fun h=>by simpa using h
 .rw[h.2 e]
  unfold segs;simp only[Mt,KO]
  constructor
  .rintro⟨n,hm,rfl⟩
   have:=(b n).1 hm;exact⟨n-1,by omega,by rw[show n-1+1=n by omega]⟩
  .rintro⟨i,hi,rfl⟩
   exact⟨i+1,(b _).2 (by omega),rfl⟩
end Go.Proofs.YtkhnggkkiefcdaaGreatDoor
namespace Go.Proofs.YtkhnggkkiefcdaaGreatDoor
open Go.RowKit
set_option maxRecDepth 100000
set_option maxHeartbeats 8000000
def WZ(b:Nat)(w:World):Prop:=Calls Tryz.prog 183 #[.pointer (some ⟨b,0,none⟩)] w fun e a=>e=.returned (.slice none 0 0)/\Fr Nil w a
theorem Oy(b:Nat)(w:World)(h:WZ b w) :
 Calls Tryz.prog 144 #[.pointer (some ⟨b,0,none⟩)] w fun e a=>e=.returned .nilIface/\Fr Nil w a:=by
 unfold WZ at h;have c:=Z h;clear h;go_enter Tryz.func144,Tryz.ntmps144;go_wp2_with fail;refine c.out.mono ?_;rintro e f ⟨rfl,d⟩
 go_wp2
 go_loopw [9] (fun t a=>t=.int .i64 0/\a=f) (fun _ _=>0)
 case atStart=>exact⟨rfl,rfl⟩
 case round =>
  obtain⟨rfl,rfl⟩:=hrel
  go_wp2
  go_ret;exact⟨rfl,d⟩
end Go.Proofs.YtkhnggkkiefcdaaGreatDoor
namespace Go.Proofs.YtkhnggkkiefcdaaGreatDoor
open Go.RowKit Go.Shelf
set_option maxRecDepth 100000
set_option maxHeartbeats 8000000
attribute [local go_sem] LW
theorem N8{β:Type}(a:Nat)(e:TypeId)(size:Nat)(v:Value)(n:Nat)(m:List Value):Go.Own (fun(_:β) W=>W.ownsRow a e size v n m):=fun s X Y row f l b=>by
 refine World.ownsRow.kept f l ?_;rcases f.2 with⟨rfl,_⟩|⟨g,h,i,rfl,_,c,_⟩
 .exact .inl rfl
 .refine .inr fun j=>?_
  obtain⟨o,d,k⟩:=b g (by simpa [Value.ownBlock] using j.symm);rw[c] at d;cases d;cases k
theorem KeepsOthers.Fo{S:Nat->Prop}{W b:World}(f:Fr S W b)(h:∀ k,S k->∃ t,Ty W k t):KeepsOthers W b :=
 ⟨f.size,fun k o a d=>(f.block k (MV.1 a).1 (fun g=>by obtain⟨t,c,i,e⟩:=h k g;rw[a] at e;cases e;cases d)).trans a⟩
theorem PE(n:Nat):(ze zi n==⟨#[110,101,119]⟩)=false:=by
 cases h:(ze zi n==⟨#[110,101,119]⟩) with
 | false=>rfl
 | true =>
  have e:=LH (fun b:ByteArray=>b.data.toList) (zJ.1 h);have a:(ze zi n).data.toList=108::111::103::Lib.decDigits n:=by
   simp only[ze,zi,Kk,LX,Xa]
   rfl
  simp only[a] at e;cases e
theorem QM(b:Nat)(L:DL)(M:DM)(w:World)(h:DRep w b L M)(c:List Nat)(hd:M.dir.names=c.map (ze zi))(a8:M.dir.length=c.length)(c0:c.Nodup)(hb:∀ n∈c,1<=n/\n<10^15)(u:c.length<1000000000)
 (ht:∀ S,Fr Nil w S->Tab S)(A:Yv w):WZ b w:=by
 unfold WZ;have HL:=Z (fun B (f:Fr Nil w B)=>YX B b L M (h.nil f) (by omega));rw[hd,a8] at HL;have b2:=Z (fun B (f:Fr Nil w B)=>VW b L M B (h.nil f) c hd a8 c0 hb u (fun S f'=>ht S (f.trans f')) (A.fr f id));have HN:Hid (∀ n∈c,∀ B,Fr Nil w B->Calls Tryz.prog 185 #[.string VV,.string (ze zi n)] B fun e S=>e=.returned (.int .i64 0)/\Fr Nil B S):=fun n hn B f =>
  XS VV (ze zi n) (We n).1 (SF n (hb n hn).2) (We n).2 B (A.fr f id)
 clear h ht A;refine(Lm (n:=8)).1 ?_;refine JA Tryz.func183 rfl trivial ?_ rfl;simp only[Tryz.ntmps183,LU,Mh,ME,Nat.reduceAdd,Nat.reduceSub,Km,Kn,KH,Ku,LB,MJ];obtain⟨ti,tz,c2,c3,c4,c5,c6⟩:=Zr XZ
 gi_wp2_with fail
 refine⟨trivial,?_⟩;refine(Lm.2 (b2.out _ (by exact z8))).mono ?_;rintro e g ⟨o,v,l,rfl,a6,r,N,d3,Q,s⟩;have bo:Boxed g w.heap.size 91 (.slice none 0 0):=(s.block w.heap.size (by simp;omega) id).trans (Boxed.alloc (JX w 91 (.slice none 0 0)) _);have ba:Boxed g (w.heap.size+1) 91 (.slice none 0 0):=(s.block (w.heap.size+1) (by simp) id).trans (by have:=JX (w.alloc (.cells #[.slice none 0 0] 91)) 91 (.slice none 0 0);rwa [Jj] at this);have a3:Below w.heap.size w g:=(((Ij _ w).alloc (NS _) _).alloc (by simp) _).trans (s.below.mono (by simp;omega));have d5:w.heap.size+2<=g.heap.size:=by have:=s.size;simp at this;omega
 have Y:=Z a6;have T:Hid (l.length=c.length/\∀ i,i<l.length->∃ n∈c,Z9 l i=(n,ze zi n)):=⟨N.1,fun i hi=>by
  have hm:l[i]∈l:=NV hi;obtain⟨n,hn,he⟩:=(N.2 _).1 hm;exact⟨n,hn,by simp[Z9,List.getD_eq_getElem?_getD,List.getElem?_eq_getElem hi,he]⟩⟩
 clear a6 s N
 gi_wp2_with fail
 refine⟨trivial,?_⟩;refine(Lm.2 (VH o _)).mono ?_;rintro e w3 ⟨rfl,rfl⟩;have bM:=JX g 211 (.pointer (some ⟨o,0,none⟩));have a1:=bo.alloc (.cells #[.pointer (some ⟨o,0,none⟩)] 211);have a0:=ba.alloc (.cells #[.pointer (some ⟨o,0,none⟩)] 211);have a4:Below w.heap.size w (g.alloc (.cells #[.pointer (some ⟨o,0,none⟩)] 211)):=a3.alloc (by omega) _;have X:=Z (Y.out.alloc (.cells #[.pointer (some ⟨o,0,none⟩)] 211));have c1:(g.alloc (.cells #[.pointer (some ⟨o,0,none⟩)] 211)).heap.size=g.heap.size+1:=by simp
 have z:=za r.own ((O Nil g).alloc (.cells #[.pointer (some ⟨o,0,none⟩)] 211)) (fun _ _=>id);generalize g.alloc (.cells #[.pointer (some ⟨o,0,none⟩)] 211)=W0 at bM a1 a0 a4 X c1 z;have d4:=Y.out.lt;clear bo ba a3 r;have b5:=Z z;have HI:Hid (OwnFrom W0.heap.size (fun(i:Nat) W=>(∃ va,Boxed W (w.heap.size+1) 91 va/\W.ownsRow w.heap.size 9 1 va i (strs ((List.range i).map fun k=>(Z9 l k).2))/\True)/\Boxed W w.heap.size 91 (.slice none 0 0)/\Below w.heap.size w W/\W.ownsRow 0 268 2 v l.length (zZ l))) :=
  Jr (IJ (holdsRow_own w.heap.size (w.heap.size+1) 91 9 1 (fun i:Nat=>i) (fun i=>strs ((List.range i).map fun k=>(Z9 l k).2)) (fun _ _=>True)) _) (Jr (IJ (boxed_own _ _ _) _) (Jr (ownFrom_below (by omega) (by omega)) (IJ (N8 _ _ _ _ _ _) _)))
 have V:Hid (l.length<1000000000):=by rw[T.out.1];exact u
 clear u z
 gi_wp2_with fail
 refine XL rfl (by decide) (gf:=187) (lb:=#[.pointer (some ⟨g.heap.size,0,none⟩)]) rfl trivial (Jn Tryz.func187 (by kernel_rfl) rfl)
  l.length (Vo l) (fun _=>rfl) _ HI.out
  ⟨⟨_,a0,Mo W0 _ _ _,trivial⟩,a1,a4,b5.out⟩
  (fun k J W hW hJ hI hY h0=>S7 Fence.wide 7 trivial rfl (by decide) k g.heap.size o v l J W (by have:=V.out;omega) hJ (fun i W1 h=>(hI i W1 h).2.2.2) hY ((hW.cell (p:=⟨g.heap.size,0,none⟩) (by simp only;omega)).trans bM.cell) ((hW.cell (p:=⟨o,0,none⟩) (by simp only;omega)).trans (X.out.cell 0)) h0)
  (fun i=>{tmps:=#[.pointer (some ⟨b,0,none⟩),undef,.slice none 0 0,.pointer (some ⟨w.heap.size,0,none⟩),.pointer (some ⟨w.heap.size+1,0,none⟩),undef,.string (Z9 l i).2,.pointer (some ⟨b,0,none⟩),.pointer (some ⟨o,0,none⟩),.func (.func 187) #[] #[.pointer (some ⟨g.heap.size,0,none⟩)],.int .i64 (Z9 l i).1,.string (Z9 l i).2,undef,undef,undef,undef,undef,undef,undef,undef,undef,undef,undef,undef,undef,undef,undef,undef,undef],defers:=[]}) ?assign ?body ?done
 case assign =>
  intro l x W K hK;unfold Vo
  gi_wp2
  exact hK
 case body =>
  rintro q i W hi ⟨⟨va,G,a,_⟩,d,m,j⟩;obtain⟨n,hn,he⟩:=T.out.2 i hi;have b4:=Z (HN.out n hn W (Fr.Ge m));have b1:Hid (strs ((List.range (i+1)).map fun k=>(Z9 l k).2)=strs ((List.range i).map fun k=>(Z9 l k).2)++[.string (ze zi n)]):=by
   show _=_;rw[List.range_succ,ML,List.map_singleton,he];simp[strs]
  have d2:i<1000000000:=IH hi V.out;rw[he];clear he;have E:=Z (And.intro G (And.intro a (And.intro d (And.intro m j))));clear G a d m j
  gi_wp2_with fail
  refine⟨trivial,?_⟩;refine(Lm.2 b4.out).mono ?_;rintro e W2 ⟨rfl,R⟩;have G:=(R.block _ E.out.1.lt id).trans E.out.1;have a:=za E.out.2.1 R (fun _ _=>id);have d:=(R.block _ E.out.2.2.1.lt id).trans E.out.2.2.1;have m:=E.out.2.2.2.1.trans (R.below.mono E.out.2.2.2.1.size);have j:=za E.out.2.2.2.2 R (fun _ _=>id);have b8:KeepsOthers W W2:=KeepsOthers.Fo R (fun _ e=>absurd e id);have hc:=Boxed.cell G;have C:=Boxed.frozen G
  gi_wp2_with (gi_at_builtin;go_must (refine wpListIn_append_own _ rfl _ _ 91 rfl w.heap.size 9 ti tz 1 16 KF c2 c3 c4 c5 c6 (by decide) _ _ _ rfl (World.ownsRow.alloc a _) ⟨W2.heap.size,0,none⟩ 1 1 [.string (ze zi n)] rfl rfl (IG _ _ _) (by simp[Value.oneCell']) (by unfold maxLen;omega) (by omega) (by have:=m.size;simp;omega) ?_;intro v3 w3 y t _;obtain⟨g',a2,rfl⟩:=ownsRow_succ y;obtain⟨Q,c7,z,b9,b7⟩:=Boxed.appended G (by decide) a m.size (by omega) y t;have c9:=Q.cell;have d1:=Q.frozen))
  have a9:Fr (fun k=>va.ownBlock=some k\/k=w.heap.size+1) W2 (w3.setCell ⟨w.heap.size+1,0,none⟩ (.slice (some ⟨g',0,none⟩) (i+1) a2)) :=
   Fr.set (p:=⟨w.heap.size+1,0,none⟩) (Fr.grown ((O _ W2).alloc _) t (fun k e _=>.inl e)) (fun _=>.inr rfl) _
  refine⟨b8.trans b9,trivial,⟨_,c7,by rw[b1.out];exact z,trivial⟩,(a9.block _ (Boxed.lt d) (fun e=>e.elim (fun e=>(Boxed.not_row d (by decide) a) e.symm) (fun e=>by omega))).trans d,m.trans b7,za j a9 (fun k hk e=>?_)⟩;rcases e with e|e
  .exact zN a j (by decide) e hk
  .subst e
   exact zf j (show Blk W2 (w.heap.size+1) [va] 91 from G) (by decide) hk
 case done =>
  rintro D W hD ⟨_,d,m,_⟩ hK;have hc:=d.cell;have b3:=Z (HL.out W (Fr.Ge m))
  gi_wp2_with fail
  refine⟨trivial,?_⟩;refine(Lm.2 b3.out).mono ?_;rintro e w4 ⟨v4,rfl,a,C,_⟩;have HC:=Z (VU v4 _ ⟨#[110,101,119]⟩ w4 (by rw[Mw];exact a));rw[show(c.map (ze zi)).any (·==⟨#[110,101,119]⟩)=false by simp only[List.any_map,List.any_eq_false];intro x hx;simp[PE]] at HC;have a7:w4.cell? ⟨w.heap.size,0,none⟩=some (.slice none 0 0):=(C.cell d.lt id).trans hc;have F:Hid (Below w.heap.size w w4):=m.trans (C.below.mono m.size);have c8:w.heap.size<=D:=by omega
  have I:=(C.block D (MV.1 hK).1 id).trans hK;clear a C hc d m
  gi_wp2_with fail
  refine⟨trivial,?_⟩;refine(Lm.2 HC.out).mono ?_;rintro e w5 ⟨rfl,C⟩;have d0:w5.cell? ⟨w.heap.size,0,none⟩=some (.slice none 0 0):=(C.cell (by have:=F.out.size;simp only;have:=(MV.1 I).1;omega) id).trans a7;have b0:Hid (Below w.heap.size w w5):=F.out.trans (C.below.mono F.out.size);have a5:=(C.block D (MV.1 I).1 id).trans I;clear C a7
  gi_wp2_with fail
  refine⟨by simp,.inl ⟨_,_,rfl,JY a5,?_⟩⟩;have b6:Below w.heap.size w (w5.putObj D (.deferred none)):=b0.out.trans (belowK_b (w:=w) (NS _) w5 D _ _ (by omega) a5 rfl rfl);exact⟨_,results_tmp rfl _ _ _,rfl,Fr.Ge b6⟩
end Go.Proofs.YtkhnggkkiefcdaaGreatDoor
namespace Go.Proofs.YtkhnggkkiefcdaaGreatDoor
open Go.RowKit Go.Shelf
set_option maxRecDepth 100000
set_option maxHeartbeats 8000000
attribute [local go_sem] LW
theorem Blk.kept{W d:World}{row:Option Nat}{b:Nat}{c:List Value}{t:TypeId}(h:Blk W b c t)(e:W.grownBy d row)(a:some b≠row):Blk d b c t:=h.of_heap (e.block b h.lt a)
theorem Blk.put{W:World}{b D:Nat}{c:List Value}{t:TypeId}(h:Blk W b c t){o:Obj}(a:W.heap[D]?=some o)(g:o.isCells=false)(d:Obj):Blk (W.putObj D d) b c t :=
 h.kept (grownBy_putObj' W D d) (fun e=>by
  have e:b=D:=by simpa using e
  subst e;rw[show W.heap[b]?=_ from h] at a;cases a;cases g)
def JM.none(a:Nat):JM:={Hq:=a,last:=0,name:=ByteArray.empty,size:=0,Gk:=false,Hb:=false}
end Go.Proofs.YtkhnggkkiefcdaaGreatDoor
namespace Go.Proofs.YtkhnggkkiefcdaaGreatDoor
open Go.RowKit
theorem Tf(a b:List Fact):zx (a++b)=zx a++zx b:=by simp[zx]
theorem Wf(f:Fact):(zj f).data.toList=zA (zl f):=by rw[VR];simp[zk]
theorem Vf(a:List Fact)(f:Fact):zx (a++[f])=zx a++(zj f).data.toList:=by
 rw[Tf,Wf];simp[zx]
theorem SG(a:List UInt8):[]<+:zA a/\[]≠zA a :=
 ⟨Ir,fun e=>by have:=Vq a;rw[<- e] at this;simp at this⟩
end Go.Proofs.YtkhnggkkiefcdaaGreatDoor
namespace Go.Proofs.YtkhnggkkiefcdaaGreatDoor
open Go.RowKit
set_option maxRecDepth 100000
set_option maxHeartbeats 8000000
def WL(l:List UInt8):Nat:=l.foldl (fun a c=>a*10+(c.toNat-48)) 0
theorem RK(l:List UInt8)(c:UInt8):WL (l++[c])=WL l*10+(c.toNat-48):=by simp[WL]
theorem Ww(u:Nat):WL (Lib.decDigits u)=u:=by
 induction u using Nat.strongRecOn with
 | _ u a =>
  rw[Lib.decDigits];by_cases h:u<10
  .rw[IK h]
   have:(UInt8.ofNat (48+u)).toNat=48+u:=by simp;omega
   simp only[WL,LA,List.foldl_nil,this];omega
  .rw[dif_neg h,RK,a (u / 10) (by omega)]
   have:(UInt8.ofNat (48+u%10)).toNat=48+u%10:=by simp;omega
   rw[this];omega
theorem Oz{a b:Nat}(h:Zc a=Zc b):a=b:=by
 have c:Lib.itoa (a:Int)=Lib.itoa (b:Int):=by
  have:=LH (fun x:ByteArray=>x.data.toList) h
  simpa [Zc] using this
 have e:∀ n:Nat,Lib.itoa (n:Int)=Lib.decDigits n:=by
  intro n;unfold Lib.itoa;rw[Ma (by omega)];simp
 rw[e,e] at c;rw[<- Ww a,<- Ww b,c]
theorem Xw{k:ByteArray}{a b:Nat}(h:ze k a=ze k b):a=b:=by
 refine Oz ?_;have c:(ze k a).data.toList=(ze k b).data.toList:=by rw[h]
 unfold ze at c;simp only[Kk,LX,List.append_cancel_left_eq] at c;exact Jq (KY c)
theorem QN(k:ByteArray)(n:Nat):(ze k n).size=k.size+(Zc n).size:=by
 unfold ze;simp
theorem OA(n:Nat):ze zi n≠ByteArray.empty:=by
 intro h;have:(ze zi n).size=0:=by rw[h];rfl
 rw[QN] at this;have a:zi.size=3:=rfl;omega
def DM.Hx(M:DM):Nat:=(M.dir.map fun e=>(M.file e.2).bytes.length).sum
theorem SH{n:Int}(a:0<=n)(b:n<9223372036854775808):wrap64 n=n:=by unfold wrap64;omega
theorem DM.Fs(M:DM)(h:M.Hx<4611686018427387904):M.used=M.Hx:=by
 have b:∀ (d:Dir) (a:Nat),a+(d.map fun e=>(M.file e.2).bytes.length).sum<4611686018427387904 ->
  d.foldl (fun n e=>wrap64 (n+(M.file e.2).bytes.length)) (a:Int)=((a+(d.map fun e=>(M.file e.2).bytes.length).sum:Nat):Int):=by
  intro d
  induction d with
  | nil=>intro a _;simp
  | cons e d f =>
   intro a c;simp only[Mf,Ly] at c;rw[LA,SH (by omega) (by omega)];have:=f (a+(M.file e.2).bytes.length) (by omega);rw[show((a:Int)+((M.file e.2).bytes.length:Int))=((a+(M.file e.2).bytes.length:Nat):Int) from by push_cast;rfl,this];simp only[Mf,Ly]
   congr 1
   omega
 have:=b M.dir 0 (by unfold DM.Hx at h;omega);unfold DM.used DM.Gr;rw[Mz];rw[show(0:Int)=((0:Nat):Int) from rfl,this];unfold DM.Hx;simp
theorem PF{d:Dir}{a:ByteArray}(h:∀ e∈d,e.1≠a):d.look a=none:=by
 have c:d.find? (fun e=>e.1==a)=none:=by
  rw[Ke];intro e b x;exact h e b (zJ.1 x)
 unfold Dir.look;rw[c]
 rfl
theorem UF{f n:Nat}(size:Nat->Nat):∀ (d:Dir),(d.map (·.2)).Nodup->(d.map fun e=>if e.2=f then size e.2+n else size e.2).sum<=(d.map fun e=>size e.2).sum+n
 | [],_=>by simp
 | e::d,h=>by
  simp only[Mf,Kl] at h;simp only[Mf,Ly];by_cases a:e.2=f
  .rw[Mg a]
   have:(d.map fun e=>if e.2=f then size e.2+n else size e.2)=d.map fun e=>size e.2:=by
    apply MX
    intro x c;rw[Ma];intro b;exact h.1 (by rw[a,<- b];exact MR c)
   rw[this];omega
  .rw[Ma a]
   have:=UF (f:=f) (n:=n) size d h.2;omega
structure VOk(u:Ver):Prop where
 node:WH u.node
 nat:u.Nat
 size:u.value.size<=128
 one:1<=u.seq
 gone:u.gone=false
theorem PG{n:Int}(h:isN n):(zg n.toNat).length<=9:=zr (by unfold isN at h;omega)
theorem SI:∀ l:List Nat,(∀ x∈l,x<9223372036854775808)->((l.map zg).flatten).length<=9*l.length
 | [],_=>by simp
 | a::l,h=>by
  have:=SI l (fun x b=>h x (NX _ b));have c:=zr (h a (NY ..));simp only[Mf,Lp,NQ,Mh];omega
theorem PH(l:List Nat)(a:∀ x∈l,x<9223372036854775808)(b:l.length<9223372036854775808):(ZZ l).length<=9+9*l.length:=by
 unfold ZZ;rw[NQ];have c:=zr b;have:=SI l a;omega
theorem Xx(s:ByteArray)(h:s.size<1000000000):(zH s.data.toList).length<=9+s.size:=by
 have a:s.data.toList.length=s.size:=by rw[LJ];rfl
 unfold zH;rw[NQ,a];have:=zr (n:=s.size) (by omega);omega
theorem OB{u:Ver}(h:VOk u):(Zj u).length<=200:=by
 unfold Zj;simp only[NQ];have g:=PG h.nat.node;have i:=PG h.nat.seq;have f:=PH [u.o0.toNat,u.o1.toNat,u.o2.toNat,u.o3.toNat] (by
  have a:=h.nat.o0;have b:=h.nat.o1;have c:=h.nat.o2;have d:=h.nat.o3;unfold isN at a b c d;intro x e;simp only[Mr,LO,JG] at e;rcases e with rfl|rfl|rfl|rfl <;> omega) (by simp only[Mh,ME];omega)
 have j:=Xx u.value h.nat.size;have:=h.size;simp only[Mh,ME] at f;omega
theorem WN(l:List Ver)(h:∀ u∈l,VOk u)(g:l.length<=5):(Zb l).length<=1009:=by
 unfold Zb;rw[NQ];have e:=zr (n:=l.length) (by omega);have b:∀ l:List Ver,(∀ u∈l,VOk u)->((l.map Zj).flatten).length<=200*l.length:=by
  intro l
  induction l with
  | nil=>intro _;simp
  | cons a l d =>
   intro h;have:=d (fun x c=>h x (NX _ c));have f:=OB (h a (NY ..));simp only[Mf,Lp,NQ,Mh];omega
 have:=b l h;omega
theorem Wg(l:List UInt8)(h:l.length<9223372036854775808):(zA l).length<=9+l.length:=by
 unfold zA;rw[NQ];have:=zr h;omega
theorem YN(l:List UInt8):(zk l).size=l.length:=rfl
theorem WO{a:ByteArray}{l:List Ver}(b:zz a=true)(h:∀ u∈l,VOk u)(d:l.length<=5):(zj (.inr (.inl (a,l)))).size<=2000:=by
 show(zk (YK a l)).size<=2000;rw[YN];unfold zz at b;simp only[Ms] at b;unfold YK;have e:=zr (n:=2) (by decide);have f:=Xx a (by omega);have g:=WN l h d;have c:=Wg (zg 2++(zH a.data.toList++Zb l)) (by simp only[NQ];omega);simp only[NQ] at c;omega
theorem Xb{b:Nat}{a:ByteArray}(h:b<9223372036854775808)(g:a.size<=64):(zj (.inr (.inr (.inl (b,a))))).size<=2000:=by
 show(zk (Xg b a)).size<=2000;rw[YN];unfold Xg;have d:=zr (n:=3) (by decide);have e:=Xx a (by omega);have f:=zr h;have c:=Wg (zg 3++(zg b++zH a.data.toList)) (by simp only[NQ];omega);simp only[NQ] at c;omega
theorem WP{a:ByteArray}{l:List Ver}(b:zz a=true)(h:∀ u∈l,VOk u)(c:l.length<=5):FOk (.inr (.inl (a,l))):=by
 unfold zz at b;simp only[Ms] at b;have:=WN l h c;exact⟨fun v d=>(h v d).nat,by show l.length<_;omega,by show a.size<_;omega,by show(Zb l).length<=_;omega⟩
structure Zo(S:SM):Prop where
 Gv:Ye S.keys
 key:∀ e∈S.keys,Vp e.2/\e.2.length<=4/\∀ u∈e.2,VOk u
 hlen:S.hints.length<=32
 names:∀ e∈S.keys,zz e.1=true
theorem OC(K:Keys)(a:ByteArray):zt K a=[]\/∃ e∈K,e.1=a/\e.2=zt K a:=by
 cases ha:zD zb (K.map Prod.fst) a with
 | false=>exact .inl (by unfold zt;rw[ha];rfl)
 | true =>
  obtain⟨l,c,b⟩:=W8 ha;refine .inr ⟨(a,l),?_,rfl,b.symm⟩;rw[c];simp
theorem Zo.get{S:SM}(h:Zo S)(a:ByteArray):Vp (zt S.keys a)/\(zt S.keys a).length<=4/\∀ u∈zt S.keys a,VOk u:=by
 rcases OC S.keys a with e|⟨e,c,_,b⟩
 .rw[e]
  exact⟨List.Pairwise.nil,by simp,fun u d=>absurd d (by simp)⟩
 .rw[<- b]
  exact h.key e c
theorem Wh{K:Keys}{b:ByteArray}{l:List Ver}:∀ e∈Zm K b l,e∈K\/e=(b,l):=by
 intro e a;simp only[Zm,Mc,NW] at a;rcases a with(a|rfl)|a
 .exact .inl (Lr a)
 .exact .inr rfl
 .exact .inl (MO a)
theorem Wi{K:Keys}{b:ByteArray}:∀ e∈ZR K b,e∈K:=by
 intro e a;unfold ZR at a;split at a
 .rcases Mc.1 a with a|a
  .exact Lr a
  .exact MO a
 .exact a
theorem SJ{K:Keys}(a:ByteArray)(l:List Ver)(h:Ye K):Ye (Zm K a l):=by
 unfold Ye at h |-;cases ha:zD zb (K.map Prod.fst) a with
 | true =>
  obtain⟨g,f,_⟩:=W8 ha;have e:(Zm K a l).map Prod.fst=K.map Prod.fst:=by
   have c:K.map Prod.fst=(K.take (low zb (K.map Prod.fst) a)++(a,g)::K.drop (low zb (K.map Prod.fst) a+1)).map Prod.fst:=LH (List.map Prod.fst) f;unfold Zm;rw[Mg ha]
   conv=>rhs;rw[c]
   simp
  rw[e];exact h
 | false =>
  have:=Asc.ins zW (b:=a) h (fun d e=>by rw[WY d,e] at ha;rw[zJ.2 rfl] at ha;cases ha);unfold Zm;simp only[ha,Lc,MN]
  simpa [List.map_take,List.map_drop] using this
theorem SK{K:Keys}(a:ByteArray)(h:Ye K):Ye (ZR K a):=by
 unfold Ye at h |-;unfold ZR;split
 .have:=Asc.del h (low zb (K.map Prod.fst) a)
  simpa [List.map_take,List.map_drop] using this
 .exact h
theorem SN(K:Keys)(a:ByteArray)(l:List Ver):(Zm K a l).length<=K.length+1:=by
 unfold Zm;simp only[NQ,NT,Mn,NU];split <;> omega
theorem SO(K:Keys)(a:ByteArray):(ZR K a).length<=K.length:=by
 unfold ZR;split
 .simp only[NQ,NT,Mn];omega
 .exact NS _
theorem Zo.holds{S:SM}(h:Zo S)(a:ByteArray)(f:zz a=true)(l:List Ver)(d:Vp l)(i:l.length<=4)(j:∀ u∈l,VOk u):Zo (S.holds a l):=by
 unfold SM.holds;split
 .exact⟨SK a h.Gv,fun e b=>h.key e (Wi e b),h.hlen,fun e b=>h.names e (Wi e b)⟩
 .exact⟨SJ a l h.Gv,fun e b=>(Wh e b).elim (h.key e) (fun c=>by subst c;exact⟨d,i,j⟩),h.hlen,fun e b=>(Wh e b).elim (h.names e) (fun c=>by subst c;exact f)⟩
theorem PI(S:SM)(a:ByteArray)(l:List Ver):(S.holds a l).keys.length<=S.keys.length+1:=by
 unfold SM.holds;simp only;split
 .exact My (SO S.keys a)
 .exact SN S.keys a l
theorem Zo.IQ{S:SM}(h:Zo S)(n:Nat):Zo {S with IQ:=n}:=⟨h.Gv,h.key,h.hlen,h.names⟩
abbrev Seg:=List Fact × List UInt8
def zX(s:Seg):List UInt8:=zx s.1++s.2
def DM.view(M:DM):List (ByteArray × List UInt8):=M.dir.map fun e=>(e.1,(M.file e.2).bytes)
def Zq:Nat->List Seg->List (ByteArray × List UInt8)
 | _,[]=>[]
 | k,s::r=>(ze zi (k+1),zX s)::Zq (k+1) r
theorem XF(k:Nat)(a b:List Seg):Zq k (a++b)=Zq k a++Zq (k+a.length) b:=by
 induction a generalizing k with
 | nil=>simp[Zq]
 | cons s a c =>
  simp only[MJ,Zq,c,Mh];rw[show k+1+a.length=k+(a.length+1) by omega]
theorem Vg(k:Nat)(a:List Seg):(Zq k a).length=a.length:=by
 induction a generalizing k with
 | nil=>rfl
 | cons s a b=>simp[Zq,b]
theorem Vs(k:Nat)(a:List Seg)(i:Nat)(h:i<a.length):(Zq k a)[i]?=some (ze zi (k+i+1),zX a[i]):=by
 induction a generalizing k i with
 | nil=>simp at h
 | cons s a b =>
  cases i with
  | zero=>simp[Zq]
  | succ i =>
   simp only[Zq,List.getElem?_cons_succ,KB];rw[b (k+1) i (by simpa using h),show k+1+i=k+(i+1) by omega]
theorem VX(k:Nat)(a:List Seg):(Zq k a).map Prod.fst=(List.range a.length).map fun i=>ze zi (k+i+1):=by
 induction a generalizing k with
 | nil=>rfl
 | cons s a b =>
  simp only[Zq,Mf,Mh,List.range_succ_eq_map,LZ,b];refine List.cons_eq_cons.2 ⟨rfl,MX fun i _=>?_⟩;show ze zi (k+1+i+1)=ze zi (k+(i+1)+1);rw[show k+1+i=k+(i+1) by omega]
def zc(a:List Seg):List Fact:=(a.map Prod.fst).flatten
theorem zY(a b:List Seg):zc (a++b)=zc a++zc b:=by simp[zc]
def Torn(l:List UInt8):Prop:=∃ a,l<+:zA a/\l≠zA a/\a.length<9223372036854775808
theorem SP:Torn []:=⟨[],(SG []).1,(SG []).2,by decide⟩
def ZT(x:Fact):Prop:=FRead x/\(zl x).length<9223372036854775808
def Wj(s:Seg):Prop:=(∀ x∈s.1,ZT x)/\Torn s.2
def WQ(a:List Seg):Prop:=∀ s∈a,Wj s
def JM.at(c:Nat)(e:List Seg)(o:Bool):JM :=
 match e.getLast? with
 | .none=>{Hq:=c,last:=0,name:=ByteArray.empty,size:=0,Gk:=false,Hb:=o}
 | .some s=>{Hq:=c,last:=e.length,name:=ze zi e.length,size:=(zX s).length,Gk:=decide (0<s.2.length),Hb:=o}
theorem JM.Hz(a:Nat)(b:List Seg)(s:Seg)(c:Bool):JM.at a (b++[s]) c={Hq:=a,last:=b.length+1,name:=ze zi (b.length+1),size:=(zX s).length,Gk:=decide (0<s.2.length),Hb:=c}:=by
 unfold JM.at;simp
theorem JM.GE(a:Nat)(b:List Seg)(c:Bool):(JM.at a b c).last=b.length:=by
 rcases Ld b with rfl|⟨r,s,rfl⟩
 .rfl
 .rw[Le,JM.Hz];simp
theorem JM.Fm(a:Nat)(b:List Seg)(c:Bool):(JM.at a b c).Hq=a:=by
 rcases Ld b with rfl|⟨r,s,rfl⟩
 .rfl
 .rw[Le,JM.Hz]
theorem JM.Fv(a:Nat)(b:List Seg)(d c:Bool):{JM.at a b d with Hb:=c}=JM.at a b c:=by
 rcases Ld b with rfl|⟨r,s,rfl⟩
 .rfl
 .rw[Le,JM.Hz,JM.Hz]
theorem JM.FE(a:Nat)(c:List Seg)(b:Bool):(JM.at a c b).Hb=b:=by
 rcases Ld c with rfl|⟨r,s,rfl⟩
 .rfl
 .rw[Le,JM.Hz]
structure Lies(M:DM)(ss:List Seg):Prop where
 view:M.view=Zq 0 ss
 once:(M.dir.map (·.2)).Nodup
 Gc:∀ e∈M.dir,e.2∈M.ids
theorem Lies.same{M M':DM}{b:List Seg}(h:Lies M b)(a:M'.dir=M.dir)(c:∀ g,(M'.file g).bytes=(M.file g).bytes)(d:M'.ids=M.ids):Lies M' b :=
 ⟨by rw[<- h.view];unfold DM.view;rw[a];simp only[c],by rw[a];exact h.once,by rw[a,d];exact h.Gc⟩
theorem Lies.length{M:DM}{a:List Seg}(h:Lies M a):M.dir.length=a.length:=by
 have:=LH List.length h.view;rw[Vg] at this
 simpa [DM.view] using this
theorem Lies.names{M:DM}{a:List Seg}(h:Lies M a):M.dir.map Prod.fst=(List.range a.length).map fun i=>ze zi (i+1):=by
 have:=LH (List.map Prod.fst) h.view;rw[VX] at this
 simpa [DM.view,Function.comp_def] using this
theorem PJ(d:Dir)(e:ByteArray × Nat)(h:∀ x∈d,x.1≠e.1):Dir.look (d++[e]) e.1=some e.2:=by
 have b:d.find? (fun x=>x.1==e.1)=none:=by
  rw[Ke];intro x c a;exact h x c (zJ.1 a)
 unfold Dir.look;rw[JK,b];simp[zJ]
theorem Lies.mem{M:DM}{a:List Seg}(h:Lies M a){e:ByteArray × Nat}(b:e∈M.dir):∃ i,i<a.length/\e.1=ze zi (i+1):=by
 have:e.1∈M.dir.map Prod.fst:=MR b;rw[h.names] at this;obtain⟨i,c,d⟩:=Mt.1 this;exact⟨i,KO.1 c,d.symm⟩
theorem Lies.last{M:DM}{a:List Seg}{s:Seg}(h:Lies M (a++[s])):∃ d f,M.dir=d++[(ze zi (a.length+1),f)]/\(M.file f).bytes=zX s/\M.dir.look (ze zi (a.length+1))=some f/\f∉d.map (·.2)/\d.map (fun e=>(e.1,(M.file e.2).bytes))=Zq 0 a:=by
 have j:=h.view;rw[XF] at j;unfold DM.view at j;obtain⟨d,r,g,k,c⟩:=List.map_eq_append_iff.1 j;obtain⟨e,y,l⟩:∃ e,r=[e]/\(e.1,(M.file e.2).bytes)=(ze zi (a.length+1),zX s):=by
  simp only[Zq,MD] at c;cases r with
  | nil=>cases c
  | cons e r =>
   cases r with
   | nil=>exact⟨e,rfl,by simpa using c⟩
   | cons A r=>simp at c
 subst y;obtain⟨n,f⟩:=e;simp only[Kc] at l;obtain⟨rfl,m⟩:=l;refine⟨d,f,g,m,?_,?_,k⟩
 .rw[g]
  refine PJ d (ze zi (a.length+1),f) fun x z e=>?_;have b:x.1∈(d.map (fun e=>(e.1,(M.file e.2).bytes))).map Prod.fst:=by
   rw[LZ];exact MR z
  rw[k,VX] at b;obtain⟨i,t,o⟩:=Mt.1 b;have:=Xw (o.trans e);have:=KO.1 t;omega
 .have:=h.once
  rw[g,ML,Kr] at this;intro q;exact this.2.2 f q f (by simp) rfl
theorem Lies.put{M b:DM}{a:List Seg}{s k:Seg}{f:Nat}(h:Lies M (a++[s]))(y:M.dir.look (ze zi (a.length+1))=some f)(c:b.dir=M.dir)(o:∀ g,g≠f->(b.file g).bytes=(M.file g).bytes)(q:(b.file f).bytes=zX k)(r:b.ids=M.ids):Lies b (a++[k]):=by
 obtain⟨d,l,t,_,i,j,z⟩:=h.last;obtain rfl:l=f:=Mp (i.symm.trans y);refine⟨?_,by rw[c];exact h.once,by rw[c,r];exact h.Gc⟩;unfold DM.view;rw[c,t,ML,XF,<- z]
 congr 1
 .refine MX fun e u=>?_
  rw[o e.2 (fun x=>j (x▸MR u))]
 .simp[Zq,q]
theorem Lies.more{M d:DM}{k:List Seg}{f:Nat}(h:Lies M k)(i:d.dir=M.dir++[(ze zi (k.length+1),f)])(j:f∉M.ids)(p:∀ g,g≠f->(d.file g).bytes=(M.file g).bytes)(q:(d.file f).bytes=[])(r:d.ids=f::M.ids):Lies d (k++[([],[])]):=by
 have o:f∉M.dir.map (·.2):=fun t=>by
  obtain⟨e,c,rfl⟩:=Mt.1 t;exact j (h.Gc e c)
 refine⟨?_,?_,fun e c=>?_⟩
 .unfold DM.view
  rw[i,ML,XF,<- h.view]
  congr 1
  .unfold DM.view
   refine MX fun e c=>?_;rw[p e.2 (fun x=>o (x▸MR c))]
  .simp[Zq,q,zX,zx]
 .rw[i,ML,Kr]
  refine⟨h.once,by simp,fun a s b l e=>?_⟩;simp only[Mf,LC,NW] at l;subst l e;exact o s
 .rw[i] at c
  rw[r];rcases Mc.1 c with c|c
  .exact NX _ (h.Gc e c)
  .rw[NW] at c;subst c;exact NY ..
theorem Lies.none{M:DM}{a:List Seg}(h:Lies M a):M.dir.look (ze zi (a.length+1))=none :=
 PF fun e c x=>by
  obtain⟨i,q,o⟩:=h.mem c;have:=Xw (o.symm.trans x);omega
end Go.Proofs.YtkhnggkkiefcdaaGreatDoor
