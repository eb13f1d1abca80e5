/- larder: joined texts -/
import Derived.Test.YtkhnggkkiefcdaaGreatDoorKRAA
import Derived.Test.YtkhnggkkiefcdaaGreatDoorKRAF
import Derived.Test.YtkhnggkkiefcdaaGreatDoorKRAG
import Derived.Test.YtkhnggkkiefcdaaGreatDoorChecked
import Derived.Lib.LazyBuf
namespace Go.Proofs.YtkhnggkkiefcdaaGreatDoor
open Go.RowKit
set_option maxRecDepth 100000
set_option maxHeartbeats 8000000
theorem Ky:((Tryz.prog.info? 37).map fun i=>(i.zero.map (·.cells.size),i.size,i.bytes))=some (some 8,8,72):=by kernel_rfl
def Vo(w:World)(c:Option Nat)(n i:Nat)(h f:List Value)(e:Ending)(d:World):Prop :=
 ∃ g a,e=.returned (.slice (some ⟨g,0,none⟩) (n+1) a)/\d.ownsRow 0 37 8 (.slice (some ⟨g,0,none⟩) (n+1) a) (n+1) (Y9 8 i h f)/\Fr (fun b=>c=some b) w d/\(c=some g\/w.heap.size<=g)
theorem OA(v:Value)(n:Nat)(d f:List Value)(r:Nat)(w:World)(b:w.ownsRow 0 37 8 v n d)(t:f.length=8)(s:∀ u∈f,u.oneCell'=true)(G:Blk w r f 37)(p:(n+1)*72<=140737488355328) :
 Calls Tryz.prog 181 #[v,.int .i64 n,.slice (some ⟨r,0,none⟩) 1 1] w fun e c=>Vo w v.ownBlock n n d f e c:=by
 have q:∀ ty,∃ m c,(Builtin.append_ #[61,61] ty #[v,.slice (some ⟨r,0,none⟩) 1 1]).run Tryz.prog w=.ok m c/\App w v 37 8 (n+1) (d++f) m c:=fun ty =>
  zw (P:=Tryz.prog) 61 ty 37 8 72 Ej Ky (by omega) v n d b ⟨r,0,none⟩ 1 1 f (by rw[t]) (fun j u E=>by rw[GY,Fh];rw[G.cell];exact E) s (by unfold maxLen;omega) p
 have k:∀ m c,App w v 37 8 (n+1) (d++f) m c->Vo w v.ownBlock n n d f (.returned m) c:=by
  rintro m c ⟨y,C,o⟩;obtain⟨g,l,rfl,_,_⟩:=y.form (by omega);refine⟨g,l,rfl,?_,(Fr.ya C).mono (fun i _ h=>h),?_⟩
  .have e1:d.take (n*8)=d:=Gx (by rw[b.1];exact Gb _)
   have A:d.drop (n*8)=[]:=GX (by rw[b.1];exact Gb _);unfold Y9;rw[e1,A,GI];exact y
  .rcases o with o|o
   .left;rw[<- o];rfl
   .right;have:g=w.heap.size:=by simpa [Value.ownBlock] using o
    omega
 have D:=zL b;unfold maxLen at D;obtain⟨a,l,rfl⟩:=zg b;have x:=Z k;clear k b;generalize (Value.slice a n l).ownBlock=I at x |-;go_enter Tryz.func181,Tryz.ntmps181
 go_wp2_with (at_builtin;go_must (refine zI rfl _ _ _ _ rfl _ _ (by rfl) (by rfl) (q _) ?_);rintro m c B)
 all_goals
  go_ret;exact x.out _ _ B
theorem Kz(w:World)(k m l i h f:Nat)(a g:Nat)(j c:List Value)(d:Blk w a j 37)(p:Blk w g c 37)(b:a≠g)(o:c.length≠0) :
 (callFunc 215 #[.slice (some ⟨a,k,none⟩) m l,.slice (some ⟨g,i,none⟩) h f]).run Tryz.prog w=.ok (.value (.bool false)) w:=by
 rw[Fx Tryz.func215 (by kernel_rfl) (by kernel_rfl) (by kernel_rfl) (e:=Extern.SlicesOverlaps.overlaps #[61,61] #[4]) (by kernel_rfl),
  Ct w 61 4 37 Ej 8 Tryz.sizeOf37 ⟨a,k,none⟩ ⟨g,i,none⟩ m l h f b 37 37 j.length c.length d.shape p.shape o (d.frozen _) (d.frozen _)]
 rfl
theorem Ql(g n d i:Nat)(c l k:List Value)(A:Nat)(w:World)(L:Blk w g c 37)(h:c.length=d*8)(O:c.take (n*8)=l)(X:∀ u∈l,u.oneCell'=true)(hi:i<n)(a:n+1<=d)(I:d<=maxLen)
 (r:k.length=8)(K:∀ u∈k,u.oneCell'=true)(R:Blk w A k 37)(M:A≠g) :
 Calls Tryz.prog 181 #[.slice (some ⟨g,0,none⟩) n d,.int .i64 i,.slice (some ⟨A,0,none⟩) 1 1] w fun e w'=>Vo w (some g) n i l k e w':=by
 have Q:=fun va vl vc bo bl bc=>Kz w va vl vc bo bl bc A g k c R L M (by omega);have v:l.length=n*8:=by rw[<- O,Gd,h];exact Fi (GM _ (by omega))
 have q:(l.drop (i*8)).length=(n-i)*8:=by rw[Gk,v,CL]
 have J:∀ j u,(l.drop (i*8))[j]?=some u->c[i*8+j]?=some u:=by
  intro j u s;rw[FY] at s;have a0:=(GF.1 s).1;rw[<- O,Fq (by omega)] at s;exact s
 have p:∀ ty B T,(Builtin.copy_ #[61,61] ty #[.slice (some ⟨g,(i+1)*8,none⟩) (n-i) B,.slice (some ⟨g,i*8,none⟩) (n+1-i) T]).run Tryz.prog w.drew=_:=fun ty B T =>
  Zr 61 37 ty 8 Ej (by kernel_rfl) g ((i+1)*8) (n-i) B ⟨g,i*8,none⟩ (n+1-i) T c (l.drop (i*8)) 37 L
   (by rw[q];congr 1;simp only[EW];split <;> omega) (fun j u s=>by rw[GY,show w.drew.cell? ⟨g,i*8+j,none⟩=c[i*8+j]? from L.drew.cell _];exact J j u s)
   (by rw[q,h];have:=GM 8 a;have e:(i+1)*8+(n-i)*8=(n+1)*8:=(by rw[<- Ed];congr 1;omega);omega)
   (fun u s=>X u (GB s))
 obtain⟨f,m⟩:∃ f,f=c.take ((i+1)*8)++l.drop (i*8)++c.drop ((i+1)*8+(l.drop (i*8)).length):=⟨_,rfl⟩;rw[<- m] at p;have t:Blk (w.drew.setRow g f.toArray) g f 37:=L.drew.setRow f;have D:Blk (w.drew.setRow g f.toArray) A k 37:=R.drew.of_heap (Dv _ g A _ M);have o:f.length=d*8:=by
  have:=GM 8 a;have e:(i+1)*8+(n-i)*8=(n+1)*8:=by rw[<- Ed];congr 1;omega
  rw[m];simp only[Ga,Gd,Gk,v,h];omega
 have C:Fr (fun b=>some g=some b) w (w.drew.setRow g f.toArray):=Fr.setRow (S:=fun b=>some g=some b) ((U _ w).drew) (fun _=>rfl) _;obtain⟨N,E⟩:∃ N,N=w.drew.setRow g f.toArray:=⟨_,rfl⟩;rw[<- E] at p t D C;clear E;have x:∀ ty B,(Builtin.copy_ #[61,61] ty #[.slice (some ⟨g,i*8,none⟩) (n+1-i) B,.slice (some ⟨A,0,none⟩) 1 1]).run Tryz.prog N=_:=fun ty B =>
  Zr 61 37 ty 8 Ej (by kernel_rfl) g (i*8) (n+1-i) B ⟨A,0,none⟩ 1 1 f k 37 t
   (by rw[r];have:Nat.min 1 (n+1-i)=1:=(by simp only[EW];split <;> omega);rw[this]) (fun j u s=>by rw[GY,Fh,D.cell];exact s)
   (by rw[r,o];have:=GM 8 a;have e:i*8+8=(i+1)*8:=(by rw[Ed,CM]);have:=GM 8 (show i+1<=n+1 by omega);omega)
   K
 have y:Vo w (some g) n i l k (.returned (.slice (some ⟨g,0,none⟩) (n+1) d)) (N.setRow g (f.take (i*8)++k++f.drop (i*8+k.length)).toArray):=by
  have e0:=GM 8 a;have e1:i*8+8=(i+1)*8:=by rw[Ed,CM]
  have e2:(i+1)*8+(n-i)*8=(n+1)*8:=by rw[<- Ed];congr 1;omega
  have e3:=GM 8 (show i<=n by omega);refine⟨g,d,rfl,Yp (t.setRow _) a I ?_ ?_,Fr.setRow (S:=fun b=>some g=some b) C (fun _=>rfl) _,.inl rfl⟩
  .rw[Ga,Ga,Gd,Gk,r,o]
   omega
  .unfold Y9
   have Y:f.take (i*8)=l.take (i*8):=by
    rw[m,<- O,GO (by rw[Ga,Gd,h];omega),GO (by rw[Gd,h];omega),EF,EF]
    congr 1
    omega
   have a2:f.drop (i*8+k.length)=l.drop (i*8)++c.drop ((n+1)*8):=by
    have e4:(c.take ((i+1)*8)).length=i*8+k.length:=by rw[Gd,h];omega
    rw[m,Gp,<- e4,EG,q,e2]
   rw[Y,a2,<- Gp,Fo (by rw[Ga,Ga,q,r,Gd,v];omega)]
 obtain⟨V,G⟩:∃ V,V=f.take (i*8)++k++f.drop (i*8+k.length):=⟨_,rfl⟩;rw[<- G] at x y;clear t D C o J L R q v X K m G O r h;unfold maxLen at I;have a3:¬(i:Int)=(n:Int):=by omega
 have a4:¬(d:Int)<(n:Int)+1:=by omega
 have a5:¬d=i:=by omega
 have a6:¬d=i+1:=by omega
 have a7:IntKind.i64.wrap ((i:Int)+1)=(i:Int)+1:=by rw[Gs];omega
 have a8:(0:Int)<=(i:Int)+1:=by omega
 have a9:((i:Int)+1).toNat=i+1:=by omega
 have b0:(i:Int)<=(n:Int)+1:=by omega
 have b1:(i:Int)<=(n:Int):=by omega
 go_enter Tryz.func181,Tryz.ntmps181
 go_wp2_with (simp only[Q])
 go_region_law (refine YA rfl _ _ 61 61 rfl _ _ (by simp[Act.eval,Act.put]) (by simp[Act.eval,Act.put]) (p _ _ _) ?_)
 go_wp2_with (at_builtin;go_must (refine Yr rfl _ _ 61 61 rfl _ _ (by rfl) (by rfl) (x _ _) ?_))
 go_ret;exact y
theorem Pc(g n i:Nat)(b m:List Value)(vb:Nat)(w:World)(hg:Blk w g b 37)(f:b.length=n*8)(h1:∀ u∈b,u.oneCell'=true)(hi:i<n)
 (q:m.length=8)(a0:∀ u∈m,u.oneCell'=true)(hv:Blk w vb m 37)(Y:(n+1)*72<=140737488355328) :
 Calls Tryz.prog 181 #[.slice (some ⟨g,0,none⟩) n n,.int .i64 i,.slice (some ⟨vb,0,none⟩) 1 1] w fun e w'=>Vo w (some g) n i b m e w':=by
 obtain⟨i0,z,a4,a6,S,K,a7⟩:=Y6 Ky;have s:i+(n+1-i)=n+1:=by omega
 have a:∀ ty,(Builtin.append_ #[61,3] ty #[.slice (some ⟨g,0,none⟩) i n,.int .i64 ((n+1-i:Nat):Int)]).run Tryz.prog w=_:=fun ty =>
  Cd (P:=Tryz.prog) w 61 3 ty 37 i0 z .i64 .i64 Ej Ew a4 a6 (some ⟨g,0,none⟩) i n (b.take (i*8))
   (by rw[S];exact Dn (P:=Tryz.prog) w.drew 8 i ⟨g,0,none⟩ i n (b.take (i*8)) (by rw[Gd,f];omega) (fun j u t=>by
     have a8:=(GF.1 t).1;rw[GY,Fh,hg.drew.cell];rw[Gd] at a8;rw[Fq (by omega)] at t;exact t))
   (n+1-i) (by omega) (by rw[S];omega) (by omega) (by omega) (by rw[K];omega) (CX (by omega) (by rw[K,s];exact Y))
 rw[s] at a;have a2:=Ag w (n+1) n 37;have L:=Ch w (n+1) n 37 (by unfold maxLen;omega);generalize grownCap w (n+1) n 37=c at a a2 L;obtain⟨d,v⟩:∃ d:List Value,d=b.take (i*8)++(Builtin.zeroCells z.cells (n+1-i)).toList++(Builtin.zeroCells z.cells (c-(n+1))).toList:=⟨_,rfl⟩;have C:(b.take (i*8)).toArray++Builtin.zeroCells z.cells (n+1-i)++Builtin.zeroCells z.cells (c-(n+1))=d.toArray:=by rw[v];apply DP;simp
 rw[C] at a;have o:d.length=c*8:=by
  rw[v];simp only[Ga,Gd,FU,CW,a7,f];omega
 have D:d.take (i*8)=b.take (i*8):=by
  have e:(b.take (i*8)).length=i*8:=by rw[Gd,f];omega
  rw[v,Gp];exact Fo e
 have a3:=hg.lt;have a5:=hv.lt;have r:Blk (w.drew.alloc (.cells d.toArray 37)) w.heap.size d 37:=Blk.new w.drew d _;have T:Blk (w.drew.alloc (.cells d.toArray 37)) vb m 37:=hv.drew.alloc _;have Q:Blk (w.drew.alloc (.cells d.toArray 37)) g b 37:=hg.drew.alloc _;have M:Fr Nil w (w.drew.alloc (.cells d.toArray 37)):=((U _ w).drew).alloc _;obtain⟨N,hN⟩:∃ N,N=w.heap.size:=⟨_,rfl⟩;rw[<- hN] at a r a3 a5;obtain⟨I,V⟩:∃ I,I=w.drew.alloc (.cells d.toArray 37):=⟨_,rfl⟩;rw[<- V] at a r T Q M;clear V;obtain⟨k,x⟩:∃ k,k=d.take (i*8)++m++d.drop (i*8+m.length):=⟨_,rfl⟩;have p:∀ ty J,(Builtin.copy_ #[61,61] ty #[.slice (some ⟨N,i*8,none⟩) (n+1-i) J,.slice (some ⟨vb,0,none⟩) 1 1]).run Tryz.prog I=_:=fun ty J =>
  Zr 61 37 ty 8 Ej (by kernel_rfl) N (i*8) (n+1-i) J ⟨vb,0,none⟩ 1 1 d m 37 r
   (by rw[q];have:Nat.min 1 (n+1-i)=1:=(by simp only[EW];split <;> omega);rw[this]) (fun j u t=>by rw[GY,Fh,T.cell];exact t)
   (by rw[q,o];omega)
   a0
 rw[<- x] at p;have l:k.length=c*8:=by
  rw[x];simp only[Ga,Gd,Gk,q,o];omega
 have E:k.take ((i+1)*8)=b.take (i*8)++m:=by
  have e:(b.take (i*8)++m).length=(i+1)*8:=by rw[Ga,Gd,f,q];omega
  rw[x,D];exact Fo e
 have B:Blk (I.setRow N k.toArray) N k 37:=r.setRow k;have R:Blk (I.setRow N k.toArray) g b 37:=Q.of_heap (Dv _ N g _ (by omega));have O:Fr Nil w (I.setRow N k.toArray):=M.setRow (fun h=>by omega) _;obtain⟨W2,X⟩:∃ W2,W2=I.setRow N k.toArray:=⟨_,rfl⟩;rw[<- X] at p B R O;clear X;have A:(b.drop (i*8)).length=(n-i)*8:=by rw[Gk,f,CL]
 obtain⟨c3,y⟩:∃ c3,c3=k.take ((i+1)*8)++b.drop (i*8)++k.drop ((i+1)*8+(b.drop (i*8)).length):=⟨_,rfl⟩;have G:∀ ty J sc,(Builtin.copy_ #[61,61] ty #[.slice (some ⟨N,(i+1)*8,none⟩) (n-i) J,.slice (some ⟨g,i*8,none⟩) (n-i) sc]).run Tryz.prog W2.drew=_:=fun ty J sc =>
  Zr 61 37 ty 8 Ej (by kernel_rfl) N ((i+1)*8) (n-i) J ⟨g,i*8,none⟩ (n-i) sc k (b.drop (i*8)) 37 B.drew
   (by rw[A];congr 1;simp only[EW];split <;> omega) (fun j u t=>by rw[GY,R.drew.cell];rw[FY] at t;exact t)
   (by rw[A,l];omega)
   (fun u t=>h1 u (GB t))
 rw[<- y] at G;have a1:Vo w (some g) n i b m (.returned (.slice (some ⟨N,0,none⟩) (n+1) c)) (W2.drew.setRow N c3.toArray):=by
  refine⟨N,c,rfl,Yp (B.drew.setRow _) a2 L ?_ ?_,(O.drew.setRow (fun h=>by omega) _).mono (fun _ _ h=>absurd h id),.inr (by omega)⟩
  .rw[y]
   simp only[Ga,Gd,Gk,f,l];omega
  .have e:(k.take ((i+1)*8)++b.drop (i*8)).length=(n+1)*8:=by rw[Ga,Gd,l,A];omega
   rw[y,Fo e,E]
   rfl
 clear D E C y x v r T Q M B R O A l o h1 a0 q f hv hg hN s a7 K S a6 a4;unfold maxLen at L;have a9:¬(i:Int)=(n:Int):=by omega
 have b0:¬n=i:=by omega
 have b1:¬c=i+1:=by omega
 have b2:¬c=i:=by omega
 have b3:(n:Int)+1-i=((n+1-i:Nat):Int):=by omega
 have b4:IntKind.i64.wrap ((i:Int)+1)=(i:Int)+1:=by rw[Gs];omega
 have b5:(0:Int)<=(i:Int)+1:=by omega
 have b6:((i:Int)+1).toNat=i+1:=by omega
 have b7:(i:Int)<=(n:Int)+1:=by omega
 have b8:(i:Int)<=(n:Int):=by omega
 go_enter Tryz.func181,Tryz.ntmps181
 go_wp2_with (at_builtin;go_must (first|(refine CA _ rfl _ _ _ _ rfl _ _ (by rfl) (by rfl) _ _ (a _) ?_)|(refine Yr rfl _ _ 61 61 rfl _ _ (by rfl) (by rfl) (p _ _) ?_)))
 go_region_law (refine YA rfl _ _ 61 61 rfl _ _ (by simp[Act.eval,Act.put]) (by simp[Act.eval,Act.put]) (G _ _ _) ?_)
 go_wp2
 go_ret;exact a1
theorem Qm(v:Value)(n i:Nat)(k d:List Value)(j:Nat)(w:World)(b:w.ownsRow 0 37 8 v n k)(q:∀ u∈k,u.oneCell'=true)(x:i<=n)
 (h:d.length=8)(f:∀ u∈d,u.oneCell'=true)(p:Blk w j d 37)(o:v.ownBlock≠some j)(a:(n+1)*72<=140737488355328) :
 Calls Tryz.prog 181 #[v,.int .i64 i,.slice (some ⟨j,0,none⟩) 1 1] w fun e t=>Vo w v.ownBlock n i k d e t:=by
 rcases Eg i n with l|s
 .rcases Yq b with⟨_,h0,_⟩|⟨g,cap,c,rfl,hg,hn,hm,hc,ht⟩
  .omega
  .have hne':j≠g:=fun e=>o (by rw[e];rfl)
   rcases Eg n cap with r|r
   .exact Ql g n cap i c k d j w hg hc ht q l r hm h f p hne'
   .have e:cap=n:=by omega
    subst e;have m:c=k:=by rw[<- ht];exact(Gx (by omega)).symm
    subst m;exact Pc g cap i c d j w hg hc q l h f p a
 .have e:i=n:=by omega
  subst e;exact OA v i k d j w b h f p a
theorem Hs:((Tryz.prog.info? 37).map fun i=>(i.zero.map (·.cells.size),i.size,i.bytes))=some (some 8,8,72):=by kernel_rfl
theorem UA(v:Value)(n:Nat)(o:List Value)(w:World)(d:w.ownsRow 0 37 8 v n o)(I:∀ u∈o,u.oneCell'=true)(D:n*72<=140737488355328) :
 Calls Tryz.prog 75 #[v] w fun e f =>
  ∃ b,e=.returned b/\f.ownsRow 0 37 8 b n o/\Fr Nil w f/\(∀ k,b.ownBlock=some k->w.heap.size<=k):=by
 have O:∀ (w:World) (a:Option Addr) (n c:Nat),(binOp .eql 61 (.slice a n c) (.slice none 0 0)).run Tryz.prog w=.ok (.bool a.isNone) w:=fun w a n c=>by exact Lib.run_eql_slice_nil (h:=Ej) ..
 rcases Yq d with⟨rfl,rfl,rfl⟩|⟨g,r,c,rfl,E,R,A,K,N⟩
 .go_enter Tryz.func75,Tryz.ntmps75
  go_wp2
  go_ret;exact⟨_,rfl,GK w 0 _ _,U _ _,fun k q=>by simp[Value.ownBlock] at q⟩
 .have hl:=d.1
  have y:Blk (w.alloc (.cells #[] 37)) w.heap.size [] 37:=Blk.new w [] _;have t:(w.alloc (.cells #[] 37)).ownsRow 0 37 8 (.slice (some ⟨w.heap.size,0,none⟩) 0 0) 0 []:=Yp y (Gb _) (Gz _) (by simp) (by simp);have m:∀ j u,o[j]?=some u->(w.alloc (.cells #[] 37)).cell? ((⟨g,0,none⟩:Addr).add j)=some u:=by
   intro j u C;have L:=(GF.1 C).1;rw[GY,Fh,(E.alloc _).cell];rw[<- N,Fq (by omega)] at C;exact C
  have x:∀ ty,∃ b f,(Builtin.append_ #[61,61] ty #[.slice (some ⟨w.heap.size,0,none⟩) 0 0,.slice (some ⟨g,0,none⟩) n r]).run Tryz.prog (w.alloc (.cells #[] 37))=.ok b f/\App (w.alloc (.cells #[] 37)) (.slice (some ⟨w.heap.size,0,none⟩) 0 0) 37 8 (0+n) ([]++o) b f:=fun ty =>
   zw (P:=Tryz.prog) 61 ty 37 8 72 Ej Hs (by omega) _ 0 [] t ⟨g,0,none⟩ n r o hl m I (by unfold maxLen at *;omega) (by omega)
  have l:∀ b f,App (w.alloc (.cells #[] 37)) (.slice (some ⟨w.heap.size,0,none⟩) 0 0) 37 8 (0+n) ([]++o) b f ->
   ∃ p,Ending.returned b=.returned p/\f.ownsRow 0 37 8 p n o/\Fr Nil w f/\(∀ k,p.ownBlock=some k->w.heap.size<=k):=by
   rintro b f ⟨M,B,s⟩;refine⟨b,rfl,by simpa using M,((U Nil w).alloc _).trans' ((Fr.ya B).mono (fun i _ h=>h)) (fun i Q h=>?_),fun k q=>?_⟩
   .simp[Value.ownBlock] at h;omega
   .rcases s with s|s
    .rw[s] at q;simp[Value.ownBlock] at q;omega
    .rw[s] at q;simp at q;omega
  have G:=Z l;clear l m t y d E;unfold maxLen at A;go_enter Tryz.func75,Tryz.ntmps75
  go_wp2_with (at_builtin;go_must (refine zI rfl _ _ _ _ rfl _ _ (by rfl) (by rfl) (x _) ?_);rintro b f J)
  go_ret;exact G.out _ _ J
def XW(a b:Int):Int:=if a<b then -1 else if b<a then 1 else 0
theorem Sd(a b:Int)(w:World) :
 Calls Tryz.prog 180 #[.int .i64 a,.int .i64 b] w fun e d=>e=.returned (.int .i64 (XW a b))/\d=w:=by
 unfold XW;by_cases c:a<b
 .rw[GA c]
  go_enter Tryz.func180,Tryz.ntmps180
  go_wp2
  go_ret;exact⟨rfl,rfl⟩
 .by_cases h2:b<a
  .rw[Gl c,GA h2]
   go_enter Tryz.func180,Tryz.ntmps180
   go_wp2
   go_ret;exact⟨rfl,rfl⟩
  .rw[Gl c,Gl h2]
   go_enter Tryz.func180,Tryz.ntmps180
   go_wp2
   go_ret;exact⟨rfl,rfl⟩
def orI(a b:Int):Int:=if a=0 then b else a
theorem KA(a b:Int)(g:Nat)(w:World)(c:Blk w g [.int .i64 a,.int .i64 b] 3) :
 Calls Tryz.prog 179 #[.slice (some ⟨g,0,none⟩) 2 2] w fun e l=>e=.returned (.int .i64 (orI a b))/\Fr Nil w l:=by
 have o:w.cell? ⟨g,0,none⟩=some (.int .i64 a):=by rw[c.cell];rfl
 have p:w.cell? ⟨g,1,none⟩=some (.int .i64 b):=by rw[c.cell];rfl
 clear c;go_enter Tryz.func179,Tryz.ntmps179;go_wp2_with fail
 go_loopw [8] (fun k l=>∃ i:Nat,k=.int .i64 i/\(i=0\/i=1/\a=0\/i=2/\a=0/\b=0)/\l=w) (fun k _=>2-(intOf k).toNat)
 case atStart=>exact⟨0,rfl,.inl rfl,rfl⟩
 case round =>
  obtain⟨i,rfl,m,rfl⟩:=hrel;rcases m with rfl|⟨rfl,rfl⟩|⟨rfl,rfl,rfl⟩
  .cases ha:(a != 0) with
   | true =>
    have d:orI a b=a:=(by have j:a≠0:=(by simpa using ha);simp[orI,j]);have f:=Z d;clear d
    go_wp2
    go_ret;rw[f.out];exact⟨rfl,U _ _⟩
   | false =>
    have h:a=0:=by simpa using ha
    subst h
    go_wp2
    exact⟨⟨1,by go_num,.inr (.inl ⟨rfl,by simp⟩),by trivial⟩,by simp[intOf]⟩
  .cases c:(b != 0) with
   | true =>
    go_wp2
    go_ret;exact⟨rfl,U _ _⟩
   | false =>
    have h:b=0:=by simpa using c
    subst h
    go_wp2
    exact⟨⟨2,by go_num,.inr (.inr ⟨rfl,by simp,by simp⟩),by trivial⟩,by simp[intOf]⟩
  .go_wp2
   go_ret;exact⟨rfl,U _ _⟩
def Ver.dot(v:Ver):Int × Int:=(v.node,v.seq)
def R3(a b:Int × Int):Int:=orI (XW a.1 b.1) (XW a.2 b.2)
def zH(a b:Int × Int):Bool:=decide (a.1<b.1\/a.1=b.1/\a.2<b.2)
theorem Ya:Strict zH where
 vi a:=by simp[zH]
 trans a b c h1 h2:=by simp only[zH,Gr] at *;omega
 vw a b h1 h2:=by
  obtain⟨d,e⟩:=a;obtain⟨f,g⟩:=b;simp only[zH,Gr,FB] at *;have:¬(d=f/\e=g):=fun h=>h2 (by rw[h.1,h.2]);omega
theorem Pd{a b:Int × Int}:R3 a b<0↔zH a b=true:=by
 simp only[R3,orI,XW,zH,Gr];split <;> split <;> (try split) <;> (try split) <;> omega
theorem Tf(u:Ver)(n s:Int)(w:World) :
 Calls Tryz.prog 178 #[.agg u.cells.toArray,.agg #[.int .i64 n,.int .i64 s]] w fun e f=>e=.returned (.int .i64 (R3 u.dot (n,s)))/\Fr Nil w f:=by
 obtain⟨node,b,k,l,m,o,a,gone⟩:=u;simp only[Ver.cells,Ver.dot,R3];go_enter Tryz.func178,Tryz.ntmps178;go_wp2_with fail;have d:Blk ((w.alloc (.cells #[.int .i64 node,.int .i64 b,.int .i64 k,.int .i64 l,.int .i64 m,.int .i64 o,.string a,.bool gone] 37)).alloc (.cells #[.int .i64 n,.int .i64 s] 34)) w.heap.size [.int .i64 node,.int .i64 b,.int .i64 k,.int .i64 l,.int .i64 m,.int .i64 o,.string a,.bool gone] 37 :=
  (Blk.new w [.int .i64 node,.int .i64 b,.int .i64 k,.int .i64 l,.int .i64 m,.int .i64 o,.string a,.bool gone] _).alloc _
 have c:Blk ((w.alloc (.cells #[.int .i64 node,.int .i64 b,.int .i64 k,.int .i64 l,.int .i64 m,.int .i64 o,.string a,.bool gone] 37)).alloc (.cells #[.int .i64 n,.int .i64 s] 34)) (w.heap.size+1) [.int .i64 n,.int .i64 s] 34:=by
  have:=Blk.new (w.alloc (.cells #[.int .i64 node,.int .i64 b,.int .i64 k,.int .i64 l,.int .i64 m,.int .i64 o,.string a,.bool gone] 37)) [.int .i64 n,.int .i64 s] 34
  simpa using this
 have h:Fr Nil w ((w.alloc (.cells #[.int .i64 node,.int .i64 b,.int .i64 k,.int .i64 l,.int .i64 m,.int .i64 o,.string a,.bool gone] 37)).alloc (.cells #[.int .i64 n,.int .i64 s] 34)):=((U _ _).alloc _).alloc _;generalize (w.alloc (.cells #[.int .i64 node,.int .i64 b,.int .i64 k,.int .i64 l,.int .i64 m,.int .i64 o,.string a,.bool gone] 37)).alloc (.cells #[.int .i64 n,.int .i64 s] 34)=p at d c h |-;generalize w.heap.size=N at d c |-;have D:p.cell? ⟨N,0,none⟩=some (.int .i64 node):=by rw[d.cell];rfl
 have E:p.cell? ⟨N,1,none⟩=some (.int .i64 b):=by rw[d.cell];rfl
 have G:p.cell? ⟨N+1,0,none⟩=some (.int .i64 n):=by rw[c.cell];rfl
 have I:p.cell? ⟨N+1,1,none⟩=some (.int .i64 s):=by rw[c.cell];rfl
 have t:Hid (∀ f,Fr Nil p f->f.cell? ⟨N,0,none⟩=some (.int .i64 node)/\f.cell? ⟨N,1,none⟩=some (.int .i64 b)/\f.cell? ⟨N+1,0,none⟩=some (.int .i64 n)/\f.cell? ⟨N+1,1,none⟩=some (.int .i64 s)):=by
  intro f x;have y:=(d.fr x id).cell;have v:=(c.fr x id).cell;exact⟨by rw[y];rfl,by rw[y];rfl,by rw[v];rfl,by rw[v];rfl⟩
 clear d c
 go_region_held3 (fun f=>f.cell? ⟨N,0,none⟩=some (.int .i64 node)/\f.cell? ⟨N,1,none⟩=some (.int .i64 b)/\f.cell? ⟨N+1,0,none⟩=some (.int .i64 n)/\f.cell? ⟨N+1,1,none⟩=some (.int .i64 s)) (first|assumption|exact t.out _ zd)
  (first
  | (go_at_call 179;refine(KA _ _ _ _ (by exact Blk.new _ [_,_] _)).mono ?_;rintro e A ⟨rfl,q⟩;have g:Fr Nil p A:=Fr.trans zd q;have C:=t.out A g)
  | (go_at_call 180;refine(Sd _ _ _).mono ?_;rintro e J ⟨rfl,r⟩;subst r))
 have B:=Z (h.trans g);clear h g q
 go_wp2
 go_ret;exact⟨rfl,B.out⟩
def YE(l:List Ver):Prop:=Asc zH (l.map Ver.dot)
theorem YE.get{l:List Ver}(h:YE l){i j:Nat}(a:i<j)(c:j<l.length):zH (l[i]'(BP a c)).dot l[j].dot=true:=by
 have:=Asc.get h (i:=i) (j:=j) a (by simpa using c)
 rwa [GJ,GJ] at this
theorem Qn(lv:Value)(l:List Ver)(n s:Int)(hs:YE l)(b3:l.length<1000000)(w:World)(u:VRow w lv l) :
 Calls Tryz.prog 177 #[lv,.agg #[.int .i64 n,.int .i64 s],.func (.func 178) #[] #[]] w fun e c =>
  ∃ b:Bool,e=.returned (.tuple #[.int .i64 (low zH (l.map Ver.dot) (n,s)),.bool b])/\Fr Nil w c:=by
 obtain⟨a,T,rfl⟩:=zg u;have HL:=Z u;clear u;have C:Blk (w.alloc (.cells #[.int .i64 n,.int .i64 s] 34)) w.heap.size [.int .i64 n,.int .i64 s] 34:=Blk.new w [.int .i64 n,.int .i64 s] _;have y:Fr Nil w (w.alloc (.cells #[.int .i64 n,.int .i64 s] 34)):=(U _ _).alloc _;go_enter Tryz.func177,Tryz.ntmps177
 go_wp2
 generalize w.alloc (.cells #[.int .i64 n,.int .i64 s] 34)=w0 at C y |-;generalize w.heap.size=N at C |-
 go_loopw [9,10] (fun ti tj c=>∃ i j:Nat,i<=j/\j<=l.length/\ti=.int .i64 i/\tj=.int .i64 j/\(∀ k (r:k<l.length),k<i->zH l[k].dot (n,s)=true)/\(∀ k (r:k<l.length),j<=k->zH l[k].dot (n,s)=false)/\Fr Nil w0 c) (fun ti tj _=>(intOf tj).toNat-(intOf ti).toNat)
 case atStart=>exact⟨0,l.length,Gz _,Gb _,rfl,rfl,fun k _ r=>absurd r (Fc _),fun k r b1=>absurd r (by omega),U _ _⟩
 case round =>
  obtain⟨i,j,X,hj,rfl,rfl,h1,h2,E⟩:=hrel;by_cases b2:i<j
  .obtain⟨g,rfl⟩:∃ g,a=some ⟨g,0,none⟩:=by
    obtain⟨g,T,h,_⟩:=zy HL.out (by omega);simp at h;exact⟨g,h.1⟩
   have hm:(i+j) / 2<l.length:=by omega
   have O:Hid (∀ c,Fr Nil wr c->∀ k,k<8->c.cell? ⟨g,(i+j) / 2*8+k,none⟩=l[(i+j) / 2].cells[k]?):=fun c f k r=>VRow.cells (ze (S:=Nil) HL.out ((y.trans E).trans f) (fun _ _=>id)) _ hm k r;have HX:Hid (∀ c,Fr Nil wr c->c.cell? ⟨N,0,none⟩=some (.int .i64 n)/\c.cell? ⟨N,1,none⟩=some (.int .i64 s)):=by
    intro c f;have Y:=((C.fr E id).fr f id).cell;exact⟨by rw[Y];rfl,by rw[Y];rfl⟩
   have H1:=Z h1;have H2:=Z h2;clear h1 h2;have a4:(i:Int)<=1000000:=by omega
   have a5:(j:Int)<=1000000:=by omega
   have a6:(i:Int)+j<=9223372036854775807:=by omega
   have hq:(((i:Int)+j) / 2).toNat=(i+j) / 2:=by omega
   have p:Hid (zH l[(i+j) / 2].dot (n,s)=true->∀ k (r:k<l.length),k<(i+j) / 2+1->zH l[k].dot (n,s)=true):=by
    intro u k r Q;by_cases e:k=(i+j) / 2
    .subst e;exact u
    .exact Ya.trans _ _ _ (hs.get (i:=k) (j:=(i+j) / 2) (by omega) hm) u
   have q:Hid (zH l[(i+j) / 2].dot (n,s)=false->∀ k (r:k<l.length),(i+j) / 2<=k->zH l[k].dot (n,s)=false):=by
    intro u k r Q;by_cases e:k=(i+j) / 2
    .subst e;exact u
    .cases hk2:zH l[k].dot (n,s) with
     | false=>rfl
     | true =>
      have:=Ya.trans _ _ _ (hs.get (i:=(i+j) / 2) (j:=k) (by omega) r) hk2;rw[u] at this;cases this
   generalize l[(i+j) / 2]=x at O p q;obtain⟨node,o,I,J,K,L,d,gone⟩:=x;have R:=Z (Tf ⟨node,o,I,J,K,L,d,gone⟩ n s);simp only[Ver.cells,Ver.dot] at O p q R;have B:Hid (∀ c,Fr Nil wr c->c.cell? ⟨g,(i+j) / 2*8,none⟩=some (.int .i64 node)/\c.cell? ⟨g,(i+j) / 2*8+1,none⟩=some (.int .i64 o)/\c.cell? ⟨g,(i+j) / 2*8+2,none⟩=some (.int .i64 I)/\c.cell? ⟨g,(i+j) / 2*8+3,none⟩=some (.int .i64 J)/\c.cell? ⟨g,(i+j) / 2*8+4,none⟩=some (.int .i64 K)/\c.cell? ⟨g,(i+j) / 2*8+5,none⟩=some (.int .i64 L)/\c.cell? ⟨g,(i+j) / 2*8+6,none⟩=some (.string d)/\c.cell? ⟨g,(i+j) / 2*8+7,none⟩=some (.bool gone)/\c.cell? ⟨N,0,none⟩=some (.int .i64 n)/\c.cell? ⟨N,1,none⟩=some (.int .i64 s)):=by
    intro c f;have t:=O.out c f;have V:=HX.out c f;exact⟨t 0 (by omega),t 1 (by omega),t 2 (by omega),t 3 (by omega),t 4 (by omega),t 5 (by omega),t 6 (by omega),t 7 (by omega),V.1,V.2⟩
   have hS:=B.out wr (U _ _);clear X;have a7:(0:Int)<=((i:Int)+j) / 2:=by omega
   have a8:((i:Int)+j) / 2<l.length:=by omega
   cases u:zH (node,o) (n,s) with
   | true =>
    have a1:R3 (node,o) (n,s)<0:=Pd.2 u;have H3:=Z (p.out u);clear u;go_wp2_with fail
    go_region_held3 (fun c=>c.cell? ⟨g,(i+j) / 2*8,none⟩=some (.int .i64 node)/\c.cell? ⟨g,(i+j) / 2*8+1,none⟩=some (.int .i64 o)/\c.cell? ⟨g,(i+j) / 2*8+2,none⟩=some (.int .i64 I)/\c.cell? ⟨g,(i+j) / 2*8+3,none⟩=some (.int .i64 J)/\c.cell? ⟨g,(i+j) / 2*8+4,none⟩=some (.int .i64 K)/\c.cell? ⟨g,(i+j) / 2*8+5,none⟩=some (.int .i64 L)/\c.cell? ⟨g,(i+j) / 2*8+6,none⟩=some (.string d)/\c.cell? ⟨g,(i+j) / 2*8+7,none⟩=some (.bool gone)/\c.cell? ⟨N,0,none⟩=some (.int .i64 n)/\c.cell? ⟨N,1,none⟩=some (.int .i64 s)) (first|assumption|exact B.out _ zd)
     (first
     | (go_at_call 178;refine(R.out _).mono ?_;rintro e M ⟨rfl,A⟩;have m:Fr Nil wr M:=Fr.trans zd A;have a0:=B.out M m))
    go_wp2
    exact⟨⟨(i+j) / 2+1,j,by omega,hj,by go_num,rfl,H3.out,H2.out,E.trans m⟩,by simp[intOf];omega⟩
   | false =>
    have a1:¬R3 (node,o) (n,s)<0:=by rw[Pd];simp[u]
    have H3:=Z (q.out u);clear u;go_wp2_with fail
    go_region_held3 (fun c=>c.cell? ⟨g,(i+j) / 2*8,none⟩=some (.int .i64 node)/\c.cell? ⟨g,(i+j) / 2*8+1,none⟩=some (.int .i64 o)/\c.cell? ⟨g,(i+j) / 2*8+2,none⟩=some (.int .i64 I)/\c.cell? ⟨g,(i+j) / 2*8+3,none⟩=some (.int .i64 J)/\c.cell? ⟨g,(i+j) / 2*8+4,none⟩=some (.int .i64 K)/\c.cell? ⟨g,(i+j) / 2*8+5,none⟩=some (.int .i64 L)/\c.cell? ⟨g,(i+j) / 2*8+6,none⟩=some (.string d)/\c.cell? ⟨g,(i+j) / 2*8+7,none⟩=some (.bool gone)/\c.cell? ⟨N,0,none⟩=some (.int .i64 n)/\c.cell? ⟨N,1,none⟩=some (.int .i64 s)) (first|assumption|exact B.out _ zd)
     (first
     | (go_at_call 178;refine(R.out _).mono ?_;rintro e M ⟨rfl,A⟩;have m:Fr Nil wr M:=Fr.trans zd A;have a0:=B.out M m))
    go_wp2
    exact⟨⟨i,(i+j) / 2,by omega,by omega,rfl,by go_num,H1.out,H3.out,E.trans m⟩,by simp[intOf];omega⟩
  .have he:i=j:=by omega
   subst he;have G:low zH (l.map Ver.dot) (n,s)=i:=VA zH _ _ i (by simpa using hj) (fun k r Q=>by rw[GJ];exact h1 k (by simpa using r) Q) (fun r=>by rw[GJ];exact h2 i (by simpa using r) (Gb _));have D:=Z G;clear G h1 h2 X;by_cases a3:i<l.length
   .obtain⟨g,rfl⟩:∃ g,a=some ⟨g,0,none⟩:=by
     obtain⟨g,T,h,_⟩:=zy HL.out (by omega);simp at h;exact⟨g,h.1⟩
    have O:Hid (∀ c,Fr Nil wr c->∀ k,k<8->c.cell? ⟨g,i*8+k,none⟩=l[i].cells[k]?):=fun c f k r=>VRow.cells (ze (S:=Nil) HL.out ((y.trans E).trans f) (fun _ _=>id)) _ a3 k r;have HX:Hid (∀ c,Fr Nil wr c->c.cell? ⟨N,0,none⟩=some (.int .i64 n)/\c.cell? ⟨N,1,none⟩=some (.int .i64 s)):=by
     intro c f;have Y:=((C.fr E id).fr f id).cell;exact⟨by rw[Y];rfl,by rw[Y];rfl⟩
    generalize l[i]=x at O;obtain⟨node,o,I,J,K,L,d,gone⟩:=x;have R:=Z (Tf ⟨node,o,I,J,K,L,d,gone⟩ n s);simp only[Ver.cells,Ver.dot] at O R;have B:Hid (∀ c,Fr Nil wr c->c.cell? ⟨g,i*8,none⟩=some (.int .i64 node)/\c.cell? ⟨g,i*8+1,none⟩=some (.int .i64 o)/\c.cell? ⟨g,i*8+2,none⟩=some (.int .i64 I)/\c.cell? ⟨g,i*8+3,none⟩=some (.int .i64 J)/\c.cell? ⟨g,i*8+4,none⟩=some (.int .i64 K)/\c.cell? ⟨g,i*8+5,none⟩=some (.int .i64 L)/\c.cell? ⟨g,i*8+6,none⟩=some (.string d)/\c.cell? ⟨g,i*8+7,none⟩=some (.bool gone)/\c.cell? ⟨N,0,none⟩=some (.int .i64 n)/\c.cell? ⟨N,1,none⟩=some (.int .i64 s)):=by
     intro c f;have t:=O.out c f;have V:=HX.out c f;exact⟨t 0 (by omega),t 1 (by omega),t 2 (by omega),t 3 (by omega),t 4 (by omega),t 5 (by omega),t 6 (by omega),t 7 (by omega),V.1,V.2⟩
    have hS:=B.out wr (U _ _);have a2:decide ((i:Int)<(l.length:Int))=true:=by simp;omega
    have a9:(i:Int)<(l.length:Int):=by omega
    have b0:(0:Int)<=(i:Int):=by omega
    go_wp2_with fail
    go_region_held3 (fun c=>c.cell? ⟨g,i*8,none⟩=some (.int .i64 node)/\c.cell? ⟨g,i*8+1,none⟩=some (.int .i64 o)/\c.cell? ⟨g,i*8+2,none⟩=some (.int .i64 I)/\c.cell? ⟨g,i*8+3,none⟩=some (.int .i64 J)/\c.cell? ⟨g,i*8+4,none⟩=some (.int .i64 K)/\c.cell? ⟨g,i*8+5,none⟩=some (.int .i64 L)/\c.cell? ⟨g,i*8+6,none⟩=some (.string d)/\c.cell? ⟨g,i*8+7,none⟩=some (.bool gone)/\c.cell? ⟨N,0,none⟩=some (.int .i64 n)/\c.cell? ⟨N,1,none⟩=some (.int .i64 s)) (first|assumption|exact B.out _ zd)
     (first
     | (go_at_call 178;refine(R.out _).mono ?_;rintro e M ⟨rfl,A⟩;have m:Fr Nil wr M:=Fr.trans zd A;have a0:=B.out M m))
    go_wp2
    go_ret2;rw[D.out];exact⟨_,rfl,(y.trans E).trans m⟩
   .have a2:decide ((i:Int)<(l.length:Int))=false:=by simp;omega
    go_wp2_with fail
    go_quiet (fail)
    go_wp2
    go_ret2;rw[D.out];exact⟨_,rfl,Fr.drewN (y.trans E) _⟩
def Xb(l:List Ver)(v:Ver):List Ver:=l.take (low zH (l.map Ver.dot) v.dot)++[v]++l.drop (low zH (l.map Ver.dot) v.dot)
theorem MU(l:List Ver)(i:Nat):(Z8 l).take (i*8)=Z8 (l.take i):=by
 rcases DY i l.length with h|h
 .have e:=YV (l.take i) (l.drop i)
  rw[Gu] at e;rw[e];exact Fo (by rw[XE,Gd,Fi h])
 .rw[Gx h,Gx (by rw[XE];omega)]
theorem MV(l:List Ver)(i:Nat):(Z8 l).drop (i*8)=Z8 (l.drop i):=by
 rcases DY i l.length with h|h
 .have e:=YV (l.take i) (l.drop i)
  rw[Gu] at e;rw[e];exact Ae (by rw[XE,Gd,Fi h])
 .rw[GX h,GX (by rw[XE];omega)]
  rfl
theorem MW(l:List Ver)(v:Ver):Y9 8 (low zH (l.map Ver.dot) v.dot) (Z8 l) v.cells=Z8 (Xb l v):=by
 unfold Y9 Xb;rw[MU,MV,YV,YV];simp[Z8]
theorem UB(l:List Ver)(v:Ver):(Xb l v).length=l.length+1:=by
 have:=Vz zH (l.map Ver.dot) v.dot;simp only[Gv] at this;simp only[Xb,Ga,Gd,Gk,Gi];omega
theorem Vo.row{a r w':World}{q:Value}{l:List Ver}{v:Ver}{e:Ending}(h:Vo r q.ownBlock l.length (low zH (l.map Ver.dot) v.dot) (Z8 l) v.cells e w')(d:Fr Nil a r)(j:∀ k,q.ownBlock=some k->a.heap.size<=k) :
 ∃ c,e=.returned c/\VRow w' c (Xb l v)/\Fr Nil a w'/\(∀ k,c.ownBlock=some k->a.heap.size<=k):=by
 obtain⟨g,s,rfl,o,b,t⟩:=h;rw[MW] at o;refine⟨_,rfl,?_,d.trans' b (fun i x h=>absurd (j i h) (by omega)),fun k f=>?_⟩
 .unfold VRow
  rw[UB];exact o
 .simp[Value.ownBlock] at f
  subst f;rcases t with h|h
  .exact j _ h
  .have:=d.size;omega
theorem MX(J:Value)(l:List Ver)(v:Ver)(hs:YE l)(Y:l.length<1000000)(w:World)(X:VRow w J l) :
 Calls Tryz.prog 142 #[J,.agg v.cells.toArray] w fun e d=>∃ v',e=.returned v'/\VRow d v' (Xb l v)/\Fr Nil w d/\(∀ k,v'.ownBlock=some k->w.heap.size<=k):=by
 obtain⟨node,c,h,i,j,m,a,gone⟩:=v;have x:=Vz zH (l.map Ver.dot) (node,c);simp only[Gv] at x;have M:=Z x;clear x;have hb:Blk (w.alloc (.cells #[.int .i64 node,.int .i64 c,.int .i64 h,.int .i64 i,.int .i64 j,.int .i64 m,.string a,.bool gone] 37)) w.heap.size [.int .i64 node,.int .i64 c,.int .i64 h,.int .i64 i,.int .i64 j,.int .i64 m,.string a,.bool gone] 37:=Blk.new w [.int .i64 node,.int .i64 c,.int .i64 h,.int .i64 i,.int .i64 j,.int .i64 m,.string a,.bool gone] _;have t:Fr Nil w (w.alloc (.cells #[.int .i64 node,.int .i64 c,.int .i64 h,.int .i64 i,.int .i64 j,.int .i64 m,.string a,.bool gone] 37)):=(U _ _).alloc _;simp only[Ver.cells];have HS:=Z (Qn J l node c hs Y _ (VRow.fr X t (fun _ _=>id)));have HL:=Z X;clear X hs;go_enter Tryz.func142,Tryz.ntmps142;go_wp2_with fail;refine HS.out.mono ?_;rintro e o ⟨b,rfl,u⟩;have s:=hb.fr u id;have g:=t.trans u;clear hb t HS u;go_wp2_with fail;generalize w.heap.size=N at s |-;have K:Hid (∀ d,Fr Nil o d->d.cell? ⟨N,0,none⟩=some (.int .i64 node)/\d.cell? ⟨N,1,none⟩=some (.int .i64 c)/\d.cell? ⟨N,2,none⟩=some (.int .i64 h)/\d.cell? ⟨N,3,none⟩=some (.int .i64 i)/\d.cell? ⟨N,4,none⟩=some (.int .i64 j)/\d.cell? ⟨N,5,none⟩=some (.int .i64 m)/\d.cell? ⟨N,6,none⟩=some (.string a)/\d.cell? ⟨N,7,none⟩=some (.bool gone)):=by
  intro d f;have r:=(s.fr f id).cell;exact⟨by rw[r];rfl,by rw[r];rfl,by rw[r];rfl,by rw[r];rfl,by rw[r];rfl,by rw[r];rfl,by rw[r];rfl,by rw[r];rfl⟩
 have hK:=K.out o (U _ _);have L:Hid (∀ d,Fr Nil o d->VRow d J l):=fun d f=>VRow.fr HL.out (g.trans f) (fun _ _=>id);clear s
 go_region_held3 (fun d=>d.cell? ⟨N,0,none⟩=some (.int .i64 node)/\d.cell? ⟨N,1,none⟩=some (.int .i64 c)/\d.cell? ⟨N,2,none⟩=some (.int .i64 h)/\d.cell? ⟨N,3,none⟩=some (.int .i64 i)/\d.cell? ⟨N,4,none⟩=some (.int .i64 j)/\d.cell? ⟨N,5,none⟩=some (.int .i64 m)/\d.cell? ⟨N,6,none⟩=some (.string a)/\d.cell? ⟨N,7,none⟩=some (.bool gone)) (first|assumption|exact K.out _ zd)
  (first
  | (go_at_call 181;refine(Qm v2 l.length (low zH (l.map Ver.dot) (node,c)) (Z8 l) [.int .i64 node,.int .i64 c,.int .i64 h,.int .i64 i,.int .i64 j,.int .i64 m,.string a,.bool gone] _ _ (ze (S:=Nil) A.out zd (fun _ _=>id)) (Wj l) M.out rfl (Wj [⟨node,c,h,i,j,m,a,gone⟩]) (by first|exact I|exact I.drew|exact Blk.new _ [_,_,_,_,_,_,_,_] _|exact(Blk.new _ [_,_,_,_,_,_,_,_] _).drew) (by first|exact R.out|exact(fun e=>absurd (Zq A.out e) (by simp))) (by omega)).mono ?_;rintro e w3 hI;have HI:=Z hI;clear hI;obtain⟨v3,rfl,G,C,D⟩:=Vo.row (v:=⟨node,c,h,i,j,m,a,gone⟩) HI.out (show Fr Nil o _ from q.trans zd) O.out;have a1:=K.out w3 C;have T:=Z G;have Q:=Z D;clear G D)
  | (go_at_call 75;refine(UA J l.length (Z8 l) _ (L.out _ zd) (Wj l) (by omega)).mono ?_;rintro e w2 ⟨v2,rfl,E,B,y⟩;have q:Fr Nil o w2:=Fr.trans zd B;have a0:=K.out w2 q;have A:=Z E;(try (have I:Blk w2 o.heap.size [.int .i64 node,.int .i64 c,.int .i64 h,.int .i64 i,.int .i64 j,.int .i64 m,.string a,.bool gone] 37:=Blk.fr (S:=Nil) ((Blk.new o [.int .i64 node,.int .i64 c,.int .i64 h,.int .i64 i,.int .i64 j,.int .i64 m,.string a,.bool gone] 37).drew) B id;have R:Hid (v2.ownBlock≠some o.heap.size):=(fun e=>absurd (y _ e) (by simp))));have O:Hid (∀ k,v2.ownBlock=some k->o.heap.size<=k):=(fun k V=>Gc (Fr.size (S:=Nil) zd) (y k V));clear E y))
 all_goals
  go_wp2
  go_ret;exact⟨_,rfl,T.out,g.trans C,fun k V=>Gc g.size (Q.out k V)⟩
abbrev Keys:=List (ByteArray × List Ver)
def Zz(K:Keys):Prop:=Asc zh (K.map Prod.fst)
theorem Zg{a b:ByteArray}(h:zh a b=true):a≠b:=fun e=>by rw[e,Zk.vi] at h;cases h
theorem UC{K:Keys}{key:ByteArray}:∀ x∈K.take (low zh (K.map Prod.fst) key),zh x.1 key=true:=by
 intro x d;obtain⟨j,c,rfl⟩:=EA d;rw[Gd] at c;have a:j<(K.map Prod.fst).length:=by rw[Gv];omega
 have:=S5 (lt:=zh) (l:=K.map Prod.fst) (b:=key) (k:=j) a (by omega);rw[GJ] at this;rw[Bc];exact this
theorem UD{K:Keys}{key:ByteArray}(h:Zz K):∀ x∈K.drop (if zY zh (K.map Prod.fst) key=true then low zh (K.map Prod.fst) key+1 else low zh (K.map Prod.fst) key),zh key x.1=true:=by
 intro x m;obtain⟨j,d,rfl⟩:=EA m;rw[Gk] at d;rw[Fu];rcases Eg (low zh (K.map Prod.fst) key) (K.map Prod.fst).length with f|f
 .have hge:=S6 f
  have k:low zh (K.map Prod.fst) key<K.length:=by simpa using f
  have c:=XT (lt:=zh) (b:=key) k rfl;rw[GJ] at hge;by_cases a:zY zh (K.map Prod.fst) key=true
  .rw[a] at c
   have g:=zZ.1 c.symm;simp only[a,Ft] at d |-;have:=Asc.fst h (i:=low zh (K.map Prod.fst) key) (j:=low zh (K.map Prod.fst) key+1+j) (by omega) (by omega);rw[g] at this;exact this
  .have a:zY zh (K.map Prod.fst) key=false:=by simpa using a
   rw[a] at c;have g:K[low zh (K.map Prod.fst) key].1≠key:=fun e=>by rw[zZ.2 e] at c;cases c
   have l:=Zk.vw _ _ hge g;simp only[a,FI,Fk] at d |-;rcases ET j with e|e
   .subst e;exact l
   .exact Zk.trans _ _ _ l (Asc.fst h (i:=low zh (K.map Prod.fst) key) (j:=low zh (K.map Prod.fst) key+j) (by omega) (by omega))
 .rw[Gv] at f
  exfalso
  have:=d;split at this <;> omega
theorem WU{K:Keys}{key:ByteArray}(a:zY zh (K.map Prod.fst) key=true):∃ l,K=K.take (low zh (K.map Prod.fst) key)++(key,l)::K.drop (low zh (K.map Prod.fst) key+1)/\zr K key=l:=by
 rcases Eg (low zh (K.map Prod.fst) key) K.length with c|c
 .have he:=XT (lt:=zh) (b:=key) c rfl
  rw[a] at he;have d:=zZ.1 he.symm;refine⟨K[low zh (K.map Prod.fst) key].2,?_,?_⟩
  .have e2:(key,K[low zh (K.map Prod.fst) key].2)=K[low zh (K.map Prod.fst) key]:=by rw[<- Prod.eta K[low zh (K.map Prod.fst) key],d]
   rw[e2,List.getElem_cons_drop,Gu]
  .unfold zr
   rw[GA a,GV,Gq c]
   rfl
 .rw[WI (by simpa using c)] at a
  cases a
def Z5(K:Keys)(key:ByteArray):List Ver:=match K.find? (fun e=>e.1==key) with|some e=>e.2|none=>[]
theorem Vb{K:Keys}{key:ByteArray}(h:∀ x∈K,x.1≠key):K.find? (fun e=>e.1==key)=none:=by
 rw[Dx];intro x b;have:=h x b;intro e;exact this (zZ.1 e)
theorem VP{K:Keys}(key:ByteArray)(h:Zz K):Z5 K key=zr K key:=by
 have c:∀ x∈K.take (low zh (K.map Prod.fst) key),x.1≠key:=fun x a=>Zg (UC x a);have b:=UD (key:=key) h;cases ha:zY zh (K.map Prod.fst) key with
 | true =>
  obtain⟨l,d,g⟩:=WU ha;rw[g];unfold Z5;have:K.find? (fun e=>e.1==key)=some (key,l):=by
   rw[d,DK,Vb c];simp[zZ.2 rfl]
  rw[this]
 | false =>
  have f:zr K key=[]:=by unfold zr;rw[Gl (by rw[ha];decide)]
  rw[f];rw[ha] at b;simp only[FI,Fk] at b;unfold Z5;have:K.find? (fun e=>e.1==key)=none:=by
   rw[<- Gu (low zh (K.map Prod.fst) key) K];refine Vb fun x a=>?_;rcases Gf.1 a with a|a
   .exact c x a
   .exact(Zg (b x a)).symm
  rw[this]
def Zo(key:ByteArray)(l:List Ver)(st:Keys × Bool)(e:ByteArray × List Ver):Keys × Bool :=
 (((if st.2=false/\zh e.1 key=false then st.1++[(key,l)] else st.1)++if e.1=key then [] else [e]),st.2||!zh e.1 key)
def Z0(K:Keys)(key:ByteArray)(l:List Ver):Keys :=
 (K.foldl (Zo key l) ([],l.isEmpty)).1++if (K.foldl (Zo key l) ([],l.isEmpty)).2=true then [] else [(key,l)]
theorem Wn(key:ByteArray)(l:List Ver):∀ (K a:Keys),(∀ x∈K,x.1≠key)->K.foldl (Zo key l) (a,true)=(a++K,true)
 | [],a,_=>by simp
 | e::K,a,h=>by
  have b:e.1≠key:=h e (Gh ..);have:Zo key l (a,true) e=(a++[e],true):=by simp[Zo,b]
  rw[Fj,this,Wn key l K _ (fun x c=>h x (Ge _ c))];simp
theorem VQ(key:ByteArray)(l:List Ver)(b:Bool):∀ (K a:Keys),(∀ x∈K,zh x.1 key=true)->K.foldl (Zo key l) (a,b)=(a++K,b)
 | [],a,_=>by simp
 | e::K,a,h=>by
  have c:=h e (Gh ..);have d:e.1≠key:=Zg c;have:Zo key l (a,b) e=(a++[e],b):=by simp[Zo,c,d]
  rw[Fj,this,VQ key l b K _ (fun x f=>h x (Ge _ f))];simp
theorem KB(key:ByteArray)(l:List Ver)(K a:Keys)(h:∀ x∈K,zh key x.1=true) :
 K.foldl (Zo key l) (a,false)=(if K=[] then(a,false) else(a++(key,l)::K,true)):=by
 cases K with
 | nil=>rfl
 | cons e K =>
  have b:=h e (Gh ..);have f:e.1≠key:=fun x=>Zg b x.symm;have d:zh e.1 key=false:=Zk.vj b;have:Zo key l (a,false) e=(a++[(key,l)]++[e],true):=by simp[Zo,d,f]
  rw[Fj,this,Wn key l K _ (fun x g=>fun c=>Zg (h x (Ge _ g)) c.symm)];simp
theorem Ze{K:Keys}(key:ByteArray)(l:List Ver)(h:Zz K):Z0 K key l=if l=[] then YC K key else Zu K key l:=by
 have j:=UC (K:=K) (key:=key);have a:=UD (key:=key) h;cases ha:zY zh (K.map Prod.fst) key with
 | true =>
  obtain⟨k,e,_⟩:=WU ha;rw[ha] at a;simp only[Ft] at a;have f:YC K key=K.take (low zh (K.map Prod.fst) key)++K.drop (low zh (K.map Prod.fst) key+1):=by unfold YC;rw[GA ha]
  have g:Zu K key l=K.take (low zh (K.map Prod.fst) key)++[(key,l)]++K.drop (low zh (K.map Prod.fst) key+1):=by unfold Zu;rw[GA ha]
  rw[f,g];generalize K.take (low zh (K.map Prod.fst) key)=A at *;generalize K.drop (low zh (K.map Prod.fst) key+1)=C at *;subst e;unfold Z0;rw[GW,VQ key l _ A [] j,Fj];have b:zh key key=false:=Zk.vi key;have d:∀ x∈C,x.1≠key:=fun x i=>(Zg (a x i)).symm;cases l with
  | nil =>
   have:Zo key [] ([]++A,List.isEmpty ([]:List Ver)) (key,k)=(A,true):=by simp[Zo,b]
   rw[this,Wn key _ C A d];simp
  | cons v l =>
   have:Zo key (v::l) ([]++A,List.isEmpty (v::l)) (key,k)=(A++[(key,v::l)],true):=by simp[Zo,b]
   rw[this,Wn key _ C _ d];simp
 | false =>
  rw[ha] at a;simp only[FI,Fk] at a;have f:YC K key=K:=by unfold YC;rw[Gl (by rw[ha];decide)]
  have g:Zu K key l=K.take (low zh (K.map Prod.fst) key)++[(key,l)]++K.drop (low zh (K.map Prod.fst) key):=by unfold Zu;rw[Gl (by rw[ha];decide)]
  have e:K=K.take (low zh (K.map Prod.fst) key)++K.drop (low zh (K.map Prod.fst) key):=(Gu _ _).symm;rw[f,g];generalize K.take (low zh (K.map Prod.fst) key)=A at *;generalize K.drop (low zh (K.map Prod.fst) key)=C at *;subst e;have d:∀ x∈C,x.1≠key:=fun x i=>(Zg (a x i)).symm;unfold Z0;rw[GW,VQ key l _ A [] j];cases l with
  | nil =>
   rw[show List.isEmpty ([]:List Ver)=true from rfl,Wn key _ C _ d];simp
  | cons v l =>
   rw[show List.isEmpty (v::l)=false from rfl,KB key _ C _ a];cases C with
   | nil=>simp
   | cons c C=>simp
def YL(v:Ver)(st:List Ver × Bool)(u:Ver):List Ver × Bool :=
 (((if zH v.dot u.dot=true/\st.2=false then st.1++[v] else st.1)++if v.over u=true then [] else [u]),st.2||zH v.dot u.dot)
def Pe(l:List Ver)(v:Ver):List Ver :=
 (l.foldl (YL v) ([],v.gone)).1++if (l.foldl (YL v) ([],v.gone)).2=true then [] else [v]
theorem Tz(v:Ver):∀ (l a:List Ver),l.foldl (YL v) (a,true)=(a++zK l v,true)
 | [],a=>by simp[zK]
 | u::l,a=>by
  have:YL v (a,true) u=(a++if v.over u=true then [] else [u],true):=by simp[YL]
  rw[Fj,this,Tz v l];unfold zK;cases h:v.over u <;> simp[h]
theorem RE(v:Ver)(b:Bool):∀ (l a:List Ver),(∀ u∈l,zH v.dot u.dot=false)->l.foldl (YL v) (a,b)=(a++zK l v,b)
 | [],a,_=>by simp[zK]
 | u::l,a,h=>by
  have c:=h u (Gh ..);have:YL v (a,b) u=(a++if v.over u=true then [] else [u],b):=by simp[YL,c]
  rw[Fj,this,RE v b l _ (fun x d=>h x (Ge _ d))];unfold zK;cases h:v.over u <;> simp[h]
theorem Pf(a b:List Ver)(v:Ver):zK (a++b) v=zK a v++zK b v:=by simp[zK]
theorem JR(A C:List Ver)(v:Ver)(d:∀ u∈A,zH u.dot v.dot=true)(e:∀ u∈C,zH v.dot u.dot=true):Xb (A++C) v=A++[v]++C:=by
 have g:low zH ((A++C).map Ver.dot) v.dot=A.length:=by
  refine VA zH v.dot _ _ (by simp) (fun k c a=>?_) (fun c=>?_)
  .rw[GJ,Fs a]
   exact d _ (Gj _)
  .have hc:A.length<(A++C).length:=by simpa using c
   have f:0<C.length:=by simp at hc;omega
   rw[GJ,De (Gb _)];exact Ya.vj (e _ (Gj _))
 unfold Xb;rw[g];simp
theorem IF{l:List Ver}(v:Ver)(h:YE l)(y:∀ u∈l,u.dot≠v.dot):Pe l v=if v.gone=true then zK l v else Xb (zK l v) v:=by
 unfold Pe;cases hg:v.gone with
 | true=>rw[Tz];simp
 | false =>
  have x:l=l.take (low zH (l.map Ver.dot) v.dot)++l.drop (low zH (l.map Ver.dot) v.dot):=(Gu _ _).symm;have f:∀ u∈l.take (low zH (l.map Ver.dot) v.dot),zH u.dot v.dot=true:=by
   intro u a;obtain⟨j,g,rfl⟩:=EA a;rw[Gd] at g;have f:j<(l.map Ver.dot).length:=by rw[Gv];omega
   have:=S5 (lt:=zH) (l:=l.map Ver.dot) (b:=v.dot) (k:=j) f (by omega);rw[GJ] at this;rw[Bc];exact this
  have p:∀ u∈l.drop (low zH (l.map Ver.dot) v.dot),zH v.dot u.dot=true:=by
   intro u a;obtain⟨j,g,rfl⟩:=EA a;rw[Gk] at g;rw[Fu];have m:low zH (l.map Ver.dot) v.dot<l.length:=by omega
   have d:=S6 (lt:=zH) (l:=l.map Ver.dot) (b:=v.dot) (by simpa using m);rw[GJ] at d;have o:=Ya.vw _ _ d (y _ (Gj _));rcases ET j with e|e
   .subst e;exact o
   .exact Ya.trans _ _ _ o (h.get (i:=low zH (l.map Ver.dot) v.dot) (j:=low zH (l.map Ver.dot) v.dot+j) (by omega) (by omega))
  generalize l.take (low zH (l.map Ver.dot) v.dot)=A at *;generalize l.drop (low zH (l.map Ver.dot) v.dot)=C at *;subst x;have q:∀ u∈A,zH v.dot u.dot=false:=fun u a=>Ya.vj (f u a);have r:∀ u∈zK A v,zH u.dot v.dot=true:=fun u a=>f u ((EX.1 a).1);have s:∀ u∈zK C v,zH v.dot u.dot=true:=fun u a=>p u ((EX.1 a).1);rw[GW,RE v false A [] q,Pf];simp only[FI,Fk];rw[JR _ _ v r s];cases C with
  | nil=>simp[zK]
  | cons c C =>
   have t:=p c (Gh ..);have:YL v ([]++zK A v,false) c=(zK A v++[v]++(if v.over c=true then [] else [c]),true):=by simp[YL,t]
   rw[Fj,this,Tz];cases ho:v.over c <;> simp[zK,ho]
def ZX(n s y:Int):Bool:=zR n&&decide (1000<=s/\s<=1000000/\0<=y/\y<=100)
theorem VD(n s y:Int)(w:World):Calls Tryz.prog 93 #[.agg #[.int .i64 n,.int .i64 s,.int .i64 y]] w fun e t=>e=.returned (.bool (ZX n s y))/\Fr Nil w t:=by
 have l:=Blk.new w [.int .i64 n,.int .i64 s,.int .i64 y] 102;have k:Fr Nil w (w.alloc (.cells #[.int .i64 n,.int .i64 s,.int .i64 y] 102)):=(U _ _).alloc _;have f:=Z l;have g:=Z k;clear l k;go_enter Tryz.func93,Tryz.ntmps93;go_wp2_with fail;generalize c:w.alloc (.cells #[.int .i64 n,.int .i64 s,.int .i64 y] 102)=u;rw[c] at f g;clear c;have r:=f.out.cell;generalize w.heap.size=b at f r |-;have d:=Z (WT n u);cases h1:zR n with
 | false =>
  rw[h1] at d;have a:ZX n s y=false:=by unfold ZX;rw[h1];rfl
  have h:=Z a;clear h1 a
  go_wp2_with (refine d.out.mono ?_;rintro e j ⟨rfl,i⟩;subst j)
  go_ret;exact⟨by rw[h.out];rfl,g.out⟩
 | true =>
  rw[h1] at d;have a:ZX n s y=decide (1000<=s/\s<=1000000/\0<=y/\y<=100):=by unfold ZX;rw[h1];rfl
  have h:=Z a;clear h1 a;by_cases m:1000<=s <;> by_cases o:s<=1000000 <;> by_cases p:0<=y <;> by_cases q:y<=100
  all_goals first
   | (exfalso;omega)
   | (
   go_wp2_with (refine d.out.mono ?_;rintro e j ⟨rfl,i⟩;subst j)
   go_ret;exact⟨by rw[h.out];simp[m,o,p,q],g.out⟩)
def Zd(o:Int):Bool:=decide (0<=o/\o<=1000000000)
def Ver.xf(v:Ver):List Int:=[v.o0,v.o1,v.o2,v.o3]
def foreign(self:Nat)(v:Ver):Bool :=
 v.xf.all Zd&&(!(v.gone&&decide (v.value.size≠0))&&((zR v.node&&decide (v.node≠self))&&decide (1<=v.seq/\v.seq<=1000000000)))
theorem MY(a b c d:Int):(∀ w,(Instr.index 35 (.agg #[.int .i64 a,.int .i64 b,.int .i64 c,.int .i64 d]) (.int .i64 0)).run Tryz.prog w=.ok (.int .i64 a) w)/\(∀ w,(Instr.index 35 (.agg #[.int .i64 a,.int .i64 b,.int .i64 c,.int .i64 d]) (.int .i64 1)).run Tryz.prog w=.ok (.int .i64 b) w)/\(∀ w,(Instr.index 35 (.agg #[.int .i64 a,.int .i64 b,.int .i64 c,.int .i64 d]) (.int .i64 2)).run Tryz.prog w=.ok (.int .i64 c) w)/\(∀ w,(Instr.index 35 (.agg #[.int .i64 a,.int .i64 b,.int .i64 c,.int .i64 d]) (.int .i64 3)).run Tryz.prog w=.ok (.int .i64 d) w) :=
 ⟨fun _=>by kernel_rfl,fun _=>by kernel_rfl,fun _=>by kernel_rfl,fun _=>by kernel_rfl⟩
theorem Se(L:NL)(N:NM)(M:DM)(v:Ver)(w:World)(h:NRep w L N M) :
 Calls Tryz.prog 139 #[.pointer (some ⟨L.nb,0,none⟩),.agg v.cells.toArray] w fun e O=>e=.returned (.bool (foreign N.self v))/\Fr Nil w O:=by
 have Q:=Blk.new w v.cells 37;have J:Fr Nil w (w.alloc (.cells v.cells.toArray 37)):=(U _ _).alloc _;have R:=h.nil J;have G:=Z Q;have s:=Z J;have I:=Z R;clear Q J h R;obtain⟨node,a,m,o,q,r,c,gone⟩:=v;obtain⟨i0,i1,i2,i3⟩:=MY m o q r;simp only[Ver.cells] at G s I |-;go_enter Tryz.func139,Tryz.ntmps139;go_wp2_with fail;generalize w.alloc (.cells #[.int .i64 node,.int .i64 a,.int .i64 m,.int .i64 o,.int .i64 q,.int .i64 r,.string c,.bool gone] 37)=Y at G s I |-;have V:=G.out.cell;generalize w.heap.size=b at G V |-
 go_loopw [9] (fun t O=>∃ i:Nat,i<=4/\t=.int .i64 i/\(([m,o,q,r].take i).all Zd)=true/\O=Y) (fun t _=>4-(intOf t).toNat)
 case atStart=>exact⟨0,by omega,rfl,rfl,rfl⟩
 case round =>
  obtain⟨i,hi,rfl,d,X⟩:=hrel;subst X;have C:i=0\/i=1\/i=2\/i=3\/i=4:=by omega
  rcases C with rfl|rfl|rfl|rfl|rfl
  .cases ho:Zd m with
   | false =>
    have k:foreign N.self ⟨node,a,m,o,q,r,c,gone⟩=false:=by unfold foreign;simp[Ver.xf,ho]
    have l:=Z k;have g:m<0\/(¬m<0/\1000000000<m):=by unfold Zd at ho;simp only[FB] at ho;omega
    clear k ho d;rcases g with g|⟨g,u⟩
    .go_wp2
     go_ret;exact⟨by rw[l.out];rfl,s.out⟩
    .go_wp2
     go_ret;exact⟨by rw[l.out];rfl,s.out⟩
   | true =>
    have f:(([m,o,q,r].take 1).all Zd)=true:=by simp[ho]
    have j:=Z f;have g:¬m<0:=by unfold Zd at ho;simp only[Gr] at ho;omega
    have u:¬1000000000<m:=by unfold Zd at ho;simp only[Gr] at ho;omega
    clear ho d f
    go_wp2
    exact⟨⟨1,by omega,rfl,j.out,trivial⟩,by simp[intOf]⟩
  .cases ho:Zd o with
   | false =>
    have k:foreign N.self ⟨node,a,m,o,q,r,c,gone⟩=false:=by unfold foreign;simp[Ver.xf,ho]
    have l:=Z k;have g:o<0\/(¬o<0/\1000000000<o):=by unfold Zd at ho;simp only[FB] at ho;omega
    clear k ho d;rcases g with g|⟨g,u⟩
    .go_wp2
     go_ret;exact⟨by rw[l.out];rfl,s.out⟩
    .go_wp2
     go_ret;exact⟨by rw[l.out];rfl,s.out⟩
   | true =>
    have f:(([m,o,q,r].take 2).all Zd)=true:=by
     simp only[Fg,FK,Bu,BT,Bv,Fm] at d |-;simp[d,ho]
    have j:=Z f;have g:¬o<0:=by unfold Zd at ho;simp only[Gr] at ho;omega
    have u:¬1000000000<o:=by unfold Zd at ho;simp only[Gr] at ho;omega
    clear ho d f
    go_wp2
    exact⟨⟨2,by omega,rfl,j.out,trivial⟩,by simp[intOf]⟩
  .cases ho:Zd q with
   | false =>
    have k:foreign N.self ⟨node,a,m,o,q,r,c,gone⟩=false:=by unfold foreign;simp[Ver.xf,ho]
    have l:=Z k;have g:q<0\/(¬q<0/\1000000000<q):=by unfold Zd at ho;simp only[FB] at ho;omega
    clear k ho d;rcases g with g|⟨g,u⟩
    .go_wp2
     go_ret;exact⟨by rw[l.out];rfl,s.out⟩
    .go_wp2
     go_ret;exact⟨by rw[l.out];rfl,s.out⟩
   | true =>
    have f:(([m,o,q,r].take 3).all Zd)=true:=by
     simp only[Fg,FK,Bu,BT,Bv,Fm] at d |-;simp[d,ho]
    have j:=Z f;have g:¬q<0:=by unfold Zd at ho;simp only[Gr] at ho;omega
    have u:¬1000000000<q:=by unfold Zd at ho;simp only[Gr] at ho;omega
    clear ho d f
    go_wp2
    exact⟨⟨3,by omega,rfl,j.out,trivial⟩,by simp[intOf]⟩
  .cases ho:Zd r with
   | false =>
    have k:foreign N.self ⟨node,a,m,o,q,r,c,gone⟩=false:=by unfold foreign;simp[Ver.xf,ho]
    have l:=Z k;have g:r<0\/(¬r<0/\1000000000<r):=by unfold Zd at ho;simp only[FB] at ho;omega
    clear k ho d;rcases g with g|⟨g,u⟩
    .go_wp2
     go_ret;exact⟨by rw[l.out];rfl,s.out⟩
    .go_wp2
     go_ret;exact⟨by rw[l.out];rfl,s.out⟩
   | true =>
    have f:(([m,o,q,r].take 4).all Zd)=true:=by
     simp only[Fg,FK,Bu,BT,Bv,Fm] at d |-;simp[d,ho]
    have j:=Z f;have g:¬r<0:=by unfold Zd at ho;simp only[Gr] at ho;omega
    have u:¬1000000000<r:=by unfold Zd at ho;simp only[Gr] at ho;omega
    clear ho d f
    go_wp2
    exact⟨⟨4,by omega,rfl,j.out,trivial⟩,by simp[intOf]⟩
  .have j:Hid (([m,o,q,r].all Zd)=true):=d
   have A:=Z (Ug L N M node wr I.out);have E:foreign N.self ⟨node,a,m,o,q,r,c,gone⟩=(!(gone&&decide (c.size≠0))&&((zR node&&decide (node≠N.self))&&decide (1<=a/\a<=1000000000))):=by
    unfold foreign;simp only[Ver.xf,j.out,Bq]
   have B:=Z E;have D:=Z (Vn c);clear d E;cases gone with
   | true =>
    by_cases K:c.toList=[]
    .have k:foreign N.self ⟨node,a,m,o,q,r,c,true⟩=((zR node&&decide (node≠N.self))&&decide (1<=a/\a<=1000000000)):=by
      rw[B.out];simp[show c.size=0 by rw[D.out,K];rfl]
     cases ho:(zR node&&decide (node≠N.self)) with
     | false =>
      rw[ho] at A k;have l:=Z k;clear ho k
      go_wp2_with (refine A.out.mono ?_;rintro e y ⟨rfl,x⟩;subst y)
      go_ret;exact⟨by rw[l.out];rfl,s.out⟩
     | true =>
      rw[ho] at A k;have l:=Z k;clear ho k;by_cases T:1<=a
      .by_cases h2:a<=1000000000
       .go_wp2_with (refine A.out.mono ?_;rintro e y ⟨rfl,x⟩;subst y)
        go_ret;exact⟨by rw[l.out,EN (show 1<=a/\a<=1000000000 by omega)];rfl,s.out⟩
       .go_wp2_with (refine A.out.mono ?_;rintro e y ⟨rfl,x⟩;subst y)
        go_ret;exact⟨by rw[l.out,Fp (show ¬(1<=a/\a<=1000000000) by omega)];first|rfl|(rw[<- Fp (show ¬a<=1000000000 by omega)];rfl),s.out⟩
      .go_wp2_with (refine A.out.mono ?_;rintro e y ⟨rfl,x⟩;subst y)
       go_ret;exact⟨by rw[l.out,Fp (show ¬(1<=a/\a<=1000000000) by omega)];first|rfl|(rw[<- Fp (show ¬a<=1000000000 by omega)];rfl),s.out⟩
    .have k:foreign N.self ⟨node,a,m,o,q,r,c,true⟩=false:=by
      rw[B.out];have:c.size≠0:=by rw[D.out];exact fun h=>K (GL h)
      simp[this]
     have l:=Z k;have h3:c.toList.isEmpty=false:=by simpa using K
     clear k
     go_wp2
     go_ret;exact⟨by rw[l.out];rfl,s.out⟩
   | false =>
    have k:foreign N.self ⟨node,a,m,o,q,r,c,false⟩=((zR node&&decide (node≠N.self))&&decide (1<=a/\a<=1000000000)):=by
     rw[B.out];simp
    cases ho:(zR node&&decide (node≠N.self)) with
    | false =>
     rw[ho] at A k;have l:=Z k;clear ho k
     go_wp2_with (refine A.out.mono ?_;rintro e y ⟨rfl,x⟩;subst y)
     go_ret;exact⟨by rw[l.out];rfl,s.out⟩
    | true =>
     rw[ho] at A k;have l:=Z k;clear ho k;by_cases T:1<=a
     .by_cases h2:a<=1000000000
      .go_wp2_with (refine A.out.mono ?_;rintro e y ⟨rfl,x⟩;subst y)
       go_ret;exact⟨by rw[l.out,EN (show 1<=a/\a<=1000000000 by omega)];rfl,s.out⟩
      .go_wp2_with (refine A.out.mono ?_;rintro e y ⟨rfl,x⟩;subst y)
       go_ret;exact⟨by rw[l.out,Fp (show ¬(1<=a/\a<=1000000000) by omega)];first|rfl|(rw[<- Fp (show ¬a<=1000000000 by omega)];rfl),s.out⟩
     .go_wp2_with (refine A.out.mono ?_;rintro e y ⟨rfl,x⟩;subst y)
      go_ret;exact⟨by rw[l.out,Fp (show ¬(1<=a/\a<=1000000000) by omega)];first|rfl|(rw[<- Fp (show ¬a<=1000000000 by omega)];rfl),s.out⟩
end Go.Proofs.YtkhnggkkiefcdaaGreatDoor
