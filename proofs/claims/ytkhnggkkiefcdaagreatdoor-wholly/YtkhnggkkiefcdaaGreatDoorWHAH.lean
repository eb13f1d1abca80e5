/- larder: joined texts -/
import Derived.Test.YtkhnggkkiefcdaaGreatDoorWHAD
import Derived.Test.YtkhnggkkiefcdaaGreatDoorWHAE
import Derived.Test.YtkhnggkkiefcdaaGreatDoorWHAF
import Derived.Test.YtkhnggkkiefcdaaGreatDoorWHAG
import Derived.Laws.Rows
import Derived.Shelf.Strconv.AtoiFail
import Derived.Shelf.Strconv.Atoi
import Derived.Shelf.Strings.Prefix
import Derived.Ground.NamesProg
import Derived.Lib.AtoiErrMem
import Derived.Lib.IfaceEq
namespace Go.Proofs.YtkhnggkkiefcdaaGreatDoor
open Go.RowKit
set_option maxRecDepth 100000
set_option maxHeartbeats 8000000
structure BK where
 vs:List Value
 vm:List Nat
 ns:List Value
 nm:List Nat
 hs:List Value
 hm:List Nat
structure WM where
 node:Int
 room:Int
 fFS:Int
 sync:Int
 Hs:Bool
 broken:Bool
 every:Int
 writes:Nat
 calls:Nat
 most:Nat
 Hq:Int
 base:Nat
 next:Nat
 st:List LM
 bk:BK
def WM.due(W:WM):Bool:=decide (0<W.every)&&decide ((W.writes:Int).tmod W.every=0)
def WM.Hp(W:WM)(m:LM):WM :=
 let a:={W with st:=W.st++[m],writes:=W.writes+1}
 if a.due then {a with st:=a.st.drop (a.st.length-1)} else a
theorem Ux(l:List (Nat × ByteArray)):∀ (k:Nat)(h:k<l.length),(Z8 l)[k*2]?=some (.int .i64 l[k].1)/\(Z8 l)[k*2+1]?=some (.string l[k].2):=by
 induction l with
 | nil=>intro k h;exact absurd h (Mu _)
 | cons a l c =>
  intro k h;cases k with
  | zero=>exact⟨rfl,rfl⟩
  | succ k =>
   have:=c k (by simpa using h);exact⟨by rw[<- (show(Z8 (a::l))[(k+1)*2]?=(Z8 l)[k*2]? by rw[show(k+1)*2=k*2+2 from by omega];rfl)] at this;exact this.1,by have b:=this.2;rw[<- (show(Z8 (a::l))[(k+1)*2+1]?=(Z8 l)[k*2+1]? by rw[show(k+1)*2+1=k*2+1+2 from by omega];rfl)] at b;exact b⟩
def TG(a b:Ver):Bool:=(decide (a.o0=b.o0)&&decide (a.o1=b.o1)&&decide (a.o2=b.o2)&&decide (a.o3=b.o3))&&(decide (a.node=b.node)&&(decide (a.seq=b.seq)&&(a.value.toList==b.value.toList&&(a.gone==b.gone))))
theorem Xs(a b:Ver):TG a b=true↔a=b:=by
 obtain⟨n,s,d,e,f,i,x,g⟩:=a;obtain⟨c,q,j,k,o,p,y,h⟩:=b;simp only[TG,Ld,Mk,beq_iff_eq,Ver.mk.injEq]
 constructor
 .rintro⟨⟨⟨⟨h0,h1⟩,h2⟩,h3⟩,h4,h5,h6,h7⟩
  exact⟨h4,h5,h0,h1,h2,h3,YW h6,h7⟩
 .rintro⟨h4,h5,h0,h1,h2,h3,h6,h7⟩
  exact⟨⟨⟨⟨h0,h1⟩,h2⟩,h3⟩,h4,h5,by rw[h6],h7⟩
def Y4(c:Int):Int:=if c<0 then 1152921504606846976 else c
def WM.IH(a e g h:Int)(c:Nat):WM:=⟨a,e,g,h,false,false,0,0,0,0,0,c,0,[⟨a,[],[]⟩],⟨[],[],[],[],[],[]⟩⟩
theorem OV:((Tryz.prog.info? 3).map fun i=>(i.zero.map (·.cells.size),i.size,i.bytes))=some (some 1,1,8):=by kernel_rfl
theorem OW{t e:TypeId}{a:Nat}(C:Tryz.prog.underlying t=some (.slice e))(y:((Tryz.prog.info? e).map fun i=>(i.zero.map (·.cells.size),i.size,i.bytes))=some (some 1,1,a))(m:a<=24)
 (w:World)(v:Value)(n:Nat)(q:List Value)(h:w.ownsRow 0 e 1 v n q)(x:Value)(r:x.oneCell'=true)(D:n<1000000000)(g:World)(o:Fr Nil w g)(N:Nat)(z:Blk g N [x] e)(ty:TypeId) :
 ∃ c d,(Builtin.append_ #[t,t] ty #[v,.slice (some ⟨N,0,none⟩) 1 1]).run Tryz.prog g=.ok c d /\
  (d.ownsRow 0 e 1 c (n+1) (q++[x])/\Fr (fun k=>v.ownBlock=some k) w d/\(∀ k,c.ownBlock=some k->v.ownBlock=some k\/w.heap.size<=k)):=by
 have A:=za h o (fun _ _=>id);obtain⟨c,d,B,l,s,b⟩:=zn (P:=Tryz.prog) t ty e 1 a C y (by omega) v n q A ⟨N,0,none⟩ 1 1 [x] rfl
  (fun j u f=>by rw[MC,Mv,z.cell];exact f) (by intro u f;simp at f;subst f;exact r) (by unfold maxLen;omega) (NG (Nat.mul_le_mul_left _ m) (by omega))
 refine⟨c,d,B,l,(o.mono (fun _ _ e=>absurd e id)).trans' ((Fr.Hi s).mono (fun i _ h=>h)) (fun i _ h=>h),fun k p=>?_⟩;rcases b with b|b
 .exact .inl (by rw[<- b];exact p)
 .rw[b] at p;simp at p;have:=o.size;exact .inr (by omega)
theorem zp(b n:Nat)(r:List UInt8)(w:World)(h:Src w b (zg n++r) false)(d:n<9223372036854775808) :
 Calls Tryz.prog 149 #[.pointer (some ⟨b,0,none⟩)] w fun e a=>e=.returned (.int .i64 n)/\Src a b r false/\Fr (fun k=>k=b) w a:=by
 refine(Xf b _ false w h (by simp)).mono ?_;intro e a c;rw[Sc n r d] at c;exact c
theorem VJ(b:Nat)(d:List UInt8)(w:World)(h:Src w b d false)(f:Ze 0 0 d=none) :
 Calls Tryz.prog 149 #[.pointer (some ⟨b,0,none⟩)] w fun e a=>e=.returned (.int .i64 0)/\Src a b [] true/\Fr (fun k=>k=b) w a:=by
 refine(Xf b _ false w h (by simp)).mono ?_;intro e a c;rw[f] at c;exact c
def Read1(w:World)(b:Nat)(r:List UInt8)(a:World):Prop:=Src a b r false/\Fr (fun k=>k=b) w a
theorem YR(b:Nat)(s r:List UInt8)(w:World)(h:Src w b (zF s++r) false)(q:s.length<=1000000000) :
 Calls Tryz.prog 150 #[.pointer (some ⟨b,0,none⟩)] w fun e t=>e=.returned (.string (zk s))/\Read1 w b r t:=by
 have k:zF s++r=zg s.length++(s++r):=by simp[zF]
 rw[k] at h;have o:=Z h;clear h k;have m:=Z (fun u=>ZZ (zk s) u q);go_enter Tryz.func150,Tryz.ntmps150
 go_wp2_with (first
  | (refine(m.out _).mono ?_;rintro e y ⟨rfl,d⟩)
  | (refine(YK s.length b (s++r) false _ i.out.1 (by simp)).mono ?_;rintro e x ⟨rfl,g,c⟩;have j:=Z (And.intro g c);clear g c)
  | (refine(zp b s.length (s++r) _ o.out (by omega)).mono ?_;rintro e v ⟨rfl,f,a⟩;have i:=Z (And.intro f a);clear f a))
 go_ret;have l:=j.out.1;rw[KX] at l;exact⟨rfl,l.fr d id,(i.out.2.trans j.out.2).trans (d.mono (fun _ _ e=>absurd e id))⟩
def Xk(l:List Nat):List Value:=l.map fun n:Nat=>.int .i64 (n:Int)
def Pp(w a:World)(t:TypeId)(size:Nat)(v:Value)(n:Nat)(b:List Value):Prop :=
 a.ownsRow 0 t size v n b/\∀ k,v.ownBlock=some k->w.heap.size<=k
theorem T0(b:Nat)(l:List Nat)(r:List UInt8)(w:World)(h:Src w b (ZX l++r) false)(R:∀ x∈l,x<9223372036854775808)(a1:l.length<1000000) :
 Calls Tryz.prog 194 #[.pointer (some ⟨b,0,none⟩),.func (.func 149) #[] #[]] w fun e m =>
  ∃ v,e=.returned v/\Pp w m 3 1 v l.length (Xk l)/\Read1 w b r m:=by
 have M:ZX l++r=zg l.length++((l.map zg).flatten++r):=by simp[ZX]
 rw[M] at h;have Q:=h.lt;have V:=Z h;clear h M;have X:=Z R;clear R;go_enter Tryz.func194,Tryz.ntmps194
 go_wp2_with (refine(zp b l.length _ _ V.out (by omega)).mono ?_;rintro e w1 ⟨rfl,t,q⟩;have G:=Z (And.intro t q);clear t q)
 go_loopw [5,9] (fun t5 F m=>∃ i:Nat,i<=l.length/\F=.int .i64 (i:Int)/\Pp w m 3 1 t5 i (Xk (l.take i))/\Src m b (((l.drop i).map zg).flatten++r) false/\Fr (fun k=>k=b) w m) (fun _ F _=>(l.length-intOf F).toNat)
 case atStart=>exact⟨0,by omega,rfl,⟨⟨by simp[Xk],.inl ⟨rfl,rfl⟩⟩,fun k j=>by simp[Value.ownBlock] at j⟩,G.out.1,G.out.2⟩
 case round =>
  obtain⟨i,hi,rfl,⟨a,c⟩,o,A⟩:=hrel;by_cases f:i<l.length
  .have e2:((l.drop i).map zg).flatten++r=zg l[i]++(((l.drop (i+1)).map zg).flatten++r):=by
    rw[La f];simp only[NX,Lf,Mf]
   rw[e2] at o;have T:=X.out l[i] (NN f);have L:=Z T;have J:=Z o;have K:Hid (Xk (l.take (i+1))=Xk (l.take i)++[.int .i64 (l[i]:Int)]):=by
    show Xk _=_;unfold Xk;rw[KD,NS f,MB];rfl
   clear o e2 T;generalize E:l[i]=x at L J K;obtain⟨va,vc,rfl⟩:=zd a;have Y:=Z a;have u:=Z c;have I:=Z A;clear a c A E;have B:i<1000000000:=by omega
   go_wp2_with (first
    | (at_builtin;go_must (refine zJ rfl _ _ _ _ rfl _ _ (by rfl) (by rfl) (OW KZ OV (by decide) _ _ _ _ z.out (.int .i64 x) rfl B _ z8 _ (by exact Blk.new _ [_] _) _) ?_);rintro v' w3 ⟨D,s,C⟩)
    | (refine(zp b x _ _ J.out L.out).mono ?_;rintro e w2 ⟨rfl,g,d⟩;have a0:=g.cell;have y:=Z (And.intro g d);have z:=Z (za Y.out d (fun k j e=>by have:=u.out k j;omega));clear g d))
   refine⟨⟨i+1,by omega,by go_num,⟨by rw[K.out];exact D,fun k j=>?_⟩,?_,?_⟩,by simp[intOf];omega⟩
   .have:=I.out.size
    have:=y.out.2.size;rcases C k j with N|N
    .exact u.out k N
    .omega
   .exact y.out.1.fr s (fun e=>by have:=u.out b e;omega)
   .exact(I.out.trans y.out.2).trans' s (fun k j e=>absurd (u.out k e) (by omega))
  .have hil:i=l.length:=by omega
   subst hil;go_wp2_with fail;go_ret;rw[Mt] at a;rw[JS] at o;exact⟨_,rfl,⟨a,c⟩,o,A⟩
theorem XY(s:ByteArray):zk s.data.toList=s:=by
 apply Jj
 simp[zk]
theorem info1:(Tryz.prog.info? 3).map (·.size)=some 1:=by kernel_rfl
theorem WT(b:Nat)(v:Ver)(hv:v.Nat)(hg:v.gone=false)(r:List UInt8)(w:World)(h:Src w b (Zh v++r) false) :
 Calls Tryz.prog 152 #[.pointer (some ⟨b,0,none⟩)] w fun e w'=>e=.returned (.agg v.cells.toArray)/\Read1 w b r w':=by
 obtain⟨a,c,l,m,o,q,d,gone⟩:=v;simp only at hg;subst hg;obtain⟨z,K,X,h1,h2,h3,A⟩:=hv;simp only[isN] at z K X h1 h2 h3 A;obtain⟨a,rfl⟩:=Ms z.1;obtain⟨c,rfl⟩:=Ms K.1;obtain⟨l,rfl⟩:=Ms X.1;obtain⟨m,rfl⟩:=Ms h1.1;obtain⟨o,rfl⟩:=Ms h2.1;obtain⟨q,rfl⟩:=Ms h3.1;have e1:Zh ⟨a,c,l,m,o,q,d,false⟩++r=zg a++(zg c++(ZX [l,m,o,q]++(zF d.data.toList++r))):=by
  simp[Zh]
 rw[e1] at h;have c2:=h.lt;have HH:=Z h;clear h e1;have H0:=Z X;have H1:=Z h1;have H2:=Z h2;have H3:=Z h3;clear X h1 h2 h3;go_enter Tryz.func152,Tryz.ntmps152;go_wp2_with fail;have Q:Blk ((w.alloc (.cells #[.int .i64 0,.int .i64 0,.int .i64 0,.int .i64 0,.int .i64 0,.int .i64 0,.string ⟨#[]⟩,.bool false] 37)).alloc (.cells #[.int .i64 0,.int .i64 0,.int .i64 0,.int .i64 0,.int .i64 0,.int .i64 0,.string ⟨#[]⟩,.bool false] 37)) w.heap.size [.int .i64 0,.int .i64 0,.int .i64 0,.int .i64 0,.int .i64 0,.int .i64 0,.string ⟨#[]⟩,.bool false] 37 :=
  (Blk.new w [.int .i64 0,.int .i64 0,.int .i64 0,.int .i64 0,.int .i64 0,.int .i64 0,.string ⟨#[]⟩,.bool false] _).alloc _
 have R:Blk ((w.alloc (.cells #[.int .i64 0,.int .i64 0,.int .i64 0,.int .i64 0,.int .i64 0,.int .i64 0,.string ⟨#[]⟩,.bool false] 37)).alloc (.cells #[.int .i64 0,.int .i64 0,.int .i64 0,.int .i64 0,.int .i64 0,.int .i64 0,.string ⟨#[]⟩,.bool false] 37)) (w.heap.size+1) [.int .i64 0,.int .i64 0,.int .i64 0,.int .i64 0,.int .i64 0,.int .i64 0,.string ⟨#[]⟩,.bool false] 37:=by
  have X:=Blk.new (w.alloc (.cells #[.int .i64 0,.int .i64 0,.int .i64 0,.int .i64 0,.int .i64 0,.int .i64 0,.string ⟨#[]⟩,.bool false] 37)) [.int .i64 0,.int .i64 0,.int .i64 0,.int .i64 0,.int .i64 0,.int .i64 0,.string ⟨#[]⟩,.bool false] 37
  simpa using X
 have E:Fr Nil w ((w.alloc (.cells #[.int .i64 0,.int .i64 0,.int .i64 0,.int .i64 0,.int .i64 0,.int .i64 0,.string ⟨#[]⟩,.bool false] 37)).alloc (.cells #[.int .i64 0,.int .i64 0,.int .i64 0,.int .i64 0,.int .i64 0,.int .i64 0,.string ⟨#[]⟩,.bool false] 37)):=((O _ _).alloc _).alloc _;generalize (w.alloc (.cells #[.int .i64 0,.int .i64 0,.int .i64 0,.int .i64 0,.int .i64 0,.int .i64 0,.string ⟨#[]⟩,.bool false] 37)).alloc (.cells #[.int .i64 0,.int .i64 0,.int .i64 0,.int .i64 0,.int .i64 0,.int .i64 0,.string ⟨#[]⟩,.bool false] 37)=W0 at Q R E |-;have a2:Fr (fun k=>k=b) w W0:=E.mono (fun _ _ e=>absurd e id)
 -- the a
 refine(zp b a _ W0 (HH.out.fr E id) (by omega)).mono ?_;rintro e w1 ⟨rfl,B,F⟩;have t:=Q.fr F (by omega);have i:=R.fr F (by omega);have b7:=i.cell;have c0:=i.frozen;go_wp2_with fail;have i:=i.set 0 (.int .i64 a);have t:=t.Gr (b':=w.heap.size+1) (by omega) 0 (.int .i64 a);have B:Src _ b _ false:=Blk.Gr B (b':=w.heap.size+1) (by omega) 0 (.int .i64 a);have L:=(a2.trans F).set (p:=⟨w.heap.size+1,0,none⟩) (fun h=>absurd h (by simp)) (.int .i64 a);generalize w1.setCell ⟨w.heap.size+1,0,none⟩ (.int .i64 a)=W1 at i t B L |-;clear b7 c0 F Q R E a2
 -- its number
 refine(zp b c _ W1 B (by omega)).mono ?_;rintro e w2 ⟨rfl,C,G⟩;have u:=t.fr G (by omega);have f:=i.fr G (by omega);have b8:=f.cell;have c1:=f.frozen;go_wp2_with fail;have f:=f.set 1 (.int .i64 c);have u:=u.Gr (b':=w.heap.size+1) (by omega) 1 (.int .i64 c);have C:Src _ b _ false:=Blk.Gr C (b':=w.heap.size+1) (by omega) 1 (.int .i64 c);have M:=(L.trans G).set (p:=⟨w.heap.size+1,1,none⟩) (fun h=>absurd h (by simp)) (.int .i64 c);generalize w2.setCell ⟨w.heap.size+1,1,none⟩ (.int .i64 c)=W2 at f u C M |-;clear b8 c1 G i t B L;simp at f
 -- the four
 have a7:∀ x∈[l,m,o,q],x<9223372036854775808:=by
  have:=H0.out.2;have:=H1.out.2;have:=H2.out.2;have:=H3.out.2;intro x hx;simp at hx;rcases hx with rfl|rfl|rfl|rfl <;> omega
 have b3:=Z C;have b2:=Z f;have b0:=Z u;have a9:=Z a7;have D:=Z (HH.out.lt);have c3:w.heap.size+2<=W2.heap.size:=f.lt;clear C f u a7
 go_region_law
  (first
  | (go_simp;go_at_call 194;refine(T0 b [l,m,o,q] _ W2.drew b3.out a9.out (by simp)).mono ?_;rintro e Y ⟨v3,rfl,J,V⟩
     have I:Fr (fun k=>k=b) W2 Y:=Fr.trans ((O _ W2).drew) V.2;obtain⟨g,b4,rfl,c7,c8⟩:=zr J.1 (by simp);have a1:=Z (b2.out.fr I (by have:=D.out;omega));have b1:=Z (b0.out.fr I (by have:=D.out;omega));have a0:Hid (∀ (j:Nat) (v:Value),[Value.int .i64 (l:Int),.int .i64 m,.int .i64 o,.int .i64 q][j]?=some v->Y.cell? ((⟨g,0,none⟩:Addr).add j)=some v):=fun j v hj=>by
      rw[MC,Mv];exact own_cell? J.1 _ _ hj
     have c4:=Z J;have HR:=Z (And.intro V.1 I);clear J V I)
  | (refine Yn rfl _ _ 26 26 rfl _ _ (by rfl) (by rfl) (Zs (P:=Tryz.prog) 26 3 _ 1 KZ info1 (w.heap.size+1) 2 4 4 ⟨g,0,none⟩ 4 b4 _ [.int .i64 l,.int .i64 m,.int .i64 o,.int .i64 q] 37 a1.out rfl a0.out (by simp) (by simp[Value.oneCell'])) ?_))
 have a5:Blk (Y.setRow (w.heap.size+1) #[.int .i64 a,.int .i64 c,.int .i64 l,.int .i64 m,.int .i64 o,.int .i64 q,.string ⟨#[]⟩,.bool false]) (w.heap.size+1) [.int .i64 a,.int .i64 c,.int .i64 l,.int .i64 m,.int .i64 o,.int .i64 q,.string ⟨#[]⟩,.bool false] 37 :=
  a1.out.setRow [.int .i64 a,.int .i64 c,.int .i64 l,.int .i64 m,.int .i64 o,.int .i64 q,.string ⟨#[]⟩,.bool false]
 have s:Fr (fun k=>k=w.heap.size+1) Y (Y.setRow (w.heap.size+1) #[.int .i64 a,.int .i64 c,.int .i64 l,.int .i64 m,.int .i64 o,.int .i64 q,.string ⟨#[]⟩,.bool false]):=Fr.setRow (S:=fun k=>k=w.heap.size+1) (O _ _) (fun _=>rfl) _;have a4:=b1.out.fr s (by omega);have a8:Src _ b _ false:=Blk.fr HR.out.1 s (by have:=D.out;omega);have a3:=(M.trans HR.out.2).trans' s (fun k hk e=>by omega);generalize Y.setRow (w.heap.size+1) #[.int .i64 a,.int .i64 c,.int .i64 l,.int .i64 m,.int .i64 o,.int .i64 q,.string ⟨#[]⟩,.bool false]=W4 at a5 a4 a8 a3 |-;clear s M;have c5:=D.out;go_wp2_with fail;refine(YR b d.data.toList r W4 a8 (by simpa using Ig A)).mono ?_;rintro e w5 ⟨rfl,b9,T⟩;have a6:=a5.fr T (by omega);have N:=a4.fr T (by omega);have c6:=a6.cell;have d0:=a6.frozen;have c9:=N.cell;have d1:=N.frozen;rw[XY];go_wp2_with fail;have y:=(((((((((N.Gr (b':=w.heap.size+1) (by omega) 6 (.string d)).set 0 (.int .i64 a)).set 1 (.int .i64 c)).set 2 (.int .i64 l)).set 3 (.int .i64 m)).set 4 (.int .i64 o)).set 5 (.int .i64 q)).set 6 (.string d)).set 7 (.bool false));have y:Blk _ w.heap.size (Ver.cells ⟨a,c,l,m,o,q,d,false⟩) 37:=y;have b5:=a3.trans T;have b6:Src _ b r false:=((((((((b9.Gr (b':=w.heap.size+1) (by omega) 6 (.string d)).Gr (b':=w.heap.size) (by omega) 0 (.int .i64 a)).Gr (b':=w.heap.size) (by omega) 1 (.int .i64 c)).Gr (b':=w.heap.size) (by omega) 2 (.int .i64 l)).Gr (b':=w.heap.size) (by omega) 3 (.int .i64 m)).Gr (b':=w.heap.size) (by omega) 4 (.int .i64 o)).Gr (b':=w.heap.size) (by omega) 5 (.int .i64 q)).Gr (b':=w.heap.size) (by omega) 6 (.string d)).Gr (b':=w.heap.size) (by omega) 7 (.bool false);refine KJ (results_cell_row rfl _ _ w.heap.size _ _ _ _ rfl y Tryz.underlying37 rfl (by kernel_rfl)) rfl ⟨rfl,b6,?_⟩
 repeat' first|(with_reducible exact b5)|(with_reducible refine Fr.set ?_ ?_ _)|(intro h;exact absurd h (by simp))
theorem Blk.newAt(w:World)(c:List Value)(t:TypeId)(N:Nat)(a:N=w.heap.size):Blk (w.alloc (.cells c.toArray t)) N c t:=by subst a;exact Blk.new w c t
def Pq(l:List Ver):Prop:=∀ x∈l,x.Nat/\x.gone=false
theorem T1(b:Nat)(l:List Ver)(r:List UInt8)(w:World)(h:Src w b (Zb l++r) false)(hl:Pq l)(a2:l.length<1000000) :
 Calls Tryz.prog 151 #[.pointer (some ⟨b,0,none⟩),.func (.func 152) #[] #[]] w fun e d =>
  ∃ v,e=.returned v/\(VRow d v l/\∀ k,v.ownBlock=some k->w.heap.size<=k)/\Read1 w b r d:=by
 have e1:Zb l++r=zg l.length++((l.map Zh).flatten++r):=by simp[Zb]
 rw[e1] at h;have a0:=h.lt;have HH:=Z h;clear h e1;have HL:=Z hl;clear hl;go_enter Tryz.func151,Tryz.ntmps151
 go_wp2_with (refine(zp b l.length _ _ HH.out (by omega)).mono ?_;rintro e w1 ⟨rfl,t,p⟩;have T:=Z (And.intro t p);clear t p)
 go_loopw [5,9] (fun t5 S d=>∃ i:Nat,i<=l.length/\S=.int .i64 (i:Int)/\VRow d t5 (l.take i)/\(∀ k,t5.ownBlock=some k->w.heap.size<=k)/\Src d b (((l.drop i).map Zh).flatten++r) false/\Fr (fun k=>k=b) w d) (fun _ S _=>(l.length-intOf S).toNat)
 case atStart=>exact⟨0,by omega,rfl,⟨by simp[Zi],.inl ⟨rfl,rfl⟩⟩,fun k m=>by simp[Value.ownBlock] at m,T.out.1,T.out.2⟩
 case round =>
  obtain⟨i,hi,rfl,a,c,o,L⟩:=hrel;by_cases g:i<l.length
  .have e2:((l.drop i).map Zh).flatten++r=Zh l[i]++(((l.drop (i+1)).map Zh).flatten++r):=by
    rw[La g];simp only[NX,Lf,Mf]
   rw[e2] at o;have hx:=HL.out l[i] (NN g);have K:=Z hx;have X:=Z o;have Y:Hid (l.take (i+1)=l.take i++[l[i]]):=by
    show l.take (i+1)=_;rw[KD,NS g];rfl
   clear o e2 hx;generalize R:l[i]=x at K X Y;obtain⟨va,vc,s⟩:=zd a;rw[show(l.take i).length=i by simp;omega] at s;subst s;have HR:=Z a;have y:=Z c;have V:=Z L;clear a c L R;have M:(l.take i).length<1000000:=by simp;omega
   obtain⟨E,F,z,A,B,C,G,D⟩:=x;have HC:Hid (∀ u,Src u b (Zh ⟨E,F,z,A,B,C,G,D⟩++(((l.drop (i+1)).map Zh).flatten++r)) false->Calls Tryz.prog 152 #[.pointer (some ⟨b,0,none⟩)] u fun e d =>
    e=.returned (.agg #[.int .i64 E,.int .i64 F,.int .i64 z,.int .i64 A,.int .i64 B,.int .i64 C,.string G,.bool D])/\Read1 u b (((l.drop (i+1)).map Zh).flatten++r) d) :=
    fun u hs=>WT b ⟨E,F,z,A,B,C,G,D⟩ K.out.1 K.out.2 _ u hs
   go_wp2_with (first
    | (at_builtin;go_must (refine zJ rfl _ _ _ _ rfl _ _ (by rfl) (by rfl) (OU _ _ _ J.out ⟨E,F,z,A,B,C,G,D⟩ M _ (by repeat' first|(with_reducible exact O _ _)|(with_reducible refine Fr.alloc ?_ _)|(with_reducible refine Fr.set ?_ ?_ _)|(intro h;exact absurd h (by simp))) _ (by exact Blk.newAt _ [_,_,_,_,_,_,_,_] _ _ (by simp)) _) ?_);rintro v' w3 ⟨Q,q,N⟩)
    | (refine(HC.out _ X.out).mono ?_;rintro e w2 ⟨rfl,j,f⟩;have a1:=fun ob=>(Blk.alloc j ob).cell;have I:=Z (And.intro j f);have J:=Z (VRow.fr HR.out f (fun k m e=>by have:=y.out k m;omega));clear j f))
   refine⟨⟨i+1,by omega,by go_num,by rw[Y.out];exact Q,fun k m=>?_,?_,?_⟩,by simp[intOf];omega⟩
   .have:=V.out.size
    have:=I.out.2.size;rcases N k m with h1|h1
    .exact y.out k h1
    .omega
   .exact I.out.1.fr q (fun e=>by have:=y.out b e;omega)
   .exact(V.out.trans I.out.2).trans' q (fun k m e=>absurd (y.out k e) (by omega))
  .have hil:i=l.length:=by omega
   subst hil;go_wp2_with fail;go_ret;rw[Mt] at a;rw[JS] at o;exact⟨_,rfl,⟨a,c⟩,o,L⟩
def zl:Fact->List UInt8
 | .inl n=>zg 1++zg n
 | .inr (.inl x)=>zg 2++(zF x.1.data.toList++Zb x.2)
 | .inr (.inr (.inl x))=>zg 3++(zg x.1++zF x.2.data.toList)
 | .inr (.inr (.inr _))=>zg 4
theorem VK(f:Fact):zj f=zk (zz (zl f)):=by
 rcases f with n|x|x|x <;> rfl
def FRead(f:Fact):Prop:=FOk f/\match f with
 | .inr (.inl x)=>∀ v∈x.2,v.gone=false
 | _=>True
def XM(w:World)(b:Nat)(r:List UInt8)(f:Fact)(e:Ending)(c:World):Prop :=
 ∃ a,e=.returned a/\FRep c a f/\(∀ k,Xh a k->w.heap.size<=k)/\Read1 w b r c
theorem U9(b n:Nat)(r:List UInt8)(w:World)(h:Src w b (zg 1++(zg n++r)) false)(m:n<9223372036854775808) :
 Calls Tryz.prog 95 #[.pointer (some ⟨b,0,none⟩)] w fun e o=>XM w b r (.inl n) e o:=by
 have j:=Z h;clear h;go_enter Iv,Ih
 go_wp2_with (first
  | (refine(zp b n _ _ g.out.1 m).mono ?_;rintro e q ⟨rfl,f,c⟩;have i:=Z (And.intro f c);clear f c)
  | (refine(zp b 1 _ _ j.out (by omega)).mono ?_;rintro e p ⟨rfl,d,a⟩;have g:=Z (And.intro d a);clear d a))
 go_ret;exact⟨_,rfl,rfl,fun k l=>by simp[Xh,Value.ownBlock] at l,i.out.1,g.out.2.trans i.out.2⟩
theorem Ua(b:Nat)(r:List UInt8)(w:World)(h:Src w b (zg 4++r) false) :
 Calls Tryz.prog 95 #[.pointer (some ⟨b,0,none⟩)] w fun e i=>XM w b r (.inr (.inr (.inr ()))) e i:=by
 have f:=Z h;clear h;go_enter Iv,Ih
 go_wp2_with (refine(zp b 4 _ _ f.out (by omega)).mono ?_;rintro e j ⟨rfl,c,a⟩;have d:=Z (And.intro c a);clear c a)
 go_ret;exact⟨_,rfl,rfl,fun k g=>by simp[Xh] at g,d.out.1,d.out.2⟩
theorem VL(b l:Nat)(s:ByteArray)(r:List UInt8)(w:World)(h:Src w b (zg 3++(zg l++(zF s.data.toList++r))) false)(y:l<9223372036854775808)(z:s.size<1000000000) :
 Calls Tryz.prog 95 #[.pointer (some ⟨b,0,none⟩)] w fun e o=>XM w b r (.inr (.inr (.inl (l,s)))) e o:=by
 have u:=Z h;clear h;have m:s.data.toList.length<=1000000000:=by simpa using Ig z
 have v:Hid (∀ j,Src j b (zF s.data.toList++r) false->Calls Tryz.prog 150 #[.pointer (some ⟨b,0,none⟩)] j fun e o=>e=.returned (.string s)/\Read1 j b r o):=fun j A=>by
  have:=YR b s.data.toList r j A m
  rwa [XY] at this
 go_enter Iv,Ih
 go_wp2_with (first
  | (refine(v.out _ q.out.1).mono ?_;rintro e D ⟨rfl,i,d⟩;have t:=Z (And.intro i d);clear i d)
  | (refine(zp b l _ _ p.out.1 y).mono ?_;rintro e C ⟨rfl,g,c⟩;have q:=Z (And.intro g c);clear g c)
  | (refine(zp b 3 _ _ u.out (by omega)).mono ?_;rintro e B ⟨rfl,f,a⟩;have p:=Z (And.intro f a);clear f a))
 go_ret;exact⟨_,rfl,rfl,fun k x=>by simp[Xh,Value.ownBlock] at x,t.out.1,(p.out.2.trans q.out.2).trans t.out.2⟩
theorem Ub(b:Nat)(s:ByteArray)(l:List Ver)(r:List UInt8)(w:World)(h:Src w b (zg 2++(zF s.data.toList++(Zb l++r))) false)(I:s.size<1000000000)(A:Pq l)(u:l.length<1000000) :
 Calls Tryz.prog 95 #[.pointer (some ⟨b,0,none⟩)] w fun e y=>XM w b r (.inr (.inl (s,l))) e y:=by
 have E:=Z h;clear h;have x:s.data.toList.length<=1000000000:=by simpa using Ig I
 have G:Hid (∀ o,Src o b (zF s.data.toList++(Zb l++r)) false->Calls Tryz.prog 150 #[.pointer (some ⟨b,0,none⟩)] o fun e y=>e=.returned (.string s)/\Read1 o b (Zb l++r) y):=fun o J=>by
  have:=YR b s.data.toList _ o J x
  rwa [XY] at this
 have F:=Z A;clear A;go_enter Iv,Ih
 go_wp2_with (first
  | (refine(T1 b l r _ t.out.1 F.out u).mono ?_;rintro e R ⟨K,rfl,a,m,g⟩;obtain⟨L,M,rfl⟩:=zd a.1;have c:=Z a;have z:=Z (And.intro m g);clear m g a)
  | (refine(G.out _ q.out.1).mono ?_;rintro e Q ⟨rfl,j,f⟩;have t:=Z (And.intro j f);clear j f)
  | (refine(zp b 2 _ _ E.out (by omega)).mono ?_;rintro e N ⟨rfl,i,d⟩;have q:=Z (And.intro i d);clear i d))
 go_ret;have B:=q.out.2.size;have C:=t.out.2.size;refine⟨_,rfl,⟨_,rfl,c.out.1⟩,fun k p=>?_,z.out.1,(q.out.2.trans t.out.2).trans z.out.2⟩;obtain⟨v,D,p⟩:=p;simp at D;rcases D with rfl|rfl
 .simp[Value.ownBlock] at p
 .have:=c.out.2 k p;omega
theorem Uc(f:Fact)(a:FRead f)(b:Nat)(r:List UInt8)(w:World)(h:Src w b (zl f++r) false) :
 Calls Tryz.prog 95 #[.pointer (some ⟨b,0,none⟩)] w fun e g=>XM w b r f e g:=by
 rcases f with n|⟨s,l⟩|⟨d,s⟩|x
 .exact U9 b n r w (by simpa [zl] using h) a.1
 .exact Ub b s l r w (by simpa [zl] using h) a.1.2.2.1 (fun x c=>⟨a.1.1 x c,a.2 x c⟩) a.1.2.1
 .exact VL b d s r w (by simpa [zl] using h) a.1.1 a.1.2
 .exact Ua b r w (by simpa [zl] using h)
def OX(w:World)(b:Nat)(r:List UInt8)(f:Fact)(e:Ending)(c:World):Prop :=
 ∃ a,e=.returned (.tuple #[a,.bool true])/\FRep c a f/\(∀ k,Xh a k->w.heap.size<=k)/\Read1 w b r c
theorem Sp(f:Fact)(hf:FRead f)(b:Nat)(r:List UInt8)(w:World)(h:Src w b (zz (zl f)++r) false)(I:(zl f).length<9223372036854775808) :
 Calls Tryz.prog 191 #[.pointer (some ⟨b,0,none⟩),.func (.func 95) #[] #[]] w fun e w'=>OX w b r f e w':=by
 have Y:zz (zl f)++r=zg (zl f).length++(zl f++r):=by simp[zz]
 rw[Y] at h;have a0:=h.lt;have hc:=h.cell;have m:Src (w.alloc (.cells #[.string (zk (zg (zl f).length++(zl f++r))),.bool false] 276)) b (zg (zl f).length++(zl f++r)) false:=Blk.alloc h _;have l:Src (w.alloc (.cells #[.string (zk (zg (zl f).length++(zl f++r))),.bool false] 276)) w.heap.size (zg (zl f).length++(zl f++r)) false:=Blk.new w [_,_] _;have E:Fr Nil w (w.alloc (.cells #[.string (zk (zg (zl f).length++(zl f++r))),.bool false] 276)):=(O _ _).alloc _;have T:(w.alloc (.cells #[.string (zk (zg (zl f).length++(zl f++r))),.bool false] 276)).heap.size=w.heap.size+1:=by simp
 have HF:=Z hf;clear h Y hf;go_enter Tryz.func191,Tryz.ntmps191;go_wp2_with fail;generalize w.alloc (.cells #[.string (zk (zg (zl f).length++(zl f++r))),.bool false] 276)=W0 at m l E T |-;clear hc;refine(zp w.heap.size (zl f).length (zl f++r) W0 l I).mono ?_;rintro e w1 ⟨rfl,u,q⟩;have A:Src w1 b _ false:=Blk.fr m q (by omega);have a1:=q.size;go_wp2_with fail;refine(YK (zl f).length w.heap.size (zl f++r) false w1 u (by simp)).mono ?_;rintro e a ⟨rfl,c,s⟩;have B:Src a b _ false:=Blk.fr A s (by omega);have a2:=s.size;rw[KX] at c;rw[Jz];have d:=fun ob=>(Blk.alloc c ob).cell;go_wp2_with fail;have v:Src (a.alloc (.cells #[.string (zk (zl f)),.bool false] 276)) w.heap.size r false:=Blk.alloc c _;have C:Src (a.alloc (.cells #[.string (zk (zl f)),.bool false] 276)) b _ false:=Blk.alloc B _;have y:Src (a.alloc (.cells #[.string (zk (zl f)),.bool false] 276)) a.heap.size (zl f++[]) false:=by
  rw[MD];exact Blk.new a [_,_] _
 have t:Fr Nil w (a.alloc (.cells #[.string (zk (zl f)),.bool false] 276)) :=
  (E.trans' (q.trans s) (fun k G e=>by omega)).alloc _
 have V:(a.alloc (.cells #[.string (zk (zl f)),.bool false] 276)).heap.size=a.heap.size+1:=by simp
 generalize a.alloc (.cells #[.string (zk (zl f)),.bool false] 276)=W3 at v C y t V |-;clear d l u c m A B;refine(Uc f HF.out a.heap.size [] W3 y).mono ?_;rintro e X ⟨fv,rfl,J,j,z,g⟩;have x:Src X w.heap.size r false:=Blk.fr v g (by omega);have o:Src X b _ false:=Blk.fr C g (by omega);have R:=z.cell;have d:=x.cell;have D:=o.cell;have K:=o.frozen;have a3:=g.size;go_wp2_with fail;refine(WZ a.heap.size [] false X z).mono ?_;rintro e L ⟨rfl,i⟩;have M:Src L w.heap.size r false:=Blk.fr x i id;have p:Src L b _ false:=Blk.fr o i id;clear R d D K;have d:=M.cell;have D:=p.cell;have K:=p.frozen;go_wp2_with fail;go_ret2;have N:=t.trans' g (fun k G e=>by omega);have Q:Fr (fun k=>k=b) w L:=(N.trans i).mono (fun _ _ e=>absurd e id);have F:Fr (fun k=>k=b) L ((L.setCell ⟨b,0,none⟩ (.string (zk r))).setCell ⟨b,1,none⟩ (.bool false)):=Fr.set (S:=fun k=>k=b) (Fr.set (S:=fun k=>k=b) (O _ _) (fun _=>rfl) _) (fun _=>rfl) _;have a4:=t.size;exact⟨fv,rfl,(J.fr i (fun _ _=>id)).fr F (fun k G e=>by have:=j k G;omega),fun k G=>by have:=j k G;omega,(Blk.set p 0 _).set 1 _,Q.trans F⟩
theorem Pr(a b:List UInt8)(i:b<+:zz a)(d:b≠zz a):Ze 0 0 b=none\/∃ p,b=zg a.length++p/\p.length<a.length:=by
 unfold zz at i d;obtain⟨t,f⟩:=i;rcases Ls b.length (zg a.length).length with h|h
 .refine .inl (Qz a.length 0 0 b ?_ (fun e=>by rw[e] at h;omega))
  exact Km ⟨t,f⟩ (Ka _ _) (by omega)
 .have hpre:zg a.length<+:b:=Km (l₃:=zg a.length++a) (Ka _ _) ⟨t,f⟩ h
  obtain⟨p,rfl⟩:=hpre;refine .inr ⟨p,rfl,?_⟩;rw[Mf] at f;have g:=List.append_cancel_left f;have j:a.length=p.length+t.length:=by rw[<- g];simp
  rcases t with-| ⟨c,t⟩
  .rw[MD] at g;exact absurd (by rw[g]) d
  .simp at j;omega
def Sq(w:World)(e:Ending)(a:World):Prop:=e=.returned (.tuple #[.nilIface,.bool false])/\Fr Nil w a
theorem Sr(a:List UInt8)(b:Nat)(w:World)(h:Src w b a false)(l:Ze 0 0 a=none) :
 Calls Tryz.prog 191 #[.pointer (some ⟨b,0,none⟩),.func (.func 95) #[] #[]] w fun e s=>Sq w e s:=by
 have p:=h.cell;have c:Src (w.alloc (.cells #[.string (zk a),.bool false] 276)) w.heap.size a false:=Blk.new w [_,_] _;have d:Fr Nil w (w.alloc (.cells #[.string (zk a),.bool false] 276)):=(O _ _).alloc _;have m:=Z l;clear h l;go_enter Tryz.func191,Tryz.ntmps191;go_wp2_with fail;generalize w.alloc (.cells #[.string (zk a),.bool false] 276)=o at c d |-;clear p;refine(VJ w.heap.size a o c m.out).mono ?_;rintro e t ⟨rfl,f,i⟩;go_wp2_with fail;refine(YK 0 w.heap.size [] true t f (by simp)).mono ?_;rintro e v ⟨rfl,g,j⟩;have q:=fun r=>(Blk.alloc g r).cell;go_wp2_with fail;go_ret2;exact⟨rfl,(d.trans' (i.trans j) (fun k u e=>by omega)).alloc _⟩
theorem RE(n:Nat)(p:List UInt8)(b:Nat)(w:World)(h:Src w b (zg n++p) false)(o:n<9223372036854775808)(q:p.length<n) :
 Calls Tryz.prog 191 #[.pointer (some ⟨b,0,none⟩),.func (.func 95) #[] #[]] w fun e s=>Sq w e s:=by
 have l:=h.cell;have a:Src (w.alloc (.cells #[.string (zk (zg n++p)),.bool false] 276)) w.heap.size (zg n++p) false:=Blk.new w [_,_] _;have c:Fr Nil w (w.alloc (.cells #[.string (zk (zg n++p)),.bool false] 276)):=(O _ _).alloc _;clear h;go_enter Tryz.func191,Tryz.ntmps191;go_wp2_with fail;generalize w.alloc (.cells #[.string (zk (zg n++p)),.bool false] 276)=j at a c |-;clear l;refine(zp w.heap.size n p j a o).mono ?_;rintro e t ⟨rfl,d,g⟩;go_wp2_with fail;refine(Uq n w.heap.size p false t d q).mono ?_;rintro e v ⟨rfl,f,i⟩;have m:=fun r=>(Blk.alloc f r).cell;go_wp2_with fail;go_ret2;exact⟨rfl,(c.trans' (g.trans i) (fun k u e=>by omega)).alloc _⟩
theorem Ss(a c:List UInt8)(j:c<+:zz a)(d:c≠zz a)(g:a.length<9223372036854775808)(b:Nat)(w:World)(h:Src w b c false) :
 Calls Tryz.prog 191 #[.pointer (some ⟨b,0,none⟩),.func (.func 95) #[] #[]] w fun e k=>Sq w e k:=by
 rcases Pr a c j d with f|⟨p,rfl,i⟩
 .exact Sr c b w h f
 .exact RE a.length p b w h g i
theorem QG(a:List UInt8)(w:World) :
 Calls Tryz.prog 190 #[.string (zk a)] w fun e b=>e=.returned (.pointer (some ⟨w.heap.size,0,none⟩))/\b=w.alloc (.cells #[.string (zk a),.bool false] 276):=by
 go_enter Tryz.func190,Tryz.ntmps190
 go_wp2
 go_ret;exact⟨rfl,rfl⟩
def zx(a:List Fact):List UInt8:=(a.map fun f=>zz (zl f)).flatten
theorem OY(n:Nat):0<(zg n).length:=by
 by_cases h:n<128
 .rw[ZW h];simp
 .rw[Yg h];simp
theorem Vh(a:List UInt8):0<(zz a).length:=by
 have:=OY a.length;simp[zz];omega
def St(w:World)(s:Nat):Nat:=match w.cell? ⟨s,0,none⟩ with
 | some (.string x)=>x.size
 | _=>0
theorem Uy{w:World}{s:Nat}{b:List UInt8}{a:Bool}(h:Src w s b a):St w s=b.length:=by
 have:=h.cell 0;simp at this;simp[St,this,Qx]
theorem SRep.GM{w:World}{b s:Nat}{L:SL}{S:SM}{e:List UInt8}{c:Bool}(h:SRep w b L S)(a:Src w s e c):¬SFoot b L s/\¬SRead L s:=by
 refine⟨fun d=>?_,fun d=>?_⟩
 .rcases h.Hh d with h1|h1|h1
  .exact absurd (Ty.inj h1 (Blk.ty a)) (by decide)
  .exact absurd (Ty.inj h1 (Blk.ty a)) (by decide)
  .exact absurd (Ty.inj h1 (Blk.ty a)) (by decide)
 .exact absurd (Ty.inj (h.HZ d) (Blk.ty a)) (by decide)
theorem SRep.src{w g:World}{b s:Nat}{L:SL}{S:SM}{i:List UInt8}{a:Bool}(h:SRep w b L S)(d:Src w s i a)(f:Fr (fun k=>k=s) w g):SRep g b L S :=
 h.fr f (fun _ c e=>(h.GM d).1 (e▸c)) (fun _ c e=>(h.GM d).2 (e▸c))
theorem Su(b:List Fact)(I:∀ f∈b,FRead f/\(zl f).length<9223372036854775808)(a d:List UInt8)(ht:a<+:zz d)(M:a≠zz d)(hb:d.length<9223372036854775808)
 (u:Nat)(L:SL)(S:SM)(w:World)(h:SRep w u L S)
 (t:∀ i,((b.take i).foldl SM.enter S).keys.length<1099511627776/\((b.take i).foldl SM.enter S).hints.length<1000000) :
 Calls Tryz.prog 148 #[.string (zk (zx b++a)),.func (.func 95) #[] #[],.func (.func 96) #[.pointer (some ⟨u,0,none⟩)] #[]] w fun e z =>
  e=.returned (.int .i64 a.length)/\SStep w u L (b.foldl SM.enter S) (fun k=>w.heap.size<=k) z:=by
 have HH:=Z h;have B:=Z I;have s:=Z t;have T:=Z (And.intro ht (And.intro M hb));clear h I t ht M hb;go_enter Tryz.func148,Tryz.ntmps148;go_wp2_with fail;refine(QG _ w).mono ?_;rintro e w1 ⟨rfl,y⟩;have F:Fr Nil w w1:=by rw[y];exact(O _ _).alloc _
 have X:Src w1 w.heap.size (zx b++a) false:=by rw[y];exact Blk.new w [_,_] _
 clear y;go_wp2_with fail
 go_loopw [9] (fun _ z=>∃ (i:Nat) (A:SL),i<=b.length/\SRep z u A ((b.take i).foldl SM.enter S)/\Fr (SFoot u L) w z/\(∀ k,SFoot u A k->SFoot u L k\/w.heap.size<=k)/\(∀ k,SRead A k->SRead L k\/w.heap.size<=k)/\Src z w.heap.size (zx (b.drop i)++a) false) (fun _ z=>St z w.heap.size)
 case atStart=>exact⟨0,L,by omega,HH.out.nil F,F.mono (fun _ _ e=>absurd e id),fun k o=>.inl o,fun k o=>.inl o,X⟩
 case round =>
  obtain⟨i,A,hi,c,hF,J,Q,hS⟩:=hrel;have g:=Z (And.intro c (And.intro hF (And.intro J (And.intro Q hS))));clear c hF J Q hS;by_cases r:i<b.length
  .have hSi:Src wr w.heap.size (zz (zl b[i])++(zx (b.drop (i+1))++a)) false:=by
    have:=g.out.2.2.2.2;rw[La r] at this
    simpa only[zx,NX,Lf,Mf] using this
   go_wp2_with fail;refine(Sp b[i] (B.out _ (NN r)).1 w.heap.size _ wr hSi (B.out _ (NN r)).2).mono ?_;rintro e w2 ⟨fv,rfl,a0,N,D,j⟩;have m:=g.out.1.src g.out.2.2.2.2 j;have a1:=(m.GM D).1;go_wp2_with fail;refine(Yq b[i] fv u A _ w2 m a0 (s.out i).1 (s.out i).2).mono ?_;rintro e w3 ⟨rfl,V,x,C,K,R⟩;go_wp2_with fail;have a3:=g.out.2.1.size;have a2:=j.size;have E:Src w3 w.heap.size (zx (b.drop (i+1))++a) false:=Blk.fr D C a1;refine⟨⟨i+1,V,by omega,?_,?_,fun k o=>?_,fun k o=>?_,E⟩,?_⟩
   .rw[KD,NS r,MZ]
    exact x
   .refine(g.out.2.1.trans' j (fun k o e=>by omega)).trans' C (fun k o e=>?_)
    rcases g.out.2.2.1 k e with q|q
    .exact q
    .omega
   .rcases K k o with q|q
    .exact g.out.2.2.1 k q
    .exact .inr (by omega)
   .rcases R k o with q|q
    .exact g.out.2.2.2.1 k q
    .have:=N k q;exact .inr (by omega)
   .rw[Uy E,Uy hSi]
    have:=Vh (zl b[i]);simp only[NF];omega
  .have hil:i=b.length:=by omega
   subst hil;have l:=g.out.2.2.2.2;rw[JS] at l;have l:Src wr w.heap.size a false:=l;go_wp2_with fail;refine(Ss d a T.out.1 T.out.2.1 T.out.2.2 w.heap.size wr l).mono ?_;rintro e w2 ⟨rfl,j⟩;go_wp2_with fail;refine(WZ w.heap.size a false w2 (Blk.fr l j id)).mono ?_;rintro e w3 ⟨rfl,Y⟩;go_wp2_with fail;go_ret;have c:=g.out.1;rw[Mt] at c;have G:=(j.trans Y);exact⟨rfl,A,c.nil G,g.out.2.1.trans' G (fun k o e=>absurd e id),g.out.2.2.1,g.out.2.2.2.1⟩
theorem Ud(a:ByteArray)(f:Nat)(w:World)(b:Nat)(L:DL)(M:DM)(h:DRep w b L M)(l:M.dir.look a=some f) :
 Calls Tryz.prog 147 #[.pointer (some ⟨b,0,none⟩),.string a] w fun e r =>
  e=.returned (.tuple #[.string (zk (M.file f).bytes),.nilIface])/\Fr Nil w r:=by
 have j:M.size a=(((M.file f).bytes.length:Int),(0:Int)):=by simp[DM.size,l]
 have k:M.read a 0 (M.file f).bytes.length=(zk (M.file f).bytes,(0:Int)):=by
  simp only[DM.read,l];rw[Mg (by omega)];simp
 have o:=Z (fun d (fr:Fr Nil w d)=>by have:=Vr a d b L M (h.fr fr (fun _ _=>id));rw[j] at this;exact this);have m:=Z (fun d (fr:Fr Nil w d)=>by have:=Qj a 0 (M.file f).bytes.length d b L M (h.fr fr (fun _ _=>id));rw[k] at this;exact this);clear j k h;go_enter Tryz.func147,Tryz.ntmps147;go_wp2_with fail;refine(o.out w (O _ _)).mono ?_;rintro e s ⟨rfl,c⟩;go_wp2_with fail;refine(m.out s c).mono ?_;rintro e t ⟨rfl,g⟩;go_wp2_with fail;refine(Xg _ _ 0 t).mono ?_;rintro e u ⟨v,rfl,q,i⟩;obtain rfl:v=.nilIface:=q;go_wp2_with fail;go_ret2;exact⟨rfl,(c.trans g).trans i⟩
end Go.Proofs.YtkhnggkkiefcdaaGreatDoor
namespace Go.Proofs
open Go.Shelf
def Tryz.GI:Go.Shelf.Ren:=⟨fun|101=>221|208=>237|206=>250|n=>n,fun|9=>9|4=>4|3=>3|n=>n,fun|n=>n⟩
theorem Tryz.Fo:Go.Proofs.Lays.n101 Tryz.prog Tryz.GI:={
 mixed:=by kernel_rfl
 f101:=Tryz.func221.trans (congrArg some (by kernel_rfl))
 f206:=Tryz.func250.trans (congrArg some (by kernel_rfl))
 f208:=Tryz.func237.trans (congrArg some (by kernel_rfl))
 t3:=Tryz.underlying3
 a3:=Tryz.isAgg3
 z3:=Tryz.sizeOf3
 v3:=Tryz.zeroValue3
 t4:=Tryz.underlying4
 a4:=Tryz.isAgg4
 z4:=Tryz.sizeOf4
 v4:=Tryz.zeroValue4
 t9:=Tryz.underlying9
 a9:=Tryz.isAgg9
 z9:=Tryz.sizeOf9
 v9:=Tryz.zeroValue9}
def Tryz.Gl:Go.Shelf.Ren:=⟨fun|244=>235|247=>245|287=>252|321=>255|322=>256|n=>n,fun|9=>9|3=>3|75=>132|4=>4|5=>5|167=>333|37=>150|0=>0|85=>334|2=>2|53=>274|175=>342|46=>299|21=>21|80=>242|n=>n,fun|n=>n⟩
theorem Tryz.Fk:Go.Proofs.Lays.n244 Tryz.prog Tryz.Gl:={
 mixed:=by kernel_rfl
 f244:=Tryz.func235.trans (congrArg some (by kernel_rfl))
 f247:=Tryz.func245.trans (congrArg some (by kernel_rfl))
 f287:=Tryz.func252.trans (congrArg some (by kernel_rfl))
 f321:=Tryz.func255.trans (congrArg some (by kernel_rfl))
 f322:=Tryz.func256.trans (congrArg some (by kernel_rfl))
 t0:=Tryz.underlying0
 a0:=Tryz.isAgg0
 z0:=Tryz.sizeOf0
 v0:=Tryz.zeroValue0
 t2:=Tryz.underlying2
 a2:=Tryz.isAgg2
 z2:=Tryz.sizeOf2
 v2:=Tryz.zeroValue2
 t3:=Tryz.underlying3
 a3:=Tryz.isAgg3
 z3:=Tryz.sizeOf3
 v3:=Tryz.zeroValue3
 t4:=Tryz.underlying4
 a4:=Tryz.isAgg4
 z4:=Tryz.sizeOf4
 v4:=Tryz.zeroValue4
 t5:=Tryz.underlying5
 a5:=Tryz.isAgg5
 z5:=Tryz.sizeOf5
 v5:=Tryz.zeroValue5
 t9:=Tryz.underlying9
 a9:=Tryz.isAgg9
 z9:=Tryz.sizeOf9
 v9:=Tryz.zeroValue9
 t21:=Tryz.underlying21
 a21:=Tryz.isAgg21
 z21:=Tryz.sizeOf21
 v21:=Tryz.zeroValue21
 t37:=Tryz.underlying150
 a37:=Tryz.isAgg150
 z37:=Tryz.sizeOf150
 v37:=Tryz.zeroValue150
 t46:=Tryz.underlying299
 a46:=Tryz.isAgg299
 z46:=Tryz.sizeOf299
 v46:=Tryz.zeroValue299
 t53:=Tryz.underlying274
 a53:=Tryz.isAgg274
 z53:=Tryz.sizeOf274
 v53:=Tryz.zeroValue274
 t75:=Tryz.underlying132
 a75:=Tryz.isAgg132
 z75:=Tryz.sizeOf132
 v75:=Tryz.zeroValue132
 t85:=Tryz.underlying334
 a85:=Tryz.isAgg334
 z85:=Tryz.sizeOf334
 v85:=Tryz.zeroValue334
 t167:=Tryz.underlying333
 a167:=Tryz.isAgg333
 z167:=Tryz.sizeOf333
 v167:=Tryz.zeroValue333
 t175:=Tryz.underlying342
 a175:=Tryz.isAgg342
 z175:=Tryz.sizeOf342
 v175:=Tryz.zeroValue342}
def Tryz.GD:Go.Shelf.Ren:=⟨fun|172=>220|244=>235|245=>236|247=>245|279=>246|280=>247|281=>248|282=>249|287=>252|316=>125|171=>81|205=>253|321=>255|322=>256|243=>130|246=>165|283=>205|284=>206|285=>207|286=>208|129=>229|317=>228|318=>230|319=>231|320=>232|337=>242|338=>243|n=>n,fun|9=>9|3=>3|75=>132|76=>190|4=>4|5=>5|167=>333|37=>150|0=>0|85=>334|2=>2|168=>336|53=>274|175=>342|46=>299|210=>345|127=>240|145=>350|143=>348|21=>21|171=>293|173=>296|212=>322|51=>323|20=>20|213=>324|232=>340|233=>341|80=>242|n=>n,fun|15=>4|16=>5|17=>1|18=>2|19=>3|n=>n⟩
theorem Tryz.Fj:Go.Proofs.Lays.n172 Tryz.prog Tryz.GD:={
 mixed:=by kernel_rfl
 f129:=Tryz.func229.trans (congrArg some (by kernel_rfl))
 f171:=Tryz.func81.trans (congrArg some (by kernel_rfl))
 f172:=Tryz.func220.trans (congrArg some (by kernel_rfl))
 f205:=Tryz.func253.trans (congrArg some (by kernel_rfl))
 f243:=Tryz.func130.trans (congrArg some (by kernel_rfl))
 f244:=Tryz.func235.trans (congrArg some (by kernel_rfl))
 f245:=Tryz.func236.trans (congrArg some (by kernel_rfl))
 f246:=Tryz.func165.trans (congrArg some (by kernel_rfl))
 f247:=Tryz.func245.trans (congrArg some (by kernel_rfl))
 f279:=Tryz.func246.trans (congrArg some (by kernel_rfl))
 f280:=Tryz.func247.trans (congrArg some (by kernel_rfl))
 f281:=Tryz.func248.trans (congrArg some (by kernel_rfl))
 f282:=Tryz.func249.trans (congrArg some (by kernel_rfl))
 f283:=Tryz.func205.trans (congrArg some (by kernel_rfl))
 f284:=Tryz.func206.trans (congrArg some (by kernel_rfl))
 f285:=Tryz.func207.trans (congrArg some (by kernel_rfl))
 f286:=Tryz.func208.trans (congrArg some (by kernel_rfl))
 f287:=Tryz.func252.trans (congrArg some (by kernel_rfl))
 f316:=Tryz.func125.trans (congrArg some (by kernel_rfl))
 f317:=Tryz.func228.trans (congrArg some (by kernel_rfl))
 f318:=Tryz.func230.trans (congrArg some (by kernel_rfl))
 f319:=Tryz.func231.trans (congrArg some (by kernel_rfl))
 f320:=Tryz.func232.trans (congrArg some (by kernel_rfl))
 f321:=Tryz.func255.trans (congrArg some (by kernel_rfl))
 f322:=Tryz.func256.trans (congrArg some (by kernel_rfl))
 f337:=Tryz.func242.trans (congrArg some (by kernel_rfl))
 f338:=Tryz.func243.trans (congrArg some (by kernel_rfl))
 t0:=Tryz.underlying0
 a0:=Tryz.isAgg0
 z0:=Tryz.sizeOf0
 v0:=Tryz.zeroValue0
 t2:=Tryz.underlying2
 a2:=Tryz.isAgg2
 z2:=Tryz.sizeOf2
 v2:=Tryz.zeroValue2
 t3:=Tryz.underlying3
 a3:=Tryz.isAgg3
 z3:=Tryz.sizeOf3
 v3:=Tryz.zeroValue3
 t4:=Tryz.underlying4
 a4:=Tryz.isAgg4
 z4:=Tryz.sizeOf4
 v4:=Tryz.zeroValue4
 t5:=Tryz.underlying5
 a5:=Tryz.isAgg5
 z5:=Tryz.sizeOf5
 v5:=Tryz.zeroValue5
 t9:=Tryz.underlying9
 a9:=Tryz.isAgg9
 z9:=Tryz.sizeOf9
 v9:=Tryz.zeroValue9
 t20:=Tryz.underlying20
 a20:=Tryz.isAgg20
 z20:=Tryz.sizeOf20
 v20:=Tryz.zeroValue20
 t21:=Tryz.underlying21
 a21:=Tryz.isAgg21
 z21:=Tryz.sizeOf21
 v21:=Tryz.zeroValue21
 t37:=Tryz.underlying150
 a37:=Tryz.isAgg150
 z37:=Tryz.sizeOf150
 v37:=Tryz.zeroValue150
 t46:=Tryz.underlying299
 a46:=Tryz.isAgg299
 z46:=Tryz.sizeOf299
 v46:=Tryz.zeroValue299
 t51:=Tryz.underlying323
 a51:=Tryz.isAgg323
 z51:=Tryz.sizeOf323
 v51:=Tryz.zeroValue323
 t53:=Tryz.underlying274
 a53:=Tryz.isAgg274
 z53:=Tryz.sizeOf274
 v53:=Tryz.zeroValue274
 t75:=Tryz.underlying132
 a75:=Tryz.isAgg132
 z75:=Tryz.sizeOf132
 v75:=Tryz.zeroValue132
 t76:=Tryz.underlying190
 a76:=Tryz.isAgg190
 z76:=Tryz.sizeOf190
 v76:=Tryz.zeroValue190
 t85:=Tryz.underlying334
 a85:=Tryz.isAgg334
 z85:=Tryz.sizeOf334
 v85:=Tryz.zeroValue334
 t127:=Tryz.underlying240
 a127:=Tryz.isAgg240
 z127:=Tryz.sizeOf240
 v127:=Tryz.zeroValue240
 t143:=Tryz.underlying348
 a143:=Tryz.isAgg348
 z143:=Tryz.sizeOf348
 v143:=Tryz.zeroValue348
 t145:=Tryz.underlying350
 a145:=Tryz.isAgg350
 z145:=Tryz.sizeOf350
 v145:=Tryz.zeroValue350
 t167:=Tryz.underlying333
 a167:=Tryz.isAgg333
 z167:=Tryz.sizeOf333
 v167:=Tryz.zeroValue333
 t168:=Tryz.underlying336
 a168:=Tryz.isAgg336
 z168:=Tryz.sizeOf336
 v168:=Tryz.zeroValue336
 t171:=Tryz.underlying293
 a171:=Tryz.isAgg293
 z171:=Tryz.sizeOf293
 v171:=Tryz.zeroValue293
 t173:=Tryz.underlying296
 a173:=Tryz.isAgg296
 z173:=Tryz.sizeOf296
 v173:=Tryz.zeroValue296
 t175:=Tryz.underlying342
 a175:=Tryz.isAgg342
 z175:=Tryz.sizeOf342
 v175:=Tryz.zeroValue342
 t210:=Tryz.underlying345
 a210:=Tryz.isAgg345
 z210:=Tryz.sizeOf345
 v210:=Tryz.zeroValue345
 t212:=Tryz.underlying322
 a212:=Tryz.isAgg322
 z212:=Tryz.sizeOf322
 v212:=Tryz.zeroValue322
 t213:=Tryz.underlying324
 a213:=Tryz.isAgg324
 z213:=Tryz.sizeOf324
 t232:=Tryz.underlying340
 a232:=Tryz.isAgg340
 z232:=Tryz.sizeOf340
 v232:=Tryz.zeroValue340
 t233:=Tryz.underlying341
 a233:=Tryz.isAgg341
 z233:=Tryz.sizeOf341
 v233:=Tryz.zeroValue341
 g15:=by kernel_rfl
 g16:=by kernel_rfl
 g17:=by kernel_rfl
 g18:=by kernel_rfl
 g19:=by kernel_rfl}
end Go.Proofs
namespace Go.Proofs.YtkhnggkkiefcdaaGreatDoor
open Go.RowKit
set_option maxRecDepth 100000
set_option maxHeartbeats 8000000
theorem XN:∀(l r:List UInt8)(c:Nat),Lib.decFrom c (l++r)=(Lib.decFrom c l).bind fun a=>Lib.decFrom a r
 | [],_,_=>rfl
 | b::l,r,c=>by
  simp only[MA,Lib.decFrom];cases Lib.digitVal b with
  | none=>rfl
  | some d=>exact XN l r _
theorem V3(d:Nat)(h:d<10):Lib.digitVal (UInt8.ofNat (48+d))=some d:=by
 have e:(UInt8.ofNat (48+d)).toNat=48+d:=by simp;omega
 unfold Lib.digitVal;rw[e,Mg (by omega)]
 congr 1
 omega
theorem Ue(n:Nat):Lib.decFrom 0 (Lib.decDigits n)=some n:=by
 induction n using Nat.strongRecOn with
 | ind n a =>
  rw[Lib.decDigits];by_cases h:n<10
  .rw[IF h]
   simp only[Lib.decFrom,V3 n h]
   congr 1
   omega
  .rw[dif_neg h,XN,a (n / 10) (by omega)]
   simp only[Jg,Lib.decFrom,V3 (n%10) (by omega)]
   congr 1
   omega
theorem V4(n:Nat):∃ b r,Lib.decDigits n=b::r/\48<=b.toNat/\b.toNat<=57:=by
 induction n using Nat.strongRecOn with
 | ind n d =>
  rw[Lib.decDigits];by_cases h:n<10
  .rw[IF h]
   have e:(UInt8.ofNat (48+n)).toNat=48+n:=by simp;omega
   exact⟨_,[],rfl,by rw[e];omega,by rw[e];omega⟩
  .rw[dif_neg h]
   obtain⟨b,r,e,a,c⟩:=d (n / 10) (by omega);rw[e];exact⟨b,_,rfl,a,c⟩
theorem XZ:∀(k n:Nat),n<10^(k+1)->(Lib.decDigits n).length<=k+1
 | 0,n,h=>by rw[Lib.decDigits,IF (by simpa using h)];simp
 | k+1,n,h=>by
  rw[Lib.decDigits];by_cases a:n<10
  .rw[IF a];simp
  .rw[dif_neg a]
   have:=XZ k (n / 10) (by rw[ID] at h;omega);simp;omega
theorem RF(n:Nat):Lib.atoi (Lib.decDigits n)=some (n:Int):=by
 have c:=Ue n;obtain⟨b,r,e,a,g⟩:=V4 n;rw[e] at c |-;have d:(b==45)=false:=by
  rw[Ml];rintro rfl;simp at a
 have f:(b==43)=false:=by
  rw[Ml];rintro rfl;simp at a
 simp only[Lib.atoi,d,f,Lib.decNat,List.isEmpty_cons,c]
 rfl
theorem YZ(n:Nat):(zu n).data.toList=Lib.decDigits n:=by
 simp[zu,Lib.itoa]
theorem VM(s p:ByteArray)(w:World) :
 Calls Tryz.prog 221 #[.string s,.string p] w fun e a=>e=.returned (.string ⟨(Lib.trimPrefix s.data.toList p.data.toList).toArray⟩)/\a=w:=Any.strings_TrimPrefix Tryz.Fo s p w
theorem Ps(s:ByteArray)(n:Int)(b:s.size<=18)(h:Lib.atoi s.data.toList=some n)(w:World) :
 Calls Tryz.prog 220 #[.string s] w fun e a=>e=.returned (.tuple #[.int .i64 n,.nilIface])/\Fr Nil w a:=by
 refine IA (show Calls Tryz.prog 220 #[.string s] w _ from Any.strconv_Atoi Tryz.Fj s n b h w) ?_;rintro e a ⟨rfl,t,rfl⟩;exact⟨rfl,Fr.Hz (Lib.bytesWorld_below _ _ _)⟩
theorem Oo(c:ByteArray)(n:Nat):Lib.trimPrefix (ze c n).data.toList c.data.toList=Lib.decDigits n:=by
 have e:(ze c n).data.toList=c.data.toList++Lib.decDigits n:=by
  simp only[ze,Kd,LO,YZ]
 have d:∀ (a b:List UInt8),Lib.hasPrefix (a++b) a=true:=by
  intro a b;unfold Lib.hasPrefix;simp
 unfold Lib.trimPrefix;rw[e,d];simp
theorem Sv(a:ByteArray)(b:a.size<=1000)(n:Nat)(u:1<=n)(p:n<10^18)(w:World)(q:∀ i,Fr Nil w i->Tab i) :
 Calls Tryz.prog 185 #[.string a,.string (ze a n)] w fun e i=>e=.returned (.int .i64 n)/\Fr Nil w i:=by
 have t:n<1000000000000000000:=p;have h:=Z (VM (ze a n) a w);rw[Oo] at h;have o:(⟨(Lib.decDigits n).toArray⟩:ByteArray).size<=18:=XZ 17 n p;have l:=Z (fun g=>Ps ⟨(Lib.decDigits n).toArray⟩ n o (by simpa using RF n) g);have m:=Z (fun g (f:Fr Nil w g)=>Wz a b n (by omega) g (q g f));have r:¬(n:Int)<1:=by omega
 clear o q;generalize ze a n=s at h m |-;generalize (⟨(Lib.decDigits n).toArray⟩:ByteArray)=d at h l;go_enter Tryz.func185,Tryz.ntmps185;go_wp2_with fail;refine h.out.mono ?_;rintro e v ⟨rfl,k⟩;subst k;go_wp2_with fail;refine(l.out _).mono ?_;rintro e x ⟨rfl,c⟩;go_wp2_with fail;refine(m.out _ c).mono ?_;rintro e y ⟨rfl,j⟩;go_wp2_with fail;go_ret;exact⟨rfl,c.trans j⟩
def Ys(w:World):Prop:=4<w.heap.size/\∃ b a,w.cell? ⟨4,0,none⟩=some (.iface b a)
theorem Ys.fr{w w':World}{S:Nat->Prop}(h:Ys w)(f:Fr S w w')(e:¬S 4):Ys w':=by
 obtain⟨a,i,g,c⟩:=h;exact⟨MT a f.size,i,g,(f.cell (p:=⟨4,0,none⟩) a e).trans c⟩
theorem WU(c s:ByteArray)(u:s.size<=1000000000)(w:World)(d:Ys w) :
 Calls Tryz.prog 246 #[.string c,.string s] w fun e g=>∃ k,e=.returned (.pointer (some ⟨k,0,none⟩))/\Fr Nil w g:=by
 have l:=Z (fun a (f:Fr Nil w a)=>show Calls Tryz.prog 125 #[.string s] a fun e g=>e=.returned (.string s)/\Fr Nil w g from
  (AnyPu.stringslite_Clone Tryz.GE s a (by omega)).mono fun e g ⟨r,o⟩=>⟨r,f.trans (Fr.Hz o)⟩)
 obtain⟨t,j,i,b⟩:=d;have m:Hid (∀ a,Fr Nil w a->a.cell? ⟨4,0,none⟩=some (.iface j i)):=fun a f=>(f.cell (p:=⟨4,0,none⟩) t id).trans b;go_enter Tryz.func246,Tryz.ntmps246;go_wp2_with fail
 go_region_held3 (fun a=>a.cell? ⟨4,0,none⟩=some (.iface j i)) (first|assumption|go_keep) (first|(go_at_call 125;refine(l.out _ z8).mono ?_;rintro e v ⟨rfl,h⟩;have q:=m.out _ h))
 all_goals
  go_wp2
  go_ret;exact⟨_,rfl,z8⟩
theorem T4(c s:ByteArray)(l:s.size<=1000000000)(w:World)(a:Ys w)(T:TypeId)(g:T=Tryz.Gl.t 167) :
 Calls Tryz.prog 236 #[.string c,.string s,.int .i64 0,.int .i64 0,.iface T (.int .i64 2)] w fun e m=>∃ k,e=.returned (.iface 336 (.pointer (some ⟨k,0,none⟩)))/\Fr Nil w m:=by
 have b:T=333:=by rw[g];rfl
 subst b;clear g;have i:=Z (fun h (f:Fr Nil w h)=>WU c s l h (a.fr f id));have j:∀ W,(binOp .eql 132 (.iface 333 (.int .i64 2)) (.iface 333 (.int .i64 2))).run Tryz.prog W=.ok (.bool true) W:=fun W=>Lib.run_eql_iface_int W 2 2 Tryz.underlying132 (by kernel_rfl) Tryz.underlying333;go_enter Tryz.func236,Tryz.ntmps236;go_wp2_with fail;refine(i.out w (O _ _)).mono ?_;rintro e o ⟨k,rfl,d⟩;go_wp2_with fail;go_ret;exact⟨k,rfl,d⟩
theorem Pt(s:ByteArray)(l:s.size<=18)(h:Lib.atoi s.data.toList=none)(w:World)(a:Ys w) :
 Calls Tryz.prog 220 #[.string s] w fun e c=>∃ k,e=.returned (.tuple #[.int .i64 0,.iface 336 (.pointer (some ⟨k,0,none⟩))])/\Fr Nil w c:=by
 have j:Hid (Calls Tryz.prog 235 #[.string s] w fun e c=>e=.returned (.tuple #[.int .i64 0,.iface 333 (.int .i64 2)])/\Fr Nil w c):=by
  refine IA (show Calls Tryz.prog 235 #[.string s] w _ from Any.internal_strconv_Atoi_fail Tryz.Fk s l h w) ?_;rintro e c ⟨rfl,rfl|⟨t,rfl⟩⟩
  .exact⟨rfl,O _ _⟩
  .exact⟨rfl,Fr.Hz (Lib.bytesWorld_below _ _ _)⟩
 have i:=Z (fun g (f:Fr Nil w g)=>T4 ⟨#[65,116,111,105]⟩ s (by omega) g (a.fr f id) 333 rfl);clear a h;go_enter Tryz.func220,Tryz.ntmps220;go_wp2_with fail;refine j.out.mono ?_;rintro e m ⟨rfl,b⟩;go_wp2_with fail;refine(i.out m b).mono ?_;rintro e o ⟨k,rfl,d⟩;go_wp2_with fail;go_ret2;exact⟨k,rfl,b.trans d⟩
theorem XO(b a:ByteArray)(j:Lib.hasPrefix a.data.toList b.data.toList=false)(m:a.size<=18)(h:Lib.atoi a.data.toList=none)(w:World)(c:Ys w) :
 Calls Tryz.prog 185 #[.string b,.string a] w fun e o=>e=.returned (.int .i64 0)/\Fr Nil w o:=by
 have g:=Z (VM a b w);have i:(⟨(Lib.trimPrefix a.data.toList b.data.toList).toArray⟩:ByteArray)=a:=by
  unfold Lib.trimPrefix;rw[j]
  apply Jj
  simp
 rw[i] at g;have l:=Z (Pt a m h w c);clear i c h j;go_enter Tryz.func185,Tryz.ntmps185;go_wp2_with fail;refine g.out.mono ?_;rintro e q ⟨rfl,f⟩;subst f;go_wp2_with fail;refine l.out.mono ?_;rintro e r ⟨k,rfl,d⟩;go_wp2_with fail;go_ret;exact⟨rfl,d⟩
end Go.Proofs.YtkhnggkkiefcdaaGreatDoor
