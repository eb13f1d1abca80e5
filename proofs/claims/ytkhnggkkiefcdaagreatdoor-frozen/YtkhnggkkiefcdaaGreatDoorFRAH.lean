/- larder: joined texts -/
import Derived.Test.YtkhnggkkiefcdaaGreatDoorFRAC
import Derived.Test.YtkhnggkkiefcdaaGreatDoorFRAD
import Derived.Test.YtkhnggkkiefcdaaGreatDoorFRAE
import Derived.Test.YtkhnggkkiefcdaaGreatDoorFRAF
import Derived.Test.YtkhnggkkiefcdaaGreatDoorFRAG
import Derived.Maps.AppendAt
import Derived.Laws.Rows
import Derived.Shelf.Strconv.AtoiFail
import Derived.Shelf.Strconv.Atoi
import Derived.Shelf.Strings.Prefix
import Derived.Ground.NamesProg
import Derived.Lib.AtoiErrMem
import Derived.Lib.IfaceEq
namespace Go.Proofs.YtkhnggkkiefcdaaGreatDoor
open Go.RowKit Go.Shelf
set_option maxRecDepth 100000
set_option maxHeartbeats 8000000
attribute [local go_sem] LW
abbrev Jr:=@Go.OwnFrom.and
abbrev JA:=@Go.callsIn_of_wp_marks
abbrev JX:=@Go.Boxed.new
abbrev JY:=@Go.run_takeDeferred
abbrev IJ:=@Go.Own.from
theorem QG(b:Nat)(a:Option Addr)(n c:Nat)(w:World)(f:w.cell? ⟨b,0,none⟩=some (.slice a n c)) :
 Calls Tryz.prog 134 #[.pointer (some ⟨b,0,none⟩)] w fun e d=>e=.returned (.int .i64 n)/\d=w:=by
 go_enter Tryz.func134,Tryz.ntmps134
 go_wp2
 go_ret;exact⟨rfl,rfl⟩
theorem St{w:World}{base:Nat}{e:TypeId}{size n:Nat}{v:Value}{c:List Value}(h:w.ownsRow base e size v n c):w.ownsRow 0 e size v n c:=by
 refine⟨h.1,?_⟩;rcases h.2 with d|⟨g,a,b,f,i,r⟩
 .exact .inl d
 .exact .inr ⟨g,a,b,f,Me _,r⟩
theorem RD(j:Nat)(v:Value)(g:List (ByteArray × Value))(w:World)(I:w.cell? ⟨j,0,none⟩=some v)(a9:j<w.heap.size)(hv:YS w v g)(G:∀ e∈g,∃ a m c,e.2=.slice a m c)(R:g.length<1000000000) :
 Calls Tryz.prog 143 #[.pointer (some ⟨j,0,none⟩)] w fun e w'=>∃ C,e=.returned C/\w'.ownsRow 0 9 1 C g.length (strs (zm g))/\Fr Nil w w'/\(∀ k,C.ownBlock=some k->w.heap.size<=k):=by
 obtain⟨a0,c0,b3⟩:=zd hv.own;have HL:=Z (QG j a0 g.length c0 w (by rw[I,b3]));refine(Lm (n:=8)).1 ?_;refine JA Tryz.func143 rfl trivial ?_ rfl;simp only[Tryz.ntmps143,LU,Mh,ME,Nat.reduceAdd,Nat.reduceSub,Km,Kn,KH,Ku,LB,MJ];obtain⟨ti,tz,X,Y,a1,a2,b1⟩:=Zr XZ;have HV:=Z hv;have a4:=Z I;clear hv I
 gi_wp2_with (first
  | (refine⟨trivial,?_⟩;gi_at_call 134;refine(Lm.2 HL.out).mono ?_;rintro e w1 ⟨rfl,b8⟩;subst w1)
  | (gi_at_make;refine wpListIn_make_own _ rfl _ _ 91 rfl w.heap.size 9 ti tz 1 KF X Y a1 .i64 .i64 g.length g.length rfl rfl rfl (by rw[a2];omega) (by unfold maxLen;omega) (NS _) ?_;intro i s f))
 refine⟨trivial,?_⟩;refine(Lm.2 (Qt j _)).mono ?_;rintro e w3 ⟨rfl,rfl⟩;have V:=f.size;have bO:=JX i 91 (.slice (some ⟨w.heap.size,0,none⟩) 0 g.length);have bM:=JX (i.alloc (.cells #[.slice (some ⟨w.heap.size,0,none⟩) 0 g.length] 91)) 236 (.pointer (some ⟨j,0,none⟩));rw[Jj] at bM;have u:Below w.heap.size w ((i.alloc (.cells #[.slice (some ⟨w.heap.size,0,none⟩) 0 g.length] 91)).alloc (.cells #[.pointer (some ⟨j,0,none⟩)] 236)) :=
  ((Below.grown (Ij _ w) f (NS _) (fun k e=>by cases e)).alloc V _).alloc (by simp;omega) _
 have t:=(s.alloc (.cells #[.slice (some ⟨w.heap.size,0,none⟩) 0 g.length] 91)).alloc (.cells #[.pointer (some ⟨j,0,none⟩)] 236);generalize F:(i.alloc (.cells #[.slice (some ⟨w.heap.size,0,none⟩) 0 g.length] 91)).alloc (.cells #[.pointer (some ⟨j,0,none⟩)] 236)=W0 at u t bM;have b7:W0.heap.size=i.heap.size+2:=by rw[<- F];simp
 have a5:Boxed W0 i.heap.size 91 (.slice (some ⟨w.heap.size,0,none⟩) 0 g.length):=by rw[<- F];exact bO.alloc _
 clear F bO f s
 gi_wp2_with fail
 refine wpIn_rangeFunc_ownF rfl (by decide) (gf:=217) (lb:=#[.pointer (some ⟨i.heap.size+1,0,none⟩)]) rfl trivial (Jn Tryz.func217 (by kernel_rfl) rfl)
  (Qu Fence.wide 7 trivial rfl (by decide) (i.heap.size+1) j v g (fun k=>k<w.heap.size\/k=i.heap.size+1) W0 (by omega) (fun k q=>by omega) (by omega) (by omega) (fun k q=>.inl (Z2 HV.out.own q)) G bM.cell ((u.cell (p:=⟨j,0,none⟩) a9).trans a4.out) (za HV.out.own (Fr.Ge (S:=Nil) u) (fun _ _=>id)))
  KpX.trans (KpX.put (fun k q=>by omega)) (Ij _ _) (fun _=>rfl)
  (fun b W=>(∃ C,Boxed W i.heap.size 91 C/\W.ownsRow w.heap.size 9 1 C b.length (strs (b.map Prod.fst))/\True)/\Below w.heap.size w W/\W0.heap.size<=W.heap.size/\Boxed W (i.heap.size+1) 236 (.pointer (some ⟨j,0,none⟩)))
  (fun _ _ _=>False)
  (Jr (IJ (holdsRow_own w.heap.size i.heap.size 91 9 1 (fun b:List (ByteArray × Value)=>b.length) (fun b=>strs (b.map Prod.fst)) (fun _ _=>True)) _) (Jr (ownFrom_below (by omega) (by omega)) (Jr (fun _ A B row hs hg _=>NR hs hg.size) (IJ (boxed_own _ _ _) _))))
  (fun _ _ _ _ _ hs _ _=>hs)
  ⟨⟨_,a5,t,trivial⟩,u,NS _,bM⟩
  (fun x=>{tmps:=#[.pointer (some ⟨j,0,none⟩),undef,.slice none 0 0,.pointer (some ⟨i.heap.size,0,none⟩),.string x.1,.pointer (some ⟨j,0,none⟩),.int .i64 g.length,.slice (some ⟨w.heap.size,0,none⟩) 0 g.length,.pointer (some ⟨j,0,none⟩),.func (.func 217) #[] #[.pointer (some ⟨i.heap.size+1,0,none⟩)],.string x.1,x.2,undef,undef,undef,undef,undef],defers:=[]}) ?assign ?body ?done ?stop
 case assign =>
  intro l x W K Q
  gi_wp2
  exact Q
 case body =>
  rintro l b x W ⟨⟨C,L,d,_⟩,N,T,z⟩ R;have hc:=L.cell;have hf:=L.frozen;have a8:b.length<1000000000:=by omega
  gi_wp2_with (gi_at_builtin;go_must (refine wpListIn_append_own _ rfl _ _ 91 rfl w.heap.size 9 ti tz 1 16 KF X Y a1 a2 b1 (by decide) _ _ _ rfl (d.alloc _) ⟨W.heap.size,0,none⟩ 1 1 [.string x.1] rfl rfl (IG _ _ _) (by simp[Value.oneCell']) (by unfold maxLen;omega) (by omega) (by have:=N.size;simp;omega) ?_;intro v1 w1 r o _;obtain⟨g',M,rfl⟩:=ownsRow_succ r;obtain⟨a3,b2,b0,a7,y⟩:=L.appended (by decide) d N.size (by omega) r o;have b4:=o.block (i.heap.size+1) (by simp;omega) (z.not_row (by decide) d);have b5:=a3.cell;have b6:=a3.frozen))
  have E:Boxed (w1.setCell ⟨i.heap.size,0,none⟩ (.slice (some ⟨g',0,none⟩) (b.length+1) M)) (i.heap.size+1) 236 (.pointer (some ⟨j,0,none⟩)):=Boxed.other (show Boxed w1 _ _ _ from b4.trans ((z.alloc _))) (by omega) _;refine⟨a7,⟨fun k q=>?_,y.size⟩,⟨_,b2,by simpa [strs] using b0,trivial⟩,N.trans y,NR T y.size,E⟩;rcases q with q|q
  .exact y.block k q
  .subst q
   exact Eq.trans (show _=_ from E) (Eq.symm (show _=_ from z))
 case done =>
  rintro D ys W hD rfl ⟨⟨C,L,d,_⟩,N,T,z⟩ Q;have hc:=L.cell
  gi_wp2_with fail
  refine⟨by simp,.inl ⟨_,_,rfl,JY Q,?_⟩⟩;have a6:Below w.heap.size w (W.putObj D (.deferred none)):=N.trans (belowK_b (w:=w) (NS _) W D _ _ (by omega) Q rfl rfl);have J:=ownsRow_putObj d (.deferred none) Q rfl;refine⟨_,results_tmp rfl _ _ _,_,rfl,St (base:=w.heap.size) ?_,Fr.Ge a6,?_⟩
  .exact J
  .exact(fun k q=>(d.lt k q).1:∀ k,C.ownBlock=some k->w.heap.size<=k)
 case stop =>
  rintro D c b W _ _ h _;exact h.elim
theorem RE(b:Nat)(L:SL)(S:SM)(w:World)(h:SRep w b L S)(g:S.keys.length<1000000000) :
 Calls Tryz.prog 92 #[.pointer (some ⟨b,0,none⟩)] w fun e i=>∃ f,e=.returned f/\i.ownsRow 0 9 1 f S.keys.length (strs (S.keys.map Prod.fst))/\Fr Nil w i/\(∀ k,f.ownBlock=some k->w.heap.size<=k):=by
 have d:L.Gi.length=S.keys.length:=h.pair.length;have m:=Z (RD b L.kv L.Gi w (h.IR.cell 0) h.IR.lt h.GT (fun e s=>by obtain⟨l,u⟩:=h.pair.mem e s;obtain⟨a,c,t⟩:=zd u;exact⟨a,_,c,t⟩) (by omega));have j:=Z h.pair.keys;have o:=Z d;clear h d;go_enter Tryz.func92,Tryz.ntmps92
 go_wp2_with (refine m.out.mono ?_;rintro e v ⟨f,rfl,p,q,r⟩)
 go_ret;exact⟨f,rfl,by rw[<- o.out,<- j.out];exact p,q,r⟩
theorem QH(L:NL)(N:NM)(M:DM)(w:World)(h:NRep w L N M)(a:N.S.keys.length<1000000000) :
 Calls Tryz.prog 44 #[.pointer (some ⟨L.nb,0,none⟩)] w fun e c=>∃ b,e=.returned b/\c.ownsRow 0 9 1 b N.S.keys.length (strs (N.S.keys.map Prod.fst))/\Fr Nil w c/\(∀ k,b.ownBlock=some k->w.heap.size<=k):=by
 have j:w.cell? ⟨L.nb,2,none⟩=some (.pointer (some ⟨L.sb,0,none⟩)):=h.IR.cell 2;have d:=Z (RE L.sb L.LS N.S w h.held a);clear h;go_enter Tryz.func44,Tryz.ntmps44
 go_wp2_with (refine d.out.mono ?_;rintro e l ⟨b,rfl,f,g,i⟩)
 go_ret;exact⟨b,rfl,f,g,i⟩
end Go.Proofs.YtkhnggkkiefcdaaGreatDoor
namespace Go.Proofs.YtkhnggkkiefcdaaGreatDoor
open Go.RowKit
set_option maxRecDepth 100000
set_option maxHeartbeats 8000000
def LM.putV(m:LM)(a b:ByteArray)(c:Int):Ver :=
 ⟨m.node,c,grV (YZ m.keys a) 0,grV (YZ m.keys a) 1,grV (YZ m.keys a) 2,grV (YZ m.keys a) 3,b,false⟩
def LM.put(m:LM)(b a:ByteArray)(c:Int):LM:={m with keys:=Z0 m.keys b [m.putV b a c]}
def LM.hint(m:LM)(b:Nat)(a:ByteArray):LM:={m with hints:=m.hints++[(b,a)]}
structure BK where
 vs:List Value
 vm:List Nat
 ns:List Value
 nm:List Nat
 hs:List Value
 hm:List Nat
structure WM where
 node:Int
 room:Int
 Ef:Int
 sync:Int
 Hp:Bool
 broken:Bool
 every:Int
 writes:Nat
 calls:Nat
 most:Nat
 Hy:Int
 base:Nat
 next:Nat
 st:List LM
 bk:BK
def WM.due(W:WM):Bool:=decide (0<W.every)&&decide ((W.writes:Int).tmod W.every=0)
def WM.Hv(W:WM)(m:LM):WM :=
 let a:={W with st:=W.st++[m],writes:=W.writes+1}
 if a.due then {a with st:=a.st.drop (a.st.length-1)} else a
theorem NJ(l:List (Nat × ByteArray)):∀ (k:Nat)(h:k<l.length),(Z8 l)[k*2]?=some (.int .i64 l[k].1)/\(Z8 l)[k*2+1]?=some (.string l[k].2):=by
 induction l with
 | nil=>intro k h;exact absurd h (MA _)
 | cons a l c =>
  intro k h;cases k with
  | zero=>exact⟨rfl,rfl⟩
  | succ k =>
   have:=c k (by simpa using h);exact⟨by rw[<- (show(Z8 (a::l))[(k+1)*2]?=(Z8 l)[k*2]? by rw[show(k+1)*2=k*2+2 from by omega];rfl)] at this;exact this.1,by have b:=this.2;rw[<- (show(Z8 (a::l))[(k+1)*2+1]?=(Z8 l)[k*2+1]? by rw[show(k+1)*2+1=k*2+1+2 from by omega];rfl)] at b;exact b⟩
def TL(a b:Ver):Bool:=(decide (a.o0=b.o0)&&decide (a.o1=b.o1)&&decide (a.o2=b.o2)&&decide (a.o3=b.o3))&&(decide (a.node=b.node)&&(decide (a.seq=b.seq)&&(a.value.toList==b.value.toList&&(a.gone==b.gone))))
theorem Xv(a b:Ver):TL a b=true↔a=b:=by
 obtain⟨n,s,d,e,f,i,x,g⟩:=a;obtain⟨c,q,j,k,o,p,y,h⟩:=b;simp only[TL,Ln,Ms,beq_iff_eq,Ver.mk.injEq]
 constructor
 .rintro⟨⟨⟨⟨h0,h1⟩,h2⟩,h3⟩,h4,h5,h6,h7⟩
  exact⟨h4,h5,h0,h1,h2,h3,YY h6,h7⟩
 .rintro⟨h4,h5,h0,h1,h2,h3,h6,h7⟩
  exact⟨⟨⟨⟨h0,h1⟩,h2⟩,h3⟩,h4,h5,by rw[h6],h7⟩
def Y6(c:Int):Int:=if c<0 then 1152921504606846976 else c
def WM.IP(a e g h:Int)(c:Nat):WM:=⟨a,e,g,h,false,false,0,0,0,0,0,c,0,[⟨a,[],[]⟩],⟨[],[],[],[],[],[]⟩⟩
theorem OZ:((Tryz.prog.info? 3).map fun i=>(i.zero.map (·.cells.size),i.size,i.bytes))=some (some 1,1,8):=by kernel_rfl
theorem N0{t e:TypeId}{a:Nat}(C:Tryz.prog.underlying t=some (.slice e))(y:((Tryz.prog.info? e).map fun i=>(i.zero.map (·.cells.size),i.size,i.bytes))=some (some 1,1,a))(m:a<=24)
 (w:World)(v:Value)(n:Nat)(q:List Value)(h:w.ownsRow 0 e 1 v n q)(x:Value)(r:x.oneCell'=true)(D:n<1000000000)(g:World)(o:Fr Nil w g)(N:Nat)(z:Blk g N [x] e)(ty:TypeId) :
 ∃ c d,(Builtin.append_ #[t,t] ty #[v,.slice (some ⟨N,0,none⟩) 1 1]).run Tryz.prog g=.ok c d /\
  (d.ownsRow 0 e 1 c (n+1) (q++[x])/\Fr (fun k=>v.ownBlock=some k) w d/\(∀ k,c.ownBlock=some k->v.ownBlock=some k\/w.heap.size<=k)):=by
 have A:=za h o (fun _ _=>id);obtain⟨c,d,B,l,s,b⟩:=zn (P:=Tryz.prog) t ty e 1 a C y (by omega) v n q A ⟨N,0,none⟩ 1 1 [x] rfl
  (fun j u f=>by rw[MK,MD,z.cell];exact f) (by intro u f;simp at f;subst f;exact r) (by unfold maxLen;omega) (NR (Nat.mul_le_mul_left _ m) (by omega))
 refine⟨c,d,B,l,(o.mono (fun _ _ e=>absurd e id)).trans' ((Fr.Ho s).mono (fun i _ h=>h)) (fun i _ h=>h),fun k p=>?_⟩;rcases b with b|b
 .exact .inl (by rw[<- b];exact p)
 .rw[b] at p;simp at p;have:=o.size;exact .inr (by omega)
theorem zp(b n:Nat)(r:List UInt8)(w:World)(h:Src w b (zg n++r) false)(d:n<9223372036854775808) :
 Calls Tryz.prog 149 #[.pointer (some ⟨b,0,none⟩)] w fun e a=>e=.returned (.int .i64 n)/\Src a b r false/\Fr (fun k=>k=b) w a:=by
 refine(Xk b _ false w h (by simp)).mono ?_;intro e a c;rw[Si n r d] at c;exact c
theorem VQ(b:Nat)(d:List UInt8)(w:World)(h:Src w b d false)(f:Zf 0 0 d=none) :
 Calls Tryz.prog 149 #[.pointer (some ⟨b,0,none⟩)] w fun e a=>e=.returned (.int .i64 0)/\Src a b [] true/\Fr (fun k=>k=b) w a:=by
 refine(Xk b _ false w h (by simp)).mono ?_;intro e a c;rw[f] at c;exact c
def Read1(w:World)(b:Nat)(r:List UInt8)(a:World):Prop:=Src a b r false/\Fr (fun k=>k=b) w a
theorem YT(b:Nat)(s r:List UInt8)(w:World)(h:Src w b (zH s++r) false)(q:s.length<=1000000000) :
 Calls Tryz.prog 150 #[.pointer (some ⟨b,0,none⟩)] w fun e t=>e=.returned (.string (zk s))/\Read1 w b r t:=by
 have k:zH s++r=zg s.length++(s++r):=by simp[zH]
 rw[k] at h;have o:=Z h;clear h k;have m:=Z (fun u=>Y1 (zk s) u q);go_enter Tryz.func150,Tryz.ntmps150
 go_wp2_with (first
  | (refine(m.out _).mono ?_;rintro e y ⟨rfl,d⟩)
  | (refine(YL s.length b (s++r) false _ i.out.1 (by simp)).mono ?_;rintro e x ⟨rfl,g,c⟩;have j:=Z (And.intro g c);clear g c)
  | (refine(zp b s.length (s++r) _ o.out (by omega)).mono ?_;rintro e v ⟨rfl,f,a⟩;have i:=Z (And.intro f a);clear f a))
 go_ret;have l:=j.out.1;rw[Jf] at l;exact⟨rfl,l.fr d id,(i.out.2.trans j.out.2).trans (d.mono (fun _ _ e=>absurd e id))⟩
def Xo(l:List Nat):List Value:=l.map fun n:Nat=>.int .i64 (n:Int)
def Pt(w a:World)(t:TypeId)(size:Nat)(v:Value)(n:Nat)(b:List Value):Prop :=
 a.ownsRow 0 t size v n b/\∀ k,v.ownBlock=some k->w.heap.size<=k
theorem T9(b:Nat)(l:List Nat)(r:List UInt8)(w:World)(h:Src w b (ZZ l++r) false)(R:∀ x∈l,x<9223372036854775808)(a1:l.length<1000000) :
 Calls Tryz.prog 194 #[.pointer (some ⟨b,0,none⟩),.func (.func 149) #[] #[]] w fun e m =>
  ∃ v,e=.returned v/\Pt w m 3 1 v l.length (Xo l)/\Read1 w b r m:=by
 have M:ZZ l++r=zg l.length++((l.map zg).flatten++r):=by simp[ZZ]
 rw[M] at h;have Q:=h.lt;have V:=Z h;clear h M;have X:=Z R;clear R;go_enter Tryz.func194,Tryz.ntmps194
 go_wp2_with (refine(zp b l.length _ _ V.out (by omega)).mono ?_;rintro e w1 ⟨rfl,t,q⟩;have G:=Z (And.intro t q);clear t q)
 go_loopw [5,9] (fun t5 F m=>∃ i:Nat,i<=l.length/\F=.int .i64 (i:Int)/\Pt w m 3 1 t5 i (Xo (l.take i))/\Src m b (((l.drop i).map zg).flatten++r) false/\Fr (fun k=>k=b) w m) (fun _ F _=>(l.length-intOf F).toNat)
 case atStart=>exact⟨0,by omega,rfl,⟨⟨by simp[Xo],.inl ⟨rfl,rfl⟩⟩,fun k j=>by simp[Value.ownBlock] at j⟩,G.out.1,G.out.2⟩
 case round =>
  obtain⟨i,hi,rfl,⟨a,c⟩,o,A⟩:=hrel;by_cases f:i<l.length
  .have e2:((l.drop i).map zg).flatten++r=zg l[i]++(((l.drop (i+1)).map zg).flatten++r):=by
    rw[Lk f];simp only[Mf,Lp,Mm]
   rw[e2] at o;have T:=X.out l[i] (NV f);have L:=Z T;have J:=Z o;have K:Hid (Xo (l.take (i+1))=Xo (l.take i)++[.int .i64 (l[i]:Int)]):=by
    show Xo _=_;unfold Xo;rw[KJ,NZ f,ML];rfl
   clear o e2 T;generalize E:l[i]=x at L J K;obtain⟨va,vc,rfl⟩:=zd a;have Y:=Z a;have u:=Z c;have I:=Z A;clear a c A E;have B:i<1000000000:=by omega
   go_wp2_with (first
    | (at_builtin;go_must (refine zL rfl _ _ _ _ rfl _ _ (by rfl) (by rfl) (N0 JL OZ (by decide) _ _ _ _ z.out (.int .i64 x) rfl B _ z8 _ (by exact Blk.new _ [_] _) _) ?_);rintro v' w3 ⟨D,s,C⟩)
    | (refine(zp b x _ _ J.out L.out).mono ?_;rintro e w2 ⟨rfl,g,d⟩;have a0:=g.cell;have y:=Z (And.intro g d);have z:=Z (za Y.out d (fun k j e=>by have:=u.out k j;omega));clear g d))
   refine⟨⟨i+1,by omega,by go_num,⟨by rw[K.out];exact D,fun k j=>?_⟩,?_,?_⟩,by simp[intOf];omega⟩
   .have:=I.out.size
    have:=y.out.2.size;rcases C k j with N|N
    .exact u.out k N
    .omega
   .exact y.out.1.fr s (fun e=>by have:=u.out b e;omega)
   .exact(I.out.trans y.out.2).trans' s (fun k j e=>absurd (u.out k e) (by omega))
  .have hil:i=l.length:=by omega
   subst hil;go_wp2_with fail;go_ret;rw[Mz] at a;rw[JZ] at o;exact⟨_,rfl,⟨a,c⟩,o,A⟩
theorem Wb(s:ByteArray):zk s.data.toList=s:=by
 apply Jq
 simp[zk]
theorem info1:(Tryz.prog.info? 3).map (·.size)=some 1:=by kernel_rfl
theorem V3(b:Nat)(v:Ver)(hv:v.Nat)(hg:v.gone=false)(r:List UInt8)(w:World)(h:Src w b (Zj v++r) false) :
 Calls Tryz.prog 152 #[.pointer (some ⟨b,0,none⟩)] w fun e w'=>e=.returned (.agg v.cells.toArray)/\Read1 w b r w':=by
 obtain⟨a,c,l,m,o,q,d,gone⟩:=v;simp only at hg;subst hg;obtain⟨z,K,X,h1,h2,h3,A⟩:=hv;simp only[isN] at z K X h1 h2 h3 A;obtain⟨a,rfl⟩:=Mx z.1;obtain⟨c,rfl⟩:=Mx K.1;obtain⟨l,rfl⟩:=Mx X.1;obtain⟨m,rfl⟩:=Mx h1.1;obtain⟨o,rfl⟩:=Mx h2.1;obtain⟨q,rfl⟩:=Mx h3.1;have e1:Zj ⟨a,c,l,m,o,q,d,false⟩++r=zg a++(zg c++(ZZ [l,m,o,q]++(zH d.data.toList++r))):=by
  simp[Zj]
 rw[e1] at h;have c2:=h.lt;have HH:=Z h;clear h e1;have H0:=Z X;have H1:=Z h1;have H2:=Z h2;have H3:=Z h3;clear X h1 h2 h3;go_enter Tryz.func152,Tryz.ntmps152;go_wp2_with fail;have Q:Blk ((w.alloc (.cells #[.int .i64 0,.int .i64 0,.int .i64 0,.int .i64 0,.int .i64 0,.int .i64 0,.string ⟨#[]⟩,.bool false] 37)).alloc (.cells #[.int .i64 0,.int .i64 0,.int .i64 0,.int .i64 0,.int .i64 0,.int .i64 0,.string ⟨#[]⟩,.bool false] 37)) w.heap.size [.int .i64 0,.int .i64 0,.int .i64 0,.int .i64 0,.int .i64 0,.int .i64 0,.string ⟨#[]⟩,.bool false] 37 :=
  (Blk.new w [.int .i64 0,.int .i64 0,.int .i64 0,.int .i64 0,.int .i64 0,.int .i64 0,.string ⟨#[]⟩,.bool false] _).alloc _
 have R:Blk ((w.alloc (.cells #[.int .i64 0,.int .i64 0,.int .i64 0,.int .i64 0,.int .i64 0,.int .i64 0,.string ⟨#[]⟩,.bool false] 37)).alloc (.cells #[.int .i64 0,.int .i64 0,.int .i64 0,.int .i64 0,.int .i64 0,.int .i64 0,.string ⟨#[]⟩,.bool false] 37)) (w.heap.size+1) [.int .i64 0,.int .i64 0,.int .i64 0,.int .i64 0,.int .i64 0,.int .i64 0,.string ⟨#[]⟩,.bool false] 37:=by
  have X:=Blk.new (w.alloc (.cells #[.int .i64 0,.int .i64 0,.int .i64 0,.int .i64 0,.int .i64 0,.int .i64 0,.string ⟨#[]⟩,.bool false] 37)) [.int .i64 0,.int .i64 0,.int .i64 0,.int .i64 0,.int .i64 0,.int .i64 0,.string ⟨#[]⟩,.bool false] 37
  simpa using X
 have E:Fr Nil w ((w.alloc (.cells #[.int .i64 0,.int .i64 0,.int .i64 0,.int .i64 0,.int .i64 0,.int .i64 0,.string ⟨#[]⟩,.bool false] 37)).alloc (.cells #[.int .i64 0,.int .i64 0,.int .i64 0,.int .i64 0,.int .i64 0,.int .i64 0,.string ⟨#[]⟩,.bool false] 37)):=((O _ _).alloc _).alloc _;generalize (w.alloc (.cells #[.int .i64 0,.int .i64 0,.int .i64 0,.int .i64 0,.int .i64 0,.int .i64 0,.string ⟨#[]⟩,.bool false] 37)).alloc (.cells #[.int .i64 0,.int .i64 0,.int .i64 0,.int .i64 0,.int .i64 0,.int .i64 0,.string ⟨#[]⟩,.bool false] 37)=W0 at Q R E |-;have a2:Fr (fun k=>k=b) w W0:=E.mono (fun _ _ e=>absurd e id)
 -- the a
 refine(zp b a _ W0 (HH.out.fr E id) (by omega)).mono ?_;rintro e w1 ⟨rfl,B,F⟩;have t:=Q.fr F (by omega);have i:=R.fr F (by omega);have b7:=i.cell;have c0:=i.frozen;go_wp2_with fail;have i:=i.set 0 (.int .i64 a);have t:=t.Gz (b':=w.heap.size+1) (by omega) 0 (.int .i64 a);have B:Src _ b _ false:=Blk.Gz B (b':=w.heap.size+1) (by omega) 0 (.int .i64 a);have L:=(a2.trans F).set (p:=⟨w.heap.size+1,0,none⟩) (fun h=>absurd h (by simp)) (.int .i64 a);generalize w1.setCell ⟨w.heap.size+1,0,none⟩ (.int .i64 a)=W1 at i t B L |-;clear b7 c0 F Q R E a2
 -- its number
 refine(zp b c _ W1 B (by omega)).mono ?_;rintro e w2 ⟨rfl,C,G⟩;have u:=t.fr G (by omega);have f:=i.fr G (by omega);have b8:=f.cell;have c1:=f.frozen;go_wp2_with fail;have f:=f.set 1 (.int .i64 c);have u:=u.Gz (b':=w.heap.size+1) (by omega) 1 (.int .i64 c);have C:Src _ b _ false:=Blk.Gz C (b':=w.heap.size+1) (by omega) 1 (.int .i64 c);have M:=(L.trans G).set (p:=⟨w.heap.size+1,1,none⟩) (fun h=>absurd h (by simp)) (.int .i64 c);generalize w2.setCell ⟨w.heap.size+1,1,none⟩ (.int .i64 c)=W2 at f u C M |-;clear b8 c1 G i t B L;simp at f
 -- the four
 have a7:∀ x∈[l,m,o,q],x<9223372036854775808:=by
  have:=H0.out.2;have:=H1.out.2;have:=H2.out.2;have:=H3.out.2;intro x hx;simp at hx;rcases hx with rfl|rfl|rfl|rfl <;> omega
 have b3:=Z C;have b2:=Z f;have b0:=Z u;have a9:=Z a7;have D:=Z (HH.out.lt);have c3:w.heap.size+2<=W2.heap.size:=f.lt;clear C f u a7
 go_region_law
  (first
  | (go_simp;go_at_call 194;refine(T9 b [l,m,o,q] _ W2.drew b3.out a9.out (by simp)).mono ?_;rintro e Y ⟨v3,rfl,J,V⟩
     have I:Fr (fun k=>k=b) W2 Y:=Fr.trans ((O _ W2).drew) V.2;obtain⟨g,b4,rfl,c7,c8⟩:=zq J.1 (by simp);have a1:=Z (b2.out.fr I (by have:=D.out;omega));have b1:=Z (b0.out.fr I (by have:=D.out;omega));have a0:Hid (∀ (j:Nat) (v:Value),[Value.int .i64 (l:Int),.int .i64 m,.int .i64 o,.int .i64 q][j]?=some v->Y.cell? ((⟨g,0,none⟩:Addr).add j)=some v):=fun j v hj=>by
      rw[MK,MD];exact own_cell? J.1 _ _ hj
     have c4:=Z J;have HR:=Z (And.intro V.1 I);clear J V I)
  | (refine Yr rfl _ _ 26 26 rfl _ _ (by rfl) (by rfl) (Zw (P:=Tryz.prog) 26 3 _ 1 JL info1 (w.heap.size+1) 2 4 4 ⟨g,0,none⟩ 4 b4 _ [.int .i64 l,.int .i64 m,.int .i64 o,.int .i64 q] 37 a1.out rfl a0.out (by simp) (by simp[Value.oneCell'])) ?_))
 have a5:Blk (Y.setRow (w.heap.size+1) #[.int .i64 a,.int .i64 c,.int .i64 l,.int .i64 m,.int .i64 o,.int .i64 q,.string ⟨#[]⟩,.bool false]) (w.heap.size+1) [.int .i64 a,.int .i64 c,.int .i64 l,.int .i64 m,.int .i64 o,.int .i64 q,.string ⟨#[]⟩,.bool false] 37 :=
  a1.out.setRow [.int .i64 a,.int .i64 c,.int .i64 l,.int .i64 m,.int .i64 o,.int .i64 q,.string ⟨#[]⟩,.bool false]
 have s:Fr (fun k=>k=w.heap.size+1) Y (Y.setRow (w.heap.size+1) #[.int .i64 a,.int .i64 c,.int .i64 l,.int .i64 m,.int .i64 o,.int .i64 q,.string ⟨#[]⟩,.bool false]):=Fr.setRow (S:=fun k=>k=w.heap.size+1) (O _ _) (fun _=>rfl) _;have a4:=b1.out.fr s (by omega);have a8:Src _ b _ false:=Blk.fr HR.out.1 s (by have:=D.out;omega);have a3:=(M.trans HR.out.2).trans' s (fun k hk e=>by omega);generalize Y.setRow (w.heap.size+1) #[.int .i64 a,.int .i64 c,.int .i64 l,.int .i64 m,.int .i64 o,.int .i64 q,.string ⟨#[]⟩,.bool false]=W4 at a5 a4 a8 a3 |-;clear s M;have c5:=D.out;go_wp2_with fail;refine(YT b d.data.toList r W4 a8 (by simpa using Io A)).mono ?_;rintro e w5 ⟨rfl,b9,T⟩;have a6:=a5.fr T (by omega);have N:=a4.fr T (by omega);have c6:=a6.cell;have d0:=a6.frozen;have c9:=N.cell;have d1:=N.frozen;rw[Wb];go_wp2_with fail;have y:=(((((((((N.Gz (b':=w.heap.size+1) (by omega) 6 (.string d)).set 0 (.int .i64 a)).set 1 (.int .i64 c)).set 2 (.int .i64 l)).set 3 (.int .i64 m)).set 4 (.int .i64 o)).set 5 (.int .i64 q)).set 6 (.string d)).set 7 (.bool false));have y:Blk _ w.heap.size (Ver.cells ⟨a,c,l,m,o,q,d,false⟩) 37:=y;have b5:=a3.trans T;have b6:Src _ b r false:=((((((((b9.Gz (b':=w.heap.size+1) (by omega) 6 (.string d)).Gz (b':=w.heap.size) (by omega) 0 (.int .i64 a)).Gz (b':=w.heap.size) (by omega) 1 (.int .i64 c)).Gz (b':=w.heap.size) (by omega) 2 (.int .i64 l)).Gz (b':=w.heap.size) (by omega) 3 (.int .i64 m)).Gz (b':=w.heap.size) (by omega) 4 (.int .i64 o)).Gz (b':=w.heap.size) (by omega) 5 (.int .i64 q)).Gz (b':=w.heap.size) (by omega) 6 (.string d)).Gz (b':=w.heap.size) (by omega) 7 (.bool false);refine KR (results_cell_row rfl _ _ w.heap.size _ _ _ _ rfl y Tryz.underlying37 rfl (by kernel_rfl)) rfl ⟨rfl,b6,?_⟩
 repeat' first|(with_reducible exact b5)|(with_reducible refine Fr.set ?_ ?_ _)|(intro h;exact absurd h (by simp))
theorem Blk.newAt(w:World)(c:List Value)(t:TypeId)(N:Nat)(a:N=w.heap.size):Blk (w.alloc (.cells c.toArray t)) N c t:=by subst a;exact Blk.new w c t
def Pv(l:List Ver):Prop:=∀ x∈l,x.Nat/\x.gone=false
theorem Ta(b:Nat)(l:List Ver)(r:List UInt8)(w:World)(h:Src w b (Zb l++r) false)(hl:Pv l)(a2:l.length<1000000) :
 Calls Tryz.prog 151 #[.pointer (some ⟨b,0,none⟩),.func (.func 152) #[] #[]] w fun e d =>
  ∃ v,e=.returned v/\(VRow d v l/\∀ k,v.ownBlock=some k->w.heap.size<=k)/\Read1 w b r d:=by
 have e1:Zb l++r=zg l.length++((l.map Zj).flatten++r):=by simp[Zb]
 rw[e1] at h;have a0:=h.lt;have HH:=Z h;clear h e1;have HL:=Z hl;clear hl;go_enter Tryz.func151,Tryz.ntmps151
 go_wp2_with (refine(zp b l.length _ _ HH.out (by omega)).mono ?_;rintro e w1 ⟨rfl,t,p⟩;have T:=Z (And.intro t p);clear t p)
 go_loopw [5,9] (fun t5 S d=>∃ i:Nat,i<=l.length/\S=.int .i64 (i:Int)/\VRow d t5 (l.take i)/\(∀ k,t5.ownBlock=some k->w.heap.size<=k)/\Src d b (((l.drop i).map Zj).flatten++r) false/\Fr (fun k=>k=b) w d) (fun _ S _=>(l.length-intOf S).toNat)
 case atStart=>exact⟨0,by omega,rfl,⟨by simp[Zl],.inl ⟨rfl,rfl⟩⟩,fun k m=>by simp[Value.ownBlock] at m,T.out.1,T.out.2⟩
 case round =>
  obtain⟨i,hi,rfl,a,c,o,L⟩:=hrel;by_cases g:i<l.length
  .have e2:((l.drop i).map Zj).flatten++r=Zj l[i]++(((l.drop (i+1)).map Zj).flatten++r):=by
    rw[Lk g];simp only[Mf,Lp,Mm]
   rw[e2] at o;have hx:=HL.out l[i] (NV g);have K:=Z hx;have X:=Z o;have Y:Hid (l.take (i+1)=l.take i++[l[i]]):=by
    show l.take (i+1)=_;rw[KJ,NZ g];rfl
   clear o e2 hx;generalize R:l[i]=x at K X Y;obtain⟨va,vc,s⟩:=zd a;rw[show(l.take i).length=i by simp;omega] at s;subst s;have HR:=Z a;have y:=Z c;have V:=Z L;clear a c L R;have M:(l.take i).length<1000000:=by simp;omega
   obtain⟨E,F,z,A,B,C,G,D⟩:=x;have HC:Hid (∀ u,Src u b (Zj ⟨E,F,z,A,B,C,G,D⟩++(((l.drop (i+1)).map Zj).flatten++r)) false->Calls Tryz.prog 152 #[.pointer (some ⟨b,0,none⟩)] u fun e d =>
    e=.returned (.agg #[.int .i64 E,.int .i64 F,.int .i64 z,.int .i64 A,.int .i64 B,.int .i64 C,.string G,.bool D])/\Read1 u b (((l.drop (i+1)).map Zj).flatten++r) d) :=
    fun u hs=>V3 b ⟨E,F,z,A,B,C,G,D⟩ K.out.1 K.out.2 _ u hs
   go_wp2_with (first
    | (at_builtin;go_must (refine zL rfl _ _ _ _ rfl _ _ (by rfl) (by rfl) (OY _ _ _ J.out ⟨E,F,z,A,B,C,G,D⟩ M _ (by repeat' first|(with_reducible exact O _ _)|(with_reducible refine Fr.alloc ?_ _)|(with_reducible refine Fr.set ?_ ?_ _)|(intro h;exact absurd h (by simp))) _ (by exact Blk.newAt _ [_,_,_,_,_,_,_,_] _ _ (by simp)) _) ?_);rintro v' w3 ⟨Q,q,N⟩)
    | (refine(HC.out _ X.out).mono ?_;rintro e w2 ⟨rfl,j,f⟩;have a1:=fun ob=>(Blk.alloc j ob).cell;have I:=Z (And.intro j f);have J:=Z (VRow.fr HR.out f (fun k m e=>by have:=y.out k m;omega));clear j f))
   refine⟨⟨i+1,by omega,by go_num,by rw[Y.out];exact Q,fun k m=>?_,?_,?_⟩,by simp[intOf];omega⟩
   .have:=V.out.size
    have:=I.out.2.size;rcases N k m with h1|h1
    .exact y.out k h1
    .omega
   .exact I.out.1.fr q (fun e=>by have:=y.out b e;omega)
   .exact(V.out.trans I.out.2).trans' q (fun k m e=>absurd (y.out k e) (by omega))
  .have hil:i=l.length:=by omega
   subst hil;go_wp2_with fail;go_ret;rw[Mz] at a;rw[JZ] at o;exact⟨_,rfl,⟨a,c⟩,o,L⟩
def zl:Fact->List UInt8
 | .inl n=>zg 1++zg n
 | .inr (.inl x)=>zg 2++(zH x.1.data.toList++Zb x.2)
 | .inr (.inr (.inl x))=>zg 3++(zg x.1++zH x.2.data.toList)
 | .inr (.inr (.inr _))=>zg 4
theorem VR(f:Fact):zj f=zk (zA (zl f)):=by
 rcases f with n|x|x|x <;> rfl
def FRead(f:Fact):Prop:=FOk f/\match f with
 | .inr (.inl x)=>∀ v∈x.2,v.gone=false
 | _=>True
def XQ(w:World)(b:Nat)(r:List UInt8)(f:Fact)(e:Ending)(c:World):Prop :=
 ∃ a,e=.returned a/\FRep c a f/\(∀ k,Xm a k->w.heap.size<=k)/\Read1 w b r c
theorem Ug(b n:Nat)(r:List UInt8)(w:World)(h:Src w b (zg 1++(zg n++r)) false)(m:n<9223372036854775808) :
 Calls Tryz.prog 95 #[.pointer (some ⟨b,0,none⟩)] w fun e o=>XQ w b r (.inl n) e o:=by
 have j:=Z h;clear h;go_enter IA,Ip
 go_wp2_with (first
  | (refine(zp b n _ _ g.out.1 m).mono ?_;rintro e q ⟨rfl,f,c⟩;have i:=Z (And.intro f c);clear f c)
  | (refine(zp b 1 _ _ j.out (by omega)).mono ?_;rintro e p ⟨rfl,d,a⟩;have g:=Z (And.intro d a);clear d a))
 go_ret;exact⟨_,rfl,rfl,fun k l=>by simp[Xm,Value.ownBlock] at l,i.out.1,g.out.2.trans i.out.2⟩
theorem Uh(b:Nat)(r:List UInt8)(w:World)(h:Src w b (zg 4++r) false) :
 Calls Tryz.prog 95 #[.pointer (some ⟨b,0,none⟩)] w fun e i=>XQ w b r (.inr (.inr (.inr ()))) e i:=by
 have f:=Z h;clear h;go_enter IA,Ip
 go_wp2_with (refine(zp b 4 _ _ f.out (by omega)).mono ?_;rintro e j ⟨rfl,c,a⟩;have d:=Z (And.intro c a);clear c a)
 go_ret;exact⟨_,rfl,rfl,fun k g=>by simp[Xm] at g,d.out.1,d.out.2⟩
theorem VS(b l:Nat)(s:ByteArray)(r:List UInt8)(w:World)(h:Src w b (zg 3++(zg l++(zH s.data.toList++r))) false)(y:l<9223372036854775808)(z:s.size<1000000000) :
 Calls Tryz.prog 95 #[.pointer (some ⟨b,0,none⟩)] w fun e o=>XQ w b r (.inr (.inr (.inl (l,s)))) e o:=by
 have u:=Z h;clear h;have m:s.data.toList.length<=1000000000:=by simpa using Io z
 have v:Hid (∀ j,Src j b (zH s.data.toList++r) false->Calls Tryz.prog 150 #[.pointer (some ⟨b,0,none⟩)] j fun e o=>e=.returned (.string s)/\Read1 j b r o):=fun j A=>by
  have:=YT b s.data.toList r j A m
  rwa [Wb] at this
 go_enter IA,Ip
 go_wp2_with (first
  | (refine(v.out _ q.out.1).mono ?_;rintro e D ⟨rfl,i,d⟩;have t:=Z (And.intro i d);clear i d)
  | (refine(zp b l _ _ p.out.1 y).mono ?_;rintro e C ⟨rfl,g,c⟩;have q:=Z (And.intro g c);clear g c)
  | (refine(zp b 3 _ _ u.out (by omega)).mono ?_;rintro e B ⟨rfl,f,a⟩;have p:=Z (And.intro f a);clear f a))
 go_ret;exact⟨_,rfl,rfl,fun k x=>by simp[Xm,Value.ownBlock] at x,t.out.1,(p.out.2.trans q.out.2).trans t.out.2⟩
theorem Ui(b:Nat)(s:ByteArray)(l:List Ver)(r:List UInt8)(w:World)(h:Src w b (zg 2++(zH s.data.toList++(Zb l++r))) false)(I:s.size<1000000000)(A:Pv l)(u:l.length<1000000) :
 Calls Tryz.prog 95 #[.pointer (some ⟨b,0,none⟩)] w fun e y=>XQ w b r (.inr (.inl (s,l))) e y:=by
 have E:=Z h;clear h;have x:s.data.toList.length<=1000000000:=by simpa using Io I
 have G:Hid (∀ o,Src o b (zH s.data.toList++(Zb l++r)) false->Calls Tryz.prog 150 #[.pointer (some ⟨b,0,none⟩)] o fun e y=>e=.returned (.string s)/\Read1 o b (Zb l++r) y):=fun o J=>by
  have:=YT b s.data.toList _ o J x
  rwa [Wb] at this
 have F:=Z A;clear A;go_enter IA,Ip
 go_wp2_with (first
  | (refine(Ta b l r _ t.out.1 F.out u).mono ?_;rintro e R ⟨K,rfl,a,m,g⟩;obtain⟨L,M,rfl⟩:=zd a.1;have c:=Z a;have z:=Z (And.intro m g);clear m g a)
  | (refine(G.out _ q.out.1).mono ?_;rintro e Q ⟨rfl,j,f⟩;have t:=Z (And.intro j f);clear j f)
  | (refine(zp b 2 _ _ E.out (by omega)).mono ?_;rintro e N ⟨rfl,i,d⟩;have q:=Z (And.intro i d);clear i d))
 go_ret;have B:=q.out.2.size;have C:=t.out.2.size;refine⟨_,rfl,⟨_,rfl,c.out.1⟩,fun k p=>?_,z.out.1,(q.out.2.trans t.out.2).trans z.out.2⟩;obtain⟨v,D,p⟩:=p;simp at D;rcases D with rfl|rfl
 .simp[Value.ownBlock] at p
 .have:=c.out.2 k p;omega
theorem Uj(f:Fact)(a:FRead f)(b:Nat)(r:List UInt8)(w:World)(h:Src w b (zl f++r) false) :
 Calls Tryz.prog 95 #[.pointer (some ⟨b,0,none⟩)] w fun e g=>XQ w b r f e g:=by
 rcases f with n|⟨s,l⟩|⟨d,s⟩|x
 .exact Ug b n r w (by simpa [zl] using h) a.1
 .exact Ui b s l r w (by simpa [zl] using h) a.1.2.2.1 (fun x c=>⟨a.1.1 x c,a.2 x c⟩) a.1.2.1
 .exact VS b d s r w (by simpa [zl] using h) a.1.1 a.1.2
 .exact Uh b r w (by simpa [zl] using h)
def N4(w:World)(b:Nat)(r:List UInt8)(f:Fact)(e:Ending)(c:World):Prop :=
 ∃ a,e=.returned (.tuple #[a,.bool true])/\FRep c a f/\(∀ k,Xm a k->w.heap.size<=k)/\Read1 w b r c
theorem Su(f:Fact)(hf:FRead f)(b:Nat)(r:List UInt8)(w:World)(h:Src w b (zA (zl f)++r) false)(I:(zl f).length<9223372036854775808) :
 Calls Tryz.prog 191 #[.pointer (some ⟨b,0,none⟩),.func (.func 95) #[] #[]] w fun e w'=>N4 w b r f e w':=by
 have Y:zA (zl f)++r=zg (zl f).length++(zl f++r):=by simp[zA]
 rw[Y] at h;have a0:=h.lt;have hc:=h.cell;have m:Src (w.alloc (.cells #[.string (zk (zg (zl f).length++(zl f++r))),.bool false] 276)) b (zg (zl f).length++(zl f++r)) false:=Blk.alloc h _;have l:Src (w.alloc (.cells #[.string (zk (zg (zl f).length++(zl f++r))),.bool false] 276)) w.heap.size (zg (zl f).length++(zl f++r)) false:=Blk.new w [_,_] _;have E:Fr Nil w (w.alloc (.cells #[.string (zk (zg (zl f).length++(zl f++r))),.bool false] 276)):=(O _ _).alloc _;have T:(w.alloc (.cells #[.string (zk (zg (zl f).length++(zl f++r))),.bool false] 276)).heap.size=w.heap.size+1:=by simp
 have HF:=Z hf;clear h Y hf;go_enter Tryz.func191,Tryz.ntmps191;go_wp2_with fail;generalize w.alloc (.cells #[.string (zk (zg (zl f).length++(zl f++r))),.bool false] 276)=W0 at m l E T |-;clear hc;refine(zp w.heap.size (zl f).length (zl f++r) W0 l I).mono ?_;rintro e w1 ⟨rfl,u,q⟩;have A:Src w1 b _ false:=Blk.fr m q (by omega);have a1:=q.size;go_wp2_with fail;refine(YL (zl f).length w.heap.size (zl f++r) false w1 u (by simp)).mono ?_;rintro e a ⟨rfl,c,s⟩;have B:Src a b _ false:=Blk.fr A s (by omega);have a2:=s.size;rw[Jf] at c;rw[JF];have d:=fun ob=>(Blk.alloc c ob).cell;go_wp2_with fail;have v:Src (a.alloc (.cells #[.string (zk (zl f)),.bool false] 276)) w.heap.size r false:=Blk.alloc c _;have C:Src (a.alloc (.cells #[.string (zk (zl f)),.bool false] 276)) b _ false:=Blk.alloc B _;have y:Src (a.alloc (.cells #[.string (zk (zl f)),.bool false] 276)) a.heap.size (zl f++[]) false:=by
  rw[MB];exact Blk.new a [_,_] _
 have t:Fr Nil w (a.alloc (.cells #[.string (zk (zl f)),.bool false] 276)) :=
  (E.trans' (q.trans s) (fun k G e=>by omega)).alloc _
 have V:(a.alloc (.cells #[.string (zk (zl f)),.bool false] 276)).heap.size=a.heap.size+1:=by simp
 generalize a.alloc (.cells #[.string (zk (zl f)),.bool false] 276)=W3 at v C y t V |-;clear d l u c m A B;refine(Uj f HF.out a.heap.size [] W3 y).mono ?_;rintro e X ⟨fv,rfl,J,j,z,g⟩;have x:Src X w.heap.size r false:=Blk.fr v g (by omega);have o:Src X b _ false:=Blk.fr C g (by omega);have R:=z.cell;have d:=x.cell;have D:=o.cell;have K:=o.frozen;have a3:=g.size;go_wp2_with fail;refine(V9 a.heap.size [] false X z).mono ?_;rintro e L ⟨rfl,i⟩;have M:Src L w.heap.size r false:=Blk.fr x i id;have p:Src L b _ false:=Blk.fr o i id;clear R d D K;have d:=M.cell;have D:=p.cell;have K:=p.frozen;go_wp2_with fail;go_ret2;have N:=t.trans' g (fun k G e=>by omega);have Q:Fr (fun k=>k=b) w L:=(N.trans i).mono (fun _ _ e=>absurd e id);have F:Fr (fun k=>k=b) L ((L.setCell ⟨b,0,none⟩ (.string (zk r))).setCell ⟨b,1,none⟩ (.bool false)):=Fr.set (S:=fun k=>k=b) (Fr.set (S:=fun k=>k=b) (O _ _) (fun _=>rfl) _) (fun _=>rfl) _;have a4:=t.size;exact⟨fv,rfl,(J.fr i (fun _ _=>id)).fr F (fun k G e=>by have:=j k G;omega),fun k G=>by have:=j k G;omega,(Blk.set p 0 _).set 1 _,Q.trans F⟩
theorem Pw(a b:List UInt8)(i:b<+:zA a)(d:b≠zA a):Zf 0 0 b=none\/∃ p,b=zg a.length++p/\p.length<a.length:=by
 unfold zA at i d;obtain⟨t,f⟩:=i;rcases Lz b.length (zg a.length).length with h|h
 .refine .inl (QB a.length 0 0 b ?_ (fun e=>by rw[e] at h;omega))
  exact Kt ⟨t,f⟩ (Kh _ _) (by omega)
 .have hpre:zg a.length<+:b:=Kt (l₃:=zg a.length++a) (Kh _ _) ⟨t,f⟩ h
  obtain⟨p,rfl⟩:=hpre;refine .inr ⟨p,rfl,?_⟩;rw[Mm] at f;have g:=List.append_cancel_left f;have j:a.length=p.length+t.length:=by rw[<- g];simp
  rcases t with-| ⟨c,t⟩
  .rw[MB] at g;exact absurd (by rw[g]) d
  .simp at j;omega
def Sv(w:World)(e:Ending)(a:World):Prop:=e=.returned (.tuple #[.nilIface,.bool false])/\Fr Nil w a
theorem Sw(a:List UInt8)(b:Nat)(w:World)(h:Src w b a false)(l:Zf 0 0 a=none) :
 Calls Tryz.prog 191 #[.pointer (some ⟨b,0,none⟩),.func (.func 95) #[] #[]] w fun e s=>Sv w e s:=by
 have p:=h.cell;have c:Src (w.alloc (.cells #[.string (zk a),.bool false] 276)) w.heap.size a false:=Blk.new w [_,_] _;have d:Fr Nil w (w.alloc (.cells #[.string (zk a),.bool false] 276)):=(O _ _).alloc _;have m:=Z l;clear h l;go_enter Tryz.func191,Tryz.ntmps191;go_wp2_with fail;generalize w.alloc (.cells #[.string (zk a),.bool false] 276)=o at c d |-;clear p;refine(VQ w.heap.size a o c m.out).mono ?_;rintro e t ⟨rfl,f,i⟩;go_wp2_with fail;refine(YL 0 w.heap.size [] true t f (by simp)).mono ?_;rintro e v ⟨rfl,g,j⟩;have q:=fun r=>(Blk.alloc g r).cell;go_wp2_with fail;go_ret2;exact⟨rfl,(d.trans' (i.trans j) (fun k u e=>by omega)).alloc _⟩
theorem RF(n:Nat)(p:List UInt8)(b:Nat)(w:World)(h:Src w b (zg n++p) false)(o:n<9223372036854775808)(q:p.length<n) :
 Calls Tryz.prog 191 #[.pointer (some ⟨b,0,none⟩),.func (.func 95) #[] #[]] w fun e s=>Sv w e s:=by
 have l:=h.cell;have a:Src (w.alloc (.cells #[.string (zk (zg n++p)),.bool false] 276)) w.heap.size (zg n++p) false:=Blk.new w [_,_] _;have c:Fr Nil w (w.alloc (.cells #[.string (zk (zg n++p)),.bool false] 276)):=(O _ _).alloc _;clear h;go_enter Tryz.func191,Tryz.ntmps191;go_wp2_with fail;generalize w.alloc (.cells #[.string (zk (zg n++p)),.bool false] 276)=j at a c |-;clear l;refine(zp w.heap.size n p j a o).mono ?_;rintro e t ⟨rfl,d,g⟩;go_wp2_with fail;refine(Uz n w.heap.size p false t d q).mono ?_;rintro e v ⟨rfl,f,i⟩;have m:=fun r=>(Blk.alloc f r).cell;go_wp2_with fail;go_ret2;exact⟨rfl,(c.trans' (g.trans i) (fun k u e=>by omega)).alloc _⟩
theorem Sx(a c:List UInt8)(j:c<+:zA a)(d:c≠zA a)(g:a.length<9223372036854775808)(b:Nat)(w:World)(h:Src w b c false) :
 Calls Tryz.prog 191 #[.pointer (some ⟨b,0,none⟩),.func (.func 95) #[] #[]] w fun e k=>Sv w e k:=by
 rcases Pw a c j d with f|⟨p,rfl,i⟩
 .exact Sw c b w h f
 .exact RF a.length p b w h g i
theorem QI(a:List UInt8)(w:World) :
 Calls Tryz.prog 190 #[.string (zk a)] w fun e b=>e=.returned (.pointer (some ⟨w.heap.size,0,none⟩))/\b=w.alloc (.cells #[.string (zk a),.bool false] 276):=by
 go_enter Tryz.func190,Tryz.ntmps190
 go_wp2
 go_ret;exact⟨rfl,rfl⟩
def zx(a:List Fact):List UInt8:=(a.map fun f=>zA (zl f)).flatten
theorem N7(n:Nat):0<(zg n).length:=by
 by_cases h:n<128
 .rw[ZY h];simp
 .rw[Yj h];simp
theorem Vq(a:List UInt8):0<(zA a).length:=by
 have:=N7 a.length;simp[zA];omega
def Sy(w:World)(s:Nat):Nat:=match w.cell? ⟨s,0,none⟩ with
 | some (.string x)=>x.size
 | _=>0
theorem UE{w:World}{s:Nat}{b:List UInt8}{a:Bool}(h:Src w s b a):Sy w s=b.length:=by
 have:=h.cell 0;simp at this;simp[Sy,this,Qz]
theorem SRep.GW{w:World}{b s:Nat}{L:SL}{S:SM}{e:List UInt8}{c:Bool}(h:SRep w b L S)(a:Src w s e c):¬SFoot b L s/\¬SRead L s:=by
 refine⟨fun d=>?_,fun d=>?_⟩
 .rcases h.Hn d with h1|h1|h1
  .exact absurd (Ty.inj h1 (Blk.ty a)) (by decide)
  .exact absurd (Ty.inj h1 (Blk.ty a)) (by decide)
  .exact absurd (Ty.inj h1 (Blk.ty a)) (by decide)
 .exact absurd (Ty.inj (h.Gg d) (Blk.ty a)) (by decide)
theorem SRep.src{w g:World}{b s:Nat}{L:SL}{S:SM}{i:List UInt8}{a:Bool}(h:SRep w b L S)(d:Src w s i a)(f:Fr (fun k=>k=s) w g):SRep g b L S :=
 h.fr f (fun _ c e=>(h.GW d).1 (e▸c)) (fun _ c e=>(h.GW d).2 (e▸c))
theorem Sz(b:List Fact)(I:∀ f∈b,FRead f/\(zl f).length<9223372036854775808)(a d:List UInt8)(ht:a<+:zA d)(M:a≠zA d)(hb:d.length<9223372036854775808)
 (u:Nat)(L:SL)(S:SM)(w:World)(h:SRep w u L S)
 (t:∀ i,((b.take i).foldl SM.enter S).keys.length<1099511627776/\((b.take i).foldl SM.enter S).hints.length<1000000) :
 Calls Tryz.prog 148 #[.string (zk (zx b++a)),.func (.func 95) #[] #[],.func (.func 96) #[.pointer (some ⟨u,0,none⟩)] #[]] w fun e z =>
  e=.returned (.int .i64 a.length)/\SStep w u L (b.foldl SM.enter S) (fun k=>w.heap.size<=k) z:=by
 have HH:=Z h;have B:=Z I;have s:=Z t;have T:=Z (And.intro ht (And.intro M hb));clear h I t ht M hb;go_enter Tryz.func148,Tryz.ntmps148;go_wp2_with fail;refine(QI _ w).mono ?_;rintro e w1 ⟨rfl,y⟩;have F:Fr Nil w w1:=by rw[y];exact(O _ _).alloc _
 have X:Src w1 w.heap.size (zx b++a) false:=by rw[y];exact Blk.new w [_,_] _
 clear y;go_wp2_with fail
 go_loopw [9] (fun _ z=>∃ (i:Nat) (A:SL),i<=b.length/\SRep z u A ((b.take i).foldl SM.enter S)/\Fr (SFoot u L) w z/\(∀ k,SFoot u A k->SFoot u L k\/w.heap.size<=k)/\(∀ k,SRead A k->SRead L k\/w.heap.size<=k)/\Src z w.heap.size (zx (b.drop i)++a) false) (fun _ z=>Sy z w.heap.size)
 case atStart=>exact⟨0,L,by omega,HH.out.nil F,F.mono (fun _ _ e=>absurd e id),fun k o=>.inl o,fun k o=>.inl o,X⟩
 case round =>
  obtain⟨i,A,hi,c,hF,J,Q,hS⟩:=hrel;have g:=Z (And.intro c (And.intro hF (And.intro J (And.intro Q hS))));clear c hF J Q hS;by_cases r:i<b.length
  .have hSi:Src wr w.heap.size (zA (zl b[i])++(zx (b.drop (i+1))++a)) false:=by
    have:=g.out.2.2.2.2;rw[Lk r] at this
    simpa only[zx,Mf,Lp,Mm] using this
   go_wp2_with fail;refine(Su b[i] (B.out _ (NV r)).1 w.heap.size _ wr hSi (B.out _ (NV r)).2).mono ?_;rintro e w2 ⟨fv,rfl,a0,N,D,j⟩;have m:=g.out.1.src g.out.2.2.2.2 j;have a1:=(m.GW D).1;go_wp2_with fail;refine(Yu b[i] fv u A _ w2 m a0 (s.out i).1 (s.out i).2).mono ?_;rintro e w3 ⟨rfl,V,x,C,K,R⟩;go_wp2_with fail;have a3:=g.out.2.1.size;have a2:=j.size;have E:Src w3 w.heap.size (zx (b.drop (i+1))++a) false:=Blk.fr D C a1;refine⟨⟨i+1,V,by omega,?_,?_,fun k o=>?_,fun k o=>?_,E⟩,?_⟩
   .rw[KJ,NZ r,Lj]
    exact x
   .refine(g.out.2.1.trans' j (fun k o e=>by omega)).trans' C (fun k o e=>?_)
    rcases g.out.2.2.1 k e with q|q
    .exact q
    .omega
   .rcases K k o with q|q
    .exact g.out.2.2.1 k q
    .exact .inr (by omega)
   .rcases R k o with q|q
    .exact g.out.2.2.2.1 k q
    .have:=N k q;exact .inr (by omega)
   .rw[UE E,UE hSi]
    have:=Vq (zl b[i]);simp only[NQ];omega
  .have hil:i=b.length:=by omega
   subst hil;have l:=g.out.2.2.2.2;rw[JZ] at l;have l:Src wr w.heap.size a false:=l;go_wp2_with fail;refine(Sx d a T.out.1 T.out.2.1 T.out.2.2 w.heap.size wr l).mono ?_;rintro e w2 ⟨rfl,j⟩;go_wp2_with fail;refine(V9 w.heap.size a false w2 (Blk.fr l j id)).mono ?_;rintro e w3 ⟨rfl,Y⟩;go_wp2_with fail;go_ret;have c:=g.out.1;rw[Mz] at c;have G:=(j.trans Y);exact⟨rfl,A,c.nil G,g.out.2.1.trans' G (fun k o e=>absurd e id),g.out.2.2.1,g.out.2.2.2.1⟩
theorem Uk(a:ByteArray)(f:Nat)(w:World)(b:Nat)(L:DL)(M:DM)(h:DRep w b L M)(l:M.dir.look a=some f) :
 Calls Tryz.prog 147 #[.pointer (some ⟨b,0,none⟩),.string a] w fun e r =>
  e=.returned (.tuple #[.string (zk (M.file f).bytes),.nilIface])/\Fr Nil w r:=by
 have j:M.size a=(((M.file f).bytes.length:Int),(0:Int)):=by simp[DM.size,l]
 have k:M.read a 0 (M.file f).bytes.length=(zk (M.file f).bytes,(0:Int)):=by
  simp only[DM.read,l];rw[Mg (by omega)];simp
 have o:=Z (fun d (fr:Fr Nil w d)=>by have:=Vz a d b L M (h.fr fr (fun _ _=>id));rw[j] at this;exact this);have m:=Z (fun d (fr:Fr Nil w d)=>by have:=Ql a 0 (M.file f).bytes.length d b L M (h.fr fr (fun _ _=>id));rw[k] at this;exact this);clear j k h;go_enter Tryz.func147,Tryz.ntmps147;go_wp2_with fail;refine(o.out w (O _ _)).mono ?_;rintro e s ⟨rfl,c⟩;go_wp2_with fail;refine(m.out s c).mono ?_;rintro e t ⟨rfl,g⟩;go_wp2_with fail;refine(Xl _ _ 0 t).mono ?_;rintro e u ⟨v,rfl,q,i⟩;obtain rfl:v=.nilIface:=q;go_wp2_with fail;go_ret2;exact⟨rfl,(c.trans g).trans i⟩
end Go.Proofs.YtkhnggkkiefcdaaGreatDoor
namespace Go.Proofs
open Go.Shelf
def Tryz.GL:Go.Shelf.Ren:=⟨fun|101=>221|208=>237|206=>250|n=>n,fun|9=>9|4=>4|3=>3|n=>n,fun|n=>n⟩
theorem Tryz.Fx:Go.Proofs.Lays.n101 Tryz.prog Tryz.GL:={
 mixed:=by kernel_rfl
 f101:=Tryz.func221.trans (congrArg some (by kernel_rfl))
 f206:=Tryz.func250.trans (congrArg some (by kernel_rfl))
 f208:=Tryz.func237.trans (congrArg some (by kernel_rfl))
 t3:=Tryz.underlying3
 a3:=Tryz.isAgg3
 z3:=Tryz.sizeOf3
 v3:=Tryz.zeroValue3
 t4:=Tryz.underlying4
 a4:=Tryz.isAgg4
 z4:=Tryz.sizeOf4
 v4:=Tryz.zeroValue4
 t9:=Tryz.underlying9
 a9:=Tryz.isAgg9
 z9:=Tryz.sizeOf9
 v9:=Tryz.zeroValue9}
def Tryz.Gu:Go.Shelf.Ren:=⟨fun|244=>235|247=>245|287=>252|321=>255|322=>256|n=>n,fun|9=>9|3=>3|75=>132|4=>4|5=>5|167=>333|37=>150|0=>0|85=>334|2=>2|53=>274|175=>342|46=>299|21=>21|80=>242|n=>n,fun|n=>n⟩
theorem Tryz.Fu:Go.Proofs.Lays.n244 Tryz.prog Tryz.Gu:={
 mixed:=by kernel_rfl
 f244:=Tryz.func235.trans (congrArg some (by kernel_rfl))
 f247:=Tryz.func245.trans (congrArg some (by kernel_rfl))
 f287:=Tryz.func252.trans (congrArg some (by kernel_rfl))
 f321:=Tryz.func255.trans (congrArg some (by kernel_rfl))
 f322:=Tryz.func256.trans (congrArg some (by kernel_rfl))
 t0:=Tryz.underlying0
 a0:=Tryz.isAgg0
 z0:=Tryz.sizeOf0
 v0:=Tryz.zeroValue0
 t2:=Tryz.underlying2
 a2:=Tryz.isAgg2
 z2:=Tryz.sizeOf2
 v2:=Tryz.zeroValue2
 t3:=Tryz.underlying3
 a3:=Tryz.isAgg3
 z3:=Tryz.sizeOf3
 v3:=Tryz.zeroValue3
 t4:=Tryz.underlying4
 a4:=Tryz.isAgg4
 z4:=Tryz.sizeOf4
 v4:=Tryz.zeroValue4
 t5:=Tryz.underlying5
 a5:=Tryz.isAgg5
 z5:=Tryz.sizeOf5
 v5:=Tryz.zeroValue5
 t9:=Tryz.underlying9
 a9:=Tryz.isAgg9
 z9:=Tryz.sizeOf9
 v9:=Tryz.zeroValue9
 t21:=Tryz.underlying21
 a21:=Tryz.isAgg21
 z21:=Tryz.sizeOf21
 v21:=Tryz.zeroValue21
 t37:=Tryz.underlying150
 a37:=Tryz.isAgg150
 z37:=Tryz.sizeOf150
 v37:=Tryz.zeroValue150
 t46:=Tryz.underlying299
 a46:=Tryz.isAgg299
 z46:=Tryz.sizeOf299
 v46:=Tryz.zeroValue299
 t53:=Tryz.underlying274
 a53:=Tryz.isAgg274
 z53:=Tryz.sizeOf274
 v53:=Tryz.zeroValue274
 t75:=Tryz.underlying132
 a75:=Tryz.isAgg132
 z75:=Tryz.sizeOf132
 v75:=Tryz.zeroValue132
 t85:=Tryz.underlying334
 a85:=Tryz.isAgg334
 z85:=Tryz.sizeOf334
 v85:=Tryz.zeroValue334
 t167:=Tryz.underlying333
 a167:=Tryz.isAgg333
 z167:=Tryz.sizeOf333
 v167:=Tryz.zeroValue333
 t175:=Tryz.underlying342
 a175:=Tryz.isAgg342
 z175:=Tryz.sizeOf342
 v175:=Tryz.zeroValue342}
def Tryz.GK:Go.Shelf.Ren:=⟨fun|172=>220|244=>235|245=>236|247=>245|279=>246|280=>247|281=>248|282=>249|287=>252|316=>125|171=>81|205=>253|321=>255|322=>256|243=>130|246=>165|283=>205|284=>206|285=>207|286=>208|129=>229|317=>228|318=>230|319=>231|320=>232|337=>242|338=>243|n=>n,fun|9=>9|3=>3|75=>132|76=>190|4=>4|5=>5|167=>333|37=>150|0=>0|85=>334|2=>2|168=>336|53=>274|175=>342|46=>299|210=>345|127=>240|145=>350|143=>348|21=>21|171=>293|173=>296|212=>322|51=>323|20=>20|213=>324|232=>340|233=>341|80=>242|n=>n,fun|15=>4|16=>5|17=>1|18=>2|19=>3|n=>n⟩
theorem Tryz.Fy:Go.Proofs.Lays.n172 Tryz.prog Tryz.GK:={
 mixed:=by kernel_rfl
 f129:=Tryz.func229.trans (congrArg some (by kernel_rfl))
 f171:=Tryz.func81.trans (congrArg some (by kernel_rfl))
 f172:=Tryz.func220.trans (congrArg some (by kernel_rfl))
 f205:=Tryz.func253.trans (congrArg some (by kernel_rfl))
 f243:=Tryz.func130.trans (congrArg some (by kernel_rfl))
 f244:=Tryz.func235.trans (congrArg some (by kernel_rfl))
 f245:=Tryz.func236.trans (congrArg some (by kernel_rfl))
 f246:=Tryz.func165.trans (congrArg some (by kernel_rfl))
 f247:=Tryz.func245.trans (congrArg some (by kernel_rfl))
 f279:=Tryz.func246.trans (congrArg some (by kernel_rfl))
 f280:=Tryz.func247.trans (congrArg some (by kernel_rfl))
 f281:=Tryz.func248.trans (congrArg some (by kernel_rfl))
 f282:=Tryz.func249.trans (congrArg some (by kernel_rfl))
 f283:=Tryz.func205.trans (congrArg some (by kernel_rfl))
 f284:=Tryz.func206.trans (congrArg some (by kernel_rfl))
 f285:=Tryz.func207.trans (congrArg some (by kernel_rfl))
 f286:=Tryz.func208.trans (congrArg some (by kernel_rfl))
 f287:=Tryz.func252.trans (congrArg some (by kernel_rfl))
 f316:=Tryz.func125.trans (congrArg some (by kernel_rfl))
 f317:=Tryz.func228.trans (congrArg some (by kernel_rfl))
 f318:=Tryz.func230.trans (congrArg some (by kernel_rfl))
 f319:=Tryz.func231.trans (congrArg some (by kernel_rfl))
 f320:=Tryz.func232.trans (congrArg some (by kernel_rfl))
 f321:=Tryz.func255.trans (congrArg some (by kernel_rfl))
 f322:=Tryz.func256.trans (congrArg some (by kernel_rfl))
 f337:=Tryz.func242.trans (congrArg some (by kernel_rfl))
 f338:=Tryz.func243.trans (congrArg some (by kernel_rfl))
 t0:=Tryz.underlying0
 a0:=Tryz.isAgg0
 z0:=Tryz.sizeOf0
 v0:=Tryz.zeroValue0
 t2:=Tryz.underlying2
 a2:=Tryz.isAgg2
 z2:=Tryz.sizeOf2
 v2:=Tryz.zeroValue2
 t3:=Tryz.underlying3
 a3:=Tryz.isAgg3
 z3:=Tryz.sizeOf3
 v3:=Tryz.zeroValue3
 t4:=Tryz.underlying4
 a4:=Tryz.isAgg4
 z4:=Tryz.sizeOf4
 v4:=Tryz.zeroValue4
 t5:=Tryz.underlying5
 a5:=Tryz.isAgg5
 z5:=Tryz.sizeOf5
 v5:=Tryz.zeroValue5
 t9:=Tryz.underlying9
 a9:=Tryz.isAgg9
 z9:=Tryz.sizeOf9
 v9:=Tryz.zeroValue9
 t20:=Tryz.underlying20
 a20:=Tryz.isAgg20
 z20:=Tryz.sizeOf20
 v20:=Tryz.zeroValue20
 t21:=Tryz.underlying21
 a21:=Tryz.isAgg21
 z21:=Tryz.sizeOf21
 v21:=Tryz.zeroValue21
 t37:=Tryz.underlying150
 a37:=Tryz.isAgg150
 z37:=Tryz.sizeOf150
 v37:=Tryz.zeroValue150
 t46:=Tryz.underlying299
 a46:=Tryz.isAgg299
 z46:=Tryz.sizeOf299
 v46:=Tryz.zeroValue299
 t51:=Tryz.underlying323
 a51:=Tryz.isAgg323
 z51:=Tryz.sizeOf323
 v51:=Tryz.zeroValue323
 t53:=Tryz.underlying274
 a53:=Tryz.isAgg274
 z53:=Tryz.sizeOf274
 v53:=Tryz.zeroValue274
 t75:=Tryz.underlying132
 a75:=Tryz.isAgg132
 z75:=Tryz.sizeOf132
 v75:=Tryz.zeroValue132
 t76:=Tryz.underlying190
 a76:=Tryz.isAgg190
 z76:=Tryz.sizeOf190
 v76:=Tryz.zeroValue190
 t85:=Tryz.underlying334
 a85:=Tryz.isAgg334
 z85:=Tryz.sizeOf334
 v85:=Tryz.zeroValue334
 t127:=Tryz.underlying240
 a127:=Tryz.isAgg240
 z127:=Tryz.sizeOf240
 v127:=Tryz.zeroValue240
 t143:=Tryz.underlying348
 a143:=Tryz.isAgg348
 z143:=Tryz.sizeOf348
 v143:=Tryz.zeroValue348
 t145:=Tryz.underlying350
 a145:=Tryz.isAgg350
 z145:=Tryz.sizeOf350
 v145:=Tryz.zeroValue350
 t167:=Tryz.underlying333
 a167:=Tryz.isAgg333
 z167:=Tryz.sizeOf333
 v167:=Tryz.zeroValue333
 t168:=Tryz.underlying336
 a168:=Tryz.isAgg336
 z168:=Tryz.sizeOf336
 v168:=Tryz.zeroValue336
 t171:=Tryz.underlying293
 a171:=Tryz.isAgg293
 z171:=Tryz.sizeOf293
 v171:=Tryz.zeroValue293
 t173:=Tryz.underlying296
 a173:=Tryz.isAgg296
 z173:=Tryz.sizeOf296
 v173:=Tryz.zeroValue296
 t175:=Tryz.underlying342
 a175:=Tryz.isAgg342
 z175:=Tryz.sizeOf342
 v175:=Tryz.zeroValue342
 t210:=Tryz.underlying345
 a210:=Tryz.isAgg345
 z210:=Tryz.sizeOf345
 v210:=Tryz.zeroValue345
 t212:=Tryz.underlying322
 a212:=Tryz.isAgg322
 z212:=Tryz.sizeOf322
 v212:=Tryz.zeroValue322
 t213:=Tryz.underlying324
 a213:=Tryz.isAgg324
 z213:=Tryz.sizeOf324
 t232:=Tryz.underlying340
 a232:=Tryz.isAgg340
 z232:=Tryz.sizeOf340
 v232:=Tryz.zeroValue340
 t233:=Tryz.underlying341
 a233:=Tryz.isAgg341
 z233:=Tryz.sizeOf341
 v233:=Tryz.zeroValue341
 g15:=by kernel_rfl
 g16:=by kernel_rfl
 g17:=by kernel_rfl
 g18:=by kernel_rfl
 g19:=by kernel_rfl}
end Go.Proofs
namespace Go.Proofs.YtkhnggkkiefcdaaGreatDoor
open Go.RowKit
set_option maxRecDepth 100000
set_option maxHeartbeats 8000000
theorem XR:∀(l r:List UInt8)(c:Nat),Lib.decFrom c (l++r)=(Lib.decFrom c l).bind fun a=>Lib.decFrom a r
 | [],_,_=>rfl
 | b::l,r,c=>by
  simp only[MJ,Lib.decFrom];cases Lib.digitVal b with
  | none=>rfl
  | some d=>exact XR l r _
theorem Vd(d:Nat)(h:d<10):Lib.digitVal (UInt8.ofNat (48+d))=some d:=by
 have e:(UInt8.ofNat (48+d)).toNat=48+d:=by simp;omega
 unfold Lib.digitVal;rw[e,Mg (by omega)]
 congr 1
 omega
theorem Ul(n:Nat):Lib.decFrom 0 (Lib.decDigits n)=some n:=by
 induction n using Nat.strongRecOn with
 | ind n a =>
  rw[Lib.decDigits];by_cases h:n<10
  .rw[IK h]
   simp only[Lib.decFrom,Vd n h]
   congr 1
   omega
  .rw[dif_neg h,XR,a (n / 10) (by omega)]
   simp only[Jo,Lib.decFrom,Vd (n%10) (by omega)]
   congr 1
   omega
theorem RG(n:Nat):∃ b r,Lib.decDigits n=b::r/\48<=b.toNat/\b.toNat<=57:=by
 induction n using Nat.strongRecOn with
 | ind n d =>
  rw[Lib.decDigits];by_cases h:n<10
  .rw[IK h]
   have e:(UInt8.ofNat (48+n)).toNat=48+n:=by simp;omega
   exact⟨_,[],rfl,by rw[e];omega,by rw[e];omega⟩
  .rw[dif_neg h]
   obtain⟨b,r,e,a,c⟩:=d (n / 10) (by omega);rw[e];exact⟨b,_,rfl,a,c⟩
theorem Wc:∀(k n:Nat),n<10^(k+1)->(Lib.decDigits n).length<=k+1
 | 0,n,h=>by rw[Lib.decDigits,IK (by simpa using h)];simp
 | k+1,n,h=>by
  rw[Lib.decDigits];by_cases a:n<10
  .rw[IK a];simp
  .rw[dif_neg a]
   have:=Wc k (n / 10) (by rw[II] at h;omega);simp;omega
theorem RH(n:Nat):Lib.atoi (Lib.decDigits n)=some (n:Int):=by
 have c:=Ul n;obtain⟨b,r,e,a,g⟩:=RG n;rw[e] at c |-;have d:(b==45)=false:=by
  rw[MI];rintro rfl;simp at a
 have f:(b==43)=false:=by
  rw[MI];rintro rfl;simp at a
 simp only[Lib.atoi,d,f,Lib.decNat,List.isEmpty_cons,c]
 rfl
theorem Xa(n:Nat):(Zc n).data.toList=Lib.decDigits n:=by
 simp[Zc,Lib.itoa]
theorem VT(s p:ByteArray)(w:World) :
 Calls Tryz.prog 221 #[.string s,.string p] w fun e a=>e=.returned (.string ⟨(Lib.trimPrefix s.data.toList p.data.toList).toArray⟩)/\a=w:=Any.strings_TrimPrefix Tryz.Fx s p w
theorem Px(s:ByteArray)(n:Int)(b:s.size<=18)(h:Lib.atoi s.data.toList=some n)(w:World) :
 Calls Tryz.prog 220 #[.string s] w fun e a=>e=.returned (.tuple #[.int .i64 n,.nilIface])/\Fr Nil w a:=by
 refine IF (show Calls Tryz.prog 220 #[.string s] w _ from Any.strconv_Atoi Tryz.Fy s n b h w) ?_;rintro e a ⟨rfl,t,rfl⟩;exact⟨rfl,Fr.Ge (Lib.bytesWorld_below _ _ _)⟩
theorem Ov(c:ByteArray)(n:Nat):Lib.trimPrefix (ze c n).data.toList c.data.toList=Lib.decDigits n:=by
 have e:(ze c n).data.toList=c.data.toList++Lib.decDigits n:=by
  simp only[ze,Kk,LX,Xa]
 have d:∀ (a b:List UInt8),Lib.hasPrefix (a++b) a=true:=by
  intro a b;unfold Lib.hasPrefix;simp
 unfold Lib.trimPrefix;rw[e,d];simp
theorem SA(a:ByteArray)(b:a.size<=1000)(n:Nat)(u:1<=n)(p:n<10^18)(w:World)(q:∀ i,Fr Nil w i->Tab i) :
 Calls Tryz.prog 185 #[.string a,.string (ze a n)] w fun e i=>e=.returned (.int .i64 n)/\Fr Nil w i:=by
 have t:n<1000000000000000000:=p;have h:=Z (VT (ze a n) a w);rw[Ov] at h;have o:(⟨(Lib.decDigits n).toArray⟩:ByteArray).size<=18:=Wc 17 n p;have l:=Z (fun g=>Px ⟨(Lib.decDigits n).toArray⟩ n o (by simpa using RH n) g);have m:=Z (fun g (f:Fr Nil w g)=>WE a b n (by omega) g (q g f));have r:¬(n:Int)<1:=by omega
 clear o q;generalize ze a n=s at h m |-;generalize (⟨(Lib.decDigits n).toArray⟩:ByteArray)=d at h l;go_enter Tryz.func185,Tryz.ntmps185;go_wp2_with fail;refine h.out.mono ?_;rintro e v ⟨rfl,k⟩;subst k;go_wp2_with fail;refine(l.out _).mono ?_;rintro e x ⟨rfl,c⟩;go_wp2_with fail;refine(m.out _ c).mono ?_;rintro e y ⟨rfl,j⟩;go_wp2_with fail;go_ret;exact⟨rfl,c.trans j⟩
def Yv(w:World):Prop:=4<w.heap.size/\∃ b a,w.cell? ⟨4,0,none⟩=some (.iface b a)
theorem Yv.fr{w w':World}{S:Nat->Prop}(h:Yv w)(f:Fr S w w')(e:¬S 4):Yv w':=by
 obtain⟨a,i,g,c⟩:=h;exact⟨Lb a f.size,i,g,(f.cell (p:=⟨4,0,none⟩) a e).trans c⟩
theorem V4(c s:ByteArray)(u:s.size<=1000000000)(w:World)(d:Yv w) :
 Calls Tryz.prog 246 #[.string c,.string s] w fun e g=>∃ k,e=.returned (.pointer (some ⟨k,0,none⟩))/\Fr Nil w g:=by
 have l:=Z (fun a (f:Fr Nil w a)=>show Calls Tryz.prog 125 #[.string s] a fun e g=>e=.returned (.string s)/\Fr Nil w g from
  (AnyPu.stringslite_Clone Tryz.GN s a (by omega)).mono fun e g ⟨r,o⟩=>⟨r,f.trans (Fr.Ge o)⟩)
 obtain⟨t,j,i,b⟩:=d;have m:Hid (∀ a,Fr Nil w a->a.cell? ⟨4,0,none⟩=some (.iface j i)):=fun a f=>(f.cell (p:=⟨4,0,none⟩) t id).trans b;go_enter Tryz.func246,Tryz.ntmps246;go_wp2_with fail
 go_region_held3 (fun a=>a.cell? ⟨4,0,none⟩=some (.iface j i)) (first|assumption|go_keep) (first|(go_at_call 125;refine(l.out _ z8).mono ?_;rintro e v ⟨rfl,h⟩;have q:=m.out _ h))
 all_goals
  go_wp2
  go_ret;exact⟨_,rfl,z8⟩
theorem Tb(c s:ByteArray)(l:s.size<=1000000000)(w:World)(a:Yv w)(T:TypeId)(g:T=Tryz.Gu.t 167) :
 Calls Tryz.prog 236 #[.string c,.string s,.int .i64 0,.int .i64 0,.iface T (.int .i64 2)] w fun e m=>∃ k,e=.returned (.iface 336 (.pointer (some ⟨k,0,none⟩)))/\Fr Nil w m:=by
 have b:T=333:=by rw[g];rfl
 subst b;clear g;have i:=Z (fun h (f:Fr Nil w h)=>V4 c s l h (a.fr f id));have j:∀ W,(binOp .eql 132 (.iface 333 (.int .i64 2)) (.iface 333 (.int .i64 2))).run Tryz.prog W=.ok (.bool true) W:=fun W=>Lib.run_eql_iface_int W 2 2 Tryz.underlying132 (by kernel_rfl) Tryz.underlying333;go_enter Tryz.func236,Tryz.ntmps236;go_wp2_with fail;refine(i.out w (O _ _)).mono ?_;rintro e o ⟨k,rfl,d⟩;go_wp2_with fail;go_ret;exact⟨k,rfl,d⟩
theorem Py(s:ByteArray)(l:s.size<=18)(h:Lib.atoi s.data.toList=none)(w:World)(a:Yv w) :
 Calls Tryz.prog 220 #[.string s] w fun e c=>∃ k,e=.returned (.tuple #[.int .i64 0,.iface 336 (.pointer (some ⟨k,0,none⟩))])/\Fr Nil w c:=by
 have j:Hid (Calls Tryz.prog 235 #[.string s] w fun e c=>e=.returned (.tuple #[.int .i64 0,.iface 333 (.int .i64 2)])/\Fr Nil w c):=by
  refine IF (show Calls Tryz.prog 235 #[.string s] w _ from Any.internal_strconv_Atoi_fail Tryz.Fu s l h w) ?_;rintro e c ⟨rfl,rfl|⟨t,rfl⟩⟩
  .exact⟨rfl,O _ _⟩
  .exact⟨rfl,Fr.Ge (Lib.bytesWorld_below _ _ _)⟩
 have i:=Z (fun g (f:Fr Nil w g)=>Tb ⟨#[65,116,111,105]⟩ s (by omega) g (a.fr f id) 333 rfl);clear a h;go_enter Tryz.func220,Tryz.ntmps220;go_wp2_with fail;refine j.out.mono ?_;rintro e m ⟨rfl,b⟩;go_wp2_with fail;refine(i.out m b).mono ?_;rintro e o ⟨k,rfl,d⟩;go_wp2_with fail;go_ret2;exact⟨k,rfl,b.trans d⟩
theorem XS(b a:ByteArray)(j:Lib.hasPrefix a.data.toList b.data.toList=false)(m:a.size<=18)(h:Lib.atoi a.data.toList=none)(w:World)(c:Yv w) :
 Calls Tryz.prog 185 #[.string b,.string a] w fun e o=>e=.returned (.int .i64 0)/\Fr Nil w o:=by
 have g:=Z (VT a b w);have i:(⟨(Lib.trimPrefix a.data.toList b.data.toList).toArray⟩:ByteArray)=a:=by
  unfold Lib.trimPrefix;rw[j]
  apply Jq
  simp
 rw[i] at g;have l:=Z (Py a m h w c);clear i c h j;go_enter Tryz.func185,Tryz.ntmps185;go_wp2_with fail;refine g.out.mono ?_;rintro e q ⟨rfl,f⟩;subst f;go_wp2_with fail;refine l.out.mono ?_;rintro e r ⟨k,rfl,d⟩;go_wp2_with fail;go_ret;exact⟨rfl,d⟩
end Go.Proofs.YtkhnggkkiefcdaaGreatDoor
