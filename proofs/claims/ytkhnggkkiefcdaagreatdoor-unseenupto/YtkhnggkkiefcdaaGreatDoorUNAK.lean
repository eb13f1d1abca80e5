/- larder: joined texts -/
import Derived.Test.YtkhnggkkiefcdaaGreatDoorUNAB
import Derived.Test.YtkhnggkkiefcdaaGreatDoorUNAE
import Derived.Test.YtkhnggkkiefcdaaGreatDoorUNAG
import Derived.Test.YtkhnggkkiefcdaaGreatDoorUNAI
import Derived.Test.YtkhnggkkiefcdaaGreatDoorUNAJ
import Derived.Laws.Rows
import Derived.Shelf.Strconv.AtoiFail
import Derived.Shelf.Strconv.Atoi
import Derived.Shelf.Strings.Prefix
import Derived.Ground.NamesProg
namespace Go.Proofs.YtkhnggkkiefcdaaGreatDoor
open Go.RowKit
set_option maxRecDepth 100000
set_option maxHeartbeats 8000000
def LM.accept(m:LM)(a:ByteArray)(v:Ver):LM:={m with keys:=zX m.keys a (Sl (ZH m.keys a) v)}
def Zn(a:List Ver)(v:Ver):Nat:=if a.any v.BQ=true then 0 else if v.gone=false/\4<=(zC a v).length then 1 else if v.gone=true/\(zC a v).length=a.length then 0 else 2
structure BK where
 vs:List Value
 vm:List Nat
 ns:List Value
 nm:List Nat
 hs:List Value
 hm:List Nat
structure WM where
 node:Int
 room:Int
 we:Int
 sync:Int
 BV:Bool
 broken:Bool
 every:Int
 writes:Nat
 calls:Nat
 most:Nat
 BT:Int
 base:Nat
 next:Nat
 st:List LM
 bk:BK
def WM.due(W:WM):Bool:=decide (0<W.every)&&decide ((W.writes:Int).tmod W.every=0)
def WM.Ae(W:WM)(m:LM):WM :=
 let a:={W with st:=W.st++[m],writes:=W.writes+1}
 if a.due then {a with st:=a.st.drop (a.st.length-1)} else a
theorem Ty.lt{w:World}{k:Nat}{t:TypeId}(h:Ty w k t):k<w.heap.size:=by
 obtain⟨c,f,h⟩:=h;exact Dp fun a=>by rw[FN a] at h;exact absurd h (by simp)
theorem NRep.lt{w:World}{L:NL}{N:NM}{M:DM}(h:NRep w L N M){k:Nat}(a:NFoot L M k):k<w.heap.size:=by
 rcases a with rfl|rfl|a|a|a
 .exact h.Bi.lt
 .exact Blk.lt h.log
 .rcases h.held.BJ a with e|e|e <;> exact e.lt
 .obtain⟨t,ht,_⟩:=h.BM.ty a
  exact ht.lt
 .exact(h.yJ.ty a).lt
structure OpM where
 kind:Int
 a:Int
 b:Int
 c:Int
 key:ByteArray
 text:ByteArray
 v:Ver
 Ai:Value
theorem V7(l:List (Nat × ByteArray)):∀ (k:Nat)(h:k<l.length),(Zj l)[k*2]?=some (.int .i64 l[k].1)/\(Zj l)[k*2+1]?=some (.string l[k].2):=by
 induction l with
 | nil=>intro k h;exact absurd h (Hj _)
 | cons a l c =>
  intro k h;cases k with
  | zero=>exact⟨rfl,rfl⟩
  | succ k =>
   have:=c k (by simpa using h);exact⟨by rw[<- (show(Zj (a::l))[(k+1)*2]?=(Zj l)[k*2]? by rw[show(k+1)*2=k*2+2 from by omega];rfl)] at this;exact this.1,by have b:=this.2;rw[<- (show(Zj (a::l))[(k+1)*2+1]?=(Zj l)[k*2+1]? by rw[show(k+1)*2+1=k*2+1+2 from by omega];rfl)] at b;exact b⟩
def Qh(a b:Ver):Bool:=(decide (a.o0=b.o0)&&decide (a.o1=b.o1)&&decide (a.o2=b.o2)&&decide (a.o3=b.o3))&&(decide (a.node=b.node)&&(decide (a.seq=b.seq)&&(a.value.toList==b.value.toList&&(a.gone==b.gone))))
theorem Wh(a b:Ver):Qh a b=true↔a=b:=by
 obtain⟨n,s,d,e,f,i,x,g⟩:=a;obtain⟨c,q,j,k,o,p,y,h⟩:=b;simp only[Qh,Hz,IF,beq_iff_eq,Ver.mk.injEq]
 constructor
 .rintro⟨⟨⟨⟨h0,h1⟩,h2⟩,h3⟩,h4,h5,h6,h7⟩
  exact⟨h4,h5,h0,h1,h2,h3,VB h6,h7⟩
 .rintro⟨h4,h5,h0,h1,h2,h3,h6,h7⟩
  exact⟨⟨⟨⟨h0,h1⟩,h2⟩,h3⟩,h4,h5,by rw[h6],h7⟩
def YN(c:Int):Int:=if c<0 then 1152921504606846976 else c
def WM.Bg(node a c e:Int)(base:Nat):WM:=⟨node,a,c,e,false,false,0,0,0,0,0,base,0,[⟨node,[],[]⟩],⟨[],[],[],[],[],[]⟩⟩
theorem Jq:((Tryz.prog.info? 3).map fun i=>(i.zero.map (·.cells.size),i.size,i.bytes))=some (some 1,1,8):=by kernel_rfl
theorem Jr{t e:TypeId}{a:Nat}(D:Tryz.prog.underlying t=some (.slice e))(y:((Tryz.prog.info? e).map fun i=>(i.zero.map (·.cells.size),i.size,i.bytes))=some (some 1,1,a))(m:a<=24)
 (w:World)(v:Value)(n:Nat)(q:List Value)(h:w.ownsRow 0 e 1 v n q)(x:Value)(r:x.oneCell'=true)(E:n<1000000000)(g:World)(o:Fr Nil w g)(N:Nat)(A:Blk g N [x] e)(ty:TypeId) :
 ∃ c d,(Builtin.append_ #[t,t] ty #[v,.slice (some ⟨N,0,none⟩) 1 1]).run Tryz.prog g=.ok c d /\
  (d.ownsRow 0 e 1 c (n+1) (q++[x])/\Fr (fun k=>v.ownBlock=some k) w d/\(∀ k,c.ownBlock=some k->v.ownBlock=some k\/w.heap.size<=k)):=by
 have B:=ze h o (fun _ _=>id);obtain⟨c,d,C,l,s,b⟩:=zt (P:=Tryz.prog) t ty e 1 a D y (by omega) v n q B ⟨N,0,none⟩ 1 1 [x] rfl
  (fun j u f=>by rw[Hp,Hw,A.cell];exact f) (by intro u f;simp at f;subst f;exact r) (by unfold maxLen;omega) (Im (Nat.mul_le_mul_left _ m) (by omega))
 refine⟨c,d,C,l,(o.mono (fun _ _ e=>absurd e id)).trans' ((Fr.BI s).mono (fun i _ h=>h)) (fun i _ h=>h),fun k p=>?_⟩;rcases b with b|b
 .exact .inl (by rw[<- b];exact p)
 .rw[b] at p;simp at p;have:=o.size;exact .inr (by omega)
theorem zI(b n:Nat)(r:List UInt8)(w:World)(h:Src w b (zk n++r) false)(d:n<9223372036854775808) :
 Calls Tryz.prog 149 #[.pointer (some ⟨b,0,none⟩)] w fun e a=>e=.returned (.int .i64 n)/\Src a b r false/\Fr (fun k=>k=b) w a:=by
 refine(WI b _ false w h (by simp)).mono ?_;intro e a c;rw[Qt n r d] at c;exact c
theorem TG(b:Nat)(d:List UInt8)(w:World)(h:Src w b d false)(f:ZR 0 0 d=none) :
 Calls Tryz.prog 149 #[.pointer (some ⟨b,0,none⟩)] w fun e a=>e=.returned (.int .i64 0)/\Src a b [] true/\Fr (fun k=>k=b) w a:=by
 refine(WI b _ false w h (by simp)).mono ?_;intro e a c;rw[f] at c;exact c
def Read1(w:World)(b:Nat)(r:List UInt8)(a:World):Prop:=Src a b r false/\Fr (fun k=>k=b) w a
theorem Wn(b:Nat)(s r:List UInt8)(w:World)(h:Src w b (Z7 s++r) false)(q:s.length<=1000000000) :
 Calls Tryz.prog 150 #[.pointer (some ⟨b,0,none⟩)] w fun e t=>e=.returned (.string (zp s))/\Read1 w b r t:=by
 have k:Z7 s++r=zk s.length++(s++r):=by simp[Z7]
 rw[k] at h;have o:=Z h;clear h k;have m:=Z (fun u=>ZE (zp s) u q);go_enter Tryz.func150,Tryz.ntmps150
 go_wp2_with (first
  | (refine(m.out _).mono ?_;rintro e y ⟨rfl,d⟩)
  | (refine(Wd s.length b (s++r) false _ i.out.1 (by simp)).mono ?_;rintro e x ⟨rfl,g,c⟩;have j:=Z (And.intro g c);clear g c)
  | (refine(zI b s.length (s++r) _ o.out (by omega)).mono ?_;rintro e v ⟨rfl,f,a⟩;have i:=Z (And.intro f a);clear f a))
 go_ret;have l:=j.out.1;rw[Fi] at l;exact⟨rfl,l.fr d id,(i.out.2.trans j.out.2).trans (d.mono (fun _ _ e=>absurd e id))⟩
def WQ(l:List Nat):List Value:=l.map fun n:Nat=>.int .i64 (n:Int)
def Lv(w a:World)(t:TypeId)(size:Nat)(v:Value)(n:Nat)(b:List Value):Prop :=
 a.ownsRow 0 t size v n b/\∀ k,v.ownBlock=some k->w.heap.size<=k
theorem RE(b:Nat)(l:List Nat)(r:List UInt8)(w:World)(h:Src w b (YT l++r) false)(T:∀ x∈l,x<9223372036854775808)(a1:l.length<1000000) :
 Calls Tryz.prog 194 #[.pointer (some ⟨b,0,none⟩),.func (.func 149) #[] #[]] w fun e m =>
  ∃ v,e=.returned v/\Lv w m 3 1 v l.length (WQ l)/\Read1 w b r m:=by
 have O:YT l++r=zk l.length++((l.map zk).flatten++r):=by simp[YT]
 rw[O] at h;have R:=h.lt;have X:=Z h;clear h O;have Y:=Z T;clear T;go_enter Tryz.func194,Tryz.ntmps194
 go_wp2_with (refine(zI b l.length _ _ X.out (by omega)).mono ?_;rintro e w1 ⟨rfl,t,q⟩;have J:=Z (And.intro t q);clear t q)
 go_loopw [5,9] (fun t5 I m=>∃ i:Nat,i<=l.length/\I=.int .i64 (i:Int)/\Lv w m 3 1 t5 i (WQ (l.take i))/\Src m b (((l.drop i).map zk).flatten++r) false/\Fr (fun k=>k=b) w m) (fun _ I _=>(l.length-intOf I).toNat)
 case atStart=>exact⟨0,by omega,rfl,⟨⟨by simp[WQ],.inl ⟨rfl,rfl⟩⟩,fun k j=>by simp[Value.ownBlock] at j⟩,J.out.1,J.out.2⟩
 case round =>
  obtain⟨i,hi,rfl,⟨a,c⟩,o,B⟩:=hrel;by_cases f:i<l.length
  .have e2:((l.drop i).map zk).flatten++r=zk l[i]++(((l.drop (i+1)).map zk).flatten++r):=by
    rw[Hs f];simp only[IJ,Ft,IA]
   rw[e2] at o;have V:=Y.out l[i] (Iu f);have N:=Z V;have L:=Z o;have M:Hid (WQ (l.take (i+1))=WQ (l.take i)++[.int .i64 (l[i]:Int)]):=by
    show WQ _=_;unfold WQ;rw[FI,IB f,IL];rfl
   clear o e2 V;generalize G:l[i]=x at N L M;obtain⟨va,vc,rfl⟩:=zg a;have HR:=Z a;have u:=Z c;have K:=Z B;clear a c B G;have C:i<1000000000:=by omega
   go_wp2_with (first
    | (at_builtin;go_must (refine zJ rfl _ _ _ _ rfl _ _ (by rfl) (by rfl) (Jr Ex Jq (by decide) _ _ _ _ A.out (.int .i64 x) rfl C _ zd _ (by exact Blk.new _ [_] _) _) ?_);rintro v' w3 ⟨E,s,D⟩)
    | (refine(zI b x _ _ L.out N.out).mono ?_;rintro e w2 ⟨rfl,g,d⟩;have a0:=g.cell;have y:=Z (And.intro g d);have A:=Z (ze HR.out d (fun k j e=>by have:=u.out k j;omega));clear g d))
   refine⟨⟨i+1,by omega,by go_num,⟨by rw[M.out];exact E,fun k j=>?_⟩,?_,?_⟩,by simp[intOf];omega⟩
   .have:=K.out.size
    have:=y.out.2.size;rcases D k j with Q|Q
    .exact u.out k Q
    .omega
   .exact y.out.1.fr s (fun e=>by have:=u.out b e;omega)
   .exact(K.out.trans y.out.2).trans' s (fun k j e=>absurd (u.out k e) (by omega))
  .have hil:i=l.length:=by omega
   subst hil;go_wp2_with fail;go_ret;rw[ID] at a;rw[EM] at o;exact⟨_,rfl,⟨a,c⟩,o,B⟩
theorem VG(s:ByteArray):zp s.data.toList=s:=by
 apply Dv
 simp[zp]
theorem info1:(Tryz.prog.info? 3).map (·.size)=some 1:=by kernel_rfl
theorem UB(b:Nat)(v:Ver)(hv:v.Nat)(hg:v.gone=false)(r:List UInt8)(w:World)(h:Src w b (ZT v++r) false) :
 Calls Tryz.prog 152 #[.pointer (some ⟨b,0,none⟩)] w fun e w'=>e=.returned (.agg v.cells.toArray)/\Read1 w b r w':=by
 obtain⟨node,a,i,l,m,o,c,c2⟩:=v;simp only at hg;subst hg;obtain⟨y,L,X,h1,h2,h3,A⟩:=hv;simp only[isN] at y L X h1 h2 h3 A;obtain⟨node,rfl⟩:=Ht y.1;obtain⟨a,rfl⟩:=Ht L.1;obtain⟨i,rfl⟩:=Ht X.1;obtain⟨l,rfl⟩:=Ht h1.1;obtain⟨m,rfl⟩:=Ht h2.1;obtain⟨o,rfl⟩:=Ht h3.1;have e1:ZT ⟨node,a,i,l,m,o,c,false⟩++r=zk node++(zk a++(YT [i,l,m,o]++(Z7 c.data.toList++r))):=by
  simp[ZT]
 rw[e1] at h;have c3:=h.lt;have HH:=Z h;clear h e1;have H0:=Z X;have H1:=Z h1;have H2:=Z h2;have H3:=Z h3;clear X h1 h2 h3;go_enter Tryz.func152,Tryz.ntmps152;go_wp2_with fail;have Q:Blk ((w.alloc (.cells #[.int .i64 0,.int .i64 0,.int .i64 0,.int .i64 0,.int .i64 0,.int .i64 0,.string ⟨#[]⟩,.bool false] 37)).alloc (.cells #[.int .i64 0,.int .i64 0,.int .i64 0,.int .i64 0,.int .i64 0,.int .i64 0,.string ⟨#[]⟩,.bool false] 37)) w.heap.size [.int .i64 0,.int .i64 0,.int .i64 0,.int .i64 0,.int .i64 0,.int .i64 0,.string ⟨#[]⟩,.bool false] 37 :=
  (Blk.new w [.int .i64 0,.int .i64 0,.int .i64 0,.int .i64 0,.int .i64 0,.int .i64 0,.string ⟨#[]⟩,.bool false] _).alloc _
 have R:Blk ((w.alloc (.cells #[.int .i64 0,.int .i64 0,.int .i64 0,.int .i64 0,.int .i64 0,.int .i64 0,.string ⟨#[]⟩,.bool false] 37)).alloc (.cells #[.int .i64 0,.int .i64 0,.int .i64 0,.int .i64 0,.int .i64 0,.int .i64 0,.string ⟨#[]⟩,.bool false] 37)) (w.heap.size+1) [.int .i64 0,.int .i64 0,.int .i64 0,.int .i64 0,.int .i64 0,.int .i64 0,.string ⟨#[]⟩,.bool false] 37:=by
  have X:=Blk.new (w.alloc (.cells #[.int .i64 0,.int .i64 0,.int .i64 0,.int .i64 0,.int .i64 0,.int .i64 0,.string ⟨#[]⟩,.bool false] 37)) [.int .i64 0,.int .i64 0,.int .i64 0,.int .i64 0,.int .i64 0,.int .i64 0,.string ⟨#[]⟩,.bool false] 37
  simpa using X
 have E:Fr Nil w ((w.alloc (.cells #[.int .i64 0,.int .i64 0,.int .i64 0,.int .i64 0,.int .i64 0,.int .i64 0,.string ⟨#[]⟩,.bool false] 37)).alloc (.cells #[.int .i64 0,.int .i64 0,.int .i64 0,.int .i64 0,.int .i64 0,.int .i64 0,.string ⟨#[]⟩,.bool false] 37)):=((U _ _).alloc _).alloc _;generalize (w.alloc (.cells #[.int .i64 0,.int .i64 0,.int .i64 0,.int .i64 0,.int .i64 0,.int .i64 0,.string ⟨#[]⟩,.bool false] 37)).alloc (.cells #[.int .i64 0,.int .i64 0,.int .i64 0,.int .i64 0,.int .i64 0,.int .i64 0,.string ⟨#[]⟩,.bool false] 37)=W0 at Q R E |-;have a2:Fr (fun k=>k=b) w W0:=E.mono (fun _ _ e=>absurd e id)
 -- the node
 refine(zI b node _ W0 (HH.out.fr E id) (by omega)).mono ?_;rintro e w1 ⟨rfl,B,G⟩;have s:=Q.fr G (by omega);have f:=R.fr G (by omega);have b7:=f.cell;have c0:=f.frozen;go_wp2_with fail;have f:=f.set 0 (.int .i64 node);have s:=s.AE (b':=w.heap.size+1) (by omega) 0 (.int .i64 node);have B:Src _ b _ false:=Blk.AE B (b':=w.heap.size+1) (by omega) 0 (.int .i64 node);have M:=(a2.trans G).set (p:=⟨w.heap.size+1,0,none⟩) (fun h=>absurd h (by simp)) (.int .i64 node);generalize w1.setCell ⟨w.heap.size+1,0,none⟩ (.int .i64 node)=W1 at f s B M |-;clear b7 c0 G Q R E a2
 -- its number
 refine(zI b a _ W1 B (by omega)).mono ?_;rintro e w2 ⟨rfl,C,I⟩;have t:=s.fr I (by omega);have d:=f.fr I (by omega);have b8:=d.cell;have c1:=d.frozen;go_wp2_with fail;have d:=d.set 1 (.int .i64 a);have t:=t.AE (b':=w.heap.size+1) (by omega) 1 (.int .i64 a);have C:Src _ b _ false:=Blk.AE C (b':=w.heap.size+1) (by omega) 1 (.int .i64 a);have N:=(M.trans I).set (p:=⟨w.heap.size+1,1,none⟩) (fun h=>absurd h (by simp)) (.int .i64 a);generalize w2.setCell ⟨w.heap.size+1,1,none⟩ (.int .i64 a)=W2 at d t C N |-;clear b8 c1 I f s B M;simp at d
 -- the four
 have a7:∀ x∈[i,l,m,o],x<9223372036854775808:=by
  have:=H0.out.2;have:=H1.out.2;have:=H2.out.2;have:=H3.out.2;intro x hx;simp at hx;rcases hx with rfl|rfl|rfl|rfl <;> omega
 have b3:=Z C;have b2:=Z d;have b0:=Z t;have a9:=Z a7;have D:=Z (HH.out.lt);have c4:w.heap.size+2<=W2.heap.size:=d.lt;clear C d t a7
 go_region_law
  (first
  | (go_simp;go_at_call 194;refine(RE b [i,l,m,o] _ W2.drew b3.out a9.out (by simp)).mono ?_;rintro e Y ⟨v3,rfl,K,V⟩
     have J:Fr (fun k=>k=b) W2 Y:=Fr.trans ((U _ W2).drew) V.2;obtain⟨g,b4,rfl,c8,c9⟩:=zv K.1 (by simp);have a1:=Z (b2.out.fr J (by have:=D.out;omega));have b1:=Z (b0.out.fr J (by have:=D.out;omega));have a0:Hid (∀ (j:Nat) (v:Value),[Value.int .i64 (i:Int),.int .i64 l,.int .i64 m,.int .i64 o][j]?=some v->Y.cell? ((⟨g,0,none⟩:Addr).add j)=some v):=fun j v hj=>by
      rw[Hp,Hw];exact own_cell? K.1 _ _ hj
     have c5:=Z K;have HR:=Z (And.intro V.1 J);clear K V J)
  | (refine Yu rfl _ _ 26 26 rfl _ _ (by rfl) (by rfl) (Zm (P:=Tryz.prog) 26 3 _ 1 Ex info1 (w.heap.size+1) 2 4 4 ⟨g,0,none⟩ 4 b4 _ [.int .i64 i,.int .i64 l,.int .i64 m,.int .i64 o] 37 a1.out rfl a0.out (by simp) (by simp[Value.oneCell'])) ?_))
 have a5:Blk (Y.setRow (w.heap.size+1) #[.int .i64 node,.int .i64 a,.int .i64 i,.int .i64 l,.int .i64 m,.int .i64 o,.string ⟨#[]⟩,.bool false]) (w.heap.size+1) [.int .i64 node,.int .i64 a,.int .i64 i,.int .i64 l,.int .i64 m,.int .i64 o,.string ⟨#[]⟩,.bool false] 37 :=
  a1.out.setRow [.int .i64 node,.int .i64 a,.int .i64 i,.int .i64 l,.int .i64 m,.int .i64 o,.string ⟨#[]⟩,.bool false]
 have q:Fr (fun k=>k=w.heap.size+1) Y (Y.setRow (w.heap.size+1) #[.int .i64 node,.int .i64 a,.int .i64 i,.int .i64 l,.int .i64 m,.int .i64 o,.string ⟨#[]⟩,.bool false]):=Fr.setRow (S:=fun k=>k=w.heap.size+1) (U _ _) (fun _=>rfl) _;have a4:=b1.out.fr q (by omega);have a8:Src _ b _ false:=Blk.fr HR.out.1 q (by have:=D.out;omega);have a3:=(N.trans HR.out.2).trans' q (fun k hk e=>by omega);generalize Y.setRow (w.heap.size+1) #[.int .i64 node,.int .i64 a,.int .i64 i,.int .i64 l,.int .i64 m,.int .i64 o,.string ⟨#[]⟩,.bool false]=W4 at a5 a4 a8 a3 |-;clear q N;have c6:=D.out;go_wp2_with fail;refine(Wn b c.data.toList r W4 a8 (by simpa using EN A)).mono ?_;rintro e w5 ⟨rfl,b9,T⟩;have a6:=a5.fr T (by omega);have O:=a4.fr T (by omega);have c7:=a6.cell;have d1:=a6.frozen;have d0:=O.cell;have d2:=O.frozen;rw[VG];go_wp2_with fail;have u:=(((((((((O.AE (b':=w.heap.size+1) (by omega) 6 (.string c)).set 0 (.int .i64 node)).set 1 (.int .i64 a)).set 2 (.int .i64 i)).set 3 (.int .i64 l)).set 4 (.int .i64 m)).set 5 (.int .i64 o)).set 6 (.string c)).set 7 (.bool false));have u:Blk _ w.heap.size (Ver.cells ⟨node,a,i,l,m,o,c,false⟩) 37:=u;have b5:=a3.trans T;have b6:Src _ b r false:=((((((((b9.AE (b':=w.heap.size+1) (by omega) 6 (.string c)).AE (b':=w.heap.size) (by omega) 0 (.int .i64 node)).AE (b':=w.heap.size) (by omega) 1 (.int .i64 a)).AE (b':=w.heap.size) (by omega) 2 (.int .i64 i)).AE (b':=w.heap.size) (by omega) 3 (.int .i64 l)).AE (b':=w.heap.size) (by omega) 4 (.int .i64 m)).AE (b':=w.heap.size) (by omega) 5 (.int .i64 o)).AE (b':=w.heap.size) (by omega) 6 (.string c)).AE (b':=w.heap.size) (by omega) 7 (.bool false);refine EK (results_cell_row rfl _ _ w.heap.size _ _ _ _ rfl u DU rfl (by kernel_rfl)) rfl ⟨rfl,b6,?_⟩
 repeat' first|(with_reducible exact b5)|(with_reducible refine Fr.set ?_ ?_ _)|(intro h;exact absurd h (by simp))
theorem Blk.newAt(w:World)(c:List Value)(t:TypeId)(N:Nat)(a:N=w.heap.size):Blk (w.alloc (.cells c.toArray t)) N c t:=by subst a;exact Blk.new w c t
def Lw(l:List Ver):Prop:=∀ x∈l,x.Nat/\x.gone=false
theorem RF(b:Nat)(l:List Ver)(r:List UInt8)(w:World)(h:Src w b (ZG l++r) false)(hl:Lw l)(a2:l.length<1000000) :
 Calls Tryz.prog 151 #[.pointer (some ⟨b,0,none⟩),.func (.func 152) #[] #[]] w fun e d =>
  ∃ v,e=.returned v/\(VRow d v l/\∀ k,v.ownBlock=some k->w.heap.size<=k)/\Read1 w b r d:=by
 have e1:ZG l++r=zk l.length++((l.map ZT).flatten++r):=by simp[ZG]
 rw[e1] at h;have a0:=h.lt;have HH:=Z h;clear h e1;have HL:=Z hl;clear hl;go_enter Tryz.func151,Tryz.ntmps151
 go_wp2_with (refine(zI b l.length _ _ HH.out (by omega)).mono ?_;rintro e w1 ⟨rfl,t,p⟩;have V:=Z (And.intro t p);clear t p)
 go_loopw [5,9] (fun t5 T d=>∃ i:Nat,i<=l.length/\T=.int .i64 (i:Int)/\VRow d t5 (l.take i)/\(∀ k,t5.ownBlock=some k->w.heap.size<=k)/\Src d b (((l.drop i).map ZT).flatten++r) false/\Fr (fun k=>k=b) w d) (fun _ T _=>(l.length-intOf T).toNat)
 case atStart=>exact⟨0,by omega,rfl,⟨by simp[zV],.inl ⟨rfl,rfl⟩⟩,fun k m=>by simp[Value.ownBlock] at m,V.out.1,V.out.2⟩
 case round =>
  obtain⟨i,hi,rfl,a,c,o,N⟩:=hrel;by_cases g:i<l.length
  .have e2:((l.drop i).map ZT).flatten++r=ZT l[i]++(((l.drop (i+1)).map ZT).flatten++r):=by
    rw[Hs g];simp only[IJ,Ft,IA]
   rw[e2] at o;have hx:=HL.out l[i] (Iu g);have M:=Z hx;have Y:=Z o;have HT:Hid (l.take (i+1)=l.take i++[l[i]]):=by
    show l.take (i+1)=_;rw[FI,IB g];rfl
   clear o e2 hx;generalize S:l[i]=x at M Y HT;obtain⟨va,vc,s⟩:=zg a;rw[show(l.take i).length=i by simp;omega] at s;subst s;have HR:=Z a;have y:=Z c;have X:=Z N;clear a c N S;have O:(l.take i).length<1000000:=by simp;omega
   obtain⟨G,I,A,B,C,D,J,E⟩:=x;have HC:Hid (∀ u,Src u b (ZT ⟨G,I,A,B,C,D,J,E⟩++(((l.drop (i+1)).map ZT).flatten++r)) false->Calls Tryz.prog 152 #[.pointer (some ⟨b,0,none⟩)] u fun e d =>
    e=.returned (.agg #[.int .i64 G,.int .i64 I,.int .i64 A,.int .i64 B,.int .i64 C,.int .i64 D,.string J,.bool E])/\Read1 u b (((l.drop (i+1)).map ZT).flatten++r) d) :=
    fun u hs=>UB b ⟨G,I,A,B,C,D,J,E⟩ M.out.1 M.out.2 _ u hs
   go_wp2_with (first
    | (at_builtin;go_must (refine zJ rfl _ _ _ _ rfl _ _ (by rfl) (by rfl) (Ng _ _ _ L.out ⟨G,I,A,B,C,D,J,E⟩ O _ (by repeat' first|(with_reducible exact U _ _)|(with_reducible refine Fr.alloc ?_ _)|(with_reducible refine Fr.set ?_ ?_ _)|(intro h;exact absurd h (by simp))) _ (by exact Blk.newAt _ [_,_,_,_,_,_,_,_] _ _ (by simp)) _) ?_);rintro v' w3 ⟨R,q,Q⟩)
    | (refine(HC.out _ Y.out).mono ?_;rintro e w2 ⟨rfl,j,f⟩;have a1:=fun ob=>(Blk.alloc j ob).cell;have K:=Z (And.intro j f);have L:=Z (VRow.fr HR.out f (fun k m e=>by have:=y.out k m;omega));clear j f))
   refine⟨⟨i+1,by omega,by go_num,by rw[HT.out];exact R,fun k m=>?_,?_,?_⟩,by simp[intOf];omega⟩
   .have:=X.out.size
    have:=K.out.2.size;rcases Q k m with h1|h1
    .exact y.out k h1
    .omega
   .exact K.out.1.fr q (fun e=>by have:=y.out b e;omega)
   .exact(X.out.trans K.out.2).trans' q (fun k m e=>absurd (y.out k e) (by omega))
  .have hil:i=l.length:=by omega
   subst hil;go_wp2_with fail;go_ret;rw[ID] at a;rw[EM] at o;exact⟨_,rfl,⟨a,c⟩,o,N⟩
def zw:Fact->List UInt8
 | .inl n=>zk 1++zk n
 | .inr (.inl x)=>zk 2++(Z7 x.1.data.toList++ZG x.2)
 | .inr (.inr (.inl x))=>zk 3++(zk x.1++Z7 x.2.data.toList)
 | .inr (.inr (.inr _))=>zk 4
theorem TH(f:Fact):zj f=zp (zS (zw f)):=by
 rcases f with n|x|x|x <;> rfl
def FRead(f:Fact):Prop:=FOk f/\match f with
 | .inr (.inl x)=>∀ v∈x.2,v.gone=false
 | _=>True
def Vs(w:World)(b:Nat)(r:List UInt8)(f:Fact)(e:Ending)(c:World):Prop :=
 ∃ a,e=.returned a/\FRep c a f/\(∀ k,WL a k->w.heap.size<=k)/\Read1 w b r c
theorem Sm(b n:Nat)(r:List UInt8)(w:World)(h:Src w b (zk 1++(zk n++r)) false)(m:n<9223372036854775808) :
 Calls Tryz.prog 95 #[.pointer (some ⟨b,0,none⟩)] w fun e o=>Vs w b r (.inl n) e o:=by
 have j:=Z h;clear h;go_enter CS,CG
 go_wp2_with (first
  | (refine(zI b n _ _ g.out.1 m).mono ?_;rintro e q ⟨rfl,f,c⟩;have i:=Z (And.intro f c);clear f c)
  | (refine(zI b 1 _ _ j.out (by omega)).mono ?_;rintro e p ⟨rfl,d,a⟩;have g:=Z (And.intro d a);clear d a))
 go_ret;exact⟨_,rfl,rfl,fun k l=>by simp[WL,Value.ownBlock] at l,i.out.1,g.out.2.trans i.out.2⟩
theorem Sn(b:Nat)(r:List UInt8)(w:World)(h:Src w b (zk 4++r) false) :
 Calls Tryz.prog 95 #[.pointer (some ⟨b,0,none⟩)] w fun e i=>Vs w b r (.inr (.inr (.inr ()))) e i:=by
 have f:=Z h;clear h;go_enter CS,CG
 go_wp2_with (refine(zI b 4 _ _ f.out (by omega)).mono ?_;rintro e j ⟨rfl,c,a⟩;have d:=Z (And.intro c a);clear c a)
 go_ret;exact⟨_,rfl,rfl,fun k g=>by simp[WL] at g,d.out.1,d.out.2⟩
theorem TI(b l:Nat)(s:ByteArray)(r:List UInt8)(w:World)(h:Src w b (zk 3++(zk l++(Z7 s.data.toList++r))) false)(y:l<9223372036854775808)(A:s.size<1000000000) :
 Calls Tryz.prog 95 #[.pointer (some ⟨b,0,none⟩)] w fun e o=>Vs w b r (.inr (.inr (.inl (l,s)))) e o:=by
 have u:=Z h;clear h;have m:s.data.toList.length<=1000000000:=by simpa using EN A
 have v:Hid (∀ j,Src j b (Z7 s.data.toList++r) false->Calls Tryz.prog 150 #[.pointer (some ⟨b,0,none⟩)] j fun e o=>e=.returned (.string s)/\Read1 j b r o):=fun j B=>by
  have:=Wn b s.data.toList r j B m
  rwa [VG] at this
 go_enter CS,CG
 go_wp2_with (first
  | (refine(v.out _ q.out.1).mono ?_;rintro e E ⟨rfl,i,d⟩;have t:=Z (And.intro i d);clear i d)
  | (refine(zI b l _ _ p.out.1 y).mono ?_;rintro e D ⟨rfl,g,c⟩;have q:=Z (And.intro g c);clear g c)
  | (refine(zI b 3 _ _ u.out (by omega)).mono ?_;rintro e C ⟨rfl,f,a⟩;have p:=Z (And.intro f a);clear f a))
 go_ret;exact⟨_,rfl,rfl,fun k x=>by simp[WL,Value.ownBlock] at x,t.out.1,(p.out.2.trans q.out.2).trans t.out.2⟩
theorem So(b:Nat)(s:ByteArray)(l:List Ver)(r:List UInt8)(w:World)(h:Src w b (zk 2++(Z7 s.data.toList++(ZG l++r))) false)(K:s.size<1000000000)(B:Lw l)(u:l.length<1000000) :
 Calls Tryz.prog 95 #[.pointer (some ⟨b,0,none⟩)] w fun e y=>Vs w b r (.inr (.inl (s,l))) e y:=by
 have G:=Z h;clear h;have x:s.data.toList.length<=1000000000:=by simpa using EN K
 have J:Hid (∀ o,Src o b (Z7 s.data.toList++(ZG l++r)) false->Calls Tryz.prog 150 #[.pointer (some ⟨b,0,none⟩)] o fun e y=>e=.returned (.string s)/\Read1 o b (ZG l++r) y):=fun o L=>by
  have:=Wn b s.data.toList _ o L x
  rwa [VG] at this
 have I:=Z B;clear B;go_enter CS,CG
 go_wp2_with (first
  | (refine(RF b l r _ t.out.1 I.out u).mono ?_;rintro e S ⟨M,rfl,a,m,g⟩;obtain⟨N,O,rfl⟩:=zg a.1;have c:=Z a;have A:=Z (And.intro m g);clear m g a)
  | (refine(J.out _ q.out.1).mono ?_;rintro e R ⟨rfl,j,f⟩;have t:=Z (And.intro j f);clear j f)
  | (refine(zI b 2 _ _ G.out (by omega)).mono ?_;rintro e Q ⟨rfl,i,d⟩;have q:=Z (And.intro i d);clear i d))
 go_ret;have C:=q.out.2.size;have D:=t.out.2.size;refine⟨_,rfl,⟨_,rfl,c.out.1⟩,fun k p=>?_,A.out.1,(q.out.2.trans t.out.2).trans A.out.2⟩;obtain⟨v,E,p⟩:=p;simp at E;rcases E with rfl|rfl
 .simp[Value.ownBlock] at p
 .have:=c.out.2 k p;omega
theorem Sp(f:Fact)(a:FRead f)(b:Nat)(r:List UInt8)(w:World)(h:Src w b (zw f++r) false) :
 Calls Tryz.prog 95 #[.pointer (some ⟨b,0,none⟩)] w fun e g=>Vs w b r f e g:=by
 rcases f with n|⟨s,l⟩|⟨d,s⟩|x
 .exact Sm b n r w (by simpa [zw] using h) a.1
 .exact So b s l r w (by simpa [zw] using h) a.1.2.2.1 (fun x c=>⟨a.1.1 x c,a.2 x c⟩) a.1.2.1
 .exact TI b d s r w (by simpa [zw] using h) a.1.1 a.1.2
 .exact Sn b r w (by simpa [zw] using h)
def Js(w:World)(b:Nat)(r:List UInt8)(f:Fact)(e:Ending)(c:World):Prop :=
 ∃ a,e=.returned (.tuple #[a,.bool true])/\FRep c a f/\(∀ k,WL a k->w.heap.size<=k)/\Read1 w b r c
theorem QV(f:Fact)(hf:FRead f)(b:Nat)(r:List UInt8)(w:World)(h:Src w b (zS (zw f)++r) false)(K:(zw f).length<9223372036854775808) :
 Calls Tryz.prog 191 #[.pointer (some ⟨b,0,none⟩),.func (.func 95) #[] #[]] w fun e w'=>Js w b r f e w':=by
 have e1:zS (zw f)++r=zk (zw f).length++(zw f++r):=by simp[zS]
 rw[e1] at h;have a0:=h.lt;have hc:=h.cell;have m:Src (w.alloc (.cells #[.string (zp (zk (zw f).length++(zw f++r))),.bool false] 276)) b (zk (zw f).length++(zw f++r)) false:=Blk.alloc h _;have l:Src (w.alloc (.cells #[.string (zp (zk (zw f).length++(zw f++r))),.bool false] 276)) w.heap.size (zk (zw f).length++(zw f++r)) false:=Blk.new w [_,_] _;have G:Fr Nil w (w.alloc (.cells #[.string (zp (zk (zw f).length++(zw f++r))),.bool false] 276)):=(U _ _).alloc _;have V:(w.alloc (.cells #[.string (zp (zk (zw f).length++(zw f++r))),.bool false] 276)).heap.size=w.heap.size+1:=by simp
 have HF:=Z hf;clear h e1 hf;go_enter Tryz.func191,Tryz.ntmps191;go_wp2_with fail;generalize w.alloc (.cells #[.string (zp (zk (zw f).length++(zw f++r))),.bool false] 276)=W0 at m l G V |-;clear hc;refine(zI w.heap.size (zw f).length (zw f++r) W0 l K).mono ?_;rintro e w1 ⟨rfl,u,q⟩;have B:Src w1 b _ false:=Blk.fr m q (by omega);have a1:=q.size;go_wp2_with fail;refine(Wd (zw f).length w.heap.size (zw f++r) false w1 u (by simp)).mono ?_;rintro e a ⟨rfl,c,s⟩;have C:Src a b _ false:=Blk.fr B s (by omega);have a2:=s.size;rw[Fi] at c;rw[EB];have d:=fun ob=>(Blk.alloc c ob).cell;go_wp2_with fail;have v:Src (a.alloc (.cells #[.string (zp (zw f)),.bool false] 276)) w.heap.size r false:=Blk.alloc c _;have D:Src (a.alloc (.cells #[.string (zp (zw f)),.bool false] 276)) b _ false:=Blk.alloc C _;have y:Src (a.alloc (.cells #[.string (zp (zw f)),.bool false] 276)) a.heap.size (zw f++[]) false:=by
  rw[IV];exact Blk.new a [_,_] _
 have t:Fr Nil w (a.alloc (.cells #[.string (zp (zw f)),.bool false] 276)) :=
  (G.trans' (q.trans s) (fun k J e=>by omega)).alloc _
 have X:(a.alloc (.cells #[.string (zp (zw f)),.bool false] 276)).heap.size=a.heap.size+1:=by simp
 generalize a.alloc (.cells #[.string (zp (zw f)),.bool false] 276)=W3 at v D y t X |-;clear d l u c m B C;refine(Sp f HF.out a.heap.size [] W3 y).mono ?_;rintro e Y ⟨fv,rfl,L,j,A,g⟩;have x:Src Y w.heap.size r false:=Blk.fr v g (by omega);have o:Src Y b _ false:=Blk.fr D g (by omega);have T:=A.cell;have d:=x.cell;have E:=o.cell;have M:=o.frozen;have a3:=g.size;go_wp2_with fail;refine(UE a.heap.size [] false Y A).mono ?_;rintro e N ⟨rfl,i⟩;have O:Src N w.heap.size r false:=Blk.fr x i id;have p:Src N b _ false:=Blk.fr o i id;clear T d E M;have d:=O.cell;have E:=p.cell;have M:=p.frozen;go_wp2_with fail;go_ret2;have Q:=t.trans' g (fun k J e=>by omega);have R:Fr (fun k=>k=b) w N:=(Q.trans i).mono (fun _ _ e=>absurd e id);have I:Fr (fun k=>k=b) N ((N.setCell ⟨b,0,none⟩ (.string (zp r))).setCell ⟨b,1,none⟩ (.bool false)):=Fr.set (S:=fun k=>k=b) (Fr.set (S:=fun k=>k=b) (U _ _) (fun _=>rfl) _) (fun _=>rfl) _;have a4:=t.size;exact⟨fv,rfl,(L.fr i (fun _ _=>id)).fr I (fun k J e=>by have:=j k J;omega),fun k J=>by have:=j k J;omega,(Blk.set p 0 _).set 1 _,R.trans I⟩
theorem Lx(a b:List UInt8)(i:b<+:zS a)(d:b≠zS a):ZR 0 0 b=none\/∃ p,b=zk a.length++p/\p.length<a.length:=by
 unfold zS at i d;obtain⟨t,f⟩:=i;rcases GO b.length (zk a.length).length with h|h
 .refine .inl (NQ a.length 0 0 b ?_ (fun e=>by rw[e] at h;omega))
  exact Ec ⟨t,f⟩ (Ep _ _) (by omega)
 .have hpre:zk a.length<+:b:=Ec (l₃:=zk a.length++a) (Ep _ _) ⟨t,f⟩ h
  obtain⟨p,rfl⟩:=hpre;refine .inr ⟨p,rfl,?_⟩;rw[IA] at f;have g:=List.append_cancel_left f;have j:a.length=p.length+t.length:=by rw[<- g];simp
  rcases t with-| ⟨c,t⟩
  .rw[IV] at g;exact absurd (by rw[g]) d
  .simp at j;omega
def QW(w:World)(e:Ending)(a:World):Prop:=e=.returned (.tuple #[.nilIface,.bool false])/\Fr Nil w a
theorem QX(a:List UInt8)(b:Nat)(w:World)(h:Src w b a false)(l:ZR 0 0 a=none) :
 Calls Tryz.prog 191 #[.pointer (some ⟨b,0,none⟩),.func (.func 95) #[] #[]] w fun e s=>QW w e s:=by
 have p:=h.cell;have c:Src (w.alloc (.cells #[.string (zp a),.bool false] 276)) w.heap.size a false:=Blk.new w [_,_] _;have d:Fr Nil w (w.alloc (.cells #[.string (zp a),.bool false] 276)):=(U _ _).alloc _;have m:=Z l;clear h l;go_enter Tryz.func191,Tryz.ntmps191;go_wp2_with fail;generalize w.alloc (.cells #[.string (zp a),.bool false] 276)=o at c d |-;clear p;refine(TG w.heap.size a o c m.out).mono ?_;rintro e t ⟨rfl,f,i⟩;go_wp2_with fail;refine(Wd 0 w.heap.size [] true t f (by simp)).mono ?_;rintro e v ⟨rfl,g,j⟩;have q:=fun r=>(Blk.alloc g r).cell;go_wp2_with fail;go_ret2;exact⟨rfl,(d.trans' (i.trans j) (fun k u e=>by omega)).alloc _⟩
theorem Ov(n:Nat)(p:List UInt8)(b:Nat)(w:World)(h:Src w b (zk n++p) false)(o:n<9223372036854775808)(q:p.length<n) :
 Calls Tryz.prog 191 #[.pointer (some ⟨b,0,none⟩),.func (.func 95) #[] #[]] w fun e s=>QW w e s:=by
 have l:=h.cell;have a:Src (w.alloc (.cells #[.string (zp (zk n++p)),.bool false] 276)) w.heap.size (zk n++p) false:=Blk.new w [_,_] _;have c:Fr Nil w (w.alloc (.cells #[.string (zp (zk n++p)),.bool false] 276)):=(U _ _).alloc _;clear h;go_enter Tryz.func191,Tryz.ntmps191;go_wp2_with fail;generalize w.alloc (.cells #[.string (zp (zk n++p)),.bool false] 276)=j at a c |-;clear l;refine(zI w.heap.size n p j a o).mono ?_;rintro e t ⟨rfl,d,g⟩;go_wp2_with fail;refine(SH n w.heap.size p false t d q).mono ?_;rintro e v ⟨rfl,f,i⟩;have m:=fun r=>(Blk.alloc f r).cell;go_wp2_with fail;go_ret2;exact⟨rfl,(c.trans' (g.trans i) (fun k u e=>by omega)).alloc _⟩
theorem QY(a c:List UInt8)(j:c<+:zS a)(d:c≠zS a)(g:a.length<9223372036854775808)(b:Nat)(w:World)(h:Src w b c false) :
 Calls Tryz.prog 191 #[.pointer (some ⟨b,0,none⟩),.func (.func 95) #[] #[]] w fun e k=>QW w e k:=by
 rcases Lx a c j d with f|⟨p,rfl,i⟩
 .exact QX c b w h f
 .exact Ov a.length p b w h g i
theorem Mk(a:List UInt8)(w:World) :
 Calls Tryz.prog 190 #[.string (zp a)] w fun e b=>e=.returned (.pointer (some ⟨w.heap.size,0,none⟩))/\b=w.alloc (.cells #[.string (zp a),.bool false] 276):=by
 go_enter Tryz.func190,Tryz.ntmps190
 go_wp2
 go_ret;exact⟨rfl,rfl⟩
def zD(a:List Fact):List UInt8:=(a.map fun f=>zS (zw f)).flatten
theorem Jt(n:Nat):0<(zk n).length:=by
 by_cases h:n<128
 .rw[YS h];simp
 .rw[Xm h];simp
theorem QZ(a:List UInt8):0<(zS a).length:=by
 have:=Jt a.length;simp[zS];omega
def P0(w:World)(s:Nat):Nat:=match w.cell? ⟨s,0,none⟩ with
 | some (.string x)=>x.size
 | _=>0
theorem SZ{w:World}{s:Nat}{b:List UInt8}{a:Bool}(h:Src w s b a):P0 w s=b.length:=by
 have:=h.cell 0;simp at this;simp[P0,this,NO]
theorem SRep.yt{w:World}{b s:Nat}{L:SL}{S:SM}{e:List UInt8}{c:Bool}(h:SRep w b L S)(a:Src w s e c):¬SFoot b L s/\¬SRead L s:=by
 refine⟨fun d=>?_,fun d=>?_⟩
 .rcases h.BJ d with h1|h1|h1
  .exact absurd (Ty.inj h1 (Blk.ty a)) (by decide)
  .exact absurd (Ty.inj h1 (Blk.ty a)) (by decide)
  .exact absurd (Ty.inj h1 (Blk.ty a)) (by decide)
 .exact absurd (Ty.inj (h.Ag d) (Blk.ty a)) (by decide)
theorem SRep.src{w g:World}{b s:Nat}{L:SL}{S:SM}{i:List UInt8}{a:Bool}(h:SRep w b L S)(d:Src w s i a)(f:Fr (fun k=>k=s) w g):SRep g b L S :=
 h.fr f (fun _ c e=>(h.yt d).1 (e▸c)) (fun _ c e=>(h.yt d).2 (e▸c))
theorem P1(b:List Fact)(K:∀ f∈b,FRead f/\(zw f).length<9223372036854775808)(a d:List UInt8)(ht:a<+:zS d)(O:a≠zS d)(hb:d.length<9223372036854775808)
 (u:Nat)(L:SL)(S:SM)(w:World)(h:SRep w u L S)
 (t:∀ i,((b.take i).foldl SM.enter S).keys.length<1099511627776/\((b.take i).foldl SM.enter S).hints.length<1000000) :
 Calls Tryz.prog 148 #[.string (zp (zD b++a)),.func (.func 95) #[] #[],.func (.func 96) #[.pointer (some ⟨u,0,none⟩)] #[]] w fun e A =>
  e=.returned (.int .i64 a.length)/\SStep w u L (b.foldl SM.enter S) (fun k=>w.heap.size<=k) A:=by
 have HH:=Z h;have C:=Z K;have s:=Z t;have V:=Z (And.intro ht (And.intro O hb));clear h K t ht O hb;go_enter Tryz.func148,Tryz.ntmps148;go_wp2_with fail;refine(Mk _ w).mono ?_;rintro e w1 ⟨rfl,y⟩;have I:Fr Nil w w1:=by rw[y];exact(U _ _).alloc _
 have Y:Src w1 w.heap.size (zD b++a) false:=by rw[y];exact Blk.new w [_,_] _
 clear y;go_wp2_with fail
 go_loopw [9] (fun _ A=>∃ (i:Nat) (B:SL),i<=b.length/\SRep A u B ((b.take i).foldl SM.enter S)/\Fr (SFoot u L) w A/\(∀ k,SFoot u B k->SFoot u L k\/w.heap.size<=k)/\(∀ k,SRead B k->SRead L k\/w.heap.size<=k)/\Src A w.heap.size (zD (b.drop i)++a) false) (fun _ A=>P0 A w.heap.size)
 case atStart=>exact⟨0,L,by omega,HH.out.nil I,I.mono (fun _ _ e=>absurd e id),fun k o=>.inl o,fun k o=>.inl o,Y⟩
 case round =>
  obtain⟨i,B,hi,c,hF,M,R,hS⟩:=hrel;have g:=Z (And.intro c (And.intro hF (And.intro M (And.intro R hS))));clear c hF M R hS;by_cases r:i<b.length
  .have hSi:Src wr w.heap.size (zS (zw b[i])++(zD (b.drop (i+1))++a)) false:=by
    have:=g.out.2.2.2.2;rw[Hs r] at this
    simpa only[zD,IJ,Ft,IA] using this
   go_wp2_with fail;refine(QV b[i] (C.out _ (Iu r)).1 w.heap.size _ wr hSi (C.out _ (Iu r)).2).mono ?_;rintro e w2 ⟨fv,rfl,a1,Q,E,j⟩;have m:=g.out.1.src g.out.2.2.2.2 j;have a2:=(m.yt E).1;go_wp2_with fail;refine(XB b[i] fv u B _ w2 m a1 (s.out i).1 (s.out i).2).mono ?_;rintro e w3 ⟨rfl,X,x,D,N,T⟩;go_wp2_with fail;have a4:=g.out.2.1.size;have a3:=j.size;have G:Src w3 w.heap.size (zD (b.drop (i+1))++a) false:=Blk.fr E D a2;refine⟨⟨i+1,X,by omega,?_,?_,fun k o=>?_,fun k o=>?_,G⟩,?_⟩
   .rw[FI,IB r,Hm]
    exact x
   .refine(g.out.2.1.trans' j (fun k o e=>by omega)).trans' D (fun k o e=>?_)
    rcases g.out.2.2.1 k e with q|q
    .exact q
    .omega
   .rcases N k o with q|q
    .exact g.out.2.2.1 k q
    .exact .inr (by omega)
   .rcases T k o with q|q
    .exact g.out.2.2.2.1 k q
    .have:=Q k q;exact .inr (by omega)
   .rw[SZ G,SZ hSi]
    have:=QZ (zw b[i]);simp only[Il];omega
  .have hil:i=b.length:=by omega
   subst hil;have l:=g.out.2.2.2.2;rw[EM] at l;have l:Src wr w.heap.size a false:=l;go_wp2_with fail;refine(QY d a V.out.1 V.out.2.1 V.out.2.2 w.heap.size wr l).mono ?_;rintro e w2 ⟨rfl,j⟩;go_wp2_with fail;refine(UE w.heap.size a false w2 (Blk.fr l j id)).mono ?_;rintro e w3 ⟨rfl,a0⟩;go_wp2_with fail;go_ret;have c:=g.out.1;rw[ID] at c;have J:=(j.trans a0);exact⟨rfl,B,c.nil J,g.out.2.1.trans' J (fun k o e=>absurd e id),g.out.2.2.1,g.out.2.2.2.1⟩
end Go.Proofs.YtkhnggkkiefcdaaGreatDoor
namespace Go.Proofs.YtkhnggkkiefcdaaGreatDoor
open Go.RowKit
theorem RG(a b:List Fact):zD (a++b)=zD a++zD b:=by simp[zD]
theorem Wx(f:Fact):(zj f).data.toList=zS (zw f):=by rw[TH];simp[zp]
theorem Vi(a:List Fact)(f:Fact):zD (a++[f])=zD a++(zj f).data.toList:=by
 rw[RG,Wx];simp[zD]
theorem P2(a:List UInt8):[]<+:zS a/\[]≠zS a :=
 ⟨List.nil_prefix,fun e=>by have:=QZ a;rw[<- e] at this;simp at this⟩
end Go.Proofs.YtkhnggkkiefcdaaGreatDoor
namespace Go.Proofs
open Go.Shelf
def Tryz.yl:Go.Shelf.Ren:=⟨fun|101=>221|208=>237|206=>250|n=>n,fun|9=>9|4=>4|3=>3|n=>n,fun|n=>n⟩
theorem Tryz.xi:Go.Proofs.Lays.n101 Tryz.prog Tryz.yl:={
 mixed:=by kernel_rfl
 f101:=Tryz.func221.trans (congrArg some (by kernel_rfl))
 f206:=Tryz.func250.trans (congrArg some (by kernel_rfl))
 f208:=Tryz.func237.trans (congrArg some (by kernel_rfl))
 t3:=Tryz.underlying3
 a3:=Tryz.isAgg3
 z3:=Tryz.sizeOf3
 v3:=Tryz.zeroValue3
 t4:=Tryz.underlying4
 a4:=Tryz.isAgg4
 z4:=Tryz.sizeOf4
 v4:=Tryz.zeroValue4
 t9:=Tryz.underlying9
 a9:=Tryz.isAgg9
 z9:=Tryz.sizeOf9
 v9:=Tryz.zeroValue9}
def Tryz.AF:Go.Shelf.Ren:=⟨fun|244=>235|247=>245|287=>252|321=>255|322=>256|n=>n,fun|9=>9|3=>3|75=>132|4=>4|5=>5|167=>333|37=>150|0=>0|85=>334|2=>2|53=>274|175=>342|46=>299|21=>21|80=>242|n=>n,fun|n=>n⟩
theorem Tryz.xf:Go.Proofs.Lays.n244 Tryz.prog Tryz.AF:={
 mixed:=by kernel_rfl
 f244:=Tryz.func235.trans (congrArg some (by kernel_rfl))
 f247:=Tryz.func245.trans (congrArg some (by kernel_rfl))
 f287:=Tryz.func252.trans (congrArg some (by kernel_rfl))
 f321:=Tryz.func255.trans (congrArg some (by kernel_rfl))
 f322:=Tryz.func256.trans (congrArg some (by kernel_rfl))
 t0:=Tryz.underlying0
 a0:=Tryz.isAgg0
 z0:=Tryz.sizeOf0
 v0:=Tryz.zeroValue0
 t2:=Tryz.underlying2
 a2:=Tryz.isAgg2
 z2:=Tryz.sizeOf2
 v2:=Tryz.zeroValue2
 t3:=Tryz.underlying3
 a3:=Tryz.isAgg3
 z3:=Tryz.sizeOf3
 v3:=Tryz.zeroValue3
 t4:=Tryz.underlying4
 a4:=Tryz.isAgg4
 z4:=Tryz.sizeOf4
 v4:=Tryz.zeroValue4
 t5:=Tryz.underlying5
 a5:=Tryz.isAgg5
 z5:=Tryz.sizeOf5
 v5:=Tryz.zeroValue5
 t9:=Tryz.underlying9
 a9:=Tryz.isAgg9
 z9:=Tryz.sizeOf9
 v9:=Tryz.zeroValue9
 t21:=Tryz.underlying21
 a21:=Tryz.isAgg21
 z21:=Tryz.sizeOf21
 v21:=Tryz.zeroValue21
 t37:=Tryz.underlying150
 a37:=Tryz.isAgg150
 z37:=Tryz.sizeOf150
 v37:=Tryz.zeroValue150
 t46:=Tryz.underlying299
 a46:=Tryz.isAgg299
 z46:=Tryz.sizeOf299
 v46:=Tryz.zeroValue299
 t53:=Tryz.underlying274
 a53:=Tryz.isAgg274
 z53:=Tryz.sizeOf274
 v53:=Tryz.zeroValue274
 t75:=Tryz.underlying132
 a75:=Tryz.isAgg132
 z75:=Tryz.sizeOf132
 v75:=Tryz.zeroValue132
 t85:=Tryz.underlying334
 a85:=Tryz.isAgg334
 z85:=Tryz.sizeOf334
 v85:=Tryz.zeroValue334
 t167:=Tryz.underlying333
 a167:=Tryz.isAgg333
 z167:=Tryz.sizeOf333
 v167:=Tryz.zeroValue333
 t175:=Tryz.underlying342
 a175:=Tryz.isAgg342
 z175:=Tryz.sizeOf342
 v175:=Tryz.zeroValue342}
def Tryz.yj:Go.Shelf.Ren:=⟨fun|172=>220|244=>235|245=>236|247=>245|279=>246|280=>247|281=>248|282=>249|287=>252|316=>125|171=>81|205=>253|321=>255|322=>256|243=>130|246=>165|283=>205|284=>206|285=>207|286=>208|129=>229|317=>228|318=>230|319=>231|320=>232|337=>242|338=>243|n=>n,fun|9=>9|3=>3|75=>132|76=>190|4=>4|5=>5|167=>333|37=>150|0=>0|85=>334|2=>2|168=>336|53=>274|175=>342|46=>299|210=>345|127=>240|145=>350|143=>348|21=>21|171=>293|173=>296|212=>322|51=>323|20=>20|213=>324|232=>340|233=>341|80=>242|n=>n,fun|15=>4|16=>5|17=>1|18=>2|19=>3|n=>n⟩
theorem Tryz.xj:Go.Proofs.Lays.n172 Tryz.prog Tryz.yj:={
 mixed:=by kernel_rfl
 f129:=Tryz.func229.trans (congrArg some (by kernel_rfl))
 f171:=Tryz.func81.trans (congrArg some (by kernel_rfl))
 f172:=Tryz.func220.trans (congrArg some (by kernel_rfl))
 f205:=Tryz.func253.trans (congrArg some (by kernel_rfl))
 f243:=Tryz.func130.trans (congrArg some (by kernel_rfl))
 f244:=Tryz.func235.trans (congrArg some (by kernel_rfl))
 f245:=Tryz.func236.trans (congrArg some (by kernel_rfl))
 f246:=Tryz.func165.trans (congrArg some (by kernel_rfl))
 f247:=Tryz.func245.trans (congrArg some (by kernel_rfl))
 f279:=Tryz.func246.trans (congrArg some (by kernel_rfl))
 f280:=Tryz.func247.trans (congrArg some (by kernel_rfl))
 f281:=Tryz.func248.trans (congrArg some (by kernel_rfl))
 f282:=Tryz.func249.trans (congrArg some (by kernel_rfl))
 f283:=Tryz.func205.trans (congrArg some (by kernel_rfl))
 f284:=Tryz.func206.trans (congrArg some (by kernel_rfl))
 f285:=Tryz.func207.trans (congrArg some (by kernel_rfl))
 f286:=Tryz.func208.trans (congrArg some (by kernel_rfl))
 f287:=Tryz.func252.trans (congrArg some (by kernel_rfl))
 f316:=Tryz.func125.trans (congrArg some (by kernel_rfl))
 f317:=Tryz.func228.trans (congrArg some (by kernel_rfl))
 f318:=Tryz.func230.trans (congrArg some (by kernel_rfl))
 f319:=Tryz.func231.trans (congrArg some (by kernel_rfl))
 f320:=Tryz.func232.trans (congrArg some (by kernel_rfl))
 f321:=Tryz.func255.trans (congrArg some (by kernel_rfl))
 f322:=Tryz.func256.trans (congrArg some (by kernel_rfl))
 f337:=Tryz.func242.trans (congrArg some (by kernel_rfl))
 f338:=Tryz.func243.trans (congrArg some (by kernel_rfl))
 t0:=Tryz.underlying0
 a0:=Tryz.isAgg0
 z0:=Tryz.sizeOf0
 v0:=Tryz.zeroValue0
 t2:=Tryz.underlying2
 a2:=Tryz.isAgg2
 z2:=Tryz.sizeOf2
 v2:=Tryz.zeroValue2
 t3:=Tryz.underlying3
 a3:=Tryz.isAgg3
 z3:=Tryz.sizeOf3
 v3:=Tryz.zeroValue3
 t4:=Tryz.underlying4
 a4:=Tryz.isAgg4
 z4:=Tryz.sizeOf4
 v4:=Tryz.zeroValue4
 t5:=Tryz.underlying5
 a5:=Tryz.isAgg5
 z5:=Tryz.sizeOf5
 v5:=Tryz.zeroValue5
 t9:=Tryz.underlying9
 a9:=Tryz.isAgg9
 z9:=Tryz.sizeOf9
 v9:=Tryz.zeroValue9
 t20:=Tryz.underlying20
 a20:=Tryz.isAgg20
 z20:=Tryz.sizeOf20
 v20:=Tryz.zeroValue20
 t21:=Tryz.underlying21
 a21:=Tryz.isAgg21
 z21:=Tryz.sizeOf21
 v21:=Tryz.zeroValue21
 t37:=Tryz.underlying150
 a37:=Tryz.isAgg150
 z37:=Tryz.sizeOf150
 v37:=Tryz.zeroValue150
 t46:=Tryz.underlying299
 a46:=Tryz.isAgg299
 z46:=Tryz.sizeOf299
 v46:=Tryz.zeroValue299
 t51:=Tryz.underlying323
 a51:=Tryz.isAgg323
 z51:=Tryz.sizeOf323
 v51:=Tryz.zeroValue323
 t53:=Tryz.underlying274
 a53:=Tryz.isAgg274
 z53:=Tryz.sizeOf274
 v53:=Tryz.zeroValue274
 t75:=Tryz.underlying132
 a75:=Tryz.isAgg132
 z75:=Tryz.sizeOf132
 v75:=Tryz.zeroValue132
 t76:=Tryz.underlying190
 a76:=Tryz.isAgg190
 z76:=Tryz.sizeOf190
 v76:=Tryz.zeroValue190
 t85:=Tryz.underlying334
 a85:=Tryz.isAgg334
 z85:=Tryz.sizeOf334
 v85:=Tryz.zeroValue334
 t127:=Tryz.underlying240
 a127:=Tryz.isAgg240
 z127:=Tryz.sizeOf240
 v127:=Tryz.zeroValue240
 t143:=Tryz.underlying348
 a143:=Tryz.isAgg348
 z143:=Tryz.sizeOf348
 v143:=Tryz.zeroValue348
 t145:=Tryz.underlying350
 a145:=Tryz.isAgg350
 z145:=Tryz.sizeOf350
 v145:=Tryz.zeroValue350
 t167:=Tryz.underlying333
 a167:=Tryz.isAgg333
 z167:=Tryz.sizeOf333
 v167:=Tryz.zeroValue333
 t168:=Tryz.underlying336
 a168:=Tryz.isAgg336
 z168:=Tryz.sizeOf336
 v168:=Tryz.zeroValue336
 t171:=Tryz.underlying293
 a171:=Tryz.isAgg293
 z171:=Tryz.sizeOf293
 v171:=Tryz.zeroValue293
 t173:=Tryz.underlying296
 a173:=Tryz.isAgg296
 z173:=Tryz.sizeOf296
 v173:=Tryz.zeroValue296
 t175:=Tryz.underlying342
 a175:=Tryz.isAgg342
 z175:=Tryz.sizeOf342
 v175:=Tryz.zeroValue342
 t210:=Tryz.underlying345
 a210:=Tryz.isAgg345
 z210:=Tryz.sizeOf345
 v210:=Tryz.zeroValue345
 t212:=Tryz.underlying322
 a212:=Tryz.isAgg322
 z212:=Tryz.sizeOf322
 v212:=Tryz.zeroValue322
 t213:=Tryz.underlying324
 a213:=Tryz.isAgg324
 z213:=Tryz.sizeOf324
 t232:=Tryz.underlying340
 a232:=Tryz.isAgg340
 z232:=Tryz.sizeOf340
 v232:=Tryz.zeroValue340
 t233:=Tryz.underlying341
 a233:=Tryz.isAgg341
 z233:=Tryz.sizeOf341
 v233:=Tryz.zeroValue341
 g15:=by kernel_rfl
 g16:=by kernel_rfl
 g17:=by kernel_rfl
 g18:=by kernel_rfl
 g19:=by kernel_rfl}
end Go.Proofs
