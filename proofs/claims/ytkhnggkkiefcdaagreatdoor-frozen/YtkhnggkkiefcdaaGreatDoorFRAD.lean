/- larder: joined texts -/
import Derived.Test.YtkhnggkkiefcdaaGreatDoorFRAA
import Derived.Test.YtkhnggkkiefcdaaGreatDoorFRAC
import Derived.Test.YtkhnggkkiefcdaaGreatDoorChecked
import Derived.Shelf.Abstract
import Derived.Deep.RegionHeld3
import Derived.Lib.EndianBits
namespace Go.Proofs.YtkhnggkkiefcdaaGreatDoor
open Go.RowKit
set_option maxRecDepth 100000
set_option maxHeartbeats 8000000
abbrev Kb:=@Go.bits_join_low
abbrev KC:=@Go.wraps_u64
abbrev Jn:=@Go.Proofs.enters_of
def U8(W:World)(k:Nat):Prop:=∃ c f,W.heap[k]?=some (.cells c 5 f)
abbrev Still (W w:World):Prop:=Fr (U8 W) W w
theorem Still.trans{a b c:World}(h:Still a b)(k:Still b c):Still a c :=
 Fr.trans' h k fun i l o=>Classical.byContradiction fun e=>by
  obtain⟨x,f,g⟩:=o;rw[h.block i l e] at g;exact e ⟨x,f,g⟩
theorem Still.FI{w b:World}{v:Value}{n:Nat}{j:List Value}(h:w.ownsRow 0 5 1 v n j)(f:Fr (fun k=>v.ownBlock=some k) w b):Still w b :=
 f.mono fun i _ a=>by
  rcases ZK h with⟨rfl,_⟩|⟨g,d,c,rfl,e,_⟩
  .simp[Value.ownBlock] at a
  .simp[Value.ownBlock] at a
   subst a;exact⟨_,_,e⟩
theorem Still.of_nil{w a:World}(f:Fr Nil w a):Still w a:=f.mono fun _ _ h=>absurd h id
theorem Blk.still{W w:World}{b:Nat}{c:List Value}{t:TypeId}(h:Blk W b c t)(d:t≠5)(f:Still W w):Blk w b c t :=
 h.fr f fun⟨x,g,a⟩=>by
  rw[Blk] at h;rw[h] at a;simp at a;exact d a.2.1
def Adds(w:World)(v:Value)(n:Nat)(d:List Value)(a:List UInt8)(b:Value)(c:World):Prop :=
 c.ownsRow 0 5 1 b (n+a.length) (d++u8s a)/\Fr (fun k=>v.ownBlock=some k) w c/\(∀ k,b.ownBlock=some k->v.ownBlock=some k\/w.heap.size<=k)
theorem Adds.refl{w:World}{v:Value}{n:Nat}{a:List Value}(h:w.ownsRow 0 5 1 v n a):Adds w v n a [] v w :=
 ⟨by simpa [u8s] using h,O _ _,fun _ b=>.inl b⟩
theorem VI(a b:List UInt8):u8s (a++b)=u8s a++u8s b:=by simp[u8s]
theorem Adds.trans{w r w2:World}{v o q:Value}{n:Nat}{e:List Value}{a b:List UInt8}(h:Adds w v n e a o r)(k:Adds r o (n+a.length) (e++u8s a) b q w2):Adds w v n e (a++b) q w2:=by
 refine⟨?_,?_,fun i l=>?_⟩
 .rw[NQ,VI,<- Nat.add_assoc,<- Mm];exact k.1
 .refine h.2.1.trans' k.2.1 fun i l c=>?_
  rcases h.2.2 i c with g|g
  .exact g
  .omega
 .rcases k.2.2 i l with c|c
  .exact h.2.2 i c
  .exact .inr (NR h.2.1.size c)
theorem Adds.next{w f g:World}{v d e:Value}{n m:Nat}{c:List Value}{a b:List UInt8}(h:Adds w v n c a d f)(i:m=n+a.length)(k:Adds f d m (c++u8s a) b e g):Adds w v n c (a++b) e g:=by
 subst i;exact h.trans k
theorem Adds.of{w d c:World}{v b:Value}{n:Nat}{e:List Value}{a:List UInt8}(h:Adds d v n e a b c)(f:Fr Nil w d):Adds w v n e a b c :=
 ⟨h.1,(f.mono (fun _ _ h=>absurd h id)).trans' h.2.1 (fun _ _ h=>h),fun k g=>(h.2.2 k g).imp id (fun h=>NR f.size h)⟩
theorem Adds.still{w b:World}{v e:Value}{n:Nat}{c:List Value}{a:List UInt8}(h:Adds w v n c a e b)(d:w.ownsRow 0 5 1 v n c):Still w b:=Still.FI d h.2.1
theorem S8:((Tryz.prog.info? 5).map fun i=>(i.zero.map (·.cells.size),i.size,i.bytes))=some (some 1,1,1):=by kernel_rfl
theorem S9(w l:World)(v:Value)(n:Nat)(g:List Value)(h:w.ownsRow 0 5 1 v n g)(c:UInt8)(x:n+1<=1099511627776)(u:Value)(f:u=.int .u8 c.toNat)(t:l=w.alloc (.cells #[u] 5))(N:Nat)(p:N=w.heap.size)(ty:TypeId) :
 ∃ b d,(Builtin.append_ #[150,150] ty #[v,.slice (some ⟨N,0,none⟩) 1 1]).run Tryz.prog l=.ok b d/\Adds w v n g [c] b d:=by
 subst t;subst f;subst p;have q:Blk (w.alloc (.cells #[.int .u8 c.toNat] 5)) w.heap.size [.int .u8 c.toNat] 5:=Blk.new w [.int .u8 c.toNat] _;have r:=za h ((O Nil w).alloc (.cells #[.int .u8 c.toNat] 5)) (fun _ _=>id);obtain⟨b,d,s,m,o,a⟩:=zn (P:=Tryz.prog) 150 ty 5 1 1 MW S8 (by omega) v n g r ⟨w.heap.size,0,none⟩ 1 1 [.int .u8 c.toNat] rfl
  (fun j u f=>by rw[MK,MD,q.cell];exact f) (by simp[Value.oneCell']) (by unfold maxLen;omega) (by omega)
 refine⟨b,d,s,m,((O (fun k=>v.ownBlock=some k) w).alloc _).trans' ((Fr.Ho o).mono (fun i _ h=>h)) (fun i _ h=>h),fun k e=>?_⟩;rcases a with a|a
 .exact .inl (by rw[<- a];exact e)
 .rw[a] at e;simp at e;exact .inr (by omega)
def Z4(W:World)(h:Value)(b:List UInt8):Prop :=
 ∃ g c,h=.func (.func g) #[] c/\(∀ a w,(callFunc g a).run Tryz.prog w=.ok (.enter g a) w)/\∀ w,Still W w->∀ v n f,w.ownsRow 0 5 1 v n f->n+b.length<=1099511627776 ->
  Calls Tryz.prog g (#[v]++c) w fun e i=>∃ d,e=.returned d/\Adds w v n f b d i
theorem Z4.still{W a:World}{c:Value}{b:List UInt8}(h:Z4 W c b)(f:Still W a):Z4 a c b:=by
 obtain⟨g,j,rfl,e,d⟩:=h;exact⟨g,j,rfl,e,fun w i=>d w (f.trans i)⟩
def zg(n:Nat):List UInt8:=if n<128 then [UInt8.ofNat n] else UInt8.ofNat (n%128+128)::zg (n / 128)
theorem ZY{n:Nat}(h:n<128):zg n=[UInt8.ofNat n]:=by rw[zg];simp[h]
theorem Yj{n:Nat}(h:¬n<128):zg n=UInt8.ofNat (n%128+128)::zg (n / 128):=by rw[zg];simp[h]
theorem Pk:∀ m:Fin 256,bits BinOp.or IntKind.u8 ((m.val:Nat):Int) 128=((m.val%128+128:Nat):Int):=by decide +kernel
theorem or128(r:Nat):Value.int .u8 (bits BinOp.or IntKind.u8 ((r:Int)%256) 128)=.int .u8 (UInt8.ofNat (r%128+128)).toNat:=by
 have h:=Pk ⟨r%256,Jk _ (by omega)⟩;have e:((r:Int)%256)=((r%256:Nat):Int):=by omega
 rw[e,h]
 congr 1
 simp only[UInt8.toNat_ofNat'];omega
theorem Zs(b N:Nat)(y:N<9223372036854775808)(w:World)(s:Blk w b [.int .i64 N] 3)(v:Value)(n:Nat)(p:List Value)(m:w.ownsRow 0 5 1 v n p)(t:n+(zg N).length<=1099511627776) :
 Calls Tryz.prog 280 #[v,.pointer (some ⟨b,0,none⟩)] w fun e i=>∃ j,e=.returned j/\Adds w v n p (zg N) j i:=by
 have E:w.cell? ⟨b,0,none⟩=some (.int .i64 N):=by rw[s.cell];rfl
 have z:(N:Int)<=9223372036854775807:=by omega
 obtain⟨C,D,rfl⟩:=zd m;have x:=Z m;clear m s;go_enter Tryz.func280,Tryz.ntmps280;go_wp2_with fail
 go_loopw [0,4] (fun B o i=>∃ (d:List UInt8) (r:Nat),zg N=d++zg r/\r<9223372036854775808/\o=.int .u64 r/\Adds w (.slice C n D) n p d B i) (fun _ o _=>(intOf o).toNat)
 case atStart=>exact⟨[],N,rfl,y,rfl,Adds.refl x.out⟩
 case round =>
  obtain⟨d,r,a,F,rfl,g⟩:=hrel;obtain⟨G,I,rfl⟩:=zd g.1;have q:=Z a;have A:(zg N).length=d.length+(zg r).length:=by rw[a,NQ]
  clear a;by_cases f:r<128
  .have l:(zg r).length=1:=by rw[ZY f];rfl
   have u:Value.int .u8 (r:Int)=.int .u8 (UInt8.ofNat r).toNat:=by congr 1;simp;omega
   have c:=fun ty=>S9 wr _ _ _ _ g.1 (UInt8.ofNat r) (by omega) _ u rfl _ rfl ty;have k:=Z g;clear g u
   go_wp2_with (at_builtin;go_must (refine zL rfl _ _ _ _ rfl _ _ (by rfl) (by rfl) (c _) ?_);rintro j i h)
   go_ret;exact⟨_,rfl,by rw[q.out,ZY f];exact k.out.trans h⟩
  .have hge:(128:Int)<=r:=by omega
   have l:(zg r).length=(zg (r / 128)).length+1:=by rw[Yj f];rfl
   have c:=fun ty=>S9 wr _ _ _ _ g.1 (UInt8.ofNat (r%128+128)) (by omega) _ (or128 r) rfl _ rfl ty;have k:=Z g;clear g
   go_wp2_with (at_builtin;go_must (refine zL rfl _ _ _ _ rfl _ _ (by rfl) (by rfl) (c _) ?_);rintro j i h)
   refine⟨⟨d++[UInt8.ofNat (r%128+128)],r / 128,by rw[q.out,Yj f];simp,by omega,by go_num,k.out.trans h⟩,?_⟩;simp[intOf];omega
theorem XA(W:World)(b N:Nat)(c:N<9223372036854775808)(d:Blk W b [.int .i64 N] 3) :
 Z4 W (.func (.func 280) #[] #[.pointer (some ⟨b,0,none⟩)]) (zg N) :=
 ⟨_,_,rfl,Jn Tryz.func280 (by kernel_rfl) rfl,fun w f v n g e a=>Zs b N c w (d.still (by decide) f) v n g e a⟩
theorem UZ(x:Int)(w:World) :
 Calls Tryz.prog 277 #[.int .i64 x] w fun e a=>e=.returned (.func (.func 280) #[] #[.pointer (some ⟨w.heap.size,0,none⟩)])/\a=w.alloc (.cells #[.int .i64 x] 3):=by
 go_enter Tryz.func277,Tryz.ntmps277
 go_wp2
 go_ret;exact⟨rfl,rfl⟩
theorem Ze(W:World)(x:Int)(w:World)(b:Fr Nil W w) :
 Calls Tryz.prog 277 #[.int .i64 x] w fun e a=>e=.returned (.func (.func 280) #[] #[.pointer (some ⟨w.heap.size,0,none⟩)])/\Blk a w.heap.size [.int .i64 x] 3/\Fr Nil W a:=by
 refine(UZ x w).mono ?_;rintro e a ⟨rfl,rfl⟩;exact⟨rfl,Blk.new w [.int .i64 x] _,b.alloc _⟩
def zH(s:List UInt8):List UInt8:=zg s.length++s
theorem Qv(w:World)(v:Value)(n:Nat)(e:List Value)(h:w.ownsRow 0 5 1 v n e)(s:ByteArray)(l:n+s.size<=1099511627776)(ty:TypeId) :
 ∃ b c,(Builtin.append_ #[150,9] ty #[v,.string s]).run Tryz.prog w=.ok b c/\Adds w v n e s.data.toList b c:=by
 obtain⟨b,c,j,f,g,a⟩:=Zn (P:=Tryz.prog) (w:=w) 150 9 ty 5 MW Lt S8 v n e h s (by unfold maxLen;omega) (by omega);refine⟨b,c,j,by simpa using f,(Fr.Ho g).mono (fun i _ h=>h),fun k d=>?_⟩;rcases a with a|a
 .exact .inl (by rw[<- a];exact d)
 .rw[a] at d;simp at d;exact .inr (by omega)
theorem Ru(b:Nat)(s:ByteArray)(A:s.size<9223372036854775808)(w:World)(j:Blk w b [.string s] 9)(v:Value)(n:Nat)(r:List Value)(o:w.ownsRow 0 5 1 v n r)(a:n+(zH s.data.toList).length<=1099511627776) :
 Calls Tryz.prog 285 #[v,.pointer (some ⟨b,0,none⟩)] w fun e p=>∃ x,e=.returned x/\Adds w v n r (zH s.data.toList) x p:=by
 have K:w.cell? ⟨b,0,none⟩=some (.string s):=by rw[j.cell];rfl
 obtain⟨E,F,rfl⟩:=zd o;have z:Hid (n+(zg s.size).length+s.size<=1099511627776):=by unfold zH at a;simp at a;unfold Hid;omega
 have t:Hid (∀ q,Still w q->q.cell? ⟨b,0,none⟩=some (.string s)):=by
  intro q h;rw[(j.still (by decide) h).cell];rfl
 have y:=Z j;have u:=Z o;clear j o;go_enter Tryz.func285,Tryz.ntmps285;go_wp2_with fail
 go_region_held3 (fun p=>p.cell? ⟨b,0,none⟩=some (.string s)) (first|go_keep|assumption)
  (first
  | (go_at_call 280;refine(Zs _ s.size A _ (by first|exact g|exact g.drew) (.slice E n F) n r (za (S:=Nil) u.out z8 (fun _ _=>id)) (by unfold zH at a;simp at a;omega)).mono ?_;rintro e I ⟨L,rfl,f⟩;have c:Still w I:=(Still.of_nil z8).trans (f.still (za (S:=Nil) u.out z8 (fun _ _=>id)));have C:=t.out _ c;have d:=Z f;clear f)
  | (go_at_call 277;refine(Ze w _ _ z8).mono ?_;rintro e G ⟨rfl,g,m⟩;have B:G.cell? ⟨b,0,none⟩=some (.string s):=by rw[(y.out.fr m id).cell];rfl)
  | (refine Zi (by rfl) _ _ _ _ (by rfl) _ _ (by rfl) (by rfl) (Qv _ _ _ _ (za (S:=Nil) d.out.1 z8 (fun _ _=>id)) s z.out _) ?_;intro M J l;have i:Still w J:=(c.trans (Still.of_nil z8)).trans (l.still (za (S:=Nil) d.out.1 z8 (fun _ _=>id)));have D:=t.out _ i;have k:=Z l;clear l))
 go_wp2
 go_ret;have e:zH s.data.toList=zg s.size++s.data.toList:=by simp[zH]
 rw[e];exact⟨_,rfl,(d.out.of z8).trans (k.out.of z8)⟩
theorem Rv(s:ByteArray)(w:World) :
 Calls Tryz.prog 284 #[.string s] w fun e a=>e=.returned (.func (.func 285) #[] #[.pointer (some ⟨w.heap.size,0,none⟩)])/\a=w.alloc (.cells #[.string s] 9):=by
 go_enter Tryz.func284,Tryz.ntmps284
 go_wp2
 go_ret;exact⟨rfl,rfl⟩
theorem Uw(W:World)(b:Nat)(s:ByteArray)(e:s.size<9223372036854775808)(c:Blk W b [.string s] 9) :
 Z4 W (.func (.func 285) #[] #[.pointer (some ⟨b,0,none⟩)]) (zH s.data.toList) :=
 ⟨_,_,rfl,Jn Tryz.func285 (by kernel_rfl) rfl,fun w f v n g d a=>Ru b s e w (c.still (by decide) f) v n g d a⟩
def Za(W:World):List Value->List (List UInt8)->Prop
 | [],[]=>True
 | p::c,b::a=>Z4 W p b/\Za W c a
 | _,_=>False
theorem Za.still{W a:World}(f:Still W a):∀ {c:List Value}{b:List (List UInt8)},Za W c b->Za a c b
 | [],[],_=>trivial
 | _::_,_::_,h=>⟨h.1.still f,Za.still f h.2⟩
theorem Za.length{W:World}:∀ {c:List Value}{a:List (List UInt8)},Za W c a->c.length=a.length
 | [],[],_=>rfl
 | _::c,_::a,h=>by simp[Za.length h.2]
theorem Za.get{W:World}:∀ {b:List Value}{a:List (List UInt8)},Za W b a->∀ (i:Nat)(c:i<b.length)(d:i<a.length),Z4 W b[i] a[i]
 | [],[],_,i,c,_=>by simp at c
 | _::b,_::a,h,0,_,_=>h.1
 | _::b,_::a,h,i+1,c,d=>Za.get h.2 i (by simpa using c) (by simpa using d)
theorem Xj(a:List (List UInt8))(i:Nat):(a.take i).flatten.length<=a.flatten.length:=by
 have h:=LH (fun l=>(List.flatten l).length) (Mv i a);simp only[LK,NQ] at h;omega
theorem WC(b:Nat)(N:Value)(d:List Value)(a:List (List UInt8))(w:World)(Y:Blk w b [N] 368)(s:w.ownsRow 0 365 1 N d.length d)(hp:Za w d a)
 (v:Value)(n:Nat)(T:List Value)(L:w.ownsRow 0 5 1 v n T)(a0:n+a.flatten.length<=1099511627776) :
 Calls Tryz.prog 281 #[v,.pointer (some ⟨b,0,none⟩)] w fun e R=>∃ v',e=.returned v'/\Adds w v n T a.flatten v' R:=by
 have hc:w.cell? ⟨b,0,none⟩=some N:=by rw[Y.cell];rfl
 have hn:=zu s;unfold maxLen at hn;have A:=hp.length;obtain⟨va,vc,rfl⟩:=zd L;obtain⟨sa,sc,rfl⟩:=zd s;have X:=Z L;have HS:=Z s;have t:=Z A;clear Y L A;go_enter Tryz.func281,Tryz.ntmps281;go_wp2_with fail
 go_loopw [0,8] (fun t0 Q R=>∃ i:Nat,i<=d.length/\Q=.int .i64 i/\Adds w (.slice va n vc) n T (a.take i).flatten t0 R) (fun _ Q _=>d.length-(intOf Q).toNat)
 case atStart=>exact⟨0,Me _,rfl,Adds.refl X.out⟩
 case round =>
  obtain⟨i,hi,rfl,q⟩:=hrel;have D:=q.still X.out;obtain⟨m,K⟩:∃ m,m=n+(a.take i).flatten.length:=⟨_,rfl⟩;have l:=q.1;rw[<- K] at l;obtain⟨ta,tc,rfl⟩:=zd l;have HW:=Z l;have V:=Z K;clear l K;by_cases r:i<d.length
  .obtain⟨pg,rfl⟩:∃ g,sa=some ⟨g,0,none⟩:=by
    rcases s.2 with⟨o,h0⟩|⟨g,G,a1,o,_⟩
    .omega
    .simp at o;exact⟨g,o.1⟩
   have C:wr.ownsRow 0 365 1 (.slice (some ⟨pg,0,none⟩) d.length sc) d.length d:=za s D (fun k hk hu=>by
    rcases ZK s with⟨o,_⟩|⟨g,G,c,o,hg,_⟩
    .cases o
    .simp at o
     simp[Value.ownBlock] at hk;obtain⟨x,f,M⟩:=hu;rw[<- hk,o.1] at M;rw[Blk] at hg;rw[hg] at M;simp at M)
   have z:i<a.length:=by rw[<- t.out];exact r
   obtain⟨g,lb,B,eg,h⟩:=hp.get i r z;have I:=own_cell? C i _ (NZ r);rw[B] at I;have j:(a.take (i+1)).flatten=(a.take i).flatten++a[i]:=by rw[Mq z,LK];simp
   have J:=Xj a (i+1);rw[j,NQ] at J;have u:=Z j;have HC:=Z h;have E:=Z q;clear C j h q B;go_wp2_with fail;refine(HC.out wr D _ _ _ HW.out (by rw[V.out];omega)).mono ?_;rintro e w2 ⟨v2,rfl,y⟩;have F:=Z (E.out.next V.out y);clear y
   go_wp2
   refine⟨⟨i+1,by omega,by go_num,by rw[u.out];exact F.out⟩,?_⟩;simp[intOf];omega
  .have e:i=d.length:=by omega
   have p:(a.take i).flatten=a.flatten:=by rw[Mj (by rw[e,t.out];exact NS _)]
   rw[p] at q;have E:=Z q;clear p q
   go_wp2
   go_ret;exact⟨_,rfl,E.out⟩
theorem WD(a:Option Addr)(c b:Nat)(w:World) :
 Calls Tryz.prog 279 #[.slice a c b] w fun e d=>e=.returned (.func (.func 281) #[] #[.pointer (some ⟨w.heap.size,0,none⟩)])/\d=w.alloc (.cells #[.slice a c b] 368):=by
 go_enter Tryz.func279,Tryz.ntmps279
 go_wp2
 go_ret;exact⟨rfl,rfl⟩
theorem W7{W w:World}{j:Value}{n:Nat}{a:List Value}{t:TypeId}{k:Nat}(m:t≠5)(h:W.ownsRow 0 t k j n a)(f:Still W w):w.ownsRow 0 t k j n a :=
 za h f (fun i d o=>by
  rcases ZK h with⟨rfl,_⟩|⟨g,l,c,rfl,e,_⟩
  .simp[Value.ownBlock] at d
  .simp[Value.ownBlock] at d
   obtain⟨x,f,b⟩:=o;rw[<- d] at b;rw[Blk] at e;rw[e] at b;simp at b;exact m b.2.1)
theorem Qw(W:World)(b:Nat)(f:Value)(a:List Value)(c:List (List UInt8))(g:Blk W b [f] 368)(j:W.ownsRow 0 365 1 f a.length a)(i:Za W a c) :
 Z4 W (.func (.func 281) #[] #[.pointer (some ⟨b,0,none⟩)]) c.flatten :=
 ⟨_,_,rfl,Jn Tryz.func281 (by kernel_rfl) rfl,fun w e v n k h d =>
  WC b f a c w (g.still (by decide) e) (W7 (by decide) j e) (i.still e) v n k h d⟩
def ZZ(l:List Nat):List UInt8:=zg l.length++(l.map zg).flatten
theorem Sa(J R g o c:Nat)(l:List Nat)(row:List Value)(t:TypeId)(ht:t≠5)(hl:∀ x∈l,x<9223372036854775808)(a3:l.length<1000000)(w:World)
 (D:Blk w J [.slice (some ⟨g,o,none⟩) l.length c] 26)(T:Blk w R [.func (.func 277) #[] #[]] 366)
 (hr:Blk w g row t)(r:∀ i (h:i<l.length),row[o+i]?=some (.int .i64 (l[i]:Nat)))
 (v:Value)(n:Nat)(K:List Value)(X:w.ownsRow 0 5 1 v n K)(q:n+(ZZ l).length<=1099511627776) :
 Calls Tryz.prog 296 #[v,.pointer (some ⟨J,0,none⟩),.pointer (some ⟨R,0,none⟩)] w fun e Y=>∃ v',e=.returned v'/\Adds w v n K (ZZ l) v' Y:=by
 have a0:w.cell? ⟨J,0,none⟩=some (.slice (some ⟨g,o,none⟩) l.length c):=by rw[D.cell];rfl
 obtain⟨va,vc,rfl⟩:=zd X;have Q:=Z X;have H1:=Z D;clear D X;have p:n+(zg l.length).length+((l.map zg).flatten).length<=1099511627776:=by simp only[ZZ,NQ] at q;omega
 have HL:=Z p;clear p q;have HR:=Z hr;have H2:=Z T;have C:=Z r;have N:=Z hl;clear hr T r hl;go_enter Tryz.func296,Tryz.ntmps296
 go_wp2_with (first
  | (go_at_call 280;refine(Zs w.heap.size l.length (by omega) _ b (.slice va n vc) n K (za (S:=Nil) Q.out a (fun _ _=>id)) (by have:=HL.out;omega)).mono ?_;rintro e w3 ⟨v3,rfl,E⟩;refine Hid.out ?_)
  | (go_at_call 277;refine(Ze w _ _ (O _ _)).mono ?_;rintro e w2 ⟨rfl,b,a⟩))
 have A:=Z (E.of a);have s:=A.out.still Q.out;have a2:w3.cell? ⟨J,0,none⟩=some (.slice (some ⟨g,o,none⟩) l.length c):=by rw[(H1.out.still (by decide) s).cell];rfl
 clear E b a s;refine Z ?_;go_wp2_with fail
 go_loopw [0,14] (fun t0 z Y=>∃ i:Nat,i<=l.length/\z=.int .i64 i/\Adds w (.slice va n vc) n K (zg l.length++((l.take i).map zg).flatten) t0 Y) (fun _ z _=>l.length-(intOf z).toNat)
 case atStart=>exact⟨0,Me _,rfl,by simpa using A.out⟩
 case round =>
  obtain⟨i,hi,rfl,u⟩:=hrel;have I:=u.still Q.out;obtain⟨m,V⟩:∃ m,m=n+(zg l.length++((l.take i).map zg).flatten).length:=⟨_,rfl⟩;have f:=u.1;rw[<- V] at f;obtain⟨ta,tc,rfl⟩:=zd f;have HW:=Z f;have HM:=Z V;clear f V;by_cases y:i<l.length
  .have hcg:wr.cell? ⟨g,o+i,none⟩=some (.int .i64 (l[i]:Nat)):=by rw[(HR.out.still ht I).cell];exact C.out i y
   have a1:wr.cell? ⟨R,0,none⟩=some (.func (.func 277) #[] #[]):=by rw[(H2.out.still (by decide) I).cell];rfl
   have hx:=N.out l[i] (NV y);have d:zg l.length++((l.take (i+1)).map zg).flatten=(zg l.length++((l.take i).map zg).flatten)++zg l[i]:=by
    rw[Mq y,ML,LK];simp
   have G:m+(zg l[i]).length<=1099511627776:=by
    have D:=Xj (l.map zg) (i+1);have T:=HL.out;rw[<- Ka] at D;have h3:=LH List.length d;rw[HM.out];simp only[NQ] at h3 |-;omega
   have j:=Z d;have L:=Z u;have B:=Z G;clear d u G;generalize l[i]=x at hcg hx j B
   go_wp2_with (first
    | (go_at_call 280;refine(Zs wr.heap.size x hx _ b (.slice ta m tc) m _ (za (S:=Nil) HW.out a (fun _ _=>id)) B.out).mono ?_;rintro e w5 ⟨v5,rfl,F⟩;refine Hid.out ?_)
    | (go_at_call 277;refine(Ze wr _ _ (O _ _)).mono ?_;rintro e w4 ⟨rfl,b,a⟩))
   have M:=Z (L.out.next HM.out (F.of a));clear F b a;refine Z ?_
   go_wp2
   refine⟨⟨i+1,by omega,by go_num,by rw[j.out];exact M.out⟩,?_⟩;simp[intOf];omega
  .have e:i=l.length:=by omega
   have k:zg l.length++((l.take i).map zg).flatten=ZZ l:=by rw[e,Mz];rfl
   rw[k] at u;have L:=Z u;clear k u
   go_wp2
   go_ret;exact⟨_,rfl,L.out⟩
structure Ver where
 node:Int
 seq:Int
 o0:Int
 o1:Int
 o2:Int
 o3:Int
 value:ByteArray
 gone:Bool
def Ver.cells(v:Ver):List Value:=[.int .i64 v.node,.int .i64 v.seq,.int .i64 v.o0,.int .i64 v.o1,.int .i64 v.o2,.int .i64 v.o3,.string v.value,.bool v.gone]
theorem Ver.Gb(v:Ver):v.cells.length=8:=rfl
def isN(x:Int):Prop:=0<=x/\x<9223372036854775808
structure Ver.Nat(v:Ver):Prop where
 node:isN v.node
 seq:isN v.seq
 o0:isN v.o0
 o1:isN v.o1
 o2:isN v.o2
 o3:isN v.o3
 size:v.value.size<1000000000
def Zj(v:Ver):List UInt8:=zg v.node.toNat++(zg v.seq.toNat++(ZZ [v.o0.toNat,v.o1.toNat,v.o2.toNat,v.o3.toNat]++zH v.value.data.toList))
theorem Sb(a:Option Addr)(n c:Nat)(w:World) :
 Calls Tryz.prog 293 #[.slice a n c,.func (.func 277) #[] #[]] w fun e b =>
  e=.returned (.func (.func 296) #[] #[.pointer (some ⟨w.heap.size,0,none⟩),.pointer (some ⟨w.heap.size+1,0,none⟩)]) /\
  b=(w.alloc (.cells #[.slice a n c] 26)).alloc (.cells #[.func (.func 277) #[] #[]] 366):=by
 go_enter Tryz.func293,Tryz.ntmps293
 go_wp2
 go_ret;exact⟨rfl,rfl⟩
theorem Rw(W:World)(a:Option Addr)(n c:Nat)(w:World)(g:Fr Nil W w) :
 Calls Tryz.prog 293 #[.slice a n c,.func (.func 277) #[] #[]] w fun e b =>
  ∃ d f,e=.returned (.func (.func 296) #[] #[.pointer (some ⟨d,0,none⟩),.pointer (some ⟨f,0,none⟩)]) /\
  Blk b d [.slice a n c] 26/\Blk b f [.func (.func 277) #[] #[]] 366/\Fr Nil W b:=by
 refine(Sb a n c w).mono ?_;rintro e b ⟨rfl,rfl⟩;refine⟨_,_,rfl,(Blk.new w [.slice a n c] _).alloc _,?_,(g.alloc _).alloc _⟩;have:=Blk.new (w.alloc (.cells #[.slice a n c] 26)) [.func (.func 277) #[] #[]] 366
 simpa using this
theorem VJ(W:World)(s:ByteArray)(w:World)(b:Fr Nil W w) :
 Calls Tryz.prog 284 #[.string s] w fun e a=>e=.returned (.func (.func 285) #[] #[.pointer (some ⟨w.heap.size,0,none⟩)])/\Blk a w.heap.size [.string s] 9/\Fr Nil W a:=by
 refine(Rv s w).mono ?_;rintro e a ⟨rfl,rfl⟩;exact⟨rfl,Blk.new w [.string s] _,b.alloc _⟩
theorem Rx(W:World)(g n c:Nat)(a:List Value)(w:World)(f:Fr Nil W w)(h:Blk w g a 365) :
 Calls Tryz.prog 279 #[.slice (some ⟨g,0,none⟩) n c] w fun e d =>
  ∃ b,e=.returned (.func (.func 281) #[] #[.pointer (some ⟨b,0,none⟩)])/\Blk d b [.slice (some ⟨g,0,none⟩) n c] 368/\Blk d g a 365/\Fr Nil W d:=by
 refine(WD _ n c w).mono ?_;rintro e d ⟨rfl,rfl⟩;exact⟨_,rfl,Blk.new w [.slice (some ⟨g,0,none⟩) n c] _,h.alloc _,f.alloc _⟩
theorem Qx(W:World)(d e g o c:Nat)(l:List Nat)(row:List Value)(t:TypeId)(k:t≠5)(q:∀ x∈l,x<9223372036854775808)(f:l.length<1000000)
 (m:Blk W d [.slice (some ⟨g,o,none⟩) l.length c] 26)(p:Blk W e [.func (.func 277) #[] #[]] 366)
 (s:Blk W g row t)(b:∀ i (h:i<l.length),row[o+i]?=some (.int .i64 (l[i]:Nat))) :
 Z4 W (.func (.func 296) #[] #[.pointer (some ⟨d,0,none⟩),.pointer (some ⟨e,0,none⟩)]) (ZZ l) :=
 ⟨_,_,rfl,Jn Tryz.func296 (by kernel_rfl) rfl,fun w j v n u r a =>
  Sa d e g o c l row t k q f w (m.still (by decide) j) (p.still (by decide) j) (s.still k j) b v n u r a⟩
theorem T0(v:Ver)(u:v.Nat)(w:World) :
 Calls Tryz.prog 289 #[.agg v.cells.toArray] w fun e h=>∃ b,e=.returned (.func (.func 281) #[] #[.pointer (some ⟨b,0,none⟩)])/\Z4 h (.func (.func 281) #[] #[.pointer (some ⟨b,0,none⟩)]) (Zj v)/\Fr Nil w h:=by
 have d:Blk (w.alloc (.cells v.cells.toArray 37)) w.heap.size v.cells 37:=Blk.new w v.cells _;have s:Fr Nil w (w.alloc (.cells v.cells.toArray 37)):=(O _ _).alloc _;obtain⟨c,f,M,Q,R,T,a,gone⟩:=v;simp only[Ver.cells] at d s |-;go_enter Tryz.func289,Tryz.ntmps289;go_wp2_with fail;obtain⟨N,hN⟩:∃ N,w.heap.size=N:=⟨_,rfl⟩;obtain⟨r,L⟩:∃ r,w.alloc (.cells #[.int .i64 c,.int .i64 f,.int .i64 M,.int .i64 Q,.int .i64 R,.int .i64 T,.string a,.bool gone] 37)=r:=⟨_,rfl⟩;rw[hN] at d |-;rw[L] at d s |-;clear L hN;have a5:r.cell? ⟨N,0,none⟩=some (.int .i64 c):=by rw[d.cell];rfl
 have a6:r.cell? ⟨N,1,none⟩=some (.int .i64 f):=by rw[d.cell];rfl
 have a7:r.cell? ⟨N,6,none⟩=some (.string a):=by rw[d.cell];rfl
 have y:Hid (∀ h,Fr Nil r h->h.cell? ⟨N,0,none⟩=some (.int .i64 c)/\h.cell? ⟨N,1,none⟩=some (.int .i64 f)/\h.cell? ⟨N,6,none⟩=some (.string a)):=by
  intro h hf;have:=(d.fr hf id).cell;exact⟨by rw[this];rfl,by rw[this];rfl,by rw[this];rfl⟩
 have HB:=Z d;clear d
 go_region_held3 (fun h=>h.cell? ⟨N,0,none⟩=some (.int .i64 c)/\h.cell? ⟨N,1,none⟩=some (.int .i64 f)/\h.cell? ⟨N,6,none⟩=some (.string a)) (first|assumption|exact y.out _ z8)
  (first
  | (go_at_call 279;refine(Rx w5 _ _ _ _ _ z8 (by exact Blk.new _ [_,_,_,_] _)).mono ?_;rintro e l ⟨b6,rfl,B,K,g⟩;have j:=p.trans g;have b4:=y.out l j)
  | (go_at_call 284;refine(VJ w4 _ _ z8).mono ?_;rintro e w5 ⟨rfl,a4,k⟩;have p:=o.trans k;have b3:=y.out w5 p)
  | (go_at_call 293;refine(Rw w3 _ _ _ _ z8).mono ?_;rintro e w4 ⟨b1,b2,rfl,Y,A,t⟩;have o:=m.trans t;have b0:=y.out w4 o)
  | (go_at_call 277;refine(Ze w2 _ _ z8).mono ?_;rintro e w3 ⟨rfl,X,D⟩;have m:=C.trans D;have a9:=y.out w3 m)
  | (go_at_call 277;refine(Ze r _ _ z8).mono ?_;rintro e w2 ⟨rfl,V,C⟩;have a8:=y.out w2 C))
 have an:isN c:=u.node;have aq:isN f:=u.seq;have a0:isN M:=u.o0;have a1:isN Q:=u.o1;have a2:isN R:=u.o2;have a3:isN T:=u.o3;have az:a.size<1000000000:=u.size;unfold isN at an aq a0 a1 a2 a3;have F:Z4 l (.func (.func 280) #[] #[.pointer (some ⟨r.heap.size,0,none⟩)]) (zg c.toNat):=XA l _ c.toNat (by omega) (by rw[Lv an.1];exact(((V.fr D id).fr t id).fr k id).fr g id);have G:Z4 l (.func (.func 280) #[] #[.pointer (some ⟨w2.heap.size,0,none⟩)]) (zg f.toNat):=XA l _ f.toNat (by omega) (by rw[Lv aq.1];exact((X.fr t id).fr k id).fr g id);have I:Z4 l (.func (.func 296) #[] #[.pointer (some ⟨b1,0,none⟩),.pointer (some ⟨b2,0,none⟩)]) (ZZ [M.toNat,Q.toNat,R.toNat,T.toNat]) :=
  Qx l b1 b2 N 2 4 [M.toNat,Q.toNat,R.toNat,T.toNat] _ 37 (by decide) (by
   intro x hx;simp only[Mr,LO,JG] at hx;rcases hx with rfl|rfl|rfl|rfl <;> omega) (by simp) ((Y.fr k id).fr g id) ((A.fr k id).fr g id) (HB.out.fr j id) (by
   intro i hi;simp only[Mh,ME] at hi;have:i=0\/i=1\/i=2\/i=3:=by omega
   rcases this with rfl|rfl|rfl|rfl
   .exact LH (fun z=>some (Value.int .i64 z)) (Lv a0.1).symm
   .exact LH (fun z=>some (Value.int .i64 z)) (Lv a1.1).symm
   .exact LH (fun z=>some (Value.int .i64 z)) (Lv a2.1).symm
   .exact LH (fun z=>some (Value.int .i64 z)) (Lv a3.1).symm)
 have J:Z4 l (.func (.func 285) #[] #[.pointer (some ⟨w4.heap.size,0,none⟩)]) (zH a.data.toList):=Uw l _ a (by omega) ((a4.fr g id));have q:l.ownsRow 0 365 1 (.slice (some ⟨w5.heap.size,0,none⟩) 4 4) 4 _:=ZQ K (NS _) (by unfold maxLen;omega) (by rfl) (by rfl);have E:=Qw l _ _ _ [_,_,_,_] B q ⟨F,G,I,J,trivial⟩;have HG:=Z E;have HF:=Z (s.trans j);clear F G I J q E B K
 go_wp2
 go_ret;refine⟨_,rfl,?_,HF.out⟩;have:=HG.out;simp only[Lp,List.flatten_nil,MB] at this;exact this
theorem Z4.FY{W w:World}{g:FuncId}{p:Value}{c:List UInt8}(h:Z4 W (.func (.func g) #[] #[p]) c)(k:Still W w){v:Value}{n:Nat}{d:List Value}(j:w.ownsRow 0 5 1 v n d)(a:n+c.length<=1099511627776) :
 Calls Tryz.prog g #[v,p] w fun e l=>∃ f,e=.returned f/\Adds w v n d c f l:=by
 obtain⟨m,o,b,_,i⟩:=h;simp only[Value.func.injEq,Fn.func.injEq] at b;obtain⟨rfl,_,rfl⟩:=b;exact i w k v n d j a
def Zl(l:List Ver):List Value:=l.flatMap Ver.cells
theorem Ux(l:List Ver):∀ (k j:Nat)(h:k<l.length)(_:j<8),(Zl l)[k*8+j]?=l[k].cells[j]?:=by
 induction l with
 | nil=>intro k j h;simp at h
 | cons e l c =>
  intro k j h a;cases k with
  | zero =>
   simp only[Zl,LF,Nat.zero_mul,MD,LG];exact LL (by rw[Ver.Gb];exact a)
  | succ k =>
   have:=c k j (by simpa using h) a;have b:(k+1)*8+j=k*8+j+8:=by omega
   simp only[Zl,LF,b,KB] at this |-;rw[KM (by rw[Ver.Gb];omega),Ver.Gb,show k*8+j+8-8=k*8+j by omega];exact this
theorem Uy(l:List Ver):∀ u∈Zl l,u.oneCell'=true:=by
 intro u a;simp only[Zl,Jm] at a;obtain⟨e,_,a⟩:=a;simp only[Ver.cells,Mr,LO,JG] at a;rcases a with rfl|rfl|rfl|rfl|rfl|rfl|rfl|rfl <;> rfl
def Zb(l:List Ver):List UInt8:=zg l.length++(l.map Zj).flatten
theorem Sc(L V:Nat)(lv:Value)(l:List Ver)(hl:∀ x∈l,x.Nat)(a5:l.length<1000000)(w:World)
 (B:Blk w L [lv] 61)(X:Blk w V [.func (.func 289) #[] #[]] 372)
 (hr:w.ownsRow 0 37 8 lv l.length (Zl l))
 (v:Value)(n:Nat)(M:List Value)(ho:w.ownsRow 0 5 1 v n M)(p:n+(Zb l).length<=1099511627776) :
 Calls Tryz.prog 292 #[v,.pointer (some ⟨L,0,none⟩),.pointer (some ⟨V,0,none⟩)] w fun e w'=>∃ v',e=.returned v'/\Adds w v n M (Zb l) v' w':=by
 have a2:w.cell? ⟨L,0,none⟩=some lv:=by rw[B.cell];rfl
 obtain⟨va,vc,rfl⟩:=zd ho;obtain⟨la,lc,rfl⟩:=zd hr;have T:=Z ho;have H1:=Z B;clear B ho;have o:n+(zg l.length).length+((l.map Zj).flatten).length<=1099511627776:=by simp only[Zb,NQ] at p;omega
 have HL:=Z o;clear o p;have HR:=Z hr;have H2:=Z X;have R:=Z hl;clear hr X hl;go_enter Tryz.func292,Tryz.ntmps292
 go_wp2_with (first
  | (go_at_call 280;refine(Zs w.heap.size l.length (by omega) _ E (.slice va n vc) n M (za (S:=Nil) T.out s (fun _ _=>id)) (by have:=HL.out;omega)).mono ?_;rintro e w3 ⟨v3,rfl,C⟩;refine Hid.out ?_)
  | (go_at_call 277;refine(Ze w _ _ (O _ _)).mono ?_;rintro e w2 ⟨rfl,E,s⟩))
 have z:=Z (C.of s);have q:=z.out.still T.out;have a4:w3.cell? ⟨L,0,none⟩=some (.slice la l.length lc):=by rw[(H1.out.still (by decide) q).cell];rfl
 clear C E s q;refine Z ?_;go_wp2_with fail
 go_loopw [0,14] (fun t0 u w'=>∃ i:Nat,i<=l.length/\u=.int .i64 i/\Adds w (.slice va n vc) n M (zg l.length++((l.take i).map Zj).flatten) t0 w') (fun _ u _=>l.length-(intOf u).toNat)
 case atStart=>exact⟨0,Me _,rfl,by simpa using z.out⟩
 case round =>
  obtain⟨i,hi,rfl,r⟩:=hrel;have J:=r.still T.out;obtain⟨m,Y⟩:∃ m,m=n+(zg l.length++((l.take i).map Zj).flatten).length:=⟨_,rfl⟩;have c:=r.1;rw[<- Y] at c;obtain⟨ta,tc,rfl⟩:=zd c;have HW:=Z c;have HM:=Z Y;clear c Y;by_cases t:i<l.length
  .obtain⟨g,rfl⟩:∃ g,la=some ⟨g,0,none⟩:=by
    obtain⟨g,a1,h,_⟩:=zq HR.out (by omega);simp at h;exact⟨g,h.1⟩
   have I:=W7 (by decide) HR.out J;have b:=fun j hj=>own_cell? I (i*8+j) _ ((Ux l i j t hj).trans (NZ (by rw[Ver.Gb];exact hj)));have g0:=b 0 (by omega);have g1:=b 1 (by omega);have g2:=b 2 (by omega);have g3:=b 3 (by omega);have g4:=b 4 (by omega);have g5:=b 5 (by omega);have g6:=b 6 (by omega);have g7:=b 7 (by omega);have a3:∀ ob:Obj,(wr.alloc ob).cell? ⟨V,0,none⟩=some (.func (.func 289) #[] #[]):=fun ob=>by rw[((H2.out.still (by decide) J).alloc ob).cell];rfl
   have hx:=R.out l[i] (NV t);have a:zg l.length++((l.take (i+1)).map Zj).flatten=(zg l.length++((l.take i).map Zj).flatten)++Zj l[i]:=by
    rw[Mq t,ML,LK];simp
   have G:m+(Zj l[i]).length<=1099511627776:=by
    have B:=Xj (l.map Zj) (i+1);have X:=HL.out;rw[<- Ka] at B;have h3:=LH List.length a;rw[HM.out];simp only[NQ] at h3 |-;omega
   have d:=Z a;have N:=Z r;have A:=Z G;clear a r G I b;generalize l[i]=x at g0 g1 g2 g3 g4 g5 g6 g7 hx d A;obtain⟨K,a0,o0,o1,o2,o3,y,gone⟩:=x;simp only[Ver.cells,LG,KB,Jc] at g0 g1 g2 g3 g4 g5 g6 g7;have HX:=Z hx;clear hx;go_wp2_with fail;refine(T0 ⟨K,a0,o0,o1,o2,o3,y,gone⟩ HX.out _).mono ?_;rintro e w4 ⟨pb,rfl,hp,F⟩;have k:Fr Nil wr w4:=((O Nil wr).alloc _).trans F;have HP:=Z hp;clear hp F;go_wp2_with fail;refine(HP.out.FY (Still.of_nil (O _ _)) (za (S:=Nil) HW.out k (fun _ _=>id)) A.out).mono ?_;rintro e w5 ⟨v5,rfl,D⟩;have Q:=Z (N.out.next HM.out (D.of k));clear D
   go_wp2
   refine⟨⟨i+1,by omega,by go_num,by rw[d.out];exact Q.out⟩,?_⟩;simp[intOf];omega
  .have e:i=l.length:=by omega
   have f:zg l.length++((l.take i).map Zj).flatten=Zb l:=by rw[e,Mz];rfl
   rw[f] at r;have N:=Z r;clear f r
   go_wp2
   go_ret;exact⟨_,rfl,N.out⟩
theorem Sd(a:Option Addr)(n c:Nat)(w:World) :
 Calls Tryz.prog 288 #[.slice a n c,.func (.func 289) #[] #[]] w fun e b =>
  e=.returned (.func (.func 292) #[] #[.pointer (some ⟨w.heap.size,0,none⟩),.pointer (some ⟨w.heap.size+1,0,none⟩)]) /\
  b=(w.alloc (.cells #[.slice a n c] 61)).alloc (.cells #[.func (.func 289) #[] #[]] 372):=by
 go_enter Tryz.func288,Tryz.ntmps288
 go_wp2
 go_ret;exact⟨rfl,rfl⟩
theorem Ry(W:World)(m:Value)(l:List Ver)(r:∀ x∈l,x.Nat)(d:l.length<1000000)(w:World)(q:Fr Nil W w)(k:w.ownsRow 0 37 8 m l.length (Zl l)) :
 Calls Tryz.prog 288 #[m,.func (.func 289) #[] #[]] w fun e h =>
  ∃ i j,e=.returned (.func (.func 292) #[] #[.pointer (some ⟨i,0,none⟩),.pointer (some ⟨j,0,none⟩)]) /\
  Z4 h (.func (.func 292) #[] #[.pointer (some ⟨i,0,none⟩),.pointer (some ⟨j,0,none⟩)]) (Zb l)/\Fr Nil W h:=by
 obtain⟨a,c,rfl⟩:=zd k;refine(Sd a l.length c w).mono ?_;rintro e h ⟨rfl,rfl⟩;have p:Blk ((w.alloc (.cells #[.slice a l.length c] 61)).alloc (.cells #[.func (.func 289) #[] #[]] 372)) (w.heap.size+1) [.func (.func 289) #[] #[]] 372:=by
  have:=Blk.new (w.alloc (.cells #[.slice a l.length c] 61)) [.func (.func 289) #[] #[]] 372
  simpa using this
 have o:=(Blk.new w [.slice a l.length c] 61).alloc (.cells #[.func (.func 289) #[] #[]] 372);have f:=za (S:=Nil) k (((O Nil w).alloc (.cells #[.slice a l.length c] 61)).alloc (.cells #[.func (.func 289) #[] #[]] 372)) (fun _ _=>id);exact⟨_,_,rfl,⟨_,_,rfl,Jn Tryz.func292 (by kernel_rfl) rfl,fun w g v n t s b =>
  Sc _ _ _ l r d w (o.still (by decide) g) (p.still (by decide) g) (W7 (by decide) f g) v n t s b⟩,(q.alloc _).alloc _⟩
def zA(a:List UInt8):List UInt8:=zg a.length++a
theorem Qy(sv:Value)(d:List Value)(b:List (List UInt8))(w:World)(hs:w.ownsRow 0 365 1 sv d.length d)(hp:Za w d b)(J:b.flatten.length<=500000000000)(s:(zg b.flatten.length).length<=100) :
 Calls Tryz.prog 276 #[sv] w fun e w'=>e=.returned (.string (zk (zA b.flatten)))/\Fr Nil w w':=by
 obtain⟨sa,sc,rfl⟩:=zd hs;have HS:=Z hs;have HP:=Z hp;clear hs hp;go_enter Tryz.func276,Tryz.ntmps276;go_wp2_with fail;refine(WD sa _ sc w).mono ?_;rintro e R ⟨rfl,y⟩;have a0:Blk R w.heap.size [.slice sa d.length sc] 368:=by rw[y];exact Blk.new w [.slice sa d.length sc] _
 have q:Fr Nil w R:=by rw[y];exact(O _ _).alloc _
 clear y;go_wp2_with fail;refine(WC _ _ d b R a0 (za (S:=Nil) HS.out q (fun _ _=>id)) (HP.out.still (Still.of_nil q)) (.slice none 0 0) 0 [] (Mo R 0 _ _) (by omega)).mono ?_;rintro e M ⟨v2,rfl,p⟩;have v:M.ownsRow 0 5 1 v2 b.flatten.length (u8s b.flatten):=by simpa using p.1
 obtain⟨va,vc,rfl⟩:=zd v;have E:Fr Nil w M:=q.trans (p.2.1.mono (fun _ _ h=>by simp[Value.ownBlock] at h));have B:=Z v;clear v p;generalize f:b.flatten=a at J s B;have X:=Z f;clear f;go_wp2_with fail;refine(Ze M _ M (O _ _)).mono ?_;rintro e T ⟨rfl,D,r⟩;go_wp2_with fail;refine(Zs M.heap.size a.length (by omega) T D (.slice none 0 0) 0 [] (Mo T 0 _ _) (by omega)).mono ?_;rintro e V ⟨N,rfl,l⟩;have F:Fr Nil T V:=l.2.1.mono (fun _ _ h=>by simp[Value.ownBlock] at h);have x:V.ownsRow 0 5 1 N (zg a.length).length (u8s (zg a.length)):=by simpa using l.1
 have L:=za (S:=Nil) (za (S:=Nil) B.out r (fun _ _=>id)) F (fun _ _=>id);have G:=(E.trans r).trans F;have o:∀ k,N.ownBlock=some k->T.heap.size<=k:=fun k hk=>(l.2.2 k hk).resolve_left (by simp[Value.ownBlock]);have K:=fun ty=>Xh (P:=Tryz.prog) (w:=V) 150 ty 5 1 1 MW S8 (by omega) N _ _ x _ _ _ L (by intro u hu;simp[u8s] at hu;obtain⟨c,_,rfl⟩:=hu;rfl) (by unfold maxLen;omega) (by omega);have m:∀ Q z,App V N 5 1 ((zg a.length).length+a.length) (u8s (zg a.length)++u8s a) Q z ->
  ∃ g j,Q=.slice (some ⟨g,0,none⟩) ((zg a.length).length+a.length) j/\(∀ t,(convert 150 9 (.slice (some ⟨g,0,none⟩) ((zg a.length).length+a.length) t)).run Tryz.prog z=.ok (.string (zk (zA a))) z)/\Fr Nil w z:=by
  rintro Q z ⟨h1,h2,h3⟩;have a2:0<(zg a.length).length:=by
   by_cases h:a.length<128
   .rw[ZY h];simp
   .rw[Yj h];simp
  obtain⟨g,j,rfl,_,_⟩:=zq h1 (by omega);have Y:z.ownsRow 0 5 1 (.slice (some ⟨g,0,none⟩) ((zg a.length).length+a.length) j) ((zg a.length).length+a.length) (u8s (zA a)):=by
   unfold zA;rw[VI];exact h1
  refine⟨g,j,rfl,fun t=>?_,?_⟩
  .rw[TO (P:=Tryz.prog) MW JV Lt Y 0 _ t (by unfold zA;rw[NQ];omega)]
   congr 3
   rw[Lw];exact Mj (by unfold zA;rw[NQ];exact NS _)
  .refine G.trans' ((Fr.Ho h2).mono (fun i _ h=>h)) (fun i hi h=>?_)
   have:=o i h;have:=(E.trans r).size;omega
 have A:=Z m;obtain⟨a4,a5,rfl⟩:=zd x;clear m l x L o D
 go_wp2_with (at_builtin;go_must (refine zL rfl _ _ _ _ rfl _ _ (by rfl) (by rfl) (K _) ?_);rintro Q z C;obtain⟨g5,a1,rfl,a3,I⟩:=A.out _ _ C;clear C)
 go_ret;rw[X.out];exact⟨rfl,I⟩
theorem Oj:∀(k n:Nat),n<128^(k+1)->(zg n).length<=k+1:=by
 intro k
 induction k with
 | zero=>intro n h;rw[ZY (by omega)];simp
 | succ k b =>
  intro n h;by_cases a:n<128
  .rw[ZY a];simp
  .have:=b (n / 128) (by rw[Nat.div_lt_iff_lt_mul (by omega)];rw[II] at h;exact h)
   rw[Yj a,Mh];omega
theorem zr{n:Nat}(h:n<9223372036854775808):(zg n).length<=9:=Oj 8 n (Nat.lt_of_lt_of_eq h (by decide))
theorem ZE(W:World)(N:Nat)(d:N<9223372036854775808)(w:World)(g:Fr Nil W w)(x:Int)(h:x=N) :
 Calls Tryz.prog 277 #[.int .i64 x] w fun e a=>∃ b,e=.returned (.func (.func 280) #[] #[.pointer (some ⟨b,0,none⟩)])/\Z4 a (.func (.func 280) #[] #[.pointer (some ⟨b,0,none⟩)]) (zg N)/\Fr Nil W a:=by
 subst h;refine(Ze W N w g).mono ?_;rintro e a ⟨rfl,f,c⟩;exact⟨_,rfl,XA a _ N d f,c⟩
theorem VK(W:World)(s:ByteArray)(g:s.size<9223372036854775808)(w:World)(f:Fr Nil W w) :
 Calls Tryz.prog 284 #[.string s] w fun e a=>∃ b,e=.returned (.func (.func 285) #[] #[.pointer (some ⟨b,0,none⟩)])/\Z4 a (.func (.func 285) #[] #[.pointer (some ⟨b,0,none⟩)]) (zH s.data.toList)/\Fr Nil W a:=by
 refine(VJ W s w f).mono ?_;rintro e a ⟨rfl,d,c⟩;exact⟨_,rfl,Uw a _ s g d,c⟩
theorem Xu(W:World)(g:Nat)(b:List Value)(a:List (List UInt8))(w i:World)(k:Fr Nil W w)(o:Fr Nil i w)(j:Blk w g b 365)(m:Za i b a)(f:b.length<=1000)(c:a.flatten.length<=500000000000)
 (n:Nat)(l:n=b.length) :
 Calls Tryz.prog 276 #[.slice (some ⟨g,0,none⟩) n n] w fun e h=>e=.returned (.string (zk (zA a.flatten)))/\Fr Nil W h:=by
 subst l;refine(Qy _ b a w (ZQ j (NS _) (by unfold maxLen;omega) (by simp) (by simp)) (m.still (Still.of_nil o)) c (by have:=zr (n:=a.flatten.length) (by omega);omega)).mono ?_;rintro e h ⟨rfl,d⟩;exact⟨rfl,k.trans d⟩
def XM(n:Nat):List UInt8:=zA (zg 1++zg n)
def YK(a:ByteArray)(l:List Ver):List UInt8:=zA (zg 2++(zH a.data.toList++Zb l))
def Xg(b:Nat)(a:ByteArray):List UInt8:=zA (zg 3++(zg b++zH a.data.toList))
def VL:List UInt8:=zA (zg 4)
theorem Se(n:Nat)(p:n<9223372036854775808)(w:World) :
 Calls Tryz.prog 307 #[.agg #[.int .i64 n]] w fun e w'=>e=.returned (.string (zk (XM n)))/\Fr Nil w w':=by
 have a:Blk (w.alloc (.cells #[.int .i64 n] 220)) w.heap.size [.int .i64 n] 220:=Blk.new w [.int .i64 n] _;have f:Fr Nil w (w.alloc (.cells #[.int .i64 n] 220)):=(O _ _).alloc _;have i:([zg 1,zg n]:List (List UInt8)).flatten.length<=500000000000:=by
  have B:=zr p;have C:=zr (n:=1) (by omega);simp;omega
 go_enter Tryz.func307,Tryz.ntmps307;go_wp2_with fail;obtain⟨N,o⟩:∃ N,w.heap.size=N:=⟨_,rfl⟩;obtain⟨d,j⟩:∃ d,w.alloc (.cells #[.int .i64 n] 220)=d:=⟨_,rfl⟩;rw[o] at a |-;rw[j] at a f |-;clear j o;have s:d.cell? ⟨N,0,none⟩=some (.int .i64 n):=by rw[a.cell];rfl
 have k:Hid (∀ w',Fr Nil d w'->w'.cell? ⟨N,0,none⟩=some (.int .i64 n)):=by
  intro w' t;rw[(a.fr t id).cell];rfl
 clear a
 go_region_held3 (fun w'=>w'.cell? ⟨N,0,none⟩=some (.int .i64 n)) (first|assumption|exact k.out _ z8)
  (first
  | (go_at_call 276;refine(Xu d _ [_,_] [_,_] _ r (b.trans z8) z8 (by exact Blk.new _ [_,_] _) ⟨l.still (Still.of_nil h),m,trivial⟩ (by simp) i _ rfl).mono ?_;rintro e y ⟨rfl,c⟩;have x:=k.out y c)
  | (go_at_call 277;refine(ZE q n p _ z8 _ rfl).mono ?_;rintro e r ⟨A,rfl,m,h⟩;have b:=g.trans h;have v:=k.out r b)
  | (go_at_call 277;refine(ZE d 1 (by omega) _ z8 _ rfl).mono ?_;rintro e q ⟨z,rfl,l,g⟩;have u:=k.out q g))
 go_wp2
 go_ret;exact⟨by simp[XM],f.trans c⟩
theorem Sf(a:ByteArray)(D:Value)(l:List Ver)(Q:∀ x∈l,x.Nat)(v:l.length<1000000)(M:a.size<1000000000)(w:World)(B:w.ownsRow 0 37 8 D l.length (Zl l))(r:(Zb l).length<=100000000000) :
 Calls Tryz.prog 286 #[.agg #[.string a,D]] w fun e w'=>e=.returned (.string (zk (YK a l)))/\Fr Nil w w':=by
 obtain⟨d,f,rfl⟩:=zd B;have b:Blk (w.alloc (.cells #[.string a,.slice d l.length f] 193)) w.heap.size [.string a,.slice d l.length f] 193:=Blk.new w [.string a,.slice d l.length f] _;have j:Fr Nil w (w.alloc (.cells #[.string a,.slice d l.length f] 193)):=(O _ _).alloc _;have m:([zg 2,zH a.data.toList,Zb l]:List (List UInt8)).flatten.length<=500000000000:=by
  have h1:=zr (n:=a.size) (by omega);have h2:=zr (n:=2) (by omega);simp[zH];omega
 have I:=Z B;clear B r;go_enter Tryz.func286,Tryz.ntmps286;go_wp2_with fail;obtain⟨N,C⟩:∃ N,w.heap.size=N:=⟨_,rfl⟩;obtain⟨i,s⟩:∃ i,w.alloc (.cells #[.string a,.slice d l.length f] 193)=i:=⟨_,rfl⟩;rw[C] at b |-;rw[s] at b j |-;clear s C;have K:i.cell? ⟨N,0,none⟩=some (.string a):=by rw[b.cell];rfl
 have L:i.cell? ⟨N,1,none⟩=some (.slice d l.length f):=by rw[b.cell];rfl
 have o:Hid (∀ w',Fr Nil i w'->w'.cell? ⟨N,0,none⟩=some (.string a)/\w'.cell? ⟨N,1,none⟩=some (.slice d l.length f)):=by
  intro w' u;have:=(b.fr u id).cell;exact⟨by rw[this];rfl,by rw[this];rfl⟩
 have t:Hid (∀ w',Fr Nil i w'->w'.ownsRow 0 37 8 (.slice d l.length f) l.length (Zl l)):=fun w' u=>za (S:=Nil) I.out (j.trans u) (fun _ _=>id);clear b
 go_region_held3 (fun w'=>w'.cell? ⟨N,0,none⟩=some (.string a)/\w'.cell? ⟨N,1,none⟩=some (.slice d l.length f)) (first|assumption|exact o.out _ z8)
  (first
  | (go_at_call 276;refine(Xu i _ [_,_,_] [_,_,_] _ G (g.trans z8) z8 (by exact Blk.new _ [_,_,_] _) ⟨y.still (Still.of_nil (q.trans k)),z.still (Still.of_nil k),A,trivial⟩ (by simp) m _ rfl).mono ?_;rintro e Y ⟨rfl,h⟩;have X:=o.out Y h)
  | (go_at_call 288;refine(Ry F _ l Q v _ z8 (t.out _ (c.trans z8))).mono ?_;rintro e G ⟨b4,J,rfl,A,k⟩;have g:=c.trans k;have V:=o.out G g)
  | (go_at_call 284;refine(VK E _ (by omega) _ z8).mono ?_;rintro e F ⟨b3,rfl,z,q⟩;have c:=p.trans q;have T:=o.out F c)
  | (go_at_call 277;refine(ZE i 2 (by omega) _ z8 _ rfl).mono ?_;rintro e E ⟨b2,rfl,y,p⟩;have R:=o.out E p))
 go_wp2
 go_ret;exact⟨by simp[YK],j.trans h⟩
theorem T1(c:Nat)(a:ByteArray)(u:c<9223372036854775808)(C:a.size<1000000000)(w:World) :
 Calls Tryz.prog 282 #[.agg #[.int .i64 c,.string a]] w fun e w'=>e=.returned (.string (zk (Xg c a)))/\Fr Nil w w':=by
 have b:Blk (w.alloc (.cells #[.int .i64 c,.string a] 138)) w.heap.size [.int .i64 c,.string a] 138:=Blk.new w [.int .i64 c,.string a] _;have l:Fr Nil w (w.alloc (.cells #[.int .i64 c,.string a] 138)):=(O _ _).alloc _;have i:([zg 3,zg c,zH a.data.toList]:List (List UInt8)).flatten.length<=500000000000:=by
  have M:=zr (n:=a.size) (by omega);have Q:=zr (n:=3) (by omega);have R:=zr u;simp[zH];omega
 go_enter Tryz.func282,Tryz.ntmps282;go_wp2_with fail;obtain⟨N,t⟩:∃ N,w.heap.size=N:=⟨_,rfl⟩;obtain⟨j,p⟩:∃ j,w.alloc (.cells #[.int .i64 c,.string a] 138)=j:=⟨_,rfl⟩;rw[t] at b |-;rw[p] at b l |-;clear p t;have z:j.cell? ⟨N,0,none⟩=some (.int .i64 c):=by rw[b.cell];rfl
 have A:j.cell? ⟨N,1,none⟩=some (.string a):=by rw[b.cell];rfl
 have k:Hid (∀ w',Fr Nil j w'->w'.cell? ⟨N,0,none⟩=some (.int .i64 c)/\w'.cell? ⟨N,1,none⟩=some (.string a)):=by
  intro w' B;have:=(b.fr B id).cell;exact⟨by rw[this];rfl,by rw[this];rfl⟩
 clear b
 go_region_held3 (fun w'=>w'.cell? ⟨N,0,none⟩=some (.int .i64 c)/\w'.cell? ⟨N,1,none⟩=some (.string a)) (first|assumption|exact k.out _ z8)
  (first
  | (go_at_call 276;refine(Xu j _ [_,_,_] [_,_,_] _ y (f.trans z8) z8 (by exact Blk.new _ [_,_,_] _) ⟨q.still (Still.of_nil (o.trans h)),r.still (Still.of_nil h),s,trivial⟩ (by simp) i _ rfl).mono ?_;rintro e I ⟨rfl,g⟩;have G:=k.out I g)
  | (go_at_call 284;refine(VK x _ (by omega) _ z8).mono ?_;rintro e y ⟨L,rfl,s,h⟩;have f:=d.trans h;have F:=k.out y f)
  | (go_at_call 277;refine(ZE v c u _ z8 _ rfl).mono ?_;rintro e x ⟨K,rfl,r,o⟩;have d:=m.trans o;have E:=k.out x d)
  | (go_at_call 277;refine(ZE j 3 (by omega) _ z8 _ rfl).mono ?_;rintro e v ⟨J,rfl,q,m⟩;have D:=k.out v m))
 go_wp2
 go_ret;exact⟨by simp[Xg],l.trans g⟩
theorem Sg(w:World) :
 Calls Tryz.prog 274 #[.agg #[]] w fun e w'=>e=.returned (.string (zk VL))/\Fr Nil w w':=by
 have b:Fr Nil w (w.alloc (.cells #[] 135)):=(O _ _).alloc _;have a:([zg 4]:List (List UInt8)).flatten.length<=500000000000:=by
  have i:=zr (n:=4) (by omega);simp;omega
 go_enter Tryz.func274,Tryz.ntmps274;go_wp2_with fail;refine(ZE w 4 (by omega) _ b _ rfl).mono ?_;rintro e g ⟨h,rfl,f,c⟩;go_wp2_with fail;refine(Xu w _ [_] [_] _ g (c.trans z8) z8 (by exact Blk.new _ [_] _) ⟨f,trivial⟩ (by simp) a _ rfl).mono ?_;rintro e j ⟨rfl,d⟩
 go_wp2
 go_ret;exact⟨by simp[VL],d⟩
def Src(w:World)(b:Nat)(c:List UInt8)(a:Bool):Prop:=Blk w b [.string (zk c),.bool a] 276
theorem Qz(a:List UInt8):(zk a).size=a.length:=rfl
theorem Wu(a:List UInt8)(i j:Nat):(zk a).extract i j=zk ((a.drop i).take (j-i)):=by
 apply Jq
 apply KY
 simp[zk]
theorem V8(b:Nat)(g:List UInt8)(c:Bool)(w:World)(h:Src w b g c) :
 Calls Tryz.prog 153 #[.pointer (some ⟨b,0,none⟩)] w fun e d=>e=.returned (.tuple #[])/\Src d b [] true/\Fr (fun k=>k=b) w d:=by
 have i:=h.cell;have j:=h.frozen;have a:Src ((w.setCell ⟨b,0,none⟩ (.string (zk []))).setCell ⟨b,1,none⟩ (.bool true)) b [] true/\Fr (fun k=>k=b) w ((w.setCell ⟨b,0,none⟩ (.string (zk []))).setCell ⟨b,1,none⟩ (.bool true)) :=
  ⟨(Blk.set h 0 _).set 1 _,Fr.set (S:=fun k=>k=b) (Fr.set (S:=fun k=>k=b) (O _ _) (fun _=>rfl) _) (fun _=>rfl) _⟩
 have f:=Z a;clear a h;go_enter Tryz.func153,Tryz.ntmps153
 go_wp2
 exact Lo (v:=.tuple #[]) (by simp[results,go_sem]) rfl ⟨rfl,f.out⟩
theorem V9(b:Nat)(c:List UInt8)(a:Bool)(w:World)(h:Src w b c a) :
 Calls Tryz.prog 192 #[.pointer (some ⟨b,0,none⟩)] w fun e d=>e=.returned (.int .i64 c.length)/\Fr Nil w d:=by
 have f:=h.cell;clear h;go_enter Tryz.func192,Tryz.ntmps192
 go_wp2
 go_ret;exact⟨rfl,O _ _⟩
theorem YL(n b:Nat)(a:List UInt8)(c:Bool)(w:World)(h:Src w b a c)(j:n<=a.length) :
 Calls Tryz.prog 193 #[.pointer (some ⟨b,0,none⟩),.int .i64 n] w fun e f=>e=.returned (.string (zk (a.take n)))/\Src f b (a.drop n) c/\Fr (fun k=>k=b) w f:=by
 have i:=h.cell;have m:=h.frozen;have l:(zk a).size=a.length:=rfl;have d:Hid ((zk a).extract 0 n=zk (a.take n)/\(zk a).extract n a.length=zk (a.drop n)) :=
  ⟨by rw[Wu];simp,by rw[Wu,Mj (by simp)]⟩
 have g:Hid (Src (w.setCell ⟨b,0,none⟩ (.string (zk (a.drop n)))) b (a.drop n) c/\Fr (fun k=>k=b) w (w.setCell ⟨b,0,none⟩ (.string (zk (a.drop n))))) :=
  ⟨Blk.set h 0 _,Fr.set (S:=fun k=>k=b) (O _ _) (fun _=>rfl) _⟩
 clear h;go_enter Tryz.func193,Tryz.ntmps193;go_wp2_with fail;go_ret;rw[d.out.1,d.out.2];exact⟨rfl,g.out⟩
theorem Uz(n b:Nat)(c:List UInt8)(a:Bool)(w:World)(h:Src w b c a)(j:c.length<n) :
 Calls Tryz.prog 193 #[.pointer (some ⟨b,0,none⟩),.int .i64 n] w fun e f=>e=.returned (.string (zk []))/\Src f b [] true/\Fr (fun k=>k=b) w f:=by
 have i:=h.cell;have m:=h.frozen;have l:(zk c).size=c.length:=rfl;have g:=Z h;clear h;go_enter Tryz.func193,Tryz.ntmps193
 go_wp2_with (refine(V8 b c a w g.out).mono ?_;rintro e o ⟨rfl,d⟩)
 go_ret;exact⟨rfl,d⟩
def Zf(i a:Nat):List UInt8->Option (Nat × List UInt8)
 | []=>none
 | c::b=>if 9<=i then none else if c.toNat<128 then some (a+c.toNat*128^i,b) else Zf (i+1) (a+(c.toNat%128)*128^i) b
theorem VM:∀ n<128,(UInt8.ofNat n).toNat=n:=by decide
theorem QA(r:List UInt8):∀ (n i c:Nat),0<i->0<n->n*128^i<9223372036854775808->Zf i c (zg n++r)=some (c+n*128^i,r):=by
 intro n
 induction n using Nat.strongRecOn with
 | ind n j =>
  intro i c l g h;have d:¬9<=i:=by
   intro d;have:128^9<=128^i:=Nat.pow_le_pow_right (by omega) d;have k:1*128^i<=n*128^i:=Mu _ g;simp only[Nat.reducePow] at this;omega
  by_cases a:n<128
  .rw[ZY a]
   simp only[MJ,LB,Zf];rw[Ma d,VM n a,Mg a]
  .rw[Yj a]
   have e:(UInt8.ofNat (n%128+128)).toNat=n%128+128:=by simp;omega
   simp only[MJ,Zf];rw[Ma d,e,Ma (by omega)];have b:128^(i+1)=128^i*128:=II ..;have f:n / 128*(128^i*128)+n%128*128^i=n*128^i:=by
    rw[Nat.mul_comm (128^i) 128,<- Nat.mul_assoc,<- LQ,Nat.mul_comm (n / 128) 128,Nat.div_add_mod]
   rw[j (n / 128) (by omega) (i+1) _ (by omega) (by omega) (by rw[b];omega),b]
   congr 2
   rw[show(n%128+128)%128=n%128 by omega];omega
theorem Si(n:Nat)(r:List UInt8)(c:n<9223372036854775808):Zf 0 0 (zg n++r)=some (n,r):=by
 by_cases a:n<128
 .rw[ZY a]
  simp only[MJ,LB,Zf];rw[Ma (by omega),VM n a,Mg a];simp
 .rw[Yj a]
  have b:(UInt8.ofNat (n%128+128)).toNat=n%128+128:=by simp;omega
  simp only[MJ,Zf];rw[Ma (by omega),b,Ma (by omega),QA r (n / 128) 1 _ (by omega) (by omega) (by omega)]
  congr 2
  omega
theorem QB:∀(n i d:Nat)(p:List UInt8),p<+:zg n->p≠zg n->Zf i d p=none:=by
 intro n
 induction n using Nat.strongRecOn with
 | ind n k =>
  intro i d p g a;rcases p with-| ⟨c,p⟩
  .rfl
  by_cases f:n<128
  .rw[ZY f] at g a
   obtain⟨t,b⟩:=g;simp at b;exact absurd (by rw[b.1,b.2.1]) a
  .rw[Yj f] at g a
   obtain⟨t,b⟩:=g;simp only[MJ,Ju] at b;obtain⟨rfl,b⟩:=b;have j:(UInt8.ofNat (n%128+128)).toNat=n%128+128:=by simp;omega
   simp only[Zf];by_cases h:9<=i
   .rw[Mg h]
   .rw[Ma h,j,Ma (by omega)]
    exact k (n / 128) (by omega) _ _ p ⟨t,b⟩ (fun e=>a (by rw[e]))
theorem Q9(i a m:Nat)(d:i<9)(b:a<128^i)(e:m<128):bits .or .u64 (a:Int) (IntKind.u64.wrap ((m:Int)*2^(i*7)))=((a+m*128^i:Nat):Int)/\a+m*128^i<128^(i+1)/\a+m*128^i<9223372036854775808:=by
 have c:i=0\/i=1\/i=2\/i=3\/i=4\/i=5\/i=6\/i=7\/i=8:=by omega
 rcases c with rfl|rfl|rfl|rfl|rfl|rfl|rfl|rfl|rfl
 all_goals
  simp only[Nat.reducePow,Nat.reduceMul,Nat.reduceAdd,Int.reducePow] at b |-;refine⟨?_,by omega,by omega⟩;rw[KC _ (by omega) (by omega)]
 .exact(Kb .u64 64 (by decide) KC 0 _ _ (by omega) (by omega) (by omega) (by omega) (by omega) (by omega)).trans (by omega)
 .exact(Kb .u64 64 (by decide) KC 7 _ _ (by omega) (by omega) (by omega) (by omega) (by omega) (by omega)).trans (by omega)
 .exact(Kb .u64 64 (by decide) KC 14 _ _ (by omega) (by omega) (by omega) (by omega) (by omega) (by omega)).trans (by omega)
 .exact(Kb .u64 64 (by decide) KC 21 _ _ (by omega) (by omega) (by omega) (by omega) (by omega) (by omega)).trans (by omega)
 .exact(Kb .u64 64 (by decide) KC 28 _ _ (by omega) (by omega) (by omega) (by omega) (by omega) (by omega)).trans (by omega)
 .exact(Kb .u64 64 (by decide) KC 35 _ _ (by omega) (by omega) (by omega) (by omega) (by omega) (by omega)).trans (by omega)
 .exact(Kb .u64 64 (by decide) KC 42 _ _ (by omega) (by omega) (by omega) (by omega) (by omega) (by omega)).trans (by omega)
 .exact(Kb .u64 64 (by decide) KC 49 _ _ (by omega) (by omega) (by omega) (by omega) (by omega) (by omega)).trans (by omega)
 .exact(Kb .u64 64 (by decide) KC 56 _ _ (by omega) (by omega) (by omega) (by omega) (by omega) (by omega)).trans (by omega)
theorem Pm(i a:Nat)(c:UInt8)(f:i<9)(b:a<128^i) :
 bits .or .u64 (a:Int) (IntKind.u64.wrap (IntKind.u64.wrap (bits .and .u8 (c.toNat:Int) 127)*2^(i*7)))=((a+c.toNat%128*128^i:Nat):Int):=by
 have g:c.toNat<256:=UInt8.toNat_lt c;have e:bits .and .u8 (c.toNat:Int) 127=((c.toNat%128:Nat):Int):=(bits_mask .u8 8 (by decide) wraps_u8 7 (by decide) (c.toNat:Int) (by omega) (by omega)).trans (by omega);have d:IntKind.u64.wrap ((c.toNat%128:Nat):Int)=((c.toNat%128:Nat):Int):=KC _ (by omega) (by omega);rw[e,d];exact(Q9 i a (c.toNat%128) f b (by omega)).1
theorem QC{n:Nat}(h:n<9223372036854775808):wrap64 (n:Int)=n:=by unfold wrap64;omega
def Nw(R:Option (Nat × List UInt8))(b:Nat)(c:Bool)(w:World)(e:Ending)(a:World):Prop :=
 match R with
 | some (n,r)=>e=.returned (.int .i64 n)/\Src a b r c/\Fr (fun k=>k=b) w a
 | none=>e=.returned (.int .i64 0)/\Src a b [] true/\Fr (fun k=>k=b) w a
theorem Xk(b:Nat)(B:List UInt8)(f:Bool)(w:World)(h:Src w b B f)(q:f=true->B=[]) :
 Calls Tryz.prog 149 #[.pointer (some ⟨b,0,none⟩)] w fun e D=>Nw (Zf 0 0 B) b f w e D:=by
 generalize m:Zf 0 0 B=R;have N:=Z m;have M:=Z h;have L:=Z q;clear m h q;go_enter Tryz.func149,Tryz.ntmps149;go_wp2_with fail
 go_loopw [3,4] (fun S G D=>∃ (i d:Nat) (l:List UInt8),S=.int .u64 d/\G=.int .i64 ((i*7:Nat):Int)/\i<=9/\d<128^i/\Zf i d l=R/\Src D b l f/\(f=true->l=[])/\Fr (fun k=>k=b) w D) (fun _ G _=>(63-intOf G).toNat)
 case atStart=>exact⟨0,0,B,rfl,rfl,by omega,by simp,N.out,M.out,L.out,O _ _⟩
 case round =>
  obtain⟨i,d,l,rfl,rfl,V,j,m,t,x,C⟩:=hrel;by_cases Q:i=9
  .subst Q
   have o:R=none:=by rw[<- m];cases l <;> simp[Zf]
   have r:=Z o;have v:=Z t;clear t x m j o
   go_wp2_with (refine(V8 b l f wr v.out).mono ?_;rintro e I ⟨rfl,a⟩)
   go_ret;rw[r.out];exact⟨rfl,a.1,C.trans a.2⟩
  have z:i<9:=by omega
  rcases l with-| ⟨c,l⟩
  .have o:R=none:=by rw[<- m];simp[Zf]
   have r:=Z o;have v:=Z t;clear t x m j o
   go_wp2_with (refine(Uz 1 b [] f wr v.out (by simp)).mono ?_;rintro e I ⟨rfl,a,g⟩;have y:=a.cell;have p:=Z (And.intro a g);clear a g)
   go_ret;rw[r.out];exact⟨rfl,p.out.1,C.trans p.out.2⟩
  have E:f=false:=by cases f with|false=>rfl|true=>simp at x
  subst E;have v:=Z t;have K:=Z (Pm i d c z j);have J:=Z (Q9 i d (c.toNat%128) z j (Jk _ (by omega)));have F:0<(zk [c]).size:=by show 0<1;omega
  have T:((zk [c])[0]'F).toNat=c.toNat:=rfl;by_cases u:c.toNat<128
  .have hRs:R=some (d+c.toNat%128*128^i,l):=by rw[<- m];simp only[Zf];rw[Ma (by omega),Mg u,JW u]
   have s:=Z hRs;clear t x m hRs
   go_wp2_with (refine(YL 1 b (c::l) false wr v.out (by simp)).mono ?_;rintro e I ⟨rfl,a,g⟩;have y:=a.cell;have p:=Z (And.intro a g);clear a g)
   go_ret;rw[s.out];have A:=J.out.2.2;exact⟨by rw[K.out,QC A];rfl,p.out.1,C.trans p.out.2⟩
  .have hRs:Zf (i+1) (d+c.toNat%128*128^i) l=R:=by rw[<- m];simp only[Zf];rw[Ma (by omega),Ma u]
   have s:=Z hRs;clear t x m hRs
   go_wp2_with (refine(YL 1 b (c::l) false wr v.out (by simp)).mono ?_;rintro e I ⟨rfl,a,g⟩;have y:=a.cell;have p:=Z (And.intro a g);clear a g)
   refine⟨⟨i+1,d+c.toNat%128*128^i,l,by rw[K.out],by go_num,by omega,J.out.2.1,s.out,p.out.1,by simp,C.trans p.out.2⟩,?_⟩;simp[intOf];omega
end Go.Proofs.YtkhnggkkiefcdaaGreatDoor
