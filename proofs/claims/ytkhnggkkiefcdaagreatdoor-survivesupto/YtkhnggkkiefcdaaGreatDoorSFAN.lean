/- larder: joined texts -/
import Derived.Test.YtkhnggkkiefcdaaGreatDoorSFAA
import Derived.Test.YtkhnggkkiefcdaaGreatDoorSFAD
import Derived.Test.YtkhnggkkiefcdaaGreatDoorSFAE
import Derived.Test.YtkhnggkkiefcdaaGreatDoorSFAF
import Derived.Test.YtkhnggkkiefcdaaGreatDoorSFAG
import Derived.Test.YtkhnggkkiefcdaaGreatDoorSFAH
import Derived.Test.YtkhnggkkiefcdaaGreatDoorSFAI
import Derived.Test.YtkhnggkkiefcdaaGreatDoorSFAM
import Derived.Shelf.Strconv.AtoiFail
import Derived.Shelf.Strconv.Atoi
import Derived.Shelf.Strings.Prefix
import Derived.Ground.NamesProg
import Derived.Lib.AtoiErrMem
import Derived.Lib.IfaceEq
import Derived.RangeFuncNested
import Derived.RangeFuncBound
import Derived.RangeFuncCalls
import Derived.RangeFuncLeaves
import Derived.Shelf.Abstract
import Derived.Shelf.RegionOpen
import Derived.WalkKit
import Derived.OwnWalkIn
import Derived.TacticsInMore
import Derived.LoopNIn
import Derived.LoopIn
import Derived.Test.YtkhnggkkiefcdaaGreatDoorChecked
namespace Go.Proofs.YtkhnggkkiefcdaaGreatDoor
open Go.RowKit
set_option maxRecDepth 100000
set_option maxHeartbeats 8000000
def zr:Fact->List UInt8
 | .inl n=>zi 1++zi n
 | .inr (.inl x)=>zi 2++(Za x.1.data.toList++ZN x.2)
 | .inr (.inr (.inl x))=>zi 3++(zi x.1++Za x.2.data.toList)
 | .inr (.inr (.inr _))=>zi 4
theorem TL(f:Fact):zh f=zo (Z0 (zr f)):=by
 rcases f with n|x|x|x <;> rfl
def FRead(f:Fact):Prop:=FOk f/\match f with
 | .inr (.inl x)=>∀ v∈x.2,v.gone=false
 | _=>True
def Vh(w:World)(b:Nat)(r:List UInt8)(f:Fact)(e:Ending)(c:World):Prop :=
 ∃ a,e=.returned a/\FRep c a f/\(∀ k,WA a k->w.heap.size<=k)/\Read1 w b r c
theorem SK(b n:Nat)(r:List UInt8)(w:World)(h:Src w b (zi 1++(zi n++r)) false)(m:n<9223372036854775808) :
 Calls Tryz.prog 95 #[.pointer (some ⟨b,0,none⟩)] w fun e o=>Vh w b r (.inl n) e o:=by
 have j:=Z h;clear h;go_enter CM,CD
 go_wp2_with (first
  | (refine(zM b n _ _ g.out.1 m).mono ?_;rintro e q ⟨rfl,f,c⟩;have i:=Z (And.intro f c);clear f c)
  | (refine(zM b 1 _ _ j.out (by omega)).mono ?_;rintro e p ⟨rfl,d,a⟩;have g:=Z (And.intro d a);clear d a))
 go_ret;exact⟨_,rfl,rfl,fun k l=>by simp[WA,Value.ownBlock] at l,i.out.1,g.out.2.trans i.out.2⟩
theorem SN(b:Nat)(r:List UInt8)(w:World)(h:Src w b (zi 4++r) false) :
 Calls Tryz.prog 95 #[.pointer (some ⟨b,0,none⟩)] w fun e i=>Vh w b r (.inr (.inr (.inr ()))) e i:=by
 have f:=Z h;clear h;go_enter CM,CD
 go_wp2_with (refine(zM b 4 _ _ f.out (by omega)).mono ?_;rintro e j ⟨rfl,c,a⟩;have d:=Z (And.intro c a);clear c a)
 go_ret;exact⟨_,rfl,rfl,fun k g=>by simp[WA] at g,d.out.1,d.out.2⟩
theorem TM(b l:Nat)(s:ByteArray)(r:List UInt8)(w:World)(h:Src w b (zi 3++(zi l++(Za s.data.toList++r))) false)(y:l<9223372036854775808)(hs:s.size<1000000000) :
 Calls Tryz.prog 95 #[.pointer (some ⟨b,0,none⟩)] w fun e o=>Vh w b r (.inr (.inr (.inl (l,s)))) e o:=by
 have u:=Z h;clear h;have m:s.data.toList.length<=1000000000:=by simpa using Dk hs
 have v:Hid (∀ j,Src j b (Za s.data.toList++r) false->Calls Tryz.prog 150 #[.pointer (some ⟨b,0,none⟩)] j fun e o=>e=.returned (.string s)/\Read1 j b r o):=fun j z=>by
  have:=Wh b s.data.toList r j z m
  rwa [Vv] at this
 go_enter CM,CD
 go_wp2_with (first
  | (refine(v.out _ q.out.1).mono ?_;rintro e C ⟨rfl,i,d⟩;have t:=Z (And.intro i d);clear i d)
  | (refine(zM b l _ _ p.out.1 y).mono ?_;rintro e B ⟨rfl,g,c⟩;have q:=Z (And.intro g c);clear g c)
  | (refine(zM b 3 _ _ u.out (by omega)).mono ?_;rintro e A ⟨rfl,f,a⟩;have p:=Z (And.intro f a);clear f a))
 go_ret;exact⟨_,rfl,rfl,fun k x=>by simp[WA,Value.ownBlock] at x,t.out.1,(p.out.2.trans q.out.2).trans t.out.2⟩
theorem SO(b:Nat)(s:ByteArray)(l:List Ver)(r:List UInt8)(w:World)(h:Src w b (zi 2++(Za s.data.toList++(ZN l++r))) false)(hs:s.size<1000000000)(A:K4 l)(u:l.length<1000000) :
 Calls Tryz.prog 95 #[.pointer (some ⟨b,0,none⟩)] w fun e y=>Vh w b r (.inr (.inl (s,l))) e y:=by
 have E:=Z h;clear h;have x:s.data.toList.length<=1000000000:=by simpa using Dk hs
 have G:Hid (∀ o,Src o b (Za s.data.toList++(ZN l++r)) false->Calls Tryz.prog 150 #[.pointer (some ⟨b,0,none⟩)] o fun e y=>e=.returned (.string s)/\Read1 o b (ZN l++r) y):=fun o I=>by
  have:=Wh b s.data.toList _ o I x
  rwa [Vv] at this
 have F:=Z A;clear A;go_enter CM,CD
 go_wp2_with (first
  | (refine(Q7 b l r _ t.out.1 F.out u).mono ?_;rintro e Q ⟨J,rfl,a,m,g⟩;obtain⟨K,L,rfl⟩:=zc a.1;have c:=Z a;have z:=Z (And.intro m g);clear m g a)
  | (refine(G.out _ q.out.1).mono ?_;rintro e N ⟨rfl,j,f⟩;have t:=Z (And.intro j f);clear j f)
  | (refine(zM b 2 _ _ E.out (by omega)).mono ?_;rintro e M ⟨rfl,i,d⟩;have q:=Z (And.intro i d);clear i d))
 go_ret;have B:=q.out.2.size;have C:=t.out.2.size;refine⟨_,rfl,⟨_,rfl,c.out.1⟩,fun k p=>?_,z.out.1,(q.out.2.trans t.out.2).trans z.out.2⟩;obtain⟨v,D,p⟩:=p;simp at D;rcases D with rfl|rfl
 .simp[Value.ownBlock] at p
 .have:=c.out.2 k p;omega
theorem SP(f:Fact)(a:FRead f)(b:Nat)(r:List UInt8)(w:World)(h:Src w b (zr f++r) false) :
 Calls Tryz.prog 95 #[.pointer (some ⟨b,0,none⟩)] w fun e g=>Vh w b r f e g:=by
 rcases f with n|⟨s,l⟩|⟨d,s⟩|x
 .exact SK b n r w (by simpa [zr] using h) a.1
 .exact SO b s l r w (by simpa [zr] using h) a.1.2.2.1 (fun x c=>⟨a.1.1 x c,a.2 x c⟩) a.1.2.1
 .exact TM b d s r w (by simpa [zr] using h) a.1.1 a.1.2
 .exact SN b r w (by simpa [zr] using h)
def JW(w:World)(b:Nat)(r:List UInt8)(f:Fact)(e:Ending)(c:World):Prop :=
 ∃ a,e=.returned (.tuple #[a,.bool true])/\FRep c a f/\(∀ k,WA a k->w.heap.size<=k)/\Read1 w b r c
theorem Ps(f:Fact)(hf:FRead f)(b:Nat)(r:List UInt8)(w:World)(h:Src w b (Z0 (zr f)++r) false)(I:(zr f).length<9223372036854775808) :
 Calls Tryz.prog 191 #[.pointer (some ⟨b,0,none⟩),.func (.func 95) #[] #[]] w fun e w'=>JW w b r f e w':=by
 have Y:Z0 (zr f)++r=zi (zr f).length++(zr f++r):=by simp[Z0]
 rw[Y] at h;have a0:=h.lt;have hc:=h.cell;have m:Src (w.alloc (.cells #[.string (zo (zi (zr f).length++(zr f++r))),.bool false] 276)) b (zi (zr f).length++(zr f++r)) false:=Blk.alloc h _;have l:Src (w.alloc (.cells #[.string (zo (zi (zr f).length++(zr f++r))),.bool false] 276)) w.heap.size (zi (zr f).length++(zr f++r)) false:=Blk.new w [_,_] _;have E:Fr Nil w (w.alloc (.cells #[.string (zo (zi (zr f).length++(zr f++r))),.bool false] 276)):=(O _ _).alloc _;have T:(w.alloc (.cells #[.string (zo (zi (zr f).length++(zr f++r))),.bool false] 276)).heap.size=w.heap.size+1:=by simp
 have HF:=Z hf;clear h Y hf;go_enter Tryz.func191,Tryz.ntmps191;go_wp2_with fail;generalize w.alloc (.cells #[.string (zo (zi (zr f).length++(zr f++r))),.bool false] 276)=W0 at m l E T |-;clear hc;refine(zM w.heap.size (zr f).length (zr f++r) W0 l I).mono ?_;rintro e w1 ⟨rfl,u,q⟩;have A:Src w1 b _ false:=Blk.fr m q (by omega);have a1:=q.size;go_wp2_with fail;refine(XZ (zr f).length w.heap.size (zr f++r) false w1 u (by simp)).mono ?_;rintro e a ⟨rfl,c,s⟩;have B:Src a b _ false:=Blk.fr A s (by omega);have a2:=s.size;rw[EO] at c;rw[DS];have d:=fun ob=>(Blk.alloc c ob).cell;go_wp2_with fail;have v:Src (a.alloc (.cells #[.string (zo (zr f)),.bool false] 276)) w.heap.size r false:=Blk.alloc c _;have C:Src (a.alloc (.cells #[.string (zo (zr f)),.bool false] 276)) b _ false:=Blk.alloc B _;have y:Src (a.alloc (.cells #[.string (zo (zr f)),.bool false] 276)) a.heap.size (zr f++[]) false:=by
  rw[Hx];exact Blk.new a [_,_] _
 have t:Fr Nil w (a.alloc (.cells #[.string (zo (zr f)),.bool false] 276)) :=
  (E.trans' (q.trans s) (fun k G e=>by omega)).alloc _
 have V:(a.alloc (.cells #[.string (zo (zr f)),.bool false] 276)).heap.size=a.heap.size+1:=by simp
 generalize a.alloc (.cells #[.string (zo (zr f)),.bool false] 276)=W3 at v C y t V |-;clear d l u c m A B;refine(SP f HF.out a.heap.size [] W3 y).mono ?_;rintro e X ⟨fv,rfl,J,j,z,g⟩;have x:Src X w.heap.size r false:=Blk.fr v g (by omega);have o:Src X b _ false:=Blk.fr C g (by omega);have R:=z.cell;have d:=x.cell;have D:=o.cell;have K:=o.frozen;have a3:=g.size;go_wp2_with fail;refine(UF a.heap.size [] false X z).mono ?_;rintro e L ⟨rfl,i⟩;have M:Src L w.heap.size r false:=Blk.fr x i id;have p:Src L b _ false:=Blk.fr o i id;clear R d D K;have d:=M.cell;have D:=p.cell;have K:=p.frozen;go_wp2_with fail;go_ret2;have N:=t.trans' g (fun k G e=>by omega);have Q:Fr (fun k=>k=b) w L:=(N.trans i).mono (fun _ _ e=>absurd e id);have F:Fr (fun k=>k=b) L ((L.setCell ⟨b,0,none⟩ (.string (zo r))).setCell ⟨b,1,none⟩ (.bool false)):=Fr.set (S:=fun k=>k=b) (Fr.set (S:=fun k=>k=b) (O _ _) (fun _=>rfl) _) (fun _=>rfl) _;have a4:=t.size;exact⟨fv,rfl,(J.fr i (fun _ _=>id)).fr F (fun k G e=>by have:=j k G;omega),fun k G=>by have:=j k G;omega,(Blk.set p 0 _).set 1 _,Q.trans F⟩
theorem K7(a b:List UInt8)(i:b<+:Z0 a)(d:b≠Z0 a):ZS 0 0 b=none\/∃ p,b=zi a.length++p/\p.length<a.length:=by
 unfold Z0 at i d;obtain⟨t,f⟩:=i;rcases Fg b.length (zi a.length).length with h|h
 .refine .inl (Mk a.length 0 0 b ?_ (fun e=>by rw[e] at h;omega))
  exact Em ⟨t,f⟩ (FX _ _) (by omega)
 .have hpre:zi a.length<+:b:=Em (l₃:=zi a.length++a) (FX _ _) ⟨t,f⟩ h
  obtain⟨p,rfl⟩:=hpre;refine .inr ⟨p,rfl,?_⟩;rw[Hu] at f;have g:=List.append_cancel_left f;have j:a.length=p.length+t.length:=by rw[<- g];simp
  rcases t with-| ⟨c,t⟩
  .rw[Hx] at g;exact absurd (by rw[g]) d
  .simp at j;omega
def Pt(w:World)(e:Ending)(a:World):Prop:=e=.returned (.tuple #[.nilIface,.bool false])/\Fr Nil w a
theorem Pv(a:List UInt8)(b:Nat)(w:World)(h:Src w b a false)(l:ZS 0 0 a=none) :
 Calls Tryz.prog 191 #[.pointer (some ⟨b,0,none⟩),.func (.func 95) #[] #[]] w fun e s=>Pt w e s:=by
 have p:=h.cell;have c:Src (w.alloc (.cells #[.string (zo a),.bool false] 276)) w.heap.size a false:=Blk.new w [_,_] _;have d:Fr Nil w (w.alloc (.cells #[.string (zo a),.bool false] 276)):=(O _ _).alloc _;have m:=Z l;clear h l;go_enter Tryz.func191,Tryz.ntmps191;go_wp2_with fail;generalize w.alloc (.cells #[.string (zo a),.bool false] 276)=o at c d |-;clear p;refine(TK w.heap.size a o c m.out).mono ?_;rintro e t ⟨rfl,f,i⟩;go_wp2_with fail;refine(XZ 0 w.heap.size [] true t f (by simp)).mono ?_;rintro e v ⟨rfl,g,j⟩;have q:=fun r=>(Blk.alloc g r).cell;go_wp2_with fail;go_ret2;exact⟨rfl,(d.trans' (i.trans j) (fun k u e=>by omega)).alloc _⟩
theorem N9(n:Nat)(p:List UInt8)(b:Nat)(w:World)(h:Src w b (zi n++p) false)(o:n<9223372036854775808)(q:p.length<n) :
 Calls Tryz.prog 191 #[.pointer (some ⟨b,0,none⟩),.func (.func 95) #[] #[]] w fun e s=>Pt w e s:=by
 have l:=h.cell;have a:Src (w.alloc (.cells #[.string (zo (zi n++p)),.bool false] 276)) w.heap.size (zi n++p) false:=Blk.new w [_,_] _;have c:Fr Nil w (w.alloc (.cells #[.string (zo (zi n++p)),.bool false] 276)):=(O _ _).alloc _;clear h;go_enter Tryz.func191,Tryz.ntmps191;go_wp2_with fail;generalize w.alloc (.cells #[.string (zo (zi n++p)),.bool false] 276)=j at a c |-;clear l;refine(zM w.heap.size n p j a o).mono ?_;rintro e t ⟨rfl,d,g⟩;go_wp2_with fail;refine(Ri n w.heap.size p false t d q).mono ?_;rintro e v ⟨rfl,f,i⟩;have m:=fun r=>(Blk.alloc f r).cell;go_wp2_with fail;go_ret2;exact⟨rfl,(c.trans' (g.trans i) (fun k u e=>by omega)).alloc _⟩
theorem Pw(a c:List UInt8)(j:c<+:Z0 a)(d:c≠Z0 a)(g:a.length<9223372036854775808)(b:Nat)(w:World)(h:Src w b c false) :
 Calls Tryz.prog 191 #[.pointer (some ⟨b,0,none⟩),.func (.func 95) #[] #[]] w fun e k=>Pt w e k:=by
 rcases K7 a c j d with f|⟨p,rfl,i⟩
 .exact Pv c b w h f
 .exact N9 a.length p b w h g i
theorem MM(a:List UInt8)(w:World) :
 Calls Tryz.prog 190 #[.string (zo a)] w fun e b=>e=.returned (.pointer (some ⟨w.heap.size,0,none⟩))/\b=w.alloc (.cells #[.string (zo a),.bool false] 276):=by
 go_enter Tryz.func190,Tryz.ntmps190
 go_wp2
 go_ret;exact⟨rfl,rfl⟩
def zR(a:List Fact):List UInt8:=(a.map fun f=>Z0 (zr f)).flatten
theorem JX(n:Nat):0<(zi n).length:=by
 by_cases h:n<128
 .rw[YP h];simp
 .rw[Xh h];simp
theorem T8(a:List UInt8):0<(Z0 a).length:=by
 have:=JX a.length;simp[Z0];omega
def Px(w:World)(s:Nat):Nat:=match w.cell? ⟨s,0,none⟩ with
 | some (.string x)=>x.size
 | _=>0
theorem Rs{w:World}{s:Nat}{b:List UInt8}{a:Bool}(h:Src w s b a):Px w s=b.length:=by
 have:=h.cell 0;simp at this;simp[Px,this,Mi]
theorem SRep.AW{w:World}{b s:Nat}{L:SL}{S:SM}{d:List UInt8}{a:Bool}(h:SRep w b L S)(hs:Src w s d a):¬SFoot b L s/\¬SRead L s:=by
 refine⟨fun c=>?_,fun c=>?_⟩
 .rcases h.BH c with h1|h1|h1
  .exact absurd (Ty.inj h1 (Blk.ty hs)) (by decide)
  .exact absurd (Ty.inj h1 (Blk.ty hs)) (by decide)
  .exact absurd (Ty.inj h1 (Blk.ty hs)) (by decide)
 .exact absurd (Ty.inj (h.BV c) (Blk.ty hs)) (by decide)
theorem SRep.src{w d:World}{b s:Nat}{L:SL}{S:SM}{g:List UInt8}{a:Bool}(h:SRep w b L S)(hs:Src w s g a)(f:Fr (fun k=>k=s) w d):SRep d b L S :=
 h.fr f (fun _ c e=>(h.AW hs).1 (e▸c)) (fun _ c e=>(h.AW hs).2 (e▸c))
theorem Py(b:List Fact)(I:∀ f∈b,FRead f/\(zr f).length<9223372036854775808)(a d:List UInt8)(ht:a<+:Z0 d)(M:a≠Z0 d)(hb:d.length<9223372036854775808)
 (u:Nat)(L:SL)(S:SM)(w:World)(h:SRep w u L S)
 (t:∀ i,((b.take i).foldl SM.enter S).keys.length<1099511627776/\((b.take i).foldl SM.enter S).hints.length<1000000) :
 Calls Tryz.prog 148 #[.string (zo (zR b++a)),.func (.func 95) #[] #[],.func (.func 96) #[.pointer (some ⟨u,0,none⟩)] #[]] w fun e z =>
  e=.returned (.int .i64 a.length)/\SStep w u L (b.foldl SM.enter S) (fun k=>w.heap.size<=k) z:=by
 have HH:=Z h;have B:=Z I;have s:=Z t;have T:=Z (And.intro ht (And.intro M hb));clear h I t ht M hb;go_enter Tryz.func148,Tryz.ntmps148;go_wp2_with fail;refine(MM _ w).mono ?_;rintro e w1 ⟨rfl,y⟩;have F:Fr Nil w w1:=by rw[y];exact(O _ _).alloc _
 have X:Src w1 w.heap.size (zR b++a) false:=by rw[y];exact Blk.new w [_,_] _
 clear y;go_wp2_with fail
 go_loopw [9] (fun _ z=>∃ (i:Nat) (A:SL),i<=b.length/\SRep z u A ((b.take i).foldl SM.enter S)/\Fr (SFoot u L) w z/\(∀ k,SFoot u A k->SFoot u L k\/w.heap.size<=k)/\(∀ k,SRead A k->SRead L k\/w.heap.size<=k)/\Src z w.heap.size (zR (b.drop i)++a) false) (fun _ z=>Px z w.heap.size)
 case atStart=>exact⟨0,L,by omega,HH.out.nil F,F.mono (fun _ _ e=>absurd e id),fun k o=>.inl o,fun k o=>.inl o,X⟩
 case round =>
  obtain⟨i,A,hi,c,hF,J,Q,hS⟩:=hrel;have g:=Z (And.intro c (And.intro hF (And.intro J (And.intro Q hS))));clear c hF J Q hS;by_cases r:i<b.length
  .have hSi:Src wr w.heap.size (Z0 (zr b[i])++(zR (b.drop (i+1))++a)) false:=by
    have:=g.out.2.2.2.2;rw[Gm r] at this
    simpa only[zR,Ht,Fh,Hu] using this
   go_wp2_with fail;refine(Ps b[i] (B.out _ (IX r)).1 w.heap.size _ wr hSi (B.out _ (IX r)).2).mono ?_;rintro e w2 ⟨fv,rfl,a0,N,D,j⟩;have m:=g.out.1.src g.out.2.2.2.2 j;have a1:=(m.AW D).1;go_wp2_with fail;refine(XA b[i] fv u A _ w2 m a0 (s.out i).1 (s.out i).2).mono ?_;rintro e w3 ⟨rfl,V,x,C,K,R⟩;go_wp2_with fail;have a3:=g.out.2.1.size;have a2:=j.size;have E:Src w3 w.heap.size (zR (b.drop (i+1))++a) false:=Blk.fr D C a1;refine⟨⟨i+1,V,by omega,?_,?_,fun k o=>?_,fun k o=>?_,E⟩,?_⟩
   .rw[EM,IW r,Gq]
    exact x
   .refine(g.out.2.1.trans' j (fun k o e=>by omega)).trans' C (fun k o e=>?_)
    rcases g.out.2.2.1 k e with q|q
    .exact q
    .omega
   .rcases K k o with q|q
    .exact g.out.2.2.1 k q
    .exact .inr (by omega)
   .rcases R k o with q|q
    .exact g.out.2.2.2.1 k q
    .have:=N k q;exact .inr (by omega)
   .rw[Rs E,Rs hSi]
    have:=T8 (zr b[i]);simp only[IM];omega
  .have hil:i=b.length:=by omega
   subst hil;have l:=g.out.2.2.2.2;rw[Co] at l;have l:Src wr w.heap.size a false:=l;go_wp2_with fail;refine(Pw d a T.out.1 T.out.2.1 T.out.2.2 w.heap.size wr l).mono ?_;rintro e w2 ⟨rfl,j⟩;go_wp2_with fail;refine(UF w.heap.size a false w2 (Blk.fr l j id)).mono ?_;rintro e w3 ⟨rfl,Y⟩;go_wp2_with fail;go_ret;have c:=g.out.1;rw[HZ] at c;have G:=(j.trans Y);exact⟨rfl,A,c.nil G,g.out.2.1.trans' G (fun k o e=>absurd e id),g.out.2.2.1,g.out.2.2.2.1⟩
end Go.Proofs.YtkhnggkkiefcdaaGreatDoor
namespace Go.Proofs.YtkhnggkkiefcdaaGreatDoor
open Go.RowKit
theorem Q8(a b:List Fact):zR (a++b)=zR a++zR b:=by simp[zR]
theorem XB(f:Fact):(zh f).data.toList=Z0 (zr f):=by rw[TL];simp[zo]
theorem XO(a:List Fact)(f:Fact):zR (a++[f])=zR a++(zh f).data.toList:=by
 rw[Q8,XB];simp[zR]
theorem Pz(a:List UInt8):[]<+:Z0 a/\[]≠Z0 a :=
 ⟨CH,fun e=>by have:=T8 a;rw[<- e] at this;simp at this⟩
end Go.Proofs.YtkhnggkkiefcdaaGreatDoor
namespace Go.Proofs
open Go.Shelf
def Tryz.AN:Go.Shelf.Ren:=⟨fun|101=>221|208=>237|206=>250|n=>n,fun|9=>9|4=>4|3=>3|n=>n,fun|n=>n⟩
theorem Tryz.yz:Go.Proofs.Lays.n101 Tryz.prog Tryz.AN:={
 mixed:=by kernel_rfl
 f101:=Tryz.func221.trans (congrArg some (by kernel_rfl))
 f206:=Tryz.func250.trans (congrArg some (by kernel_rfl))
 f208:=Tryz.func237.trans (congrArg some (by kernel_rfl))
 t3:=Tryz.underlying3
 a3:=Tryz.isAgg3
 z3:=Tryz.sizeOf3
 v3:=Tryz.zeroValue3
 t4:=Tryz.underlying4
 a4:=Tryz.isAgg4
 z4:=Tryz.sizeOf4
 v4:=Tryz.zeroValue4
 t9:=Tryz.underlying9
 a9:=Tryz.isAgg9
 z9:=Tryz.sizeOf9
 v9:=Tryz.zeroValue9}
def Tryz.At:Go.Shelf.Ren:=⟨fun|244=>235|247=>245|287=>252|321=>255|322=>256|n=>n,fun|9=>9|3=>3|75=>132|4=>4|5=>5|167=>333|37=>150|0=>0|85=>334|2=>2|53=>274|175=>342|46=>299|21=>21|80=>242|n=>n,fun|n=>n⟩
theorem Tryz.yy:Go.Proofs.Lays.n244 Tryz.prog Tryz.At:={
 mixed:=by kernel_rfl
 f244:=Tryz.func235.trans (congrArg some (by kernel_rfl))
 f247:=Tryz.func245.trans (congrArg some (by kernel_rfl))
 f287:=Tryz.func252.trans (congrArg some (by kernel_rfl))
 f321:=Tryz.func255.trans (congrArg some (by kernel_rfl))
 f322:=Tryz.func256.trans (congrArg some (by kernel_rfl))
 t0:=Tryz.underlying0
 a0:=Tryz.isAgg0
 z0:=Tryz.sizeOf0
 v0:=Tryz.zeroValue0
 t2:=Tryz.underlying2
 a2:=Tryz.isAgg2
 z2:=Tryz.sizeOf2
 v2:=Tryz.zeroValue2
 t3:=Tryz.underlying3
 a3:=Tryz.isAgg3
 z3:=Tryz.sizeOf3
 v3:=Tryz.zeroValue3
 t4:=Tryz.underlying4
 a4:=Tryz.isAgg4
 z4:=Tryz.sizeOf4
 v4:=Tryz.zeroValue4
 t5:=Tryz.underlying5
 a5:=Tryz.isAgg5
 z5:=Tryz.sizeOf5
 v5:=Tryz.zeroValue5
 t9:=Tryz.underlying9
 a9:=Tryz.isAgg9
 z9:=Tryz.sizeOf9
 v9:=Tryz.zeroValue9
 t21:=Tryz.underlying21
 a21:=Tryz.isAgg21
 z21:=Tryz.sizeOf21
 v21:=Tryz.zeroValue21
 t37:=Tryz.underlying150
 a37:=Tryz.isAgg150
 z37:=Tryz.sizeOf150
 v37:=Tryz.zeroValue150
 t46:=Tryz.underlying299
 a46:=Tryz.isAgg299
 z46:=Tryz.sizeOf299
 v46:=Tryz.zeroValue299
 t53:=Tryz.underlying274
 a53:=Tryz.isAgg274
 z53:=Tryz.sizeOf274
 v53:=Tryz.zeroValue274
 t75:=Tryz.underlying132
 a75:=Tryz.isAgg132
 z75:=Tryz.sizeOf132
 v75:=Tryz.zeroValue132
 t85:=Tryz.underlying334
 a85:=Tryz.isAgg334
 z85:=Tryz.sizeOf334
 v85:=Tryz.zeroValue334
 t167:=Tryz.underlying333
 a167:=Tryz.isAgg333
 z167:=Tryz.sizeOf333
 v167:=Tryz.zeroValue333
 t175:=Tryz.underlying342
 a175:=Tryz.isAgg342
 z175:=Tryz.sizeOf342
 v175:=Tryz.zeroValue342}
def Tryz.AR:Go.Shelf.Ren:=⟨fun|172=>220|244=>235|245=>236|247=>245|279=>246|280=>247|281=>248|282=>249|287=>252|316=>125|171=>81|205=>253|321=>255|322=>256|243=>130|246=>165|283=>205|284=>206|285=>207|286=>208|129=>229|317=>228|318=>230|319=>231|320=>232|337=>242|338=>243|n=>n,fun|9=>9|3=>3|75=>132|76=>190|4=>4|5=>5|167=>333|37=>150|0=>0|85=>334|2=>2|168=>336|53=>274|175=>342|46=>299|210=>345|127=>240|145=>350|143=>348|21=>21|171=>293|173=>296|212=>322|51=>323|20=>20|213=>324|232=>340|233=>341|80=>242|n=>n,fun|15=>4|16=>5|17=>1|18=>2|19=>3|n=>n⟩
theorem Tryz.yC:Go.Proofs.Lays.n172 Tryz.prog Tryz.AR:={
 mixed:=by kernel_rfl
 f129:=Tryz.func229.trans (congrArg some (by kernel_rfl))
 f171:=Tryz.func81.trans (congrArg some (by kernel_rfl))
 f172:=Tryz.func220.trans (congrArg some (by kernel_rfl))
 f205:=Tryz.func253.trans (congrArg some (by kernel_rfl))
 f243:=Tryz.func130.trans (congrArg some (by kernel_rfl))
 f244:=Tryz.func235.trans (congrArg some (by kernel_rfl))
 f245:=Tryz.func236.trans (congrArg some (by kernel_rfl))
 f246:=Tryz.func165.trans (congrArg some (by kernel_rfl))
 f247:=Tryz.func245.trans (congrArg some (by kernel_rfl))
 f279:=Tryz.func246.trans (congrArg some (by kernel_rfl))
 f280:=Tryz.func247.trans (congrArg some (by kernel_rfl))
 f281:=Tryz.func248.trans (congrArg some (by kernel_rfl))
 f282:=Tryz.func249.trans (congrArg some (by kernel_rfl))
 f283:=Tryz.func205.trans (congrArg some (by kernel_rfl))
 f284:=Tryz.func206.trans (congrArg some (by kernel_rfl))
 f285:=Tryz.func207.trans (congrArg some (by kernel_rfl))
 f286:=Tryz.func208.trans (congrArg some (by kernel_rfl))
 f287:=Tryz.func252.trans (congrArg some (by kernel_rfl))
 f316:=Tryz.func125.trans (congrArg some (by kernel_rfl))
 f317:=Tryz.func228.trans (congrArg some (by kernel_rfl))
 f318:=Tryz.func230.trans (congrArg some (by kernel_rfl))
 f319:=Tryz.func231.trans (congrArg some (by kernel_rfl))
 f320:=Tryz.func232.trans (congrArg some (by kernel_rfl))
 f321:=Tryz.func255.trans (congrArg some (by kernel_rfl))
 f322:=Tryz.func256.trans (congrArg some (by kernel_rfl))
 f337:=Tryz.func242.trans (congrArg some (by kernel_rfl))
 f338:=Tryz.func243.trans (congrArg some (by kernel_rfl))
 t0:=Tryz.underlying0
 a0:=Tryz.isAgg0
 z0:=Tryz.sizeOf0
 v0:=Tryz.zeroValue0
 t2:=Tryz.underlying2
 a2:=Tryz.isAgg2
 z2:=Tryz.sizeOf2
 v2:=Tryz.zeroValue2
 t3:=Tryz.underlying3
 a3:=Tryz.isAgg3
 z3:=Tryz.sizeOf3
 v3:=Tryz.zeroValue3
 t4:=Tryz.underlying4
 a4:=Tryz.isAgg4
 z4:=Tryz.sizeOf4
 v4:=Tryz.zeroValue4
 t5:=Tryz.underlying5
 a5:=Tryz.isAgg5
 z5:=Tryz.sizeOf5
 v5:=Tryz.zeroValue5
 t9:=Tryz.underlying9
 a9:=Tryz.isAgg9
 z9:=Tryz.sizeOf9
 v9:=Tryz.zeroValue9
 t20:=Tryz.underlying20
 a20:=Tryz.isAgg20
 z20:=Tryz.sizeOf20
 v20:=Tryz.zeroValue20
 t21:=Tryz.underlying21
 a21:=Tryz.isAgg21
 z21:=Tryz.sizeOf21
 v21:=Tryz.zeroValue21
 t37:=Tryz.underlying150
 a37:=Tryz.isAgg150
 z37:=Tryz.sizeOf150
 v37:=Tryz.zeroValue150
 t46:=Tryz.underlying299
 a46:=Tryz.isAgg299
 z46:=Tryz.sizeOf299
 v46:=Tryz.zeroValue299
 t51:=Tryz.underlying323
 a51:=Tryz.isAgg323
 z51:=Tryz.sizeOf323
 v51:=Tryz.zeroValue323
 t53:=Tryz.underlying274
 a53:=Tryz.isAgg274
 z53:=Tryz.sizeOf274
 v53:=Tryz.zeroValue274
 t75:=Tryz.underlying132
 a75:=Tryz.isAgg132
 z75:=Tryz.sizeOf132
 v75:=Tryz.zeroValue132
 t76:=Tryz.underlying190
 a76:=Tryz.isAgg190
 z76:=Tryz.sizeOf190
 v76:=Tryz.zeroValue190
 t85:=Tryz.underlying334
 a85:=Tryz.isAgg334
 z85:=Tryz.sizeOf334
 v85:=Tryz.zeroValue334
 t127:=Tryz.underlying240
 a127:=Tryz.isAgg240
 z127:=Tryz.sizeOf240
 v127:=Tryz.zeroValue240
 t143:=Tryz.underlying348
 a143:=Tryz.isAgg348
 z143:=Tryz.sizeOf348
 v143:=Tryz.zeroValue348
 t145:=Tryz.underlying350
 a145:=Tryz.isAgg350
 z145:=Tryz.sizeOf350
 v145:=Tryz.zeroValue350
 t167:=Tryz.underlying333
 a167:=Tryz.isAgg333
 z167:=Tryz.sizeOf333
 v167:=Tryz.zeroValue333
 t168:=Tryz.underlying336
 a168:=Tryz.isAgg336
 z168:=Tryz.sizeOf336
 v168:=Tryz.zeroValue336
 t171:=Tryz.underlying293
 a171:=Tryz.isAgg293
 z171:=Tryz.sizeOf293
 v171:=Tryz.zeroValue293
 t173:=Tryz.underlying296
 a173:=Tryz.isAgg296
 z173:=Tryz.sizeOf296
 v173:=Tryz.zeroValue296
 t175:=Tryz.underlying342
 a175:=Tryz.isAgg342
 z175:=Tryz.sizeOf342
 v175:=Tryz.zeroValue342
 t210:=Tryz.underlying345
 a210:=Tryz.isAgg345
 z210:=Tryz.sizeOf345
 v210:=Tryz.zeroValue345
 t212:=Tryz.underlying322
 a212:=Tryz.isAgg322
 z212:=Tryz.sizeOf322
 v212:=Tryz.zeroValue322
 t213:=Tryz.underlying324
 a213:=Tryz.isAgg324
 z213:=Tryz.sizeOf324
 t232:=Tryz.underlying340
 a232:=Tryz.isAgg340
 z232:=Tryz.sizeOf340
 v232:=Tryz.zeroValue340
 t233:=Tryz.underlying341
 a233:=Tryz.isAgg341
 z233:=Tryz.sizeOf341
 v233:=Tryz.zeroValue341
 g15:=by kernel_rfl
 g16:=by kernel_rfl
 g17:=by kernel_rfl
 g18:=by kernel_rfl
 g19:=by kernel_rfl}
end Go.Proofs
namespace Go.Proofs.YtkhnggkkiefcdaaGreatDoor
open Go.RowKit
set_option maxRecDepth 100000
set_option maxHeartbeats 8000000
theorem Vi:∀(l r:List UInt8)(c:Nat),Lib.decFrom c (l++r)=(Lib.decFrom c l).bind fun a=>Lib.decFrom a r
 | [],_,_=>rfl
 | b::l,r,c=>by
  simp only[IY,Lib.decFrom];cases Lib.digitVal b with
  | none=>rfl
  | some d=>exact Vi l r _
theorem UO(d:Nat)(h:d<10):Lib.digitVal (UInt8.ofNat (48+d))=some d:=by
 have e:(UInt8.ofNat (48+d)).toNat=48+d:=by simp;omega
 unfold Lib.digitVal;rw[e,He (by omega)]
 congr 1
 omega
theorem SQ(n:Nat):Lib.decFrom 0 (Lib.decDigits n)=some n:=by
 induction n using Nat.strongRecOn with
 | ind n a =>
  rw[Lib.decDigits];by_cases h:n<10
  .rw[CN h]
   simp only[Lib.decFrom,UO n h]
   congr 1
   omega
  .rw[dif_neg h,Vi,a (n / 10) (by omega)]
   simp only[Dv,Lib.decFrom,UO (n%10) (by omega)]
   congr 1
   omega
theorem Na(n:Nat):∃ b r,Lib.decDigits n=b::r/\48<=b.toNat/\b.toNat<=57:=by
 induction n using Nat.strongRecOn with
 | ind n d =>
  rw[Lib.decDigits];by_cases h:n<10
  .rw[CN h]
   have e:(UInt8.ofNat (48+n)).toNat=48+n:=by simp;omega
   exact⟨_,[],rfl,by rw[e];omega,by rw[e];omega⟩
  .rw[dif_neg h]
   obtain⟨b,r,e,a,c⟩:=d (n / 10) (by omega);rw[e];exact⟨b,_,rfl,a,c⟩
theorem Vw:∀(k n:Nat),n<10^(k+1)->(Lib.decDigits n).length<=k+1
 | 0,n,h=>by rw[Lib.decDigits,CN (by simpa using h)];simp
 | k+1,n,h=>by
  rw[Lib.decDigits];by_cases a:n<10
  .rw[CN a];simp
  .rw[dif_neg a]
   have:=Vw k (n / 10) (by rw[CR] at h;omega);simp;omega
theorem Nb(n:Nat):Lib.atoi (Lib.decDigits n)=some (n:Int):=by
 have c:=SQ n;obtain⟨b,r,e,a,g⟩:=Na n;rw[e] at c |-;have d:(b==45)=false:=by
  rw[GG];rintro rfl;simp at a
 have f:(b==43)=false:=by
  rw[GG];rintro rfl;simp at a
 simp only[Lib.atoi,d,f,Lib.decNat,List.isEmpty_cons,c]
 rfl
theorem Wp(n:Nat):(Xy n).data.toList=Lib.decDigits n:=by
 simp[Xy,Lib.itoa]
theorem TN(s p:ByteArray)(w:World) :
 Calls Tryz.prog 221 #[.string s,.string p] w fun e a=>e=.returned (.string ⟨(Lib.trimPrefix s.data.toList p.data.toList).toArray⟩)/\a=w:=Any.strings_TrimPrefix Tryz.yz s p w
theorem K8(s:ByteArray)(n:Int)(b:s.size<=18)(h:Lib.atoi s.data.toList=some n)(w:World) :
 Calls Tryz.prog 220 #[.string s] w fun e a=>e=.returned (.tuple #[.int .i64 n,.nilIface])/\Fr Nil w a:=by
 refine CO (show Calls Tryz.prog 220 #[.string s] w _ from Any.strconv_Atoi Tryz.yC s n b h w) ?_;rintro e a ⟨rfl,t,rfl⟩;exact⟨rfl,Fr.BW (Lib.bytesWorld_below _ _ _)⟩
theorem Je(c:ByteArray)(n:Nat):Lib.trimPrefix (zg c n).data.toList c.data.toList=Lib.decDigits n:=by
 have e:(zg c n).data.toList=c.data.toList++Lib.decDigits n:=by
  simp only[zg,FF,FR,Wp]
 have d:∀ (a b:List UInt8),Lib.hasPrefix (a++b) a=true:=by
  intro a b;unfold Lib.hasPrefix;simp
 unfold Lib.trimPrefix;rw[e,d];simp
theorem PA(a:ByteArray)(b:a.size<=1000)(n:Nat)(u:1<=n)(p:n<10^18)(w:World)(q:∀ i,Fr Nil w i->Tab i) :
 Calls Tryz.prog 185 #[.string a,.string (zg a n)] w fun e i=>e=.returned (.int .i64 n)/\Fr Nil w i:=by
 have t:n<1000000000000000000:=p;have h:=Z (TN (zg a n) a w);rw[Je] at h;have o:(⟨(Lib.decDigits n).toArray⟩:ByteArray).size<=18:=Vw 17 n p;have l:=Z (fun g=>K8 ⟨(Lib.decDigits n).toArray⟩ n o (by simpa using Nb n) g);have m:=Z (fun g (f:Fr Nil w g)=>U5 a b n (by omega) g (q g f));have r:¬(n:Int)<1:=by omega
 clear o q;generalize zg a n=s at h m |-;generalize (⟨(Lib.decDigits n).toArray⟩:ByteArray)=d at h l;go_enter Tryz.func185,Tryz.ntmps185;go_wp2_with fail;refine h.out.mono ?_;rintro e v ⟨rfl,k⟩;subst k;go_wp2_with fail;refine(l.out _).mono ?_;rintro e x ⟨rfl,c⟩;go_wp2_with fail;refine(m.out _ c).mono ?_;rintro e y ⟨rfl,j⟩;go_wp2_with fail;go_ret;exact⟨rfl,c.trans j⟩
def XC(w:World):Prop:=4<w.heap.size/\∃ b a,w.cell? ⟨4,0,none⟩=some (.iface b a)
theorem XC.fr{w w':World}{S:Nat->Prop}(h:XC w)(f:Fr S w w')(g:¬S 4):XC w':=by
 obtain⟨c,r,o,e⟩:=h;exact⟨Gd c f.size,r,o,(f.cell (p:=⟨4,0,none⟩) c g).trans e⟩
theorem UC(c s:ByteArray)(hs:s.size<=1000000000)(w:World)(d:XC w) :
 Calls Tryz.prog 246 #[.string c,.string s] w fun e g=>∃ k,e=.returned (.pointer (some ⟨k,0,none⟩))/\Fr Nil w g:=by
 have l:=Z (fun a (f:Fr Nil w a)=>show Calls Tryz.prog 125 #[.string s] a fun e g=>e=.returned (.string s)/\Fr Nil w g from
  (AnyPu.stringslite_Clone Tryz.AQ s a (by omega)).mono fun e g ⟨r,o⟩=>⟨r,f.trans (Fr.BW o)⟩)
 obtain⟨t,j,i,b⟩:=d;have m:Hid (∀ a,Fr Nil w a->a.cell? ⟨4,0,none⟩=some (.iface j i)):=fun a f=>(f.cell (p:=⟨4,0,none⟩) t id).trans b;go_enter Tryz.func246,Tryz.ntmps246;go_wp2_with fail
 go_region_held3 (fun a=>a.cell? ⟨4,0,none⟩=some (.iface j i)) (first|assumption|go_keep) (first|(go_at_call 125;refine(l.out _ za).mono ?_;rintro e u ⟨rfl,h⟩;have q:=m.out _ h))
 all_goals
  go_wp2
  go_ret;exact⟨_,rfl,za⟩
theorem Q9(c s:ByteArray)(hs:s.size<=1000000000)(w:World)(a:XC w)(T:TypeId)(g:T=Tryz.At.t 167) :
 Calls Tryz.prog 236 #[.string c,.string s,.int .i64 0,.int .i64 0,.iface T (.int .i64 2)] w fun e l=>∃ k,e=.returned (.iface 336 (.pointer (some ⟨k,0,none⟩)))/\Fr Nil w l:=by
 have b:T=333:=by rw[g];rfl
 subst b;clear g;have i:=Z (fun h (f:Fr Nil w h)=>UC c s hs h (a.fr f id));have j:∀ W,(binOp .eql 132 (.iface 333 (.int .i64 2)) (.iface 333 (.int .i64 2))).run Tryz.prog W=.ok (.bool true) W:=fun W=>Lib.run_eql_iface_int W 2 2 Tryz.underlying132 (by kernel_rfl) Tryz.underlying333;go_enter Tryz.func236,Tryz.ntmps236;go_wp2_with fail;refine(i.out w (O _ _)).mono ?_;rintro e m ⟨k,rfl,d⟩;go_wp2_with fail;go_ret;exact⟨k,rfl,d⟩
theorem K9(s:ByteArray)(l:s.size<=18)(h:Lib.atoi s.data.toList=none)(w:World)(a:XC w) :
 Calls Tryz.prog 220 #[.string s] w fun e c=>∃ k,e=.returned (.tuple #[.int .i64 0,.iface 336 (.pointer (some ⟨k,0,none⟩))])/\Fr Nil w c:=by
 have j:Hid (Calls Tryz.prog 235 #[.string s] w fun e c=>e=.returned (.tuple #[.int .i64 0,.iface 333 (.int .i64 2)])/\Fr Nil w c):=by
  refine CO (show Calls Tryz.prog 235 #[.string s] w _ from Any.internal_strconv_Atoi_fail Tryz.yy s l h w) ?_;rintro e c ⟨rfl,rfl|⟨t,rfl⟩⟩
  .exact⟨rfl,O _ _⟩
  .exact⟨rfl,Fr.BW (Lib.bytesWorld_below _ _ _)⟩
 have i:=Z (fun g (f:Fr Nil w g)=>Q9 ⟨#[65,116,111,105]⟩ s (by omega) g (a.fr f id) 333 rfl);clear a h;go_enter Tryz.func220,Tryz.ntmps220;go_wp2_with fail;refine j.out.mono ?_;rintro e m ⟨rfl,b⟩;go_wp2_with fail;refine(i.out m b).mono ?_;rintro e o ⟨k,rfl,d⟩;go_wp2_with fail;go_ret2;exact⟨k,rfl,b.trans d⟩
theorem Vj(b a:ByteArray)(j:Lib.hasPrefix a.data.toList b.data.toList=false)(m:a.size<=18)(h:Lib.atoi a.data.toList=none)(w:World)(c:XC w) :
 Calls Tryz.prog 185 #[.string b,.string a] w fun e o=>e=.returned (.int .i64 0)/\Fr Nil w o:=by
 have g:=Z (TN a b w);have i:(⟨(Lib.trimPrefix a.data.toList b.data.toList).toArray⟩:ByteArray)=a:=by
  unfold Lib.trimPrefix;rw[j]
  apply EY
  simp
 rw[i] at g;have l:=Z (K9 a m h w c);clear i c h j;go_enter Tryz.func185,Tryz.ntmps185;go_wp2_with fail;refine g.out.mono ?_;rintro e q ⟨rfl,f⟩;subst f;go_wp2_with fail;refine l.out.mono ?_;rintro e r ⟨k,rfl,d⟩;go_wp2_with fail;go_ret;exact⟨rfl,d⟩
end Go.Proofs.YtkhnggkkiefcdaaGreatDoor
namespace Go.Proofs.YtkhnggkkiefcdaaGreatDoor
open Go.RowKit Go.Shelf
set_option maxRecDepth 100000
set_option maxHeartbeats 8000000
attribute [local go_sem] FQ
def Zz(l:List (Nat × ByteArray)):List Value:=l.flatMap fun e=>[.int .i64 e.1,.string e.2]
theorem XD(d:List (Nat × ByteArray)):(Zz d).length=d.length*2:=by
 induction d with
 | nil=>rfl
 | cons e d a=>simp only[Zz,Fi,IM,Hq,Gt] at a |-;omega
theorem Xn(d:List (Nat × ByteArray)):∀ (k:Nat)(h:k<d.length),(Zz d)[k*2]?=some (.int .i64 d[k].1)/\(Zz d)[k*2+1]?=some (.string d[k].2):=by
 induction d with
 | nil=>intro k h;simp at h
 | cons e d b =>
  intro k h;cases k with
  | zero=>exact⟨rfl,rfl⟩
  | succ k =>
   have:=b k (by simpa using h);have a:(k+1)*2=k*2+2:=by omega
   simp only[Zz,Fi,a] at this |-;exact this
theorem TO(a:Nat)(w:World) :
 Calls Tryz.prog 146 #[.pointer (some ⟨a,0,none⟩)] w fun e b =>
  e=.returned (.func (.func 187) #[] #[.pointer (some ⟨w.heap.size,0,none⟩)])/\b=w.alloc (.cells #[.pointer (some ⟨a,0,none⟩)] 211):=by
 go_enter Tryz.func146,Tryz.ntmps146
 go_wp2
 go_ret;exact⟨rfl,rfl⟩
end Go.Proofs.YtkhnggkkiefcdaaGreatDoor
namespace Go.Proofs.YtkhnggkkiefcdaaGreatDoor
open Go.RowKit
set_option maxRecDepth 100000
set_option maxHeartbeats 8000000
theorem Ka:((Tryz.prog.info? 268).map fun i=>(i.zero.map (·.cells.size),i.size,i.bytes))=some (some 2,2,24):=by kernel_rfl
def T9(w:World)(c:Option Nat)(n i:Nat)(h f:List Value)(e:Ending)(d:World):Prop :=
 ∃ g a,e=.returned (.slice (some ⟨g,0,none⟩) (n+1) a)/\d.ownsRow 0 268 2 (.slice (some ⟨g,0,none⟩) (n+1) a) (n+1) (Y5 2 i h f)/\Fr (fun b=>c=some b) w d/\(c=some g\/w.heap.size<=g)
theorem Nc(v:Value)(n:Nat)(d f:List Value)(r:Nat)(w:World)(b:w.ownsRow 0 268 2 v n d)(t:f.length=2)(s:∀ u∈f,u.oneCell'=true)(E:Blk w r f 268)(p:(n+1)*24<=140737488355328) :
 Calls Tryz.prog 223 #[v,.int .i64 n,.slice (some ⟨r,0,none⟩) 1 1] w fun e c=>T9 w v.ownBlock n n d f e c:=by
 have q:∀ ty,∃ m c,(Builtin.append_ #[261,261] ty #[v,.slice (some ⟨r,0,none⟩) 1 1]).run Tryz.prog w=.ok m c/\App w v 268 2 (n+1) (d++f) m c:=fun ty =>
  zt (P:=Tryz.prog) 261 ty 268 2 24 FI Ka (by omega) v n d b ⟨r,0,none⟩ 1 1 f (by rw[t]) (fun j u D=>by rw[Gh,Gg];rw[E.cell];exact D) s (by unfold maxLen;omega) p
 have k:∀ m c,App w v 268 2 (n+1) (d++f) m c->T9 w v.ownBlock n n d f (.returned m) c:=by
  rintro m c ⟨y,B,o⟩;obtain⟨g,l,rfl,_,_⟩:=y.form (by omega);refine⟨g,l,rfl,?_,(Fr.Bv B).mono (fun i _ h=>h),?_⟩
  .have e1:d.take (n*2)=d:=Hn (by rw[b.1];exact IQ _)
   have z:d.drop (n*2)=[]:=Gy (by rw[b.1];exact IQ _);unfold Y5;rw[e1,z,Hx];exact y
  .rcases o with o|o
   .left;rw[<- o];rfl
   .right;have:g=w.heap.size:=by simpa [Value.ownBlock] using o
    omega
 have C:=zH b;unfold maxLen at C;obtain⟨a,l,rfl⟩:=zc b;have x:=Z k;clear k b;generalize (Value.slice a n l).ownBlock=F at x |-;go_enter Tryz.func223,Tryz.ntmps223
 go_wp2_with (at_builtin;go_must (refine zk rfl _ _ _ _ rfl _ _ (by rfl) (by rfl) (q _) ?_);rintro m c A)
 all_goals
  go_ret;exact x.out _ _ A
theorem Kb(w:World)(k m l i h f:Nat)(a g:Nat)(j c:List Value)(d:Blk w a j 268)(p:Blk w g c 268)(b:a≠g)(o:c.length≠0) :
 (callFunc 240 #[.slice (some ⟨a,k,none⟩) m l,.slice (some ⟨g,i,none⟩) h f]).run Tryz.prog w=.ok (.value (.bool false)) w:=by
 rw[GA Tryz.func240 (by kernel_rfl) (by kernel_rfl) (by kernel_rfl) (e:=Extern.SlicesOverlaps.overlaps #[261,261] #[4]) (by kernel_rfl),
  Dh w 261 4 268 FI 2 Tryz.sizeOf268 ⟨a,k,none⟩ ⟨g,i,none⟩ m l h f b 268 268 j.length c.length d.shape p.shape o (d.frozen _) (d.frozen _)]
 rfl
theorem Qa(g n d i:Nat)(c l k:List Value)(z:Nat)(w:World)(J:Blk w g c 268)(h:c.length=d*2)(M:c.take (n*2)=l)(V:∀ u∈l,u.oneCell'=true)(hi:i<n)(a:n+1<=d)(F:d<=maxLen)
 (r:k.length=2)(I:∀ u∈k,u.oneCell'=true)(Q:Blk w z k 268)(K:z≠g) :
 Calls Tryz.prog 223 #[.slice (some ⟨g,0,none⟩) n d,.int .i64 i,.slice (some ⟨z,0,none⟩) 1 1] w fun e w'=>T9 w (some g) n i l k e w':=by
 have N:=fun va vl vc bo bl bc=>Kb w va vl vc bo bl bc z g k c Q J K (by omega);have v:l.length=n*2:=by rw[<- M,IR,h];exact Gv (Hv _ (by omega))
 have q:(l.drop (i*2)).length=(n-i)*2:=by rw[Hi,v,Dz]
 have G:∀ j u,(l.drop (i*2))[j]?=some u->c[i*2+j]?=some u:=by
  intro j u s;rw[Fa] at s;have a0:=(Hp.1 s).1;rw[<- M,Gx (by omega)] at s;exact s
 have p:∀ ty A R,(Builtin.copy_ #[261,261] ty #[.slice (some ⟨g,(i+1)*2,none⟩) (n-i) A,.slice (some ⟨g,i*2,none⟩) (n+1-i) R]).run Tryz.prog w.drew=_:=fun ty A R =>
  Zv 261 268 ty 2 FI (by kernel_rfl) g ((i+1)*2) (n-i) A ⟨g,i*2,none⟩ (n+1-i) R c (l.drop (i*2)) 268 J
   (by rw[q];congr 1;simp only[FK];split <;> omega) (fun j u s=>by rw[Gh,show w.drew.cell? ⟨g,i*2+j,none⟩=c[i*2+j]? from J.drew.cell _];exact G j u s)
   (by rw[q,h];have:=Hv 2 a;have e:(i+1)*2+(n-i)*2=(n+1)*2:=(by rw[<- Fe];congr 1;omega);omega)
   (fun u s=>V u (Gn s))
 obtain⟨f,m⟩:∃ f,f=c.take ((i+1)*2)++l.drop (i*2)++c.drop ((i+1)*2+(l.drop (i*2)).length):=⟨_,rfl⟩;rw[<- m] at p;have t:Blk (w.drew.setRow g f.toArray) g f 268:=J.drew.setRow f;have C:Blk (w.drew.setRow g f.toArray) z k 268:=Q.drew.of_heap (Ex _ g z _ K);have o:f.length=d*2:=by
  have:=Hv 2 a;have e:(i+1)*2+(n-i)*2=(n+1)*2:=by rw[<- Fe];congr 1;omega
  rw[m];simp only[IM,IR,Hi,v,h];omega
 have B:Fr (fun b=>some g=some b) w (w.drew.setRow g f.toArray):=Fr.setRow (S:=fun b=>some g=some b) ((O _ w).drew) (fun _=>rfl) _;obtain⟨L,D⟩:∃ L,L=w.drew.setRow g f.toArray:=⟨_,rfl⟩;rw[<- D] at p t C B;clear D;have x:∀ ty A,(Builtin.copy_ #[261,261] ty #[.slice (some ⟨g,i*2,none⟩) (n+1-i) A,.slice (some ⟨z,0,none⟩) 1 1]).run Tryz.prog L=_:=fun ty A =>
  Zv 261 268 ty 2 FI (by kernel_rfl) g (i*2) (n+1-i) A ⟨z,0,none⟩ 1 1 f k 268 t
   (by rw[r];have:Nat.min 1 (n+1-i)=1:=(by simp only[FK];split <;> omega);rw[this]) (fun j u s=>by rw[Gh,Gg,C.cell];exact s)
   (by rw[r,o];have:=Hv 2 a;have e:i*2+2=(i+1)*2:=(by rw[Fe,DA]);have:=Hv 2 (show i+1<=n+1 by omega);omega)
   I
 have y:T9 w (some g) n i l k (.returned (.slice (some ⟨g,0,none⟩) (n+1) d)) (L.setRow g (f.take (i*2)++k++f.drop (i*2+k.length)).toArray):=by
  have e0:=Hv 2 a;have e1:i*2+2=(i+1)*2:=by rw[Fe,DA]
  have e2:(i+1)*2+(n-i)*2=(n+1)*2:=by rw[<- Fe];congr 1;omega
  have e3:=Hv 2 (show i<=n by omega);refine⟨g,d,rfl,ZA (t.setRow _) a F ?_ ?_,Fr.setRow (S:=fun b=>some g=some b) B (fun _=>rfl) _,.inl rfl⟩
  .rw[IM,IM,IR,Hi,r,o]
   omega
  .unfold Y5
   have X:f.take (i*2)=l.take (i*2):=by
    rw[m,<- M,Gk (by rw[IM,IR,h];omega),Gk (by rw[IR,h];omega),Fz,Fz]
    congr 1
    omega
   have Y:f.drop (i*2+k.length)=l.drop (i*2)++c.drop ((n+1)*2):=by
    have e4:(c.take ((i+1)*2)).length=i*2+k.length:=by rw[IR,h];omega
    rw[m,Hu,<- e4,EO,q,e2]
   rw[X,Y,<- Hu,Gw (by rw[IM,IM,q,r,IR,v];omega)]
 obtain⟨T,E⟩:∃ T,T=f.take (i*2)++k++f.drop (i*2+k.length):=⟨_,rfl⟩;rw[<- E] at x y;clear t C B o G J Q q v V I m E M r h;unfold maxLen at F;have a3:¬(i:Int)=(n:Int):=by omega
 have a4:¬(d:Int)<(n:Int)+1:=by omega
 have a5:¬d=i:=by omega
 have a6:¬d=i+1:=by omega
 have a7:IntKind.i64.wrap ((i:Int)+1)=(i:Int)+1:=by rw[Hr];omega
 have a8:(0:Int)<=(i:Int)+1:=by omega
 have a9:((i:Int)+1).toNat=i+1:=by omega
 have b0:(i:Int)<=(n:Int)+1:=by omega
 have b1:(i:Int)<=(n:Int):=by omega
 go_enter Tryz.func223,Tryz.ntmps223
 go_wp2_with (simp only[N])
 go_region_law (refine Yx rfl _ _ 261 261 rfl _ _ (by simp[Act.eval,Act.put]) (by simp[Act.eval,Act.put]) (p _ _ _) ?_)
 go_wp2_with (at_builtin;go_must (refine Yo rfl _ _ 261 261 rfl _ _ (by rfl) (by rfl) (x _ _) ?_))
 go_ret;exact y
theorem PB(g n i:Nat)(b m:List Value)(vb:Nat)(w:World)(hg:Blk w g b 268)(f:b.length=n*2)(h1:∀ u∈b,u.oneCell'=true)(hi:i<n)
 (q:m.length=2)(a0:∀ u∈m,u.oneCell'=true)(hv:Blk w vb m 268)(Y:(n+1)*24<=140737488355328) :
 Calls Tryz.prog 223 #[.slice (some ⟨g,0,none⟩) n n,.int .i64 i,.slice (some ⟨vb,0,none⟩) 1 1] w fun e w'=>T9 w (some g) n i b m e w':=by
 obtain⟨i0,z,a4,a6,S,J,a7⟩:=ZH Ka;have s:i+(n+1-i)=n+1:=by omega
 have a:∀ ty,(Builtin.append_ #[261,3] ty #[.slice (some ⟨g,0,none⟩) i n,.int .i64 ((n+1-i:Nat):Int)]).run Tryz.prog w=_:=fun ty =>
  EX (P:=Tryz.prog) w 261 3 ty 268 i0 z .i64 .i64 FI ET a4 a6 (some ⟨g,0,none⟩) i n (b.take (i*2))
   (by rw[S];exact En (P:=Tryz.prog) w.drew 2 i ⟨g,0,none⟩ i n (b.take (i*2)) (by rw[IR,f];omega) (fun j u t=>by
     have a8:=(Hp.1 t).1;rw[Gh,Gg,hg.drew.cell];rw[IR] at a8;rw[Gx (by omega)] at t;exact t))
   (n+1-i) (by omega) (by rw[S];omega) (by omega) (by omega) (by rw[J];omega) (DT (by omega) (by rw[J,s];exact Y))
 rw[s] at a;have a2:=CJ w (n+1) n 268;have K:=Da w (n+1) n 268 (by unfold maxLen;omega);generalize grownCap w (n+1) n 268=c at a a2 K;obtain⟨d,v⟩:∃ d:List Value,d=b.take (i*2)++(Builtin.zeroCells z.cells (n+1-i)).toList++(Builtin.zeroCells z.cells (c-(n+1))).toList:=⟨_,rfl⟩;have C:(b.take (i*2)).toArray++Builtin.zeroCells z.cells (n+1-i)++Builtin.zeroCells z.cells (c-(n+1))=d.toArray:=by rw[v];apply EN;simp
 rw[C] at a;have o:d.length=c*2:=by
  rw[v];simp only[IM,IR,GR,DR,a7,f];omega
 have D:d.take (i*2)=b.take (i*2):=by
  have e:(b.take (i*2)).length=i*2:=by rw[IR,f];omega
  rw[v,Hu];exact Gw e
 have a3:=hg.lt;have a5:=hv.lt;have r:Blk (w.drew.alloc (.cells d.toArray 268)) w.heap.size d 268:=Blk.new w.drew d _;have T:Blk (w.drew.alloc (.cells d.toArray 268)) vb m 268:=hv.drew.alloc _;have Q:Blk (w.drew.alloc (.cells d.toArray 268)) g b 268:=hg.drew.alloc _;have L:Fr Nil w (w.drew.alloc (.cells d.toArray 268)):=((O _ w).drew).alloc _;obtain⟨N,hN⟩:∃ N,N=w.heap.size:=⟨_,rfl⟩;rw[<- hN] at a r a3 a5;obtain⟨G,V⟩:∃ G,G=w.drew.alloc (.cells d.toArray 268):=⟨_,rfl⟩;rw[<- V] at a r T Q L;clear V;obtain⟨k,x⟩:∃ k,k=d.take (i*2)++m++d.drop (i*2+m.length):=⟨_,rfl⟩;have p:∀ ty I,(Builtin.copy_ #[261,261] ty #[.slice (some ⟨N,i*2,none⟩) (n+1-i) I,.slice (some ⟨vb,0,none⟩) 1 1]).run Tryz.prog G=_:=fun ty I =>
  Zv 261 268 ty 2 FI (by kernel_rfl) N (i*2) (n+1-i) I ⟨vb,0,none⟩ 1 1 d m 268 r
   (by rw[q];have:Nat.min 1 (n+1-i)=1:=(by simp only[FK];split <;> omega);rw[this]) (fun j u t=>by rw[Gh,Gg,T.cell];exact t)
   (by rw[q,o];omega)
   a0
 rw[<- x] at p;have l:k.length=c*2:=by
  rw[x];simp only[IM,IR,Hi,q,o];omega
 have E:k.take ((i+1)*2)=b.take (i*2)++m:=by
  have e:(b.take (i*2)++m).length=(i+1)*2:=by rw[IM,IR,f,q];omega
  rw[x,D];exact Gw e
 have B:Blk (G.setRow N k.toArray) N k 268:=r.setRow k;have R:Blk (G.setRow N k.toArray) g b 268:=Q.of_heap (Ex _ N g _ (by omega));have M:Fr Nil w (G.setRow N k.toArray):=L.setRow (fun h=>by omega) _;obtain⟨W2,X⟩:∃ W2,W2=G.setRow N k.toArray:=⟨_,rfl⟩;rw[<- X] at p B R M;clear X;have A:(b.drop (i*2)).length=(n-i)*2:=by rw[Hi,f,Dz]
 obtain⟨c3,y⟩:∃ c3,c3=k.take ((i+1)*2)++b.drop (i*2)++k.drop ((i+1)*2+(b.drop (i*2)).length):=⟨_,rfl⟩;have F:∀ ty I sc,(Builtin.copy_ #[261,261] ty #[.slice (some ⟨N,(i+1)*2,none⟩) (n-i) I,.slice (some ⟨g,i*2,none⟩) (n-i) sc]).run Tryz.prog W2.drew=_:=fun ty I sc =>
  Zv 261 268 ty 2 FI (by kernel_rfl) N ((i+1)*2) (n-i) I ⟨g,i*2,none⟩ (n-i) sc k (b.drop (i*2)) 268 B.drew
   (by rw[A];congr 1;simp only[FK];split <;> omega) (fun j u t=>by rw[Gh,R.drew.cell];rw[Fa] at t;exact t)
   (by rw[A,l];omega)
   (fun u t=>h1 u (Gn t))
 rw[<- y] at F;have a1:T9 w (some g) n i b m (.returned (.slice (some ⟨N,0,none⟩) (n+1) c)) (W2.drew.setRow N c3.toArray):=by
  refine⟨N,c,rfl,ZA (B.drew.setRow _) a2 K ?_ ?_,(M.drew.setRow (fun h=>by omega) _).mono (fun _ _ h=>absurd h id),.inr (by omega)⟩
  .rw[y]
   simp only[IM,IR,Hi,f,l];omega
  .have e:(k.take ((i+1)*2)++b.drop (i*2)).length=(n+1)*2:=by rw[IM,IR,l,A];omega
   rw[y,Gw e,E]
   rfl
 clear D E C y x v r T Q L B R M A l o h1 a0 q f hv hg hN s a7 J S a6 a4;unfold maxLen at K;have a9:¬(i:Int)=(n:Int):=by omega
 have b0:¬n=i:=by omega
 have b1:¬c=i+1:=by omega
 have b2:¬c=i:=by omega
 have b3:(n:Int)+1-i=((n+1-i:Nat):Int):=by omega
 have b4:IntKind.i64.wrap ((i:Int)+1)=(i:Int)+1:=by rw[Hr];omega
 have b5:(0:Int)<=(i:Int)+1:=by omega
 have b6:((i:Int)+1).toNat=i+1:=by omega
 have b7:(i:Int)<=(n:Int)+1:=by omega
 have b8:(i:Int)<=(n:Int):=by omega
 go_enter Tryz.func223,Tryz.ntmps223
 go_wp2_with (at_builtin;go_must (first|(refine Dq _ rfl _ _ _ _ rfl _ _ (by rfl) (by rfl) _ _ (a _) ?_)|(refine Yo rfl _ _ 261 261 rfl _ _ (by rfl) (by rfl) (p _ _) ?_)))
 go_region_law (refine Yx rfl _ _ 261 261 rfl _ _ (by simp[Act.eval,Act.put]) (by simp[Act.eval,Act.put]) (F _ _ _) ?_)
 go_wp2
 go_ret;exact a1
theorem Qb(v:Value)(n i:Nat)(k d:List Value)(j:Nat)(w:World)(b:w.ownsRow 0 268 2 v n k)(r:∀ u∈k,u.oneCell'=true)(A:i<=n)
 (h:d.length=2)(f:∀ u∈d,u.oneCell'=true)(q:Blk w j d 268)(p:v.ownBlock≠some j)(a:(n+1)*24<=140737488355328) :
 Calls Tryz.prog 223 #[v,.int .i64 i,.slice (some ⟨j,0,none⟩) 1 1] w fun e z=>T9 w v.ownBlock n i k d e z:=by
 rcases Fg i n with m|y
 .rcases Yn b with⟨_,h0,_⟩|⟨g,cap,c,rfl,hg,hn,hm,hc,ht⟩
  .omega
  .have hne':j≠g:=fun e=>p (by rw[e];rfl)
   rcases Fg n cap with t|t
   .exact Qa g n cap i c k d j w hg hc ht r m t hm h f q hne'
   .have e:cap=n:=by omega
    subst e;have o:c=k:=by rw[<- ht];exact(Hn (by omega)).symm
    subst o;exact PB g cap i c d j w hg hc r m h f q a
 .have e:i=n:=by omega
  subst e;exact Nc v i k d j w b h f q a
def zY(a b:Nat):Bool:=decide (a<b)
theorem WG:Strict zY where
 yI a:=by simp[zY]
 trans a b c h1 h2:=by simp only[zY,Ha] at *;omega
 yO a b h1 h2:=by simp only[zY,Ha,Ho] at *;omega
theorem PC{a b:Nat}:XK a b<0↔zY a b=true:=by
 unfold XK zY;rw[Ha];split
 .rename_i h;constructor <;> intro <;> omega
 .rename_i h
  split
  .constructor <;> intro <;> omega
  .constructor <;> intro <;> omega
theorem Kc{a b:Nat}:XK a b=0↔(a==b)=true:=by
 unfold XK;rw[CP];split
 .rename_i h;constructor <;> intro <;> omega
 .rename_i h
  split
  .constructor <;> intro <;> omega
  .constructor <;> intro <;> omega
theorem Wi(a b:Nat)(v:ByteArray)(w:World) :
 Calls Tryz.prog 239 #[.agg #[.int .i64 a,.string v],.int .i64 b] w fun e d=>e=.returned (.int .i64 (XK a b))/\Fr Nil w d:=by
 go_enter Tryz.func239,Tryz.ntmps239
 go_wp2_with (go_at_call 180;refine(TC _ _ _).mono ?_;rintro e f ⟨rfl,c⟩;subst c)
 go_ret;exact⟨rfl,(by repeat' first|exact O _ _|(with_reducible assumption)|refine Fr.drewN ?_ _|refine Fr.drew ?_|refine Fr.alloc ?_ _|refine Fr.set ?_ ?_ _|(intro _;rfl))⟩
theorem Qc(v:Value)(l:List (Nat × ByteArray))(s:Nat)(w:World)(h:w.ownsRow 0 268 2 v l.length (Zz l))(hs:Asc zY (l.map Prod.fst))(X:l.length<4611686018427387904) :
 Calls Tryz.prog 238 #[v,.int .i64 s,.func (.func 239) #[] #[]] w fun e E =>
  e=.returned (.tuple #[.int .i64 (low zY (l.map Prod.fst) s),.bool (Z5 zY (l.map Prod.fst) s)])/\Fr Nil w E:=by
 have V:=zH h;unfold maxLen at V;obtain⟨a,t,rfl⟩:=zc h;go_enter Tryz.func238,Tryz.ntmps238
 go_wp2
 go_loopw [9,10] (fun C D E=>∃ i j:Nat,i<=j/\j<=l.length/\C=.int .i64 i/\D=.int .i64 j/\(∀ k (d:k<l.length),k<i->zY l[k].1 s=true)/\(∀ k (d:k<l.length),j<=k->zY l[k].1 s=false)/\Fr Nil w E) (fun C D _=>(intOf D).toNat-(intOf C).toNat)
 case atStart=>exact⟨0,l.length,Hg _,IQ _,rfl,rfl,fun k _ d=>absurd d (Gb _),fun k d S=>absurd d (by omega),O _ _⟩
 case round =>
  obtain⟨i,j,R,F,rfl,rfl,c,u,p⟩:=hrel;by_cases T:i<j
  .obtain⟨g,rfl⟩:∃ g,a=some ⟨g,0,none⟩:=by
    rcases h.2 with⟨c,K⟩|⟨g,t,z,c,_⟩
    .omega
    .simp at c;exact⟨g,c.1⟩
   have hm:(i+j) / 2<l.length:=by omega
   have Q:=own_cell? (zb h p (fun _ _=>id)) ((i+j) / 2*2) _ (Xn l _ hm).1;have A:=own_cell? (zb h p (fun _ _=>id)) ((i+j) / 2*2+1) _ (Xn l _ hm).2;have I:=Z c;have J:=Z u;clear c u;have L:(i:Int)<=4611686018427387903:=by omega
   have M:(j:Int)<=4611686018427387903:=by omega
   have N:(i:Int)+j<=9223372036854775807:=by omega
   have Y:(((i:Int)+j) / 2).toNat=(i+j) / 2:=by omega
   cases hl:zY l[(i+j) / 2].1 s with
   | true =>
    have r:=Z hl;have B:XK l[(i+j) / 2].1 s<0:=PC.2 hl;clear hl
    go_wp2_with (go_at_call 239;refine(Wi _ _ _ _).mono ?_;rintro e G ⟨rfl,m⟩)
    refine⟨⟨(i+j) / 2+1,j,by omega,F,by go_num,rfl,fun k d q=>?_,J.out,p.trans m⟩,by simp[intOf];omega⟩;by_cases e:k=(i+j) / 2
    .subst e;exact r.out
    .exact WG.trans _ _ _ (hs.fst (i:=k) (j:=(i+j) / 2) (by omega) hm) r.out
   | false =>
    have r:=Z hl;have B:¬XK l[(i+j) / 2].1 s<0:=by rw[PC];simp[hl]
    clear hl
    go_wp2_with (go_at_call 239;refine(Wi _ _ _ _).mono ?_;rintro e G ⟨rfl,m⟩)
    refine⟨⟨i,(i+j) / 2,by omega,by omega,rfl,by go_num,I.out,fun k d q=>?_,p.trans m⟩,by simp[intOf];omega⟩;by_cases e:k=(i+j) / 2
    .subst e;exact r.out
    .cases hk2:zY l[k].1 s with
     | false=>rfl
     | true =>
      have:=WG.trans _ _ _ (hs.fst (i:=(i+j) / 2) (j:=k) (by omega) d) hk2;rw[r.out] at this;cases this
  .have he:i=j:=by omega
   subst he;have b:low zY (l.map Prod.fst) s=i:=U4 zY s _ i (by simpa using F) (fun k d q=>by simpa using c k (by simpa using d) q) (fun d=>by simpa using u i (by simpa using d) (IQ _));by_cases o:i<l.length
   .obtain⟨g,rfl⟩:∃ g,a=some ⟨g,0,none⟩:=by
     rcases h.2 with⟨c,K⟩|⟨g,t,z,c,_⟩
     .omega
     .simp at c;exact⟨g,c.1⟩
    have Q:=own_cell? (zb h p (fun _ _=>id)) (i*2) _ (Xn l _ o).1;have A:=own_cell? (zb h p (fun _ _=>id)) (i*2+1) _ (Xn l _ o).2;have f:Z5 zY (l.map Prod.fst) s=(XK l[i].1 s==0):=by
     rw[XH o b,Bool.eq_iff_iff,<- Kc];simp
    have y:=Z b;have x:=Z f;clear c u b f
    go_wp2_with (go_at_call 239;refine(Wi _ _ _ _).mono ?_;rintro e G ⟨rfl,m⟩)
    go_ret2;rw[y.out,x.out];exact⟨rfl,p.trans m⟩
   .have f:Z5 zY (l.map Prod.fst) s=false:=Ve (by rw[b];simpa using o)
    have y:=Z b;have x:=Z f;clear c u b f
    go_wp2
    go_ret2;rw[y.out,x.out];exact⟨rfl,p⟩
abbrev ZO (l:List (Nat × ByteArray)):List Nat:=l.map Prod.fst
structure Vx(w:World)(v:Value)(l:List (Nat × ByteArray)):Prop where
 own:w.ownsRow 0 268 2 v l.length (Zz l)
 Al:Asc zY (ZO l)
theorem Vx.fr{w w':World}{v:Value}{l:List (Nat × ByteArray)}{S:Nat->Prop}(h:Vx w v l)(f:Fr S w w')(c:∀ k,v.ownBlock=some k->¬S k):Vx w' v l :=
 ⟨zb h.own f c,h.Al⟩
theorem PD(v:Value)(l:List (Nat × ByteArray))(s:Nat)(b:Nat)(w:World)(g:w.cell? ⟨b,0,none⟩=some v)(h:Vx w v l)(c:l.length<4611686018427387904) :
 Calls Tryz.prog 222 #[.pointer (some ⟨b,0,none⟩),.int .i64 s] w fun e f =>
  e=.returned (.tuple #[.int .i64 (low zY (ZO l) s),.bool (Z5 zY (ZO l) s)])/\Fr Nil w f:=by
 have d:=Z (Qc v l s w h.own h.Al c);clear h;go_enter Tryz.func222,Tryz.ntmps222
 go_wp2_with (refine d.out.mono ?_;rintro e i ⟨rfl,a⟩)
 go_ret2;exact⟨rfl,a⟩
theorem Kd(l:List (Nat × ByteArray)):∀ u∈Zz l,u.oneCell'=true:=by
 intro u a;simp only[Zz,Dt] at a;obtain⟨e,b,a⟩:=a;simp at a;rcases a with rfl|rfl <;> rfl
theorem XE(a b:List (Nat × ByteArray)):Zz (a++b)=Zz a++Zz b:=by simp[Zz]
theorem MN(l:List (Nat × ByteArray))(i:Nat):(Zz l).take (i*2)=Zz (l.take i):=by
 rcases EU i l.length with h|h
 .have e:=XE (l.take i) (l.drop i)
  rw[Ge] at e;rw[e];exact Gw (by rw[XD,IR,Gv h])
 .rw[Hn h,Hn (by rw[XD];omega)]
theorem MO(l:List (Nat × ByteArray))(i:Nat):(Zz l).drop (i*2)=Zz (l.drop i):=by
 rcases EU i l.length with h|h
 .have e:=XE (l.take i) (l.drop i)
  rw[Ge] at e;rw[e];exact CG (by rw[XD,IR,Gv h])
 .rw[Gy h,Gy (by rw[XD];omega)]
  rfl
def WH(l:List (Nat × ByteArray))(s:Nat)(x:ByteArray):List (Nat × ByteArray):=l.take (low zY (ZO l) s)++[(s,x)]++l.drop (low zY (ZO l) s)
theorem Jf{l:List (Nat × ByteArray)}(s:Nat)(x:ByteArray)(h:Asc zY (ZO l))(a:Z5 zY (ZO l) s=false):Asc zY (ZO (WH l s x)):=by
 have:=Asc.ins WG (b:=s) h (fun c e=>by rw[Uu c,e] at a;simp at a);unfold WH
 simpa [ZO,List.map_take,List.map_drop] using this
theorem UP{l:List (Nat × ByteArray)}{s:Nat}{x:ByteArray}:(WH l s x).length=l.length+1:=by
 have:=Vd zY (ZO l) s;simp only[Hy] at this;simp[WH];omega
def IB(w:World)(b:Nat)(t:TypeId)(v:Value)(rest:List Value)(l:List (Nat × ByteArray))(c:World):Prop :=
 ∃ a,Blk c b (a::rest) t/\Vx c a l/\Fr (fun k=>k=b\/v.ownBlock=some k) w c/\(∀ k,a.ownBlock=some k->v.ownBlock=some k\/w.heap.size<=k)
theorem MP(v:Value)(rest:List Value)(l:List (Nat × ByteArray))(s:Nat)(x:ByteArray)(b:Nat)(t:TypeId)(w:World)(C:Blk w b (v::rest) t)(ht:t≠268)(h:Vx w v l)
 (a0:l.length<1099511627776)(R:Z5 zY (ZO l) s=false) :
 Calls Tryz.prog 186 #[.pointer (some ⟨b,0,none⟩),.int .i64 s,.string x] w fun e w' =>
  e=.returned (.tuple #[])/\IB w b t v rest (WH l s x) w':=by
 have J:w.cell? ⟨b,0,none⟩=some v:=by rw[C.cell];rfl
 have N:=Z (PD v l s b w J h (by omega));have Y:=zH h.own;unfold maxLen at Y;have G:=Z h;have M:=Z C;clear J h C;go_enter Tryz.func186,Tryz.ntmps186;go_wp2_with fail;refine N.out.mono ?_;rintro e f ⟨rfl,o⟩;have j:=M.out.fr o id;have V:f.cell? ⟨b,0,none⟩=some v:=by rw[j.cell];rfl
 have a1:=j.frozen 0;go_wp2_with fail;have I:Blk (f.alloc (.cells #[.int .i64 s,.string x] 268)) f.heap.size [.int .i64 s,.string x] 268:=Blk.new f [.int .i64 s,.string x] _;have a:=j.alloc (.cells #[.int .i64 s,.string x] 268);have c:Fr Nil w (f.alloc (.cells #[.int .i64 s,.string x] 268)):=o.alloc _;have D:∀ k,v.ownBlock=some k->k<f.heap.size:=fun k p=>zC (G.out.fr o (fun _ _=>id)).own p;generalize f.alloc (.cells #[.int .i64 s,.string x] 268)=w2 at I a c |-;have B:=G.out.fr c (fun _ _=>id);have A:v.ownBlock≠some b:=zd B.own a ht;have y:=Vd zY (ZO l) s;simp only[Hy] at y;refine(Qb v l.length (low zY (ZO l) s) (Zz l) [.int .i64 s,.string x] f.heap.size w2 B.own (Kd l) y rfl (by intro u K;simp at K;rcases K with rfl|rfl <;> rfl) I (fun e=>by have:=D _ e;omega) (by omega)).mono ?_;rintro e L ⟨g,q,rfl,E,r,z⟩;have m:=a.fr r A;have X:L.cell? ⟨b,0,none⟩=some v:=by rw[m.cell];rfl
 have a2:=m.frozen 0;have T:b≠g:=by
  rcases z with h|h
  .intro e;exact A (by rw[h,e])
  .have:=a.lt;omega
 have d:IB w b t v rest (WH l s x) (L.setCell ⟨b,0,none⟩ (.slice (some ⟨g,0,none⟩) (l.length+1) q)):=by
  have F:=UP (l:=l) (s:=s) (x:=x);refine⟨.slice (some ⟨g,0,none⟩) (l.length+1) q,m.set 0 _,⟨?_,Jf s _ B.Al R⟩,Fr.set ((c.mono (fun _ _ h=>absurd h id)).trans' r (fun i _ h=>.inr h)) (fun _=>.inl rfl) _,fun k p=>?_⟩
  .rw[F]
   have e:Zz (WH l s x)=Y5 2 (low zY (ZO l) s) (Zz l) [.int .i64 s,.string x]:=by
    unfold WH Y5;rw[XE,XE,MN,MO]
    rfl
   rw[e];exact zb E (Fr.set (S:=fun k=>k=b) (O _ _) (fun _=>rfl) _) (fun k p=>by simp[Value.ownBlock] at p;omega)
  .simp[Value.ownBlock] at p
   subst p;rcases z with h|h
   .exact .inl h
   .exact .inr (by have:=c.size;omega)
 have Q:=Z d;clear d
 go_wp2
 exact GC (v:=.tuple #[]) (by simp[results,go_sem]) rfl ⟨rfl,Q.out⟩
end Go.Proofs.YtkhnggkkiefcdaaGreatDoor
namespace Go.Proofs.YtkhnggkkiefcdaaGreatDoor
open Go.RowKit Go.Shelf
set_option maxRecDepth 100000
set_option maxHeartbeats 8000000
attribute [local go_sem] FQ
theorem PE(v:Value)(l:List ByteArray)(s:ByteArray)(w:World)(h:w.ownsRow 0 9 1 v l.length (strs l)) :
 Calls Tryz.prog 234 #[v,.string s] w fun e z=>∃ r:Int,e=.returned (.int .i64 r)/\decide (0<=r)=l.any (·==s)/\Fr Nil w z:=by
 have D:=zH h;unfold maxLen at D;obtain⟨a,u,rfl⟩:=zc h;go_enter Tryz.func234,Tryz.ntmps234
 go_wp2
 go_loopw [8] (fun t z=>∃ k:Nat,k<=l.length/\t=.int .i64 k/\(∀ j (d:j<l.length),j<k->(l[j]==s)=false)/\Fr Nil w z) (fun t _=>l.length-(intOf t).toNat)
 case atStart=>exact⟨0,Hg _,rfl,fun j _ d=>absurd d (Gb _),O _ _⟩
 case round =>
  obtain⟨k,G,rfl,d,q⟩:=hrel;by_cases o:k<l.length
  .have hr:=zb h q (fun _ _=>id)
   obtain⟨g,i,B,_,_⟩:=zm hr (by omega);obtain⟨rfl,rfl⟩:a=some ⟨g,0,none⟩/\u=i:=by simpa using B
   have F:=own_cell? hr k (.string l[k]) (by simp[strs,o]);have p:=Ec s l[k];cases hm:(s==l[k]) with
   | true =>
    have y:(s.toList==l[k].toList)=true:=by rw[<- p];exact hm
    have b:l.any (·==s)=true:=by rw[Dw];exact⟨l[k],IX o,by rw[zT] at hm |-;exact hm.symm⟩
    have c:=Z b;clear p hm d b hr
    go_wp2
    go_ret;exact⟨_,rfl,by rw[c.out];simp,q⟩
   | false =>
    have y:(s.toList==l[k].toList)=false:=by rw[<- p];exact hm
    have m:∀ j (d:j<l.length),j<k+1->(l[j]==s)=false:=by
     intro j f C;by_cases e:j=k
     .subst e
      cases h:(l[j]==s) with
      | false=>rfl
      | true=>rw[zT] at h;rw[<- h,zT.2 rfl] at hm;cases hm
     .exact d j f (by omega)
    have A:=Z m;clear p hm d m hr
    go_wp2
    exact⟨⟨k+1,by omega,by go_num,A.out,q⟩,by simp[intOf];omega⟩
  .have b:l.any (·==s)=false:=by
    rw[Di];intro x E;obtain⟨j,f,rfl⟩:=GF E;rw[d j f (by omega)]
    decide
   have c:=Z b;clear d b
   go_wp2
   go_ret;exact⟨_,rfl,by rw[c.out];simp,q⟩
theorem TP(v:Value)(l:List ByteArray)(s:ByteArray)(w:World)(h:w.ownsRow 0 9 1 v l.length (strs l)) :
 Calls Tryz.prog 218 #[v,.string s] w fun e f=>e=.returned (.bool (l.any (·==s)))/\Fr Nil w f:=by
 have b:=Z (PE v l s w h);clear h;go_enter Tryz.func218,Tryz.ntmps218
 go_wp2_with (refine b.out.mono ?_;rintro e g ⟨r,rfl,a,d⟩;have c:=Z a;clear a)
 go_ret;exact⟨by rw[<- c.out];rfl,d⟩
end Go.Proofs.YtkhnggkkiefcdaaGreatDoor
