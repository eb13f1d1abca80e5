/- larder: joined texts -/
import Derived.Test.YtkhnggkkiefcdaaGreatDoorRAAP
import Derived.Shelf.Strconv.AtoiFail
import Derived.Shelf.Strconv.Atoi
import Derived.Shelf.Strings.Prefix
import Derived.Ground.NamesProg
import Derived.Lib.AtoiErrMem
import Derived.Lib.IfaceEq
import Derived.RangeFuncNested
import Derived.RangeFuncBound
import Derived.RangeFuncCalls
import Derived.RangeFuncLeaves
import Derived.Shelf.Abstract
import Derived.Shelf.RegionOpen
import Derived.WalkKit
import Derived.OwnWalkIn
import Derived.TacticsInMore
import Derived.LoopNIn
import Derived.LoopIn
import Derived.Test.YtkhnggkkiefcdaaGreatDoorChecked
namespace Go.Proofs.YtkhnggkkiefcdaaGreatDoor
open Go.RowKit
set_option maxRecDepth 100000
set_option maxHeartbeats 8000000
def N0(l:List Ver):Prop:=∀ x∈l,x.Nat∧x.gone=false
theorem So(b:Nat)(l:List Ver)(r:List UInt8)(w:World)(h:Src w b (Zt l++r) false)(hl:N0 l)(hln:l.length<1000000) :
  Calls Tryz.prog 151 #[.pointer (some ⟨b,0,none⟩),.func (.func 152) #[] #[]] w fun e w' =>
   ∃ v,e=.returned v∧(VRow w' v l∧∀ k,v.ownBlock=some k→w.heap.size≤k)∧Read1 w b r w':=by
 have e1:Zt l++r=zd l.length++((l.map ZA).flatten++r):=by simp[Zt]
 rw[e1] at h
 have hblt:=h.lt
 have HH:=Z h
 clear h e1
 have HL:=Z hl
 clear hl
 go_enter Tryz.func151,Tryz.ntmps151
 go_wp2_with (refine(zJ b l.length _ _ HH.out (by omega)).mono ?_;rintro e w1 ⟨rfl,hw1,hf1⟩;have H1:=Z (And.intro hw1 hf1);clear hw1 hf1)
 go_loopw [5,9] (fun t5 t9 w'=>∃ i:Nat,i≤l.length∧t9=.int .i64 (i:Int)∧VRow w' t5 (l.take i)∧(∀ k,t5.ownBlock=some k→w.heap.size≤k)∧Src w' b (((l.drop i).map ZA).flatten++r) false∧Fr (fun k=>k=b) w w') (fun _ t9 _=>(l.length-intOf t9).toNat)
 case atStart=>exact⟨0,by omega,rfl,⟨by simp[zM],.inl ⟨rfl,rfl⟩⟩,fun k hk=>by simp[Value.ownBlock] at hk,H1.out.1,H1.out.2⟩
 case round =>
  obtain⟨i,hi,rfl,hrow,hnew,hS,hf⟩:=hrel
  by_cases hlt:i<l.length
  ·have e2:((l.drop i).map ZA).flatten++r=ZA l[i]++(((l.drop (i+1)).map ZA).flatten++r):=by
    rw[List.drop_eq_getElem_cons hlt];simp only[List.map_cons,List.flatten_cons,List.append_assoc]
   rw[e2] at hS
   have hx:=HL.out l[i] (List.getElem_mem hlt)
   have HX:=Z hx
   have HS:=Z hS
   have HT:Hid (l.take (i+1)=l.take i++[l[i]]):=by
    show l.take (i+1)=_
    rw[List.take_add_one,List.getElem?_eq_getElem hlt];rfl
   clear hS e2 hx
   generalize hxi:l[i]=x at HX HS HT
   obtain⟨va,vc,hvf⟩:=z8 hrow
   rw[show(l.take i).length=i by simp;omega] at hvf
   subst hvf
   have HR:=Z hrow
   have HN:=Z hnew
   have HF:=Z hf
   clear hrow hnew hf hxi
   have hin:(l.take i).length<1000000:=by simp;omega
   obtain⟨xn,xs,x0,x1,x2,x3,xv,xg⟩:=x
   have HC:Hid (∀ wx,Src wx b (ZA ⟨xn,xs,x0,x1,x2,x3,xv,xg⟩++(((l.drop (i+1)).map ZA).flatten++r)) false→Calls Tryz.prog 152 #[.pointer (some ⟨b,0,none⟩)] wx fun e w' =>
     e=.returned (.agg #[.int .i64 xn,.int .i64 xs,.int .i64 x0,.int .i64 x1,.int .i64 x2,.int .i64 x3,.string xv,.bool xg])∧Read1 wx b (((l.drop (i+1)).map ZA).flatten++r) w') :=
    fun wx hs=>Vy b ⟨xn,xs,x0,x1,x2,x3,xv,xg⟩ HX.out.1 HX.out.2 _ wx hs
   go_wp2_with (first
    | (at_builtin;go_must (refine zf rfl _ _ _ _ rfl _ _ (by rfl) (by rfl) (Zn _ _ _ HR2.out ⟨xn,xs,x0,x1,x2,x3,xv,xg⟩ hin _ (by repeat' first|(with_reducible exact G _ _)|(with_reducible refine Fr.alloc ?_ _)|(with_reducible refine Fr.set ?_ ?_ _)|(intro h;exact absurd h (by simp))) _ (by exact Blk.newAt _ [_,_,_,_,_,_,_,_] _ _ (by simp)) _) ?_);rintro v' w3 ⟨ho3,hf3,hn3⟩)
    | (refine(HC.out _ HS.out).mono ?_;rintro e w2 ⟨rfl,hw2,hf2⟩;have hc2:=fun ob=>(Blk.alloc hw2 ob).cell;have H2:=Z (And.intro hw2 hf2);have HR2:=Z (VRow.fr HR.out hf2 (fun k hk e=>by have:=HN.out k hk;omega));clear hw2 hf2))
   refine⟨⟨i+1,by omega,by go_num,by rw[HT.out];exact ho3,fun k hk=>?_,?_,?_⟩,by simp[intOf];omega⟩
   ·have:=HF.out.size
    have:=H2.out.2.size
    rcases hn3 k hk with h1|h1
    ·exact HN.out k h1
    ·omega
   ·exact H2.out.1.fr hf3 (fun e=>by have:=HN.out b e;omega)
   ·exact(HF.out.trans H2.out.2).trans' hf3 (fun k hk e=>absurd (HN.out k e) (by omega))
  ·have hil:i=l.length:=by omega
   subst hil
   go_wp2_with fail
   go_ret
   rw[List.take_length] at hrow
   rw[List.drop_length] at hS
   exact⟨_,rfl,⟨hrow,hnew⟩,hS,hf⟩
def zx:Fact→List UInt8
 | .inl n=>zd 1++zd n
 | .inr (.inl x)=>zd 2++(zZ x.1.data.toList++Zt x.2)
 | .inr (.inr (.inl x))=>zd 3++(zd x.1++zZ x.2.data.toList)
 | .inr (.inr (.inr _))=>zd 4
theorem UB(f:Fact):zg f=zh (Z6 (zx f)):=by
 rcases f with n|x|x|x <;> rfl
def FRead(f:Fact):Prop:=FOk f∧match f with
 | .inr (.inl x)=>∀ v∈x.2,v.gone=false
 | _=>True
def Wo(w:World)(b:Nat)(r:List UInt8)(f:Fact)(e:Ending)(w':World):Prop :=
 ∃ fv,e=.returned fv∧FRep w' fv f∧(∀ k,XF fv k→w.heap.size≤k)∧Read1 w b r w'
theorem T1(b n:Nat)(r:List UInt8)(w:World)(h:Src w b (zd 1++(zd n++r)) false)(hn:n<9223372036854775808) :
  Calls Tryz.prog 95 #[.pointer (some ⟨b,0,none⟩)] w fun e w'=>Wo w b r (.inl n) e w':=by
 have HH:=Z h
 clear h
 go_enter Tryz.func95,Tryz.ntmps95
 go_wp2_with (first
  | (refine(zJ b n _ _ H1.out.1 hn).mono ?_;rintro e w2 ⟨rfl,hw2,hf2⟩;have H2:=Z (And.intro hw2 hf2);clear hw2 hf2)
  | (refine(zJ b 1 _ _ HH.out (by omega)).mono ?_;rintro e w1 ⟨rfl,hw1,hf1⟩;have H1:=Z (And.intro hw1 hf1);clear hw1 hf1))
 go_ret
 exact⟨_,rfl,rfl,fun k hk=>by simp[XF,Value.ownBlock] at hk,H2.out.1,H1.out.2.trans H2.out.2⟩
theorem T4(b:Nat)(r:List UInt8)(w:World)(h:Src w b (zd 4++r) false) :
  Calls Tryz.prog 95 #[.pointer (some ⟨b,0,none⟩)] w fun e w'=>Wo w b r (.inr (.inr (.inr ()))) e w':=by
 have HH:=Z h
 clear h
 go_enter Tryz.func95,Tryz.ntmps95
 go_wp2_with (refine(zJ b 4 _ _ HH.out (by omega)).mono ?_;rintro e w1 ⟨rfl,hw1,hf1⟩;have H1:=Z (And.intro hw1 hf1);clear hw1 hf1)
 go_ret
 exact⟨_,rfl,rfl,fun k hk=>by simp[XF] at hk,H1.out.1,H1.out.2⟩
theorem UC(b to:Nat)(s:ByteArray)(r:List UInt8)(w:World)(h:Src w b (zd 3++(zd to++(zZ s.data.toList++r))) false)(hn:to<9223372036854775808)(hs:s.size<1000000000) :
  Calls Tryz.prog 95 #[.pointer (some ⟨b,0,none⟩)] w fun e w'=>Wo w b r (.inr (.inr (.inl (to,s)))) e w':=by
 have HH:=Z h
 clear h
 have hsz:s.data.toList.length≤1000000000:=by simpa using Nat.le_of_lt hs
 have HT:Hid (∀ wx,Src wx b (zZ s.data.toList++r) false→Calls Tryz.prog 150 #[.pointer (some ⟨b,0,none⟩)] wx fun e w'=>e=.returned (.string s)∧Read1 wx b r w'):=fun wx hx=>by
  have:=Xq b s.data.toList r wx hx hsz
  rwa [WF] at this
 go_enter Tryz.func95,Tryz.ntmps95
 go_wp2_with (first
  | (refine(HT.out _ H2.out.1).mono ?_;rintro e w3 ⟨rfl,hw3,hf3⟩;have H3:=Z (And.intro hw3 hf3);clear hw3 hf3)
  | (refine(zJ b to _ _ H1.out.1 hn).mono ?_;rintro e w2 ⟨rfl,hw2,hf2⟩;have H2:=Z (And.intro hw2 hf2);clear hw2 hf2)
  | (refine(zJ b 3 _ _ HH.out (by omega)).mono ?_;rintro e w1 ⟨rfl,hw1,hf1⟩;have H1:=Z (And.intro hw1 hf1);clear hw1 hf1))
 go_ret
 exact⟨_,rfl,rfl,fun k hk=>by simp[XF,Value.ownBlock] at hk,H3.out.1,(H1.out.2.trans H2.out.2).trans H3.out.2⟩
theorem T6(b:Nat)(s:ByteArray)(l:List Ver)(r:List UInt8)(w:World)(h:Src w b (zd 2++(zZ s.data.toList++(Zt l++r))) false)(hs:s.size<1000000000)(hl:N0 l)(hln:l.length<1000000) :
  Calls Tryz.prog 95 #[.pointer (some ⟨b,0,none⟩)] w fun e w'=>Wo w b r (.inr (.inl (s,l))) e w':=by
 have HH:=Z h
 clear h
 have hsz:s.data.toList.length≤1000000000:=by simpa using Nat.le_of_lt hs
 have HT:Hid (∀ wx,Src wx b (zZ s.data.toList++(Zt l++r)) false→Calls Tryz.prog 150 #[.pointer (some ⟨b,0,none⟩)] wx fun e w'=>e=.returned (.string s)∧Read1 wx b (Zt l++r) w'):=fun wx hx=>by
  have:=Xq b s.data.toList _ wx hx hsz
  rwa [WF] at this
 have HL:=Z hl
 clear hl
 go_enter Tryz.func95,Tryz.ntmps95
 go_wp2_with (first
  | (refine(So b l r _ H2.out.1 HL.out hln).mono ?_;rintro e w3 ⟨v3,rfl,hv3,hw3,hf3⟩;obtain⟨va,vc,rfl⟩:=z8 hv3.1;have HV3:=Z hv3;have H3:=Z (And.intro hw3 hf3);clear hw3 hf3 hv3)
  | (refine(HT.out _ H1.out.1).mono ?_;rintro e w2 ⟨rfl,hw2,hf2⟩;have H2:=Z (And.intro hw2 hf2);clear hw2 hf2)
  | (refine(zJ b 2 _ _ HH.out (by omega)).mono ?_;rintro e w1 ⟨rfl,hw1,hf1⟩;have H1:=Z (And.intro hw1 hf1);clear hw1 hf1))
 go_ret
 have hsz2:=H1.out.2.size
 have hsz3:=H2.out.2.size
 refine⟨_,rfl,⟨_,rfl,HV3.out.1⟩,fun k hk=>?_,H3.out.1,(H1.out.2.trans H2.out.2).trans H3.out.2⟩
 obtain⟨v,hv,hk⟩:=hk
 simp at hv
 rcases hv with rfl|rfl
 ·simp[Value.ownBlock] at hk
 ·have:=HV3.out.2 k hk;omega
theorem T7(f:Fact)(hf:FRead f)(b:Nat)(r:List UInt8)(w:World)(h:Src w b (zx f++r) false) :
  Calls Tryz.prog 95 #[.pointer (some ⟨b,0,none⟩)] w fun e w'=>Wo w b r f e w':=by
 rcases f with n|⟨s,l⟩|⟨to,s⟩|x
 ·exact T1 b n r w (by simpa [zx] using h) hf.1
 ·exact T6 b s l r w (by simpa [zx] using h) hf.1.2.2.1 (fun x hx=>⟨hf.1.1 x hx,hf.2 x hx⟩) hf.1.2.1
 ·exact UC b to s r w (by simpa [zx] using h) hf.1.1 hf.1.2
 ·exact T4 b r w (by simpa [zx] using h)
def MT(w:World)(b:Nat)(r:List UInt8)(f:Fact)(e:Ending)(w':World):Prop :=
 ∃ fv,e=.returned (.tuple #[fv,.bool true])∧FRep w' fv f∧(∀ k,XF fv k→w.heap.size≤k)∧Read1 w b r w'
theorem Rz(f:Fact)(hf:FRead f)(b:Nat)(r:List UInt8)(w:World)(h:Src w b (Z6 (zx f)++r) false)(hlen:(zx f).length<9223372036854775808) :
  Calls Tryz.prog 191 #[.pointer (some ⟨b,0,none⟩),.func (.func 95) #[] #[]] w fun e w'=>MT w b r f e w':=by
 have e1:Z6 (zx f)++r=zd (zx f).length++(zx f++r):=by simp[Z6]
 rw[e1] at h
 have hblt:=h.lt
 have hc:=h.cell
 have hb0:Src (w.alloc (.cells #[.string (zh (zd (zx f).length++(zx f++r))),.bool false] 276)) b (zd (zx f).length++(zx f++r)) false:=Blk.alloc h _
 have hA0:Src (w.alloc (.cells #[.string (zh (zd (zx f).length++(zx f++r))),.bool false] 276)) w.heap.size (zd (zx f).length++(zx f++r)) false:=Blk.new w [_,_] _
 have hf0:Fr Nil w (w.alloc (.cells #[.string (zh (zd (zx f).length++(zx f++r))),.bool false] 276)):=(G _ _).alloc _
 have hs0:(w.alloc (.cells #[.string (zh (zd (zx f).length++(zx f++r))),.bool false] 276)).heap.size=w.heap.size+1:=by simp
 have HF:=Z hf
 clear h e1 hf
 go_enter Tryz.func191,Tryz.ntmps191
 go_wp2_with fail
 generalize w.alloc (.cells #[.string (zh (zd (zx f).length++(zx f++r))),.bool false] 276)=W0 at hb0 hA0 hf0 hs0 ⊢
 clear hc
 refine(zJ w.heap.size (zx f).length (zx f++r) W0 hA0 hlen).mono ?_
 rintro e w1 ⟨rfl,hA1,hf1⟩
 have hb1:Src w1 b _ false:=Blk.fr hb0 hf1 (by omega)
 have hs1:=hf1.size
 go_wp2_with fail
 refine(Xh (zx f).length w.heap.size (zx f++r) false w1 hA1 (by simp)).mono ?_
 rintro e w2 ⟨rfl,hA2,hf2⟩
 have hb2:Src w2 b _ false:=Blk.fr hb1 hf2 (by omega)
 have hs2:=hf2.size
 rw[List.drop_left] at hA2
 rw[List.take_left]
 have hcA:=fun ob=>(Blk.alloc hA2 ob).cell
 go_wp2_with fail
 have hA3:Src (w2.alloc (.cells #[.string (zh (zx f)),.bool false] 276)) w.heap.size r false:=Blk.alloc hA2 _
 have hb3:Src (w2.alloc (.cells #[.string (zh (zx f)),.bool false] 276)) b _ false:=Blk.alloc hb2 _
 have hB3:Src (w2.alloc (.cells #[.string (zh (zx f)),.bool false] 276)) w2.heap.size (zx f++[]) false:=by
  rw[List.append_nil];exact Blk.new w2 [_,_] _
 have hf3:Fr Nil w (w2.alloc (.cells #[.string (zh (zx f)),.bool false] 276)) :=
  (hf0.trans' (hf1.trans hf2) (fun k hk e=>by omega)).alloc _
 have hs3:(w2.alloc (.cells #[.string (zh (zx f)),.bool false] 276)).heap.size=w2.heap.size+1:=by simp
 generalize w2.alloc (.cells #[.string (zh (zx f)),.bool false] 276)=W3 at hA3 hb3 hB3 hf3 hs3 ⊢
 clear hcA hA0 hA1 hA2 hb0 hb1 hb2
 refine(T7 f HF.out w2.heap.size [] W3 hB3).mono ?_
 rintro e w4 ⟨fv,rfl,hrep,hnew,hB4,hf4⟩
 have hA4:Src w4 w.heap.size r false:=Blk.fr hA3 hf4 (by omega)
 have hb4:Src w4 b _ false:=Blk.fr hb3 hf4 (by omega)
 have hcB:=hB4.cell
 have hcA:=hA4.cell
 have hcb:=hb4.cell
 have hzb:=hb4.frozen
 have hs4:=hf4.size
 go_wp2_with fail
 refine(VJ w2.heap.size [] false w4 hB4).mono ?_
 rintro e w5 ⟨rfl,hf5⟩
 have hA5:Src w5 w.heap.size r false:=Blk.fr hA4 hf5 id
 have hb5:Src w5 b _ false:=Blk.fr hb4 hf5 id
 clear hcB hcA hcb hzb
 have hcA:=hA5.cell
 have hcb:=hb5.cell
 have hzb:=hb5.frozen
 go_wp2_with fail
 go_ret2
 have hF4:=hf3.trans' hf4 (fun k hk e=>by omega)
 have hF5:Fr (fun k=>k=b) w w5:=(hF4.trans hf5).mono (fun _ _ e=>absurd e id)
 have hfs:Fr (fun k=>k=b) w5 ((w5.setCell ⟨b,0,none⟩ (.string (zh r))).setCell ⟨b,1,none⟩ (.bool false)):=Fr.set (S:=fun k=>k=b) (Fr.set (S:=fun k=>k=b) (G _ _) (fun _=>rfl) _) (fun _=>rfl) _
 have hs5:=hf3.size
 exact⟨fv,rfl,(hrep.fr hf5 (fun _ _=>id)).fr hfs (fun k hk e=>by have:=hnew k hk;omega),fun k hk=>by have:=hnew k hk;omega,(Blk.set hb5 0 _).set 1 _,hF5.trans hfs⟩
theorem N4(body xs:List UInt8)(hp:xs<+:Z6 body)(hne:xs≠Z6 body):Zw 0 0 xs=none∨∃ p,xs=zd body.length++p∧p.length<body.length:=by
 unfold Z6 at hp hne
 obtain⟨t,ht⟩:=hp
 rcases Nat.lt_or_ge xs.length (zd body.length).length with h|h
 ·refine .inl (PH body.length 0 0 xs ?_ (fun e=>by rw[e] at h;omega))
  exact List.prefix_of_prefix_length_le ⟨t,ht⟩ (List.prefix_append _ _) (by omega)
 ·have hpre:zd body.length<+:xs:=List.prefix_of_prefix_length_le (l₃:=zd body.length++body) (List.prefix_append _ _) ⟨t,ht⟩ h
  obtain⟨p,rfl⟩:=hpre
  refine .inr ⟨p,rfl,?_⟩
  rw[List.append_assoc] at ht
  have h2:=List.append_cancel_left ht
  have h3:body.length=p.length+t.length:=by rw[← h2];simp
  rcases t with-| ⟨c,t⟩
  ·rw[List.append_nil] at h2;exact absurd (by rw[h2]) hne
  ·simp at h3;omega
def RA(w:World)(e:Ending)(w':World):Prop:=e=.returned (.tuple #[.nilIface,.bool false])∧Fr Nil w w'
theorem RB(xs:List UInt8)(b:Nat)(w:World)(h:Src w b xs false)(hn:Zw 0 0 xs=none) :
  Calls Tryz.prog 191 #[.pointer (some ⟨b,0,none⟩),.func (.func 95) #[] #[]] w fun e w'=>RA w e w':=by
 have hc:=h.cell
 have hA0:Src (w.alloc (.cells #[.string (zh xs),.bool false] 276)) w.heap.size xs false:=Blk.new w [_,_] _
 have hf0:Fr Nil w (w.alloc (.cells #[.string (zh xs),.bool false] 276)):=(G _ _).alloc _
 have HN:=Z hn
 clear h hn
 go_enter Tryz.func191,Tryz.ntmps191
 go_wp2_with fail
 generalize w.alloc (.cells #[.string (zh xs),.bool false] 276)=W0 at hA0 hf0 ⊢
 clear hc
 refine(UA w.heap.size xs W0 hA0 HN.out).mono ?_
 rintro e w1 ⟨rfl,hA1,hf1⟩
 go_wp2_with fail
 refine(Xh 0 w.heap.size [] true w1 hA1 (by simp)).mono ?_
 rintro e w2 ⟨rfl,hA2,hf2⟩
 have hcA:=fun ob=>(Blk.alloc hA2 ob).cell
 go_wp2_with fail
 go_ret2
 exact⟨rfl,(hf0.trans' (hf1.trans hf2) (fun k hk e=>by omega)).alloc _⟩
theorem QE(n:Nat)(p:List UInt8)(b:Nat)(w:World)(h:Src w b (zd n++p) false)(hn:n<9223372036854775808)(hp:p.length<n) :
  Calls Tryz.prog 191 #[.pointer (some ⟨b,0,none⟩),.func (.func 95) #[] #[]] w fun e w'=>RA w e w':=by
 have hc:=h.cell
 have hA0:Src (w.alloc (.cells #[.string (zh (zd n++p)),.bool false] 276)) w.heap.size (zd n++p) false:=Blk.new w [_,_] _
 have hf0:Fr Nil w (w.alloc (.cells #[.string (zh (zd n++p)),.bool false] 276)):=(G _ _).alloc _
 clear h
 go_enter Tryz.func191,Tryz.ntmps191
 go_wp2_with fail
 generalize w.alloc (.cells #[.string (zh (zd n++p)),.bool false] 276)=W0 at hA0 hf0 ⊢
 clear hc
 refine(zJ w.heap.size n p W0 hA0 hn).mono ?_
 rintro e w1 ⟨rfl,hA1,hf1⟩
 go_wp2_with fail
 refine(TV n w.heap.size p false w1 hA1 hp).mono ?_
 rintro e w2 ⟨rfl,hA2,hf2⟩
 have hcA:=fun ob=>(Blk.alloc hA2 ob).cell
 go_wp2_with fail
 go_ret2
 exact⟨rfl,(hf0.trans' (hf1.trans hf2) (fun k hk e=>by omega)).alloc _⟩
theorem RC(body xs:List UInt8)(hp:xs<+:Z6 body)(hne:xs≠Z6 body)(hb:body.length<9223372036854775808)(b:Nat)(w:World)(h:Src w b xs false) :
  Calls Tryz.prog 191 #[.pointer (some ⟨b,0,none⟩),.func (.func 95) #[] #[]] w fun e w'=>RA w e w':=by
 rcases N4 body xs hp hne with h1|⟨p,rfl,hl⟩
 ·exact RB xs b w h h1
 ·exact QE body.length p b w h hb hl
theorem PX(xs:List UInt8)(w:World) :
  Calls Tryz.prog 190 #[.string (zh xs)] w fun e w'=>e=.returned (.pointer (some ⟨w.heap.size,0,none⟩))∧w'=w.alloc (.cells #[.string (zh xs),.bool false] 276):=by
 go_enter Tryz.func190,Tryz.ntmps190
 go_wp2
 go_ret
 exact⟨rfl,rfl⟩
def Za(fs:List Fact):List UInt8:=(fs.map fun f=>Z6 (zx f)).flatten
theorem MU(n:Nat):0<(zd n).length:=by
 by_cases h:n<128
 ·rw[Yf h];simp
 ·rw[Yy h];simp
theorem U2(body:List UInt8):0<(Z6 body).length:=by
 have:=MU body.length
 simp[Z6];omega
def RD(w:World)(s:Nat):Nat:=match w.cell? ⟨s,0,none⟩ with
 | some (.string x)=>x.size
 | _=>0
theorem TZ{w:World}{s:Nat}{xs:List UInt8}{bad:Bool}(h:Src w s xs bad):RD w s=xs.length:=by
 have:=h.cell 0
 simp at this
 simp[RD,this,PF]
theorem SRep.notSrc{w:World}{b s:Nat}{L:SL}{S:SM}{xs:List UInt8}{bad:Bool}(h:SRep w b L S)(hs:Src w s xs bad):¬SFoot b L s∧¬SRead L s:=by
 refine⟨fun hk=>?_,fun hk=>?_⟩
 ·rcases h.foot_ty hk with h1|h1|h1
  ·exact absurd (Ty.inj h1 (Blk.ty hs)) (by decide)
  ·exact absurd (Ty.inj h1 (Blk.ty hs)) (by decide)
  ·exact absurd (Ty.inj h1 (Blk.ty hs)) (by decide)
 ·exact absurd (Ty.inj (h.read_ty hk) (Blk.ty hs)) (by decide)
theorem SRep.src{w w':World}{b s:Nat}{L:SL}{S:SM}{xs:List UInt8}{bad:Bool}(h:SRep w b L S)(hs:Src w s xs bad)(f:Fr (fun k=>k=s) w w'):SRep w' b L S :=
 h.fr f (fun _ hk e=>(h.notSrc hs).1 (e▸hk)) (fun _ hk e=>(h.notSrc hs).2 (e▸hk))
theorem RE(fs:List Fact)(hfs:∀ f∈fs,FRead f∧(zx f).length<9223372036854775808)(tail body:List UInt8)(ht:tail<+:Z6 body)(hne:tail≠Z6 body)(hb:body.length<9223372036854775808)
  (sb:Nat)(L:SL)(S:SM)(w:World)(h:SRep w sb L S)
  (hlim:∀ i,((fs.take i).foldl SM.enter S).keys.length<1099511627776∧((fs.take i).foldl SM.enter S).hints.length<1000000) :
  Calls Tryz.prog 148 #[.string (zh (Za fs++tail)),.func (.func 95) #[] #[],.func (.func 96) #[.pointer (some ⟨sb,0,none⟩)] #[]] w fun e w' =>
   e=.returned (.int .i64 tail.length)∧SStep w sb L (fs.foldl SM.enter S) (fun k=>w.heap.size≤k) w':=by
 have HH:=Z h
 have HFS:=Z hfs
 have HLIM:=Z hlim
 have HT:=Z (And.intro ht (And.intro hne hb))
 clear h hfs hlim ht hne hb
 go_enter Tryz.func148,Tryz.ntmps148
 go_wp2_with fail
 refine(PX _ w).mono ?_
 rintro e w1 ⟨rfl,hw1⟩
 have hf1:Fr Nil w w1:=by rw[hw1];exact(G _ _).alloc _
 have hS1:Src w1 w.heap.size (Za fs++tail) false:=by rw[hw1];exact Blk.new w [_,_] _
 clear hw1
 go_wp2_with fail
 go_loopw [9] (fun _ w'=>∃ (i:Nat) (L':SL),i≤fs.length∧SRep w' sb L' ((fs.take i).foldl SM.enter S)∧Fr (SFoot sb L) w w'∧(∀ k,SFoot sb L' k→SFoot sb L k∨w.heap.size≤k)∧(∀ k,SRead L' k→SRead L k∨w.heap.size≤k)∧Src w' w.heap.size (Za (fs.drop i)++tail) false) (fun _ w'=>RD w' w.heap.size)
 case atStart=>exact⟨0,L,by omega,HH.out.nil hf1,hf1.mono (fun _ _ e=>absurd e id),fun k hk=>.inl hk,fun k hk=>.inl hk,hS1⟩
 case round =>
  obtain⟨i,L',hi,hrep,hF,hft,hrd,hS⟩:=hrel
  have HR:=Z (And.intro hrep (And.intro hF (And.intro hft (And.intro hrd hS))))
  clear hrep hF hft hrd hS
  by_cases hlt:i<fs.length
  ·have hSi:Src wr w.heap.size (Z6 (zx fs[i])++(Za (fs.drop (i+1))++tail)) false:=by
    have:=HR.out.2.2.2.2
    rw[List.drop_eq_getElem_cons hlt] at this
    simpa only[Za,List.map_cons,List.flatten_cons,List.append_assoc] using this
   go_wp2_with fail
   refine(Rz fs[i] (HFS.out _ (List.getElem_mem hlt)).1 w.heap.size _ wr hSi (HFS.out _ (List.getElem_mem hlt)).2).mono ?_
   rintro e w2 ⟨fv,rfl,hfv,hnew,hS2,hf2⟩
   have hrep2:=HR.out.1.src HR.out.2.2.2.2 hf2
   have hns:=(hrep2.notSrc hS2).1
   go_wp2_with fail
   refine(YL fs[i] fv sb L' _ w2 hrep2 hfv (HLIM.out i).1 (HLIM.out i).2).mono ?_
   rintro e w3 ⟨rfl,L'',hrep3,hF3,hft3,hrd3⟩
   go_wp2_with fail
   have hsw:=HR.out.2.1.size
   have hsw2:=hf2.size
   have hS3:Src w3 w.heap.size (Za (fs.drop (i+1))++tail) false:=Blk.fr hS2 hF3 hns
   refine⟨⟨i+1,L'',by omega,?_,?_,fun k hk=>?_,fun k hk=>?_,hS3⟩,?_⟩
   ·rw[List.take_add_one,List.getElem?_eq_getElem hlt,List.foldl_append]
    exact hrep3
   ·refine(HR.out.2.1.trans' hf2 (fun k hk e=>by omega)).trans' hF3 (fun k hk e=>?_)
    rcases HR.out.2.2.1 k e with h1|h1
    ·exact h1
    ·omega
   ·rcases hft3 k hk with h1|h1
    ·exact HR.out.2.2.1 k h1
    ·exact .inr (by omega)
   ·rcases hrd3 k hk with h1|h1
    ·exact HR.out.2.2.2.1 k h1
    ·have:=hnew k h1;exact .inr (by omega)
   ·rw[TZ hS3,TZ hSi]
    have:=U2 (zx fs[i])
    simp only[List.length_append]
    omega
  ·have hil:i=fs.length:=by omega
   subst hil
   have hSe:=HR.out.2.2.2.2
   rw[List.drop_length] at hSe
   have hSe:Src wr w.heap.size tail false:=hSe
   go_wp2_with fail
   refine(RC body tail HT.out.1 HT.out.2.1 HT.out.2.2 w.heap.size wr hSe).mono ?_
   rintro e w2 ⟨rfl,hf2⟩
   go_wp2_with fail
   refine(VJ w.heap.size tail false w2 (Blk.fr hSe hf2 id)).mono ?_
   rintro e w3 ⟨rfl,hf3⟩
   go_wp2_with fail
   go_ret
   have hrep:=HR.out.1
   rw[List.take_length] at hrep
   have hff:=(hf2.trans hf3)
   exact⟨rfl,L',hrep.nil hff,HR.out.2.1.trans' hff (fun k hk e=>absurd e id),HR.out.2.2.1,HR.out.2.2.2.1⟩
end Go.Proofs.YtkhnggkkiefcdaaGreatDoor
namespace Go.Proofs.YtkhnggkkiefcdaaGreatDoor
open Go.RowKit
theorem Sp(a b:List Fact):Za (a++b)=Za a++Za b:=by simp[Za]
theorem WG(f:Fact):(zg f).data.toList=Z6 (zx f):=by rw[UB];simp[zh]
theorem VN(fs:List Fact)(f:Fact):Za (fs++[f])=Za fs++(zg f).data.toList:=by
 rw[Sp,WG]
 simp[Za]
theorem RF(body:List UInt8):[]<+:Z6 body∧[]≠Z6 body :=
 ⟨List.nil_prefix,fun e=>by have:=U2 body;rw[← e] at this;simp at this⟩
end Go.Proofs.YtkhnggkkiefcdaaGreatDoor
namespace Go.Proofs
open Go.Shelf
def Tryz.lays101_ren:Go.Shelf.Ren:=⟨fun|101=>221|208=>237|206=>250|n=>n,fun|9=>9|4=>4|3=>3|n=>n,fun|n=>n⟩
theorem Tryz.lays101:Go.Proofs.Lays.n101 Tryz.prog Tryz.lays101_ren:={
 mixed:=by kernel_rfl
 f101:=Tryz.func221.trans (congrArg some (by kernel_rfl))
 f206:=Tryz.func250.trans (congrArg some (by kernel_rfl))
 f208:=Tryz.func237.trans (congrArg some (by kernel_rfl))
 t3:=Tryz.underlying3
 a3:=Tryz.isAgg3
 z3:=Tryz.sizeOf3
 v3:=Tryz.zeroValue3
 t4:=Tryz.underlying4
 a4:=Tryz.isAgg4
 z4:=Tryz.sizeOf4
 v4:=Tryz.zeroValue4
 t9:=Tryz.underlying9
 a9:=Tryz.isAgg9
 z9:=Tryz.sizeOf9
 v9:=Tryz.zeroValue9}
def Tryz.lays244_ren:Go.Shelf.Ren:=⟨fun|244=>235|247=>245|287=>252|321=>255|322=>256|n=>n,fun|9=>9|3=>3|75=>132|4=>4|5=>5|167=>333|37=>150|0=>0|85=>334|2=>2|53=>274|175=>342|46=>299|21=>21|80=>242|n=>n,fun|n=>n⟩
theorem Tryz.lays244:Go.Proofs.Lays.n244 Tryz.prog Tryz.lays244_ren:={
 mixed:=by kernel_rfl
 f244:=Tryz.func235.trans (congrArg some (by kernel_rfl))
 f247:=Tryz.func245.trans (congrArg some (by kernel_rfl))
 f287:=Tryz.func252.trans (congrArg some (by kernel_rfl))
 f321:=Tryz.func255.trans (congrArg some (by kernel_rfl))
 f322:=Tryz.func256.trans (congrArg some (by kernel_rfl))
 t0:=Tryz.underlying0
 a0:=Tryz.isAgg0
 z0:=Tryz.sizeOf0
 v0:=Tryz.zeroValue0
 t2:=Tryz.underlying2
 a2:=Tryz.isAgg2
 z2:=Tryz.sizeOf2
 v2:=Tryz.zeroValue2
 t3:=Tryz.underlying3
 a3:=Tryz.isAgg3
 z3:=Tryz.sizeOf3
 v3:=Tryz.zeroValue3
 t4:=Tryz.underlying4
 a4:=Tryz.isAgg4
 z4:=Tryz.sizeOf4
 v4:=Tryz.zeroValue4
 t5:=Tryz.underlying5
 a5:=Tryz.isAgg5
 z5:=Tryz.sizeOf5
 v5:=Tryz.zeroValue5
 t9:=Tryz.underlying9
 a9:=Tryz.isAgg9
 z9:=Tryz.sizeOf9
 v9:=Tryz.zeroValue9
 t21:=Tryz.underlying21
 a21:=Tryz.isAgg21
 z21:=Tryz.sizeOf21
 v21:=Tryz.zeroValue21
 t37:=Tryz.underlying150
 a37:=Tryz.isAgg150
 z37:=Tryz.sizeOf150
 v37:=Tryz.zeroValue150
 t46:=Tryz.underlying299
 a46:=Tryz.isAgg299
 z46:=Tryz.sizeOf299
 v46:=Tryz.zeroValue299
 t53:=Tryz.underlying274
 a53:=Tryz.isAgg274
 z53:=Tryz.sizeOf274
 v53:=Tryz.zeroValue274
 t75:=Tryz.underlying132
 a75:=Tryz.isAgg132
 z75:=Tryz.sizeOf132
 v75:=Tryz.zeroValue132
 t85:=Tryz.underlying334
 a85:=Tryz.isAgg334
 z85:=Tryz.sizeOf334
 v85:=Tryz.zeroValue334
 t167:=Tryz.underlying333
 a167:=Tryz.isAgg333
 z167:=Tryz.sizeOf333
 v167:=Tryz.zeroValue333
 t175:=Tryz.underlying342
 a175:=Tryz.isAgg342
 z175:=Tryz.sizeOf342
 v175:=Tryz.zeroValue342}
def Tryz.lays172_ren:Go.Shelf.Ren:=⟨fun|172=>220|244=>235|245=>236|247=>245|279=>246|280=>247|281=>248|282=>249|287=>252|316=>125|171=>81|205=>253|321=>255|322=>256|243=>130|246=>165|283=>205|284=>206|285=>207|286=>208|129=>229|317=>228|318=>230|319=>231|320=>232|337=>242|338=>243|n=>n,fun|9=>9|3=>3|75=>132|76=>190|4=>4|5=>5|167=>333|37=>150|0=>0|85=>334|2=>2|168=>336|53=>274|175=>342|46=>299|210=>345|127=>240|145=>350|143=>348|21=>21|171=>293|173=>296|212=>322|51=>323|20=>20|213=>324|232=>340|233=>341|80=>242|n=>n,fun|15=>4|16=>5|17=>1|18=>2|19=>3|n=>n⟩
theorem Tryz.lays172:Go.Proofs.Lays.n172 Tryz.prog Tryz.lays172_ren:={
 mixed:=by kernel_rfl
 f129:=Tryz.func229.trans (congrArg some (by kernel_rfl))
 f171:=Tryz.func81.trans (congrArg some (by kernel_rfl))
 f172:=Tryz.func220.trans (congrArg some (by kernel_rfl))
 f205:=Tryz.func253.trans (congrArg some (by kernel_rfl))
 f243:=Tryz.func130.trans (congrArg some (by kernel_rfl))
 f244:=Tryz.func235.trans (congrArg some (by kernel_rfl))
 f245:=Tryz.func236.trans (congrArg some (by kernel_rfl))
 f246:=Tryz.func165.trans (congrArg some (by kernel_rfl))
 f247:=Tryz.func245.trans (congrArg some (by kernel_rfl))
 f279:=Tryz.func246.trans (congrArg some (by kernel_rfl))
 f280:=Tryz.func247.trans (congrArg some (by kernel_rfl))
 f281:=Tryz.func248.trans (congrArg some (by kernel_rfl))
 f282:=Tryz.func249.trans (congrArg some (by kernel_rfl))
 f283:=Tryz.func205.trans (congrArg some (by kernel_rfl))
 f284:=Tryz.func206.trans (congrArg some (by kernel_rfl))
 f285:=Tryz.func207.trans (congrArg some (by kernel_rfl))
 f286:=Tryz.func208.trans (congrArg some (by kernel_rfl))
 f287:=Tryz.func252.trans (congrArg some (by kernel_rfl))
 f316:=Tryz.func125.trans (congrArg some (by kernel_rfl))
 f317:=Tryz.func228.trans (congrArg some (by kernel_rfl))
 f318:=Tryz.func230.trans (congrArg some (by kernel_rfl))
 f319:=Tryz.func231.trans (congrArg some (by kernel_rfl))
 f320:=Tryz.func232.trans (congrArg some (by kernel_rfl))
 f321:=Tryz.func255.trans (congrArg some (by kernel_rfl))
 f322:=Tryz.func256.trans (congrArg some (by kernel_rfl))
 f337:=Tryz.func242.trans (congrArg some (by kernel_rfl))
 f338:=Tryz.func243.trans (congrArg some (by kernel_rfl))
 t0:=Tryz.underlying0
 a0:=Tryz.isAgg0
 z0:=Tryz.sizeOf0
 v0:=Tryz.zeroValue0
 t2:=Tryz.underlying2
 a2:=Tryz.isAgg2
 z2:=Tryz.sizeOf2
 v2:=Tryz.zeroValue2
 t3:=Tryz.underlying3
 a3:=Tryz.isAgg3
 z3:=Tryz.sizeOf3
 v3:=Tryz.zeroValue3
 t4:=Tryz.underlying4
 a4:=Tryz.isAgg4
 z4:=Tryz.sizeOf4
 v4:=Tryz.zeroValue4
 t5:=Tryz.underlying5
 a5:=Tryz.isAgg5
 z5:=Tryz.sizeOf5
 v5:=Tryz.zeroValue5
 t9:=Tryz.underlying9
 a9:=Tryz.isAgg9
 z9:=Tryz.sizeOf9
 v9:=Tryz.zeroValue9
 t20:=Tryz.underlying20
 a20:=Tryz.isAgg20
 z20:=Tryz.sizeOf20
 v20:=Tryz.zeroValue20
 t21:=Tryz.underlying21
 a21:=Tryz.isAgg21
 z21:=Tryz.sizeOf21
 v21:=Tryz.zeroValue21
 t37:=Tryz.underlying150
 a37:=Tryz.isAgg150
 z37:=Tryz.sizeOf150
 v37:=Tryz.zeroValue150
 t46:=Tryz.underlying299
 a46:=Tryz.isAgg299
 z46:=Tryz.sizeOf299
 v46:=Tryz.zeroValue299
 t51:=Tryz.underlying323
 a51:=Tryz.isAgg323
 z51:=Tryz.sizeOf323
 v51:=Tryz.zeroValue323
 t53:=Tryz.underlying274
 a53:=Tryz.isAgg274
 z53:=Tryz.sizeOf274
 v53:=Tryz.zeroValue274
 t75:=Tryz.underlying132
 a75:=Tryz.isAgg132
 z75:=Tryz.sizeOf132
 v75:=Tryz.zeroValue132
 t76:=Tryz.underlying190
 a76:=Tryz.isAgg190
 z76:=Tryz.sizeOf190
 v76:=Tryz.zeroValue190
 t85:=Tryz.underlying334
 a85:=Tryz.isAgg334
 z85:=Tryz.sizeOf334
 v85:=Tryz.zeroValue334
 t127:=Tryz.underlying240
 a127:=Tryz.isAgg240
 z127:=Tryz.sizeOf240
 v127:=Tryz.zeroValue240
 t143:=Tryz.underlying348
 a143:=Tryz.isAgg348
 z143:=Tryz.sizeOf348
 v143:=Tryz.zeroValue348
 t145:=Tryz.underlying350
 a145:=Tryz.isAgg350
 z145:=Tryz.sizeOf350
 v145:=Tryz.zeroValue350
 t167:=Tryz.underlying333
 a167:=Tryz.isAgg333
 z167:=Tryz.sizeOf333
 v167:=Tryz.zeroValue333
 t168:=Tryz.underlying336
 a168:=Tryz.isAgg336
 z168:=Tryz.sizeOf336
 v168:=Tryz.zeroValue336
 t171:=Tryz.underlying293
 a171:=Tryz.isAgg293
 z171:=Tryz.sizeOf293
 v171:=Tryz.zeroValue293
 t173:=Tryz.underlying296
 a173:=Tryz.isAgg296
 z173:=Tryz.sizeOf296
 v173:=Tryz.zeroValue296
 t175:=Tryz.underlying342
 a175:=Tryz.isAgg342
 z175:=Tryz.sizeOf342
 v175:=Tryz.zeroValue342
 t210:=Tryz.underlying345
 a210:=Tryz.isAgg345
 z210:=Tryz.sizeOf345
 v210:=Tryz.zeroValue345
 t212:=Tryz.underlying322
 a212:=Tryz.isAgg322
 z212:=Tryz.sizeOf322
 v212:=Tryz.zeroValue322
 t213:=Tryz.underlying324
 a213:=Tryz.isAgg324
 z213:=Tryz.sizeOf324
 t232:=Tryz.underlying340
 a232:=Tryz.isAgg340
 z232:=Tryz.sizeOf340
 v232:=Tryz.zeroValue340
 t233:=Tryz.underlying341
 a233:=Tryz.isAgg341
 z233:=Tryz.sizeOf341
 v233:=Tryz.zeroValue341
 g15:=by kernel_rfl
 g16:=by kernel_rfl
 g17:=by kernel_rfl
 g18:=by kernel_rfl
 g19:=by kernel_rfl}
end Go.Proofs
namespace Go.Proofs.YtkhnggkkiefcdaaGreatDoor
open Go.RowKit
set_option maxRecDepth 100000
set_option maxHeartbeats 8000000
theorem Wp:∀(l r:List UInt8)(acc:Nat),Lib.decFrom acc (l++r)=(Lib.decFrom acc l).bind fun a=>Lib.decFrom a r
 | [],_,_=>rfl
 | b::l,r,acc=>by
  simp only[List.cons_append,Lib.decFrom]
  cases Lib.digitVal b with
  | none=>rfl
  | some d=>exact Wp l r _
theorem VO(d:Nat)(h:d<10):Lib.digitVal (UInt8.ofNat (48+d))=some d:=by
 have e:(UInt8.ofNat (48+d)).toNat=48+d:=by simp;omega
 unfold Lib.digitVal
 rw[e,if_pos (by omega)]
 congr 1
 omega
theorem T8(n:Nat):Lib.decFrom 0 (Lib.decDigits n)=some n:=by
 induction n using Nat.strongRecOn with
 | ind n ih =>
  rw[Lib.decDigits]
  by_cases h:n<10
  ·rw[dif_pos h]
   simp only[Lib.decFrom,VO n h]
   congr 1
   omega
  ·rw[dif_neg h,Wp,ih (n / 10) (by omega)]
   simp only[Option.bind_some,Lib.decFrom,VO (n%10) (by omega)]
   congr 1
   omega
theorem QF(n:Nat):∃ b r,Lib.decDigits n=b::r∧48≤b.toNat∧b.toNat≤57:=by
 induction n using Nat.strongRecOn with
 | ind n ih =>
  rw[Lib.decDigits]
  by_cases h:n<10
  ·rw[dif_pos h]
   have e:(UInt8.ofNat (48+n)).toNat=48+n:=by simp;omega
   exact⟨_,[],rfl,by rw[e];omega,by rw[e];omega⟩
  ·rw[dif_neg h]
   obtain⟨b,r,e,h1,h2⟩:=ih (n / 10) (by omega)
   rw[e]
   exact⟨b,_,rfl,h1,h2⟩
theorem WH:∀(k n:Nat),n<10^(k+1)→(Lib.decDigits n).length≤k+1
 | 0,n,h=>by rw[Lib.decDigits,dif_pos (by simpa using h)];simp
 | k+1,n,h=>by
  rw[Lib.decDigits]
  by_cases h1:n<10
  ·rw[dif_pos h1];simp
  ·rw[dif_neg h1]
   have:=WH k (n / 10) (by rw[Nat.pow_succ] at h;omega)
   simp;omega
theorem QG(n:Nat):Lib.atoi (Lib.decDigits n)=some (n:Int):=by
 have hd:=T8 n
 obtain⟨b,r,e,h1,h2⟩:=QF n
 rw[e] at hd ⊢
 have n1:(b==45)=false:=by
  rw[beq_eq_false_iff_ne];rintro rfl;simp at h1
 have n2:(b==43)=false:=by
  rw[beq_eq_false_iff_ne];rintro rfl;simp at h1
 simp only[Lib.atoi,n1,n2,Lib.decNat,List.isEmpty_cons,hd]
 rfl
theorem Xy(n:Nat):(YJ n).data.toList=Lib.decDigits n:=by
 simp[YJ,Lib.itoa]
theorem UD(s p:ByteArray)(w:World) :
  Calls Tryz.prog 221 #[.string s,.string p] w fun e w'=>e=.returned (.string ⟨(Lib.trimPrefix s.data.toList p.data.toList).toArray⟩)∧w'=w:=Any.strings_TrimPrefix Tryz.lays101 s p w
theorem N7(s:ByteArray)(n:Int)(hl:s.size≤18)(h:Lib.atoi s.data.toList=some n)(w:World) :
  Calls Tryz.prog 220 #[.string s] w fun e w'=>e=.returned (.tuple #[.int .i64 n,.nilIface])∧Fr Nil w w':=by
 refine Calls.mono (show Calls Tryz.prog 220 #[.string s] w _ from Any.strconv_Atoi Tryz.lays172 s n hl h w) ?_
 rintro e w' ⟨rfl,t,rfl⟩
 exact⟨rfl,Fr.of_below (Lib.bytesWorld_below _ _ _)⟩
theorem Mk(kind:ByteArray)(n:Nat):Lib.trimPrefix (ze kind n).data.toList kind.data.toList=Lib.decDigits n:=by
 have e:(ze kind n).data.toList=kind.data.toList++Lib.decDigits n:=by
  simp only[ze,ByteArray.data_append,Array.toList_append,Xy]
 have hp:∀ (a b:List UInt8),Lib.hasPrefix (a++b) a=true:=by
  intro a b
  unfold Lib.hasPrefix
  simp
 unfold Lib.trimPrefix
 rw[e,hp]
 simp
theorem RG(kind:ByteArray)(hkind:kind.size≤1000)(n:Nat)(h1:1≤n)(hn:n<10^18)(w:World)(ht:∀ w',Fr Nil w w'→Tab w') :
  Calls Tryz.prog 185 #[.string kind,.string (ze kind n)] w fun e w'=>e=.returned (.int .i64 n)∧Fr Nil w w':=by
 have hn':n<1000000000000000000:=hn
 have HT:=Z (UD (ze kind n) kind w)
 rw[Mk] at HT
 have hd:(⟨(Lib.decDigits n).toArray⟩:ByteArray).size≤18:=WH 17 n hn
 have HA:=Z (fun wx=>N7 ⟨(Lib.decDigits n).toArray⟩ n hd (by simpa using QG n) wx)
 have HN:=Z (fun wx (f:Fr Nil w wx)=>V9 kind hkind n (by omega) wx (ht wx f))
 have hi1:¬(n:Int)<1:=by omega
 clear hd ht
 generalize ze kind n=s at HT HN ⊢
 generalize (⟨(Lib.decDigits n).toArray⟩:ByteArray)=d at HT HA
 go_enter Tryz.func185,Tryz.ntmps185
 go_wp2_with fail
 refine HT.out.mono ?_
 rintro e w1 ⟨rfl,hw1⟩
 subst hw1
 go_wp2_with fail
 refine(HA.out _).mono ?_
 rintro e w2 ⟨rfl,hf2⟩
 go_wp2_with fail
 refine(HN.out _ hf2).mono ?_
 rintro e w3 ⟨rfl,hf3⟩
 go_wp2_with fail
 go_ret
 exact⟨rfl,hf2.trans hf3⟩
def YO(w:World):Prop:=4<w.heap.size∧∃ te pe,w.cell? ⟨4,0,none⟩=some (.iface te pe)
theorem YO.fr{w w':World}{S:Nat→Prop}(h:YO w)(f:Fr S w w')(hn:¬S 4):YO w':=by
 obtain⟨hl,te,pe,hc⟩:=h
 exact⟨Nat.lt_of_lt_of_le hl f.size,te,pe,(f.cell (p:=⟨4,0,none⟩) hl hn).trans hc⟩
theorem Vz(c s:ByteArray)(hs:s.size≤1000000000)(w:World)(hsyn:YO w) :
  Calls Tryz.prog 246 #[.string c,.string s] w fun e w'=>∃ k,e=.returned (.pointer (some ⟨k,0,none⟩))∧Fr Nil w w':=by
 have HC:=Z (fun wx (f:Fr Nil w wx)=>show Calls Tryz.prog 125 #[.string s] wx fun e w'=>e=.returned (.string s)∧Fr Nil w w' from
  (AnyPu.stringslite_Clone Tryz.laysPu25 s wx (by omega)).mono fun e w' ⟨he,hb⟩=>⟨he,f.trans (Fr.of_below hb)⟩)
 obtain⟨hl,te,pe,hcell⟩:=hsyn
 have HS:Hid (∀ wx,Fr Nil w wx→wx.cell? ⟨4,0,none⟩=some (.iface te pe)):=fun wx f=>(f.cell (p:=⟨4,0,none⟩) hl id).trans hcell
 go_enter Tryz.func246,Tryz.ntmps246
 go_wp2_with fail
 go_region_held3 (fun wx=>wx.cell? ⟨4,0,none⟩=some (.iface te pe)) (first|assumption|go_keep) (first|(go_at_call 125;refine(HC.out _ (by repeat' first|(with_reducible first|apply G|assumption|apply O|apply U|apply V|apply z6)|(intro _;rfl))).mono ?_;rintro e w1 ⟨rfl,hf1⟩;have hc1:=HS.out _ hf1))
 all_goals
  go_wp2
  go_ret
  exact⟨_,rfl,(by repeat' first|(with_reducible first|apply G|assumption|apply O|apply U|apply V|apply z6)|(intro _;rfl))⟩
theorem Sq(c s:ByteArray)(hs:s.size≤1000000000)(w:World)(hsyn:YO w)(T:TypeId)(hT:T=Tryz.lays244_ren.t 167) :
  Calls Tryz.prog 236 #[.string c,.string s,.int .i64 0,.int .i64 0,.iface T (.int .i64 2)] w fun e w'=>∃ k,e=.returned (.iface 336 (.pointer (some ⟨k,0,none⟩)))∧Fr Nil w w':=by
 have hT2:T=333:=by rw[hT];rfl
 subst hT2
 clear hT
 have HC:=Z (fun wx (f:Fr Nil w wx)=>Vz c s hs wx (hsyn.fr f id))
 have heq:∀ W,(binOp .eql 132 (.iface 333 (.int .i64 2)) (.iface 333 (.int .i64 2))).run Tryz.prog W=.ok (.bool true) W:=fun W=>Lib.run_eql_iface_int W 2 2 Tryz.underlying132 (by kernel_rfl) Tryz.underlying333
 go_enter Tryz.func236,Tryz.ntmps236
 go_wp2_with fail
 refine(HC.out w (G _ _)).mono ?_
 rintro e w1 ⟨k,rfl,hf1⟩
 go_wp2_with fail
 go_ret
 exact⟨k,rfl,hf1⟩
theorem N8(s:ByteArray)(hl:s.size≤18)(h:Lib.atoi s.data.toList=none)(w:World)(hsyn:YO w) :
  Calls Tryz.prog 220 #[.string s] w fun e w'=>∃ k,e=.returned (.tuple #[.int .i64 0,.iface 336 (.pointer (some ⟨k,0,none⟩))])∧Fr Nil w w':=by
 have HI:Hid (Calls Tryz.prog 235 #[.string s] w fun e w'=>e=.returned (.tuple #[.int .i64 0,.iface 333 (.int .i64 2)])∧Fr Nil w w'):=by
  refine Calls.mono (show Calls Tryz.prog 235 #[.string s] w _ from Any.internal_strconv_Atoi_fail Tryz.lays244 s hl h w) ?_
  rintro e w' ⟨rfl,rfl|⟨t,rfl⟩⟩
  ·exact⟨rfl,G _ _⟩
  ·exact⟨rfl,Fr.of_below (Lib.bytesWorld_below _ _ _)⟩
 have HE:=Z (fun wx (f:Fr Nil w wx)=>Sq ⟨#[65,116,111,105]⟩ s (by omega) wx (hsyn.fr f id) 333 rfl)
 clear hsyn h
 go_enter Tryz.func220,Tryz.ntmps220
 go_wp2_with fail
 refine HI.out.mono ?_
 rintro e w1 ⟨rfl,hf1⟩
 go_wp2_with fail
 refine(HE.out w1 hf1).mono ?_
 rintro e w2 ⟨k,rfl,hf2⟩
 go_wp2_with fail
 go_ret2
 exact⟨k,rfl,hf1.trans hf2⟩
theorem Wq(kind name:ByteArray)(hp:Lib.hasPrefix name.data.toList kind.data.toList=false)(hl:name.size≤18)(h:Lib.atoi name.data.toList=none)(w:World)(hsyn:YO w) :
  Calls Tryz.prog 185 #[.string kind,.string name] w fun e w'=>e=.returned (.int .i64 0)∧Fr Nil w w':=by
 have HT:=Z (UD name kind w)
 have e1:(⟨(Lib.trimPrefix name.data.toList kind.data.toList).toArray⟩:ByteArray)=name:=by
  unfold Lib.trimPrefix
  rw[hp]
  apply ByteArray.ext
  simp
 rw[e1] at HT
 have HA:=Z (N8 name hl h w hsyn)
 clear e1 hsyn h hp
 go_enter Tryz.func185,Tryz.ntmps185
 go_wp2_with fail
 refine HT.out.mono ?_
 rintro e w1 ⟨rfl,hw1⟩
 subst hw1
 go_wp2_with fail
 refine HA.out.mono ?_
 rintro e w2 ⟨k,rfl,hf2⟩
 go_wp2_with fail
 go_ret
 exact⟨rfl,hf2⟩
end Go.Proofs.YtkhnggkkiefcdaaGreatDoor
namespace Go.Proofs.YtkhnggkkiefcdaaGreatDoor
open Go.RowKit Go.Shelf
set_option maxRecDepth 100000
set_option maxHeartbeats 8000000
attribute [local go_sem] Oper.semAt_some
def Zf(l:List (Nat × ByteArray)):List Value:=l.flatMap fun e=>[.int .i64 e.1,.string e.2]
theorem YP(d:List (Nat × ByteArray)):(Zf d).length=d.length*2:=by
 induction d with
 | nil=>rfl
 | cons e d ih=>simp only[Zf,List.flatMap_cons,List.length_append,List.length_cons,List.length_nil] at ih ⊢;omega
theorem YC(d:List (Nat × ByteArray)):∀ (k:Nat)(h:k<d.length),(Zf d)[k*2]?=some (.int .i64 d[k].1)∧(Zf d)[k*2+1]?=some (.string d[k].2):=by
 induction d with
 | nil=>intro k h;simp at h
 | cons e d ih =>
  intro k h
  cases k with
  | zero=>exact⟨rfl,rfl⟩
  | succ k =>
   have:=ih k (by simpa using h)
   have e1:(k+1)*2=k*2+2:=by omega
   simp only[Zf,List.flatMap_cons,e1] at this ⊢
   exact this
theorem UE(mb:Nat)(w:World) :
  Calls Tryz.prog 146 #[.pointer (some ⟨mb,0,none⟩)] w fun e w' =>
   e=.returned (.func (.func 187) #[] #[.pointer (some ⟨w.heap.size,0,none⟩)])∧w'=w.alloc (.cells #[.pointer (some ⟨mb,0,none⟩)] 211):=by
 go_enter Tryz.func146,Tryz.ntmps146
 go_wp2
 go_ret
 exact⟨rfl,rfl⟩
end Go.Proofs.YtkhnggkkiefcdaaGreatDoor
namespace Go.Proofs.YtkhnggkkiefcdaaGreatDoor
open Go.RowKit
set_option maxRecDepth 100000
set_option maxHeartbeats 8000000
theorem N9:((Tryz.prog.info? 268).map fun i=>(i.zero.map (·.cells.size),i.size,i.bytes))=some (some 2,2,24):=by kernel_rfl
def U3(w:World)(ob:Option Nat)(n i:Nat)(xs el:List Value)(e:Ending)(w':World):Prop :=
 ∃ g cap,e=.returned (.slice (some ⟨g,0,none⟩) (n+1) cap)∧w'.ownsRow 0 268 2 (.slice (some ⟨g,0,none⟩) (n+1) cap) (n+1) (ZH 2 i xs el)∧Fr (fun b=>ob=some b) w w'∧(ob=some g∨w.heap.size≤g)
theorem QH(v:Value)(n:Nat)(xs el:List Value)(vb:Nat)(w:World)(hown:w.ownsRow 0 268 2 v n xs)(hel:el.length=2)(he1:∀ u∈el,u.oneCell'=true)(hv:Blk w vb el 268)(hbig:(n+1)*24≤140737488355328) :
  Calls Tryz.prog 223 #[v,.int .i64 n,.slice (some ⟨vb,0,none⟩) 1 1] w fun e w'=>U3 w v.ownBlock n n xs el e w':=by
 have hrun:∀ ty,∃ v' w',(Builtin.append_ #[261,261] ty #[v,.slice (some ⟨vb,0,none⟩) 1 1]).run Tryz.prog w=.ok v' w'∧App w v 268 2 (n+1) (xs++el) v' w':=fun ty =>
  zo (P:=Tryz.prog) 261 ty 268 2 24 Tryz.underlying261 N9 (by omega) v n xs hown ⟨vb,0,none⟩ 1 1 el (by rw[hel]) (fun j u hu=>by rw[Addr.add_lit,Nat.zero_add];rw[hv.cell];exact hu) he1 (by unfold maxLen;omega) hbig
 have hfin:∀ v' w',App w v 268 2 (n+1) (xs++el) v' w'→U3 w v.ownBlock n n xs el (.returned v') w':=by
  rintro v' w' ⟨ho,hg,hb⟩
  obtain⟨g,cap,rfl,_,_⟩:=ho.form (by omega)
  refine⟨g,cap,rfl,?_,(Fr.of_grown hg).mono (fun i _ h=>h),?_⟩
  ·have e1:xs.take (n*2)=xs:=List.take_of_length_le (by rw[hown.1];exact Nat.le_refl _)
   have e2:xs.drop (n*2)=[]:=List.drop_eq_nil_of_le (by rw[hown.1];exact Nat.le_refl _)
   unfold ZH
   rw[e1,e2,List.append_nil]
   exact ho
  ·rcases hb with hb|hb
   ·left;rw[← hb];rfl
   ·right;have:g=w.heap.size:=by simpa [Value.ownBlock] using hb
    omega
 have hn:=zK hown
 unfold maxLen at hn
 obtain⟨a,cap,rfl⟩:=z8 hown
 have HF:=Z hfin
 clear hfin hown
 generalize (Value.slice a n cap).ownBlock=ob at HF ⊢
 go_enter Tryz.func223,Tryz.ntmps223
 go_wp2_with (at_builtin;go_must (refine zf rfl _ _ _ _ rfl _ _ (by rfl) (by rfl) (hrun _) ?_);rintro v' w' hA)
 all_goals
  go_ret
  exact HF.out _ _ hA
theorem Na(w:World)(va vl vc bo bl bc:Nat)(vb g:Nat)(el c:List Value)(hv:Blk w vb el 268)(hg:Blk w g c 268)(hne:vb≠g)(hc:c.length≠0) :
  (callFunc 240 #[.slice (some ⟨vb,va,none⟩) vl vc,.slice (some ⟨g,bo,none⟩) bl bc]).run Tryz.prog w=.ok (.value (.bool false)) w:=by
 rw[run_callFunc_extern Tryz.func240 (by kernel_rfl) (by kernel_rfl) (by kernel_rfl) (e:=Extern.SlicesOverlaps.overlaps #[261,261] #[4]) (by kernel_rfl),
  Lib.run_overlaps_apart w 261 4 268 Tryz.underlying261 2 Tryz.sizeOf268 ⟨vb,va,none⟩ ⟨g,bo,none⟩ vl vc bl bc hne 268 268 el.length c.length hv.shape hg.shape hc (hv.frozen _) (hv.frozen _)]
 rfl
theorem Sr(g n cap i:Nat)(c xs el:List Value)(vb:Nat)(w:World)(hg:Blk w g c 268)(hcl:c.length=cap*2)(ht:c.take (n*2)=xs)(h1:∀ u∈xs,u.oneCell'=true)(hi:i<n)(hroom:n+1≤cap)(hcm:cap≤maxLen)
  (hel:el.length=2)(he1:∀ u∈el,u.oneCell'=true)(hv:Blk w vb el 268)(hne:vb≠g) :
  Calls Tryz.prog 223 #[.slice (some ⟨g,0,none⟩) n cap,.int .i64 i,.slice (some ⟨vb,0,none⟩) 1 1] w fun e w'=>U3 w (some g) n i xs el e w':=by
 have hov:=fun va vl vc bo bl bc=>Na w va vl vc bo bl bc vb g el c hv hg hne (by omega)
 have hxl:xs.length=n*2:=by rw[← ht,List.length_take,hcl];exact Nat.min_eq_left (Nat.mul_le_mul_right _ (by omega))
 have hdl:(xs.drop (i*2)).length=(n-i)*2:=by rw[List.length_drop,hxl,Nat.sub_mul]
 have hdc:∀ j u,(xs.drop (i*2))[j]?=some u→c[i*2+j]?=some u:=by
  intro j u hu
  rw[List.getElem?_drop] at hu
  have hlt:=(List.getElem?_eq_some_iff.1 hu).1
  rw[← ht,List.getElem?_take_of_lt (by omega)] at hu
  exact hu
 have hcp1:∀ ty dc sc,(Builtin.copy_ #[261,261] ty #[.slice (some ⟨g,(i+1)*2,none⟩) (n-i) dc,.slice (some ⟨g,i*2,none⟩) (n+1-i) sc]).run Tryz.prog w.drew=_:=fun ty dc sc =>
  Zb 261 268 ty 2 Tryz.underlying261 (by kernel_rfl) g ((i+1)*2) (n-i) dc ⟨g,i*2,none⟩ (n+1-i) sc c (xs.drop (i*2)) 268 hg
   (by rw[hdl];congr 1;simp only[Nat.min_def];split <;> omega) (fun j u hu=>by rw[Addr.add_lit,show w.drew.cell? ⟨g,i*2+j,none⟩=c[i*2+j]? from hg.drew.cell _];exact hdc j u hu)
   (by rw[hdl,hcl];have:=Nat.mul_le_mul_right 2 hroom;have e:(i+1)*2+(n-i)*2=(n+1)*2:=(by rw[← Nat.add_mul];congr 1;omega);omega)
   (fun u hu=>h1 u (List.mem_of_mem_drop hu))
 obtain⟨c1,hc1⟩:∃ c1,c1=c.take ((i+1)*2)++xs.drop (i*2)++c.drop ((i+1)*2+(xs.drop (i*2)).length):=⟨_,rfl⟩
 rw[← hc1] at hcp1
 have hg1:Blk (w.drew.setRow g c1.toArray) g c1 268:=hg.drew.setRow c1
 have hv1:Blk (w.drew.setRow g c1.toArray) vb el 268:=hv.drew.of_heap (setRow_other _ g vb _ hne)
 have hc1l:c1.length=cap*2:=by
  have:=Nat.mul_le_mul_right 2 hroom
  have e:(i+1)*2+(n-i)*2=(n+1)*2:=by rw[← Nat.add_mul];congr 1;omega
  rw[hc1]
  simp only[List.length_append,List.length_take,List.length_drop,hxl,hcl]
  omega
 have hf1:Fr (fun b=>some g=some b) w (w.drew.setRow g c1.toArray):=Fr.setRow (S:=fun b=>some g=some b) ((G _ w).drew) (fun _=>rfl) _
 obtain⟨W1,hW1⟩:∃ W1,W1=w.drew.setRow g c1.toArray:=⟨_,rfl⟩
 rw[← hW1] at hcp1 hg1 hv1 hf1
 clear hW1
 have hcp2:∀ ty dc,(Builtin.copy_ #[261,261] ty #[.slice (some ⟨g,i*2,none⟩) (n+1-i) dc,.slice (some ⟨vb,0,none⟩) 1 1]).run Tryz.prog W1=_:=fun ty dc =>
  Zb 261 268 ty 2 Tryz.underlying261 (by kernel_rfl) g (i*2) (n+1-i) dc ⟨vb,0,none⟩ 1 1 c1 el 268 hg1
   (by rw[hel];have:Nat.min 1 (n+1-i)=1:=(by simp only[Nat.min_def];split <;> omega);rw[this]) (fun j u hu=>by rw[Addr.add_lit,Nat.zero_add,hv1.cell];exact hu)
   (by rw[hel,hc1l];have:=Nat.mul_le_mul_right 2 hroom;have e:i*2+2=(i+1)*2:=(by rw[Nat.add_mul,Nat.one_mul]);have:=Nat.mul_le_mul_right 2 (show i+1≤n+1 by omega);omega)
   he1
 have hfin:U3 w (some g) n i xs el (.returned (.slice (some ⟨g,0,none⟩) (n+1) cap)) (W1.setRow g (c1.take (i*2)++el++c1.drop (i*2+el.length)).toArray):=by
  have e0:=Nat.mul_le_mul_right 2 hroom
  have e1:i*2+2=(i+1)*2:=by rw[Nat.add_mul,Nat.one_mul]
  have e2:(i+1)*2+(n-i)*2=(n+1)*2:=by rw[← Nat.add_mul];congr 1;omega
  have e3:=Nat.mul_le_mul_right 2 (show i≤n by omega)
  refine⟨g,cap,rfl,Zj (hg1.setRow _) hroom hcm ?_ ?_,Fr.setRow (S:=fun b=>some g=some b) hf1 (fun _=>rfl) _,.inl rfl⟩
  ·rw[List.length_append,List.length_append,List.length_take,List.length_drop,hel,hc1l]
   omega
  ·unfold ZH
   have a1:c1.take (i*2)=xs.take (i*2):=by
    rw[hc1,← ht,List.take_append_of_le_length (by rw[List.length_append,List.length_take,hcl];omega),List.take_append_of_le_length (by rw[List.length_take,hcl];omega),List.take_take,List.take_take]
    congr 1
    omega
   have a2:c1.drop (i*2+el.length)=xs.drop (i*2)++c.drop ((n+1)*2):=by
    have e4:(c.take ((i+1)*2)).length=i*2+el.length:=by rw[List.length_take,hcl];omega
    rw[hc1,List.append_assoc,← e4,List.drop_left,hdl,e2]
   rw[a1,a2,← List.append_assoc,List.take_left' (by rw[List.length_append,List.length_append,hdl,hel,List.length_take,hxl];omega)]
 obtain⟨c2,hc2⟩:∃ c2,c2=c1.take (i*2)++el++c1.drop (i*2+el.length):=⟨_,rfl⟩
 rw[← hc2] at hcp2 hfin
 clear hg1 hv1 hf1 hc1l hdc hg hv hdl hxl h1 he1 hc1 hc2 ht hel hcl
 unfold maxLen at hcm
 have hq1:¬(i:Int)=(n:Int):=by omega
 have hq2:¬(cap:Int)<(n:Int)+1:=by omega
 have hq3:¬cap=i:=by omega
 have hq4:¬cap=i+1:=by omega
 have hw1:IntKind.i64.wrap ((i:Int)+1)=(i:Int)+1:=by rw[IntKind.wrap_i64];omega
 have hw2:(0:Int)≤(i:Int)+1:=by omega
 have hw3:((i:Int)+1).toNat=i+1:=by omega
 have hw4:(i:Int)≤(n:Int)+1:=by omega
 have hw5:(i:Int)≤(n:Int):=by omega
 go_enter Tryz.func223,Tryz.ntmps223
 go_wp2_with (simp only[hov])
 go_region_law (refine Y1 rfl _ _ 261 261 rfl _ _ (by simp[Act.eval,Act.put]) (by simp[Act.eval,Act.put]) (hcp1 _ _ _) ?_)
 go_wp2_with (at_builtin;go_must (refine wpList_copyK rfl _ _ 261 261 rfl _ _ (by rfl) (by rfl) (hcp2 _ _) ?_))
 go_ret
 exact hfin
theorem RH(g n i:Nat)(xs el:List Value)(vb:Nat)(w:World)(hg:Blk w g xs 268)(hxl:xs.length=n*2)(h1:∀ u∈xs,u.oneCell'=true)(hi:i<n)
  (hel:el.length=2)(he1:∀ u∈el,u.oneCell'=true)(hv:Blk w vb el 268)(hbig:(n+1)*24≤140737488355328) :
  Calls Tryz.prog 223 #[.slice (some ⟨g,0,none⟩) n n,.int .i64 i,.slice (some ⟨vb,0,none⟩) 1 1] w fun e w'=>U3 w (some g) n i xs el e w':=by
 obtain⟨i0,z,hi0,hz0,hs0,hb0,hzs⟩:=Zk N9
 have hsum:i+(n+1-i)=n+1:=by omega
 have hrun:∀ ty,(Builtin.append_ #[261,3] ty #[.slice (some ⟨g,0,none⟩) i n,.int .i64 ((n+1-i:Nat):Int)]).run Tryz.prog w=_:=fun ty =>
  Lib.run_append_grow_zeros (P:=Tryz.prog) w 261 3 ty 268 i0 z .i64 .i64 Tryz.underlying261 Tryz.underlying3 hi0 hz0 (some ⟨g,0,none⟩) i n (xs.take (i*2))
   (by rw[hs0];exact run_firstCells_some (P:=Tryz.prog) w.drew 2 i ⟨g,0,none⟩ i n (xs.take (i*2)) (by rw[List.length_take,hxl];omega) (fun j u hu=>by
      have hlt:=(List.getElem?_eq_some_iff.1 hu).1
      rw[Addr.add_lit,Nat.zero_add,hg.drew.cell]
      rw[List.length_take] at hlt
      rw[List.getElem?_take_of_lt (by omega)] at hu
      exact hu))
   (n+1-i) (by omega) (by rw[hs0];omega) (by omega) (by omega) (by rw[hb0];omega) (growslice_fits (by omega) (by rw[hb0,hsum];exact hbig))
 rw[hsum] at hrun
 have hge:=grownCap_ge w (n+1) n 268
 have hcm:=grownCap_le_maxLen w (n+1) n 268 (by unfold maxLen;omega)
 generalize grownCap w (n+1) n 268=cap at hrun hge hcm
 obtain⟨c1,hc1⟩:∃ c1:List Value,c1=xs.take (i*2)++(Builtin.zeroCells z.cells (n+1-i)).toList++(Builtin.zeroCells z.cells (cap-(n+1))).toList:=⟨_,rfl⟩
 have hc1a:(xs.take (i*2)).toArray++Builtin.zeroCells z.cells (n+1-i)++Builtin.zeroCells z.cells (cap-(n+1))=c1.toArray:=by rw[hc1];apply Array.ext';simp
 rw[hc1a] at hrun
 have hc1l:c1.length=cap*2:=by
  rw[hc1]
  simp only[List.length_append,List.length_take,Array.length_toList,size_zeroCells,hzs,hxl]
  omega
 have hc1t:c1.take (i*2)=xs.take (i*2):=by
  have e:(xs.take (i*2)).length=i*2:=by rw[List.length_take,hxl];omega
  rw[hc1,List.append_assoc]
  exact List.take_left' e
 have hglt:=hg.lt
 have hvlt:=hv.lt
 have hg1:Blk (w.drew.alloc (.cells c1.toArray 268)) w.heap.size c1 268:=Blk.new w.drew c1 _
 have hv1:Blk (w.drew.alloc (.cells c1.toArray 268)) vb el 268:=hv.drew.alloc _
 have ho1:Blk (w.drew.alloc (.cells c1.toArray 268)) g xs 268:=hg.drew.alloc _
 have hf1:Fr Nil w (w.drew.alloc (.cells c1.toArray 268)):=((G _ w).drew).alloc _
 obtain⟨N,hN⟩:∃ N,N=w.heap.size:=⟨_,rfl⟩
 rw[← hN] at hrun hg1 hglt hvlt
 obtain⟨W1,hW1⟩:∃ W1,W1=w.drew.alloc (.cells c1.toArray 268):=⟨_,rfl⟩
 rw[← hW1] at hrun hg1 hv1 ho1 hf1
 clear hW1
 obtain⟨c2,hc2⟩:∃ c2,c2=c1.take (i*2)++el++c1.drop (i*2+el.length):=⟨_,rfl⟩
 have hcp1:∀ ty dc,(Builtin.copy_ #[261,261] ty #[.slice (some ⟨N,i*2,none⟩) (n+1-i) dc,.slice (some ⟨vb,0,none⟩) 1 1]).run Tryz.prog W1=_:=fun ty dc =>
  Zb 261 268 ty 2 Tryz.underlying261 (by kernel_rfl) N (i*2) (n+1-i) dc ⟨vb,0,none⟩ 1 1 c1 el 268 hg1
   (by rw[hel];have:Nat.min 1 (n+1-i)=1:=(by simp only[Nat.min_def];split <;> omega);rw[this]) (fun j u hu=>by rw[Addr.add_lit,Nat.zero_add,hv1.cell];exact hu)
   (by rw[hel,hc1l];omega)
   he1
 rw[← hc2] at hcp1
 have hc2l:c2.length=cap*2:=by
  rw[hc2]
  simp only[List.length_append,List.length_take,List.length_drop,hel,hc1l]
  omega
 have hc2t:c2.take ((i+1)*2)=xs.take (i*2)++el:=by
  have e:(xs.take (i*2)++el).length=(i+1)*2:=by rw[List.length_append,List.length_take,hxl,hel];omega
  rw[hc2,hc1t]
  exact List.take_left' e
 have hg2:Blk (W1.setRow N c2.toArray) N c2 268:=hg1.setRow c2
 have ho2:Blk (W1.setRow N c2.toArray) g xs 268:=ho1.of_heap (setRow_other _ N g _ (by omega))
 have hf2:Fr Nil w (W1.setRow N c2.toArray):=hf1.setRow (fun h=>by omega) _
 obtain⟨W2,hW2⟩:∃ W2,W2=W1.setRow N c2.toArray:=⟨_,rfl⟩
 rw[← hW2] at hcp1 hg2 ho2 hf2
 clear hW2
 have hdl:(xs.drop (i*2)).length=(n-i)*2:=by rw[List.length_drop,hxl,Nat.sub_mul]
 obtain⟨c3,hc3⟩:∃ c3,c3=c2.take ((i+1)*2)++xs.drop (i*2)++c2.drop ((i+1)*2+(xs.drop (i*2)).length):=⟨_,rfl⟩
 have hcp2:∀ ty dc sc,(Builtin.copy_ #[261,261] ty #[.slice (some ⟨N,(i+1)*2,none⟩) (n-i) dc,.slice (some ⟨g,i*2,none⟩) (n-i) sc]).run Tryz.prog W2.drew=_:=fun ty dc sc =>
  Zb 261 268 ty 2 Tryz.underlying261 (by kernel_rfl) N ((i+1)*2) (n-i) dc ⟨g,i*2,none⟩ (n-i) sc c2 (xs.drop (i*2)) 268 hg2.drew
   (by rw[hdl];congr 1;simp only[Nat.min_def];split <;> omega) (fun j u hu=>by rw[Addr.add_lit,ho2.drew.cell];rw[List.getElem?_drop] at hu;exact hu)
   (by rw[hdl,hc2l];omega)
   (fun u hu=>h1 u (List.mem_of_mem_drop hu))
 rw[← hc3] at hcp2
 have hfin:U3 w (some g) n i xs el (.returned (.slice (some ⟨N,0,none⟩) (n+1) cap)) (W2.drew.setRow N c3.toArray):=by
  refine⟨N,cap,rfl,Zj (hg2.drew.setRow _) hge hcm ?_ ?_,(hf2.drew.setRow (fun h=>by omega) _).mono (fun _ _ h=>absurd h id),.inr (by omega)⟩
  ·rw[hc3]
   simp only[List.length_append,List.length_take,List.length_drop,hxl,hc2l]
   omega
  ·have e:(c2.take ((i+1)*2)++xs.drop (i*2)).length=(n+1)*2:=by rw[List.length_append,List.length_take,hc2l,hdl];omega
   rw[hc3,List.take_left' e,hc2t]
   rfl
 clear hc1t hc2t hc1a hc3 hc2 hc1 hg1 hv1 ho1 hf1 hg2 ho2 hf2 hdl hc2l hc1l h1 he1 hel hxl hv hg hN hsum hzs hb0 hs0 hz0 hi0
 unfold maxLen at hcm
 have hq1:¬(i:Int)=(n:Int):=by omega
 have hq3:¬n=i:=by omega
 have hq4:¬cap=i+1:=by omega
 have hq5:¬cap=i:=by omega
 have hq6:(n:Int)+1-i=((n+1-i:Nat):Int):=by omega
 have hw1:IntKind.i64.wrap ((i:Int)+1)=(i:Int)+1:=by rw[IntKind.wrap_i64];omega
 have hw2:(0:Int)≤(i:Int)+1:=by omega
 have hw3:((i:Int)+1).toNat=i+1:=by omega
 have hw4:(i:Int)≤(n:Int)+1:=by omega
 have hw5:(i:Int)≤(n:Int):=by omega
 go_enter Tryz.func223,Tryz.ntmps223
 go_wp2_with (at_builtin;go_must (first|(refine Lib.wpList_append_run _ rfl _ _ _ _ rfl _ _ (by rfl) (by rfl) _ _ (hrun _) ?_)|(refine wpList_copyK rfl _ _ 261 261 rfl _ _ (by rfl) (by rfl) (hcp1 _ _) ?_)))
 go_region_law (refine Y1 rfl _ _ 261 261 rfl _ _ (by simp[Act.eval,Act.put]) (by simp[Act.eval,Act.put]) (hcp2 _ _ _) ?_)
 go_wp2
 go_ret
 exact hfin
theorem Ss(v:Value)(n i:Nat)(xs el:List Value)(vb:Nat)(w:World)(hown:w.ownsRow 0 268 2 v n xs)(h1:∀ u∈xs,u.oneCell'=true)(hi:i≤n)
  (hel:el.length=2)(he1:∀ u∈el,u.oneCell'=true)(hv:Blk w vb el 268)(hne:v.ownBlock≠some vb)(hbig:(n+1)*24≤140737488355328) :
  Calls Tryz.prog 223 #[v,.int .i64 i,.slice (some ⟨vb,0,none⟩) 1 1] w fun e w'=>U3 w v.ownBlock n i xs el e w':=by
 rcases Nat.lt_or_ge i n with hlt|hge
 ·rcases ZW hown with⟨_,h0,_⟩|⟨g,cap,c,rfl,hg,hn,hm,hc,ht⟩
  ·omega
  ·have hne':vb≠g:=fun e=>hne (by rw[e];rfl)
   rcases Nat.lt_or_ge n cap with hr|hr
   ·exact Sr g n cap i c xs el vb w hg hc ht h1 hlt hr hm hel he1 hv hne'
   ·have e:cap=n:=by omega
    subst e
    have hcx:c=xs:=by rw[← ht];exact(List.take_of_length_le (by omega)).symm
    subst hcx
    exact RH g cap i c el vb w hg hc h1 hlt hel he1 hv hbig
 ·have e:i=n:=by omega
  subst e
  exact QH v i xs el vb w hown hel he1 hv hbig
def zO(a b:Nat):Bool:=decide (a<b)
theorem XN:Strict zO where
 irr a:=by simp[zO]
 trans a b c h1 h2:=by simp only[zO,decide_eq_true_eq] at *;omega
 tri a b h1 h2:=by simp only[zO,decide_eq_true_eq,decide_eq_false_iff_not] at *;omega
theorem RI{a b:Nat}:YW a b<0↔zO a b=true:=by
 unfold YW zO
 rw[decide_eq_true_eq]
 split
 ·rename_i h;constructor <;> intro <;> omega
 ·rename_i h
  split
  ·constructor <;> intro <;> omega
  ·constructor <;> intro <;> omega
theorem Nb{a b:Nat}:YW a b=0↔(a==b)=true:=by
 unfold YW
 rw[beq_iff_eq]
 split
 ·rename_i h;constructor <;> intro <;> omega
 ·rename_i h
  split
  ·constructor <;> intro <;> omega
  ·constructor <;> intro <;> omega
theorem Xr(a b:Nat)(v:ByteArray)(w:World) :
  Calls Tryz.prog 239 #[.agg #[.int .i64 a,.string v],.int .i64 b] w fun e w'=>e=.returned (.int .i64 (YW a b))∧Fr Nil w w':=by
 go_enter Tryz.func239,Tryz.ntmps239
 go_wp2_with (go_at_call 180;refine(Ur _ _ _).mono ?_;rintro e w1 ⟨rfl,hw1⟩;subst hw1)
 go_ret
 exact⟨rfl,(by repeat' first|exact G _ _|(with_reducible assumption)|refine Fr.drewN ?_ _|refine Fr.drew ?_|refine Fr.alloc ?_ _|refine Fr.set ?_ ?_ _|(intro _;rfl))⟩
theorem St(v:Value)(l:List (Nat × ByteArray))(s:Nat)(w:World)(h:w.ownsRow 0 268 2 v l.length (Zf l))(hs:Asc zO (l.map Prod.fst))(hsz:l.length<4611686018427387904) :
  Calls Tryz.prog 238 #[v,.int .i64 s,.func (.func 239) #[] #[]] w fun e w' =>
   e=.returned (.tuple #[.int .i64 (low zO (l.map Prod.fst) s),.bool (zX zO (l.map Prod.fst) s)])∧Fr Nil w w':=by
 have hn:=zK h
 unfold maxLen at hn
 obtain⟨a,cap,rfl⟩:=z8 h
 go_enter Tryz.func238,Tryz.ntmps238
 go_wp2
 go_loopw [9,10] (fun ti tj w'=>∃ i j:Nat,i≤j∧j≤l.length∧ti=.int .i64 i∧tj=.int .i64 j∧(∀ k (hk:k<l.length),k<i→zO l[k].1 s=true)∧(∀ k (hk:k<l.length),j≤k→zO l[k].1 s=false)∧Fr Nil w w') (fun ti tj _=>(intOf tj).toNat-(intOf ti).toNat)
 case atStart=>exact⟨0,l.length,Nat.zero_le _,Nat.le_refl _,rfl,rfl,fun k _ hk=>absurd hk (Nat.not_lt_zero _),fun k hk hk'=>absurd hk (by omega),G _ _⟩
 case round =>
  obtain⟨i,j,hij,hj,rfl,rfl,h1,h2,hf⟩:=hrel
  by_cases hlt:i<j
  ·obtain⟨g,rfl⟩:∃ g,a=some ⟨g,0,none⟩:=by
    rcases h.2 with⟨h1,h0⟩|⟨g,cap,cur,h1,_⟩
    ·omega
    ·simp at h1;exact⟨g,h1.1⟩
   have hm:(i+j) / 2<l.length:=by omega
   have hc:=own_cell? (z7 h hf (fun _ _=>id)) ((i+j) / 2*2) _ (YC l _ hm).1
   have hc2:=own_cell? (z7 h hf (fun _ _=>id)) ((i+j) / 2*2+1) _ (YC l _ hm).2
   have H1:=Z h1
   have H2:=Z h2
   clear h1 h2
   have hb1:(i:Int)≤4611686018427387903:=by omega
   have hb2:(j:Int)≤4611686018427387903:=by omega
   have hb3:(i:Int)+j≤9223372036854775807:=by omega
   have hq:(((i:Int)+j) / 2).toNat=(i+j) / 2:=by omega
   cases hl:zO l[(i+j) / 2].1 s with
   | true =>
    have H3:=Z hl
    have hcm:YW l[(i+j) / 2].1 s<0:=RI.2 hl
    clear hl
    go_wp2_with (go_at_call 239;refine(Xr _ _ _ _).mono ?_;rintro e w1 ⟨rfl,hf1⟩)
    refine⟨⟨(i+j) / 2+1,j,by omega,hj,by go_num,rfl,fun k hk hki=>?_,H2.out,hf.trans hf1⟩,by simp[intOf];omega⟩
    by_cases e:k=(i+j) / 2
    ·subst e;exact H3.out
    ·exact XN.trans _ _ _ (hs.fst (i:=k) (j:=(i+j) / 2) (by omega) hm) H3.out
   | false =>
    have H3:=Z hl
    have hcm:¬YW l[(i+j) / 2].1 s<0:=by rw[RI];simp[hl]
    clear hl
    go_wp2_with (go_at_call 239;refine(Xr _ _ _ _).mono ?_;rintro e w1 ⟨rfl,hf1⟩)
    refine⟨⟨i,(i+j) / 2,by omega,by omega,rfl,by go_num,H1.out,fun k hk hki=>?_,hf.trans hf1⟩,by simp[intOf];omega⟩
    by_cases e:k=(i+j) / 2
    ·subst e;exact H3.out
    ·cases hk2:zO l[k].1 s with
     | false=>rfl
     | true =>
      have:=XN.trans _ _ _ (hs.fst (i:=(i+j) / 2) (j:=k) (by omega) hk) hk2
      rw[H3.out] at this
      cases this
  ·have he:i=j:=by omega
   subst he
   have hlow:low zO (l.map Prod.fst) s=i:=V8 zO s _ i (by simpa using hj) (fun k hk hki=>by simpa using h1 k (by simpa using hk) hki) (fun hk=>by simpa using h2 i (by simpa using hk) (Nat.le_refl _))
   by_cases hil:i<l.length
   ·obtain⟨g,rfl⟩:∃ g,a=some ⟨g,0,none⟩:=by
     rcases h.2 with⟨h1,h0⟩|⟨g,cap,cur,h1,_⟩
     ·omega
     ·simp at h1;exact⟨g,h1.1⟩
    have hc:=own_cell? (z7 h hf (fun _ _=>id)) (i*2) _ (YC l _ hil).1
    have hc2:=own_cell? (z7 h hf (fun _ _=>id)) (i*2+1) _ (YC l _ hil).2
    have hat:zX zO (l.map Prod.fst) s=(YW l[i].1 s==0):=by
     rw[YT hil hlow,Bool.eq_iff_iff,← Nb]
     simp
    have HL:=Z hlow
    have HA:=Z hat
    clear h1 h2 hlow hat
    go_wp2_with (go_at_call 239;refine(Xr _ _ _ _).mono ?_;rintro e w1 ⟨rfl,hf1⟩)
    go_ret2
    rw[HL.out,HA.out]
    exact⟨rfl,hf.trans hf1⟩
   ·have hat:zX zO (l.map Prod.fst) s=false:=Wk (by rw[hlow];simpa using hil)
    have HL:=Z hlow
    have HA:=Z hat
    clear h1 h2 hlow hat
    go_wp2
    go_ret2
    rw[HL.out,HA.out]
    exact⟨rfl,hf⟩
abbrev Zq (l:List (Nat × ByteArray)):List Nat:=l.map Prod.fst
structure WI(w:World)(v:Value)(l:List (Nat × ByteArray)):Prop where
 own:w.ownsRow 0 268 2 v l.length (Zf l)
 asc:Asc zO (Zq l)
theorem WI.fr{w w':World}{v:Value}{l:List (Nat × ByteArray)}{S:Nat→Prop}(h:WI w v l)(f:Fr S w w')(hn:∀ k,v.ownBlock=some k→¬S k):WI w' v l :=
 ⟨z7 h.own f hn,h.asc⟩
theorem RJ(v:Value)(l:List (Nat × ByteArray))(s:Nat)(b:Nat)(w:World)(hc:w.cell? ⟨b,0,none⟩=some v)(h:WI w v l)(hsz:l.length<4611686018427387904) :
  Calls Tryz.prog 222 #[.pointer (some ⟨b,0,none⟩),.int .i64 s] w fun e w' =>
   e=.returned (.tuple #[.int .i64 (low zO (Zq l) s),.bool (zX zO (Zq l) s)])∧Fr Nil w w':=by
 have HC:=Z (St v l s w h.own h.asc hsz)
 clear h
 go_enter Tryz.func222,Tryz.ntmps222
 go_wp2_with (refine HC.out.mono ?_;rintro e w1 ⟨rfl,hf1⟩)
 go_ret2
 exact⟨rfl,hf1⟩
theorem Nc(l:List (Nat × ByteArray)):∀ u∈Zf l,u.oneCell'=true:=by
 intro u hu
 simp only[Zf,List.mem_flatMap] at hu
 obtain⟨e,he,hu⟩:=hu
 simp at hu
 rcases hu with rfl|rfl <;> rfl
theorem YQ(a b:List (Nat × ByteArray)):Zf (a++b)=Zf a++Zf b:=by simp[Zf]
theorem PY(l:List (Nat × ByteArray))(i:Nat):(Zf l).take (i*2)=Zf (l.take i):=by
 rcases Nat.le_total i l.length with h|h
 ·have e:=YQ (l.take i) (l.drop i)
  rw[List.take_append_drop] at e
  rw[e]
  exact List.take_left' (by rw[YP,List.length_take,Nat.min_eq_left h])
 ·rw[List.take_of_length_le h,List.take_of_length_le (by rw[YP];omega)]
theorem PZ(l:List (Nat × ByteArray))(i:Nat):(Zf l).drop (i*2)=Zf (l.drop i):=by
 rcases Nat.le_total i l.length with h|h
 ·have e:=YQ (l.take i) (l.drop i)
  rw[List.take_append_drop] at e
  rw[e]
  exact List.drop_left' (by rw[YP,List.length_take,Nat.min_eq_left h])
 ·rw[List.drop_eq_nil_of_le h,List.drop_eq_nil_of_le (by rw[YP];omega)]
  rfl
def XO(l:List (Nat × ByteArray))(s:Nat)(x:ByteArray):List (Nat × ByteArray):=l.take (low zO (Zq l) s)++[(s,x)]++l.drop (low zO (Zq l) s)
theorem Ml{l:List (Nat × ByteArray)}(s:Nat)(x:ByteArray)(h:Asc zO (Zq l))(ha:zX zO (Zq l) s=false):Asc zO (Zq (XO l s x)):=by
 have:=Asc.ins XN (b:=s) h (fun hl e=>by rw[Vs hl,e] at ha;simp at ha)
 unfold XO
 simpa [Zq,List.map_take,List.map_drop] using this
theorem VP{l:List (Nat × ByteArray)}{s:Nat}{x:ByteArray}:(XO l s x).length=l.length+1:=by
 have:=Wj zO (Zq l) s
 simp only[List.length_map] at this
 simp[XO]
 omega
def Lp(w:World)(b:Nat)(t:TypeId)(v:Value)(rest:List Value)(l:List (Nat × ByteArray))(w':World):Prop :=
 ∃ v',Blk w' b (v'::rest) t∧WI w' v' l∧Fr (fun k=>k=b∨v.ownBlock=some k) w w'∧(∀ k,v'.ownBlock=some k→v.ownBlock=some k∨w.heap.size≤k)
theorem O0(v:Value)(rest:List Value)(l:List (Nat × ByteArray))(s:Nat)(x:ByteArray)(b:Nat)(t:TypeId)(w:World)(hb:Blk w b (v::rest) t)(ht:t≠268)(h:WI w v l)
  (hsz:l.length<1099511627776)(ha:zX zO (Zq l) s=false) :
  Calls Tryz.prog 186 #[.pointer (some ⟨b,0,none⟩),.int .i64 s,.string x] w fun e w' =>
   e=.returned (.tuple #[])∧Lp w b t v rest (XO l s x) w':=by
 have hc:w.cell? ⟨b,0,none⟩=some v:=by rw[hb.cell];rfl
 have HC:=Z (RJ v l s b w hc h (by omega))
 have hn:=zK h.own
 unfold maxLen at hn
 have HH:=Z h
 have HB:=Z hb
 clear hc h hb
 go_enter Tryz.func186,Tryz.ntmps186
 go_wp2_with fail
 refine HC.out.mono ?_
 rintro e w1 ⟨rfl,hf1⟩
 have hb1:=HB.out.fr hf1 id
 have hc1:w1.cell? ⟨b,0,none⟩=some v:=by rw[hb1.cell];rfl
 have hz1:=hb1.frozen 0
 go_wp2_with fail
 have hN:Blk (w1.alloc (.cells #[.int .i64 s,.string x] 268)) w1.heap.size [.int .i64 s,.string x] 268:=Blk.new w1 [.int .i64 s,.string x] _
 have hb2:=hb1.alloc (.cells #[.int .i64 s,.string x] 268)
 have hf2:Fr Nil w (w1.alloc (.cells #[.int .i64 s,.string x] 268)):=hf1.alloc _
 have hlt:∀ k,v.ownBlock=some k→k<w1.heap.size:=fun k hk=>zA (HH.out.fr hf1 (fun _ _=>id)).own hk
 generalize w1.alloc (.cells #[.int .i64 s,.string x] 268)=w2 at hN hb2 hf2 ⊢
 have h2:=HH.out.fr hf2 (fun _ _=>id)
 have hvb:v.ownBlock≠some b:=za h2.own hb2 ht
 have hlo:=Wj zO (Zq l) s
 simp only[List.length_map] at hlo
 refine(Ss v l.length (low zO (Zq l) s) (Zf l) [.int .i64 s,.string x] w1.heap.size w2 h2.own (Nc l) hlo rfl (by intro u hu;simp at hu;rcases hu with rfl|rfl <;> rfl) hN (fun e=>by have:=hlt _ e;omega) (by omega)).mono ?_
 rintro e w3 ⟨g,cap,rfl,ho3,hf3,hob⟩
 have hb3:=hb2.fr hf3 hvb
 have hc3:w3.cell? ⟨b,0,none⟩=some v:=by rw[hb3.cell];rfl
 have hz3:=hb3.frozen 0
 have hbg:b≠g:=by
  rcases hob with h|h
  ·intro e;exact hvb (by rw[h,e])
  ·have:=hb2.lt;omega
 have hfin:Lp w b t v rest (XO l s x) (w3.setCell ⟨b,0,none⟩ (.slice (some ⟨g,0,none⟩) (l.length+1) cap)):=by
  have hsl:=VP (l:=l) (s:=s) (x:=x)
  refine⟨.slice (some ⟨g,0,none⟩) (l.length+1) cap,hb3.set 0 _,⟨?_,Ml s _ h2.asc ha⟩,Fr.set ((hf2.mono (fun _ _ h=>absurd h id)).trans' hf3 (fun i _ h=>.inr h)) (fun _=>.inl rfl) _,fun k hk=>?_⟩
  ·rw[hsl]
   have e:Zf (XO l s x)=ZH 2 (low zO (Zq l) s) (Zf l) [.int .i64 s,.string x]:=by
    unfold XO ZH
    rw[YQ,YQ,PY,PZ]
    rfl
   rw[e]
   exact z7 ho3 (Fr.set (S:=fun k=>k=b) (G _ _) (fun _=>rfl) _) (fun k hk=>by simp[Value.ownBlock] at hk;omega)
  ·simp[Value.ownBlock] at hk
   subst hk
   rcases hob with h|h
   ·exact .inl h
   ·exact .inr (by have:=hf2.size;omega)
 have HF:=Z hfin
 clear hfin
 go_wp2
 exact bodyPost_end (v:=.tuple #[]) (by simp[results,go_sem]) rfl ⟨rfl,HF.out⟩
end Go.Proofs.YtkhnggkkiefcdaaGreatDoor
namespace Go.Proofs.YtkhnggkkiefcdaaGreatDoor
open Go.RowKit Go.Shelf
set_option maxRecDepth 100000
set_option maxHeartbeats 8000000
attribute [local go_sem] Oper.semAt_some
theorem RK(v:Value)(l:List ByteArray)(s:ByteArray)(w:World)(h:w.ownsRow 0 9 1 v l.length (strs l)) :
  Calls Tryz.prog 234 #[v,.string s] w fun e w'=>∃ r:Int,e=.returned (.int .i64 r)∧decide (0≤r)=l.any (·==s)∧Fr Nil w w':=by
 have hn:=zK h
 unfold maxLen at hn
 obtain⟨a,cap,rfl⟩:=z8 h
 go_enter Tryz.func234,Tryz.ntmps234
 go_wp2
 go_loopw [8] (fun t w'=>∃ k:Nat,k≤l.length∧t=.int .i64 k∧(∀ j (hj:j<l.length),j<k→(l[j]==s)=false)∧Fr Nil w w') (fun t _=>l.length-(intOf t).toNat)
 case atStart=>exact⟨0,Nat.zero_le _,rfl,fun j _ hj=>absurd hj (Nat.not_lt_zero _),G _ _⟩
 case round =>
  obtain⟨k,hk,rfl,hj,hf⟩:=hrel
  by_cases hlt:k<l.length
  ·have hr:=z7 h hf (fun _ _=>id)
   obtain⟨g,cap',hg,_,_⟩:=zi hr (by omega)
   obtain⟨rfl,rfl⟩:a=some ⟨g,0,none⟩∧cap=cap':=by simpa using hg
   have hc:=own_cell? hr k (.string l[k]) (by simp[strs,hlt])
   have hb:=beq_toListBytes s l[k]
   cases hm:(s==l[k]) with
   | true =>
    have hm':(s.toList==l[k].toList)=true:=by rw[← hb];exact hm
    have hany:l.any (·==s)=true:=by rw[List.any_eq_true];exact⟨l[k],List.getElem_mem hlt,by rw[zR] at hm ⊢;exact hm.symm⟩
    have HANY:=Z hany
    clear hb hm hj hany hr
    go_wp2
    go_ret
    exact⟨_,rfl,by rw[HANY.out];simp,hf⟩
   | false =>
    have hm':(s.toList==l[k].toList)=false:=by rw[← hb];exact hm
    have hj':∀ j (hj:j<l.length),j<k+1→(l[j]==s)=false:=by
     intro j hjl hjk
     by_cases e:j=k
     ·subst e
      cases h:(l[j]==s) with
      | false=>rfl
      | true=>rw[zR] at h;rw[← h,zR.2 rfl] at hm;cases hm
     ·exact hj j hjl (by omega)
    have HJ:=Z hj'
    clear hb hm hj hj' hr
    go_wp2
    exact⟨⟨k+1,by omega,by go_num,HJ.out,hf⟩,by simp[intOf];omega⟩
  ·have hany:l.any (·==s)=false:=by
    rw[List.any_eq_false]
    intro x hx
    obtain⟨j,hjl,rfl⟩:=List.getElem_of_mem hx
    rw[hj j hjl (by omega)]
    decide
   have HANY:=Z hany
   clear hj hany
   go_wp2
   go_ret
   exact⟨_,rfl,by rw[HANY.out];simp,hf⟩
theorem UF(v:Value)(l:List ByteArray)(s:ByteArray)(w:World)(h:w.ownsRow 0 9 1 v l.length (strs l)) :
  Calls Tryz.prog 218 #[v,.string s] w fun e w'=>e=.returned (.bool (l.any (·==s)))∧Fr Nil w w':=by
 have HC:=Z (RK v l s w h)
 clear h
 go_enter Tryz.func218,Tryz.ntmps218
 go_wp2_with (refine HC.out.mono ?_;rintro e w1 ⟨r,rfl,hr,hf⟩;have HR:=Z hr;clear hr)
 go_ret
 exact⟨by rw[← HR.out];rfl,hf⟩
end Go.Proofs.YtkhnggkkiefcdaaGreatDoor
