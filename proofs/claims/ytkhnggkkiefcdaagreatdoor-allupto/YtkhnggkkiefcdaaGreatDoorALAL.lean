/- larder: joined texts -/
import Derived.Test.YtkhnggkkiefcdaaGreatDoorALAK
namespace Go.Proofs.YtkhnggkkiefcdaaGreatDoor
open Go.RowKit Proofs.Tryz
set_option maxRecDepth 100000
set_option maxHeartbeats 8000000
variable{p:Prop}
def LM.se(m:LM)(key:ByteArray)(v:Ver):LM:={m with uR:=Z4 m.uR key (WO (zJ m.uR key) v)}
def Yz(a:List Ver)(v x:Ver)(done b o:Bool):List Ver × Bool:=((if b=true/\done=false then a++[v] else a)++(if o=true then [] else [x]),done||b)
def Zv(a:List Ver)(v:Ver):Nat:=if a.any v.sP=true then 0 else if v.ts=false/\4<=(zC a v).length then 1 else if v.ts=true/\(zC a v).length=a.length then 0 else 2
theorem EC(h:p:=by
 go_wp2_with fail
 go_quiet (fail)
 go_wp2_with fail
 go_region_held3 (fun d=>d.cell? (Y b 0)=some (I node)/\d.cell? (Y b 1)=some (I y)/\d.cell? (Y b 2)=some (I D)/\d.cell? (Y b 3)=some (I G)/\d.cell? (Y b 4)=some (I J)/\d.cell? (Y b 5)=some (I L)/\d.cell? (Y b 6)=some (.string c)/\d.cell? (Y b 7)=some (.bool B)/\d.cell? (Y g (i*8))=some (I xn)/\d.cell? (Y g (i*8+1))=some (I xs)/\d.cell? (Y g (i*8+2))=some (I x0)/\d.cell? (Y g (i*8+3))=some (I x1)/\d.cell? (Y g (i*8+4))=some (I x2)/\d.cell? (Y g (i*8+5))=some (I x3)/\d.cell? (Y g (i*8+6))=some (.string xv)/\d.cell? (Y g (i*8+7))=some (.bool xg)) (first|assumption|go_keep|exact T.o _ ((X.o.drewN _).trans zd))
  (first|(go_at_call 159;refine(h8.o _).mono ?_;rintro e w2 ⟨rfl,a4⟩;have a9:Fr Nil w1 w2:=X.o.trans (Fr.trans zd a4);have f4:=T.o w2 a9))
 cases u with
 | true =>
  have n8:=Z (e6.o i1.o);have HW:aa (Zv A ⟨node,y,D,G,J,L,c,B⟩=0):=Z (by rw[j0.o,Bl n8.o]);have h6:aa (Fr Nil w w2):=f6.o.trans a9;clear f4
  go_wp2
  go_ret2;exact .inl ⟨by rw[h0.o];exact HW.o,rfl,h6.o⟩
 | false =>
  have p4:=Z (p5.o i1.o);clear g0 g1 g2 g3 g4 g5 g6 g7 b0 b1 b2 b3 b4 b5 b6 b7;obtain⟨b0,b1,b2,b3,b4,b5,b6,b7,g0,g1,g2,g3,g4,g5,g6,g7⟩:=f4;have c8:=Z a9;clear a9 a4;generalize Ver.rI ⟨node,y,D,G,J,L,c,B⟩ ⟨xn,xs,x0,x1,x2,x3,xv,xg⟩=o at d9 b8;go_wp2_with fail
  go_region_held3 (fun d=>d.cell? (Y b 0)=some (I node)/\d.cell? (Y b 1)=some (I y)/\d.cell? (Y b 2)=some (I D)/\d.cell? (Y b 3)=some (I G)/\d.cell? (Y b 4)=some (I J)/\d.cell? (Y b 5)=some (I L)/\d.cell? (Y b 6)=some (.string c)/\d.cell? (Y b 7)=some (.bool B)/\d.cell? (Y g (i*8))=some (I xn)/\d.cell? (Y g (i*8+1))=some (I xs)/\d.cell? (Y g (i*8+2))=some (I x0)/\d.cell? (Y g (i*8+3))=some (I x1)/\d.cell? (Y g (i*8+4))=some (I x2)/\d.cell? (Y g (i*8+5))=some (I x3)/\d.cell? (Y g (i*8+6))=some (.string xv)/\d.cell? (Y g (i*8+7))=some (.bool xg)) (first|assumption|go_keep|exact T.o _ (c8.o.trans zd))
   (first|(go_at_call 159;refine(d9.o _).mono ?_;rintro e w3 ⟨rfl,l2⟩;have l3:Fr Nil w1 w3:=c8.o.trans (Fr.trans zd l2);have r0:=T.o w3 l3))
  have n2:=Z l3;clear r0 l3 l2;cases o with
  | true =>
   rw[Bl rfl,Bz] at b8
   go_wp2
   exact⟨⟨i+1,V,by go_num,by rw[b8.o],p4.o,n2.o⟩,by simp[intOf];omega⟩
  | false =>
   rw[CW O] at b8
   go_wp2
   exact⟨⟨i+1,V,by go_num,by rw[b8.o,CN,CQ];go_num,p4.o,n2.o⟩,by simp[intOf];omega⟩):p:=h
theorem Hp(h:p:=by
 clear b0 b1 b2 b3 b4 b5 b6 b7 g0 g1 g2 g3 g4 g5 g6 g7
 go_wp2
 exact⟨⟨i+1,V,by go_num,by rw[C.o];simp[Yz],by rw[C.o];simpa [Yz] using d8.o,e0.o,c9.o,by rw[C.o];simp[Yz];omega⟩,by simp[intOf];omega⟩):p:=h
theorem KT(h:p:=by
 go_wp2_with fail
 go_region_held3 (fun d=>d.cell? (Y b 0)=some (I node)/\d.cell? (Y b 1)=some (I y)/\d.cell? (Y b 2)=some (I D)/\d.cell? (Y b 3)=some (I G)/\d.cell? (Y b 4)=some (I J)/\d.cell? (Y b 5)=some (I L)/\d.cell? (Y b 6)=some (.string c)/\d.cell? (Y b 7)=some (.bool false)/\d.cell? (Y g (i*8))=some (I xn)/\d.cell? (Y g (i*8+1))=some (I xs)/\d.cell? (Y g (i*8+2))=some (I x0)/\d.cell? (Y g (i*8+3))=some (I x1)/\d.cell? (Y g (i*8+4))=some (I x2)/\d.cell? (Y g (i*8+5))=some (I x3)/\d.cell? (Y g (i*8+6))=some (.string xv)/\d.cell? (Y g (i*8+7))=some (.bool xg)) (first|assumption|go_keep|exact T.o _ (c8.o.trans zd))
  (first|(go_at_call 159;refine(d9.o _).mono ?_;rintro e w5 ⟨rfl,a1⟩;have a6:Fr Nil w1 w5:=c8.o.trans (Fr.trans zd a1);have f5:=T.o w5 a6))
 have d8:=Z (VRow.fr g9.o (Fr.trans zd a1:Fr Nil w2 w5) (fun _ _=>id));have c9:=Z a6;clear a6 a1;obtain⟨b0,b1,b2,b3,b4,b5,b6,b7,g0,g1,g2,g3,g4,g5,g6,g7⟩:=f5;cases o with
 | true =>
  exact Hp
 | false =>
  go_wp2_with (at_builtin;go_must (refine zm rfl _ _ _ _ rfl _ _ bH bH (Yt w5 _ _ d8.o ⟨xn,xs,x0,x1,x2,x3,xv,xg⟩ e5 _ zd _ am _) ?_;rintro v6 w6 ⟨f1,e8,e9⟩))
  refine⟨⟨i+1,?_,?_,?_,?_,?_,?_,?_⟩,?_⟩
  .omega
  .go_num
  .rw[C.o];simp[Yz]
  .rw[C.o];simpa [Yz] using f1
  .exact fun k hk=>(e9 k hk).elim (e0.o k) (fun h=>CO c9.o.size h)
  .exact c9.o.tk e8 (fun k hk e=>by have:=(e0.o) k e;omega)
  .rw[C.o];simp[Yz];omega
  .simp[intOf];omega):p:=h
theorem KU(h:p:=by
 go_wp2_with fail
 go_region_held3 (fun d=>d.cell? (Y b 0)=some (I node)/\d.cell? (Y b 1)=some (I y)/\d.cell? (Y b 2)=some (I D)/\d.cell? (Y b 3)=some (I G)/\d.cell? (Y b 4)=some (I J)/\d.cell? (Y b 5)=some (I L)/\d.cell? (Y b 6)=some (.string c)/\d.cell? (Y b 7)=some (.bool true)/\d.cell? (Y g (i*8))=some (I xn)/\d.cell? (Y g (i*8+1))=some (I xs)/\d.cell? (Y g (i*8+2))=some (I x0)/\d.cell? (Y g (i*8+3))=some (I x1)/\d.cell? (Y g (i*8+4))=some (I x2)/\d.cell? (Y g (i*8+5))=some (I x3)/\d.cell? (Y g (i*8+6))=some (.string xv)/\d.cell? (Y g (i*8+7))=some (.bool xg)) (first|assumption|go_keep|exact T.o _ (c8.o.trans zd))
  (first|(go_at_call 159;refine(d9.o _).mono ?_;rintro e w5 ⟨rfl,a1⟩;have a6:Fr Nil w1 w5:=c8.o.trans (Fr.trans zd a1);have f5:=T.o w5 a6))
 have d8:=Z (VRow.fr g9.o (Fr.trans zd a1:Fr Nil w2 w5) (fun _ _=>id));have c9:=Z a6;clear a6 a1;obtain⟨b0,b1,b2,b3,b4,b5,b6,b7,g0,g1,g2,g3,g4,g5,g6,g7⟩:=f5;cases o with
 | true =>
  exact Hp
 | false =>
  go_wp2_with (at_builtin;go_must (refine zm rfl _ _ _ _ rfl _ _ bH bH (Yt w5 _ _ d8.o ⟨xn,xs,x0,x1,x2,x3,xv,xg⟩ e5 _ zd _ am _) ?_;rintro v6 w6 ⟨f1,e8,e9⟩))
  refine⟨⟨i+1,?_,?_,?_,?_,?_,?_,?_⟩,?_⟩
  .omega
  .go_num
  .rw[C.o];simp[Yz]
  .rw[C.o];simpa [Yz] using f1
  .exact fun k hk=>(e9 k hk).elim (e0.o k) (fun h=>CO c9.o.size h)
  .exact c9.o.tk e8 (fun k hk e=>by have:=(e0.o) k e;omega)
  .rw[C.o];simp[Yz];omega
  .simp[intOf];omega):p:=h
theorem ED(h:p:=by
 have d8:=Z (VRow.fr p8.o (Fr.trans zd a1:Fr Nil w4 w5) (fun _ _=>id));have c9:=Z a6;clear a6 a1;obtain⟨b0,b1,b2,b3,b4,b5,b6,b7,g0,g1,g2,g3,g4,g5,g6,g7⟩:=f5;cases o with
 | true =>
  clear b0 b1 b2 b3 b4 b5 b6 b7 g0 g1 g2 g3 g4 g5 g6 g7
  go_wp2
  exact⟨⟨i+1,V,by go_num,by rw[C.o];simp[Yz],by rw[C.o];simpa [Yz] using d8.o,k3.o,c9.o,by rw[C.o];simp[Yz];omega⟩,by simp[intOf];omega⟩
 | false =>
  go_wp2_with (at_builtin;go_must (refine zm rfl _ _ _ _ rfl _ _ bH bH (Yt w5 _ _ d8.o ⟨xn,xs,x0,x1,x2,x3,xv,xg⟩ ar _ zd _ am _) ?_;rintro v6 w6 ⟨f1,e8,e9⟩))
  refine⟨⟨i+1,?_,?_,?_,?_,?_,?_,?_⟩,?_⟩
  .omega
  .go_num
  .rw[C.o];simp[Yz]
  .rw[C.o];simpa [Yz] using f1
  .exact fun k hk=>(e9 k hk).elim (k3.o k) (fun h=>CO c9.o.size h)
  .exact c9.o.tk e8 (fun k hk e=>by have:=(k3.o) k e;omega)
  .rw[C.o];simp[Yz];omega
  .simp[intOf];omega):p:=h
theorem Hq(h:p:=by
 clear a8 b0 b1 b2 b3 b4 b5 b6 b7;go_wp2_with fail;refine(i7.o wr X.o _ a3 i0.o e0.o).mono ?_;rintro e w9 ⟨nb,rfl,h1,h2,h3⟩;have H1:=Z h1;clear h1
 go_wp2
 go_ret2;exact .inr (.inr ⟨by rw[h0.o];exact HW.o,nb,rfl,by unfold LM.se;rw[h0.o,f8.o];exact H1.o,h2,by first|exact h3|(rw[<- o4.o];exact h3)⟩)):p:=h
theorem Hr(h:p:=by
 rintro e w9 ⟨nb,rfl,h1,h2,h3⟩;have H1:=Z h1;clear h1
 go_wp2
 go_ret2;exact .inr (.inr ⟨by rw[h0.o];exact HW.o,nb,rfl,by unfold LM.se;rw[h0.o,f8.o];exact H1.o,h2,by first|exact h3|(rw[<- o4.o];exact h3)⟩)):p:=h
theorem Ll(h:p:=by
 rw[List.any_eq_false];intro x hx;obtain⟨j,l5,rfl⟩:=AP hx;rw[hj j l5 V]
 decide):p:=h
theorem Dd(h:p:=by
 go_region_held3 (fun d=>d.cell? (Y b 0)=some (I node)/\d.cell? (Y b 1)=some (I y)/\d.cell? (Y b 2)=some (I D)/\d.cell? (Y b 3)=some (I G)/\d.cell? (Y b 4)=some (I J)/\d.cell? (Y b 5)=some (I L)/\d.cell? (Y b 6)=some (.string c)/\d.cell? (Y b 7)=some (.bool true)/\d.cell? (Y g (i*8))=some (I xn)/\d.cell? (Y g (i*8+1))=some (I xs)/\d.cell? (Y g (i*8+2))=some (I x0)/\d.cell? (Y g (i*8+3))=some (I x1)/\d.cell? (Y g (i*8+4))=some (I x2)/\d.cell? (Y g (i*8+5))=some (I x3)/\d.cell? (Y g (i*8+6))=some (.string xv)/\d.cell? (Y g (i*8+7))=some (.bool xg)) (first|assumption|go_keep|exact T.o _ (i8.o.trans zd))
  (first|(go_at_call 159;refine(d9.o _).mono ?_;rintro e w5 ⟨rfl,a1⟩;have a6:Fr Nil w1 w5:=i8.o.trans (Fr.trans zd a1);have f5:=T.o w5 a6))
 exact ED):p:=h
theorem De(h:p:=by
 go_region_held3 (fun d=>d.cell? (Y b 0)=some (I node)/\d.cell? (Y b 1)=some (I y)/\d.cell? (Y b 2)=some (I D)/\d.cell? (Y b 3)=some (I G)/\d.cell? (Y b 4)=some (I J)/\d.cell? (Y b 5)=some (I L)/\d.cell? (Y b 6)=some (.string c)/\d.cell? (Y b 7)=some (.bool false)/\d.cell? (Y g (i*8))=some (I xn)/\d.cell? (Y g (i*8+1))=some (I xs)/\d.cell? (Y g (i*8+2))=some (I x0)/\d.cell? (Y g (i*8+3))=some (I x1)/\d.cell? (Y g (i*8+4))=some (I x2)/\d.cell? (Y g (i*8+5))=some (I x3)/\d.cell? (Y g (i*8+6))=some (.string xv)/\d.cell? (Y g (i*8+7))=some (.bool xg)) (first|assumption|go_keep|exact T.o _ (i8.o.trans zd))
  (first|(go_at_call 159;refine(d9.o _).mono ?_;rintro e w5 ⟨rfl,a1⟩;have a6:Fr Nil w1 w5:=i8.o.trans (Fr.trans zd a1);have f5:=T.o w5 a6))
 exact ED):p:=h
theorem Lm(h:p:=by
 have l4:Fr Nil w1 w4:=c8.o.tk j9 (fun k hk e=>by have:=e0.o k e;omega);have k3:aa (∀ k,v4.ownBlock=some k->w1.heap.size<=k):=Z (fun k hk=>(o8 k hk).elim (e0.o k) (fun h=>CO c8.o.size h));have p8:=Z l8;have i8:=Z l4;obtain⟨c0,c1,c2,c3,c4,c5,c6,c7,d0,d1,d2,d3,d4,d5,d6,d7⟩:=T.o w4 l4;subst n1;clear l8 j9 o8 l4;clear b0 b1 b2 b3 b4 b5 b6 b7 g0 g1 g2 g3 g4 g5 g6 g7;go_wp2_with fail
 first
  | (clear r1;exact De)
  | exact Dd):p:=h
theorem Df(h:p:=by
 have C:aa ((A.take (i+1)).foldl (zN ⟨node,y,D,G,J,L,c,true⟩) ([],true)=Yz a3 ⟨node,y,D,G,J,L,c,true⟩ ⟨xn,xs,x0,x1,x2,x3,xv,xg⟩ done (zD (node,y) (xn,xs)) (Ver.rI ⟨node,y,D,G,J,L,c,true⟩ ⟨xn,xs,x0,x1,x2,x3,xv,xg⟩)):=C;have T:aa (∀ M,Fr Nil w1 M->(fun d=>d.cell? (Y b 0)=some (I node)/\d.cell? (Y b 1)=some (I y)/\d.cell? (Y b 2)=some (I D)/\d.cell? (Y b 3)=some (I G)/\d.cell? (Y b 4)=some (I J)/\d.cell? (Y b 5)=some (I L)/\d.cell? (Y b 6)=some (.string c)/\d.cell? (Y b 7)=some (.bool true)/\d.cell? (Y g (i*8))=some (I xn)/\d.cell? (Y g (i*8+1))=some (I xs)/\d.cell? (Y g (i*8+2))=some (I x0)/\d.cell? (Y g (i*8+3))=some (I x1)/\d.cell? (Y g (i*8+4))=some (I x2)/\d.cell? (Y g (i*8+5))=some (I x3)/\d.cell? (Y g (i*8+6))=some (.string xv)/\d.cell? (Y g (i*8+7))=some (.bool xg)) M):=fun M f=>⟨a0.o M f 0,a0.o M f 1,a0.o M f 2,a0.o M f 3,a0.o M f 4,a0.o M f 5,a0.o M f 6,a0.o M f 7,Q.o M f 0 V,Q.o M f 1 V,Q.o M f 2 V,Q.o M f 3 V,Q.o M f 4 V,Q.o M f 5 V,Q.o M f 6 V,Q.o M f 7 V⟩;obtain⟨b0,b1,b2,b3,b4,b5,b6,b7,g0,g1,g2,g3,g4,g5,g6,g7⟩:=T.o wr X.o;generalize zD (node,y) (xn,xs)=fb at m5 C;generalize Ver.rI ⟨node,y,D,G,J,L,c,true⟩ ⟨xn,xs,x0,x1,x2,x3,xv,xg⟩=o at d9 C;go_wp2_with fail
 go_region_held3 (fun d=>d.cell? (Y b 0)=some (I node)/\d.cell? (Y b 1)=some (I y)/\d.cell? (Y b 2)=some (I D)/\d.cell? (Y b 3)=some (I G)/\d.cell? (Y b 4)=some (I J)/\d.cell? (Y b 5)=some (I L)/\d.cell? (Y b 6)=some (.string c)/\d.cell? (Y b 7)=some (.bool true)/\d.cell? (Y g (i*8))=some (I xn)/\d.cell? (Y g (i*8+1))=some (I xs)/\d.cell? (Y g (i*8+2))=some (I x0)/\d.cell? (Y g (i*8+3))=some (I x1)/\d.cell? (Y g (i*8+4))=some (I x2)/\d.cell? (Y g (i*8+5))=some (I x3)/\d.cell? (Y g (i*8+6))=some (.string xv)/\d.cell? (Y g (i*8+7))=some (.bool xg)) (first|assumption|go_keep|exact T.o _ (X.o.trans zd))
  (first|(go_at_call 160;refine(m5.o _).mono ?_;rintro e w2 ⟨rfl,a4⟩;have a9:Fr Nil w1 w2:=X.o.trans (Fr.trans zd a4);have f4:=T.o w2 a9))
 have g9:=Z (VRow.fr i0.o (Fr.trans zd a4:Fr Nil wr w2) (fun _ _=>id));have c8:=Z a9;clear a9 a4 b0 b1 b2 b3 b4 b5 b6 b7 g0 g1 g2 g3 g4 g5 g6 g7;obtain⟨b0,b1,b2,b3,b4,b5,b6,b7,g0,g1,g2,g3,g4,g5,g6,g7⟩:=f4;cases done with
 | true =>
  cases fb with
  | false =>
   exact KU
  | true =>
   exact KU
 | false =>
  cases fb with
  | false =>
   exact KU
  | true =>
   go_wp2_with (at_builtin;go_must (refine zm rfl _ _ _ _ rfl _ _ bH bH (Yt w2 _ _ g9.o ⟨node,y,D,G,J,L,c,true⟩ e5 _ zd _ am _) ?_;rintro v4 w4 ⟨l8,j9,o8⟩))
   obtain⟨s2,s3,n1⟩:=zf (show w4.ownsRow 0 37 8 v4 (a3++[(⟨node,y,D,G,J,L,c,true⟩:Ver)]).length (zS (a3++[(⟨node,y,D,G,J,L,c,true⟩:Ver)])) from l8);rw[show(a3++[(⟨node,y,D,G,J,L,c,true⟩:Ver)]).length=a3.length+1 from by simp] at n1;exact Lm):p:=h
theorem Dg(h:p:=by
 have C:aa ((A.take (i+1)).foldl (zN ⟨node,y,D,G,J,L,c,false⟩) ([],false)=Yz a3 ⟨node,y,D,G,J,L,c,false⟩ ⟨xn,xs,x0,x1,x2,x3,xv,xg⟩ done (zD (node,y) (xn,xs)) (Ver.rI ⟨node,y,D,G,J,L,c,false⟩ ⟨xn,xs,x0,x1,x2,x3,xv,xg⟩)):=C;have T:aa (∀ M,Fr Nil w1 M->(fun d=>d.cell? (Y b 0)=some (I node)/\d.cell? (Y b 1)=some (I y)/\d.cell? (Y b 2)=some (I D)/\d.cell? (Y b 3)=some (I G)/\d.cell? (Y b 4)=some (I J)/\d.cell? (Y b 5)=some (I L)/\d.cell? (Y b 6)=some (.string c)/\d.cell? (Y b 7)=some (.bool false)/\d.cell? (Y g (i*8))=some (I xn)/\d.cell? (Y g (i*8+1))=some (I xs)/\d.cell? (Y g (i*8+2))=some (I x0)/\d.cell? (Y g (i*8+3))=some (I x1)/\d.cell? (Y g (i*8+4))=some (I x2)/\d.cell? (Y g (i*8+5))=some (I x3)/\d.cell? (Y g (i*8+6))=some (.string xv)/\d.cell? (Y g (i*8+7))=some (.bool xg)) M):=fun M f=>⟨a0.o M f 0,a0.o M f 1,a0.o M f 2,a0.o M f 3,a0.o M f 4,a0.o M f 5,a0.o M f 6,a0.o M f 7,Q.o M f 0 V,Q.o M f 1 V,Q.o M f 2 V,Q.o M f 3 V,Q.o M f 4 V,Q.o M f 5 V,Q.o M f 6 V,Q.o M f 7 V⟩;obtain⟨b0,b1,b2,b3,b4,b5,b6,b7,g0,g1,g2,g3,g4,g5,g6,g7⟩:=T.o wr X.o;generalize zD (node,y) (xn,xs)=fb at m5 C;generalize Ver.rI ⟨node,y,D,G,J,L,c,false⟩ ⟨xn,xs,x0,x1,x2,x3,xv,xg⟩=o at d9 C;go_wp2_with fail
 go_region_held3 (fun d=>d.cell? (Y b 0)=some (I node)/\d.cell? (Y b 1)=some (I y)/\d.cell? (Y b 2)=some (I D)/\d.cell? (Y b 3)=some (I G)/\d.cell? (Y b 4)=some (I J)/\d.cell? (Y b 5)=some (I L)/\d.cell? (Y b 6)=some (.string c)/\d.cell? (Y b 7)=some (.bool false)/\d.cell? (Y g (i*8))=some (I xn)/\d.cell? (Y g (i*8+1))=some (I xs)/\d.cell? (Y g (i*8+2))=some (I x0)/\d.cell? (Y g (i*8+3))=some (I x1)/\d.cell? (Y g (i*8+4))=some (I x2)/\d.cell? (Y g (i*8+5))=some (I x3)/\d.cell? (Y g (i*8+6))=some (.string xv)/\d.cell? (Y g (i*8+7))=some (.bool xg)) (first|assumption|go_keep|exact T.o _ (X.o.trans zd))
  (first|(go_at_call 160;refine(m5.o _).mono ?_;rintro e w2 ⟨rfl,a4⟩;have a9:Fr Nil w1 w2:=X.o.trans (Fr.trans zd a4);have f4:=T.o w2 a9))
 have g9:=Z (VRow.fr i0.o (Fr.trans zd a4:Fr Nil wr w2) (fun _ _=>id));have c8:=Z a9;clear a9 a4 b0 b1 b2 b3 b4 b5 b6 b7 g0 g1 g2 g3 g4 g5 g6 g7;obtain⟨b0,b1,b2,b3,b4,b5,b6,b7,g0,g1,g2,g3,g4,g5,g6,g7⟩:=f4;cases done with
 | true =>
  cases fb with
  | false =>
   exact KT
  | true =>
   exact KT
 | false =>
  cases fb with
  | false =>
   exact KT
  | true =>
   go_wp2_with (at_builtin;go_must (refine zm rfl _ _ _ _ rfl _ _ bH bH (Yt w2 _ _ g9.o ⟨node,y,D,G,J,L,c,false⟩ e5 _ zd _ am _) ?_;rintro v4 w4 ⟨l8,j9,o8⟩))
   obtain⟨s2,s3,n1⟩:=zf (show w4.ownsRow 0 37 8 v4 (a3++[(⟨node,y,D,G,J,L,c,false⟩:Ver)]).length (zS (a3++[(⟨node,y,D,G,J,L,c,false⟩:Ver)])) from l8);rw[show(a3++[(⟨node,y,D,G,J,L,c,false⟩:Ver)]).length=a3.length+1 from by simp] at n1;have r1:=0;exact Lm):p:=h
theorem Ln(h:p:=by
 obtain⟨a3,done⟩:=st;simp only at a7 f2 |-;obtain⟨ta,tc,rfl⟩:=zf a7;have i0:=Z a7;have e0:=Z i4;have X:=Z hf;have e5:a3.length<1000000:=V
 clear hx a7 i4 hf a2;generalize A[i]=x at Q C d9;obtain⟨xn,xs,x0,x1,x2,x3,xv,xg⟩:=x;have m5:=Z (fun W=>PX node y xn xs W);simp only[Ver.cells] at Q a0 d9
 first
  | (clear r2;exact Dg)
  | exact Df):p:=h
theorem Dh(h:p:=by
 have a0:aa (∀ M,Fr Nil w1 M->∀ j,M.cell? (Y b j)=(Ver.cells ⟨node,y,D,G,J,L,c,false⟩)[j]?):=fun M f j=>(i2.o.fr f id).cell j;have hx:=m6.o A[i] (CU a5);have C:aa ((A.take (i+1)).foldl (zN ⟨node,y,D,G,J,L,c,false⟩) ([],false)=zN ⟨node,y,D,G,J,L,c,false⟩ ((A.take i).foldl (zN ⟨node,y,D,G,J,L,c,false⟩) ([],false)) A[i]):=Z (by rw[Bp a5,BM];rfl);have d9:=Z (fun W=>j8.o ⟨node,y,D,G,J,L,c,false⟩ A[i] W hx);generalize ((A.take i).foldl (zN ⟨node,y,D,G,J,L,c,false⟩) ([],false))=st at a7 f2 C |-;have r2:=0;exact Ln):p:=h
theorem Di(h:p:=by
 have a0:aa (∀ M,Fr Nil w1 M->∀ j,M.cell? (Y b j)=(Ver.cells ⟨node,y,D,G,J,L,c,B⟩)[j]?):=fun M f j=>(i2.o.fr f id).cell j;have hx:=m6.o A[i] (CU a5);have b8:=Z (h7.o A i a5);have p5:aa ((Ver.sP ⟨node,y,D,G,J,L,c,B⟩) A[i]=false->∀ j (hj:j<A.length),j<i+1->(Ver.sP ⟨node,y,D,G,J,L,c,B⟩) A[j]=false):=by
  intro hk j l5 t2;by_cases e:j=i
  .subst e;exact hk
  .exact hj j l5 V
 have e6:aa ((Ver.sP ⟨node,y,D,G,J,L,c,B⟩) A[i]=true->A.any (Ver.sP ⟨node,y,D,G,J,L,c,B⟩)=true):=fun hk=>wk.2 ⟨A[i],CU a5,hk⟩;have f9:=Z (p6.o A[i]);have HX:=Z hx;have X:=Z hf;have q5:(zC (A.take i) ⟨node,y,D,G,J,L,c,B⟩).length<100000:=by have:=VB (A.take i) ⟨node,y,D,G,J,L,c,B⟩;have:=List.length_take_le' i A;omega
 have h8:=Z (fun W=>j8.o A[i] ⟨node,y,D,G,J,L,c,B⟩ W HV.o);have d9:=Z (fun W=>j8.o ⟨node,y,D,G,J,L,c,B⟩ A[i] W hx);clear hj hx hf;generalize A[i]=x at Q b8 p5 e6 f9 HX h8 d9;obtain⟨xn,xs,x0,x1,x2,x3,xv,xg⟩:=x;simp only[Ver.cells] at Q a0 h8 d9 f9 a2;have g0:=Q.o wr X.o 0 V;have g1:=Q.o wr X.o 1 V;have g2:=Q.o wr X.o 2 V;have g3:=Q.o wr X.o 3 V;have g4:=Q.o wr X.o 4 V;have g5:=Q.o wr X.o 5 V;have g6:=Q.o wr X.o 6 V;have g7:=Q.o wr X.o 7 V;simp only[AM,Ax,AK] at g0 g1 g2 g3 g4 g5 g6 g7;have T:aa (∀ M,Fr Nil w1 M->(fun d=>d.cell? (Y b 0)=some (I node)/\d.cell? (Y b 1)=some (I y)/\d.cell? (Y b 2)=some (I D)/\d.cell? (Y b 3)=some (I G)/\d.cell? (Y b 4)=some (I J)/\d.cell? (Y b 5)=some (I L)/\d.cell? (Y b 6)=some (.string c)/\d.cell? (Y b 7)=some (.bool B)/\d.cell? (Y g (i*8))=some (I xn)/\d.cell? (Y g (i*8+1))=some (I xs)/\d.cell? (Y g (i*8+2))=some (I x0)/\d.cell? (Y g (i*8+3))=some (I x1)/\d.cell? (Y g (i*8+4))=some (I x2)/\d.cell? (Y g (i*8+5))=some (I x3)/\d.cell? (Y g (i*8+6))=some (.string xv)/\d.cell? (Y g (i*8+7))=some (.bool xg)) M):=fun M f=>⟨a0.o M f 0,a0.o M f 1,a0.o M f 2,a0.o M f 3,a0.o M f 4,a0.o M f 5,a0.o M f 6,a0.o M f 7,Q.o M f 0 V,Q.o M f 1 V,Q.o M f 2 V,Q.o M f 3 V,Q.o M f 4 V,Q.o M f 5 V,Q.o M f 6 V,Q.o M f 7 V⟩;clear g0 g1 g2 g3 g4 g5 g6 g7 a2;obtain⟨b0,b1,b2,b3,b4,b5,b6,b7,g0,g1,g2,g3,g4,g5,g6,g7⟩:=T.o wr X.o;by_cases h5:xn=node
 .by_cases hs1:xs=y
  .have n8:=Z (e6.o (by rw[f9.o];simp[h5,hs1]))
   have e1:(xn==node)=true:=by simp[h5]
   have e2:(xs==y)=true:=by simp[hs1]
   clear h5 hs1;generalize Ver.rI ⟨xn,xs,x0,x1,x2,x3,xv,xg⟩ ⟨node,y,D,G,J,L,c,B⟩=u at h8 f9;have HW:aa (Zv A ⟨node,y,D,G,J,L,c,B⟩=0):=Z (by rw[j0.o,Bl n8.o]);go_wp2_with fail
   go_quiet (fail)
   go_wp2_with fail
   go_region_held3 (fun d=>d.cell? (Y b 0)=some (I node)/\d.cell? (Y b 1)=some (I y)/\d.cell? (Y b 2)=some (I D)/\d.cell? (Y b 3)=some (I G)/\d.cell? (Y b 4)=some (I J)/\d.cell? (Y b 5)=some (I L)/\d.cell? (Y b 6)=some (.string c)/\d.cell? (Y b 7)=some (.bool B)/\d.cell? (Y g (i*8))=some (I xn)/\d.cell? (Y g (i*8+1))=some (I xs)/\d.cell? (Y g (i*8+2))=some (I x0)/\d.cell? (Y g (i*8+3))=some (I x1)/\d.cell? (Y g (i*8+4))=some (I x2)/\d.cell? (Y g (i*8+5))=some (I x3)/\d.cell? (Y g (i*8+6))=some (.string xv)/\d.cell? (Y g (i*8+7))=some (.bool xg)) (first|assumption|go_keep|exact T.o _ ((X.o.drewN _).trans zd))
    (first|(go_at_call 159;refine(h8.o _).mono ?_;rintro e w2 ⟨rfl,r7⟩;have n4:Fr Nil wr w2:=Fr.trans zd r7;have t6:=T.o w2 (X.o.trans n4)))
   have h6:aa (Fr Nil w w2):=f6.o.trans (X.o.trans (Fr.trans zd n4))
   go_wp2
   go_ret2;exact .inl ⟨by rw[h0.o];exact HW.o,rfl,h6.o⟩
  .have e1:(xn==node)=true:=by simp[h5]
   have e2:(xs==y)=false:=by simp[hs1]
   generalize Ver.rI ⟨xn,xs,x0,x1,x2,x3,xv,xg⟩ ⟨node,y,D,G,J,L,c,B⟩=u at h8 f9;have i1:aa (Ver.sP ⟨node,y,D,G,J,L,c,B⟩ ⟨xn,xs,x0,x1,x2,x3,xv,xg⟩=u):=Z (by rw[f9.o];simp[hs1]);clear hs1 h5;exact EC
 .have e1:(xn==node)=false:=by simp[h5]
  generalize Ver.rI ⟨xn,xs,x0,x1,x2,x3,xv,xg⟩ ⟨node,y,D,G,J,L,c,B⟩=u at h8 f9;have i1:aa (Ver.sP ⟨node,y,D,G,J,L,c,B⟩ ⟨xn,xs,x0,x1,x2,x3,xv,xg⟩=u):=Z (by rw[f9.o];simp[h5]);clear h5;exact EC):p:=h
theorem Lo(h:p:=by
 obtain⟨g,rfl⟩:∃ g,va=some (Y g 0):=by
  obtain⟨g,cap,h,_⟩:=zl g8.o V;simp at h;exact⟨g,h.1⟩
 have Q:aa (∀ M,Fr Nil w1 M->∀ j,j<8->M.cell? (Y g (i*8+j))=A[i].cells[j]?):=fun M f j o7=>VRow.cells (ze g8.o f (fun _ _=>id)) i a5 j o7
 first
  | (clear mk22;exact Di)
  | exact Dh):p:=h
theorem QX(K:Nat->Prop)(p:Nat)(m:LM)(key:ByteArray)(v:Ver)(w:World)(h:MRep K w p m)(n5:m.uR.length<100000000)(b9:∀ u∈zJ m.uR key,zW u.node)(hv:zW v.node)(q7:(zJ m.uR key).length<100000) :
 Calls prog 112 #[E p 0,.string key,.agg v.cells.toArray] w fun e d =>
  (Zv (zJ m.uR key) v=0/\e=.returned (.tuple #[E p 0,I 0])/\Fr Nil w d) \/
  (Zv (zJ m.uR key) v=1/\e=.returned (.tuple #[.pointer none,I 6])/\Fr Nil w d) \/
  (Zv (zJ m.uR key) v=2/\∃ nb,e=.returned (.tuple #[E nb 0,I 0])/\MRep (KGr K w d) d nb (m.se key v)/\Fr Nil w d/\w.heap.size<=nb):=by
 obtain⟨kv,p0,k5,ha,hb⟩:=h;have l0:=Blk.new w v.cells 37;have f0:Fr Nil w (w.alloc (.cells v.cells.toArray 37)):=(U _ _).alloc _;have HA:=Z ha;have HB:=Z hb;have m6:=Z b9;have HV:=Z hv;have j8:aa (∀ (a u:Ver) (W:World),zW u.node->Calls prog 159 #[.agg a.cells.toArray,.agg u.cells.toArray] W fun e d=>e=.returned (.bool (a.rI u))/\Fr Nil W d):=fun a u W hu=>TU a u hu W;have j0:aa (Zv (zJ m.uR key) v=if (zJ m.uR key).any v.sP=true then 0 else if v.ts=false/\4<=(zC (zJ m.uR key) v).length then 1 else if v.ts=true/\(zC (zJ m.uR key) v).length=(zJ m.uR key).length then 0 else 2):=rfl;have p2:aa (m.se key v={m with uR:=Z4 m.uR key (WO (zJ m.uR key) v)}):=rfl;have h7:aa (∀ (l:List Ver) i (hi:i<l.length),zC (l.take (i+1)) v=zC (l.take i) v++if v.rI l[i]=true then [] else [l[i]]):=by
  intro l i hi;exact La
 have p6:aa (∀ u:Ver,v.sP u=((u.node==v.node&&u.seq==v.seq)||u.rI v)):=fun u=>rfl;clear ha hb b9 hv;generalize q9:w.alloc (.cells v.cells.toArray 37)=wb at l0 f0;generalize q6:w.heap.size=b at l0;have p9:=Z q9;have o4:=Z q6;clear q9 q6;have i2:=Z l0;have f6:=Z f0;have s7:=l0.lt;clear l0 f0;obtain⟨node,y,D,G,J,L,c,B⟩:=v;simp only[Ver.cells] at i2 p9 |-;go_enter func112,ntmps112;go_wp2_with fail;rw[p9.o,o4.o];refine(Yx p kv p0 k5 m key wb (HA.o.nil f6.o)).mono ?_;rintro e w1 ⟨ov,rfl,j2,q8,s0⟩;subst s0;have hn:=zH j2;unfold maxLen at hn;obtain⟨va,vc,rfl⟩:=zf j2;have g8:=Z j2;generalize j3:zJ m.uR key=A at hn q7 g8 m6 j0 p2 |-;have h0:=Z j3;clear j3;clear j2 q8;go_wp2_with fail
 go_loopw [9,10] (fun t9 i5 d=>∃ i:Nat,i<=A.length/\i5=I i/\t9=I (zC (A.take i) ⟨node,y,D,G,J,L,c,B⟩).length/\(∀ j (hj:j<A.length),j<i->(Ver.sP ⟨node,y,D,G,J,L,c,B⟩) A[j]=false)/\Fr Nil w1 d) (fun _ i5 _=>A.length-(intOf i5).toNat)
 case atStart=>exact⟨0,Bg _,rfl,rfl,fun j _ hj=>absurd hj (BF _),U _ _⟩
 case round =>
  obtain⟨i,hi,rfl,rfl,hj,hf⟩:=hrel;have a2:=(i2.o.fr hf id).cell;by_cases a5:i<A.length
  .have mk22:=0
   exact Lo
  .obtain rfl:i=A.length:=V
   have e3:A.any (Ver.sP ⟨node,y,D,G,J,L,c,B⟩)=false:=by
    exact Ll
   have k4:aa (Zv A ⟨node,y,D,G,J,L,c,B⟩=if B=false/\4<=(zC A ⟨node,y,D,G,J,L,c,B⟩).length then 1 else if B=true/\(zC A ⟨node,y,D,G,J,L,c,B⟩).length=A.length then 0 else 2):=Z (by rw[j0.o,CW (by rw[e3];decide)]);have s4:aa (∀ u∈A,u.rj≠Ver.rj ⟨node,y,D,G,J,L,c,B⟩):=by
    intro u hu he;have:=List.any_eq_false.1 e3 u hu;rw[p6.o] at this;simp only[Ver.rj,Ak] at he;simp[he.1,he.2] at this
   rw[Bj];have q5:(zC A ⟨node,y,D,G,J,L,c,B⟩).length<=A.length:=VB A ⟨node,y,D,G,J,L,c,B⟩;generalize hL:(zC A ⟨node,y,D,G,J,L,c,B⟩).length=n at k4 q5 |-;have HL:=Z hL;have X:=Z hf;clear e3 hj hL hf;have t1:wr.cell? (Y b 7)=some (.bool B):=a2 7;cases B with
   | false =>
    by_cases hm:4<=n
    .have l7:(4:Int)<=(n:Int):=V
     have HW:aa (Zv A ⟨node,y,D,G,J,L,c,false⟩=1):=Z (by rw[k4.o,Bl ⟨rfl,hm⟩]);have h6:aa (Fr Nil w wr):=f6.o.trans X.o;clear hm
     go_wp2
     go_ret2;exact .inr (.inl ⟨by rw[h0.o];exact HW.o,rfl,h6.o⟩)
    .have l7:¬(4:Int)<=(n:Int):=V
     have HW:aa (Zv A ⟨node,y,D,G,J,L,c,false⟩=2):=Z (by rw[k4.o,CW (fun x=>hm x.2),CW (fun x=>absurd x.1 O)]);clear hm;go_wp2_with fail
     go_loopw [14,15,16] (fun m4 p1 i6 d=>∃ i:Nat,i<=A.length/\i6=I i/\p1=.bool ((A.take i).foldl (zN ⟨node,y,D,G,J,L,c,false⟩) ([],false)).2/\VRow d m4 ((A.take i).foldl (zN ⟨node,y,D,G,J,L,c,false⟩) ([],false)).1/\(∀ k,m4.ownBlock=some k->w1.heap.size<=k)/\Fr Nil w1 d/\((A.take i).foldl (zN ⟨node,y,D,G,J,L,c,false⟩) ([],false)).1.length<=2*i) (fun _ _ i6 _=>A.length-(intOf i6).toNat)
     case atStart=>exact⟨0,Bg _,rfl,rfl,Bf _ 0 _ _,fun k hk=>by simp[Value.ownBlock] at hk,X.o,CP _⟩
     case round =>
      obtain⟨i,hi,rfl,rfl,a7,i4,hf,f2⟩:=hrel;have a2:=(i2.o.fr hf id).cell;by_cases a5:i<A.length
      .exact Lo
      .obtain rfl:i=A.length:=V
       rw[Bj] at a7 f2 |-;have a8:WO A ⟨node,y,D,G,J,L,c,false⟩=(A.foldl (zN ⟨node,y,D,G,J,L,c,false⟩) ([],false)).1++if (A.foldl (zN ⟨node,y,D,G,J,L,c,false⟩) ([],false)).2=true then [] else [⟨node,y,D,G,J,L,c,false⟩]:=rfl
       generalize A.foldl (zN ⟨node,y,D,G,J,L,c,false⟩) ([],false)=st at a7 f2 a8 |-;obtain⟨a3,done⟩:=st;simp only at a7 f2 a8 |-;obtain⟨ta,tc,rfl⟩:=zf a7;have i0:=Z a7;have e0:=Z i4;have X:=Z hf;have e5:a3.length<1000000:=V
       clear a7 i4 hf;obtain⟨b0,b1,b2,b3,b4,b5,b6,b7⟩:wr.cell? (Y b 0)=some (I node)/\wr.cell? (Y b 1)=some (I y)/\wr.cell? (Y b 2)=some (I D)/\wr.cell? (Y b 3)=some (I G)/\wr.cell? (Y b 4)=some (I J)/\wr.cell? (Y b 5)=some (I L)/\wr.cell? (Y b 6)=some (.string c)/\wr.cell? (Y b 7)=some (.bool false):=⟨a2 0,a2 1,a2 2,a2 3,a2 4,a2 5,a2 6,a2 7⟩;clear a2;have i7:aa (∀ (M:World) (f:Fr Nil w1 M) (lv:Value) (l:List Ver),VRow M lv l->(∀ k,lv.ownBlock=some k->w1.heap.size<=k)->Calls prog 157 #[E p 0,.string key,lv] M fun e d =>
        ∃ nb,e=.returned (E nb 0)/\MRep (KGr K w d) d nb {m with uR:=Z4 m.uR key l}/\Fr Nil w d/\w.heap.size<=nb):=by
        intro M f lv l hl hk;have f7:=f6.o.trans f;refine(XB (KGr K w M) p m key lv l M (MRep.nil ⟨kv,p0,k5,HA.o,HB.o⟩ f7) hl (fun k l6=>.inr ⟨CO f6.o.size (hk k l6),zF hl l6⟩) n5).mono ?_;rintro e d ⟨nb,rfl,h1,h2,h3⟩;exact⟨nb,rfl,h1.mono (fun k hk=>hk.trans f7.size h2.size),f7.trans h2,CO f7.size h3⟩
       cases done with
       | true =>
        have f8:aa (WO A ⟨node,y,D,G,J,L,c,false⟩=a3):=Z (by rw[a8];simp);exact Hq
       | false =>
        have f8:aa (WO A ⟨node,y,D,G,J,L,c,false⟩=a3++[⟨node,y,D,G,J,L,c,false⟩]):=Z (by rw[a8];simp);clear a8
        go_wp2_with (at_builtin;go_must (refine zm rfl _ _ _ _ rfl _ _ bH bH (Yt wr _ _ i0.o ⟨node,y,D,G,J,L,c,false⟩ e5 _ zd _ am _) ?_;rintro v6 w6 ⟨f1,e8,e9⟩;have h4:Fr Nil w1 w6:=X.o.tk e8 (fun k hk e=>by have:=e0.o k e;omega);have h9:=Z f1;have n9:aa (∀ k,v6.ownBlock=some k->w1.heap.size<=k):=fun k hk=>(e9 k hk).elim (e0.o k) (fun h=>CO X.o.size h);have k1:=Z h4;clear f1 e8 e9 h4 b0 b1 b2 b3 b4 b5 b6 b7))
        refine(i7.o w6 k1.o v6 (a3++[⟨node,y,D,G,J,L,c,false⟩]) h9.o n9.o).mono ?_;exact Hr
   | true =>
    by_cases hm:n=A.length
    .have l7:((n:Int)==(A.length:Int))=true:=by simp[hm]
     have HW:aa (Zv A ⟨node,y,D,G,J,L,c,true⟩=0):=Z (by rw[k4.o,CW (fun x=>absurd x.1 O),Bl ⟨rfl,hm⟩]);have h6:aa (Fr Nil w wr):=f6.o.trans X.o;clear hm
     go_wp2
     go_ret2;exact .inl ⟨by rw[h0.o];exact HW.o,rfl,h6.o⟩
    .have l7:((n:Int)==(A.length:Int))=false:=by simp;omega
     have HW:aa (Zv A ⟨node,y,D,G,J,L,c,true⟩=2):=Z (by rw[k4.o,CW (fun x=>absurd x.1 O),CW (fun x=>hm x.2)]);clear hm;go_wp2_with fail
     go_loopw [14,15,16] (fun m4 p1 i6 d=>∃ i:Nat,i<=A.length/\i6=I i/\p1=.bool ((A.take i).foldl (zN ⟨node,y,D,G,J,L,c,true⟩) ([],true)).2/\VRow d m4 ((A.take i).foldl (zN ⟨node,y,D,G,J,L,c,true⟩) ([],true)).1/\(∀ k,m4.ownBlock=some k->w1.heap.size<=k)/\Fr Nil w1 d/\((A.take i).foldl (zN ⟨node,y,D,G,J,L,c,true⟩) ([],true)).1.length<=2*i) (fun _ _ i6 _=>A.length-(intOf i6).toNat)
     case atStart=>exact⟨0,Bg _,rfl,rfl,Bf _ 0 _ _,fun k hk=>by simp[Value.ownBlock] at hk,X.o,CP _⟩
     case round =>
      obtain⟨i,hi,rfl,rfl,a7,i4,hf,f2⟩:=hrel;have a2:=(i2.o.fr hf id).cell;by_cases a5:i<A.length
      .obtain⟨g,rfl⟩:∃ g,va=some (Y g 0):=by
        obtain⟨g,cap,h,_⟩:=zl g8.o V;simp at h;exact⟨g,h.1⟩
       have Q:aa (∀ M,Fr Nil w1 M->∀ j,j<8->M.cell? (Y g (i*8+j))=A[i].cells[j]?):=fun M f j o7=>VRow.cells (ze g8.o f (fun _ _=>id)) i a5 j o7;have a0:aa (∀ M,Fr Nil w1 M->∀ j,M.cell? (Y b j)=(Ver.cells ⟨node,y,D,G,J,L,c,true⟩)[j]?):=fun M f j=>(i2.o.fr f id).cell j;have hx:=m6.o A[i] (CU a5);have C:aa ((A.take (i+1)).foldl (zN ⟨node,y,D,G,J,L,c,true⟩) ([],true)=zN ⟨node,y,D,G,J,L,c,true⟩ ((A.take i).foldl (zN ⟨node,y,D,G,J,L,c,true⟩) ([],true)) A[i]):=Z (by rw[Bp a5,BM];rfl);have d9:=Z (fun W=>j8.o ⟨node,y,D,G,J,L,c,true⟩ A[i] W hx);generalize ((A.take i).foldl (zN ⟨node,y,D,G,J,L,c,true⟩) ([],true))=st at a7 f2 C |-;exact Ln
      .obtain rfl:i=A.length:=V
       rw[Bj] at a7 f2 |-;have a8:WO A ⟨node,y,D,G,J,L,c,true⟩=(A.foldl (zN ⟨node,y,D,G,J,L,c,true⟩) ([],true)).1++if (A.foldl (zN ⟨node,y,D,G,J,L,c,true⟩) ([],true)).2=true then [] else [⟨node,y,D,G,J,L,c,true⟩]:=rfl
       generalize A.foldl (zN ⟨node,y,D,G,J,L,c,true⟩) ([],true)=st at a7 f2 a8 |-;obtain⟨a3,done⟩:=st;simp only at a7 f2 a8 |-;obtain⟨ta,tc,rfl⟩:=zf a7;have i0:=Z a7;have e0:=Z i4;have X:=Z hf;have e5:a3.length<1000000:=V
       clear a7 i4 hf;obtain⟨b0,b1,b2,b3,b4,b5,b6,b7⟩:wr.cell? (Y b 0)=some (I node)/\wr.cell? (Y b 1)=some (I y)/\wr.cell? (Y b 2)=some (I D)/\wr.cell? (Y b 3)=some (I G)/\wr.cell? (Y b 4)=some (I J)/\wr.cell? (Y b 5)=some (I L)/\wr.cell? (Y b 6)=some (.string c)/\wr.cell? (Y b 7)=some (.bool true):=⟨a2 0,a2 1,a2 2,a2 3,a2 4,a2 5,a2 6,a2 7⟩;clear a2;have i7:aa (∀ (M:World) (f:Fr Nil w1 M) (lv:Value) (l:List Ver),VRow M lv l->(∀ k,lv.ownBlock=some k->w1.heap.size<=k)->Calls prog 157 #[E p 0,.string key,lv] M fun e d =>
        ∃ nb,e=.returned (E nb 0)/\MRep (KGr K w d) d nb {m with uR:=Z4 m.uR key l}/\Fr Nil w d/\w.heap.size<=nb):=by
        intro M f lv l hl hk;have f7:=f6.o.trans f;refine(XB (KGr K w M) p m key lv l M (MRep.nil ⟨kv,p0,k5,HA.o,HB.o⟩ f7) hl (fun k l6=>.inr ⟨CO f6.o.size (hk k l6),zF hl l6⟩) n5).mono ?_;rintro e d ⟨nb,rfl,h1,h2,h3⟩;exact⟨nb,rfl,h1.mono (fun k hk=>hk.trans f7.size h2.size),f7.trans h2,CO f7.size h3⟩
       cases done with
       | true =>
        have f8:aa (WO A ⟨node,y,D,G,J,L,c,true⟩=a3):=Z (by rw[a8];simp);exact Hq
       | false =>
        have f8:aa (WO A ⟨node,y,D,G,J,L,c,true⟩=a3++[⟨node,y,D,G,J,L,c,true⟩]):=Z (by rw[a8];simp);clear a8
        go_wp2_with (at_builtin;go_must (refine zm rfl _ _ _ _ rfl _ _ bH bH (Yt wr _ _ i0.o ⟨node,y,D,G,J,L,c,true⟩ e5 _ zd _ am _) ?_;rintro v6 w6 ⟨f1,e8,e9⟩;have h4:Fr Nil w1 w6:=X.o.tk e8 (fun k hk e=>by have:=e0.o k e;omega);have h9:=Z f1;have n9:aa (∀ k,v6.ownBlock=some k->w1.heap.size<=k):=fun k hk=>(e9 k hk).elim (e0.o k) (fun h=>CO X.o.size h);have k1:=Z h4;clear f1 e8 e9 h4 b0 b1 b2 b3 b4 b5 b6 b7))
        refine(i7.o w6 k1.o v6 (a3++[⟨node,y,D,G,J,L,c,true⟩]) h9.o n9.o).mono ?_;exact Hr
end Go.Proofs.YtkhnggkkiefcdaaGreatDoor
