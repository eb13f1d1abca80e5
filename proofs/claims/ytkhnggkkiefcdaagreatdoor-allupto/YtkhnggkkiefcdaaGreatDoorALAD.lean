/- larder: joined texts -/
import Derived.Test.YtkhnggkkiefcdaaGreatDoorALAC
namespace Go.Proofs.YtkhnggkkiefcdaaGreatDoor
open Go.RowKit Proofs.Tryz
set_option maxRecDepth 100000
set_option maxHeartbeats 8000000
variable{w:World}{size a:Nat}{d:List Value}{p:Prop}
def Dir.oH(d:Dir)(a:ByteArray):Option Nat:=d.findIdx? (fun e=>e.1==a)
theorem Q0(d:Dir)(a:ByteArray) :
 (zZ d a=-1/\Dir.oH d a=none)\/∃ k:Nat,k<d.length/\zZ d a=k/\Dir.oH d a=some k:=by
 unfold zZ Dir.oH;cases hf:d.findIdx? (fun e=>e.1==a) with
 | none=>exact .inl ⟨rfl,rfl⟩
 | some k =>
  rw[yy] at hf;obtain⟨b,_⟩:=hf;exact .inr ⟨k,b,rfl,rfl⟩
def DM.sU(M:DM)(a:ByteArray):Int × DM :=
 match M.uX.oH a with
 | none=>(11,M)
 | some k=>(M.uQ.2.1,if M.uQ.1=true then M.uQ.2.2.si (M.uQ.2.2.uX.take k++M.uQ.2.2.uX.drop (k+1)) else M.uQ.2.2)
theorem Q3(d:Dir):∀ k,flat (d.take k)=(flat d).take (k*2):=by
 induction d with
 | nil=>intro k;simp[flat]
 | cons e d b =>
  intro k;cases k with
  | zero=>rfl
  | succ k =>
   have a:(k+1)*2=k*2+2:=V
   have:=b k;simp only[flat,Am,AF,a] at this |-;rw[this]
   rfl
theorem Q4(d:Dir):∀ k,flat (d.drop k)=(flat d).drop (k*2):=by
 induction d with
 | nil=>intro k;simp[flat]
 | cons e d b =>
  intro k;cases k with
  | zero=>rfl
  | succ k =>
   have a:(k+1)*2=k*2+2:=V
   have:=b k;simp only[flat,Am,yk,a] at this |-;rw[this]
   rfl
theorem Pv{e:TypeId}{g n c:Nat}(h:w.ownsRow 0 e size (.slice (some (Y g 0)) n c) n d)(p:Nat)(a:List Value)
 (i:∀ j u,a[j]?=some u->d[p+j]?=some u):∀ j u,a[j]?=some u->w.cell? (((Y g p):Addr).add j)=some u:=by
 intro j u f;have b:((Y g p):Addr).add j=⟨g,p+j,none⟩:=by unfold Addr.add;split <;> simp_all
 rw[b];exact own_cell? h _ _ (i j u f)
theorem Sp{s y w5:World}{b:Nat}{L:DL}{M:DM}{v cv:Value}{d:Dir}(h5:DRep w5 b (L.si v cv) (M.si d))(B:Fr Nil s y)(hv:∀ k,v.ownBlock=some k->s.heap.size<=k)
 (C:Fr (fun k=>k=b\/L.qq.ownBlock=some k) y w5)(q:cv.ownBlock=L.qq.ownBlock\/∃ k,cv.ownBlock=some k/\y.heap.size<=k):DStep b L M s (L.si v cv) (M.si d) w5 where
 th:=h5
 fr:=by
  exact Iq
 sd:=by
  intro k g;have b7:=B.size;rcases g.po with h|h|h
  .exact .inr (hv k h)
  .rcases q with j|⟨k',j,hle⟩
   .rw[j] at h;exact .inl (.ch h)
   .rw[j] at h;simp at h;exact .inr V
  .exact .inl h
theorem ES{c m o:World}{v l:Value}{e:TypeId}{n r:Nat}{s:List Value}(g:App w (.slice none 0 0) e size n s v c)(j:Fr Nil c m)(i:App m v e size r d l o) :
 Fr Nil w o/\∀ k,l.ownBlock=some k->w.heap.size<=k:=by
 have b:∀ k,v.ownBlock=some k->w.heap.size<=k:=by
  intro k b;rcases g.qN with h|h
  .rw[h] at b;simp[Value.ownBlock] at b
  .rw[h] at b;simp at b;omega
 have f:Fr Nil w c:=g.fr.mono (fun _ _ h=>by simp[Value.ownBlock] at h);refine⟨Fr.tk (f.trans j) i.fr (fun k q p=>by have:=b k p;omega),?_⟩;intro k a;rcases i.qN with h|h
 .rw[h] at a;exact b k a
 .rw[h] at a;simp at a
  have:=(f.trans j).size;omega
theorem Nz(a:ByteArray)(w:World)(b:Nat)(L:DL)(M:DM)(h:DRep w b L M)(d:zZ M.uX a=-1) :
 Calls prog 184 #[E b 0,.string a] w fun e j =>
  e=.returned (I 11)/\DStep b L M w L M j:=by
 have g:=h.td.cell;simp only[DM.cells] at g;have c:=Z h;have f:=Z d;clear h d;go_enter func184,ntmps184
 go_wp2_with (go_at_call 87;refine(YR f.o _ c.o.uX).mono ?_;rintro e k ⟨rfl,i⟩)
 go_ret;exact⟨rfl,DStep.sF c.o i⟩
theorem Kw(a:ByteArray)(w:World)(b:Nat)(L:DL)(M:DM)(h:DRep w b L M)(k:Nat)(_:k<M.uX.length)(g:zZ M.uX a=k)(i:M.uQ.1=false) :
 Calls prog 184 #[E b 0,.string a] w fun e p =>
  e=.returned (I M.uQ.2.1)/\DStep b L M w L M.uQ.2.2 p:=by
 have o:=h.td.cell;have c:=zH h.uX;unfold maxLen at c;simp only[DM.cells] at o;have d:=Z h;have l:=Z g;have m:=Z i;clear h g i;go_enter func184,ntmps184;go_wp2_with fail;refine(Za l.o _ d.o.uX).mono ?_;rintro e q ⟨rfl,j⟩;go_wp2_with fail;have f:=Z6 q b L M (d.o.fr j (fun _ _=>id));rw[m.o] at f;refine f.mono ?_;rintro e r ⟨rfl,hs⟩
 go_wp2
 go_ret;exact⟨rfl,(DStep.sF d.o j).trans hs⟩
theorem Ir(h:p:=by
 obtain⟨A,S⟩:=ES HA.o (U _ _) d;have Q:=G.o.th.fr A (fun _ _=>id);have r:∀ e,e∈a.uX.take k++a.uX.drop (k+1)->e.2∈a.tL:=by
  intro e C;simp only[CV] at C;rcases C with C|C
  .exact G.o.th.rA e (BN C)
  .exact G.o.th.rA e (Bx C)
 have HT:=Z (Vc v2 (a.uX.take k++a.uX.drop (k+1)) w4 b _ _ Q d.sL r a8);have a0:=Z A;have a3:=Z S;have a2:=Z J;clear l d r Q A S y J;go_wp2_with fail;refine HT.o.mono ?_;rintro e w5 ⟨rfl,cv,b0,a6,a5⟩;have b1:=Sp b0 a0.o a3.o a6 a5
 go_wp2
 go_ret;obtain rfl:=a2.o;exact⟨rfl,_,(DStep.sF HH.o hf).trans (G.o.trans b1)⟩):p:=h
theorem NA(s:ByteArray)(w:World)(b:Nat)(L:DL)(M:DM)(h:DRep w b L M)(k:Nat)(hk:k<M.uX.length)(h1:zZ M.uX s=k)(hd:M.uQ.1=true)
 (hn:M.tB.length+1<=1000000000000)(hm:M.uX.length+1<=1000000000000) :
 Calls prog 184 #[E b 0,.string s] w fun e w' =>
  e=.returned (I M.uQ.2.1)/\∃ L',DStep b L M w L' (M.uQ.2.2.si (M.uQ.2.2.uX.take k++M.uQ.2.2.uX.drop (k+1))) w':=by
 have B:=h.td.cell;have N:=zH h.uX;unfold maxLen at N;simp only[DM.cells] at B;have HH:=Z h;have H1:=Z h1;have HD:=Z hd;clear h h1 hd;go_enter func184,ntmps184;go_wp2_with fail;refine(Za H1.o _ HH.o.uX).mono ?_;rintro e w1 ⟨rfl,hf⟩;go_wp2_with fail;have HB:=Z6 w1 b L M (HH.o.fr hf (fun _ _=>id));rw[HD.o] at HB;refine HB.mono ?_;rintro e w2 ⟨rfl,hs⟩;clear B HB;have o:=M.tK;have b8:M.uQ.2.2.uX.length+1<=1000000000000:=by rw[o.1];exact hm
 have a8:M.uQ.2.2.tB.length+1<=1000000000000:=by rw[o.2.2.1];exact hn
 have a9:k<M.uQ.2.2.uX.length:=by rw[o.1];exact hk
 clear o;have B:=hs.th.td.cell;simp only[DM.cells] at B;obtain⟨g,x,X,b3,a4⟩:=zl hs.th.uX V;unfold maxLen at a4;rw[X] at B;have i:=hs.th.uX;rw[X] at i;have G:=Z hs;have D:=Z i;have HV:=Z X;have b9:=hs.th.td.lt;clear hs i X;generalize J:M.uQ.2.2=a at *;have b6:¬x=0:=V
 have K:=Ns a.uX;have t:=Z K;clear K
 go_wp2_with (at_builtin;go_must (refine zm rfl _ _ _ _ rfl _ _ bH bH (zq 140 _ 148 2 24 AU Yc O _ _ _ (Bf _ 0 _ _)
  ⟨g,0,none⟩ k x ((flat a.uX).take (k*2)) (by rw[CR,t.o];omega) (Pv D.o 0 _ ?n1) (fun u R=>TO _ u (BN R)) ac V) ?_))
 case n1 =>
  intro j u m;rw[List.getElem?_take] at m;split at m
  .simpa using m
  .cases m
 intro v1 w3 T;have HA:=Z T;obtain⟨a1,c1,b2⟩:=zf T.sL;have a7:Fr Nil w2 w3:=T.fr.mono (fun _ _ h=>by simp[Value.ownBlock] at h);have q:=G.o.th.fr a7 (fun _ _=>id);have y:=q.td.cell;simp only[DM.cells] at y;rw[HV.o] at y;have c:=q.uX;rw[HV.o] at c;have v:=Z c;have b4:=Z q;clear T q B c;subst b2;have f:∀ j u,((flat a.uX).drop ((k+1)*2))[j]?=some u->(flat a.uX)[k*2+2+j]?=some u:=by
  intro j u m;rw[yJ] at m;rw[<- m];congr 1;omega
 have HN:=Z f;clear f;have b7:k+1<=a.uX.length:=a9;have ek:(k+1)*2=k*2+2:=V
 by_cases b5:x=k+1
 .have hlen0:a.uX.length-(k+1)=0:=V
  go_wp2_with (at_builtin;go_must (refine zm rfl _ _ _ _ rfl _ _ bH bH (zq 140 _ 148 2 24 AU Yc O _ _ _ HA.o.sL
   ⟨g,0,none⟩ 0 _ [] rfl (by intro j u m;simp at m) (by intro u R;cases R) ac V) ?_))
  intro v2 w4 l;have d:App w3 (.slice a1 k c1) 148 2 (a.uX.take k++a.uX.drop (k+1)).length (flat (a.uX.take k++a.uX.drop (k+1))) v2 w4:=by
   have e1:(a.uX.take k++a.uX.drop (k+1)).length=k+(a.uX.length-(k+1)):=by simp;omega
   rw[e1,XA,Q3,Q4];have e2:(flat a.uX).drop ((k+1)*2)=[]:=BH (by rw[Bc,t.o];omega);rw[hlen0,e2]
   simpa using l
  exact Ir
 .go_wp2_with (at_builtin;go_must (refine zm rfl _ _ _ _ rfl _ _ bH bH (zq 140 _ 148 2 24 AU Yc O _ _ _ HA.o.sL
   ⟨g,k*2+2,none⟩ (a.uX.length-(k+1)) _ ((flat a.uX).drop ((k+1)*2)) (by rw[Bc,t.o];omega) (Pv v.o (k*2+2) _ HN.o) (fun u R=>TO _ u (Bx R)) ac V) ?_))
  intro v2 w4 l;have d:App w3 (.slice a1 k c1) 148 2 (a.uX.take k++a.uX.drop (k+1)).length (flat (a.uX.take k++a.uX.drop (k+1))) v2 w4:=by
   have e1:(a.uX.take k++a.uX.drop (k+1)).length=k+(a.uX.length-(k+1)):=by simp;omega
   rw[e1,XA,Q3,Q4];rw[ek];exact l
  exact Ir
theorem Pw(a:ByteArray)(w:World)(b:Nat)(L:DL)(M:DM)(h:DRep w b L M)(m:M.tB.length+1<=1000000000000)(hm:M.uX.length+1<=1000000000000) :
 Calls prog 184 #[E b 0,.string a] w fun e i =>
  e=.returned (I (M.sU a).1)/\∃ l,DStep b L M w l (M.sU a).2 i:=by
 rcases Q0 M.uX a with⟨f,g⟩|⟨k,j,f,g⟩
 .refine(Nz a w b L M h f).mono fun e i ⟨c,d⟩=>?_
  simp only[DM.sU,g];exact⟨c,L,d⟩
 .cases hd:M.uQ.1 with
  | false =>
   refine(Kw a w b L M h k j f hd).mono fun e i ⟨c,d⟩=>?_;simp only[DM.sU,g,hd];exact⟨c,L,d⟩
  | true =>
   refine(NA a w b L M h k j f hd m hm).mono fun e i ⟨c,d⟩=>?_;simp only[DM.sU,g,hd];exact⟨c,d⟩
def Yd(d:Dir)(i:Nat)(a:ByteArray)(k:Nat):Dir :=
 (List.range k).flatMap fun j=>match d[j]? with
   | some e=>if j≠i/\(e.1==a)=false then [e] else []
   | none=>[]
theorem Q5(d:Dir)(i:Nat)(a:ByteArray)(k:Nat)(h:k<d.length) :
 Yd d i a (k+1)=Yd d i a k++(if k≠i/\(d[k].1==a)=false then [d[k]] else []):=by
 unfold Yd;rw[uA,List.flatMap_append];simp[h]
theorem ET(d:Dir)(i:Nat)(a:ByteArray):∀ k,(Yd d i a k).length<=k:=by
 intro k
 induction k with
 | zero=>simp[Yd]
 | succ k b =>
  unfold Yd at b |-;rw[uA,List.flatMap_append,CN];have:(List.flatMap (fun j=>match d[j]? with
   | some e=>if j≠i/\(e.1==a)=false then [e] else []
   | none=>[]) [k]).length<=1:=by
   simp only[Am,List.flatMap_nil,Bz];cases d[k]? with
   | none=>simp
   | some e=>dsimp only;split <;> simp
  omega
theorem Fz(d:Dir)(i:Nat)(b:ByteArray)(k:Nat)(e:ByteArray × Nat)(h:e∈Yd d i b k):e∈d:=by
 unfold Yd at h;simp only[xZ,wL] at h;obtain⟨j,_,a⟩:=h;cases hd:d[j]? with
 | none=>rw[hd] at a;cases a
 | some x =>
  rw[hd] at a
  dsimp only at a
  split at a
  .simp at a;subst a;exact AV hd
  .cases a
def Dir.sV(d:Dir)(i:Nat)(a:ByteArray):Dir:=Yd d i a d.length++(match d[i]? with|some e=>[(a,e.2)]|none=>[])
def DM.sA(M:DM)(b a:ByteArray):Int × DM :=
 match M.uX.oH b with
 | none=>(11,M)
 | some i=>if a=ByteArray.empty then(11,M) else
  (M.uQ.2.1,if M.uQ.1=true then M.uQ.2.2.si (M.uQ.2.2.uX.sV i a) else M.uQ.2.2)
theorem NB(c a:ByteArray)(w:World)(b:Nat)(L:DL)(M:DM)(h:DRep w b L M)(f:zZ M.uX c=-1) :
 Calls prog 212 #[E b 0,.string c,.string a] w fun e k =>
  e=.returned (I 11)/\DStep b L M w L M k:=by
 have i:=h.td.cell;simp only[DM.cells] at i;have d:=Z h;have g:=Z f;clear h f;go_enter uo,vV
 go_wp2_with (go_at_call 87;refine(YR g.o _ d.o.uX).mono ?_;rintro e l ⟨rfl,j⟩)
 go_ret;exact⟨rfl,DStep.sF d.o j⟩
theorem Px(a:ByteArray)(w:World)(b:Nat)(L:DL)(M:DM)(h:DRep w b L M)(k:Nat)(_:k<M.uX.length)(d:zZ M.uX a=k) :
 Calls prog 212 #[E b 0,.string a,.string ByteArray.empty] w fun e j =>
  e=.returned (I 11)/\DStep b L M w L M j:=by
 have g:=h.td.cell;simp only[DM.cells] at g;have c:=Z h;have f:=Z d;clear h d;go_enter uo,vV
 go_wp2_with (go_at_call 87;refine(Za f.o _ c.o.uX).mono ?_;rintro e l ⟨rfl,i⟩)
 go_ret;exact⟨rfl,DStep.sF c.o i⟩
theorem Kx(c a:ByteArray)(w:World)(b:Nat)(L:DL)(M:DM)(h:DRep w b L M)(k:Nat)(_:k<M.uX.length)(g:zZ M.uX c=k)(j:¬a=ByteArray.empty)(i:M.uQ.1=false) :
 Calls prog 212 #[E b 0,.string c,.string a] w fun e r =>
  e=.returned (I M.uQ.2.1)/\DStep b L M w L M.uQ.2.2 r:=by
 have p:=h.td.cell;simp only[DM.cells] at p;have d:=Z h;have m:=Z g;have o:=Z i;have q:=Vw j;clear h g i j;go_enter uo,vV;go_wp2_with fail;refine(Za m.o _ d.o.uX).mono ?_;rintro e s ⟨rfl,l⟩;go_wp2_with fail;have f:=Z6 s b L M (d.o.fr l (fun _ _=>id));rw[o.o] at f;refine f.mono ?_;rintro e t ⟨rfl,hs⟩
 go_wp2
 go_ret;exact⟨rfl,(DStep.sF d.o l).trans hs⟩
theorem NC(a2 a:ByteArray)(w:World)(b:Nat)(L:DL)(M:DM)(h:DRep w b L M)(i:Nat)(hi:i<M.uX.length)(h1:zZ M.uX a2=i)(x:¬a=ByteArray.empty)(hd:M.uQ.1=true)
 (hn:M.tB.length+1<=1000000000000)(hm:M.uX.length+1<=1000000000000) :
 Calls prog 212 #[E b 0,.string a2,.string a] w fun e w' =>
  e=.returned (I M.uQ.2.1)/\∃ L',DStep b L M w L' (M.uQ.2.2.si (M.uQ.2.2.uX.sV i a)) w':=by
 have v:=h.td.cell;have X:=zH h.uX;unfold maxLen at X;simp only[DM.cells] at v;have HH:=Z h;have H1:=Z h1;have HD:=Z hd;have b6:=Vw x;clear h h1 hd x;go_enter uo,vV;go_wp2_with fail;refine(Za H1.o _ HH.o.uX).mono ?_;rintro e w1 ⟨rfl,hf⟩;go_wp2_with fail;have HB:=Z6 w1 b L M (HH.o.fr hf (fun _ _=>id));rw[HD.o] at HB;refine HB.mono ?_;rintro e w2 ⟨rfl,hs⟩;clear v HB;have B:=M.tK;have b8:M.uQ.2.2.uX.length+1<=1000000000000:=by rw[B.1];exact hm
 have a9:M.uQ.2.2.tB.length+1<=1000000000000:=by rw[B.2.2.1];exact hn
 have N:i<M.uQ.2.2.uX.length:=by rw[B.1];exact hi
 clear B;have v:=hs.th.td.cell;simp only[DM.cells] at v;obtain⟨g,b5,hv,b4,a6⟩:=zl hs.th.uX V;unfold maxLen at a6;rw[hv] at v;have S:=Z hs;have HV:=Z hv;have a0:=hs.th.td.lt;clear hs hv;generalize T:M.uQ.2.2=d at *;go_wp2_with fail;clear v
 go_loopw [10,35] (fun l c w'=>∃ k:Nat,k<=d.uX.length/\c=I k/\w'.ownsRow 0 148 2 l (Yd d.uX i a k).length (flat (Yd d.uX i a k))/\Fr Nil w2 w'/\(∀ j,l.ownBlock=some j->w2.heap.size<=j)) (fun _ c _=>d.uX.length-(intOf c).toNat)
 case atStart=>exact⟨0,Bg _,rfl,Bf _ _ _ _,U _ _,fun j p=>by simp[Value.ownBlock] at p⟩
 case round =>
  obtain⟨k,hk,rfl,r,o,D⟩:=hrel;have hr:=S.o.th.fr o (fun _ _=>id);have v:=hr.td.cell;simp only[DM.cells] at v;rw[HV.o] at v;have HR:=Z hr;have Q:=Z D;have HO:=Z r;have b9:=ET d.uX i a k;obtain⟨la,lc,b0⟩:=zf r;clear hr D r;subst b0;by_cases q:k<d.uX.length
  .have hsucc:=Z (Q5 d.uX i a k q)
   have f:=HR.o.uX;rw[HV.o] at f;have b1:=own_cell? f _ _ (ZP d.uX k q).1;have c0:=own_cell? f _ _ (ZP d.uX k q).2;have b7:=wG _ _ b1;clear f;by_cases A:k=i
   .have e1:((k:Int) != i)=false:=by simp[A]
    have HK:=Z A;clear A
    go_wp2
    have R:Yd d.uX i a (k+1)=Yd d.uX i a k:=by rw[hsucc.o,CW (fun h=>h.1 HK.o)];simp
    exact⟨⟨k+1,V,by go_num,by rw[R];exact HO.o,o,Q.o⟩,by simp[intOf];omega⟩
   .have e1:((k:Int) != i)=true:=by rw[bne_iff_ne];omega
    have y:=yQ d.uX[k].1 a;cases hm2:(d.uX[k].1==a) with
    | true =>
     have e2:(d.uX[k].1.toList==a.toList)=true:=by rw[<- y];exact hm2
     have J:=Z hm2;clear y hm2
     go_wp2
     have R:Yd d.uX i a (k+1)=Yd d.uX i a k:=by rw[hsucc.o,CW (fun h=>by rw[J.o] at h;exact Bool.noConfusion h.2)];simp
     exact⟨⟨k+1,V,by go_num,by rw[R];exact HO.o,o,Q.o⟩,by simp[intOf];omega⟩
    | false =>
     have e2:(d.uX[k].1.toList==a.toList)=false:=by rw[<- y];exact hm2
     have J:=Z hm2;clear y hm2
     go_wp2_with (at_builtin;go_must (refine zm rfl _ _ _ _ rfl _ _ bH bH (zq 140 _ 148 2 24 AU Yc O _ _ _ (HO.o.alloc _)
      ⟨wr.heap.size,0,none⟩ 1 1 [.string d.uX[k].1,E (d.uX[k].2) 0] rfl (WA _ _ _ _ _ rfl) ak ac V) ?_))
     intro v2 w4 m;have G:=Z m;clear m
     go_wp2
     have R:Yd d.uX i a (k+1)=Yd d.uX i a k++[d.uX[k]]:=by rw[hsucc.o,Bl ⟨A,J.o⟩]
     have e4:(Yd d.uX i a (k+1)).length=(Yd d.uX i a k).length+1:=by rw[R];simp
     have e5:flat (Yd d.uX i a (k+1))=flat (Yd d.uX i a k)++[.string d.uX[k].1,E (d.uX[k].2) 0]:=by rw[R,XA];rfl
     refine⟨⟨k+1,V,by go_num,by rw[e4,e5];exact G.o.sL,?_,?_⟩,by simp[intOf];omega⟩
     .exact Fr.tk (o.alloc _) G.o.fr (fun j a0 p=>by have:=Q.o j p;omega)
     .intro j p
      rcases G.o.qN with h|h
      .rw[h] at p;exact Q.o j p
      .rw[h] at p;simp at p;have:=o.size;omega
  .have hkl:k=d.uX.length:=V
   subst hkl;have f:=HR.o.uX;rw[HV.o] at f;have c1:=own_cell? f _ _ (ZP d.uX i N).2;clear f
   go_wp2_with (at_builtin;go_must (refine zm rfl _ _ _ _ rfl _ _ bH bH (zq 140 _ 148 2 24 AU Yc O _ _ _ (HO.o.alloc _)
    ⟨wr.heap.size,0,none⟩ 1 1 [.string a,E (d.uX[i].2) 0] rfl (WA _ _ _ _ _ rfl) ak ac V) ?_))
   intro v2 w4 m;have t:d.uX.sV i a=Yd d.uX i a d.uX.length++[(a,d.uX[i].2)]:=by simp[Dir.sV,N]
   have s:w4.ownsRow 0 148 2 v2 (d.uX.sV i a).length (flat (d.uX.sV i a)):=by
    rw[t,XA,CN];exact m.sL
   have K:Fr Nil w2 w4:=Fr.tk (o.alloc _) m.fr (fun j a0 p=>by have:=Q.o j p;omega);have a1:∀ j,v2.ownBlock=some j->w2.heap.size<=j:=by
    intro j p;rcases m.qN with h|h
    .rw[h] at p;exact Q.o j p
    .rw[h] at p;simp at p;have:=o.size;omega
   have C:∀ e,e∈d.uX.sV i a->e.2∈d.tL:=by
    intro e x;rw[t,CV] at x;rcases x with x|x
    .exact S.o.th.rA e (Fz _ _ _ _ _ x)
    .simp at x;subst x;exact S.o.th.rA d.uX[i] (CU N)
   have HT:=Z (Vc v2 (d.uX.sV i a) w4 b _ _ (S.o.th.fr K (fun _ _=>id)) s C a9);have a3:=Z K;have a5:=Z a1;have a4:=Z T;clear m C K a1 v T t s;go_wp2_with fail;refine HT.o.mono ?_;rintro e w5 ⟨rfl,cv,b2,a8,a7⟩;have b3:=Sp b2 a3.o a5.o a8 a7
   go_wp2
   go_ret;obtain rfl:=a4.o;exact⟨rfl,_,(DStep.sF HH.o hf).trans (S.o.trans b3)⟩
theorem Py(c a:ByteArray)(w:World)(b:Nat)(L:DL)(M:DM)(h:DRep w b L M)(o:M.tB.length+1<=1000000000000)(hm:M.uX.length+1<=1000000000000) :
 Calls prog 212 #[E b 0,.string c,.string a] w fun e j =>
  e=.returned (I (M.sA c a).1)/\∃ m,DStep b L M w m (M.sA c a).2 j:=by
 rcases Q0 M.uX c with⟨g,i⟩|⟨k,l,g,i⟩
 .refine(NB c a w b L M h g).mono fun e j ⟨d,f⟩=>?_
  simp only[DM.sA,i];exact⟨d,L,f⟩
 .by_cases he:a=ByteArray.empty
  .subst he
   refine(Px c w b L M h k l g).mono fun e j ⟨d,f⟩=>?_;simp only[DM.sA,i];exact⟨d,L,f⟩
  .cases hd:M.uQ.1 with
   | false =>
    refine(Kx c a w b L M h k l g he hd).mono fun e j ⟨d,f⟩=>?_;simp only[DM.sA,i,hd];rw[CW he];exact⟨d,L,f⟩
   | true =>
    refine(NC c a w b L M h k l g he hd o hm).mono fun e j ⟨d,f⟩=>?_;simp only[DM.sA,i,hd];rw[CW he];exact⟨d,f⟩
theorem XI:((prog.info? 9).map fun i=>(i.zero.map (·.cells.size),i.size,i.bytes))=some (some 1,1,16):=bI
def zi(a b:ByteArray):Bool:=Op.bytesLess a.toList b.toList
def Xb:List ByteArray->ByteArray->List ByteArray
 | [],x=>[x]
 | y::r,x=>if zi x y then y::Xb r x else x::y::r
def YL(d:Dir)(k:Nat):List ByteArray:=((d.take k).foldl (fun r e=>Xb r e.1) []).reverse
def Dir.tT(d:Dir):List ByteArray:=YL d d.length
theorem ND(l:List ByteArray)(x:ByteArray):(Xb l x).length=l.length+1:=by
 induction l with
 | nil=>rfl
 | cons y r a=>simp only[Xb];split <;> simp[a]
theorem VJ(d:Dir)(k:Nat)(h:k<d.length):YL d (k+1)=(Xb (YL d k).reverse d[k].1).reverse:=by
 unfold YL;rw[Bp h,BM];simp
theorem Us(d:Dir):∀ k,k<=d.length->(YL d k).length=k:=by
 intro k
 induction k with
 | zero=>intro _;rfl
 | succ k a =>
  intro h;rw[VJ d k h,List.length_reverse,ND,List.length_reverse,a V]
theorem Is(P R:List ByteArray)(x:ByteArray)(h:∀ t∈P,zi x t=true):Xb (P++R) x=P++Xb R x:=by
 induction P with
 | nil=>rfl
 | cons y P c =>
  have b:=h y (CY ..);simp only[CZ,Xb,b,Ad];rw[c (fun t a=>h t (CT _ a))]
theorem Pz(A:List ByteArray)(x:ByteArray)(j:Nat)(d:j<=A.length)(h:∀ t∈A.drop j,zi x t=true)(c:∀ i (a:i<A.length),j=i+1->zi x A[i]=false) :
 A.take j++[x]++A.drop j=(Xb A.reverse x).reverse:=by
 have e:A.reverse=(A.drop j).reverse++(A.take j).reverse:=by rw[<- List.reverse_append,Bo]
 rw[e,Is _ _ _ (fun t f=>h t aG)];cases j with
 | zero=>simp[Xb]
 | succ i =>
  have a:i<A.length:=d;have b:(A.take (i+1)).reverse=A[i]::(A.take i).reverse:=by
   rw[Bp a];simp
  rw[b];have:=c i a rfl;simp only[Xb,this,Av,Aa];rw[<- b];simp
def strs(l:List ByteArray):List Value:=l.map Value.string
theorem FB(l:List ByteArray):∀ u∈strs l,u.oneCell'=true:=by
 intro u b;simp[strs] at b;obtain⟨a,_,rfl⟩:=b
 rfl
theorem TP(P Q:List ByteArray)(x:ByteArray):strs (P++[x]++Q)=strs P++.string x::strs Q:=by simp[strs]
theorem Tt(l:List ByteArray):(strs l).length=l.length:=by simp[strs]
theorem MS(A:List ByteArray)(x:ByteArray)(i:Nat)(b:i<A.length) :
 (strs (A.take (i+1)++[x]++A.drop (i+1)))[i+1]?=some (.string x)/\(strs (A.take (i+1)++[x]++A.drop (i+1)))[i]?=some (.string A[i]):=by
 have a:(strs (A.take (i+1))).length=i+1:=by rw[Tt];simp;omega
 rw[TP]
 constructor
 .rw[AJ V,a];simp
 .rw[Aq V];simp[strs,b]
theorem It(A:List ByteArray)(x:ByteArray)(i:Nat)(b:i<A.length) :
 ((strs (A.take (i+1)++[x]++A.drop (i+1))).set (i+1) (.string A[i])).set i (.string x)=strs (A.take i++[x]++A.drop i):=by
 have c:strs (A.take (i+1))=strs (A.take i)++[.string A[i]]:=by unfold strs;rw[Bp b,Bq];rfl
 have d:strs (A.drop i)=.string A[i]::strs (A.drop (i+1)):=by unfold strs;rw[BJ b,Bw]
 have a:(strs (A.take i)).length=i:=by rw[Tt];simp;omega
 rw[TP,TP,c,d,Be];rw[xJ _ _ V,a,xJ _ _ V,a];simp
theorem Y5{e:TypeId}{g n b:Nat}{i:List Value}(h:w.ownsRow a e size (.slice (some (Y g 0)) n b) n i)(j:Nat)(u:Value) :
 (w.setCell (Y g j) u).ownsRow a e size (.slice (some (Y g 0)) n b) n (i.set j u):=by
 rcases h.2 with⟨c,_⟩|⟨r,f,d,c,k,o,p,hm,hs,q⟩
 .cases c
 .simp at c
  obtain⟨rfl,rfl⟩:=c;refine⟨by rw[xF];exact h.1,.inr ⟨g,b,d.setIfInBounds j u,rfl,k,?_,p,hm,by simpa using hs,?_⟩⟩
  .simp[World.setCell,Array.getElem?_modify,o]
  .rw[<- q]
   simp only[Array.toList_setIfInBounds];rw[List.take_set]
theorem W9{e:TypeId}{g n c:Nat}{o:List Value}(h:w.ownsRow a e size (.slice (some (Y g 0)) n c) n o)(j:Nat):w.frozen? (Y g j)=false:=by
 rcases h.2 with⟨b,_⟩|⟨p,d,f,b,q,k,_⟩
 .cases b
 .simp at b
  obtain⟨rfl,_⟩:=b;simp[World.frozen?,k]
theorem Iu(h:p:=by
 exact⟨⟨k+1,V,by go_num,by rw[e3];exact m.o,a5.drewN _,fun j hj=>by simp[Value.ownBlock] at hj;omega⟩,by simp[intOf];omega⟩):p:=h
theorem WW(w:World)(b:Nat)(L:DL)(M:DM)(h:DRep w b L M)(hm:M.uX.length<=1000000000000) :
 Calls prog 86 #[E b 0] w fun e N =>
  ∃ v,e=.returned v/\N.ownsRow 0 9 1 v M.uX.length (strs M.uX.tT)/\Fr Nil w N/\(∀ k,v.ownBlock=some k->w.heap.size<=k):=by
 have hc:=h.td.cell;simp only[DM.cells] at hc;obtain⟨a,c0,hv⟩:=zf h.uX;rw[hv] at hc;obtain⟨ti,tz,b3,b4,b5,b6,c6⟩:=ZK XI;have HH:=Z h;have HV:=Z hv;clear h hv;go_enter func86,ntmps86
 go_wp2_with (at_make;go_must (refine wpList_make_own _ rfl _ _ 91 rfl 0 9 ti tz 1 yp b3 b4 b5 _ _ _ M.uX.length bH bH rfl (by rw[b6];omega) ac (Bg _) ?_))
 intro w1 q G;have s:Fr Nil w w1:=(Fr.sB G).mono (fun _ _ h=>by cases h);have h1:=HH.o.fr s (fun _ _=>id);have r:=h1.td.cell;simp only[DM.cells] at r;rw[HV.o] at r;clear hc G h1;go_wp2_with fail;clear r
 go_loopw [3,18] (fun l c N=>∃ k:Nat,k<=M.uX.length/\c=I k/\N.ownsRow 0 9 1 l k (strs (YL M.uX k))/\Fr Nil w N/\(∀ j,l.ownBlock=some j->w.heap.size<=j)) (fun _ c _=>M.uX.length-(intOf c).toNat)
 case atStart=>exact⟨0,Bg _,rfl,q,s,fun j hj=>by simp[Value.ownBlock] at hj;omega⟩
 case round =>
  obtain⟨k,hk,rfl,d,y,J⟩:=hrel;have hr:=HH.o.fr y (fun _ _=>id);have HN:=Z J;have HO:=Z d;have a8:=Z (Us M.uX k hk);obtain⟨la,lc,b1⟩:=zf d;clear q s J d;subst b1;by_cases D:k<M.uX.length
  .obtain⟨g,hg⟩:∃ g,a=some (Y g 0):=by
    obtain⟨g,c',a0,_⟩:=zl hr.uX V;rw[HV.o] at a0;simp at a0;exact⟨g,a0.1⟩
   subst hg;have f:=hr.uX;rw[HV.o] at f;have a7:=own_cell? f _ _ (ZP M.uX k D).1;have b2:=own_cell? f _ _ (ZP M.uX k D).2;have c4:=wG _ _ a7;clear f hr
   go_wp2_with (at_builtin;go_must (refine zm rfl _ _ _ _ rfl _ _ bH bH (zq 91 _ 9 1 16 yp XI O _ _ _ ((HO.o.alloc _).alloc _)
    ⟨wr.heap.size+1,0,none⟩ 1 1 [.string M.uX[k].1] rfl (YQ _ _ _ _ bG) aH ac V) ?_))
   intro v2 w4 X;obtain⟨g2,c2,b7,_,_⟩:=zl X.sL V;subst b7;have Q:=Z X;clear X;go_wp2_with fail;generalize hA:YL M.uX k=A at *;generalize hx:M.uX[k].1=x at *;have a2:A.length=k:=a8.o;have R:=Z a2;have a1:aa (YL M.uX (k+1)=(Xb A.reverse x).reverse):=by rw[aa,VJ M.uX k D,hA,hx]
   have c3:w.heap.size<=g2:=by
    rcases Q.o.qN with h|h
    .exact HN.o g2 (by rw[<- h];rfl)
    .simp[Value.ownBlock] at h;have:=y.size;omega
   have a4:Fr Nil w w4:=Fr.tk ((y.alloc _).alloc _) Q.o.fr (fun j D hj=>by have:=HN.o j hj;omega);have b8:=Z hA;have b9:=Z hx;clear hA hx a2 a7 b2
   go_loopw [6] (fun c N=>∃ j:Nat,j<=k/\c=I j/\N.ownsRow 0 9 1 (.slice (some (Y g2 0)) (k+1) c2) (k+1) (strs (A.take j++[x]++A.drop j))/\(∀ t,t∈A.drop j->zi x t=true)/\Fr Nil w N) (fun c _=>(intOf c).toNat)
   case atStart =>
    refine⟨k,CP _,rfl,?_,?_,a4⟩
    .have e:strs (A.take k++[x]++A.drop k)=strs A++[.string x]:=by
      have hl:=R.o;rw[Bn V,yg V];simp[strs]
     rw[e];exact Q.o.sL
    .intro t ht
     rw[yg (by have:=R.o;omega)] at ht;cases ht
   case round =>
    rename_i wq;obtain⟨j,hj,rfl,d,o,a5⟩:=hrel;have m:=Z d;have T:=Z o;clear d o a4;rcases yI j with rfl|c5
    .have hd:decide ((0:Int)<((0:Nat):Int))=false:=bG
     go_wp2_with fail
     go_quiet (fail)
     go_wp2
     have e3:YL M.uX (k+1)=A.take 0++[x]++A.drop 0:=a1.o.trans (Pz A x 0 (Bg _) T.o (fun i _ h=>V)).symm;exact Iu
    .obtain⟨i,rfl⟩:∃ i,j=i+1:=⟨j-1,V⟩
     have B:i<A.length:=by have:=R.o;omega
     have r:=own_cell? m.o _ _ (MS A x i B).1;have c1:=own_cell? m.o _ _ (MS A x i B).2;have s:=W9 m.o;have e1:(((i+1:Nat):Int))=(i:Int)+1:=V
     rw[e1];cases hls:zi x A[i] with
     | true =>
      have a6:Op.bytesLess x.toList A[i].toList=true:=hls;go_wp2_with fail
      go_quiet (fail)
      go_wp2_with fail
      go_region
      go_wp2
      have K:=Y5 (Y5 (w:=wr.drewN (nq+1)) m.o (i+1) (.string A[i])) i (.string x);rw[It A x i B] at K;have C:∀ t,t∈A.drop i->zi x t=true:=by
       intro t ht;rw[BJ B] at ht;rcases BC.1 ht with rfl|ht
       .exact hls
       .exact T.o t ht
      exact⟨⟨i,V,rfl,K,C,Fr.set (Fr.set (a5.drewN _) (fun(h:g2<w.heap.size)=>absurd h V) _) (fun(h:g2<w.heap.size)=>absurd h V) _⟩,by simp[intOf]⟩
     | false =>
      have a6:Op.bytesLess x.toList A[i].toList=false:=hls;go_wp2_with fail
      go_quiet (fail)
      go_wp2
      have a3:∀ i' (a9:i'<A.length),i+1=i'+1->zi x A[i']=false:=by
       intro i' a9 h;have h':i'=i:=V
       subst h';exact hls
      have e3:YL M.uX (k+1)=A.take (i+1)++[x]++A.drop (i+1):=a1.o.trans (Pz A x (i+1) V T.o a3).symm;exact Iu
  .go_wp2
   go_ret;have b0:k=M.uX.length:=V
   subst b0;exact⟨_,rfl,HO.o,y,HN.o⟩
def XJ(a b:ByteArray):Int:=if zi a b=true then -1 else if (a.toList==b.toList)=true then 0 else 1
theorem Ky(a b:ByteArray)(w:World) :
 Calls prog 201 #[.string a,.string b] w fun e i=>e=.returned (I (XJ a b))/\i=w:=by
 have j:∀ x:ByteArray,(x.toList==x.toList)=true:=by intro x;simp
 by_cases c:zi a b=true
 .have h:XJ a b=-1:=by unfold XJ;rw[Bl c]
  rw[h];clear h;have f:Op.bytesLess a.toList b.toList=true:=c;clear c;go_enter func201,ntmps201
  go_wp2
  go_ret;exact⟨rfl,rfl⟩
 .have f:Op.bytesLess a.toList b.toList=false:=by simpa [zi] using c
  by_cases d:(a.toList==b.toList)=true
  .have h:XJ a b=0:=by unfold XJ;rw[CW c,Bl d]
   rw[h];clear h c;go_enter func201,ntmps201
   go_wp2
   go_ret;exact⟨rfl,rfl⟩
  .have h:XJ a b=1:=by unfold XJ;rw[CW c,CW d]
   rw[h];clear h c;have g:(a.toList==b.toList)=false:=by simpa using d
   clear d;go_enter func201,ntmps201
   go_wp2
   go_ret;exact⟨rfl,rfl⟩
theorem WK(a b:ByteArray)(v:Value)(w:World) :
 Calls prog 200 #[.agg #[.string a,v],.string b] w fun e c=>e=.returned (I (XJ a b))/\Fr Nil w c:=by
 go_enter func200,ntmps200
 go_wp2_with (go_at_call 201;refine(Ky _ _ _).mono ?_;rintro e d ⟨rfl,rfl⟩)
 go_ret;exact⟨rfl,ab⟩
end Go.Proofs.YtkhnggkkiefcdaaGreatDoor
namespace Go.Proofs.YtkhnggkkiefcdaaGreatDoor
set_option maxRecDepth 100000
set_option maxHeartbeats 8000000
open Go Proofs.Tryz
structure Strict{α:Type}(lt:α->α->Bool):Prop where
 nz:∀ a,lt a a=false
 trans:∀ a b c,lt a b=true->lt b c=true->lt a c=true
 nJ:∀ a b,lt a b=false->a≠b->lt b a=true
theorem Strict.nC{α:Type}{lt:α->α->Bool}(h:Strict lt){a b:α}(c:lt a b=true):lt b a=false:=by
 cases hb:lt b a with
 | false=>rfl
 | true=>have:=h.trans _ _ _ c hb;rw[h.nz] at this;cases this
def Asc{α:Type}(lt:α->α->Bool)(l:List α):Prop:=l.Pairwise fun a b=>lt a b=true
theorem Asc.get{α:Type}{lt:α->α->Bool}{l:List α}(h:Asc lt l){i j:Nat}(c:i<j)(d:j<l.length):lt (l[i]'(vB c d)) l[j]=true :=
 (List.pairwise_iff_getElem.1 h) i j V d c
def low{α:Type}(lt:α->α->Bool)(l:List α)(b:α):Nat:=(l.takeWhile fun a=>lt a b).length
theorem VW{α:Type}(lt:α->α->Bool)(l:List α)(b:α):low lt l b<=l.length:=by
 induction l with
 | nil=>simp[low]
 | cons a r c =>
  by_cases h:lt a b=true
  .simp only[low,vu,h,Ad,Bh] at c |-;omega
  .simp[low,h]
theorem VX{α:Type}(lt:α->α->Bool)(b:α):∀ (l:List α)(i:Nat),i<=l.length->(∀ k (e:k<l.length),k<i->lt l[k] b=true)->(∀ e:i<l.length,lt l[i] b=false)->low lt l b=i
 | [],i,c,_,_=>by simp at c;simp[low,c]
 | a::r,0,_,_,d=>by
  have:lt a b=false:=d bG;simp[low,this]
 | a::r,i+1,c,f,d=>by
  have g:lt a b=true:=f 0 bG V;have:=VX lt b r i aY (fun k e h=>f (k+1) ar V) (fun e=>d ar);simp only[low,vu,g,Ad,Bh] at this |-;rw[this]
theorem Sq{α:Type}{lt:α->α->Bool}{b:α}:∀ {l:List α}{k:Nat}(c:k<l.length),k<low lt l b->lt l[k] b=true
 | [],k,c,_=>by simp at c
 | a::r,k,c,h=>by
  by_cases d:lt a b=true
  .cases k with
   | zero=>simpa using d
   | succ k =>
    have e:k<low lt r b:=by simp only[low,vu,d,Ad,Bh] at h |-;omega
    simpa using Sq (l:=r) (k:=k) aY e
  .simp[low,d] at h
theorem Sr{α:Type}{lt:α->α->Bool}{b:α}:∀ {l:List α}(c:low lt l b<l.length),lt l[low lt l b] b=false
 | [],c=>by simp at c
 | a::r,c=>by
  by_cases d:lt a b=true
  .have e:low lt (a::r) b=low lt r b+1:=by simp[low,d]
   have f:low lt r b<r.length:=by rw[e] at c;simpa using c
   have:=Sr (l:=r) f;simp only[e,xA];exact this
  .have e:low lt (a::r) b=0:=by simp[low,d]
   simp only[e,AA]
   simpa using d
def Zb{α:Type} [BEq α] (lt:α->α->Bool)(l:List α)(b:α):Bool :=
 match l[low lt l b]? with
 | some a=>a==b
 | none=>false
theorem V7{α:Type} [BEq α] {lt:α->α->Bool}{l:List α}{b:α}(h:¬low lt l b<l.length):Zb lt l b=false:=by
 have:l[low lt l b]?=none:=by rw[xI];omega
 simp[Zb,this]
theorem Tb{α:Type} [BEq α] {lt:α->α->Bool}{l:List α}{b:α}(h:low lt l b<l.length):Zb lt l b=(l[low lt l b]==b):=by
 have:l[low lt l b]?=some l[low lt l b]:=CS h;simp[Zb,this]
theorem Asc.fst{α β:Type}{lt:α->α->Bool}{l:List (α × β)}(h:Asc lt (l.map Prod.fst)){i j:Nat}(c:i<j)(d:j<l.length):lt (l[i]'(vB c d)).1 l[j].1=true:=by
 have:=h.get (i:=i) (j:=j) c bB
 rwa [BB,BB] at this
theorem Wl{α β:Type} [BEq α] {lt:α->α->Bool}{l:List (α × β)}{b:α}{i:Nat}(a:i<l.length)(h:low lt (l.map Prod.fst) b=i):Zb lt (l.map Prod.fst) b=(l[i].1==b):=by
 subst h;rw[Tb aQ,BB]
theorem Asc.mf{α:Type}{lt:α->α->Bool}(hs:Strict lt){l:List α}{b:α}(h:Asc lt l)(s:∀ o:low lt l b<l.length,l[low lt l b]≠b) :
 Asc lt (l.take (low lt l b)++[b]++l.drop (low lt l b)):=by
 have f:∀ x∈l.drop (low lt l b),lt b x=true:=by
  intro x p;obtain⟨j,m,rfl⟩:=AP p;rw[Bc] at m;rw[Ac];have o:low lt l b<l.length:=V
  have q:lt b l[low lt l b]=true:=hs.nJ _ _ (Sr o) (s o);rcases yI j with e|e
  .subst e;exact q
  .exact hs.trans _ _ _ q (h.get (i:=low lt l b) (j:=low lt l b+j) V V)
 have d:∀ x∈l.take (low lt l b),lt x b=true:=by
  intro x p;obtain⟨j,m,rfl⟩:=AP p;rw[CR] at m;rw[xN];exact Sq V V
 unfold Asc at h |-;have g:(l.take (low lt l b)++l.drop (low lt l b)).Pairwise fun a b=>lt a b=true:=by rwa [Bo]
 rw[AW] at g;rw[Be,AW,xK,wC];refine⟨g.1,⟨f,g.2.1⟩,fun a r c k=>?_⟩;rcases BC.1 k with rfl|k
 .exact d a r
 .exact g.2.2 a r c k
theorem Asc.mi{α:Type}{lt:α->α->Bool}{l:List α}(h:Asc lt l)(i:Nat):Asc lt (l.take i++l.drop (i+1)):=by
 unfold Asc at h |-;refine h.sublist ?_;have:l.take i++l.drop (i+1)=l.eraseIdx i:=by rw[List.eraseIdx_eq_take_drop_succ]
 rw[this];exact List.eraseIdx_sublist _ _
theorem Wa{a b:ByteArray}(h:a.toList=b.toList):a=b:=by
 rw[vv,vv] at h;exact wA (xQ h)
theorem zY{a b:ByteArray}:(a==b)=true↔a=b:=by
 rw[yQ]
 constructor
 .intro h;exact Wa aE
 .intro h;subst h;simp
theorem Wb:∀(x y:List UInt8),Op.bytesLess x y=decide (x<y)
 | [],[]=>by simp[Op.bytesLess]
 | _::_,[]=>by simp[Op.bytesLess]
 | [],_::_=>by simp[Op.bytesLess]
 | a::x,b::y=>by
  rw[Op.bytesLess,Wb x y];simp only[List.cons_lt_cons_iff];by_cases c:a<b <;> by_cases d:a=b <;> by_cases e:x<y <;> simp[c,d,e]
end Go.Proofs.YtkhnggkkiefcdaaGreatDoor
namespace Go.Proofs.YtkhnggkkiefcdaaGreatDoor
open Go.RowKit Proofs.Tryz
set_option maxRecDepth 100000
set_option maxHeartbeats 8000000
variable{p:Prop}
def Z3(l:List (ByteArray × Value)):List Value:=l.flatMap fun e=>[.string e.1,e.2]
theorem Xg(d:List (ByteArray × Value)):(Z3 d).length=d.length*2:=by
 induction d with
 | nil=>rfl
 | cons e d a=>simp only[Z3,Am,CN,Bh,BU] at a |-;omega
theorem Z8(d:List (ByteArray × Value)):∀ (k:Nat)(h:k<d.length),(Z3 d)[k*2]?=some (.string d[k].1)/\(Z3 d)[k*2+1]?=some d[k].2:=by
 induction d with
 | nil=>intro k h;simp at h
 | cons e d c =>
  intro k h;cases k with
  | zero=>exact⟨rfl,rfl⟩
  | succ k =>
   have:=c k aE;have b:(k+1)*2=k*2+2:=by omega
   simp only[Z3,Am,b] at this |-;exact this
theorem Zp:Strict zi where
 nz a:=by simp[zi,Wb,List.lt_irrefl]
 trans a b c h1 h2:=by
  simp only[zi,Wb,Bi] at *;exact List.lt_trans h1 h2
 nJ a b h1 h2:=by
  simp only[zi,Wb,Bi,BP] at *;rcases List.le_iff_lt_or_eq.1 (List.not_lt.1 h1) with h|h
  .exact h
  .exact absurd (Wa h).symm h2
theorem PA{a b:ByteArray}:XJ a b<0↔zi a b=true:=by
 unfold XJ;split
 .rename_i h;simp[h]
 .rename_i h
  split <;> simp[h]
theorem Iv{a b:ByteArray}:XJ a b=0↔(a==b)=true:=by
 unfold XJ;have c:=yQ a b;split
 .rename_i h
  constructor
  .intro h';omega
  .intro h'
   have:a=b:=zY.1 h';subst this;rw[Zp.nz] at h;cases h
 .split
  .rename_i h;rw[c];simp[h]
  .rename_i h;rw[c];simp[h]
theorem MT(h:p:=by
 have R:=Z b;have Q:=Z q;clear y C b q
 go_wp2
 go_ret2;rw[R.o,Q.o];exact⟨rfl,o⟩):p:=h
theorem QL(v:Value)(l:List (ByteArray × Value))(s:ByteArray)(w:World)(h:w.ownsRow 0 239 2 v l.length (Z3 l))(hs:Asc zi (l.map Prod.fst))(a6:l.length<4611686018427387904) :
 Calls prog 199 #[v,.string s,.func (.func 200) #[] #[]] w fun e B =>
  e=.returned (.tuple #[I (low zi (l.map Prod.fst) s),.bool (Zb zi (l.map Prod.fst) s)])/\Fr Nil w B:=by
 have T:=zH h;unfold maxLen at T;obtain⟨a,G,rfl⟩:=zf h;go_enter func199,ntmps199
 go_wp2
 go_loopw [9,10] (fun M N B=>∃ i j:Nat,i<=j/\j<=l.length/\M=I i/\N=I j/\(∀ k (f:k<l.length),k<i->zi l[k].1 s=true)/\(∀ k (f:k<l.length),j<=k->zi l[k].1 s=false)/\Fr Nil w B) (fun M N _=>(intOf N).toNat-(intOf M).toNat)
 case atStart=>exact⟨0,l.length,Bg _,CP _,rfl,rfl,fun k _ f=>absurd f (BF _),fun k f a4=>absurd f V,U _ _⟩
 case round =>
  obtain⟨i,j,a3,u,rfl,rfl,y,C,o⟩:=hrel;by_cases D:i<j
  .obtain⟨g,rfl⟩:∃ g,a=some (Y g 0):=by
    exact VU
   have hm:(i+j) / 2<l.length:=V
   have hc:=own_cell? (ze h o (fun _ _=>id)) ((i+j) / 2*2) _ (Z8 l _ hm).1;have J:=own_cell? (ze h o (fun _ _=>id)) ((i+j) / 2*2+1) _ (Z8 l _ hm).2;have H1:=Z y;have H2:=Z C;clear y C;have a0:(i:Int)<=4611686018427387903:=V
   have a1:(j:Int)<=4611686018427387903:=V
   have a2:(i:Int)+j<=9223372036854775807:=V
   have hq:(((i:Int)+j) / 2).toNat=(i+j) / 2:=V
   cases hl:zi l[(i+j) / 2].1 s with
   | true =>
    have A:=Z hl;have K:XJ l[(i+j) / 2].1 s<0:=PA.2 hl;clear hl
    go_wp2_with (go_at_call 200;refine(WK _ _ _ _).mono ?_;rintro e X ⟨rfl,m⟩)
    refine⟨⟨(i+j) / 2+1,j,V,u,by go_num,rfl,fun k f x=>?_,H2.o,o.trans m⟩,by simp[intOf];omega⟩;by_cases e:k=(i+j) / 2
    .subst e;exact A.o
    .exact Zp.trans _ _ _ (hs.fst (i:=k) (j:=(i+j) / 2) V hm) A.o
   | false =>
    have A:=Z hl;have K:¬XJ l[(i+j) / 2].1 s<0:=by rw[PA];simp[hl]
    clear hl
    go_wp2_with (go_at_call 200;refine(WK _ _ _ _).mono ?_;rintro e X ⟨rfl,m⟩)
    refine⟨⟨i,(i+j) / 2,V,V,rfl,by go_num,H1.o,fun k f x=>?_,o.trans m⟩,by simp[intOf];omega⟩;by_cases e:k=(i+j) / 2
    .subst e;exact A.o
    .cases hk2:zi l[k].1 s with
     | false=>rfl
     | true =>
      have:=Zp.trans _ _ _ (hs.fst (i:=(i+j) / 2) (j:=k) V f) hk2;rw[A.o] at this;cases this
  .have he:i=j:=V
   subst he;have b:low zi (l.map Prod.fst) s=i:=VX zi s _ i bC (fun k f x=>by simpa using y k aG x) (fun f=>by simpa using C i aG (CP _));by_cases r:i<l.length
   .obtain⟨g,rfl⟩:∃ g,a=some (Y g 0):=by
     exact VU
    have hc:=own_cell? (ze h o (fun _ _=>id)) (i*2) _ (Z8 l _ r).1;have J:=own_cell? (ze h o (fun _ _=>id)) (i*2+1) _ (Z8 l _ r).2;have q:Zb zi (l.map Prod.fst) s=(XJ l[i].1 s==0):=by
     rw[Wl r b,uB,<- Iv];simp
    have R:=Z b;have Q:=Z q;clear y C b q
    go_wp2_with (go_at_call 200;refine(WK _ _ _ _).mono ?_;rintro e X ⟨rfl,m⟩)
    go_ret2;rw[R.o,Q.o];exact⟨rfl,o.trans m⟩
   .have q:Zb zi (l.map Prod.fst) s=false:=V7 (by rw[b];simpa using r)
    exact MT
theorem Iw:((prog.info? 239).map fun i=>(i.zero.map (·.cells.size),i.size,i.bytes))=some (some 2,2,40):=bI
def TQ(w:World)(c:Option Nat)(n i:Nat)(h f:List Value)(e:Ending)(d:World):Prop :=
 ∃ g a,e=.returned (.slice (some (Y g 0)) (n+1) a)/\d.ownsRow 0 239 2 (.slice (some (Y g 0)) (n+1) a) (n+1) (YH 2 i h f)/\Fr (fun b=>c=some b) w d/\(c=some g\/w.heap.size<=g)
theorem Ix(h:p:=by
 rintro l c ⟨G,K,y⟩;obtain⟨g,m,rfl,_,_⟩:=G.form V;refine⟨g,m,rfl,?_,(Fr.sB K).mono (fun i _ h=>h),?_⟩
 .have e1:k.take (n*2)=k:=Bn aV
  have J:k.drop (n*2)=[]:=BT aV;unfold YH;rw[e1,J,Bz];exact G
 .rcases y with y|y
  .left;rw[<- y];rfl
  .right;have:g=w.heap.size:=by simpa [Value.ownBlock] using y
   omega):p:=h
theorem NE(v:Value)(n:Nat)(k d:List Value)(r:Nat)(w:World)(b:w.ownsRow 0 239 2 v n k)(t:d.length=2)(s:∀ u∈d,u.oneCell'=true)(D:Blk w r d 239)(o:(n+1)*40<=140737488355328) :
 Calls prog 295 #[v,I n,.slice (some (Y r 0)) 1 1] w fun e c=>TQ w v.ownBlock n n k d e c:=by
 have q:∀ ty,∃ l c,(Builtin.append_ #[157,157] ty #[v,.slice (some (Y r 0)) 1 1]).run prog w=.ok l c/\App w v 239 2 (n+1) (k++d) l c:=fun ty =>
  zq (P:=prog) 157 ty 239 2 40 AX Iw V v n k b ⟨r,0,none⟩ 1 1 d (by rw[t]) (fun j u C=>by rw[BO,BQ];rw[D.cell];exact C) s ac o
 have f:∀ l c,App w v 239 2 (n+1) (k++d) l c->TQ w v.ownBlock n n k d (.returned l) c:=by
  exact Ix
 have B:=zH b;unfold maxLen at B;obtain⟨a,m,rfl⟩:=zf b;have x:=Z f;clear f b;generalize (Value.slice a n m).ownBlock=L at x |-;go_enter func295,ntmps295
 go_wp2_with (at_builtin;go_must (refine zm rfl _ _ _ _ rfl _ _ bH bH (q _) ?_);rintro l c A)
 all_goals
  go_ret;exact x.o _ _ A
theorem Iy(w:World)(k m l i h f:Nat)(a g:Nat)(j c:List Value)(d:Blk w a j 239)(p:Blk w g c 239)(b:a≠g)(o:c.length≠0) :
 (callFunc 297 #[.slice (some (Y a k)) m l,.slice (some (Y g i)) h f]).run prog w=.ok (.value (.bool false)) w:=by
 rw[Ag func297 bI bI bI (e:=Extern.SlicesOverlaps.overlaps #[157,157] #[4]) bI,
  wM w 157 4 239 AX 2 sizeOf239 ⟨a,k,none⟩ ⟨g,i,none⟩ m l h f b 239 239 j.length c.length d.pk p.pk o (d.frozen _) (d.frozen _)]
 rfl
theorem Iz(h:p:=by
 rw[t,<- ht,BR (by rw[CN,CR,m];omega),BR (by rw[CR,m];omega),xS,xS]
 congr 1
 omega):p:=h
theorem IA(h:p:=by
 have e0:=BG 2 d;have e1:i*2+2=(i+1)*2:=by rw[yo,vJ]
 have e2:(i+1)*2+(n-i)*2=(n+1)*2:=by rw[<- yo];congr 1;omega
 have e3:=BG 2 (show i<=n from V);refine⟨g,a,rfl,Yw (v.setRow _) d T ?_ ?_,Fr.setRow (S:=fun b=>some g=some b) J (fun _=>rfl) _,.inl rfl⟩
 .rw[CN,CN,CR,Bc,s,q]
  omega
 .unfold YH
  have a1:f.take (i*2)=l.take (i*2):=by
   exact Iz
  have a2:f.drop (i*2+k.length)=l.drop (i*2)++c.drop ((n+1)*2):=by
   have e4:(c.take ((i+1)*2)).length=i*2+k.length:=by rw[CR,m];omega
   rw[t,Be,<- e4,yB,r,e2]
  rw[a1,a2,<- Be,AG (by rw[CN,CN,r,s,CR,B];omega)]):p:=h
theorem IB(h:p:=by
 have:=BG 2 d;have e:(i+1)*2+(n-i)*2=(n+1)*2:=by rw[<- yo];congr 1;omega
 rw[t];simp only[CN,CR,Bc,B,m];omega):p:=h
theorem PB(h:p:=by
 intro j u G;rw[yJ] at G;have b2:=(BL.1 G).1;rw[<- ht,AO V] at G;exact G):p:=h
theorem QM(g n a i:Nat)(c l k:List Value)(A:Nat)(w:World)(Q:Blk w g c 239)(m:c.length=a*2)(ht:c.take (n*2)=l)(h1:∀ u∈l,u.oneCell'=true)(hi:i<n)(d:n+1<=a)(T:a<=maxLen)
 (s:k.length=2)(N:∀ u∈k,u.oneCell'=true)(hv:Blk w A k 239)(R:A≠g) :
 Calls prog 295 #[.slice (some (Y g 0)) n a,I i,.slice (some (Y A 0)) 1 1] w fun e w'=>TQ w (some g) n i l k e w':=by
 have a0:=fun va vl vc bo bl bc=>Iy w va vl vc bo bl bc A g k c hv Q R V;have B:l.length=n*2:=by rw[<- ht,CR,m];exact Ab (BG _ V)
 have r:(l.drop (i*2)).length=(n-i)*2:=by rw[Bc,B,vn]
 have M:∀ j u,(l.drop (i*2))[j]?=some u->c[i*2+j]?=some u:=by
  exact PB
 have o:∀ ty C sc,(Builtin.copy_ #[157,157] ty #[.slice (some (Y g ((i+1)*2))) (n-i) C,.slice (some (Y g (i*2))) (n+1-i) sc]).run prog w.drew=_:=fun ty C sc =>
  ZC 157 239 ty 2 AX bI g ((i+1)*2) (n-i) C ⟨g,i*2,none⟩ (n+1-i) sc c (l.drop (i*2)) 239 Q
   aI (fun j u G=>by rw[BO,show w.drew.cell? (Y g (i*2+j))=c[i*2+j]? from Q.drew.cell _];exact M j u G)
   (by rw[r,m];have:=BG 2 d;have e:(i+1)*2+(n-i)*2=(n+1)*2:=bh;omega)
   (fun u G=>h1 u (Bx G))
 obtain⟨f,t⟩:∃ f,f=c.take ((i+1)*2)++l.drop (i*2)++c.drop ((i+1)*2+(l.drop (i*2)).length):=⟨_,rfl⟩;rw[<- t] at o;have v:Blk (w.drew.setRow g f.toArray) g f 239:=Q.drew.setRow f;have D:Blk (w.drew.setRow g f.toArray) A k 239:=hv.drew.of_heap (xy _ g A _ R);have q:f.length=a*2:=by
  exact IB
 have J:Fr (fun b=>some g=some b) w (w.drew.setRow g f.toArray):=Fr.setRow (S:=fun b=>some g=some b) ((U _ w).drew) (fun _=>rfl) _;obtain⟨X,K⟩:∃ X,X=w.drew.setRow g f.toArray:=⟨_,rfl⟩;rw[<- K] at o v D J;clear K;have x:∀ ty C,(Builtin.copy_ #[157,157] ty #[.slice (some (Y g (i*2))) (n+1-i) C,.slice (some (Y A 0)) 1 1]).run prog X=_:=fun ty C =>
  ZC 157 239 ty 2 AX bI g (i*2) (n+1-i) C ⟨A,0,none⟩ 1 1 f k 239 v
   au (fun j u G=>by rw[BO,BQ,D.cell];exact G)
   (by rw[s,q];have:=BG 2 d;have e:i*2+2=(i+1)*2:=(by rw[yo,vJ]);have:=BG 2 (show i+1<=n+1 from V);omega)
   N
 have y:TQ w (some g) n i l k (.returned (.slice (some (Y g 0)) (n+1) a)) (X.setRow g (f.take (i*2)++k++f.drop (i*2+k.length)).toArray):=by
  exact IA
 obtain⟨c2,L⟩:∃ c2,c2=f.take (i*2)++k++f.drop (i*2+k.length):=⟨_,rfl⟩;rw[<- L] at x y;clear v D J q M Q hv r B h1 N t L ht s m;unfold maxLen at T;have a3:¬(i:Int)=(n:Int):=V
 have a4:¬(a:Int)<(n:Int)+1:=V
 have a5:¬a=i:=V
 have a6:¬a=i+1:=V
 have a7:IntKind.i64.wrap ((i:Int)+1)=(i:Int)+1:=by rw[Bu];omega
 have a8:(0:Int)<=(i:Int)+1:=V
 have a9:((i:Int)+1).toNat=i+1:=V
 have b0:(i:Int)<=(n:Int)+1:=V
 have b1:(i:Int)<=(n:Int):=V
 go_enter func295,ntmps295
 go_wp2_with (simp only[a0])
 go_region_law (refine YT rfl _ _ 157 157 rfl _ _ aj aj (o _ _ _) ?_)
 go_wp2_with (at_builtin;go_must (refine YJ rfl _ _ 157 157 rfl _ _ bH bH (x _ _) ?_))
 go_ret;exact y
theorem IC(h:p:=by
 refine⟨N,c,rfl,Yw (y.drew.setRow _) b2 a1 ?_ ?_,(a2.drew.setRow (fun h=>V) _).mono (fun _ _ h=>absurd h id),.inr V⟩
 .rw[C]
  simp only[CN,CR,Bc,l,k];omega
 .have e:(f.take ((i+1)*2)++b.drop (i*2)).length=(n+1)*2:=by rw[CN,CR,k,x];omega
  rw[C,AG e,Q]
  rfl):p:=h
theorem ID(h:p:=by
 have e:(b.take (i*2)++r).length=(i+1)*2:=by rw[CN,CR,l,v];omega
 rw[M,L];exact AG e):p:=h
theorem IE(h:p:=by
 have e:(b.take (i*2)).length=i*2:=by rw[CR,l];omega
 rw[K,Be];exact AG e):p:=h
theorem Rn(h:p:=by
 rw[K];simp only[CN,CR,yh,size_zeroCells,b3,l];omega):p:=h
theorem Ro(h:p:=by
 rw[M];simp only[CN,CR,Bc,v,t];omega):p:=h
theorem PC(g n i:Nat)(b r:List Value)(vb:Nat)(w:World)(hg:Blk w g b 239)(l:b.length=n*2)(h1:∀ u∈b,u.oneCell'=true)(hi:i<n)
 (v:r.length=2)(a6:∀ u∈r,u.oneCell'=true)(hv:Blk w vb r 239)(a5:(n+1)*40<=140737488355328) :
 Calls prog 295 #[.slice (some (Y g 0)) n n,I i,.slice (some (Y vb 0)) 1 1] w fun e w'=>TQ w (some g) n i b r e w':=by
 obtain⟨i0,z,a9,b1,X,J,b3⟩:=ZK Iw;have q:i+(n+1-i)=n+1:=V
 have a:∀ ty,(Builtin.append_ #[157,3] ty #[.slice (some (Y g 0)) i n,I ((n+1-i:Nat):Int)]).run prog w=_:=fun ty =>
  wt (P:=prog) w 157 3 ty 239 i0 z .i64 .i64 AX we a9 b1 (some (Y g 0)) i n (b.take (i*2))
   (by rw[X];exact xo (P:=prog) w.drew 2 i ⟨g,0,none⟩ i n (b.take (i*2)) (by rw[CR,l];omega) (fun j u s=>by
     have b4:=(BL.1 s).1;rw[BO,BQ,hg.drew.cell];rw[CR] at b4;rw[AO V] at s;exact s))
   (n+1-i) V (by rw[X];omega) V V (by rw[J];omega) (wI V (by rw[J,q];exact a5))
 rw[q] at a;have b2:=uE w (n+1) n 239;have a1:=wB w (n+1) n 239 ac;generalize grownCap w (n+1) n 239=c at a b2 a1;obtain⟨d,K⟩:∃ d:List Value,d=b.take (i*2)++(Builtin.zeroCells z.cells (n+1-i)).toList++(Builtin.zeroCells z.cells (c-(n+1))).toList:=⟨_,rfl⟩;have A:(b.take (i*2)).toArray++Builtin.zeroCells z.cells (n+1-i)++Builtin.zeroCells z.cells (c-(n+1))=d.toArray:=by rw[K];apply xQ;simp
 rw[A] at a;have t:d.length=c*2:=by
  exact Rn
 have L:d.take (i*2)=b.take (i*2):=by
  exact IE
 have a8:=hg.lt;have b0:=hv.lt;have o:Blk (w.drew.alloc (.cells d.toArray 239)) w.heap.size d 239:=Blk.new w.drew d _;have a0:Blk (w.drew.alloc (.cells d.toArray 239)) vb r 239:=hv.drew.alloc _;have S:Blk (w.drew.alloc (.cells d.toArray 239)) g b 239:=hg.drew.alloc _;have R:Fr Nil w (w.drew.alloc (.cells d.toArray 239)):=((U _ w).drew).alloc _;obtain⟨N,hN⟩:∃ N,N=w.heap.size:=⟨_,rfl⟩;rw[<- hN] at a o a8 b0;obtain⟨D,a3⟩:∃ D,D=w.drew.alloc (.cells d.toArray 239):=⟨_,rfl⟩;rw[<- a3] at a o a0 S R;clear a3;obtain⟨f,M⟩:∃ f,f=d.take (i*2)++r++d.drop (i*2+r.length):=⟨_,rfl⟩;have m:∀ ty G,(Builtin.copy_ #[157,157] ty #[.slice (some (Y N (i*2))) (n+1-i) G,.slice (some (Y vb 0)) 1 1]).run prog D=_:=fun ty G =>
  ZC 157 239 ty 2 AX bI N (i*2) (n+1-i) G ⟨vb,0,none⟩ 1 1 d r 239 o
   av (fun j u s=>by rw[BO,BQ,a0.cell];exact s)
   (by rw[v,t];omega)
   a6
 rw[<- M] at m;have k:f.length=c*2:=by
  exact Ro
 have Q:f.take ((i+1)*2)=b.take (i*2)++r:=by
  exact ID
 have y:Blk (D.setRow N f.toArray) N f 239:=o.setRow f;have T:Blk (D.setRow N f.toArray) g b 239:=S.of_heap (xy _ N g _ V);have a2:Fr Nil w (D.setRow N f.toArray):=R.setRow (fun h=>V) _;obtain⟨W2,a4⟩:∃ W2,W2=D.setRow N f.toArray:=⟨_,rfl⟩;rw[<- a4] at m y T a2;clear a4;have x:(b.drop (i*2)).length=(n-i)*2:=by rw[Bc,l,vn]
 obtain⟨c3,C⟩:∃ c3,c3=f.take ((i+1)*2)++b.drop (i*2)++f.drop ((i+1)*2+(b.drop (i*2)).length):=⟨_,rfl⟩;have B:∀ ty G sc,(Builtin.copy_ #[157,157] ty #[.slice (some (Y N ((i+1)*2))) (n-i) G,.slice (some (Y g (i*2))) (n-i) sc]).run prog W2.drew=_:=fun ty G sc =>
  ZC 157 239 ty 2 AX bI N ((i+1)*2) (n-i) G ⟨g,i*2,none⟩ (n-i) sc f (b.drop (i*2)) 239 y.drew
   aJ (fun j u s=>by rw[BO,T.drew.cell];rw[yJ] at s;exact s)
   (by rw[x,k];omega)
   (fun u s=>h1 u (Bx s))
 rw[<- C] at B;have a7:TQ w (some g) n i b r (.returned (.slice (some (Y N 0)) (n+1) c)) (W2.drew.setRow N c3.toArray):=by
  exact IC
 clear L Q A C M K o a0 S R y T a2 x k t h1 a6 v l hv hg hN q b3 J X b1 a9;unfold maxLen at a1;have b5:¬(i:Int)=(n:Int):=V
 have b6:¬n=i:=V
 have b7:¬c=i+1:=V
 have b8:¬c=i:=V
 have b9:(n:Int)+1-i=((n+1-i:Nat):Int):=V
 have c0:IntKind.i64.wrap ((i:Int)+1)=(i:Int)+1:=by rw[Bu];omega
 have c4:(0:Int)<=(i:Int)+1:=V
 have c5:((i:Int)+1).toNat=i+1:=V
 have c6:(i:Int)<=(n:Int)+1:=V
 have c7:(i:Int)<=(n:Int):=V
 go_enter func295,ntmps295
 go_wp2_with (at_builtin;go_must (first|(refine wV _ rfl _ _ _ _ rfl _ _ bH bH _ _ (a _) ?_)|(refine YJ rfl _ _ 157 157 rfl _ _ bH bH (m _ _) ?_)))
 go_region_law (refine YT rfl _ _ 157 157 rfl _ _ aj aj (B _ _ _) ?_)
 go_wp2
 go_ret;exact a7
theorem QN(v:Value)(n i:Nat)(k d:List Value)(j:Nat)(w:World)(b:w.ownsRow 0 239 2 v n k)(r:∀ u∈k,u.oneCell'=true)(B:i<=n)
 (h:d.length=2)(f:∀ u∈d,u.oneCell'=true)(q:Blk w j d 239)(p:v.ownBlock≠some j)(a:(n+1)*40<=140737488355328) :
 Calls prog 295 #[v,I i,.slice (some (Y j 0)) 1 1] w fun e A=>TQ w v.ownBlock n i k d e A:=by
 rcases Az i n with m|y
 .rcases YG b with⟨_,h0,_⟩|⟨g,cap,c,rfl,hg,hn,hm,hc,ht⟩
  .omega
  .have hne':j≠g:=fun e=>p bF
   rcases Az n cap with t|t
   .exact QM g n cap i c k d j w hg hc ht r m t hm h f q hne'
   .have e:cap=n:=V
    subst e;have o:c=k:=by rw[<- ht];exact(Bn V).symm
    subst o;exact PC g cap i c d j w hg hc r m h f q a
 .have e:i=n:=V
  subst e;exact NE v i k d j w b h f q a
theorem Ck:((prog.info? 239).map fun i=>(i.zero.map (·.cells.size),i.size,i.bytes))=some (some 2,2,40):=bI
theorem Cn:((prog.info? 239).map fun i=>(i.zero.map fun z=>z.cells.toList.all (·.oneCell')))=some (some true):=bI
theorem IF(h:p:=by
 refine⟨d.take ((n-1)*2)++zs++d.drop ((n-1)*2+zs.length),?_,?_,fun ty=>a0⟩
 .simp only[CN,CR,Bc,a8,f]
  omega
 .have e:(d.take ((n-1)*2)).length=(n-1)*2:=by rw[CR,f];omega
  rw[Be,AG e,J]):p:=h
theorem Co(h:p:=by
 by_cases h:a=i+1
 .refine⟨⟨g,0,none⟩,by simp[h],fun j u y=>?_⟩
  have:=(BL.1 y).1;omega
 .refine⟨⟨g,(i+1)*2,none⟩,by simp[h],fun j u y=>?_⟩
  rw[BO,hg.drew.cell];exact a4 j u y):p:=h
theorem IG(h:p:=by
 have e:(c.take (i*2)++D).length=(n-1)*2:=by rw[CN,CR,B,r];omega
 rw[q,AG e];unfold YI;rw[<- C,<- ht,xS]
 congr 2
 omega):p:=h
theorem Cp(h:p:=by
 intro j u y;rw[C,yJ] at y;have b3:=(BL.1 y).1;rw[<- ht,AO V] at y;exact y):p:=h
theorem IH(h:p:=by
 intro e he;exact⟨_,he,rfl,Yw (s.setRow _) V a2 K L,Fr.setRow (S:=fun b=>some g=some b) M (fun _=>rfl) _⟩):p:=h
theorem MU(h:p:=by
 rw[Q] at this;simp only[Option.map_some,R] at this;exact List.all_eq_true.1 (BA (BA this))):p:=h
theorem EU(h:p:=by
 go_enter func278,ntmps278;go_wp2_with fail
 go_region_law (refine RV rfl _ _ 66 66 rfl _ _ aj aj (k _ (a-(i+1))) ?_)
 go_wp2
 go_ret;exact N _ rfl):p:=h
theorem EV(h:p:=by
 go_enter func294,ntmps294;go_wp2_with fail
 go_region_law (refine RV rfl _ _ 157 157 rfl _ _ aj aj (k _ (a-(i+1))) ?_)
 go_wp2
 go_ret;exact N _ rfl):p:=h
theorem MV(h:p:=by
 clear L K J f q s M a4 B C hg a7 h1 X a3 a6 R Q T r ht;have a5:(Value.slice (some (Y g 0)) n a).ownBlock=some g:=rfl;rw[a5];clear a5;unfold maxLen at a2;have b2:i<=a:=V
 have b4:¬(i:Int)=(i:Int)+1:=V
 have b5:¬a=n-1:=V
 have b6:IntKind.i64.wrap ((i:Int)+1)=(i:Int)+1:=by rw[Bu];omega
 have b7:(0:Int)<=(i:Int)+1:=V
 have b8:((i:Int)+1).toNat=i+1:=V
 have b9:(i:Int)<=(n:Int):=V
 have c0:(i:Int)+1<=(n:Int):=V
 first
  | (clear b0;exact EV)
  | exact EU):p:=h
theorem EW(h:p:=by
 have k:∀ ty sc,(Builtin.append_ #[66,66] ty #[.slice (some (Y g 0)) i a,.slice (some ad) (n-(i+1)) sc]).run prog w.drew=_:=fun ty sc =>
  UC (P:=prog) 66 75 ty 2 yq bI g i (n-(i+1)) a sc ad c D hg.drew V r B a1.o (fun u y=>h1 u (by rw[C] at y;exact Bx y))
 have e1:i+(n-(i+1))=n-1:=V
 rw[e1] at k;obtain⟨d,q⟩:∃ d,d=c.take (i*2)++D++c.drop (i*2+D.length):=⟨_,rfl⟩;rw[<- q] at k;have f:d.length=a*2:=by
  rw[q];simp only[CN,CR,Bc,B,r];omega
 have J:d.take ((n-1)*2)=YI 2 i x:=by
  exact IG
 have s:Blk (w.drew.setRow g d.toArray) g d 75:=hg.drew.setRow d;have M:Fr (fun b=>some g=some b) w (w.drew.setRow g d.toArray):=Fr.setRow (S:=fun b=>some g=some b) ((U _ w).drew) (fun _=>rfl) _;obtain⟨o,G⟩:∃ o,o=w.drew.setRow g d.toArray:=⟨_,rfl⟩;rw[<- G] at k s M;clear G;have l:∀ cc,∃ A:List Value,A.length=a*2/\A.take ((n-1)*2)=YI 2 i x/\∀ ty,(Builtin.clear_ #[66] ty #[.slice (some (Y g ((n-1)*2))) (n-(n-1)) cc]).run prog o=.ok (.tuple #[]) (o.setRow g A.toArray):=by
  intro cc;have e2:n-(n-1)=1:=V
  rw[e2];obtain⟨zs,a8,a0⟩:=Sc (P:=prog) (w:=o) 66 75 75 i0 z 2 yq Q R X T g ((n-1)*2) 1 cc d 75 s (by rw[f];omega);exact IF
 obtain⟨A,K,L,l⟩:=l (a-(n-1));have N:∀ e,e=Ending.returned (.slice (some (Y g 0)) (n-1) a)->∃ t,e=.returned t/\t.ownBlock=some g/\(o.setRow g A.toArray).ownsRow 0 75 2 t (n-1) (YI 2 i x)/\Fr (fun b=>some g=some b) w (o.setRow g A.toArray):=by
  exact IH
 exact MV):p:=h
theorem EX(h:p:=by
 have k:∀ ty sc,(Builtin.append_ #[157,157] ty #[.slice (some (Y g 0)) i a,.slice (some ad) (n-(i+1)) sc]).run prog w.drew=_:=fun ty sc =>
  UC (P:=prog) 157 239 ty 2 AX bI g i (n-(i+1)) a sc ad c D hg.drew V r B a1.o (fun u y=>h1 u (by rw[C] at y;exact Bx y))
 have e1:i+(n-(i+1))=n-1:=V
 rw[e1] at k;obtain⟨d,q⟩:∃ d,d=c.take (i*2)++D++c.drop (i*2+D.length):=⟨_,rfl⟩;rw[<- q] at k;have f:d.length=a*2:=by
  rw[q];simp only[CN,CR,Bc,B,r];omega
 have J:d.take ((n-1)*2)=YI 2 i x:=by
  exact IG
 have s:Blk (w.drew.setRow g d.toArray) g d 239:=hg.drew.setRow d;have M:Fr (fun b=>some g=some b) w (w.drew.setRow g d.toArray):=Fr.setRow (S:=fun b=>some g=some b) ((U _ w).drew) (fun _=>rfl) _;obtain⟨o,G⟩:∃ o,o=w.drew.setRow g d.toArray:=⟨_,rfl⟩;rw[<- G] at k s M;clear G;have l:∀ cc,∃ A:List Value,A.length=a*2/\A.take ((n-1)*2)=YI 2 i x/\∀ ty,(Builtin.clear_ #[157] ty #[.slice (some (Y g ((n-1)*2))) (n-(n-1)) cc]).run prog o=.ok (.tuple #[]) (o.setRow g A.toArray):=by
  intro cc;have e2:n-(n-1)=1:=V
  rw[e2];obtain⟨zs,a8,a0⟩:=Sc (P:=prog) (w:=o) 157 239 239 i0 z 2 AX Q R X T g ((n-1)*2) 1 cc d 239 s (by rw[f];omega);exact IF
 obtain⟨A,K,L,l⟩:=l (a-(n-1));have N:∀ e,e=Ending.returned (.slice (some (Y g 0)) (n-1) a)->∃ t,e=.returned t/\t.ownBlock=some g/\(o.setRow g A.toArray).ownsRow 0 239 2 t (n-1) (YI 2 i x)/\Fr (fun b=>some g=some b) w (o.setRow g A.toArray):=by
  exact IH
 have b0:=0;exact MV):p:=h
theorem MW(h:p:=by
 have a7:x.length=n*2:=m.1;clear m;obtain⟨D,C⟩:∃ D,D=x.drop ((i+1)*2):=⟨_,rfl⟩;have B:D.length=(n-(i+1))*2:=by rw[C,Bc,a7];omega
 have a4:∀ j u,D[j]?=some u->c[(i+1)*2+j]?=some u:=by
  exact Cp
 obtain⟨ad,b1,a1⟩:∃ ad:Addr,(if a=i+1 then some ((Y g 0):Addr) else some (Y g ((i+1)*2)))=some ad/\aa (∀ j u,D[j]?=some u->w.drew.cell? (ad.add j)=some u):=by
  exact Co
 first
  | (clear a9;exact EX)
  | exact EW):p:=h
theorem QO(v:Value)(n i:Nat)(x:List Value)(w:World)(m:w.ownsRow 0 239 2 v n x)(h1:∀ u∈x,u.oneCell'=true)(hi:i<n) :
 Calls prog 294 #[v,I i,I ((i:Int)+1)] w fun e w' =>
  ∃ t,e=.returned t/\t.ownBlock=v.ownBlock/\w'.ownsRow 0 239 2 t (n-1) (YI 2 i x)/\Fr (fun b=>v.ownBlock=some b) w w':=by
 rcases YG m with⟨_,h0,_⟩|⟨g,a,c,rfl,hg,hn,a2,r,ht⟩
 .omega
 obtain⟨i0,z,Q,R,a6,a3,X⟩:=ZK Ck;have T:∀ u∈z.cells.toList,u.oneCell'=true:=by
  have:=Cn;exact MU
 have a9:=0;exact MW
end Go.Proofs.YtkhnggkkiefcdaaGreatDoor
