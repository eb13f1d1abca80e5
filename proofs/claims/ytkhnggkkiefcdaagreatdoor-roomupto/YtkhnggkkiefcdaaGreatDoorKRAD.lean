/- larder: joined texts -/
import Derived.Test.YtkhnggkkiefcdaaGreatDoorKRAA
import Derived.Test.YtkhnggkkiefcdaaGreatDoorKRAC
import Derived.Test.YtkhnggkkiefcdaaGreatDoorChecked
import Derived.Laws.StructEq
namespace Go.Proofs.YtkhnggkkiefcdaaGreatDoor
open Go.RowKit
set_option maxRecDepth 100000
set_option maxHeartbeats 8000000
def Dir.idx(d:Dir)(a:ByteArray):Option Nat:=d.findIdx? (fun e=>e.1==a)
theorem Rx(d:Dir)(a:ByteArray) :
 (zT d a=-1/\Dir.idx d a=none)\/∃ k:Nat,k<d.length/\zT d a=k/\Dir.idx d a=some k:=by
 unfold zT Dir.idx;cases hf:d.findIdx? (fun e=>e.1==a) with
 | none=>exact .inl ⟨rfl,rfl⟩
 | some k =>
  rw[EJ] at hf;obtain⟨b,_⟩:=hf;exact .inr ⟨k,b,rfl,rfl⟩
def DM.remove(M:DM)(a:ByteArray):Int × DM :=
 match M.dir.idx a with
 | none=>(11,M)
 | some k=>(M.Aw.2.1,if M.Aw.1=true then M.Aw.2.2.AL (M.Aw.2.2.dir.take k++M.Aw.2.2.dir.drop (k+1)) else M.Aw.2.2)
theorem Ry(d:Dir):∀ k,flat (d.take k)=(flat d).take (k*2):=by
 induction d with
 | nil=>intro k;simp[flat]
 | cons e d b =>
  intro k;cases k with
  | zero=>rfl
  | succ k =>
   have a:(k+1)*2=k*2+2:=by omega
   have:=b k;simp only[flat,FN,Fg,a] at this |-;rw[this]
   rfl
theorem Rz(d:Dir):∀ k,flat (d.drop k)=(flat d).drop (k*2):=by
 induction d with
 | nil=>intro k;simp[flat]
 | cons e d b =>
  intro k;cases k with
  | zero=>rfl
  | succ k =>
   have a:(k+1)*2=k*2+2:=by omega
   have:=b k;simp only[flat,FN,FR,a] at this |-;rw[this]
   rfl
theorem QS{w:World}{e:TypeId}{size g n c:Nat}{d:List Value}(h:w.ownsRow 0 e size (.slice (some ⟨g,0,none⟩) n c) n d)(p:Nat)(a:List Value)
 (i:∀ j u,a[j]?=some u->d[p+j]?=some u):∀ j u,a[j]?=some u->w.cell? ((⟨g,p,none⟩:Addr).add j)=some u:=by
 intro j u f;have b:(⟨g,p,none⟩:Addr).add j=⟨g,p+j,none⟩:=by unfold Addr.add;split <;> simp_all
 rw[b];exact own_cell? h _ _ (i j u f)
theorem VO{i j l:World}{b:Nat}{L:DL}{M:DM}{v e:Value}{d:Dir}(m:DRep l b (L.AL v e) (M.AL d))(a:Fr Nil i j)(p:∀ k,v.ownBlock=some k->i.heap.size<=k)
 (g:Fr (fun k=>k=b\/L.yL.ownBlock=some k) j l)(f:e.ownBlock=L.yL.ownBlock\/∃ k,e.ownBlock=some k/\j.heap.size<=k):DStep b L M i (L.AL v e) (M.AL d) l where
 AK:=m
 fr:=by
  refine Fr.trans' (a.mono (fun _ _=>False.elim)) g ?_;intro k _ c;rcases c with rfl|c
  .exact .Ay
  .exact .ch c
 AX:=by
  intro k c;have o:=a.size;rcases c.xl with h|h|h
  .exact .inr (p k h)
  .rcases f with h'|⟨k',h',hle⟩
   .rw[h'] at h;exact .inl (.ch h)
   .rw[h'] at h;simp at h;exact .inr (by omega)
  .exact .inl h
theorem Mh{w c m o:World}{v l:Value}{e:TypeId}{size n r:Nat}{s d:List Value}(g:App w (.slice none 0 0) e size n s v c)(j:Fr Nil c m)(i:App m v e size r d l o) :
 Fr Nil w o/\∀ k,l.ownBlock=some k->w.heap.size<=k:=by
 have b:∀ k,v.ownBlock=some k->w.heap.size<=k:=by
  intro k b;rcases g.at_ with h|h
  .rw[h] at b;simp[Value.ownBlock] at b
  .rw[h] at b;simp at b;omega
 have f:Fr Nil w c:=g.fr.mono (fun _ _ h=>by simp[Value.ownBlock] at h);refine⟨Fr.trans' (f.trans j) i.fr (fun k q p=>by have:=b k p;omega),?_⟩;intro k a;rcases i.at_ with h|h
 .rw[h] at a;exact b k a
 .rw[h] at a;simp at a
  have:=(f.trans j).size;omega
theorem Ol(a:ByteArray)(w:World)(b:Nat)(L:DL)(M:DM)(h:DRep w b L M)(d:zT M.dir a=-1) :
 Calls Tryz.prog 184 #[.pointer (some ⟨b,0,none⟩),.string a] w fun e j =>
  e=.returned (.int .i64 11)/\DStep b L M w L M j:=by
 have g:=h.Ay.cell;simp only[DM.cells] at g;have c:=Z h;have f:=Z d;clear h d;go_enter Tryz.func184,Tryz.ntmps184
 go_wp2_with (go_at_call 87;refine(Yx f.out _ c.out.dir).mono ?_;rintro e k ⟨rfl,i⟩)
 go_ret;exact⟨rfl,DStep.look c.out i⟩
theorem MM(a:ByteArray)(w:World)(b:Nat)(L:DL)(M:DM)(h:DRep w b L M)(k:Nat)(_:k<M.dir.length)(g:zT M.dir a=k)(i:M.Aw.1=false) :
 Calls Tryz.prog 184 #[.pointer (some ⟨b,0,none⟩),.string a] w fun e q =>
  e=.returned (.int .i64 M.Aw.2.1)/\DStep b L M w L M.Aw.2.2 q:=by
 have o:=h.Ay.cell;have c:=zL h.dir;unfold maxLen at c;simp only[DM.cells] at o;have d:=Z h;have l:=Z g;have m:=Z i;clear h g i;go_enter Tryz.func184,Tryz.ntmps184;go_wp2_with fail;refine(zX l.out _ d.out.dir).mono ?_;rintro e r ⟨rfl,j⟩;go_wp2_with fail;have f:=zV r b L M (d.out.fr j (fun _ _=>id));rw[m.out] at f;refine f.mono ?_;rintro e s ⟨rfl,p⟩
 go_wp2
 go_ret;exact⟨rfl,(DStep.look d.out j).trans p⟩
theorem Om(B:ByteArray)(w:World)(b:Nat)(L:DL)(M:DM)(h:DRep w b L M)(k:Nat)(hk:k<M.dir.length)(h1:zT M.dir B=k)(hd:M.Aw.1=true)
 (hn:M.AA.length+1<=1000000000000)(hm:M.dir.length+1<=1000000000000) :
 Calls Tryz.prog 184 #[.pointer (some ⟨b,0,none⟩),.string B] w fun e w' =>
  e=.returned (.int .i64 M.Aw.2.1)/\∃ L',DStep b L M w L' (M.Aw.2.2.AL (M.Aw.2.2.dir.take k++M.Aw.2.2.dir.drop (k+1))) w':=by
 have R:=h.Ay.cell;have Y:=zL h.dir;unfold maxLen at Y;simp only[DM.cells] at R;have HH:=Z h;have H1:=Z h1;have HD:=Z hd;clear h h1 hd;go_enter Tryz.func184,Tryz.ntmps184;go_wp2_with fail;refine(zX H1.out _ HH.out.dir).mono ?_;rintro e w1 ⟨rfl,hf⟩;go_wp2_with fail;have HB:=zV w1 b L M (HH.out.fr hf (fun _ _=>id));rw[HD.out] at HB;refine HB.mono ?_;rintro e w2 ⟨rfl,S⟩;clear R HB;have y:=M.AB;have b0:M.Aw.2.2.dir.length+1<=1000000000000:=by rw[y.1];exact hm
 have X:M.Aw.2.2.AA.length+1<=1000000000000:=by rw[y.2.2.1];exact hn
 have a3:k<M.Aw.2.2.dir.length:=by rw[y.1];exact hk
 clear y;have R:=S.AK.Ay.cell;simp only[DM.cells] at R;obtain⟨g,J,hv,a5,a0⟩:=zy S.AK.dir (by omega);unfold maxLen at a0;rw[hv] at R;have q:=S.AK.dir;rw[hv] at q;have s:=Z S;have T:=Z q;have HV:=Z hv;have b1:=S.AK.Ay.lt;clear S q hv;generalize t:M.Aw.2.2=a at *;have a8:¬J=0:=by omega
 have V:=Of a.dir;have D:=Z V;clear V
 go_wp2_with (at_builtin;go_must (refine zI rfl _ _ _ _ rfl _ _ (by rfl) (by rfl) (zw 140 _ 148 2 24 En Y2 (by decide) _ _ _ (GK _ 0 _ _)
  ⟨g,0,none⟩ k J ((flat a.dir).take (k*2)) (by rw[Gd,D.out];omega) (QS T.out 0 _ ?n1) (fun u hu=>Tv _ u (GN hu)) (by unfold maxLen;omega) (by omega)) ?_))
 case n1 =>
  intro j u x;rw[List.getElem?_take] at x;split at x
  .simpa using x
  .cases x
 intro v1 w3 ha;have HA:=Z ha;obtain⟨a1,c1,a4⟩:=zg ha.own;have a2:Fr Nil w2 w3:=ha.fr.mono (fun _ _ h=>by simp[Value.ownBlock] at h);have A:=s.out.AK.fr a2 (fun _ _=>id);have v:=A.Ay.cell;simp only[DM.cells] at v;rw[HV.out] at v;have i:=A.dir;rw[HV.out] at i;have G:=Z i;have a6:=Z A;clear ha A R i;subst a4;have o:∀ j u,((flat a.dir).drop ((k+1)*2))[j]?=some u->(flat a.dir)[k*2+2+j]?=some u:=by
  intro j u x;rw[FY] at x;rw[<- x];congr 1;omega
 have HN:=Z o;clear o;have a9:k+1<=a.dir.length:=a3;have ek:(k+1)*2=k*2+2:=by omega
 by_cases a7:J=k+1
 .have hlen0:a.dir.length-(k+1)=0:=by omega
  go_wp2_with (at_builtin;go_must (refine zI rfl _ _ _ _ rfl _ _ (by rfl) (by rfl) (zw 140 _ 148 2 24 En Y2 (by decide) _ _ _ HA.out.own
   ⟨g,0,none⟩ 0 _ [] rfl (by intro j u x;simp at x) (by intro u hu;cases hu) (by unfold maxLen;omega) (by omega)) ?_))
  intro v2 w4 m;have c:App w3 (.slice a1 k c1) 148 2 (a.dir.take k++a.dir.drop (k+1)).length (flat (a.dir.take k++a.dir.drop (k+1))) v2 w4:=by
   have e1:(a.dir.take k++a.dir.drop (k+1)).length=k+(a.dir.length-(k+1)):=by simp;omega
   rw[e1,Xh,Ry,Rz];have e2:(flat a.dir).drop ((k+1)*2)=[]:=GL (by rw[Gk,D.out];omega);rw[hlen0,e2]
   simpa using m
  obtain⟨f,r⟩:=Mh HA.out (U _ _) c;have p:=s.out.AK.fr f (fun _ _=>id);have d:∀ e,e∈a.dir.take k++a.dir.drop (k+1)->e.2∈a.ids:=by
   intro e l;simp only[Gf] at l;rcases l with l|l
   .exact s.out.AK.yt e (GN l)
   .exact s.out.AK.yt e (GB l)
  have HT:=Z (XH v2 (a.dir.take k++a.dir.drop (k+1)) w4 b _ _ p c.own d X);have C:=Z f;have I:=Z r;have E:=Z t;clear m c d p f r v t;go_wp2_with fail;refine HT.out.mono ?_;rintro e w5 ⟨rfl,cv,O,N,K⟩;have Q:=VO O C.out I.out N K
  go_wp2
  go_ret;obtain rfl:=E.out;exact⟨rfl,_,(DStep.look HH.out hf).trans (s.out.trans Q)⟩
 .go_wp2_with (at_builtin;go_must (refine zI rfl _ _ _ _ rfl _ _ (by rfl) (by rfl) (zw 140 _ 148 2 24 En Y2 (by decide) _ _ _ HA.out.own
   ⟨g,k*2+2,none⟩ (a.dir.length-(k+1)) _ ((flat a.dir).drop ((k+1)*2)) (by rw[Gk,D.out];omega) (QS G.out (k*2+2) _ HN.out) (fun u hu=>Tv _ u (GB hu)) (by unfold maxLen;omega) (by omega)) ?_))
  intro v2 w4 m;have c:App w3 (.slice a1 k c1) 148 2 (a.dir.take k++a.dir.drop (k+1)).length (flat (a.dir.take k++a.dir.drop (k+1))) v2 w4:=by
   have e1:(a.dir.take k++a.dir.drop (k+1)).length=k+(a.dir.length-(k+1)):=by simp;omega
   rw[e1,Xh,Ry,Rz];rw[ek];exact m
  obtain⟨f,r⟩:=Mh HA.out (U _ _) c;have p:=s.out.AK.fr f (fun _ _=>id);have d:∀ e,e∈a.dir.take k++a.dir.drop (k+1)->e.2∈a.ids:=by
   intro e l;simp only[Gf] at l;rcases l with l|l
   .exact s.out.AK.yt e (GN l)
   .exact s.out.AK.yt e (GB l)
  have HT:=Z (XH v2 (a.dir.take k++a.dir.drop (k+1)) w4 b _ _ p c.own d X);have C:=Z f;have I:=Z r;have E:=Z t;clear m c d p f r v t;go_wp2_with fail;refine HT.out.mono ?_;rintro e w5 ⟨rfl,cv,O,N,K⟩;have Q:=VO O C.out I.out N K
  go_wp2
  go_ret;obtain rfl:=E.out;exact⟨rfl,_,(DStep.look HH.out hf).trans (s.out.trans Q)⟩
theorem QT(a:ByteArray)(w:World)(b:Nat)(L:DL)(M:DM)(h:DRep w b L M)(o:M.AA.length+1<=1000000000000)(m:M.dir.length+1<=1000000000000) :
 Calls Tryz.prog 184 #[.pointer (some ⟨b,0,none⟩),.string a] w fun e i =>
  e=.returned (.int .i64 (M.remove a).1)/\∃ l,DStep b L M w l (M.remove a).2 i:=by
 rcases Rx M.dir a with⟨f,g⟩|⟨k,j,f,g⟩
 .refine(Ol a w b L M h f).mono fun e i ⟨c,d⟩=>?_
  simp only[DM.remove,g];exact⟨c,L,d⟩
 .cases hd:M.Aw.1 with
  | false =>
   refine(MM a w b L M h k j f hd).mono fun e i ⟨c,d⟩=>?_;simp only[DM.remove,g,hd];exact⟨c,L,d⟩
  | true =>
   refine(Om a w b L M h k j f hd o m).mono fun e i ⟨c,d⟩=>?_;simp only[DM.remove,g,hd];exact⟨c,d⟩
def Y3(d:Dir)(i:Nat)(a:ByteArray)(k:Nat):Dir :=
 (List.range k).flatMap fun j=>match d[j]? with
   | some e=>if j≠i/\(e.1==a)=false then [e] else []
   | none=>[]
theorem RA(d:Dir)(i:Nat)(a:ByteArray)(k:Nat)(h:k<d.length) :
 Y3 d i a (k+1)=Y3 d i a k++(if k≠i/\(d[k].1==a)=false then [d[k]] else []):=by
 unfold Y3;rw[Ac,List.flatMap_append];simp[h]
theorem ID(d:Dir)(i:Nat)(a:ByteArray):∀ k,(Y3 d i a k).length<=k:=by
 intro k
 induction k with
 | zero=>simp[Y3]
 | succ k b =>
  unfold Y3 at b |-;rw[Ac,List.flatMap_append,Ga];have:(List.flatMap (fun j=>match d[j]? with
   | some e=>if j≠i/\(e.1==a)=false then [e] else []
   | none=>[]) [k]).length<=1:=by
   simp only[FN,List.flatMap_nil,GI];cases d[k]? with
   | none=>simp
   | some e=>dsimp only;split <;> simp
  omega
theorem JJ(d:Dir)(i:Nat)(b:ByteArray)(k:Nat)(e:ByteArray × Nat)(h:e∈Y3 d i b k):e∈d:=by
 unfold Y3 at h;simp only[DX,Cs] at h;obtain⟨j,_,a⟩:=h;cases hd:d[j]? with
 | none=>rw[hd] at a;cases a
 | some x =>
  rw[hd] at a
  dsimp only at a
  split at a
  .simp at a;subst a;exact fFS hd
  .cases a
def Dir.renamed(d:Dir)(i:Nat)(a:ByteArray):Dir:=Y3 d i a d.length++(match d[i]? with|some e=>[(a,e.2)]|none=>[])
def DM.rename(M:DM)(b a:ByteArray):Int × DM :=
 match M.dir.idx b with
 | none=>(11,M)
 | some i=>if a=ByteArray.empty then(11,M) else
  (M.Aw.2.1,if M.Aw.1=true then M.Aw.2.2.AL (M.Aw.2.2.dir.renamed i a) else M.Aw.2.2)
theorem On(c a:ByteArray)(w:World)(b:Nat)(L:DL)(M:DM)(h:DRep w b L M)(f:zT M.dir c=-1) :
 Calls Tryz.prog 212 #[.pointer (some ⟨b,0,none⟩),.string c,.string a] w fun e k =>
  e=.returned (.int .i64 11)/\DStep b L M w L M k:=by
 have i:=h.Ay.cell;simp only[DM.cells] at i;have d:=Z h;have g:=Z f;clear h f;go_enter BO,Bo
 go_wp2_with (go_at_call 87;refine(Yx g.out _ d.out.dir).mono ?_;rintro e l ⟨rfl,j⟩)
 go_ret;exact⟨rfl,DStep.look d.out j⟩
theorem QU(a:ByteArray)(w:World)(b:Nat)(L:DL)(M:DM)(h:DRep w b L M)(k:Nat)(_:k<M.dir.length)(d:zT M.dir a=k) :
 Calls Tryz.prog 212 #[.pointer (some ⟨b,0,none⟩),.string a,.string ByteArray.empty] w fun e j =>
  e=.returned (.int .i64 11)/\DStep b L M w L M j:=by
 have g:=h.Ay.cell;simp only[DM.cells] at g;have c:=Z h;have f:=Z d;clear h d;go_enter BO,Bo
 go_wp2_with (go_at_call 87;refine(zX f.out _ c.out.dir).mono ?_;rintro e l ⟨rfl,i⟩)
 go_ret;exact⟨rfl,DStep.look c.out i⟩
theorem MN(c a:ByteArray)(w:World)(b:Nat)(L:DL)(M:DM)(h:DRep w b L M)(k:Nat)(_:k<M.dir.length)(g:zT M.dir c=k)(j:¬a=ByteArray.empty)(i:M.Aw.1=false) :
 Calls Tryz.prog 212 #[.pointer (some ⟨b,0,none⟩),.string c,.string a] w fun e s =>
  e=.returned (.int .i64 M.Aw.2.1)/\DStep b L M w L M.Aw.2.2 s:=by
 have p:=h.Ay.cell;simp only[DM.cells] at p;have d:=Z h;have m:=Z g;have o:=Z i;have q:=V8 j;clear h g i j;go_enter BO,Bo;go_wp2_with fail;refine(zX m.out _ d.out.dir).mono ?_;rintro e t ⟨rfl,l⟩;go_wp2_with fail;have f:=zV t b L M (d.out.fr l (fun _ _=>id));rw[o.out] at f;refine f.mono ?_;rintro e u ⟨rfl,r⟩
 go_wp2
 go_ret;exact⟨rfl,(DStep.look d.out l).trans r⟩
theorem Oo(Y a:ByteArray)(w:World)(b:Nat)(L:DL)(M:DM)(h:DRep w b L M)(i:Nat)(hi:i<M.dir.length)(h1:zT M.dir Y=i)(x:¬a=ByteArray.empty)(hd:M.Aw.1=true)
 (hn:M.AA.length+1<=1000000000000)(hm:M.dir.length+1<=1000000000000) :
 Calls Tryz.prog 212 #[.pointer (some ⟨b,0,none⟩),.string Y,.string a] w fun e w' =>
  e=.returned (.int .i64 M.Aw.2.1)/\∃ L',DStep b L M w L' (M.Aw.2.2.AL (M.Aw.2.2.dir.renamed i a)) w':=by
 have v:=h.Ay.cell;have R:=zL h.dir;unfold maxLen at R;simp only[DM.cells] at v;have HH:=Z h;have H1:=Z h1;have HD:=Z hd;have b3:=V8 x;clear h h1 hd x;go_enter BO,Bo;go_wp2_with fail;refine(zX H1.out _ HH.out.dir).mono ?_;rintro e w1 ⟨rfl,hf⟩;go_wp2_with fail;have HB:=zV w1 b L M (HH.out.fr hf (fun _ _=>id));rw[HD.out] at HB;refine HB.mono ?_;rintro e w2 ⟨rfl,T⟩;clear v HB;have B:=M.AB;have b5:M.Aw.2.2.dir.length+1<=1000000000000:=by rw[B.1];exact hm
 have a6:M.Aw.2.2.AA.length+1<=1000000000000:=by rw[B.2.2.1];exact hn
 have J:i<M.Aw.2.2.dir.length:=by rw[B.1];exact hi
 clear B;have v:=T.AK.Ay.cell;simp only[DM.cells] at v;obtain⟨g,b2,hv,b1,a3⟩:=zy T.AK.dir (by omega);unfold maxLen at a3;rw[hv] at v;have O:=Z T;have HV:=Z hv;have S:=T.AK.Ay.lt;clear T hv;generalize Q:M.Aw.2.2=d at *;go_wp2_with fail;clear v
 go_loopw [10,35] (fun l c w'=>∃ k:Nat,k<=d.dir.length/\c=.int .i64 k/\w'.ownsRow 0 148 2 l (Y3 d.dir i a k).length (flat (Y3 d.dir i a k))/\Fr Nil w2 w'/\(∀ j,l.ownBlock=some j->w2.heap.size<=j)) (fun _ c _=>d.dir.length-(intOf c).toNat)
 case atStart=>exact⟨0,Gz _,rfl,GK _ _ _ _,U _ _,fun j p=>by simp[Value.ownBlock] at p⟩
 case round =>
  obtain⟨k,hk,rfl,r,o,D⟩:=hrel;have hr:=O.out.AK.fr o (fun _ _=>id);have v:=hr.Ay.cell;simp only[DM.cells] at v;rw[HV.out] at v;have HR:=Z hr;have K:=Z D;have HO:=Z r;have b6:=ID d.dir i a k;obtain⟨la,lc,a7⟩:=zg r;clear hr D r;subst a7;by_cases q:k<d.dir.length
  .have hsucc:=Z (RA d.dir i a k q)
   have f:=HR.out.dir;rw[HV.out] at f;have a8:=own_cell? f _ _ (ZF d.dir k q).1;have b7:=own_cell? f _ _ (ZF d.dir k q).2;have b4:=Cl _ _ a8;clear f;by_cases A:k=i
   .have e1:((k:Int) != i)=false:=by simp[A]
    have HK:=Z A;clear A
    go_wp2
    have N:Y3 d.dir i a (k+1)=Y3 d.dir i a k:=by rw[hsucc.out,Gl (fun h=>h.1 HK.out)];simp
    exact⟨⟨k+1,by omega,by go_num,by rw[N];exact HO.out,o,K.out⟩,by simp[intOf];omega⟩
   .have e1:((k:Int) != i)=true:=by rw[bne_iff_ne];omega
    have y:=DD d.dir[k].1 a;cases hm2:(d.dir[k].1==a) with
    | true =>
     have e2:(d.dir[k].1.toList==a.toList)=true:=by rw[<- y];exact hm2
     have G:=Z hm2;clear y hm2
     go_wp2
     have N:Y3 d.dir i a (k+1)=Y3 d.dir i a k:=by rw[hsucc.out,Gl (fun h=>by rw[G.out] at h;exact Bool.noConfusion h.2)];simp
     exact⟨⟨k+1,by omega,by go_num,by rw[N];exact HO.out,o,K.out⟩,by simp[intOf];omega⟩
    | false =>
     have e2:(d.dir[k].1.toList==a.toList)=false:=by rw[<- y];exact hm2
     have G:=Z hm2;clear y hm2
     go_wp2_with (at_builtin;go_must (refine zI rfl _ _ _ _ rfl _ _ (by rfl) (by rfl) (zw 140 _ 148 2 24 En Y2 (by decide) _ _ _ (HO.out.alloc _)
      ⟨wr.heap.size,0,none⟩ 1 1 [.string d.dir[k].1,.pointer (some ⟨d.dir[k].2,0,none⟩)] rfl (Wi _ _ _ _ _ rfl) (by intro u V;simp at V;rcases V with rfl|rfl <;> rfl) (by unfold maxLen;omega) (by omega)) ?_))
     intro v2 w4 m;have E:=Z m;clear m
     go_wp2
     have N:Y3 d.dir i a (k+1)=Y3 d.dir i a k++[d.dir[k]]:=by rw[hsucc.out,GA ⟨A,G.out⟩]
     have e4:(Y3 d.dir i a (k+1)).length=(Y3 d.dir i a k).length+1:=by rw[N];simp
     have e5:flat (Y3 d.dir i a (k+1))=flat (Y3 d.dir i a k)++[.string d.dir[k].1,.pointer (some ⟨d.dir[k].2,0,none⟩)]:=by rw[N,Xh];rfl
     refine⟨⟨k+1,by omega,by go_num,by rw[e4,e5];exact E.out.own,?_,?_⟩,by simp[intOf];omega⟩
     .exact Fr.trans' (o.alloc _) E.out.fr (fun j S p=>by have:=K.out j p;omega)
     .intro j p
      rcases E.out.at_ with h|h
      .rw[h] at p;exact K.out j p
      .rw[h] at p;simp at p;have:=o.size;omega
  .have hkl:k=d.dir.length:=by omega
   subst hkl;have f:=HR.out.dir;rw[HV.out] at f;have b8:=own_cell? f _ _ (ZF d.dir i J).2;clear f
   go_wp2_with (at_builtin;go_must (refine zI rfl _ _ _ _ rfl _ _ (by rfl) (by rfl) (zw 140 _ 148 2 24 En Y2 (by decide) _ _ _ (HO.out.alloc _)
    ⟨wr.heap.size,0,none⟩ 1 1 [.string a,.pointer (some ⟨d.dir[i].2,0,none⟩)] rfl (Wi _ _ _ _ _ rfl) (by intro u V;simp at V;rcases V with rfl|rfl <;> rfl) (by unfold maxLen;omega) (by omega)) ?_))
   intro v2 w4 m;have t:d.dir.renamed i a=Y3 d.dir i a d.dir.length++[(a,d.dir[i].2)]:=by simp[Dir.renamed,J]
   have s:w4.ownsRow 0 148 2 v2 (d.dir.renamed i a).length (flat (d.dir.renamed i a)):=by
    rw[t,Xh,Ga];exact m.own
   have I:Fr Nil w2 w4:=Fr.trans' (o.alloc _) m.fr (fun j S p=>by have:=K.out j p;omega);have X:∀ j,v2.ownBlock=some j->w2.heap.size<=j:=by
    intro j p;rcases m.at_ with h|h
    .rw[h] at p;exact K.out j p
    .rw[h] at p;simp at p;have:=o.size;omega
   have C:∀ e,e∈d.dir.renamed i a->e.2∈d.ids:=by
    intro e x;rw[t,Gf] at x;rcases x with x|x
    .exact O.out.AK.yt e (JJ _ _ _ _ _ x)
    .simp at x;subst x;exact O.out.AK.yt d.dir[i] (Gj J)
   have HT:=Z (XH v2 (d.dir.renamed i a) w4 b _ _ (O.out.AK.fr I (fun _ _=>id)) s C a6);have a0:=Z I;have a2:=Z X;have a1:=Z Q;clear m C I X v Q t s;go_wp2_with fail;refine HT.out.mono ?_;rintro e w5 ⟨rfl,cv,a9,a5,a4⟩;have b0:=VO a9 a0.out a2.out a5 a4
   go_wp2
   go_ret;obtain rfl:=a1.out;exact⟨rfl,_,(DStep.look HH.out hf).trans (O.out.trans b0)⟩
theorem QV(c a:ByteArray)(w:World)(b:Nat)(L:DL)(M:DM)(h:DRep w b L M)(p:M.AA.length+1<=1000000000000)(o:M.dir.length+1<=1000000000000) :
 Calls Tryz.prog 212 #[.pointer (some ⟨b,0,none⟩),.string c,.string a] w fun e j =>
  e=.returned (.int .i64 (M.rename c a).1)/\∃ m,DStep b L M w m (M.rename c a).2 j:=by
 rcases Rx M.dir c with⟨g,i⟩|⟨k,l,g,i⟩
 .refine(On c a w b L M h g).mono fun e j ⟨d,f⟩=>?_
  simp only[DM.rename,i];exact⟨d,L,f⟩
 .by_cases he:a=ByteArray.empty
  .subst he
   refine(QU c w b L M h k l g).mono fun e j ⟨d,f⟩=>?_;simp only[DM.rename,i];exact⟨d,L,f⟩
  .cases hd:M.Aw.1 with
   | false =>
    refine(MN c a w b L M h k l g he hd).mono fun e j ⟨d,f⟩=>?_;simp only[DM.rename,i,hd];rw[Gl he];exact⟨d,L,f⟩
   | true =>
    refine(Oo c a w b L M h k l g he hd p o).mono fun e j ⟨d,f⟩=>?_;simp only[DM.rename,i,hd];rw[Gl he];exact⟨d,f⟩
theorem Xp:((Tryz.prog.info? 9).map fun i=>(i.zero.map (·.cells.size),i.size,i.bytes))=some (some 1,1,16):=by kernel_rfl
def zh(a b:ByteArray):Bool:=Op.bytesLess a.toList b.toList
def YO:List ByteArray->ByteArray->List ByteArray
 | [],x=>[x]
 | y::r,x=>if zh x y then y::YO r x else x::y::r
def Yt(d:Dir)(k:Nat):List ByteArray:=((d.take k).foldl (fun r e=>YO r e.1) []).reverse
def Dir.names(d:Dir):List ByteArray:=Yt d d.length
theorem Oq(l:List ByteArray)(x:ByteArray):(YO l x).length=l.length+1:=by
 induction l with
 | nil=>rfl
 | cons y r a=>simp only[YO];split <;> simp[a]
theorem Vk(d:Dir)(k:Nat)(h:k<d.length):Yt d (k+1)=(YO (Yt d k).reverse d[k].1).reverse:=by
 unfold Yt;rw[GQ h,GW];simp
theorem Uf(d:Dir):∀ k,k<=d.length->(Yt d k).length=k:=by
 intro k
 induction k with
 | zero=>intro _;rfl
 | succ k a =>
  intro h;rw[Vk d k h,List.length_reverse,Oq,List.length_reverse,a (by omega)]
theorem Kr(P R:List ByteArray)(x:ByteArray)(h:∀ t∈P,zh x t=true):YO (P++R) x=P++YO R x:=by
 induction P with
 | nil=>rfl
 | cons y P c =>
  have b:=h y (Gh ..);simp only[GC,YO,b,Ft];rw[c (fun t a=>h t (Ge _ a))]
theorem QW(A:List ByteArray)(x:ByteArray)(j:Nat)(d:j<=A.length)(h:∀ t∈A.drop j,zh x t=true)(c:∀ i (a:i<A.length),j=i+1->zh x A[i]=false) :
 A.take j++[x]++A.drop j=(YO A.reverse x).reverse:=by
 have e:A.reverse=(A.drop j).reverse++(A.take j).reverse:=by rw[<- List.reverse_append,Gu]
 rw[e,Kr _ _ _ (fun t f=>h t (by simpa using f))];cases j with
 | zero=>simp[YO]
 | succ i =>
  have a:i<A.length:=d;have b:(A.take (i+1)).reverse=A[i]::(A.take i).reverse:=by
   rw[GQ a];simp
  rw[b];have:=c i a rfl;simp only[YO,this,FI,Fk];rw[<- b];simp
def strs(l:List ByteArray):List Value:=l.map Value.string
theorem JK(l:List ByteArray):∀ u∈strs l,u.oneCell'=true:=by
 intro u b;simp[strs] at b;obtain⟨a,_,rfl⟩:=b
 rfl
theorem Tw(P Q:List ByteArray)(x:ByteArray):strs (P++[x]++Q)=strs P++.string x::strs Q:=by simp[strs]
theorem Td(l:List ByteArray):(strs l).length=l.length:=by simp[strs]
theorem Mj(A:List ByteArray)(x:ByteArray)(i:Nat)(b:i<A.length) :
 (strs (A.take (i+1)++[x]++A.drop (i+1)))[i+1]?=some (.string x)/\(strs (A.take (i+1)++[x]++A.drop (i+1)))[i]?=some (.string A[i]):=by
 have a:(strs (A.take (i+1))).length=i+1:=by rw[Td];simp;omega
 rw[Tw]
 constructor
 .rw[EL (by omega),a];simp
 .rw[Ey (by omega)];simp[strs,b]
theorem Ks(A:List ByteArray)(x:ByteArray)(i:Nat)(b:i<A.length) :
 ((strs (A.take (i+1)++[x]++A.drop (i+1))).set (i+1) (.string A[i])).set i (.string x)=strs (A.take i++[x]++A.drop i):=by
 have c:strs (A.take (i+1))=strs (A.take i)++[.string A[i]]:=by unfold strs;rw[GQ b,Gy];rfl
 have d:strs (A.drop i)=.string A[i]::strs (A.drop (i+1)):=by unfold strs;rw[Fb b,Gw]
 have a:(strs (A.take i)).length=i:=by rw[Td];simp;omega
 rw[Tw,Tw,c,d,Gp];rw[Cy _ _ (by omega),a,Cy _ _ (by omega),a];simp
theorem SZ{w:World}{a:Nat}{e:TypeId}{size:Nat}{g n b:Nat}{i:List Value}(h:w.ownsRow a e size (.slice (some ⟨g,0,none⟩) n b) n i)(j:Nat)(u:Value) :
 (w.setCell ⟨g,j,none⟩ u).ownsRow a e size (.slice (some ⟨g,0,none⟩) n b) n (i.set j u):=by
 rcases h.2 with⟨c,_⟩|⟨t,f,d,c,k,m,p,o,q,r⟩
 .cases c
 .simp at c
  obtain⟨rfl,rfl⟩:=c;refine⟨by rw[List.length_set];exact h.1,.inr ⟨g,b,d.setIfInBounds j u,rfl,k,?_,p,o,by simpa using q,?_⟩⟩
  .simp[World.setCell,Array.getElem?_modify,m]
  .rw[<- r]
   simp only[Array.toList_setIfInBounds];rw[List.take_set]
theorem S4{w:World}{a:Nat}{e:TypeId}{size:Nat}{g n c:Nat}{k:List Value}(h:w.ownsRow a e size (.slice (some ⟨g,0,none⟩) n c) n k)(j:Nat):w.frozen? ⟨g,j,none⟩=false:=by
 rcases h.2 with⟨b,_⟩|⟨m,d,f,b,o,i,_⟩
 .cases b
 .simp at b
  obtain⟨rfl,_⟩:=b;simp[World.frozen?,i]
theorem WA(w:World)(b:Nat)(L:DL)(M:DM)(h:DRep w b L M)(hm:M.dir.length<=1000000000000) :
 Calls Tryz.prog 86 #[.pointer (some ⟨b,0,none⟩)] w fun e N =>
  ∃ v,e=.returned v/\N.ownsRow 0 9 1 v M.dir.length (strs M.dir.names)/\Fr Nil w N/\(∀ k,v.ownBlock=some k->w.heap.size<=k):=by
 have hc:=h.Ay.cell;simp only[DM.cells] at hc;obtain⟨a,b8,hv⟩:=zg h.dir;rw[hv] at hc;obtain⟨ti,tz,b1,b2,b3,b4,c4⟩:=Y6 Xp;have HH:=Z h;have HV:=Z hv;clear h hv;go_enter Tryz.func86,Tryz.ntmps86
 go_wp2_with (at_make;go_must (refine wpList_make_own _ rfl _ _ 91 rfl 0 9 ti tz 1 EM b1 b2 b3 _ _ _ M.dir.length (by rfl) (by rfl) rfl (by rw[b4];omega) (by unfold maxLen;omega) (Gz _) ?_))
 intro w1 r G;have y:Fr Nil w w1:=(Fr.ya G).mono (fun _ _ h=>by cases h);have h1:=HH.out.fr y (fun _ _=>id);have s:=h1.Ay.cell;simp only[DM.cells] at s;rw[HV.out] at s;clear hc G h1;go_wp2_with fail;clear s
 go_loopw [3,18] (fun l c N=>∃ k:Nat,k<=M.dir.length/\c=.int .i64 k/\N.ownsRow 0 9 1 l k (strs (Yt M.dir k))/\Fr Nil w N/\(∀ j,l.ownBlock=some j->w.heap.size<=j)) (fun _ c _=>M.dir.length-(intOf c).toNat)
 case atStart=>exact⟨0,Gz _,rfl,r,y,fun j I=>by simp[Value.ownBlock] at I;omega⟩
 case round =>
  obtain⟨k,hk,rfl,d,B,J⟩:=hrel;have hr:=HH.out.fr B (fun _ _=>id);have HN:=Z J;have HO:=Z d;have a6:=Z (Uf M.dir k hk);obtain⟨la,lc,a9⟩:=zg d;clear r y J d;subst a9;by_cases E:k<M.dir.length
  .obtain⟨g,hg⟩:∃ g,a=some ⟨g,0,none⟩:=by
    obtain⟨g,c',Y,_⟩:=zy hr.dir (by omega);rw[HV.out] at Y;simp at Y;exact⟨g,Y.1⟩
   subst hg;have f:=hr.dir;rw[HV.out] at f;have a5:=own_cell? f _ _ (ZF M.dir k E).1;have b0:=own_cell? f _ _ (ZF M.dir k E).2;have c1:=Cl _ _ a5;clear f hr
   go_wp2_with (at_builtin;go_must (refine zI rfl _ _ _ _ rfl _ _ (by rfl) (by rfl) (zw 91 _ 9 1 16 EM Xp (by decide) _ _ _ ((HO.out.alloc _).alloc _)
    ⟨wr.heap.size+1,0,none⟩ 1 1 [.string M.dir[k].1] rfl (Yw _ _ _ _ (by simp)) (by intro u hu;simp at hu;subst hu;rfl) (by unfold maxLen;omega) (by omega)) ?_))
   intro v2 w4 T;obtain⟨g2,c2,b5,_,_⟩:=zy T.own (by omega);subst b5;have O:=Z T;clear T;go_wp2_with fail;generalize hA:Yt M.dir k=A at *;generalize hx:M.dir[k].1=x at *;have a1:A.length=k:=a6.out;have Q:=Z a1;have a0:Hid (Yt M.dir (k+1)=(YO A.reverse x).reverse):=by rw[Hid,Vk M.dir k E,hA,hx]
   have c0:w.heap.size<=g2:=by
    rcases O.out.at_ with h|h
    .exact HN.out g2 (by rw[<- h];rfl)
    .simp[Value.ownBlock] at h;have:=B.size;omega
   have a3:Fr Nil w w4:=Fr.trans' ((B.alloc _).alloc _) O.out.fr (fun j E I=>by have:=HN.out j I;omega);have b6:=Z hA;have b7:=Z hx;clear hA hx a1 a5 b0
   go_loopw [6] (fun c N=>∃ j:Nat,j<=k/\c=.int .i64 j/\N.ownsRow 0 9 1 (.slice (some ⟨g2,0,none⟩) (k+1) c2) (k+1) (strs (A.take j++[x]++A.drop j))/\(∀ t,t∈A.drop j->zh x t=true)/\Fr Nil w N) (fun c _=>(intOf c).toNat)
   case atStart =>
    refine⟨k,Gb _,rfl,?_,?_,a3⟩
    .have e:strs (A.take k++[x]++A.drop k)=strs A++[.string x]:=by
      have hl:=Q.out;rw[Gx (by omega),List.drop_of_length_le (by omega)];simp[strs]
     rw[e];exact O.out.own
    .intro t X
     rw[List.drop_of_length_le (by have:=Q.out;omega)] at X;cases X
   case round =>
    rename_i wq;obtain⟨j,I,rfl,d,q,V⟩:=hrel;have o:=Z d;have R:=Z q;clear d q a3;rcases ET j with rfl|c3
    .have hd:decide ((0:Int)<((0:Nat):Int))=false:=by simp
     go_wp2_with fail
     go_quiet (fail)
     go_wp2
     have e3:Yt M.dir (k+1)=A.take 0++[x]++A.drop 0:=a0.out.trans (QW A x 0 (Gz _) R.out (fun i _ h=>by omega)).symm;exact⟨⟨k+1,by omega,by go_num,by rw[e3];exact o.out,V.drewN _,fun j I=>by simp[Value.ownBlock] at I;omega⟩,by simp[intOf];omega⟩
    .obtain⟨i,rfl⟩:∃ i,j=i+1:=⟨j-1,by omega⟩
     have C:i<A.length:=by have:=Q.out;omega
     have s:=own_cell? o.out _ _ (Mj A x i C).1;have b9:=own_cell? o.out _ _ (Mj A x i C).2;have y:=S4 o.out;have e1:(((i+1:Nat):Int))=(i:Int)+1:=by omega
     rw[e1];cases hls:zh x A[i] with
     | true =>
      have a4:Op.bytesLess x.toList A[i].toList=true:=hls;go_wp2_with fail
      go_quiet (fail)
      go_wp2_with fail
      go_region
      go_wp2
      have K:=SZ (SZ (w:=wr.drewN (nq+1)) o.out (i+1) (.string A[i])) i (.string x);rw[Ks A x i C] at K;have D:∀ t,t∈A.drop i->zh x t=true:=by
       intro t X;rw[Fb C] at X;rcases GH.1 X with rfl|X
       .exact hls
       .exact R.out t X
      exact⟨⟨i,by omega,rfl,K,D,Fr.set (Fr.set (V.drewN _) (fun(h:g2<w.heap.size)=>absurd h (by omega)) _) (fun(h:g2<w.heap.size)=>absurd h (by omega)) _⟩,by simp[intOf]⟩
     | false =>
      have a4:Op.bytesLess x.toList A[i].toList=false:=hls;go_wp2_with fail
      go_quiet (fail)
      go_wp2
      have a2:∀ i' (a7:i'<A.length),i+1=i'+1->zh x A[i']=false:=by
       intro i' a7 h;have h':i'=i:=by omega
       subst h';exact hls
      have e3:Yt M.dir (k+1)=A.take (i+1)++[x]++A.drop (i+1):=a0.out.trans (QW A x (i+1) (by omega) R.out a2).symm;exact⟨⟨k+1,by omega,by go_num,by rw[e3];exact o.out,V.drewN _,fun j I=>by simp[Value.ownBlock] at I;omega⟩,by simp[intOf];omega⟩
  .go_wp2
   go_ret;have a8:k=M.dir.length:=by omega
   subst a8;exact⟨_,rfl,HO.out,B,HN.out⟩
def Xq(a b:ByteArray):Int:=if zh a b=true then -1 else if (a.toList==b.toList)=true then 0 else 1
theorem MO(a b:ByteArray)(w:World) :
 Calls Tryz.prog 201 #[.string a,.string b] w fun e i=>e=.returned (.int .i64 (Xq a b))/\i=w:=by
 have j:∀ x:ByteArray,(x.toList==x.toList)=true:=by intro x;simp
 by_cases c:zh a b=true
 .have h:Xq a b=-1:=by unfold Xq;rw[GA c]
  rw[h];clear h;have f:Op.bytesLess a.toList b.toList=true:=c;clear c;go_enter Tryz.func201,Tryz.ntmps201
  go_wp2
  go_ret;exact⟨rfl,rfl⟩
 .have f:Op.bytesLess a.toList b.toList=false:=by simpa [zh] using c
  by_cases d:(a.toList==b.toList)=true
  .have h:Xq a b=0:=by unfold Xq;rw[Gl c,GA d]
   rw[h];clear h c;go_enter Tryz.func201,Tryz.ntmps201
   go_wp2
   go_ret;exact⟨rfl,rfl⟩
  .have h:Xq a b=1:=by unfold Xq;rw[Gl c,Gl d]
   rw[h];clear h c;have g:(a.toList==b.toList)=false:=by simpa using d
   clear d;go_enter Tryz.func201,Tryz.ntmps201
   go_wp2
   go_ret;exact⟨rfl,rfl⟩
theorem Ws(a b:ByteArray)(v:Value)(w:World) :
 Calls Tryz.prog 200 #[.agg #[.string a,v],.string b] w fun e c=>e=.returned (.int .i64 (Xq a b))/\Fr Nil w c:=by
 go_enter Tryz.func200,Tryz.ntmps200
 go_wp2_with (go_at_call 201;refine(MO _ _ _).mono ?_;rintro e d ⟨rfl,rfl⟩)
 go_ret;exact⟨rfl,(by repeat' first|exact U _ _|(with_reducible assumption)|refine Fr.drewN ?_ _|refine Fr.drew ?_|refine Fr.alloc ?_ _|refine Fr.set ?_ ?_ _|(intro _;rfl))⟩
end Go.Proofs.YtkhnggkkiefcdaaGreatDoor
namespace Go.Proofs.YtkhnggkkiefcdaaGreatDoor
set_option maxRecDepth 100000
set_option maxHeartbeats 8000000
open Go
structure Strict{α:Type}(lt:α->α->Bool):Prop where
 vi:∀ a,lt a a=false
 trans:∀ a b c,lt a b=true->lt b c=true->lt a c=true
 vw:∀ a b,lt a b=false->a≠b->lt b a=true
theorem Strict.vj{α:Type}{lt:α->α->Bool}(h:Strict lt){a b:α}(c:lt a b=true):lt b a=false:=by
 cases hb:lt b a with
 | false=>rfl
 | true=>have:=h.trans _ _ _ c hb;rw[h.vi] at this;cases this
def Asc{α:Type}(lt:α->α->Bool)(l:List α):Prop:=l.Pairwise fun a b=>lt a b=true
theorem Asc.get{α:Type}{lt:α->α->Bool}{l:List α}(h:Asc lt l){i j:Nat}(a:i<j)(c:j<l.length):lt (l[i]'(BP a c)) l[j]=true :=
 (List.pairwise_iff_getElem.1 h) i j (by omega) c a
def low{α:Type}(lt:α->α->Bool)(l:List α)(b:α):Nat:=(l.takeWhile fun a=>lt a b).length
theorem Vz{α:Type}(lt:α->α->Bool)(l:List α)(b:α):low lt l b<=l.length:=by
 induction l with
 | nil=>simp[low]
 | cons a r c =>
  by_cases h:lt a b=true
  .simp only[low,CP,h,Ft,Gn] at c |-;omega
  .simp[low,h]
theorem VA{α:Type}(lt:α->α->Bool)(b:α):∀ (l:List α)(i:Nat),i<=l.length->(∀ k (e:k<l.length),k<i->lt l[k] b=true)->(∀ e:i<l.length,lt l[i] b=false)->low lt l b=i
 | [],i,c,_,_=>by simp at c;simp[low,c]
 | a::r,0,_,_,d=>by
  have:lt a b=false:=d (by simp);simp[low,this]
 | a::r,i+1,c,f,d=>by
  have g:lt a b=true:=f 0 (by simp) (by omega);have:=VA lt b r i (by simpa using c) (fun k e h=>f (k+1) (by simp;omega) (by omega)) (fun e=>d (by simp;omega));simp only[low,CP,g,Ft,Gn] at this |-;rw[this]
theorem S5{α:Type}{lt:α->α->Bool}{b:α}:∀ {l:List α}{k:Nat}(c:k<l.length),k<low lt l b->lt l[k] b=true
 | [],k,c,_=>by simp at c
 | a::r,k,c,h=>by
  by_cases d:lt a b=true
  .cases k with
   | zero=>simpa using d
   | succ k =>
    have e:k<low lt r b:=by simp only[low,CP,d,Ft,Gn] at h |-;omega
    simpa using S5 (l:=r) (k:=k) (by simpa using c) e
  .simp[low,d] at h
theorem S6{α:Type}{lt:α->α->Bool}{b:α}:∀ {l:List α}(c:low lt l b<l.length),lt l[low lt l b] b=false
 | [],c=>by simp at c
 | a::r,c=>by
  by_cases d:lt a b=true
  .have e:low lt (a::r) b=low lt r b+1:=by simp[low,d]
   have f:low lt r b<r.length:=by rw[e] at c;simpa using c
   have:=S6 (l:=r) f;simp only[e,Dy];exact this
  .have e:low lt (a::r) b=0:=by simp[low,d]
   simp only[e,Da]
   simpa using d
def zY{α:Type} [BEq α] (lt:α->α->Bool)(l:List α)(b:α):Bool :=
 match l[low lt l b]? with
 | some a=>a==b
 | none=>false
theorem WI{α:Type} [BEq α] {lt:α->α->Bool}{l:List α}{b:α}(h:¬low lt l b<l.length):zY lt l b=false:=by
 have:l[low lt l b]?=none:=by rw[List.getElem?_eq_none];omega
 simp[zY,this]
theorem UY{α:Type} [BEq α] {lt:α->α->Bool}{l:List α}{b:α}(h:low lt l b<l.length):zY lt l b=(l[low lt l b]==b):=by
 have:l[low lt l b]?=some l[low lt l b]:=Gq h;simp[zY,this]
theorem Asc.fst{α β:Type}{lt:α->α->Bool}{l:List (α × β)}(h:Asc lt (l.map Prod.fst)){i j:Nat}(a:i<j)(c:j<l.length):lt (l[i]'(BP a c)).1 l[j].1=true:=by
 have:=h.get (i:=i) (j:=j) a (by simpa using c)
 rwa [GJ,GJ] at this
theorem XT{α β:Type} [BEq α] {lt:α->α->Bool}{l:List (α × β)}{b:α}{i:Nat}(a:i<l.length)(h:low lt (l.map Prod.fst) b=i):zY lt (l.map Prod.fst) b=(l[i].1==b):=by
 subst h;rw[UY (by simpa using a),GJ]
theorem Asc.ins{α:Type}{lt:α->α->Bool}(s:Strict lt){l:List α}{b:α}(h:Asc lt l)(t:∀ o:low lt l b<l.length,l[low lt l b]≠b) :
 Asc lt (l.take (low lt l b)++[b]++l.drop (low lt l b)):=by
 have f:∀ x∈l.drop (low lt l b),lt b x=true:=by
  intro x p;obtain⟨j,m,rfl⟩:=EA p;rw[Gk] at m;rw[Fu];have o:low lt l b<l.length:=by omega
  have q:lt b l[low lt l b]=true:=s.vw _ _ (S6 o) (t o);rcases ET j with e|e
  .subst e;exact q
  .exact s.trans _ _ _ q (h.get (i:=low lt l b) (j:=low lt l b+j) (by omega) (by omega))
 have d:∀ x∈l.take (low lt l b),lt x b=true:=by
  intro x p;obtain⟨j,m,rfl⟩:=EA p;rw[Gd] at m;rw[Bc];exact S5 (by omega) (by omega)
 unfold Asc at h |-;have g:(l.take (low lt l b)++l.drop (low lt l b)).Pairwise fun a b=>lt a b=true:=by rwa [Gu]
 rw[Eo] at g;rw[Gp,Eo,Cz,Ci];refine⟨g.1,⟨f,g.2.1⟩,fun a r c k=>?_⟩;rcases GH.1 k with rfl|k
 .exact d a r
 .exact g.2.2 a r c k
theorem Asc.del{α:Type}{lt:α->α->Bool}{l:List α}(h:Asc lt l)(i:Nat):Asc lt (l.take i++l.drop (i+1)):=by
 unfold Asc at h |-;refine h.sublist ?_;have:l.take i++l.drop (i+1)=l.eraseIdx i:=by rw[List.eraseIdx_eq_take_drop_succ]
 rw[this];exact List.eraseIdx_sublist _ _
theorem toList_inj{a b:ByteArray}(h:a.toList=b.toList):a=b:=by
 rw[CQ,CQ] at h;exact CK (DP h)
theorem zZ{a b:ByteArray}:(a==b)=true↔a=b:=by
 rw[DD]
 constructor
 .intro h;exact toList_inj (by simpa using h)
 .intro h;subst h;simp
theorem XI:∀(x y:List UInt8),Op.bytesLess x y=decide (x<y)
 | [],[]=>by simp[Op.bytesLess]
 | _::_,[]=>by simp[Op.bytesLess]
 | [],_::_=>by simp[Op.bytesLess]
 | a::x,b::y=>by
  rw[Op.bytesLess,XI x y];simp only[List.cons_lt_cons_iff];by_cases c:a<b <;> by_cases d:a=b <;> by_cases e:x<y <;> simp[c,d,e]
end Go.Proofs.YtkhnggkkiefcdaaGreatDoor
namespace Go.Proofs.YtkhnggkkiefcdaaGreatDoor
open Go.RowKit
set_option maxRecDepth 100000
set_option maxHeartbeats 8000000
def Zc(l:List (ByteArray × Value)):List Value:=l.flatMap fun e=>[.string e.1,e.2]
theorem YU(d:List (ByteArray × Value)):(Zc d).length=d.length*2:=by
 induction d with
 | nil=>rfl
 | cons e d a=>simp only[Zc,FN,Ga,Gn,GT] at a |-;omega
theorem ZQ(d:List (ByteArray × Value)):∀ (k:Nat)(h:k<d.length),(Zc d)[k*2]?=some (.string d[k].1)/\(Zc d)[k*2+1]?=some d[k].2:=by
 induction d with
 | nil=>intro k h;simp at h
 | cons e d b =>
  intro k h;cases k with
  | zero=>exact⟨rfl,rfl⟩
  | succ k =>
   have:=b k (by simpa using h);have a:(k+1)*2=k*2+2:=by omega
   simp only[Zc,FN,a] at this |-;exact this
theorem Zk:Strict zh where
 vi a:=by simp[zh,XI,List.lt_irrefl]
 trans a b c h1 h2:=by
  simp only[zh,XI,Gr] at *;exact List.lt_trans h1 h2
 vw a b h1 h2:=by
  simp only[zh,XI,Gr,FB] at *;rcases List.le_iff_lt_or_eq.1 (List.not_lt.1 h1) with h|h
  .exact h
  .exact absurd (toList_inj h).symm h2
theorem QX{a b:ByteArray}:Xq a b<0↔zh a b=true:=by
 unfold Xq;split
 .rename_i h;simp[h]
 .rename_i h
  split <;> simp[h]
theorem Kt{a b:ByteArray}:Xq a b=0↔(a==b)=true:=by
 unfold Xq;have c:=DD a b;split
 .rename_i h
  constructor
  .intro h';omega
  .intro h'
   have:a=b:=zZ.1 h';subst this;rw[Zk.vi] at h;cases h
 .split
  .rename_i h;rw[c];simp[h]
  .rename_i h;rw[c];simp[h]
theorem Qd(v:Value)(l:List (ByteArray × Value))(s:ByteArray)(w:World)(h:w.ownsRow 0 239 2 v l.length (Zc l))(K:Asc zh (l.map Prod.fst))(a0:l.length<4611686018427387904) :
 Calls Tryz.prog 199 #[v,.string s,.func (.func 200) #[] #[]] w fun e I =>
  e=.returned (.tuple #[.int .i64 (low zh (l.map Prod.fst) s),.bool (zY zh (l.map Prod.fst) s)])/\Fr Nil w I:=by
 have hn:=zL h;unfold maxLen at hn;obtain⟨a,t,rfl⟩:=zg h;go_enter Tryz.func199,Tryz.ntmps199
 go_wp2
 go_loopw [9,10] (fun E G I=>∃ i j:Nat,i<=j/\j<=l.length/\E=.int .i64 i/\G=.int .i64 j/\(∀ k (d:k<l.length),k<i->zh l[k].1 s=true)/\(∀ k (d:k<l.length),j<=k->zh l[k].1 s=false)/\Fr Nil w I) (fun E G _=>(intOf G).toNat-(intOf E).toNat)
 case atStart=>exact⟨0,l.length,Gz _,Gb _,rfl,rfl,fun k _ d=>absurd d (Fc _),fun k d X=>absurd d (by omega),U _ _⟩
 case round =>
  obtain⟨i,j,V,J,rfl,rfl,c,u,p⟩:=hrel;by_cases Y:i<j
  .obtain⟨g,rfl⟩:∃ g,a=some ⟨g,0,none⟩:=by
    rcases h.2 with⟨c,O⟩|⟨g,t,A,c,_⟩
    .omega
    .simp at c;exact⟨g,c.1⟩
   have D:(i+j) / 2<l.length:=by omega
   have T:=own_cell? (ze h p (fun _ _=>id)) ((i+j) / 2*2) _ (ZQ l _ D).1;have B:=own_cell? (ze h p (fun _ _=>id)) ((i+j) / 2*2+1) _ (ZQ l _ D).2;have M:=Z c;have N:=Z u;clear c u;have Q:(i:Int)<=4611686018427387903:=by omega
   have R:(j:Int)<=4611686018427387903:=by omega
   have S:(i:Int)+j<=9223372036854775807:=by omega
   have hq:(((i:Int)+j) / 2).toNat=(i+j) / 2:=by omega
   cases hl:zh l[(i+j) / 2].1 s with
   | true =>
    have r:=Z hl;have C:Xq l[(i+j) / 2].1 s<0:=QX.2 hl;clear hl
    go_wp2_with (go_at_call 200;refine(Ws _ _ _ _).mono ?_;rintro e L ⟨rfl,m⟩)
    refine⟨⟨(i+j) / 2+1,j,by omega,J,by go_num,rfl,fun k d q=>?_,N.out,p.trans m⟩,by simp[intOf];omega⟩;by_cases e:k=(i+j) / 2
    .subst e;exact r.out
    .exact Zk.trans _ _ _ (K.fst (i:=k) (j:=(i+j) / 2) (by omega) D) r.out
   | false =>
    have r:=Z hl;have C:¬Xq l[(i+j) / 2].1 s<0:=by rw[QX];simp[hl]
    clear hl
    go_wp2_with (go_at_call 200;refine(Ws _ _ _ _).mono ?_;rintro e L ⟨rfl,m⟩)
    refine⟨⟨i,(i+j) / 2,by omega,by omega,rfl,by go_num,M.out,fun k d q=>?_,p.trans m⟩,by simp[intOf];omega⟩;by_cases e:k=(i+j) / 2
    .subst e;exact r.out
    .cases hk2:zh l[k].1 s with
     | false=>rfl
     | true =>
      have:=Zk.trans _ _ _ (K.fst (i:=(i+j) / 2) (j:=k) (by omega) d) hk2;rw[r.out] at this;cases this
  .have he:i=j:=by omega
   subst he;have b:low zh (l.map Prod.fst) s=i:=VA zh s _ i (by simpa using J) (fun k d q=>by simpa using c k (by simpa using d) q) (fun d=>by simpa using u i (by simpa using d) (Gb _));by_cases o:i<l.length
   .obtain⟨g,rfl⟩:∃ g,a=some ⟨g,0,none⟩:=by
     rcases h.2 with⟨c,O⟩|⟨g,t,A,c,_⟩
     .omega
     .simp at c;exact⟨g,c.1⟩
    have T:=own_cell? (ze h p (fun _ _=>id)) (i*2) _ (ZQ l _ o).1;have B:=own_cell? (ze h p (fun _ _=>id)) (i*2+1) _ (ZQ l _ o).2;have f:zY zh (l.map Prod.fst) s=(Xq l[i].1 s==0):=by
     rw[XT o b,Ad,<- Kt];simp
    have y:=Z b;have x:=Z f;clear c u b f
    go_wp2_with (go_at_call 200;refine(Ws _ _ _ _).mono ?_;rintro e L ⟨rfl,m⟩)
    go_ret2;rw[y.out,x.out];exact⟨rfl,p.trans m⟩
   .have f:zY zh (l.map Prod.fst) s=false:=WI (by rw[b];simpa using o)
    have y:=Z b;have x:=Z f;clear c u b f
    go_wp2
    go_ret2;rw[y.out,x.out];exact⟨rfl,p⟩
theorem Ku:((Tryz.prog.info? 239).map fun i=>(i.zero.map (·.cells.size),i.size,i.bytes))=some (some 2,2,40):=by kernel_rfl
def Tx(w:World)(c:Option Nat)(n i:Nat)(h f:List Value)(e:Ending)(d:World):Prop :=
 ∃ g a,e=.returned (.slice (some ⟨g,0,none⟩) (n+1) a)/\d.ownsRow 0 239 2 (.slice (some ⟨g,0,none⟩) (n+1) a) (n+1) (Y9 2 i h f)/\Fr (fun b=>c=some b) w d/\(c=some g\/w.heap.size<=g)
theorem Ot(v:Value)(n:Nat)(d f:List Value)(r:Nat)(w:World)(b:w.ownsRow 0 239 2 v n d)(t:f.length=2)(s:∀ u∈f,u.oneCell'=true)(G:Blk w r f 239)(p:(n+1)*40<=140737488355328) :
 Calls Tryz.prog 295 #[v,.int .i64 n,.slice (some ⟨r,0,none⟩) 1 1] w fun e c=>Tx w v.ownBlock n n d f e c:=by
 have q:∀ ty,∃ m c,(Builtin.append_ #[157,157] ty #[v,.slice (some ⟨r,0,none⟩) 1 1]).run Tryz.prog w=.ok m c/\App w v 239 2 (n+1) (d++f) m c:=fun ty =>
  zw (P:=Tryz.prog) 157 ty 239 2 40 Ep Ku (by omega) v n d b ⟨r,0,none⟩ 1 1 f (by rw[t]) (fun j u E=>by rw[GY,Fh];rw[G.cell];exact E) s (by unfold maxLen;omega) p
 have k:∀ m c,App w v 239 2 (n+1) (d++f) m c->Tx w v.ownBlock n n d f (.returned m) c:=by
  rintro m c ⟨y,C,o⟩;obtain⟨g,l,rfl,_,_⟩:=y.form (by omega);refine⟨g,l,rfl,?_,(Fr.ya C).mono (fun i _ h=>h),?_⟩
  .have e1:d.take (n*2)=d:=Gx (by rw[b.1];exact Gb _)
   have A:d.drop (n*2)=[]:=GX (by rw[b.1];exact Gb _);unfold Y9;rw[e1,A,GI];exact y
  .rcases o with o|o
   .left;rw[<- o];rfl
   .right;have:g=w.heap.size:=by simpa [Value.ownBlock] using o
    omega
 have D:=zL b;unfold maxLen at D;obtain⟨a,l,rfl⟩:=zg b;have x:=Z k;clear k b;generalize (Value.slice a n l).ownBlock=I at x |-;go_enter Tryz.func295,Tryz.ntmps295
 go_wp2_with (at_builtin;go_must (refine zI rfl _ _ _ _ rfl _ _ (by rfl) (by rfl) (q _) ?_);rintro m c B)
 all_goals
  go_ret;exact x.out _ _ B
theorem Kv(w:World)(k m l i h f:Nat)(a g:Nat)(j c:List Value)(d:Blk w a j 239)(p:Blk w g c 239)(b:a≠g)(o:c.length≠0) :
 (callFunc 297 #[.slice (some ⟨a,k,none⟩) m l,.slice (some ⟨g,i,none⟩) h f]).run Tryz.prog w=.ok (.value (.bool false)) w:=by
 rw[Fx Tryz.func297 (by kernel_rfl) (by kernel_rfl) (by kernel_rfl) (e:=Extern.SlicesOverlaps.overlaps #[157,157] #[4]) (by kernel_rfl),
  Ct w 157 4 239 Ep 2 Tryz.sizeOf239 ⟨a,k,none⟩ ⟨g,i,none⟩ m l h f b 239 239 j.length c.length d.shape p.shape o (d.frozen _) (d.frozen _)]
 rfl
theorem Qe(g n d i:Nat)(c l k:List Value)(A:Nat)(w:World)(L:Blk w g c 239)(h:c.length=d*2)(O:c.take (n*2)=l)(X:∀ u∈l,u.oneCell'=true)(hi:i<n)(a:n+1<=d)(I:d<=maxLen)
 (r:k.length=2)(K:∀ u∈k,u.oneCell'=true)(R:Blk w A k 239)(M:A≠g) :
 Calls Tryz.prog 295 #[.slice (some ⟨g,0,none⟩) n d,.int .i64 i,.slice (some ⟨A,0,none⟩) 1 1] w fun e w'=>Tx w (some g) n i l k e w':=by
 have Q:=fun va vl vc bo bl bc=>Kv w va vl vc bo bl bc A g k c R L M (by omega);have v:l.length=n*2:=by rw[<- O,Gd,h];exact Fi (GM _ (by omega))
 have q:(l.drop (i*2)).length=(n-i)*2:=by rw[Gk,v,CL]
 have J:∀ j u,(l.drop (i*2))[j]?=some u->c[i*2+j]?=some u:=by
  intro j u s;rw[FY] at s;have a0:=(GF.1 s).1;rw[<- O,Fq (by omega)] at s;exact s
 have p:∀ ty B T,(Builtin.copy_ #[157,157] ty #[.slice (some ⟨g,(i+1)*2,none⟩) (n-i) B,.slice (some ⟨g,i*2,none⟩) (n+1-i) T]).run Tryz.prog w.drew=_:=fun ty B T =>
  Zr 157 239 ty 2 Ep (by kernel_rfl) g ((i+1)*2) (n-i) B ⟨g,i*2,none⟩ (n+1-i) T c (l.drop (i*2)) 239 L
   (by rw[q];congr 1;simp only[EW];split <;> omega) (fun j u s=>by rw[GY,show w.drew.cell? ⟨g,i*2+j,none⟩=c[i*2+j]? from L.drew.cell _];exact J j u s)
   (by rw[q,h];have:=GM 2 a;have e:(i+1)*2+(n-i)*2=(n+1)*2:=(by rw[<- Ed];congr 1;omega);omega)
   (fun u s=>X u (GB s))
 obtain⟨f,m⟩:∃ f,f=c.take ((i+1)*2)++l.drop (i*2)++c.drop ((i+1)*2+(l.drop (i*2)).length):=⟨_,rfl⟩;rw[<- m] at p;have t:Blk (w.drew.setRow g f.toArray) g f 239:=L.drew.setRow f;have D:Blk (w.drew.setRow g f.toArray) A k 239:=R.drew.of_heap (Dv _ g A _ M);have o:f.length=d*2:=by
  have:=GM 2 a;have e:(i+1)*2+(n-i)*2=(n+1)*2:=by rw[<- Ed];congr 1;omega
  rw[m];simp only[Ga,Gd,Gk,v,h];omega
 have C:Fr (fun b=>some g=some b) w (w.drew.setRow g f.toArray):=Fr.setRow (S:=fun b=>some g=some b) ((U _ w).drew) (fun _=>rfl) _;obtain⟨N,E⟩:∃ N,N=w.drew.setRow g f.toArray:=⟨_,rfl⟩;rw[<- E] at p t D C;clear E;have x:∀ ty B,(Builtin.copy_ #[157,157] ty #[.slice (some ⟨g,i*2,none⟩) (n+1-i) B,.slice (some ⟨A,0,none⟩) 1 1]).run Tryz.prog N=_:=fun ty B =>
  Zr 157 239 ty 2 Ep (by kernel_rfl) g (i*2) (n+1-i) B ⟨A,0,none⟩ 1 1 f k 239 t
   (by rw[r];have:Nat.min 1 (n+1-i)=1:=(by simp only[EW];split <;> omega);rw[this]) (fun j u s=>by rw[GY,Fh,D.cell];exact s)
   (by rw[r,o];have:=GM 2 a;have e:i*2+2=(i+1)*2:=(by rw[Ed,CM]);have:=GM 2 (show i+1<=n+1 by omega);omega)
   K
 have y:Tx w (some g) n i l k (.returned (.slice (some ⟨g,0,none⟩) (n+1) d)) (N.setRow g (f.take (i*2)++k++f.drop (i*2+k.length)).toArray):=by
  have e0:=GM 2 a;have e1:i*2+2=(i+1)*2:=by rw[Ed,CM]
  have e2:(i+1)*2+(n-i)*2=(n+1)*2:=by rw[<- Ed];congr 1;omega
  have e3:=GM 2 (show i<=n by omega);refine⟨g,d,rfl,Yp (t.setRow _) a I ?_ ?_,Fr.setRow (S:=fun b=>some g=some b) C (fun _=>rfl) _,.inl rfl⟩
  .rw[Ga,Ga,Gd,Gk,r,o]
   omega
  .unfold Y9
   have Y:f.take (i*2)=l.take (i*2):=by
    rw[m,<- O,GO (by rw[Ga,Gd,h];omega),GO (by rw[Gd,h];omega),EF,EF]
    congr 1
    omega
   have a2:f.drop (i*2+k.length)=l.drop (i*2)++c.drop ((n+1)*2):=by
    have e4:(c.take ((i+1)*2)).length=i*2+k.length:=by rw[Gd,h];omega
    rw[m,Gp,<- e4,EG,q,e2]
   rw[Y,a2,<- Gp,Fo (by rw[Ga,Ga,q,r,Gd,v];omega)]
 obtain⟨V,G⟩:∃ V,V=f.take (i*2)++k++f.drop (i*2+k.length):=⟨_,rfl⟩;rw[<- G] at x y;clear t D C o J L R q v X K m G O r h;unfold maxLen at I;have a3:¬(i:Int)=(n:Int):=by omega
 have a4:¬(d:Int)<(n:Int)+1:=by omega
 have a5:¬d=i:=by omega
 have a6:¬d=i+1:=by omega
 have a7:IntKind.i64.wrap ((i:Int)+1)=(i:Int)+1:=by rw[Gs];omega
 have a8:(0:Int)<=(i:Int)+1:=by omega
 have a9:((i:Int)+1).toNat=i+1:=by omega
 have b0:(i:Int)<=(n:Int)+1:=by omega
 have b1:(i:Int)<=(n:Int):=by omega
 go_enter Tryz.func295,Tryz.ntmps295
 go_wp2_with (simp only[Q])
 go_region_law (refine YA rfl _ _ 157 157 rfl _ _ (by simp[Act.eval,Act.put]) (by simp[Act.eval,Act.put]) (p _ _ _) ?_)
 go_wp2_with (at_builtin;go_must (refine Yr rfl _ _ 157 157 rfl _ _ (by rfl) (by rfl) (x _ _) ?_))
 go_ret;exact y
theorem QY(g n i:Nat)(b m:List Value)(vb:Nat)(w:World)(hg:Blk w g b 239)(f:b.length=n*2)(h1:∀ u∈b,u.oneCell'=true)(hi:i<n)
 (q:m.length=2)(a0:∀ u∈m,u.oneCell'=true)(hv:Blk w vb m 239)(Y:(n+1)*40<=140737488355328) :
 Calls Tryz.prog 295 #[.slice (some ⟨g,0,none⟩) n n,.int .i64 i,.slice (some ⟨vb,0,none⟩) 1 1] w fun e w'=>Tx w (some g) n i b m e w':=by
 obtain⟨i0,z,a4,a6,S,K,a7⟩:=Y6 Ku;have s:i+(n+1-i)=n+1:=by omega
 have a:∀ ty,(Builtin.append_ #[157,3] ty #[.slice (some ⟨g,0,none⟩) i n,.int .i64 ((n+1-i:Nat):Int)]).run Tryz.prog w=_:=fun ty =>
  Cd (P:=Tryz.prog) w 157 3 ty 239 i0 z .i64 .i64 Ep Ew a4 a6 (some ⟨g,0,none⟩) i n (b.take (i*2))
   (by rw[S];exact Dn (P:=Tryz.prog) w.drew 2 i ⟨g,0,none⟩ i n (b.take (i*2)) (by rw[Gd,f];omega) (fun j u t=>by
     have a8:=(GF.1 t).1;rw[GY,Fh,hg.drew.cell];rw[Gd] at a8;rw[Fq (by omega)] at t;exact t))
   (n+1-i) (by omega) (by rw[S];omega) (by omega) (by omega) (by rw[K];omega) (CX (by omega) (by rw[K,s];exact Y))
 rw[s] at a;have a2:=Ag w (n+1) n 239;have L:=Ch w (n+1) n 239 (by unfold maxLen;omega);generalize grownCap w (n+1) n 239=c at a a2 L;obtain⟨d,v⟩:∃ d:List Value,d=b.take (i*2)++(Builtin.zeroCells z.cells (n+1-i)).toList++(Builtin.zeroCells z.cells (c-(n+1))).toList:=⟨_,rfl⟩;have C:(b.take (i*2)).toArray++Builtin.zeroCells z.cells (n+1-i)++Builtin.zeroCells z.cells (c-(n+1))=d.toArray:=by rw[v];apply DP;simp
 rw[C] at a;have o:d.length=c*2:=by
  rw[v];simp only[Ga,Gd,FU,CW,a7,f];omega
 have D:d.take (i*2)=b.take (i*2):=by
  have e:(b.take (i*2)).length=i*2:=by rw[Gd,f];omega
  rw[v,Gp];exact Fo e
 have a3:=hg.lt;have a5:=hv.lt;have r:Blk (w.drew.alloc (.cells d.toArray 239)) w.heap.size d 239:=Blk.new w.drew d _;have T:Blk (w.drew.alloc (.cells d.toArray 239)) vb m 239:=hv.drew.alloc _;have Q:Blk (w.drew.alloc (.cells d.toArray 239)) g b 239:=hg.drew.alloc _;have M:Fr Nil w (w.drew.alloc (.cells d.toArray 239)):=((U _ w).drew).alloc _;obtain⟨N,hN⟩:∃ N,N=w.heap.size:=⟨_,rfl⟩;rw[<- hN] at a r a3 a5;obtain⟨I,V⟩:∃ I,I=w.drew.alloc (.cells d.toArray 239):=⟨_,rfl⟩;rw[<- V] at a r T Q M;clear V;obtain⟨k,x⟩:∃ k,k=d.take (i*2)++m++d.drop (i*2+m.length):=⟨_,rfl⟩;have p:∀ ty J,(Builtin.copy_ #[157,157] ty #[.slice (some ⟨N,i*2,none⟩) (n+1-i) J,.slice (some ⟨vb,0,none⟩) 1 1]).run Tryz.prog I=_:=fun ty J =>
  Zr 157 239 ty 2 Ep (by kernel_rfl) N (i*2) (n+1-i) J ⟨vb,0,none⟩ 1 1 d m 239 r
   (by rw[q];have:Nat.min 1 (n+1-i)=1:=(by simp only[EW];split <;> omega);rw[this]) (fun j u t=>by rw[GY,Fh,T.cell];exact t)
   (by rw[q,o];omega)
   a0
 rw[<- x] at p;have l:k.length=c*2:=by
  rw[x];simp only[Ga,Gd,Gk,q,o];omega
 have E:k.take ((i+1)*2)=b.take (i*2)++m:=by
  have e:(b.take (i*2)++m).length=(i+1)*2:=by rw[Ga,Gd,f,q];omega
  rw[x,D];exact Fo e
 have B:Blk (I.setRow N k.toArray) N k 239:=r.setRow k;have R:Blk (I.setRow N k.toArray) g b 239:=Q.of_heap (Dv _ N g _ (by omega));have O:Fr Nil w (I.setRow N k.toArray):=M.setRow (fun h=>by omega) _;obtain⟨W2,X⟩:∃ W2,W2=I.setRow N k.toArray:=⟨_,rfl⟩;rw[<- X] at p B R O;clear X;have A:(b.drop (i*2)).length=(n-i)*2:=by rw[Gk,f,CL]
 obtain⟨c3,y⟩:∃ c3,c3=k.take ((i+1)*2)++b.drop (i*2)++k.drop ((i+1)*2+(b.drop (i*2)).length):=⟨_,rfl⟩;have G:∀ ty J sc,(Builtin.copy_ #[157,157] ty #[.slice (some ⟨N,(i+1)*2,none⟩) (n-i) J,.slice (some ⟨g,i*2,none⟩) (n-i) sc]).run Tryz.prog W2.drew=_:=fun ty J sc =>
  Zr 157 239 ty 2 Ep (by kernel_rfl) N ((i+1)*2) (n-i) J ⟨g,i*2,none⟩ (n-i) sc k (b.drop (i*2)) 239 B.drew
   (by rw[A];congr 1;simp only[EW];split <;> omega) (fun j u t=>by rw[GY,R.drew.cell];rw[FY] at t;exact t)
   (by rw[A,l];omega)
   (fun u t=>h1 u (GB t))
 rw[<- y] at G;have a1:Tx w (some g) n i b m (.returned (.slice (some ⟨N,0,none⟩) (n+1) c)) (W2.drew.setRow N c3.toArray):=by
  refine⟨N,c,rfl,Yp (B.drew.setRow _) a2 L ?_ ?_,(O.drew.setRow (fun h=>by omega) _).mono (fun _ _ h=>absurd h id),.inr (by omega)⟩
  .rw[y]
   simp only[Ga,Gd,Gk,f,l];omega
  .have e:(k.take ((i+1)*2)++b.drop (i*2)).length=(n+1)*2:=by rw[Ga,Gd,l,A];omega
   rw[y,Fo e,E]
   rfl
 clear D E C y x v r T Q M B R O A l o h1 a0 q f hv hg hN s a7 K S a6 a4;unfold maxLen at L;have a9:¬(i:Int)=(n:Int):=by omega
 have b0:¬n=i:=by omega
 have b1:¬c=i+1:=by omega
 have b2:¬c=i:=by omega
 have b3:(n:Int)+1-i=((n+1-i:Nat):Int):=by omega
 have b4:IntKind.i64.wrap ((i:Int)+1)=(i:Int)+1:=by rw[Gs];omega
 have b5:(0:Int)<=(i:Int)+1:=by omega
 have b6:((i:Int)+1).toNat=i+1:=by omega
 have b7:(i:Int)<=(n:Int)+1:=by omega
 have b8:(i:Int)<=(n:Int):=by omega
 go_enter Tryz.func295,Tryz.ntmps295
 go_wp2_with (at_builtin;go_must (first|(refine CA _ rfl _ _ _ _ rfl _ _ (by rfl) (by rfl) _ _ (a _) ?_)|(refine Yr rfl _ _ 157 157 rfl _ _ (by rfl) (by rfl) (p _ _) ?_)))
 go_region_law (refine YA rfl _ _ 157 157 rfl _ _ (by simp[Act.eval,Act.put]) (by simp[Act.eval,Act.put]) (G _ _ _) ?_)
 go_wp2
 go_ret;exact a1
theorem Qf(v:Value)(n i:Nat)(k d:List Value)(j:Nat)(w:World)(b:w.ownsRow 0 239 2 v n k)(r:∀ u∈k,u.oneCell'=true)(B:i<=n)
 (h:d.length=2)(f:∀ u∈d,u.oneCell'=true)(q:Blk w j d 239)(p:v.ownBlock≠some j)(a:(n+1)*40<=140737488355328) :
 Calls Tryz.prog 295 #[v,.int .i64 i,.slice (some ⟨j,0,none⟩) 1 1] w fun e A=>Tx w v.ownBlock n i k d e A:=by
 rcases Eg i n with m|y
 .rcases Yq b with⟨_,h0,_⟩|⟨g,cap,c,rfl,hg,hn,hm,hc,ht⟩
  .omega
  .have hne':j≠g:=fun e=>p (by rw[e];rfl)
   rcases Eg n cap with t|t
   .exact Qe g n cap i c k d j w hg hc ht r m t hm h f q hne'
   .have e:cap=n:=by omega
    subst e;have o:c=k:=by rw[<- ht];exact(Gx (by omega)).symm
    subst o;exact QY g cap i c d j w hg hc r m h f q a
 .have e:i=n:=by omega
  subst e;exact Ot v i k d j w b h f q a
theorem Hn:((Tryz.prog.info? 239).map fun i=>(i.zero.map (·.cells.size),i.size,i.bytes))=some (some 2,2,40):=by kernel_rfl
theorem Ho:((Tryz.prog.info? 239).map fun i=>(i.zero.map fun z=>z.cells.toList.all (·.oneCell')))=some (some true):=by kernel_rfl
theorem Qg(v:Value)(n i:Nat)(C:List Value)(w:World)(l:w.ownsRow 0 239 2 v n C)(h1:∀ u∈C,u.oneCell'=true)(hi:i<n) :
 Calls Tryz.prog 294 #[v,.int .i64 i,.int .i64 ((i:Int)+1)] w fun e w' =>
  ∃ J,e=.returned J/\J.ownBlock=v.ownBlock/\w'.ownsRow 0 239 2 J (n-1) (Yg 2 i C)/\Fr (fun b=>v.ownBlock=some b) w w':=by
 rcases Yq l with⟨_,h0,_⟩|⟨g,a,c,rfl,hg,hn,N,r,ht⟩
 .omega
 obtain⟨i0,z,G,I,a2,a1,a0⟩:=Y6 Hn;have Y:∀ u∈z.cells.toList,u.oneCell'=true:=by
  have:=Ho;rw[G] at this;simp only[Option.map_some,I] at this;exact List.all_eq_true.1 (GG (GG this))
 have X:C.length=n*2:=l.1;clear l;obtain⟨o,k⟩:∃ o,o=C.drop ((i+1)*2):=⟨_,rfl⟩;have s:o.length=(n-(i+1))*2:=by rw[k,Gk,X];omega
 have O:∀ j u,o[j]?=some u->c[(i+1)*2+j]?=some u:=by
  intro j u m;rw[k,FY] at m;have a6:=(GF.1 m).1;rw[<- ht,Fq (by omega)] at m;exact m
 obtain⟨L,a4,V⟩:∃ L:Addr,(if a=i+1 then some (⟨g,0,none⟩:Addr) else some ⟨g,(i+1)*2,none⟩)=some L/\Hid (∀ j u,o[j]?=some u->w.drew.cell? (L.add j)=some u):=by
  by_cases h:a=i+1
  .refine⟨⟨g,0,none⟩,by simp[h],fun j u m=>?_⟩
   have:=(GF.1 m).1;omega
  .refine⟨⟨g,(i+1)*2,none⟩,by simp[h],fun j u m=>?_⟩
   rw[GY,hg.drew.cell];exact O j u m
 have p:∀ ty sc,(Builtin.append_ #[157,157] ty #[.slice (some ⟨g,0,none⟩) i a,.slice (some L) (n-(i+1)) sc]).run Tryz.prog w.drew=_:=fun ty sc =>
  Uo (P:=Tryz.prog) 157 239 ty 2 Ep (by kernel_rfl) g i (n-(i+1)) a sc L c o hg.drew (by omega) r s V.out (fun u m=>h1 u (by rw[k] at m;exact GB m))
 have e1:i+(n-(i+1))=n-1:=by omega
 rw[e1] at p;obtain⟨f,q⟩:∃ f,f=c.take (i*2)++o++c.drop (i*2+o.length):=⟨_,rfl⟩;rw[<- q] at p;have d:f.length=a*2:=by
  rw[q];simp only[Ga,Gd,Gk,s,r];omega
 have x:f.take ((n-1)*2)=Yg 2 i C:=by
  have e:(c.take (i*2)++o).length=(n-1)*2:=by rw[Ga,Gd,s,r];omega
  rw[q,Fo e];unfold Yg;rw[<- k,<- ht,EF]
  congr 2
  omega
 have t:Blk (w.drew.setRow g f.toArray) g f 239:=hg.drew.setRow f;have E:Fr (fun b=>some g=some b) w (w.drew.setRow g f.toArray):=Fr.setRow (S:=fun b=>some g=some b) ((U _ w).drew) (fun _=>rfl) _;obtain⟨D,M⟩:∃ D,D=w.drew.setRow g f.toArray:=⟨_,rfl⟩;rw[<- M] at p t E;clear M;have B:∀ cc,∃ K:List Value,K.length=a*2/\K.take ((n-1)*2)=Yg 2 i C/\∀ ty,(Builtin.clear_ #[157] ty #[.slice (some ⟨g,(n-1)*2,none⟩) (n-(n-1)) cc]).run Tryz.prog D=.ok (.tuple #[]) (D.setRow g K.toArray):=by
  intro cc;have e2:n-(n-1)=1:=by omega
  rw[e2];obtain⟨zs,a3,T⟩:=TQ (P:=Tryz.prog) (w:=D) 157 239 239 i0 z 2 Ep G I a0 Y g ((n-1)*2) 1 cc f 239 t (by rw[d];omega);refine⟨f.take ((n-1)*2)++zs++f.drop ((n-1)*2+zs.length),?_,?_,fun ty=>T⟩
  .simp only[Ga,Gd,Gk,a3,d]
   omega
  .have e:(f.take ((n-1)*2)).length=(n-1)*2:=by rw[Gd,d];omega
   rw[Gp,Fo e,x]
 obtain⟨K,y,A,B⟩:=B (a-(n-1));have Q:∀ e,e=Ending.returned (.slice (some ⟨g,0,none⟩) (n-1) a)->∃ J,e=.returned J/\J.ownBlock=some g/\(D.setRow g K.toArray).ownsRow 0 239 2 J (n-1) (Yg 2 i C)/\Fr (fun b=>some g=some b) w (D.setRow g K.toArray):=by
  intro e he;exact⟨_,he,rfl,Yp (t.setRow _) (by omega) N y A,Fr.setRow (S:=fun b=>some g=some b) E (fun _=>rfl) _⟩
 clear A y x d q t E O s k hg X h1 a0 a1 a2 I G Y r ht;have R:(Value.slice (some ⟨g,0,none⟩) n a).ownBlock=some g:=rfl;rw[R];clear R;unfold maxLen at N;have a5:i<=a:=by omega
 have a7:¬(i:Int)=(i:Int)+1:=by omega
 have a8:¬a=n-1:=by omega
 have a9:IntKind.i64.wrap ((i:Int)+1)=(i:Int)+1:=by rw[Gs];omega
 have b0:(0:Int)<=(i:Int)+1:=by omega
 have b1:((i:Int)+1).toNat=i+1:=by omega
 have b2:(i:Int)<=(n:Int):=by omega
 have b3:(i:Int)+1<=(n:Int):=by omega
 go_enter Tryz.func294,Tryz.ntmps294;go_wp2_with fail
 go_region_law (refine Ru rfl _ _ 157 157 rfl _ _ (by simp[Act.eval,Act.put]) (by simp[Act.eval,Act.put]) (p _ (a-(i+1))) ?_)
 go_wp2
 go_ret;exact Q _ rfl
end Go.Proofs.YtkhnggkkiefcdaaGreatDoor
