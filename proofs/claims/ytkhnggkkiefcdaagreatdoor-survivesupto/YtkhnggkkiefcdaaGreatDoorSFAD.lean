/- larder: joined texts -/
import Derived.Test.YtkhnggkkiefcdaaGreatDoorSFAA
import Derived.Test.YtkhnggkkiefcdaaGreatDoorSFAC
import Derived.Test.YtkhnggkkiefcdaaGreatDoorChecked
import Derived.Laws.StructEq
namespace Go.Proofs.YtkhnggkkiefcdaaGreatDoor
open Go.RowKit
set_option maxRecDepth 100000
set_option maxHeartbeats 8000000
theorem Vr:((Tryz.prog.info? 9).map fun i=>(i.zero.map (·.cells.size),i.size,i.bytes))=some (some 1,1,16):=by kernel_rfl
def zf(a b:ByteArray):Bool:=Op.bytesLess a.toList b.toList
def YD:List ByteArray->ByteArray->List ByteArray
 | [],x=>[x]
 | y::r,x=>if zf x y then y::YD r x else x::y::r
def Yq(d:Dir)(k:Nat):List ByteArray:=((d.take k).foldl (fun r e=>YD r e.1) []).reverse
def Dir.names(d:Dir):List ByteArray:=Yq d d.length
theorem OO(l:List ByteArray)(x:ByteArray):(YD l x).length=l.length+1:=by
 induction l with
 | nil=>rfl
 | cons y r a=>simp only[YD];split <;> simp[a]
theorem WX(d:Dir)(k:Nat)(h:k<d.length):Yq d (k+1)=(YD (Yq d k).reverse d[k].1).reverse:=by
 unfold Yq;rw[Hj h,Gq];simp
theorem VQ(d:Dir):∀ k,k<=d.length->(Yq d k).length=k:=by
 intro k
 induction k with
 | zero=>intro _;rfl
 | succ k a =>
  intro h;rw[WX d k h,List.length_reverse,OO,List.length_reverse,a (by omega)]
theorem LC(P R:List ByteArray)(x:ByteArray)(h:∀ t∈P,zf x t=true):YD (P++R) x=P++YD R x:=by
 induction P with
 | nil=>rfl
 | cons y P c =>
  have b:=h y (Hf ..);simp only[IY,YD,b,Gi];rw[c (fun t a=>h t (Hb _ a))]
theorem P4(A:List ByteArray)(x:ByteArray)(j:Nat)(d:j<=A.length)(h:∀ t∈A.drop j,zf x t=true)(c:∀ i (a:i<A.length),j=i+1->zf x A[i]=false) :
 A.take j++[x]++A.drop j=(YD A.reverse x).reverse:=by
 have e:A.reverse=(A.drop j).reverse++(A.take j).reverse:=by rw[<- List.reverse_append,Ge]
 rw[e,LC _ _ _ (fun t f=>h t (by simpa using f))];cases j with
 | zero=>simp[YD]
 | succ i =>
  have a:i<A.length:=d;have b:(A.take (i+1)).reverse=A[i]::(A.take i).reverse:=by
   rw[Hj a];simp
  rw[b];have:=c i a rfl;simp only[YD,this,Gl,Gj];rw[<- b];simp
def strs(l:List ByteArray):List Value:=l.map Value.string
theorem UY(P Q:List ByteArray)(x:ByteArray):strs (P++[x]++Q)=strs P++.string x::strs Q:=by simp[strs]
theorem UH(l:List ByteArray):(strs l).length=l.length:=by simp[strs]
theorem NS(A:List ByteArray)(x:ByteArray)(i:Nat)(b:i<A.length) :
 (strs (A.take (i+1)++[x]++A.drop (i+1)))[i+1]?=some (.string x)/\(strs (A.take (i+1)++[x]++A.drop (i+1)))[i]?=some (.string A[i]):=by
 have a:(strs (A.take (i+1))).length=i+1:=by rw[UH];simp;omega
 rw[UY]
 constructor
 .rw[Fk (by omega),a];simp
 .rw[FE (by omega)];simp[strs,b]
theorem LE(A:List ByteArray)(x:ByteArray)(i:Nat)(b:i<A.length) :
 ((strs (A.take (i+1)++[x]++A.drop (i+1))).set (i+1) (.string A[i])).set i (.string x)=strs (A.take i++[x]++A.drop i):=by
 have c:strs (A.take (i+1))=strs (A.take i)++[.string A[i]]:=by unfold strs;rw[Hj b,Gs];rfl
 have d:strs (A.drop i)=.string A[i]::strs (A.drop (i+1)):=by unfold strs;rw[Gm b,Ht]
 have a:(strs (A.take i)).length=i:=by rw[UH];simp;omega
 rw[UY,UY,c,d,Hu];rw[EF _ _ (by omega),a,EF _ _ (by omega),a];simp
theorem ZT{w:World}{a:Nat}{e:TypeId}{size:Nat}{g n b:Nat}{i:List Value}(h:w.ownsRow a e size (.slice (some ⟨g,0,none⟩) n b) n i)(j:Nat)(u:Value) :
 (w.setCell ⟨g,j,none⟩ u).ownsRow a e size (.slice (some ⟨g,0,none⟩) n b) n (i.set j u):=by
 rcases h.2 with⟨c,_⟩|⟨r,f,d,c,k,o,p,hm,hs,q⟩
 .cases c
 .simp at c
  obtain⟨rfl,rfl⟩:=c;refine⟨by rw[DE];exact h.1,.inr ⟨g,b,d.setIfInBounds j u,rfl,k,?_,p,hm,by simpa using hs,?_⟩⟩
  .simp[World.setCell,Array.getElem?_modify,o]
  .rw[<- q]
   simp only[Array.toList_setIfInBounds];rw[List.take_set]
theorem Xv{w:World}{a:Nat}{e:TypeId}{size:Nat}{g n c:Nat}{o:List Value}(h:w.ownsRow a e size (.slice (some ⟨g,0,none⟩) n c) n o)(j:Nat):w.frozen? ⟨g,j,none⟩=false:=by
 rcases h.2 with⟨b,_⟩|⟨p,d,f,b,q,k,_⟩
 .cases b
 .simp at b
  obtain⟨rfl,_⟩:=b;simp[World.frozen?,k]
theorem Wm(w:World)(b:Nat)(L:DL)(M:DM)(h:DRep w b L M)(hm:M.dir.length<=1000000000000) :
 Calls Tryz.prog 86 #[.pointer (some ⟨b,0,none⟩)] w fun e J =>
  ∃ v,e=.returned v/\J.ownsRow 0 9 1 v M.dir.length (strs M.dir.names)/\Fr Nil w J/\(∀ k,v.ownBlock=some k->w.heap.size<=k):=by
 have hc:=h.CY.cell;simp only[DM.cells] at hc;obtain⟨a,b7,hv⟩:=zc h.dir;rw[hv] at hc;obtain⟨ti,tz,b0,b1,b2,b3,c3⟩:=ZH Vr;have HH:=Z h;have HV:=Z hv;clear h hv;go_enter Tryz.func86,Tryz.ntmps86
 go_wp2_with (at_make;go_must (refine wpList_make_own _ rfl _ _ 91 rfl 0 9 ti tz 1 Ee b0 b1 b2 _ _ _ M.dir.length (by rfl) (by rfl) rfl (by rw[b3];omega) (by unfold maxLen;omega) (Hg _) ?_))
 intro w1 r E;have y:Fr Nil w w1:=(Fr.Bv E).mono (fun _ _ h=>by cases h);have h1:=HH.out.fr y (fun _ _=>id);have s:=h1.CY.cell;simp only[DM.cells] at s;rw[HV.out] at s;clear hc E h1;go_wp2_with fail;clear s
 go_loopw [3,18] (fun l c J=>∃ k:Nat,k<=M.dir.length/\c=.int .i64 k/\J.ownsRow 0 9 1 l k (strs (Yq M.dir k))/\Fr Nil w J/\(∀ j,l.ownBlock=some j->w.heap.size<=j)) (fun _ c _=>M.dir.length-(intOf c).toNat)
 case atStart=>exact⟨0,Hg _,rfl,r,y,fun j F=>by simp[Value.ownBlock] at F;omega⟩
 case round =>
  obtain⟨k,hk,rfl,d,z,G⟩:=hrel;have hr:=HH.out.fr z (fun _ _=>id);have HN:=Z G;have HO:=Z d;have a5:=Z (VQ M.dir k hk);obtain⟨la,lc,a8⟩:=zc d;clear r y G d;subst a8;by_cases D:k<M.dir.length
  .obtain⟨g,hg⟩:∃ g,a=some ⟨g,0,none⟩:=by
    obtain⟨g,c',V,_⟩:=zm hr.dir (by omega);rw[HV.out] at V;simp at V;exact⟨g,V.1⟩
   subst hg;have f:=hr.dir;rw[HV.out] at f;have a4:=own_cell? f _ _ (Yj M.dir k D).1;have a9:=own_cell? f _ _ (Yj M.dir k D).2;have c0:=World.block_lt_of_cell? _ _ a4;clear f hr
   go_wp2_with (at_builtin;go_must (refine zk rfl _ _ _ _ rfl _ _ (by rfl) (by rfl) (zt 91 _ 9 1 16 Ee Vr (by decide) _ _ _ ((HO.out.alloc _).alloc _)
    ⟨wr.heap.size+1,0,none⟩ 1 1 [.string M.dir[k].1] rfl (XV _ _ _ _ (by simp)) (by intro u hu;simp at hu;subst hu;rfl) (by unfold maxLen;omega) (by omega)) ?_))
   intro v2 w4 R;obtain⟨Y,c2,b4,_,_⟩:=zm R.own (by omega);subst b4;have K:=Z R;clear R;go_wp2_with fail;generalize hA:Yq M.dir k=A at *;generalize hx:M.dir[k].1=x at *;have a0:A.length=k:=a5.out;have N:=Z a0;have X:Hid (Yq M.dir (k+1)=(YD A.reverse x).reverse):=by rw[Hid,WX M.dir k D,hA,hx]
   have b9:w.heap.size<=Y:=by
    rcases K.out.at_ with h|h
    .exact HN.out Y (by rw[<- h];rfl)
    .simp[Value.ownBlock] at h;have:=z.size;omega
   have a2:Fr Nil w w4:=Fr.trans' ((z.alloc _).alloc _) K.out.fr (fun j D F=>by have:=HN.out j F;omega);have b5:=Z hA;have b6:=Z hx;clear hA hx a0 a4 a9
   go_loopw [6] (fun c J=>∃ j:Nat,j<=k/\c=.int .i64 j/\J.ownsRow 0 9 1 (.slice (some ⟨Y,0,none⟩) (k+1) c2) (k+1) (strs (A.take j++[x]++A.drop j))/\(∀ t,t∈A.drop j->zf x t=true)/\Fr Nil w J) (fun c _=>(intOf c).toNat)
   case atStart =>
    refine⟨k,IQ _,rfl,?_,?_,a2⟩
    .have e:strs (A.take k++[x]++A.drop k)=strs A++[.string x]:=by
      have hl:=N.out;rw[Hn (by omega),Fp (by omega)];simp[strs]
     rw[e];exact K.out.own
    .intro t T
     rw[Fp (by have:=N.out;omega)] at T;cases T
   case round =>
    rename_i wq;obtain⟨j,F,rfl,d,q,S⟩:=hrel;have o:=Z d;have Q:=Z q;clear d q a2;rcases FG j with rfl|c1
    .have hd:decide ((0:Int)<((0:Nat):Int))=false:=by simp
     go_wp2_with fail
     go_quiet (fail)
     go_wp2
     have e3:Yq M.dir (k+1)=A.take 0++[x]++A.drop 0:=X.out.trans (P4 A x 0 (Hg _) Q.out (fun i _ h=>by omega)).symm;exact⟨⟨k+1,by omega,by go_num,by rw[e3];exact o.out,S.drewN _,fun j F=>by simp[Value.ownBlock] at F;omega⟩,by simp[intOf];omega⟩
    .obtain⟨i,rfl⟩:∃ i,j=i+1:=⟨j-1,by omega⟩
     have B:i<A.length:=by have:=N.out;omega
     have s:=own_cell? o.out _ _ (NS A x i B).1;have b8:=own_cell? o.out _ _ (NS A x i B).2;have y:=Xv o.out;have e1:(((i+1:Nat):Int))=(i:Int)+1:=by omega
     rw[e1];cases hls:zf x A[i] with
     | true =>
      have a3:Op.bytesLess x.toList A[i].toList=true:=hls;go_wp2_with fail
      go_quiet (fail)
      go_wp2_with fail
      go_region
      go_wp2
      have I:=ZT (ZT (w:=wr.drewN (nq+1)) o.out (i+1) (.string A[i])) i (.string x);rw[LE A x i B] at I;have C:∀ t,t∈A.drop i->zf x t=true:=by
       intro t T;rw[Gm B] at T;rcases HY.1 T with rfl|T
       .exact hls
       .exact Q.out t T
      exact⟨⟨i,by omega,rfl,I,C,Fr.set (Fr.set (S.drewN _) (fun(h:Y<w.heap.size)=>absurd h (by omega)) _) (fun(h:Y<w.heap.size)=>absurd h (by omega)) _⟩,by simp[intOf]⟩
     | false =>
      have a3:Op.bytesLess x.toList A[i].toList=false:=hls;go_wp2_with fail
      go_quiet (fail)
      go_wp2
      have a1:∀ i' (a6:i'<A.length),i+1=i'+1->zf x A[i']=false:=by
       intro i' a6 h;have h':i'=i:=by omega
       subst h';exact hls
      have e3:Yq M.dir (k+1)=A.take (i+1)++[x]++A.drop (i+1):=X.out.trans (P4 A x (i+1) (by omega) Q.out a1).symm;exact⟨⟨k+1,by omega,by go_num,by rw[e3];exact o.out,S.drewN _,fun j F=>by simp[Value.ownBlock] at F;omega⟩,by simp[intOf];omega⟩
  .go_wp2
   go_ret;have a7:k=M.dir.length:=by omega
   subst a7;exact⟨_,rfl,HO.out,z,HN.out⟩
def Xa(a b:ByteArray):Int:=if zf a b=true then -1 else if (a.toList==b.toList)=true then 0 else 1
theorem Mp(a b:ByteArray)(w:World) :
 Calls Tryz.prog 201 #[.string a,.string b] w fun e i=>e=.returned (.int .i64 (Xa a b))/\i=w:=by
 have j:∀ x:ByteArray,(x.toList==x.toList)=true:=by intro x;simp
 by_cases c:zf a b=true
 .have h:Xa a b=-1:=by unfold Xa;rw[He c]
  rw[h];clear h;have f:Op.bytesLess a.toList b.toList=true:=c;clear c;go_enter Tryz.func201,Tryz.ntmps201
  go_wp2
  go_ret;exact⟨rfl,rfl⟩
 .have f:Op.bytesLess a.toList b.toList=false:=by simpa [zf] using c
  by_cases d:(a.toList==b.toList)=true
  .have h:Xa a b=0:=by unfold Xa;rw[IV c,He d]
   rw[h];clear h c;go_enter Tryz.func201,Tryz.ntmps201
   go_wp2
   go_ret;exact⟨rfl,rfl⟩
  .have h:Xa a b=1:=by unfold Xa;rw[IV c,IV d]
   rw[h];clear h c;have g:(a.toList==b.toList)=false:=by simpa using d
   clear d;go_enter Tryz.func201,Tryz.ntmps201
   go_wp2
   go_ret;exact⟨rfl,rfl⟩
theorem We(a b:ByteArray)(v:Value)(w:World) :
 Calls Tryz.prog 200 #[.agg #[.string a,v],.string b] w fun e c=>e=.returned (.int .i64 (Xa a b))/\Fr Nil w c:=by
 go_enter Tryz.func200,Tryz.ntmps200
 go_wp2_with (go_at_call 201;refine(Mp _ _ _).mono ?_;rintro e d ⟨rfl,rfl⟩)
 go_ret;exact⟨rfl,(by repeat' first|exact O _ _|(with_reducible assumption)|refine Fr.drewN ?_ _|refine Fr.drew ?_|refine Fr.alloc ?_ _|refine Fr.set ?_ ?_ _|(intro _;rfl))⟩
end Go.Proofs.YtkhnggkkiefcdaaGreatDoor
namespace Go.Proofs.YtkhnggkkiefcdaaGreatDoor
set_option maxRecDepth 100000
set_option maxHeartbeats 8000000
open Go
structure Strict{α:Type}(lt:α->α->Bool):Prop where
 yI:∀ a,lt a a=false
 trans:∀ a b c,lt a b=true->lt b c=true->lt a c=true
 yO:∀ a b,lt a b=false->a≠b->lt b a=true
theorem Strict.yL{α:Type}{lt:α->α->Bool}(h:Strict lt){a b:α}(c:lt a b=true):lt b a=false:=by
 cases hb:lt b a with
 | false=>rfl
 | true=>have:=h.trans _ _ _ c hb;rw[h.yI] at this;cases this
def Asc{α:Type}(lt:α->α->Bool)(l:List α):Prop:=l.Pairwise fun a b=>lt a b=true
theorem Asc.get{α:Type}{lt:α->α->Bool}{l:List α}(h:Asc lt l){i j:Nat}(c:i<j)(d:j<l.length):lt (l[i]'(DO c d)) l[j]=true :=
 (List.pairwise_iff_getElem.1 h) i j (by omega) d c
def low{α:Type}(lt:α->α->Bool)(l:List α)(b:α):Nat:=(l.takeWhile fun a=>lt a b).length
theorem Vd{α:Type}(lt:α->α->Bool)(l:List α)(b:α):low lt l b<=l.length:=by
 induction l with
 | nil=>simp[low]
 | cons a r c =>
  by_cases h:lt a b=true
  .simp only[low,DH,h,Gi,Hq] at c |-;omega
  .simp[low,h]
theorem U4{α:Type}(lt:α->α->Bool)(b:α):∀ (l:List α)(i:Nat),i<=l.length->(∀ k (e:k<l.length),k<i->lt l[k] b=true)->(∀ e:i<l.length,lt l[i] b=false)->low lt l b=i
 | [],i,c,_,_=>by simp at c;simp[low,c]
 | a::r,0,_,_,d=>by
  have:lt a b=false:=d (by simp);simp[low,this]
 | a::r,i+1,c,f,d=>by
  have g:lt a b=true:=f 0 (by simp) (by omega);have:=U4 lt b r i (by simpa using c) (fun k e h=>f (k+1) (by simp;omega) (by omega)) (fun e=>d (by simp;omega));simp only[low,DH,g,Gi,Hq] at this |-;rw[this]
theorem Tu{α:Type}{lt:α->α->Bool}{b:α}:∀ {l:List α}{k:Nat}(c:k<l.length),k<low lt l b->lt l[k] b=true
 | [],k,c,_=>by simp at c
 | a::r,k,c,h=>by
  by_cases d:lt a b=true
  .cases k with
   | zero=>simpa using d
   | succ k =>
    have e:k<low lt r b:=by simp only[low,DH,d,Gi,Hq] at h |-;omega
    simpa using Tu (l:=r) (k:=k) (by simpa using c) e
  .simp[low,d] at h
theorem Tv{α:Type}{lt:α->α->Bool}{b:α}:∀ {l:List α}(c:low lt l b<l.length),lt l[low lt l b] b=false
 | [],c=>by simp at c
 | a::r,c=>by
  by_cases d:lt a b=true
  .have e:low lt (a::r) b=low lt r b+1:=by simp[low,d]
   have f:low lt r b<r.length:=by rw[e] at c;simpa using c
   have:=Tv (l:=r) f;simp only[e,Ez];exact this
  .have e:low lt (a::r) b=0:=by simp[low,d]
   simp only[e,GJ]
   simpa using d
def Z5{α:Type} [BEq α] (lt:α->α->Bool)(l:List α)(b:α):Bool :=
 match l[low lt l b]? with
 | some a=>a==b
 | none=>false
theorem Ve{α:Type} [BEq α] {lt:α->α->Bool}{l:List α}{b:α}(h:¬low lt l b<l.length):Z5 lt l b=false:=by
 have:l[low lt l b]?=none:=by rw[EE];omega
 simp[Z5,this]
theorem Uu{α:Type} [BEq α] {lt:α->α->Bool}{l:List α}{b:α}(h:low lt l b<l.length):Z5 lt l b=(l[low lt l b]==b):=by
 have:l[low lt l b]?=some l[low lt l b]:=IW h;simp[Z5,this]
theorem Asc.fst{α β:Type}{lt:α->α->Bool}{l:List (α × β)}(h:Asc lt (l.map Prod.fst)){i j:Nat}(c:i<j)(d:j<l.length):lt (l[i]'(DO c d)).1 l[j].1=true:=by
 have:=h.get (i:=i) (j:=j) c (by simpa using d)
 rwa [Gf,Gf] at this
theorem XH{α β:Type} [BEq α] {lt:α->α->Bool}{l:List (α × β)}{b:α}{i:Nat}(a:i<l.length)(h:low lt (l.map Prod.fst) b=i):Z5 lt (l.map Prod.fst) b=(l[i].1==b):=by
 subst h;rw[Uu (by simpa using a),Gf]
theorem Asc.ins{α:Type}{lt:α->α->Bool}(hs:Strict lt){l:List α}{b:α}(h:Asc lt l)(s:∀ o:low lt l b<l.length,l[low lt l b]≠b) :
 Asc lt (l.take (low lt l b)++[b]++l.drop (low lt l b)):=by
 have f:∀ x∈l.drop (low lt l b),lt b x=true:=by
  intro x p;obtain⟨j,m,rfl⟩:=GF p;rw[Hi] at m;rw[Dg];have o:low lt l b<l.length:=by omega
  have q:lt b l[low lt l b]=true:=hs.yO _ _ (Tv o) (s o);rcases FG j with e|e
  .subst e;exact q
  .exact hs.trans _ _ _ q (h.get (i:=low lt l b) (j:=low lt l b+j) (by omega) (by omega))
 have d:∀ x∈l.take (low lt l b),lt x b=true:=by
  intro x p;obtain⟨j,m,rfl⟩:=GF p;rw[IR] at m;rw[Fy];exact Tu (by omega) (by omega)
 unfold Asc at h |-;have g:(l.take (low lt l b)++l.drop (low lt l b)).Pairwise fun a b=>lt a b=true:=by rwa [Ge]
 rw[List.pairwise_append] at g;rw[Hu,List.pairwise_append,Dp,List.pairwise_cons];refine⟨g.1,⟨f,g.2.1⟩,fun a r c k=>?_⟩;rcases HY.1 k with rfl|k
 .exact d a r
 .exact g.2.2 a r c k
theorem Asc.del{α:Type}{lt:α->α->Bool}{l:List α}(h:Asc lt l)(i:Nat):Asc lt (l.take i++l.drop (i+1)):=by
 unfold Asc at h |-;refine h.sublist ?_;have:l.take i++l.drop (i+1)=l.eraseIdx i:=by rw[List.eraseIdx_eq_take_drop_succ]
 rw[this];exact List.eraseIdx_sublist _ _
theorem Xw{a b:ByteArray}(h:a.toList=b.toList):a=b:=by
 rw[DI,DI] at h;exact EY (EN h)
theorem zT{a b:ByteArray}:(a==b)=true↔a=b:=by
 rw[Ec]
 constructor
 .intro h;exact Xw (by simpa using h)
 .intro h;subst h;simp
theorem Xx:∀(x y:List UInt8),Op.bytesLess x y=decide (x<y)
 | [],[]=>by simp[Op.bytesLess]
 | _::_,[]=>by simp[Op.bytesLess]
 | [],_::_=>by simp[Op.bytesLess]
 | a::x,b::y=>by
  rw[Op.bytesLess,Xx x y];simp only[List.cons_lt_cons_iff];by_cases c:a<b <;> by_cases d:a=b <;> by_cases e:x<y <;> simp[c,d,e]
end Go.Proofs.YtkhnggkkiefcdaaGreatDoor
namespace Go.Proofs.YtkhnggkkiefcdaaGreatDoor
open Go.RowKit
set_option maxRecDepth 100000
set_option maxHeartbeats 8000000
def Z1(l:List (ByteArray × Value)):List Value:=l.flatMap fun e=>[.string e.1,e.2]
theorem YH(d:List (ByteArray × Value)):(Z1 d).length=d.length*2:=by
 induction d with
 | nil=>rfl
 | cons e d a=>simp only[Z1,Fi,IM,Hq,Gt] at a |-;omega
theorem Z3(d:List (ByteArray × Value)):∀ (k:Nat)(h:k<d.length),(Z1 d)[k*2]?=some (.string d[k].1)/\(Z1 d)[k*2+1]?=some d[k].2:=by
 induction d with
 | nil=>intro k h;simp at h
 | cons e d c =>
  intro k h;cases k with
  | zero=>exact⟨rfl,rfl⟩
  | succ k =>
   have:=c k (by simpa using h);have b:(k+1)*2=k*2+2:=by omega
   simp only[Z1,Fi,b] at this |-;exact this
theorem Zg:Strict zf where
 yI a:=by simp[zf,Xx,List.lt_irrefl]
 trans a b c h1 h2:=by
  simp only[zf,Xx,Ha] at *;exact List.lt_trans h1 h2
 yO a b h1 h2:=by
  simp only[zf,Xx,Ha,Ho] at *;rcases List.le_iff_lt_or_eq.1 (List.not_lt.1 h1) with h|h
  .exact h
  .exact absurd (Xw h).symm h2
theorem P5{a b:ByteArray}:Xa a b<0↔zf a b=true:=by
 unfold Xa;split
 .rename_i h;simp[h]
 .rename_i h
  split <;> simp[h]
theorem LF{a b:ByteArray}:Xa a b=0↔(a==b)=true:=by
 unfold Xa;have c:=Ec a b;split
 .rename_i h
  constructor
  .intro h';omega
  .intro h'
   have:a=b:=zT.1 h';subst this;rw[Zg.yI] at h;cases h
 .split
  .rename_i h;rw[c];simp[h]
  .rename_i h;rw[c];simp[h]
theorem RR(v:Value)(l:List (ByteArray × Value))(s:ByteArray)(w:World)(h:w.ownsRow 0 239 2 v l.length (Z1 l))(hs:Asc zf (l.map Prod.fst))(X:l.length<4611686018427387904) :
 Calls Tryz.prog 199 #[v,.string s,.func (.func 200) #[] #[]] w fun e E =>
  e=.returned (.tuple #[.int .i64 (low zf (l.map Prod.fst) s),.bool (Z5 zf (l.map Prod.fst) s)])/\Fr Nil w E:=by
 have V:=zH h;unfold maxLen at V;obtain⟨a,t,rfl⟩:=zc h;go_enter Tryz.func199,Tryz.ntmps199
 go_wp2
 go_loopw [9,10] (fun C D E=>∃ i j:Nat,i<=j/\j<=l.length/\C=.int .i64 i/\D=.int .i64 j/\(∀ k (d:k<l.length),k<i->zf l[k].1 s=true)/\(∀ k (d:k<l.length),j<=k->zf l[k].1 s=false)/\Fr Nil w E) (fun C D _=>(intOf D).toNat-(intOf C).toNat)
 case atStart=>exact⟨0,l.length,Hg _,IQ _,rfl,rfl,fun k _ d=>absurd d (Gb _),fun k d S=>absurd d (by omega),O _ _⟩
 case round =>
  obtain⟨i,j,R,F,rfl,rfl,c,u,p⟩:=hrel;by_cases T:i<j
  .obtain⟨g,rfl⟩:∃ g,a=some ⟨g,0,none⟩:=by
    rcases h.2 with⟨c,K⟩|⟨g,t,z,c,_⟩
    .omega
    .simp at c;exact⟨g,c.1⟩
   have hm:(i+j) / 2<l.length:=by omega
   have Q:=own_cell? (zb h p (fun _ _=>id)) ((i+j) / 2*2) _ (Z3 l _ hm).1;have A:=own_cell? (zb h p (fun _ _=>id)) ((i+j) / 2*2+1) _ (Z3 l _ hm).2;have I:=Z c;have J:=Z u;clear c u;have L:(i:Int)<=4611686018427387903:=by omega
   have M:(j:Int)<=4611686018427387903:=by omega
   have N:(i:Int)+j<=9223372036854775807:=by omega
   have Y:(((i:Int)+j) / 2).toNat=(i+j) / 2:=by omega
   cases hl:zf l[(i+j) / 2].1 s with
   | true =>
    have r:=Z hl;have B:Xa l[(i+j) / 2].1 s<0:=P5.2 hl;clear hl
    go_wp2_with (go_at_call 200;refine(We _ _ _ _).mono ?_;rintro e G ⟨rfl,m⟩)
    refine⟨⟨(i+j) / 2+1,j,by omega,F,by go_num,rfl,fun k d q=>?_,J.out,p.trans m⟩,by simp[intOf];omega⟩;by_cases e:k=(i+j) / 2
    .subst e;exact r.out
    .exact Zg.trans _ _ _ (hs.fst (i:=k) (j:=(i+j) / 2) (by omega) hm) r.out
   | false =>
    have r:=Z hl;have B:¬Xa l[(i+j) / 2].1 s<0:=by rw[P5];simp[hl]
    clear hl
    go_wp2_with (go_at_call 200;refine(We _ _ _ _).mono ?_;rintro e G ⟨rfl,m⟩)
    refine⟨⟨i,(i+j) / 2,by omega,by omega,rfl,by go_num,I.out,fun k d q=>?_,p.trans m⟩,by simp[intOf];omega⟩;by_cases e:k=(i+j) / 2
    .subst e;exact r.out
    .cases hk2:zf l[k].1 s with
     | false=>rfl
     | true =>
      have:=Zg.trans _ _ _ (hs.fst (i:=(i+j) / 2) (j:=k) (by omega) d) hk2;rw[r.out] at this;cases this
  .have he:i=j:=by omega
   subst he;have b:low zf (l.map Prod.fst) s=i:=U4 zf s _ i (by simpa using F) (fun k d q=>by simpa using c k (by simpa using d) q) (fun d=>by simpa using u i (by simpa using d) (IQ _));by_cases o:i<l.length
   .obtain⟨g,rfl⟩:∃ g,a=some ⟨g,0,none⟩:=by
     rcases h.2 with⟨c,K⟩|⟨g,t,z,c,_⟩
     .omega
     .simp at c;exact⟨g,c.1⟩
    have Q:=own_cell? (zb h p (fun _ _=>id)) (i*2) _ (Z3 l _ o).1;have A:=own_cell? (zb h p (fun _ _=>id)) (i*2+1) _ (Z3 l _ o).2;have f:Z5 zf (l.map Prod.fst) s=(Xa l[i].1 s==0):=by
     rw[XH o b,Bool.eq_iff_iff,<- LF];simp
    have y:=Z b;have x:=Z f;clear c u b f
    go_wp2_with (go_at_call 200;refine(We _ _ _ _).mono ?_;rintro e G ⟨rfl,m⟩)
    go_ret2;rw[y.out,x.out];exact⟨rfl,p.trans m⟩
   .have f:Z5 zf (l.map Prod.fst) s=false:=Ve (by rw[b];simpa using o)
    have y:=Z b;have x:=Z f;clear c u b f
    go_wp2
    go_ret2;rw[y.out,x.out];exact⟨rfl,p⟩
theorem LG:((Tryz.prog.info? 239).map fun i=>(i.zero.map (·.cells.size),i.size,i.bytes))=some (some 2,2,40):=by kernel_rfl
def UZ(w:World)(c:Option Nat)(n i:Nat)(h f:List Value)(e:Ending)(d:World):Prop :=
 ∃ g a,e=.returned (.slice (some ⟨g,0,none⟩) (n+1) a)/\d.ownsRow 0 239 2 (.slice (some ⟨g,0,none⟩) (n+1) a) (n+1) (Y5 2 i h f)/\Fr (fun b=>c=some b) w d/\(c=some g\/w.heap.size<=g)
theorem OP(v:Value)(n:Nat)(d f:List Value)(r:Nat)(w:World)(b:w.ownsRow 0 239 2 v n d)(t:f.length=2)(s:∀ u∈f,u.oneCell'=true)(E:Blk w r f 239)(p:(n+1)*40<=140737488355328) :
 Calls Tryz.prog 295 #[v,.int .i64 n,.slice (some ⟨r,0,none⟩) 1 1] w fun e c=>UZ w v.ownBlock n n d f e c:=by
 have q:∀ ty,∃ m c,(Builtin.append_ #[157,157] ty #[v,.slice (some ⟨r,0,none⟩) 1 1]).run Tryz.prog w=.ok m c/\App w v 239 2 (n+1) (d++f) m c:=fun ty =>
  zt (P:=Tryz.prog) 157 ty 239 2 40 Fl LG (by omega) v n d b ⟨r,0,none⟩ 1 1 f (by rw[t]) (fun j u D=>by rw[Gh,Gg];rw[E.cell];exact D) s (by unfold maxLen;omega) p
 have k:∀ m c,App w v 239 2 (n+1) (d++f) m c->UZ w v.ownBlock n n d f (.returned m) c:=by
  rintro m c ⟨y,B,o⟩;obtain⟨g,l,rfl,_,_⟩:=y.form (by omega);refine⟨g,l,rfl,?_,(Fr.Bv B).mono (fun i _ h=>h),?_⟩
  .have e1:d.take (n*2)=d:=Hn (by rw[b.1];exact IQ _)
   have z:d.drop (n*2)=[]:=Gy (by rw[b.1];exact IQ _);unfold Y5;rw[e1,z,Hx];exact y
  .rcases o with o|o
   .left;rw[<- o];rfl
   .right;have:g=w.heap.size:=by simpa [Value.ownBlock] using o
    omega
 have C:=zH b;unfold maxLen at C;obtain⟨a,l,rfl⟩:=zc b;have x:=Z k;clear k b;generalize (Value.slice a n l).ownBlock=F at x |-;go_enter Tryz.func295,Tryz.ntmps295
 go_wp2_with (at_builtin;go_must (refine zk rfl _ _ _ _ rfl _ _ (by rfl) (by rfl) (q _) ?_);rintro m c A)
 all_goals
  go_ret;exact x.out _ _ A
theorem LH(w:World)(k m l i h f:Nat)(a g:Nat)(j c:List Value)(d:Blk w a j 239)(p:Blk w g c 239)(b:a≠g)(o:c.length≠0) :
 (callFunc 297 #[.slice (some ⟨a,k,none⟩) m l,.slice (some ⟨g,i,none⟩) h f]).run Tryz.prog w=.ok (.value (.bool false)) w:=by
 rw[GA Tryz.func297 (by kernel_rfl) (by kernel_rfl) (by kernel_rfl) (e:=Extern.SlicesOverlaps.overlaps #[157,157] #[4]) (by kernel_rfl),
  Dh w 157 4 239 Fl 2 Tryz.sizeOf239 ⟨a,k,none⟩ ⟨g,i,none⟩ m l h f b 239 239 j.length c.length d.shape p.shape o (d.frozen _) (d.frozen _)]
 rfl
theorem RS(g n d i:Nat)(c l k:List Value)(z:Nat)(w:World)(J:Blk w g c 239)(h:c.length=d*2)(M:c.take (n*2)=l)(V:∀ u∈l,u.oneCell'=true)(hi:i<n)(a:n+1<=d)(F:d<=maxLen)
 (r:k.length=2)(I:∀ u∈k,u.oneCell'=true)(Q:Blk w z k 239)(K:z≠g) :
 Calls Tryz.prog 295 #[.slice (some ⟨g,0,none⟩) n d,.int .i64 i,.slice (some ⟨z,0,none⟩) 1 1] w fun e w'=>UZ w (some g) n i l k e w':=by
 have N:=fun va vl vc bo bl bc=>LH w va vl vc bo bl bc z g k c Q J K (by omega);have v:l.length=n*2:=by rw[<- M,IR,h];exact Gv (Hv _ (by omega))
 have q:(l.drop (i*2)).length=(n-i)*2:=by rw[Hi,v,Dz]
 have G:∀ j u,(l.drop (i*2))[j]?=some u->c[i*2+j]?=some u:=by
  intro j u s;rw[Fa] at s;have a0:=(Hp.1 s).1;rw[<- M,Gx (by omega)] at s;exact s
 have p:∀ ty A R,(Builtin.copy_ #[157,157] ty #[.slice (some ⟨g,(i+1)*2,none⟩) (n-i) A,.slice (some ⟨g,i*2,none⟩) (n+1-i) R]).run Tryz.prog w.drew=_:=fun ty A R =>
  Zv 157 239 ty 2 Fl (by kernel_rfl) g ((i+1)*2) (n-i) A ⟨g,i*2,none⟩ (n+1-i) R c (l.drop (i*2)) 239 J
   (by rw[q];congr 1;simp only[FK];split <;> omega) (fun j u s=>by rw[Gh,show w.drew.cell? ⟨g,i*2+j,none⟩=c[i*2+j]? from J.drew.cell _];exact G j u s)
   (by rw[q,h];have:=Hv 2 a;have e:(i+1)*2+(n-i)*2=(n+1)*2:=(by rw[<- Fe];congr 1;omega);omega)
   (fun u s=>V u (Gn s))
 obtain⟨f,m⟩:∃ f,f=c.take ((i+1)*2)++l.drop (i*2)++c.drop ((i+1)*2+(l.drop (i*2)).length):=⟨_,rfl⟩;rw[<- m] at p;have t:Blk (w.drew.setRow g f.toArray) g f 239:=J.drew.setRow f;have C:Blk (w.drew.setRow g f.toArray) z k 239:=Q.drew.of_heap (Ex _ g z _ K);have o:f.length=d*2:=by
  have:=Hv 2 a;have e:(i+1)*2+(n-i)*2=(n+1)*2:=by rw[<- Fe];congr 1;omega
  rw[m];simp only[IM,IR,Hi,v,h];omega
 have B:Fr (fun b=>some g=some b) w (w.drew.setRow g f.toArray):=Fr.setRow (S:=fun b=>some g=some b) ((O _ w).drew) (fun _=>rfl) _;obtain⟨L,D⟩:∃ L,L=w.drew.setRow g f.toArray:=⟨_,rfl⟩;rw[<- D] at p t C B;clear D;have x:∀ ty A,(Builtin.copy_ #[157,157] ty #[.slice (some ⟨g,i*2,none⟩) (n+1-i) A,.slice (some ⟨z,0,none⟩) 1 1]).run Tryz.prog L=_:=fun ty A =>
  Zv 157 239 ty 2 Fl (by kernel_rfl) g (i*2) (n+1-i) A ⟨z,0,none⟩ 1 1 f k 239 t
   (by rw[r];have:Nat.min 1 (n+1-i)=1:=(by simp only[FK];split <;> omega);rw[this]) (fun j u s=>by rw[Gh,Gg,C.cell];exact s)
   (by rw[r,o];have:=Hv 2 a;have e:i*2+2=(i+1)*2:=(by rw[Fe,DA]);have:=Hv 2 (show i+1<=n+1 by omega);omega)
   I
 have y:UZ w (some g) n i l k (.returned (.slice (some ⟨g,0,none⟩) (n+1) d)) (L.setRow g (f.take (i*2)++k++f.drop (i*2+k.length)).toArray):=by
  have e0:=Hv 2 a;have e1:i*2+2=(i+1)*2:=by rw[Fe,DA]
  have e2:(i+1)*2+(n-i)*2=(n+1)*2:=by rw[<- Fe];congr 1;omega
  have e3:=Hv 2 (show i<=n by omega);refine⟨g,d,rfl,ZA (t.setRow _) a F ?_ ?_,Fr.setRow (S:=fun b=>some g=some b) B (fun _=>rfl) _,.inl rfl⟩
  .rw[IM,IM,IR,Hi,r,o]
   omega
  .unfold Y5
   have X:f.take (i*2)=l.take (i*2):=by
    rw[m,<- M,Gk (by rw[IM,IR,h];omega),Gk (by rw[IR,h];omega),Fz,Fz]
    congr 1
    omega
   have Y:f.drop (i*2+k.length)=l.drop (i*2)++c.drop ((n+1)*2):=by
    have e4:(c.take ((i+1)*2)).length=i*2+k.length:=by rw[IR,h];omega
    rw[m,Hu,<- e4,EO,q,e2]
   rw[X,Y,<- Hu,Gw (by rw[IM,IM,q,r,IR,v];omega)]
 obtain⟨T,E⟩:∃ T,T=f.take (i*2)++k++f.drop (i*2+k.length):=⟨_,rfl⟩;rw[<- E] at x y;clear t C B o G J Q q v V I m E M r h;unfold maxLen at F;have a3:¬(i:Int)=(n:Int):=by omega
 have a4:¬(d:Int)<(n:Int)+1:=by omega
 have a5:¬d=i:=by omega
 have a6:¬d=i+1:=by omega
 have a7:IntKind.i64.wrap ((i:Int)+1)=(i:Int)+1:=by rw[Hr];omega
 have a8:(0:Int)<=(i:Int)+1:=by omega
 have a9:((i:Int)+1).toNat=i+1:=by omega
 have b0:(i:Int)<=(n:Int)+1:=by omega
 have b1:(i:Int)<=(n:Int):=by omega
 go_enter Tryz.func295,Tryz.ntmps295
 go_wp2_with (simp only[N])
 go_region_law (refine Yx rfl _ _ 157 157 rfl _ _ (by simp[Act.eval,Act.put]) (by simp[Act.eval,Act.put]) (p _ _ _) ?_)
 go_wp2_with (at_builtin;go_must (refine Yo rfl _ _ 157 157 rfl _ _ (by rfl) (by rfl) (x _ _) ?_))
 go_ret;exact y
theorem P6(g n i:Nat)(b m:List Value)(vb:Nat)(w:World)(hg:Blk w g b 239)(f:b.length=n*2)(h1:∀ u∈b,u.oneCell'=true)(hi:i<n)
 (q:m.length=2)(a0:∀ u∈m,u.oneCell'=true)(hv:Blk w vb m 239)(Y:(n+1)*40<=140737488355328) :
 Calls Tryz.prog 295 #[.slice (some ⟨g,0,none⟩) n n,.int .i64 i,.slice (some ⟨vb,0,none⟩) 1 1] w fun e w'=>UZ w (some g) n i b m e w':=by
 obtain⟨i0,z,a4,a6,S,J,a7⟩:=ZH LG;have s:i+(n+1-i)=n+1:=by omega
 have a:∀ ty,(Builtin.append_ #[157,3] ty #[.slice (some ⟨g,0,none⟩) i n,.int .i64 ((n+1-i:Nat):Int)]).run Tryz.prog w=_:=fun ty =>
  EX (P:=Tryz.prog) w 157 3 ty 239 i0 z .i64 .i64 Fl ET a4 a6 (some ⟨g,0,none⟩) i n (b.take (i*2))
   (by rw[S];exact En (P:=Tryz.prog) w.drew 2 i ⟨g,0,none⟩ i n (b.take (i*2)) (by rw[IR,f];omega) (fun j u t=>by
     have a8:=(Hp.1 t).1;rw[Gh,Gg,hg.drew.cell];rw[IR] at a8;rw[Gx (by omega)] at t;exact t))
   (n+1-i) (by omega) (by rw[S];omega) (by omega) (by omega) (by rw[J];omega) (DT (by omega) (by rw[J,s];exact Y))
 rw[s] at a;have a2:=CJ w (n+1) n 239;have K:=Da w (n+1) n 239 (by unfold maxLen;omega);generalize grownCap w (n+1) n 239=c at a a2 K;obtain⟨d,v⟩:∃ d:List Value,d=b.take (i*2)++(Builtin.zeroCells z.cells (n+1-i)).toList++(Builtin.zeroCells z.cells (c-(n+1))).toList:=⟨_,rfl⟩;have C:(b.take (i*2)).toArray++Builtin.zeroCells z.cells (n+1-i)++Builtin.zeroCells z.cells (c-(n+1))=d.toArray:=by rw[v];apply EN;simp
 rw[C] at a;have o:d.length=c*2:=by
  rw[v];simp only[IM,IR,GR,DR,a7,f];omega
 have D:d.take (i*2)=b.take (i*2):=by
  have e:(b.take (i*2)).length=i*2:=by rw[IR,f];omega
  rw[v,Hu];exact Gw e
 have a3:=hg.lt;have a5:=hv.lt;have r:Blk (w.drew.alloc (.cells d.toArray 239)) w.heap.size d 239:=Blk.new w.drew d _;have T:Blk (w.drew.alloc (.cells d.toArray 239)) vb m 239:=hv.drew.alloc _;have Q:Blk (w.drew.alloc (.cells d.toArray 239)) g b 239:=hg.drew.alloc _;have L:Fr Nil w (w.drew.alloc (.cells d.toArray 239)):=((O _ w).drew).alloc _;obtain⟨N,hN⟩:∃ N,N=w.heap.size:=⟨_,rfl⟩;rw[<- hN] at a r a3 a5;obtain⟨G,V⟩:∃ G,G=w.drew.alloc (.cells d.toArray 239):=⟨_,rfl⟩;rw[<- V] at a r T Q L;clear V;obtain⟨k,x⟩:∃ k,k=d.take (i*2)++m++d.drop (i*2+m.length):=⟨_,rfl⟩;have p:∀ ty I,(Builtin.copy_ #[157,157] ty #[.slice (some ⟨N,i*2,none⟩) (n+1-i) I,.slice (some ⟨vb,0,none⟩) 1 1]).run Tryz.prog G=_:=fun ty I =>
  Zv 157 239 ty 2 Fl (by kernel_rfl) N (i*2) (n+1-i) I ⟨vb,0,none⟩ 1 1 d m 239 r
   (by rw[q];have:Nat.min 1 (n+1-i)=1:=(by simp only[FK];split <;> omega);rw[this]) (fun j u t=>by rw[Gh,Gg,T.cell];exact t)
   (by rw[q,o];omega)
   a0
 rw[<- x] at p;have l:k.length=c*2:=by
  rw[x];simp only[IM,IR,Hi,q,o];omega
 have E:k.take ((i+1)*2)=b.take (i*2)++m:=by
  have e:(b.take (i*2)++m).length=(i+1)*2:=by rw[IM,IR,f,q];omega
  rw[x,D];exact Gw e
 have B:Blk (G.setRow N k.toArray) N k 239:=r.setRow k;have R:Blk (G.setRow N k.toArray) g b 239:=Q.of_heap (Ex _ N g _ (by omega));have M:Fr Nil w (G.setRow N k.toArray):=L.setRow (fun h=>by omega) _;obtain⟨W2,X⟩:∃ W2,W2=G.setRow N k.toArray:=⟨_,rfl⟩;rw[<- X] at p B R M;clear X;have A:(b.drop (i*2)).length=(n-i)*2:=by rw[Hi,f,Dz]
 obtain⟨c3,y⟩:∃ c3,c3=k.take ((i+1)*2)++b.drop (i*2)++k.drop ((i+1)*2+(b.drop (i*2)).length):=⟨_,rfl⟩;have F:∀ ty I sc,(Builtin.copy_ #[157,157] ty #[.slice (some ⟨N,(i+1)*2,none⟩) (n-i) I,.slice (some ⟨g,i*2,none⟩) (n-i) sc]).run Tryz.prog W2.drew=_:=fun ty I sc =>
  Zv 157 239 ty 2 Fl (by kernel_rfl) N ((i+1)*2) (n-i) I ⟨g,i*2,none⟩ (n-i) sc k (b.drop (i*2)) 239 B.drew
   (by rw[A];congr 1;simp only[FK];split <;> omega) (fun j u t=>by rw[Gh,R.drew.cell];rw[Fa] at t;exact t)
   (by rw[A,l];omega)
   (fun u t=>h1 u (Gn t))
 rw[<- y] at F;have a1:UZ w (some g) n i b m (.returned (.slice (some ⟨N,0,none⟩) (n+1) c)) (W2.drew.setRow N c3.toArray):=by
  refine⟨N,c,rfl,ZA (B.drew.setRow _) a2 K ?_ ?_,(M.drew.setRow (fun h=>by omega) _).mono (fun _ _ h=>absurd h id),.inr (by omega)⟩
  .rw[y]
   simp only[IM,IR,Hi,f,l];omega
  .have e:(k.take ((i+1)*2)++b.drop (i*2)).length=(n+1)*2:=by rw[IM,IR,l,A];omega
   rw[y,Gw e,E]
   rfl
 clear D E C y x v r T Q L B R M A l o h1 a0 q f hv hg hN s a7 J S a6 a4;unfold maxLen at K;have a9:¬(i:Int)=(n:Int):=by omega
 have b0:¬n=i:=by omega
 have b1:¬c=i+1:=by omega
 have b2:¬c=i:=by omega
 have b3:(n:Int)+1-i=((n+1-i:Nat):Int):=by omega
 have b4:IntKind.i64.wrap ((i:Int)+1)=(i:Int)+1:=by rw[Hr];omega
 have b5:(0:Int)<=(i:Int)+1:=by omega
 have b6:((i:Int)+1).toNat=i+1:=by omega
 have b7:(i:Int)<=(n:Int)+1:=by omega
 have b8:(i:Int)<=(n:Int):=by omega
 go_enter Tryz.func295,Tryz.ntmps295
 go_wp2_with (at_builtin;go_must (first|(refine Dq _ rfl _ _ _ _ rfl _ _ (by rfl) (by rfl) _ _ (a _) ?_)|(refine Yo rfl _ _ 157 157 rfl _ _ (by rfl) (by rfl) (p _ _) ?_)))
 go_region_law (refine Yx rfl _ _ 157 157 rfl _ _ (by simp[Act.eval,Act.put]) (by simp[Act.eval,Act.put]) (F _ _ _) ?_)
 go_wp2
 go_ret;exact a1
theorem RT(v:Value)(n i:Nat)(k d:List Value)(j:Nat)(w:World)(b:w.ownsRow 0 239 2 v n k)(r:∀ u∈k,u.oneCell'=true)(A:i<=n)
 (h:d.length=2)(f:∀ u∈d,u.oneCell'=true)(q:Blk w j d 239)(p:v.ownBlock≠some j)(a:(n+1)*40<=140737488355328) :
 Calls Tryz.prog 295 #[v,.int .i64 i,.slice (some ⟨j,0,none⟩) 1 1] w fun e z=>UZ w v.ownBlock n i k d e z:=by
 rcases Fg i n with m|y
 .rcases Yn b with⟨_,h0,_⟩|⟨g,cap,c,rfl,hg,hn,hm,hc,ht⟩
  .omega
  .have hne':j≠g:=fun e=>p (by rw[e];rfl)
   rcases Fg n cap with t|t
   .exact RS g n cap i c k d j w hg hc ht r m t hm h f q hne'
   .have e:cap=n:=by omega
    subst e;have o:c=k:=by rw[<- ht];exact(Hn (by omega)).symm
    subst o;exact P6 g cap i c d j w hg hc r m h f q a
 .have e:i=n:=by omega
  subst e;exact OP v i k d j w b h f q a
theorem Ip:((Tryz.prog.info? 239).map fun i=>(i.zero.map (·.cells.size),i.size,i.bytes))=some (some 2,2,40):=by kernel_rfl
theorem Iq:((Tryz.prog.info? 239).map fun i=>(i.zero.map fun z=>z.cells.toList.all (·.oneCell')))=some (some true):=by kernel_rfl
theorem RU(v:Value)(n i:Nat)(C:List Value)(w:World)(l:w.ownsRow 0 239 2 v n C)(h1:∀ u∈C,u.oneCell'=true)(hi:i<n) :
 Calls Tryz.prog 294 #[v,.int .i64 i,.int .i64 ((i:Int)+1)] w fun e w' =>
  ∃ I,e=.returned I/\I.ownBlock=v.ownBlock/\w'.ownsRow 0 239 2 I (n-1) (Yg 2 i C)/\Fr (fun b=>v.ownBlock=some b) w w':=by
 rcases Yn l with⟨_,h0,_⟩|⟨g,a,c,rfl,hg,hn,M,r,ht⟩
 .omega
 obtain⟨i0,z,F,G,a2,a1,a0⟩:=ZH Ip;have Y:∀ u∈z.cells.toList,u.oneCell'=true:=by
  have:=Iq;rw[F] at this;simp only[EZ,G] at this;exact List.all_eq_true.1 (Hl (Hl this))
 have X:C.length=n*2:=l.1;clear l;obtain⟨o,k⟩:∃ o,o=C.drop ((i+1)*2):=⟨_,rfl⟩;have s:o.length=(n-(i+1))*2:=by rw[k,Hi,X];omega
 have N:∀ j u,o[j]?=some u->c[(i+1)*2+j]?=some u:=by
  intro j u m;rw[k,Fa] at m;have a6:=(Hp.1 m).1;rw[<- ht,Gx (by omega)] at m;exact m
 obtain⟨K,a4,V⟩:∃ K:Addr,(if a=i+1 then some (⟨g,0,none⟩:Addr) else some ⟨g,(i+1)*2,none⟩)=some K/\Hid (∀ j u,o[j]?=some u->w.drew.cell? (K.add j)=some u):=by
  by_cases h:a=i+1
  .refine⟨⟨g,0,none⟩,by simp[h],fun j u m=>?_⟩
   have:=(Hp.1 m).1;omega
  .refine⟨⟨g,(i+1)*2,none⟩,by simp[h],fun j u m=>?_⟩
   rw[Gh,hg.drew.cell];exact N j u m
 have p:∀ ty sc,(Builtin.append_ #[157,157] ty #[.slice (some ⟨g,0,none⟩) i a,.slice (some K) (n-(i+1)) sc]).run Tryz.prog w.drew=_:=fun ty sc =>
  U1 (P:=Tryz.prog) 157 239 ty 2 Fl (by kernel_rfl) g i (n-(i+1)) a sc K c o hg.drew (by omega) r s V.out (fun u m=>h1 u (by rw[k] at m;exact Gn m))
 have e1:i+(n-(i+1))=n-1:=by omega
 rw[e1] at p;obtain⟨f,q⟩:∃ f,f=c.take (i*2)++o++c.drop (i*2+o.length):=⟨_,rfl⟩;rw[<- q] at p;have d:f.length=a*2:=by
  rw[q];simp only[IM,IR,Hi,s,r];omega
 have x:f.take ((n-1)*2)=Yg 2 i C:=by
  have e:(c.take (i*2)++o).length=(n-1)*2:=by rw[IM,IR,s,r];omega
  rw[q,Gw e];unfold Yg;rw[<- k,<- ht,Fz]
  congr 2
  omega
 have t:Blk (w.drew.setRow g f.toArray) g f 239:=hg.drew.setRow f;have E:Fr (fun b=>some g=some b) w (w.drew.setRow g f.toArray):=Fr.setRow (S:=fun b=>some g=some b) ((O _ w).drew) (fun _=>rfl) _;obtain⟨D,L⟩:∃ D,D=w.drew.setRow g f.toArray:=⟨_,rfl⟩;rw[<- L] at p t E;clear L;have B:∀ cc,∃ J:List Value,J.length=a*2/\J.take ((n-1)*2)=Yg 2 i C/\∀ ty,(Builtin.clear_ #[157] ty #[.slice (some ⟨g,(n-1)*2,none⟩) (n-(n-1)) cc]).run Tryz.prog D=.ok (.tuple #[]) (D.setRow g J.toArray):=by
  intro cc;have e2:n-(n-1)=1:=by omega
  rw[e2];obtain⟨zs,a3,T⟩:=Tj (P:=Tryz.prog) (w:=D) 157 239 239 i0 z 2 Fl F G a0 Y g ((n-1)*2) 1 cc f 239 t (by rw[d];omega);refine⟨f.take ((n-1)*2)++zs++f.drop ((n-1)*2+zs.length),?_,?_,fun ty=>T⟩
  .simp only[IM,IR,Hi,a3,d]
   omega
  .have e:(f.take ((n-1)*2)).length=(n-1)*2:=by rw[IR,d];omega
   rw[Hu,Gw e,x]
 obtain⟨J,y,A,B⟩:=B (a-(n-1));have Q:∀ e,e=Ending.returned (.slice (some ⟨g,0,none⟩) (n-1) a)->∃ I,e=.returned I/\I.ownBlock=some g/\(D.setRow g J.toArray).ownsRow 0 239 2 I (n-1) (Yg 2 i C)/\Fr (fun b=>some g=some b) w (D.setRow g J.toArray):=by
  intro e he;exact⟨_,he,rfl,ZA (t.setRow _) (by omega) M y A,Fr.setRow (S:=fun b=>some g=some b) E (fun _=>rfl) _⟩
 clear A y x d q t E N s k hg X h1 a0 a1 a2 G F Y r ht;have R:(Value.slice (some ⟨g,0,none⟩) n a).ownBlock=some g:=rfl;rw[R];clear R;unfold maxLen at M;have a5:i<=a:=by omega
 have a7:¬(i:Int)=(i:Int)+1:=by omega
 have a8:¬a=n-1:=by omega
 have a9:IntKind.i64.wrap ((i:Int)+1)=(i:Int)+1:=by rw[Hr];omega
 have b0:(0:Int)<=(i:Int)+1:=by omega
 have b1:((i:Int)+1).toNat=i+1:=by omega
 have b2:(i:Int)<=(n:Int):=by omega
 have b3:(i:Int)+1<=(n:Int):=by omega
 go_enter Tryz.func294,Tryz.ntmps294;go_wp2_with fail
 go_region_law (refine Rd rfl _ _ 157 157 rfl _ _ (by simp[Act.eval,Act.put]) (by simp[Act.eval,Act.put]) (p _ (a-(i+1))) ?_)
 go_wp2
 go_ret;exact Q _ rfl
abbrev zu (l:List (ByteArray × Value)):List ByteArray:=l.map Prod.fst
structure Wf(w:World)(v:Value)(l:List (ByteArray × Value)):Prop where
 own:w.ownsRow 0 239 2 v l.length (Z1 l)
 Al:Asc zf (zu l)
 one:∀ e∈l,e.2.oneCell'=true
theorem Wf.fr{w w':World}{v:Value}{l:List (ByteArray × Value)}{S:Nat->Prop}(h:Wf w v l)(f:Fr S w w')(c:∀ k,v.ownBlock=some k->¬S k):Wf w' v l :=
 ⟨zb h.own f c,h.Al,h.one⟩
theorem Rk{l:List (ByteArray × Value)}(h:∀ e∈l,e.2.oneCell'=true):∀ u∈Z1 l,u.oneCell'=true:=by
 intro u a;simp only[Z1,Dt] at a;obtain⟨e,b,a⟩:=a;simp at a;rcases a with rfl|rfl
 .rfl
 .exact h e b
theorem Wy(v:Value)(l:List (ByteArray × Value))(s:ByteArray)(b:Nat)(w:World)(g:w.cell? ⟨b,0,none⟩=some v)(h:Wf w v l)(c:l.length<4611686018427387904) :
 Calls Tryz.prog 163 #[.pointer (some ⟨b,0,none⟩),.string s] w fun e f =>
  e=.returned (.tuple #[.int .i64 (low zf (zu l) s),.bool (Z5 zf (zu l) s)])/\Fr Nil w f:=by
 have d:=Z (RR v l s w h.own h.Al c);clear h;go_enter Tryz.func163,Tryz.ntmps163
 go_wp2_with (refine d.out.mono ?_;rintro e i ⟨rfl,a⟩)
 go_ret2;exact⟨rfl,a⟩
def getE(l:List (ByteArray × Value))(s:ByteArray):Value :=
 if Z5 zf (zu l) s=true then(l.getD (low zf (zu l) s) (s,.slice none 0 0)).2 else .slice none 0 0
theorem Xb{l:List (ByteArray × Value)}{s:ByteArray}(h:Z5 zf (zu l) s=true):∃ a:low zf (zu l) s<l.length,l[low zf (zu l) s].1=s:=by
 rcases Fg (low zf (zu l) s) l.length with a|a
 .refine⟨a,?_⟩
  rw[XH a rfl] at h;exact zT.1 h
 .rw[Ve (by simpa using a)] at h
  cases h
theorem Mq(v:Value)(l:List (ByteArray × Value))(s:ByteArray)(b:Nat)(w:World)(f:w.cell? ⟨b,0,none⟩=some v)(t:b<w.heap.size)(h:Wf w v l)(m:l.length<4611686018427387904) :
 Calls Tryz.prog 124 #[.pointer (some ⟨b,0,none⟩),.string s] w fun e A =>
  e=.returned (getE l s)/\Fr Nil w A:=by
 have o:=Z (Wy v l s b w f h m);cases ha:Z5 zf (zu l) s with
 | false =>
  have c:getE l s=.slice none 0 0:=by simp[getE,ha]
  rw[c];clear c;go_enter Tryz.func124,Tryz.ntmps124
  go_wp2_with (refine o.out.mono ?_;rintro e p ⟨rfl,a⟩)
  go_ret;exact⟨rfl,a⟩
 | true =>
  obtain⟨k,x⟩:=Xb ha;have c:getE l s=l[low zf (zu l) s].2:=by simp[getE,ha,k]
  rw[c];have q:=Z h;have y:=zH h.own;unfold maxLen at y;clear c x h;go_enter Tryz.func124,Tryz.ntmps124;go_wp2_with fail;refine o.out.mono ?_;rintro e p ⟨rfl,a⟩;have u:p.cell? ⟨b,0,none⟩=some v:=(a.cell t id).trans f;have d:=q.out.fr a (fun _ _=>id);obtain⟨g,r,z,_,_⟩:=zm d.own (by omega);subst z;have j:=own_cell? d.own (low zf (zu l) s*2+1) _ (Z3 l _ k).2;clear f d;generalize low zf (zu l) s=i at k j |-
  go_wp2
  go_ret;exact⟨rfl,a⟩
theorem Zq(a b:List (ByteArray × Value)):Z1 (a++b)=Z1 a++Z1 b:=by simp[Z1]
theorem Tw(l:List (ByteArray × Value))(i:Nat):(Z1 l).take (i*2)=Z1 (l.take i):=by
 rcases EU i l.length with h|h
 .have e:=Zq (l.take i) (l.drop i)
  rw[Ge] at e;rw[e];exact Gw (by rw[YH,IR,Gv h])
 .rw[Hn h,Hn (by rw[YH];omega)]
theorem Tx(l:List (ByteArray × Value))(i:Nat):(Z1 l).drop (i*2)=Z1 (l.drop i):=by
 rcases EU i l.length with h|h
 .have e:=Zq (l.take i) (l.drop i)
  rw[Ge] at e;rw[e];exact CG (by rw[YH,IR,Gv h])
 .rw[Gy h,Gy (by rw[YH];omega)]
  rfl
def Yk(l:List (ByteArray × Value))(s:ByteArray)(x:Value):List (ByteArray × Value) :=
 l.take (low zf (zu l) s)++[(s,x)]++l.drop (if Z5 zf (zu l) s=true then low zf (zu l) s+1 else low zf (zu l) s)
def Xc(l:List (ByteArray × Value))(s:ByteArray):List (ByteArray × Value) :=
 if Z5 zf (zu l) s=true then l.take (low zf (zu l) s)++l.drop (low zf (zu l) s+1) else l
theorem LI{l:List (ByteArray × Value)}{s:ByteArray}{x:Value}(h:Z5 zf (zu l) s=true):zu (Yk l s x)=zu l:=by
 obtain⟨c,a⟩:=Xb h;unfold Yk;rw[He h];generalize low zf (zu l) s=i at c a |-;have d:(l.map Prod.fst)[i]'(by simpa using c)=s:=by rw[Gf];exact a
 simp only[zu,Gs,Ht,Fo,FJ,ED];rw[<- d,<- Hj,Ge]
theorem P7{l:List (ByteArray × Value)}(s:ByteArray)(x:Value)(h:Asc zf (zu l)):Asc zf (zu (Yk l s x)):=by
 cases ha:Z5 zf (zu l) s with
 | true=>rw[LI ha];exact h
 | false =>
  have:=Asc.ins Zg (b:=s) h (fun a e=>by rw[Uu a,e] at ha;rw[zT.2 rfl] at ha;cases ha);unfold Yk;simp only[ha,Gl,Gj]
  simpa [zu,List.map_take,List.map_drop] using this
theorem P8{l:List (ByteArray × Value)}{s:ByteArray}{x:Value}(h:∀ e∈l,e.2.oneCell'=true)(b:x.oneCell'=true):∀ e∈Yk l s x,e.2.oneCell'=true:=by
 intro e a;simp only[Yk,Hh,IZ] at a;rcases a with(a|rfl)|a
 .exact h e (GV a)
 .exact b
 .exact h e (Gn a)
theorem UI{l:List (ByteArray × Value)}{s:ByteArray}{x:Value}:(Yk l s x).length=if Z5 zf (zu l) s=true then l.length else l.length+1:=by
 have:=Vd zf (zu l) s;simp only[Hy] at this;split
 .rename_i h
  obtain⟨a,_⟩:=Xb h;simp only[Yk,h,Gi,IM,IR,Hi,IU];omega
 .rename_i h
  simp only[Yk,h,IM,IR,Hi,IU];simp;omega
theorem KZ{l:List (ByteArray × Value)}(s:ByteArray)(h:Asc zf (zu l)):Asc zf (zu (Xc l s)):=by
 unfold Xc;split
 .have:=Asc.del h (low zf (zu l) s)
  simpa [zu,List.map_take,List.map_drop] using this
 .exact h
theorem P9{l:List (ByteArray × Value)}{s:ByteArray}:∀ e∈Xc l s,e∈l:=by
 intro e a;unfold Xc at a;split at a
 .rcases Hh.1 a with a|a
  .exact GV a
  .exact Gn a
 .exact a
def YE(w:World)(b:Nat)(t:TypeId)(v:Value)(rest:List Value)(l:List (ByteArray × Value))(c:World):Prop :=
 ∃ a,Blk c b (a::rest) t/\Wf c a l/\Fr (fun k=>k=b\/v.ownBlock=some k) w c/\(∀ k,a.ownBlock=some k->v.ownBlock=some k\/w.heap.size<=k)
theorem Mr(v:Value)(rest:List Value)(l:List (ByteArray × Value))(s:ByteArray)(a:Option Addr)(d c:Nat)(b:Nat)(t:TypeId)(w:World)(F:Blk w b (v::rest) t)(ht:t≠239)(h:Wf w v l)
 (a4:l.length<1099511627776) :
 Calls Tryz.prog 291 #[.pointer (some ⟨b,0,none⟩),.string s,.slice a d c] w fun e w' =>
  e=.returned (.tuple #[])/\YE w b t v rest (Yk l s (.slice a d c)) w':=by
 have Q:w.cell? ⟨b,0,none⟩=some v:=by rw[F.cell];rfl
 have HC:=Z (Wy v l s b w Q h (by omega));have hn:=zH h.own;unfold maxLen at hn;cases ha:Z5 zf (zu l) s with
 | true =>
  obtain⟨I,o⟩:=Xb ha;have D:=Z h;have N:=Z F;have HK:=Z o;clear Q h F o;go_enter Tryz.func291,Tryz.ntmps291;go_wp2_with fail;refine HC.out.mono ?_;rintro e q ⟨rfl,j⟩;have f:=N.out.fr j id;have R:q.cell? ⟨b,0,none⟩=some v:=by rw[f.cell];rfl
  have A:=D.out.fr j (fun _ _=>id);obtain⟨g,r,hv,a3,_⟩:=zm A.own (by omega);subst hv;have C:=own_cell? A.own (low zf (zu l) s*2+1) _ (Z3 l _ I).2;have a0:=Xv A.own (low zf (zu l) s*2+1);have V:b≠g:=fun e=>zd A.own f ht (by rw[e];rfl);have m:YE w b t (.slice (some ⟨g,0,none⟩) l.length r) rest (Yk l s (.slice a d c)) (q.setCell ⟨g,low zf (zu l) s*2+1,none⟩ (.slice a d c)):=by
   have p:=UI (l:=l) (s:=s) (x:=.slice a d c);rw[He ha] at p;refine⟨_,f.An V _ _,⟨?_,P7 s _ A.Al,P8 A.one rfl⟩,Fr.set (j.mono (fun _ _ h=>absurd h id)) (fun _=>.inr rfl) _,fun k o=>.inl o⟩;have:=ZT A.own (low zf (zu l) s*2+1) (.slice a d c);rw[p];refine cast (GY (World.ownsRow _ 0 _ 2 _ l.length) ?_) this;have e:Yk l s (.slice a d c)=l.take (low zf (zu l) s)++[(s,.slice a d c)]++l.drop (low zf (zu l) s+1):=by unfold Yk;rw[He ha]
   have e2:l=l.take (low zf (zu l) s)++[l[low zf (zu l) s]]++l.drop (low zf (zu l) s+1):=by
    rw[<- Hj I,Ge]
   have o:=HK.out;rw[e];generalize low zf (zu l) s=i at I o e2 |-;have Y:(Z1 (l.take i)).length=i*2:=by rw[YH,IR,Gv (by omega)]
   conv=>lhs;rw[e2]
   rw[Zq,Zq,Zq,Zq,Hu,Hu,EF _ _ (by omega),Y,show i*2+1-i*2=1 by omega];simp[Z1,o]
  clear C A f;have C:=own_cell? (D.out.fr j (fun _ _=>id)).own (low zf (zu l) s*2+1) _ (Z3 l _ I).2;have M:=Z m;clear m;generalize low zf (zu l) s=i at I C a0 M |-
  go_wp2
  exact EB (v:=.tuple #[]) (by simp[results,go_sem]) rfl ⟨rfl,M.out⟩
 | false =>
  have D:=Z h;have N:=Z F;clear Q h F;go_enter Tryz.func291,Tryz.ntmps291;go_wp2_with fail;refine HC.out.mono ?_;rintro e q ⟨rfl,j⟩;have f:=N.out.fr j id;have R:q.cell? ⟨b,0,none⟩=some v:=by rw[f.cell];rfl
  have a5:=f.frozen 0;go_wp2_with fail;have hN:Blk (q.alloc (.cells #[.string s,.slice a d c] 239)) q.heap.size [.string s,.slice a d c] 239:=Blk.new q [.string s,.slice a d c] _;have y:=f.alloc (.cells #[.string s,.slice a d c] 239);have z:Fr Nil w (q.alloc (.cells #[.string s,.slice a d c] 239)):=j.alloc _;have T:∀ k,v.ownBlock=some k->k<q.heap.size:=fun k o=>zC (D.out.fr j (fun _ _=>id)).own o;generalize q.alloc (.cells #[.string s,.slice a d c] 239)=w2 at hN y z |-;have E:=D.out.fr z (fun _ _=>id);have L:v.ownBlock≠some b:=zd E.own y ht;have J:=Vd zf (zu l) s;simp only[Hy] at J;refine(RT v l.length (low zf (zu l) s) (Z1 l) [.string s,.slice a d c] q.heap.size w2 E.own (Rk E.one) J rfl (by intro u hu;simp at hu;rcases hu with rfl|rfl <;> rfl) hN (fun e=>by have:=T _ e;omega) (by omega)).mono ?_;rintro e w3 ⟨g,r,rfl,X,G,K⟩;have B:=y.fr G L;have a2:w3.cell? ⟨b,0,none⟩=some v:=by rw[B.cell];rfl
  have a6:=B.frozen 0;have a1:b≠g:=by
   rcases K with h|h
   .intro e;exact L (by rw[h,e])
   .have:=y.lt;omega
  have m:YE w b t v rest (Yk l s (.slice a d c)) (w3.setCell ⟨b,0,none⟩ (.slice (some ⟨g,0,none⟩) (l.length+1) r)):=by
   have p:=UI (l:=l) (s:=s) (x:=.slice a d c);rw[IV (by rw[ha];simp)] at p;refine⟨.slice (some ⟨g,0,none⟩) (l.length+1) r,B.set 0 _,⟨?_,P7 s _ E.Al,P8 E.one rfl⟩,Fr.set ((z.mono (fun _ _ h=>absurd h id)).trans' G (fun i _ h=>.inr h)) (fun _=>.inl rfl) _,fun k o=>?_⟩
   .rw[p]
    have e:Z1 (Yk l s (.slice a d c))=Y5 2 (low zf (zu l) s) (Z1 l) [.string s,.slice a d c]:=by
     unfold Yk Y5;rw[IV (by rw[ha];simp),Zq,Zq,Tw,Tx]
     rfl
    rw[e];exact zb X (Fr.set (S:=fun k=>k=b) (O _ _) (fun _=>rfl) _) (fun k o=>by simp[Value.ownBlock] at o;omega)
   .simp[Value.ownBlock] at o
    subst o;rcases K with h|h
    .exact .inl h
    .exact .inr (by have:=z.size;omega)
  have M:=Z m;clear m
  go_wp2
  exact GC (v:=.tuple #[]) (by simp[results,go_sem]) rfl ⟨rfl,M.out⟩
theorem OQ{l:List (ByteArray × Value)}{s:ByteArray}(h:Z5 zf (zu l) s=true):(Xc l s).length=l.length-1:=by
 obtain⟨a,_⟩:=Xb h;simp only[Xc,h,Gi,IM,IR,Hi];omega
theorem RV(v:Value)(rest:List Value)(l:List (ByteArray × Value))(s:ByteArray)(b:Nat)(t:TypeId)(w:World)(o:Blk w b (v::rest) t)(Q:t≠239)(h:Wf w v l)
 (N:l.length<1099511627776) :
 Calls Tryz.prog 290 #[.pointer (some ⟨b,0,none⟩),.string s] w fun e V =>
  e=.returned (.tuple #[])/\YE w b t v rest (Xc l s) V:=by
 have y:w.cell? ⟨b,0,none⟩=some v:=by rw[o.cell];rfl
 have B:=Z (Wy v l s b w y h (by omega));have M:=zH h.own;unfold maxLen at M;cases ha:Z5 zf (zu l) s with
 | true =>
  obtain⟨K,g⟩:=Xb ha;have x:=Z h;have u:=Z o;clear y h o g;have L:(low zf (zu l) s:Int)+1<=9223372036854775807:=by omega
  go_enter Tryz.func290,Tryz.ntmps290;go_wp2_with fail;refine B.out.mono ?_;rintro e A ⟨rfl,a⟩;have c:=u.out.fr a id;have G:A.cell? ⟨b,0,none⟩=some v:=by rw[c.cell];rfl
  have R:=c.frozen 0;go_wp2_with fail;have m:=x.out.fr a (fun _ _=>id);have r:v.ownBlock≠some b:=zd m.own c Q;refine(RU v l.length (low zf (zu l) s) (Z1 l) A m.own (Rk m.one) K).mono ?_;rintro e E ⟨D,rfl,q,j,p⟩;have f:=c.fr p r;have I:E.cell? ⟨b,0,none⟩=some v:=by rw[f.cell];rfl
  have T:=f.frozen 0;have d:YE w b t v rest (Xc l s) (E.setCell ⟨b,0,none⟩ D):=by
   refine⟨D,f.set 0 _,⟨?_,KZ s m.Al,fun e J=>m.one e (P9 e J)⟩,Fr.set ((a.mono (fun _ _ h=>absurd h id)).trans' p (fun i _ h=>.inr h)) (fun _=>.inl rfl) _,fun k g=>.inl (by rw[<- q];exact g)⟩;have e:Z1 (Xc l s)=Yg 2 (low zf (zu l) s) (Z1 l):=by
    unfold Xc Yg;rw[He ha,Zq,Tw,Tx]
   rw[OQ ha,e];exact zb j (Fr.set (S:=fun k=>k=b) (O _ _) (fun _=>rfl) _) (fun k g e=>r (by rw[<- q,g,e]))
  have F:=Z d;obtain⟨X,Y,z⟩:=zc j;subst z;clear d j
  go_wp2
  exact GC (v:=.tuple #[]) (by simp[results,go_sem]) rfl ⟨rfl,F.out⟩
 | false =>
  have C:Xc l s=l:=by unfold Xc;rw[IV (by rw[ha];simp)]
  rw[C];have x:=Z h;have u:=Z o;clear y h o C;go_enter Tryz.func290,Tryz.ntmps290;go_wp2_with fail;refine B.out.mono ?_;rintro e A ⟨rfl,a⟩
  go_wp2
  exact GC (v:=.tuple #[]) (by simp[results,go_sem]) rfl ⟨rfl,v,u.out.fr a id,x.out.fr a (fun _ _=>id),a.mono (fun _ _ h=>absurd h id),fun k g=>.inl g⟩
theorem Ms(v:Value)(l:List (ByteArray × Value))(b:Nat)(w:World)(g:w.cell? ⟨b,0,none⟩=some v)(h:Wf w v l) :
 Calls Tryz.prog 134 #[.pointer (some ⟨b,0,none⟩)] w fun e f=>e=.returned (.int .i64 l.length)/\f=w:=by
 have d:=zH h.own;unfold maxLen at d;obtain⟨a,c,rfl⟩:=zc h.own;go_enter Tryz.func134,Tryz.ntmps134
 go_wp2
 go_ret;exact⟨rfl,rfl⟩
theorem Ir:((Tryz.prog.info? 75).map fun i=>(i.zero.map (·.cells.size),i.size,i.bytes))=some (some 2,2,24):=by kernel_rfl
theorem Is:((Tryz.prog.info? 75).map fun i=>(i.zero.map fun z=>z.cells.toList.all (·.oneCell')))=some (some true):=by kernel_rfl
theorem RW(v:Value)(n i:Nat)(C:List Value)(w:World)(l:w.ownsRow 0 75 2 v n C)(h1:∀ u∈C,u.oneCell'=true)(hi:i<n) :
 Calls Tryz.prog 278 #[v,.int .i64 i,.int .i64 ((i:Int)+1)] w fun e w' =>
  ∃ I,e=.returned I/\I.ownBlock=v.ownBlock/\w'.ownsRow 0 75 2 I (n-1) (Yg 2 i C)/\Fr (fun b=>v.ownBlock=some b) w w':=by
 rcases Yn l with⟨_,h0,_⟩|⟨g,a,c,rfl,hg,hn,M,r,ht⟩
 .omega
 obtain⟨i0,z,F,G,a2,a1,a0⟩:=ZH Ir;have Y:∀ u∈z.cells.toList,u.oneCell'=true:=by
  have:=Is;rw[F] at this;simp only[EZ,G] at this;exact List.all_eq_true.1 (Hl (Hl this))
 have X:C.length=n*2:=l.1;clear l;obtain⟨o,k⟩:∃ o,o=C.drop ((i+1)*2):=⟨_,rfl⟩;have s:o.length=(n-(i+1))*2:=by rw[k,Hi,X];omega
 have N:∀ j u,o[j]?=some u->c[(i+1)*2+j]?=some u:=by
  intro j u m;rw[k,Fa] at m;have a6:=(Hp.1 m).1;rw[<- ht,Gx (by omega)] at m;exact m
 obtain⟨K,a4,V⟩:∃ K:Addr,(if a=i+1 then some (⟨g,0,none⟩:Addr) else some ⟨g,(i+1)*2,none⟩)=some K/\Hid (∀ j u,o[j]?=some u->w.drew.cell? (K.add j)=some u):=by
  by_cases h:a=i+1
  .refine⟨⟨g,0,none⟩,by simp[h],fun j u m=>?_⟩
   have:=(Hp.1 m).1;omega
  .refine⟨⟨g,(i+1)*2,none⟩,by simp[h],fun j u m=>?_⟩
   rw[Gh,hg.drew.cell];exact N j u m
 have p:∀ ty sc,(Builtin.append_ #[66,66] ty #[.slice (some ⟨g,0,none⟩) i a,.slice (some K) (n-(i+1)) sc]).run Tryz.prog w.drew=_:=fun ty sc =>
  U1 (P:=Tryz.prog) 66 75 ty 2 FA (by kernel_rfl) g i (n-(i+1)) a sc K c o hg.drew (by omega) r s V.out (fun u m=>h1 u (by rw[k] at m;exact Gn m))
 have e1:i+(n-(i+1))=n-1:=by omega
 rw[e1] at p;obtain⟨f,q⟩:∃ f,f=c.take (i*2)++o++c.drop (i*2+o.length):=⟨_,rfl⟩;rw[<- q] at p;have d:f.length=a*2:=by
  rw[q];simp only[IM,IR,Hi,s,r];omega
 have x:f.take ((n-1)*2)=Yg 2 i C:=by
  have e:(c.take (i*2)++o).length=(n-1)*2:=by rw[IM,IR,s,r];omega
  rw[q,Gw e];unfold Yg;rw[<- k,<- ht,Fz]
  congr 2
  omega
 have t:Blk (w.drew.setRow g f.toArray) g f 75:=hg.drew.setRow f;have E:Fr (fun b=>some g=some b) w (w.drew.setRow g f.toArray):=Fr.setRow (S:=fun b=>some g=some b) ((O _ w).drew) (fun _=>rfl) _;obtain⟨D,L⟩:∃ D,D=w.drew.setRow g f.toArray:=⟨_,rfl⟩;rw[<- L] at p t E;clear L;have B:∀ cc,∃ J:List Value,J.length=a*2/\J.take ((n-1)*2)=Yg 2 i C/\∀ ty,(Builtin.clear_ #[66] ty #[.slice (some ⟨g,(n-1)*2,none⟩) (n-(n-1)) cc]).run Tryz.prog D=.ok (.tuple #[]) (D.setRow g J.toArray):=by
  intro cc;have e2:n-(n-1)=1:=by omega
  rw[e2];obtain⟨zs,a3,T⟩:=Tj (P:=Tryz.prog) (w:=D) 66 75 75 i0 z 2 FA F G a0 Y g ((n-1)*2) 1 cc f 75 t (by rw[d];omega);refine⟨f.take ((n-1)*2)++zs++f.drop ((n-1)*2+zs.length),?_,?_,fun ty=>T⟩
  .simp only[IM,IR,Hi,a3,d]
   omega
  .have e:(f.take ((n-1)*2)).length=(n-1)*2:=by rw[IR,d];omega
   rw[Hu,Gw e,x]
 obtain⟨J,y,A,B⟩:=B (a-(n-1));have Q:∀ e,e=Ending.returned (.slice (some ⟨g,0,none⟩) (n-1) a)->∃ I,e=.returned I/\I.ownBlock=some g/\(D.setRow g J.toArray).ownsRow 0 75 2 I (n-1) (Yg 2 i C)/\Fr (fun b=>some g=some b) w (D.setRow g J.toArray):=by
  intro e he;exact⟨_,he,rfl,ZA (t.setRow _) (by omega) M y A,Fr.setRow (S:=fun b=>some g=some b) E (fun _=>rfl) _⟩
 clear A y x d q t E N s k hg X h1 a0 a1 a2 G F Y r ht;have R:(Value.slice (some ⟨g,0,none⟩) n a).ownBlock=some g:=rfl;rw[R];clear R;unfold maxLen at M;have a5:i<=a:=by omega
 have a7:¬(i:Int)=(i:Int)+1:=by omega
 have a8:¬a=n-1:=by omega
 have a9:IntKind.i64.wrap ((i:Int)+1)=(i:Int)+1:=by rw[Hr];omega
 have b0:(0:Int)<=(i:Int)+1:=by omega
 have b1:((i:Int)+1).toNat=i+1:=by omega
 have b2:(i:Int)<=(n:Int):=by omega
 have b3:(i:Int)+1<=(n:Int):=by omega
 go_enter Tryz.func278,Tryz.ntmps278;go_wp2_with fail
 go_region_law (refine Rd rfl _ _ 66 66 rfl _ _ (by simp[Act.eval,Act.put]) (by simp[Act.eval,Act.put]) (p _ (a-(i+1))) ?_)
 go_wp2
 go_ret;exact Q _ rfl
end Go.Proofs.YtkhnggkkiefcdaaGreatDoor
