/- larder: joined texts -/
import Derived.Test.YtkhnggkkiefcdaaGreatDoorSFAD
import Derived.Test.YtkhnggkkiefcdaaGreatDoorSFAF
import Derived.Test.YtkhnggkkiefcdaaGreatDoorSFAG
import Derived.RangeFuncNested
import Derived.RangeFuncBound
import Derived.RangeFuncCalls
import Derived.RangeFuncLeaves
import Derived.Shelf.Abstract
import Derived.Shelf.RegionOpen
import Derived.WalkKit
import Derived.OwnWalkIn
import Derived.TacticsInMore
import Derived.LoopNIn
import Derived.LoopIn
import Derived.StillTailTactics
namespace Go.Proofs.YtkhnggkkiefcdaaGreatDoor
open Go.RowKit
set_option maxRecDepth 100000
set_option maxHeartbeats 8000000
abbrev GK:=@Go.wp_region_still_tail
abbrev Es:=@Go.World.putObj_heap_other
abbrev Keys:=List (ByteArray × List Ver)
def Y1(K:Keys):Prop:=Asc zf (K.map Prod.fst)
theorem ZC{a b:ByteArray}(h:zf a b=true):a≠b:=fun e=>by rw[e,Zg.yI] at h;cases h
theorem Rl{K:Keys}{key:ByteArray}:∀ x∈K.take (low zf (K.map Prod.fst) key),zf x.1 key=true:=by
 intro x d;obtain⟨j,c,rfl⟩:=GF d;rw[IR] at c;have a:j<(K.map Prod.fst).length:=by rw[Hy];omega
 have:=Tu (lt:=zf) (l:=K.map Prod.fst) (b:=key) (k:=j) a (by omega);rw[Gf] at this;rw[Fy];exact this
theorem Rm{K:Keys}{key:ByteArray}(h:Y1 K):∀ x∈K.drop (if Z5 zf (K.map Prod.fst) key=true then low zf (K.map Prod.fst) key+1 else low zf (K.map Prod.fst) key),zf key x.1=true:=by
 intro x m;obtain⟨j,d,rfl⟩:=GF m;rw[Hi] at d;rw[Dg];rcases Fg (low zf (K.map Prod.fst) key) (K.map Prod.fst).length with f|f
 .have hge:=Tv f
  have k:low zf (K.map Prod.fst) key<K.length:=by simpa using f
  have c:=XH (lt:=zf) (b:=key) k rfl;rw[Gf] at hge;by_cases a:Z5 zf (K.map Prod.fst) key=true
  .rw[a] at c
   have g:=zT.1 c.symm;simp only[a,Gi] at d |-;have:=Asc.fst h (i:=low zf (K.map Prod.fst) key) (j:=low zf (K.map Prod.fst) key+1+j) (by omega) (by omega);rw[g] at this;exact this
  .have a:Z5 zf (K.map Prod.fst) key=false:=by simpa using a
   rw[a] at c;have g:K[low zf (K.map Prod.fst) key].1≠key:=fun e=>by rw[zT.2 e] at c;cases c
   have l:=Zg.yO _ _ hge g;simp only[a,Gl,Gj] at d |-;rcases FG j with e|e
   .subst e;exact l
   .exact Zg.trans _ _ _ l (Asc.fst h (i:=low zf (K.map Prod.fst) key) (j:=low zf (K.map Prod.fst) key+j) (by omega) (by omega))
 .rw[Hy] at f
  exfalso
  have:=d;split at this <;> omega
theorem Vs{K:Keys}{key:ByteArray}(a:Z5 zf (K.map Prod.fst) key=true):∃ l,K=K.take (low zf (K.map Prod.fst) key)++(key,l)::K.drop (low zf (K.map Prod.fst) key+1)/\zj K key=l:=by
 rcases Fg (low zf (K.map Prod.fst) key) K.length with c|c
 .have he:=XH (lt:=zf) (b:=key) c rfl
  rw[a] at he;have d:=zT.1 he.symm;refine⟨K[low zf (K.map Prod.fst) key].2,?_,?_⟩
  .have e2:(key,K[low zf (K.map Prod.fst) key].2)=K[low zf (K.map Prod.fst) key]:=by rw[<- Prod.eta K[low zf (K.map Prod.fst) key],d]
   rw[e2,List.getElem_cons_drop,Ge]
  .unfold zj
   rw[He a,Gz,IW c]
   rfl
 .rw[Ve (by simpa using c)] at a
  cases a
def zE(K:Keys)(key:ByteArray):List Ver:=match K.find? (fun e=>e.1==key) with|some e=>e.2|none=>[]
theorem Ud{K:Keys}{key:ByteArray}(h:∀ x∈K,x.1≠key):K.find? (fun e=>e.1==key)=none:=by
 rw[FH];intro x b;have:=h x b;intro e;exact this (zT.1 e)
theorem T1{K:Keys}(key:ByteArray)(h:Y1 K):zE K key=zj K key:=by
 have c:∀ x∈K.take (low zf (K.map Prod.fst) key),x.1≠key:=fun x a=>ZC (Rl x a);have b:=Rm (key:=key) h;cases ha:Z5 zf (K.map Prod.fst) key with
 | true =>
  obtain⟨l,d,g⟩:=Vs ha;rw[g];unfold zE;have:K.find? (fun e=>e.1==key)=some (key,l):=by
   rw[d,EJ,Ud c];simp[zT.2 rfl]
  rw[this]
 | false =>
  have f:zj K key=[]:=by unfold zj;rw[IV (by rw[ha];decide)]
  rw[f];rw[ha] at b;simp only[Gl,Gj] at b;unfold zE;have:K.find? (fun e=>e.1==key)=none:=by
   rw[<- Ge (low zf (K.map Prod.fst) key) K];refine Ud fun x a=>?_;rcases Hh.1 a with a|a
   .exact c x a
   .exact(ZC (b x a)).symm
  rw[this]
def zw(key:ByteArray)(l:List Ver)(st:Keys × Bool)(e:ByteArray × List Ver):Keys × Bool :=
 (((if st.2=false/\zf e.1 key=false then st.1++[(key,l)] else st.1)++if e.1=key then [] else [e]),st.2||!zf e.1 key)
def zX(K:Keys)(key:ByteArray)(l:List Ver):Keys :=
 (K.foldl (zw key l) ([],l.isEmpty)).1++if (K.foldl (zw key l) ([],l.isEmpty)).2=true then [] else [(key,l)]
theorem Xj(key:ByteArray)(l:List Ver):∀ (K a:Keys),(∀ x∈K,x.1≠key)->K.foldl (zw key l) (a,true)=(a++K,true)
 | [],a,_=>by simp
 | e::K,a,h=>by
  have b:e.1≠key:=h e (Hf ..);have:zw key l (a,true) e=(a++[e],true):=by simp[zw,b]
  rw[GT,this,Xj key l K _ (fun x c=>h x (Hb _ c))];simp
theorem Wn(key:ByteArray)(l:List Ver)(b:Bool):∀ (K a:Keys),(∀ x∈K,zf x.1 key=true)->K.foldl (zw key l) (a,b)=(a++K,b)
 | [],a,_=>by simp
 | e::K,a,h=>by
  have c:=h e (Hf ..);have d:e.1≠key:=ZC c;have:zw key l (a,b) e=(a++[e],b):=by simp[zw,c,d]
  rw[GT,this,Wn key l b K _ (fun x f=>h x (Hb _ f))];simp
theorem LP(key:ByteArray)(l:List Ver)(K a:Keys)(h:∀ x∈K,zf key x.1=true) :
 K.foldl (zw key l) (a,false)=(if K=[] then(a,false) else(a++(key,l)::K,true)):=by
 cases K with
 | nil=>rfl
 | cons e K =>
  have b:=h e (Hf ..);have f:e.1≠key:=fun x=>ZC b x.symm;have d:zf e.1 key=false:=Zg.yL b;have:zw key l (a,false) e=(a++[(key,l)]++[e],true):=by simp[zw,d,f]
  rw[GT,this,Xj key l K _ (fun x g=>fun c=>ZC (h x (Hb _ g)) c.symm)];simp
theorem Zo{K:Keys}(key:ByteArray)(l:List Ver)(h:Y1 K):zX K key l=if l=[] then YI K key else Y0 K key l:=by
 have i:=Rl (K:=K) (key:=key);have a:=Rm (key:=key) h;cases ha:Z5 zf (K.map Prod.fst) key with
 | true =>
  obtain⟨j,e,_⟩:=Vs ha;rw[ha] at a;simp only[Gi] at a;have f:YI K key=K.take (low zf (K.map Prod.fst) key)++K.drop (low zf (K.map Prod.fst) key+1):=by unfold YI;rw[He ha]
  have hs:Y0 K key l=K.take (low zf (K.map Prod.fst) key)++[(key,l)]++K.drop (low zf (K.map Prod.fst) key+1):=by unfold Y0;rw[He ha]
  rw[f,hs];generalize K.take (low zf (K.map Prod.fst) key)=A at *;generalize K.drop (low zf (K.map Prod.fst) key+1)=C at *;subst e;unfold zX;rw[Gq,Wn key l _ A [] i,GT];have b:zf key key=false:=Zg.yI key;have d:∀ x∈C,x.1≠key:=fun x g=>(ZC (a x g)).symm;cases l with
  | nil =>
   have:zw key [] ([]++A,List.isEmpty ([]:List Ver)) (key,j)=(A,true):=by simp[zw,b]
   rw[this,Xj key _ C A d];simp
  | cons v l =>
   have:zw key (v::l) ([]++A,List.isEmpty (v::l)) (key,j)=(A++[(key,v::l)],true):=by simp[zw,b]
   rw[this,Xj key _ C _ d];simp
 | false =>
  rw[ha] at a;simp only[Gl,Gj] at a;have f:YI K key=K:=by unfold YI;rw[IV (by rw[ha];decide)]
  have hs:Y0 K key l=K.take (low zf (K.map Prod.fst) key)++[(key,l)]++K.drop (low zf (K.map Prod.fst) key):=by unfold Y0;rw[IV (by rw[ha];decide)]
  have e:K=K.take (low zf (K.map Prod.fst) key)++K.drop (low zf (K.map Prod.fst) key):=(Ge _ _).symm;rw[f,hs];generalize K.take (low zf (K.map Prod.fst) key)=A at *;generalize K.drop (low zf (K.map Prod.fst) key)=C at *;subst e;have d:∀ x∈C,x.1≠key:=fun x g=>(ZC (a x g)).symm;unfold zX;rw[Gq,Wn key l _ A [] i];cases l with
  | nil =>
   rw[show List.isEmpty ([]:List Ver)=true from rfl,Xj key _ C _ d];simp
  | cons v l =>
   rw[show List.isEmpty (v::l)=false from rfl,LP key _ C _ a];cases C with
   | nil=>simp
   | cons c C=>simp
def zL(v:Ver)(st:List Ver × Bool)(u:Ver):List Ver × Bool :=
 (((if zy v.dot u.dot=true/\st.2=false then st.1++[v] else st.1)++if v.over u=true then [] else [u]),st.2||zy v.dot u.dot)
def Wg(l:List Ver)(v:Ver):List Ver :=
 (l.foldl (zL v) ([],v.gone)).1++if (l.foldl (zL v) ([],v.gone)).2=true then [] else [v]
theorem T4(v:Ver):∀ (l a:List Ver),l.foldl (zL v) (a,true)=(a++zx l v,true)
 | [],a=>by simp[zx]
 | u::l,a=>by
  have:zL v (a,true) u=(a++if v.over u=true then [] else [u],true):=by simp[zL]
  rw[GT,this,T4 v l];unfold zx;cases h:v.over u <;> simp[h]
theorem Rn(v:Ver)(b:Bool):∀ (l a:List Ver),(∀ u∈l,zy v.dot u.dot=false)->l.foldl (zL v) (a,b)=(a++zx l v,b)
 | [],a,_=>by simp[zx]
 | u::l,a,h=>by
  have c:=h u (Hf ..);have:zL v (a,b) u=(a++if v.over u=true then [] else [u],b):=by simp[zL,c]
  rw[GT,this,Rn v b l _ (fun x d=>h x (Hb _ d))];unfold zx;cases h:v.over u <;> simp[h]
theorem Pk(a b:List Ver)(v:Ver):zx (a++b) v=zx a v++zx b v:=by simp[zx]
theorem J7(A C:List Ver)(v:Ver)(d:∀ u∈A,zy u.dot v.dot=true)(e:∀ u∈C,zy v.dot u.dot=true):YR (A++C) v=A++[v]++C:=by
 have g:low zy ((A++C).map Ver.dot) v.dot=A.length:=by
  refine U4 zy v.dot _ _ (by simp) (fun k c a=>?_) (fun c=>?_)
  .rw[Gf,Hw a]
   exact d _ (IX _)
  .have hc:A.length<(A++C).length:=by simpa using c
   have f:0<C.length:=by simp at hc;omega
   rw[Gf,Gu (IQ _)];exact Y6.yL (e _ (IX _))
 unfold YR;rw[g];simp
theorem JT{l:List Ver}(v:Ver)(h:Yl l)(y:∀ u∈l,u.dot≠v.dot):Wg l v=if v.gone=true then zx l v else YR (zx l v) v:=by
 unfold Wg;cases hg:v.gone with
 | true=>rw[T4];simp
 | false =>
  have x:l=l.take (low zy (l.map Ver.dot) v.dot)++l.drop (low zy (l.map Ver.dot) v.dot):=(Ge _ _).symm;have f:∀ u∈l.take (low zy (l.map Ver.dot) v.dot),zy u.dot v.dot=true:=by
   intro u a;obtain⟨j,g,rfl⟩:=GF a;rw[IR] at g;have f:j<(l.map Ver.dot).length:=by rw[Hy];omega
   have:=Tu (lt:=zy) (l:=l.map Ver.dot) (b:=v.dot) (k:=j) f (by omega);rw[Gf] at this;rw[Fy];exact this
  have p:∀ u∈l.drop (low zy (l.map Ver.dot) v.dot),zy v.dot u.dot=true:=by
   intro u a;obtain⟨j,g,rfl⟩:=GF a;rw[Hi] at g;rw[Dg];have m:low zy (l.map Ver.dot) v.dot<l.length:=by omega
   have d:=Tv (lt:=zy) (l:=l.map Ver.dot) (b:=v.dot) (by simpa using m);rw[Gf] at d;have o:=Y6.yO _ _ d (y _ (IX _));rcases FG j with e|e
   .subst e;exact o
   .exact Y6.trans _ _ _ o (h.get (i:=low zy (l.map Ver.dot) v.dot) (j:=low zy (l.map Ver.dot) v.dot+j) (by omega) (by omega))
  generalize l.take (low zy (l.map Ver.dot) v.dot)=A at *;generalize l.drop (low zy (l.map Ver.dot) v.dot)=C at *;subst x;have q:∀ u∈A,zy v.dot u.dot=false:=fun u a=>Y6.yL (f u a);have r:∀ u∈zx A v,zy u.dot v.dot=true:=fun u a=>f u ((FP.1 a).1);have s:∀ u∈zx C v,zy v.dot u.dot=true:=fun u a=>p u ((FP.1 a).1);rw[Gq,Rn v false A [] q,Pk];simp only[Gl,Gj];rw[J7 _ _ v r s];cases C with
  | nil=>simp[zx]
  | cons c C =>
   have t:=p c (Hf ..);have:zL v ([]++zx A v,false) c=(zx A v++[v]++(if v.over c=true then [] else [c]),true):=by simp[zL,t]
   rw[GT,this,T4];cases ho:v.over c <;> simp[zx,ho]
def zP(n s y:Int):Bool:=zA n&&decide (1000<=s/\s<=1000000/\0<=y/\y<=100)
theorem Vg(n s y:Int)(w:World):Calls Tryz.prog 93 #[.agg #[.int .i64 n,.int .i64 s,.int .i64 y]] w fun e t=>e=.returned (.bool (zP n s y))/\Fr Nil w t:=by
 have l:=Blk.new w [.int .i64 n,.int .i64 s,.int .i64 y] 102;have k:Fr Nil w (w.alloc (.cells #[.int .i64 n,.int .i64 s,.int .i64 y] 102)):=(O _ _).alloc _;have f:=Z l;have g:=Z k;clear l k;go_enter Tryz.func93,Tryz.ntmps93;go_wp2_with fail;generalize c:w.alloc (.cells #[.int .i64 n,.int .i64 s,.int .i64 y] 102)=u;rw[c] at f g;clear c;have r:=f.out.cell;generalize w.heap.size=b at f r |-;have d:=Z (WB n u);cases h1:zA n with
 | false =>
  rw[h1] at d;have a:zP n s y=false:=by unfold zP;rw[h1];rfl
  have h:=Z a;clear h1 a
  go_wp2_with (refine d.out.mono ?_;rintro e j ⟨rfl,i⟩;subst j)
  go_ret;exact⟨by rw[h.out];rfl,g.out⟩
 | true =>
  rw[h1] at d;have a:zP n s y=decide (1000<=s/\s<=1000000/\0<=y/\y<=100):=by unfold zP;rw[h1];rfl
  have h:=Z a;clear h1 a;by_cases m:1000<=s <;> by_cases o:s<=1000000 <;> by_cases p:0<=y <;> by_cases q:y<=100
  all_goals first
   | (exfalso;omega)
   | (
   go_wp2_with (refine d.out.mono ?_;rintro e j ⟨rfl,i⟩;subst j)
   go_ret;exact⟨by rw[h.out];simp[m,o,p,q],g.out⟩)
def zq(o:Int):Bool:=decide (0<=o/\o<=1000000000)
def Ver.Av(v:Ver):List Int:=[v.o0,v.o1,v.o2,v.o3]
def foreign(self:Nat)(v:Ver):Bool :=
 v.Av.all zq&&(!(v.gone&&decide (v.value.size≠0))&&((zA v.node&&decide (v.node≠self))&&decide (1<=v.seq/\v.seq<=1000000000)))
theorem MA(a b c d:Int):(∀ w,(Instr.index 35 (.agg #[.int .i64 a,.int .i64 b,.int .i64 c,.int .i64 d]) (.int .i64 0)).run Tryz.prog w=.ok (.int .i64 a) w)/\(∀ w,(Instr.index 35 (.agg #[.int .i64 a,.int .i64 b,.int .i64 c,.int .i64 d]) (.int .i64 1)).run Tryz.prog w=.ok (.int .i64 b) w)/\(∀ w,(Instr.index 35 (.agg #[.int .i64 a,.int .i64 b,.int .i64 c,.int .i64 d]) (.int .i64 2)).run Tryz.prog w=.ok (.int .i64 c) w)/\(∀ w,(Instr.index 35 (.agg #[.int .i64 a,.int .i64 b,.int .i64 c,.int .i64 d]) (.int .i64 3)).run Tryz.prog w=.ok (.int .i64 d) w) :=
 ⟨fun _=>by kernel_rfl,fun _=>by kernel_rfl,fun _=>by kernel_rfl,fun _=>by kernel_rfl⟩
theorem TD(L:NL)(N:NM)(M:DM)(v:Ver)(w:World)(h:NRep w L N M) :
 Calls Tryz.prog 139 #[.pointer (some ⟨L.nb,0,none⟩),.agg v.cells.toArray] w fun e J=>e=.returned (.bool (foreign N.self v))/\Fr Nil w J:=by
 have K:=Blk.new w v.cells 37;have G:Fr Nil w (w.alloc (.cells v.cells.toArray 37)):=(O _ _).alloc _;have Q:=h.nil G;have E:=Z K;have s:=Z G;have F:=Z Q;clear K G h Q;obtain⟨node,a,m,o,q,r,c,gone⟩:=v;obtain⟨i0,i1,i2,i3⟩:=MA m o q r;simp only[Ver.cells] at E s F |-;go_enter Tryz.func139,Tryz.ntmps139;go_wp2_with fail;generalize w.alloc (.cells #[.int .i64 node,.int .i64 a,.int .i64 m,.int .i64 o,.int .i64 q,.int .i64 r,.string c,.bool gone] 37)=X at E s F |-;have T:=E.out.cell;generalize w.heap.size=b at E T |-
 go_loopw [9] (fun t J=>∃ i:Nat,i<=4/\t=.int .i64 i/\(([m,o,q,r].take i).all zq)=true/\J=X) (fun t _=>4-(intOf t).toNat)
 case atStart=>exact⟨0,by omega,rfl,rfl,rfl⟩
 case round =>
  obtain⟨i,hi,rfl,d,V⟩:=hrel;subst V;have B:i=0\/i=1\/i=2\/i=3\/i=4:=by omega
  rcases B with rfl|rfl|rfl|rfl|rfl
  .cases ho:zq m with
   | false =>
    have k:foreign N.self ⟨node,a,m,o,q,r,c,gone⟩=false:=by unfold foreign;simp[Ver.Av,ho]
    have l:=Z k;have g:m<0\/(¬m<0/\1000000000<m):=by unfold zq at ho;simp only[Ho] at ho;omega
    clear k ho d;rcases g with g|⟨g,u⟩
    .go_wp2
     go_ret;exact⟨by rw[l.out];rfl,s.out⟩
    .go_wp2
     go_ret;exact⟨by rw[l.out];rfl,s.out⟩
   | true =>
    have f:(([m,o,q,r].take 1).all zq)=true:=by simp[ho]
    have j:=Z f;have g:¬m<0:=by unfold zq at ho;simp only[Ha] at ho;omega
    have u:¬1000000000<m:=by unfold zq at ho;simp only[Ha] at ho;omega
    clear ho d f
    go_wp2
    exact⟨⟨1,by omega,rfl,j.out,trivial⟩,by simp[intOf]⟩
  .cases ho:zq o with
   | false =>
    have k:foreign N.self ⟨node,a,m,o,q,r,c,gone⟩=false:=by unfold foreign;simp[Ver.Av,ho]
    have l:=Z k;have g:o<0\/(¬o<0/\1000000000<o):=by unfold zq at ho;simp only[Ho] at ho;omega
    clear k ho d;rcases g with g|⟨g,u⟩
    .go_wp2
     go_ret;exact⟨by rw[l.out];rfl,s.out⟩
    .go_wp2
     go_ret;exact⟨by rw[l.out];rfl,s.out⟩
   | true =>
    have f:(([m,o,q,r].take 2).all zq)=true:=by
     simp only[Gp,GZ,Cg,CB,Ch,Gr] at d |-;simp[d,ho]
    have j:=Z f;have g:¬o<0:=by unfold zq at ho;simp only[Ha] at ho;omega
    have u:¬1000000000<o:=by unfold zq at ho;simp only[Ha] at ho;omega
    clear ho d f
    go_wp2
    exact⟨⟨2,by omega,rfl,j.out,trivial⟩,by simp[intOf]⟩
  .cases ho:zq q with
   | false =>
    have k:foreign N.self ⟨node,a,m,o,q,r,c,gone⟩=false:=by unfold foreign;simp[Ver.Av,ho]
    have l:=Z k;have g:q<0\/(¬q<0/\1000000000<q):=by unfold zq at ho;simp only[Ho] at ho;omega
    clear k ho d;rcases g with g|⟨g,u⟩
    .go_wp2
     go_ret;exact⟨by rw[l.out];rfl,s.out⟩
    .go_wp2
     go_ret;exact⟨by rw[l.out];rfl,s.out⟩
   | true =>
    have f:(([m,o,q,r].take 3).all zq)=true:=by
     simp only[Gp,GZ,Cg,CB,Ch,Gr] at d |-;simp[d,ho]
    have j:=Z f;have g:¬q<0:=by unfold zq at ho;simp only[Ha] at ho;omega
    have u:¬1000000000<q:=by unfold zq at ho;simp only[Ha] at ho;omega
    clear ho d f
    go_wp2
    exact⟨⟨3,by omega,rfl,j.out,trivial⟩,by simp[intOf]⟩
  .cases ho:zq r with
   | false =>
    have k:foreign N.self ⟨node,a,m,o,q,r,c,gone⟩=false:=by unfold foreign;simp[Ver.Av,ho]
    have l:=Z k;have g:r<0\/(¬r<0/\1000000000<r):=by unfold zq at ho;simp only[Ho] at ho;omega
    clear k ho d;rcases g with g|⟨g,u⟩
    .go_wp2
     go_ret;exact⟨by rw[l.out];rfl,s.out⟩
    .go_wp2
     go_ret;exact⟨by rw[l.out];rfl,s.out⟩
   | true =>
    have f:(([m,o,q,r].take 4).all zq)=true:=by
     simp only[Gp,GZ,Cg,CB,Ch,Gr] at d |-;simp[d,ho]
    have j:=Z f;have g:¬r<0:=by unfold zq at ho;simp only[Ha] at ho;omega
    have u:¬1000000000<r:=by unfold zq at ho;simp only[Ha] at ho;omega
    clear ho d f
    go_wp2
    exact⟨⟨4,by omega,rfl,j.out,trivial⟩,by simp[intOf]⟩
  .have j:Hid (([m,o,q,r].all zq)=true):=d
   have z:=Z (VR L N M node wr F.out);have D:foreign N.self ⟨node,a,m,o,q,r,c,gone⟩=(!(gone&&decide (c.size≠0))&&((zA node&&decide (node≠N.self))&&decide (1<=a/\a<=1000000000))):=by
    unfold foreign;simp only[Ver.Av,j.out,Dx]
   have A:=Z D;have C:=Z (YA c);clear d D;cases gone with
   | true =>
    by_cases I:c.toList=[]
    .have k:foreign N.self ⟨node,a,m,o,q,r,c,true⟩=((zA node&&decide (node≠N.self))&&decide (1<=a/\a<=1000000000)):=by
      rw[A.out];simp[show c.size=0 by rw[C.out,I];rfl]
     cases ho:(zA node&&decide (node≠N.self)) with
     | false =>
      rw[ho] at z k;have l:=Z k;clear ho k
      go_wp2_with (refine z.out.mono ?_;rintro e y ⟨rfl,x⟩;subst y)
      go_ret;exact⟨by rw[l.out];rfl,s.out⟩
     | true =>
      rw[ho] at z k;have l:=Z k;clear ho k;by_cases R:1<=a
      .by_cases h2:a<=1000000000
       .go_wp2_with (refine z.out.mono ?_;rintro e y ⟨rfl,x⟩;subst y)
        go_ret;exact⟨by rw[l.out,Er (show 1<=a/\a<=1000000000 by omega)];rfl,s.out⟩
       .go_wp2_with (refine z.out.mono ?_;rintro e y ⟨rfl,x⟩;subst y)
        go_ret;exact⟨by rw[l.out,GW (show ¬(1<=a/\a<=1000000000) by omega)];first|rfl|(rw[<- GW (show ¬a<=1000000000 by omega)];rfl),s.out⟩
      .go_wp2_with (refine z.out.mono ?_;rintro e y ⟨rfl,x⟩;subst y)
       go_ret;exact⟨by rw[l.out,GW (show ¬(1<=a/\a<=1000000000) by omega)];first|rfl|(rw[<- GW (show ¬a<=1000000000 by omega)];rfl),s.out⟩
    .have k:foreign N.self ⟨node,a,m,o,q,r,c,true⟩=false:=by
      rw[A.out];have:c.size≠0:=by rw[C.out];exact fun h=>I (Hm h)
      simp[this]
     have l:=Z k;have Y:c.toList.isEmpty=false:=by simpa using I
     clear k
     go_wp2
     go_ret;exact⟨by rw[l.out];rfl,s.out⟩
   | false =>
    have k:foreign N.self ⟨node,a,m,o,q,r,c,false⟩=((zA node&&decide (node≠N.self))&&decide (1<=a/\a<=1000000000)):=by
     rw[A.out];simp
    cases ho:(zA node&&decide (node≠N.self)) with
    | false =>
     rw[ho] at z k;have l:=Z k;clear ho k
     go_wp2_with (refine z.out.mono ?_;rintro e y ⟨rfl,x⟩;subst y)
     go_ret;exact⟨by rw[l.out];rfl,s.out⟩
    | true =>
     rw[ho] at z k;have l:=Z k;clear ho k;by_cases R:1<=a
     .by_cases h2:a<=1000000000
      .go_wp2_with (refine z.out.mono ?_;rintro e y ⟨rfl,x⟩;subst y)
       go_ret;exact⟨by rw[l.out,Er (show 1<=a/\a<=1000000000 by omega)];rfl,s.out⟩
      .go_wp2_with (refine z.out.mono ?_;rintro e y ⟨rfl,x⟩;subst y)
       go_ret;exact⟨by rw[l.out,GW (show ¬(1<=a/\a<=1000000000) by omega)];first|rfl|(rw[<- GW (show ¬a<=1000000000 by omega)];rfl),s.out⟩
     .go_wp2_with (refine z.out.mono ?_;rintro e y ⟨rfl,x⟩;subst y)
      go_ret;exact⟨by rw[l.out,GW (show ¬(1<=a/\a<=1000000000) by omega)];first|rfl|(rw[<- GW (show ¬a<=1000000000 by omega)];rfl),s.out⟩
end Go.Proofs.YtkhnggkkiefcdaaGreatDoor
namespace Go.Proofs.YtkhnggkkiefcdaaGreatDoor
open Go.RowKit Go.Shelf
set_option maxRecDepth 100000
set_option maxHeartbeats 8000000
attribute [local go_sem] FQ
def zQ(X:Nat->Prop)(W W':World):Prop:=∀ k,X k->W'.heap[k]?=W.heap[k]?
theorem zQ.refl(X:Nat->Prop)(W:World):zQ X W W:=fun _ _=>rfl
theorem zQ.trans{X:Nat->Prop}{A B C:World}(h:zQ X A B)(k:zQ X B C):zQ X A C:=fun i c=>(k i c).trans (h i c)
theorem zQ.own{X:Nat->Prop}{W W':World}{base:Nat}{e:TypeId}{size:Nat}{v:Value}{n:Nat}{j:List Value}(h:zQ X W W')(i:W.ownsRow base e size v n j)(t:∀ k,v.ownBlock=some k->X k):W'.ownsRow base e size v n j:=by
 refine⟨i.1,?_⟩;rcases i.2 with m|⟨g,a,c,rfl,o,q,r⟩
 .exact .inl m
 .exact .inr ⟨g,a,c,rfl,o,by rw[h g (t g rfl)];exact q,r⟩
theorem zQ.BO{X S:Nat->Prop}{W W':World}(f:Fr S W W')(h:∀ k,X k->k<W.heap.size/\¬S k):zQ X W W':=fun k b=>f.block k (h k b).1 (h k b).2
theorem MB(a:Nat)(w:World) :
 Calls Tryz.prog 182 #[.pointer (some ⟨a,0,none⟩)] w fun e b =>
  e=.returned (.func (.func 217) #[] #[.pointer (some ⟨w.heap.size,0,none⟩)])/\b=w.alloc (.cells #[.pointer (some ⟨a,0,none⟩)] 236):=by
 go_enter Tryz.func182,Tryz.ntmps182
 go_wp2
 go_ret;exact⟨rfl,rfl⟩
theorem J8(F:Fence)(n:Nat)(hF:F.fn 217)(K:F.round=none)(hn:1<=n)(l M mb:Nat)(v:Value)(b:List (ByteArray × Value))(X:Nat->Prop)(J Q:List (ByteArray × Value)->World->Prop)
 (W:World)(hl:b.length<4611686018427387904)
 (hJ:AbidesFrom W.heap.size J)(hX:∀ k,X k->k<W.heap.size)(D:∀ k,v.ownBlock=some k->X k)
 (o:∀ e∈b,∃ a m c,e.2=.slice a m c)
 (hY:∀ d x y,J d y->d.length<b.length->YieldAt F (n-1) Tryz.prog l #[.string x.1,x.2] y fun e j =>
   (e=.returned (.bool true)/\J (d++[x]) j/\zQ X y j/\y.heap.size<=j.heap.size)\/(e=.returned (.bool false)/\Q (d++[x]) j))
 (a4:W.cell? ⟨M,0,none⟩=some (.pointer (some ⟨mb,0,none⟩)))(a6:W.cell? ⟨mb,0,none⟩=some v)(hv:W.ownsRow 0 239 2 v b.length (Z1 b))(h0:J [] W) :
 CallsIn F n Tryz.prog 217 #[.func (.yield l) #[] #[],.pointer (some ⟨M,0,none⟩)] W fun e j=>(∃ r,e=.returned r) /\
  ((∃ ys,ys=b/\J ys j)\/(∃ d,d<+:b/\Q d j)):=by
 obtain⟨a0,B,rfl⟩:=zc hv;refine callsIn_of_wp Tryz.func217 rfl hF ?_ K;simp only[Tryz.ntmps217,FN,Hq,Gt,Nat.reduceAdd,Nat.reduceSub,Ef,Eg,EK,Eo,Hd,IY]
 gi_wp2
 gi_loopw [10] (fun i wr=>∃ k:Nat,k<=b.length/\i=.int .i64 k/\J (b.take k) wr/\zQ X W wr/\W.heap.size<=wr.heap.size)
  (fun i _=>b.length-(intOf i).toNat)
 case atStart=>exact⟨0,Hg _,rfl,by simpa using h0,zQ.refl _ _,IQ _⟩
 case round =>
  obtain⟨k,Y,rfl,f,u,a7⟩:=hrel;by_cases h:k<b.length
  .have hvr:=u.own hv D
   obtain⟨g,q,hg,_,_⟩:=zm hvr (by omega);obtain⟨rfl,rfl⟩:a0=some ⟨g,0,none⟩/\B=q:=by simpa using hg
   obtain⟨R,m1,T,G⟩:=o b[k] (IX h);have a5:=own_cell? hvr (k*2) _ (Z3 b k h).1;have E:=own_cell? hvr (k*2+1) _ (Z3 b k h).2;rw[G] at E;have s:J (b.take k) (wr.alloc (.cells #[.string b[k].1,.slice R m1 T] 239)):=hJ _ _ _ none f (World.grownBy_alloc ..) (fun r e=>by cases e);obtain⟨fn,a2,z,S,hy,V⟩:=hY (b.take k) b[k] _ s (by simp;omega);rw[G] at hy;have N:Hid (b.take (k+1)=b.take k++[b[k]]):=Hj h;have A:Hid (zQ X W (wr.alloc (.cells #[.string b[k].1,.slice R m1 T] 239))):=u.trans (fun k Y=>ER _ _ _ (by have:=hX k Y;omega));have a3:=Z f;have HR:=Z V;clear s f V G
   gi_wp2
   refine HR.out.mono ?_;rintro e W3 (⟨rfl,C,I,L⟩|⟨rfl,t⟩)
   .gi_wp2
    go_roundw
    case rel=>exact⟨k+1,by omega,by simp,by rw[N.out];exact C,A.out.trans I,by have:=L;simp at this;omega⟩
    case measure=>simp[intOf];omega
   .gi_wp2
    refine EB (results_none rfl _ _ _) rfl ?_;exact⟨⟨_,rfl⟩,.inr ⟨_,⟨b.drop (k+1),by rw[<- N.out,Ge]⟩,t⟩⟩
  .obtain rfl:k=b.length:=by omega
   rw[HZ] at f
   gi_wp2
   go_end0
   exact⟨⟨_,rfl⟩,.inl ⟨_,rfl,f⟩⟩
def KpX(X:Nat->Prop)(W a:World):Prop:=zQ X W a/\W.heap.size<=a.heap.size
theorem MC(F:Fence)(n:Nat)(B:F.fn 217)(t:F.round=none)(I:1<=n)(f i:Nat)(v:Value)(b:List (ByteArray × Value))(X:Nat->Prop)
 (w:World)(G:b.length<4611686018427387904)(y:∀ k,X k->k<w.heap.size)(o:f<w.heap.size)(s:i<w.heap.size)(g:∀ k,v.ownBlock=some k->X k)
 (d:∀ e∈b,∃ a m c,e.2=.slice a m c)(q:w.cell? ⟨f,0,none⟩=some (.pointer (some ⟨i,0,none⟩)))(r:w.cell? ⟨i,0,none⟩=some v)(K:w.ownsRow 0 239 2 v b.length (Z1 b)) :
 SeqStopsK F n Tryz.prog 217 #[.pointer (some ⟨f,0,none⟩)] (fun x:ByteArray × Value=>#[.string x.1,x.2]) (KpX X) (fun L=>L=b) (fun u=>u<+:b) b.length w:=by
 intro l J z W j C D E A;have h:zQ X w W:=fun k h=>j.block k (y k h);exact J8 F n B t I l f i v b X J z W G C (fun k h=>Gd (y k h) j.size) g d E ((j.cell (p:=⟨f,0,none⟩) o).trans q) ((j.cell (p:=⟨i,0,none⟩) s).trans r) (h.own K g) A
theorem KpX.trans{X:Nat->Prop}{A B C:World}(h:KpX X A B)(k:KpX X B C):KpX X A C:=⟨h.1.trans k.1,IP h.2 k.2⟩
theorem KpX.put{X:Nat->Prop}{w:World}(a:∀ k,X k->k<w.heap.size)(W:World)(l:Nat)(o c:Obj)(h:w.heap.size<=l)(_:W.heap[l]?=some o)(_:o.isCells=false)(_:o.isWalk=false):KpX X W (W.putObj l c) :=
 ⟨fun k b=>Es (fun e=>by have:=a k b;omega),by simp⟩
end Go.Proofs.YtkhnggkkiefcdaaGreatDoor
namespace Go.Proofs.YtkhnggkkiefcdaaGreatDoor
open Go.RowKit
set_option maxRecDepth 100000
set_option maxHeartbeats 8000000
structure LM where
 node:Int
 keys:Keys
 hints:List (Nat × ByteArray)
structure MAt(w:World)(p:Nat)(kv hv:Value)(BR:List (ByteArray × Value))(m:LM):Prop where
 CY:Blk w p [.int .i64 m.node,kv,hv] 107
 Ah:w.ownsRow 0 186 2 kv BR.length (Z1 BR)
 pair:Pair (VRow w) BR m.keys
 hint:w.ownsRow 0 75 2 hv m.hints.length (zJ m.hints)
def MBlk(p:Nat)(c b:Value)(a:List (ByteArray × Value))(k:Nat):Prop:=k=p\/c.ownBlock=some k\/b.ownBlock=some k\/∃ e∈a,e.2.ownBlock=some k
def MRep(K:Nat->Prop)(w:World)(p:Nat)(m:LM):Prop:=∃ d c b,MAt w p d c b m/\∀ k,MBlk p d c b k->K k
theorem zQ.CY{X:Nat->Prop}{W W':World}(h:zQ X W W'){b:Nat}{c:List Value}{t:TypeId}(e:Blk W b c t)(g:X b):Blk W' b c t:=e.of_heap (h b g)
theorem MAt.Bt{w i:World}{p:Nat}{g f:Value}{b:List (ByteArray × Value)}{m:LM}{X:Nat->Prop}(h:MAt w p g f b m)(c:zQ X w i)(d:∀ k,MBlk p g f b k->X k):MAt i p g f b m :=
 ⟨c.CY h.CY (d _ (.inl rfl)),c.own h.Ah (fun _ e=>d _ (.inr (.inl e))),h.pair.mono (fun a j _ l=>c.own l (fun _ e=>d _ (.inr (.inr (.inr ⟨a,j,e⟩))))),c.own h.hint (fun _ e=>d _ (.inr (.inr (.inl e))))⟩
theorem MRep.Bt{K X:Nat->Prop}{w e:World}{p:Nat}{m:LM}(h:MRep K w p m)(c:zQ X w e)(i:∀ k,K k->X k):MRep K e p m:=by
 obtain⟨j,g,b,f,d⟩:=h;exact⟨j,g,b,f.Bt c (fun k c=>i k (d k c)),d⟩
theorem MRep.mono{K g:Nat->Prop}{w:World}{p:Nat}{m:LM}(h:MRep K w p m)(y:∀ k,K k->g k):MRep g w p m:=by
 obtain⟨A,z,c,o,r⟩:=h;exact⟨A,z,c,o,fun k e=>y k (r k e)⟩
theorem zQ.nil{X:Nat->Prop}{w w':World}(f:Fr Nil w w')(d:∀ k,X k->k<w.heap.size):zQ X w w':=zQ.BO f (fun k c=>⟨d k c,id⟩)
theorem MAt.lt{w:World}{p:Nat}{o g:Value}{c:List (ByteArray × Value)}{m:LM}(h:MAt w p o g c m):∀ k,MBlk p o g c k->k<w.heap.size:=by
 intro k r;rcases r with rfl|e|e|⟨a,q,e⟩
 .exact h.CY.lt
 .exact zC h.Ah e
 .exact zC h.hint e
 .obtain⟨l,hl⟩:=h.pair.mem a q
  exact zC hl e
theorem MAt.nil{w w':World}{p:Nat}{g d:Value}{c:List (ByteArray × Value)}{m:LM}(h:MAt w p g d c m)(f:Fr Nil w w'):MAt w' p g d c m:=h.Bt (zQ.nil f h.lt) (fun _ e=>e)
theorem T6(v u:Ver)(b:zS u.node)(w:World) :
 Calls Tryz.prog 159 #[.agg v.cells.toArray,.agg u.cells.toArray] w fun e o=>e=.returned (.bool (v.over u))/\Fr Nil w o:=by
 obtain⟨n,s,d,f,h,i,x,g⟩:=v;obtain⟨node,c,j,k,l,m,y,gone⟩:=u;unfold zS at b;simp only at b;have a:node=0\/node=1\/node=2\/node=3:=by omega
 have p:Fr Nil w ((w.alloc (.cells #[.int .i64 n,.int .i64 s,.int .i64 d,.int .i64 f,.int .i64 h,.int .i64 i,.string x,.bool g] 37)).alloc (.cells #[.int .i64 node,.int .i64 c,.int .i64 j,.int .i64 k,.int .i64 l,.int .i64 m,.string y,.bool gone] 37)):=((O _ _).alloc _).alloc _;simp only[Ver.cells];clear b;rcases a with rfl|rfl|rfl|rfl
 all_goals
  go_enter Tryz.func159,Tryz.ntmps159;go_wp2_with fail
  go_quiet (fail)
  go_wp2
  go_ret;refine⟨?_,za⟩;simp[Ver.over,Ver.ov]
theorem Ue(a b c d:Int)(w:World) :
 Calls Tryz.prog 160 #[.agg #[.int .i64 a,.int .i64 b],.agg #[.int .i64 c,.int .i64 d]] w fun e g=>e=.returned (.bool (zy (a,b) (c,d)))/\Fr Nil w g:=by
 have h:Fr Nil w ((w.alloc (.cells #[.int .i64 a,.int .i64 b] 34)).alloc (.cells #[.int .i64 c,.int .i64 d] 34)):=((O _ _).alloc _).alloc _;by_cases f:a<c
 .go_enter Tryz.func160,Tryz.ntmps160
  go_wp2
  go_ret;exact⟨by simp[zy,f],za⟩
 .by_cases h2:a=c
  .subst h2
   go_enter Tryz.func160,Tryz.ntmps160
   go_wp2
   go_ret;exact⟨by simp[zy],za⟩
  .have h3:(a==c)=false:=by simp[h2]
   go_enter Tryz.func160,Tryz.ntmps160
   go_wp2
   go_ret;exact⟨by simp[zy,f,h2],za⟩
def zZ(key:ByteArray):Int:=if zp key=true then 0 else 2
theorem Y7(key:ByteArray)(w:World) :
 Calls Tryz.prog 103 #[.string key] w fun e f=>e=.returned (.int .i64 (zZ key))/\f=w:=by
 have hs:=YA key;go_enter Tryz.func103,Tryz.ntmps103;by_cases b:key.toList=[]
 .have hp:zZ key=2:=by
   unfold zZ zp;rw[IV];simp only[Ha];intro h;have:key.size=0:=by rw[hs,b];rfl
   omega
  have a:=Z hp;clear hs hp
  go_wp2
  go_ret;exact⟨by rw[a.out];rfl,rfl⟩
 .have h3:key.toList.isEmpty=false:=by simpa using b
  have d:0<key.size:=by
   rw[hs];exact FD.2 b
  by_cases g:32<key.size
  .have hp:zZ key=2:=by
    unfold zZ zp;rw[IV];simp only[Ha];omega
   have a:=Z hp;have c:(32:Int)<(key.size:Int):=by omega
   clear hs hp
   go_wp2
   go_ret;exact⟨by rw[a.out];rfl,rfl⟩
  .have hp:zZ key=0:=by
    unfold zZ zp;rw[He];simp only[Ha];omega
   have a:=Z hp;have c:¬(32:Int)<(key.size:Int):=by omega
   clear hs hp
   go_wp2
   go_ret;exact⟨by rw[a.out];rfl,rfl⟩
def Zh(key a:ByteArray):Int:=if zp key=true then(if 128<a.size then 3 else 0) else 2
theorem Yr(key a:ByteArray)(w:World) :
 Calls Tryz.prog 102 #[.string key,.string a] w fun e k=>e=.returned (.int .i64 (Zh key a))/\k=w:=by
 have d:=Z (Y7 key w);go_enter Tryz.func102,Tryz.ntmps102;cases hk:zp key with
 | false =>
  have c:zZ key=2:=by unfold zZ;rw[IV (by rw[hk];decide)]
  have b:Zh key a=2:=by unfold Zh;rw[IV (by rw[hk];decide)]
  have f:=Z b;rw[c] at d;clear hk c b
  go_wp2_with (refine d.out.mono ?_;rintro e h ⟨rfl,g⟩;subst h)
  go_ret;exact⟨by rw[f.out];rfl,rfl⟩
 | true =>
  have c:zZ key=0:=by unfold zZ;rw[He hk]
  rw[c] at d;by_cases j:128<a.size
  .have b:Zh key a=3:=by unfold Zh;rw[He hk,He j]
   have f:=Z b;have i:(128:Int)<(a.size:Int):=by omega
   clear hk c b
   go_wp2_with (refine d.out.mono ?_;rintro e h ⟨rfl,g⟩;subst h)
   go_ret;exact⟨by rw[f.out];rfl,rfl⟩
  .have b:Zh key a=0:=by unfold Zh;rw[He hk,IV j]
   have f:=Z b;have i:¬(128:Int)<(a.size:Int):=by omega
   clear hk c b
   go_wp2_with (refine d.out.mono ?_;rintro e h ⟨rfl,g⟩;subst h)
   go_ret;exact⟨by rw[f.out];rfl,rfl⟩
def Z9(node b:Int)(a:ByteArray):Int:=if (zA b&&decide (b≠node))=false then 4 else if a.size=0\/64<a.size then 3 else 0
theorem Q4(p:Nat)(node:Int)(q m:Value)(d:Int)(a:ByteArray)(w:World)(h:Blk w p [.int .i64 node,q,m] 107) :
 Calls Tryz.prog 113 #[.pointer (some ⟨p,0,none⟩),.int .i64 d,.string a] w fun e r=>e=.returned (.int .i64 (Z9 node d a))/\r=w:=by
 have hs:=YA a;have v:w.cell? ⟨p,0,none⟩=some (.int .i64 node):=h.cell 0;clear h;go_enter Tryz.func113,Tryz.ntmps113;by_cases s:d<0
 .have hp:Z9 node d a=4:=by unfold Z9 zA;rw[He (by simp;omega)]
  have c:=Z hp;clear hs hp
  go_wp2
  go_ret;exact⟨by rw[c.out];rfl,rfl⟩
 by_cases t:4<=d
 .have hp:Z9 node d a=4:=by unfold Z9 zA;rw[He (by simp;omega)]
  have c:=Z hp;clear hs hp
  go_wp2
  go_ret;exact⟨by rw[c.out];rfl,rfl⟩
 by_cases f:d=node
 .have hp:Z9 node d a=4:=by unfold Z9;rw[He (by simp[f])]
  have c:=Z hp;have j:(d==node)=true:=by simp[f]
  clear hs hp f
  go_wp2
  go_ret;exact⟨by rw[c.out];rfl,rfl⟩
 have j:(d==node)=false:=by simp[f]
 have b:∀ x,(if a.size=0\/64<a.size then(3:Int) else 0)=x->Z9 node d a=x:=by
  intro x o;unfold Z9 zA;rw[IV (by simp[f];omega)];exact o
 by_cases g:a.toList=[]
 .have hp:=b 3 (by rw[He (.inl (by rw[hs,g];rfl))])
  have c:=Z hp;clear hs hp b f
  go_wp2
  go_ret;exact⟨by rw[c.out];rfl,rfl⟩
 have u:a.toList.isEmpty=false:=by simpa using g
 have k:0<a.size:=by rw[hs];exact FD.2 g
 by_cases l:64<a.size
 .have hp:=b 3 (by rw[He (.inr l)])
  have c:=Z hp;have i:(64:Int)<(a.size:Int):=by omega
  clear hs hp b f
  go_wp2
  go_ret;exact⟨by rw[c.out];rfl,rfl⟩
 .have hp:=b 0 (by rw[IV (by omega)])
  have c:=Z hp;have i:¬(64:Int)<(a.size:Int):=by omega
  clear hs hp b f
  go_wp2
  go_ret;exact⟨by rw[c.out];rfl,rfl⟩
structure Ym(B:Nat)(L:NL)(M:DM)(w:World):Prop where
 tab:Xz B w
 le:B<=w.heap.size
 BA:∀ k,NFoot L M k->B<=k
theorem Ym.env{B:Nat}{L:NL}{M:DM}{w:World}(h:Ym B L M w):Env B L M w:=⟨h.tab,h.le,fun k a=>h.BA k (.inr (.inr (.inr a)))⟩
theorem Ym.step{B:Nat}{L b:NL}{N':NM}{M c:DM}{w w':World}(h:Ym B L M w)(s:NStep L M w b N' c w'):Ym B b c w' :=
 ⟨h.tab.fr h.le s.fr (fun k a=>h.BA k a),IP h.le s.fr.size,fun k a=>(s.BA k a).elim (h.BA k) (fun d=>IP h.le d)⟩
theorem Ym.nil{B:Nat}{L:NL}{M:DM}{w w':World}(h:Ym B L M w)(f:Fr Nil w w'):Ym B L M w' :=
 ⟨h.tab.fr (S:=Nil) h.le f (fun _ h=>absurd h id),IP h.le f.size,h.BA⟩
def zz:Prop:=∀(B:Nat)(w:World)(v:Value)(n:Int),Xz B w->ERep w v (some n)->Calls Tryz.prog 97 #[v] w fun e a=>e=.returned (.int .i64 n)/\Fr Nil w a
def Zy(e:Option Int):Int:=e.getD 0
def NM.BX(N:NM)(e:Option Int):NM:={N with readOnly:=N.readOnly||e.isSome}
theorem NStep.yR{L:NL}{N:NM}{M:DM}{w:World}(h:NRep w L N M)(v:Value):NStep L M w {L with mv:=v} N M (w.setCell ⟨L.nb,6,none⟩ v):=by
 have c:Fr (fun k=>k=L.nb) w (w.setCell ⟨L.nb,6,none⟩ v):=Fr.set (S:=fun k=>k=L.nb) (O _ _) (fun _=>rfl) _;have a:∀ {k t},Ty w k t->t≠123->¬k=L.nb:=fun b d e=>by subst e;exact d (b.inj h.CY.ty)
 refine⟨⟨?_,?_,?_,h.Bz.fr c (fun k b=>?_)⟩,⟨rfl,rfl,rfl,rfl⟩,c.mono (fun _ _ e=>.inl e),fun k b=>.inl b,fun k b=>.inl b⟩
 .exact h.CY.set 6 v
 .exact Blk.fr h.log c (a (Blk.ty h.log) (by decide))
 .refine h.held.fr c (fun k b=>?_) (fun k b=>a (h.held.BV b) (by decide))
  rcases h.held.BH b with e|e|e
  .exact a e (by decide)
  .exact a e (by decide)
  .exact a e (by decide)
 .obtain⟨t,d,hd⟩:=h.Bz.ty b
  unfold DTy at hd;refine a d ?_;rcases hd with rfl|rfl|rfl|rfl|rfl <;> decide
theorem Y8(a:zz)(B:Nat)(L:NL)(N:NM)(M:DM)(v:Value)(x:Option Int)(w:World)(h:NRep w L N M)(i:Ym B L M w)(f:ERep w v x) :
 Calls Tryz.prog 79 #[.pointer (some ⟨L.nb,0,none⟩),v] w fun e m=>∃ s,e=.returned (.int .i64 (Zy x))/\NStep L M w s (N.BX x) M m:=by
 cases x with
 | none =>
  have y:v=.nilIface:=f;subst y;have u:N.BX none=N:=by simp[NM.BX]
  refine(SH _ w).mono ?_;rintro e m ⟨rfl,rfl⟩;exact⟨L,rfl,by rw[u];exact NStep.nil h (O _ _)⟩
 | some n =>
  have g:=NStep.set h (N':=N.BX (some n)) 7 (.bool true) (by simp[NM.cells,NM.BX]) rfl rfl;have d:=g.trans (NStep.yR g.CZ (.pointer none));have c:=f.yX h d;have o:=Z (a B _ v n (i.step d).tab c);have r:=Z d;have z:=h.CY.cell;have A:=h.CY.frozen;obtain⟨k,l⟩:=f;obtain⟨t,b,rfl⟩:=l.form;clear h i g d c l;go_enter Tryz.func79,Tryz.ntmps79;go_wp2_with fail;refine o.out.mono ?_;rintro e C ⟨rfl,j⟩;have q:=Z (r.out.Bq j);clear j
  go_wp2
  go_ret;exact⟨_,rfl,q.out⟩
def NM.Bh(N:NM)(M:DM):Int × NM × DM :=
 if N.readOnly=true then(8,N,M) else(Zy (N.sync M).1,(N.sync M).2.1.BX (N.sync M).1,(N.sync M).2.2)
theorem YS(d:zz)(B:Nat)(L:NL)(N:NM)(M:DM)(w:World)(h:NRep w L N M)(m:Ym B L M w) :
 Calls Tryz.prog 32 #[.pointer (some ⟨L.nb,0,none⟩)] w fun e t=>∃ L',e=.returned (.int .i64 (N.Bh M).1)/\NStep L M w L' (N.Bh M).2.1 (N.Bh M).2.2 t:=by
 have c:w.cell? ⟨L.nb,7,none⟩=some (.bool N.readOnly):=h.CY.cell 7;have s:w.cell? ⟨L.nb,1,none⟩=some (.pointer (some ⟨L.jb,0,none⟩)):=h.CY.cell 1;have g:=Z h;have q:=Z m;clear h m;go_enter Tryz.func32,Tryz.ntmps32;cases hr:N.readOnly with
 | true =>
  rw[hr] at c;have a:N.Bh M=(8,N,M):=by unfold NM.Bh;rw[He hr]
  have b:=Z a;clear hr a;go_wp2_with fail;go_ret;exact⟨L,by rw[b.out];rfl,by rw[b.out];exact NStep.nil g.out (O _ _)⟩
 | false =>
  rw[hr] at c;have a:N.Bh M=(Zy (N.sync M).1,(N.sync M).2.1.BX (N.sync M).1,(N.sync M).2.2):=by unfold NM.Bh;rw[IV (by rw[hr];decide)]
  have hs:N.sync M=((N.J.Bn M).1,{N with J:=(N.J.Bn M).2.1},(N.J.Bn M).2.2):=rfl;rw[hs] at a;have b:=Z a;clear hr a hs;go_wp2_with fail;refine(WY L.jb L.db N.J L.LD M w g.out.log g.out.Bz).mono ?_;rintro e u ⟨x,j,rfl,k,l⟩;have i:=Z (NStep.Aa g.out l);have o:=Z k;clear k l;go_wp2_with fail;refine(Y8 d B {L with LD:=j} _ _ _ _ u i.out.CZ (q.out.step i.out) o.out).mono ?_;rintro e y ⟨r,rfl,f⟩;have p:=Z (i.out.trans f);clear f
  go_wp2
  go_ret;refine⟨r,?_,?_⟩
  .rw[b.out];rfl
  .rw[b.out];exact p.out
structure Fit(N:NM)(M:DM)(H:Nat)(x:Fact):Prop where
 ok:FOk x
 log:YG N.J M H (zh x).size
 keys:N.S.keys.length<1099511627776
 hints:N.S.hints.length<1000000
 writes:N.writes<1000000000000
theorem Fit.mono{N:NM}{M:DM}{H c:Nat}{x:Fact}(h:Fit N M H x)(e:H<=c):Fit N M c x:=⟨h.ok,h.log.mono e,h.keys,h.hints,h.writes⟩
def NM.asked(N:NM)(M:DM)(x:Fact)(f:Nat):Int × NM × DM :=
 (Zy (N.change M x f).1,(N.change M x f).2.1.BX (N.change M x f).1,(N.change M x f).2.2)
def NM.Au(N:NM)(M:DM)(f:Nat):Int × NM × DM :=
 if N.readOnly=true then(8,N,M) else if N.S.hints.length=0 then(7,N,M) else N.asked M (.inr (.inr (.inr ()))) f
theorem LQ(m:zz)(B:Nat)(L:NL)(N:NM)(M:DM)(w:World)(h:NRep w L N M)(z:Ym B L M w)(c:N.readOnly=false->Fit N M w.heap.size (.inr (.inr (.inr ())))) :
 Calls Tryz.prog 28 #[.pointer (some ⟨L.nb,0,none⟩)] w fun e K=>∃ f D,e=.returned (.int .i64 (N.Au M f).1)/\w.heap.size<=f/\NStep L M w D (N.Au M f).2.1 (N.Au M f).2.2 K:=by
 have l:w.cell? ⟨L.nb,7,none⟩=some (.bool N.readOnly):=h.CY.cell 7;have I:w.cell? ⟨L.nb,2,none⟩=some (.pointer (some ⟨L.sb,0,none⟩)):=h.CY.cell 2;have p:=Z h;have x:=Z z;have g:=Z c;clear h z c;go_enter Tryz.func28,Tryz.ntmps28;cases hr:N.readOnly with
 | true =>
  rw[hr] at l;have d:N.Au M w.heap.size=(8,N,M):=by unfold NM.Au;rw[He hr]
  have b:=Z d;clear hr d;go_wp2_with fail;go_ret;exact⟨w.heap.size,L,by rw[b.out];rfl,IQ _,by rw[b.out];exact NStep.nil p.out (O _ _)⟩
 | false =>
  have g:=Z (g.out hr);rw[hr] at l;have s:=Z (Xd L.sb L.LS N.S w p.out.held);by_cases i:N.S.hints.length=0
  .have d:N.Au M w.heap.size=(7,N,M):=by unfold NM.Au;rw[IV (by rw[hr];decide),He i]
   have b:=Z d;have j:((N.S.hints.length:Int)==0)=true:=by simp[i]
   rw[i] at s;clear hr d i j
   go_wp2_with (refine s.out.mono ?_;rintro e o ⟨rfl,u⟩;subst o)
   go_ret;exact⟨w.heap.size,L,by rw[b.out];rfl,IQ _,by rw[b.out];exact NStep.nil p.out (O _ _)⟩
  .have d:∀ f,N.Au M f=N.asked M (.inr (.inr (.inr ()))) f:=by intro f;unfold NM.Au;rw[IV (by rw[hr];decide),IV i]
   have b:=Z d;have j:((N.S.hints.length:Int)==0)=false:=by simpa using i
   clear hr d i
   go_wp2_with (refine s.out.mono ?_;rintro e o ⟨rfl,u⟩;subst o)
   refine(U9 B L N M _ (.inr (.inr (.inr ()))) _ w p.out x.out.env (show _=_ from rfl) g.out.ok (fun k G=>by obtain⟨v,J,e⟩:=G;simp at J) g.out.log g.out.keys g.out.hints g.out.writes).mono ?_;rintro e o ⟨f,Q,E,rfl,A,y,a⟩;have q:=Z a;have r:=Z y;have C:=Z A;clear y a A;go_wp2_with fail;rw[<- q.out.same.nb];refine(Y8 m B E _ _ _ _ o q.out.CZ (x.out.step q.out) r.out).mono ?_;rintro e R ⟨F,rfl,a⟩;have t:=Z (q.out.trans a);clear a
   go_wp2
   go_ret;refine⟨f,F,?_,C.out,?_⟩
   .rw[b.out];rfl
   .rw[b.out];exact t.out
theorem UK(L:NL)(N:NM)(M:DM)(w:World)(h:NRep w L N M)(b:N.S.hints.length<1000000) :
 Calls Tryz.prog 27 #[.pointer (some ⟨L.nb,0,none⟩)] w fun e d=>∃ c,e=.returned c/\d.ownsRow 0 75 2 c N.S.hints.length (zJ N.S.hints)/\Fr Nil w d/\(∀ k,c.ownBlock=some k->w.heap.size<=k):=by
 have l:w.cell? ⟨L.nb,2,none⟩=some (.pointer (some ⟨L.sb,0,none⟩)):=h.CY.cell 2;have f:=Z (Pg L.sb L.LS N.S w h.held b);clear h;go_enter Tryz.func27,Tryz.ntmps27
 go_wp2_with (refine f.out.mono ?_;rintro e m ⟨c,rfl,g,i,j⟩)
 go_ret;exact⟨c,rfl,g,i,j⟩
theorem WP(L:NL)(N:NM)(M:DM)(key:ByteArray)(w:World)(h:NRep w L N M)(d:N.S.keys.length<1099511627776)(i:(zj N.S.keys key).length<=1000000) :
 Calls Tryz.prog 24 #[.pointer (some ⟨L.nb,0,none⟩),.string key] w fun e u=>∃ j,e=.returned (.tuple #[j,.int .i64 (if zp key=true then 0 else 2)])/\VRow u j (if zp key=true then zj N.S.keys key else [])/\Fr Nil w u/\(∀ k,j.ownBlock=some k->w.heap.size<=k):=by
 have B:w.cell? ⟨L.nb,2,none⟩=some (.pointer (some ⟨L.sb,0,none⟩)):=h.CY.cell 2;have l:=Z (XN key w);have p:=Z h;clear h;go_enter Tryz.func24,Tryz.ntmps24;cases hb:zp key with
 | false =>
  rw[hb] at l;clear hb
  go_wp2_with (refine l.out.mono ?_;rintro e f ⟨rfl,o⟩;subst f)
  go_ret2;exact⟨_,rfl,Hc w 0 _ _,O _ _,fun k d=>absurd d (by simp[Value.ownBlock])⟩
 | true =>
  rw[hb] at l;have z:=Z (XJ key L.sb L.LS N.S w p.out.held d);have y:=Z (show(zj N.S.keys key).length*72<=140737488355328 by omega);clear hb i d
  go_wp2_with (refine l.out.mono ?_;rintro e f ⟨rfl,o⟩;subst f)
  refine z.out.mono ?_;rintro e f ⟨rfl,c⟩;have g:=Z c;have b:VRow f (getE L.LS.BR key) (zj N.S.keys key):=(p.out.held.nil c).getE key;have q:=Z b;clear c b;generalize getE L.LS.BR key=A at q;go_wp2_with fail;refine(Ub A _ _ f q.out (XW _) y.out).mono ?_;rintro e C ⟨j,rfl,r,s,t⟩;have m:=Z (g.out.trans s);have v:=Z r;have x:Hid (∀ k,j.ownBlock=some k->w.heap.size<=k):=fun k d=>IP g.out.size (t k d);clear r s t
  go_wp2
  go_ret2;exact⟨_,rfl,v.out,m.out,x.out⟩
def NM.hint(N:NM)(M:DM)(c:Int)(b:ByteArray)(f:Nat):Int × NM × DM :=
 if (zA c&&decide (c≠N.self))=false then(4,N,M) else
 if b.size=0\/64<b.size then(3,N,M) else
 if N.readOnly=true then(8,N,M) else
 if 32<=N.S.hints.length then(6,N,M) else
 N.asked M (.inr (.inr (.inl (c.toNat,b)))) f
theorem TE(z:zz)(B:Nat)(L:NL)(N:NM)(M:DM)(b:Int)(a:ByteArray)(w:World)(h:NRep w L N M)(he:Ym B L M w)(s:a.size<=64->zA b=true->N.readOnly=false->Fit N M w.heap.size (.inr (.inr (.inl (b.toNat,a))))) :
 Calls Tryz.prog 31 #[.pointer (some ⟨L.nb,0,none⟩),.int .i64 b,.string a] w fun e C=>∃ f y,e=.returned (.int .i64 (N.hint M b a f).1)/\w.heap.size<=f/\NStep L M w y (N.hint M b a f).2.1 (N.hint M b a f).2.2 C:=by
 have t:w.cell? ⟨L.nb,7,none⟩=some (.bool N.readOnly):=h.CY.cell 7;have V:w.cell? ⟨L.nb,2,none⟩=some (.pointer (some ⟨L.sb,0,none⟩)):=h.CY.cell 2;have r:=Z (VR L N M b w h);have q:=Z h;have Y:=Z he;have HT:=Z s;have x:=Z (YA a);clear h he s;go_enter Tryz.func31,Tryz.ntmps31;cases ho:(zA b&&decide (b≠N.self)) with
 | false =>
  rw[ho] at r;have l:N.hint M b a w.heap.size=(4,N,M):=by unfold NM.hint;rw[He ho]
  have g:=Z l;clear ho l
  go_wp2_with (refine r.out.mono ?_;rintro e d ⟨rfl,j⟩;subst d)
  go_ret;exact⟨w.heap.size,L,by rw[g.out];rfl,IQ _,by rw[g.out];exact NStep.nil q.out (O _ _)⟩
 | true =>
  rw[ho] at r;have u:Hid (zA b=true):=by simp only[Gr] at ho;exact ho.1
  by_cases c:a.size=0\/64<a.size
  .have l:N.hint M b a w.heap.size=(3,N,M):=by unfold NM.hint;rw[IV (by rw[ho];decide),He c]
   have g:=Z l;clear ho l;by_cases E:a.toList=[]
   .clear c
    go_wp2_with (refine r.out.mono ?_;rintro e d ⟨rfl,j⟩;subst d)
    go_ret;exact⟨w.heap.size,L,by rw[g.out];rfl,IQ _,by rw[g.out];exact NStep.nil q.out (O _ _)⟩
   .have h1:64<a.size:=by
     rcases c with c|c
     .rw[x.out] at c;exact absurd (Hm c) E
     .exact c
    have h2:(64:Int)<(a.size:Int):=by omega
    have h3:a.toList.isEmpty=false:=by simpa using E
    clear c
    go_wp2_with (refine r.out.mono ?_;rintro e d ⟨rfl,j⟩;subst d)
    go_ret;exact⟨w.heap.size,L,by rw[g.out];rfl,IQ _,by rw[g.out];exact NStep.nil q.out (O _ _)⟩
  .have E:¬a.toList=[]:=by
    intro h;apply c;left;rw[x.out,h];rfl
   have h1:¬64<a.size:=fun h=>c (.inr h);have h2:¬(64:Int)<(a.size:Int):=by omega
   have h3:a.toList.isEmpty=false:=by simpa using E
   cases hr:N.readOnly with
   | true =>
    rw[hr] at t;have l:N.hint M b a w.heap.size=(8,N,M):=by unfold NM.hint;rw[IV (by rw[ho];decide),IV c,He hr]
    have g:=Z l;clear ho l c hr
    go_wp2_with (refine r.out.mono ?_;rintro e d ⟨rfl,j⟩;subst d)
    go_ret;exact⟨w.heap.size,L,by rw[g.out];rfl,IQ _,by rw[g.out];exact NStep.nil q.out (O _ _)⟩
   | false =>
    rw[hr] at t;have HN:=Z (Xd L.sb L.LS N.S w q.out.held);by_cases hm:32<=N.S.hints.length
    .have l:N.hint M b a w.heap.size=(6,N,M):=by unfold NM.hint;rw[IV (by rw[ho];decide),IV c,IV (by rw[hr];decide),He hm]
     have g:=Z l;have X:(32:Int)<=(N.S.hints.length:Int):=by omega
     clear ho l c hr
     go_wp2_with (first|(refine HN.out.mono ?_;rintro e d ⟨rfl,j⟩;subst d)|(refine r.out.mono ?_;rintro e d ⟨rfl,j⟩;subst d))
     go_ret;exact⟨w.heap.size,L,by rw[g.out];rfl,IQ _,by rw[g.out];exact NStep.nil q.out (O _ _)⟩
    .have l:∀ f,N.hint M b a f=N.asked M (.inr (.inr (.inl (b.toNat,a)))) f:=by intro f;unfold NM.hint;rw[IV (by rw[ho];decide),IV c,IV (by rw[hr];decide),IV hm]
     have g:=Z l;have X:¬(32:Int)<=(N.S.hints.length:Int):=by omega
     have T:Hid ((b.toNat:Int)=b):=by
      have:=u.out;unfold zA at this;simp only[Ha] at this;exact Fq this.1
     have R:=Z (HT.out (by omega) u.out hr);have J:=Z (ZJ a w (by omega));clear ho l c hr
     go_wp2_with (first|(refine HN.out.mono ?_;rintro e d ⟨rfl,j⟩;subst d)|(refine r.out.mono ?_;rintro e d ⟨rfl,j⟩;subst d))
     refine J.out.mono ?_;rintro e d ⟨rfl,A⟩;have Q:=Z A;have HC:Hid (∀ p I,Fr Nil d I->Calls Tryz.prog 80 #[.pointer (some ⟨L.nb,0,none⟩),.string p,.iface 138 (.agg #[.int .i64 b,.string a])] I fun e C =>
      ∃ f v y,e=.returned v/\w.heap.size<=f/\ERep C v (N.change M (.inr (.inr (.inl (b.toNat,a)))) f).1/\NStep L M w y (N.change M (.inr (.inr (.inl (b.toNat,a)))) f).2.1 (N.change M (.inr (.inr (.inl (b.toNat,a)))) f).2.2 C):=by
      intro p I f2;have m:=Q.out.trans f2;have o:=R.out.mono m.size;refine(U9 B L N M p (.inr (.inr (.inl (b.toNat,a)))) _ I (q.out.nil m) (Y.out.nil m).env (show _=_ by rw[T.out]) o.ok (fun k hb=>by obtain⟨v,hv,e⟩:=hb;simp at hv;rcases hv with rfl|rfl <;> exact absurd e (by simp[Value.ownBlock])) o.log o.keys o.hints o.writes).mono ?_;rintro e C ⟨f,v,y,rfl,G,F,i⟩;exact⟨f,v,y,rfl,IP m.size G,F,(NStep.nil q.out m).trans i⟩
     clear A t V;go_wp2_with fail;refine(HC.out _ _ (by exact za)).mono ?_;rintro e w3 ⟨f,v1,L1,rfl,G,F,i⟩;have D:=Z i;have K:=Z F;have HF:=Z G;clear F i G;go_wp2_with fail;rw[<- D.out.same.nb];refine(Y8 z B L1 _ _ _ _ w3 D.out.CZ (Y.out.step D.out) K.out).mono ?_;rintro e w4 ⟨L2,rfl,i⟩;have S:=Z (D.out.trans i);clear i
     go_wp2
     go_ret;refine⟨f,L2,?_,HF.out,?_⟩
     .rw[g.out];rfl
     .rw[g.out];exact S.out
theorem UL(L:NL)(N:NM)(M:DM)(w:World)(h:NRep w L N M) :
 Calls Tryz.prog 39 #[.pointer (some ⟨L.nb,0,none⟩)] w fun e F=>e=.returned (.agg #[.bool N.readOnly,.int .i64 N.S.keys.length,.int .i64 N.S.hints.length])/\Fr Nil w F:=by
 have b:Fr Nil w (w.alloc (Obj.cells #[.bool false,.int .i64 0,.int .i64 0] 81)):=(O _ _).alloc _;have d:=Blk.new w [.bool false,.int .i64 0,.int .i64 0] 81;have j:=h.nil b;have A:=Z (fun q (f:Fr Nil w q)=>Tz L.sb L.LS N.S q (h.nil f).held);have C:=Z (fun q (f:Fr Nil w q)=>Xd L.sb L.LS N.S q (h.nil f).held);have l:=Z b;have z:=Z d;have y:=Z j;clear h b d j;go_enter Tryz.func39,Tryz.ntmps39;go_wp2_with fail;generalize c:w.alloc (Obj.cells #[.bool false,.int .i64 0,.int .i64 0] 81)=i;have d:Blk i w.heap.size [.bool false,.int .i64 0,.int .i64 0] 81:=by rw[<- c];exact z.out
 have j:NRep i L N M:=by rw[<- c];exact y.out
 have b:Fr Nil w i:=by rw[<- c];exact l.out
 have s:=Z b;have E:i.cell? ⟨L.nb,7,none⟩=some (.bool N.readOnly):=j.CY.cell 7;have D:i.cell? ⟨L.nb,2,none⟩=some (.pointer (some ⟨L.sb,0,none⟩)):=j.CY.cell 2;have u:=d.cell;have x:=d.frozen;have r:=Z d;have B:Hid (w.heap.size<=w.heap.size):=IQ _;clear c j b l z y d;refine GK 15 (by kernel_rfl) (by kernel_rfl) ?_;simp only[Gp,GZ,GH,GU]
 iterate 8 still_step
 still_call (A.out _ (s.out.trans (by exact za)))
 iterate 4 still_step
 still_call (C.out _ (s.out.trans (by exact za)))
 iterate 1 still_step
 refine FV ?_;go_wp2_with fail;have o:=((r.out.set 0 (.bool N.readOnly)).set 1 (.int .i64 N.S.keys.length)).set 2 (.int .i64 N.S.hints.length);have p:Fr Nil w (((i.setCell ⟨w.heap.size,0,none⟩ (.bool N.readOnly)).setCell ⟨w.heap.size,1,none⟩ (.int .i64 N.S.keys.length)).setCell ⟨w.heap.size,2,none⟩ (.int .i64 N.S.hints.length)) :=
  Fr.set (Fr.set (Fr.set s.out (fun h=>by simp only at h;omega) _) (fun h=>by simp only at h;omega) _) (fun h=>by simp only at h;omega) _
 have m:=Z p;have g:=o.cell;simp only[Hz,Ga] at g;clear u x p o;generalize ((i.setCell ⟨w.heap.size,0,none⟩ (.bool N.readOnly)).setCell ⟨w.heap.size,1,none⟩ (.int .i64 N.S.keys.length)).setCell ⟨w.heap.size,2,none⟩ (.int .i64 N.S.hints.length)=G at g m |-;have t:∀ k,G.drew.cell? ⟨w.heap.size,k,none⟩=[Value.bool N.readOnly,.int .i64 N.S.keys.length,.int .i64 N.S.hints.length][k]?:=g;refine EB (v:=.agg #[.bool N.readOnly,.int .i64 N.S.keys.length,.int .i64 N.S.hints.length]) (by simp[results,Tryz.results39,go_sem,t,Tryz.isAgg81,Tryz.sizeOf81]) rfl ⟨rfl,m.out.drew⟩
def NM.replace(N:NM)(M:DM)(key:ByteArray)(vs:NM->Nat->List Ver)(f g:Nat):Nat × Int × NM × DM :=
 match (N.next M f).1 with
 | some n=>(0,n,(N.next M f).2.2.1.BX (some n),(N.next M f).2.2.2)
 | none =>
  match ((N.next M f).2.2.1.change (N.next M f).2.2.2 (.inr (.inl (key,vs (N.next M f).2.2.1 (N.next M f).2.1))) g).1 with
  | some n=>(0,n,((N.next M f).2.2.1.asked (N.next M f).2.2.2 (.inr (.inl (key,vs (N.next M f).2.2.1 (N.next M f).2.1))) g).2)
  | none=>((N.next M f).2.1,0,((N.next M f).2.2.1.asked (N.next M f).2.2.2 (.inr (.inl (key,vs (N.next M f).2.2.1 (N.next M f).2.1))) g).2)
theorem Pm(N:NM):N.BX none=N:=by simp[NM.BX]
def Gives(L:NL)(N:NM)(M:DM)(w:World)(c:Nat)(a:Array Value)(vs:NM->Nat->List Ver):Prop :=
 ∀ f,w.heap.size<=f->∀ (g:NL) (b:World),NStep L M w g (N.next M f).2.2.1 (N.next M f).2.2.2 b->Calls Tryz.prog c (#[.int .i64 (N.next M f).2.1]++a) b fun e d=>∃ v,e=.returned v/\VRow d v (vs (N.next M f).2.2.1 (N.next M f).2.1)/\Fr Nil b d/\(∀ k,v.ownBlock=some k->w.heap.size<=k)
theorem LR(N:NM)(M:DM)(f:Nat):(N.next M f).2.2.1.S.keys=N.S.keys/\(N.next M f).2.2.1.S.hints=N.S.hints/\(N.next M f).2.2.1.self=N.self/\(N.next M f).2.2.1.readOnly=N.readOnly/\(N.next M f).2.2.1.every=N.every/\(N.next M f).2.2.1.writes=N.writes:=by
 have a:∀ k,(N.write M (.inl k) f).2.1.S.keys=N.S.keys/\(N.write M (.inl k) f).2.1.S.hints=N.S.hints:=by
  intro k;unfold NM.write;simp only;split <;> exact⟨rfl,rfl⟩
 have b:(N.Br M f).2.1.S.keys=N.S.keys/\(N.Br M f).2.1.S.hints=N.S.hints/\(N.Br M f).2.1.self=N.self/\(N.Br M f).2.1.readOnly=N.readOnly/\(N.Br M f).2.1.every=N.every/\(N.Br M f).2.1.writes=N.writes:=by
  unfold NM.Br;split
  .exact⟨(a _).1,(a _).2,rfl,rfl,rfl,rfl⟩
  .exact⟨(a _).1,(a _).2,rfl,rfl,rfl,rfl⟩
 unfold NM.next;split
 .exact⟨rfl,rfl,rfl,rfl,rfl,rfl⟩
 .split
  .exact b
  .exact b
def Apart2(N:NM)(M:DM)(f g:Nat):Prop:=f=g->f∉(N.next M f).2.2.2.ids
theorem Xk(N:NM)(M:DM){f g:Nat}(h:f≠g):Apart2 N M f g:=fun e=>absurd e h
theorem VS(I:zz)(B:Nat)(L:NL)(N:NM)(M:DM)(key:ByteArray)(vs:NM->Nat->List Ver)(c:Nat)(F:Array Value)(w:World)(h:NRep w L N M)(he:Ym B L M w)(y:Gives L N M w c F vs)(c0:∀ xs w,Sem.run Tryz.prog (callFunc c xs) w=.ok (.enter c xs) w)
 (a3:key.size<=1000000000)(Q:YG N.J M w.heap.size (zh (.inl (N.given+16))).size)(K:N.S.keys.length<1099511627776)(hh:N.S.hints.length<1000000)(a2:N.given<1000000000000)
 (J:∀ f,w.heap.size<=f->(N.next M f).1=none->∀ H,w.heap.size<=H->(∀ i∈(N.next M f).2.2.2.ids,i<H)->Fit (N.next M f).2.2.1 (N.next M f).2.2.2 H (.inr (.inl (key,vs (N.next M f).2.2.1 (N.next M f).2.1)))) :
 Calls Tryz.prog 70 #[.pointer (some ⟨L.nb,0,none⟩),.string key,.func (.func c) #[] F] w fun e w'=>∃ f g L',e=.returned (.tuple #[.int .i64 (N.replace M key vs f g).1,.int .i64 (N.replace M key vs f g).2.1])/\w.heap.size<=f/\w.heap.size<=g/\Apart2 N M f g/\NStep L M w L' (N.replace M key vs f g).2.2.1 (N.replace M key vs f g).2.2.2 w':=by
 have HX:=Z (Mu B L N M w h he.env Q K hh a2);have HE:=Z he;have HH:=Z h;have HG:=Z y;have X:=Z J;clear h he y Q K hh a2 J;go_enter Tryz.func70,Tryz.ntmps70;go_wp2_with fail;refine HX.out.mono ?_;rintro e w1 ⟨f,v1,L1,rfl,hf,G,a⟩;have o:=Z a;have HF:=Z hf;cases hx:(N.next M f).1 with
 | some n =>
  have hp:∀ g,N.replace M key vs f g=(0,n,(N.next M f).2.2.1.BX (some n),(N.next M f).2.2.2):=by intro g;unfold NM.replace;rw[hx]
  have x:=Z hp;rw[hx] at G;have b0:=Z G;obtain⟨k,K⟩:=G;obtain⟨t,b,rfl⟩:=K.form;generalize (N.next M f).2.2.1=d at a o x;generalize (N.next M f).2.2.2=l at a o x;generalize (N.next M f).2.1=j;clear hx hp K a hf;go_wp2_with fail;rw[<- o.out.same.nb];refine(Y8 I B L1 _ _ _ _ w1 o.out.CZ (HE.out.step o.out) b0.out).mono ?_;rintro e w2 ⟨L2,rfl,a⟩;have D:=Z (o.out.trans a);clear a
  go_wp2
  go_ret2;refine⟨f,f+1,L2,?_,HF.out,Hs HF.out,Xk N M (by omega),?_⟩
  .rw[x.out];rfl
  .rw[x.out];exact D.out
 | none =>
  rw[hx] at G;have hv:v1=.nilIface:=G;subst hv;have a5:∀ g n,((N.next M f).2.2.1.change (N.next M f).2.2.2 (.inr (.inl (key,vs (N.next M f).2.2.1 (N.next M f).2.1))) g).1=some n->N.replace M key vs f g=(0,n,((N.next M f).2.2.1.asked (N.next M f).2.2.2 (.inr (.inl (key,vs (N.next M f).2.2.1 (N.next M f).2.1))) g).2):=by intro g n h;unfold NM.replace;rw[hx];simp only;rw[h]
  have a4:∀ g,((N.next M f).2.2.1.change (N.next M f).2.2.2 (.inr (.inl (key,vs (N.next M f).2.2.1 (N.next M f).2.1))) g).1=none->N.replace M key vs f g=((N.next M f).2.1,0,((N.next M f).2.2.1.asked (N.next M f).2.2.2 (.inr (.inl (key,vs (N.next M f).2.2.1 (N.next M f).2.1))) g).2):=by intro g h;unfold NM.replace;rw[hx];simp only;rw[h]
  have C:=Z a5;have A:=Z a4;have HT:=Z (X.out f hf hx w1.heap.size a.fr.size (fun i hi=>(a.CZ.Bz.files i hi).lt));have a1:∀ g,w1.heap.size<=g->Apart2 N M f g:=fun g y e hi=>by have:=(a.CZ.Bz.files f hi).lt;omega
  have a8:=Z a1;have z:=Z (HG.out f hf);generalize (N.next M f).2.2.1=d at a o C A HT z;generalize (N.next M f).2.2.2=l at a o C A HT z;generalize (N.next M f).2.1=j at C A HT z;have a9:=Z (ZJ key w1 a3);clear G hx a hf a5 a4 a1;go_wp2_with fail;refine a9.out.mono ?_;rintro e w2 ⟨rfl,E⟩;have D:=Z (o.out.Bq E);have b5:=Z E.size;have b2:=Z (z.out L1 w2 D.out);have b7:=Z (IP o.out.fr.size E.size);clear E;go_wp2_with fail;refine b2.out.mono ?_;rintro e w3 ⟨v3,rfl,r,S,R⟩;have b3:=Z (D.out.Bq S);have a0:=Z (IP b5.out S.size);have HC:Hid (∀ u w4,Fr Nil w3 w4->Calls Tryz.prog 80 #[.pointer (some ⟨L.nb,0,none⟩),.string u,.iface 193 (.agg #[.string key,v3])] w4 fun e w' =>
   ∃ g v L',e=.returned v/\w1.heap.size<=g/\ERep w' v (d.change l (.inr (.inl (key,vs d j))) g).1/\NStep L M w L' (d.change l (.inr (.inl (key,vs d j))) g).2.1 (d.change l (.inr (.inl (key,vs d j))) g).2.2 w'):=by
   intro u w4 f4;have a6:=b3.out.Bq f4;have q:=HT.out.mono (IP a0.out f4.size);have T:VRow w4 v3 (vs d j):=VRow.fr r f4 (fun _ _=>id);rw[<- o.out.same.nb];refine(V0 B L M w L1 d l u (.inr (.inl (key,vs d j))) _ w4 a6 (HE.out.step a6).env ⟨v3,rfl,T⟩ q.ok (fun k hb=>?_) q.log q.keys q.hints q.writes).mono ?_
   .obtain⟨v,hv,e⟩:=hb
    simp at hv;rcases hv with rfl|rfl
    .exact absurd e (by simp[Value.ownBlock])
    .exact .inr (R k e)
   .rintro e w' ⟨g,v,L',rfl,y,G,a⟩
    exact⟨g,v,L',rfl,IP (IP a0.out f4.size) y,G,a⟩
  obtain⟨b8,b9,a7⟩:=zc r;rw[a7] at HC |-;clear r S R a7;go_wp2_with fail;refine(HC.out _ _ (by exact za)).mono ?_;rintro e w5 ⟨g,v5,L5,rfl,y,m,s⟩;have Y:=Z (IP o.out.fr.size y);have V:=Z (a8.out g y);have p:=Z s;cases hc:(d.change l (.inr (.inl (key,vs d j))) g).1 with
  | some n =>
   have x:=Z (C.out g n hc);rw[hc] at m;have b1:=Z m;have HA:Hid ((d.asked l (.inr (.inl (key,vs d j))) g).2=((d.change l (.inr (.inl (key,vs d j))) g).2.1.BX (some n),(d.change l (.inr (.inl (key,vs d j))) g).2.2)):=by unfold NM.asked;rw[hc];exact rfl
   obtain⟨k,K⟩:=m;obtain⟨t,b,rfl⟩:=K.form;clear hc K s y;go_wp2_with fail;rw[<- p.out.same.nb];refine(Y8 I B L5 _ _ _ _ w5 p.out.CZ (HE.out.step p.out) b1.out).mono ?_;rintro e w6 ⟨L6,rfl,a⟩;have b4:=Z (p.out.trans a);clear a
   go_wp2
   go_ret2;refine⟨f,g,L6,?_,HF.out,Y.out,V.out,?_⟩
   .rw[x.out];rfl
   .rw[x.out,HA.out];exact b4.out
  | none =>
   have x:=Z (A.out g hc);rw[hc] at m;have b6:v5=.nilIface:=m;subst b6;have ha:(d.asked l (.inr (.inl (key,vs d j))) g).2=((d.change l (.inr (.inl (key,vs d j))) g).2.1,(d.change l (.inr (.inl (key,vs d j))) g).2.2):=by
    show((d.change l (.inr (.inl (key,vs d j))) g).2.1.BX _,_)=_;rw[hc,Pm]
   have HA:=Z ha;clear hc s y m ha;go_wp2_with fail;go_ret2;refine⟨f,g,L5,?_,HF.out,Y.out,V.out,?_⟩
   .rw[x.out];rfl
   .rw[x.out,HA.out];exact p.out
end Go.Proofs.YtkhnggkkiefcdaaGreatDoor
