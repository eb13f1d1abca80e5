/- larder: joined texts -/
import Derived.Test.YtkhnggkkiefcdaaGreatDoorRAAH
import Derived.Lib.EndianBits
import Derived.RangeFuncNested
import Derived.RangeFuncBound
import Derived.RangeFuncCalls
import Derived.RangeFuncLeaves
import Derived.Shelf.Abstract
import Derived.Shelf.RegionOpen
import Derived.WalkKit
import Derived.OwnWalkIn
import Derived.TacticsInMore
import Derived.LoopNIn
import Derived.LoopIn
import Derived.Maps.AppendAt
namespace Go.Proofs.YtkhnggkkiefcdaaGreatDoor
open Go.RowKit
set_option maxRecDepth 100000
set_option maxHeartbeats 8000000
abbrev Keys:=List (ByteArray × List Ver)
def XJ(K:Keys):Prop:=Asc zb (K.map Prod.fst)
theorem ZC{a b:ByteArray}(h:zb a b=true):a≠b:=fun e=>by rw[e,Z8.irr] at h;cases h
theorem TM{K:Keys}{key:ByteArray}:∀ x∈K.take (low zb (K.map Prod.fst) key),zb x.1 key=true:=by
 intro x hx
 obtain⟨j,hj,rfl⟩:=List.getElem_of_mem hx
 rw[List.length_take] at hj
 have h1:j<(K.map Prod.fst).length:=by rw[List.length_map];omega
 have:=Uk (lt:=zb) (l:=K.map Prod.fst) (b:=key) (k:=j) h1 (by omega)
 rw[List.getElem_map] at this
 rw[List.getElem_take]
 exact this
theorem TN{K:Keys}{key:ByteArray}(h:XJ K):∀ x∈K.drop (if zX zb (K.map Prod.fst) key=true then low zb (K.map Prod.fst) key+1 else low zb (K.map Prod.fst) key),zb key x.1=true:=by
 intro x hx
 obtain⟨j,hj,rfl⟩:=List.getElem_of_mem hx
 rw[List.length_drop] at hj
 rw[List.getElem_drop]
 rcases Nat.lt_or_ge (low zb (K.map Prod.fst) key) (K.map Prod.fst).length with hl|hl
 ·have hge:=Ul hl
  have hl':low zb (K.map Prod.fst) key<K.length:=by simpa using hl
  have he:=YT (lt:=zb) (b:=key) hl' rfl
  rw[List.getElem_map] at hge
  by_cases ha:zX zb (K.map Prod.fst) key=true
  ·rw[ha] at he
   have ek:=zR.1 he.symm
   simp only[ha,if_true] at hj ⊢
   have:=Asc.fst h (i:=low zb (K.map Prod.fst) key) (j:=low zb (K.map Prod.fst) key+1+j) (by omega) (by omega)
   rw[ek] at this
   exact this
  ·have ha:zX zb (K.map Prod.fst) key=false:=by simpa using ha
   rw[ha] at he
   have ek:K[low zb (K.map Prod.fst) key].1≠key:=fun e=>by rw[zR.2 e] at he;cases he
   have h0:=Z8.tri _ _ hge ek
   simp only[ha,Bool.false_eq_true,if_false] at hj ⊢
   rcases Nat.eq_zero_or_pos j with e|e
   ·subst e;exact h0
   ·exact Z8.trans _ _ _ h0 (Asc.fst h (i:=low zb (K.map Prod.fst) key) (j:=low zb (K.map Prod.fst) key+j) (by omega) (by omega))
 ·rw[List.length_map] at hl
  exfalso
  have:=hj
  split at this <;> omega
theorem Ww{K:Keys}{key:ByteArray}(ha:zX zb (K.map Prod.fst) key=true):∃ l,K=K.take (low zb (K.map Prod.fst) key)++(key,l)::K.drop (low zb (K.map Prod.fst) key+1)∧zc K key=l:=by
 rcases Nat.lt_or_ge (low zb (K.map Prod.fst) key) K.length with hl|hl
 ·have he:=YT (lt:=zb) (b:=key) hl rfl
  rw[ha] at he
  have ek:=zR.1 he.symm
  refine⟨K[low zb (K.map Prod.fst) key].2,?_,?_⟩
  ·have e2:(key,K[low zb (K.map Prod.fst) key].2)=K[low zb (K.map Prod.fst) key]:=by rw[← Prod.eta K[low zb (K.map Prod.fst) key],ek]
   rw[e2,List.getElem_cons_drop,List.take_append_drop]
  ·unfold zc
   rw[if_pos ha,List.getD_eq_getElem?_getD,List.getElem?_eq_getElem hl]
   rfl
 ·rw[Wk (by simpa using hl)] at ha
  cases ha
def zL(K:Keys)(key:ByteArray):List Ver:=match K.find? (fun e=>e.1==key) with|some e=>e.2|none=>[]
theorem TO{K:Keys}{key:ByteArray}(h:∀ x∈K,x.1≠key):K.find? (fun e=>e.1==key)=none:=by
 rw[List.find?_eq_none]
 intro x hx
 have:=h x hx
 intro e
 exact this (zR.1 e)
theorem Rl{K:Keys}(key:ByteArray)(h:XJ K):zL K key=zc K key:=by
 have h1:∀ x∈K.take (low zb (K.map Prod.fst) key),x.1≠key:=fun x hx=>ZC (TM x hx)
 have h2:=TN (key:=key) h
 cases ha:zX zb (K.map Prod.fst) key with
 | true =>
  obtain⟨l,hK,hl⟩:=Ww ha
  rw[hl]
  unfold zL
  have:K.find? (fun e=>e.1==key)=some (key,l):=by
   rw[hK,List.find?_append,TO h1]
   simp[zR.2 rfl]
  rw[this]
 | false =>
  have hg:zc K key=[]:=by unfold zc;rw[if_neg (by rw[ha];decide)]
  rw[hg]
  rw[ha] at h2
  simp only[Bool.false_eq_true,if_false] at h2
  unfold zL
  have:K.find? (fun e=>e.1==key)=none:=by
   rw[← List.take_append_drop (low zb (K.map Prod.fst) key) K]
   refine TO fun x hx=>?_
   rcases List.mem_append.1 hx with hx|hx
   ·exact h1 x hx
   ·exact(ZC (h2 x hx)).symm
  rw[this]
def zv(key:ByteArray)(l:List Ver)(st:Keys × Bool)(e:ByteArray × List Ver):Keys × Bool :=
 (((if st.2=false∧zb e.1 key=false then st.1++[(key,l)] else st.1)++if e.1=key then [] else [e]),st.2||!zb e.1 key)
def ZQ(K:Keys)(key:ByteArray)(l:List Ver):Keys :=
 (K.foldl (zv key l) ([],l.isEmpty)).1++if (K.foldl (zv key l) ([],l.isEmpty)).2=true then [] else [(key,l)]
theorem Xe(key:ByteArray)(l:List Ver):∀ (K out:Keys),(∀ x∈K,x.1≠key)→K.foldl (zv key l) (out,true)=(out++K,true)
 | [],out,_=>by simp
 | e::K,out,h=>by
  have he:e.1≠key:=h e (List.mem_cons_self ..)
  have:zv key l (out,true) e=(out++[e],true):=by simp[zv,he]
  rw[List.foldl_cons,this,Xe key l K _ (fun x hx=>h x (List.mem_cons_of_mem _ hx))]
  simp
theorem Wx(key:ByteArray)(l:List Ver)(b:Bool):∀ (K out:Keys),(∀ x∈K,zb x.1 key=true)→K.foldl (zv key l) (out,b)=(out++K,b)
 | [],out,_=>by simp
 | e::K,out,h=>by
  have he:=h e (List.mem_cons_self ..)
  have hn:e.1≠key:=ZC he
  have:zv key l (out,b) e=(out++[e],b):=by simp[zv,he,hn]
  rw[List.foldl_cons,this,Wx key l b K _ (fun x hx=>h x (List.mem_cons_of_mem _ hx))]
  simp
theorem ON(key:ByteArray)(l:List Ver)(K out:Keys)(h:∀ x∈K,zb key x.1=true) :
  K.foldl (zv key l) (out,false)=(if K=[] then(out,false) else(out++(key,l)::K,true)):=by
 cases K with
 | nil=>rfl
 | cons e K =>
  have he:=h e (List.mem_cons_self ..)
  have hn:e.1≠key:=fun x=>ZC he x.symm
  have hl:zb e.1 key=false:=Z8.asym he
  have:zv key l (out,false) e=(out++[(key,l)]++[e],true):=by simp[zv,hl,hn]
  rw[List.foldl_cons,this,Xe key l K _ (fun x hx=>fun e'=>ZC (h x (List.mem_cons_of_mem _ hx)) e'.symm)]
  simp
theorem VZ{K:Keys}(key:ByteArray)(l:List Ver)(h:XJ K):ZQ K key l=if l=[] then Yl K key else Y7 K key l:=by
 have h1:=TM (K:=K) (key:=key)
 have h2:=TN (key:=key) h
 cases ha:zX zb (K.map Prod.fst) key with
 | true =>
  obtain⟨l0,hK,_⟩:=Ww ha
  rw[ha] at h2
  simp only[if_true] at h2
  have hd:Yl K key=K.take (low zb (K.map Prod.fst) key)++K.drop (low zb (K.map Prod.fst) key+1):=by unfold Yl;rw[if_pos ha]
  have hs:Y7 K key l=K.take (low zb (K.map Prod.fst) key)++[(key,l)]++K.drop (low zb (K.map Prod.fst) key+1):=by unfold Y7;rw[if_pos ha]
  rw[hd,hs]
  generalize K.take (low zb (K.map Prod.fst) key)=A at *
  generalize K.drop (low zb (K.map Prod.fst) key+1)=C at *
  subst hK
  unfold ZQ
  rw[List.foldl_append,Wx key l _ A [] h1,List.foldl_cons]
  have hlk:zb key key=false:=Z8.irr key
  have hC:∀ x∈C,x.1≠key:=fun x hx=>(ZC (h2 x hx)).symm
  cases l with
  | nil =>
   have:zv key [] ([]++A,List.isEmpty ([]:List Ver)) (key,l0)=(A,true):=by simp[zv,hlk]
   rw[this,Xe key _ C A hC]
   simp
  | cons v l =>
   have:zv key (v::l) ([]++A,List.isEmpty (v::l)) (key,l0)=(A++[(key,v::l)],true):=by simp[zv,hlk]
   rw[this,Xe key _ C _ hC]
   simp
 | false =>
  rw[ha] at h2
  simp only[Bool.false_eq_true,if_false] at h2
  have hd:Yl K key=K:=by unfold Yl;rw[if_neg (by rw[ha];decide)]
  have hs:Y7 K key l=K.take (low zb (K.map Prod.fst) key)++[(key,l)]++K.drop (low zb (K.map Prod.fst) key):=by unfold Y7;rw[if_neg (by rw[ha];decide)]
  have hK:K=K.take (low zb (K.map Prod.fst) key)++K.drop (low zb (K.map Prod.fst) key):=(List.take_append_drop _ _).symm
  rw[hd,hs]
  generalize K.take (low zb (K.map Prod.fst) key)=A at *
  generalize K.drop (low zb (K.map Prod.fst) key)=C at *
  subst hK
  have hC:∀ x∈C,x.1≠key:=fun x hx=>(ZC (h2 x hx)).symm
  unfold ZQ
  rw[List.foldl_append,Wx key l _ A [] h1]
  cases l with
  | nil =>
   rw[show List.isEmpty ([]:List Ver)=true from rfl,Xe key _ C _ hC]
   simp
  | cons v l =>
   rw[show List.isEmpty (v::l)=false from rfl,ON key _ C _ h2]
   cases C with
   | nil=>simp
   | cons c C=>simp
def zG(v:Ver)(st:List Ver × Bool)(u:Ver):List Ver × Bool :=
 (((if zu v.dot u.dot=true∧st.2=false then st.1++[v] else st.1)++if v.over u=true then [] else [u]),st.2||zu v.dot u.dot)
def XK(l:List Ver)(v:Ver):List Ver :=
 (l.foldl (zG v) ([],v.gone)).1++if (l.foldl (zG v) ([],v.gone)).2=true then [] else [v]
theorem U0(v:Ver):∀ (l out:List Ver),l.foldl (zG v) (out,true)=(out++zn l v,true)
 | [],out=>by simp[zn]
 | u::l,out=>by
  have:zG v (out,true) u=(out++if v.over u=true then [] else [u],true):=by simp[zG]
  rw[List.foldl_cons,this,U0 v l]
  unfold zn
  cases h:v.over u <;> simp[h]
theorem TP(v:Ver)(b:Bool):∀ (l out:List Ver),(∀ u∈l,zu v.dot u.dot=false)→l.foldl (zG v) (out,b)=(out++zn l v,b)
 | [],out,_=>by simp[zn]
 | u::l,out,h=>by
  have hu:=h u (List.mem_cons_self ..)
  have:zG v (out,b) u=(out++if v.over u=true then [] else [u],b):=by simp[zG,hu]
  rw[List.foldl_cons,this,TP v b l _ (fun x hx=>h x (List.mem_cons_of_mem _ hx))]
  unfold zn
  cases h:v.over u <;> simp[h]
theorem Rm(a b:List Ver)(v:Ver):zn (a++b) v=zn a v++zn b v:=by simp[zn]
theorem NY(A C:List Ver)(v:Ver)(h1:∀ u∈A,zu u.dot v.dot=true)(h2:∀ u∈C,zu v.dot u.dot=true):Yq (A++C) v=A++[v]++C:=by
 have hl:low zu ((A++C).map Ver.dot) v.dot=A.length:=by
  refine V8 zu v.dot _ _ (by simp) (fun k hk hki=>?_) (fun hk=>?_)
  ·rw[List.getElem_map,List.getElem_append_left hki]
   exact h1 _ (List.getElem_mem _)
  ·have hc:A.length<(A++C).length:=by simpa using hk
   have hc':0<C.length:=by simp at hc;omega
   rw[List.getElem_map,List.getElem_append_right (Nat.le_refl _)]
   exact ZJ.asym (h2 _ (List.getElem_mem _))
 unfold Yq
 rw[hl]
 simp
theorem MP{l:List Ver}(v:Ver)(h:ZU l)(hn:∀ u∈l,u.dot≠v.dot):XK l v=if v.gone=true then zn l v else Yq (zn l v) v:=by
 unfold XK
 cases hg:v.gone with
 | true=>rw[U0];simp
 | false =>
  have hl:l=l.take (low zu (l.map Ver.dot) v.dot)++l.drop (low zu (l.map Ver.dot) v.dot):=(List.take_append_drop _ _).symm
  have h1:∀ u∈l.take (low zu (l.map Ver.dot) v.dot),zu u.dot v.dot=true:=by
   intro u hu
   obtain⟨j,hj,rfl⟩:=List.getElem_of_mem hu
   rw[List.length_take] at hj
   have h1:j<(l.map Ver.dot).length:=by rw[List.length_map];omega
   have:=Uk (lt:=zu) (l:=l.map Ver.dot) (b:=v.dot) (k:=j) h1 (by omega)
   rw[List.getElem_map] at this
   rw[List.getElem_take]
   exact this
  have h2:∀ u∈l.drop (low zu (l.map Ver.dot) v.dot),zu v.dot u.dot=true:=by
   intro u hu
   obtain⟨j,hj,rfl⟩:=List.getElem_of_mem hu
   rw[List.length_drop] at hj
   rw[List.getElem_drop]
   have hlt:low zu (l.map Ver.dot) v.dot<l.length:=by omega
   have hge:=Ul (lt:=zu) (l:=l.map Ver.dot) (b:=v.dot) (by simpa using hlt)
   rw[List.getElem_map] at hge
   have h0:=ZJ.tri _ _ hge (hn _ (List.getElem_mem _))
   rcases Nat.eq_zero_or_pos j with e|e
   ·subst e;exact h0
   ·exact ZJ.trans _ _ _ h0 (h.get (i:=low zu (l.map Ver.dot) v.dot) (j:=low zu (l.map Ver.dot) v.dot+j) (by omega) (by omega))
  generalize l.take (low zu (l.map Ver.dot) v.dot)=A at *
  generalize l.drop (low zu (l.map Ver.dot) v.dot)=C at *
  subst hl
  have e1:∀ u∈A,zu v.dot u.dot=false:=fun u hu=>ZJ.asym (h1 u hu)
  have g1:∀ u∈zn A v,zu u.dot v.dot=true:=fun u hu=>h1 u ((List.mem_filter.1 hu).1)
  have g2:∀ u∈zn C v,zu v.dot u.dot=true:=fun u hu=>h2 u ((List.mem_filter.1 hu).1)
  rw[List.foldl_append,TP v false A [] e1,Rm]
  simp only[Bool.false_eq_true,if_false]
  rw[NY _ _ v g1 g2]
  cases C with
  | nil=>simp[zn]
  | cons c C =>
   have hc:=h2 c (List.mem_cons_self ..)
   have:zG v ([]++zn A v,false) c=(zn A v++[v]++(if v.over c=true then [] else [c]),true):=by simp[zG,hc]
   rw[List.foldl_cons,this,U0]
   cases ho:v.over c <;> simp[zn,ho]
structure VOk(u:Ver):Prop where
 node:zE u.node
 nat:u.Nat
 size:u.value.size≤128
 one:1≤u.seq
 gone:u.gone=false
theorem OO{n:Int}(h:isN n):(zd n.toNat).length≤9:=zH (by unfold isN at h;omega)
theorem Rn:∀ l:List Nat,(∀ x∈l,x<9223372036854775808)→((l.map zd).flatten).length≤9*l.length
 | [],_=>by simp
 | a::l,h=>by
  have:=Rn l (fun x hx=>h x (List.mem_cons_of_mem _ hx))
  have h3:=zH (h a (List.mem_cons_self ..))
  simp only[List.map_cons,List.flatten_cons,List.length_append,List.length_cons]
  omega
theorem OP(l:List Nat)(hl:∀ x∈l,x<9223372036854775808)(hn:l.length<9223372036854775808):(Yg l).length≤9+9*l.length:=by
 unfold Yg
 rw[List.length_append]
 have h1:=zH hn
 have:=Rn l hl
 omega
theorem Vi(s:ByteArray)(h:s.size<1000000000):(zZ s.data.toList).length≤9+s.size:=by
 have hs:s.data.toList.length=s.size:=by rw[Array.length_toList];rfl
 unfold zZ
 rw[List.length_append,hs]
 have:=zH (n:=s.size) (by omega)
 omega
theorem NZ{u:Ver}(h:VOk u):(ZA u).length≤200:=by
 unfold ZA
 simp only[List.length_append]
 have h1:=OO h.nat.node
 have h2:=OO h.nat.seq
 have h3:=OP [u.o0.toNat,u.o1.toNat,u.o2.toNat,u.o3.toNat] (by
  have a:=h.nat.o0;have b:=h.nat.o1;have c:=h.nat.o2;have d:=h.nat.o3
  unfold isN at a b c d
  intro x hx
  simp only[List.mem_cons,List.not_mem_nil,or_false] at hx
  rcases hx with rfl|rfl|rfl|rfl <;> omega) (by simp only[List.length_cons,List.length_nil];omega)
 have h4:=Vi u.value h.nat.size
 have:=h.size
 simp only[List.length_cons,List.length_nil] at h3
 omega
theorem TQ(l:List Ver)(h:∀ u∈l,VOk u)(hl:l.length≤5):(Zt l).length≤1009:=by
 unfold Zt
 rw[List.length_append]
 have h1:=zH (n:=l.length) (by omega)
 have h2:∀ l:List Ver,(∀ u∈l,VOk u)→((l.map ZA).flatten).length≤200*l.length:=by
  intro l
  induction l with
  | nil=>intro _;simp
  | cons a l ih =>
   intro h
   have:=ih (fun x hx=>h x (List.mem_cons_of_mem _ hx))
   have h3:=NZ (h a (List.mem_cons_self ..))
   simp only[List.map_cons,List.flatten_cons,List.length_append,List.length_cons]
   omega
 have:=h2 l h
 omega
theorem Wy(l:List UInt8)(h:l.length<9223372036854775808):(Z6 l).length≤9+l.length:=by
 unfold Z6
 rw[List.length_append]
 have:=zH h
 omega
theorem Xf(l:List UInt8):(zh l).size=l.length:=rfl
theorem TR{n:Nat}(h:n<9223372036854775808):(zg (.inl n)).size≤2000:=by
 show(zh (Wg n)).size≤2000
 rw[Xf]
 unfold Wg
 have h1:=zH (n:=1) (by decide)
 have h2:=zH h
 have h3:=Wy (zd 1++zd n) (by rw[List.length_append];omega)
 rw[List.length_append] at h3
 omega
theorem Xg{key:ByteArray}{l:List Ver}(hk:zm key=true)(h:∀ u∈l,VOk u)(hl:l.length≤5):(zg (.inr (.inl (key,l)))).size≤2000:=by
 show(zh (Wh key l)).size≤2000
 rw[Xf]
 unfold zm at hk
 simp only[decide_eq_true_eq] at hk
 unfold Wh
 have h1:=zH (n:=2) (by decide)
 have h2:=Vi key (by omega)
 have h3:=TQ l h hl
 have h4:=Wy (zd 2++(zZ key.data.toList++Zt l)) (by simp only[List.length_append];omega)
 simp only[List.length_append] at h4
 omega
theorem Wz{to:Nat}{text:ByteArray}(h:to<9223372036854775808)(hs:text.size≤64):(zg (.inr (.inr (.inl (to,text))))).size≤2000:=by
 show(zh (Xz to text)).size≤2000
 rw[Xf]
 unfold Xz
 have h1:=zH (n:=3) (by decide)
 have h2:=Vi text (by omega)
 have h3:=zH h
 have h4:=Wy (zd 3++(zd to++zZ text.data.toList)) (by simp only[List.length_append];omega)
 simp only[List.length_append] at h4
 omega
theorem TS:(zg (.inr (.inr (.inr ())))).size≤2000:=by
 show(zh Wi).size≤2000
 rw[Xf]
 unfold Wi
 have h1:=zH (n:=4) (by decide)
 have h4:=Wy (zd 4) (by omega)
 omega
theorem XX{key:ByteArray}{l:List Ver}(hk:zm key=true)(h:∀ u∈l,VOk u)(hl:l.length≤5):FOk (.inr (.inl (key,l))):=by
 unfold zm at hk
 simp only[decide_eq_true_eq] at hk
 have:=TQ l h hl
 exact⟨fun v hv=>(h v hv).nat,by show l.length<_;omega,by show key.size<_;omega,by show(Zt l).length≤_;omega⟩
structure Y3(S:SM):Prop where
 asc:XJ S.keys
 key:∀ e∈S.keys,ZU e.2∧e.2.length≤4∧∀ u∈e.2,VOk u
 hlen:S.hints.length≤32
 names:∀ e∈S.keys,zm e.1=true
theorem M4(K:Keys)(key:ByteArray):zc K key=[]∨∃ e∈K,e.1=key∧e.2=zc K key:=by
 cases ha:zX zb (K.map Prod.fst) key with
 | false=>exact .inl (by unfold zc;rw[ha];rfl)
 | true =>
  obtain⟨l,hs,hg⟩:=Ww ha
  refine .inr ⟨(key,l),?_,rfl,hg.symm⟩
  rw[hs]
  simp
theorem Y3.get{S:SM}(h:Y3 S)(key:ByteArray):ZU (zc S.keys key)∧(zc S.keys key).length≤4∧∀ u∈zc S.keys key,VOk u:=by
 rcases M4 S.keys key with e|⟨e,he,_,h2⟩
 ·rw[e]
  exact⟨List.Pairwise.nil,by simp,fun u hu=>absurd hu (by simp)⟩
 ·rw[← h2]
  exact h.key e he
theorem Ro{K:Keys}{key:ByteArray}{l:List Ver}:∀ e∈Y7 K key l,e∈K∨e=(key,l):=by
 intro e he
 simp only[Y7,List.mem_append,List.mem_singleton] at he
 rcases he with(he|rfl)|he
 ·exact .inl (List.mem_of_mem_take he)
 ·exact .inr rfl
 ·exact .inl (List.mem_of_mem_drop he)
theorem Rp{K:Keys}{key:ByteArray}:∀ e∈Yl K key,e∈K:=by
 intro e he
 unfold Yl at he
 split at he
 ·rcases List.mem_append.1 he with he|he
  ·exact List.mem_of_mem_take he
  ·exact List.mem_of_mem_drop he
 ·exact he
theorem M7{K:Keys}(key:ByteArray)(l:List Ver)(h:XJ K):XJ (Y7 K key l):=by
 unfold XJ at h ⊢
 cases ha:zX zb (K.map Prod.fst) key with
 | true =>
  obtain⟨l0,hs,_⟩:=Ww ha
  have e:(Y7 K key l).map Prod.fst=K.map Prod.fst:=by
   have e2:K.map Prod.fst=(K.take (low zb (K.map Prod.fst) key)++(key,l0)::K.drop (low zb (K.map Prod.fst) key+1)).map Prod.fst:=congrArg (List.map Prod.fst) hs
   unfold Y7
   rw[if_pos ha]
   conv=>rhs;rw[e2]
   simp
  rw[e]
  exact h
 | false =>
  have:=Asc.ins Z8 (b:=key) h (fun hl e=>by rw[Vs hl,e] at ha;rw[zR.2 rfl] at ha;cases ha)
  unfold Y7
  simp only[ha,Bool.false_eq_true,if_false]
  simpa [List.map_take,List.map_drop] using this
theorem M8{K:Keys}(key:ByteArray)(h:XJ K):XJ (Yl K key):=by
 unfold XJ at h ⊢
 unfold Yl
 split
 ·have:=Asc.del h (low zb (K.map Prod.fst) key)
  simpa [List.map_take,List.map_drop] using this
 ·exact h
theorem M9(K:Keys)(key:ByteArray)(l:List Ver):(Y7 K key l).length≤K.length+1:=by
 unfold Y7
 simp only[List.length_append,List.length_take,List.length_drop,List.length_singleton]
 split <;> omega
theorem Ma(K:Keys)(key:ByteArray):(Yl K key).length≤K.length:=by
 unfold Yl
 split
 ·simp only[List.length_append,List.length_take,List.length_drop];omega
 ·exact Nat.le_refl _
theorem Y3.holds{S:SM}(h:Y3 S)(key:ByteArray)(hk:zm key=true)(l:List Ver)(ha:ZU l)(hl:l.length≤4)(hv:∀ u∈l,VOk u):Y3 (S.holds key l):=by
 unfold SM.holds
 split
 ·exact⟨M8 key h.asc,fun e he=>h.key e (Rp e he),h.hlen,fun e he=>h.names e (Rp e he)⟩
 ·exact⟨M7 key l h.asc,fun e he=>(Ro e he).elim (h.key e) (fun e2=>by subst e2;exact⟨ha,hl,hv⟩),h.hlen,fun e he=>(Ro e he).elim (h.names e) (fun e2=>by subst e2;exact hk)⟩
theorem XY(S:SM)(key:ByteArray)(l:List Ver):(S.holds key l).keys.length≤S.keys.length+1:=by
 unfold SM.holds
 simp only
 split
 ·exact Nat.le_succ_of_le (Ma S.keys key)
 ·exact M9 S.keys key l
theorem Y3.leased{S:SM}(h:Y3 S)(n:Nat):Y3 {S with leased:=n}:=⟨h.asc,h.key,h.hlen,h.names⟩
structure Goes(T:Nat)(M:DM)(J J':JM)(M':DM)(t:Nat)(P:Nat→Prop):Prop where
 log:zz T J' M' t
 limit:J'.limit=J.limit
 calls:M.calls≤M'.calls
 refused:M'.refused=M.refused
 fulls:M'.fulls=M.fulls
 ids:∀ g∈M'.ids,P g∨g∈M.ids
theorem Goes.trans{T:Nat}{M1 M2 M3:DM}{J1 J2 J3:JM}{t u:Nat}{P Q R:Nat→Prop}(h:Goes T M1 J1 J2 M2 t P)(k:Goes T M2 J2 J3 M3 u Q)(hp:∀ g,P g→R g)(hq:∀ g,Q g→R g):Goes T M1 J1 J3 M3 u R :=
 ⟨k.log,k.limit.trans h.limit,Int.le_trans h.calls k.calls,k.refused.trans h.refused,k.fulls.trans h.fulls,fun g hg=>(k.ids g hg).elim (fun e=>.inl (hq g e)) (fun e=>(h.ids g e).imp (hp g) id)⟩
theorem Uu{T:Nat}{N:NM}{M:DM}{t:Nat}(h:zz T N.J M t)(ht:t+2≤T)(x:Fact)(hx:(zg x).size≤2000)(f:Nat)(hf:f∉M.ids) :
  ∃ J' M',N.write M x f=(none,{N with J:=J',S:=N.S.enter x},M')∧Goes T M N.J J' M' (t+2) (·=f):=by
 obtain⟨J',M',e,h1,h2,h3,h4,h5,h6⟩:=h.append ht (zg x) hx f hf
 refine⟨J',M',?_,h1,h2,h3,h4,h5,h6⟩
 unfold NM.write
 rw[e]
 simp only[if_true]
theorem TT{T:Nat}{N:NM}{M:DM}{t:Nat}(h:zz T N.J M t)(ht:t≤T) :
  ∃ J' M',N.sync M=(none,{N with J:=J'},M')∧Goes T M N.J J' M' (t+1) (fun _=>False):=by
 obtain⟨J',M',e,h1,h2,h3,h4,h5,h6⟩:=h.syncAll ht
 refine⟨J',M',?_,h1,h2,h3,h4,h5,fun g hg=>.inr (h6▸hg)⟩
 unfold NM.sync
 rw[e]
theorem Rq{T:Nat}{N:NM}{M:DM}{t:Nat}(h:zz T N.J M t)(ht:t≤T) :
  ∃ J' M' wr,N.counted M=(none,{N with J:=J',writes:=wr},M')∧wr≤N.writes+1∧Goes T M N.J J' M' (t+1) (fun _=>False):=by
 unfold NM.counted
 split
 ·have:=h.calls1 M.calls (by omega) (by have:=h.calls;omega)
  exact⟨N.J,M,N.writes+1,rfl,Nat.le_refl _,this,rfl,Int.le_refl _,rfl,rfl,fun g hg=>.inr hg⟩
 ·obtain⟨J',M',e,hg⟩:=TT (N:={N with writes:=0}) h ht
  exact⟨J',M',0,e,Nat.zero_le _,hg⟩
theorem VH{T:Nat}{N:NM}{M:DM}{t:Nat}(h:zz T N.J M t)(ht:t+2≤T)(x:Fact)(hx:(zg x).size≤2000)(f:Nat)(hf:f∉M.ids) :
  ∃ J' M' wr,N.change M x f=(none,{N with J:=J',S:=N.S.enter x,writes:=wr},M')∧wr≤N.writes+1∧Goes T M N.J J' M' (t+3) (·=f):=by
 obtain⟨J1,M1,e1,g1⟩:=Uu h (by omega) x hx f hf
 obtain⟨J2,M2,wr,e2,hw,g2⟩:=Rq (N:={N with J:=J1,S:=N.S.enter x}) g1.log (by omega)
 refine⟨J2,M2,wr,?_,hw,g1.trans g2 (fun _ e=>e) (fun _ e=>absurd e id)⟩
 unfold NM.change
 rw[e1]
 exact e2
theorem WA{T:Nat}{N:NM}{M:DM}{t:Nat}(h:zz T N.J M t)(ht:t+2≤T)(x:Fact)(hx:(zg x).size≤2000)(f:Nat)(hf:f∉M.ids) :
  ∃ J' M' wr,N.asked M x f=(0,{N with J:=J',S:=N.S.enter x,writes:=wr},M')∧wr≤N.writes+1∧Goes T M N.J J' M' (t+3) (·=f):=by
 obtain⟨J1,M1,wr,e1,hw,g1⟩:=VH h ht x hx f hf
 refine⟨J1,M1,wr,?_,hw,g1⟩
 unfold NM.asked
 rw[e1,VY]
 rfl
theorem PE{T:Nat}{N:NM}{M:DM}{t:Nat}(h:zz T N.J M t)(ht:t+2≤T)(hg:N.given<1000000000000)(f:Nat)(hf:f∉M.ids) :
  ∃ J' M',N.lease M f=(none,{N with J:=J',S:={N.S with leased:=N.given+16}},M')∧Goes T M N.J J' M' (t+3) (·=f):=by
 obtain⟨J1,M1,e1,g1⟩:=Uu h (by omega) (.inl (N.given+16)) (TR (by omega)) f hf
 obtain⟨J2,M2,e2,g2⟩:=TT (N:={N with J:=J1,S:=N.S.enter (.inl (N.given+16))}) g1.log (by omega)
 refine⟨J2,M2,?_,g1.trans g2 (fun _ e=>e) (fun _ e=>absurd e id)⟩
 unfold NM.lease
 rw[e1]
 exact e2
theorem zz.more{T:Nat}{J:JM}{M:DM}{t u:Nat}(h:zz T J M t)(hu:t≤u):zz T J M u:=by
 obtain⟨k,rfl⟩:=Nat.le.dest hu
 clear hu
 induction k with
 | zero=>exact h
 | succ k ih=>exact ih.calls1 M.calls (Int.le_refl _) (by have:=ih.calls;omega)
theorem Vj{T:Nat}{N:NM}{M:DM}{t:Nat}(h:zz T N.J M t)(ht:t+2≤T)(hg:N.given<1000000000000)(f:Nat)(hf:f∉M.ids) :
  ∃ J' M' ls,N.next M f=(none,N.given+1,{N with J:=J',S:={N.S with leased:=ls},given:=N.given+1},M')∧N.given+1≤ls∧(N.given≤N.S.leased→ls≤N.S.leased+16)∧Goes T M N.J J' M' (t+3) (·=f):=by
 unfold NM.next
 split
 ·rename_i hlt
  exact⟨N.J,M,N.S.leased,rfl,hlt,fun _=>Nat.le_add_right _ _,h.more (by omega),rfl,Int.le_refl _,rfl,rfl,fun g hg=>.inr hg⟩
 ·obtain⟨J1,M1,e1,g1⟩:=PE h ht hg f hf
  refine⟨J1,M1,N.given+16,?_,by omega,fun _=>by omega,g1⟩
  rw[e1]
theorem Vk{T:Nat}{N:NM}{M:DM}{t:Nat}(h:zz T N.J M t)(ht:t+5≤T)(hgv:N.given<1000000000000)(key:ByteArray)(vs:NM→Nat→List Ver)(l:List Ver)(f g:Nat)(hf:f∉M.ids)(hg:g∉M.ids)(ha:Apart2 N M f g)
  (hv:∀ N1:NM,N1.S.keys=N.S.keys→N1.self=N.self→vs N1 (N.given+1)=l)(hrec:(zg (.inr (.inl (key,l)))).size≤2000) :
  ∃ J' M' ls wr,N.replace M key vs f g=(N.given+1,0,{N with J:=J',S:={N.S with leased:=ls}.holds key l,given:=N.given+1,writes:=wr},M')∧wr≤N.writes+1∧N.given+1≤ls∧(N.given≤N.S.leased→ls≤N.S.leased+16)∧Goes T M N.J J' M' (t+6) (fun k=>k=f∨k=g):=by
 obtain⟨J1,M1,ls,e1,hls1,hls2,g1⟩:=Vj h (by omega) hgv f hf
 have hg1:g∉M1.ids:=fun hm=>by
  rcases g1.ids g hm with e|e
  ·subst e
   have:=ha rfl
   rw[e1] at this
   exact this hm
  ·exact hg e
 have hl:=hv {N with J:=J1,S:={N.S with leased:=ls},given:=N.given+1} rfl rfl
 obtain⟨J2,M2,wr,e2,hw,g2⟩:=VH (N:={N with J:=J1,S:={N.S with leased:=ls},given:=N.given+1}) g1.log (by omega) (.inr (.inl (key,l))) hrec g hg1
 refine⟨J2,M2,ls,wr,?_,hw,hls1,hls2,g1.trans g2 (fun _ e=>.inl e) (fun _ e=>.inr e)⟩
 unfold NM.replace NM.asked
 rw[e1]
 simp only[hl]
 rw[e2]
 simp only[VY]
 rfl
theorem WB{T:Nat}{N:NM}{M:DM}{t:Nat}(h:zz T N.J M t)(ht:t≤T)(H:Nat)(hH:∀ g∈M.ids,g<H)(x:Fact)(hx:FOk x)(hx2:(zg x).size≤2000)(hk:N.S.keys.length≤100000000)(hh:N.S.hints.length≤32)(hw:N.writes≤100000000):Fit N M H x :=
 ⟨hx,h.ok (by omega) H _ hx2 hH,by omega,by omega,by omega⟩
theorem TU{T:Nat}{N:NM}{M:DM}{t:Nat}(h:zz T N.J M t)(ht:t+5≤T)(H:Nat)(hH:∀ g∈M.ids,g<H)(key:ByteArray)(vs:NM→Nat→List Ver)(l:List Ver)(hgv:N.given<1000000000000)
  (hv:∀ N1:NM,N1.S.keys=N.S.keys→N1.self=N.self→vs N1 (N.given+1)=l)(hx:FOk (.inr (.inl (key,l))))(hrec:(zg (.inr (.inl (key,l)))).size≤2000)(hk:N.S.keys.length≤100000000)(hh:N.S.hints.length≤32)(hw:N.writes≤100000000):Xn N M H key vs where
 log:=h.ok (by omega) H _ (TR (by omega)) hH
 keys:=by omega
 hints:=by omega
 given:=by omega
 fact:=fun f hf H' _ hids=>by
  obtain⟨J1,M1,ls,e1,_,_,g1⟩:=Vj h (by omega) (by omega) f (fun hm=>by have:=hH f hm;omega)
  rw[e1] at hids ⊢
  simp only at hids ⊢
  rw[hv {N with J:=J1,S:={N.S with leased:=ls},given:=N.given+1} rfl rfl]
  exact WB (N:={N with J:=J1,S:={N.S with leased:=ls},given:=N.given+1}) g1.log (by omega) H' hids _ hx hrec hk hh hw
def Src(w:World)(b:Nat)(xs:List UInt8)(bad:Bool):Prop:=Blk w b [.string (zh xs),.bool bad] 276
theorem PF(xs:List UInt8):(zh xs).size=xs.length:=rfl
theorem WV(xs:List UInt8)(i j:Nat):(zh xs).extract i j=zh ((xs.drop i).take (j-i)):=by
 apply ByteArray.ext
 apply Array.ext'
 simp[zh]
theorem VI(b:Nat)(xs:List UInt8)(bad:Bool)(w:World)(h:Src w b xs bad) :
  Calls Tryz.prog 153 #[.pointer (some ⟨b,0,none⟩)] w fun e w'=>e=.returned (.tuple #[])∧Src w' b [] true∧Fr (fun k=>k=b) w w':=by
 have hc:=h.cell
 have hz:=h.frozen
 have hfin:Src ((w.setCell ⟨b,0,none⟩ (.string (zh []))).setCell ⟨b,1,none⟩ (.bool true)) b [] true∧Fr (fun k=>k=b) w ((w.setCell ⟨b,0,none⟩ (.string (zh []))).setCell ⟨b,1,none⟩ (.bool true)) :=
  ⟨(Blk.set h 0 _).set 1 _,Fr.set (S:=fun k=>k=b) (Fr.set (S:=fun k=>k=b) (G _ _) (fun _=>rfl) _) (fun _=>rfl) _⟩
 have HF:=Z hfin
 clear hfin h
 go_enter Tryz.func153,Tryz.ntmps153
 go_wp2
 exact bodyPost_end (v:=.tuple #[]) (by simp[results,go_sem]) rfl ⟨rfl,HF.out⟩
theorem VJ(b:Nat)(xs:List UInt8)(bad:Bool)(w:World)(h:Src w b xs bad) :
  Calls Tryz.prog 192 #[.pointer (some ⟨b,0,none⟩)] w fun e w'=>e=.returned (.int .i64 xs.length)∧Fr Nil w w':=by
 have hc:=h.cell
 clear h
 go_enter Tryz.func192,Tryz.ntmps192
 go_wp2
 go_ret
 exact⟨rfl,G _ _⟩
theorem Xh(n b:Nat)(xs:List UInt8)(bad:Bool)(w:World)(h:Src w b xs bad)(hn:n≤xs.length) :
  Calls Tryz.prog 193 #[.pointer (some ⟨b,0,none⟩),.int .i64 n] w fun e w'=>e=.returned (.string (zh (xs.take n)))∧Src w' b (xs.drop n) bad∧Fr (fun k=>k=b) w w':=by
 have hc:=h.cell
 have hz:=h.frozen
 have hs:(zh xs).size=xs.length:=rfl
 have HE:Hid ((zh xs).extract 0 n=zh (xs.take n)∧(zh xs).extract n xs.length=zh (xs.drop n)) :=
  ⟨by rw[WV];simp,by rw[WV,List.take_of_length_le (by simp)]⟩
 have HF:Hid (Src (w.setCell ⟨b,0,none⟩ (.string (zh (xs.drop n)))) b (xs.drop n) bad∧Fr (fun k=>k=b) w (w.setCell ⟨b,0,none⟩ (.string (zh (xs.drop n))))) :=
  ⟨Blk.set h 0 _,Fr.set (S:=fun k=>k=b) (G _ _) (fun _=>rfl) _⟩
 clear h
 go_enter Tryz.func193,Tryz.ntmps193
 go_wp2_with fail
 go_ret
 rw[HE.out.1,HE.out.2]
 exact⟨rfl,HF.out⟩
theorem TV(n b:Nat)(xs:List UInt8)(bad:Bool)(w:World)(h:Src w b xs bad)(hn:xs.length<n) :
  Calls Tryz.prog 193 #[.pointer (some ⟨b,0,none⟩),.int .i64 n] w fun e w'=>e=.returned (.string (zh []))∧Src w' b [] true∧Fr (fun k=>k=b) w w':=by
 have hc:=h.cell
 have hz:=h.frozen
 have hs:(zh xs).size=xs.length:=rfl
 have HH:=Z h
 clear h
 go_enter Tryz.func193,Tryz.ntmps193
 go_wp2_with (refine(VI b xs bad w HH.out).mono ?_;rintro e w1 ⟨rfl,hw1⟩)
 go_ret
 exact⟨rfl,hw1⟩
def Zw(i acc:Nat):List UInt8→Option (Nat × List UInt8)
 | []=>none
 | c::xs=>if 9≤i then none else if c.toNat<128 then some (acc+c.toNat*128^i,xs) else Zw (i+1) (acc+(c.toNat%128)*128^i) xs
theorem Uv:∀ n<128,(UInt8.ofNat n).toNat=n:=by decide
theorem PG(r:List UInt8):∀ (n i acc:Nat),0<i→0<n→n*128^i<9223372036854775808→Zw i acc (zd n++r)=some (acc+n*128^i,r):=by
 intro n
 induction n using Nat.strongRecOn with
 | ind n ih =>
  intro i acc hi hn h
  have h9:¬9≤i:=by
   intro h9
   have:128^9≤128^i:=Nat.pow_le_pow_right (by omega) h9
   have h2:1*128^i≤n*128^i:=Nat.mul_le_mul_right _ hn
   simp only[Nat.reducePow] at this
   omega
  by_cases hlt:n<128
  ·rw[Yf hlt]
   simp only[List.cons_append,List.nil_append,Zw]
   rw[if_neg h9,Uv n hlt,if_pos hlt]
  ·rw[Yy hlt]
   have hb:(UInt8.ofNat (n%128+128)).toNat=n%128+128:=by simp;omega
   simp only[List.cons_append,Zw]
   rw[if_neg h9,hb,if_neg (by omega)]
   have hpow:128^(i+1)=128^i*128:=Nat.pow_succ ..
   have hdm:n / 128*(128^i*128)+n%128*128^i=n*128^i:=by
    rw[Nat.mul_comm (128^i) 128,← Nat.mul_assoc,← Nat.add_mul,Nat.mul_comm (n / 128) 128,Nat.div_add_mod]
   rw[ih (n / 128) (by omega) (i+1) _ (by omega) (by omega) (by rw[hpow];omega),hpow]
   congr 2
   rw[show(n%128+128)%128=n%128 by omega]
   omega
theorem Rr(n:Nat)(r:List UInt8)(hn:n<9223372036854775808):Zw 0 0 (zd n++r)=some (n,r):=by
 by_cases hlt:n<128
 ·rw[Yf hlt]
  simp only[List.cons_append,List.nil_append,Zw]
  rw[if_neg (by omega),Uv n hlt,if_pos hlt]
  simp
 ·rw[Yy hlt]
  have hb:(UInt8.ofNat (n%128+128)).toNat=n%128+128:=by simp;omega
  simp only[List.cons_append,Zw]
  rw[if_neg (by omega),hb,if_neg (by omega),PG r (n / 128) 1 _ (by omega) (by omega) (by omega)]
  congr 2
  omega
theorem PH:∀(n i acc:Nat)(p:List UInt8),p<+:zd n→p≠zd n→Zw i acc p=none:=by
 intro n
 induction n using Nat.strongRecOn with
 | ind n ih =>
  intro i acc p hp hne
  rcases p with-| ⟨c,p⟩
  ·rfl
  by_cases hlt:n<128
  ·rw[Yf hlt] at hp hne
   obtain⟨t,ht⟩:=hp
   simp at ht
   exact absurd (by rw[ht.1,ht.2.1]) hne
  ·rw[Yy hlt] at hp hne
   obtain⟨t,ht⟩:=hp
   simp only[List.cons_append,List.cons.injEq] at ht
   obtain⟨rfl,ht⟩:=ht
   have hb:(UInt8.ofNat (n%128+128)).toNat=n%128+128:=by simp;omega
   simp only[Zw]
   by_cases h9:9≤i
   ·rw[if_pos h9]
   ·rw[if_neg h9,hb,if_neg (by omega)]
    exact ih (n / 128) (by omega) _ _ p ⟨t,ht⟩ (fun e=>hne (by rw[e]))
theorem P7(i acc m:Nat)(hi:i<9)(hacc:acc<128^i)(hm:m<128):bits .or .u64 (acc:Int) (IntKind.u64.wrap ((m:Int)*2^(i*7)))=((acc+m*128^i:Nat):Int)∧acc+m*128^i<128^(i+1)∧acc+m*128^i<9223372036854775808:=by
 have hway:i=0∨i=1∨i=2∨i=3∨i=4∨i=5∨i=6∨i=7∨i=8:=by omega
 rcases hway with rfl|rfl|rfl|rfl|rfl|rfl|rfl|rfl|rfl
 all_goals
  simp only[Nat.reducePow,Nat.reduceMul,Nat.reduceAdd,Int.reducePow] at hacc ⊢
  refine⟨?_,by omega,by omega⟩
  rw[wraps_u64 _ (by omega) (by omega)]
 ·exact(bits_join_low .u64 64 (by decide) wraps_u64 0 _ _ (by omega) (by omega) (by omega) (by omega) (by omega) (by omega)).trans (by omega)
 ·exact(bits_join_low .u64 64 (by decide) wraps_u64 7 _ _ (by omega) (by omega) (by omega) (by omega) (by omega) (by omega)).trans (by omega)
 ·exact(bits_join_low .u64 64 (by decide) wraps_u64 14 _ _ (by omega) (by omega) (by omega) (by omega) (by omega) (by omega)).trans (by omega)
 ·exact(bits_join_low .u64 64 (by decide) wraps_u64 21 _ _ (by omega) (by omega) (by omega) (by omega) (by omega) (by omega)).trans (by omega)
 ·exact(bits_join_low .u64 64 (by decide) wraps_u64 28 _ _ (by omega) (by omega) (by omega) (by omega) (by omega) (by omega)).trans (by omega)
 ·exact(bits_join_low .u64 64 (by decide) wraps_u64 35 _ _ (by omega) (by omega) (by omega) (by omega) (by omega) (by omega)).trans (by omega)
 ·exact(bits_join_low .u64 64 (by decide) wraps_u64 42 _ _ (by omega) (by omega) (by omega) (by omega) (by omega) (by omega)).trans (by omega)
 ·exact(bits_join_low .u64 64 (by decide) wraps_u64 49 _ _ (by omega) (by omega) (by omega) (by omega) (by omega) (by omega)).trans (by omega)
 ·exact(bits_join_low .u64 64 (by decide) wraps_u64 56 _ _ (by omega) (by omega) (by omega) (by omega) (by omega) (by omega)).trans (by omega)
theorem OQ(i acc:Nat)(c:UInt8)(hi:i<9)(hacc:acc<128^i) :
  bits .or .u64 (acc:Int) (IntKind.u64.wrap (IntKind.u64.wrap (bits .and .u8 (c.toNat:Int) 127)*2^(i*7)))=((acc+c.toNat%128*128^i:Nat):Int):=by
 have hc:c.toNat<256:=UInt8.toNat_lt c
 have e:bits .and .u8 (c.toNat:Int) 127=((c.toNat%128:Nat):Int):=(bits_mask .u8 8 (by decide) wraps_u8 7 (by decide) (c.toNat:Int) (by omega) (by omega)).trans (by omega)
 have e2:IntKind.u64.wrap ((c.toNat%128:Nat):Int)=((c.toNat%128:Nat):Int):=wraps_u64 _ (by omega) (by omega)
 rw[e,e2]
 exact(P7 i acc (c.toNat%128) hi hacc (by omega)).1
theorem PI{n:Nat}(h:n<9223372036854775808):wrap64 (n:Int)=n:=by unfold wrap64;omega
def Lj(R:Option (Nat × List UInt8))(b:Nat)(bad:Bool)(w:World)(e:Ending)(w':World):Prop :=
 match R with
 | some (n,r)=>e=.returned (.int .i64 n)∧Src w' b r bad∧Fr (fun k=>k=b) w w'
 | none=>e=.returned (.int .i64 0)∧Src w' b [] true∧Fr (fun k=>k=b) w w'
theorem XL(b:Nat)(xs:List UInt8)(bad:Bool)(w:World)(h:Src w b xs bad)(hbad:bad=true→xs=[]) :
  Calls Tryz.prog 149 #[.pointer (some ⟨b,0,none⟩)] w fun e w'=>Lj (Zw 0 0 xs) b bad w e w':=by
 generalize hR:Zw 0 0 xs=R
 have HR:=Z hR
 have HH:=Z h
 have HB:=Z hbad
 clear hR h hbad
 go_enter Tryz.func149,Tryz.ntmps149
 go_wp2_with fail
 go_loopw [3,4] (fun t3 t4 w'=>∃ (i acc:Nat) (ys:List UInt8),t3=.int .u64 acc∧t4=.int .i64 ((i*7:Nat):Int)∧i≤9∧acc<128^i∧Zw i acc ys=R∧Src w' b ys bad∧(bad=true→ys=[])∧Fr (fun k=>k=b) w w') (fun _ t4 _=>(63-intOf t4).toNat)
 case atStart=>exact⟨0,0,xs,rfl,rfl,by omega,by simp,HR.out,HH.out,HB.out,G _ _⟩
 case round =>
  obtain⟨i,acc,ys,rfl,rfl,hi,hacc,hR,hS,hB,hf⟩:=hrel
  by_cases h9:i=9
  ·subst h9
   have hRn:R=none:=by rw[← hR];cases ys <;> simp[Zw]
   have HRn:=Z hRn
   have HS:=Z hS
   clear hS hB hR hacc hRn
   go_wp2_with (refine(VI b ys bad wr HS.out).mono ?_;rintro e w1 ⟨rfl,hw1⟩)
   go_ret
   rw[HRn.out]
   exact⟨rfl,hw1.1,hf.trans hw1.2⟩
  have hi9:i<9:=by omega
  rcases ys with-| ⟨c,ys⟩
  ·have hRn:R=none:=by rw[← hR];simp[Zw]
   have HRn:=Z hRn
   have HS:=Z hS
   clear hS hB hR hacc hRn
   go_wp2_with (refine(TV 1 b [] bad wr HS.out (by simp)).mono ?_;rintro e w1 ⟨rfl,hw1,hf1⟩;have hc1:=hw1.cell;have H1:=Z (And.intro hw1 hf1);clear hw1 hf1)
   go_ret
   rw[HRn.out]
   exact⟨rfl,H1.out.1,hf.trans H1.out.2⟩
  have hbf:bad=false:=by cases bad with|false=>rfl|true=>simp at hB
  subst hbf
  have HS:=Z hS
  have HT:=Z (OQ i acc c hi9 hacc)
  have HO:=Z (P7 i acc (c.toNat%128) hi9 hacc (Nat.mod_lt _ (by omega)))
  have hsz:0<(zh [c]).size:=by show 0<1;omega
  have e0:((zh [c])[0]'hsz).toNat=c.toNat:=rfl
  by_cases hlt:c.toNat<128
  ·have hRs:R=some (acc+c.toNat%128*128^i,ys):=by rw[← hR];simp only[Zw];rw[if_neg (by omega),if_pos hlt,Nat.mod_eq_of_lt hlt]
   have HRs:=Z hRs
   clear hS hB hR hRs
   go_wp2_with (refine(Xh 1 b (c::ys) false wr HS.out (by simp)).mono ?_;rintro e w1 ⟨rfl,hw1,hf1⟩;have hc1:=hw1.cell;have H1:=Z (And.intro hw1 hf1);clear hw1 hf1)
   go_ret
   rw[HRs.out]
   have hlim:=HO.out.2.2
   exact⟨by rw[HT.out,PI hlim];rfl,H1.out.1,hf.trans H1.out.2⟩
  ·have hRs:Zw (i+1) (acc+c.toNat%128*128^i) ys=R:=by rw[← hR];simp only[Zw];rw[if_neg (by omega),if_neg hlt]
   have HRs:=Z hRs
   clear hS hB hR hRs
   go_wp2_with (refine(Xh 1 b (c::ys) false wr HS.out (by simp)).mono ?_;rintro e w1 ⟨rfl,hw1,hf1⟩;have hc1:=hw1.cell;have H1:=Z (And.intro hw1 hf1);clear hw1 hf1)
   refine⟨⟨i+1,acc+c.toNat%128*128^i,ys,by rw[HT.out],by go_num,by omega,HO.out.2.1,HRs.out,H1.out.1,by simp,hf.trans H1.out.2⟩,?_⟩
   simp[intOf]
   omega
end Go.Proofs.YtkhnggkkiefcdaaGreatDoor
namespace Go.Proofs.YtkhnggkkiefcdaaGreatDoor
open Go.RowKit Go.Shelf
set_option maxRecDepth 100000
set_option maxHeartbeats 8000000
attribute [local go_sem] Oper.semAt_some
def zI(X:Nat→Prop)(W W':World):Prop:=∀ k,X k→W'.heap[k]?=W.heap[k]?
theorem zI.refl(X:Nat→Prop)(W:World):zI X W W:=fun _ _=>rfl
theorem zI.trans{X:Nat→Prop}{A B C:World}(h:zI X A B)(k:zI X B C):zI X A C:=fun i hi=>(k i hi).trans (h i hi)
theorem zI.own{X:Nat→Prop}{W W':World}{base:Nat}{e:TypeId}{size:Nat}{v:Value}{n:Nat}{xs:List Value}(h:zI X W W')(ho:W.ownsRow base e size v n xs)(hx:∀ k,v.ownBlock=some k→X k):W'.ownsRow base e size v n xs:=by
 refine⟨ho.1,?_⟩
 rcases ho.2 with h2|⟨g,cap,cur,rfl,hb,hg,r⟩
 ·exact .inl h2
 ·exact .inr ⟨g,cap,cur,rfl,hb,by rw[h g (hx g rfl)];exact hg,r⟩
theorem zI.of_fr{X S:Nat→Prop}{W W':World}(f:Fr S W W')(h:∀ k,X k→k<W.heap.size∧¬S k):zI X W W':=fun k hk=>f.block k (h k hk).1 (h k hk).2
theorem PJ(mb:Nat)(w:World) :
  Calls Tryz.prog 182 #[.pointer (some ⟨mb,0,none⟩)] w fun e w' =>
   e=.returned (.func (.func 217) #[] #[.pointer (some ⟨w.heap.size,0,none⟩)])∧w'=w.alloc (.cells #[.pointer (some ⟨mb,0,none⟩)] 236):=by
 go_enter Tryz.func182,Tryz.ntmps182
 go_wp2
 go_ret
 exact⟨rfl,rfl⟩
theorem Mb(F:Fence)(n:Nat)(hF:F.fn 217)(hro:F.round=none)(hn:1≤n)(l Bs mb:Nat)(v:Value)(es:List (ByteArray × Value))(X:Nat→Prop)(J Jx:List (ByteArray × Value)→World→Prop)
  (W:World)(hl:es.length<4611686018427387904)
  (hJ:AbidesFrom W.heap.size J)(hX:∀ k,X k→k<W.heap.size)(hXv:∀ k,v.ownBlock=some k→X k)
  (hform:∀ e∈es,∃ a m c,e.2=.slice a m c)
  (hY:∀ pre x W1,J pre W1→pre.length<es.length→YieldAt F (n-1) Tryz.prog l #[.string x.1,x.2] W1 fun e W' =>
    (e=.returned (.bool true)∧J (pre++[x]) W'∧zI X W1 W'∧W1.heap.size≤W'.heap.size)∨(e=.returned (.bool false)∧Jx (pre++[x]) W'))
  (hBs:W.cell? ⟨Bs,0,none⟩=some (.pointer (some ⟨mb,0,none⟩)))(hmb:W.cell? ⟨mb,0,none⟩=some v)(hv:W.ownsRow 0 239 2 v es.length (zS es))(h0:J [] W) :
  CallsIn F n Tryz.prog 217 #[.func (.yield l) #[] #[],.pointer (some ⟨Bs,0,none⟩)] W fun e W'=>(∃ r,e=.returned r) ∧
   ((∃ ys,ys=es∧J ys W')∨(∃ pre,pre<+:es∧Jx pre W')):=by
 obtain⟨a0,cap,rfl⟩:=z8 hv
 refine callsIn_of_wp Tryz.func217 rfl hF ?_ hro
 simp only[Tryz.ntmps217,List.size_toArray,List.length_cons,List.length_nil,Nat.reduceAdd,Nat.reduceSub,Array.replicate_succ,Array.replicate_zero,List.push_toArray,List.append_toArray,List.nil_append,List.cons_append]
 gi_wp2
 gi_loopw [10] (fun i wr=>∃ k:Nat,k≤es.length∧i=.int .i64 k∧J (es.take k) wr∧zI X W wr∧W.heap.size≤wr.heap.size)
  (fun i _=>es.length-(intOf i).toNat)
 case atStart=>exact⟨0,Nat.zero_le _,rfl,by simpa using h0,zI.refl _ _,Nat.le_refl _⟩
 case round =>
  obtain⟨k,hk,rfl,hJs,hkx,hsz⟩:=hrel
  by_cases hlt:k<es.length
  ·have hvr:=hkx.own hv hXv
   obtain⟨g,cap',hg,_,_⟩:=zi hvr (by omega)
   obtain⟨rfl,rfl⟩:a0=some ⟨g,0,none⟩∧cap=cap':=by simpa using hg
   obtain⟨a1,m1,c1,he⟩:=hform es[k] (List.getElem_mem hlt)
   have hc0:=own_cell? hvr (k*2) _ (zU es k hlt).1
   have hc1:=own_cell? hvr (k*2+1) _ (zU es k hlt).2
   rw[he] at hc1
   have hJb:J (es.take k) (wr.alloc (.cells #[.string es[k].1,.slice a1 m1 c1] 239)):=hJ _ _ _ none hJs (World.grownBy_alloc ..) (fun r e=>by cases e)
   obtain⟨fn,tmps,assign,body,hy,hR⟩:=hY (es.take k) es[k] _ hJb (by simp;omega)
   rw[he] at hy
   have HT:Hid (es.take (k+1)=es.take k++[es[k]]):=List.take_succ_eq_append_getElem hlt
   have HKB:Hid (zI X W (wr.alloc (.cells #[.string es[k].1,.slice a1 m1 c1] 239))):=hkx.trans (fun k hk=>Below.heap_alloc _ _ _ (by have:=hX k hk;omega))
   have HJS:=Z hJs
   have HR:=Z hR
   clear hJb hJs hR he
   gi_wp2
   refine HR.out.mono ?_
   rintro e W3 (⟨rfl,hJ3,hk3,hs3⟩|⟨rfl,hJx3⟩)
   ·gi_wp2
    go_roundw
    case rel=>exact⟨k+1,by omega,by simp,by rw[HT.out];exact hJ3,HKB.out.trans hk3,by have:=hs3;simp at this;omega⟩
    case measure=>simp[intOf];omega
   ·gi_wp2
    refine bodyPost_ret (results_none rfl _ _ _) rfl ?_
    exact⟨⟨_,rfl⟩,.inr ⟨_,⟨es.drop (k+1),by rw[← HT.out,List.take_append_drop]⟩,hJx3⟩⟩
  ·obtain rfl:k=es.length:=by omega
   rw[List.take_length] at hJs
   gi_wp2
   go_end0
   exact⟨⟨_,rfl⟩,.inl ⟨_,rfl,hJs⟩⟩
def KpX(X:Nat→Prop)(W W':World):Prop:=zI X W W'∧W.heap.size≤W'.heap.size
theorem PK(F:Fence)(n:Nat)(hF:F.fn 217)(hro:F.round=none)(hn:1≤n)(Bs mb:Nat)(v:Value)(es:List (ByteArray × Value))(X:Nat→Prop)
  (w:World)(hl:es.length<4611686018427387904)(hX:∀ k,X k→k<w.heap.size)(hBl:Bs<w.heap.size)(hml:mb<w.heap.size)(hXv:∀ k,v.ownBlock=some k→X k)
  (hform:∀ e∈es,∃ a m c,e.2=.slice a m c)(hBs:w.cell? ⟨Bs,0,none⟩=some (.pointer (some ⟨mb,0,none⟩)))(hmb:w.cell? ⟨mb,0,none⟩=some v)(hv:w.ownsRow 0 239 2 v es.length (zS es)) :
  SeqStopsK F n Tryz.prog 217 #[.pointer (some ⟨Bs,0,none⟩)] (fun x:ByteArray × Value=>#[.string x.1,x.2]) (KpX X) (fun ys=>ys=es) (fun pre=>pre<+:es) es.length w:=by
 intro l J Jx W hW hJ hJx hY h0
 have hk:zI X w W:=fun k hk=>hW.block k (hX k hk)
 exact Mb F n hF hro hn l Bs mb v es X J Jx W hl hJ (fun k hk=>Nat.lt_of_lt_of_le (hX k hk) hW.size) hXv hform hY ((hW.cell (p:=⟨Bs,0,none⟩) hBl).trans hBs) ((hW.cell (p:=⟨mb,0,none⟩) hml).trans hmb) (hk.own hv hXv) h0
theorem KpX.trans{X:Nat→Prop}{A B C:World}(h:KpX X A B)(k:KpX X B C):KpX X A C:=⟨h.1.trans k.1,Nat.le_trans h.2 k.2⟩
theorem KpX.put{X:Nat→Prop}{w:World}(hX:∀ k,X k→k<w.heap.size)(W:World)(l:Nat)(o o':Obj)(h:w.heap.size≤l)(_:W.heap[l]?=some o)(_:o.isCells=false)(_:o.isWalk=false):KpX X W (W.putObj l o') :=
 ⟨fun k hk=>World.putObj_heap_other (fun e=>by have:=hX k hk;omega),by simp⟩
end Go.Proofs.YtkhnggkkiefcdaaGreatDoor
namespace Go.Proofs.YtkhnggkkiefcdaaGreatDoor
open Go.RowKit
set_option maxRecDepth 100000
set_option maxHeartbeats 8000000
structure LM where
 node:Int
 keys:Keys
 hints:List (Nat × ByteArray)
structure MAt(w:World)(p:Nat)(kv hv:Value)(ents:List (ByteArray × Value))(m:LM):Prop where
 blk:Blk w p [.int .i64 m.node,kv,hv] 107
 ent:w.ownsRow 0 186 2 kv ents.length (zS ents)
 pair:Pair (VRow w) ents m.keys
 hint:w.ownsRow 0 75 2 hv m.hints.length (zD m.hints)
def MBlk(p:Nat)(kv hv:Value)(ents:List (ByteArray × Value))(k:Nat):Prop:=k=p∨kv.ownBlock=some k∨hv.ownBlock=some k∨∃ e∈ents,e.2.ownBlock=some k
def MRep(K:Nat→Prop)(w:World)(p:Nat)(m:LM):Prop:=∃ kv hv ents,MAt w p kv hv ents m∧∀ k,MBlk p kv hv ents k→K k
theorem zI.blk{X:Nat→Prop}{W W':World}(h:zI X W W'){b:Nat}{c:List Value}{t:TypeId}(hb:Blk W b c t)(hx:X b):Blk W' b c t:=hb.of_heap (h b hx)
theorem MAt.keep{w w':World}{p:Nat}{kv hv:Value}{ents:List (ByteArray × Value)}{m:LM}{X:Nat→Prop}(h:MAt w p kv hv ents m)(hk:zI X w w')(hx:∀ k,MBlk p kv hv ents k→X k):MAt w' p kv hv ents m :=
 ⟨hk.blk h.blk (hx _ (.inl rfl)),hk.own h.ent (fun _ e=>hx _ (.inr (.inl e))),h.pair.mono (fun a ha _ hl=>hk.own hl (fun _ e=>hx _ (.inr (.inr (.inr ⟨a,ha,e⟩))))),hk.own h.hint (fun _ e=>hx _ (.inr (.inr (.inl e))))⟩
theorem MRep.keep{K X:Nat→Prop}{w w':World}{p:Nat}{m:LM}(h:MRep K w p m)(hk:zI X w w')(hx:∀ k,K k→X k):MRep K w' p m:=by
 obtain⟨kv,hv,ents,ha,hb⟩:=h
 exact⟨kv,hv,ents,ha.keep hk (fun k hk=>hx k (hb k hk)),hb⟩
theorem MRep.mono{K K':Nat→Prop}{w:World}{p:Nat}{m:LM}(h:MRep K w p m)(hk:∀ k,K k→K' k):MRep K' w p m:=by
 obtain⟨kv,hv,ents,ha,hb⟩:=h
 exact⟨kv,hv,ents,ha,fun k e=>hk k (hb k e)⟩
theorem zI.nil{X:Nat→Prop}{w w':World}(f:Fr Nil w w')(hx:∀ k,X k→k<w.heap.size):zI X w w':=zI.of_fr f (fun k hk=>⟨hx k hk,id⟩)
theorem MAt.lt{w:World}{p:Nat}{kv hv:Value}{ents:List (ByteArray × Value)}{m:LM}(h:MAt w p kv hv ents m):∀ k,MBlk p kv hv ents k→k<w.heap.size:=by
 intro k hk
 rcases hk with rfl|e|e|⟨a,ha,e⟩
 ·exact h.blk.lt
 ·exact zA h.ent e
 ·exact zA h.hint e
 ·obtain⟨l,hl⟩:=h.pair.mem a ha
  exact zA hl e
theorem MAt.nil{w w':World}{p:Nat}{kv hv:Value}{ents:List (ByteArray × Value)}{m:LM}(h:MAt w p kv hv ents m)(f:Fr Nil w w'):MAt w' p kv hv ents m:=h.keep (zI.nil f h.lt) (fun _ e=>e)
theorem U1(v u:Ver)(hu:zE u.node)(w:World) :
  Calls Tryz.prog 159 #[.agg v.cells.toArray,.agg u.cells.toArray] w fun e w'=>e=.returned (.bool (v.over u))∧Fr Nil w w':=by
 obtain⟨n,s,a0,a1,a2,a3,x,g⟩:=v
 obtain⟨node,seq,b0,b1,b2,b3,y,gone⟩:=u
 unfold zE at hu
 simp only at hu
 have hcs:node=0∨node=1∨node=2∨node=3:=by omega
 have hf:Fr Nil w ((w.alloc (.cells #[.int .i64 n,.int .i64 s,.int .i64 a0,.int .i64 a1,.int .i64 a2,.int .i64 a3,.string x,.bool g] 37)).alloc (.cells #[.int .i64 node,.int .i64 seq,.int .i64 b0,.int .i64 b1,.int .i64 b2,.int .i64 b3,.string y,.bool gone] 37)):=((G _ _).alloc _).alloc _
 simp only[Ver.cells]
 clear hu
 rcases hcs with rfl|rfl|rfl|rfl
 all_goals
  go_enter Tryz.func159,Tryz.ntmps159
  go_wp2_with fail
  go_quiet (fail)
  go_wp2
  go_ret
  refine⟨?_,(by repeat' first|(with_reducible first|apply G|assumption|apply O|apply U|apply V|apply z6)|(intro _;rfl))⟩
  simp[Ver.over,Ver.ov]
theorem Vl(a b c d:Int)(w:World) :
  Calls Tryz.prog 160 #[.agg #[.int .i64 a,.int .i64 b],.agg #[.int .i64 c,.int .i64 d]] w fun e w'=>e=.returned (.bool (zu (a,b) (c,d)))∧Fr Nil w w':=by
 have hf:Fr Nil w ((w.alloc (.cells #[.int .i64 a,.int .i64 b] 34)).alloc (.cells #[.int .i64 c,.int .i64 d] 34)):=((G _ _).alloc _).alloc _
 by_cases h1:a<c
 ·go_enter Tryz.func160,Tryz.ntmps160
  go_wp2
  go_ret
  exact⟨by simp[zu,h1],(by repeat' first|(with_reducible first|apply G|assumption|apply O|apply U|apply V|apply z6)|(intro _;rfl))⟩
 ·by_cases h2:a=c
  ·subst h2
   go_enter Tryz.func160,Tryz.ntmps160
   go_wp2
   go_ret
   exact⟨by simp[zu],(by repeat' first|(with_reducible first|apply G|assumption|apply O|apply U|apply V|apply z6)|(intro _;rfl))⟩
  ·have h3:(a==c)=false:=by simp[h2]
   go_enter Tryz.func160,Tryz.ntmps160
   go_wp2
   go_ret
   exact⟨by simp[zu,h1,h2],(by repeat' first|(with_reducible first|apply G|assumption|apply O|apply U|apply V|apply z6)|(intro _;rfl))⟩
def zT(key:ByteArray):Int:=if zm key=true then 0 else 2
theorem ZY(key:ByteArray)(w:World) :
  Calls Tryz.prog 103 #[.string key] w fun e w'=>e=.returned (.int .i64 (zT key))∧w'=w:=by
 have hs:=Y4 key
 go_enter Tryz.func103,Tryz.ntmps103
 by_cases h0:key.toList=[]
 ·have hp:zT key=2:=by
   unfold zT zm
   rw[if_neg]
   simp only[decide_eq_true_eq]
   intro h
   have:key.size=0:=by rw[hs,h0];rfl
   omega
  have HP:=Z hp
  clear hs hp
  go_wp2
  go_ret
  exact⟨by rw[HP.out];rfl,rfl⟩
 ·have h3:key.toList.isEmpty=false:=by simpa using h0
  have hpos:0<key.size:=by
   rw[hs]
   exact List.length_pos_iff.2 h0
  by_cases h1:32<key.size
  ·have hp:zT key=2:=by
    unfold zT zm
    rw[if_neg]
    simp only[decide_eq_true_eq]
    omega
   have HP:=Z hp
   have h1':(32:Int)<(key.size:Int):=by omega
   clear hs hp
   go_wp2
   go_ret
   exact⟨by rw[HP.out];rfl,rfl⟩
  ·have hp:zT key=0:=by
    unfold zT zm
    rw[if_pos]
    simp only[decide_eq_true_eq]
    omega
   have HP:=Z hp
   have h1':¬(32:Int)<(key.size:Int):=by omega
   clear hs hp
   go_wp2
   go_ret
   exact⟨by rw[HP.out];rfl,rfl⟩
def Zc(key value:ByteArray):Int:=if zm key=true then(if 128<value.size then 3 else 0) else 2
theorem YN(key value:ByteArray)(w:World) :
  Calls Tryz.prog 102 #[.string key,.string value] w fun e w'=>e=.returned (.int .i64 (Zc key value))∧w'=w:=by
 have HK:=Z (ZY key w)
 go_enter Tryz.func102,Tryz.ntmps102
 cases hk:zm key with
 | false =>
  have hb:zT key=2:=by unfold zT;rw[if_neg (by rw[hk];decide)]
  have hp:Zc key value=2:=by unfold Zc;rw[if_neg (by rw[hk];decide)]
  have HP:=Z hp
  rw[hb] at HK
  clear hk hb hp
  go_wp2_with (refine HK.out.mono ?_;rintro e w1 ⟨rfl,hw1⟩;subst w1)
  go_ret
  exact⟨by rw[HP.out];rfl,rfl⟩
 | true =>
  have hb:zT key=0:=by unfold zT;rw[if_pos hk]
  rw[hb] at HK
  by_cases hv:128<value.size
  ·have hp:Zc key value=3:=by unfold Zc;rw[if_pos hk,if_pos hv]
   have HP:=Z hp
   have hv':(128:Int)<(value.size:Int):=by omega
   clear hk hb hp
   go_wp2_with (refine HK.out.mono ?_;rintro e w1 ⟨rfl,hw1⟩;subst w1)
   go_ret
   exact⟨by rw[HP.out];rfl,rfl⟩
  ·have hp:Zc key value=0:=by unfold Zc;rw[if_pos hk,if_neg hv]
   have HP:=Z hp
   have hv':¬(128:Int)<(value.size:Int):=by omega
   clear hk hb hp
   go_wp2_with (refine HK.out.mono ?_;rintro e w1 ⟨rfl,hw1⟩;subst w1)
   go_ret
   exact⟨by rw[HP.out];rfl,rfl⟩
def zP(node to:Int)(text:ByteArray):Int:=if (zt to&&decide (to≠node))=false then 4 else if text.size=0∨64<text.size then 3 else 0
theorem Xo(p:Nat)(node:Int)(kv hv:Value)(to:Int)(text:ByteArray)(w:World)(h:Blk w p [.int .i64 node,kv,hv] 107) :
  Calls Tryz.prog 113 #[.pointer (some ⟨p,0,none⟩),.int .i64 to,.string text] w fun e w'=>e=.returned (.int .i64 (zP node to text))∧w'=w:=by
 have hs:=Y4 text
 have hc:w.cell? ⟨p,0,none⟩=some (.int .i64 node):=h.cell 0
 clear h
 go_enter Tryz.func113,Tryz.ntmps113
 by_cases h0:to<0
 ·have hp:zP node to text=4:=by unfold zP zt;rw[if_pos (by simp;omega)]
  have HP:=Z hp
  clear hs hp
  go_wp2
  go_ret
  exact⟨by rw[HP.out];rfl,rfl⟩
 by_cases h4:4≤to
 ·have hp:zP node to text=4:=by unfold zP zt;rw[if_pos (by simp;omega)]
  have HP:=Z hp
  clear hs hp
  go_wp2
  go_ret
  exact⟨by rw[HP.out];rfl,rfl⟩
 by_cases hn:to=node
 ·have hp:zP node to text=4:=by unfold zP;rw[if_pos (by simp[hn])]
  have HP:=Z hp
  have hn':(to==node)=true:=by simp[hn]
  clear hs hp hn
  go_wp2
  go_ret
  exact⟨by rw[HP.out];rfl,rfl⟩
 have hn':(to==node)=false:=by simp[hn]
 have hgo:∀ x,(if text.size=0∨64<text.size then(3:Int) else 0)=x→zP node to text=x:=by
  intro x hx;unfold zP zt;rw[if_neg (by simp[hn];omega)];exact hx
 by_cases h5:text.toList=[]
 ·have hp:=hgo 3 (by rw[if_pos (.inl (by rw[hs,h5];rfl))])
  have HP:=Z hp
  clear hs hp hgo hn
  go_wp2
  go_ret
  exact⟨by rw[HP.out];rfl,rfl⟩
 have h6:text.toList.isEmpty=false:=by simpa using h5
 have hpos:0<text.size:=by rw[hs];exact List.length_pos_iff.2 h5
 by_cases h7:64<text.size
 ·have hp:=hgo 3 (by rw[if_pos (.inr h7)])
  have HP:=Z hp
  have h7':(64:Int)<(text.size:Int):=by omega
  clear hs hp hgo hn
  go_wp2
  go_ret
  exact⟨by rw[HP.out];rfl,rfl⟩
 ·have hp:=hgo 0 (by rw[if_neg (by omega)])
  have HP:=Z hp
  have h7':¬(64:Int)<(text.size:Int):=by omega
  clear hs hp hgo hn
  go_wp2
  go_ret
  exact⟨by rw[HP.out];rfl,rfl⟩
end Go.Proofs.YtkhnggkkiefcdaaGreatDoor
namespace Go.Proofs.YtkhnggkkiefcdaaGreatDoor
open Go.RowKit Go.Shelf
set_option maxRecDepth 100000
set_option maxHeartbeats 8000000
attribute [local go_sem] Oper.semAt_some
theorem PL(mb:Nat)(a:Option Addr)(n c:Nat)(w:World)(hc:w.cell? ⟨mb,0,none⟩=some (.slice a n c)) :
  Calls Tryz.prog 134 #[.pointer (some ⟨mb,0,none⟩)] w fun e w'=>e=.returned (.int .i64 n)∧w'=w:=by
 go_enter Tryz.func134,Tryz.ntmps134
 go_wp2
 go_ret
 exact⟨rfl,rfl⟩
theorem Rs{w:World}{base:Nat}{e:TypeId}{size n:Nat}{v:Value}{xs:List Value}(h:w.ownsRow base e size v n xs):w.ownsRow 0 e size v n xs:=by
 refine⟨h.1,?_⟩
 rcases h.2 with h2|⟨g,cap,cur,hv,hb,r⟩
 ·exact .inl h2
 ·exact .inr ⟨g,cap,cur,hv,Nat.zero_le _,r⟩
theorem Qv(mb:Nat)(v:Value)(es:List (ByteArray × Value))(w:World)(hmb:w.cell? ⟨mb,0,none⟩=some v)(hml:mb<w.heap.size)(hv:Xm w v es)(hform:∀ e∈es,∃ a m c,e.2=.slice a m c)(hlen:es.length<1000000000) :
  Calls Tryz.prog 143 #[.pointer (some ⟨mb,0,none⟩)] w fun e w'=>∃ v',e=.returned v'∧w'.ownsRow 0 9 1 v' es.length (strs (zp es))∧Fr Nil w w'∧(∀ k,v'.ownBlock=some k→w.heap.size≤k):=by
 obtain⟨a0,c0,hvf⟩:=z8 hv.own
 have HL:=Z (PL mb a0 es.length c0 w (by rw[hmb,hvf]))
 refine(callsIn_wide (n:=8)).1 ?_
 refine callsIn_of_wp_marks Tryz.func143 rfl trivial ?_ rfl
 simp only[Tryz.ntmps143,List.size_toArray,List.length_cons,List.length_nil,Nat.reduceAdd,Nat.reduceSub,Array.replicate_succ,Array.replicate_zero,List.push_toArray,List.append_toArray,List.nil_append,List.cons_append]
 obtain⟨ti,tz,ht1,ht2,ht3,ht4,ht5⟩:=Zk Wv
 have HV:=Z hv
 have HMB:=Z hmb
 clear hv hmb
 gi_wp2_with (first
  | (refine⟨trivial,?_⟩;gi_at_call 134;refine(callsIn_wide.2 HL.out).mono ?_;rintro e w1 ⟨rfl,hw1⟩;subst w1)
  | (gi_at_make;refine wpListIn_make_own _ rfl _ _ 91 rfl w.heap.size 9 ti tz 1 Tryz.underlying91 ht1 ht2 ht3 .i64 .i64 es.length es.length rfl rfl rfl (by rw[ht4];omega) (by unfold maxLen;omega) (Nat.le_refl _) ?_;intro w2 hown2 hgrow2))
 refine⟨trivial,?_⟩
 refine(callsIn_wide.2 (PJ mb _)).mono ?_
 rintro e w3 ⟨rfl,rfl⟩
 have hsz2:=hgrow2.size
 have bO:=Boxed.new w2 91 (.slice (some ⟨w.heap.size,0,none⟩) 0 es.length)
 have bM:=Boxed.new (w2.alloc (.cells #[.slice (some ⟨w.heap.size,0,none⟩) 0 es.length] 91)) 236 (.pointer (some ⟨mb,0,none⟩))
 rw[World.size_alloc] at bM
 have hB0:Below w.heap.size w ((w2.alloc (.cells #[.slice (some ⟨w.heap.size,0,none⟩) 0 es.length] 91)).alloc (.cells #[.pointer (some ⟨mb,0,none⟩)] 236)) :=
  ((Below.grown (Below.refl _ w) hgrow2 (Nat.le_refl _) (fun k e=>by cases e)).alloc hsz2 _).alloc (by simp;omega) _
 have hrow0:=(hown2.alloc (.cells #[.slice (some ⟨w.heap.size,0,none⟩) 0 es.length] 91)).alloc (.cells #[.pointer (some ⟨mb,0,none⟩)] 236)
 generalize hW0:(w2.alloc (.cells #[.slice (some ⟨w.heap.size,0,none⟩) 0 es.length] 91)).alloc (.cells #[.pointer (some ⟨mb,0,none⟩)] 236)=W0 at hB0 hrow0 bM
 have hs0:W0.heap.size=w2.heap.size+2:=by rw[← hW0];simp
 have bO0:Boxed W0 w2.heap.size 91 (.slice (some ⟨w.heap.size,0,none⟩) 0 es.length):=by rw[← hW0];exact bO.alloc _
 clear hW0 bO hgrow2 hown2
 gi_wp2_with fail
 refine wpIn_rangeFunc_ownF rfl (by decide) (gf:=217) (lb:=#[.pointer (some ⟨w2.heap.size+1,0,none⟩)]) rfl trivial (enters_of Tryz.func217 (by kernel_rfl) rfl)
  (PK Fence.wide 7 trivial rfl (by decide) (w2.heap.size+1) mb v es (fun k=>k<w.heap.size∨k=w2.heap.size+1) W0 (by omega) (fun k hk=>by omega) (by omega) (by omega) (fun k hk=>.inl (zA HV.out.own hk)) hform bM.cell ((hB0.cell (p:=⟨mb,0,none⟩) hml).trans HMB.out) (z7 HV.out.own (Fr.of_below (S:=Nil) hB0) (fun _ _=>id)))
  KpX.trans (KpX.put (fun k hk=>by omega)) (Below.refl _ _) (fun _=>rfl)
  (fun pre W=>(∃ v',Boxed W w2.heap.size 91 v'∧W.ownsRow w.heap.size 9 1 v' pre.length (strs (pre.map Prod.fst))∧True)∧Below w.heap.size w W∧W0.heap.size≤W.heap.size∧Boxed W (w2.heap.size+1) 236 (.pointer (some ⟨mb,0,none⟩)))
  (fun _ _ _=>False)
  (OwnFrom.and (Own.from (holdsRow_own w.heap.size w2.heap.size 91 9 1 (fun pre:List (ByteArray × Value)=>pre.length) (fun pre=>strs (pre.map Prod.fst)) (fun _ _=>True)) _) (OwnFrom.and (ownFrom_below (by omega) (by omega)) (OwnFrom.and (fun _ A B row hs hg _=>Nat.le_trans hs hg.size) (Own.from (boxed_own _ _ _) _))))
  (fun _ _ _ _ _ hs _ _=>hs)
  ⟨⟨_,bO0,hrow0,trivial⟩,hB0,Nat.le_refl _,bM⟩
  (fun x=>{tmps:=#[.pointer (some ⟨mb,0,none⟩),undef,.slice none 0 0,.pointer (some ⟨w2.heap.size,0,none⟩),.string x.1,.pointer (some ⟨mb,0,none⟩),.int .i64 es.length,.slice (some ⟨w.heap.size,0,none⟩) 0 es.length,.pointer (some ⟨mb,0,none⟩),.func (.func 217) #[] #[.pointer (some ⟨w2.heap.size+1,0,none⟩)],.string x.1,x.2,undef,undef,undef,undef,undef],defers:=[]}) ?assign ?body ?done ?stop
 case assign =>
  intro l x W K hK
  gi_wp2
  exact hK
 case body =>
  rintro l pre x W ⟨⟨v',bv,hrow,_⟩,hB,hsW,hbx⟩ hlen
  have hc:=bv.cell
  have hf:=bv.frozen
  have hlen2:pre.length<1000000000:=by omega
  gi_wp2_with (gi_at_builtin;go_must (refine wpListIn_append_own _ rfl _ _ 91 rfl w.heap.size 9 ti tz 1 16 Tryz.underlying91 ht1 ht2 ht3 ht4 ht5 (by decide) _ _ _ rfl (hrow.alloc _) ⟨W.heap.size,0,none⟩ 1 1 [.string x.1] rfl rfl (cell_one_new _ _ _) (by simp[Value.oneCell']) (by unfold maxLen;omega) (by omega) (by have:=hB.size;simp;omega) ?_;intro v1 w1 hown' hgrow _;obtain⟨g',cap',rfl⟩:=ownsRow_succ hown';obtain⟨hv1,hv2,hr2,hk2,hb2⟩:=bv.appended (by decide) hrow hB.size (by omega) hown' hgrow;have hx2:=hgrow.block (w2.heap.size+1) (by simp;omega) (hbx.not_row (by decide) hrow);have hc1:=hv1.cell;have hf1:=hv1.frozen))
  have hbx2:Boxed (w1.setCell ⟨w2.heap.size,0,none⟩ (.slice (some ⟨g',0,none⟩) (pre.length+1) cap')) (w2.heap.size+1) 236 (.pointer (some ⟨mb,0,none⟩)):=Boxed.other (show Boxed w1 _ _ _ from hx2.trans ((hbx.alloc _))) (by omega) _
  refine⟨hk2,⟨fun k hk=>?_,hb2.size⟩,⟨_,hv2,by simpa [strs] using hr2,trivial⟩,hB.trans hb2,Nat.le_trans hsW hb2.size,hbx2⟩
  rcases hk with hk|hk
  ·exact hb2.block k hk
  ·subst hk
   exact Eq.trans (show _=_ from hbx2) (Eq.symm (show _=_ from hbx))
 case done =>
  rintro D ys W hD rfl ⟨⟨v',bv,hrow,_⟩,hB,hsW,hbx⟩ hK
  have hc:=bv.cell
  gi_wp2_with fail
  refine⟨by simp,.inl ⟨_,_,rfl,run_takeDeferred hK,?_⟩⟩
  have hBE:Below w.heap.size w (W.putObj D (.deferred none)):=hB.trans (belowK_b (w:=w) (Nat.le_refl _) W D _ _ (by omega) hK rfl rfl)
  have hrowE:=ownsRow_putObj hrow (.deferred none) hK rfl
  refine⟨_,results_tmp rfl _ _ _,_,rfl,Rs (base:=w.heap.size) ?_,Fr.of_below hBE,?_⟩
  ·exact hrowE
  ·exact(fun k hk=>(hrow.lt k hk).1:∀ k,v'.ownBlock=some k→w.heap.size≤k)
 case stop =>
  rintro D c pre W _ _ h _
  exact h.elim
theorem Qw(b:Nat)(L:SL)(S:SM)(w:World)(h:SRep w b L S)(hlen:S.keys.length<1000000000) :
  Calls Tryz.prog 92 #[.pointer (some ⟨b,0,none⟩)] w fun e w'=>∃ v',e=.returned v'∧w'.ownsRow 0 9 1 v' S.keys.length (strs (S.keys.map Prod.fst))∧Fr Nil w w'∧(∀ k,v'.ownBlock=some k→w.heap.size≤k):=by
 have hle:L.ents.length=S.keys.length:=h.pair.length
 have HK:=Z (Qv b L.kv L.ents w (h.blk.cell 0) h.blk.lt h.ent (fun e he=>by obtain⟨l,hl⟩:=h.pair.mem e he;obtain⟨a,c,hf⟩:=z8 hl;exact⟨a,_,c,hf⟩) (by omega))
 have HE:=Z h.pair.keys
 have HL:=Z hle
 clear h hle
 go_enter Tryz.func92,Tryz.ntmps92
 go_wp2_with (refine HK.out.mono ?_;rintro e w1 ⟨v',rfl,h1,h2,h3⟩)
 go_ret
 exact⟨v',rfl,by rw[← HL.out,← HE.out];exact h1,h2,h3⟩
theorem Uw(L:NL)(N:NM)(M:DM)(w:World)(h:NRep w L N M)(hlen:N.S.keys.length<1000000000) :
  Calls Tryz.prog 44 #[.pointer (some ⟨L.nb,0,none⟩)] w fun e w'=>∃ v',e=.returned v'∧w'.ownsRow 0 9 1 v' N.S.keys.length (strs (N.S.keys.map Prod.fst))∧Fr Nil w w'∧(∀ k,v'.ownBlock=some k→w.heap.size≤k):=by
 have hc2:w.cell? ⟨L.nb,2,none⟩=some (.pointer (some ⟨L.sb,0,none⟩)):=h.blk.cell 2
 have HK:=Z (Qw L.sb L.LS N.S w h.held hlen)
 clear h
 go_enter Tryz.func44,Tryz.ntmps44
 go_wp2_with (refine HK.out.mono ?_;rintro e w1 ⟨v',rfl,h1,h2,h3⟩)
 go_ret
 exact⟨v',rfl,h1,h2,h3⟩
end Go.Proofs.YtkhnggkkiefcdaaGreatDoor
