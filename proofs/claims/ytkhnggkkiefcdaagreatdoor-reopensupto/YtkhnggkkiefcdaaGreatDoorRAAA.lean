/- larder: joined texts -/
import Derived.WalkKit
import Derived.WalkSpells
import Derived.WalkLawsBesides
import Derived.Deep.QuietTactic
import Derived.BigQuiet
import Derived.Deep.AppendLies
import Derived.Deep.RegionHeld3
import Derived.Deep.DrawnRows
import Derived.Maps.AppendAt
import Derived.Laws.CopyRow
import Derived.Lib.AppendZerosOnto
import Derived.Lib.Overlaps
import Derived.Laws.Externs
import Derived.Deep.RegionLaw
import Derived.Test.YtkhnggkkiefcdaaGreatDoorChecked
import Derived.Shelf.Abstract
namespace Go.Proofs.YtkhnggkkiefcdaaGreatDoor
open Go.RowKit
set_option maxRecDepth 100000
set_option maxHeartbeats 8000000
theorem Z{p:Prop}(h:p):Hid p:=h
def Blk(w:World)(b:Nat)(c:List Value)(t:TypeId):Prop:=w.heap[b]?=some (.cells c.toArray t (0,0))
theorem Blk.lt{w:World}{b:Nat}{c:List Value}{t:TypeId}(h:Blk w b c t):b<w.heap.size:=by
 rcases Nat.lt_or_ge b w.heap.size with h'|h'
 ·exact h'
 ·rw[Blk,Array.getElem?_eq_none h'] at h;cases h
theorem Blk.cell{w:World}{b:Nat}{c:List Value}{t:TypeId}(h:Blk w b c t)(k:Nat):w.cell? ⟨b,k,none⟩=c[k]?:=by
 rw[Blk] at h
 simp[World.cell?,h]
theorem Blk.frozen{w:World}{b:Nat}{c:List Value}{t:TypeId}(h:Blk w b c t)(k:Nat):w.frozen? ⟨b,k,none⟩=false:=by
 rw[Blk] at h
 simp[World.frozen?,h]
theorem Blk.of_heap{w w':World}{b:Nat}{c:List Value}{t:TypeId}(h:Blk w b c t)(e:w'.heap[b]?=w.heap[b]?):Blk w' b c t:=by
 rw[Blk,e];exact h
theorem Blk.drewN{w:World}{b:Nat}{c:List Value}{t:TypeId}(h:Blk w b c t)(n:Nat):Blk (w.drewN n) b c t:=h
theorem Blk.drew{w:World}{b:Nat}{c:List Value}{t:TypeId}(h:Blk w b c t):Blk w.drew b c t:=h
theorem Blk.set{w:World}{b:Nat}{c:List Value}{t:TypeId}(h:Blk w b c t)(k:Nat)(v:Value) :
  Blk (w.setCell ⟨b,k,none⟩ v) b (c.set k v) t:=by
 rw[Blk] at h ⊢
 simp[World.setCell,Array.getElem?_modify,h]
theorem Blk.far{w:World}{b:Nat}{c:List Value}{t:TypeId}(h:Blk w b c t){b':Nat}(hne:b≠b')(k:Nat)(v:Value) :
  Blk (w.setCell ⟨b',k,none⟩ v) b c t :=
 h.of_heap (Below.heap_setCell _ _ _ _ hne)
theorem Blk.alloc{w:World}{b:Nat}{c:List Value}{t:TypeId}(h:Blk w b c t)(o:Obj):Blk (w.alloc o) b c t :=
 h.of_heap (Below.heap_alloc _ _ _ h.lt)
theorem Blk.new(w:World)(c:List Value)(t:TypeId):Blk (w.alloc (.cells c.toArray t)) w.heap.size c t :=
 heap_alloc_new w _
theorem Blk.inj{w:World}{b:Nat}{c c':List Value}{t t':TypeId}(h:Blk w b c t)(h':Blk w b c' t'):c=c'∧t=t':=by
 rw[Blk] at h h'
 rw[h] at h'
 simpa using h'
theorem Blk.ne{w:World}{b b':Nat}{c c':List Value}{t t':TypeId}(h:Blk w b c t)(h':Blk w b' c' t')(ht:t≠t'):b≠b' :=
 fun e=>ht (by subst e;exact(h.inj h').2)
structure Fr(S:Nat→Prop)(w w':World):Prop where
 os:w'.os=w.os
 tape:w'.tape=w.tape
 output:w'.output=w.output
 size:w.heap.size≤w'.heap.size
 block:∀ k,k<w.heap.size→¬S k→w'.heap[k]?=w.heap[k]?
abbrev Nil:Nat→Prop:=fun _=>False
theorem Fr.refl(S:Nat→Prop)(w:World):Fr S w w:=⟨rfl,rfl,rfl,Nat.le_refl _,fun _ _ _=>rfl⟩
theorem Fr.trans{S:Nat→Prop}{a b c:World}(h:Fr S a b)(k:Fr S b c):Fr S a c :=
 ⟨k.os.trans h.os,k.tape.trans h.tape,k.output.trans h.output,Nat.le_trans h.size k.size,
  fun i hi hs=>(k.block i (Nat.lt_of_lt_of_le hi h.size) hs).trans (h.block i hi hs)⟩
theorem Fr.trans'{S S':Nat→Prop}{a b c:World}(h:Fr S a b)(k:Fr S' b c)(hs:∀ i,i<a.heap.size→S' i→S i):Fr S a c :=
 ⟨k.os.trans h.os,k.tape.trans h.tape,k.output.trans h.output,Nat.le_trans h.size k.size,
  fun i hi hn=>(k.block i (Nat.lt_of_lt_of_le hi h.size) (fun h'=>hn (hs i hi h'))).trans (h.block i hi hn)⟩
theorem Fr.mono{S S':Nat→Prop}{a b:World}(h:Fr S a b)(hs:∀ i,i<a.heap.size→S i→S' i):Fr S' a b :=
 ⟨h.os,h.tape,h.output,h.size,fun i hi hn=>h.block i hi (fun h'=>hn (hs i hi h'))⟩
theorem Fr.drewN{S:Nat→Prop}{a w:World}(h:Fr S a w)(n:Nat):Fr S a (w.drewN n):=⟨h.os,h.tape,h.output,h.size,h.block⟩
theorem Fr.drew{S:Nat→Prop}{a w:World}(h:Fr S a w):Fr S a w.drew:=⟨h.os,h.tape,h.output,h.size,h.block⟩
theorem Fr.alloc{S:Nat→Prop}{a w:World}(h:Fr S a w)(o:Obj):Fr S a (w.alloc o) :=
 ⟨h.os,h.tape,h.output,Nat.le_trans h.size (by simp),fun k hk hn=>by
  rw[Below.heap_alloc _ _ _ (Nat.lt_of_lt_of_le hk h.size)];exact h.block k hk hn⟩
theorem Fr.set{S:Nat→Prop}{a w:World}(h:Fr S a w){p:Addr}(hp:p.block<a.heap.size→S p.block)(v:Value):Fr S a (w.setCell p v) :=
 ⟨h.os,h.tape,h.output,by simpa [World.setCell] using h.size,fun k hk hn=>by
  rw[Below.heap_setCell _ _ _ _ (fun e=>hn (by subst e;exact hp hk))];exact h.block k hk hn⟩
abbrev G:=@Fr.refl
abbrev O:=@Fr.drewN
abbrev U:=@Fr.drew
abbrev V:=@Fr.alloc
abbrev z6:=@Fr.set
theorem Fr.grown{S:Nat→Prop}{a w w':World}{row:Option Nat}(h:Fr S a w)(hg:w.grownBy w' row)
  (hr:∀ k,row=some k→k<a.heap.size→S k):Fr S a w' :=
 ⟨hg.os.trans h.os,hg.tape.trans h.tape,hg.output.trans h.output,Nat.le_trans h.size hg.size,fun k hk hn =>
  (hg.block k (Nat.lt_of_lt_of_le hk h.size) (fun e=>hn (hr k e.symm hk))).trans (h.block k hk hn)⟩
theorem Fr.of_grown{w w':World}{row:Option Nat}(hg:w.grownBy w' row):Fr (fun k=>row=some k) w w' :=
 (Fr.refl _ w).grown hg (fun _ h _=>h)
theorem Fr.below{w w':World}(h:Fr Nil w w'):Below w.heap.size w w' :=
 ⟨h.os,h.tape,h.output,h.size,fun k hk=>h.block k hk id⟩
theorem Fr.of_below{S:Nat→Prop}{w w':World}(h:Below w.heap.size w w'):Fr S w w' :=
 ⟨h.os,h.tape,h.output,h.size,fun k hk _=>h.block k hk⟩
theorem Fr.cell{S:Nat→Prop}{w w':World}(h:Fr S w w'){p:Addr}(hp:p.block<w.heap.size)(hn:¬S p.block):w'.cell? p=w.cell? p :=
 World.cell?_of_block (w:=w) (h.block p.block hp hn)
theorem Blk.fr{S:Nat→Prop}{w w':World}{b:Nat}{c:List Value}{t:TypeId}(h:Blk w b c t)(f:Fr S w w')(hn:¬S b):Blk w' b c t :=
 h.of_heap (f.block b h.lt hn)
theorem z7{S:Nat→Prop}{w w':World}{base:Nat}{e:TypeId}{size:Nat}{v:Value}{n:Nat}{xs:List Value}
  (h:w.ownsRow base e size v n xs)(f:Fr S w w')(hn:∀ k,v.ownBlock=some k→¬S k):w'.ownsRow base e size v n xs:=by
 refine⟨h.1,?_⟩
 rcases h.2 with h2|⟨g,cap,cur,rfl,hb,hg,r⟩
 ·exact .inl h2
 ·refine .inr ⟨g,cap,cur,rfl,hb,?_,r⟩
  have hlt:g<w.heap.size:=(Array.getElem?_eq_some_iff.1 hg).1
  rw[f.block g hlt (hn g rfl)]
  exact hg
theorem zA{w:World}{base:Nat}{e:TypeId}{size:Nat}{v:Value}{n:Nat}{xs:List Value}
  (h:w.ownsRow base e size v n xs){k:Nat}(hk:v.ownBlock=some k):k<w.heap.size:=(h.lt k hk).2
theorem za{w:World}{base:Nat}{e:TypeId}{size:Nat}{v:Value}{n:Nat}{xs:List Value}
  (h:w.ownsRow base e size v n xs){b:Nat}{c:List Value}{t:TypeId}(hb:Blk w b c t)(ht:t≠e):v.ownBlock≠some b:=by
 intro hv
 rcases h.2 with⟨rfl,_⟩|⟨g,cap,cur,rfl,_,hg,_⟩
 ·simp[Value.ownBlock] at hv
 ·simp[Value.ownBlock] at hv
  subst hv
  rw[Blk] at hb
  rw[hb] at hg
  simp at hg
  exact ht hg.2
theorem Z0{w:World}{base base':Nat}{e e':TypeId}{size size':Nat}{v v':Value}{n n':Nat}{xs xs':List Value}
  (h:w.ownsRow base e size v n xs)(h':w.ownsRow base' e' size' v' n' xs')(ht:e≠e'){k:Nat}(hk:v.ownBlock=some k):v'.ownBlock≠some k:=by
 intro hv
 rcases h.2 with⟨rfl,_⟩|⟨g,cap,cur,rfl,_,hg,_⟩
 ·simp[Value.ownBlock] at hk
 ·rcases h'.2 with⟨rfl,_⟩|⟨g',cap',cur',rfl,_,hg',_⟩
  ·simp[Value.ownBlock] at hv
  ·simp[Value.ownBlock] at hk hv
   subst hk;subst hv
   rw[hg] at hg'
   have h3:e=e':=by simp at hg';exact hg'.2
   exact ht h3
theorem own_cell?{w:World}{base:Nat}{e:TypeId}{size:Nat}{g n cap:Nat}{xs:List Value}
  (h:w.ownsRow base e size (.slice (some ⟨g,0,none⟩) n cap) n xs)(j:Nat)(v:Value)(hj:xs[j]?=some v):w.cell? ⟨g,j,none⟩=some v:=by
 have hc:=h.cells (g:=g) rfl j v hj
 have hadd:(⟨g,0,none⟩:Addr).add j=⟨g,j,none⟩:=by unfold Addr.add;split <;> simp_all
 rwa [hadd] at hc
theorem z8{w:World}{base:Nat}{e:TypeId}{size:Nat}{v:Value}{n:Nat}{xs:List Value}(h:w.ownsRow base e size v n xs) :
  ∃ a cap,v=.slice a n cap:=by
 rcases h.2 with⟨rfl,h0⟩|⟨g,cap,cur,rfl,_⟩
 ·exact⟨_,0,by rw[h0]⟩
 ·exact⟨_,_,rfl⟩
theorem zi{w:World}{base:Nat}{e:TypeId}{size:Nat}{v:Value}{n:Nat}{xs:List Value}(h:w.ownsRow base e size v n xs)(hn:0<n) :
  ∃ g cap,v=.slice (some ⟨g,0,none⟩) n cap∧n≤cap∧cap≤maxLen:=by
 rcases h.2 with⟨rfl,h0⟩|⟨g,cap,cur,rfl,_,_,h1,h2,_⟩
 ·omega
 ·exact⟨g,cap,rfl,h1,h2⟩
theorem zK{w:World}{base:Nat}{e:TypeId}{size:Nat}{v:Value}{n:Nat}{xs:List Value}(h:w.ownsRow base e size v n xs):n≤maxLen:=by
 rcases h.2 with⟨_,h0⟩|⟨g,cap,cur,_,_,_,h1,h2,_⟩
 ·omega
 ·omega
def u8s(l:List UInt8):List Value:=l.map fun c=>.int .u8 c.toNat
theorem Zk{P:Program}{e:TypeId}{size bytes:Nat}(h:((P.info? e).map fun i=>(i.zero.map (·.cells.size),i.size,i.bytes))=some (some size,size,bytes)) :
  ∃ i z,P.info? e=some i∧i.zero=some z∧i.size=size∧i.bytes=bytes∧z.cells.size=size:=by
 cases hi:P.info? e with
 | none=>rw[hi] at h;simp at h
 | some i =>
  rw[hi] at h
  simp at h
  obtain⟨⟨z,hz,h1⟩,h2,h3⟩:=h
  exact⟨i,z,rfl,hz,h2,h3,h1⟩
theorem Xa(w:World)(x:Value)(t:TypeId)(H:Nat)(hH:w.heap.size=H):∀ j u,[x][j]?=some u→(w.alloc (.cells #[x] t)).cell? ((⟨H,0,none⟩:Addr).add j)=some u:=by
 subst hH;exact cell_one_new w x t
theorem V4(w:World)(x y:Value)(t:TypeId)(H:Nat)(hH:w.heap.size=H):∀ j u,[x,y][j]?=some u→(w.alloc (.cells #[x,y] t)).cell? ((⟨H,0,none⟩:Addr).add j)=some u:=by
 subst hH
 intro j u hj
 match j,hj with
 | 0,hj=>simp at hj;subst hj;simp[Addr.add]
 | 1,hj=>simp at hj;subst hj;simp[Addr.add]
structure App(w:World)(v:Value)(e:TypeId)(size n:Nat)(xs:List Value)(v':Value)(w':World):Prop where
 own:w'.ownsRow 0 e size v' n xs
 grown:w.grownBy w' v.ownBlock
 at_:v'.ownBlock=v.ownBlock∨v'.ownBlock=some w.heap.size
theorem App.fr{w w':World}{v v':Value}{e:TypeId}{size n:Nat}{xs:List Value}(h:App w v e size n xs v' w'):Fr (fun k=>v.ownBlock=some k) w w' :=
 Fr.of_grown h.grown
section
variable {P:Program} {w:World}
theorem zo(t ty e:TypeId)(size bytes:Nat)(ht:P.underlying t=some (.slice e))
  (hI:((P.info? e).map fun i=>(i.zero.map (·.cells.size),i.size,i.bytes))=some (some size,size,bytes))(hsz:0<size)
  (v:Value)(n:Nat)(xs:List Value)(hown:w.ownsRow 0 e size v n xs)
  (ad:Addr)(m c:Nat)(news:List Value)(hl:news.length=m*size)(hnews:∀ j u,news[j]?=some u→w.cell? (ad.add j)=some u)(h1:∀ u∈news,u.oneCell'=true)
  (h63:n+m≤maxLen)(hbytes:(n+m)*bytes≤140737488355328) :
  ∃ v' w',(Builtin.append_ #[t,t] ty #[v,.slice (some ad) m c]).run P w=.ok v' w'∧App w v e size (n+m) (xs++news) v' w':=by
 obtain⟨i,z,hi,hz,h2,h3,h4⟩:=Zk hI
 obtain⟨v',w',hr,a,b,_,d⟩:=run_append_own_at (P:=P) w 0 t ty e i z size bytes ht hi hz h2 h3 h4 hsz v n xs hown ad m c news hl hnews h1 h63 hbytes (Nat.zero_le _)
 exact⟨v',w',hr,a,b,d⟩
theorem SN(t ty e:TypeId)(size bytes:Nat)(ht:P.underlying t=some (.slice e))
  (hI:((P.info? e).map fun i=>(i.zero.map (·.cells.size),i.size,i.bytes))=some (some size,size,bytes))
  (v:Value)(n:Nat)(xs:List Value)(hown:w.ownsRow 0 e size v n xs)(c:Nat) :
  ∃ v' w',(Builtin.append_ #[t,t] ty #[v,.slice none 0 c]).run P w=.ok v' w'∧App w v e size n xs v' w':=by
 obtain⟨i,z,hi,hz,h2,h3,h4⟩:=Zk hI
 refine⟨v,w,?_,hown,⟨rfl,rfl,rfl,Nat.le_refl _,fun _ _ _=>rfl⟩,.inl rfl⟩
 obtain⟨a,cap,rfl⟩:=z8 hown
 have hcap:n≤cap:=by
  rcases hown.2 with⟨h,h0⟩|⟨_,_,_,h,_,_,h1,_⟩
  ·omega
  ·simp at h;omega
 cases a with
 | none=>simp[Builtin.append_,run_underlying ht,sizeOf,typeInfo,hi,Builtin.lenOf,Builtin.firstCells,hcap]
 | some a=>simp[Builtin.append_,run_underlying ht,sizeOf,typeInfo,hi,Builtin.lenOf,Builtin.firstCells,hcap,storeCells]
theorem YF(t ty e:TypeId)(size bytes:Nat)(ht:P.underlying t=some (.slice e))
  (hI:((P.info? e).map fun i=>(i.zero.map (·.cells.size),i.size,i.bytes))=some (some size,size,bytes))(hsz:0<size)
  (v:Value)(n:Nat)(xs:List Value)(hown:w.ownsRow 0 e size v n xs)(sv:Value)(m:Nat)(news:List Value)(hsrc:w.ownsRow 0 e size sv m news)
  (h1:∀ u∈news,u.oneCell'=true)(h63:n+m≤maxLen)(hbytes:(n+m)*bytes≤140737488355328) :
  ∃ v' w',(Builtin.append_ #[t,t] ty #[v,sv]).run P w=.ok v' w'∧App w v e size (n+m) (xs++news) v' w':=by
 rcases hsrc.2 with⟨rfl,rfl⟩|⟨g,cap,cur,rfl,_⟩
 ·have hx:news=[]:=List.eq_nil_of_length_eq_zero (by simpa using hsrc.1)
  subst hx
  have:=SN (P:=P) t ty e size bytes ht hI v n xs hown 0
  simpa using this
 ·exact zo t ty e size bytes ht hI hsz v n xs hown ⟨g,0,none⟩ m cap news hsrc.1 (hsrc.cells (g:=g) rfl) h1 h63 hbytes
theorem Yx(s:ByteArray):(Builtin.firstCells 1 s.size (.string s)).run P w=.ok (u8s s.data.toList).toArray w:=by
 simp only[Builtin.firstCells,Sem.run_pure]
 congr 1
 have hs:s.extract 0 s.size=s:=by simp
 rw[hs]
 apply Array.ext'
 simp[u8s]
theorem ZF(t u ty e:TypeId)(ht:P.underlying t=some (.slice e))(hu:P.underlying u=some .string)
  (hI:((P.info? e).map fun i=>(i.zero.map (·.cells.size),i.size,i.bytes))=some (some 1,1,1))
  (v:Value)(n:Nat)(xs:List Value)(hown:w.ownsRow 0 e 1 v n xs)(s:ByteArray)
  (h63:n+s.size≤maxLen)(hbytes:n+s.size≤140737488355328) :
  ∃ v' w',(Builtin.append_ #[t,u] ty #[v,.string s]).run P w=.ok v' w'∧App w v e 1 (n+s.size) (xs++u8s s.data.toList) v' w':=by
 obtain⟨i,z,hi,hz,h2,h3,h4⟩:=Zk hI
 have hsmall:n+s.size≤9223372036854775807:=by simp only[maxLen] at h63;omega
 have hul:(u8s s.data.toList).length=s.size:=by simp[u8s]
 have hlen:(xs++u8s s.data.toList).length=(n+s.size)*1:=by rw[List.length_append,hown.1,hul];omega
 have grown:∀ (old:Nat),old<n+s.size→∀ (row:Option Nat),
   (w.drew.alloc (.cells (xs.toArray++(u8s s.data.toList).toArray++Builtin.zeroCells z.cells (grownCap w (n+s.size) old e-(n+s.size))) e)).ownsRow 0 e 1
     (.slice (some ⟨w.heap.size,0,none⟩) (n+s.size) (grownCap w (n+s.size) old e)) (n+s.size) (xs++u8s s.data.toList) ∧
   w.grownBy (w.drew.alloc (.cells (xs.toArray++(u8s s.data.toList).toArray++Builtin.zeroCells z.cells (grownCap w (n+s.size) old e-(n+s.size))) e)) row:=by
  intro old _ row
  have hge:=grownCap_ge w (n+s.size) old e
  have hcm:grownCap w (n+s.size) old e≤maxLen:=grownCap_le_maxLen w (n+s.size) old e h63
  refine⟨⟨hlen,.inr ⟨w.heap.size,_,_,rfl,Nat.zero_le _,heap_alloc_new w.drew _,hge,hcm,?_,?_⟩⟩,⟨rfl,rfl,rfl,by simp,fun k hk _=>Below.heap_alloc w.drew _ k hk⟩⟩
  ·simp only[Array.size_append,List.size_toArray,size_zeroCells,h4,hown.1,hul]
   omega
  ·simp only[Array.toList_append,List.append_assoc]
   rw[← List.append_assoc,← hlen]
   exact List.take_left
 rcases hown.2 with⟨rfl,rfl⟩|⟨g,cap,cur,rfl,hbg,hg,hnc,hcm,hcs,htake⟩
 ·have hx:xs=[]:=List.eq_nil_of_length_eq_zero (by simpa using hown.1)
  subst hx
  by_cases hm:s.size=0
  ·refine⟨.slice none 0 0,w,?_,⟨?_,⟨rfl,rfl,rfl,Nat.le_refl _,fun _ _ _=>rfl⟩,.inl rfl⟩⟩
   ·simp[Builtin.append_,run_underlying ht,run_underlying hu,sizeOf,typeInfo,hi,Builtin.lenOf,Builtin.firstCells,hm]
   ·have:u8s s.data.toList=[]:=List.eq_nil_of_length_eq_zero (by rw[hul];exact hm)
    rw[this,hm]
    exact World.ownsRow_nil w 0 e 1
  ·have hr:=run_append_nil_string (P:=P) w t u ty e i z ht hu hi hz s (by omega) (by omega) (by rw[h3];omega)
   have hgr:=grown 0 (by omega) (Value.ownBlock (.slice none 0 0))
   have he:s.data.map (fun b=>Value.int .u8 b.toNat)=(u8s s.data.toList).toArray:=by apply Array.ext';simp[u8s]
   rw[he] at hr
   simp only[Nat.zero_add,List.nil_append,Array.empty_append] at hgr ⊢
   exact⟨_,_,hr,hgr.1,hgr.2,.inr rfl⟩
 ·by_cases hroom:n+s.size≤cap
  ·have hf:=Yx (P:=P) (w:=w) s
   have hst:=run_storeCells_at P g n e (u8s s.data.toList) 0 cur w hg (by rw[hul,hcs];omega) (by intro x hx;simp[u8s] at hx;obtain⟨c,_,rfl⟩:=hx;rfl)
   simp only[Nat.add_zero] at hst
   refine⟨.slice (some ⟨g,0,none⟩) (n+s.size) cap,w.setRow g (cur.toList.take n++u8s s.data.toList++cur.toList.drop (n+(u8s s.data.toList).length)).toArray,?_,
    ⟨⟨hlen,.inr ⟨g,cap,_,rfl,hbg,setRow_heap w g cur _ e _ hg,hroom,hcm,?_,?_⟩⟩,⟨rfl,rfl,rfl,by simp,fun k _ hk=>setRow_other w g k _ (fun e=>hk (by simp[Value.ownBlock,e]))⟩,.inl rfl⟩⟩
   ·simp[Builtin.append_,run_underlying ht,run_underlying hu,sizeOf,typeInfo,hi,Builtin.lenOf,hroom,h2,hf,Addr.add_lit,hst]
   ·simp only[List.size_toArray,List.length_append,List.length_take,List.length_drop,Array.length_toList]
    omega
   ·have:cur.toList.take n=xs:=by rw[← htake];simp
    rw[this,← hlen]
    exact List.take_left
  ·have holds:∀ j u,xs[j]?=some u→w.cell? ((⟨g,0,none⟩:Addr).add j)=some u:=hown.cells (g:=g) rfl
   have hn:¬(n+s.size≤cap):=hroom
   have h63':¬(9223372036854775807<((n:Int)+(s.size:Int))):=by omega
   have hfit:=growslice_fits (need:=n+s.size) (old:=cap) (bytes:=1) (by omega) (by omega)
   have h48':¬(281474976710656<Builtin.nextslicecap (n+s.size) cap*1):=by omega
   have hf:=Yx (P:=P) (w:=w.drew) s
   have hfo:=run_firstCells_some (P:=P) w.drew 1 n ⟨g,0,none⟩ n cap xs (by simpa using hown.1) (by simpa using holds)
   have hgr:=grown cap (by omega) (Value.ownBlock (.slice (some ⟨g,0,none⟩) n cap))
   refine⟨_,_,?_,hgr.1,hgr.2,.inr rfl⟩
   rw[Nat.mul_one] at h48'
   simp[Builtin.append_,run_underlying ht,run_underlying hu,sizeOf,typeInfo,zeroValue,hi,hz,Builtin.lenOf,hn,h63',h48',Question.forced,hf,hfo,newRow,grownCap,h2,h3]
   try (congr 2;apply Array.ext';simp[List.append_assoc])
end
theorem zf{P:Program}{w:World}{ops:Array Oper}{rest:List Oper}{o:Oper}{a:Act}{Q:Exit→Act→World→Prop}{R:Value→World→Prop}(hgd:o.guard=none)(s x:Operand)(t u:TypeId)
  (ho:o.op=.call {callee:=.builtin .append,args:=#[s,x],argTypes:=#[t,u]})(v xv:Value)(hs:a.eval s=v)(hx:a.eval x=xv)
  (hrun:∃ v' w',(Builtin.append_ #[t,u] o.type #[v,xv]).run P w=.ok v' w'∧R v' w')
  (h:∀ v' w',R v' w'→wpList P ops Q rest (a.put o.dst v') w'):wpList P ops Q (o::rest) a w:=by
 obtain⟨v',w',hr,hR⟩:=hrun
 refine wpList_plain hgd fun K hK=>?_
 unfold Oper.wp execOp
 simp only[ho,resolve,invoke,builtin,Sem.run_bind,Sem.run_pure,Result.andThen_ok,List.map_toArray,List.map_cons,List.map_nil,hs,hx,hr]
 exact hK _ _ (h v' w' hR)
theorem Z3{P:Program}{w:World}{ops:Array Oper}{o:Oper}{a:Act}{K:Act→World→Prop}{Q:Exit→Act→World→Prop}{E:Prop}{R:Value→World→Prop}(hgd:o.guard=none)(s x:Operand)(t u:TypeId)
  (ho:o.op=.call {callee:=.builtin .append,args:=#[s,x],argTypes:=#[t,u]})(v xv:Value)(hs:a.eval s=v)(hx:a.eval x=xv)
  (hrun:∃ v' w',(Builtin.append_ #[t,u] o.type #[v,xv]).run P w=.ok v' w'∧R v' w')
  (h:∀ v' w',R v' w'→K (a.put o.dst v') w') :
  if Region.wanted o (yielded ops a.tmps)=true then Oper.wp P o a w K Q else E:=by
 have hw:Region.wanted o (yielded ops a.tmps)=true:=by simp[Region.wanted,hgd]
 rw[if_pos hw]
 obtain⟨v',w',hr,hR⟩:=hrun
 unfold Oper.wp execOp
 simp only[ho,resolve,invoke,builtin,Sem.run_bind,Sem.run_pure,Result.andThen_ok,List.map_toArray,List.map_cons,List.map_nil,hs,hx,hr]
 exact h v' w' hR
theorem Blk.setRow{w:World}{g:Nat}{c:List Value}{t:TypeId}(h:Blk w g c t)(c':List Value):Blk (w.setRow g c'.toArray) g c' t :=
 setRow_heap w g _ _ t _ h
theorem Blk.shape{w:World}{b:Nat}{c:List Value}{t:TypeId}(h:Blk w b c t):w.shape? b=some (t,c.length):=by
 rw[Blk] at h
 simp[World.shape?,h]
theorem Fr.setRow{S:Nat→Prop}{a w:World}(h:Fr S a w){g:Nat}(hg:g<a.heap.size→S g)(c:Array Value):Fr S a (w.setRow g c) :=
 ⟨h.os,h.tape,h.output,by simpa using h.size,fun k hk hn=>by
  rw[setRow_other w g k _ (fun e=>hn (by subst e;exact hg hk))];exact h.block k hk hn⟩
theorem Zj{w:World}{e:TypeId}{size g n cap:Nat}{c xs:List Value}(h:Blk w g c e)(hn:n≤cap)(hm:cap≤maxLen)(hc:c.length=cap*size)(ht:c.take (n*size)=xs) :
  w.ownsRow 0 e size (.slice (some ⟨g,0,none⟩) n cap) n xs:=by
 refine⟨?_,.inr ⟨g,cap,c.toArray,rfl,Nat.zero_le _,h,hn,hm,by simpa using hc,by simpa using ht⟩⟩
 rw[← ht,List.length_take,hc,Nat.min_eq_left (Nat.mul_le_mul_right _ hn)]
theorem ZW{w:World}{e:TypeId}{size n:Nat}{v:Value}{xs:List Value}(h:w.ownsRow 0 e size v n xs) :
  (v=.slice none 0 0∧n=0∧xs=[])∨∃ g cap c,v=.slice (some ⟨g,0,none⟩) n cap∧Blk w g c e∧n≤cap∧cap≤maxLen∧c.length=cap*size∧c.take (n*size)=xs:=by
 rcases h.2 with⟨h1,h2⟩|⟨g,cap,cur,h1,_,hg,h2,h3,h4,h5⟩
 ·refine .inl ⟨h1,h2,?_⟩
  have:=h.1
  rw[h2,Nat.zero_mul] at this
  exact List.eq_nil_of_length_eq_zero this
 ·exact .inr ⟨g,cap,cur.toList,h1,by rw[Blk];simpa using hg,h2,h3,by simpa using h4,h5⟩
def ZH(k i:Nat)(xs el:List Value):List Value:=xs.take (i*k)++el++xs.drop (i*k)
def ZP(k i:Nat)(xs:List Value):List Value:=xs.take (i*k)++xs.drop ((i+1)*k)
section
variable {P:Program} {w:World}
theorem V5(t e ty:TypeId)(size:Nat)(ht:P.underlying t=some (.slice e))(hs:(P.info? e).map (·.size)=some size)
  (g n m cap sc:Nat)(a:Addr)(c news:List Value)(hg:Blk w g c e)(hroom:n+m≤cap)(hc:c.length=cap*size)(hl:news.length=m*size)
  (hsrc:∀ j v,news[j]?=some v→w.cell? (a.add j)=some v)(h1:∀ v∈news,v.oneCell'=true) :
  (Builtin.append_ #[t,t] ty #[.slice (some ⟨g,0,none⟩) n cap,.slice (some a) m sc]).run P w =
    .ok (.slice (some ⟨g,0,none⟩) (n+m) cap) (w.setRow g (c.take (n*size)++news++c.drop (n*size+news.length)).toArray):=by
 have hf:=run_firstCells_some (P:=P) w size m a m sc news hl hsrc
 have hle:n*size+news.length≤c.length:=by rw[hl,hc,← Nat.add_mul];exact Nat.mul_le_mul_right _ hroom
 have hst:=run_storeCells_at P g (n*size) e news 0 c.toArray w hg (by simpa using hle) h1
 simp only[Nat.add_zero] at hst
 cases hq:P.info? e with
 | none=>simp[hq] at hs
 | some i =>
  have hi:i.size=size:=by simpa [hq] using hs
  simp[Builtin.append_,run_underlying ht,sizeOf,typeInfo,hq,hi,Builtin.lenOf,hroom,hf,Addr.add_lit,hst]
theorem Zb(t e ty:TypeId)(size:Nat)(ht:P.underlying t=some (.slice e))(hs:(P.info? e).map (·.size)=some size)
  (g o dLen dCap:Nat)(a:Addr)(sLen sCap:Nat)(c cs:List Value)(tt:TypeId)(hg:Blk w g c tt)(hn:cs.length=Nat.min sLen dLen*size)
  (hsrc:∀ j v,cs[j]?=some v→w.cell? (a.add j)=some v)(hfit:o+cs.length≤c.length)(h1:∀ v∈cs,v.oneCell'=true) :
  (Builtin.copy_ #[t,t] ty #[.slice (some ⟨g,o,none⟩) dLen dCap,.slice (some a) sLen sCap]).run P w =
    .ok (goInt (Nat.min sLen dLen)) (w.setRow g (c.take o++cs++c.drop (o+cs.length)).toArray):=by
 have hl:=run_loadCells_list (P:=P) w a cs hsrc
 have hst:=run_storeCells_at P g o tt cs 0 c.toArray w hg (by simpa using hfit) h1
 cases hq:P.info? e with
 | none=>simp[hq] at hs
 | some i =>
  have hi:i.size=size:=by simpa [hq] using hs
  rw[hn] at hl
  simp[Builtin.copy_,run_underlying ht,Builtin.lenOf,Builtin.firstCells,sizeOf,typeInfo,hq,hi,hl,hst]
theorem S6(z:Array Value)(n:Nat)(h:∀ u∈z.toList,u.oneCell'=true):∀ u∈(Builtin.zeroCells z n).toList,u.oneCell'=true:=by
 intro u hu
 simp only[Builtin.zeroCells,Array.toList_map,List.mem_map,Array.mem_toList_iff,Array.mem_range] at hu
 obtain⟨i,hi,rfl⟩:=hu
 have hp:0<z.size:=by
  rcases Nat.eq_zero_or_pos z.size with h0|h0
  ·rw[h0,Nat.mul_zero] at hi;omega
  ·exact h0
 have hlt:=Nat.mod_lt i hp
 rw[getElem!_pos z _ hlt]
 exact h _ (by simp)
theorem U9(t e ty:TypeId)(i:TypeInfo)(z:Value)(size:Nat)(ht:P.underlying t=some (.slice e))(hi:P.info? e=some i)(hz:i.zero=some z)(hzs:z.cells.size=size)(hz1:∀ u∈z.cells.toList,u.oneCell'=true)
  (g o n cc:Nat)(c:List Value)(tt:TypeId)(hg:Blk w g c tt)(hfit:o+n*size≤c.length) :
  ∃ zs:List Value,zs.length=n*size∧(Builtin.clear_ #[t] ty #[.slice (some ⟨g,o,none⟩) n cc]).run P w=.ok (.tuple #[]) (w.setRow g (c.take o++zs++c.drop (o+zs.length)).toArray):=by
 refine⟨(Builtin.zeroCells z.cells n).toList,by simp[Builtin.zeroCells,hzs],?_⟩
 cases n with
 | zero =>
  have h0:(Builtin.zeroCells z.cells 0).toList=[]:=by simp[Builtin.zeroCells]
  have hs:=setRow_self w g c.toArray tt (0,0) hg
  simp[Builtin.clear_,run_underlying ht,h0,hs]
 | succ n =>
  have hl:(Builtin.zeroCells z.cells (n+1)).toList.length=(n+1)*size:=by simp[Builtin.zeroCells,hzs]
  have hst:=run_storeCells_at P g o tt (Builtin.zeroCells z.cells (n+1)).toList 0 c.toArray w hg (by rw[hl];simpa using hfit) (S6 _ _ hz1)
  simp only[Nat.add_zero] at hst
  simp[Builtin.clear_,run_underlying ht,zeroValue,typeInfo,hi,hz,hst]
theorem Y1{ops:Array Oper}{o:Oper}{a:Act}{K:Act→World→Prop}{Q:Exit→Act→World→Prop}{E:Prop}
  (hg:o.guard=none)(d x:Operand)(dT sT:TypeId)(hop:o.op=Op.call {callee:=Callee.builtin Builtin.copy,args:=#[d,x],argTypes:=#[dT,sT]})
  (v u:Value)(hd:a.eval d=v)(hx:a.eval x=u){v':Value}{w':World}(hr:(Builtin.copy_ #[dT,sT] o.type #[v,u]).run P w=.ok v' w')(hK:K (a.put o.dst v') w') :
  if Region.wanted o (yielded ops a.tmps)=true then Oper.wp P o a w K Q else E:=by
 have hw:Region.wanted o (yielded ops a.tmps)=true:=by simp[Region.wanted,hg]
 rw[if_pos hw]
 unfold Oper.wp execOp
 simp only[hop,resolve,invoke,builtin,Sem.run_bind,Sem.run_pure,Result.andThen_ok,List.map_toArray,List.map_cons,List.map_nil,hd,hx,hr]
 exact hK
theorem TC{ops:Array Oper}{o:Oper}{a:Act}{K:Act→World→Prop}{Q:Exit→Act→World→Prop}{E:Prop}
  (hg:o.guard=none)(d x:Operand)(dT sT:TypeId)(hop:o.op=Op.call {callee:=Callee.builtin Builtin.append,args:=#[d,x],argTypes:=#[dT,sT]})
  (v u:Value)(hd:a.eval d=v)(hx:a.eval x=u){v':Value}{w':World}(hr:(Builtin.append_ #[dT,sT] o.type #[v,u]).run P w=.ok v' w')(hK:K (a.put o.dst v') w') :
  if Region.wanted o (yielded ops a.tmps)=true then Oper.wp P o a w K Q else E:=by
 have hw:Region.wanted o (yielded ops a.tmps)=true:=by simp[Region.wanted,hg]
 rw[if_pos hw]
 unfold Oper.wp execOp
 simp only[hop,resolve,invoke,builtin,Sem.run_bind,Sem.run_pure,Result.andThen_ok,List.map_toArray,List.map_cons,List.map_nil,hd,hx,hr]
 exact hK
end
def U8(W:World)(k:Nat):Prop:=∃ c f,W.heap[k]?=some (.cells c 5 f)
abbrev Still (W w:World):Prop:=Fr (U8 W) W w
theorem Still.trans{a b c:World}(h:Still a b)(k:Still b c):Still a c :=
 Fr.trans' h k fun i hi hu=>Classical.byContradiction fun hn=>by
  obtain⟨x,f,hx⟩:=hu
  rw[h.block i hi hn] at hx
  exact hn ⟨x,f,hx⟩
theorem Still.of_own{w w':World}{v:Value}{n:Nat}{xs:List Value}(h:w.ownsRow 0 5 1 v n xs)(f:Fr (fun k=>v.ownBlock=some k) w w'):Still w w' :=
 f.mono fun i _ hi=>by
  rcases ZW h with⟨rfl,_⟩|⟨g,cap,c,rfl,hg,_⟩
  ·simp[Value.ownBlock] at hi
  ·simp[Value.ownBlock] at hi
   subst hi
   exact⟨_,_,hg⟩
theorem Still.of_nil{w w':World}(f:Fr Nil w w'):Still w w':=f.mono fun _ _ h=>absurd h id
theorem Blk.still{W w:World}{b:Nat}{c:List Value}{t:TypeId}(h:Blk W b c t)(ht:t≠5)(f:Still W w):Blk w b c t :=
 h.fr f fun⟨x,g,hx⟩=>by
  rw[Blk] at h
  rw[h] at hx
  simp at hx
  exact ht hx.2.1
def Adds(w:World)(v:Value)(n:Nat)(xs:List Value)(bs:List UInt8)(v':Value)(w':World):Prop :=
 w'.ownsRow 0 5 1 v' (n+bs.length) (xs++u8s bs)∧Fr (fun k=>v.ownBlock=some k) w w'∧(∀ k,v'.ownBlock=some k→v.ownBlock=some k∨w.heap.size≤k)
theorem Adds.refl{w:World}{v:Value}{n:Nat}{xs:List Value}(h:w.ownsRow 0 5 1 v n xs):Adds w v n xs [] v w :=
 ⟨by simpa [u8s] using h,Fr.refl _ _,fun _ hk=>.inl hk⟩
theorem Ua(a b:List UInt8):u8s (a++b)=u8s a++u8s b:=by simp[u8s]
theorem Adds.trans{w w1 w2:World}{v v1 v2:Value}{n:Nat}{xs:List Value}{a b:List UInt8}(h:Adds w v n xs a v1 w1)(k:Adds w1 v1 (n+a.length) (xs++u8s a) b v2 w2):Adds w v n xs (a++b) v2 w2:=by
 refine⟨?_,?_,fun i hi=>?_⟩
 ·rw[List.length_append,Ua,← Nat.add_assoc,← List.append_assoc];exact k.1
 ·refine h.2.1.trans' k.2.1 fun i hi h1=>?_
  rcases h.2.2 i h1 with h2|h2
  ·exact h2
  ·omega
 ·rcases k.2.2 i hi with h1|h1
  ·exact h.2.2 i h1
  ·exact .inr (Nat.le_trans h.2.1.size h1)
theorem Adds.next{w w1 w2:World}{v v1 v2:Value}{n m:Nat}{xs:List Value}{a b:List UInt8}(h:Adds w v n xs a v1 w1)(hm:m=n+a.length)(k:Adds w1 v1 m (xs++u8s a) b v2 w2):Adds w v n xs (a++b) v2 w2:=by
 subst hm;exact h.trans k
theorem Adds.of{w wx w1:World}{v v1:Value}{n:Nat}{xs:List Value}{a:List UInt8}(h:Adds wx v n xs a v1 w1)(f:Fr Nil w wx):Adds w v n xs a v1 w1 :=
 ⟨h.1,(f.mono (fun _ _ h=>absurd h id)).trans' h.2.1 (fun _ _ h=>h),fun k hk=>(h.2.2 k hk).imp id (fun h=>Nat.le_trans f.size h)⟩
theorem Adds.still{w w1:World}{v v1:Value}{n:Nat}{xs:List Value}{a:List UInt8}(h:Adds w v n xs a v1 w1)(ho:w.ownsRow 0 5 1 v n xs):Still w w1:=Still.of_own ho h.2.1
theorem SO:((Tryz.prog.info? 5).map fun i=>(i.zero.map (·.cells.size),i.size,i.bytes))=some (some 1,1,1):=by kernel_rfl
theorem SP(w w0:World)(v:Value)(n:Nat)(xs:List Value)(h:w.ownsRow 0 5 1 v n xs)(c:UInt8)(hn:n+1≤1099511627776)(u:Value)(hu:u=.int .u8 c.toNat)(hw:w0=w.alloc (.cells #[u] 5))(N:Nat)(hN:N=w.heap.size)(ty:TypeId) :
  ∃ v' w',(Builtin.append_ #[150,150] ty #[v,.slice (some ⟨N,0,none⟩) 1 1]).run Tryz.prog w0=.ok v' w'∧Adds w v n xs [c] v' w':=by
 subst hw;subst hu;subst hN
 have hb:Blk (w.alloc (.cells #[.int .u8 c.toNat] 5)) w.heap.size [.int .u8 c.toNat] 5:=Blk.new w [.int .u8 c.toNat] _
 have ho:=z7 h ((Fr.refl Nil w).alloc (.cells #[.int .u8 c.toNat] 5)) (fun _ _=>id)
 obtain⟨v',w',hr,h1,h2,h3⟩:=zo (P:=Tryz.prog) 150 ty 5 1 1 Tryz.underlying150 SO (by omega) v n xs ho ⟨w.heap.size,0,none⟩ 1 1 [.int .u8 c.toNat] rfl
  (fun j u hu=>by rw[Addr.add_lit,Nat.zero_add,hb.cell];exact hu) (by simp[Value.oneCell']) (by unfold maxLen;omega) (by omega)
 refine⟨v',w',hr,h1,((Fr.refl (fun k=>v.ownBlock=some k) w).alloc _).trans' ((Fr.of_grown h2).mono (fun i _ h=>h)) (fun i _ h=>h),fun k hk=>?_⟩
 rcases h3 with h3|h3
 ·exact .inl (by rw[← h3];exact hk)
 ·rw[h3] at hk;simp at hk;exact .inr (by omega)
def Zg(W:World)(pv:Value)(bs:List UInt8):Prop :=
 ∃ g lb,pv=.func (.func g) #[] lb∧(∀ args w,(callFunc g args).run Tryz.prog w=.ok (.enter g args) w)∧∀ w,Still W w→∀ v n xs,w.ownsRow 0 5 1 v n xs→n+bs.length≤1099511627776 →
  Calls Tryz.prog g (#[v]++lb) w fun e w'=>∃ v',e=.returned v'∧Adds w v n xs bs v' w'
theorem Zg.still{W W':World}{pv:Value}{bs:List UInt8}(h:Zg W pv bs)(f:Still W W'):Zg W' pv bs:=by
 obtain⟨g,lb,rfl,he,hc⟩:=h
 exact⟨g,lb,rfl,he,fun w hw=>hc w (f.trans hw)⟩
def zd(n:Nat):List UInt8:=if n<128 then [UInt8.ofNat n] else UInt8.ofNat (n%128+128)::zd (n / 128)
theorem Yf{n:Nat}(h:n<128):zd n=[UInt8.ofNat n]:=by rw[zd];simp[h]
theorem Yy{n:Nat}(h:¬n<128):zd n=UInt8.ofNat (n%128+128)::zd (n / 128):=by rw[zd];simp[h]
theorem Oq:∀ m:Fin 256,bits BinOp.or IntKind.u8 ((m.val:Nat):Int) 128=((m.val%128+128:Nat):Int):=by decide +kernel
theorem or128(r:Nat):Value.int .u8 (bits BinOp.or IntKind.u8 ((r:Int)%256) 128)=.int .u8 (UInt8.ofNat (r%128+128)).toNat:=by
 have h:=Oq ⟨r%256,Nat.mod_lt _ (by omega)⟩
 have e:((r:Int)%256)=((r%256:Nat):Int):=by omega
 rw[e,h]
 congr 1
 simp only[UInt8.toNat_ofNat']
 omega
theorem ZN(b N:Nat)(hN:N<9223372036854775808)(w:World)(hb:Blk w b [.int .i64 N] 3)(v:Value)(n:Nat)(xs:List Value)(ho:w.ownsRow 0 5 1 v n xs)(hlim:n+(zd N).length≤1099511627776) :
  Calls Tryz.prog 280 #[v,.pointer (some ⟨b,0,none⟩)] w fun e w'=>∃ v',e=.returned v'∧Adds w v n xs (zd N) v' w':=by
 have hc:w.cell? ⟨b,0,none⟩=some (.int .i64 N):=by rw[hb.cell];rfl
 have hNb:(N:Int)≤9223372036854775807:=by omega
 obtain⟨va,vc,rfl⟩:=z8 ho
 have HO:=Z ho
 clear ho hb
 go_enter Tryz.func280,Tryz.ntmps280
 go_wp2_with fail
 go_loopw [0,4] (fun t0 t4 w'=>∃ (pre:List UInt8) (r:Nat),zd N=pre++zd r∧r<9223372036854775808∧t4=.int .u64 r∧Adds w (.slice va n vc) n xs pre t0 w') (fun _ t4 _=>(intOf t4).toNat)
 case atStart=>exact⟨[],N,rfl,hN,rfl,Adds.refl HO.out⟩
 case round =>
  obtain⟨pre,r,hpre,hr,rfl,hA⟩:=hrel
  obtain⟨ta,tc,rfl⟩:=z8 hA.1
  have HP:=Z hpre
  have hpl:(zd N).length=pre.length+(zd r).length:=by rw[hpre,List.length_append]
  clear hpre
  by_cases hlt:r<128
  ·have hnl:(zd r).length=1:=by rw[Yf hlt];rfl
   have hu:Value.int .u8 (r:Int)=.int .u8 (UInt8.ofNat r).toNat:=by congr 1;simp;omega
   have hrun:=fun ty=>SP wr _ _ _ _ hA.1 (UInt8.ofNat r) (by omega) _ hu rfl _ rfl ty
   have HA:=Z hA
   clear hA hu
   go_wp2_with (at_builtin;go_must (refine zf rfl _ _ _ _ rfl _ _ (by rfl) (by rfl) (hrun _) ?_);rintro v' w' hA2)
   go_ret
   exact⟨_,rfl,by rw[HP.out,Yf hlt];exact HA.out.trans hA2⟩
  ·have hge:(128:Int)≤r:=by omega
   have hnl:(zd r).length=(zd (r / 128)).length+1:=by rw[Yy hlt];rfl
   have hrun:=fun ty=>SP wr _ _ _ _ hA.1 (UInt8.ofNat (r%128+128)) (by omega) _ (or128 r) rfl _ rfl ty
   have HA:=Z hA
   clear hA
   go_wp2_with (at_builtin;go_must (refine zf rfl _ _ _ _ rfl _ _ (by rfl) (by rfl) (hrun _) ?_);rintro v' w' hA2)
   refine⟨⟨pre++[UInt8.ofNat (r%128+128)],r / 128,by rw[HP.out,Yy hlt];simp,by omega,by go_num,HA.out.trans hA2⟩,?_⟩
   simp[intOf]
   omega
theorem W8(W:World)(b N:Nat)(hN:N<9223372036854775808)(hb:Blk W b [.int .i64 N] 3) :
  Zg W (.func (.func 280) #[] #[.pointer (some ⟨b,0,none⟩)]) (zd N) :=
 ⟨_,_,rfl,enters_of Tryz.func280 (by kernel_rfl) rfl,fun w hw v n xs ho hlim=>ZN b N hN w (hb.still (by decide) hw) v n xs ho hlim⟩
theorem S7(x:Int)(w:World) :
  Calls Tryz.prog 277 #[.int .i64 x] w fun e w'=>e=.returned (.func (.func 280) #[] #[.pointer (some ⟨w.heap.size,0,none⟩)])∧w'=w.alloc (.cells #[.int .i64 x] 3):=by
 go_enter Tryz.func277,Tryz.ntmps277
 go_wp2
 go_ret
 exact⟨rfl,rfl⟩
theorem Zr(W:World)(x:Int)(w:World)(hf:Fr Nil W w) :
  Calls Tryz.prog 277 #[.int .i64 x] w fun e w'=>e=.returned (.func (.func 280) #[] #[.pointer (some ⟨w.heap.size,0,none⟩)])∧Blk w' w.heap.size [.int .i64 x] 3∧Fr Nil W w':=by
 refine(S7 x w).mono ?_
 rintro e w' ⟨rfl,rfl⟩
 exact⟨rfl,Blk.new w [.int .i64 x] _,hf.alloc _⟩
def zZ(s:List UInt8):List UInt8:=zd s.length++s
theorem Pd(w:World)(v:Value)(n:Nat)(xs:List Value)(h:w.ownsRow 0 5 1 v n xs)(s:ByteArray)(hn:n+s.size≤1099511627776)(ty:TypeId) :
  ∃ v' w',(Builtin.append_ #[150,9] ty #[v,.string s]).run Tryz.prog w=.ok v' w'∧Adds w v n xs s.data.toList v' w':=by
 obtain⟨v',w',hr,h1,h2,h3⟩:=ZF (P:=Tryz.prog) (w:=w) 150 9 ty 5 Tryz.underlying150 Tryz.underlying9 SO v n xs h s (by unfold maxLen;omega) (by omega)
 refine⟨v',w',hr,by simpa using h1,(Fr.of_grown h2).mono (fun i _ h=>h),fun k hk=>?_⟩
 rcases h3 with h3|h3
 ·exact .inl (by rw[← h3];exact hk)
 ·rw[h3] at hk;simp at hk;exact .inr (by omega)
theorem Qa(b:Nat)(s:ByteArray)(hs:s.size<9223372036854775808)(w:World)(hb:Blk w b [.string s] 9)(v:Value)(n:Nat)(xs:List Value)(ho:w.ownsRow 0 5 1 v n xs)(hlim:n+(zZ s.data.toList).length≤1099511627776) :
  Calls Tryz.prog 285 #[v,.pointer (some ⟨b,0,none⟩)] w fun e w'=>∃ v',e=.returned v'∧Adds w v n xs (zZ s.data.toList) v' w':=by
 have hc:w.cell? ⟨b,0,none⟩=some (.string s):=by rw[hb.cell];rfl
 obtain⟨va,vc,rfl⟩:=z8 ho
 have HL:Hid (n+(zd s.size).length+s.size≤1099511627776):=by unfold zZ at hlim;simp at hlim;unfold Hid;omega
 have HK:Hid (∀ wx,Still w wx→wx.cell? ⟨b,0,none⟩=some (.string s)):=by
  intro wx h
  rw[(hb.still (by decide) h).cell];rfl
 have HB:=Z hb
 have HO:=Z ho
 clear hb ho
 go_enter Tryz.func285,Tryz.ntmps285
 go_wp2_with fail
 go_region_held3 (fun w'=>w'.cell? ⟨b,0,none⟩=some (.string s)) (first|go_keep|assumption)
  (first
  | (go_at_call 280;refine(ZN _ s.size hs _ (by first|exact hb2|exact hb2.drew) (.slice va n vc) n xs (z7 (S:=Nil) HO.out (by repeat' first|(with_reducible first|apply G|assumption|apply O|apply U|apply V|apply z6)|(intro _;rfl)) (fun _ _=>id)) (by unfold zZ at hlim;simp at hlim;omega)).mono ?_;rintro e w3 ⟨v3,rfl,hA3⟩;have hst3:Still w w3:=(Still.of_nil (by repeat' first|(with_reducible first|apply G|assumption|apply O|apply U|apply V|apply z6)|(intro _;rfl))).trans (hA3.still (z7 (S:=Nil) HO.out (by repeat' first|(with_reducible first|apply G|assumption|apply O|apply U|apply V|apply z6)|(intro _;rfl)) (fun _ _=>id)));have hs3:=HK.out _ hst3;have HA3:=Z hA3;clear hA3)
  | (go_at_call 277;refine(Zr w _ _ (by repeat' first|(with_reducible first|apply G|assumption|apply O|apply U|apply V|apply z6)|(intro _;rfl))).mono ?_;rintro e w2 ⟨rfl,hb2,hf2⟩;have hs2:w2.cell? ⟨b,0,none⟩=some (.string s):=by rw[(HB.out.fr hf2 id).cell];rfl)
  | (refine Z3 (by rfl) _ _ _ _ (by rfl) _ _ (by rfl) (by rfl) (Pd _ _ _ _ (z7 (S:=Nil) HA3.out.1 (by repeat' first|(with_reducible first|apply G|assumption|apply O|apply U|apply V|apply z6)|(intro _;rfl)) (fun _ _=>id)) s HL.out _) ?_;intro v4 w4 ha;have hst4:Still w w4:=(hst3.trans (Still.of_nil (by repeat' first|(with_reducible first|apply G|assumption|apply O|apply U|apply V|apply z6)|(intro _;rfl)))).trans (ha.still (z7 (S:=Nil) HA3.out.1 (by repeat' first|(with_reducible first|apply G|assumption|apply O|apply U|apply V|apply z6)|(intro _;rfl)) (fun _ _=>id)));have hs4:=HK.out _ hst4;have HA4:=Z ha;clear ha))
 go_wp2
 go_ret
 have e:zZ s.data.toList=zd s.size++s.data.toList:=by simp[zZ]
 rw[e]
 exact⟨_,rfl,(HA3.out.of (by repeat' first|(with_reducible first|apply G|assumption|apply O|apply U|apply V|apply z6)|(intro _;rfl))).trans (HA4.out.of (by repeat' first|(with_reducible first|apply G|assumption|apply O|apply U|apply V|apply z6)|(intro _;rfl)))⟩
theorem Qb(s:ByteArray)(w:World) :
  Calls Tryz.prog 284 #[.string s] w fun e w'=>e=.returned (.func (.func 285) #[] #[.pointer (some ⟨w.heap.size,0,none⟩)])∧w'=w.alloc (.cells #[.string s] 9):=by
 go_enter Tryz.func284,Tryz.ntmps284
 go_wp2
 go_ret
 exact⟨rfl,rfl⟩
theorem TD(W:World)(b:Nat)(s:ByteArray)(hs:s.size<9223372036854775808)(hb:Blk W b [.string s] 9) :
  Zg W (.func (.func 285) #[] #[.pointer (some ⟨b,0,none⟩)]) (zZ s.data.toList) :=
 ⟨_,_,rfl,enters_of Tryz.func285 (by kernel_rfl) rfl,fun w hw v n xs ho hlim=>Qa b s hs w (hb.still (by decide) hw) v n xs ho hlim⟩
def Zl(W:World):List Value→List (List UInt8)→Prop
 | [],[]=>True
 | p::ps,b::bs=>Zg W p b∧Zl W ps bs
 | _,_=>False
theorem Zl.still{W W':World}(f:Still W W'):∀ {ps:List Value}{bs:List (List UInt8)},Zl W ps bs→Zl W' ps bs
 | [],[],_=>trivial
 | _::_,_::_,h=>⟨h.1.still f,Zl.still f h.2⟩
theorem Zl.length{W:World}:∀ {ps:List Value}{bs:List (List UInt8)},Zl W ps bs→ps.length=bs.length
 | [],[],_=>rfl
 | _::ps,_::bs,h=>by simp[Zl.length h.2]
theorem Zl.get{W:World}:∀ {ps:List Value}{bs:List (List UInt8)},Zl W ps bs→∀ (i:Nat)(h1:i<ps.length)(h2:i<bs.length),Zg W ps[i] bs[i]
 | [],[],_,i,h1,_=>by simp at h1
 | _::ps,_::bs,h,0,_,_=>h.1
 | _::ps,_::bs,h,i+1,h1,h2=>Zl.get h.2 i (by simpa using h1) (by simpa using h2)
theorem XC(bs:List (List UInt8))(i:Nat):(bs.take i).flatten.length≤bs.flatten.length:=by
 have h:=congrArg (fun l=>(List.flatten l).length) (List.take_append_drop i bs)
 simp only[List.flatten_append,List.length_append] at h
 omega
theorem V6(b:Nat)(sv:Value)(pvs:List Value)(bss:List (List UInt8))(w:World)(hb:Blk w b [sv] 368)(hs:w.ownsRow 0 365 1 sv pvs.length pvs)(hp:Zl w pvs bss)
  (v:Value)(n:Nat)(xs:List Value)(ho:w.ownsRow 0 5 1 v n xs)(hlim:n+bss.flatten.length≤1099511627776) :
  Calls Tryz.prog 281 #[v,.pointer (some ⟨b,0,none⟩)] w fun e w'=>∃ v',e=.returned v'∧Adds w v n xs bss.flatten v' w':=by
 have hc:w.cell? ⟨b,0,none⟩=some sv:=by rw[hb.cell];rfl
 have hn:=zK hs
 unfold maxLen at hn
 have hpl:=hp.length
 obtain⟨va,vc,rfl⟩:=z8 ho
 obtain⟨sa,sc,rfl⟩:=z8 hs
 have HO:=Z ho
 have HS:=Z hs
 have HPL:=Z hpl
 clear hb ho hpl
 go_enter Tryz.func281,Tryz.ntmps281
 go_wp2_with fail
 go_loopw [0,8] (fun t0 t8 w'=>∃ i:Nat,i≤pvs.length∧t8=.int .i64 i∧Adds w (.slice va n vc) n xs (bss.take i).flatten t0 w') (fun _ t8 _=>pvs.length-(intOf t8).toNat)
 case atStart=>exact⟨0,Nat.zero_le _,rfl,Adds.refl HO.out⟩
 case round =>
  obtain⟨i,hi,rfl,hA⟩:=hrel
  have hst:=hA.still HO.out
  obtain⟨m,hm⟩:∃ m,m=n+(bss.take i).flatten.length:=⟨_,rfl⟩
  have how:=hA.1
  rw[← hm] at how
  obtain⟨ta,tc,rfl⟩:=z8 how
  have HW:=Z how
  have HM:=Z hm
  clear how hm
  by_cases hlt:i<pvs.length
  ·obtain⟨pg,rfl⟩:∃ g,sa=some ⟨g,0,none⟩:=by
    rcases hs.2 with⟨h1,h0⟩|⟨g,cap,cur,h1,_⟩
    ·omega
    ·simp at h1;exact⟨g,h1.1⟩
   have hs1:wr.ownsRow 0 365 1 (.slice (some ⟨pg,0,none⟩) pvs.length sc) pvs.length pvs:=z7 hs hst (fun k hk hu=>by
    rcases ZW hs with⟨h1,_⟩|⟨g,cap,c,h1,hg,_⟩
    ·cases h1
    ·simp at h1
     simp[Value.ownBlock] at hk
     obtain⟨x,f,hx⟩:=hu
     rw[← hk,h1.1] at hx
     rw[Blk] at hg
     rw[hg] at hx
     simp at hx)
   have hlb:i<bss.length:=by rw[← HPL.out];exact hlt
   obtain⟨g,lb,hpv,eg,hcall⟩:=hp.get i hlt hlb
   have hcp:=own_cell? hs1 i _ (List.getElem?_eq_getElem hlt)
   rw[hpv] at hcp
   have hsum:(bss.take (i+1)).flatten=(bss.take i).flatten++bss[i]:=by rw[List.take_succ_eq_append_getElem hlb,List.flatten_append];simp
   have hle:=XC bss (i+1)
   rw[hsum,List.length_append] at hle
   have HSUM:=Z hsum
   have HC:=Z hcall
   have HA:=Z hA
   clear hs1 hsum hcall hA hpv
   go_wp2_with fail
   refine(HC.out wr hst _ _ _ HW.out (by rw[HM.out];omega)).mono ?_
   rintro e w2 ⟨v2,rfl,hA2⟩
   have HB2:=Z (HA.out.next HM.out hA2)
   clear hA2
   go_wp2
   refine⟨⟨i+1,by omega,by go_num,by rw[HSUM.out];exact HB2.out⟩,?_⟩
   simp[intOf]
   omega
  ·have e:i=pvs.length:=by omega
   have hall:(bss.take i).flatten=bss.flatten:=by rw[List.take_of_length_le (by rw[e,HPL.out];exact Nat.le_refl _)]
   rw[hall] at hA
   have HA:=Z hA
   clear hall hA
   go_wp2
   go_ret
   exact⟨_,rfl,HA.out⟩
theorem V7(sa:Option Addr)(sn sc:Nat)(w:World) :
  Calls Tryz.prog 279 #[.slice sa sn sc] w fun e w'=>e=.returned (.func (.func 281) #[] #[.pointer (some ⟨w.heap.size,0,none⟩)])∧w'=w.alloc (.cells #[.slice sa sn sc] 368):=by
 go_enter Tryz.func279,Tryz.ntmps279
 go_wp2
 go_ret
 exact⟨rfl,rfl⟩
theorem Wu{W w:World}{sv:Value}{n:Nat}{pvs:List Value}{t:TypeId}{k:Nat}(ht:t≠5)(h:W.ownsRow 0 t k sv n pvs)(f:Still W w):w.ownsRow 0 t k sv n pvs :=
 z7 h f (fun i hk hu=>by
  rcases ZW h with⟨rfl,_⟩|⟨g,cap,c,rfl,hg,_⟩
  ·simp[Value.ownBlock] at hk
  ·simp[Value.ownBlock] at hk
   obtain⟨x,f,hx⟩:=hu
   rw[← hk] at hx
   rw[Blk] at hg
   rw[hg] at hx
   simp at hx
   exact ht hx.2.1)
theorem Pe(W:World)(b:Nat)(sv:Value)(pvs:List Value)(bss:List (List UInt8))(hb:Blk W b [sv] 368)(hs:W.ownsRow 0 365 1 sv pvs.length pvs)(hp:Zl W pvs bss) :
  Zg W (.func (.func 281) #[] #[.pointer (some ⟨b,0,none⟩)]) bss.flatten :=
 ⟨_,_,rfl,enters_of Tryz.func281 (by kernel_rfl) rfl,fun w hw v n xs ho hlim =>
  V6 b sv pvs bss w (hb.still (by decide) hw) (Wu (by decide) hs hw) (hp.still hw) v n xs ho hlim⟩
def Yg(l:List Nat):List UInt8:=zd l.length++(l.map zd).flatten
theorem SQ(b1 b2 g o c:Nat)(l:List Nat)(row:List Value)(t:TypeId)(ht:t≠5)(hl:∀ x∈l,x<9223372036854775808)(hln:l.length<1000000)(w:World)
  (h1:Blk w b1 [.slice (some ⟨g,o,none⟩) l.length c] 26)(h2:Blk w b2 [.func (.func 277) #[] #[]] 366)
  (hr:Blk w g row t)(hrow:∀ i (h:i<l.length),row[o+i]?=some (.int .i64 (l[i]:Nat)))
  (v:Value)(n:Nat)(xs:List Value)(ho:w.ownsRow 0 5 1 v n xs)(hlim:n+(Yg l).length≤1099511627776) :
  Calls Tryz.prog 296 #[v,.pointer (some ⟨b1,0,none⟩),.pointer (some ⟨b2,0,none⟩)] w fun e w'=>∃ v',e=.returned v'∧Adds w v n xs (Yg l) v' w':=by
 have hc1:w.cell? ⟨b1,0,none⟩=some (.slice (some ⟨g,o,none⟩) l.length c):=by rw[h1.cell];rfl
 obtain⟨va,vc,rfl⟩:=z8 ho
 have HO:=Z ho
 have H1:=Z h1
 clear h1 ho
 have hlen:n+(zd l.length).length+((l.map zd).flatten).length≤1099511627776:=by simp only[Yg,List.length_append] at hlim;omega
 have HL:=Z hlen
 clear hlen hlim
 have HR:=Z hr
 have H2:=Z h2
 have HROW:=Z hrow
 have HLX:=Z hl
 clear hr h2 hrow hl
 go_enter Tryz.func296,Tryz.ntmps296
 go_wp2_with (first
  | (go_at_call 280;refine(ZN w.heap.size l.length (by omega) _ hb2 (.slice va n vc) n xs (z7 (S:=Nil) HO.out hf2 (fun _ _=>id)) (by have:=HL.out;omega)).mono ?_;rintro e w3 ⟨v3,rfl,hA3⟩;refine Hid.out ?_)
  | (go_at_call 277;refine(Zr w _ _ (Fr.refl _ _)).mono ?_;rintro e w2 ⟨rfl,hb2,hf2⟩))
 have HA3:=Z (hA3.of hf2)
 have hst3:=HA3.out.still HO.out
 have hc3:w3.cell? ⟨b1,0,none⟩=some (.slice (some ⟨g,o,none⟩) l.length c):=by rw[(H1.out.still (by decide) hst3).cell];rfl
 clear hA3 hb2 hf2 hst3
 refine Z ?_
 go_wp2_with fail
 go_loopw [0,14] (fun t0 t14 w'=>∃ i:Nat,i≤l.length∧t14=.int .i64 i∧Adds w (.slice va n vc) n xs (zd l.length++((l.take i).map zd).flatten) t0 w') (fun _ t14 _=>l.length-(intOf t14).toNat)
 case atStart=>exact⟨0,Nat.zero_le _,rfl,by simpa using HA3.out⟩
 case round =>
  obtain⟨i,hi,rfl,hA⟩:=hrel
  have hst:=hA.still HO.out
  obtain⟨m,hm⟩:∃ m,m=n+(zd l.length++((l.take i).map zd).flatten).length:=⟨_,rfl⟩
  have how:=hA.1
  rw[← hm] at how
  obtain⟨ta,tc,rfl⟩:=z8 how
  have HW:=Z how
  have HM:=Z hm
  clear how hm
  by_cases hlt:i<l.length
  ·have hcg:wr.cell? ⟨g,o+i,none⟩=some (.int .i64 (l[i]:Nat)):=by rw[(HR.out.still ht hst).cell];exact HROW.out i hlt
   have hc2:wr.cell? ⟨b2,0,none⟩=some (.func (.func 277) #[] #[]):=by rw[(H2.out.still (by decide) hst).cell];rfl
   have hx:=HLX.out l[i] (List.getElem_mem hlt)
   have hsum:zd l.length++((l.take (i+1)).map zd).flatten=(zd l.length++((l.take i).map zd).flatten)++zd l[i]:=by
    rw[List.take_succ_eq_append_getElem hlt,List.map_append,List.flatten_append];simp
   have hle:m+(zd l[i]).length≤1099511627776:=by
    have h1:=XC (l.map zd) (i+1)
    have h2:=HL.out
    rw[← List.map_take] at h1
    have h3:=congrArg List.length hsum
    rw[HM.out]
    simp only[List.length_append] at h3 ⊢
    omega
   have HSUM:=Z hsum
   have HA:=Z hA
   have HLE:=Z hle
   clear hsum hA hle
   generalize l[i]=x at hcg hx HSUM HLE
   go_wp2_with (first
    | (go_at_call 280;refine(ZN wr.heap.size x hx _ hb2 (.slice ta m tc) m _ (z7 (S:=Nil) HW.out hf2 (fun _ _=>id)) HLE.out).mono ?_;rintro e w5 ⟨v5,rfl,hA5⟩;refine Hid.out ?_)
    | (go_at_call 277;refine(Zr wr _ _ (Fr.refl _ _)).mono ?_;rintro e w4 ⟨rfl,hb2,hf2⟩))
   have HB2:=Z (HA.out.next HM.out (hA5.of hf2))
   clear hA5 hb2 hf2
   refine Z ?_
   go_wp2
   refine⟨⟨i+1,by omega,by go_num,by rw[HSUM.out];exact HB2.out⟩,?_⟩
   simp[intOf]
   omega
  ·have e:i=l.length:=by omega
   have hall:zd l.length++((l.take i).map zd).flatten=Yg l:=by rw[e,List.take_length];rfl
   rw[hall] at hA
   have HA:=Z hA
   clear hall hA
   go_wp2
   go_ret
   exact⟨_,rfl,HA.out⟩
structure Ver where
 node:Int
 seq:Int
 o0:Int
 o1:Int
 o2:Int
 o3:Int
 value:ByteArray
 gone:Bool
def Ver.cells(v:Ver):List Value:=[.int .i64 v.node,.int .i64 v.seq,.int .i64 v.o0,.int .i64 v.o1,.int .i64 v.o2,.int .i64 v.o3,.string v.value,.bool v.gone]
theorem Ver.cells_length(v:Ver):v.cells.length=8:=rfl
def isN(x:Int):Prop:=0≤x∧x<9223372036854775808
structure Ver.Nat(v:Ver):Prop where
 node:isN v.node
 seq:isN v.seq
 o0:isN v.o0
 o1:isN v.o1
 o2:isN v.o2
 o3:isN v.o3
 size:v.value.size<1000000000
def ZA(v:Ver):List UInt8:=zd v.node.toNat++(zd v.seq.toNat++(Yg [v.o0.toNat,v.o1.toNat,v.o2.toNat,v.o3.toNat]++zZ v.value.data.toList))
theorem SR(a:Option Addr)(n c:Nat)(w:World) :
  Calls Tryz.prog 293 #[.slice a n c,.func (.func 277) #[] #[]] w fun e w' =>
   e=.returned (.func (.func 296) #[] #[.pointer (some ⟨w.heap.size,0,none⟩),.pointer (some ⟨w.heap.size+1,0,none⟩)]) ∧
   w'=(w.alloc (.cells #[.slice a n c] 26)).alloc (.cells #[.func (.func 277) #[] #[]] 366):=by
 go_enter Tryz.func293,Tryz.ntmps293
 go_wp2
 go_ret
 exact⟨rfl,rfl⟩
theorem Qc(W:World)(a:Option Addr)(n c:Nat)(w:World)(hf:Fr Nil W w) :
  Calls Tryz.prog 293 #[.slice a n c,.func (.func 277) #[] #[]] w fun e w' =>
   ∃ b1 b2,e=.returned (.func (.func 296) #[] #[.pointer (some ⟨b1,0,none⟩),.pointer (some ⟨b2,0,none⟩)]) ∧
   Blk w' b1 [.slice a n c] 26∧Blk w' b2 [.func (.func 277) #[] #[]] 366∧Fr Nil W w':=by
 refine(SR a n c w).mono ?_
 rintro e w' ⟨rfl,rfl⟩
 refine⟨_,_,rfl,(Blk.new w [.slice a n c] _).alloc _,?_,(hf.alloc _).alloc _⟩
 have:=Blk.new (w.alloc (.cells #[.slice a n c] 26)) [.func (.func 277) #[] #[]] 366
 simpa using this
theorem Ub(W:World)(s:ByteArray)(w:World)(hf:Fr Nil W w) :
  Calls Tryz.prog 284 #[.string s] w fun e w'=>e=.returned (.func (.func 285) #[] #[.pointer (some ⟨w.heap.size,0,none⟩)])∧Blk w' w.heap.size [.string s] 9∧Fr Nil W w':=by
 refine(Qb s w).mono ?_
 rintro e w' ⟨rfl,rfl⟩
 exact⟨rfl,Blk.new w [.string s] _,hf.alloc _⟩
theorem Qd(W:World)(g n c:Nat)(pvs:List Value)(w:World)(hf:Fr Nil W w)(hs:Blk w g pvs 365) :
  Calls Tryz.prog 279 #[.slice (some ⟨g,0,none⟩) n c] w fun e w' =>
   ∃ b,e=.returned (.func (.func 281) #[] #[.pointer (some ⟨b,0,none⟩)])∧Blk w' b [.slice (some ⟨g,0,none⟩) n c] 368∧Blk w' g pvs 365∧Fr Nil W w':=by
 refine(V7 _ n c w).mono ?_
 rintro e w' ⟨rfl,rfl⟩
 exact⟨_,rfl,Blk.new w [.slice (some ⟨g,0,none⟩) n c] _,hs.alloc _,hf.alloc _⟩
theorem Pf(W:World)(b1 b2 g o c:Nat)(l:List Nat)(row:List Value)(t:TypeId)(ht:t≠5)(hl:∀ x∈l,x<9223372036854775808)(hln:l.length<1000000)
  (h1:Blk W b1 [.slice (some ⟨g,o,none⟩) l.length c] 26)(h2:Blk W b2 [.func (.func 277) #[] #[]] 366)
  (hr:Blk W g row t)(hrow:∀ i (h:i<l.length),row[o+i]?=some (.int .i64 (l[i]:Nat))) :
  Zg W (.func (.func 296) #[] #[.pointer (some ⟨b1,0,none⟩),.pointer (some ⟨b2,0,none⟩)]) (Yg l) :=
 ⟨_,_,rfl,enters_of Tryz.func296 (by kernel_rfl) rfl,fun w hw v n xs ho hlim =>
  SQ b1 b2 g o c l row t ht hl hln w (h1.still (by decide) hw) (h2.still (by decide) hw) (hr.still ht hw) hrow v n xs ho hlim⟩
theorem S8(v:Ver)(hv:v.Nat)(w:World) :
  Calls Tryz.prog 289 #[.agg v.cells.toArray] w fun e w'=>∃ b,e=.returned (.func (.func 281) #[] #[.pointer (some ⟨b,0,none⟩)])∧Zg w' (.func (.func 281) #[] #[.pointer (some ⟨b,0,none⟩)]) (ZA v)∧Fr Nil w w':=by
 have hb0:Blk (w.alloc (.cells v.cells.toArray 37)) w.heap.size v.cells 37:=Blk.new w v.cells _
 have hf0:Fr Nil w (w.alloc (.cells v.cells.toArray 37)):=(Fr.refl _ _).alloc _
 obtain⟨node,seq,o0,o1,o2,o3,value,gone⟩:=v
 simp only[Ver.cells] at hb0 hf0 ⊢
 go_enter Tryz.func289,Tryz.ntmps289
 go_wp2_with fail
 obtain⟨N,hN⟩:∃ N,w.heap.size=N:=⟨_,rfl⟩
 obtain⟨w0,hw0⟩:∃ w0,w.alloc (.cells #[.int .i64 node,.int .i64 seq,.int .i64 o0,.int .i64 o1,.int .i64 o2,.int .i64 o3,.string value,.bool gone] 37)=w0:=⟨_,rfl⟩
 rw[hN] at hb0 ⊢
 rw[hw0] at hb0 hf0 ⊢
 clear hw0 hN
 have hc0:w0.cell? ⟨N,0,none⟩=some (.int .i64 node):=by rw[hb0.cell];rfl
 have hc1:w0.cell? ⟨N,1,none⟩=some (.int .i64 seq):=by rw[hb0.cell];rfl
 have hc6:w0.cell? ⟨N,6,none⟩=some (.string value):=by rw[hb0.cell];rfl
 have HK:Hid (∀ w',Fr Nil w0 w'→w'.cell? ⟨N,0,none⟩=some (.int .i64 node)∧w'.cell? ⟨N,1,none⟩=some (.int .i64 seq)∧w'.cell? ⟨N,6,none⟩=some (.string value)):=by
  intro w' hf
  have:=(hb0.fr hf id).cell
  exact⟨by rw[this];rfl,by rw[this];rfl,by rw[this];rfl⟩
 have HB:=Z hb0
 clear hb0
 go_region_held3 (fun w'=>w'.cell? ⟨N,0,none⟩=some (.int .i64 node)∧w'.cell? ⟨N,1,none⟩=some (.int .i64 seq)∧w'.cell? ⟨N,6,none⟩=some (.string value)) (first|assumption|exact HK.out _ (by repeat' first|(with_reducible first|apply G|assumption|apply O|apply U|apply V|apply z6)|(intro _;rfl)))
  (first
  | (go_at_call 279;refine(Qd w5 _ _ _ _ _ (by repeat' first|(with_reducible first|apply G|assumption|apply O|apply U|apply V|apply z6)|(intro _;rfl)) (by exact Blk.new _ [_,_,_,_] _)).mono ?_;rintro e w6 ⟨b6,rfl,hb6,hs6,hf6⟩;have hf06:=hf05.trans hf6;have hz6:=HK.out w6 hf06)
  | (go_at_call 284;refine(Ub w4 _ _ (by repeat' first|(with_reducible first|apply G|assumption|apply O|apply U|apply V|apply z6)|(intro _;rfl))).mono ?_;rintro e w5 ⟨rfl,hb5,hf5⟩;have hf05:=hf04.trans hf5;have hz5:=HK.out w5 hf05)
  | (go_at_call 293;refine(Qc w3 _ _ _ _ (by repeat' first|(with_reducible first|apply G|assumption|apply O|apply U|apply V|apply z6)|(intro _;rfl))).mono ?_;rintro e w4 ⟨b1,b2,rfl,hb4,hb4',hf4⟩;have hf04:=hf03.trans hf4;have hz4:=HK.out w4 hf04)
  | (go_at_call 277;refine(Zr w2 _ _ (by repeat' first|(with_reducible first|apply G|assumption|apply O|apply U|apply V|apply z6)|(intro _;rfl))).mono ?_;rintro e w3 ⟨rfl,hb3,hf3⟩;have hf03:=hf2.trans hf3;have hz3:=HK.out w3 hf03)
  | (go_at_call 277;refine(Zr w0 _ _ (by repeat' first|(with_reducible first|apply G|assumption|apply O|apply U|apply V|apply z6)|(intro _;rfl))).mono ?_;rintro e w2 ⟨rfl,hb2,hf2⟩;have hz2:=HK.out w2 hf2))
 have an:isN node:=hv.node
 have aq:isN seq:=hv.seq
 have a0:isN o0:=hv.o0
 have a1:isN o1:=hv.o1
 have a2:isN o2:=hv.o2
 have a3:isN o3:=hv.o3
 have az:value.size<1000000000:=hv.size
 unfold isN at an aq a0 a1 a2 a3
 have hp1:Zg w6 (.func (.func 280) #[] #[.pointer (some ⟨w0.heap.size,0,none⟩)]) (zd node.toNat):=W8 w6 _ node.toNat (by omega) (by rw[Int.toNat_of_nonneg an.1];exact(((hb2.fr hf3 id).fr hf4 id).fr hf5 id).fr hf6 id)
 have hp2:Zg w6 (.func (.func 280) #[] #[.pointer (some ⟨w2.heap.size,0,none⟩)]) (zd seq.toNat):=W8 w6 _ seq.toNat (by omega) (by rw[Int.toNat_of_nonneg aq.1];exact((hb3.fr hf4 id).fr hf5 id).fr hf6 id)
 have hp3:Zg w6 (.func (.func 296) #[] #[.pointer (some ⟨b1,0,none⟩),.pointer (some ⟨b2,0,none⟩)]) (Yg [o0.toNat,o1.toNat,o2.toNat,o3.toNat]) :=
  Pf w6 b1 b2 N 2 4 [o0.toNat,o1.toNat,o2.toNat,o3.toNat] _ 37 (by decide) (by
   intro x hx
   simp only[List.mem_cons,List.not_mem_nil,or_false] at hx
   rcases hx with rfl|rfl|rfl|rfl <;> omega) (by simp) ((hb4.fr hf5 id).fr hf6 id) ((hb4'.fr hf5 id).fr hf6 id) (HB.out.fr hf06 id) (by
   intro i hi
   simp only[List.length_cons,List.length_nil] at hi
   have:i=0∨i=1∨i=2∨i=3:=by omega
   rcases this with rfl|rfl|rfl|rfl
   ·exact congrArg (fun z=>some (Value.int .i64 z)) (Int.toNat_of_nonneg a0.1).symm
   ·exact congrArg (fun z=>some (Value.int .i64 z)) (Int.toNat_of_nonneg a1.1).symm
   ·exact congrArg (fun z=>some (Value.int .i64 z)) (Int.toNat_of_nonneg a2.1).symm
   ·exact congrArg (fun z=>some (Value.int .i64 z)) (Int.toNat_of_nonneg a3.1).symm)
 have hp4:Zg w6 (.func (.func 285) #[] #[.pointer (some ⟨w4.heap.size,0,none⟩)]) (zZ value.data.toList):=TD w6 _ value (by omega) ((hb5.fr hf6 id))
 have hown:w6.ownsRow 0 365 1 (.slice (some ⟨w5.heap.size,0,none⟩) 4 4) 4 _:=Zj hs6 (Nat.le_refl _) (by unfold maxLen;omega) (by rfl) (by rfl)
 have hgp:=Pe w6 _ _ _ [_,_,_,_] hb6 hown ⟨hp1,hp2,hp3,hp4,trivial⟩
 have HG:=Z hgp
 have HF:=Z (hf0.trans hf06)
 clear hp1 hp2 hp3 hp4 hown hgp hb6 hs6
 go_wp2
 go_ret
 refine⟨_,rfl,?_,HF.out⟩
 have:=HG.out
 simp only[List.flatten_cons,List.flatten_nil,List.append_nil] at this
 exact this
end Go.Proofs.YtkhnggkkiefcdaaGreatDoor
