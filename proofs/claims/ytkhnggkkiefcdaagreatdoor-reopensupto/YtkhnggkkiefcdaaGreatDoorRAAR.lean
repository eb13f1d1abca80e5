/- larder: joined texts -/
import Derived.Test.YtkhnggkkiefcdaaGreatDoorRAAQ
namespace Go.Proofs.YtkhnggkkiefcdaaGreatDoor
open Go.RowKit
set_option maxRecDepth 100000
set_option maxHeartbeats 8000000
def UG:ByteArray:=⟨#[98,97,115,101]⟩
theorem Nd{l:List (Nat × ByteArray)}{s:Nat}(h:s∉Zq l):zX zO (Zq l) s=false:=by
 rcases Nat.lt_or_ge (low zO (Zq l) s) l.length with hl|hl
 ·rw[YT hl rfl,beq_eq_false_iff_ne]
  rintro e
  exact h (by rw[← e];exact List.mem_map_of_mem (List.getElem_mem hl))
 ·exact Wk (by simpa using hl)
theorem Mm{l:List (Nat × ByteArray)}{s:Nat}{x:ByteArray}{e:Nat × ByteArray}:e∈XO l s x↔e∈l∨e=(s,x):=by
 have h:e∈l↔e∈l.take (low zO (Zq l) s)∨e∈l.drop (low zO (Zq l) s):=by
  rw[← List.mem_append,List.take_append_drop]
 rw[h]
 simp only[XO,List.mem_append,List.mem_singleton]
 constructor
 ·rintro((h|h)|h)
  ·exact .inl (.inl h)
  ·exact .inr h
  ·exact .inl (.inr h)
 ·rintro((h|h)|h)
  ·exact .inl (.inl h)
  ·exact .inr h
  ·exact .inl (.inr h)
theorem WJ(n:Nat):Lib.hasPrefix (ze zk n).data.toList UG.data.toList=false∧Lib.atoi (ze zk n).data.toList=none:=by
 have e:(ze zk n).data.toList=108::111::103::Lib.decDigits n:=by
  simp only[ze,zk,ByteArray.data_append,Array.toList_append,Xy]
  rfl
 rw[e]
 exact⟨rfl,rfl⟩
theorem RL(n:Nat)(hn:n<10^15):(ze zk n).size≤18:=by
 have h:=WH 14 n hn
 have e:(ze zk n).data.toList.length=3+(Lib.decDigits n).length:=by
  simp only[ze,zk,ByteArray.data_append,Array.toList_append,Xy]
  simp
  omega
 have e2:(ze zk n).size=(ze zk n).data.toList.length:=by simp
 omega
def T9(nums:List Nat)(l:List (Nat × ByteArray)):Prop:=l.length=nums.length∧∀ e,e∈l↔∃ n∈nums,e=(n,ze zk n)
theorem UH(b:Nat)(L:DL)(M:DM)(w:World)(h:DRep w b L M)(nums:List Nat)(hd:M.dir.names=nums.map (ze zk))(hdl:M.dir.length=nums.length)(hnd:nums.Nodup)(hb:∀ n∈nums,1≤n∧n<10^15)(hlen:nums.length<1000000000)
  (ht:∀ w',Fr Nil w w'→Tab w')(hsyn:YO w) :
  Calls Tryz.prog 145 #[.pointer (some ⟨b,0,none⟩)] w fun e w' =>
   ∃ mb v l,e=.returned (.pointer (some ⟨mb,0,none⟩))∧Blk w' mb [v] 263∧WI w' v l∧T9 nums l∧w.heap.size≤mb∧(∀ k,v.ownBlock=some k→w.heap.size≤k)∧Fr Nil w w':=by
 have HL:=Z (fun wx (f:Fr Nil w wx)=>Uj wx b L M (h.fr f (fun _ _=>id)) (by omega))
 rw[hd,hdl] at HL
 clear h
 go_enter Tryz.func145,Tryz.ntmps145
 go_wp2_with fail
 have hm0:Blk (w.alloc (.cells #[.slice none 0 0] 263)) w.heap.size [.slice none 0 0] 263:=Blk.new w [_] _
 have hf0:Fr Nil w (w.alloc (.cells #[.slice none 0 0] 263)):=(G _ _).alloc _
 generalize w.alloc (.cells #[.slice none 0 0] 263)=W0 at hm0 hf0 ⊢
 refine(HL.out W0 hf0).mono ?_
 rintro e w1 ⟨lv,rfl,hlo,hf1,hln⟩
 have hm1:=hm0.fr hf1 id
 obtain⟨la,lc,rfl⟩:=z8 hlo
 go_wp2_with fail
 have HT:=Z ht
 have HSY:=Z hsyn
 have HND:=Z hnd
 have HB:=Z hb
 have HX:Hid (∀ n∈nums,∀ wx,Fr Nil w wx→(Calls Tryz.prog 185 #[.string zk,.string (ze zk n)] wx fun e w'=>e=.returned (.int .i64 n)∧Fr Nil wx w') ∧
   (Calls Tryz.prog 185 #[.string UG,.string (ze zk n)] wx fun e w'=>e=.returned (.int .i64 0)∧Fr Nil wx w')):=fun n hn wx f =>
  ⟨RG zk (by decide) n (hb n hn).1 (by have:=(hb n hn).2;omega) wx (fun w' f'=>ht w' (f.trans f')),
   Wq UG (ze zk n) (WJ n).1 (RL n (hb n hn).2) (WJ n).2 wx (hsyn.fr f id)⟩
 clear ht hsyn hnd hb
 have hs0:=hf0.size
 have hs1:=hf1.size
 go_loopw [12] (fun t12 w'=>∃ (i:Nat) (v:Value) (l:List (Nat × ByteArray)),i≤nums.length∧t12=.int .i64 (i:Int)∧Blk w' w.heap.size [v] 263∧WI w' v l∧T9 (nums.take i) l∧(∀ k,v.ownBlock=some k→w.heap.size≤k)∧w'.ownsRow 0 9 1 (.slice la nums.length lc) nums.length (strs (nums.map (ze zk)))∧Fr Nil w w') (fun t12 _=>(nums.length-intOf t12).toNat)
 case atStart =>
  refine⟨0,_,[],by omega,rfl,hm1,⟨⟨rfl,.inl ⟨rfl,rfl⟩⟩,?_⟩,⟨rfl,by simp⟩,fun k hk=>by simp[Value.ownBlock] at hk,hlo,hf0.trans hf1⟩
  exact List.Pairwise.nil
 case round =>
  obtain⟨i,v,l,hi,rfl,hm,hent,hif,hnew,hrow,hf⟩:=hrel
  by_cases hlt:i<nums.length
  ·obtain⟨g,cap',hg,_,_⟩:=zi hrow (by omega)
   obtain⟨rfl,rfl⟩:la=some ⟨g,0,none⟩∧lc=cap':=by simpa using hg
   have hc:=own_cell? hrow i (.string (ze zk nums[i])) (by simp[strs,hlt])
   have hmem:=List.getElem_mem hlt
   have hpos:=(HB.out _ hmem).1
   have hbig:nums[i]<10^15:=(HB.out _ hmem).2
   have hnk:nums[i]∉Zq l:=by
    intro hk
    obtain⟨e,he,hek⟩:=List.mem_map.1 hk
    obtain⟨n,hn,rfl⟩:=(hif.2 e).1 he
    simp only at hek
    obtain⟨j,hj,rfl⟩:=List.getElem_of_mem hn
    simp only[List.length_take] at hj
    rw[List.getElem_take] at hek
    exact(List.pairwise_iff_getElem.1 HND.out) j i (by omega) hlt (by omega) hek
   have HN:=Z hnk
   have HE:=Z (And.intro hm (And.intro hent (And.intro hif (And.intro hnew (And.intro hrow hf)))))
   have HT2:Hid (nums.take (i+1)=nums.take i++[nums[i]]):=by
    show nums.take (i+1)=_
    rw[List.take_add_one,List.getElem?_eq_getElem hlt];rfl
   clear hm hent hif hnew hrow hf hnk
   generalize hni:nums[i]=n at hc hmem hpos hbig HN HT2
   go_wp2_with fail
   refine((HX.out n hmem wr HE.out.2.2.2.2.2).1).mono ?_
   rintro e w2 ⟨rfl,hf2⟩
   go_wp2_with fail
   refine((HX.out n hmem w2 (HE.out.2.2.2.2.2.trans hf2)).2).mono ?_
   rintro e w3 ⟨rfl,hf3⟩
   have hpos':(0:Int)<n:=by omega
   have hmx:¬(n:Int)<0:=by omega
   go_wp2_with fail
   have hf23:=hf2.trans hf3
   refine(O0 v [] l n (ze zk n) w.heap.size 263 w3 (HE.out.1.fr hf23 id) (by decide) (HE.out.2.1.fr hf23 (fun _ _=>id)) (by have:=HE.out.2.2.1.1;simp at this;omega) (Nd HN.out)).mono ?_
   rintro e w4 ⟨rfl,v',hm4,hent4,hf4,hnew4⟩
   go_wp2_with fail
   have hrow3:=z7 HE.out.2.2.2.2.1 hf23 (fun _ _=>id)
   have hm3:=HE.out.1.fr hf23 id
   have hent3:=HE.out.2.1.fr hf23 (fun _ _=>id)
   have hsz:=(HE.out.2.2.2.2.2.trans hf23).size
   refine⟨⟨i+1,v',XO l n (ze zk n),by omega,by go_num,hm4,hent4,⟨?_,fun e=>?_⟩,fun k hk=>?_,z7 hrow3 hf4 (fun k hk e=>?_),?_⟩,by simp[intOf];omega⟩
   ·have:=HE.out.2.2.1.1
    rw[VP,this]
    simp
    omega
   ·rw[Mm,HT2.out,HE.out.2.2.1.2 e]
    constructor
    ·rintro(⟨m,hm,rfl⟩|rfl)
     ·exact⟨m,by simp only[List.mem_append];exact .inl hm,rfl⟩
     ·exact⟨n,by simp,rfl⟩
    ·rintro⟨m,hm,rfl⟩
     simp only[List.mem_append,List.mem_singleton] at hm
     rcases hm with hm|rfl
     ·exact .inl ⟨m,hm,rfl⟩
     ·exact .inr rfl
   ·rcases hnew4 k hk with h1|h1
    ·exact HE.out.2.2.2.1 k h1
    ·omega
   ·have h0:=zy hrow3 hk
    rcases e with rfl|e
    ·exact absurd (Ty.inj h0 (Blk.ty hm3)) (by decide)
    ·exact absurd (Ty.inj h0 (zy hent3.own e)) (by decide)
   ·refine(HE.out.2.2.2.2.2.trans hf23).trans' hf4 (fun k hk e=>?_)
    rcases e with rfl|e
    ·omega
    ·have:=HE.out.2.2.2.1 k e;omega
  ·have hil:i=nums.length:=by omega
   subst hil
   go_wp2_with fail
   go_ret
   rw[List.take_length] at hif
   exact⟨_,v,l,rfl,hm,hent,hif,Nat.le_refl _,hnew,hf⟩
end Go.Proofs.YtkhnggkkiefcdaaGreatDoor
namespace Go.Proofs.YtkhnggkkiefcdaaGreatDoor
open Go.RowKit
theorem Pa{α:Type}(f:α→Nat):∀ (a b:List α),a.Pairwise (fun x y=>f x<f y)→b.Pairwise (fun x y=>f x<f y)→(∀ e,e∈a↔e∈b)→a=b
 | [],[],_,_,_=>rfl
 | [],y::b,_,_,h=>absurd ((h y).2 (List.mem_cons_self ..)) (by simp)
 | x::a,[],_,_,h=>absurd ((h x).1 (List.mem_cons_self ..)) (by simp)
 | x::a,y::b,ha,hb,h=>by
  rw[List.pairwise_cons] at ha hb
  have hxy:x=y:=by
   rcases List.mem_cons.1 ((h x).1 (List.mem_cons_self ..)) with e|e
   ·exact e
   ·rcases List.mem_cons.1 ((h y).2 (List.mem_cons_self ..)) with e2|e2
    ·exact e2.symm
    ·have h1:=hb.1 x e
     have h2:=ha.1 y e2
     omega
  subst hxy
  rw[Pa f a b ha.2 hb.2 fun e=>?_]
  constructor
  ·intro he
   rcases List.mem_cons.1 ((h e).1 (List.mem_cons_of_mem _ he)) with rfl|h1
   ·have:=ha.1 e he;omega
   ·exact h1
  ·intro he
   rcases List.mem_cons.1 ((h e).2 (List.mem_cons_of_mem _ he)) with rfl|h1
   ·have:=hb.1 e he;omega
   ·exact h1
def segs(k:Nat):List (Nat × ByteArray):=(List.range k).map fun i=>(i+1,ze zk (i+1))
theorem QI{nums:List Nat}{l:List (Nat × ByteArray)}{k:Nat}(h:T9 nums l)(ha:Asc zO (Zq l))(hn:∀ n,n∈nums↔1≤n∧n≤k):l=segs k:=by
 refine Pa Prod.fst l (segs k) ?_ ?_ fun e=>?_
 ·have h1:(l.map Prod.fst).Pairwise (fun x y=>zO x y=true):=ha
  rw[List.pairwise_map] at h1
  exact h1.imp fun h=>by simpa [zO] using h
 ·unfold segs
  rw[List.pairwise_map]
  exact List.pairwise_lt_range.imp fun h=>by simpa using h
 ·rw[h.2 e]
  unfold segs
  simp only[List.mem_map,List.mem_range]
  constructor
  ·rintro⟨n,hm,rfl⟩
   have:=(hn n).1 hm
   exact⟨n-1,by omega,by rw[show n-1+1=n by omega]⟩
  ·rintro⟨i,hi,rfl⟩
   exact⟨i+1,(hn _).2 (by omega),rfl⟩
end Go.Proofs.YtkhnggkkiefcdaaGreatDoor
namespace Go.Proofs.YtkhnggkkiefcdaaGreatDoor
open Go.RowKit
set_option maxRecDepth 100000
set_option maxHeartbeats 8000000
abbrev Seg:=List Fact × List UInt8
def ZM(s:Seg):List UInt8:=Za s.1++s.2
def DM.view(M:DM):List (ByteArray × List UInt8):=M.dir.map fun e=>(e.1,(M.file e.2).bytes)
def ZV:Nat→List Seg→List (ByteArray × List UInt8)
 | _,[]=>[]
 | k,s::r=>(ze zk (k+1),ZM s)::ZV (k+1) r
theorem We(k:Nat)(a b:List Seg):ZV k (a++b)=ZV k a++ZV (k+a.length) b:=by
 induction a generalizing k with
 | nil=>simp[ZV]
 | cons s a ih =>
  simp only[List.cons_append,ZV,ih,List.length_cons]
  rw[show k+1+a.length=k+(a.length+1) by omega]
theorem QJ(k:Nat)(a:List Seg):(ZV k a).length=a.length:=by
 induction a generalizing k with
 | nil=>rfl
 | cons s a ih=>simp[ZV,ih]
theorem Mn(k:Nat)(a:List Seg)(i:Nat)(h:i<a.length):(ZV k a)[i]?=some (ze zk (k+i+1),ZM a[i]):=by
 induction a generalizing k i with
 | nil=>simp at h
 | cons s a ih =>
  cases i with
  | zero=>simp[ZV]
  | succ i =>
   simp only[ZV,List.getElem?_cons_succ,List.getElem_cons_succ]
   rw[ih (k+1) i (by simpa using h),show k+1+i=k+(i+1) by omega]
theorem UI(k:Nat)(a:List Seg):(ZV k a).map Prod.fst=(List.range a.length).map fun i=>ze zk (k+i+1):=by
 induction a generalizing k with
 | nil=>rfl
 | cons s a ih =>
  simp only[ZV,List.map_cons,List.length_cons,List.range_succ_eq_map,List.map_map,ih]
  refine List.cons_eq_cons.2 ⟨rfl,List.map_congr_left fun i _=>?_⟩
  show ze zk (k+1+i+1)=ze zk (k+(i+1)+1)
  rw[show k+1+i=k+(i+1) by omega]
def zl(ss:List Seg):List Fact:=(ss.map Prod.fst).flatten
theorem Zo(a b:List Seg):zl (a++b)=zl a++zl b:=by simp[zl]
def Torn(l:List UInt8):Prop:=∃ body,l<+:Z6 body∧l≠Z6 body∧body.length<9223372036854775808
theorem RM:Torn []:=⟨[],(RF []).1,(RF []).2,by decide⟩
def ZR(x:Fact):Prop:=FRead x∧(zx x).length<9223372036854775808
def Vu(s:Seg):Prop:=(∀ x∈s.1,ZR x)∧Torn s.2
def YR(ss:List Seg):Prop:=∀ s∈ss,Vu s
def JM.at(limit:Nat)(ss:List Seg)(ds:Bool):JM :=
 match ss.getLast? with
 | none=>{limit:=limit,last:=0,name:=ByteArray.empty,size:=0,torn:=false,dirSafe:=ds}
 | some s=>{limit:=limit,last:=ss.length,name:=ze zk ss.length,size:=(ZM s).length,torn:=decide (0<s.2.length),dirSafe:=ds}
theorem JM.at_snoc(limit:Nat)(ss:List Seg)(s:Seg)(ds:Bool):JM.at limit (ss++[s]) ds={limit:=limit,last:=ss.length+1,name:=ze zk (ss.length+1),size:=(ZM s).length,torn:=decide (0<s.2.length),dirSafe:=ds}:=by
 unfold JM.at
 simp
theorem JM.at_last(limit:Nat)(ss:List Seg)(ds:Bool):(JM.at limit ss ds).last=ss.length:=by
 rcases List.eq_nil_or_concat ss with rfl|⟨r,s,rfl⟩
 ·rfl
 ·rw[List.concat_eq_append,JM.at_snoc];simp
theorem JM.at_limit(limit:Nat)(ss:List Seg)(ds:Bool):(JM.at limit ss ds).limit=limit:=by
 rcases List.eq_nil_or_concat ss with rfl|⟨r,s,rfl⟩
 ·rfl
 ·rw[List.concat_eq_append,JM.at_snoc]
theorem JM.at_safe(limit:Nat)(ss:List Seg)(ds d2:Bool):{JM.at limit ss ds with dirSafe:=d2}=JM.at limit ss d2:=by
 rcases List.eq_nil_or_concat ss with rfl|⟨r,s,rfl⟩
 ·rfl
 ·rw[List.concat_eq_append,JM.at_snoc,JM.at_snoc]
theorem JM.at_ds(limit:Nat)(ss:List Seg)(ds:Bool):(JM.at limit ss ds).dirSafe=ds:=by
 rcases List.eq_nil_or_concat ss with rfl|⟨r,s,rfl⟩
 ·rfl
 ·rw[List.concat_eq_append,JM.at_snoc]
structure Lies(M:DM)(ss:List Seg):Prop where
 view:M.view=ZV 0 ss
 once:(M.dir.map (·.2)).Nodup
 inD:∀ e∈M.dir,e.2∈M.ids
structure Logged(J:JM)(M:DM)(ss:List Seg):Prop where
 lies:Lies M ss
 j:J=JM.at J.limit ss J.dirSafe
theorem Lies.same{M M':DM}{ss:List Seg}(h:Lies M ss)(h1:M'.dir=M.dir)(h2:∀ g,(M'.file g).bytes=(M.file g).bytes)(h3:M'.ids=M.ids):Lies M' ss :=
 ⟨by rw[← h.view];unfold DM.view;rw[h1];simp only[h2],by rw[h1];exact h.once,by rw[h1,h3];exact h.inD⟩
theorem Lies.length{M:DM}{ss:List Seg}(h:Lies M ss):M.dir.length=ss.length:=by
 have:=congrArg List.length h.view
 rw[QJ] at this
 simpa [DM.view] using this
theorem Lies.names{M:DM}{ss:List Seg}(h:Lies M ss):M.dir.map Prod.fst=(List.range ss.length).map fun i=>ze zk (i+1):=by
 have:=congrArg (List.map Prod.fst) h.view
 rw[UI] at this
 simpa [DM.view,Function.comp_def] using this
theorem Nf(d:Dir)(e:ByteArray × Nat)(h:∀ x∈d,x.1≠e.1):Dir.look (d++[e]) e.1=some e.2:=by
 have hf:d.find? (fun x=>x.1==e.1)=none:=by
  rw[List.find?_eq_none]
  intro x hx a
  exact h x hx (zR.1 a)
 unfold Dir.look
 rw[List.find?_append,hf]
 simp[zR]
theorem Lies.mem{M:DM}{ss:List Seg}(h:Lies M ss){e:ByteArray × Nat}(he:e∈M.dir):∃ i,i<ss.length∧e.1=ze zk (i+1):=by
 have:e.1∈M.dir.map Prod.fst:=List.mem_map_of_mem he
 rw[h.names] at this
 obtain⟨i,hi,hx⟩:=List.mem_map.1 this
 exact⟨i,List.mem_range.1 hi,hx.symm⟩
theorem Lies.last{M:DM}{pre:List Seg}{s:Seg}(h:Lies M (pre++[s])):∃ d f,M.dir=d++[(ze zk (pre.length+1),f)]∧(M.file f).bytes=ZM s∧M.dir.look (ze zk (pre.length+1))=some f∧f∉d.map (·.2)∧d.map (fun e=>(e.1,(M.file e.2).bytes))=ZV 0 pre:=by
 have hv:=h.view
 rw[We] at hv
 unfold DM.view at hv
 obtain⟨d,r,hd,h1,h2⟩:=List.map_eq_append_iff.1 hv
 obtain⟨e,hr,h3⟩:∃ e,r=[e]∧(e.1,(M.file e.2).bytes)=(ze zk (pre.length+1),ZM s):=by
  simp only[ZV,Nat.zero_add] at h2
  cases r with
  | nil=>cases h2
  | cons e r =>
   cases r with
   | nil=>exact⟨e,rfl,by simpa using h2⟩
   | cons e2 r=>simp at h2
 subst hr
 obtain⟨n,f⟩:=e
 simp only[Prod.mk.injEq] at h3
 obtain⟨rfl,h4⟩:=h3
 refine⟨d,f,hd,h4,?_,?_,h1⟩
 ·rw[hd]
  refine Nf d (ze zk (pre.length+1),f) fun x hx e=>?_
  have hx2:x.1∈(d.map (fun e=>(e.1,(M.file e.2).bytes))).map Prod.fst:=by
   rw[List.map_map];exact List.mem_map_of_mem hx
  rw[h1,UI] at hx2
  obtain⟨i,hi,he⟩:=List.mem_map.1 hx2
  have:=XW (he.trans e)
  have:=List.mem_range.1 hi
  omega
 ·have:=h.once
  rw[hd,List.map_append,List.nodup_append] at this
  intro hf
  exact this.2.2 f hf f (by simp) rfl
theorem Lies.put{M M':DM}{pre:List Seg}{s s':Seg}{f:Nat}(h:Lies M (pre++[s]))(hl:M.dir.look (ze zk (pre.length+1))=some f)(h1:M'.dir=M.dir)(h2:∀ g,g≠f→(M'.file g).bytes=(M.file g).bytes)(h3:(M'.file f).bytes=ZM s')(h4:M'.ids=M.ids):Lies M' (pre++[s']):=by
 obtain⟨d,f',hd,_,hl',hnf,hv⟩:=h.last
 obtain rfl:f'=f:=Option.some.inj (hl'.symm.trans hl)
 refine⟨?_,by rw[h1];exact h.once,by rw[h1,h4];exact h.inD⟩
 unfold DM.view
 rw[h1,hd,List.map_append,We,← hv]
 congr 1
 ·refine List.map_congr_left fun e he=>?_
  rw[h2 e.2 (fun x=>hnf (x▸List.mem_map_of_mem he))]
 ·simp[ZV,h3]
theorem Lies.more{M M':DM}{ss:List Seg}{f:Nat}(h:Lies M ss)(h1:M'.dir=M.dir++[(ze zk (ss.length+1),f)])(hid:f∉M.ids)(h2:∀ g,g≠f→(M'.file g).bytes=(M.file g).bytes)(h3:(M'.file f).bytes=[])(h4:M'.ids=f::M.ids):Lies M' (ss++[([],[])]):=by
 have hf:f∉M.dir.map (·.2):=fun hm=>by
  obtain⟨e,he,rfl⟩:=List.mem_map.1 hm
  exact hid (h.inD e he)
 refine⟨?_,?_,fun e he=>?_⟩
 ·unfold DM.view
  rw[h1,List.map_append,We,← h.view]
  congr 1
  ·unfold DM.view
   refine List.map_congr_left fun e he=>?_
   rw[h2 e.2 (fun x=>hf (x▸List.mem_map_of_mem he))]
  ·simp[ZV,h3,ZM,Za]
 ·rw[h1,List.map_append,List.nodup_append]
  refine⟨h.once,by simp,fun a ha b hb e=>?_⟩
  simp only[List.map_cons,List.map_nil,List.mem_singleton] at hb
  subst hb e
  exact hf ha
 ·rw[h1] at he
  rw[h4]
  rcases List.mem_append.1 he with he|he
  ·exact List.mem_cons_of_mem _ (h.inD e he)
  ·rw[List.mem_singleton] at he;subst he;exact List.mem_cons_self ..
theorem Lies.none{M:DM}{ss:List Seg}(h:Lies M ss):M.dir.look (ze zk (ss.length+1))=none :=
 TK fun e he x=>by
  obtain⟨i,hi,hx⟩:=h.mem he
  have:=XW (hx.symm.trans x)
  omega
theorem X0(M:DM):M.begins.2.2.dir=M.dir∧M.begins.2.2.file=M.file∧M.begins.2.2.ids=M.ids∧M.begins.2.2.part=M.part:=by
 unfold DM.begins
 simp only
 split
 ·exact⟨rfl,rfl,rfl,rfl⟩
 ·split
  ·exact⟨rfl,rfl,rfl,rfl⟩
  ·split <;> exact⟨rfl,rfl,rfl,rfl⟩
theorem Wf{M:DM}(h:M.begins.2.1=0):M.begins.1=true:=by
 unfold DM.begins at h ⊢
 simp only at h ⊢
 split at h
 ·cases h
 ·split at h
  ·cases h
  ·split at h
   ·cases h
   ·rename_i a b c
    rw[if_neg a,if_neg b,if_neg c]
theorem Ng(M:DM)(name:ByteArray):(M.sync name).2.dir=M.dir∧(∀ g,((M.sync name).2.file g).bytes=(M.file g).bytes)∧(M.sync name).2.part=M.part∧(M.sync name).2.ids=M.ids:=by
 have hb:=X0 M
 unfold DM.sync
 cases M.dir.look name with
 | none=>exact⟨rfl,fun _=>rfl,rfl,rfl⟩
 | some f =>
  simp only
  split
  ·refine⟨hb.1,fun g=>?_,hb.2.2.2,hb.2.2.1⟩
   simp only[DM.setFile,hb.2.1]
   split
   ·rename_i e;subst e;rfl
   ·rfl
  ·exact⟨hb.1,fun g=>by rw[hb.2.1],hb.2.2.2,hb.2.2.1⟩
theorem WY(J:JM)(M:DM):(J.syncLast M).2.dir=M.dir∧(∀ g,((J.syncLast M).2.file g).bytes=(M.file g).bytes)∧(J.syncLast M).2.part=M.part∧(J.syncLast M).2.ids=M.ids:=by
 unfold JM.syncLast
 split
 ·exact⟨rfl,fun _=>rfl,rfl,rfl⟩
 ·exact Ng M J.name
theorem RN(M:DM):M.syncDir.2.dir=M.dir∧M.syncDir.2.file=M.file∧M.syncDir.2.part=M.part∧M.syncDir.2.ids=M.ids:=by
 have hb:=X0 M
 unfold DM.syncDir
 simp only
 split
 ·exact⟨hb.1,hb.2.1,hb.2.2.2,hb.2.2.1⟩
 ·exact⟨hb.1,hb.2.1,hb.2.2.2,hb.2.2.1⟩
theorem Mo{M:DM}{name:ByteArray}{f:Nat}(hl:M.dir.look name=some f)(hp:0≤M.part)(data:ByteArray) :
  ∃ k,k≤data.size∧(M.add name data).2.dir=M.dir∧(∀ g,g≠f→((M.add name data).2.file g).bytes=(M.file g).bytes)∧((M.add name data).2.file f).bytes=(M.file f).bytes++data.data.toList.take k∧((M.add name data).1=0→k=data.size)∧(M.add name data).2.part=M.part∧(M.add name data).2.ids=M.ids:=by
 have hb:=X0 M
 have hx:∀ n:Nat,(data.extract 0 n).data.toList=data.data.toList.take n:=by
  intro n
  rw[ByteArray.data_extract]
  simp
 have hset:∀ (M1:DM) (n:Nat),M1.dir=M.dir→M1.file=M.file→M1.part=M.part→M1.ids=M.ids →
   (M1.setFile f {M1.file f with bytes:=(M1.file f).bytes++(data.extract 0 n).data.toList}).dir=M.dir∧(∀ g,g≠f→((M1.setFile f {M1.file f with bytes:=(M1.file f).bytes++(data.extract 0 n).data.toList}).file g).bytes=(M.file g).bytes)∧((M1.setFile f {M1.file f with bytes:=(M1.file f).bytes++(data.extract 0 n).data.toList}).file f).bytes=(M.file f).bytes++data.data.toList.take n∧(M1.setFile f {M1.file f with bytes:=(M1.file f).bytes++(data.extract 0 n).data.toList}).part=M.part∧(M1.setFile f {M1.file f with bytes:=(M1.file f).bytes++(data.extract 0 n).data.toList}).ids=M.ids:=by
  intro M1 n e1 e2 e3 e4
  refine⟨e1,fun g hg=>?_,?_,e3,e4⟩
  ·simp only[DM.setFile,if_neg hg,e2]
  ·simp only[DM.setFile,if_true,e2,hx]
 have hds:data.data.toList.length=data.size:=by rw[Array.length_toList];rfl
 unfold DM.add
 rw[hl]
 simp only
 cases ht:M.tries data.size with
 | none =>
  refine⟨0,Nat.zero_le _,hb.1,fun g _=>by rw[hb.2.1],by simp[hb.2.1],fun h0=>?_,hb.2.2.2,hb.2.2.1⟩
  unfold DM.tries at ht
  rw[Wf h0] at ht
  cases ht
 | some n =>
  have hn0:0≤n∧n≤data.size∧(M.begins.2.1=0→n=data.size):=by
   unfold DM.tries at ht
   split at ht
   ·rename_i h1
    obtain rfl:=Option.some.inj ht
    exact⟨by omega,Int.le_refl _,fun _=>rfl⟩
   ·rename_i h1
    split at ht
    ·rename_i h2
     obtain rfl:=Option.some.inj ht
     refine⟨Int.tmod_nonneg _ hp,Int.le_of_lt (Int.tmod_lt_of_pos _ h2.2),fun h0=>absurd (Wf h0) h1⟩
    ·cases ht
  simp only
  obtain⟨m,hm⟩:=DM.left_nat M.begins.2.2
  by_cases hlt:M.begins.2.2.left<n
  ·rw[if_pos hlt]
   by_cases h0:M.begins.2.1=0
   ·rw[if_pos h0]
    obtain⟨a,b,c,d⟩:=hset {M.begins.2.2 with refused:=wrap64 (M.begins.2.2.refused+1),fulls:=wrap64 (M.begins.2.2.fulls+1)} M.begins.2.2.left.toNat hb.1 hb.2.1 hb.2.2.2 hb.2.2.1
    exact⟨M.begins.2.2.left.toNat,by omega,a,b,c,(fun h=>by cases h),d⟩
   ·rw[if_neg h0]
    obtain⟨a,b,c,d⟩:=hset M.begins.2.2 M.begins.2.2.left.toNat hb.1 hb.2.1 hb.2.2.2 hb.2.2.1
    exact⟨M.begins.2.2.left.toNat,by omega,a,b,c,fun h=>absurd h h0,d⟩
  ·rw[if_neg hlt]
   obtain⟨a,b,c,d⟩:=hset M.begins.2.2 n.toNat hb.1 hb.2.1 hb.2.2.2 hb.2.2.1
   exact⟨n.toNat,by omega,a,b,c,fun h=>by have:=hn0.2.2 h;omega,d⟩
theorem Logged.begin{J:JM}{M:DM}{ss:List Seg}(h:Logged J M ss)(f:Nat)(hf:f∉M.ids) :
  ∃ ss',Lies (J.begin M (J.last+1) f).2.2 ss'∧(ss'=ss∨ss'=ss++[([],[])])∧(J.begin M (J.last+1) f).2.2.part=M.part∧(∀ g∈(J.begin M (J.last+1) f).2.2.ids,g=f∨g∈M.ids)∧((J.begin M (J.last+1) f).1=none→ss'=ss++[([],[])]∧Logged (J.begin M (J.last+1) f).2.1 (J.begin M (J.last+1) f).2.2 ss'):=by
 obtain⟨e1,e2,e3,e4⟩:=WY J M
 have hs:=h.lies.same e1 e2 e4
 have hlast:J.last=ss.length:=by rw[h.j];exact JM.at_last _ _ _
 unfold JM.begin
 cases hsl:(J.syncLast M).1 with
 | some n=>exact⟨ss,hs,.inl rfl,e3,(fun g hg=>.inr (e4▸hg)),fun h=>by cases h⟩
 | none =>
  simp only
  generalize (J.syncLast M).2=M1 at *
  have hb:=X0 M1
  have hno:=hs.none
  have hfn:f∉M1.ids:=by rw[e4];exact hf
  rw[hlast]
  have hcr:M1.create (ze zk (ss.length+1)) f=(M1.begins.2.1,if M1.begins.1=true then(M1.begins.2.2.addFile f).turned (M1.begins.2.2.dir++[(ze zk (ss.length+1),f)]) else M1.begins.2.2):=by
   unfold DM.create
   rw[if_neg (by rw[hno];rintro(e|e);exact Rj _ e;cases e)]
  rw[hcr]
  simp only
  by_cases hd:M1.begins.1=true
  ·have hl:Lies ((M1.begins.2.2.addFile f).turned (M1.begins.2.2.dir++[(ze zk (ss.length+1),f)])) (ss++[([],[])]):=by
    refine hs.more (f:=f) (by simp only[DM.turned,hb.1]) hfn (fun g hg=>?_) ?_ ?_
    ·simp only[DM.turned,DM.addFile,if_neg hg,hb.2.1]
    ·simp only[DM.turned,DM.addFile,if_true]
    ·simp only[DM.turned,DM.addFile,hb.2.2.1]
   rw[if_pos hd]
   have hid:∀ g∈((M1.begins.2.2.addFile f).turned (M1.begins.2.2.dir++[(ze zk (ss.length+1),f)])).ids,g=f∨g∈M.ids:=fun g hg=>by
    simp only[DM.turned,DM.addFile,hb.2.2.1,List.mem_cons] at hg
    exact hg.imp id (fun x=>e4▸x)
   refine⟨ss++[([],[])],?_,.inr rfl,?_,?_,fun h0=>⟨rfl,?_,?_⟩⟩
   ·split
    ·exact hl
    ·exact hl
   ·split
    ·exact hb.2.2.2.trans e3
    ·exact hb.2.2.2.trans e3
   ·split
    ·exact hid
    ·exact hid
   ·split
    ·exact hl
    ·exact hl
   ·split
    ·simp only[JM.at_snoc,ZM,Za]
     simp
    ·rename_i hne
     rw[if_neg hne] at h0
     cases h0
  ·have hne:¬M1.begins.2.1=0:=fun h0=>hd (Wf h0)
   rw[if_neg hne,if_neg hd]
   exact⟨ss,hs.same hb.1 (fun g=>by rw[hb.2.1]) hb.2.2.1,.inl rfl,hb.2.2.2.trans e3,(fun g hg=>.inr (by rw[hb.2.2.1,e4] at hg;exact hg)),fun h=>by cases h⟩
theorem Logged.makeRoom{J:JM}{M:DM}{ss:List Seg}(h:Logged J M ss)(n f:Nat)(hf:f∉M.ids) :
  ∃ ss',Lies (J.makeRoom M n f).2.2 ss'∧(ss'=ss∨ss'=ss++[([],[])])∧(J.makeRoom M n f).2.2.part=M.part∧(∀ g∈(J.makeRoom M n f).2.2.ids,g=f∨g∈M.ids)∧((J.makeRoom M n f).1=none→Logged (J.makeRoom M n f).2.1 (J.makeRoom M n f).2.2 ss'∧∃ pre fs,ss'=pre++[(fs,[])]):=by
 unfold JM.makeRoom
 cases hb:J.fits n with
 | true =>
  simp only[if_true]
  refine⟨ss,h.lies,.inl rfl,(by first|rfl|trivial),(fun g hg=>.inr hg),fun _=>⟨h,?_⟩⟩
  unfold JM.fits at hb
  simp only[Bool.and_eq_true,decide_eq_true_eq,Bool.not_eq_true'] at hb
  obtain⟨h1,h2,_⟩:=hb
  rcases List.eq_nil_or_concat ss with rfl|⟨r,s,rfl⟩
  ·rw[h.j] at h1;exact absurd rfl h1
  ·rw[List.concat_eq_append] at h ⊢
   rw[h.j,JM.at_snoc] at h2
   simp only[decide_eq_false_iff_not,Nat.not_lt,Nat.le_zero_eq] at h2
   obtain⟨fs,tl⟩:=s
   obtain rfl:tl=[]:=List.eq_nil_of_length_eq_zero h2
   exact⟨r,fs,rfl⟩
 | false =>
  simp only[Bool.false_eq_true,if_false]
  obtain⟨ss',h1,h2,h3,h5,h4⟩:=h.begin f hf
  exact⟨ss',h1,h2,h3,h5,fun h0=>⟨(h4 h0).2,ss,[],(h4 h0).1⟩⟩
theorem Logged.append{J:JM}{M:DM}{ss:List Seg}(h:Logged J M ss)(hp:0≤M.part)(hok:YR ss)(x:Fact)(hx:ZR x)(f:Nat)(hf:f∉M.ids) :
  ∃ ss',Lies (J.append M (zg x) f).2.2.2 ss'∧YR ss'∧zl ss'=zl ss++(if (J.append M (zg x) f).1=true then [x] else [])∧(J.append M (zg x) f).2.2.2.part=M.part∧(∀ g∈(J.append M (zg x) f).2.2.2.ids,g=f∨g∈M.ids) ∧
   ((J.append M (zg x) f).2.1=none→(J.append M (zg x) f).1=true∧Logged (J.append M (zg x) f).2.2.1 (J.append M (zg x) f).2.2.2 ss'):=by
 have hnil:Vu ([],[]):=⟨(fun x hx=>by cases hx),RM⟩
 obtain⟨s1,h1,h2,h3,h5,h4⟩:=h.makeRoom (zg x).size f hf
 have hok1:YR s1:=by
  rcases h2 with rfl|rfl
  ·exact hok
  ·intro s hs
   rcases List.mem_append.1 hs with hs|hs
   ·exact hok s hs
   ·rw[List.mem_singleton] at hs;subst hs;exact hnil
 have hfa:zl s1=zl ss:=by
  rcases h2 with rfl|rfl
  ·rfl
  ·rw[Zo];simp[zl]
 unfold JM.append
 cases he:(J.makeRoom M (zg x).size f).1 with
 | some n =>
  simp only[Bool.false_eq_true,if_false,List.append_nil]
  exact⟨s1,h1,hok1,hfa,h3,h5,fun h=>by cases h⟩
 | none =>
  obtain⟨hL,pre,fs,rfl⟩:=h4 he
  simp only
  generalize (J.makeRoom M (zg x).size f).2.1=J1 at *
  generalize (J.makeRoom M (zg x).size f).2.2=M1 at *
  obtain⟨d,g,hd,hby,hlk,hng,hv⟩:=h1.last
  have hj:=hL.j
  rw[JM.at_snoc] at hj
  have hname:J1.name=ze zk (pre.length+1):=by rw[hj]
  have hsize:J1.size=(Za fs).length:=by rw[hj];simp[ZM]
  have htorn:J1.torn=false:=by rw[hj];simp
  have hlast:J1.last=pre.length+1:=by rw[hj]
  have hlk':M1.dir.look J1.name=some g:=by rw[hname];exact hlk
  obtain⟨k,hk,a1,a2,a3,a4,a5,a6⟩:=Mo hlk' (by rw[h3];exact hp) (zg x)
  have hid:∀ g∈(M1.add J1.name (zg x)).2.ids,g=f∨g∈M.ids:=fun g hg=>h5 g (a6▸hg)
  have hrs:(zg x).data.toList.length=(zg x).size:=by rw[Array.length_toList];rfl
  have hby':(M1.file g).bytes=Za fs:=by rw[hby];simp[ZM]
  rw[hby'] at a3
  have hhas:J1.has (M1.add J1.name (zg x)).2 (J1.size+(zg x).size)=decide (k=(zg x).size):=by
   unfold JM.has DM.size
   rw[a1,hlk']
   simp only[a3,List.length_append,List.length_take,hrs]
   rw[hsize,show((0:Int)==0)=true from rfl,Bool.true_and,Nat.min_eq_left hk]
   by_cases e:k=(zg x).size
   ·rw[decide_eq_true e,beq_iff_eq];omega
   ·rw[decide_eq_false e,beq_eq_false_iff_ne];omega
  have hokx:∀ s':Seg,Vu s'→YR (pre++[s']):=fun s' hs' s hs=>by
   rcases List.mem_append.1 hs with hs|hs
   ·exact hok1 s (List.mem_append_left _ hs)
   ·rw[List.mem_singleton] at hs;subst hs;exact hs'
  have hfs:=(hok1 (fs,[]) (by simp)).1
  by_cases hfull:k=(zg x).size
  ·-- all of it
   have hput:Lies (M1.add J1.name (zg x)).2 (pre++[(fs++[x],[])]):=by
    refine h1.put hlk a1 a2 ?_ a6
    rw[a3,hfull,← hrs,List.take_length]
    simp only[ZM,List.append_nil,VN]
   have hsok:Vu (fs++[x],[]):=⟨fun y hy=>by
    rcases List.mem_append.1 hy with hy|hy
    ·exact hfs y hy
    ·rw[List.mem_singleton] at hy;subst hy;exact hx,RM⟩
   have hfx:zl (pre++[(fs++[x],[])])=zl ss++[x]:=by
    rw[← hfa,Zo,Zo]
    simp[zl]
   have hjj:({J1 with size:=J1.size+(zg x).size}:JM)=JM.at ({J1 with size:=J1.size+(zg x).size}:JM).limit (pre++[(fs++[x],[])]) ({J1 with size:=J1.size+(zg x).size}:JM).dirSafe:=by
    rw[JM.at_snoc]
    obtain⟨jl,jla,jn,js,jt,jd⟩:=J1
    simp only at hname hsize htorn hlast ⊢
    subst hname hsize htorn hlast
    simp[ZM,VN,hrs]
   rw[hfull,decide_eq_true rfl] at hhas
   unfold JM.appendTo
   by_cases h0:(M1.add J1.name (zg x)).1=0
   ·rw[if_pos h0]
    exact⟨_,hput,hokx _ hsok,hfx,a5.trans h3,hid,fun _=>⟨rfl,hput,hjj⟩⟩
   ·rw[if_neg h0,if_pos hhas]
    exact⟨_,hput,hokx _ hsok,hfx,a5.trans h3,hid,fun h=>by cases h⟩
  ·-- a piece
   have h0:¬(M1.add J1.name (zg x)).1=0:=fun h0=>hfull (a4 h0)
   rw[decide_eq_false hfull] at hhas
   have hput:Lies (M1.add J1.name (zg x)).2 (pre++[(fs,(zg x).data.toList.take k)]):=h1.put hlk a1 a2 a3 a6
   have hsok:Vu (fs,(zg x).data.toList.take k):=⟨hfs,zx x,by rw[WG];exact List.take_prefix _ _,fun e=>by
    have:=congrArg List.length e
    rw[List.length_take,← WG,hrs] at this
    omega,hx.2⟩
   have hfx:zl (pre++[(fs,(zg x).data.toList.take k)])=zl ss:=by
    rw[← hfa,Zo,Zo]
    simp[zl]
   unfold JM.appendTo
   rw[if_neg h0,if_neg (by rw[hhas];decide)]
   simp only[Bool.false_eq_true,if_false,List.append_nil]
   exact⟨_,hput,hokx _ hsok,hfx,a5.trans h3,hid,fun h=>by cases h⟩
theorem Logged.syncAll{J:JM}{M:DM}{ss:List Seg}(h:Logged J M ss):Logged (J.syncAll M).2.1 (J.syncAll M).2.2 ss∧(J.syncAll M).2.2.part=M.part∧(J.syncAll M).2.2.ids=M.ids:=by
 obtain⟨e1,e2,e3,e4⟩:=WY J M
 unfold JM.syncAll
 split
 ·unfold JM.syncDir
  obtain⟨s1,s2,s3,s4⟩:=RN (J.syncLast M).2
  refine⟨⟨(h.lies.same e1 e2 e4).same s1 (fun g=>by rw[s2]) s4,?_⟩,s3.trans e3,s4.trans e4⟩
  have hj:=h.j
  show({J with dirSafe:=_}:JM)=JM.at J.limit ss _
  rw[← JM.at_safe J.limit ss J.dirSafe,← hj]
 ·exact⟨⟨h.lies.same e1 e2 e4,h.j⟩,e3,e4⟩
def SM.nil:SM:={keys:=[],hints:=[],leased:=0}
def Z4(ss:List Seg):SM:=(zl ss).foldl SM.enter SM.nil
structure Keeps(N:NM)(M:DM)(ss:List Seg)(good:Prop):Prop where
 lies:Lies M ss
 part:0≤M.part
 ok:YR ss
 held:N.S=Z4 ss
 few:∀ i,(((zl ss).take i).foldl SM.enter SM.nil).hints.length≤32
 j:good→N.J=JM.at N.J.limit ss N.J.dirSafe
theorem Keeps.mono{N:NM}{M:DM}{ss:List Seg}{P Q:Prop}(h:Keeps N M ss P)(f:Q→P):Keeps N M ss Q:=⟨h.lies,h.part,h.ok,h.held,h.few,fun q=>h.j (f q)⟩
theorem Keeps.ans{N:NM}{M:DM}{ss:List Seg}{P:Prop}(h:Keeps N M ss P)(e:Option Int):Keeps (N.ans e) M ss P:=⟨h.lies,h.part,h.ok,h.held,h.few,h.j⟩
def Kept(M:DM)(P:Nat→Prop)(N':NM)(M':DM)(good:Prop):Prop:=∃ ss',Keeps N' M' ss' good∧∀ g∈M'.ids,P g∨g∈M.ids
theorem Keeps.same{N:NM}{M:DM}{ss:List Seg}{P:Prop}(h:Keeps N M ss P)(Q:Nat→Prop):Kept M Q N M P:=⟨ss,h,fun _ hg=>.inr hg⟩
theorem Keeps.hints{N:NM}{M:DM}{ss:List Seg}{P:Prop}(h:Keeps N M ss P):N.S.hints.length≤32:=by
 have:=h.few (zl ss).length
 rw[List.take_length] at this
 rw[h.held]
 exact this
theorem Keeps.write{N:NM}{M:DM}{ss:List Seg}(h:Keeps N M ss True)(x:Fact)(hx:ZR x)(hq:(N.S.enter x).hints.length≤32)(f:Nat)(hf:f∉M.ids):Kept M (·=f) (N.write M x f).2.1 (N.write M x f).2.2 ((N.write M x f).1=none):=by
 obtain⟨ss',h1,h2,h3,h4,h5,h6⟩:=Logged.append ⟨h.lies,h.j trivial⟩ h.part h.ok x hx f hf
 refine⟨ss',⟨h1,?_,h2,?_,fun i=>?_,fun h0=>(h6 h0).2.j⟩,h5⟩
 ·show 0≤(N.J.append M (zg x) f).2.2.2.part
  rw[h4]
  exact h.part
 ·show(if (N.J.append M (zg x) f).1=true then N.S.enter x else N.S)=_
  rw[h.held]
  unfold Z4
  rw[h3]
  split
  ·rw[List.foldl_append];rfl
  ·rw[List.append_nil]
 ·rw[h3]
  by_cases hi:i≤(zl ss).length
  ·rw[List.take_append_of_le_length hi]
   exact h.few i
  ·split
   ·rw[List.take_of_length_le (by simp;omega),List.foldl_append]
    have:(N.S.enter x).hints.length≤32:=hq
    rw[h.held] at this
    exact this
   ·rw[List.append_nil]
    exact h.few i
theorem Keeps.sync{N:NM}{M:DM}{ss:List Seg}(h:Keeps N M ss True):Keeps (N.sync M).2.1 (N.sync M).2.2 ss True∧(N.sync M).2.2.ids=M.ids:=by
 obtain⟨h1,h2,h3⟩:=Logged.syncAll (J:=N.J) (M:=M) ⟨h.lies,h.j trivial⟩
 exact⟨⟨h1.lies,by show 0≤(N.J.syncAll M).2.2.part;rw[h2];exact h.part,h.ok,h.held,h.few,fun _=>h1.j⟩,h3⟩
theorem Keeps.counted{N:NM}{M:DM}{ss:List Seg}(h:Keeps N M ss True):Keeps (N.counted M).2.1 (N.counted M).2.2 ss True∧(N.counted M).2.2.ids=M.ids:=by
 unfold NM.counted
 split
 ·exact⟨⟨h.lies,h.part,h.ok,h.held,h.few,h.j⟩,rfl⟩
 ·exact Keeps.sync (N:={N with writes:=0}) ⟨h.lies,h.part,h.ok,h.held,h.few,h.j⟩
theorem Keeps.change{N:NM}{M:DM}{ss:List Seg}(h:Keeps N M ss True)(x:Fact)(hx:ZR x)(hq:(N.S.enter x).hints.length≤32)(f:Nat)(hf:f∉M.ids):Kept M (·=f) (N.change M x f).2.1 (N.change M x f).2.2 ((N.change M x f).1=none):=by
 obtain⟨ss',h1,h2⟩:=h.write x hx hq f hf
 unfold NM.change
 cases he:(N.write M x f).1 with
 | some n=>exact⟨ss',h1.mono (fun h=>by cases h),h2⟩
 | none =>
  obtain⟨h3,h4⟩:=(h1.mono (fun _=>he)).counted
  exact⟨ss',h3.mono (fun _=>trivial),fun g hg=>h2 g (h4▸hg)⟩
theorem Nh{N:NM}{e:Option Int}(h:(N.ans e).readOnly=false):e=none:=by
 cases e with
 | none=>rfl
 | some n=>simp[NM.ans] at h
theorem Keeps.asked{N:NM}{M:DM}{ss:List Seg}(h:Keeps N M ss True)(x:Fact)(hx:ZR x)(hq:(N.S.enter x).hints.length≤32)(f:Nat)(hf:f∉M.ids):Kept M (·=f) (N.asked M x f).2.1 (N.asked M x f).2.2 ((N.asked M x f).2.1.readOnly=false):=by
 obtain⟨ss',h1,h2⟩:=h.change x hx hq f hf
 exact⟨ss',(h1.ans _).mono (fun h0=>Nh h0),h2⟩
theorem RO{n:Nat}(h:n<9223372036854775808):ZR (.inl n):=by
 refine⟨⟨h,trivial⟩,?_⟩
 have h1:=zH (n:=1) (by decide)
 have h2:=zH h
 show(zd 1++zd n).length<_
 rw[List.length_append]
 omega
theorem Keeps.lease{N:NM}{M:DM}{ss:List Seg}(h:Keeps N M ss True)(hg:N.given<1000000000000)(f:Nat)(hf:f∉M.ids):Kept M (·=f) (N.lease M f).2.1 (N.lease M f).2.2 ((N.lease M f).1=none):=by
 obtain⟨ss',h1,h2⟩:=h.write (.inl (N.given+16)) (RO (by omega)) h.hints f hf
 unfold NM.lease
 cases he:(N.write M (.inl (N.given+16)) f).1 with
 | some n=>exact⟨ss',h1.mono (fun h=>by cases h),h2⟩
 | none =>
  obtain⟨h3,h4⟩:=(h1.mono (fun _=>he)).sync
  exact⟨ss',h3.mono (fun _=>trivial),fun g hg=>h2 g (h4▸hg)⟩
theorem Keeps.next{N:NM}{M:DM}{ss:List Seg}(h:Keeps N M ss True)(hg:N.given<1000000000000)(f:Nat)(hf:f∉M.ids):Kept M (·=f) (N.next M f).2.2.1 (N.next M f).2.2.2 ((N.next M f).1=none):=by
 unfold NM.next
 split
 ·exact⟨ss,⟨h.lies,h.part,h.ok,h.held,h.few,fun _=>h.j trivial⟩,fun _ hg=>.inr hg⟩
 ·obtain⟨ss',h1,h2⟩:=h.lease hg f hf
  cases he:(N.lease M f).1 with
  | some n=>exact⟨ss',h1.mono (fun h=>by cases h),h2⟩
  | none=>exact⟨ss',⟨h1.lies,h1.part,h1.ok,h1.held,h1.few,fun _=>h1.j he⟩,h2⟩
theorem VQ(S:SM)(key:ByteArray)(l:List Ver):(S.holds key l).hints=S.hints:=by
 unfold SM.holds
 split <;> rfl
theorem Keeps.replace{N:NM}{M:DM}{ss:List Seg}(h:Keeps N M ss True)(hgv:N.given<1000000000000)(key:ByteArray)(vs:NM→Nat→List Ver)(f g:Nat)(hf:f∉M.ids)(hg:g∉M.ids)(ha:Apart2 N M f g)(hx:ZR (.inr (.inl (key,vs (N.next M f).2.2.1 (N.next M f).2.1)))) :
  Kept M (fun k=>k=f∨k=g) (N.replace M key vs f g).2.2.1 (N.replace M key vs f g).2.2.2 ((N.replace M key vs f g).2.2.1.readOnly=false):=by
 obtain⟨s1,h1,i1⟩:=h.next hgv f hf
 unfold NM.replace
 cases he:(N.next M f).1 with
 | some n=>exact⟨s1,(h1.ans (some n)).mono (fun h0=>by have:=Nh h0;cases this),fun k hk=>(i1 k hk).imp .inl id⟩
 | none =>
  have hg1:g∉(N.next M f).2.2.2.ids:=fun hm=>by
   rcases i1 g hm with e|e
   ·exact ha e.symm (e▸hm)
   ·exact hg e
  obtain⟨s2,h2,i2⟩:=(h1.mono (fun _=>he)).asked _ hx (by show(SM.holds _ _ _).hints.length≤32;rw[VQ];exact h1.hints) g hg1
  have hi:∀ k∈((N.next M f).2.2.1.asked (N.next M f).2.2.2 (.inr (.inl (key,vs (N.next M f).2.2.1 (N.next M f).2.1))) g).2.2.ids,(k=f∨k=g)∨k∈M.ids:=fun k hk=>(i2 k hk).elim (fun e=>.inl (.inr e)) (fun hm=>(i1 k hm).imp .inl id)
  simp only
  split
  ·exact⟨s2,h2,hi⟩
  ·exact⟨s2,h2,hi⟩
theorem Keeps.put{N:NM}{M:DM}{ss:List Seg}(h:Keeps N M ss (N.readOnly=false))(hgv:N.given<1000000000000)(key text:ByteArray)(f g:Nat)(hf:f∉M.ids)(hg:g∉M.ids)(ha:Apart2 N M f g)(hx:zm key=true→text.size≤128→ZR (.inr (.inl (key,putV key text (N.next M f).2.2.1 (N.next M f).2.1)))) :
  Kept M (fun k=>k=f∨k=g) (N.put M key text f g).2.2.1 (N.put M key text f g).2.2.2 ((N.put M key text f g).2.2.1.readOnly=false):=by
 unfold NM.put
 split
 ·exact h.same _
 ·rename_i hk
  split
  ·exact h.same _
  ·rename_i hs
   split
   ·exact h.same _
   ·rename_i hr
    exact(h.mono (fun _=>by simpa using hr)).replace hgv key _ f g hf hg ha (hx (by simpa using hk) (by omega))
theorem Keeps.delete{N:NM}{M:DM}{ss:List Seg}(h:Keeps N M ss (N.readOnly=false))(hgv:N.given<1000000000000)(key:ByteArray)(f g:Nat)(hf:f∉M.ids)(hg:g∉M.ids)(ha:Apart2 N M f g)(hx:zm key=true→ZR (.inr (.inl (key,[])))) :
  Kept M (fun k=>k=f∨k=g) (N.delete M key f g).2.2.1 (N.delete M key f g).2.2.2 ((N.delete M key f g).2.2.1.readOnly=false):=by
 unfold NM.delete
 split
 ·exact h.same _
 ·rename_i hk
  split
  ·exact h.same _
  ·rename_i hr
   exact(h.mono (fun _=>by simpa using hr)).replace hgv key _ f g hf hg ha (hx (by simpa using hk))
theorem Keeps.accept{N:NM}{M:DM}{ss:List Seg}(h:Keeps N M ss (N.readOnly=false))(key:ByteArray)(v:Ver)(f:Nat)(hf:f∉M.ids)(hx:zm key=true→v.value.size≤128→foreign N.self v=true→(v.gone=false→(zn (zc N.S.keys key) v).length<4)→ZR (.inr (.inl (key,ZB (zc N.S.keys key) v)))) :
  Kept M (·=f) (N.accept M key v f).2.1 (N.accept M key v f).2.2 ((N.accept M key v f).2.1.readOnly=false):=by
 unfold NM.accept
 split
 ·exact h.same _
 ·rename_i hk
  split
  ·exact h.same _
  ·rename_i hs
   split
   ·exact h.same _
   ·rename_i hfo
    split
    ·exact h.same _
    ·rename_i hr
     split
     ·exact h.same _
     ·split
      ·exact h.same _
      ·rename_i hm
       split
       ·exact h.same _
       ·exact(h.mono (fun _=>by simpa using hr)).asked _ (hx (by simpa using hk) (by omega) (by simpa using hfo) (fun hg=>Nat.lt_of_not_le fun x=>hm ⟨hg,x⟩)) (by show(SM.holds _ _ _).hints.length≤32;rw[VQ];exact h.hints) f hf
theorem Keeps.hint{N:NM}{M:DM}{ss:List Seg}(h:Keeps N M ss (N.readOnly=false))(to:Int)(text:ByteArray)(f:Nat)(hf:f∉M.ids)(hx:zt to=true→text.size≤64→ZR (.inr (.inr (.inl (to.toNat,text))))) :
  Kept M (·=f) (N.hint M to text f).2.1 (N.hint M to text f).2.2 ((N.hint M to text f).2.1.readOnly=false):=by
 unfold NM.hint
 split
 ·exact h.same _
 ·rename_i hk
  split
  ·exact h.same _
  ·rename_i hs
   split
   ·exact h.same _
   ·rename_i hr
    split
    ·exact h.same _
    ·rename_i hn
     exact(h.mono (fun _=>by simpa using hr)).asked _ (hx (by simp only[Bool.not_eq_false,Bool.and_eq_true] at hk;exact hk.1) (by omega)) (by show(N.S.hints++[_]).length≤32;rw[List.length_append,List.length_singleton];omega) f hf
theorem RP:ZR (.inr (.inr (.inr ()))):=⟨⟨trivial,trivial⟩,by have:=zH (n:=4) (by decide);show(zd 4).length<_;omega⟩
theorem Keeps.ack{N:NM}{M:DM}{ss:List Seg}(h:Keeps N M ss (N.readOnly=false))(f:Nat)(hf:f∉M.ids) :
  Kept M (·=f) (N.ack M f).2.1 (N.ack M f).2.2 ((N.ack M f).2.1.readOnly=false):=by
 unfold NM.ack
 split
 ·exact h.same _
 ·rename_i hr
  split
  ·exact h.same _
  ·exact(h.mono (fun _=>by simpa using hr)).asked _ RP (by show(N.S.hints.drop 1).length≤32;rw[List.length_drop];have:=h.hints;omega) f hf
theorem Keeps.syncCall{N:NM}{M:DM}{ss:List Seg}(h:Keeps N M ss (N.readOnly=false)):Keeps (N.syncCall M).2.1 (N.syncCall M).2.2 ss ((N.syncCall M).2.1.readOnly=false)∧(N.syncCall M).2.2.ids=M.ids:=by
 unfold NM.syncCall
 split
 ·exact⟨h,rfl⟩
 ·rename_i hr
  obtain⟨h1,h2⟩:=(h.mono (fun _=>by simpa using hr)).sync
  exact⟨(h1.ans _).mono (fun _=>trivial),h2⟩
theorem Pb(x:Fact):(zx x).length≤(zg x).size:=by
 rw[UB,Xf]
 simp[Z6]
theorem XP{key:ByteArray}{l:List Ver}(hk:zm key=true)(h:∀ u∈l,VOk u)(hl:l.length≤5):ZR (.inr (.inl (key,l))):=by
 refine⟨⟨XX hk h hl,fun v hv=>(h v hv).gone⟩,?_⟩
 have h1:=Pb (.inr (.inl (key,l)))
 have h2:=Xg hk h hl
 omega
theorem Su{to:Nat}{text:ByteArray}(h:to<9223372036854775808)(hs:text.size≤64):ZR (.inr (.inr (.inl (to,text)))):=by
 refine⟨⟨⟨h,by show text.size<_;omega⟩,trivial⟩,?_⟩
 have h1:=Pb (.inr (.inr (.inl (to,text))))
 have h2:=Wz h hs
 omega
theorem Y0(S:SM)(key:ByteArray)(l:List Ver):(S.holds key l).leased=S.leased:=by
 unfold SM.holds
 split <;> rfl
structure NInv(T:Nat)(W:WM)(N:NM)(M:DM)(m:LM)(t:Nat):Prop where
 log:zz T N.J M t
 held:Y3 N.S
 keys:m.keys=N.S.keys
 hints:m.hints=N.S.hints
 self:m.node=N.self
 ro:N.readOnly=false
 broken:W.broken=false
 most:W.most≤N.given
 given:N.given≤N.S.leased
 lease:N.S.leased≤16*W.calls
 keeps:∃ ss,Keeps N M ss True
 calls:W.calls≤t
 nw:N.writes≤t
 ww:W.writes≤t
 nk:N.S.keys.length≤t
 last:W.st[W.st.length-1]?=some m
 len:W.st.length≤t+1
 next:W.next≤t
 base:W.base≤100000
 bvs:W.bk.vs.length≤4*t
 bvm:W.bk.vm.length≤4*t
 bns:W.bk.ns.length≤4*t
 bnm:W.bk.nm.length≤4*t
 bhs:W.bk.hs.length≤4*t
 bhm:W.bk.hm.length≤4*t
 node:W.node=(m.node:Int)
theorem NInv.tt{T:Nat}{W:WM}{N:NM}{M:DM}{m:LM}{t:Nat}(h:NInv T W N M m t)(ht:t≤T):t≤100000000:=by have:=h.log.room;omega
theorem NInv.ver{T:Nat}{W:WM}{N:NM}{M:DM}{m:LM}{t:Nat}(h:NInv T W N M m t)(key:ByteArray):zL m.keys key=zc N.S.keys key:=by
 rw[h.keys]
 exact Rl key h.held.asc
theorem NInv.more{T:Nat}{W:WM}{N:NM}{M:DM}{m:LM}{t u:Nat}(h:NInv T W N M m t)(hu:t≤u):NInv T W N M m u :=
 ⟨h.log.more hu,h.held,h.keys,h.hints,h.self,h.ro,h.broken,h.most,h.given,h.lease,h.keeps,Nat.le_trans h.calls hu,Nat.le_trans h.nw hu,Nat.le_trans h.ww hu,Nat.le_trans h.nk hu,h.last,by have:=h.len;omega,Nat.le_trans h.next hu,h.base,
  by have:=h.bvs;omega,by have:=h.bvm;omega,by have:=h.bns;omega,by have:=h.bnm;omega,by have:=h.bhs;omega,by have:=h.bhm;omega,h.node⟩
structure Took(W W':WM)(m:LM):Prop where
 broken:W'.broken=W.broken
 most:W'.most=W.most
 calls:W'.calls=W.calls
 writes:W'.writes≤W.writes+1
 last:W'.st[W'.st.length-1]?=some m
 len:W'.st.length≤W.st.length+1
 next:W'.next=W.next
 base:W'.base=W.base
 bk:W'.bk=W.bk
 node:W'.node=W.node
theorem Wr(W:WM)(m:LM):Took W (W.took m) m:=by
 unfold WM.took
 simp only
 split
 ·refine⟨rfl,rfl,rfl,Nat.le_refl _,?_,?_,rfl,rfl,rfl,rfl⟩
  ·simp only[List.length_append,List.length_singleton,List.length_drop]
   rw[List.getElem?_drop]
   have:W.st.length+1-1+(W.st.length+1-(W.st.length+1-1)-1)=W.st.length:=by omega
   rw[this,List.getElem?_append_right (Nat.le_refl _)]
   simp
  ·simp only[List.length_append,List.length_singleton,List.length_drop]
   omega
 ·refine⟨rfl,rfl,rfl,Nat.le_refl _,?_,?_,rfl,rfl,rfl,rfl⟩
  ·simp only[List.length_append,List.length_singleton]
   rw[List.getElem?_append_right (by omega)]
   simp
  ·simp
theorem NInv.wrote{T:Nat}{W W1 W':WM}{N N':NM}{M M':DM}{m m':LM}{t u:Nat}(h:NInv T W N M m t)(hu:t+1≤u)(hT:Took W1 W' m')(hW:W1.broken=W.broken∧W1.writes=W.writes∧W1.st=W.st∧W1.next=W.next∧W1.base=W.base∧W1.bk=W.bk∧W1.node=W.node)
  (hlog:zz T N'.J M' u)(hheld:Y3 N'.S)(hkeys:m'.keys=N'.S.keys)(hhints:m'.hints=N'.S.hints)(hself:m'.node=m.node)(hself2:N'.self=N.self)(hro:N'.readOnly=N.readOnly)
  (hmost:W1.most≤N'.given)(hgiven:N'.given≤N'.S.leased)(hlease:N'.S.leased≤16*W1.calls)(hkeep:∃ ss,Keeps N' M' ss True)(hcalls:W1.calls≤u)(hnw:N'.writes≤N.writes+1)(hnk:N'.S.keys.length≤N.S.keys.length+1):NInv T W' N' M' m' u:=by
 obtain⟨e1,e2,e3,e4,e5,e6,e7⟩:=hW
 exact⟨hlog,hheld,hkeys,hhints,by rw[hself,h.self,hself2],hro.trans h.ro,by rw[hT.broken,e1,h.broken],by rw[hT.most];exact hmost,hgiven,by rw[hT.calls];exact hlease,hkeep,by rw[hT.calls];exact hcalls,by have:=h.nw;omega,by have:=h.ww;have:=hT.writes;omega,by have:=h.nk;omega,hT.last,by have:=hT.len;have:=h.len;rw[e3] at *;omega,by rw[hT.next,e4];have:=h.next;omega,by rw[hT.base,e5];exact h.base,
  by rw[hT.bk,e6];have:=h.bvs;omega,by rw[hT.bk,e6];have:=h.bvm;omega,by rw[hT.bk,e6];have:=h.bns;omega,by rw[hT.bk,e6];have:=h.bnm;omega,by rw[hT.bk,e6];have:=h.bhs;omega,by rw[hT.bk,e6];have:=h.bhm;omega,by rw[hT.node,e7,h.node,hself]⟩
theorem Vv(l:List Ver)(n:Int)(h:∀ u∈l,u.Nat):isN (grV l n):=by
 unfold grV
 have key:∀ (l:List Ver) (a:Int),isN a→(∀ u∈l,u.Nat)→isN (l.foldl (fun m u=>if u.node=n then max m u.seq else m) a):=by
  intro l
  induction l with
  | nil=>intro a ha _;exact ha
  | cons x l ih =>
   intro a ha hl
   rw[List.foldl_cons]
   refine ih _ ?_ (fun u hu=>hl u (List.mem_cons_of_mem _ hu))
   split
   ·have:=(hl x (List.mem_cons_self ..)).seq
    unfold isN at *
    omega
   ·exact ha
 exact key l 0 ⟨by decide,by decide⟩ h
theorem NInv.newV{T:Nat}{W:WM}{N:NM}{M:DM}{m:LM}{t:Nat}(h:NInv T W N M m t)(hself:N.self<4)(hg:N.given<1000000000000)(key text:ByteArray)(ht:text.size≤128) :
  m.putV key text ((N.given+1:Nat):Int)=⟨N.self,((N.given+1:Nat):Int),grV (zc N.S.keys key) 0,grV (zc N.S.keys key) 1,grV (zc N.S.keys key) 2,grV (zc N.S.keys key) 3,text,false⟩∧VOk (m.putV key text ((N.given+1:Nat):Int)):=by
 have e:m.putV key text ((N.given+1:Nat):Int)=⟨N.self,((N.given+1:Nat):Int),grV (zc N.S.keys key) 0,grV (zc N.S.keys key) 1,grV (zc N.S.keys key) 2,grV (zc N.S.keys key) 3,text,false⟩:=by
  unfold LM.putV
  rw[h.ver,h.self]
 refine⟨e,?_⟩
 rw[e]
 have hn:∀ u∈zc N.S.keys key,u.Nat:=fun u hu=>((h.held.get key).2.2 u hu).nat
 have q1:(0:Int)≤((N.self:Nat):Int):=by omega
 have q2:((N.self:Nat):Int)<4:=by omega
 have q3:(0:Int)≤((N.given+1:Nat):Int):=by omega
 have q4:((N.given+1:Nat):Int)<9223372036854775808:=by omega
 exact⟨⟨q1,q2⟩,⟨⟨q1,Int.lt_trans q2 (by decide)⟩,⟨q3,q4⟩,Vv _ _ hn,Vv _ _ hn,Vv _ _ hn,Vv _ _ hn,by show text.size<_;omega⟩,ht,by show(1:Int)≤((N.given+1:Nat):Int);omega,rfl⟩
theorem NInv.newE{T:Nat}{W:WM}{N:NM}{M:DM}{m:LM}{t:Nat}(h:NInv T W N M m t)(hself:N.self<4)(hg:N.given<1000000000000)(key text:ByteArray)(ht:text.size≤128) :
  ∀ N1:NM,N1.S.keys=N.S.keys→N1.self=N.self→putV key text N1 (N.given+1)=[m.putV key text ((N.given+1:Nat):Int)]:=by
 intro N1 h1 h2
 rw[(h.newV hself hg key text ht).1]
 unfold putV
 rw[h1,h2]
theorem NInv.put{T:Nat}{W:WM}{N:NM}{M:DM}{m:LM}{t H0:Nat}(h:NInv T W N M m t)(hT:t+8≤T)(hself:N.self<4)(hids:∀ g∈M.ids,g<H0)(key text:ByteArray)(hkey:zm key=true)(hval:text.size≤128) :
  (∀ H,H0≤H→Xn N M H key (putV key text))∧∀ f g,H0≤f→H0≤g→Apart2 N M f g→(N.put M key text f g).2.1=0∧(N.put M key text f g).2.2.2.refused=M.refused∧W.most<(N.put M key text f g).1∧(N.put M key text f g).1≤16*(W.calls+1) ∧
    NInv T (({W with calls:=W.calls+1,most:=(N.put M key text f g).1}:WM).took (m.put key text (N.put M key text f g).1)) (N.put M key text f g).2.2.1 (N.put M key text f g).2.2.2 (m.put key text (N.put M key text f g).1) (t+8):=by
 have htt:=h.tt (by omega)
 have hgv:N.given<1000000000000:=by have:=h.given;have:=h.lease;have:=h.calls;omega
 have hv:=h.newV hself (by omega) key text hval
 have hvs:=h.newE hself (by omega) key text hval
 have hve:∀ u∈[m.putV key text ((N.given+1:Nat):Int)],VOk u:=by intro u hu;rw[List.mem_singleton] at hu;subst hu;exact hv.2
 have hrec:=Xg hkey hve (by simp)
 refine⟨fun H hH=>TU h.log (by omega) H (fun g hg=>Nat.lt_of_lt_of_le (hids g hg) hH) key _ _ hgv hvs (XX hkey hve (by simp)) hrec (by have:=h.nk;omega) h.held.hlen (by have:=h.nw;omega),fun f g hf hg ha=>?_⟩
 have hfm:f∉M.ids:=fun hm=>by have:=hids f hm;omega
 have hgm:g∉M.ids:=fun hm=>by have:=hids g hm;omega
 obtain⟨J',M',ls,wr,e,hw,hl1,hl2,hG⟩:=Vk h.log (by omega) (by omega) key (putV key text) _ f g hfm hgm ha hvs hrec
 obtain⟨ss,hks⟩:=h.keeps
 obtain⟨_,_,ls0,e0,_⟩:=Vj h.log (by omega) hgv f hfm
 obtain⟨ss',hkp,_⟩:=(hks.mono (fun _=>trivial)).put hgv key text f g hfm hgm ha (fun _ _=>by
  rw[e0]
  simp only
  rw[hvs] <;> first|rfl|exact XP hkey hve (by simp))
 have ep:N.put M key text f g=N.replace M key (putV key text) f g:=by
  unfold NM.put
  rw[if_neg (by rw[hkey];decide),if_neg (by omega),if_neg (by rw[h.ro];decide)]
 rw[ep,e] at hkp ⊢
 have hkp2:=hkp.mono (fun(_:True)=>h.ro)
 have hH:=(h.held.leased ls).holds key hkey [m.putV key text ((N.given+1:Nat):Int)] (by unfold ZU Asc;simp) (by simp) hve
 have hc:=hl2 h.given
 have hmo:=h.most
 have hle:=h.lease
 refine⟨rfl,hG.refused,by show W.most<N.given+1;omega,by show N.given+1≤16*(W.calls+1);omega,?_⟩
 refine h.wrote (by omega) (Wr _ _) ⟨rfl,rfl,rfl,rfl,rfl,rfl,rfl⟩ (hG.log.more (by omega)) hH ?_ h.hints rfl rfl rfl (Nat.le_refl _) (by show N.given+1≤(SM.holds _ _ _).leased;rw[Y0];exact hl1) (by show(SM.holds _ _ _).leased≤16*(W.calls+1);rw[Y0];show ls≤_;omega) ⟨ss',hkp2⟩ (by have:=h.calls;show W.calls+1≤_;omega) hw (XY _ _ _)
 show ZQ m.keys key _=_
 rw[h.keys,VZ key _ h.held.asc]
 rfl
theorem NInv.delete{T:Nat}{W:WM}{N:NM}{M:DM}{m:LM}{t H0:Nat}(h:NInv T W N M m t)(hT:t+8≤T)(hids:∀ g∈M.ids,g<H0)(key:ByteArray)(hkey:zm key=true) :
  (∀ H,H0≤H→Xn N M H key (fun _ _=>[]))∧∀ f g,H0≤f→H0≤g→Apart2 N M f g→(N.delete M key f g).2.1=0∧(N.delete M key f g).2.2.2.refused=M.refused∧W.most<(N.delete M key f g).1∧(N.delete M key f g).1≤16*(W.calls+1) ∧
    NInv T (({W with calls:=W.calls+1,most:=(N.delete M key f g).1}:WM).took (m.delete key)) (N.delete M key f g).2.2.1 (N.delete M key f g).2.2.2 (m.delete key) (t+8):=by
 have htt:=h.tt (by omega)
 have hgv:N.given<1000000000000:=by have:=h.given;have:=h.lease;have:=h.calls;omega
 have hve:∀ u∈([]:List Ver),VOk u:=by intro u hu;cases hu
 have hrec:=Xg hkey hve (by simp)
 refine⟨fun H hH=>TU h.log (by omega) H (fun g hg=>Nat.lt_of_lt_of_le (hids g hg) hH) key _ [] hgv (fun _ _ _=>rfl) (XX hkey hve (by simp)) hrec (by have:=h.nk;omega) h.held.hlen (by have:=h.nw;omega),fun f g hf hg ha=>?_⟩
 have hfm:f∉M.ids:=fun hm=>by have:=hids f hm;omega
 have hgm:g∉M.ids:=fun hm=>by have:=hids g hm;omega
 obtain⟨J',M',ls,wr,e,hw,hl1,hl2,hG⟩:=Vk h.log (by omega) (by omega) key (fun _ _=>[]) [] f g hfm hgm ha (fun _ _ _=>rfl) hrec
 obtain⟨ss,hks⟩:=h.keeps
 obtain⟨ss',hkp,_⟩:=(hks.mono (fun _=>trivial)).delete hgv key f g hfm hgm ha (fun _=>XP hkey hve (by simp))
 have ep:N.delete M key f g=N.replace M key (fun _ _=>[]) f g:=by
  unfold NM.delete
  rw[if_neg (by rw[hkey];decide),if_neg (by rw[h.ro];decide)]
 rw[ep,e] at hkp ⊢
 have hkp2:=hkp.mono (fun(_:True)=>h.ro)
 have hH:=(h.held.leased ls).holds key hkey [] (by unfold ZU Asc;simp) (by simp) hve
 have hc:=hl2 h.given
 have hmo:=h.most
 have hle:=h.lease
 refine⟨rfl,hG.refused,by show W.most<N.given+1;omega,by show N.given+1≤16*(W.calls+1);omega,?_⟩
 refine h.wrote (by omega) (Wr _ _) ⟨rfl,rfl,rfl,rfl,rfl,rfl,rfl⟩ (hG.log.more (by omega)) hH ?_ h.hints rfl rfl rfl (Nat.le_refl _) (by show N.given+1≤(SM.holds _ _ _).leased;rw[Y0];exact hl1) (by show(SM.holds _ _ _).leased≤16*(W.calls+1);rw[Y0];show ls≤_;omega) ⟨ss',hkp2⟩ (by have:=h.calls;show W.calls+1≤_;omega) hw (XY _ _ _)
 show ZQ m.keys key _=_
 rw[h.keys,VZ key _ h.held.asc]
 rfl
theorem UJ{l:List Ver}{v:Ver}(hl:l.length≤4)(hv:∀ u∈l,VOk u)(hvv:v.gone=false→VOk v)(hr:v.gone=false→(zn l v).length<4):(ZB l v).length≤4∧∀ u∈ZB l v,VOk u:=by
 have h2:=XV l v
 have h3:∀ u∈zn l v,u∈l:=fun u hu=>(List.mem_filter.1 hu).1
 unfold ZB
 split
 ·exact⟨by omega,fun u hu=>hv u (h3 u hu)⟩
 ·rename_i hg
  have hlt:=hr (by simpa using hg)
  refine⟨by rw[Vg];omega,?_⟩
  intro u hu
  unfold Yq at hu
  simp only[List.mem_append,List.mem_singleton] at hu
  rcases hu with(hu|rfl)|hu
  ·exact hv u (h3 u (List.mem_of_mem_take hu))
  ·exact hvv (by simpa using hg)
  ·exact hv u (h3 u (List.mem_of_mem_drop hu))
theorem S1{l:List Ver}{v:Ver}(hk:l.any v.knows=false):∀ u∈l,u.dot≠v.dot:=by
 intro u hu e
 have:l.any v.knows=true:=by
  rw[List.any_eq_true]
  refine⟨u,hu,?_⟩
  unfold Ver.knows
  unfold Ver.dot at e
  simp only[Prod.mk.injEq] at e
  simp[e.1,e.2]
 rw[hk] at this
 cases this
theorem Mp{l:List Ver}{v:Ver}(ha:ZU l)(hk:l.any v.knows=false):ZU (ZB l v):=by
 have h1:=TJ ha v
 have h3:∀ u∈zn l v,u∈l:=fun u hu=>(List.mem_filter.1 hu).1
 unfold ZB
 split
 ·exact h1
 ·unfold ZU at h1 ⊢
  have:=Asc.ins ZJ (b:=v.dot) h1 (fun hlx e=>by
   rw[List.getElem_map] at e
   exact S1 hk _ (h3 _ (List.getElem_mem _)) e)
  unfold Yq
  simpa [List.map_take,List.map_drop] using this
theorem UK{self:Nat}{v:Ver}(h:foreign self v=true)(hs:v.value.size≤128)(hgo:v.gone=false):VOk v:=by
 have hn:=XI h
 suffices h3:v.Nat∧1≤v.seq from⟨hn,h3.1,hs,h3.2,hgo⟩
 unfold foreign Ver.overs at h
 simp only[List.all_cons,List.all_nil,Bool.and_true,Bool.and_eq_true,zj,decide_eq_true_eq] at h
 obtain⟨⟨a,b,c,d⟩,_,_,e⟩:=h
 unfold zE at hn
 exact⟨⟨⟨hn.1,by omega⟩,⟨by omega,by omega⟩,⟨a.1,by omega⟩,⟨b.1,by omega⟩,⟨c.1,by omega⟩,⟨d.1,by omega⟩,by omega⟩,by omega⟩
theorem NInv.fitV{T:Nat}{W:WM}{N:NM}{M:DM}{m:LM}{t H0:Nat}(h:NInv T W N M m t)(hT:t+8≤T)(hids:∀ g∈M.ids,g<H0)(key:ByteArray)(v:Ver)(H:Nat)(hH:H0≤H)(hkey:zm key=true)(hs:v.value.size≤128)(hf:foreign N.self v=true)(hr:v.gone=false→(zn (zc N.S.keys key) v).length<4) :
  Fit N M H (.inr (.inl (key,ZB (zc N.S.keys key) v))):=by
 have htt:=h.tt (by omega)
 have hg:=h.held.get key
 have hok:=UJ hg.2.1 hg.2.2 (fun h=>UK hf hs h) hr
 exact WB h.log (by omega) H (fun g hg=>Nat.lt_of_lt_of_le (hids g hg) hH) _ (XX hkey hok.2 (by omega)) (Xg hkey hok.2 (by omega)) (by have:=h.nk;omega) h.held.hlen (by have:=h.nw;omega)
theorem NInv.accept{T:Nat}{W:WM}{N:NM}{M:DM}{m:LM}{t H0:Nat}(h:NInv T W N M m t)(hT:t+8≤T)(hids:∀ g∈M.ids,g<H0)(key:ByteArray)(v:Ver)(hbad:zw N.self key v=0)(hway:zY (zc N.S.keys key) v=2) :
  ∀ f,H0≤f→(N.accept M key v f).1=0∧(N.accept M key v f).2.2.refused=M.refused∧NInv T (W.took (m.accept key v)) (N.accept M key v f).2.1 (N.accept M key v f).2.2 (m.accept key v) (t+8):=by
 intro f hf
 have htt:=h.tt (by omega)
 have hkey:zm key=true:=by
  cases hk:zm key with
  | true=>rfl
  | false=>unfold zw at hbad;rw[if_pos hk] at hbad;cases hbad
 have hs:v.value.size≤128:=by
  refine Nat.le_of_not_lt fun hlt=>?_
  unfold zw at hbad;rw[if_neg (by rw[hkey];decide),if_pos hlt] at hbad;cases hbad
 have hfo:foreign N.self v=true:=by
  cases hk:foreign N.self v with
  | true=>rfl
  | false=>unfold zw at hbad;rw[if_neg (by rw[hkey];decide),if_neg (by omega),if_pos hk] at hbad;cases hbad
 have e:=WC N M key v f hbad h.ro
 rw[hway] at e
 simp only[if_neg (show ¬(2:Nat)=0 by decide),if_neg (show ¬(2:Nat)=1 by decide)] at e
 have hkn:(zc N.S.keys key).any v.knows=false:=by
  cases hk:(zc N.S.keys key).any v.knows with
  | false=>rfl
  | true=>unfold zY at hway;rw[if_pos hk] at hway;cases hway
 have hroom:v.gone=false→(zn (zc N.S.keys key) v).length<4:=by
  intro hg
  refine Nat.lt_of_not_le fun hle=>?_
  unfold zY at hway;rw[if_neg (by rw[hkn];decide),if_pos ⟨hg,hle⟩] at hway;cases hway
 have hg:=h.held.get key
 have hok:=UJ hg.2.1 hg.2.2 (fun h=>UK hfo hs h) hroom
 obtain⟨J',M',wr,e2,hw,hG⟩:=WA h.log (by omega) (.inr (.inl (key,ZB (zc N.S.keys key) v))) (Xg hkey hok.2 (by omega)) f (fun hm=>by have:=hids f hm;omega)
 obtain⟨ss,hks⟩:=h.keeps
 obtain⟨ss',hkp,_⟩:=(hks.mono (fun _=>trivial)).accept key v f (fun hm=>by have:=hids f hm;omega) (fun _ _ _ _=>XP hkey hok.2 (by omega))
 rw[e,e2] at hkp ⊢
 have hkp2:=hkp.mono (fun(_:True)=>h.ro)
 have hdot:=S1 hkn
 refine⟨rfl,hG.refused,?_⟩
 refine h.wrote (by omega) (Wr _ _) ⟨rfl,rfl,rfl,rfl,rfl,rfl,rfl⟩ (hG.log.more (by omega)) (h.held.holds key hkey _ (Mp hg.1 hkn) hok.1 hok.2) ?_ h.hints rfl rfl rfl h.most (by show N.given≤(SM.holds _ _ _).leased;rw[Y0];exact h.given) (by show(SM.holds _ _ _).leased≤_;rw[Y0];exact h.lease) ⟨ss',hkp2⟩ (by have:=h.calls;omega) hw (XY _ _ _)
 show ZQ m.keys key (XK (zL m.keys key) v)=_
 rw[h.ver,MP v hg.1 hdot,h.keys,VZ key _ h.held.asc]
 rfl
theorem NInv.fitH{T:Nat}{W:WM}{N:NM}{M:DM}{m:LM}{t H0:Nat}(h:NInv T W N M m t)(hT:t+8≤T)(hids:∀ g∈M.ids,g<H0)(to:Int)(text:ByteArray)(H:Nat)(hH:H0≤H)(hs:text.size≤64)(hn:zt to=true) :
  Fit N M H (.inr (.inr (.inl (to.toNat,text)))):=by
 have htt:=h.tt (by omega)
 unfold zt at hn
 simp only[decide_eq_true_eq] at hn
 exact WB h.log (by omega) H (fun g hg=>Nat.lt_of_lt_of_le (hids g hg) hH) _ ⟨by show to.toNat<_;omega,by show text.size<_;omega⟩ (Wz (by omega) hs) (by have:=h.nk;omega) h.held.hlen (by have:=h.nw;omega)
theorem NInv.hint{T:Nat}{W:WM}{N:NM}{M:DM}{m:LM}{t H0:Nat}(h:NInv T W N M m t)(hT:t+8≤T)(hids:∀ g∈M.ids,g<H0)(to:Nat)(text:ByteArray)(hbad:zP N.self to text=0)(hroom:m.hints.length<32) :
  ∀ f,H0≤f→(N.hint M to text f).1=0∧(N.hint M to text f).2.2.refused=M.refused∧NInv T (W.took (m.hint to text)) (N.hint M to text f).2.1 (N.hint M to text f).2.2 (m.hint to text) (t+8):=by
 intro f hf
 have htt:=h.tt (by omega)
 have e:=Rx N M to text f hbad h.ro
 have hh:N.S.hints.length<32:=by rw[← h.hints];exact hroom
 rw[if_neg (by omega),Int.toNat_natCast] at e
 have hn:zt to=true:=by
  cases hk:zt to with
  | true=>rfl
  | false=>unfold zP at hbad;rw[if_pos (by rw[hk];rfl)] at hbad;cases hbad
 have hs:text.size≤64:=by
  unfold zP at hbad
  split at hbad
  ·cases hbad
  ·split at hbad
   ·cases hbad
   ·omega
 unfold zt at hn
 simp only[decide_eq_true_eq] at hn
 obtain⟨J',M',wr,e2,hw,hG⟩:=WA h.log (by omega) (.inr (.inr (.inl (to,text)))) (Wz (by omega) hs) f (fun hm=>by have:=hids f hm;omega)
 obtain⟨ss,hks⟩:=h.keeps
 obtain⟨ss',hkp,_⟩:=(hks.mono (fun _=>trivial)).hint to text f (fun hm=>by have:=hids f hm;omega) (fun _ hs=>Su (by rw[Int.toNat_natCast];omega) hs)
 rw[e,e2] at hkp ⊢
 have hkp2:=hkp.mono (fun(_:True)=>h.ro)
 refine⟨rfl,hG.refused,?_⟩
 refine h.wrote (by omega) (Wr _ _) ⟨rfl,rfl,rfl,rfl,rfl,rfl,rfl⟩ (hG.log.more (by omega)) ⟨h.held.asc,h.held.key,by show(N.S.hints++[(to,text)]).length≤32;rw[List.length_append,List.length_singleton];omega,h.held.names⟩ h.keys ?_ rfl rfl rfl h.most h.given h.lease ⟨ss',hkp2⟩ (by have:=h.calls;omega) hw (Nat.le_succ _)
 show m.hints++[(to,text)]=N.S.hints++[(to,text)]
 rw[h.hints]
theorem NInv.fitA{T:Nat}{W:WM}{N:NM}{M:DM}{m:LM}{t H0:Nat}(h:NInv T W N M m t)(hT:t+8≤T)(hids:∀ g∈M.ids,g<H0)(H:Nat)(hH:H0≤H):Fit N M H (.inr (.inr (.inr ()))):=by
 have htt:=h.tt (by omega)
 exact WB h.log (by omega) H (fun g hg=>Nat.lt_of_lt_of_le (hids g hg) hH) _ trivial TS (by have:=h.nk;omega) h.held.hlen (by have:=h.nw;omega)
theorem NInv.ack{T:Nat}{W:WM}{N:NM}{M:DM}{m:LM}{t H0:Nat}(h:NInv T W N M m t)(hT:t+8≤T)(hids:∀ g∈M.ids,g<H0)(hsome:m.hints≠[]) :
  ∀ f,H0≤f→(N.ack M f).1=0∧(N.ack M f).2.2.refused=M.refused∧NInv T (W.took m.ack) (N.ack M f).2.1 (N.ack M f).2.2 m.ack (t+8):=by
 intro f hf
 have htt:=h.tt (by omega)
 have hh:N.S.hints.length≠0:=fun e=>hsome (by rw[h.hints];exact List.eq_nil_of_length_eq_zero e)
 have e:N.ack M f=N.asked M (.inr (.inr (.inr ()))) f:=by
  unfold NM.ack
  rw[if_neg (by rw[h.ro];decide),if_neg hh]
 obtain⟨J',M',wr,e2,hw,hG⟩:=WA h.log (by omega) (.inr (.inr (.inr ()))) TS f (fun hm=>by have:=hids f hm;omega)
 obtain⟨ss,hks⟩:=h.keeps
 obtain⟨ss',hkp,_⟩:=(hks.mono (fun _=>trivial)).ack f (fun hm=>by have:=hids f hm;omega)
 rw[e,e2] at hkp ⊢
 have hkp2:=hkp.mono (fun(_:True)=>h.ro)
 refine⟨rfl,hG.refused,?_⟩
 refine h.wrote (by omega) (Wr _ _) ⟨rfl,rfl,rfl,rfl,rfl,rfl,rfl⟩ (hG.log.more (by omega)) ⟨h.held.asc,h.held.key,by show(N.S.hints.drop 1).length≤32;rw[List.length_drop];have:=h.held.hlen;omega,h.held.names⟩ h.keys ?_ rfl rfl rfl h.most h.given h.lease ⟨ss',hkp2⟩ (by have:=h.calls;omega) hw (Nat.le_succ _)
 show m.hints.drop 1=N.S.hints.drop 1
 rw[h.hints]
end Go.Proofs.YtkhnggkkiefcdaaGreatDoor
namespace Go.Proofs.YtkhnggkkiefcdaaGreatDoor
open Go.RowKit Go.Shelf
set_option maxRecDepth 100000
set_option maxHeartbeats 8000000
attribute [local go_sem] Oper.semAt_some
theorem Blk.kept{W W':World}{row:Option Nat}{b:Nat}{c:List Value}{t:TypeId}(h:Blk W b c t)(hg:W.grownBy W' row)(hne:some b≠row):Blk W' b c t:=h.of_heap (hg.block b h.lt hne)
theorem Blk.put{W:World}{b D:Nat}{c:List Value}{t:TypeId}(h:Blk W b c t){o:Obj}(ho:W.heap[D]?=some o)(hc:o.isCells=false)(o':Obj):Blk (W.putObj D o') b c t :=
 h.kept (grownBy_putObj' W D o') (fun e=>by
  have e:b=D:=by simpa using e
  subst e
  rw[show W.heap[b]?=_ from h] at ho
  cases ho
  cases hc)
def JM.none(limit:Nat):JM:={limit:=limit,last:=0,name:=ByteArray.empty,size:=0,torn:=false,dirSafe:=false}
end Go.Proofs.YtkhnggkkiefcdaaGreatDoor
namespace Go.Proofs.YtkhnggkkiefcdaaGreatDoor
open Go.RowKit
set_option maxRecDepth 100000
set_option maxHeartbeats 8000000
def NM.fresh(node segment sync:Nat):NM:={self:=node,given:=0,every:=sync,writes:=0,readOnly:=false,J:=JM.none segment,S:={keys:=[],hints:=[],leased:=0}}
theorem RQ(b:Nat)(node segment sync:Int)(hc:zC node segment sync=false)(w:World) :
  Calls Tryz.prog 49 #[.pointer (some ⟨b,0,none⟩),.agg #[.int .i64 node,.int .i64 segment,.int .i64 sync]] w fun e w'=>e=.returned (.tuple #[.pointer none,.int .i64 1])∧Fr Nil w w':=by
 have HC:=Z (Wn node segment sync (w.alloc (.cells #[.int .i64 node,.int .i64 segment,.int .i64 sync] 102)))
 rw[hc] at HC
 clear hc
 go_enter Tryz.func49,Tryz.ntmps49
 go_wp2_with (refine HC.out.mono ?_;rintro e w1 ⟨rfl,hf⟩;have HF:=Z hf;clear hf)
 go_ret2
 exact⟨rfl,((G _ _).alloc _).trans HF.out⟩
structure Fresh(T:Nat)(M:DM):Prop where
 dir:M.dir=[]
 safe:M.safe=[]
 ids:M.ids=[]
 chs:M.chs=[]
 dead:M.dead=false
 cut:M.cut=0
 fail:M.fail=0
 part:M.part=0
 calls:M.calls=0
 room:2000*(T:Int)≤M.room∧M.room≤1152921504606846976∧T≤100000000
theorem zz.fresh{T limit:Nat}{M:DM}(h:Fresh T M):zz T (JM.none limit) M 0 where
 calm:=⟨h.dead,h.cut,h.fail,by rw[h.calls];decide⟩
 calls:=by rw[h.calls];decide
 room:=h.room
 part:=h.part
 last:=Nat.le_refl _
 size:=Nat.le_refl _
 names:=fun e he=>by rw[h.dir] at he;cases he
 cur:=fun hl=>absurd rfl hl
 tot:=by unfold DM.tot;rw[h.dir];exact Nat.le_refl _
 chs:=by rw[h.chs];exact Nat.le_refl _
 dir:=by rw[h.dir];exact Nat.le_refl _
 ids:=fun g hg=>by rw[h.ids] at hg;cases hg
 inD:=fun e he=>by rw[h.dir] at he;cases he
 once:=by rw[h.dir];exact List.nodup_nil
 idn:=by rw[h.ids];exact Nat.le_refl _
 dirs:=fun d hd=>by rw[h.safe,h.chs] at hd;simp only[List.mem_singleton] at hd;rw[hd];exact Nat.le_refl _
theorem NInv.begins{T:Nat}{M:DM}(h:Fresh T M)(node seg sync:Nat)(room s y:Int)(base:Nat)(hb:base≤100000):NInv T (WM.begins node room s y base) (NM.fresh node seg sync) M ⟨node,[],[]⟩ 0 where
 log:=zz.fresh h
 held:=⟨List.Pairwise.nil,fun e he=>absurd he (by intro h;cases h),Nat.zero_le _,fun e he=>absurd he (by intro h;cases h)⟩
 keys:=rfl
 hints:=rfl
 self:=rfl
 ro:=rfl
 broken:=rfl
 most:=Nat.le_refl _
 given:=Nat.le_refl _
 lease:=Nat.zero_le _
 keeps:=⟨[],⟨⟨by unfold DM.view;rw[h.dir];rfl,by rw[h.dir];exact List.nodup_nil,fun e he=>by rw[h.dir] at he;cases he⟩,by rw[h.part];decide,(fun s hs=>by cases hs),rfl,(fun i=>by simp[zl,SM.nil]),fun _=>rfl⟩⟩
 calls:=Nat.le_refl _
 nw:=Nat.le_refl _
 ww:=Nat.le_refl _
 nk:=Nat.le_refl _
 last:=rfl
 len:=Nat.le_refl _
 next:=Nat.le_refl _
 base:=hb
 bvs:=Nat.le_refl _
 bvm:=Nat.le_refl _
 bns:=Nat.le_refl _
 bnm:=Nat.le_refl _
 bhs:=Nat.le_refl _
 bhm:=Nat.le_refl _
 node:=rfl
theorem NInv.other{T:Nat}{W W':WM}{N:NM}{M:DM}{m:LM}{t u:Nat}(h:NInv T W N M m t)(hu:t≤u)(h1:W'.broken=false)(h2:W'.most=W.most)(h3:W.calls≤W'.calls)(h4:W'.calls≤u)(h5:W'.writes≤u)(h6:W'.st=W.st)(h7:W'.next≤u)(h8:W'.base=W.base)(h9:W'.node=W.node)
  (hb:W'.bk.vs.length≤4*u∧W'.bk.vm.length≤4*u∧W'.bk.ns.length≤4*u∧W'.bk.nm.length≤4*u∧W'.bk.hs.length≤4*u∧W'.bk.hm.length≤4*u):NInv T W' N M m u :=
 ⟨h.log.more hu,h.held,h.keys,h.hints,h.self,h.ro,h1,by rw[h2];exact h.most,h.given,Nat.le_trans h.lease (Nat.mul_le_mul_left 16 h3),h.keeps,h4,Nat.le_trans h.nw hu,h5,Nat.le_trans h.nk hu,by rw[h6];exact h.last,by rw[h6];have:=h.len;omega,h7,by rw[h8];exact h.base,hb.1,hb.2.1,hb.2.2.1,hb.2.2.2.1,hb.2.2.2.2.1,hb.2.2.2.2.2,by rw[h9];exact h.node⟩
theorem NInv.booked{T:Nat}{W:WM}{N:NM}{M:DM}{m:LM}{t:Nat}{bk:BK}(h:NInv T W N M m t)(hb:Booked W.bk bk):NInv T (W.booked bk) N M m (t+1):=by
 have a1:=h.bvs;have a2:=h.bvm;have a3:=h.bns;have a4:=h.bnm;have a5:=h.bhs;have a6:=h.bhm
 have b1:=hb.vs;have b2:=hb.vm;have b3:=hb.ns;have b4:=hb.nm;have b5:=hb.hs;have b6:=hb.hm
 have c1:=h.calls;have c2:=h.ww;have c3:=h.next
 exact h.other (W':=W.booked bk) (Nat.le_succ _) h.broken rfl (Nat.le_refl _) (by show W.calls≤_;omega) (by show W.writes≤_;omega) rfl (by show W.next+1≤_;omega) rfl rfl
  ⟨by show bk.vs.length≤_;omega,by show bk.vm.length≤_;omega,by show bk.ns.length≤_;omega,by show bk.nm.length≤_;omega,by show bk.hs.length≤_;omega,by show bk.hm.length≤_;omega⟩
theorem NInv.small{T:Nat}{W:WM}{N:NM}{M:DM}{m:LM}{t:Nat}(h:NInv T W N M m t)(ht:t≤10000000):BSmall W.bk:=by
 have a1:=h.bvs;have a2:=h.bvm;have a3:=h.bns;have a4:=h.bnm;have a5:=h.bhs;have a6:=h.bhm
 exact⟨by omega,by omega,by omega,by omega,by omega,by omega⟩
end Go.Proofs.YtkhnggkkiefcdaaGreatDoor
