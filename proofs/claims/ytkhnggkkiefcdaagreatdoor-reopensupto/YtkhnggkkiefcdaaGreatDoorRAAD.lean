/- larder: joined texts -/
import Derived.Test.YtkhnggkkiefcdaaGreatDoorRAAC
import Derived.Test.YtkhnggkkiefcdaaGreatDoorChecked
import Derived.Deep.RegionHeld3
namespace Go.Proofs.YtkhnggkkiefcdaaGreatDoor
open Go.RowKit
set_option maxRecDepth 100000
set_option maxHeartbeats 8000000
def zS(l:List (ByteArray × Value)):List Value:=l.flatMap fun e=>[.string e.1,e.2]
theorem Yb(d:List (ByteArray × Value)):(zS d).length=d.length*2:=by
 induction d with
 | nil=>rfl
 | cons e d ih=>simp only[zS,List.flatMap_cons,List.length_append,List.length_cons,List.length_nil] at ih ⊢;omega
theorem zU(d:List (ByteArray × Value)):∀ (k:Nat)(h:k<d.length),(zS d)[k*2]?=some (.string d[k].1)∧(zS d)[k*2+1]?=some d[k].2:=by
 induction d with
 | nil=>intro k h;simp at h
 | cons e d ih =>
  intro k h
  cases k with
  | zero=>exact⟨rfl,rfl⟩
  | succ k =>
   have:=ih k (by simpa using h)
   have e1:(k+1)*2=k*2+2:=by omega
   simp only[zS,List.flatMap_cons,e1] at this ⊢
   exact this
theorem Z8:Strict zb where
 irr a:=by simp[zb,YI,List.lt_irrefl]
 trans a b c h1 h2:=by
  simp only[zb,YI,decide_eq_true_eq] at *
  exact List.lt_trans h1 h2
 tri a b h1 h2:=by
  simp only[zb,YI,decide_eq_true_eq,decide_eq_false_iff_not] at *
  rcases List.le_iff_lt_or_eq.1 (List.not_lt.1 h1) with h|h
  ·exact h
  ·exact absurd (Xt h).symm h2
theorem R4{a b:ByteArray}:Yt a b<0↔zb a b=true:=by
 unfold Yt
 split
 ·rename_i h;simp[h]
 ·rename_i h
  split <;> simp[h]
theorem OB{a b:ByteArray}:Yt a b=0↔(a==b)=true:=by
 unfold Yt
 have hb:=beq_toListBytes a b
 split
 ·rename_i h
  constructor
  ·intro h';omega
  ·intro h'
   have:a=b:=zR.1 h'
   subst this
   rw[Z8.irr] at h
   cases h
 ·split
  ·rename_i h;rw[hb];simp[h]
  ·rename_i h;rw[hb];simp[h]
theorem Sc(v:Value)(l:List (ByteArray × Value))(s:ByteArray)(w:World)(h:w.ownsRow 0 239 2 v l.length (zS l))(hs:Asc zb (l.map Prod.fst))(hsz:l.length<4611686018427387904) :
  Calls Tryz.prog 199 #[v,.string s,.func (.func 200) #[] #[]] w fun e w' =>
   e=.returned (.tuple #[.int .i64 (low zb (l.map Prod.fst) s),.bool (zX zb (l.map Prod.fst) s)])∧Fr Nil w w':=by
 have hn:=zK h
 unfold maxLen at hn
 obtain⟨a,cap,rfl⟩:=z8 h
 go_enter Tryz.func199,Tryz.ntmps199
 go_wp2
 go_loopw [9,10] (fun ti tj w'=>∃ i j:Nat,i≤j∧j≤l.length∧ti=.int .i64 i∧tj=.int .i64 j∧(∀ k (hk:k<l.length),k<i→zb l[k].1 s=true)∧(∀ k (hk:k<l.length),j≤k→zb l[k].1 s=false)∧Fr Nil w w') (fun ti tj _=>(intOf tj).toNat-(intOf ti).toNat)
 case atStart=>exact⟨0,l.length,Nat.zero_le _,Nat.le_refl _,rfl,rfl,fun k _ hk=>absurd hk (Nat.not_lt_zero _),fun k hk hk'=>absurd hk (by omega),G _ _⟩
 case round =>
  obtain⟨i,j,hij,hj,rfl,rfl,h1,h2,hf⟩:=hrel
  by_cases hlt:i<j
  ·obtain⟨g,rfl⟩:∃ g,a=some ⟨g,0,none⟩:=by
    rcases h.2 with⟨h1,h0⟩|⟨g,cap,cur,h1,_⟩
    ·omega
    ·simp at h1;exact⟨g,h1.1⟩
   have hm:(i+j) / 2<l.length:=by omega
   have hc:=own_cell? (z7 h hf (fun _ _=>id)) ((i+j) / 2*2) _ (zU l _ hm).1
   have hc2:=own_cell? (z7 h hf (fun _ _=>id)) ((i+j) / 2*2+1) _ (zU l _ hm).2
   have H1:=Z h1
   have H2:=Z h2
   clear h1 h2
   have hb1:(i:Int)≤4611686018427387903:=by omega
   have hb2:(j:Int)≤4611686018427387903:=by omega
   have hb3:(i:Int)+j≤9223372036854775807:=by omega
   have hq:(((i:Int)+j) / 2).toNat=(i+j) / 2:=by omega
   cases hl:zb l[(i+j) / 2].1 s with
   | true =>
    have H3:=Z hl
    have hcm:Yt l[(i+j) / 2].1 s<0:=R4.2 hl
    clear hl
    go_wp2_with (go_at_call 200;refine(Xl _ _ _ _).mono ?_;rintro e w1 ⟨rfl,hf1⟩)
    refine⟨⟨(i+j) / 2+1,j,by omega,hj,by go_num,rfl,fun k hk hki=>?_,H2.out,hf.trans hf1⟩,by simp[intOf];omega⟩
    by_cases e:k=(i+j) / 2
    ·subst e;exact H3.out
    ·exact Z8.trans _ _ _ (hs.fst (i:=k) (j:=(i+j) / 2) (by omega) hm) H3.out
   | false =>
    have H3:=Z hl
    have hcm:¬Yt l[(i+j) / 2].1 s<0:=by rw[R4];simp[hl]
    clear hl
    go_wp2_with (go_at_call 200;refine(Xl _ _ _ _).mono ?_;rintro e w1 ⟨rfl,hf1⟩)
    refine⟨⟨i,(i+j) / 2,by omega,by omega,rfl,by go_num,H1.out,fun k hk hki=>?_,hf.trans hf1⟩,by simp[intOf];omega⟩
    by_cases e:k=(i+j) / 2
    ·subst e;exact H3.out
    ·cases hk2:zb l[k].1 s with
     | false=>rfl
     | true =>
      have:=Z8.trans _ _ _ (hs.fst (i:=(i+j) / 2) (j:=k) (by omega) hk) hk2
      rw[H3.out] at this
      cases this
  ·have he:i=j:=by omega
   subst he
   have hlow:low zb (l.map Prod.fst) s=i:=V8 zb s _ i (by simpa using hj) (fun k hk hki=>by simpa using h1 k (by simpa using hk) hki) (fun hk=>by simpa using h2 i (by simpa using hk) (Nat.le_refl _))
   by_cases hil:i<l.length
   ·obtain⟨g,rfl⟩:∃ g,a=some ⟨g,0,none⟩:=by
     rcases h.2 with⟨h1,h0⟩|⟨g,cap,cur,h1,_⟩
     ·omega
     ·simp at h1;exact⟨g,h1.1⟩
    have hc:=own_cell? (z7 h hf (fun _ _=>id)) (i*2) _ (zU l _ hil).1
    have hc2:=own_cell? (z7 h hf (fun _ _=>id)) (i*2+1) _ (zU l _ hil).2
    have hat:zX zb (l.map Prod.fst) s=(Yt l[i].1 s==0):=by
     rw[YT hil hlow,Bool.eq_iff_iff,← OB]
     simp
    have HL:=Z hlow
    have HA:=Z hat
    clear h1 h2 hlow hat
    go_wp2_with (go_at_call 200;refine(Xl _ _ _ _).mono ?_;rintro e w1 ⟨rfl,hf1⟩)
    go_ret2
    rw[HL.out,HA.out]
    exact⟨rfl,hf.trans hf1⟩
   ·have hat:zX zb (l.map Prod.fst) s=false:=Wk (by rw[hlow];simpa using hil)
    have HL:=Z hlow
    have HA:=Z hat
    clear h1 h2 hlow hat
    go_wp2
    go_ret2
    rw[HL.out,HA.out]
    exact⟨rfl,hf⟩
theorem OC:((Tryz.prog.info? 239).map fun i=>(i.zero.map (·.cells.size),i.size,i.bytes))=some (some 2,2,40):=by kernel_rfl
def VW(w:World)(ob:Option Nat)(n i:Nat)(xs el:List Value)(e:Ending)(w':World):Prop :=
 ∃ g cap,e=.returned (.slice (some ⟨g,0,none⟩) (n+1) cap)∧w'.ownsRow 0 239 2 (.slice (some ⟨g,0,none⟩) (n+1) cap) (n+1) (ZH 2 i xs el)∧Fr (fun b=>ob=some b) w w'∧(ob=some g∨w.heap.size≤g)
theorem Qm(v:Value)(n:Nat)(xs el:List Value)(vb:Nat)(w:World)(hown:w.ownsRow 0 239 2 v n xs)(hel:el.length=2)(he1:∀ u∈el,u.oneCell'=true)(hv:Blk w vb el 239)(hbig:(n+1)*40≤140737488355328) :
  Calls Tryz.prog 295 #[v,.int .i64 n,.slice (some ⟨vb,0,none⟩) 1 1] w fun e w'=>VW w v.ownBlock n n xs el e w':=by
 have hrun:∀ ty,∃ v' w',(Builtin.append_ #[157,157] ty #[v,.slice (some ⟨vb,0,none⟩) 1 1]).run Tryz.prog w=.ok v' w'∧App w v 239 2 (n+1) (xs++el) v' w':=fun ty =>
  zo (P:=Tryz.prog) 157 ty 239 2 40 Tryz.underlying157 OC (by omega) v n xs hown ⟨vb,0,none⟩ 1 1 el (by rw[hel]) (fun j u hu=>by rw[Addr.add_lit,Nat.zero_add];rw[hv.cell];exact hu) he1 (by unfold maxLen;omega) hbig
 have hfin:∀ v' w',App w v 239 2 (n+1) (xs++el) v' w'→VW w v.ownBlock n n xs el (.returned v') w':=by
  rintro v' w' ⟨ho,hg,hb⟩
  obtain⟨g,cap,rfl,_,_⟩:=ho.form (by omega)
  refine⟨g,cap,rfl,?_,(Fr.of_grown hg).mono (fun i _ h=>h),?_⟩
  ·have e1:xs.take (n*2)=xs:=List.take_of_length_le (by rw[hown.1];exact Nat.le_refl _)
   have e2:xs.drop (n*2)=[]:=List.drop_eq_nil_of_le (by rw[hown.1];exact Nat.le_refl _)
   unfold ZH
   rw[e1,e2,List.append_nil]
   exact ho
  ·rcases hb with hb|hb
   ·left;rw[← hb];rfl
   ·right;have:g=w.heap.size:=by simpa [Value.ownBlock] using hb
    omega
 have hn:=zK hown
 unfold maxLen at hn
 obtain⟨a,cap,rfl⟩:=z8 hown
 have HF:=Z hfin
 clear hfin hown
 generalize (Value.slice a n cap).ownBlock=ob at HF ⊢
 go_enter Tryz.func295,Tryz.ntmps295
 go_wp2_with (at_builtin;go_must (refine zf rfl _ _ _ _ rfl _ _ (by rfl) (by rfl) (hrun _) ?_);rintro v' w' hA)
 all_goals
  go_ret
  exact HF.out _ _ hA
theorem OD(w:World)(va vl vc bo bl bc:Nat)(vb g:Nat)(el c:List Value)(hv:Blk w vb el 239)(hg:Blk w g c 239)(hne:vb≠g)(hc:c.length≠0) :
  (callFunc 297 #[.slice (some ⟨vb,va,none⟩) vl vc,.slice (some ⟨g,bo,none⟩) bl bc]).run Tryz.prog w=.ok (.value (.bool false)) w:=by
 rw[run_callFunc_extern Tryz.func297 (by kernel_rfl) (by kernel_rfl) (by kernel_rfl) (e:=Extern.SlicesOverlaps.overlaps #[157,157] #[4]) (by kernel_rfl),
  Lib.run_overlaps_apart w 157 4 239 Tryz.underlying157 2 Tryz.sizeOf239 ⟨vb,va,none⟩ ⟨g,bo,none⟩ vl vc bl bc hne 239 239 el.length c.length hv.shape hg.shape hc (hv.frozen _) (hv.frozen _)]
 rfl
theorem Sd(g n cap i:Nat)(c xs el:List Value)(vb:Nat)(w:World)(hg:Blk w g c 239)(hcl:c.length=cap*2)(ht:c.take (n*2)=xs)(h1:∀ u∈xs,u.oneCell'=true)(hi:i<n)(hroom:n+1≤cap)(hcm:cap≤maxLen)
  (hel:el.length=2)(he1:∀ u∈el,u.oneCell'=true)(hv:Blk w vb el 239)(hne:vb≠g) :
  Calls Tryz.prog 295 #[.slice (some ⟨g,0,none⟩) n cap,.int .i64 i,.slice (some ⟨vb,0,none⟩) 1 1] w fun e w'=>VW w (some g) n i xs el e w':=by
 have hov:=fun va vl vc bo bl bc=>OD w va vl vc bo bl bc vb g el c hv hg hne (by omega)
 have hxl:xs.length=n*2:=by rw[← ht,List.length_take,hcl];exact Nat.min_eq_left (Nat.mul_le_mul_right _ (by omega))
 have hdl:(xs.drop (i*2)).length=(n-i)*2:=by rw[List.length_drop,hxl,Nat.sub_mul]
 have hdc:∀ j u,(xs.drop (i*2))[j]?=some u→c[i*2+j]?=some u:=by
  intro j u hu
  rw[List.getElem?_drop] at hu
  have hlt:=(List.getElem?_eq_some_iff.1 hu).1
  rw[← ht,List.getElem?_take_of_lt (by omega)] at hu
  exact hu
 have hcp1:∀ ty dc sc,(Builtin.copy_ #[157,157] ty #[.slice (some ⟨g,(i+1)*2,none⟩) (n-i) dc,.slice (some ⟨g,i*2,none⟩) (n+1-i) sc]).run Tryz.prog w.drew=_:=fun ty dc sc =>
  Zb 157 239 ty 2 Tryz.underlying157 (by kernel_rfl) g ((i+1)*2) (n-i) dc ⟨g,i*2,none⟩ (n+1-i) sc c (xs.drop (i*2)) 239 hg
   (by rw[hdl];congr 1;simp only[Nat.min_def];split <;> omega) (fun j u hu=>by rw[Addr.add_lit,show w.drew.cell? ⟨g,i*2+j,none⟩=c[i*2+j]? from hg.drew.cell _];exact hdc j u hu)
   (by rw[hdl,hcl];have:=Nat.mul_le_mul_right 2 hroom;have e:(i+1)*2+(n-i)*2=(n+1)*2:=(by rw[← Nat.add_mul];congr 1;omega);omega)
   (fun u hu=>h1 u (List.mem_of_mem_drop hu))
 obtain⟨c1,hc1⟩:∃ c1,c1=c.take ((i+1)*2)++xs.drop (i*2)++c.drop ((i+1)*2+(xs.drop (i*2)).length):=⟨_,rfl⟩
 rw[← hc1] at hcp1
 have hg1:Blk (w.drew.setRow g c1.toArray) g c1 239:=hg.drew.setRow c1
 have hv1:Blk (w.drew.setRow g c1.toArray) vb el 239:=hv.drew.of_heap (setRow_other _ g vb _ hne)
 have hc1l:c1.length=cap*2:=by
  have:=Nat.mul_le_mul_right 2 hroom
  have e:(i+1)*2+(n-i)*2=(n+1)*2:=by rw[← Nat.add_mul];congr 1;omega
  rw[hc1]
  simp only[List.length_append,List.length_take,List.length_drop,hxl,hcl]
  omega
 have hf1:Fr (fun b=>some g=some b) w (w.drew.setRow g c1.toArray):=Fr.setRow (S:=fun b=>some g=some b) ((G _ w).drew) (fun _=>rfl) _
 obtain⟨W1,hW1⟩:∃ W1,W1=w.drew.setRow g c1.toArray:=⟨_,rfl⟩
 rw[← hW1] at hcp1 hg1 hv1 hf1
 clear hW1
 have hcp2:∀ ty dc,(Builtin.copy_ #[157,157] ty #[.slice (some ⟨g,i*2,none⟩) (n+1-i) dc,.slice (some ⟨vb,0,none⟩) 1 1]).run Tryz.prog W1=_:=fun ty dc =>
  Zb 157 239 ty 2 Tryz.underlying157 (by kernel_rfl) g (i*2) (n+1-i) dc ⟨vb,0,none⟩ 1 1 c1 el 239 hg1
   (by rw[hel];have:Nat.min 1 (n+1-i)=1:=(by simp only[Nat.min_def];split <;> omega);rw[this]) (fun j u hu=>by rw[Addr.add_lit,Nat.zero_add,hv1.cell];exact hu)
   (by rw[hel,hc1l];have:=Nat.mul_le_mul_right 2 hroom;have e:i*2+2=(i+1)*2:=(by rw[Nat.add_mul,Nat.one_mul]);have:=Nat.mul_le_mul_right 2 (show i+1≤n+1 by omega);omega)
   he1
 have hfin:VW w (some g) n i xs el (.returned (.slice (some ⟨g,0,none⟩) (n+1) cap)) (W1.setRow g (c1.take (i*2)++el++c1.drop (i*2+el.length)).toArray):=by
  have e0:=Nat.mul_le_mul_right 2 hroom
  have e1:i*2+2=(i+1)*2:=by rw[Nat.add_mul,Nat.one_mul]
  have e2:(i+1)*2+(n-i)*2=(n+1)*2:=by rw[← Nat.add_mul];congr 1;omega
  have e3:=Nat.mul_le_mul_right 2 (show i≤n by omega)
  refine⟨g,cap,rfl,Zj (hg1.setRow _) hroom hcm ?_ ?_,Fr.setRow (S:=fun b=>some g=some b) hf1 (fun _=>rfl) _,.inl rfl⟩
  ·rw[List.length_append,List.length_append,List.length_take,List.length_drop,hel,hc1l]
   omega
  ·unfold ZH
   have a1:c1.take (i*2)=xs.take (i*2):=by
    rw[hc1,← ht,List.take_append_of_le_length (by rw[List.length_append,List.length_take,hcl];omega),List.take_append_of_le_length (by rw[List.length_take,hcl];omega),List.take_take,List.take_take]
    congr 1
    omega
   have a2:c1.drop (i*2+el.length)=xs.drop (i*2)++c.drop ((n+1)*2):=by
    have e4:(c.take ((i+1)*2)).length=i*2+el.length:=by rw[List.length_take,hcl];omega
    rw[hc1,List.append_assoc,← e4,List.drop_left,hdl,e2]
   rw[a1,a2,← List.append_assoc,List.take_left' (by rw[List.length_append,List.length_append,hdl,hel,List.length_take,hxl];omega)]
 obtain⟨c2,hc2⟩:∃ c2,c2=c1.take (i*2)++el++c1.drop (i*2+el.length):=⟨_,rfl⟩
 rw[← hc2] at hcp2 hfin
 clear hg1 hv1 hf1 hc1l hdc hg hv hdl hxl h1 he1 hc1 hc2 ht hel hcl
 unfold maxLen at hcm
 have hq1:¬(i:Int)=(n:Int):=by omega
 have hq2:¬(cap:Int)<(n:Int)+1:=by omega
 have hq3:¬cap=i:=by omega
 have hq4:¬cap=i+1:=by omega
 have hw1:IntKind.i64.wrap ((i:Int)+1)=(i:Int)+1:=by rw[IntKind.wrap_i64];omega
 have hw2:(0:Int)≤(i:Int)+1:=by omega
 have hw3:((i:Int)+1).toNat=i+1:=by omega
 have hw4:(i:Int)≤(n:Int)+1:=by omega
 have hw5:(i:Int)≤(n:Int):=by omega
 go_enter Tryz.func295,Tryz.ntmps295
 go_wp2_with (simp only[hov])
 go_region_law (refine Y1 rfl _ _ 157 157 rfl _ _ (by simp[Act.eval,Act.put]) (by simp[Act.eval,Act.put]) (hcp1 _ _ _) ?_)
 go_wp2_with (at_builtin;go_must (refine wpList_copyK rfl _ _ 157 157 rfl _ _ (by rfl) (by rfl) (hcp2 _ _) ?_))
 go_ret
 exact hfin
theorem R5(g n i:Nat)(xs el:List Value)(vb:Nat)(w:World)(hg:Blk w g xs 239)(hxl:xs.length=n*2)(h1:∀ u∈xs,u.oneCell'=true)(hi:i<n)
  (hel:el.length=2)(he1:∀ u∈el,u.oneCell'=true)(hv:Blk w vb el 239)(hbig:(n+1)*40≤140737488355328) :
  Calls Tryz.prog 295 #[.slice (some ⟨g,0,none⟩) n n,.int .i64 i,.slice (some ⟨vb,0,none⟩) 1 1] w fun e w'=>VW w (some g) n i xs el e w':=by
 obtain⟨i0,z,hi0,hz0,hs0,hb0,hzs⟩:=Zk OC
 have hsum:i+(n+1-i)=n+1:=by omega
 have hrun:∀ ty,(Builtin.append_ #[157,3] ty #[.slice (some ⟨g,0,none⟩) i n,.int .i64 ((n+1-i:Nat):Int)]).run Tryz.prog w=_:=fun ty =>
  Lib.run_append_grow_zeros (P:=Tryz.prog) w 157 3 ty 239 i0 z .i64 .i64 Tryz.underlying157 Tryz.underlying3 hi0 hz0 (some ⟨g,0,none⟩) i n (xs.take (i*2))
   (by rw[hs0];exact run_firstCells_some (P:=Tryz.prog) w.drew 2 i ⟨g,0,none⟩ i n (xs.take (i*2)) (by rw[List.length_take,hxl];omega) (fun j u hu=>by
      have hlt:=(List.getElem?_eq_some_iff.1 hu).1
      rw[Addr.add_lit,Nat.zero_add,hg.drew.cell]
      rw[List.length_take] at hlt
      rw[List.getElem?_take_of_lt (by omega)] at hu
      exact hu))
   (n+1-i) (by omega) (by rw[hs0];omega) (by omega) (by omega) (by rw[hb0];omega) (growslice_fits (by omega) (by rw[hb0,hsum];exact hbig))
 rw[hsum] at hrun
 have hge:=grownCap_ge w (n+1) n 239
 have hcm:=grownCap_le_maxLen w (n+1) n 239 (by unfold maxLen;omega)
 generalize grownCap w (n+1) n 239=cap at hrun hge hcm
 obtain⟨c1,hc1⟩:∃ c1:List Value,c1=xs.take (i*2)++(Builtin.zeroCells z.cells (n+1-i)).toList++(Builtin.zeroCells z.cells (cap-(n+1))).toList:=⟨_,rfl⟩
 have hc1a:(xs.take (i*2)).toArray++Builtin.zeroCells z.cells (n+1-i)++Builtin.zeroCells z.cells (cap-(n+1))=c1.toArray:=by rw[hc1];apply Array.ext';simp
 rw[hc1a] at hrun
 have hc1l:c1.length=cap*2:=by
  rw[hc1]
  simp only[List.length_append,List.length_take,Array.length_toList,size_zeroCells,hzs,hxl]
  omega
 have hc1t:c1.take (i*2)=xs.take (i*2):=by
  have e:(xs.take (i*2)).length=i*2:=by rw[List.length_take,hxl];omega
  rw[hc1,List.append_assoc]
  exact List.take_left' e
 have hglt:=hg.lt
 have hvlt:=hv.lt
 have hg1:Blk (w.drew.alloc (.cells c1.toArray 239)) w.heap.size c1 239:=Blk.new w.drew c1 _
 have hv1:Blk (w.drew.alloc (.cells c1.toArray 239)) vb el 239:=hv.drew.alloc _
 have ho1:Blk (w.drew.alloc (.cells c1.toArray 239)) g xs 239:=hg.drew.alloc _
 have hf1:Fr Nil w (w.drew.alloc (.cells c1.toArray 239)):=((G _ w).drew).alloc _
 obtain⟨N,hN⟩:∃ N,N=w.heap.size:=⟨_,rfl⟩
 rw[← hN] at hrun hg1 hglt hvlt
 obtain⟨W1,hW1⟩:∃ W1,W1=w.drew.alloc (.cells c1.toArray 239):=⟨_,rfl⟩
 rw[← hW1] at hrun hg1 hv1 ho1 hf1
 clear hW1
 obtain⟨c2,hc2⟩:∃ c2,c2=c1.take (i*2)++el++c1.drop (i*2+el.length):=⟨_,rfl⟩
 have hcp1:∀ ty dc,(Builtin.copy_ #[157,157] ty #[.slice (some ⟨N,i*2,none⟩) (n+1-i) dc,.slice (some ⟨vb,0,none⟩) 1 1]).run Tryz.prog W1=_:=fun ty dc =>
  Zb 157 239 ty 2 Tryz.underlying157 (by kernel_rfl) N (i*2) (n+1-i) dc ⟨vb,0,none⟩ 1 1 c1 el 239 hg1
   (by rw[hel];have:Nat.min 1 (n+1-i)=1:=(by simp only[Nat.min_def];split <;> omega);rw[this]) (fun j u hu=>by rw[Addr.add_lit,Nat.zero_add,hv1.cell];exact hu)
   (by rw[hel,hc1l];omega)
   he1
 rw[← hc2] at hcp1
 have hc2l:c2.length=cap*2:=by
  rw[hc2]
  simp only[List.length_append,List.length_take,List.length_drop,hel,hc1l]
  omega
 have hc2t:c2.take ((i+1)*2)=xs.take (i*2)++el:=by
  have e:(xs.take (i*2)++el).length=(i+1)*2:=by rw[List.length_append,List.length_take,hxl,hel];omega
  rw[hc2,hc1t]
  exact List.take_left' e
 have hg2:Blk (W1.setRow N c2.toArray) N c2 239:=hg1.setRow c2
 have ho2:Blk (W1.setRow N c2.toArray) g xs 239:=ho1.of_heap (setRow_other _ N g _ (by omega))
 have hf2:Fr Nil w (W1.setRow N c2.toArray):=hf1.setRow (fun h=>by omega) _
 obtain⟨W2,hW2⟩:∃ W2,W2=W1.setRow N c2.toArray:=⟨_,rfl⟩
 rw[← hW2] at hcp1 hg2 ho2 hf2
 clear hW2
 have hdl:(xs.drop (i*2)).length=(n-i)*2:=by rw[List.length_drop,hxl,Nat.sub_mul]
 obtain⟨c3,hc3⟩:∃ c3,c3=c2.take ((i+1)*2)++xs.drop (i*2)++c2.drop ((i+1)*2+(xs.drop (i*2)).length):=⟨_,rfl⟩
 have hcp2:∀ ty dc sc,(Builtin.copy_ #[157,157] ty #[.slice (some ⟨N,(i+1)*2,none⟩) (n-i) dc,.slice (some ⟨g,i*2,none⟩) (n-i) sc]).run Tryz.prog W2.drew=_:=fun ty dc sc =>
  Zb 157 239 ty 2 Tryz.underlying157 (by kernel_rfl) N ((i+1)*2) (n-i) dc ⟨g,i*2,none⟩ (n-i) sc c2 (xs.drop (i*2)) 239 hg2.drew
   (by rw[hdl];congr 1;simp only[Nat.min_def];split <;> omega) (fun j u hu=>by rw[Addr.add_lit,ho2.drew.cell];rw[List.getElem?_drop] at hu;exact hu)
   (by rw[hdl,hc2l];omega)
   (fun u hu=>h1 u (List.mem_of_mem_drop hu))
 rw[← hc3] at hcp2
 have hfin:VW w (some g) n i xs el (.returned (.slice (some ⟨N,0,none⟩) (n+1) cap)) (W2.drew.setRow N c3.toArray):=by
  refine⟨N,cap,rfl,Zj (hg2.drew.setRow _) hge hcm ?_ ?_,(hf2.drew.setRow (fun h=>by omega) _).mono (fun _ _ h=>absurd h id),.inr (by omega)⟩
  ·rw[hc3]
   simp only[List.length_append,List.length_take,List.length_drop,hxl,hc2l]
   omega
  ·have e:(c2.take ((i+1)*2)++xs.drop (i*2)).length=(n+1)*2:=by rw[List.length_append,List.length_take,hc2l,hdl];omega
   rw[hc3,List.take_left' e,hc2t]
   rfl
 clear hc1t hc2t hc1a hc3 hc2 hc1 hg1 hv1 ho1 hf1 hg2 ho2 hf2 hdl hc2l hc1l h1 he1 hel hxl hv hg hN hsum hzs hb0 hs0 hz0 hi0
 unfold maxLen at hcm
 have hq1:¬(i:Int)=(n:Int):=by omega
 have hq3:¬n=i:=by omega
 have hq4:¬cap=i+1:=by omega
 have hq5:¬cap=i:=by omega
 have hq6:(n:Int)+1-i=((n+1-i:Nat):Int):=by omega
 have hw1:IntKind.i64.wrap ((i:Int)+1)=(i:Int)+1:=by rw[IntKind.wrap_i64];omega
 have hw2:(0:Int)≤(i:Int)+1:=by omega
 have hw3:((i:Int)+1).toNat=i+1:=by omega
 have hw4:(i:Int)≤(n:Int)+1:=by omega
 have hw5:(i:Int)≤(n:Int):=by omega
 go_enter Tryz.func295,Tryz.ntmps295
 go_wp2_with (at_builtin;go_must (first|(refine Lib.wpList_append_run _ rfl _ _ _ _ rfl _ _ (by rfl) (by rfl) _ _ (hrun _) ?_)|(refine wpList_copyK rfl _ _ 157 157 rfl _ _ (by rfl) (by rfl) (hcp1 _ _) ?_)))
 go_region_law (refine Y1 rfl _ _ 157 157 rfl _ _ (by simp[Act.eval,Act.put]) (by simp[Act.eval,Act.put]) (hcp2 _ _ _) ?_)
 go_wp2
 go_ret
 exact hfin
theorem Se(v:Value)(n i:Nat)(xs el:List Value)(vb:Nat)(w:World)(hown:w.ownsRow 0 239 2 v n xs)(h1:∀ u∈xs,u.oneCell'=true)(hi:i≤n)
  (hel:el.length=2)(he1:∀ u∈el,u.oneCell'=true)(hv:Blk w vb el 239)(hne:v.ownBlock≠some vb)(hbig:(n+1)*40≤140737488355328) :
  Calls Tryz.prog 295 #[v,.int .i64 i,.slice (some ⟨vb,0,none⟩) 1 1] w fun e w'=>VW w v.ownBlock n i xs el e w':=by
 rcases Nat.lt_or_ge i n with hlt|hge
 ·rcases ZW hown with⟨_,h0,_⟩|⟨g,cap,c,rfl,hg,hn,hm,hc,ht⟩
  ·omega
  ·have hne':vb≠g:=fun e=>hne (by rw[e];rfl)
   rcases Nat.lt_or_ge n cap with hr|hr
   ·exact Sd g n cap i c xs el vb w hg hc ht h1 hlt hr hm hel he1 hv hne'
   ·have e:cap=n:=by omega
    subst e
    have hcx:c=xs:=by rw[← ht];exact(List.take_of_length_le (by omega)).symm
    subst hcx
    exact R5 g cap i c el vb w hg hc h1 hlt hel he1 hv hbig
 ·have e:i=n:=by omega
  subst e
  exact Qm v i xs el vb w hown hel he1 hv hbig
theorem Lc:((Tryz.prog.info? 239).map fun i=>(i.zero.map (·.cells.size),i.size,i.bytes))=some (some 2,2,40):=by kernel_rfl
theorem Ld:((Tryz.prog.info? 239).map fun i=>(i.zero.map fun z=>z.cells.toList.all (·.oneCell')))=some (some true):=by kernel_rfl
theorem Sf(v:Value)(n i:Nat)(xs:List Value)(w:World)(hown:w.ownsRow 0 239 2 v n xs)(h1:∀ u∈xs,u.oneCell'=true)(hi:i<n) :
  Calls Tryz.prog 294 #[v,.int .i64 i,.int .i64 ((i:Int)+1)] w fun e w' =>
   ∃ v',e=.returned v'∧v'.ownBlock=v.ownBlock∧w'.ownsRow 0 239 2 v' (n-1) (ZP 2 i xs)∧Fr (fun b=>v.ownBlock=some b) w w':=by
 rcases ZW hown with⟨_,h0,_⟩|⟨g,cap,c,rfl,hg,hn,hcm,hcl,ht⟩
 ·omega
 obtain⟨i0,z,hi0,hz0,hs0,hb0,hzs⟩:=Zk Lc
 have hz1:∀ u∈z.cells.toList,u.oneCell'=true:=by
  have:=Ld
  rw[hi0] at this
  simp only[Option.map_some,hz0] at this
  exact List.all_eq_true.1 (Option.some.inj (Option.some.inj this))
 have hxl:xs.length=n*2:=hown.1
 clear hown
 obtain⟨ds,hds⟩:∃ ds,ds=xs.drop ((i+1)*2):=⟨_,rfl⟩
 have hdl:ds.length=(n-(i+1))*2:=by rw[hds,List.length_drop,hxl];omega
 have hdc:∀ j u,ds[j]?=some u→c[(i+1)*2+j]?=some u:=by
  intro j u hu
  rw[hds,List.getElem?_drop] at hu
  have hlt:=(List.getElem?_eq_some_iff.1 hu).1
  rw[← ht,List.getElem?_take_of_lt (by omega)] at hu
  exact hu
 obtain⟨ad,had,hsrc⟩:∃ ad:Addr,(if cap=i+1 then some (⟨g,0,none⟩:Addr) else some ⟨g,(i+1)*2,none⟩)=some ad∧Hid (∀ j u,ds[j]?=some u→w.drew.cell? (ad.add j)=some u):=by
  by_cases h:cap=i+1
  ·refine⟨⟨g,0,none⟩,by simp[h],fun j u hu=>?_⟩
   have:=(List.getElem?_eq_some_iff.1 hu).1
   omega
  ·refine⟨⟨g,(i+1)*2,none⟩,by simp[h],fun j u hu=>?_⟩
   rw[Addr.add_lit,hg.drew.cell]
   exact hdc j u hu
 have hap:∀ ty sc,(Builtin.append_ #[157,157] ty #[.slice (some ⟨g,0,none⟩) i cap,.slice (some ad) (n-(i+1)) sc]).run Tryz.prog w.drew=_:=fun ty sc =>
  V5 (P:=Tryz.prog) 157 239 ty 2 Tryz.underlying157 (by kernel_rfl) g i (n-(i+1)) cap sc ad c ds hg.drew (by omega) hcl hdl hsrc.out (fun u hu=>h1 u (by rw[hds] at hu;exact List.mem_of_mem_drop hu))
 have e1:i+(n-(i+1))=n-1:=by omega
 rw[e1] at hap
 obtain⟨c1,hc1⟩:∃ c1,c1=c.take (i*2)++ds++c.drop (i*2+ds.length):=⟨_,rfl⟩
 rw[← hc1] at hap
 have hc1l:c1.length=cap*2:=by
  rw[hc1]
  simp only[List.length_append,List.length_take,List.length_drop,hdl,hcl]
  omega
 have hc1t:c1.take ((n-1)*2)=ZP 2 i xs:=by
  have e:(c.take (i*2)++ds).length=(n-1)*2:=by rw[List.length_append,List.length_take,hdl,hcl];omega
  rw[hc1,List.take_left' e]
  unfold ZP
  rw[← hds,← ht,List.take_take]
  congr 2
  omega
 have hg1:Blk (w.drew.setRow g c1.toArray) g c1 239:=hg.drew.setRow c1
 have hf1:Fr (fun b=>some g=some b) w (w.drew.setRow g c1.toArray):=Fr.setRow (S:=fun b=>some g=some b) ((G _ w).drew) (fun _=>rfl) _
 obtain⟨W1,hW1⟩:∃ W1,W1=w.drew.setRow g c1.toArray:=⟨_,rfl⟩
 rw[← hW1] at hap hg1 hf1
 clear hW1
 have hclr:∀ cc,∃ c2:List Value,c2.length=cap*2∧c2.take ((n-1)*2)=ZP 2 i xs∧∀ ty,(Builtin.clear_ #[157] ty #[.slice (some ⟨g,(n-1)*2,none⟩) (n-(n-1)) cc]).run Tryz.prog W1=.ok (.tuple #[]) (W1.setRow g c2.toArray):=by
  intro cc
  have e2:n-(n-1)=1:=by omega
  rw[e2]
  obtain⟨zs,hzl,hrun⟩:=U9 (P:=Tryz.prog) (w:=W1) 157 239 239 i0 z 2 Tryz.underlying157 hi0 hz0 hzs hz1 g ((n-1)*2) 1 cc c1 239 hg1 (by rw[hc1l];omega)
  refine⟨c1.take ((n-1)*2)++zs++c1.drop ((n-1)*2+zs.length),?_,?_,fun ty=>hrun⟩
  ·simp only[List.length_append,List.length_take,List.length_drop,hzl,hc1l]
   omega
  ·have e:(c1.take ((n-1)*2)).length=(n-1)*2:=by rw[List.length_take,hc1l];omega
   rw[List.append_assoc,List.take_left' e,hc1t]
 obtain⟨c2,hc2l,hc2t,hclr⟩:=hclr (cap-(n-1))
 have hfin:∀ e,e=Ending.returned (.slice (some ⟨g,0,none⟩) (n-1) cap)→∃ v',e=.returned v'∧v'.ownBlock=some g∧(W1.setRow g c2.toArray).ownsRow 0 239 2 v' (n-1) (ZP 2 i xs)∧Fr (fun b=>some g=some b) w (W1.setRow g c2.toArray):=by
  intro e he
  exact⟨_,he,rfl,Zj (hg1.setRow _) (by omega) hcm hc2l hc2t,Fr.setRow (S:=fun b=>some g=some b) hf1 (fun _=>rfl) _⟩
 clear hc2t hc2l hc1t hc1l hc1 hg1 hf1 hdc hdl hds hg hxl h1 hzs hb0 hs0 hz0 hi0 hz1 hcl ht
 have hob:(Value.slice (some ⟨g,0,none⟩) n cap).ownBlock=some g:=rfl
 rw[hob]
 clear hob
 unfold maxLen at hcm
 have hic:i≤cap:=by omega
 have hq0:¬(i:Int)=(i:Int)+1:=by omega
 have hq1:¬cap=n-1:=by omega
 have hw1:IntKind.i64.wrap ((i:Int)+1)=(i:Int)+1:=by rw[IntKind.wrap_i64];omega
 have hw2:(0:Int)≤(i:Int)+1:=by omega
 have hw3:((i:Int)+1).toNat=i+1:=by omega
 have hw4:(i:Int)≤(n:Int):=by omega
 have hw5:(i:Int)+1≤(n:Int):=by omega
 go_enter Tryz.func294,Tryz.ntmps294
 go_wp2_with fail
 go_region_law (refine TC rfl _ _ 157 157 rfl _ _ (by simp[Act.eval,Act.put]) (by simp[Act.eval,Act.put]) (hap _ (cap-(i+1))) ?_)
 go_wp2
 go_ret
 exact hfin _ rfl
abbrev zp (l:List (ByteArray × Value)):List ByteArray:=l.map Prod.fst
structure Xm(w:World)(v:Value)(l:List (ByteArray × Value)):Prop where
 own:w.ownsRow 0 239 2 v l.length (zS l)
 asc:Asc zb (zp l)
 one:∀ e∈l,e.2.oneCell'=true
theorem Xm.fr{w w':World}{v:Value}{l:List (ByteArray × Value)}{S:Nat→Prop}(h:Xm w v l)(f:Fr S w w')(hn:∀ k,v.ownBlock=some k→¬S k):Xm w' v l :=
 ⟨z7 h.own f hn,h.asc,h.one⟩
theorem TH{l:List (ByteArray × Value)}(h:∀ e∈l,e.2.oneCell'=true):∀ u∈zS l,u.oneCell'=true:=by
 intro u hu
 simp only[zS,List.mem_flatMap] at hu
 obtain⟨e,he,hu⟩:=hu
 simp at hu
 rcases hu with rfl|rfl
 ·rfl
 ·exact h e he
theorem XD(v:Value)(l:List (ByteArray × Value))(s:ByteArray)(b:Nat)(w:World)(hc:w.cell? ⟨b,0,none⟩=some v)(h:Xm w v l)(hsz:l.length<4611686018427387904) :
  Calls Tryz.prog 163 #[.pointer (some ⟨b,0,none⟩),.string s] w fun e w' =>
   e=.returned (.tuple #[.int .i64 (low zb (zp l) s),.bool (zX zb (zp l) s)])∧Fr Nil w w':=by
 have HC:=Z (Sc v l s w h.own h.asc hsz)
 clear h
 go_enter Tryz.func163,Tryz.ntmps163
 go_wp2_with (refine HC.out.mono ?_;rintro e w1 ⟨rfl,hf1⟩)
 go_ret2
 exact⟨rfl,hf1⟩
def getE(l:List (ByteArray × Value))(s:ByteArray):Value :=
 if zX zb (zp l) s=true then(l.getD (low zb (zp l) s) (s,.slice none 0 0)).2 else .slice none 0 0
theorem Yu{l:List (ByteArray × Value)}{s:ByteArray}(h:zX zb (zp l) s=true):∃ hl:low zb (zp l) s<l.length,l[low zb (zp l) s].1=s:=by
 rcases Nat.lt_or_ge (low zb (zp l) s) l.length with hl|hl
 ·refine⟨hl,?_⟩
  rw[YT hl rfl] at h
  exact zR.1 h
 ·rw[Wk (by simpa using hl)] at h
  cases h
theorem Pq(v:Value)(l:List (ByteArray × Value))(s:ByteArray)(b:Nat)(w:World)(hc:w.cell? ⟨b,0,none⟩=some v)(hb:b<w.heap.size)(h:Xm w v l)(hsz:l.length<4611686018427387904) :
  Calls Tryz.prog 124 #[.pointer (some ⟨b,0,none⟩),.string s] w fun e w' =>
   e=.returned (getE l s)∧Fr Nil w w':=by
 have HC:=Z (XD v l s b w hc h hsz)
 cases ha:zX zb (zp l) s with
 | false =>
  have hg:getE l s=.slice none 0 0:=by simp[getE,ha]
  rw[hg]
  clear hg
  go_enter Tryz.func124,Tryz.ntmps124
  go_wp2_with (refine HC.out.mono ?_;rintro e w1 ⟨rfl,hf1⟩)
  go_ret
  exact⟨rfl,hf1⟩
 | true =>
  obtain⟨hl,hk⟩:=Yu ha
  have hg:getE l s=l[low zb (zp l) s].2:=by simp[getE,ha,hl]
  rw[hg]
  have HH:=Z h
  have hn:=zK h.own
  unfold maxLen at hn
  clear hg hk h
  go_enter Tryz.func124,Tryz.ntmps124
  go_wp2_with fail
  refine HC.out.mono ?_
  rintro e w1 ⟨rfl,hf1⟩
  have hc1:w1.cell? ⟨b,0,none⟩=some v:=(hf1.cell hb id).trans hc
  have h1:=HH.out.fr hf1 (fun _ _=>id)
  obtain⟨g,cap,hv,_,_⟩:=zi h1.own (by omega)
  subst hv
  have hc2:=own_cell? h1.own (low zb (zp l) s*2+1) _ (zU l _ hl).2
  clear hc h1
  generalize low zb (zp l) s=i at hl hc2 ⊢
  go_wp2
  go_ret
  exact⟨rfl,hf1⟩
theorem Z9(a b:List (ByteArray × Value)):zS (a++b)=zS a++zS b:=by simp[zS]
theorem Um(l:List (ByteArray × Value))(i:Nat):(zS l).take (i*2)=zS (l.take i):=by
 rcases Nat.le_total i l.length with h|h
 ·have e:=Z9 (l.take i) (l.drop i)
  rw[List.take_append_drop] at e
  rw[e]
  exact List.take_left' (by rw[Yb,List.length_take,Nat.min_eq_left h])
 ·rw[List.take_of_length_le h,List.take_of_length_le (by rw[Yb];omega)]
theorem Un(l:List (ByteArray × Value))(i:Nat):(zS l).drop (i*2)=zS (l.drop i):=by
 rcases Nat.le_total i l.length with h|h
 ·have e:=Z9 (l.take i) (l.drop i)
  rw[List.take_append_drop] at e
  rw[e]
  exact List.drop_left' (by rw[Yb,List.length_take,Nat.min_eq_left h])
 ·rw[List.drop_eq_nil_of_le h,List.drop_eq_nil_of_le (by rw[Yb];omega)]
  rfl
def ZS(l:List (ByteArray × Value))(s:ByteArray)(x:Value):List (ByteArray × Value) :=
 l.take (low zb (zp l) s)++[(s,x)]++l.drop (if zX zb (zp l) s=true then low zb (zp l) s+1 else low zb (zp l) s)
def Yv(l:List (ByteArray × Value))(s:ByteArray):List (ByteArray × Value) :=
 if zX zb (zp l) s=true then l.take (low zb (zp l) s)++l.drop (low zb (zp l) s+1) else l
theorem OE{l:List (ByteArray × Value)}{s:ByteArray}{x:Value}(h:zX zb (zp l) s=true):zp (ZS l s x)=zp l:=by
 obtain⟨hl,hk⟩:=Yu h
 unfold ZS
 rw[if_pos h]
 generalize low zb (zp l) s=i at hl hk ⊢
 have e3:(l.map Prod.fst)[i]'(by simpa using hl)=s:=by rw[List.getElem_map];exact hk
 simp only[zp,List.map_append,List.map_cons,List.map_nil,List.map_take,List.map_drop]
 rw[← e3,← List.take_succ_eq_append_getElem,List.take_append_drop]
theorem R6{l:List (ByteArray × Value)}(s:ByteArray)(x:Value)(h:Asc zb (zp l)):Asc zb (zp (ZS l s x)):=by
 cases ha:zX zb (zp l) s with
 | true=>rw[OE ha];exact h
 | false =>
  have:=Asc.ins Z8 (b:=s) h (fun hl e=>by rw[Vs hl,e] at ha;rw[zR.2 rfl] at ha;cases ha)
  unfold ZS
  simp only[ha,Bool.false_eq_true,if_false]
  simpa [zp,List.map_take,List.map_drop] using this
theorem R7{l:List (ByteArray × Value)}{s:ByteArray}{x:Value}(h:∀ e∈l,e.2.oneCell'=true)(hx:x.oneCell'=true):∀ e∈ZS l s x,e.2.oneCell'=true:=by
 intro e he
 simp only[ZS,List.mem_append,List.mem_singleton] at he
 rcases he with(he|rfl)|he
 ·exact h e (List.mem_of_mem_take he)
 ·exact hx
 ·exact h e (List.mem_of_mem_drop he)
theorem VD{l:List (ByteArray × Value)}{s:ByteArray}{x:Value}:(ZS l s x).length=if zX zb (zp l) s=true then l.length else l.length+1:=by
 have:=Wj zb (zp l) s
 simp only[List.length_map] at this
 split
 ·rename_i h
  obtain⟨hl,_⟩:=Yu h
  simp only[ZS,h,if_true,List.length_append,List.length_take,List.length_drop,List.length_singleton]
  omega
 ·rename_i h
  simp only[ZS,h,List.length_append,List.length_take,List.length_drop,List.length_singleton]
  simp
  omega
theorem NS{l:List (ByteArray × Value)}(s:ByteArray)(h:Asc zb (zp l)):Asc zb (zp (Yv l s)):=by
 unfold Yv
 split
 ·have:=Asc.del h (low zb (zp l) s)
  simpa [zp,List.map_take,List.map_drop] using this
 ·exact h
theorem R8{l:List (ByteArray × Value)}{s:ByteArray}:∀ e∈Yv l s,e∈l:=by
 intro e he
 unfold Yv at he
 split at he
 ·rcases List.mem_append.1 he with he|he
  ·exact List.mem_of_mem_take he
  ·exact List.mem_of_mem_drop he
 ·exact he
def Y6(w:World)(b:Nat)(t:TypeId)(v:Value)(rest:List Value)(l:List (ByteArray × Value))(w':World):Prop :=
 ∃ v',Blk w' b (v'::rest) t∧Xm w' v' l∧Fr (fun k=>k=b∨v.ownBlock=some k) w w'∧(∀ k,v'.ownBlock=some k→v.ownBlock=some k∨w.heap.size≤k)
theorem Pr(v:Value)(rest:List Value)(l:List (ByteArray × Value))(s:ByteArray)(xa:Option Addr)(xn xc:Nat)(b:Nat)(t:TypeId)(w:World)(hb:Blk w b (v::rest) t)(ht:t≠239)(h:Xm w v l)
  (hsz:l.length<1099511627776) :
  Calls Tryz.prog 291 #[.pointer (some ⟨b,0,none⟩),.string s,.slice xa xn xc] w fun e w' =>
   e=.returned (.tuple #[])∧Y6 w b t v rest (ZS l s (.slice xa xn xc)) w':=by
 have hc:w.cell? ⟨b,0,none⟩=some v:=by rw[hb.cell];rfl
 have HC:=Z (XD v l s b w hc h (by omega))
 have hn:=zK h.own
 unfold maxLen at hn
 cases ha:zX zb (zp l) s with
 | true =>
  obtain⟨hl,hk⟩:=Yu ha
  have HH:=Z h
  have HB:=Z hb
  have HK:=Z hk
  clear hc h hb hk
  go_enter Tryz.func291,Tryz.ntmps291
  go_wp2_with fail
  refine HC.out.mono ?_
  rintro e w1 ⟨rfl,hf1⟩
  have hb1:=HB.out.fr hf1 id
  have hc1:w1.cell? ⟨b,0,none⟩=some v:=by rw[hb1.cell];rfl
  have h1:=HH.out.fr hf1 (fun _ _=>id)
  obtain⟨g,cap,hv,hnc,_⟩:=zi h1.own (by omega)
  subst hv
  have hc2:=own_cell? h1.own (low zb (zp l) s*2+1) _ (zU l _ hl).2
  have hz2:=YH h1.own (low zb (zp l) s*2+1)
  have hne:b≠g:=fun e=>za h1.own hb1 ht (by rw[e];rfl)
  have hfin:Y6 w b t (.slice (some ⟨g,0,none⟩) l.length cap) rest (ZS l s (.slice xa xn xc)) (w1.setCell ⟨g,low zb (zp l) s*2+1,none⟩ (.slice xa xn xc)):=by
   have hsl:=VD (l:=l) (s:=s) (x:=.slice xa xn xc)
   rw[if_pos ha] at hsl
   refine⟨_,hb1.far hne _ _,⟨?_,R6 s _ h1.asc,R7 h1.one rfl⟩,Fr.set (hf1.mono (fun _ _ h=>absurd h id)) (fun _=>.inr rfl) _,fun k hk=>.inl hk⟩
   have:=Zu h1.own (low zb (zp l) s*2+1) (.slice xa xn xc)
   rw[hsl]
   refine cast (congrArg (World.ownsRow _ 0 _ 2 _ l.length) ?_) this
   have e:ZS l s (.slice xa xn xc)=l.take (low zb (zp l) s)++[(s,.slice xa xn xc)]++l.drop (low zb (zp l) s+1):=by unfold ZS;rw[if_pos ha]
   have e2:l=l.take (low zb (zp l) s)++[l[low zb (zp l) s]]++l.drop (low zb (zp l) s+1):=by
    rw[← List.take_succ_eq_append_getElem hl,List.take_append_drop]
   have hk:=HK.out
   rw[e]
   generalize low zb (zp l) s=i at hl hk e2 ⊢
   have hpl:(zS (l.take i)).length=i*2:=by rw[Yb,List.length_take,Nat.min_eq_left (by omega)]
   conv=>lhs;rw[e2]
   rw[Z9,Z9,Z9,Z9,List.append_assoc,List.append_assoc,List.set_append_right _ _ (by omega),hpl,show i*2+1-i*2=1 by omega]
   simp[zS,hk]
  clear hc2 h1 hb1
  have hc2:=own_cell? (HH.out.fr hf1 (fun _ _=>id)).own (low zb (zp l) s*2+1) _ (zU l _ hl).2
  have HF:=Z hfin
  clear hfin
  generalize low zb (zp l) s=i at hl hc2 hz2 HF ⊢
  go_wp2
  exact bodyPost_ret (v:=.tuple #[]) (by simp[results,go_sem]) rfl ⟨rfl,HF.out⟩
 | false =>
  have HH:=Z h
  have HB:=Z hb
  clear hc h hb
  go_enter Tryz.func291,Tryz.ntmps291
  go_wp2_with fail
  refine HC.out.mono ?_
  rintro e w1 ⟨rfl,hf1⟩
  have hb1:=HB.out.fr hf1 id
  have hc1:w1.cell? ⟨b,0,none⟩=some v:=by rw[hb1.cell];rfl
  have hz1:=hb1.frozen 0
  go_wp2_with fail
  have hN:Blk (w1.alloc (.cells #[.string s,.slice xa xn xc] 239)) w1.heap.size [.string s,.slice xa xn xc] 239:=Blk.new w1 [.string s,.slice xa xn xc] _
  have hb2:=hb1.alloc (.cells #[.string s,.slice xa xn xc] 239)
  have hf2:Fr Nil w (w1.alloc (.cells #[.string s,.slice xa xn xc] 239)):=hf1.alloc _
  have hlt:∀ k,v.ownBlock=some k→k<w1.heap.size:=fun k hk=>zA (HH.out.fr hf1 (fun _ _=>id)).own hk
  generalize w1.alloc (.cells #[.string s,.slice xa xn xc] 239)=w2 at hN hb2 hf2 ⊢
  have h2:=HH.out.fr hf2 (fun _ _=>id)
  have hvb:v.ownBlock≠some b:=za h2.own hb2 ht
  have hlo:=Wj zb (zp l) s
  simp only[List.length_map] at hlo
  refine(Se v l.length (low zb (zp l) s) (zS l) [.string s,.slice xa xn xc] w1.heap.size w2 h2.own (TH h2.one) hlo rfl (by intro u hu;simp at hu;rcases hu with rfl|rfl <;> rfl) hN (fun e=>by have:=hlt _ e;omega) (by omega)).mono ?_
  rintro e w3 ⟨g,cap,rfl,ho3,hf3,hob⟩
  have hb3:=hb2.fr hf3 hvb
  have hc3:w3.cell? ⟨b,0,none⟩=some v:=by rw[hb3.cell];rfl
  have hz3:=hb3.frozen 0
  have hbg:b≠g:=by
   rcases hob with h|h
   ·intro e;exact hvb (by rw[h,e])
   ·have:=hb2.lt;omega
  have hfin:Y6 w b t v rest (ZS l s (.slice xa xn xc)) (w3.setCell ⟨b,0,none⟩ (.slice (some ⟨g,0,none⟩) (l.length+1) cap)):=by
   have hsl:=VD (l:=l) (s:=s) (x:=.slice xa xn xc)
   rw[if_neg (by rw[ha];simp)] at hsl
   refine⟨.slice (some ⟨g,0,none⟩) (l.length+1) cap,hb3.set 0 _,⟨?_,R6 s _ h2.asc,R7 h2.one rfl⟩,Fr.set ((hf2.mono (fun _ _ h=>absurd h id)).trans' hf3 (fun i _ h=>.inr h)) (fun _=>.inl rfl) _,fun k hk=>?_⟩
   ·rw[hsl]
    have e:zS (ZS l s (.slice xa xn xc))=ZH 2 (low zb (zp l) s) (zS l) [.string s,.slice xa xn xc]:=by
     unfold ZS ZH
     rw[if_neg (by rw[ha];simp),Z9,Z9,Um,Un]
     rfl
    rw[e]
    exact z7 ho3 (Fr.set (S:=fun k=>k=b) (G _ _) (fun _=>rfl) _) (fun k hk=>by simp[Value.ownBlock] at hk;omega)
   ·simp[Value.ownBlock] at hk
    subst hk
    rcases hob with h|h
    ·exact .inl h
    ·exact .inr (by have:=hf2.size;omega)
  have HF:=Z hfin
  clear hfin
  go_wp2
  exact bodyPost_end (v:=.tuple #[]) (by simp[results,go_sem]) rfl ⟨rfl,HF.out⟩
theorem Qn{l:List (ByteArray × Value)}{s:ByteArray}(h:zX zb (zp l) s=true):(Yv l s).length=l.length-1:=by
 obtain⟨hl,_⟩:=Yu h
 simp only[Yv,h,if_true,List.length_append,List.length_take,List.length_drop]
 omega
theorem Sg(v:Value)(rest:List Value)(l:List (ByteArray × Value))(s:ByteArray)(b:Nat)(t:TypeId)(w:World)(hb:Blk w b (v::rest) t)(ht:t≠239)(h:Xm w v l)
  (hsz:l.length<1099511627776) :
  Calls Tryz.prog 290 #[.pointer (some ⟨b,0,none⟩),.string s] w fun e w' =>
   e=.returned (.tuple #[])∧Y6 w b t v rest (Yv l s) w':=by
 have hc:w.cell? ⟨b,0,none⟩=some v:=by rw[hb.cell];rfl
 have HC:=Z (XD v l s b w hc h (by omega))
 have hn:=zK h.own
 unfold maxLen at hn
 cases ha:zX zb (zp l) s with
 | true =>
  obtain⟨hl,hk⟩:=Yu ha
  have HH:=Z h
  have HB:=Z hb
  clear hc h hb hk
  have hlw:(low zb (zp l) s:Int)+1≤9223372036854775807:=by omega
  go_enter Tryz.func290,Tryz.ntmps290
  go_wp2_with fail
  refine HC.out.mono ?_
  rintro e w1 ⟨rfl,hf1⟩
  have hb1:=HB.out.fr hf1 id
  have hc1:w1.cell? ⟨b,0,none⟩=some v:=by rw[hb1.cell];rfl
  have hz1:=hb1.frozen 0
  go_wp2_with fail
  have h2:=HH.out.fr hf1 (fun _ _=>id)
  have hvb:v.ownBlock≠some b:=za h2.own hb1 ht
  refine(Sf v l.length (low zb (zp l) s) (zS l) w1 h2.own (TH h2.one) hl).mono ?_
  rintro e w3 ⟨v',rfl,hv',ho3,hf3⟩
  have hb3:=hb1.fr hf3 hvb
  have hc3:w3.cell? ⟨b,0,none⟩=some v:=by rw[hb3.cell];rfl
  have hz3:=hb3.frozen 0
  have hfin:Y6 w b t v rest (Yv l s) (w3.setCell ⟨b,0,none⟩ v'):=by
   refine⟨v',hb3.set 0 _,⟨?_,NS s h2.asc,fun e he=>h2.one e (R8 e he)⟩,Fr.set ((hf1.mono (fun _ _ h=>absurd h id)).trans' hf3 (fun i _ h=>.inr h)) (fun _=>.inl rfl) _,fun k hk=>.inl (by rw[← hv'];exact hk)⟩
   have e:zS (Yv l s)=ZP 2 (low zb (zp l) s) (zS l):=by
    unfold Yv ZP
    rw[if_pos ha,Z9,Um,Un]
   rw[Qn ha,e]
   exact z7 ho3 (Fr.set (S:=fun k=>k=b) (G _ _) (fun _=>rfl) _) (fun k hk e=>hvb (by rw[← hv',hk,e]))
  have HF:=Z hfin
  obtain⟨va,vc,hva⟩:=z8 ho3
  subst hva
  clear hfin ho3
  go_wp2
  exact bodyPost_end (v:=.tuple #[]) (by simp[results,go_sem]) rfl ⟨rfl,HF.out⟩
 | false =>
  have hd:Yv l s=l:=by unfold Yv;rw[if_neg (by rw[ha];simp)]
  rw[hd]
  have HH:=Z h
  have HB:=Z hb
  clear hc h hb hd
  go_enter Tryz.func290,Tryz.ntmps290
  go_wp2_with fail
  refine HC.out.mono ?_
  rintro e w1 ⟨rfl,hf1⟩
  go_wp2
  exact bodyPost_end (v:=.tuple #[]) (by simp[results,go_sem]) rfl ⟨rfl,v,HB.out.fr hf1 id,HH.out.fr hf1 (fun _ _=>id),hf1.mono (fun _ _ h=>absurd h id),fun k hk=>.inl hk⟩
theorem Ps(v:Value)(l:List (ByteArray × Value))(b:Nat)(w:World)(hc:w.cell? ⟨b,0,none⟩=some v)(h:Xm w v l) :
  Calls Tryz.prog 134 #[.pointer (some ⟨b,0,none⟩)] w fun e w'=>e=.returned (.int .i64 l.length)∧w'=w:=by
 have hn:=zK h.own
 unfold maxLen at hn
 obtain⟨a,cap,rfl⟩:=z8 h.own
 go_enter Tryz.func134,Tryz.ntmps134
 go_wp2
 go_ret
 exact⟨rfl,rfl⟩
theorem Le:((Tryz.prog.info? 75).map fun i=>(i.zero.map (·.cells.size),i.size,i.bytes))=some (some 2,2,24):=by kernel_rfl
theorem Lf:((Tryz.prog.info? 75).map fun i=>(i.zero.map fun z=>z.cells.toList.all (·.oneCell')))=some (some true):=by kernel_rfl
theorem Sh(v:Value)(n i:Nat)(xs:List Value)(w:World)(hown:w.ownsRow 0 75 2 v n xs)(h1:∀ u∈xs,u.oneCell'=true)(hi:i<n) :
  Calls Tryz.prog 278 #[v,.int .i64 i,.int .i64 ((i:Int)+1)] w fun e w' =>
   ∃ v',e=.returned v'∧v'.ownBlock=v.ownBlock∧w'.ownsRow 0 75 2 v' (n-1) (ZP 2 i xs)∧Fr (fun b=>v.ownBlock=some b) w w':=by
 rcases ZW hown with⟨_,h0,_⟩|⟨g,cap,c,rfl,hg,hn,hcm,hcl,ht⟩
 ·omega
 obtain⟨i0,z,hi0,hz0,hs0,hb0,hzs⟩:=Zk Le
 have hz1:∀ u∈z.cells.toList,u.oneCell'=true:=by
  have:=Lf
  rw[hi0] at this
  simp only[Option.map_some,hz0] at this
  exact List.all_eq_true.1 (Option.some.inj (Option.some.inj this))
 have hxl:xs.length=n*2:=hown.1
 clear hown
 obtain⟨ds,hds⟩:∃ ds,ds=xs.drop ((i+1)*2):=⟨_,rfl⟩
 have hdl:ds.length=(n-(i+1))*2:=by rw[hds,List.length_drop,hxl];omega
 have hdc:∀ j u,ds[j]?=some u→c[(i+1)*2+j]?=some u:=by
  intro j u hu
  rw[hds,List.getElem?_drop] at hu
  have hlt:=(List.getElem?_eq_some_iff.1 hu).1
  rw[← ht,List.getElem?_take_of_lt (by omega)] at hu
  exact hu
 obtain⟨ad,had,hsrc⟩:∃ ad:Addr,(if cap=i+1 then some (⟨g,0,none⟩:Addr) else some ⟨g,(i+1)*2,none⟩)=some ad∧Hid (∀ j u,ds[j]?=some u→w.drew.cell? (ad.add j)=some u):=by
  by_cases h:cap=i+1
  ·refine⟨⟨g,0,none⟩,by simp[h],fun j u hu=>?_⟩
   have:=(List.getElem?_eq_some_iff.1 hu).1
   omega
  ·refine⟨⟨g,(i+1)*2,none⟩,by simp[h],fun j u hu=>?_⟩
   rw[Addr.add_lit,hg.drew.cell]
   exact hdc j u hu
 have hap:∀ ty sc,(Builtin.append_ #[66,66] ty #[.slice (some ⟨g,0,none⟩) i cap,.slice (some ad) (n-(i+1)) sc]).run Tryz.prog w.drew=_:=fun ty sc =>
  V5 (P:=Tryz.prog) 66 75 ty 2 Tryz.underlying66 (by kernel_rfl) g i (n-(i+1)) cap sc ad c ds hg.drew (by omega) hcl hdl hsrc.out (fun u hu=>h1 u (by rw[hds] at hu;exact List.mem_of_mem_drop hu))
 have e1:i+(n-(i+1))=n-1:=by omega
 rw[e1] at hap
 obtain⟨c1,hc1⟩:∃ c1,c1=c.take (i*2)++ds++c.drop (i*2+ds.length):=⟨_,rfl⟩
 rw[← hc1] at hap
 have hc1l:c1.length=cap*2:=by
  rw[hc1]
  simp only[List.length_append,List.length_take,List.length_drop,hdl,hcl]
  omega
 have hc1t:c1.take ((n-1)*2)=ZP 2 i xs:=by
  have e:(c.take (i*2)++ds).length=(n-1)*2:=by rw[List.length_append,List.length_take,hdl,hcl];omega
  rw[hc1,List.take_left' e]
  unfold ZP
  rw[← hds,← ht,List.take_take]
  congr 2
  omega
 have hg1:Blk (w.drew.setRow g c1.toArray) g c1 75:=hg.drew.setRow c1
 have hf1:Fr (fun b=>some g=some b) w (w.drew.setRow g c1.toArray):=Fr.setRow (S:=fun b=>some g=some b) ((G _ w).drew) (fun _=>rfl) _
 obtain⟨W1,hW1⟩:∃ W1,W1=w.drew.setRow g c1.toArray:=⟨_,rfl⟩
 rw[← hW1] at hap hg1 hf1
 clear hW1
 have hclr:∀ cc,∃ c2:List Value,c2.length=cap*2∧c2.take ((n-1)*2)=ZP 2 i xs∧∀ ty,(Builtin.clear_ #[66] ty #[.slice (some ⟨g,(n-1)*2,none⟩) (n-(n-1)) cc]).run Tryz.prog W1=.ok (.tuple #[]) (W1.setRow g c2.toArray):=by
  intro cc
  have e2:n-(n-1)=1:=by omega
  rw[e2]
  obtain⟨zs,hzl,hrun⟩:=U9 (P:=Tryz.prog) (w:=W1) 66 75 75 i0 z 2 Tryz.underlying66 hi0 hz0 hzs hz1 g ((n-1)*2) 1 cc c1 75 hg1 (by rw[hc1l];omega)
  refine⟨c1.take ((n-1)*2)++zs++c1.drop ((n-1)*2+zs.length),?_,?_,fun ty=>hrun⟩
  ·simp only[List.length_append,List.length_take,List.length_drop,hzl,hc1l]
   omega
  ·have e:(c1.take ((n-1)*2)).length=(n-1)*2:=by rw[List.length_take,hc1l];omega
   rw[List.append_assoc,List.take_left' e,hc1t]
 obtain⟨c2,hc2l,hc2t,hclr⟩:=hclr (cap-(n-1))
 have hfin:∀ e,e=Ending.returned (.slice (some ⟨g,0,none⟩) (n-1) cap)→∃ v',e=.returned v'∧v'.ownBlock=some g∧(W1.setRow g c2.toArray).ownsRow 0 75 2 v' (n-1) (ZP 2 i xs)∧Fr (fun b=>some g=some b) w (W1.setRow g c2.toArray):=by
  intro e he
  exact⟨_,he,rfl,Zj (hg1.setRow _) (by omega) hcm hc2l hc2t,Fr.setRow (S:=fun b=>some g=some b) hf1 (fun _=>rfl) _⟩
 clear hc2t hc2l hc1t hc1l hc1 hg1 hf1 hdc hdl hds hg hxl h1 hzs hb0 hs0 hz0 hi0 hz1 hcl ht
 have hob:(Value.slice (some ⟨g,0,none⟩) n cap).ownBlock=some g:=rfl
 rw[hob]
 clear hob
 unfold maxLen at hcm
 have hic:i≤cap:=by omega
 have hq0:¬(i:Int)=(i:Int)+1:=by omega
 have hq1:¬cap=n-1:=by omega
 have hw1:IntKind.i64.wrap ((i:Int)+1)=(i:Int)+1:=by rw[IntKind.wrap_i64];omega
 have hw2:(0:Int)≤(i:Int)+1:=by omega
 have hw3:((i:Int)+1).toNat=i+1:=by omega
 have hw4:(i:Int)≤(n:Int):=by omega
 have hw5:(i:Int)+1≤(n:Int):=by omega
 go_enter Tryz.func278,Tryz.ntmps278
 go_wp2_with fail
 go_region_law (refine TC rfl _ _ 66 66 rfl _ _ (by simp[Act.eval,Act.put]) (by simp[Act.eval,Act.put]) (hap _ (cap-(i+1))) ?_)
 go_wp2
 go_ret
 exact hfin _ rfl
structure SM where
 keys:List (ByteArray × List Ver)
 hints:List (Nat × ByteArray)
 leased:Nat
structure SL where
 kv:Value
 hv:Value
 ents:List (ByteArray × Value)
def VRow(w:World)(v:Value)(l:List Ver):Prop:=w.ownsRow 0 37 8 v l.length (zM l)
def zD(l:List (Nat × ByteArray)):List Value:=l.flatMap fun e=>[.int .i64 e.1,.string e.2]
theorem R9(d:List (Nat × ByteArray)):(zD d).length=d.length*2:=by
 induction d with
 | nil=>rfl
 | cons e d ih=>simp only[zD,List.flatMap_cons,List.length_append,List.length_cons,List.length_nil] at ih ⊢;omega
theorem XR(l:List (Nat × ByteArray)):∀ u∈zD l,u.oneCell'=true:=by
 intro u hu
 simp only[zD,List.mem_flatMap] at hu
 obtain⟨e,_,hu⟩:=hu
 simp at hu
 rcases hu with rfl|rfl <;> rfl
def Pair(R:Value→List Ver→Prop):List (ByteArray × Value)→List (ByteArray × List Ver)→Prop
 | [],[]=>True
 | a::us,b::bs=>a.1=b.1∧R a.2 b.2∧Pair R us bs
 | _,_=>False
theorem Pair.mono{R Q:Value→List Ver→Prop}:∀ {us:List (ByteArray × Value)}{bs:List (ByteArray × List Ver)},Pair R us bs→(∀ a,a∈us→∀ l,R a.2 l→Q a.2 l)→Pair Q us bs
 | [],[],_,_=>trivial
 | a::_,_::_,h,f=>⟨h.1,f a (List.mem_cons_self ..) _ h.2.1,Pair.mono h.2.2 fun x hx=>f x (List.mem_cons_of_mem _ hx)⟩
theorem Pair.length{R:Value→List Ver→Prop}:∀ {us:List (ByteArray × Value)}{bs:List (ByteArray × List Ver)},Pair R us bs→us.length=bs.length
 | [],[],_=>rfl
 | _::us,_::bs,h=>by simp[Pair.length h.2.2]
theorem Pair.keys{R:Value→List Ver→Prop}:∀ {us:List (ByteArray × Value)}{bs:List (ByteArray × List Ver)},Pair R us bs→us.map Prod.fst=bs.map Prod.fst
 | [],[],_=>rfl
 | _::us,_::bs,h=>by simp[Pair.keys h.2.2,h.1]
theorem Pair.take{R:Value→List Ver→Prop}:∀ {us:List (ByteArray × Value)}{bs:List (ByteArray × List Ver)}(i:Nat),Pair R us bs→Pair R (us.take i) (bs.take i)
 | [],[],i,_=>by simp[Pair]
 | _::us,_::bs,0,_=>trivial
 | _::us,_::bs,i+1,h=>⟨h.1,h.2.1,Pair.take i h.2.2⟩
theorem Pair.drop{R:Value→List Ver→Prop}:∀ {us:List (ByteArray × Value)}{bs:List (ByteArray × List Ver)}(i:Nat),Pair R us bs→Pair R (us.drop i) (bs.drop i)
 | [],[],i,_=>by simp[Pair]
 | _::us,_::bs,0,h=>h
 | _::us,_::bs,i+1,h=>Pair.drop i h.2.2
theorem Pair.append{R:Value→List Ver→Prop}:∀ {us:List (ByteArray × Value)}{bs:List (ByteArray × List Ver)}{cs:List (ByteArray × Value)}{ds:List (ByteArray × List Ver)},Pair R us bs→Pair R cs ds→Pair R (us++cs) (bs++ds)
 | [],[],_,_,_,k=>k
 | _::_,_::_,_,_,h,k=>⟨h.1,h.2.1,Pair.append h.2.2 k⟩
theorem Pair.get{R:Value→List Ver→Prop}:∀ {us:List (ByteArray × Value)}{bs:List (ByteArray × List Ver)},Pair R us bs→∀ (i:Nat)(h1:i<us.length)(h2:i<bs.length),R us[i].2 bs[i].2
 | [],[],_,i,h1,_=>by simp at h1
 | _::us,_::bs,h,0,_,_=>h.2.1
 | _::us,_::bs,h,i+1,h1,h2=>Pair.get h.2.2 i (by simpa using h1) (by simpa using h2)
structure SRep(w:World)(b:Nat)(L:SL)(S:SM):Prop where
 blk:Blk w b [L.kv,L.hv,.int .i64 S.leased] 161
 ent:Xm w L.kv L.ents
 pair:Pair (VRow w) L.ents S.keys
 hint:w.ownsRow 0 75 2 L.hv S.hints.length (zD S.hints)
def SFoot(b:Nat)(L:SL)(k:Nat):Prop:=k=b∨L.kv.ownBlock=some k∨L.hv.ownBlock=some k
def SRead(L:SL)(k:Nat):Prop:=∃ e∈L.ents,e.2.ownBlock=some k
theorem VRow.fr{S:Nat→Prop}{w w':World}{v:Value}{l:List Ver}(h:VRow w v l)(f:Fr S w w')(hn:∀ k,v.ownBlock=some k→¬S k):VRow w' v l:=z7 h f hn
theorem SRep.fr{S0:Nat→Prop}{w w':World}{b:Nat}{L:SL}{S:SM}(h:SRep w b L S)(f:Fr S0 w w')(h1:∀ k,SFoot b L k→¬S0 k)(h2:∀ k,SRead L k→¬S0 k):SRep w' b L S :=
 ⟨h.blk.fr f (h1 _ (.inl rfl)),h.ent.fr f (fun _ e=>h1 _ (.inr (.inl e))),h.pair.mono (fun a ha _ hr=>VRow.fr hr f (fun k hk=>h2 k ⟨a,ha,hk⟩)),z7 h.hint f (fun _ e=>h1 _ (.inr (.inr e)))⟩
theorem SRep.nil{w w':World}{b:Nat}{L:SL}{S:SM}(h:SRep w b L S)(f:Fr Nil w w'):SRep w' b L S:=h.fr f (fun _ _=>id) (fun _ _=>id)
def Ty(w:World)(k:Nat)(t:TypeId):Prop:=∃ c f,w.heap[k]?=some (.cells c t f)
theorem Ty.inj{w:World}{k:Nat}{t u:TypeId}(h:Ty w k t)(h':Ty w k u):t=u:=by
 obtain⟨c,f,h⟩:=h
 obtain⟨c',f',h'⟩:=h'
 rw[h] at h'
 simp at h'
 exact h'.2.1
theorem Blk.ty{w:World}{b:Nat}{c:List Value}{t:TypeId}(h:Blk w b c t):Ty w b t:=⟨_,_,h⟩
theorem zy{w:World}{e:TypeId}{size n:Nat}{v:Value}{xs:List Value}(h:w.ownsRow 0 e size v n xs){k:Nat}(hk:v.ownBlock=some k):Ty w k e:=by
 rcases ZW h with⟨rfl,_⟩|⟨g,cap,c,rfl,hg,_⟩
 ·simp[Value.ownBlock] at hk
 ·simp[Value.ownBlock] at hk
  subst hk
  exact hg.ty
theorem SRep.foot_ty{w:World}{b:Nat}{L:SL}{S:SM}(h:SRep w b L S){k:Nat}(hk:SFoot b L k):Ty w k 161∨Ty w k 239∨Ty w k 75:=by
 rcases hk with rfl|hk|hk
 ·exact .inl h.blk.ty
 ·exact .inr (.inl (zy h.ent.own hk))
 ·exact .inr (.inr (zy h.hint hk))
theorem Pair.mem{R:Value→List Ver→Prop}:∀ {us:List (ByteArray × Value)}{bs:List (ByteArray × List Ver)},Pair R us bs→∀ e∈us,∃ l,R e.2 l
 | [],[],_,e,he=>by cases he
 | a::us,b::bs,h,e,he=>by
  rcases List.mem_cons.1 he with rfl|he
  ·exact⟨_,h.2.1⟩
  ·exact Pair.mem h.2.2 e he
theorem SRep.read_ty{w:World}{b:Nat}{L:SL}{S:SM}(h:SRep w b L S){k:Nat}(hk:SRead L k):Ty w k 37:=by
 obtain⟨e,he,hk⟩:=hk
 obtain⟨l,hl⟩:=h.pair.mem e he
 exact zy hl hk
def Y7{β:Type}(l:List (ByteArray × β))(s:ByteArray)(x:β):List (ByteArray × β) :=
 l.take (low zb (l.map Prod.fst) s)++[(s,x)]++l.drop (if zX zb (l.map Prod.fst) s=true then low zb (l.map Prod.fst) s+1 else low zb (l.map Prod.fst) s)
def Yl{β:Type}(l:List (ByteArray × β))(s:ByteArray):List (ByteArray × β) :=
 if zX zb (l.map Prod.fst) s=true then l.take (low zb (l.map Prod.fst) s)++l.drop (low zb (l.map Prod.fst) s+1) else l
def zc(l:List (ByteArray × List Ver))(s:ByteArray):List Ver :=
 if zX zb (l.map Prod.fst) s=true then(l.getD (low zb (l.map Prod.fst) s) (s,[])).2 else []
theorem Pair.set{R:Value→List Ver→Prop}{us:List (ByteArray × Value)}{bs:List (ByteArray × List Ver)}(h:Pair R us bs)(s:ByteArray){x:Value}{l:List Ver}(hx:R x l):Pair R (ZS us s x) (Y7 bs s l):=by
 unfold ZS Y7
 rw[show zp us=bs.map Prod.fst from h.keys]
 exact Pair.append (Pair.append (h.take _) ⟨rfl,hx,trivial⟩) (h.drop _)
theorem Pair.del{R:Value→List Ver→Prop}{us:List (ByteArray × Value)}{bs:List (ByteArray × List Ver)}(h:Pair R us bs)(s:ByteArray):Pair R (Yv us s) (Yl bs s):=by
 unfold Yv Yl
 rw[show zp us=bs.map Prod.fst from h.keys]
 split
 ·exact Pair.append (h.take _) (h.drop _)
 ·exact h
theorem NT{l:List (ByteArray × Value)}{s:ByteArray}{x:Value}:∀ e∈ZS l s x,e∈l∨e=(s,x):=by
 intro e he
 simp only[ZS,List.mem_append,List.mem_singleton] at he
 rcases he with(he|he)|he
 ·exact .inl (List.mem_of_mem_take he)
 ·exact .inr he
 ·exact .inl (List.mem_of_mem_drop he)
def SStep(w:World)(b:Nat)(L:SL)(S:SM)(X:Nat→Prop)(w':World):Prop :=
 ∃ L',SRep w' b L' S∧Fr (SFoot b L) w w'∧(∀ k,SFoot b L' k→SFoot b L k∨w.heap.size≤k)∧(∀ k,SRead L' k→SRead L k∨X k)
theorem Ra(n:Nat)(b:Nat)(L:SL)(S:SM)(w:World)(h:SRep w b L S) :
  Calls Tryz.prog 308 #[.agg #[.int .i64 n],.pointer (some ⟨b,0,none⟩)] w fun e w'=>e=.returned (.tuple #[])∧SStep w b L {S with leased:=n} Nil w':=by
 have hblt:=h.blk.lt
 have hc:=h.blk.cell
 have hz:=h.blk.frozen
 have hfin:SStep w b L {S with leased:=n} Nil ((w.setCell ⟨b,2,none⟩ (.int .i64 n)).alloc (.cells #[.int .i64 n] 220)):=by
  have hfs:Fr (fun k=>k=b) w (w.setCell ⟨b,2,none⟩ (.int .i64 n)):=Fr.set (S:=fun k=>k=b) (G _ _) (fun _=>rfl) _
  have hs:SRep (w.setCell ⟨b,2,none⟩ (.int .i64 n)) b L {S with leased:=n} :=
   ⟨h.blk.set 2 _,h.ent.fr hfs (fun k hk e=>za h.ent.own h.blk (by decide) (by rw[hk,e])),h.pair.mono (fun a _ l hr=>VRow.fr hr hfs (fun k hk e=>za hr h.blk (by decide) (by rw[hk,e]))),z7 h.hint hfs (fun k hk e=>za h.hint h.blk (by decide) (by rw[hk,e]))⟩
  exact⟨L,hs.nil ((G _ _).alloc _),(hfs.mono (fun k _ e=>.inl e)).alloc _,fun k hk=>.inl hk,fun k hk=>.inl hk⟩
 clear h
 have HF:=Z hfin
 clear hfin
 go_enter Tryz.func308,Tryz.ntmps308
 go_wp2
 exact bodyPost_end (v:=.tuple #[]) (by simp[results,go_sem]) rfl ⟨rfl,HF.out⟩
def Zv(w:World)(n:Int):Nat→Value→Prop
 | 0,v=>∃ b c f,v=.iface 225 (.pointer (some ⟨b,0,none⟩))∧Blk w b [.string c,.string f,.int .i64 n] 229
 | k+1,v=>∃ b what v',v=.iface 202 (.pointer (some ⟨b,0,none⟩))∧Blk w b [.string what,v'] 204∧Zv w n k v'
def ERep(w:World)(v:Value):Option Int→Prop
 | none=>v=.nilIface
 | some n=>∃ k,Zv w n k v
def YX(w:World)(S:Nat→Prop):Prop:=∀ k,(Ty w k 229∨Ty w k 204)→¬S k
theorem Zv.fr{S:Nat→Prop}{w w':World}{n:Int}(f:Fr S w w')(hn:YX w S):∀ {k:Nat}{v:Value},Zv w n k v→Zv w' n k v
 | 0,_,⟨b,c,g,h,hb⟩=>⟨b,c,g,h,hb.fr f (hn b (.inl hb.ty))⟩
 | _+1,_,⟨b,what,v',h,hb,hk⟩=>⟨b,what,v',h,hb.fr f (hn b (.inr hb.ty)),Zv.fr f hn hk⟩
theorem ERep.fr{S:Nat→Prop}{w w':World}{v:Value}{e:Option Int}(h:ERep w v e)(f:Fr S w w')(hn:YX w S):ERep w' v e:=by
 cases e with
 | none=>exact h
 | some n=>obtain⟨k,hk⟩:=h;exact⟨k,hk.fr f hn⟩
theorem YX.nil(w:World):YX w Nil:=fun _ _=>id
theorem Zv.form{w:World}{n:Int}:∀ {k:Nat}{v:Value},Zv w n k v→∃ t b,v=.iface t (.pointer (some ⟨b,0,none⟩))
 | 0,_,⟨b,_,_,h,_⟩=>⟨_,b,h⟩
 | _+1,_,⟨b,_,_,h,_⟩=>⟨_,b,h⟩
def Yo(n:Int):Option Int:=if n=0 then none else some n
theorem XE(c f:ByteArray)(n:Int)(w:World) :
  Calls Tryz.prog 166 #[.string c,.string f,.int .i64 n] w fun e w'=>∃ v,e=.returned v∧ERep w' v (Yo n)∧Fr Nil w w':=by
 by_cases hn:n=0
 ·subst hn
  go_enter Tryz.func166,Tryz.ntmps166
  go_wp2
  go_ret
  exact⟨_,rfl,rfl,G _ _⟩
 ·have he:Yo n=some n:=by unfold Yo;rw[if_neg hn]
  have hb:Blk (w.alloc (.cells #[.string c,.string f,.int .i64 n] 229)) w.heap.size [.string c,.string f,.int .i64 n] 229:=Blk.new w [.string c,.string f,.int .i64 n] _
  have hq:(n==0)=false:=by simp[hn]
  have HB:=Z hb
  rw[he]
  clear he hb hn
  go_enter Tryz.func166,Tryz.ntmps166
  go_wp2
  go_ret
  exact⟨_,rfl,⟨0,_,_,_,rfl,HB.out⟩,(G _ _).alloc _⟩
theorem zF(what:ByteArray)(v:Value)(e:Option Int)(w:World)(h:ERep w v e) :
  Calls Tryz.prog 90 #[.string what,v] w fun x w'=>∃ v',x=.returned v'∧ERep w' v' e∧Fr Nil w w':=by
 cases e with
 | none =>
  have hv:v=.nilIface:=h
  subst hv
  go_enter Tryz.func90,Tryz.ntmps90
  go_wp2
  go_ret
  exact⟨_,rfl,rfl,G _ _⟩
 | some n =>
  obtain⟨k,hk⟩:=h
  obtain⟨t,b,rfl⟩:=hk.form
  have hf:Fr Nil w (w.alloc (.cells #[.string what,.iface t (.pointer (some ⟨b,0,none⟩))] 204)):=(G _ _).alloc _
  have hb:Blk (w.alloc (.cells #[.string what,.iface t (.pointer (some ⟨b,0,none⟩))] 204)) w.heap.size [.string what,.iface t (.pointer (some ⟨b,0,none⟩))] 204:=Blk.new w [.string what,.iface t (.pointer (some ⟨b,0,none⟩))] _
  have HE:Hid (ERep (w.alloc (.cells #[.string what,.iface t (.pointer (some ⟨b,0,none⟩))] 204)) (.iface 202 (.pointer (some ⟨w.heap.size,0,none⟩))) (some n)):=⟨k+1,_,_,_,rfl,hb,hk.fr hf (YX.nil w)⟩
  clear hb hk
  go_enter Tryz.func90,Tryz.ntmps90
  go_wp2
  go_ret
  exact⟨_,rfl,HE.out,hf⟩
structure JM where
 limit:Nat
 last:Nat
 name:ByteArray
 size:Nat
 torn:Bool
 dirSafe:Bool
def JM.cells(db:Nat)(J:JM):List Value:=[.pointer (some ⟨db,0,none⟩),.int .i64 J.limit,.int .i64 J.last,.string J.name,.int .i64 J.size,.bool J.torn,.bool J.dirSafe]
def JRep(w:World)(jb db:Nat)(J:JM):Prop:=Blk w jb (J.cells db) 197
def DTy(t:TypeId):Prop:=t=143∨t=148∨t=145∨t=152∨t=5
theorem DRep.ty{w:World}{b:Nat}{L:DL}{M:DM}(h:DRep w b L M){k:Nat}(hk:Foot b L M k):∃ t,Ty w k t∧DTy t:=by
 cases hk using Foot.elim with
 | blk=>exact⟨_,h.blk.ty,.inl rfl⟩
 | dir e=>exact⟨_,zy h.dir e,.inr (.inl rfl)⟩
 | safe e=>exact⟨_,zy h.safe e,.inr (.inl rfl)⟩
 | ch e=>exact⟨_,zy h.ch e,.inr (.inr (.inl rfl))⟩
 | chs i h1 e=>exact⟨_,zy (h.chs i h1 (by rw[← h.chl];exact h1)) e,.inr (.inl rfl)⟩
 | file e=>exact⟨_,(h.files k e).ty,.inr (.inr (.inr (.inl rfl)))⟩
 | row f hf e=>exact⟨_,zy (h.rows f hf) e,.inr (.inr (.inr (.inr rfl)))⟩
theorem DRep.apart{w:World}{b:Nat}{L:DL}{M:DM}(h:DRep w b L M){k:Nat}{t:TypeId}(hk:Ty w k t)(ht:¬DTy t):¬Foot b L M k:=fun hf=>by
 obtain⟨u,hu,hd⟩:=h.ty hf
 rw[hk.inj hu] at ht
 exact ht hd
theorem Blk.step{w w':World}{b jb:Nat}{L L':DL}{M M':DM}{c:List Value}{t:TypeId}(h:Blk w jb c t)(hd:DRep w b L M)(hs:DStep b L M w L' M' w')(ht:¬DTy t):Blk w' jb c t :=
 h.fr hs.fr (hd.apart h.ty ht)
theorem DStep.of{w wx w':World}{b:Nat}{L L':DL}{M M':DM}(h:DStep b L M wx L' M' w')(f:Fr Nil w wx):DStep b L M w L' M' w' :=
 ⟨h.rep,(f.mono (fun _ _ e=>absurd e id)).trans h.fr,fun k hk=>(h.foot k hk).imp id (fun h=>Nat.le_trans f.size h)⟩
theorem DStep.andNil{w w1 w':World}{b:Nat}{L L':DL}{M M':DM}(h:DStep b L M w L' M' w1)(f:Fr Nil w1 w'):DStep b L M w L' M' w' :=
 ⟨h.rep.fr f (fun _ _=>id),h.fr.trans (f.mono (fun _ _ e=>absurd e id)),h.foot⟩
theorem DRep.nil{w w':World}{b:Nat}{L:DL}{M:DM}(h:DRep w b L M)(f:Fr Nil w w'):DRep w' b L M:=h.fr f (fun _ _=>id)
def JM.syncLast(J:JM)(M:DM):Option Int × DM:=if J.last=0 then(none,M) else(Yo (M.sync J.name).1,(M.sync J.name).2)
theorem Wl(jb db:Nat)(J:JM)(L:DL)(M:DM)(w:World)(hj:JRep w jb db J)(hd:DRep w db L M) :
  Calls Tryz.prog 132 #[.pointer (some ⟨jb,0,none⟩)] w fun e w'=>∃ v L',e=.returned v∧ERep w' v (J.syncLast M).1∧DStep db L M w L' (J.syncLast M).2 w':=by
 have hc:=hj.cell
 simp only[JM.cells] at hc
 by_cases hl:J.last=0
 ·have hs:J.syncLast M=(none,M):=by unfold JM.syncLast;rw[if_pos hl]
  rw[hs]
  rw[hl] at hc
  have HD:=Z hd
  clear hs hl hd hj
  go_enter Tryz.func132,Tryz.ntmps132
  go_wp2
  go_ret
  exact⟨_,L,rfl,rfl,DStep.look HD.out (G _ _)⟩
 ·have hs:J.syncLast M=(Yo (M.sync J.name).1,(M.sync J.name).2):=by unfold JM.syncLast;rw[if_neg hl]
  rw[hs]
  have hq:((J.last:Int)==0)=false:=by simp;omega
  have hc0:w.cell? ⟨jb,0,none⟩=some (.pointer (some ⟨db,0,none⟩)):=hc 0
  have hc3:w.cell? ⟨jb,3,none⟩=some (.string J.name):=hc 3
  have HK:Hid (∀ wx w' L',DStep db L M wx L' (M.sync J.name).2 w'→Fr Nil w wx→w'.cell? ⟨jb,0,none⟩=some (.pointer (some ⟨db,0,none⟩))∧w'.cell? ⟨jb,3,none⟩=some (.string J.name)):=by
   intro wx w' L' hst hf
   have:=((hj.fr hf id).step (hd.nil hf) hst (by unfold DTy;decide)).cell
   exact⟨by rw[this];rfl,by rw[this];rfl⟩
  have HD:=Z hd
  clear hs hl hd hj
  go_enter Tryz.func132,Tryz.ntmps132
  go_wp2_with fail
  go_region_held3 (fun w'=>w'.cell? ⟨jb,0,none⟩=some (.pointer (some ⟨db,0,none⟩))∧w'.cell? ⟨jb,3,none⟩=some (.string J.name)) (first|assumption|go_keep)
   (first
   | (go_at_call 166;refine(XE _ _ _ _).mono ?_;rintro e w3 ⟨v3,rfl,hE,hf3⟩;have hz3:w3.cell? ⟨jb,0,none⟩=some (.pointer (some ⟨db,0,none⟩))∧w3.cell? ⟨jb,3,none⟩=some (.string J.name):=HK.out _ _ _ (HST.out.andNil (Fr.trans (by repeat' first|(with_reducible first|apply G|assumption|apply O|apply U|apply V|apply z6)|(intro _;rfl)) hf3)) (G _ _);have HE:=Z hE;have HF3:Hid (Fr Nil w2 w3):=Fr.trans (by repeat' first|(with_reducible first|apply G|assumption|apply O|apply U|apply V|apply z6)|(intro _;rfl)) hf3;clear hE hf3)
   | (go_at_call 167;refine(Pm J.name _ db L M (HD.out.nil (by repeat' first|(with_reducible first|apply G|assumption|apply O|apply U|apply V|apply z6)|(intro _;rfl)))).mono ?_;rintro e w2 ⟨rfl,L',hst⟩;have hz2:=HK.out _ _ _ hst (by repeat' first|(with_reducible first|apply G|assumption|apply O|apply U|apply V|apply z6)|(intro _;rfl));have HST:Hid (DStep db L M w L' (M.sync J.name).2 w2):=hst.of (by repeat' first|(with_reducible first|apply G|assumption|apply O|apply U|apply V|apply z6)|(intro _;rfl));clear hst))
  go_wp2
  go_ret
  exact⟨_,L',rfl,HE.out,HST.out.andNil HF3.out⟩
def JStep(jb db:Nat)(L:DL)(M:DM)(w:World)(J':JM)(L':DL)(M':DM)(w':World):Prop :=
 JRep w' jb db J'∧DRep w' db L' M'∧Fr (fun k=>k=jb∨Foot db L M k) w w'∧(∀ k,Foot db L' M' k→Foot db L M k∨w.heap.size≤k)
theorem JStep.trans{jb db:Nat}{L1 L2 L3:DL}{M1 M2 M3:DM}{w1 w2 w3:World}{J2 J3:JM}(h:JStep jb db L1 M1 w1 J2 L2 M2 w2)(k:JStep jb db L2 M2 w2 J3 L3 M3 w3):JStep jb db L1 M1 w1 J3 L3 M3 w3:=by
 refine⟨k.1,k.2.1,h.2.2.1.trans' k.2.2.1 (fun i hi hf=>?_),fun i hi=>?_⟩
 ·rcases hf with h'|h'
  ·exact .inl h'
  ·rcases h.2.2.2 i h' with h2|h2
   ·exact .inr h2
   ·omega
 ·rcases k.2.2.2 i hi with h'|h'
  ·exact h.2.2.2 i h'
  ·exact .inr (Nat.le_trans h.2.2.1.size h')
theorem JStep.of_disk{jb db:Nat}{L L':DL}{M M':DM}{w w':World}{J:JM}(hj:JRep w jb db J)(hd:DRep w db L M)(h:DStep db L M w L' M' w'):JStep jb db L M w J L' M' w' :=
 ⟨hj.step hd h (by unfold DTy;decide),h.rep,h.fr.mono (fun _ _ e=>.inr e),h.foot⟩
theorem JStep.nil{jb db:Nat}{L:DL}{M:DM}{w w':World}{J:JM}(hj:JRep w jb db J)(hd:DRep w db L M)(f:Fr Nil w w'):JStep jb db L M w J L M w' :=
 JStep.of_disk hj hd (DStep.look hd f)
theorem JStep.andNil{jb db:Nat}{L L':DL}{M M':DM}{w w1 w':World}{J':JM}(h:JStep jb db L M w J' L' M' w1)(f:Fr Nil w1 w'):JStep jb db L M w J' L' M' w' :=
 h.trans (JStep.nil h.1 h.2.1 f)
theorem JStep.set{jb db:Nat}{L:DL}{M:DM}{w:World}{J J':JM}(hj:JRep w jb db J)(hd:DRep w db L M)(i:Nat)(v:Value)(h:(J.cells db).set i v=J'.cells db):JStep jb db L M w J' L M (w.setCell ⟨jb,i,none⟩ v):=by
 have hf:Fr (fun k=>k=jb) w (w.setCell ⟨jb,i,none⟩ v):=Fr.set (S:=fun k=>k=jb) (G _ _) (fun _=>rfl) _
 refine⟨?_,hd.fr hf (fun k hk e=>?_),hf.mono (fun _ _ e=>.inl e),fun k hk=>.inl hk⟩
 ·unfold JRep
  rw[← h]
  exact Blk.set hj i v
 ·subst e
  exact hd.apart (Blk.ty hj) (by unfold DTy;decide) hk
theorem ERep.jstep{w w':World}{jb db:Nat}{L L':DL}{M M':DM}{J J':JM}{v:Value}{e:Option Int}(h:ERep w v e)(hj:JRep w jb db J)(hd:DRep w db L M)(hs:JStep jb db L M w J' L' M' w'):ERep w' v e :=
 h.fr hs.2.2.1 (fun k hk hf=>by
  rcases hf with hf|hf
  ·subst hf
   rcases hk with h|h
   ·exact absurd ((Blk.ty hj).inj h) (by decide)
   ·exact absurd ((Blk.ty hj).inj h) (by decide)
  ·rcases hk with h|h
   ·exact hd.apart h (by unfold DTy;decide) hf
   ·exact hd.apart h (by unfold DTy;decide) hf)
def JM.syncDir(J:JM)(M:DM):Option Int × JM × DM:=(Yo M.syncDir.1,{J with dirSafe:=M.syncDir.1==0},M.syncDir.2)
theorem UW(jb db:Nat)(J:JM)(L:DL)(M:DM)(w:World)(hj:JRep w jb db J)(hd:DRep w db L M) :
  Calls Tryz.prog 133 #[.pointer (some ⟨jb,0,none⟩)] w fun e w'=>∃ v L',e=.returned v∧ERep w' v (J.syncDir M).1∧JStep jb db L M w (J.syncDir M).2.1 L' (J.syncDir M).2.2 w':=by
 have hc0:w.cell? ⟨jb,0,none⟩=some (.pointer (some ⟨db,0,none⟩)):=hj.cell 0
 have HD:=Z hd
 have HJ:=Z hj
 simp only[JM.syncDir]
 clear hd hj
 go_enter Tryz.func133,Tryz.ntmps133
 go_wp2_with fail
 refine(Sa w db L M HD.out).mono ?_
 rintro e w2 ⟨rfl,L',hst⟩
 have HST:=Z hst
 clear hst
 go_wp2_with fail
 refine(XE _ _ _ w2).mono ?_
 rintro e w3 ⟨v3,rfl,hE,hf3⟩
 have hjs:JStep jb db L M w J L' M.syncDir.2 w3:=(JStep.of_disk HJ.out HD.out HST.out).andNil hf3
 have hz:=hjs.1.frozen 6
 have hc6:w3.cell? ⟨jb,6,none⟩=some (.bool J.dirSafe):=hjs.1.cell 6
 have HJS:=Z hjs
 have HE:=Z hE
 clear hjs hf3
 by_cases hn:M.syncDir.1=0
 ·have hv:v3=.nilIface:=by unfold Yo at hE;rw[if_pos hn] at hE;exact hE
  subst hv
  have hb:(M.syncDir.1==0)=true:=by simp[hn]
  have hset:=JStep.set HJS.out.1 HJS.out.2.1 6 (.bool true) (J':={J with dirSafe:=true}) rfl
  have HF:=Z (HJS.out.trans hset)
  have HE2:=Z (HE.out.jstep HJS.out.1 HJS.out.2.1 hset)
  have HB:=Z hb
  clear hn hE hset hb
  go_wp2
  go_ret
  rw[HB.out]
  exact⟨_,L',rfl,HE2.out,HF.out⟩
 ·obtain⟨k,hk⟩:∃ k,Zv w3 M.syncDir.1 k v3:=by unfold Yo at hE;rw[if_neg hn] at hE;exact hE
  obtain⟨t,b,rfl⟩:=hk.form
  have hb:(M.syncDir.1==0)=false:=by simp[hn]
  have hset:=JStep.set HJS.out.1 HJS.out.2.1 6 (.bool false) (J':={J with dirSafe:=false}) rfl
  have HF:=Z (HJS.out.trans hset)
  have HE2:=Z (HE.out.jstep HJS.out.1 HJS.out.2.1 hset)
  have HB:=Z hb
  clear hn hE hset hb hk
  go_wp2
  go_ret
  rw[HB.out]
  exact⟨_,L',rfl,HE2.out,HF.out⟩
end Go.Proofs.YtkhnggkkiefcdaaGreatDoor
