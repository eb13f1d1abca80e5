/- larder: joined texts -/
import Derived.Test.YtkhnggkkiefcdaaGreatDoorRAAF
import Derived.Test.YtkhnggkkiefcdaaGreatDoorChecked
namespace Go.Proofs.YtkhnggkkiefcdaaGreatDoor
open Go.RowKit
set_option maxRecDepth 100000
set_option maxHeartbeats 8000000
def NM.replace(N:NM)(M:DM)(key:ByteArray)(vs:NM→Nat→List Ver)(f g:Nat):Nat × Int × NM × DM :=
 match (N.next M f).1 with
 | some n=>(0,n,(N.next M f).2.2.1.ans (some n),(N.next M f).2.2.2)
 | none =>
  match ((N.next M f).2.2.1.change (N.next M f).2.2.2 (.inr (.inl (key,vs (N.next M f).2.2.1 (N.next M f).2.1))) g).1 with
  | some n=>(0,n,((N.next M f).2.2.1.asked (N.next M f).2.2.2 (.inr (.inl (key,vs (N.next M f).2.2.1 (N.next M f).2.1))) g).2)
  | none=>((N.next M f).2.1,0,((N.next M f).2.2.1.asked (N.next M f).2.2.2 (.inr (.inl (key,vs (N.next M f).2.2.1 (N.next M f).2.1))) g).2)
theorem VY(N:NM):N.ans none=N:=by simp[NM.ans]
def Gives(L:NL)(N:NM)(M:DM)(w:World)(c:Nat)(caps:Array Value)(vs:NM→Nat→List Ver):Prop :=
 ∀ f,w.heap.size≤f→∀ (L1:NL) (w1:World),NStep L M w L1 (N.next M f).2.2.1 (N.next M f).2.2.2 w1→Calls Tryz.prog c (#[.int .i64 (N.next M f).2.1]++caps) w1 fun e w2=>∃ v,e=.returned v∧VRow w2 v (vs (N.next M f).2.2.1 (N.next M f).2.1)∧Fr Nil w1 w2∧(∀ k,v.ownBlock=some k→w.heap.size≤k)
theorem OI(N:NM)(M:DM)(f:Nat):(N.next M f).2.2.1.S.keys=N.S.keys∧(N.next M f).2.2.1.S.hints=N.S.hints∧(N.next M f).2.2.1.self=N.self∧(N.next M f).2.2.1.readOnly=N.readOnly∧(N.next M f).2.2.1.every=N.every∧(N.next M f).2.2.1.writes=N.writes:=by
 have hw:∀ k,(N.write M (.inl k) f).2.1.S.keys=N.S.keys∧(N.write M (.inl k) f).2.1.S.hints=N.S.hints:=by
  intro k
  unfold NM.write
  simp only
  split <;> exact⟨rfl,rfl⟩
 have hl:(N.lease M f).2.1.S.keys=N.S.keys∧(N.lease M f).2.1.S.hints=N.S.hints∧(N.lease M f).2.1.self=N.self∧(N.lease M f).2.1.readOnly=N.readOnly∧(N.lease M f).2.1.every=N.every∧(N.lease M f).2.1.writes=N.writes:=by
  unfold NM.lease
  split
  ·exact⟨(hw _).1,(hw _).2,rfl,rfl,rfl,rfl⟩
  ·exact⟨(hw _).1,(hw _).2,rfl,rfl,rfl,rfl⟩
 unfold NM.next
 split
 ·exact⟨rfl,rfl,rfl,rfl,rfl,rfl⟩
 ·split
  ·exact hl
  ·exact hl
def Apart2(N:NM)(M:DM)(f g:Nat):Prop:=f=g→f∉(N.next M f).2.2.2.ids
theorem YA(N:NM)(M:DM){f g:Nat}(h:f≠g):Apart2 N M f g:=fun e=>absurd e h
theorem WT(herr:zr)(B:Nat)(L:NL)(N:NM)(M:DM)(key:ByteArray)(vs:NM→Nat→List Ver)(c:Nat)(caps:Array Value)(w:World)(h:NRep w L N M)(he:ZT B L M w)(hg:Gives L N M w c caps vs)(hcf:∀ xs w,Sem.run Tryz.prog (callFunc c xs) w=.ok (.enter c xs) w)
  (hkey:key.size≤1000000000)(hlog:Yi N.J M w.heap.size (zg (.inl (N.given+16))).size)(hk:N.S.keys.length<1099511627776)(hh:N.S.hints.length<1000000)(hgv:N.given<1000000000000)
  (hfit:∀ f,w.heap.size≤f→∀ H,w.heap.size≤H→(∀ i∈(N.next M f).2.2.2.ids,i<H)→Fit (N.next M f).2.2.1 (N.next M f).2.2.2 H (.inr (.inl (key,vs (N.next M f).2.2.1 (N.next M f).2.1)))) :
  Calls Tryz.prog 70 #[.pointer (some ⟨L.nb,0,none⟩),.string key,.func (.func c) #[] caps] w fun e w'=>∃ f g L',e=.returned (.tuple #[.int .i64 (N.replace M key vs f g).1,.int .i64 (N.replace M key vs f g).2.1])∧w.heap.size≤f∧w.heap.size≤g∧Apart2 N M f g∧NStep L M w L' (N.replace M key vs f g).2.2.1 (N.replace M key vs f g).2.2.2 w':=by
 have HX:=Z (Pv B L N M w h he.env hlog hk hh hgv)
 have HE:=Z he
 have HH:=Z h
 have HG:=Z hg
 have HFIT:=Z hfit
 clear h he hg hlog hk hh hgv hfit
 go_enter Tryz.func70,Tryz.ntmps70
 go_wp2_with fail
 refine HX.out.mono ?_
 rintro e w1 ⟨f,v1,L1,rfl,hf,hE,hst⟩
 have HS:=Z hst
 have HF:=Z hf
 cases hx:(N.next M f).1 with
 | some n =>
  have hp:∀ g,N.replace M key vs f g=(0,n,(N.next M f).2.2.1.ans (some n),(N.next M f).2.2.2):=by intro g;unfold NM.replace;rw[hx]
  have HP:=Z hp
  rw[hx] at hE
  have HE1:=Z hE
  obtain⟨k,hk⟩:=hE
  obtain⟨t,b,rfl⟩:=hk.form
  generalize (N.next M f).2.2.1=N1 at hst HS HP
  generalize (N.next M f).2.2.2=M1 at hst HS HP
  generalize (N.next M f).2.1=m1
  clear hx hp hk hst hf
  go_wp2_with fail
  rw[← HS.out.same.nb]
  refine(ZI herr B L1 _ _ _ _ w1 HS.out.rep (HE.out.step HS.out) HE1.out).mono ?_
  rintro e w2 ⟨L2,rfl,hst⟩
  have HS2:=Z (HS.out.trans hst)
  clear hst
  go_wp2
  go_ret2
  refine⟨f,f+1,L2,?_,HF.out,Nat.le_succ_of_le HF.out,YA N M (by omega),?_⟩
  ·rw[HP.out];rfl
  ·rw[HP.out];exact HS2.out
 | none =>
  rw[hx] at hE
  have hv:v1=.nilIface:=hE
  subst hv
  have hp1:∀ g n,((N.next M f).2.2.1.change (N.next M f).2.2.2 (.inr (.inl (key,vs (N.next M f).2.2.1 (N.next M f).2.1))) g).1=some n→N.replace M key vs f g=(0,n,((N.next M f).2.2.1.asked (N.next M f).2.2.2 (.inr (.inl (key,vs (N.next M f).2.2.1 (N.next M f).2.1))) g).2):=by intro g n h;unfold NM.replace;rw[hx];simp only;rw[h]
  have hp0:∀ g,((N.next M f).2.2.1.change (N.next M f).2.2.2 (.inr (.inl (key,vs (N.next M f).2.2.1 (N.next M f).2.1))) g).1=none→N.replace M key vs f g=((N.next M f).2.1,0,((N.next M f).2.2.1.asked (N.next M f).2.2.2 (.inr (.inl (key,vs (N.next M f).2.2.1 (N.next M f).2.1))) g).2):=by intro g h;unfold NM.replace;rw[hx];simp only;rw[h]
  have HP1:=Z hp1
  have HP0:=Z hp0
  have HT:=Z (HFIT.out f hf w1.heap.size hst.fr.size (fun i hi=>(hst.rep.disk.files i hi).lt))
  have hap:∀ g,w1.heap.size≤g→Apart2 N M f g:=fun g hg e hi=>by have:=(hst.rep.disk.files f hi).lt;omega
  have HAP:=Z hap
  have HGF:=Z (HG.out f hf)
  generalize (N.next M f).2.2.1=N1 at hst HS HP1 HP0 HT HGF
  generalize (N.next M f).2.2.2=M1 at hst HS HP1 HP0 HT HGF
  generalize (N.next M f).2.1=m1 at HP1 HP0 HT HGF
  have HCL:=Z (Zm key w1 hkey)
  clear hE hx hst hf hp1 hp0 hap
  go_wp2_with fail
  refine HCL.out.mono ?_
  rintro e w2 ⟨rfl,hf2⟩
  have HS2:=Z (HS.out.andNil hf2)
  have HW2:=Z hf2.size
  have HGV:=Z (HGF.out L1 w2 HS2.out)
  have HF2:=Z (Nat.le_trans HS.out.fr.size hf2.size)
  clear hf2
  go_wp2_with fail
  refine HGV.out.mono ?_
  rintro e w3 ⟨v3,rfl,hrow,hf3,hown⟩
  have HS3:=Z (HS2.out.andNil hf3)
  have HW3:=Z (Nat.le_trans HW2.out hf3.size)
  have HC:Hid (∀ what w4,Fr Nil w3 w4→Calls Tryz.prog 80 #[.pointer (some ⟨L.nb,0,none⟩),.string what,.iface 193 (.agg #[.string key,v3])] w4 fun e w' =>
    ∃ g v L',e=.returned v∧w1.heap.size≤g∧ERep w' v (N1.change M1 (.inr (.inl (key,vs N1 m1))) g).1∧NStep L M w L' (N1.change M1 (.inr (.inl (key,vs N1 m1))) g).2.1 (N1.change M1 (.inr (.inl (key,vs N1 m1))) g).2.2 w'):=by
   intro what w4 f4
   have hs4:=HS3.out.andNil f4
   have hft:=HT.out.mono (Nat.le_trans HW3.out f4.size)
   have hrow4:VRow w4 v3 (vs N1 m1):=VRow.fr hrow f4 (fun _ _=>id)
   rw[← HS.out.same.nb]
   refine(Wb B L M w L1 N1 M1 what (.inr (.inl (key,vs N1 m1))) _ w4 hs4 (HE.out.step hs4).env ⟨v3,rfl,hrow4⟩ hft.ok (fun k hb=>?_) hft.log hft.keys hft.hints hft.writes).mono ?_
   ·obtain⟨v,hv,e⟩:=hb
    simp at hv
    rcases hv with rfl|rfl
    ·exact absurd e (by simp[Value.ownBlock])
    ·exact .inr (hown k e)
   ·rintro e w' ⟨g,v,L',rfl,hg,hE,hst⟩
    exact⟨g,v,L',rfl,Nat.le_trans (Nat.le_trans HW3.out f4.size) hg,hE,hst⟩
  obtain⟨ha3,hc3,hv3⟩:=z8 hrow
  rw[hv3] at HC ⊢
  clear hrow hf3 hown hv3
  go_wp2_with fail
  refine(HC.out _ _ (by exact(by repeat' first|(with_reducible first|apply G|assumption|apply O|apply U|apply V|apply z6)|(intro _;rfl)))).mono ?_
  rintro e w5 ⟨g,v5,L5,rfl,hg,hE5,hst5⟩
  have HG5:=Z (Nat.le_trans HS.out.fr.size hg)
  have HA5:=Z (HAP.out g hg)
  have HS5:=Z hst5
  cases hc:(N1.change M1 (.inr (.inl (key,vs N1 m1))) g).1 with
  | some n =>
   have HP:=Z (HP1.out g n hc)
   rw[hc] at hE5
   have HE5:=Z hE5
   have HA:Hid ((N1.asked M1 (.inr (.inl (key,vs N1 m1))) g).2=((N1.change M1 (.inr (.inl (key,vs N1 m1))) g).2.1.ans (some n),(N1.change M1 (.inr (.inl (key,vs N1 m1))) g).2.2)):=by unfold NM.asked;rw[hc];exact rfl
   obtain⟨k,hk⟩:=hE5
   obtain⟨t,b,rfl⟩:=hk.form
   clear hc hk hst5 hg
   go_wp2_with fail
   rw[← HS5.out.same.nb]
   refine(ZI herr B L5 _ _ _ _ w5 HS5.out.rep (HE.out.step HS5.out) HE5.out).mono ?_
   rintro e w6 ⟨L6,rfl,hst⟩
   have HS6:=Z (HS5.out.trans hst)
   clear hst
   go_wp2
   go_ret2
   refine⟨f,g,L6,?_,HF.out,HG5.out,HA5.out,?_⟩
   ·rw[HP.out];rfl
   ·rw[HP.out,HA.out];exact HS6.out
  | none =>
   have HP:=Z (HP0.out g hc)
   rw[hc] at hE5
   have hv5:v5=.nilIface:=hE5
   subst hv5
   have ha:(N1.asked M1 (.inr (.inl (key,vs N1 m1))) g).2=((N1.change M1 (.inr (.inl (key,vs N1 m1))) g).2.1,(N1.change M1 (.inr (.inl (key,vs N1 m1))) g).2.2):=by
    show((N1.change M1 (.inr (.inl (key,vs N1 m1))) g).2.1.ans _,_)=_
    rw[hc,VY]
   have HA:=Z ha
   clear hc hst5 hg hE5 ha
   go_wp2_with fail
   go_ret2
   refine⟨f,g,L5,?_,HF.out,HG5.out,HA5.out,?_⟩
   ·rw[HP.out];rfl
   ·rw[HP.out,HA.out];exact HS5.out
theorem OJ(xs:Array Value)(w:World):Sem.run Tryz.prog (callFunc 82 xs) w=.ok (.enter 82 xs) w:=by kernel_rfl
theorem Li(xs:Array Value)(w:World):Sem.run Tryz.prog (callFunc 71 xs) w=.ok (.enter 71 xs) w:=by kernel_rfl
structure Xn(N:NM)(M:DM)(H:Nat)(key:ByteArray)(vs:NM→Nat→List Ver):Prop where
 log:Yi N.J M H (zg (.inl (N.given+16))).size
 keys:N.S.keys.length<1099511627776
 hints:N.S.hints.length<1000000
 given:N.given<1000000000000
 fact:∀ f,H≤f→∀ H',H≤H'→(∀ i∈(N.next M f).2.2.2.ids,i<H')→Fit (N.next M f).2.2.1 (N.next M f).2.2.2 H' (.inr (.inl (key,vs (N.next M f).2.2.1 (N.next M f).2.1)))
def NM.delete(N:NM)(M:DM)(key:ByteArray)(f g:Nat):Nat × Int × NM × DM :=
 if zm key=false then(0,2,N,M) else if N.readOnly=true then(0,8,N,M) else N.replace M key (fun _ _=>[]) f g
theorem Ve(herr:zr)(B:Nat)(L:NL)(N:NM)(M:DM)(key:ByteArray)(w:World)(h:NRep w L N M)(he:ZT B L M w)(hfit:zm key=true→Xn N M w.heap.size key (fun _ _=>[])) :
  Calls Tryz.prog 30 #[.pointer (some ⟨L.nb,0,none⟩),.string key] w fun e w'=>∃ f g L',e=.returned (.tuple #[.int .i64 (N.delete M key f g).1,.int .i64 (N.delete M key f g).2.1])∧w.heap.size≤f∧w.heap.size≤g∧Apart2 N M f g∧NStep L M w L' (N.delete M key f g).2.2.1 (N.delete M key f g).2.2.2 w':=by
 have hc7:w.cell? ⟨L.nb,7,none⟩=some (.bool N.readOnly):=h.blk.cell 7
 have HK:=Z (YY key w)
 have HH:=Z h
 have HE:=Z he
 have HT:=Z hfit
 clear h he hfit
 go_enter Tryz.func30,Tryz.ntmps30
 cases hb:zm key with
 | false =>
  rw[hb] at HK
  have hp:N.delete M key w.heap.size (w.heap.size+1)=(0,2,N,M):=by unfold NM.delete;rw[if_pos hb]
  have HP:=Z hp
  clear hb hp
  go_wp2_with (refine HK.out.mono ?_;rintro e w1 ⟨rfl,hw1⟩;subst w1)
  go_ret2
  exact⟨w.heap.size,w.heap.size+1,L,by rw[HP.out];rfl,Nat.le_refl _,Nat.le_succ _,YA N M (by omega),by rw[HP.out];exact NStep.nil HH.out (G _ _)⟩
 | true =>
  rw[hb] at HK
  have hks:key.size≤32:=by unfold zm at hb;simp only[decide_eq_true_eq] at hb;exact hb.2
  have HKS:=Z hks
  have HFT:=Z (HT.out hb)
  cases hr:N.readOnly with
  | true =>
   rw[hr] at hc7
   have hp:N.delete M key w.heap.size (w.heap.size+1)=(0,8,N,M):=by unfold NM.delete;rw[if_neg (by rw[hb];decide),if_pos hr]
   have HP:=Z hp
   clear hb hp hks hr
   go_wp2_with (refine HK.out.mono ?_;rintro e w1 ⟨rfl,hw1⟩;subst w1)
   go_ret2
   exact⟨w.heap.size,w.heap.size+1,L,by rw[HP.out];rfl,Nat.le_refl _,Nat.le_succ _,YA N M (by omega),by rw[HP.out];exact NStep.nil HH.out (G _ _)⟩
  | false =>
   rw[hr] at hc7
   have hp:∀ f g,N.delete M key f g=N.replace M key (fun _ _=>[]) f g:=by intro f g;unfold NM.delete;rw[if_neg (by rw[hb];decide),if_neg (by rw[hr];decide)]
   have HP:=Z hp
   clear hb hp hks hr
   go_wp2_with (refine HK.out.mono ?_;rintro e w1 ⟨rfl,hw1⟩;subst w1)
   refine(WT herr B L N M key (fun _ _=>[]) 82 #[] w HH.out HE.out ?_ OJ (Nat.le_trans HKS.out (by decide)) HFT.out.log HFT.out.keys HFT.out.hints HFT.out.given HFT.out.fact).mono ?_
   ·intro f0 _ L1 w1 _
    refine(Sj (.int .i64 (N.next M f0).2.1) w1).mono ?_
    rintro e w2 ⟨rfl,rfl⟩
    exact⟨_,rfl,World.ownsRow_nil _ 0 _ _,G _ _,fun k hk=>absurd hk (by simp[Value.ownBlock])⟩
   ·rintro e w2 ⟨f,g,L2,rfl,hf,hg,hap,hst⟩
    have HF:=Z hf
    have HG:=Z hg
    have HAP:=Z hap
    have HS:=Z hst
    clear hf hg hap hst
    go_wp2
    go_ret2
    exact⟨f,g,L2,by rw[HP.out];rfl,HF.out,HG.out,HAP.out,by rw[HP.out];exact HS.out⟩
def Ver.ov(v:Ver)(n:Int):Int:=if n=0 then v.o0 else if n=1 then v.o1 else if n=2 then v.o2 else v.o3
def Ver.over(v u:Ver):Bool:=decide (u.seq≤v.ov u.node)
def zE(n:Int):Prop:=0≤n∧n<4
theorem XT(v u:Ver)(hu:zE u.node)(w:World) :
  Calls Tryz.prog 174 #[.agg v.cells.toArray,.agg u.cells.toArray] w fun e w'=>e=.returned (.bool (v.over u))∧Fr Nil w w':=by
 obtain⟨n,s,a0,a1,a2,a3,x,g⟩:=v
 obtain⟨node,seq,b0,b1,b2,b3,y,gone⟩:=u
 unfold zE at hu
 simp only at hu
 have hcs:node=0∨node=1∨node=2∨node=3:=by omega
 have hf:Fr Nil w ((w.alloc (.cells #[.int .i64 n,.int .i64 s,.int .i64 a0,.int .i64 a1,.int .i64 a2,.int .i64 a3,.string x,.bool g] 37)).alloc (.cells #[.int .i64 node,.int .i64 seq,.int .i64 b0,.int .i64 b1,.int .i64 b2,.int .i64 b3,.string y,.bool gone] 37)):=((G _ _).alloc _).alloc _
 simp only[Ver.cells]
 clear hu
 rcases hcs with rfl|rfl|rfl|rfl
 all_goals
  go_enter Tryz.func174,Tryz.ntmps174
  go_wp2_with fail
  go_quiet (fail)
  go_wp2
  go_ret
  refine⟨?_,(by repeat' first|(with_reducible first|apply G|assumption|apply O|apply U|apply V|apply z6)|(intro _;rfl))⟩
  simp[Ver.over,Ver.ov]
theorem LF(a b c d:Int)(w:World):(binOp .eql 34 (.agg #[.int .i64 a,.int .i64 b]) (.agg #[.int .i64 c,.int .i64 d])).run Tryz.prog w=.ok (.bool (a==c&&b==d)) w:=by
 have u3:=Tryz.underlying3
 have a3:=Tryz.isAgg3
 have z3:=Tryz.sizeOf3
 have hS:Tryz.prog.underlying 34=some (.struct (Tryz.prog.fieldsOf 34)):=by kernel_rfl
 have hp:Tryz.prog.stoodInHeld 34=false:=by kernel_rfl
 rw[run_eql_struct,show(10000:Nat)=9999+1 from rfl,run_equalIn_agg w 9999 34 _ _ hS hp]
 simp only[Program.fieldsOf,Tryz.underlying34]
 go_simp
 by_cases h1:a=c <;> by_cases h2:b=d <;> simp[h1,h2]
def Ver.knows(v w:Ver):Bool:=(w.node==v.node&&w.seq==v.seq)||w.over v
theorem Rg(v u:Ver)(hv:zE v.node)(b:Nat)(w:World)(hb:Blk w b v.cells 37) :
  Calls Tryz.prog 176 #[.agg u.cells.toArray,.pointer (some ⟨b,0,none⟩)] w fun e w'=>e=.returned (.bool (v.knows u))∧Fr Nil w w':=by
 have hq:=LF u.node u.seq v.node v.seq
 have hov:=XT u v hv
 have hb1:∀ (ob:Obj) k,(w.alloc ob).cell? ⟨b,k,none⟩=v.cells[k]?:=fun ob k=>(hb.alloc ob).cell k
 have hf:Fr Nil w (w.alloc (.cells u.cells.toArray 37)):=(G _ _).alloc _
 have HO:=Z hov
 simp only[Ver.knows]
 generalize u.over v=ov at HO ⊢
 obtain⟨n,s,a0,a1,a2,a3,x,g⟩:=v
 obtain⟨node,seq,b0,b1,b2,b3,y,gone⟩:=u
 simp only[Ver.cells] at *
 clear hb hov hv
 cases he:(node==n&&seq==s) with
 | true =>
  rw[he] at hq
  clear he
  go_enter Tryz.func176,Tryz.ntmps176
  go_wp2
  go_ret
  exact⟨rfl,hf⟩
 | false =>
  rw[he] at hq
  clear he
  go_enter Tryz.func176,Tryz.ntmps176
  go_wp2_with (refine(HO.out _).mono ?_;rintro e w1 ⟨rfl,hf1⟩)
  go_ret
  exact⟨rfl,hf.trans hf1⟩
theorem VRow.cells{w:World}{g n cap:Nat}{l:List Ver}(h:w.ownsRow 0 37 8 (.slice (some ⟨g,0,none⟩) n cap) n (zM l))(i:Nat)(hi:i<l.length)(j:Nat)(hj:j<8) :
  w.cell? ⟨g,i*8+j,none⟩=l[i].cells[j]?:=by
 have hlen:j<l[i].cells.length:=by rw[Ver.cells_length];exact hj
 rw[own_cell? h (i*8+j) _ ((TF l i j hi hj).trans (List.getElem?_eq_getElem hlen)),List.getElem?_eq_getElem hlen]
theorem Uq(lv:Value)(l:List Ver)(v:Ver)(hv:zE v.node)(b:Nat)(w:World)(hl:VRow w lv l)(hb:Blk w b v.cells 37) :
  Calls Tryz.prog 213 #[lv,.func (.func 176) #[] #[.pointer (some ⟨b,0,none⟩)]] w fun e w' =>
   ∃ r:Int,e=.returned (.int .i64 r)∧decide (0≤r)=l.any v.knows∧Fr Nil w w':=by
 have hn:=zK hl
 unfold maxLen at hn
 obtain⟨la,lc,rfl⟩:=z8 hl
 have HB:=Z hb
 have HL:=Z hl
 clear hb hl
 go_enter Tryz.func213,Tryz.ntmps213
 go_wp2_with fail
 go_loopw [8] (fun t8 w'=>∃ i:Nat,i≤l.length∧t8=.int .i64 i∧(l.take i).any v.knows=false∧Fr Nil w w') (fun t8 _=>l.length-(intOf t8).toNat)
 case atStart=>exact⟨0,Nat.zero_le _,rfl,rfl,G _ _⟩
 case round =>
  obtain⟨i,hi,rfl,hno,hf⟩:=hrel
  by_cases hlt:i<l.length
  ·obtain⟨g,rfl⟩:∃ g,la=some ⟨g,0,none⟩:=by
    obtain⟨g,cap,h,_⟩:=zi HL.out (by omega)
    simp at h;exact⟨g,h.1⟩
   have hc:=VRow.cells (z7 (S:=Nil) HL.out hf (fun _ _=>id)) i hlt
   have g0:=hc 0 (by omega)
   have g1:=hc 1 (by omega)
   have g2:=hc 2 (by omega)
   have g3:=hc 3 (by omega)
   have g4:=hc 4 (by omega)
   have g5:=hc 5 (by omega)
   have g6:=hc 6 (by omega)
   have g7:=hc 7 (by omega)
   have hsum:(l.take (i+1)).any v.knows=v.knows l[i]:=by
    rw[List.take_succ_eq_append_getElem hlt,List.any_append,hno];simp
   have hall:v.knows l[i]=true→l.any v.knows=true:=fun h=>List.any_eq_true.2 ⟨l[i],List.getElem_mem hlt,h⟩
   have HK:=Z (Rg v l[i] hv b wr (HB.out.fr hf id))
   have HS:=Z hsum
   have HA:=Z hall
   have HN:=Z hno
   clear hc hsum hall hno
   generalize l[i]=x at g0 g1 g2 g3 g4 g5 g6 g7 HK HS HA
   obtain⟨node,seq,o0,o1,o2,o3,value,gone⟩:=x
   simp only[Ver.cells,Nat.add_zero] at g0 g1 g2 g3 g4 g5 g6 g7 HK
   cases hk:v.knows ⟨node,seq,o0,o1,o2,o3,value,gone⟩ with
   | true =>
    rw[hk] at HK HA
    have hi0:(0:Int)≤i:=by omega
    clear hk
    go_wp2_with (refine HK.out.mono ?_;rintro e w1 ⟨rfl,hf1⟩)
    go_ret
    exact⟨_,rfl,by rw[HA.out (by trivial)];simp,hf.trans hf1⟩
   | false =>
    rw[hk] at HK HS
    clear hk
    go_wp2_with (refine HK.out.mono ?_;rintro e w1 ⟨rfl,hf1⟩)
    exact⟨⟨i+1,by omega,by go_num,HS.out,hf.trans hf1⟩,by simp[intOf];omega⟩
  ·have e:i=l.length:=by omega
   rw[e,List.take_length] at hno
   have HN:=Z hno
   clear hno
   go_wp2
   go_ret
   exact⟨_,rfl,by rw[HN.out];simp,hf⟩
theorem Vf(lv:Value)(l:List Ver)(v:Ver)(hv:zE v.node)(b:Nat)(w:World)(hl:VRow w lv l)(hb:Blk w b v.cells 37) :
  Calls Tryz.prog 175 #[lv,.func (.func 176) #[] #[.pointer (some ⟨b,0,none⟩)]] w fun e w' =>
   e=.returned (.bool (l.any v.knows))∧Fr Nil w w':=by
 have HI:=Z (Uq lv l v hv b w hl hb)
 clear hl hb
 go_enter Tryz.func175,Tryz.ntmps175
 go_wp2_with (refine HI.out.mono ?_;rintro e w1 ⟨r,rfl,hr,hf⟩)
 go_ret
 exact⟨by first|rfl|(show Ending.returned (.bool (decide (0≤r)))=_;rw[hr]),hf⟩
theorem Qs(lv:Value)(l:List Ver)(v:Ver)(hv:zE v.node)(w:World)(hl:VRow w lv l) :
  Calls Tryz.prog 141 #[lv,.agg v.cells.toArray] w fun e w'=>e=.returned (.bool (l.any v.knows))∧Fr Nil w w':=by
 have hb:Blk (w.alloc (.cells v.cells.toArray 37)) w.heap.size v.cells 37:=Blk.new w v.cells _
 have hf:Fr Nil w (w.alloc (.cells v.cells.toArray 37)):=(G _ _).alloc _
 have HC:=Z (Vf lv l v hv _ _ (VRow.fr hl hf (fun _ _=>id)) hb)
 clear hl hb
 generalize l.any v.knows=r at HC ⊢
 obtain⟨node,seq,o0,o1,o2,o3,value,gone⟩:=v
 simp only[Ver.cells] at *
 go_enter Tryz.func141,Tryz.ntmps141
 go_wp2_with (refine HC.out.mono ?_;rintro e w1 ⟨rfl,hf1⟩)
 go_ret
 exact⟨rfl,hf.trans hf1⟩
theorem LG:((Tryz.prog.info? 37).map fun i=>(i.zero.map (·.cells.size),i.size,i.bytes))=some (some 8,8,72):=by kernel_rfl
theorem Yc(a b:List Ver):zM (a++b)=zM a++zM b:=by simp[zM]
theorem Zn(w:World)(v:Value)(l:List Ver)(h:VRow w v l)(x:Ver)(hn:l.length<1000000)(W0:World)(hf:Fr Nil w W0)(N:Nat)(hN:Blk W0 N x.cells 37)(ty:TypeId) :
  ∃ v' w',(Builtin.append_ #[61,61] ty #[v,.slice (some ⟨N,0,none⟩) 1 1]).run Tryz.prog W0=.ok v' w' ∧
   (VRow w' v' (l++[x])∧Fr (fun k=>v.ownBlock=some k) w w'∧(∀ k,v'.ownBlock=some k→v.ownBlock=some k∨w.heap.size≤k)):=by
 have ho:=z7 h hf (fun _ _=>id)
 obtain⟨v',w',hr,h1,h2,h3⟩:=zo (P:=Tryz.prog) 61 ty 37 8 72 Tryz.underlying61 LG (by omega) v l.length _ ho ⟨N,0,none⟩ 1 1 x.cells rfl
  (fun j u hu=>by rw[Addr.add_lit,Nat.zero_add,hN.cell];exact hu) (fun u hu=>Xb [x] u (by simpa [zM] using hu)) (by unfold maxLen;omega) (by omega)
 refine⟨v',w',hr,?_,(hf.mono (fun _ _ e=>absurd e id)).trans' ((Fr.of_grown h2).mono (fun i _ h=>h)) (fun i _ h=>h),fun k hk=>?_⟩
 ·unfold VRow
  rw[List.length_append,Yc]
  have:zM [x]=x.cells:=by simp[zM]
  rw[this]
  exact h1
 ·rcases h3 with h3|h3
  ·exact .inl (by rw[← h3];exact hk)
  ·rw[h3] at hk;simp at hk;have:=hf.size;exact .inr (by omega)
def zn(l:List Ver)(v:Ver):List Ver:=l.filter fun u=>!v.over u
theorem Pw(lv:Value)(l:List Ver)(v:Ver)(hnode:∀ u∈l,zE u.node)(hln:l.length<1000000)(w:World)(hl:VRow w lv l) :
  Calls Tryz.prog 140 #[lv,.agg v.cells.toArray] w fun e w'=>∃ v',e=.returned v'∧VRow w' v' (zn l v)∧Fr Nil w w'∧(∀ k,v'.ownBlock=some k→w.heap.size≤k):=by
 have hn:=zK hl
 unfold maxLen at hn
 obtain⟨la,lc,rfl⟩:=z8 hl
 have hb:Blk (w.alloc (.cells v.cells.toArray 37)) w.heap.size v.cells 37:=Blk.new w v.cells _
 have hf0:Fr Nil w (w.alloc (.cells v.cells.toArray 37)):=(G _ _).alloc _
 have HL:=Z hl
 have HNODE:=Z hnode
 clear hl hnode
 have HOV:Hid (∀ (x:Ver) (W:World),zE x.node→Calls Tryz.prog 174 #[.agg v.cells.toArray,.agg x.cells.toArray] W fun e w'=>e=.returned (.bool (v.over x))∧Fr Nil W w'):=fun x W hx=>XT v x hx W
 have HLEFT:Hid (∀ i (hi:i<l.length),zn (l.take (i+1)) v=zn (l.take i) v++if v.over l[i]=true then [] else [l[i]]):=by
  intro i hi
  unfold zn
  rw[List.take_succ_eq_append_getElem hi,List.filter_append]
  congr 1
  cases hv:v.over l[i] <;> simp[hv]
 have HLEN:Hid (∀ i,(zn (l.take i) v).length<1000000):=by
  intro i
  have h1:=List.length_filter_le (fun u=>!v.over u) (l.take i)
  have h2:=List.length_take_le' i l
  unfold zn
  omega
 obtain⟨node,seq,o0,o1,o2,o3,value,gone⟩:=v
 simp only[Ver.cells] at *
 go_enter Tryz.func140,Tryz.ntmps140
 go_wp2_with fail
 obtain⟨N,hN⟩:∃ N,w.heap.size=N:=⟨_,rfl⟩
 obtain⟨w0,hw0⟩:∃ w0,w.alloc (.cells #[.int .i64 node,.int .i64 seq,.int .i64 o0,.int .i64 o1,.int .i64 o2,.int .i64 o3,.string value,.bool gone] 37)=w0:=⟨_,rfl⟩
 rw[hN] at hb ⊢
 rw[hw0] at hb hf0 ⊢
 clear hw0
 have hNlt:=hb.lt
 go_loopw [5,10] (fun t5 t10 w'=>∃ i:Nat,i≤l.length∧t10=.int .i64 i∧VRow w' t5 (zn (l.take i) ⟨node,seq,o0,o1,o2,o3,value,gone⟩)∧Fr Nil w0 w'∧(∀ k,t5.ownBlock=some k→w0.heap.size≤k)) (fun _ t10 _=>l.length-(intOf t10).toNat)
 case atStart=>exact⟨0,Nat.zero_le _,rfl,World.ownsRow_nil w0 0 _ _,G _ _,fun k hk=>by simp[Value.ownBlock] at hk⟩
 case round =>
  obtain⟨i,hi,rfl,hv5,hf,hnew⟩:=hrel
  by_cases hlt:i<l.length
  ·obtain⟨g,rfl⟩:∃ g,la=some ⟨g,0,none⟩:=by
    obtain⟨g,cap,h,_⟩:=zi HL.out (by omega)
    simp at h;exact⟨g,h.1⟩
   have hc:=VRow.cells (z7 (S:=Nil) HL.out (hf0.trans hf) (fun _ _=>id)) i hlt
   have g0:=hc 0 (by omega)
   have g1:=hc 1 (by omega)
   have g2:=hc 2 (by omega)
   have g3:=hc 3 (by omega)
   have g4:=hc 4 (by omega)
   have g5:=hc 5 (by omega)
   have g6:=hc 6 (by omega)
   have g7:=hc 7 (by omega)
   have hx:=HNODE.out l[i] (List.getElem_mem hlt)
   have hst:=HLEFT.out i hlt
   have hbN:∀ (ob:Obj) k,(wr.alloc ob).cell? ⟨N,k,none⟩=[.int .i64 node,.int .i64 seq,.int .i64 o0,.int .i64 o1,.int .i64 o2,.int .i64 o3,.string value,.bool gone][k]?:=fun ob k=>((hb.fr hf id).alloc ob).cell k
   have HST:=Z hst
   have HNEW:=Z hnew
   have HV5:=Z hv5
   have HX:=Z hx
   clear hc hst hnew hx
   generalize l[i]=x at g0 g1 g2 g3 g4 g5 g6 g7 HST HX
   have HO:=Z (HOV.out x (wr.alloc (.cells x.cells.toArray 37)) HX.out)
   obtain⟨xn,xs,x0,x1,x2,x3,xv,xg⟩:=x
   simp only[Ver.cells,Nat.add_zero] at g0 g1 g2 g3 g4 g5 g6 g7 HO
   obtain⟨ta,tc,rfl⟩:=z8 hv5
   clear hv5
   cases hov:Ver.over ⟨node,seq,o0,o1,o2,o3,value,gone⟩ ⟨xn,xs,x0,x1,x2,x3,xv,xg⟩ with
   | true =>
    rw[hov] at HO HST
    clear hov
    go_wp2_with (refine HO.out.mono ?_;rintro e w1 ⟨rfl,hf1⟩)
    have hfr:Fr Nil wr w1:=((G Nil wr).alloc _).trans hf1
    refine⟨⟨i+1,by omega,by go_num,?_,hf.trans hfr,HNEW.out⟩,by simp[intOf];omega⟩
    rw[HST.out]
    simpa using VRow.fr HV5.out hfr (fun _ _=>id)
   | false =>
    rw[hov] at HO HST
    clear hov
    go_wp2_with fail
    refine HO.out.mono ?_
    rintro e w1 ⟨rfl,hf1⟩
    have hfr:Fr Nil wr w1:=((G Nil wr).alloc _).trans hf1
    have hbM:=((Blk.new wr [.int .i64 xn,.int .i64 xs,.int .i64 x0,.int .i64 x1,.int .i64 x2,.int .i64 x3,.string xv,.bool xg] 37).fr hf1 id).cell
    have hrun:=fun ty=>Zn wr _ _ HV5.out ⟨xn,xs,x0,x1,x2,x3,xv,xg⟩ (HLEN.out i) (w1.alloc (.cells #[.int .i64 xn,.int .i64 xs,.int .i64 x0,.int .i64 x1,.int .i64 x2,.int .i64 x3,.string xv,.bool xg] 37)) (hfr.alloc _) w1.heap.size (Blk.new w1 [.int .i64 xn,.int .i64 xs,.int .i64 x0,.int .i64 x1,.int .i64 x2,.int .i64 x3,.string xv,.bool xg] _) ty
    obtain⟨m,hm⟩:∃ m,(zn (l.take i) ⟨node,seq,o0,o1,o2,o3,value,gone⟩).length=m:=⟨_,rfl⟩
    rw[hm] at hrun HNEW ⊢
    have HM:=Z hm
    clear hm
    go_wp2_with (at_builtin;go_must (refine zf rfl _ _ _ _ rfl _ _ (by rfl) (by rfl) (hrun _) ?_);rintro v' w' ⟨hv',hfr',hn'⟩)
    refine⟨⟨i+1,by omega,by go_num,?_,?_,fun k hk=>?_⟩,by simp[intOf];omega⟩
    ·rw[HST.out]
     simpa using hv'
    ·exact hf.trans' hfr' (fun j hj h=>absurd (HNEW.out j h) (by omega))
    ·rcases hn' k hk with h|h
     ·exact HNEW.out k h
     ·have:=hf.size;omega
  ·have e:i=l.length:=by omega
   have hall:zn (l.take i) ⟨node,seq,o0,o1,o2,o3,value,gone⟩=zn l ⟨node,seq,o0,o1,o2,o3,value,gone⟩:=by rw[e,List.take_length]
   rw[hall] at hv5
   have HV5:=Z hv5
   have HNEW:=Z hnew
   clear hv5 hall hnew
   go_wp2
   go_ret
   exact⟨_,rfl,HV5.out,hf0.trans hf,fun k hk=>Nat.le_trans hf0.size (HNEW.out k hk)⟩
def grV(l:List Ver)(n:Int):Int:=l.foldl (fun m u=>if u.node=n then max m u.seq else m) 0
theorem XH(l:List Ver)(i:Nat)(h:i<l.length)(n:Int):grV (l.take (i+1)) n=if l[i].node=n then max (grV (l.take i) n) l[i].seq else grV (l.take i) n:=by
 unfold grV
 rw[List.take_succ_eq_append_getElem h,List.foldl_append]
 rfl
theorem UZ(lv:Value)(l:List Ver)(hnode:∀ u∈l,zE u.node)(w:World)(hl:VRow w lv l) :
  Calls Tryz.prog 72 #[lv] w fun e w'=>e=.returned (.agg #[.int .i64 (grV l 0),.int .i64 (grV l 1),.int .i64 (grV l 2),.int .i64 (grV l 3)])∧Fr Nil w w':=by
 have hn:=zK hl
 unfold maxLen at hn
 obtain⟨la,lc,rfl⟩:=z8 hl
 have HL:=Z hl
 have HNODE:=Z hnode
 clear hl hnode
 go_enter Tryz.func72,Tryz.ntmps72
 go_wp2_with fail
 obtain⟨R,hR⟩:∃ R,w.heap.size=R:=⟨_,rfl⟩
 have hb0:Blk ((w.alloc (.cells #[.int .i64 0,.int .i64 0,.int .i64 0,.int .i64 0] 35)).alloc (.cells #[.int .i64 0,.int .i64 0,.int .i64 0,.int .i64 0] 35)) (w.heap.size+1) [.int .i64 0,.int .i64 0,.int .i64 0,.int .i64 0] 35:=by
  have:=Blk.new (w.alloc (.cells #[.int .i64 0,.int .i64 0,.int .i64 0,.int .i64 0] 35)) [.int .i64 0,.int .i64 0,.int .i64 0,.int .i64 0] 35
  simpa using this
 have hr0:Blk ((w.alloc (.cells #[.int .i64 0,.int .i64 0,.int .i64 0,.int .i64 0] 35)).alloc (.cells #[.int .i64 0,.int .i64 0,.int .i64 0,.int .i64 0] 35)) w.heap.size [.int .i64 0,.int .i64 0,.int .i64 0,.int .i64 0] 35:=(Blk.new w [.int .i64 0,.int .i64 0,.int .i64 0,.int .i64 0] _).alloc _
 have hf0:Fr Nil w ((w.alloc (.cells #[.int .i64 0,.int .i64 0,.int .i64 0,.int .i64 0] 35)).alloc (.cells #[.int .i64 0,.int .i64 0,.int .i64 0,.int .i64 0] 35)):=((G _ _).alloc _).alloc _
 obtain⟨w0,hw0⟩:∃ w0,(w.alloc (.cells #[.int .i64 0,.int .i64 0,.int .i64 0,.int .i64 0] 35)).alloc (.cells #[.int .i64 0,.int .i64 0,.int .i64 0,.int .i64 0] 35)=w0:=⟨_,rfl⟩
 rw[hw0] at hb0 hr0 hf0 ⊢
 have hRge:w.heap.size≤R:=by omega
 rw[hR] at hb0 hr0 ⊢
 clear hw0 hR
 go_loopw [8] (fun t8 w'=>∃ i:Nat,i≤l.length∧t8=.int .i64 i∧Blk w' (R+1) [.int .i64 (grV (l.take i) 0),.int .i64 (grV (l.take i) 1),.int .i64 (grV (l.take i) 2),.int .i64 (grV (l.take i) 3)] 35∧Fr (fun k=>k=R+1) w0 w') (fun t8 _=>l.length-(intOf t8).toNat)
 case atStart=>exact⟨0,Nat.zero_le _,rfl,hb0,G _ _⟩
 case round =>
  obtain⟨i,hi,rfl,hbm,hf⟩:=hrel
  have hfw:Fr Nil w wr:=hf0.trans' (hf.mono (fun _ _ h=>h)) (fun k hk h=>by omega)
  by_cases hlt:i<l.length
  ·obtain⟨g,rfl⟩:∃ g,la=some ⟨g,0,none⟩:=by
    obtain⟨g,cap,h,_⟩:=zi HL.out (by omega)
    simp at h;exact⟨g,h.1⟩
   have hc:=VRow.cells (z7 (S:=Nil) HL.out hfw (fun _ _=>id)) i hlt
   have g0:=hc 0 (by omega)
   have g1:=hc 1 (by omega)
   have g2:=hc 2 (by omega)
   have g3:=hc 3 (by omega)
   have g4:=hc 4 (by omega)
   have g5:=hc 5 (by omega)
   have g6:=hc 6 (by omega)
   have g7:=hc 7 (by omega)
   have hx:=HNODE.out l[i] (List.getElem_mem hlt)
   have hst:=XH l i hlt
   have HST:=Z hst
   have HX:=Z hx
   clear hc hst hx
   generalize l[i]=x at g0 g1 g2 g3 g4 g5 g6 g7 HST HX
   obtain⟨node,seq,x0,x1,x2,x3,xv,xg⟩:=x
   simp only[Ver.cells,Nat.add_zero] at g0 g1 g2 g3 g4 g5 g6 g7
   have hcs:node=0∨node=1∨node=2∨node=3:=by have:=HX.out;unfold zE at this;simp only at this;omega
   generalize hG0:grV (l.take i) 0=m0 at hbm
   generalize hG1:grV (l.take i) 1=m1 at hbm
   generalize hG2:grV (l.take i) 2=m2 at hbm
   generalize hG3:grV (l.take i) 3=m3 at hbm
   have HG0:=Z hG0
   have HG1:=Z hG1
   have HG2:=Z hG2
   have HG3:=Z hG3
   clear hG0 hG1 hG2 hG3
   have hbA:∀ (ob:Obj) k,(wr.alloc ob).cell? ⟨R+1,k,none⟩=[.int .i64 m0,.int .i64 m1,.int .i64 m2,.int .i64 m3][k]?:=fun ob k=>(hbm.alloc ob).cell k
   have hzA:∀ (ob:Obj) k,(wr.alloc ob).frozen? ⟨R+1,k,none⟩=false:=fun ob k=>(hbm.alloc ob).frozen k
   have HB:=Z hbm
   clear hbm
   have hmax:∀ (m q:Int),max m q=if m<q then q else m:=by intro m q;simp only[Int.max_def];split <;> split <;> omega
   have HMAX:=Z hmax
   clear hmax
   rcases hcs with rfl|rfl|rfl|rfl
   ·go_wp2_with fail
    go_region
    go_wp2
    refine⟨⟨i+1,by omega,by go_num,?_,?_⟩,by simp[intOf];omega⟩
    ·have hst:=HST.out
     simp only[hst,HG0.out,HG1.out,HG2.out,HG3.out,HMAX.out]
     exact((HB.out.alloc _).set 0 _).drew
    ·exact(Fr.set (S:=fun k=>k=R+1) (hf.alloc _) (fun _=>rfl) _).drew
   ·go_wp2_with fail
    go_region
    go_wp2
    refine⟨⟨i+1,by omega,by go_num,?_,?_⟩,by simp[intOf];omega⟩
    ·have hst:=HST.out
     simp only[hst,HG0.out,HG1.out,HG2.out,HG3.out,HMAX.out]
     exact((HB.out.alloc _).set 1 _).drew
    ·exact(Fr.set (S:=fun k=>k=R+1) (hf.alloc _) (fun _=>rfl) _).drew
   ·go_wp2_with fail
    go_region
    go_wp2
    refine⟨⟨i+1,by omega,by go_num,?_,?_⟩,by simp[intOf];omega⟩
    ·have hst:=HST.out
     simp only[hst,HG0.out,HG1.out,HG2.out,HG3.out,HMAX.out]
     exact((HB.out.alloc _).set 2 _).drew
    ·exact(Fr.set (S:=fun k=>k=R+1) (hf.alloc _) (fun _=>rfl) _).drew
   ·go_wp2_with fail
    go_region
    go_wp2
    refine⟨⟨i+1,by omega,by go_num,?_,?_⟩,by simp[intOf];omega⟩
    ·have hst:=HST.out
     simp only[hst,HG0.out,HG1.out,HG2.out,HG3.out,HMAX.out]
     exact((HB.out.alloc _).set 3 _).drew
    ·exact(Fr.set (S:=fun k=>k=R+1) (hf.alloc _) (fun _=>rfl) _).drew
  ·have e:i=l.length:=by omega
   rw[e,List.take_length] at hbm
   have hbr:=hr0.fr hf (fun e=>by omega)
   have hcm:=hbm.cell
   have hcr:=hbr.cell
   have hzr:=hbr.frozen
   generalize hG0:grV l 0=m0 at hcm
   generalize hG1:grV l 1=m1 at hcm
   generalize hG2:grV l 2=m2 at hcm
   generalize hG3:grV l 3=m3 at hcm
   have HG0:=Z hG0
   have HG1:=Z hG1
   have HG2:=Z hG2
   have HG3:=Z hG3
   have HF:=Z hfw
   have HBR:=Z hbr
   clear hG0 hG1 hG2 hG3 hbm hbr
   go_wp2
   have hb4:=(((HBR.out.set 0 (.int .i64 m0)).set 1 (.int .i64 m1)).set 2 (.int .i64 m2)).set 3 (.int .i64 m3)
   have hf4:Fr Nil w ((((wr.setCell ⟨R,0,none⟩ (.int .i64 m0)).setCell ⟨R,1,none⟩ (.int .i64 m1)).setCell ⟨R,2,none⟩ (.int .i64 m2)).setCell ⟨R,3,none⟩ (.int .i64 m3)) :=
    Fr.set (Fr.set (Fr.set (Fr.set HF.out (fun h=>by simp only at h;omega) _) (fun h=>by simp only at h;omega) _) (fun h=>by simp only at h;omega) _) (fun h=>by simp only at h;omega) _
   have HF4:=Z hf4
   have hc4:=hb4.cell
   simp only[List.set_cons_zero,List.set_cons_succ] at hc4
   clear hcm hcr hzr hf4 hb4
   generalize (((wr.setCell ⟨R,0,none⟩ (.int .i64 m0)).setCell ⟨R,1,none⟩ (.int .i64 m1)).setCell ⟨R,2,none⟩ (.int .i64 m2)).setCell ⟨R,3,none⟩ (.int .i64 m3)=w4 at hc4 HF4 ⊢
   refine bodyPost_ret (v:=.agg #[.int .i64 m0,.int .i64 m1,.int .i64 m2,.int .i64 m3]) (by simp[results,Tryz.results72,go_sem,hc4,Tryz.isAgg35,Tryz.sizeOf35]) rfl ⟨?_,HF4.out⟩
   rw[HG0.out,HG1.out,HG2.out,HG3.out]
theorem OK:((Tryz.prog.info? 37).map fun i=>(i.zero.map (·.cells.size),i.size,i.bytes))=some (some 8,8,72):=by kernel_rfl
def Wc(w:World)(ob:Option Nat)(n i:Nat)(xs el:List Value)(e:Ending)(w':World):Prop :=
 ∃ g cap,e=.returned (.slice (some ⟨g,0,none⟩) (n+1) cap)∧w'.ownsRow 0 37 8 (.slice (some ⟨g,0,none⟩) (n+1) cap) (n+1) (ZH 8 i xs el)∧Fr (fun b=>ob=some b) w w'∧(ob=some g∨w.heap.size≤g)
theorem Qt(v:Value)(n:Nat)(xs el:List Value)(vb:Nat)(w:World)(hown:w.ownsRow 0 37 8 v n xs)(hel:el.length=8)(he1:∀ u∈el,u.oneCell'=true)(hv:Blk w vb el 37)(hbig:(n+1)*72≤140737488355328) :
  Calls Tryz.prog 181 #[v,.int .i64 n,.slice (some ⟨vb,0,none⟩) 1 1] w fun e w'=>Wc w v.ownBlock n n xs el e w':=by
 have hrun:∀ ty,∃ v' w',(Builtin.append_ #[61,61] ty #[v,.slice (some ⟨vb,0,none⟩) 1 1]).run Tryz.prog w=.ok v' w'∧App w v 37 8 (n+1) (xs++el) v' w':=fun ty =>
  zo (P:=Tryz.prog) 61 ty 37 8 72 Tryz.underlying61 OK (by omega) v n xs hown ⟨vb,0,none⟩ 1 1 el (by rw[hel]) (fun j u hu=>by rw[Addr.add_lit,Nat.zero_add];rw[hv.cell];exact hu) he1 (by unfold maxLen;omega) hbig
 have hfin:∀ v' w',App w v 37 8 (n+1) (xs++el) v' w'→Wc w v.ownBlock n n xs el (.returned v') w':=by
  rintro v' w' ⟨ho,hg,hb⟩
  obtain⟨g,cap,rfl,_,_⟩:=ho.form (by omega)
  refine⟨g,cap,rfl,?_,(Fr.of_grown hg).mono (fun i _ h=>h),?_⟩
  ·have e1:xs.take (n*8)=xs:=List.take_of_length_le (by rw[hown.1];exact Nat.le_refl _)
   have e2:xs.drop (n*8)=[]:=List.drop_eq_nil_of_le (by rw[hown.1];exact Nat.le_refl _)
   unfold ZH
   rw[e1,e2,List.append_nil]
   exact ho
  ·rcases hb with hb|hb
   ·left;rw[← hb];rfl
   ·right;have:g=w.heap.size:=by simpa [Value.ownBlock] using hb
    omega
 have hn:=zK hown
 unfold maxLen at hn
 obtain⟨a,cap,rfl⟩:=z8 hown
 have HF:=Z hfin
 clear hfin hown
 generalize (Value.slice a n cap).ownBlock=ob at HF ⊢
 go_enter Tryz.func181,Tryz.ntmps181
 go_wp2_with (at_builtin;go_must (refine zf rfl _ _ _ _ rfl _ _ (by rfl) (by rfl) (hrun _) ?_);rintro v' w' hA)
 all_goals
  go_ret
  exact HF.out _ _ hA
theorem OL(w:World)(va vl vc bo bl bc:Nat)(vb g:Nat)(el c:List Value)(hv:Blk w vb el 37)(hg:Blk w g c 37)(hne:vb≠g)(hc:c.length≠0) :
  (callFunc 215 #[.slice (some ⟨vb,va,none⟩) vl vc,.slice (some ⟨g,bo,none⟩) bl bc]).run Tryz.prog w=.ok (.value (.bool false)) w:=by
 rw[run_callFunc_extern Tryz.func215 (by kernel_rfl) (by kernel_rfl) (by kernel_rfl) (e:=Extern.SlicesOverlaps.overlaps #[61,61] #[4]) (by kernel_rfl),
  Lib.run_overlaps_apart w 61 4 37 Tryz.underlying61 8 Tryz.sizeOf37 ⟨vb,va,none⟩ ⟨g,bo,none⟩ vl vc bl bc hne 37 37 el.length c.length hv.shape hg.shape hc (hv.frozen _) (hv.frozen _)]
 rfl
theorem Sk(g n cap i:Nat)(c xs el:List Value)(vb:Nat)(w:World)(hg:Blk w g c 37)(hcl:c.length=cap*8)(ht:c.take (n*8)=xs)(h1:∀ u∈xs,u.oneCell'=true)(hi:i<n)(hroom:n+1≤cap)(hcm:cap≤maxLen)
  (hel:el.length=8)(he1:∀ u∈el,u.oneCell'=true)(hv:Blk w vb el 37)(hne:vb≠g) :
  Calls Tryz.prog 181 #[.slice (some ⟨g,0,none⟩) n cap,.int .i64 i,.slice (some ⟨vb,0,none⟩) 1 1] w fun e w'=>Wc w (some g) n i xs el e w':=by
 have hov:=fun va vl vc bo bl bc=>OL w va vl vc bo bl bc vb g el c hv hg hne (by omega)
 have hxl:xs.length=n*8:=by rw[← ht,List.length_take,hcl];exact Nat.min_eq_left (Nat.mul_le_mul_right _ (by omega))
 have hdl:(xs.drop (i*8)).length=(n-i)*8:=by rw[List.length_drop,hxl,Nat.sub_mul]
 have hdc:∀ j u,(xs.drop (i*8))[j]?=some u→c[i*8+j]?=some u:=by
  intro j u hu
  rw[List.getElem?_drop] at hu
  have hlt:=(List.getElem?_eq_some_iff.1 hu).1
  rw[← ht,List.getElem?_take_of_lt (by omega)] at hu
  exact hu
 have hcp1:∀ ty dc sc,(Builtin.copy_ #[61,61] ty #[.slice (some ⟨g,(i+1)*8,none⟩) (n-i) dc,.slice (some ⟨g,i*8,none⟩) (n+1-i) sc]).run Tryz.prog w.drew=_:=fun ty dc sc =>
  Zb 61 37 ty 8 Tryz.underlying61 (by kernel_rfl) g ((i+1)*8) (n-i) dc ⟨g,i*8,none⟩ (n+1-i) sc c (xs.drop (i*8)) 37 hg
   (by rw[hdl];congr 1;simp only[Nat.min_def];split <;> omega) (fun j u hu=>by rw[Addr.add_lit,show w.drew.cell? ⟨g,i*8+j,none⟩=c[i*8+j]? from hg.drew.cell _];exact hdc j u hu)
   (by rw[hdl,hcl];have:=Nat.mul_le_mul_right 8 hroom;have e:(i+1)*8+(n-i)*8=(n+1)*8:=(by rw[← Nat.add_mul];congr 1;omega);omega)
   (fun u hu=>h1 u (List.mem_of_mem_drop hu))
 obtain⟨c1,hc1⟩:∃ c1,c1=c.take ((i+1)*8)++xs.drop (i*8)++c.drop ((i+1)*8+(xs.drop (i*8)).length):=⟨_,rfl⟩
 rw[← hc1] at hcp1
 have hg1:Blk (w.drew.setRow g c1.toArray) g c1 37:=hg.drew.setRow c1
 have hv1:Blk (w.drew.setRow g c1.toArray) vb el 37:=hv.drew.of_heap (setRow_other _ g vb _ hne)
 have hc1l:c1.length=cap*8:=by
  have:=Nat.mul_le_mul_right 8 hroom
  have e:(i+1)*8+(n-i)*8=(n+1)*8:=by rw[← Nat.add_mul];congr 1;omega
  rw[hc1]
  simp only[List.length_append,List.length_take,List.length_drop,hxl,hcl]
  omega
 have hf1:Fr (fun b=>some g=some b) w (w.drew.setRow g c1.toArray):=Fr.setRow (S:=fun b=>some g=some b) ((G _ w).drew) (fun _=>rfl) _
 obtain⟨W1,hW1⟩:∃ W1,W1=w.drew.setRow g c1.toArray:=⟨_,rfl⟩
 rw[← hW1] at hcp1 hg1 hv1 hf1
 clear hW1
 have hcp2:∀ ty dc,(Builtin.copy_ #[61,61] ty #[.slice (some ⟨g,i*8,none⟩) (n+1-i) dc,.slice (some ⟨vb,0,none⟩) 1 1]).run Tryz.prog W1=_:=fun ty dc =>
  Zb 61 37 ty 8 Tryz.underlying61 (by kernel_rfl) g (i*8) (n+1-i) dc ⟨vb,0,none⟩ 1 1 c1 el 37 hg1
   (by rw[hel];have:Nat.min 1 (n+1-i)=1:=(by simp only[Nat.min_def];split <;> omega);rw[this]) (fun j u hu=>by rw[Addr.add_lit,Nat.zero_add,hv1.cell];exact hu)
   (by rw[hel,hc1l];have:=Nat.mul_le_mul_right 8 hroom;have e:i*8+8=(i+1)*8:=(by rw[Nat.add_mul,Nat.one_mul]);have:=Nat.mul_le_mul_right 8 (show i+1≤n+1 by omega);omega)
   he1
 have hfin:Wc w (some g) n i xs el (.returned (.slice (some ⟨g,0,none⟩) (n+1) cap)) (W1.setRow g (c1.take (i*8)++el++c1.drop (i*8+el.length)).toArray):=by
  have e0:=Nat.mul_le_mul_right 8 hroom
  have e1:i*8+8=(i+1)*8:=by rw[Nat.add_mul,Nat.one_mul]
  have e2:(i+1)*8+(n-i)*8=(n+1)*8:=by rw[← Nat.add_mul];congr 1;omega
  have e3:=Nat.mul_le_mul_right 8 (show i≤n by omega)
  refine⟨g,cap,rfl,Zj (hg1.setRow _) hroom hcm ?_ ?_,Fr.setRow (S:=fun b=>some g=some b) hf1 (fun _=>rfl) _,.inl rfl⟩
  ·rw[List.length_append,List.length_append,List.length_take,List.length_drop,hel,hc1l]
   omega
  ·unfold ZH
   have a1:c1.take (i*8)=xs.take (i*8):=by
    rw[hc1,← ht,List.take_append_of_le_length (by rw[List.length_append,List.length_take,hcl];omega),List.take_append_of_le_length (by rw[List.length_take,hcl];omega),List.take_take,List.take_take]
    congr 1
    omega
   have a2:c1.drop (i*8+el.length)=xs.drop (i*8)++c.drop ((n+1)*8):=by
    have e4:(c.take ((i+1)*8)).length=i*8+el.length:=by rw[List.length_take,hcl];omega
    rw[hc1,List.append_assoc,← e4,List.drop_left,hdl,e2]
   rw[a1,a2,← List.append_assoc,List.take_left' (by rw[List.length_append,List.length_append,hdl,hel,List.length_take,hxl];omega)]
 obtain⟨c2,hc2⟩:∃ c2,c2=c1.take (i*8)++el++c1.drop (i*8+el.length):=⟨_,rfl⟩
 rw[← hc2] at hcp2 hfin
 clear hg1 hv1 hf1 hc1l hdc hg hv hdl hxl h1 he1 hc1 hc2 ht hel hcl
 unfold maxLen at hcm
 have hq1:¬(i:Int)=(n:Int):=by omega
 have hq2:¬(cap:Int)<(n:Int)+1:=by omega
 have hq3:¬cap=i:=by omega
 have hq4:¬cap=i+1:=by omega
 have hw1:IntKind.i64.wrap ((i:Int)+1)=(i:Int)+1:=by rw[IntKind.wrap_i64];omega
 have hw2:(0:Int)≤(i:Int)+1:=by omega
 have hw3:((i:Int)+1).toNat=i+1:=by omega
 have hw4:(i:Int)≤(n:Int)+1:=by omega
 have hw5:(i:Int)≤(n:Int):=by omega
 go_enter Tryz.func181,Tryz.ntmps181
 go_wp2_with (simp only[hov])
 go_region_law (refine Y1 rfl _ _ 61 61 rfl _ _ (by simp[Act.eval,Act.put]) (by simp[Act.eval,Act.put]) (hcp1 _ _ _) ?_)
 go_wp2_with (at_builtin;go_must (refine wpList_copyK rfl _ _ 61 61 rfl _ _ (by rfl) (by rfl) (hcp2 _ _) ?_))
 go_ret
 exact hfin
theorem Rh(g n i:Nat)(xs el:List Value)(vb:Nat)(w:World)(hg:Blk w g xs 37)(hxl:xs.length=n*8)(h1:∀ u∈xs,u.oneCell'=true)(hi:i<n)
  (hel:el.length=8)(he1:∀ u∈el,u.oneCell'=true)(hv:Blk w vb el 37)(hbig:(n+1)*72≤140737488355328) :
  Calls Tryz.prog 181 #[.slice (some ⟨g,0,none⟩) n n,.int .i64 i,.slice (some ⟨vb,0,none⟩) 1 1] w fun e w'=>Wc w (some g) n i xs el e w':=by
 obtain⟨i0,z,hi0,hz0,hs0,hb0,hzs⟩:=Zk OK
 have hsum:i+(n+1-i)=n+1:=by omega
 have hrun:∀ ty,(Builtin.append_ #[61,3] ty #[.slice (some ⟨g,0,none⟩) i n,.int .i64 ((n+1-i:Nat):Int)]).run Tryz.prog w=_:=fun ty =>
  Lib.run_append_grow_zeros (P:=Tryz.prog) w 61 3 ty 37 i0 z .i64 .i64 Tryz.underlying61 Tryz.underlying3 hi0 hz0 (some ⟨g,0,none⟩) i n (xs.take (i*8))
   (by rw[hs0];exact run_firstCells_some (P:=Tryz.prog) w.drew 8 i ⟨g,0,none⟩ i n (xs.take (i*8)) (by rw[List.length_take,hxl];omega) (fun j u hu=>by
      have hlt:=(List.getElem?_eq_some_iff.1 hu).1
      rw[Addr.add_lit,Nat.zero_add,hg.drew.cell]
      rw[List.length_take] at hlt
      rw[List.getElem?_take_of_lt (by omega)] at hu
      exact hu))
   (n+1-i) (by omega) (by rw[hs0];omega) (by omega) (by omega) (by rw[hb0];omega) (growslice_fits (by omega) (by rw[hb0,hsum];exact hbig))
 rw[hsum] at hrun
 have hge:=grownCap_ge w (n+1) n 37
 have hcm:=grownCap_le_maxLen w (n+1) n 37 (by unfold maxLen;omega)
 generalize grownCap w (n+1) n 37=cap at hrun hge hcm
 obtain⟨c1,hc1⟩:∃ c1:List Value,c1=xs.take (i*8)++(Builtin.zeroCells z.cells (n+1-i)).toList++(Builtin.zeroCells z.cells (cap-(n+1))).toList:=⟨_,rfl⟩
 have hc1a:(xs.take (i*8)).toArray++Builtin.zeroCells z.cells (n+1-i)++Builtin.zeroCells z.cells (cap-(n+1))=c1.toArray:=by rw[hc1];apply Array.ext';simp
 rw[hc1a] at hrun
 have hc1l:c1.length=cap*8:=by
  rw[hc1]
  simp only[List.length_append,List.length_take,Array.length_toList,size_zeroCells,hzs,hxl]
  omega
 have hc1t:c1.take (i*8)=xs.take (i*8):=by
  have e:(xs.take (i*8)).length=i*8:=by rw[List.length_take,hxl];omega
  rw[hc1,List.append_assoc]
  exact List.take_left' e
 have hglt:=hg.lt
 have hvlt:=hv.lt
 have hg1:Blk (w.drew.alloc (.cells c1.toArray 37)) w.heap.size c1 37:=Blk.new w.drew c1 _
 have hv1:Blk (w.drew.alloc (.cells c1.toArray 37)) vb el 37:=hv.drew.alloc _
 have ho1:Blk (w.drew.alloc (.cells c1.toArray 37)) g xs 37:=hg.drew.alloc _
 have hf1:Fr Nil w (w.drew.alloc (.cells c1.toArray 37)):=((G _ w).drew).alloc _
 obtain⟨N,hN⟩:∃ N,N=w.heap.size:=⟨_,rfl⟩
 rw[← hN] at hrun hg1 hglt hvlt
 obtain⟨W1,hW1⟩:∃ W1,W1=w.drew.alloc (.cells c1.toArray 37):=⟨_,rfl⟩
 rw[← hW1] at hrun hg1 hv1 ho1 hf1
 clear hW1
 obtain⟨c2,hc2⟩:∃ c2,c2=c1.take (i*8)++el++c1.drop (i*8+el.length):=⟨_,rfl⟩
 have hcp1:∀ ty dc,(Builtin.copy_ #[61,61] ty #[.slice (some ⟨N,i*8,none⟩) (n+1-i) dc,.slice (some ⟨vb,0,none⟩) 1 1]).run Tryz.prog W1=_:=fun ty dc =>
  Zb 61 37 ty 8 Tryz.underlying61 (by kernel_rfl) N (i*8) (n+1-i) dc ⟨vb,0,none⟩ 1 1 c1 el 37 hg1
   (by rw[hel];have:Nat.min 1 (n+1-i)=1:=(by simp only[Nat.min_def];split <;> omega);rw[this]) (fun j u hu=>by rw[Addr.add_lit,Nat.zero_add,hv1.cell];exact hu)
   (by rw[hel,hc1l];omega)
   he1
 rw[← hc2] at hcp1
 have hc2l:c2.length=cap*8:=by
  rw[hc2]
  simp only[List.length_append,List.length_take,List.length_drop,hel,hc1l]
  omega
 have hc2t:c2.take ((i+1)*8)=xs.take (i*8)++el:=by
  have e:(xs.take (i*8)++el).length=(i+1)*8:=by rw[List.length_append,List.length_take,hxl,hel];omega
  rw[hc2,hc1t]
  exact List.take_left' e
 have hg2:Blk (W1.setRow N c2.toArray) N c2 37:=hg1.setRow c2
 have ho2:Blk (W1.setRow N c2.toArray) g xs 37:=ho1.of_heap (setRow_other _ N g _ (by omega))
 have hf2:Fr Nil w (W1.setRow N c2.toArray):=hf1.setRow (fun h=>by omega) _
 obtain⟨W2,hW2⟩:∃ W2,W2=W1.setRow N c2.toArray:=⟨_,rfl⟩
 rw[← hW2] at hcp1 hg2 ho2 hf2
 clear hW2
 have hdl:(xs.drop (i*8)).length=(n-i)*8:=by rw[List.length_drop,hxl,Nat.sub_mul]
 obtain⟨c3,hc3⟩:∃ c3,c3=c2.take ((i+1)*8)++xs.drop (i*8)++c2.drop ((i+1)*8+(xs.drop (i*8)).length):=⟨_,rfl⟩
 have hcp2:∀ ty dc sc,(Builtin.copy_ #[61,61] ty #[.slice (some ⟨N,(i+1)*8,none⟩) (n-i) dc,.slice (some ⟨g,i*8,none⟩) (n-i) sc]).run Tryz.prog W2.drew=_:=fun ty dc sc =>
  Zb 61 37 ty 8 Tryz.underlying61 (by kernel_rfl) N ((i+1)*8) (n-i) dc ⟨g,i*8,none⟩ (n-i) sc c2 (xs.drop (i*8)) 37 hg2.drew
   (by rw[hdl];congr 1;simp only[Nat.min_def];split <;> omega) (fun j u hu=>by rw[Addr.add_lit,ho2.drew.cell];rw[List.getElem?_drop] at hu;exact hu)
   (by rw[hdl,hc2l];omega)
   (fun u hu=>h1 u (List.mem_of_mem_drop hu))
 rw[← hc3] at hcp2
 have hfin:Wc w (some g) n i xs el (.returned (.slice (some ⟨N,0,none⟩) (n+1) cap)) (W2.drew.setRow N c3.toArray):=by
  refine⟨N,cap,rfl,Zj (hg2.drew.setRow _) hge hcm ?_ ?_,(hf2.drew.setRow (fun h=>by omega) _).mono (fun _ _ h=>absurd h id),.inr (by omega)⟩
  ·rw[hc3]
   simp only[List.length_append,List.length_take,List.length_drop,hxl,hc2l]
   omega
  ·have e:(c2.take ((i+1)*8)++xs.drop (i*8)).length=(n+1)*8:=by rw[List.length_append,List.length_take,hc2l,hdl];omega
   rw[hc3,List.take_left' e,hc2t]
   rfl
 clear hc1t hc2t hc1a hc3 hc2 hc1 hg1 hv1 ho1 hf1 hg2 ho2 hf2 hdl hc2l hc1l h1 he1 hel hxl hv hg hN hsum hzs hb0 hs0 hz0 hi0
 unfold maxLen at hcm
 have hq1:¬(i:Int)=(n:Int):=by omega
 have hq3:¬n=i:=by omega
 have hq4:¬cap=i+1:=by omega
 have hq5:¬cap=i:=by omega
 have hq6:(n:Int)+1-i=((n+1-i:Nat):Int):=by omega
 have hw1:IntKind.i64.wrap ((i:Int)+1)=(i:Int)+1:=by rw[IntKind.wrap_i64];omega
 have hw2:(0:Int)≤(i:Int)+1:=by omega
 have hw3:((i:Int)+1).toNat=i+1:=by omega
 have hw4:(i:Int)≤(n:Int)+1:=by omega
 have hw5:(i:Int)≤(n:Int):=by omega
 go_enter Tryz.func181,Tryz.ntmps181
 go_wp2_with (at_builtin;go_must (first|(refine Lib.wpList_append_run _ rfl _ _ _ _ rfl _ _ (by rfl) (by rfl) _ _ (hrun _) ?_)|(refine wpList_copyK rfl _ _ 61 61 rfl _ _ (by rfl) (by rfl) (hcp1 _ _) ?_)))
 go_region_law (refine Y1 rfl _ _ 61 61 rfl _ _ (by simp[Act.eval,Act.put]) (by simp[Act.eval,Act.put]) (hcp2 _ _ _) ?_)
 go_wp2
 go_ret
 exact hfin
theorem Sl(v:Value)(n i:Nat)(xs el:List Value)(vb:Nat)(w:World)(hown:w.ownsRow 0 37 8 v n xs)(h1:∀ u∈xs,u.oneCell'=true)(hi:i≤n)
  (hel:el.length=8)(he1:∀ u∈el,u.oneCell'=true)(hv:Blk w vb el 37)(hne:v.ownBlock≠some vb)(hbig:(n+1)*72≤140737488355328) :
  Calls Tryz.prog 181 #[v,.int .i64 i,.slice (some ⟨vb,0,none⟩) 1 1] w fun e w'=>Wc w v.ownBlock n i xs el e w':=by
 rcases Nat.lt_or_ge i n with hlt|hge
 ·rcases ZW hown with⟨_,h0,_⟩|⟨g,cap,c,rfl,hg,hn,hm,hc,ht⟩
  ·omega
  ·have hne':vb≠g:=fun e=>hne (by rw[e];rfl)
   rcases Nat.lt_or_ge n cap with hr|hr
   ·exact Sk g n cap i c xs el vb w hg hc ht h1 hlt hr hm hel he1 hv hne'
   ·have e:cap=n:=by omega
    subst e
    have hcx:c=xs:=by rw[← ht];exact(List.take_of_length_le (by omega)).symm
    subst hcx
    exact Rh g cap i c el vb w hg hc h1 hlt hel he1 hv hbig
 ·have e:i=n:=by omega
  subst e
  exact Qt v i xs el vb w hown hel he1 hv hbig
def YW(a b:Int):Int:=if a<b then -1 else if b<a then 1 else 0
theorem Ur(a b:Int)(w:World) :
  Calls Tryz.prog 180 #[.int .i64 a,.int .i64 b] w fun e w'=>e=.returned (.int .i64 (YW a b))∧w'=w:=by
 unfold YW
 by_cases h1:a<b
 ·rw[if_pos h1]
  go_enter Tryz.func180,Tryz.ntmps180
  go_wp2
  go_ret
  exact⟨rfl,rfl⟩
 ·by_cases h2:b<a
  ·rw[if_neg h1,if_pos h2]
   go_enter Tryz.func180,Tryz.ntmps180
   go_wp2
   go_ret
   exact⟨rfl,rfl⟩
  ·rw[if_neg h1,if_neg h2]
   go_enter Tryz.func180,Tryz.ntmps180
   go_wp2
   go_ret
   exact⟨rfl,rfl⟩
def orI(a b:Int):Int:=if a=0 then b else a
theorem OM(a b:Int)(g:Nat)(w:World)(hb:Blk w g [.int .i64 a,.int .i64 b] 3) :
  Calls Tryz.prog 179 #[.slice (some ⟨g,0,none⟩) 2 2] w fun e w'=>e=.returned (.int .i64 (orI a b))∧Fr Nil w w':=by
 have h0:w.cell? ⟨g,0,none⟩=some (.int .i64 a):=by rw[hb.cell];rfl
 have h1:w.cell? ⟨g,1,none⟩=some (.int .i64 b):=by rw[hb.cell];rfl
 clear hb
 go_enter Tryz.func179,Tryz.ntmps179
 go_wp2_with fail
 go_loopw [8] (fun t8 w'=>∃ i:Nat,t8=.int .i64 i∧(i=0∨i=1∧a=0∨i=2∧a=0∧b=0)∧w'=w) (fun t8 _=>2-(intOf t8).toNat)
 case atStart=>exact⟨0,rfl,.inl rfl,rfl⟩
 case round =>
  obtain⟨i,rfl,hi,rfl⟩:=hrel
  rcases hi with rfl|⟨rfl,rfl⟩|⟨rfl,rfl,rfl⟩
  ·cases ha:(a != 0) with
   | true =>
    have hor:orI a b=a:=(by have hne:a≠0:=(by simpa using ha);simp[orI,hne])
    have HOR:=Z hor
    clear hor
    go_wp2
    go_ret
    rw[HOR.out]
    exact⟨rfl,G _ _⟩
   | false =>
    have he:a=0:=by simpa using ha
    subst he
    go_wp2
    exact⟨⟨1,by go_num,.inr (.inl ⟨rfl,by simp⟩),by trivial⟩,by simp[intOf]⟩
  ·cases hb:(b != 0) with
   | true =>
    go_wp2
    go_ret
    exact⟨rfl,G _ _⟩
   | false =>
    have he:b=0:=by simpa using hb
    subst he
    go_wp2
    exact⟨⟨2,by go_num,.inr (.inr ⟨rfl,by simp,by simp⟩),by trivial⟩,by simp[intOf]⟩
  ·go_wp2
   go_ret
   exact⟨rfl,G _ _⟩
def Ver.dot(v:Ver):Int × Int:=(v.node,v.seq)
def T0(a b:Int × Int):Int:=orI (YW a.1 b.1) (YW a.2 b.2)
def zu(a b:Int × Int):Bool:=decide (a.1<b.1∨a.1=b.1∧a.2<b.2)
theorem ZJ:Strict zu where
 irr a:=by simp[zu]
 trans a b c h1 h2:=by simp only[zu,decide_eq_true_eq] at *;omega
 tri a b h1 h2:=by
  obtain⟨a1,a2⟩:=a
  obtain⟨b1,b2⟩:=b
  simp only[zu,decide_eq_true_eq,decide_eq_false_iff_not] at *
  have:¬(a1=b1∧a2=b2):=fun h=>h2 (by rw[h.1,h.2])
  omega
theorem Ri{a b:Int × Int}:T0 a b<0↔zu a b=true:=by
 simp only[T0,orI,YW,zu,decide_eq_true_eq]
 split <;> split <;> (try split) <;> (try split) <;> omega
theorem VG(u:Ver)(n s:Int)(w:World) :
  Calls Tryz.prog 178 #[.agg u.cells.toArray,.agg #[.int .i64 n,.int .i64 s]] w fun e w'=>e=.returned (.int .i64 (T0 u.dot (n,s)))∧Fr Nil w w':=by
 obtain⟨node,seq,o0,o1,o2,o3,value,gone⟩:=u
 simp only[Ver.cells,Ver.dot,T0]
 go_enter Tryz.func178,Tryz.ntmps178
 go_wp2_with fail
 have hbu:Blk ((w.alloc (.cells #[.int .i64 node,.int .i64 seq,.int .i64 o0,.int .i64 o1,.int .i64 o2,.int .i64 o3,.string value,.bool gone] 37)).alloc (.cells #[.int .i64 n,.int .i64 s] 34)) w.heap.size [.int .i64 node,.int .i64 seq,.int .i64 o0,.int .i64 o1,.int .i64 o2,.int .i64 o3,.string value,.bool gone] 37 :=
  (Blk.new w [.int .i64 node,.int .i64 seq,.int .i64 o0,.int .i64 o1,.int .i64 o2,.int .i64 o3,.string value,.bool gone] _).alloc _
 have hbd:Blk ((w.alloc (.cells #[.int .i64 node,.int .i64 seq,.int .i64 o0,.int .i64 o1,.int .i64 o2,.int .i64 o3,.string value,.bool gone] 37)).alloc (.cells #[.int .i64 n,.int .i64 s] 34)) (w.heap.size+1) [.int .i64 n,.int .i64 s] 34:=by
  have:=Blk.new (w.alloc (.cells #[.int .i64 node,.int .i64 seq,.int .i64 o0,.int .i64 o1,.int .i64 o2,.int .i64 o3,.string value,.bool gone] 37)) [.int .i64 n,.int .i64 s] 34
  simpa using this
 have hf0:Fr Nil w ((w.alloc (.cells #[.int .i64 node,.int .i64 seq,.int .i64 o0,.int .i64 o1,.int .i64 o2,.int .i64 o3,.string value,.bool gone] 37)).alloc (.cells #[.int .i64 n,.int .i64 s] 34)):=((G _ _).alloc _).alloc _
 generalize (w.alloc (.cells #[.int .i64 node,.int .i64 seq,.int .i64 o0,.int .i64 o1,.int .i64 o2,.int .i64 o3,.string value,.bool gone] 37)).alloc (.cells #[.int .i64 n,.int .i64 s] 34)=w0 at hbu hbd hf0 ⊢
 generalize w.heap.size=N at hbu hbd ⊢
 have c0:w0.cell? ⟨N,0,none⟩=some (.int .i64 node):=by rw[hbu.cell];rfl
 have c1:w0.cell? ⟨N,1,none⟩=some (.int .i64 seq):=by rw[hbu.cell];rfl
 have c2:w0.cell? ⟨N+1,0,none⟩=some (.int .i64 n):=by rw[hbd.cell];rfl
 have c3:w0.cell? ⟨N+1,1,none⟩=some (.int .i64 s):=by rw[hbd.cell];rfl
 have HK:Hid (∀ w',Fr Nil w0 w'→w'.cell? ⟨N,0,none⟩=some (.int .i64 node)∧w'.cell? ⟨N,1,none⟩=some (.int .i64 seq)∧w'.cell? ⟨N+1,0,none⟩=some (.int .i64 n)∧w'.cell? ⟨N+1,1,none⟩=some (.int .i64 s)):=by
  intro w' hf
  have hu:=(hbu.fr hf id).cell
  have hd:=(hbd.fr hf id).cell
  exact⟨by rw[hu];rfl,by rw[hu];rfl,by rw[hd];rfl,by rw[hd];rfl⟩
 clear hbu hbd
 go_region_held3 (fun w'=>w'.cell? ⟨N,0,none⟩=some (.int .i64 node)∧w'.cell? ⟨N,1,none⟩=some (.int .i64 seq)∧w'.cell? ⟨N+1,0,none⟩=some (.int .i64 n)∧w'.cell? ⟨N+1,1,none⟩=some (.int .i64 s)) (first|assumption|exact HK.out _ (by repeat' first|(with_reducible first|apply G|assumption|apply O|apply U|apply V|apply z6)|(intro _;rfl)))
  (first
  | (go_at_call 179;refine(OM _ _ _ _ (by exact Blk.new _ [_,_] _)).mono ?_;rintro e w2 ⟨rfl,hf2⟩;have hf02:Fr Nil w0 w2:=Fr.trans (by repeat' first|(with_reducible first|apply G|assumption|apply O|apply U|apply V|apply z6)|(intro _;rfl)) hf2;have hz2:=HK.out w2 hf02)
  | (go_at_call 180;refine(Ur _ _ _).mono ?_;rintro e w1 ⟨rfl,hw1⟩;subst hw1))
 have HF:=Z (hf0.trans hf02)
 clear hf0 hf02 hf2
 go_wp2
 go_ret
 exact⟨rfl,HF.out⟩
def ZU(l:List Ver):Prop:=Asc zu (l.map Ver.dot)
theorem ZU.get{l:List Ver}(h:ZU l){i j:Nat}(hi:i<j)(hj:j<l.length):zu (l[i]'(Nat.lt_trans hi hj)).dot l[j].dot=true:=by
 have:=Asc.get h (i:=i) (j:=j) hi (by simpa using hj)
 rwa [List.getElem_map,List.getElem_map] at this
theorem Sm(lv:Value)(l:List Ver)(n s:Int)(hs:ZU l)(hsz:l.length<1000000)(w:World)(hl:VRow w lv l) :
  Calls Tryz.prog 177 #[lv,.agg #[.int .i64 n,.int .i64 s],.func (.func 178) #[] #[]] w fun e w' =>
   ∃ b:Bool,e=.returned (.tuple #[.int .i64 (low zu (l.map Ver.dot) (n,s)),.bool b])∧Fr Nil w w':=by
 obtain⟨a,cap,rfl⟩:=z8 hl
 have HL:=Z hl
 clear hl
 have hbx:Blk (w.alloc (.cells #[.int .i64 n,.int .i64 s] 34)) w.heap.size [.int .i64 n,.int .i64 s] 34:=Blk.new w [.int .i64 n,.int .i64 s] _
 have hf0:Fr Nil w (w.alloc (.cells #[.int .i64 n,.int .i64 s] 34)):=(G _ _).alloc _
 go_enter Tryz.func177,Tryz.ntmps177
 go_wp2
 generalize w.alloc (.cells #[.int .i64 n,.int .i64 s] 34)=w0 at hbx hf0 ⊢
 generalize w.heap.size=N at hbx ⊢
 go_loopw [9,10] (fun ti tj w'=>∃ i j:Nat,i≤j∧j≤l.length∧ti=.int .i64 i∧tj=.int .i64 j∧(∀ k (hk:k<l.length),k<i→zu l[k].dot (n,s)=true)∧(∀ k (hk:k<l.length),j≤k→zu l[k].dot (n,s)=false)∧Fr Nil w0 w') (fun ti tj _=>(intOf tj).toNat-(intOf ti).toNat)
 case atStart=>exact⟨0,l.length,Nat.zero_le _,Nat.le_refl _,rfl,rfl,fun k _ hk=>absurd hk (Nat.not_lt_zero _),fun k hk hk'=>absurd hk (by omega),G _ _⟩
 case round =>
  obtain⟨i,j,hij,hj,rfl,rfl,h1,h2,hf⟩:=hrel
  by_cases hlt:i<j
  ·obtain⟨g,rfl⟩:∃ g,a=some ⟨g,0,none⟩:=by
    obtain⟨g,cap,h,_⟩:=zi HL.out (by omega)
    simp at h;exact⟨g,h.1⟩
   have hm:(i+j) / 2<l.length:=by omega
   have HC:Hid (∀ w',Fr Nil wr w'→∀ k,k<8→w'.cell? ⟨g,(i+j) / 2*8+k,none⟩=l[(i+j) / 2].cells[k]?):=fun w' f k hk=>VRow.cells (z7 (S:=Nil) HL.out ((hf0.trans hf).trans f) (fun _ _=>id)) _ hm k hk
   have HX:Hid (∀ w',Fr Nil wr w'→w'.cell? ⟨N,0,none⟩=some (.int .i64 n)∧w'.cell? ⟨N,1,none⟩=some (.int .i64 s)):=by
    intro w' f
    have hu:=((hbx.fr hf id).fr f id).cell
    exact⟨by rw[hu];rfl,by rw[hu];rfl⟩
   have H1:=Z h1
   have H2:=Z h2
   clear h1 h2
   have hb1:(i:Int)≤1000000:=by omega
   have hb2:(j:Int)≤1000000:=by omega
   have hb3:(i:Int)+j≤9223372036854775807:=by omega
   have hq:(((i:Int)+j) / 2).toNat=(i+j) / 2:=by omega
   have HSTEP1:Hid (zu l[(i+j) / 2].dot (n,s)=true→∀ k (hk:k<l.length),k<(i+j) / 2+1→zu l[k].dot (n,s)=true):=by
    intro hl k hk hki
    by_cases e:k=(i+j) / 2
    ·subst e;exact hl
    ·exact ZJ.trans _ _ _ (hs.get (i:=k) (j:=(i+j) / 2) (by omega) hm) hl
   have HSTEP2:Hid (zu l[(i+j) / 2].dot (n,s)=false→∀ k (hk:k<l.length),(i+j) / 2≤k→zu l[k].dot (n,s)=false):=by
    intro hl k hk hki
    by_cases e:k=(i+j) / 2
    ·subst e;exact hl
    ·cases hk2:zu l[k].dot (n,s) with
     | false=>rfl
     | true =>
      have:=ZJ.trans _ _ _ (hs.get (i:=(i+j) / 2) (j:=k) (by omega) hk) hk2
      rw[hl] at this
      cases this
   generalize l[(i+j) / 2]=x at HC HSTEP1 HSTEP2
   obtain⟨node,seq,o0,o1,o2,o3,value,gone⟩:=x
   have HW:=Z (VG ⟨node,seq,o0,o1,o2,o3,value,gone⟩ n s)
   simp only[Ver.cells,Ver.dot] at HC HSTEP1 HSTEP2 HW
   have HS:Hid (∀ w',Fr Nil wr w'→w'.cell? ⟨g,(i+j) / 2*8,none⟩=some (.int .i64 node)∧w'.cell? ⟨g,(i+j) / 2*8+1,none⟩=some (.int .i64 seq)∧w'.cell? ⟨g,(i+j) / 2*8+2,none⟩=some (.int .i64 o0)∧w'.cell? ⟨g,(i+j) / 2*8+3,none⟩=some (.int .i64 o1)∧w'.cell? ⟨g,(i+j) / 2*8+4,none⟩=some (.int .i64 o2)∧w'.cell? ⟨g,(i+j) / 2*8+5,none⟩=some (.int .i64 o3)∧w'.cell? ⟨g,(i+j) / 2*8+6,none⟩=some (.string value)∧w'.cell? ⟨g,(i+j) / 2*8+7,none⟩=some (.bool gone)∧w'.cell? ⟨N,0,none⟩=some (.int .i64 n)∧w'.cell? ⟨N,1,none⟩=some (.int .i64 s)):=by
    intro w' f
    have hc:=HC.out w' f
    have hd:=HX.out w' f
    exact⟨hc 0 (by omega),hc 1 (by omega),hc 2 (by omega),hc 3 (by omega),hc 4 (by omega),hc 5 (by omega),hc 6 (by omega),hc 7 (by omega),hd.1,hd.2⟩
   have hS:=HS.out wr (G _ _)
   clear hij
   have hb4:(0:Int)≤((i:Int)+j) / 2:=by omega
   have hb5:((i:Int)+j) / 2<l.length:=by omega
   cases hl:zu (node,seq) (n,s) with
   | true =>
    have hcm:T0 (node,seq) (n,s)<0:=Ri.2 hl
    have H3:=Z (HSTEP1.out hl)
    clear hl
    go_wp2_with fail
    go_region_held3 (fun w'=>w'.cell? ⟨g,(i+j) / 2*8,none⟩=some (.int .i64 node)∧w'.cell? ⟨g,(i+j) / 2*8+1,none⟩=some (.int .i64 seq)∧w'.cell? ⟨g,(i+j) / 2*8+2,none⟩=some (.int .i64 o0)∧w'.cell? ⟨g,(i+j) / 2*8+3,none⟩=some (.int .i64 o1)∧w'.cell? ⟨g,(i+j) / 2*8+4,none⟩=some (.int .i64 o2)∧w'.cell? ⟨g,(i+j) / 2*8+5,none⟩=some (.int .i64 o3)∧w'.cell? ⟨g,(i+j) / 2*8+6,none⟩=some (.string value)∧w'.cell? ⟨g,(i+j) / 2*8+7,none⟩=some (.bool gone)∧w'.cell? ⟨N,0,none⟩=some (.int .i64 n)∧w'.cell? ⟨N,1,none⟩=some (.int .i64 s)) (first|assumption|exact HS.out _ (by repeat' first|(with_reducible first|apply G|assumption|apply O|apply U|apply V|apply z6)|(intro _;rfl)))
     (first
     | (go_at_call 178;refine(HW.out _).mono ?_;rintro e w1 ⟨rfl,hf1⟩;have hf01:Fr Nil wr w1:=Fr.trans (by repeat' first|(with_reducible first|apply G|assumption|apply O|apply U|apply V|apply z6)|(intro _;rfl)) hf1;have hz1:=HS.out w1 hf01))
    go_wp2
    exact⟨⟨(i+j) / 2+1,j,by omega,hj,by go_num,rfl,H3.out,H2.out,hf.trans hf01⟩,by simp[intOf];omega⟩
   | false =>
    have hcm:¬T0 (node,seq) (n,s)<0:=by rw[Ri];simp[hl]
    have H3:=Z (HSTEP2.out hl)
    clear hl
    go_wp2_with fail
    go_region_held3 (fun w'=>w'.cell? ⟨g,(i+j) / 2*8,none⟩=some (.int .i64 node)∧w'.cell? ⟨g,(i+j) / 2*8+1,none⟩=some (.int .i64 seq)∧w'.cell? ⟨g,(i+j) / 2*8+2,none⟩=some (.int .i64 o0)∧w'.cell? ⟨g,(i+j) / 2*8+3,none⟩=some (.int .i64 o1)∧w'.cell? ⟨g,(i+j) / 2*8+4,none⟩=some (.int .i64 o2)∧w'.cell? ⟨g,(i+j) / 2*8+5,none⟩=some (.int .i64 o3)∧w'.cell? ⟨g,(i+j) / 2*8+6,none⟩=some (.string value)∧w'.cell? ⟨g,(i+j) / 2*8+7,none⟩=some (.bool gone)∧w'.cell? ⟨N,0,none⟩=some (.int .i64 n)∧w'.cell? ⟨N,1,none⟩=some (.int .i64 s)) (first|assumption|exact HS.out _ (by repeat' first|(with_reducible first|apply G|assumption|apply O|apply U|apply V|apply z6)|(intro _;rfl)))
     (first
     | (go_at_call 178;refine(HW.out _).mono ?_;rintro e w1 ⟨rfl,hf1⟩;have hf01:Fr Nil wr w1:=Fr.trans (by repeat' first|(with_reducible first|apply G|assumption|apply O|apply U|apply V|apply z6)|(intro _;rfl)) hf1;have hz1:=HS.out w1 hf01))
    go_wp2
    exact⟨⟨i,(i+j) / 2,by omega,by omega,rfl,by go_num,H1.out,H3.out,hf.trans hf01⟩,by simp[intOf];omega⟩
  ·have he:i=j:=by omega
   subst he
   have hlow:low zu (l.map Ver.dot) (n,s)=i:=V8 zu _ _ i (by simpa using hj) (fun k hk hki=>by rw[List.getElem_map];exact h1 k (by simpa using hk) hki) (fun hk=>by rw[List.getElem_map];exact h2 i (by simpa using hk) (Nat.le_refl _))
   have HLOW:=Z hlow
   clear hlow h1 h2 hij
   by_cases hil:i<l.length
   ·obtain⟨g,rfl⟩:∃ g,a=some ⟨g,0,none⟩:=by
     obtain⟨g,cap,h,_⟩:=zi HL.out (by omega)
     simp at h;exact⟨g,h.1⟩
    have HC:Hid (∀ w',Fr Nil wr w'→∀ k,k<8→w'.cell? ⟨g,i*8+k,none⟩=l[i].cells[k]?):=fun w' f k hk=>VRow.cells (z7 (S:=Nil) HL.out ((hf0.trans hf).trans f) (fun _ _=>id)) _ hil k hk
    have HX:Hid (∀ w',Fr Nil wr w'→w'.cell? ⟨N,0,none⟩=some (.int .i64 n)∧w'.cell? ⟨N,1,none⟩=some (.int .i64 s)):=by
     intro w' f
     have hu:=((hbx.fr hf id).fr f id).cell
     exact⟨by rw[hu];rfl,by rw[hu];rfl⟩
    generalize l[i]=x at HC
    obtain⟨node,seq,o0,o1,o2,o3,value,gone⟩:=x
    have HW:=Z (VG ⟨node,seq,o0,o1,o2,o3,value,gone⟩ n s)
    simp only[Ver.cells,Ver.dot] at HC HW
    have HS:Hid (∀ w',Fr Nil wr w'→w'.cell? ⟨g,i*8,none⟩=some (.int .i64 node)∧w'.cell? ⟨g,i*8+1,none⟩=some (.int .i64 seq)∧w'.cell? ⟨g,i*8+2,none⟩=some (.int .i64 o0)∧w'.cell? ⟨g,i*8+3,none⟩=some (.int .i64 o1)∧w'.cell? ⟨g,i*8+4,none⟩=some (.int .i64 o2)∧w'.cell? ⟨g,i*8+5,none⟩=some (.int .i64 o3)∧w'.cell? ⟨g,i*8+6,none⟩=some (.string value)∧w'.cell? ⟨g,i*8+7,none⟩=some (.bool gone)∧w'.cell? ⟨N,0,none⟩=some (.int .i64 n)∧w'.cell? ⟨N,1,none⟩=some (.int .i64 s)):=by
     intro w' f
     have hc:=HC.out w' f
     have hd:=HX.out w' f
     exact⟨hc 0 (by omega),hc 1 (by omega),hc 2 (by omega),hc 3 (by omega),hc 4 (by omega),hc 5 (by omega),hc 6 (by omega),hc 7 (by omega),hd.1,hd.2⟩
    have hS:=HS.out wr (G _ _)
    have hd1:decide ((i:Int)<(l.length:Int))=true:=by simp;omega
    have hd2:(i:Int)<(l.length:Int):=by omega
    have hd3:(0:Int)≤(i:Int):=by omega
    go_wp2_with fail
    go_region_held3 (fun w'=>w'.cell? ⟨g,i*8,none⟩=some (.int .i64 node)∧w'.cell? ⟨g,i*8+1,none⟩=some (.int .i64 seq)∧w'.cell? ⟨g,i*8+2,none⟩=some (.int .i64 o0)∧w'.cell? ⟨g,i*8+3,none⟩=some (.int .i64 o1)∧w'.cell? ⟨g,i*8+4,none⟩=some (.int .i64 o2)∧w'.cell? ⟨g,i*8+5,none⟩=some (.int .i64 o3)∧w'.cell? ⟨g,i*8+6,none⟩=some (.string value)∧w'.cell? ⟨g,i*8+7,none⟩=some (.bool gone)∧w'.cell? ⟨N,0,none⟩=some (.int .i64 n)∧w'.cell? ⟨N,1,none⟩=some (.int .i64 s)) (first|assumption|exact HS.out _ (by repeat' first|(with_reducible first|apply G|assumption|apply O|apply U|apply V|apply z6)|(intro _;rfl)))
     (first
     | (go_at_call 178;refine(HW.out _).mono ?_;rintro e w1 ⟨rfl,hf1⟩;have hf01:Fr Nil wr w1:=Fr.trans (by repeat' first|(with_reducible first|apply G|assumption|apply O|apply U|apply V|apply z6)|(intro _;rfl)) hf1;have hz1:=HS.out w1 hf01))
    go_wp2
    go_ret2
    rw[HLOW.out]
    exact⟨_,rfl,(hf0.trans hf).trans hf01⟩
   ·have hd1:decide ((i:Int)<(l.length:Int))=false:=by simp;omega
    go_wp2_with fail
    go_quiet (fail)
    go_wp2
    go_ret2
    rw[HLOW.out]
    exact⟨_,rfl,Fr.drewN (hf0.trans hf) _⟩
end Go.Proofs.YtkhnggkkiefcdaaGreatDoor
