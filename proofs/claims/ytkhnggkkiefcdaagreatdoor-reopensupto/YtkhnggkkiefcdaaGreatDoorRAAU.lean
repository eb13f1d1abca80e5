/- larder: joined texts -/
import Derived.Test.YtkhnggkkiefcdaaGreatDoorRAAT
import Derived.StillTailTactics
import Derived.RangeFuncFrom
import Derived.Deep.RegionHeld3
import Derived.OrdersIn
namespace Go.Proofs.YtkhnggkkiefcdaaGreatDoor
open Go.RowKit
set_option maxRecDepth 100000
set_option maxHeartbeats 8000000
theorem WN{w0 w:World}{b bo bm nb:Nat}{L0 L:DL}{M:DM}{D S:Dir}{k:Nat}{ps:List (Nat × Nat)}{vo vm:Value}{fV:Nat→Value}{d1 s1:Dir}{c1:List Dir}(h:DRep w0 b L0 M)
  (hids:M.ids.length≤100000000000)(hfl:∀ f,f∈M.ids→(M.file f).bytes.length≤1000000000000)(C:zN w0 w bo bm nb M D S k ps vo vm fV L d1 s1 c1)
  (v:Value)(d:Dir)(hd:w0.ownsRow 0 148 2 v d.length (flat d))(hi:∀ e,e∈d→e.2∈M.ids)(hdl:d.length≤100000000000) :
  Calls Tryz.prog 99 #[v,.pointer (some ⟨bo,0,none⟩),.pointer (some ⟨bm,0,none⟩)] w fun e w' =>
   ∃ l,e=.returned l∧Pc w0 w w' bo bm nb M D S k ps L d1 s1 c1 d l:=by
 have hp:ps.length≤M.ids.length:=by
  have:=U4 (ps.map Prod.fst) M.ids C.T.n1 C.T.ids
  rw[List.length_map] at this
  exact this
 refine(QK w0 w b bo bm L0 M ps vo vm fV h C.T v d hd hi (by omega) hfl).mono ?_
 rintro e w' ⟨l,rfl,ho⟩
 exact⟨l,rfl,C.other ho⟩
structure First(w w3:World)(b bo bm nb:Nat)(L:DL)(M:DM)(l1:Value):Prop where
 ex:∃ ps vo vm fV d1,zN w w3 bo bm nb M [] [] 0 ps vo vm fV DL.new [] [] []∧Rel ps M.dir d1∧w3.ownsRow 0 148 2 l1 d1.length (flat d1)∧(∀ j,l1.ownBlock=some j→w.heap.size≤j)
 c0:w3.cell? ⟨b,0,none⟩=some L.dirV
 c1:w3.cell? ⟨b,1,none⟩=some L.safeV
structure Second(w w4:World)(b bo bm nb:Nat)(L:DL)(M:DM)(l1 l2:Value):Prop where
 ex:∃ ps vo vm fV d1 s1,zN w w4 bo bm nb M [] [] 0 ps vo vm fV DL.new [] [] []∧Rel ps M.dir d1∧Rel ps M.safe s1∧w4.ownsRow 0 148 2 l1 d1.length (flat d1)∧w4.ownsRow 0 148 2 l2 s1.length (flat s1) ∧
  (∀ j,l1.ownBlock=some j→w.heap.size≤j)∧(∀ j,l2.ownBlock=some j→w.heap.size≤j)
 c0:w4.cell? ⟨b,0,none⟩=some L.dirV
 c1:w4.cell? ⟨b,1,none⟩=some L.safeV
 n:∀ k,w4.cell? ⟨nb,k,none⟩=(M.cells DL.new)[k]?
 nf:∀ k,w4.frozen? ⟨nb,k,none⟩=false
theorem O1{w W:World}{b bo bm nb:Nat}{L:DL}{M:DM}{ps:List (Nat × Nat)}{vo vm:Value}{fV:Nat→Value}(h:DRep w b L M)
  (hids:M.ids.length≤100000000000)(hfl:∀ f,f∈M.ids→(M.file f).bytes.length≤1000000000000)(hdl:M.dir.length≤100000000000)(C:zN w W bo bm nb M [] [] 0 ps vo vm fV DL.new [] [] []) :
  Calls Tryz.prog 99 #[L.dirV,.pointer (some ⟨bo,0,none⟩),.pointer (some ⟨bm,0,none⟩)] W fun e w3 =>
   ∃ a n,e=.returned (.slice a M.dir.length n)∧First w w3 b bo bm nb L M (.slice a M.dir.length n):=by
 refine(WN h hids hfl C L.dirV M.dir h.dir h.inD hdl).mono ?_
 rintro e w3 ⟨l,rfl,o⟩
 obtain⟨ps',vo',vm',fV',d',C',_,r,ho,hn⟩:=o.ex
 obtain⟨a,n,hl⟩:=z8 ho
 rw[r.len] at hl
 subst hl
 have hb:=(h.blk.fr C'.T.fr id).cell
 simp only[DM.cells] at hb
 exact⟨a,n,rfl,⟨_,_,_,_,_,C',r,ho,hn⟩,hb 0,hb 1⟩
theorem QL{w w3 W:World}{b bo bm nb:Nat}{L:DL}{M:DM}{l1:Value}(h:DRep w b L M)
  (hids:M.ids.length≤100000000000)(hfl:∀ f,f∈M.ids→(M.file f).bytes.length≤1000000000000)(hdl:M.safe.length≤100000000000)(F:First w w3 b bo bm nb L M l1)(f:Fr Nil w3 W) :
  Calls Tryz.prog 99 #[L.safeV,.pointer (some ⟨bo,0,none⟩),.pointer (some ⟨bm,0,none⟩)] W fun e w4 =>
   ∃ a n,e=.returned (.slice a M.safe.length n)∧Second w w4 b bo bm nb L M l1 (.slice a M.safe.length n):=by
 obtain⟨ps,vo,vm,fV,d1,C,r1,ho1,hn1⟩:=F.ex
 refine(WN h hids hfl (C.keep f) L.safeV M.safe h.safe h.inS hdl).mono ?_
 rintro e w4 ⟨l,rfl,o⟩
 obtain⟨ps',vo',vm',fV',d',C',hs,r,ho,hn⟩:=o.ex
 obtain⟨a,n,hl⟩:=z8 ho
 rw[r.len] at hl
 subst hl
 have hb:=(h.blk.fr C'.T.fr id).cell
 simp only[DM.cells] at hb
 exact⟨a,n,rfl,⟨_,_,_,_,_,_,C',r1.more hs,r,o.row _ _ _ _ _ (z7 ho1 f (fun _ _=>id)) (by decide) (by decide),ho,hn1,hn⟩,hb 0,hb 1,C'.blk.cell,C'.blk.frozen⟩
theorem Second.lists{w w4:World}{b bo bm nb:Nat}{L:DL}{M:DM}{l1 l2:Value}(h:Second w w4 b bo bm nb L M l1 l2) :
  ∃ ps vo vm fV d1 s1,zN w ((w4.setCell ⟨nb,0,none⟩ l1).setCell ⟨nb,1,none⟩ l2) bo bm nb M M.dir M.safe 0 ps vo vm fV {DL.new with dirV:=l1,safeV:=l2} d1 s1 []:=by
 obtain⟨ps,vo,vm,fV,d1,s1,C,r1,r2,h1,h2,n1,n2⟩:=h.ex
 refine⟨ps,vo,vm,fV,d1,s1,C.lists ?_ ?_ h1 h2 r1 r2 n1 n2⟩
 ·exact Fr.set (S:=fun j=>j=nb) (p:=⟨nb,1,none⟩) (Fr.set (S:=fun j=>j=nb) (p:=⟨nb,0,none⟩) (G _ w4) (fun _=>rfl) l1) (fun _=>rfl) l2
 ·exact(C.blk.set 0 l1).set 1 l2
structure Change(w W w5:World)(bo bm nb:Nat)(M:DM)(k:Nat)(hk:k<M.chs.length)(L1:DL)(d1 s1:Dir)(c1:List Dir)(l:Value):Prop where
 ex:∃ ps vo vm fV d',zN w w5 bo bm nb M M.dir M.safe k ps vo vm fV L1 d1 s1 c1∧Rel ps M.chs[k] d'∧w5.ownsRow 0 148 2 l d'.length (flat d')∧(∀ j,l.ownBlock=some j→w.heap.size≤j)
 blk:∀ (g:Nat) (c:List Value) (e:TypeId),Blk W g c e→e≠168→e≠146→Blk w5 g c e
theorem QM{w w1 W:World}{b bo bm nb:Nat}{L L1:DL}{M:DM}{k:Nat}{ps:List (Nat × Nat)}{vo vm v:Value}{fV:Nat→Value}{d1 s1:Dir}{c1:List Dir}(h:DRep w b L M)
  (hids:M.ids.length≤100000000000)(hfl:∀ f,f∈M.ids→(M.file f).bytes.length≤1000000000000)(hk:k<M.chs.length)(hkl:k<L.chVs.length)(hdl:M.chs[k].length≤100000000000)
  (C:zN w w1 bo bm nb M M.dir M.safe k ps vo vm fV L1 d1 s1 c1)(hv:L.chVs[k]=v)(f:Fr Nil w1 W) :
  Calls Tryz.prog 99 #[v,.pointer (some ⟨bo,0,none⟩),.pointer (some ⟨bm,0,none⟩)] W fun e w5 =>
   ∃ a n,e=.returned (.slice a M.chs[k].length n)∧Change w W w5 bo bm nb M k hk L1 d1 s1 c1 (.slice a M.chs[k].length n):=by
 subst hv
 refine(WN h hids hfl (C.keep f) L.chVs[k] M.chs[k] (h.chs k hkl hk) (h.inC _ (List.getElem_mem hk)) hdl).mono ?_
 rintro e w5 ⟨l,rfl,o⟩
 obtain⟨ps',vo',vm',fV',d',C',_,r,ho,hn⟩:=o.ex
 obtain⟨a,n,hl⟩:=z8 ho
 rw[r.len] at hl
 subst hl
 exact⟨a,n,rfl,⟨_,_,_,_,_,C',r,ho,hn⟩,o.blk⟩
theorem Change.row{w W w5 W':World}{bo bm nb:Nat}{M:DM}{k:Nat}{hk:k<M.chs.length}{L1:DL}{d1 s1:Dir}{c1:List Dir}{l v:Value}(X:Change w W w5 bo bm nb M k hk L1 d1 s1 c1 l)(hv:L1.chV=v)(f:Fr Nil w5 W') :
  W'.ownsRow 0 145 1 v k L1.chVs:=by
 subst hv
 obtain⟨_,_,_,_,_,C,_⟩:=X.ex
 exact z7 C.ch f (fun _ _=>id)
theorem Change.cell{w W w5:World}{bo bm nb:Nat}{M:DM}{k:Nat}{hk:k<M.chs.length}{L1:DL}{d1 s1:Dir}{c1:List Dir}{l v:Value}(X:Change w W w5 bo bm nb M k hk L1 d1 s1 c1 l)(hv:L1.chV=v) :
  w5.cell? ⟨nb,2,none⟩=some v:=by
 subst hv
 obtain⟨_,_,_,_,_,C,_⟩:=X.ex
 exact C.blk.cell 2
theorem Change.lt{w W w5:World}{bo bm nb:Nat}{M:DM}{k:Nat}{hk:k<M.chs.length}{L1:DL}{d1 s1:Dir}{c1:List Dir}{l:Value}(X:Change w W w5 bo bm nb M k hk L1 d1 s1 c1 l):nb<w5.heap.size:=by
 obtain⟨_,_,_,_,_,C,_⟩:=X.ex
 exact C.blk.lt
theorem Change.push{w W w5 W' w6:World}{bo bm nb g:Nat}{M:DM}{k:Nat}{hk:k<M.chs.length}{L1:DL}{d1 s1:Dir}{c1:List Dir}{l v v6:Value}{c:List Value}(X:Change w W w5 bo bm nb M k hk L1 d1 s1 c1 l)(hv:L1.chV=v)(f:Fr Nil w5 W')
  (ha:App W' v 145 1 (k+1) (L1.chVs++[l]) v6 w6)(hb:Blk w5 g c 145)(hg:∀ j,L1.chV.ownBlock=some j→j<g) :
  (∃ ps vo vm fV L2 d2 s2 c2,zN w (w6.setCell ⟨nb,2,none⟩ v6) bo bm nb M M.dir M.safe (k+1) ps vo vm fV L2 d2 s2 c2)∧(∀ i,w6.cell? ⟨nb,i,none⟩=(M.cells L1)[i]?)∧(∀ i,w6.frozen? ⟨nb,i,none⟩=false) ∧
    (∀ i,w6.cell? ⟨g,i,none⟩=c[i]?):=by
 subst hv
 obtain⟨ps,vo,vm,fV,d',C,r,ho,hn⟩:=X.ex
 have hb6:Blk w6 nb (M.cells L1) 143:=(C.blk.fr f id).fr ha.fr (za (z7 C.ch f (fun _ _=>id)) (C.blk.fr f id) (by decide))
 have hg6:Blk w6 g c 145:=(hb.fr f id).fr ha.fr (fun e=>by have:=hg g e;omega)
 exact⟨⟨_,_,_,_,_,_,_,_,C.push hk f ha ho r hn⟩,hb6.cell,hb6.frozen,hg6.cell⟩
theorem QN(w:World)(M:DM) :
  zN w (((w.alloc (.cells (M.cells DL.new).toArray 143)).alloc (.cells #[.slice none 0 0] 168)).alloc (.cells #[.slice none 0 0] 168)).drew (w.heap.size+1) (w.heap.size+1+1) w.heap.size M [] [] 0 [] (.slice none 0 0) (.slice none 0 0) DL.new.fV DL.new [] [] []:=by
 have hf:Fr Nil w (((w.alloc (.cells (M.cells DL.new).toArray 143)).alloc (.cells #[.slice none 0 0] 168)).alloc (.cells #[.slice none 0 0] 168)).drew:=(by repeat' first|exact G _ _|(with_reducible assumption)|refine Fr.drewN ?_ _|refine Fr.drew ?_|refine Fr.alloc ?_ _|refine Fr.set ?_ ?_ _|(intro _;rfl))
 have e1:(w.alloc (.cells (M.cells DL.new).toArray 143)).heap.size=w.heap.size+1:=by simp
 have e2:((w.alloc (.cells (M.cells DL.new).toArray 143)).alloc (.cells #[.slice none 0 0] 168)).heap.size=w.heap.size+1+1:=by simp
 have h1:=((Blk.new (w.alloc (.cells (M.cells DL.new).toArray 143)) [.slice none 0 0] 168).alloc (.cells #[.slice none 0 0] 168)).drew
 have h2:=(Blk.new ((w.alloc (.cells (M.cells DL.new).toArray 143)).alloc (.cells #[.slice none 0 0] 168)) [.slice none 0 0] 168).drew
 have h3:=(((Blk.new w (M.cells DL.new) 143).alloc (.cells #[.slice none 0 0] 168)).alloc (.cells #[.slice none 0 0] 168)).drew
 rw[e1] at h1
 rw[e2] at h2
 exact zN.start M (Twin.start M h1 h2 (by omega) (by omega) (by omega) hf _) h3 (Nat.le_refl _)
set_option maxRecDepth 100000 in
theorem O2(w:World)(b:Nat)(L:DL)(M:DM)(h:DRep w b L M)(hids:M.ids.length≤100000000000)(hdl:∀ d,d∈M.dir::M.safe::M.chs→d.length≤100000000000)(hcn:M.chs.length≤100000000000)
  (hfl:∀ f,f∈M.ids→(M.file f).bytes.length≤1000000000000) :
  Calls Tryz.prog 54 #[.pointer (some ⟨b,0,none⟩)] w (RS w M):=by
 have hc:=h.blk.cell
 simp only[DM.cells] at hc
 obtain⟨ca,cc,hcv⟩:=z8 h.ch
 have hlt:=h.blk.lt
 have hmf:∀ (fn:Fn) (first cap:Array Value) (w:World),(Instr.makeFunc fn first cap).run Tryz.prog w=.ok (.func fn first cap) w:=fun _ _ _ _=>rfl
 have hne1:¬b=w.heap.size:=by omega
 have hne2:¬w.heap.size=b:=by omega
 have hC0:=QN w M
 simp only[DM.cells,DL.new] at hC0
 have HC0:=Z hC0
 have HH:=Z h
 have HCV:=Z hcv
 have HDL:=Z hdl
 clear h hcv hdl hC0
 go_enter Tryz.func54,Tryz.ntmps54
 go_wp2
 refine wp_region_still_tail 33 (by kernel_rfl) (by kernel_rfl) ?_
 simp only[List.take_succ_cons,List.take_zero,List.drop_succ_cons,List.drop_zero]
 iterate 33 still_step
 refine wpStill_nil ?_
 go_wp2
 obtain⟨W2,hW2⟩:∃ W2,(((w.alloc (.cells #[.slice none 0 0,.slice none 0 0,.slice none 0 0,.int .i64 M.room,.int .i64 M.calls,.int .i64 M.cut,.int .i64 M.fail,.int .i64 M.part,.int .i64 M.refused,.int .i64 M.fulls,.bool M.dead] 143)).alloc (.cells #[.slice none 0 0] 168)).alloc (.cells #[.slice none 0 0] 168)).drew=W2:=⟨_,rfl⟩
 have hC2:=HC0.out
 rw[hW2] at hC2 ⊢
 have hb2:=(HH.out.blk.fr hC2.T.fr id).cell
 simp only[DM.cells] at hb2
 have hb20:=hb2 0
 have hb21:=hb2 1
 simp at hb20 hb21
 have HC2:=Z hC2
 clear hC2 hW2 hc HC0 hb2
 go_region_held3 (fun w'=>w'.cell? ⟨b,0,none⟩=some L.dirV∧w'.cell? ⟨b,1,none⟩=some L.safeV) (first|go_keep|exact⟨‹_›,‹_›⟩)
  (first
  | (go_at_call 99;refine(QL HH.out hids hfl (HDL.out _ (List.mem_cons_of_mem _ (List.mem_cons_self ..))) HF.out (by repeat' first|(with_reducible first|apply G|assumption|apply O|apply U|apply V|apply z6)|(intro _;rfl))).mono ?_;rintro e w4 ⟨a2,n2,rfl,hS⟩;have h40:=hS.c0;have h41:=hS.c1;have hn4:=hS.n;have hf4:=hS.nf;simp only[DM.cells,DL.new] at hn4;have HS:=Z hS;clear hS)
  | (go_at_call 99;refine(O1 HH.out hids hfl (HDL.out _ (List.mem_cons_self ..)) (HC2.out.keep (by repeat' first|(with_reducible first|apply G|assumption|apply O|apply U|apply V|apply z6)|(intro _;rfl)))).mono ?_;rintro e w3 ⟨a1,n1,rfl,hF⟩;have h30:=hF.c0;have h31:=hF.c1;have HF:=Z hF;clear hF))
 have hL:=HS.out.lists
 obtain⟨W5,hW5⟩:∃ W5,((w4.setCell ⟨w.heap.size,0,none⟩ (.slice a1 M.dir.length n1)).setCell ⟨w.heap.size,1,none⟩ (.slice a2 M.safe.length n2))=W5:=⟨_,rfl⟩
 rw[hW5] at hL ⊢
 obtain⟨ps,vo,vm,fV,d1,s1,C⟩:=hL
 have hb5:=(HH.out.blk.fr C.T.fr id).cell
 simp only[DM.cells] at hb5
 have hb52:=hb5 2
 simp at hb52
 rw[HCV.out] at hb52
 have HC5:=Z C
 clear C hb5 hW5 HS HF HC2 hn4 hf4 hb20 hb21
 go_wp2_with fail
 go_loopw [67] (fun c w'=>∃ k:Nat,k≤M.chs.length∧c=.int .i64 k∧∃ ps vo vm fV L1 d1 s1 c1,zN w w' (w.heap.size+1) (w.heap.size+1+1) w.heap.size M M.dir M.safe k ps vo vm fV L1 d1 s1 c1) (fun c _=>M.chs.length-(intOf c).toNat)
 case atStart=>exact⟨0,Nat.zero_le _,rfl,_,_,_,_,_,_,_,_,HC5.out⟩
 case round =>
  obtain⟨w1,rfl⟩:∃ x,x=wr:=⟨wr,rfl⟩
  obtain⟨k,hk,rfl,ps,vo,vm,fV,L1,d1,s1,c1,C⟩:=hrel
  have HC:=Z C
  clear C hb52
  by_cases hlk:k<M.chs.length
  ·obtain⟨cg,hcg⟩:∃ g,ca=some ⟨g,0,none⟩:=by
    obtain⟨g,c',h',_⟩:=zi HH.out.ch (by omega)
    rw[HCV.out] at h';simp at h';exact⟨g,h'.1⟩
   subst hcg
   have hkl:k<L.chVs.length:=by rw[HH.out.chl];exact hlk
   obtain⟨ea,ec,hev⟩:=z8 (HH.out.chs k hkl hlk)
   have hck:w1.cell? ⟨cg,k,none⟩=some (.slice ea M.chs[k].length ec):=by
    have:=z7 HH.out.ch HC.out.T.fr (fun _ _=>id)
    rw[HCV.out] at this
    rw[← hev]
    exact own_cell? this k _ (by simp[hkl])
   have hdk:=HDL.out M.chs[k] (by simp)
   obtain⟨na,nc,hnv⟩:=z8 HC.out.ch
   have HNV:=Z hnv
   have HEV:=Z hev
   have HNC:Hid (∀ W',Fr Nil w1 W'→W'.cell? ⟨w.heap.size,2,none⟩=some (.slice na k nc)):=fun W' hf=>by
    have:=(HC.out.blk.fr hf id).cell 2
    simp[DM.cells] at this
    rw[HNV.out] at this
    exact this
   clear hnv hev
   have hq0:=HC.out.blk.lt
   have hq1:¬w1.heap.size=w.heap.size:=by omega
   have hq2:¬w.heap.size=w1.heap.size:=by omega
   have HG:Hid (∀ j,L1.chV.ownBlock=some j→j<w1.heap.size):=fun j hj=>zA HC.out.ch hj
   go_wp2_with fail
   have hnc1:=HNC.out _ (Fr.alloc (G _ _) (.cells #[.slice ea M.chs[k].length ec] 145))
   have hce1:=(Blk.new w1 [.slice ea M.chs[k].length ec] 145).cell 0
   simp at hce1
   go_region_law
    (first
    | (refine Z3 (by rfl) _ _ _ _ (by rfl) _ _ (by rfl) (by rfl) (zo 141 _ 145 1 24 Tryz.underlying141 VA (by decide) _ _ _ (HX.out.row HNV.out (by repeat' first|(with_reducible first|apply G|assumption|apply O|apply U|apply V|apply z6)|(intro _;rfl)))
        ⟨w5.heap.size,0,none⟩ 1 1 [.slice a5 M.chs[k].length n5] rfl (Xa _ _ _ _ (by simp)) (by intro u hu;simp at hu;subst hu;rfl) (by unfold maxLen;omega) (by omega)) ?_;intro v6 w6 ha;obtain⟨a6,c6,hv6⟩:=z8 ha.own;subst hv6
       obtain⟨hC6,hn6,hf6,he6⟩:=HX.out.push HNV.out (by repeat' first|(with_reducible first|apply G|assumption|apply O|apply U|apply V|apply z6)|(intro _;rfl)) ha HBX.out HG.out
       have he60:=he6 0
       simp at he60
       simp only[DM.cells] at hn6
       have HC6:=Z hC6
       clear he6 ha hC6)
    | (go_simp;go_at_call 99;refine(QM HH.out hids hfl hlk hkl hdk HC.out HEV.out (by repeat' first|(with_reducible first|apply G|assumption|apply O|apply U|apply V|apply z6)|(intro _;rfl))).mono ?_;rintro e w5 ⟨a5,n5,rfl,hX⟩
       have hb5:=hX.blk _ _ _ ((Blk.new w1 [.slice ea M.chs[k].length ec] 145).fr (S:=Nil) (by repeat' first|(with_reducible first|apply G|assumption|apply O|apply U|apply V|apply z6)|(intro _;rfl)) id) (by decide) (by decide)
       have h50:=hb5.cell 0
       simp at h50
       have hn5:=hX.cell HNV.out
       have hl5:w.heap.size<w5.heap.size:=hX.lt
       have HX:=Z hX
       have HBX:=Z hb5
       clear hX hb5))
   all_goals
    (clear hn6 hf6 he60 hn5 h50 hce1 hnc1
     go_wp2
     exact⟨⟨k+1,by omega,by go_num,HC6.out⟩,by simp[intOf];omega⟩)
  ·have hkn:k=M.chs.length:=by omega
   subst hkn
   go_wp2
   go_ret
   exact HC.out.said HH.out.le
structure DInv(T:Nat)(M:DM)(t:Nat):Prop where
 calm:Calm M
 calls:M.calls≤4*t
 room:2000*(T:Int)≤M.room∧M.room≤1152921504606846976∧T≤100000000
 part:M.part=0
 tot:M.tot≤2000*t
 chs:M.chs.length≤t
 dir:M.dir.length≤t
 ids:∀ g∈M.ids,(M.file g).bytes.length≤2000*t
 inD:∀ e∈M.dir,e.2∈M.ids
 once:(M.dir.map (·.2)).Nodup
 idn:M.ids.length≤t
 dirs:∀ d∈M.safe::M.chs,d.length≤t
theorem zz.disk{T:Nat}{J:JM}{M:DM}{t:Nat}(h:zz T J M t):DInv T M t:=⟨h.calm,h.calls,h.room,h.part,h.tot,h.chs,h.dir,h.ids,h.inD,h.once,h.idn,h.dirs⟩
theorem DInv.log{T:Nat}{M:DM}{t:Nat}(h:DInv T M t){ss:List Seg}(hl:Lies M ss)(limit:Nat)(ds:Bool):zz T (JM.at limit ss ds) M t where
 calm:=h.calm
 calls:=h.calls
 room:=h.room
 part:=h.part
 last:=by rw[JM.at_last,← hl.length];exact h.dir
 size:=by
  rcases List.eq_nil_or_concat ss with rfl|⟨r,s,rfl⟩
  ·exact Nat.zero_le _
  ·rw[List.concat_eq_append] at hl ⊢
   rw[JM.at_snoc]
   obtain⟨d,f,hd,hb,hk,_,_⟩:=hl.last
   have hf:f∈M.ids:=h.inD (ze zk (r.length+1),f) (by rw[hd];simp)
   have:=h.ids f hf
   rw[hb] at this
   exact this
 names:=fun e he=>by
  obtain⟨i,hi,hn⟩:=hl.mem he
  exact⟨i+1,by rw[JM.at_last];omega,hn⟩
 cur:=fun hne=>by
  rcases List.eq_nil_or_concat ss with rfl|⟨r,s,rfl⟩
  ·exact absurd rfl hne
  ·rw[List.concat_eq_append] at hl ⊢
   rw[JM.at_snoc]
   obtain⟨d,f,hd,hb,hk,_,_⟩:=hl.last
   exact⟨f,hk,by rw[hb]⟩
 tot:=h.tot
 chs:=h.chs
 dir:=h.dir
 ids:=h.ids
 inD:=h.inD
 once:=h.once
 idn:=h.idn
 dirs:=h.dirs
theorem DInv.more{T:Nat}{M:DM}{t u:Nat}(h:DInv T M t)(hu:t≤u):DInv T M u where
 calm:=h.calm
 calls:=by have:=h.calls;omega
 room:=h.room
 part:=h.part
 tot:=by have:=h.tot;omega
 chs:=Nat.le_trans h.chs hu
 dir:=Nat.le_trans h.dir hu
 ids:=fun g hg=>by have:=h.ids g hg;omega
 inD:=h.inD
 once:=h.once
 idn:=Nat.le_trans h.idn hu
 dirs:=fun d hd=>Nat.le_trans (h.dirs d hd) hu
structure Pairs(M:DM)(ps:List (Nat × Nat)):Prop where
 n1:(ps.map Prod.fst).Nodup
 n2:(ps.map Prod.snd).Nodup
 old:∀ p∈ps,p.1∈M.ids
 dir:∀ e∈M.dir,∃ g,(e.2,g)∈ps
theorem WO{ps:List (Nat × Nat)}{M:DM}(h:Pairs M ps){e:ByteArray × Nat}(he:e∈M.dir):(e.2,second ps e.2)∈ps:=by
 obtain⟨g,hg⟩:=h.dir e he
 rw[Vo h.n1 hg]
 exact hg
theorem YS{ps:List (Nat × Nat)}{M:DM}(h:Pairs M ps){e:ByteArray × Nat}(he:e∈M.dir):first ps (second ps e.2)=e.2:=WK h.n2 (WO h he)
theorem S4{ps:List (Nat × Nat)}{M:DM}(h:Pairs M ps)(ho:(M.dir.map (·.2)).Nodup):((M.twin ps).dir.map (·.2)).Nodup:=by
 show((Zd ps M.dir).map (·.2)).Nodup
 unfold Zd
 rw[List.map_map]
 refine List.pairwise_map.2 ?_
 refine(List.Pairwise.imp_of_mem ?_ (List.pairwise_map.1 ho))
 intro a b ha hb hne e
 have e2:second ps a.2=second ps b.2:=e
 exact hne (by rw[← YS h ha,← YS h hb,e2])
theorem Lies.twin{M:DM}{ss:List Seg}(h:Lies M ss){ps:List (Nat × Nat)}(hp:Pairs M ps):Lies (M.twin ps) ss where
 view:=by
  rw[← h.view]
  show(Zd ps M.dir).map (fun e=>(e.1,(M.file (first ps e.2)).bytes))=_
  unfold Zd DM.view
  rw[List.map_map]
  refine List.map_congr_left fun e he=>?_
  show(e.1,(M.file (first ps (second ps e.2))).bytes)=_
  rw[YS hp he]
 once:=S4 hp h.once
 inD:=fun e he=>by
  obtain⟨x,hx,rfl⟩:=List.mem_map.1 he
  exact List.mem_map.2 ⟨_,WO hp hx,rfl⟩
theorem DInv.twin{T:Nat}{M:DM}{t:Nat}(h:DInv T M t){ps:List (Nat × Nat)}(hp:Pairs M ps):DInv T (M.twin ps) t where
 calm:=⟨h.calm.dead,h.calm.cut,h.calm.fail,h.calm.calls⟩
 calls:=h.calls
 room:=h.room
 part:=h.part
 tot:=by
  have e:(M.twin ps).tot=M.tot:=by
   show((Zd ps M.dir).map fun e=>(M.file (first ps e.2)).bytes.length).sum=_
   unfold Zd DM.tot
   rw[List.map_map]
   refine congrArg List.sum (List.map_congr_left fun e he=>?_)
   show(M.file (first ps (second ps e.2))).bytes.length=_
   rw[YS hp he]
  rw[e]
  exact h.tot
 chs:=by show(M.chs.map _).length≤t;rw[List.length_map];exact h.chs
 dir:=by show(Zd ps M.dir).length≤t;unfold Zd;rw[List.length_map];exact h.dir
 ids:=fun g hg=>by
  obtain⟨p,hpp,rfl⟩:=List.mem_map.1 hg
  show(M.file (first ps p.2)).bytes.length≤_
  rw[WK hp.n2 (f:=p.1) hpp]
  exact h.ids _ (hp.old p hpp)
 inD:=fun e he=>by
  obtain⟨x,hx,rfl⟩:=List.mem_map.1 he
  exact List.mem_map.2 ⟨_,WO hp hx,rfl⟩
 once:=S4 hp h.once
 idn:=by
  show(ps.map Prod.snd).length≤t
  have:=U4 (ps.map Prod.fst) M.ids hp.n1 (fun x hx=>by obtain⟨p,hpp,rfl⟩:=List.mem_map.1 hx;exact hp.old p hpp)
  rw[List.length_map] at this ⊢
  exact Nat.le_trans this h.idn
 dirs:=fun d hd=>by
  have hd':d∈(M.safe::M.chs).map (Zd ps):=hd
  obtain⟨x,hx,rfl⟩:=List.mem_map.1 hd'
  unfold Zd
  rw[List.length_map]
  exact h.dirs x hx
theorem DInv.off{T:Nat}{M:DM}{t:Nat}(h:DInv T M t):DInv T ((M.setCut 0).setFail 0 0) t :=
 ⟨⟨h.calm.dead,rfl,rfl,h.calm.calls⟩,h.calls,h.room,rfl,h.tot,h.chs,h.dir,h.ids,h.inD,h.once,h.idn,h.dirs⟩
theorem Lies.off{M:DM}{ss:List Seg}(h:Lies M ss):Lies ((M.setCut 0).setFail 0 0) ss:=h.same rfl (fun _=>rfl) rfl
theorem Vp{T:Nat}{w:World}{b:Nat}{L:DL}{M:DM}{ss:List Seg}{t:Nat}(h:DRep w b L M)(hD:DInv T M t)(ht:t≤T)(hl:Lies M ss) :
  Calls Tryz.prog 54 #[.pointer (some ⟨b,0,none⟩)] w fun e w'=>∃ b' L' M',e=.returned (.pointer (some ⟨b',0,none⟩))∧Own w w' b' L' M'∧DInv T M' t∧Lies M' ss∧M'.refused=M.refused∧M'.fulls=M.fulls∧M'.calls=M.calls:=by
 have hT:=hD.room
 have hidn:=hD.idn
 have hchs:=hD.chs
 refine(O2 w b L M h (by omega) (fun d hd=>?_) (by omega) (fun f hf=>by have:=hD.ids f hf;omega)).mono ?_
 ·rcases List.mem_cons.1 hd with e|e
  ·rw[e];have:=hD.dir;omega
  ·have:=hD.dirs d e;omega
 ·rintro e w' ⟨b',L',ps,he,ho,h1,h2,h3,h4⟩
  have hp:Pairs M ps:=⟨h1,h2,fun p hp=>(h3 p hp).1,fun e he=>h4 e (.inl he)⟩
  exact⟨b',L',M.twin ps,he,ho,hD.twin hp,hl.twin hp,rfl,rfl,rfl⟩
def NM.opened(nd seg syn:Nat)(ss:List Seg):NM:={self:=nd,given:=(Z4 ss).leased,every:=syn,writes:=0,readOnly:=false,J:=JM.at seg ss false,S:=Z4 ss}
structure Rest(T:Nat)(W:WM)(M:DM)(m:LM)(ss:List Seg)(t:Nat):Prop where
 disk:DInv T M t
 lies:Lies M ss
 ok:YR ss
 few:∀ i,(((zl ss).take i).foldl SM.enter SM.nil).hints.length≤32
 held:Y3 (Z4 ss)
 keys:m.keys=(Z4 ss).keys
 hints:m.hints=(Z4 ss).hints
 most:W.most≤(Z4 ss).leased
 lease:(Z4 ss).leased≤16*W.calls
 calls:W.calls≤t
 nk:(Z4 ss).keys.length≤t
 last:W.st[W.st.length-1]?=some m
 len:W.st.length≤t+1
 next:W.next≤t
 base:W.base≤100000
 bvs:W.bk.vs.length≤4*t
 bvm:W.bk.vm.length≤4*t
 bns:W.bk.ns.length≤4*t
 bnm:W.bk.nm.length≤4*t
 bhs:W.bk.hs.length≤4*t
 bhm:W.bk.hm.length≤4*t
 node:W.node=(m.node:Int)
theorem NInv.rest{T:Nat}{W:WM}{N:NM}{M:DM}{m:LM}{t:Nat}(h:NInv T W N M m t):∃ ss,Rest T W M m ss t:=by
 obtain⟨ss,k⟩:=h.keeps
 have e:=k.held
 exact⟨ss,h.log.disk,k.lies,k.ok,k.few,e▸h.held,e▸h.keys,e▸h.hints,Nat.le_trans h.most (e▸h.given),e▸h.lease,h.calls,e▸h.nk,h.last,h.len,h.next,h.base,h.bvs,h.bvm,h.bns,h.bnm,h.bhs,h.bhm,h.node⟩
theorem Rest.opened{T:Nat}{W W':WM}{M:DM}{m:LM}{ss:List Seg}{t u:Nat}(h:Rest T W M m ss t)(hu:t+1≤u)(nd seg syn:Nat)(hn:W.node=(nd:Int))(h0:W'.node=W.node)(h1:W'.broken=false)(h2:W'.most=W.most)(h3:W'.calls=W.calls+1)(h4:W'.writes=0)(h5:W'.st[W'.st.length-1]?=some m)(h5':W'.st.length≤W.st.length)(h6:W'.next=W.next)(h7:W'.base=W.base)(h8:W'.bk=W.bk):NInv T W' (NM.opened nd seg syn ss) M m u where
 log:=(h.disk.log h.lies seg false).more (by omega)
 held:=h.held
 keys:=h.keys
 hints:=h.hints
 self:=by have:=h.node;rw[hn] at this;show m.node=nd;omega
 ro:=rfl
 broken:=h1
 most:=by rw[h2];exact h.most
 given:=Nat.le_refl _
 lease:=by have:=h.lease;rw[h3];show(Z4 ss).leased≤_;omega
 keeps:=⟨ss,h.lies,by rw[h.disk.part];decide,h.ok,rfl,h.few,fun _=>by show JM.at seg ss false=_;rw[show(NM.opened nd seg syn ss).J=JM.at seg ss false from rfl,JM.at_limit,JM.at_ds]⟩
 calls:=by rw[h3];have:=h.calls;omega
 nw:=Nat.zero_le _
 ww:=by rw[h4];exact Nat.zero_le _
 nk:=by have:=h.nk;show(Z4 ss).keys.length≤_;omega
 last:=h5
 len:=by have:=h.len;omega
 next:=by rw[h6];have:=h.next;omega
 base:=by rw[h7];exact h.base
 bvs:=by rw[h8];have:=h.bvs;omega
 bvm:=by rw[h8];have:=h.bvm;omega
 bns:=by rw[h8];have:=h.bns;omega
 bnm:=by rw[h8];have:=h.bnm;omega
 bhs:=by rw[h8];have:=h.bhs;omega
 bhm:=by rw[h8];have:=h.bhm;omega
 node:=by rw[h0];exact h.node
theorem Nj(fs:List Fact):fs.length≤(Za fs).length:=by
 induction fs with
 | nil=>exact Nat.zero_le _
 | cons x fs ih =>
  have:=U2 (zx x)
  simp only[Za,List.map_cons,List.flatten_cons,List.length_append,List.length_cons] at ih ⊢
  omega
theorem O3(S:SM)(x:Fact):(S.enter x).keys.length≤S.keys.length+1:=by
 rcases x with n|x|x|x
 ·exact Nat.le_succ _
 ·exact XY S x.1 x.2
 ·exact Nat.le_succ _
 ·exact Nat.le_succ _
theorem QO(fs:List Fact):∀ S:SM,(fs.foldl SM.enter S).keys.length≤S.keys.length+fs.length:=by
 induction fs with
 | nil=>intro S;exact Nat.le_refl _
 | cons x fs ih =>
  intro S
  have h1:=ih (S.enter x)
  have h2:=O3 S x
  rw[List.foldl_cons,List.length_cons]
  omega
theorem Mt(M:DM):M.tot=(M.view.map fun e=>e.2.length).sum:=by
 unfold DM.tot DM.view
 rw[List.map_map]
 rfl
theorem Mu(k:Nat)(ss:List Seg):(zl ss).length≤((ZV k ss).map fun e=>e.2.length).sum:=by
 induction ss generalizing k with
 | nil=>exact Nat.zero_le _
 | cons s ss ih =>
  have h1:=ih (k+1)
  have h2:=Nj s.1
  simp only[zl,List.map_cons,List.flatten_cons,List.length_append,ZV,List.sum_cons,ZM] at h1 ⊢
  omega
theorem Rest.small{T:Nat}{M:DM}{ss:List Seg}{t:Nat}(hd:DInv T M t)(hl:Lies M ss)(ht:t≤T)(hf:∀ i,(((zl ss).take i).foldl SM.enter SM.nil).hints.length≤32) :
  ∀ i,(((zl ss).take i).foldl SM.enter SM.nil).keys.length<1099511627776∧(((zl ss).take i).foldl SM.enter SM.nil).hints.length<1000000:=fun i=>by
 have h1:=QO ((zl ss).take i) SM.nil
 have h2:=Mu 0 ss
 rw[← hl.view,← Mt] at h2
 have h3:=hd.tot
 have h4:=hd.room
 have h5:=hf i
 rw[List.length_take] at h1
 have h6:SM.nil.keys.length=0:=rfl
 omega
theorem NInv.sync{T:Nat}{W:WM}{N:NM}{M:DM}{m:LM}{t:Nat}(h:NInv T W N M m t)(hT:t≤T) :
  (N.syncCall M).1=0∧(N.syncCall M).2.2.refused=M.refused∧NInv T {W with st:=W.st.drop (W.st.length-1)} (N.syncCall M).2.1 (N.syncCall M).2.2 m (t+1):=by
 obtain⟨ss,hk⟩:=h.keeps
 obtain⟨hk1,_⟩:=(hk.mono (fun _=>trivial)).syncCall
 obtain⟨J',M',e,hl,hlim,_,hr,_,_⟩:=h.log.syncAll hT
 have hs:N.syncCall M=(0,{N with J:=J'}.ans none,M'):=by
  unfold NM.syncCall
  rw[if_neg (by rw[h.ro];decide)]
  unfold NM.sync
  rw[e]
  rfl
 have ha:({N with J:=J'}:NM).ans none={N with J:=J'}:=by
  unfold NM.ans
  have:=h.ro
  cases N
  simp only at this
  subst this
  rfl
 rw[hs,ha] at hk1 ⊢
 refine⟨rfl,hr,{h with log:=hl,keeps:=⟨ss,hk1.mono (fun _=>h.ro)⟩,calls:=Nat.le_succ_of_le h.calls,nw:=Nat.le_succ_of_le h.nw,ww:=Nat.le_succ_of_le h.ww,nk:=Nat.le_succ_of_le h.nk,last:=?_,len:=?_,next:=Nat.le_succ_of_le h.next,bvs:=Nat.le_trans h.bvs (by omega),bvm:=Nat.le_trans h.bvm (by omega),bns:=Nat.le_trans h.bns (by omega),bnm:=Nat.le_trans h.bnm (by omega),bhs:=Nat.le_trans h.bhs (by omega),bhm:=Nat.le_trans h.bhm (by omega)}⟩
 ·have hl:=h.last
  have hlt:W.st.length-1<W.st.length:=by
   have:=(List.getElem?_eq_some_iff.1 hl).1
   exact this
  simp only[List.length_drop,List.getElem?_drop]
  rw[show W.st.length-1+(W.st.length-(W.st.length-1)-1)=W.st.length-1 by omega]
  exact hl
 ·have:=h.len
  simp only[List.length_drop]
  omega
theorem Rest.counted{T:Nat}{W:WM}{M M':DM}{m:LM}{ss:List Seg}{t:Nat}(h:Rest T W M m ss t)(hd:DInv T M' t)(hl:Lies M' ss):Rest T {W with calls:=W.calls+1} M' m ss (t+1) :=
 ⟨hd.more (Nat.le_succ _),hl,h.ok,h.few,h.held,h.keys,h.hints,h.most,Nat.le_trans h.lease (Nat.mul_le_mul_left 16 (Nat.le_succ _)),Nat.succ_le_succ h.calls,Nat.le_succ_of_le h.nk,h.last,Nat.le_succ_of_le h.len,Nat.le_succ_of_le h.next,h.base,Nat.le_trans h.bvs (by omega),Nat.le_trans h.bvm (by omega),Nat.le_trans h.bns (by omega),Nat.le_trans h.bnm (by omega),Nat.le_trans h.bhs (by omega),Nat.le_trans h.bhm (by omega),h.node⟩
theorem Rest.more{T:Nat}{W:WM}{M:DM}{m:LM}{ss:List Seg}{t u:Nat}(h:Rest T W M m ss t)(hu:t≤u):Rest T W M m ss u :=
 ⟨h.disk.more hu,h.lies,h.ok,h.few,h.held,h.keys,h.hints,h.most,h.lease,Nat.le_trans h.calls hu,Nat.le_trans h.nk hu,h.last,by have:=h.len;omega,Nat.le_trans h.next hu,h.base,Nat.le_trans h.bvs (by omega),Nat.le_trans h.bvm (by omega),Nat.le_trans h.bns (by omega),Nat.le_trans h.bnm (by omega),Nat.le_trans h.bhs (by omega),Nat.le_trans h.bhm (by omega),h.node⟩
theorem Rest.fresh{T:Nat}{M:DM}(h:Fresh T M)(node room seg syn:Int)(base:Nat)(hb:base≤100000):Rest T (WM.begins node room seg syn base) M ⟨node,[],[]⟩ [] 0:=by
 have hi:=NInv.begins h node.toNat 0 0 room seg syn base hb
 exact⟨hi.log.disk,⟨by unfold DM.view;rw[h.dir];rfl,by rw[h.dir];exact List.nodup_nil,fun e he=>by rw[h.dir] at he;cases he⟩,(fun s hs=>by cases hs),(fun i=>by simp[zl,SM.nil]),hi.held,rfl,rfl,Nat.le_refl _,Nat.zero_le _,Nat.le_refl _,Nat.le_refl _,rfl,Nat.le_refl _,Nat.le_refl _,hb,Nat.le_refl _,Nat.le_refl _,Nat.le_refl _,Nat.le_refl _,Nat.le_refl _,Nat.le_refl _,rfl⟩
end Go.Proofs.YtkhnggkkiefcdaaGreatDoor
namespace Go.Proofs.YtkhnggkkiefcdaaGreatDoor
open Go.RowKit Go.Shelf
set_option maxRecDepth 100000
set_option maxHeartbeats 8000000
attribute [local go_sem] Oper.semAt_some
theorem Ws{F:Fence}{n:Nat}{P:Program}{g:Operand}{ps:Array Tmp}{assign body:Code}{Q:Exit→Act→World→Prop}{a:Act}{w:World}
  (hro:F.round=none)(h1:1≤n){gf:Nat}{lb:Array Value}(hg:a.eval g=.func (.func gf) #[] lb)(hFg:F.fn gf)(eg:∀ args w,(callFunc gf args).run P w=.ok (.enter gf args) w)
  (N:Nat)(encs:Nat→Array Value)(hps:∀ i,(encs i).size=ps.size)(I:Nat→World→Prop)(hI:OwnFrom w.heap.size I)(h0:I 0 w)
  (hseq:∀ (l:Nat)(J:Nat→World→Prop)(W:World),Below w.heap.size w W→AbidesFrom W.heap.size J→(∀ i W1,J i W1→I i W1) →
    (∀ i W1,i<N→J i W1→YieldAt F (n-1-1) P l (encs i) W1 fun e W'=>e=.returned (.bool true)∧J (i+1) W')→J 0 W →
    CallsIn F (n-1) P gf (#[.func (.yield l) #[] #[]]++lb) W fun e W'=>(∃ v,e=.returned v)∧J N W')
  (a1:Nat→Act)
  (hassign:∀ (l i:Nat)(W:World)(K:Act→World→Prop),K (a1 i) W →
    assign.wpIn (F.inRound l) (n-1-1) P (Exit.then K (fun _ _ _=>False)) {tmps:=(ps.zip (encs i)).foldl (fun t (p,v)=>t.setIfInBounds p v) a.tmps,defers:=[]} W)
  (hbody:∀ (l i:Nat)(W:World),i<N→I i W→body.wpIn (F.inRound l) (n-1-1) P (ownPostK (fun _ _=>True) (fun _ W'=>I (i+1) W') (fun _ (_:List Unit) _=>False) [] W) (a1 i) W)
  (hdone:∀ (D:Nat)(W:World),w.heap.size≤D→I N W→W.heap[D]?=some (.deferred (some []))→Q .normal {a with defers:={target:=.collected D,args:=#[]}::a.defers} W) :
  (Code.rangeFunc g ps assign body).wpIn F n P Q a w:=by
 refine wpIn_rangeFunc fun fn hfn=>?_
 rw[hro]
 obtain⟨r,hr⟩:∃ r:LoopState→Loop,r=fun st=>{state:=st,pending:=none,fn,tmps:=a.tmps,params:=ps,assign,body,defers:=w.heap.size}:=⟨_,rfl⟩
 have hrs:∀ st,(r st).state=st∧(r st).pending=none:=fun st=>by rw[hr];exact⟨rfl,rfl⟩
 have hset:∀ st st',{r st with state:=st'}=r st':=fun st st'=>by rw[hr]
 have b1:Below w.heap.size w ((w.alloc (.deferred (some []))).alloc (.loop (r .ready))):=((Below.refl _ w).alloc (Nat.le_refl _) _).alloc (by simp) _
 have i1:I 0 ((w.alloc (.deferred (some []))).alloc (.loop (r .ready))):=hI.alloc _ (hI.alloc _ h0)
 have l1:((w.alloc (.deferred (some []))).alloc (.loop (r .ready))).heap[w.heap.size+1]?=some (.loop (r .ready)):=by
  have:=World.alloc_heap_new (w.alloc (.deferred (some []))) (.loop (r .ready))
  rwa [World.size_alloc] at this
 have d1:((w.alloc (.deferred (some []))).alloc (.loop (r .ready))).heap[w.heap.size]?=some (.deferred (some [])) :=
  (Below.heap_alloc _ _ _ (by simp)).trans (World.alloc_heap_new w _)
 have hen:(Instr.enterLoop fn a.tmps ps assign body none).run P w=.ok (w.heap.size+1,[{target:=.collected w.heap.size,args:=#[]}]) ((w.alloc (.deferred (some []))).alloc (.loop (r .ready))):=by
  rw[hr];exact run_enterLoop_outer _ _ _ _ _
 have hz:w.heap.size+2≤((w.alloc (.deferred (some []))).alloc (.loop (r .ready))).heap.size:=by simp
 generalize (w.alloc (.deferred (some []))).alloc (.loop (r .ready))=w1 at b1 i1 l1 d1 hen hz
 refine⟨w.heap.size+1,_,w1,{target:=.fn (.func gf) lb,args:=#[.func (.yield (w.heap.size+1)) #[] #[]]},w1,gf,#[.func (.yield (w.heap.size+1)) #[] #[]]++lb,w1,hen,?_,?_,?_,fun _=>h1,?_⟩
 ·simp only[resolve,hg]
  simp[go_sem]
 ·intro f' hf'
  simp[Target.leads] at hf'
  subst hf'
  exact hFg
 ·simp[invoke,go_sem,eg]
 ·refine(hseq (w.heap.size+1) (fun i W=>I i W∧W.heap[w.heap.size+1]?=some (.loop (r .ready))∧W.heap[w.heap.size]?=some (.deferred (some []))) w1 b1 ?_ (fun _ _ h=>h.1) ?_ ⟨i1,l1,d1⟩).mono ?_
  ·rintro i A B row ⟨h,hl,hd⟩ hgr hrow
   have hw:∀ q,row=some q→∃ o:Obj,A.heap[q]?=some o∧o.isWalk=true:=fun q e=>(hrow q e).2
   exact⟨hI i A B row h hgr (fun q e=>by obtain⟨hq,o,ho,hwk⟩:=hrow q e;exact⟨by omega,o,ho,Obj.not_cells_of_walk hwk⟩),(grownBy_keeps hgr hw hl rfl).trans hl,(grownBy_keeps hgr hw hd rfl).trans hd⟩
  ·rintro i W hi ⟨h,hl,hd⟩
   have hlt:w.heap.size+1<W.heap.size:=(Array.getElem?_eq_some_iff.1 hl).1
   have hy:=run_yield (P:=P) (args:=encs i) hl (by rw[hr];exact hps i)
   rw[hr] at hy
   refine⟨fn,_,assign,body,hy,roundIn_of_wpIn hfn (hassign _ i W _ ⟨_,run_beginRound hl (hrs _).1,?_⟩)⟩
   rw[hset]
   have hl2:(W.putObj (w.heap.size+1) (.loop (r .busy))).heap[w.heap.size+1]?=some (.loop (r .busy)):=World.putObj_heap_same hlt
   have hd2:(W.putObj (w.heap.size+1) (.loop (r .busy))).heap[w.heap.size]?=some (.deferred (some [])):=(World.putObj_heap_other (by omega)).trans hd
   refine wpIn_mono (hbody _ i _ hi (hI.putObj _ h (by omega) hl rfl)) ?_
   rintro e a3 W3 hp
   cases e with
   | normal =>
    obtain⟨hk3,-,hi3⟩:=hp
    have hl3:=hk3.same _ _ hl2 rfl
    have hd3:=hk3.same _ _ hd2 rfl
    have he:=run_endRound (P:=P) none hl3
    have e2:({r .busy with state:=if (none:Option Code).isNone then .ready else .done,pending:=none}:Loop)=r .ready:=by rw[hr];rfl
    rw[e2] at he
    exact⟨_,_,he,rfl,hI.putObj _ hi3 (by omega) hl3 rfl,World.putObj_heap_same (Array.getElem?_eq_some_iff.1 hl3).1,(World.putObj_heap_other (by omega)).trans hd3⟩
   | ret=>exact hp.2.elim
   | exit id=>exact hp.2.elim
   | goto t=>exact hp.2.elim
   | panic ch=>exact hp.elim
   | outgrown=>exact hp.elim
  ·rintro e W2 ⟨⟨v,rfl⟩,h,hl,hd⟩
   have he:=run_endLoop (P:=P) hl (by rw[(hrs _).1];decide)
   rw[(hrs _).2] at he
   exact⟨none,_,he,hdone _ _ (Nat.le_refl _) (hI.putObj _ h (by omega) hl rfl) ((World.putObj_heap_other (by omega)).trans hd)⟩
def Zp(es:List (Nat × ByteArray))(i:Nat):Nat × ByteArray:=es.getD i (0,ByteArray.empty)
def U5(es:List (Nat × ByteArray))(i:Nat):Array Value:=#[.int .i64 (Zp es i).1,.string (Zp es i).2]
theorem RT(F:Fence)(n:Nat)(hF:F.fn 187)(hro:F.round=none)(hn:1≤n)(l Bs mb:Nat)(v:Value)(es:List (Nat × ByteArray))(J:Nat→World→Prop)
  (W:World)(hl:es.length<4611686018427387904)
  (hJ:AbidesFrom W.heap.size J)(hrow:∀ i W1,J i W1→W1.ownsRow 0 268 2 v es.length (Zf es))
  (hY:∀ i W1,i<es.length→J i W1→YieldAt F (n-1) Tryz.prog l (U5 es i) W1 fun e W'=>e=.returned (.bool true)∧J (i+1) W')
  (hBs:W.cell? ⟨Bs,0,none⟩=some (.pointer (some ⟨mb,0,none⟩)))(hmb:W.cell? ⟨mb,0,none⟩=some v)(h0:J 0 W) :
  CallsIn F n Tryz.prog 187 #[.func (.yield l) #[] #[],.pointer (some ⟨Bs,0,none⟩)] W fun e W'=>(∃ r,e=.returned r)∧J es.length W':=by
 obtain⟨a0,cap,rfl⟩:=z8 (hrow 0 W h0)
 refine callsIn_of_wp Tryz.func187 rfl hF ?_ hro
 simp only[Tryz.ntmps187,List.size_toArray,List.length_cons,List.length_nil,Nat.reduceAdd,Nat.reduceSub,Array.replicate_succ,Array.replicate_zero,List.push_toArray,List.append_toArray,List.nil_append,List.cons_append]
 gi_wp2
 gi_loopw [10] (fun i wr=>∃ k:Nat,k≤es.length∧i=.int .i64 k∧J k wr) (fun i _=>es.length-(intOf i).toNat)
 case atStart=>exact⟨0,Nat.zero_le _,rfl,h0⟩
 case round =>
  obtain⟨k,hk,rfl,hJs⟩:=hrel
  by_cases hlt:k<es.length
  ·have hvr:=hrow _ _ hJs
   obtain⟨g,cap',hg,_,_⟩:=zi hvr (by omega)
   obtain⟨rfl,rfl⟩:a0=some ⟨g,0,none⟩∧cap=cap':=by simpa using hg
   have hc0:=own_cell? hvr (k*2) _ (YC es k hlt).1
   have hc1:=own_cell? hvr (k*2+1) _ (YC es k hlt).2
   have hJb:J k (wr.alloc (.cells #[.int .i64 es[k].1,.string es[k].2] 268)):=hJ _ _ _ none hJs (World.grownBy_alloc ..) (fun r e=>by cases e)
   have hY':=hY k _ hlt hJb
   rw[show U5 es k=#[.int .i64 es[k].1,.string es[k].2] by simp[U5,Zp,List.getD_eq_getElem?_getD,List.getElem?_eq_getElem hlt]] at hY'
   obtain⟨fn,tmps,assign,body,hy,hR⟩:=hY'
   have HJS:=Z hJs
   have HR:=Z hR
   clear hJb hJs hR
   gi_wp2
   refine HR.out.mono ?_
   rintro e W3 ⟨rfl,hJ3⟩
   gi_wp2
   go_roundw
   case rel=>exact⟨k+1,by omega,by simp,hJ3⟩
   case measure=>simp[intOf];omega
  ·obtain rfl:k=es.length:=by omega
   gi_wp2
   go_end0
   exact⟨⟨_,rfl⟩,hJs⟩
end Go.Proofs.YtkhnggkkiefcdaaGreatDoor
namespace Go.Proofs.YtkhnggkkiefcdaaGreatDoor
open Go.RowKit
set_option maxRecDepth 100000
set_option maxHeartbeats 8000000
theorem Ta(name:ByteArray)(f:Nat)(w:World)(b:Nat)(L:DL)(M:DM)(h:DRep w b L M)(hf:M.dir.look name=some f) :
  Calls Tryz.prog 147 #[.pointer (some ⟨b,0,none⟩),.string name] w fun e w' =>
   e=.returned (.tuple #[.string (zh (M.file f).bytes),.nilIface])∧Fr Nil w w':=by
 have e1:M.size name=(((M.file f).bytes.length:Int),(0:Int)):=by simp[DM.size,hf]
 have e2:M.read name 0 (M.file f).bytes.length=(zh (M.file f).bytes,(0:Int)):=by
  simp only[DM.read,hf]
  rw[if_pos (by omega)]
  simp
 have HS:=Z (fun wx (fr:Fr Nil w wx)=>by have:=Ue name wx b L M (h.fr fr (fun _ _=>id));rw[e1] at this;exact this)
 have HR:=Z (fun wx (fr:Fr Nil w wx)=>by have:=Pj name 0 (M.file f).bytes.length wx b L M (h.fr fr (fun _ _=>id));rw[e2] at this;exact this)
 clear e1 e2 h
 go_enter Tryz.func147,Tryz.ntmps147
 go_wp2_with fail
 refine(HS.out w (G _ _)).mono ?_
 rintro e w1 ⟨rfl,hf1⟩
 go_wp2_with fail
 refine(HR.out w1 hf1).mono ?_
 rintro e w2 ⟨rfl,hf2⟩
 go_wp2_with fail
 refine(XE _ _ 0 w2).mono ?_
 rintro e w3 ⟨v,rfl,hv,hf3⟩
 obtain rfl:v=.nilIface:=hv
 go_wp2_with fail
 go_ret2
 exact⟨rfl,(hf1.trans hf2).trans hf3⟩
def Vw(b:Nat)(w:World):Prop:=Calls Tryz.prog 183 #[.pointer (some ⟨b,0,none⟩)] w fun e w'=>e=.returned (.slice none 0 0)∧Fr Nil w w'
theorem Mv(b:Nat)(w:World)(h:Vw b w) :
  Calls Tryz.prog 144 #[.pointer (some ⟨b,0,none⟩)] w fun e w'=>e=.returned .nilIface∧Fr Nil w w':=by
 unfold Vw at h
 have HC:=Z h
 clear h
 go_enter Tryz.func144,Tryz.ntmps144
 go_wp2_with fail
 refine HC.out.mono ?_
 rintro e w1 ⟨rfl,hf⟩
 go_wp2
 go_loopw [9] (fun t w'=>t=.int .i64 0∧w'=w1) (fun _ _=>0)
 case atStart=>exact⟨rfl,rfl⟩
 case round =>
  obtain⟨rfl,rfl⟩:=hrel
  go_wp2
  go_ret
  exact⟨rfl,hf⟩
end Go.Proofs.YtkhnggkkiefcdaaGreatDoor
namespace Go.Proofs.YtkhnggkkiefcdaaGreatDoor
open Go.RowKit Go.Shelf
set_option maxRecDepth 100000
set_option maxHeartbeats 8000000
attribute [local go_sem] Oper.semAt_some
theorem MV{β:Type}(base:Nat)(e:TypeId)(size:Nat)(v:Value)(n:Nat)(xs:List Value):Go.Own (fun(_:β) W=>W.ownsRow base e size v n xs):=fun s X Y row hr hg hrow=>by
 refine World.ownsRow.kept hr hg ?_
 rcases hr.2 with⟨rfl,_⟩|⟨g,cap,cur,rfl,_,hgb,_⟩
 ·exact .inl rfl
 ·refine .inr fun e'=>?_
  obtain⟨o,ho,hc⟩:=hrow g (by simpa [Value.ownBlock] using e'.symm)
  rw[hgb] at ho
  cases ho
  cases hc
theorem KeepsOthers.of_fr{S:Nat→Prop}{W W':World}(f:Fr S W W')(h:∀ k,S k→∃ t,Ty W k t):KeepsOthers W W' :=
 ⟨f.size,fun k o hk ho=>(f.block k (Array.getElem?_eq_some_iff.1 hk).1 (fun hs=>by obtain⟨t,c,fz,e⟩:=h k hs;rw[hk] at e;cases e;cases ho)).trans hk⟩
theorem Nk(n:Nat):(ze zk n==⟨#[110,101,119]⟩)=false:=by
 cases h:(ze zk n==⟨#[110,101,119]⟩) with
 | false=>rfl
 | true =>
  have e:=congrArg (fun b:ByteArray=>b.data.toList) (zR.1 h)
  have e2:(ze zk n).data.toList=108::111::103::Lib.decDigits n:=by
   simp only[ze,zk,ByteArray.data_append,Array.toList_append,Xy]
   rfl
  simp only[e2] at e
  cases e
theorem O4(b:Nat)(L:DL)(M:DM)(w:World)(h:DRep w b L M)(nums:List Nat)(hd:M.dir.names=nums.map (ze zk))(hdl:M.dir.length=nums.length)(hnd:nums.Nodup)(hb:∀ n∈nums,1≤n∧n<10^15)(hlen:nums.length<1000000000)
  (ht:∀ w',Fr Nil w w'→Tab w')(hsyn:YO w):Vw b w:=by
 unfold Vw
 have HL:=Z (fun wx (f:Fr Nil w wx)=>Uj wx b L M (h.nil f) (by omega))
 rw[hd,hdl] at HL
 have HFI:=Z (fun wx (f:Fr Nil w wx)=>UH b L M wx (h.nil f) nums hd hdl hnd hb hlen (fun w' f'=>ht w' (f.trans f')) (hsyn.fr f id))
 have HN:Hid (∀ n∈nums,∀ wx,Fr Nil w wx→Calls Tryz.prog 185 #[.string UG,.string (ze zk n)] wx fun e w'=>e=.returned (.int .i64 0)∧Fr Nil wx w'):=fun n hn wx f =>
  Wq UG (ze zk n) (WJ n).1 (RL n (hb n hn).2) (WJ n).2 wx (hsyn.fr f id)
 clear h ht hsyn
 refine(callsIn_wide (n:=8)).1 ?_
 refine callsIn_of_wp_marks Tryz.func183 rfl trivial ?_ rfl
 simp only[Tryz.ntmps183,List.size_toArray,List.length_cons,List.length_nil,Nat.reduceAdd,Nat.reduceSub,Array.replicate_succ,Array.replicate_zero,List.push_toArray,List.append_toArray,List.nil_append,List.cons_append]
 obtain⟨ti,tz,ht1,ht2,ht3,ht4,ht5⟩:=Zk Wv
 gi_wp2_with fail
 refine⟨trivial,?_⟩
 refine(callsIn_wide.2 (HFI.out _ (by exact(by repeat' first|(with_reducible first|apply G|assumption|apply O|apply U|apply V|apply z6)|(intro _;rfl))))).mono ?_
 rintro e w1 ⟨mb,v,l,rfl,hb1,hent1,hif,hm1,hv1,hf1⟩
 have bo:Boxed w1 w.heap.size 91 (.slice none 0 0):=(hf1.block w.heap.size (by simp;omega) id).trans (Boxed.alloc (Boxed.new w 91 (.slice none 0 0)) _)
 have ba:Boxed w1 (w.heap.size+1) 91 (.slice none 0 0):=(hf1.block (w.heap.size+1) (by simp) id).trans (by have:=Boxed.new (w.alloc (.cells #[.slice none 0 0] 91)) 91 (.slice none 0 0);rwa [World.size_alloc] at this)
 have hB1:Below w.heap.size w w1:=(((Below.refl _ w).alloc (Nat.le_refl _) _).alloc (by simp) _).trans (hf1.below.mono (by simp;omega))
 have hs1:w.heap.size+2≤w1.heap.size:=by have:=hf1.size;simp at this;omega
 have HMB:=Z hb1
 have HL2:Hid (l.length=nums.length∧∀ i,i<l.length→∃ n∈nums,Zp l i=(n,ze zk n)):=⟨hif.1,fun i hi=>by
  have hm:l[i]∈l:=List.getElem_mem hi
  obtain⟨n,hn,he⟩:=(hif.2 _).1 hm
  exact⟨n,hn,by simp[Zp,List.getD_eq_getElem?_getD,List.getElem?_eq_getElem hi,he]⟩⟩
 clear hb1 hf1 hif
 gi_wp2_with fail
 refine⟨trivial,?_⟩
 refine(callsIn_wide.2 (UE mb _)).mono ?_
 rintro e w3 ⟨rfl,rfl⟩
 have bM:=Boxed.new w1 211 (.pointer (some ⟨mb,0,none⟩))
 have bo2:=bo.alloc (.cells #[.pointer (some ⟨mb,0,none⟩)] 211)
 have ba2:=ba.alloc (.cells #[.pointer (some ⟨mb,0,none⟩)] 211)
 have hB2:Below w.heap.size w (w1.alloc (.cells #[.pointer (some ⟨mb,0,none⟩)] 211)):=hB1.alloc (by omega) _
 have HM2:=Z (HMB.out.alloc (.cells #[.pointer (some ⟨mb,0,none⟩)] 211))
 have hs2:(w1.alloc (.cells #[.pointer (some ⟨mb,0,none⟩)] 211)).heap.size=w1.heap.size+1:=by simp
 have hr2:=z7 hent1.own ((G Nil w1).alloc (.cells #[.pointer (some ⟨mb,0,none⟩)] 211)) (fun _ _=>id)
 generalize w1.alloc (.cells #[.pointer (some ⟨mb,0,none⟩)] 211)=W0 at bM bo2 ba2 hB2 HM2 hs2 hr2
 have hml:=HMB.out.lt
 clear bo ba hB1 hent1
 have HR2:=Z hr2
 have HI:Hid (OwnFrom W0.heap.size (fun(i:Nat) W=>(∃ va,Boxed W (w.heap.size+1) 91 va∧W.ownsRow w.heap.size 9 1 va i (strs ((List.range i).map fun k=>(Zp l k).2))∧True)∧Boxed W w.heap.size 91 (.slice none 0 0)∧Below w.heap.size w W∧W.ownsRow 0 268 2 v l.length (Zf l))) :=
  OwnFrom.and (Own.from (holdsRow_own w.heap.size (w.heap.size+1) 91 9 1 (fun i:Nat=>i) (fun i=>strs ((List.range i).map fun k=>(Zp l k).2)) (fun _ _=>True)) _) (OwnFrom.and (Own.from (boxed_own _ _ _) _) (OwnFrom.and (ownFrom_below (by omega) (by omega)) (Own.from (MV _ _ _ _ _ _) _)))
 have HLB:Hid (l.length<1000000000):=by rw[HL2.out.1];exact hlen
 clear hlen hr2
 gi_wp2_with fail
 refine Ws rfl (by decide) (gf:=187) (lb:=#[.pointer (some ⟨w1.heap.size,0,none⟩)]) rfl trivial (enters_of Tryz.func187 (by kernel_rfl) rfl)
  l.length (U5 l) (fun _=>rfl) _ HI.out
  ⟨⟨_,ba2,World.ownsRow_nil W0 _ _ _,trivial⟩,bo2,hB2,HR2.out⟩
  (fun k J W hW hJ hI hY h0=>RT Fence.wide 7 trivial rfl (by decide) k w1.heap.size mb v l J W (by have:=HLB.out;omega) hJ (fun i W1 h=>(hI i W1 h).2.2.2) hY ((hW.cell (p:=⟨w1.heap.size,0,none⟩) (by simp only;omega)).trans bM.cell) ((hW.cell (p:=⟨mb,0,none⟩) (by simp only;omega)).trans (HM2.out.cell 0)) h0)
  (fun i=>{tmps:=#[.pointer (some ⟨b,0,none⟩),undef,.slice none 0 0,.pointer (some ⟨w.heap.size,0,none⟩),.pointer (some ⟨w.heap.size+1,0,none⟩),undef,.string (Zp l i).2,.pointer (some ⟨b,0,none⟩),.pointer (some ⟨mb,0,none⟩),.func (.func 187) #[] #[.pointer (some ⟨w1.heap.size,0,none⟩)],.int .i64 (Zp l i).1,.string (Zp l i).2,undef,undef,undef,undef,undef,undef,undef,undef,undef,undef,undef,undef,undef,undef,undef,undef,undef],defers:=[]}) ?assign ?body ?done
 case assign =>
  intro l x W K hK
  unfold U5
  gi_wp2
  exact hK
 case body =>
  rintro q i W hi ⟨⟨va,bv,hrow,_⟩,bo3,hB,hmr⟩
  obtain⟨n,hn,he⟩:=HL2.out.2 i hi
  have HNW:=Z (HN.out n hn W (Fr.of_below hB))
  have HE2:Hid (strs ((List.range (i+1)).map fun k=>(Zp l k).2)=strs ((List.range i).map fun k=>(Zp l k).2)++[.string (ze zk n)]):=by
   show _=_
   rw[List.range_succ,List.map_append,List.map_singleton,he]
   simp[strs]
  have hil:i<1000000000:=Nat.lt_trans hi HLB.out
  rw[he]
  clear he
  have HV:=Z (And.intro bv (And.intro hrow (And.intro bo3 (And.intro hB hmr))))
  clear bv hrow bo3 hB hmr
  gi_wp2_with fail
  refine⟨trivial,?_⟩
  refine(callsIn_wide.2 HNW.out).mono ?_
  rintro e W2 ⟨rfl,f2⟩
  have bv:=(f2.block _ HV.out.1.lt id).trans HV.out.1
  have hrow:=z7 HV.out.2.1 f2 (fun _ _=>id)
  have bo3:=(f2.block _ HV.out.2.2.1.lt id).trans HV.out.2.2.1
  have hB:=HV.out.2.2.2.1.trans (f2.below.mono HV.out.2.2.2.1.size)
  have hmr:=z7 HV.out.2.2.2.2 f2 (fun _ _=>id)
  have hk1:KeepsOthers W W2:=KeepsOthers.of_fr f2 (fun _ e=>absurd e id)
  have hc:=Boxed.cell bv
  have hf:=Boxed.frozen bv
  gi_wp2_with (gi_at_builtin;go_must (refine wpListIn_append_own _ rfl _ _ 91 rfl w.heap.size 9 ti tz 1 16 Tryz.underlying91 ht1 ht2 ht3 ht4 ht5 (by decide) _ _ _ rfl (World.ownsRow.alloc hrow _) ⟨W2.heap.size,0,none⟩ 1 1 [.string (ze zk n)] rfl rfl (cell_one_new _ _ _) (by simp[Value.oneCell']) (by unfold maxLen;omega) (by omega) (by have:=hB.size;simp;omega) ?_;intro v3 w3 hown' hgrow _;obtain⟨g',cap',rfl⟩:=ownsRow_succ hown';obtain⟨hv1,hv2,hr2,hk2,hb2⟩:=Boxed.appended bv (by decide) hrow hB.size (by omega) hown' hgrow;have hc3:=hv1.cell;have hf3:=hv1.frozen))
  have hfr:Fr (fun k=>va.ownBlock=some k∨k=w.heap.size+1) W2 (w3.setCell ⟨w.heap.size+1,0,none⟩ (.slice (some ⟨g',0,none⟩) (i+1) cap')) :=
   Fr.set (p:=⟨w.heap.size+1,0,none⟩) (Fr.grown ((G _ W2).alloc _) hgrow (fun k e _=>.inl e)) (fun _=>.inr rfl) _
  refine⟨hk1.trans hk2,trivial,⟨_,hv2,by rw[HE2.out];exact hr2,trivial⟩,(hfr.block _ (Boxed.lt bo3) (fun e=>e.elim (fun e=>(Boxed.not_row bo3 (by decide) hrow) e.symm) (fun e=>by omega))).trans bo3,hB.trans hb2,z7 hmr hfr (fun k hk e=>?_)⟩
  rcases e with e|e
  ·exact Z0 hrow hmr (by decide) e hk
  ·subst e
   exact za hmr (show Blk W2 (w.heap.size+1) [va] 91 from bv) (by decide) hk
 case done =>
  rintro D W hD ⟨_,bo3,hB,_⟩ hK
  have hc:=bo3.cell
  have HL1:=Z (HL.out W (Fr.of_below hB))
  gi_wp2_with fail
  refine⟨trivial,?_⟩
  refine(callsIn_wide.2 HL1.out).mono ?_
  rintro e w4 ⟨v4,rfl,hrow,hf,_⟩
  have HC:=Z (UF v4 _ ⟨#[110,101,119]⟩ w4 (by rw[List.length_map];exact hrow))
  rw[show(nums.map (ze zk)).any (·==⟨#[110,101,119]⟩)=false by simp only[List.any_map,List.any_eq_false];intro x hx;simp[Nk]] at HC
  have hc4:w4.cell? ⟨w.heap.size,0,none⟩=some (.slice none 0 0):=(hf.cell bo3.lt id).trans hc
  have HB4:Hid (Below w.heap.size w w4):=hB.trans (hf.below.mono hB.size)
  have hD4:w.heap.size≤D:=by omega
  have hK4:=(hf.block D (Array.getElem?_eq_some_iff.1 hK).1 id).trans hK
  clear hrow hf hc bo3 hB
  gi_wp2_with fail
  refine⟨trivial,?_⟩
  refine(callsIn_wide.2 HC.out).mono ?_
  rintro e w5 ⟨rfl,hf⟩
  have hc5:w5.cell? ⟨w.heap.size,0,none⟩=some (.slice none 0 0):=(hf.cell (by have:=HB4.out.size;simp only;have:=(Array.getElem?_eq_some_iff.1 hK4).1;omega) id).trans hc4
  have HB5:Hid (Below w.heap.size w w5):=HB4.out.trans (hf.below.mono HB4.out.size)
  have hK5:=(hf.block D (Array.getElem?_eq_some_iff.1 hK4).1 id).trans hK4
  clear hf hc4
  gi_wp2_with fail
  refine⟨by simp,.inl ⟨_,_,rfl,run_takeDeferred hK5,?_⟩⟩
  have hBE:Below w.heap.size w (w5.putObj D (.deferred none)):=HB5.out.trans (belowK_b (w:=w) (Nat.le_refl _) w5 D _ _ (by omega) hK5 rfl rfl)
  exact⟨_,results_tmp rfl _ _ _,rfl,Fr.of_below hBE⟩
end Go.Proofs.YtkhnggkkiefcdaaGreatDoor
namespace Go.Proofs.YtkhnggkkiefcdaaGreatDoor
open Go.RowKit
set_option maxRecDepth 100000
set_option maxHeartbeats 8000000
theorem O5{P:Program}{o:Oper}{a:Act}{w:World}{K K':Act→World→Prop}{Q:Exit→Act→World→Prop}(q n:Nat)(hd:∀ c,o.op≠.defer c)(hK:∀ a w,K a w→K' a w)(h:o.wp P a w K Q):o.wpIn (Fence.wide.inRound q) n P a w K' Q:=by
 refine⟨fun _ _=>trivial,?_⟩
 rw[Oper.semAt_eq _ _ _ hd]
 unfold Oper.wp at h
 generalize (execOp a.eval o).run P w=r at h ⊢
 cases r with
 | ok x w' =>
  cases x <;> simp only[Oper.upon,Oper.uponIn] at h ⊢
  case value v=>exact hK _ _ h
  case skip=>exact hK _ _ h
  case defer d=>exact hK _ _ h
  case enter f args =>
   refine⟨(fun e=>by cases e),callsIn_wide.2 (Calls.mono h ?_)⟩
   intro e w2 he
   cases e with
   | returned v=>exact hK _ _ he
   | panicked c=>exact he
   | outgrown=>exact he
  case row row args =>
   refine⟨(fun e=>by cases e),fun c cs _=>?_⟩
   obtain⟨v,w2,r,s⟩:=h c cs
   exact⟨v,w2,hK _ _ r,stepsIn_wide.2 s⟩
 | halt x w'=>cases x <;> simp only[Oper.upon,Oper.uponIn] at h ⊢ <;> exact h
theorem X8{P:Program}{md:Region.Mode}{ops:Array Oper}{Q:Exit→Act→World→Prop}(q n:Nat)(hd:∀ (i:Nat) o,ops[i]?=some o→∀ c,o.op≠.defer c)(hlo:¬LetsOut Q):∀ (fuel:Nat)(listed:Array Bool)(a:Act)(w:World),wpAny P md ops Q fuel listed a w→wpAnyIn (Fence.wide.inRound q) n P md ops Q fuel listed a w
 | 0,_,_,_,h=>h
 | fuel+1,listed,a,w,h=>by
  refine⟨h.1,fun i hi=>?_⟩
  have hw:=h.2 i hi
  unfold wpOp at hw
  unfold wpOpIn
  cases ho:ops[i]? with
  | none=>rw[ho] at hw;exact X8 q n hd hlo fuel _ _ _ hw
  | some o =>
   rw[ho] at hw
   simp only at hw ⊢
   split
   ·rename_i hwt
    rw[if_pos hwt] at hw
    rcases hw with hw|hw
    ·exact O5 q n (hd i o ho) (fun a w=>X8 q n hd hlo fuel _ a w) hw
    ·exact absurd hw.2 hlo
   ·rename_i hwt
    rw[if_neg hwt] at hw
    exact⟨fun _ _=>trivial,X8 q n hd hlo fuel _ _ _ hw⟩
theorem UL{P:Program}{ops:Array Oper}{Q:Exit→Act→World→Prop}{q n id:Nat}{S:World→Prop}{a:Act}{w:World}(hm:P.follows .mixedOrders=true)(hd:(ops.all fun o=>match o.op with|.defer _=>false|_=>true)=true)(hlo:¬LetsOut Q)(hS:S w.drew)
  (h:S w.drew→wpAnyH P .any ops Q S ops.size (Array.replicate ops.size false) a w.drew):(Code.region id ops true).wpIn (Fence.wide.inRound q) n P Q a w :=
 wpIn_region_any hm (X8 q n (fun i o ho c hc=>by
  obtain⟨hi,rfl⟩:=Array.getElem?_eq_some_iff.1 ho
  have:=Array.all_eq_true.1 hd i hi
  rw[hc] at this
  cases this) hlo _ _ _ _ (wpAny_of_held _ _ _ _ (h hS)))
theorem zW{P:Program}{md:Region.Mode}{ops:Array Oper}{Q:Exit→Act→World→Prop}{S:World→Prop}(i:Nat)(d:Option Tmp){oi:Oper}{v:Value}{fuel:Nat}{listed:Array Bool}{a:Act}{w:World}(hi:ops[i]?=some oi)(hd:oi.dst=d)
  (hs:Region.noSelect ops=true)(hf:Region.free md ops listed i=true)(hr:(Region.ready md ops listed).contains i=true)
  (hQ:∀ c a w,Q (.panic c) (a.put d v) w→Q (.panic c) a w)(hy:YieldsIf P ops S oi v a)(hS:S w)
  (h:wpAnyH P md ops Q S fuel (listed.setIfInBounds i true) (a.put d v) w):wpAnyH P md ops Q S (fuel+1) listed a w:=by
 subst hd
 exact wpAnyH_take hi hs hf hr hQ hy hS h
end Go.Proofs.YtkhnggkkiefcdaaGreatDoor
