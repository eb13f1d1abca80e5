/- larder: joined texts -/
import Derived.Test.YtkhnggkkiefcdaaGreatDoorRAAU
namespace Go.Proofs.YtkhnggkkiefcdaaGreatDoor
open Go.RowKit Go.Shelf
set_option maxRecDepth 100000
set_option maxHeartbeats 8000000
attribute [local go_sem] Oper.semAt_some
def Odd(S:Nat→Prop)(w:World):Prop:=∀ k,S k→∃ o:Obj,w.heap[k]?=some o∧o.isCells=false
theorem Ty.odd{w:World}{k:Nat}{t:TypeId}{S:Nat→Prop}(h:Ty w k t)(ho:Odd S w):¬S k:=fun hs=>by
 obtain⟨c,f,h⟩:=h
 obtain⟨o,h2,h3⟩:=ho k hs
 rw[h] at h2
 cases h2
 cases h3
theorem SRep.odd{S:Nat→Prop}{w w':World}{b:Nat}{L:SL}{X:SM}(h:SRep w b L X)(f:Fr S w w')(ho:Odd S w):SRep w' b L X :=
 h.fr f (fun k hk=>by rcases h.foot_ty hk with e|e|e <;> exact e.odd ho) (fun k hk=>(h.read_ty hk).odd ho)
theorem DRep.odd{S:Nat→Prop}{w w':World}{b:Nat}{L:DL}{M:DM}(h:DRep w b L M)(f:Fr S w w')(ho:Odd S w):DRep w' b L M :=
 h.fr f (fun k hk=>by obtain⟨t,ht,_⟩:=h.ty hk;exact ht.odd ho)
theorem SRep.noDisk{w:World}{b sb:Nat}{LS:SL}{X:SM}{L:DL}{M:DM}(h:SRep w sb LS X)(hd:DRep w b L M){k:Nat}(hk:Foot b L M k):¬SFoot sb LS k:=fun hs=>by
 rcases h.foot_ty hs with e|e|e
 all_goals exact hd.apart e (by unfold DTy;decide) hk
def Zi(ss:List Seg)(i:Nat):Seg:=ss.getD i ([],[])
def JM.read(limit:Nat)(es:List (Nat × ByteArray))(ss:List Seg):Nat→JM
 | 0=>JM.none limit
 | i+1=>{limit:=limit,last:=(Zp es i).1,name:=(Zp es i).2,size:=(ZM (Zi ss i)).length,torn:=decide (0<(Zi ss i).2.length),dirSafe:=false}
def O6(w:World)(vb jb b sb:Nat)(LS:SL)(L0 L:DL)(M0 M:DM)(v:Value)(es:List (Nat × ByteArray))(limit:Nat)(ss:List Seg)(i:Nat)(W:World):Prop :=
 ((Blk W (w.heap.size+3) [.pointer none] 119∧Blk W (w.heap.size+4) [.nilIface] 132∧Blk W vb [.pointer (some ⟨jb,0,none⟩)] 119∧JRep W jb b (JM.read limit es ss i)) ∧
 (Blk W w.heap.size [.pointer (some ⟨b,0,none⟩)] 40∧Blk W (w.heap.size+1) [.func (.func 95) #[] #[]] 166∧Blk W (w.heap.size+2) [.func (.func 96) #[.pointer (some ⟨sb,0,none⟩)] #[]] 167)) ∧
 ((∃ L',SRep W sb L' (Z4 (ss.take i))∧(∀ k,SFoot sb L' k→SFoot sb LS k∨w.heap.size≤k)∧(∀ k,SRead L' k→SRead LS k∨w.heap.size≤k)) ∧
 DRep W b L M∧W.ownsRow 0 268 2 v es.length (Zf es)) ∧
 w.heap.size≤W.heap.size∧Fr (fun k=>SFoot sb LS k∨Foot b L0 M0 k) w W
theorem Nl(w:World)(vb jb b sb:Nat)(LS:SL)(L0 L:DL)(M0 M:DM)(v:Value)(es:List (Nat × ByteArray))(limit:Nat)(ss:List Seg)(B:Nat)(hB:w.heap.size≤B):OwnFrom B (O6 w vb jb b sb LS L0 L M0 M v es limit ss):=by
 intro i W W' row h hg hr
 have f:=Fr.of_grown hg
 have ho:Odd (fun k=>row=some k) W:=fun k e=>(hr k e).2
 obtain⟨⟨⟨a1,a2,a3,a4⟩,a5,a6,a7⟩,⟨⟨L',b1,b2,b3⟩,b4,b5⟩,b6,b7⟩:=h
 refine⟨⟨⟨a1.fr f (a1.ty.odd ho),a2.fr f (a2.ty.odd ho),a3.fr f (a3.ty.odd ho),Blk.fr a4 f ((Blk.ty a4).odd ho)⟩,a5.fr f (a5.ty.odd ho),a6.fr f (a6.ty.odd ho),a7.fr f (a7.ty.odd ho)⟩,
  ⟨⟨L',b1.odd f ho,b2,b3⟩,b4.odd f ho,z7 b5 f (fun k hk=>(zy b5 hk).odd ho)⟩,Nat.le_trans b6 f.size,b7.trans' f (fun k hk e=>?_)⟩
 have:=(hr k e).1
 omega
theorem QP(ss:List Seg)(i:Nat)(h:i<ss.length):Z4 (ss.take (i+1))=(Zi ss i).1.foldl SM.enter (Z4 (ss.take i)):=by
 unfold Z4 Zi
 rw[List.take_add_one,List.getElem?_eq_getElem h,Zo,List.foldl_append]
 simp[zl,List.getD_eq_getElem?_getD,List.getElem?_eq_getElem h]
theorem Mw(A B C:List Fact)(j:Nat):(A++(B++C)).take (A.length+min j B.length)=A++B.take j:=by
 rw[List.take_append,List.take_of_length_le (Nat.le_add_right _ _),Nat.add_sub_cancel_left,List.take_append_of_le_length (Nat.min_le_right ..)]
 congr 1
 rcases Nat.le_total j B.length with h|h
 ·rw[Nat.min_eq_left h]
 ·rw[Nat.min_eq_right h,List.take_of_length_le h,List.take_of_length_le (Nat.le_refl _)]
theorem Nm(ss:List Seg)(i:Nat)(h:i<ss.length)(j:Nat):((Zi ss i).1.take j).foldl SM.enter (Z4 (ss.take i))=((zl ss).take ((zl (ss.take i)).length+min j (Zi ss i).1.length)).foldl SM.enter SM.nil:=by
 have e:zl ss=zl (ss.take i)++((Zi ss i).1++zl (ss.drop (i+1))):=by
  have h1:zl ss=zl (ss.take i++ss[i]::ss.drop (i+1)):=by rw[← List.drop_eq_getElem_cons h,List.take_append_drop]
  rw[h1,Zo]
  have h2:Zi ss i=ss[i]:=by simp[Zi,List.getD_eq_getElem?_getD,List.getElem?_eq_getElem h]
  rw[h2]
  rfl
 rw[show(zl ss).take ((zl (ss.take i)).length+min j (Zi ss i).1.length)=zl (ss.take i)++(Zi ss i).1.take j by rw[e,Mw],List.foldl_append]
 rfl
theorem QQ(b:Nat) (L M2)(M:DM)(limit:Nat)(sb:Nat)(LS:SL)(es:List (Nat × ByteArray))(ss:List Seg)(w:World)(h:DRep w b L M)(hs:SRep w sb LS SM.nil)
  (hsw:∀ wx,Fr Nil w wx→Calls Tryz.prog 144 #[.pointer (some ⟨b,0,none⟩)] wx fun e w'=>∃ L2,e=.returned .nilIface∧DStep b L M wx L2 M2 w')
  (hfi:∀ wx L2,DRep wx b L2 M2→Fr (Foot b L M) w wx→Calls Tryz.prog 145 #[.pointer (some ⟨b,0,none⟩)] wx fun e w'=>∃ mb v,e=.returned (.pointer (some ⟨mb,0,none⟩))∧Blk w' mb [v] 263∧WI w' v es∧wx.heap.size≤mb∧(∀ k,v.ownBlock=some k→wx.heap.size≤k)∧Fr Nil wx w')
  (hes:es.length=ss.length)(hle:es.length<1000000000)(hfile:∀ i,i<es.length→∃ f,M2.dir.look (Zp es i).2=some f∧(M2.file f).bytes=ZM (Zi ss i))(hok:YR ss)
  (hlim:∀ i,(((zl ss).take i).foldl SM.enter SM.nil).keys.length<1099511627776∧(((zl ss).take i).foldl SM.enter SM.nil).hints.length<1000000) :
  Calls Tryz.prog 94 #[.pointer (some ⟨b,0,none⟩),.int .i64 limit,.func (.func 95) #[] #[],.func (.func 96) #[.pointer (some ⟨sb,0,none⟩)] #[]] w fun e w' =>
   ∃ jb L2 LS',e=.returned (.tuple #[.pointer (some ⟨jb,0,none⟩),.nilIface])∧JRep w' jb b (JM.read limit es ss es.length)∧w.heap.size≤jb∧DRep w' b L2 M2∧(∀ k,Foot b L2 M2 k→Foot b L M k∨w.heap.size≤k) ∧
    SRep w' sb LS' (Z4 ss)∧(∀ k,SFoot sb LS' k→SFoot sb LS k∨w.heap.size≤k)∧(∀ k,SRead LS' k→SRead LS k∨w.heap.size≤k)∧Fr (fun k=>SFoot sb LS k∨Foot b L M k) w w':=by
 have HSW:=Z hsw
 have HFI:=Z hfi
 have HD:=Z h
 have HS:=Z hs
 clear hsw hfi h hs
 refine(callsIn_wide (n:=8)).1 ?_
 refine callsIn_of_wp_marks Tryz.func94 rfl trivial ?_ rfl
 simp only[Tryz.ntmps94,List.size_toArray,List.length_cons,List.length_nil,Nat.reduceAdd,Nat.reduceSub,Array.replicate_succ,Array.replicate_zero,List.push_toArray,List.append_toArray,List.nil_append,List.cons_append]
 have b0:=Blk.new w [.pointer (some ⟨b,0,none⟩)] 40
 have f0:Fr Nil w (w.alloc (.cells #[.pointer (some ⟨b,0,none⟩)] 40)):=(G _ _).alloc _
 have s0:(w.alloc (.cells #[.pointer (some ⟨b,0,none⟩)] 40)).heap.size=w.heap.size+1:=by simp
 gi_wp2_with fail
 generalize w.alloc (.cells #[.pointer (some ⟨b,0,none⟩)] 40)=wa at b0 f0 s0 ⊢
 have f1:Fr Nil wa ((wa.alloc (.cells #[.func (.func 95) #[] #[]] 166)).alloc (.cells #[.func (.func 96) #[.pointer (some ⟨sb,0,none⟩)] #[]] 167)):=((G _ _).alloc _).alloc _
 have b1:=(Blk.new wa [.func (.func 95) #[] #[]] 166).alloc (.cells #[.func (.func 96) #[.pointer (some ⟨sb,0,none⟩)] #[]] 167)
 have b2:=Blk.new (wa.alloc (.cells #[.func (.func 95) #[] #[]] 166)) [.func (.func 96) #[.pointer (some ⟨sb,0,none⟩)] #[]] 167
 rw[show(wa.alloc (.cells #[.func (.func 95) #[] #[]] 166)).heap.size=w.heap.size+2 by simp[s0]] at b2
 rw[s0] at b1
 have s1:((wa.alloc (.cells #[.func (.func 95) #[] #[]] 166)).alloc (.cells #[.func (.func 96) #[.pointer (some ⟨sb,0,none⟩)] #[]] 167)).heap.size=w.heap.size+3:=by simp[s0]
 generalize (wa.alloc (.cells #[.func (.func 95) #[] #[]] 166)).alloc (.cells #[.func (.func 96) #[.pointer (some ⟨sb,0,none⟩)] #[]] 167)=wb at b1 b2 f1 s1 ⊢
 have b3:=Blk.new wb [.pointer none] 119
 have b4:=Blk.new (wb.alloc (.cells #[.pointer none] 119)) [.nilIface] 132
 have s3:(wb.alloc (.cells #[.pointer none] 119)).heap.size=w.heap.size+4:=by simp[s1]
 have s4:((wb.alloc (.cells #[.pointer none] 119)).alloc (.cells #[.nilIface] 132)).heap.size=w.heap.size+5:=by simp[s1]
 have f3:Fr Nil wb ((wb.alloc (.cells #[.pointer none] 119)).alloc (.cells #[.nilIface] 132)):=((G _ _).alloc _).alloc _
 have b3:=b3.alloc (.cells #[.nilIface] 132)
 rw[s1] at b3
 rw[s3] at b4
 have b0:=(b0.fr f1 id).fr f3 id
 have b1:=b1.fr f3 id
 have b2:=b2.fr f3 id
 generalize (wb.alloc (.cells #[.pointer none] 119)).alloc (.cells #[.nilIface] 132)=wc at b0 b1 b2 b3 b4 s4 f3 ⊢
 have f:=(f0.trans f1).trans f3
 rw[show w.heap.size+1+1+1=w.heap.size+3 from rfl,show w.heap.size+1+1=w.heap.size+2 from rfl,show w.heap.size+3+1=w.heap.size+4 from rfl] at *
 have HX:=Z (show w.heap.size+5=wc.heap.size from s4.symm)
 have HC0:=Z (And.intro b0 (And.intro b1 (And.intro b2 (And.intro b3 b4))))
 have HFC:=Z f
 clear f0 f1 f3 s0 s1 s3 s4 b0 b1 b2 b3 b4 f
 refine⟨trivial,?_⟩
 refine(callsIn_wide.2 (HSW.out wc HFC.out)).mono ?_
 rintro e w1 ⟨L2,rfl,hst1⟩
 have hnd:∀ {k c t},Blk wc k c t→¬DTy t→¬Foot b L M k:=fun hb ht=>(HD.out.nil HFC.out).apart hb.ty ht
 have b01:=HC0.out.1.fr hst1.fr (hnd HC0.out.1 (by unfold DTy;decide))
 have b11:=HC0.out.2.1.fr hst1.fr (hnd HC0.out.2.1 (by unfold DTy;decide))
 have b21:=HC0.out.2.2.1.fr hst1.fr (hnd HC0.out.2.2.1 (by unfold DTy;decide))
 have b31:=HC0.out.2.2.2.1.fr hst1.fr (hnd HC0.out.2.2.2.1 (by unfold DTy;decide))
 have b41:=HC0.out.2.2.2.2.fr hst1.fr (hnd HC0.out.2.2.2.2 (by unfold DTy;decide))
 have hs1:w.heap.size+5≤w1.heap.size:=by rw[HX.out];exact hst1.fr.size
 have F1:Fr (Foot b L M) w w1:=(HFC.out.mono (S':=Foot b L M) (fun _ _ e=>absurd e id)).trans hst1.fr
 have hft1:∀ k,Foot b L2 M2 k→Foot b L M k∨w.heap.size≤k:=fun k hk=>(hst1.foot k hk).imp id (fun e=>by have:=HX.out;omega)
 have hsr1:SRep w1 sb LS SM.nil:=HS.out.fr F1 (fun k hk hf=>HS.out.noDisk HD.out hf hk) (fun k hk=>HD.out.apart (HS.out.read_ty hk) (by unfold DTy;decide))
 have hd1:=hst1.rep
 have c01:=b01.cell 0
 clear hst1 hnd
 have f4:Fr Nil w1 ((w1.alloc (.cells #[.pointer (some ⟨b,0,none⟩),.int .i64 limit,.int .i64 0,.string ⟨#[]⟩,.int .i64 0,.bool false,.bool false] 197)).alloc (.cells #[.pointer (some ⟨w1.heap.size,0,none⟩)] 119)):=((G _ _).alloc _).alloc _
 have bj:=(Blk.new w1 [.pointer (some ⟨b,0,none⟩),.int .i64 limit,.int .i64 0,.string ⟨#[]⟩,.int .i64 0,.bool false,.bool false] 197).alloc (.cells #[.pointer (some ⟨w1.heap.size,0,none⟩)] 119)
 have bp:=Blk.new (w1.alloc (.cells #[.pointer (some ⟨b,0,none⟩),.int .i64 limit,.int .i64 0,.string ⟨#[]⟩,.int .i64 0,.bool false,.bool false] 197)) [.pointer (some ⟨w1.heap.size,0,none⟩)] 119
 rw[show(w1.alloc (.cells #[.pointer (some ⟨b,0,none⟩),.int .i64 limit,.int .i64 0,.string ⟨#[]⟩,.int .i64 0,.bool false,.bool false] 197)).heap.size=w1.heap.size+1 by simp] at bp
 have sp:((w1.alloc (.cells #[.pointer (some ⟨b,0,none⟩),.int .i64 limit,.int .i64 0,.string ⟨#[]⟩,.int .i64 0,.bool false,.bool false] 197)).alloc (.cells #[.pointer (some ⟨w1.heap.size,0,none⟩)] 119)).heap.size=w1.heap.size+2:=by simp
 have c03:=(b01.fr f4 id).cell 0
 gi_wp2_with fail
 generalize (w1.alloc (.cells #[.pointer (some ⟨b,0,none⟩),.int .i64 limit,.int .i64 0,.string ⟨#[]⟩,.int .i64 0,.bool false,.bool false] 197)).alloc (.cells #[.pointer (some ⟨w1.heap.size,0,none⟩)] 119)=wp at bp sp bj f4 c03 ⊢
 have F3:Fr (Foot b L M) w wp:=F1.trans (f4.mono (S':=Foot b L M) (fun _ _ e=>absurd e id))
 have hdp:=hd1.nil f4
 refine⟨trivial,?_⟩
 refine(callsIn_wide.2 (HFI.out wp L2 hdp F3)).mono ?_
 rintro e w2 ⟨mb,v,rfl,hm2,hent2,hml2,hvn2,hf2⟩
 have hs2:w1.heap.size+2≤w2.heap.size:=by have:=hf2.size;omega
 have hmlt:=hm2.lt
 gi_wp2_with fail
 refine⟨trivial,?_⟩
 refine(callsIn_wide.2 (UE mb _)).mono ?_
 rintro e w3 ⟨rfl,rfl⟩
 have bM:=Boxed.new w2 211 (.pointer (some ⟨mb,0,none⟩))
 have f5:Fr Nil w2 (w2.alloc (.cells #[.pointer (some ⟨mb,0,none⟩)] 211)):=(G _ _).alloc _
 have s5:(w2.alloc (.cells #[.pointer (some ⟨mb,0,none⟩)] 211)).heap.size=w2.heap.size+1:=by simp
 generalize w2.alloc (.cells #[.pointer (some ⟨mb,0,none⟩)] 211)=W0 at bM f5 s5
 have f25:=hf2.trans f5
 have f15:=f4.trans f25
 have hm5:=hm2.fr f5 id
 have HST:Hid (O6 w (w1.heap.size+1) w1.heap.size b sb LS L L2 M M2 v es limit ss 0 W0) :=
  ⟨⟨⟨b31.fr f15 id,b41.fr f15 id,bp.fr f25 id,bj.fr f25 id⟩,b01.fr f15 id,b11.fr f15 id,b21.fr f15 id⟩,⟨⟨LS,hsr1.nil f15,fun k hk=>.inl hk,fun k hk=>.inl hk⟩,hd1.nil f15,z7 hent2.own f5 (fun _ _=>id)⟩,by omega,(F3.mono (S':=fun k=>SFoot sb LS k∨Foot b L M k) (fun _ _ e=>.inr e)).trans (f25.mono (fun _ _ e=>absurd e id))⟩
 have hB0:Below W0.heap.size W0 W0:=Below.refl _ _
 have HMB:=Z (And.intro hmlt (And.intro (hm5.cell 0) s5))
 clear b01 b11 b21 b31 b41 bj bp c01 c03 f4 sp F3 hdp hm2 hent2 hml2 hvn2 hf2 hmlt f5 f25 f15 hm5 hsr1 hd1
 have HLE:=Z (And.intro hes hle)
 have HFL:=Z hfile
 have HOK:=Z hok
 have HLM:=Z hlim
 have HFT:=Z hft1
 clear hes hle hfile hok hlim hft1
 gi_wp2_with fail
 refine Ws rfl (by decide) (gf:=187) (lb:=#[.pointer (some ⟨w2.heap.size,0,none⟩)]) rfl trivial (enters_of Tryz.func187 (by kernel_rfl) rfl)
  es.length (U5 es) (fun _=>rfl) _ (Nl w (w1.heap.size+1) w1.heap.size b sb LS L L2 M M2 v es limit ss W0.heap.size (by have:=HMB.out.2.2;omega)) HST.out
  (fun k J W hW hJ hI hY h0=>RT Fence.wide 7 trivial rfl (by decide) k w2.heap.size mb v es J W (by have:=HLE.out.2;omega) hJ (fun i W1 h=>(hI i W1 h).2.1.2.2) hY ((hW.cell (p:=⟨w2.heap.size,0,none⟩) (by have:=HMB.out.2.2;simp only;omega)).trans bM.cell) ((hW.cell (p:=⟨mb,0,none⟩) (by have:=HMB.out;simp only;omega)).trans HMB.out.2.1) h0)
  (fun i=>{tmps:=#[.pointer (some ⟨b,0,none⟩),.int .i64 limit,.func (.func 95) #[] #[],.func (.func 96) #[.pointer (some ⟨sb,0,none⟩)] #[],.pointer (some ⟨w.heap.size,0,none⟩),undef,.pointer (some ⟨w.heap.size+1,0,none⟩),.pointer (some ⟨w.heap.size+2,0,none⟩),.pointer (some ⟨w.heap.size+3,0,none⟩),.pointer (some ⟨w.heap.size+4,0,none⟩),.nilIface,.pointer (some ⟨w1.heap.size+1,0,none⟩),.int .i64 (Zp es i).1,.string (Zp es i).2,undef,undef,undef,.pointer (some ⟨b,0,none⟩),.nilIface,.nilIface,.bool false,undef,undef,.pointer (some ⟨b,0,none⟩),.int .i64 limit,.agg #[.pointer (some ⟨b,0,none⟩),.int .i64 limit,.int .i64 0,.string ⟨#[]⟩,.int .i64 0,.bool false,.bool false],.pointer (some ⟨w1.heap.size,0,none⟩),.pointer (some ⟨b,0,none⟩),.pointer (some ⟨mb,0,none⟩),.func (.func 187) #[] #[.pointer (some ⟨w2.heap.size,0,none⟩)],.int .i64 (Zp es i).1,.string (Zp es i).2,undef,undef,undef,undef,undef,undef,undef,undef,undef,undef,undef,undef,undef,undef,undef,undef,undef,undef,undef,undef,undef,undef,undef,undef,undef,undef,undef,undef,undef,undef,undef,undef,undef],defers:=[]}) ?assign ?body ?done
 case assign =>
  intro l x W K hK
  unfold U5
  gi_wp2
  exact hK
 case body =>
  rintro q i W hi ⟨⟨⟨a1,a2,a3,a4⟩,a5,a6,a7⟩,⟨⟨L',c1,c2,c3⟩,c4,c5⟩,c6,c7⟩
  obtain⟨f,hfl,hfb⟩:=HFL.out i hi
  have hss:i<ss.length:=by have:=HLE.out.1;omega
  have hsok:Vu (Zi ss i):=by
   have:Zi ss i=ss[i]:=by simp[Zi,List.getD_eq_getElem?_getD,List.getElem?_eq_getElem hss]
   rw[this]
   exact HOK.out _ (List.getElem_mem hss)
  obtain⟨hfo,tb,ht1,ht2,ht3⟩:=hsok
  have hcon:=Ta (Zp es i).2 f W b L2 M2 c4 hfl
  rw[hfb] at hcon
  have HCON:=Z hcon
  have HREP:=Z (fun wx (fr:Fr Nil W wx)=>RE (Zi ss i).1 hfo (Zi ss i).2 tb ht1 ht2 ht3 sb L' (Z4 (ss.take i)) wx (c1.nil fr) (fun j=>by rw[Nm ss i hss j];exact HLM.out _))
  rw[← QP ss i hss] at HREP
  rw[show Za (Zi ss i).1++(Zi ss i).2=ZM (Zi ss i) from rfl] at HREP
  have HNX:Hid (JM.read limit es ss (i+1)={limit:=limit,last:=(Zp es i).1,name:=(Zp es i).2,size:=(ZM (Zi ss i)).length,torn:=decide (0<(Zi ss i).2.length),dirSafe:=false}):=show _=_ from rfl
  have HOLD:Hid (∃ l d,JRep W w1.heap.size b {limit:=limit,last:=l,name:=(JM.read limit es ss i).name,size:=(JM.read limit es ss i).size,torn:=(JM.read limit es ss i).torn,dirSafe:=d}∧d=false):=by
   cases i with
   | zero=>exact⟨_,_,a4,rfl⟩
   | succ i=>exact⟨_,_,a4,rfl⟩
  have hc5:=a5.cell 0
  have HV:=Z (And.intro a1 (And.intro a2 (And.intro a3 (And.intro a5 (And.intro a6 a7)))))
  have HW:=Z (And.intro c1 (And.intro c2 (And.intro c3 (And.intro c4 (And.intro c5 (And.intro c6 c7))))))
  clear a1 a2 a3 a4 a5 a6 a7 c1 c2 c3 c4 c5 c6 c7 hfl hfb hcon hfo ht1 ht2 ht3
  generalize hen:Zp es i=en at HCON HNX ⊢
  generalize hsg:ZM (Zi ss i)=sg at HCON HREP HNX
  generalize htl:(Zi ss i).2.length=tl at HREP HNX
  clear hsg htl hen
  gi_wp2_with fail
  refine⟨trivial,?_⟩
  refine(callsIn_wide.2 HCON.out).mono ?_
  rintro e W2 ⟨rfl,f2⟩
  have hc6:=(HV.out.2.2.2.2.1.fr f2 id).cell 0
  have hc7:=(HV.out.2.2.2.2.2.fr f2 id).cell 0
  have HF2:=Z f2
  clear hc5 f2
  gi_wp2_with fail
  refine⟨trivial,?_⟩
  refine(callsIn_wide.2 (HREP.out W2 HF2.out)).mono ?_
  rintro e W3 ⟨rfl,L3,r1,r2,r3,r4⟩
  have hty2:∀ k,SFoot sb L' k→∃ t,Ty W2 k t:=fun k hk=>by
   rcases (HW.out.1.nil HF2.out).foot_ty hk with e|e|e <;> exact⟨_,e⟩
  have hnst:∀ {k c t},Blk W2 k c t→t≠161→t≠239→t≠75→¬SFoot sb L' k:=fun hb h1 h2 h3 hk=>by
   rcases (HW.out.1.nil HF2.out).foot_ty hk with e|e|e
   ·exact h1 (hb.ty.inj e)
   ·exact h2 (hb.ty.inj e)
   ·exact h3 (hb.ty.inj e)
  have hb1:=(HV.out.1.fr HF2.out id).fr r2 (hnst (HV.out.1.fr HF2.out id) (by decide) (by decide) (by decide))
  have hb2:=(HV.out.2.1.fr HF2.out id).fr r2 (hnst (HV.out.2.1.fr HF2.out id) (by decide) (by decide) (by decide))
  have hb3:=(HV.out.2.2.1.fr HF2.out id).fr r2 (hnst (HV.out.2.2.1.fr HF2.out id) (by decide) (by decide) (by decide))
  have hb5:=(HV.out.2.2.2.1.fr HF2.out id).fr r2 (hnst (HV.out.2.2.2.1.fr HF2.out id) (by decide) (by decide) (by decide))
  have hb6:=(HV.out.2.2.2.2.1.fr HF2.out id).fr r2 (hnst (HV.out.2.2.2.2.1.fr HF2.out id) (by decide) (by decide) (by decide))
  have hb7:=(HV.out.2.2.2.2.2.fr HF2.out id).fr r2 (hnst (HV.out.2.2.2.2.2.fr HF2.out id) (by decide) (by decide) (by decide))
  obtain⟨jl,jd,hjr,rfl⟩:=HOLD.out
  have hbj:Blk W3 w1.heap.size _ 197:=Blk.fr (Blk.fr hjr HF2.out id) r2 (hnst (Blk.fr hjr HF2.out id) (by decide) (by decide) (by decide))
  have hd3:DRep W3 b L2 M2:=(HW.out.2.2.2.1.nil HF2.out).fr r2 (fun k hk=>(HW.out.1.nil HF2.out).noDisk (HW.out.2.2.2.1.nil HF2.out) hk)
  have hv3:W3.ownsRow 0 268 2 v es.length (Zf es):=z7 (z7 HW.out.2.2.2.2.1 HF2.out (fun _ _=>id)) r2 (fun k hk hf=>by
   have ht:=zy (z7 HW.out.2.2.2.2.1 HF2.out (fun _ _=>id)) hk
   rcases (HW.out.1.nil HF2.out).foot_ty hf with e|e|e <;> exact absurd (ht.inj e) (by decide))
  have hko:KeepsOthers W W3:=(KeepsOthers.of_fr HF2.out (fun _ e=>absurd e id)).trans (KeepsOthers.of_fr r2 hty2)
  have hfr3:Fr (fun k=>SFoot sb LS k∨Foot b L M k) w W3:=(HW.out.2.2.2.2.2.2.trans (HF2.out.mono (fun _ _ e=>absurd e id))).trans' r2 (fun k hk e=>by
   rcases HW.out.2.1 k e with h|h
   ·exact .inl h
   ·omega)
  have hjt:Ty W3 w1.heap.size 197:=hbj.ty
  have hjne:∀ {k c t},Blk W3 k c t→t≠197→¬k=w1.heap.size:=fun hb h e=>by subst e;exact h (hb.ty.inj hjt)
  have HEND:Hid (∀ W',Fr (fun k=>k=w1.heap.size) W3 W'→JRep W' w1.heap.size b {limit:=limit,last:=en.1,name:=en.2,size:=sg.length,torn:=decide (0<tl),dirSafe:=false}→KeepsOthers W3 W'→KeepsOthers W W'∧True∧O6 w (w1.heap.size+1) w1.heap.size b sb LS L L2 M M2 v es limit ss (i+1) W'):=fun W' fw hj ho =>
   ⟨hko.trans ho,trivial,⟨⟨hb1.fr fw (hjne hb1 (by decide)),hb2.fr fw (hjne hb2 (by decide)),hb3.fr fw (hjne hb3 (by decide)),by rw[HNX.out];exact hj⟩,hb5.fr fw (hjne hb5 (by decide)),hb6.fr fw (hjne hb6 (by decide)),hb7.fr fw (hjne hb7 (by decide))⟩,
    ⟨⟨L3,r1.fr fw (fun k hk e=>by subst e;rcases r1.foot_ty hk with e|e|e <;> exact absurd (e.inj hjt) (by decide)) (fun k hk e=>by subst e;exact absurd ((r1.read_ty hk).inj hjt) (by decide)),
     fun k hk=>(r3 k hk).elim (HW.out.2.1 k) (fun e=>.inr (Nat.le_trans (Nat.le_trans HW.out.2.2.2.2.2.1 HF2.out.size) e)),fun k hk=>(r4 k hk).elim (HW.out.2.2.1 k) (fun e=>.inr (Nat.le_trans (Nat.le_trans HW.out.2.2.2.2.2.1 HF2.out.size) e))⟩,
     hd3.fr fw (fun k hk e=>by subst e;exact hd3.apart hjt (by unfold DTy;decide) hk),z7 hv3 fw (fun k hk e=>by subst e;exact absurd ((zy hv3 hk).inj hjt) (by decide))⟩,
    Nat.le_trans (Nat.le_trans (Nat.le_trans HW.out.2.2.2.2.2.1 HF2.out.size) r2.size) fw.size,hfr3.trans' fw (fun k hk e=>by omega)⟩
  have HJ3:=Z hbj
  have hcv:=hb3.cell 0
  have hcj:=hbj.cell
  have hzj:=hbj.frozen
  have hne3:w1.heap.size+1≠w1.heap.size:=by omega
  clear HREP HCON HV HW HF2 hc6 hc7 r1 r2 r3 r4 hty2 hnst hb1 hb2 hb3 hb5 hb6 hb7 hjr hbj hd3 hv3 hko hfr3 hjt hjne
  simp only[JM.cells] at hcj HJ3
  generalize W3=WR at *
  gi_wp2_with fail
  refine UL (S:=fun w'=>w'.cell? ⟨w1.heap.size+1,0,none⟩=some (.pointer (some ⟨w1.heap.size,0,none⟩))) (by kernel_rfl) (by kernel_rfl) (by rintro⟨_,_,h⟩;exact h) hcv (fun hHeld=>?_)
  refine zW 0 (some 46) (v:=?_) rfl rfl (by kernel_rfl) (by kernel_rfl) (by kernel_rfl) (fun _ _ _ h=>h) (Or.inl ⟨by rfl,?_⟩) (by assumption) ?_
  rotate_left
  ·intro w hSw;go_simp;try with_reducible rfl
  simp only[Act.put,List.setIfInBounds_toArray,List.set_cons_zero,List.set_cons_succ]
  refine zW 1 (some 47) (v:=?_) rfl rfl (by kernel_rfl) (by kernel_rfl) (by kernel_rfl) (fun _ _ _ h=>h) (Or.inl ⟨by rfl,?_⟩) (by assumption) ?_
  rotate_left
  ·intro w hSw;go_simp;try with_reducible rfl
  simp only[Act.put,List.setIfInBounds_toArray,List.set_cons_zero,List.set_cons_succ]
  refine zW 2 (some 48) (v:=?_) rfl rfl (by kernel_rfl) (by kernel_rfl) (by kernel_rfl) (fun _ _ _ h=>h) (Or.inl ⟨by rfl,?_⟩) (by assumption) ?_
  rotate_left
  ·intro w hSw;go_simp;try with_reducible rfl
  simp only[Act.put,List.setIfInBounds_toArray,List.set_cons_zero,List.set_cons_succ]
  refine zW 3 (some 49) (v:=?_) rfl rfl (by kernel_rfl) (by kernel_rfl) (by kernel_rfl) (fun _ _ _ h=>h) (Or.inl ⟨by rfl,?_⟩) (by assumption) ?_
  rotate_left
  ·intro w hSw;go_simp;try with_reducible rfl
  simp only[Act.put,List.setIfInBounds_toArray,List.set_cons_zero,List.set_cons_succ]
  refine zW 4 (some 50) (v:=?_) rfl rfl (by kernel_rfl) (by kernel_rfl) (by kernel_rfl) (fun _ _ _ h=>h) (Or.inl ⟨by rfl,?_⟩) (by assumption) ?_
  rotate_left
  ·intro w hSw;go_simp;try with_reducible rfl
  simp only[Act.put,List.setIfInBounds_toArray,List.set_cons_zero,List.set_cons_succ]
  refine zW 5 (some 51) (v:=?_) rfl rfl (by kernel_rfl) (by kernel_rfl) (by kernel_rfl) (fun _ _ _ h=>h) (Or.inl ⟨by rfl,?_⟩) (by assumption) ?_
  rotate_left
  ·intro w hSw;go_simp;try with_reducible rfl
  simp only[Act.put,List.setIfInBounds_toArray,List.set_cons_zero,List.set_cons_succ]
  refine zW 6 (some 52) (v:=?_) rfl rfl (by kernel_rfl) (by kernel_rfl) (by kernel_rfl) (fun _ _ _ h=>h) (Or.inl ⟨by rfl,?_⟩) (by assumption) ?_
  rotate_left
  ·intro w hSw;go_simp;try with_reducible rfl
  simp only[Act.put,List.setIfInBounds_toArray,List.set_cons_zero,List.set_cons_succ]
  refine zW 7 (some 53) (v:=?_) rfl rfl (by kernel_rfl) (by kernel_rfl) (by kernel_rfl) (fun _ _ _ h=>h) (Or.inl ⟨by rfl,?_⟩) (by assumption) ?_
  rotate_left
  ·intro w hSw;go_simp;try with_reducible rfl
  simp only[Act.put,List.setIfInBounds_toArray,List.set_cons_zero,List.set_cons_succ]
  refine zW 8 (some 54) (v:=?_) rfl rfl (by kernel_rfl) (by kernel_rfl) (by kernel_rfl) (fun _ _ _ h=>h) (Or.inl ⟨by rfl,?_⟩) (by assumption) ?_
  rotate_left
  ·intro w hSw;go_simp;try with_reducible rfl
  simp only[Act.put,List.setIfInBounds_toArray,List.set_cons_zero,List.set_cons_succ]
  refine zW 9 (some 55) (v:=?_) rfl rfl (by kernel_rfl) (by kernel_rfl) (by kernel_rfl) (fun _ _ _ h=>h) (Or.inl ⟨by rfl,?_⟩) (by assumption) ?_
  rotate_left
  ·intro w hSw;go_simp;try with_reducible rfl
  simp only[Act.put,List.setIfInBounds_toArray,List.set_cons_zero,List.set_cons_succ]
  refine zW 10 (some 56) (v:=?_) rfl rfl (by kernel_rfl) (by kernel_rfl) (by kernel_rfl) (fun _ _ _ h=>h) (Or.inl ⟨by rfl,?_⟩) (by assumption) ?_
  rotate_left
  ·intro w hSw;go_simp;try with_reducible rfl
  simp only[Act.put,List.setIfInBounds_toArray,List.set_cons_zero,List.set_cons_succ]
  refine zW 11 (some 57) (v:=?_) rfl rfl (by kernel_rfl) (by kernel_rfl) (by kernel_rfl) (fun _ _ _ h=>h) (Or.inl ⟨by rfl,?_⟩) (by assumption) ?_
  rotate_left
  ·intro w hSw;go_simp;try with_reducible rfl
  simp only[Act.put,List.setIfInBounds_toArray,List.set_cons_zero,List.set_cons_succ]
  refine wpAnyH_ready (rs:=[12]) (by kernel_rfl) (by simp) (AllReadyH.cons rfl (fun K hK=>?_) AllReadyH.nil)
  go_simp
  refine hK.out _ _ (by first|assumption|go_keep) (fun hHeld=>?_)
  clear hK K
  try simp only[Act.put,List.setIfInBounds_toArray,List.set_cons_zero,List.set_cons_succ]
  refine zW 13 (some 58) (v:=?_) rfl rfl (by kernel_rfl) (by kernel_rfl) (by kernel_rfl) (fun _ _ _ h=>h) (Or.inl ⟨by rfl,?_⟩) (by assumption) ?_
  rotate_left
  ·intro w hSw;go_simp;try with_reducible rfl
  simp only[Act.put,List.setIfInBounds_toArray,List.set_cons_zero,List.set_cons_succ]
  refine zW 14 (some 59) (v:=?_) rfl rfl (by kernel_rfl) (by kernel_rfl) (by kernel_rfl) (fun _ _ _ h=>h) (Or.inl ⟨by rfl,?_⟩) (by assumption) ?_
  rotate_left
  ·intro w hSw;go_simp;try with_reducible rfl
  simp only[Act.put,List.setIfInBounds_toArray,List.set_cons_zero,List.set_cons_succ]
  refine wpAnyH_ready (rs:=[15]) (by kernel_rfl) (by simp) (AllReadyH.cons rfl (fun K hK=>?_) AllReadyH.nil)
  go_simp
  refine hK.out _ _ (by first|assumption|go_keep) (fun hHeld=>?_)
  clear hK K
  try simp only[Act.put,List.setIfInBounds_toArray,List.set_cons_zero,List.set_cons_succ]
  refine zW 16 (some 60) (v:=?_) rfl rfl (by kernel_rfl) (by kernel_rfl) (by kernel_rfl) (fun _ _ _ h=>h) (Or.inl ⟨by rfl,?_⟩) (by assumption) ?_
  rotate_left
  ·intro w hSw;go_simp;try with_reducible rfl
  simp only[Act.put,List.setIfInBounds_toArray,List.set_cons_zero,List.set_cons_succ]
  refine zW 17 (some 61) (v:=?_) rfl rfl (by kernel_rfl) (by kernel_rfl) (by kernel_rfl) (fun _ _ _ h=>h) (Or.inl ⟨by rfl,?_⟩) (by assumption) ?_
  rotate_left
  ·intro w hSw;go_simp;try with_reducible rfl
  simp only[Act.put,List.setIfInBounds_toArray,List.set_cons_zero,List.set_cons_succ]
  refine wpAnyH_ready (rs:=[18]) (by kernel_rfl) (by simp) (AllReadyH.cons rfl (fun K hK=>?_) AllReadyH.nil)
  go_simp
  refine hK.out _ _ (by first|assumption|go_keep) (fun hHeld=>?_)
  clear hK K
  try simp only[Act.put,List.setIfInBounds_toArray,List.set_cons_zero,List.set_cons_succ]
  refine zW 19 (some 62) (v:=?_) rfl rfl (by kernel_rfl) (by kernel_rfl) (by kernel_rfl) (fun _ _ _ h=>h) (Or.inl ⟨by rfl,?_⟩) (by assumption) ?_
  rotate_left
  ·intro w hSw;go_simp;try with_reducible rfl
  simp only[Act.put,List.setIfInBounds_toArray,List.set_cons_zero,List.set_cons_succ]
  refine zW 20 (some 63) (v:=?_) rfl rfl (by kernel_rfl) (by kernel_rfl) (by kernel_rfl) (fun _ _ _ h=>h) (Or.inl ⟨by rfl,?_⟩) (by assumption) ?_
  rotate_left
  ·intro w hSw;go_simp;try with_reducible rfl
  simp only[Act.put,List.setIfInBounds_toArray,List.set_cons_zero,List.set_cons_succ]
  refine wpAnyH_ready (rs:=[21]) (by kernel_rfl) (by simp) (AllReadyH.cons rfl (fun K hK=>?_) AllReadyH.nil)
  go_simp
  refine hK.out _ _ (by first|assumption|go_keep) (fun hHeld=>?_)
  clear hK K
  try simp only[Act.put,List.setIfInBounds_toArray,List.set_cons_zero,List.set_cons_succ]
  refine wpAnyH_done (by kernel_rfl) ?_ _
  refine HEND.out _ ?_ ?_ ?_
  ·exact Fr.drew (Fr.set (S:=fun k=>k=w1.heap.size) (p:=⟨w1.heap.size,5,none⟩) (Fr.set (S:=fun k=>k=w1.heap.size) (p:=⟨w1.heap.size,4,none⟩) (Fr.set (S:=fun k=>k=w1.heap.size) (p:=⟨w1.heap.size,3,none⟩) (Fr.set (S:=fun k=>k=w1.heap.size) (p:=⟨w1.heap.size,2,none⟩) (G _ _) (fun _=>rfl) _) (fun _=>rfl) _) (fun _=>rfl) _) (fun _=>rfl) _)
  ·exact Blk.drew ((((HJ3.out.set 2 _).set 3 _).set 4 _).set 5 _)
  ·exact((((KeepsOthers.setCell WR ⟨w1.heap.size,2,none⟩ _).trans (KeepsOthers.setCell _ ⟨w1.heap.size,3,none⟩ _)).trans (KeepsOthers.setCell _ ⟨w1.heap.size,4,none⟩ _)).trans (KeepsOthers.setCell _ ⟨w1.heap.size,5,none⟩ _)).trans (KeepsOthers.drew _)
 case done =>
  rintro D W hD ⟨⟨⟨h3,h4,hp,hj⟩,-,-,-⟩,⟨⟨L',c1,c2,c3⟩,c4,c5⟩,c6,c7⟩ hK
  rw[HLE.out.1,List.take_length] at c1
  have hcp:=hp.cell 0
  have hz3:=h3.frozen 0
  have hz4:=h4.frozen 0
  have hc3:=h3.cell 0
  have hc4:=h4.cell 0
  have hne:w.heap.size+3≠w.heap.size+4:=by omega
  have h3':=(h3.set 0 (.pointer (some ⟨w1.heap.size,0,none⟩))).far (b':=w.heap.size+4) hne 0 .nilIface
  have h4':=(h4.far (b':=w.heap.size+3) (Ne.symm hne) 0 (.pointer (some ⟨w1.heap.size,0,none⟩))).set 0 .nilIface
  have fE:Fr (fun k=>k=w.heap.size+3∨k=w.heap.size+4) W ((W.setCell ⟨w.heap.size+3,0,none⟩ (.pointer (some ⟨w1.heap.size,0,none⟩))).setCell ⟨w.heap.size+4,0,none⟩ .nilIface) :=
   Fr.set (p:=⟨w.heap.size+4,0,none⟩) (Fr.set (p:=⟨w.heap.size+3,0,none⟩) (G _ _) (fun _=>.inl rfl) _) (fun _=>.inr rfl) _
  have hK':=((KeepsOthers.setCell W ⟨w.heap.size+3,0,none⟩ (.pointer (some ⟨w1.heap.size,0,none⟩))).trans (KeepsOthers.setCell _ ⟨w.heap.size+4,0,none⟩ .nilIface)).same D _ hK rfl
  have hn34:∀ {k t},Ty W k t→t≠119→t≠132→¬(k=w.heap.size+3∨k=w.heap.size+4):=fun ht n1 n2 e=>by
   rcases e with rfl|rfl
   ·exact n1 (ht.inj h3.ty)
   ·exact n2 (ht.inj h4.ty)
  have hjE:=Blk.fr hj fE (hn34 (Blk.ty hj) (by decide) (by decide))
  have hcE:=c1.fr fE (fun k hk=>by rcases c1.foot_ty hk with e|e|e <;> exact hn34 e (by decide) (by decide)) (fun k hk=>hn34 (c1.read_ty hk) (by decide) (by decide))
  have hdE:=c4.fr fE (fun k hk=>by obtain⟨t,ht,hd⟩:=c4.ty hk;unfold DTy at hd;rcases hd with rfl|rfl|rfl|rfl|rfl <;> exact hn34 ht (by decide) (by decide))
  have hFE:=c7.trans' fE (fun k hk e=>by omega)
  have H3:=Z h3'
  have H4:=Z h4'
  have HJ:=Z hjE
  have HC:=Z hcE
  have HDD:=Z hdE
  have HFE:=Z hFE
  have HK:=Z hK'
  clear h3 h4 hp hj c1 c4 c5 c6 c7 h3' h4' fE hK' hK hn34 hjE hcE hdE hFE
  gi_wp2_with fail
  refine⟨by simp,.inl ⟨_,_,rfl,run_takeDeferred HK.out,?_⟩⟩
  have e3:=(H3.out.put HK.out rfl (.deferred none)).cell 0
  have e4:=(H4.out.put HK.out rfl (.deferred none)).cell 0
  have fP:=Fr.of_grown (grownBy_putObj' ((W.setCell ⟨w.heap.size+3,0,none⟩ (.pointer (some ⟨w1.heap.size,0,none⟩))).setCell ⟨w.heap.size+4,0,none⟩ .nilIface) D (.deferred none))
  have hoP:Odd (fun k=>some D=some k) ((W.setCell ⟨w.heap.size+3,0,none⟩ (.pointer (some ⟨w1.heap.size,0,none⟩))).setCell ⟨w.heap.size+4,0,none⟩ .nilIface):=fun k e=>by cases e;exact⟨_,HK.out,rfl⟩
  refine⟨.tuple #[.pointer (some ⟨w1.heap.size,0,none⟩),.nilIface],?_,w1.heap.size,L2,L',rfl,Blk.fr HJ.out fP ((Blk.ty HJ.out).odd hoP),by omega,HDD.out.odd fP hoP,HFT.out,HC.out.odd fP hoP,c2,c3,HFE.out.trans' fP (fun k hk e=>by have:=HMB.out.2.2;cases e;omega)⟩
  simp only[List.set_cons_zero,List.getElem?_cons_zero] at e3 e4
  simp[results,Tryz.f94,go_sem,e3,e4]
end Go.Proofs.YtkhnggkkiefcdaaGreatDoor
namespace Go.Proofs.YtkhnggkkiefcdaaGreatDoor
open Go.RowKit
set_option maxRecDepth 100000
set_option maxHeartbeats 8000000
theorem Nn(r:List ByteArray)(x:ByteArray):(Ys r x).Perm (x::r):=by
 induction r with
 | nil=>exact List.Perm.refl _
 | cons y r ih =>
  unfold Ys
  split
  ·exact(ih.cons y).trans (List.Perm.swap x y r)
  ·exact List.Perm.refl _
theorem O7(d:Dir):d.names.Perm (d.map Prod.fst):=by
 have h:∀ (e:Dir) (r:List ByteArray),(e.foldl (fun r e=>Ys r e.1) r).Perm (e.map Prod.fst++r):=by
  intro e
  induction e with
  | nil=>intro r;exact List.Perm.refl _
  | cons x e ih =>
   intro r
   rw[List.foldl_cons,List.map_cons,List.cons_append]
   exact(ih _).trans ((List.Perm.append_left _ (Nn r x.1)).trans List.perm_middle)
 unfold Dir.names Ya
 rw[List.take_length]
 refine(List.reverse_perm _).trans ?_
 have:=h d []
 rwa [List.append_nil] at this
theorem RU{α β:Type}(f:α→β){l m:List β}(h:l.Perm m):∀ b:List α,m=b.map f→∃ a:List α,a.Perm b∧l=a.map f:=by
 induction h with
 | nil=>intro b e;exact⟨b,List.Perm.refl _,e⟩
 | cons x _ ih =>
  intro b e
  cases b with
  | nil=>cases e
  | cons y b =>
   simp only[List.map_cons,List.cons.injEq] at e
   obtain⟨a,ha,e2⟩:=ih b e.2
   exact⟨y::a,ha.cons y,by rw[List.map_cons,← e.1,← e2]⟩
 | swap x y l =>
  intro b e
  match b,e with
  | b1::b2::b,e =>
   simp only[List.map_cons,List.cons.injEq] at e
   exact⟨b2::b1::b,List.Perm.swap _ _ _,by rw[List.map_cons,List.map_cons,← e.1,← e.2.1,← e.2.2]⟩
 | trans _ _ ih1 ih2 =>
  intro b e
  obtain⟨a,ha,e2⟩:=ih2 b e
  obtain⟨c,hc,e3⟩:=ih1 a e2
  exact⟨c,hc.trans ha,e3⟩
theorem Np{M:DM}{ss:List Seg}(h:Lies M ss):∃ nums:List Nat,M.dir.names=nums.map (ze zk)∧M.dir.length=nums.length∧nums.Nodup∧∀ n,n∈nums↔1≤n∧n≤ss.length:=by
 have hp:=O7 M.dir
 rw[h.names] at hp
 obtain⟨a,ha,e⟩:=RU (ze zk) hp ((List.range ss.length).map (·+1)) (by simp[Function.comp_def])
 refine⟨a,e,?_,?_,fun n=>?_⟩
 ·have:=ha.length_eq
  rw[List.length_map,List.length_range] at this
  rw[h.length,this]
 ·refine ha.nodup_iff.2 ?_
  rw[List.nodup_iff_pairwise_ne,List.pairwise_map]
  exact(List.nodup_iff_pairwise_ne.1 List.nodup_range).imp fun h e=>h (by omega)
 ·rw[ha.mem_iff]
  simp only[List.mem_map,List.mem_range]
  constructor
  ·rintro⟨i,hi,rfl⟩;omega
  ·intro hn;exact⟨n-1,by omega,by omega⟩
theorem Nq{M:DM}{ss:List Seg}(h:Lies M ss)(i:Nat)(hi:i<ss.length):∃ f,M.dir.look (ze zk (i+1))=some f∧(M.file f).bytes=ZM (Zi ss i):=by
 have hd:i<M.dir.length:=by rw[h.length];exact hi
 have hg:∀ j (hj:j<M.dir.length) (hj2:j<ss.length),M.dir[j].1=ze zk (j+1)∧(M.file M.dir[j].2).bytes=ZM ss[j]:=fun j hj hj2=>by
  have e:M.view[j]?=(ZV 0 ss)[j]?:=by rw[h.view]
  rw[Mn 0 ss j hj2] at e
  unfold DM.view at e
  rw[List.getElem?_map,List.getElem?_eq_getElem hj] at e
  simp only[Option.map_some,Option.some.injEq,Prod.mk.injEq,Nat.zero_add] at e
  exact e
 refine⟨M.dir[i].2,?_,by rw[(hg i hd hi).2];simp[Zi,List.getD_eq_getElem?_getD,List.getElem?_eq_getElem hi]⟩
 unfold Dir.look
 have:M.dir.find? (fun e=>e.1==ze zk (i+1))=some M.dir[i]:=by
  rw[List.find?_eq_some_iff_getElem]
  refine⟨by rw[(hg i hd hi).1,zR],i,hd,rfl,fun j hj=>?_⟩
  have hj2:j<M.dir.length:=by omega
  rw[(hg j hj2 (by omega)).1,Bool.not_eq_true',← Bool.not_eq_true,zR]
  intro e
  have:=XW e
  omega
 rw[this]
 rfl
theorem S5(k i:Nat)(h:i<k):Zp (segs k) i=(i+1,ze zk (i+1)):=by
 simp[Zp,segs,List.getD_eq_getElem?_getD,h]
theorem X9(k:Nat):(segs k).length=k:=by simp[segs]
theorem MW(limit:Nat)(ss:List Seg):JM.read limit (segs ss.length) ss ss.length=JM.at limit ss false:=by
 rcases List.eq_nil_or_concat ss with rfl|⟨r,s,rfl⟩
 ·rfl
 ·rw[List.concat_eq_append,JM.at_snoc,List.length_append,List.length_singleton]
  show({limit:=limit,last:=(Zp (segs (r.length+1)) r.length).1,name:=(Zp (segs (r.length+1)) r.length).2,size:=(ZM (Zi (r++[s]) r.length)).length,torn:=decide (0<(Zi (r++[s]) r.length).2.length),dirSafe:=false}:JM)=_
  rw[S5 _ _ (Nat.lt_succ_self _)]
  simp[Zi,List.getD_eq_getElem?_getD]
def Y8(B:Nat)(w:World):Prop:=YK B w∧YO w∧4<B
theorem Y8.fr{B:Nat}{S:Nat→Prop}{w w':World}(h:Y8 B w)(hB:B≤w.heap.size)(f:Fr S w w')(hS:∀ k,S k→B≤k):Y8 B w' :=
 ⟨h.1.fr hB f hS,h.2.1.fr f (fun e=>by have:=hS _ e;have:=h.2.2;omega),h.2.2⟩
theorem O8(B b:Nat)(L:DL)(M:DM)(limit sb:Nat)(LS:SL)(ss:List Seg)(w:World)(h:DRep w b L M)(hs:SRep w sb LS SM.nil)(hl:Lies M ss)(hok:YR ss)(hlen:ss.length<1000000000)
  (hlim:∀ i,(((zl ss).take i).foldl SM.enter SM.nil).keys.length<1099511627776∧(((zl ss).take i).foldl SM.enter SM.nil).hints.length<1000000)
  (htab:Y8 B w)(hB:B≤w.heap.size)(hfoot:∀ k,Foot b L M k→B≤k) :
  Calls Tryz.prog 94 #[.pointer (some ⟨b,0,none⟩),.int .i64 limit,.func (.func 95) #[] #[],.func (.func 96) #[.pointer (some ⟨sb,0,none⟩)] #[]] w fun e w' =>
   ∃ jb L2 LS',e=.returned (.tuple #[.pointer (some ⟨jb,0,none⟩),.nilIface])∧JRep w' jb b (JM.at limit ss false)∧w.heap.size≤jb∧DRep w' b L2 M∧(∀ k,Foot b L2 M k→Foot b L M k∨w.heap.size≤k) ∧
    SRep w' sb LS' (Z4 ss)∧(∀ k,SFoot sb LS' k→SFoot sb LS k∨w.heap.size≤k)∧(∀ k,SRead LS' k→SRead LS k∨w.heap.size≤k)∧Fr (fun k=>SFoot sb LS k∨Foot b L M k) w w':=by
 obtain⟨nums,hn1,hn2,hn3,hn4⟩:=Np hl
 have hnl:nums.length=ss.length:=by rw[← hn2,hl.length]
 have hb:∀ n∈nums,1≤n∧n<10^15:=fun n hn=>by have:=(hn4 n).1 hn;omega
 have:=QQ b L M M limit sb LS (segs ss.length) ss w h hs
  (fun wx f=>(Mv b wx (O4 b L M wx (h.nil f) nums hn1 hn2 hn3 hb (by omega) (fun w' f'=>(htab.fr hB (f.trans f') (fun _ e=>absurd e id)).1.1) (htab.fr hB f (fun _ e=>absurd e id)).2.1)).mono (by
    rintro e w' ⟨rfl,f2⟩
    exact⟨L,rfl,DStep.look (h.nil f) f2⟩))
  (fun wx L2 hd f=>(UH b L2 M wx hd nums hn1 hn2 hn3 hb (by omega) (fun w' f'=>((htab.fr hB f hfoot).fr (Nat.le_trans hB f.size) f' (fun _ e=>absurd e id)).1.1) (htab.fr hB f hfoot).2.1).mono (by
    rintro e w' ⟨mb,v,l,rfl,h1,h2,h3,h4,h5,h6⟩
    obtain rfl:=QI h3 h2.asc hn4
    exact⟨mb,v,rfl,h1,h2,h4,h5,h6⟩))
  (X9 _) (by rw[X9];exact hlen)
  (fun i hi=>by rw[X9] at hi;rw[S5 _ _ hi];exact Nq hl i hi) hok hlim
 rw[X9,MW] at this
 exact this
theorem Vq(B b:Nat)(L:DL)(M:DM)(node segment sync:Nat)(ss:List Seg)(hc:zC node segment sync=true)(w:World)(h:DRep w b L M)(hl:Lies M ss)(hok:YR ss)(hlen:ss.length<1000000000)
  (hlim:∀ i,(((zl ss).take i).foldl SM.enter SM.nil).keys.length<1099511627776∧(((zl ss).take i).foldl SM.enter SM.nil).hints.length<1000000)
  (htab:Y8 B w)(hB:B≤w.heap.size)(hfoot:∀ k,Foot b L M k→B≤k) :
  Calls Tryz.prog 49 #[.pointer (some ⟨b,0,none⟩),.agg #[.int .i64 node,.int .i64 segment,.int .i64 sync]] w fun e w' =>
   ∃ NL',e=.returned (.tuple #[.pointer (some ⟨NL'.nb,0,none⟩),.int .i64 0])∧NRep w' NL' (NM.opened node segment sync ss) M∧NL'.db=b∧(∀ k,NFoot NL' M k→Foot b L M k∨w.heap.size≤k)∧(∀ k,SRead NL'.LS k→w.heap.size≤k)∧Fr (Foot b L M) w w':=by
 have bc:=Blk.new w [.int .i64 node,.int .i64 segment,.int .i64 sync] 102
 have f0:Fr Nil w (w.alloc (.cells #[.int .i64 node,.int .i64 segment,.int .i64 sync] 102)):=(G _ _).alloc _
 have HC:=Z (Wn node segment sync (w.alloc (.cells #[.int .i64 node,.int .i64 segment,.int .i64 sync] 102)))
 rw[hc] at HC
 have HH:=Z h
 have HTAB:=Z htab
 have HBB:=Z hB
 have HLIE:=Z (And.intro hl (And.intro hok (And.intro hlen hlim)))
 clear hc h htab hl hok hlen hlim
 go_enter Tryz.func49,Tryz.ntmps49
 go_wp2_with fail
 generalize w.alloc (.cells #[.int .i64 node,.int .i64 segment,.int .i64 sync] 102)=wc at bc f0 HC ⊢
 refine HC.out.mono ?_
 rintro e w1 ⟨rfl,hf1⟩
 have bc1:=bc.fr hf1 id
 have F1:=f0.trans hf1
 generalize hcb:w.heap.size=cb at bc1 ⊢
 have HCB:=Z hcb
 clear bc f0 hf1 hcb HC
 have bs:=Blk.new w1 [.slice none 0 0,.slice none 0 0,.int .i64 0] 161
 have f2:Fr Nil w1 (w1.alloc (.cells #[.slice none 0 0,.slice none 0 0,.int .i64 0] 161)):=(G _ _).alloc _
 have c2:=(bc1.fr f2 id).cell
 have HR:SRep (w1.alloc (.cells #[.slice none 0 0,.slice none 0 0,.int .i64 0] 161)) w1.heap.size ⟨.slice none 0 0,.slice none 0 0,[]⟩ SM.nil :=
  ⟨bs,⟨World.ownsRow_nil _ 0 _ _,List.Pairwise.nil,fun e he=>by cases he⟩,trivial,World.ownsRow_nil _ 0 _ _⟩
 have F2:=F1.trans f2
 have HJO:=Z (O8 B b L M segment w1.heap.size ⟨.slice none 0 0,.slice none 0 0,[]⟩ ss _ (HH.out.nil F2) HR HLIE.out.1 HLIE.out.2.1 HLIE.out.2.2.1 HLIE.out.2.2.2 (HTAB.out.fr HBB.out F2 (fun _ e=>absurd e id)) (Nat.le_trans HBB.out F2.size) hfoot)
 have HBC2:=Z (bc1.fr f2 id)
 have HF2:=Z F2
 have hle1:=F1.size
 have hcl:cb<w1.heap.size:=bc1.lt
 have hlt2:w1.heap.size<(w1.alloc (.cells #[.slice none 0 0,.slice none 0 0,.int .i64 0] 161)).heap.size:=by simp
 have hfs:∀ k,SFoot w1.heap.size ⟨.slice none 0 0,.slice none 0 0,[]⟩ k→k=w1.heap.size:=fun k hk=>by
  rcases hk with e|e|e
  ·exact e
  ·simp[Value.ownBlock] at e
  ·simp[Value.ownBlock] at e
 have HFS:=Z hfs
 clear bs bc1 F1 f2 HR F2 hfs
 go_wp2_with fail
 generalize w1.alloc (.cells #[.slice none 0 0,.slice none 0 0,.int .i64 0] 161)=w2 at HJO HBC2 HF2 c2 hlt2 ⊢
 generalize w1.heap.size=sb at HJO hle1 hlt2 HFS hcl ⊢
 refine HJO.out.mono ?_
 rintro e w3 ⟨jb,L2,LS',rfl,hj,hjb,hd3,hdf,hs3,hsf,hsr,hf3⟩
 have F3:Fr (Foot b L M) w w3:=(HF2.out.mono (S':=Foot b L M) (fun _ _ e=>absurd e id)).trans' hf3 (fun k hk e=>e.elim (fun e=>by have:=HFS.out k e;omega) id)
 have hcd:¬(SFoot sb ⟨.slice none 0 0,.slice none 0 0,[]⟩ cb∨Foot b L M cb):=fun e=>e.elim (fun e=>by have h1:=HFS.out cb e;omega) (fun e=>by have:=HH.out.lt e;have:=HCB.out;omega)
 have bc3:=HBC2.out.fr hf3 hcd
 have HJ:=Z hj
 have HS:=Z hs3
 have HD3:=Z hd3
 have HF:=Z F3
 have HL:=Z (fun wx (f:Fr Nil w3 wx)=>Vb sb _ _ wx (hs3.nil f))
 have HK:Hid (∀ wx,Fr Nil w3 wx→wx.cell? ⟨cb,0,none⟩=some (.int .i64 node)∧wx.cell? ⟨cb,2,none⟩=some (.int .i64 sync)):=fun wx f=>⟨(bc3.fr f id).cell 0,(bc3.fr f id).cell 2⟩
 obtain⟨k0,k2⟩:=HK.out w3 (G _ _)
 have hsz3:=hf3.size
 clear hj hf3 F3 bc3 hs3 hd3 c2 hcd HBC2
 generalize hS0:Z4 ss=S0 at HL HS
 have HS0:=Z hS0
 clear hS0
 go_wp2_with fail
 go_region_held3 (fun wx=>wx.cell? ⟨cb,0,none⟩=some (.int .i64 node)∧wx.cell? ⟨cb,2,none⟩=some (.int .i64 sync)) (first|assumption|go_keep|exact HK.out _ (by repeat' first|(with_reducible first|apply G|assumption|apply O|apply U|apply V|apply z6)|(intro _;rfl)))
  (first|(go_at_call 98;refine(HL.out _ (by repeat' first|(with_reducible first|apply G|assumption|apply O|apply U|apply V|apply z6)|(intro _;rfl))).mono ?_;rintro e wl ⟨rfl,hwl⟩;subst wl))
 have bn:=(Blk.new w3 (({self:=node,given:=S0.leased,every:=sync,writes:=0,readOnly:=false,J:=JM.at segment ss false,S:=S0}:NM).cells {nb:=w3.heap.size,jb:=jb,sb:=sb,db:=b,mv:=.pointer none,LS:=LS',LD:=L2}) 123).drew
 have fn:Fr Nil w3 (w3.alloc (.cells #[.int .i64 node,.pointer (some ⟨jb,0,none⟩),.pointer (some ⟨sb,0,none⟩),.int .i64 S0.leased,.int .i64 sync,.int .i64 0,.pointer none,.bool false] 123)).drew:=((G _ _).alloc _).drew
 have HRES:Hid (NRep (w3.alloc (.cells #[.int .i64 node,.pointer (some ⟨jb,0,none⟩),.pointer (some ⟨sb,0,none⟩),.int .i64 S0.leased,.int .i64 sync,.int .i64 0,.pointer none,.bool false] 123)).drew {nb:=w3.heap.size,jb:=jb,sb:=sb,db:=b,mv:=.pointer none,LS:=LS',LD:=L2} (NM.opened node segment sync ss) M):=by
  unfold NM.opened
  rw[HS0.out]
  exact⟨bn,Blk.fr HJ.out fn id,HS.out.nil fn,HD3.out.nil fn⟩
 have HFF:Hid (Fr (Foot b L M) w (w3.alloc (.cells #[.int .i64 node,.pointer (some ⟨jb,0,none⟩),.pointer (some ⟨sb,0,none⟩),.int .i64 S0.leased,.int .i64 sync,.int .i64 0,.pointer none,.bool false] 123)).drew):=HF.out.trans (fn.mono (S':=Foot b L M) (fun _ _ e=>absurd e id))
 have hl3:=HF.out.size
 clear bn fn
 go_wp2
 go_ret2
 refine⟨_,rfl,HRES.out,rfl,fun k hk=>?_,fun k hk=>?_,HFF.out⟩
 ·rcases hk with e|e|e|e
  ·exact .inr (by rw[e];exact hl3)
  ·exact .inr (by rw[e];have:=HF2.out.size;simp only;omega)
  ·rcases hsf k e with e|e
   ·exact .inr (by rw[HFS.out k e];exact hle1)
   ·exact .inr (Nat.le_trans HF2.out.size e)
  ·exact(hdf k e).imp id (fun e=>Nat.le_trans HF2.out.size e)
 ·rcases hsr k hk with e|e
  ·obtain⟨x,hx,_⟩:=e
   cases hx
  ·exact Nat.le_trans HF2.out.size e
end Go.Proofs.YtkhnggkkiefcdaaGreatDoor
