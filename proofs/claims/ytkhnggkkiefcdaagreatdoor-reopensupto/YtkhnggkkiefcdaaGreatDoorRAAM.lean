/- larder: joined texts -/
import Derived.Test.YtkhnggkkiefcdaaGreatDoorRAAL
import Derived.LaidEqlPtr
namespace Go.Proofs.YtkhnggkkiefcdaaGreatDoor
open Go.RowKit
set_option maxRecDepth 100000
set_option maxHeartbeats 8000000
structure WL where
 wb:Nat
 db:Nat
 nv:Value
 sv:Value
 tv:Value
 ps:List Nat
 vs:Value
 vm:Value
 ns:Value
 nm:Value
 hs:Value
 hm:Value
structure BK where
 vs:List Value
 vm:List Nat
 ns:List Value
 nm:List Nat
 hs:List Value
 hm:List Nat
structure WM where
 node:Int
 room:Int
 segment:Int
 sync:Int
 fell:Bool
 broken:Bool
 every:Int
 writes:Nat
 calls:Nat
 most:Nat
 dirs:Int
 base:Nat
 next:Nat
 st:List LM
 bk:BK
def WM.cells(L:WL)(W:WM):List Value :=
 [.int .i64 W.node,.int .i64 W.room,.int .i64 W.segment,.int .i64 W.sync,.pointer (some ⟨L.db,0,none⟩),L.nv,L.sv,.bool W.fell,.bool W.broken,.int .i64 W.every,.int .i64 W.writes,.int .i64 W.calls,.int .i64 W.most,.int .i64 W.dirs,L.tv,.int .i64 W.base,.int .i64 W.next,L.vs,L.vm,L.ns,L.nm,L.hs,L.hm]
def ZD(l:List Nat):List Value:=l.map fun p=>.pointer (some ⟨p,0,none⟩)
def ZK(l:List Nat):List Value:=l.map fun(x:Nat)=>.int .i64 (x:Int)
def ZG(m:Nat):UInt8:=UInt8.ofNat (97+m%16)
def ZL(m:Nat):ByteArray:=⟨#[35,ZG m,ZG (m / 16),ZG (m / 16 / 16),ZG (m / 16 / 16 / 16),ZG (m / 16 / 16 / 16 / 16),ZG (m / 16 / 16 / 16 / 16 / 16)]⟩
def Yj(m:Nat):Ver:=⟨m,m,0,0,0,0,ZL m,true⟩
def WFoot(L:WL)(k:Nat):Prop:=k=L.wb∨L.sv.ownBlock=some k∨L.vs.ownBlock=some k∨L.vm.ownBlock=some k∨L.ns.ownBlock=some k∨L.nm.ownBlock=some k∨L.hs.ownBlock=some k∨L.hm.ownBlock=some k
structure BAt(w:World)(L:WL)(B:BK):Prop where
 vs:w.ownsRow 0 61 1 L.vs B.vs.length B.vs
 vm:w.ownsRow 0 3 1 L.vm B.vm.length (ZK B.vm)
 ns:w.ownsRow 0 91 1 L.ns B.ns.length B.ns
 nm:w.ownsRow 0 3 1 L.nm B.nm.length (ZK B.nm)
 hs:w.ownsRow 0 66 1 L.hs B.hs.length B.hs
 hm:w.ownsRow 0 3 1 L.hm B.hm.length (ZK B.hm)
 s1:∀ k,L.vm.ownBlock=some k→L.nm.ownBlock≠some k∧L.hm.ownBlock≠some k
 s2:∀ k,L.nm.ownBlock=some k→L.hm.ownBlock≠some k
structure WAt(K:Nat→Prop)(w:World)(L:WL)(W:WM):Prop where
 blk:Blk w L.wb (W.cells L) 49
 sts:w.ownsRow 0 104 1 L.sv L.ps.length (ZD L.ps)
 ple:L.ps.length=W.st.length
 mods:∀ i (h1:i<L.ps.length) (h2:i<W.st.length),MRep K w L.ps[i] W.st[i]
 book:BAt w L W.bk
 keep:∀ k,K k→k<w.heap.size∧¬WFoot L k
theorem BAt.fr{S:Nat→Prop}{w w':World}{L:WL}{B:BK}(h:BAt w L B)(f:Fr S w w')(hn:∀ k,WFoot L k→¬S k):BAt w' L B where
 vs:=z7 h.vs f (fun k e=>hn k (.inr (.inr (.inl e))))
 vm:=z7 h.vm f (fun k e=>hn k (.inr (.inr (.inr (.inl e)))))
 ns:=z7 h.ns f (fun k e=>hn k (.inr (.inr (.inr (.inr (.inl e))))))
 nm:=z7 h.nm f (fun k e=>hn k (.inr (.inr (.inr (.inr (.inr (.inl e)))))))
 hs:=z7 h.hs f (fun k e=>hn k (.inr (.inr (.inr (.inr (.inr (.inr (.inl e))))))))
 hm:=z7 h.hm f (fun k e=>hn k (.inr (.inr (.inr (.inr (.inr (.inr (.inr e))))))))
 s1:=h.s1
 s2:=h.s2
theorem WAt.fr{S K:Nat→Prop}{w w':World}{L:WL}{W:WM}(h:WAt K w L W)(f:Fr S w w')(hn:∀ k,WFoot L k→¬S k)(hk:∀ k,K k→¬S k):WAt K w' L W where
 blk:=h.blk.fr f (hn _ (.inl rfl))
 sts:=z7 h.sts f (fun k e=>hn k (.inr (.inl e)))
 ple:=h.ple
 mods:=fun i h1 h2=>(h.mods i h1 h2).keep (zI.of_fr f (fun k e=>⟨(h.keep k e).1,hk k e⟩)) (fun _ e=>e)
 book:=h.book.fr f hn
 keep:=fun k e=>⟨Nat.lt_of_lt_of_le (h.keep k e).1 f.size,(h.keep k e).2⟩
theorem WAt.nil{K:Nat→Prop}{w w':World}{L:WL}{W:WM}(h:WAt K w L W)(f:Fr Nil w w'):WAt K w' L W:=h.fr f (fun _ _=>id) (fun _ _=>id)
theorem WAt.lt{K:Nat→Prop}{w:World}{L:WL}{W:WM}(h:WAt K w L W):∀ k,WFoot L k→k<w.heap.size:=by
 intro k hk
 rcases hk with rfl|e|e|e|e|e|e|e
 ·exact h.blk.lt
 ·exact zA h.sts e
 ·exact zA h.book.vs e
 ·exact zA h.book.vm e
 ·exact zA h.book.ns e
 ·exact zA h.book.nm e
 ·exact zA h.book.hs e
 ·exact zA h.book.hm e
theorem WAt.more{K K':Nat→Prop}{w:World}{L:WL}{W:WM}(h:WAt K w L W)(h1:∀ k,K k→K' k)(h2:∀ k,K' k→k<w.heap.size∧¬WFoot L k):WAt K' w L W :=
 ⟨h.blk,h.sts,h.ple,fun i a b=>(h.mods i a b).mono h1,h.book,h2⟩
theorem WAt.gr{K:Nat→Prop}{w w':World}{L:WL}{W:WM}(h:WAt K w L W)(f:Fr Nil w w'):WAt (KGr K w w') w' L W :=
 (h.nil f).more (fun _ e=>.inl e) (fun k e=>e.elim (fun e=>⟨Nat.lt_of_lt_of_le (h.keep k e).1 f.size,(h.keep k e).2⟩) (fun e=>⟨e.2,fun e2=>by have:=h.lt k e2;omega⟩))
def WTy(t:TypeId):Prop:=t=49∨t=104∨t=61∨t=3∨t=91∨t=66
theorem WAt.ty{K:Nat→Prop}{w:World}{L:WL}{W:WM}(h:WAt K w L W){k:Nat}(hk:WFoot L k):∃ t,Ty w k t∧WTy t:=by
 rcases hk with rfl|e|e|e|e|e|e|e
 ·exact⟨_,h.blk.ty,.inl rfl⟩
 ·exact⟨_,zy h.sts e,.inr (.inl rfl)⟩
 ·exact⟨_,zy h.book.vs e,.inr (.inr (.inl rfl))⟩
 ·exact⟨_,zy h.book.vm e,.inr (.inr (.inr (.inl rfl)))⟩
 ·exact⟨_,zy h.book.ns e,.inr (.inr (.inr (.inr (.inl rfl))))⟩
 ·exact⟨_,zy h.book.nm e,.inr (.inr (.inr (.inl rfl)))⟩
 ·exact⟨_,zy h.book.hs e,.inr (.inr (.inr (.inr (.inr rfl))))⟩
 ·exact⟨_,zy h.book.hm e,.inr (.inr (.inr (.inl rfl)))⟩
theorem WAt.node{K:Nat→Prop}{w:World}{L:WL}{W:WM}(h:WAt K w L W){NL':NL}{N:NM}{M:DM}(hn:NRep w NL' N M){k:Nat}(hk:WFoot L k):¬NFoot NL' M k:=by
 obtain⟨t,ht,hd⟩:=h.ty hk
 refine hn.apart ht ?_ ?_ ?_ ?_ ?_ ?_
 all_goals (unfold WTy at hd;rcases hd with rfl|rfl|rfl|rfl|rfl|rfl <;> (try unfold DTy) <;> decide)
theorem WAt.disk{K:Nat→Prop}{w:World}{L:WL}{W:WM}(h:WAt K w L W){b:Nat}{LD:DL}{M:DM}(hn:DRep w b LD M){k:Nat}(hk:WFoot L k):¬Foot b LD M k:=by
 obtain⟨t,ht,hd⟩:=h.ty hk
 refine hn.apart ht ?_
 unfold WTy at hd
 rcases hd with rfl|rfl|rfl|rfl|rfl|rfl <;> unfold DTy <;> decide
theorem WAt.step{K:Nat→Prop}{w w':World}{L:WL}{W:WM}(h:WAt K w L W){NL1 NL2:NL}{N1 N2:NM}{M1 M2:DM}(hn:NRep w NL1 N1 M1)(hs:NStep NL1 M1 w NL2 N2 M2 w')(hk:∀ k,K k→¬NFoot NL1 M1 k) :
  WAt K w' L W∧(∀ k,K k→¬NFoot NL2 M2 k) :=
 ⟨h.fr hs.fr (fun _ e=>h.node hn e) hk,fun k e hf=>(hs.foot k hf).elim (hk k e) (fun hge=>by have:=(h.keep k e).1;omega)⟩
theorem OS(l:List Nat)(i:Nat)(h:i<l.length):(ZD l)[i]?=some (.pointer (some ⟨l[i],0,none⟩)):=by simp[ZD,h]
theorem zV(K:Nat→Prop)(L:WL)(W:WM)(w:World)(h:WAt K w L W)(hp:0<L.ps.length)(hl:L.ps.length<1000000000000) :
  Calls Tryz.prog 107 #[.pointer (some ⟨L.wb,0,none⟩)] w fun e w'=>e=.returned (.pointer (some ⟨L.ps[L.ps.length-1],0,none⟩))∧∃ n,w'=w.drewN n:=by
 obtain⟨g,c,hsv,_,_⟩:=zi h.sts hp
 have hc6:w.cell? ⟨L.wb,6,none⟩=some (.slice (some ⟨g,0,none⟩) L.ps.length c):=by rw[← hsv];exact h.blk.cell 6
 have hs:=h.sts
 rw[hsv] at hs
 have hg:=own_cell? hs (L.ps.length-1) _ (OS L.ps (L.ps.length-1) (by omega))
 have hw:IntKind.i64.wrap ((L.ps.length:Int)-1)=((L.ps.length-1:Nat):Int):=by rw[IntKind.wrap_i64];omega
 have h1:L.ps.length-1<L.ps.length:=by omega
 generalize L.ps[L.ps.length-1]=q at hg ⊢
 generalize hm:L.ps.length-1=m at hg hw h1 ⊢
 generalize L.ps.length=n at hc6 hw h1 hp hl
 clear h hs hsv hm
 go_enter Tryz.func107,Tryz.ntmps107
 go_wp2_with fail
 go_quiet (fail)
 go_wp2
 go_ret
 exact⟨rfl,_,rfl⟩
theorem Ux(c:Int)(w:World) :
  Calls Tryz.prog 51 #[.int .i64 c] w fun e w'=>e=.returned (.int .i64 (if c<0 then 1152921504606846976 else c))∧w'=w:=by
 by_cases h:c<0
 ·go_enter Tryz.func51,Tryz.ntmps51
  go_wp2
  go_ret
  exact⟨rfl,rfl⟩
 ·go_enter Tryz.func51,Tryz.ntmps51
  go_wp2
  go_ret
  exact⟨rfl,rfl⟩
theorem Vm(n s y:Int)(w:World) :
  Calls Tryz.prog 55 #[.agg #[.int .i64 n,.int .i64 s,.int .i64 y]] w fun e w'=>e=.returned (.bool (zC n s y))∧Fr Nil w w':=by
 have f0:Fr Nil w (w.alloc (.cells #[.int .i64 n,.int .i64 s,.int .i64 y] 102)):=(G _ _).alloc _
 by_cases h0:0≤n
 ·by_cases h1:n<4
  ·by_cases h2:1000≤s
   ·by_cases h3:s≤1000000
    ·by_cases h4:0≤y
     ·by_cases h5:y≤100
      ·have HR:=Z (show zC n s y=true by unfold zC zt;simp;omega)
       go_enter Tryz.func55,Tryz.ntmps55
       go_wp2
       go_ret
       exact⟨by rw[HR.out];rfl,f0⟩
      ·have HR:=Z (show zC n s y=false by unfold zC zt;simp;omega)
       go_enter Tryz.func55,Tryz.ntmps55
       go_wp2
       go_ret
       exact⟨by rw[HR.out];rfl,f0⟩
     ·have HR:=Z (show zC n s y=false by unfold zC zt;simp;omega)
      go_enter Tryz.func55,Tryz.ntmps55
      go_wp2
      go_ret
      exact⟨by rw[HR.out];rfl,f0⟩
    ·have HR:=Z (show zC n s y=false by unfold zC zt;simp;omega)
     go_enter Tryz.func55,Tryz.ntmps55
     go_wp2
     go_ret
     exact⟨by rw[HR.out];rfl,f0⟩
   ·have HR:=Z (show zC n s y=false by unfold zC zt;simp;omega)
    go_enter Tryz.func55,Tryz.ntmps55
    go_wp2
    go_ret
    exact⟨by rw[HR.out];rfl,f0⟩
  ·have HR:=Z (show zC n s y=false by unfold zC zt;simp;omega)
   go_enter Tryz.func55,Tryz.ntmps55
   go_wp2
   go_ret
   exact⟨by rw[HR.out];rfl,f0⟩
 ·have HR:=Z (show zC n s y=false by unfold zC zt;simp;omega)
  go_enter Tryz.func55,Tryz.ntmps55
  go_wp2
  go_ret
  exact⟨by rw[HR.out];rfl,f0⟩
theorem zq(w:World)(b:Nat)(L:DL)(M:DM)(h:DRep w b L M) :
  Calls Tryz.prog 57 #[.pointer (some ⟨b,0,none⟩)] w fun e w'=>e=.returned (.int .i64 M.calls)∧w'=w:=by
 have hc:=h.blk.cell
 simp only[DM.cells] at hc
 clear h
 go_enter Tryz.func57,Tryz.ntmps57
 go_wp2
 go_ret
 exact⟨rfl,rfl⟩
theorem ZE(K:Nat→Prop)(L:WL)(W:WM)(LD:DL)(M:DM)(e want calls:Int)(w:World)(h:WAt K w L W)(hd:DRep w L.db LD M) :
  Calls Tryz.prog 105 #[.pointer (some ⟨L.wb,0,none⟩),.int .i64 e,.int .i64 want,.int .i64 calls] w fun r w'=>r=.returned (.bool (decide (e=want∧M.calls=calls)))∧w'=w:=by
 have hc:w.cell? ⟨L.wb,4,none⟩=some (.pointer (some ⟨L.db,0,none⟩)):=h.blk.cell 4
 have HC:=Z (zq w L.db LD M hd)
 clear h hd
 by_cases h1:e=want
 ·by_cases h2:M.calls=calls
  ·have e1:(e==want)=true:=by simp[h1]
   have e2:(M.calls==calls)=true:=by simp[h2]
   have HR:=Z (show decide (e=want∧M.calls=calls)=true by simp[h1,h2])
   clear h1 h2
   go_enter Tryz.func105,Tryz.ntmps105
   go_wp2_with (refine HC.out.mono ?_;rintro x w1 ⟨rfl,hw1⟩;subst w1)
   go_ret
   exact⟨by rw[HR.out];rfl,rfl⟩
  ·have e1:(e==want)=true:=by simp[h1]
   have e2:(M.calls==calls)=false:=by simp[h2]
   have HR:=Z (show decide (e=want∧M.calls=calls)=false by simp[h2])
   clear h1 h2
   go_enter Tryz.func105,Tryz.ntmps105
   go_wp2_with (refine HC.out.mono ?_;rintro x w1 ⟨rfl,hw1⟩;subst w1)
   go_ret
   exact⟨by rw[HR.out];rfl,rfl⟩
 ·have e1:(e==want)=false:=by simp[h1]
  have HR:=Z (show decide (e=want∧M.calls=calls)=false by simp[h1])
  clear h1
  go_enter Tryz.func105,Tryz.ntmps105
  go_wp2
  go_ret
  exact⟨by rw[HR.out];rfl,rfl⟩
structure WStep(K:Nat→Prop)(L:WL)(w:World)(L':WL)(W':WM)(w':World):Prop where
 rep:WAt K w' L' W'
 fr:Fr (WFoot L) w w'
 foot:∀ k,WFoot L' k→WFoot L k∨w.heap.size≤k
 wb:L'.wb=L.wb
 db:L'.db=L.db
 nv:L'.nv=L.nv
theorem WStep.nil{K:Nat→Prop}{L:WL}{W:WM}{w w':World}(h:WAt K w L W)(f:Fr Nil w w'):WStep K L w L W w':=⟨h.nil f,f.mono (fun _ _ e=>absurd e id),fun _ e=>.inl e,rfl,rfl,rfl⟩
theorem WStep.trans{K:Nat→Prop}{L1 L2 L3:WL}{W2 W3:WM}{w1 w2 w3:World}(h:WStep K L1 w1 L2 W2 w2)(k:WStep K L2 w2 L3 W3 w3):WStep K L1 w1 L3 W3 w3 :=
 ⟨k.rep,h.fr.trans' k.fr (fun i hi e=>(h.foot i e).resolve_right (by omega)),fun i e=>(k.foot i e).elim (h.foot i) (fun e=>.inr (Nat.le_trans h.fr.size e)),k.wb.trans h.wb,k.db.trans h.db,k.nv.trans h.nv⟩
theorem WAt.own{K:Nat→Prop}{w w':World}{L L':WL}{W W':WM}(h:WAt K w L W)(hb:Blk w' L.wb (W'.cells L') 49)(f:Fr (fun k=>k=L.wb) w w')(e1:L'.wb=L.wb)(e2:L'.sv=L.sv)(e3:L'.ps=L.ps)(e4:L'.vs=L.vs)(e5:L'.vm=L.vm)(e6:L'.ns=L.ns)(e7:L'.nm=L.nm)(e8:L'.hs=L.hs)(e9:L'.hm=L.hm)(e10:W'.st=W.st)(e11:W'.bk=W.bk):WAt K w' L' W':=by
 obtain⟨wb,db,nv,sv,tv,ps,vs,vm,ns,nm,hs,hm⟩:=L'
 simp only at e1 e2 e3 e4 e5 e6 e7 e8 e9
 subst e1 e2 e3 e4 e5 e6 e7 e8 e9
 have hne:∀ {t} {v:Value} {n s:Nat} {xs:List Value},w.ownsRow 0 t s v n xs→t≠49→∀ k,v.ownBlock=some k→¬k=L.wb:=fun ho ht k e hk=>by subst hk;exact za ho h.blk (fun e=>ht e.symm) e
 refine⟨hb,z7 h.sts f (hne h.sts (by decide)),by rw[e10];exact h.ple,fun i h1 h2=>?_,?_,fun k e=>?_⟩
 ·simp only[e10] at h2 ⊢
  exact(h.mods i h1 h2).keep (zI.of_fr f (fun k e=>⟨(h.keep k e).1,fun hk=>(h.keep k e).2 (.inl hk)⟩)) (fun _ e=>e)
 ·rw[e11]
  exact⟨z7 h.book.vs f (hne h.book.vs (by decide)),z7 h.book.vm f (hne h.book.vm (by decide)),z7 h.book.ns f (hne h.book.ns (by decide)),z7 h.book.nm f (hne h.book.nm (by decide)),z7 h.book.hs f (hne h.book.hs (by decide)),z7 h.book.hm f (hne h.book.hm (by decide)),h.book.s1,h.book.s2⟩
 ·exact⟨Nat.lt_of_lt_of_le (h.keep k e).1 f.size,(h.keep k e).2⟩
theorem WStep.set{K:Nat→Prop}{w:World}{L L':WL}{W W':WM}(h:WAt K w L W)(i:Nat)(v:Value)(hc:(W.cells L).set i v=W'.cells L')(e1:L'.wb=L.wb)(e2:L'.sv=L.sv)(e3:L'.ps=L.ps)(e4:L'.vs=L.vs)(e5:L'.vm=L.vm)(e6:L'.ns=L.ns)(e7:L'.nm=L.nm)(e8:L'.hs=L.hs)(e9:L'.hm=L.hm)(e10:W'.st=W.st)(e11:W'.bk=W.bk)(e12:L'.db=L.db)(e13:L'.nv=L.nv) :
  WStep K L w L' W' (w.setCell ⟨L.wb,i,none⟩ v):=by
 have f:Fr (fun k=>k=L.wb) w (w.setCell ⟨L.wb,i,none⟩ v):=Fr.set (S:=fun k=>k=L.wb) (p:=⟨L.wb,i,none⟩) (G _ _) (fun _=>rfl) _
 refine⟨h.own (by rw[← hc];exact h.blk.set i v) f e1 e2 e3 e4 e5 e6 e7 e8 e9 e10 e11,f.mono (fun k _ e=>.inl e),fun k hk=>.inl ?_,e1,e12,e13⟩
 unfold WFoot at hk ⊢
 rwa [e1,e2,e4,e5,e6,e7,e8,e9] at hk
theorem P8:((Tryz.prog.info? 104).map fun i=>(i.zero.map (·.cells.size),i.size,i.bytes))=some (some 1,1,8):=by kernel_rfl
theorem P9(w:World)(v:Value)(n:Nat)(xs:List Value)(h:w.ownsRow 0 104 1 v n xs)(q:Nat)(hn:n<1000000000)(W0:World)(hf:Fr Nil w W0)(N:Nat)(hN:Blk W0 N [.pointer (some ⟨q,0,none⟩)] 104)(ty:TypeId) :
  ∃ v' w',(Builtin.append_ #[42,42] ty #[v,.slice (some ⟨N,0,none⟩) 1 1]).run Tryz.prog W0=.ok v' w' ∧
   (w'.ownsRow 0 104 1 v' (n+1) (xs++[.pointer (some ⟨q,0,none⟩)])∧Fr (fun k=>v.ownBlock=some k) w w'∧(∀ k,v'.ownBlock=some k→v.ownBlock=some k∨w.heap.size≤k)):=by
 have ho:=z7 h hf (fun _ _=>id)
 obtain⟨v',w',hr,h1,h2,h3⟩:=zo (P:=Tryz.prog) 42 ty 104 1 8 Tryz.underlying42 P8 (by omega) v n xs ho ⟨N,0,none⟩ 1 1 [.pointer (some ⟨q,0,none⟩)] rfl
  (fun j u hu=>by rw[Addr.add_lit,Nat.zero_add,hN.cell];exact hu) (by intro u hu;simp at hu;subst hu;rfl) (by unfold maxLen;omega) (by omega)
 refine⟨v',w',hr,h1,(hf.mono (fun _ _ e=>absurd e id)).trans' ((Fr.of_grown h2).mono (fun i _ h=>h)) (fun i _ h=>h),fun k hk=>?_⟩
 rcases h3 with h3|h3
 ·exact .inl (by rw[← h3];exact hk)
 ·rw[h3] at hk;simp at hk;have:=hf.size;exact .inr (by omega)
theorem WStep.states{K:Nat→Prop}{w w4:World}{L:WL}{W:WM}(h:WAt K w L W){v':Value}{qs:List Nat}{st':List LM}(h4:w4.ownsRow 0 104 1 v' qs.length (ZD qs))(f4:Fr (fun b=>L.sv.ownBlock=some b) w w4)(hn:∀ b,v'.ownBlock=some b→L.sv.ownBlock=some b∨w.heap.size≤b)
  (hl:qs.length=st'.length)(hm:∀ i (h1:i<qs.length)(h2:i<st'.length),MRep K w qs[i] st'[i]) :
  WStep K L w {L with sv:=v',ps:=qs} {W with st:=st'} (w4.setCell ⟨L.wb,6,none⟩ v'):=by
 have hty:∀ {t:TypeId} {k:Nat},Ty w k t→t≠104→¬L.sv.ownBlock=some k:=fun hk ht e=>ht (hk.inj (zy h.sts e))
 have hb4:Blk w4 L.wb _ _:=h.blk.fr f4 (hty h.blk.ty (by decide))
 have fs:Fr (fun k=>k=L.wb) w4 (w4.setCell ⟨L.wb,6,none⟩ v'):=Fr.set (S:=fun k=>k=L.wb) (p:=⟨L.wb,6,none⟩) (G _ _) (fun _=>rfl) _
 have fw:Fr (WFoot L) w (w4.setCell ⟨L.wb,6,none⟩ v'):=(f4.mono (fun k _ e=>.inr (.inl e))).trans' (fs.mono (S':=WFoot L) (fun k _ e=>.inl e)) (fun _ _ e=>e)
 have hrow:∀ {t} {v:Value} {n s:Nat} {xs:List Value},w.ownsRow 0 t s v n xs→t≠104→t≠49→(w4.setCell ⟨L.wb,6,none⟩ v').ownsRow 0 t s v n xs:=fun ho h1 h2 =>
  z7 (z7 ho f4 (fun k e=>hty (zy ho e) h1)) fs (fun k e hk=>by subst hk;exact za ho h.blk (fun e=>h2 e.symm) e)
 refine⟨⟨hb4.set 6 v',z7 h4 fs (fun k e hk=>by subst hk;exact za h4 hb4 (by decide) e),hl,fun i h1 h2=>(hm i h1 h2).keep (zI.of_fr fw (fun k e=>h.keep k e)) (fun _ e=>e),?_,fun k e=>⟨Nat.lt_of_lt_of_le (h.keep k e).1 fw.size,fun hk=>?_⟩⟩,fw,fun k hk=>?_,rfl,rfl,rfl⟩
 ·exact⟨hrow h.book.vs (by decide) (by decide),hrow h.book.vm (by decide) (by decide),hrow h.book.ns (by decide) (by decide),hrow h.book.nm (by decide) (by decide),hrow h.book.hs (by decide) (by decide),hrow h.book.hm (by decide) (by decide),h.book.s1,h.book.s2⟩
 ·have h0:=h.keep k e
  rcases hk with hk|hk|hk
  ·exact h0.2 (.inl hk)
  ·exact(hn k hk).elim (fun e=>h0.2 (.inr (.inl e))) (fun e=>by omega)
  ·exact h0.2 (.inr (.inr hk))
 ·rcases hk with hk|hk|hk
  ·exact .inl (.inl hk)
  ·exact(hn k hk).elim (fun e=>.inl (.inr (.inl e))) .inr
  ·exact .inl (.inr (.inr hk))
theorem TW:((Tryz.prog.info? 107).map fun i=>(i.zero.map (·.cells.size),i.size,i.bytes))=some (some 3,3,56):=by kernel_rfl
theorem Uy{w:World}{f g:Nat}{c c':List Value}(hf:Blk w f c 107)(hg:Blk w g c' 107)(hne:f≠g) :
  (binOp .neq 104 (.pointer (some ⟨f,0,none⟩)) (.pointer (some ⟨g,0,none⟩))).run Tryz.prog w=.ok (.bool true) w∧(binOp .eql 104 (.pointer (some ⟨f,0,none⟩)) (.pointer (some ⟨g,0,none⟩))).run Tryz.prog w=.ok (.bool false) w:=by
 obtain⟨i,z,hi,_,hs,_⟩:=Zk TW
 have hsz:i.size≠0:=by omega
 have hab:(⟨f,0,none⟩:Addr)≠⟨g,0,none⟩:=fun e=>hne (congrArg Addr.block e)
 have h:∀ d:Nat,(Op.equalIn (d+1) 104 (.pointer (some ⟨f,0,none⟩)) (.pointer (some ⟨g,0,none⟩))).run Tryz.prog w=.ok false w:=fun d=>by
  simp[Op.equalIn,run_underlying Tryz.underlying104,sizeOf,typeInfo,hi,hsz,run_sameAddr_other w hab hf hg]
 simp only[binOp]
 exact⟨by simp[Op.equal,Op.maxDepth,h 9999],by simp[Op.equal,Op.maxDepth,h 9999]⟩
theorem MRep.blk{K:Nat→Prop}{w:World}{p:Nat}{m:LM}(h:MRep K w p m):∃ c,Blk w p c 107:=by
 obtain⟨kv,hv,ents,ha,_⟩:=h
 exact⟨_,ha.blk⟩
theorem WAt.last{K:Nat→Prop}{w:World}{L:WL}{W:WM}(h:WAt K w L W)(hp:0<L.ps.length):∃ h2:L.ps.length-1<W.st.length,MRep K w L.ps[L.ps.length-1] W.st[L.ps.length-1] :=
 ⟨by have:=h.ple;omega,h.mods _ (by omega) (by have:=h.ple;omega)⟩
theorem Qy(K:Nat→Prop)(L:WL)(W:WM)(q:Nat)(m:LM)(w:World)(h:WAt K w L W)(hp:0<L.ps.length)(hl:L.ps.length<100000000)(hq:MRep K w q m)(hne:q≠L.ps[L.ps.length-1])(hw:W.writes<1000000000000) :
  Calls Tryz.prog 158 #[.pointer (some ⟨L.wb,0,none⟩),.pointer (some ⟨q,0,none⟩)] w fun e w'=>e=.returned (.tuple #[])∧∃ L',WStep K L w L' {W with st:=W.st++[m],writes:=W.writes+1} w'∧L'.ps=L.ps++[q]:=by
 have HN:=Z (zV K L W w h hp (by omega))
 obtain⟨c1,hb1⟩:=hq.blk
 obtain⟨_,hlast⟩:=h.last hp
 obtain⟨c2,hb2⟩:=hlast.blk
 have HH:=Z h
 have HQ:=Z hq
 have HEQ:Hid (∀ n,_):=fun n=>(Uy (hb1.drewN n) (hb2.drewN n) hne).1
 clear h hb1 hb2 hlast hq hne
 generalize L.ps[L.ps.length-1]=q0 at HN HEQ
 go_enter Tryz.func158,Tryz.ntmps158
 go_wp2_with fail
 refine HN.out.mono ?_
 rintro e w1 ⟨rfl,n,hw1⟩
 have heq:=HEQ.out n
 rw[← hw1] at heq
 have f1:Fr Nil w w1:=by rw[hw1];exact(G _ _).drewN n
 have h1:=HH.out.nil f1
 obtain⟨sa,sc,hsf⟩:=z8 h1.sts
 have hc6:w1.cell? ⟨L.wb,6,none⟩=some (.slice sa L.ps.length sc):=by rw[← hsf];exact h1.blk.cell 6
 have hz6:=h1.blk.frozen
 have hsts:=h1.sts
 rw[hsf] at hsts
 have HSTS:=Z hsts
 have HB4:Hid (∀ w4:World,Fr (fun k=>(Value.slice sa L.ps.length sc).ownBlock=some k) w1 w4→Blk w4 L.wb (W.cells L) 49):=fun w4 f=>h1.blk.fr f (za hsts h1.blk (by decide))
 have H1:=Z h1
 have HF1:=Z f1
 have hlp:L.ps.length<1000000000:=by omega
 have hww:IntKind.i64.wrap ((W.writes:Int)+1)=((W.writes+1:Nat):Int):=by rw[IntKind.wrap_i64];push_cast;omega
 clear h1 hsts f1 hw1
 generalize hlen:L.ps.length=len at hc6 HSTS HB4 hlp
 have HLEN:=Z hlen
 clear hlen
 go_wp2_with (at_builtin;go_must (refine zf rfl _ _ _ _ rfl _ _ (by rfl) (by rfl) (P9 w1 _ _ _ HSTS.out q hlp _ (by repeat' first|(with_reducible first|apply G|assumption|apply O|apply U|apply V|apply z6)|(intro _;rfl)) _ (by exact Blk.new _ [_] _) _) ?_;rintro v4 w4 ⟨ho4,hf4,hn4⟩;have hb4:=HB4.out _ hf4;obtain⟨va4,vc4,hv4⟩:=z8 ho4;have hc4:=hb4.cell;simp only[WM.cells] at hc4;have hz4:=hb4.frozen))
 have hlq:(L.ps++[q]).length=(W.st++[m]).length:=by simp[HH.out.ple]
 have HST:=WStep.states H1.out (v':=v4) (qs:=L.ps++[q]) (st':=W.st++[m]) (w4:=w4) (by rw[List.length_append,List.length_singleton,HLEN.out];simpa [ZD] using ho4) (by rw[hsf,HLEN.out];exact hf4) (fun b e=>by rw[hsf,HLEN.out];exact hn4 b e) hlq (fun i h1 h2=>by
  by_cases hi:i<L.ps.length
  ·have h3:i<W.st.length:=by have:=HH.out.ple;omega
   rw[List.getElem_append_left hi,List.getElem_append_left h3]
   exact H1.out.mods i hi h3
  ·have hi2:i=L.ps.length:=by simp at h1;omega
   have hi3:i=W.st.length:=by have:=HH.out.ple;omega
   subst hi2
   rw[List.getElem_append_right (Nat.le_refl _)]
   simp only[hi3,List.getElem_append_right (Nat.le_refl _)]
   simp only[Nat.sub_self,List.getElem_cons_zero]
   exact(HQ.out.keep (zI.of_fr HF1.out (fun k e=>⟨(HH.out.keep k e).1,id⟩)) (fun _ e=>e)))
 have HS2:=HST.trans (WStep.set HST.rep 10 (.int .i64 ((W.writes:Int)+1)) (L':={L with sv:=v4,ps:=L.ps++[q]}) (W':={W with st:=W.st++[m],writes:=W.writes+1}) (by simp[WM.cells]) rfl rfl rfl rfl rfl rfl rfl rfl rfl rfl rfl rfl rfl)
 subst hv4
 exact bodyPost_end (v:=.tuple #[]) (by simp[results,go_sem]) rfl ⟨rfl,_,(WStep.nil HH.out HF1.out).trans HS2,rfl⟩
theorem WX(K:Nat→Prop)(L:WL)(W:WM)(w:World)(h:WAt K w L W)(hp:0<L.ps.length)(hl:L.ps.length<100000000) :
  Calls Tryz.prog 116 #[.pointer (some ⟨L.wb,0,none⟩)] w fun e w'=>e=.returned (.tuple #[])∧∃ L',WStep K L w L' {W with st:=W.st.drop (W.st.length-1)} w'∧L'.ps=L.ps.drop (L.ps.length-1):=by
 have HN:=Z (zV K L W w h hp (by omega))
 obtain⟨hst,hlast⟩:=h.last hp
 have hple:=h.ple
 have hd1:L.ps.drop (L.ps.length-1)=[L.ps[L.ps.length-1]]:=by
  rw[List.drop_eq_getElem_cons (by omega),List.drop_eq_nil_of_le (by omega)]
 have hd2:W.st.drop (W.st.length-1)=[W.st[L.ps.length-1]]:=by
  rw[List.drop_eq_getElem_cons (by omega),List.drop_eq_nil_of_le (by omega)]
  simp only[hple]
 rw[hd1,hd2]
 generalize L.ps[L.ps.length-1]=q at HN hlast ⊢
 generalize W.st[L.ps.length-1]=m at hlast ⊢
 have HH:=Z h
 have HM:=Z hlast
 clear h hlast hst hple hd1 hd2
 go_enter Tryz.func116,Tryz.ntmps116
 go_wp2_with fail
 refine HN.out.mono ?_
 rintro e w1 ⟨rfl,n,hw1⟩
 have f1:Fr Nil w w1:=by rw[hw1];exact(G _ _).drewN n
 have h1:=HH.out.nil f1
 have hbn:=Blk.new w1 [.pointer (some ⟨q,0,none⟩)] 104
 have f2:Fr Nil w1 (w1.alloc (.cells #[.pointer (some ⟨q,0,none⟩)] 104)):=(G _ _).alloc _
 have h2:=h1.nil f2
 have hrow:(w1.alloc (.cells #[.pointer (some ⟨q,0,none⟩)] 104)).ownsRow 0 104 1 (.slice (some ⟨w1.heap.size,0,none⟩) 1 1) [q].length (ZD [q]):=Zj (cap:=1) hbn (Nat.le_refl _) (by decide) rfl rfl
 have hc:=h2.blk.cell
 simp only[WM.cells] at hc
 have hz:=h2.blk.frozen
 have HS:=WStep.states h1 (v':=.slice (some ⟨w1.heap.size,0,none⟩) 1 1) (qs:=[q]) (st':=[m]) hrow (f2.mono (fun _ _ e=>absurd e id)) (fun b e=>.inr (by simp[Value.ownBlock] at e;subst e;exact Nat.le_refl _)) rfl (fun i a b=>by
  have:i=0:=by simp at a;exact a
  subst this
  exact HM.out.keep (zI.of_fr f1 (fun k e=>⟨(HH.out.keep k e).1,id⟩)) (fun _ e=>e))
 have HS2:=Z (WStep.trans (WStep.nil HH.out f1) HS)
 have HN2:=Z h1
 clear HH HM HS f1 h1 hrow hw1
 go_wp2_with fail
 exact bodyPost_end (v:=.tuple #[]) (by simp[results,go_sem]) rfl ⟨rfl,_,HS2.out,rfl⟩
theorem VL(K:Nat→Prop)(L:WL)(W:WM)(n:Nat)(w:World)(h:WAt K w L W)(hc:W.calls<100000000)(hn:W.most<n)(hn2:n≤16*W.calls) :
  Calls Tryz.prog 106 #[.pointer (some ⟨L.wb,0,none⟩),.int .i64 n] w fun e w'=>e=.returned (.bool true)∧WStep K L w L {W with most:=n} w':=by
 have hcell:=h.blk.cell
 simp only[WM.cells] at hcell
 have hz:=h.blk.frozen
 have hm:IntKind.i64.wrap (16*(W.calls:Int))=16*(W.calls:Int):=by rw[IntKind.wrap_i64];omega
 have h1:¬(n:Int)≤W.most:=by omega
 have h2:¬16*(W.calls:Int)<n:=by omega
 have HS:=Z (WStep.set h 12 (.int .i64 n) (L':=L) (W':={W with most:=n}) (by simp[WM.cells]) rfl rfl rfl rfl rfl rfl rfl rfl rfl rfl rfl rfl rfl)
 clear h hn hn2
 go_enter Tryz.func106,Tryz.ntmps106
 go_wp2_with fail
 go_ret
 exact⟨rfl,HS.out⟩
theorem zQ(K:Nat→Prop)(L:WL)(W:WM)(LD:DL)(M:DM)(w:World)(h:WAt K w L W)(hd:DRep w L.db LD M) :
  Calls Tryz.prog 56 #[.pointer (some ⟨L.wb,0,none⟩)] w fun e w'=>e=.returned (.agg #[.int .i64 M.refused,.int .i64 M.fulls])∧Fr Nil w w':=by
 have hf0:Fr Nil w (w.alloc (Obj.cells #[.int .i64 0,.int .i64 0] 111)):=(G _ _).alloc _
 have hb:=Blk.new w [.int .i64 0,.int .i64 0] 111
 have HR:=Z (fun wx (f:Fr Nil w wx)=>Yn wx L.db LD M (hd.nil f))
 have HU:=Z (fun wx (f:Fr Nil w wx)=>Qe wx L.db LD M (hd.nil f))
 have H1:=Z (h.nil hf0)
 have HF0:=Z hf0
 have HB:=Z hb
 clear h hd hf0 hb
 go_enter Tryz.func56,Tryz.ntmps56
 go_wp2_with fail
 generalize hwa:w.alloc (Obj.cells #[.int .i64 0,.int .i64 0] 111)=wa
 have hb:Blk wa w.heap.size [.int .i64 0,.int .i64 0] 111:=by rw[← hwa];exact HB.out
 have h1:WAt K wa L W:=by rw[← hwa];exact H1.out
 have hf0:Fr Nil w wa:=by rw[← hwa];exact HF0.out
 have HF:=Z hf0
 have hc4:wa.cell? ⟨L.wb,4,none⟩=some (.pointer (some ⟨L.db,0,none⟩)):=h1.blk.cell 4
 have hcb:=hb.cell
 have hzb:=hb.frozen
 have HB1:=Z hb
 have HLE:Hid (w.heap.size≤w.heap.size):=Nat.le_refl _
 clear hwa h1 hf0 HF0 HB H1 hb
 refine wp_region_still_tail 11 (by kernel_rfl) (by kernel_rfl) ?_
 simp only[List.take_succ_cons,List.take_zero,List.drop_succ_cons,List.drop_zero]
 iterate 4 still_step
 still_call (HR.out _ (HF.out.trans (by exact(by repeat' first|(with_reducible first|apply G|assumption|apply O|apply U|apply V|apply z6)|(intro _;rfl)))))
 iterate 4 still_step
 still_call (HU.out _ (HF.out.trans (by exact(by repeat' first|(with_reducible first|apply G|assumption|apply O|apply U|apply V|apply z6)|(intro _;rfl)))))
 iterate 1 still_step
 refine wpStill_nil ?_
 go_wp2_with fail
 have hb4:=(HB1.out.set 0 (.int .i64 M.refused)).set 1 (.int .i64 M.fulls)
 have hf4:Fr Nil w ((wa.setCell ⟨w.heap.size,0,none⟩ (.int .i64 M.refused)).setCell ⟨w.heap.size,1,none⟩ (.int .i64 M.fulls)) :=
  Fr.set (Fr.set HF.out (fun h=>by simp only at h;omega) _) (fun h=>by simp only at h;omega) _
 have HF4:=Z hf4
 have hc5:=hb4.cell
 simp only[List.set_cons_zero,List.set_cons_succ] at hc5
 clear hcb hzb hf4 hb4
 generalize (wa.setCell ⟨w.heap.size,0,none⟩ (.int .i64 M.refused)).setCell ⟨w.heap.size,1,none⟩ (.int .i64 M.fulls)=w4 at hc5 HF4 ⊢
 have hc6:∀ k,w4.drew.cell? ⟨w.heap.size,k,none⟩=[Value.int .i64 M.refused,.int .i64 M.fulls][k]?:=hc5
 refine bodyPost_ret (v:=.agg #[.int .i64 M.refused,.int .i64 M.fulls]) (by simp[results,Tryz.results56,go_sem,hc6,Tryz.isAgg111,Tryz.sizeOf111]) rfl ⟨rfl,HF4.out.drew⟩
theorem Z2(K:Nat→Prop)(L:WL)(W:WM)(LD:DL)(M:DM)(w:World)(h:WAt K w L W)(hd:DRep w L.db LD M) :
  Calls Tryz.prog 104 #[.pointer (some ⟨L.wb,0,none⟩)] w fun e w'=>e=.returned (.int .i64 (IntKind.i64.wrap ((if W.room<0 then 1152921504606846976 else W.room)-M.used)))∧Fr Nil w w':=by
 have HS:Hid (∀ wx,Fr Nil w wx→wx.cell? ⟨L.wb,1,none⟩=some (.int .i64 W.room)∧wx.cell? ⟨L.wb,4,none⟩=some (.pointer (some ⟨L.db,0,none⟩))):=fun wx f=>⟨(h.nil f).blk.cell 1,(h.nil f).blk.cell 4⟩
 have hc:=HS.out w (G _ _)
 have HU:=Z (fun wx (f:Fr Nil w wx)=>(Uf wx L.db LD M (hd.nil f)).mono (fun e w' (p:_∧Fr Nil wx w')=>And.intro p.1 (f.trans p.2)))
 have HRM:=Z (fun wx=>Ux W.room wx)
 generalize (if W.room<0 then 1152921504606846976 else W.room)=r at HRM ⊢
 clear h hd
 go_enter Tryz.func104,Tryz.ntmps104
 go_wp2_with fail
 go_region_held3 (fun w'=>w'.cell? ⟨L.wb,1,none⟩=some (.int .i64 W.room)∧w'.cell? ⟨L.wb,4,none⟩=some (.pointer (some ⟨L.db,0,none⟩))) (first|assumption|go_keep)
  (first
  | (go_at_call 41;refine(HU.out _ (by repeat' first|(with_reducible first|apply G|assumption|apply O|apply U|apply V|apply z6)|(intro _;rfl))).mono ?_;rintro e w3 ⟨rfl,hf3⟩;have hz3:=HS.out _ hf3;have HF3:=Z hf3;clear hf3)
  | (go_at_call 51;refine(HRM.out _).mono ?_;rintro e w2 ⟨rfl,hw2⟩;subst w2))
 go_wp2
 go_ret
 exact⟨rfl,HF3.out⟩
def WM.due(W:WM):Bool:=decide (0<W.every)&&decide ((W.writes:Int).tmod W.every=0)
def WM.took(W:WM)(m:LM):WM :=
 let W1:={W with st:=W.st++[m],writes:=W.writes+1}
 if W1.due then {W1 with st:=W1.st.drop (W1.st.length-1)} else W1
theorem Xi(K:Nat→Prop)(L:WL)(W:WM)(LD:DL)(M:DM)(q:Nat)(m:LM)(free fulls:Int)(w:World)(h:WAt K w L W)(hd:DRep w L.db LD M)(hp:0<L.ps.length)(hl:L.ps.length<10000000)(hq:MRep K w q m)(hne:q≠L.ps[L.ps.length-1])(hw:W.writes<1000000000) :
  Calls Tryz.prog 110 #[.pointer (some ⟨L.wb,0,none⟩),.pointer (some ⟨q,0,none⟩),.int .i64 0,.agg #[.int .i64 M.refused,.int .i64 fulls],.int .i64 free] w fun e w'=>e=.returned (.bool true)∧∃ L',WStep K L w L' (W.took m) w'∧L'.ps≠[]:=by
 have hf0:Fr Nil w (w.alloc (Obj.cells #[.int .i64 M.refused,.int .i64 fulls] 111)):=(G _ _).alloc _
 have hb:=Blk.new w [.int .i64 M.refused,.int .i64 fulls] 111
 have HR:=Z (fun wx (f:Fr Nil w wx)=>Yn wx L.db LD M (hd.nil f))
 have HH:=Z (fun wx (f:Fr Nil w wx)=>Qy K L W q m wx (h.nil f) hp (by omega) (hq.keep (zI.of_fr f (fun k e=>⟨(h.keep k e).1,id⟩)) (fun _ e=>e)) hne (by omega))
 have hc4:∀ n,((w.alloc (Obj.cells #[.int .i64 M.refused,.int .i64 fulls] 111)).drewN n).cell? ⟨L.wb,4,none⟩=some (.pointer (some ⟨L.db,0,none⟩)):=fun n=>(h.nil (hf0.drewN n)).blk.cell 4
 have hcm:∀ n k,((w.alloc (Obj.cells #[.int .i64 M.refused,.int .i64 fulls] 111)).drewN n).cell? ⟨w.heap.size,k,none⟩=[Value.int .i64 M.refused,.int .i64 fulls][k]?:=fun n=>(hb.drewN n).cell
 have HF0:=Z hf0
 have H0:=Z h
 have HPL:Hid (L.ps.length<10000000):=hl
 clear h hd hf0 hb hq hne
 go_enter Tryz.func110,Tryz.ntmps110
 go_wp2_with fail
 go_quiet ((go_at_call 47;exact Calls.quiet_of_same (HR.out _ (HF0.out.trans (by exact(by repeat' first|(with_reducible first|apply G|assumption|apply O|apply U|apply V|apply z6)|(intro _;rfl)))))))
 go_wp2_with fail
 refine(HH.out _ (HF0.out.trans (by exact(by repeat' first|(with_reducible first|apply G|assumption|apply O|apply U|apply V|apply z6)|(intro _;rfl))))).mono ?_
 rintro e w2 ⟨rfl,L2,hs2,hps2⟩
 have HP2:=Z hps2
 have HW:Hid ((W.took m)=(if ({W with st:=W.st++[m],writes:=W.writes+1}:WM).due then _ else _)):=(rfl:W.took m=_)
 generalize hW2:({W with st:=W.st++[m],writes:=W.writes+1}:WM)=W2 at hs2 HW
 have HS2:Hid (WStep K L w L2 W2 w2):=(WStep.nil H0.out (HF0.out.trans (by exact(by repeat' first|(with_reducible first|apply G|assumption|apply O|apply U|apply V|apply z6)|(intro _;rfl))))).trans hs2
 have hc2:∀ n k,(w2.drewN n).cell? ⟨L.wb,k,none⟩=(W2.cells L2)[k]?:=fun n=>by rw[← HS2.out.wb];exact((HS2.out.rep.nil ((G _ _).drewN n)).blk).cell
 simp only[WM.cells] at hc2
 have HLW:Hid (L2.wb=L.wb):=HS2.out.wb
 clear hs2 hps2 hcm hc4 hW2 H0 HF0 HH HR
 generalize (w.alloc (Obj.cells #[Value.int IntKind.i64 M.refused,Value.int IntKind.i64 fulls] 111)).drewN _=wx
 have hlen2:0<L2.ps.length∧L2.ps.length<100000000:=by rw[HP2.out];simp;have:=HPL.out;omega
 have HSE:=Z (fun wx (f:Fr Nil w2 wx)=>WX K L2 W2 wx (HS2.out.rep.nil f) hlen2.1 hlen2.2)
 have HNE:Hid (L2.ps≠[]∧L2.ps.drop (L2.ps.length-1)≠[]):=by
  refine⟨fun e=>by rw[e] at hlen2;simp at hlen2,fun e=>?_⟩
  have:=congrArg List.length e
  simp at this
  omega
 clear hlen2
 rw[HLW.out] at HSE
 by_cases hy:0<W2.every
 ·by_cases hz:(W2.writes:Int).tmod W2.every=0
  ·have hdy:decide (0<W2.every)=true:=by simp[hy]
   have HD:=Z (show W2.due=true by simp[WM.due,hy,hz])
   go_wp2_with fail
   go_quiet (fail)
   go_wp2_with (refine(HSE.out _ (by exact(by repeat' first|(with_reducible first|apply G|assumption|apply O|apply U|apply V|apply z6)|(intro _;rfl)))).mono ?_;rintro e w3 ⟨rfl,L3,hs3,hps3⟩;have HS3:=Z hs3;have HP3:=Z hps3;clear hs3 hps3)
   go_ret
   exact⟨rfl,L3,by rw[HW.out,if_pos HD.out];exact HS2.out.trans ((WStep.nil HS2.out.rep (by exact(by repeat' first|(with_reducible first|apply G|assumption|apply O|apply U|apply V|apply z6)|(intro _;rfl)))).trans HS3.out),by rw[HP3.out];exact HNE.out.2⟩
  ·have hdy:decide (0<W2.every)=true:=by simp[hy]
   have hze:(W2.writes:Int).tmod W2.every=(W2.writes:Int)%W2.every:=Int.tmod_eq_emod_of_nonneg (by omega)
   have hdz:((W2.writes:Int)%W2.every==0)=false:=by rw[← hze];simp[hz]
   have hdz2:¬(W2.writes:Int)%W2.every=0:=by rw[← hze];exact hz
   have HD:=Z (show ¬W2.due=true by simp[WM.due,hz])
   clear hze
   go_wp2_with fail
   go_quiet (fail)
   go_wp2_with fail
   go_ret
   exact⟨rfl,L2,by rw[HW.out,if_neg HD.out];exact HS2.out.trans (WStep.nil HS2.out.rep (by exact(by repeat' first|(with_reducible first|apply G|assumption|apply O|apply U|apply V|apply z6)|(intro _;rfl)))),HNE.out.1⟩
 ·have hdy:decide (0<W2.every)=false:=by simp[hy]
  have HD:=Z (show ¬W2.due=true by simp[WM.due,hy])
  go_wp2_with fail
  go_quiet (fail)
  go_wp2_with fail
  go_ret
  exact⟨rfl,L2,by rw[HW.out,if_neg HD.out];exact HS2.out.trans (WStep.nil HS2.out.rep (by exact(by repeat' first|(with_reducible first|apply G|assumption|apply O|apply U|apply V|apply z6)|(intro _;rfl)))),HNE.out.1⟩
theorem Ty.lt{w:World}{k:Nat}{t:TypeId}(h:Ty w k t):k<w.heap.size:=by
 obtain⟨c,f,h⟩:=h
 exact Nat.lt_of_not_le fun hle=>by rw[Array.getElem?_eq_none hle] at h;exact absurd h (by simp)
theorem NRep.lt{w:World}{L:NL}{N:NM}{M:DM}(h:NRep w L N M){k:Nat}(hk:NFoot L M k):k<w.heap.size:=by
 rcases hk with rfl|rfl|hk|hk
 ·exact h.blk.lt
 ·exact Blk.lt h.log
 ·rcases h.held.foot_ty hk with e|e|e <;> exact e.lt
 ·obtain⟨t,ht,_⟩:=h.disk.ty hk
  exact ht.lt
theorem WAt.read{K:Nat→Prop}{w:World}{L:WL}{W:WM}(h:WAt K w L W){X:NL}{N:NM}{M:DM}(hn:NRep w X N M){k:Nat}(hk:SRead X.LS k):¬WFoot L k:=by
 intro hf
 obtain⟨t,ht,hd⟩:=h.ty hf
 have:=ht.inj (hn.held.read_ty hk)
 subst this
 unfold WTy at hd
 rcases hd with e|e|e|e|e|e <;> exact absurd e (by decide)
structure Play(K:Nat→Prop)(B:Nat)(w:World)(L:WL)(W:WM)(X:NL)(N:NM)(M:DM):Prop where
 wat:WAt K w L W
 node:NRep w X N M
 env:ZT B X M w
 nv:L.nv=.pointer (some ⟨X.nb,0,none⟩)
 db:L.db=X.db
 sep:∀ k,K k→¬NFoot X M k
 low:∀ k,WFoot L k→B≤k
def PFoot(L:WL)(X:NL)(M:DM)(k:Nat):Prop:=WFoot L k∨NFoot X M k
structure PStep(K:Nat→Prop)(B:Nat)(L:WL)(X:NL)(M:DM)(w:World)(K':Nat→Prop)(L':WL)(W':WM)(X':NL)(N':NM)(M':DM)(w':World):Prop where
 rep:Play K' B w' L' W' X' N' M'
 old:∀ k,K k→K' k
 new:∀ k,K' k→K k∨w.heap.size≤k
 fr:Fr (PFoot L X M) w w'
 foot:∀ k,PFoot L' X' M' k→PFoot L X M k∨w.heap.size≤k
 wb:L'.wb=L.wb
theorem PStep.trans{B:Nat}{K1 K2 K3:Nat→Prop}{L1 L2 L3:WL}{W2 W3:WM}{X1 X2 X3:NL}{N2 N3:NM}{M1 M2 M3:DM}{w1 w2 w3:World}
  (h:PStep K1 B L1 X1 M1 w1 K2 L2 W2 X2 N2 M2 w2)(k:PStep K2 B L2 X2 M2 w2 K3 L3 W3 X3 N3 M3 w3):PStep K1 B L1 X1 M1 w1 K3 L3 W3 X3 N3 M3 w3 where
 rep:=k.rep
 old:=fun i e=>k.old i (h.old i e)
 new:=fun i e=>(k.new i e).elim (h.new i) (fun e=>.inr (Nat.le_trans h.fr.size e))
 fr:=h.fr.trans' k.fr (fun i hi e=>(h.foot i e).resolve_right (by omega))
 foot:=fun i e=>(k.foot i e).elim (h.foot i) (fun e=>.inr (Nat.le_trans h.fr.size e))
 wb:=k.wb.trans h.wb
theorem Play.nil{K:Nat→Prop}{B:Nat}{w w':World}{L:WL}{W:WM}{X:NL}{N:NM}{M:DM}(h:Play K B w L W X N M)(f:Fr Nil w w'):PStep K B L X M w K L W X N M w' :=
 ⟨⟨h.wat.nil f,h.node.nil f,h.env.nil f,h.nv,h.db,h.sep,h.low⟩,fun _ e=>e,fun _ e=>.inl e,f.mono (fun _ _ e=>absurd e id),fun _ e=>.inl e,rfl⟩
theorem Play.gr{K:Nat→Prop}{B:Nat}{w w':World}{L:WL}{W:WM}{X:NL}{N:NM}{M:DM}(h:Play K B w L W X N M)(f:Fr Nil w w'):PStep K B L X M w (KGr K w w') L W X N M w' :=
 ⟨⟨h.wat.gr f,h.node.nil f,h.env.nil f,h.nv,h.db,fun k e hf=>e.elim (fun e=>h.sep k e hf) (fun e=>by have:=h.node.lt hf;omega),h.low⟩,fun _ e=>.inl e,fun k e=>e.elim .inl (fun e=>.inr e.1),f.mono (fun _ _ e=>absurd e id),fun _ e=>.inl e,rfl⟩
theorem Play.call{K:Nat→Prop}{B:Nat}{w w':World}{L:WL}{W:WM}{X X':NL}{N N':NM}{M M':DM}(h:Play K B w L W X N M)(s:NStep X M w X' N' M' w'):PStep K B L X M w K L W X' N' M' w' where
 rep:=⟨(h.wat.step h.node s h.sep).1,s.rep,h.env.step s,by rw[h.nv,s.same.nb],by rw[h.db,s.same.db],(h.wat.step h.node s h.sep).2,h.low⟩
 old:=fun _ e=>e
 new:=fun _ e=>.inl e
 fr:=s.fr.mono (fun _ _ e=>.inr e)
 foot:=fun k e=>e.elim (fun e=>.inl (.inl e)) (fun e=>(s.foot k e).elim (fun e=>.inl (.inr e)) .inr)
 wb:=rfl
theorem Play.turn{K:Nat→Prop}{B:Nat}{w w':World}{L L':WL}{W W':WM}{X:NL}{N:NM}{M:DM}(h:Play K B w L W X N M)(s:WStep K L w L' W' w'):PStep K B L X M w K L' W' X N M w' where
 rep:=⟨s.rep,h.node.fr s.fr (fun k hk hf=>h.wat.node h.node hf hk) (fun k hk=>h.wat.read h.node hk),⟨h.env.tab.fr h.env.le s.fr h.low,Nat.le_trans h.env.le s.fr.size,h.env.foot⟩,by rw[s.nv,h.nv],by rw[s.db,h.db],h.sep,fun k e=>(s.foot k e).elim (h.low k) (fun e=>Nat.le_trans h.env.le e)⟩
 old:=fun _ e=>e
 new:=fun _ e=>.inl e
 fr:=s.fr.mono (fun _ _ e=>.inl e)
 foot:=fun k e=>e.elim (fun e=>(s.foot k e).elim (fun e=>.inl (.inl e)) .inr) (fun e=>.inl (.inr e))
 wb:=s.wb
structure OpM where
 kind:Int
 a:Int
 b:Int
 c:Int
 key:ByteArray
 text:ByteArray
 v:Ver
 tails:Value
def OpM.cells(o:OpM):List Value:=[.int .i64 o.kind,.int .i64 o.a,.int .i64 o.b,.int .i64 o.c,.string o.key,.string o.text]++o.v.cells++[o.tails]
theorem Play.lt{K:Nat→Prop}{B:Nat}{w:World}{L:WL}{W:WM}{X:NL}{N:NM}{M:DM}(h:Play K B w L W X N M){k:Nat}(hk:PFoot L X M k):k<w.heap.size :=
 hk.elim (h.wat.lt k) (fun e=>h.node.lt e)
theorem Play.marks{K:Nat→Prop}{B:Nat}{w:World}{L:WL}{W:WM}{X:NL}{N:NM}{M:DM}(h:Play K B w L W X N M):DRep w L.db X.LD M:=by rw[h.db];exact h.node.disk
theorem Me(herr:zr)(K:Nat→Prop)(B:Nat)(L:WL)(W:WM)(X:NL)(N:NM)(M:DM)(o:OpM)(w:World)(h:Play K B w L W X N M)(hk:o.kind=2)(hbr:W.broken=false)(hp:0<L.ps.length)(hl:L.ps.length<1000000)(hca:W.calls<10000000)(hwr:W.writes<100000000)
  (hkey:zm o.key=true)(hval:o.text.size≤128)(hnode:∀ u∈zc N.S.keys o.key,zE u.node)(m:LM)(hm:W.st[L.ps.length-1]?=some m)(hmk:m.keys.length<100000000)(hmn:∀ u∈zL m.keys o.key,zE u.node)
  (hfit:∀ H,w.heap.size≤H→Xn N M H o.key (putV o.key o.text))
  (hcalm:∀ f g,w.heap.size≤f→w.heap.size≤g→Apart2 N M f g→(N.put M o.key o.text f g).2.1=0∧(N.put M o.key o.text f g).2.2.2.refused=M.refused∧W.most<(N.put M o.key o.text f g).1∧(N.put M o.key o.text f g).1≤16*(W.calls+1)) :
  Calls Tryz.prog 61 #[.pointer (some ⟨L.wb,0,none⟩),.agg o.cells.toArray] w fun e w'=>e=.returned (.bool true)∧∃ f g K' L' X',w.heap.size≤f∧w.heap.size≤g∧Apart2 N M f g∧L'.ps≠[] ∧
   PStep K B L X M w K' L' (({W with calls:=W.calls+1,most:=(N.put M o.key o.text f g).1}:WM).took (m.put o.key o.text (N.put M o.key o.text f g).1)) X' (N.put M o.key o.text f g).2.2.1 (N.put M o.key o.text f g).2.2.2 w':=by
 obtain⟨kind,a,b,c,key,text,v,tails⟩:=o
 simp only at hk hkey hval hnode hmn hfit hcalm ⊢
 subst hk
 have hbad:Zc key text=0:=by unfold Zc;rw[if_pos hkey,if_neg (by omega)]
 have HBP:=Z (fun wx=>YN key text wx)
 rw[hbad] at HBP
 simp only[OpM.cells,Ver.cells,List.cons_append,List.nil_append]
 have f1:Fr Nil w (w.alloc (.cells #[.int .i64 2,.int .i64 a,.int .i64 b,.int .i64 c,.string key,.string text,.int .i64 v.node,.int .i64 v.seq,.int .i64 v.o0,.int .i64 v.o1,.int .i64 v.o2,.int .i64 v.o3,.string v.value,.bool v.gone,tails] 39)):=(G _ _).alloc _
 have hb1:=Blk.new w [.int .i64 2,.int .i64 a,.int .i64 b,.int .i64 c,.string key,.string text,.int .i64 v.node,.int .i64 v.seq,.int .i64 v.o0,.int .i64 v.o1,.int .i64 v.o2,.int .i64 v.o3,.string v.value,.bool v.gone,tails] 39
 have HM:=Z (fun wx (f:Fr Nil w wx)=>zQ K L W X.LD M wx (h.wat.nil f) ((h.marks).nil f))
 have HF:=Z (fun wx (f:Fr Nil w wx)=>Z2 K L W X.LD M wx (h.wat.nil f) ((h.marks).nil f))
 have HC:=Z (fun wx (f:Fr Nil w wx)=>zq wx L.db X.LD M ((h.marks).nil f))
 have hc1:=hb1.cell
 have HF1:=Z f1
 have HB1:=Z hb1
 have HH:=Z h
 have HNO:=Z hnode
 have HFI:=Z hfit
 have HCA:=Z hcalm
 clear h f1 hb1 hnode hfit hcalm
 go_enter Tryz.func61,Tryz.ntmps61
 go_wp2_with fail
 generalize hwa:w.alloc (.cells #[.int .i64 2,.int .i64 a,.int .i64 b,.int .i64 c,.string key,.string text,.int .i64 v.node,.int .i64 v.seq,.int .i64 v.o0,.int .i64 v.o1,.int .i64 v.o2,.int .i64 v.o3,.string v.value,.bool v.gone,tails] 39)=wa at hc1 HF1 HB1 ⊢
 refine(HBP.out _).mono ?_
 rintro e wx ⟨rfl,hwx⟩
 subst wx
 have HBX:Hid (∀ wx,Fr (fun k=>k<w.heap.size) wa wx→∀ k,wx.cell? ⟨w.heap.size,k,none⟩=wa.cell? ⟨w.heap.size,k,none⟩):=fun wx f k=>((HB1.out.fr f (Nat.lt_irrefl _)).cell k).trans (HB1.out.cell k).symm
 have HC1:=Z hc1
 have HLT:Hid (w.heap.size<wa.heap.size):=HB1.out.lt
 clear hwa HB1
 go_wp2_with fail
 refine(HM.out wa HF1.out).mono ?_
 rintro e w2 ⟨rfl,f2⟩
 have f02:Fr Nil w w2:=HF1.out.trans f2
 have hlt2:w.heap.size<w2.heap.size:=by have:=HLT.out;have:=f2.size;omega
 have F2:=Z f2
 have f3:Fr Nil w (w2.alloc (.cells #[.int .i64 M.refused,.int .i64 M.fulls] 111)):=f02.alloc _
 have hb3:=Blk.new w2 [.int .i64 M.refused,.int .i64 M.fulls] 111
 have hc3:=(HH.out.wat.nil f3).blk.cell
 simp only[WM.cells] at hc3
 have F02:=Z f02
 have HLT2:=Z hlt2
 have F3:=Z f3
 have HB3:=Z hb3
 clear f2 f02 hlt2 f3 hb3
 go_wp2_with (refine(HC.out _ F3.out).mono ?_;rintro e wx ⟨rfl,hwx⟩;subst wx)
 refine(HF.out _ F3.out).mono ?_
 rintro e w4 ⟨rfl,f4⟩
 have f34:Fr Nil w w4:=F3.out.trans f4
 have h4:=(HH.out.nil f34).rep
 have hc4:∀ n k,(w4.drewN n).cell? ⟨L.wb,k,none⟩=(W.cells L)[k]?:=fun n=>(h4.wat.blk.drewN n).cell
 simp only[WM.cells] at hc4
 have hx4:∀ k,w4.cell? ⟨w.heap.size,k,none⟩=([.int .i64 2,.int .i64 a,.int .i64 b,.int .i64 c,.string key,.string text,.int .i64 v.node,.int .i64 v.seq,.int .i64 v.o0,.int .i64 v.o1,.int .i64 v.o2,.int .i64 v.o3,.string v.value,.bool v.gone,tails]:List Value)[k]?:=fun k=>(HBX.out w4 (((F2.out.alloc _).trans f4).mono (fun _ _ e=>absurd e id)) k).trans (HC1.out k)
 have hx5:∀ n k,(w4.drewN n).cell? ⟨w.heap.size,k,none⟩=([.int .i64 2,.int .i64 a,.int .i64 b,.int .i64 c,.string key,.string text,.int .i64 v.node,.int .i64 v.seq,.int .i64 v.o0,.int .i64 v.o1,.int .i64 v.o2,.int .i64 v.o3,.string v.value,.bool v.gone,tails]:List Value)[k]?:=fun n k=>hx4 k
 have HF34:=Z f34
 have HF4:=Z f4
 have H4:=Z h4
 rw[HH.out.nv] at hc4
 clear f34 f4 h4 hc3 hc1
 generalize IntKind.i64.wrap ((if W.room<0 then 1152921504606846976 else W.room)-M.used)=fr
 have HPUT:=Z (fun wx (f:Fr Nil w4 wx)=>XU herr B X N M key text wx (H4.out.node.nil f) (H4.out.env.nil f) HNO.out (fun _ _=>HFI.out _ (HF34.out.trans f).size))
 have HK:Hid (∀ wx w' X' N' M',Fr Nil w4 wx→NStep X M wx X' N' M' w'→w'.cell? ⟨L.wb,5,none⟩=some (.pointer (some ⟨X.nb,0,none⟩))∧w'.cell? ⟨w.heap.size,4,none⟩=some (.string key)∧w'.cell? ⟨w.heap.size,5,none⟩=some (.string text)):=by
  intro wx w' X' N' M' f s
  have hw:=(((H4.out.nil f).rep.call s).rep.wat).blk.cell 5
  have hfx:Fr (fun k=>k<w.heap.size) wa w':=((((F2.out.alloc _).trans HF4.out).trans f).mono (S':=fun k=>k<w.heap.size) (fun _ _ e=>absurd e id)).trans' (s.fr.mono (S':=fun k=>k<w.heap.size) (fun k _ e=>HH.out.lt (.inr e))) (fun _ _ e=>e)
  refine⟨hw.trans ?_,(HBX.out w' hfx 4).trans (HC1.out 4),(HBX.out w' hfx 5).trans (HC1.out 5)⟩
  show some L.nv=_
  rw[HH.out.nv]
 have HKN:Hid (∀ wx,Fr Nil w4 wx→wx.cell? ⟨L.wb,5,none⟩=some (.pointer (some ⟨X.nb,0,none⟩))∧wx.cell? ⟨w.heap.size,4,none⟩=some (.string key)∧wx.cell? ⟨w.heap.size,5,none⟩=some (.string text)):=fun wx f=>HK.out wx wx X N M f (NStep.nil (H4.out.node.nil f) (G _ _))
 go_wp2_with fail
 have hcc:=HKN.out w4 (G _ _)
 clear hx5 hc4
 go_region_held3 (fun w'=>w'.cell? ⟨L.wb,5,none⟩=some (.pointer (some ⟨X.nb,0,none⟩))∧w'.cell? ⟨w.heap.size,4,none⟩=some (.string key)∧w'.cell? ⟨w.heap.size,5,none⟩=some (.string text)) (first|assumption|go_keep)
  (first|(go_at_call 22;refine(HPUT.out _ (by repeat' first|(with_reducible first|apply G|assumption|apply O|apply U|apply V|apply z6)|(intro _;rfl))).mono ?_;rintro e w5 ⟨f,g,X5,rfl,hf5,hg5,hap5,hs5⟩;have hz5:=HK.out _ _ _ _ _ (by repeat' first|(with_reducible first|apply G|assumption|apply O|apply U|apply V|apply z6)|(intro _;rfl)) hs5;have HS5:=Z (NStep.trans (NStep.nil H4.out.node (by exact(by repeat' first|(with_reducible first|apply G|assumption|apply O|apply U|apply V|apply z6)|(intro _;rfl)))) hs5);have HFF:=Z hf5;have HGG:=Z hg5;have HAP:=Z hap5;clear hs5 hf5 hg5 hap5))
 have HX4:Hid (∀ wx K' L' W' X' N' M',PStep K B L X M w4 K' L' W' X' N' M' wx→(∀ k,wx.cell? ⟨w.heap.size,k,none⟩=([.int .i64 2,.int .i64 a,.int .i64 b,.int .i64 c,.string key,.string text,.int .i64 v.node,.int .i64 v.seq,.int .i64 v.o0,.int .i64 v.o1,.int .i64 v.o2,.int .i64 v.o3,.string v.value,.bool v.gone,tails]:List Value)[k]?)∧(∀ k,wx.cell? ⟨w2.heap.size,k,none⟩=[Value.int .i64 M.refused,.int .i64 M.fulls][k]?)):=by
  intro wx K' L' W' X' N' M' s
  have fl:Fr (fun k=>k<w.heap.size) w4 wx:=s.fr.mono (fun k _ e=>HH.out.lt e)
  refine⟨fun k=>(HBX.out wx ((((F2.out.alloc _).trans HF4.out).mono (S':=fun k=>k<w.heap.size) (fun _ _ e=>absurd e id)).trans' fl (fun _ _ e=>e)) k).trans (HC1.out k),?_⟩
  exact(HB3.out.fr ((HF4.out.mono (S':=fun k=>k<w.heap.size) (fun _ _ e=>absurd e id)).trans' fl (fun _ _ e=>e)) (by have:=HLT2.out;omega)).cell
 have hq:=HCA.out f g (Nat.le_trans HF34.out.size HFF.out) (Nat.le_trans HF34.out.size HGG.out) HAP.out
 have hP5:=H4.out.call HS5.out
 have HN0:=Z hq
 rw[hq.1]
 obtain⟨n,hn⟩:∃ n,n=(N.put M key text f g).1:=⟨_,rfl⟩
 rw[← hn] at hq ⊢
 obtain⟨M5,hM5⟩:∃ M5,M5=(N.put M key text f g).2.2.2:=⟨_,rfl⟩
 obtain⟨N5,hN5⟩:∃ N5,N5=(N.put M key text f g).2.2.1:=⟨_,rfl⟩
 rw[← hM5,← hN5] at hP5
 rw[← hM5] at hq
 have HEQ:=Z (And.intro hn (And.intro hN5 hM5))
 have HQ:=Z hq
 have hc5:=hP5.rep.wat.blk.cell
 have hfz5:=hP5.rep.wat.blk.frozen
 simp only[WM.cells,hbr] at hc5
 have hwc:IntKind.i64.wrap ((W.calls:Int)+1)=((W.calls+1:Nat):Int):=by rw[IntKind.wrap_i64];push_cast;omega
 have HP6:=Z (hP5.trans (hP5.rep.turn (WStep.set hP5.rep.wat 11 (.int .i64 ((W.calls:Int)+1)) (L':=L) (W':={W with calls:=W.calls+1}) (by simp[WM.cells]) rfl rfl rfl rfl rfl rfl rfl rfl rfl rfl rfl rfl rfl)))
 have HP5:=Z hP5
 have hx5:=(HX4.out _ _ _ _ _ _ _ hP5).1
 clear hP5 hn hN5 hM5 hq hcc hz5 HN0 HK HKN HPUT HS5 hx4
 go_wp2_with fail
 generalize w5.setCell ⟨L.wb,11,none⟩ (.int .i64 ((W.calls:Int)+1))=w6 at HP6 ⊢
 clear hc5 hfz5 hx5 HP5
 refine(VL K L _ n w6 HP6.out.rep.wat (by show W.calls+1<_;omega) HQ.out.2.2.1 HQ.out.2.2.2).mono ?_
 rintro e w7 ⟨rfl,hs7⟩
 have hP7:=HP6.out.trans (HP6.out.rep.turn hs7)
 have HP7:=Z hP7
 have hx7:=(HX4.out _ _ _ _ _ _ _ hP7).1
 have hst7:=hP7.rep.wat.ple
 simp only at hst7
 have hlm:W.st[L.ps.length-1]'(by omega)=m:=by rw[List.getElem?_eq_getElem (by omega)] at hm;exact Option.some.inj hm
 have HNOW:=Z (fun wx (f:Fr Nil w7 wx)=>zV K L _ wx (hP7.rep.wat.nil f) hp (by omega))
 have hlast:=(hP7.rep.wat.last hp).2
 simp only[hlm] at hlast
 have hlt7:L.ps[L.ps.length-1]<w7.heap.size:=by obtain⟨c0,hb0⟩:=hlast.blk;exact hb0.lt
 obtain⟨q,hqq⟩:∃ q,q=L.ps[L.ps.length-1]:=⟨_,rfl⟩
 rw[← hqq] at hlast hlt7 HNOW
 have HQQ:=Z hqq
 have HDEL:=Z (fun wx (f:Fr Nil w7 wx)=>WW K q m key wx (hlast.keep (zI.of_fr f (fun k e=>⟨(hP7.rep.wat.keep k e).1,id⟩)) (fun _ e=>e)) hmk)
 have HPUM:=Z (fun wx (f:Fr Nil w7 wx)=>PN K q m key text n wx (hlast.keep (zI.of_fr f (fun k e=>⟨(hP7.rep.wat.keep k e).1,id⟩)) (fun _ e=>e)) hmk hmn)
 have HLT7:=Z hlt7
 have HCK:Hid (∀ wx,Fr Nil w7 wx→∀ k,wx.cell? ⟨w.heap.size,k,none⟩=([.int .i64 2,.int .i64 a,.int .i64 b,.int .i64 c,.string key,.string text,.int .i64 v.node,.int .i64 v.seq,.int .i64 v.o0,.int .i64 v.o1,.int .i64 v.o2,.int .i64 v.o3,.string v.value,.bool v.gone,tails]:List Value)[k]?):=fun wx f=>(HX4.out _ _ _ _ _ _ _ (hP7.trans (hP7.rep.nil f))).1
 clear hs7 hP7 hlm hlast hlt7 hqq HP6
 go_wp2_with fail
 go_region_held3 (fun w'=>w'.cell? ⟨w.heap.size,4,none⟩=some (.string key)) (first|assumption|go_keep)
  (first
  | (go_at_call 108;refine(HDEL.out _ (by repeat' first|(with_reducible first|apply G|assumption|apply O|apply U|apply V|apply z6)|(intro _;rfl))).mono ?_;rintro e w8 ⟨nb8,rfl,_,hf8,_⟩;have hF8:Fr Nil w7 w8:=Fr.trans (by repeat' first|(with_reducible first|apply G|assumption|apply O|apply U|apply V|apply z6)|(intro _;rfl)) hf8;have HF8:=Z hF8;have hz8:=HCK.out w8 hF8 4;clear hf8 hF8)
  | (go_at_call 107;refine(HNOW.out _ (by repeat' first|(with_reducible first|apply G|assumption|apply O|apply U|apply V|apply z6)|(intro _;rfl))).mono ?_;rintro e w9 ⟨rfl,n9,hw9⟩;subst w9))
 have hx8:=HCK.out w8 HF8.out
 clear hx7 hz8
 go_wp2_with fail
 have hz0:w8.cell? ⟨w.heap.size,4,none⟩=some (.string key)∧w8.cell? ⟨w.heap.size,5,none⟩=some (.string text):=⟨hx8 4,hx8 5⟩
 clear hx8
 go_region_held3 (fun w'=>w'.cell? ⟨w.heap.size,4,none⟩=some (.string key)∧w'.cell? ⟨w.heap.size,5,none⟩=some (.string text)) (first|assumption|go_keep)
  (first
  | (go_at_call 109;refine(HPUM.out _ (HF8.out.trans (by exact(by repeat' first|(with_reducible first|apply G|assumption|apply O|apply U|apply V|apply z6)|(intro _;rfl))))).mono ?_;rintro e w9 ⟨nb,rfl,hr9,hf9,hn9⟩;have hF9:Fr Nil w8 w9:=Fr.trans (by repeat' first|(with_reducible first|apply G|assumption|apply O|apply U|apply V|apply z6)|(intro _;rfl)) hf9;have hz9:w9.cell? ⟨w.heap.size,4,none⟩=some (.string key)∧w9.cell? ⟨w.heap.size,5,none⟩=some (.string text):=⟨HCK.out w9 (HF8.out.trans hF9) 4,HCK.out w9 (HF8.out.trans hF9) 5⟩;have HR9:=Z hr9;have HP9:=Z (HP7.out.trans ((HP7.out.rep.nil (HF8.out.trans (by exact(by repeat' first|(with_reducible first|apply G|assumption|apply O|apply U|apply V|apply z6)|(intro _;rfl))))).trans ((HP7.out.rep.nil (HF8.out.trans (by exact(by repeat' first|(with_reducible first|apply G|assumption|apply O|apply U|apply V|apply z6)|(intro _;rfl))))).rep.gr hf9)));have HF9:=Z hF9;have HN9:=Z hn9;clear hf9 hF9 hr9 hn9)
  | (go_at_call 107;refine(HNOW.out _ (HF8.out.trans (by exact(by repeat' first|(with_reducible first|apply G|assumption|apply O|apply U|apply V|apply z6)|(intro _;rfl))))).mono ?_;rintro e w9 ⟨rfl,n9,hw9⟩;subst w9))
 have hcm:=(HX4.out _ _ _ _ _ _ _ HP9.out).2
 have hcb:=(HX4.out _ _ _ _ _ _ _ HP9.out).1
 have HEND:=Z (Xi _ L _ X5.LD M5 nb (m.put key text n) fr M.fulls w9 HP9.out.rep.wat HP9.out.rep.marks hp (by omega) HR9.out (by rw[← HQQ.out];have h1:=HLT7.out;have h2:w8.heap.size≤nb:=HN9.out;have h3:=HF8.out.size;omega) (by show W.writes<_;omega))
 rw[HQ.out.2.1] at HEND
 clear hz0
 go_wp2_with fail
 refine HEND.out.mono ?_
 rintro e w10 ⟨rfl,L10,hs10,hps10⟩
 have HS10:=Z hs10
 have HPS:=Z hps10
 clear hs10 hps10
 go_wp2_with fail
 go_ret
 have h:=(HH.out.nil HF34.out).trans (HP9.out.trans (HP9.out.rep.turn HS10.out))
 rw[HEQ.out.1,HEQ.out.2.1,HEQ.out.2.2] at h
 exact⟨rfl,f,g,_,L10,X5,Nat.le_trans HF34.out.size HFF.out,Nat.le_trans HF34.out.size HGG.out,HAP.out,HPS.out,h⟩
theorem Qz(herr:zr)(K:Nat→Prop)(B:Nat)(L:WL)(W:WM)(X:NL)(N:NM)(M:DM)(o:OpM)(w:World)(h:Play K B w L W X N M)(hk:o.kind=3)(hbr:W.broken=false)(hp:0<L.ps.length)(hl:L.ps.length<1000000)(hca:W.calls<10000000)(hwr:W.writes<100000000)
  (hkey:zm o.key=true)(m:LM)(hm:W.st[L.ps.length-1]?=some m)(hmk:m.keys.length<100000000)
  (hfit:∀ H,w.heap.size≤H→Xn N M H o.key (fun _ _=>[]))
  (hcalm:∀ f g,w.heap.size≤f→w.heap.size≤g→Apart2 N M f g→(N.delete M o.key f g).2.1=0∧(N.delete M o.key f g).2.2.2.refused=M.refused∧W.most<(N.delete M o.key f g).1∧(N.delete M o.key f g).1≤16*(W.calls+1)) :
  Calls Tryz.prog 61 #[.pointer (some ⟨L.wb,0,none⟩),.agg o.cells.toArray] w fun e w'=>e=.returned (.bool true)∧∃ f g K' L' X',w.heap.size≤f∧w.heap.size≤g∧Apart2 N M f g∧L'.ps≠[] ∧
   PStep K B L X M w K' L' (({W with calls:=W.calls+1,most:=(N.delete M o.key f g).1}:WM).took (m.delete o.key)) X' (N.delete M o.key f g).2.2.1 (N.delete M o.key f g).2.2.2 w':=by
 obtain⟨kind,a,b,c,key,text,v,tails⟩:=o
 simp only at hk hkey hfit hcalm ⊢
 subst hk
 have hbad:zT key=0:=by unfold zT;rw[if_pos hkey]
 have HBP:=Z (fun wx=>YN key text wx)
 have HBK:=Z (fun wx=>ZY key wx)
 rw[hbad] at HBK
 generalize Zc key text=bp at HBP
 simp only[OpM.cells,Ver.cells,List.cons_append,List.nil_append]
 have f1:Fr Nil w (w.alloc (.cells #[.int .i64 3,.int .i64 a,.int .i64 b,.int .i64 c,.string key,.string text,.int .i64 v.node,.int .i64 v.seq,.int .i64 v.o0,.int .i64 v.o1,.int .i64 v.o2,.int .i64 v.o3,.string v.value,.bool v.gone,tails] 39)):=(G _ _).alloc _
 have hb1:=Blk.new w [.int .i64 3,.int .i64 a,.int .i64 b,.int .i64 c,.string key,.string text,.int .i64 v.node,.int .i64 v.seq,.int .i64 v.o0,.int .i64 v.o1,.int .i64 v.o2,.int .i64 v.o3,.string v.value,.bool v.gone,tails] 39
 have HM:=Z (fun wx (f:Fr Nil w wx)=>zQ K L W X.LD M wx (h.wat.nil f) ((h.marks).nil f))
 have HF:=Z (fun wx (f:Fr Nil w wx)=>Z2 K L W X.LD M wx (h.wat.nil f) ((h.marks).nil f))
 have HC:=Z (fun wx (f:Fr Nil w wx)=>zq wx L.db X.LD M ((h.marks).nil f))
 have hc1:=hb1.cell
 have HF1:=Z f1
 have HB1:=Z hb1
 have HH:=Z h
 have HFI:=Z hfit
 have HCA:=Z hcalm
 clear h f1 hb1 hfit hcalm
 go_enter Tryz.func61,Tryz.ntmps61
 go_wp2_with fail
 generalize hwa:w.alloc (.cells #[.int .i64 3,.int .i64 a,.int .i64 b,.int .i64 c,.string key,.string text,.int .i64 v.node,.int .i64 v.seq,.int .i64 v.o0,.int .i64 v.o1,.int .i64 v.o2,.int .i64 v.o3,.string v.value,.bool v.gone,tails] 39)=wa at hc1 HF1 HB1 ⊢
 refine(HBP.out _).mono ?_
 rintro e wx ⟨rfl,hwx⟩
 subst wx
 go_wp2_with fail
 refine(HBK.out _).mono ?_
 rintro e wx ⟨rfl,hwx⟩
 subst wx
 have HBX:Hid (∀ wx,Fr (fun k=>k<w.heap.size) wa wx→∀ k,wx.cell? ⟨w.heap.size,k,none⟩=wa.cell? ⟨w.heap.size,k,none⟩):=fun wx f k=>((HB1.out.fr f (Nat.lt_irrefl _)).cell k).trans (HB1.out.cell k).symm
 have HC1:=Z hc1
 have HLT:Hid (w.heap.size<wa.heap.size):=HB1.out.lt
 clear hwa HB1
 go_wp2_with fail
 refine(HM.out wa HF1.out).mono ?_
 rintro e w2 ⟨rfl,f2⟩
 have f02:Fr Nil w w2:=HF1.out.trans f2
 have hlt2:w.heap.size<w2.heap.size:=by have:=HLT.out;have:=f2.size;omega
 have F2:=Z f2
 have f3:Fr Nil w (w2.alloc (.cells #[.int .i64 M.refused,.int .i64 M.fulls] 111)):=f02.alloc _
 have hb3:=Blk.new w2 [.int .i64 M.refused,.int .i64 M.fulls] 111
 have hc3:=(HH.out.wat.nil f3).blk.cell
 simp only[WM.cells] at hc3
 have F02:=Z f02
 have HLT2:=Z hlt2
 have F3:=Z f3
 have HB3:=Z hb3
 clear f2 f02 hlt2 f3 hb3
 go_wp2_with (refine(HC.out _ F3.out).mono ?_;rintro e wx ⟨rfl,hwx⟩;subst wx)
 refine(HF.out _ F3.out).mono ?_
 rintro e w4 ⟨rfl,f4⟩
 have f34:Fr Nil w w4:=F3.out.trans f4
 have h4:=(HH.out.nil f34).rep
 have hc4:∀ n k,(w4.drewN n).cell? ⟨L.wb,k,none⟩=(W.cells L)[k]?:=fun n=>(h4.wat.blk.drewN n).cell
 simp only[WM.cells] at hc4
 have hx4:∀ k,w4.cell? ⟨w.heap.size,k,none⟩=([.int .i64 3,.int .i64 a,.int .i64 b,.int .i64 c,.string key,.string text,.int .i64 v.node,.int .i64 v.seq,.int .i64 v.o0,.int .i64 v.o1,.int .i64 v.o2,.int .i64 v.o3,.string v.value,.bool v.gone,tails]:List Value)[k]?:=fun k=>(HBX.out w4 (((F2.out.alloc _).trans f4).mono (fun _ _ e=>absurd e id)) k).trans (HC1.out k)
 have hx5:∀ n k,(w4.drewN n).cell? ⟨w.heap.size,k,none⟩=([.int .i64 3,.int .i64 a,.int .i64 b,.int .i64 c,.string key,.string text,.int .i64 v.node,.int .i64 v.seq,.int .i64 v.o0,.int .i64 v.o1,.int .i64 v.o2,.int .i64 v.o3,.string v.value,.bool v.gone,tails]:List Value)[k]?:=fun n k=>hx4 k
 have HF34:=Z f34
 have HF4:=Z f4
 have H4:=Z h4
 rw[HH.out.nv] at hc4
 clear f34 f4 h4 hc3 hc1
 generalize IntKind.i64.wrap ((if W.room<0 then 1152921504606846976 else W.room)-M.used)=fr
 have HPUT:=Z (fun wx (f:Fr Nil w4 wx)=>Ve herr B X N M key wx (H4.out.node.nil f) (H4.out.env.nil f) (fun _=>HFI.out _ (HF34.out.trans f).size))
 have HK:Hid (∀ wx w' X' N' M',Fr Nil w4 wx→NStep X M wx X' N' M' w'→w'.cell? ⟨L.wb,5,none⟩=some (.pointer (some ⟨X.nb,0,none⟩))∧w'.cell? ⟨w.heap.size,4,none⟩=some (.string key)∧w'.cell? ⟨w.heap.size,5,none⟩=some (.string text)):=by
  intro wx w' X' N' M' f s
  have hw:=(((H4.out.nil f).rep.call s).rep.wat).blk.cell 5
  have hfx:Fr (fun k=>k<w.heap.size) wa w':=((((F2.out.alloc _).trans HF4.out).trans f).mono (S':=fun k=>k<w.heap.size) (fun _ _ e=>absurd e id)).trans' (s.fr.mono (S':=fun k=>k<w.heap.size) (fun k _ e=>HH.out.lt (.inr e))) (fun _ _ e=>e)
  refine⟨hw.trans ?_,(HBX.out w' hfx 4).trans (HC1.out 4),(HBX.out w' hfx 5).trans (HC1.out 5)⟩
  show some L.nv=_
  rw[HH.out.nv]
 have HKN:Hid (∀ wx,Fr Nil w4 wx→wx.cell? ⟨L.wb,5,none⟩=some (.pointer (some ⟨X.nb,0,none⟩))∧wx.cell? ⟨w.heap.size,4,none⟩=some (.string key)∧wx.cell? ⟨w.heap.size,5,none⟩=some (.string text)):=fun wx f=>HK.out wx wx X N M f (NStep.nil (H4.out.node.nil f) (G _ _))
 go_wp2_with fail
 have hcc:=HKN.out w4 (G _ _)
 clear hx5 hc4
 go_region_held3 (fun w'=>w'.cell? ⟨L.wb,5,none⟩=some (.pointer (some ⟨X.nb,0,none⟩))∧w'.cell? ⟨w.heap.size,4,none⟩=some (.string key)∧w'.cell? ⟨w.heap.size,5,none⟩=some (.string text)) (first|assumption|go_keep)
  (first|(go_at_call 30;refine(HPUT.out _ (by repeat' first|(with_reducible first|apply G|assumption|apply O|apply U|apply V|apply z6)|(intro _;rfl))).mono ?_;rintro e w5 ⟨f,g,X5,rfl,hf5,hg5,hap5,hs5⟩;have hz5:=HK.out _ _ _ _ _ (by repeat' first|(with_reducible first|apply G|assumption|apply O|apply U|apply V|apply z6)|(intro _;rfl)) hs5;have HS5:=Z (NStep.trans (NStep.nil H4.out.node (by exact(by repeat' first|(with_reducible first|apply G|assumption|apply O|apply U|apply V|apply z6)|(intro _;rfl)))) hs5);have HFF:=Z hf5;have HGG:=Z hg5;have HAP:=Z hap5;clear hs5 hf5 hg5 hap5))
 have HX4:Hid (∀ wx K' L' W' X' N' M',PStep K B L X M w4 K' L' W' X' N' M' wx→(∀ k,wx.cell? ⟨w.heap.size,k,none⟩=([.int .i64 3,.int .i64 a,.int .i64 b,.int .i64 c,.string key,.string text,.int .i64 v.node,.int .i64 v.seq,.int .i64 v.o0,.int .i64 v.o1,.int .i64 v.o2,.int .i64 v.o3,.string v.value,.bool v.gone,tails]:List Value)[k]?)∧(∀ k,wx.cell? ⟨w2.heap.size,k,none⟩=[Value.int .i64 M.refused,.int .i64 M.fulls][k]?)):=by
  intro wx K' L' W' X' N' M' s
  have fl:Fr (fun k=>k<w.heap.size) w4 wx:=s.fr.mono (fun k _ e=>HH.out.lt e)
  refine⟨fun k=>(HBX.out wx ((((F2.out.alloc _).trans HF4.out).mono (S':=fun k=>k<w.heap.size) (fun _ _ e=>absurd e id)).trans' fl (fun _ _ e=>e)) k).trans (HC1.out k),?_⟩
  exact(HB3.out.fr ((HF4.out.mono (S':=fun k=>k<w.heap.size) (fun _ _ e=>absurd e id)).trans' fl (fun _ _ e=>e)) (by have:=HLT2.out;omega)).cell
 have hq:=HCA.out f g (Nat.le_trans HF34.out.size HFF.out) (Nat.le_trans HF34.out.size HGG.out) HAP.out
 have hP5:=H4.out.call HS5.out
 have HN0:=Z hq
 rw[hq.1]
 obtain⟨n,hn⟩:∃ n,n=(N.delete M key f g).1:=⟨_,rfl⟩
 rw[← hn] at hq ⊢
 obtain⟨M5,hM5⟩:∃ M5,M5=(N.delete M key f g).2.2.2:=⟨_,rfl⟩
 obtain⟨N5,hN5⟩:∃ N5,N5=(N.delete M key f g).2.2.1:=⟨_,rfl⟩
 rw[← hM5,← hN5] at hP5
 rw[← hM5] at hq
 have HEQ:=Z (And.intro hn (And.intro hN5 hM5))
 have HQ:=Z hq
 have hc5:=hP5.rep.wat.blk.cell
 have hfz5:=hP5.rep.wat.blk.frozen
 simp only[WM.cells,hbr] at hc5
 have hwc:IntKind.i64.wrap ((W.calls:Int)+1)=((W.calls+1:Nat):Int):=by rw[IntKind.wrap_i64];push_cast;omega
 have HP6:=Z (hP5.trans (hP5.rep.turn (WStep.set hP5.rep.wat 11 (.int .i64 ((W.calls:Int)+1)) (L':=L) (W':={W with calls:=W.calls+1}) (by simp[WM.cells]) rfl rfl rfl rfl rfl rfl rfl rfl rfl rfl rfl rfl rfl)))
 have HP5:=Z hP5
 have hx5:=(HX4.out _ _ _ _ _ _ _ hP5).1
 clear hP5 hn hN5 hM5 hq hcc hz5 HN0 HK HKN HPUT HS5 hx4
 go_wp2_with fail
 generalize w5.setCell ⟨L.wb,11,none⟩ (.int .i64 ((W.calls:Int)+1))=w6 at HP6 ⊢
 clear hc5 hfz5 hx5 HP5
 refine(VL K L _ n w6 HP6.out.rep.wat (by show W.calls+1<_;omega) HQ.out.2.2.1 HQ.out.2.2.2).mono ?_
 rintro e w7 ⟨rfl,hs7⟩
 have hP7:=HP6.out.trans (HP6.out.rep.turn hs7)
 have HP7:=Z hP7
 have hx7:=(HX4.out _ _ _ _ _ _ _ hP7).1
 have hst7:=hP7.rep.wat.ple
 simp only at hst7
 have hlm:W.st[L.ps.length-1]'(by omega)=m:=by rw[List.getElem?_eq_getElem (by omega)] at hm;exact Option.some.inj hm
 have HNOW:=Z (fun wx (f:Fr Nil w7 wx)=>zV K L _ wx (hP7.rep.wat.nil f) hp (by omega))
 have hlast:=(hP7.rep.wat.last hp).2
 simp only[hlm] at hlast
 have hlt7:L.ps[L.ps.length-1]<w7.heap.size:=by obtain⟨c0,hb0⟩:=hlast.blk;exact hb0.lt
 obtain⟨q,hqq⟩:∃ q,q=L.ps[L.ps.length-1]:=⟨_,rfl⟩
 rw[← hqq] at hlast hlt7 HNOW
 have HQQ:=Z hqq
 have HDEL:=Z (fun wx (f:Fr Nil w7 wx)=>WW K q m key wx (hlast.keep (zI.of_fr f (fun k e=>⟨(hP7.rep.wat.keep k e).1,id⟩)) (fun _ e=>e)) hmk)
 have HLT7:=Z hlt7
 have HCK:Hid (∀ wx,Fr Nil w7 wx→∀ k,wx.cell? ⟨w.heap.size,k,none⟩=([.int .i64 3,.int .i64 a,.int .i64 b,.int .i64 c,.string key,.string text,.int .i64 v.node,.int .i64 v.seq,.int .i64 v.o0,.int .i64 v.o1,.int .i64 v.o2,.int .i64 v.o3,.string v.value,.bool v.gone,tails]:List Value)[k]?):=fun wx f=>(HX4.out _ _ _ _ _ _ _ (hP7.trans (hP7.rep.nil f))).1
 clear hs7 hP7 hlm hlast hlt7 hqq HP6
 go_wp2_with fail
 go_region_held3 (fun w'=>w'.cell? ⟨w.heap.size,4,none⟩=some (.string key)) (first|assumption|go_keep)
  (first
  | (go_at_call 108;refine(HDEL.out _ (by repeat' first|(with_reducible first|apply G|assumption|apply O|apply U|apply V|apply z6)|(intro _;rfl))).mono ?_;rintro e w8 ⟨nb,rfl,hr8,hf8,hn8⟩;have hF8:Fr Nil w7 w8:=Fr.trans (by repeat' first|(with_reducible first|apply G|assumption|apply O|apply U|apply V|apply z6)|(intro _;rfl)) hf8;have HF8:=Z hF8;have hz8:=HCK.out w8 hF8 4;have HR9:=Z hr8;have HP9:=Z (HP7.out.trans ((HP7.out.rep.nil (by exact(by repeat' first|(with_reducible first|apply G|assumption|apply O|apply U|apply V|apply z6)|(intro _;rfl)))).trans ((HP7.out.rep.nil (by exact(by repeat' first|(with_reducible first|apply G|assumption|apply O|apply U|apply V|apply z6)|(intro _;rfl)))).rep.gr hf8)));have HN9:=Z hn8;clear hf8 hF8 hr8 hn8)
  | (go_at_call 107;refine(HNOW.out _ (by repeat' first|(with_reducible first|apply G|assumption|apply O|apply U|apply V|apply z6)|(intro _;rfl))).mono ?_;rintro e w9 ⟨rfl,n9,hw9⟩;subst w9))
 have hcm:=(HX4.out _ _ _ _ _ _ _ HP9.out).2
 have hcb:=(HX4.out _ _ _ _ _ _ _ HP9.out).1
 have HEND:=Z (Xi _ L _ X5.LD M5 nb (m.delete key) fr M.fulls w8 HP9.out.rep.wat HP9.out.rep.marks hp (by omega) HR9.out (by rw[← HQQ.out];have h1:=HLT7.out;have h2:w7.heap.size≤nb:=HN9.out;omega) (by show W.writes<_;omega))
 rw[HQ.out.2.1] at HEND
 clear hz8 hx7
 go_wp2_with fail
 refine HEND.out.mono ?_
 rintro e w10 ⟨rfl,L10,hs10,hps10⟩
 have HS10:=Z hs10
 have HPS:=Z hps10
 clear hs10 hps10
 go_wp2_with fail
 go_ret
 have h:=(HH.out.nil HF34.out).trans (HP9.out.trans (HP9.out.rep.turn HS10.out))
 rw[HEQ.out.1,HEQ.out.2.1,HEQ.out.2.2] at h
 exact⟨rfl,f,g,_,L10,X5,Nat.le_trans HF34.out.size HFF.out,Nat.le_trans HF34.out.size HGG.out,HAP.out,HPS.out,h⟩
end Go.Proofs.YtkhnggkkiefcdaaGreatDoor
