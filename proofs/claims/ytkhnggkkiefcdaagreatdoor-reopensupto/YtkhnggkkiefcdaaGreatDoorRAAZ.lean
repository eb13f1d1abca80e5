/- larder: joined texts -/
import Derived.Test.YtkhnggkkiefcdaaGreatDoorRAAY
import Derived.OpenShut
import Derived.Deep.Slices
import Derived.LaidSub
import Derived.Lib.LaidTab
import Derived.Stop.LaidErr
import Derived.Test.YtkhnggkkiefcdaaGreatDoorCards
import Derived.Test.YtkhnggkkiefcdaaGreatDoorTie
import Derived.WalkKit
import Derived.ProofKit
import Derived.Carry
import Derived.Lay
import Derived.LaidHandle
import Derived.Deep.DeepHandedRow
import Derived.Deep.DeepWitnessRowRef
namespace Go.Proofs.YtkhnggkkiefcdaaGreatDoor
open Go.RowKit
set_option maxRecDepth 100000
set_option maxHeartbeats 8000000
theorem Zs:Tryz.prog.cellsOf 3=1:=by kernel_rfl
theorem Oj:Tryz.prog.cellsOf 4=1:=by kernel_rfl
theorem UT:Tryz.prog.cellsOf 9=1:=by kernel_rfl
theorem NI:Tryz.prog.cellsOf 34=2:=by kernel_rfl
theorem Ok:Tryz.prog.cellsOf 35=4:=by kernel_rfl
theorem WZ:Tryz.prog.cellsOf 37=8:=by kernel_rfl
theorem Q0:Tryz.prog.cellsOf 39=15:=by kernel_rfl
theorem NJ:Tryz.prog.cellsOf 23=4:=by kernel_rfl
theorem Ye{H:Type}(d:DataW H):1≤Rows.uptoBulk d:=by
 cases d with
 | lit l=>cases l <;> simp[Rows.uptoBulk]
 | _=>simp[Rows.uptoBulk]
theorem U6{H:Type}(k:Nat):∀ (l:List (DataW H)),(∀ d∈l,k≤Rows.uptoBulk d)→k*l.length≤Rows.uptoBulkAll l
 | [],_=>by simp
 | d::l,h=>by
  have h1:=U6 k l (fun x hx=>h x (List.mem_cons_of_mem _ hx))
  have h2:=h d (List.mem_cons_self ..)
  simp only[Rows.uptoBulkAll,List.length_cons,Nat.mul_add,Nat.mul_one]
  omega
section
variable {H:Type} {enc:TypeId × Value→H} {W:World} {sp:Nat→Bool} {held:Bool} {n:Nat}
theorem Zy{c:Value}{x:DataW H × List MemPlace}(h:DataW.trod enc Tryz.prog W 0 sp held n 3 [c]=some x):∃ k,c=.int .i64 k:=by
 obtain⟨k,hk,_⟩:=DataW.trod_int Tryz.underlying3 h
 exact⟨k,by simpa using hk⟩
theorem U7{c:Value}{x:DataW H × List MemPlace}(h:DataW.trod enc Tryz.prog W 0 sp held n 9 [c]=some x):∃ s,c=.string s:=by
 obtain⟨k,hk,_⟩:=DataW.trod_string Tryz.underlying9 h
 exact⟨k,by simpa using hk⟩
theorem MF{c:Value}{x:DataW H × List MemPlace}(h:DataW.trod enc Tryz.prog W 0 sp held n 4 [c]=some x):∃ b,c=.bool b:=by
 obtain⟨k,hk,_⟩:=DataW.trod_bool Tryz.underlying4 h
 exact⟨k,by simpa using hk⟩
theorem Zz{α:Type}{l:List α}{i k:Nat}(hl:l.length=k)(hi:i<k):∃ x,l[i]?=some x:=⟨l[i]'(by omega),List.getElem?_eq_getElem (by omega)⟩
theorem MG{cs:List Value}{x:DataW H × List MemPlace}(h:DataW.trod enc Tryz.prog W 0 sp held n 23 cs=some x):∃ a b c d,cs=[.int .i64 a,.int .i64 b,.int .i64 c,.int .i64 d]:=by
 obtain⟨xs,m,_,_,hl,hxl,hf⟩:=DataW.trod_struct Tryz.underlying23 h
 rw[NJ] at hl
 match cs,hl with
 | [c0,c1,c2,c3],_ =>
  have f0:DataW.trod enc Tryz.prog W 0 sp held m 3 (([c0,c1,c2,c3].drop 0).take (Tryz.prog.cellsOf 3))=xs[0]?:=hf 0 _ rfl
  have f1:DataW.trod enc Tryz.prog W 0 sp held m 3 (([c0,c1,c2,c3].drop 1).take (Tryz.prog.cellsOf 3))=xs[1]?:=hf 1 _ rfl
  have f2:DataW.trod enc Tryz.prog W 0 sp held m 3 (([c0,c1,c2,c3].drop 2).take (Tryz.prog.cellsOf 3))=xs[2]?:=hf 2 _ rfl
  have f3:DataW.trod enc Tryz.prog W 0 sp held m 3 (([c0,c1,c2,c3].drop 3).take (Tryz.prog.cellsOf 3))=xs[3]?:=hf 3 _ rfl
  obtain⟨x0,e0⟩:=Zz (i:=0) hxl (by decide)
  obtain⟨x1,e1⟩:=Zz (i:=1) hxl (by decide)
  obtain⟨x2,e2⟩:=Zz (i:=2) hxl (by decide)
  obtain⟨x3,e3⟩:=Zz (i:=3) hxl (by decide)
  rw[e0,Zs] at f0
  rw[e1,Zs] at f1
  rw[e2,Zs] at f2
  rw[e3,Zs] at f3
  obtain⟨a,rfl⟩:=Zy f0
  obtain⟨b,rfl⟩:=Zy f1
  obtain⟨c,rfl⟩:=Zy f2
  obtain⟨d,rfl⟩:=Zy f3
  exact⟨a,b,c,d,rfl⟩
theorem Q3{cs:List Value}{x:DataW H × List MemPlace}(h:DataW.trod enc Tryz.prog W 0 sp held n 37 cs=some x):(∃ v:Ver,cs=v.cells)∧5≤Rows.uptoBulk x.1:=by
 obtain⟨xs,m,_,hx,hl,hxl,hf⟩:=DataW.trod_struct Tryz.underlying37 h
 rw[WZ] at hl
 refine⟨?_,?_⟩
 ·match cs,hl with
  | [c0,c1,c2,c3,c4,c5,c6,c7],_ =>
   have f0:DataW.trod enc Tryz.prog W 0 sp held m 34 (([c0,c1,c2,c3,c4,c5,c6,c7].drop 0).take (Tryz.prog.cellsOf 34))=xs[0]?:=hf 0 _ rfl
   have f1:DataW.trod enc Tryz.prog W 0 sp held m 35 (([c0,c1,c2,c3,c4,c5,c6,c7].drop 2).take (Tryz.prog.cellsOf 35))=xs[1]?:=hf 1 _ rfl
   have f2:DataW.trod enc Tryz.prog W 0 sp held m 9 (([c0,c1,c2,c3,c4,c5,c6,c7].drop 6).take (Tryz.prog.cellsOf 9))=xs[2]?:=hf 2 _ rfl
   have f3:DataW.trod enc Tryz.prog W 0 sp held m 4 (([c0,c1,c2,c3,c4,c5,c6,c7].drop 7).take (Tryz.prog.cellsOf 4))=xs[3]?:=hf 3 _ rfl
   obtain⟨x0,e0⟩:=Zz (i:=0) hxl (by decide)
   obtain⟨x1,e1⟩:=Zz (i:=1) hxl (by decide)
   obtain⟨x2,e2⟩:=Zz (i:=2) hxl (by decide)
   obtain⟨x3,e3⟩:=Zz (i:=3) hxl (by decide)
   rw[e0,NI] at f0
   rw[e1,Ok] at f1
   rw[e2,UT] at f2
   rw[e3,Oj] at f3
   obtain⟨s,rfl⟩:=U7 f2
   obtain⟨b,rfl⟩:=MF f3
   obtain⟨ys,m1,_,_,_,hyl,hg⟩:=DataW.trod_struct Tryz.underlying34 f0
   have g0:DataW.trod enc Tryz.prog W 0 sp held m1 3 (([c0,c1].drop 0).take (Tryz.prog.cellsOf 3))=ys[0]?:=hg 0 _ rfl
   have g1:DataW.trod enc Tryz.prog W 0 sp held m1 3 (([c0,c1].drop 1).take (Tryz.prog.cellsOf 3))=ys[1]?:=hg 1 _ rfl
   obtain⟨y0,d0⟩:=Zz (i:=0) hyl (by decide)
   obtain⟨y1,d1⟩:=Zz (i:=1) hyl (by decide)
   rw[d0,Zs] at g0
   rw[d1,Zs] at g1
   obtain⟨i0,rfl⟩:=Zy g0
   obtain⟨i1,rfl⟩:=Zy g1
   obtain⟨zs,m2,_,_,_,hzl,hh⟩:=DataW.trod_array Tryz.underlying35 f1
   have k0:=hh 0 (by decide)
   have k1:=hh 1 (by decide)
   have k2:=hh 2 (by decide)
   have k3:=hh 3 (by decide)
   obtain⟨z0,b0⟩:=Zz (i:=0) hzl (by decide)
   obtain⟨z1,b1⟩:=Zz (i:=1) hzl (by decide)
   obtain⟨z2,b2⟩:=Zz (i:=2) hzl (by decide)
   obtain⟨z3,b3⟩:=Zz (i:=3) hzl (by decide)
   rw[b0,Zs] at k0
   rw[b1,Zs] at k1
   rw[b2,Zs] at k2
   rw[b3,Zs] at k3
   obtain⟨o0,rfl⟩:=Zy k0
   obtain⟨o1,rfl⟩:=Zy k1
   obtain⟨o2,rfl⟩:=Zy k2
   obtain⟨o3,rfl⟩:=Zy k3
   exact⟨⟨i0,i1,o0,o1,o2,o3,s,b⟩,rfl⟩
 ·rw[hx]
  have:=U6 1 (xs.map (·.1)) (fun d _=>Ye d)
  rw[List.length_map,hxl] at this
  simp only[Rows.uptoBulk]
  exact Nat.succ_le_succ this
theorem L8{cs:List Value}{x:DataW H × List MemPlace}(h:DataW.trod enc Tryz.prog W 0 sp held n 39 cs=some x):(∃ o:OpM,cs=o.cells)∧13≤Rows.uptoBulk x.1:=by
 obtain⟨xs,m,_,hx,hl,hxl,hf⟩:=DataW.trod_struct Tryz.underlying39 h
 rw[Q0] at hl
 have f0:DataW.trod enc Tryz.prog W 0 sp held m 3 ((cs.drop 0).take (Tryz.prog.cellsOf 3))=xs[0]?:=hf 0 _ rfl
 have f1:DataW.trod enc Tryz.prog W 0 sp held m 3 ((cs.drop 1).take (Tryz.prog.cellsOf 3))=xs[1]?:=hf 1 _ rfl
 have f2:DataW.trod enc Tryz.prog W 0 sp held m 3 ((cs.drop 2).take (Tryz.prog.cellsOf 3))=xs[2]?:=hf 2 _ rfl
 have f3:DataW.trod enc Tryz.prog W 0 sp held m 3 ((cs.drop 3).take (Tryz.prog.cellsOf 3))=xs[3]?:=hf 3 _ rfl
 have f4:DataW.trod enc Tryz.prog W 0 sp held m 9 ((cs.drop 4).take (Tryz.prog.cellsOf 9))=xs[4]?:=hf 4 _ rfl
 have f5:DataW.trod enc Tryz.prog W 0 sp held m 9 ((cs.drop 5).take (Tryz.prog.cellsOf 9))=xs[5]?:=hf 5 _ rfl
 have f6:DataW.trod enc Tryz.prog W 0 sp held m 37 ((cs.drop 6).take (Tryz.prog.cellsOf 37))=xs[6]?:=hf 6 _ rfl
 have hxl8:xs.length=8:=hxl
 match xs,hxl8 with
 | [x0,x1,x2,x3,x4,x5,x6,x7],_ =>
  simp only[List.getElem?_cons_zero,List.getElem?_cons_succ] at f0 f1 f2 f3 f4 f5 f6
  rw[Zs] at f0 f1 f2 f3
  rw[UT] at f4 f5
  rw[WZ] at f6
  obtain⟨hv,hb⟩:=Q3 f6
  refine⟨?_,?_⟩
  ·match cs,hl with
   | [c0,c1,c2,c3,c4,c5,c6,c7,c8,c9,c10,c11,c12,c13,c14],_ =>
    obtain⟨i0,rfl⟩:=Zy f0
    obtain⟨i1,rfl⟩:=Zy f1
    obtain⟨i2,rfl⟩:=Zy f2
    obtain⟨i3,rfl⟩:=Zy f3
    obtain⟨s4,rfl⟩:=U7 f4
    obtain⟨s5,rfl⟩:=U7 f5
    obtain⟨v,hv⟩:=hv
    have hv':[c6,c7,c8,c9,c10,c11,c12,c13]=v.cells:=hv
    refine⟨⟨i0,i1,i2,i3,s4,s5,v,c14⟩,?_⟩
    unfold OpM.cells
    rw[← hv']
    rfl
  ·rw[hx]
   simp only[Rows.uptoBulk,List.map_cons,List.map_nil,Rows.uptoBulkAll]
   have a0:=Ye x0.1;have a1:=Ye x1.1;have a2:=Ye x2.1;have a3:=Ye x3.1;have a4:=Ye x4.1;have a5:=Ye x5.1;have a7:=Ye x7.1
   omega
end
theorem MH{w:World}{a:Addr}{n:Nat}{cs:List Value}(h:w.cells? 0 a n=some cs)(k:Nat)(hk:k<n):w.cell? (a.add k)=cs[k]?:=by
 unfold World.cells? at h
 rw[if_pos (Nat.zero_le _)] at h
 exact mapM_some_get h k k (by simp[hk])
theorem Vx{w:World}{p:Addr}{v:Value}(h:w.cell? p=some v):p.block<w.heap.size:=by
 refine Nat.lt_of_not_le fun hle=>?_
 unfold World.cell? at h
 rw[Array.getElem?_eq_none hle] at h
 cases h
theorem P1{H:Type}{enc:TypeId × Value→H}{W:World}{fuel:Nat}{cs:List Value}{x:DataW H × List MemPlace}(h:DataW.trod enc Tryz.prog W 0 (fun _=>true) true fuel 24 cs=some x) :
  ∃ (sa:Option Addr) (c:Nat) (os:List OpM),cs=[.slice sa os.length c]∧(os≠[]→∃ a,sa=some a∧a.block<W.heap.size∧Steps W a os)∧13*os.length≤Rows.uptoBulk x.1:=by
 rcases Deep.open_slice Tryz.underlying24 h with⟨rfl,rfl⟩|⟨a,len,cap,m,n,D,Pl,rfl,hb,hle,hmax,hm,hx,hel⟩
 ·exact⟨none,0,[],rfl,fun e=>absurd rfl e,by simp⟩
 ·have hlm:len≤m:=by rw[hm];split <;> omega
  have hop:∀ i,i<len→∃ o:OpM,W.cells? 0 (a.add (i*15)) 15=some o.cells∧13≤Rows.uptoBulk (D i):=fun i hi=>by
   obtain⟨cs',h1,h2⟩:=hel i (by omega)
   rw[Q0] at h1
   obtain⟨⟨o,rfl⟩,h4⟩:=L8 h2
   exact⟨o,h1,h4⟩
  obtain⟨f,hf⟩:∃ f:Nat→OpM,∀ i,i<len→W.cells? 0 (a.add (i*15)) 15=some (f i).cells∧13≤Rows.uptoBulk (D i):=by
   classical
   refine⟨fun i=>if hi:i<len then Classical.choose (hop i hi) else⟨0,0,0,0,ByteArray.empty,ByteArray.empty,⟨0,0,0,0,0,0,ByteArray.empty,false⟩,.bool false⟩,fun i hi=>?_⟩
   simp only[dif_pos hi]
   exact Classical.choose_spec (hop i hi)
  have hlen:((List.range len).map f).length=len:=by simp
  have hst:Steps W a ((List.range len).map f):=fun i hi k hk=>by
   rw[hlen] at hi
   rw[MH (hf i hi).1 k hk]
   simp
  refine⟨some a,cap,(List.range len).map f,by rw[hlen],fun hne=>⟨a,rfl,?_,hst⟩,?_⟩
  ·have hpos:0<len:=Nat.pos_of_ne_zero fun e=>hne (by rw[e];rfl)
   have:=hst 0 (by rw[hlen];exact hpos) 0 (by decide)
   rw[Nat.zero_mul,add_zero,add_zero] at this
   exact Vx this
  ·rw[hlen,hx]
   simp only[Rows.uptoBulk]
   have:=U6 13 ((List.range len).map D) (fun d hd=>by
    obtain⟨i,hi,rfl⟩:=List.mem_map.1 hd
    exact(hf i (List.mem_range.1 hi)).2)
   rw[List.length_map,List.length_range] at this
   omega
theorem P2{W:World}(h:laidMetH Tryz.prog Rows.writesRow.laid W):Tab W:=by
 have h2:=(laidMetH_iff.1 h).1.filter (fun x=>x.1==YU)
 have e:((Rows.writesRow.laid.filter fun x=>x.2.handleName?.isNone).filter fun x=>x.1==YU)=[(YU,Lib.tabData .u64 Lib.pow10Tab)]:=by kernel_rfl
 rw[e] at h2
 exact Lib.tabIs_of_head (rest:=[]) (g:=1) (by kernel_rfl) (t:=322) (by kernel_rfl) Tryz.underlying322 Tryz.underlying274 (by kernel_rfl) (by kernel_rfl) h2
theorem UU:Tryz.prog.globalNamed YU=some 1:=by kernel_rfl
theorem Ol:Tryz.prog.globalNamed "errors.errorType"=some 0:=by kernel_rfl
theorem Om:Tryz.prog.types.size=396:=by kernel_rfl
theorem NK:((List.range 396).filter fun t=>Tryz.prog.rowNamed t [101,114,114,111,114])=[132]:=by kernel_rfl
theorem P3{W:World}(h:laidMetH Tryz.prog Rows.writesRow.laid W):Hnd W:=by
 have h2:=(laidMetH_iff.1 h).2
 have e:(Rows.writesRow.laid.filter fun x=>x.2.handleName?.isSome)=[("errors.errorType",Rows.laid_errors_errorType)]:=by kernel_rfl
 rw[e] at h2
 obtain⟨name,u,ty,e1,e2,e3,e4,e5⟩:=h2 _ (List.mem_singleton.2 rfl)
 have en:name=[101,114,114,111,114]:=(Option.some.inj e1).symm
 subst en
 have eu:some u=some 309:=e2.symm.trans (by kernel_rfl)
 obtain rfl:=Option.some.inj eu
 have hm:ty∈(List.range 396).filter fun t=>Tryz.prog.rowNamed t [101,114,114,111,114]:=List.mem_filter.2 ⟨List.mem_range.2 (by rw[← Om];exact e3),e4⟩
 rw[NK] at hm
 obtain rfl:=List.mem_singleton.1 hm
 have hh:typeHandle Tryz.prog 132=.pointer (some ⟨6,132,none⟩):=by kernel_rfl
 rw[hh] at e5
 have:=World.var?_cell Ol e5 0
 unfold Hnd
 simpa using this
theorem Sx{W:World}(h:laidMetH Tryz.prog Rows.writesRow.laid W):YK W.heap.size W:=by
 have h1:=P2 h
 have h2:=P3 h
 refine⟨h1,fun g hg=>?_,h2,Vx h2⟩
 have:=Option.some.inj (UU.symm.trans hg)
 subst this
 exact Vx (h1.cell UU 0 (by decide))
end Go.Proofs.YtkhnggkkiefcdaaGreatDoor
namespace Go.Proofs.YtkhnggkkiefcdaaGreatDoor
open Go.RowKit Go.ChangeShapes
set_option maxRecDepth 100000
set_option maxHeartbeats 8000000
theorem UV:Tryz.prog.globalNamed "strconv.ErrSyntax"=some 4:=by kernel_rfl
theorem MI:(Tryz.prog.globals[4]?).map (·.type)=some 132:=by kernel_rfl
theorem V0{W:World}(h:laidMetH Tryz.prog Rows.writesRow.laid W):YO W:=by
 have h2:=(laidMetH_iff.1 h).1.filter (fun x=>x.1== "strconv.ErrSyntax")
 have e:((Rows.writesRow.laid.filter fun x=>x.2.handleName?.isNone).filter fun x=>x.1== "strconv.ErrSyntax")=[("strconv.ErrSyntax",Rows.laid_strconv_ErrSyntax)]:=by kernel_rfl
 rw[e] at h2
 obtain⟨a,s,hv,_⟩:=laid_sentinel h2 UV MI Tryz.underlying132 (fun u h => typeName_ptr_named (P := Tryz.prog) (nm := "errors.errorString") (by kernel_rfl) (by kernel_rfl) (by decide) u (h.trans (congrArg some (by decide)))) Tryz.underlying348 Tryz.underlying350 rfl rfl Tryz.underlying9 (by kernel_rfl) (by kernel_rfl)
 have:=World.var?_cell UV hv 0
 exact⟨Vx (p:=⟨4,0,none⟩) (by simpa using this),_,_,by simpa using this⟩
theorem Q5{W:World}(h:laidMetH Tryz.prog Rows.writesRow.laid W):Y8 W.heap.size W :=
 ⟨Sx h,V0 h,(V0 h).1⟩
end Go.Proofs.YtkhnggkkiefcdaaGreatDoor
namespace Go.Proofs.YtkhnggkkiefcdaaGreatDoor
open Go.RowKit
set_option maxRecDepth 100000
set_option maxHeartbeats 8000000
theorem Sy(herr:zr)(B:Nat)(node room seg syn:Int)(sa:Option Addr)(c:Nat)(os:List OpM)(w:World)(htab:Y8 B w)(hB:B≤w.heap.size)(hos:os≠[]→∃ a,sa=some a∧a.block<w.heap.size∧Steps w a os)(hlen:os.length≤100000) :
  Calls Tryz.prog 4 #[.agg #[.int .i64 node,.int .i64 room,.int .i64 seg,.int .i64 syn],.slice sa os.length c] w fun e w'=>e=.returned (.bool true)∧Fr Nil w w':=by
 have HTAB:=Z htab
 have HBW:=Z hB
 have HOS:=Z hos
 clear htab hB hos
 have fA:Fr Nil w (w.alloc (.cells #[.int .i64 node,.int .i64 (-1),.int .i64 seg,.int .i64 syn] 23)):=(G _ _).alloc _
 have HFA:=Z fA
 clear fA
 go_enter Tryz.func4,Tryz.ntmps4
 go_wp2_with fail
 have hsz:w.heap.size+1=(w.alloc (.cells #[.int .i64 node,.int .i64 (-1),.int .i64 seg,.int .i64 syn] 23)).heap.size:=by simp
 generalize w.alloc (.cells #[.int .i64 node,.int .i64 (-1),.int .i64 seg,.int .i64 syn] 23)=w1 at HFA hsz ⊢
 have hb2:=Blk.newAt w1 [.int .i64 12,.int .i64 13,.int .i64 14,.int .i64 15] 3 _ hsz
 have f2:Fr Nil w1 (w1.alloc (.cells #[.int .i64 12,.int .i64 13,.int .i64 14,.int .i64 15] 3)):=(G _ _).alloc _
 generalize w1.alloc (.cells #[.int .i64 12,.int .i64 13,.int .i64 14,.int .i64 15] 3)=w2 at hb2 f2 ⊢
 have F2:=HFA.out.trans f2
 have hrow:w2.ownsRow 0 3 1 (.slice (some ⟨w.heap.size+1,0,none⟩) Yk.length 4) Yk.length (Yk.map (.int .i64 ·)):=Zj hb2 (by decide) (by decide) rfl rfl
 refine(NH herr B node seg syn sa c os _ w2 (HTAB.out.fr HBW.out F2 (fun _ e=>absurd e id)) (Nat.le_trans HBW.out F2.size) (fun hne=>?_) hlen hrow).mono ?_
 ·obtain⟨a,e,hab,hst⟩:=HOS.out hne
  refine⟨a,e,Nat.lt_of_lt_of_le hab F2.size,fun i hi k hk=>?_⟩
  rw[F2.cell (by rw[YE,YE];exact hab) id]
  exact hst i hi k hk
 ·rintro e w3 ⟨rfl,f3⟩
  have HF3:=Z (F2.trans f3)
  clear hb2 f2 F2 hrow f3 hsz
  go_wp2_with fail
  go_ret
  exact⟨rfl,HF3.out⟩
end Go.Proofs.YtkhnggkkiefcdaaGreatDoor
namespace Go.Proofs.YtkhnggkkiefcdaaGreatDoor
open Go.ChangeShapes Go.WideShapes Go.ChangeAt Go.RowKit
set_option maxRecDepth 100000
set_option maxHeartbeats 8000000
theorem La:ownKnob Tryz.prog.godebug=none:=by kernel_rfl
theorem Q6:laidOutB Tryz.prog=true:=by kernel_rfl
def Z1:List (String × DataW Unit):=Rows.reopensRow.laid.filter fun x=>x.2.handleName?.isNone
theorem NN(os:Os):({World.holding Tryz.prog os ⟨#[],#[],[]⟩ with heap:=(World.holding Tryz.prog os ⟨#[],#[],[]⟩).heap.modify 0 fun|.cells _ t frozen=>.cells #[.iface 309 (.agg #[.pointer (some ⟨6,132,none⟩)])] t frozen|o=>o}:World).layFits Tryz.prog Z1 []=true:=by kernel_rfl
theorem P4(os:Os):({World.holding Tryz.prog os ⟨#[],#[],[]⟩ with heap:=(World.holding Tryz.prog os ⟨#[],#[],[]⟩).heap.modify 0 fun|.cells _ t frozen=>.cells #[.iface 309 (.agg #[.pointer (some ⟨6,132,none⟩)])] t frozen|o=>o}:World).layIfaces Tryz.prog Z1 (({World.holding Tryz.prog os ⟨#[],#[],[]⟩ with heap:=(World.holding Tryz.prog os ⟨#[],#[],[]⟩).heap.modify 0 fun|.cells _ t frozen=>.cells #[.iface 309 (.agg #[.pointer (some ⟨6,132,none⟩)])] t frozen|o=>o}:World).layVars Tryz.prog Z1)=true:=by kernel_rfl
theorem On(os:Os)(args:Array Value):laidMet Tryz.prog Z1 ((({World.holding Tryz.prog os ⟨#[],#[],[]⟩ with heap:=(World.holding Tryz.prog os ⟨#[],#[],[]⟩).heap.modify 0 fun|.cells _ t frozen=>.cells #[.iface 309 (.agg #[.pointer (some ⟨6,132,none⟩)])] t frozen|o=>o}:World).layVars Tryz.prog Z1).forCall (fun _ _=>0) ⟨#[],args,[]⟩).memory:=by
 have e1:(Z1.filter fun x=>(Z1.map (·.1)).contains x.1)=Z1:=List.filter_eq_self.2 fun x hx=>List.contains_iff_mem.2 (List.mem_map.2 ⟨x,hx,rfl⟩)
 have e2:(Z1.filter fun x=>!(Z1.map (·.1)).contains x.1)=[]:=List.filter_eq_nil_iff.2 fun x hx=>by rw[List.contains_iff_mem.2 (List.mem_map.2 ⟨x,hx,rfl⟩)];simp
 have h:laidMet Tryz.prog Z1 (({World.holding Tryz.prog os ⟨#[],#[],[]⟩ with heap:=(World.holding Tryz.prog os ⟨#[],#[],[]⟩).heap.modify 0 fun|.cells _ t frozen=>.cells #[.iface 309 (.agg #[.pointer (some ⟨6,132,none⟩)])] t frozen|o=>o}:World).layVars Tryz.prog Z1):=laidMet_layVars (w0:=({World.holding Tryz.prog os ⟨#[],#[],[]⟩ with heap:=(World.holding Tryz.prog os ⟨#[],#[],[]⟩).heap.modify 0 fun|.cells _ t frozen=>.cells #[.iface 309 (.agg #[.pointer (some ⟨6,132,none⟩)])] t frozen|o=>o}:World)) (Z1.map (·.1)) [] (by rw[e1]) (by rw[e1];exact NN os) (by rw[e1];exact P4 os) (by rw[e2];exact LaidIn.none)
 exact h.of_heap (by simp[World.memory,World.forCall,Input.heap])
theorem MJ(os:Os)(args:Array Value):laidMetH Tryz.prog Rows.reopensRow.laid ((({World.holding Tryz.prog os ⟨#[],#[],[]⟩ with heap:=(World.holding Tryz.prog os ⟨#[],#[],[]⟩).heap.modify 0 fun|.cells _ t frozen=>.cells #[.iface 309 (.agg #[.pointer (some ⟨6,132,none⟩)])] t frozen|o=>o}:World).layVars Tryz.prog Z1).forCall (fun _ _=>0) ⟨#[],args,[]⟩).memory :=
 laidMetH_of_parts (On os args) (by kernel_rfl)
theorem NO{cs:Array Value}{l:List Value}(h:(Value.agg cs).cells.toList=l):cs=l.toArray:=by
 have:cs.toList=l:=h
 rw[← this]
theorem P5{a b:Option Addr}{n m c d:Nat}(h:(Value.slice a n c).cells.toList=[.slice b m d]):a=b∧n=m∧c=d:=by
 have h2:[Value.slice a n c]=[.slice b m d]:=h
 simpa using h2
theorem reads(os:Os){H:Type}(enc:TypeId × Value→H):∃ places,DataW.whole enc Tryz.prog ((({World.holding Tryz.prog os ⟨#[],#[],[]⟩ with heap:=(World.holding Tryz.prog os ⟨#[],#[],[]⟩).heap.modify 0 fun|.cells _ t frozen=>.cells #[.iface 309 (.agg #[.pointer (some ⟨6,132,none⟩)])] t frozen|o=>o}:World).layVars Tryz.prog Z1).forCall (fun _ _=>0) ⟨#[],#[.agg #[.int .i64 0,.int .i64 0,.int .i64 0,.int .i64 0],.slice none 0 0],[]⟩).memory Tryz.f4.params.toList Rows.reopensSpec.vars false #[Value.agg #[.int .i64 0,.int .i64 0,.int .i64 0,.int .i64 0],.slice none 0 0].toList 8=some ([.agg [.lit (.int .i64 0),.lit (.int .i64 0),.lit (.int .i64 0),.lit (.int .i64 0)],.nil],[],places) :=
 ⟨[],by kernel_rfl⟩
theorem Tc(os:Os)(started:os.Started)(H:Type)(enc:TypeId × Value→H)(F:Stop.Interp) :
  ReturnsInHanded {} Tryz.checked os 4 .any ((Rows.OpenSpec.upto Rows.reopensSpec).preRow enc Tryz.prog Tryz.f4 Rows.reopensUptoRow.domain false Rows.reopensUptoRow.laid) (((Rows.OpenSpec.upto Rows.reopensSpec).at F).post enc Tryz.prog Tryz.f4 false true false false):=by
 obtain⟨places,hx⟩:=reads os enc
 refine returnsInHanded_of_row (C:=Tryz.checked) (s:=Rows.OpenSpec.upto Rows.reopensSpec) La started (by kernel_rfl) Tryz.func4
  (witness_row_atRef (enc:=enc) (C:=Tryz.checked) false (({World.holding Tryz.prog os ⟨#[],#[],[]⟩ with heap:=(World.holding Tryz.prog os ⟨#[],#[],[]⟩).heap.modify 0 fun|.cells _ t frozen=>.cells #[.iface 309 (.agg #[.pointer (some ⟨6,132,none⟩)])] t frozen|o=>o}:World).layVars Tryz.prog Z1) #[.agg #[.int .i64 0,.int .i64 0,.int .i64 0,.int .i64 0],.slice none 0 0] rfl (by kernel_rfl) (by kernel_rfl) (by kernel_rfl)
    (OpenSpec.preRow_of_cond 8 hx (by kernel_rfl) (fun k hk=>by cases hk;kernel_rfl) (by kernel_rfl) (MJ os _))) ?_
 intro W base args ds gs before hval hW _ hcond _ hL _ _
 have hW':=hW
 obtain⟨p,q,hA0,hV,rfl,hfz,hnd⟩:=hW
 have hA:DataW.TrodAll enc Tryz.prog W 0 (fun _=>true) true Tryz.f4.params.toList args.toList ds p:=hA0
 rw[Tryz.params4] at hA hval
 obtain⟨v0,v1,d0,d1,p0,p1,rfl,rfl,rfl,h0,h1⟩:=trodAll_two hA
 obtain⟨rfl,rfl⟩:=trodVars_none hV
 obtain⟨cs0,rfl,_⟩:=okWide_struct Tryz.underlying23 (hval 0 23 v0 rfl rfl)
 obtain⟨a0,len,cap,rfl⟩:=okWide_slice Tryz.underlying24 (hval 1 24 v1 rfl rfl)
 have h0k:=h0
 have h1k:=h1
 obtain⟨f0,hf0⟩:=h0
 obtain⟨f1,hf1⟩:=h1
 obtain⟨na,ra,sa,ya,hcs0⟩:=MG hf0
 obtain⟨sl,c1,ops,hcs1,hos,hbk⟩:=P1 hf1
 obtain rfl:=NO hcs0
 obtain⟨rfl,rfl,rfl⟩:=P5 hcs1
 have hk:Rows.uptoSmall H ([d0,d1]++[])=true:=hcond _ rfl
 have hlen:ops.length≤100000:=by
  have h:=of_decide_eq_true hk
  simp only[List.append_nil,Rows.uptoBulkAll] at h
  have hb:13*ops.length≤Rows.uptoBulk d1:=hbk
  omega
 have hlt0:∀ x∈p0,x.block<W.heap.size:=fun x hx=>hW'.lt x (by simp[hx])
 have hlt1:∀ x∈p1,x.block<W.heap.size:=fun x hx=>hW'.lt x (by simp[hx])
 refine(Sy Od W.heap.size na ra sa ya _ _ ops W (Q5 hL) (Nat.le_refl _) hos hlen).mono fun e W' ⟨he,hf⟩=>?_
 subst he
 refine⟨_,rfl,[d0,d1],[],_,[],p0++p1,[],hW',trodAll_cons_mk (shut_bool Tryz.underlying4 _) trodAll_mk0,?_,rfl,hf.below.frame _,fun h=>by cases h⟩
 exact trodAll_mk2 (Below.trod Q6 (by kernel_rfl) (of_decide_eq_true (by kernel_rfl)) h0k hf.below hlt0) (Below.trod Q6 (by kernel_rfl) (of_decide_eq_true (by kernel_rfl)) h1k hf.below hlt1)
end Go.Proofs.YtkhnggkkiefcdaaGreatDoor
