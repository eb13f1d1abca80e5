/- larder: joined texts -/
import Derived.Test.YtkhnggkkiefcdaaGreatDoorSFBB
import Derived.Test.YtkhnggkkiefcdaaGreatDoorCards
import Derived.Test.YtkhnggkkiefcdaaGreatDoorTie
import Derived.WalkKit
import Derived.ProofKit
import Derived.OpenShut
import Derived.Carry
import Derived.Lay
import Derived.LaidHandle
import Derived.Deep.DeepHandedRow
import Derived.Deep.DeepWitnessRowRef
namespace Go.Proofs.YtkhnggkkiefcdaaGreatDoor
open Go.RowKit
set_option maxRecDepth 100000
set_option maxHeartbeats 8000000
theorem Oq(v:zz)(B:Nat)(node b d f:Int)(J:Option Addr)(c:Nat)(q:List OpM)(w:World)(h:YX B w)(L:B<=w.heap.size)(z:q≠[]->∃ a,J=some a/\a.block<w.heap.size/\Steps w a q)(m:InR b)(y:∀ o∈q,Wk w o)(x:q.length<=81000) :
 Calls Tryz.prog 6 #[.agg #[.int .i64 node,.int .i64 b,.int .i64 d,.int .i64 f],.slice J q.length c] w fun e S=>e=.returned (.bool true)/\Fr Nil w S:=by
 have u:=Z h;have r:=Z L;have F:=Z z;have E:=Z y;clear h L z y;have K:Fr Nil w (w.alloc (.cells #[.int .i64 node,.int .i64 b,.int .i64 d,.int .i64 f] 23)):=(O _ _).alloc _;have t:=Z K;clear K;go_enter Tryz.func6,Tryz.ntmps6;go_wp2_with fail;have p:w.heap.size+1=(w.alloc (.cells #[.int .i64 node,.int .i64 b,.int .i64 d,.int .i64 f] 23)).heap.size:=by simp
 generalize w.alloc (.cells #[.int .i64 node,.int .i64 b,.int .i64 d,.int .i64 f] 23)=A at t p |-;have l:=Blk.newAt A [.int .i64 15] 3 _ p;have G:Fr Nil A (A.alloc (.cells #[.int .i64 15] 3)):=(O _ _).alloc _;generalize A.alloc (.cells #[.int .i64 15] 3)=M at l G |-;have j:=t.out.trans G;have g:M.ownsRow 0 3 1 (.slice (some ⟨w.heap.size+1,0,none⟩) (List.length [(15:Int)]) 1) (List.length [(15:Int)]) (List.map (.int .i64 ·) [(15:Int)]):=ZA l (by decide) (by decide) rfl rfl;refine(Ok v [(15:Int)] (by decide) (by decide) (by decide) B node b d f m J c q _ M (u.out.fr r.out j (fun _ e=>absurd e id)) (IP r.out j.size) (fun I=>?_) (fun o R=>(E.out o R).fr j) x g).mono ?_
 .obtain⟨a,e,hab,hst⟩:=F.out I
  refine⟨a,e,Gd hab j.size,fun i N k Q=>?_⟩;rw[j.cell (by rw[Yw,Yw];exact hab) id];exact hst i N k Q
 .rintro e w3 ⟨rfl,f3⟩
  have D:=Z (j.trans f3);clear l G j g f3 p;go_wp2_with fail;go_ret;exact⟨rfl,D.out⟩
end Go.Proofs.YtkhnggkkiefcdaaGreatDoor
namespace Go.Proofs.YtkhnggkkiefcdaaGreatDoor
open Go.ChangeShapes Go.WideShapes Go.ChangeAt Go.RowKit
set_option maxRecDepth 100000
set_option maxHeartbeats 8000000
theorem R2:ownKnob Tryz.prog.godebug=none:=by kernel_rfl
theorem WJ:laidOutB Tryz.prog=true:=by kernel_rfl
def zv:List (String × DataW Unit):=Rows.faultsRow.laid.filter fun x=>x.2.handleName?.isNone
theorem Us(a:Os):({World.holding Tryz.prog a ⟨#[],#[],[]⟩ with heap:=(World.holding Tryz.prog a ⟨#[],#[],[]⟩).heap.modify 0 fun|.cells _ t frozen=>.cells #[.iface 309 (.agg #[.pointer (some ⟨6,132,none⟩)])] t frozen|o=>o}:World).layFits Tryz.prog zv []=true:=by kernel_rfl
theorem Va(a:Os):({World.holding Tryz.prog a ⟨#[],#[],[]⟩ with heap:=(World.holding Tryz.prog a ⟨#[],#[],[]⟩).heap.modify 0 fun|.cells _ t frozen=>.cells #[.iface 309 (.agg #[.pointer (some ⟨6,132,none⟩)])] t frozen|o=>o}:World).layIfaces Tryz.prog zv (({World.holding Tryz.prog a ⟨#[],#[],[]⟩ with heap:=(World.holding Tryz.prog a ⟨#[],#[],[]⟩).heap.modify 0 fun|.cells _ t frozen=>.cells #[.iface 309 (.agg #[.pointer (some ⟨6,132,none⟩)])] t frozen|o=>o}:World).layVars Tryz.prog zv)=true:=by kernel_rfl
theorem VO(a:Os)(b:Array Value):laidMet Tryz.prog zv ((({World.holding Tryz.prog a ⟨#[],#[],[]⟩ with heap:=(World.holding Tryz.prog a ⟨#[],#[],[]⟩).heap.modify 0 fun|.cells _ t frozen=>.cells #[.iface 309 (.agg #[.pointer (some ⟨6,132,none⟩)])] t frozen|o=>o}:World).layVars Tryz.prog zv).forCall (fun _ _=>0) ⟨#[],b,[]⟩).memory:=by
 have c:(zv.filter fun x=>(zv.map (·.1)).contains x.1)=zv:=List.filter_eq_self.2 fun x d=>EG.2 (Gc.2 ⟨x,d,rfl⟩);have e:(zv.filter fun x=>!(zv.map (·.1)).contains x.1)=[]:=List.filter_eq_nil_iff.2 fun x d=>by rw[EG.2 (Gc.2 ⟨x,d,rfl⟩)];simp
 have h:laidMet Tryz.prog zv (({World.holding Tryz.prog a ⟨#[],#[],[]⟩ with heap:=(World.holding Tryz.prog a ⟨#[],#[],[]⟩).heap.modify 0 fun|.cells _ t frozen=>.cells #[.iface 309 (.agg #[.pointer (some ⟨6,132,none⟩)])] t frozen|o=>o}:World).layVars Tryz.prog zv):=laidMet_layVars (w0:=({World.holding Tryz.prog a ⟨#[],#[],[]⟩ with heap:=(World.holding Tryz.prog a ⟨#[],#[],[]⟩).heap.modify 0 fun|.cells _ t frozen=>.cells #[.iface 309 (.agg #[.pointer (some ⟨6,132,none⟩)])] t frozen|o=>o}:World)) (zv.map (·.1)) [] (by rw[c]) (by rw[c];exact Us a) (by rw[c];exact Va a) (by rw[e];exact LaidIn.none);exact h.of_heap (by simp[World.memory,World.forCall,Input.heap])
theorem Ti(b:Os)(a:Array Value):laidMetH Tryz.prog Rows.faultsRow.laid ((({World.holding Tryz.prog b ⟨#[],#[],[]⟩ with heap:=(World.holding Tryz.prog b ⟨#[],#[],[]⟩).heap.modify 0 fun|.cells _ t frozen=>.cells #[.iface 309 (.agg #[.pointer (some ⟨6,132,none⟩)])] t frozen|o=>o}:World).layVars Tryz.prog zv).forCall (fun _ _=>0) ⟨#[],a,[]⟩).memory :=
 laidMetH_of_parts (VO b a) (by kernel_rfl)
theorem Ut{a:Array Value}{l:List Value}(h:(Value.agg a).cells.toList=l):a=l.toArray:=by
 have:a.toList=l:=h;rw[<- this]
theorem Vb{a b:Option Addr}{n m c d:Nat}(h:(Value.slice a n c).cells.toList=[.slice b m d]):a=b/\n=m/\c=d:=by
 have e:[Value.slice a n c]=[.slice b m d]:=h
 simpa using e
theorem reads(b:Os){H:Type}(enc:TypeId × Value->H):∃ a,DataW.whole enc Tryz.prog ((({World.holding Tryz.prog b ⟨#[],#[],[]⟩ with heap:=(World.holding Tryz.prog b ⟨#[],#[],[]⟩).heap.modify 0 fun|.cells _ t frozen=>.cells #[.iface 309 (.agg #[.pointer (some ⟨6,132,none⟩)])] t frozen|o=>o}:World).layVars Tryz.prog zv).forCall (fun _ _=>0) ⟨#[],#[.agg #[.int .i64 0,.int .i64 0,.int .i64 0,.int .i64 0],.slice none 0 0],[]⟩).memory Tryz.f6.params.toList Rows.faultsSpec.vars false #[Value.agg #[.int .i64 0,.int .i64 0,.int .i64 0,.int .i64 0],.slice none 0 0].toList 8=some ([.agg [.lit (.int .i64 0),.lit (.int .i64 0),.lit (.int .i64 0),.lit (.int .i64 0)],.nil],[],a) :=
 ⟨[],by kernel_rfl⟩
theorem Qn(g:Os)(b:g.Started)(H:Type)(enc:TypeId × Value->H)(F:Stop.Interp) :
 ReturnsInHanded {} Tryz.checked g 6 .any ((Rows.OpenSpec.upto Rows.faultsSpec).preRow enc Tryz.prog Tryz.f6 Rows.faultsUptoRow.domain false Rows.faultsUptoRow.laid) (((Rows.OpenSpec.upto Rows.faultsSpec).at F).post enc Tryz.prog Tryz.f6 false true false false):=by
 obtain⟨z,v⟩:=reads g enc;refine returnsInHanded_of_row (C:=Tryz.checked) (s:=Rows.OpenSpec.upto Rows.faultsSpec) R2 b (by kernel_rfl) Tryz.func6
  (witness_row_atRef (enc:=enc) (C:=Tryz.checked) false (({World.holding Tryz.prog g ⟨#[],#[],[]⟩ with heap:=(World.holding Tryz.prog g ⟨#[],#[],[]⟩).heap.modify 0 fun|.cells _ t frozen=>.cells #[.iface 309 (.agg #[.pointer (some ⟨6,132,none⟩)])] t frozen|o=>o}:World).layVars Tryz.prog zv) #[.agg #[.int .i64 0,.int .i64 0,.int .i64 0,.int .i64 0],.slice none 0 0] rfl (by kernel_rfl) (by kernel_rfl) (by kernel_rfl)
    (OpenSpec.preRow_of_cond 8 v (by kernel_rfl) (fun k L=>by cases L;kernel_rfl) (by kernel_rfl) (Ti g _))) ?_
 intro W R i ds gs y a Y _ d _ hL _ _;have c:=Y;obtain⟨p,q,E,hV,rfl,a3,a4⟩:=Y;have X:DataW.TrodAll enc Tryz.prog W 0 (fun _=>true) true Tryz.f6.params.toList i.toList ds p:=E;rw[Tryz.params6] at X a;obtain⟨v0,v1,S,A,p0,p1,rfl,rfl,rfl,T,V⟩:=trodAll_two X;obtain⟨rfl,rfl⟩:=trodVars_none hV;obtain⟨a2,rfl,_⟩:=okWide_struct DZ (a 0 23 v0 rfl rfl);obtain⟨a0,a5,a1,rfl⟩:=okWide_slice Ca (a 1 24 v1 rfl rfl);have B:=T;have D:=V;obtain⟨f0,J⟩:=T;obtain⟨f1,K⟩:=V;obtain⟨na,ra,sa,ya,j,Q⟩:=Oi J;obtain⟨sl,c1,f,l,N,M,G⟩:=UV K;obtain rfl:=Ut j;obtain⟨rfl,rfl,rfl⟩:=Vb l;have L:Rows.uptoSmall H ([S,A]++[])=true:=d _ rfl;have m:f.length<=81000:=by
  have h:=FB L;simp only[Hx,Rows.uptoBulkAll] at h;have hb:13*f.length<=Rows.uptoBulk A:=G;omega
 have r:∀ x∈p0,x.block<W.heap.size:=fun x v=>c.lt x (by simp[v]);have u:∀ x∈p1,x.block<W.heap.size:=fun x v=>c.lt x (by simp[v]);refine(Oq Se W.heap.size na ra sa ya _ _ f W (Ur hL) (IQ _) N Q M m).mono fun e W' ⟨he,I⟩=>?_;subst he;refine⟨_,rfl,[S,A],[],_,[],p0++p1,[],c,trodAll_cons_mk (shut_bool Ct _) trodAll_mk0,?_,rfl,I.below.frame _,fun h=>by cases h⟩;exact trodAll_mk2 (Below.trod WJ (by kernel_rfl) (FB (by kernel_rfl)) B I.below r) (Below.trod WJ (by kernel_rfl) (FB (by kernel_rfl)) D I.below u)
end Go.Proofs.YtkhnggkkiefcdaaGreatDoor
