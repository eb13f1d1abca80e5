/- larder: joined texts -/
import Derived.Test.YtkhnggkkiefcdaaGreatDoorFRZAA
import Derived.Test.YtkhnggkkiefcdaaGreatDoorFRAO
import Derived.Test.YtkhnggkkiefcdaaGreatDoorFRAP
import Derived.Test.YtkhnggkkiefcdaaGreatDoorCards
import Derived.Test.YtkhnggkkiefcdaaGreatDoorTie
import Derived.WalkKit
import Derived.ProofKit
import Derived.OpenShut
import Derived.Carry
import Derived.Lay
import Derived.LaidHandle
import Derived.Deep.DeepHandedRow
import Derived.Deep.DeepWitnessRowRef
namespace Go.Proofs.YtkhnggkkiefcdaaGreatDoor
open Go.ChangeShapes Go.WideShapes Go.ChangeAt Go.RowKit
set_option maxRecDepth 100000
theorem Nr:ownKnob Tryz.prog.godebug=none:=by kernel_rfl
theorem Ws:laidOutB Tryz.prog=true:=by kernel_rfl
def zK:List (String × DataW Unit):=Rows.frozenRow.laid.filter fun x=>x.2.handleName?.isNone
theorem Od(a:Os):({World.holding Tryz.prog a ⟨#[],#[],[]⟩ with heap:=(World.holding Tryz.prog a ⟨#[],#[],[]⟩).heap.modify 0 fun|.cells _ t frozen=>.cells #[.iface 309 (.agg #[.pointer (some ⟨6,132,none⟩)])] t frozen|o=>o}:World).layFits Tryz.prog zK []=true:=by kernel_rfl
theorem Q4(a:Os):({World.holding Tryz.prog a ⟨#[],#[],[]⟩ with heap:=(World.holding Tryz.prog a ⟨#[],#[],[]⟩).heap.modify 0 fun|.cells _ t frozen=>.cells #[.iface 309 (.agg #[.pointer (some ⟨6,132,none⟩)])] t frozen|o=>o}:World).layIfaces Tryz.prog zK (({World.holding Tryz.prog a ⟨#[],#[],[]⟩ with heap:=(World.holding Tryz.prog a ⟨#[],#[],[]⟩).heap.modify 0 fun|.cells _ t frozen=>.cells #[.iface 309 (.agg #[.pointer (some ⟨6,132,none⟩)])] t frozen|o=>o}:World).layVars Tryz.prog zK)=true:=by kernel_rfl
theorem P7(a:Os)(b:Array Value):laidMet Tryz.prog zK ((({World.holding Tryz.prog a ⟨#[],#[],[]⟩ with heap:=(World.holding Tryz.prog a ⟨#[],#[],[]⟩).heap.modify 0 fun|.cells _ t frozen=>.cells #[.iface 309 (.agg #[.pointer (some ⟨6,132,none⟩)])] t frozen|o=>o}:World).layVars Tryz.prog zK).forCall (fun _ _=>0) ⟨#[],b,[]⟩).memory:=by
 have c:(zK.filter fun x=>(zK.map (·.1)).contains x.1)=zK:=List.filter_eq_self.2 fun x d=>List.contains_iff_mem.2 (Mt.2 ⟨x,d,rfl⟩);have e:(zK.filter fun x=>!(zK.map (·.1)).contains x.1)=[]:=List.filter_eq_nil_iff.2 fun x d=>by rw[List.contains_iff_mem.2 (Mt.2 ⟨x,d,rfl⟩)];simp
 have h:laidMet Tryz.prog zK (({World.holding Tryz.prog a ⟨#[],#[],[]⟩ with heap:=(World.holding Tryz.prog a ⟨#[],#[],[]⟩).heap.modify 0 fun|.cells _ t frozen=>.cells #[.iface 309 (.agg #[.pointer (some ⟨6,132,none⟩)])] t frozen|o=>o}:World).layVars Tryz.prog zK):=laidMet_layVars (w0:=({World.holding Tryz.prog a ⟨#[],#[],[]⟩ with heap:=(World.holding Tryz.prog a ⟨#[],#[],[]⟩).heap.modify 0 fun|.cells _ t frozen=>.cells #[.iface 309 (.agg #[.pointer (some ⟨6,132,none⟩)])] t frozen|o=>o}:World)) (zK.map (·.1)) [] (by rw[c]) (by rw[c];exact Od a) (by rw[c];exact Q4 a) (by rw[e];exact LaidIn.none);exact h.of_heap (by simp[World.memory,World.forCall,Input.heap])
theorem OW(b:Os)(a:Array Value):laidMetH Tryz.prog Rows.frozenRow.laid ((({World.holding Tryz.prog b ⟨#[],#[],[]⟩ with heap:=(World.holding Tryz.prog b ⟨#[],#[],[]⟩).heap.modify 0 fun|.cells _ t frozen=>.cells #[.iface 309 (.agg #[.pointer (some ⟨6,132,none⟩)])] t frozen|o=>o}:World).layVars Tryz.prog zK).forCall (fun _ _=>0) ⟨#[],a,[]⟩).memory :=
 laidMetH_of_parts (P7 b a) (by kernel_rfl)
theorem NN{a:Array Value}{l:List Value}(h:(Value.agg a).cells.toList=l):a=l.toArray:=by
 have:a.toList=l:=h;rw[<- this]
theorem NF{a b:Option Addr}{n m c d:Nat}(h:(Value.slice a n c).cells.toList=[.slice b m d]):a=b/\n=m/\c=d:=by
 have e:[Value.slice a n c]=[.slice b m d]:=h
 simpa using e
theorem reads(b:Os){H:Type}(enc:TypeId × Value->H):∃ a,DataW.whole enc Tryz.prog ((({World.holding Tryz.prog b ⟨#[],#[],[]⟩ with heap:=(World.holding Tryz.prog b ⟨#[],#[],[]⟩).heap.modify 0 fun|.cells _ t frozen=>.cells #[.iface 309 (.agg #[.pointer (some ⟨6,132,none⟩)])] t frozen|o=>o}:World).layVars Tryz.prog zK).forCall (fun _ _=>0) ⟨#[],#[.int .i64 0,.int .i64 0,.int .i64 0,.int .i64 0],[]⟩).memory Tryz.f13.params.toList Rows.frozenSpec.vars false #[Value.int .i64 0,.int .i64 0,.int .i64 0,.int .i64 0].toList 8=some ([.lit (.int .i64 0),.lit (.int .i64 0),.lit (.int .i64 0),.lit (.int .i64 0)],[],a) :=
 ⟨[],by kernel_rfl⟩
theorem Tl(f:Os)(c:f.Started)(H:Type)(enc:TypeId × Value->H)(F:Stop.Interp) :
 ReturnsInHanded {} Tryz.checked f 13 .any ((OpenSpec.ofChange Rows.frozenSpec).preRow enc Tryz.prog Tryz.f13 Rows.frozenRow.domain false Rows.frozenRow.laid) (((OpenSpec.ofChange Rows.frozenSpec).at F).post enc Tryz.prog Tryz.f13 false true false false):=by
 obtain⟨y,b⟩:=reads f enc;refine returnsInHanded_of_row (C:=Tryz.checked) (s:=OpenSpec.ofChange Rows.frozenSpec) Nr c (by kernel_rfl) IC
  (witness_row_atRef (enc:=enc) (C:=Tryz.checked) false (({World.holding Tryz.prog f ⟨#[],#[],[]⟩ with heap:=(World.holding Tryz.prog f ⟨#[],#[],[]⟩).heap.modify 0 fun|.cells _ t frozen=>.cells #[.iface 309 (.agg #[.pointer (some ⟨6,132,none⟩)])] t frozen|o=>o}:World).layVars Tryz.prog zK) #[.int .i64 0,.int .i64 0,.int .i64 0,.int .i64 0] rfl (by kernel_rfl) (by kernel_rfl) (by kernel_rfl)
    (OpenSpec.preRow_of_cond 8 b (by kernel_rfl) (fun k hk=>by cases hk) (by kernel_rfl) (OW f _))) ?_
 intro W S g ds gs v a hW _ G _ hL _ _;have i:=hW;obtain⟨p,q,E,hV,rfl,a0,a1⟩:=hW;have hA:DataW.TrodAll enc Tryz.prog W 0 (fun _=>true) true Tryz.f13.params.toList g.toList ds p:=E;rw[Tryz.params13] at hA a;obtain⟨v0,v1,v2,v3,d0,d1,d2,d3,M,N,Q,R,rfl,rfl,rfl,T,V,X,Y⟩:=trodAll_four hA;obtain⟨rfl,rfl⟩:=trodVars_none hV;obtain⟨n0,rfl⟩:=okWide_int Kd (a 0 3 v0 rfl rfl);obtain⟨n1,rfl⟩:=okWide_int Kd (a 1 3 v1 rfl rfl);obtain⟨n2,rfl⟩:=okWide_int Kd (a 2 3 v2 rfl rfl);obtain⟨n3,rfl⟩:=okWide_int Kd (a 3 3 v3 rfl rfl);have z:=T;have A:=V;have B:=X;have D:=Y;obtain⟨f0,I⟩:=T;obtain⟨f1,J⟩:=V;obtain⟨f2,K⟩:=X;obtain⟨f3,L⟩:=Y;obtain⟨m0,e0,r0⟩:=XW I;obtain⟨m1,e1,r1⟩:=XW J;obtain⟨m2,e2,r2⟩:=XW K;obtain⟨m3,e3,r3⟩:=XW L;obtain rfl:n0=m0:=by simpa using e0
 obtain rfl:n1=m1:=by simpa using e1
 obtain rfl:n2=m2:=by simpa using e2
 obtain rfl:n3=m3:=by simpa using e3
 have d:∀ x∈M++N++Q++R,x.block<W.heap.size:=fun x b=>i.lt x (by simp only[MB];exact b);have l:∀ x∈M,x.block<W.heap.size:=fun x b=>d x (by simp[b]);have m:∀ x∈N,x.block<W.heap.size:=fun x b=>d x (by simp[b]);have r:∀ x∈Q,x.block<W.heap.size:=fun x b=>d x (by simp[b]);have u:∀ x∈R,x.block<W.heap.size:=fun x b=>d x (by simp[b]);refine(Rb P6 W.heap.size n0 n1 n2 n3 W (R7 hL) (NS _) r0 r1 r2 r3).mono fun e W' ⟨he,j⟩=>?_;subst he;refine⟨_,rfl,[d0,d1,d2,d3],[],_,[],M++(N++(Q++R)),[],i,trodAll_cons_mk (shut_bool Tryz.underlying4 _) trodAll_mk0,?_,rfl,j.below.frame _,fun h=>by cases h⟩;exact trodAll_mk4 (Below.trod Ws (by kernel_rfl) (KL (by kernel_rfl)) z j.below l) (Below.trod Ws (by kernel_rfl) (KL (by kernel_rfl)) A j.below m) (Below.trod Ws (by kernel_rfl) (KL (by kernel_rfl)) B j.below r) (Below.trod Ws (by kernel_rfl) (KL (by kernel_rfl)) D j.below u)
end Go.Proofs.YtkhnggkkiefcdaaGreatDoor
