/- larder: joined texts -/
import Derived.Test.YtkhnggkkiefcdaaGreatDoorNMZAA
import Derived.Test.YtkhnggkkiefcdaaGreatDoorNMAS
import Derived.Test.YtkhnggkkiefcdaaGreatDoorNMAY
import Derived.Test.YtkhnggkkiefcdaaGreatDoorCards
import Derived.Test.YtkhnggkkiefcdaaGreatDoorTie
import Derived.WalkKit
import Derived.ProofKit
import Derived.OpenShut
import Derived.Carry
import Derived.Lay
import Derived.LaidHandle
import Derived.Deep.DeepHandedRow
import Derived.Deep.DeepWitnessRowRef
namespace Go.Proofs.YtkhnggkkiefcdaaGreatDoor
open Go.ChangeShapes Go.WideShapes Go.ChangeAt Go.RowKit
set_option maxRecDepth 100000
theorem Ju:ownKnob Tryz.prog.godebug=none:=by kernel_rfl
theorem PK:laidOutB Tryz.prog=true:=by kernel_rfl
def Z6:List (String × DataW Unit):=Rows.numbersRow.laid.filter fun x=>x.2.handleName?.isNone
theorem K2(a:Os):({World.holding Tryz.prog a ⟨#[],#[],[]⟩ with heap:=(World.holding Tryz.prog a ⟨#[],#[],[]⟩).heap.modify 0 fun|.cells _ t frozen=>.cells #[.iface 309 (.agg #[.pointer (some ⟨6,132,none⟩)])] t frozen|o=>o}:World).layFits Tryz.prog Z6 []=true:=by kernel_rfl
theorem OK(a:Os):({World.holding Tryz.prog a ⟨#[],#[],[]⟩ with heap:=(World.holding Tryz.prog a ⟨#[],#[],[]⟩).heap.modify 0 fun|.cells _ t frozen=>.cells #[.iface 309 (.agg #[.pointer (some ⟨6,132,none⟩)])] t frozen|o=>o}:World).layIfaces Tryz.prog Z6 (({World.holding Tryz.prog a ⟨#[],#[],[]⟩ with heap:=(World.holding Tryz.prog a ⟨#[],#[],[]⟩).heap.modify 0 fun|.cells _ t frozen=>.cells #[.iface 309 (.agg #[.pointer (some ⟨6,132,none⟩)])] t frozen|o=>o}:World).layVars Tryz.prog Z6)=true:=by kernel_rfl
theorem Mz(a:Os)(b:Array Value):laidMet Tryz.prog Z6 ((({World.holding Tryz.prog a ⟨#[],#[],[]⟩ with heap:=(World.holding Tryz.prog a ⟨#[],#[],[]⟩).heap.modify 0 fun|.cells _ t frozen=>.cells #[.iface 309 (.agg #[.pointer (some ⟨6,132,none⟩)])] t frozen|o=>o}:World).layVars Tryz.prog Z6).forCall (fun _ _=>0) ⟨#[],b,[]⟩).memory:=by
 have c:(Z6.filter fun x=>(Z6.map (·.1)).contains x.1)=Z6:=List.filter_eq_self.2 fun x d=>List.contains_iff_mem.2 (Ic.2 ⟨x,d,rfl⟩);have e:(Z6.filter fun x=>!(Z6.map (·.1)).contains x.1)=[]:=List.filter_eq_nil_iff.2 fun x d=>by rw[List.contains_iff_mem.2 (Ic.2 ⟨x,d,rfl⟩)];simp
 have h:laidMet Tryz.prog Z6 (({World.holding Tryz.prog a ⟨#[],#[],[]⟩ with heap:=(World.holding Tryz.prog a ⟨#[],#[],[]⟩).heap.modify 0 fun|.cells _ t frozen=>.cells #[.iface 309 (.agg #[.pointer (some ⟨6,132,none⟩)])] t frozen|o=>o}:World).layVars Tryz.prog Z6):=laidMet_layVars (w0:=({World.holding Tryz.prog a ⟨#[],#[],[]⟩ with heap:=(World.holding Tryz.prog a ⟨#[],#[],[]⟩).heap.modify 0 fun|.cells _ t frozen=>.cells #[.iface 309 (.agg #[.pointer (some ⟨6,132,none⟩)])] t frozen|o=>o}:World)) (Z6.map (·.1)) [] (by rw[c]) (by rw[c];exact K2 a) (by rw[c];exact OK a) (by rw[e];exact LaidIn.none);exact h.of_heap (by simp[World.memory,World.forCall,Input.heap])
theorem KU(b:Os)(a:Array Value):laidMetH Tryz.prog Rows.numbersRow.laid ((({World.holding Tryz.prog b ⟨#[],#[],[]⟩ with heap:=(World.holding Tryz.prog b ⟨#[],#[],[]⟩).heap.modify 0 fun|.cells _ t frozen=>.cells #[.iface 309 (.agg #[.pointer (some ⟨6,132,none⟩)])] t frozen|o=>o}:World).layVars Tryz.prog Z6).forCall (fun _ _=>0) ⟨#[],a,[]⟩).memory :=
 laidMetH_of_parts (Mz b a) (by kernel_rfl)
theorem OL{a b:Option Addr}{n m c d:Nat}(h:(Value.slice a n c).cells.toList=[.slice b m d]):a=b/\n=m/\c=d:=by
 have e:[Value.slice a n c]=[.slice b m d]:=h
 simpa using e
theorem reads(b:Os){H:Type}(enc:TypeId × Value->H):∃ a,DataW.whole enc Tryz.prog ((({World.holding Tryz.prog b ⟨#[],#[],[]⟩ with heap:=(World.holding Tryz.prog b ⟨#[],#[],[]⟩).heap.modify 0 fun|.cells _ t frozen=>.cells #[.iface 309 (.agg #[.pointer (some ⟨6,132,none⟩)])] t frozen|o=>o}:World).layVars Tryz.prog Z6).forCall (fun _ _=>0) ⟨#[],#[.int .i64 0,.slice none 0 0],[]⟩).memory Tryz.f8.params.toList Rows.numbersSpec.vars false #[Value.int .i64 0,.slice none 0 0].toList 8=some ([.lit (.int .i64 0),.nil],[],a) :=
 ⟨[],by kernel_rfl⟩
theorem Sv(g:Os)(b:g.Started)(H:Type)(enc:TypeId × Value->H)(F:Stop.Interp) :
 ReturnsInHanded {} Tryz.checked g 8 .any ((Rows.OpenSpec.upto Rows.numbersSpec).preRow enc Tryz.prog Tryz.f8 Rows.numbersUptoRow.domain false Rows.numbersUptoRow.laid) (((Rows.OpenSpec.upto Rows.numbersSpec).at F).post enc Tryz.prog Tryz.f8 false true false false):=by
 obtain⟨y,u⟩:=reads g enc;refine returnsInHanded_of_row (C:=Tryz.checked) (s:=Rows.OpenSpec.upto Rows.numbersSpec) Ju b (by kernel_rfl) Tryz.func8
  (witness_row_atRef (enc:=enc) (C:=Tryz.checked) false (({World.holding Tryz.prog g ⟨#[],#[],[]⟩ with heap:=(World.holding Tryz.prog g ⟨#[],#[],[]⟩).heap.modify 0 fun|.cells _ t frozen=>.cells #[.iface 309 (.agg #[.pointer (some ⟨6,132,none⟩)])] t frozen|o=>o}:World).layVars Tryz.prog Z6) #[.int .i64 0,.slice none 0 0] rfl (by kernel_rfl) (by kernel_rfl) (by kernel_rfl)
    (OpenSpec.preRow_of_cond 8 u (by kernel_rfl) (fun k L=>by cases L;kernel_rfl) (by kernel_rfl) (KU g _))) ?_
 intro W O i ds gs v a V _ d _ hL _ _;have c:=V;obtain⟨p,q,E,hV,rfl,a2,a3⟩:=V;have T:DataW.TrodAll enc Tryz.prog W 0 (fun _=>true) true Tryz.f8.params.toList i.toList ds p:=E;rw[Tryz.params8] at T a;obtain⟨v0,v1,Q,A,Y,p1,rfl,rfl,rfl,R,S⟩:=trodAll_two T;obtain⟨rfl,rfl⟩:=trodVars_none hV;obtain⟨X,rfl⟩:=okWide_int FF (a 0 3 v0 rfl rfl);obtain⟨a0,len,a1,rfl⟩:=okWide_slice Tryz.underlying51 (a 1 51 v1 rfl rfl);have B:=R;have D:=S;obtain⟨f0,J⟩:=R;obtain⟨f1,K⟩:=S;obtain⟨m0,e0,r0⟩:=Yk J;obtain rfl:X=m0:=by simpa using e0
 obtain⟨sl,c1,f,j,N,M,G⟩:=PJ K;obtain⟨rfl,rfl,rfl⟩:=OL j;have L:Rows.uptoSmall H ([Q,A]++[])=true:=d _ rfl;have l:f.length<=88000:=by
  have h:=EA L;simp only[Iz,Rows.uptoBulkAll] at h;have hb:12*f.length<=Rows.uptoBulk A:=G;omega
 have m:∀ x∈Y,x.block<W.heap.size:=fun x u=>c.lt x (by simp[u]);have r:∀ x∈p1,x.block<W.heap.size:=fun x u=>c.lt x (by simp[u]);refine(Q3 Mc W.heap.size X r0 _ _ f W (PI hL) (JS _) N M l).mono fun e W' ⟨he,I⟩=>?_;subst he;refine⟨_,rfl,[Q,A],[],_,[],Y++p1,[],c,trodAll_cons_mk (shut_bool Tryz.underlying4 _) trodAll_mk0,?_,rfl,I.below.frame _,fun h=>by cases h⟩;exact trodAll_mk2 (Below.trod PK (by kernel_rfl) (EA (by kernel_rfl)) B I.below m) (Below.trod PK (by kernel_rfl) (EA (by kernel_rfl)) D I.below r)
end Go.Proofs.YtkhnggkkiefcdaaGreatDoor
