/- larder: joined texts -/
import Derived.Test.YtkhnggkkiefcdaaGreatDoorKRZAA
import Derived.Test.YtkhnggkkiefcdaaGreatDoorKRAT
import Derived.Test.YtkhnggkkiefcdaaGreatDoorKRAZ
import Derived.Test.YtkhnggkkiefcdaaGreatDoorKRBA
import Derived.Test.YtkhnggkkiefcdaaGreatDoorCards
import Derived.Test.YtkhnggkkiefcdaaGreatDoorTie
import Derived.WalkKit
import Derived.ProofKit
import Derived.OpenShut
import Derived.Carry
import Derived.Lay
import Derived.LaidHandle
import Derived.Deep.DeepHandedRow
import Derived.Deep.DeepWitnessRowRef
namespace Go.Proofs.YtkhnggkkiefcdaaGreatDoor
open Go.ChangeShapes Go.WideShapes Go.ChangeAt Go.RowKit
set_option maxRecDepth 100000
abbrev Df:=@Go.trodAll_cons_mk
theorem Rt:ownKnob Tryz.prog.godebug=none:=by kernel_rfl
theorem Ym:laidOutB Tryz.prog=true:=by kernel_rfl
def zC:List (String × DataW Unit):=Rows.keptRow.laid.filter fun x=>x.2.handleName?.isNone
theorem UX(a:Os):({World.holding Tryz.prog a ⟨#[],#[],[]⟩ with heap:=(World.holding Tryz.prog a ⟨#[],#[],[]⟩).heap.modify 0 fun|.cells _ t frozen=>.cells #[.iface 309 (.agg #[.pointer (some ⟨6,132,none⟩)])] t frozen|o=>o}:World).layFits Tryz.prog zC []=true:=by kernel_rfl
theorem Vw(a:Os):({World.holding Tryz.prog a ⟨#[],#[],[]⟩ with heap:=(World.holding Tryz.prog a ⟨#[],#[],[]⟩).heap.modify 0 fun|.cells _ t frozen=>.cells #[.iface 309 (.agg #[.pointer (some ⟨6,132,none⟩)])] t frozen|o=>o}:World).layIfaces Tryz.prog zC (({World.holding Tryz.prog a ⟨#[],#[],[]⟩ with heap:=(World.holding Tryz.prog a ⟨#[],#[],[]⟩).heap.modify 0 fun|.cells _ t frozen=>.cells #[.iface 309 (.agg #[.pointer (some ⟨6,132,none⟩)])] t frozen|o=>o}:World).layVars Tryz.prog zC)=true:=by kernel_rfl
theorem Ua(a:Os)(b:Array Value):laidMet Tryz.prog zC ((({World.holding Tryz.prog a ⟨#[],#[],[]⟩ with heap:=(World.holding Tryz.prog a ⟨#[],#[],[]⟩).heap.modify 0 fun|.cells _ t frozen=>.cells #[.iface 309 (.agg #[.pointer (some ⟨6,132,none⟩)])] t frozen|o=>o}:World).layVars Tryz.prog zC).forCall (fun _ _=>0) ⟨#[],b,[]⟩).memory:=by
 have c:(zC.filter fun x=>(zC.map (·.1)).contains x.1)=zC:=List.filter_eq_self.2 fun x d=>DH.2 (Gm.2 ⟨x,d,rfl⟩);have e:(zC.filter fun x=>!(zC.map (·.1)).contains x.1)=[]:=List.filter_eq_nil_iff.2 fun x d=>by rw[DH.2 (Gm.2 ⟨x,d,rfl⟩)];simp
 have h:laidMet Tryz.prog zC (({World.holding Tryz.prog a ⟨#[],#[],[]⟩ with heap:=(World.holding Tryz.prog a ⟨#[],#[],[]⟩).heap.modify 0 fun|.cells _ t frozen=>.cells #[.iface 309 (.agg #[.pointer (some ⟨6,132,none⟩)])] t frozen|o=>o}:World).layVars Tryz.prog zC):=laidMet_layVars (w0:=({World.holding Tryz.prog a ⟨#[],#[],[]⟩ with heap:=(World.holding Tryz.prog a ⟨#[],#[],[]⟩).heap.modify 0 fun|.cells _ t frozen=>.cells #[.iface 309 (.agg #[.pointer (some ⟨6,132,none⟩)])] t frozen|o=>o}:World)) (zC.map (·.1)) [] (by rw[c]) (by rw[c];exact UX a) (by rw[c];exact Vw a) (by rw[e];exact LaidIn.none);exact h.of_heap (by simp[World.memory,World.forCall,Input.heap])
theorem TP(b:Os)(a:Array Value):laidMetH Tryz.prog Rows.keptRow.laid ((({World.holding Tryz.prog b ⟨#[],#[],[]⟩ with heap:=(World.holding Tryz.prog b ⟨#[],#[],[]⟩).heap.modify 0 fun|.cells _ t frozen=>.cells #[.iface 309 (.agg #[.pointer (some ⟨6,132,none⟩)])] t frozen|o=>o}:World).layVars Tryz.prog zC).forCall (fun _ _=>0) ⟨#[],a,[]⟩).memory :=
 laidMetH_of_parts (Ua b a) (by kernel_rfl)
theorem Vx{a b:Option Addr}{n m c d:Nat}(h:(Value.slice a n c).cells.toList=[.slice b m d]):a=b/\n=m/\c=d:=by
 have e:[Value.slice a n c]=[.slice b m d]:=h
 simpa using e
theorem Ub{H:Type}{enc:TypeId × Value->H}{P:Program}{w:World}{b:Nat}{a:Nat->Bool}{held:Bool}{I J K L M N:TypeId}{c:Array Value}{D:List (DataW H)}{E:List MemPlace}(h:DataW.TrodAll enc P w b a held [I,J,K,L,M,N] c.toList D E) :
 ∃ u v x y A B f g i j k l m o p q r t,c=#[u,v,x,y,A,B]/\D=[f,g,i,j,k,l]/\E=m++o++p++q++r++t/\DataW.Trod enc P w b a held I u f m/\DataW.Trod enc P w b a held J v g o/\DataW.Trod enc P w b a held K x i p/\DataW.Trod enc P w b a held L y j q/\DataW.Trod enc P w b a held M A k r/\DataW.Trod enc P w b a held N B l t:=by
 obtain⟨u,a0,f,O,m,q0,e0,rfl,rfl,h0,r0⟩:=Dj h;obtain⟨v,a1,g,Q,o,q1,V,rfl,rfl,h1,r1⟩:=Dj r0;obtain⟨x,a2,i,R,p,q2,X,rfl,rfl,h2,r2⟩:=Dj r1;obtain⟨y,a3,j,S,q,q3,Y,rfl,rfl,h3,r3⟩:=Dj r2;obtain⟨A,a4,k,T,r,q4,e4,rfl,rfl,h4,r4⟩:=Dj r3;obtain⟨B,e,l,d,t,q5,e5,rfl,rfl,h5,G⟩:=Dj r4;have hz:e=[]/\d=[]/\q5=[]:=by
  cases e <;> cases d <;> simp[DataW.TrodAll] at G |-
  exact G
 obtain⟨rfl,rfl,rfl⟩:=hz;subst e5;subst e4;subst Y;subst X;subst V;refine⟨u,v,x,y,A,B,f,g,i,j,k,l,m,o,p,q,r,t,?_,rfl,by simp,h0,h1,h2,h3,h4,h5⟩;cases c
 simp_all
theorem reads(b:Os){H:Type}(enc:TypeId × Value->H):∃ a,DataW.whole enc Tryz.prog ((({World.holding Tryz.prog b ⟨#[],#[],[]⟩ with heap:=(World.holding Tryz.prog b ⟨#[],#[],[]⟩).heap.modify 0 fun|.cells _ t frozen=>.cells #[.iface 309 (.agg #[.pointer (some ⟨6,132,none⟩)])] t frozen|o=>o}:World).layVars Tryz.prog zC).forCall (fun _ _=>0) ⟨#[],#[.int .i64 0,.slice none 0 0,.int .i64 0,.bool false,.int .i64 0,.slice none 0 0],[]⟩).memory Tryz.f9.params.toList Rows.keptSpec.vars false #[Value.int .i64 0,.slice none 0 0,.int .i64 0,.bool false,.int .i64 0,.slice none 0 0].toList 8=some ([.lit (.int .i64 0),.nil,.lit (.int .i64 0),.lit (.bool false),.lit (.int .i64 0),.nil],[],a) :=
 ⟨[],by kernel_rfl⟩
theorem Nb(j:Os)(d:j.Started)(H:Type)(enc:TypeId × Value->H)(F:Stop.Interp) :
 ReturnsInHanded {} Tryz.checked j 9 .any ((Rows.OpenSpec.upto Rows.keptSpec).preRow enc Tryz.prog Tryz.f9 Rows.keptUptoRow.domain false Rows.keptUptoRow.laid) (((Rows.OpenSpec.upto Rows.keptSpec).at F).post enc Tryz.prog Tryz.f9 false true false false):=by
 obtain⟨G,c⟩:=reads j enc;refine returnsInHanded_of_row (C:=Tryz.checked) (s:=Rows.OpenSpec.upto Rows.keptSpec) Rt d (by kernel_rfl) Tryz.func9
  (witness_row_atRef (enc:=enc) (C:=Tryz.checked) false (({World.holding Tryz.prog j ⟨#[],#[],[]⟩ with heap:=(World.holding Tryz.prog j ⟨#[],#[],[]⟩).heap.modify 0 fun|.cells _ t frozen=>.cells #[.iface 309 (.agg #[.pointer (some ⟨6,132,none⟩)])] t frozen|o=>o}:World).layVars Tryz.prog zC) #[.int .i64 0,.slice none 0 0,.int .i64 0,.bool false,.int .i64 0,.slice none 0 0] rfl (by kernel_rfl) (by kernel_rfl) (by kernel_rfl)
    (OpenSpec.preRow_of_cond 8 c (by kernel_rfl) (fun k hk=>by cases hk;kernel_rfl) (by kernel_rfl) (TP j _))) ?_
 intro W a6 l ds gs E a hW _ f _ hL _ _;have b:=hW;obtain⟨p,q,Q,hV,rfl,b2,b3⟩:=hW;have hA:DataW.TrodAll enc Tryz.prog W 0 (fun _=>true) true Tryz.f9.params.toList l.toList ds p:=Q;rw[Tryz.params9] at hA a;obtain⟨v0,v1,v2,v3,v4,v5,d0,I,d2,d3,d4,d5,p0,p1,p2,p3,p4,p5,rfl,rfl,rfl,h0,h1,h2,h3,h4,h5⟩:=Ub hA;obtain⟨rfl,rfl⟩:=trodVars_none hV;obtain⟨n0,rfl⟩:=Ab Ew (a 0 3 v0 rfl rfl);obtain⟨a1,a9,a7,rfl⟩:=okWide_slice Bj (a 1 51 v1 rfl rfl);obtain⟨n2,rfl⟩:=Ab Ew (a 2 3 v2 rfl rfl);obtain⟨n3,rfl⟩:=okWide_bool CJ (a 3 4 v3 rfl rfl);obtain⟨n4,rfl⟩:=Ab Ew (a 4 3 v4 rfl rfl);obtain⟨a5,b0,a8,rfl⟩:=okWide_slice Dh (a 5 26 v5 rfl rfl);have J:=h0;have K:=h1;have L:=h2;have M:=h3;have N:=h4;have O:=h5;obtain⟨f0,S⟩:=h0;obtain⟨f1,T⟩:=h1;obtain⟨f2,V⟩:=h2;obtain⟨f3,b1⟩:=h3;obtain⟨f4,X⟩:=h4;obtain⟨f5,Y⟩:=h5;obtain⟨m0,e0,r0⟩:=ZJ S;obtain rfl:n0=m0:=by simpa using e0
 obtain⟨sl,c1,i,m,a3,a2,R⟩:=UV T;obtain⟨rfl,rfl,rfl⟩:=Vx m;obtain⟨m2,e2,r2⟩:=ZJ V;obtain rfl:n2=m2:=by simpa using e2
 obtain⟨m4,e4,r4⟩:=ZJ X;obtain rfl:n4=m4:=by simpa using e4
 obtain⟨l5,a0,a4⟩:=O6 rfl Y;have hk:Rows.uptoSmall H ([d0,I,d2,d3,d4,d5]++[])=true:=f _ rfl;have r:i.length<=88000:=by
  have h:=FE hk;simp only[GI,Rows.uptoBulkAll] at h;have hb:12*i.length<=Rows.uptoBulk I:=R;omega
 have u:∀ x∈p0,x.block<W.heap.size:=fun x c=>b.lt x (by simp[c]);have v:∀ x∈p1,x.block<W.heap.size:=fun x c=>b.lt x (by simp[c]);have y:∀ x∈p2,x.block<W.heap.size:=fun x c=>b.lt x (by simp[c]);have A:∀ x∈p3,x.block<W.heap.size:=fun x c=>b.lt x (by simp[c]);have B:∀ x∈p4,x.block<W.heap.size:=fun x c=>b.lt x (by simp[c]);have D:∀ x∈p5,x.block<W.heap.size:=fun x c=>b.lt x (by simp[c]);refine(LV SA W.heap.size n0 n2 n4 n3 l5 _ r0 r2 r4 _ _ i W (UW hL) (Gb _) a3 a2 r a0 a4).mono fun e W' ⟨he,g⟩=>?_;subst he;refine⟨_,rfl,[d0,I,d2,d3,d4,d5],[],_,[],p0++(p1++(p2++(p3++(p4++(p5))))),[],b,Df (shut_bool CJ _) trodAll_mk0,?_,rfl,g.below.frame _,fun h=>by cases h⟩;exact Df (DU Ym (by kernel_rfl) (FE (by kernel_rfl)) J g.below u) (Df (DU Ym (by kernel_rfl) (FE (by kernel_rfl)) K g.below v) (Df (DU Ym (by kernel_rfl) (FE (by kernel_rfl)) L g.below y) (Df (DU Ym (by kernel_rfl) (FE (by kernel_rfl)) M g.below A) (trodAll_mk2 (DU Ym (by kernel_rfl) (FE (by kernel_rfl)) N g.below B) (DU Ym (by kernel_rfl) (FE (by kernel_rfl)) O g.below D)))))
end Go.Proofs.YtkhnggkkiefcdaaGreatDoor
