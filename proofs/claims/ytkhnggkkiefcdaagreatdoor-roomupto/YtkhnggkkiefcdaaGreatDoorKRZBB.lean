/- larder: joined texts -/
import Derived.Test.YtkhnggkkiefcdaaGreatDoorKRZBA
import Derived.Test.YtkhnggkkiefcdaaGreatDoorKRAT
import Derived.Test.YtkhnggkkiefcdaaGreatDoorKRAZ
import Derived.Test.YtkhnggkkiefcdaaGreatDoorKRBA
import Derived.Test.YtkhnggkkiefcdaaGreatDoorCards
import Derived.Test.YtkhnggkkiefcdaaGreatDoorTie
import Derived.WalkKit
import Derived.ProofKit
import Derived.OpenShut
import Derived.Carry
import Derived.Lay
import Derived.LaidHandle
import Derived.Deep.DeepHandedRow
import Derived.Deep.DeepWitnessRowRef
namespace Go.Proofs.YtkhnggkkiefcdaaGreatDoor
open Go.ChangeShapes Go.WideShapes Go.ChangeAt Go.RowKit
set_option maxRecDepth 100000
theorem Rt:ownKnob Tryz.prog.godebug=none:=by kernel_rfl
theorem Ym:laidOutB Tryz.prog=true:=by kernel_rfl
def zC:List (String × DataW Unit):=Rows.roomRow.laid.filter fun x=>x.2.handleName?.isNone
theorem UX(a:Os):({World.holding Tryz.prog a ⟨#[],#[],[]⟩ with heap:=(World.holding Tryz.prog a ⟨#[],#[],[]⟩).heap.modify 0 fun|.cells _ t frozen=>.cells #[.iface 309 (.agg #[.pointer (some ⟨6,132,none⟩)])] t frozen|o=>o}:World).layFits Tryz.prog zC []=true:=by kernel_rfl
theorem Vw(a:Os):({World.holding Tryz.prog a ⟨#[],#[],[]⟩ with heap:=(World.holding Tryz.prog a ⟨#[],#[],[]⟩).heap.modify 0 fun|.cells _ t frozen=>.cells #[.iface 309 (.agg #[.pointer (some ⟨6,132,none⟩)])] t frozen|o=>o}:World).layIfaces Tryz.prog zC (({World.holding Tryz.prog a ⟨#[],#[],[]⟩ with heap:=(World.holding Tryz.prog a ⟨#[],#[],[]⟩).heap.modify 0 fun|.cells _ t frozen=>.cells #[.iface 309 (.agg #[.pointer (some ⟨6,132,none⟩)])] t frozen|o=>o}:World).layVars Tryz.prog zC)=true:=by kernel_rfl
theorem Ua(a:Os)(b:Array Value):laidMet Tryz.prog zC ((({World.holding Tryz.prog a ⟨#[],#[],[]⟩ with heap:=(World.holding Tryz.prog a ⟨#[],#[],[]⟩).heap.modify 0 fun|.cells _ t frozen=>.cells #[.iface 309 (.agg #[.pointer (some ⟨6,132,none⟩)])] t frozen|o=>o}:World).layVars Tryz.prog zC).forCall (fun _ _=>0) ⟨#[],b,[]⟩).memory:=by
 have c:(zC.filter fun x=>(zC.map (·.1)).contains x.1)=zC:=List.filter_eq_self.2 fun x d=>DH.2 (Gm.2 ⟨x,d,rfl⟩);have e:(zC.filter fun x=>!(zC.map (·.1)).contains x.1)=[]:=List.filter_eq_nil_iff.2 fun x d=>by rw[DH.2 (Gm.2 ⟨x,d,rfl⟩)];simp
 have h:laidMet Tryz.prog zC (({World.holding Tryz.prog a ⟨#[],#[],[]⟩ with heap:=(World.holding Tryz.prog a ⟨#[],#[],[]⟩).heap.modify 0 fun|.cells _ t frozen=>.cells #[.iface 309 (.agg #[.pointer (some ⟨6,132,none⟩)])] t frozen|o=>o}:World).layVars Tryz.prog zC):=laidMet_layVars (w0:=({World.holding Tryz.prog a ⟨#[],#[],[]⟩ with heap:=(World.holding Tryz.prog a ⟨#[],#[],[]⟩).heap.modify 0 fun|.cells _ t frozen=>.cells #[.iface 309 (.agg #[.pointer (some ⟨6,132,none⟩)])] t frozen|o=>o}:World)) (zC.map (·.1)) [] (by rw[c]) (by rw[c];exact UX a) (by rw[c];exact Vw a) (by rw[e];exact LaidIn.none);exact h.of_heap (by simp[World.memory,World.forCall,Input.heap])
theorem TP(b:Os)(a:Array Value):laidMetH Tryz.prog Rows.roomRow.laid ((({World.holding Tryz.prog b ⟨#[],#[],[]⟩ with heap:=(World.holding Tryz.prog b ⟨#[],#[],[]⟩).heap.modify 0 fun|.cells _ t frozen=>.cells #[.iface 309 (.agg #[.pointer (some ⟨6,132,none⟩)])] t frozen|o=>o}:World).layVars Tryz.prog zC).forCall (fun _ _=>0) ⟨#[],a,[]⟩).memory :=
 laidMetH_of_parts (Ua b a) (by kernel_rfl)
theorem Vx{a b:Option Addr}{n m c d:Nat}(h:(Value.slice a n c).cells.toList=[.slice b m d]):a=b/\n=m/\c=d:=by
 have e:[Value.slice a n c]=[.slice b m d]:=h
 simpa using e
theorem Ub{H:Type}{enc:TypeId × Value->H}{P:Program}{w:World}{b:Nat}{a:Nat->Bool}{held:Bool}{u v x:TypeId}{c:Array Value}{q:List (DataW H)}{r:List MemPlace}(h:DataW.TrodAll enc P w b a held [u,v,x] c.toList q r) :
 ∃ m o p f g i j k l,c=#[m,o,p]/\q=[f,g,i]/\r=j++k++l/\DataW.Trod enc P w b a held u m f j/\DataW.Trod enc P w b a held v o g k/\DataW.Trod enc P w b a held x p i l:=by
 obtain⟨m,N,f,y,j,R,Q,rfl,rfl,E,L⟩:=Dj h;obtain⟨o,O,g,A,k,S,B,rfl,rfl,G,M⟩:=Dj L;obtain⟨p,e,i,d,l,K,D,rfl,rfl,I,t⟩:=Dj M;have J:e=[]/\d=[]/\K=[]:=by
  cases e <;> cases d <;> simp[DataW.TrodAll] at t |-
  exact t
 obtain⟨rfl,rfl,rfl⟩:=J;subst D;subst B;refine⟨m,o,p,f,g,i,j,k,l,?_,rfl,by simp,E,G,I⟩;cases c
 simp_all
theorem reads(b:Os){H:Type}(enc:TypeId × Value->H):∃ a,DataW.whole enc Tryz.prog ((({World.holding Tryz.prog b ⟨#[],#[],[]⟩ with heap:=(World.holding Tryz.prog b ⟨#[],#[],[]⟩).heap.modify 0 fun|.cells _ t frozen=>.cells #[.iface 309 (.agg #[.pointer (some ⟨6,132,none⟩)])] t frozen|o=>o}:World).layVars Tryz.prog zC).forCall (fun _ _=>0) ⟨#[],#[.int .i64 0,.slice none 0 0,.int .i64 0],[]⟩).memory Tryz.f11.params.toList Rows.roomSpec.vars false #[Value.int .i64 0,.slice none 0 0,.int .i64 0].toList 8=some ([.lit (.int .i64 0),.nil,.lit (.int .i64 0)],[],a) :=
 ⟨[],by kernel_rfl⟩
theorem NG(i:Os)(b:i.Started)(H:Type)(enc:TypeId × Value->H)(F:Stop.Interp) :
 ReturnsInHanded {} Tryz.checked i 11 .any ((Rows.OpenSpec.upto Rows.roomSpec).preRow enc Tryz.prog Tryz.f11 Rows.roomUptoRow.domain false Rows.roomUptoRow.laid) (((Rows.OpenSpec.upto Rows.roomSpec).at F).post enc Tryz.prog Tryz.f11 false true false false):=by
 obtain⟨B,f⟩:=reads i enc;refine returnsInHanded_of_row (C:=Tryz.checked) (s:=Rows.OpenSpec.upto Rows.roomSpec) Rt b (by kernel_rfl) Al
  (witness_row_atRef (enc:=enc) (C:=Tryz.checked) false (({World.holding Tryz.prog i ⟨#[],#[],[]⟩ with heap:=(World.holding Tryz.prog i ⟨#[],#[],[]⟩).heap.modify 0 fun|.cells _ t frozen=>.cells #[.iface 309 (.agg #[.pointer (some ⟨6,132,none⟩)])] t frozen|o=>o}:World).layVars Tryz.prog zC) #[.int .i64 0,.slice none 0 0,.int .i64 0] rfl (by kernel_rfl) (by kernel_rfl) (by kernel_rfl)
    (OpenSpec.preRow_of_cond 8 f (by kernel_rfl) (fun k O=>by cases O;kernel_rfl) (by kernel_rfl) (TP i _))) ?_
 intro W S j ds gs y a hW _ d _ hL _ _;have c:=hW;obtain⟨p,q,J,hV,rfl,a2,a3⟩:=hW;have hA:DataW.TrodAll enc Tryz.prog W 0 (fun _=>true) true Tryz.f11.params.toList j.toList ds p:=J;rw[Tryz.params11] at hA a;obtain⟨v0,v1,v2,V,D,X,p0,p1,p2,rfl,rfl,rfl,Y,h1,h2⟩:=Ub hA;obtain⟨rfl,rfl⟩:=trodVars_none hV;obtain⟨n0,rfl⟩:=Ab Ew (a 0 3 v0 rfl rfl);obtain⟨a1,a0,T,rfl⟩:=okWide_slice Bj (a 1 51 v1 rfl rfl);obtain⟨n2,rfl⟩:=Ab Ew (a 2 3 v2 rfl rfl);have E:=Y;have G:=h1;have I:=h2;obtain⟨f0,L⟩:=Y;obtain⟨f1,M⟩:=h1;obtain⟨f2,N⟩:=h2;obtain⟨m0,e0,r0⟩:=ZJ L;obtain rfl:n0=m0:=by simpa using e0
 obtain⟨sl,c1,g,l,R,Q,K⟩:=UV M;obtain⟨rfl,rfl,rfl⟩:=Vx l;obtain⟨m2,e2,r2⟩:=ZJ N;obtain rfl:n2=m2:=by simpa using e2
 have O:Rows.uptoSmall H ([V,D,X]++[])=true:=d _ rfl;have m:g.length<=88000:=by
  have h:=FE O;simp only[GI,Rows.uptoBulkAll] at h;have hb:12*g.length<=Rows.uptoBulk D:=K;omega
 have r:∀ x∈p0,x.block<W.heap.size:=fun x f=>c.lt x (by simp[f]);have u:∀ x∈p1,x.block<W.heap.size:=fun x f=>c.lt x (by simp[f]);have v:∀ x∈p2,x.block<W.heap.size:=fun x f=>c.lt x (by simp[f]);refine(NF SA W.heap.size n0 n2 r0 r2 _ _ g W (UW hL) (Gb _) R Q m).mono fun e W' ⟨he,A⟩=>?_;subst he;refine⟨_,rfl,[V,D,X],[],_,[],p0++(p1++(p2)),[],c,trodAll_cons_mk (shut_bool CJ _) trodAll_mk0,?_,rfl,A.below.frame _,fun h=>by cases h⟩;exact trodAll_cons_mk (DU Ym (by kernel_rfl) (FE (by kernel_rfl)) E A.below r) (trodAll_mk2 (DU Ym (by kernel_rfl) (FE (by kernel_rfl)) G A.below u) (DU Ym (by kernel_rfl) (FE (by kernel_rfl)) I A.below v))
end Go.Proofs.YtkhnggkkiefcdaaGreatDoor
