/- larder: joined texts -/
import Derived.Test.YtkhnggkkiefcdaaGreatDoorWHZAA
import Derived.Test.YtkhnggkkiefcdaaGreatDoorWHAH
import Derived.Test.YtkhnggkkiefcdaaGreatDoorWHAO
import Derived.Test.YtkhnggkkiefcdaaGreatDoorWHAP
import Derived.Test.YtkhnggkkiefcdaaGreatDoorCards
import Derived.Test.YtkhnggkkiefcdaaGreatDoorTie
import Derived.WalkKit
import Derived.ProofKit
import Derived.OpenShut
import Derived.Carry
import Derived.Lay
import Derived.LaidHandle
import Derived.Deep.DeepHandedRow
import Derived.Deep.DeepWitnessRowRef
namespace Go.Proofs.YtkhnggkkiefcdaaGreatDoor
open Go.ChangeShapes Go.WideShapes Go.ChangeAt Go.RowKit
set_option maxRecDepth 100000
theorem Nn:ownKnob Tryz.prog.godebug=none:=by kernel_rfl
theorem Xp:laidOutB Tryz.prog=true:=by kernel_rfl
def zI:List (String × DataW Unit):=Rows.whollyRow.laid.filter fun x=>x.2.handleName?.isNone
theorem O9(a:Os):({World.holding Tryz.prog a ⟨#[],#[],[]⟩ with heap:=(World.holding Tryz.prog a ⟨#[],#[],[]⟩).heap.modify 0 fun|.cells _ t frozen=>.cells #[.iface 309 (.agg #[.pointer (some ⟨6,132,none⟩)])] t frozen|o=>o}:World).layFits Tryz.prog zI []=true:=by kernel_rfl
theorem Q0(a:Os):({World.holding Tryz.prog a ⟨#[],#[],[]⟩ with heap:=(World.holding Tryz.prog a ⟨#[],#[],[]⟩).heap.modify 0 fun|.cells _ t frozen=>.cells #[.iface 309 (.agg #[.pointer (some ⟨6,132,none⟩)])] t frozen|o=>o}:World).layIfaces Tryz.prog zI (({World.holding Tryz.prog a ⟨#[],#[],[]⟩ with heap:=(World.holding Tryz.prog a ⟨#[],#[],[]⟩).heap.modify 0 fun|.cells _ t frozen=>.cells #[.iface 309 (.agg #[.pointer (some ⟨6,132,none⟩)])] t frozen|o=>o}:World).layVars Tryz.prog zI)=true:=by kernel_rfl
theorem P5(a:Os)(b:Array Value):laidMet Tryz.prog zI ((({World.holding Tryz.prog a ⟨#[],#[],[]⟩ with heap:=(World.holding Tryz.prog a ⟨#[],#[],[]⟩).heap.modify 0 fun|.cells _ t frozen=>.cells #[.iface 309 (.agg #[.pointer (some ⟨6,132,none⟩)])] t frozen|o=>o}:World).layVars Tryz.prog zI).forCall (fun _ _=>0) ⟨#[],b,[]⟩).memory:=by
 have c:(zI.filter fun x=>(zI.map (·.1)).contains x.1)=zI:=List.filter_eq_self.2 fun x d=>List.contains_iff_mem.2 (Mn.2 ⟨x,d,rfl⟩);have e:(zI.filter fun x=>!(zI.map (·.1)).contains x.1)=[]:=List.filter_eq_nil_iff.2 fun x d=>by rw[List.contains_iff_mem.2 (Mn.2 ⟨x,d,rfl⟩)];simp
 have h:laidMet Tryz.prog zI (({World.holding Tryz.prog a ⟨#[],#[],[]⟩ with heap:=(World.holding Tryz.prog a ⟨#[],#[],[]⟩).heap.modify 0 fun|.cells _ t frozen=>.cells #[.iface 309 (.agg #[.pointer (some ⟨6,132,none⟩)])] t frozen|o=>o}:World).layVars Tryz.prog zI):=laidMet_layVars (w0:=({World.holding Tryz.prog a ⟨#[],#[],[]⟩ with heap:=(World.holding Tryz.prog a ⟨#[],#[],[]⟩).heap.modify 0 fun|.cells _ t frozen=>.cells #[.iface 309 (.agg #[.pointer (some ⟨6,132,none⟩)])] t frozen|o=>o}:World)) (zI.map (·.1)) [] (by rw[c]) (by rw[c];exact O9 a) (by rw[c];exact Q0 a) (by rw[e];exact LaidIn.none);exact h.of_heap (by simp[World.memory,World.forCall,Input.heap])
theorem OS(b:Os)(a:Array Value):laidMetH Tryz.prog Rows.whollyRow.laid ((({World.holding Tryz.prog b ⟨#[],#[],[]⟩ with heap:=(World.holding Tryz.prog b ⟨#[],#[],[]⟩).heap.modify 0 fun|.cells _ t frozen=>.cells #[.iface 309 (.agg #[.pointer (some ⟨6,132,none⟩)])] t frozen|o=>o}:World).layVars Tryz.prog zI).forCall (fun _ _=>0) ⟨#[],a,[]⟩).memory :=
 laidMetH_of_parts (P5 b a) (by kernel_rfl)
theorem R8{H:Type}{enc:TypeId × Value->H}{P:Program}{w:World}{b:Nat}{a:Nat->Bool}{held:Bool}{t E j F G:TypeId}{args:Array Value}{B:List (DataW H)}{D:List MemPlace}(h:DataW.TrodAll enc P w b a held [t,E,j,F,G] args.toList B D) :
 ∃ v k c l m d o e r u p x f y z,args=#[v,k,c,l,m]/\B=[d,o,e,r,u]/\D=p++x++f++y++z/\DataW.Trod enc P w b a held t v d p/\DataW.Trod enc P w b a held E k o x/\DataW.Trod enc P w b a held j c e f/\DataW.Trod enc P w b a held F l r y/\DataW.Trod enc P w b a held G m u z:=by
 obtain⟨v,I,d,J,p,q,g,rfl,rfl,Q,i⟩:=trodAll_cons h;obtain⟨k,c,l,m,o,e,r,u,x,f,y,z,R,rfl,rfl,K,L,M,N⟩:=trodAll_four (args:=I.toArray) (by simpa using i);have A:I=[k,c,l,m]:=by have:=Lx Array.toList R;simpa using this
 exact⟨v,k,c,l,m,d,o,e,r,u,p,x,f,y,z,by rw[A] at g;cases args;simp_all,rfl,by simp,Q,K,L,M,N⟩
theorem reads(b:Os){H:Type}(enc:TypeId × Value->H):∃ a,DataW.whole enc Tryz.prog ((({World.holding Tryz.prog b ⟨#[],#[],[]⟩ with heap:=(World.holding Tryz.prog b ⟨#[],#[],[]⟩).heap.modify 0 fun|.cells _ t frozen=>.cells #[.iface 309 (.agg #[.pointer (some ⟨6,132,none⟩)])] t frozen|o=>o}:World).layVars Tryz.prog zI).forCall (fun _ _=>0) ⟨#[],#[.int .i64 0,.int .i64 0,.int .i64 0,.int .i64 0,.slice none 0 0],[]⟩).memory Tryz.f10.params.toList Rows.whollySpec.vars false #[Value.int .i64 0,.int .i64 0,.int .i64 0,.int .i64 0,.slice none 0 0].toList 8=some ([.lit (.int .i64 0),.lit (.int .i64 0),.lit (.int .i64 0),.lit (.int .i64 0),.nil],[],a) :=
 ⟨[],by kernel_rfl⟩
theorem Tg(g:Os)(d:g.Started)(H:Type)(enc:TypeId × Value->H)(F:Stop.Interp) :
 ReturnsInHanded {} Tryz.checked g 10 .any ((OpenSpec.ofChange Rows.whollySpec).preRow enc Tryz.prog Tryz.f10 Rows.whollyRow.domain false Rows.whollyRow.laid) (((OpenSpec.ofChange Rows.whollySpec).at F).post enc Tryz.prog Tryz.f10 false true false false):=by
 obtain⟨A,b⟩:=reads g enc;refine returnsInHanded_of_row (C:=Tryz.checked) (s:=OpenSpec.ofChange Rows.whollySpec) Nn d (by kernel_rfl) Ix
  (witness_row_atRef (enc:=enc) (C:=Tryz.checked) false (({World.holding Tryz.prog g ⟨#[],#[],[]⟩ with heap:=(World.holding Tryz.prog g ⟨#[],#[],[]⟩).heap.modify 0 fun|.cells _ t frozen=>.cells #[.iface 309 (.agg #[.pointer (some ⟨6,132,none⟩)])] t frozen|o=>o}:World).layVars Tryz.prog zI) #[.int .i64 0,.int .i64 0,.int .i64 0,.int .i64 0,.slice none 0 0] rfl (by kernel_rfl) (by kernel_rfl) (by kernel_rfl)
    (OpenSpec.preRow_of_cond 8 b (by kernel_rfl) (fun k hk=>by cases hk) (by kernel_rfl) (OS g _))) ?_
 intro W a0 i ds gs z a hW _ K _ hL _ _;have j:=hW;obtain⟨p,q,J,hV,rfl,a2,a3⟩:=hW;have hA:DataW.TrodAll enc Tryz.prog W 0 (fun _=>true) true Tryz.f10.params.toList i.toList ds p:=J;rw[Tryz.params10] at hA a;obtain⟨v0,v1,v2,v3,v4,d0,d1,d2,d3,d4,S,T,V,X,Y,rfl,rfl,rfl,h0,h1,h2,h3,h4⟩:=R8 hA;obtain⟨rfl,rfl⟩:=trodVars_none hV;obtain⟨n0,rfl⟩:=okWide_int LW (a 0 3 v0 rfl rfl);obtain⟨n1,rfl⟩:=okWide_int LW (a 1 3 v1 rfl rfl);obtain⟨n2,rfl⟩:=okWide_int LW (a 2 3 v2 rfl rfl);obtain⟨n3,rfl⟩:=okWide_int LW (a 3 3 v3 rfl rfl);obtain⟨a4,a5,a1,rfl⟩:=okWide_slice KZ (a 4 26 v4 rfl rfl);have B:=h0;have D:=h1;have E:=h2;have G:=h3;have I:=h4;obtain⟨f0,L⟩:=h0;obtain⟨f1,M⟩:=h1;obtain⟨f2,N⟩:=h2;obtain⟨f3,Q⟩:=h3;obtain⟨f4,R⟩:=h4;obtain⟨m0,e0,r0⟩:=XR L;obtain⟨m1,e1,r1⟩:=XR M;obtain⟨m2,e2,r2⟩:=XR N;obtain⟨m3,e3,r3⟩:=XR Q;obtain rfl:n0=m0:=by simpa using e0
 obtain rfl:n1=m1:=by simpa using e1
 obtain rfl:n2=m2:=by simpa using e2
 obtain rfl:n3=m3:=by simpa using e3
 obtain⟨l,hi,hr⟩:=OM rfl R;have c:∀ x∈S++T++V++X++Y,x.block<W.heap.size:=fun x b=>j.lt x (by simp only[MD];exact b);have m:∀ x∈S,x.block<W.heap.size:=fun x b=>c x (by simp[b]);have r:∀ x∈T,x.block<W.heap.size:=fun x b=>c x (by simp[b]);have u:∀ x∈V,x.block<W.heap.size:=fun x b=>c x (by simp[b]);have v:∀ x∈X,x.block<W.heap.size:=fun x b=>c x (by simp[b]);have y:∀ x∈Y,x.block<W.heap.size:=fun x b=>c x (by simp[b]);refine(R7 P4 W.heap.size n0 n1 n2 n3 l _ W (R3 hL) (NH _) r0 r1 r2 r3 hi hr).mono fun e W' ⟨he,f⟩=>?_;subst he;refine⟨_,rfl,[d0,d1,d2,d3,d4],[],_,[],S++(T++(V++(X++Y))),[],j,trodAll_cons_mk (shut_bool Tryz.underlying4 _) trodAll_mk0,?_,rfl,f.below.frame _,fun h=>by cases h⟩;exact trodAll_cons_mk (Ij Xp (by kernel_rfl) (Kk (by kernel_rfl)) B f.below m) (trodAll_mk4 (Ij Xp (by kernel_rfl) (Kk (by kernel_rfl)) D f.below r) (Ij Xp (by kernel_rfl) (Kk (by kernel_rfl)) E f.below u) (Ij Xp (by kernel_rfl) (Kk (by kernel_rfl)) G f.below v) (Ij Xp (by kernel_rfl) (Kk (by kernel_rfl)) I f.below y))
end Go.Proofs.YtkhnggkkiefcdaaGreatDoor
