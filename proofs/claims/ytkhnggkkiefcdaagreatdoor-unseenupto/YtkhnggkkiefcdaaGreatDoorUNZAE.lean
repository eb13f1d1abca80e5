/- larder: joined texts -/
import Derived.Test.YtkhnggkkiefcdaaGreatDoorUNZAD
import Derived.Test.YtkhnggkkiefcdaaGreatDoorUNAT
import Derived.Test.YtkhnggkkiefcdaaGreatDoorUNAV
import Derived.Test.YtkhnggkkiefcdaaGreatDoorUNAX
import Derived.Test.YtkhnggkkiefcdaaGreatDoorCards
import Derived.Test.YtkhnggkkiefcdaaGreatDoorTie
import Derived.WalkKit
import Derived.ProofKit
import Derived.OpenShut
import Derived.Carry
import Derived.Lay
import Derived.LaidHandle
import Derived.Deep.DeepHandedRow
import Derived.Deep.DeepWitnessRowRef
namespace Go.Proofs.YtkhnggkkiefcdaaGreatDoor
open Go.ChangeShapes Go.WideShapes Go.ChangeAt Go.RowKit
set_option maxRecDepth 100000
theorem JV:ownKnob Tryz.prog.godebug=none:=by kernel_rfl
theorem Th:laidOutB Tryz.prog=true:=by kernel_rfl
def Zc:List (String × DataW Unit):=Rows.unseenRow.laid.filter fun x=>x.2.handleName?.isNone
theorem Kr(a:Os):({World.holding Tryz.prog a ⟨#[],#[],[]⟩ with heap:=(World.holding Tryz.prog a ⟨#[],#[],[]⟩).heap.modify 0 fun|.cells _ t frozen=>.cells #[.iface 309 (.agg #[.pointer (some ⟨6,132,none⟩)])] t frozen|o=>o}:World).layFits Tryz.prog Zc []=true:=by kernel_rfl
theorem N4(a:Os):({World.holding Tryz.prog a ⟨#[],#[],[]⟩ with heap:=(World.holding Tryz.prog a ⟨#[],#[],[]⟩).heap.modify 0 fun|.cells _ t frozen=>.cells #[.iface 309 (.agg #[.pointer (some ⟨6,132,none⟩)])] t frozen|o=>o}:World).layIfaces Tryz.prog Zc (({World.holding Tryz.prog a ⟨#[],#[],[]⟩ with heap:=(World.holding Tryz.prog a ⟨#[],#[],[]⟩).heap.modify 0 fun|.cells _ t frozen=>.cells #[.iface 309 (.agg #[.pointer (some ⟨6,132,none⟩)])] t frozen|o=>o}:World).layVars Tryz.prog Zc)=true:=by kernel_rfl
theorem MX(a:Os)(b:Array Value):laidMet Tryz.prog Zc ((({World.holding Tryz.prog a ⟨#[],#[],[]⟩ with heap:=(World.holding Tryz.prog a ⟨#[],#[],[]⟩).heap.modify 0 fun|.cells _ t frozen=>.cells #[.iface 309 (.agg #[.pointer (some ⟨6,132,none⟩)])] t frozen|o=>o}:World).layVars Tryz.prog Zc).forCall (fun _ _=>0) ⟨#[],b,[]⟩).memory:=by
 have c:(Zc.filter fun x=>(Zc.map (·.1)).contains x.1)=Zc:=List.filter_eq_self.2 fun x d=>List.contains_iff_mem.2 (Iy.2 ⟨x,d,rfl⟩);have e:(Zc.filter fun x=>!(Zc.map (·.1)).contains x.1)=[]:=List.filter_eq_nil_iff.2 fun x d=>by rw[List.contains_iff_mem.2 (Iy.2 ⟨x,d,rfl⟩)];simp
 have h:laidMet Tryz.prog Zc (({World.holding Tryz.prog a ⟨#[],#[],[]⟩ with heap:=(World.holding Tryz.prog a ⟨#[],#[],[]⟩).heap.modify 0 fun|.cells _ t frozen=>.cells #[.iface 309 (.agg #[.pointer (some ⟨6,132,none⟩)])] t frozen|o=>o}:World).layVars Tryz.prog Zc):=laidMet_layVars (w0:=({World.holding Tryz.prog a ⟨#[],#[],[]⟩ with heap:=(World.holding Tryz.prog a ⟨#[],#[],[]⟩).heap.modify 0 fun|.cells _ t frozen=>.cells #[.iface 309 (.agg #[.pointer (some ⟨6,132,none⟩)])] t frozen|o=>o}:World)) (Zc.map (·.1)) [] (by rw[c]) (by rw[c];exact Kr a) (by rw[c];exact N4 a) (by rw[e];exact LaidIn.none);exact h.of_heap (by simp[World.memory,World.forCall,Input.heap])
theorem Jn(b:Os)(a:Array Value):laidMetH Tryz.prog Rows.unseenRow.laid ((({World.holding Tryz.prog b ⟨#[],#[],[]⟩ with heap:=(World.holding Tryz.prog b ⟨#[],#[],[]⟩).heap.modify 0 fun|.cells _ t frozen=>.cells #[.iface 309 (.agg #[.pointer (some ⟨6,132,none⟩)])] t frozen|o=>o}:World).layVars Tryz.prog Zc).forCall (fun _ _=>0) ⟨#[],a,[]⟩).memory :=
 laidMetH_of_parts (MX b a) (by kernel_rfl)
theorem N7{a b:Option Addr}{n m c d:Nat}(h:(Value.slice a n c).cells.toList=[.slice b m d]):a=b/\n=m/\c=d:=by
 have e:[Value.slice a n c]=[.slice b m d]:=h
 simpa using e
theorem MY{H:Type}{enc:TypeId × Value->H}{P:Program}{w:World}{base:Nat}{a:Nat->Bool}{held:Bool}{t u v:TypeId}{b:Array Value}{p:List (DataW H)}{q:List MemPlace}(h:DataW.TrodAll enc P w base a held [t,u,v] b.toList p q) :
 ∃ l m o e f g i j k,b=#[l,m,o]/\p=[e,f,g]/\q=i++j++k/\DataW.Trod enc P w base a held t l e i/\DataW.Trod enc P w base a held u m f j/\DataW.Trod enc P w base a held v o g k:=by
 obtain⟨l,M,e,x,i,Q,O,rfl,rfl,D,K⟩:=trodAll_cons h;obtain⟨m,N,f,y,j,R,A,rfl,rfl,E,L⟩:=trodAll_cons K;obtain⟨o,d,g,c,k,J,B,rfl,rfl,G,r⟩:=trodAll_cons L;have I:d=[]/\c=[]/\J=[]:=by
  cases d <;> cases c <;> simp[DataW.TrodAll] at r |-
  exact r
 obtain⟨rfl,rfl,rfl⟩:=I;subst B;subst A;refine⟨l,m,o,e,f,g,i,j,k,?_,rfl,by simp,D,E,G⟩;cases b
 simp_all
theorem reads(b:Os){H:Type}(enc:TypeId × Value->H):∃ a,DataW.whole enc Tryz.prog ((({World.holding Tryz.prog b ⟨#[],#[],[]⟩ with heap:=(World.holding Tryz.prog b ⟨#[],#[],[]⟩).heap.modify 0 fun|.cells _ t frozen=>.cells #[.iface 309 (.agg #[.pointer (some ⟨6,132,none⟩)])] t frozen|o=>o}:World).layVars Tryz.prog Zc).forCall (fun _ _=>0) ⟨#[],#[.int .i64 0,.slice none 0 0,.slice none 0 0],[]⟩).memory Tryz.f12.params.toList Rows.unseenSpec.vars false #[Value.int .i64 0,.slice none 0 0,.slice none 0 0].toList 8=some ([.lit (.int .i64 0),.nil,.nil],[],a) :=
 ⟨[],by kernel_rfl⟩
theorem RQ(m:Os)(d:m.Started)(H:Type)(enc:TypeId × Value->H)(F:Stop.Interp) :
 ReturnsInHanded {} Tryz.checked m 12 .any ((Rows.OpenSpec.upto Rows.unseenSpec).preRow enc Tryz.prog Tryz.f12 Rows.unseenUptoRow.domain false Rows.unseenUptoRow.laid) (((Rows.OpenSpec.upto Rows.unseenSpec).at F).post enc Tryz.prog Tryz.f12 false true false false):=by
 obtain⟨L,l⟩:=reads m enc;refine returnsInHanded_of_row (C:=Tryz.checked) (s:=Rows.OpenSpec.upto Rows.unseenSpec) JV d (by kernel_rfl) CT
  (witness_row_atRef (enc:=enc) (C:=Tryz.checked) false (({World.holding Tryz.prog m ⟨#[],#[],[]⟩ with heap:=(World.holding Tryz.prog m ⟨#[],#[],[]⟩).heap.modify 0 fun|.cells _ t frozen=>.cells #[.iface 309 (.agg #[.pointer (some ⟨6,132,none⟩)])] t frozen|o=>o}:World).layVars Tryz.prog Zc) #[.int .i64 0,.slice none 0 0,.slice none 0 0] rfl (by kernel_rfl) (by kernel_rfl) (by kernel_rfl)
    (OpenSpec.preRow_of_cond 8 l (by kernel_rfl) (fun k V=>by cases V;kernel_rfl) (by kernel_rfl) (Jn m _))) ?_
 intro W base r ds gs J b hW _ j _ hL _ _;have f:=hW;obtain⟨p,q,S,hV,rfl,b0,b1⟩:=hW;have hA:DataW.TrodAll enc Tryz.prog W 0 (fun _=>true) true Tryz.f12.params.toList r.toList ds p:=S;rw[Tryz.params12] at hA b;obtain⟨v0,v1,v2,d0,M,N,p0,p1,p2,rfl,rfl,rfl,h0,h1,h2⟩:=MY hA;obtain⟨rfl,rfl⟩:=trodVars_none hV;obtain⟨n0,rfl⟩:=okWide_int Eh (b 0 3 v0 rfl rfl);obtain⟨a1,a5,a3,rfl⟩:=okWide_slice DY (b 1 51 v1 rfl rfl);obtain⟨a2,a6,a4,rfl⟩:=okWide_slice Ex (b 2 26 v2 rfl rfl);have O:=h0;have Q:=h1;have R:=h2;obtain⟨f0,T⟩:=h0;obtain⟨f1,y⟩:=h1;obtain⟨f2,A⟩:=h2;obtain⟨m0,e0,r0⟩:=Yp T;obtain rfl:n0=m0:=by simpa using e0
 obtain⟨sl,c1,i,v,Y,X,a9⟩:=PL y;obtain⟨rfl,rfl,rfl⟩:=N7 v;obtain⟨l2,B,a0⟩:=PJ rfl A;have V:Rows.uptoSmall H ([d0,M,N]++[])=true:=j _ rfl;have D:10*i.length+6*min i.length l2.length<=889000:=by
  have h:=Ez V;simp only[IV,Rows.uptoBulkAll] at h;have u:=OZ y rfl;have a8:l2.length<=Rows.uptoBulk N:=by
   have:=Kq A rfl;rcases B with⟨⟨a,c,e⟩,rfl⟩|⟨g,b2,a7,e,_⟩
   .exact II _
   .simp only[GE] at e
    rw[<- e.2.1];exact this
  have u:18*i.length<=Rows.uptoBulk M:=u;omega
 have E:∀ x∈p0,x.block<W.heap.size:=fun x l=>f.lt x (by simp[l]);have G:∀ x∈p1,x.block<W.heap.size:=fun x l=>f.lt x (by simp[l]);have I:∀ x∈p2,x.block<W.heap.size:=fun x l=>f.lt x (by simp[l]);refine(PQ MH W.heap.size n0 r0 l2 _ _ _ _ _ i W (PN hL) (Io _) Y X B a0 D).mono fun e W' ⟨he,K⟩=>?_;subst he;refine⟨_,rfl,[d0,M,N],[],_,[],p0++(p1++(p2)),[],f,trodAll_cons_mk (shut_bool Tryz.underlying4 _) trodAll_mk0,?_,rfl,K.below.frame _,fun h=>by cases h⟩;exact trodAll_cons_mk (Below.trod Th (by kernel_rfl) (Ez (by kernel_rfl)) O K.below E) (trodAll_mk2 (Below.trod Th (by kernel_rfl) (Ez (by kernel_rfl)) Q K.below G) (Below.trod Th (by kernel_rfl) (Ez (by kernel_rfl)) R K.below I))
end Go.Proofs.YtkhnggkkiefcdaaGreatDoor
