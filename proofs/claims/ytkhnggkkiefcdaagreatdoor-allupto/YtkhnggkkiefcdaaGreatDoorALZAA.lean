/- larder: joined texts -/
import Derived.Test.YtkhnggkkiefcdaaGreatDoorALBG
import Derived.Test.YtkhnggkkiefcdaaGreatDoorCards
import Derived.Test.YtkhnggkkiefcdaaGreatDoorTie
import Derived.ProofKit
import Derived.Lay
import Derived.Deep.DeepWitnessRowRef
namespace Go.Proofs.YtkhnggkkiefcdaaGreatDoor
open Go.ChangeShapes Go.WideShapes Go.ChangeAt Go.RowKit Proofs.Tryz
set_option maxRecDepth 100000
theorem Ch:ownKnob prog.godebug=none:=bI
theorem Sb:laidOutB prog=true:=bI
def Zm:List (String × DataW Unit):=Rows.allRow.laid.filter fun x=>x.2.handleName?.isNone
theorem Fk(a:Os):({World.holding prog a ⟨#[],#[],[]⟩ with heap:=(World.holding prog a ⟨#[],#[],[]⟩).heap.modify 0 fun|.cells _ t frozen=>.cells #[.iface 309 (.agg #[E 6 132])] t frozen|o=>o}:World).layFits prog Zm []=true:=bI
theorem ML(a:Os):({World.holding prog a ⟨#[],#[],[]⟩ with heap:=(World.holding prog a ⟨#[],#[],[]⟩).heap.modify 0 fun|.cells _ t frozen=>.cells #[.iface 309 (.agg #[E 6 132])] t frozen|o=>o}:World).layIfaces prog Zm (({World.holding prog a ⟨#[],#[],[]⟩ with heap:=(World.holding prog a ⟨#[],#[],[]⟩).heap.modify 0 fun|.cells _ t frozen=>.cells #[.iface 309 (.agg #[E 6 132])] t frozen|o=>o}:World).layVars prog Zm)=true:=bI
theorem JK(a:Os)(b:Array Value):laidMet prog Zm ((({World.holding prog a ⟨#[],#[],[]⟩ with heap:=(World.holding prog a ⟨#[],#[],[]⟩).heap.modify 0 fun|.cells _ t frozen=>.cells #[.iface 309 (.agg #[E 6 132])] t frozen|o=>o}:World).layVars prog Zm).forCall (fun _ _=>0) ⟨#[],b,[]⟩).memory:=by
 have c:(Zm.filter fun x=>(Zm.map (·.1)).contains x.1)=Zm:=List.filter_eq_self.2 fun x d=>List.contains_iff_mem.2 (Bb.2 ⟨x,d,rfl⟩);have e:(Zm.filter fun x=>!(Zm.map (·.1)).contains x.1)=[]:=List.filter_eq_nil_iff.2 fun x d=>by rw[List.contains_iff_mem.2 (Bb.2 ⟨x,d,rfl⟩)];simp
 have h:laidMet prog Zm (({World.holding prog a ⟨#[],#[],[]⟩ with heap:=(World.holding prog a ⟨#[],#[],[]⟩).heap.modify 0 fun|.cells _ t frozen=>.cells #[.iface 309 (.agg #[E 6 132])] t frozen|o=>o}:World).layVars prog Zm):=laidMet_layVars (w0:=({World.holding prog a ⟨#[],#[],[]⟩ with heap:=(World.holding prog a ⟨#[],#[],[]⟩).heap.modify 0 fun|.cells _ t frozen=>.cells #[.iface 309 (.agg #[E 6 132])] t frozen|o=>o}:World)) (Zm.map (·.1)) [] (by rw[c]) (by rw[c];exact Fk a) (by rw[c];exact ML a) (by rw[e];exact LaidIn.none);exact h.of_heap (by simp[World.memory,World.forCall,Input.heap])
theorem Ev(b:Os)(a:Array Value):laidMetH prog Rows.allRow.laid ((({World.holding prog b ⟨#[],#[],[]⟩ with heap:=(World.holding prog b ⟨#[],#[],[]⟩).heap.modify 0 fun|.cells _ t frozen=>.cells #[.iface 309 (.agg #[E 6 132])] t frozen|o=>o}:World).layVars prog Zm).forCall (fun _ _=>0) ⟨#[],a,[]⟩).memory :=
 laidMetH_of_parts (JK b a) bI
theorem QG{a:Array Value}{l:List Value}(h:(Value.agg a).cells.toList=l):a=l.toArray:=by
 have:a.toList=l:=h;rw[<- this]
theorem MM{a b:Option Addr}{n m c d:Nat}(h:(Value.slice a n c).cells.toList=[.slice b m d]):a=b/\n=m/\c=d:=by
 have e:[Value.slice a n c]=[.slice b m d]:=h
 simpa using e
theorem JL{H:Type}{enc:TypeId × Value->H}{P:Program}{w:World}{b:Nat}{a:Nat->Bool}{held:Bool}{u v x:TypeId}{c:Array Value}{q:List (DataW H)}{r:List MemPlace}(h:DataW.TrodAll enc P w b a held [u,v,x] c.toList q r) :
 ∃ m o p f g i j k l,c=#[m,o,p]/\q=[f,g,i]/\r=j++k++l/\DataW.Trod enc P w b a held u m f j/\DataW.Trod enc P w b a held v o g k/\DataW.Trod enc P w b a held x p i l:=by
 obtain⟨m,R,f,y,j,X,T,rfl,rfl,G,N⟩:=trodAll_cons h;obtain⟨o,S,g,A,k,q1,B,rfl,rfl,J,Q⟩:=trodAll_cons N;obtain⟨p,e,i,d,l,M,D,rfl,rfl,K,t⟩:=trodAll_cons Q;have L:e=[]/\d=[]/\M=[]:=by
  cases e <;> cases d <;> simp[DataW.TrodAll] at t |-
  exact t
 obtain⟨rfl,rfl,rfl⟩:=L;subst D;subst B;refine⟨m,o,p,f,g,i,j,k,l,?_,rfl,bG,G,J,K⟩;cases c
 simp_all
theorem reads(b:Os){H:Type}(enc:TypeId × Value->H):∃ a,DataW.whole enc prog ((({World.holding prog b ⟨#[],#[],[]⟩ with heap:=(World.holding prog b ⟨#[],#[],[]⟩).heap.modify 0 fun|.cells _ t frozen=>.cells #[.iface 309 (.agg #[E 6 132])] t frozen|o=>o}:World).layVars prog Zm).forCall (fun _ _=>0) ⟨#[],#[.agg #[I 0,I 0,I 0,I 0],.agg #[I 0,I 0,I 0,I 0],.slice none 0 0],[]⟩).memory Tryz.f7.params.toList Rows.allSpec.vars false #[Value.agg #[I 0,I 0,I 0,I 0],.agg #[I 0,I 0,I 0,I 0],.slice none 0 0].toList 8=some ([.agg [.lit (.int .i64 0),.lit (.int .i64 0),.lit (.int .i64 0),.lit (.int .i64 0)],.agg [.lit (.int .i64 0),.lit (.int .i64 0),.lit (.int .i64 0),.lit (.int .i64 0)],.nil],[],a) :=
 ⟨[],bI⟩
theorem JN(i:Os)(b:i.Started)(H:Type)(enc:TypeId × Value->H)(F:Stop.Interp) :
 ReturnsInHanded {} checked i 7 .any ((Rows.OpenSpec.upto Rows.allSpec).preRow enc prog Tryz.f7 Rows.allUptoRow.domain false Rows.allUptoRow.laid) (((Rows.OpenSpec.upto Rows.allSpec).at F).post enc prog Tryz.f7 false true false false):=by
 obtain⟨G,f⟩:=reads i enc;refine returnsInHanded_of_row (C:=checked) (s:=Rows.OpenSpec.upto Rows.allSpec) Ch b bI func7
  (witness_row_atRef (enc:=enc) (C:=checked) false (({World.holding prog i ⟨#[],#[],[]⟩ with heap:=(World.holding prog i ⟨#[],#[],[]⟩).heap.modify 0 fun|.cells _ t frozen=>.cells #[.iface 309 (.agg #[E 6 132])] t frozen|o=>o}:World).layVars prog Zm) #[.agg #[I 0,I 0,I 0,I 0],.agg #[I 0,I 0,I 0,I 0],.slice none 0 0] rfl bI bI bI
    (OpenSpec.preRow_of_cond 8 f bI (fun k X=>by cases X;kernel_rfl) bI (Ev i _))) ?_
 intro W a5 j ds gs B a hW _ d _ hL _ _;have c:=hW;obtain⟨p,q,N,hV,rfl,b0,b1⟩:=hW;have hA:DataW.TrodAll enc prog W 0 (fun _=>true) true Tryz.f7.params.toList j.toList ds p:=N;rw[params7] at hA a;obtain⟨v0,v1,v2,d0,d1,J,p0,p1,p2,rfl,rfl,rfl,h0,h1,h2⟩:=JL hA;obtain⟨rfl,rfl⟩:=trodVars_none hV;obtain⟨a8,rfl,_⟩:=okWide_struct vQ (a 0 23 v0 rfl rfl);obtain⟨a9,rfl,_⟩:=okWide_struct vQ (a 1 23 v1 rfl rfl);obtain⟨a2,a7,a6,rfl⟩:=okWide_slice underlying24 (a 2 24 v2 rfl rfl);have K:=h0;have L:=h1;have M:=h2;obtain⟨f0,R⟩:=h0;obtain⟨f1,S⟩:=h1;obtain⟨f2,T⟩:=h2;obtain⟨na,ra,sa,ya,l,a3⟩:=Nk R;obtain⟨nb,rb,sb,yb,m,a4⟩:=Nk S;obtain⟨sl,c2,g,r,a1,a0,Q⟩:=MI T;obtain rfl:=QG l;obtain rfl:=QG m;obtain⟨rfl,rfl,rfl⟩:=MM r;have X:Rows.uptoSmall H ([d0,d1,J]++[])=true:=d _ rfl;have u:g.length<=81000:=by
  have h:=xP X;simp only[Bz,Rows.uptoBulkAll] at h;have hb:13*g.length<=Rows.uptoBulk J:=Q;omega
 have v:∀ x∈p0,x.block<W.heap.size:=fun x f=>c.lt x (by simp[f]);have y:∀ x∈p1,x.block<W.heap.size:=fun x f=>c.lt x (by simp[f]);have A:∀ x∈p2,x.block<W.heap.size:=fun x f=>c.lt x (by simp[f]);refine(JH R5 W.heap.size (fun w ht hB=>Et R5 W.heap.size w ht hB) na ra sa ya nb rb sb yb a3 a4 _ _ g W (Nm hL) (CP _) a1 a0 u).mono fun e W' ⟨he,D⟩=>?_;subst he;refine⟨_,rfl,[d0,d1,J],[],_,[],p0++(p1++(p2)),[],c,trodAll_cons_mk (shut_bool underlying4 _) trodAll_mk0,?_,rfl,D.below.frame _,fun h=>by cases h⟩;exact trodAll_cons_mk (Below.trod Sb bI (xP bI) K D.below v) (trodAll_mk2 (Below.trod Sb bI (xP bI) L D.below y) (Below.trod Sb bI (xP bI) M D.below A))
end Go.Proofs.YtkhnggkkiefcdaaGreatDoor
