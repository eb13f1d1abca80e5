/- larder: joined texts -/
import Derived.Test.YtkhnggkkiefcdaaGreatDoorALAT
import Derived.Test.YtkhnggkkiefcdaaGreatDoorALAU
namespace Go.Proofs.YtkhnggkkiefcdaaGreatDoor
open Go.RowKit Proofs.Tryz
set_option maxRecDepth 100000
set_option maxHeartbeats 8000000
variable{c a:List (Nat × Nat)}{w W:World}{L:DL}{M:DM}{D:Dir}{k p t:Nat}{o:List Dir}{y:Lay}{l:Value}{J:JM}{e:ByteArray × Nat}{G:List Ent}
theorem Uh{c:World}{b i g s:Nat}{m:DL}{S:Dir}{u vm:Value}{q:Nat->Value}{p t:Dir}(h:DRep c b m M)
 (r:M.tL.length<=100000000000)(j:∀ f,f∈M.tL->(M.uV f).bytes.length<=1000000000000)(C:zX c w i g s M D S k a u vm q L p t o)
 (v:Value)(d:Dir)(y:c.ownsRow 0 148 2 v d.length (flat d))(B:∀ e,e∈d->e.2∈M.tL)(A:d.length<=100000000000) :
 Calls prog 99 #[v,E i 0,E g 0] w fun e x =>
  ∃ l,e=.returned l/\LQ c w x i g s M D S k a L p t o d l:=by
 have J:a.length<=M.tL.length:=by
  have:=S5 (a.map Prod.fst) M.tL C.T.n1 C.T.tL;rw[Bm] at this;exact this
 refine(Md c w b i g m M a u vm q h C.T v d y B V j).mono ?_;rintro e x ⟨l,rfl,G⟩;exact⟨l,rfl,C.other G⟩
structure First(w w3:World)(b bo bm nb:Nat)(L:DL)(M:DM)(l1:Value):Prop where
 ex:∃ ps vo vm fV d1,zX w w3 bo bm nb M [] [] 0 ps vo vm fV DL.new [] [] []/\Rel ps M.uX d1/\w3.ownsRow 0 148 2 l1 d1.length (flat d1)/\(∀ j,l1.ownBlock=some j->w.heap.size<=j)
 c0:w3.cell? (Y b 0)=some L.sQ
 c1:w3.cell? (Y b 1)=some L.sI
structure Second(w w4:World)(b bo bm nb:Nat)(L:DL)(M:DM)(l1 l2:Value):Prop where
 ex:∃ ps vo vm fV d1 s1,zX w w4 bo bm nb M [] [] 0 ps vo vm fV DL.new [] [] []/\Rel ps M.uX d1/\Rel ps M.uZ s1/\w4.ownsRow 0 148 2 l1 d1.length (flat d1)/\w4.ownsRow 0 148 2 l2 s1.length (flat s1) /\
  (∀ j,l1.ownBlock=some j->w.heap.size<=j)/\(∀ j,l2.ownBlock=some j->w.heap.size<=j)
 c0:w4.cell? (Y b 0)=some L.sQ
 c1:w4.cell? (Y b 1)=some L.sI
 n:∀ k,w4.cell? (Y nb k)=(M.cells DL.new)[k]?
 nf:∀ k,w4.frozen? (Y nb k)=false
theorem Jh{b g d s:Nat}{y:List (Nat × Nat)}{D vm:Value}{u:Nat->Value}(h:DRep w b L M)
 (c:M.tL.length<=100000000000)(k:∀ f,f∈M.tL->(M.uV f).bytes.length<=1000000000000)(j:M.uX.length<=100000000000)(C:zX w W g d s M [] [] 0 y D vm u DL.new [] [] []) :
 Calls prog 99 #[L.sQ,E g 0,E d 0] W fun e t =>
  ∃ a n,e=.returned (.slice a M.uX.length n)/\First w t b g d s L M (.slice a M.uX.length n):=by
 refine(Uh h c k C L.sQ M.uX h.uX h.rA j).mono ?_;rintro e t ⟨l,rfl,o⟩;obtain⟨A,G,B,v,J,m,_,r,q,x⟩:=o.ex;obtain⟨a,n,p⟩:=zf q;rw[r.len] at p;subst p;have i:=(h.td.fr m.T.fr id).cell;simp only[DM.cells] at i;exact⟨a,n,rfl,⟨_,_,_,_,_,m,r,q,x⟩,i 0,i 1⟩
theorem Me{x:World}{b i g v:Nat}{u:Value}(h:DRep w b L M)
 (c:M.tL.length<=100000000000)(m:∀ f,f∈M.tL->(M.uV f).bytes.length<=1000000000000)(k:M.uZ.length<=100000000000)(F:First w x b i g v L M u)(f:Fr Nil x W) :
 Calls prog 99 #[L.sI,E i 0,E g 0] W fun e y =>
  ∃ a n,e=.returned (.slice a M.uZ.length n)/\Second w y b i g v L M u (.slice a M.uZ.length n):=by
 obtain⟨T,X,vm,R,Q,C,G,q,p⟩:=F.ex;refine(Uh h c m (C.tW f) L.sI M.uZ h.uZ h.qZ k).mono ?_;rintro e y ⟨l,rfl,o⟩;obtain⟨D,K,J,A,N,d,hs,r,t,B⟩:=o.ex;obtain⟨a,n,s⟩:=zf t;rw[r.len] at s;subst s;have j:=(h.td.fr d.T.fr id).cell;simp only[DM.cells] at j;exact⟨a,n,rfl,⟨_,_,_,_,_,_,d,G.tU hs,r,o.row _ _ _ _ _ (ze q f (fun _ _=>id)) O O,t,p,B⟩,j 0,j 1,d.td.cell,d.td.frozen⟩
theorem Second.oJ{l:World}{b o m a:Nat}{c d:Value}(h:Second w l b o m a L M c d) :
 ∃ g k vm f e i,zX w ((l.setCell (Y a 0) c).setCell (Y a 1) d) o m a M M.uX M.uZ 0 g k vm f {DL.new with sQ:=c,sI:=d} e i []:=by
 obtain⟨g,k,vm,f,e,i,C,u,v,q,r,s,t⟩:=h.ex;refine⟨g,k,vm,f,e,i,C.oJ ?_ ?_ q r u v s t⟩
 .exact Fr.set (S:=fun j=>j=a) (p:=⟨a,1,none⟩) (Fr.set (S:=fun j=>j=a) (p:=⟨a,0,none⟩) (U _ l) (fun _=>rfl) c) (fun _=>rfl) d
 .exact(C.td.set 0 c).set 1 d
structure Change(w W w5:World)(bo bm nb:Nat)(M:DM)(k:Nat)(hk:k<M.tB.length)(L1:DL)(d1 s1:Dir)(c1:List Dir)(l:Value):Prop where
 ex:∃ ps vo vm fV d',zX w w5 bo bm nb M M.uX M.uZ k ps vo vm fV L1 d1 s1 c1/\Rel ps M.tB[k] d'/\w5.ownsRow 0 148 2 l d'.length (flat d')/\(∀ j,l.ownBlock=some j->w.heap.size<=j)
 td:∀ (g:Nat) (c:List Value) (e:TypeId),Blk W g c e->e≠168->e≠146->Blk w5 g c e
theorem Mf{B:World}{b g d y:Nat}{q:DL}{R:List (Nat × Nat)}{vo vm v:Value}{J:Nat->Value}{t A:Dir}{s:List Dir}(h:DRep w b L M)
 (c:M.tL.length<=100000000000)(j:∀ f,f∈M.tL->(M.uV f).bytes.length<=1000000000000)(m:k<M.tB.length)(p:k<L.sK.length)(i:M.tB[k].length<=100000000000)
 (C:zX w B g d y M M.uX M.uZ k R vo vm J q t A s)(Q:L.sK[k]=v)(f:Fr Nil B W) :
 Calls prog 99 #[v,E g 0,E d 0] W fun e D =>
  ∃ a n,e=.returned (.slice a M.tB[k].length n)/\Change w W D g d y M k m q t A s (.slice a M.tB[k].length n):=by
 subst Q;refine(Uh h c j (C.tW f) L.sK[k] M.tB[k] (h.tB k p m) (h.qW _ (CU m)) i).mono ?_;rintro e D ⟨l,rfl,o⟩;obtain⟨T,a0,X,K,d',G,_,r,x,N⟩:=o.ex;obtain⟨a,n,u⟩:=zf x;rw[r.len] at u;subst u;exact⟨a,n,rfl,⟨_,_,_,_,_,G,r,x,N⟩,o.td⟩
theorem Change.row{c b:World}{e d q:Nat}{j:k<M.tB.length}{a:DL}{i r:Dir}{h:List Dir}{v:Value}(X:Change w W c e d q M k j a i r h l)(o:a.qq=v)(f:Fr Nil c b) :
 b.ownsRow 0 145 1 v k a.sK:=by
 subst o;obtain⟨_,_,_,_,_,C,_⟩:=X.ex;exact ze C.ch f (fun _ _=>id)
theorem Change.cell{e:World}{h g c:Nat}{y:k<M.tB.length}{L1:DL}{r:Dir}{v:Value}(X:Change w W e h g c M k y L1 r D o l)(A:L1.qq=v) :
 e.cell? (Y c 2)=some v:=by
 subst A;obtain⟨_,_,_,_,_,C,_⟩:=X.ex;exact C.td.cell 2
theorem Change.lt{g:World}{o h c:Nat}{t:k<M.tB.length}{L1:DL}{r u:Dir}{q:List Dir}(X:Change w W g o h c M k t L1 r u q l):c<g.heap.size:=by
 obtain⟨_,_,_,_,_,C,_⟩:=X.ex;exact C.td.lt
theorem Change.push{q s a:World}{x d g:Nat}{A:k<M.tB.length}{b:DL}{Q s1:Dir}{L:List Dir}{v D:Value}{c:List Value}(X:Change w W q x t d M k A b Q s1 L l)(hv:b.qq=v)(f:Fr Nil q s)
 (m:App s v 145 1 (k+1) (b.sK++[l]) D a)(T:Blk q g c 145)(hg:∀ j,b.qq.ownBlock=some j->j<g) :
 (∃ B J vm y K R s2 N,zX w (a.setCell (Y d 2) D) x t d M M.uX M.uZ (k+1) B J vm y K R s2 N)/\(∀ i,a.cell? (Y d i)=(M.cells b)[i]?)/\(∀ i,a.frozen? (Y d i)=false) /\
   (∀ i,a.cell? (Y g i)=c[i]?):=by
 subst hv;obtain⟨B,J,vm,y,d',C,r,ho,hn⟩:=X.ex;have h:Blk a d (M.cells b) 143:=(C.td.fr f id).fr m.fr (zh (ze C.ch f (fun _ _=>id)) (C.td.fr f id) O);have o:Blk a g c 145:=(T.fr f id).fr m.fr (fun e=>by have:=hg g e;omega);exact⟨⟨_,_,_,_,_,_,_,_,C.push A f m ho r hn⟩,h.cell,h.frozen,o.cell⟩
theorem Mg(w:World)(M:DM) :
 zX w (((w.alloc (.cells (M.cells DL.new).toArray 143)).alloc (.cells #[.slice none 0 0] 168)).alloc (.cells #[.slice none 0 0] 168)).drew (w.heap.size+1) (w.heap.size+1+1) w.heap.size M [] [] 0 [] (.slice none 0 0) (.slice none 0 0) DL.new.fV DL.new [] [] []:=by
 have f:Fr Nil w (((w.alloc (.cells (M.cells DL.new).toArray 143)).alloc (.cells #[.slice none 0 0] 168)).alloc (.cells #[.slice none 0 0] 168)).drew:=ab;have c:(w.alloc (.cells (M.cells DL.new).toArray 143)).heap.size=w.heap.size+1:=bG
 have d:((w.alloc (.cells (M.cells DL.new).toArray 143)).alloc (.cells #[.slice none 0 0] 168)).heap.size=w.heap.size+1+1:=bG
 have a:=((Blk.new (w.alloc (.cells (M.cells DL.new).toArray 143)) [.slice none 0 0] 168).alloc (.cells #[.slice none 0 0] 168)).drew;have b:=(Blk.new ((w.alloc (.cells (M.cells DL.new).toArray 143)).alloc (.cells #[.slice none 0 0] 168)) [.slice none 0 0] 168).drew;have e:=(((Blk.new w (M.cells DL.new) 143).alloc (.cells #[.slice none 0 0] 168)).alloc (.cells #[.slice none 0 0] 168)).drew;rw[c] at a;rw[d] at b;exact zX.start M (Twin.start M a b V V V f _) e (CP _)
set_option maxRecDepth 100000 in
theorem Ji(w:World)(b:Nat)(L:DL)(M:DM)(h:DRep w b L M)(l:M.tL.length<=100000000000)(b0:∀ d,d∈M.uX::M.uZ::M.tB->d.length<=100000000000)(d6:M.tB.length<=1000000000000)
 (J:∀ f,f∈M.tL->(M.uV f).bytes.length<=1000000000000) :
 Calls prog 54 #[E b 0] w (OK w M):=by
 have hc:=h.td.cell;simp only[DM.cells] at hc;obtain⟨ca,cc,a9⟩:=zf h.ch;have d8:=h.td.lt;have d9:∀ (fn:Fn) (first a0:Array Value) (w:World),(Instr.makeFunc fn first a0).run prog w=.ok (.func fn first a0) w:=fun _ _ _ _=>rfl;have c8:¬b=w.heap.size:=V
 have c9:¬w.heap.size=b:=V
 have D:=Mg w M;simp only[DM.cells,DL.new] at D;have T:=Z D;have m:=Z h;have A:=Z a9;have B:=Z b0;clear h a9 b0 D;go_enter func54,ntmps54
 go_wp2
 refine yN 33 bI bI ?_;simp only[AF,yC,yk,Au]
 iterate 33 still_step
 refine vp ?_
 go_wp2
 obtain⟨W2,a7⟩:∃ W2,(((w.alloc (.cells #[.slice none 0 0,.slice none 0 0,.slice none 0 0,I M.room,I M.uS,I M.cut,I M.fail,I M.part,I M.uT,I M.tr,.bool M.tJ] 143)).alloc (.cells #[.slice none 0 0] 168)).alloc (.cells #[.slice none 0 0] 168)).drew=W2:=⟨_,rfl⟩;have p:=T.o;rw[a7] at p |-;have q:=(m.o.td.fr p.T.fr id).cell;simp only[DM.cells] at q;have r:=q 0;have s:=q 1;simp at r s;have X:=Z p;clear p a7 hc T q
 go_region_held3 (fun w'=>w'.cell? (Y b 0)=some L.sQ/\w'.cell? (Y b 1)=some L.sI) (first|go_keep|exact⟨‹_›,‹_›⟩)
  (first
  | (go_at_call 99;refine(Me m.o l J (B.o _ (CT _ (CY ..))) HF.o zd).mono ?_;rintro e w4 ⟨a2,n2,rfl,R⟩;have d3:=R.c0;have d4:=R.c1;have b2:=R.n;have c3:=R.nf;simp only[DM.cells,DL.new] at b2;have HS:=Z R;clear R)
  | (go_at_call 99;refine(Jh m.o l J (B.o _ (CY ..)) (X.o.tW zd)).mono ?_;rintro e w3 ⟨a1,n1,rfl,hF⟩;have d0:=hF.c0;have d2:=hF.c1;have HF:=Z hF;clear hF))
 have hL:=HS.o.oJ;obtain⟨W5,a8⟩:∃ W5,((w4.setCell (Y w.heap.size 0) (.slice a1 M.uX.length n1)).setCell (Y w.heap.size 1) (.slice a2 M.uZ.length n2))=W5:=⟨_,rfl⟩;rw[a8] at hL |-;obtain⟨ps,vo,vm,fV,d1,s1,C⟩:=hL;have a:=(m.o.td.fr C.T.fr id).cell;simp only[DM.cells] at a;have i:=a 2;simp at i;rw[A.o] at i;have b7:=Z C;clear C a a8 HS HF X b2 c3 r s;go_wp2_with fail
 go_loopw [67] (fun c w'=>∃ k:Nat,k<=M.tB.length/\c=I k/\∃ ps vo vm fV L1 d1 s1 c1,zX w w' (w.heap.size+1) (w.heap.size+1+1) w.heap.size M M.uX M.uZ k ps vo vm fV L1 d1 s1 c1) (fun c _=>M.tB.length-(intOf c).toNat)
 case atStart=>exact⟨0,Bg _,rfl,_,_,_,_,_,_,_,_,b7.o⟩
 case round =>
  obtain⟨Q,rfl⟩:∃ x,x=wr:=⟨wr,rfl⟩;obtain⟨k,hk,rfl,ps,vo,vm,fV,L1,d1,s1,c1,C⟩:=hrel;have y:=Z C;clear C i;by_cases N:k<M.tB.length
  .obtain⟨cg,hcg⟩:∃ g,ca=some (Y g 0):=by
    obtain⟨g,c',h',_⟩:=zl m.o.ch V;rw[A.o] at h';simp at h';exact⟨g,h'.1⟩
   subst hcg;have K:k<L.sK.length:=by rw[m.o.qh];exact N
   obtain⟨ea,ec,G⟩:=zf (m.o.tB k K N);have d5:Q.cell? (Y cg k)=some (.slice ea M.tB[k].length ec):=by
    have:=ze m.o.ch y.o.T.fr (fun _ _=>id);rw[A.o] at this;rw[<- G];exact own_cell? this k _ (by simp[K])
   have c2:=B.o M.tB[k] bG;obtain⟨na,nc,b5⟩:=zf y.o.ch;have o:=Z b5;have b9:=Z G;have c0:aa (∀ W',Fr Nil Q W'->W'.cell? (Y w.heap.size 2)=some (.slice na k nc)):=fun W' hf=>by
    have:=(y.o.td.fr hf id).cell 2;simp[DM.cells] at this;rw[o.o] at this;exact this
   clear b5 G;have e0:=y.o.td.lt;have e1:¬Q.heap.size=w.heap.size:=V
   have e2:¬w.heap.size=Q.heap.size:=V
   have HG:aa (∀ j,L1.qq.ownBlock=some j->j<Q.heap.size):=fun j hj=>zF y.o.ch hj;go_wp2_with fail;have b4:=c0.o _ (Fr.alloc (U _ _) (.cells #[.slice ea M.tB[k].length ec] 145));have t:=(Blk.new Q [.slice ea M.tB[k].length ec] 145).cell 0;simp at t
   go_region_law
    (first
    | (refine Zw bH _ _ _ _ bH _ _ bH bH (zq 141 _ 145 1 24 underlying141 Ts O _ _ _ (HX.o.row o.o zd)
        ⟨w5.heap.size,0,none⟩ 1 1 [.slice a5 M.tB[k].length n5] rfl (YQ _ _ _ _ bG) aH ac V) ?_;intro v6 w6 ha;obtain⟨a6,c6,c7⟩:=zf ha.sL;subst c7
       obtain⟨a4,b3,c4,b1⟩:=HX.o.push o.o zd ha b6.o HG.o;have v:=b1 0;simp at v;simp only[DM.cells] at b3;have b8:=Z a4;clear b1 ha a4)
    | (go_simp;go_at_call 99;refine(Mf m.o l J N K c2 y.o b9.o zd).mono ?_;rintro e w5 ⟨a5,n5,rfl,hX⟩
       have a:=hX.td _ _ _ ((Blk.new Q [.slice ea M.tB[k].length ec] 145).fr (S:=Nil) zd id) O O;have a3:=a.cell 0;simp at a3;have c5:=hX.cell o.o;have d7:w.heap.size<w5.heap.size:=hX.lt;have HX:=Z hX;have b6:=Z a;clear hX a))
   all_goals
    (clear b3 c4 v c5 a3 t b4
     go_wp2
     exact⟨⟨k+1,V,by go_num,b8.o⟩,by simp[intOf];omega⟩)
  .have hkn:k=M.tB.length:=V
   subst hkn
   go_wp2
   go_ret;exact y.o.my m.o.le
def VS(a:Nat->FM)(e:Ent):Ent:=(e.1,e.2.1,Xm e.2.2 (a e.2.1).uZ)
def Lay.sj(y:Lay)(z:Dl)(a:Nat->FM):Lay:={F0:=y.pre z.i,G:=((y.G.take z.j).drop z.i).map (VS a),new:=z.new,sH:=z.sH,base:=z.base,i:=0}
theorem WU(a:Nat->FM):∀ (A:List Ent),(∀ e∈A.dropLast,(Xm e.2.2 (a e.2.1).uZ).1=e.2.2.1)->zv (A.map (VS a))<+:zv A
 | [],_=>List.prefix_refl _
 | [e],_=>by
  simp only[zv,Bw,AE,yA,List.flatten_nil,Bz,VS];exact vg _ _
 | e::b::A,h=>by
  have d:=h e (by simp[List.dropLast]);have f:=WU a (b::A) (fun x g=>h x (by rw[List.dropLast_cons_cons];exact CT _ g));have c:zv ((e::b::A).map (VS a))=e.2.2.1++zv ((b::A).map (VS a)):=by
   rw[Bw];show(VS a e).2.2.1++_=_;rw[show(VS a e).2.2.1=e.2.2.1 from d]
   rfl
  rw[c];show _<+:e.2.2.1++zv (b::A);exact(xG _).2 f
theorem Lk.sj(h:Lg M y p t)(C:Int)(o:List Int) :
 ∃ y',Lg (M.sj C o) y' y'.F.length t/\y'.F<+:y.F/\p<=y'.F.length:=by
 have hD:=OA M C;obtain⟨D,a8⟩:∃ D,D=M.rm C:=⟨_,rfl⟩;obtain⟨z,q,a9⟩:=h.re _ hD;have a5:=h.bd.sD _ hD;rw[<- a8] at q a5;obtain⟨_,_,_,_,_,_,hn⟩:=q.sS h.rp;have X:=q.rB;obtain⟨d,u⟩:∃ d,d=zz D o M.uV D.tT.length:=⟨_,rfl⟩;have hf:∀ e∈D,∃ c,d e.2=ZZ (M.uV e.2) c:=fun e f=>by rw[u];exact Jd hn X o M.uV f
 have hM:M.sj C o={M with uX:=D,uZ:=D,tB:=[],uV:=d,tJ:=false,cut:=0,fail:=0}:=by rw[u,a8];rfl
 rw[hM];have b9:∀ g,(d g).bytes.length<=(M.uV g).bytes.length:=fun g=>by rw[u];exact VQ D o M.uV _ g
 obtain⟨A,L⟩:∃ A,A=(y.G.take z.j).drop z.i:=⟨_,rfl⟩;have s:∀ e∈A,e∈y.G:=fun e f=>by rw[L] at f;exact BN (Bx f)
 have a7:A.Sublist y.G:=by rw[L];exact(xO _ _).trans (List.take_sublist _ _)
 have a2:∀ e∈A,Y0 e∈D:=fun e f=>by
  rw[q.rJ.mem_iff];unfold Dl.uX;rw[<- L];simp only[CV,Bb];exact .inl (.inr ⟨e,f,rfl⟩)
 have b4:=q.ij;have hj:=q.j
 -- a segment that is left
 have T:∀ e∈A,(M.uV e.2.1).uZ<=(d e.2.1).uZ/\(d e.2.1).uZ<=(M.uV e.2.1).bytes.length/\(d e.2.1).bytes=(M.uV e.2.1).bytes.take (d e.2.1).uZ/\(d e.2.1).uZ=(d e.2.1).bytes.length:=fun e f=>by
  obtain⟨c,hc⟩:=hf _ (a2 e f);have a4:d e.2.1=ZZ (M.uV e.2.1) c:=hc;have J:=h.le e (s e f);have S:=XM c ((M.uV e.2.1).bytes.length-(M.uV e.2.1).uZ);rw[a4];unfold ZZ;refine⟨by simp only;omega,by simp only;omega,rfl,?_⟩;simp only[CR];omega
 -- a base is left as it is
 have b7:∀ b,z.base=some b->(d b.2.1).bytes=(M.uV b.2.1).bytes/\(d b.2.1).uZ=(d b.2.1).bytes.length:=fun b hb=>by
  obtain⟨c,hc⟩:=hf _ (q.mem hb);have a4:d b.2.1=ZZ (M.uV b.2.1) c:=hc;have hs:=(q.base b hb).uZ;have S:=XM c ((M.uV b.2.1).bytes.length-(M.uV b.2.1).uZ);rw[a4];unfold ZZ;have e:(M.uV b.2.1).uZ+Zz c ((M.uV b.2.1).bytes.length-(M.uV b.2.1).uZ)=(M.uV b.2.1).bytes.length:=V
  simp only[e,Bj];exact⟨trivial,trivial⟩
 have a0:∀ e∈A.dropLast,(Xm e.2.2 (d e.2.1).uZ).1=e.2.2.1:=fun e f=>by
  have b0:=xh _ f;have b8:e∈y.G.dropLast:=by
   obtain⟨n,hn,rfl⟩:=Bt.1 f;rw[xW] at hn;have c7:A.length=z.j-z.i:=by rw[L,Bc,CR];omega
   refine Bt.2 ⟨z.i+n,by rw[xW];omega,?_⟩;rw[xL,xL];simp[L]
  obtain⟨c1,c2,c3,c4⟩:=T e b0;have c8:=h.sM e b8;have b6:=h.bytes e (s e b0);unfold Xm;simp only;rw[RE (by rw[<- b6];omega),Bj]
 have N:(y.sj z d).F<+:y.F:=by
  show y.pre z.i++zv (((y.G.take z.j).drop z.i).map (VS d))<+:y.F;rw[<- L];have J:y.pre z.i++zv A<+:y.F:=by
   have e1:y.pre z.i++zv A=y.pre z.j:=by
    unfold Lay.pre;rw[L,Be,<- ZL]
    congr 2
    conv=>rhs;rw[<- Bo z.i (y.G.take z.j),xS,Ab b4]
   rw[e1];exact YW y z.j
  exact((xG _).2 (WU d A a0)).trans J
 have K:(y.sj z d).G=A.map (VS d):=by show((y.G.take z.j).drop z.i).map _=_;rw[L]
 have b5:left M y z.j<=(y.sj z d).F.length:=by
  have e1:(y.sj z d).F.length=(y.pre z.i).length+(A.map fun e=>(Xm e.2.2 (d e.2.1).uZ).1.length).sum:=by
   show(y.pre z.i++zv (y.sj z d).G).length=_;rw[K,CN,Xz,Al]
   rfl
  rw[e1];have e2:left M y z.j=left M y z.i+(A.map fun e=>cnt e.2.2.1 (M.uV e.2.1).uZ).sum:=by
   unfold left;have:y.G.take z.j=y.G.take z.i++A:=by
    rw[L]
    conv=>lhs;rw[<- Bo z.i (y.G.take z.j),xS,Ab b4]
   rw[this,Bq,yF];omega
  rw[e2];have J:left M y z.i<=(y.pre z.i).length:=by
   unfold left Lay.pre;rw[CN,Xz];have:=Xa ((y.G.take z.i).map fun e=>cnt e.2.2.1 (M.uV e.2.1).uZ) ((y.G.take z.i).map fun e=>e.2.2.1.length) ((y.G.take z.i).length) (fun i X=>by
    have J:i<(y.G.take z.i).length:=by simpa using X
    refine⟨by simpa using J,?_⟩;rw[BB,BB];exact UY _ _)
   rw[Bn (yE (Bm _)),Bn (yE (Bm _))] at this;omega
  have S:=Xa (A.map fun e=>cnt e.2.2.1 (M.uV e.2.1).uZ) (A.map fun e=>(Xm e.2.2 (d e.2.1).uZ).1.length) A.length (fun i X=>by
   have J:i<A.length:=by simpa using X
   refine⟨by simpa using J,?_⟩;rw[BB,BB];obtain⟨c1,_,_,_⟩:=T A[i] (CU _);unfold Xm;simp only;rw[CR,Ab (UY _ _)];exact S3 _ c1)
  rw[Bn (yE (Bm _)),Bn (yE (Bm _))] at S;omega
 have a3:∀ e∈A,(d e.2.1).bytes=ZI (Xm e.2.2 (d e.2.1).uZ):=fun e f=>by
  obtain⟨_,_,c3,_⟩:=T e f;rw[(TF (h.ok _ (s e f)) _).1,<- h.bytes e (s e f)];exact c3
 have l:∀ m∈(y.sj z d).G,∃ e∈A,m=VS d e:=fun m j=>by
  rw[K] at j;obtain⟨e,f,rfl⟩:=Bb.1 j;exact⟨e,f,rfl⟩
 have Q:∀ i,(y.sj z d).pre 0=y.pre z.i/\(i:Nat)=i:=fun i=>⟨by
  show y.pre z.i++zv ((y.sj z d).G.take 0)=_;rw[yC];show y.pre z.i++[]=_;rw[Bz],rfl⟩
 have c5:(y.sj z d).G.length=z.j-z.i:=by rw[K,Bm,L,Bc,CR];omega
 have c0:∀ e∈A,z.new≠some e.2.1:=fun e f c6=>by
  have J:(zg,e.2.1)∈D:=by
   rw[q.rJ.mem_iff];unfold Dl.uX;simp only[CV,Bb,Z1];exact .inr ⟨e.2.1,c6,rfl⟩
  have S:=RF X J (a2 e f) rfl;exact XD false e.1 (AB Prod.fst S).symm
 have a1:Snd {M with uX:=D,uZ:=D,tB:=[],uV:=d,tJ:=false,cut:=0,fail:=0} (y.sj z d) D (y.sj z d).z:=by
  refine⟨?_,Bg _,CP _,q.low,q.qF,fun b hb=>?_,fun hb=>?_,X,q.rA⟩
  .have e1:(y.sj z d).z.uX (y.sj z d).G=z.uX y.G:=by
    unfold Dl.uX;show _++_++(((y.sj z d).G.take (y.sj z d).G.length).drop 0).map Y0++_=_;rw[Bj,Au,K,L,Al]
    rfl
   rw[e1];exact q.rJ
  .have hb':z.base=some b:=hb
   have k:=q.base b hb';obtain⟨b1,b2⟩:=b7 b hb';have c9:=k.lt;refine⟨?_,k.qy,fun e f=>?_,fun m j=>?_,b1.trans k.bytes,b2,fun m j=>?_,fun e=>?_,k.ok,?_,k.rS,?_⟩
   .show 0<(y.sj z d).G.length
    rw[c5];omega
   .have j:e∈(y.sj z d).G.take 0:=f
    rw[yC] at j;cases j
   .have he2:m∈(y.sj z d).G.drop 0:=j
    rw[Au] at he2;obtain⟨e,f,rfl⟩:=l m he2;refine k.hi e ?_;rw[L,vI] at f;exact BN f
   .obtain⟨e,f,rfl⟩:=l m j
    exact k.ny e (s e f)
   .have m:z.new=some b.2.1:=e
    have J:(zg,b.2.1)∈D:=by
     rw[q.rJ.mem_iff];unfold Dl.uX;simp only[CV,Bb,Z1];exact .inr ⟨b.2.1,m,rfl⟩
    have S:=RF X J (q.mem hb') rfl;exact XD true b.1 (AB Prod.fst S).symm
   .show _=((y.sj z d).pre 0).foldl SM.enter SM.nil
    rw[(Q 0).1];exact k.held
   .show _<=((y.sj z d).pre 0).length+40
    rw[(Q 0).1];exact k.len
  .have hb':z.base=none:=hb
   obtain⟨J,S⟩:=q.bare hb';refine⟨rfl,?_⟩;show y.pre z.i=[];rw[J];show y.F0++zv (y.G.take 0)=[];rw[S]
   rfl
 have B:Tf {M with uX:=D,uZ:=D,tB:=[],uV:=d,tJ:=false,cut:=0,fail:=0} (y.sj z d):=fun m j=>by
  obtain⟨e,f,rfl⟩:=l m j;exact(T e f).2.2.2
 have G:∀ e∈(y.sj z d).G,(d e.2.1).bytes=ZI e.2.2:=fun m j=>by
  obtain⟨e,f,rfl⟩:=l m j;exact a3 e f
 have b3:∀ i,(((y.sj z d).F.take i).foldl SM.enter SM.nil).uU.length<=32:=fun i=>by
  obtain⟨r,hr⟩:=N;have:(y.sj z d).F.take i=y.F.take (min i (y.sj z d).F.length):=by
   rw[<- hr,BR (ue _ _),List.take_eq_take_min]
  rw[this];exact h.rS _
 have a6:left {M with uX:=D,uZ:=D,tB:=[],uV:=d,tJ:=false,cut:=0,fail:=0} (y.sj z d) (y.sj z d).G.length=(y.sj z d).F.length:=by
  unfold left Lay.F;rw[CN,Xz,Bj]
  congr 2
  refine yn fun e f=>?_;show cnt e.2.2.1 (d e.2.1).uZ=_;rw[show(d e.2.1).uZ=(d e.2.1).bytes.length from B e f,G e f];exact RE (CP _)
 refine⟨y.sj z d,?_,N,CO a9 b5⟩;exact {
  bd:={
   c0:=h.bd.c0,uS:=h.bd.uS,f0:=h.bd.f0,fr:=h.bd.fr,rc:=h.bd.rc,r0:=h.bd.r0,r1:=h.bd.r1,part:=h.bd.part
   qH:=fun g hg=>CO (b9 g) (h.bd.qH g hg)
   qV:=h.bd.qV,qM:=h.bd.qM
   rA:=q.rA
   rB:=X
   tB:=Bg _
   sD:=fun x hx=>by
    have R:x∈[D]:=hx;rw[CX] at R;subst R;exact a5
   uX:=a5}
  rp:=by
   rw[K,Ao];exact h.rp.sublist a7
  qw:=fun m j=>by
   obtain⟨e,f,rfl⟩:=l m j;exact h.qw e (s e f)
  qL:=by
   rw[K,Al];exact(a7.map fun e=>e.2.1).nodup h.qL
  qD:=fun m j=>by
   obtain⟨e,f,rfl⟩:=l m j;exact h.qD e (s e f)
  rN:=fun m j=>by
   obtain⟨e,f,rfl⟩:=l m j;exact c0 e f
  bytes:=G
  ok:=fun m j=>by
   obtain⟨e,f,rfl⟩:=l m j;exact(TF (h.ok _ (s e f)) _).2
  le:=fun e f=>yE (B e f)
  sM:=fun e f=>B e (xh _ f)
  rS:=b3
  fl:=CO N.length_le h.fl
  ri:=a1
  re:=fun x hx=>by
   have R:x∈[D]:=hx;rw[CX] at R;subst R;exact⟨_,a1,yE a6.symm⟩
  pq:=CY ..
  ru:=fun m j=>by
   obtain⟨e,f,rfl⟩:=l m j;exact⟨D,CY ..,a2 e f⟩}
def JM.on(limit:Nat)(G:List Ent)(ds:Bool):JM :=
 match G.getLast? with
 | .none=>{limit:=limit,tu:=0,name:=ByteArray.empty,size:=0,qk:=false,tQ:=ds}
 | .some e=>{limit:=limit,tu:=e.1,name:=zw zV e.1,size:=(ZI e.2.2).length,qk:=decide (0<e.2.2.2.length),tQ:=ds}
theorem JM.rC(limit:Nat)(G:List Ent)(e:Ent)(ds:Bool):JM.on limit (G++[e]) ds={limit:=limit,tu:=e.1,name:=zw zV e.1,size:=(ZI e.2.2).length,qk:=decide (0<e.2.2.2.length),tQ:=ds}:=by
 unfold JM.on;simp
theorem LR{p:Prop}(h:p:=by
 rcases AC G with rfl|⟨r,s,rfl⟩
 .rfl
 .rw[AD,JM.rC]):p:=h
theorem JM.oK(a:Nat)(G:List Ent)(b:Bool):(JM.on a G b).limit=a:=by
 exact LR
theorem JM.pT(a:Nat)(G:List Ent)(c b:Bool):{JM.on a G c with tQ:=b}=JM.on a G b:=by
 rcases AC G with rfl|⟨r,s,rfl⟩
 .rfl
 .rw[AD,JM.rC,JM.rC]
theorem JM.nt(a:Nat)(G:List Ent)(b:Bool):(JM.on a G b).tQ=b:=by
 exact LR
def Jl(J:JM)(M:DM)(y:Lay):Prop:=J=JM.on J.limit y.G J.tQ/\(J.tQ=true->M.uZ=M.uX/\M.tB=[])
theorem JM.pR{limit:Nat}{ds:Bool}(h:G.Pairwise fun a b=>a.1<b.1):∀ e∈G,e.1<=(JM.on limit G ds).tu:=by
 rcases AC G with rfl|⟨r,s,rfl⟩
 .intro e c;cases c
 .rw[AD] at h |-
  rw[JM.rC,AW] at *;intro e c;rcases CV.1 c with c|c
  .exact xD (h.2.2 e c s bG)
  .rw[CX] at c;subst c;exact CP _
theorem JM.pJ{a:Nat}{b:Bool}{n:Nat}(h:∀ e∈G,e.1<=n):(JM.on a G b).tu<=n:=by
 rcases AC G with rfl|⟨r,s,rfl⟩
 .exact Bg _
 .rw[AD] at h |-
  rw[JM.rC];exact h s bG
theorem Lk.tT(h:Lk M y p t k):(M.uX.map Prod.fst).Nodup:=by
 obtain⟨_,_,_,_,_,_,b⟩:=h.ri.sS h.rp;exact b
theorem Lk.tu(h:Lk M y p t k){e:Ent}(c:y.G=G++[e]):M.uX.sF (zw zV e.1)=some e.2.1:=by
 have hm:Y0 e∈M.uX:=by
  rw[h.ri.rJ.mem_iff];unfold Dl.uX;simp only[CV,Bb];refine .inl (.inr ⟨e,?_,rfl⟩);show e∈(y.G.take y.G.length).drop y.i;rw[Bj,c];have d:y.i<=G.length:=by
   cases hb:y.base with
   | none=>have:=(h.ri.bare hb).1;have a:y.i=0:=this;omega
   | some b =>
    have:=(h.ri.base b hb).lt;have a:y.i<y.G.length:=this;rw[c,CN,CQ] at a;omega
  rw[yr d];simp
 exact Yj h.tT hm
theorem Lk.fresh(h:Lk M y p t k){n:Nat}(o:∀ e∈y.G,e.1<n):M.uX.sF (zw zV n)=none:=by
 refine Qh fun e f x=>?_;have a:e.1∈(y.z.sS y.G).map ZX:=by
  rw[<- Dl.tT,<- (h.ri.rJ.map Prod.fst).mem_iff];exact BW f
 obtain⟨c,j,l⟩:=Bb.1 a;have m:c=some (false,n):=VE (l.trans x);subst m;have d:∀ b,y.base=some b->b.1<n:=fun b r=>by
  have k:=h.ri.base b r;have g:y.i<y.G.length:=k.lt;have s:=k.hi _ (Bt.2 ⟨0,by rw[Bc];show 0<y.G.length-y.i;omega,by rw[Ac];rfl⟩:y.G[y.i]'g∈y.G.drop y.i);have u:=o _ (CU g);omega
 unfold Dl.sS at j;simp only[CV,Bb,Z1] at j;rcases j with((⟨e,f,a⟩|⟨e,f,a⟩)|⟨e,f,a⟩)|⟨e,_,a⟩
 .simp only[BZ,Ak] at a
  obtain⟨l,q,i,m⟩:=h.ri.low e f;have:=d q i;omega
 .simp at a
 .simp only[BZ,Ak] at a
  have:=o e (BN (Bx f));omega
 .cases a
theorem Lk.oV(h:Lk M y p t k)(i:y.new=none):M.uX.sF zg=none:=by
 refine Qh fun e b x=>?_;have a:e.1∈(y.z.sS y.G).map ZX:=by
  rw[<- Dl.tT,<- (h.ri.rJ.map Prod.fst).mem_iff];exact BW b
 obtain⟨c,d,f⟩:=Bb.1 a;have g:c=none:=VE (f.trans x);subst g;unfold Dl.sS at d;simp only[CV,Bb,Z1] at d;rcases d with((⟨e,b,a⟩|⟨e,b,a⟩)|⟨e,b,a⟩)|⟨e,b,a⟩
 .cases a
 .cases a
 .cases a
 .have he':y.new=some e:=b
  rw[i] at he';cases he'
theorem Lk.pw{f:Nat}(h:Lk M y p t k)(a:y.new=some f):M.uX.sF zg=some f/\f∈M.tL:=by
 have hm:(zg,f)∈M.uX:=by
  rw[h.ri.rJ.mem_iff];unfold Dl.uX;simp only[CV,Bb,Z1];exact .inr ⟨f,a,rfl⟩
 exact⟨Yj h.tT hm,h.ri.rA _ hm⟩
theorem Lg.no(h:Lg M y p t)(d:Bool):Lg (M.no d) y p (t+1):=(Lk.no h d).pf O
theorem Lg.qm(h:Lg M y p t)(f:Nat):Lg (M.qm f) y p (t+1):=(Lk.qm h f).pf O
theorem Lg.qu(h:Lg M y p t){q:Nat}(a:q<=left M y y.G.length):Lg M.qu y.rr q (t+1):=(Lk.qu h a).pf O
theorem Lg.ry(h:Lg M y p t)(n:Int):Lg (M.ry n) y p t :=
 Lk.same h ⟨h.bd.c0,h.bd.uS,h.bd.f0,h.bd.fr,h.bd.rc,h.bd.r0,h.bd.r1,h.bd.part,h.bd.qH,h.bd.qV,h.bd.qM,h.bd.rA,h.bd.rB,h.bd.tB,h.bd.sD,h.bd.uX⟩ (CP _) rfl rfl rfl rfl rfl
theorem Lg.sO(h:Lg M y p t)(n a:Int)(b:-9223372036854775808<=a)(c:a<=9223372036854775807):Lg (M.sO n a) y p t :=
 Lk.same h ⟨h.bd.c0,h.bd.uS,h.bd.f0,h.bd.fr,h.bd.rc,h.bd.r0,h.bd.r1,(by
  show 0<=(if a<0 then wrap64 (-(wrap64 (a+1))) else a);split
  .unfold wrap64;omega
  .omega),h.bd.qH,h.bd.qV,h.bd.qM,h.bd.rA,h.bd.rB,h.bd.tB,h.bd.sD,h.bd.uX⟩ (CP _) rfl rfl rfl rfl rfl
structure Pairs(M:DM)(ps:List (Nat × Nat)):Prop where
 n1:(ps.map Prod.fst).Nodup
 n2:(ps.map Prod.snd).Nodup
 old:∀ p∈ps,p.1∈M.tL
 uX:∀ D∈M.uX::M.uZ::M.tB,∀ e∈D,∃ g,(e.2,g)∈ps
theorem Pairs.of(h:Pairs M a)(c:D∈M.uX::M.uZ::M.tB)(d:e∈D):(e.2,second a e.2)∈a:=by
 obtain⟨g,b⟩:=h.uX D c e d;rw[T1 h.n1 b];exact b
theorem Pairs.pF(h:Pairs M a)(b:D∈M.uX::M.uZ::M.tB)(c:e∈D):first a (second a e.2)=e.2:=Ug h.n2 (h.of b c)
theorem Qu(h:Pairs M c)(g:D∈M.uX::M.uZ::M.tB)(l:(D.map (·.2)).Nodup):((Zh c D).map (·.2)).Nodup:=by
 unfold Zh;rw[Al];refine Ao.2 ?_;refine(List.Pairwise.imp_of_mem ?_ (Ao.1 l));intro a b j k d e;have i:second c a.2=second c b.2:=e;exact d (by rw[<- h.pF g j,<- h.pF g k,i])
theorem Bk.sG(h:Bd M t){b:List (Nat × Nat)}(c:Pairs M b):Bd (M.sG b) t where
 c0:=h.c0
 uS:=h.uS
 f0:=h.f0
 fr:=h.fr
 rc:=h.rc
 r0:=h.r0
 r1:=h.r1
 part:=h.part
 qH:=fun g o=>by
  have k:g∈b.map Prod.snd:=o;obtain⟨p,a,rfl⟩:=Bb.1 k;show(M.uV (first b p.2)).bytes.length<=_;rw[Ug c.n2 (f:=p.1) a];exact h.qH _ (c.old p a)
 qV:=c.n2
 qM:=by
  show(b.map Prod.snd).length<=t;have:=S5 (b.map Prod.fst) M.tL c.n1 (fun x i=>by obtain⟨p,a,rfl⟩:=Bb.1 i;exact c.old p a);rw[Bm] at this |-;exact CO this h.qM
 rA:=fun e m=>by
  obtain⟨x,i,rfl⟩:=Bb.1 m;exact Bb.2 ⟨_,c.of (CY ..) i,rfl⟩
 rB:=Qu c (CY ..) h.rB
 tB:=by show(M.tB.map _).length<=_;rw[Bm];exact h.tB
 sD:=fun d l=>by
  have j:d∈(M.uZ::M.tB).map (Zh b):=l;obtain⟨x,i,rfl⟩:=Bb.1 j;unfold Zh;rw[Bm];exact h.sD x i
 uX:=by show(Zh b M.uX).length<=t;unfold Zh;rw[Bm];exact h.uX
def Tg(a:List (Nat × Nat))(b:Nat × Nat × List Fact):Nat × Nat × List Fact:=(b.1,second a b.2.1,b.2.2)
def Pe(a:List (Nat × Nat))(e:Bool × Nat × Nat):Bool × Nat × Nat:=(e.1,e.2.1,second a e.2.2)
def XG(a:List (Nat × Nat))(e:Ent):Ent:=(e.1,second a e.2.1,e.2.2)
def Dl.sG(a:List (Nat × Nat))(z:Dl):Dl:={sH:=z.sH.map (Pe a),base:=z.base.map (Tg a),i:=z.i,j:=z.j,new:=z.new.map (second a)}
def Lay.sG(a:List (Nat × Nat))(y:Lay):Lay:={F0:=y.F0,G:=y.G.map (XG a),new:=y.new.map (second a),sH:=y.sH.map (Pe a),base:=y.base.map (Tg a),i:=y.i}
theorem TH(a:List (Nat × Nat))(G:List Ent):zv (G.map (XG a))=zv G:=by
 unfold zv;rw[Al]
 rfl
theorem Lay.pC(a:List (Nat × Nat))(y:Lay)(i:Nat):(y.sG a).pre i=y.pre i:=by
 show y.F0++zv ((y.G.map (XG a)).take i)=_;rw[<- Aj,TH]
 rfl
theorem Lay.qP(a:List (Nat × Nat))(y:Lay):(y.sG a).F=y.F:=by
 show y.F0++zv (y.G.map (XG a))=_;rw[TH]
 rfl
theorem Lay.oF(a:List (Nat × Nat))(y:Lay)(z:Dl):(z.sG a).uX (y.sG a).G=Zh a (z.uX y.G):=by
 unfold Dl.uX Zh;show(z.sH.map (Pe a)).map Xn++(z.base.map (Tg a)).toList.map YF++(((y.G.map (XG a)).take z.j).drop z.i).map Y0++(z.new.map (second a)).toList.map (fun f=>(zg,f))=_;rw[<- Aj,<- yz];simp only[Bq,Al]
 congr 1
 .congr 1
  congr 1
  cases z.base <;> rfl
 .cases z.new <;> rfl
theorem Lk.ph(h:Lk M y p t k)(c:Pairs M a){e:Ent}(d:e∈y.G):(e.2.1,second a e.2.1)∈a/\first a (second a e.2.1)=e.2.1:=by
 obtain⟨D,b,hm⟩:=h.ru e d;exact⟨c.of (CT _ b) hm,c.pF (CT _ b) hm⟩
theorem Snd.sG(G:Lk M y p t k)(j:Pairs M a)(l:D∈M.uX::M.uZ::M.tB){z:Dl}(h:Snd M y D z):Snd (M.sG a) (y.sG a) (Zh a D) (z.sG a) where
 rJ:=by rw[Lay.oF];exact h.rJ.map _
 ij:=h.ij
 j:=by show z.j<=(y.G.map _).length;rw[Bm];exact h.j
 low:=fun e c=>by
  obtain⟨o,L,rfl⟩:=Bb.1 c;obtain⟨u,b,d,K⟩:=h.low o L;exact⟨u,Tg a b,by show z.base.map _=_;rw[d];rfl,K⟩
 qF:=by
  show((z.sH.map (Pe a)).map (·.2.1)).Nodup;rw[Al];exact h.qF
 base:=fun J A=>by
  have i:z.base.map (Tg a)=some J:=A;obtain⟨b,d,rfl⟩:=wR.1 i;have q:=h.base b d;have C:(M.sG a).uV (second a b.2.1)=M.uV b.2.1:=by
   show M.uV (first a (second a b.2.1))=_;rw[show first a (second a b.2.1)=b.2.1 from j.pF l (h.mem d)]
  refine⟨q.lt,q.qy,fun e c=>?_,fun e c=>?_,by show((M.sG a).uV (second a b.2.1)).bytes=_;rw[C];exact q.bytes,by show((M.sG a).uV (second a b.2.1)).uZ=((M.sG a).uV (second a b.2.1)).bytes.length;rw[C];exact q.uZ,fun e c r=>?_,fun r=>?_,q.ok,by rw[Lay.pC];exact q.held,q.rS,by rw[Lay.pC];exact q.len⟩
  .have he':e∈(y.G.map (XG a)).take z.i:=c
   rw[<- Aj] at he';obtain⟨x,g,rfl⟩:=Bb.1 he';exact q.lo x g
  .have he':e∈(y.G.map (XG a)).drop z.i:=c
   rw[<- yz] at he';obtain⟨x,g,rfl⟩:=Bb.1 he';exact q.hi x g
  .obtain⟨x,g,rfl⟩:=Bb.1 c
   have s:second a x.2.1=second a b.2.1:=r;refine q.ny x g ?_;rw[<- (G.ph j g).2,s];exact j.pF l (h.mem d)
  .have s:y.new.map (second a)=some (second a b.2.1):=r
   obtain⟨f,m,B⟩:=wR.1 s;have hm:(zg,f)∈M.uX:=by
    rw[G.ri.rJ.mem_iff];unfold Dl.uX;simp only[CV,Bb,Z1];exact .inr ⟨f,m,rfl⟩
   refine q.new ?_;rw[m]
   congr 1
   have u:first a (second a f)=f:=j.pF (e:=(zg,f)) (CY ..) hm
   rw[<- u,B];exact j.pF l (h.mem d)
 bare:=fun d=>by
  have i:z.base.map (Tg a)=none:=d;exact h.bare (Option.map_eq_none_iff.1 i)
 rB:=Qu j l h.rB
 rA:=fun e c=>by
  obtain⟨x,g,rfl⟩:=Bb.1 c;exact Bb.2 ⟨_,j.of l g,rfl⟩
theorem Lk.sG(h:Lg M y p t)(q:Pairs M c):Lg (M.sG c) (y.sG c) p t:=by
 have m:∀ e∈y.G,(M.sG c).uV (second c e.2.1)=M.uV e.2.1:=fun e g=>by
  show M.uV (first c (second c e.2.1))=_;rw[(h.ph q g).2]
 have hm:∀ o∈(y.sG c).G,∃ e∈y.G,o=XG c e:=fun o d=>by
  obtain⟨e,g,rfl⟩:=Bb.1 d;exact⟨e,g,rfl⟩
 have hz:(y.sG c).z=y.z.sG c:=by
  unfold Lay.z Dl.sG Lay.sG;simp
 have s:∀ j,left (M.sG c) (y.sG c) j=left M y j:=fun j=>by
  unfold left;show y.F0.length+(((y.G.map (XG c)).take j).map _).sum=_;rw[<- Aj,Al]
  congr 2
  refine yn fun e g=>?_;show cnt e.2.2.1 ((M.sG c).uV (second c e.2.1)).uZ=_;rw[m e (BN g)]
 exact {
  bd:=Bk.sG h.bd q
  rp:=by
   show(y.G.map (XG c)).Pairwise _;rw[Ao];exact h.rp
  qw:=fun o d=>by obtain⟨e,g,rfl⟩:=hm o d;exact h.qw e g
  qL:=by
   show((y.G.map (XG c)).map (·.2.1)).Nodup;rw[Al,Af,Ao];have:=h.qL;rw[Af,Ao] at this;refine List.Pairwise.imp_of_mem ?_ this;intro a b ha J X e;have N:second c a.2.1=second c b.2.1:=e;exact X (by rw[<- (h.ph q ha).2,<- (h.ph q J).2,N])
  qD:=fun o d=>by
   obtain⟨e,g,rfl⟩:=hm o d;exact Bb.2 ⟨_,(h.ph q g).1,rfl⟩
  rN:=fun o d N=>by
   obtain⟨e,g,rfl⟩:=hm o d;have e3:y.new.map (second c)=some (second c e.2.1):=N;obtain⟨f,r,S⟩:=wR.1 e3;have T:(zg,f)∈M.uX:=by
    exact LP
   refine h.rN e g ?_;rw[r]
   congr 1
   have B:first c (second c f)=f:=q.pF (e:=(zg,f)) (CY ..) T
   rw[<- B,S];exact(h.ph q g).2
  bytes:=fun o d=>by
   obtain⟨e,g,rfl⟩:=hm o d;show((M.sG c).uV (second c e.2.1)).bytes=_;rw[m e g];exact h.bytes e g
  ok:=fun o d=>by obtain⟨e,g,rfl⟩:=hm o d;exact h.ok e g
  le:=fun o d=>by
   obtain⟨e,g,rfl⟩:=hm o d;show((M.sG c).uV (second c e.2.1)).uZ<=((M.sG c).uV (second c e.2.1)).bytes.length;rw[m e g];exact h.le e g
  sM:=fun o d=>by
   have C:o∈(y.G.map (XG c)).dropLast:=d;rw[<- List.map_dropLast] at C;obtain⟨e,g,rfl⟩:=Bb.1 C;show((M.sG c).uV (second c e.2.1)).uZ=((M.sG c).uV (second c e.2.1)).bytes.length;rw[m e (xh _ g)];exact h.sM e g
  rS:=by rw[Lay.qP];exact h.rS
  fl:=by rw[Lay.qP];exact h.fl
  ri:=by rw[hz];exact h.ri.sG h q (CY ..)
  re:=fun D Q=>by
   have R:D∈(M.uZ::M.tB).map (Zh c):=Q;obtain⟨x,hx,rfl⟩:=Bb.1 R;obtain⟨z,hz,hq⟩:=h.re x hx;exact⟨z.sG c,hz.sG h q (CT _ hx),by rw[s];exact hq⟩
  pq:=by
   show Zh c M.uX∈(M.uZ::M.tB).map (Zh c);exact BW h.pq
  ru:=fun o d=>by
   obtain⟨e,g,rfl⟩:=hm o d;obtain⟨D,Q,h3⟩:=h.ru e g;refine⟨Zh c D,?_,BW (f:=fun e:ByteArray × Nat=>(e.1,second c e.2)) h3⟩;show Zh c D∈(M.uZ::M.tB).map (Zh c);exact BW Q}
structure Mgx(M:DM)(y:Lay)(g:MgM)(i f:Nat):Prop where
 new:y.new=some f
 lt:i<y.G.length
 yi:y.i<=i
 old:∀ b,y.base=some b->b.1<g.number
 qy:1<=g.number
 lo:∀ e∈y.G.take i,e.1<g.number
 hi:∀ e∈y.G.drop i,g.number<e.1
 bytes:(M.uV f).bytes=zK g.done
 ok:∀ x∈g.done++g.left,Yb x/\(zj x).size<=2000
 held:(g.done++g.left).foldl SM.enter SM.nil=(y.pre i).foldl SM.enter SM.nil
 rS:∀ k,(((g.done++g.left).take k).foldl SM.enter SM.nil).uU.length<=32
 len:(g.done++g.left).length<=(y.pre i).length+40
def Mo(M:DM)(y:Lay):Option MgM->Prop
 | none=>y.new=none
 | some g=>∃ i f,Mgx M y g i f/\g.uS<=g.done.length+1
theorem Mgx.up{k:DM}{j:Lay}{g:MgM}{i f:Nat}(h:Mgx M y g i f)(b:Ext y j)(m:∀ f,y.new=some f->(k.uV f).bytes=(M.uV f).bytes):Mgx k j g i f:=by
 have o:=b.len;have c:=h.lt;refine⟨b.new.trans h.new,Bv h.lt o,by rw[b.i];exact h.yi,by rw[b.base];exact h.old,h.qy,fun e d=>?_,fun e d=>?_,(m f h.new).trans h.bytes,h.ok,by rw[b.pre c];exact h.held,h.rS,by rw[b.pre c];exact h.len⟩
 .obtain⟨a,ha,e1,_⟩:=UZ b (xD c) d
  rw[<- e1];exact h.lo a ha
 .obtain⟨n,hn,rfl⟩:=Bt.1 d
  rw[Bc] at hn;rw[Ac];by_cases l:i+n<y.G.length
  .have:=b.key.getElem (i:=i+n) (by simpa using l)
   simp only[BB,Ak] at this;rw[<- this.1];exact h.hi _ (Bt.2 ⟨n,by rw[Bc];omega,by rw[Ac]⟩)
  .have h3:=h.hi y.G[i] (Bt.2 ⟨0,by rw[Bc];omega,by rw[Ac];rfl⟩)
   have p:=b.pZ y.G[i] (CU _) j.G[i+n] (Bt.2 ⟨i+n-y.G.length,by rw[Bc];omega,by rw[Ac];congr 1;omega⟩);omega
theorem Mo.up{M b:DM}{y d:Lay}{a:Option MgM}(h:Mo M y a)(c:Ext y d)(e:∀ f,y.new=some f->(b.uV f).bytes=(M.uV f).bytes):Mo b d a:=by
 cases a with
 | none=>exact c.new.trans h
 | some g=>obtain⟨i,f,h,j⟩:=h;exact⟨i,f,h.up c e,j⟩
theorem Mo.rr{M d:DM}{y:Lay}{c:Option MgM}(h:Mo M y c)(j:∀ f,y.new=some f->(d.uV f).bytes=(M.uV f).bytes):Mo d y.rr c:=by
 cases c with
 | none=>exact h
 | some g =>
  obtain⟨i,f,h,k⟩:=h;have m:=h.yi;have l:=h.lt;have a:y.rr.pre (i-y.i)=y.pre i:=by rw[Lay.qU,show y.i+(i-y.i)=i from V]
  refine⟨i-y.i,f,⟨h.new,?_,Bg _,h.old,h.qy,fun e b=>?_,fun e b=>?_,(j f h.new).trans h.bytes,h.ok,by rw[a];exact h.held,h.rS,by rw[a];exact h.len⟩,k⟩
  .show i-y.i<(y.G.drop y.i).length
   rw[Bc];omega
  .have he':e∈(y.G.drop y.i).take (i-y.i):=b
   rw[<- vI] at he';exact h.lo e (Bx he')
  .have he':e∈(y.G.drop y.i).drop (i-y.i):=b
   rw[List.drop_drop,show y.i+(i-y.i)=i from V] at he';exact h.hi e he'
theorem Lk.dlt(h:Lk M y p t k):y.i<y.G.length\/y.i=0/\y.base=none:=by
 cases hb:y.base with
 | none=>exact .inr ⟨(h.ri.bare hb).1,rfl⟩
 | some b=>exact .inl (h.ri.base b hb).lt
theorem Lk.pO(h:Lk M y p t k)(a:Nat)(b:Bool):JM.on a y.rr.G b=JM.on a y.G b:=by
 have e:y.rr.G.getLast?=y.G.getLast?:=by
  show(y.G.drop y.i).getLast?=_;rcases h.dlt with c|⟨c,_⟩
  .rw[List.getLast?_drop,CW V]
  .rw[c,Au]
 unfold JM.on;rw[e]
structure Alike(M M':DM):Prop where
 uX:M'.uX=M.uX
 tL:M'.tL=M.tL
 room:M'.room=M.room
 part:M'.part=M.part
 sW:M'.sW=M.sW
theorem DI(M:DM)(f:Nat):(M.qm f).sW=M.sW:=by
 unfold DM.sW;simp only[YA]
 rfl
theorem Wj(h:Lg M y p t)(j:J=JM.on J.limit y.G J.tQ)(o:t<=1000000) :
 ∃ e a,J.tA M=(e,a)/\Lg a y p (t+1)/\Ans M a e/\Alike M a/\e≠some 10/\a.uZ=M.uZ/\a.tB=M.tB/\(∀ g,(a.uV g).bytes=(M.uV g).bytes)/\(e=none->Tf a y):=by
 unfold JM.tA;rcases AC y.G with b|⟨q,s,b⟩
 .have:J.tu=0:=by rw[j,b];rfl
  rw[Bl this];exact⟨none,M,rfl,h.tU (yc _),Ans.refl M,⟨rfl,rfl,rfl,rfl,rfl⟩,ag,rfl,rfl,fun _=>rfl,fun _ e i=>by
   rw[b] at i;cases i⟩
 .rw[AD] at b
  have m:=h.tu b;have f:=j;rw[b,JM.rC] at f;have k:J.tu≠0:=by
   have:=(h.qw s (by rw[b];simp)).1;rw[f];simp only;omega
  have l:J.name=zw zV s.1:=by rw[f]
  rw[CW k,l];rcases Oq h.bd o O m with⟨e,c⟩|⟨d,e,c⟩
  .rw[e]
   exact⟨none,M.qm s.2.1,rfl,h.qm s.2.1,Ans.ok c rfl rfl rfl,⟨rfl,rfl,rfl,rfl,DI M s.2.1⟩,ag,rfl,rfl,YA M s.2.1,fun _=>Lk.oL h b⟩
  .rw[e]
   exact⟨some 9,M.no d,rfl,Lg.no h d,Ans.no c rfl rfl,⟨rfl,rfl,rfl,rfl,rfl⟩,ag,rfl,rfl,fun _=>rfl,fun e=>by cases e⟩
theorem Ui(h:Bk M t k){f:Nat}(g:f∉M.tL)(a:ByteArray)(r:Int)(d:Bool):(M.rL a f r d).sW=M.sW:=by
 have c:∀ e∈M.uX,e.2≠f:=fun e b x=>g (x▸h.rA e b);show((M.uX++[(a,f)]).map fun e=>(if e.2=f then(⟨[],0⟩:FM) else M.uV e.2).bytes.length).sum=_;rw[Bq,yF];simp only[Bw,AE,yf,uN,Ad,BU,AM];unfold DM.sW;refine AB List.sum (yn fun e b=>?_);rw[CW (c e b)]
theorem RH(h:Lg M y p t)(L:Jl J M y)(ht:t+2<=1000000)(n f:Nat)(hn:J.tu<n)(X:n<=2*(t+2))(T:f∉M.tL) :
 ∃ e o j B,J.begin M n f=(e,o,j)/\Lg j B p (t+2)/\B.F=y.F/\Ext y B/\(∀ g,y.new=some g->(j.uV g).bytes=(M.uV g).bytes)/\Ans M j e/\j.room=M.room/\j.part=M.part/\(∀ g∈j.tL,g=f\/g∈M.tL)/\j.sW=M.sW/\e≠some 10/\(e≠none->o=J) /\
  (e=none->Jl o j B/\o.limit=J.limit/\B.G=y.G++[(n,f,([],[]))]/\o.tQ=false):=by
 obtain⟨Q,k,hs,a,C,c,K,a0,R,m,D⟩:=Wj h L.1 V;have b:∀ e∈y.G,e.1<n:=fun e S=>by
  have:=JM.pR (limit:=J.limit) (ds:=J.tQ) h.rp e S;rw[<- L.1] at this;omega
 unfold JM.begin;rw[hs];cases Q with
 | some x=>exact⟨some x,J,k,y,rfl,a.tU V,rfl,Ext.refl y,fun g _=>m g,C,c.room,c.part,fun g a=>.inr (c.tL▸a),c.sW,K,fun _=>rfl,fun e=>by cases e⟩
 | none =>
  have l:=D rfl;have i:f∉k.tL:=by rw[c.tL];exact T
  have A:y.new≠some f:=fun e=>i ((a.pw e).2);simp only;have v:∀ g,g∈f::k.tL->g=f\/g∈M.tL:=fun g a=>by
   rw[BC,c.tL] at a;exact a
  have u:∀ r d,∀ g,y.new=some g->((k.rL (zw zV n) f r d).uV g).bytes=(M.uV g).bytes:=fun r d g G=>by
   rw[Y1 k _ f r d (fun e=>i (e▸(a.pw G).2))];exact m g
  have N:=Ext.add y n f b;rcases SR a.bd V O (FT _) (a.fresh b) f with⟨q,s⟩|⟨d,q,s⟩|⟨q,s⟩
  .rw[q]
   simp only[Ad];refine⟨none,_,_,_,rfl,Lk.rL a l n f i V b V A k.uT k.tJ V V,Lay.pY y n f,N,u _ _,C.trans (Ans.ok s rfl rfl rfl),c.room,c.part,fun g a=>v g a,(Ui a.bd i _ _ _).trans c.sW,ag,(fun h=>absurd rfl h),fun _=>⟨⟨?_,fun e=>by cases e⟩,rfl,rfl,rfl⟩⟩;show _=JM.on J.limit (y.G++[(n,f,([],[]))]) false;simp only[JM.rC,ZI,zK];simp
  .rw[q]
   simp only[show ¬(9:Int)=0 from O,Aa];exact⟨_,_,_,y,rfl,(Lg.no a d).tU V,rfl,Ext.refl y,fun g _=>m g,C.trans (Ans.no s rfl rfl),c.room,c.part,fun g a=>.inr (c.tL▸a),c.sW,ag,fun _=>rfl,fun e=>by cases e⟩
  .rw[q]
   simp only[show ¬(9:Int)=0 from O,Aa];exact⟨_,_,_,_,rfl,Lk.rL a l n f i V b V A (k.uT+1) true V V,Lay.pY y n f,N,u _ _,C.trans (Ans.no s rfl rfl),c.room,c.part,fun g a=>v g a,(Ui a.bd i _ _ _).trans c.sW,ag,fun _=>rfl,fun e=>by cases e⟩
theorem Lk.pQ(h:Lk M y p t k)(b:J=JM.on J.limit y.G J.tQ):J.tu<=2*t:=by
 rw[b];exact JM.pJ fun e a=>(h.qw e a).2
theorem SV(h:Lg M y p t)(q:Jl J M y)(ht:t+2<=1000000)(n f:Nat)(T:f∉M.tL) :
 ∃ e d a c,J.tS M n f=(e,d,a)/\Lg a c p (t+2)/\c.F=y.F/\Ext y c/\(∀ g,y.new=some g->(a.uV g).bytes=(M.uV g).bytes)/\Ans M a e/\a.room=M.room/\a.part=M.part/\(∀ g∈a.tL,g=f\/g∈M.tL)/\a.sW=M.sW/\e≠some 10/\(e≠none->d=J) /\
  (e=none->Jl d a c/\d.limit=J.limit/\∃ G m k v,c.G=G++[(m,k,(v,[]))]):=by
 unfold JM.tS;cases hb:J.om n with
 | true =>
  simp only[Ad];refine⟨none,J,M,y,rfl,h.tU V,rfl,Ext.refl y,fun _ _=>rfl,Ans.refl M,rfl,rfl,fun g X=>.inr X,rfl,ag,fun _=>rfl,fun _=>⟨q,rfl,?_⟩⟩;unfold JM.om at hb;simp only[Ar,Bi,vK] at hb;obtain⟨o,i,_⟩:=hb;have l:=q.1;rcases AC y.G with j|⟨r,s,j⟩
  .rw[l,j] at o;exact absurd rfl o
  .rw[AD] at j
   rw[l,j,JM.rC] at i;simp only[BP,Nat.not_lt,Nat.le_zero_eq] at i;obtain⟨m,k,v,tl⟩:=s;obtain rfl:tl=[]:=BH i;exact⟨r,m,k,v,j⟩
 | false =>
  simp only[Av,Aa];have C:=h.pQ q.1;obtain⟨e,d,a,c,o,i,D,K,L,N,Q,R,S,x,A,B,b⟩:=RH h q ht (J.tu+1) f (Nat.lt_succ_self _) V T;rw[o];exact⟨e,d,a,c,rfl,i,D,K,L,N,Q,R,S,x,A,B,fun u=>⟨(b u).1,(b u).2.1,y.G,_,f,[],(b u).2.2.1⟩⟩
theorem Gw{p:Prop}(h:p:=by
 rcases c with⟨rfl,_,rfl,rfl,rfl,d2⟩|⟨rfl,⟨rfl,rfl,d3⟩|⟨rfl,rfl,rfl,_⟩⟩
 .exact Ans.ok d2 rfl rfl rfl
 .exact Ans.no d3 rfl rfl
 .exact⟨.inr ⟨rfl,.inr ⟨rfl,rfl,rfl⟩⟩,rfl,rfl,Int.le_of_lt (Int.lt_succ _),(fun e=>by cases e),(fun e=>by cases e)⟩):p:=h
theorem Gx{p:Prop}(h:p:=by
 rcases c with⟨_,_,a,b,_⟩|⟨a,⟨_,b,_⟩|⟨_,b,_⟩⟩ <;> subst a b <;> refine⟨V,V,V,V⟩):p:=h
theorem LT{p:Prop}(h:p:=by
 rcases c with⟨_,a,_⟩|⟨_,⟨a,_⟩|⟨a,_⟩⟩
 .exact a
 .rw[a] at e0;cases e0
 .rw[a] at e0;cases e0):p:=h
theorem E3(h:Lg M y p t)(hj:Jl J M y)(ht:t+3<=1000000)(x:Fact)(hx:Yb x)(d9:(zj x).size<=2000)(b6:((y.F++[x]).foldl SM.enter SM.nil).uU.length<=32)(f:Nat)(hf:f∉M.tL) :
 ∃ wh e J' o y',J.append M (zj x) f=(wh,e,J',o)/\Lg o y' p (t+3)/\y'.F=y.F++(if wh=true then [x] else [])/\(∀ mg,Mo M y mg->Mo o y' mg)/\Ans M o e/\o.room=M.room/\o.part=M.part/\(∀ g∈o.tL,g=f\/g∈M.tL)/\o.sW<=M.sW+(zj x).size/\(e=some 10->M.room<M.sW+(zj x).size) /\
  (e=none->wh=true/\Jl J' o y'/\J'.limit=J.limit/\M.uS<o.uS):=by
 obtain⟨e1,J1,s,T,e,hg,a7,c1,c0,ha,b0,a9,a8,e2,d1,_,c7⟩:=SV h hj V (zj x).size f hf;unfold JM.append;rw[e];cases e1 with
 | some n=>exact⟨false,some n,J1,s,T,rfl,hg.tU V,by simp[a7],fun mg hm=>hm.up c1 c0,ha,b0,a9,a8,V,fun e=>absurd e d1,fun e=>by cases e⟩
 | none =>
  obtain⟨hL,b8,G,m,g,C,hG⟩:=c7 rfl;simp only;have b9:=hg.tu hG;have a1:=hL.1;rw[hG,JM.rC] at a1;have K:J1.name=zw zV m:=by rw[a1]
  have L:J1.size=(zK C).length:=by rw[a1];simp[ZI]
  have a4:J1.qk=false:=by rw[a1];simp
  have a2:J1.tu=m:=by rw[a1]
  have b1:s.uX.sF J1.name=some g:=by rw[K];exact b9
  have X:(zj x).data.toList.length=(zj x).size:=by rw[yh];rfl
  have a0:(s.uV g).bytes=zK C:=by
   have:=hg.bytes (m,g,(C,[])) (by rw[hG];simp)
   simpa [ZI] using this
  have c6:T.new≠some g:=hg.rN (m,g,(C,[])) (by rw[hG];simp);obtain⟨B,k,r,u,A,ea,hk,c⟩:=Lx hg.bd V O b1 (zj x);have Q:J1.nK (s.put g ((zj x).data.toList.take k) r u A) (J1.size+(zj x).size)=decide (k=(zj x).size):=by
   unfold JM.nK DM.size;rw[show(s.put g ((zj x).data.toList.take k) r u A).uX=s.uX from rfl,b1];simp only[YS,Ad,a0,CN,CR,X];rw[L,show((0:Int)==0)=true from rfl,vW,Ab hk];by_cases e:k=(zj x).size
   .rw[yZ e,beq_iff_eq];omega
   .rw[yd e,Ay];omega
  have b7:=(hg.ok (m,g,(C,[])) (by rw[hG];simp)).1;have hF:∀ s':Seg,({T with G:=G++[(m,g,s')]}:Lay).F=T.F0++zv G++s'.1:=fun s'=>by
   show T.F0++zv (G++[(m,g,s')])=_;rw[ZL,Ue,Be]
  have b5:T.F0++zv G++C=y.F:=by
   rw[<- a7];show _=T.F0++zv T.G;rw[hG,ZL,Ue,Be]
  have b2:((zj x).data.toList.take k).length<=2000:=by rw[CR];omega
  have d:s.uT<=r/\r<=s.uT+1/\s.tr<=u/\u-s.tr<=r-s.uT:=by
   exact Gx
  have R:(s.put g ((zj x).data.toList.take k) r u A).sW<=M.sW+(zj x).size:=by
   have h1:=Ds hg.bd g ((zj x).data.toList.take k) r u A;rw[CR] at h1;omega
  have l:Ans M (s.put g ((zj x).data.toList.take k) r u A) (zT B):=by
   refine ha.trans ?_;exact Gw
  have D:B=10->M.room<M.sW+(zj x).size:=fun a5=>by
   rcases c with⟨a,_⟩|⟨_,⟨a,_⟩|⟨_,_,_,_,c9⟩⟩
   .rw[a] at a5;cases a5
   .rw[a] at a5;cases a5
   .omega
  have c2:B=0->k=(zj x).size:=fun e0=>by
   exact LT
  have b4:∀ s':Seg,∀ mg,Mo M y mg->Mo (s.put g ((zj x).data.toList.take k) r u A) {T with G:=G++[(m,g,s')]} mg:=fun s' mg hm=>by
   refine(hm.up c1 c0).up (Ext.tu hG rfl) (fun f' c5=>?_);rw[XN s g _ r u A (fun e=>c6 (e▸c5))]
  unfold JM.rM;rw[ea];simp only;by_cases q:k=(zj x).size
  .have a3:V4 (C++[x],[]):=⟨fun y hy=>by
    rcases CV.1 hy with hy|hy
    .exact b7 y hy
    .rw[CX] at hy;subst hy;exact hx,TX⟩
   have v:({T with G:=G++[(m,g,(C++[x],[]))]}:Lay).F=y.F++[x]:=by
    rw[hF,<- b5];simp only[Be]
   have a6:Lg (s.put g ((zj x).data.toList.take k) r u A) {T with G:=G++[(m,g,(C++[x],[]))]} p (t+3):=Lk.put hg hG rfl _ b2 r u A d.1 d.2.1 d.2.2.1 d.2.2.2 (by
    rw[a0,q,<- X,Bj];simp only[ZI,Bz,VP]) a3 (fun n=>LH C [x] n) (fun i=>by
     rw[v];by_cases hi:i<=y.F.length
     .rw[BR hi];exact h.rS i
     .rw[Bn ar];exact b6) (by rw[v,a7];simp)
   have c3:Jl {J1 with size:=J1.size+(zj x).size} (s.put g ((zj x).data.toList.take k) r u A) {T with G:=G++[(m,g,(C++[x],[]))]}:=by
    refine⟨?_,fun c4=>hL.2 c4⟩;show _=JM.on _ (G++[(m,g,(C++[x],[]))]) _;rw[JM.rC];obtain⟨jl,e3,jn,js,jt,jd⟩:=J1;simp only at K L a4 a2 |-;subst K L a4 a2;simp[ZI,VP,X]
   rw[yZ q] at Q;by_cases h0:B=0
   .rw[Bl h0]
    rw[h0] at l;exact⟨true,none,_,_,_,rfl,a6,by rw[Bl rfl];exact v,b4 _,l,b0,a9,a8,R,ag,fun _=>⟨rfl,c3,b8,Int.lt_add_one_of_le ha.2.le⟩⟩
   .rw[CW h0,Bl Q]
    have b3:zT B=some B:=by unfold zT;rw[CW h0]
    rw[b3] at l;exact⟨true,some B,_,_,_,rfl,a6,by rw[Bl rfl];exact v,b4 _,l,b0,a9,a8,R,fun e=>D (BA e),fun e=>by cases e⟩
  .have h0:¬B=0:=fun h0=>q (c2 h0)
   rw[yd q] at Q;have b3:zT B=some B:=by unfold zT;rw[CW h0]
   rw[b3] at l;have a3:V4 (C,(zj x).data.toList.take k):=⟨b7,zx x,by rw[WZ];exact vg _ _,fun e=>by
    have:=AB List.length e;rw[CR,<- WZ,X] at this;omega,hx.2⟩
   have v:({T with G:=G++[(m,g,(C,(zj x).data.toList.take k))]}:Lay).F=y.F:=by
    rw[hF,<- b5]
   have a6:Lg (s.put g ((zj x).data.toList.take k) r u A) {T with G:=G++[(m,g,(C,(zj x).data.toList.take k))]} p (t+3):=Lk.put hg hG rfl _ b2 r u A d.1 d.2.1 d.2.2.1 d.2.2.2 (by
    rw[a0];rfl) a3 (fun n=>CP _) (by rw[v];exact h.rS) (by rw[v,a7];omega)
   rw[CW h0,CW (by rw[Q];decide)];exact⟨false,some B,_,_,_,rfl,a6,by simp[v],b4 _,l,b0,a9,a8,R,fun e=>D (BA e),fun e=>by cases e⟩
theorem Gy(h:Lg M y p t)(m:Jl J M y)(ht:t+2<=1000000) :
 ∃ e L j G,J.sJ M=(e,L,j)/\Lg j G p (t+2)/\G.F=y.F/\(∀ o,Mo M y o->Mo j G o)/\Ans M j e/\Alike M j/\e≠some 10/\L.limit=J.limit/\(e=none->Jl L j G/\Lg j G y.F.length (t+2)):=by
 obtain⟨e1,q,hs,i,K,c,B,C,u,f,T⟩:=Wj h m.1 V;unfold JM.sJ;rw[hs];cases e1 with
 | some x =>
  rw[CW (by rintro⟨a,_⟩;cases a)];exact⟨some x,J,q,y,rfl,i.tU V,rfl,fun o hm=>hm.up (Ext.refl y) (fun g _=>f g),K,c,B,rfl,fun e=>by cases e⟩
 | none =>
  have v:=T rfl;have b:left q y y.G.length=y.F.length:=by rw[v.left i,DD]
  by_cases R:J.tu≠0/\J.tQ=false
  .rw[Bl ⟨rfl,R⟩]
   unfold JM.sw;rcases TD i.bd V O with⟨N,k⟩|⟨d,N,k⟩
   .simp only[N]
    refine⟨none,_,q.qu,y.rr,rfl,Lg.qu i i.sD,Lay.px y,fun o hm=>hm.rr (fun g _=>f g),K.trans (Ans.ok k rfl rfl rfl),⟨c.uX,c.tL,c.room,c.part,c.sW⟩,ag,rfl,fun _=>⟨⟨?_,fun _=>⟨rfl,rfl⟩⟩,Lg.qu i (yE b.symm)⟩⟩;have X:=m.1;show({J with tQ:=_}:JM)=JM.on J.limit y.rr.G _;rw[h.pO,<- JM.pT J.limit y.G J.tQ,<- X]
   .simp only[N]
    exact⟨some 9,_,q.no d,y,rfl,Lg.no i d,rfl,fun o hm=>hm.up (Ext.refl y) (fun g _=>f g),K.trans (Ans.no k rfl rfl),⟨c.uX,c.tL,c.room,c.part,c.sW⟩,ag,rfl,fun e=>by cases e⟩
  .rw[CW (fun x=>R x.2)]
   refine⟨none,J,q,y,rfl,i.tU V,rfl,fun o hm=>hm.up (Ext.refl y) (fun g _=>f g),K,c,B,rfl,fun _=>⟨⟨m.1,fun S=>by rw[C,u,c.uX];exact m.2 S⟩,?_⟩⟩;have l:=i.tU (show t+1<=t+2 from V);refine {l with re:=fun D Q=>?_};by_cases hl:J.tu=0
   .have hnil:y.G=[]:=by
     rcases AC y.G with r|⟨pr,s,r⟩
     .exact r
     .rw[AD] at r
      have A:=m.1;rw[r,JM.rC] at A;have:=(h.qw s (by rw[r];simp)).1;rw[A] at hl;simp only at hl;omega
    obtain⟨z,hz,_⟩:=l.re D Q;refine⟨z,hz,?_⟩;rw[<- b,hnil];exact T0 (Bg _)
   .have hds:J.tQ=true:=by
     cases S:J.tQ with
     | true=>rfl
     | false=>exact absurd ⟨hl,S⟩ R
    obtain⟨h1,h2⟩:=m.2 hds;rw[C,u,h1,h2,CX] at Q;subst Q;rw[<- c.uX];exact⟨_,l.ri,yE b.symm⟩
end Go.Proofs.YtkhnggkkiefcdaaGreatDoor
