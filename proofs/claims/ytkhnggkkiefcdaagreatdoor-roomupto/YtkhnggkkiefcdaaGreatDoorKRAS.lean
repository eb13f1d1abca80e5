/- larder: joined texts -/
import Derived.Test.YtkhnggkkiefcdaaGreatDoorKRAQ
import Derived.Test.YtkhnggkkiefcdaaGreatDoorKRAR
import Derived.StillTailTactics
namespace Go.Proofs.YtkhnggkkiefcdaaGreatDoor
open Go.RowKit
set_option maxRecDepth 100000
set_option maxHeartbeats 8000000
theorem U0{c w:World}{b i g s:Nat}{m L:DL}{M:DM}{D S:Dir}{k:Nat}{a:List (Nat × Nat)}{x u:Value}{q:Nat->Value}{p t:Dir}{o:List Dir}(h:DRep c b m M)
 (r:M.ids.length<=100000000000)(j:∀ f,f∈M.ids->(M.file f).bytes.length<=1000000000000)(C:zS c w i g s M D S k a x u q L p t o)
 (v:Value)(d:Dir)(A:c.ownsRow 0 148 2 v d.length (flat d))(E:∀ e,e∈d->e.2∈M.ids)(B:d.length<=100000000000) :
 Calls Tryz.prog 99 #[v,.pointer (some ⟨i,0,none⟩),.pointer (some ⟨g,0,none⟩)] w fun e y =>
  ∃ l,e=.returned l/\Mv c w y i g s M D S k a L p t o d l:=by
 have I:a.length<=M.ids.length:=by
  have:=TH (a.map Prod.fst) M.ids C.T.n1 C.T.ids;rw[Gv] at this;exact this
 refine(OP c w b i g m M a x u q h C.T v d A E (by omega) j).mono ?_;rintro e y ⟨l,rfl,G⟩;exact⟨l,rfl,C.other G⟩
structure First(w w3:World)(b bo bm nb:Nat)(L:DL)(M:DM)(l1:Value):Prop where
 ex:∃ ps vo vm fV d1,zS w w3 bo bm nb M [] [] 0 ps vo vm fV DL.new [] [] []/\Rel ps M.dir d1/\w3.ownsRow 0 148 2 l1 d1.length (flat d1)/\(∀ j,l1.ownBlock=some j->w.heap.size<=j)
 c0:w3.cell? ⟨b,0,none⟩=some L.yd
 c1:w3.cell? ⟨b,1,none⟩=some L.AQ
structure Second(w w4:World)(b bo bm nb:Nat)(L:DL)(M:DM)(l1 l2:Value):Prop where
 ex:∃ ps vo vm fV d1 s1,zS w w4 bo bm nb M [] [] 0 ps vo vm fV DL.new [] [] []/\Rel ps M.dir d1/\Rel ps M.safe s1/\w4.ownsRow 0 148 2 l1 d1.length (flat d1)/\w4.ownsRow 0 148 2 l2 s1.length (flat s1) /\
  (∀ j,l1.ownBlock=some j->w.heap.size<=j)/\(∀ j,l2.ownBlock=some j->w.heap.size<=j)
 c0:w4.cell? ⟨b,0,none⟩=some L.yd
 c1:w4.cell? ⟨b,1,none⟩=some L.AQ
 n:∀ k,w4.cell? ⟨nb,k,none⟩=(M.cells DL.new)[k]?
 nf:∀ k,w4.frozen? ⟨nb,k,none⟩=false
theorem Lr{w W:World}{b g d s:Nat}{L:DL}{M:DM}{y:List (Nat × Nat)}{E B:Value}{u:Nat->Value}(h:DRep w b L M)
 (c:M.ids.length<=100000000000)(k:∀ f,f∈M.ids->(M.file f).bytes.length<=1000000000000)(j:M.dir.length<=100000000000)(C:zS w W g d s M [] [] 0 y E B u DL.new [] [] []) :
 Calls Tryz.prog 99 #[L.yd,.pointer (some ⟨g,0,none⟩),.pointer (some ⟨d,0,none⟩)] W fun e t =>
  ∃ a n,e=.returned (.slice a M.dir.length n)/\First w t b g d s L M (.slice a M.dir.length n):=by
 refine(U0 h c k C L.yd M.dir h.dir h.yt j).mono ?_;rintro e t ⟨l,rfl,o⟩;obtain⟨A,G,D,v,I,m,_,r,q,x⟩:=o.ex;obtain⟨a,n,p⟩:=zg q;rw[r.len] at p;subst p;have i:=(h.Ay.fr m.T.fr id).cell;simp only[DM.cells] at i;exact⟨a,n,rfl,⟨_,_,_,_,_,m,r,q,x⟩,i 0,i 1⟩
theorem OQ{w x W:World}{b i g v:Nat}{L:DL}{M:DM}{u:Value}(h:DRep w b L M)
 (c:M.ids.length<=100000000000)(m:∀ f,f∈M.ids->(M.file f).bytes.length<=1000000000000)(k:M.safe.length<=100000000000)(F:First w x b i g v L M u)(f:Fr Nil x W) :
 Calls Tryz.prog 99 #[L.AQ,.pointer (some ⟨i,0,none⟩),.pointer (some ⟨g,0,none⟩)] W fun e y =>
  ∃ a n,e=.returned (.slice a M.safe.length n)/\Second w y b i g v L M u (.slice a M.safe.length n):=by
 obtain⟨Q,T,R,O,N,C,G,q,p⟩:=F.ex;refine(U0 h c m (C.yb f) L.AQ M.safe h.safe h.xi k).mono ?_;rintro e y ⟨l,rfl,o⟩;obtain⟨E,J,I,A,K,d,D,r,t,B⟩:=o.ex;obtain⟨a,n,s⟩:=zg t;rw[r.len] at s;subst s;have j:=(h.Ay.fr d.T.fr id).cell;simp only[DM.cells] at j;exact⟨a,n,rfl,⟨_,_,_,_,_,_,d,G.more D,r,o.row _ _ _ _ _ (ze q f (fun _ _=>id)) (by decide) (by decide),t,p,B⟩,j 0,j 1,d.Ay.cell,d.Ay.frozen⟩
theorem Second.lists{w m:World}{b q o a:Nat}{L:DL}{M:DM}{c d:Value}(h:Second w m b q o a L M c d) :
 ∃ g l k f e i,zS w ((m.setCell ⟨a,0,none⟩ c).setCell ⟨a,1,none⟩ d) q o a M M.dir M.safe 0 g l k f {DL.new with yd:=c,AQ:=d} e i []:=by
 obtain⟨g,l,k,f,e,i,C,v,x,r,s,t,u⟩:=h.ex;refine⟨g,l,k,f,e,i,C.lists ?_ ?_ r s v x t u⟩
 .exact Fr.set (S:=fun j=>j=a) (p:=⟨a,1,none⟩) (Fr.set (S:=fun j=>j=a) (p:=⟨a,0,none⟩) (U _ m) (fun _=>rfl) c) (fun _=>rfl) d
 .exact(C.Ay.set 0 c).set 1 d
structure Change(w W w5:World)(bo bm nb:Nat)(M:DM)(k:Nat)(hk:k<M.AA.length)(L1:DL)(d1 s1:Dir)(c1:List Dir)(l:Value):Prop where
 ex:∃ ps vo vm fV d',zS w w5 bo bm nb M M.dir M.safe k ps vo vm fV L1 d1 s1 c1/\Rel ps M.AA[k] d'/\w5.ownsRow 0 148 2 l d'.length (flat d')/\(∀ j,l.ownBlock=some j->w.heap.size<=j)
 Ay:∀ (g:Nat) (c:List Value) (e:TypeId),Blk W g c e->e≠168->e≠146->Blk w5 g c e
theorem OR{w B W:World}{b g d y:Nat}{L q:DL}{M:DM}{k:Nat}{N:List (Nat × Nat)}{T Q v:Value}{G:Nat->Value}{t A:Dir}{s:List Dir}(h:DRep w b L M)
 (c:M.ids.length<=100000000000)(j:∀ f,f∈M.ids->(M.file f).bytes.length<=1000000000000)(m:k<M.AA.length)(p:k<L.AZ.length)(i:M.AA[k].length<=100000000000)
 (C:zS w B g d y M M.dir M.safe k N T Q G q t A s)(K:L.AZ[k]=v)(f:Fr Nil B W) :
 Calls Tryz.prog 99 #[v,.pointer (some ⟨g,0,none⟩),.pointer (some ⟨d,0,none⟩)] W fun e D =>
  ∃ a n,e=.returned (.slice a M.AA[k].length n)/\Change w W D g d y M k m q t A s (.slice a M.AA[k].length n):=by
 subst K;refine(U0 h c j (C.yb f) L.AZ[k] M.AA[k] (h.AA k p m) (h.xj _ (Gj m)) i).mono ?_;rintro e D ⟨l,rfl,o⟩;obtain⟨O,V,R,I,X,E,_,r,x,J⟩:=o.ex;obtain⟨a,n,u⟩:=zg x;rw[r.len] at u;subst u;exact⟨a,n,rfl,⟨_,_,_,_,_,E,r,x,J⟩,o.Ay⟩
theorem Change.row{w W c b:World}{e d q:Nat}{M:DM}{k:Nat}{j:k<M.AA.length}{a:DL}{i r:Dir}{h:List Dir}{l v:Value}(X:Change w W c e d q M k j a i r h l)(o:a.yL=v)(f:Fr Nil c b) :
 b.ownsRow 0 145 1 v k a.AZ:=by
 subst o;obtain⟨_,_,_,_,_,C,_⟩:=X.ex;exact ze C.ch f (fun _ _=>id)
theorem Change.cell{w W e:World}{o g c:Nat}{M:DM}{k:Nat}{y:k<M.AA.length}{a:DL}{r B:Dir}{q:List Dir}{l v:Value}(X:Change w W e o g c M k y a r B q l)(A:a.yL=v) :
 e.cell? ⟨c,2,none⟩=some v:=by
 subst A;obtain⟨_,_,_,_,_,C,_⟩:=X.ex;exact C.Ay.cell 2
theorem Change.lt{w W c:World}{q o a:Nat}{M:DM}{k:Nat}{u:k<M.AA.length}{h:DL}{t y:Dir}{r:List Dir}{l:Value}(X:Change w W c q o a M k u h t y r l):a<c.heap.size:=by
 obtain⟨_,_,_,_,_,C,_⟩:=X.ex;exact C.Ay.lt
theorem Change.push{w W q s a:World}{x t d g:Nat}{M:DM}{k:Nat}{A:k<M.AA.length}{b:DL}{N s1:Dir}{K:List Dir}{l v D:Value}{c:List Value}(X:Change w W q x t d M k A b N s1 K l)(Y:b.yL=v)(f:Fr Nil q s)
 (m:App s v 145 1 (k+1) (b.AZ++[l]) D a)(Q:Blk q g c 145)(R:∀ j,b.yL.ownBlock=some j->j<g) :
 (∃ B I E y J O s2 L,zS w (a.setCell ⟨d,2,none⟩ D) x t d M M.dir M.safe (k+1) B I E y J O s2 L)/\(∀ i,a.cell? ⟨d,i,none⟩=(M.cells b)[i]?)/\(∀ i,a.frozen? ⟨d,i,none⟩=false) /\
   (∀ i,a.cell? ⟨g,i,none⟩=c[i]?):=by
 subst Y;obtain⟨B,I,E,y,d',C,r,V,T⟩:=X.ex;have h:Blk a d (M.cells b) 143:=(C.Ay.fr f id).fr m.fr (zi (ze C.ch f (fun _ _=>id)) (C.Ay.fr f id) (by decide));have o:Blk a g c 145:=(Q.fr f id).fr m.fr (fun e=>by have:=R g e;omega);exact⟨⟨_,_,_,_,_,_,_,_,C.push A f m V r T⟩,h.cell,h.frozen,o.cell⟩
theorem OS(w:World)(M:DM) :
 zS w (((w.alloc (.cells (M.cells DL.new).toArray 143)).alloc (.cells #[.slice none 0 0] 168)).alloc (.cells #[.slice none 0 0] 168)).drew (w.heap.size+1) (w.heap.size+1+1) w.heap.size M [] [] 0 [] (.slice none 0 0) (.slice none 0 0) DL.new.fV DL.new [] [] []:=by
 have f:Fr Nil w (((w.alloc (.cells (M.cells DL.new).toArray 143)).alloc (.cells #[.slice none 0 0] 168)).alloc (.cells #[.slice none 0 0] 168)).drew:=(by repeat' first|exact U _ _|(with_reducible assumption)|refine Fr.drewN ?_ _|refine Fr.drew ?_|refine Fr.alloc ?_ _|refine Fr.set ?_ ?_ _|(intro _;rfl));have c:(w.alloc (.cells (M.cells DL.new).toArray 143)).heap.size=w.heap.size+1:=by simp
 have d:((w.alloc (.cells (M.cells DL.new).toArray 143)).alloc (.cells #[.slice none 0 0] 168)).heap.size=w.heap.size+1+1:=by simp
 have a:=((Blk.new (w.alloc (.cells (M.cells DL.new).toArray 143)) [.slice none 0 0] 168).alloc (.cells #[.slice none 0 0] 168)).drew;have b:=(Blk.new ((w.alloc (.cells (M.cells DL.new).toArray 143)).alloc (.cells #[.slice none 0 0] 168)) [.slice none 0 0] 168).drew;have e:=(((Blk.new w (M.cells DL.new) 143).alloc (.cells #[.slice none 0 0] 168)).alloc (.cells #[.slice none 0 0] 168)).drew;rw[c] at a;rw[d] at b;exact zS.start M (Twin.start M a b (by omega) (by omega) (by omega) f _) e (Gb _)
set_option maxRecDepth 100000 in
theorem Ls(w:World)(b:Nat)(L:DL)(M:DM)(h:DRep w b L M)(l:M.ids.length<=100000000000)(a3:∀ d,d∈M.dir::M.safe::M.AA->d.length<=100000000000)(d0:M.AA.length<=1000000000000)
 (G:∀ f,f∈M.ids->(M.file f).bytes.length<=1000000000000) :
 Calls Tryz.prog 54 #[.pointer (some ⟨b,0,none⟩)] w (PS w M):=by
 have hc:=h.Ay.cell;simp only[DM.cells] at hc;obtain⟨ca,cc,a0⟩:=zg h.ch;have d3:=h.Ay.lt;have d4:∀ (fn:Fn) (first R:Array Value) (w:World),(Instr.makeFunc fn first R).run Tryz.prog w=.ok (.func fn first R) w:=fun _ _ _ _=>rfl;have c2:¬b=w.heap.size:=by omega
 have c3:¬w.heap.size=b:=by omega
 have D:=OS w M;simp only[DM.cells,DL.new] at D;have O:=Z D;have m:=Z h;have A:=Z a0;have B:=Z a3;clear h a0 a3 D;go_enter Tryz.func54,Tryz.ntmps54
 go_wp2
 refine FT 33 (by kernel_rfl) (by kernel_rfl) ?_;simp only[Fg,FK,FR,FJ]
 iterate 33 still_step
 refine Dg ?_
 go_wp2
 obtain⟨W2,X⟩:∃ W2,(((w.alloc (.cells #[.slice none 0 0,.slice none 0 0,.slice none 0 0,.int .i64 M.room,.int .i64 M.calls,.int .i64 M.cut,.int .i64 M.fail,.int .i64 M.part,.int .i64 M.refused,.int .i64 M.AD,.bool M.dead] 143)).alloc (.cells #[.slice none 0 0] 168)).alloc (.cells #[.slice none 0 0] 168)).drew=W2:=⟨_,rfl⟩;have p:=O.out;rw[X] at p |-;have q:=(m.out.Ay.fr p.T.fr id).cell;simp only[DM.cells] at q;have r:=q 0;have s:=q 1;simp at r s;have Q:=Z p;clear p X hc O q
 go_region_held3 (fun w'=>w'.cell? ⟨b,0,none⟩=some L.yd/\w'.cell? ⟨b,1,none⟩=some L.AQ) (first|go_keep|exact⟨‹_›,‹_›⟩)
  (first
  | (go_at_call 99;refine(OQ m.out l G (B.out _ (Ge _ (Gh ..))) HF.out zd).mono ?_;rintro e w4 ⟨a2,n2,rfl,N⟩;have c7:=N.c0;have c8:=N.c1;have a7:=N.n;have b7:=N.nf;simp only[DM.cells,DL.new] at a7;have HS:=Z N;clear N)
  | (go_at_call 99;refine(Lr m.out l G (B.out _ (Gh ..)) (Q.out.yb zd)).mono ?_;rintro e w3 ⟨a1,n1,rfl,hF⟩;have c4:=hF.c0;have c5:=hF.c1;have HF:=Z hF;clear hF))
 have hL:=HS.out.lists;obtain⟨W5,Y⟩:∃ W5,((w4.setCell ⟨w.heap.size,0,none⟩ (.slice a1 M.dir.length n1)).setCell ⟨w.heap.size,1,none⟩ (.slice a2 M.safe.length n2))=W5:=⟨_,rfl⟩;rw[Y] at hL |-;obtain⟨ps,vo,vm,fV,d1,s1,C⟩:=hL;have a:=(m.out.Ay.fr C.T.fr id).cell;simp only[DM.cells] at a;have i:=a 2;simp at i;rw[A.out] at i;have b2:=Z C;clear C a Y HS HF Q a7 b7 r s;go_wp2_with fail
 go_loopw [67] (fun c w'=>∃ k:Nat,k<=M.AA.length/\c=.int .i64 k/\∃ ps vo vm fV L1 d1 s1 c1,zS w w' (w.heap.size+1) (w.heap.size+1+1) w.heap.size M M.dir M.safe k ps vo vm fV L1 d1 s1 c1) (fun c _=>M.AA.length-(intOf c).toNat)
 case atStart=>exact⟨0,Gz _,rfl,_,_,_,_,_,_,_,_,b2.out⟩
 case round =>
  obtain⟨K,rfl⟩:∃ x,x=wr:=⟨wr,rfl⟩;obtain⟨k,hk,rfl,ps,vo,vm,fV,L1,d1,s1,c1,C⟩:=hrel;have y:=Z C;clear C i;by_cases J:k<M.AA.length
  .obtain⟨cg,hcg⟩:∃ g,ca=some ⟨g,0,none⟩:=by
    obtain⟨g,c',h',_⟩:=zy m.out.ch (by omega);rw[A.out] at h';simp at h';exact⟨g,h'.1⟩
   subst hcg;have I:k<L.AZ.length:=by rw[m.out.yI];exact J
   obtain⟨ea,ec,E⟩:=zg (m.out.AA k I J);have c9:K.cell? ⟨cg,k,none⟩=some (.slice ea M.AA[k].length ec):=by
    have:=ze m.out.ch y.out.T.fr (fun _ _=>id);rw[A.out] at this;rw[<- E];exact own_cell? this k _ (by simp[I])
   have b6:=B.out M.AA[k] (by simp);obtain⟨na,nc,b0⟩:=zg y.out.ch;have o:=Z b0;have b4:=Z E;have b5:Hid (∀ W',Fr Nil K W'->W'.cell? ⟨w.heap.size,2,none⟩=some (.slice na k nc)):=fun W' hf=>by
    have:=(y.out.Ay.fr hf id).cell 2;simp[DM.cells] at this;rw[o.out] at this;exact this
   clear b0 E;have d5:=y.out.Ay.lt;have d6:¬K.heap.size=w.heap.size:=by omega
   have d7:¬w.heap.size=K.heap.size:=by omega
   have HG:Hid (∀ j,L1.yL.ownBlock=some j->j<K.heap.size):=fun j hj=>Zq y.out.ch hj;go_wp2_with fail;have a9:=b5.out _ (Fr.alloc (U _ _) (.cells #[.slice ea M.AA[k].length ec] 145));have t:=(Blk.new K [.slice ea M.AA[k].length ec] 145).cell 0;simp at t
   go_region_law
    (first
    | (refine ZW (by rfl) _ _ _ _ (by rfl) _ _ (by rfl) (by rfl) (zw 141 _ 145 1 24 Tryz.underlying141 Tc (by decide) _ _ _ (HX.out.row o.out zd)
        ⟨w5.heap.size,0,none⟩ 1 1 [.slice a5 M.AA[k].length n5] rfl (Yw _ _ _ _ (by simp)) (by intro u hu;simp at hu;subst hu;rfl) (by unfold maxLen;omega) (by omega)) ?_;intro v6 w6 ha;obtain⟨a6,c6,c0⟩:=zg ha.own;subst c0
       obtain⟨V,a8,b8,a4⟩:=HX.out.push o.out zd ha b1.out HG.out;have v:=a4 0;simp at v;simp only[DM.cells] at a8;have b3:=Z V;clear a4 ha V)
    | (go_simp;go_at_call 99;refine(OR m.out l G J I b6 y.out b4.out zd).mono ?_;rintro e w5 ⟨a5,n5,rfl,hX⟩
       have a:=hX.Ay _ _ _ ((Blk.new K [.slice ea M.AA[k].length ec] 145).fr (S:=Nil) zd id) (by decide) (by decide);have T:=a.cell 0;simp at T;have b9:=hX.cell o.out;have d2:w.heap.size<w5.heap.size:=hX.lt;have HX:=Z hX;have b1:=Z a;clear hX a))
   all_goals
    (clear a8 b8 v b9 T t a9
     go_wp2
     exact⟨⟨k+1,by omega,by go_num,b3.out⟩,by simp[intOf];omega⟩)
  .have hkn:k=M.AA.length:=by omega
   subst hkn
   go_wp2
   go_ret;exact y.out.said m.out.le
def Vu(file:Nat->FM)(e:Ent):Ent:=(e.1,e.2.1,X1 e.2.2 (file e.2.1).safe)
def Lay.AM(y:Lay)(z:Dl)(file:Nat->FM):Lay:={F0:=y.pre z.i,G:=((y.G.take z.j).drop z.i).map (Vu file),new:=z.new,AU:=z.AU,base:=z.base,i:=0}
theorem Wy(file:Nat->FM):∀ (A:List Ent),(∀ e∈A.dropLast,(X1 e.2.2 (file e.2.1).safe).1=e.2.2.1)->zv (A.map (Vu file))<+:zv A
 | [],_=>List.prefix_refl _
 | [e],_=>by
  simp only[zv,Gw,Fz,Ei,List.flatten_nil,GI,Vu];exact CI _ _
 | e::a::A,h=>by
  have c:=h e (by simp[List.dropLast]);have d:=Wy file (a::A) (fun x f=>h x (by rw[List.dropLast_cons_cons];exact Ge _ f));have b:zv ((e::a::A).map (Vu file))=e.2.2.1++zv ((a::A).map (Vu file)):=by
   rw[Gw];show(Vu file e).2.2.1++_=_;rw[show(Vu file e).2.2.1=e.2.2.1 from c]
   rfl
  rw[b];show _<+:e.2.2.1++zv (a::A);exact(DE _).2 d
theorem Lk.AM{M:DM}{y:Lay}{p t:Nat}(h:Lg M y p t)(C:Int)(o:List Int) :
 ∃ y',Lg (M.AM C o) y' y'.F.length t/\y'.F<+:y.F/\p<=y'.F.length:=by
 have hD:=PJ M C;obtain⟨D,a4⟩:∃ D,D=M.yq C:=⟨_,rfl⟩;obtain⟨z,q,a5⟩:=h.yl _ hD;have a1:=h.bd.yk _ hD;rw[<- a4] at q a1;obtain⟨_,_,_,_,_,_,hn⟩:=q.yg h.ym;have R:=q.once;obtain⟨file,u⟩:∃ file,file=zm D o M.file D.names.length:=⟨_,rfl⟩;have hf:∀ e∈D,∃ c,file e.2=ZS (M.file e.2) c:=fun e d=>by rw[u];exact Ln hn R o M.file d
 have hM:M.AM C o={M with dir:=D,safe:=D,AA:=[],file:=file,dead:=false,cut:=0,fail:=0}:=by rw[u,a4];rfl
 rw[hM];have b5:∀ g,(file g).bytes.length<=(M.file g).bytes.length:=fun g=>by rw[u];exact Vr D o M.file _ g
 obtain⟨A,J⟩:∃ A,A=(y.G.take z.j).drop z.i:=⟨_,rfl⟩;have s:∀ e∈A,e∈y.G:=fun e d=>by rw[J] at d;exact GN (GB d)
 have a3:A.Sublist y.G:=by rw[J];exact(DN _ _).trans (List.take_sublist _ _)
 have X:∀ e∈A,ZT e∈D:=fun e d=>by
  rw[q.perm.mem_iff];unfold Dl.dir;rw[<- J];simp only[Gf,Gm];exact .inl (.inr ⟨e,d,rfl⟩)
 have a8:=q.ij;have hj:=q.j
 -- a segment that is left
 have Q:∀ e∈A,(M.file e.2.1).safe<=(file e.2.1).safe/\(file e.2.1).safe<=(M.file e.2.1).bytes.length/\(file e.2.1).bytes=(M.file e.2.1).bytes.take (file e.2.1).safe/\(file e.2.1).safe=(file e.2.1).bytes.length:=fun e d=>by
  obtain⟨c,hc⟩:=hf _ (X e d);have a0:file e.2.1=ZS (M.file e.2.1) c:=hc;have G:=h.le e (s e d);have O:=YH c ((M.file e.2.1).bytes.length-(M.file e.2.1).safe);rw[a0];unfold ZS;refine⟨by simp only;omega,by simp only;omega,rfl,?_⟩;simp only[Gd];omega
 -- a base is left as it is
 have b3:∀ b,z.base=some b->(file b.2.1).bytes=(M.file b.2.1).bytes/\(file b.2.1).safe=(file b.2.1).bytes.length:=fun b hb=>by
  obtain⟨c,hc⟩:=hf _ (q.mem hb);have a0:file b.2.1=ZS (M.file b.2.1) c:=hc;have hs:=(q.base b hb).safe;have O:=YH c ((M.file b.2.1).bytes.length-(M.file b.2.1).safe);rw[a0];unfold ZS;have e:(M.file b.2.1).safe+Z2 c ((M.file b.2.1).bytes.length-(M.file b.2.1).safe)=(M.file b.2.1).bytes.length:=by omega
  simp only[e,Gt];exact⟨trivial,trivial⟩
 have T:∀ e∈A.dropLast,(X1 e.2.2 (file e.2.1).safe).1=e.2.2.1:=fun e d=>by
  have a6:=Di _ d;have b4:e∈y.G.dropLast:=by
   obtain⟨n,hn,rfl⟩:=GE.1 d;rw[DT] at hn;have b9:A.length=z.j-z.i:=by rw[J,Gk,Gd];omega
   refine GE.2 ⟨z.i+n,by rw[DT];omega,?_⟩;rw[DG,DG];simp[J]
  obtain⟨c1,c2,c3,c4⟩:=Q e a6;have c0:=h.full e b4;have b0:=h.bytes e (s e a6);unfold X1;simp only;rw[Rc (by rw[<- b0];omega),Gt]
 have K:(y.AM z file).F<+:y.F:=by
  show y.pre z.i++zv (((y.G.take z.j).drop z.i).map (Vu file))<+:y.F;rw[<- J];have G:y.pre z.i++zv A<+:y.F:=by
   have e1:y.pre z.i++zv A=y.pre z.j:=by
    unfold Lay.pre;rw[J,Gp,<- Zf]
    congr 2
    conv=>rhs;rw[<- Gu z.i (y.G.take z.j),EF,Fi a8]
   rw[e1];exact YI y z.j
  exact((DE _).2 (Wy file A T)).trans G
 have I:(y.AM z file).G=A.map (Vu file):=by show((y.G.take z.j).drop z.i).map _=_;rw[J]
 have a9:left M y z.j<=(y.AM z file).F.length:=by
  have e1:(y.AM z file).F.length=(y.pre z.i).length+(A.map fun e=>(X1 e.2.2 (file e.2.1).safe).1.length).sum:=by
   show(y.pre z.i++zv (y.AM z file).G).length=_;rw[I,Ga,Xf,Fv]
   rfl
  rw[e1];have e2:left M y z.j=left M y z.i+(A.map fun e=>cnt e.2.2.1 (M.file e.2.1).safe).sum:=by
   unfold left;have:y.G.take z.j=y.G.take z.i++A:=by
    rw[J]
    conv=>lhs;rw[<- Gu z.i (y.G.take z.j),EF,Fi a8]
   rw[this,Gy,Eb];omega
  rw[e2];have G:left M y z.i<=(y.pre z.i).length:=by
   unfold left Lay.pre;rw[Ga,Xf];have:=YM ((y.G.take z.i).map fun e=>cnt e.2.2.1 (M.file e.2.1).safe) ((y.G.take z.i).map fun e=>e.2.2.1.length) ((y.G.take z.i).length) (fun i R=>by
    have G:i<(y.G.take z.i).length:=by simpa using R
    refine⟨by simpa using G,?_⟩;rw[GJ,GJ];exact UL _ _)
   rw[Gx (Ex (Gv _)),Gx (Ex (Gv _))] at this;omega
  have O:=YM (A.map fun e=>cnt e.2.2.1 (M.file e.2.1).safe) (A.map fun e=>(X1 e.2.2 (file e.2.1).safe).1.length) A.length (fun i R=>by
   have G:i<A.length:=by simpa using R
   refine⟨by simpa using G,?_⟩;rw[GJ,GJ];obtain⟨c1,_,_,_⟩:=Q A[i] (Gj _);unfold X1;simp only;rw[Gd,Fi (UL _ _)];exact TF _ c1)
  rw[Gx (Ex (Gv _)),Gx (Ex (Gv _))] at O;omega
 have Y:∀ e∈A,(file e.2.1).bytes=Zp (X1 e.2.2 (file e.2.1).safe):=fun e d=>by
  obtain⟨_,_,c3,_⟩:=Q e d;rw[(Tl (h.ok _ (s e d)) _).1,<- h.bytes e (s e d)];exact c3
 have j:∀ l∈(y.AM z file).G,∃ e∈A,l=Vu file e:=fun l f=>by
  rw[I] at f;obtain⟨e,d,rfl⟩:=Gm.1 f;exact⟨e,d,rfl⟩
 have L:∀ i,(y.AM z file).pre 0=y.pre z.i/\(i:Nat)=i:=fun i=>⟨by
  show y.pre z.i++zv ((y.AM z file).G.take 0)=_;rw[FK];show y.pre z.i++[]=_;rw[GI],rfl⟩
 have b7:(y.AM z file).G.length=z.j-z.i:=by rw[I,Gv,J,Gk,Gd];omega
 have b6:∀ e∈A,z.new≠some e.2.1:=fun e d b8=>by
  have G:(zf,e.2.1)∈D:=by
   rw[q.perm.mem_iff];unfold Dl.dir;simp only[Gf,Gm,zQ];exact .inr ⟨e.2.1,b8,rfl⟩
  have O:=Rd R G (X e d) rfl;exact Xj false e.1 (FW Prod.fst O).symm
 have V:Snd {M with dir:=D,safe:=D,AA:=[],file:=file,dead:=false,cut:=0,fail:=0} (y.AM z file) D (y.AM z file).z:=by
  refine⟨?_,Gz _,Gb _,q.low,q.nums,fun b hb=>?_,fun hb=>?_,R,q.yt⟩
  .have e1:(y.AM z file).z.dir (y.AM z file).G=z.dir y.G:=by
    unfold Dl.dir;show _++_++(((y.AM z file).G.take (y.AM z file).G.length).drop 0).map ZT++_=_;rw[Gt,FJ,I,J,Fv]
    rfl
   rw[e1];exact q.perm
  .have hb':z.base=some b:=hb
   have k:=q.base b hb';obtain⟨b1,b2⟩:=b3 b hb';have c5:=k.lt;refine⟨?_,k.one,fun e d=>?_,fun l f=>?_,b1.trans k.bytes,b2,fun l f=>?_,fun e=>?_,k.ok,?_,k.yD,?_⟩
   .show 0<(y.AM z file).G.length
    rw[b7];omega
   .have f:e∈(y.AM z file).G.take 0:=d
    rw[FK] at f;cases f
   .have he2:l∈(y.AM z file).G.drop 0:=f
    rw[FJ] at he2;obtain⟨e,d,rfl⟩:=j l he2;refine k.hi e ?_;rw[J,Ba] at d;exact GN d
   .obtain⟨e,d,rfl⟩:=j l f
    exact k.vd e (s e d)
   .have l:z.new=some b.2.1:=e
    have G:(zf,b.2.1)∈D:=by
     rw[q.perm.mem_iff];unfold Dl.dir;simp only[Gf,Gm,zQ];exact .inr ⟨b.2.1,l,rfl⟩
    have O:=Rd R G (q.mem hb') rfl;exact Xj true b.1 (FW Prod.fst O).symm
   .show _=((y.AM z file).pre 0).foldl SM.enter SM.nil
    rw[(L 0).1];exact k.held
   .show _<=((y.AM z file).pre 0).length+40
    rw[(L 0).1];exact k.len
  .have hb':z.base=none:=hb
   obtain⟨G,O⟩:=q.bare hb';refine⟨rfl,?_⟩;show y.pre z.i=[];rw[G];show y.F0++zv (y.G.take 0)=[];rw[O]
   rfl
 have B:UZ {M with dir:=D,safe:=D,AA:=[],file:=file,dead:=false,cut:=0,fail:=0} (y.AM z file):=fun l f=>by
  obtain⟨e,d,rfl⟩:=j l f;exact(Q e d).2.2.2
 have E:∀ e∈(y.AM z file).G,(file e.2.1).bytes=Zp e.2.2:=fun l f=>by
  obtain⟨e,d,rfl⟩:=j l f;exact Y e d
 have a7:∀ i,(((y.AM z file).F.take i).foldl SM.enter SM.nil).hints.length<=32:=fun i=>by
  obtain⟨r,hr⟩:=K;have:(y.AM z file).F.take i=y.F.take (min i (y.AM z file).F.length):=by
   rw[<- hr,GO (BD _ _),List.take_eq_take_min]
  rw[this];exact h.yD _
 have a2:left {M with dir:=D,safe:=D,AA:=[],file:=file,dead:=false,cut:=0,fail:=0} (y.AM z file) (y.AM z file).G.length=(y.AM z file).F.length:=by
  unfold left Lay.F;rw[Ga,Xf,Gt]
  congr 2
  refine Ee fun e d=>?_;show cnt e.2.2.1 (file e.2.1).safe=_;rw[show(file e.2.1).safe=(file e.2.1).bytes.length from B e d,E e d];exact Rc (Gb _)
 refine⟨y.AM z file,?_,K,Gc a5 a9⟩;exact {
  bd:={
   c0:=h.bd.c0,calls:=h.bd.calls,f0:=h.bd.f0,fr:=h.bd.fr,rc:=h.bd.rc,r0:=h.bd.r0,r1:=h.bd.r1,part:=h.bd.part
   yW:=fun g hg=>Gc (b5 g) (h.bd.yW g hg)
   xh:=h.bd.xh,yZ:=h.bd.yZ
   yt:=q.yt
   once:=R
   AA:=Gz _
   yk:=fun x hx=>by
    have N:x∈[D]:=hx;rw[Gg] at N;subst N;exact a1
   dir:=a1}
  ym:=by
   rw[I,FD];exact h.ym.sublist a3
  pos:=fun l f=>by
   obtain⟨e,d,rfl⟩:=j l f;exact h.pos e (s e d)
  gid:=by
   rw[I,Fv];exact(a3.map fun e=>e.2.1).nodup h.gid
  yT:=fun l f=>by
   obtain⟨e,d,rfl⟩:=j l f;exact h.yT e (s e d)
  yA:=fun l f=>by
   obtain⟨e,d,rfl⟩:=j l f;exact b6 e d
  bytes:=E
  ok:=fun l f=>by
   obtain⟨e,d,rfl⟩:=j l f;exact(Tl (h.ok _ (s e d)) _).2
  le:=fun e d=>Ex (B e d)
  full:=fun e d=>B e (Di _ d)
  yD:=a7
  fl:=Gc K.length_le h.fl
  now:=V
  yl:=fun x hx=>by
   have N:x∈[D]:=hx;rw[Gg] at N;subst N;exact⟨_,V,Ex a2.symm⟩
  cur:=Gh ..
  live:=fun l f=>by
   obtain⟨e,d,rfl⟩:=j l f;exact⟨D,Gh ..,X e d⟩}
def JM.on(limit:Nat)(G:List Ent)(ds:Bool):JM :=
 match G.getLast? with
 | .none=>{limit:=limit,last:=0,name:=ByteArray.empty,size:=0,yJ:=false,AE:=ds}
 | .some e=>{limit:=limit,last:=e.1,name:=zx zN e.1,size:=(Zp e.2.2).length,yJ:=decide (0<e.2.2.2.length),AE:=ds}
theorem JM.yr(limit:Nat)(G:List Ent)(e:Ent)(ds:Bool):JM.on limit (G++[e]) ds={limit:=limit,last:=e.1,name:=zx zN e.1,size:=(Zp e.2.2).length,yJ:=decide (0<e.2.2.2.length),AE:=ds}:=by
 unfold JM.on;simp
theorem JM.wz(a:Nat)(G:List Ent)(b:Bool):(JM.on a G b).limit=a:=by
 rcases FG G with rfl|⟨r,s,rfl⟩
 .rfl
 .rw[FH,JM.yr]
theorem JM.xP(a:Nat)(G:List Ent)(c b:Bool):{JM.on a G c with AE:=b}=JM.on a G b:=by
 rcases FG G with rfl|⟨r,s,rfl⟩
 .rfl
 .rw[FH,JM.yr,JM.yr]
theorem JM.wZ(a:Nat)(G:List Ent)(b:Bool):(JM.on a G b).AE=b:=by
 rcases FG G with rfl|⟨r,s,rfl⟩
 .rfl
 .rw[FH,JM.yr]
def Jl(J:JM)(M:DM)(y:Lay):Prop:=J=JM.on J.limit y.G J.AE/\(J.AE=true->M.safe=M.dir/\M.AA=[])
theorem JM.xS{limit:Nat}{G:List Ent}{ds:Bool}(h:G.Pairwise fun a b=>a.1<b.1):∀ e∈G,e.1<=(JM.on limit G ds).last:=by
 rcases FG G with rfl|⟨r,s,rfl⟩
 .intro e c;cases c
 .rw[FH] at h |-
  rw[JM.yr,Eo] at *;intro e c;rcases Gf.1 c with c|c
  .exact Cc (h.2.2 e c s (by simp))
  .rw[Gg] at c;subst c;exact Gb _
theorem JM.xJ{a:Nat}{G:List Ent}{b:Bool}{n:Nat}(h:∀ e∈G,e.1<=n):(JM.on a G b).last<=n:=by
 rcases FG G with rfl|⟨r,s,rfl⟩
 .exact Gz _
 .rw[FH] at h |-
  rw[JM.yr];exact h s (by simp)
theorem Lk.names{M:DM}{y:Lay}{p t k:Nat}(h:Lk M y p t k):(M.dir.map Prod.fst).Nodup:=by
 obtain⟨_,_,_,_,_,_,a⟩:=h.now.yg h.ym;exact a
theorem Lk.last{M:DM}{y:Lay}{p t k:Nat}(h:Lk M y p t k){G:List Ent}{e:Ent}(c:y.G=G++[e]):M.dir.look (zx zN e.1)=some e.2.1:=by
 have g:ZT e∈M.dir:=by
  rw[h.now.perm.mem_iff];unfold Dl.dir;simp only[Gf,Gm];refine .inl (.inr ⟨e,?_,rfl⟩);show e∈(y.G.take y.G.length).drop y.i;rw[Gt,c];have d:y.i<=G.length:=by
   cases hb:y.base with
   | none=>have:=(h.now.bare hb).1;have a:y.i=0:=this;omega
   | some b =>
    have:=(h.now.base b hb).lt;have a:y.i<y.G.length:=this;rw[c,Ga,Gi] at a;omega
  rw[EC d];simp
 exact Y8 h.names g
theorem Lk.fresh{M:DM}{y:Lay}{p t k:Nat}(h:Lk M y p t k){n:Nat}(o:∀ e∈y.G,e.1<n):M.dir.look (zx zN n)=none:=by
 refine RK fun e f x=>?_;have a:e.1∈(y.z.yg y.G).map ZL:=by
  rw[<- Dl.names,<- (h.now.perm.map Prod.fst).mem_iff];exact GZ f
 obtain⟨c,j,l⟩:=Gm.1 a;have m:c=some (false,n):=Ve (l.trans x);subst m;have d:∀ b,y.base=some b->b.1<n:=fun b r=>by
  have k:=h.now.base b r;have g:y.i<y.G.length:=k.lt;have s:=k.hi _ (GE.2 ⟨0,by rw[Gk];show 0<y.G.length-y.i;omega,by rw[Fu];rfl⟩:y.G[y.i]'g∈y.G.drop y.i);have v:=o _ (Gj g);omega
 unfold Dl.yg at j;simp only[Gf,Gm,zQ] at j;rcases j with((⟨e,f,a⟩|⟨e,f,a⟩)|⟨e,f,a⟩)|⟨e,_,a⟩
 .simp only[GU,FF] at a
  obtain⟨l,q,i,m⟩:=h.now.low e f;have:=d q i;omega
 .simp at a
 .simp only[GU,FF] at a
  have:=o e (GN (GB f));omega
 .cases a
theorem Lk.wQ{M:DM}{y:Lay}{p t k:Nat}(h:Lk M y p t k)(i:y.new=none):M.dir.look zf=none:=by
 refine RK fun e b x=>?_;have a:e.1∈(y.z.yg y.G).map ZL:=by
  rw[<- Dl.names,<- (h.now.perm.map Prod.fst).mem_iff];exact GZ b
 obtain⟨c,d,f⟩:=Gm.1 a;have g:c=none:=Ve (f.trans x);subst g;unfold Dl.yg at d;simp only[Gf,Gm,zQ] at d;rcases d with((⟨e,b,a⟩|⟨e,b,a⟩)|⟨e,b,a⟩)|⟨e,b,a⟩
 .cases a
 .cases a
 .cases a
 .have he':y.new=some e:=b
  rw[i] at he';cases he'
theorem Lk.xo{M:DM}{y:Lay}{p t k f:Nat}(h:Lk M y p t k)(b:y.new=some f):M.dir.look zf=some f/\f∈M.ids:=by
 have a:(zf,f)∈M.dir:=by
  rw[h.now.perm.mem_iff];unfold Dl.dir;simp only[Gf,Gm,zQ];exact .inr ⟨f,b,rfl⟩
 exact⟨Y8 h.names a,h.now.yt _ a⟩
theorem Lg.no{M:DM}{y:Lay}{p t:Nat}(h:Lg M y p t)(d:Bool):Lg (M.no d) y p (t+1):=(Lk.no h d).close (by decide)
theorem Lg.yK{M:DM}{y:Lay}{p t:Nat}(h:Lg M y p t)(f:Nat):Lg (M.yK f) y p (t+1):=(Lk.yK h f).close (by decide)
theorem Lg.yN{M:DM}{y:Lay}{p t:Nat}(h:Lg M y p t){q:Nat}(a:q<=left M y y.G.length):Lg M.yN y.trim q (t+1):=(Lk.yN h a).close (by decide)
theorem Lg.yh{M:DM}{y:Lay}{p t:Nat}(h:Lg M y p t)(n:Int):Lg (M.yh n) y p t :=
 Lk.same h ⟨h.bd.c0,h.bd.calls,h.bd.f0,h.bd.fr,h.bd.rc,h.bd.r0,h.bd.r1,h.bd.part,h.bd.yW,h.bd.xh,h.bd.yZ,h.bd.yt,h.bd.once,h.bd.AA,h.bd.yk,h.bd.dir⟩ (Gb _) rfl rfl rfl rfl rfl
theorem Lg.AP{M:DM}{y:Lay}{p t:Nat}(h:Lg M y p t)(n a:Int)(b:-9223372036854775808<=a)(c:a<=9223372036854775807):Lg (M.AP n a) y p t :=
 Lk.same h ⟨h.bd.c0,h.bd.calls,h.bd.f0,h.bd.fr,h.bd.rc,h.bd.r0,h.bd.r1,(by
  show 0<=(if a<0 then wrap64 (-(wrap64 (a+1))) else a);split
  .unfold wrap64;omega
  .omega),h.bd.yW,h.bd.xh,h.bd.yZ,h.bd.yt,h.bd.once,h.bd.AA,h.bd.yk,h.bd.dir⟩ (Gb _) rfl rfl rfl rfl rfl
structure Pairs(M:DM)(ps:List (Nat × Nat)):Prop where
 n1:(ps.map Prod.fst).Nodup
 n2:(ps.map Prod.snd).Nodup
 old:∀ p∈ps,p.1∈M.ids
 dir:∀ D∈M.dir::M.safe::M.AA,∀ e∈D,∃ g,(e.2,g)∈ps
theorem Pairs.of{M:DM}{a:List (Nat × Nat)}(h:Pairs M a){D:Dir}(c:D∈M.dir::M.safe::M.AA){e:ByteArray × Nat}(d:e∈D):(e.2,second a e.2)∈a:=by
 obtain⟨g,b⟩:=h.dir D c e d;rw[UO h.n1 b];exact b
theorem Pairs.back{M:DM}{a:List (Nat × Nat)}(h:Pairs M a){D:Dir}(b:D∈M.dir::M.safe::M.AA){e:ByteArray × Nat}(c:e∈D):first a (second a e.2)=e.2:=VZ h.n2 (h.of b c)
theorem RX{c:List (Nat × Nat)}{M:DM}(h:Pairs M c){D:Dir}(g:D∈M.dir::M.safe::M.AA)(l:(D.map (·.2)).Nodup):((Z7 c D).map (·.2)).Nodup:=by
 unfold Z7;rw[Fv];refine FD.2 ?_;refine(List.Pairwise.imp_of_mem ?_ (FD.1 l));intro a b j k d e;have i:second c a.2=second c b.2:=e;exact d (by rw[<- h.back g j,<- h.back g k,i])
theorem Bk.AR{M:DM}{t:Nat}(h:Bd M t){b:List (Nat × Nat)}(c:Pairs M b):Bd (M.AR b) t where
 c0:=h.c0
 calls:=h.calls
 f0:=h.f0
 fr:=h.fr
 rc:=h.rc
 r0:=h.r0
 r1:=h.r1
 part:=h.part
 yW:=fun g o=>by
  have k:g∈b.map Prod.snd:=o;obtain⟨p,a,rfl⟩:=Gm.1 k;show(M.file (first b p.2)).bytes.length<=_;rw[VZ c.n2 (f:=p.1) a];exact h.yW _ (c.old p a)
 xh:=c.n2
 yZ:=by
  show(b.map Prod.snd).length<=t;have:=TH (b.map Prod.fst) M.ids c.n1 (fun x i=>by obtain⟨p,a,rfl⟩:=Gm.1 i;exact c.old p a);rw[Gv] at this |-;exact Gc this h.yZ
 yt:=fun e m=>by
  obtain⟨x,i,rfl⟩:=Gm.1 m;exact Gm.2 ⟨_,c.of (Gh ..) i,rfl⟩
 once:=RX c (Gh ..) h.once
 AA:=by show(M.AA.map _).length<=_;rw[Gv];exact h.AA
 yk:=fun d l=>by
  have j:d∈(M.safe::M.AA).map (Z7 b):=l;obtain⟨x,i,rfl⟩:=Gm.1 j;unfold Z7;rw[Gv];exact h.yk x i
 dir:=by show(Z7 b M.dir).length<=t;unfold Z7;rw[Gv];exact h.dir
def T0(a:List (Nat × Nat))(b:Nat × Nat × List Fact):Nat × Nat × List Fact:=(b.1,second a b.2.1,b.2.2)
def QD(a:List (Nat × Nat))(e:Bool × Nat × Nat):Bool × Nat × Nat:=(e.1,e.2.1,second a e.2.2)
def Xm(a:List (Nat × Nat))(e:Ent):Ent:=(e.1,second a e.2.1,e.2.2)
def Dl.AR(a:List (Nat × Nat))(z:Dl):Dl:={AU:=z.AU.map (QD a),base:=z.base.map (T0 a),i:=z.i,j:=z.j,new:=z.new.map (second a)}
def Lay.AR(a:List (Nat × Nat))(y:Lay):Lay:={F0:=y.F0,G:=y.G.map (Xm a),new:=y.new.map (second a),AU:=y.AU.map (QD a),base:=y.base.map (T0 a),i:=y.i}
theorem Tn(a:List (Nat × Nat))(G:List Ent):zv (G.map (Xm a))=zv G:=by
 unfold zv;rw[Fv]
 rfl
theorem Lay.xC(a:List (Nat × Nat))(y:Lay)(i:Nat):(y.AR a).pre i=y.pre i:=by
 show y.F0++zv ((y.G.map (Xm a)).take i)=_;rw[<- Fy,Tn]
 rfl
theorem Lay.xe(a:List (Nat × Nat))(y:Lay):(y.AR a).F=y.F:=by
 show y.F0++zv (y.G.map (Xm a))=_;rw[Tn]
 rfl
theorem Lay.wG(a:List (Nat × Nat))(y:Lay)(z:Dl):(z.AR a).dir (y.AR a).G=Z7 a (z.dir y.G):=by
 unfold Dl.dir Z7;show(z.AU.map (QD a)).map X2++(z.base.map (T0 a)).toList.map Yo++(((y.G.map (Xm a)).take z.j).drop z.i).map ZT++(z.new.map (second a)).toList.map (fun f=>(zf,f))=_;rw[<- Fy,<- EK];simp only[Gy,Fv]
 congr 1
 .congr 1
  congr 1
  cases z.base <;> rfl
 .cases z.new <;> rfl
theorem Lk.xk{M:DM}{y:Lay}{p t k:Nat}(h:Lk M y p t k){a:List (Nat × Nat)}(d:Pairs M a){e:Ent}(g:e∈y.G):(e.2.1,second a e.2.1)∈a/\first a (second a e.2.1)=e.2.1:=by
 obtain⟨D,b,c⟩:=h.live e g;exact⟨d.of (Ge _ b) c,d.back (Ge _ b) c⟩
theorem Snd.AR{M:DM}{y:Lay}{p t k:Nat}(E:Lk M y p t k){a:List (Nat × Nat)}(j:Pairs M a){D:Dir}(l:D∈M.dir::M.safe::M.AA){z:Dl}(h:Snd M y D z):Snd (M.AR a) (y.AR a) (Z7 a D) (z.AR a) where
 perm:=by rw[Lay.wG];exact h.perm.map _
 ij:=h.ij
 j:=by show z.j<=(y.G.map _).length;rw[Gv];exact h.j
 low:=fun e c=>by
  obtain⟨o,K,rfl⟩:=Gm.1 c;obtain⟨u,b,d,I⟩:=h.low o K;exact⟨u,T0 a b,by show z.base.map _=_;rw[d];rfl,I⟩
 nums:=by
  show((z.AU.map (QD a)).map (·.2.1)).Nodup;rw[Fv];exact h.nums
 base:=fun G A=>by
  have i:z.base.map (T0 a)=some G:=A;obtain⟨b,d,rfl⟩:=Cu.1 i;have q:=h.base b d;have C:(M.AR a).file (second a b.2.1)=M.file b.2.1:=by
   show M.file (first a (second a b.2.1))=_;rw[show first a (second a b.2.1)=b.2.1 from j.back l (h.mem d)]
  refine⟨q.lt,q.one,fun e c=>?_,fun e c=>?_,by show((M.AR a).file (second a b.2.1)).bytes=_;rw[C];exact q.bytes,by show((M.AR a).file (second a b.2.1)).safe=((M.AR a).file (second a b.2.1)).bytes.length;rw[C];exact q.safe,fun e c r=>?_,fun r=>?_,q.ok,by rw[Lay.xC];exact q.held,q.yD,by rw[Lay.xC];exact q.len⟩
  .have he':e∈(y.G.map (Xm a)).take z.i:=c
   rw[<- Fy] at he';obtain⟨x,g,rfl⟩:=Gm.1 he';exact q.lo x g
  .have he':e∈(y.G.map (Xm a)).drop z.i:=c
   rw[<- EK] at he';obtain⟨x,g,rfl⟩:=Gm.1 he';exact q.hi x g
  .obtain⟨x,g,rfl⟩:=Gm.1 c
   have s:second a x.2.1=second a b.2.1:=r;refine q.vd x g ?_;rw[<- (E.xk j g).2,s];exact j.back l (h.mem d)
  .have s:y.new.map (second a)=some (second a b.2.1):=r
   obtain⟨f,m,B⟩:=Cu.1 s;have J:(zf,f)∈M.dir:=by
    rw[E.now.perm.mem_iff];unfold Dl.dir;simp only[Gf,Gm,zQ];exact .inr ⟨f,m,rfl⟩
   refine q.new ?_;rw[m]
   congr 1
   have u:first a (second a f)=f:=j.back (e:=(zf,f)) (Gh ..) J
   rw[<- u,B];exact j.back l (h.mem d)
 bare:=fun d=>by
  have i:z.base.map (T0 a)=none:=d;exact h.bare (Option.map_eq_none_iff.1 i)
 once:=RX j l h.once
 yt:=fun e c=>by
  obtain⟨x,g,rfl⟩:=Gm.1 c;exact Gm.2 ⟨_,j.of l g,rfl⟩
theorem Lk.AR{M:DM}{y:Lay}{p t:Nat}(h:Lg M y p t){c:List (Nat × Nat)}(l:Pairs M c):Lg (M.AR c) (y.AR c) p t:=by
 have i:∀ e∈y.G,(M.AR c).file (second c e.2.1)=M.file e.2.1:=fun e g=>by
  show M.file (first c (second c e.2.1))=_;rw[(h.xk l g).2]
 have o:∀ k∈(y.AR c).G,∃ e∈y.G,k=Xm c e:=fun k d=>by
  obtain⟨e,g,rfl⟩:=Gm.1 d;exact⟨e,g,rfl⟩
 have G:(y.AR c).z=y.z.AR c:=by
  unfold Lay.z Dl.AR Lay.AR;simp
 have m:∀ j,left (M.AR c) (y.AR c) j=left M y j:=fun j=>by
  unfold left;show y.F0.length+(((y.G.map (Xm c)).take j).map _).sum=_;rw[<- Fy,Fv]
  congr 2
  refine Ee fun e g=>?_;show cnt e.2.2.1 ((M.AR c).file (second c e.2.1)).safe=_;rw[i e (GN g)]
 exact {
  bd:=Bk.AR h.bd l
  ym:=by
   show(y.G.map (Xm c)).Pairwise _;rw[FD];exact h.ym
  pos:=fun k d=>by obtain⟨e,g,rfl⟩:=o k d;exact h.pos e g
  gid:=by
   show((y.G.map (Xm c)).map (·.2.1)).Nodup;rw[Fv,Fw,FD];have:=h.gid;rw[Fw,FD] at this;refine List.Pairwise.imp_of_mem ?_ this;intro a b N O E e;have s:second c a.2.1=second c b.2.1:=e;exact E (by rw[<- (h.xk l N).2,<- (h.xk l O).2,s])
  yT:=fun k d=>by
   obtain⟨e,g,rfl⟩:=o k d;exact Gm.2 ⟨_,(h.xk l g).1,rfl⟩
  yA:=fun k d s=>by
   obtain⟨e,g,rfl⟩:=o k d;have J:y.new.map (second c)=some (second c e.2.1):=s;obtain⟨f,r,B⟩:=Cu.1 J;have C:(zf,f)∈M.dir:=by
    rw[h.now.perm.mem_iff];unfold Dl.dir;simp only[Gf,Gm,zQ];exact .inr ⟨f,r,rfl⟩
   refine h.yA e g ?_;rw[r]
   congr 1
   have K:first c (second c f)=f:=l.back (e:=(zf,f)) (Gh ..) C
   rw[<- K,B];exact(h.xk l g).2
  bytes:=fun k d=>by
   obtain⟨e,g,rfl⟩:=o k d;show((M.AR c).file (second c e.2.1)).bytes=_;rw[i e g];exact h.bytes e g
  ok:=fun k d=>by obtain⟨e,g,rfl⟩:=o k d;exact h.ok e g
  le:=fun k d=>by
   obtain⟨e,g,rfl⟩:=o k d;show((M.AR c).file (second c e.2.1)).safe<=((M.AR c).file (second c e.2.1)).bytes.length;rw[i e g];exact h.le e g
  full:=fun k d=>by
   have q:k∈(y.G.map (Xm c)).dropLast:=d;rw[<- List.map_dropLast] at q;obtain⟨e,g,rfl⟩:=Gm.1 q;show((M.AR c).file (second c e.2.1)).safe=((M.AR c).file (second c e.2.1)).bytes.length;rw[i e (Di _ g)];exact h.full e g
  yD:=by rw[Lay.xe];exact h.yD
  fl:=by rw[Lay.xe];exact h.fl
  now:=by rw[G];exact h.now.AR h l (Gh ..)
  yl:=fun D u=>by
   have A:D∈(M.safe::M.AA).map (Z7 c):=u;obtain⟨x,I,rfl⟩:=Gm.1 A;obtain⟨z,G,Q⟩:=h.yl x I;exact⟨z.AR c,G.AR h l (Ge _ I),by rw[m];exact Q⟩
  cur:=by
   show Z7 c M.dir∈(M.safe::M.AA).map (Z7 c);exact GZ h.cur
  live:=fun k d=>by
   obtain⟨e,g,rfl⟩:=o k d;obtain⟨D,u,L⟩:=h.live e g;refine⟨Z7 c D,?_,GZ (f:=fun e:ByteArray × Nat=>(e.1,second c e.2)) L⟩;show Z7 c D∈(M.safe::M.AA).map (Z7 c);exact GZ u}
structure Mgx(M:DM)(y:Lay)(g:MgM)(i f:Nat):Prop where
 new:y.new=some f
 lt:i<y.G.length
 yi:y.i<=i
 old:∀ b,y.base=some b->b.1<g.number
 one:1<=g.number
 lo:∀ e∈y.G.take i,e.1<g.number
 hi:∀ e∈y.G.drop i,g.number<e.1
 bytes:(M.file f).bytes=zF g.done
 ok:∀ x∈g.done++g.left,ZY x/\(zj x).size<=2000
 held:(g.done++g.left).foldl SM.enter SM.nil=(y.pre i).foldl SM.enter SM.nil
 yD:∀ k,(((g.done++g.left).take k).foldl SM.enter SM.nil).hints.length<=32
 len:(g.done++g.left).length<=(y.pre i).length+40
def Mo(M:DM)(y:Lay):Option MgM->Prop
 | none=>y.new=none
 | some g=>∃ i f,Mgx M y g i f/\g.calls<=g.done.length+1
theorem Mgx.up{M k:DM}{y j:Lay}{g:MgM}{i f:Nat}(h:Mgx M y g i f)(b:Ext y j)(m:∀ f,y.new=some f->(k.file f).bytes=(M.file f).bytes):Mgx k j g i f:=by
 have o:=b.len;have c:=h.lt;refine⟨b.new.trans h.new,Ff h.lt o,by rw[b.i];exact h.yi,by rw[b.base];exact h.old,h.one,fun e d=>?_,fun e d=>?_,(m f h.new).trans h.bytes,h.ok,by rw[b.pre c];exact h.held,h.yD,by rw[b.pre c];exact h.len⟩
 .obtain⟨a,ha,e1,_⟩:=UM b (Cc c) d
  rw[<- e1];exact h.lo a ha
 .obtain⟨n,hn,rfl⟩:=GE.1 d
  rw[Gk] at hn;rw[Fu];by_cases l:i+n<y.G.length
  .have:=b.key.getElem (i:=i+n) (by simpa using l)
   simp only[GJ,FF] at this;rw[<- this.1];exact h.hi _ (GE.2 ⟨n,by rw[Gk];omega,by rw[Fu]⟩)
  .have h3:=h.hi y.G[i] (GE.2 ⟨0,by rw[Gk];omega,by rw[Fu];rfl⟩)
   have q:=b.xN y.G[i] (Gj _) j.G[i+n] (GE.2 ⟨i+n-y.G.length,by rw[Gk];omega,by rw[Fu];congr 1;omega⟩);omega
theorem Mo.up{M b:DM}{y d:Lay}{a:Option MgM}(h:Mo M y a)(c:Ext y d)(e:∀ f,y.new=some f->(b.file f).bytes=(M.file f).bytes):Mo b d a:=by
 cases a with
 | none=>exact c.new.trans h
 | some g=>obtain⟨i,f,h,j⟩:=h;exact⟨i,f,h.up c e,j⟩
theorem Mo.trim{M d:DM}{y:Lay}{c:Option MgM}(h:Mo M y c)(j:∀ f,y.new=some f->(d.file f).bytes=(M.file f).bytes):Mo d y.trim c:=by
 cases c with
 | none=>exact h
 | some g =>
  obtain⟨i,f,h,k⟩:=h;have m:=h.yi;have l:=h.lt;have a:y.trim.pre (i-y.i)=y.pre i:=by rw[Lay.xb,show y.i+(i-y.i)=i by omega]
  refine⟨i-y.i,f,⟨h.new,?_,Gz _,h.old,h.one,fun e b=>?_,fun e b=>?_,(j f h.new).trans h.bytes,h.ok,by rw[a];exact h.held,h.yD,by rw[a];exact h.len⟩,k⟩
  .show i-y.i<(y.G.drop y.i).length
   rw[Gk];omega
  .have he':e∈(y.G.drop y.i).take (i-y.i):=b
   rw[<- Ba] at he';exact h.lo e (GB he')
  .have he':e∈(y.G.drop y.i).drop (i-y.i):=b
   rw[List.drop_drop,show y.i+(i-y.i)=i by omega] at he';exact h.hi e he'
theorem Lk.dlt{M:DM}{y:Lay}{p t k:Nat}(h:Lk M y p t k):y.i<y.G.length\/y.i=0/\y.base=none:=by
 cases hb:y.base with
 | none=>exact .inr ⟨(h.now.bare hb).1,rfl⟩
 | some b=>exact .inl (h.now.base b hb).lt
theorem Lk.xU{M:DM}{y:Lay}{p t k:Nat}(h:Lk M y p t k)(a:Nat)(b:Bool):JM.on a y.trim.G b=JM.on a y.G b:=by
 have e:y.trim.G.getLast?=y.G.getLast?:=by
  show(y.G.drop y.i).getLast?=_;rcases h.dlt with c|⟨c,_⟩
  .rw[List.getLast?_drop,Gl (by omega)]
  .rw[c,FJ]
 unfold JM.on;rw[e]
structure Alike(M M':DM):Prop where
 dir:M'.dir=M.dir
 ids:M'.ids=M.ids
 room:M'.room=M.room
 part:M'.part=M.part
 yj:M'.yj=M.yj
theorem IP(M:DM)(f:Nat):(M.yK f).yj=M.yj:=by
 unfold DM.yj;simp only[Yi]
 rfl
theorem XQ{J:JM}{M:DM}{y:Lay}{p t:Nat}(h:Lg M y p t)(j:J=JM.on J.limit y.G J.AE)(o:t<=1000000) :
 ∃ e a,J.Az M=(e,a)/\Lg a y p (t+1)/\Ans M a e/\Alike M a/\e≠some 10/\a.safe=M.safe/\a.AA=M.AA/\(∀ g,(a.file g).bytes=(M.file g).bytes)/\(e=none->UZ a y):=by
 unfold JM.Az;rcases FG y.G with b|⟨q,s,b⟩
 .have:J.last=0:=by rw[j,b];rfl
  rw[GA this];exact⟨none,M,rfl,h.more (FQ _),Ans.refl M,⟨rfl,rfl,rfl,rfl,rfl⟩,(by intro e;cases e),rfl,rfl,fun _=>rfl,fun _ e i=>by
   rw[b] at i;cases i⟩
 .rw[FH] at b
  have m:=h.last b;have f:=j;rw[b,JM.yr] at f;have k:J.last≠0:=by
   have:=(h.pos s (by rw[b];simp)).1;rw[f];simp only;omega
  have l:J.name=zx zN s.1:=by rw[f]
  rw[Gl k,l];rcases sync_any h.bd o (by decide) m with⟨e,c⟩|⟨d,e,c⟩
  .rw[e]
   exact⟨none,M.yK s.2.1,rfl,h.yK s.2.1,Ans.ok c rfl rfl rfl,⟨rfl,rfl,rfl,rfl,IP M s.2.1⟩,(by intro e;cases e),rfl,rfl,Yi M s.2.1,fun _=>Lk.wJ h b⟩
  .rw[e]
   exact⟨some 9,M.no d,rfl,Lg.no h d,Ans.no c rfl rfl,⟨rfl,rfl,rfl,rfl,rfl⟩,(by intro e;cases e),rfl,rfl,fun _=>rfl,fun e=>by cases e⟩
theorem U1{M:DM}{t k:Nat}(h:Bk M t k){f:Nat}(g:f∉M.ids)(a:ByteArray)(r:Int)(d:Bool):(M.born a f r d).yj=M.yj:=by
 have c:∀ e∈M.dir,e.2≠f:=fun e b x=>g (x▸h.yt e b);show((M.dir++[(a,f)]).map fun e=>(if e.2=f then(⟨[],0⟩:FM) else M.file e.2).bytes.length).sum=_;rw[Gy,Eb];simp only[Gw,Fz,FL,Cv,Ft,GT,Eu];unfold DM.yj;refine FW List.sum (Ee fun e b=>?_);rw[Gl (c e b)]
theorem Rf{J:JM}{M:DM}{y:Lay}{p t:Nat}(h:Lg M y p t)(I:Jl J M y)(X:t+2<=1000000)(n f:Nat)(V:J.last<n)(R:n<=2*(t+2))(Q:f∉M.ids) :
 ∃ e o j B,J.begin M n f=(e,o,j)/\Lg j B p (t+2)/\B.F=y.F/\Ext y B/\(∀ g,y.new=some g->(j.file g).bytes=(M.file g).bytes)/\Ans M j e/\j.room=M.room/\j.part=M.part/\(∀ g∈j.ids,g=f\/g∈M.ids)/\j.yj=M.yj/\e≠some 10/\(e≠none->o=J) /\
  (e=none->Jl o j B/\o.limit=J.limit/\B.G=y.G++[(n,f,([],[]))]/\o.AE=false):=by
 obtain⟨L,k,S,a,C,c,G,T,N,m,D⟩:=XQ h I.1 (by omega);have b:∀ e∈y.G,e.1<n:=fun e O=>by
  have:=JM.xS (limit:=J.limit) (ds:=J.AE) h.ym e O;rw[<- I.1] at this;omega
 unfold JM.begin;rw[S];cases L with
 | some x=>exact⟨some x,J,k,y,rfl,a.more (by omega),rfl,Ext.refl y,fun g _=>m g,C,c.room,c.part,fun g a=>.inr (c.ids▸a),c.yj,G,fun _=>rfl,fun e=>by cases e⟩
 | none =>
  have l:=D rfl;have i:f∉k.ids:=by rw[c.ids];exact Q
  have A:y.new≠some f:=fun e=>i ((a.xo e).2);simp only;have v:∀ g,g∈f::k.ids->g=f\/g∈M.ids:=fun g a=>by
   rw[GH,c.ids] at a;exact a
  have u:∀ r d,∀ g,y.new=some g->((k.born (zx zN n) f r d).file g).bytes=(M.file g).bytes:=fun r d g E=>by
   rw[ZU k _ f r d (fun e=>i (e▸(a.xo E).2))];exact m g
  have K:=Ext.add y n f b;rcases Sq a.bd (by omega) (by decide) (JY _) (a.fresh b) f with⟨q,s⟩|⟨d,q,s⟩|⟨q,s⟩
  .rw[q]
   simp only[Ft];refine⟨none,_,_,_,rfl,Lk.born a l n f i (by omega) b (by omega) A k.refused k.dead (by omega) (by omega),Lay.xM y n f,K,u _ _,C.trans (Ans.ok s rfl rfl rfl),c.room,c.part,fun g a=>v g a,(U1 a.bd i _ _ _).trans c.yj,(by intro e;cases e),(fun h=>absurd rfl h),fun _=>⟨⟨?_,fun e=>by cases e⟩,rfl,rfl,rfl⟩⟩;show _=JM.on J.limit (y.G++[(n,f,([],[]))]) false;simp only[JM.yr,Zp,zF];simp
  .rw[q]
   simp only[show ¬(9:Int)=0 by decide,Fk];exact⟨_,_,_,y,rfl,(Lg.no a d).more (by omega),rfl,Ext.refl y,fun g _=>m g,C.trans (Ans.no s rfl rfl),c.room,c.part,fun g a=>.inr (c.ids▸a),c.yj,(by intro e;cases e),fun _=>rfl,fun e=>by cases e⟩
  .rw[q]
   simp only[show ¬(9:Int)=0 by decide,Fk];exact⟨_,_,_,_,rfl,Lk.born a l n f i (by omega) b (by omega) A (k.refused+1) true (by omega) (by omega),Lay.xM y n f,K,u _ _,C.trans (Ans.no s rfl rfl),c.room,c.part,fun g a=>v g a,(U1 a.bd i _ _ _).trans c.yj,(by intro e;cases e),fun _=>rfl,fun e=>by cases e⟩
theorem Lk.xX{M:DM}{y:Lay}{p t k:Nat}(h:Lk M y p t k){J:JM}(b:J=JM.on J.limit y.G J.AE):J.last<=2*t:=by
 rw[b];exact JM.xJ fun e a=>(h.pos e a).2
theorem Su{J:JM}{M:DM}{y:Lay}{p t:Nat}(h:Lg M y p t)(q:Jl J M y)(S:t+2<=1000000)(n f:Nat)(Q:f∉M.ids) :
 ∃ e d a c,J.AF M n f=(e,d,a)/\Lg a c p (t+2)/\c.F=y.F/\Ext y c/\(∀ g,y.new=some g->(a.file g).bytes=(M.file g).bytes)/\Ans M a e/\a.room=M.room/\a.part=M.part/\(∀ g∈a.ids,g=f\/g∈M.ids)/\a.yj=M.yj/\e≠some 10/\(e≠none->d=J) /\
  (e=none->Jl d a c/\d.limit=J.limit/\∃ G m k v,c.G=G++[(m,k,(v,[]))]):=by
 unfold JM.AF;cases hb:J.fits n with
 | true =>
  simp only[Ft];refine⟨none,J,M,y,rfl,h.more (by omega),rfl,Ext.refl y,fun _ _=>rfl,Ans.refl M,rfl,rfl,fun g R=>.inr R,rfl,(by intro e;cases e),fun _=>rfl,fun _=>⟨q,rfl,?_⟩⟩;unfold JM.fits at hb;simp only[Fm,Gr,Be] at hb;obtain⟨o,i,_⟩:=hb;have l:=q.1;rcases FG y.G with j|⟨r,s,j⟩
  .rw[l,j] at o;exact absurd rfl o
  .rw[FH] at j
   rw[l,j,JM.yr] at i;simp only[FB,Nat.not_lt,Nat.le_zero_eq] at i;obtain⟨m,k,v,T⟩:=s;obtain rfl:T=[]:=GL i;exact⟨r,m,k,v,j⟩
 | false =>
  simp only[FI,Fk];have C:=h.xX q.1;obtain⟨e,d,a,c,o,i,D,E,I,K,L,N,O,x,A,B,b⟩:=Rf h q S (J.last+1) f (Nat.lt_succ_self _) (by omega) Q;rw[o];exact⟨e,d,a,c,rfl,i,D,E,I,K,L,N,O,x,A,B,fun u=>⟨(b u).1,(b u).2.1,y.G,_,f,[],(b u).2.2.1⟩⟩
theorem I7{J:JM}{M:DM}{y:Lay}{p t:Nat}(h:Lg M y p t)(hj:Jl J M y)(ht:t+3<=1000000)(x:Fact)(hx:ZY x)(c7:(zj x).size<=2000)(b1:((y.F++[x]).foldl SM.enter SM.nil).hints.length<=32)(f:Nat)(hf:f∉M.ids) :
 ∃ wh e J' S y',J.append M (zj x) f=(wh,e,J',S)/\Lg S y' p (t+3)/\y'.F=y.F++(if wh=true then [x] else [])/\(∀ mg,Mo M y mg->Mo S y' mg)/\Ans M S e/\S.room=M.room/\S.part=M.part/\(∀ g∈S.ids,g=f\/g∈M.ids)/\S.yj<=M.yj+(zj x).size/\(e=some 10->M.room<M.yj+(zj x).size) /\
  (e=none->wh=true/\Jl J' S y'/\J'.limit=J.limit/\M.calls<S.calls):=by
 obtain⟨e1,E,l,C,e,hg,a0,b6,b5,ha,a3,a2,a1,c8,c3,_,c2⟩:=Su h hj (by omega) (zj x).size f hf;unfold JM.append;rw[e];cases e1 with
 | some n=>exact⟨false,some n,E,l,C,rfl,hg.more (by omega),by simp[a0],fun mg hm=>hm.up b6 b5,ha,a3,a2,a1,by omega,fun e=>absurd e c3,fun e=>by cases e⟩
 | none =>
  obtain⟨hL,b3,G,m,g,s,X⟩:=c2 rfl;simp only;have b4:=hg.last X;have L:=hL.1;rw[X,JM.yr] at L;have v:E.name=zx zN m:=by rw[L]
  have A:E.size=(zF s).length:=by rw[L];simp[Zp]
  have Q:E.yJ=false:=by rw[L];simp
  have N:E.last=m:=by rw[L]
  have a5:l.dir.look E.name=some g:=by rw[v];exact b4
  have a4:(zj x).data.toList.length=(zj x).size:=by rw[FU];rfl
  have K:(l.file g).bytes=zF s:=by
   have:=hg.bytes (m,g,(s,[])) (by rw[X];simp)
   simpa [Zp] using this
  have c1:C.new≠some g:=hg.yA (m,g,(s,[])) (by rw[X];simp);obtain⟨I,k,r,u,D,ea,hk,d⟩:=Mn hg.bd (by omega) (by decide) a5 (zj x);have B:E.has (l.put g ((zj x).data.toList.take k) r u D) (E.size+(zj x).size)=decide (k=(zj x).size):=by
   unfold JM.has DM.size;rw[show(l.put g ((zj x).data.toList.take k) r u D).dir=l.dir from rfl,a5];simp only[Yy,Ft,K,Ga,Gd,a4];rw[A,show((0:Int)==0)=true from rfl,Bq,Fi hk];by_cases e:k=(zj x).size
   .rw[EN e,beq_iff_eq];omega
   .rw[Fp e,Fl];omega
  have b2:=(hg.ok (m,g,(s,[])) (by rw[X];simp)).1;have hF:∀ s':Seg,({C with G:=G++[(m,g,s')]}:Lay).F=C.F0++zv G++s'.1:=fun s'=>by
   show C.F0++zv (G++[(m,g,s')])=_;rw[Zf,VX,Gp]
  have b0:C.F0++zv G++s=y.F:=by
   rw[<- a0];show _=C.F0++zv C.G;rw[X,Zf,VX,Gp]
  have a6:((zj x).data.toList.take k).length<=2000:=by rw[Gd];omega
  have q:l.refused<=r/\r<=l.refused+1/\l.AD<=u/\u-l.AD<=r-l.refused:=by
   rcases d with⟨_,_,a,b,_⟩|⟨a,⟨_,b,_⟩|⟨_,b,_⟩⟩ <;> subst a b <;> refine⟨by omega,by omega,by omega,by omega⟩
  have R:(l.put g ((zj x).data.toList.take k) r u D).yj<=M.yj+(zj x).size:=by
   have h1:=IJ hg.bd g ((zj x).data.toList.take k) r u D;rw[Gd] at h1;omega
  have c:Ans M (l.put g ((zj x).data.toList.take k) r u D) (zJ I):=by
   refine ha.trans ?_;rcases d with⟨rfl,_,rfl,rfl,rfl,c4⟩|⟨rfl,⟨rfl,rfl,c5⟩|⟨rfl,rfl,rfl,_⟩⟩
   .exact Ans.ok c4 rfl rfl rfl
   .exact Ans.no c5 rfl rfl
   .exact⟨.inr ⟨rfl,.inr ⟨rfl,rfl,rfl⟩⟩,rfl,rfl,Au (Int.lt_succ _),(fun e=>by cases e),(fun e=>by cases e)⟩
  have a9:I=10->M.room<M.yj+(zj x).size:=fun T=>by
   rcases d with⟨a,_⟩|⟨_,⟨a,_⟩|⟨_,_,_,_,c6⟩⟩
   .rw[a] at T;cases T
   .rw[a] at T;cases T
   .omega
  have b7:I=0->k=(zj x).size:=fun e0=>by
   rcases d with⟨_,a,_⟩|⟨_,⟨a,_⟩|⟨a,_⟩⟩
   .exact a
   .rw[a] at e0;cases e0
   .rw[a] at e0;cases e0
  have a8:∀ s':Seg,∀ mg,Mo M y mg->Mo (l.put g ((zj x).data.toList.take k) r u D) {C with G:=G++[(m,g,s')]} mg:=fun s' mg hm=>by
   refine(hm.up b6 b5).up (Ext.last X rfl) (fun f' c0=>?_);rw[Xt l g _ r u D (fun e=>c1 (e▸c0))]
  unfold JM.yy;rw[ea];simp only;by_cases j:k=(zj x).size
  .have O:WF (s++[x],[]):=⟨fun y hy=>by
    rcases Gf.1 hy with hy|hy
    .exact b2 y hy
    .rw[Gg] at hy;subst hy;exact hx,TC⟩
   have o:({C with G:=G++[(m,g,(s++[x],[]))]}:Lay).F=y.F++[x]:=by
    rw[hF,<- b0];simp only[Gp]
   have Y:Lg (l.put g ((zj x).data.toList.take k) r u D) {C with G:=G++[(m,g,(s++[x],[]))]} p (t+3):=Lk.put hg X rfl _ a6 r u D q.1 q.2.1 q.2.2.1 q.2.2.2 (by
    rw[K,j,<- a4,Gt];simp only[Zp,GI,Vq]) O (fun n=>Mq s [x] n) (fun i=>by
     rw[o];by_cases hi:i<=y.F.length
     .rw[GO hi];exact h.yD i
     .rw[Gx (by simp;omega)];exact b1) (by rw[o,a0];simp)
   have b8:Jl {E with size:=E.size+(zj x).size} (l.put g ((zj x).data.toList.take k) r u D) {C with G:=G++[(m,g,(s++[x],[]))]}:=by
    refine⟨?_,fun b9=>hL.2 b9⟩;show _=JM.on _ (G++[(m,g,(s++[x],[]))]) _;rw[JM.yr];obtain⟨jl,c9,jn,js,jt,jd⟩:=E;simp only at v A Q N |-;subst v A Q N;simp[Zp,Vq,a4]
   rw[EN j] at B;by_cases V:I=0
   .rw[GA V]
    rw[V] at c;exact⟨true,none,_,_,_,rfl,Y,by rw[GA rfl];exact o,a8 _,c,a3,a2,a1,R,(by intro e;cases e),fun _=>⟨rfl,b8,b3,Int.lt_add_one_of_le ha.2.le⟩⟩
   .rw[Gl V,GA B]
    have a7:zJ I=some I:=by unfold zJ;rw[Gl V]
    rw[a7] at c;exact⟨true,some I,_,_,_,rfl,Y,by rw[GA rfl];exact o,a8 _,c,a3,a2,a1,R,fun e=>a9 (GG e),fun e=>by cases e⟩
  .have V:¬I=0:=fun V=>j (b7 V)
   rw[Fp j] at B;have a7:zJ I=some I:=by unfold zJ;rw[Gl V]
   rw[a7] at c;have O:WF (s,(zj x).data.toList.take k):=⟨b2,zn x,by rw[WC];exact CI _ _,fun e=>by
    have:=FW List.length e;rw[Gd,<- WC,a4] at this;omega,hx.2⟩
   have o:({C with G:=G++[(m,g,(s,(zj x).data.toList.take k))]}:Lay).F=y.F:=by
    rw[hF,<- b0]
   have Y:Lg (l.put g ((zj x).data.toList.take k) r u D) {C with G:=G++[(m,g,(s,(zj x).data.toList.take k))]} p (t+3):=Lk.put hg X rfl _ a6 r u D q.1 q.2.1 q.2.2.1 q.2.2.2 (by
    rw[K];rfl) O (fun n=>Gb _) (by rw[o];exact h.yD) (by rw[o,a0];omega)
   rw[Gl V,Gl (by rw[B];decide)];exact⟨false,some I,_,_,_,rfl,Y,by simp[o],a8 _,c,a3,a2,a1,R,fun e=>a9 (GG e),fun e=>by cases e⟩
theorem J0{J:JM}{M:DM}{y:Lay}{p t:Nat}(h:Lg M y p t)(o:Jl J M y)(ht:t+2<=1000000) :
 ∃ e K j G,J.AW M=(e,K,j)/\Lg j G p (t+2)/\G.F=y.F/\(∀ q,Mo M y q->Mo j G q)/\Ans M j e/\Alike M j/\e≠some 10/\K.limit=J.limit/\(e=none->Jl K j G/\Lg j G y.F.length (t+2)):=by
 obtain⟨V,r,hs,i,I,c,C,E,v,f,R⟩:=XQ h o.1 (by omega);unfold JM.AW;rw[hs];cases V with
 | some x =>
  rw[Gl (by rintro⟨a,_⟩;cases a)];exact⟨some x,J,r,y,rfl,i.more (by omega),rfl,fun q m=>m.up (Ext.refl y) (fun g _=>f g),I,c,C,rfl,fun e=>by cases e⟩
 | none =>
  have A:=R rfl;have b:left r y y.G.length=y.F.length:=by rw[A.left i,IL]
  by_cases O:J.last≠0/\J.AE=false
  .rw[GA ⟨rfl,O⟩]
   unfold JM.AO;rcases Tj i.bd (by omega) (by decide) with⟨L,k⟩|⟨d,L,k⟩
   .simp only[L]
    refine⟨none,_,r.yN,y.trim,rfl,Lg.yN i i.yk,Lay.xq y,fun q m=>m.trim (fun g _=>f g),I.trans (Ans.ok k rfl rfl rfl),⟨c.dir,c.ids,c.room,c.part,c.yj⟩,(by intro e;cases e),rfl,fun _=>⟨⟨?_,fun _=>⟨rfl,rfl⟩⟩,Lg.yN i (Ex b.symm)⟩⟩;have S:=o.1;show({J with AE:=_}:JM)=JM.on J.limit y.trim.G _;rw[h.xU,<- JM.xP J.limit y.G J.AE,<- S]
   .simp only[L]
    exact⟨some 9,_,r.no d,y,rfl,Lg.no i d,rfl,fun q m=>m.up (Ext.refl y) (fun g _=>f g),I.trans (Ans.no k rfl rfl),⟨c.dir,c.ids,c.room,c.part,c.yj⟩,(by intro e;cases e),rfl,fun e=>by cases e⟩
  .rw[Gl (fun x=>O x.2)]
   refine⟨none,J,r,y,rfl,i.more (by omega),rfl,fun q m=>m.up (Ext.refl y) (fun g _=>f g),I,c,C,rfl,fun _=>⟨⟨o.1,fun Q=>by rw[E,v,c.dir];exact o.2 Q⟩,?_⟩⟩;have l:=i.more (show t+1<=t+2 by omega);refine {l with yl:=fun D N=>?_};by_cases T:J.last=0
   .have hnil:y.G=[]:=by
     rcases FG y.G with u|⟨pr,s,u⟩
     .exact u
     .rw[FH] at u
      have B:=o.1;rw[u,JM.yr] at B;have:=(h.pos s (by rw[u];simp)).1;rw[B] at T;simp only at T;omega
    obtain⟨z,hz,_⟩:=l.yl D N;refine⟨z,hz,?_⟩;rw[<- b,hnil];exact UN (Gz _)
   .have hds:J.AE=true:=by
     cases Q:J.AE with
     | true=>rfl
     | false=>exact absurd ⟨T,Q⟩ O
    obtain⟨X,Y⟩:=o.2 hds;rw[E,v,X,Y,Gg] at N;subst N;rw[<- c.dir];exact⟨_,l.now,Ex b.symm⟩
end Go.Proofs.YtkhnggkkiefcdaaGreatDoor
