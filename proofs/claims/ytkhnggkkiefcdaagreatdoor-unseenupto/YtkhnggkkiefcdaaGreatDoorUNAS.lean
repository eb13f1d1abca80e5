/- larder: joined texts -/
import Derived.Test.YtkhnggkkiefcdaaGreatDoorUNAQ
import Derived.Test.YtkhnggkkiefcdaaGreatDoorUNAR
import Derived.StillTailTactics
namespace Go.Proofs.YtkhnggkkiefcdaaGreatDoor
open Go.RowKit
set_option maxRecDepth 100000
set_option maxHeartbeats 8000000
theorem VM{c w:World}{b i g s:Nat}{m L:DL}{M:DM}{D S:Dir}{k:Nat}{a:List (Nat × Nat)}{x u:Value}{q:Nat->Value}{p t:Dir}{o:List Dir}(h:DRep c b m M)
 (r:M.ids.length<=100000000000)(j:∀ f,f∈M.ids->(M.file f).bytes.length<=1000000000000)(C:zN c w i g s M D S k a x u q L p t o)
 (v:Value)(d:Dir)(A:c.ownsRow 0 148 2 v d.length (flat d))(E:∀ e,e∈d->e.2∈M.ids)(B:d.length<=100000000000) :
 Calls Tryz.prog 99 #[v,.pointer (some ⟨i,0,none⟩),.pointer (some ⟨g,0,none⟩)] w fun e y =>
  ∃ l,e=.returned l/\Nu c w y i g s M D S k a L p t o d l:=by
 have I:a.length<=M.ids.length:=by
  have:=T9 (a.map Prod.fst) M.ids C.T.n1 C.T.ids;rw[IE] at this;exact this
 refine(OI c w b i g m M a x u q h C.T v d A E (by omega) j).mono ?_;rintro e y ⟨l,rfl,G⟩;exact⟨l,rfl,C.other G⟩
structure First(w w3:World)(b bo bm nb:Nat)(L:DL)(M:DM)(l1:Value):Prop where
 ex:∃ ps vo vm fV d1,zN w w3 bo bm nb M [] [] 0 ps vo vm fV DL.new [] [] []/\Rel ps M.dir d1/\w3.ownsRow 0 148 2 l1 d1.length (flat d1)/\(∀ j,l1.ownBlock=some j->w.heap.size<=j)
 c0:w3.cell? ⟨b,0,none⟩=some L.BN
 c1:w3.cell? ⟨b,1,none⟩=some L.BB
structure Second(w w4:World)(b bo bm nb:Nat)(L:DL)(M:DM)(l1 l2:Value):Prop where
 ex:∃ ps vo vm fV d1 s1,zN w w4 bo bm nb M [] [] 0 ps vo vm fV DL.new [] [] []/\Rel ps M.dir d1/\Rel ps M.safe s1/\w4.ownsRow 0 148 2 l1 d1.length (flat d1)/\w4.ownsRow 0 148 2 l2 s1.length (flat s1) /\
  (∀ j,l1.ownBlock=some j->w.heap.size<=j)/\(∀ j,l2.ownBlock=some j->w.heap.size<=j)
 c0:w4.cell? ⟨b,0,none⟩=some L.BN
 c1:w4.cell? ⟨b,1,none⟩=some L.BB
 n:∀ k,w4.cell? ⟨nb,k,none⟩=(M.cells DL.new)[k]?
 nf:∀ k,w4.frozen? ⟨nb,k,none⟩=false
theorem MB{w W:World}{b g d s:Nat}{L:DL}{M:DM}{y:List (Nat × Nat)}{E B:Value}{u:Nat->Value}(h:DRep w b L M)
 (c:M.ids.length<=100000000000)(k:∀ f,f∈M.ids->(M.file f).bytes.length<=1000000000000)(j:M.dir.length<=100000000000)(C:zN w W g d s M [] [] 0 y E B u DL.new [] [] []) :
 Calls Tryz.prog 99 #[L.BN,.pointer (some ⟨g,0,none⟩),.pointer (some ⟨d,0,none⟩)] W fun e t =>
  ∃ a n,e=.returned (.slice a M.dir.length n)/\First w t b g d s L M (.slice a M.dir.length n):=by
 refine(VM h c k C L.BN M.dir h.dir h.Ad j).mono ?_;rintro e t ⟨l,rfl,o⟩;obtain⟨A,G,D,v,I,m,_,r,q,x⟩:=o.ex;obtain⟨a,n,p⟩:=zg q;rw[r.len] at p;subst p;have i:=(h.Bi.fr m.T.fr id).cell;simp only[DM.cells] at i;exact⟨a,n,rfl,⟨_,_,_,_,_,m,r,q,x⟩,i 0,i 1⟩
theorem OJ{w x W:World}{b i g v:Nat}{L:DL}{M:DM}{u:Value}(h:DRep w b L M)
 (c:M.ids.length<=100000000000)(m:∀ f,f∈M.ids->(M.file f).bytes.length<=1000000000000)(k:M.safe.length<=100000000000)(F:First w x b i g v L M u)(f:Fr Nil x W) :
 Calls Tryz.prog 99 #[L.BB,.pointer (some ⟨i,0,none⟩),.pointer (some ⟨g,0,none⟩)] W fun e y =>
  ∃ a n,e=.returned (.slice a M.safe.length n)/\Second w y b i g v L M u (.slice a M.safe.length n):=by
 obtain⟨Q,T,R,O,N,C,G,q,p⟩:=F.ex;refine(VM h c m (C.BS f) L.BB M.safe h.safe h.AW k).mono ?_;rintro e y ⟨l,rfl,o⟩;obtain⟨E,J,I,A,K,d,D,r,t,B⟩:=o.ex;obtain⟨a,n,s⟩:=zg t;rw[r.len] at s;subst s;have j:=(h.Bi.fr d.T.fr id).cell;simp only[DM.cells] at j;exact⟨a,n,rfl,⟨_,_,_,_,_,_,d,G.more D,r,o.row _ _ _ _ _ (ze q f (fun _ _=>id)) (by decide) (by decide),t,p,B⟩,j 0,j 1,d.Bi.cell,d.Bi.frozen⟩
theorem Second.lists{w m:World}{b q o a:Nat}{L:DL}{M:DM}{c d:Value}(h:Second w m b q o a L M c d) :
 ∃ g l k f e i,zN w ((m.setCell ⟨a,0,none⟩ c).setCell ⟨a,1,none⟩ d) q o a M M.dir M.safe 0 g l k f {DL.new with BN:=c,BB:=d} e i []:=by
 obtain⟨g,l,k,f,e,i,C,v,x,r,s,t,u⟩:=h.ex;refine⟨g,l,k,f,e,i,C.lists ?_ ?_ r s v x t u⟩
 .exact Fr.set (S:=fun j=>j=a) (p:=⟨a,1,none⟩) (Fr.set (S:=fun j=>j=a) (p:=⟨a,0,none⟩) (U _ m) (fun _=>rfl) c) (fun _=>rfl) d
 .exact(C.Bi.set 0 c).set 1 d
structure Change(w W w5:World)(bo bm nb:Nat)(M:DM)(k:Nat)(hk:k<M.Bl.length)(L1:DL)(d1 s1:Dir)(c1:List Dir)(l:Value):Prop where
 ex:∃ ps vo vm fV d',zN w w5 bo bm nb M M.dir M.safe k ps vo vm fV L1 d1 s1 c1/\Rel ps M.Bl[k] d'/\w5.ownsRow 0 148 2 l d'.length (flat d')/\(∀ j,l.ownBlock=some j->w.heap.size<=j)
 Bi:∀ (g:Nat) (c:List Value) (e:TypeId),Blk W g c e->e≠168->e≠146->Blk w5 g c e
theorem OK{w B W:World}{b g d y:Nat}{L q:DL}{M:DM}{k:Nat}{N:List (Nat × Nat)}{T Q v:Value}{G:Nat->Value}{t A:Dir}{s:List Dir}(h:DRep w b L M)
 (c:M.ids.length<=100000000000)(j:∀ f,f∈M.ids->(M.file f).bytes.length<=1000000000000)(m:k<M.Bl.length)(p:k<L.BH.length)(i:M.Bl[k].length<=100000000000)
 (C:zN w B g d y M M.dir M.safe k N T Q G q t A s)(K:L.BH[k]=v)(f:Fr Nil B W) :
 Calls Tryz.prog 99 #[v,.pointer (some ⟨g,0,none⟩),.pointer (some ⟨d,0,none⟩)] W fun e D =>
  ∃ a n,e=.returned (.slice a M.Bl[k].length n)/\Change w W D g d y M k m q t A s (.slice a M.Bl[k].length n):=by
 subst K;refine(VM h c j (C.BS f) L.BH[k] M.Bl[k] (h.Bl k p m) (h.AU _ (Iu m)) i).mono ?_;rintro e D ⟨l,rfl,o⟩;obtain⟨O,V,R,I,X,E,_,r,x,J⟩:=o.ex;obtain⟨a,n,u⟩:=zg x;rw[r.len] at u;subst u;exact⟨a,n,rfl,⟨_,_,_,_,_,E,r,x,J⟩,o.Bi⟩
theorem Change.row{w W c b:World}{e d q:Nat}{M:DM}{k:Nat}{j:k<M.Bl.length}{a:DL}{i r:Dir}{h:List Dir}{l v:Value}(X:Change w W c e d q M k j a i r h l)(o:a.Au=v)(f:Fr Nil c b) :
 b.ownsRow 0 145 1 v k a.BH:=by
 subst o;obtain⟨_,_,_,_,_,C,_⟩:=X.ex;exact ze C.ch f (fun _ _=>id)
theorem Change.cell{w W e:World}{o g c:Nat}{M:DM}{k:Nat}{y:k<M.Bl.length}{a:DL}{r B:Dir}{q:List Dir}{l v:Value}(X:Change w W e o g c M k y a r B q l)(A:a.Au=v) :
 e.cell? ⟨c,2,none⟩=some v:=by
 subst A;obtain⟨_,_,_,_,_,C,_⟩:=X.ex;exact C.Bi.cell 2
theorem Change.lt{w W c:World}{q o a:Nat}{M:DM}{k:Nat}{y:k<M.Bl.length}{h:DL}{t A:Dir}{r:List Dir}{l:Value}(X:Change w W c q o a M k y h t A r l):a<c.heap.size:=by
 obtain⟨_,_,_,_,_,C,_⟩:=X.ex;exact C.Bi.lt
theorem Change.push{w W q s a:World}{x t d g:Nat}{M:DM}{k:Nat}{A:k<M.Bl.length}{b:DL}{N s1:Dir}{K:List Dir}{l v D:Value}{c:List Value}(X:Change w W q x t d M k A b N s1 K l)(Y:b.Au=v)(f:Fr Nil q s)
 (m:App s v 145 1 (k+1) (b.BH++[l]) D a)(Q:Blk q g c 145)(R:∀ j,b.Au.ownBlock=some j->j<g) :
 (∃ B I E y J O s2 L,zN w (a.setCell ⟨d,2,none⟩ D) x t d M M.dir M.safe (k+1) B I E y J O s2 L)/\(∀ i,a.cell? ⟨d,i,none⟩=(M.cells b)[i]?)/\(∀ i,a.frozen? ⟨d,i,none⟩=false) /\
   (∀ i,a.cell? ⟨g,i,none⟩=c[i]?):=by
 subst Y;obtain⟨B,I,E,y,d',C,r,V,T⟩:=X.ex;have h:Blk a d (M.cells b) 143:=(C.Bi.fr f id).fr m.fr (zi (ze C.ch f (fun _ _=>id)) (C.Bi.fr f id) (by decide));have o:Blk a g c 145:=(Q.fr f id).fr m.fr (fun e=>by have:=R g e;omega);exact⟨⟨_,_,_,_,_,_,_,_,C.push A f m V r T⟩,h.cell,h.frozen,o.cell⟩
theorem OL(w:World)(M:DM) :
 zN w (((w.alloc (.cells (M.cells DL.new).toArray 143)).alloc (.cells #[.slice none 0 0] 168)).alloc (.cells #[.slice none 0 0] 168)).drew (w.heap.size+1) (w.heap.size+1+1) w.heap.size M [] [] 0 [] (.slice none 0 0) (.slice none 0 0) DL.new.fV DL.new [] [] []:=by
 have f:Fr Nil w (((w.alloc (.cells (M.cells DL.new).toArray 143)).alloc (.cells #[.slice none 0 0] 168)).alloc (.cells #[.slice none 0 0] 168)).drew:=(by repeat' first|exact U _ _|(with_reducible assumption)|refine Fr.drewN ?_ _|refine Fr.drew ?_|refine Fr.alloc ?_ _|refine Fr.set ?_ ?_ _|(intro _;rfl));have c:(w.alloc (.cells (M.cells DL.new).toArray 143)).heap.size=w.heap.size+1:=by simp
 have d:((w.alloc (.cells (M.cells DL.new).toArray 143)).alloc (.cells #[.slice none 0 0] 168)).heap.size=w.heap.size+1+1:=by simp
 have a:=((Blk.new (w.alloc (.cells (M.cells DL.new).toArray 143)) [.slice none 0 0] 168).alloc (.cells #[.slice none 0 0] 168)).drew;have b:=(Blk.new ((w.alloc (.cells (M.cells DL.new).toArray 143)).alloc (.cells #[.slice none 0 0] 168)) [.slice none 0 0] 168).drew;have e:=(((Blk.new w (M.cells DL.new) 143).alloc (.cells #[.slice none 0 0] 168)).alloc (.cells #[.slice none 0 0] 168)).drew;rw[c] at a;rw[d] at b;exact zN.start M (Twin.start M a b (by omega) (by omega) (by omega) f _) e (Io _)
set_option maxRecDepth 100000 in
theorem MC(w:World)(b:Nat)(L:DL)(M:DM)(h:DRep w b L M)(l:M.ids.length<=100000000000)(a3:∀ d,d∈M.dir::M.safe::M.Bl->d.length<=100000000000)(d0:M.Bl.length<=1000000000000)
 (G:∀ f,f∈M.ids->(M.file f).bytes.length<=1000000000000) :
 Calls Tryz.prog 54 #[.pointer (some ⟨b,0,none⟩)] w (Px w M):=by
 have hc:=h.Bi.cell;simp only[DM.cells] at hc;obtain⟨ca,cc,a0⟩:=zg h.ch;have d3:=h.Bi.lt;have d4:∀ (fn:Fn) (first R:Array Value) (w:World),(Instr.makeFunc fn first R).run Tryz.prog w=.ok (.func fn first R) w:=fun _ _ _ _=>rfl;have c2:¬b=w.heap.size:=by omega
 have c3:¬w.heap.size=b:=by omega
 have D:=OL w M;simp only[DM.cells,DL.new] at D;have O:=Z D;have m:=Z h;have A:=Z a0;have B:=Z a3;clear h a0 a3 D;go_enter Tryz.func54,Tryz.ntmps54
 go_wp2
 refine GD 33 (by kernel_rfl) (by kernel_rfl) ?_;simp only[Hv,Gs,GC,Gr]
 iterate 33 still_step
 refine FX ?_
 go_wp2
 obtain⟨W2,X⟩:∃ W2,(((w.alloc (.cells #[.slice none 0 0,.slice none 0 0,.slice none 0 0,.int .i64 M.room,.int .i64 M.calls,.int .i64 M.cut,.int .i64 M.fail,.int .i64 M.part,.int .i64 M.refused,.int .i64 M.Bo,.bool M.dead] 143)).alloc (.cells #[.slice none 0 0] 168)).alloc (.cells #[.slice none 0 0] 168)).drew=W2:=⟨_,rfl⟩;have p:=O.out;rw[X] at p |-;have q:=(m.out.Bi.fr p.T.fr id).cell;simp only[DM.cells] at q;have r:=q 0;have s:=q 1;simp at r s;have Q:=Z p;clear p X hc O q
 go_region_held3 (fun w'=>w'.cell? ⟨b,0,none⟩=some L.BN/\w'.cell? ⟨b,1,none⟩=some L.BB) (first|go_keep|exact⟨‹_›,‹_›⟩)
  (first
  | (go_at_call 99;refine(OJ m.out l G (B.out _ (Iq _ (Is ..))) HF.out zd).mono ?_;rintro e w4 ⟨a2,n2,rfl,N⟩;have c7:=N.c0;have c8:=N.c1;have a7:=N.n;have b7:=N.nf;simp only[DM.cells,DL.new] at a7;have HS:=Z N;clear N)
  | (go_at_call 99;refine(MB m.out l G (B.out _ (Is ..)) (Q.out.BS zd)).mono ?_;rintro e w3 ⟨a1,n1,rfl,hF⟩;have c4:=hF.c0;have c5:=hF.c1;have HF:=Z hF;clear hF))
 have hL:=HS.out.lists;obtain⟨W5,Y⟩:∃ W5,((w4.setCell ⟨w.heap.size,0,none⟩ (.slice a1 M.dir.length n1)).setCell ⟨w.heap.size,1,none⟩ (.slice a2 M.safe.length n2))=W5:=⟨_,rfl⟩;rw[Y] at hL |-;obtain⟨ps,vo,vm,fV,d1,s1,C⟩:=hL;have a:=(m.out.Bi.fr C.T.fr id).cell;simp only[DM.cells] at a;have i:=a 2;simp at i;rw[A.out] at i;have b2:=Z C;clear C a Y HS HF Q a7 b7 r s;go_wp2_with fail
 go_loopw [67] (fun c w'=>∃ k:Nat,k<=M.Bl.length/\c=.int .i64 k/\∃ ps vo vm fV L1 d1 s1 c1,zN w w' (w.heap.size+1) (w.heap.size+1+1) w.heap.size M M.dir M.safe k ps vo vm fV L1 d1 s1 c1) (fun c _=>M.Bl.length-(intOf c).toNat)
 case atStart=>exact⟨0,II _,rfl,_,_,_,_,_,_,_,_,b2.out⟩
 case round =>
  obtain⟨K,rfl⟩:∃ x,x=wr:=⟨wr,rfl⟩;obtain⟨k,hk,rfl,ps,vo,vm,fV,L1,d1,s1,c1,C⟩:=hrel;have y:=Z C;clear C i;by_cases J:k<M.Bl.length
  .obtain⟨cg,hcg⟩:∃ g,ca=some ⟨g,0,none⟩:=by
    obtain⟨g,c',h',_⟩:=zv m.out.ch (by omega);rw[A.out] at h';simp at h';exact⟨g,h'.1⟩
   subst hcg;have I:k<L.BH.length:=by rw[m.out.Ar];exact J
   obtain⟨ea,ec,E⟩:=zg (m.out.Bl k I J);have c9:K.cell? ⟨cg,k,none⟩=some (.slice ea M.Bl[k].length ec):=by
    have:=ze m.out.ch y.out.T.fr (fun _ _=>id);rw[A.out] at this;rw[<- E];exact own_cell? this k _ (by simp[I])
   have b6:=B.out M.Bl[k] (by simp);obtain⟨na,nc,b0⟩:=zg y.out.ch;have o:=Z b0;have b4:=Z E;have b5:Hid (∀ W',Fr Nil K W'->W'.cell? ⟨w.heap.size,2,none⟩=some (.slice na k nc)):=fun W' hf=>by
    have:=(y.out.Bi.fr hf id).cell 2;simp[DM.cells] at this;rw[o.out] at this;exact this
   clear b0 E;have d5:=y.out.Bi.lt;have d6:¬K.heap.size=w.heap.size:=by omega
   have d7:¬w.heap.size=K.heap.size:=by omega
   have HG:Hid (∀ j,L1.Au.ownBlock=some j->j<K.heap.size):=fun j hj=>own_lt y.out.ch hj;go_wp2_with fail;have a9:=b5.out _ (Fr.alloc (U _ _) (.cells #[.slice ea M.Bl[k].length ec] 145));have t:=(Blk.new K [.slice ea M.Bl[k].length ec] 145).cell 0;simp at t
   go_region_law
    (first
    | (refine ZS (by rfl) _ _ _ _ (by rfl) _ _ (by rfl) (by rfl) (zt 141 _ 145 1 24 Tryz.underlying141 UF (by decide) _ _ _ (HX.out.row o.out zd)
        ⟨w5.heap.size,0,none⟩ 1 1 [.slice a5 M.Bl[k].length n5] rfl (Yq _ _ _ _ (by simp)) (by intro u hu;simp at hu;subst hu;rfl) (by unfold maxLen;omega) (by omega)) ?_;intro v6 w6 ha;obtain⟨a6,c6,c0⟩:=zg ha.own;subst c0
       obtain⟨V,a8,b8,a4⟩:=HX.out.push o.out zd ha b1.out HG.out;have v:=a4 0;simp at v;simp only[DM.cells] at a8;have b3:=Z V;clear a4 ha V)
    | (go_simp;go_at_call 99;refine(OK m.out l G J I b6 y.out b4.out zd).mono ?_;rintro e w5 ⟨a5,n5,rfl,hX⟩
       have a:=hX.Bi _ _ _ ((Blk.new K [.slice ea M.Bl[k].length ec] 145).fr (S:=Nil) zd id) (by decide) (by decide);have T:=a.cell 0;simp at T;have b9:=hX.cell o.out;have d2:w.heap.size<w5.heap.size:=hX.lt;have HX:=Z hX;have b1:=Z a;clear hX a))
   all_goals
    (clear a8 b8 v b9 T t a9
     go_wp2
     exact⟨⟨k+1,by omega,by go_num,b3.out⟩,by simp[intOf];omega⟩)
  .have hkn:k=M.Bl.length:=by omega
   subst hkn
   go_wp2
   go_ret;exact y.out.said m.out.le
def Vl(file:Nat->FM)(e:Ent):Ent:=(e.1,e.2.1,YQ e.2.2 (file e.2.1).safe)
def Lay.Bw(y:Lay)(z:Dl)(file:Nat->FM):Lay:={F0:=y.pre z.i,G:=((y.G.take z.j).drop z.i).map (Vl file),new:=z.new,BC:=z.BC,base:=z.base,i:=0}
theorem Wu(file:Nat->FM):∀ (A:List Ent),(∀ e∈A.dropLast,(YQ e.2.2 (file e.2.1).safe).1=e.2.2.1)->zq (A.map (Vl file))<+:zq A
 | [],_=>List.prefix_refl _
 | [e],_=>by
  simp only[zq,IJ,Gm,Ft,List.flatten_nil,IV,Vl];exact Ds _ _
 | e::a::A,h=>by
  have c:=h e (by simp[List.dropLast]);have d:=Wu file (a::A) (fun x f=>h x (by rw[List.dropLast_cons_cons];exact Iq _ f));have b:zq ((e::a::A).map (Vl file))=e.2.2.1++zq ((a::A).map (Vl file)):=by
   rw[IJ];show(Vl file e).2.2.1++_=_;rw[show(Vl file e).2.2.1=e.2.2.1 from c]
   rfl
  rw[b];show _<+:e.2.2.1++zq (a::A);exact(Es _).2 d
theorem Lk.Bw{M:DM}{y:Lay}{p t:Nat}(h:Lg M y p t)(C:Int)(o:List Int) :
 ∃ y',Lg (M.Bw C o) y' y'.F.length t/\y'.F<+:y.F/\p<=y'.F.length:=by
 have hD:=Pn M C;obtain⟨D,a4⟩:∃ D,D=M.BZ C:=⟨_,rfl⟩;obtain⟨z,q,a5⟩:=h.BR _ hD;have a1:=h.bd.BT _ hD;rw[<- a4] at q a1;obtain⟨_,_,_,_,_,_,hn⟩:=q.BP h.Aa;have R:=q.once;obtain⟨file,u⟩:∃ file,file=zm D o M.file D.names.length:=⟨_,rfl⟩;have hf:∀ e∈D,∃ c,file e.2=ZO (M.file e.2) c:=fun e d=>by rw[u];exact Mx hn R o M.file d
 have hM:M.Bw C o={M with dir:=D,safe:=D,Bl:=[],file:=file,dead:=false,cut:=0,fail:=0}:=by rw[u,a4];rfl
 rw[hM];have b5:∀ g,(file g).bytes.length<=(M.file g).bytes.length:=fun g=>by rw[u];exact Vj D o M.file _ g
 obtain⟨A,J⟩:∃ A,A=(y.G.take z.j).drop z.i:=⟨_,rfl⟩;have s:∀ e∈A,e∈y.G:=fun e d=>by rw[J] at d;exact He (IK d)
 have a3:A.Sublist y.G:=by rw[J];exact(Ey _ _).trans (List.take_sublist _ _)
 have X:∀ e∈A,ZP e∈D:=fun e d=>by
  rw[q.perm.mem_iff];unfold Dl.dir;rw[<- J];simp only[Ir,Iy];exact .inl (.inr ⟨e,d,rfl⟩)
 have a8:=q.ij;have hj:=q.j
 -- a segment that is left
 have Q:∀ e∈A,(M.file e.2.1).safe<=(file e.2.1).safe/\(file e.2.1).safe<=(M.file e.2.1).bytes.length/\(file e.2.1).bytes=(M.file e.2.1).bytes.take (file e.2.1).safe/\(file e.2.1).safe=(file e.2.1).bytes.length:=fun e d=>by
  obtain⟨c,hc⟩:=hf _ (X e d);have a0:file e.2.1=ZO (M.file e.2.1) c:=hc;have G:=h.le e (s e d);have O:=Yy c ((M.file e.2.1).bytes.length-(M.file e.2.1).safe);rw[a0];unfold ZO;refine⟨by simp only;omega,by simp only;omega,rfl,?_⟩;simp only[Ip];omega
 -- a base is left as it is
 have b3:∀ b,z.base=some b->(file b.2.1).bytes=(M.file b.2.1).bytes/\(file b.2.1).safe=(file b.2.1).bytes.length:=fun b hb=>by
  obtain⟨c,hc⟩:=hf _ (q.mem hb);have a0:file b.2.1=ZO (M.file b.2.1) c:=hc;have hs:=(q.base b hb).safe;have O:=Yy c ((M.file b.2.1).bytes.length-(M.file b.2.1).safe);rw[a0];unfold ZO;have e:(M.file b.2.1).safe+zY c ((M.file b.2.1).bytes.length-(M.file b.2.1).safe)=(M.file b.2.1).bytes.length:=by omega
  simp only[e,ID];exact⟨trivial,trivial⟩
 have T:∀ e∈A.dropLast,(YQ e.2.2 (file e.2.1).safe).1=e.2.2.1:=fun e d=>by
  have a6:=FY _ d;have b4:e∈y.G.dropLast:=by
   obtain⟨n,hn,rfl⟩:=IP.1 d;rw[EF] at hn;have b9:A.length=z.j-z.i:=by rw[J,Iw,Ip];omega
   refine IP.2 ⟨z.i+n,by rw[EF];omega,?_⟩;rw[Eu,Eu];simp[J]
  obtain⟨c1,c2,c3,c4⟩:=Q e a6;have c0:=h.full e b4;have b0:=h.bytes e (s e a6);unfold YQ;simp only;rw[Ss (by rw[<- b0];omega),ID]
 have K:(y.Bw z file).F<+:y.F:=by
  show y.pre z.i++zq (((y.G.take z.j).drop z.i).map (Vl file))<+:y.F;rw[<- J];have G:y.pre z.i++zq A<+:y.F:=by
   have e1:y.pre z.i++zq A=y.pre z.j:=by
    unfold Lay.pre;rw[J,IA,<- Zg]
    congr 2
    conv=>rhs;rw[<- IG z.i (y.G.take z.j),Fh,Hx a8]
   rw[e1];exact Yz y z.j
  exact((Es _).2 (Wu file A T)).trans G
 have I:(y.Bw z file).G=A.map (Vl file):=by show((y.G.take z.j).drop z.i).map _=_;rw[J]
 have a9:left M y z.j<=(y.Bw z file).F.length:=by
  have e1:(y.Bw z file).F.length=(y.pre z.i).length+(A.map fun e=>(YQ e.2.2 (file e.2.1).safe).1.length).sum:=by
   show(y.pre z.i++zq (y.Bw z file).G).length=_;rw[I,Il,YZ,Gi]
   rfl
  rw[e1];have e2:left M y z.j=left M y z.i+(A.map fun e=>cnt e.2.2.1 (M.file e.2.1).safe).sum:=by
   unfold left;have:y.G.take z.j=y.G.take z.i++A:=by
    rw[J]
    conv=>lhs;rw[<- IG z.i (y.G.take z.j),Fh,Hx a8]
   rw[this,IL,Fx];omega
  rw[e2];have G:left M y z.i<=(y.pre z.i).length:=by
   unfold left Lay.pre;rw[Il,YZ];have:=YD ((y.G.take z.i).map fun e=>cnt e.2.2.1 (M.file e.2.1).safe) ((y.G.take z.i).map fun e=>e.2.2.1.length) ((y.G.take z.i).length) (fun i R=>by
    have G:i<(y.G.take z.i).length:=by simpa using R
    refine⟨by simpa using G,?_⟩;rw[IR,IR];exact Up _ _)
   rw[IH (Fw (IE _)),IH (Fw (IE _))] at this;omega
  have O:=YD (A.map fun e=>cnt e.2.2.1 (M.file e.2.1).safe) (A.map fun e=>(YQ e.2.2 (file e.2.1).safe).1.length) A.length (fun i R=>by
   have G:i<A.length:=by simpa using R
   refine⟨by simpa using G,?_⟩;rw[IR,IR];obtain⟨c1,_,_,_⟩:=Q A[i] (Iu _);unfold YQ;simp only;rw[Ip,Hx (Up _ _)];exact T7 _ c1)
  rw[IH (Fw (IE _)),IH (Fw (IE _))] at O;omega
 have Y:∀ e∈A,(file e.2.1).bytes=Zv (YQ e.2.2 (file e.2.1).safe):=fun e d=>by
  obtain⟨_,_,c3,_⟩:=Q e d;rw[(UO (h.ok _ (s e d)) _).1,<- h.bytes e (s e d)];exact c3
 have j:∀ l∈(y.Bw z file).G,∃ e∈A,l=Vl file e:=fun l f=>by
  rw[I] at f;obtain⟨e,d,rfl⟩:=Iy.1 f;exact⟨e,d,rfl⟩
 have L:∀ i,(y.Bw z file).pre 0=y.pre z.i/\(i:Nat)=i:=fun i=>⟨by
  show y.pre z.i++zq ((y.Bw z file).G.take 0)=_;rw[Gs];show y.pre z.i++[]=_;rw[IV],rfl⟩
 have b7:(y.Bw z file).G.length=z.j-z.i:=by rw[I,IE,J,Iw,Ip];omega
 have b6:∀ e∈A,z.new≠some e.2.1:=fun e d b8=>by
  have G:(zf,e.2.1)∈D:=by
   rw[q.perm.mem_iff];unfold Dl.dir;simp only[Ir,Iy,zM];exact .inr ⟨e.2.1,b8,rfl⟩
  have O:=St R G (X e d) rfl;exact X8 false e.1 (Fg Prod.fst O).symm
 have V:Snd {M with dir:=D,safe:=D,Bl:=[],file:=file,dead:=false,cut:=0,fail:=0} (y.Bw z file) D (y.Bw z file).z:=by
  refine⟨?_,II _,Io _,q.low,q.nums,fun b hb=>?_,fun hb=>?_,R,q.Ad⟩
  .have e1:(y.Bw z file).z.dir (y.Bw z file).G=z.dir y.G:=by
    unfold Dl.dir;show _++_++(((y.Bw z file).G.take (y.Bw z file).G.length).drop 0).map ZP++_=_;rw[ID,Gr,I,J,Gi]
    rfl
   rw[e1];exact q.perm
  .have hb':z.base=some b:=hb
   have k:=q.base b hb';obtain⟨b1,b2⟩:=b3 b hb';have c5:=k.lt;refine⟨?_,k.one,fun e d=>?_,fun l f=>?_,b1.trans k.bytes,b2,fun l f=>?_,fun e=>?_,k.ok,?_,k.An,?_⟩
   .show 0<(y.Bw z file).G.length
    rw[b7];omega
   .have f:e∈(y.Bw z file).G.take 0:=d
    rw[Gs] at f;cases f
   .have he2:l∈(y.Bw z file).G.drop 0:=f
    rw[Gr] at he2;obtain⟨e,d,rfl⟩:=j l he2;refine k.hi e ?_;rw[J,DP] at d;exact He d
   .obtain⟨e,d,rfl⟩:=j l f
    exact k.xr e (s e d)
   .have l:z.new=some b.2.1:=e
    have G:(zf,b.2.1)∈D:=by
     rw[q.perm.mem_iff];unfold Dl.dir;simp only[Ir,Iy,zM];exact .inr ⟨b.2.1,l,rfl⟩
    have O:=St R G (q.mem hb') rfl;exact X8 true b.1 (Fg Prod.fst O).symm
   .show _=((y.Bw z file).pre 0).foldl SM.enter SM.nil
    rw[(L 0).1];exact k.held
   .show _<=((y.Bw z file).pre 0).length+40
    rw[(L 0).1];exact k.len
  .have hb':z.base=none:=hb
   obtain⟨G,O⟩:=q.bare hb';refine⟨rfl,?_⟩;show y.pre z.i=[];rw[G];show y.F0++zq (y.G.take 0)=[];rw[O]
   rfl
 have B:Ux {M with dir:=D,safe:=D,Bl:=[],file:=file,dead:=false,cut:=0,fail:=0} (y.Bw z file):=fun l f=>by
  obtain⟨e,d,rfl⟩:=j l f;exact(Q e d).2.2.2
 have E:∀ e∈(y.Bw z file).G,(file e.2.1).bytes=Zv e.2.2:=fun l f=>by
  obtain⟨e,d,rfl⟩:=j l f;exact Y e d
 have a7:∀ i,(((y.Bw z file).F.take i).foldl SM.enter SM.nil).hints.length<=32:=fun i=>by
  obtain⟨r,hr⟩:=K;have:(y.Bw z file).F.take i=y.F.take (min i (y.Bw z file).F.length):=by
   rw[<- hr,Ha (Cp _ _),List.take_eq_take_min]
  rw[this];exact h.An _
 have a2:left {M with dir:=D,safe:=D,Bl:=[],file:=file,dead:=false,cut:=0,fail:=0} (y.Bw z file) (y.Bw z file).G.length=(y.Bw z file).F.length:=by
  unfold left Lay.F;rw[Il,YZ,ID]
  congr 2
  refine GN fun e d=>?_;show cnt e.2.2.1 (file e.2.1).safe=_;rw[show(file e.2.1).safe=(file e.2.1).bytes.length from B e d,E e d];exact Ss (Io _)
 refine⟨y.Bw z file,?_,K,Im a5 a9⟩;exact {
  bd:={
   c0:=h.bd.c0,calls:=h.bd.calls,f0:=h.bd.f0,fr:=h.bd.fr,rc:=h.bd.rc,r0:=h.bd.r0,r1:=h.bd.r1,part:=h.bd.part
   AG:=fun g hg=>Im (b5 g) (h.bd.AG g hg)
   AQ:=h.bd.AQ,AK:=h.bd.AK
   Ad:=q.Ad
   once:=R
   Bl:=II _
   BT:=fun x hx=>by
    have N:x∈[D]:=hx;rw[Iv] at N;subst N;exact a1
   dir:=a1}
  Aa:=by
   rw[I,Gp];exact h.Aa.sublist a3
  pos:=fun l f=>by
   obtain⟨e,d,rfl⟩:=j l f;exact h.pos e (s e d)
  gid:=by
   rw[I,Gi];exact(a3.map fun e=>e.2.1).nodup h.gid
  AC:=fun l f=>by
   obtain⟨e,d,rfl⟩:=j l f;exact h.AC e (s e d)
  Ak:=fun l f=>by
   obtain⟨e,d,rfl⟩:=j l f;exact b6 e d
  bytes:=E
  ok:=fun l f=>by
   obtain⟨e,d,rfl⟩:=j l f;exact(UO (h.ok _ (s e d)) _).2
  le:=fun e d=>Fw (B e d)
  full:=fun e d=>B e (FY _ d)
  An:=a7
  fl:=Im K.length_le h.fl
  now:=V
  BR:=fun x hx=>by
   have N:x∈[D]:=hx;rw[Iv] at N;subst N;exact⟨_,V,Fw a2.symm⟩
  cur:=Is ..
  live:=fun l f=>by
   obtain⟨e,d,rfl⟩:=j l f;exact⟨D,Is ..,X e d⟩}
def JM.on(limit:Nat)(G:List Ent)(ds:Bool):JM :=
 match G.getLast? with
 | .none=>{limit:=limit,last:=0,name:=ByteArray.empty,size:=0,At:=false,Bp:=ds}
 | .some e=>{limit:=limit,last:=e.1,name:=zu zL e.1,size:=(Zv e.2.2).length,At:=decide (0<e.2.2.2.length),Bp:=ds}
theorem JM.Ac(limit:Nat)(G:List Ent)(e:Ent)(ds:Bool):JM.on limit (G++[e]) ds={limit:=limit,last:=e.1,name:=zu zL e.1,size:=(Zv e.2.2).length,At:=decide (0<e.2.2.2.length),Bp:=ds}:=by
 unfold JM.on;simp
theorem JM.yP(a:Nat)(G:List Ent)(b:Bool):(JM.on a G b).limit=a:=by
 rcases Gy G with rfl|⟨r,s,rfl⟩
 .rfl
 .rw[Gz,JM.Ac]
theorem JM.yz(a:Nat)(G:List Ent)(c b:Bool):{JM.on a G c with Bp:=b}=JM.on a G b:=by
 rcases Gy G with rfl|⟨r,s,rfl⟩
 .rfl
 .rw[Gz,JM.Ac,JM.Ac]
theorem JM.xu(a:Nat)(G:List Ent)(b:Bool):(JM.on a G b).Bp=b:=by
 rcases Gy G with rfl|⟨r,s,rfl⟩
 .rfl
 .rw[Gz,JM.Ac]
def Jl(J:JM)(M:DM)(y:Lay):Prop:=J=JM.on J.limit y.G J.Bp/\(J.Bp=true->M.safe=M.dir/\M.Bl=[])
theorem JM.yA{limit:Nat}{G:List Ent}{ds:Bool}(h:G.Pairwise fun a b=>a.1<b.1):∀ e∈G,e.1<=(JM.on limit G ds).last:=by
 rcases Gy G with rfl|⟨r,s,rfl⟩
 .intro e c;cases c
 .rw[Gz] at h |-
  rw[JM.Ac,GT] at *;intro e c;rcases Ir.1 c with c|c
  .exact EN (h.2.2 e c s (by simp))
  .rw[Iv] at c;subst c;exact Io _
theorem JM.yr{a:Nat}{G:List Ent}{b:Bool}{n:Nat}(h:∀ e∈G,e.1<=n):(JM.on a G b).last<=n:=by
 rcases Gy G with rfl|⟨r,s,rfl⟩
 .exact II _
 .rw[Gz] at h |-
  rw[JM.Ac];exact h s (by simp)
theorem Lk.names{M:DM}{y:Lay}{p t k:Nat}(h:Lk M y p t k):(M.dir.map Prod.fst).Nodup:=by
 obtain⟨_,_,_,_,_,_,a⟩:=h.now.BP h.Aa;exact a
theorem Lk.last{M:DM}{y:Lay}{p t k:Nat}(h:Lk M y p t k){G:List Ent}{e:Ent}(c:y.G=G++[e]):M.dir.look (zu zL e.1)=some e.2.1:=by
 have g:ZP e∈M.dir:=by
  rw[h.now.perm.mem_iff];unfold Dl.dir;simp only[Ir,Iy];refine .inl (.inr ⟨e,?_,rfl⟩);show e∈(y.G.take y.G.length).drop y.i;rw[ID,c];have d:y.i<=G.length:=by
   cases hb:y.base with
   | none=>have:=(h.now.bare hb).1;have a:y.i=0:=this;omega
   | some b =>
    have:=(h.now.base b hb).lt;have a:y.i<y.G.length:=this;rw[c,Il,Ix] at a;omega
  rw[Fe d];simp
 exact Y2 h.names g
theorem Lk.fresh{M:DM}{y:Lay}{p t k:Nat}(h:Lk M y p t k){n:Nat}(o:∀ e∈y.G,e.1<n):M.dir.look (zu zL n)=none:=by
 refine R1 fun e f x=>?_;have a:e.1∈(y.z.BP y.G).map ZJ:=by
  rw[<- Dl.names,<- (h.now.perm.map Prod.fst).mem_iff];exact Hq f
 obtain⟨c,j,l⟩:=Iy.1 a;have m:c=some (false,n):=V9 (l.trans x);subst m;have d:∀ b,y.base=some b->b.1<n:=fun b r=>by
  have k:=h.now.base b r;have g:y.i<y.G.length:=k.lt;have s:=k.hi _ (IP.2 ⟨0,by rw[Iw];show 0<y.G.length-y.i;omega,by rw[Gd];rfl⟩:y.G[y.i]'g∈y.G.drop y.i);have u:=o _ (Iu g);omega
 unfold Dl.BP at j;simp only[Ir,Iy,zM] at j;rcases j with((⟨e,f,a⟩|⟨e,f,a⟩)|⟨e,f,a⟩)|⟨e,_,a⟩
 .simp only[Hi,Gq] at a
  obtain⟨l,q,i,m⟩:=h.now.low e f;have:=d q i;omega
 .simp at a
 .simp only[Hi,Gq] at a
  have:=o e (He (IK f));omega
 .cases a
theorem Lk.xd{M:DM}{y:Lay}{p t k:Nat}(h:Lk M y p t k)(i:y.new=none):M.dir.look zf=none:=by
 refine R1 fun e b x=>?_;have a:e.1∈(y.z.BP y.G).map ZJ:=by
  rw[<- Dl.names,<- (h.now.perm.map Prod.fst).mem_iff];exact Hq b
 obtain⟨c,d,f⟩:=Iy.1 a;have g:c=none:=V9 (f.trans x);subst g;unfold Dl.BP at d;simp only[Ir,Iy,zM] at d;rcases d with((⟨e,b,a⟩|⟨e,b,a⟩)|⟨e,b,a⟩)|⟨e,b,a⟩
 .cases a
 .cases a
 .cases a
 .have he':y.new=some e:=b
  rw[i] at he';cases he'
theorem Lk.AZ{M:DM}{y:Lay}{p t k f:Nat}(h:Lk M y p t k)(b:y.new=some f):M.dir.look zf=some f/\f∈M.ids:=by
 have a:(zf,f)∈M.dir:=by
  rw[h.now.perm.mem_iff];unfold Dl.dir;simp only[Ir,Iy,zM];exact .inr ⟨f,b,rfl⟩
 exact⟨Y2 h.names a,h.now.Ad _ a⟩
theorem Lg.no{M:DM}{y:Lay}{p t:Nat}(h:Lg M y p t)(d:Bool):Lg (M.no d) y p (t+1):=(Lk.no h d).close (by decide)
theorem Lg.Av{M:DM}{y:Lay}{p t:Nat}(h:Lg M y p t)(f:Nat):Lg (M.Av f) y p (t+1):=(Lk.Av h f).close (by decide)
theorem Lg.Ay{M:DM}{y:Lay}{p t:Nat}(h:Lg M y p t){q:Nat}(a:q<=left M y y.G.length):Lg M.Ay y.trim q (t+1):=(Lk.Ay h a).close (by decide)
theorem Lg.Ab{M:DM}{y:Lay}{p t:Nat}(h:Lg M y p t)(n:Int):Lg (M.Ab n) y p t :=
 Lk.same h ⟨h.bd.c0,h.bd.calls,h.bd.f0,h.bd.fr,h.bd.rc,h.bd.r0,h.bd.r1,h.bd.part,h.bd.AG,h.bd.AQ,h.bd.AK,h.bd.Ad,h.bd.once,h.bd.Bl,h.bd.BT,h.bd.dir⟩ (Io _) rfl rfl rfl rfl rfl
theorem Lg.BL{M:DM}{y:Lay}{p t:Nat}(h:Lg M y p t)(n a:Int)(b:-9223372036854775808<=a)(c:a<=9223372036854775807):Lg (M.BL n a) y p t :=
 Lk.same h ⟨h.bd.c0,h.bd.calls,h.bd.f0,h.bd.fr,h.bd.rc,h.bd.r0,h.bd.r1,(by
  show 0<=(if a<0 then wrap64 (-(wrap64 (a+1))) else a);split
  .unfold wrap64;omega
  .omega),h.bd.AG,h.bd.AQ,h.bd.AK,h.bd.Ad,h.bd.once,h.bd.Bl,h.bd.BT,h.bd.dir⟩ (Io _) rfl rfl rfl rfl rfl
structure Pairs(M:DM)(ps:List (Nat × Nat)):Prop where
 n1:(ps.map Prod.fst).Nodup
 n2:(ps.map Prod.snd).Nodup
 old:∀ p∈ps,p.1∈M.ids
 dir:∀ D∈M.dir::M.safe::M.Bl,∀ e∈D,∃ g,(e.2,g)∈ps
theorem Pairs.of{M:DM}{a:List (Nat × Nat)}(h:Pairs M a){D:Dir}(c:D∈M.dir::M.safe::M.Bl){e:ByteArray × Nat}(d:e∈D):(e.2,second a e.2)∈a:=by
 obtain⟨g,b⟩:=h.dir D c e d;rw[Us h.n1 b];exact b
theorem Pairs.back{M:DM}{a:List (Nat × Nat)}(h:Pairs M a){D:Dir}(b:D∈M.dir::M.safe::M.Bl){e:ByteArray × Nat}(c:e∈D):first a (second a e.2)=e.2:=VL h.n2 (h.of b c)
theorem Rd{c:List (Nat × Nat)}{M:DM}(h:Pairs M c){D:Dir}(g:D∈M.dir::M.safe::M.Bl)(l:(D.map (·.2)).Nodup):((Z6 c D).map (·.2)).Nodup:=by
 unfold Z6;rw[Gi];refine Gp.2 ?_;refine(List.Pairwise.imp_of_mem ?_ (Gp.1 l));intro a b j k d e;have i:second c a.2=second c b.2:=e;exact d (by rw[<- h.back g j,<- h.back g k,i])
theorem Bk.BA{M:DM}{t:Nat}(h:Bd M t){b:List (Nat × Nat)}(c:Pairs M b):Bd (M.BA b) t where
 c0:=h.c0
 calls:=h.calls
 f0:=h.f0
 fr:=h.fr
 rc:=h.rc
 r0:=h.r0
 r1:=h.r1
 part:=h.part
 AG:=fun g o=>by
  have k:g∈b.map Prod.snd:=o;obtain⟨p,a,rfl⟩:=Iy.1 k;show(M.file (first b p.2)).bytes.length<=_;rw[VL c.n2 (f:=p.1) a];exact h.AG _ (c.old p a)
 AQ:=c.n2
 AK:=by
  show(b.map Prod.snd).length<=t;have:=T9 (b.map Prod.fst) M.ids c.n1 (fun x i=>by obtain⟨p,a,rfl⟩:=Iy.1 i;exact c.old p a);rw[IE] at this |-;exact Im this h.AK
 Ad:=fun e m=>by
  obtain⟨x,i,rfl⟩:=Iy.1 m;exact Iy.2 ⟨_,c.of (Is ..) i,rfl⟩
 once:=Rd c (Is ..) h.once
 Bl:=by show(M.Bl.map _).length<=_;rw[IE];exact h.Bl
 BT:=fun d l=>by
  have j:d∈(M.safe::M.Bl).map (Z6 b):=l;obtain⟨x,i,rfl⟩:=Iy.1 j;unfold Z6;rw[IE];exact h.BT x i
 dir:=by show(Z6 b M.dir).length<=t;unfold Z6;rw[IE];exact h.dir
def Uy(a:List (Nat × Nat))(b:Nat × Nat × List Fact):Nat × Nat × List Fact:=(b.1,second a b.2.1,b.2.2)
def Qi(a:List (Nat × Nat))(e:Bool × Nat × Nat):Bool × Nat × Nat:=(e.1,e.2.1,second a e.2.2)
def Xc(a:List (Nat × Nat))(e:Ent):Ent:=(e.1,second a e.2.1,e.2.2)
def Dl.BA(a:List (Nat × Nat))(z:Dl):Dl:={BC:=z.BC.map (Qi a),base:=z.base.map (Uy a),i:=z.i,j:=z.j,new:=z.new.map (second a)}
def Lay.BA(a:List (Nat × Nat))(y:Lay):Lay:={F0:=y.F0,G:=y.G.map (Xc a),new:=y.new.map (second a),BC:=y.BC.map (Qi a),base:=y.base.map (Uy a),i:=y.i}
theorem UQ(a:List (Nat × Nat))(G:List Ent):zq (G.map (Xc a))=zq G:=by
 unfold zq;rw[Gi]
 rfl
theorem Lay.yk(a:List (Nat × Nat))(y:Lay)(i:Nat):(y.BA a).pre i=y.pre i:=by
 show y.F0++zq ((y.G.map (Xc a)).take i)=_;rw[<- Gg,UQ]
 rfl
theorem Lay.AM(a:List (Nat × Nat))(y:Lay):(y.BA a).F=y.F:=by
 show y.F0++zq (y.G.map (Xc a))=_;rw[UQ]
 rfl
theorem Lay.yV(a:List (Nat × Nat))(y:Lay)(z:Dl):(z.BA a).dir (y.BA a).G=Z6 a (z.dir y.G):=by
 unfold Dl.dir Z6;show(z.BC.map (Qi a)).map YR++(z.base.map (Uy a)).toList.map Yh++(((y.G.map (Xc a)).take z.j).drop z.i).map ZP++(z.new.map (second a)).toList.map (fun f=>(zf,f))=_;rw[<- Gg,<- Fo];simp only[IL,Gi]
 congr 1
 .congr 1
  congr 1
  cases z.base <;> rfl
 .cases z.new <;> rfl
theorem Lk.AX{M:DM}{y:Lay}{p t k:Nat}(h:Lk M y p t k){a:List (Nat × Nat)}(d:Pairs M a){e:Ent}(g:e∈y.G):(e.2.1,second a e.2.1)∈a/\first a (second a e.2.1)=e.2.1:=by
 obtain⟨D,b,c⟩:=h.live e g;exact⟨d.of (Iq _ b) c,d.back (Iq _ b) c⟩
theorem Snd.BA{M:DM}{y:Lay}{p t k:Nat}(E:Lk M y p t k){a:List (Nat × Nat)}(j:Pairs M a){D:Dir}(l:D∈M.dir::M.safe::M.Bl){z:Dl}(h:Snd M y D z):Snd (M.BA a) (y.BA a) (Z6 a D) (z.BA a) where
 perm:=by rw[Lay.yV];exact h.perm.map _
 ij:=h.ij
 j:=by show z.j<=(y.G.map _).length;rw[IE];exact h.j
 low:=fun e c=>by
  obtain⟨o,K,rfl⟩:=Iy.1 c;obtain⟨u,b,d,I⟩:=h.low o K;exact⟨u,Uy a b,by show z.base.map _=_;rw[d];rfl,I⟩
 nums:=by
  show((z.BC.map (Qi a)).map (·.2.1)).Nodup;rw[Gi];exact h.nums
 base:=fun G A=>by
  have i:z.base.map (Uy a)=some G:=A;obtain⟨b,d,rfl⟩:=De.1 i;have q:=h.base b d;have C:(M.BA a).file (second a b.2.1)=M.file b.2.1:=by
   show M.file (first a (second a b.2.1))=_;rw[show first a (second a b.2.1)=b.2.1 from j.back l (h.mem d)]
  refine⟨q.lt,q.one,fun e c=>?_,fun e c=>?_,by show((M.BA a).file (second a b.2.1)).bytes=_;rw[C];exact q.bytes,by show((M.BA a).file (second a b.2.1)).safe=((M.BA a).file (second a b.2.1)).bytes.length;rw[C];exact q.safe,fun e c r=>?_,fun r=>?_,q.ok,by rw[Lay.yk];exact q.held,q.An,by rw[Lay.yk];exact q.len⟩
  .have he':e∈(y.G.map (Xc a)).take z.i:=c
   rw[<- Gg] at he';obtain⟨x,g,rfl⟩:=Iy.1 he';exact q.lo x g
  .have he':e∈(y.G.map (Xc a)).drop z.i:=c
   rw[<- Fo] at he';obtain⟨x,g,rfl⟩:=Iy.1 he';exact q.hi x g
  .obtain⟨x,g,rfl⟩:=Iy.1 c
   have s:second a x.2.1=second a b.2.1:=r;refine q.xr x g ?_;rw[<- (E.AX j g).2,s];exact j.back l (h.mem d)
  .have s:y.new.map (second a)=some (second a b.2.1):=r
   obtain⟨f,m,B⟩:=De.1 s;have J:(zf,f)∈M.dir:=by
    rw[E.now.perm.mem_iff];unfold Dl.dir;simp only[Ir,Iy,zM];exact .inr ⟨f,m,rfl⟩
   refine q.new ?_;rw[m]
   congr 1
   have u:first a (second a f)=f:=j.back (e:=(zf,f)) (Is ..) J
   rw[<- u,B];exact j.back l (h.mem d)
 bare:=fun d=>by
  have i:z.base.map (Uy a)=none:=d;exact h.bare (Option.map_eq_none_iff.1 i)
 once:=Rd j l h.once
 Ad:=fun e c=>by
  obtain⟨x,g,rfl⟩:=Iy.1 c;exact Iy.2 ⟨_,j.of l g,rfl⟩
theorem Lk.BA{M:DM}{y:Lay}{p t:Nat}(h:Lg M y p t){c:List (Nat × Nat)}(l:Pairs M c):Lg (M.BA c) (y.BA c) p t:=by
 have i:∀ e∈y.G,(M.BA c).file (second c e.2.1)=M.file e.2.1:=fun e g=>by
  show M.file (first c (second c e.2.1))=_;rw[(h.AX l g).2]
 have o:∀ k∈(y.BA c).G,∃ e∈y.G,k=Xc c e:=fun k d=>by
  obtain⟨e,g,rfl⟩:=Iy.1 d;exact⟨e,g,rfl⟩
 have G:(y.BA c).z=y.z.BA c:=by
  unfold Lay.z Dl.BA Lay.BA;simp
 have m:∀ j,left (M.BA c) (y.BA c) j=left M y j:=fun j=>by
  unfold left;show y.F0.length+(((y.G.map (Xc c)).take j).map _).sum=_;rw[<- Gg,Gi]
  congr 2
  refine GN fun e g=>?_;show cnt e.2.2.1 ((M.BA c).file (second c e.2.1)).safe=_;rw[i e (He g)]
 exact {
  bd:=Bk.BA h.bd l
  Aa:=by
   show(y.G.map (Xc c)).Pairwise _;rw[Gp];exact h.Aa
  pos:=fun k d=>by obtain⟨e,g,rfl⟩:=o k d;exact h.pos e g
  gid:=by
   show((y.G.map (Xc c)).map (·.2.1)).Nodup;rw[Gi,Ge,Gp];have:=h.gid;rw[Ge,Gp] at this;refine List.Pairwise.imp_of_mem ?_ this;intro a b N O E e;have s:second c a.2.1=second c b.2.1:=e;exact E (by rw[<- (h.AX l N).2,<- (h.AX l O).2,s])
  AC:=fun k d=>by
   obtain⟨e,g,rfl⟩:=o k d;exact Iy.2 ⟨_,(h.AX l g).1,rfl⟩
  Ak:=fun k d s=>by
   obtain⟨e,g,rfl⟩:=o k d;have J:y.new.map (second c)=some (second c e.2.1):=s;obtain⟨f,r,B⟩:=De.1 J;have C:(zf,f)∈M.dir:=by
    rw[h.now.perm.mem_iff];unfold Dl.dir;simp only[Ir,Iy,zM];exact .inr ⟨f,r,rfl⟩
   refine h.Ak e g ?_;rw[r]
   congr 1
   have K:first c (second c f)=f:=l.back (e:=(zf,f)) (Is ..) C
   rw[<- K,B];exact(h.AX l g).2
  bytes:=fun k d=>by
   obtain⟨e,g,rfl⟩:=o k d;show((M.BA c).file (second c e.2.1)).bytes=_;rw[i e g];exact h.bytes e g
  ok:=fun k d=>by obtain⟨e,g,rfl⟩:=o k d;exact h.ok e g
  le:=fun k d=>by
   obtain⟨e,g,rfl⟩:=o k d;show((M.BA c).file (second c e.2.1)).safe<=((M.BA c).file (second c e.2.1)).bytes.length;rw[i e g];exact h.le e g
  full:=fun k d=>by
   have q:k∈(y.G.map (Xc c)).dropLast:=d;rw[<- List.map_dropLast] at q;obtain⟨e,g,rfl⟩:=Iy.1 q;show((M.BA c).file (second c e.2.1)).safe=((M.BA c).file (second c e.2.1)).bytes.length;rw[i e (FY _ g)];exact h.full e g
  An:=by rw[Lay.AM];exact h.An
  fl:=by rw[Lay.AM];exact h.fl
  now:=by rw[G];exact h.now.BA h l (Is ..)
  BR:=fun D u=>by
   have A:D∈(M.safe::M.Bl).map (Z6 c):=u;obtain⟨x,I,rfl⟩:=Iy.1 A;obtain⟨z,G,Q⟩:=h.BR x I;exact⟨z.BA c,G.BA h l (Iq _ I),by rw[m];exact Q⟩
  cur:=by
   show Z6 c M.dir∈(M.safe::M.Bl).map (Z6 c);exact Hq h.cur
  live:=fun k d=>by
   obtain⟨e,g,rfl⟩:=o k d;obtain⟨D,u,L⟩:=h.live e g;refine⟨Z6 c D,?_,Hq (f:=fun e:ByteArray × Nat=>(e.1,second c e.2)) L⟩;show Z6 c D∈(M.safe::M.Bl).map (Z6 c);exact Hq u}
structure Mgx(M:DM)(y:Lay)(g:MgM)(i f:Nat):Prop where
 new:y.new=some f
 lt:i<y.G.length
 yi:y.i<=i
 old:∀ b,y.base=some b->b.1<g.number
 one:1<=g.number
 lo:∀ e∈y.G.take i,e.1<g.number
 hi:∀ e∈y.G.drop i,g.number<e.1
 bytes:(M.file f).bytes=zD g.done
 ok:∀ x∈g.done++g.left,ZW x/\(zj x).size<=2000
 held:(g.done++g.left).foldl SM.enter SM.nil=(y.pre i).foldl SM.enter SM.nil
 An:∀ k,(((g.done++g.left).take k).foldl SM.enter SM.nil).hints.length<=32
 len:(g.done++g.left).length<=(y.pre i).length+40
def Mo(M:DM)(y:Lay):Option MgM->Prop
 | none=>y.new=none
 | some g=>∃ i f,Mgx M y g i f/\g.calls<=g.done.length+1
theorem Mgx.up{M k:DM}{y j:Lay}{g:MgM}{i f:Nat}(h:Mgx M y g i f)(b:Ext y j)(m:∀ f,y.new=some f->(k.file f).bytes=(M.file f).bytes):Mgx k j g i f:=by
 have o:=b.len;have c:=h.lt;refine⟨b.new.trans h.new,Hu h.lt o,by rw[b.i];exact h.yi,by rw[b.base];exact h.old,h.one,fun e d=>?_,fun e d=>?_,(m f h.new).trans h.bytes,h.ok,by rw[b.pre c];exact h.held,h.An,by rw[b.pre c];exact h.len⟩
 .obtain⟨a,ha,e1,_⟩:=Uq b (EN c) d
  rw[<- e1];exact h.lo a ha
 .obtain⟨n,hn,rfl⟩:=IP.1 d
  rw[Iw] at hn;rw[Gd];by_cases l:i+n<y.G.length
  .have:=b.key.getElem (i:=i+n) (by simpa using l)
   simp only[IR,Gq] at this;rw[<- this.1];exact h.hi _ (IP.2 ⟨n,by rw[Iw];omega,by rw[Gd]⟩)
  .have h3:=h.hi y.G[i] (IP.2 ⟨0,by rw[Iw];omega,by rw[Gd];rfl⟩)
   have p:=b.yE y.G[i] (Iu _) j.G[i+n] (IP.2 ⟨i+n-y.G.length,by rw[Iw];omega,by rw[Gd];congr 1;omega⟩);omega
theorem Mo.up{M b:DM}{y d:Lay}{a:Option MgM}(h:Mo M y a)(c:Ext y d)(e:∀ f,y.new=some f->(b.file f).bytes=(M.file f).bytes):Mo b d a:=by
 cases a with
 | none=>exact c.new.trans h
 | some g=>obtain⟨i,f,h,j⟩:=h;exact⟨i,f,h.up c e,j⟩
theorem Mo.trim{M d:DM}{y:Lay}{c:Option MgM}(h:Mo M y c)(j:∀ f,y.new=some f->(d.file f).bytes=(M.file f).bytes):Mo d y.trim c:=by
 cases c with
 | none=>exact h
 | some g =>
  obtain⟨i,f,h,k⟩:=h;have m:=h.yi;have l:=h.lt;have a:y.trim.pre (i-y.i)=y.pre i:=by rw[Lay.AL,show y.i+(i-y.i)=i by omega]
  refine⟨i-y.i,f,⟨h.new,?_,II _,h.old,h.one,fun e b=>?_,fun e b=>?_,(j f h.new).trans h.bytes,h.ok,by rw[a];exact h.held,h.An,by rw[a];exact h.len⟩,k⟩
  .show i-y.i<(y.G.drop y.i).length
   rw[Iw];omega
  .have he':e∈(y.G.drop y.i).take (i-y.i):=b
   rw[<- DP] at he';exact h.lo e (IK he')
  .have he':e∈(y.G.drop y.i).drop (i-y.i):=b
   rw[List.drop_drop,show y.i+(i-y.i)=i by omega] at he';exact h.hi e he'
theorem Lk.dlt{M:DM}{y:Lay}{p t k:Nat}(h:Lk M y p t k):y.i<y.G.length\/y.i=0/\y.base=none:=by
 cases hb:y.base with
 | none=>exact .inr ⟨(h.now.bare hb).1,rfl⟩
 | some b=>exact .inl (h.now.base b hb).lt
theorem Lk.yC{M:DM}{y:Lay}{p t k:Nat}(h:Lk M y p t k)(a:Nat)(b:Bool):JM.on a y.trim.G b=JM.on a y.G b:=by
 have e:y.trim.G.getLast?=y.G.getLast?:=by
  show(y.G.drop y.i).getLast?=_;rcases h.dlt with c|⟨c,_⟩
  .rw[List.getLast?_drop,It (by omega)]
  .rw[c,Gr]
 unfold JM.on;rw[e]
structure Alike(M M':DM):Prop where
 dir:M'.dir=M.dir
 ids:M'.ids=M.ids
 room:M'.room=M.room
 part:M'.part=M.part
 BU:M'.BU=M.BU
theorem JB(M:DM)(f:Nat):(M.Av f).BU=M.BU:=by
 unfold DM.BU;simp only[Yc]
 rfl
theorem XI{J:JM}{M:DM}{y:Lay}{p t:Nat}(h:Lg M y p t)(j:J=JM.on J.limit y.G J.Bp)(o:t<=1000000) :
 ∃ e a,J.Bj M=(e,a)/\Lg a y p (t+1)/\Ans M a e/\Alike M a/\e≠some 10/\a.safe=M.safe/\a.Bl=M.Bl/\(∀ g,(a.file g).bytes=(M.file g).bytes)/\(e=none->Ux a y):=by
 unfold JM.Bj;rcases Gy y.G with b|⟨q,s,b⟩
 .have:J.last=0:=by rw[j,b];rfl
  rw[IC this];exact⟨none,M,rfl,h.more (GA _),Ans.refl M,⟨rfl,rfl,rfl,rfl,rfl⟩,(by intro e;cases e),rfl,rfl,fun _=>rfl,fun _ e i=>by
   rw[b] at i;cases i⟩
 .rw[Gz] at b
  have m:=h.last b;have f:=j;rw[b,JM.Ac] at f;have k:J.last≠0:=by
   have:=(h.pos s (by rw[b];simp)).1;rw[f];simp only;omega
  have l:J.name=zu zL s.1:=by rw[f]
  rw[It k,l];rcases Pf h.bd o (by decide) m with⟨e,c⟩|⟨d,e,c⟩
  .rw[e]
   exact⟨none,M.Av s.2.1,rfl,h.Av s.2.1,Ans.ok c rfl rfl rfl,⟨rfl,rfl,rfl,rfl,JB M s.2.1⟩,(by intro e;cases e),rfl,rfl,Yc M s.2.1,fun _=>Lk.yU h b⟩
  .rw[e]
   exact⟨some 9,M.no d,rfl,Lg.no h d,Ans.no c rfl rfl,⟨rfl,rfl,rfl,rfl,rfl⟩,(by intro e;cases e),rfl,rfl,fun _=>rfl,fun e=>by cases e⟩
theorem VN{M:DM}{t k:Nat}(h:Bk M t k){f:Nat}(g:f∉M.ids)(a:ByteArray)(r:Int)(d:Bool):(M.born a f r d).BU=M.BU:=by
 have c:∀ e∈M.dir,e.2≠f:=fun e b x=>g (x▸h.Ad e b);show((M.dir++[(a,f)]).map fun e=>(if e.2=f then(⟨[],0⟩:FM) else M.file e.2).bytes.length).sum=_;rw[IL,Fx];simp only[IJ,Gm,GY,Be,Gh,Ho,Fs];unfold DM.BU;refine Fg List.sum (GN fun e b=>?_);rw[It (c e b)]
theorem Sv{J:JM}{M:DM}{y:Lay}{p t:Nat}(h:Lg M y p t)(I:Jl J M y)(X:t+2<=1000000)(n f:Nat)(V:J.last<n)(R:n<=2*(t+2))(Q:f∉M.ids) :
 ∃ e o j B,J.begin M n f=(e,o,j)/\Lg j B p (t+2)/\B.F=y.F/\Ext y B/\(∀ g,y.new=some g->(j.file g).bytes=(M.file g).bytes)/\Ans M j e/\j.room=M.room/\j.part=M.part/\(∀ g∈j.ids,g=f\/g∈M.ids)/\j.BU=M.BU/\e≠some 10/\(e≠none->o=J) /\
  (e=none->Jl o j B/\o.limit=J.limit/\B.G=y.G++[(n,f,([],[]))]/\o.Bp=false):=by
 obtain⟨L,k,S,a,C,c,G,T,N,m,D⟩:=XI h I.1 (by omega);have b:∀ e∈y.G,e.1<n:=fun e O=>by
  have:=JM.yA (limit:=J.limit) (ds:=J.Bp) h.Aa e O;rw[<- I.1] at this;omega
 unfold JM.begin;rw[S];cases L with
 | some x=>exact⟨some x,J,k,y,rfl,a.more (by omega),rfl,Ext.refl y,fun g _=>m g,C,c.room,c.part,fun g a=>.inr (c.ids▸a),c.BU,G,fun _=>rfl,fun e=>by cases e⟩
 | none =>
  have l:=D rfl;have i:f∉k.ids:=by rw[c.ids];exact Q
  have A:y.new≠some f:=fun e=>i ((a.AZ e).2);simp only;have v:∀ g,g∈f::k.ids->g=f\/g∈M.ids:=fun g a=>by
   rw[IW,c.ids] at a;exact a
  have u:∀ r d,∀ g,y.new=some g->((k.born (zu zL n) f r d).file g).bytes=(M.file g).bytes:=fun r d g E=>by
   rw[ZQ k _ f r d (fun e=>i (e▸(a.AZ E).2))];exact m g
  have K:=Ext.add y n f b;rcases TM a.bd (by omega) (by decide) (KK _) (a.fresh b) f with⟨q,s⟩|⟨d,q,s⟩|⟨q,s⟩
  .rw[q]
   simp only[Gh];refine⟨none,_,_,_,rfl,Lk.born a l n f i (by omega) b (by omega) A k.refused k.dead (by omega) (by omega),Lay.yB y n f,K,u _ _,C.trans (Ans.ok s rfl rfl rfl),c.room,c.part,fun g a=>v g a,(VN a.bd i _ _ _).trans c.BU,(by intro e;cases e),(fun h=>absurd rfl h),fun _=>⟨⟨?_,fun e=>by cases e⟩,rfl,rfl,rfl⟩⟩;show _=JM.on J.limit (y.G++[(n,f,([],[]))]) false;simp only[JM.Ac,Zv,zD];simp
  .rw[q]
   simp only[show ¬(9:Int)=0 by decide,Hy];exact⟨_,_,_,y,rfl,(Lg.no a d).more (by omega),rfl,Ext.refl y,fun g _=>m g,C.trans (Ans.no s rfl rfl),c.room,c.part,fun g a=>.inr (c.ids▸a),c.BU,(by intro e;cases e),fun _=>rfl,fun e=>by cases e⟩
  .rw[q]
   simp only[show ¬(9:Int)=0 by decide,Hy];exact⟨_,_,_,_,rfl,Lk.born a l n f i (by omega) b (by omega) A (k.refused+1) true (by omega) (by omega),Lay.yB y n f,K,u _ _,C.trans (Ans.no s rfl rfl),c.room,c.part,fun g a=>v g a,(VN a.bd i _ _ _).trans c.BU,(by intro e;cases e),fun _=>rfl,fun e=>by cases e⟩
theorem Lk.yD{M:DM}{y:Lay}{p t k:Nat}(h:Lk M y p t k){J:JM}(b:J=JM.on J.limit y.G J.Bp):J.last<=2*t:=by
 rw[b];exact JM.yr fun e a=>(h.pos e a).2
theorem TQ{J:JM}{M:DM}{y:Lay}{p t:Nat}(h:Lg M y p t)(q:Jl J M y)(S:t+2<=1000000)(n f:Nat)(Q:f∉M.ids) :
 ∃ e d a c,J.Bq M n f=(e,d,a)/\Lg a c p (t+2)/\c.F=y.F/\Ext y c/\(∀ g,y.new=some g->(a.file g).bytes=(M.file g).bytes)/\Ans M a e/\a.room=M.room/\a.part=M.part/\(∀ g∈a.ids,g=f\/g∈M.ids)/\a.BU=M.BU/\e≠some 10/\(e≠none->d=J) /\
  (e=none->Jl d a c/\d.limit=J.limit/\∃ G m k v,c.G=G++[(m,k,(v,[]))]):=by
 unfold JM.Bq;cases hb:J.fits n with
 | true =>
  simp only[Gh];refine⟨none,J,M,y,rfl,h.more (by omega),rfl,Ext.refl y,fun _ _=>rfl,Ans.refl M,rfl,rfl,fun g R=>.inr R,rfl,(by intro e;cases e),fun _=>rfl,fun _=>⟨q,rfl,?_⟩⟩;unfold JM.fits at hb;simp only[Hz,IF,DR] at hb;obtain⟨o,i,_⟩:=hb;have l:=q.1;rcases Gy y.G with j|⟨r,s,j⟩
  .rw[l,j] at o;exact absurd rfl o
  .rw[Gz] at j
   rw[l,j,JM.Ac] at i;simp only[Gn,Nat.not_lt,Nat.le_zero_eq] at i;obtain⟨m,k,v,T⟩:=s;obtain rfl:T=[]:=IY i;exact⟨r,m,k,v,j⟩
 | false =>
  simp only[Gx,Hy];have C:=h.yD q.1;obtain⟨e,d,a,c,o,i,D,E,I,K,L,N,O,x,A,B,b⟩:=Sv h q S (J.last+1) f (Nat.lt_succ_self _) (by omega) Q;rw[o];exact⟨e,d,a,c,rfl,i,D,E,I,K,L,N,O,x,A,B,fun u=>⟨(b u).1,(b u).2.1,y.G,_,f,[],(b u).2.2.1⟩⟩
theorem KT{J:JM}{M:DM}{y:Lay}{p t:Nat}(h:Lg M y p t)(hj:Jl J M y)(ht:t+3<=1000000)(x:Fact)(hx:ZW x)(c7:(zj x).size<=2000)(b1:((y.F++[x]).foldl SM.enter SM.nil).hints.length<=32)(f:Nat)(hf:f∉M.ids) :
 ∃ wh e J' S y',J.append M (zj x) f=(wh,e,J',S)/\Lg S y' p (t+3)/\y'.F=y.F++(if wh=true then [x] else [])/\(∀ mg,Mo M y mg->Mo S y' mg)/\Ans M S e/\S.room=M.room/\S.part=M.part/\(∀ g∈S.ids,g=f\/g∈M.ids)/\S.BU<=M.BU+(zj x).size/\(e=some 10->M.room<M.BU+(zj x).size) /\
  (e=none->wh=true/\Jl J' S y'/\J'.limit=J.limit/\M.calls<S.calls):=by
 obtain⟨e1,E,l,C,e,hg,a0,b6,b5,ha,a3,a2,a1,c8,c3,_,c2⟩:=TQ h hj (by omega) (zj x).size f hf;unfold JM.append;rw[e];cases e1 with
 | some n=>exact⟨false,some n,E,l,C,rfl,hg.more (by omega),by simp[a0],fun mg hm=>hm.up b6 b5,ha,a3,a2,a1,by omega,fun e=>absurd e c3,fun e=>by cases e⟩
 | none =>
  obtain⟨hL,b3,G,m,g,s,X⟩:=c2 rfl;simp only;have b4:=hg.last X;have L:=hL.1;rw[X,JM.Ac] at L;have v:E.name=zu zL m:=by rw[L]
  have A:E.size=(zD s).length:=by rw[L];simp[Zv]
  have Q:E.At=false:=by rw[L];simp
  have N:E.last=m:=by rw[L]
  have a5:l.dir.look E.name=some g:=by rw[v];exact b4
  have a4:(zj x).data.toList.length=(zj x).size:=by rw[GF];rfl
  have K:(l.file g).bytes=zD s:=by
   have:=hg.bytes (m,g,(s,[])) (by rw[X];simp)
   simpa [Zv] using this
  have c1:C.new≠some g:=hg.Ak (m,g,(s,[])) (by rw[X];simp);obtain⟨I,k,r,u,D,ea,hk,d⟩:=Nk hg.bd (by omega) (by decide) a5 (zj x);have B:E.has (l.put g ((zj x).data.toList.take k) r u D) (E.size+(zj x).size)=decide (k=(zj x).size):=by
   unfold JM.has DM.size;rw[show(l.put g ((zj x).data.toList.take k) r u D).dir=l.dir from rfl,a5];simp only[Ys,Gh,K,Il,Ip,a4];rw[A,show((0:Int)==0)=true from rfl,Cf,Hx hk];by_cases e:k=(zj x).size
   .rw[fFS e,beq_iff_eq];omega
   .rw[Gu e,Gj];omega
  have b2:=(hg.ok (m,g,(s,[])) (by rw[X];simp)).1;have hF:∀ s':Seg,({C with G:=G++[(m,g,s')]}:Lay).F=C.F0++zq G++s'.1:=fun s'=>by
   show C.F0++zq (G++[(m,g,s')])=_;rw[Zg,VJ,IA]
  have b0:C.F0++zq G++s=y.F:=by
   rw[<- a0];show _=C.F0++zq C.G;rw[X,Zg,VJ,IA]
  have a6:((zj x).data.toList.take k).length<=2000:=by rw[Ip];omega
  have q:l.refused<=r/\r<=l.refused+1/\l.Bo<=u/\u-l.Bo<=r-l.refused:=by
   rcases d with⟨_,_,a,b,_⟩|⟨a,⟨_,b,_⟩|⟨_,b,_⟩⟩ <;> subst a b <;> refine⟨by omega,by omega,by omega,by omega⟩
  have R:(l.put g ((zj x).data.toList.take k) r u D).BU<=M.BU+(zj x).size:=by
   have h1:=Jv hg.bd g ((zj x).data.toList.take k) r u D;rw[Ip] at h1;omega
  have c:Ans M (l.put g ((zj x).data.toList.take k) r u D) (zE I):=by
   refine ha.trans ?_;rcases d with⟨rfl,_,rfl,rfl,rfl,c4⟩|⟨rfl,⟨rfl,rfl,c5⟩|⟨rfl,rfl,rfl,_⟩⟩
   .exact Ans.ok c4 rfl rfl rfl
   .exact Ans.no c5 rfl rfl
   .exact⟨.inr ⟨rfl,.inr ⟨rfl,rfl,rfl⟩⟩,rfl,rfl,Bb (Int.lt_succ _),(fun e=>by cases e),(fun e=>by cases e)⟩
  have a9:I=10->M.room<M.BU+(zj x).size:=fun T=>by
   rcases d with⟨a,_⟩|⟨_,⟨a,_⟩|⟨_,_,_,_,c6⟩⟩
   .rw[a] at T;cases T
   .rw[a] at T;cases T
   .omega
  have b7:I=0->k=(zj x).size:=fun e0=>by
   rcases d with⟨_,a,_⟩|⟨_,⟨a,_⟩|⟨a,_⟩⟩
   .exact a
   .rw[a] at e0;cases e0
   .rw[a] at e0;cases e0
  have a8:∀ s':Seg,∀ mg,Mo M y mg->Mo (l.put g ((zj x).data.toList.take k) r u D) {C with G:=G++[(m,g,s')]} mg:=fun s' mg hm=>by
   refine(hm.up b6 b5).up (Ext.last X rfl) (fun f' c0=>?_);rw[Xi l g _ r u D (fun e=>c1 (e▸c0))]
  unfold JM.Ah;rw[ea];simp only;by_cases j:k=(zj x).size
  .have O:WA (s++[x],[]):=⟨fun y hy=>by
    rcases Ir.1 hy with hy|hy
    .exact b2 y hy
    .rw[Iv] at hy;subst hy;exact hx,T1⟩
   have o:({C with G:=G++[(m,g,(s++[x],[]))]}:Lay).F=y.F++[x]:=by
    rw[hF,<- b0];simp only[IA]
   have Y:Lg (l.put g ((zj x).data.toList.take k) r u D) {C with G:=G++[(m,g,(s++[x],[]))]} p (t+3):=Lk.put hg X rfl _ a6 r u D q.1 q.2.1 q.2.2.1 q.2.2.2 (by
    rw[K,j,<- a4,ID];simp only[Zv,IV,Vi]) O (fun n=>Nm s [x] n) (fun i=>by
     rw[o];by_cases hi:i<=y.F.length
     .rw[Ha hi];exact h.An i
     .rw[IH (by simp;omega)];exact b1) (by rw[o,a0];simp)
   have b8:Jl {E with size:=E.size+(zj x).size} (l.put g ((zj x).data.toList.take k) r u D) {C with G:=G++[(m,g,(s++[x],[]))]}:=by
    refine⟨?_,fun b9=>hL.2 b9⟩;show _=JM.on _ (G++[(m,g,(s++[x],[]))]) _;rw[JM.Ac];obtain⟨jl,c9,jn,js,jt,jd⟩:=E;simp only at v A Q N |-;subst v A Q N;simp[Zv,Vi,a4]
   rw[fFS j] at B;by_cases V:I=0
   .rw[IC V]
    rw[V] at c;exact⟨true,none,_,_,_,rfl,Y,by rw[IC rfl];exact o,a8 _,c,a3,a2,a1,R,(by intro e;cases e),fun _=>⟨rfl,b8,b3,Int.lt_add_one_of_le ha.2.le⟩⟩
   .rw[It V,IC B]
    have a7:zE I=some I:=by unfold zE;rw[It V]
    rw[a7] at c;exact⟨true,some I,_,_,_,rfl,Y,by rw[IC rfl];exact o,a8 _,c,a3,a2,a1,R,fun e=>a9 (Hb e),fun e=>by cases e⟩
  .have V:¬I=0:=fun V=>j (b7 V)
   rw[Gu j] at B;have a7:zE I=some I:=by unfold zE;rw[It V]
   rw[a7] at c;have O:WA (s,(zj x).data.toList.take k):=⟨b2,zw x,by rw[Wx];exact Ds _ _,fun e=>by
    have:=Fg List.length e;rw[Ip,<- Wx,a4] at this;omega,hx.2⟩
   have o:({C with G:=G++[(m,g,(s,(zj x).data.toList.take k))]}:Lay).F=y.F:=by
    rw[hF,<- b0]
   have Y:Lg (l.put g ((zj x).data.toList.take k) r u D) {C with G:=G++[(m,g,(s,(zj x).data.toList.take k))]} p (t+3):=Lk.put hg X rfl _ a6 r u D q.1 q.2.1 q.2.2.1 q.2.2.2 (by
    rw[K];rfl) O (fun n=>Io _) (by rw[o];exact h.An) (by rw[o,a0];omega)
   rw[It V,It (by rw[B];decide)];exact⟨false,some I,_,_,_,rfl,Y,by simp[o],a8 _,c,a3,a2,a1,R,fun e=>a9 (Hb e),fun e=>by cases e⟩
theorem LV{J:JM}{M:DM}{y:Lay}{p t:Nat}(h:Lg M y p t)(o:Jl J M y)(ht:t+2<=1000000) :
 ∃ e K j G,J.BE M=(e,K,j)/\Lg j G p (t+2)/\G.F=y.F/\(∀ q,Mo M y q->Mo j G q)/\Ans M j e/\Alike M j/\e≠some 10/\K.limit=J.limit/\(e=none->Jl K j G/\Lg j G y.F.length (t+2)):=by
 obtain⟨V,r,hs,i,I,c,C,E,v,f,R⟩:=XI h o.1 (by omega);unfold JM.BE;rw[hs];cases V with
 | some x =>
  rw[It (by rintro⟨a,_⟩;cases a)];exact⟨some x,J,r,y,rfl,i.more (by omega),rfl,fun q m=>m.up (Ext.refl y) (fun g _=>f g),I,c,C,rfl,fun e=>by cases e⟩
 | none =>
  have A:=R rfl;have b:left r y y.G.length=y.F.length:=by rw[A.left i,Jy]
  by_cases O:J.last≠0/\J.Bp=false
  .rw[IC ⟨rfl,O⟩]
   unfold JM.Bx;rcases UM i.bd (by omega) (by decide) with⟨L,k⟩|⟨d,L,k⟩
   .simp only[L]
    refine⟨none,_,r.Ay,y.trim,rfl,Lg.Ay i i.BT,Lay.ya y,fun q m=>m.trim (fun g _=>f g),I.trans (Ans.ok k rfl rfl rfl),⟨c.dir,c.ids,c.room,c.part,c.BU⟩,(by intro e;cases e),rfl,fun _=>⟨⟨?_,fun _=>⟨rfl,rfl⟩⟩,Lg.Ay i (Fw b.symm)⟩⟩;have S:=o.1;show({J with Bp:=_}:JM)=JM.on J.limit y.trim.G _;rw[h.yC,<- JM.yz J.limit y.G J.Bp,<- S]
   .simp only[L]
    exact⟨some 9,_,r.no d,y,rfl,Lg.no i d,rfl,fun q m=>m.up (Ext.refl y) (fun g _=>f g),I.trans (Ans.no k rfl rfl),⟨c.dir,c.ids,c.room,c.part,c.BU⟩,(by intro e;cases e),rfl,fun e=>by cases e⟩
  .rw[It (fun x=>O x.2)]
   refine⟨none,J,r,y,rfl,i.more (by omega),rfl,fun q m=>m.up (Ext.refl y) (fun g _=>f g),I,c,C,rfl,fun _=>⟨⟨o.1,fun Q=>by rw[E,v,c.dir];exact o.2 Q⟩,?_⟩⟩;have l:=i.more (show t+1<=t+2 by omega);refine {l with BR:=fun D N=>?_};by_cases T:J.last=0
   .have hnil:y.G=[]:=by
     rcases Gy y.G with u|⟨pr,s,u⟩
     .exact u
     .rw[Gz] at u
      have B:=o.1;rw[u,JM.Ac] at B;have:=(h.pos s (by rw[u];simp)).1;rw[B] at T;simp only at T;omega
    obtain⟨z,hz,_⟩:=l.BR D N;refine⟨z,hz,?_⟩;rw[<- b,hnil];exact Ur (II _)
   .have hds:J.Bp=true:=by
     cases Q:J.Bp with
     | true=>rfl
     | false=>exact absurd ⟨T,Q⟩ O
    obtain⟨X,Y⟩:=o.2 hds;rw[E,v,X,Y,Iv] at N;subst N;rw[<- c.dir];exact⟨_,l.now,Fw b.symm⟩
end Go.Proofs.YtkhnggkkiefcdaaGreatDoor
