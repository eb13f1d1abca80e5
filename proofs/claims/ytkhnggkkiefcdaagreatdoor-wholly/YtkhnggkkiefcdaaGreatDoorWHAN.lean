/- larder: joined texts -/
import Derived.Test.YtkhnggkkiefcdaaGreatDoorWHAG
import Derived.Test.YtkhnggkkiefcdaaGreatDoorWHAH
import Derived.Test.YtkhnggkkiefcdaaGreatDoorWHAI
import Derived.Test.YtkhnggkkiefcdaaGreatDoorWHAJ
import Derived.Test.YtkhnggkkiefcdaaGreatDoorWHAL
import Derived.Test.YtkhnggkkiefcdaaGreatDoorWHAM
import Derived.StillTailTactics
namespace Go.Proofs.YtkhnggkkiefcdaaGreatDoor
open Go.RowKit
set_option maxRecDepth 100000
set_option maxHeartbeats 8000000
theorem Wi{c w:World}{b i g s:Nat}{m L:DL}{M:DM}{D S:Dir}{k:Nat}{a:List (Nat × Nat)}{x u:Value}{q:Nat->Value}{p t:Dir}{o:List Dir}(h:DRep c b m M)
 (r:M.ids.length<=100000000000)(j:∀ f,f∈M.ids->(M.file f).bytes.length<=1000000000000)(C:zw c w i g s M D S k a x u q L p t o)
 (v:Value)(d:Dir)(z:c.ownsRow 0 148 2 v d.length (flat d))(B:∀ e,e∈d->e.2∈M.ids)(A:d.length<=100000000000) :
 Calls Tryz.prog 99 #[v,.pointer (some ⟨i,0,none⟩),.pointer (some ⟨g,0,none⟩)] w fun e y =>
  ∃ l,e=.returned l/\Qe c w y i g s M D S k a L p t o d l:=by
 have F:a.length<=M.ids.length:=by
  have:=Vm (a.map Prod.fst) M.ids C.T.n1 C.T.ids;rw[Mq] at this;exact this
 refine(RN c w b i g m M a x u q h C.T v d z B (by omega) j).mono ?_;rintro e y ⟨l,rfl,E⟩;exact⟨l,rfl,C.other E⟩
structure First(w w3:World)(b bo bm nb:Nat)(L:DL)(M:DM)(l1:Value):Prop where
 ex:∃ ps vo vm fV d1,zw w w3 bo bm nb M [] [] 0 ps vo vm fV DL.new [] [] []/\Rel ps M.dir d1/\w3.ownsRow 0 148 2 l1 d1.length (flat d1)/\(∀ j,l1.ownBlock=some j->w.heap.size<=j)
 c0:w3.cell? ⟨b,0,none⟩=some L.Hg
 c1:w3.cell? ⟨b,1,none⟩=some L.IZ
structure Second(w w4:World)(b bo bm nb:Nat)(L:DL)(M:DM)(l1 l2:Value):Prop where
 ex:∃ ps vo vm fV d1 s1,zw w w4 bo bm nb M [] [] 0 ps vo vm fV DL.new [] [] []/\Rel ps M.dir d1/\Rel ps M.safe s1/\w4.ownsRow 0 148 2 l1 d1.length (flat d1)/\w4.ownsRow 0 148 2 l2 s1.length (flat s1) /\
  (∀ j,l1.ownBlock=some j->w.heap.size<=j)/\(∀ j,l2.ownBlock=some j->w.heap.size<=j)
 c0:w4.cell? ⟨b,0,none⟩=some L.Hg
 c1:w4.cell? ⟨b,1,none⟩=some L.IZ
 n:∀ k,w4.cell? ⟨nb,k,none⟩=(M.cells DL.new)[k]?
 nf:∀ k,w4.frozen? ⟨nb,k,none⟩=false
theorem QU{w W:World}{b g d s:Nat}{L:DL}{M:DM}{y:List (Nat × Nat)}{D A:Value}{u:Nat->Value}(h:DRep w b L M)
 (c:M.ids.length<=100000000000)(k:∀ f,f∈M.ids->(M.file f).bytes.length<=1000000000000)(j:M.dir.length<=100000000000)(C:zw w W g d s M [] [] 0 y D A u DL.new [] [] []) :
 Calls Tryz.prog 99 #[L.Hg,.pointer (some ⟨g,0,none⟩),.pointer (some ⟨d,0,none⟩)] W fun e t =>
  ∃ a n,e=.returned (.slice a M.dir.length n)/\First w t b g d s L M (.slice a M.dir.length n):=by
 refine(Wi h c k C L.Hg M.dir h.dir h.Hy j).mono ?_;rintro e t ⟨l,rfl,o⟩;obtain⟨z,E,B,v,F,m,_,r,q,x⟩:=o.ex;obtain⟨a,n,p⟩:=zd q;rw[r.len] at p;subst p;have i:=(h.IJ.fr m.T.fr id).cell;simp only[DM.cells] at i;exact⟨a,n,rfl,⟨_,_,_,_,_,m,r,q,x⟩,i 0,i 1⟩
theorem RO{w x W:World}{b i g v:Nat}{L:DL}{M:DM}{u:Value}(h:DRep w b L M)
 (c:M.ids.length<=100000000000)(m:∀ f,f∈M.ids->(M.file f).bytes.length<=1000000000000)(k:M.safe.length<=100000000000)(F:First w x b i g v L M u)(f:Fr Nil x W) :
 Calls Tryz.prog 99 #[L.IZ,.pointer (some ⟨i,0,none⟩),.pointer (some ⟨g,0,none⟩)] W fun e y =>
  ∃ a n,e=.returned (.slice a M.safe.length n)/\Second w y b i g v L M u (.slice a M.safe.length n):=by
 obtain⟨Q,T,R,N,K,C,E,q,p⟩:=F.ex;refine(Wi h c m (C.Gn f) L.IZ M.safe h.safe h.Gu k).mono ?_;rintro e y ⟨l,rfl,o⟩;obtain⟨D,I,G,z,J,d,B,r,t,A⟩:=o.ex;obtain⟨a,n,s⟩:=zd t;rw[r.len] at s;subst s;have j:=(h.IJ.fr d.T.fr id).cell;simp only[DM.cells] at j;exact⟨a,n,rfl,⟨_,_,_,_,_,_,d,E.more B,r,o.row _ _ _ _ _ (za q f (fun _ _=>id)) (by decide) (by decide),t,p,A⟩,j 0,j 1,d.IJ.cell,d.IJ.frozen⟩
theorem Second.lists{w m:World}{b q o a:Nat}{L:DL}{M:DM}{c d:Value}(h:Second w m b q o a L M c d) :
 ∃ g l k f e i,zw w ((m.setCell ⟨a,0,none⟩ c).setCell ⟨a,1,none⟩ d) q o a M M.dir M.safe 0 g l k f {DL.new with Hg:=c,IZ:=d} e i []:=by
 obtain⟨g,l,k,f,e,i,C,v,x,r,s,t,u⟩:=h.ex;refine⟨g,l,k,f,e,i,C.lists ?_ ?_ r s v x t u⟩
 .exact Fr.set (S:=fun j=>j=a) (p:=⟨a,1,none⟩) (Fr.set (S:=fun j=>j=a) (p:=⟨a,0,none⟩) (O _ m) (fun _=>rfl) c) (fun _=>rfl) d
 .exact(C.IJ.set 0 c).set 1 d
structure Change(w W w5:World)(bo bm nb:Nat)(M:DM)(k:Nat)(hk:k<M.IM.length)(L1:DL)(d1 s1:Dir)(c1:List Dir)(l:Value):Prop where
 ex:∃ ps vo vm fV d',zw w w5 bo bm nb M M.dir M.safe k ps vo vm fV L1 d1 s1 c1/\Rel ps M.IM[k] d'/\w5.ownsRow 0 148 2 l d'.length (flat d')/\(∀ j,l.ownBlock=some j->w.heap.size<=j)
 IJ:∀ (g:Nat) (c:List Value) (e:TypeId),Blk W g c e->e≠168->e≠146->Blk w5 g c e
theorem RP{w A W:World}{b g d y:Nat}{L q:DL}{M:DM}{k:Nat}{J:List (Nat × Nat)}{R N v:Value}{E:Nat->Value}{t z:Dir}{s:List Dir}(h:DRep w b L M)
 (c:M.ids.length<=100000000000)(j:∀ f,f∈M.ids->(M.file f).bytes.length<=1000000000000)(m:k<M.IM.length)(p:k<L.Hc.length)(i:M.IM[k].length<=100000000000)
 (C:zw w A g d y M M.dir M.safe k J R N E q t z s)(I:L.Hc[k]=v)(f:Fr Nil A W) :
 Calls Tryz.prog 99 #[v,.pointer (some ⟨g,0,none⟩),.pointer (some ⟨d,0,none⟩)] W fun e B =>
  ∃ a n,e=.returned (.slice a M.IM[k].length n)/\Change w W B g d y M k m q t z s (.slice a M.IM[k].length n):=by
 subst I;refine(Wi h c j (C.Gn f) L.Hc[k] M.IM[k] (h.IM k p m) (h.Gt _ (NN m)) i).mono ?_;rintro e B ⟨l,rfl,o⟩;obtain⟨K,T,Q,F,V,D,_,r,x,G⟩:=o.ex;obtain⟨a,n,u⟩:=zd x;rw[r.len] at u;subst u;exact⟨a,n,rfl,⟨_,_,_,_,_,D,r,x,G⟩,o.IJ⟩
theorem Change.row{w W c b:World}{e d q:Nat}{M:DM}{k:Nat}{j:k<M.IM.length}{a:DL}{i r:Dir}{h:List Dir}{l v:Value}(X:Change w W c e d q M k j a i r h l)(o:a.Gf=v)(f:Fr Nil c b) :
 b.ownsRow 0 145 1 v k a.Hc:=by
 subst o;obtain⟨_,_,_,_,_,C,_⟩:=X.ex;exact za C.ch f (fun _ _=>id)
theorem Change.cell{w W e:World}{i g c:Nat}{M:DM}{k:Nat}{q:k<M.IM.length}{a:DL}{o y:Dir}{j:List Dir}{l v:Value}(X:Change w W e i g c M k q a o y j l)(r:a.Gf=v) :
 e.cell? ⟨c,2,none⟩=some v:=by
 subst r;obtain⟨_,_,_,_,_,C,_⟩:=X.ex;exact C.IJ.cell 2
theorem Change.lt{w W c:World}{h g a:Nat}{M:DM}{k:Nat}{r:k<M.IM.length}{e:DL}{q t:Dir}{o:List Dir}{l:Value}(X:Change w W c h g a M k r e q t o l):a<c.heap.size:=by
 obtain⟨_,_,_,_,_,C,_⟩:=X.ex;exact C.IJ.lt
theorem Change.push{w W q s a:World}{x t d g:Nat}{M:DM}{k:Nat}{z:k<M.IM.length}{b:DL}{L s1:Dir}{J:List Dir}{l v B:Value}{c:List Value}(X:Change w W q x t d M k z b L s1 J l)(Y:b.Gf=v)(f:Fr Nil q s)
 (m:App s v 145 1 (k+1) (b.Hc++[l]) B a)(Q:Blk q g c 145)(R:∀ j,b.Gf.ownBlock=some j->j<g) :
 (∃ A E D y I N s2 K,zw w (a.setCell ⟨d,2,none⟩ B) x t d M M.dir M.safe (k+1) A E D y I N s2 K)/\(∀ i,a.cell? ⟨d,i,none⟩=(M.cells b)[i]?)/\(∀ i,a.frozen? ⟨d,i,none⟩=false) /\
   (∀ i,a.cell? ⟨g,i,none⟩=c[i]?):=by
 subst Y;obtain⟨A,E,D,y,d',C,r,V,T⟩:=X.ex;have h:Blk a d (M.cells b) 143:=(C.IJ.fr f id).fr m.fr (zf (za C.ch f (fun _ _=>id)) (C.IJ.fr f id) (by decide));have o:Blk a g c 145:=(Q.fr f id).fr m.fr (fun e=>by have:=R g e;omega);exact⟨⟨_,_,_,_,_,_,_,_,C.push z f m V r T⟩,h.cell,h.frozen,o.cell⟩
theorem RQ(w:World)(M:DM) :
 zw w (((w.alloc (.cells (M.cells DL.new).toArray 143)).alloc (.cells #[.slice none 0 0] 168)).alloc (.cells #[.slice none 0 0] 168)).drew (w.heap.size+1) (w.heap.size+1+1) w.heap.size M [] [] 0 [] (.slice none 0 0) (.slice none 0 0) DL.new.fV DL.new [] [] []:=by
 have f:Fr Nil w (((w.alloc (.cells (M.cells DL.new).toArray 143)).alloc (.cells #[.slice none 0 0] 168)).alloc (.cells #[.slice none 0 0] 168)).drew:=(by repeat' first|exact O _ _|(with_reducible assumption)|refine Fr.drewN ?_ _|refine Fr.drew ?_|refine Fr.alloc ?_ _|refine Fr.set ?_ ?_ _|(intro _;rfl));have c:(w.alloc (.cells (M.cells DL.new).toArray 143)).heap.size=w.heap.size+1:=by simp
 have d:((w.alloc (.cells (M.cells DL.new).toArray 143)).alloc (.cells #[.slice none 0 0] 168)).heap.size=w.heap.size+1+1:=by simp
 have a:=((Blk.new (w.alloc (.cells (M.cells DL.new).toArray 143)) [.slice none 0 0] 168).alloc (.cells #[.slice none 0 0] 168)).drew;have b:=(Blk.new ((w.alloc (.cells (M.cells DL.new).toArray 143)).alloc (.cells #[.slice none 0 0] 168)) [.slice none 0 0] 168).drew;have e:=(((Blk.new w (M.cells DL.new) 143).alloc (.cells #[.slice none 0 0] 168)).alloc (.cells #[.slice none 0 0] 168)).drew;rw[c] at a;rw[d] at b;exact zw.start M (Twin.start M a b (by omega) (by omega) (by omega) f _) e (NH _)
set_option maxRecDepth 100000 in
theorem QV(w:World)(b:Nat)(L:DL)(M:DM)(h:DRep w b L M)(l:M.ids.length<=100000000000)(a3:∀ d,d∈M.dir::M.safe::M.IM->d.length<=100000000000)(d0:M.IM.length<=100000000000)
 (E:∀ f,f∈M.ids->(M.file f).bytes.length<=1000000000000) :
 Calls Tryz.prog 54 #[.pointer (some ⟨b,0,none⟩)] w (SX w M):=by
 have hc:=h.IJ.cell;simp only[DM.cells] at hc;obtain⟨ca,cc,a0⟩:=zd h.ch;have d3:=h.IJ.lt;have d4:∀ (fn:Fn) (first Q:Array Value) (w:World),(Instr.makeFunc fn first Q).run Tryz.prog w=.ok (.func fn first Q) w:=fun _ _ _ _=>rfl;have c2:¬b=w.heap.size:=by omega
 have c3:¬w.heap.size=b:=by omega
 have B:=RQ w M;simp only[DM.cells,DL.new] at B;have K:=Z B;have m:=Z h;have z:=Z a0;have A:=Z a3;clear h a0 a3 B;go_enter Tryz.func54,Tryz.ntmps54
 go_wp2
 refine MR 33 (by kernel_rfl) (by kernel_rfl) ?_;simp only[MI,Lk,MX,Lq]
 iterate 33 still_step
 refine Kh ?_
 go_wp2
 obtain⟨W2,V⟩:∃ W2,(((w.alloc (.cells #[.slice none 0 0,.slice none 0 0,.slice none 0 0,.int .i64 M.room,.int .i64 M.calls,.int .i64 M.cut,.int .i64 M.fail,.int .i64 M.part,.int .i64 M.refused,.int .i64 M.IR,.bool M.dead] 143)).alloc (.cells #[.slice none 0 0] 168)).alloc (.cells #[.slice none 0 0] 168)).drew=W2:=⟨_,rfl⟩;have p:=K.out;rw[V] at p |-;have q:=(m.out.IJ.fr p.T.fr id).cell;simp only[DM.cells] at q;have r:=q 0;have s:=q 1;simp at r s;have N:=Z p;clear p V hc K q
 go_region_held3 (fun w'=>w'.cell? ⟨b,0,none⟩=some L.Hg/\w'.cell? ⟨b,1,none⟩=some L.IZ) (first|go_keep|exact⟨‹_›,‹_›⟩)
  (first
  | (go_at_call 99;refine(RO m.out l E (A.out _ (NO _ (NR ..))) HF.out z8).mono ?_;rintro e w4 ⟨a2,n2,rfl,J⟩;have c7:=J.c0;have c8:=J.c1;have a7:=J.n;have b7:=J.nf;simp only[DM.cells,DL.new] at a7;have HS:=Z J;clear J)
  | (go_at_call 99;refine(QU m.out l E (A.out _ (NR ..)) (N.out.Gn z8)).mono ?_;rintro e w3 ⟨a1,n1,rfl,hF⟩;have c4:=hF.c0;have c5:=hF.c1;have HF:=Z hF;clear hF))
 have hL:=HS.out.lists;obtain⟨W5,X⟩:∃ W5,((w4.setCell ⟨w.heap.size,0,none⟩ (.slice a1 M.dir.length n1)).setCell ⟨w.heap.size,1,none⟩ (.slice a2 M.safe.length n2))=W5:=⟨_,rfl⟩;rw[X] at hL |-;obtain⟨ps,vo,vm,fV,d1,s1,C⟩:=hL;have a:=(m.out.IJ.fr C.T.fr id).cell;simp only[DM.cells] at a;have i:=a 2;simp at i;rw[z.out] at i;have b2:=Z C;clear C a X HS HF N a7 b7 r s;go_wp2_with fail
 go_loopw [67] (fun c w'=>∃ k:Nat,k<=M.IM.length/\c=.int .i64 k/\∃ ps vo vm fV L1 d1 s1 c1,zw w w' (w.heap.size+1) (w.heap.size+1+1) w.heap.size M M.dir M.safe k ps vo vm fV L1 d1 s1 c1) (fun c _=>M.IM.length-(intOf c).toNat)
 case atStart=>exact⟨0,NV _,rfl,_,_,_,_,_,_,_,_,b2.out⟩
 case round =>
  obtain⟨I,rfl⟩:∃ x,x=wr:=⟨wr,rfl⟩;obtain⟨k,hk,rfl,ps,vo,vm,fV,L1,d1,s1,c1,C⟩:=hrel;have y:=Z C;clear C i;by_cases G:k<M.IM.length
  .obtain⟨cg,hcg⟩:∃ g,ca=some ⟨g,0,none⟩:=by
    obtain⟨g,c',h',_⟩:=zr m.out.ch (by omega);rw[z.out] at h';simp at h';exact⟨g,h'.1⟩
   subst hcg;have F:k<L.Hc.length:=by rw[m.out.Gd];exact G
   obtain⟨ea,ec,D⟩:=zd (m.out.IM k F G);have c9:I.cell? ⟨cg,k,none⟩=some (.slice ea M.IM[k].length ec):=by
    have:=za m.out.ch y.out.T.fr (fun _ _=>id);rw[z.out] at this;rw[<- D];exact own_cell? this k _ (by simp[F])
   have b6:=A.out M.IM[k] (by simp);obtain⟨na,nc,b0⟩:=zd y.out.ch;have o:=Z b0;have b4:=Z D;have b5:Hid (∀ W',Fr Nil I W'->W'.cell? ⟨w.heap.size,2,none⟩=some (.slice na k nc)):=fun W' hf=>by
    have:=(y.out.IJ.fr hf id).cell 2;simp[DM.cells] at this;rw[o.out] at this;exact this
   clear b0 D;have d5:=y.out.IJ.lt;have d6:¬I.heap.size=w.heap.size:=by omega
   have d7:¬w.heap.size=I.heap.size:=by omega
   have HG:Hid (∀ j,L1.Gf.ownBlock=some j->j<I.heap.size):=fun j hj=>Z1 y.out.ch hj;go_wp2_with fail;have a9:=b5.out _ (Fr.alloc (O _ _) (.cells #[.slice ea M.IM[k].length ec] 145));have t:=(Blk.new I [.slice ea M.IM[k].length ec] 145).cell 0;simp at t
   go_region_law
    (first
    | (refine Zg (by rfl) _ _ _ _ (by rfl) _ _ (by rfl) (by rfl) (zn 141 _ 145 1 24 Tryz.underlying141 WV (by decide) _ _ _ (HX.out.row o.out z8)
        ⟨w5.heap.size,0,none⟩ 1 1 [.slice a5 M.IM[k].length n5] rfl (YG _ _ _ _ (by simp)) (by intro u hu;simp at hu;subst hu;rfl) (by unfold maxLen;omega) (by omega)) ?_;intro v6 w6 ha;obtain⟨a6,c6,c0⟩:=zd ha.own;subst c0
       obtain⟨T,a8,b8,a4⟩:=HX.out.push o.out z8 ha b1.out HG.out;have v:=a4 0;simp at v;simp only[DM.cells] at a8;have b3:=Z T;clear a4 ha T)
    | (go_simp;go_at_call 99;refine(RP m.out l E G F b6 y.out b4.out z8).mono ?_;rintro e w5 ⟨a5,n5,rfl,Y⟩
       have a:=Y.IJ _ _ _ ((Blk.new I [.slice ea M.IM[k].length ec] 145).fr (S:=Nil) z8 id) (by decide) (by decide);have R:=a.cell 0;simp at R;have b9:=Y.cell o.out;have d2:w.heap.size<w5.heap.size:=Y.lt;have HX:=Z Y;have b1:=Z a;clear Y a))
   all_goals
    (clear a8 b8 v b9 R t a9
     go_wp2
     exact⟨⟨k+1,by omega,by go_num,b3.out⟩,by simp[intOf];omega⟩)
  .have hkn:k=M.IM.length:=by omega
   subst hkn
   go_wp2
   go_ret;exact y.out.said m.out.le
structure Pairs(M:DM)(ps:List (Nat × Nat)):Prop where
 n1:(ps.map Prod.fst).Nodup
 n2:(ps.map Prod.snd).Nodup
 old:∀ p∈ps,p.1∈M.ids
 dir:∀ e∈M.dir,∃ g,(e.2,g)∈ps
theorem Wj{a:List (Nat × Nat)}{M:DM}(h:Pairs M a){e:ByteArray × Nat}(c:e∈M.dir):(e.2,second a e.2)∈a:=by
 obtain⟨g,b⟩:=h.dir e c;rw[WJ h.n1 b];exact b
theorem ZE{a:List (Nat × Nat)}{M:DM}(h:Pairs M a){e:ByteArray × Nat}(b:e∈M.dir):first a (second a e.2)=e.2:=Wh h.n2 (Wj h b)
theorem UH{c:List (Nat × Nat)}{M:DM}(h:Pairs M c)(k:(M.dir.map (·.2)).Nodup):((M.Hv c).dir.map (·.2)).Nodup:=by
 show((zD c M.dir).map (·.2)).Nodup;unfold zD;rw[LQ];refine Ki.2 ?_;refine(List.Pairwise.imp_of_mem ?_ (Ki.1 k));intro a b i j d e;have g:second c a.2=second c b.2:=e;exact d (by rw[<- ZE h i,<- ZE h j,g])
theorem Lies.Hv{M:DM}{d:List Seg}(h:Lies M d){a:List (Nat × Nat)}(c:Pairs M a):Lies (M.Hv a) d where
 view:=by
  rw[<- h.view];show(zD a M.dir).map (fun e=>(e.1,(M.file (first a e.2)).bytes))=_;unfold zD DM.view;rw[LQ];refine MP fun e b=>?_;show(e.1,(M.file (first a (second a e.2))).bytes)=_;rw[ZE c b]
 once:=UH c h.once
 Hy:=fun e b=>by
  obtain⟨x,g,rfl⟩:=Mn.1 b;exact Mn.2 ⟨_,Wj c g,rfl⟩
theorem Bd.Hv{M:DM}{t:Nat}(h:Bd M t){b:List (Nat × Nat)}(c:Pairs M b):Bd (M.Hv b) t where
 c0:=h.c0
 calls:=h.calls
 f0:=h.f0
 fr:=h.fr
 rc:=h.rc
 r0:=h.r0
 r1:=h.r1
 part:=h.part
 all:=by
  refine NG (NG (KL ?_) (WP (fun g=>(M.file g).bytes.length) (b.map Prod.fst) M.ids c.n1 (fun x i=>by obtain⟨p,a,rfl⟩:=Mn.1 i;exact c.old p a))) h.all;show((b.map Prod.snd).map fun g=>(M.file (first b g)).bytes.length).sum=_;rw[LQ,LQ];refine Lx List.sum (MP fun p a=>?_);show(M.file (first b p.2)).bytes.length=(M.file p.1).bytes.length;rw[Wh c.n2 (f:=p.1) a]
 GJ:=c.n2
 GC:=by
  show(b.map Prod.snd).length<=t;have:=Vm (b.map Prod.fst) M.ids c.n1 (fun x i=>by obtain⟨p,a,rfl⟩:=Mn.1 i;exact c.old p a);rw[Mq] at this |-;exact NG this h.GC
 Hy:=fun e l=>by
  obtain⟨x,i,rfl⟩:=Mn.1 l;exact Mn.2 ⟨_,Wj c i,rfl⟩
 once:=UH c h.once
 IM:=by show(M.IM.map _).length<=t;rw[Mq];exact h.IM
 Hq:=fun d k=>by
  have j:d∈(M.safe::M.IM).map (zD b):=k;obtain⟨x,i,rfl⟩:=Mn.1 j;unfold zD;rw[Mq];exact h.Hq x i
 dir:=by show(zD b M.dir).length<=t;unfold zD;rw[Mq];exact h.dir
theorem Nd{M:DM}(b:List Seg){a:List (Nat × Nat)}(c:Pairs M a):gl (M.Hv a) b=gl M b:=by
 unfold gl;show((zD a M.dir).zip b).map (fun x=>cnt x.2.1 (M.file (first a x.1.2)).safe)=_;unfold zD;rw[List.zip_map_left,LQ];refine MP fun x d=>?_;show cnt x.2.1 (M.file (first a (second a x.1.2))).safe=_;rw[ZE c (List.of_mem_zip d).1]
theorem Lg.Hv{M:DM}{k:List Seg}{p t:Nat}(h:Lg M k p t){a:List (Nat × Nat)}(g:Pairs M a):Lg (M.Hv a) k p t where
 bd:=h.bd.Hv g
 Hl:=h.Hl.Hv g
 ok:=h.ok
 Gp:=h.Gp
 pre:=fun D i=>by
  have c:D∈(M.safe::M.IM).map (zD a):=i;obtain⟨x,b,rfl⟩:=Mn.1 c;exact(h.pre x b).map _
 le:=fun e j=>by
  obtain⟨x,b,rfl⟩:=Mn.1 j;show(M.file (first a (second a x.2))).safe<=(M.file (first a (second a x.2))).bytes.length;rw[ZE g b];exact h.le x b
 full:=fun e j=>by
  have d:e∈(zD a M.dir).dropLast:=j;unfold zD at d;rw[<- List.map_dropLast] at d;obtain⟨x,b,rfl⟩:=Mn.1 d;show(M.file (first a (second a x.2))).safe=(M.file (first a (second a x.2))).bytes.length;rw[ZE g (List.dropLast_subset _ b)];exact h.full x b
 Gz:=fun D i=>by
  have c:D∈(M.safe::M.IM).map (zD a):=i;obtain⟨x,b,rfl⟩:=Mn.1 c;have e:(zD a x).length=x.length:=by unfold zD;rw[Mq]
  rw[e];unfold lft;rw[Nd k g];exact h.Gz x b
theorem Lg.Hj{M:DM}{a:List Seg}{p t:Nat}(h:Lg M a p t)(n:Int):Lg (M.Hj n) a p t :=
 ⟨⟨h.bd.c0,h.bd.calls,h.bd.f0,h.bd.fr,h.bd.rc,h.bd.r0,h.bd.r1,h.bd.part,h.bd.all,h.bd.GJ,h.bd.GC,h.bd.Hy,h.bd.once,h.bd.IM,h.bd.Hq,h.bd.dir⟩,h.Hl.same rfl (fun _=>rfl) rfl,h.ok,h.Gp,h.pre,h.le,h.full,h.Gz⟩
theorem Lg.Hf{M:DM}{b:List Seg}{p t:Nat}(h:Lg M b p t)(n a:Int)(c:-9223372036854775808<=a)(d:a<=9223372036854775807):Lg (M.Hf n a) b p t :=
 ⟨⟨h.bd.c0,h.bd.calls,h.bd.f0,h.bd.fr,h.bd.rc,h.bd.r0,h.bd.r1,(by
  show 0<=(if a<0 then wrap64 (-(wrap64 (a+1))) else a);split
  .unfold wrap64;omega
  .omega),h.bd.all,h.bd.GJ,h.bd.GC,h.bd.Hy,h.bd.once,h.bd.IM,h.bd.Hq,h.bd.dir⟩,h.Hl.same rfl (fun _=>rfl) rfl,h.ok,h.Gp,h.pre,h.le,h.full,h.Gz⟩
theorem PR{w:World}{b:Nat}{L:DL}{M:DM}{u:List Seg}{p t:Nat}(h:DRep w b L M)(r:Lg M u p t)(x:t<=100000000) :
 Calls Tryz.prog 54 #[.pointer (some ⟨b,0,none⟩)] w fun e m=>∃ c i g,e=.returned (.pointer (some ⟨c,0,none⟩))/\Own w m c i (M.Hv g)/\Pairs M g:=by
 have a:=r.bd;have l:=a.GC;have k:=a.IM;refine(QV w b L M h (by omega) (fun d o=>?_) (by omega) (fun f q=>by have:=a.file q;omega)).mono ?_
 .rcases Mj.1 o with e|e
  .rw[e];have:=a.dir;omega
  .have:=a.Hq d e;omega
 .rintro e m ⟨c,i,g,j,ho,h1,h2,h3,h4⟩
  exact⟨c,i,g,j,ho,h1,h2,fun p s=>(h3 p s).1,fun e j=>h4 e (.inl j)⟩
def NM.opened(d a c:Nat)(b:List Seg):NM:={self:=d,given:=(Z4 b).II,every:=c,writes:=0,readOnly:=false,J:=JM.at a b false,S:=Z4 b}
theorem PS(a:List Fact):a.length<=(zx a).length:=by
 induction a with
 | nil=>exact NV _
 | cons x a b =>
  have:=Vh (zl x);simp only[zx,NX,Lf,NF,NY] at b |-;omega
theorem QW(S:SM)(x:Fact):(S.enter x).keys.length<=S.keys.length+1:=by
 rcases x with n|x|x|x
 .exact Ly _
 .exact PE S x.1 x.2
 .exact Ly _
 .exact Ly _
theorem Va(a:List Fact):∀ S:SM,(a.foldl SM.enter S).keys.length<=S.keys.length+a.length:=by
 induction a with
 | nil=>intro S;exact NH _
 | cons x a b =>
  intro S;have c:=b (S.enter x);have d:=QW S x;rw[Lt,NY];omega
theorem OG(M:DM):M.Hr=(M.view.map fun e=>e.2.length).sum:=by
 unfold DM.Hr DM.view;rw[LQ]
 rfl
theorem OH(k:Nat)(a:List Seg):(zc a).length<=((Zm k a).map fun e=>e.2.length).sum:=by
 induction a generalizing k with
 | nil=>exact NV _
 | cons s a c =>
  have b:=c (k+1);have d:=PS s.1;simp only[zc,NX,Lf,NF,Zm,Lr,zX] at b |-;omega
theorem Lg.FN{M:DM}{a:List Seg}{p t:Nat}(h:Lg M a p t)(g:t<=100000000) :
 ∀ i,(((zc a).take i).foldl SM.enter SM.nil).keys.length<1099511627776/\(((zc a).take i).foldl SM.enter SM.nil).hints.length<1000000:=fun i=>by
 have b:=Va ((zc a).take i) SM.nil;have c:=OH 0 a;rw[<- h.Hl.view,<- OG] at c;have d:=h.bd.Hr;have e:=h.Gp i;rw[NJ] at b;have f:SM.nil.keys.length=0:=rfl;omega
theorem Lg.short{M:DM}{a:List Seg}{p t:Nat}(h:Lg M a p t)(d:t<=100000000):a.length<1000000000:=by
 have b:=h.bd.dir;have c:=h.Hl.length;omega
theorem Lg.opened{M:DM}{b:List Seg}{p t:Nat}(h:Lg M b p t)(d a c:Nat)(P:Prop):Kp (NM.opened d a c b) M (zc b) p t P :=
 ⟨⟨b,h,rfl,fun _=>⟨by rw[show(NM.opened d a c b).J=JM.at a b false from rfl,JM.Ff,JM.Fs],fun e=>by rw[show(NM.opened d a c b).J=JM.at a b false from rfl,JM.Fs] at e;cases e⟩⟩,by
  show Z4 b=atF (zc b) (zc b).length;unfold atF Z4;rw[Mt]⟩
theorem UI(B b:Nat)(L:DL)(M:DM)(c a sync:Nat)(r:List Seg)(hc:Zz c a sync=true)(w:World)(h:DRep w b L M)(hl:Lies M r)(a5:WG r)(A:r.length<1000000000)
 (C:∀ i,(((zc r).take i).foldl SM.enter SM.nil).keys.length<1099511627776/\(((zc r).take i).foldl SM.enter SM.nil).hints.length<1000000)
 (E:ZM B w)(hB:B<=w.heap.size)(J:∀ k,Foot b L M k->B<=k) :
 Calls Tryz.prog 49 #[.pointer (some ⟨b,0,none⟩),.agg #[.int .i64 c,.int .i64 a,.int .i64 sync]] w fun e w' =>
  ∃ m,e=.returned (.tuple #[.pointer (some ⟨m.nb,0,none⟩),.int .i64 0])/\NRep w' m (NM.opened c a sync r) M/\m.db=b/\(∀ k,NFoot m M k->Foot b L M k\/w.heap.size<=k)/\(∀ k,SRead m.LS k->w.heap.size<=k)/\Fr (Foot b L M) w w':=by
 have bc:=Blk.new w [.int .i64 c,.int .i64 a,.int .i64 sync] 102;have f0:Fr Nil w (w.alloc (.cells #[.int .i64 c,.int .i64 a,.int .i64 sync] 102)):=(O _ _).alloc _;have HC:=Z (U7 c a sync (w.alloc (.cells #[.int .i64 c,.int .i64 a,.int .i64 sync] 102)));rw[hc] at HC;have HH:=Z h;have X:=Z E;have T:=Z hB;have d:=Z (And.intro hl (And.intro a5 (And.intro A C)));clear hc h E hl a5 A C;go_enter Tryz.func49,Tryz.ntmps49;go_wp2_with fail;generalize w.alloc (.cells #[.int .i64 c,.int .i64 a,.int .i64 sync] 102)=wc at bc f0 HC |-;refine HC.out.mono ?_;rintro e j ⟨rfl,I⟩;have o:=bc.fr I id;have F1:=f0.trans I;generalize a1:w.heap.size=y at o |-;have a6:=Z a1;clear bc f0 I a1 HC;have bs:=Blk.new j [.slice none 0 0,.slice none 0 0,.int .i64 0] 161;have f2:Fr Nil j (j.alloc (.cells #[.slice none 0 0,.slice none 0 0,.int .i64 0] 161)):=(O _ _).alloc _;have c2:=(o.fr f2 id).cell;have HR:SRep (j.alloc (.cells #[.slice none 0 0,.slice none 0 0,.int .i64 0] 161)) j.heap.size ⟨.slice none 0 0,.slice none 0 0,[]⟩ SM.nil :=
  ⟨bs,⟨Mh _ 0 _ _,List.Pairwise.nil,fun e he=>by cases he⟩,trivial,Mh _ 0 _ _⟩
 have R:=F1.trans f2;have F:=Z (QO B b L M a j.heap.size ⟨.slice none 0 0,.slice none 0 0,[]⟩ r _ (HH.out.nil R) HR d.out.1 d.out.2.1 d.out.2.2.1 d.out.2.2.2 (X.out.fr T.out R (fun _ e=>absurd e id)) (NG T.out R.size) J);have l:=Z (o.fr f2 id);have g:=Z R;have z:=F1.size;have b0:y<j.heap.size:=o.lt;have D:j.heap.size<(j.alloc (.cells #[.slice none 0 0,.slice none 0 0,.int .i64 0] 161)).heap.size:=by simp
 have a4:∀ k,SFoot j.heap.size ⟨.slice none 0 0,.slice none 0 0,[]⟩ k->k=j.heap.size:=fun k Q=>by
  rcases Q with e|e|e
  .exact e
  .simp[Value.ownBlock] at e
  .simp[Value.ownBlock] at e
 have t:=Z a4;clear bs o F1 f2 HR R a4;go_wp2_with fail;generalize j.alloc (.cells #[.slice none 0 0,.slice none 0 0,.int .i64 0] 161)=w2 at F l g c2 D |-;generalize j.heap.size=N at F z D t b0 |-;refine F.out.mono ?_;rintro e q ⟨jb,L2,Y,rfl,hj,b6,a3,b1,K,b3,b4,u⟩;have F3:Fr (Foot b L M) w q:=(g.out.mono (S':=Foot b L M) (fun _ _ e=>absurd e id)).trans' u (fun k Q e=>e.elim (fun e=>by have:=t.out k e;omega) id);have a2:¬(SFoot N ⟨.slice none 0 0,.slice none 0 0,[]⟩ y\/Foot b L M y):=fun e=>e.elim (fun e=>by have h1:=t.out y e;omega) (fun e=>by have:=HH.out.lt e;have:=a6.out;omega);have G:=l.out.fr u a2;have HJ:=Z hj;have HS:=Z K;have a7:=Z a3;have HF:=Z F3;have HL:=Z (fun s (f:Fr Nil q s)=>WA N _ _ s (K.nil f));have HK:Hid (∀ s,Fr Nil q s->s.cell? ⟨y,0,none⟩=some (.int .i64 c)/\s.cell? ⟨y,2,none⟩=some (.int .i64 sync)):=fun s f=>⟨(G.fr f id).cell 0,(G.fr f id).cell 2⟩;obtain⟨k0,k2⟩:=HK.out q (O _ _);have b5:=u.size;clear hj u F3 G K a3 c2 a2 l;generalize a0:Z4 r=S0 at HL HS;have a9:=Z a0;clear a0;go_wp2_with fail
 go_region_held3 (fun s=>s.cell? ⟨y,0,none⟩=some (.int .i64 c)/\s.cell? ⟨y,2,none⟩=some (.int .i64 sync)) (first|assumption|go_keep|exact HK.out _ z8)
  (first|(go_at_call 98;refine(HL.out _ z8).mono ?_;rintro e wl ⟨rfl,b7⟩;subst wl))
 have bn:=(Blk.new q (({self:=c,given:=S0.II,every:=sync,writes:=0,readOnly:=false,J:=JM.at a r false,S:=S0}:NM).cells {nb:=q.heap.size,jb:=jb,sb:=N,db:=b,mv:=.pointer none,LS:=Y,LD:=L2}) 123).drew;have fn:Fr Nil q (q.alloc (.cells #[.int .i64 c,.pointer (some ⟨jb,0,none⟩),.pointer (some ⟨N,0,none⟩),.int .i64 S0.II,.int .i64 sync,.int .i64 0,.pointer none,.bool false] 123)).drew:=((O _ _).alloc _).drew;have V:Hid (NRep (q.alloc (.cells #[.int .i64 c,.pointer (some ⟨jb,0,none⟩),.pointer (some ⟨N,0,none⟩),.int .i64 S0.II,.int .i64 sync,.int .i64 0,.pointer none,.bool false] 123)).drew {nb:=q.heap.size,jb:=jb,sb:=N,db:=b,mv:=.pointer none,LS:=Y,LD:=L2} (NM.opened c a sync r) M):=by
  unfold NM.opened;rw[a9.out];exact⟨bn,Blk.fr HJ.out fn id,HS.out.nil fn,a7.out.nil fn⟩
 have a8:Hid (Fr (Foot b L M) w (q.alloc (.cells #[.int .i64 c,.pointer (some ⟨jb,0,none⟩),.pointer (some ⟨N,0,none⟩),.int .i64 S0.II,.int .i64 sync,.int .i64 0,.pointer none,.bool false] 123)).drew):=HF.out.trans (fn.mono (S':=Foot b L M) (fun _ _ e=>absurd e id));have b2:=HF.out.size;clear bn fn
 go_wp2
 go_ret2;refine⟨_,rfl,V.out,rfl,fun k Q=>?_,fun k Q=>?_,a8.out⟩
 .rcases Q with e|e|e|e
  .exact .inr (by rw[e];exact b2)
  .exact .inr (by rw[e];have:=g.out.size;simp only;omega)
  .rcases b3 k e with e|e
   .exact .inr (by rw[t.out k e];exact z)
   .exact .inr (NG g.out.size e)
  .exact(b1 k e).imp id (fun e=>NG g.out.size e)
 .rcases b4 k Q with e|e
  .obtain⟨x,hx,_⟩:=e
   cases hx
  .exact NG g.out.size e
def ZV(b top:Int):List Ver->List Ver->Int->Option Int
 | [],[],n=>some n
 | a::l,u::m,n =>
  if u.seq=0 then(if a.seq<=b\/top<a.seq then none else if TG {a with seq:=0} u then ZV b top l m a.seq else none)
  else if TG a u then ZV b top l m n else none
 | _,_,_=>none
theorem YD{a top:Int}:∀ {m:List Ver}{n:Int},(∀ u∈m,u.seq≠0)->ZV a top m m n=some n
 | [],_,_=>rfl
 | u::m,n,h=>by
  unfold ZV;rw[NU (h u (NR ..)),Mg ((Xs _ _).2 rfl),YD (n:=n) (fun v b=>h v (NO _ b))]
def Vn(n:Int)(v:Ver):Ver:=if v.seq=0 then {v with seq:=n} else v
def zM(top:Int):Int->Keys->Keys->Keys × Int × Bool
 | mo,[],[]=>([],mo,true)
 | mo,(a,l)::S,(b,u)::M =>
  if a=b then
   match ZV mo top l u 0 with
   | none=>((b,u)::M,mo,false)
   | some n=>if 0<n then((b,u.map (Vn n))::(zM top n S M).1,(zM top n S M).2) else((b,u)::(zM top mo S M).1,(zM top mo S M).2)
  else((b,u)::M,mo,false)
 | mo,_,M=>(M,mo,false)
def Y7(W:WM)(N:NM)(m:LM):Nat × Option LM :=
 if N.readOnly=W.broken/\N.S.keys.length=m.keys.length/\N.S.hints=m.hints then
  ((zM (16*W.calls) W.most N.S.keys m.keys).2.1.toNat,if (zM (16*W.calls) W.most N.S.keys m.keys).2.2=true then some {m with keys:=(zM (16*W.calls) W.most N.S.keys m.keys).1} else none)
 else(W.most,none)
theorem PT{b c n:Int}{a:ByteArray}{l u:List Ver}{S M:Keys}(h:ZV c b l u 0=some n)(d:0<n):zM b c ((a,l)::S) ((a,u)::M)=((a,u.map (Vn n))::(zM b n S M).1,(zM b n S M).2):=by
 conv=>lhs;unfold zM
 rw[Mg rfl,h];simp only;rw[Mg d]
theorem Vo{top mo n:Int}{a:ByteArray}{l u:List Ver}{S M:Keys}(h:ZV mo top l u 0=some n)(b:¬0<n):zM top mo ((a,l)::S) ((a,u)::M)=((a,u)::(zM top mo S M).1,(zM top mo S M).2):=by
 conv=>lhs;unfold zM
 rw[Mg rfl,h];simp only;rw[NU b]
def YE(self:Int)(a:Int)(K:Keys):Prop:=∀ e∈K,∀ u∈e.2,u.node=self->u.seq<=a
def Given(K:Keys):Prop:=∀ e∈K,∀ u∈e.2,1<=u.seq
def WQ(self:Int)(K:Keys):Prop:=∀ e∈K,∀ u∈e.2,u.seq=0->u.node=self
theorem YE.mono{self c a:Int}{K:Keys}(h:YE self c K)(o:c<=a):YE self a K:=fun e g u r q=>Int.le_trans (h e g u r q) o
theorem Given.zero{self:Int}{K:Keys}(h:Given K):WQ self K:=fun e a u b c=>by have:=h e a u b;omega
theorem UJ{self j top:Int}:∀ {l m:List Ver}{s:Int},(∀ u∈l,u.node=self->u.seq<=j)->(∀ u∈l,1<=u.seq)->(∀ u∈m,u.seq=0->u.node=self)->l≠m->ZV j top l m s=none
 | [],[],s,_,_,_,h=>absurd rfl h
 | a::l,u::m,s,d,f,g,h=>by
  have k:=fun s=>UJ (top:=top) (s:=s) (fun x b=>d x (NO _ b)) (fun x b=>f x (NO _ b)) (fun x b=>g x (NO _ b)) (l:=l) (m:=m);unfold ZV;have o:=f a (NR ..);by_cases c:u.seq=0
  .rw[Mg c]
   split
   .rfl
   .split
    .rename_i hm hs
     exfalso
     have e:=(Xs _ _).1 hs;have i:=g u (NR ..) c;rw[<- e] at i;have:=d a (NR ..) i;exact hm (.inl this)
    .rfl
  .rw[NU c]
   split
   .rename_i hs
    have e:=(Xs _ _).1 hs;subst e;exact k s (fun e=>h (by rw[e]))
   .rfl
 | [],_::_,_,_,_,_,_=>rfl
 | _::_,[],_,_,_,_,_=>rfl
theorem WK{mo top:Int}:∀ {S:Keys},Given S->zM top mo S S=(S,mo,true)
 | [],_=>rfl
 | (a,l)::S,h=>by
  have d:=WK (mo:=mo) (top:=top) (S:=S) (fun e b=>h e (NO _ b));rw[Vo (YD (n:=0) (fun u c=>by have:=h (a,l) (NR ..) u c;omega)) (by omega),d]
theorem SY{self g top:Int}:∀ {S M:Keys},YE self g S->Given S->WQ self M->S≠M->zM top g S M=(M,g,false)
 | [],[],_,_,_,h=>absurd rfl h
 | (a,l)::S,(b,u)::M,i,f,j,h=>by
  by_cases c:a=b
  .subst c
   by_cases k:l=u
   .subst k
    have o:=SY (top:=top) (S:=S) (M:=M) (fun e d=>i e (NO _ d)) (fun e d=>f e (NO _ d)) (fun e d=>j e (NO _ d)) (fun e=>h (by rw[e]));rw[Vo (YD (n:=0) (fun u m=>by have:=f (a,l) (NR ..) u m;omega)) (by omega),o]
   .unfold zM
    rw[Mg rfl,UJ (i (a,l) (NR ..)) (f (a,l) (NR ..)) (j (a,u) (NR ..)) k]
  .unfold zM
   rw[NU c]
 | [],_::_,_,_,_,_=>rfl
 | _::_,[],_,_,_,_=>rfl
theorem UK{mo top:Int}:∀ (A:Keys){S M:Keys},Given A->zM top mo (A++S) (A++M)=(A++(zM top mo S M).1,(zM top mo S M).2)
 | [],_,_,_=>rfl
 | (a,l)::A,S,M,h=>by
  have d:=UK (mo:=mo) (top:=top) A (S:=S) (M:=M) (fun e b=>h e (NO _ b));rw[MA,MA,Vo (YD (n:=0) (fun u c=>by have:=h (a,l) (NR ..) u c;omega)) (by omega),d]
  rfl
theorem RR{mo top n:Int}{K:Keys}(a:ByteArray)(v:Ver)(h:Yb K)(d:Given K)(c:v.seq=0)(j:mo<n)(k:0<=mo)(l:n<=top) :
 zM top mo (Z0 K a [{v with seq:=n}]) (Z0 K a [v])=(Z0 K a [{v with seq:=n}],n,true):=by
 rw[Zy a _ h,Zy a _ h];simp only[Ji,MG];unfold Zk;have f:∀ e∈K.take (low zb (K.map Prod.fst) a),e∈K:=fun e b=>Lj b;have g:∀ e∈K.drop (if zC zb (K.map Prod.fst) a=true then low zb (K.map Prod.fst) a+1 else low zb (K.map Prod.fst) a),e∈K:=fun e b=>MF b;generalize K.take (low zb (K.map Prod.fst) a)=A at f |-;generalize K.drop (if zC zb (K.map Prod.fst) a=true then low zb (K.map Prod.fst) a+1 else low zb (K.map Prod.fst) a)=C at g |-;rw[Mf,Mf,UK A (fun e b=>d e (f e b))];simp only[List.singleton_append];have i:ZV mo top [{v with seq:=n}] [v] 0=some n:=by
  unfold ZV;rw[Mg c,NU (by simp only;omega),Mg ((Xs _ _).2 (by cases v;simp only at c |-;rw[c]))]
  rfl
 rw[PT i (by omega),WK (fun e b=>d e (g e b))];simp[Vn,c]
def zV(m:LM)(S:SM):Prop:=m.keys=S.keys/\m.hints=S.hints
structure MOk(node:Int)(m:LM)(t:Nat):Prop where
 Gm:Yb m.keys
 keys:m.keys.length<=t
 lens:∀ e∈m.keys,e.2.length<=5
 hints:m.hints.length<=33
 zero:WQ node m.keys
 node:m.node=node
def YT(b:Int)(a c:Nat)(S:SM):Prop:=Zl S/\c<=S.II/\S.II<=16*a/\YE b c S.keys
def Z6(b:Int)(a c:Nat)(F:List Fact)(p:Nat):Prop:=∀ q,p<=q->q<=F.length->YT b a c (atF F q)
def Hist(st:List LM)(F:List Fact)(p:Nat)(a:Prop):Prop :=
 ∃ j:Nat->Nat,(∀ q r,q<=r->j q<=j r)/\(∀ q,p<=q->q<=F.length->∃ m,st[j q]?=some m/\zV m (atF F q))/\(a->j F.length+1=st.length)
theorem Hist.mono{st:List LM}{F:List Fact}{p e:Nat}{T c:Prop}(h:Hist st F p T)(z:p<=e)(y:c->T):Hist st F e c:=by
 obtain⟨j,g,o,r⟩:=h;exact⟨j,g,fun q a b=>o q (NG z a) b,fun t=>r (y t)⟩
theorem Hist.last{st:List LM}{F:List Fact}{p:Nat}(h:Hist st F p True)(d:p<=F.length):∃ m,st[st.length-1]?=some m/\zV m (atF F F.length)/\0<st.length:=by
 obtain⟨j,g,b,c⟩:=h;obtain⟨m,a,f⟩:=b F.length d (NH _);have:=c trivial;have e:j F.length=st.length-1:=by omega
 rw[e] at a;exact⟨m,a,f,by omega⟩
theorem Hist.quiet{st:List LM}{F:List Fact}{p:Nat}{T:Prop}(h:Hist st F p T)(l:p<=F.length)(x:Fact)(o:∀ m,zV m (atF F F.length)->zV m ((atF F F.length).enter x)):Hist st (F++[x]) p T:=by
 obtain⟨j,i,g,k⟩:=h;refine⟨fun q=>j (min q F.length),fun q r h=>i _ _ (by omega),fun q a b=>?_,fun t=>?_⟩
 .rw[NF,NK] at b
  by_cases d:q<=F.length
  .obtain⟨m,c,f⟩:=g q a d
   refine⟨m,?_,by rw[Yi d];exact f⟩;show st[j (min q F.length)]?=_;rw[MM d];exact c
  .have e:q=F.length+1:=by omega
   obtain⟨m,c,f⟩:=g F.length l (NH _);refine⟨m,?_,?_⟩
   .show st[j (min q F.length)]?=_
    rw[JU (by omega)];exact c
   .rw[e,Yc]
    exact o m f
 .rw[NF,NK]
  show j (min (F.length+1) F.length)+1=_;rw[JU (by omega)];exact k t
theorem Hist.push{st:List LM}{F G:List Fact}{p:Nat}{T:Prop}(o:G.length<=1)(h:p<=F.length->Hist st F p T)(i:p<=(F++G).length)(m:LM)(g:zV m (atF (F++G) (F++G).length)):Hist (st++[m]) (F++G) p True:=by
 by_cases f:p<=F.length
 .obtain⟨j,h1,h2,h3⟩:=h f
  refine⟨fun q=>if q<(F++G).length then min (j q) st.length else st.length,fun q r h=>?_,fun q a b=>?_,fun _=>?_⟩
  .have:=h1 q r h
   simp only;split <;> split <;> omega
  .by_cases hq:q<(F++G).length
   .have hqF:q<=F.length:=by rw[NF] at hq;omega
    obtain⟨l,c,k⟩:=h2 q a hqF;have d:=(NQ.1 c).1;refine⟨l,?_,by rw[Yi hqF];exact k⟩;simp only;rw[Mg hq,MM (by omega),Lo d];exact c
   .have e:q=(F++G).length:=by omega
    refine⟨m,?_,by rw[e];exact g⟩;simp only;rw[NU hq];simp
  .simp
 .refine⟨fun _=>st.length,fun _ _ _=>NH _,fun q a b=>?_,fun _=>by simp⟩
  have e:q=(F++G).length:=by rw[NF] at b i |-;omega
  exact⟨m,by simp,by rw[e];exact g⟩
theorem Hist.one{F:List Fact}(m:LM)(c:zV m (atF F F.length)):Hist [m] F F.length True:=by
 refine⟨fun _=>0,fun _ _ _=>NH _,fun q a b=>?_,fun _=>rfl⟩;have e:q=F.length:=by omega
 rw[e];exact⟨m,rfl,c⟩
theorem Hist.maybe{st:List LM}{F:List Fact}{p:Nat}{T:Prop}(h:Hist st F p T)(m:LM):Hist (st++[m]) F p False:=by
 obtain⟨j,d,e,_⟩:=h;refine⟨j,d,fun q a b=>?_,fun f=>f.elim⟩;obtain⟨i,c,g⟩:=e q a b;exact⟨i,by rw[Lo (NQ.1 c).1];exact c,g⟩
theorem Wk{F a:List Fact}(h:a<+:F){q:Nat}(b:q<=a.length):atF a q=atF F q:=by
 obtain⟨r,rfl⟩:=h;rw[Yi b]
theorem Hist.cut{st:List LM}{F c:List Fact}{p e:Nat}{T:Prop}(h:Hist st F p T)(d:c<+:F)(l:p<=e):Hist st c e False:=by
 obtain⟨j,g,i,_⟩:=h;refine⟨j,g,fun q a b=>?_,fun f=>f.elim⟩;obtain⟨m,k,o⟩:=i q (NG l a) (NG b d.length_le);exact⟨m,k,by rw[Wk d b];exact o⟩
theorem Z6.cut{d:Int}{c g:Nat}{F e:List Fact}{p i:Nat}(h:Z6 d c g F p)(f:e<+:F)(j:p<=i):Z6 d c g e i:=fun q a b=>by
 rw[Wk f b];exact h q (NG j a) (NG b f.length_le)
theorem Z6.snoc{d:Int}{c g:Nat}{F:List Fact}{p:Nat}(h:p<=F.length->Z6 d c g F p)(x:Fact)(i:YT d c g ((atF F F.length).enter x)):Z6 d c g (F++[x]) p:=fun q a b=>by
 rw[NF,NK] at b;by_cases f:q<=F.length
 .rw[Yi f]
  exact h (NG a f) q a f
 .have e:q=F.length+1:=by omega
  rw[e,Yc];exact i
theorem YT.mono{e:Int}{c a o g:Nat}{S:SM}(h:YT e c o S)(q:c<=a)(y:o<=g)(r:g<=S.II):YT e a g S :=
 ⟨h.1,r,NG h.2.2.1 (Nat.mul_le_mul_left 16 q),h.2.2.2.mono (by omega)⟩
theorem Hist.found{st:List LM}{F:List Fact}{p:Nat}{T:Prop}(h:Hist st F p T)(Q:p<=F.length) :
 ∃ i m,st[i]?=some m/\zV m (atF F F.length)/\(∀ k f,i<k->st[k]?=some f->¬zV f (atF F F.length))/\Hist (st.take i++[m]) F p True/\(T->i+1=st.length):=by
 obtain⟨j,D,E,K⟩:=h;obtain⟨S,A,B⟩:=E F.length Q (NH _)
 -- the greatest index
 have C:∀ d i m,st.length-i<=d->st[i]?=some m->zV m (atF F F.length)->j F.length<=i->∃ i m,st[i]?=some m/\zV m (atF F F.length)/\j F.length<=i/\∀ k f,i<k->st[k]?=some f->¬zV f (atF F F.length):=by
  intro d
  induction d with
  | zero =>
   intro i m L o;have:=(NQ.1 o).1;omega
  | succ d R =>
   intro i m L o x I;by_cases s:∃ k f,i<k/\st[k]?=some f/\zV f (atF F F.length)
   .obtain⟨k,f,y,c,g⟩:=s
    exact R k f (by have:=(NQ.1 c).1;omega) c g (by omega)
   .exact⟨i,m,o,x,I,fun k f y c g=>s ⟨k,f,y,c,g⟩⟩
 obtain⟨i,m,o,x,I,v⟩:=C _ _ S (NH _) A B (NH _);have M:=(NQ.1 o).1;have l:∀ k f,k<=i->st[k]?=some f->(st.take i++[m])[k]?=some f:=fun k f y c=>by
  by_cases z:k<i
  .rw[Lo (by rw[NJ];omega),ML z]
   exact c
  .have:k=i:=by omega
   subst this;rw[o] at c;obtain rfl:=Mm c;rw[LA (by rw[NJ];omega)];have J:k-(st.take k).length=0:=by rw[NJ];omega
   rw[J]
   rfl
 refine⟨i,m,o,x,v,⟨fun q=>if q<F.length then min (j q) i else i,fun q r h=>?_,fun q a b=>?_,fun _=>?_⟩,fun t=>?_⟩
 .have:=D q r h
  simp only;split <;> split <;> omega
 .by_cases hq:q<F.length
  .obtain⟨f,c,g⟩:=E q a b
   have N:=D q F.length b;refine⟨f,?_,g⟩;simp only;rw[Mg hq,MM (by omega)];exact l _ f (by omega) c
  .have e:q=F.length:=by omega
   refine⟨m,?_,by rw[e];exact x⟩;simp only;rw[NU hq];exact l i m (NH _) o
 .simp only[Iz,MG,NF,NJ,NK]
  omega
 .have:=K t
  omega
def Zer(self:Int)(mo:Nat)(m:LM)(S:SM)(n:Nat):Prop :=
 ∃ K a v,Yb K/\Given K/\YE self mo K/\v.seq=0/\v.node=self/\m.keys=Z0 K a [v]/\S.keys=Z0 K a [{v with seq:=n}]/\m.hints=S.hints
theorem Zl.given{S:SM}(h:Zl S):Given S.keys:=fun e a u b=>((h.key e a).2.2 u b).one
theorem PU{W:WM}{N:NM}{m:LM}(d:Zl N.S)(b:N.readOnly=W.broken)(e:zV m N.S):Y7 W N m=(W.most,some m):=by
 obtain⟨a,c⟩:=e;unfold Y7;rw[Mg ⟨b,by rw[a],c.symm⟩,a,WK d.given];simp only[JG,MK];rw[<- a]
theorem OI{W:WM}{N:NM}{m:LM}(a:Zl N.S)(b:YE W.node W.most N.S.keys)(d:WQ W.node m.keys)(c:¬(N.readOnly=W.broken/\zV m N.S)):Y7 W N m=(W.most,none):=by
 unfold Y7;split
 .rename_i h1
  rw[SY b a.given d (fun e=>c ⟨h1.1,e.symm,h1.2.2.symm⟩)];simp
 .rfl
theorem RS{W:WM}{N:NM}{m:LM}{n:Nat}(h:Zer W.node W.most m N.S n)(p:W.most<n)(q:n<=16*W.calls)(d:N.readOnly=W.broken) :
 Y7 W N m=(n,some {m with keys:=N.S.keys}):=by
 obtain⟨K,a,v,c,e,l,f,o,g,i,j⟩:=h;have k:=RR (mo:=W.most) (top:=16*W.calls) (n:=(n:Int)) a v c e f (by omega) (by omega) (by omega);unfold Y7;have b:(Z0 K a [{v with seq:=(n:Int)}]).length=(Z0 K a [v]).length:=by
  rw[Zy a _ c,Zy a _ c];simp only[Ji,MG,Zk,NF,NK]
 rw[g,i,k,Mg ⟨d,b,j.symm⟩];simp
structure Cm(W:WM)(t:Nat):Prop where
 Gv:∀ m∈W.st,MOk W.node m t
 calls:W.calls<=t
 ww:W.writes<=t
 len:W.st.length<=t+1
 ne:0<W.st.length
 next:W.next<=t
 base:W.base<=100000
 FB:W.bk.vs.length<=4*t
 FL:W.bk.vm.length<=4*t
 FF:W.bk.ns.length<=4*t
 FE:W.bk.nm.length<=4*t
 FP:W.bk.hs.length<=4*t
 FJ:W.bk.hm.length<=4*t
 Hq:-9223372036854775808<=W.Hq/\W.Hq<=9223372036854775807
def WM.Gi(W:WM):Int:=if W.room<0 then 1152921504606846976 else W.room
structure NI(W:WM)(N:NM)(M:DM)(F:List Fact)(p t:Nat):Prop where
 kp:Kp N M F p t (N.readOnly=false)
 cm:Cm W t
 room:M.room=W.Gi
 Gj:Hist W.st F p True
 GS:Z6 W.node W.calls W.most F p
 ro:N.readOnly=W.broken
 self:W.node=(N.self:Int)
 nd:N.self<4
 most:W.most<=N.given
 given:N.given<=N.S.II
 Ft:N.readOnly=false->N.given<N.S.II->Leas F p N.S.II
 every:W.every=(N.every:Int)
 wr:N.readOnly=false->N.every≠0->N.writes=W.writes%N.every
 nw:N.writes<=t
 dead:M.dead=false
def Doubt(W:WM)(st:List LM)(m:LM)(F:List Fact)(p n:Nat):Prop :=
 ∃ a x,F=a++[x]/\(p<=a.length->Hist st a p True)/\Zer W.node W.most m (atF F F.length) n/\W.most<n/\Z6 W.node W.calls n F p/\∀ q,p<=q->q<=a.length->YE W.node W.most (atF F q).keys
structure Sh(W:WM)(M:DM)(F:List Fact)(p t:Nat):Prop where
 lg:∃ ss,Lg M ss p t/\zc ss=F
 cm:Cm W t
 room:M.room=W.Gi
 all:(Z6 W.node W.calls W.most F p/\(Hist W.st F p True\/(W.Hs=true\/M.dead=true)/\Hist W.st F p False))\/(W.Hs=true\/M.dead=true)/\∃ st m n,W.st=st++[m]/\Doubt W st m F p n
theorem Yj(l:List Ver)(n:Int)(h:∀ u∈l,u.Nat):isN (grV l n):=by
 unfold grV;have c:∀ (l:List Ver) (a:Int),isN a->(∀ u∈l,u.Nat)->isN (l.foldl (fun m u=>if u.node=n then max m u.seq else m) a):=by
  intro l
  induction l with
  | nil=>intro a b _;exact b
  | cons x l f =>
   intro a b d;rw[Lt];refine f _ ?_ (fun u e=>d u (NO _ e));split
   .have:=(d x (NR ..)).seq
    unfold isN at *;omega
   .exact b
 exact c l 0 ⟨by decide,by decide⟩ h
theorem VV{a:ByteArray}{l:List Ver}(b:zL a=true)(h:∀ u∈l,VOk u)(d:l.length<=5):(zj (.inr (.inl (a,l)))).size<=1900:=by
 show(zk (YJ a l)).size<=1900;rw[YM];unfold zL at b;simp only[Mk] at b;unfold YJ;have e:=zt (n:=2) (by decide);have f:=Xu a (by omega);have g:=WD l h d;have c:=Wa (zg 2++(zF a.data.toList++Zb l)) (by simp only[NF];omega);simp only[NF] at c;omega
theorem Jl.size{J:JM}{M:DM}{i:List Seg}{p t:Nat}(h:Jl J M i)(c:Lg M i p t):J.size<=2000*t/\J.last<=t:=by
 have j:=h.1;have a:J.last=i.length:=by rw[j];exact JM.GB _ _ _
 refine⟨?_,by rw[a,<- c.Hl.length];exact c.bd.dir⟩;rcases MV i with e|⟨r,s,e⟩
 .rw[j,e];exact NV _
 .rw[MW] at e
  subst e;obtain⟨d,f,q,o,z,_,_⟩:=c.Hl.last;have y:f∈M.ids:=c.bd.Hy (ze zi (r.length+1),f) (by rw[q];simp);have:=c.bd.file y;rw[o] at this;rw[j,JM.Hu];exact this
theorem Nf{J:JM}{M:DM}{l:List Seg}{p t:Nat}(h:Lg M l p t)(b:Jl J M l)(v:t+2<=100000000)(H n:Nat)(u:n<=2000)(m:∀ g∈M.ids,g<H):ZY J M H n where
 bytes:=by omega
 size:=by have:=(b.size h).1;omega
 last:=by have:=(b.size h).2;omega
 IM:=by
  obtain⟨e,k,c,a,_⟩:=X9 h b.1 (by omega);rw[c];have:=a.bd.IM;simp only;omega
 dir:=by
  obtain⟨e,k,c,a,_⟩:=X9 h b.1 (by omega);rw[c];have:=a.bd.dir;simp only;omega
 room:=fun f s=>by
  obtain⟨e,r,k,q,c,a,_,_,_,_,_,_,_,j,i⟩:=VS h b (by omega) n f (fun o=>by have:=m f o;omega);rw[c];refine⟨a.bd.part,?_,fun g d=>by have:=a.bd.file d;simp only;omega⟩;cases e with
  | none =>
   have:=((i rfl).1.size a).1;simp only;omega
  | some x =>
   have:=(b.size h).1;rw[j (by simp)];simp only;omega
theorem TH{N:NM}{M:DM}{F:List Fact}{p t:Nat}(h:Kp N M F p t True)(f:t+2<=100000000)(H:Nat)(d:∀ g∈M.ids,g<H)(x:Fact)(i:FOk x)(a:(zj x).size<=2000)(j:N.S.keys.length<=100000000)(k:N.writes<=100000000):Fit N M H x:=by
 have e:=h.Gp F.length;rw[<- h.held] at e;obtain⟨⟨l,b,_,c⟩,_⟩:=h;exact⟨i,Nf b (c trivial) f H _ a d,by omega,by omega,by omega⟩
theorem PV{N:NM}{M:DM}{F:List Fact}{p t:Nat}(h:Kp N M F p t True)(Q:t+10<=100000000)(m:N.given<100000000000)(k:N.given<=N.S.II)(D:N.given<N.S.II->Leas F p N.S.II)(H:Nat)(r:∀ g∈M.ids,g<H)(b:ByteArray)(x:NM->Nat->List Ver)(l:List Ver)
 (I:∀ j:NM,j.S.keys=N.S.keys->j.self=N.self->x j (N.given+1)=l)(J:FOk (.inr (.inl (b,l))))(d:(zj (.inr (.inl (b,l)))).size<=2000)(u:N.S.keys.length<=100000000)(v:N.writes<=100000000):Vg N M H b x where
 log:=(TH h (by omega) H r (.inl (N.given+16)) (by show N.given+16<_;omega) (by have:=VU (n:=N.given+16) (by omega);omega) u v).log
 keys:=by omega
 hints:=by have s:=h.Gp F.length;rw[<- h.held] at s;omega
 given:=by omega
 fact:=fun f s o z _ a=>by
  obtain⟨L,q,i,K,A,R,B,y,G,C,_⟩:=PP h (by omega) m k D f (fun E=>by have:=r f E;omega);rw[B] at o a |-;simp only at o a |-;subst o;simp only[MK] at a y |-;have c:i.keys=N.S.keys:=by
   rcases C with⟨_,e⟩|⟨_,e,_⟩
   .rw[e]
   .rw[e]
  rw[I {N with J:=q,S:=i,given:=N.given+1} c rfl];exact TH (N:={N with J:=q,S:=i,given:=N.given+1}) (y.kp.mono (fun _=>rfl) (NH _)) (by omega) z a _ J d (by show i.keys.length<=_;rw[c];exact u) v
theorem MOk.more{a:Int}{m:LM}{t u:Nat}(h:MOk a m t)(b:t<=u):MOk a m u:=⟨h.Gm,NG h.keys b,h.lens,h.hints,h.zero,h.node⟩
theorem Cm.more{W:WM}{t u:Nat}(h:Cm W t)(a:t<=u):Cm W u :=
 ⟨fun m b=>(h.Gv m b).more a,NG h.calls a,NG h.ww a,by have:=h.len;omega,h.ne,NG h.next a,h.base,by have:=h.FB;omega,by have:=h.FL;omega,by have:=h.FF;omega,by have:=h.FE;omega,by have:=h.FP;omega,by have:=h.FJ;omega,h.Hq⟩
theorem Cm.Gs{W W':WM}{t:Nat}(h:Cm W t)(k:W'.node=W.node)(j:∀ m∈W'.st,MOk W.node m t)(i:W'.st.length<=t+1)(c:0<W'.st.length)(l:W'.writes<=t)(g:W'.calls=W.calls)(d:W'.next=W.next)(e:W'.base=W.base)(a:W'.bk=W.bk)(f:W'.Hq=W.Hq:=by rfl):Cm W' t :=
 ⟨fun m b=>by rw[k];exact j m b,by rw[g];exact h.calls,l,i,c,by rw[d];exact h.next,by rw[e];exact h.base,by rw[a];exact h.FB,by rw[a];exact h.FL,by rw[a];exact h.FF,by rw[a];exact h.FE,by rw[a];exact h.FP,by rw[a];exact h.FJ,by rw[f];exact h.Hq⟩
structure Aft(W:WM)(mx:LM)(M:DM)(e:Option Int)(N':NM)(M':DM)(t':Nat):Prop where
 body:∃ F' p',Kp N' M' F' p' t' (e=none)/\(e=none->N'.given<N'.S.II->Leas F' p' N'.S.II)/\(e=none->({W with writes:=W.writes+1}:WM).due=true->p'=F'.length) /\
  ((Hist (W.st++[mx]) F' p' True/\Z6 W.node W.calls W.most F' p')\/(e≠none/\(Hist W.st F' p' True/\Z6 W.node W.calls W.most F' p'\/∃ n,Doubt W W.st mx F' p' n/\n<=N'.given)))
 ro:N'.readOnly=e.isSome
 br:W.broken=false
 Gc:Ans M M' e
 grow:e=none->M.calls<M'.calls
 full:e=some 10->M.room<M.Hr+2000
 room:M'.room=W.Gi
 cm:Cm W t'
 ww:W.writes+1<=t'
 len:W.st.length+1<=t'+1
 Gv:MOk W.node mx t'
 self:W.node=(N'.self:Int)
 nd:N'.self<4
 most:W.most<=N'.given
 given:N'.given<=N'.S.II
 every:W.every=(N'.every:Int)
 wr:e=none->N'.every≠0->N'.writes=(W.writes+1)%N'.every
 nw:N'.writes<=t'
 dead:M.dead=false
theorem Aft.Hp{W:WM}{E:LM}{M:DM}{u:NM}{t:DM}{r:Nat}(h:Aft W E M none u t r):∃ s F,NI (W.Hp E) u t s F r:=by
 obtain⟨s,F,G,J,L,K⟩:=h.body;have z:=K.resolve_right (fun x=>x.1 rfl);have p:=G.le;have j:t.dead=false:=by
  rcases h.Gc.1 with⟨_,_,_,e⟩|⟨_,⟨e,_⟩|⟨e,_⟩⟩
  .rw[e];exact h.dead
  .cases e
  .cases e
 have D:u.readOnly=false:=h.ro;obtain⟨b,o,hrel,I⟩:=z.1.last p;have A:b=E:=by simp at o;exact o.symm
 subst A;have i:∀ m∈W.st++[b],MOk W.node m r:=fun m d=>by
  rcases NW.1 d with d|d
  .exact h.cm.Gv m d
  .rw[NP] at d;subst d;exact h.Gv
 refine⟨s,F,?_⟩;have a:(W.Hp b).node=W.node:=by unfold WM.Hp;simp only;split <;> rfl
 have c:(W.Hp b).calls=W.calls:=by unfold WM.Hp;simp only;split <;> rfl
 have f:(W.Hp b).most=W.most:=by unfold WM.Hp;simp only;split <;> rfl
 have v:(W.Hp b).broken=W.broken:=by unfold WM.Hp;simp only;split <;> rfl
 have y:(W.Hp b).every=W.every:=by unfold WM.Hp;simp only;split <;> rfl
 have q:(W.Hp b).writes=W.writes+1:=by unfold WM.Hp;simp only;split <;> rfl
 have C:(W.Hp b).Gi=W.Gi:=by unfold WM.Hp;simp only;split <;> rfl
 have g:((W.Hp b).st=W.st++[b])\/(({W with writes:=W.writes+1}:WM).due=true/\(W.Hp b).st=[b]):=by
  unfold WM.Hp;simp only;split
  .rename_i k
   refine .inr ⟨k,?_⟩;simp
  .exact .inl rfl
 have l:∀ m∈(W.Hp b).st,MOk W.node m r:=fun m d=>by
  rcases g with e|⟨_,e⟩
  .rw[e] at d;exact i m d
  .rw[e] at d;exact i m (List.mem_append_right _ d)
 exact {
  kp:=G.mono (fun _=>rfl) (NH _)
  cm:=h.cm.Gs a l (by rcases g with e|⟨_,e⟩ <;> rw[e] <;> simp <;> (have:=h.len;omega)) (by rcases g with e|⟨_,e⟩ <;> rw[e] <;> simp) (by rw[q];exact h.ww) c (by unfold WM.Hp;simp only;split <;> rfl) (by unfold WM.Hp;simp only;split <;> rfl) (by unfold WM.Hp;simp only;split <;> rfl) (by unfold WM.Hp;simp only;split <;> rfl)
  room:=by rw[C];exact h.room
  Gj:=by
   rcases g with e|⟨k,e⟩
   .rw[e];exact z.1
   .rw[e,L rfl k];exact Hist.one b hrel
  GS:=by rw[a,c,f];exact z.2
  ro:=by rw[v,h.br];exact D
  self:=by rw[a];exact h.self
  nd:=h.nd
  most:=by rw[f];exact h.most
  given:=h.given
  Ft:=fun _=>J rfl
  every:=by rw[y];exact h.every
  wr:=fun _ B=>by rw[q];exact h.wr rfl B
  nw:=h.nw
  dead:=j}
theorem Aft.gone{W:WM}{a:LM}{M:DM}{x:Int}{l:NM}{f:DM}{j:Nat}(h:Aft W a M (some x) l f j)(k:f.dead=true):∃ e i,Sh {W with broken:=true,st:=W.st++[a]} f e i j:=by
 obtain⟨e,i,⟨⟨s,r,q,_⟩,_⟩,_,_,o⟩:=h.body;have d:∀ m∈W.st++[a],MOk W.node m j:=fun m b=>by
  rcases NW.1 b with b|b
  .exact h.cm.Gv m b
  .rw[NP] at b;subst b;exact h.Gv
 refine⟨e,i,⟨s,r,q⟩,h.cm.Gs rfl d (by have:=h.len;show(W.st++[a]).length<=_;rw[NF];exact this) (by show 0<(W.st++[a]).length;simp) h.cm.ww rfl rfl rfl rfl,h.room,?_⟩;rcases o with⟨c,g⟩|⟨_,⟨c,g⟩|⟨n,c,_⟩⟩
 .exact .inl ⟨g,.inl c⟩
 .exact .inl ⟨g,.inr ⟨.inr k,c.maybe a⟩⟩
 .exact .inr ⟨.inr k,W.st,a,n,rfl,c⟩
def Yy(N:NM)(b:Int)(a:ByteArray):Option Int :=
 if Yx N.self b a≠0 then some (Yx N.self b a) else if N.readOnly=true then some 8 else if 32<=N.S.hints.length then some 6 else none
theorem OJ(N:NM)(M:DM)(b:Int)(a:ByteArray)(f:Nat):N.hint M b a f=match Yy N b a with
 | some c=>(c,N,M)
 | none=>N.asked M (.inr (.inr (.inl (b.toNat,a)))) f:=by
 unfold Yy NM.hint Yx;by_cases d:(zN b&&decide (b≠N.self))=false
 .simp only[d];simp
 .rw[NU d,NU d]
  by_cases e:a.size=0\/64<a.size
  .simp only[e];simp
  .rw[NU e,NU e]
   cases hr:N.readOnly
   .by_cases h3:32<=N.S.hints.length
    .simp[h3]
    .simp[h3]
   .simp
theorem NI.now{W:WM}{N:NM}{M:DM}{F:List Fact}{p t:Nat}(h:NI W N M F p t):∃ m,W.st[W.st.length-1]?=some m/\zV m N.S/\MOk W.node m t:=by
 obtain⟨m,a,b,_⟩:=h.Gj.last h.kp.le;rw[<- h.kp.held] at b;exact⟨m,a,b,h.cm.Gv m (LK a)⟩
theorem NI.st{W:WM}{N:NM}{M:DM}{F:List Fact}{p t:Nat}(h:NI W N M F p t):YT W.node W.calls W.most N.S:=by
 have:=h.GS F.length h.kp.le (NH _)
 rwa [<- h.kp.held] at this
theorem NI.nk{W:WM}{N:NM}{M:DM}{F:List Fact}{p t:Nat}(h:NI W N M F p t):N.S.keys.length<=t:=by
 obtain⟨m,_,b,a⟩:=h.now;rw[<- b.1];exact a.keys
theorem Ui(G:List Fact)(x:Fact):atF (G++[x]) (G++[x]).length=(atF G G.length).enter x:=by
 rw[NF,NK,Yc]
theorem SZ{w k:Nat}(c:k≠0):(w+1)%k=if w%k+1<k then w%k+1 else 0:=by
 have d:=Jd w (Nat.pos_of_ne_zero c);split
 .rename_i hlt
  rw[<- Nat.mod_add_mod,JP hlt]
 .rw[<- Nat.mod_add_mod,show w%k+1=k by omega,Nat.mod_self]
theorem NI.due{W:WM}{N:NM}{M:DM}{F:List Fact}{p t:Nat}(h:NI W N M F p t)(e:N.readOnly=false) :
 (({W with writes:=W.writes+1}:WM).due=true->N.due=true)/\(N.every≠0->(if N.due=true then 0 else N.writes+1)=(W.writes+1)%N.every):=by
 have i:=h.every;have f:=h.wr e;unfold WM.due NM.due;simp only[Ld,Mk,KY,Bool.or_eq_false_iff,Lw];rw[i]
 constructor
 .rintro⟨h1,h2⟩
  have d:N.every≠0:=by omega
  have g:(W.writes+1)%N.every=0:=by
   have:=Int.tmod_eq_emod_of_nonneg (a:=((W.writes+1:Nat):Int)) (b:=(N.every:Int)) (by omega);rw[this] at h2
   exact_mod_cast h2
  refine⟨d,fun c=>?_⟩;rw[f d] at c;rw[SZ d,Mg c] at g;omega
 .intro d
  rw[SZ d,f d];by_cases c:W.writes%N.every+1<N.every
  .rw[Mg c,NU (fun x=>x.2 c)]
  .rw[NU c,Mg ⟨d,c⟩]
theorem NI.He{W:WM}{N:NM}{M:DM}{F A:List Fact}{p t:Nat}(h:NI W N M F p t)(e:A=[]\/A=[.inl (N.given+16)]/\¬N.given<N.S.II) :
 Hist W.st (F++A) p True/\Z6 W.node (W.calls+1) W.most (F++A) p/\(atF (F++A) (F++A).length).keys=N.S.keys/\(atF (F++A) (F++A).length).hints=N.S.hints:=by
 have d:=h.st;have c:Z6 W.node (W.calls+1) W.most F p:=fun q a b=>(h.GS q a b).mono (Ly _) (NH _) (h.GS q a b).2.1;rcases e with rfl|⟨rfl,f⟩
 .rw[MD,<- h.kp.held]
  exact⟨h.Gj,c,rfl,rfl⟩
 .rw[NF,NK,Yc,<- h.kp.held]
  refine⟨h.Gj.quiet h.kp.le _ (fun m g=>g),Z6.snoc (fun _=>c) _ ?_,rfl,rfl⟩;rw[<- h.kp.held];have i:=h.most;have j:=h.given;have k:=d.2.2.1;exact⟨d.1.II _,by show W.most<=N.given+16;omega,by show N.given+16<=16*(W.calls+1);omega,d.2.2.2⟩
theorem RT{self c:Int}{S:SM}(h:YE self c S.keys)(b:ByteArray)(l:List Ver)(f:∀ u∈l,u.node=self->u.seq<=c):YE self c (S.holds b l).keys:=by
 unfold SM.holds;simp only;split
 .exact fun e a=>h e (Wc e a)
 .exact fun e a=>(Wb e a).elim (h e) (fun d=>by subst d;exact f)
theorem YT.holds{b:Int}{a i d:Nat}{S:SM}(h:YT b a i S)(c:ByteArray)(k:zL c=true)(l:List Ver)(j:Vf l)(o:l.length<=4)(q:∀ u∈l,VOk u)(p:i<=d)(f:d<=S.II)(e:∀ u∈l,u.node=b->u.seq<=d):YT b a d (S.holds c l) :=
 ⟨h.1.holds c k l j o q,by rw[ZS];exact f,by rw[ZS];exact h.2.2.1,RT (h.2.2.2.mono (by omega)) c l e⟩
theorem NI.replace{W:WM}{N:NM}{M:DM}{F:List Fact}{p t:Nat}(h:NI W N M F p t)(ht:t+20<=100000000)(C:N.readOnly=false)(a:ByteArray)(j:zL a=true)(vs:NM->Nat->List Ver)(l:List Ver)(f g:Nat)(hf:f∉M.ids)(hg:g∉M.ids)(ha:Apart2 N M f g)
 (b6:∀ N1:NM,N1.S.keys=N.S.keys->N1.self=N.self->vs N1 (N.given+1)=l)(hv:∀ u∈l,VOk u)(a0:∀ u∈l,u.seq=((N.given+1:Nat):Int))(J m0:LM)(c2:MOk W.node J (t+10))(c1:MOk W.node m0 (t+10))(hrel:J.keys=Z0 N.S.keys a l/\J.hints=N.S.hints)
 (s:(l=[]/\m0=J)\/(∃ v,l=[{v with seq:=((N.given+1:Nat):Int)}]/\v.seq=0/\v.node=W.node/\m0.keys=Z0 N.S.keys a [v]/\m0.hints=N.S.hints)) :
 ∃ e N' S,N.replace M a vs f g=((if e=none then N.given+1 else 0),zR e,N',S)/\(∀ k∈S.ids,(k=f\/k=g)\/k∈M.ids)/\(e=none\/e=some 9\/e=some 10) /\
  Aft {W with calls:=W.calls+1,most:=if e=none then N.given+1 else W.most} (if e=none then J else m0) M e N' S (t+10):=by
 have G:=h.st;have a8:N.given<100000000000:=by have:=h.given;have:=G.2.2.1;have:=h.cm.calls;omega
 have E:l.length<=4/\Vf l:=by
  rcases s with⟨e,_⟩|⟨v,e,_⟩
  .rw[e];exact⟨NV _,by unfold Vf Asc;simp⟩
  .rw[e];exact⟨by simp,by unfold Vf Asc;simp⟩
 obtain⟨e,J',S',gv,wr,S,A,B,p',er,w,L,hA,hB,I,c3,b7,b8,b9,a7,K⟩:=UE (h.kp.mono (fun _=>C) (NH _)) (by omega) a8 h.given (h.Ft C) C a vs l f g hf hg ha b6 (WH j hv (by omega)) (VV j hv (by omega));obtain⟨a1,T,a3,a4⟩:=h.He hA;refine⟨e,_,S,er,w.ids,?_,?_⟩
 .rcases w.Gc.1 with⟨o,_⟩|⟨_,⟨o,_⟩|⟨o,_⟩⟩
  .exact .inl o
  .exact .inr (.inl o)
  .exact .inr (.inr o)
 have D:=w.kp;have y:S'=atF (F++A++B) (F++A++B).length:=D.held;have hd:=h.due C;have b3:=h.most;exact {
  body:=by
   refine⟨F++A++B,p',D,fun o c0=>?_,fun o a6=>(I o).2 (hd.1 a6),?_⟩
   .rcases hB with⟨_,d⟩|⟨_,_,_,hL⟩
    .exact absurd o d
    .exact hL
   .rcases hB with⟨rfl,d⟩|⟨rfl,X,hn1,hL⟩
    .rw[MD] at D y |-
     refine .inr ⟨d,.inl ⟨a1.mono L id,?_⟩⟩;rw[NU d];exact fun q b c=>T q (NG L b) c
    .have hF1:YT W.node (W.calls+1) W.most (atF (F++A) (F++A).length):=T _ (by have:=h.kp.le;rw[NF];omega) (NH _)
     have Y:=D.le;have a5:(atF (F++A) (F++A).length).II=S'.II:=by
      rw[y,Ui];show _=(SM.holds _ _ _).II;rw[ZS]
     have i:zV J (atF (F++A++[.inr (.inl (a,l))]) (F++A++[(.inr (.inl (a,l)):Fact)]).length):=by
      rw[Ui];refine⟨?_,?_⟩
      .rw[hrel.1,<- a3,Zy a _ hF1.1.Gm]
       rfl
      .show _=(SM.holds _ _ _).hints
       rw[XB,a4];exact hrel.2
     have V:YT W.node (W.calls+1) (N.given+1) ((atF (F++A) (F++A).length).enter (.inr (.inl (a,l)))):=hF1.holds a j l E.2 E.1 hv (by omega) (by rw[a5];exact hn1) (fun u hu _=>by rw[a0 u hu];exact Kr _);have r:Z6 W.node (W.calls+1) (N.given+1) (F++A++[.inr (.inl (a,l))]) p':=Z6.snoc (fun _ q b c=>by
      have hq:=T q (NG L b) c;refine hq.mono (NH _) (by omega) ?_;have:=hL q b (by rw[NF];omega);rw[Yi c] at this;omega) _ V
     have z:Hist (W.st++[J]) (F++A++[.inr (.inl (a,l))]) p' True:=Hist.push (by simp) (fun _=>a1.mono L id) Y J i;cases e with
     | none=>exact .inl ⟨z,r⟩
     | some x =>
      simp only[reduceCtorEq,MG];rcases s with⟨b1,rfl⟩|⟨v,b2,b4,b5,b0,a9⟩
      .refine .inl ⟨z,Z6.snoc (fun _ q b c=>T q (NG L b) c) _ (hF1.holds a j l E.2 E.1 hv (NH _) hF1.2.1 (fun u hu _=>by rw[b1] at hu;cases hu))⟩
      .refine .inr ⟨by simp,.inr ⟨N.given+1,⟨F++A,.inr (.inl (a,l)),rfl,fun _=>a1.mono L id,⟨N.S.keys,a,v,G.1.Gm,G.1.given,G.2.2.2,b4,b5,b0,?_,?_⟩,by show W.most<N.given+1;omega,r,fun q b c=>?_⟩,by show N.given+1<=gv;omega⟩⟩
       .rw[<- i.1,hrel.1,b2]
       .rw[<- i.2,a9,hrel.2]
       .rw[Yi c]
        exact(T q (NG L b) c).2.2.2
  ro:=rfl
  br:=by have:=h.ro;show W.broken=false;rw[<- this,C]
  Gc:=w.Gc
  grow:=K
  full:=w.full
  room:=by rw[w.room];exact h.room
  cm:=⟨fun m hm=>(h.cm.Gv m hm).more (by omega),by have:=h.cm.calls;show W.calls+1<=_;omega,by have:=h.cm.ww;show W.writes<=_;omega,by have:=h.cm.len;show W.st.length<=_;omega,h.cm.ne,by have:=h.cm.next;show W.next<=_;omega,h.cm.base,by have:=h.cm.FB;show W.bk.vs.length<=_;omega,by have:=h.cm.FL;show W.bk.vm.length<=_;omega,by have:=h.cm.FF;show W.bk.ns.length<=_;omega,by have:=h.cm.FE;show W.bk.nm.length<=_;omega,by have:=h.cm.FP;show W.bk.hs.length<=_;omega,by have:=h.cm.FJ;show W.bk.hm.length<=_;omega,h.cm.Hq⟩
  ww:=by have:=h.cm.ww;show W.writes+1<=_;omega
  len:=by have:=h.cm.len;show W.st.length+1<=_;omega
  Gv:=by split <;> assumption
  self:=h.self
  nd:=h.nd
  most:=by
   show(if e=none then N.given+1 else W.most)<=gv;split
   .rename_i o
    rcases hB with⟨_,d⟩|⟨_,X,_⟩
    .exact absurd o d
    .omega
   .omega
  given:=a7
  every:=h.every
  wr:=fun o d=>by
   show wr=_;rw[(I o).1];exact hd.2 d
  nw:=by have:=h.nw;show wr<=_;omega
  dead:=h.dead}
end Go.Proofs.YtkhnggkkiefcdaaGreatDoor
