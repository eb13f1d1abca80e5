/- larder: joined texts -/
import Derived.Test.YtkhnggkkiefcdaaGreatDoorFRAG
import Derived.Test.YtkhnggkkiefcdaaGreatDoorFRAH
import Derived.Test.YtkhnggkkiefcdaaGreatDoorFRAI
import Derived.Test.YtkhnggkkiefcdaaGreatDoorFRAJ
import Derived.Test.YtkhnggkkiefcdaaGreatDoorFRAL
import Derived.Test.YtkhnggkkiefcdaaGreatDoorFRAM
import Derived.StillTailTactics
namespace Go.Proofs.YtkhnggkkiefcdaaGreatDoor
open Go.RowKit
set_option maxRecDepth 100000
set_option maxHeartbeats 8000000
theorem Wo{c w:World}{b i g s:Nat}{m L:DL}{M:DM}{D S:Dir}{k:Nat}{a:List (Nat × Nat)}{x u:Value}{q:Nat->Value}{p t:Dir}{o:List Dir}(h:DRep c b m M)
 (r:M.ids.length<=100000000000)(j:∀ f,f∈M.ids->(M.file f).bytes.length<=1000000000000)(C:zw c w i g s M D S k a x u q L p t o)
 (v:Value)(d:Dir)(z:c.ownsRow 0 148 2 v d.length (flat d))(B:∀ e,e∈d->e.2∈M.ids)(A:d.length<=100000000000) :
 Calls Tryz.prog 99 #[v,.pointer (some ⟨i,0,none⟩),.pointer (some ⟨g,0,none⟩)] w fun e y =>
  ∃ l,e=.returned l/\Qg c w y i g s M D S k a L p t o d l:=by
 have F:a.length<=M.ids.length:=by
  have:=Vv (a.map Prod.fst) M.ids C.T.n1 C.T.ids;rw[Mw] at this;exact this
 refine(RQ c w b i g m M a x u q h C.T v d z B (by omega) j).mono ?_;rintro e y ⟨l,rfl,E⟩;exact⟨l,rfl,C.other E⟩
structure First(w w3:World)(b bo bm nb:Nat)(L:DL)(M:DM)(l1:Value):Prop where
 ex:∃ ps vo vm fV d1,zw w w3 bo bm nb M [] [] 0 ps vo vm fV DL.new [] [] []/\Rel ps M.dir d1/\w3.ownsRow 0 148 2 l1 d1.length (flat d1)/\(∀ j,l1.ownBlock=some j->w.heap.size<=j)
 c0:w3.cell? ⟨b,0,none⟩=some L.Hm
 c1:w3.cell? ⟨b,1,none⟩=some L.Hf
structure Second(w w4:World)(b bo bm nb:Nat)(L:DL)(M:DM)(l1 l2:Value):Prop where
 ex:∃ ps vo vm fV d1 s1,zw w w4 bo bm nb M [] [] 0 ps vo vm fV DL.new [] [] []/\Rel ps M.dir d1/\Rel ps M.safe s1/\w4.ownsRow 0 148 2 l1 d1.length (flat d1)/\w4.ownsRow 0 148 2 l2 s1.length (flat s1) /\
  (∀ j,l1.ownBlock=some j->w.heap.size<=j)/\(∀ j,l2.ownBlock=some j->w.heap.size<=j)
 c0:w4.cell? ⟨b,0,none⟩=some L.Hm
 c1:w4.cell? ⟨b,1,none⟩=some L.Hf
 n:∀ k,w4.cell? ⟨nb,k,none⟩=(M.cells DL.new)[k]?
 nf:∀ k,w4.frozen? ⟨nb,k,none⟩=false
theorem QW{w W:World}{b g d s:Nat}{L:DL}{M:DM}{y:List (Nat × Nat)}{D A:Value}{u:Nat->Value}(h:DRep w b L M)
 (c:M.ids.length<=100000000000)(k:∀ f,f∈M.ids->(M.file f).bytes.length<=1000000000000)(j:M.dir.length<=100000000000)(C:zw w W g d s M [] [] 0 y D A u DL.new [] [] []) :
 Calls Tryz.prog 99 #[L.Hm,.pointer (some ⟨g,0,none⟩),.pointer (some ⟨d,0,none⟩)] W fun e t =>
  ∃ a n,e=.returned (.slice a M.dir.length n)/\First w t b g d s L M (.slice a M.dir.length n):=by
 refine(Wo h c k C L.Hm M.dir h.dir h.Gc j).mono ?_;rintro e t ⟨l,rfl,o⟩;obtain⟨z,E,B,v,F,m,_,r,q,x⟩:=o.ex;obtain⟨a,n,p⟩:=zd q;rw[r.len] at p;subst p;have i:=(h.IR.fr m.T.fr id).cell;simp only[DM.cells] at i;exact⟨a,n,rfl,⟨_,_,_,_,_,m,r,q,x⟩,i 0,i 1⟩
theorem RR{w x W:World}{b i g v:Nat}{L:DL}{M:DM}{u:Value}(h:DRep w b L M)
 (c:M.ids.length<=100000000000)(m:∀ f,f∈M.ids->(M.file f).bytes.length<=1000000000000)(k:M.safe.length<=100000000000)(F:First w x b i g v L M u)(f:Fr Nil x W) :
 Calls Tryz.prog 99 #[L.Hf,.pointer (some ⟨i,0,none⟩),.pointer (some ⟨g,0,none⟩)] W fun e y =>
  ∃ a n,e=.returned (.slice a M.safe.length n)/\Second w y b i g v L M u (.slice a M.safe.length n):=by
 obtain⟨Q,T,R,N,K,C,E,q,p⟩:=F.ex;refine(Wo h c m (C.Gx f) L.Hf M.safe h.safe h.GC k).mono ?_;rintro e y ⟨l,rfl,o⟩;obtain⟨D,I,G,z,J,d,B,r,t,A⟩:=o.ex;obtain⟨a,n,s⟩:=zd t;rw[r.len] at s;subst s;have j:=(h.IR.fr d.T.fr id).cell;simp only[DM.cells] at j;exact⟨a,n,rfl,⟨_,_,_,_,_,_,d,E.more B,r,o.row _ _ _ _ _ (za q f (fun _ _=>id)) (by decide) (by decide),t,p,A⟩,j 0,j 1,d.IR.cell,d.IR.frozen⟩
theorem Second.lists{w m:World}{b q o a:Nat}{L:DL}{M:DM}{c d:Value}(h:Second w m b q o a L M c d) :
 ∃ g l k f e i,zw w ((m.setCell ⟨a,0,none⟩ c).setCell ⟨a,1,none⟩ d) q o a M M.dir M.safe 0 g l k f {DL.new with Hm:=c,Hf:=d} e i []:=by
 obtain⟨g,l,k,f,e,i,C,v,x,r,s,t,u⟩:=h.ex;refine⟨g,l,k,f,e,i,C.lists ?_ ?_ r s v x t u⟩
 .exact Fr.set (S:=fun j=>j=a) (p:=⟨a,1,none⟩) (Fr.set (S:=fun j=>j=a) (p:=⟨a,0,none⟩) (O _ m) (fun _=>rfl) c) (fun _=>rfl) d
 .exact(C.IR.set 0 c).set 1 d
structure Change(w W w5:World)(bo bm nb:Nat)(M:DM)(k:Nat)(hk:k<M.IW.length)(L1:DL)(d1 s1:Dir)(c1:List Dir)(l:Value):Prop where
 ex:∃ ps vo vm fV d',zw w w5 bo bm nb M M.dir M.safe k ps vo vm fV L1 d1 s1 c1/\Rel ps M.IW[k] d'/\w5.ownsRow 0 148 2 l d'.length (flat d')/\(∀ j,l.ownBlock=some j->w.heap.size<=j)
 IR:∀ (g:Nat) (c:List Value) (e:TypeId),Blk W g c e->e≠168->e≠146->Blk w5 g c e
theorem RS{w A W:World}{b g d y:Nat}{L q:DL}{M:DM}{k:Nat}{J:List (Nat × Nat)}{R N v:Value}{E:Nat->Value}{t z:Dir}{s:List Dir}(h:DRep w b L M)
 (c:M.ids.length<=100000000000)(j:∀ f,f∈M.ids->(M.file f).bytes.length<=1000000000000)(m:k<M.IW.length)(p:k<L.Hj.length)(i:M.IW[k].length<=100000000000)
 (C:zw w A g d y M M.dir M.safe k J R N E q t z s)(I:L.Hj[k]=v)(f:Fr Nil A W) :
 Calls Tryz.prog 99 #[v,.pointer (some ⟨g,0,none⟩),.pointer (some ⟨d,0,none⟩)] W fun e B =>
  ∃ a n,e=.returned (.slice a M.IW[k].length n)/\Change w W B g d y M k m q t z s (.slice a M.IW[k].length n):=by
 subst I;refine(Wo h c j (C.Gx f) L.Hj[k] M.IW[k] (h.IW k p m) (h.GB _ (NV m)) i).mono ?_;rintro e B ⟨l,rfl,o⟩;obtain⟨K,T,Q,F,V,D,_,r,x,G⟩:=o.ex;obtain⟨a,n,u⟩:=zd x;rw[r.len] at u;subst u;exact⟨a,n,rfl,⟨_,_,_,_,_,D,r,x,G⟩,o.IR⟩
theorem Change.row{w W c b:World}{e d q:Nat}{M:DM}{k:Nat}{j:k<M.IW.length}{a:DL}{i r:Dir}{h:List Dir}{l v:Value}(X:Change w W c e d q M k j a i r h l)(o:a.Gm=v)(f:Fr Nil c b) :
 b.ownsRow 0 145 1 v k a.Hj:=by
 subst o;obtain⟨_,_,_,_,_,C,_⟩:=X.ex;exact za C.ch f (fun _ _=>id)
theorem Change.cell{w W e:World}{i g c:Nat}{M:DM}{k:Nat}{q:k<M.IW.length}{a:DL}{o y:Dir}{j:List Dir}{l v:Value}(X:Change w W e i g c M k q a o y j l)(r:a.Gm=v) :
 e.cell? ⟨c,2,none⟩=some v:=by
 subst r;obtain⟨_,_,_,_,_,C,_⟩:=X.ex;exact C.IR.cell 2
theorem Change.lt{w W c:World}{h g a:Nat}{M:DM}{k:Nat}{r:k<M.IW.length}{e:DL}{q t:Dir}{o:List Dir}{l:Value}(X:Change w W c h g a M k r e q t o l):a<c.heap.size:=by
 obtain⟨_,_,_,_,_,C,_⟩:=X.ex;exact C.IR.lt
theorem Change.push{w W q s a:World}{x t d g:Nat}{M:DM}{k:Nat}{z:k<M.IW.length}{b:DL}{L s1:Dir}{J:List Dir}{l v B:Value}{c:List Value}(X:Change w W q x t d M k z b L s1 J l)(Y:b.Gm=v)(f:Fr Nil q s)
 (m:App s v 145 1 (k+1) (b.Hj++[l]) B a)(Q:Blk q g c 145)(R:∀ j,b.Gm.ownBlock=some j->j<g) :
 (∃ A E D y I N s2 K,zw w (a.setCell ⟨d,2,none⟩ B) x t d M M.dir M.safe (k+1) A E D y I N s2 K)/\(∀ i,a.cell? ⟨d,i,none⟩=(M.cells b)[i]?)/\(∀ i,a.frozen? ⟨d,i,none⟩=false) /\
   (∀ i,a.cell? ⟨g,i,none⟩=c[i]?):=by
 subst Y;obtain⟨A,E,D,y,d',C,r,V,T⟩:=X.ex;have h:Blk a d (M.cells b) 143:=(C.IR.fr f id).fr m.fr (zf (za C.ch f (fun _ _=>id)) (C.IR.fr f id) (by decide));have o:Blk a g c 145:=(Q.fr f id).fr m.fr (fun e=>by have:=R g e;omega);exact⟨⟨_,_,_,_,_,_,_,_,C.push z f m V r T⟩,h.cell,h.frozen,o.cell⟩
theorem RT(w:World)(M:DM) :
 zw w (((w.alloc (.cells (M.cells DL.new).toArray 143)).alloc (.cells #[.slice none 0 0] 168)).alloc (.cells #[.slice none 0 0] 168)).drew (w.heap.size+1) (w.heap.size+1+1) w.heap.size M [] [] 0 [] (.slice none 0 0) (.slice none 0 0) DL.new.fV DL.new [] [] []:=by
 have f:Fr Nil w (((w.alloc (.cells (M.cells DL.new).toArray 143)).alloc (.cells #[.slice none 0 0] 168)).alloc (.cells #[.slice none 0 0] 168)).drew:=(by repeat' first|exact O _ _|(with_reducible assumption)|refine Fr.drewN ?_ _|refine Fr.drew ?_|refine Fr.alloc ?_ _|refine Fr.set ?_ ?_ _|(intro _;rfl));have c:(w.alloc (.cells (M.cells DL.new).toArray 143)).heap.size=w.heap.size+1:=by simp
 have d:((w.alloc (.cells (M.cells DL.new).toArray 143)).alloc (.cells #[.slice none 0 0] 168)).heap.size=w.heap.size+1+1:=by simp
 have a:=((Blk.new (w.alloc (.cells (M.cells DL.new).toArray 143)) [.slice none 0 0] 168).alloc (.cells #[.slice none 0 0] 168)).drew;have b:=(Blk.new ((w.alloc (.cells (M.cells DL.new).toArray 143)).alloc (.cells #[.slice none 0 0] 168)) [.slice none 0 0] 168).drew;have e:=(((Blk.new w (M.cells DL.new) 143).alloc (.cells #[.slice none 0 0] 168)).alloc (.cells #[.slice none 0 0] 168)).drew;rw[c] at a;rw[d] at b;exact zw.start M (Twin.start M a b (by omega) (by omega) (by omega) f _) e (NS _)
set_option maxRecDepth 100000 in
theorem QX(w:World)(b:Nat)(L:DL)(M:DM)(h:DRep w b L M)(l:M.ids.length<=100000000000)(a3:∀ d,d∈M.dir::M.safe::M.IW->d.length<=100000000000)(d0:M.IW.length<=100000000000)
 (E:∀ f,f∈M.ids->(M.file f).bytes.length<=1000000000000) :
 Calls Tryz.prog 54 #[.pointer (some ⟨b,0,none⟩)] w (R1 w M):=by
 have hc:=h.IR.cell;simp only[DM.cells] at hc;obtain⟨ca,cc,a0⟩:=zd h.ch;have d3:=h.IR.lt;have d4:∀ (fn:Fn) (first Q:Array Value) (w:World),(Instr.makeFunc fn first Q).run Tryz.prog w=.ok (.func fn first Q) w:=fun _ _ _ _=>rfl;have c2:¬b=w.heap.size:=by omega
 have c3:¬w.heap.size=b:=by omega
 have B:=RT w M;simp only[DM.cells,DL.new] at B;have K:=Z B;have m:=Z h;have z:=Z a0;have A:=Z a3;clear h a0 a3 B;go_enter Tryz.func54,Tryz.ntmps54
 go_wp2
 refine MZ 33 (by kernel_rfl) (by kernel_rfl) ?_;simp only[MQ,Lx,Lf,Lw]
 iterate 33 still_step
 refine Ko ?_
 go_wp2
 obtain⟨W2,V⟩:∃ W2,(((w.alloc (.cells #[.slice none 0 0,.slice none 0 0,.slice none 0 0,.int .i64 M.room,.int .i64 M.calls,.int .i64 M.cut,.int .i64 M.fail,.int .i64 M.part,.int .i64 M.refused,.int .i64 M.IZ,.bool M.dead] 143)).alloc (.cells #[.slice none 0 0] 168)).alloc (.cells #[.slice none 0 0] 168)).drew=W2:=⟨_,rfl⟩;have p:=K.out;rw[V] at p |-;have q:=(m.out.IR.fr p.T.fr id).cell;simp only[DM.cells] at q;have r:=q 0;have s:=q 1;simp at r s;have N:=Z p;clear p V hc K q
 go_region_held3 (fun w'=>w'.cell? ⟨b,0,none⟩=some L.Hm/\w'.cell? ⟨b,1,none⟩=some L.Hf) (first|go_keep|exact⟨‹_›,‹_›⟩)
  (first
  | (go_at_call 99;refine(RR m.out l E (A.out _ (NX _ (NY ..))) HF.out z8).mono ?_;rintro e w4 ⟨a2,n2,rfl,J⟩;have c7:=J.c0;have c8:=J.c1;have a7:=J.n;have b7:=J.nf;simp only[DM.cells,DL.new] at a7;have HS:=Z J;clear J)
  | (go_at_call 99;refine(QW m.out l E (A.out _ (NY ..)) (N.out.Gx z8)).mono ?_;rintro e w3 ⟨a1,n1,rfl,hF⟩;have c4:=hF.c0;have c5:=hF.c1;have HF:=Z hF;clear hF))
 have hL:=HS.out.lists;obtain⟨W5,X⟩:∃ W5,((w4.setCell ⟨w.heap.size,0,none⟩ (.slice a1 M.dir.length n1)).setCell ⟨w.heap.size,1,none⟩ (.slice a2 M.safe.length n2))=W5:=⟨_,rfl⟩;rw[X] at hL |-;obtain⟨ps,vo,vm,fV,d1,s1,C⟩:=hL;have a:=(m.out.IR.fr C.T.fr id).cell;simp only[DM.cells] at a;have i:=a 2;simp at i;rw[z.out] at i;have b2:=Z C;clear C a X HS HF N a7 b7 r s;go_wp2_with fail
 go_loopw [67] (fun c w'=>∃ k:Nat,k<=M.IW.length/\c=.int .i64 k/\∃ ps vo vm fV L1 d1 s1 c1,zw w w' (w.heap.size+1) (w.heap.size+1+1) w.heap.size M M.dir M.safe k ps vo vm fV L1 d1 s1 c1) (fun c _=>M.IW.length-(intOf c).toNat)
 case atStart=>exact⟨0,Me _,rfl,_,_,_,_,_,_,_,_,b2.out⟩
 case round =>
  obtain⟨I,rfl⟩:∃ x,x=wr:=⟨wr,rfl⟩;obtain⟨k,hk,rfl,ps,vo,vm,fV,L1,d1,s1,c1,C⟩:=hrel;have y:=Z C;clear C i;by_cases G:k<M.IW.length
  .obtain⟨cg,hcg⟩:∃ g,ca=some ⟨g,0,none⟩:=by
    obtain⟨g,c',h',_⟩:=zq m.out.ch (by omega);rw[z.out] at h';simp at h';exact⟨g,h'.1⟩
   subst hcg;have F:k<L.Hj.length:=by rw[m.out.Gj];exact G
   obtain⟨ea,ec,D⟩:=zd (m.out.IW k F G);have c9:I.cell? ⟨cg,k,none⟩=some (.slice ea M.IW[k].length ec):=by
    have:=za m.out.ch y.out.T.fr (fun _ _=>id);rw[z.out] at this;rw[<- D];exact own_cell? this k _ (by simp[F])
   have b6:=A.out M.IW[k] (by simp);obtain⟨na,nc,b0⟩:=zd y.out.ch;have o:=Z b0;have b4:=Z D;have b5:Hid (∀ W',Fr Nil I W'->W'.cell? ⟨w.heap.size,2,none⟩=some (.slice na k nc)):=fun W' hf=>by
    have:=(y.out.IR.fr hf id).cell 2;simp[DM.cells] at this;rw[o.out] at this;exact this
   clear b0 D;have d5:=y.out.IR.lt;have d6:¬I.heap.size=w.heap.size:=by omega
   have d7:¬w.heap.size=I.heap.size:=by omega
   have HG:Hid (∀ j,L1.Gm.ownBlock=some j->j<I.heap.size):=fun j hj=>Z2 y.out.ch hj;go_wp2_with fail;have a9:=b5.out _ (Fr.alloc (O _ _) (.cells #[.slice ea M.IW[k].length ec] 145));have t:=(Blk.new I [.slice ea M.IW[k].length ec] 145).cell 0;simp at t
   go_region_law
    (first
    | (refine Zi (by rfl) _ _ _ _ (by rfl) _ _ (by rfl) (by rfl) (zn 141 _ 145 1 24 Tryz.underlying141 V5 (by decide) _ _ _ (HX.out.row o.out z8)
        ⟨w5.heap.size,0,none⟩ 1 1 [.slice a5 M.IW[k].length n5] rfl (YH _ _ _ _ (by simp)) (by intro u hu;simp at hu;subst hu;rfl) (by unfold maxLen;omega) (by omega)) ?_;intro v6 w6 ha;obtain⟨a6,c6,c0⟩:=zd ha.own;subst c0
       obtain⟨T,a8,b8,a4⟩:=HX.out.push o.out z8 ha b1.out HG.out;have v:=a4 0;simp at v;simp only[DM.cells] at a8;have b3:=Z T;clear a4 ha T)
    | (go_simp;go_at_call 99;refine(RS m.out l E G F b6 y.out b4.out z8).mono ?_;rintro e w5 ⟨a5,n5,rfl,Y⟩
       have a:=Y.IR _ _ _ ((Blk.new I [.slice ea M.IW[k].length ec] 145).fr (S:=Nil) z8 id) (by decide) (by decide);have R:=a.cell 0;simp at R;have b9:=Y.cell o.out;have d2:w.heap.size<w5.heap.size:=Y.lt;have HX:=Z Y;have b1:=Z a;clear Y a))
   all_goals
    (clear a8 b8 v b9 R t a9
     go_wp2
     exact⟨⟨k+1,by omega,by go_num,b3.out⟩,by simp[intOf];omega⟩)
  .have hkn:k=M.IW.length:=by omega
   subst hkn
   go_wp2
   go_ret;exact y.out.said m.out.le
structure Pairs(M:DM)(ps:List (Nat × Nat)):Prop where
 n1:(ps.map Prod.fst).Nodup
 n2:(ps.map Prod.snd).Nodup
 old:∀ p∈ps,p.1∈M.ids
 dir:∀ e∈M.dir,∃ g,(e.2,g)∈ps
theorem Wp{a:List (Nat × Nat)}{M:DM}(h:Pairs M a){e:ByteArray × Nat}(c:e∈M.dir):(e.2,second a e.2)∈a:=by
 obtain⟨g,b⟩:=h.dir e c;rw[WU h.n1 b];exact b
theorem ZF{a:List (Nat × Nat)}{M:DM}(h:Pairs M a){e:ByteArray × Nat}(b:e∈M.dir):first a (second a e.2)=e.2:=Wn h.n2 (Wp h b)
theorem UN{c:List (Nat × Nat)}{M:DM}(h:Pairs M c)(k:(M.dir.map (·.2)).Nodup):((M.HQ c).dir.map (·.2)).Nodup:=by
 show((zE c M.dir).map (·.2)).Nodup;unfold zE;rw[LZ];refine Kq.2 ?_;refine(List.Pairwise.imp_of_mem ?_ (Kq.1 k));intro a b i j d e;have g:second c a.2=second c b.2:=e;exact d (by rw[<- ZF h i,<- ZF h j,g])
theorem Lies.HQ{M:DM}{d:List Seg}(h:Lies M d){a:List (Nat × Nat)}(c:Pairs M a):Lies (M.HQ a) d where
 view:=by
  rw[<- h.view];show(zE a M.dir).map (fun e=>(e.1,(M.file (first a e.2)).bytes))=_;unfold zE DM.view;rw[LZ];refine MX fun e b=>?_;show(e.1,(M.file (first a (second a e.2))).bytes)=_;rw[ZF c b]
 once:=UN c h.once
 Gc:=fun e b=>by
  obtain⟨x,g,rfl⟩:=Mt.1 b;exact Mt.2 ⟨_,Wp c g,rfl⟩
theorem Bd.HQ{M:DM}{t:Nat}(h:Bd M t){b:List (Nat × Nat)}(c:Pairs M b):Bd (M.HQ b) t where
 c0:=h.c0
 calls:=h.calls
 f0:=h.f0
 fr:=h.fr
 rc:=h.rc
 r0:=h.r0
 r1:=h.r1
 part:=h.part
 all:=by
  refine NR (NR (JD ?_) (V0 (fun g=>(M.file g).bytes.length) (b.map Prod.fst) M.ids c.n1 (fun x i=>by obtain⟨p,a,rfl⟩:=Mt.1 i;exact c.old p a))) h.all;show((b.map Prod.snd).map fun g=>(M.file (first b g)).bytes.length).sum=_;rw[LZ,LZ];refine LH List.sum (MX fun p a=>?_);show(M.file (first b p.2)).bytes.length=(M.file p.1).bytes.length;rw[Wn c.n2 (f:=p.1) a]
 GP:=c.n2
 GJ:=by
  show(b.map Prod.snd).length<=t;have:=Vv (b.map Prod.fst) M.ids c.n1 (fun x i=>by obtain⟨p,a,rfl⟩:=Mt.1 i;exact c.old p a);rw[Mw] at this |-;exact NR this h.GJ
 Gc:=fun e l=>by
  obtain⟨x,i,rfl⟩:=Mt.1 l;exact Mt.2 ⟨_,Wp c i,rfl⟩
 once:=UN c h.once
 IW:=by show(M.IW.map _).length<=t;rw[Mw];exact h.IW
 Hy:=fun d k=>by
  have j:d∈(M.safe::M.IW).map (zE b):=k;obtain⟨x,i,rfl⟩:=Mt.1 j;unfold zE;rw[Mw];exact h.Hy x i
 dir:=by show(zE b M.dir).length<=t;unfold zE;rw[Mw];exact h.dir
theorem Nh{M:DM}(b:List Seg){a:List (Nat × Nat)}(c:Pairs M a):gl (M.HQ a) b=gl M b:=by
 unfold gl;show((zE a M.dir).zip b).map (fun x=>cnt x.2.1 (M.file (first a x.1.2)).safe)=_;unfold zE;rw[List.zip_map_left,LZ];refine MX fun x d=>?_;show cnt x.2.1 (M.file (first a (second a x.1.2))).safe=_;rw[ZF c (List.of_mem_zip d).1]
theorem Lg.HQ{M:DM}{k:List Seg}{p t:Nat}(h:Lg M k p t){a:List (Nat × Nat)}(g:Pairs M a):Lg (M.HQ a) k p t where
 bd:=h.bd.HQ g
 Hs:=h.Hs.HQ g
 ok:=h.ok
 Gw:=h.Gw
 pre:=fun D i=>by
  have c:D∈(M.safe::M.IW).map (zE a):=i;obtain⟨x,b,rfl⟩:=Mt.1 c;exact(h.pre x b).map _
 le:=fun e j=>by
  obtain⟨x,b,rfl⟩:=Mt.1 j;show(M.file (first a (second a x.2))).safe<=(M.file (first a (second a x.2))).bytes.length;rw[ZF g b];exact h.le x b
 full:=fun e j=>by
  have d:e∈(zE a M.dir).dropLast:=j;unfold zE at d;rw[<- List.map_dropLast] at d;obtain⟨x,b,rfl⟩:=Mt.1 d;show(M.file (first a (second a x.2))).safe=(M.file (first a (second a x.2))).bytes.length;rw[ZF g (List.dropLast_subset _ b)];exact h.full x b
 GI:=fun D i=>by
  have c:D∈(M.safe::M.IW).map (zE a):=i;obtain⟨x,b,rfl⟩:=Mt.1 c;have e:(zE a x).length=x.length:=by unfold zE;rw[Mw]
  rw[e];unfold lft;rw[Nh k g];exact h.GI x b
theorem Lg.Hr{M:DM}{a:List Seg}{p t:Nat}(h:Lg M a p t)(n:Int):Lg (M.Hr n) a p t :=
 ⟨⟨h.bd.c0,h.bd.calls,h.bd.f0,h.bd.fr,h.bd.rc,h.bd.r0,h.bd.r1,h.bd.part,h.bd.all,h.bd.GP,h.bd.GJ,h.bd.Gc,h.bd.once,h.bd.IW,h.bd.Hy,h.bd.dir⟩,h.Hs.same rfl (fun _=>rfl) rfl,h.ok,h.Gw,h.pre,h.le,h.full,h.GI⟩
theorem Lg.Hi{M:DM}{b:List Seg}{p t:Nat}(h:Lg M b p t)(n a:Int)(c:-9223372036854775808<=a)(d:a<=9223372036854775807):Lg (M.Hi n a) b p t :=
 ⟨⟨h.bd.c0,h.bd.calls,h.bd.f0,h.bd.fr,h.bd.rc,h.bd.r0,h.bd.r1,(by
  show 0<=(if a<0 then wrap64 (-(wrap64 (a+1))) else a);split
  .unfold wrap64;omega
  .omega),h.bd.all,h.bd.GP,h.bd.GJ,h.bd.Gc,h.bd.once,h.bd.IW,h.bd.Hy,h.bd.dir⟩,h.Hs.same rfl (fun _=>rfl) rfl,h.ok,h.Gw,h.pre,h.le,h.full,h.GI⟩
theorem PV{w:World}{b:Nat}{L:DL}{M:DM}{u:List Seg}{p t:Nat}(h:DRep w b L M)(r:Lg M u p t)(x:t<=100000000) :
 Calls Tryz.prog 54 #[.pointer (some ⟨b,0,none⟩)] w fun e m=>∃ c i g,e=.returned (.pointer (some ⟨c,0,none⟩))/\Own w m c i (M.HQ g)/\Pairs M g:=by
 have a:=r.bd;have l:=a.GJ;have k:=a.IW;refine(QX w b L M h (by omega) (fun d o=>?_) (by omega) (fun f q=>by have:=a.file q;omega)).mono ?_
 .rcases Mr.1 o with e|e
  .rw[e];have:=a.dir;omega
  .have:=a.Hy d e;omega
 .rintro e m ⟨c,i,g,j,ho,h1,h2,h3,h4⟩
  exact⟨c,i,g,j,ho,h1,h2,fun p s=>(h3 p s).1,fun e j=>h4 e (.inl j)⟩
def NM.opened(d a c:Nat)(b:List Seg):NM:={self:=d,given:=(Z5 b).IQ,every:=c,writes:=0,readOnly:=false,J:=JM.at a b false,S:=Z5 b}
theorem PW(a:List Fact):a.length<=(zx a).length:=by
 induction a with
 | nil=>exact Me _
 | cons x a b =>
  have:=Vq (zl x);simp only[zx,Mf,Lp,NQ,Mh] at b |-;omega
theorem QY(S:SM)(x:Fact):(S.enter x).keys.length<=S.keys.length+1:=by
 rcases x with n|x|x|x
 .exact Ls _
 .exact PI S x.1 x.2
 .exact Ls _
 .exact Ls _
theorem Vi(a:List Fact):∀ S:SM,(a.foldl SM.enter S).keys.length<=S.keys.length+a.length:=by
 induction a with
 | nil=>intro S;exact NS _
 | cons x a b =>
  intro S;have c:=b (S.enter x);have d:=QY S x;rw[LA,Mh];omega
theorem OL(M:DM):M.Hx=(M.view.map fun e=>e.2.length).sum:=by
 unfold DM.Hx DM.view;rw[LZ]
 rfl
theorem OM(k:Nat)(a:List Seg):(zc a).length<=((Zq k a).map fun e=>e.2.length).sum:=by
 induction a generalizing k with
 | nil=>exact Me _
 | cons s a c =>
  have b:=c (k+1);have d:=PW s.1;simp only[zc,Mf,Lp,NQ,Zq,Ly,zX] at b |-;omega
theorem Lg.FZ{M:DM}{a:List Seg}{p t:Nat}(h:Lg M a p t)(g:t<=100000000) :
 ∀ i,(((zc a).take i).foldl SM.enter SM.nil).keys.length<1099511627776/\(((zc a).take i).foldl SM.enter SM.nil).hints.length<1000000:=fun i=>by
 have b:=Vi ((zc a).take i) SM.nil;have c:=OM 0 a;rw[<- h.Hs.view,<- OL] at c;have d:=h.bd.Hx;have e:=h.Gw i;rw[NT] at b;have f:SM.nil.keys.length=0:=rfl;omega
theorem Lg.short{M:DM}{a:List Seg}{p t:Nat}(h:Lg M a p t)(d:t<=100000000):a.length<1000000000:=by
 have b:=h.bd.dir;have c:=h.Hs.length;omega
theorem Lg.opened{M:DM}{b:List Seg}{p t:Nat}(h:Lg M b p t)(d a c:Nat)(P:Prop):Kp (NM.opened d a c b) M (zc b) p t P :=
 ⟨⟨b,h,rfl,fun _=>⟨by rw[show(NM.opened d a c b).J=JM.at a b false from rfl,JM.Fm,JM.FE],fun e=>by rw[show(NM.opened d a c b).J=JM.at a b false from rfl,JM.FE] at e;cases e⟩⟩,by
  show Z5 b=atF (zc b) (zc b).length;unfold atF Z5;rw[Mz]⟩
theorem UO(B b:Nat)(L:DL)(M:DM)(c a sync:Nat)(r:List Seg)(hc:ZC c a sync=true)(w:World)(h:DRep w b L M)(hl:Lies M r)(a5:WQ r)(A:r.length<1000000000)
 (C:∀ i,(((zc r).take i).foldl SM.enter SM.nil).keys.length<1099511627776/\(((zc r).take i).foldl SM.enter SM.nil).hints.length<1000000)
 (E:Zp B w)(hB:B<=w.heap.size)(J:∀ k,Foot b L M k->B<=k) :
 Calls Tryz.prog 49 #[.pointer (some ⟨b,0,none⟩),.agg #[.int .i64 c,.int .i64 a,.int .i64 sync]] w fun e w' =>
  ∃ m,e=.returned (.tuple #[.pointer (some ⟨m.nb,0,none⟩),.int .i64 0])/\NRep w' m (NM.opened c a sync r) M/\m.db=b/\(∀ k,NFoot m M k->Foot b L M k\/w.heap.size<=k)/\(∀ k,SRead m.LS k->w.heap.size<=k)/\Fr (Foot b L M) w w':=by
 have bc:=Blk.new w [.int .i64 c,.int .i64 a,.int .i64 sync] 102;have f0:Fr Nil w (w.alloc (.cells #[.int .i64 c,.int .i64 a,.int .i64 sync] 102)):=(O _ _).alloc _;have HC:=Z (Uf c a sync (w.alloc (.cells #[.int .i64 c,.int .i64 a,.int .i64 sync] 102)));rw[hc] at HC;have HH:=Z h;have X:=Z E;have T:=Z hB;have d:=Z (And.intro hl (And.intro a5 (And.intro A C)));clear hc h E hl a5 A C;go_enter Tryz.func49,Tryz.ntmps49;go_wp2_with fail;generalize w.alloc (.cells #[.int .i64 c,.int .i64 a,.int .i64 sync] 102)=wc at bc f0 HC |-;refine HC.out.mono ?_;rintro e j ⟨rfl,I⟩;have o:=bc.fr I id;have F1:=f0.trans I;generalize a1:w.heap.size=y at o |-;have a6:=Z a1;clear bc f0 I a1 HC;have bs:=Blk.new j [.slice none 0 0,.slice none 0 0,.int .i64 0] 161;have f2:Fr Nil j (j.alloc (.cells #[.slice none 0 0,.slice none 0 0,.int .i64 0] 161)):=(O _ _).alloc _;have c2:=(o.fr f2 id).cell;have HR:SRep (j.alloc (.cells #[.slice none 0 0,.slice none 0 0,.int .i64 0] 161)) j.heap.size ⟨.slice none 0 0,.slice none 0 0,[]⟩ SM.nil :=
  ⟨bs,⟨Mo _ 0 _ _,List.Pairwise.nil,fun e he=>by cases he⟩,trivial,Mo _ 0 _ _⟩
 have R:=F1.trans f2;have F:=Z (QQ B b L M a j.heap.size ⟨.slice none 0 0,.slice none 0 0,[]⟩ r _ (HH.out.nil R) HR d.out.1 d.out.2.1 d.out.2.2.1 d.out.2.2.2 (X.out.fr T.out R (fun _ e=>absurd e id)) (NR T.out R.size) J);have l:=Z (o.fr f2 id);have g:=Z R;have z:=F1.size;have b0:y<j.heap.size:=o.lt;have D:j.heap.size<(j.alloc (.cells #[.slice none 0 0,.slice none 0 0,.int .i64 0] 161)).heap.size:=by simp
 have a4:∀ k,SFoot j.heap.size ⟨.slice none 0 0,.slice none 0 0,[]⟩ k->k=j.heap.size:=fun k Q=>by
  rcases Q with e|e|e
  .exact e
  .simp[Value.ownBlock] at e
  .simp[Value.ownBlock] at e
 have t:=Z a4;clear bs o F1 f2 HR R a4;go_wp2_with fail;generalize j.alloc (.cells #[.slice none 0 0,.slice none 0 0,.int .i64 0] 161)=w2 at F l g c2 D |-;generalize j.heap.size=N at F z D t b0 |-;refine F.out.mono ?_;rintro e q ⟨jb,L2,Y,rfl,hj,b6,a3,b1,K,b3,b4,u⟩;have F3:Fr (Foot b L M) w q:=(g.out.mono (S':=Foot b L M) (fun _ _ e=>absurd e id)).trans' u (fun k Q e=>e.elim (fun e=>by have:=t.out k e;omega) id);have a2:¬(SFoot N ⟨.slice none 0 0,.slice none 0 0,[]⟩ y\/Foot b L M y):=fun e=>e.elim (fun e=>by have h1:=t.out y e;omega) (fun e=>by have:=HH.out.lt e;have:=a6.out;omega);have G:=l.out.fr u a2;have HJ:=Z hj;have HS:=Z K;have a7:=Z a3;have HF:=Z F3;have HL:=Z (fun s (f:Fr Nil q s)=>WF N _ _ s (K.nil f));have HK:Hid (∀ s,Fr Nil q s->s.cell? ⟨y,0,none⟩=some (.int .i64 c)/\s.cell? ⟨y,2,none⟩=some (.int .i64 sync)):=fun s f=>⟨(G.fr f id).cell 0,(G.fr f id).cell 2⟩;obtain⟨k0,k2⟩:=HK.out q (O _ _);have b5:=u.size;clear hj u F3 G K a3 c2 a2 l;generalize a0:Z5 r=S0 at HL HS;have a9:=Z a0;clear a0;go_wp2_with fail
 go_region_held3 (fun s=>s.cell? ⟨y,0,none⟩=some (.int .i64 c)/\s.cell? ⟨y,2,none⟩=some (.int .i64 sync)) (first|assumption|go_keep|exact HK.out _ z8)
  (first|(go_at_call 98;refine(HL.out _ z8).mono ?_;rintro e wl ⟨rfl,b7⟩;subst wl))
 have bn:=(Blk.new q (({self:=c,given:=S0.IQ,every:=sync,writes:=0,readOnly:=false,J:=JM.at a r false,S:=S0}:NM).cells {nb:=q.heap.size,jb:=jb,sb:=N,db:=b,mv:=.pointer none,LS:=Y,LD:=L2}) 123).drew;have fn:Fr Nil q (q.alloc (.cells #[.int .i64 c,.pointer (some ⟨jb,0,none⟩),.pointer (some ⟨N,0,none⟩),.int .i64 S0.IQ,.int .i64 sync,.int .i64 0,.pointer none,.bool false] 123)).drew:=((O _ _).alloc _).drew;have V:Hid (NRep (q.alloc (.cells #[.int .i64 c,.pointer (some ⟨jb,0,none⟩),.pointer (some ⟨N,0,none⟩),.int .i64 S0.IQ,.int .i64 sync,.int .i64 0,.pointer none,.bool false] 123)).drew {nb:=q.heap.size,jb:=jb,sb:=N,db:=b,mv:=.pointer none,LS:=Y,LD:=L2} (NM.opened c a sync r) M):=by
  unfold NM.opened;rw[a9.out];exact⟨bn,Blk.fr HJ.out fn id,HS.out.nil fn,a7.out.nil fn⟩
 have a8:Hid (Fr (Foot b L M) w (q.alloc (.cells #[.int .i64 c,.pointer (some ⟨jb,0,none⟩),.pointer (some ⟨N,0,none⟩),.int .i64 S0.IQ,.int .i64 sync,.int .i64 0,.pointer none,.bool false] 123)).drew):=HF.out.trans (fn.mono (S':=Foot b L M) (fun _ _ e=>absurd e id));have b2:=HF.out.size;clear bn fn
 go_wp2
 go_ret2;refine⟨_,rfl,V.out,rfl,fun k Q=>?_,fun k Q=>?_,a8.out⟩
 .rcases Q with e|e|e|e
  .exact .inr (by rw[e];exact b2)
  .exact .inr (by rw[e];have:=g.out.size;simp only;omega)
  .rcases b3 k e with e|e
   .exact .inr (by rw[t.out k e];exact z)
   .exact .inr (NR g.out.size e)
  .exact(b1 k e).imp id (fun e=>NR g.out.size e)
 .rcases b4 k Q with e|e
  .obtain⟨x,hx,_⟩:=e
   cases hx
  .exact NR g.out.size e
def ZX(b top:Int):List Ver->List Ver->Int->Option Int
 | [],[],n=>some n
 | a::l,u::m,n =>
  if u.seq=0 then(if a.seq<=b\/top<a.seq then none else if TL {a with seq:=0} u then ZX b top l m a.seq else none)
  else if TL a u then ZX b top l m n else none
 | _,_,_=>none
theorem YE{a top:Int}:∀ {m:List Ver}{n:Int},(∀ u∈m,u.seq≠0)->ZX a top m m n=some n
 | [],_,_=>rfl
 | u::m,n,h=>by
  unfold ZX;rw[Ma (h u (NY ..)),Mg ((Xv _ _).2 rfl),YE (n:=n) (fun v b=>h v (NX _ b))]
def Vw(n:Int)(v:Ver):Ver:=if v.seq=0 then {v with seq:=n} else v
def zO(top:Int):Int->Keys->Keys->Keys × Int × Bool
 | mo,[],[]=>([],mo,true)
 | mo,(a,l)::S,(b,u)::M =>
  if a=b then
   match ZX mo top l u 0 with
   | none=>((b,u)::M,mo,false)
   | some n=>if 0<n then((b,u.map (Vw n))::(zO top n S M).1,(zO top n S M).2) else((b,u)::(zO top mo S M).1,(zO top mo S M).2)
  else((b,u)::M,mo,false)
 | mo,_,M=>(M,mo,false)
def Zh(W:WM)(N:NM)(m:LM):Nat × Option LM :=
 if N.readOnly=W.broken/\N.S.keys.length=m.keys.length/\N.S.hints=m.hints then
  ((zO (16*W.calls) W.most N.S.keys m.keys).2.1.toNat,if (zO (16*W.calls) W.most N.S.keys m.keys).2.2=true then some {m with keys:=(zO (16*W.calls) W.most N.S.keys m.keys).1} else none)
 else(W.most,none)
theorem PX{b c n:Int}{a:ByteArray}{l u:List Ver}{S M:Keys}(h:ZX c b l u 0=some n)(d:0<n):zO b c ((a,l)::S) ((a,u)::M)=((a,u.map (Vw n))::(zO b n S M).1,(zO b n S M).2):=by
 conv=>lhs;unfold zO
 rw[Mg rfl,h];simp only;rw[Mg d]
theorem Vx{top mo n:Int}{a:ByteArray}{l u:List Ver}{S M:Keys}(h:ZX mo top l u 0=some n)(b:¬0<n):zO top mo ((a,l)::S) ((a,u)::M)=((a,u)::(zO top mo S M).1,(zO top mo S M).2):=by
 conv=>lhs;unfold zO
 rw[Mg rfl,h];simp only;rw[Ma b]
def YF(self:Int)(a:Int)(K:Keys):Prop:=∀ e∈K,∀ u∈e.2,u.node=self->u.seq<=a
def Given(K:Keys):Prop:=∀ e∈K,∀ u∈e.2,1<=u.seq
def V1(self:Int)(K:Keys):Prop:=∀ e∈K,∀ u∈e.2,u.seq=0->u.node=self
theorem YF.mono{self c a:Int}{K:Keys}(h:YF self c K)(o:c<=a):YF self a K:=fun e g u r q=>Int.le_trans (h e g u r q) o
theorem Given.zero{self:Int}{K:Keys}(h:Given K):V1 self K:=fun e a u b c=>by have:=h e a u b;omega
theorem UP{self j top:Int}:∀ {l m:List Ver}{s:Int},(∀ u∈l,u.node=self->u.seq<=j)->(∀ u∈l,1<=u.seq)->(∀ u∈m,u.seq=0->u.node=self)->l≠m->ZX j top l m s=none
 | [],[],s,_,_,_,h=>absurd rfl h
 | a::l,u::m,s,d,f,g,h=>by
  have k:=fun s=>UP (top:=top) (s:=s) (fun x b=>d x (NX _ b)) (fun x b=>f x (NX _ b)) (fun x b=>g x (NX _ b)) (l:=l) (m:=m);unfold ZX;have o:=f a (NY ..);by_cases c:u.seq=0
  .rw[Mg c]
   split
   .rfl
   .split
    .rename_i hm hs
     exfalso
     have e:=(Xv _ _).1 hs;have i:=g u (NY ..) c;rw[<- e] at i;have:=d a (NY ..) i;exact hm (.inl this)
    .rfl
  .rw[Ma c]
   split
   .rename_i hs
    have e:=(Xv _ _).1 hs;subst e;exact k s (fun e=>h (by rw[e]))
   .rfl
 | [],_::_,_,_,_,_,_=>rfl
 | _::_,[],_,_,_,_,_=>rfl
theorem WV{mo top:Int}:∀ {S:Keys},Given S->zO top mo S S=(S,mo,true)
 | [],_=>rfl
 | (a,l)::S,h=>by
  have d:=WV (mo:=mo) (top:=top) (S:=S) (fun e b=>h e (NX _ b));rw[Vx (YE (n:=0) (fun u c=>by have:=h (a,l) (NY ..) u c;omega)) (by omega),d]
theorem R2{self g top:Int}:∀ {S M:Keys},YF self g S->Given S->V1 self M->S≠M->zO top g S M=(M,g,false)
 | [],[],_,_,_,h=>absurd rfl h
 | (a,l)::S,(b,u)::M,i,f,j,h=>by
  by_cases c:a=b
  .subst c
   by_cases k:l=u
   .subst k
    have o:=R2 (top:=top) (S:=S) (M:=M) (fun e d=>i e (NX _ d)) (fun e d=>f e (NX _ d)) (fun e d=>j e (NX _ d)) (fun e=>h (by rw[e]));rw[Vx (YE (n:=0) (fun u m=>by have:=f (a,l) (NY ..) u m;omega)) (by omega),o]
   .unfold zO
    rw[Mg rfl,UP (i (a,l) (NY ..)) (f (a,l) (NY ..)) (j (a,u) (NY ..)) k]
  .unfold zO
   rw[Ma c]
 | [],_::_,_,_,_,_=>rfl
 | _::_,[],_,_,_,_=>rfl
theorem UQ{mo top:Int}:∀ (A:Keys){S M:Keys},Given A->zO top mo (A++S) (A++M)=(A++(zO top mo S M).1,(zO top mo S M).2)
 | [],_,_,_=>rfl
 | (a,l)::A,S,M,h=>by
  have d:=UQ (mo:=mo) (top:=top) A (S:=S) (M:=M) (fun e b=>h e (NX _ b));rw[MJ,MJ,Vx (YE (n:=0) (fun u c=>by have:=h (a,l) (NY ..) u c;omega)) (by omega),d]
  rfl
theorem RU{mo top n:Int}{K:Keys}(a:ByteArray)(v:Ver)(h:Ye K)(d:Given K)(c:v.seq=0)(j:mo<n)(k:0<=mo)(l:n<=top) :
 zO top mo (Z0 K a [{v with seq:=n}]) (Z0 K a [v])=(Z0 K a [{v with seq:=n}],n,true):=by
 rw[Zk a _ h,Zk a _ h];simp only[KT,MN];unfold Zm;have f:∀ e∈K.take (low zb (K.map Prod.fst) a),e∈K:=fun e b=>Lr b;have g:∀ e∈K.drop (if zD zb (K.map Prod.fst) a=true then low zb (K.map Prod.fst) a+1 else low zb (K.map Prod.fst) a),e∈K:=fun e b=>MO b;generalize K.take (low zb (K.map Prod.fst) a)=A at f |-;generalize K.drop (if zD zb (K.map Prod.fst) a=true then low zb (K.map Prod.fst) a+1 else low zb (K.map Prod.fst) a)=C at g |-;rw[Mm,Mm,UQ A (fun e b=>d e (f e b))];simp only[List.singleton_append];have i:ZX mo top [{v with seq:=n}] [v] 0=some n:=by
  unfold ZX;rw[Mg c,Ma (by simp only;omega),Mg ((Xv _ _).2 (by cases v;simp only at c |-;rw[c]))]
  rfl
 rw[PX i (by omega),WV (fun e b=>d e (g e b))];simp[Vw,c]
def zP(m:LM)(S:SM):Prop:=m.keys=S.keys/\m.hints=S.hints
structure MOk(node:Int)(m:LM)(t:Nat):Prop where
 Gv:Ye m.keys
 keys:m.keys.length<=t
 lens:∀ e∈m.keys,e.2.length<=5
 hints:m.hints.length<=33
 zero:V1 node m.keys
 node:m.node=node
def YV(b:Int)(a c:Nat)(S:SM):Prop:=Zo S/\c<=S.IQ/\S.IQ<=16*a/\YF b c S.keys
def Z1(b:Int)(a c:Nat)(F:List Fact)(p:Nat):Prop:=∀ q,p<=q->q<=F.length->YV b a c (atF F q)
def Hist(st:List LM)(F:List Fact)(p:Nat)(a:Prop):Prop :=
 ∃ j:Nat->Nat,(∀ q r,q<=r->j q<=j r)/\(∀ q,p<=q->q<=F.length->∃ m,st[j q]?=some m/\zP m (atF F q))/\(a->j F.length+1=st.length)
theorem Hist.mono{st:List LM}{F:List Fact}{p e:Nat}{T c:Prop}(h:Hist st F p T)(z:p<=e)(y:c->T):Hist st F e c:=by
 obtain⟨j,g,o,r⟩:=h;exact⟨j,g,fun q a b=>o q (NR z a) b,fun t=>r (y t)⟩
theorem Hist.last{st:List LM}{F:List Fact}{p:Nat}(h:Hist st F p True)(d:p<=F.length):∃ m,st[st.length-1]?=some m/\zP m (atF F F.length)/\0<st.length:=by
 obtain⟨j,g,b,c⟩:=h;obtain⟨m,a,f⟩:=b F.length d (NS _);have:=c trivial;have e:j F.length=st.length-1:=by omega
 rw[e] at a;exact⟨m,a,f,by omega⟩
theorem Hist.quiet{st:List LM}{F:List Fact}{p:Nat}{T:Prop}(h:Hist st F p T)(l:p<=F.length)(x:Fact)(o:∀ m,zP m (atF F F.length)->zP m ((atF F F.length).enter x)):Hist st (F++[x]) p T:=by
 obtain⟨j,i,g,k⟩:=h;refine⟨fun q=>j (min q F.length),fun q r h=>i _ _ (by omega),fun q a b=>?_,fun t=>?_⟩
 .rw[NQ,NU] at b
  by_cases d:q<=F.length
  .obtain⟨m,c,f⟩:=g q a d
   refine⟨m,?_,by rw[Ym d];exact f⟩;show st[j (min q F.length)]?=_;rw[MU d];exact c
  .have e:q=F.length+1:=by omega
   obtain⟨m,c,f⟩:=g F.length l (NS _);refine⟨m,?_,?_⟩
   .show st[j (min q F.length)]?=_
    rw[Ib (by omega)];exact c
   .rw[e,Yf]
    exact o m f
 .rw[NQ,NU]
  show j (min (F.length+1) F.length)+1=_;rw[Ib (by omega)];exact k t
theorem Hist.push{st:List LM}{F G:List Fact}{p:Nat}{T:Prop}(o:G.length<=1)(h:p<=F.length->Hist st F p T)(i:p<=(F++G).length)(m:LM)(g:zP m (atF (F++G) (F++G).length)):Hist (st++[m]) (F++G) p True:=by
 by_cases f:p<=F.length
 .obtain⟨j,h1,h2,h3⟩:=h f
  refine⟨fun q=>if q<(F++G).length then min (j q) st.length else st.length,fun q r h=>?_,fun q a b=>?_,fun _=>?_⟩
  .have:=h1 q r h
   simp only;split <;> split <;> omega
  .by_cases hq:q<(F++G).length
   .have hqF:q<=F.length:=by rw[NQ] at hq;omega
    obtain⟨l,c,k⟩:=h2 q a hqF;have d:=(Md.1 c).1;refine⟨l,?_,by rw[Ym hqF];exact k⟩;simp only;rw[Mg hq,MU (by omega),LL d];exact c
   .have e:q=(F++G).length:=by omega
    refine⟨m,?_,by rw[e];exact g⟩;simp only;rw[Ma hq];simp
  .simp
 .refine⟨fun _=>st.length,fun _ _ _=>NS _,fun q a b=>?_,fun _=>by simp⟩
  have e:q=(F++G).length:=by rw[NQ] at b i |-;omega
  exact⟨m,by simp,by rw[e];exact g⟩
theorem Hist.one{F:List Fact}(m:LM)(c:zP m (atF F F.length)):Hist [m] F F.length True:=by
 refine⟨fun _=>0,fun _ _ _=>NS _,fun q a b=>?_,fun _=>rfl⟩;have e:q=F.length:=by omega
 rw[e];exact⟨m,rfl,c⟩
theorem Hist.maybe{st:List LM}{F:List Fact}{p:Nat}{T:Prop}(h:Hist st F p T)(m:LM):Hist (st++[m]) F p False:=by
 obtain⟨j,d,e,_⟩:=h;refine⟨j,d,fun q a b=>?_,fun f=>f.elim⟩;obtain⟨i,c,g⟩:=e q a b;exact⟨i,by rw[LL (Md.1 c).1];exact c,g⟩
theorem Wq{F a:List Fact}(h:a<+:F){q:Nat}(b:q<=a.length):atF a q=atF F q:=by
 obtain⟨r,rfl⟩:=h;rw[Ym b]
theorem Hist.cut{st:List LM}{F c:List Fact}{p e:Nat}{T:Prop}(h:Hist st F p T)(d:c<+:F)(l:p<=e):Hist st c e False:=by
 obtain⟨j,g,i,_⟩:=h;refine⟨j,g,fun q a b=>?_,fun f=>f.elim⟩;obtain⟨m,k,o⟩:=i q (NR l a) (NR b d.length_le);exact⟨m,k,by rw[Wq d b];exact o⟩
theorem Z1.cut{d:Int}{c mo:Nat}{F e:List Fact}{p g:Nat}(h:Z1 d c mo F p)(f:e<+:F)(i:p<=g):Z1 d c mo e g:=fun q a b=>by
 rw[Wq f b];exact h q (NR i a) (NR b f.length_le)
theorem Z1.snoc{d:Int}{c g:Nat}{F:List Fact}{p:Nat}(h:p<=F.length->Z1 d c g F p)(x:Fact)(i:YV d c g ((atF F F.length).enter x)):Z1 d c g (F++[x]) p:=fun q a b=>by
 rw[NQ,NU] at b;by_cases f:q<=F.length
 .rw[Ym f]
  exact h (NR a f) q a f
 .have e:q=F.length+1:=by omega
  rw[e,Yf];exact i
theorem YV.mono{e:Int}{c a o g:Nat}{S:SM}(h:YV e c o S)(q:c<=a)(y:o<=g)(r:g<=S.IQ):YV e a g S :=
 ⟨h.1,r,NR h.2.2.1 (Nat.mul_le_mul_left 16 q),h.2.2.2.mono (by omega)⟩
theorem Hist.found{st:List LM}{F:List Fact}{p:Nat}{T:Prop}(h:Hist st F p T)(Q:p<=F.length) :
 ∃ i m,st[i]?=some m/\zP m (atF F F.length)/\(∀ k f,i<k->st[k]?=some f->¬zP f (atF F F.length))/\Hist (st.take i++[m]) F p True/\(T->i+1=st.length):=by
 obtain⟨j,D,E,K⟩:=h;obtain⟨S,A,B⟩:=E F.length Q (NS _)
 -- the greatest index
 have C:∀ d i m,st.length-i<=d->st[i]?=some m->zP m (atF F F.length)->j F.length<=i->∃ i m,st[i]?=some m/\zP m (atF F F.length)/\j F.length<=i/\∀ k f,i<k->st[k]?=some f->¬zP f (atF F F.length):=by
  intro d
  induction d with
  | zero =>
   intro i m L o;have:=(Md.1 o).1;omega
  | succ d R =>
   intro i m L o x I;by_cases s:∃ k f,i<k/\st[k]?=some f/\zP f (atF F F.length)
   .obtain⟨k,f,y,c,g⟩:=s
    exact R k f (by have:=(Md.1 c).1;omega) c g (by omega)
   .exact⟨i,m,o,x,I,fun k f y c g=>s ⟨k,f,y,c,g⟩⟩
 obtain⟨i,m,o,x,I,v⟩:=C _ _ S (NS _) A B (NS _);have M:=(Md.1 o).1;have l:∀ k f,k<=i->st[k]?=some f->(st.take i++[m])[k]?=some f:=fun k f y c=>by
  by_cases z:k<i
  .rw[LL (by rw[NT];omega),MS z]
   exact c
  .have:k=i:=by omega
   subst this;rw[o] at c;obtain rfl:=Mp c;rw[KM (by rw[NT];omega)];have J:k-(st.take k).length=0:=by rw[NT];omega
   rw[J]
   rfl
 refine⟨i,m,o,x,v,⟨fun q=>if q<F.length then min (j q) i else i,fun q r h=>?_,fun q a b=>?_,fun _=>?_⟩,fun t=>?_⟩
 .have:=D q r h
  simp only;split <;> split <;> omega
 .by_cases hq:q<F.length
  .obtain⟨f,c,g⟩:=E q a b
   have N:=D q F.length b;refine⟨f,?_,g⟩;simp only;rw[Mg hq,MU (by omega)];exact l _ f (by omega) c
  .have e:q=F.length:=by omega
   refine⟨m,?_,by rw[e];exact x⟩;simp only;rw[Ma hq];exact l i m (NS _) o
 .simp only[IE,MN,NQ,NT,NU]
  omega
 .have:=K t
  omega
def Zer(self:Int)(mo:Nat)(m:LM)(S:SM)(n:Nat):Prop :=
 ∃ K a v,Ye K/\Given K/\YF self mo K/\v.seq=0/\v.node=self/\m.keys=Z0 K a [v]/\S.keys=Z0 K a [{v with seq:=n}]/\m.hints=S.hints
theorem Zo.given{S:SM}(h:Zo S):Given S.keys:=fun e a u b=>((h.key e a).2.2 u b).one
theorem Xy{W:WM}{N:NM}{m:LM}(d:Zo N.S)(b:N.readOnly=W.broken)(e:zP m N.S):Zh W N m=(W.most,some m):=by
 obtain⟨a,c⟩:=e;unfold Zh;rw[Mg ⟨b,by rw[a],c.symm⟩,a,WV d.given];simp only[JO,MP];rw[<- a]
theorem R3{W:WM}{N:NM}{m:LM}(a:Zo N.S)(b:YF W.node W.most N.S.keys)(d:V1 W.node m.keys)(c:¬(N.readOnly=W.broken/\zP m N.S)):Zh W N m=(W.most,none):=by
 unfold Zh;split
 .rename_i h1
  rw[R2 b a.given d (fun e=>c ⟨h1.1,e.symm,h1.2.2.symm⟩)];simp
 .rfl
theorem Vj{W:WM}{N:NM}{m:LM}{n:Nat}(h:Zer W.node W.most m N.S n)(p:W.most<n)(q:n<=16*W.calls)(d:N.readOnly=W.broken) :
 Zh W N m=(n,some {m with keys:=N.S.keys}):=by
 obtain⟨K,a,v,c,e,l,f,o,g,i,j⟩:=h;have k:=RU (mo:=W.most) (top:=16*W.calls) (n:=(n:Int)) a v c e f (by omega) (by omega) (by omega);unfold Zh;have b:(Z0 K a [{v with seq:=(n:Int)}]).length=(Z0 K a [v]).length:=by
  rw[Zk a _ c,Zk a _ c];simp only[KT,MN,Zm,NQ,NU]
 rw[g,i,k,Mg ⟨d,b,j.symm⟩];simp
structure Cm(W:WM)(t:Nat):Prop where
 Gq:∀ m∈W.st,MOk W.node m t
 calls:W.calls<=t
 ww:W.writes<=t
 len:W.st.length<=t+1
 ne:0<W.st.length
 next:W.next<=t
 base:W.base<=100000
 FW:W.bk.vs.length<=4*t
 FT:W.bk.vm.length<=4*t
 FQ:W.bk.ns.length<=4*t
 FU:W.bk.nm.length<=4*t
 FV:W.bk.hs.length<=4*t
 FP:W.bk.hm.length<=4*t
 Hy:-9223372036854775808<=W.Hy/\W.Hy<=9223372036854775807
def WM.Gn(W:WM):Int:=if W.room<0 then 1152921504606846976 else W.room
structure NI(W:WM)(N:NM)(M:DM)(F:List Fact)(p t:Nat):Prop where
 kp:Kp N M F p t (N.readOnly=false)
 cm:Cm W t
 room:M.room=W.Gn
 Gt:Hist W.st F p True
 GR:Z1 W.node W.calls W.most F p
 ro:N.readOnly=W.broken
 self:W.node=(N.self:Int)
 nd:N.self<4
 most:W.most<=N.given
 given:N.given<=N.S.IQ
 FD:N.readOnly=false->N.given<N.S.IQ->Leas F p N.S.IQ
 every:W.every=(N.every:Int)
 wr:N.readOnly=false->N.every≠0->N.writes=W.writes%N.every
 nw:N.writes<=t
 dead:M.dead=false
def Doubt(W:WM)(st:List LM)(m:LM)(F:List Fact)(p n:Nat):Prop :=
 ∃ a x,F=a++[x]/\(p<=a.length->Hist st a p True)/\Zer W.node W.most m (atF F F.length) n/\W.most<n/\Z1 W.node W.calls n F p/\∀ q,p<=q->q<=a.length->YF W.node W.most (atF F q).keys
structure Sh(W:WM)(M:DM)(F:List Fact)(p t:Nat):Prop where
 lg:∃ ss,Lg M ss p t/\zc ss=F
 cm:Cm W t
 room:M.room=W.Gn
 all:(Z1 W.node W.calls W.most F p/\(Hist W.st F p True\/(W.Hp=true\/M.dead=true)/\Hist W.st F p False))\/(W.Hp=true\/M.dead=true)/\∃ st m n,W.st=st++[m]/\Doubt W st m F p n
theorem Yn(l:List Ver)(n:Int)(h:∀ u∈l,u.Nat):isN (grV l n):=by
 unfold grV;have c:∀ (l:List Ver) (a:Int),isN a->(∀ u∈l,u.Nat)->isN (l.foldl (fun m u=>if u.node=n then max m u.seq else m) a):=by
  intro l
  induction l with
  | nil=>intro a b _;exact b
  | cons x l f =>
   intro a b d;rw[LA];refine f _ ?_ (fun u e=>d u (NX _ e));split
   .have:=(d x (NY ..)).seq
    unfold isN at *;omega
   .exact b
 exact c l 0 ⟨by decide,by decide⟩ h
theorem U2{a:ByteArray}{l:List Ver}(b:zz a=true)(h:∀ u∈l,VOk u)(d:l.length<=5):(zj (.inr (.inl (a,l)))).size<=1900:=by
 show(zk (YK a l)).size<=1900;rw[YN];unfold zz at b;simp only[Ms] at b;unfold YK;have e:=zr (n:=2) (by decide);have f:=Xx a (by omega);have g:=WN l h d;have c:=Wg (zg 2++(zH a.data.toList++Zb l)) (by simp only[NQ];omega);simp only[NQ] at c;omega
theorem Jl.size{J:JM}{M:DM}{i:List Seg}{p t:Nat}(h:Jl J M i)(c:Lg M i p t):J.size<=2000*t/\J.last<=t:=by
 have j:=h.1;have a:J.last=i.length:=by rw[j];exact JM.GE _ _ _
 refine⟨?_,by rw[a,<- c.Hs.length];exact c.bd.dir⟩;rcases Ld i with e|⟨r,s,e⟩
 .rw[j,e];exact Me _
 .rw[Le] at e
  subst e;obtain⟨d,f,q,o,z,_,_⟩:=c.Hs.last;have y:f∈M.ids:=c.bd.Gc (ze zi (r.length+1),f) (by rw[q];simp);have:=c.bd.file y;rw[o] at this;rw[j,JM.Hz];exact this
theorem Ni{J:JM}{M:DM}{l:List Seg}{p t:Nat}(h:Lg M l p t)(b:Jl J M l)(v:t+2<=100000000)(H n:Nat)(u:n<=2000)(m:∀ g∈M.ids,g<H):Y0 J M H n where
 bytes:=by omega
 size:=by have:=(b.size h).1;omega
 last:=by have:=(b.size h).2;omega
 IW:=by
  obtain⟨e,k,c,a,_⟩:=Xd h b.1 (by omega);rw[c];have:=a.bd.IW;simp only;omega
 dir:=by
  obtain⟨e,k,c,a,_⟩:=Xd h b.1 (by omega);rw[c];have:=a.bd.dir;simp only;omega
 room:=fun f s=>by
  obtain⟨e,r,k,q,c,a,_,_,_,_,_,_,_,j,i⟩:=VZ h b (by omega) n f (fun o=>by have:=m f o;omega);rw[c];refine⟨a.bd.part,?_,fun g d=>by have:=a.bd.file d;simp only;omega⟩;cases e with
  | none =>
   have:=((i rfl).1.size a).1;simp only;omega
  | some x =>
   have:=(b.size h).1;rw[j (by simp)];simp only;omega
theorem TM{N:NM}{M:DM}{F:List Fact}{p t:Nat}(h:Kp N M F p t True)(f:t+2<=100000000)(H:Nat)(d:∀ g∈M.ids,g<H)(x:Fact)(i:FOk x)(a:(zj x).size<=2000)(j:N.S.keys.length<=100000000)(k:N.writes<=100000000):Fit N M H x:=by
 have e:=h.Gw F.length;rw[<- h.held] at e;obtain⟨⟨l,b,_,c⟩,_⟩:=h;exact⟨i,Ni b (c trivial) f H _ a d,by omega,by omega,by omega⟩
theorem PY{N:NM}{M:DM}{F:List Fact}{p t:Nat}(h:Kp N M F p t True)(Q:t+10<=100000000)(m:N.given<100000000000)(k:N.given<=N.S.IQ)(D:N.given<N.S.IQ->Leas F p N.S.IQ)(H:Nat)(r:∀ g∈M.ids,g<H)(b:ByteArray)(x:NM->Nat->List Ver)(l:List Ver)
 (I:∀ j:NM,j.S.keys=N.S.keys->j.self=N.self->x j (N.given+1)=l)(J:FOk (.inr (.inl (b,l))))(d:(zj (.inr (.inl (b,l)))).size<=2000)(u:N.S.keys.length<=100000000)(v:N.writes<=100000000):WJ N M H b x where
 log:=(TM h (by omega) H r (.inl (N.given+16)) (by show N.given+16<_;omega) (by have:=U1 (n:=N.given+16) (by omega);omega) u v).log
 keys:=by omega
 hints:=by have s:=h.Gw F.length;rw[<- h.held] at s;omega
 given:=by omega
 fact:=fun f s o z _ a=>by
  obtain⟨L,q,i,K,A,R,B,y,G,C,_⟩:=PT h (by omega) m k D f (fun E=>by have:=r f E;omega);rw[B] at o a |-;simp only at o a |-;subst o;simp only[MP] at a y |-;have c:i.keys=N.S.keys:=by
   rcases C with⟨_,e⟩|⟨_,e,_⟩
   .rw[e]
   .rw[e]
  rw[I {N with J:=q,S:=i,given:=N.given+1} c rfl];exact TM (N:={N with J:=q,S:=i,given:=N.given+1}) (y.kp.mono (fun _=>rfl) (NS _)) (by omega) z a _ J d (by show i.keys.length<=_;rw[c];exact u) v
theorem MOk.more{a:Int}{m:LM}{t u:Nat}(h:MOk a m t)(b:t<=u):MOk a m u:=⟨h.Gv,NR h.keys b,h.lens,h.hints,h.zero,h.node⟩
theorem Cm.more{W:WM}{t u:Nat}(h:Cm W t)(a:t<=u):Cm W u :=
 ⟨fun m b=>(h.Gq m b).more a,NR h.calls a,NR h.ww a,by have:=h.len;omega,h.ne,NR h.next a,h.base,by have:=h.FW;omega,by have:=h.FT;omega,by have:=h.FQ;omega,by have:=h.FU;omega,by have:=h.FV;omega,by have:=h.FP;omega,h.Hy⟩
theorem Cm.Gs{W W':WM}{t:Nat}(h:Cm W t)(k:W'.node=W.node)(j:∀ m∈W'.st,MOk W.node m t)(i:W'.st.length<=t+1)(c:0<W'.st.length)(l:W'.writes<=t)(g:W'.calls=W.calls)(d:W'.next=W.next)(e:W'.base=W.base)(a:W'.bk=W.bk)(f:W'.Hy=W.Hy:=by rfl):Cm W' t :=
 ⟨fun m b=>by rw[k];exact j m b,by rw[g];exact h.calls,l,i,c,by rw[d];exact h.next,by rw[e];exact h.base,by rw[a];exact h.FW,by rw[a];exact h.FT,by rw[a];exact h.FQ,by rw[a];exact h.FU,by rw[a];exact h.FV,by rw[a];exact h.FP,by rw[f];exact h.Hy⟩
structure Aft(W:WM)(mx:LM)(M:DM)(e:Option Int)(N':NM)(M':DM)(t':Nat):Prop where
 body:∃ F' p',Kp N' M' F' p' t' (e=none)/\(e=none->N'.given<N'.S.IQ->Leas F' p' N'.S.IQ)/\(e=none->({W with writes:=W.writes+1}:WM).due=true->p'=F'.length) /\
  ((Hist (W.st++[mx]) F' p' True/\Z1 W.node W.calls W.most F' p')\/(e≠none/\(Hist W.st F' p' True/\Z1 W.node W.calls W.most F' p'\/∃ n,Doubt W W.st mx F' p' n/\n<=N'.given)))
 ro:N'.readOnly=e.isSome
 br:W.broken=false
 Gf:Ans M M' e
 grow:e=none->M.calls<M'.calls
 full:e=some 10->M.room<M.Hx+2000
 room:M'.room=W.Gn
 cm:Cm W t'
 ww:W.writes+1<=t'
 len:W.st.length+1<=t'+1
 Gq:MOk W.node mx t'
 self:W.node=(N'.self:Int)
 nd:N'.self<4
 most:W.most<=N'.given
 given:N'.given<=N'.S.IQ
 every:W.every=(N'.every:Int)
 wr:e=none->N'.every≠0->N'.writes=(W.writes+1)%N'.every
 nw:N'.writes<=t'
 dead:M.dead=false
theorem Aft.Hv{W:WM}{E:LM}{M:DM}{u:NM}{t:DM}{r:Nat}(h:Aft W E M none u t r):∃ s F,NI (W.Hv E) u t s F r:=by
 obtain⟨s,F,G,J,L,K⟩:=h.body;have z:=K.resolve_right (fun x=>x.1 rfl);have p:=G.le;have j:t.dead=false:=by
  rcases h.Gf.1 with⟨_,_,_,e⟩|⟨_,⟨e,_⟩|⟨e,_⟩⟩
  .rw[e];exact h.dead
  .cases e
  .cases e
 have D:u.readOnly=false:=h.ro;obtain⟨b,o,hrel,I⟩:=z.1.last p;have A:b=E:=by simp at o;exact o.symm
 subst A;have i:∀ m∈W.st++[b],MOk W.node m r:=fun m d=>by
  rcases Mc.1 d with d|d
  .exact h.cm.Gq m d
  .rw[NW] at d;subst d;exact h.Gq
 refine⟨s,F,?_⟩;have a:(W.Hv b).node=W.node:=by unfold WM.Hv;simp only;split <;> rfl
 have c:(W.Hv b).calls=W.calls:=by unfold WM.Hv;simp only;split <;> rfl
 have f:(W.Hv b).most=W.most:=by unfold WM.Hv;simp only;split <;> rfl
 have v:(W.Hv b).broken=W.broken:=by unfold WM.Hv;simp only;split <;> rfl
 have y:(W.Hv b).every=W.every:=by unfold WM.Hv;simp only;split <;> rfl
 have q:(W.Hv b).writes=W.writes+1:=by unfold WM.Hv;simp only;split <;> rfl
 have C:(W.Hv b).Gn=W.Gn:=by unfold WM.Hv;simp only;split <;> rfl
 have g:((W.Hv b).st=W.st++[b])\/(({W with writes:=W.writes+1}:WM).due=true/\(W.Hv b).st=[b]):=by
  unfold WM.Hv;simp only;split
  .rename_i k
   refine .inr ⟨k,?_⟩;simp
  .exact .inl rfl
 have l:∀ m∈(W.Hv b).st,MOk W.node m r:=fun m d=>by
  rcases g with e|⟨_,e⟩
  .rw[e] at d;exact i m d
  .rw[e] at d;exact i m (List.mem_append_right _ d)
 exact {
  kp:=G.mono (fun _=>rfl) (NS _)
  cm:=h.cm.Gs a l (by rcases g with e|⟨_,e⟩ <;> rw[e] <;> simp <;> (have:=h.len;omega)) (by rcases g with e|⟨_,e⟩ <;> rw[e] <;> simp) (by rw[q];exact h.ww) c (by unfold WM.Hv;simp only;split <;> rfl) (by unfold WM.Hv;simp only;split <;> rfl) (by unfold WM.Hv;simp only;split <;> rfl) (by unfold WM.Hv;simp only;split <;> rfl)
  room:=by rw[C];exact h.room
  Gt:=by
   rcases g with e|⟨k,e⟩
   .rw[e];exact z.1
   .rw[e,L rfl k];exact Hist.one b hrel
  GR:=by rw[a,c,f];exact z.2
  ro:=by rw[v,h.br];exact D
  self:=by rw[a];exact h.self
  nd:=h.nd
  most:=by rw[f];exact h.most
  given:=h.given
  FD:=fun _=>J rfl
  every:=by rw[y];exact h.every
  wr:=fun _ B=>by rw[q];exact h.wr rfl B
  nw:=h.nw
  dead:=j}
theorem Aft.gone{W:WM}{a:LM}{M:DM}{x:Int}{l:NM}{f:DM}{j:Nat}(h:Aft W a M (some x) l f j)(k:f.dead=true):∃ e i,Sh {W with broken:=true,st:=W.st++[a]} f e i j:=by
 obtain⟨e,i,⟨⟨s,r,q,_⟩,_⟩,_,_,o⟩:=h.body;have d:∀ m∈W.st++[a],MOk W.node m j:=fun m b=>by
  rcases Mc.1 b with b|b
  .exact h.cm.Gq m b
  .rw[NW] at b;subst b;exact h.Gq
 refine⟨e,i,⟨s,r,q⟩,h.cm.Gs rfl d (by have:=h.len;show(W.st++[a]).length<=_;rw[NQ];exact this) (by show 0<(W.st++[a]).length;simp) h.cm.ww rfl rfl rfl rfl,h.room,?_⟩;rcases o with⟨c,g⟩|⟨_,⟨c,g⟩|⟨n,c,_⟩⟩
 .exact .inl ⟨g,.inl c⟩
 .exact .inl ⟨g,.inr ⟨.inr k,c.maybe a⟩⟩
 .exact .inr ⟨.inr k,W.st,a,n,rfl,c⟩
theorem Aft.told{W:WM}{k:LM}{M:DM}{x:Int}{d:NM}{r:DM}{j:Nat}(h:Aft W k M (some x) d r j)(hd:r.dead=false) :
 (∀ m',(Zh {W with broken:=true} d k).2=some m'->∃ f i,NI {W with broken:=true,most:=(Zh {W with broken:=true} d k).1,st:=W.st++[m']} d r f i j) /\
   ((Zh {W with broken:=true} d k).2=none->(Zh {W with broken:=true} d k).1=W.most/\∀ n,W.st[W.st.length-1]?=some n->Zh {W with broken:=true} d n=(W.most,some n)/\∃ f i,NI {W with broken:=true} d r f i j):=by
 obtain⟨f,i,L,_,_,hc⟩:=h.body;have c:=L.le;have g:d.readOnly=true:=h.ro;have b:d.S=atF f f.length:=L.held;have Q:Kp d r f i j (d.readOnly=false):=L.mono (fun e=>by rw[g] at e;cases e) (NS _);have y:∀ m',MOk W.node m' j->∀ m∈W.st++[m'],MOk W.node m j:=fun m' l m t=>by
  rcases Mc.1 t with t|t
  .exact h.cm.Gq m t
  .rw[NW] at t;subst t;exact l
 have A:∀ (mo:Nat) (st:List LM),(∀ m∈st,MOk W.node m j)->st.length<=j+1->0<st.length->Hist st f i True->Z1 W.node W.calls mo f i->mo<=d.given->NI {W with broken:=true,most:=mo,st:=st} d r f i j:=fun mo st o q h3 hh B S =>
  ⟨Q,h.cm.Gs rfl o q h3 (by have:=h.ww;show W.writes<=j;omega) rfl rfl rfl rfl,h.room,hh,B,g,h.self,h.nd,S,h.given,(fun e=>by rw[g] at e;cases e),h.every,(fun e=>by rw[g] at e;cases e),h.nw,hd⟩
 have Y:=fun(mo:Nat) (m':LM) (l:MOk W.node m' j)=>A mo (W.st++[m']) (y m' l) (by have:=h.len;rw[NQ];exact this) (by simp);rcases hc with⟨o,q⟩|⟨_,⟨o,q⟩|⟨n,o,C⟩⟩
 .-- it took effect
  obtain⟨ml,p,hrel,_⟩:=o.last c;have T:ml=k:=by simp at p;exact p.symm
  subst T;rw[<- b] at hrel;have a:=q f.length c (NS _);rw[<- b] at a;rw[Xy (W:={W with broken:=true}) a.1 g hrel];exact⟨fun m' e=>⟨f,i,by obtain rfl:=Mp e;exact Y W.most ml h.Gq o q h.most⟩,fun e=>by cases e⟩
 .-- it did not
  obtain⟨ml,p,hrel,_⟩:=o.last c;have a:=q f.length c (NS _);rw[<- b] at a hrel;have z:∀ n,W.st[W.st.length-1]?=some n->Zh {W with broken:=true} d n=(W.most,some n)/\∃ f i,NI {W with broken:=true} d r f i j:=fun n C=>by
   rw[p] at C;obtain rfl:=Mp C;exact⟨Xy (W:={W with broken:=true}) a.1 g hrel,f,i,A W.most W.st h.cm.Gq (by have:=h.len;omega) h.cm.ne o q h.most⟩
  by_cases V:zP k d.S
  .rw[Xy (W:={W with broken:=true}) a.1 g V]
   refine⟨fun m' e=>⟨f,i,?_⟩,fun e=>by cases e⟩;obtain rfl:=Mp e;have:=Hist.push (G:=[]) (Me _) (fun _=>o) (by rw[MB];exact c) k (by rw[MB,<- b];exact V);rw[MB] at this;exact Y W.most k h.Gq this q h.most
  .rw[R3 (W:={W with broken:=true}) a.1 a.2.2.2 h.Gq.zero (fun e=>V e.2)]
   exact⟨fun m' e=>(by cases e),fun _=>⟨rfl,z⟩⟩
 .-- its number was not told
  obtain⟨F0,x0,E,I,D,R,B,_⟩:=o;have a:=B f.length c (NS _);rw[<- b] at a D;rw[Vj (W:={W with broken:=true}) D R (by have:=a.2.1;have:=a.2.2.1;show n<=16*W.calls;omega) g];refine⟨fun m' e=>⟨f,i,?_⟩,fun e=>by cases e⟩;obtain rfl:=Mp e;have u:d.S.keys.length=k.keys.length:=by
   obtain⟨K,s,v,X,k2,k3,k4,k5,k6,k7,k8⟩:=D;rw[k6,k7,Zk s _ X,Zk s _ X];simp only[KT,MN,Zm,NQ,NU]
  have J:k.hints=d.S.hints:=by obtain⟨K,s,v,X,k2,k3,k4,k5,k6,k7,k8⟩:=D;exact k8
  have l:MOk W.node {k with keys:=d.S.keys} j:=⟨a.1.Gv,by show d.S.keys.length<=j;rw[u];exact h.Gq.keys,fun e he=>by have:=(a.1.key e he).2.1;omega,h.Gq.hints,a.1.given.zero,h.Gq.node⟩;have:=Hist.push (F:=F0) (G:=[x0]) (by simp) (fun hp=>I hp) (by rw[<- E];exact c) {k with keys:=d.S.keys} (by rw[<- E,<- b];exact⟨rfl,J⟩);rw[<- E] at this;exact Y n _ l this B C
def XV(N:NM)(b:Int)(a:ByteArray):Option Int :=
 if XP N.self b a≠0 then some (XP N.self b a) else if N.readOnly=true then some 8 else if 32<=N.S.hints.length then some 6 else none
theorem ON(N:NM)(M:DM)(b:Int)(a:ByteArray)(f:Nat):N.hint M b a f=match XV N b a with
 | some c=>(c,N,M)
 | none=>N.asked M (.inr (.inr (.inl (b.toNat,a)))) f:=by
 unfold XV NM.hint XP;by_cases d:(zM b&&decide (b≠N.self))=false
 .simp only[d];simp
 .rw[Ma d,Ma d]
  by_cases e:a.size=0\/64<a.size
  .simp only[e];simp
  .rw[Ma e,Ma e]
   cases hr:N.readOnly
   .by_cases h3:32<=N.S.hints.length
    .simp[h3]
    .simp[h3]
   .simp
end Go.Proofs.YtkhnggkkiefcdaaGreatDoor
