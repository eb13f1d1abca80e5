/- larder: joined texts -/
import Derived.Test.YtkhnggkkiefcdaaGreatDoorSFAH
import Derived.Test.YtkhnggkkiefcdaaGreatDoorSFAL
import Derived.Test.YtkhnggkkiefcdaaGreatDoorSFAM
import Derived.Test.YtkhnggkkiefcdaaGreatDoorSFAP
import Derived.Test.YtkhnggkkiefcdaaGreatDoorSFAQ
import Derived.Test.YtkhnggkkiefcdaaGreatDoorSFAR
import Derived.Test.YtkhnggkkiefcdaaGreatDoorSFAS
import Derived.Test.YtkhnggkkiefcdaaGreatDoorSFAU
import Derived.Test.YtkhnggkkiefcdaaGreatDoorSFAV
import Derived.Test.YtkhnggkkiefcdaaGreatDoorSFAW
import Derived.StillTailTactics
namespace Go.Proofs.YtkhnggkkiefcdaaGreatDoor
open Go.RowKit
set_option maxRecDepth 100000
set_option maxHeartbeats 8000000
theorem VK{c w:World}{b i g s:Nat}{m L:DL}{M:DM}{D S:Dir}{k:Nat}{a:List (Nat × Nat)}{u vm:Value}{q:Nat->Value}{p t:Dir}{o:List Dir}(h:DRep c b m M)
 (r:M.ids.length<=100000000000)(j:∀ f,f∈M.ids->(M.file f).bytes.length<=1000000000000)(C:zV c w i g s M D S k a u vm q L p t o)
 (v:Value)(d:Dir)(y:c.ownsRow 0 148 2 v d.length (flat d))(A:∀ e,e∈d->e.2∈M.ids)(z:d.length<=100000000000) :
 Calls Tryz.prog 99 #[v,.pointer (some ⟨i,0,none⟩),.pointer (some ⟨g,0,none⟩)] w fun e x =>
  ∃ l,e=.returned l/\M7 c w x i g s M D S k a L p t o d l:=by
 have E:a.length<=M.ids.length:=by
  have:=Tf (a.map Prod.fst) M.ids C.T.n1 C.T.ids;rw[Hy] at this;exact this
 refine(Nr c w b i g m M a u vm q h C.T v d y A (by omega) j).mono ?_;rintro e x ⟨l,rfl,B⟩;exact⟨l,rfl,C.other B⟩
structure First(w w3:World)(b bo bm nb:Nat)(L:DL)(M:DM)(l1:Value):Prop where
 ex:∃ ps vo vm fV d1,zV w w3 bo bm nb M [] [] 0 ps vo vm fV DL.new [] [] []/\Rel ps M.dir d1/\w3.ownsRow 0 148 2 l1 d1.length (flat d1)/\(∀ j,l1.ownBlock=some j->w.heap.size<=j)
 c0:w3.cell? ⟨b,0,none⟩=some L.BE
 c1:w3.cell? ⟨b,1,none⟩=some L.Bx
structure Second(w w4:World)(b bo bm nb:Nat)(L:DL)(M:DM)(l1 l2:Value):Prop where
 ex:∃ ps vo vm fV d1 s1,zV w w4 bo bm nb M [] [] 0 ps vo vm fV DL.new [] [] []/\Rel ps M.dir d1/\Rel ps M.safe s1/\w4.ownsRow 0 148 2 l1 d1.length (flat d1)/\w4.ownsRow 0 148 2 l2 s1.length (flat s1) /\
  (∀ j,l1.ownBlock=some j->w.heap.size<=j)/\(∀ j,l2.ownBlock=some j->w.heap.size<=j)
 c0:w4.cell? ⟨b,0,none⟩=some L.BE
 c1:w4.cell? ⟨b,1,none⟩=some L.Bx
 n:∀ k,w4.cell? ⟨nb,k,none⟩=(M.cells DL.new)[k]?
 nf:∀ k,w4.frozen? ⟨nb,k,none⟩=false
theorem L9{w W:World}{b g d s:Nat}{L:DL}{M:DM}{y:List (Nat × Nat)}{B vm:Value}{u:Nat->Value}(h:DRep w b L M)
 (c:M.ids.length<=100000000000)(k:∀ f,f∈M.ids->(M.file f).bytes.length<=1000000000000)(j:M.dir.length<=100000000000)(C:zV w W g d s M [] [] 0 y B vm u DL.new [] [] []) :
 Calls Tryz.prog 99 #[L.BE,.pointer (some ⟨g,0,none⟩),.pointer (some ⟨d,0,none⟩)] W fun e t =>
  ∃ a n,e=.returned (.slice a M.dir.length n)/\First w t b g d s L M (.slice a M.dir.length n):=by
 refine(VK h c k C L.BE M.dir h.dir h.BQ j).mono ?_;rintro e t ⟨l,rfl,o⟩;obtain⟨z,D,A,v,E,m,_,r,q,x⟩:=o.ex;obtain⟨a,n,p⟩:=zc q;rw[r.len] at p;subst p;have i:=(h.CY.fr m.T.fr id).cell;simp only[DM.cells] at i;exact⟨a,n,rfl,⟨_,_,_,_,_,m,r,q,x⟩,i 0,i 1⟩
theorem Ns{w x W:World}{b i g v:Nat}{L:DL}{M:DM}{u:Value}(h:DRep w b L M)
 (c:M.ids.length<=100000000000)(m:∀ f,f∈M.ids->(M.file f).bytes.length<=1000000000000)(k:M.safe.length<=100000000000)(F:First w x b i g v L M u)(f:Fr Nil x W) :
 Calls Tryz.prog 99 #[L.Bx,.pointer (some ⟨i,0,none⟩),.pointer (some ⟨g,0,none⟩)] W fun e y =>
  ∃ a n,e=.returned (.slice a M.safe.length n)/\Second w y b i g v L M u (.slice a M.safe.length n):=by
 obtain⟨N,Q,vm,K,J,C,D,q,p⟩:=F.ex;refine(VK h c m (C.Bt f) L.Bx M.safe h.safe h.AC k).mono ?_;rintro e y ⟨l,rfl,o⟩;obtain⟨B,G,E,z,I,d,hs,r,t,A⟩:=o.ex;obtain⟨a,n,s⟩:=zc t;rw[r.len] at s;subst s;have j:=(h.CY.fr d.T.fr id).cell;simp only[DM.cells] at j;exact⟨a,n,rfl,⟨_,_,_,_,_,_,d,D.more hs,r,o.row _ _ _ _ _ (zb q f (fun _ _=>id)) (by decide) (by decide),t,p,A⟩,j 0,j 1,d.CY.cell,d.CY.frozen⟩
theorem Second.lists{w l:World}{b o m a:Nat}{L:DL}{M:DM}{c d:Value}(h:Second w l b o m a L M c d) :
 ∃ g k vm f e i,zV w ((l.setCell ⟨a,0,none⟩ c).setCell ⟨a,1,none⟩ d) o m a M M.dir M.safe 0 g k vm f {DL.new with BE:=c,Bx:=d} e i []:=by
 obtain⟨g,k,vm,f,e,i,C,u,v,q,r,s,t⟩:=h.ex;refine⟨g,k,vm,f,e,i,C.lists ?_ ?_ q r u v s t⟩
 .exact Fr.set (S:=fun j=>j=a) (p:=⟨a,1,none⟩) (Fr.set (S:=fun j=>j=a) (p:=⟨a,0,none⟩) (O _ l) (fun _=>rfl) c) (fun _=>rfl) d
 .exact(C.CY.set 0 c).set 1 d
structure Change(w W w5:World)(bo bm nb:Nat)(M:DM)(k:Nat)(hk:k<M.Bj.length)(L1:DL)(d1 s1:Dir)(c1:List Dir)(l:Value):Prop where
 ex:∃ ps vo vm fV d',zV w w5 bo bm nb M M.dir M.safe k ps vo vm fV L1 d1 s1 c1/\Rel ps M.Bj[k] d'/\w5.ownsRow 0 148 2 l d'.length (flat d')/\(∀ j,l.ownBlock=some j->w.heap.size<=j)
 CY:∀ (g:Nat) (c:List Value) (e:TypeId),Blk W g c e->e≠168->e≠146->Blk w5 g c e
theorem Nt{w A W:World}{b g d y:Nat}{L q:DL}{M:DM}{k:Nat}{J:List (Nat × Nat)}{Q vm v:Value}{E:Nat->Value}{t z:Dir}{s:List Dir}(h:DRep w b L M)
 (c:M.ids.length<=100000000000)(j:∀ f,f∈M.ids->(M.file f).bytes.length<=1000000000000)(m:k<M.Bj.length)(p:k<L.BB.length)(i:M.Bj[k].length<=100000000000)
 (C:zV w A g d y M M.dir M.safe k J Q vm E q t z s)(I:L.BB[k]=v)(f:Fr Nil A W) :
 Calls Tryz.prog 99 #[v,.pointer (some ⟨g,0,none⟩),.pointer (some ⟨d,0,none⟩)] W fun e B =>
  ∃ a n,e=.returned (.slice a M.Bj[k].length n)/\Change w W B g d y M k m q t z s (.slice a M.Bj[k].length n):=by
 subst I;refine(VK h c j (C.Bt f) L.BB[k] M.Bj[k] (h.Bj k p m) (h.AD _ (IX m)) i).mono ?_;rintro e B ⟨l,rfl,o⟩;obtain⟨K,R,N,F,T,D,_,r,x,G⟩:=o.ex;obtain⟨a,n,u⟩:=zc x;rw[r.len] at u;subst u;exact⟨a,n,rfl,⟨_,_,_,_,_,D,r,x,G⟩,o.CY⟩
theorem Change.row{w W c b:World}{e d q:Nat}{M:DM}{k:Nat}{j:k<M.Bj.length}{a:DL}{i r:Dir}{h:List Dir}{l v:Value}(X:Change w W c e d q M k j a i r h l)(o:a.Aj=v)(f:Fr Nil c b) :
 b.ownsRow 0 145 1 v k a.BB:=by
 subst o;obtain⟨_,_,_,_,_,C,_⟩:=X.ex;exact zb C.ch f (fun _ _=>id)
theorem Change.cell{w W e:World}{o g c:Nat}{M:DM}{k:Nat}{z:k<M.Bj.length}{L1:DL}{y B:Dir}{r:List Dir}{l v:Value}(X:Change w W e o g c M k z L1 y B r l)(A:L1.Aj=v) :
 e.cell? ⟨c,2,none⟩=some v:=by
 subst A;obtain⟨_,_,_,_,_,C,_⟩:=X.ex;exact C.CY.cell 2
theorem Change.lt{w W e:World}{h g c:Nat}{M:DM}{k:Nat}{r:k<M.Bj.length}{L1:DL}{q t:Dir}{o:List Dir}{l:Value}(X:Change w W e h g c M k r L1 q t o l):c<e.heap.size:=by
 obtain⟨_,_,_,_,_,C,_⟩:=X.ex;exact C.CY.lt
theorem Change.push{w W q s a:World}{x t d g:Nat}{M:DM}{k:Nat}{z:k<M.Bj.length}{b:DL}{K Y:Dir}{I:List Dir}{l v B:Value}{c:List Value}(X:Change w W q x t d M k z b K Y I l)(V:b.Aj=v)(f:Fr Nil q s)
 (m:App s v 145 1 (k+1) (b.BB++[l]) B a)(N:Blk q g c 145)(Q:∀ j,b.Aj.ownBlock=some j->j<g) :
 (∃ A D vm y E L s2 J,zV w (a.setCell ⟨d,2,none⟩ B) x t d M M.dir M.safe (k+1) A D vm y E L s2 J)/\(∀ i,a.cell? ⟨d,i,none⟩=(M.cells b)[i]?)/\(∀ i,a.frozen? ⟨d,i,none⟩=false) /\
   (∀ i,a.cell? ⟨g,i,none⟩=c[i]?):=by
 subst V;obtain⟨A,D,vm,y,d',C,r,T,R⟩:=X.ex;have h:Blk a d (M.cells b) 143:=(C.CY.fr f id).fr m.fr (zd (zb C.ch f (fun _ _=>id)) (C.CY.fr f id) (by decide));have o:Blk a g c 145:=(N.fr f id).fr m.fr (fun e=>by have:=Q g e;omega);exact⟨⟨_,_,_,_,_,_,_,_,C.push z f m T r R⟩,h.cell,h.frozen,o.cell⟩
theorem Nu(w:World)(M:DM) :
 zV w (((w.alloc (.cells (M.cells DL.new).toArray 143)).alloc (.cells #[.slice none 0 0] 168)).alloc (.cells #[.slice none 0 0] 168)).drew (w.heap.size+1) (w.heap.size+1+1) w.heap.size M [] [] 0 [] (.slice none 0 0) (.slice none 0 0) DL.new.fV DL.new [] [] []:=by
 have f:Fr Nil w (((w.alloc (.cells (M.cells DL.new).toArray 143)).alloc (.cells #[.slice none 0 0] 168)).alloc (.cells #[.slice none 0 0] 168)).drew:=(by repeat' first|exact O _ _|(with_reducible assumption)|refine Fr.drewN ?_ _|refine Fr.drew ?_|refine Fr.alloc ?_ _|refine Fr.set ?_ ?_ _|(intro _;rfl));have c:(w.alloc (.cells (M.cells DL.new).toArray 143)).heap.size=w.heap.size+1:=by simp
 have d:((w.alloc (.cells (M.cells DL.new).toArray 143)).alloc (.cells #[.slice none 0 0] 168)).heap.size=w.heap.size+1+1:=by simp
 have a:=((Blk.new (w.alloc (.cells (M.cells DL.new).toArray 143)) [.slice none 0 0] 168).alloc (.cells #[.slice none 0 0] 168)).drew;have b:=(Blk.new ((w.alloc (.cells (M.cells DL.new).toArray 143)).alloc (.cells #[.slice none 0 0] 168)) [.slice none 0 0] 168).drew;have e:=(((Blk.new w (M.cells DL.new) 143).alloc (.cells #[.slice none 0 0] 168)).alloc (.cells #[.slice none 0 0] 168)).drew;rw[c] at a;rw[d] at b;exact zV.start M (Twin.start M a b (by omega) (by omega) (by omega) f _) e (IQ _)
set_option maxRecDepth 100000 in
theorem La(w:World)(b:Nat)(L:DL)(M:DM)(h:DRep w b L M)(l:M.ids.length<=100000000000)(a3:∀ d,d∈M.dir::M.safe::M.Bj->d.length<=100000000000)(d0:M.Bj.length<=100000000000)
 (E:∀ f,f∈M.ids->(M.file f).bytes.length<=1000000000000) :
 Calls Tryz.prog 54 #[.pointer (some ⟨b,0,none⟩)] w (Oc w M):=by
 have hc:=h.CY.cell;simp only[DM.cells] at hc;obtain⟨ca,cc,a0⟩:=zc h.ch;have d3:=h.CY.lt;have d4:∀ (fn:Fn) (first Q:Array Value) (w:World),(Instr.makeFunc fn first Q).run Tryz.prog w=.ok (.func fn first Q) w:=fun _ _ _ _=>rfl;have c2:¬b=w.heap.size:=by omega
 have c3:¬w.heap.size=b:=by omega
 have B:=Nu w M;simp only[DM.cells,DL.new] at B;have K:=Z B;have m:=Z h;have z:=Z a0;have A:=Z a3;clear h a0 a3 B;go_enter Tryz.func54,Tryz.ntmps54
 go_wp2
 refine GK 33 (by kernel_rfl) (by kernel_rfl) ?_;simp only[Gp,GZ,GH,GU]
 iterate 33 still_step
 refine FV ?_
 go_wp2
 obtain⟨W2,V⟩:∃ W2,(((w.alloc (.cells #[.slice none 0 0,.slice none 0 0,.slice none 0 0,.int .i64 M.room,.int .i64 M.calls,.int .i64 M.cut,.int .i64 M.fail,.int .i64 M.part,.int .i64 M.refused,.int .i64 M.Bb,.bool M.dead] 143)).alloc (.cells #[.slice none 0 0] 168)).alloc (.cells #[.slice none 0 0] 168)).drew=W2:=⟨_,rfl⟩;have p:=K.out;rw[V] at p |-;have q:=(m.out.CY.fr p.T.fr id).cell;simp only[DM.cells] at q;have r:=q 0;have s:=q 1;simp at r s;have N:=Z p;clear p V hc K q
 go_region_held3 (fun w'=>w'.cell? ⟨b,0,none⟩=some L.BE/\w'.cell? ⟨b,1,none⟩=some L.Bx) (first|go_keep|exact⟨‹_›,‹_›⟩)
  (first
  | (go_at_call 99;refine(Ns m.out l E (A.out _ (Hb _ (Hf ..))) HF.out za).mono ?_;rintro e w4 ⟨a2,n2,rfl,J⟩;have c7:=J.c0;have c8:=J.c1;have a7:=J.n;have b7:=J.nf;simp only[DM.cells,DL.new] at a7;have HS:=Z J;clear J)
  | (go_at_call 99;refine(L9 m.out l E (A.out _ (Hf ..)) (N.out.Bt za)).mono ?_;rintro e w3 ⟨a1,n1,rfl,hF⟩;have c4:=hF.c0;have c5:=hF.c1;have HF:=Z hF;clear hF))
 have hL:=HS.out.lists;obtain⟨W5,X⟩:∃ W5,((w4.setCell ⟨w.heap.size,0,none⟩ (.slice a1 M.dir.length n1)).setCell ⟨w.heap.size,1,none⟩ (.slice a2 M.safe.length n2))=W5:=⟨_,rfl⟩;rw[X] at hL |-;obtain⟨ps,vo,vm,fV,d1,s1,C⟩:=hL;have a:=(m.out.CY.fr C.T.fr id).cell;simp only[DM.cells] at a;have i:=a 2;simp at i;rw[z.out] at i;have b2:=Z C;clear C a X HS HF N a7 b7 r s;go_wp2_with fail
 go_loopw [67] (fun c w'=>∃ k:Nat,k<=M.Bj.length/\c=.int .i64 k/\∃ ps vo vm fV L1 d1 s1 c1,zV w w' (w.heap.size+1) (w.heap.size+1+1) w.heap.size M M.dir M.safe k ps vo vm fV L1 d1 s1 c1) (fun c _=>M.Bj.length-(intOf c).toNat)
 case atStart=>exact⟨0,Hg _,rfl,_,_,_,_,_,_,_,_,b2.out⟩
 case round =>
  obtain⟨I,rfl⟩:∃ x,x=wr:=⟨wr,rfl⟩;obtain⟨k,hk,rfl,ps,vo,vm,fV,L1,d1,s1,c1,C⟩:=hrel;have y:=Z C;clear C i;by_cases G:k<M.Bj.length
  .obtain⟨cg,hcg⟩:∃ g,ca=some ⟨g,0,none⟩:=by
    obtain⟨g,c',h',_⟩:=zm m.out.ch (by omega);rw[z.out] at h';simp at h';exact⟨g,h'.1⟩
   subst hcg;have F:k<L.BB.length:=by rw[m.out.Ag];exact G
   obtain⟨ea,ec,D⟩:=zc (m.out.Bj k F G);have c9:I.cell? ⟨cg,k,none⟩=some (.slice ea M.Bj[k].length ec):=by
    have:=zb m.out.ch y.out.T.fr (fun _ _=>id);rw[z.out] at this;rw[<- D];exact own_cell? this k _ (by simp[F])
   have b6:=A.out M.Bj[k] (by simp);obtain⟨na,nc,b0⟩:=zc y.out.ch;have o:=Z b0;have b4:=Z D;have b5:Hid (∀ W',Fr Nil I W'->W'.cell? ⟨w.heap.size,2,none⟩=some (.slice na k nc)):=fun W' hf=>by
    have:=(y.out.CY.fr hf id).cell 2;simp[DM.cells] at this;rw[o.out] at this;exact this
   clear b0 D;have d5:=y.out.CY.lt;have d6:¬I.heap.size=w.heap.size:=by omega
   have d7:¬w.heap.size=I.heap.size:=by omega
   have HG:Hid (∀ j,L1.Aj.ownBlock=some j->j<I.heap.size):=fun j hj=>zC y.out.ch hj;go_wp2_with fail;have a9:=b5.out _ (Fr.alloc (O _ _) (.cells #[.slice ea M.Bj[k].length ec] 145));have t:=(Blk.new I [.slice ea M.Bj[k].length ec] 145).cell 0;simp at t
   go_region_law
    (first
    | (refine Zf (by rfl) _ _ _ _ (by rfl) _ _ (by rfl) (by rfl) (zt 141 _ 145 1 24 Tryz.underlying141 UG (by decide) _ _ _ (HX.out.row o.out za)
        ⟨w5.heap.size,0,none⟩ 1 1 [.slice a5 M.Bj[k].length n5] rfl (XV _ _ _ _ (by simp)) (by intro u hu;simp at hu;subst hu;rfl) (by unfold maxLen;omega) (by omega)) ?_;intro v6 w6 ha;obtain⟨a6,c6,c0⟩:=zc ha.own;subst c0
       obtain⟨T,a8,b8,a4⟩:=HX.out.push o.out za ha b1.out HG.out;have v:=a4 0;simp at v;simp only[DM.cells] at a8;have b3:=Z T;clear a4 ha T)
    | (go_simp;go_at_call 99;refine(Nt m.out l E G F b6 y.out b4.out za).mono ?_;rintro e w5 ⟨a5,n5,rfl,Y⟩
       have a:=Y.CY _ _ _ ((Blk.new I [.slice ea M.Bj[k].length ec] 145).fr (S:=Nil) za id) (by decide) (by decide);have R:=a.cell 0;simp at R;have b9:=Y.cell o.out;have d2:w.heap.size<w5.heap.size:=Y.lt;have HX:=Z Y;have b1:=Z a;clear Y a))
   all_goals
    (clear a8 b8 v b9 R t a9
     go_wp2
     exact⟨⟨k+1,by omega,by go_num,b3.out⟩,by simp[intOf];omega⟩)
  .have hkn:k=M.Bj.length:=by omega
   subst hkn
   go_wp2
   go_ret;exact y.out.said m.out.le
structure Pairs(M:DM)(ps:List (Nat × Nat)):Prop where
 n1:(ps.map Prod.fst).Nodup
 n2:(ps.map Prod.snd).Nodup
 old:∀ p∈ps,p.1∈M.ids
 dir:∀ e∈M.dir,∃ g,(e.2,g)∈ps
theorem VL{a:List (Nat × Nat)}{M:DM}(h:Pairs M a){e:ByteArray × Nat}(c:e∈M.dir):(e.2,second a e.2)∈a:=by
 obtain⟨g,b⟩:=h.dir e c;rw[Um h.n1 b];exact b
theorem Yu{a:List (Nat × Nat)}{M:DM}(h:Pairs M a){e:ByteArray × Nat}(b:e∈M.dir):first a (second a e.2)=e.2:=VJ h.n2 (VL h b)
theorem RJ{c:List (Nat × Nat)}{M:DM}(h:Pairs M c)(k:(M.dir.map (·.2)).Nodup):((M.BU c).dir.map (·.2)).Nodup:=by
 show((Z6 c M.dir).map (·.2)).Nodup;unfold Z6;rw[Ej];refine Ei.2 ?_;refine(List.Pairwise.imp_of_mem ?_ (Ei.1 k));intro a b i j d e;have g:second c a.2=second c b.2:=e;exact d (by rw[<- Yu h i,<- Yu h j,g])
theorem Lies.BU{M:DM}{d:List Seg}(h:Lies M d){a:List (Nat × Nat)}(c:Pairs M a):Lies (M.BU a) d where
 view:=by
  rw[<- h.view];show(Z6 a M.dir).map (fun e=>(e.1,(M.file (first a e.2)).bytes))=_;unfold Z6 DM.view;rw[Ej];refine GS fun e b=>?_;show(e.1,(M.file (first a (second a e.2))).bytes)=_;rw[Yu c b]
 once:=RJ c h.once
 BQ:=fun e b=>by
  obtain⟨x,g,rfl⟩:=Gc.1 b;exact Gc.2 ⟨_,VL c g,rfl⟩
theorem Bd.BU{M:DM}{t:Nat}(h:Bd M t){b:List (Nat × Nat)}(c:Pairs M b):Bd (M.BU b) t where
 c0:=h.c0
 calls:=h.calls
 f0:=h.f0
 fr:=h.fr
 rc:=h.rc
 r0:=h.r0
 r1:=h.r1
 part:=h.part
 all:=by
  refine IP (IP (DQ ?_) (Ux (fun g=>(M.file g).bytes.length) (b.map Prod.fst) M.ids c.n1 (fun x i=>by obtain⟨p,a,rfl⟩:=Gc.1 i;exact c.old p a))) h.all;show((b.map Prod.snd).map fun g=>(M.file (first b g)).bytes.length).sum=_;rw[Ej,Ej];refine GY List.sum (GS fun p a=>?_);show(M.file (first b p.2)).bytes.length=(M.file p.1).bytes.length;rw[VJ c.n2 (f:=p.1) a]
 Aq:=c.n2
 AM:=by
  show(b.map Prod.snd).length<=t;have:=Tf (b.map Prod.fst) M.ids c.n1 (fun x i=>by obtain⟨p,a,rfl⟩:=Gc.1 i;exact c.old p a);rw[Hy] at this |-;exact IP this h.AM
 BQ:=fun e l=>by
  obtain⟨x,i,rfl⟩:=Gc.1 l;exact Gc.2 ⟨_,VL c i,rfl⟩
 once:=RJ c h.once
 Bj:=by show(M.Bj.map _).length<=t;rw[Hy];exact h.Bj
 Bu:=fun d k=>by
  have j:d∈(M.safe::M.Bj).map (Z6 b):=k;obtain⟨x,i,rfl⟩:=Gc.1 j;unfold Z6;rw[Hy];exact h.Bu x i
 dir:=by show(Z6 b M.dir).length<=t;unfold Z6;rw[Hy];exact h.dir
theorem I8{M:DM}(b:List Seg){a:List (Nat × Nat)}(c:Pairs M a):gl (M.BU a) b=gl M b:=by
 unfold gl;show((Z6 a M.dir).zip b).map (fun x=>cnt x.2.1 (M.file (first a x.1.2)).safe)=_;unfold Z6;rw[List.zip_map_left,Ej];refine GS fun x d=>?_;show cnt x.2.1 (M.file (first a (second a x.1.2))).safe=_;rw[Yu c (List.of_mem_zip d).1]
theorem Lg.BU{M:DM}{k:List Seg}{p t:Nat}(h:Lg M k p t){a:List (Nat × Nat)}(g:Pairs M a):Lg (M.BU a) k p t where
 bd:=h.bd.BU g
 BC:=h.BC.BU g
 ok:=h.ok
 Ai:=h.Ai
 pre:=fun D i=>by
  have c:D∈(M.safe::M.Bj).map (Z6 a):=i;obtain⟨x,b,rfl⟩:=Gc.1 c;exact(h.pre x b).map _
 le:=fun e j=>by
  obtain⟨x,b,rfl⟩:=Gc.1 j;show(M.file (first a (second a x.2))).safe<=(M.file (first a (second a x.2))).bytes.length;rw[Yu g b];exact h.le x b
 full:=fun e j=>by
  have d:e∈(Z6 a M.dir).dropLast:=j;unfold Z6 at d;rw[<- List.map_dropLast] at d;obtain⟨x,b,rfl⟩:=Gc.1 d;show(M.file (first a (second a x.2))).safe=(M.file (first a (second a x.2))).bytes.length;rw[Yu g (List.dropLast_subset _ b)];exact h.full x b
 AH:=fun D i=>by
  have c:D∈(M.safe::M.Bj).map (Z6 a):=i;obtain⟨x,b,rfl⟩:=Gc.1 c;have e:(Z6 a x).length=x.length:=by unfold Z6;rw[Hy]
  rw[e];unfold lft;rw[I8 k g];exact h.AH x b
theorem Lg.BP{M:DM}{a:List Seg}{p t:Nat}(h:Lg M a p t)(n:Int):Lg (M.BP n) a p t :=
 ⟨⟨h.bd.c0,h.bd.calls,h.bd.f0,h.bd.fr,h.bd.rc,h.bd.r0,h.bd.r1,h.bd.part,h.bd.all,h.bd.Aq,h.bd.AM,h.bd.BQ,h.bd.once,h.bd.Bj,h.bd.Bu,h.bd.dir⟩,h.BC.same rfl (fun _=>rfl) rfl,h.ok,h.Ai,h.pre,h.le,h.full,h.AH⟩
theorem Lg.BD{M:DM}{b:List Seg}{p t:Nat}(h:Lg M b p t)(n a:Int)(c:-9223372036854775808<=a)(d:a<=9223372036854775807):Lg (M.BD n a) b p t :=
 ⟨⟨h.bd.c0,h.bd.calls,h.bd.f0,h.bd.fr,h.bd.rc,h.bd.r0,h.bd.r1,(by
  show 0<=(if a<0 then wrap64 (-(wrap64 (a+1))) else a);split
  .unfold wrap64;omega
  .omega),h.bd.all,h.bd.Aq,h.bd.AM,h.bd.BQ,h.bd.once,h.bd.Bj,h.bd.Bu,h.bd.dir⟩,h.BC.same rfl (fun _=>rfl) rfl,h.ok,h.Ai,h.pre,h.le,h.full,h.AH⟩
theorem KB{w:World}{b:Nat}{L:DL}{M:DM}{s:List Seg}{p t:Nat}(h:DRep w b L M)(q:Lg M s p t)(u:t<=100000000) :
 Calls Tryz.prog 54 #[.pointer (some ⟨b,0,none⟩)] w fun e l=>∃ c L' g,e=.returned (.pointer (some ⟨c,0,none⟩))/\Own w l c L' (M.BU g)/\Pairs M g:=by
 have a:=q.bd;have k:=a.AM;have j:=a.Bj;refine(La w b L M h (by omega) (fun d m=>?_) (by omega) (fun f o=>by have:=a.file o;omega)).mono ?_
 .rcases HY.1 m with e|e
  .rw[e];have:=a.dir;omega
  .have:=a.Bu d e;omega
 .rintro e l ⟨c,L',g,i,ho,h1,h2,h3,h4⟩
  exact⟨c,L',g,i,ho,h1,h2,fun p r=>(h3 p r).1,fun e i=>h4 e (.inl i)⟩
def NM.opened(d a c:Nat)(b:List Seg):NM:={self:=d,given:=(Zj b).Ba,every:=c,writes:=0,readOnly:=false,J:=JM.at a b false,S:=Zj b}
theorem KC(a:List Fact):a.length<=(zR a).length:=by
 induction a with
 | nil=>exact Hg _
 | cons x a b =>
  have:=T8 (zr x);simp only[zR,Ht,Fh,IM,Hq] at b |-;omega
theorem Lb(S:SM)(x:Fact):(S.enter x).keys.length<=S.keys.length+1:=by
 rcases x with n|x|x|x
 .exact Fs _
 .exact Rw S x.1 x.2
 .exact Fs _
 .exact Fs _
theorem UU(a:List Fact):∀ S:SM,(a.foldl SM.enter S).keys.length<=S.keys.length+a.length:=by
 induction a with
 | nil=>intro S;exact IQ _
 | cons x a b =>
  intro S;have c:=b (S.enter x);have d:=Lb S x;rw[GT,Hq];omega
theorem Jv(M:DM):M.BG=(M.view.map fun e=>e.2.length).sum:=by
 unfold DM.BG DM.view;rw[Ej]
 rfl
theorem Jw(k:Nat)(a:List Seg):(ze a).length<=((Yc k a).map fun e=>e.2.length).sum:=by
 induction a generalizing k with
 | nil=>exact Hg _
 | cons s a c =>
  have b:=c (k+1);have d:=KC s.1;simp only[ze,Ht,Fh,IM,Yc,Fm,Ze] at b |-;omega
theorem Lg.yS{M:DM}{a:List Seg}{p t:Nat}(h:Lg M a p t)(g:t<=100000000) :
 ∀ i,(((ze a).take i).foldl SM.enter SM.nil).keys.length<1099511627776/\(((ze a).take i).foldl SM.enter SM.nil).hints.length<1000000:=fun i=>by
 have b:=UU ((ze a).take i) SM.nil;have c:=Jw 0 a;rw[<- h.BC.view,<- Jv] at c;have d:=h.bd.BG;have e:=h.Ai i;rw[IR] at b;have f:SM.nil.keys.length=0:=rfl;omega
theorem Lg.short{M:DM}{a:List Seg}{p t:Nat}(h:Lg M a p t)(d:t<=100000000):a.length<1000000000:=by
 have b:=h.bd.dir;have c:=h.BC.length;omega
theorem Lg.opened{M:DM}{b:List Seg}{p t:Nat}(h:Lg M b p t)(d a c:Nat)(P:Prop):Kp (NM.opened d a c b) M (ze b) p t P :=
 ⟨⟨b,h,rfl,fun _=>⟨by rw[show(NM.opened d a c b).J=JM.at a b false from rfl,JM.yn,JM.yG],fun e=>by rw[show(NM.opened d a c b).J=JM.at a b false from rfl,JM.yG] at e;cases e⟩⟩,by
  show Zj b=atF (ze b) (ze b).length;unfold atF Zj;rw[HZ]⟩
theorem Un(B b:Nat)(L:DL)(M:DM)(node a sync:Nat)(p:List Seg)(hc:zP node a sync=true)(w:World)(h:DRep w b L M)(hl:Lies M p)(a4:YZ p)(y:p.length<1000000000)
 (z:∀ i,(((ze p).take i).foldl SM.enter SM.nil).keys.length<1099511627776/\(((ze p).take i).foldl SM.enter SM.nil).hints.length<1000000)
 (C:YX B w)(hB:B<=w.heap.size)(G:∀ k,Foot b L M k->B<=k) :
 Calls Tryz.prog 49 #[.pointer (some ⟨b,0,none⟩),.agg #[.int .i64 node,.int .i64 a,.int .i64 sync]] w fun e w' =>
  ∃ l,e=.returned (.tuple #[.pointer (some ⟨l.nb,0,none⟩),.int .i64 0])/\NRep w' l (NM.opened node a sync p) M/\l.db=b/\(∀ k,NFoot l M k->Foot b L M k\/w.heap.size<=k)/\(∀ k,SRead l.LS k->w.heap.size<=k)/\Fr (Foot b L M) w w':=by
 have bc:=Blk.new w [.int .i64 node,.int .i64 a,.int .i64 sync] 102;have f0:Fr Nil w (w.alloc (.cells #[.int .i64 node,.int .i64 a,.int .i64 sync] 102)):=(O _ _).alloc _;have HC:=Z (Vg node a sync (w.alloc (.cells #[.int .i64 node,.int .i64 a,.int .i64 sync] 102)));rw[hc] at HC;have HH:=Z h;have S:=Z C;have Q:=Z hB;have c:=Z (And.intro hl (And.intro a4 (And.intro y z)));clear hc h C hl a4 y z;go_enter Tryz.func49,Tryz.ntmps49;go_wp2_with fail;generalize w.alloc (.cells #[.int .i64 node,.int .i64 a,.int .i64 sync] 102)=wc at bc f0 HC |-;refine HC.out.mono ?_;rintro e g ⟨rfl,F⟩;have m:=bc.fr F id;have F1:=f0.trans F;generalize a0:w.heap.size=t at m |-;have a5:=Z a0;clear bc f0 F a0 HC;have bs:=Blk.new g [.slice none 0 0,.slice none 0 0,.int .i64 0] 161;have f2:Fr Nil g (g.alloc (.cells #[.slice none 0 0,.slice none 0 0,.int .i64 0] 161)):=(O _ _).alloc _;have c2:=(m.fr f2 id).cell;have HR:SRep (g.alloc (.cells #[.slice none 0 0,.slice none 0 0,.int .i64 0] 161)) g.heap.size ⟨.slice none 0 0,.slice none 0 0,[]⟩ SM.nil :=
  ⟨bs,⟨Hc _ 0 _ _,List.Pairwise.nil,fun e he=>by cases he⟩,trivial,Hc _ 0 _ _⟩
 have N:=F1.trans f2;have D:=Z (MW B b L M a g.heap.size ⟨.slice none 0 0,.slice none 0 0,[]⟩ p _ (HH.out.nil N) HR c.out.1 c.out.2.1 c.out.2.2.1 c.out.2.2.2 (S.out.fr Q.out N (fun _ e=>absurd e id)) (IP Q.out N.size) G);have j:=Z (m.fr f2 id);have d:=Z N;have u:=F1.size;have a9:t<g.heap.size:=m.lt;have A:g.heap.size<(g.alloc (.cells #[.slice none 0 0,.slice none 0 0,.int .i64 0] 161)).heap.size:=by simp
 have a3:∀ k,SFoot g.heap.size ⟨.slice none 0 0,.slice none 0 0,[]⟩ k->k=g.heap.size:=fun k K=>by
  rcases K with e|e|e
  .exact e
  .simp[Value.ownBlock] at e
  .simp[Value.ownBlock] at e
 have r:=Z a3;clear bs m F1 f2 HR N a3;go_wp2_with fail;generalize g.alloc (.cells #[.slice none 0 0,.slice none 0 0,.int .i64 0] 161)=w2 at D j d c2 A |-;generalize g.heap.size=J at D u A r a9 |-;refine D.out.mono ?_;rintro e o ⟨jb,L2,T,rfl,hj,b5,a2,b0,I,b2,b3,s⟩;have F3:Fr (Foot b L M) w o:=(d.out.mono (S':=Foot b L M) (fun _ _ e=>absurd e id)).trans' s (fun k K e=>e.elim (fun e=>by have:=r.out k e;omega) id);have a1:¬(SFoot J ⟨.slice none 0 0,.slice none 0 0,[]⟩ t\/Foot b L M t):=fun e=>e.elim (fun e=>by have h1:=r.out t e;omega) (fun e=>by have:=HH.out.lt e;have:=a5.out;omega);have E:=j.out.fr s a1;have HJ:=Z hj;have HS:=Z I;have a6:=Z a2;have HF:=Z F3;have HL:=Z (fun q (f:Fr Nil o q)=>U7 J _ _ q (I.nil f));have HK:Hid (∀ q,Fr Nil o q->q.cell? ⟨t,0,none⟩=some (.int .i64 node)/\q.cell? ⟨t,2,none⟩=some (.int .i64 sync)):=fun q f=>⟨(E.fr f id).cell 0,(E.fr f id).cell 2⟩;obtain⟨k0,k2⟩:=HK.out o (O _ _);have b4:=s.size;clear hj s F3 E I a2 c2 a1 j;generalize Y:Zj p=V at HL HS;have a8:=Z Y;clear Y;go_wp2_with fail
 go_region_held3 (fun q=>q.cell? ⟨t,0,none⟩=some (.int .i64 node)/\q.cell? ⟨t,2,none⟩=some (.int .i64 sync)) (first|assumption|go_keep|exact HK.out _ za)
  (first|(go_at_call 98;refine(HL.out _ za).mono ?_;rintro e wl ⟨rfl,b6⟩;subst wl))
 have bn:=(Blk.new o (({self:=node,given:=V.Ba,every:=sync,writes:=0,readOnly:=false,J:=JM.at a p false,S:=V}:NM).cells {nb:=o.heap.size,jb:=jb,sb:=J,db:=b,mv:=.pointer none,LS:=T,LD:=L2}) 123).drew;have X:Fr Nil o (o.alloc (.cells #[.int .i64 node,.pointer (some ⟨jb,0,none⟩),.pointer (some ⟨J,0,none⟩),.int .i64 V.Ba,.int .i64 sync,.int .i64 0,.pointer none,.bool false] 123)).drew:=((O _ _).alloc _).drew;have R:Hid (NRep (o.alloc (.cells #[.int .i64 node,.pointer (some ⟨jb,0,none⟩),.pointer (some ⟨J,0,none⟩),.int .i64 V.Ba,.int .i64 sync,.int .i64 0,.pointer none,.bool false] 123)).drew {nb:=o.heap.size,jb:=jb,sb:=J,db:=b,mv:=.pointer none,LS:=T,LD:=L2} (NM.opened node a sync p) M):=by
  unfold NM.opened;rw[a8.out];exact⟨bn,Blk.fr HJ.out X id,HS.out.nil X,a6.out.nil X⟩
 have a7:Hid (Fr (Foot b L M) w (o.alloc (.cells #[.int .i64 node,.pointer (some ⟨jb,0,none⟩),.pointer (some ⟨J,0,none⟩),.int .i64 V.Ba,.int .i64 sync,.int .i64 0,.pointer none,.bool false] 123)).drew):=HF.out.trans (X.mono (S':=Foot b L M) (fun _ _ e=>absurd e id));have b1:=HF.out.size;clear bn X
 go_wp2
 go_ret2;refine⟨_,rfl,R.out,rfl,fun k K=>?_,fun k K=>?_,a7.out⟩
 .rcases K with e|e|e|e
  .exact .inr (by rw[e];exact b1)
  .exact .inr (by rw[e];have:=d.out.size;simp only;omega)
  .rcases b2 k e with e|e
   .exact .inr (by rw[r.out k e];exact u)
   .exact .inr (IP d.out.size e)
  .exact(b0 k e).imp id (fun e=>IP d.out.size e)
 .rcases b3 k K with e|e
  .obtain⟨x,hx,_⟩:=e
   cases hx
  .exact IP d.out.size e
def NM.fresh(node a sync:Nat):NM:={self:=node,given:=0,every:=sync,writes:=0,readOnly:=false,J:=JM.none a,S:={keys:=[],hints:=[],Ba:=0}}
theorem Od(b:Nat)(node a sync:Int)(d:zP node a sync=false)(w:World) :
 Calls Tryz.prog 49 #[.pointer (some ⟨b,0,none⟩),.agg #[.int .i64 node,.int .i64 a,.int .i64 sync]] w fun e h=>e=.returned (.tuple #[.pointer none,.int .i64 1])/\Fr Nil w h:=by
 have c:=Z (Vg node a sync (w.alloc (.cells #[.int .i64 node,.int .i64 a,.int .i64 sync] 102)));rw[d] at c;clear d;go_enter Tryz.func49,Tryz.ntmps49
 go_wp2_with (refine c.out.mono ?_;rintro e i ⟨rfl,f⟩;have g:=Z f;clear f)
 go_ret2;exact⟨rfl,((O _ _).alloc _).trans g.out⟩
def S5:ByteArray:={data:=#[97]}
def Xr:ByteArray:={data:=#[97,32,116,114,105,97,108]}
structure Sane(S:SM)(t:Nat):Prop where
 held:Zm S
 Ba:S.Ba<=16*t
 keys:S.keys.length<=t
theorem Sh.xi{W:WM}{M:DM}{F:List Fact}{p t:Nat}(h:Sh W M F p t):p<=F.length/\Sane (atF F F.length) t:=by
 obtain⟨J,o,i⟩:=h.lg;have b:p<=F.length:=by rw[<- i];exact o.AL
 have B:=h.cm.calls;refine⟨b,?_⟩;have key:∀ T,Hist W.st F p T->(atF F F.length).keys.length<=t:=fun T k=>by
  obtain⟨j,_,c,_⟩:=k;obtain⟨m,hm,r⟩:=c F.length b (IQ _);rw[<- r.1];exact(h.cm.Af m (Fv hm)).keys
 rcases h.all with⟨f,c⟩|⟨_,st,m,n,d,z,x,A,l,s,q,g,_⟩
 .have:=f F.length b (IQ _)
  exact⟨this.1,by have:=this.2.2.1;omega,c.elim (key _) (fun x=>key _ x.2)⟩
 .have:=g F.length b (IQ _)
  refine⟨this.1,by have:=this.2.2.1;omega,?_⟩;obtain⟨K,key,v,e,C,D,E,G,u,y,I⟩:=s;have a:(atF F F.length).keys.length=m.keys.length:=by
   rw[u,y,Zo key _ e,Zo key _ e];simp only[Eu,Gj,Y0,IM,IU]
  rw[a];exact(h.cm.Af m (by rw[d];simp)).keys
theorem I9{N:NM}(i:Zm N.S)(k:N.self<4)(j:N.given<100000000000)(key a:ByteArray)(hs:a.size<=128) :
 (∀ c:NM,c.S.keys=N.S.keys->c.self=N.self->putV key a c (N.given+1)=putV key a N (N.given+1))/\(∀ u∈putV key a N (N.given+1),VOk u)/\(putV key a N (N.given+1)).length<=4:=by
 have d:∀ u∈zj N.S.keys key,u.Nat:=fun u b=>((i.get key).2.2 u b).nat;refine⟨fun c g h=>?_,fun u b=>?_,by unfold putV;simp⟩
 .unfold putV
  rw[g,h]
 .unfold putV at b
  rw[IZ] at b;subst b;have e:(0:Int)<=((N.self:Nat):Int):=by omega
  have f:((N.self:Nat):Int)<4:=by omega
  have l:(0:Int)<=((N.given+1:Nat):Int):=by omega
  have m:((N.given+1:Nat):Int)<9223372036854775808:=by omega
  exact⟨⟨e,f⟩,⟨⟨e,CV f (by decide)⟩,⟨l,m⟩,Ye _ _ d,Ye _ _ d,Ye _ _ d,Ye _ _ d,by show a.size<_;omega⟩,hs,by show(1:Int)<=((N.given+1:Nat):Int);omega,rfl⟩
theorem Jy(F G:List Fact):(atF (F++G) (F++G).length).keys.length<=(atF F F.length).keys.length+G.length:=by
 unfold atF;rw[HZ,HZ,Gq];exact UU G _
theorem Lc{M:DM}{d:List Seg}{p t H0:Nat}(hl:Lg M d p t)(hs:Sane (Zj d) t)(ht:t<=900000)(n:Nat)(hn:n<4)(a b:Nat)(i:∀ g∈M.ids,g<H0)(key c:ByteArray)(u:zp key=true)(hv:c.size<=128) :
 (∀ H,H0<=H->Xe (NM.opened n a b d) M H key (putV key c))/\∀ f g,H0<=f->H0<=g->Apart2 (NM.opened n a b d) M f g->∀ (j:Int)(F:ByteArray)(D:Nat),(∀ g'∈((NM.opened n a b d).put M key c f g).2.2.2.ids,g'<D)->F.size<=64->zA j=true->((NM.opened n a b d).put M key c f g).2.2.1.readOnly=false->Fit ((NM.opened n a b d).put M key c f g).2.2.1 ((NM.opened n a b d).put M key c f g).2.2.2 D (.inr (.inr (.inl (j.toNat,F)))):=by
 have y:=hs.Ba;have I:=hs.keys;have l:(NM.opened n a b d).given<100000000000:=by show(Zj d).Ba<_;omega
 obtain⟨L,E,h3⟩:=I9 (N:=NM.opened n a b d) hs.held hn l key c hv;have o:Kp (NM.opened n a b d) M (ze d) p t True:=hl.opened n a b True;have s:(NM.opened n a b d).given<(NM.opened n a b d).S.Ba->Leas (ze d) p (NM.opened n a b d).S.Ba:=fun h=>absurd h (Fw _);refine⟨fun H hH=>O7 o (by omega) l (IQ _) s H (fun g R=>Gd (i g R) hH) key _ _ L (Xo u E (by omega)) (YL u E (by omega)) (by show(Zj d).keys.length<=_;omega) (Hg _),?_⟩;intro f g hf R ha j F D;rcases hput:(NM.opened n a b d).put M key c f g with⟨r,e,Y,V⟩;intro q K C z;simp only at q z |-;obtain⟨G,T,S',gv,wr,X,A,B,p',er,w,hp,hA,hB,Q,a3,_,_,_,_⟩:=RC o (by omega) l (IQ _) s rfl key (putV key c) _ f g (fun h=>by have:=i f h;omega) (fun h=>by have:=i g h;omega) ha L (XG u E (by omega)) (S3 u E (by omega));have J:(NM.opened n a b d).put M key c f g=(NM.opened n a b d).replace M key (putV key c) f g:=by
  unfold NM.put;rw[IV (by rw[u];decide),IV (by omega),IV (by show ¬false=true;decide)]
 rw[J,er] at hput;obtain⟨rfl,rfl⟩:{NM.opened n a b d with J:=T,S:=S',given:=gv,writes:=wr,readOnly:=G.isSome}=Y/\X=V:=by
  simp only[FW] at hput;exact⟨hput.2.2.1,hput.2.2.2⟩
 have he:G=none:=by
  cases G with
  | none=>rfl
  | some x=>cases z
 have k:=w.kp;have m:S'=atF (ze d++A++B) (ze d++A++B).length:=k.held;have h0:Zj d=atF (ze d) (ze d).length:=o.held;have a2:S'.keys.length<=t+2:=by
  have:=Jy (ze d) (A++B);rw[<- Hu,<- m,<- h0] at this;rw[IM] at this;have a0:A.length<=1:=by rcases hA with e|⟨e,_⟩ <;> rw[e] <;> simp
  have a1:B.length<=1:=by rcases hB with⟨e,_⟩|⟨e,_⟩ <;> rw[e] <;> simp
  omega
 unfold zA at C;simp only[Ha] at C;have S:(NM.opened n a b d).writes=0:=rfl;exact UA (k.mono (fun _=>he) (IQ _)) (by omega) D q _ ⟨by show j.toNat<_;omega,by show F.size<_;omega⟩ (Wq (by omega) K) (by show S'.keys.length<=_;omega) (by show wr<=_;omega)
theorem Ia(C:zz)(K:Nat->Prop)(B:Nat)(L:WL)(W:WM)(LD:DL)(M:DM)(ss:List Seg)(p t:Nat)(w:World)(h:WAt K w L W)(hd:DRep w L.db LD M)(a4:YX B w)(hB:B<=w.heap.size)(hl:Lg M ss p t)(hs:Sane (Zj ss) t)(ht:t<=900000) :
 Calls Tryz.prog 53 #[.pointer (some ⟨L.wb,0,none⟩)] w fun e w'=>e=.returned (.tuple #[])/\Fr Nil w w':=by
 have a6:∀ N,Fr Nil w N->∀ k,N.cell? ⟨L.wb,k,none⟩=(W.cells L)[k]?:=fun N f=>(h.nil f).CY.cell;have b4:=Z a6;have c1:=a6 w (O _ _);simp only[WM.cells] at c1;have a2:=Z a4;have x:=Z (KB hd hl (by omega));have HR:=Z (And.intro hl hs);have q:=Z hB;clear h hd a6 a4 hB hl hs;go_enter Tryz.func53,Tryz.ntmps53;go_wp2_with fail;refine x.out.mono ?_;rintro e w1 ⟨A,L1,ps,rfl,X,c7⟩;have b0:Lg (((M.BU ps).BP 0).BD 0 0) ss p t:=((HR.out.1.BU c7).BP 0).BD 0 0 (by decide) (by decide);generalize M.BU ps=M1 at X b0;have I:∀ k,Foot A L1 M1 k->w.heap.size<=k:=X.new;have c0:w.heap.size<=A:=I A .CY;have HO:=Z X;have a1:=Z I;have b3:=Z c0;have s:=Z b0;clear X I c0 c1 x b0 c7;go_wp2_with fail;refine(Rg 0 w1 A L1 M1 HO.out.CZ).mono ?_;rintro e w2 ⟨rfl,c2,c3⟩;have d3:=Z (HO.out.fr.trans' (S':=fun k=>k=A) c3 (fun i hi e=>by have:=b3.out;omega));have b5:=Z c2;clear c2 c3;go_wp2_with fail;refine(Tn 0 0 w2 A L1 (M1.BP 0) b5.out).mono ?_;rintro e w3 ⟨rfl,a7,c4⟩;have r:=Z (d3.out.trans' (S':=fun k=>k=A) c4 (fun i hi e=>by have:=b3.out;omega));have l:∀ k,Foot A L1 ((M1.BP 0).BD 0 0) k->w.heap.size<=k:=a1.out;generalize (M1.BP 0).BD 0 0=S at a7 l s;have d0:=Z a7;have a5:=Z l;have T:=b4.out w3 r.out;simp only[WM.cells] at T;clear a7 c4 l HO b5 a1;cases hcfg:zP W.node 1000 0 with
 | false =>
  have R:=Z (fun N=>Od A W.node 1000 0 hcfg N);clear hcfg;go_wp2_with fail;refine(R.out _).mono ?_;rintro e w4 ⟨rfl,D⟩;have Q:=Z (r.out.trans D);clear D T;go_wp2_with fail;exact GC (v:=.tuple #[]) (by simp[results,go_sem]) rfl ⟨rfl,Q.out⟩
 | true =>
  obtain⟨n,hn,d8⟩:∃ n:Nat,W.node=n/\n<4:=by
   unfold zP zA at hcfg;simp only[Gr,Ha] at hcfg;exact⟨W.node.toNat,by omega,by omega⟩
  rw[hn] at T hcfg;have R:=Z (Un B A L1 S n 1000 0 ss hcfg w3 d0.out s.out.BC s.out.ok (s.out.short (by omega)) (s.out.yS (by omega)) (a2.out.fr q.out r.out (fun _ e=>absurd e id)) (IP q.out r.out.size) (fun k V=>IP q.out (a5.out k V)));have c9:Hid (∀ N,Fr Nil w N->N.cell? ⟨L.wb,0,none⟩=some (.int .i64 n)):=fun N f=>by rw[b4.out N f];simp only[WM.cells,hn];rfl
  have d9:=Z hn;clear hcfg hn;go_wp2_with fail;refine R.out.mono ?_;rintro e w4 ⟨X4,rfl,b2,d7,E,_,D⟩;have F4:=r.out.trans' (S':=Foot A L1 S) D (fun i hi e=>by have:=a5.out i e;omega);have b:∀ k,NFoot X4 S k->w.heap.size<=k:=fun k V=>(E k V).elim (a5.out k) (fun e=>IP r.out.size e);have a8:Ym B X4 S w4:=⟨(a2.out.fr q.out F4 (fun _ e=>absurd e id)).1,IP q.out F4.size,fun k V=>IP q.out (b k V)⟩;have F:∀ g∈S.ids,g<w4.heap.size:=fun g hg=>(b2.Bz.files g hg).lt;have J:=Lc (H0:=w4.heap.size) s.out HR.out.2 (by omega) n d8 1000 0 F S5 Xr (by decide) (by decide);have y:=Z (W9 C B X4 (NM.opened n 1000 0 ss) S S5 Xr w4 b2 a8 (fun u hu=>((HR.out.2.held.get S5).2.2 u hu).node) (fun _ _ _=>J.1 _ (IQ _)));have b9:=Z J.2;have Q:=Z F4;have d1:=Z a8;have Y:=Z b;clear T b2 d7 E D F4 b a8 F J;unfold S5 Xr at y;go_wp2_with fail;refine y.out.mono ?_;rintro e w5 ⟨f,g,X5,rfl,c5,c6,a3,c⟩;have a:=b9.out f g c5 c6 a3;unfold S5 Xr at a;generalize ((NM.opened n 1000 0 ss).put S {data:=#[97]} {data:=#[97,32,116,114,105,97,108]} f g).2.2.1=N5 at c a;generalize ((NM.opened n 1000 0 ss).put S {data:=#[97]} {data:=#[97,32,116,114,105,97,108]} f g).2.2.2=M5 at c a;have F5:=Q.out.trans' (S':=NFoot X4 S) c.fr (fun i hi e=>by have:=Y.out i e;omega);have m:∀ k,NFoot X5 M5 k->w.heap.size<=k:=fun k V=>(c.BA k V).elim (Y.out k) (fun e=>IP Q.out.size e);have a9:Ym B X5 M5 w5:=d1.out.step c;have G:=c.same.nb;have j:=Z (TE C B X5 N5 M5 (((n:Int)+1)%4) Xr w5 c.CZ a9 (fun h1 h2 h3=>a _ _ _ (fun g hg=>(c.CZ.Bz.files g hg).lt) h1 h2 h3));unfold Xr at j;rw[G] at j;have d6:=c9.out w5 F5;have e1:IntKind.i64.wrap ((n:Int)+1)=(n:Int)+1:=by rw[Hr];omega
  have b6:=Z F5;have d2:=Z a9;have a0:=Z m;have b8:=Z G;clear c a F5 m a9 b9 y R c5 c6 a3 G;go_wp2_with fail;refine j.out.mono ?_;rintro e w6 ⟨f6,X6,rfl,e0,d⟩;generalize (N5.hint M5 _ _ f6).2.1=N6 at d;generalize (N5.hint M5 _ _ f6).2.2=M6 at d;have F6:=b6.out.trans' (S':=NFoot X5 M5) d.fr (fun i hi e=>by have:=a0.out i e;omega);have o:∀ k,NFoot X6 M6 k->w.heap.size<=k:=fun k V=>(d.BA k V).elim (a0.out k) (fun e=>IP b6.out.size e);have z:=Z (YS C B X6 N6 M6 w6 d.CZ (d2.out.step d));rw[d.same.nb,b8.out] at z;have d4:=Z F6;have b7:=Z o;clear d F6 o d6;go_wp2_with fail;refine z.out.mono ?_;rintro e w7 ⟨X7,rfl,c8⟩;have d5:=Z (d4.out.trans' (S':=NFoot X6 M6) c8.fr (fun i hi e=>by have:=b7.out i e;omega));clear c8;go_wp2_with fail;exact GC (v:=.tuple #[]) (by simp[results,go_sem]) rfl ⟨rfl,d5.out⟩
theorem NI.sh{W:WM}{N:NM}{M:DM}{F:List Fact}{p t:Nat}(h:NI W N M F p t):Sh W M F p t:=by
 obtain⟨c,b,a,_⟩:=h.kp.lg;exact⟨⟨c,b,a⟩,h.cm,h.room,.inl ⟨h.Ab,.inl h.As⟩⟩
theorem Cm.Ac{W:WM}{t:Nat}(h:Cm W t)(b:Bool):Cm {W with Ac:=b} t :=
 ⟨h.Af,h.calls,h.ww,h.len,h.ne,h.next,h.base,h.yj,h.yg,h.yl,h.ye,h.yk,h.yf,h.Bu⟩
theorem Sh.BT{W:WM}{M:DM}{F:List Fact}{p t:Nat}(h:Sh W M F p t)(g:Int)(e:List Int):∃ B K,Sh {W with Ac:=true} (M.BT g e) B K t:=by
 obtain⟨L,I,E⟩:=h.lg;obtain⟨d,z,c,f⟩:=I.BT g e;rw[E] at c;refine⟨ze d,(ze d).length,⟨d,z,rfl⟩,h.cm.Ac true,h.room,?_⟩;rcases h.all with⟨C,k⟩|⟨_,st,m,n,o,r,x,s,y,J,l,A,i⟩
 .exact .inl ⟨C.cut c f,.inr ⟨.inl rfl,k.elim (fun k=>k.cut c f) (fun k=>k.2.cut c f)⟩⟩
 .by_cases hlen:(ze d).length=F.length
  .have he:ze d=F:=c.eq_of_length hlen
   rw[he] at f |-;refine .inr ⟨.inl rfl,st,m,n,o,r,x,s,fun h=>?_,J,l,fun q a b=>A q (IP f a) b,fun q a b=>i q (IP f a) b⟩;rw[s,IM,IU] at h;omega
  .have hl3:(ze d).length<=r.length:=by
    have u:=c.length_le;rw[s,IM,IU] at u hlen;omega
   have j:ze d<+:r:=by
    have u:r<+:F:=by rw[s];exact FX _ _
    exact Em c u hl3
   have G:=(y (IP f hl3)).cut j f;refine .inl ⟨fun q a b=>?_,.inr ⟨.inl rfl,?_⟩⟩
   .have h5:=A q (IP f a) (IP b c.length_le)
    have D:=i q (IP f a) (IP b hl3);rw[VI c b];exact⟨h5.1,IP (Dk l) h5.2.1,h5.2.2.1,D⟩
   .show Hist W.st _ _ _
    rw[o];exact G.maybe m
theorem Sh.BU{W:WM}{M:DM}{F:List Fact}{p t:Nat}(h:Sh W M F p t){a:List (Nat × Nat)}(d:Pairs M a):Sh W (M.BU a) F p t:=by
 obtain⟨e,c,b⟩:=h.lg;exact⟨⟨e,c.BU d,b⟩,h.cm,h.room,h.all⟩
theorem Zu.called{node:Int}{c d:Nat}{F:List Fact}{p:Nat}(h:Zu node c d F p):Zu node (c+1) d F p:=fun q a b=>(h q a b).mono (Fs _) (IQ _) (h q a b).2.1
theorem Sh.called{W:WM}{M:DM}{F:List Fact}{p t:Nat}(h:Sh W M F p t):Sh {W with calls:=W.calls+1} M F p (t+10):=by
 obtain⟨s,q,o⟩:=h.lg;have a:=h.cm.more (u:=t+10) (by omega);have f:=h.cm.calls;refine⟨⟨s,q.more (by omega),o⟩,⟨a.Af,(by show W.calls+1<=_;omega),a.ww,a.len,a.ne,a.next,a.base,a.yj,a.yg,a.yl,a.ye,a.yk,a.yf,a.Bu⟩,h.room,?_⟩;rcases h.all with⟨f,i⟩|⟨l,st,m,n,e,g,x,j,c,r,d,k,b⟩
 .exact .inl ⟨f.called,i⟩
 .exact .inr ⟨l,st,m,n,e,g,x,j,c,r,d,k.called,b⟩
theorem Sh.found{W:WM}{M:DM}{p t:Nat}{f:List Seg}(h:Sh W M (ze f) p t)(hl:Lg M f p t)(l:M.dead=false)(j b a:Nat)(a5:W.node=(j:Int))(a4:j<4)(W':WM)(hW:W'={W with calls:=W.calls+1,broken:=false,every:=a,writes:=0}) :
 ∃ i m C y,W'.st[i]?=some m/\Zb W' (NM.opened j b a f) m=(C,some y)/\(∀ k m,i<k->W'.st[k]?=some m->Zb W' (NM.opened j b a f) m=(W'.most,none))/\(W'.Ac=true\/i+1=W'.st.length) /\
  NI {W' with most:=C,st:=W'.st.take i++[y],Ac:=false} (NM.opened j b a f) M (ze f) p (t+10):=by
 subst hW;have g:=hl.AL;have E:Kp (NM.opened j b a f) M (ze f) p (t+10) ((NM.opened j b a f).readOnly=false):=(hl.opened j b a _).mono id (by omega);have c:(NM.opened j b a f).S=atF (ze f) (ze f).length:=E.held;have N:(NM.opened j b a f).readOnly=false:=rfl;have mk:∀ (i C:Nat) (y:LM),i<W.st.length->MOk W.node y (t+10)->Hist (W.st.take i++[y]) (ze f) p True->Zu W.node (W.calls+1) C (ze f) p ->
  NI {W with calls:=W.calls+1,broken:=false,every:=a,writes:=0,most:=C,st:=W.st.take i++[y],Ac:=false} (NM.opened j b a f) M (ze f) p (t+10):=fun i C y hi hm X Q=>by
  have s:=h.cm.more (u:=t+10) (by omega);have h1:=h.cm.calls;have B:=h.cm.len;have o:=Q _ g (IQ _);rw[<- c] at o;exact {
   kp:=E
   cm:=⟨fun m q=>by
    rcases Hh.1 q with e|e
    .exact s.Af m (GV e)
    .rw[IZ] at e;subst e;exact hm,(by show W.calls+1<=_;omega),Hg _,(by show(W.st.take i++[y]).length<=_;rw[IM,IR,IU];omega),(by show 0<(W.st.take i++[y]).length;simp),s.next,s.base,s.yj,s.yg,s.yl,s.ye,s.yk,s.yf,s.Bu⟩
   room:=h.room
   As:=X
   Ab:=Q
   ro:=rfl
   self:=a5
   nd:=a4
   most:=o.2.1
   given:=IQ _
   yF:=fun _ A=>absurd A (Fw _)
   every:=rfl
   wr:=fun _ _=>by show 0=0%_;rw[Nat.zero_mod]
   nw:=Hg _
   dead:=l}
 rcases h.all with⟨h1,B⟩|⟨V,st,m,n,o,F0,x,S,a0,R,A,Q,a6⟩
 .have h1':=h1.called
  have d:=h1' _ g (IQ _);rw[<- c] at d;obtain⟨T,X,hT⟩:∃ T:Prop,Hist W.st (ze f) p T/\(T\/W.Ac=true):=by
   rcases B with B|⟨V,B⟩
   .exact⟨True,B,.inl trivial⟩
   .exact⟨False,B,.inr (V.resolve_right (by rw[l];decide))⟩
  obtain⟨i,m,hm,hr,J,Y,z⟩:=X.found g;rw[<- c] at hr J;have a2:=(Hp.1 hm).1;exact⟨i,m,W.most,m,hm,WV (W:={W with calls:=W.calls+1,broken:=false,every:=a,writes:=0}) d.1 N hr,fun k m2 hk q=>O6 (W:={W with calls:=W.calls+1,broken:=false,every:=a,writes:=0}) d.1 d.2.2.2 (h.cm.Af m2 (Fv q)).zero (fun e=>J k m2 hk q e.2),hT.elim (fun x=>.inr (z x)) .inl,
   mk i W.most m a2 ((h.cm.Af m (Fv hm)).more (by omega)) Y h1'⟩
 .have hfell:W.Ac=true:=V.resolve_right (by rw[l];decide)
  have D:=Q.called;have d:=D _ g (IQ _);rw[<- c] at d R;have hm:W.st[st.length]?=some m:=by rw[o];simp
  have I:(NM.opened j b a f).S.keys.length=m.keys.length:=by
   obtain⟨K,key,v,k1,k2,k3,k4,k5,k6,k7,k8⟩:=R;rw[k6,k7,Zo key _ k1,Zo key _ k1];simp only[Eu,Gj,Y0,IM,IU]
  have a1:m.hints=(NM.opened j b a f).S.hints:=by obtain⟨K,key,v,k1,k2,k3,k4,k5,k6,k7,k8⟩:=R;exact k8
  have r:=h.cm.Af m (Fv hm);have a3:MOk W.node {m with keys:=(NM.opened j b a f).S.keys} (t+10):=⟨d.1.Al,by show(NM.opened j b a f).S.keys.length<=_;rw[I];have:=r.keys;omega,fun e he=>by have:=(d.1.key e he).2.1;omega,r.hints,d.1.given.zero,r.node⟩;have L:=Hist.push (F:=F0) (G:=[x]) (by simp) (fun hp=>a0 hp) (by rw[<- S];exact g) {m with keys:=(NM.opened j b a f).S.keys} (by rw[<- S,<- c];exact⟨rfl,a1⟩);rw[<- S] at L;refine⟨st.length,m,n,_,hm,US (W:={W with calls:=W.calls+1,broken:=false,every:=a,writes:=0}) R A (by have:=d.2.1;have:=d.2.2.1;show n<=16*(W.calls+1);omega) N,fun k m2 hk q=>?_,.inl hfell,mk st.length n _ (by rw[o];simp) a3 ?_ D⟩
  .have:=(Hp.1 q).1
   have e:({W with calls:=W.calls+1,broken:=false,every:=a,writes:=0}:WM).st.length=st.length+1:=by show W.st.length=_;rw[o];simp
   omega
  .rw[o,DS]
   exact L
theorem NI.bd{W:WM}{N:NM}{M:DM}{F:List Fact}{p t:Nat}(h:NI W N M F p t):Bd M t:=by
 obtain⟨b,a,_⟩:=h.kp.lg;exact a.bd
theorem NI.more{W:WM}{N:NM}{M:DM}{F:List Fact}{p t u:Nat}(h:NI W N M F p t)(a:t<=u):NI W N M F p u :=
 {h with kp:=h.kp.mono id a,cm:=h.cm.more a,nw:=IP h.nw a}
theorem Sh.more{W:WM}{M:DM}{F:List Fact}{p t u:Nat}(h:Sh W M F p t)(a:t<=u):Sh W M F p u:=by
 obtain⟨e,c,b⟩:=h.lg;exact⟨⟨e,c.more a,b⟩,h.cm.more a,h.room,h.all⟩
theorem NI.Bo{W:WM}{N:NM}{M:DM}{F:List Fact}{p t:Nat}{a:BK}(h:NI W N M F p t)(b:Booked W.bk a):NI (W.Bo a) N M F p (t+1):=by
 have d:=h.cm.yj;have e:=h.cm.yg;have f:=h.cm.yl;have g:=h.cm.ye;have j:=h.cm.yk;have k:=h.cm.yf;have l:=b.vs;have o:=b.vm;have q:=b.ns;have r:=b.nm;have s:=b.hs;have x:=b.hm;have c:=h.cm.more (u:=t+1) (by omega);have y:=h.cm.next;exact {h with
  kp:=h.kp.mono id (by omega)
  cm:=⟨c.Af,c.calls,c.ww,c.len,c.ne,(by show W.next+1<=_;omega),c.base,(by show a.vs.length<=_;omega),(by show a.vm.length<=_;omega),(by show a.ns.length<=_;omega),(by show a.nm.length<=_;omega),(by show a.hs.length<=_;omega),(by show a.hm.length<=_;omega),c.Bu⟩
  nw:=by have:=h.nw;omega}
theorem NI.small{W:WM}{N:NM}{M:DM}{F:List Fact}{p t:Nat}(h:NI W N M F p t)(g:t<=10000000):BSmall W.bk:=by
 have a:=h.cm.yj;have b:=h.cm.yg;have c:=h.cm.yl;have d:=h.cm.ye;have e:=h.cm.yk;have f:=h.cm.yf;exact⟨by omega,by omega,by omega,by omega,by omega,by omega⟩
theorem NI.called{W:WM}{N:NM}{M:DM}{F:List Fact}{p t:Nat}(h:NI W N M F p t):NI {W with calls:=W.calls+1} N M F p (t+1):=by
 have c:=h.cm.more (u:=t+1) (by omega);have a:=h.cm.calls;exact {h with
  kp:=h.kp.mono id (by omega)
  cm:=⟨c.Af,(by show W.calls+1<=_;omega),c.ww,c.len,c.ne,c.next,c.base,c.yj,c.yg,c.yl,c.ye,c.yk,c.yf,c.Bu⟩
  Ab:=h.Ab.called
  nw:=by have:=h.nw;omega}
theorem NI.sync{W:WM}{N:NM}{M:DM}{F:List Fact}{p t:Nat}(h:NI W N M F p t)(T:t<=100000000)(g:N.readOnly=false) :
 ((N.Bh M).1=0/\(N.Bh M).2.2.refused=M.refused/\∃ l i,NI {W with st:=W.st.drop (W.st.length-1)} (N.Bh M).2.1 (N.Bh M).2.2 l i (t+2)) \/
   ((N.Bh M).1=9/\(N.Bh M).2.2.refused=M.refused+1/\(N.Bh M).2.2.Bb=M.Bb/\∃ l i,Sh {W with broken:=true} (N.Bh M).2.2 l i (t+2)/\((N.Bh M).2.2.dead=false->NI {W with broken:=true} (N.Bh M).2.1 (N.Bh M).2.2 l i (t+2))):=by
 obtain⟨e,C,D,i,L,w,o,y,j⟩:=O1 (h.kp.mono (fun _=>g) (IQ _)) (by omega);have A:N.Bh M=(Zy e,({N with J:=C}:NM).BX e,D):=by
  unfold NM.Bh;rw[IV (by rw[g];decide),L]
 rw[A];simp only;have d:D.room=W.Ap:=w.room.trans h.room;have c:Zu W.node W.calls W.most F i:=fun q a b=>h.Ab q (IP o a) b;have S:=h.nw;rcases w.BX with⟨rfl,s,E,Q⟩|⟨s,⟨rfl,E⟩|⟨rfl,_⟩⟩
 .obtain⟨ml,hml,hrel,hpos⟩:=h.As.last h.kp.le
  have z:=j rfl;have B:W.st.drop (W.st.length-1)=[ml]:=by
   have K:=Gm (show W.st.length-1<W.st.length by omega);rw[IW (by omega)] at hml;rw[K,Hl hml,Gy (by omega)]
  have f:=w.kp;refine .inl ⟨rfl,s,F,i,?_⟩;rw[B];have k:=h.cm.Af ml (Fv hml);have G:=h.cm.len;exact {h with
   kp:=⟨f.lg.imp fun I x=>⟨x.1,x.2.1,fun _=>x.2.2 rfl⟩,f.held⟩
   cm:=(h.cm.more (u:=t+2) (by omega)).BZ (W':={W with st:=[ml]}) rfl (fun m hm=>by rw[IZ] at hm;subst hm;exact k.more (by omega)) (by show 1<=_;omega) (by show 0<1;omega) ((h.cm.more (u:=t+2) (by omega)).ww) rfl rfl rfl rfl
   room:=d
   As:=by rw[z];exact Hist.one ml hrel
   Ab:=c
   ro:=by show(N.readOnly||false)=_;rw[Bool.or_false];exact h.ro
   yF:=fun _ v q a b=>h.yF g v q (IP o a) b
   wr:=fun _=>h.wr g
   nw:=by show N.writes<=_;omega
   dead:=Q.trans h.dead}
 .refine .inr ⟨rfl,s,E,F,i,⟨w.kp.lg.imp fun I x=>⟨x.1,x.2.1⟩,(h.cm.more (u:=t+2) (by omega)).BZ (W':={W with broken:=true}) rfl (h.cm.more (u:=t+2) (by omega)).Af (h.cm.more (u:=t+2) (by omega)).len h.cm.ne (h.cm.more (u:=t+2) (by omega)).ww rfl rfl rfl rfl,d,.inl ⟨c,.inl (h.As.mono o id)⟩⟩,fun R=>?_⟩
  have f:=w.kp;have r:(({N with J:=C}:NM).BX (some 9)).readOnly=true:=by show(N.readOnly||true)=true;rw[Bool.or_true]
  exact {h with
   kp:=⟨f.lg.imp fun I x=>⟨x.1,x.2.1,fun e=>by rw[r] at e;cases e⟩,f.held⟩
   cm:=(h.cm.more (u:=t+2) (by omega)).BZ (W':={W with broken:=true}) rfl (h.cm.more (u:=t+2) (by omega)).Af (h.cm.more (u:=t+2) (by omega)).len h.cm.ne (h.cm.more (u:=t+2) (by omega)).ww rfl rfl rfl rfl
   room:=d
   As:=h.As.mono o id
   Ab:=c
   ro:=r
   yF:=fun e=>by rw[r] at e;cases e
   wr:=fun e=>by rw[r] at e;cases e
   nw:=by show N.writes<=_;omega
   dead:=R}
 .exact absurd rfl y
theorem NI.Bz{W:WM}{N:NM}{M M':DM}{F:List Fact}{p t:Nat}(h:NI W N M F p t)(i:∀ a,Lg M a p t->Lg M' a p t)(b:M'.safe=M.safe)(c:M'.dir=M.dir)(d:M'.Bj=M.Bj)(f:M'.room=M.room)(g:M'.dead=M.dead):NI W N M' F p t :=
 {h with
  kp:=⟨h.kp.lg.imp fun a x=>⟨i a x.1,x.2.1,fun e=>by have:=x.2.2 e;unfold Jl at this |-;rw[b,c,d];exact this⟩,h.kp.held⟩
  room:=f.trans h.room
  dead:=g.trans h.dead}
theorem WStep.app{K:Nat->Prop}{w w4:World}{L:WL}{W:WM}{v4:Value}{q:Nat}{m:LM}(h:WAt K w L W)(g:MRep K w q m)(d:w4.ownsRow 0 104 1 v4 (L.ps.length+1) (ZV L.ps++[.pointer (some ⟨q,0,none⟩)]))(a:Fr (fun k=>L.sv.ownBlock=some k) w w4)(c:∀ k,v4.ownBlock=some k->L.sv.ownBlock=some k\/w.heap.size<=k) :
 WStep K L w {L with sv:=v4,ps:=L.ps++[q]} {W with st:=W.st++[m]} (w4.setCell ⟨L.wb,6,none⟩ v4) :=
 WStep.BZ h (qs:=L.ps++[q]) (st':=W.st++[m]) (by rw[IM,IU];simpa [ZV] using d) a c (by simp[h.Ao]) (fun i f j=>by
  by_cases e:i<L.ps.length
  .have h3:i<W.st.length:=by have:=h.Ao;omega
   rw[Hw e,Hw h3];exact h.AB i e h3
  .have hi2:i=L.ps.length:=by simp at f;omega
   have b:i=W.st.length:=by have:=h.Ao;omega
   subst hi2;rw[Gu (IQ _)];simp only[b,Gu (IQ _)];simp only[Dj,GJ];exact g)
theorem RK(K:Nat->Prop)(L:WL)(W:WM)(l:DL)(M:DM)(x r u:Int)(w:World)(h:WAt K w L W)(o:DRep w L.db l M)(p:(x=9/\M.refused=r+1/\M.Bb=u)\/(x=10/\M.refused=r+1/\M.Bb=u+1)) :
 Calls Tryz.prog 58 #[.pointer (some ⟨L.wb,0,none⟩),.int .i64 x,.agg #[.int .i64 r,.int .i64 u]] w fun e E=>e=.returned (.bool true)/\Fr Nil w E:=by
 have d:Fr Nil w (w.alloc (Obj.cells #[.int .i64 r,.int .i64 u] 111)):=(O _ _).alloc _;have s:=Blk.new w [.int .i64 r,.int .i64 u] 111;have t:=Z (fun i (f:Fr Nil w i)=>ZZ i L.db l M (o.nil f));have v:=Z (fun i (f:Fr Nil w i)=>UD i L.db l M (o.nil f));have b:∀ n,((w.alloc (Obj.cells #[.int .i64 r,.int .i64 u] 111)).drewN n).cell? ⟨L.wb,4,none⟩=some (.pointer (some ⟨L.db,0,none⟩)):=fun n=>(h.nil (d.drewN n)).CY.cell 4;have c:∀ n k,((w.alloc (Obj.cells #[.int .i64 r,.int .i64 u] 111)).drewN n).cell? ⟨w.heap.size,k,none⟩=[Value.int .i64 r,.int .i64 u][k]?:=fun n=>(s.drewN n).cell;have C:IntKind.i64.wrap (M.refused-r)=1:=by rw[Hr];omega
 have a:=Z d;have D:IntKind.i64.wrap (M.Bb-u)=if x=9 then 0 else 1:=by
  rw[Hr];rcases p with⟨e,_,z⟩|⟨e,_,z⟩
  .rw[He e];omega
  .rw[IV (by omega)];omega
 have y:Hid (x=9\/x=10):=p.imp (fun h=>h.1) (fun h=>h.1);clear h o d s p;go_enter Tryz.func58,Tryz.ntmps58;go_wp2_with fail;generalize w.alloc (Obj.cells #[.int .i64 r,.int .i64 u] 111)=j at b c a |-
 go_quiet ((go_at_call 47;exact Ff (t.out _ (a.out.trans (by exact za)))))
 go_wp2_with fail;have g:Hid (Fr Nil w (j.drewN nq)):=a.out.drewN nq;have A:∀ n,((j.drewN nq).drewN n).cell? ⟨L.wb,4,none⟩=some (.pointer (some ⟨L.db,0,none⟩)):=fun n=>b n;have B:∀ n k,((j.drewN nq).drewN n).cell? ⟨w.heap.size,k,none⟩=[Value.int .i64 r,.int .i64 u][k]?:=fun n=>c n;clear b c;generalize j.drewN nq=F at *
 go_quiet ((go_at_call 100;exact Ff (v.out _ (g.out.trans (by exact za)))))
 go_wp2_with fail
 all_goals (first|(exfalso;have:=y.out;omega)|(go_ret;exact⟨rfl,g.out.drewN _⟩))
structure Off(K:Nat->Prop)(L:WL)(X:NL)(M:DM)(w:World)(L':WL)(W':WM)(w':World):Prop where
 CZ:WAt K w' L' W'
 Bz:DRep w' L'.db X.LD M
 fr:Fr (PFoot L X M) w w'
 BA:∀ k,WFoot L' k->PFoot L X M k\/w.heap.size<=k
 wb:L'.wb=L.wb
 db:L'.db=X.db
 nv:L'.nv=.pointer none
 tv:L'.tv=L.tv
 sep:∀ k,K k->¬Foot L'.db X.LD M k
 ps:L'.ps≠[]
theorem Off.of{K:Nat->Prop}{B:Nat}{L L':WL}{W':WM}{X:NL}{N:NM}{M:DM}{w b:World}(h:PStep K B L X M w K L' W' X N M b)(c:L'.ps≠[]):Off K L X M w {L' with nv:=.pointer none} W' (b.setCell ⟨L.wb,5,none⟩ (.pointer none)):=by
 have f:Fr (fun k=>k=L'.wb) b (b.setCell ⟨L.wb,5,none⟩ (.pointer none)):=by rw[<- h.wb];exact Fr.set (S:=fun k=>k=L'.wb) (p:=⟨L'.wb,5,none⟩) (O _ _) (fun _=>rfl) _
 have g:=h.CZ.Bi.CY.set 5 (.pointer none);have d:DRep b L'.db X.LD M:=by rw[h.CZ.db];exact h.CZ.node.Bz
 refine⟨h.CZ.Bi.own (by rw[<- h.wb];exact g) f rfl rfl rfl rfl rfl rfl rfl rfl rfl rfl rfl,d.fr f (fun k a e=>h.CZ.Bi.Bz d (.inl e) a),h.fr.trans' f (fun k a e=>?_),fun k a=>h.BA k (.inl a),h.wb,h.CZ.db,rfl,h.tv,fun k a e=>h.CZ.sep k a (.inr (.inr (.inr (by rw[<- h.CZ.db];exact e)))),c⟩;exact .inl (.inl (e.trans h.wb))
theorem Ib(K:Nat->Prop)(B:Nat)(L:WL)(W:WM)(X:NL)(N:NM)(M:DM)(q:Nat)(m n:LM)(x r u fr:Int)(w:World)(h:Play K B w L W X N M)(hp:0<L.ps.length)(hl:L.ps.length<1000000)(hq:MRep K w q m)(hn:W.st[L.ps.length-1]?=some n)
 (hx:(x=9/\M.refused=r+1/\M.Bb=u)\/(x=10/\M.refused=r+1/\M.Bb=u+1))(b4:¬(x=10/\2000<=fr))
 (a0:∀ l∈[m,n],Y1 l.keys/\l.keys.length<100000000/\(∀ e∈l.keys,e.2.length<100000)/\l.hints.length<1000000)
 (b7:N.S.keys.length<100000000)(b6:N.S.hints.length<1000000)(D:Zm N.S)(b1:W.calls<100000000)
 (Q:World->Prop)
 (hD:M.dead=true->∀ L' E,Off K L X M w L' {W with broken:=true,st:=W.st++[m]} E->Q E)
 (hT:M.dead=false->∀ m',(Zb {W with broken:=true} N m).2=some m'->∀ K' L' E,L'.ps≠[]->PStep K B L X M w K' L' {W with broken:=true,most:=(Zb {W with broken:=true} N m).1,st:=W.st++[m']} X N M E->Q E)
 (hS:M.dead=false->(Zb {W with broken:=true} N m).2=none->(Zb {W with broken:=true} N m).1=W.most/\∃ n',Zb {W with broken:=true} N n=(W.most,some n')/\∀ K' E,PStep K B L X M w K' L {W with broken:=true} X N M E->Q E) :
 Calls Tryz.prog 110 #[.pointer (some ⟨L.wb,0,none⟩),.pointer (some ⟨q,0,none⟩),.int .i64 x,.agg #[.int .i64 r,.int .i64 u],.int .i64 fr] w fun e E=>e=.returned (.bool true)/\Q E:=by
 have C:Fr Nil w (w.alloc (Obj.cells #[.int .i64 r,.int .i64 u] 111)):=(O _ _).alloc _;have hb:=Blk.new w [.int .i64 r,.int .i64 u] 111;have HR:=Z (fun y (f:Fr Nil w y)=>ZZ y L.db X.LD M (h.marks.nil f));have i:∀ n,((w.alloc (Obj.cells #[.int .i64 r,.int .i64 u] 111)).drewN n).cell? ⟨L.wb,4,none⟩=some (.pointer (some ⟨L.db,0,none⟩)):=fun n=>(h.nil (C.drewN n)).CZ.Bi.CY.cell 4;have d8:∀ n k,((w.alloc (Obj.cells #[.int .i64 r,.int .i64 u] 111)).drewN n).cell? ⟨w.heap.size,k,none⟩=[Value.int .i64 r,.int .i64 u][k]?:=fun n=>(hb.drewN n).cell;have e1:(M.refused==r)=false:=by simp;omega
 have c7:∀ n k,((w.alloc (Obj.cells #[.int .i64 r,.int .i64 u] 111)).drewN n).cell? ⟨L.wb,k,none⟩=(W.cells L)[k]?:=fun n=>(h.nil (C.drewN n)).CZ.Bi.CY.cell;have e4:∀ n,_:=fun n=>(h.nil (C.drewN n)).CZ.Bi.CY.frozen;simp only[WM.cells] at c7;have HB:=Z hb;have F:=Z C;have HH:=Z h;have d0:=Z hq;have HX:=Z hx;have c9:=Z b4;have S:=Z a0;have a6:=Z D;have d3:=Z hD;have d5:=Z hT;have d4:=Z hS;clear h C hb hq hx b4 a0 D hD hT hS;go_enter Tryz.func110,Tryz.ntmps110;go_wp2_with fail
 go_quiet ((go_at_call 47;exact Ff (HR.out _ (F.out.trans (by exact za)))))
 go_wp2_with fail;have a8:=(HH.out.nil (F.out.drewN nq)).trans ((HH.out.nil (F.out.drewN nq)).CZ.turn (WStep.set (HH.out.nil (F.out.drewN nq)).CZ.Bi 8 (.bool true) (L':=L) (W':={W with broken:=true}) (by simp[WM.cells]) rfl rfl rfl rfl rfl rfl rfl rfl rfl rfl rfl rfl rfl));have G:=Z a8;clear i d8 c7 e4 a8 HB;generalize ((w.alloc (Obj.cells #[.int .i64 r,.int .i64 u] 111)).drewN nq).setCell ⟨L.wb,8,none⟩ (.bool true)=w3 at *;refine(RK K L _ X.LD M x r u w3 G.out.CZ.Bi G.out.CZ.marks HX.out).mono ?_;rintro e w4 ⟨rfl,f4⟩;have A:=G.out.trans (G.out.CZ.nil f4);have c:=Z A;have i:=A.CZ.Bi.CY.cell;have o:∀ n k,(w4.drewN n).cell? ⟨L.wb,k,none⟩=_:=fun n=>(A.CZ.nil ((O _ w4).drewN n)).CZ.Bi.CY.cell;simp only[WM.cells] at i o;have c8:=Z (fun y (f:Fr Nil w4 y)=>Vq y L.db X.LD M ((A.CZ.nil f).CZ.marks));have hg:(x==10)=true->¬(2000:Int)<=fr:=fun e h=>c9.out ⟨by simpa using e,h⟩;clear A f4 e1;have J:L.ps.length<1000000000:=by omega
 have T:Hid (MRep K w4 q m):=d0.out.Bt (zQ.BO c.out.fr (fun k e=>⟨(HH.out.Bi.Bt k e).1,fun hf=>hf.elim (HH.out.Bi.Bt k e).2 (HH.out.sep k e)⟩)) (fun _ e=>e);obtain⟨sa,sc,R⟩:=zc c.out.CZ.Bi.Ab;have p:=c.out.CZ.Bi.Ab;rw[R] at p;have Y:=Z p;have a4:Hid (∀ v:World,Fr (fun k=>(Value.slice sa L.ps.length sc).ownBlock=some k) w4 v->Blk v L.wb (WM.cells L {W with broken:=true}) 49):=fun v f=>c.out.CZ.Bi.CY.fr f (zd p c.out.CZ.Bi.CY (by decide));have s:=Z R;rw[R] at i o;clear p R;cases hx10:(x==10)
 case' true =>
  have b5:=hg hx10;have e6:decide ((2000:Int)<=fr)=false:=by simpa using b5
 all_goals
  go_wp2_with fail;refine(c8.out w4 (O _ _)).mono ?_;rintro e y ⟨rfl,e8⟩;subst y;clear hg hx10;cases hdd:M.dead with
  | true =>
   generalize g:L.ps.length=e5 at J Y a4 i;have b:=Z g;clear g
   go_wp2_with (at_builtin;go_must (refine zk rfl _ _ _ _ rfl _ _ (by rfl) (by rfl) (Uv w4 _ _ _ Y.out q J _ za _ (by exact Blk.new _ [_] _) _) ?_;rintro v5 v ⟨c1,b2,d9⟩;have a9:=a4.out _ b2;obtain⟨f1,f3,e2⟩:=zc c1;have I:=a9.cell;simp only[WM.cells] at I;have e9:=a9.frozen))
   have a1:=WStep.app (q:=q) (m:=m) c.out.CZ.Bi T.out (v4:=v5) (w4:=v) (by rw[b.out];exact c1) (by rw[s.out,b.out];exact b2) (fun k e=>by rw[s.out,b.out];exact d9 k e);have a3:=c.out.trans (c.out.CZ.turn a1);subst e2;go_ret;exact⟨rfl,d3.out hdd _ _ (Off.of a3 (by simp))⟩
  | false =>
   go_wp2_with fail;refine(O4 K B L _ X N M q m w4 c.out.CZ T.out (S.out m (by simp)).1 (S.out m (by simp)).2.1 (S.out m (by simp)).2.2.1 (S.out m (by simp)).2.2.2 b7 b6 a6.out b1).mono ?_;intro e v h5;cases ho:(Zb {W with broken:=true} N m).2 with
   | some m' =>
    rw[ho] at h5;obtain⟨K5,q5,t,rfl,c5⟩:=h5;have a7:=Z (d5.out hdd m' ho K5);have a:=Z (c.out.trans t);have d:=a.out.CZ.Bi.Ab;rw[s.out] at d;have z:=Z d;have a5:Hid (∀ w6:World,Fr (fun k=>(Value.slice sa L.ps.length sc).ownBlock=some k) v w6->Blk w6 L.wb (WM.cells L {W with broken:=true,most:=(Zb {W with broken:=true} N m).1}) 49):=fun w6 f=>a.out.CZ.Bi.CY.fr f (zd d a.out.CZ.Bi.CY (by decide));have d6:=Z c5;have I:=a.out.CZ.Bi.CY.cell;simp only[WM.cells,s.out] at I;clear t c5 d i o ho hdd;generalize (Zb {W with broken:=true} N m).1=mo at *;generalize g:L.ps.length=e5 at J z a5 I;have b:=Z g;clear g
    go_wp2_with (at_builtin;go_must (refine zk rfl _ _ _ _ rfl _ _ (by rfl) (by rfl) (Uv v _ _ _ z.out q5 J _ za _ (by exact Blk.new _ [_] _) _) ?_;rintro v6 w6 ⟨c2,b3,e0⟩;have b0:=a5.out _ b3;obtain⟨f2,f5,e3⟩:=zc c2;have d7:=b0.cell;simp only[WM.cells] at d7;have f0:=b0.frozen))
    have a1:=WStep.app (q:=q5) (m:=m') a.out.CZ.Bi d6.out (v4:=v6) (w4:=w6) (by rw[b.out];exact c2) (by rw[s.out,b.out];exact b3) (fun k e=>by rw[s.out,b.out];exact e0 k e);have a3:=a.out.trans (a.out.CZ.turn a1);subst e3;go_ret;exact⟨rfl,a7.out _ _ (by simp) a3⟩
   | none =>
    rw[ho] at h5;obtain⟨K5,t,rfl⟩:=h5;obtain⟨b9,n',c0,c4⟩:=d4.out hdd ho;rw[b9] at t;have a:Hid (PStep K B L X M w K5 L {W with broken:=true} X N M v):=c.out.trans t;have V:=Z (fun y (f:Fr Nil v y)=>Zx K5 L _ y (a.out.CZ.Bi.nil f) hp (by omega));have d2:=Z c4;have c3:=HH.out.Bi.Ao;have b8:W.st[L.ps.length-1]'(by omega)=n:=by rw[IW (by omega)] at hn;exact Hl hn
    have j:=(a.out.CZ.Bi.last hp).2;simp only[b8] at j;have a2:=Z (fun y (f:Fr Nil v y)=>O4 K5 B L _ X N M _ n y (a.out.CZ.nil f).CZ (j.Bt (zQ.BO f (fun k e=>⟨(a.out.CZ.Bi.Bt k e).1,id⟩)) (fun _ e=>e)) (S.out n (by simp)).1 (S.out n (by simp)).2.1 (S.out n (by simp)).2.2.1 (S.out n (by simp)).2.2.2 b7 b6 a6.out b1);rw[c0] at a2;generalize L.ps[L.ps.length-1]=ql at V a2;clear t j b8 i o ho hdd c0 c4 b9 c3;go_wp2_with fail;refine(V.out _ (O _ _)).mono ?_;rintro e w9 ⟨rfl,n9,e7⟩;subst w9;go_wp2_with fail;refine(a2.out _ ((O _ v).drewN n9)).mono ?_;intro e w6 h6;obtain⟨K6,q6,c6,rfl,_⟩:=h6;have d1:=Z (a.out.trans ((a.out.CZ.nil ((O _ v).drewN n9)).trans c6));clear c6;go_wp2_with fail;go_ret;exact⟨rfl,d2.out _ _ d1.out⟩
end Go.Proofs.YtkhnggkkiefcdaaGreatDoor
