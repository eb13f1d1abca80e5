/- larder: joined texts -/
import Derived.Test.YtkhnggkkiefcdaaGreatDoorALAS
import Derived.Deep.DeepCutAuto
namespace Go.Proofs.YtkhnggkkiefcdaaGreatDoor
open Go.RowKit Proofs.Tryz
set_option maxRecDepth 100000
set_option maxHeartbeats 8000000
set_option maxRecDepth 100000 in
theorem Md(w0 w:World)(b bo J:Nat)(L:DL)(M:DM)(ps:List (Nat × Nat))(vo vm:Value)(fV:Nat->Value)(h:DRep w0 b L M)(T:Twin w0 w bo J M (ps.map Prod.fst) ps vo vm fV)
 (v:Value)(d:Dir)(hd:w0.ownsRow 0 148 2 v d.length (flat d))(hi:∀ e,e∈d->e.2∈M.tL)(hn:ps.length+d.length<=1000000000000)
 (j2:∀ f,f∈M.tL->(M.uV f).bytes.length<=1000000000000) :
 Calls prog 99 #[v,E bo 0,E J 0] w fun e G =>
  ∃ l,e=.returned l/\Yv w0 w bo J M ps vo vm d d.length l G:=by
 have j0:=ze hd T.fr (fun _ _=>id);obtain⟨a,l0,hv⟩:=zf hd;have HH:=Z h;have HD:=Z hd;have HT:=Z T;have h0:Yv w0 w bo J M ps vo vm d 0 (.slice none 0 0) w :=
  ⟨⟨ps,vo,vm,fV,[],T,fun _=>id,CP _,rfl,fun i _ h2=>absurd h2 (BF _),Bf w 0 _ _,fun _=>.inl,fun _=>.inl⟩,fun j hj=>by simp[Value.ownBlock] at hj,U _ _⟩
 have H0:=Z h0;have HV:=Z hv;clear h hd T j0 h0;rw[hv];clear hv;go_enter func99,ntmps99
 go_wp2
 go_loopw [5,11] (fun l c G=>∃ k:Nat,k<=d.length/\c=I k/\Yv w0 w bo J M ps vo vm d k l G) (fun _ c _=>d.length-(intOf c).toNat)
 case atStart=>exact⟨0,Bg _,rfl,H0.o⟩
 case round =>
  obtain⟨k,hk,rfl,g2⟩:=hrel;obtain⟨w1,rfl⟩:∃ x,x=wr:=⟨wr,rfl⟩;have a1:=Z g2;clear g2;by_cases X:k<d.length
  .obtain⟨ps1,vo1,vm1,fV1,d1,hT1,hsub,hpl,hdl,hpw,hown,hvo,hvm⟩:=a1.o.ex
   obtain⟨g,hg⟩:∃ g,a=some (Y g 0):=by
    obtain⟨g,c',Q,_⟩:=zl HD.o V;rw[HV.o] at Q;simp at Q;exact⟨g,Q.1⟩
   subst hg;have R:=ze HD.o hT1.fr (fun _ _=>id);rw[HV.o] at R;have j7:=own_cell? R _ _ (ZP d k X).1;have j8:=own_cell? R _ _ (ZP d k X).2;have HS:=Z hsub;have f3:=Z hpw;have d5:=Z hown;have f7:=Z hvo;have f5:=Z hvm;have i4:=Z hT1;have e9:=Z hdl;clear hsub hpw hown hvo hvm hT1 R hdl;go_wp2_with fail;have k7:ps1.length<=1000000000000:=V
   clear j7 j8
   go_loopw [8] (fun c G=>∃ j:Nat,j<=ps1.length/\c=I j/\(∀ i (h1:i<ps1.length),i<j->ps1[i].1≠d[k].2)/\Fr Nil w1 G/\Blk G w1.heap.size [.string d[k].1,E (d[k].2) 0] 148) (fun c _=>ps1.length-(intOf c).toNat)
   case atStart =>
    refine⟨0,Bg _,rfl,fun i _ h=>absurd h (BF _),?_,?_⟩
    .exact Fr.alloc (U _ _) _
    .exact Blk.new w1 [.string d[k].1,E (d[k].2) 0] _
   case round =>
    obtain⟨w2,rfl⟩:∃ x,x=wr:=⟨wr,rfl⟩;obtain⟨j,hj,rfl,a7,e2,b6⟩:=hrel;have B:=i4.o.tW e2;have g4:=B.co.cell;have g3:=B.cm.cell;have j4:=B.co.frozen;have j3:=B.cm.frozen;have i9:=b6.cell;have j1:=b6.frozen;obtain⟨oa,oc,c1⟩:=zf B.old;obtain⟨ma,mc,e6⟩:=zf B.rG;rw[Bm] at c1;rw[c1] at g4;rw[e6] at g3;have b3:=Z c1;have a5:=Z e6;have a4:=Z a7;have q:=Z B;have a2:=Z e2;have b1:=Z b6;clear c1 e6 a7 B e2 b6;by_cases c0:j<ps1.length
    .obtain⟨og,hog⟩:∃ g,oa=some (Y g 0):=by
      obtain⟨g,c',Q,_⟩:=zl q.o.old (by rw[Bm];omega);rw[b3.o] at Q;simp at Q;exact⟨g,Q.1⟩
     subst hog;have j6:w2.cell? (Y og j)=some (E (ps1[j].1) 0):=by
      have:=q.o.old;rw[b3.o] at this;rw[Bm] at this;exact own_cell? this j _ (by simp[ptrs,c0])
     have d9:Blk w2 ps1[j].1 _ _:=((HH.o.tw _ (q.o.tL _ (BW (CU c0)))).fr q.o.fr id);have e0:Blk w2 d[k].2 _ _:=((HH.o.tw _ (hi _ (CU X))).fr q.o.fr id);by_cases S:ps1[j].1=d[k].2
     .have hneq:∀ n,_:=fun n=>E0 (w2.drewN n) d[k].2
      rw[S] at j6;have g6:(d[k].2,ps1[j].2)∈ps1:=by rw[<- S];exact CU c0
      have HG:=Z g6;clear S d9 e0 g6;obtain⟨mg,e5⟩:∃ g,ma=some (Y g 0):=by
       obtain⟨g,c',Q,_⟩:=zl q.o.rG V;rw[a5.o] at Q;simp at Q;exact⟨g,Q.1⟩
      subst e5;have l4:w2.cell? (Y mg j)=some (E (ps1[j].2) 0):=by
       have:=q.o.rG;rw[a5.o] at this;exact own_cell? this j _ (by simp[ptrs,c0])
      have s:=ze d5.o a2.o (fun _ _=>id);have c4:aa (∀ m,Fr Nil w2 m->m.ownsRow 0 148 2 u5 k (flat d1)):=fun m o=>ze s o (fun _ _=>id);clear s;go_wp2_with fail
      go_quiet (fail)
      go_wp2_with fail
      go_region_law
       ((refine Zw bH _ _ _ _ bH _ _ bH bH (zq 140 _ 148 2 24 AU Yc O _ _ _ (c4.o _ zd)
         ⟨w2.heap.size,0,none⟩ 1 1 [.string d[k].1,E (ps1[j].2) 0] rfl (WA _ _ _ _ _ bG) ak ac V) ?_;intro v4 w4 D;have HA:=Z D;clear D))
      all_goals (go_wp2;refine⟨⟨k+1,V,by go_num,?_⟩,by simp[intOf];omega⟩;exact Yv.step X HT.o.fr q.o HS.o V e9.o f3.o (c4.o _ (U _ _)) a1.o.new f7.o f5.o (a1.o.fr.trans (a2.o.mono (fun _ _=>False.elim))) HG.o zd HA.o)
     .have hneq:∀ n,_:=fun n=>Gv (d9.drewN n) (e0.drewN n) S
      have h9:=Z S;clear S d9 e0;go_wp2_with fail
      go_quiet (fail)
      go_wp2
      refine⟨⟨j+1,V,by go_num,?_,a2.o.drewN _,b1.o.drewN _⟩,by simp[intOf];omega⟩;intro i h1 h2;by_cases e:i=j
      .subst e;exact h9.o
      .exact a4.o i h1 V
    .have hje:j=ps1.length:=V
     subst hje;have l2:decide ((ps1.length:Int)<(ps1.length:Int))=false:=bG
     have c7:d[k].2∉ps1.map Prod.fst:=by
      intro hm;obtain⟨p,hp,j9⟩:=Bb.1 hm;obtain⟨i,g7,rfl⟩:=Bt.1 hp;exact a4.o i g7 g7 j9
     have a6:d[k].2∈M.tL:=hi _ (CU X);have f0:=Z c7;clear c7;have s:=ze d5.o a2.o (fun _ _=>id);have f2:aa (w2.ownsRow 0 148 2 u5 k (flat d1)):=s;have K:=q.o.old;rw[Bm,b3.o] at K;have f1:aa (∀ m,Fr Nil w2 m->m.ownsRow 0 146 1 (.slice oa ps1.length oc) ps1.length (ptrs (ps1.map Prod.fst))):=fun m o=>ze K o (fun _ _=>id);have d6:aa (∀ W1 v3 w3,Fr Nil w2 W1->App W1 (.slice oa ps1.length oc) 146 1 (ps1.length+1) (ptrs (ps1.map Prod.fst)++[E (d[k].2) 0]) v3 w3 ->
      Blk w3 bo [.slice oa ps1.length oc] 168/\Twin w0 (w3.setCell (Y bo 0) v3) bo J M (ps1.map Prod.fst++[d[k].2]) ps1 v3 vm1 fV1/\Fr (fun j=>j=bo\/vo1.ownBlock=some j) w2 (w3.setCell (Y bo 0) v3) /\
       (∀ j,v3.ownBlock=some j->vo1.ownBlock=some j\/w2.heap.size<=j)):=by
      intro W1 v3 w3 o D;rw[<- b3.o] at D |-;have hb:=(q.o.co.fr o id).fr D.fr (zh (ze q.o.old o (fun _ _=>id)) (q.o.co.fr o id) O);exact⟨hb,Twin.oA q.o o (by rw[Bm];exact D) f0.o a6⟩
     clear s K;go_wp2_with fail
     go_quiet (fail)
     go_wp2_with (at_builtin;go_must (refine zm rfl _ _ _ _ rfl _ _ bH bH (zq 168 _ 146 1 8 underlying168 Oy O _ _ _ (f1.o _ zd)
      ⟨w2.heap.size,0,none⟩ 1 1 [E (d[k].2) 0] rfl (YQ _ _ _ _ bG) aH ac V) ?_))
     intro v3 w3 d8;obtain⟨a3,c3,k0⟩:=zf d8.sL;subst k0;obtain⟨C,g0,g5,d2⟩:=d6.o _ _ _ zd d8;have i7:=C.cell 0;have k2:=C.frozen 0;have A:=Z g0;have b2:=Z g5;have f8:=Z d2;clear g4 g3 j4 j3 i9 j1 d8 C g0 g5 d2;go_wp2_with fail;obtain⟨N,d7⟩:∃ N,w3.setCell (Y bo 0) (.slice a3 (ps1.length+1) c3)=N:=⟨_,rfl⟩;rw[d7] at A b2 |-;have k9:=Z d7;obtain⟨fa,fc,e4⟩:=zf (HH.o.sq _ a6);have k6:=j2 _ a6;have b7:Blk N w1.heap.size [.string d[k].1,E (d[k].2) 0] 148:=b1.o.fr b2.o (fun e=>by
      rcases e with e|e
      .exact b1.o.ne q.o.co O e
      .exact zh q.o.old b1.o O e)
     have C:Blk N d[k].2 [.slice fa (M.uV d[k].2).bytes.length fc,I (M.uV d[k].2).uZ] 152:=by
      have:=(HH.o.tw _ a6).fr A.o.fr id;rw[e4] at this;exact this
     have a0:Blk N J [.slice ma ps1.length mc] 168:=by
      have:=A.o.cm;rw[a5.o] at this;exact this
     have b0:N.ownsRow 0 5 1 (.slice fa (M.uV d[k].2).bytes.length fc) (M.uV d[k].2).bytes.length (u8s (M.uV d[k].2).bytes):=by
      have:=ze (HH.o.sq _ a6) A.o.fr (fun _ _=>id);rw[e4] at this;exact this
     have t:N.ownsRow 0 146 1 (.slice ma ps1.length mc) ps1.length (ptrs (ps1.map Prod.snd)):=by
      have:=A.o.rG;rw[a5.o] at this;exact this
     have f4:aa (∀ m,Fr Nil N m->m.ownsRow 0 5 1 (.slice fa (M.uV d[k].2).bytes.length fc) (M.uV d[k].2).bytes.length (u8s (M.uV d[k].2).bytes)):=fun m o=>ze b0 o (fun _ _=>id);have d4:aa (∀ m,Fr Nil N m->m.ownsRow 0 146 1 (.slice ma ps1.length mc) ps1.length (ptrs (ps1.map Prod.snd))):=fun m o=>ze t o (fun _ _=>id);have d3:aa (∀ m,Fr Nil N m->(∀ i,m.cell? (Y w1.heap.size i)=[.string d[k].1,E (d[k].2) 0][i]?) /\
      (∀ i,m.cell? (Y (d[k].2) i)=[.slice fa (M.uV d[k].2).bytes.length fc,I (M.uV d[k].2).uZ][i]?)/\(∀ i,m.cell? (Y J i)=[.slice ma ps1.length mc][i]?)/\J<m.heap.size) :=
      fun m o=>⟨(b7.fr o id).cell,(C.fr o id).cell,(a0.fr o id).cell,(a0.fr o id).lt⟩
     have i1:aa (∀ W1 g v9 w9,Fr Nil N W1->App W1 (.slice ma ps1.length mc) 146 1 (ps1.length+1) (ptrs (ps1.map Prod.snd)++[E g 0]) v9 w9->Blk w9 J [.slice ma ps1.length mc] 168) :=
      fun W1 g v9 w9 o D=>(a0.fr o id).fr D.fr (zh (ze t o (fun _ _=>id)) (a0.fr o id) O)
     have h3:=b7.cell;have g8:=C.cell;have h6:=a0.cell;have h8:=Z b7;have k8:=Z C;clear i7 k2 d7 b7 C a0 b0 t e4
     go_cut [8] (fun ci wx=>ci=I ps1.length/\∃ nf v9 f9,Twin w0 wx bo J M ((ps1++[(d[k].2,nf)]).map Prod.fst) (ps1++[(d[k].2,nf)]) (.slice a3 (ps1.length+1) c3) v9 f9/\Fr (fun j=>j=J\/vm1.ownBlock=some j) N wx/\(∀ j,v9.ownBlock=some j->vm1.ownBlock=some j\/N.heap.size<=j))
     case first =>
      go_region_law
       (first
       | (refine Zw bH _ _ _ _ bH _ _ bH bH (Xf 150 _ 5 1 1 Ap V6 O (.slice none 0 0) 0 [] (Bf _ 0 _ _) _ (M.uV d[k].2).bytes.length (u8s (M.uV d[k].2).bytes) (f4.o _ zd)
           (by intro x hx;simp[u8s] at hx;obtain⟨c,_,rfl⟩:=hx;rfl) ac V) ?_;intro v8 w8 b4;obtain⟨a8,c8,k1⟩:=zf b4.sL;subst k1
          have e3:Fr Nil N w8:=Fr.trans zd (b4.fr.mono (fun _ _ h=>by simp[Value.ownBlock] at h));obtain⟨h4,g9,h7,h5⟩:=d3.o _ e3;have e7:=Z b4;clear b4)
       | (refine Zw bH _ _ _ _ bH _ _ bH bH (zq 168 _ 146 1 8 underlying168 Oy O _ _ _ (d4.o _ zd)
           ⟨w8.heap.size+1,0,none⟩ 1 1 [E w8.heap.size 0] rfl (YQ _ _ _ _ bG) aH ac V) ?_;intro v9 w9 b5;obtain⟨a9,c9,c2⟩:=zf b5.sL;subst c2
          have e1:=i1.o _ _ _ _ zd b5;have i8:=e1.cell 0;have k3:=e1.frozen 0;have e8:=Z b5;clear b5 e1))
      all_goals
       (have g1:=Twin.rL A.o e3 e7.o (by rw[a5.o];exact e8.o)
        have i6:=Z g1;clear g1 i8 k3 h4 g9 h7 h5 e8 e7 e3 h3 g8 h6;go_wp2_with fail
        go_meet
        exact⟨rfl,_,_,_,i6.o⟩)
     case rest =>
      obtain⟨rfl,nf,v9,f9,r,b9,d0⟩:=hcut;obtain⟨W4,rfl⟩:∃ x,x=wc:=⟨wc,rfl⟩;obtain⟨a9,c9,c2⟩:=zf r.rG;simp only[CN,Bh,BU] at c2;subst c2;have y:=E1 q.o A.o f2.o b2.o b9;have b8:=E2 A.o h8.o b9;have k4:=b8.cell;have k5:=r.cm.cell;obtain⟨mg,e5⟩:∃ g,a9=some (Y g 0):=by
       obtain⟨g,c',Q,_⟩:=zl r.rG bG;simp at Q;exact⟨g,Q.1⟩
      subst e5;have c6:W4.cell? (Y mg ps1.length)=some (E nf 0):=by
       have:=r.rG;simp only[CN,Bh,BU] at this;exact own_cell? this ps1.length _ (by simp[ptrs])
      have l3:(ps1.length:Int)<(ps1.length:Int)+1:=V
      have c5:aa (∀ m,Fr Nil W4 m->m.ownsRow 0 148 2 u5 k (flat d1)):=fun m o=>ze y o (fun _ _=>id);have i2:aa (∀ m,Fr Nil W4 m->m.cell? (Y w1.heap.size 0)=some (.string d[k].1)/\m.cell? (Y J 0)=some (.slice (some (Y mg 0)) (ps1.length+1) c9)/\m.cell? (Y mg ps1.length)=some (E nf 0)) :=
       fun m o=>⟨(b8.fr o id).cell 0,(r.cm.fr o id).cell 0,((o.cell (p:=⟨mg,ps1.length,none⟩) (zF r.rG rfl) id).trans c6)⟩
      have i3:aa (∀ m xs v' G,Fr Nil W4 m->App m u5 148 2 (k+1) xs v' G->G.cell? (Y w1.heap.size 0)=some (.string d[k].1)/\G.cell? (Y J 0)=some (.slice (some (Y mg 0)) (ps1.length+1) c9)/\G.cell? (Y mg ps1.length)=some (E nf 0)) :=
       fun m xs v' G o D=>⟨((b8.fr o id).fr D.fr (fun e=>absurd (zF d5.o e) V)).cell 0,((r.cm.fr o id).fr D.fr (zh (ze y o (fun _ _=>id)) (r.cm.fr o id) O)).cell 0,
        ((D.fr.cell (p:=⟨mg,ps1.length,none⟩) (Bv (zF r.rG rfl) o.size) (fun e=>Zf (ze y o (fun _ _=>id)) (ze r.rG o (fun _ _=>id)) O e rfl)).trans ((o.cell (p:=⟨mg,ps1.length,none⟩) (zF r.rG rfl) id).trans c6))⟩
      have i5:=Z r;have i0:=Z b9;have f6:=Z d0;clear r b9 d0 y b8 h3 g8 h6;go_wp2_with fail
      go_region_held3 (fun G=>G.cell? (Y w1.heap.size 0)=some (.string d[k].1)/\G.cell? (Y J 0)=some (.slice (some (Y mg 0)) (ps1.length+1) c9)/\G.cell? (Y mg ps1.length)=some (E nf 0)) (first|assumption|exact i2.o _ zd)
       (first
       | (refine Zw bH _ _ _ _ bH _ _ bH bH (zq 140 _ 148 2 24 AU Yc O _ _ _ (c5.o _ zd)
        ⟨W4.heap.size,0,none⟩ 1 1 [.string d[k].1,E nf 0] rfl (WA _ _ _ _ _ bG) ak ac V) ?_;intro v4 w4 D;have l1:=i3.o _ _ _ _ zd D;have HA:=Z D;clear D))
      go_wp2
      refine⟨⟨k+1,V,by go_num,?_⟩,by simp[intOf];omega⟩;exact Yv.oI X HT.o.fr a1.o HS.o hpl e9.o f3.o f7.o f5.o a2.o b2.o f8.o i5.o i0.o f6.o (c5.o _ (U _ _)) zd HA.o
  .go_wp2
   go_ret;have j5:k=d.length:=V
   subst j5;exact⟨_,rfl,a1.o⟩
end Go.Proofs.YtkhnggkkiefcdaaGreatDoor
