/- larder: joined texts -/
import Derived.Test.YtkhnggkkiefcdaaGreatDoorUNAQ
import Derived.Deep.DeepCutAuto
namespace Go.Proofs.YtkhnggkkiefcdaaGreatDoor
open Go.RowKit
set_option maxRecDepth 100000
set_option maxHeartbeats 8000000
set_option maxRecDepth 100000 in
theorem OI(w0 w:World)(b V G:Nat)(L:DL)(M:DM)(ps:List (Nat × Nat))(vo vm:Value)(fV:Nat->Value)(h:DRep w0 b L M)(T:Twin w0 w V G M (ps.map Prod.fst) ps vo vm fV)
 (v:Value)(d:Dir)(hd:w0.ownsRow 0 148 2 v d.length (flat d))(hi:∀ e,e∈d->e.2∈M.ids)(hn:ps.length+d.length<=1000000000000)
 (j0:∀ f,f∈M.ids->(M.file f).bytes.length<=1000000000000) :
 Calls Tryz.prog 99 #[v,.pointer (some ⟨V,0,none⟩),.pointer (some ⟨G,0,none⟩)] w fun e E =>
  ∃ l,e=.returned l/\Y9 w0 w V G M ps vo vm d d.length l E:=by
 have i8:=ze hd T.fr (fun _ _=>id);obtain⟨a,k8,hv⟩:=zg hd;have HH:=Z h;have HD:=Z hd;have HT:=Z T;have h0:Y9 w0 w V G M ps vo vm d 0 (.slice none 0 0) w :=
  ⟨⟨ps,vo,vm,fV,[],T,fun _=>id,Io _,rfl,fun i _ h2=>absurd h2 (Hj _),IX w 0 _ _,fun _=>.inl,fun _=>.inl⟩,fun j hj=>by simp[Value.ownBlock] at hj,U _ _⟩
 have H0:=Z h0;have HV:=Z hv;clear h hd T i8 h0;rw[hv];clear hv;go_enter Tryz.func99,Tryz.ntmps99
 go_wp2
 go_loopw [5,11] (fun l c E=>∃ k:Nat,k<=d.length/\c=.int .i64 k/\Y9 w0 w V G M ps vo vm d k l E) (fun _ c _=>d.length-(intOf c).toNat)
 case atStart=>exact⟨0,II _,rfl,H0.out⟩
 case round =>
  obtain⟨k,hk,rfl,g0⟩:=hrel;obtain⟨w1,rfl⟩:∃ x,x=wr:=⟨wr,rfl⟩;have Y:=Z g0;clear g0;by_cases Q:k<d.length
  .obtain⟨ps1,vo1,vm1,fV1,d1,hT1,hsub,hpl,hdl,hpw,hown,hvo,hvm⟩:=Y.out.ex
   obtain⟨g,hg⟩:∃ g,a=some ⟨g,0,none⟩:=by
    obtain⟨g,c',K,_⟩:=zv HD.out (by omega);rw[HV.out] at K;simp at K;exact⟨g,K.1⟩
   subst hg;have N:=ze HD.out hT1.fr (fun _ _=>id);rw[HV.out] at N;have j5:=own_cell? N _ _ (ZD d k Q).1;have j6:=own_cell? N _ _ (ZD d k Q).2;have HS:=Z hsub;have f1:=Z hpw;have d3:=Z hown;have f5:=Z hvo;have f3:=Z hvm;have i2:=Z hT1;have e7:=Z hdl;clear hsub hpw hown hvo hvm hT1 N hdl;go_wp2_with fail;have k5:ps1.length<=1000000000000:=by omega
   clear j5 j6
   go_loopw [8] (fun c E=>∃ j:Nat,j<=ps1.length/\c=.int .i64 j/\(∀ i (h1:i<ps1.length),i<j->ps1[i].1≠d[k].2)/\Fr Nil w1 E/\Blk E w1.heap.size [.string d[k].1,.pointer (some ⟨d[k].2,0,none⟩)] 148) (fun c _=>ps1.length-(intOf c).toNat)
   case atStart =>
    refine⟨0,II _,rfl,fun i _ h=>absurd h (Hj _),?_,?_⟩
    .exact Fr.alloc (U _ _) _
    .exact Blk.new w1 [.string d[k].1,.pointer (some ⟨d[k].2,0,none⟩)] _
   case round =>
    obtain⟨S,rfl⟩:∃ x,x=wr:=⟨wr,rfl⟩;obtain⟨j,hj,rfl,a5,e0,b4⟩:=hrel;have B:=i2.out.BS e0;have g2:=B.co.cell;have g1:=B.cm.cell;have j2:=B.co.frozen;have j1:=B.cm.frozen;have i7:=b4.cell;have i9:=b4.frozen;obtain⟨oa,oc,b9⟩:=zg B.old;obtain⟨ma,mc,e4⟩:=zg B.made;rw[IE] at b9;rw[b9] at g2;rw[e4] at g1;have b1:=Z b9;have a2:=Z e4;have a1:=Z a5;have q:=Z B;have a0:=Z e0;have a7:=Z b4;clear b9 e4 a5 B e0 b4;by_cases b8:j<ps1.length
    .obtain⟨og,hog⟩:∃ g,oa=some ⟨g,0,none⟩:=by
      obtain⟨g,c',K,_⟩:=zv q.out.old (by rw[IE];omega);rw[b1.out] at K;simp at K;exact⟨g,K.1⟩
     subst hog;have j4:S.cell? ⟨og,j,none⟩=some (.pointer (some ⟨ps1[j].1,0,none⟩)):=by
      have:=q.out.old;rw[b1.out] at this;rw[IE] at this;exact own_cell? this j _ (by simp[ptrs,b8])
     have d7:Blk S ps1[j].1 _ _:=((HH.out.files _ (q.out.ids _ (Hq (Iu b8)))).fr q.out.fr id);have d8:Blk S d[k].2 _ _:=((HH.out.files _ (hi _ (Iu Q))).fr q.out.fr id);by_cases O:ps1[j].1=d[k].2
     .have hneq:∀ n,_:=fun n=>KQ (S.drewN n) d[k].2
      rw[O] at j4;have g4:(d[k].2,ps1[j].2)∈ps1:=by rw[<- O];exact Iu b8
      have HG:=Z g4;clear O d7 d8 g4;obtain⟨X,e3⟩:∃ g,ma=some ⟨g,0,none⟩:=by
       obtain⟨g,c',K,_⟩:=zv q.out.made (by omega);rw[a2.out] at K;simp at K;exact⟨g,K.1⟩
      subst e3;have l2:S.cell? ⟨X,j,none⟩=some (.pointer (some ⟨ps1[j].2,0,none⟩)):=by
       have:=q.out.made;rw[a2.out] at this;exact own_cell? this j _ (by simp[ptrs,b8])
      have s:=ze d3.out a0.out (fun _ _=>id);have c1:Hid (∀ m,Fr Nil S m->m.ownsRow 0 148 2 u5 k (flat d1)):=fun m o=>ze s o (fun _ _=>id);clear s;go_wp2_with fail
      go_quiet (fail)
      go_wp2_with fail
      go_region_law
       ((refine ZS (by rfl) _ _ _ _ (by rfl) _ _ (by rfl) (by rfl) (zt 140 _ 148 2 24 GR ZX (by decide) _ _ _ (c1.out _ zd)
         ⟨S.heap.size,0,none⟩ 1 1 [.string d[k].1,.pointer (some ⟨ps1[j].2,0,none⟩)] rfl (Wb _ _ _ _ _ (by simp)) (by intro u hu;simp at hu;rcases hu with rfl|rfl <;> rfl) (by unfold maxLen;omega) (by omega)) ?_;intro v4 w4 D;have HA:=Z D;clear D))
      all_goals (go_wp2;refine⟨⟨k+1,by omega,by go_num,?_⟩,by simp[intOf];omega⟩;exact Y9.step Q HT.out.fr q.out HS.out (by omega) e7.out f1.out (c1.out _ (U _ _)) Y.out.new f5.out f3.out (Y.out.fr.trans (a0.out.mono (fun _ _=>False.elim))) HG.out zd HA.out)
     .have hneq:∀ n,_:=fun n=>LU (d7.drewN n) (d8.drewN n) O
      have h7:=Z O;clear O d7 d8;go_wp2_with fail
      go_quiet (fail)
      go_wp2
      refine⟨⟨j+1,by omega,by go_num,?_,a0.out.drewN _,a7.out.drewN _⟩,by simp[intOf];omega⟩;intro i h1 h2;by_cases e:i=j
      .subst e;exact h7.out
      .exact a1.out i h1 (by omega)
    .have hje:j=ps1.length:=by omega
     subst hje;have l0:decide ((ps1.length:Int)<(ps1.length:Int))=false:=by simp
     have c5:d[k].2∉ps1.map Prod.fst:=by
      intro hm;obtain⟨p,hp,j7⟩:=Iy.1 hm;obtain⟨i,g5,rfl⟩:=IP.1 hp;exact a1.out i g5 g5 j7
     have a4:d[k].2∈M.ids:=hi _ (Iu Q);have e8:=Z c5;clear c5;have s:=ze d3.out a0.out (fun _ _=>id);have f0:Hid (S.ownsRow 0 148 2 u5 k (flat d1)):=s;have I:=q.out.old;rw[IE,b1.out] at I;have e9:Hid (∀ m,Fr Nil S m->m.ownsRow 0 146 1 (.slice oa ps1.length oc) ps1.length (ptrs (ps1.map Prod.fst))):=fun m o=>ze I o (fun _ _=>id);have d4:Hid (∀ W1 v3 w3,Fr Nil S W1->App W1 (.slice oa ps1.length oc) 146 1 (ps1.length+1) (ptrs (ps1.map Prod.fst)++[.pointer (some ⟨d[k].2,0,none⟩)]) v3 w3 ->
      Blk w3 V [.slice oa ps1.length oc] 168/\Twin w0 (w3.setCell ⟨V,0,none⟩ v3) V G M (ps1.map Prod.fst++[d[k].2]) ps1 v3 vm1 fV1/\Fr (fun j=>j=V\/vo1.ownBlock=some j) S (w3.setCell ⟨V,0,none⟩ v3) /\
       (∀ j,v3.ownBlock=some j->vo1.ownBlock=some j\/S.heap.size<=j)):=by
      intro W1 v3 w3 o D;rw[<- b1.out] at D |-;have hb:=(q.out.co.fr o id).fr D.fr (zi (ze q.out.old o (fun _ _=>id)) (q.out.co.fr o id) (by decide));exact⟨hb,Twin.yT q.out o (by rw[IE];exact D) e8.out a4⟩
     clear s I;go_wp2_with fail
     go_quiet (fail)
     go_wp2_with (at_builtin;go_must (refine zJ rfl _ _ _ _ rfl _ _ (by rfl) (by rfl) (zt 168 _ 146 1 8 Tryz.underlying168 Pk (by decide) _ _ _ (e9.out _ zd)
      ⟨S.heap.size,0,none⟩ 1 1 [.pointer (some ⟨d[k].2,0,none⟩)] rfl (Yq _ _ _ _ (by simp)) (by intro u hu;simp at hu;subst hu;rfl) (by unfold maxLen;omega) (by omega)) ?_))
     intro v3 w3 d6;obtain⟨a3,c3,j8⟩:=zg d6.own;subst j8;obtain⟨C,f8,g3,c7⟩:=d4.out _ _ _ zd d6;have i5:=C.cell 0;have k0:=C.frozen 0;have A:=Z f8;have b0:=Z g3;have f6:=Z c7;clear g2 g1 j2 j1 i7 i9 d6 C f8 g3 c7;go_wp2_with fail;obtain⟨J,d5⟩:∃ J,w3.setCell ⟨V,0,none⟩ (.slice a3 (ps1.length+1) c3)=J:=⟨_,rfl⟩;rw[d5] at A b0 |-;have k7:=Z d5;obtain⟨fa,fc,e2⟩:=zg (HH.out.rows _ a4);have k4:=j0 _ a4;have b5:Blk J w1.heap.size [.string d[k].1,.pointer (some ⟨d[k].2,0,none⟩)] 148:=a7.out.fr b0.out (fun e=>by
      rcases e with e|e
      .exact a7.out.ne q.out.co (by decide) e
      .exact zi q.out.old a7.out (by decide) e)
     have C:Blk J d[k].2 [.slice fa (M.file d[k].2).bytes.length fc,.int .i64 (M.file d[k].2).safe] 152:=by
      have:=(HH.out.files _ a4).fr A.out.fr id;rw[e2] at this;exact this
     have R:Blk J G [.slice ma ps1.length mc] 168:=by
      have:=A.out.cm;rw[a2.out] at this;exact this
     have a6:J.ownsRow 0 5 1 (.slice fa (M.file d[k].2).bytes.length fc) (M.file d[k].2).bytes.length (u8s (M.file d[k].2).bytes):=by
      have:=ze (HH.out.rows _ a4) A.out.fr (fun _ _=>id);rw[e2] at this;exact this
     have t:J.ownsRow 0 146 1 (.slice ma ps1.length mc) ps1.length (ptrs (ps1.map Prod.snd)):=by
      have:=A.out.made;rw[a2.out] at this;exact this
     have f2:Hid (∀ m,Fr Nil J m->m.ownsRow 0 5 1 (.slice fa (M.file d[k].2).bytes.length fc) (M.file d[k].2).bytes.length (u8s (M.file d[k].2).bytes)):=fun m o=>ze a6 o (fun _ _=>id);have d2:Hid (∀ m,Fr Nil J m->m.ownsRow 0 146 1 (.slice ma ps1.length mc) ps1.length (ptrs (ps1.map Prod.snd))):=fun m o=>ze t o (fun _ _=>id);have d0:Hid (∀ m,Fr Nil J m->(∀ i,m.cell? ⟨w1.heap.size,i,none⟩=[.string d[k].1,.pointer (some ⟨d[k].2,0,none⟩)][i]?) /\
      (∀ i,m.cell? ⟨d[k].2,i,none⟩=[.slice fa (M.file d[k].2).bytes.length fc,.int .i64 (M.file d[k].2).safe][i]?)/\(∀ i,m.cell? ⟨G,i,none⟩=[.slice ma ps1.length mc][i]?)/\G<m.heap.size) :=
      fun m o=>⟨(b5.fr o id).cell,(C.fr o id).cell,(R.fr o id).cell,(R.fr o id).lt⟩
     have h9:Hid (∀ W1 g v9 w9,Fr Nil J W1->App W1 (.slice ma ps1.length mc) 146 1 (ps1.length+1) (ptrs (ps1.map Prod.snd)++[.pointer (some ⟨g,0,none⟩)]) v9 w9->Blk w9 G [.slice ma ps1.length mc] 168) :=
      fun W1 g v9 w9 o D=>(R.fr o id).fr D.fr (zi (ze t o (fun _ _=>id)) (R.fr o id) (by decide))
     have g8:=b5.cell;have g6:=C.cell;have h4:=R.cell;have h6:=Z b5;have k6:=Z C;clear i5 k0 d5 b5 C R a6 t e2
     go_cut [8] (fun ci wx=>ci=.int .i64 ps1.length/\∃ nf v9 f7,Twin w0 wx V G M ((ps1++[(d[k].2,nf)]).map Prod.fst) (ps1++[(d[k].2,nf)]) (.slice a3 (ps1.length+1) c3) v9 f7/\Fr (fun j=>j=G\/vm1.ownBlock=some j) J wx/\(∀ j,v9.ownBlock=some j->vm1.ownBlock=some j\/J.heap.size<=j))
     case first =>
      go_region_law
       (first
       | (refine ZS (by rfl) _ _ _ _ (by rfl) _ _ (by rfl) (by rfl) (Xu 150 _ 5 1 1 Gw WD (by decide) (.slice none 0 0) 0 [] (IX _ 0 _ _) _ (M.file d[k].2).bytes.length (u8s (M.file d[k].2).bytes) (f2.out _ zd)
           (by intro x hx;simp[u8s] at hx;obtain⟨c,_,rfl⟩:=hx;rfl) (by unfold maxLen;omega) (by omega)) ?_;intro v8 w8 b2;obtain⟨a8,c8,j9⟩:=zg b2.own;subst j9
          have e1:Fr Nil J w8:=Fr.trans zd (b2.fr.mono (fun _ _ h=>by simp[Value.ownBlock] at h));obtain⟨g9,g7,h5,h3⟩:=d0.out _ e1;have e5:=Z b2;clear b2)
       | (refine ZS (by rfl) _ _ _ _ (by rfl) _ _ (by rfl) (by rfl) (zt 168 _ 146 1 8 Tryz.underlying168 Pk (by decide) _ _ _ (d2.out _ zd)
           ⟨w8.heap.size+1,0,none⟩ 1 1 [.pointer (some ⟨w8.heap.size,0,none⟩)] rfl (Yq _ _ _ _ (by simp)) (by intro u hu;simp at hu;subst hu;rfl) (by unfold maxLen;omega) (by omega)) ?_;intro v9 w9 b3;obtain⟨a9,c9,c0⟩:=zg b3.own;subst c0
          have d9:=h9.out _ _ _ _ zd b3;have i6:=d9.cell 0;have k1:=d9.frozen 0;have e6:=Z b3;clear b3 d9))
      all_goals
       (have f9:=Twin.born A.out e1 e5.out (by rw[a2.out];exact e6.out)
        have i4:=Z f9;clear f9 i6 k1 g9 g7 h5 h3 e6 e5 e1 g8 g6 h4;go_wp2_with fail
        go_meet
        exact⟨rfl,_,_,_,i4.out⟩)
     case rest =>
      obtain⟨rfl,nf,v9,f7,r,b7,c6⟩:=hcut;obtain⟨W4,rfl⟩:∃ x,x=wc:=⟨wc,rfl⟩;obtain⟨a9,c9,c0⟩:=zg r.made;simp only[Il,Iz,Ho] at c0;subst c0;have y:=KR q.out A.out f0.out b0.out b7;have b6:=KS A.out h6.out b7;have k2:=b6.cell;have k3:=r.cm.cell;obtain⟨X,e3⟩:∃ g,a9=some ⟨g,0,none⟩:=by
       obtain⟨g,c',K,_⟩:=zv r.made (by simp);simp at K;exact⟨g,K.1⟩
      subst e3;have c4:W4.cell? ⟨X,ps1.length,none⟩=some (.pointer (some ⟨nf,0,none⟩)):=by
       have:=r.made;simp only[Il,Iz,Ho] at this;exact own_cell? this ps1.length _ (by simp[ptrs])
      have l1:(ps1.length:Int)<(ps1.length:Int)+1:=by omega
      have c2:Hid (∀ m,Fr Nil W4 m->m.ownsRow 0 148 2 u5 k (flat d1)):=fun m o=>ze y o (fun _ _=>id);have i0:Hid (∀ m,Fr Nil W4 m->m.cell? ⟨w1.heap.size,0,none⟩=some (.string d[k].1)/\m.cell? ⟨G,0,none⟩=some (.slice (some ⟨X,0,none⟩) (ps1.length+1) c9)/\m.cell? ⟨X,ps1.length,none⟩=some (.pointer (some ⟨nf,0,none⟩))) :=
       fun m o=>⟨(b6.fr o id).cell 0,(r.cm.fr o id).cell 0,((o.cell (p:=⟨X,ps1.length,none⟩) (own_lt r.made rfl) id).trans c4)⟩
      have i1:Hid (∀ m xs v' E,Fr Nil W4 m->App m u5 148 2 (k+1) xs v' E->E.cell? ⟨w1.heap.size,0,none⟩=some (.string d[k].1)/\E.cell? ⟨G,0,none⟩=some (.slice (some ⟨X,0,none⟩) (ps1.length+1) c9)/\E.cell? ⟨X,ps1.length,none⟩=some (.pointer (some ⟨nf,0,none⟩))) :=
       fun m xs v' E o D=>⟨((b6.fr o id).fr D.fr (fun e=>absurd (own_lt d3.out e) (by omega))).cell 0,((r.cm.fr o id).fr D.fr (zi (ze y o (fun _ _=>id)) (r.cm.fr o id) (by decide))).cell 0,
        ((D.fr.cell (p:=⟨X,ps1.length,none⟩) (Hu (own_lt r.made rfl) o.size) (fun e=>Zb (ze y o (fun _ _=>id)) (ze r.made o (fun _ _=>id)) (by decide) e rfl)).trans ((o.cell (p:=⟨X,ps1.length,none⟩) (own_lt r.made rfl) id).trans c4))⟩
      have i3:=Z r;have h8:=Z b7;have f4:=Z c6;clear r b7 c6 y b6 g8 g6 h4;go_wp2_with fail
      go_region_held3 (fun E=>E.cell? ⟨w1.heap.size,0,none⟩=some (.string d[k].1)/\E.cell? ⟨G,0,none⟩=some (.slice (some ⟨X,0,none⟩) (ps1.length+1) c9)/\E.cell? ⟨X,ps1.length,none⟩=some (.pointer (some ⟨nf,0,none⟩))) (first|assumption|exact i0.out _ zd)
       (first
       | (refine ZS (by rfl) _ _ _ _ (by rfl) _ _ (by rfl) (by rfl) (zt 140 _ 148 2 24 GR ZX (by decide) _ _ _ (c2.out _ zd)
        ⟨W4.heap.size,0,none⟩ 1 1 [.string d[k].1,.pointer (some ⟨nf,0,none⟩)] rfl (Wb _ _ _ _ _ (by simp)) (by intro u hu;simp at hu;rcases hu with rfl|rfl <;> rfl) (by unfold maxLen;omega) (by omega)) ?_;intro v4 w4 D;have k9:=i1.out _ _ _ _ zd D;have HA:=Z D;clear D))
      go_wp2
      refine⟨⟨k+1,by omega,by go_num,?_⟩,by simp[intOf];omega⟩;exact Y9.yS Q HT.out.fr Y.out HS.out hpl e7.out f1.out f5.out f3.out a0.out b0.out f6.out i3.out h8.out f4.out (c2.out _ (U _ _)) zd HA.out
  .go_wp2
   go_ret;have j3:k=d.length:=by omega
   subst j3;exact⟨_,rfl,Y.out⟩
end Go.Proofs.YtkhnggkkiefcdaaGreatDoor
