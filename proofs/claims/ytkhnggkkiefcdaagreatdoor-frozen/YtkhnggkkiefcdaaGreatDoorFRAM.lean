/- larder: joined texts -/
import Derived.Test.YtkhnggkkiefcdaaGreatDoorFRAL
import Derived.Deep.DeepCutAuto
namespace Go.Proofs.YtkhnggkkiefcdaaGreatDoor
open Go.RowKit
set_option maxRecDepth 100000
set_option maxHeartbeats 8000000
set_option maxRecDepth 100000 in
theorem RQ(w0 w:World)(b S E:Nat)(L:DL)(M:DM)(ps:List (Nat × Nat))(vo vm:Value)(fV:Nat->Value)(h:DRep w0 b L M)(T:Twin w0 w S E M (ps.map Prod.fst) ps vo vm fV)
 (v:Value)(d:Dir)(hd:w0.ownsRow 0 148 2 v d.length (flat d))(hi:∀ e,e∈d->e.2∈M.ids)(hn:ps.length+d.length<=1000000000000)
 (i9:∀ f,f∈M.ids->(M.file f).bytes.length<=1000000000000) :
 Calls Tryz.prog 99 #[v,.pointer (some ⟨S,0,none⟩),.pointer (some ⟨E,0,none⟩)] w fun e D =>
  ∃ l,e=.returned l/\Zt w0 w S E M ps vo vm d d.length l D:=by
 have i7:=za hd T.fr (fun _ _=>id);obtain⟨a,k7,hv⟩:=zd hd;have HH:=Z h;have HD:=Z hd;have HT:=Z T;have h0:Zt w0 w S E M ps vo vm d 0 (.slice none 0 0) w :=
  ⟨⟨ps,vo,vm,fV,[],T,fun _=>id,NS _,rfl,fun i _ h2=>absurd h2 (MA _),Mo w 0 _ _,fun _=>.inl,fun _=>.inl⟩,fun j hj=>by simp[Value.ownBlock] at hj,O _ _⟩
 have H0:=Z h0;have HV:=Z hv;clear h hd T i7 h0;rw[hv];clear hv;go_enter Tryz.func99,Tryz.ntmps99
 go_wp2
 go_loopw [5,11] (fun l c D=>∃ k:Nat,k<=d.length/\c=.int .i64 k/\Zt w0 w S E M ps vo vm d k l D) (fun _ c _=>d.length-(intOf c).toNat)
 case atStart=>exact⟨0,Me _,rfl,H0.out⟩
 case round =>
  obtain⟨k,hk,rfl,f9⟩:=hrel;obtain⟨w1,rfl⟩:∃ x,x=wr:=⟨wr,rfl⟩;have X:=Z f9;clear f9;by_cases N:k<d.length
  .obtain⟨ps1,vo1,vm1,fV1,d1,hT1,hsub,hpl,hdl,hpw,hown,hvo,hvm⟩:=X.out.ex
   obtain⟨g,hg⟩:∃ g,a=some ⟨g,0,none⟩:=by
    obtain⟨g,c',I,_⟩:=zq HD.out (by omega);rw[HV.out] at I;simp at I;exact⟨g,I.1⟩
   subst hg;have J:=za HD.out hT1.fr (fun _ _=>id);rw[HV.out] at J;have j4:=own_cell? J _ _ (ZA d k N).1;have j5:=own_cell? J _ _ (ZA d k N).2;have HS:=Z hsub;have f0:=Z hpw;have d2:=Z hown;have f4:=Z hvo;have f2:=Z hvm;have i1:=Z hT1;have e6:=Z hdl;clear hsub hpw hown hvo hvm hT1 J hdl;go_wp2_with fail;have k4:ps1.length<=1000000000000:=by omega
   clear j4 j5
   go_loopw [8] (fun c D=>∃ j:Nat,j<=ps1.length/\c=.int .i64 j/\(∀ i (h1:i<ps1.length),i<j->ps1[i].1≠d[k].2)/\Fr Nil w1 D/\Blk D w1.heap.size [.string d[k].1,.pointer (some ⟨d[k].2,0,none⟩)] 148) (fun c _=>ps1.length-(intOf c).toNat)
   case atStart =>
    refine⟨0,Me _,rfl,fun i _ h=>absurd h (MA _),?_,?_⟩
    .exact Fr.alloc (O _ _) _
    .exact Blk.new w1 [.string d[k].1,.pointer (some ⟨d[k].2,0,none⟩)] _
   case round =>
    obtain⟨R,rfl⟩:∃ x,x=wr:=⟨wr,rfl⟩;obtain⟨j,hj,rfl,a4,d9,b3⟩:=hrel;have A:=i1.out.Gx d9;have g1:=A.co.cell;have g0:=A.cm.cell;have j1:=A.co.frozen;have j0:=A.cm.frozen;have i6:=b3.cell;have i8:=b3.frozen;obtain⟨oa,oc,b8⟩:=zd A.old;obtain⟨ma,mc,e3⟩:=zd A.made;rw[Mw] at b8;rw[b8] at g1;rw[e3] at g0;have b0:=Z b8;have a1:=Z e3;have a0:=Z a4;have q:=Z A;have Y:=Z d9;have a6:=Z b3;clear b8 e3 a4 A d9 b3;by_cases b7:j<ps1.length
    .obtain⟨og,hog⟩:∃ g,oa=some ⟨g,0,none⟩:=by
      obtain⟨g,c',I,_⟩:=zq q.out.old (by rw[Mw];omega);rw[b0.out] at I;simp at I;exact⟨g,I.1⟩
     subst hog;have j3:R.cell? ⟨og,j,none⟩=some (.pointer (some ⟨ps1[j].1,0,none⟩)):=by
      have:=q.out.old;rw[b0.out] at this;rw[Mw] at this;exact own_cell? this j _ (by simp[ptrs,b7])
     have d6:Blk R ps1[j].1 _ _:=((HH.out.files _ (q.out.ids _ (MR (NV b7)))).fr q.out.fr id);have d7:Blk R d[k].2 _ _:=((HH.out.files _ (hi _ (NV N))).fr q.out.fr id);by_cases K:ps1[j].1=d[k].2
     .have hneq:∀ n,_:=fun n=>OI (R.drewN n) d[k].2
      rw[K] at j3;have g3:(d[k].2,ps1[j].2)∈ps1:=by rw[<- K];exact NV b7
      have HG:=Z g3;clear K d6 d7 g3;obtain⟨V,e2⟩:∃ g,ma=some ⟨g,0,none⟩:=by
       obtain⟨g,c',I,_⟩:=zq q.out.made (by omega);rw[a1.out] at I;simp at I;exact⟨g,I.1⟩
      subst e2;have l1:R.cell? ⟨V,j,none⟩=some (.pointer (some ⟨ps1[j].2,0,none⟩)):=by
       have:=q.out.made;rw[a1.out] at this;exact own_cell? this j _ (by simp[ptrs,b7])
      have s:=za d2.out Y.out (fun _ _=>id);have c0:Hid (∀ m,Fr Nil R m->m.ownsRow 0 148 2 u5 k (flat d1)):=fun m o=>za s o (fun _ _=>id);clear s;go_wp2_with fail
      go_quiet (fail)
      go_wp2_with fail
      go_region_law
       ((refine Zi (by rfl) _ _ _ _ (by rfl) _ _ (by rfl) (by rfl) (zn 140 _ 148 2 24 KZ YW (by decide) _ _ _ (c0.out _ z8)
         ⟨R.heap.size,0,none⟩ 1 1 [.string d[k].1,.pointer (some ⟨ps1[j].2,0,none⟩)] rfl (WA _ _ _ _ _ (by simp)) (by intro u hu;simp at hu;rcases hu with rfl|rfl <;> rfl) (by unfold maxLen;omega) (by omega)) ?_;intro v4 w4 C;have HA:=Z C;clear C))
      all_goals (go_wp2;refine⟨⟨k+1,by omega,by go_num,?_⟩,by simp[intOf];omega⟩;exact Zt.step N HT.out.fr q.out HS.out (by omega) e6.out f0.out (c0.out _ (O _ _)) X.out.new f4.out f2.out (X.out.fr.trans (Y.out.mono (fun _ _=>False.elim))) HG.out z8 HA.out)
     .have hneq:∀ n,_:=fun n=>PU (d6.drewN n) (d7.drewN n) K
      have h6:=Z K;clear K d6 d7;go_wp2_with fail
      go_quiet (fail)
      go_wp2
      refine⟨⟨j+1,by omega,by go_num,?_,Y.out.drewN _,a6.out.drewN _⟩,by simp[intOf];omega⟩;intro i h1 h2;by_cases e:i=j
      .subst e;exact h6.out
      .exact a0.out i h1 (by omega)
    .have hje:j=ps1.length:=by omega
     subst hje;have k9:decide ((ps1.length:Int)<(ps1.length:Int))=false:=by simp
     have c4:d[k].2∉ps1.map Prod.fst:=by
      intro hm;obtain⟨p,hp,j6⟩:=Mt.1 hm;obtain⟨i,g4,rfl⟩:=La.1 hp;exact a0.out i g4 g4 j6
     have a2:d[k].2∈M.ids:=hi _ (NV N);have e7:=Z c4;clear c4;have s:=za d2.out Y.out (fun _ _=>id);have e9:Hid (R.ownsRow 0 148 2 u5 k (flat d1)):=s;have F:=q.out.old;rw[Mw,b0.out] at F;have e8:Hid (∀ m,Fr Nil R m->m.ownsRow 0 146 1 (.slice oa ps1.length oc) ps1.length (ptrs (ps1.map Prod.fst))):=fun m o=>za F o (fun _ _=>id);have d3:Hid (∀ W1 v3 w3,Fr Nil R W1->App W1 (.slice oa ps1.length oc) 146 1 (ps1.length+1) (ptrs (ps1.map Prod.fst)++[.pointer (some ⟨d[k].2,0,none⟩)]) v3 w3 ->
      Blk w3 S [.slice oa ps1.length oc] 168/\Twin w0 (w3.setCell ⟨S,0,none⟩ v3) S E M (ps1.map Prod.fst++[d[k].2]) ps1 v3 vm1 fV1/\Fr (fun j=>j=S\/vo1.ownBlock=some j) R (w3.setCell ⟨S,0,none⟩ v3) /\
       (∀ j,v3.ownBlock=some j->vo1.ownBlock=some j\/R.heap.size<=j)):=by
      intro W1 v3 w3 o C;rw[<- b0.out] at C |-;have hb:=(q.out.co.fr o id).fr C.fr (zf (za q.out.old o (fun _ _=>id)) (q.out.co.fr o id) (by decide));exact⟨hb,Twin.Fq q.out o (by rw[Mw];exact C) e7.out a2⟩
     clear s F;go_wp2_with fail
     go_quiet (fail)
     go_wp2_with (at_builtin;go_must (refine zL rfl _ _ _ _ rfl _ _ (by rfl) (by rfl) (zn 168 _ 146 1 8 Tryz.underlying168 ST (by decide) _ _ _ (e8.out _ z8)
      ⟨R.heap.size,0,none⟩ 1 1 [.pointer (some ⟨d[k].2,0,none⟩)] rfl (YH _ _ _ _ (by simp)) (by intro u hu;simp at hu;subst hu;rfl) (by unfold maxLen;omega) (by omega)) ?_))
     intro v3 w3 d5;obtain⟨a3,c3,j7⟩:=zd d5.own;subst j7;obtain⟨B,f7,g2,c6⟩:=d3.out _ _ _ z8 d5;have i4:=B.cell 0;have j9:=B.frozen 0;have z:=Z f7;have a7:=Z g2;have f5:=Z c6;clear g1 g0 j1 j0 i6 i8 d5 B f7 g2 c6;go_wp2_with fail;obtain⟨G,d4⟩:∃ G,w3.setCell ⟨S,0,none⟩ (.slice a3 (ps1.length+1) c3)=G:=⟨_,rfl⟩;rw[d4] at z a7 |-;have k6:=Z d4;obtain⟨fa,fc,e1⟩:=zd (HH.out.rows _ a2);have k3:=i9 _ a2;have b4:Blk G w1.heap.size [.string d[k].1,.pointer (some ⟨d[k].2,0,none⟩)] 148:=a6.out.fr a7.out (fun e=>by
      rcases e with e|e
      .exact a6.out.ne q.out.co (by decide) e
      .exact zf q.out.old a6.out (by decide) e)
     have B:Blk G d[k].2 [.slice fa (M.file d[k].2).bytes.length fc,.int .i64 (M.file d[k].2).safe] 152:=by
      have:=(HH.out.files _ a2).fr z.out.fr id;rw[e1] at this;exact this
     have Q:Blk G E [.slice ma ps1.length mc] 168:=by
      have:=z.out.cm;rw[a1.out] at this;exact this
     have a5:G.ownsRow 0 5 1 (.slice fa (M.file d[k].2).bytes.length fc) (M.file d[k].2).bytes.length (u8s (M.file d[k].2).bytes):=by
      have:=za (HH.out.rows _ a2) z.out.fr (fun _ _=>id);rw[e1] at this;exact this
     have t:G.ownsRow 0 146 1 (.slice ma ps1.length mc) ps1.length (ptrs (ps1.map Prod.snd)):=by
      have:=z.out.made;rw[a1.out] at this;exact this
     have f1:Hid (∀ m,Fr Nil G m->m.ownsRow 0 5 1 (.slice fa (M.file d[k].2).bytes.length fc) (M.file d[k].2).bytes.length (u8s (M.file d[k].2).bytes)):=fun m o=>za a5 o (fun _ _=>id);have d0:Hid (∀ m,Fr Nil G m->m.ownsRow 0 146 1 (.slice ma ps1.length mc) ps1.length (ptrs (ps1.map Prod.snd))):=fun m o=>za t o (fun _ _=>id);have c7:Hid (∀ m,Fr Nil G m->(∀ i,m.cell? ⟨w1.heap.size,i,none⟩=[.string d[k].1,.pointer (some ⟨d[k].2,0,none⟩)][i]?) /\
      (∀ i,m.cell? ⟨d[k].2,i,none⟩=[.slice fa (M.file d[k].2).bytes.length fc,.int .i64 (M.file d[k].2).safe][i]?)/\(∀ i,m.cell? ⟨E,i,none⟩=[.slice ma ps1.length mc][i]?)/\E<m.heap.size) :=
      fun m o=>⟨(b4.fr o id).cell,(B.fr o id).cell,(Q.fr o id).cell,(Q.fr o id).lt⟩
     have h8:Hid (∀ W1 g v9 w9,Fr Nil G W1->App W1 (.slice ma ps1.length mc) 146 1 (ps1.length+1) (ptrs (ps1.map Prod.snd)++[.pointer (some ⟨g,0,none⟩)]) v9 w9->Blk w9 E [.slice ma ps1.length mc] 168) :=
      fun W1 g v9 w9 o C=>(Q.fr o id).fr C.fr (zf (za t o (fun _ _=>id)) (Q.fr o id) (by decide))
     have g7:=b4.cell;have g5:=B.cell;have h3:=Q.cell;have h5:=Z b4;have k5:=Z B;clear i4 j9 d4 b4 B Q a5 t e1
     go_cut [8] (fun ci wx=>ci=.int .i64 ps1.length/\∃ nf v9 f6,Twin w0 wx S E M ((ps1++[(d[k].2,nf)]).map Prod.fst) (ps1++[(d[k].2,nf)]) (.slice a3 (ps1.length+1) c3) v9 f6/\Fr (fun j=>j=E\/vm1.ownBlock=some j) G wx/\(∀ j,v9.ownBlock=some j->vm1.ownBlock=some j\/G.heap.size<=j))
     case first =>
      go_region_law
       (first
       | (refine Zi (by rfl) _ _ _ _ (by rfl) _ _ (by rfl) (by rfl) (Xh 150 _ 5 1 1 MW Xf (by decide) (.slice none 0 0) 0 [] (Mo _ 0 _ _) _ (M.file d[k].2).bytes.length (u8s (M.file d[k].2).bytes) (f1.out _ z8)
           (by intro x hx;simp[u8s] at hx;obtain⟨c,_,rfl⟩:=hx;rfl) (by unfold maxLen;omega) (by omega)) ?_;intro v8 w8 b1;obtain⟨a8,c8,j8⟩:=zd b1.own;subst j8
          have e0:Fr Nil G w8:=Fr.trans z8 (b1.fr.mono (fun _ _ h=>by simp[Value.ownBlock] at h));obtain⟨g8,g6,h4,g9⟩:=c7.out _ e0;have e4:=Z b1;clear b1)
       | (refine Zi (by rfl) _ _ _ _ (by rfl) _ _ (by rfl) (by rfl) (zn 168 _ 146 1 8 Tryz.underlying168 ST (by decide) _ _ _ (d0.out _ z8)
           ⟨w8.heap.size+1,0,none⟩ 1 1 [.pointer (some ⟨w8.heap.size,0,none⟩)] rfl (YH _ _ _ _ (by simp)) (by intro u hu;simp at hu;subst hu;rfl) (by unfold maxLen;omega) (by omega)) ?_;intro v9 w9 b2;obtain⟨a9,c9,b9⟩:=zd b2.own;subst b9
          have d8:=h8.out _ _ _ _ z8 b2;have i5:=d8.cell 0;have k0:=d8.frozen 0;have e5:=Z b2;clear b2 d8))
      all_goals
       (have f8:=Twin.born z.out e0 e4.out (by rw[a1.out];exact e5.out)
        have i3:=Z f8;clear f8 i5 k0 g8 g6 h4 g9 e5 e4 e0 g7 g5 h3;go_wp2_with fail
        go_meet
        exact⟨rfl,_,_,_,i3.out⟩)
     case rest =>
      obtain⟨rfl,nf,v9,f6,r,b6,c5⟩:=hcut;obtain⟨W4,rfl⟩:∃ x,x=wc:=⟨wc,rfl⟩;obtain⟨a9,c9,b9⟩:=zd r.made;simp only[NQ,Mh,ME] at b9;subst b9;have y:=OJ q.out z.out e9.out a7.out b6;have b5:=OK z.out h5.out b6;have k1:=b5.cell;have k2:=r.cm.cell;obtain⟨V,e2⟩:∃ g,a9=some ⟨g,0,none⟩:=by
       obtain⟨g,c',I,_⟩:=zq r.made (by simp);simp at I;exact⟨g,I.1⟩
      subst e2;have c2:W4.cell? ⟨V,ps1.length,none⟩=some (.pointer (some ⟨nf,0,none⟩)):=by
       have:=r.made;simp only[NQ,Mh,ME] at this;exact own_cell? this ps1.length _ (by simp[ptrs])
      have l0:(ps1.length:Int)<(ps1.length:Int)+1:=by omega
      have c1:Hid (∀ m,Fr Nil W4 m->m.ownsRow 0 148 2 u5 k (flat d1)):=fun m o=>za y o (fun _ _=>id);have h9:Hid (∀ m,Fr Nil W4 m->m.cell? ⟨w1.heap.size,0,none⟩=some (.string d[k].1)/\m.cell? ⟨E,0,none⟩=some (.slice (some ⟨V,0,none⟩) (ps1.length+1) c9)/\m.cell? ⟨V,ps1.length,none⟩=some (.pointer (some ⟨nf,0,none⟩))) :=
       fun m o=>⟨(b5.fr o id).cell 0,(r.cm.fr o id).cell 0,((o.cell (p:=⟨V,ps1.length,none⟩) (Z2 r.made rfl) id).trans c2)⟩
      have i0:Hid (∀ m xs v' D,Fr Nil W4 m->App m u5 148 2 (k+1) xs v' D->D.cell? ⟨w1.heap.size,0,none⟩=some (.string d[k].1)/\D.cell? ⟨E,0,none⟩=some (.slice (some ⟨V,0,none⟩) (ps1.length+1) c9)/\D.cell? ⟨V,ps1.length,none⟩=some (.pointer (some ⟨nf,0,none⟩))) :=
       fun m xs v' D o C=>⟨((b5.fr o id).fr C.fr (fun e=>absurd (Z2 d2.out e) (by omega))).cell 0,((r.cm.fr o id).fr C.fr (zf (za y o (fun _ _=>id)) (r.cm.fr o id) (by decide))).cell 0,
        ((C.fr.cell (p:=⟨V,ps1.length,none⟩) (Lb (Z2 r.made rfl) o.size) (fun e=>zN (za y o (fun _ _=>id)) (za r.made o (fun _ _=>id)) (by decide) e rfl)).trans ((o.cell (p:=⟨V,ps1.length,none⟩) (Z2 r.made rfl) id).trans c2))⟩
      have i2:=Z r;have h7:=Z b6;have f3:=Z c5;clear r b6 c5 y b5 g7 g5 h3;go_wp2_with fail
      go_region_held3 (fun D=>D.cell? ⟨w1.heap.size,0,none⟩=some (.string d[k].1)/\D.cell? ⟨E,0,none⟩=some (.slice (some ⟨V,0,none⟩) (ps1.length+1) c9)/\D.cell? ⟨V,ps1.length,none⟩=some (.pointer (some ⟨nf,0,none⟩))) (first|assumption|exact h9.out _ z8)
       (first
       | (refine Zi (by rfl) _ _ _ _ (by rfl) _ _ (by rfl) (by rfl) (zn 140 _ 148 2 24 KZ YW (by decide) _ _ _ (c1.out _ z8)
        ⟨W4.heap.size,0,none⟩ 1 1 [.string d[k].1,.pointer (some ⟨nf,0,none⟩)] rfl (WA _ _ _ _ _ (by simp)) (by intro u hu;simp at hu;rcases hu with rfl|rfl <;> rfl) (by unfold maxLen;omega) (by omega)) ?_;intro v4 w4 C;have k8:=i0.out _ _ _ _ z8 C;have HA:=Z C;clear C))
      go_wp2
      refine⟨⟨k+1,by omega,by go_num,?_⟩,by simp[intOf];omega⟩;exact Zt.Fh N HT.out.fr X.out HS.out hpl e6.out f0.out f4.out f2.out Y.out a7.out f5.out i2.out h7.out f3.out (c1.out _ (O _ _)) z8 HA.out
  .go_wp2
   go_ret;have j2:k=d.length:=by omega
   subst j2;exact⟨_,rfl,X.out⟩
end Go.Proofs.YtkhnggkkiefcdaaGreatDoor
