/- larder: joined texts -/
import Derived.Test.YtkhnggkkiefcdaaGreatDoorSFAP
import Derived.Test.YtkhnggkkiefcdaaGreatDoorSFAQ
namespace Go.Proofs.YtkhnggkkiefcdaaGreatDoor
open Go.RowKit
set_option maxRecDepth 100000
set_option maxHeartbeats 8000000
set_option maxRecDepth 100000 in
theorem MZ(t:Int)(l:List Int)(tv:Value)(w:World)(b:Nat)(L:DL)(M:DM)(h:DRep w b L M)(f9:-9223372036854775808<=t)(g0:t<=9223372036854775807)
 (ht:Ya w tv l)(f0:∀ k,l≠[]->tv.ownBlock=some k->¬Foot b L M k)(f1:∀ x,x∈l->-9223372036854775808<=x/\x<=9223372036854775807)
 (g2:∀ f,f∈M.ids->(M.file f).bytes.length<=1000000000000)(hn:M.Bj.length+1<=1000000000000)(hm:∀ d,d∈M.safe::M.Bj->d.length<=1000000000000)
 (kk:Nat)(b2:kk<M.Bj.length)(c4:Z8 t M.Bj.length=kk+1) :
 Calls Tryz.prog 33 #[.pointer (some ⟨b,0,none⟩),.int .i64 t,tv] w fun e w' =>
  e=.returned (.tuple #[])/\∃ L',DStep b L M w L' (M.BT t l) w':=by
 have hc:=h.CY.cell;have i7:=h.CY.frozen;simp only[DM.cells] at hc;obtain⟨cg,h7,S,_,_⟩:=zm h.ch (by omega);have d6:=h.Ag;have b3:kk<L.BB.length:=by omega
 obtain⟨d,hd⟩:∃ d,d=M.Bj[kk]:=⟨_,rfl⟩;obtain⟨V,a8⟩:∃ V,V=L.BB[kk]:=⟨_,rfl⟩;have hV:=h.Bj kk b3 b2;rw[<- hd,<- a8] at hV;have R:∀ e,e∈d->e.2∈M.ids:=by rw[hd];exact h.AD _ (IX b2)
 have d3:∀ k,V.ownBlock=some k->Foot b L M k:=by rw[a8];exact fun k hk=>.Bj kk b3 hk
 have f8:w.cell? ⟨cg,kk,none⟩=some V:=own_cell? (by rw[<- S];exact h.ch) kk V (by rw[a8];exact IW b3);have i5:cg≠b:=by
  intro e;refine zd h.ch h.CY (by decide) ?_;rw[S,<- e]
  rfl
 have g3:d.length<=1000000000000:=by rw[hd];exact hm _ (Hb _ (IX b2))
 have d7:M.BM t=d:=by simp[DM.BM,c4,hd,b2]
 obtain⟨j5,h6,c6⟩:=zc h.safe;obtain⟨sa,h8,c7⟩:=zc hV;obtain⟨ta,tc,c8⟩:∃ a c,tv=.slice a l.length c:=by
  rcases ht with⟨⟨_,_,rfl⟩,rfl⟩|⟨g,a4,a7,rfl,_⟩
  .exact⟨_,_,rfl⟩
  .exact⟨_,_,rfl⟩
 have e9:Blk ((w.setCell ⟨b,0,none⟩ L.Bx).setCell ⟨b,0,none⟩ V) b (({M with dir:=d}:DM).cells {L with BE:=V}) 143:=(h.CY.set 0 L.Bx).set 0 V;have e8:=h.yw hV R e9 za;rw[S,c6] at hc;have HH:=Z h;have c9:=Z e8;have f2:=Z S;have b8:=Z c7;have d0:=Z c6;have HT:=Z ht;have f7:=Z c8;have f3:=Z d7;have hp:=YV t M.Bj.length w f9 g0 (by omega);rw[c4] at hp;have HP:=Z hp;have g9:l.length<=maxLen:=by
  rcases ht with⟨_,rfl⟩|⟨_,_,_,_,_,h,_⟩
  .simp
  .exact h
 unfold maxLen at g9;have i3:=Z R;have d1:=Z d3;rw[c7] at f8;clear h e8 S c7 c6 ht e9 d7 hp c4 hd a8 hV R d3 d6 b3 hm;rw[c8];clear c8;go_enter Tryz.func33,Tryz.ntmps33
 go_wp2_with (go_at_call 85;refine HP.out.mono ?_;rintro e wx ⟨rfl,j4⟩;subst wx)
 have HL:=Z (Wm _ b _ _ c9.out g3);rw[<- b8.out,<- d0.out];refine HL.out.mono ?_;rintro e w1 ⟨nv,rfl,b4,b0,b6⟩;obtain⟨na,nc,b7⟩:=zc b4;have e7:=zH b4;unfold maxLen at e7;have d5:ZE ((w.setCell ⟨b,0,none⟩ L.Bx).setCell ⟨b,0,none⟩ V) b {L with BE:=V} {M with dir:=d} l nv 0 w1 :=
  ⟨⟨_,c9.out.fr b0 (fun _ _=>id),rfl,rfl,rfl,rfl,fun k hk=>hk⟩,b0.mono (fun _ _=>False.elim),b4⟩
 have i1:=Z b7;have i2:=Z b6;have h9:=Z b0;clear b4 b0 b6 hc;subst b7;go_wp2_with fail
 go_loopw [44] (fun c w'=>∃ i:Nat,i<=d.length/\c=.int .i64 i/\ZE ((w.setCell ⟨b,0,none⟩ L.Bx).setCell ⟨b,0,none⟩ V) b {L with BE:=V} {M with dir:=d} l (.slice na d.length nc) i w') (fun c _=>d.length-(intOf c).toNat)
 case atStart=>exact⟨0,Hg _,rfl,d5⟩
 case round =>
  obtain⟨i,hi,rfl,d4⟩:=hrel;have y:=Z d4;clear d4 d5;by_cases i8:i<d.length
  .have hnl:d.names.length=d.length:=WI _
   obtain⟨ng,g4⟩:∃ g,na=some ⟨g,0,none⟩:=by
    obtain⟨g,c',h',_⟩:=zm y.out.names (by show 0<d.length;omega);simp at h';exact⟨g,h'.1⟩
   subst g4;have C:i<d.names.length:=by omega
   have i9:=own_cell? y.out.names i (.string d.names[i]) (by simp[strs,C]);obtain⟨k,hk,c3,e5⟩:=UR d d.names[i] (IX C);obtain⟨Li,z,e1,e2,e3,e4,a0⟩:=y.out.CZ;have T:=z.CY.cell 0;have G:=z.dir;rw[e1] at G;obtain⟨dg,b5,a9,_,g1⟩:=zm G (by show 0<d.length;omega);simp only at a9;have Y:Li.BE=.slice (some ⟨dg,0,none⟩) d.length b5:=e1.trans a9;simp only[DM.cells,Y] at T;simp at T;have j1:=own_cell? (by rw[<- a9];exact G) _ _ (Yj d k hk).2;have B:=Z z;have f5:=Z c3;have f4:=Z Y;have a6:=Z e5;have a5:=Z (⟨e1,e2,e3,e4,a0⟩:Li.BE=_/\Li.Bx=_/\Li.Aj=_/\Li.BB=_/\_);unfold maxLen at g1;clear z c3 e1 e2 e3 e4 G a0 a9 Y e5;go_wp2_with fail
   go_region_held3 (fun w'=>w'.cell? ⟨b,0,none⟩=some (.slice (some ⟨dg,0,none⟩) d.length b5)/\w'.cell? ⟨dg,k*2+1,none⟩=some (.pointer (some ⟨d[k].2,0,none⟩))) (first|go_keep|exact⟨‹_›,‹_›⟩)
    (first|(go_at_call 87;refine(Rz f5.out hk _ wr b _ _ rfl f4.out B.out (Fr.drew (O _ _))).mono ?_;rintro e w5 ⟨rfl,i4,j0,I⟩))
   have h5:=B.out.fr I (fun _ _=>id);have o:d[k].2∈M.ids:=B.out.BQ _ (IX hk);have d8:(zn d l M.file i d[k].2).bytes.length<=1000000000000:=IP (V7 _ _ _ _ _) (g2 _ o);have a1:=h5.le _ o;have c1:=(h5.files _ o).cell;have i6:=(h5.files _ o).frozen;obtain⟨fa,fc,b1⟩:=zc (h5.rows _ o);rw[b1] at c1;simp only at a1 c1 b1;have d2:Ya w5 tv l:=by
    have d9:Fr (fun k=>k=b\/Foot b L M k) w w5:=by
     refine Fr.trans' (Fr.set (Fr.set (O _ w) (p:=⟨b,0,none⟩) (fun _=>.inl rfl) L.Bx) (p:=⟨b,0,none⟩) (fun _=>.inl rfl) V) (y.out.fr.trans (I.mono (fun _ _=>False.elim))) ?_;intro j _ E;refine .inr ?_;cases E using Foot.elim with
     | blk=>exact .CY
     | dir e=>exact d1.out _ e
     | safe e=>exact .safe e
     | ch e=>exact .ch e
     | chs i s e=>exact .Bj i s e
     | file e=>exact .file e
     | row f hf e=>exact .row f hf e
    refine HT.out.fr d9 ?_;intro j e6 E hb;rcases hb with rfl|hb
    .exact f0 _ e6 E .CY
    .exact f0 j e6 E hb
   have r:=Z b1;have H5:=Z h5;have f6:=Z d2;have i0:=Z a1;clear h5 b1 d2;generalize hF:zn d l M.file i d[k].2=F at c1 a1 d8;have A:=Z hF;clear hF;by_cases J:i<l.length
   .obtain⟨tg,toff,tcap,htv',htc⟩:∃ g a4 a7,tv=.slice (some ⟨g,a4,none⟩) l.length a7/\w5.cell? ⟨g,a4+i,none⟩=some (.int .i64 l[i]):=by
     rcases f6.out with⟨_,h0⟩|⟨g,a4,a7,hv,_,_,c0⟩
     .subst h0;simp at J
     .exact⟨g,a4,a7,hv,c0 i J⟩
    have g8:ta=some ⟨tg,toff,none⟩:=by have:=f7.out.symm.trans htv';simp at this;exact this.1
    subst g8;have e0:l.getD i 0=l[i]:=by simp[List.getD,J]
    have HG:=Z e0;have j2:=(f1 l[i] (IX J)).1;have j3:=(f1 l[i] (IX J)).2;clear e0;generalize l[i]=tx at *;obtain⟨D,X⟩:∃ D:Nat,D=F.bytes.length-F.safe:=⟨_,rfl⟩;have u:∀ wx:World,Calls Tryz.prog 85 #[.int .i64 tx,.int .i64 D] wx fun e w'=>e=.returned (.int .i64 (Z8 tx D))/\w'=wx :=
     fun wx=>YV _ _ wx (by omega) (by omega) (by omega)
    have q:=Z u;have a3:=YN tx D;clear u;generalize hP:Z8 tx D=pn at a3 q;have Q:=Z hP;clear hP;obtain⟨m,a2⟩:∃ m:Nat,m=F.safe+pn:=⟨_,rfl⟩;have h3:IntKind.i64.wrap ((F.bytes.length:Int)-(F.safe:Int))=(D:Int):=by simp (disch:=omega) only[Ea];omega
    have h4:IntKind.i64.wrap ((F.safe:Int)+(pn:Int))=(m:Int):=by simp (disch:=omega) only[Ea];omega
    have K:=Z X;have N:=Z a2;have c5:m<=F.bytes.length:=by omega
    have c0:F.bytes.length<=fc:=by
     rcases (H5.out.rows _ o).2 with⟨s,h2⟩|⟨_,_,_,s,_,_,h2,_⟩
     .simp only[A.out] at h2;omega
     .rw[r.out] at s;simp only[A.out] at s h2;simp at s;omega
    have g6:(0:Int)<=(m:Int):=by omega
    have g7:(m:Int)<=(fc:Int):=by omega
    clear X a2 a3;by_cases c2:fc=0
    .have hm0:m=0:=by omega
     go_wp2_with fail;refine GK 26 (by kernel_rfl) (by kernel_rfl) ?_;simp only[Gp,GZ,GH,GU]
     iterate 21 still_step
     still_call (q.out _)
     iterate 4 still_step
     refine FV ?_
     go_wp2
     obtain rfl:m=0:=hm0;refine⟨⟨i+1,by omega,by go_num,?_⟩,by simp[intOf];omega⟩;refine ZE.step (v:=.slice fa 0 0) (m:=0) y.out B.out a5.out I C a6.out o ?_ ?_ ?_
     .show 0=(zn d l M.file i d[k].2).safe+Z8 (l.getD i 0) ((zn d l M.file i d[k].2).bytes.length-(zn d l M.file i d[k].2).safe)
      rw[A.out,HG.out,<- K.out,Q.out];exact N.out
     .have hr:=H5.out.rows _ o
      simp only[A.out] at hr;rw[r.out] at hr;simp only[A.out] at hr;have hz:F.bytes.length=0:=by omega
      rw[hz,c2] at hr;have b9:F.bytes=[]:=Hm hz;show w5.ownsRow 0 5 1 (.slice fa 0 0) 0 (u8s ((zn d l M.file i d[k].2).bytes.take 0));rw[b9] at hr
      simpa using hr
     .intro j E
      rw[r.out];cases fa with
      | none=>exact E
      | some a=>exact E
    .obtain⟨gb,hgb⟩:∃ gb,fa=some ⟨gb,0,none⟩:=by
      rcases (H5.out.rows _ o).2 with⟨s,_⟩|⟨g,_,_,s,_⟩
      .rw[r.out] at s;simp at s;omega
      .rw[r.out] at s;simp at s;exact⟨g,s.1⟩
     subst hgb;go_wp2_with fail;refine GK 26 (by kernel_rfl) (by kernel_rfl) ?_;simp only[Gp,GZ,GH,GU]
     iterate 21 still_step
     still_call (q.out _)
     iterate 4 still_step
     refine FV ?_
     go_wp2
     refine⟨⟨i+1,by omega,by go_num,?_⟩,by simp[intOf];omega⟩;refine ZE.step (v:=.slice (some ⟨gb,0,none⟩) m fc) (m:=m) y.out B.out a5.out I C a6.out o ?_ ?_ ?_
     .show m=(zn d l M.file i d[k].2).safe+Z8 (l.getD i 0) ((zn d l M.file i d[k].2).bytes.length-(zn d l M.file i d[k].2).safe)
      rw[A.out,HG.out,<- K.out,Q.out];exact N.out
     .have hr:=H5.out.rows _ o
      simp only[A.out] at hr;rw[r.out] at hr;simp only[A.out] at hr;show w5.ownsRow 0 5 1 (.slice (some ⟨gb,0,none⟩) m fc) m (u8s ((zn d l M.file i d[k].2).bytes.take m));rw[A.out];have:=VE hr c5;rw[show u8s (F.bytes.take m)=(u8s F.bytes).take m by simp[u8s]];exact this
     .intro j E
      rw[r.out];exact E
   .have HG:Hid (l.getD i 0=0):=by simp[Hid,List.getD,J]
    obtain⟨D,X⟩:∃ D:Nat,D=F.bytes.length-F.safe:=⟨_,rfl⟩;have u:∀ wx:World,Calls Tryz.prog 85 #[.int .i64 0,.int .i64 D] wx fun e w'=>e=.returned (.int .i64 (Z8 0 D))/\w'=wx :=
     fun wx=>YV _ _ wx (by omega) (by omega) (by omega)
    have q:=Z u;have a3:=YN 0 D;clear u;generalize hP:Z8 0 D=pn at a3 q;have Q:=Z hP;clear hP;obtain⟨m,a2⟩:∃ m:Nat,m=F.safe+pn:=⟨_,rfl⟩;have h3:IntKind.i64.wrap ((F.bytes.length:Int)-(F.safe:Int))=(D:Int):=by simp (disch:=omega) only[Ea];omega
    have h4:IntKind.i64.wrap ((F.safe:Int)+(pn:Int))=(m:Int):=by simp (disch:=omega) only[Ea];omega
    have K:=Z X;have N:=Z a2;have c5:m<=F.bytes.length:=by omega
    have c0:F.bytes.length<=fc:=by
     rcases (H5.out.rows _ o).2 with⟨s,h2⟩|⟨_,_,_,s,_,_,h2,_⟩
     .simp only[A.out] at h2;omega
     .rw[r.out] at s;simp only[A.out] at s h2;simp at s;omega
    have g6:(0:Int)<=(m:Int):=by omega
    have g7:(m:Int)<=(fc:Int):=by omega
    clear X a2 a3;by_cases c2:fc=0
    .have hm0:m=0:=by omega
     go_wp2_with fail;refine GK 26 (by kernel_rfl) (by kernel_rfl) ?_;simp only[Gp,GZ,GH,GU]
     iterate 21 still_step
     still_call (q.out _)
     iterate 4 still_step
     refine FV ?_
     go_wp2
     obtain rfl:m=0:=hm0;refine⟨⟨i+1,by omega,by go_num,?_⟩,by simp[intOf];omega⟩;refine ZE.step (v:=.slice fa 0 0) (m:=0) y.out B.out a5.out I C a6.out o ?_ ?_ ?_
     .show 0=(zn d l M.file i d[k].2).safe+Z8 (l.getD i 0) ((zn d l M.file i d[k].2).bytes.length-(zn d l M.file i d[k].2).safe)
      rw[A.out,HG.out,<- K.out,Q.out];exact N.out
     .have hr:=H5.out.rows _ o
      simp only[A.out] at hr;rw[r.out] at hr;simp only[A.out] at hr;have hz:F.bytes.length=0:=by omega
      rw[hz,c2] at hr;have b9:F.bytes=[]:=Hm hz;show w5.ownsRow 0 5 1 (.slice fa 0 0) 0 (u8s ((zn d l M.file i d[k].2).bytes.take 0));rw[b9] at hr
      simpa using hr
     .intro j E
      rw[r.out];cases fa with
      | none=>exact E
      | some a=>exact E
    .obtain⟨gb,hgb⟩:∃ gb,fa=some ⟨gb,0,none⟩:=by
      rcases (H5.out.rows _ o).2 with⟨s,_⟩|⟨g,_,_,s,_⟩
      .rw[r.out] at s;simp at s;omega
      .rw[r.out] at s;simp at s;exact⟨g,s.1⟩
     subst hgb;go_wp2_with fail;refine GK 26 (by kernel_rfl) (by kernel_rfl) ?_;simp only[Gp,GZ,GH,GU]
     iterate 21 still_step
     still_call (q.out _)
     iterate 4 still_step
     refine FV ?_
     go_wp2
     refine⟨⟨i+1,by omega,by go_num,?_⟩,by simp[intOf];omega⟩;refine ZE.step (v:=.slice (some ⟨gb,0,none⟩) m fc) (m:=m) y.out B.out a5.out I C a6.out o ?_ ?_ ?_
     .show m=(zn d l M.file i d[k].2).safe+Z8 (l.getD i 0) ((zn d l M.file i d[k].2).bytes.length-(zn d l M.file i d[k].2).safe)
      rw[A.out,HG.out,<- K.out,Q.out];exact N.out
     .have hr:=H5.out.rows _ o
      simp only[A.out] at hr;rw[r.out] at hr;simp only[A.out] at hr;show w5.ownsRow 0 5 1 (.slice (some ⟨gb,0,none⟩) m fc) m (u8s ((zn d l M.file i d[k].2).bytes.take m));rw[A.out];have:=VE hr c5;rw[show u8s (F.bytes.take m)=(u8s F.bytes).take m by simp[u8s]];exact this
     .intro j E
      rw[r.out];exact E
  .have C:i=d.length:=by omega
   subst C;obtain⟨Li,z,e1,e2,e3,e4,a0⟩:=y.out.CZ;have T:=z.CY.cell;have c3:=z.CY.frozen;simp only[DM.cells,e1,e2,e3] at T;simp only[b8.out,f2.out,d0.out] at T;have g5:=z;have B:=Z z;have HE:=Z (⟨e1,e2,e3,e4,a0⟩:_/\_/\_/\_/\_);clear z e1 e2 e3 e4 a0 g5
   go_wp2
   go_end0
   refine⟨rfl,?_⟩;rw[<- b8.out];refine RA f3.out y.out za ?_;intro k hk;cases hk using Foot.elim with
   | blk=>exact .CY
   | dir e=>exact d1.out _ e
   | safe e=>exact .safe e
   | ch e=>exact .ch e
   | chs i s e=>exact .Bj i s e
   | file e=>exact .file e
   | row f hf e=>exact .row f hf e
theorem Nl(c:Int)(a:List Int)(o:Value)(w:World)(b:Nat)(L:DL)(M:DM)(h:DRep w b L M)(g:-9223372036854775808<=c)(i:c<=9223372036854775807)
 (q:Ya w o a)(l:∀ k,a≠[]->o.ownBlock=some k->¬Foot b L M k)(m:∀ x,x∈a->-9223372036854775808<=x/\x<=9223372036854775807)
 (j:∀ f,f∈M.ids->(M.file f).bytes.length<=1000000000000)(p:M.Bj.length+1<=1000000000000)(hm:∀ d,d∈M.safe::M.Bj->d.length<=1000000000000) :
 Calls Tryz.prog 33 #[.pointer (some ⟨b,0,none⟩),.int .i64 c,o] w fun e s =>
  e=.returned (.tuple #[])/\∃ L',DStep b L M w L' (M.BT c a) s:=by
 have t:=YN c M.Bj.length;cases hk:Z8 c M.Bj.length with
 | zero=>exact MY c a o w b L M h g i q l m j p hm hk
 | succ r=>exact MZ c a o w b L M h g i q l m j p hm r (by omega) hk
theorem PU:((Tryz.prog.info? 146).map fun i=>(i.zero.map (·.cells.size),i.size,i.bytes))=some (some 1,1,8):=by kernel_rfl
def ptrs(l:List Nat):List Value:=l.map fun k=>.pointer (some ⟨k,0,none⟩)
structure Twin(w0 w:World)(bo bm:Nat)(M:DM)(os:List Nat)(ps:List (Nat × Nat))(vo vm:Value)(fV:Nat->Value):Prop where
 co:Blk w bo [vo] 168
 cm:Blk w bm [vm] 168
 ne:bo≠bm
 old:w.ownsRow 0 146 1 vo os.length (ptrs os)
 made:w.ownsRow 0 146 1 vm ps.length (ptrs (ps.map Prod.snd))
 AZ:∀ k,vo.ownBlock=some k->vm.ownBlock≠some k
 files:∀ p,p∈ps->Blk w p.2 [fV p.2,.int .i64 (M.file p.1).safe] 152
 rows:∀ p,p∈ps->w.ownsRow 0 5 1 (fV p.2) (M.file p.1).bytes.length (u8s (M.file p.1).bytes)
 sep:∀ p,p∈ps->∀ q,q∈ps->p.2≠q.2->∀ k,(fV p.2).ownBlock=some k->(fV q.2).ownBlock≠some k
 n1:os.Nodup
 n2:(ps.map Prod.snd).Nodup
 ids:∀ f,f∈os->f∈M.ids
 nbo:w0.heap.size<=bo
 nbm:w0.heap.size<=bm
 no:∀ k,vo.ownBlock=some k->w0.heap.size<=k
 nm:∀ k,vm.ownBlock=some k->w0.heap.size<=k
 nf:∀ p,p∈ps->w0.heap.size<=p.2
 nr:∀ p,p∈ps->∀ k,(fV p.2).ownBlock=some k->w0.heap.size<=k
 fr:Fr Nil w0 w
theorem Twin.Bt{l w k:World}{d c:Nat}{M:DM}{g:List Nat}{i:List (Nat × Nat)}{j vm:Value}{e:Nat->Value}(h:Twin l w d c M g i j vm e)(f:Fr Nil w k) :
 Twin l k d c M g i j vm e :=
 {h with
  co:=h.co.fr f id
  cm:=h.cm.fr f id
  old:=zb h.old f (fun _ _=>id)
  made:=zb h.made f (fun _ _=>id)
  files:=fun p b=>(h.files p b).fr f id
  rows:=fun p b=>zb (h.rows p b) f (fun _ _=>id)
  fr:=h.fr.trans f}
theorem Twin.yx{D w z o:World}{j E:Nat}{M:DM}{s:List Nat}{I:List (Nat × Nat)}{m vm c:Value}{F:Nat->Value}(h:Twin D w j E M s I m vm F)(A:Fr Nil w z){f:Nat}
 (u:App z m 146 1 (s.length+1) (ptrs s++[.pointer (some ⟨f,0,none⟩)]) c o)(J:f∉s)(K:f∈M.ids) :
 Twin D (o.setCell ⟨j,0,none⟩ c) j E M (s++[f]) I c vm F/\Fr (fun k=>k=j\/m.ownBlock=some k) w (o.setCell ⟨j,0,none⟩ c) /\
  (∀ k,c.ownBlock=some k->m.ownBlock=some k\/w.heap.size<=k):=by
 have d:=h.Bt A;have L:=A.size;have q:∀ k,c.ownBlock=some k->m.ownBlock=some k\/z.heap.size<=k:=by
  intro k i;rcases u.at_ with e|e
  .exact .inl (by rw[<- e];exact i)
  .rw[e] at i;simp at i;exact .inr (by omega)
 have v:Blk o j [m] 168:=d.co.fr u.fr (zd d.old d.co (by decide));have y:Fr (fun k=>k=j) o (o.setCell ⟨j,0,none⟩ c):=Fr.set (S:=fun k=>k=j) (p:=⟨j,0,none⟩) (O _ _) (fun _=>rfl) c;have l:Fr (fun k=>k=j\/m.ownBlock=some k) z (o.setCell ⟨j,0,none⟩ c) :=
  (u.fr.mono (fun _ _=>.inr)).trans (y.mono (fun _ _=>.inl))
 have x:Fr (fun k=>k=j\/m.ownBlock=some k) w (o.setCell ⟨j,0,none⟩ c):=(A.mono (fun _ _=>False.elim)).trans l;have C:∀ k,c.ownBlock=some k->D.heap.size<=k:=by
  intro k i;rcases q k i with e|e
  .exact h.no k e
  .have:=d.fr.size;omega
 refine⟨?_,x,fun k i=>(q k i).imp id (fun e=>by omega)⟩;refine {h with
  co:=v.set 0 c
  cm:=d.cm.fr l (fun e=>?_)
  old:=?_
  made:=zb d.made l (fun k i e=>?_)
  AZ:=fun k i e=>?_
  files:=fun p r=>(d.files p r).fr l (fun e=>?_)
  rows:=fun p r=>zb (d.rows p r) l (fun k i e=>?_)
  n1:=?_
  ids:=?_
  no:=C
  fr:=Fr.trans' h.fr x (fun k i e=>?_)}
 .rcases e with e|e
  .exact h.ne e.symm
  .exact zd d.old d.cm (by decide) e
 .have e:ptrs (s++[f])=ptrs s++[.pointer (some ⟨f,0,none⟩)]:=by simp[ptrs]
  rw[e,IM];exact zb u.own y (fun k i e=>by subst e;exact zd u.own v (by decide) i)
 .rcases e with e|e
  .subst e;exact zd d.made d.co (by decide) i
  .exact h.AZ k e i
 .rcases q k i with e'|e'
  .exact h.AZ k e' e
  .have:=zC d.made e;omega
 .rcases e with e|e
  .exact(d.files p r).ne d.co (by decide) e
  .exact zd d.old (d.files p r) (by decide) e
 .rcases e with e|e
  .subst e;exact zd (d.rows p r) d.co (by decide) i
  .exact Zc d.old (d.rows p r) (by decide) e i
 .rw[FO]
  refine⟨h.n1,by simp,?_⟩;intro a B b G;simp at G;subst G;intro e;subst e;exact J B
 .intro g t
  rcases Hh.1 t with t|t
  .exact h.ids g t
  .simp at t;subst t;exact K
 .rcases e with e|e
  .have:=h.nbo;omega
  .have:=h.no k e;omega
theorem Twin.yi{X w y t:World}{bo m:Nat}{M:DM}{os:List Nat}{x:List (Nat × Nat)}{vo vm j v8:Value}{N:Nat->Value}(h:Twin X w bo m M os x vo vm N)(L:Fr Nil w y){f u:Nat}
 (J:y.ownsRow 0 5 1 v8 (M.file f).bytes.length (u8s (M.file f).bytes))(A:∀ k,v8.ownBlock=some k->w.heap.size<=k)
 (T:Blk y u [v8,.int .i64 (M.file f).safe] 152)(a0:w.heap.size<=u)
 (B:App y vm 146 1 (x.length+1) (ptrs (x.map Prod.snd)++[.pointer (some ⟨u,0,none⟩)]) j t) :
 Twin X (t.setCell ⟨m,0,none⟩ j) bo m M os (x++[(f,u)]) vo j (fun g=>if g=u then v8 else N g)/\Fr (fun k=>k=m\/vm.ownBlock=some k) w (t.setCell ⟨m,0,none⟩ j) /\
  (∀ k,j.ownBlock=some k->vm.ownBlock=some k\/w.heap.size<=k):=by
 have o:=h.Bt L;have a2:=L.size;have a1:=h.fr.size;have z:∀ k,j.ownBlock=some k->vm.ownBlock=some k\/y.heap.size<=k:=by
  intro k i;rcases B.at_ with e|e
  .exact .inl (by rw[<- e];exact i)
  .rw[e] at i;simp at i;exact .inr (by omega)
 have C:Blk t m [vm] 168:=o.cm.fr B.fr (zd o.made o.cm (by decide));have K:Fr (fun k=>k=m) t (t.setCell ⟨m,0,none⟩ j):=Fr.set (S:=fun k=>k=m) (p:=⟨m,0,none⟩) (O _ _) (fun _=>rfl) j;have r:Fr (fun k=>k=m\/vm.ownBlock=some k) y (t.setCell ⟨m,0,none⟩ j) :=
  (B.fr.mono (fun _ _=>.inr)).trans (K.mono (fun _ _=>.inl))
 have E:Fr (fun k=>k=m\/vm.ownBlock=some k) w (t.setCell ⟨m,0,none⟩ j):=(L.mono (fun _ _=>False.elim)).trans r;have l:∀ p,p∈x->p.2≠u:=by
  intro p d e;have:=(h.files p d).lt;omega
 have I:∀ p,p∈x->∀ k,(N p.2).ownBlock=some k->k<w.heap.size:=fun p d k i=>zC (h.rows p d) i;have D:∀ {c:List Value} {g:Nat},Blk y g c 152->Blk (t.setCell ⟨m,0,none⟩ j) g c 152:=by
  intro c g R;refine R.fr r (fun e=>?_);rcases e with e|e
  .exact R.ne o.cm (by decide) e
  .exact zd o.made R (by decide) e
 have G:∀ {v:Value} {n:Nat} {Y:List Value},y.ownsRow 0 5 1 v n Y->(t.setCell ⟨m,0,none⟩ j).ownsRow 0 5 1 v n Y:=by
  intro v n Y V;refine zb V r (fun k i e=>?_);rcases e with e|e
  .subst e;exact zd V o.cm (by decide) i
  .exact Zc o.made V (by decide) e i
 refine⟨?_,E,fun k i=>(z k i).imp id (fun e=>by omega)⟩;refine {h with
  co:=o.co.fr r (fun e=>?_)
  cm:=C.set 0 j
  old:=zb o.old r (fun k i e=>?_)
  made:=?_
  AZ:=fun k i e=>?_
  files:=fun p d=>?_
  rows:=fun p d=>?_
  sep:=fun p d q s F k i e=>?_
  n2:=?_
  nm:=fun k i=>?_
  nf:=fun p d=>?_
  nr:=fun p d k i=>?_
  fr:=Fr.trans' h.fr E (fun k i e=>?_)}
 .rcases e with e|e
  .exact h.ne e
  .exact zd o.made o.co (by decide) e
 .rcases e with e|e
  .subst e;exact zd o.old o.cm (by decide) i
  .exact h.AZ k i e
 .have e:ptrs ((x++[(f,u)]).map Prod.snd)=ptrs (x.map Prod.snd)++[.pointer (some ⟨u,0,none⟩)]:=by simp[ptrs]
  rw[e,IM];exact zb B.own K (fun k i e=>by subst e;exact zd B.own C (by decide) i)
 .rcases z k e with e'|e'
  .exact h.AZ k i e'
  .have:=zC o.old i;omega
 .rcases Hh.1 d with d|d
  .simp only[l p d,Gj]
   exact D (o.files p d)
  .simp at d;subst d
   simp only[Gi];exact D T
 .rcases Hh.1 d with d|d
  .simp only[l p d,Gj]
   exact G (o.rows p d)
  .simp at d;subst d
   simp only[Gi];exact G J
 .rcases Hh.1 d with d|d <;> rcases Hh.1 s with s|s
  .simp only[l p d,l q s,Gj] at i e
   exact h.sep p d q s F k i e
  .simp at s;subst s
   simp only[l p d,Gj] at i;simp only[Gi] at e;have:=I p d k i;have:=A k e;omega
  .simp at d;subst d
   simp only[l q s,Gj] at e;simp only[Gi] at i;have:=I q s k e;have:=A k i;omega
  .simp at d s;subst d;subst s
   exact F rfl
 .rw[Gs,FO]
  refine⟨h.n2,by simp,?_⟩;intro a Q b hb;simp at hb;subst hb;obtain⟨p,d,rfl⟩:=Gc.1 Q;exact l p d
 .rcases z k i with e|e
  .exact h.nm k e
  .omega
 .rcases Hh.1 d with d|d
  .exact h.nf p d
  .simp at d;subst d;show X.heap.size<=u;omega
 .rcases Hh.1 d with d|d
  .simp only[l p d,Gj] at i
   exact h.nr p d k i
  .simp at d;subst d
   simp only[Gi] at i;have:=A k i;omega
 .rcases e with e|e
  .have:=h.nbm;omega
  .have:=h.nm k e;omega
def cnt:List Fact->Nat->Nat
 | [],_=>0
 | x::r,n=>if (Z0 (zr x)).length<=n then cnt r (n-(Z0 (zr x)).length)+1 else 0
theorem Te:∀(a:List Fact){n m:Nat},n<=m->cnt a n<=cnt a m
 | [],_,_,_=>IQ _
 | x::r,n,m,h=>by
  unfold cnt;split
  .rw[He (by omega)]
   have:=Te r (n:=n-(Z0 (zr x)).length) (m:=m-(Z0 (zr x)).length) (by omega);omega
  .exact Hg _
theorem PV:∀(a:List Fact)(n:Nat),cnt a n<=a.length
 | [],_=>IQ _
 | x::r,n=>by
  unfold cnt;split
  .have:=PV r (n-(Z0 (zr x)).length)
   rw[Hq];omega
  .exact Hg _
theorem NX:∀(b a:List Fact)(n:Nat),cnt b n<=cnt (b++a) n
 | [],_,_=>Hg _
 | x::r,a,n=>by
  rw[IY];unfold cnt;split
  .have:=NX r a (n-(Z0 (zr x)).length)
   omega
  .exact IQ _
theorem V8(x:Fact)(r:List Fact):zR (x::r)=Z0 (zr x)++zR r:=by simp[zR]
theorem NY:∀(a:List Fact)(n:Nat),(zR a).length<=n->cnt a n=a.length
 | [],_,_=>rfl
 | x::r,n,h=>by
  rw[V8,IM] at h;unfold cnt;rw[He (by omega),NY r _ (by omega),Hq]
theorem Kt{l:List UInt8}(h:Torn l)(n:Nat):Torn (l.take n):=by
 obtain⟨a,b,c,d⟩:=h;refine⟨a,(EW n l).trans b,fun e=>c ?_,d⟩;have g:=b.length_le;have f:=GY List.length e;rw[IR] at f;exact b.eq_of_length (by omega)
theorem PW:∀(b:List Fact)(a:List UInt8)(n:Nat),(∀ x∈b,ZG x)->Torn a->∃ c,(zR b++a).take n=zR (b.take (cnt b n))++c/\Torn c
 | [],a,n,_,d=>⟨a.take n,by simp[zR,cnt],Kt d n⟩
 | x::r,a,n,f,d=>by
  unfold cnt;rw[V8,Hu];split
  .rename_i hle
   obtain⟨c,g,h⟩:=PW r a (n-(Z0 (zr x)).length) (fun y i=>f y (Hb _ i)) d;refine⟨c,?_,h⟩;rw[Gp,V8,List.take_append,Hn hle,g,Hu]
  .rename_i hgt
   refine⟨(Z0 (zr x)).take n,?_,zr x,EW _ _,fun e=>?_,(f x (Hf ..)).2⟩
   .rw[Gk (by omega)]
    simp[zR]
   .have:=GY List.length e
    rw[IR] at this;omega
def X8(s:Seg)(n:Nat):Seg:=(s.1.take (cnt s.1 n),((Ze s).take n).drop (zR (s.1.take (cnt s.1 n))).length)
theorem V9{s:Seg}(hs:XF s)(n:Nat):Ze (X8 s n)=(Ze s).take n/\XF (X8 s n):=by
 obtain⟨e,a,b⟩:=PW s.1 s.2 n hs.1 hs.2;have c:((Ze s).take n).drop (zR (s.1.take (cnt s.1 n))).length=e:=by
  unfold Ze;rw[a,EO]
 unfold X8;rw[c];exact⟨a.symm,fun x d=>hs.1 x (GV d),b⟩
theorem XS:∀(a b:List Nat)(k:Nat),(∀ i (h:i<a.length),∃ c:i<b.length,a[i]<=b[i])->(a.take k).sum<=(b.take k).sum
 | [],_,_,_=>by simp
 | x::a,b,0,_=>by simp
 | x::a,[],k+1,h=>by obtain⟨c,_⟩:=h 0 (by simp);simp at c
 | x::a,y::b,k+1,h=>by
  obtain⟨_,d⟩:=h 0 (by simp);have:=XS a b k (fun i g=>by
   obtain⟨e,f⟩:=h (i+1) (by simpa using g);exact⟨by simpa using e,by simpa using f⟩)
  simp only[Gp,Fm];simp only[GJ] at d;omega
def gl(M:DM)(a:List Seg):List Nat:=(M.dir.zip a).map fun x=>cnt x.2.1 (M.file x.1.2).safe
def lft(M:DM)(a:List Seg)(k:Nat):Nat:=((gl M a).take k).sum
theorem Wc{M:DM}{a:List Seg}(h:M.dir.length=a.length):(gl M a).length=a.length:=by simp[gl,h]
theorem Vl{M:DM}{a:List Seg}{i:Nat}(b:i<M.dir.length)(c:i<a.length)(h:i<(gl M a).length):(gl M a)[i]=cnt a[i].1 (M.file M.dir[i].2).safe:=by simp[gl]
theorem PX{M M':DM}{c a:List Seg}(l:M.dir.length=c.length)(e:M'.dir.length=a.length)(h:∀ i (m:i<M.dir.length)(o:i<c.length),∃ (f:i<M'.dir.length)(d:i<a.length),cnt c[i].1 (M.file M.dir[i].2).safe<=cnt a[i].1 (M'.file M'.dir[i].2).safe)(k:Nat):lft M c k<=lft M' a k:=by
 refine XS _ _ k fun i g=>?_;have b:i<c.length:=by rw[Wc l] at g;exact g
 obtain⟨f,d,j⟩:=h i (by omega) b;refine⟨by rw[Wc e];exact d,?_⟩;rw[Vl (by omega) b,Vl f d];exact j
theorem Qe(a:List Nat){k m:Nat}(h:k<=m):(a.take k).sum<=(a.take m).sum:=by
 obtain⟨d,rfl⟩:=Nat.le.dest h;rw[List.take_add,DF];omega
structure Lg(M:DM)(ss:List Seg)(p t:Nat):Prop where
 bd:Bd M t
 BC:Lies M ss
 ok:YZ ss
 Ai:∀ i,(((ze ss).take i).foldl SM.enter SM.nil).hints.length<=32
 pre:∀ D∈M.safe::M.Bj,D<+:M.dir
 le:∀ e∈M.dir,(M.file e.2).safe<=(M.file e.2).bytes.length
 full:∀ e∈M.dir.dropLast,(M.file e.2).safe=(M.file e.2).bytes.length
 AH:∀ D∈M.safe::M.Bj,p<=lft M ss D.length
theorem Lg.more{M:DM}{a:List Seg}{p t u:Nat}(h:Lg M a p t)(b:t<=u):Lg M a p u:=⟨h.bd.more b,h.BC,h.ok,h.Ai,h.pre,h.le,h.full,h.AH⟩
theorem PY{M:DM}{a:List Seg}(h:Lies M a){i:Nat}(b:i<M.dir.length)(c:i<a.length):M.dir[i].1=zg zl (i+1)/\(M.file M.dir[i].2).bytes=Ze a[i]:=by
 have e:M.view[i]?=(Yc 0 a)[i]?:=by rw[h.view]
 rw[Tb 0 a i c] at e;unfold DM.view at e;rw[DY,IW b] at e;simp only[EZ,Option.some.injEq,FW,Gg] at e;exact e
theorem Uk:∀ a:List Seg,(ze a).length=(a.map fun s=>s.1.length).sum
 | []=>rfl
 | s::a=>by
  have:=Uk a;simp only[ze,Ht,Fh,IM,Fm] at this |-;omega
theorem ST{s:Seg}{n:Nat}(h:(Ze s).length<=n):cnt s.1 n=s.1.length:=NY s.1 n (by unfold Ze at h;rw[IM] at h;omega)
theorem SU{M:DM}{a:List Seg}(h:Lies M a)(hs:∀ e∈M.dir,(M.file e.2).safe=(M.file e.2).bytes.length):lft M a a.length=(ze a).length:=by
 have f:=h.length;have d:gl M a=a.map fun s=>s.1.length:=by
  refine Et (by rw[Wc f,Hy]) fun i g c=>?_;have b:i<a.length:=by simpa using c
  rw[Vl (by omega) b,Gf,hs _ (IX _),(PY h (by omega) b).2];exact ST (IQ _)
 unfold lft;rw[d,Uk,Hn (by rw[Hy];exact IQ _)]
theorem Vm{d:Dir}(c:(d.map Prod.fst).Nodup){e:ByteArray × Nat}(g:e∈d):d.look e.1=some e.2:=by
 obtain⟨a,b,rfl⟩:=List.append_of_mem g;unfold Dir.look;rw[EJ,FH.2 (fun x h f=>?_),Option.none_or,Dm (p:=fun x:ByteArray × Nat=>x.1==e.1) (zT.2 rfl)]
 .rfl
 .rw[Gs,FO] at c
  exact c.2.2 _ (GI h) e.1 (by simp) (zT.1 f)
theorem I2{D:Dir}(l:(D.map (·.2)).Nodup){e a:ByteArray × Nat}(k:e∈D)(b:a∈D)(h:e.2=a.2):e=a:=by
 obtain⟨m,c,f⟩:=GD.1 k;obtain⟨o,d,g⟩:=GD.1 b;have i:(D.map (·.2))[m]'(by simpa using c)=(D.map (·.2))[o]'(by simpa using d):=by simp[f,g,h]
 have j:=(List.getElem_inj l).1 i;subst j;rw[<- f,<- g]
theorem RB{D:Dir}(p:(D.map Prod.fst).Nodup)(x:(D.map (·.2)).Nodup)(a:List Int)(file:Nat->FM){e:ByteArray × Nat}(q:e∈D):∀ k,k<=D.names.length ->
 ((∃ i,∃ h:i<D.names.length,i<k/\D.names[i]=e.1)->∃ c,zn D a file k e.2=Yv (file e.2) c)/\((∀ i (h:i<D.names.length),i<k->D.names[i]≠e.1)->zn D a file k e.2=file e.2)
 | 0,_=>⟨fun⟨i,_,h,_⟩=>absurd h (Gb _),fun _=>rfl⟩
 | k+1,B=>by
  have z:=VD D;have s:D.names.Nodup:=z.nodup_iff.2 p;have hm:D.names[k]∈D.map Prod.fst:=z.mem_iff.1 (IX _);obtain⟨u,d,g⟩:=Gc.1 hm;have y:Dir.look D D.names[k]=some u.2:=by rw[<- g];exact Vm p d
  obtain⟨t,f⟩:=RB p x a file q k (by omega);unfold zn;rw[IW (by omega),Dv,y];simp only;by_cases b:e=u
  .subst b
   rw[He rfl];have l:=f (fun i m v o=>by
    have:=(List.getElem_inj s).1 (o.trans g);omega)
   rw[l];exact⟨fun _=>⟨_,rfl⟩,fun h=>absurd g.symm (h k (by omega) (Nat.lt_succ_self _))⟩
  .rw[IV (fun j=>b (I2 x q d j))]
   have r:D.names[k]≠e.1:=fun j=>b (by
    have l:=Vm p q;rw[<- j,y] at l;exact Prod.ext (j.symm.trans g.symm) (Hl l).symm)
   refine⟨fun⟨i,m,v,o⟩=>t ⟨i,m,?_,o⟩,fun h=>f (fun i m v=>h i m (by omega))⟩;by_cases A:i=k
   .subst A;exact absurd o r
   .omega
theorem L4{D:Dir}(h:(D.map Prod.fst).Nodup)(g:(D.map (·.2)).Nodup)(a:List Int)(file:Nat->FM){e:ByteArray × Nat}(d:e∈D):∃ c,zn D a file D.names.length e.2=Yv (file e.2) c:=by
 have j:=VD D;obtain⟨i,b,f⟩:=GD.1 (j.mem_iff.2 (GI d));exact(RB h g a file d _ (IQ _)).1 ⟨i,b,b,f⟩
theorem Lies.nodup{M:DM}{a:List Seg}(h:Lies M a):(M.dir.map Prod.fst).Nodup:=by
 rw[h.names,FZ,Ei];exact(FZ.1 List.nodup_range).imp fun h e=>h (by have:=Wb e;omega)
theorem PZ(M:DM)(a:Int):M.BM a∈M.safe::M.Bj:=by
 unfold DM.BM;split
 .exact Hf ..
 .rename_i h
  have:=YN a M.Bj.length;refine Hb _ ?_;rw[Gz,IW (by omega),Option.getD_some];exact IX _
theorem Lg.BT{M:DM}{b:List Seg}{p t:Nat}(h:Lg M b p t)(z:Int)(f:List Int) :
 ∃ a,Lg (M.BT z f) a (ze a).length t/\ze a<+:ze b/\p<=(ze a).length:=by
 have hD:=PZ M z;obtain⟨D,Q⟩:∃ D,D=M.BM z:=⟨_,rfl⟩;have d:=h.pre _ hD;have I:=h.AH _ hD;have K:=h.bd.Bu _ hD;rw[<- Q] at d I K;have hn:(D.map Prod.fst).Nodup:=(d.sublist.map _).nodup h.BC.nodup;have hi:(D.map (·.2)).Nodup:=(d.sublist.map _).nodup h.bd.once;obtain⟨file,q⟩:∃ file,file=zn D f M.file D.names.length:=⟨_,rfl⟩;have hf:∀ e∈D,∃ c,file e.2=Yv (M.file e.2) c:=fun e l=>by rw[q];exact L4 hn hi f M.file l
 have hM:M.BT z f={M with dir:=D,safe:=D,Bj:=[],file:=file,dead:=false,cut:=0,fail:=0}:=by rw[q,Q];rfl
 rw[hM];have a1:∀ g,(file g).bytes.length<=(M.file g).bytes.length:=fun g=>by rw[q];exact V7 D f M.file _ g
 have R:=h.BC.length;have a3:D.length<=b.length:=by rw[<- R];exact d.length_le
 have J:∀ i (j:i<D.length) (F:i<M.dir.length),D[i]=M.dir[i]:=fun i j F=>d.getElem j
 -- each file that is left
 have o:∀ e∈D,(M.file e.2).safe<=(file e.2).safe/\(file e.2).safe<=(M.file e.2).bytes.length/\(file e.2).bytes=(M.file e.2).bytes.take (file e.2).safe/\(file e.2).safe=(file e.2).bytes.length:=fun e l=>by
  obtain⟨c,hc⟩:=hf e l;have j:=h.le e (d.mem l);have F:=YN c ((M.file e.2).bytes.length-(M.file e.2).safe);rw[hc];unfold Yv;refine⟨by simp only;omega,by simp only;omega,rfl,?_⟩;simp only[IR];omega
 obtain⟨a,T⟩:∃ a:List Seg,a=(D.zip b).map fun x=>X8 x.2 (file x.1.2).safe:=⟨_,rfl⟩;have N:a.length=D.length:=by rw[T];simp;omega
 have E:∀ i (j:i<a.length) (F:i<D.length) (B:i<b.length),a[i]=X8 b[i] (file D[i].2).safe:=fun i j F B=>by subst T;simp
 have hb:∀ i (j:i<D.length) (B:i<b.length),D[i].1=zg zl (i+1)/\(M.file D[i].2).bytes=Ze b[i]:=fun i j B=>by
  rw[J i j (by omega)];exact PY h.BC (by omega) B
 have S:YZ a:=fun s hs=>by
  obtain⟨i,u,rfl⟩:=GD.1 hs;rw[E i u (by omega) (by omega)];exact(V9 (h.ok _ (IX _)) _).2
 have y:Lies {M with dir:=D,safe:=D,Bj:=[],file:=file,dead:=false,cut:=0,fail:=0} a:=by
  refine⟨?_,hi,fun e l=>h.bd.BQ e (d.mem l)⟩;refine List.ext_getElem? fun i=>?_;by_cases u:i<a.length
  .rw[Tb 0 a i u]
   show(D.map fun e=>(e.1,(file e.2).bytes))[i]?=_;rw[DY,IW (by omega),EZ];obtain⟨b1,Y⟩:=hb i (by omega) (by omega);obtain⟨_,_,c3,_⟩:=o D[i] (IX _);rw[E i u (by omega) (by omega),(V9 (h.ok _ (IX _)) _).1,<- Y,<- c3,b1,Gg]
  .rw[EE (by show(D.map _).length<=i;rw[Hy];omega),EE (by rw[UQ];omega)]
 -- the facts
 have C:∀ i (j:i<D.length) (B:i<b.length),i+1<b.length->(X8 b[i] (file D[i].2).safe).1=b[i].1:=fun i j B h4=>by
  obtain⟨_,Y⟩:=hb i j B;obtain⟨c1,c2,_,_⟩:=o D[i] (IX _);have a0:D[i]∈M.dir.dropLast:=by
   rw[J i j (by omega)];rw[GD];exact⟨i,by rw[List.length_dropLast];omega,by rw[List.getElem_dropLast]⟩
  have:=h.full _ a0;unfold X8;simp only;rw[ST (by rw[<- Y];omega),HZ]
 have A:ze a<+:ze b:=by
  by_cases hk:D.length<b.length
  .have:a.map Prod.fst=(b.take D.length).map Prod.fst:=by
    refine Et (by simp;omega) fun i j F=>?_;have B:i<a.length:=by simpa using j
    rw[Gf,Gf,E i B (by omega) (by omega),C i (by omega) (by omega) (by omega),Fy]
   unfold ze;rw[this,FJ]
   conv=>rhs;rw[<- Ge D.length (b.map Prod.fst),FC]
   exact FX _ _
  .have hke:D.length=b.length:=by omega
   rcases GN b with e|⟨X,s,e⟩
   .have:a=[]:=Hm (by rw[N,hke,e];rfl)
    rw[this];exact CH
   .rw[GO] at e
    have a5:b.length=X.length+1:=by rw[e];simp
    obtain⟨c,this⟩:∃ c,a.map Prod.fst=X.map Prod.fst++[s.1.take c]:=by
     refine⟨cnt s.1 (file (D[X.length]'(by omega)).2).safe,?_⟩;refine Et (by simp;omega) fun i j F=>?_;have B:i<a.length:=by simpa using j
     rw[Gf,E i B (by omega) (by omega)];by_cases h4:i<X.length
     .rw[C i (by omega) (by omega) (by omega),Hw (by simpa using h4),Gf]
      simp only[e,Hw h4]
     .have h5:i=X.length:=by omega
      subst h5;rw[Gu (by simp)];simp only[e,List.getElem_concat_length,Hy,Dj,GJ]
      rfl
    unfold ze;rw[this,e,Gs,FC,FC];simp only[Ht,Fo,Fh,List.flatten_nil,Hx];exact(List.prefix_append_right_inj _).2 (EW _ _)
 have L:lft M b D.length<=(ze a).length:=by
  have j:lft M b D.length<=lft {M with dir:=D,safe:=D,Bj:=[],file:=file,dead:=false,cut:=0,fail:=0} a D.length:=by
   have e:(gl M b).take D.length=(gl M b).take D.length:=rfl;unfold lft;rw[show((gl M b).take D.length).sum=(((gl M b).take D.length).take D.length).sum by rw[Fz,Nat.min_self]];refine XS _ _ _ fun i u=>?_;have G:i<D.length:=by rw[IR] at u;omega
   have a4:i<(gl M b).length:=by rw[IR] at u;omega
   refine⟨by rw[Wc (by show D.length=_;omega)];omega,?_⟩;rw[Fy,Vl (by omega) (by omega),Vl (by exact G) (by omega),E i (by omega) G (by omega)];show cnt b[i].1 (M.file M.dir[i].2).safe<=cnt (b[i].1.take _) (file D[i].2).safe;rw[<- J i G (by omega)];obtain⟨c1,c2,c3,c4⟩:=o D[i] (IX _);obtain⟨_,Y⟩:=hb i G (by omega);have a2:=(V9 (h.ok b[i] (IX _)) (file D[i].2).safe).1;have:cnt (X8 b[i] (file D[i].2).safe).1 (file D[i].2).safe=(X8 b[i] (file D[i].2).safe).1.length:=ST (by rw[a2,IR];omega);have h6:cnt b[i].1 (file D[i].2).safe<=b[i].1.length:=by
    have:=PV b[i].1 (file D[i].2).safe;exact this
   unfold X8 at this;simp only at this;rw[this,IR,Gv h6];exact Te _ c1
  have F:=SU y (fun e l=>(o e l).2.2.2);rw[N] at F;exact IP j (DQ F)
 refine⟨a,?_,A,IP I L⟩;exact {
  bd:={
   c0:=h.bd.c0,calls:=h.bd.calls,f0:=h.bd.f0,fr:=h.bd.fr,rc:=h.bd.rc,r0:=h.bd.r0,r1:=h.bd.r1,part:=h.bd.part
   all:=IP (Kk M.ids (fun g _=>a1 g)) h.bd.all
   Aq:=h.bd.Aq,AM:=h.bd.AM
   BQ:=fun e l=>h.bd.BQ e (d.mem l)
   once:=hi
   Bj:=Hg _
   Bu:=fun x V=>by
    have k:x∈[D]:=V;rw[IZ] at k;subst k;exact K
   dir:=K}
  BC:=y
  ok:=S
  Ai:=fun i=>by
   obtain⟨r,hr⟩:=A;have:(ze a).take i=(ze b).take (min i (ze a).length):=by
    rw[<- hr,Gk (Cq _ _),List.take_eq_take_min]
   rw[this];exact h.Ai _
  pre:=fun x V=>by
   have k:x∈[D]:=V;rw[IZ] at k;subst k;exact Cs _
  le:=fun e l=>DQ (o e l).2.2.2
  full:=fun e l=>(o e (List.dropLast_subset _ l)).2.2.2
  AH:=fun x V=>by
   have k:x∈[D]:=V;rw[IZ] at k;subst k;rw[<- N,SU y (fun e l=>(o e l).2.2.2)];exact IQ _}
def Jl(J:JM)(M:DM)(a:List Seg):Prop:=J=JM.at J.Bw a J.Bm/\(J.Bm=true->M.safe=M.dir/\M.Bj=[])
def Firm(M:DM):Prop:=∀ e∈M.dir,(M.file e.2).safe=(M.file e.2).bytes.length
theorem Lg.no{M:DM}{a:List Seg}{p t:Nat}(h:Lg M a p t)(d:Bool):Lg (M.no d) a p (t+1) :=
 ⟨h.bd.no d,h.BC.same rfl (fun _=>rfl) rfl,h.ok,h.Ai,h.pre,h.le,h.full,h.AH⟩
theorem Lg.yc{M:DM}{b:List Seg}{p t:Nat}(h:Lg M b p t)(f:Nat):Lg (M.yc f) b p (t+1) where
 bd:=h.bd.yc f
 BC:=h.BC.same rfl (Xp M f) rfl
 ok:=h.ok
 Ai:=h.Ai
 pre:=h.pre
 le:=fun e a=>by
  rw[VC,Xp];split
  .rename_i e';rw[e'];exact IQ _
  .exact h.le e a
 full:=fun e a=>by
  rw[VC,Xp];split
  .rename_i e';rw[e']
  .exact h.full e a
 AH:=fun D g=>IP (h.AH D g) (PX (M':=M.yc f) h.BC.length h.BC.length (fun i c d=>⟨c,d,Te _ (by
  show(M.file M.dir[i].2).safe<=((M.yc f).file M.dir[i].2).safe;rw[VC];split
  .rename_i e';rw[<- e'];exact h.le _ (IX _)
  .exact IQ _)⟩) _)
theorem Lg.yq{M:DM}{g:List Seg}{p t:Nat}(h:Lg M g p t){d:Dir}{n:ByteArray}{f:Nat}(b:M.dir=d++[(n,f)]):Firm (M.yc f):=fun e c=>by
 rw[VC,Xp];split
 .rename_i e';rw[e']
 .rename_i hne
  refine h.full e ?_;have a:e∈M.dir:=c;rw[b] at a |-;rw[DC];rcases Hh.1 a with x|x
  .exact x
  .rw[IZ] at x;subst x;exact absurd rfl hne
theorem O0{M:DM}{a:List Seg}{k m:Nat}(h:k<=m):lft M a k<=lft M a m:=Qe _ h
theorem Lg.Bu{M:DM}{a:List Seg}{p t:Nat}(h:Lg M a p t):p<=lft M a M.dir.length :=
 IP (h.AH _ (Hf ..)) (O0 (h.pre _ (Hf ..)).length_le)
theorem Lg.AL{M:DM}{b:List Seg}{p t:Nat}(h:Lg M b p t):p<=(ze b).length:=by
 refine IP h.Bu ?_;unfold lft;rw[Uk];rw[show(b.map fun s=>s.1.length).sum=((b.map fun s=>s.1.length).take M.dir.length).sum by rw[h.BC.length,Hn (by simp)]];refine XS _ _ _ fun i a=>?_;rw[Wc h.BC.length] at a;refine⟨by simpa using a,?_⟩;rw[Vl (by rw[h.BC.length];exact a) a,Gf];exact PV _ _
theorem Lg.AF{M:DM}{c:List Seg}{p t:Nat}(h:Lg M c p t){q:Nat}(d:q<=lft M c M.dir.length):Lg M.AF c q (t+1) where
 bd:=h.bd.AF
 BC:=h.BC.same rfl (fun _=>rfl) rfl
 ok:=h.ok
 Ai:=h.Ai
 pre:=fun D b=>by
  have a:D∈[M.dir]:=b;rw[IZ] at a;subst a;exact Cs _
 le:=h.le
 full:=h.full
 AH:=fun D b=>by
  have a:D∈[M.dir]:=b;rw[IZ] at a;subst a;exact d
theorem Firm.lft{M:DM}{a:List Seg}(h:Firm M)(b:Lies M a):lft M a M.dir.length=(ze a).length:=by
 rw[b.length];exact SU b h
theorem Lg.born{M:DM}{j:List Seg}{p t:Nat}(h:Lg M j p t)(F:Firm M)(f:Nat)(E:f∉M.ids)(r:Int)(d:Bool)(J:M.refused<=r)(K:r<=M.refused+1):Lg (M.born (zg zl (j.length+1)) f r d) (j++[([],[])]) p (t+1):=by
 have y:∀ e∈M.dir,e.2≠f:=fun e z x=>E (x▸h.bd.BQ e z);have c:∀ g,g≠f->(M.born (zg zl (j.length+1)) f r d).file g=M.file g:=fun g G=>by
  show(if g=f then(⟨[],0⟩:FM) else M.file g)=_;rw[IV G]
 have u:(M.born (zg zl (j.length+1)) f r d).file f=⟨[],0⟩:=by
  show(if f=f then(⟨[],0⟩:FM) else M.file f)=_;rw[He rfl]
 have q:Lies (M.born (zg zl (j.length+1)) f r d) (j++[([],[])]):=h.BC.more rfl E (fun g G=>by rw[c g G]) (by rw[u]) rfl;have C:=h.BC.length;have o:∀ k,lft M j k<=lft (M.born (zg zl (j.length+1)) f r d) (j++[([],[])]) k:=PX C q.length (fun i a b=>by
  have A:(M.born (zg zl (j.length+1)) f r d).dir=M.dir++[(zg zl (j.length+1),f)]:=rfl;refine⟨by rw[A,IM];omega,by rw[IM];omega,?_⟩;rw[Hw b];have I:((M.born (zg zl (j.length+1)) f r d).dir[i]'(by rw[A,IM];omega))=M.dir[i]:=by
   simp only[A,Hw a]
  rw[I,c _ (y _ (IX _))];exact IQ _)
 exact {
  bd:=h.bd.born _ f E r d J K
  BC:=q
  ok:=fun s hs=>by
   rcases Hh.1 hs with hs|hs
   .exact h.ok s hs
   .rw[IZ] at hs;subst hs;exact⟨(fun x L=>by cases L),VB⟩
  Ai:=by rw[zW,show ze [(([],[]):Seg)]=[] from rfl,Hx];exact h.Ai
  pre:=fun D B=>by
   have l:D∈M.safe::(M.Bj++[M.dir++[(zg zl (j.length+1),f)]]):=B;have v:=h.pre D;simp only[HY,Hh,Ft,Dy] at l v;rcases l with e|e|e
   .exact(v (.inl e)).trans (FX _ _)
   .exact(v (.inr e)).trans (FX _ _)
   .rw[e];exact Cs _
  le:=fun e z=>by
   have m:e∈M.dir++[(zg zl (j.length+1),f)]:=z;rcases Hh.1 m with x|x
   .rw[c _ (y e x)];exact h.le e x
   .rw[IZ] at x;subst x;simp only[u];exact IQ _
  full:=fun e z=>by
   have m:e∈(M.dir++[(zg zl (j.length+1),f)]).dropLast:=z;rw[DC] at m;rw[c _ (y e m)];exact F e m
  AH:=fun D B=>by
   have l:D∈M.safe::(M.Bj++[M.dir++[(zg zl (j.length+1),f)]]):=B;have v:=h.AH D;simp only[HY,Hh,Ft,Dy] at l v;rcases l with e|e|e
   .exact IP (v (.inl e)) (o _)
   .exact IP (v (.inr e)) (o _)
   .refine IP h.Bu (IP (o _) (O0 ?_))
    rw[e,IM];omega}
theorem Lg.put{M:DM}{c:List Seg}{s m:Seg}{p t:Nat}(h:Lg M (c++[s]) p t){f:Nat}(G:M.dir.look (zg zl (c.length+1))=some f)(l:List UInt8)(B:l.length<=2000)(r u:Int)(d:Bool)
 (J:M.refused<=r)(K:r<=M.refused+1)(L:M.Bb<=u)(Q:u-M.Bb<=r-M.refused)(T:(M.file f).bytes++l=Ze m)(E:XF m)(V:∀ n,cnt s.1 n<=cnt m.1 n)
 (y:∀ i,(((ze (c++[m])).take i).foldl SM.enter SM.nil).hints.length<=32):Lg (M.put f l r u d) (c++[m]) p (t+1):=by
 obtain⟨d0,g,X,_,A,C,_⟩:=h.BC.last;obtain rfl:g=f:=Hl (A.symm.trans G);have j:Lies (M.put g l r u d) (c++[m]):=h.BC.put G rfl (fun k Y=>by rw[YM,IV Y]) (by rw[YM,He rfl];exact T) rfl;exact {
  bd:=h.bd.put g l B r u d J K L Q
  BC:=j
  ok:=fun x o=>by
   rcases Hh.1 o with o|o
   .exact h.ok x (EP _ o)
   .rw[IZ] at o;subst o;exact E
  Ai:=y
  pre:=h.pre
  le:=fun e z=>by
   rw[Tc,YM];have:=h.le e z;split
   .rename_i e';rw[IM,<- e'];omega
   .exact this
  full:=fun e z=>by
   have q:e∈M.dir.dropLast:=z;rw[Tc,YM,IV]
   .exact h.full e z
   .intro x
    rw[X,DC] at q;exact C (x▸GI q)
  AH:=fun D R=>by
   refine IP (h.AH D R) (PX h.BC.length j.length (fun i a b=>?_) _);have I:i<(c++[m]).length:=by simpa using b
   refine⟨a,I,?_⟩;show _<=cnt (c++[m])[i].1 ((M.put g l r u d).file M.dir[i].2).safe;rw[Tc];by_cases F:i<c.length
   .rw[Hw F,Hw F]
    exact IQ _
   .have:i=c.length:=by simp at b;omega
    subst this;simp only[List.getElem_concat_length];exact V _}
structure Alike(M M':DM):Prop where
 dir:M'.dir=M.dir
 ids:M'.ids=M.ids
 room:M'.room=M.room
 part:M'.part=M.part
 BG:M'.BG=M.BG
theorem I3(M:DM)(f:Nat):(M.yc f).BG=M.BG:=by
 unfold DM.BG;simp only[Xp]
 rfl
theorem Ws{J:JM}{M:DM}{c:List Seg}{p t:Nat}(h:Lg M c p t)(b:J=JM.at J.Bw c J.Bm)(o:t<=1000000000) :
 ∃ e a,J.Bc M=(e,a)/\Lg a c p (t+1)/\Ans M a e/\Alike M a/\e≠some 10/\a.safe=M.safe/\a.Bj=M.Bj/\(e=none->Firm a):=by
 unfold JM.Bc;rcases GN c with rfl|⟨q,s,rfl⟩
 .have:J.last=0:=by rw[b];rfl
  rw[He this];exact⟨none,M,rfl,h.more (Fs _),Ans.refl M,⟨rfl,rfl,rfl,rfl,rfl⟩,(by intro e;cases e),rfl,rfl,fun _ e j=>by
   have g:=Hm h.BC.length;rw[g] at j;cases j⟩
 .rw[GO] at h b |-
  rw[JM.BJ] at b;have k:J.last≠0:=by rw[b];simp
  have l:J.name=zg zl (q.length+1):=by rw[b]
  obtain⟨r,f,g,_,m,_,_⟩:=h.BC.last;rw[IV k,l];rcases Jm h.bd o m with⟨e,i⟩|⟨d,e,i⟩
  .rw[e]
   exact⟨none,M.yc f,rfl,h.yc f,Ans.ok rfl rfl rfl,⟨rfl,rfl,rfl,rfl,I3 M f⟩,(by intro e;cases e),rfl,rfl,fun _=>h.yq g⟩
  .rw[e]
   exact⟨some 9,M.no d,rfl,h.no d,Ans.no rfl rfl,⟨rfl,rfl,rfl,rfl,rfl⟩,(by intro e;cases e),rfl,rfl,fun e=>by cases e⟩
theorem TV{J:JM}{M:DM}{c:List Seg}{p t:Nat}(h:Lg M c p t)(B:Jl J M c)(X:t+2<=1000000000)(n f:Nat)(S:f∉M.ids) :
 ∃ e z k j,J.Be M n f=(e,z,k)/\Lg k j p (t+2)/\ze j=ze c/\Ans M k e/\k.room=M.room/\k.part=M.part/\(∀ g∈k.ids,g=f\/g∈M.ids)/\k.BG=M.BG/\e≠some 10/\(e≠none->z=J) /\
  (e=none->Jl z k j/\z.Bw=J.Bw/\∃ K C,j=K++[(C,[])]):=by
 unfold JM.Be;cases hb:J.fits n with
 | true =>
  simp only[Gi];refine⟨none,J,M,c,rfl,h.more (by omega),rfl,Ans.refl M,rfl,rfl,fun g a=>.inr a,rfl,(by intro e;cases e),fun _=>rfl,fun _=>⟨B,rfl,?_⟩⟩;unfold JM.fits at hb;simp only[Gr,Ha,EI] at hb;obtain⟨L,D,_⟩:=hb;have o:=B.1;rcases GN c with rfl|⟨r,s,rfl⟩
  .rw[o] at L;exact absurd rfl L
  .rw[GO] at o |-
   rw[o,JM.BJ] at D;simp only[Ho,Nat.not_lt,Nat.le_zero_eq] at D;obtain⟨C,V⟩:=s;obtain rfl:V=[]:=Hm D;exact⟨r,C,rfl⟩
 | false =>
  simp only[Gl,Gj];obtain⟨N,i,hs,a,A,b,I,T,Q,F⟩:=Ws h B.1 (by omega);have q:J.last=c.length:=by rw[B.1];exact JM.Aw _ _ _
  unfold JM.begin;rw[hs];cases N with
  | some x=>exact⟨some x,J,i,c,rfl,a.more (by omega),rfl,A,b.room,b.part,fun g a=>.inr (b.ids▸a),b.BG,I,fun _=>rfl,fun e=>by cases e⟩
  | none =>
   have l:=F rfl;have m:f∉i.ids:=by rw[b.ids];exact S
   simp only;rw[q];have y:∀ r d,(i.born (zg zl (c.length+1)) f r d).BG=M.BG:=fun r d=>by
    rw[<- b.BG];have G:∀ e∈i.dir,e.2≠f:=fun e E x=>m (x▸a.bd.BQ e E);show((i.dir++[(zg zl (c.length+1),f)]).map fun e=>(if e.2=f then(⟨[],0⟩:FM) else i.file e.2).bytes.length).sum=_;rw[Gs,DF];simp only[Ht,Fo,Fm,CU,Gi,Gt,Fx];unfold DM.BG;refine GY List.sum (GS fun e E=>?_);rw[IV (G e E)]
   have v:∀ g,g∈f::i.ids->g=f\/g∈M.ids:=fun g a=>by
    rw[HY,b.ids] at a;exact a
   rcases MS a.bd (by omega) (Ta _) a.BC.none f with⟨u,R⟩|⟨d,u,R⟩|u
   .rw[u]
    simp only[Gi];refine⟨none,_,_,_,rfl,a.born l f m i.refused i.dead (by omega) (by omega),?_,A.trans (Ans.ok rfl rfl rfl),b.room,b.part,fun g a=>v g a,y _ _,(by intro e;cases e),(fun h=>absurd rfl h),fun _=>⟨⟨?_,fun e=>by cases e⟩,rfl,c,[],rfl⟩⟩
    .rw[zW];simp[ze]
    .simp only[JM.BJ,Ze,zR]
     simp
   .rw[u]
    simp only[show ¬(9:Int)=0 by decide,Gj];exact⟨_,_,_,c,rfl,(a.no d).more (by omega),rfl,A.trans (Ans.no rfl rfl),b.room,b.part,fun g a=>.inr (b.ids▸a),b.BG,(by intro e;cases e),fun _=>rfl,fun e=>by cases e⟩
   .rw[u]
    simp only[show ¬(9:Int)=0 by decide,Gj];refine⟨_,_,_,_,rfl,a.born l f m (i.refused+1) true (by omega) (by omega),?_,A.trans (Ans.no (d:=true) rfl rfl),b.room,b.part,fun g a=>v g a,y _ _,(by intro e;cases e),fun _=>rfl,fun e=>by cases e⟩;rw[zW];simp[ze]
theorem Jq{J:JM}{M:DM}{ss:List Seg}{p t:Nat}(h:Lg M ss p t)(hj:Jl J M ss)(ht:t+3<=1000000000)(x:Fact)(hx:ZG x)(b9:(zh x).size<=2000)(a8:(((ze ss++[x])).foldl SM.enter SM.nil).hints.length<=32)(f:Nat)(hf:f∉M.ids) :
 ∃ wh e J' M' a5,J.append M (zh x) f=(wh,e,J',M')/\Lg M' a5 p (t+3)/\ze a5=ze ss++(if wh=true then [x] else [])/\Ans M M' e/\M'.room=M.room/\M'.part=M.part/\(∀ g∈M'.ids,g=f\/g∈M.ids)/\M'.BG<=M.BG+(zh x).size/\(e=some 10->M.room<M.BG+(zh x).size) /\
  (e=none->wh=true/\Jl J' M' a5/\J'.Bw=J.Bw):=by
 obtain⟨e1,C,q,s1,e,hg,a7,ha,X,V,T,c0,b6,_,b5⟩:=TV h hj (by omega) (zh x).size f hf;unfold JM.append;rw[e];cases e1 with
 | some n=>exact⟨false,some n,C,q,s1,rfl,hg.more (by omega),by simp[a7],ha,X,V,T,by omega,fun e=>absurd e b6,fun e=>by cases e⟩
 | none =>
  obtain⟨hL,b0,o,B,rfl⟩:=b5 rfl;simp only;obtain⟨d,g,hd,b3,a4,b8,hv⟩:=hg.BC.last;have F:=hL.1;rw[JM.BJ] at F;have s:C.name=zg zl (o.length+1):=by rw[F]
  have v:C.size=(zR B).length:=by rw[F];simp[Ze]
  have K:C.Ad=false:=by rw[F];simp
  have G:C.last=o.length+1:=by rw[F]
  have a1:q.dir.look C.name=some g:=by rw[s];exact a4
  have Y:(zh x).data.toList.length=(zh x).size:=by rw[GR];rfl
  have E:(q.file g).bytes=zR B:=by rw[b3];simp[Ze]
  obtain⟨D,k,r,u,N,ea,hk,j⟩:=JY hg.bd (by omega) a1 (zh x);have z:C.has (q.put g ((zh x).data.toList.take k) r u N) (C.size+(zh x).size)=decide (k=(zh x).size):=by
   unfold JM.has DM.size;rw[show(q.put g ((zh x).data.toList.take k) r u N).dir=q.dir from rfl,a1];simp only[YM,Gi,E,IM,IR,Y];rw[v,show((0:Int)==0)=true from rfl,Dx,Gv hk];by_cases e:k=(zh x).size
   .rw[Er e,CP];omega
   .rw[GW e,GG];omega
  have a9:=(hg.ok (B,[]) (by simp)).1;have a0:ze o++B=ze ss:=by rw[<- a7,zW];simp[ze]
  have a2:((zh x).data.toList.take k).length<=2000:=by rw[IR];omega
  have m:q.refused<=r/\r<=q.refused+1/\q.Bb<=u/\u-q.Bb<=r-q.refused:=by
   rcases j with⟨_,_,a,b,_⟩|⟨a,⟨_,b,_⟩|⟨_,b,_⟩⟩ <;> subst a b <;> refine⟨by omega,by omega,by omega,by omega⟩
  have L:(q.put g ((zh x).data.toList.take k) r u N).BG<=M.BG+(zh x).size:=by
   have h1:=JZ hg.bd g ((zh x).data.toList.take k) r u N;rw[IR] at h1;omega
  have c:Ans M (q.put g ((zh x).data.toList.take k) r u N) (Yh D):=by
   refine ha.trans ?_;rcases j with⟨rfl,_,rfl,rfl,rfl,_⟩|⟨rfl,⟨rfl,rfl,_⟩|⟨rfl,rfl,rfl,_⟩⟩
   .exact .inl ⟨rfl,rfl,rfl,rfl⟩
   .exact .inr ⟨rfl,.inl ⟨rfl,rfl⟩⟩
   .exact .inr ⟨rfl,.inr ⟨rfl,rfl,rfl⟩⟩
  have a6:D=10->M.room<M.BG+(zh x).size:=fun Q=>by
   rcases j with⟨a,_⟩|⟨_,⟨a,_⟩|⟨_,_,_,_,b7⟩⟩
   .rw[a] at Q;cases Q
   .rw[a] at Q;cases Q
   .omega
  have b1:D=0->k=(zh x).size:=fun e0=>by
   rcases j with⟨_,a,_⟩|⟨_,⟨a,_⟩|⟨a,_⟩⟩
   .exact a
   .rw[a] at e0;cases e0
   .rw[a] at e0;cases e0
  unfold JM.BL;rw[ea];simp only;by_cases l:k=(zh x).size
  .have I:XF (B++[x],[]):=⟨fun y hy=>by
    rcases Hh.1 hy with hy|hy
    .exact a9 y hy
    .rw[IZ] at hy;subst hy;exact hx,VB⟩
   have A:ze (o++[(B++[x],[])])=ze ss++[x]:=by
    rw[zW,<- a0];simp[ze]
   have S:Lg (q.put g ((zh x).data.toList.take k) r u N) (o++[(B++[x],[])]) p (t+3):=hg.put a4 _ a2 r u N m.1 m.2.1 m.2.2.1 m.2.2.2 (by
    rw[E,l,<- Y,HZ];simp only[Ze,Hx,XO]) I (fun n=>NX B [x] n) (fun i=>by
     rw[A];by_cases hi:i<=(ze ss).length
     .rw[Gk hi];exact h.Ai i
     .rw[Hn (by simp;omega)];exact a8)
   have b2:Jl {C with size:=C.size+(zh x).size} (q.put g ((zh x).data.toList.take k) r u N) (o++[(B++[x],[])]):=by
    refine⟨?_,fun b4=>hL.2 b4⟩;rw[JM.BJ];obtain⟨jl,c1,jn,js,jt,jd⟩:=C;simp only at s v K G |-;subst s v K G;simp[Ze,XO,Y]
   rw[Er l] at z;by_cases R:D=0
   .rw[He R]
    rw[R] at c;exact⟨true,none,_,_,_,rfl,S,by rw[He rfl];exact A,c,X,V,T,L,(by intro e;cases e),fun _=>⟨rfl,b2,b0⟩⟩
   .rw[IV R,He z]
    have a3:Yh D=some D:=by unfold Yh;rw[IV R]
    rw[a3] at c;exact⟨true,some D,_,_,_,rfl,S,by rw[He rfl];exact A,c,X,V,T,L,fun e=>a6 (Hl e),fun e=>by cases e⟩
  .have R:¬D=0:=fun R=>l (b1 R)
   rw[GW l] at z;have a3:Yh D=some D:=by unfold Yh;rw[IV R]
   rw[a3] at c;have I:XF (B,(zh x).data.toList.take k):=⟨a9,zr x,by rw[XB];exact EW _ _,fun e=>by
    have:=GY List.length e;rw[IR,<- XB,Y] at this;omega,hx.2⟩
   have A:ze (o++[(B,(zh x).data.toList.take k)])=ze ss:=by
    rw[zW,<- a0];simp[ze]
   have S:Lg (q.put g ((zh x).data.toList.take k) r u N) (o++[(B,(zh x).data.toList.take k)]) p (t+3):=hg.put a4 _ a2 r u N m.1 m.2.1 m.2.2.1 m.2.2.2 (by
    rw[E];rfl) I (fun n=>IQ _) (by rw[A];exact h.Ai)
   rw[IV R,IV (by rw[z];decide)];exact⟨false,some D,_,_,_,rfl,S,by simp[A],c,X,V,T,L,fun e=>a6 (Hl e),fun e=>by cases e⟩
theorem Ku{J:JM}{M:DM}{c:List Seg}{p t:Nat}(h:Lg M c p t)(k:Jl J M c)(K:t+2<=1000000000) :
 ∃ e r j,J.Bn M=(e,r,j)/\Lg j c p (t+2)/\Ans M j e/\Alike M j/\e≠some 10/\r.Bw=J.Bw/\(e=none->Jl r j c/\Lg j c (ze c).length (t+2)):=by
 obtain⟨E,i,hs,f,q,b,m,o,l,B⟩:=Ws h k.1 (by omega);unfold JM.Bn;rw[hs];cases E with
 | some x =>
  rw[IV (by rintro⟨a,_⟩;cases a)];exact⟨some x,J,i,rfl,f.more (by omega),q,b,m,rfl,fun e=>by cases e⟩
 | none =>
  have g:=B rfl;by_cases v:J.last≠0/\J.Bm=false
  .rw[He ⟨rfl,v⟩]
   unfold JM.Bp;rcases Nh f.bd (by omega) with⟨s,z⟩|⟨d,s,z⟩
   .simp only[s]
    refine⟨none,_,i.AF,rfl,f.AF f.Bu,q.trans (Ans.ok rfl rfl rfl),⟨b.dir,b.ids,b.room,b.part,b.BG⟩,(by intro e;cases e),rfl,fun _=>⟨⟨?_,fun _=>⟨rfl,rfl⟩⟩,f.AF (by rw[g.lft f.BC];exact IQ _)⟩⟩;have C:=k.1;show({J with Bm:=_}:JM)=JM.at J.Bw c _;rw[<- JM.yd J.Bw c J.Bm,<- C]
   .simp only[s]
    exact⟨some 9,_,i.no d,rfl,f.no d,q.trans (Ans.no rfl rfl),⟨b.dir,b.ids,b.room,b.part,b.BG⟩,(by intro e;cases e),rfl,fun e=>by cases e⟩
  .rw[IV (fun x=>v x.2)]
   refine⟨none,J,i,rfl,f.more (by omega),q,b,m,rfl,fun _=>⟨⟨k.1,fun y=>by rw[o,l,b.dir];exact k.2 y⟩,?_⟩⟩;by_cases I:J.last=0
   .have hnil:c=[]:=by
     have:J.last=c.length:=by rw[k.1];exact JM.Aw _ _ _
     exact Hm (by omega)
    subst hnil;exact {f.more (show t+1<=t+2 by omega) with AH:=fun D u=>Hg _}
   .have hds:J.Bm=true:=by
     cases y:J.Bm with
     | true=>rfl
     | false=>exact absurd ⟨I,y⟩ v
    obtain⟨F,G⟩:=k.2 hds;have A:∀ D∈i.safe::i.Bj,(ze c).length<=lft i c D.length:=fun D u=>by
     rw[o,l,F,G,IZ] at u;subst u;rw[<- b.dir,g.lft f.BC];exact IQ _
    exact {f.more (show t+1<=t+2 by omega) with AH:=A}
end Go.Proofs.YtkhnggkkiefcdaaGreatDoor
