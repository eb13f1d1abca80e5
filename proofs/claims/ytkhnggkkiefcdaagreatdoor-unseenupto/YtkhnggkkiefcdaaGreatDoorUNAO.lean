/- larder: joined texts -/
import Derived.Test.YtkhnggkkiefcdaaGreatDoorUNAL
import Derived.Test.YtkhnggkkiefcdaaGreatDoorUNAM
import Derived.Test.YtkhnggkkiefcdaaGreatDoorUNAN
namespace Go.Proofs.YtkhnggkkiefcdaaGreatDoor
open Go.RowKit
set_option maxRecDepth 100000
set_option maxHeartbeats 8000000
set_option maxRecDepth 100000 in
theorem Mw(t:Int)(l:List Int)(tv:Value)(w:World)(b:Nat)(L:DL)(M:DM)(h:DRep w b L M)(f9:-9223372036854775808<=t)(g0:t<=9223372036854775807)
 (ht:Yo w tv l)(f0:∀ k,l≠[]->tv.ownBlock=some k->¬Foot b L M k)(f1:∀ x,x∈l->-9223372036854775808<=x/\x<=9223372036854775807)
 (g2:∀ f,f∈M.ids->(M.file f).bytes.length<=1000000000000)(hn:M.Bl.length+1<=1000000000000)(hm:∀ d,d∈M.safe::M.Bl->d.length<=1000000000000)
 (kk:Nat)(b2:kk<M.Bl.length)(c4:zY t M.Bl.length=kk+1) :
 Calls Tryz.prog 33 #[.pointer (some ⟨b,0,none⟩),.int .i64 t,tv] w fun e w' =>
  e=.returned (.tuple #[])/\∃ L',DStep b L M w L' (M.Bw t l) w':=by
 have hc:=h.Bi.cell;have i7:=h.Bi.frozen;simp only[DM.cells] at hc;obtain⟨cg,h7,S,_,_⟩:=zv h.ch (by omega);have d6:=h.Ar;have b3:kk<L.BH.length:=by omega
 obtain⟨d,hd⟩:∃ d,d=M.Bl[kk]:=⟨_,rfl⟩;obtain⟨V,a8⟩:∃ V,V=L.BH[kk]:=⟨_,rfl⟩;have hV:=h.Bl kk b3 b2;rw[<- hd,<- a8] at hV;have R:∀ e,e∈d->e.2∈M.ids:=by rw[hd];exact h.AU _ (Iu b2)
 have d3:∀ k,V.ownBlock=some k->Foot b L M k:=by rw[a8];exact fun k hk=>.Bl kk b3 hk
 have f8:w.cell? ⟨cg,kk,none⟩=some V:=own_cell? (by rw[<- S];exact h.ch) kk V (by rw[a8];exact IB b3);have i5:cg≠b:=by
  intro e;refine zi h.ch h.Bi (by decide) ?_;rw[S,<- e]
  rfl
 have g3:d.length<=1000000000000:=by rw[hd];exact hm _ (Iq _ (Iu b2))
 have d7:M.BZ t=d:=by simp[DM.BZ,c4,hd,b2]
 obtain⟨j5,h6,c6⟩:=zg h.safe;obtain⟨sa,h8,c7⟩:=zg hV;obtain⟨ta,tc,c8⟩:∃ a c,tv=.slice a l.length c:=by
  rcases ht with⟨⟨_,_,rfl⟩,rfl⟩|⟨g,a4,a7,rfl,_⟩
  .exact⟨_,_,rfl⟩
  .exact⟨_,_,rfl⟩
 have e9:Blk ((w.setCell ⟨b,0,none⟩ L.BB).setCell ⟨b,0,none⟩ V) b (({M with dir:=d}:DM).cells {L with BN:=V}) 143:=(h.Bi.set 0 L.BB).set 0 V;have e8:=h.yL hV R e9 zd;rw[S,c6] at hc;have HH:=Z h;have c9:=Z e8;have f2:=Z S;have b8:=Z c7;have d0:=Z c6;have HT:=Z ht;have f7:=Z c8;have f3:=Z d7;have hp:=YY t M.Bl.length w f9 g0 (by omega);rw[c4] at hp;have HP:=Z hp;have g9:l.length<=maxLen:=by
  rcases ht with⟨_,rfl⟩|⟨_,_,_,_,_,h,_⟩
  .simp
  .exact h
 unfold maxLen at g9;have i3:=Z R;have d1:=Z d3;rw[c7] at f8;clear h e8 S c7 c6 ht e9 d7 hp c4 hd a8 hV R d3 d6 b3 hm;rw[c8];clear c8;go_enter Tryz.func33,Tryz.ntmps33
 go_wp2_with (go_at_call 85;refine HP.out.mono ?_;rintro e wx ⟨rfl,j4⟩;subst wx)
 have HL:=Z (Wv _ b _ _ c9.out g3);rw[<- b8.out,<- d0.out];refine HL.out.mono ?_;rintro e w1 ⟨nv,rfl,b4,b0,b6⟩;obtain⟨na,nc,b7⟩:=zg b4;have e7:=zG b4;unfold maxLen at e7;have d5:Zy ((w.setCell ⟨b,0,none⟩ L.BB).setCell ⟨b,0,none⟩ V) b {L with BN:=V} {M with dir:=d} l nv 0 w1 :=
  ⟨⟨_,c9.out.fr b0 (fun _ _=>id),rfl,rfl,rfl,rfl,fun k hk=>hk⟩,b0.mono (fun _ _=>False.elim),b4⟩
 have i1:=Z b7;have i2:=Z b6;have h9:=Z b0;clear b4 b0 b6 hc;subst b7;go_wp2_with fail
 go_loopw [44] (fun c w'=>∃ i:Nat,i<=d.length/\c=.int .i64 i/\Zy ((w.setCell ⟨b,0,none⟩ L.BB).setCell ⟨b,0,none⟩ V) b {L with BN:=V} {M with dir:=d} l (.slice na d.length nc) i w') (fun c _=>d.length-(intOf c).toNat)
 case atStart=>exact⟨0,II _,rfl,d5⟩
 case round =>
  obtain⟨i,hi,rfl,d4⟩:=hrel;have y:=Z d4;clear d4 d5;by_cases i8:i<d.length
  .have hnl:d.names.length=d.length:=WX _
   obtain⟨ng,g4⟩:∃ g,na=some ⟨g,0,none⟩:=by
    obtain⟨g,c',h',_⟩:=zv y.out.names (by show 0<d.length;omega);simp at h';exact⟨g,h'.1⟩
   subst g4;have D:i<d.names.length:=by omega
   have i9:=own_cell? y.out.names i (.string d.names[i]) (by simp[strs,D]);obtain⟨k,hk,c3,e5⟩:=UN d d.names[i] (Iu D);obtain⟨Li,A,e1,e2,e3,e4,a0⟩:=y.out.Bt;have T:=A.Bi.cell 0;have I:=A.dir;rw[e1] at I;obtain⟨dg,b5,a9,_,g1⟩:=zv I (by show 0<d.length;omega);simp only at a9;have Y:Li.BN=.slice (some ⟨dg,0,none⟩) d.length b5:=e1.trans a9;simp only[DM.cells,Y] at T;simp at T;have j1:=own_cell? (by rw[<- a9];exact I) _ _ (ZD d k hk).2;have C:=Z A;have f5:=Z c3;have f4:=Z Y;have a6:=Z e5;have a5:=Z (⟨e1,e2,e3,e4,a0⟩:Li.BN=_/\Li.BB=_/\Li.Au=_/\Li.BH=_/\_);unfold maxLen at g1;clear A c3 e1 e2 e3 e4 I a0 a9 Y e5;go_wp2_with fail
   go_region_held3 (fun w'=>w'.cell? ⟨b,0,none⟩=some (.slice (some ⟨dg,0,none⟩) d.length b5)/\w'.cell? ⟨dg,k*2+1,none⟩=some (.pointer (some ⟨d[k].2,0,none⟩))) (first|go_keep|exact⟨‹_›,‹_›⟩)
    (first|(go_at_call 87;refine(R5 f5.out hk _ wr b _ _ rfl f4.out C.out (Fr.drew (U _ _))).mono ?_;rintro e w5 ⟨rfl,i4,j0,J⟩))
   have h5:=C.out.fr J (fun _ _=>id);have o:d[k].2∈M.ids:=C.out.Ad _ (Iu hk);have d8:(zm d l M.file i d[k].2).bytes.length<=1000000000000:=Im (Vj _ _ _ _ _) (g2 _ o);have a1:=h5.le _ o;have c1:=(h5.files _ o).cell;have i6:=(h5.files _ o).frozen;obtain⟨fa,fc,b1⟩:=zg (h5.rows _ o);rw[b1] at c1;simp only at a1 c1 b1;have d2:Yo w5 tv l:=by
    have d9:Fr (fun k=>k=b\/Foot b L M k) w w5:=by
     refine Fr.trans' (Fr.set (Fr.set (U _ w) (p:=⟨b,0,none⟩) (fun _=>.inl rfl) L.BB) (p:=⟨b,0,none⟩) (fun _=>.inl rfl) V) (y.out.fr.trans (J.mono (fun _ _=>False.elim))) ?_;intro j _ G;refine .inr ?_;cases G using Foot.elim with
     | blk=>exact .Bi
     | dir e=>exact d1.out _ e
     | safe e=>exact .safe e
     | ch e=>exact .ch e
     | chs i s e=>exact .Bl i s e
     | file e=>exact .file e
     | row f hf e=>exact .row f hf e
    refine HT.out.fr d9 ?_;intro j e6 G hb;rcases hb with rfl|hb
    .exact f0 _ e6 G .Bi
    .exact f0 j e6 G hb
   have r:=Z b1;have H5:=Z h5;have f6:=Z d2;have i0:=Z a1;clear h5 b1 d2;generalize hF:zm d l M.file i d[k].2=F at c1 a1 d8;have B:=Z hF;clear hF;by_cases K:i<l.length
   .obtain⟨tg,toff,tcap,htv',htc⟩:∃ g a4 a7,tv=.slice (some ⟨g,a4,none⟩) l.length a7/\w5.cell? ⟨g,a4+i,none⟩=some (.int .i64 l[i]):=by
     rcases f6.out with⟨_,h0⟩|⟨g,a4,a7,hv,_,_,c0⟩
     .subst h0;simp at K
     .exact⟨g,a4,a7,hv,c0 i K⟩
    have g8:ta=some ⟨tg,toff,none⟩:=by have:=f7.out.symm.trans htv';simp at this;exact this.1
    subst g8;have e0:l.getD i 0=l[i]:=by simp[List.getD,K]
    have HG:=Z e0;have j2:=(f1 l[i] (Iu K)).1;have j3:=(f1 l[i] (Iu K)).2;clear e0;generalize l[i]=tx at *;obtain⟨E,X⟩:∃ E:Nat,E=F.bytes.length-F.safe:=⟨_,rfl⟩;have u:∀ wx:World,Calls Tryz.prog 85 #[.int .i64 tx,.int .i64 E] wx fun e w'=>e=.returned (.int .i64 (zY tx E))/\w'=wx :=
     fun wx=>YY _ _ wx (by omega) (by omega) (by omega)
    have q:=Z u;have a3:=Yy tx E;clear u;generalize hP:zY tx E=pn at a3 q;have Q:=Z hP;clear hP;obtain⟨m,a2⟩:∃ m:Nat,m=F.safe+pn:=⟨_,rfl⟩;have h3:IntKind.i64.wrap ((F.bytes.length:Int)-(F.safe:Int))=(E:Int):=by simp (disch:=omega) only[FT];omega
    have h4:IntKind.i64.wrap ((F.safe:Int)+(pn:Int))=(m:Int):=by simp (disch:=omega) only[FT];omega
    have N:=Z X;have O:=Z a2;have c5:m<=F.bytes.length:=by omega
    have c0:F.bytes.length<=fc:=by
     rcases (H5.out.rows _ o).2 with⟨s,h2⟩|⟨_,_,_,s,_,_,h2,_⟩
     .simp only[B.out] at h2;omega
     .rw[r.out] at s;simp only[B.out] at s h2;simp at s;omega
    have g6:(0:Int)<=(m:Int):=by omega
    have g7:(m:Int)<=(fc:Int):=by omega
    clear X a2 a3;by_cases c2:fc=0
    .have hm0:m=0:=by omega
     go_wp2_with fail;refine GD 26 (by kernel_rfl) (by kernel_rfl) ?_;simp only[Hv,Gs,GC,Gr]
     iterate 21 still_step
     still_call (q.out _)
     iterate 4 still_step
     refine FX ?_
     go_wp2
     obtain rfl:m=0:=hm0;refine⟨⟨i+1,by omega,by go_num,?_⟩,by simp[intOf];omega⟩;refine Zy.step (v:=.slice fa 0 0) (m:=0) y.out C.out a5.out J D a6.out o ?_ ?_ ?_
     .show 0=(zm d l M.file i d[k].2).safe+zY (l.getD i 0) ((zm d l M.file i d[k].2).bytes.length-(zm d l M.file i d[k].2).safe)
      rw[B.out,HG.out,<- N.out,Q.out];exact O.out
     .have hr:=H5.out.rows _ o
      simp only[B.out] at hr;rw[r.out] at hr;simp only[B.out] at hr;have hz:F.bytes.length=0:=by omega
      rw[hz,c2] at hr;have b9:F.bytes=[]:=IY hz;show w5.ownsRow 0 5 1 (.slice fa 0 0) 0 (u8s ((zm d l M.file i d[k].2).bytes.take 0));rw[b9] at hr
      simpa using hr
     .intro j G
      rw[r.out];cases fa with
      | none=>exact G
      | some a=>exact G
    .obtain⟨gb,hgb⟩:∃ gb,fa=some ⟨gb,0,none⟩:=by
      rcases (H5.out.rows _ o).2 with⟨s,_⟩|⟨g,_,_,s,_⟩
      .rw[r.out] at s;simp at s;omega
      .rw[r.out] at s;simp at s;exact⟨g,s.1⟩
     subst hgb;go_wp2_with fail;refine GD 26 (by kernel_rfl) (by kernel_rfl) ?_;simp only[Hv,Gs,GC,Gr]
     iterate 21 still_step
     still_call (q.out _)
     iterate 4 still_step
     refine FX ?_
     go_wp2
     refine⟨⟨i+1,by omega,by go_num,?_⟩,by simp[intOf];omega⟩;refine Zy.step (v:=.slice (some ⟨gb,0,none⟩) m fc) (m:=m) y.out C.out a5.out J D a6.out o ?_ ?_ ?_
     .show m=(zm d l M.file i d[k].2).safe+zY (l.getD i 0) ((zm d l M.file i d[k].2).bytes.length-(zm d l M.file i d[k].2).safe)
      rw[B.out,HG.out,<- N.out,Q.out];exact O.out
     .have hr:=H5.out.rows _ o
      simp only[B.out] at hr;rw[r.out] at hr;simp only[B.out] at hr;show w5.ownsRow 0 5 1 (.slice (some ⟨gb,0,none⟩) m fc) m (u8s ((zm d l M.file i d[k].2).bytes.take m));rw[B.out];have:=VI hr c5;rw[show u8s (F.bytes.take m)=(u8s F.bytes).take m by simp[u8s]];exact this
     .intro j G
      rw[r.out];exact G
   .have HG:Hid (l.getD i 0=0):=by simp[Hid,List.getD,K]
    obtain⟨E,X⟩:∃ E:Nat,E=F.bytes.length-F.safe:=⟨_,rfl⟩;have u:∀ wx:World,Calls Tryz.prog 85 #[.int .i64 0,.int .i64 E] wx fun e w'=>e=.returned (.int .i64 (zY 0 E))/\w'=wx :=
     fun wx=>YY _ _ wx (by omega) (by omega) (by omega)
    have q:=Z u;have a3:=Yy 0 E;clear u;generalize hP:zY 0 E=pn at a3 q;have Q:=Z hP;clear hP;obtain⟨m,a2⟩:∃ m:Nat,m=F.safe+pn:=⟨_,rfl⟩;have h3:IntKind.i64.wrap ((F.bytes.length:Int)-(F.safe:Int))=(E:Int):=by simp (disch:=omega) only[FT];omega
    have h4:IntKind.i64.wrap ((F.safe:Int)+(pn:Int))=(m:Int):=by simp (disch:=omega) only[FT];omega
    have N:=Z X;have O:=Z a2;have c5:m<=F.bytes.length:=by omega
    have c0:F.bytes.length<=fc:=by
     rcases (H5.out.rows _ o).2 with⟨s,h2⟩|⟨_,_,_,s,_,_,h2,_⟩
     .simp only[B.out] at h2;omega
     .rw[r.out] at s;simp only[B.out] at s h2;simp at s;omega
    have g6:(0:Int)<=(m:Int):=by omega
    have g7:(m:Int)<=(fc:Int):=by omega
    clear X a2 a3;by_cases c2:fc=0
    .have hm0:m=0:=by omega
     go_wp2_with fail;refine GD 26 (by kernel_rfl) (by kernel_rfl) ?_;simp only[Hv,Gs,GC,Gr]
     iterate 21 still_step
     still_call (q.out _)
     iterate 4 still_step
     refine FX ?_
     go_wp2
     obtain rfl:m=0:=hm0;refine⟨⟨i+1,by omega,by go_num,?_⟩,by simp[intOf];omega⟩;refine Zy.step (v:=.slice fa 0 0) (m:=0) y.out C.out a5.out J D a6.out o ?_ ?_ ?_
     .show 0=(zm d l M.file i d[k].2).safe+zY (l.getD i 0) ((zm d l M.file i d[k].2).bytes.length-(zm d l M.file i d[k].2).safe)
      rw[B.out,HG.out,<- N.out,Q.out];exact O.out
     .have hr:=H5.out.rows _ o
      simp only[B.out] at hr;rw[r.out] at hr;simp only[B.out] at hr;have hz:F.bytes.length=0:=by omega
      rw[hz,c2] at hr;have b9:F.bytes=[]:=IY hz;show w5.ownsRow 0 5 1 (.slice fa 0 0) 0 (u8s ((zm d l M.file i d[k].2).bytes.take 0));rw[b9] at hr
      simpa using hr
     .intro j G
      rw[r.out];cases fa with
      | none=>exact G
      | some a=>exact G
    .obtain⟨gb,hgb⟩:∃ gb,fa=some ⟨gb,0,none⟩:=by
      rcases (H5.out.rows _ o).2 with⟨s,_⟩|⟨g,_,_,s,_⟩
      .rw[r.out] at s;simp at s;omega
      .rw[r.out] at s;simp at s;exact⟨g,s.1⟩
     subst hgb;go_wp2_with fail;refine GD 26 (by kernel_rfl) (by kernel_rfl) ?_;simp only[Hv,Gs,GC,Gr]
     iterate 21 still_step
     still_call (q.out _)
     iterate 4 still_step
     refine FX ?_
     go_wp2
     refine⟨⟨i+1,by omega,by go_num,?_⟩,by simp[intOf];omega⟩;refine Zy.step (v:=.slice (some ⟨gb,0,none⟩) m fc) (m:=m) y.out C.out a5.out J D a6.out o ?_ ?_ ?_
     .show m=(zm d l M.file i d[k].2).safe+zY (l.getD i 0) ((zm d l M.file i d[k].2).bytes.length-(zm d l M.file i d[k].2).safe)
      rw[B.out,HG.out,<- N.out,Q.out];exact O.out
     .have hr:=H5.out.rows _ o
      simp only[B.out] at hr;rw[r.out] at hr;simp only[B.out] at hr;show w5.ownsRow 0 5 1 (.slice (some ⟨gb,0,none⟩) m fc) m (u8s ((zm d l M.file i d[k].2).bytes.take m));rw[B.out];have:=VI hr c5;rw[show u8s (F.bytes.take m)=(u8s F.bytes).take m by simp[u8s]];exact this
     .intro j G
      rw[r.out];exact G
  .have D:i=d.length:=by omega
   subst D;obtain⟨Li,A,e1,e2,e3,e4,a0⟩:=y.out.Bt;have T:=A.Bi.cell;have c3:=A.Bi.frozen;simp only[DM.cells,e1,e2,e3] at T;simp only[b8.out,f2.out,d0.out] at T;have g5:=A;have C:=Z A;have HE:=Z (⟨e1,e2,e3,e4,a0⟩:_/\_/\_/\_/\_);clear A e1 e2 e3 e4 a0 g5
   go_wp2
   go_end0
   refine⟨rfl,?_⟩;rw[<- b8.out];refine R6 f3.out y.out zd ?_;intro k hk;cases hk using Foot.elim with
   | blk=>exact .Bi
   | dir e=>exact d1.out _ e
   | safe e=>exact .safe e
   | ch e=>exact .ch e
   | chs i s e=>exact .Bl i s e
   | file e=>exact .file e
   | row f hf e=>exact .row f hf e
theorem OD(c:Int)(a:List Int)(o:Value)(w:World)(b:Nat)(L:DL)(M:DM)(h:DRep w b L M)(g:-9223372036854775808<=c)(i:c<=9223372036854775807)
 (s:Yo w o a)(l:∀ k,a≠[]->o.ownBlock=some k->¬Foot b L M k)(m:∀ x,x∈a->-9223372036854775808<=x/\x<=9223372036854775807)
 (j:∀ f,f∈M.ids->(M.file f).bytes.length<=1000000000000)(r:M.Bl.length+1<=1000000000000)(q:∀ d,d∈M.safe::M.Bl->d.length<=1000000000000) :
 Calls Tryz.prog 33 #[.pointer (some ⟨b,0,none⟩),.int .i64 c,o] w fun e v =>
  e=.returned (.tuple #[])/\∃ t,DStep b L M w t (M.Bw c a) v:=by
 have y:=Yy c M.Bl.length;cases hk:zY c M.Bl.length with
 | zero=>exact Mv c a o w b L M h g i s l m j r q hk
 | succ u=>exact Mw c a o w b L M h g i s l m j r q u (by omega) hk
theorem Pk:((Tryz.prog.info? 146).map fun i=>(i.zero.map (·.cells.size),i.size,i.bytes))=some (some 1,1,8):=by kernel_rfl
def ptrs(l:List Nat):List Value:=l.map fun k=>.pointer (some ⟨k,0,none⟩)
structure Twin(w0 w:World)(bo bm:Nat)(M:DM)(os:List Nat)(ps:List (Nat × Nat))(vo vm:Value)(fV:Nat->Value):Prop where
 co:Blk w bo [vo] 168
 cm:Blk w bm [vm] 168
 ne:bo≠bm
 old:w.ownsRow 0 146 1 vo os.length (ptrs os)
 made:w.ownsRow 0 146 1 vm ps.length (ptrs (ps.map Prod.snd))
 yq:∀ k,vo.ownBlock=some k->vm.ownBlock≠some k
 files:∀ p,p∈ps->Blk w p.2 [fV p.2,.int .i64 (M.file p.1).safe] 152
 rows:∀ p,p∈ps->w.ownsRow 0 5 1 (fV p.2) (M.file p.1).bytes.length (u8s (M.file p.1).bytes)
 sep:∀ p,p∈ps->∀ q,q∈ps->p.2≠q.2->∀ k,(fV p.2).ownBlock=some k->(fV q.2).ownBlock≠some k
 n1:os.Nodup
 n2:(ps.map Prod.snd).Nodup
 ids:∀ f,f∈os->f∈M.ids
 nbo:w0.heap.size<=bo
 nbm:w0.heap.size<=bm
 no:∀ k,vo.ownBlock=some k->w0.heap.size<=k
 nm:∀ k,vm.ownBlock=some k->w0.heap.size<=k
 nf:∀ p,p∈ps->w0.heap.size<=p.2
 nr:∀ p,p∈ps->∀ k,(fV p.2).ownBlock=some k->w0.heap.size<=k
 fr:Fr Nil w0 w
theorem Twin.BS{l w k:World}{c b:Nat}{M:DM}{e:List Nat}{g:List (Nat × Nat)}{j i:Value}{d:Nat->Value}(h:Twin l w c b M e g j i d)(f:Fr Nil w k) :
 Twin l k c b M e g j i d :=
 {h with
  co:=h.co.fr f id
  cm:=h.cm.fr f id
  old:=ze h.old f (fun _ _=>id)
  made:=ze h.made f (fun _ _=>id)
  files:=fun p a=>(h.files p a).fr f id
  rows:=fun p a=>ze (h.rows p a) f (fun _ _=>id)
  fr:=h.fr.trans f}
theorem Twin.yT{E w A o:World}{j G:Nat}{M:DM}{s:List Nat}{K:List (Nat × Nat)}{m L c:Value}{I:Nat->Value}(h:Twin E w j G M s K m L I)(B:Fr Nil w A){f:Nat}
 (u:App A m 146 1 (s.length+1) (ptrs s++[.pointer (some ⟨f,0,none⟩)]) c o)(N:f∉s)(O:f∈M.ids) :
 Twin E (o.setCell ⟨j,0,none⟩ c) j G M (s++[f]) K c L I/\Fr (fun k=>k=j\/m.ownBlock=some k) w (o.setCell ⟨j,0,none⟩ c) /\
  (∀ k,c.ownBlock=some k->m.ownBlock=some k\/w.heap.size<=k):=by
 have d:=h.BS B;have Q:=B.size;have q:∀ k,c.ownBlock=some k->m.ownBlock=some k\/A.heap.size<=k:=by
  intro k i;rcases u.at_ with e|e
  .exact .inl (by rw[<- e];exact i)
  .rw[e] at i;simp at i;exact .inr (by omega)
 have v:Blk o j [m] 168:=d.co.fr u.fr (zi d.old d.co (by decide));have y:Fr (fun k=>k=j) o (o.setCell ⟨j,0,none⟩ c):=Fr.set (S:=fun k=>k=j) (p:=⟨j,0,none⟩) (U _ _) (fun _=>rfl) c;have l:Fr (fun k=>k=j\/m.ownBlock=some k) A (o.setCell ⟨j,0,none⟩ c) :=
  (u.fr.mono (fun _ _=>.inr)).trans (y.mono (fun _ _=>.inl))
 have x:Fr (fun k=>k=j\/m.ownBlock=some k) w (o.setCell ⟨j,0,none⟩ c):=(B.mono (fun _ _=>False.elim)).trans l;have D:∀ k,c.ownBlock=some k->E.heap.size<=k:=by
  intro k i;rcases q k i with e|e
  .exact h.no k e
  .have:=d.fr.size;omega
 refine⟨?_,x,fun k i=>(q k i).imp id (fun e=>by omega)⟩;refine {h with
  co:=v.set 0 c
  cm:=d.cm.fr l (fun e=>?_)
  old:=?_
  made:=ze d.made l (fun k i e=>?_)
  yq:=fun k i e=>?_
  files:=fun p r=>(d.files p r).fr l (fun e=>?_)
  rows:=fun p r=>ze (d.rows p r) l (fun k i e=>?_)
  n1:=?_
  ids:=?_
  no:=D
  fr:=Fr.trans' h.fr x (fun k i e=>?_)}
 .rcases e with e|e
  .exact h.ne e.symm
  .exact zi d.old d.cm (by decide) e
 .have e:ptrs (s++[f])=ptrs s++[.pointer (some ⟨f,0,none⟩)]:=by simp[ptrs]
  rw[e,Il];exact ze u.own y (fun k i e=>by subst e;exact zi u.own v (by decide) i)
 .rcases e with e|e
  .subst e;exact zi d.made d.co (by decide) i
  .exact h.yq k e i
 .rcases q k i with e'|e'
  .exact h.yq k e' e
  .have:=own_lt d.made e;omega
 .rcases e with e|e
  .exact(d.files p r).ne d.co (by decide) e
  .exact zi d.old (d.files p r) (by decide) e
 .rcases e with e|e
  .subst e;exact zi (d.rows p r) d.co (by decide) i
  .exact Zb d.old (d.rows p r) (by decide) e i
 .rw[GH]
  refine⟨h.n1,by simp,?_⟩;intro a C b J;simp at J;subst J;intro e;subst e;exact N C
 .intro g t
  rcases Ir.1 t with t|t
  .exact h.ids g t
  .simp at t;subst t;exact O
 .rcases e with e|e
  .have:=h.nbo;omega
  .have:=h.no k e;omega
theorem Twin.yK{w0 w A t:World}{bo m:Nat}{M:DM}{os:List Nat}{x:List (Nat × Nat)}{vo y j v8:Value}{R:Nat->Value}(h:Twin w0 w bo m M os x vo y R)(Q:Fr Nil w A){f u:Nat}
 (N:A.ownsRow 0 5 1 v8 (M.file f).bytes.length (u8s (M.file f).bytes))(C:∀ k,v8.ownBlock=some k->w.heap.size<=k)
 (X:Blk A u [v8,.int .i64 (M.file f).safe] 152)(a0:w.heap.size<=u)
 (D:App A y 146 1 (x.length+1) (ptrs (x.map Prod.snd)++[.pointer (some ⟨u,0,none⟩)]) j t) :
 Twin w0 (t.setCell ⟨m,0,none⟩ j) bo m M os (x++[(f,u)]) vo j (fun g=>if g=u then v8 else R g)/\Fr (fun k=>k=m\/y.ownBlock=some k) w (t.setCell ⟨m,0,none⟩ j) /\
  (∀ k,j.ownBlock=some k->y.ownBlock=some k\/w.heap.size<=k):=by
 have o:=h.BS Q;have a2:=Q.size;have a1:=h.fr.size;have B:∀ k,j.ownBlock=some k->y.ownBlock=some k\/A.heap.size<=k:=by
  intro k i;rcases D.at_ with e|e
  .exact .inl (by rw[<- e];exact i)
  .rw[e] at i;simp at i;exact .inr (by omega)
 have E:Blk t m [y] 168:=o.cm.fr D.fr (zi o.made o.cm (by decide));have O:Fr (fun k=>k=m) t (t.setCell ⟨m,0,none⟩ j):=Fr.set (S:=fun k=>k=m) (p:=⟨m,0,none⟩) (U _ _) (fun _=>rfl) j;have r:Fr (fun k=>k=m\/y.ownBlock=some k) A (t.setCell ⟨m,0,none⟩ j) :=
  (D.fr.mono (fun _ _=>.inr)).trans (O.mono (fun _ _=>.inl))
 have I:Fr (fun k=>k=m\/y.ownBlock=some k) w (t.setCell ⟨m,0,none⟩ j):=(Q.mono (fun _ _=>False.elim)).trans r;have l:∀ p,p∈x->p.2≠u:=by
  intro p d e;have:=(h.files p d).lt;omega
 have L:∀ p,p∈x->∀ k,(R p.2).ownBlock=some k->k<w.heap.size:=fun p d k i=>own_lt (h.rows p d) i;have G:∀ {c:List Value} {g:Nat},Blk A g c 152->Blk (t.setCell ⟨m,0,none⟩ j) g c 152:=by
  intro c g V;refine V.fr r (fun e=>?_);rcases e with e|e
  .exact V.ne o.cm (by decide) e
  .exact zi o.made V (by decide) e
 have K:∀ {v:Value} {n:Nat} {xs:List Value},A.ownsRow 0 5 1 v n xs->(t.setCell ⟨m,0,none⟩ j).ownsRow 0 5 1 v n xs:=by
  intro v n xs Y;refine ze Y r (fun k i e=>?_);rcases e with e|e
  .subst e;exact zi Y o.cm (by decide) i
  .exact Zb o.made Y (by decide) e i
 refine⟨?_,I,fun k i=>(B k i).imp id (fun e=>by omega)⟩;refine {h with
  co:=o.co.fr r (fun e=>?_)
  cm:=E.set 0 j
  old:=ze o.old r (fun k i e=>?_)
  made:=?_
  yq:=fun k i e=>?_
  files:=fun p d=>?_
  rows:=fun p d=>?_
  sep:=fun p d q s J k i e=>?_
  n2:=?_
  nm:=fun k i=>?_
  nf:=fun p d=>?_
  nr:=fun p d k i=>?_
  fr:=Fr.trans' h.fr I (fun k i e=>?_)}
 .rcases e with e|e
  .exact h.ne e
  .exact zi o.made o.co (by decide) e
 .rcases e with e|e
  .subst e;exact zi o.old o.cm (by decide) i
  .exact h.yq k i e
 .have e:ptrs ((x++[(f,u)]).map Prod.snd)=ptrs (x.map Prod.snd)++[.pointer (some ⟨u,0,none⟩)]:=by simp[ptrs]
  rw[e,Il];exact ze D.own O (fun k i e=>by subst e;exact zi D.own E (by decide) i)
 .rcases B k e with e'|e'
  .exact h.yq k i e'
  .have:=own_lt o.old i;omega
 .rcases Ir.1 d with d|d
  .simp only[l p d,Hy]
   exact G (o.files p d)
  .simp at d;subst d
   simp only[Gh];exact G X
 .rcases Ir.1 d with d|d
  .simp only[l p d,Hy]
   exact K (o.rows p d)
  .simp at d;subst d
   simp only[Gh];exact K N
 .rcases Ir.1 d with d|d <;> rcases Ir.1 s with s|s
  .simp only[l p d,l q s,Hy] at i e
   exact h.sep p d q s J k i e
  .simp at s;subst s
   simp only[l p d,Hy] at i;simp only[Gh] at e;have:=L p d k i;have:=C k e;omega
  .simp at d;subst d
   simp only[l q s,Hy] at e;simp only[Gh] at i;have:=L q s k e;have:=C k i;omega
  .simp at d s;subst d;subst s
   exact J rfl
 .rw[IL,GH]
  refine⟨h.n2,by simp,?_⟩;intro a T b hb;simp at hb;subst hb;obtain⟨p,d,rfl⟩:=Iy.1 T;exact l p d
 .rcases B k i with e|e
  .exact h.nm k e
  .omega
 .rcases Ir.1 d with d|d
  .exact h.nf p d
  .simp at d;subst d;show w0.heap.size<=u;omega
 .rcases Ir.1 d with d|d
  .simp only[l p d,Hy] at i
   exact h.nr p d k i
  .simp at d;subst d
   simp only[Gh] at i;have:=C k i;omega
 .rcases e with e|e
  .have:=h.nbm;omega
  .have:=h.nm k e;omega
def cnt:List Fact->Nat->Nat
 | [],_=>0
 | x::r,n=>if (zS (zw x)).length<=n then cnt r (n-(zS (zw x)).length)+1 else 0
theorem T7:∀(a:List Fact){n m:Nat},n<=m->cnt a n<=cnt a m
 | [],_,_,_=>Io _
 | x::r,n,m,h=>by
  unfold cnt;split
  .rw[IC (by omega)]
   have:=T7 r (n:=n-(zS (zw x)).length) (m:=m-(zS (zw x)).length) (by omega);omega
  .exact II _
theorem Up:∀(a:List Fact)(n:Nat),cnt a n<=a.length
 | [],_=>Io _
 | x::r,n=>by
  unfold cnt;split
  .have:=Up r (n-(zS (zw x)).length)
   rw[Iz];omega
  .exact II _
theorem Nm:∀(b a:List Fact)(n:Nat),cnt b n<=cnt (b++a) n
 | [],_,_=>II _
 | x::r,a,n=>by
  rw[IU];unfold cnt;split
  .have:=Nm r a (n-(zS (zw x)).length)
   omega
  .exact Io _
theorem XY(x:Fact)(r:List Fact):zD (x::r)=zS (zw x)++zD r:=by simp[zD]
theorem Nn:∀(a:List Fact)(n:Nat),(zD a).length<=n->cnt a n=a.length
 | [],_,_=>rfl
 | x::r,n,h=>by
  rw[XY,Il] at h;unfold cnt;rw[IC (by omega),Nn r _ (by omega),Iz]
theorem LO{l:List UInt8}(h:Torn l)(n:Nat):Torn (l.take n):=by
 obtain⟨a,b,c,d⟩:=h;refine⟨a,(Ds n l).trans b,fun e=>c ?_,d⟩;have g:=b.length_le;have f:=Fg List.length e;rw[Ip] at f;exact b.eq_of_length (by omega)
theorem Pm:∀(b:List Fact)(a:List UInt8)(n:Nat),(∀ x∈b,ZW x)->Torn a->∃ c,(zD b++a).take n=zD (b.take (cnt b n))++c/\Torn c
 | [],a,n,_,d=>⟨a.take n,by simp[zD,cnt],LO d n⟩
 | x::r,a,n,f,d=>by
  unfold cnt;rw[XY,IA];split
  .rename_i hle
   obtain⟨c,g,h⟩:=Pm r a (n-(zS (zw x)).length) (fun y i=>f y (Iq _ i)) d;refine⟨c,?_,h⟩;rw[Hv,XY,Dq,IH hle,g,IA]
  .rename_i hgt
   refine⟨(zS (zw x)).take n,?_,zw x,Ds _ _,fun e=>?_,(f x (Is ..)).2⟩
   .rw[Ha (by omega)]
    simp[zD]
   .have:=Fg List.length e
    rw[Ip] at this;omega
def YQ(s:Seg)(n:Nat):Seg:=(s.1.take (cnt s.1 n),((Zv s).take n).drop (zD (s.1.take (cnt s.1 n))).length)
theorem UO{s:Seg}(a:WA s)(n:Nat):Zv (YQ s n)=(Zv s).take n/\WA (YQ s n):=by
 obtain⟨f,b,c⟩:=Pm s.1 s.2 n a.1 a.2;have d:((Zv s).take n).drop (zD (s.1.take (cnt s.1 n))).length=f:=by
  unfold Zv;rw[b,Fi]
 unfold YQ;rw[d];exact⟨b.symm,fun x e=>a.1 x (He e),c⟩
theorem YD:∀(a b:List Nat)(k:Nat),(∀ i (h:i<a.length),∃ c:i<b.length,a[i]<=b[i])->(a.take k).sum<=(b.take k).sum
 | [],_,_,_=>by simp
 | x::a,b,0,_=>by simp
 | x::a,[],k+1,h=>by obtain⟨c,_⟩:=h 0 (by simp);simp at c
 | x::a,y::b,k+1,h=>by
  obtain⟨_,d⟩:=h 0 (by simp);have:=YD a b k (fun i g=>by
   obtain⟨e,f⟩:=h (i+1) (by simpa using g);exact⟨by simpa using e,by simpa using f⟩)
  simp only[Hv,GY];simp only[FO] at d;omega
theorem RL(a:List Nat){k m:Nat}(h:k<=m):(a.take k).sum<=(a.take m).sum:=by
 obtain⟨d,rfl⟩:=Nat.le.dest h;rw[List.take_add,Fx];omega
theorem Ss{s:Seg}{n:Nat}(h:(Zv s).length<=n):cnt s.1 n=s.1.length:=Nn s.1 n (by unfold Zv at h;rw[Il] at h;omega)
theorem Y2{d:Dir}(c:(d.map Prod.fst).Nodup){e:ByteArray × Nat}(g:e∈d):d.look e.1=some e.2:=by
 obtain⟨a,b,rfl⟩:=EW g;unfold Dir.look;rw[List.find?_append,Em.2 (fun x h f=>?_),Option.none_or,Dd (p:=fun x:ByteArray × Nat=>x.1==e.1) (Z4.2 rfl)]
 .rfl
 .rw[IL,GH] at c
  exact c.2.2 _ (Hq h) e.1 (by simp) (Z4.1 f)
theorem St{D:Dir}(l:(D.map (·.2)).Nodup){e a:ByteArray × Nat}(k:e∈D)(b:a∈D)(h:e.2=a.2):e=a:=by
 obtain⟨m,c,f⟩:=IP.1 k;obtain⟨o,d,g⟩:=IP.1 b;have i:(D.map (·.2))[m]'(by simpa using c)=(D.map (·.2))[o]'(by simpa using d):=by simp[f,g,h]
 have j:=(Cs l).1 i;subst j;rw[<- f,<- g]
theorem R7{D:Dir}(p:(D.map Prod.fst).Nodup)(x:(D.map (·.2)).Nodup)(a:List Int)(file:Nat->FM){e:ByteArray × Nat}(q:e∈D):∀ k,k<=D.names.length ->
 ((∃ i,∃ h:i<D.names.length,i<k/\D.names[i]=e.1)->∃ c,zm D a file k e.2=ZO (file e.2) c)/\((∀ i (h:i<D.names.length),i<k->D.names[i]≠e.1)->zm D a file k e.2=file e.2)
 | 0,_=>⟨fun⟨i,_,h,_⟩=>absurd h (Hj _),fun _=>rfl⟩
 | k+1,E=>by
  have A:=VH D;have s:D.names.Nodup:=A.nodup_iff.2 p;have C:D.names[k]∈D.map Prod.fst:=A.mem_iff.1 (Iu _);obtain⟨u,d,g⟩:=Iy.1 C;have y:Dir.look D D.names[k]=some u.2:=by rw[<- g];exact Y2 p d
  obtain⟨t,f⟩:=R7 p x a file q k (by omega);unfold zm;rw[IB (by omega),Dm,y];simp only;by_cases b:e=u
  .subst b
   rw[IC rfl];have l:=f (fun i m v o=>by
    have:=(Cs s).1 (o.trans g);omega)
   rw[l];exact⟨fun _=>⟨_,rfl⟩,fun h=>absurd g.symm (h k (by omega) (Nat.lt_succ_self _))⟩
  .rw[It (fun j=>b (St x q d j))]
   have r:D.names[k]≠e.1:=fun j=>b (by
    have l:=Y2 p q;rw[<- j,y] at l;exact Prod.ext (j.symm.trans g.symm) (Hb l).symm)
   refine⟨fun⟨i,m,v,o⟩=>t ⟨i,m,?_,o⟩,fun h=>f (fun i m v=>h i m (by omega))⟩;by_cases B:i=k
   .subst B;exact absurd o r
   .omega
theorem Mx{D:Dir}(h:(D.map Prod.fst).Nodup)(g:(D.map (·.2)).Nodup)(a:List Int)(file:Nat->FM){e:ByteArray × Nat}(d:e∈D):∃ c,zm D a file D.names.length e.2=ZO (file e.2) c:=by
 have j:=VH D;obtain⟨i,b,f⟩:=IP.1 (j.mem_iff.2 (Hq d));exact(R7 h g a file d _ (Io _)).1 ⟨i,b,b,f⟩
theorem Pn(M:DM)(a:Int):M.BZ a∈M.safe::M.Bl:=by
 unfold DM.BZ;split
 .exact Is ..
 .rename_i h
  have:=Yy a M.Bl.length;refine Iq _ ?_;rw[Hl,IB (by omega),Option.getD_some];exact Iu _
def zf:ByteArray:=⟨#[110,101,119]⟩
def zn(b:Bool)(n:Nat):ByteArray:=zu (if b then Y7 else zL) n
def ZJ:Option (Bool × Nat)->ByteArray
 | none=>zf
 | some e=>zn e.1 e.2
theorem XH(k:ByteArray)(n:Nat):(zu k n).data.toList=k.data.toList++Lib.decDigits n:=by
 simp only[zu,FV,FK,Wz]
theorem Po(n:Nat):Lib.hasPrefix (zu Y7 n).data.toList zL.data.toList=false/\Lib.atoi (zu Y7 n).data.toList=none:=by
 have e:(zu Y7 n).data.toList=98::97::115::101::Lib.decDigits n:=by
  rw[XH]
  rfl
 rw[e];exact⟨rfl,rfl⟩
theorem LP(n:Nat)(a:n<10^14):(zu Y7 n).size<=18:=by
 have h:=Wy 13 n a;have e:(zu Y7 n).data.toList.length=4+(Lib.decDigits n).length:=by
  rw[XH];simp[Y7];omega
 have b:(zu Y7 n).size=(zu Y7 n).data.toList.length:=by simp
 omega
def WY(a:List (Option (Bool × Nat)))(l:List (Nat × ByteArray)):Prop:=l.length<=a.length/\∀ e,e∈l↔∃ k n,some (k,n)∈a/\e=(n,zn k n)
def Vk:Option (Bool × Nat)->Nat × Nat
 | none=>(0,0)
 | some (false,n)=>(n,0)
 | some (true,n)=>(0,n)
def YJ(a:List (Option (Bool × Nat))):List Nat:=a.filterMap fun c=>c.map (·.2)
theorem TO(c:Option (Bool × Nat))(d:∀ k n,c=some (k,n)->1<=n/\n<10^14)(w:World)(h:∀ b,Fr Nil w b->Tab b)(a:Yg w) :
 (Calls Tryz.prog 185 #[.string zL,.string (ZJ c)] w fun e b=>e=.returned (.int .i64 (Vk c).1)/\Fr Nil w b) /\
   (Calls Tryz.prog 185 #[.string Y7,.string (ZJ c)] w fun e b=>e=.returned (.int .i64 (Vk c).2)/\Fr Nil w b):=by
 match c,d with
 | none,_=>exact⟨YW zL zf rfl (by decide) rfl w a,YW Y7 zf rfl (by decide) rfl w a⟩
 | some (false,n),d =>
  obtain⟨f,g⟩:=d false n rfl;exact⟨Ul zL (by decide) n f (by omega) w h,YW Y7 (zu zL n) (P7 n).1 (KI n (by omega)) (P7 n).2 w a⟩
 | some (true,n),d =>
  obtain⟨f,g⟩:=d true n rfl;exact⟨YW zL (zu Y7 n) (Po n).1 (LP n g) (Po n).2 w a,Ul Y7 (by decide) n f (by omega) w h⟩
theorem R8(b:Nat)(L:DL)(M:DM)(w:World)(h:DRep w b L M)(a:List (Option (Bool × Nat)))(hd:M.dir.names=a.map ZJ)(b3:M.dir.length=a.length)(t:(YJ a).Nodup)(hb:∀ k n,some (k,n)∈a->1<=n/\n<10^14)(b8:a.length<1000000000)
 (ht:∀ j,Fr Nil w j->Tab j)(I:Yg w) :
 Calls Tryz.prog 145 #[.pointer (some ⟨b,0,none⟩)] w fun e j =>
  ∃ mb v l,e=.returned (.pointer (some ⟨mb,0,none⟩))/\Blk j mb [v] 263/\WT j v l/\WY a l/\w.heap.size<=mb/\(∀ k,v.ownBlock=some k->w.heap.size<=k)/\Fr Nil w j:=by
 have HL:=Z (fun u (f:Fr Nil w u)=>Wv u b L M (h.fr f (fun _ _=>id)) (by omega));rw[hd,b3] at HL;clear h;go_enter Tryz.func145,Tryz.ntmps145;go_wp2_with fail;have a8:Blk (w.alloc (.cells #[.slice none 0 0] 263)) w.heap.size [.slice none 0 0] 263:=Blk.new w [_] _;have K:Fr Nil w (w.alloc (.cells #[.slice none 0 0] 263)):=(U _ _).alloc _;generalize w.alloc (.cells #[.slice none 0 0] 263)=W0 at a8 K |-;refine(HL.out W0 K).mono ?_;rintro e w1 ⟨lv,rfl,a7,a0,c0⟩;have b6:=a8.fr a0 id;obtain⟨la,lc,rfl⟩:=zg a7;go_wp2_with fail;have HT:=Z ht;have b9:=Z I;have b2:=Z t;have HB:=Z hb;have HX:Hid (∀ c∈a,∀ u,Fr Nil w u->(Calls Tryz.prog 185 #[.string zL,.string (ZJ c)] u fun e j=>e=.returned (.int .i64 (Vk c).1)/\Fr Nil u j) /\
  (Calls Tryz.prog 185 #[.string Y7,.string (ZJ c)] u fun e j=>e=.returned (.int .i64 (Vk c).2)/\Fr Nil u j)):=fun c hc u f =>
  TO c (fun k n e=>hb k n (e▸hc)) u (fun j f'=>ht j (f.trans f')) (I.fr f id)
 clear ht I t hb;have c1:=K.size;have c2:=a0.size
 go_loopw [12] (fun a3 j=>∃ (i:Nat) (v:Value) (l:List (Nat × ByteArray)),i<=a.length/\a3=.int .i64 (i:Int)/\Blk j w.heap.size [v] 263/\WT j v l/\WY (a.take i) l/\(∀ k,v.ownBlock=some k->w.heap.size<=k)/\j.ownsRow 0 9 1 (.slice la a.length lc) a.length (strs (a.map ZJ))/\Fr Nil w j) (fun a3 _=>(a.length-intOf a3).toNat)
 case atStart =>
  refine⟨0,_,[],by omega,rfl,b6,⟨⟨rfl,.inl ⟨rfl,rfl⟩⟩,?_⟩,⟨II _,by simp⟩,fun k Q=>by simp[Value.ownBlock] at Q,a7,K.trans a0⟩;exact List.Pairwise.nil
 case round =>
  obtain⟨i,v,l,hi,rfl,d,x,o,r,s,hf⟩:=hrel;by_cases N:i<a.length
  .obtain⟨g,cap',hg,_,_⟩:=zv s (by omega)
   obtain⟨rfl,rfl⟩:la=some ⟨g,0,none⟩/\lc=cap':=by simpa using hg
   have hc:=own_cell? s i (.string (ZJ a[i])) (by simp[strs,N]);have y:=Iu N;have C:Hid (a.take (i+1)=a.take i++[a[i]]):=by
    show a.take (i+1)=_;rw[FI,IB N];rfl
   have V:Hid (∀ k n,a[i]=some (k,n)->n∉ZI l):=fun k n X Q=>by
    obtain⟨e,b4,a4⟩:=Iy.1 Q;obtain⟨R,n2,hn,rfl⟩:=(o.2 e).1 b4;simp only at a4;subst a4;have t:=b2.out;rw[<- IG i a,Hs N,X] at t;unfold YJ at t;rw[List.filterMap_append,GH] at t;exact t.2.2 n2 (DO.2 ⟨_,hn,rfl⟩) n2 (by simp) rfl
   have T:=Z (And.intro d (And.intro x (And.intro o (And.intro r (And.intro s hf)))));have A:Hid (∀ u k n,Fr Nil wr u->a[i]=some (k,n)->Calls Tryz.prog 186 #[.pointer (some ⟨w.heap.size,0,none⟩),.int .i64 (n:Int),.string (zn k n)] u fun e j =>
    e=.returned (.tuple #[])/\∃ O,(Blk j w.heap.size [O] 263/\WT j O (Wr l n (zn k n))/\WY (a.take (i+1)) (Wr l n (zn k n))/\(∀ k,O.ownBlock=some k->w.heap.size<=k)/\j.ownsRow 0 9 1 (.slice (some ⟨g,0,none⟩) a.length lc) a.length (strs (a.map ZJ))/\Fr Nil w j)):=fun u k n f X=>by
    have G:=ze s f (fun _ _=>id);have a9:=d.fr f id;have D:=x.fr f (fun _ _=>id);have c3:=(hf.trans f).size;refine(Mn v [] l n (zn k n) w.heap.size 263 u a9 (by decide) D (by have:=o.1;have:=List.length_take_le i a;omega) (LF (V.out k n X))).mono ?_;rintro e w4 ⟨rfl,O,b7,Y,a6,a1⟩;refine⟨rfl,O,b7,Y,⟨?_,fun e=>?_⟩,fun k Q=>?_,ze G a6 (fun k Q e=>?_),?_⟩
    .have:=o.1
     rw[UL,C.out,Il,Ix];omega
    .rw[KH,C.out,o.2 e]
     constructor
     .rintro(⟨R,m,d,rfl⟩|rfl)
      .exact⟨R,m,by simp only[Ir];exact .inl d,rfl⟩
      .exact⟨k,n,by simp[X],rfl⟩
     .rintro⟨R,m,d,rfl⟩
      simp only[Ir,Iv] at d;rcases d with d|d
      .exact .inl ⟨R,m,d,rfl⟩
      .rw[X] at d;cases d;exact .inr rfl
    .rcases a1 k Q with h1|h1
     .exact r k h1
     .omega
    .have h0:=zH G Q
     rcases e with rfl|e
     .exact absurd (Ty.inj h0 (Blk.ty a9)) (by decide)
     .exact absurd (Ty.inj h0 (zH D.own e)) (by decide)
    .refine(hf.trans f).trans' a6 (fun k Q e=>?_)
     rcases e with rfl|e
     .omega
     .have:=r k e;omega
   have J:Hid (a[i]=none->WY (a.take (i+1)) l):=fun X=>by
    refine⟨?_,fun e=>?_⟩
    .have:=o.1
     rw[C.out,Il,Ix];omega
    .rw[C.out,o.2 e]
     constructor
     .rintro⟨R,m,d,rfl⟩
      exact⟨R,m,by simp only[Ir];exact .inl d,rfl⟩
     .rintro⟨R,m,d,rfl⟩
      simp only[Ir,Iv] at d;rcases d with d|d
      .exact⟨R,m,d,rfl⟩
      .rw[X] at d;cases d
   have B:Hid (∀ k n,a[i]=some (k,n)->1<=n):=fun k n e=>(HB.out k n (e▸y)).1;clear d x o r s hf;generalize a[i]=c at hc y V A J B C;clear C V;go_wp2_with fail;refine((HX.out c y wr T.out.2.2.2.2.2).1).mono ?_;rintro e w2 ⟨rfl,a5⟩;go_wp2_with fail;refine((HX.out c y w2 (T.out.2.2.2.2.2.trans a5)).2).mono ?_;rintro e w3 ⟨rfl,b5⟩;have q:=a5.trans b5
   match c,B,A,J with
   | none,_,_,J =>
    have b0:¬(0:Int)<0:=by omega
    simp only[Vk];go_wp2_with fail;exact⟨⟨i+1,v,l,by omega,by go_num,T.out.1.fr q id,T.out.2.1.fr q (fun _ _=>id),J.out rfl,T.out.2.2.2.1,ze T.out.2.2.2.2.1 q (fun _ _=>id),T.out.2.2.2.2.2.trans q⟩,by simp[intOf];omega⟩
   | some (false,n),B,A,_ =>
    have b1:=B.out false n rfl;have a2:(0:Int)<n:=by omega
    have b0:¬(n:Int)<0:=by omega
    simp only[Vk];go_wp2_with fail;refine(A.out w3 false n q rfl).mono ?_;rintro e w4 ⟨rfl,O,E⟩;go_wp2_with fail;exact⟨⟨i+1,O,_,by omega,by go_num,E⟩,by simp[intOf];omega⟩
   | some (true,n),B,A,_ =>
    have b1:=B.out true n rfl;have a2:(0:Int)<n:=by omega
    have b0:¬(n:Int)<0:=by omega
    simp only[Vk];go_wp2_with fail;refine(A.out w3 true n q rfl).mono ?_;rintro e w4 ⟨rfl,O,E⟩;go_wp2_with fail;exact⟨⟨i+1,O,_,by omega,by go_num,E⟩,by simp[intOf];omega⟩
  .have hil:i=a.length:=by omega
   subst hil;go_wp2_with fail;go_ret;rw[ID] at o;exact⟨_,v,l,rfl,d,x,o,Io _,r,hf⟩
end Go.Proofs.YtkhnggkkiefcdaaGreatDoor
