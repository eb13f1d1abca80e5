/- larder: joined texts -/
import Derived.Test.YtkhnggkkiefcdaaGreatDoorNMAL
import Derived.Test.YtkhnggkkiefcdaaGreatDoorNMAM
namespace Go.Proofs.YtkhnggkkiefcdaaGreatDoor
open Go.RowKit
set_option maxRecDepth 100000
set_option maxHeartbeats 8000000
structure Zs(w0:World)(b:Nat)(L0:DL)(M0:DM)(Bw:List Int)(nv:Value)(i:Nat)(w:World):Prop where
 CK:∃ L,DRep w b L {M0 with file:=zl M0.dir Bw M0.file i}/\L.Be=L0.Be/\L.CS=L0.CS/\L.BM=L0.BM/\L.CW=L0.CW/\(∀ k,Foot b L {M0 with file:=zl M0.dir Bw M0.file i} k->Foot b L0 M0 k)
 fr:Fr (Foot b L0 M0) w0 w
 names:w.ownsRow 0 9 1 nv M0.dir.length (strs M0.dir.names)
theorem Pd(f:FM)(c:Int)(h:f.safe<=f.bytes.length):f.safe+zW c (f.bytes.length-f.safe)<=f.bytes.length:=by
 have:=Yu c (f.bytes.length-f.safe);omega
theorem WK(d:Dir):d.names.length=d.length:=VK d _ (JS _)
theorem Kn(l:List ByteArray)(x y:ByteArray)(h:y∈YE l x):y=x\/y∈l:=by
 induction l with
 | nil=>simp[YE] at h;exact .inl h
 | cons a r b =>
  simp only[YE] at h;split at h
  .rcases Ix.1 h with h|h
   .exact .inr (by simp[h])
   .rcases b h with h|h
    .exact .inl h
    .exact .inr (JV _ h)
  .rcases Ix.1 h with h|h
   .exact .inl h
   .exact .inr h
theorem NS(d:Dir):∀ k,k<=d.length->∀ y,y∈Yh d k->∃ e,e∈d/\e.1=y:=by
 intro k
 induction k with
 | zero=>intro _ y a;simp[Yh] at a
 | succ k b =>
  intro h y a;rw[V1 d k h,List.mem_reverse] at a;rcases Kn _ _ _ a with rfl|a
  .exact⟨d[k],Ia h,rfl⟩
  .exact b (by omega) y (by simpa using a)
theorem UC(d:Dir)(y:ByteArray)(h:y∈d.names):∃ k:Nat,∃ c:k<d.length,zO d y=k/\Dir.look d y=some d[k].2:=by
 obtain⟨e,f,rfl⟩:=NS d _ (JS _) y h;rcases Yq d e.1 with⟨b,a⟩|⟨k,c,b,a,_⟩
 .exfalso
  cases hf:d.find? (fun x=>x.1==e.1) with
  | none=>exact absurd (show(e.1==e.1)=true by rw[fFS];simp) (FN.1 hf e f)
  | some x=>simp[Dir.look,hf] at a
 .exact⟨k,c,b,a⟩
theorem JO{d:Dir}{a:ByteArray}{k:Nat}(m:zO d a=k)(w g:World)(b:Nat)(L:DL)(M:DM)(l:M.dir=d)(h:DRep g b L M)(c:Fr Nil g w) :
 Calls Tryz.prog 87 #[L.Be,.string a] w fun e f=>e=.returned (.int .i64 k)/\f.cell? ⟨b,0,none⟩=some L.Be/\Fr Nil g f:=by
 subst l;refine(zT m w (h.fr c (fun _ _=>id)).dir).mono fun e f ⟨j,i⟩=>⟨j,?_,c.trans i⟩;exact((h.fr (c.trans i) (fun _ _=>id)).CB.cell 0)
theorem V7(d:Dir)(a:List Int)(file:Nat->FM):∀ i f,(zl d a file i f).bytes.length<=(file f).bytes.length:=by
 intro i
 induction i with
 | zero=>intro f;exact JS _
 | succ i b =>
  intro f;cases hx:(d.names[i]?).bind (Dir.look d) with
  | none=>simp only[zl,hx];exact b f
  | some g =>
   simp only[zl,hx];split
   .rename_i e
    subst e;have:=b f;simp only[ZH,JU];omega
   .exact b f
theorem Ol(d:Dir)(a:List Int)(file:Nat->FM)(i f:Nat)(b:i<d.names.length)(h:Dir.look d d.names[i]=some f) :
 zl d a file (i+1)=fun g=>if g=f then ZH (zl d a file i f) (a.getD i 0) else zl d a file i g:=by
 simp only[zl,Ii b,EH,h]
theorem Rh{d:Dir}{a:ByteArray}{k:Nat}(u:zO d a=k)(t:k<d.length)(w o:World)(b:Nat)(L:DL)(M:DM)(s:M.dir=d){g c:Nat}(q:L.Be=.slice (some ⟨g,0,none⟩) d.length c)(h:DRep o b L M)(l:Fr Nil o w) :
 Calls Tryz.prog 87 #[.slice (some ⟨g,0,none⟩) d.length c,.string a] w fun e f=>e=.returned (.int .i64 k)/\f.cell? ⟨b,0,none⟩=some (.slice (some ⟨g,0,none⟩) d.length c) /\
  f.cell? ⟨g,k*2+1,none⟩=some (.pointer (some ⟨d[k].2,0,none⟩))/\Fr Nil o f:=by
 subst s;have j:=(h.fr l (fun _ _=>id)).dir;rw[q] at j;refine(zT u w j).mono fun e f ⟨r,i⟩=>⟨r,?_,?_,l.trans i⟩
 .rw[<- q];exact((h.fr (l.trans i) (fun _ _=>id)).CB.cell 0)
 .exact own_cell? (ze j i (fun _ _=>id)) _ _ (Zx _ k t).2
theorem Zs.step{I w s:World}{b:Nat}{l j:DL}{c:DM}{a:List Int}{G v:Value}{i f m:Nat}(h:Zs I b l c a G i w)
 (D:DRep w b j {c with file:=zl c.dir a c.file i})
 (r:j.Be=l.Be/\j.CS=l.CS/\j.BM=l.BM/\j.CW=l.CW/\(∀ k,Foot b j {c with file:=zl c.dir a c.file i} k->Foot b l c k))
 (o:Fr Nil w s)(K:i<c.dir.names.length)(B:Dir.look c.dir c.dir.names[i]=some f)(d:f∈c.ids)
 (L:m=(zl c.dir a c.file i f).safe+zW (a.getD i 0) ((zl c.dir a c.file i f).bytes.length-(zl c.dir a c.file i f).safe))
 (M:s.ownsRow 0 5 1 v m (u8s ((zl c.dir a c.file i f).bytes.take m)))(t:∀ k,v.ownBlock=some k->(j.fV f).ownBlock=some k) :
 Zs I b l c a G (i+1) (((s.setCell ⟨f,0,none⟩ v).setCell ⟨f,1,none⟩ (.int .i64 m)).drew):=by
 have x:=D.fr o (fun _ _=>id);have u:=x.le f d;simp only at u;have C:m<=(zl c.dir a c.file i f).bytes.length:=by
  have:=Pd (zl c.dir a c.file i f) (a.getD i 0) u;omega
 have q:Fr (fun k=>k=f) s (((s.setCell ⟨f,0,none⟩ v).setCell ⟨f,1,none⟩ (.int .i64 m)).drew):=(by repeat' first|exact U _ _|(with_reducible assumption)|refine Fr.drewN ?_ _|refine Fr.drew ?_|refine Fr.alloc ?_ _|refine Fr.set ?_ ?_ _|(intro _;rfl));have J:Blk (((s.setCell ⟨f,0,none⟩ v).setCell ⟨f,1,none⟩ (.int .i64 m)).drew) f [v,.int .i64 m] 152:=(((x.files f d).set 0 v).set 1 (.int .i64 m)).drew;have A:=x.Ba d C J M q t;have E:({c with file:=zl c.dir a c.file i}:DM).CJ f ⟨(zl c.dir a c.file i f).bytes.take m,m⟩={c with file:=zl c.dir a c.file (i+1)}:=by
  rw[Ol _ _ _ _ _ K B];simp only[DM.CJ,ZH,<- L]
 have y:Foot b j {c with file:=zl c.dir a c.file i} f:=.file d;refine⟨⟨{j with fV:=fun g=>if g=f then v else j.fV g},?_,r.1,r.2.1,r.2.2.1,r.2.2.2.1,?_⟩,?_,?_⟩
 .rw[<- E];exact A
 .intro k hkf
  rw[<- E] at hkf;exact r.2.2.2.2 k (Foot.yB d t hkf)
 .refine Fr.trans' (h.fr.trans (o.mono (fun _ _=>False.elim))) q ?_
  intro k _ e;subst e;exact r.2.2.2.2 _ y
 .have h1:=ze h.names o (fun _ _=>id)
  exact ze h1 q (fun k e A=>by subst A;exact zi h1 (x.files _ d) (by decide) e)
theorem DRep.xf{w:World}{b:Nat}{L:DL}{M:DM}{d:Dir}{F:Nat->FM}(h:DRep w b L {M with dir:=d,file:=F}) :
 DRep (((((w.setCell ⟨b,1,none⟩ L.Be).setCell ⟨b,2,none⟩ (.slice none 0 0)).setCell ⟨b,10,none⟩ (.bool false)).setCell ⟨b,5,none⟩ (.int .i64 0)).setCell ⟨b,6,none⟩ (.int .i64 0)) b
  {L with CS:=L.Be,BM:=.slice none 0 0,CW:=[]} {M with dir:=d,safe:=d,CD:=[],file:=F,dead:=false,cut:=0,fail:=0}:=by
 have a:=h.synced (w':=(w.setCell ⟨b,1,none⟩ L.Be).setCell ⟨b,2,none⟩ (.slice none 0 0)) ((h.CB.set 1 L.Be).set 2 (.slice none 0 0)) zd;exact a.own (M':={M with dir:=d,safe:=d,CD:=[],file:=F,dead:=false,cut:=0,fail:=0}) (((a.CB.set 10 (.bool false)).set 5 (.int .i64 0)).set 6 (.int .i64 0)) zd rfl rfl rfl rfl rfl
theorem Ri{w s wr:World}{b:Nat}{L:DL}{M:DM}{d:Dir}{v I:Value}{c:Int}{a:List Int}(E:M.Bn c=d)
 (h:Zs s b {L with Be:=v} {M with dir:=d} a I d.length wr)(j:Fr (fun k=>k=b) w s)
 (g:∀ k,Foot b {L with Be:=v} {M with dir:=d} k->Foot b L M k) :
 ∃ t,DStep b L M w t (M.CO c a)
  (((((wr.setCell ⟨b,1,none⟩ v).setCell ⟨b,2,none⟩ (.slice none 0 0)).setCell ⟨b,10,none⟩ (.bool false)).setCell ⟨b,5,none⟩ (.int .i64 0)).setCell ⟨b,6,none⟩ (.int .i64 0)):=by
 obtain⟨u,q,r,x,y,A,l⟩:=h.CK;simp only at r x y A;subst r;have B:M.CO c a={M with dir:=d,safe:=d,CD:=[],file:=zl d a M.file d.length,dead:=false,cut:=0,fail:=0}:=by
  simp only[DM.CO,E,WK]
 rw[B];have D:=q.xf;refine⟨_,D,?_,?_⟩
 .have hfr:Fr (fun k=>k=b) wr (((((wr.setCell ⟨b,1,none⟩ u.Be).setCell ⟨b,2,none⟩ (.slice none 0 0)).setCell ⟨b,10,none⟩ (.bool false)).setCell ⟨b,5,none⟩ (.int .i64 0)).setCell ⟨b,6,none⟩ (.int .i64 0)):=zd
  refine Fr.trans' (Fr.trans' (j.mono (fun k _ e=>by subst e;exact .CB)) h.fr (fun k _ o=>g k o)) hfr (fun k _ e=>by subst e;exact .CB)
 .intro k o
  refine .inl (g k ?_);cases o using Foot.elim with
  | blk=>exact .CB
  | dir e=>exact .dir e
  | safe e=>exact .dir e
  | ch e=>simp[Value.ownBlock] at e
  | chs i C e=>exact absurd C (IY _)
  | file e=>exact .file e
  | row f G e=>exact l k (.row f G e)
set_option maxRecDepth 100000 in
theorem NT(t:Int)(l:List Int)(tv:Value)(w:World)(b:Nat)(L:DL)(M:DM)(h:DRep w b L M)(e8:-9223372036854775808<=t)(e9:t<=9223372036854775807)
 (ht:Y8 w tv l)(d6:∀ k,l≠[]->tv.ownBlock=some k->¬Foot b L M k)(d7:∀ x,x∈l->-9223372036854775808<=x/\x<=9223372036854775807)
 (f1:∀ f,f∈M.ids->(M.file f).bytes.length<=1000000000000)(hn:M.CD.length+1<=1000000000000)(hm:∀ d,d∈M.safe::M.CD->d.length<=1000000000000)(b9:zW t M.CD.length=0) :
 Calls Tryz.prog 33 #[.pointer (some ⟨b,0,none⟩),.int .i64 t,tv] w fun e w' =>
  e=.returned (.tuple #[])/\∃ L',DStep b L M w L' (M.CO t l) w':=by
 have hc:=h.CB.cell;have g8:=h.CB.frozen;simp only[DM.cells] at hc;obtain⟨ca,g0,b6⟩:=zg h.ch;obtain⟨sa,g1,c1⟩:=zg h.safe;obtain⟨ta,tc,c2⟩:∃ a c,tv=.slice a l.length c:=by
  rcases ht with⟨⟨_,_,rfl⟩,rfl⟩|⟨g,a1,a4,rfl,_⟩
  .exact⟨_,_,rfl⟩
  .exact⟨_,_,rfl⟩
 have c7:M.Bn t=M.safe:=by simp[DM.Bn,b9]
 have d5:Blk (w.setCell ⟨b,0,none⟩ L.CS) b (({M with dir:=M.safe}:DM).cells {L with Be:=L.CS}) 143:=h.CB.set 0 L.CS;have d4:=h.yb h.safe h.Ai d5 (by repeat' first|exact U _ _|(with_reducible assumption)|refine Fr.drewN ?_ _|refine Fr.drew ?_|refine Fr.alloc ?_ _|refine Fr.set ?_ ?_ _|(intro _;rfl));rw[b6,c1] at hc;have HH:=Z h;have c3:=Z d4;have d8:=Z b6;have b2:=Z c1;have HT:=Z ht;have e7:=Z c2;have d9:=Z c7;have hp:=X0 t M.CD.length w e8 e9 (by omega);rw[b9] at hp;have HP:=Z hp;have f7:l.length<=maxLen:=by
  rcases ht with⟨_,rfl⟩|⟨_,_,_,_,_,h,_⟩
  .simp
  .exact h
 unfold maxLen at f7;clear h d4 b6 c1 ht d5 c7 hp b9;rw[c2];clear c2;go_enter Tryz.func33,Tryz.ntmps33
 go_wp2_with (go_at_call 85;refine HP.out.mono ?_;rintro e wx ⟨rfl,h9⟩;subst wx)
 have HL:=Z (Wk _ b _ _ c3.out (hm M.safe (JX ..)));rw[<- b2.out];refine HL.out.mono ?_;rintro e w1 ⟨nv,rfl,a8,a6,b0⟩;obtain⟨na,nc,b1⟩:=zg a8;have d3:=zH a8;unfold maxLen at d3;have c6:Zs (w.setCell ⟨b,0,none⟩ L.CS) b {L with Be:=L.CS} {M with dir:=M.safe} l nv 0 w1 :=
  ⟨⟨_,c3.out.fr a6 (fun _ _=>id),rfl,rfl,rfl,rfl,fun k hk=>hk⟩,a6.mono (fun _ _=>False.elim),a8⟩
 have g4:=Z b1;have g5:=Z b0;have g2:=Z a6;clear a8 a6 b0 hc;subst b1;go_wp2_with fail
 go_loopw [44] (fun c w'=>∃ i:Nat,i<=M.safe.length/\c=.int .i64 i/\Zs (w.setCell ⟨b,0,none⟩ L.CS) b {L with Be:=L.CS} {M with dir:=M.safe} l (.slice na M.safe.length nc) i w') (fun c _=>M.safe.length-(intOf c).toNat)
 case atStart=>exact⟨0,Iq _,rfl,c6⟩
 case round =>
  obtain⟨i,hi,rfl,c5⟩:=hrel;have y:=Z c5;clear c5 c6;by_cases g9:i<M.safe.length
  .have hnl:M.safe.names.length=M.safe.length:=WK _
   obtain⟨ng,f2⟩:∃ g,na=some ⟨g,0,none⟩:=by
    obtain⟨g,c',h',_⟩:=zz y.out.names (by show 0<M.safe.length;omega);simp at h';exact⟨g,h'.1⟩
   subst f2;have D:i<M.safe.names.length:=by omega
   have h3:=own_cell? y.out.names i (.string M.safe.names[i]) (by simp[strs,D]);obtain⟨k,hk,b8,d1⟩:=UC M.safe M.safe.names[i] (Ia D);obtain⟨Li,A,e1,e2,e3,e4,V⟩:=y.out.CK;have R:=A.CB.cell 0;have I:=A.dir;rw[e1] at I;obtain⟨dg,a9,a5,_,f0⟩:=zz I (by show 0<M.safe.length;omega);simp only at a5;have T:Li.Be=.slice (some ⟨dg,0,none⟩) M.safe.length a9:=e1.trans a5;simp only[DM.cells,T] at R;simp at R;have h6:=own_cell? (by rw[<- a5];exact I) _ _ (Zx M.safe k hk).2;have C:=Z A;have e5:=Z b8;have e0:=Z T;have a3:=Z d1;have a2:=Z (⟨e1,e2,e3,e4,V⟩:Li.Be=_/\Li.CS=_/\Li.BM=_/\Li.CW=_/\_);unfold maxLen at f0;clear A b8 e1 e2 e3 e4 I V a5 T d1;go_wp2_with fail
   go_region_held3 (fun w'=>w'.cell? ⟨b,0,none⟩=some (.slice (some ⟨dg,0,none⟩) M.safe.length a9)/\w'.cell? ⟨dg,k*2+1,none⟩=some (.pointer (some ⟨M.safe[k].2,0,none⟩))) (first|go_keep|exact⟨‹_›,‹_›⟩)
    (first|(go_at_call 87;refine(Rh e5.out hk _ wr b _ _ rfl e0.out C.out (Fr.drew (U _ _))).mono ?_;rintro e w5 ⟨rfl,g6,h4,J⟩))
   have h5:=C.out.fr J (fun _ _=>id);have o:M.safe[k].2∈M.ids:=C.out.Bq _ (Ia hk);have c8:(zl M.safe l M.file i M.safe[k].2).bytes.length<=1000000000000:=JT (V7 _ _ _ _ _) (f1 _ o);have X:=h5.le _ o;have b5:=(h5.files _ o).cell;have g7:=(h5.files _ o).frozen;obtain⟨fa,fc,a7⟩:=zg (h5.rows _ o);rw[a7] at b5;simp only at X b5 a7;have c4:Y8 w5 tv l:=by
    have c9:Fr (fun k=>k=b\/Foot b L M k) w w5:=by
     refine Fr.trans' (Fr.set (U _ w) (p:=⟨b,0,none⟩) (fun _=>.inl rfl) L.CS) (y.out.fr.trans (J.mono (fun _ _=>False.elim))) ?_;intro j _ G;refine .inr ?_;cases G using Foot.elim with
     | blk=>exact .CB
     | dir e=>exact .safe e
     | safe e=>exact .safe e
     | ch e=>exact .ch e
     | chs i s e=>exact .CD i s e
     | file e=>exact .file e
     | row f hf e=>exact .row f hf e
    refine HT.out.fr c9 ?_;intro j d2 G hb;rcases hb with rfl|hb
    .exact d6 _ d2 G .CB
    .exact d6 j d2 G hb
   have r:=Z a7;have H5:=Z h5;have e6:=Z c4;have g3:=Z X;clear h5 a7 c4;generalize hF:zl M.safe l M.file i M.safe[k].2=F at b5 X c8;have B:=Z hF;clear hF;by_cases K:i<l.length
   .obtain⟨tg,toff,tcap,htv',htc⟩:∃ g a1 a4,tv=.slice (some ⟨g,a1,none⟩) l.length a4/\w5.cell? ⟨g,a1+i,none⟩=some (.int .i64 l[i]):=by
     rcases e6.out with⟨_,h0⟩|⟨g,a1,a4,hv,_,_,b4⟩
     .subst h0;simp at K
     .exact⟨g,a1,a4,hv,b4 i K⟩
    have f6:ta=some ⟨tg,toff,none⟩:=by have:=e7.out.symm.trans htv';simp at this;exact this.1
    subst f6;have d0:l.getD i 0=l[i]:=by simp[List.getD,K]
    have HG:=Z d0;have h7:=(d7 l[i] (Ia K)).1;have h8:=(d7 l[i] (Ia K)).2;clear d0;generalize l[i]=tx at *;obtain⟨E,S⟩:∃ E:Nat,E=F.bytes.length-F.safe:=⟨_,rfl⟩;have u:∀ wx:World,Calls Tryz.prog 85 #[.int .i64 tx,.int .i64 E] wx fun e w'=>e=.returned (.int .i64 (zW tx E))/\w'=wx :=
     fun wx=>X0 _ _ wx (by omega) (by omega) (by omega)
    have q:=Z u;have a0:=Yu tx E;clear u;generalize hP:zW tx E=pn at a0 q;have Q:=Z hP;clear hP;obtain⟨m,Y⟩:∃ m:Nat,m=F.safe+pn:=⟨_,rfl⟩;have f8:IntKind.i64.wrap ((F.bytes.length:Int)-(F.safe:Int))=(E:Int):=by simp (disch:=omega) only[Ft];omega
    have f9:IntKind.i64.wrap ((F.safe:Int)+(pn:Int))=(m:Int):=by simp (disch:=omega) only[Ft];omega
    have N:=Z S;have O:=Z Y;have c0:m<=F.bytes.length:=by omega
    have b4:F.bytes.length<=fc:=by
     rcases (H5.out.rows _ o).2 with⟨s,h2⟩|⟨_,_,_,s,_,_,h2,_⟩
     .simp only[B.out] at h2;omega
     .rw[r.out] at s;simp only[B.out] at s h2;simp at s;omega
    have f4:(0:Int)<=(m:Int):=by omega
    have f5:(m:Int)<=(fc:Int):=by omega
    clear S Y a0;by_cases b7:fc=0
    .have hm0:m=0:=by omega
     go_wp2_with fail;refine Gi 26 (by kernel_rfl) (by kernel_rfl) ?_;simp only[Hb,Hz,Gh,Hx]
     iterate 21 still_step
     still_call (q.out _)
     iterate 4 still_step
     refine Fx ?_
     go_wp2
     obtain rfl:m=0:=hm0;refine⟨⟨i+1,by omega,by go_num,?_⟩,by simp[intOf];omega⟩;refine Zs.step (v:=.slice fa 0 0) (m:=0) y.out C.out a2.out J D a3.out o ?_ ?_ ?_
     .show 0=(zl M.safe l M.file i M.safe[k].2).safe+zW (l.getD i 0) ((zl M.safe l M.file i M.safe[k].2).bytes.length-(zl M.safe l M.file i M.safe[k].2).safe)
      rw[B.out,HG.out,<- N.out,Q.out];exact O.out
     .have hr:=H5.out.rows _ o
      simp only[B.out] at hr;rw[r.out] at hr;simp only[B.out] at hr;have hz:F.bytes.length=0:=by omega
      rw[hz,b7] at hr;have b3:F.bytes=[]:=II hz;show w5.ownsRow 0 5 1 (.slice fa 0 0) 0 (u8s ((zl M.safe l M.file i M.safe[k].2).bytes.take 0));rw[b3] at hr
      simpa using hr
     .intro j G
      rw[r.out];cases fa with
      | none=>exact G
      | some a=>exact G
    .obtain⟨gb,hgb⟩:∃ gb,fa=some ⟨gb,0,none⟩:=by
      rcases (H5.out.rows _ o).2 with⟨s,_⟩|⟨g,_,_,s,_⟩
      .rw[r.out] at s;simp at s;omega
      .rw[r.out] at s;simp at s;exact⟨g,s.1⟩
     subst hgb;go_wp2_with fail;refine Gi 26 (by kernel_rfl) (by kernel_rfl) ?_;simp only[Hb,Hz,Gh,Hx]
     iterate 21 still_step
     still_call (q.out _)
     iterate 4 still_step
     refine Fx ?_
     go_wp2
     refine⟨⟨i+1,by omega,by go_num,?_⟩,by simp[intOf];omega⟩;refine Zs.step (v:=.slice (some ⟨gb,0,none⟩) m fc) (m:=m) y.out C.out a2.out J D a3.out o ?_ ?_ ?_
     .show m=(zl M.safe l M.file i M.safe[k].2).safe+zW (l.getD i 0) ((zl M.safe l M.file i M.safe[k].2).bytes.length-(zl M.safe l M.file i M.safe[k].2).safe)
      rw[B.out,HG.out,<- N.out,Q.out];exact O.out
     .have hr:=H5.out.rows _ o
      simp only[B.out] at hr;rw[r.out] at hr;simp only[B.out] at hr;show w5.ownsRow 0 5 1 (.slice (some ⟨gb,0,none⟩) m fc) m (u8s ((zl M.safe l M.file i M.safe[k].2).bytes.take m));rw[B.out];have:=Vx hr c0;rw[show u8s (F.bytes.take m)=(u8s F.bytes).take m by simp[u8s]];exact this
     .intro j G
      rw[r.out];exact G
   .have HG:Hid (l.getD i 0=0):=by simp[Hid,List.getD,K]
    obtain⟨E,S⟩:∃ E:Nat,E=F.bytes.length-F.safe:=⟨_,rfl⟩;have u:∀ wx:World,Calls Tryz.prog 85 #[.int .i64 0,.int .i64 E] wx fun e w'=>e=.returned (.int .i64 (zW 0 E))/\w'=wx :=
     fun wx=>X0 _ _ wx (by omega) (by omega) (by omega)
    have q:=Z u;have a0:=Yu 0 E;clear u;generalize hP:zW 0 E=pn at a0 q;have Q:=Z hP;clear hP;obtain⟨m,Y⟩:∃ m:Nat,m=F.safe+pn:=⟨_,rfl⟩;have f8:IntKind.i64.wrap ((F.bytes.length:Int)-(F.safe:Int))=(E:Int):=by simp (disch:=omega) only[Ft];omega
    have f9:IntKind.i64.wrap ((F.safe:Int)+(pn:Int))=(m:Int):=by simp (disch:=omega) only[Ft];omega
    have N:=Z S;have O:=Z Y;have c0:m<=F.bytes.length:=by omega
    have b4:F.bytes.length<=fc:=by
     rcases (H5.out.rows _ o).2 with⟨s,h2⟩|⟨_,_,_,s,_,_,h2,_⟩
     .simp only[B.out] at h2;omega
     .rw[r.out] at s;simp only[B.out] at s h2;simp at s;omega
    have f4:(0:Int)<=(m:Int):=by omega
    have f5:(m:Int)<=(fc:Int):=by omega
    clear S Y a0;by_cases b7:fc=0
    .have hm0:m=0:=by omega
     go_wp2_with fail;refine Gi 26 (by kernel_rfl) (by kernel_rfl) ?_;simp only[Hb,Hz,Gh,Hx]
     iterate 21 still_step
     still_call (q.out _)
     iterate 4 still_step
     refine Fx ?_
     go_wp2
     obtain rfl:m=0:=hm0;refine⟨⟨i+1,by omega,by go_num,?_⟩,by simp[intOf];omega⟩;refine Zs.step (v:=.slice fa 0 0) (m:=0) y.out C.out a2.out J D a3.out o ?_ ?_ ?_
     .show 0=(zl M.safe l M.file i M.safe[k].2).safe+zW (l.getD i 0) ((zl M.safe l M.file i M.safe[k].2).bytes.length-(zl M.safe l M.file i M.safe[k].2).safe)
      rw[B.out,HG.out,<- N.out,Q.out];exact O.out
     .have hr:=H5.out.rows _ o
      simp only[B.out] at hr;rw[r.out] at hr;simp only[B.out] at hr;have hz:F.bytes.length=0:=by omega
      rw[hz,b7] at hr;have b3:F.bytes=[]:=II hz;show w5.ownsRow 0 5 1 (.slice fa 0 0) 0 (u8s ((zl M.safe l M.file i M.safe[k].2).bytes.take 0));rw[b3] at hr
      simpa using hr
     .intro j G
      rw[r.out];cases fa with
      | none=>exact G
      | some a=>exact G
    .obtain⟨gb,hgb⟩:∃ gb,fa=some ⟨gb,0,none⟩:=by
      rcases (H5.out.rows _ o).2 with⟨s,_⟩|⟨g,_,_,s,_⟩
      .rw[r.out] at s;simp at s;omega
      .rw[r.out] at s;simp at s;exact⟨g,s.1⟩
     subst hgb;go_wp2_with fail;refine Gi 26 (by kernel_rfl) (by kernel_rfl) ?_;simp only[Hb,Hz,Gh,Hx]
     iterate 21 still_step
     still_call (q.out _)
     iterate 4 still_step
     refine Fx ?_
     go_wp2
     refine⟨⟨i+1,by omega,by go_num,?_⟩,by simp[intOf];omega⟩;refine Zs.step (v:=.slice (some ⟨gb,0,none⟩) m fc) (m:=m) y.out C.out a2.out J D a3.out o ?_ ?_ ?_
     .show m=(zl M.safe l M.file i M.safe[k].2).safe+zW (l.getD i 0) ((zl M.safe l M.file i M.safe[k].2).bytes.length-(zl M.safe l M.file i M.safe[k].2).safe)
      rw[B.out,HG.out,<- N.out,Q.out];exact O.out
     .have hr:=H5.out.rows _ o
      simp only[B.out] at hr;rw[r.out] at hr;simp only[B.out] at hr;show w5.ownsRow 0 5 1 (.slice (some ⟨gb,0,none⟩) m fc) m (u8s ((zl M.safe l M.file i M.safe[k].2).bytes.take m));rw[B.out];have:=Vx hr c0;rw[show u8s (F.bytes.take m)=(u8s F.bytes).take m by simp[u8s]];exact this
     .intro j G
      rw[r.out];exact G
  .have D:i=M.safe.length:=by omega
   subst D;obtain⟨Li,A,e1,e2,e3,e4,V⟩:=y.out.CK;have R:=A.CB.cell;have b8:=A.CB.frozen;simp only[DM.cells,e1,e2,e3] at R;simp only[b2.out,d8.out] at R;have f3:=A;have C:=Z A;have HE:=Z (⟨e1,e2,e3,e4,V⟩:_/\_/\_/\_/\_);clear A e1 e2 e3 e4 V f3
   go_wp2
   go_end0
   refine⟨rfl,?_⟩;rw[<- b2.out];refine Ri d9.out y.out (by repeat' first|exact U _ _|(with_reducible assumption)|refine Fr.drewN ?_ _|refine Fr.drew ?_|refine Fr.alloc ?_ _|refine Fr.set ?_ ?_ _|(intro _;rfl)) ?_;intro k hk;cases hk using Foot.elim with
   | blk=>exact .CB
   | dir e=>exact .safe e
   | safe e=>exact .safe e
   | ch e=>exact .ch e
   | chs i s e=>exact .CD i s e
   | file e=>exact .file e
   | row f hf e=>exact .row f hf e
set_option maxRecDepth 100000 in
theorem NU(t:Int)(l:List Int)(tv:Value)(w:World)(b:Nat)(L:DL)(M:DM)(h:DRep w b L M)(f9:-9223372036854775808<=t)(g0:t<=9223372036854775807)
 (ht:Y8 w tv l)(f0:∀ k,l≠[]->tv.ownBlock=some k->¬Foot b L M k)(f1:∀ x,x∈l->-9223372036854775808<=x/\x<=9223372036854775807)
 (g2:∀ f,f∈M.ids->(M.file f).bytes.length<=1000000000000)(hn:M.CD.length+1<=1000000000000)(hm:∀ d,d∈M.safe::M.CD->d.length<=1000000000000)
 (kk:Nat)(b2:kk<M.CD.length)(c4:zW t M.CD.length=kk+1) :
 Calls Tryz.prog 33 #[.pointer (some ⟨b,0,none⟩),.int .i64 t,tv] w fun e w' =>
  e=.returned (.tuple #[])/\∃ L',DStep b L M w L' (M.CO t l) w':=by
 have hc:=h.CB.cell;have i7:=h.CB.frozen;simp only[DM.cells] at hc;obtain⟨cg,h7,S,_,_⟩:=zz h.ch (by omega);have d6:=h.BJ;have b3:kk<L.CW.length:=by omega
 obtain⟨d,hd⟩:∃ d,d=M.CD[kk]:=⟨_,rfl⟩;obtain⟨V,a8⟩:∃ V,V=L.CW[kk]:=⟨_,rfl⟩;have hV:=h.CD kk b3 b2;rw[<- hd,<- a8] at hV;have R:∀ e,e∈d->e.2∈M.ids:=by rw[hd];exact h.Aj _ (Ia b2)
 have d3:∀ k,V.ownBlock=some k->Foot b L M k:=by rw[a8];exact fun k hk=>.CD kk b3 hk
 have f8:w.cell? ⟨cg,kk,none⟩=some V:=own_cell? (by rw[<- S];exact h.ch) kk V (by rw[a8];exact Ii b3);have i5:cg≠b:=by
  intro e;refine zi h.ch h.CB (by decide) ?_;rw[S,<- e]
  rfl
 have g3:d.length<=1000000000000:=by rw[hd];exact hm _ (JV _ (Ia b2))
 have d7:M.Bn t=d:=by simp[DM.Bn,c4,hd,b2]
 obtain⟨j5,h6,c6⟩:=zg h.safe;obtain⟨sa,h8,c7⟩:=zg hV;obtain⟨ta,tc,c8⟩:∃ a c,tv=.slice a l.length c:=by
  rcases ht with⟨⟨_,_,rfl⟩,rfl⟩|⟨g,a4,a7,rfl,_⟩
  .exact⟨_,_,rfl⟩
  .exact⟨_,_,rfl⟩
 have e9:Blk ((w.setCell ⟨b,0,none⟩ L.CS).setCell ⟨b,0,none⟩ V) b (({M with dir:=d}:DM).cells {L with Be:=V}) 143:=(h.CB.set 0 L.CS).set 0 V;have e8:=h.yb hV R e9 zd;rw[S,c6] at hc;have HH:=Z h;have c9:=Z e8;have f2:=Z S;have b8:=Z c7;have d0:=Z c6;have HT:=Z ht;have f7:=Z c8;have f3:=Z d7;have hp:=X0 t M.CD.length w f9 g0 (by omega);rw[c4] at hp;have HP:=Z hp;have g9:l.length<=maxLen:=by
  rcases ht with⟨_,rfl⟩|⟨_,_,_,_,_,h,_⟩
  .simp
  .exact h
 unfold maxLen at g9;have i3:=Z R;have d1:=Z d3;rw[c7] at f8;clear h e8 S c7 c6 ht e9 d7 hp c4 hd a8 hV R d3 d6 b3 hm;rw[c8];clear c8;go_enter Tryz.func33,Tryz.ntmps33
 go_wp2_with (go_at_call 85;refine HP.out.mono ?_;rintro e wx ⟨rfl,j4⟩;subst wx)
 have HL:=Z (Wk _ b _ _ c9.out g3);rw[<- b8.out,<- d0.out];refine HL.out.mono ?_;rintro e w1 ⟨nv,rfl,b4,b0,b6⟩;obtain⟨na,nc,b7⟩:=zg b4;have e7:=zH b4;unfold maxLen at e7;have d5:Zs ((w.setCell ⟨b,0,none⟩ L.CS).setCell ⟨b,0,none⟩ V) b {L with Be:=V} {M with dir:=d} l nv 0 w1 :=
  ⟨⟨_,c9.out.fr b0 (fun _ _=>id),rfl,rfl,rfl,rfl,fun k hk=>hk⟩,b0.mono (fun _ _=>False.elim),b4⟩
 have i1:=Z b7;have i2:=Z b6;have h9:=Z b0;clear b4 b0 b6 hc;subst b7;go_wp2_with fail
 go_loopw [44] (fun c w'=>∃ i:Nat,i<=d.length/\c=.int .i64 i/\Zs ((w.setCell ⟨b,0,none⟩ L.CS).setCell ⟨b,0,none⟩ V) b {L with Be:=V} {M with dir:=d} l (.slice na d.length nc) i w') (fun c _=>d.length-(intOf c).toNat)
 case atStart=>exact⟨0,Iq _,rfl,d5⟩
 case round =>
  obtain⟨i,hi,rfl,d4⟩:=hrel;have y:=Z d4;clear d4 d5;by_cases i8:i<d.length
  .have hnl:d.names.length=d.length:=WK _
   obtain⟨ng,g4⟩:∃ g,na=some ⟨g,0,none⟩:=by
    obtain⟨g,c',h',_⟩:=zz y.out.names (by show 0<d.length;omega);simp at h';exact⟨g,h'.1⟩
   subst g4;have D:i<d.names.length:=by omega
   have i9:=own_cell? y.out.names i (.string d.names[i]) (by simp[strs,D]);obtain⟨k,hk,c3,e5⟩:=UC d d.names[i] (Ia D);obtain⟨Li,A,e1,e2,e3,e4,a0⟩:=y.out.CK;have T:=A.CB.cell 0;have I:=A.dir;rw[e1] at I;obtain⟨dg,b5,a9,_,g1⟩:=zz I (by show 0<d.length;omega);simp only at a9;have Y:Li.Be=.slice (some ⟨dg,0,none⟩) d.length b5:=e1.trans a9;simp only[DM.cells,Y] at T;simp at T;have j1:=own_cell? (by rw[<- a9];exact I) _ _ (Zx d k hk).2;have C:=Z A;have f5:=Z c3;have f4:=Z Y;have a6:=Z e5;have a5:=Z (⟨e1,e2,e3,e4,a0⟩:Li.Be=_/\Li.CS=_/\Li.BM=_/\Li.CW=_/\_);unfold maxLen at g1;clear A c3 e1 e2 e3 e4 I a0 a9 Y e5;go_wp2_with fail
   go_region_held3 (fun w'=>w'.cell? ⟨b,0,none⟩=some (.slice (some ⟨dg,0,none⟩) d.length b5)/\w'.cell? ⟨dg,k*2+1,none⟩=some (.pointer (some ⟨d[k].2,0,none⟩))) (first|go_keep|exact⟨‹_›,‹_›⟩)
    (first|(go_at_call 87;refine(Rh f5.out hk _ wr b _ _ rfl f4.out C.out (Fr.drew (U _ _))).mono ?_;rintro e w5 ⟨rfl,i4,j0,J⟩))
   have h5:=C.out.fr J (fun _ _=>id);have o:d[k].2∈M.ids:=C.out.Bq _ (Ia hk);have d8:(zl d l M.file i d[k].2).bytes.length<=1000000000000:=JT (V7 _ _ _ _ _) (g2 _ o);have a1:=h5.le _ o;have c1:=(h5.files _ o).cell;have i6:=(h5.files _ o).frozen;obtain⟨fa,fc,b1⟩:=zg (h5.rows _ o);rw[b1] at c1;simp only at a1 c1 b1;have d2:Y8 w5 tv l:=by
    have d9:Fr (fun k=>k=b\/Foot b L M k) w w5:=by
     refine Fr.trans' (Fr.set (Fr.set (U _ w) (p:=⟨b,0,none⟩) (fun _=>.inl rfl) L.CS) (p:=⟨b,0,none⟩) (fun _=>.inl rfl) V) (y.out.fr.trans (J.mono (fun _ _=>False.elim))) ?_;intro j _ G;refine .inr ?_;cases G using Foot.elim with
     | blk=>exact .CB
     | dir e=>exact d1.out _ e
     | safe e=>exact .safe e
     | ch e=>exact .ch e
     | chs i s e=>exact .CD i s e
     | file e=>exact .file e
     | row f hf e=>exact .row f hf e
    refine HT.out.fr d9 ?_;intro j e6 G hb;rcases hb with rfl|hb
    .exact f0 _ e6 G .CB
    .exact f0 j e6 G hb
   have r:=Z b1;have H5:=Z h5;have f6:=Z d2;have i0:=Z a1;clear h5 b1 d2;generalize hF:zl d l M.file i d[k].2=F at c1 a1 d8;have B:=Z hF;clear hF;by_cases K:i<l.length
   .obtain⟨tg,toff,tcap,htv',htc⟩:∃ g a4 a7,tv=.slice (some ⟨g,a4,none⟩) l.length a7/\w5.cell? ⟨g,a4+i,none⟩=some (.int .i64 l[i]):=by
     rcases f6.out with⟨_,h0⟩|⟨g,a4,a7,hv,_,_,c0⟩
     .subst h0;simp at K
     .exact⟨g,a4,a7,hv,c0 i K⟩
    have g8:ta=some ⟨tg,toff,none⟩:=by have:=f7.out.symm.trans htv';simp at this;exact this.1
    subst g8;have e0:l.getD i 0=l[i]:=by simp[List.getD,K]
    have HG:=Z e0;have j2:=(f1 l[i] (Ia K)).1;have j3:=(f1 l[i] (Ia K)).2;clear e0;generalize l[i]=tx at *;obtain⟨E,X⟩:∃ E:Nat,E=F.bytes.length-F.safe:=⟨_,rfl⟩;have u:∀ wx:World,Calls Tryz.prog 85 #[.int .i64 tx,.int .i64 E] wx fun e w'=>e=.returned (.int .i64 (zW tx E))/\w'=wx :=
     fun wx=>X0 _ _ wx (by omega) (by omega) (by omega)
    have q:=Z u;have a3:=Yu tx E;clear u;generalize hP:zW tx E=pn at a3 q;have Q:=Z hP;clear hP;obtain⟨m,a2⟩:∃ m:Nat,m=F.safe+pn:=⟨_,rfl⟩;have h3:IntKind.i64.wrap ((F.bytes.length:Int)-(F.safe:Int))=(E:Int):=by simp (disch:=omega) only[Ft];omega
    have h4:IntKind.i64.wrap ((F.safe:Int)+(pn:Int))=(m:Int):=by simp (disch:=omega) only[Ft];omega
    have N:=Z X;have O:=Z a2;have c5:m<=F.bytes.length:=by omega
    have c0:F.bytes.length<=fc:=by
     rcases (H5.out.rows _ o).2 with⟨s,h2⟩|⟨_,_,_,s,_,_,h2,_⟩
     .simp only[B.out] at h2;omega
     .rw[r.out] at s;simp only[B.out] at s h2;simp at s;omega
    have g6:(0:Int)<=(m:Int):=by omega
    have g7:(m:Int)<=(fc:Int):=by omega
    clear X a2 a3;by_cases c2:fc=0
    .have hm0:m=0:=by omega
     go_wp2_with fail;refine Gi 26 (by kernel_rfl) (by kernel_rfl) ?_;simp only[Hb,Hz,Gh,Hx]
     iterate 21 still_step
     still_call (q.out _)
     iterate 4 still_step
     refine Fx ?_
     go_wp2
     obtain rfl:m=0:=hm0;refine⟨⟨i+1,by omega,by go_num,?_⟩,by simp[intOf];omega⟩;refine Zs.step (v:=.slice fa 0 0) (m:=0) y.out C.out a5.out J D a6.out o ?_ ?_ ?_
     .show 0=(zl d l M.file i d[k].2).safe+zW (l.getD i 0) ((zl d l M.file i d[k].2).bytes.length-(zl d l M.file i d[k].2).safe)
      rw[B.out,HG.out,<- N.out,Q.out];exact O.out
     .have hr:=H5.out.rows _ o
      simp only[B.out] at hr;rw[r.out] at hr;simp only[B.out] at hr;have hz:F.bytes.length=0:=by omega
      rw[hz,c2] at hr;have b9:F.bytes=[]:=II hz;show w5.ownsRow 0 5 1 (.slice fa 0 0) 0 (u8s ((zl d l M.file i d[k].2).bytes.take 0));rw[b9] at hr
      simpa using hr
     .intro j G
      rw[r.out];cases fa with
      | none=>exact G
      | some a=>exact G
    .obtain⟨gb,hgb⟩:∃ gb,fa=some ⟨gb,0,none⟩:=by
      rcases (H5.out.rows _ o).2 with⟨s,_⟩|⟨g,_,_,s,_⟩
      .rw[r.out] at s;simp at s;omega
      .rw[r.out] at s;simp at s;exact⟨g,s.1⟩
     subst hgb;go_wp2_with fail;refine Gi 26 (by kernel_rfl) (by kernel_rfl) ?_;simp only[Hb,Hz,Gh,Hx]
     iterate 21 still_step
     still_call (q.out _)
     iterate 4 still_step
     refine Fx ?_
     go_wp2
     refine⟨⟨i+1,by omega,by go_num,?_⟩,by simp[intOf];omega⟩;refine Zs.step (v:=.slice (some ⟨gb,0,none⟩) m fc) (m:=m) y.out C.out a5.out J D a6.out o ?_ ?_ ?_
     .show m=(zl d l M.file i d[k].2).safe+zW (l.getD i 0) ((zl d l M.file i d[k].2).bytes.length-(zl d l M.file i d[k].2).safe)
      rw[B.out,HG.out,<- N.out,Q.out];exact O.out
     .have hr:=H5.out.rows _ o
      simp only[B.out] at hr;rw[r.out] at hr;simp only[B.out] at hr;show w5.ownsRow 0 5 1 (.slice (some ⟨gb,0,none⟩) m fc) m (u8s ((zl d l M.file i d[k].2).bytes.take m));rw[B.out];have:=Vx hr c5;rw[show u8s (F.bytes.take m)=(u8s F.bytes).take m by simp[u8s]];exact this
     .intro j G
      rw[r.out];exact G
   .have HG:Hid (l.getD i 0=0):=by simp[Hid,List.getD,K]
    obtain⟨E,X⟩:∃ E:Nat,E=F.bytes.length-F.safe:=⟨_,rfl⟩;have u:∀ wx:World,Calls Tryz.prog 85 #[.int .i64 0,.int .i64 E] wx fun e w'=>e=.returned (.int .i64 (zW 0 E))/\w'=wx :=
     fun wx=>X0 _ _ wx (by omega) (by omega) (by omega)
    have q:=Z u;have a3:=Yu 0 E;clear u;generalize hP:zW 0 E=pn at a3 q;have Q:=Z hP;clear hP;obtain⟨m,a2⟩:∃ m:Nat,m=F.safe+pn:=⟨_,rfl⟩;have h3:IntKind.i64.wrap ((F.bytes.length:Int)-(F.safe:Int))=(E:Int):=by simp (disch:=omega) only[Ft];omega
    have h4:IntKind.i64.wrap ((F.safe:Int)+(pn:Int))=(m:Int):=by simp (disch:=omega) only[Ft];omega
    have N:=Z X;have O:=Z a2;have c5:m<=F.bytes.length:=by omega
    have c0:F.bytes.length<=fc:=by
     rcases (H5.out.rows _ o).2 with⟨s,h2⟩|⟨_,_,_,s,_,_,h2,_⟩
     .simp only[B.out] at h2;omega
     .rw[r.out] at s;simp only[B.out] at s h2;simp at s;omega
    have g6:(0:Int)<=(m:Int):=by omega
    have g7:(m:Int)<=(fc:Int):=by omega
    clear X a2 a3;by_cases c2:fc=0
    .have hm0:m=0:=by omega
     go_wp2_with fail;refine Gi 26 (by kernel_rfl) (by kernel_rfl) ?_;simp only[Hb,Hz,Gh,Hx]
     iterate 21 still_step
     still_call (q.out _)
     iterate 4 still_step
     refine Fx ?_
     go_wp2
     obtain rfl:m=0:=hm0;refine⟨⟨i+1,by omega,by go_num,?_⟩,by simp[intOf];omega⟩;refine Zs.step (v:=.slice fa 0 0) (m:=0) y.out C.out a5.out J D a6.out o ?_ ?_ ?_
     .show 0=(zl d l M.file i d[k].2).safe+zW (l.getD i 0) ((zl d l M.file i d[k].2).bytes.length-(zl d l M.file i d[k].2).safe)
      rw[B.out,HG.out,<- N.out,Q.out];exact O.out
     .have hr:=H5.out.rows _ o
      simp only[B.out] at hr;rw[r.out] at hr;simp only[B.out] at hr;have hz:F.bytes.length=0:=by omega
      rw[hz,c2] at hr;have b9:F.bytes=[]:=II hz;show w5.ownsRow 0 5 1 (.slice fa 0 0) 0 (u8s ((zl d l M.file i d[k].2).bytes.take 0));rw[b9] at hr
      simpa using hr
     .intro j G
      rw[r.out];cases fa with
      | none=>exact G
      | some a=>exact G
    .obtain⟨gb,hgb⟩:∃ gb,fa=some ⟨gb,0,none⟩:=by
      rcases (H5.out.rows _ o).2 with⟨s,_⟩|⟨g,_,_,s,_⟩
      .rw[r.out] at s;simp at s;omega
      .rw[r.out] at s;simp at s;exact⟨g,s.1⟩
     subst hgb;go_wp2_with fail;refine Gi 26 (by kernel_rfl) (by kernel_rfl) ?_;simp only[Hb,Hz,Gh,Hx]
     iterate 21 still_step
     still_call (q.out _)
     iterate 4 still_step
     refine Fx ?_
     go_wp2
     refine⟨⟨i+1,by omega,by go_num,?_⟩,by simp[intOf];omega⟩;refine Zs.step (v:=.slice (some ⟨gb,0,none⟩) m fc) (m:=m) y.out C.out a5.out J D a6.out o ?_ ?_ ?_
     .show m=(zl d l M.file i d[k].2).safe+zW (l.getD i 0) ((zl d l M.file i d[k].2).bytes.length-(zl d l M.file i d[k].2).safe)
      rw[B.out,HG.out,<- N.out,Q.out];exact O.out
     .have hr:=H5.out.rows _ o
      simp only[B.out] at hr;rw[r.out] at hr;simp only[B.out] at hr;show w5.ownsRow 0 5 1 (.slice (some ⟨gb,0,none⟩) m fc) m (u8s ((zl d l M.file i d[k].2).bytes.take m));rw[B.out];have:=Vx hr c5;rw[show u8s (F.bytes.take m)=(u8s F.bytes).take m by simp[u8s]];exact this
     .intro j G
      rw[r.out];exact G
  .have D:i=d.length:=by omega
   subst D;obtain⟨Li,A,e1,e2,e3,e4,a0⟩:=y.out.CK;have T:=A.CB.cell;have c3:=A.CB.frozen;simp only[DM.cells,e1,e2,e3] at T;simp only[b8.out,f2.out,d0.out] at T;have g5:=A;have C:=Z A;have HE:=Z (⟨e1,e2,e3,e4,a0⟩:_/\_/\_/\_/\_);clear A e1 e2 e3 e4 a0 g5
   go_wp2
   go_end0
   refine⟨rfl,?_⟩;rw[<- b8.out];refine Ri f3.out y.out zd ?_;intro k hk;cases hk using Foot.elim with
   | blk=>exact .CB
   | dir e=>exact d1.out _ e
   | safe e=>exact .safe e
   | ch e=>exact .ch e
   | chs i s e=>exact .CD i s e
   | file e=>exact .file e
   | row f hf e=>exact .row f hf e
theorem UD(c:Int)(a:List Int)(o:Value)(w:World)(b:Nat)(L:DL)(M:DM)(h:DRep w b L M)(g:-9223372036854775808<=c)(i:c<=9223372036854775807)
 (s:Y8 w o a)(l:∀ k,a≠[]->o.ownBlock=some k->¬Foot b L M k)(m:∀ x,x∈a->-9223372036854775808<=x/\x<=9223372036854775807)
 (j:∀ f,f∈M.ids->(M.file f).bytes.length<=1000000000000)(r:M.CD.length+1<=1000000000000)(q:∀ d,d∈M.safe::M.CD->d.length<=1000000000000) :
 Calls Tryz.prog 33 #[.pointer (some ⟨b,0,none⟩),.int .i64 c,o] w fun e v =>
  e=.returned (.tuple #[])/\∃ t,DStep b L M w t (M.CO c a) v:=by
 have y:=Yu c M.CD.length;cases hk:zW c M.CD.length with
 | zero=>exact NT c a o w b L M h g i s l m j r q hk
 | succ u=>exact NU c a o w b L M h g i s l m j r q u (by omega) hk
theorem Pe:((Tryz.prog.info? 146).map fun i=>(i.zero.map (·.cells.size),i.size,i.bytes))=some (some 1,1,8):=by kernel_rfl
def ptrs(l:List Nat):List Value:=l.map fun k=>.pointer (some ⟨k,0,none⟩)
structure Twin(w0 w:World)(bo bm:Nat)(M:DM)(os:List Nat)(ps:List (Nat × Nat))(vo vm:Value)(fV:Nat->Value):Prop where
 co:Blk w bo [vo] 168
 cm:Blk w bm [vm] 168
 ne:bo≠bm
 old:w.ownsRow 0 146 1 vo os.length (ptrs os)
 made:w.ownsRow 0 146 1 vm ps.length (ptrs (ps.map Prod.snd))
 AH:∀ k,vo.ownBlock=some k->vm.ownBlock≠some k
 files:∀ p,p∈ps->Blk w p.2 [fV p.2,.int .i64 (M.file p.1).safe] 152
 rows:∀ p,p∈ps->w.ownsRow 0 5 1 (fV p.2) (M.file p.1).bytes.length (u8s (M.file p.1).bytes)
 sep:∀ p,p∈ps->∀ q,q∈ps->p.2≠q.2->∀ k,(fV p.2).ownBlock=some k->(fV q.2).ownBlock≠some k
 n1:os.Nodup
 n2:(ps.map Prod.snd).Nodup
 ids:∀ f,f∈os->f∈M.ids
 nbo:w0.heap.size<=bo
 nbm:w0.heap.size<=bm
 no:∀ k,vo.ownBlock=some k->w0.heap.size<=k
 nm:∀ k,vm.ownBlock=some k->w0.heap.size<=k
 nf:∀ p,p∈ps->w0.heap.size<=p.2
 nr:∀ p,p∈ps->∀ k,(fV p.2).ownBlock=some k->w0.heap.size<=k
 fr:Fr Nil w0 w
theorem Twin.Ba{l w k:World}{c b:Nat}{M:DM}{e:List Nat}{g:List (Nat × Nat)}{j i:Value}{d:Nat->Value}(h:Twin l w c b M e g j i d)(f:Fr Nil w k) :
 Twin l k c b M e g j i d :=
 {h with
  co:=h.co.fr f id
  cm:=h.cm.fr f id
  old:=ze h.old f (fun _ _=>id)
  made:=ze h.made f (fun _ _=>id)
  files:=fun p a=>(h.files p a).fr f id
  rows:=fun p a=>ze (h.rows p a) f (fun _ _=>id)
  fr:=h.fr.trans f}
theorem Twin.yn{E w A o:World}{j G:Nat}{M:DM}{s:List Nat}{K:List (Nat × Nat)}{m L c:Value}{I:Nat->Value}(h:Twin E w j G M s K m L I)(B:Fr Nil w A){f:Nat}
 (u:App A m 146 1 (s.length+1) (ptrs s++[.pointer (some ⟨f,0,none⟩)]) c o)(N:f∉s)(O:f∈M.ids) :
 Twin E (o.setCell ⟨j,0,none⟩ c) j G M (s++[f]) K c L I/\Fr (fun k=>k=j\/m.ownBlock=some k) w (o.setCell ⟨j,0,none⟩ c) /\
  (∀ k,c.ownBlock=some k->m.ownBlock=some k\/w.heap.size<=k):=by
 have d:=h.Ba B;have Q:=B.size;have q:∀ k,c.ownBlock=some k->m.ownBlock=some k\/A.heap.size<=k:=by
  intro k i;rcases u.at_ with e|e
  .exact .inl (by rw[<- e];exact i)
  .rw[e] at i;simp at i;exact .inr (by omega)
 have v:Blk o j [m] 168:=d.co.fr u.fr (zi d.old d.co (by decide));have y:Fr (fun k=>k=j) o (o.setCell ⟨j,0,none⟩ c):=Fr.set (S:=fun k=>k=j) (p:=⟨j,0,none⟩) (U _ _) (fun _=>rfl) c;have l:Fr (fun k=>k=j\/m.ownBlock=some k) A (o.setCell ⟨j,0,none⟩ c) :=
  (u.fr.mono (fun _ _=>.inr)).trans (y.mono (fun _ _=>.inl))
 have x:Fr (fun k=>k=j\/m.ownBlock=some k) w (o.setCell ⟨j,0,none⟩ c):=(B.mono (fun _ _=>False.elim)).trans l;have D:∀ k,c.ownBlock=some k->E.heap.size<=k:=by
  intro k i;rcases q k i with e|e
  .exact h.no k e
  .have:=d.fr.size;omega
 refine⟨?_,x,fun k i=>(q k i).imp id (fun e=>by omega)⟩;refine {h with
  co:=v.set 0 c
  cm:=d.cm.fr l (fun e=>?_)
  old:=?_
  made:=ze d.made l (fun k i e=>?_)
  AH:=fun k i e=>?_
  files:=fun p r=>(d.files p r).fr l (fun e=>?_)
  rows:=fun p r=>ze (d.rows p r) l (fun k i e=>?_)
  n1:=?_
  ids:=?_
  no:=D
  fr:=Fr.trans' h.fr x (fun k i e=>?_)}
 .rcases e with e|e
  .exact h.ne e.symm
  .exact zi d.old d.cm (by decide) e
 .have e:ptrs (s++[f])=ptrs s++[.pointer (some ⟨f,0,none⟩)]:=by simp[ptrs]
  rw[e,JR];exact ze u.own y (fun k i e=>by subst e;exact zi u.own v (by decide) i)
 .rcases e with e|e
  .subst e;exact zi d.made d.co (by decide) i
  .exact h.AH k e i
 .rcases q k i with e'|e'
  .exact h.AH k e' e
  .have:=Zi d.made e;omega
 .rcases e with e|e
  .exact(d.files p r).ne d.co (by decide) e
  .exact zi d.old (d.files p r) (by decide) e
 .rcases e with e|e
  .subst e;exact zi (d.rows p r) d.co (by decide) i
  .exact Z4 d.old (d.rows p r) (by decide) e i
 .rw[Gl]
  refine⟨h.n1,by simp,?_⟩;intro a C b J;simp at J;subst J;intro e;subst e;exact N C
 .intro g t
  rcases JW.1 t with t|t
  .exact h.ids g t
  .simp at t;subst t;exact O
 .rcases e with e|e
  .have:=h.nbo;omega
  .have:=h.no k e;omega
theorem Twin.AZ{w0 w A t:World}{bo m:Nat}{M:DM}{os:List Nat}{x:List (Nat × Nat)}{vo y j v8:Value}{R:Nat->Value}(h:Twin w0 w bo m M os x vo y R)(Q:Fr Nil w A){f u:Nat}
 (N:A.ownsRow 0 5 1 v8 (M.file f).bytes.length (u8s (M.file f).bytes))(C:∀ k,v8.ownBlock=some k->w.heap.size<=k)
 (X:Blk A u [v8,.int .i64 (M.file f).safe] 152)(a0:w.heap.size<=u)
 (D:App A y 146 1 (x.length+1) (ptrs (x.map Prod.snd)++[.pointer (some ⟨u,0,none⟩)]) j t) :
 Twin w0 (t.setCell ⟨m,0,none⟩ j) bo m M os (x++[(f,u)]) vo j (fun g=>if g=u then v8 else R g)/\Fr (fun k=>k=m\/y.ownBlock=some k) w (t.setCell ⟨m,0,none⟩ j) /\
  (∀ k,j.ownBlock=some k->y.ownBlock=some k\/w.heap.size<=k):=by
 have o:=h.Ba Q;have a2:=Q.size;have a1:=h.fr.size;have B:∀ k,j.ownBlock=some k->y.ownBlock=some k\/A.heap.size<=k:=by
  intro k i;rcases D.at_ with e|e
  .exact .inl (by rw[<- e];exact i)
  .rw[e] at i;simp at i;exact .inr (by omega)
 have E:Blk t m [y] 168:=o.cm.fr D.fr (zi o.made o.cm (by decide));have O:Fr (fun k=>k=m) t (t.setCell ⟨m,0,none⟩ j):=Fr.set (S:=fun k=>k=m) (p:=⟨m,0,none⟩) (U _ _) (fun _=>rfl) j;have r:Fr (fun k=>k=m\/y.ownBlock=some k) A (t.setCell ⟨m,0,none⟩ j) :=
  (D.fr.mono (fun _ _=>.inr)).trans (O.mono (fun _ _=>.inl))
 have I:Fr (fun k=>k=m\/y.ownBlock=some k) w (t.setCell ⟨m,0,none⟩ j):=(Q.mono (fun _ _=>False.elim)).trans r;have l:∀ p,p∈x->p.2≠u:=by
  intro p d e;have:=(h.files p d).lt;omega
 have L:∀ p,p∈x->∀ k,(R p.2).ownBlock=some k->k<w.heap.size:=fun p d k i=>Zi (h.rows p d) i;have G:∀ {c:List Value} {g:Nat},Blk A g c 152->Blk (t.setCell ⟨m,0,none⟩ j) g c 152:=by
  intro c g V;refine V.fr r (fun e=>?_);rcases e with e|e
  .exact V.ne o.cm (by decide) e
  .exact zi o.made V (by decide) e
 have K:∀ {v:Value} {n:Nat} {xs:List Value},A.ownsRow 0 5 1 v n xs->(t.setCell ⟨m,0,none⟩ j).ownsRow 0 5 1 v n xs:=by
  intro v n xs Y;refine ze Y r (fun k i e=>?_);rcases e with e|e
  .subst e;exact zi Y o.cm (by decide) i
  .exact Z4 o.made Y (by decide) e i
 refine⟨?_,I,fun k i=>(B k i).imp id (fun e=>by omega)⟩;refine {h with
  co:=o.co.fr r (fun e=>?_)
  cm:=E.set 0 j
  old:=ze o.old r (fun k i e=>?_)
  made:=?_
  AH:=fun k i e=>?_
  files:=fun p d=>?_
  rows:=fun p d=>?_
  sep:=fun p d q s J k i e=>?_
  n2:=?_
  nm:=fun k i=>?_
  nf:=fun p d=>?_
  nr:=fun p d k i=>?_
  fr:=Fr.trans' h.fr I (fun k i e=>?_)}
 .rcases e with e|e
  .exact h.ne e
  .exact zi o.made o.co (by decide) e
 .rcases e with e|e
  .subst e;exact zi o.old o.cm (by decide) i
  .exact h.AH k i e
 .have e:ptrs ((x++[(f,u)]).map Prod.snd)=ptrs (x.map Prod.snd)++[.pointer (some ⟨u,0,none⟩)]:=by simp[ptrs]
  rw[e,JR];exact ze D.own O (fun k i e=>by subst e;exact zi D.own E (by decide) i)
 .rcases B k e with e'|e'
  .exact h.AH k i e'
  .have:=Zi o.old i;omega
 .rcases JW.1 d with d|d
  .simp only[l p d,Hf]
   exact G (o.files p d)
  .simp at d;subst d
   simp only[Hp];exact G X
 .rcases JW.1 d with d|d
  .simp only[l p d,Hf]
   exact K (o.rows p d)
  .simp at d;subst d
   simp only[Hp];exact K N
 .rcases JW.1 d with d|d <;> rcases JW.1 s with s|s
  .simp only[l p d,l q s,Hf] at i e
   exact h.sep p d q s J k i e
  .simp at s;subst s
   simp only[l p d,Hf] at i;simp only[Hp] at e;have:=L p d k i;have:=C k e;omega
  .simp at d;subst d
   simp only[l q s,Hf] at e;simp only[Hp] at i;have:=L q s k e;have:=C k i;omega
  .simp at d s;subst d;subst s
   exact J rfl
 .rw[Ip,Gl]
  refine⟨h.n2,by simp,?_⟩;intro a T b hb;simp at hb;subst hb;obtain⟨p,d,rfl⟩:=Ic.1 T;exact l p d
 .rcases B k i with e|e
  .exact h.nm k e
  .omega
 .rcases JW.1 d with d|d
  .exact h.nf p d
  .simp at d;subst d;show w0.heap.size<=u;omega
 .rcases JW.1 d with d|d
  .simp only[l p d,Hf] at i
   exact h.nr p d k i
  .simp at d;subst d
   simp only[Hp] at i;have:=C k i;omega
 .rcases e with e|e
  .have:=h.nbm;omega
  .have:=h.nm k e;omega
def cnt:List Fact->Nat->Nat
 | [],_=>0
 | x::r,n=>if (zS (zw x)).length<=n then cnt r (n-(zS (zw x)).length)+1 else 0
theorem UV:∀(a:List Fact){n m:Nat},n<=m->cnt a n<=cnt a m
 | [],_,_,_=>JS _
 | x::r,n,m,h=>by
  unfold cnt;split
  .rw[Io (by omega)]
   have:=UV r (n:=n-(zS (zw x)).length) (m:=m-(zS (zw x)).length) (by omega);omega
  .exact Iq _
theorem Uf:∀(a:List Fact)(n:Nat),cnt a n<=a.length
 | [],_=>JS _
 | x::r,n=>by
  unfold cnt;split
  .have:=Uf r (n-(zS (zw x)).length)
   rw[Ih];omega
  .exact Iq _
theorem OU:∀(b a:List Fact)(n:Nat),cnt b n<=cnt (b++a) n
 | [],_,_=>Iq _
 | x::r,a,n=>by
  rw[It];unfold cnt;split
  .have:=OU r a (n-(zS (zw x)).length)
   omega
  .exact JS _
theorem XS(x:Fact)(r:List Fact):zE (x::r)=zS (zw x)++zE r:=by simp[zE]
theorem OV:∀(a:List Fact)(n:Nat),(zE a).length<=n->cnt a n=a.length
 | [],_,_=>rfl
 | x::r,n,h=>by
  rw[XS,JR] at h;unfold cnt;rw[Io (by omega),OV r _ (by omega),Ih]
theorem Lr{l:List UInt8}(h:Torn l)(n:Nat):Torn (l.take n):=by
 obtain⟨a,b,c,d⟩:=h;refine⟨a,(EL n l).trans b,fun e=>c ?_,d⟩;have g:=b.length_le;have f:=GP List.length e;rw[JU] at f;exact b.eq_of_length (by omega)
theorem Pf:∀(b:List Fact)(a:List UInt8)(n:Nat),(∀ x∈b,ZO x)->Torn a->∃ c,(zE b++a).take n=zE (b.take (cnt b n))++c/\Torn c
 | [],a,n,_,d=>⟨a.take n,by simp[zE,cnt],Lr d n⟩
 | x::r,a,n,f,d=>by
  unfold cnt;rw[XS,Ig];split
  .rename_i hle
   obtain⟨c,g,h⟩:=Pf r a (n-(zS (zw x)).length) (fun y i=>f y (JV _ i)) d;refine⟨c,?_,h⟩;rw[Hb,XS,EJ,Il hle,g,Ig]
  .rename_i hgt
   refine⟨(zS (zw x)).take n,?_,zw x,EL _ _,fun e=>?_,(f x (JX ..)).2⟩
   .rw[ID (by omega)]
    simp[zE]
   .have:=GP List.length e
    rw[JU] at this;omega
def YP(s:Seg)(n:Nat):Seg:=(s.1.take (cnt s.1 n),((Zq s).take n).drop (zE (s.1.take (cnt s.1 n))).length)
theorem UE{s:Seg}(a:Wp s)(n:Nat):Zq (YP s n)=(Zq s).take n/\Wp (YP s n):=by
 obtain⟨f,b,c⟩:=Pf s.1 s.2 n a.1 a.2;have d:((Zq s).take n).drop (zE (s.1.take (cnt s.1 n))).length=f:=by
  unfold Zq;rw[b,GR]
 unfold YP;rw[d];exact⟨b.symm,fun x e=>a.1 x (IJ e),c⟩
theorem YC:∀(a b:List Nat)(k:Nat),(∀ i (h:i<a.length),∃ c:i<b.length,a[i]<=b[i])->(a.take k).sum<=(b.take k).sum
 | [],_,_,_=>by simp
 | x::a,b,0,_=>by simp
 | x::a,[],k+1,h=>by obtain⟨c,_⟩:=h 0 (by simp);simp at c
 | x::a,y::b,k+1,h=>by
  obtain⟨_,d⟩:=h 0 (by simp);have:=YC a b k (fun i g=>by
   obtain⟨e,f⟩:=h (i+1) (by simpa using g);exact⟨by simpa using e,by simpa using f⟩)
  simp only[Hb,GG];simp only[Fp] at d;omega
theorem RV(a:List Nat){k m:Nat}(h:k<=m):(a.take k).sum<=(a.take m).sum:=by
 obtain⟨d,rfl⟩:=Nat.le.dest h;rw[List.take_add,Fa];omega
theorem Si{s:Seg}{n:Nat}(h:(Zq s).length<=n):cnt s.1 n=s.1.length:=OV s.1 n (by unfold Zq at h;rw[JR] at h;omega)
theorem ZX{d:Dir}(c:(d.map Prod.fst).Nodup){e:ByteArray × Nat}(g:e∈d):d.look e.1=some e.2:=by
 obtain⟨a,b,rfl⟩:=Er g;unfold Dir.look;rw[Di,FN.2 (fun x h f=>?_),Option.none_or,List.find?_cons_of_pos (p:=fun x:ByteArray × Nat=>x.1==e.1) (Z5.2 rfl)]
 .rfl
 .rw[Ip,Gl] at c
  exact c.2.2 _ (IU h) e.1 (by simp) (Z5.1 f)
theorem Sj{D:Dir}(l:(D.map (·.2)).Nodup){e a:ByteArray × Nat}(k:e∈D)(b:a∈D)(h:e.2=a.2):e=a:=by
 obtain⟨m,c,f⟩:=Iv.1 k;obtain⟨o,d,g⟩:=Iv.1 b;have i:(D.map (·.2))[m]'(by simpa using c)=(D.map (·.2))[o]'(by simpa using d):=by simp[f,g,h]
 have j:=(DI l).1 i;subst j;rw[<- f,<- g]
theorem Rj{D:Dir}(p:(D.map Prod.fst).Nodup)(x:(D.map (·.2)).Nodup)(a:List Int)(file:Nat->FM){e:ByteArray × Nat}(q:e∈D):∀ k,k<=D.names.length ->
 ((∃ i,∃ h:i<D.names.length,i<k/\D.names[i]=e.1)->∃ c,zl D a file k e.2=ZH (file e.2) c)/\((∀ i (h:i<D.names.length),i<k->D.names[i]≠e.1)->zl D a file k e.2=file e.2)
 | 0,_=>⟨fun⟨i,_,h,_⟩=>absurd h (IY _),fun _=>rfl⟩
 | k+1,E=>by
  have A:=Vw D;have s:D.names.Nodup:=A.nodup_iff.2 p;have C:D.names[k]∈D.map Prod.fst:=A.mem_iff.1 (Ia _);obtain⟨u,d,g⟩:=Ic.1 C;have y:Dir.look D D.names[k]=some u.2:=by rw[<- g];exact ZX p d
  obtain⟨t,f⟩:=Rj p x a file q k (by omega);unfold zl;rw[Ii (by omega),EH,y];simp only;by_cases b:e=u
  .subst b
   rw[Io rfl];have l:=f (fun i m v o=>by
    have:=(DI s).1 (o.trans g);omega)
   rw[l];exact⟨fun _=>⟨_,rfl⟩,fun h=>absurd g.symm (h k (by omega) (Nat.lt_succ_self _))⟩
  .rw[Ie (fun j=>b (Sj x q d j))]
   have r:D.names[k]≠e.1:=fun j=>b (by
    have l:=ZX p q;rw[<- j,y] at l;exact Prod.ext (j.symm.trans g.symm) (IL l).symm)
   refine⟨fun⟨i,m,v,o⟩=>t ⟨i,m,?_,o⟩,fun h=>f (fun i m v=>h i m (by omega))⟩;by_cases B:i=k
   .subst B;exact absurd o r
   .omega
theorem NV{D:Dir}(h:(D.map Prod.fst).Nodup)(g:(D.map (·.2)).Nodup)(a:List Int)(file:Nat->FM){e:ByteArray × Nat}(d:e∈D):∃ c,zl D a file D.names.length e.2=ZH (file e.2) c:=by
 have j:=Vw D;obtain⟨i,b,f⟩:=Iv.1 (j.mem_iff.2 (IU d));exact(Rj h g a file d _ (JS _)).1 ⟨i,b,b,f⟩
theorem Pg(M:DM)(a:Int):M.Bn a∈M.safe::M.CD:=by
 unfold DM.Bn;split
 .exact JX ..
 .rename_i h
  have:=Yu a M.CD.length;refine JV _ ?_;rw[IP,Ii (by omega),Option.getD_some];exact Ia _
def zf:ByteArray:=⟨#[110,101,119]⟩
def zn(b:Bool)(n:Nat):ByteArray:=zu (if b then Y1 else zL) n
def ZC:Option (Bool × Nat)->ByteArray
 | none=>zf
 | some e=>zn e.1 e.2
theorem XE(k:ByteArray)(n:Nat):(zu k n).data.toList=k.data.toList++Lib.decDigits n:=by
 simp only[zu,Fv,Fl,Wo]
theorem Ph(n:Nat):Lib.hasPrefix (zu Y1 n).data.toList zL.data.toList=false/\Lib.atoi (zu Y1 n).data.toList=none:=by
 have e:(zu Y1 n).data.toList=98::97::115::101::Lib.decDigits n:=by
  rw[XE]
  rfl
 rw[e];exact⟨rfl,rfl⟩
theorem Ls(n:Nat)(a:n<10^14):(zu Y1 n).size<=18:=by
 have h:=Wn 13 n a;have e:(zu Y1 n).data.toList.length=4+(Lib.decDigits n).length:=by
  rw[XE];simp[Y1];omega
 have b:(zu Y1 n).size=(zu Y1 n).data.toList.length:=by simp
 omega
def WL(a:List (Option (Bool × Nat)))(l:List (Nat × ByteArray)):Prop:=l.length<=a.length/\∀ e,e∈l↔∃ k n,some (k,n)∈a/\e=(n,zn k n)
def V8:Option (Bool × Nat)->Nat × Nat
 | none=>(0,0)
 | some (false,n)=>(n,0)
 | some (true,n)=>(0,n)
def YI(a:List (Option (Bool × Nat))):List Nat:=a.filterMap fun c=>c.map (·.2)
theorem TC(c:Option (Bool × Nat))(d:∀ k n,c=some (k,n)->1<=n/\n<10^14)(w:World)(h:∀ b,Fr Nil w b->Tab b)(a:Yd w) :
 (Calls Tryz.prog 185 #[.string zL,.string (ZC c)] w fun e b=>e=.returned (.int .i64 (V8 c).1)/\Fr Nil w b) /\
   (Calls Tryz.prog 185 #[.string Y1,.string (ZC c)] w fun e b=>e=.returned (.int .i64 (V8 c).2)/\Fr Nil w b):=by
 match c,d with
 | none,_=>exact⟨YY zL zf rfl (by decide) rfl w a,YY Y1 zf rfl (by decide) rfl w a⟩
 | some (false,n),d =>
  obtain⟨f,g⟩:=d false n rfl;exact⟨Ub zL (by decide) n f (by omega) w h,YY Y1 (zu zL n) (P3 n).1 (Ki n (by omega)) (P3 n).2 w a⟩
 | some (true,n),d =>
  obtain⟨f,g⟩:=d true n rfl;exact⟨YY zL (zu Y1 n) (Ph n).1 (Ls n g) (Ph n).2 w a,Ub Y1 (by decide) n f (by omega) w h⟩
theorem Rk(b:Nat)(L:DL)(M:DM)(w:World)(h:DRep w b L M)(a:List (Option (Bool × Nat)))(hd:M.dir.names=a.map ZC)(b3:M.dir.length=a.length)(t:(YI a).Nodup)(hb:∀ k n,some (k,n)∈a->1<=n/\n<10^14)(b8:a.length<1000000000)
 (ht:∀ j,Fr Nil w j->Tab j)(I:Yd w) :
 Calls Tryz.prog 145 #[.pointer (some ⟨b,0,none⟩)] w fun e j =>
  ∃ mb v l,e=.returned (.pointer (some ⟨mb,0,none⟩))/\Blk j mb [v] 263/\WG j v l/\WL a l/\w.heap.size<=mb/\(∀ k,v.ownBlock=some k->w.heap.size<=k)/\Fr Nil w j:=by
 have HL:=Z (fun u (f:Fr Nil w u)=>Wk u b L M (h.fr f (fun _ _=>id)) (by omega));rw[hd,b3] at HL;clear h;go_enter Tryz.func145,Tryz.ntmps145;go_wp2_with fail;have a8:Blk (w.alloc (.cells #[.slice none 0 0] 263)) w.heap.size [.slice none 0 0] 263:=Blk.new w [_] _;have K:Fr Nil w (w.alloc (.cells #[.slice none 0 0] 263)):=(U _ _).alloc _;generalize w.alloc (.cells #[.slice none 0 0] 263)=W0 at a8 K |-;refine(HL.out W0 K).mono ?_;rintro e w1 ⟨lv,rfl,a7,a0,c0⟩;have b6:=a8.fr a0 id;obtain⟨la,lc,rfl⟩:=zg a7;go_wp2_with fail;have HT:=Z ht;have b9:=Z I;have b2:=Z t;have HB:=Z hb;have HX:Hid (∀ c∈a,∀ u,Fr Nil w u->(Calls Tryz.prog 185 #[.string zL,.string (ZC c)] u fun e j=>e=.returned (.int .i64 (V8 c).1)/\Fr Nil u j) /\
  (Calls Tryz.prog 185 #[.string Y1,.string (ZC c)] u fun e j=>e=.returned (.int .i64 (V8 c).2)/\Fr Nil u j)):=fun c hc u f =>
  TC c (fun k n e=>hb k n (e▸hc)) u (fun j f'=>ht j (f.trans f')) (I.fr f id)
 clear ht I t hb;have c1:=K.size;have c2:=a0.size
 go_loopw [12] (fun a3 j=>∃ (i:Nat) (v:Value) (l:List (Nat × ByteArray)),i<=a.length/\a3=.int .i64 (i:Int)/\Blk j w.heap.size [v] 263/\WG j v l/\WL (a.take i) l/\(∀ k,v.ownBlock=some k->w.heap.size<=k)/\j.ownsRow 0 9 1 (.slice la a.length lc) a.length (strs (a.map ZC))/\Fr Nil w j) (fun a3 _=>(a.length-intOf a3).toNat)
 case atStart =>
  refine⟨0,_,[],by omega,rfl,b6,⟨⟨rfl,.inl ⟨rfl,rfl⟩⟩,?_⟩,⟨Iq _,by simp⟩,fun k Q=>by simp[Value.ownBlock] at Q,a7,K.trans a0⟩;exact List.Pairwise.nil
 case round =>
  obtain⟨i,v,l,hi,rfl,d,x,o,r,s,hf⟩:=hrel;by_cases N:i<a.length
  .obtain⟨g,cap',hg,_,_⟩:=zz s (by omega)
   obtain⟨rfl,rfl⟩:la=some ⟨g,0,none⟩/\lc=cap':=by simpa using hg
   have hc:=own_cell? s i (.string (ZC a[i])) (by simp[strs,N]);have y:=Ia N;have C:Hid (a.take (i+1)=a.take i++[a[i]]):=by
    show a.take (i+1)=_;rw[Fj,Ii N];rfl
   have V:Hid (∀ k n,a[i]=some (k,n)->n∉ZB l):=fun k n X Q=>by
    obtain⟨e,b4,a4⟩:=Ic.1 Q;obtain⟨R,n2,hn,rfl⟩:=(o.2 e).1 b4;simp only at a4;subst a4;have t:=b2.out;rw[<- Ik i a,He N,X] at t;unfold YI at t;rw[List.filterMap_append,Gl] at t;exact t.2.2 n2 (Dd.2 ⟨_,hn,rfl⟩) n2 (by simp) rfl
   have T:=Z (And.intro d (And.intro x (And.intro o (And.intro r (And.intro s hf)))));have A:Hid (∀ u k n,Fr Nil wr u->a[i]=some (k,n)->Calls Tryz.prog 186 #[.pointer (some ⟨w.heap.size,0,none⟩),.int .i64 (n:Int),.string (zn k n)] u fun e j =>
    e=.returned (.tuple #[])/\∃ O,(Blk j w.heap.size [O] 263/\WG j O (Wg l n (zn k n))/\WL (a.take (i+1)) (Wg l n (zn k n))/\(∀ k,O.ownBlock=some k->w.heap.size<=k)/\j.ownsRow 0 9 1 (.slice (some ⟨g,0,none⟩) a.length lc) a.length (strs (a.map ZC))/\Fr Nil w j)):=fun u k n f X=>by
    have G:=ze s f (fun _ _=>id);have a9:=d.fr f id;have D:=x.fr f (fun _ _=>id);have c3:=(hf.trans f).size;refine(NO v [] l n (zn k n) w.heap.size 263 u a9 (by decide) D (by have:=o.1;have:=List.length_take_le i a;omega) (Lh (V.out k n X))).mono ?_;rintro e w4 ⟨rfl,O,b7,Y,a6,a1⟩;refine⟨rfl,O,b7,Y,⟨?_,fun e=>?_⟩,fun k Q=>?_,ze G a6 (fun k Q e=>?_),?_⟩
    .have:=o.1
     rw[UA,C.out,JR,JZ];omega
    .rw[Kh,C.out,o.2 e]
     constructor
     .rintro(⟨R,m,d,rfl⟩|rfl)
      .exact⟨R,m,by simp only[JW];exact .inl d,rfl⟩
      .exact⟨k,n,by simp[X],rfl⟩
     .rintro⟨R,m,d,rfl⟩
      simp only[JW,JY] at d;rcases d with d|d
      .exact .inl ⟨R,m,d,rfl⟩
      .rw[X] at d;cases d;exact .inr rfl
    .rcases a1 k Q with h1|h1
     .exact r k h1
     .omega
    .have h0:=zB G Q
     rcases e with rfl|e
     .exact absurd (Ty.inj h0 (Blk.ty a9)) (by decide)
     .exact absurd (Ty.inj h0 (zB D.own e)) (by decide)
    .refine(hf.trans f).trans' a6 (fun k Q e=>?_)
     rcases e with rfl|e
     .omega
     .have:=r k e;omega
   have J:Hid (a[i]=none->WL (a.take (i+1)) l):=fun X=>by
    refine⟨?_,fun e=>?_⟩
    .have:=o.1
     rw[C.out,JR,JZ];omega
    .rw[C.out,o.2 e]
     constructor
     .rintro⟨R,m,d,rfl⟩
      exact⟨R,m,by simp only[JW];exact .inl d,rfl⟩
     .rintro⟨R,m,d,rfl⟩
      simp only[JW,JY] at d;rcases d with d|d
      .exact⟨R,m,d,rfl⟩
      .rw[X] at d;cases d
   have B:Hid (∀ k n,a[i]=some (k,n)->1<=n):=fun k n e=>(HB.out k n (e▸y)).1;clear d x o r s hf;generalize a[i]=c at hc y V A J B C;clear C V;go_wp2_with fail;refine((HX.out c y wr T.out.2.2.2.2.2).1).mono ?_;rintro e w2 ⟨rfl,a5⟩;go_wp2_with fail;refine((HX.out c y w2 (T.out.2.2.2.2.2.trans a5)).2).mono ?_;rintro e w3 ⟨rfl,b5⟩;have q:=a5.trans b5
   match c,B,A,J with
   | none,_,_,J =>
    have b0:¬(0:Int)<0:=by omega
    simp only[V8];go_wp2_with fail;exact⟨⟨i+1,v,l,by omega,by go_num,T.out.1.fr q id,T.out.2.1.fr q (fun _ _=>id),J.out rfl,T.out.2.2.2.1,ze T.out.2.2.2.2.1 q (fun _ _=>id),T.out.2.2.2.2.2.trans q⟩,by simp[intOf];omega⟩
   | some (false,n),B,A,_ =>
    have b1:=B.out false n rfl;have a2:(0:Int)<n:=by omega
    have b0:¬(n:Int)<0:=by omega
    simp only[V8];go_wp2_with fail;refine(A.out w3 false n q rfl).mono ?_;rintro e w4 ⟨rfl,O,E⟩;go_wp2_with fail;exact⟨⟨i+1,O,_,by omega,by go_num,E⟩,by simp[intOf];omega⟩
   | some (true,n),B,A,_ =>
    have b1:=B.out true n rfl;have a2:(0:Int)<n:=by omega
    have b0:¬(n:Int)<0:=by omega
    simp only[V8];go_wp2_with fail;refine(A.out w3 true n q rfl).mono ?_;rintro e w4 ⟨rfl,O,E⟩;go_wp2_with fail;exact⟨⟨i+1,O,_,by omega,by go_num,E⟩,by simp[intOf];omega⟩
  .have hil:i=a.length:=by omega
   subst hil;go_wp2_with fail;go_ret;rw[Ij] at o;exact⟨_,v,l,rfl,d,x,o,JS _,r,hf⟩
end Go.Proofs.YtkhnggkkiefcdaaGreatDoor
