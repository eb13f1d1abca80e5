/- larder: joined texts -/
import Derived.Test.YtkhnggkkiefcdaaGreatDoorFRAJ
namespace Go.Proofs.YtkhnggkkiefcdaaGreatDoor
open Go.RowKit
set_option maxRecDepth 100000
set_option maxHeartbeats 8000000
structure Z7(w0:World)(b:Nat)(L0:DL)(M0:DM)(tails:List Int)(nv:Value)(i:Nat)(w:World):Prop where
 Hl:∃ L,DRep w b L {M0 with file:=zh M0.dir tails M0.file i}/\L.Hm=L0.Hm/\L.Hf=L0.Hf/\L.Gm=L0.Gm/\L.Hj=L0.Hj/\(∀ k,Foot b L {M0 with file:=zh M0.dir tails M0.file i} k->Foot b L0 M0 k)
 fr:Fr (Foot b L0 M0) w0 w
 names:w.ownsRow 0 9 1 nv M0.dir.length (strs M0.dir.names)
theorem SS(f:FM)(c:Int)(h:f.safe<=f.bytes.length):f.safe+zF c (f.bytes.length-f.safe)<=f.bytes.length:=by
 have:=ZW c (f.bytes.length-f.safe);omega
theorem Xr(d:Dir):d.names.length=d.length:=Wt d _ (NS _)
theorem OG(l:List ByteArray)(x y:ByteArray)(h:y∈ZL l x):y=x\/y∈l:=by
 induction l with
 | nil=>simp[ZL] at h;exact .inl h
 | cons a r b =>
  simp only[ZL] at h;split at h
  .rcases Mr.1 h with h|h
   .exact .inr (by simp[h])
   .rcases b h with h|h
    .exact .inl h
    .exact .inr (NX _ h)
  .rcases Mr.1 h with h|h
   .exact .inl h
   .exact .inr h
theorem QS(d:Dir):∀ k,k<=d.length->∀ y,y∈ZD d k->∃ e,e∈d/\e.1=y:=by
 intro k
 induction k with
 | zero=>intro _ y a;simp[ZD] at a
 | succ k b =>
  intro h y a;rw[Xz d k h,List.mem_reverse] at a;rcases OG _ _ _ a with rfl|a
  .exact⟨d[k],NV h,rfl⟩
  .exact b (by omega) y (by simpa using a)
theorem Vh(d:Dir)(y:ByteArray)(h:y∈d.names):∃ k:Nat,∃ c:k<d.length,zR d y=k/\Dir.look d y=some d[k].2:=by
 obtain⟨e,f,rfl⟩:=QS d _ (NS _) y h;rcases ZH d e.1 with⟨b,a⟩|⟨k,c,b,a,_⟩
 .exfalso
  cases hf:d.find? (fun x=>x.1==e.1) with
  | none=>exact absurd (show(e.1==e.1)=true by rw[KW];simp) (Ke.1 hf e f)
  | some x=>simp[Dir.look,hf] at a
 .exact⟨k,c,b,a⟩
theorem NK{d:Dir}{a:ByteArray}{k:Nat}(m:zR d a=k)(w g:World)(b:Nat)(L:DL)(M:DM)(l:M.dir=d)(h:DRep g b L M)(c:Fr Nil g w) :
 Calls Tryz.prog 87 #[L.Hm,.string a] w fun e f=>e=.returned (.int .i64 k)/\f.cell? ⟨b,0,none⟩=some L.Hm/\Fr Nil g f:=by
 subst l;refine(zU m w (h.fr c (fun _ _=>id)).dir).mono fun e f ⟨j,i⟩=>⟨j,?_,c.trans i⟩;exact((h.fr (c.trans i) (fun _ _=>id)).IR.cell 0)
theorem XH(d:Dir)(a:List Int)(file:Nat->FM):∀ i f,(zh d a file i f).bytes.length<=(file f).bytes.length:=by
 intro i
 induction i with
 | zero=>intro f;exact NS _
 | succ i b =>
  intro f;cases hx:(d.names[i]?).bind (Dir.look d) with
  | none=>simp only[zh,hx];exact b f
  | some g =>
   simp only[zh,hx];split
   .rename_i e
    subst e;have:=b f;simp only[ZG,NT];omega
   .exact b f
theorem RO(d:Dir)(a:List Int)(file:Nat->FM)(i f:Nat)(b:i<d.names.length)(h:Dir.look d d.names[i]=some f) :
 zh d a file (i+1)=fun g=>if g=f then ZG (zh d a file i f) (a.getD i 0) else zh d a file i g:=by
 simp only[zh,NZ b,Jo,h]
theorem UH{d:Dir}{a:ByteArray}{k:Nat}(u:zR d a=k)(t:k<d.length)(w o:World)(b:Nat)(L:DL)(M:DM)(s:M.dir=d){g c:Nat}(q:L.Hm=.slice (some ⟨g,0,none⟩) d.length c)(h:DRep o b L M)(l:Fr Nil o w) :
 Calls Tryz.prog 87 #[.slice (some ⟨g,0,none⟩) d.length c,.string a] w fun e f=>e=.returned (.int .i64 k)/\f.cell? ⟨b,0,none⟩=some (.slice (some ⟨g,0,none⟩) d.length c) /\
  f.cell? ⟨g,k*2+1,none⟩=some (.pointer (some ⟨d[k].2,0,none⟩))/\Fr Nil o f:=by
 subst s;have j:=(h.fr l (fun _ _=>id)).dir;rw[q] at j;refine(zU u w j).mono fun e f ⟨r,i⟩=>⟨r,?_,?_,l.trans i⟩
 .rw[<- q];exact((h.fr (l.trans i) (fun _ _=>id)).IR.cell 0)
 .exact own_cell? (za j i (fun _ _=>id)) _ _ (ZA _ k t).2
theorem Z7.step{F w s:World}{b:Nat}{l j:DL}{c:DM}{a:List Int}{E v:Value}{i f m:Nat}(h:Z7 F b l c a E i w)
 (C:DRep w b j {c with file:=zh c.dir a c.file i})
 (r:j.Hm=l.Hm/\j.Hf=l.Hf/\j.Gm=l.Gm/\j.Hj=l.Hj/\(∀ k,Foot b j {c with file:=zh c.dir a c.file i} k->Foot b l c k))
 (o:Fr Nil w s)(I:i<c.dir.names.length)(A:Dir.look c.dir c.dir.names[i]=some f)(d:f∈c.ids)
 (J:m=(zh c.dir a c.file i f).safe+zF (a.getD i 0) ((zh c.dir a c.file i f).bytes.length-(zh c.dir a c.file i f).safe))
 (K:s.ownsRow 0 5 1 v m (u8s ((zh c.dir a c.file i f).bytes.take m)))(t:∀ k,v.ownBlock=some k->(j.fV f).ownBlock=some k) :
 Z7 F b l c a E (i+1) (((s.setCell ⟨f,0,none⟩ v).setCell ⟨f,1,none⟩ (.int .i64 m)).drew):=by
 have x:=C.fr o (fun _ _=>id);have u:=x.le f d;simp only at u;have B:m<=(zh c.dir a c.file i f).bytes.length:=by
  have:=SS (zh c.dir a c.file i f) (a.getD i 0) u;omega
 have q:Fr (fun k=>k=f) s (((s.setCell ⟨f,0,none⟩ v).setCell ⟨f,1,none⟩ (.int .i64 m)).drew):=(by repeat' first|exact O _ _|(with_reducible assumption)|refine Fr.drewN ?_ _|refine Fr.drew ?_|refine Fr.alloc ?_ _|refine Fr.set ?_ ?_ _|(intro _;rfl));have G:Blk (((s.setCell ⟨f,0,none⟩ v).setCell ⟨f,1,none⟩ (.int .i64 m)).drew) f [v,.int .i64 m] 152:=(((x.files f d).set 0 v).set 1 (.int .i64 m)).drew;have z:=x.Gx d B G K q t;have D:({c with file:=zh c.dir a c.file i}:DM).IY f ⟨(zh c.dir a c.file i f).bytes.take m,m⟩={c with file:=zh c.dir a c.file (i+1)}:=by
  rw[RO _ _ _ _ _ I A];simp only[DM.IY,ZG,<- J]
 have y:Foot b j {c with file:=zh c.dir a c.file i} f:=.file d;refine⟨⟨{j with fV:=fun g=>if g=f then v else j.fV g},?_,r.1,r.2.1,r.2.2.1,r.2.2.2.1,?_⟩,?_,?_⟩
 .rw[<- D];exact z
 .intro k hkf
  rw[<- D] at hkf;exact r.2.2.2.2 k (Foot.Ft d t hkf)
 .refine Fr.trans' (h.fr.trans (o.mono (fun _ _=>False.elim))) q ?_
  intro k _ e;subst e;exact r.2.2.2.2 _ y
 .have h1:=za h.names o (fun _ _=>id)
  exact za h1 q (fun k e z=>by subst z;exact zf h1 (x.files _ d) (by decide) e)
theorem DRep.Eb{w:World}{b:Nat}{L:DL}{M:DM}{d:Dir}{F:Nat->FM}(h:DRep w b L {M with dir:=d,file:=F}) :
 DRep (((((w.setCell ⟨b,1,none⟩ L.Hm).setCell ⟨b,2,none⟩ (.slice none 0 0)).setCell ⟨b,10,none⟩ (.bool false)).setCell ⟨b,5,none⟩ (.int .i64 0)).setCell ⟨b,6,none⟩ (.int .i64 0)) b
  {L with Hf:=L.Hm,Gm:=.slice none 0 0,Hj:=[]} {M with dir:=d,safe:=d,IW:=[],file:=F,dead:=false,cut:=0,fail:=0}:=by
 have a:=h.synced (w':=(w.setCell ⟨b,1,none⟩ L.Hm).setCell ⟨b,2,none⟩ (.slice none 0 0)) ((h.IR.set 1 L.Hm).set 2 (.slice none 0 0)) z8;exact a.own (M':={M with dir:=d,safe:=d,IW:=[],file:=F,dead:=false,cut:=0,fail:=0}) (((a.IR.set 10 (.bool false)).set 5 (.int .i64 0)).set 6 (.int .i64 0)) z8 rfl rfl rfl rfl rfl
theorem UI{w s wr:World}{b:Nat}{L:DL}{M:DM}{d:Dir}{v F:Value}{c:Int}{a:List Int}(D:M.Ht c=d)
 (h:Z7 s b {L with Hm:=v} {M with dir:=d} a F d.length wr)(j:Fr (fun k=>k=b) w s)
 (g:∀ k,Foot b {L with Hm:=v} {M with dir:=d} k->Foot b L M k) :
 ∃ t,DStep b L M w t (M.Gd c a)
  (((((wr.setCell ⟨b,1,none⟩ v).setCell ⟨b,2,none⟩ (.slice none 0 0)).setCell ⟨b,10,none⟩ (.bool false)).setCell ⟨b,5,none⟩ (.int .i64 0)).setCell ⟨b,6,none⟩ (.int .i64 0)):=by
 obtain⟨u,q,r,x,y,z,l⟩:=h.Hl;simp only at r x y z;subst r;have A:M.Gd c a={M with dir:=d,safe:=d,IW:=[],file:=zh d a M.file d.length,dead:=false,cut:=0,fail:=0}:=by
  simp only[DM.Gd,D,Xr]
 rw[A];have C:=q.Eb;refine⟨_,C,?_,?_⟩
 .have hfr:Fr (fun k=>k=b) wr (((((wr.setCell ⟨b,1,none⟩ u.Hm).setCell ⟨b,2,none⟩ (.slice none 0 0)).setCell ⟨b,10,none⟩ (.bool false)).setCell ⟨b,5,none⟩ (.int .i64 0)).setCell ⟨b,6,none⟩ (.int .i64 0)):=z8
  refine Fr.trans' (Fr.trans' (j.mono (fun k _ e=>by subst e;exact .IR)) h.fr (fun k _ o=>g k o)) hfr (fun k _ e=>by subst e;exact .IR)
 .intro k o
  refine .inl (g k ?_);cases o using Foot.elim with
  | blk=>exact .IR
  | dir e=>exact .dir e
  | safe e=>exact .dir e
  | ch e=>simp[Value.ownBlock] at e
  | chs i B e=>exact absurd B (MA _)
  | file e=>exact .file e
  | row f E e=>exact l k (.row f E e)
set_option maxRecDepth 100000 in
theorem QT(t:Int)(l:List Int)(tv:Value)(w:World)(b:Nat)(L:DL)(M:DM)(h:DRep w b L M)(e8:-9223372036854775808<=t)(e9:t<=9223372036854775807)
 (ht:ZJ w tv l)(d6:∀ k,l≠[]->tv.ownBlock=some k->¬Foot b L M k)(d7:∀ x,x∈l->-9223372036854775808<=x/\x<=9223372036854775807)
 (f1:∀ f,f∈M.ids->(M.file f).bytes.length<=1000000000000)(hn:M.IW.length+1<=1000000000000)(hm:∀ d,d∈M.safe::M.IW->d.length<=1000000000000)(b9:zF t M.IW.length=0) :
 Calls Tryz.prog 33 #[.pointer (some ⟨b,0,none⟩),.int .i64 t,tv] w fun e w' =>
  e=.returned (.tuple #[])/\∃ L',DStep b L M w L' (M.Gd t l) w':=by
 have hc:=h.IR.cell;have g8:=h.IR.frozen;simp only[DM.cells] at hc;obtain⟨ca,g0,b6⟩:=zd h.ch;obtain⟨sa,g1,c1⟩:=zd h.safe;obtain⟨ta,tc,c2⟩:∃ a c,tv=.slice a l.length c:=by
  rcases ht with⟨⟨_,_,rfl⟩,rfl⟩|⟨g,a1,a4,rfl,_⟩
  .exact⟨_,_,rfl⟩
  .exact⟨_,_,rfl⟩
 have c7:M.Ht t=M.safe:=by simp[DM.Ht,b9]
 have d5:Blk (w.setCell ⟨b,0,none⟩ L.Hf) b (({M with dir:=M.safe}:DM).cells {L with Hm:=L.Hf}) 143:=h.IR.set 0 L.Hf;have d4:=h.Fg h.safe h.GC d5 (by repeat' first|exact O _ _|(with_reducible assumption)|refine Fr.drewN ?_ _|refine Fr.drew ?_|refine Fr.alloc ?_ _|refine Fr.set ?_ ?_ _|(intro _;rfl));rw[b6,c1] at hc;have HH:=Z h;have c3:=Z d4;have d8:=Z b6;have b2:=Z c1;have HT:=Z ht;have e7:=Z c2;have d9:=Z c7;have hp:=Y2 t M.IW.length w e8 e9 (by omega);rw[b9] at hp;have HP:=Z hp;have f7:l.length<=maxLen:=by
  rcases ht with⟨_,rfl⟩|⟨_,_,_,_,_,h,_⟩
  .simp
  .exact h
 unfold maxLen at f7;clear h d4 b6 c1 ht d5 c7 hp b9;rw[c2];clear c2;go_enter Tryz.func33,Tryz.ntmps33
 go_wp2_with (go_at_call 85;refine HP.out.mono ?_;rintro e wx ⟨rfl,h9⟩;subst wx)
 have HL:=Z (YX _ b _ _ c3.out (hm M.safe (NY ..)));rw[<- b2.out];refine HL.out.mono ?_;rintro e w1 ⟨nv,rfl,a8,a6,b0⟩;obtain⟨na,nc,b1⟩:=zd a8;have d3:=zu a8;unfold maxLen at d3;have c6:Z7 (w.setCell ⟨b,0,none⟩ L.Hf) b {L with Hm:=L.Hf} {M with dir:=M.safe} l nv 0 w1 :=
  ⟨⟨_,c3.out.fr a6 (fun _ _=>id),rfl,rfl,rfl,rfl,fun k hk=>hk⟩,a6.mono (fun _ _=>False.elim),a8⟩
 have g4:=Z b1;have g5:=Z b0;have g2:=Z a6;clear a8 a6 b0 hc;subst b1;go_wp2_with fail
 go_loopw [44] (fun c w'=>∃ i:Nat,i<=M.safe.length/\c=.int .i64 i/\Z7 (w.setCell ⟨b,0,none⟩ L.Hf) b {L with Hm:=L.Hf} {M with dir:=M.safe} l (.slice na M.safe.length nc) i w') (fun c _=>M.safe.length-(intOf c).toNat)
 case atStart=>exact⟨0,Me _,rfl,c6⟩
 case round =>
  obtain⟨i,hi,rfl,c5⟩:=hrel;have y:=Z c5;clear c5 c6;by_cases g9:i<M.safe.length
  .have hnl:M.safe.names.length=M.safe.length:=Xr _
   obtain⟨ng,f2⟩:∃ g,na=some ⟨g,0,none⟩:=by
    obtain⟨g,c',h',_⟩:=zq y.out.names (by show 0<M.safe.length;omega);simp at h';exact⟨g,h'.1⟩
   subst f2;have C:i<M.safe.names.length:=by omega
   have h3:=own_cell? y.out.names i (.string M.safe.names[i]) (by simp[strs,C]);obtain⟨k,hk,b8,d1⟩:=Vh M.safe M.safe.names[i] (NV C);obtain⟨Li,z,e1,e2,e3,e4,V⟩:=y.out.Hl;have R:=z.IR.cell 0;have G:=z.dir;rw[e1] at G;obtain⟨dg,a9,a5,_,f0⟩:=zq G (by show 0<M.safe.length;omega);simp only at a5;have T:Li.Hm=.slice (some ⟨dg,0,none⟩) M.safe.length a9:=e1.trans a5;simp only[DM.cells,T] at R;simp at R;have h6:=own_cell? (by rw[<- a5];exact G) _ _ (ZA M.safe k hk).2;have B:=Z z;have e5:=Z b8;have e0:=Z T;have a3:=Z d1;have a2:=Z (⟨e1,e2,e3,e4,V⟩:Li.Hm=_/\Li.Hf=_/\Li.Gm=_/\Li.Hj=_/\_);unfold maxLen at f0;clear z b8 e1 e2 e3 e4 G V a5 T d1;go_wp2_with fail
   go_region_held3 (fun w'=>w'.cell? ⟨b,0,none⟩=some (.slice (some ⟨dg,0,none⟩) M.safe.length a9)/\w'.cell? ⟨dg,k*2+1,none⟩=some (.pointer (some ⟨M.safe[k].2,0,none⟩))) (first|go_keep|exact⟨‹_›,‹_›⟩)
    (first|(go_at_call 87;refine(UH e5.out hk _ wr b _ _ rfl e0.out B.out (Fr.drew (O _ _))).mono ?_;rintro e w5 ⟨rfl,g6,h4,I⟩))
   have h5:=B.out.fr I (fun _ _=>id);have o:M.safe[k].2∈M.ids:=B.out.Gc _ (NV hk);have c8:(zh M.safe l M.file i M.safe[k].2).bytes.length<=1000000000000:=NR (XH _ _ _ _ _) (f1 _ o);have X:=h5.le _ o;have b5:=(h5.files _ o).cell;have g7:=(h5.files _ o).frozen;obtain⟨fa,fc,a7⟩:=zd (h5.rows _ o);rw[a7] at b5;simp only at X b5 a7;have c4:ZJ w5 tv l:=by
    have c9:Fr (fun k=>k=b\/Foot b L M k) w w5:=by
     refine Fr.trans' (Fr.set (O _ w) (p:=⟨b,0,none⟩) (fun _=>.inl rfl) L.Hf) (y.out.fr.trans (I.mono (fun _ _=>False.elim))) ?_;intro j _ E;refine .inr ?_;cases E using Foot.elim with
     | blk=>exact .IR
     | dir e=>exact .safe e
     | safe e=>exact .safe e
     | ch e=>exact .ch e
     | chs i s e=>exact .IW i s e
     | file e=>exact .file e
     | row f hf e=>exact .row f hf e
    refine HT.out.fr c9 ?_;intro j d2 E hb;rcases hb with rfl|hb
    .exact d6 _ d2 E .IR
    .exact d6 j d2 E hb
   have r:=Z a7;have H5:=Z h5;have e6:=Z c4;have g3:=Z X;clear h5 a7 c4;generalize hF:zh M.safe l M.file i M.safe[k].2=F at b5 X c8;have A:=Z hF;clear hF;by_cases J:i<l.length
   .obtain⟨tg,toff,tcap,htv',htc⟩:∃ g a1 a4,tv=.slice (some ⟨g,a1,none⟩) l.length a4/\w5.cell? ⟨g,a1+i,none⟩=some (.int .i64 l[i]):=by
     rcases e6.out with⟨_,h0⟩|⟨g,a1,a4,hv,_,_,b4⟩
     .subst h0;simp at J
     .exact⟨g,a1,a4,hv,b4 i J⟩
    have f6:ta=some ⟨tg,toff,none⟩:=by have:=e7.out.symm.trans htv';simp at this;exact this.1
    subst f6;have d0:l.getD i 0=l[i]:=by simp[List.getD,J]
    have HG:=Z d0;have h7:=(d7 l[i] (NV J)).1;have h8:=(d7 l[i] (NV J)).2;clear d0;generalize l[i]=tx at *;obtain⟨D,S⟩:∃ D:Nat,D=F.bytes.length-F.safe:=⟨_,rfl⟩;have u:∀ wx:World,Calls Tryz.prog 85 #[.int .i64 tx,.int .i64 D] wx fun e w'=>e=.returned (.int .i64 (zF tx D))/\w'=wx :=
     fun wx=>Y2 _ _ wx (by omega) (by omega) (by omega)
    have q:=Z u;have a0:=ZW tx D;clear u;generalize hP:zF tx D=pn at a0 q;have Q:=Z hP;clear hP;obtain⟨m,Y⟩:∃ m:Nat,m=F.safe+pn:=⟨_,rfl⟩;have f8:IntKind.i64.wrap ((F.bytes.length:Int)-(F.safe:Int))=(D:Int):=by simp (disch:=omega) only[Kj];omega
    have f9:IntKind.i64.wrap ((F.safe:Int)+(pn:Int))=(m:Int):=by simp (disch:=omega) only[Kj];omega
    have K:=Z S;have N:=Z Y;have c0:m<=F.bytes.length:=by omega
    have b4:F.bytes.length<=fc:=by
     rcases (H5.out.rows _ o).2 with⟨s,h2⟩|⟨_,_,_,s,_,_,h2,_⟩
     .simp only[A.out] at h2;omega
     .rw[r.out] at s;simp only[A.out] at s h2;simp at s;omega
    have f4:(0:Int)<=(m:Int):=by omega
    have f5:(m:Int)<=(fc:Int):=by omega
    clear S Y a0;by_cases b7:fc=0
    .have hm0:m=0:=by omega
     go_wp2_with fail;refine MZ 26 (by kernel_rfl) (by kernel_rfl) ?_;simp only[MQ,Lx,Lf,Lw]
     iterate 21 still_step
     still_call (q.out _)
     iterate 4 still_step
     refine Ko ?_
     go_wp2
     obtain rfl:m=0:=hm0;refine⟨⟨i+1,by omega,by go_num,?_⟩,by simp[intOf];omega⟩;refine Z7.step (v:=.slice fa 0 0) (m:=0) y.out B.out a2.out I C a3.out o ?_ ?_ ?_
     .show 0=(zh M.safe l M.file i M.safe[k].2).safe+zF (l.getD i 0) ((zh M.safe l M.file i M.safe[k].2).bytes.length-(zh M.safe l M.file i M.safe[k].2).safe)
      rw[A.out,HG.out,<- K.out,Q.out];exact N.out
     .have hr:=H5.out.rows _ o
      simp only[A.out] at hr;rw[r.out] at hr;simp only[A.out] at hr;have hz:F.bytes.length=0:=by omega
      rw[hz,b7] at hr;have b3:F.bytes=[]:=Mi hz;show w5.ownsRow 0 5 1 (.slice fa 0 0) 0 (u8s ((zh M.safe l M.file i M.safe[k].2).bytes.take 0));rw[b3] at hr
      simpa using hr
     .intro j E
      rw[r.out];cases fa with
      | none=>exact E
      | some a=>exact E
    .obtain⟨gb,hgb⟩:∃ gb,fa=some ⟨gb,0,none⟩:=by
      rcases (H5.out.rows _ o).2 with⟨s,_⟩|⟨g,_,_,s,_⟩
      .rw[r.out] at s;simp at s;omega
      .rw[r.out] at s;simp at s;exact⟨g,s.1⟩
     subst hgb;go_wp2_with fail;refine MZ 26 (by kernel_rfl) (by kernel_rfl) ?_;simp only[MQ,Lx,Lf,Lw]
     iterate 21 still_step
     still_call (q.out _)
     iterate 4 still_step
     refine Ko ?_
     go_wp2
     refine⟨⟨i+1,by omega,by go_num,?_⟩,by simp[intOf];omega⟩;refine Z7.step (v:=.slice (some ⟨gb,0,none⟩) m fc) (m:=m) y.out B.out a2.out I C a3.out o ?_ ?_ ?_
     .show m=(zh M.safe l M.file i M.safe[k].2).safe+zF (l.getD i 0) ((zh M.safe l M.file i M.safe[k].2).bytes.length-(zh M.safe l M.file i M.safe[k].2).safe)
      rw[A.out,HG.out,<- K.out,Q.out];exact N.out
     .have hr:=H5.out.rows _ o
      simp only[A.out] at hr;rw[r.out] at hr;simp only[A.out] at hr;show w5.ownsRow 0 5 1 (.slice (some ⟨gb,0,none⟩) m fc) m (u8s ((zh M.safe l M.file i M.safe[k].2).bytes.take m));rw[A.out];have:=Wm hr c0;rw[show u8s (F.bytes.take m)=(u8s F.bytes).take m by simp[u8s]];exact this
     .intro j E
      rw[r.out];exact E
   .have HG:Hid (l.getD i 0=0):=by simp[Hid,List.getD,J]
    obtain⟨D,S⟩:∃ D:Nat,D=F.bytes.length-F.safe:=⟨_,rfl⟩;have u:∀ wx:World,Calls Tryz.prog 85 #[.int .i64 0,.int .i64 D] wx fun e w'=>e=.returned (.int .i64 (zF 0 D))/\w'=wx :=
     fun wx=>Y2 _ _ wx (by omega) (by omega) (by omega)
    have q:=Z u;have a0:=ZW 0 D;clear u;generalize hP:zF 0 D=pn at a0 q;have Q:=Z hP;clear hP;obtain⟨m,Y⟩:∃ m:Nat,m=F.safe+pn:=⟨_,rfl⟩;have f8:IntKind.i64.wrap ((F.bytes.length:Int)-(F.safe:Int))=(D:Int):=by simp (disch:=omega) only[Kj];omega
    have f9:IntKind.i64.wrap ((F.safe:Int)+(pn:Int))=(m:Int):=by simp (disch:=omega) only[Kj];omega
    have K:=Z S;have N:=Z Y;have c0:m<=F.bytes.length:=by omega
    have b4:F.bytes.length<=fc:=by
     rcases (H5.out.rows _ o).2 with⟨s,h2⟩|⟨_,_,_,s,_,_,h2,_⟩
     .simp only[A.out] at h2;omega
     .rw[r.out] at s;simp only[A.out] at s h2;simp at s;omega
    have f4:(0:Int)<=(m:Int):=by omega
    have f5:(m:Int)<=(fc:Int):=by omega
    clear S Y a0;by_cases b7:fc=0
    .have hm0:m=0:=by omega
     go_wp2_with fail;refine MZ 26 (by kernel_rfl) (by kernel_rfl) ?_;simp only[MQ,Lx,Lf,Lw]
     iterate 21 still_step
     still_call (q.out _)
     iterate 4 still_step
     refine Ko ?_
     go_wp2
     obtain rfl:m=0:=hm0;refine⟨⟨i+1,by omega,by go_num,?_⟩,by simp[intOf];omega⟩;refine Z7.step (v:=.slice fa 0 0) (m:=0) y.out B.out a2.out I C a3.out o ?_ ?_ ?_
     .show 0=(zh M.safe l M.file i M.safe[k].2).safe+zF (l.getD i 0) ((zh M.safe l M.file i M.safe[k].2).bytes.length-(zh M.safe l M.file i M.safe[k].2).safe)
      rw[A.out,HG.out,<- K.out,Q.out];exact N.out
     .have hr:=H5.out.rows _ o
      simp only[A.out] at hr;rw[r.out] at hr;simp only[A.out] at hr;have hz:F.bytes.length=0:=by omega
      rw[hz,b7] at hr;have b3:F.bytes=[]:=Mi hz;show w5.ownsRow 0 5 1 (.slice fa 0 0) 0 (u8s ((zh M.safe l M.file i M.safe[k].2).bytes.take 0));rw[b3] at hr
      simpa using hr
     .intro j E
      rw[r.out];cases fa with
      | none=>exact E
      | some a=>exact E
    .obtain⟨gb,hgb⟩:∃ gb,fa=some ⟨gb,0,none⟩:=by
      rcases (H5.out.rows _ o).2 with⟨s,_⟩|⟨g,_,_,s,_⟩
      .rw[r.out] at s;simp at s;omega
      .rw[r.out] at s;simp at s;exact⟨g,s.1⟩
     subst hgb;go_wp2_with fail;refine MZ 26 (by kernel_rfl) (by kernel_rfl) ?_;simp only[MQ,Lx,Lf,Lw]
     iterate 21 still_step
     still_call (q.out _)
     iterate 4 still_step
     refine Ko ?_
     go_wp2
     refine⟨⟨i+1,by omega,by go_num,?_⟩,by simp[intOf];omega⟩;refine Z7.step (v:=.slice (some ⟨gb,0,none⟩) m fc) (m:=m) y.out B.out a2.out I C a3.out o ?_ ?_ ?_
     .show m=(zh M.safe l M.file i M.safe[k].2).safe+zF (l.getD i 0) ((zh M.safe l M.file i M.safe[k].2).bytes.length-(zh M.safe l M.file i M.safe[k].2).safe)
      rw[A.out,HG.out,<- K.out,Q.out];exact N.out
     .have hr:=H5.out.rows _ o
      simp only[A.out] at hr;rw[r.out] at hr;simp only[A.out] at hr;show w5.ownsRow 0 5 1 (.slice (some ⟨gb,0,none⟩) m fc) m (u8s ((zh M.safe l M.file i M.safe[k].2).bytes.take m));rw[A.out];have:=Wm hr c0;rw[show u8s (F.bytes.take m)=(u8s F.bytes).take m by simp[u8s]];exact this
     .intro j E
      rw[r.out];exact E
  .have C:i=M.safe.length:=by omega
   subst C;obtain⟨Li,z,e1,e2,e3,e4,V⟩:=y.out.Hl;have R:=z.IR.cell;have b8:=z.IR.frozen;simp only[DM.cells,e1,e2,e3] at R;simp only[b2.out,d8.out] at R;have f3:=z;have B:=Z z;have HE:=Z (⟨e1,e2,e3,e4,V⟩:_/\_/\_/\_/\_);clear z e1 e2 e3 e4 V f3
   go_wp2
   go_end0
   refine⟨rfl,?_⟩;rw[<- b2.out];refine UI d9.out y.out (by repeat' first|exact O _ _|(with_reducible assumption)|refine Fr.drewN ?_ _|refine Fr.drew ?_|refine Fr.alloc ?_ _|refine Fr.set ?_ ?_ _|(intro _;rfl)) ?_;intro k hk;cases hk using Foot.elim with
   | blk=>exact .IR
   | dir e=>exact .safe e
   | safe e=>exact .safe e
   | ch e=>exact .ch e
   | chs i s e=>exact .IW i s e
   | file e=>exact .file e
   | row f hf e=>exact .row f hf e
set_option maxRecDepth 100000 in
theorem QU(t:Int)(l:List Int)(tv:Value)(w:World)(b:Nat)(L:DL)(M:DM)(h:DRep w b L M)(f9:-9223372036854775808<=t)(g0:t<=9223372036854775807)
 (ht:ZJ w tv l)(f0:∀ k,l≠[]->tv.ownBlock=some k->¬Foot b L M k)(f1:∀ x,x∈l->-9223372036854775808<=x/\x<=9223372036854775807)
 (g2:∀ f,f∈M.ids->(M.file f).bytes.length<=1000000000000)(hn:M.IW.length+1<=1000000000000)(hm:∀ d,d∈M.safe::M.IW->d.length<=1000000000000)
 (kk:Nat)(b2:kk<M.IW.length)(c4:zF t M.IW.length=kk+1) :
 Calls Tryz.prog 33 #[.pointer (some ⟨b,0,none⟩),.int .i64 t,tv] w fun e w' =>
  e=.returned (.tuple #[])/\∃ L',DStep b L M w L' (M.Gd t l) w':=by
 have hc:=h.IR.cell;have i7:=h.IR.frozen;simp only[DM.cells] at hc;obtain⟨cg,h7,S,_,_⟩:=zq h.ch (by omega);have d6:=h.Gj;have b3:kk<L.Hj.length:=by omega
 obtain⟨d,hd⟩:∃ d,d=M.IW[kk]:=⟨_,rfl⟩;obtain⟨V,a8⟩:∃ V,V=L.Hj[kk]:=⟨_,rfl⟩;have hV:=h.IW kk b3 b2;rw[<- hd,<- a8] at hV;have R:∀ e,e∈d->e.2∈M.ids:=by rw[hd];exact h.GB _ (NV b2)
 have d3:∀ k,V.ownBlock=some k->Foot b L M k:=by rw[a8];exact fun k hk=>.IW kk b3 hk
 have f8:w.cell? ⟨cg,kk,none⟩=some V:=own_cell? (by rw[<- S];exact h.ch) kk V (by rw[a8];exact NZ b3);have i5:cg≠b:=by
  intro e;refine zf h.ch h.IR (by decide) ?_;rw[S,<- e]
  rfl
 have g3:d.length<=1000000000000:=by rw[hd];exact hm _ (NX _ (NV b2))
 have d7:M.Ht t=d:=by simp[DM.Ht,c4,hd,b2]
 obtain⟨j5,h6,c6⟩:=zd h.safe;obtain⟨sa,h8,c7⟩:=zd hV;obtain⟨ta,tc,c8⟩:∃ a c,tv=.slice a l.length c:=by
  rcases ht with⟨⟨_,_,rfl⟩,rfl⟩|⟨g,a4,a7,rfl,_⟩
  .exact⟨_,_,rfl⟩
  .exact⟨_,_,rfl⟩
 have e9:Blk ((w.setCell ⟨b,0,none⟩ L.Hf).setCell ⟨b,0,none⟩ V) b (({M with dir:=d}:DM).cells {L with Hm:=V}) 143:=(h.IR.set 0 L.Hf).set 0 V;have e8:=h.Fg hV R e9 z8;rw[S,c6] at hc;have HH:=Z h;have c9:=Z e8;have f2:=Z S;have b8:=Z c7;have d0:=Z c6;have HT:=Z ht;have f7:=Z c8;have f3:=Z d7;have hp:=Y2 t M.IW.length w f9 g0 (by omega);rw[c4] at hp;have HP:=Z hp;have g9:l.length<=maxLen:=by
  rcases ht with⟨_,rfl⟩|⟨_,_,_,_,_,h,_⟩
  .simp
  .exact h
 unfold maxLen at g9;have i3:=Z R;have d1:=Z d3;rw[c7] at f8;clear h e8 S c7 c6 ht e9 d7 hp c4 hd a8 hV R d3 d6 b3 hm;rw[c8];clear c8;go_enter Tryz.func33,Tryz.ntmps33
 go_wp2_with (go_at_call 85;refine HP.out.mono ?_;rintro e wx ⟨rfl,j4⟩;subst wx)
 have HL:=Z (YX _ b _ _ c9.out g3);rw[<- b8.out,<- d0.out];refine HL.out.mono ?_;rintro e w1 ⟨nv,rfl,b4,b0,b6⟩;obtain⟨na,nc,b7⟩:=zd b4;have e7:=zu b4;unfold maxLen at e7;have d5:Z7 ((w.setCell ⟨b,0,none⟩ L.Hf).setCell ⟨b,0,none⟩ V) b {L with Hm:=V} {M with dir:=d} l nv 0 w1 :=
  ⟨⟨_,c9.out.fr b0 (fun _ _=>id),rfl,rfl,rfl,rfl,fun k hk=>hk⟩,b0.mono (fun _ _=>False.elim),b4⟩
 have i1:=Z b7;have i2:=Z b6;have h9:=Z b0;clear b4 b0 b6 hc;subst b7;go_wp2_with fail
 go_loopw [44] (fun c w'=>∃ i:Nat,i<=d.length/\c=.int .i64 i/\Z7 ((w.setCell ⟨b,0,none⟩ L.Hf).setCell ⟨b,0,none⟩ V) b {L with Hm:=V} {M with dir:=d} l (.slice na d.length nc) i w') (fun c _=>d.length-(intOf c).toNat)
 case atStart=>exact⟨0,Me _,rfl,d5⟩
 case round =>
  obtain⟨i,hi,rfl,d4⟩:=hrel;have y:=Z d4;clear d4 d5;by_cases i8:i<d.length
  .have hnl:d.names.length=d.length:=Xr _
   obtain⟨ng,g4⟩:∃ g,na=some ⟨g,0,none⟩:=by
    obtain⟨g,c',h',_⟩:=zq y.out.names (by show 0<d.length;omega);simp at h';exact⟨g,h'.1⟩
   subst g4;have C:i<d.names.length:=by omega
   have i9:=own_cell? y.out.names i (.string d.names[i]) (by simp[strs,C]);obtain⟨k,hk,c3,e5⟩:=Vh d d.names[i] (NV C);obtain⟨Li,z,e1,e2,e3,e4,a0⟩:=y.out.Hl;have T:=z.IR.cell 0;have G:=z.dir;rw[e1] at G;obtain⟨dg,b5,a9,_,g1⟩:=zq G (by show 0<d.length;omega);simp only at a9;have Y:Li.Hm=.slice (some ⟨dg,0,none⟩) d.length b5:=e1.trans a9;simp only[DM.cells,Y] at T;simp at T;have j1:=own_cell? (by rw[<- a9];exact G) _ _ (ZA d k hk).2;have B:=Z z;have f5:=Z c3;have f4:=Z Y;have a6:=Z e5;have a5:=Z (⟨e1,e2,e3,e4,a0⟩:Li.Hm=_/\Li.Hf=_/\Li.Gm=_/\Li.Hj=_/\_);unfold maxLen at g1;clear z c3 e1 e2 e3 e4 G a0 a9 Y e5;go_wp2_with fail
   go_region_held3 (fun w'=>w'.cell? ⟨b,0,none⟩=some (.slice (some ⟨dg,0,none⟩) d.length b5)/\w'.cell? ⟨dg,k*2+1,none⟩=some (.pointer (some ⟨d[k].2,0,none⟩))) (first|go_keep|exact⟨‹_›,‹_›⟩)
    (first|(go_at_call 87;refine(UH f5.out hk _ wr b _ _ rfl f4.out B.out (Fr.drew (O _ _))).mono ?_;rintro e w5 ⟨rfl,i4,j0,I⟩))
   have h5:=B.out.fr I (fun _ _=>id);have o:d[k].2∈M.ids:=B.out.Gc _ (NV hk);have d8:(zh d l M.file i d[k].2).bytes.length<=1000000000000:=NR (XH _ _ _ _ _) (g2 _ o);have a1:=h5.le _ o;have c1:=(h5.files _ o).cell;have i6:=(h5.files _ o).frozen;obtain⟨fa,fc,b1⟩:=zd (h5.rows _ o);rw[b1] at c1;simp only at a1 c1 b1;have d2:ZJ w5 tv l:=by
    have d9:Fr (fun k=>k=b\/Foot b L M k) w w5:=by
     refine Fr.trans' (Fr.set (Fr.set (O _ w) (p:=⟨b,0,none⟩) (fun _=>.inl rfl) L.Hf) (p:=⟨b,0,none⟩) (fun _=>.inl rfl) V) (y.out.fr.trans (I.mono (fun _ _=>False.elim))) ?_;intro j _ E;refine .inr ?_;cases E using Foot.elim with
     | blk=>exact .IR
     | dir e=>exact d1.out _ e
     | safe e=>exact .safe e
     | ch e=>exact .ch e
     | chs i s e=>exact .IW i s e
     | file e=>exact .file e
     | row f hf e=>exact .row f hf e
    refine HT.out.fr d9 ?_;intro j e6 E hb;rcases hb with rfl|hb
    .exact f0 _ e6 E .IR
    .exact f0 j e6 E hb
   have r:=Z b1;have H5:=Z h5;have f6:=Z d2;have i0:=Z a1;clear h5 b1 d2;generalize hF:zh d l M.file i d[k].2=F at c1 a1 d8;have A:=Z hF;clear hF;by_cases J:i<l.length
   .obtain⟨tg,toff,tcap,htv',htc⟩:∃ g a4 a7,tv=.slice (some ⟨g,a4,none⟩) l.length a7/\w5.cell? ⟨g,a4+i,none⟩=some (.int .i64 l[i]):=by
     rcases f6.out with⟨_,h0⟩|⟨g,a4,a7,hv,_,_,c0⟩
     .subst h0;simp at J
     .exact⟨g,a4,a7,hv,c0 i J⟩
    have g8:ta=some ⟨tg,toff,none⟩:=by have:=f7.out.symm.trans htv';simp at this;exact this.1
    subst g8;have e0:l.getD i 0=l[i]:=by simp[List.getD,J]
    have HG:=Z e0;have j2:=(f1 l[i] (NV J)).1;have j3:=(f1 l[i] (NV J)).2;clear e0;generalize l[i]=tx at *;obtain⟨D,X⟩:∃ D:Nat,D=F.bytes.length-F.safe:=⟨_,rfl⟩;have u:∀ wx:World,Calls Tryz.prog 85 #[.int .i64 tx,.int .i64 D] wx fun e w'=>e=.returned (.int .i64 (zF tx D))/\w'=wx :=
     fun wx=>Y2 _ _ wx (by omega) (by omega) (by omega)
    have q:=Z u;have a3:=ZW tx D;clear u;generalize hP:zF tx D=pn at a3 q;have Q:=Z hP;clear hP;obtain⟨m,a2⟩:∃ m:Nat,m=F.safe+pn:=⟨_,rfl⟩;have h3:IntKind.i64.wrap ((F.bytes.length:Int)-(F.safe:Int))=(D:Int):=by simp (disch:=omega) only[Kj];omega
    have h4:IntKind.i64.wrap ((F.safe:Int)+(pn:Int))=(m:Int):=by simp (disch:=omega) only[Kj];omega
    have K:=Z X;have N:=Z a2;have c5:m<=F.bytes.length:=by omega
    have c0:F.bytes.length<=fc:=by
     rcases (H5.out.rows _ o).2 with⟨s,h2⟩|⟨_,_,_,s,_,_,h2,_⟩
     .simp only[A.out] at h2;omega
     .rw[r.out] at s;simp only[A.out] at s h2;simp at s;omega
    have g6:(0:Int)<=(m:Int):=by omega
    have g7:(m:Int)<=(fc:Int):=by omega
    clear X a2 a3;by_cases c2:fc=0
    .have hm0:m=0:=by omega
     go_wp2_with fail;refine MZ 26 (by kernel_rfl) (by kernel_rfl) ?_;simp only[MQ,Lx,Lf,Lw]
     iterate 21 still_step
     still_call (q.out _)
     iterate 4 still_step
     refine Ko ?_
     go_wp2
     obtain rfl:m=0:=hm0;refine⟨⟨i+1,by omega,by go_num,?_⟩,by simp[intOf];omega⟩;refine Z7.step (v:=.slice fa 0 0) (m:=0) y.out B.out a5.out I C a6.out o ?_ ?_ ?_
     .show 0=(zh d l M.file i d[k].2).safe+zF (l.getD i 0) ((zh d l M.file i d[k].2).bytes.length-(zh d l M.file i d[k].2).safe)
      rw[A.out,HG.out,<- K.out,Q.out];exact N.out
     .have hr:=H5.out.rows _ o
      simp only[A.out] at hr;rw[r.out] at hr;simp only[A.out] at hr;have hz:F.bytes.length=0:=by omega
      rw[hz,c2] at hr;have b9:F.bytes=[]:=Mi hz;show w5.ownsRow 0 5 1 (.slice fa 0 0) 0 (u8s ((zh d l M.file i d[k].2).bytes.take 0));rw[b9] at hr
      simpa using hr
     .intro j E
      rw[r.out];cases fa with
      | none=>exact E
      | some a=>exact E
    .obtain⟨gb,hgb⟩:∃ gb,fa=some ⟨gb,0,none⟩:=by
      rcases (H5.out.rows _ o).2 with⟨s,_⟩|⟨g,_,_,s,_⟩
      .rw[r.out] at s;simp at s;omega
      .rw[r.out] at s;simp at s;exact⟨g,s.1⟩
     subst hgb;go_wp2_with fail;refine MZ 26 (by kernel_rfl) (by kernel_rfl) ?_;simp only[MQ,Lx,Lf,Lw]
     iterate 21 still_step
     still_call (q.out _)
     iterate 4 still_step
     refine Ko ?_
     go_wp2
     refine⟨⟨i+1,by omega,by go_num,?_⟩,by simp[intOf];omega⟩;refine Z7.step (v:=.slice (some ⟨gb,0,none⟩) m fc) (m:=m) y.out B.out a5.out I C a6.out o ?_ ?_ ?_
     .show m=(zh d l M.file i d[k].2).safe+zF (l.getD i 0) ((zh d l M.file i d[k].2).bytes.length-(zh d l M.file i d[k].2).safe)
      rw[A.out,HG.out,<- K.out,Q.out];exact N.out
     .have hr:=H5.out.rows _ o
      simp only[A.out] at hr;rw[r.out] at hr;simp only[A.out] at hr;show w5.ownsRow 0 5 1 (.slice (some ⟨gb,0,none⟩) m fc) m (u8s ((zh d l M.file i d[k].2).bytes.take m));rw[A.out];have:=Wm hr c5;rw[show u8s (F.bytes.take m)=(u8s F.bytes).take m by simp[u8s]];exact this
     .intro j E
      rw[r.out];exact E
   .have HG:Hid (l.getD i 0=0):=by simp[Hid,List.getD,J]
    obtain⟨D,X⟩:∃ D:Nat,D=F.bytes.length-F.safe:=⟨_,rfl⟩;have u:∀ wx:World,Calls Tryz.prog 85 #[.int .i64 0,.int .i64 D] wx fun e w'=>e=.returned (.int .i64 (zF 0 D))/\w'=wx :=
     fun wx=>Y2 _ _ wx (by omega) (by omega) (by omega)
    have q:=Z u;have a3:=ZW 0 D;clear u;generalize hP:zF 0 D=pn at a3 q;have Q:=Z hP;clear hP;obtain⟨m,a2⟩:∃ m:Nat,m=F.safe+pn:=⟨_,rfl⟩;have h3:IntKind.i64.wrap ((F.bytes.length:Int)-(F.safe:Int))=(D:Int):=by simp (disch:=omega) only[Kj];omega
    have h4:IntKind.i64.wrap ((F.safe:Int)+(pn:Int))=(m:Int):=by simp (disch:=omega) only[Kj];omega
    have K:=Z X;have N:=Z a2;have c5:m<=F.bytes.length:=by omega
    have c0:F.bytes.length<=fc:=by
     rcases (H5.out.rows _ o).2 with⟨s,h2⟩|⟨_,_,_,s,_,_,h2,_⟩
     .simp only[A.out] at h2;omega
     .rw[r.out] at s;simp only[A.out] at s h2;simp at s;omega
    have g6:(0:Int)<=(m:Int):=by omega
    have g7:(m:Int)<=(fc:Int):=by omega
    clear X a2 a3;by_cases c2:fc=0
    .have hm0:m=0:=by omega
     go_wp2_with fail;refine MZ 26 (by kernel_rfl) (by kernel_rfl) ?_;simp only[MQ,Lx,Lf,Lw]
     iterate 21 still_step
     still_call (q.out _)
     iterate 4 still_step
     refine Ko ?_
     go_wp2
     obtain rfl:m=0:=hm0;refine⟨⟨i+1,by omega,by go_num,?_⟩,by simp[intOf];omega⟩;refine Z7.step (v:=.slice fa 0 0) (m:=0) y.out B.out a5.out I C a6.out o ?_ ?_ ?_
     .show 0=(zh d l M.file i d[k].2).safe+zF (l.getD i 0) ((zh d l M.file i d[k].2).bytes.length-(zh d l M.file i d[k].2).safe)
      rw[A.out,HG.out,<- K.out,Q.out];exact N.out
     .have hr:=H5.out.rows _ o
      simp only[A.out] at hr;rw[r.out] at hr;simp only[A.out] at hr;have hz:F.bytes.length=0:=by omega
      rw[hz,c2] at hr;have b9:F.bytes=[]:=Mi hz;show w5.ownsRow 0 5 1 (.slice fa 0 0) 0 (u8s ((zh d l M.file i d[k].2).bytes.take 0));rw[b9] at hr
      simpa using hr
     .intro j E
      rw[r.out];cases fa with
      | none=>exact E
      | some a=>exact E
    .obtain⟨gb,hgb⟩:∃ gb,fa=some ⟨gb,0,none⟩:=by
      rcases (H5.out.rows _ o).2 with⟨s,_⟩|⟨g,_,_,s,_⟩
      .rw[r.out] at s;simp at s;omega
      .rw[r.out] at s;simp at s;exact⟨g,s.1⟩
     subst hgb;go_wp2_with fail;refine MZ 26 (by kernel_rfl) (by kernel_rfl) ?_;simp only[MQ,Lx,Lf,Lw]
     iterate 21 still_step
     still_call (q.out _)
     iterate 4 still_step
     refine Ko ?_
     go_wp2
     refine⟨⟨i+1,by omega,by go_num,?_⟩,by simp[intOf];omega⟩;refine Z7.step (v:=.slice (some ⟨gb,0,none⟩) m fc) (m:=m) y.out B.out a5.out I C a6.out o ?_ ?_ ?_
     .show m=(zh d l M.file i d[k].2).safe+zF (l.getD i 0) ((zh d l M.file i d[k].2).bytes.length-(zh d l M.file i d[k].2).safe)
      rw[A.out,HG.out,<- K.out,Q.out];exact N.out
     .have hr:=H5.out.rows _ o
      simp only[A.out] at hr;rw[r.out] at hr;simp only[A.out] at hr;show w5.ownsRow 0 5 1 (.slice (some ⟨gb,0,none⟩) m fc) m (u8s ((zh d l M.file i d[k].2).bytes.take m));rw[A.out];have:=Wm hr c5;rw[show u8s (F.bytes.take m)=(u8s F.bytes).take m by simp[u8s]];exact this
     .intro j E
      rw[r.out];exact E
  .have C:i=d.length:=by omega
   subst C;obtain⟨Li,z,e1,e2,e3,e4,a0⟩:=y.out.Hl;have T:=z.IR.cell;have c3:=z.IR.frozen;simp only[DM.cells,e1,e2,e3] at T;simp only[b8.out,f2.out,d0.out] at T;have g5:=z;have B:=Z z;have HE:=Z (⟨e1,e2,e3,e4,a0⟩:_/\_/\_/\_/\_);clear z e1 e2 e3 e4 a0 g5
   go_wp2
   go_end0
   refine⟨rfl,?_⟩;rw[<- b8.out];refine UI f3.out y.out z8 ?_;intro k hk;cases hk using Foot.elim with
   | blk=>exact .IR
   | dir e=>exact d1.out _ e
   | safe e=>exact .safe e
   | ch e=>exact .ch e
   | chs i s e=>exact .IW i s e
   | file e=>exact .file e
   | row f hf e=>exact .row f hf e
theorem RP(c:Int)(a:List Int)(o:Value)(w:World)(b:Nat)(L:DL)(M:DM)(h:DRep w b L M)(g:-9223372036854775808<=c)(i:c<=9223372036854775807)
 (s:ZJ w o a)(l:∀ k,a≠[]->o.ownBlock=some k->¬Foot b L M k)(m:∀ x,x∈a->-9223372036854775808<=x/\x<=9223372036854775807)
 (j:∀ f,f∈M.ids->(M.file f).bytes.length<=1000000000000)(r:M.IW.length+1<=1000000000000)(q:∀ d,d∈M.safe::M.IW->d.length<=1000000000000) :
 Calls Tryz.prog 33 #[.pointer (some ⟨b,0,none⟩),.int .i64 c,o] w fun e v =>
  e=.returned (.tuple #[])/\∃ t,DStep b L M w t (M.Gd c a) v:=by
 have y:=ZW c M.IW.length;cases hk:zF c M.IW.length with
 | zero=>exact QT c a o w b L M h g i s l m j r q hk
 | succ u=>exact QU c a o w b L M h g i s l m j r q u (by omega) hk
theorem ST:((Tryz.prog.info? 146).map fun i=>(i.zero.map (·.cells.size),i.size,i.bytes))=some (some 1,1,8):=by kernel_rfl
def ptrs(l:List Nat):List Value:=l.map fun k=>.pointer (some ⟨k,0,none⟩)
structure Twin(w0 w:World)(bo bm:Nat)(M:DM)(os:List Nat)(ps:List (Nat × Nat))(vo vm:Value)(fV:Nat->Value):Prop where
 co:Blk w bo [vo] 168
 cm:Blk w bm [vm] 168
 ne:bo≠bm
 old:w.ownsRow 0 146 1 vo os.length (ptrs os)
 made:w.ownsRow 0 146 1 vm ps.length (ptrs (ps.map Prod.snd))
 GV:∀ k,vo.ownBlock=some k->vm.ownBlock≠some k
 files:∀ p,p∈ps->Blk w p.2 [fV p.2,.int .i64 (M.file p.1).safe] 152
 rows:∀ p,p∈ps->w.ownsRow 0 5 1 (fV p.2) (M.file p.1).bytes.length (u8s (M.file p.1).bytes)
 sep:∀ p,p∈ps->∀ q,q∈ps->p.2≠q.2->∀ k,(fV p.2).ownBlock=some k->(fV q.2).ownBlock≠some k
 n1:os.Nodup
 n2:(ps.map Prod.snd).Nodup
 ids:∀ f,f∈os->f∈M.ids
 nbo:w0.heap.size<=bo
 nbm:w0.heap.size<=bm
 no:∀ k,vo.ownBlock=some k->w0.heap.size<=k
 nm:∀ k,vm.ownBlock=some k->w0.heap.size<=k
 nf:∀ p,p∈ps->w0.heap.size<=p.2
 nr:∀ p,p∈ps->∀ k,(fV p.2).ownBlock=some k->w0.heap.size<=k
 fr:Fr Nil w0 w
theorem Twin.Gx{l w k:World}{c b:Nat}{M:DM}{e:List Nat}{g:List (Nat × Nat)}{j i:Value}{d:Nat->Value}(h:Twin l w c b M e g j i d)(f:Fr Nil w k) :
 Twin l k c b M e g j i d :=
 {h with
  co:=h.co.fr f id
  cm:=h.cm.fr f id
  old:=za h.old f (fun _ _=>id)
  made:=za h.made f (fun _ _=>id)
  files:=fun p a=>(h.files p a).fr f id
  rows:=fun p a=>za (h.rows p a) f (fun _ _=>id)
  fr:=h.fr.trans f}
theorem Twin.Fq{D w z o:World}{j E:Nat}{M:DM}{s:List Nat}{I:List (Nat × Nat)}{m J c:Value}{F:Nat->Value}(h:Twin D w j E M s I m J F)(A:Fr Nil w z){f:Nat}
 (u:App z m 146 1 (s.length+1) (ptrs s++[.pointer (some ⟨f,0,none⟩)]) c o)(K:f∉s)(L:f∈M.ids) :
 Twin D (o.setCell ⟨j,0,none⟩ c) j E M (s++[f]) I c J F/\Fr (fun k=>k=j\/m.ownBlock=some k) w (o.setCell ⟨j,0,none⟩ c) /\
  (∀ k,c.ownBlock=some k->m.ownBlock=some k\/w.heap.size<=k):=by
 have d:=h.Gx A;have N:=A.size;have q:∀ k,c.ownBlock=some k->m.ownBlock=some k\/z.heap.size<=k:=by
  intro k i;rcases u.at_ with e|e
  .exact .inl (by rw[<- e];exact i)
  .rw[e] at i;simp at i;exact .inr (by omega)
 have v:Blk o j [m] 168:=d.co.fr u.fr (zf d.old d.co (by decide));have y:Fr (fun k=>k=j) o (o.setCell ⟨j,0,none⟩ c):=Fr.set (S:=fun k=>k=j) (p:=⟨j,0,none⟩) (O _ _) (fun _=>rfl) c;have l:Fr (fun k=>k=j\/m.ownBlock=some k) z (o.setCell ⟨j,0,none⟩ c) :=
  (u.fr.mono (fun _ _=>.inr)).trans (y.mono (fun _ _=>.inl))
 have x:Fr (fun k=>k=j\/m.ownBlock=some k) w (o.setCell ⟨j,0,none⟩ c):=(A.mono (fun _ _=>False.elim)).trans l;have C:∀ k,c.ownBlock=some k->D.heap.size<=k:=by
  intro k i;rcases q k i with e|e
  .exact h.no k e
  .have:=d.fr.size;omega
 refine⟨?_,x,fun k i=>(q k i).imp id (fun e=>by omega)⟩;refine {h with
  co:=v.set 0 c
  cm:=d.cm.fr l (fun e=>?_)
  old:=?_
  made:=za d.made l (fun k i e=>?_)
  GV:=fun k i e=>?_
  files:=fun p r=>(d.files p r).fr l (fun e=>?_)
  rows:=fun p r=>za (d.rows p r) l (fun k i e=>?_)
  n1:=?_
  ids:=?_
  no:=C
  fr:=Fr.trans' h.fr x (fun k i e=>?_)}
 .rcases e with e|e
  .exact h.ne e.symm
  .exact zf d.old d.cm (by decide) e
 .have e:ptrs (s++[f])=ptrs s++[.pointer (some ⟨f,0,none⟩)]:=by simp[ptrs]
  rw[e,NQ];exact za u.own y (fun k i e=>by subst e;exact zf u.own v (by decide) i)
 .rcases e with e|e
  .subst e;exact zf d.made d.co (by decide) i
  .exact h.GV k e i
 .rcases q k i with e'|e'
  .exact h.GV k e' e
  .have:=Z2 d.made e;omega
 .rcases e with e|e
  .exact(d.files p r).ne d.co (by decide) e
  .exact zf d.old (d.files p r) (by decide) e
 .rcases e with e|e
  .subst e;exact zf (d.rows p r) d.co (by decide) i
  .exact zN d.old (d.rows p r) (by decide) e i
 .rw[Kr]
  refine⟨h.n1,by simp,?_⟩;intro a B b G;simp at G;subst G;intro e;subst e;exact K B
 .intro g t
  rcases Mc.1 t with t|t
  .exact h.ids g t
  .simp at t;subst t;exact L
 .rcases e with e|e
  .have:=h.nbo;omega
  .have:=h.no k e;omega
theorem Twin.GZ{Y w z t:World}{bo m:Nat}{M:DM}{os:List Nat}{x:List (Nat × Nat)}{vo y j v8:Value}{Q:Nat->Value}(h:Twin Y w bo m M os x vo y Q)(N:Fr Nil w z){f u:Nat}
 (K:z.ownsRow 0 5 1 v8 (M.file f).bytes.length (u8s (M.file f).bytes))(B:∀ k,v8.ownBlock=some k->w.heap.size<=k)
 (V:Blk z u [v8,.int .i64 (M.file f).safe] 152)(a0:w.heap.size<=u)
 (C:App z y 146 1 (x.length+1) (ptrs (x.map Prod.snd)++[.pointer (some ⟨u,0,none⟩)]) j t) :
 Twin Y (t.setCell ⟨m,0,none⟩ j) bo m M os (x++[(f,u)]) vo j (fun g=>if g=u then v8 else Q g)/\Fr (fun k=>k=m\/y.ownBlock=some k) w (t.setCell ⟨m,0,none⟩ j) /\
  (∀ k,j.ownBlock=some k->y.ownBlock=some k\/w.heap.size<=k):=by
 have o:=h.Gx N;have a2:=N.size;have a1:=h.fr.size;have A:∀ k,j.ownBlock=some k->y.ownBlock=some k\/z.heap.size<=k:=by
  intro k i;rcases C.at_ with e|e
  .exact .inl (by rw[<- e];exact i)
  .rw[e] at i;simp at i;exact .inr (by omega)
 have D:Blk t m [y] 168:=o.cm.fr C.fr (zf o.made o.cm (by decide));have L:Fr (fun k=>k=m) t (t.setCell ⟨m,0,none⟩ j):=Fr.set (S:=fun k=>k=m) (p:=⟨m,0,none⟩) (O _ _) (fun _=>rfl) j;have r:Fr (fun k=>k=m\/y.ownBlock=some k) z (t.setCell ⟨m,0,none⟩ j) :=
  (C.fr.mono (fun _ _=>.inr)).trans (L.mono (fun _ _=>.inl))
 have F:Fr (fun k=>k=m\/y.ownBlock=some k) w (t.setCell ⟨m,0,none⟩ j):=(N.mono (fun _ _=>False.elim)).trans r;have l:∀ p,p∈x->p.2≠u:=by
  intro p d e;have:=(h.files p d).lt;omega
 have J:∀ p,p∈x->∀ k,(Q p.2).ownBlock=some k->k<w.heap.size:=fun p d k i=>Z2 (h.rows p d) i;have E:∀ {c:List Value} {g:Nat},Blk z g c 152->Blk (t.setCell ⟨m,0,none⟩ j) g c 152:=by
  intro c g T;refine T.fr r (fun e=>?_);rcases e with e|e
  .exact T.ne o.cm (by decide) e
  .exact zf o.made T (by decide) e
 have I:∀ {v:Value} {n:Nat} {xs:List Value},z.ownsRow 0 5 1 v n xs->(t.setCell ⟨m,0,none⟩ j).ownsRow 0 5 1 v n xs:=by
  intro v n xs X;refine za X r (fun k i e=>?_);rcases e with e|e
  .subst e;exact zf X o.cm (by decide) i
  .exact zN o.made X (by decide) e i
 refine⟨?_,F,fun k i=>(A k i).imp id (fun e=>by omega)⟩;refine {h with
  co:=o.co.fr r (fun e=>?_)
  cm:=D.set 0 j
  old:=za o.old r (fun k i e=>?_)
  made:=?_
  GV:=fun k i e=>?_
  files:=fun p d=>?_
  rows:=fun p d=>?_
  sep:=fun p d q s G k i e=>?_
  n2:=?_
  nm:=fun k i=>?_
  nf:=fun p d=>?_
  nr:=fun p d k i=>?_
  fr:=Fr.trans' h.fr F (fun k i e=>?_)}
 .rcases e with e|e
  .exact h.ne e
  .exact zf o.made o.co (by decide) e
 .rcases e with e|e
  .subst e;exact zf o.old o.cm (by decide) i
  .exact h.GV k i e
 .have e:ptrs ((x++[(f,u)]).map Prod.snd)=ptrs (x.map Prod.snd)++[.pointer (some ⟨u,0,none⟩)]:=by simp[ptrs]
  rw[e,NQ];exact za C.own L (fun k i e=>by subst e;exact zf C.own D (by decide) i)
 .rcases A k e with e'|e'
  .exact h.GV k i e'
  .have:=Z2 o.old i;omega
 .rcases Mc.1 d with d|d
  .simp only[l p d,MN]
   exact E (o.files p d)
  .simp at d;subst d
   simp only[MP];exact E V
 .rcases Mc.1 d with d|d
  .simp only[l p d,MN]
   exact I (o.rows p d)
  .simp at d;subst d
   simp only[MP];exact I K
 .rcases Mc.1 d with d|d <;> rcases Mc.1 s with s|s
  .simp only[l p d,l q s,MN] at i e
   exact h.sep p d q s G k i e
  .simp at s;subst s
   simp only[l p d,MN] at i;simp only[MP] at e;have:=J p d k i;have:=B k e;omega
  .simp at d;subst d
   simp only[l q s,MN] at e;simp only[MP] at i;have:=J q s k e;have:=B k i;omega
  .simp at d s;subst d;subst s
   exact G rfl
 .rw[ML,Kr]
  refine⟨h.n2,by simp,?_⟩;intro a R b hb;simp at hb;subst hb;obtain⟨p,d,rfl⟩:=Mt.1 R;exact l p d
 .rcases A k i with e|e
  .exact h.nm k e
  .omega
 .rcases Mc.1 d with d|d
  .exact h.nf p d
  .simp at d;subst d;show Y.heap.size<=u;omega
 .rcases Mc.1 d with d|d
  .simp only[l p d,MN] at i
   exact h.nr p d k i
  .simp at d;subst d
   simp only[MP] at i;have:=B k i;omega
 .rcases e with e|e
  .have:=h.nbm;omega
  .have:=h.nm k e;omega
def cnt:List Fact->Nat->Nat
 | [],_=>0
 | x::r,n=>if (zA (zl x)).length<=n then cnt r (n-(zA (zl x)).length)+1 else 0
theorem Vu:∀(a:List Fact){n m:Nat},n<=m->cnt a n<=cnt a m
 | [],_,_,_=>NS _
 | x::r,n,m,h=>by
  unfold cnt;split
  .rw[Mg (by omega)]
   have:=Vu r (n:=n-(zA (zl x)).length) (m:=m-(zA (zl x)).length) (by omega);omega
  .exact Me _
theorem SU:∀(a:List Fact)(n:Nat),cnt a n<=a.length
 | [],_=>NS _
 | x::r,n=>by
  unfold cnt;split
  .have:=SU r (n-(zA (zl x)).length)
   rw[Mh];omega
  .exact Me _
theorem Qd:∀(b a:List Fact)(n:Nat),cnt b n<=cnt (b++a) n
 | [],_,_=>Me _
 | x::r,a,n=>by
  rw[MJ];unfold cnt;split
  .have:=Qd r a (n-(zA (zl x)).length)
   omega
  .exact NS _
theorem XI(x:Fact)(r:List Fact):zx (x::r)=zA (zl x)++zx r:=by simp[zx]
theorem Qe:∀(a:List Fact)(n:Nat),(zx a).length<=n->cnt a n=a.length
 | [],_,_=>rfl
 | x::r,n,h=>by
  rw[XI,NQ] at h;unfold cnt;rw[Mg (by omega),Qe r _ (by omega),Mh]
theorem PQ{l:List UInt8}(h:Torn l)(n:Nat):Torn (l.take n):=by
 obtain⟨a,b,c,d⟩:=h;refine⟨a,(Jp n l).trans b,fun e=>c ?_,d⟩;have g:=b.length_le;have f:=LH List.length e;rw[NT] at f;exact b.eq_of_length (by omega)
theorem SV:∀(b:List Fact)(a:List UInt8)(n:Nat),(∀ x∈b,ZT x)->Torn a->∃ c,(zx b++a).take n=zx (b.take (cnt b n))++c/\Torn c
 | [],a,n,_,d=>⟨a.take n,by simp[zx,cnt],PQ d n⟩
 | x::r,a,n,f,d=>by
  unfold cnt;rw[XI,Mm];split
  .rename_i hle
   obtain⟨c,g,h⟩:=SV r a (n-(zA (zl x)).length) (fun y i=>f y (NX _ i)) d;refine⟨c,?_,h⟩;rw[MQ,XI,List.take_append,Mj hle,g,Mm]
  .rename_i hgt
   refine⟨(zA (zl x)).take n,?_,zl x,Jp _ _,fun e=>?_,(f x (NY ..)).2⟩
   .rw[MF (by omega)]
    simp[zx]
   .have:=LH List.length e
    rw[NT] at this;omega
def Y7(s:Seg)(n:Nat):Seg:=(s.1.take (cnt s.1 n),((zX s).take n).drop (zx (s.1.take (cnt s.1 n))).length)
theorem XJ{s:Seg}(a:Wj s)(n:Nat):zX (Y7 s n)=(zX s).take n/\Wj (Y7 s n):=by
 obtain⟨f,b,c⟩:=SV s.1 s.2 n a.1 a.2;have d:((zX s).take n).drop (zx (s.1.take (cnt s.1 n))).length=f:=by
  unfold zX;rw[b,Jf]
 unfold Y7;rw[d];exact⟨b.symm,fun x e=>a.1 x (Lr e),c⟩
theorem YD:∀(a b:List Nat)(k:Nat),(∀ i (h:i<a.length),∃ c:i<b.length,a[i]<=b[i])->(a.take k).sum<=(b.take k).sum
 | [],_,_,_=>by simp
 | x::a,b,0,_=>by simp
 | x::a,[],k+1,h=>by obtain⟨c,_⟩:=h 0 (by simp);simp at c
 | x::a,y::b,k+1,h=>by
  obtain⟨_,d⟩:=h 0 (by simp);have:=YD a b k (fun i g=>by
   obtain⟨e,f⟩:=h (i+1) (by simpa using g);exact⟨by simpa using e,by simpa using f⟩)
  simp only[MQ,Ly];simp only[LG] at d;omega
def gl(M:DM)(a:List Seg):List Nat:=(M.dir.zip a).map fun x=>cnt x.2.1 (M.file x.1.2).safe
def lft(M:DM)(a:List Seg)(k:Nat):Nat:=((gl M a).take k).sum
theorem YO{M:DM}{a:List Seg}(h:M.dir.length=a.length):(gl M a).length=a.length:=by simp[gl,h]
theorem XT{M:DM}{a:List Seg}{i:Nat}(b:i<M.dir.length)(c:i<a.length)(h:i<(gl M a).length):(gl M a)[i]=cnt a[i].1 (M.file M.dir[i].2).safe:=by simp[gl]
theorem SW{M M':DM}{c a:List Seg}(l:M.dir.length=c.length)(e:M'.dir.length=a.length)(h:∀ i (m:i<M.dir.length)(o:i<c.length),∃ (f:i<M'.dir.length)(d:i<a.length),cnt c[i].1 (M.file M.dir[i].2).safe<=cnt a[i].1 (M'.file M'.dir[i].2).safe)(k:Nat):lft M c k<=lft M' a k:=by
 refine YD _ _ k fun i g=>?_;have b:i<c.length:=by rw[YO l] at g;exact g
 obtain⟨f,d,j⟩:=h i (by omega) b;refine⟨by rw[YO e];exact d,?_⟩;rw[XT (by omega) b,XT f d];exact j
theorem Th(a:List Nat){k m:Nat}(h:k<=m):(a.take k).sum<=(a.take m).sum:=by
 obtain⟨d,rfl⟩:=Nat.le.dest h;rw[List.take_add,Is];omega
structure Lg(M:DM)(ss:List Seg)(p t:Nat):Prop where
 bd:Bd M t
 Hs:Lies M ss
 ok:WQ ss
 Gw:∀ i,(((zc ss).take i).foldl SM.enter SM.nil).hints.length<=32
 pre:∀ D∈M.safe::M.IW,D<+:M.dir
 le:∀ e∈M.dir,(M.file e.2).safe<=(M.file e.2).bytes.length
 full:∀ e∈M.dir.dropLast,(M.file e.2).safe=(M.file e.2).bytes.length
 GI:∀ D∈M.safe::M.IW,p<=lft M ss D.length
theorem Lg.more{M:DM}{a:List Seg}{p t u:Nat}(h:Lg M a p t)(b:t<=u):Lg M a p u:=⟨h.bd.more b,h.Hs,h.ok,h.Gw,h.pre,h.le,h.full,h.GI⟩
theorem SX{M:DM}{a:List Seg}(h:Lies M a){i:Nat}(b:i<M.dir.length)(c:i<a.length):M.dir[i].1=ze zi (i+1)/\(M.file M.dir[i].2).bytes=zX a[i]:=by
 have e:M.view[i]?=(Zq 0 a)[i]?:=by rw[h.view]
 rw[Vs 0 a i c] at e;unfold DM.view at e;rw[JN,NZ b] at e;simp only[KX,KK,Kc,MD] at e;exact e
theorem WT:∀ a:List Seg,(zc a).length=(a.map fun s=>s.1.length).sum
 | []=>rfl
 | s::a=>by
  have:=WT a;simp only[zc,Mf,Lp,NQ,Ly] at this |-;omega
theorem Un{s:Seg}{n:Nat}(h:(zX s).length<=n):cnt s.1 n=s.1.length:=Qe s.1 n (by unfold zX at h;rw[NQ] at h;omega)
theorem Uo{M:DM}{a:List Seg}(h:Lies M a)(g:∀ e∈M.dir,(M.file e.2).safe=(M.file e.2).bytes.length):lft M a a.length=(zc a).length:=by
 have f:=h.length;have d:gl M a=a.map fun s=>s.1.length:=by
  refine KS (by rw[YO f,Mw]) fun i j c=>?_;have b:i<a.length:=by simpa using c
  rw[XT (by omega) b,MT,g _ (NV _),(SX h (by omega) b).2];exact Un (NS _)
 unfold lft;rw[d,WT,Mj (by rw[Mw];exact NS _)]
theorem XU{d:Dir}(c:(d.map Prod.fst).Nodup){e:ByteArray × Nat}(g:e∈d):d.look e.1=some e.2:=by
 obtain⟨a,b,rfl⟩:=List.append_of_mem g;unfold Dir.look;rw[JK,Ke.2 (fun x h f=>?_),Option.none_or,List.find?_cons_of_pos (p:=fun x:ByteArray × Nat=>x.1==e.1) (zJ.2 rfl)]
 .rfl
 .rw[ML,Kr] at c
  exact c.2.2 _ (MR h) e.1 (by simp) (zJ.1 f)
theorem Nc{D:Dir}(l:(D.map (·.2)).Nodup){e a:ByteArray × Nat}(k:e∈D)(b:a∈D)(h:e.2=a.2):e=a:=by
 obtain⟨m,c,f⟩:=La.1 k;obtain⟨o,d,g⟩:=La.1 b;have i:(D.map (·.2))[m]'(by simpa using c)=(D.map (·.2))[o]'(by simpa using d):=by simp[f,g,h]
 have j:=(List.getElem_inj l).1 i;subst j;rw[<- f,<- g]
theorem UJ{D:Dir}(p:(D.map Prod.fst).Nodup)(x:(D.map (·.2)).Nodup)(a:List Int)(file:Nat->FM){e:ByteArray × Nat}(q:e∈D):∀ k,k<=D.names.length ->
 ((∃ i,∃ h:i<D.names.length,i<k/\D.names[i]=e.1)->∃ c,zh D a file k e.2=ZG (file e.2) c)/\((∀ i (h:i<D.names.length),i<k->D.names[i]≠e.1)->zh D a file k e.2=file e.2)
 | 0,_=>⟨fun⟨i,_,h,_⟩=>absurd h (MA _),fun _=>rfl⟩
 | k+1,C=>by
  have z:=Wk D;have s:D.names.Nodup:=z.nodup_iff.2 p;have B:D.names[k]∈D.map Prod.fst:=z.mem_iff.1 (NV _);obtain⟨u,d,g⟩:=Mt.1 B;have y:Dir.look D D.names[k]=some u.2:=by rw[<- g];exact XU p d
  obtain⟨t,f⟩:=UJ p x a file q k (by omega);unfold zh;rw[NZ (by omega),Jo,y];simp only;by_cases b:e=u
  .subst b
   rw[Mg rfl];have l:=f (fun i m v o=>by
    have:=(List.getElem_inj s).1 (o.trans g);omega)
   rw[l];exact⟨fun _=>⟨_,rfl⟩,fun h=>absurd g.symm (h k (by omega) (Nat.lt_succ_self _))⟩
  .rw[Ma (fun j=>b (Nc x q d j))]
   have r:D.names[k]≠e.1:=fun j=>b (by
    have l:=XU p q;rw[<- j,y] at l;exact Prod.ext (j.symm.trans g.symm) (Mp l).symm)
   refine⟨fun⟨i,m,v,o⟩=>t ⟨i,m,?_,o⟩,fun h=>f (fun i m v=>h i m (by omega))⟩;by_cases A:i=k
   .subst A;exact absurd o r
   .omega
theorem QV{D:Dir}(h:(D.map Prod.fst).Nodup)(g:(D.map (·.2)).Nodup)(a:List Int)(file:Nat->FM){e:ByteArray × Nat}(d:e∈D):∃ c,zh D a file D.names.length e.2=ZG (file e.2) c:=by
 have j:=Wk D;obtain⟨i,b,f⟩:=La.1 (j.mem_iff.2 (MR d));exact(UJ h g a file d _ (NS _)).1 ⟨i,b,b,f⟩
theorem Lies.nodup{M:DM}{a:List Seg}(h:Lies M a):(M.dir.map Prod.fst).Nodup:=by
 rw[h.names,Ki,Kq];exact(Ki.1 List.nodup_range).imp fun h e=>h (by have:=Xw e;omega)
theorem SY(M:DM)(a:Int):M.Ht a∈M.safe::M.IW:=by
 unfold DM.Ht;split
 .exact NY ..
 .rename_i h
  have:=ZW a M.IW.length;refine NX _ ?_;rw[MH,NZ (by omega),Option.getD_some];exact NV _
theorem Lg.Gd{M:DM}{b:List Seg}{p t:Nat}(h:Lg M b p t)(z:Int)(f:List Int) :
 ∃ a,Lg (M.Gd z f) a (zc a).length t/\zc a<+:zc b/\p<=(zc a).length:=by
 have hD:=SY M z;obtain⟨D,Q⟩:∃ D,D=M.Ht z:=⟨_,rfl⟩;have d:=h.pre _ hD;have I:=h.GI _ hD;have K:=h.bd.Hy _ hD;rw[<- Q] at d I K;have hn:(D.map Prod.fst).Nodup:=(d.sublist.map _).nodup h.Hs.nodup;have hi:(D.map (·.2)).Nodup:=(d.sublist.map _).nodup h.bd.once;obtain⟨file,q⟩:∃ file,file=zh D f M.file D.names.length:=⟨_,rfl⟩;have hf:∀ e∈D,∃ c,file e.2=ZG (M.file e.2) c:=fun e l=>by rw[q];exact QV hn hi f M.file l
 have hM:M.Gd z f={M with dir:=D,safe:=D,IW:=[],file:=file,dead:=false,cut:=0,fail:=0}:=by rw[q,Q];rfl
 rw[hM];have a1:∀ g,(file g).bytes.length<=(M.file g).bytes.length:=fun g=>by rw[q];exact XH D f M.file _ g
 have R:=h.Hs.length;have a3:D.length<=b.length:=by rw[<- R];exact d.length_le
 have J:∀ i (j:i<D.length) (F:i<M.dir.length),D[i]=M.dir[i]:=fun i j F=>d.getElem j
 -- each file that is left
 have o:∀ e∈D,(M.file e.2).safe<=(file e.2).safe/\(file e.2).safe<=(M.file e.2).bytes.length/\(file e.2).bytes=(M.file e.2).bytes.take (file e.2).safe/\(file e.2).safe=(file e.2).bytes.length:=fun e l=>by
  obtain⟨c,hc⟩:=hf e l;have j:=h.le e (d.mem l);have F:=ZW c ((M.file e.2).bytes.length-(M.file e.2).safe);rw[hc];unfold ZG;refine⟨by simp only;omega,by simp only;omega,rfl,?_⟩;simp only[NT];omega
 obtain⟨a,V⟩:∃ a:List Seg,a=(D.zip b).map fun x=>Y7 x.2 (file x.1.2).safe:=⟨_,rfl⟩;have N:a.length=D.length:=by rw[V];simp;omega
 have E:∀ i (j:i<a.length) (F:i<D.length) (B:i<b.length),a[i]=Y7 b[i] (file D[i].2).safe:=fun i j F B=>by subst V;simp
 have hb:∀ i (j:i<D.length) (B:i<b.length),D[i].1=ze zi (i+1)/\(M.file D[i].2).bytes=zX b[i]:=fun i j B=>by
  rw[J i j (by omega)];exact SX h.Hs (by omega) B
 have T:WQ a:=fun s hs=>by
  obtain⟨i,u,rfl⟩:=La.1 hs;rw[E i u (by omega) (by omega)];exact(XJ (h.ok _ (NV _)) _).2
 have y:Lies {M with dir:=D,safe:=D,IW:=[],file:=file,dead:=false,cut:=0,fail:=0} a:=by
  refine⟨?_,hi,fun e l=>h.bd.Gc e (d.mem l)⟩;refine List.ext_getElem? fun i=>?_;by_cases u:i<a.length
  .rw[Vs 0 a i u]
   show(D.map fun e=>(e.1,(file e.2).bytes))[i]?=_;rw[JN,NZ (by omega),KX];obtain⟨b1,b2⟩:=hb i (by omega) (by omega);obtain⟨_,_,c3,_⟩:=o D[i] (NV _);rw[E i u (by omega) (by omega),(XJ (h.ok _ (NV _)) _).1,<- b2,<- c3,b1,MD]
  .rw[KD (by show(D.map _).length<=i;rw[Mw];omega),KD (by rw[Vg];omega)]
 -- the facts
 have C:∀ i (j:i<D.length) (B:i<b.length),i+1<b.length->(Y7 b[i] (file D[i].2).safe).1=b[i].1:=fun i j B h4=>by
  obtain⟨_,b2⟩:=hb i j B;obtain⟨c1,c2,_,_⟩:=o D[i] (NV _);have a0:D[i]∈M.dir.dropLast:=by
   rw[J i j (by omega)];rw[La];exact⟨i,by rw[List.length_dropLast];omega,by rw[List.getElem_dropLast]⟩
  have:=h.full _ a0;unfold Y7;simp only;rw[Un (by rw[<- b2];omega),Mz]
 have A:zc a<+:zc b:=by
  by_cases hk:D.length<b.length
  .have:a.map Prod.fst=(b.take D.length).map Prod.fst:=by
    refine KS (by simp;omega) fun i j F=>?_;have B:i<a.length:=by simpa using j
    rw[MT,MT,E i B (by omega) (by omega),C i (by omega) (by omega) (by omega),KG]
   unfold zc;rw[this,Ka]
   conv=>rhs;rw[<- Mv D.length (b.map Prod.fst),LK]
   exact Kh _ _
  .have hke:D.length=b.length:=by omega
   rcases Ld b with e|⟨Y,s,e⟩
   .have:a=[]:=Mi (by rw[N,hke,e];rfl)
    rw[this];exact Ir
   .rw[Le] at e
    have a5:b.length=Y.length+1:=by rw[e];simp
    obtain⟨c,this⟩:∃ c,a.map Prod.fst=Y.map Prod.fst++[s.1.take c]:=by
     refine⟨cnt s.1 (file (D[Y.length]'(by omega)).2).safe,?_⟩;refine KS (by simp;omega) fun i j F=>?_;have B:i<a.length:=by simpa using j
     rw[MT,E i B (by omega) (by omega)];by_cases h4:i<Y.length
     .rw[C i (by omega) (by omega) (by omega),MG (by simpa using h4),MT]
      simp only[e,MG h4]
     .have h5:i=Y.length:=by omega
      subst h5;rw[List.getElem_append_right (by simp)];simp only[e,List.getElem_concat_length,Mw,IL,LG]
      rfl
    unfold zc;rw[this,e,ML,LK,LK];simp only[Mf,LC,Lp,List.flatten_nil,MB];exact(List.prefix_append_right_inj _).2 (Jp _ _)
 have L:lft M b D.length<=(zc a).length:=by
  have j:lft M b D.length<=lft {M with dir:=D,safe:=D,IW:=[],file:=file,dead:=false,cut:=0,fail:=0} a D.length:=by
   have e:(gl M b).take D.length=(gl M b).take D.length:=rfl;unfold lft;rw[show((gl M b).take D.length).sum=(((gl M b).take D.length).take D.length).sum by rw[Kg,Nat.min_self]];refine YD _ _ _ fun i u=>?_;have G:i<D.length:=by rw[NT] at u;omega
   have a4:i<(gl M b).length:=by rw[NT] at u;omega
   refine⟨by rw[YO (by show D.length=_;omega)];omega,?_⟩;rw[KG,XT (by omega) (by omega),XT (by exact G) (by omega),E i (by omega) G (by omega)];show cnt b[i].1 (M.file M.dir[i].2).safe<=cnt (b[i].1.take _) (file D[i].2).safe;rw[<- J i G (by omega)];obtain⟨c1,c2,c3,c4⟩:=o D[i] (NV _);obtain⟨_,b2⟩:=hb i G (by omega);have a2:=(XJ (h.ok b[i] (NV _)) (file D[i].2).safe).1;have:cnt (Y7 b[i] (file D[i].2).safe).1 (file D[i].2).safe=(Y7 b[i] (file D[i].2).safe).1.length:=Un (by rw[a2,NT];omega);have h6:cnt b[i].1 (file D[i].2).safe<=b[i].1.length:=by
    have:=SU b[i].1 (file D[i].2).safe;exact this
   unfold Y7 at this;simp only at this;rw[this,NT,MU h6];exact Vu _ c1
  have F:=Uo y (fun e l=>(o e l).2.2.2);rw[N] at F;exact NR j (JD F)
 refine⟨a,?_,A,NR I L⟩;exact {
  bd:={
   c0:=h.bd.c0,calls:=h.bd.calls,f0:=h.bd.f0,fr:=h.bd.fr,rc:=h.bd.rc,r0:=h.bd.r0,r1:=h.bd.r1,part:=h.bd.part
   all:=NR (PP M.ids (fun g _=>a1 g)) h.bd.all
   GP:=h.bd.GP,GJ:=h.bd.GJ
   Gc:=fun e l=>h.bd.Gc e (d.mem l)
   once:=hi
   IW:=Me _
   Hy:=fun x X=>by
    have k:x∈[D]:=X;rw[NW] at k;subst k;exact K
   dir:=K}
  Hs:=y
  ok:=T
  Gw:=fun i=>by
   obtain⟨r,hr⟩:=A;have:(zc a).take i=(zc b).take (min i (zc a).length):=by
    rw[<- hr,MF (Ia _ _),List.take_eq_take_min]
   rw[this];exact h.Gw _
  pre:=fun x X=>by
   have k:x∈[D]:=X;rw[NW] at k;subst k;exact Ic _
  le:=fun e l=>JD (o e l).2.2.2
  full:=fun e l=>(o e (List.dropLast_subset _ l)).2.2.2
  GI:=fun x X=>by
   have k:x∈[D]:=X;rw[NW] at k;subst k;rw[<- N,Uo y (fun e l=>(o e l).2.2.2)];exact NS _}
end Go.Proofs.YtkhnggkkiefcdaaGreatDoor
