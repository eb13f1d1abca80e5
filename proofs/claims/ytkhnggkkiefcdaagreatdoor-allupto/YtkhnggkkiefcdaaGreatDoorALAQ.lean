/- larder: joined texts -/
import Derived.Test.YtkhnggkkiefcdaaGreatDoorALAP
namespace Go.Proofs.YtkhnggkkiefcdaaGreatDoor
open Go.RowKit Proofs.Tryz
set_option maxRecDepth 100000
set_option maxHeartbeats 8000000
variable{w:World}{v:Value}{b f m k:Nat}{L:DL}{M:DM}{d:Dir}{a:ByteArray}{s:Seg}{p:Prop}{e:ByteArray × Nat}{D:List (Nat × Nat)}{fV:Nat->Value}
def Zz(c:Int)(n:Nat):Nat:=(if c<0 then -(c+1) else c).toNat%(n+1)
theorem XM(c:Int)(n:Nat):Zz c n<=n:=by
 have:=vE (if c<0 then -(c+1) else c).toNat (show 0<n+1 from V);unfold Zz;omega
theorem V5(c:Int)(n:Nat)(w:World)(k:-9223372036854775808<=c)(l:c<=9223372036854775807)(o:n<=140737488355328) :
 Calls prog 85 #[I c,I n] w fun e j=>e=.returned (I (Zz c n))/\j=w:=by
 by_cases d:c<0
 .obtain⟨m,hm⟩:=Ai (a:=-(c+1)) V
  have b:aa (Zz c n=m%(n+1)):=by simp[aa,Zz,d,hm]
  have h:(m:Int).tmod ((n:Int)+1)=((m%(n+1):Nat):Int):=by rw[show((n:Int)+1)=((n+1:Nat):Int) from rfl,wK]
  have i:(((n:Int)+1)==0)=false:=by rw[Ay];omega
  have f:(m:Int)<=9223372036854775807:=V
  have g:((m%(n+1):Nat):Int)<=9223372036854775807:=by have:=Nat.mod_le m (n+1);omega
  obtain rfl:c=-(m:Int)-1:=V
  clear hm;go_enter func85,ntmps85
  go_wp2
  go_ret;rw[b.o];exact⟨rfl,rfl⟩
 .obtain⟨m,rfl⟩:=Ai (a:=c) V
  have b:aa (Zz m n=m%(n+1)):=by simp only[aa,Zz];rw[CW d];rfl
  have h:(m:Int).tmod ((n:Int)+1)=((m%(n+1):Nat):Int):=by rw[show((n:Int)+1)=((n+1:Nat):Int) from rfl,wK]
  have i:(((n:Int)+1)==0)=false:=by rw[Ay];omega
  go_enter func85,ntmps85
  go_wp2
  go_ret;rw[b.o];exact⟨rfl,rfl⟩
def Yp(w:World)(v:Value)(l:List Int):Prop :=
 ((∃ a c,v=.slice a 0 c)/\l=[])\/∃ g b d,v=.slice (some (Y g b)) l.length d/\g<w.heap.size/\l.length<=maxLen/\∀ j (h:j<l.length),w.cell? (Y g (b+j))=some (I l[j])
theorem Yp.fr{S:Nat->Prop}{w':World}{l:List Int}(h:Yp w v l)(f:Fr S w w')(A:∀ k,l≠[]->v.ownBlock=some k->¬S k):Yp w' v l:=by
 rcases h with h|⟨g,c,cap,rfl,r,hm,y⟩
 .exact .inl h
 .exact .inr ⟨g,c,cap,rfl,Bv r f.size,hm,fun j o=>by rw[f.cell (p:=⟨g,c+j,none⟩) r (A g (fun e=>by rw[e] at o;exact absurd o (BF _)) rfl)];exact y j o⟩
def ZZ(f:FM)(c:Int):FM :=
 ⟨f.bytes.take (f.uZ+Zz c (f.bytes.length-f.uZ)),f.uZ+Zz c (f.bytes.length-f.uZ)⟩
def zz(d:Dir)(a:List Int)(b:Nat->FM):Nat->Nat->FM
 | 0=>b
 | k+1=>match (d.tT[k]?).bind (Dir.sF d) with
  | some f=>fun g=>if g=f then ZZ (zz d a b k f) (a.getD k 0) else zz d a b k g
  | none=>zz d a b k
def DM.rm(M:DM)(a:Int):Dir :=
 if Zz a M.tB.length=0 then M.uZ else M.tB.getD (Zz a M.tB.length-1) []
def DM.sj(M:DM)(a:Int)(b:List Int):DM :=
 {M with uX:=M.rm a,uZ:=M.rm a,tB:=[],uV:=zz (M.rm a) b M.uV (M.rm a).tT.length,tJ:=false,cut:=0,fail:=0}
theorem DRep.oD{j:World}(h:DRep w b L M)(o:w.ownsRow 0 148 2 v d.length (flat d))(q:∀ e,e∈d->e.2∈M.tL)
 (p:Blk j b (({M with uX:=d}:DM).cells {L with sQ:=v}) 143)(f:Fr (fun k=>k=b) w j):DRep j b {L with sQ:=v} {M with uX:=d} where
 td:=p
 uX:=ze o f fun _ e a=>by subst a;exact zh o h.td O e
 uZ:=ze h.uZ f fun _ e a=>by subst a;exact zh h.uZ h.td O e
 ch:=ze h.ch f fun _ e a=>by subst a;exact zh h.ch h.td O e
 qh:=h.qh
 tB:=fun i l m=>ze (h.tB i l m) f fun _ e a=>by subst a;exact zh (h.tB i l m) h.td O e
 tw:=fun g c=>(h.tw g c).fr f ((h.tw g c).ne h.td O)
 sq:=fun g c=>ze (h.sq g c) f fun _ e a=>by subst a;exact zh (h.sq g c) h.td O e
 rF:=h.rF
 le:=h.le
 rA:=q
 qZ:=h.qZ
 qW:=h.qW
theorem DRep.tW{r:World}(h:DRep w b L M)(o:f∈M.tL)(hm:m<=(M.uV f).bytes.length)
 (D:Blk r f [v,I m] 152)(N:w.ownsRow 0 5 1 v m (u8s ((M.uV f).bytes.take m)))
 (fr:Fr (fun k=>k=f) w r)(y:∀ k,v.ownBlock=some k->(L.fV f).ownBlock=some k) :
 DRep r b {L with fV:=fun g=>if g=f then v else L.fV g} (M.tX f ⟨(M.uV f).bytes.take m,m⟩):=by
 have c:∀ {e:TypeId} {J:Nat} {v:Value} {n:Nat} {K:List Value},w.ownsRow 0 e J v n K->e≠152->r.ownsRow 0 e J v n K:=fun G l =>
  ze G fr fun k e d=>by subst d;exact zh G (h.tw k o) (wJ l) e
 have A:((M.uV f).bytes.take m).length=m:=by simp;omega
 exact {
  td:=h.td.fr fr (h.td.ne (h.tw f o) O)
  uX:=c h.uX O
  uZ:=c h.uZ O
  ch:=c h.ch O
  qh:=h.qh
  tB:=fun i l u=>c (h.tB i l u) O
  tw:=fun g j=>by
   exact Io
  sq:=fun g j=>by
   by_cases e:g=f
   .subst e
    have:=c N O;simp only[DM.tX,Ad,A];exact this
   .have:=c (h.sq g j) O
    simpa [DM.tX,e] using this
  rF:=fun g j x t e k d=>by
   by_cases C:g=f
   .subst C
    have B:¬x=g:=fun h=>e h.symm;simp only[Ad,B,Aa] at d |-;exact h.rF g j x t e k (y k d)
   .by_cases B:x=f
    .subst B
     simp only[C,Aa,Ad] at d |-;intro u;exact h.rF g j x t e k d (y k u)
    .simp only[C,B,Aa] at d |-
     exact h.rF g j x t e k d
  le:=fun g j=>by
   by_cases e:g=f
   .subst e;simp[DM.tX];omega
   .simpa [DM.tX,e] using h.le g j
  rA:=h.rA
  qZ:=h.qZ
  qW:=h.qW}
theorem FW{a:Nat}{e:TypeId}{g n:Nat}{j:List Value}(h:w.ownsRow a e 1 (.slice (some (Y g 0)) n b) n j)(hm:m<=n) :
 w.ownsRow a e 1 (.slice (some (Y g 0)) m b) m (j.take m):=by
 have q:=h.1;refine⟨by simp;omega,?_⟩;rcases h.2 with⟨c,_⟩|⟨p,i,d,c,k,l,r,f,hs,o⟩
 .cases c
 .simp at c
  obtain⟨rfl,rfl⟩:=c;refine .inr ⟨g,b,d,rfl,k,l,V,f,hs,?_⟩;rw[<- o,xS]
  congr 1
  omega
theorem Foot.np{x:FM}(j:f∈M.tL)(c:∀ k,v.ownBlock=some k->(L.fV f).ownBlock=some k)
 (h:Foot b {L with fV:=fun g=>if g=f then v else L.fV g} (M.tX f x) k):Foot b L M k:=by
 cases h using Foot.elim with
 | blk=>exact .td
 | dir e=>exact .uX e
 | safe e=>exact .uZ e
 | ch e=>exact .ch e
 | chs i d e=>exact .tB i d e
 | file e=>exact .uV e
 | row g l e =>
  by_cases a:g=f
  .simp only[a,Ad] at e;exact .row f j (c k e)
  .simp only[a,Aa] at e;exact .row g l e
structure Yu(w0:World)(b:Nat)(L0:DL)(M0:DM)(rz:List Int)(nv:Value)(i:Nat)(w:World):Prop where
 th:∃ L,DRep w b L {M0 with uV:=zz M0.uX rz M0.uV i}/\L.sQ=L0.sQ/\L.sI=L0.sI/\L.qq=L0.qq/\L.sK=L0.sK/\(∀ k,Foot b L {M0 with uV:=zz M0.uX rz M0.uV i} k->Foot b L0 M0 k)
 fr:Fr (Foot b L0 M0) w0 w
 tT:w.ownsRow 0 9 1 nv M0.uX.length (strs M0.uX.tT)
theorem Ox(f:FM)(c:Int)(h:f.uZ<=f.bytes.length):f.uZ+Zz c (f.bytes.length-f.uZ)<=f.bytes.length:=by
 have:=XM c (f.bytes.length-f.uZ);omega
theorem Vq(d:Dir):d.tT.length=d.length:=Us d _ (CP _)
theorem FX(l:List ByteArray)(x y:ByteArray)(h:y∈Xb l x):y=x\/y∈l:=by
 induction l with
 | nil=>simp[Xb] at h;exact .inl h
 | cons a r b =>
  simp only[Xb] at h;split at h
  .rcases BC.1 h with h|h
   .exact .inr (by simp[h])
   .rcases b h with h|h
    .exact .inl h
    .exact .inr (CT _ h)
  .rcases BC.1 h with h|h
   .exact .inl h
   .exact .inr h
theorem Ja(d:Dir):∀ k,k<=d.length->∀ y,y∈YL d k->∃ e,e∈d/\e.1=y:=by
 intro k
 induction k with
 | zero=>intro _ y a;simp[YL] at a
 | succ k b =>
  intro h y a;rw[VJ d k h,List.mem_reverse] at a;rcases FX _ _ _ a with rfl|a
  .exact⟨d[k],CU h,rfl⟩
  .exact b V y aQ
theorem TE(d:Dir)(y:ByteArray)(h:y∈d.tT):∃ k:Nat,∃ c:k<d.length,zZ d y=k/\Dir.sF d y=some d[k].2:=by
 obtain⟨e,f,rfl⟩:=Ja d _ (CP _) y h;rcases YU d e.1 with⟨b,a⟩|⟨k,c,b,a,_⟩
 .exfalso
  cases hf:d.find? (fun x=>x.1==e.1) with
  | none=>exact absurd (show(e.1==e.1)=true by rw[yQ];simp) (yY.1 hf e f)
  | some x=>simp[Dir.sF,hf] at a
 .exact⟨k,c,b,a⟩
theorem CM(hm:zZ d a=k)(w g:World)(b:Nat)(L:DL)(M:DM)(l:M.uX=d)(h:DRep g b L M)(c:Fr Nil g w) :
 Calls prog 87 #[L.sQ,.string a] w fun e f=>e=.returned (I k)/\f.cell? (Y b 0)=some L.sQ/\Fr Nil g f:=by
 subst l;refine(Za hm w (h.fr c (fun _ _=>id)).uX).mono fun e f ⟨j,i⟩=>⟨j,?_,c.trans i⟩;exact((h.fr (c.trans i) (fun _ _=>id)).td.cell 0)
theorem VQ(d:Dir)(b:List Int)(a:Nat->FM):∀ i f,(zz d b a i f).bytes.length<=(a f).bytes.length:=by
 intro i
 induction i with
 | zero=>intro f;exact CP _
 | succ i c =>
  intro f;cases hx:(d.tT[i]?).bind (Dir.sF d) with
  | none=>simp only[zz,hx];exact c f
  | some g =>
   simp only[zz,hx];split
   .rename_i e
    subst e;have:=c f;simp only[ZZ,CR];omega
   .exact c f
theorem M8(d:Dir)(a:List Int)(b:Nat->FM)(i f:Nat)(c:i<d.tT.length)(h:Dir.sF d d.tT[i]=some f) :
 zz d a b (i+1)=fun g=>if g=f then ZZ (zz d a b i f) (a.getD i 0) else zz d a b i g:=by
 simp only[zz,CS c,wZ,h]
theorem Qm(hm:zZ d a=k)(s:k<d.length)(w m:World)(b:Nat)(L:DL)(M:DM)(r:M.uX=d){g c:Nat}(o:L.sQ=.slice (some (Y g 0)) d.length c)(h:DRep m b L M)(l:Fr Nil m w) :
 Calls prog 87 #[.slice (some (Y g 0)) d.length c,.string a] w fun e f=>e=.returned (I k)/\f.cell? (Y b 0)=some (.slice (some (Y g 0)) d.length c) /\
  f.cell? (Y g (k*2+1))=some (E (d[k].2) 0)/\Fr Nil m f:=by
 subst r;have j:=(h.fr l (fun _ _=>id)).uX;rw[o] at j;refine(Za hm w j).mono fun e f ⟨q,i⟩=>⟨q,?_,?_,l.trans i⟩
 .rw[<- o];exact((h.fr (l.trans i) (fun _ _=>id)).td.cell 0)
 .exact own_cell? (ze j i (fun _ _=>id)) _ _ (ZP _ k s).2
theorem Yu.step{K s:World}{l j:DL}{c:DM}{a:List Int}{J:Value}{i:Nat}(h:Yu K b l c a J i w)
 (D:DRep w b j {c with uV:=zz c.uX a c.uV i})
 (r:j.sQ=l.sQ/\j.sI=l.sI/\j.qq=l.qq/\j.sK=l.sK/\(∀ k,Foot b j {c with uV:=zz c.uX a c.uV i} k->Foot b l c k))
 (o:Fr Nil w s)(M:i<c.uX.tT.length)(B:Dir.sF c.uX c.uX.tT[i]=some f)(d:f∈c.tL)
 (hm:m=(zz c.uX a c.uV i f).uZ+Zz (a.getD i 0) ((zz c.uX a c.uV i f).bytes.length-(zz c.uX a c.uV i f).uZ))
 (N:s.ownsRow 0 5 1 v m (u8s ((zz c.uX a c.uV i f).bytes.take m)))(t:∀ k,v.ownBlock=some k->(j.fV f).ownBlock=some k) :
 Yu K b l c a J (i+1) (((s.setCell (Y f 0) v).setCell (Y f 1) (I m)).drew):=by
 have x:=D.fr o (fun _ _=>id);have u:=x.le f d;simp only at u;have C:m<=(zz c.uX a c.uV i f).bytes.length:=by
  have:=Ox (zz c.uX a c.uV i f) (a.getD i 0) u;omega
 have q:Fr (fun k=>k=f) s (((s.setCell (Y f 0) v).setCell (Y f 1) (I m)).drew):=ab;have L:Blk (((s.setCell (Y f 0) v).setCell (Y f 1) (I m)).drew) f [v,I m] 152:=(((x.tw f d).set 0 v).set 1 (I m)).drew;have A:=x.tW d C L N q t;have G:({c with uV:=zz c.uX a c.uV i}:DM).tX f ⟨(zz c.uX a c.uV i f).bytes.take m,m⟩={c with uV:=zz c.uX a c.uV (i+1)}:=by
  rw[M8 _ _ _ _ _ M B];simp only[DM.tX,ZZ,<- hm]
 have y:Foot b j {c with uV:=zz c.uX a c.uV i} f:=.uV d;refine⟨⟨{j with fV:=fun g=>if g=f then v else j.fV g},?_,r.1,r.2.1,r.2.2.1,r.2.2.2.1,?_⟩,?_,?_⟩
 .rw[<- G];exact A
 .intro k hkf
  rw[<- G] at hkf;exact r.2.2.2.2 k (Foot.np d t hkf)
 .refine Fr.tk (h.fr.trans (o.mono (fun _ _=>False.elim))) q ?_
  intro k _ e;subst e;exact r.2.2.2.2 _ y
 .have h1:=ze h.tT o (fun _ _=>id)
  exact ze h1 q (fun k e A=>by subst A;exact zh h1 (x.tw _ d) O e)
theorem DRep.nT{F:Nat->FM}(h:DRep w b L {M with uX:=d,uV:=F}) :
 DRep (((((w.setCell (Y b 1) L.sQ).setCell (Y b 2) (.slice none 0 0)).setCell (Y b 10) (.bool false)).setCell (Y b 5) (I 0)).setCell (Y b 6) (I 0)) b
  {L with sI:=L.sQ,qq:=.slice none 0 0,sK:=[]} {M with uX:=d,uZ:=d,tB:=[],uV:=F,tJ:=false,cut:=0,fail:=0}:=by
 have a:=h.oC (w':=(w.setCell (Y b 1) L.sQ).setCell (Y b 2) (.slice none 0 0)) ((h.td.set 1 L.sQ).set 2 (.slice none 0 0)) zd;exact a.sL (M':={M with uX:=d,uZ:=d,tB:=[],uV:=F,tJ:=false,cut:=0,fail:=0}) (((a.td.set 10 (.bool false)).set 5 (I 0)).set 6 (I 0)) zd rfl rfl rfl rfl rfl
theorem Qn{q wr:World}{G:Value}{c:Int}{a:List Int}(C:M.rm c=d)
 (h:Yu q b {L with sQ:=v} {M with uX:=d} a G d.length wr)(j:Fr (fun k=>k=b) w q)
 (g:∀ k,Foot b {L with sQ:=v} {M with uX:=d} k->Foot b L M k) :
 ∃ r,DStep b L M w r (M.sj c a)
  (((((wr.setCell (Y b 1) v).setCell (Y b 2) (.slice none 0 0)).setCell (Y b 10) (.bool false)).setCell (Y b 5) (I 0)).setCell (Y b 6) (I 0)):=by
 obtain⟨s,o,p,t,u,x,l⟩:=h.th;simp only at p t u x;subst p;have y:M.sj c a={M with uX:=d,uZ:=d,tB:=[],uV:=zz d a M.uV d.length,tJ:=false,cut:=0,fail:=0}:=by
  simp only[DM.sj,C,Vq]
 rw[y];have B:=o.nT;refine⟨_,B,?_,?_⟩
 .have hfr:Fr (fun k=>k=b) wr (((((wr.setCell (Y b 1) s.sQ).setCell (Y b 2) (.slice none 0 0)).setCell (Y b 10) (.bool false)).setCell (Y b 5) (I 0)).setCell (Y b 6) (I 0)):=zd
  refine Fr.tk (Fr.tk (j.mono (fun k _ e=>by subst e;exact .td)) h.fr (fun k _ m=>g k m)) hfr (fun k _ e=>by subst e;exact .td)
 .intro k m
  refine .inl (g k ?_);cases m using Foot.elim with
  | blk=>exact .td
  | dir e=>exact .uX e
  | safe e=>exact .uX e
  | ch e=>simp[Value.ownBlock] at e
  | chs i A e=>exact absurd A (BF _)
  | file e=>exact .uV e
  | row f D e=>exact l k (.row f D e)
theorem Gl(h:p:=by
 rcases (H5.o.sq _ q).2 with⟨J,h2⟩|⟨_,_,_,J,_,_,h2,_⟩
 .simp only[HF.o] at h2;omega
 .rw[A.o] at J;simp only[HF.o] at J h2;simp at J;omega):p:=h
theorem Gm(h:p:=by
 rcases (H5.o.sq _ q).2 with⟨J,_⟩|⟨g,_,_,J,_⟩
 .rw[A.o] at J;simp at J;omega
 .rw[A.o] at J;simp at J;exact⟨g,J.1⟩):p:=h
theorem Lz(h:p:=by
 rw[HF.o];have:=FW hr g5;rw[show u8s (F.bytes.take m)=(u8s F.bytes).take m by simp[u8s]];exact this):p:=h
theorem Du(h:p:=by
 refine Yu.step (v:=.slice fa 0 0) (m:=0) s.o B.o c8.o Q u c9.o q ?_ ?_ ?_
 .show 0=(zz d l M.uV i d[k].2).uZ+Zz (l.getD i 0) ((zz d l M.uV i d[k].2).bytes.length-(zz d l M.uV i d[k].2).uZ)
  rw[HF.o,HG.o,<- b0.o,b2.o];exact b1.o
 .have hr:=H5.o.sq _ q
  simp only[HF.o] at hr;rw[A.o] at hr;simp only[HF.o] at hr;have hz:F.bytes.length=0:=V
  rw[hz,e5] at hr;have d7:F.bytes=[]:=BH hz;show w5.ownsRow 0 5 1 (.slice fa 0 0) 0 (u8s ((zz d l M.uV i d[k].2).bytes.take 0));rw[d7] at hr
  simpa using hr
 .intro j hj
  rw[A.o];cases fa with
  | none=>exact hj
  | some a=>exact hj):p:=h
theorem Dv(h:p:=by
 refine Yu.step (v:=.slice fa 0 0) (m:=0) s.o B.o c8.o Q u c9.o q ?_ ?_ ?_
 .show 0=(zz M.uZ l M.uV i M.uZ[k].2).uZ+Zz (l.getD i 0) ((zz M.uZ l M.uV i M.uZ[k].2).bytes.length-(zz M.uZ l M.uV i M.uZ[k].2).uZ)
  rw[HF.o,HG.o,<- b0.o,b2.o];exact b1.o
 .have hr:=H5.o.sq _ q
  simp only[HF.o] at hr;rw[A.o] at hr;simp only[HF.o] at hr;have hz:F.bytes.length=0:=V
  rw[hz,e5] at hr;have d7:F.bytes=[]:=BH hz;show w5.ownsRow 0 5 1 (.slice fa 0 0) 0 (u8s ((zz M.uZ l M.uV i M.uZ[k].2).bytes.take 0));rw[d7] at hr
  simpa using hr
 .intro j hj
  rw[A.o];cases fa with
  | none=>exact hj
  | some a=>exact hj):p:=h
theorem LA(h:p:=by
 have i4:m=0:=V
 go_wp2_with fail;refine yN 26 bI bI ?_;simp only[AF,yC,yk,Au]
 iterate 21 still_step
 still_call (t.o _)
 iterate 4 still_step
 refine vp ?_
 go_wp2
 obtain rfl:m=0:=i4;refine⟨⟨i+1,V,by go_num,?_⟩,by simp[intOf];omega⟩
 first
  | (clear mk17;exact Dv)
  | exact Du):p:=h
theorem EF(h:p:=by
 have b2:=Z hP;clear hP;obtain⟨m,c2⟩:∃ m:Nat,m=F.uZ+pn:=⟨_,rfl⟩;have j2:IntKind.i64.wrap ((F.bytes.length:Int)-(F.uZ:Int))=(dn:Int):=by simp (disch:=omega) only[vG];omega
 have j3:IntKind.i64.wrap ((F.uZ:Int)+(pn:Int))=(m:Int):=by simp (disch:=omega) only[vG];omega
 have b0:=Z b9;have b1:=Z c2;have g5:m<=F.bytes.length:=V
 have d8:F.bytes.length<=fc:=by
  exact Gl
 have i9:(0:Int)<=(m:Int):=V
 have j0:(m:Int)<=(fc:Int):=V
 clear b9 c2 c4;by_cases e5:fc=0
 .have mk17:=0
  exact LA
 .obtain⟨gb,hgb⟩:∃ gb,fa=some (Y gb 0):=by
   exact Gm
  subst hgb;go_wp2_with fail;refine yN 26 bI bI ?_;simp only[AF,yC,yk,Au]
  iterate 21 still_step
  still_call (t.o _)
  iterate 4 still_step
  refine vp ?_
  go_wp2
  refine⟨⟨i+1,V,by go_num,?_⟩,by simp[intOf];omega⟩;refine Yu.step (v:=.slice (some (Y gb 0)) m fc) (m:=m) s.o B.o c8.o Q u c9.o q ?_ ?_ ?_
  .show m=(zz M.uZ l M.uV i M.uZ[k].2).uZ+Zz (l.getD i 0) ((zz M.uZ l M.uV i M.uZ[k].2).bytes.length-(zz M.uZ l M.uV i M.uZ[k].2).uZ)
   rw[HF.o,HG.o,<- b0.o,b2.o];exact b1.o
  .have hr:=H5.o.sq _ q
   simp only[HF.o] at hr;rw[A.o] at hr;simp only[HF.o] at hr;show w5.ownsRow 0 5 1 (.slice (some (Y gb 0)) m fc) m (u8s ((zz M.uZ l M.uV i M.uZ[k].2).bytes.take m));exact Lz
  .intro j hj
   rw[A.o];exact hj):p:=h
theorem Dw(h:p:=by
 rcases f7.o with⟨_,h0⟩|⟨g,c7,d0,hv,_,_,d8⟩
 .subst h0;simp at a8
 .exact⟨g,c7,d0,hv,d8 i a8⟩):p:=h
theorem LB(h:p:=by
 refine HT.o.fr d4 ?_;intro j g6 hj hb;rcases hb with rfl|hb
 .exact f2 _ g6 hj .td
 .exact f2 j g6 hj hb):p:=h
theorem LC(h:p:=by
 rcases ht with⟨⟨_,_,rfl⟩,rfl⟩|⟨g,c7,d0,rfl,_⟩
 .exact⟨_,_,rfl⟩
 .exact⟨_,_,rfl⟩):p:=h
theorem Dx(h:p:=by
 exact EG):p:=h
theorem Dy(h:p:=by
 exact EF):p:=h
theorem LE(h:p:=by
 obtain⟨tg,h3,j6,g7,k1⟩:∃ g c7 d0,tv=.slice (some (Y g c7)) l.length d0/\w5.cell? (Y g (c7+i))=some (I l[i]):=by
  exact Dw
 have j1:ta=some (Y tg h3):=by have:=f8.o.symm.trans g7;simp at this;exact this.1
 subst j1;have g4:l.getD i 0=l[i]:=by simp[List.getD,a8]
 have HG:=Z g4;have j9:=(f3 l[i] (CU a8)).1;have k0:=(f3 l[i] (CU a8)).2;clear g4;generalize l[i]=tx at *;obtain⟨dn,b9⟩:∃ dn:Nat,dn=F.bytes.length-F.uZ:=⟨_,rfl⟩;have C:∀ wx:World,Calls prog 85 #[I tx,I dn] wx fun e w'=>e=.returned (I (Zz tx dn))/\w'=wx :=
  fun wx=>V5 _ _ wx V V V
 have t:=Z C;have c4:=XM tx dn;clear C;generalize hP:Zz tx dn=pn at c4 t
 first
  | (clear mk5;exact Dy)
  | exact Dx):p:=h
theorem Dz(h:p:=by
 exact EG):p:=h
theorem DA(h:p:=by
 exact EF):p:=h
theorem LF(h:p:=by
 have HG:aa (l.getD i 0=0):=by simp[aa,List.getD,a8]
 obtain⟨dn,b9⟩:∃ dn:Nat,dn=F.bytes.length-F.uZ:=⟨_,rfl⟩;have C:∀ wx:World,Calls prog 85 #[I 0,I dn] wx fun e w'=>e=.returned (I (Zz 0 dn))/\w'=wx :=
  fun wx=>V5 _ _ wx V V V
 have t:=Z C;have c4:=XM 0 dn;clear C;generalize hP:Zz 0 dn=pn at c4 t
 first
  | (clear mk15;exact DA)
  | exact Dz):p:=h
theorem DB(h:p:=by
 go_region_held3 (fun w'=>w'.cell? (Y b 0)=some (.slice (some (Y dg 0)) d.length X)/\w'.cell? (Y dg (k*2+1))=some (E (d[k].2) 0)) (first|go_keep|exact⟨‹_›,‹_›⟩)
  (first|(go_at_call 87;refine(Qm f5.o hk _ wr b _ _ rfl f4.o B.o (Fr.drew (U _ _))).mono ?_;rintro e w5 ⟨rfl,h9,i7,Q⟩))
 have h5:=B.o.fr Q (fun _ _=>id);have q:d[k].2∈M.tL:=B.o.rA _ (CU hk);have c1:(zz d l M.uV i d[k].2).bytes.length<=1000000000000:=CO (VQ _ _ _ _ _) (e6 _ q);have G:=h5.le _ q;have a5:=(h5.tw _ q).cell;have i1:=(h5.tw _ q).frozen;obtain⟨fa,fc,S⟩:=zf (h5.sq _ q);rw[S] at a5;simp only at G a5 S;have b4:Yp w5 tv l:=by
  have d4:Fr (fun k=>k=b\/Foot b L M k) w w5:=by
   refine Fr.tk (Fr.set (Fr.set (U _ w) (p:=⟨b,0,none⟩) (fun _=>.inl rfl) L.sI) (p:=⟨b,0,none⟩) (fun _=>.inl rfl) Vv) (s.o.fr.trans (Q.mono (fun _ _=>False.elim))) ?_;intro j _ hj;refine .inr ?_;cases hj using Foot.elim with
   | blk=>exact .td
   | dir e=>exact f9.o _ e
   | safe e=>exact .uZ e
   | ch e=>exact .ch e
   | chs i J e=>exact .tB i J e
   | file e=>exact .uV e
   | row f hf e=>exact .row f hf e
  exact LB
 have A:=Z S;have H5:=Z h5;have f7:=Z b4;have h6:=Z G;clear h5 S b4;generalize hF:zz d l M.uV i d[k].2=F at a5 G c1;have HF:=Z hF;clear hF;by_cases a8:i<l.length
 .exact LE
 .exact LF):p:=h
theorem DC(h:p:=by
 go_region_held3 (fun w'=>w'.cell? (Y b 0)=some (.slice (some (Y dg 0)) M.uZ.length X)/\w'.cell? (Y dg (k*2+1))=some (E (M.uZ[k].2) 0)) (first|go_keep|exact⟨‹_›,‹_›⟩)
  (first|(go_at_call 87;refine(Qm f5.o hk _ wr b _ _ rfl f4.o B.o (Fr.drew (U _ _))).mono ?_;rintro e w5 ⟨rfl,h9,i7,Q⟩))
 have h5:=B.o.fr Q (fun _ _=>id);have q:M.uZ[k].2∈M.tL:=B.o.rA _ (CU hk);have c1:(zz M.uZ l M.uV i M.uZ[k].2).bytes.length<=1000000000000:=CO (VQ _ _ _ _ _) (e6 _ q);have G:=h5.le _ q;have a5:=(h5.tw _ q).cell;have i1:=(h5.tw _ q).frozen;obtain⟨fa,fc,S⟩:=zf (h5.sq _ q);rw[S] at a5;simp only at G a5 S;have b4:Yp w5 tv l:=by
  have d4:Fr (fun k=>k=b\/Foot b L M k) w w5:=by
   refine Fr.tk (Fr.set (U _ w) (p:=⟨b,0,none⟩) (fun _=>.inl rfl) L.sI) (s.o.fr.trans (Q.mono (fun _ _=>False.elim))) ?_;intro j _ hj;refine .inr ?_;cases hj using Foot.elim with
   | blk=>exact .td
   | dir e=>exact .uZ e
   | safe e=>exact .uZ e
   | ch e=>exact .ch e
   | chs i J e=>exact .tB i J e
   | file e=>exact .uV e
   | row f hf e=>exact .row f hf e
  exact LB
 have A:=Z S;have H5:=Z h5;have f7:=Z b4;have h6:=Z G;clear h5 S b4;generalize hF:zz M.uZ l M.uV i M.uZ[k].2=F at a5 G c1;have HF:=Z hF;clear hF;by_cases a8:i<l.length
 .have mk5:=0
  exact LE
 .have mk15:=0
  exact LF):p:=h
theorem LG(h:p:=by
 have B:=Z r;have f5:=Z c0;have f4:=Z a1;have c9:=Z e7;have c8:=Z (⟨e1,e2,e3,e4,R⟩:Li.sQ=_/\Li.sI=_/\Li.qq=_/\Li.sK=_/\_);unfold maxLen at g3;clear r c0 e1 e2 e3 e4 y R a0 a1 e7;go_wp2_with fail
 first
  | (clear g8;exact DC)
  | exact DB):p:=h
set_option maxRecDepth 100000 in
theorem Jb(o:Int)(l:List Int)(tv:Value)(w:World)(b:Nat)(L:DL)(M:DM)(h:DRep w b L M)(d9:-9223372036854775808<=o)(e0:o<=9223372036854775807)
 (ht:Yp w tv l)(f2:∀ k,l≠[]->tv.ownBlock=some k->¬Foot b L M k)(f3:∀ x,x∈l->-9223372036854775808<=x/\x<=9223372036854775807)
 (e6:∀ f,f∈M.tL->(M.uV f).bytes.length<=1000000000000)(hn:M.tB.length+1<=1000000000000)(hm:∀ d,d∈M.uZ::M.tB->d.length<=1000000000000)(a6:Zz o M.tB.length=0) :
 Calls prog 33 #[E b 0,I o,tv] w fun e w' =>
  e=.returned (.tuple #[])/\∃ L',DStep b L M w L' (M.sj o l) w':=by
 have hc:=h.td.cell;have i2:=h.td.frozen;simp only[DM.cells] at hc;obtain⟨ca,g0,K⟩:=zf h.ch;obtain⟨sa,g9,a7⟩:=zf h.uZ;obtain⟨ta,tc,a9⟩:∃ a c,tv=.slice a l.length c:=by
  exact LC
 have b8:M.rm o=M.uZ:=by simp[DM.rm,a6]
 have c6:Blk (w.setCell (Y b 0) L.sI) b (({M with uX:=M.uZ}:DM).cells {L with sQ:=L.sI}) 143:=h.td.set 0 L.sI;have c5:=h.oD h.uZ h.qZ c6 ab;rw[K,a7] at hc;have HH:=Z h;have b3:=Z c5;have d5:=Z K;have a4:=Z a7;have HT:=Z ht;have f8:=Z a9;have d6:=Z b8;have hp:=V5 o M.tB.length w d9 e0 V;rw[a6] at hp;have HP:=Z hp;have f1:l.length<=maxLen:=by
  rcases ht with⟨_,rfl⟩|⟨_,_,_,_,_,h,_⟩
  .simp
  .exact h
 unfold maxLen at f1;clear h c5 K a7 ht c6 b8 hp a6;rw[a9];clear a9;go_enter func33,ntmps33
 go_wp2_with (go_at_call 85;refine HP.o.mono ?_;rintro e wx ⟨rfl,j4⟩;subst wx)
 have HL:=Z (WW _ b _ _ b3.o (hm M.uZ (CY ..)));rw[<- a4.o];refine HL.o.mono ?_;rintro e w1 ⟨nv,rfl,T,N,a2⟩;obtain⟨na,nc,a3⟩:=zf T;have c3:=zH T;unfold maxLen at c3;have b7:Yu (w.setCell (Y b 0) L.sI) b {L with sQ:=L.sI} {M with uX:=M.uZ} l nv 0 w1 :=
  ⟨⟨_,b3.o.fr N (fun _ _=>id),rfl,rfl,rfl,rfl,fun k hk=>hk⟩,N.mono (fun _ _=>False.elim),T⟩
 have h7:=Z a3;have h8:=Z a2;have h4:=Z N;clear T N a2 hc;subst a3;go_wp2_with fail
 go_loopw [44] (fun c w'=>∃ i:Nat,i<=M.uZ.length/\c=I i/\Yu (w.setCell (Y b 0) L.sI) b {L with sQ:=L.sI} {M with uX:=M.uZ} l (.slice na M.uZ.length nc) i w') (fun c _=>M.uZ.length-(intOf c).toNat)
 case atStart=>exact⟨0,Bg _,rfl,b7⟩
 case round =>
  obtain⟨i,hi,rfl,b6⟩:=hrel;have s:=Z b6;clear b6 b7;by_cases i3:i<M.uZ.length
  .have hnl:M.uZ.tT.length=M.uZ.length:=Vq _
   obtain⟨ng,e8⟩:∃ g,na=some (Y g 0):=by
    obtain⟨g,c',h',_⟩:=zl s.o.tT (by show 0<M.uZ.length;omega);simp at h';exact⟨g,h'.1⟩
   subst e8;have u:i<M.uZ.tT.length:=V
   have i6:=own_cell? s.o.tT i (.string M.uZ.tT[i]) (by simp[strs,u]);obtain⟨k,hk,c0,e7⟩:=TE M.uZ M.uZ.tT[i] (CU u);obtain⟨Li,r,e1,e2,e3,e4,R⟩:=s.o.th;have D:=r.td.cell 0;have y:=r.uX;rw[e1] at y;obtain⟨dg,X,a0,_,g3⟩:=zl y (by show 0<M.uZ.length;omega);simp only at a0;have a1:Li.sQ=.slice (some (Y dg 0)) M.uZ.length X:=e1.trans a0;simp only[DM.cells,a1] at D;simp at D;have i8:=own_cell? (by rw[<- a0];exact y) _ _ (ZP M.uZ k hk).2;have g8:=0;exact LG
  .have u:i=M.uZ.length:=V
   subst u;obtain⟨Li,r,e1,e2,e3,e4,R⟩:=s.o.th;have D:=r.td.cell;have c0:=r.td.frozen;simp only[DM.cells,e1,e2,e3] at D;simp only[a4.o,d5.o] at D;have e9:=r;have B:=Z r;have HE:=Z (⟨e1,e2,e3,e4,R⟩:_/\_/\_/\_/\_);clear r e1 e2 e3 e4 R e9
   go_wp2
   go_end0
   refine⟨rfl,?_⟩;rw[<- a4.o];refine Qn d6.o s.o ab ?_;intro k hk;cases hk using Foot.elim with
   | blk=>exact .td
   | dir e=>exact .uZ e
   | safe e=>exact .uZ e
   | ch e=>exact .ch e
   | chs i J e=>exact .tB i J e
   | file e=>exact .uV e
   | row f hf e=>exact .row f hf e
theorem EG(h:p:=by
 have b2:=Z hP;clear hP;obtain⟨m,c2⟩:∃ m:Nat,m=F.uZ+pn:=⟨_,rfl⟩;have j2:IntKind.i64.wrap ((F.bytes.length:Int)-(F.uZ:Int))=(dn:Int):=by simp (disch:=omega) only[vG];omega
 have j3:IntKind.i64.wrap ((F.uZ:Int)+(pn:Int))=(m:Int):=by simp (disch:=omega) only[vG];omega
 have b0:=Z b9;have b1:=Z c2;have g5:m<=F.bytes.length:=V
 have d8:F.bytes.length<=fc:=by
  exact Gl
 have i9:(0:Int)<=(m:Int):=V
 have j0:(m:Int)<=(fc:Int):=V
 clear b9 c2 c4;by_cases e5:fc=0
 .exact LA
 .obtain⟨gb,hgb⟩:∃ gb,fa=some (Y gb 0):=by
   exact Gm
  subst hgb;go_wp2_with fail;refine yN 26 bI bI ?_;simp only[AF,yC,yk,Au]
  iterate 21 still_step
  still_call (t.o _)
  iterate 4 still_step
  refine vp ?_
  go_wp2
  refine⟨⟨i+1,V,by go_num,?_⟩,by simp[intOf];omega⟩;refine Yu.step (v:=.slice (some (Y gb 0)) m fc) (m:=m) s.o B.o c8.o Q u c9.o q ?_ ?_ ?_
  .show m=(zz d l M.uV i d[k].2).uZ+Zz (l.getD i 0) ((zz d l M.uV i d[k].2).bytes.length-(zz d l M.uV i d[k].2).uZ)
   rw[HF.o,HG.o,<- b0.o,b2.o];exact b1.o
  .have hr:=H5.o.sq _ q
   simp only[HF.o] at hr;rw[A.o] at hr;simp only[HF.o] at hr;show w5.ownsRow 0 5 1 (.slice (some (Y gb 0)) m fc) m (u8s ((zz d l M.uV i d[k].2).bytes.take m));exact Lz
  .intro j hj
   rw[A.o];exact hj):p:=h
set_option maxRecDepth 100000 in
theorem Jc(o:Int)(l:List Int)(tv:Value)(w:World)(b:Nat)(L:DL)(M:DM)(h:DRep w b L M)(d9:-9223372036854775808<=o)(e0:o<=9223372036854775807)
 (ht:Yp w tv l)(f2:∀ k,l≠[]->tv.ownBlock=some k->¬Foot b L M k)(f3:∀ x,x∈l->-9223372036854775808<=x/\x<=9223372036854775807)
 (e6:∀ f,f∈M.tL->(M.uV f).bytes.length<=1000000000000)(hn:M.tB.length+1<=1000000000000)(hm:∀ d,d∈M.uZ::M.tB->d.length<=1000000000000)
 (kk:Nat)(d2:kk<M.tB.length)(a6:Zz o M.tB.length=kk+1) :
 Calls prog 33 #[E b 0,I o,tv] w fun e w' =>
  e=.returned (.tuple #[])/\∃ L',DStep b L M w L' (M.sj o l) w':=by
 have hc:=h.td.cell;have i2:=h.td.frozen;simp only[DM.cells] at hc;obtain⟨cg,g0,K,_,_⟩:=zl h.ch V;have g2:=h.qh;have d3:kk<L.sK.length:=V
 obtain⟨d,hd⟩:∃ d,d=M.tB[kk]:=⟨_,rfl⟩;obtain⟨Vv,d1⟩:∃ Vv,Vv=L.sK[kk]:=⟨_,rfl⟩;have hV:=h.tB kk d3 d2;rw[<- hd,<- d1] at hV;have b5:∀ e,e∈d->e.2∈M.tL:=by rw[hd];exact h.qW _ (CU d2)
 have g1:∀ k,Vv.ownBlock=some k->Foot b L M k:=by rw[d1];exact fun k hk=>.tB kk d3 hk
 have i0:w.cell? (Y cg kk)=some Vv:=own_cell? (by rw[<- K];exact h.ch) kk Vv (by rw[d1];exact CS d3);have j8:cg≠b:=by
  intro e;refine zh h.ch h.td O ?_;rw[K,<- e]
  rfl
 have i5:d.length<=1000000000000:=by rw[hd];exact hm _ (CT _ (CU d2))
 have b8:M.rm o=d:=by simp[DM.rm,a6,hd,d2]
 obtain⟨k2,j5,f0⟩:=zf h.uZ;obtain⟨sa,g9,a7⟩:=zf hV;obtain⟨ta,tc,a9⟩:∃ a c,tv=.slice a l.length c:=by
  exact LC
 have c6:Blk ((w.setCell (Y b 0) L.sI).setCell (Y b 0) Vv) b (({M with uX:=d}:DM).cells {L with sQ:=Vv}) 143:=(h.td.set 0 L.sI).set 0 Vv;have c5:=h.oD hV b5 c6 zd;rw[K,f0] at hc;have HH:=Z h;have b3:=Z c5;have d5:=Z K;have a4:=Z a7;have f6:=Z f0;have HT:=Z ht;have f8:=Z a9;have d6:=Z b8;have hp:=V5 o M.tB.length w d9 e0 V;rw[a6] at hp;have HP:=Z hp;have f1:l.length<=maxLen:=by
  rcases ht with⟨_,rfl⟩|⟨_,_,_,_,_,h,_⟩
  .simp
  .exact h
 unfold maxLen at f1;have j7:=Z b5;have f9:=Z g1;rw[a7] at i0;clear h c5 K a7 f0 ht c6 b8 hp a6 hd d1 hV b5 g1 g2 d3 hm;rw[a9];clear a9;go_enter func33,ntmps33
 go_wp2_with (go_at_call 85;refine HP.o.mono ?_;rintro e wx ⟨rfl,j4⟩;subst wx)
 have HL:=Z (WW _ b _ _ b3.o i5);rw[<- a4.o,<- f6.o];refine HL.o.mono ?_;rintro e w1 ⟨nv,rfl,T,N,a2⟩;obtain⟨na,nc,a3⟩:=zf T;have c3:=zH T;unfold maxLen at c3;have b7:Yu ((w.setCell (Y b 0) L.sI).setCell (Y b 0) Vv) b {L with sQ:=Vv} {M with uX:=d} l nv 0 w1 :=
  ⟨⟨_,b3.o.fr N (fun _ _=>id),rfl,rfl,rfl,rfl,fun k hk=>hk⟩,N.mono (fun _ _=>False.elim),T⟩
 have h7:=Z a3;have h8:=Z a2;have h4:=Z N;clear T N a2 hc;subst a3;go_wp2_with fail
 go_loopw [44] (fun c w'=>∃ i:Nat,i<=d.length/\c=I i/\Yu ((w.setCell (Y b 0) L.sI).setCell (Y b 0) Vv) b {L with sQ:=Vv} {M with uX:=d} l (.slice na d.length nc) i w') (fun c _=>d.length-(intOf c).toNat)
 case atStart=>exact⟨0,Bg _,rfl,b7⟩
 case round =>
  obtain⟨i,hi,rfl,b6⟩:=hrel;have s:=Z b6;clear b6 b7;by_cases i3:i<d.length
  .have hnl:d.tT.length=d.length:=Vq _
   obtain⟨ng,e8⟩:∃ g,na=some (Y g 0):=by
    obtain⟨g,c',h',_⟩:=zl s.o.tT (by show 0<d.length;omega);simp at h';exact⟨g,h'.1⟩
   subst e8;have u:i<d.tT.length:=V
   have i6:=own_cell? s.o.tT i (.string d.tT[i]) (by simp[strs,u]);obtain⟨k,hk,c0,e7⟩:=TE d d.tT[i] (CU u);obtain⟨Li,r,e1,e2,e3,e4,R⟩:=s.o.th;have D:=r.td.cell 0;have y:=r.uX;rw[e1] at y;obtain⟨dg,X,a0,_,g3⟩:=zl y (by show 0<d.length;omega);simp only at a0;have a1:Li.sQ=.slice (some (Y dg 0)) d.length X:=e1.trans a0;simp only[DM.cells,a1] at D;simp at D;have i8:=own_cell? (by rw[<- a0];exact y) _ _ (ZP d k hk).2;exact LG
  .have u:i=d.length:=V
   subst u;obtain⟨Li,r,e1,e2,e3,e4,R⟩:=s.o.th;have D:=r.td.cell;have c0:=r.td.frozen;simp only[DM.cells,e1,e2,e3] at D;simp only[a4.o,d5.o,f6.o] at D;have e9:=r;have B:=Z r;have HE:=Z (⟨e1,e2,e3,e4,R⟩:_/\_/\_/\_/\_);clear r e1 e2 e3 e4 R e9
   go_wp2
   go_end0
   refine⟨rfl,?_⟩;rw[<- a4.o];refine Qn d6.o s.o zd ?_;intro k hk;cases hk using Foot.elim with
   | blk=>exact .td
   | dir e=>exact f9.o _ e
   | safe e=>exact .uZ e
   | ch e=>exact .ch e
   | chs i J e=>exact .tB i J e
   | file e=>exact .uV e
   | row f hf e=>exact .row f hf e
theorem M9(c:Int)(a:List Int)(o:Value)(w:World)(b:Nat)(L:DL)(M:DM)(h:DRep w b L M)(g:-9223372036854775808<=c)(i:c<=9223372036854775807)
 (q:Yp w o a)(l:∀ k,a≠[]->o.ownBlock=some k->¬Foot b L M k)(m:∀ x,x∈a->-9223372036854775808<=x/\x<=9223372036854775807)
 (j:∀ f,f∈M.tL->(M.uV f).bytes.length<=1000000000000)(p:M.tB.length+1<=1000000000000)(hm:∀ d,d∈M.uZ::M.tB->d.length<=1000000000000) :
 Calls prog 33 #[E b 0,I c,o] w fun e s =>
  e=.returned (.tuple #[])/\∃ L',DStep b L M w L' (M.sj c a) s:=by
 have t:=XM c M.tB.length;cases hk:Zz c M.tB.length with
 | zero=>exact Jb c a o w b L M h g i q l m j p hm hk
 | succ r=>exact Jc c a o w b L M h g i q l m j p hm r V hk
theorem Oy:((prog.info? 146).map fun i=>(i.zero.map (·.cells.size),i.size,i.bytes))=some (some 1,1,8):=bI
def ptrs(l:List Nat):List Value:=l.map fun k=>E k 0
structure Twin(w0 w:World)(bo bm:Nat)(M:DM)(os:List Nat)(ps:List (Nat × Nat))(vo vm:Value)(fV:Nat->Value):Prop where
 co:Blk w bo [vo] 168
 cm:Blk w bm [vm] 168
 ne:bo≠bm
 old:w.ownsRow 0 146 1 vo os.length (ptrs os)
 rG:w.ownsRow 0 146 1 vm ps.length (ptrs (ps.map Prod.snd))
 pN:∀ k,vo.ownBlock=some k->vm.ownBlock≠some k
 tw:∀ p,p∈ps->Blk w p.2 [fV p.2,I (M.uV p.1).uZ] 152
 sq:∀ p,p∈ps->w.ownsRow 0 5 1 (fV p.2) (M.uV p.1).bytes.length (u8s (M.uV p.1).bytes)
 rF:∀ p,p∈ps->∀ q,q∈ps->p.2≠q.2->∀ k,(fV p.2).ownBlock=some k->(fV q.2).ownBlock≠some k
 n1:os.Nodup
 n2:(ps.map Prod.snd).Nodup
 tL:∀ f,f∈os->f∈M.tL
 nbo:w0.heap.size<=bo
 nbm:w0.heap.size<=bm
 no:∀ k,vo.ownBlock=some k->w0.heap.size<=k
 nm:∀ k,vm.ownBlock=some k->w0.heap.size<=k
 nf:∀ p,p∈ps->w0.heap.size<=p.2
 nr:∀ p,p∈ps->∀ k,(fV p.2).ownBlock=some k->w0.heap.size<=k
 fr:Fr Nil w0 w
theorem Twin.tW{l k:World}{d c:Nat}{g:List Nat}{i:List (Nat × Nat)}{j vm:Value}{e:Nat->Value}(h:Twin l w d c M g i j vm e)(f:Fr Nil w k) :
 Twin l k d c M g i j vm e :=
 {h with
  co:=h.co.fr f id
  cm:=h.cm.fr f id
  old:=ze h.old f (fun _ _=>id)
  rG:=ze h.rG f (fun _ _=>id)
  tw:=fun p b=>(h.tw p b).fr f id
  sq:=fun p b=>ze (h.sq p b) f (fun _ _=>id)
  fr:=h.fr.trans f}
theorem Gn(h:p:=by
 intro k i;rcases J.qN with e|e
 .exact .inl (by rw[<- e];exact i)
 .rw[e] at i;simp at i;exact .inr V):p:=h
theorem Twin.oA{X y s:World}{t r:Nat}{L:List Nat}{G vm m:Value}(h:Twin X w t r M L D G vm fV)(Q:Fr Nil w y)
 (J:App y G 146 1 (L.length+1) (ptrs L++[E f 0]) m s)(hf:f∉L)(hi:f∈M.tL) :
 Twin X (s.setCell (Y t 0) m) t r M (L++[f]) D m vm fV/\Fr (fun k=>k=t\/G.ownBlock=some k) w (s.setCell (Y t 0) m) /\
  (∀ k,m.ownBlock=some k->G.ownBlock=some k\/w.heap.size<=k):=by
 have j:=h.tW Q;have a9:=Q.size;have x:∀ k,m.ownBlock=some k->G.ownBlock=some k\/y.heap.size<=k:=by
  exact Gn
 have a1:Blk s t [G] 168:=j.co.fr J.fr (zh j.old j.co O);have C:Fr (fun k=>k=t) s (s.setCell (Y t 0) m):=Fr.set (S:=fun k=>k=t) (p:=⟨t,0,none⟩) (U _ _) (fun _=>rfl) m;have o:Fr (fun k=>k=t\/G.ownBlock=some k) y (s.setCell (Y t 0) m) :=
  (J.fr.mono (fun _ _=>.inr)).trans (C.mono (fun _ _=>.inl))
 have A:Fr (fun k=>k=t\/G.ownBlock=some k) w (s.setCell (Y t 0) m):=(Q.mono (fun _ _=>False.elim)).trans o;have a8:∀ k,m.ownBlock=some k->X.heap.size<=k:=by
  intro k i;rcases x k i with e|e
  .exact h.no k e
  .have:=j.fr.size;omega
 refine⟨?_,A,fun k i=>(x k i).imp id (fun e=>V)⟩;refine {h with
  co:=a1.set 0 m
  cm:=j.cm.fr o (fun e=>?_)
  old:=?_
  rG:=ze j.rG o (fun k i e=>?_)
  pN:=fun k i e=>?_
  tw:=fun p d=>(j.tw p d).fr o (fun e=>?_)
  sq:=fun p d=>ze (j.sq p d) o (fun k i e=>?_)
  n1:=?_
  tL:=?_
  no:=a8
  fr:=Fr.tk h.fr A (fun k i e=>?_)}
 .rcases e with e|e
  .exact h.ne e.symm
  .exact zh j.old j.cm O e
 .have e:ptrs (L++[f])=ptrs L++[E f 0]:=by simp[ptrs]
  rw[e,CN];exact ze J.sL C (fun k i e=>by subst e;exact zh J.sL a1 O i)
 .rcases e with e|e
  .subst e;exact zh j.rG j.co O i
  .exact h.pN k e i
 .rcases x k i with e'|e'
  .exact h.pN k e' e
  .have:=zF j.rG e;omega
 .rcases e with e|e
  .exact(j.tw p d).ne j.co O e
  .exact zh j.old (j.tw p d) O e
 .rcases e with e|e
  .subst e;exact zh (j.sq p d) j.co O i
  .exact Zf j.old (j.sq p d) O e i
 .rw[AR]
  refine⟨h.n1,bG,?_⟩;intro a R b hb;simp at hb;subst hb;intro e;subst e;exact hf R
 .intro g K
  rcases CV.1 K with K|K
  .exact h.tL g K
  .simp at K;subst K;exact hi
 .rcases e with e|e
  .have:=h.nbo;omega
  .have:=h.no k e;omega
theorem Twin.oh{X y s:World}{t r:Nat}{L:List Nat}{G vm l v8:Value}(h:Twin X w t r M L D G vm fV)(Q:Fr Nil w y){N:Nat}
 (a6:y.ownsRow 0 5 1 v8 (M.uV f).bytes.length (u8s (M.uV f).bytes))(T:∀ k,v8.ownBlock=some k->w.heap.size<=k)
 (a7:Blk y N [v8,I (M.uV f).uZ] 152)(b0:w.heap.size<=N)
 (J:App y vm 146 1 (D.length+1) (ptrs (D.map Prod.snd)++[E N 0]) l s) :
 Twin X (s.setCell (Y r 0) l) t r M L (D++[(f,N)]) G l (fun g=>if g=N then v8 else fV g)/\Fr (fun k=>k=r\/vm.ownBlock=some k) w (s.setCell (Y r 0) l) /\
  (∀ k,l.ownBlock=some k->vm.ownBlock=some k\/w.heap.size<=k):=by
 have j:=h.tW Q;have a9:=Q.size;have b1:=h.fr.size;have x:∀ k,l.ownBlock=some k->vm.ownBlock=some k\/y.heap.size<=k:=by
  exact Gn
 have a0:Blk s r [vm] 168:=j.cm.fr J.fr (zh j.rG j.cm O);have C:Fr (fun k=>k=r) s (s.setCell (Y r 0) l):=Fr.set (S:=fun k=>k=r) (p:=⟨r,0,none⟩) (U _ _) (fun _=>rfl) l;have o:Fr (fun k=>k=r\/vm.ownBlock=some k) y (s.setCell (Y r 0) l) :=
  (J.fr.mono (fun _ _=>.inr)).trans (C.mono (fun _ _=>.inl))
 have A:Fr (fun k=>k=r\/vm.ownBlock=some k) w (s.setCell (Y r 0) l):=(Q.mono (fun _ _=>False.elim)).trans o;have u:∀ p,p∈D->p.2≠N:=by
  intro p d e;have:=(h.tw p d).lt;omega
 have a5:∀ p,p∈D->∀ k,(fV p.2).ownBlock=some k->k<w.heap.size:=fun p d k i=>zF (h.sq p d) i;have a2:∀ {c:List Value} {g:Nat},Blk y g c 152->Blk (s.setCell (Y r 0) l) g c 152:=by
  intro c g K;refine K.fr o (fun e=>?_);rcases e with e|e
  .exact K.ne j.cm O e
  .exact zh j.rG K O e
 have a4:∀ {v:Value} {n:Nat} {xs:List Value},y.ownsRow 0 5 1 v n xs->(s.setCell (Y r 0) l).ownsRow 0 5 1 v n xs:=by
  intro v n xs hv;refine ze hv o (fun k i e=>?_);rcases e with e|e
  .subst e;exact zh hv j.cm O i
  .exact Zf j.rG hv O e i
 refine⟨?_,A,fun k i=>(x k i).imp id (fun e=>V)⟩;refine {h with
  co:=j.co.fr o (fun e=>?_)
  cm:=a0.set 0 l
  old:=ze j.old o (fun k i e=>?_)
  rG:=?_
  pN:=fun k i e=>?_
  tw:=fun p d=>?_
  sq:=fun p d=>?_
  rF:=fun p d q B a3 k i e=>?_
  n2:=?_
  nm:=fun k i=>?_
  nf:=fun p d=>?_
  nr:=fun p d k i=>?_
  fr:=Fr.tk h.fr A (fun k i e=>?_)}
 .rcases e with e|e
  .exact h.ne e
  .exact zh j.rG j.co O e
 .rcases e with e|e
  .subst e;exact zh j.old j.cm O i
  .exact h.pN k i e
 .have e:ptrs ((D++[(f,N)]).map Prod.snd)=ptrs (D.map Prod.snd)++[E N 0]:=by simp[ptrs]
  rw[e,CN];exact ze J.sL C (fun k i e=>by subst e;exact zh J.sL a0 O i)
 .rcases x k e with e'|e'
  .exact h.pN k i e'
  .have:=zF j.old i;omega
 .rcases CV.1 d with d|d
  .simp only[u p d,Aa]
   exact a2 (j.tw p d)
  .simp at d;subst d
   simp only[Ad];exact a2 a7
 .rcases CV.1 d with d|d
  .simp only[u p d,Aa]
   exact a4 (j.sq p d)
  .simp at d;subst d
   simp only[Ad];exact a4 a6
 .rcases CV.1 d with d|d <;> rcases CV.1 B with B|B
  .simp only[u p d,u q B,Aa] at i e
   exact h.rF p d q B a3 k i e
  .simp at B;subst B
   simp only[u p d,Aa] at i;simp only[Ad] at e;have:=a5 p d k i;have:=T k e;omega
  .simp at d;subst d
   simp only[u q B,Aa] at e;simp only[Ad] at i;have:=a5 q B k e;have:=T k i;omega
  .simp at d B;subst d;subst B
   exact a3 rfl
 .rw[Bq,AR]
  refine⟨h.n2,bG,?_⟩;intro a R b hb;simp at hb;subst hb;obtain⟨p,d,rfl⟩:=Bb.1 R;exact u p d
 .rcases x k i with e|e
  .exact h.nm k e
  .omega
 .rcases CV.1 d with d|d
  .exact h.nf p d
  .simp at d;subst d;show X.heap.size<=N;omega
 .rcases CV.1 d with d|d
  .simp only[u p d,Aa] at i
   exact h.nr p d k i
  .simp at d;subst d
   simp only[Ad] at i;have:=T k i;omega
 .rcases e with e|e
  .have:=h.nbm;omega
  .have:=h.nm k e;omega
def cnt:List Fact->Nat->Nat
 | [],_=>0
 | x::r,n=>if (Z5 (zx x)).length<=n then cnt r (n-(Z5 (zx x)).length)+1 else 0
theorem S3:∀(a:List Fact){n m:Nat},n<=m->cnt a n<=cnt a m
 | [],_,_,_=>CP _
 | x::r,n,m,h=>by
  unfold cnt;split
  .rw[Bl V]
   have:=S3 r (n:=n-(Z5 (zx x)).length) (m:=m-(Z5 (zx x)).length) V;omega
  .exact Bg _
theorem UY:∀(a:List Fact)(n:Nat),cnt a n<=a.length
 | [],_=>CP _
 | x::r,n=>by
  unfold cnt;split
  .have:=UY r (n-(Z5 (zx x)).length)
   rw[Bh];omega
  .exact Bg _
theorem LH:∀(b a:List Fact)(n:Nat),cnt b n<=cnt (b++a) n
 | [],_,_=>Bg _
 | x::r,a,n=>by
  rw[CZ];unfold cnt;split
  .have:=LH r a (n-(Z5 (zx x)).length)
   omega
  .exact CP _
theorem Ww(x:Fact)(r:List Fact):zK (x::r)=Z5 (zx x)++zK r:=by simp[zK]
theorem LI:∀(a:List Fact)(n:Nat),(zK a).length<=n->cnt a n=a.length
 | [],_,_=>rfl
 | x::r,n,h=>by
  rw[Ww,CN] at h;unfold cnt;rw[Bl V,LI r _ V,Bh]
theorem Gp{l:List UInt8}(h:Torn l)(n:Nat):Torn (l.take n):=by
 obtain⟨a,b,c,d⟩:=h;refine⟨a,(vg n l).trans b,fun e=>c ?_,d⟩;have g:=b.length_le;have f:=AB List.length e;rw[CR] at f;exact b.eq_of_length V
theorem Oz:∀(b:List Fact)(a:List UInt8)(n:Nat),(∀ x∈b,Yb x)->Torn a->∃ c,(zK b++a).take n=zK (b.take (cnt b n))++c/\Torn c
 | [],a,n,_,d=>⟨a.take n,by simp[zK,cnt],Gp d n⟩
 | x::r,a,n,f,d=>by
  unfold cnt;rw[Ww,Be];split
  .rename_i hle
   obtain⟨c,g,h⟩:=Oz r a (n-(Z5 (zx x)).length) (fun y i=>f y (CT _ i)) d;refine⟨c,?_,h⟩;rw[AF,Ww,ve,Bn hle,g,Be]
  .rename_i hgt
   refine⟨(Z5 (zx x)).take n,?_,zx x,vg _ _,fun e=>?_,(f x (CY ..)).2⟩
   .rw[BR V]
    simp[zK]
   .have:=AB List.length e
    rw[CR] at this;omega
def Xm(s:Seg)(n:Nat):Seg:=(s.1.take (cnt s.1 n),((ZI s).take n).drop (zK (s.1.take (cnt s.1 n))).length)
theorem TF(hs:V4 s)(n:Nat):ZI (Xm s n)=(ZI s).take n/\V4 (Xm s n):=by
 obtain⟨e,a,b⟩:=Oz s.1 s.2 n hs.1 hs.2;have c:((ZI s).take n).drop (zK (s.1.take (cnt s.1 n))).length=e:=by
  unfold ZI;rw[a,yB]
 unfold Xm;rw[c];exact⟨a.symm,fun x d=>hs.1 x (BN d),b⟩
theorem Xa:∀(a b:List Nat)(k:Nat),(∀ i (h:i<a.length),∃ c:i<b.length,a[i]<=b[i])->(a.take k).sum<=(b.take k).sum
 | [],_,_,_=>bG
 | x::a,b,0,_=>bG
 | x::a,[],k+1,h=>by obtain⟨c,_⟩:=h 0 bG;simp at c
 | x::a,y::b,k+1,h=>by
  obtain⟨_,d⟩:=h 0 bG;have:=Xa a b k (fun i g=>by
   obtain⟨e,f⟩:=h (i+1) (by simpa using g);exact⟨by simpa using e,by simpa using f⟩)
  simp only[AF,yf];simp only[AA] at d;omega
theorem P5(a:List Nat)(h:k<=m):(a.take k).sum<=(a.take m).sum:=by
 obtain⟨d,rfl⟩:=Nat.le.dest h;rw[List.take_add,yF];omega
theorem RE{n:Nat}(h:(ZI s).length<=n):cnt s.1 n=s.1.length:=LI s.1 n (by unfold ZI at h;rw[CN] at h;omega)
theorem Yj(c:(d.map Prod.fst).Nodup)(g:e∈d):d.sF e.1=some e.2:=by
 obtain⟨a,b,rfl⟩:=wE g;unfold Dir.sF;rw[vL,yY.2 (fun x h f=>?_),Option.none_or,wQ (p:=fun x:ByteArray × Nat=>x.1==e.1) (zY.2 rfl)]
 .rfl
 .rw[Bq,AR] at c
  exact c.2.2 _ (BW h) e.1 bG (zY.1 f)
theorem RF{D:Dir}(l:(D.map (·.2)).Nodup){a:ByteArray × Nat}(k:e∈D)(b:a∈D)(h:e.2=a.2):e=a:=by
 obtain⟨m,c,f⟩:=Bt.1 k;obtain⟨o,d,g⟩:=Bt.1 b;have i:(D.map (·.2))[m]' aY=(D.map (·.2))[o]' bB:=by simp[f,g,h]
 have j:=(uh l).1 i;subst j;rw[<- f,<- g]
theorem Qo{D:Dir}(q:(D.map Prod.fst).Nodup)(y:(D.map (·.2)).Nodup)(b:List Int)(a:Nat->FM){e:ByteArray × Nat}(r:e∈D):∀ k,k<=D.tT.length ->
 ((∃ i,∃ h:i<D.tT.length,i<k/\D.tT[i]=e.1)->∃ c,zz D b a k e.2=ZZ (a e.2) c)/\((∀ i (h:i<D.tT.length),i<k->D.tT[i]≠e.1)->zz D b a k e.2=a e.2)
 | 0,_=>⟨fun⟨i,_,h,_⟩=>absurd h (BF _),fun _=>rfl⟩
 | k+1,G=>by
  have B:=Ud D;have t:D.tT.Nodup:=B.nodup_iff.2 q;have hm:D.tT[k]∈D.map Prod.fst:=B.mem_iff.1 (CU _);obtain⟨v,f,j⟩:=Bb.1 hm;have A:Dir.sF D D.tT[k]=some v.2:=by rw[<- j];exact Yj q f
  obtain⟨u,g⟩:=Qo q y b a r k V;unfold zz;rw[CS V,wZ,A];simp only;by_cases d:e=v
  .subst d
   rw[Bl rfl];have m:=g (fun i o x p=>by
    have:=(uh t).1 (p.trans j);omega)
   rw[m];exact⟨fun _=>⟨_,rfl⟩,fun h=>absurd j.symm (h k V (Nat.lt_succ_self _))⟩
  .rw[CW (fun l=>d (RF y r f l))]
   have s:D.tT[k]≠e.1:=fun l=>d (by
    have m:=Yj q r;rw[<- l,A] at m;exact Prod.ext (l.symm.trans j.symm) (BA m).symm)
   refine⟨fun⟨i,o,x,p⟩=>u ⟨i,o,?_,p⟩,fun h=>g (fun i o x=>h i o V)⟩;by_cases C:i=k
   .subst C;exact absurd p s
   .omega
theorem Jd{D:Dir}(j:(D.map Prod.fst).Nodup)(h:(D.map (·.2)).Nodup)(b:List Int)(a:Nat->FM)(f:e∈D):∃ c,zz D b a D.tT.length e.2=ZZ (a e.2) c:=by
 have k:=Ud D;obtain⟨i,d,g⟩:=Bt.1 (k.mem_iff.2 (BW f));exact(Qo j h b a f _ (CP _)).1 ⟨i,d,d,g⟩
theorem OA(M:DM)(a:Int):M.rm a∈M.uZ::M.tB:=by
 unfold DM.rm;split
 .exact CY ..
 .rename_i h
  have:=XM a M.tB.length;refine CT _ ?_;rw[BS,CS V,Option.getD_some];exact CU _
end Go.Proofs.YtkhnggkkiefcdaaGreatDoor
