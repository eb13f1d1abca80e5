/- larder: joined texts -/
import Derived.Test.YtkhnggkkiefcdaaGreatDoorALAQ
namespace Go.Proofs.YtkhnggkkiefcdaaGreatDoor
open Go.RowKit Proofs.Tryz
set_option maxRecDepth 100000
set_option maxHeartbeats 8000000
def zg:ByteArray:=⟨#[110,101,119]⟩
def zt(b:Bool)(n:Nat):ByteArray:=zw (if b then Yq else zV) n
def ZX:Option (Bool × Nat)->ByteArray
 | none=>zg
 | some e=>zt e.1 e.2
theorem Wi(k:ByteArray)(n:Nat):(zw k n).data.toList=k.data.toList++Lib.decDigits n:=by
 simp only[zw,yG,yS,V3]
theorem OB(n:Nat):Lib.hasPrefix (zw Yq n).data.toList zV.data.toList=false/\Lib.atoi (zw Yq n).data.toList=none:=by
 have e:(zw Yq n).data.toList=98::97::115::101::Lib.decDigits n:=by
  rw[Wi]
  rfl
 rw[e];exact⟨rfl,rfl⟩
theorem Gq(n:Nat)(a:n<10^14):(zw Yq n).size<=18:=by
 have h:=V0 13 n a;have e:(zw Yq n).data.toList.length=4+(Lib.decDigits n).length:=by
  rw[Wi];simp[Yq];omega
 have b:(zw Yq n).size=(zw Yq n).data.toList.length:=bG
 omega
def Vr(a:List (Option (Bool × Nat)))(l:List (Nat × ByteArray)):Prop:=l.length<=a.length/\∀ e,e∈l↔∃ k n,some (k,n)∈a/\e=(n,zt k n)
def VR:Option (Bool × Nat)->Nat × Nat
 | none=>(0,0)
 | some (false,n)=>(n,0)
 | some (true,n)=>(0,n)
def Xe(a:List (Option (Bool × Nat))):List Nat:=a.filterMap fun c=>c.map (·.2)
theorem ST(c:Option (Bool × Nat))(d:∀ k n,c=some (k,n)->1<=n/\n<10^14)(w:World)(h:∀ b,Fr Nil w b->Tab b)(a:YE w) :
 (Calls prog 185 #[.string zV,.string (ZX c)] w fun e b=>e=.returned (I (VR c).1)/\Fr Nil w b) /\
   (Calls prog 185 #[.string Yq,.string (ZX c)] w fun e b=>e=.returned (I (VR c).2)/\Fr Nil w b):=by
 match c,d with
 | none,_=>exact⟨Xx zV zg rfl O rfl w a,Xx Yq zg rfl O rfl w a⟩
 | some (false,n),d =>
  obtain⟨f,g⟩:=d false n rfl;exact⟨UU zV O n f V w h,Xx Yq (zw zV n) (Og n).1 (FQ n V) (Og n).2 w a⟩
 | some (true,n),d =>
  obtain⟨f,g⟩:=d true n rfl;exact⟨Xx zV (zw Yq n) (OB n).1 (Gq n g) (OB n).2 w a,UU Yq O n f V w h⟩
theorem LJ{p:Prop}(h:p:=by
 rintro e w4 ⟨rfl,v',b3⟩;go_wp2_with fail;exact⟨⟨i+1,v',_,V,by go_num,b3⟩,by simp[intOf];omega⟩):p:=h
theorem Qp(b:Nat)(L:DL)(M:DM)(w:World)(h:DRep w b L M)(a:List (Option (Bool × Nat)))(hd:M.uX.tT=a.map ZX)(b5:M.uX.length=a.length)(s:(Xe a).Nodup)(hb:∀ k n,some (k,n)∈a->1<=n/\n<10^14)(c0:a.length<1000000000)
 (ht:∀ d,Fr Nil w d->Tab d)(G:YE w) :
 Calls prog 145 #[E b 0] w fun e d =>
  ∃ mb v l,e=.returned (E mb 0)/\Blk d mb [v] 263/\Vm d v l/\Vr a l/\w.heap.size<=mb/\(∀ k,v.ownBlock=some k->w.heap.size<=k)/\Fr Nil w d:=by
 have HL:=Z (fun t (f:Fr Nil w t)=>WW t b L M (h.fr f (fun _ _=>id)) V);rw[hd,b5] at HL;clear h;go_enter func145,ntmps145;go_wp2_with fail;have a9:Blk (w.alloc (.cells #[.slice none 0 0] 263)) w.heap.size [.slice none 0 0] 263:=Blk.new w [_] _;have K:Fr Nil w (w.alloc (.cells #[.slice none 0 0] 263)):=(U _ _).alloc _;generalize w.alloc (.cells #[.slice none 0 0] 263)=W0 at a9 K |-;refine(HL.o W0 K).mono ?_;rintro e w1 ⟨lv,rfl,a8,a1,c2⟩;have b8:=a9.fr a1 id;obtain⟨la,lc,rfl⟩:=zf a8;go_wp2_with fail;have HT:=Z ht;have c1:=Z G;have b4:=Z s;have HB:=Z hb;have HX:aa (∀ c∈a,∀ t,Fr Nil w t->(Calls prog 185 #[.string zV,.string (ZX c)] t fun e d=>e=.returned (I (VR c).1)/\Fr Nil t d) /\
  (Calls prog 185 #[.string Yq,.string (ZX c)] t fun e d=>e=.returned (I (VR c).2)/\Fr Nil t d)):=fun c hc t f =>
  ST c (fun k n e=>hb k n (e▸hc)) t (fun d f'=>ht d (f.trans f')) (G.fr f id)
 clear ht G s hb;have c3:=K.size;have c4:=a1.size
 go_loopw [12] (fun a4 d=>∃ (i:Nat) (v:Value) (l:List (Nat × ByteArray)),i<=a.length/\a4=I (i:Int)/\Blk d w.heap.size [v] 263/\Vm d v l/\Vr (a.take i) l/\(∀ k,v.ownBlock=some k->w.heap.size<=k)/\d.ownsRow 0 9 1 (.slice la a.length lc) a.length (strs (a.map ZX))/\Fr Nil w d) (fun a4 _=>(a.length-intOf a4).toNat)
 case atStart =>
  refine⟨0,_,[],V,rfl,b8,⟨⟨rfl,.inl ⟨rfl,rfl⟩⟩,?_⟩,⟨Bg _,bG⟩,fun k Q=>by simp[Value.ownBlock] at Q,a8,K.trans a1⟩;exact List.Pairwise.nil
 case round =>
  obtain⟨i,v,l,hi,rfl,hm,u,j,q,r,hf⟩:=hrel;by_cases N:i<a.length
  .obtain⟨g,cap',hg,_,_⟩:=zl r V
   obtain⟨rfl,rfl⟩:la=some (Y g 0)/\lc=cap':=by simpa using hg
   have hc:=own_cell? r i (.string (ZX a[i])) (by simp[strs,N]);have x:=CU N;have B:aa (a.take (i+1)=a.take i++[a[i]]):=by
    show a.take (i+1)=_;rw[yP,CS N];rfl
   have X:aa (∀ k n,a[i]=some (k,n)->n∉ZW l):=fun k n he Q=>by
    obtain⟨e,b6,a5⟩:=Bb.1 Q;obtain⟨R,n2,hn,rfl⟩:=(j.2 e).1 b6;simp only at a5;subst a5;have s:=b4.o;rw[<- Bo i a,BJ N,he] at s;unfold Xe at s;rw[List.filterMap_append,AR] at s;exact s.2.2 n2 (vH.2 ⟨_,hn,rfl⟩) n2 bG rfl
   have T:=Z (And.intro hm (And.intro u (And.intro j (And.intro q (And.intro r hf)))));have y:aa (∀ t k n,Fr Nil wr t->a[i]=some (k,n)->Calls prog 186 #[E w.heap.size 0,I (n:Int),.string (zt k n)] t fun e d =>
    e=.returned (.tuple #[])/\∃ v',(Blk d w.heap.size [v'] 263/\Vm d v' (WS l n (zt k n))/\Vr (a.take (i+1)) (WS l n (zt k n))/\(∀ k,v'.ownBlock=some k->w.heap.size<=k)/\d.ownsRow 0 9 1 (.slice (some (Y g 0)) a.length lc) a.length (strs (a.map ZX))/\Fr Nil w d)):=fun t k n f he=>by
    have D:=ze r f (fun _ _=>id);have b0:=hm.fr f id;have C:=u.fr f (fun _ _=>id);have c5:=(hf.trans f).size;refine(J6 v [] l n (zt k n) w.heap.size 263 t b0 O C (by have:=j.1;have:=List.length_take_le i a;omega) (G9 (X.o k n he))).mono ?_;rintro e w4 ⟨rfl,v',b9,a0,a7,a2⟩;refine⟨rfl,v',b9,a0,⟨?_,fun e=>?_⟩,fun k Q=>?_,ze D a7 (fun k Q e=>?_),?_⟩
    .have:=j.1
     rw[TC,B.o,CN,CQ];omega
    .rw[FP,B.o,j.2 e]
     constructor
     .rintro(⟨R,m,hm,rfl⟩|rfl)
      .exact⟨R,m,by simp only[CV];exact .inl hm,rfl⟩
      .exact⟨k,n,by simp[he],rfl⟩
     .rintro⟨R,m,hm,rfl⟩
      simp only[CV,CX] at hm;rcases hm with hm|hm
      .exact .inl ⟨R,m,hm,rfl⟩
      .rw[he] at hm;cases hm;exact .inr rfl
    .rcases a2 k Q with h1|h1
     .exact q k h1
     .omega
    .have h0:=zr D Q
     rcases e with rfl|e
     .exact absurd (Ty.inj h0 (Blk.ty b0)) O
     .exact absurd (Ty.inj h0 (zr C.sL e)) O
    .refine(hf.trans f).tk a7 (fun k Q e=>?_)
     rcases e with rfl|e
     .omega
     .have:=q k e;omega
   have J:aa (a[i]=none->Vr (a.take (i+1)) l):=fun he=>by
    refine⟨?_,fun e=>?_⟩
    .have:=j.1
     rw[B.o,CN,CQ];omega
    .rw[B.o,j.2 e]
     constructor
     .rintro⟨R,m,hm,rfl⟩
      exact⟨R,m,by simp only[CV];exact .inl hm,rfl⟩
     .rintro⟨R,m,hm,rfl⟩
      simp only[CV,CX] at hm;rcases hm with hm|hm
      .exact⟨R,m,hm,rfl⟩
      .rw[he] at hm;cases hm
   have A:aa (∀ k n,a[i]=some (k,n)->1<=n):=fun k n e=>(HB.o k n (e▸x)).1;clear hm u j q r hf;generalize a[i]=c at hc x X y J A B;clear B X;go_wp2_with fail;refine((HX.o c x wr T.o.2.2.2.2.2).1).mono ?_;rintro e w2 ⟨rfl,a6⟩;go_wp2_with fail;refine((HX.o c x w2 (T.o.2.2.2.2.2.trans a6)).2).mono ?_;rintro e w3 ⟨rfl,b7⟩;have o:=a6.trans b7
   match c,A,y,J with
   | none,_,_,J =>
    have b1:¬(0:Int)<0:=V
    simp only[VR];go_wp2_with fail;exact⟨⟨i+1,v,l,V,by go_num,T.o.1.fr o id,T.o.2.1.fr o (fun _ _=>id),J.o rfl,T.o.2.2.2.1,ze T.o.2.2.2.2.1 o (fun _ _=>id),T.o.2.2.2.2.2.trans o⟩,by simp[intOf];omega⟩
   | some (false,n),A,y,_ =>
    have b2:=A.o false n rfl;have a3:(0:Int)<n:=V
    have b1:¬(n:Int)<0:=V
    simp only[VR];go_wp2_with fail;refine(y.o w3 false n o rfl).mono ?_;exact LJ
   | some (true,n),A,y,_ =>
    have b2:=A.o true n rfl;have a3:(0:Int)<n:=V
    have b1:¬(n:Int)<0:=V
    simp only[VR];go_wp2_with fail;refine(y.o w3 true n o rfl).mono ?_;exact LJ
  .have hil:i=a.length:=V
   subst hil;go_wp2_with fail;go_ret;rw[Bj] at j;exact⟨_,v,l,rfl,hm,u,j,CP _,q,hf⟩
abbrev Ent:=Nat × Nat × Seg
structure Lay where
 F0:List Fact
 G:List Ent
 new:Option Nat
 sH:List (Bool × Nat × Nat)
 base:Option (Nat × Nat × List Fact)
 i:Nat
structure Dl where
 sH:List (Bool × Nat × Nat)
 base:Option (Nat × Nat × List Fact)
 i:Nat
 j:Nat
 new:Option Nat
variable{M:DM}{y y':Lay}{p t k g f:Nat}{D:Dir}{b:Nat × Nat × List Fact}{e:Ent}{G:List Ent}{c:ByteArray}
def Lay.z(y:Lay):Dl:=⟨y.sH,y.base,y.i,y.G.length,y.new⟩
def zv(G:List Ent):List Fact:=(G.map fun e=>e.2.2.1).flatten
def Lay.pre(y:Lay)(i:Nat):List Fact:=y.F0++zv (y.G.take i)
def Lay.F(y:Lay):List Fact:=y.F0++zv y.G
def Xn(e:Bool × Nat × Nat):ByteArray × Nat:=(zt e.1 e.2.1,e.2.2)
def YF(b:Nat × Nat × List Fact):ByteArray × Nat:=(zt true b.1,b.2.1)
def Y0(e:Ent):ByteArray × Nat:=(zt false e.1,e.2.1)
def Dl.uX(G:List Ent)(z:Dl):Dir:=z.sH.map Xn++z.base.toList.map YF++((G.take z.j).drop z.i).map Y0++z.new.toList.map fun f=>(zg,f)
theorem ZL(a b:List Ent):zv (a++b)=zv a++zv b:=by simp[zv]
theorem Ue(e:Ent):zv [e]=e.2.2.1:=by simp[zv]
theorem Xz(G:List Ent):(zv G).length=(G.map fun e=>e.2.2.1.length).sum:=by
 induction G with
 | nil=>rfl
 | cons e G a=>simp only[zv,Bw,yA,CN,yf] at a |-;rw[a]
theorem DD(y:Lay):y.pre y.G.length=y.F:=by unfold Lay.pre Lay.F;rw[Bj]
theorem YW(y:Lay)(i:Nat):y.pre i<+:y.F:=by
 unfold Lay.pre Lay.F;refine(xG _).2 ?_
 conv=>rhs;rw[<- Bo i y.G,ZL]
 exact xE _ _
structure Bas(M:DM)(y:Lay)(i j:Nat)(b:Nat × Nat × List Fact):Prop where
 lt:i<j
 qy:1<=b.1
 lo:∀ e∈y.G.take i,e.1<b.1
 hi:∀ e∈y.G.drop i,b.1<e.1
 bytes:(M.uV b.2.1).bytes=zK b.2.2
 uZ:(M.uV b.2.1).uZ=(M.uV b.2.1).bytes.length
 ny:∀ e∈y.G,e.2.1≠b.2.1
 new:y.new≠some b.2.1
 ok:∀ x∈b.2.2,Yb x
 held:b.2.2.foldl SM.enter SM.nil=(y.pre i).foldl SM.enter SM.nil
 rS:∀ k,((b.2.2.take k).foldl SM.enter SM.nil).uU.length<=32
 len:b.2.2.length<=(y.pre i).length+40
structure Snd(M:DM)(y:Lay)(D:Dir)(z:Dl):Prop where
 rJ:D.Perm (z.uX y.G)
 ij:z.i<=z.j
 j:z.j<=y.G.length
 low:∀ e∈z.sH,1<=e.2.1/\∃ b,z.base=some b/\e.2.1<b.1
 qF:(z.sH.map (·.2.1)).Nodup
 base:∀ b,z.base=some b->Bas M y z.i z.j b
 bare:z.base=none->z.i=0/\y.F0=[]
 rB:(D.map (·.2)).Nodup
 rA:∀ e∈D,e.2∈M.tL
def left(M:DM)(y:Lay)(j:Nat):Nat:=y.F0.length+((y.G.take j).map fun e=>cnt e.2.2.1 (M.uV e.2.1).uZ).sum
structure Lk(M:DM)(y:Lay)(p t k:Nat):Prop where
 bd:Bk M t k
 rp:y.G.Pairwise fun a b=>a.1<b.1
 qw:∀ e∈y.G,1<=e.1/\e.1<=2*t
 qL:(y.G.map (·.2.1)).Nodup
 qD:∀ e∈y.G,e.2.1∈M.tL
 rN:∀ e∈y.G,y.new≠some e.2.1
 bytes:∀ e∈y.G,(M.uV e.2.1).bytes=ZI e.2.2
 ok:∀ e∈y.G,V4 e.2.2
 le:∀ e∈y.G,(M.uV e.2.1).uZ<=(M.uV e.2.1).bytes.length
 sM:∀ e∈y.G.dropLast,(M.uV e.2.1).uZ=(M.uV e.2.1).bytes.length
 rS:∀ i,((y.F.take i).foldl SM.enter SM.nil).uU.length<=32
 fl:y.F.length<=t
 ri:Snd M y M.uX y.z
 re:∀ D∈M.uZ::M.tB,∃ z,Snd M y D z/\p<=left M y z.j
 pq:M.uX∈M.uZ::M.tB
 ru:∀ e∈y.G,∃ D∈M.uZ::M.tB,Y0 e∈D
abbrev Lg (M:DM)(y:Lay)(p t:Nat):Prop:=Lk M y p t 0
theorem Lk.tU{u:Nat}(h:Lk M y p t k)(a:t<=u):Lk M y p u k :=
 ⟨h.bd.tU a,h.rp,fun e b=>by have:=h.qw e b;omega,h.qL,h.qD,h.rN,h.bytes,h.ok,h.le,h.sM,h.rS,CO h.fl a,h.ri,h.re,h.pq,h.ru⟩
theorem Lk.pU{n:Nat}(h:Lk M y p t k)(a:k<=n):Lk M y p t n :=
 ⟨h.bd.pU a,h.rp,h.qw,h.qL,h.qD,h.rN,h.bytes,h.ok,h.le,h.sM,h.rS,h.fl,h.ri,h.re,h.pq,h.ru⟩
theorem Lk.pf(h:Lk M y p t k)(b:k<=1000000):Lg M y p (t+1) :=
 ⟨h.bd.pf b,h.rp,fun e a=>by have:=h.qw e a;omega,h.qL,h.qD,h.rN,h.bytes,h.ok,h.le,h.sM,h.rS,As h.fl,h.ri,h.re,h.pq,h.ru⟩
theorem Lk.qp(h:Lk M y p t k)(f:k<=2000000):Lg M y p (t+2) :=
 ⟨⟨h.bd.c0,by have:=h.bd.uS;omega,h.bd.f0,h.bd.fr,h.bd.rc,h.bd.r0,h.bd.r1,h.bd.part,fun g c=>by have:=h.bd.qH g c;omega,h.bd.qV,by have:=h.bd.qM;omega,h.bd.rA,h.bd.rB,by have:=h.bd.tB;omega,fun d a=>by have:=h.bd.sD d a;omega,by have:=h.bd.uX;omega⟩,h.rp,fun e b=>by have:=h.qw e b;omega,h.qL,h.qD,h.rN,h.bytes,h.ok,h.le,h.sM,h.rS,by have:=h.fl;omega,h.ri,h.re,h.pq,h.ru⟩
theorem Snd.mem{z:Dl}(h:Snd M y D z)(a:z.base=some b):YF b∈D:=by
 rw[h.rJ.mem_iff];unfold Dl.uX;rw[a];simp
theorem Snd.mh{z:Dl}(h:Snd M y D z)(a:z.base=some b):b.2.1∈M.tL:=h.rA _ (h.mem a)
theorem Snd.tw{a:DM}{z:Dl}(h:Snd M y D z)(i:∀ b,z.base=some b->a.uV b.2.1=M.uV b.2.1)(l:∀ g∈M.tL,g∈a.tL):Snd a y D z :=
 ⟨h.rJ,h.ij,h.j,h.low,h.qF,fun b c=>by
  have k:=h.base b c;exact⟨k.lt,k.qy,k.lo,k.hi,by rw[i b c];exact k.bytes,by rw[i b c];exact k.uZ,k.ny,k.new,k.ok,k.held,k.rS,k.len⟩,h.bare,h.rB,fun e j=>l _ (h.rA e j)⟩
theorem Snd.mj{z:Dl}(h:Snd M y D z)(c:y'.F0=y.F0)(a:y'.G=y.G)(f:∀ b,z.base=some b->y'.new≠some b.2.1):Snd M y' D z:=by
 have e:∀ i,y'.pre i=y.pre i:=fun i=>by unfold Lay.pre;rw[c,a]
 exact⟨by rw[a];exact h.rJ,h.ij,by rw[a];exact h.j,h.low,h.qF,fun b d=>by
  have k:=h.base b d;exact⟨k.lt,k.qy,by rw[a];exact k.lo,by rw[a];exact k.hi,k.bytes,k.uZ,by rw[a];exact k.ny,f b d,k.ok,by rw[e];exact k.held,k.rS,by rw[e];exact k.len⟩,by rw[c];exact h.bare,h.rB,h.rA⟩
structure Ext(y y':Lay):Prop where
 F0:y'.F0=y.F0
 key:y.G.map (fun e=>(e.1,e.2.1))<+:y'.G.map (fun e=>(e.1,e.2.1))
 rf:∀ i,i<y.G.length->zv (y'.G.take i)=zv (y.G.take i)
 pZ:∀ a∈y.G,∀ e∈y'.G.drop y.G.length,a.1<e.1
 new:y'.new=y.new
 sH:y'.sH=y.sH
 base:y'.base=y.base
 i:y'.i=y.i
theorem Ext.refl(y:Lay):Ext y y:=⟨rfl,List.prefix_refl _,fun _ _=>rfl,fun _ _ e a=>by simp at a,rfl,rfl,rfl,rfl⟩
theorem Ext.len(h:Ext y y'):y.G.length<=y'.G.length:=by
 have:=h.key.length_le
 simpa using this
theorem Ext.pre{a:Lay}(h:Ext y a){i:Nat}(b:i<y.G.length):a.pre i=y.pre i:=by
 unfold Lay.pre;rw[h.F0,h.rf i b]
theorem Ext.take(h:Ext y y'){j:Nat}(a:j<=y.G.length):(y'.G.take j).map (fun e=>(e.1,e.2.1))=(y.G.take j).map (fun e=>(e.1,e.2.1)):=by
 rw[Aj,Aj];obtain⟨r,c⟩:=h.key;rw[<- c,BR aQ]
theorem OC(G:List Ent):G.map Y0=(G.map fun e=>(e.1,e.2.1)).map fun e=>(zt false e.1,e.2):=by rw[Al];rfl
theorem Ext.uX(h:Ext y y')(z:Dl)(a:z.j<=y.G.length):z.uX y'.G=z.uX y.G:=by
 unfold Dl.uX;have:((y'.G.take z.j).drop z.i).map Y0=((y.G.take z.j).drop z.i).map Y0:=by
  rw[yz,yz,OC,OC,h.take a]
 rw[this]
theorem UZ{b:Lay}(h:Ext y b){i:Nat}(k:i<=y.G.length)(j:e∈b.G.take i):∃ a∈y.G.take i,a.1=e.1/\a.2.1=e.2.1:=by
 have d:(e.1,e.2.1)∈(b.G.take i).map fun e=>(e.1,e.2.1):=BW (f:=fun e:Ent=>(e.1,e.2.1)) j;rw[h.take k] at d;obtain⟨a,g,c⟩:=Bb.1 d;simp only[Ak] at c;exact⟨a,g,c⟩
theorem Snd.up{o:DM}{d:Lay}{z:Dl}(h:Snd M y D z)(c:Ext y d)(v:∀ b,z.base=some b->o.uV b.2.1=M.uV b.2.1)(G:∀ g∈M.tL,g∈o.tL)(hs:∀ e∈d.G.drop y.G.length,e.2.1∉M.tL):Snd o d D z:=by
 have J:=c.len;have x:=h.j;refine⟨by rw[c.uX z x];exact h.rJ,h.ij,CO x J,h.low,h.qF,fun b m=>?_,by rw[c.F0];exact h.bare,h.rB,fun e l=>G _ (h.rA e l)⟩;have k:=h.base b m;have K:=k.lt;have q:∀ e∈d.G.take z.i,e.1<b.1:=fun e l=>by
  obtain⟨a,C,A,_⟩:=UZ c V l;rw[<- A];exact k.lo a C
 have r:∀ e∈d.G,(∃ n,∃ j:n<y.G.length,∃ B:n<d.G.length,e=d.G[n]/\e.1=y.G[n].1/\e.2.1=y.G[n].2.1)\/e∈d.G.drop y.G.length:=fun e l=>by
  obtain⟨n,s,rfl⟩:=Bt.1 l;by_cases j:n<y.G.length
  .have:=c.key.getElem (i:=n) (by simpa using j)
   simp only[BB,Ak] at this;exact .inl ⟨n,j,s,rfl,this.1.symm,this.2.symm⟩
  .exact .inr (Bt.2 ⟨n-y.G.length,by rw[Bc];omega,by rw[Ac];congr 1;omega⟩)
 have p:∀ e∈d.G.drop z.i,b.1<e.1:=fun e l=>by
  obtain⟨n,s,rfl⟩:=Bt.1 l;rw[Bc] at s;rw[Ac];by_cases j:z.i+n<y.G.length
  .have:=c.key.getElem (i:=z.i+n) (by simpa using j)
   simp only[BB,Ak] at this;rw[<- this.1];exact k.hi _ (Bt.2 ⟨n,by rw[Bc];omega,by rw[Ac]⟩)
  .have B:z.i<y.G.length:=V
   have u:=k.hi y.G[z.i] (Bt.2 ⟨0,by rw[Bc];omega,by rw[Ac];rfl⟩);have L:=c.pZ y.G[z.i] (CU _) d.G[z.i+n] (Bt.2 ⟨z.i+n-y.G.length,by rw[Bc];omega,by rw[Ac];congr 1;omega⟩);omega
 exact⟨k.lt,k.qy,q,p,by rw[v b m];exact k.bytes,by rw[v b m];exact k.uZ,fun e l t=>by
  rcases r e l with⟨n,j,_,_,_,u⟩|j
  .exact k.ny _ (CU j) (u.symm.trans t)
  .exact hs e j (t▸h.mh m),by rw[c.new];exact k.new,k.ok,by rw[c.pre V];exact k.held,k.rS,by rw[c.pre V];exact k.len⟩
theorem T0{i j:Nat}(h:i<=j):left M y i<=left M y j:=by
 unfold left;have:=P5 (y.G.map fun e=>cnt e.2.2.1 (M.uV e.2.1).uZ) h;rw[<- Aj,<- Aj] at this;omega
theorem U4{a:DM}(g:y'.F0.length=y.F0.length)(h:∀ i (j:i<y.G.length),∃ b:i<y'.G.length,cnt y.G[i].2.2.1 (M.uV y.G[i].2.1).uZ<=cnt y'.G[i].2.2.1 (a.uV y'.G[i].2.1).uZ)(k:Nat):left M y k<=left a y' k:=by
 unfold left;have:=Xa (y.G.map fun e=>cnt e.2.2.1 (M.uV e.2.1).uZ) (y'.G.map fun e=>cnt e.2.2.1 (a.uV e.2.1).uZ) k (fun i d=>by
  obtain⟨b,c⟩:=h i bB;exact⟨by simpa using b,by simpa using c⟩)
 rw[<- Aj,<- Aj] at this;omega
def Tf(M:DM)(y:Lay):Prop:=∀ e∈y.G,(M.uV e.2.1).uZ=(M.uV e.2.1).bytes.length
theorem Tf.left(h:Tf M y)(b:Lk M y p t k)(j:Nat):left M y j=(y.pre j).length:=by
 unfold Go.Proofs.YtkhnggkkiefcdaaGreatDoor.left Lay.pre;rw[CN,Xz]
 congr 2
 refine yn fun e a=>?_;have hm:=BN a;rw[h e hm,b.bytes e hm];exact RE (CP _)
theorem Lk.sD(h:Lk M y p t k):p<=left M y y.G.length:=by
 obtain⟨z,b,a⟩:=h.re M.uZ (CY ..);exact CO a (T0 b.j)
theorem CC(j:Nat):left M y j<=y.F.length:=by
 refine CO ?_ (YW y j).length_le;unfold left Lay.pre;rw[CN,Xz];have:=Xa (y.G.map fun e=>cnt e.2.2.1 (M.uV e.2.1).uZ) (y.G.map fun e=>e.2.2.1.length) j (fun i b=>by
  have a:i<y.G.length:=by simpa using b
  refine⟨by simpa using a,?_⟩;rw[BB,BB];exact UY _ _)
 rw[<- Aj,<- Aj] at this;omega
theorem Lk.pz(h:Lk M y p t k):p<=y.F.length:=CO h.sD (CC _)
theorem Lk.same{a:DM}{u n:Nat}(h:Lk M y p t k)(q:Bk a u n)(s:t<=u)(j:a.uX=M.uX)(b:a.uV=M.uV)(c:a.tL=M.tL)(d:a.uZ=M.uZ)(f:a.tB=M.tB):Lk a y p u n where
 bd:=q
 rp:=h.rp
 qw:=fun e r=>by have:=h.qw e r;omega
 qL:=h.qL
 qD:=by rw[c];exact h.qD
 rN:=h.rN
 bytes:=by rw[b];exact h.bytes
 ok:=h.ok
 le:=by rw[b];exact h.le
 sM:=by rw[b];exact h.sM
 rS:=h.rS
 fl:=CO h.fl s
 ri:=by rw[j];exact h.ri.tw (fun _ _=>by rw[b]) (fun g i=>by rw[c];exact i)
 re:=fun D l=>by
  rw[d,f] at l;obtain⟨z,x,o⟩:=h.re D l;exact⟨z,x.tw (fun _ _=>by rw[b]) (fun g i=>by rw[c];exact i),by unfold left at o |-;rw[b];exact o⟩
 pq:=by rw[j,d,f];exact h.pq
 ru:=by rw[d,f];exact h.ru
theorem Lk.no(h:Lk M y p t k)(d:Bool):Lk (M.no d) y p t (k+1):=h.same (h.bd.no d) (CP _) rfl rfl rfl rfl rfl
theorem OD(M:DM)(f:Nat)(h:(M.uV g).uZ=(M.uV g).bytes.length):(M.qm f).uV g=M.uV g:=by
 show(if g=f then {M.uV f with uZ:=(M.uV f).bytes.length} else M.uV g:FM)=_;split
 .rename_i e;subst e;rw[<- h]
 .rfl
theorem Lk.qm(h:Lk M y p t k)(f:Nat):Lk (M.qm f) y p t (k+1):=by
 have c:∀ e∈y.G,(M.uV e.2.1).uZ<=((M.qm f).uV e.2.1).uZ:=fun e a=>by
  rw[Vp];split
  .rename_i e';rw[<- e'];exact h.le e a
  .exact CP _
 exact {
  bd:=h.bd.qm f
  rp:=h.rp
  qw:=h.qw
  qL:=h.qL
  qD:=h.qD
  rN:=h.rN
  bytes:=fun e a=>by rw[YA];exact h.bytes e a
  ok:=h.ok
  le:=fun e a=>by
   rw[Vp,YA];split
   .rename_i e';rw[e'];exact CP _
   .exact h.le e a
  sM:=fun e a=>by
   rw[Vp,YA];split
   .rename_i e';rw[e']
   .exact h.sM e a
  rS:=h.rS
  fl:=h.fl
  ri:=h.ri.tw (fun b d=>OD M f (h.ri.base b d).uZ) (fun _ g=>g)
  re:=fun D m=>by
   obtain⟨z,j,o⟩:=h.re D m;refine⟨z,j.tw (fun b d=>OD M f (j.base b d).uZ) (fun _ g=>g),CO o (U4 rfl (fun i l=>⟨l,S3 _ (c _ (CU _))⟩) _)⟩
  pq:=h.pq
  ru:=h.ru}
theorem Lk.oL(h:Lk M y p t k){a:Ent}(c:y.G=G++[a]):Tf (M.qm a.2.1) y:=fun e b=>by
 rw[Vp,YA];split
 .rename_i e';rw[e']
 .rename_i hne
  refine h.sM e ?_;rw[c] at b |-;rw[xV];rcases CV.1 b with x|x
  .exact x
  .rw[CX] at x;subst x;exact absurd rfl hne
def Lay.rr(y:Lay):Lay:={y with F0:=y.pre y.i,G:=y.G.drop y.i,i:=0}
theorem Lay.px(y:Lay):y.rr.F=y.F:=by
 show y.F0++zv (y.G.take y.i)++zv (y.G.drop y.i)=y.F0++zv y.G;rw[Be,<- ZL,Bo]
theorem Lay.qU(y:Lay)(n:Nat):y.rr.pre n=y.pre (y.i+n):=by
 show y.F0++zv (y.G.take y.i)++zv ((y.G.drop y.i).take n)=y.F0++zv (y.G.take (y.i+n));rw[Be,<- ZL,List.take_add]
theorem Lay.oz(y:Lay):y.rr.z.uX y.rr.G=y.z.uX y.G:=by
 unfold Dl.uX;show _++_++(((y.G.drop y.i).take (y.G.drop y.i).length).drop 0).map Y0++_=_++_++((y.G.take y.G.length).drop y.i).map Y0++_;rw[Bj,Bj,Au]
 rfl
theorem Snd.rr(h:Snd M y M.uX y.z):Snd M y.rr M.uX y.rr.z:=by
 have hm:∀ e∈y.rr.G,e∈y.G:=fun e a=>Bx a;refine⟨by rw[y.oz];exact h.rJ,Bg _,CP _,h.low,h.qF,fun b c=>?_,fun c=>?_,h.rB,h.rA⟩
 .have k:=h.base b c
  have f:y.i<y.G.length:=k.lt;refine⟨?_,k.qy,fun e a=>?_,fun e a=>k.hi e a,k.bytes,k.uZ,fun e a=>k.ny e (hm e a),k.new,k.ok,?_,k.rS,?_⟩
  .show 0<(y.G.drop y.i).length
   rw[Bc];omega
  .have he':e∈y.rr.G.take 0:=a
   rw[yC] at he';cases he'
  .have:=y.qU 0
   show _=(y.rr.pre 0).foldl SM.enter SM.nil;rw[this];exact k.held
  .show _<=(y.rr.pre 0).length+40
   rw[y.qU 0];exact k.len
 .obtain⟨h1,h2⟩:=h.bare c
  refine⟨rfl,?_⟩;have d:y.i=0:=h1;show y.pre y.i=[];rw[d];show y.F0++zv (y.G.take 0)=[];rw[h2]
  rfl
theorem Gr(M:DM)(y:Lay):left M y y.G.length<=left M y.rr y.rr.G.length:=by
 unfold left;show _<=(y.pre y.i).length+(((y.G.drop y.i).take (y.G.drop y.i).length).map _).sum;rw[Bj,Bj];have e:y.G=y.G.take y.i++y.G.drop y.i:=(Bo _ _).symm;have a:((y.G.take y.i).map fun e=>cnt e.2.2.1 (M.uV e.2.1).uZ).sum<=(zv (y.G.take y.i)).length:=by
  rw[Xz];have:=Xa ((y.G.take y.i).map fun e=>cnt e.2.2.1 (M.uV e.2.1).uZ) ((y.G.take y.i).map fun e=>e.2.2.1.length) ((y.G.take y.i).length) (fun i b=>by
   have a:i<(y.G.take y.i).length:=by simpa using b
   refine⟨by simpa using a,?_⟩;rw[BB,BB];exact UY _ _)
  rw[Bn (yE (Bm _)),Bn (yE (Bm _))] at this;exact this
 have c:(y.pre y.i).length=y.F0.length+(zv (y.G.take y.i)).length:=by unfold Lay.pre;rw[CN]
 have d:(y.G.map fun e=>cnt e.2.2.1 (M.uV e.2.1).uZ).sum=((y.G.take y.i).map fun e=>cnt e.2.2.1 (M.uV e.2.1).uZ).sum+((y.G.drop y.i).map fun e=>cnt e.2.2.1 (M.uV e.2.1).uZ).sum:=by
  rw[<- yF,<- Bq,Bo]
 omega
theorem Snd.pV{z:Dl}(h:Snd M y D z)(a:e∈(y.G.take z.j).drop z.i):Y0 e∈D:=by
 rw[h.rJ.mem_iff];unfold Dl.uX;simp only[CV,Bb];exact .inl (.inr ⟨e,a,rfl⟩)
theorem Lk.qu(h:Lk M y p t k){q:Nat}(l:q<=left M y y.G.length):Lk M.qu y.rr q t (k+1):=by
 have hm:∀ e∈y.rr.G,e∈y.G:=fun e a=>Bx a;have b:Snd M.qu y.rr M.uX y.rr.z:=h.ri.rr.tw (fun _ _=>rfl) (fun _ i=>i);have c:∀ D∈M.qu.uZ::M.qu.tB,D=M.uX:=fun D d=>by
  have f:D∈[M.uX]:=d;exact CX.1 f
 exact {
  bd:=h.bd.qu
  rp:=h.rp.sublist (xO _ _)
  qw:=fun e a=>h.qw e (hm e a)
  qL:=((xO y.i y.G).map fun e=>e.2.1).nodup h.qL
  qD:=fun e a=>h.qD e (hm e a)
  rN:=fun e a=>h.rN e (hm e a)
  bytes:=fun e a=>h.bytes e (hm e a)
  ok:=fun e a=>h.ok e (hm e a)
  le:=fun e a=>h.le e (hm e a)
  sM:=fun e a=>h.sM e (by
   have g:e∈(y.G.drop y.i).dropLast:=a;obtain⟨n,j,rfl⟩:=Bt.1 g;rw[xW,Bc] at j;refine Bt.2 ⟨y.i+n,by rw[xW];omega,?_⟩;rw[xL,xL];simp)
  rS:=by rw[Lay.px];exact h.rS
  fl:=by rw[Lay.px];exact h.fl
  ri:=b
  re:=fun D d=>by
   rw[c D d];exact⟨_,b,CO l (Gr M y)⟩
  pq:=CY ..
  ru:=fun e a=>⟨M.uX,CY ..,b.pV (by
   show e∈(y.rr.G.take y.rr.G.length).drop 0;rw[Bj,Au];exact a)⟩}
def Lay.add(y:Lay)(n f:Nat):Lay:={y with G:=y.G++[(n,f,([],[]))]}
theorem Lay.pY(y:Lay)(n f:Nat):(y.add n f).F=y.F:=by
 show y.F0++zv (y.G++[(n,f,([],[]))])=_;rw[ZL,Ue,Bz]
 rfl
theorem Ext.add(y:Lay)(n f:Nat)(j:∀ e∈y.G,e.1<n):Ext y (y.add n f) where
 F0:=rfl
 key:=by show _<+:(y.G++[_]).map _;rw[Bq];exact xE _ _
 rf:=fun i k=>by show zv ((y.G++[_]).take i)=_;rw[BR V]
 pZ:=fun a c e d=>by
  have b:e∈(y.G++[(n,f,([],[]))]).drop y.G.length:=d;rw[yB,CX] at b;subst b;exact j a c
 new:=rfl
 sH:=rfl
 base:=rfl
 i:=rfl
theorem Y1(M:DM)(a:ByteArray)(f:Nat)(r:Int)(d:Bool)(h:g≠f):(M.rL a f r d).uV g=M.uV g:=by
 show(if g=f then(⟨[],0⟩:FM) else M.uV g)=_;rw[CW h]
theorem S4(M:DM)(a:ByteArray)(f:Nat)(r:Int)(d:Bool):(M.rL a f r d).uV f=⟨[],0⟩:=by
 show(if f=f then(⟨[],0⟩:FM) else M.uV f)=_;rw[Bl rfl]
theorem Gs{p:Prop}(h:p:=by
 simp only[BC,CV,yX,ub] at b;rcases b with e|e|e
 .exact .inl (e▸CY ..)
 .exact .inl (CT _ e)
 .exact .inr e):p:=h
theorem OE{a:ByteArray}{r:Int}{d:Bool}(h:D∈(M.rL a f r d).uZ::(M.rL a f r d).tB):D∈M.uZ::M.tB\/D=M.uX++[(a,f)]:=by
 have b:D∈M.uZ::(M.tB++[M.uX++[(a,f)]]):=h;exact Gs
theorem OG(a:ByteArray)(f:Nat)(r:Int)(d:Bool)(h:D∈M.uZ::M.tB):D∈(M.rL a f r d).uZ::(M.rL a f r d).tB:=by
 show D∈M.uZ::(M.tB++[M.uX++[(a,f)]]);rcases BC.1 h with e|e
 .rw[e];exact CY ..
 .exact CT _ (yw _ e)
theorem Qq(h:Bk M t k)(m:f∉M.tL):((M.uX++[(c,f)]).map (·.2)).Nodup:=by
 exact Gf
theorem LK(h:Bk M t k):∀ e∈M.uX++[(c,f)],e.2∈f::M.tL:=fun e i=>by
 exact Gg
theorem Lk.rL(h:Lg M y p t)(K:Tf M y)(n f:Nat)(v:f∉M.tL)(X:1<=n)(R:∀ e∈y.G,e.1<n)(L:n<=2*(t+1))(N:y.new≠some f)(r:Int)(d:Bool)(C:M.uT<=r)(h2:r<=M.uT+1):Lg (M.rL (zt false n) f r d) (y.add n f) p (t+1):=by
 have q:=Ext.add y n f R;have j:∀ e∈y.G,e.2.1≠f:=fun e c x=>v (x▸h.qD e c);have J:(y.add n f).G.drop y.G.length=[(n,f,([],[]))]:=by show(y.G++[_]).drop _=_;rw[yB]
 have B:∀ {D z},Snd M y D z->Snd (M.rL (zt false n) f r d) (y.add n f) D z:=fun {D z} m =>
  m.up q (fun b l=>Y1 M _ f r d (fun e=>v (e▸m.mh l))) (fun g hg=>CT _ hg) (fun e c=>by rw[J,CX] at c;subst c;exact v)
 have Q:y.i<=y.G.length:=h.ri.ij;have A:∀ k,left M y k<=left (M.rL (zt false n) f r d) (y.add n f) k:=U4 rfl (fun i C=>by
  refine⟨by show i<(y.G++[_]).length;rw[CN];omega,?_⟩;have e:(y.add n f).G[i]'(by show i<(y.G++[_]).length;rw[CN];omega)=y.G[i]:=by
   show(y.G++[(n,f,([],[]))])[i]'_=_;rw[BE C]
  rw[e,Y1 M _ f r d (j _ (CU _))];exact CP _)
 have o:Snd (M.rL (zt false n) f r d) (y.add n f) (M.uX++[(zt false n,f)]) (y.add n f).z:=by
  have m:=B h.ri;refine⟨?_,CO h.ri.ij q.len,CP _,m.low,m.qF,fun b l=>?_,m.bare,Qq h.bd v,LK h.bd⟩
  .have hp:=h.ri.rJ
   have S:(y.add n f).z.uX (y.add n f).G=y.sH.map Xn++y.base.toList.map YF++((y.G.drop y.i).map Y0++[(zt false n,f)])++y.new.toList.map fun f=>(zg,f):=by
    show y.sH.map Xn++y.base.toList.map YF++(((y.G++[(n,f,([],[]))]).take (y.G++[(n,f,([],[]))]).length).drop y.i).map Y0++_=_;rw[Bj,yr Q,Bq];simp[Lay.add,Y0,Lay.z]
   have T:y.z.uX y.G=y.sH.map Xn++y.base.toList.map YF++(y.G.drop y.i).map Y0++y.new.toList.map fun f=>(zg,f):=by
    show y.sH.map Xn++y.base.toList.map YF++((y.G.take y.G.length).drop y.i).map Y0++_=_;rw[Bj]
    rfl
   rw[S];rw[T] at hp;refine(hp.append_right _).trans ?_;rw[<- Be,Be _ _ [(zt false n,f)],Be _ [(zt false n,f)] _];exact wW _ yH
  .have k:=m.base b l
   exact⟨Bv k.lt q.len,k.qy,k.lo,k.hi,k.bytes,k.uZ,k.ny,k.new,k.ok,k.held,k.rS,k.len⟩
 exact {
  bd:=Bd.rL h.bd _ f v r d C h2
  rp:=by
   show(y.G++[_]).Pairwise _;rw[AW];exact⟨h.rp,List.pairwise_singleton _ _,fun a G b l=>by rw[CX] at l;subst l;exact R a G⟩
  qw:=fun e c=>by
   rcases CV.1 c with c|c
   .have:=h.qw e c;omega
   .rw[CX] at c;subst c;exact⟨X,L⟩
  qL:=by
   show((y.G++[(n,f,([],[]))]).map (fun e:Ent=>e.2.1)).Nodup;rw[Bq,AR];refine⟨h.qL,bG,fun a G b l e=>?_⟩;simp only[Bw,AE,CX] at l;obtain⟨x,q,rfl⟩:=Bb.1 G;exact j x q (e.trans l)
  qD:=fun e c=>by
   rcases CV.1 c with c|c
   .exact CT _ (h.qD e c)
   .rw[CX] at c;subst c;exact CY ..
  rN:=fun e c=>by
   rcases CV.1 c with c|c
   .exact h.rN e c
   .rw[CX] at c;subst c;exact N
  bytes:=fun e c=>by
   rcases CV.1 c with c|c
   .rw[Y1 M _ f r d (j e c)];exact h.bytes e c
   .rw[CX] at c;subst c;rw[S4];rfl
  ok:=fun e c=>by
   rcases CV.1 c with c|c
   .exact h.ok e c
   .rw[CX] at c;subst c;exact⟨(fun x q=>by cases q),TX⟩
  le:=fun e c=>by
   rcases CV.1 c with c|c
   .rw[Y1 M _ f r d (j e c)];exact h.le e c
   .rw[CX] at c;subst c;rw[S4];exact CP _
  sM:=fun e c=>by
   have s:e∈(y.G++[(n,f,([],[]))]).dropLast:=c;rw[xV] at s;rw[Y1 M _ f r d (j e s)];exact K e s
  rS:=by rw[Lay.pY];exact h.rS
  fl:=by rw[Lay.pY];exact As h.fl
  ri:=o
  re:=fun D u=>by
   rcases OE u with u|rfl
   .obtain⟨z,m,hp⟩:=h.re D u
    exact⟨z,B m,CO hp (A _)⟩
   .exact⟨_,o,CO h.sD (CO (A _) (T0 q.len))⟩
  pq:=CT _ (yt _ (CX.2 rfl))
  ru:=fun e c=>by
   rcases CV.1 c with c|c
   .obtain⟨D,u,h3⟩:=h.ru e c
    exact⟨D,OG _ _ _ _ u,h3⟩
   .rw[CX] at c
    subst c;exact⟨_,CT _ (yt _ (CX.2 rfl)),yt _ (CX.2 rfl)⟩}
theorem Lk.rl(h:Lg M y p t)(C:y.new=none)(f:Nat)(o:f∉M.tL)(r:Int)(d:Bool)(A:M.uT<=r)(G:r<=M.uT+1):Lg (M.rL zg f r d) {y with new:=some f} p (t+1):=by
 have j:∀ e∈y.G,e.2.1≠f:=fun e a x=>o (x▸h.qD e a);have s:∀ {D z},Snd M y D z->Snd (M.rL zg f r d) {y with new:=some f} D z:=fun {D z} c =>
  (c.mj (y':={y with new:=some f}) rfl rfl (fun b B e=>o (by have:=c.mh B;simp only[BZ] at e;rw[e];exact this))).tw (fun b B=>Y1 M _ f r d (fun e=>o (e▸c.mh B))) (fun g K=>CT _ K)
 have q:∀ k,left M y k<=left (M.rL zg f r d) {y with new:=some f} k:=U4 rfl (fun i A=>⟨A,by
  rw[Y1 M _ f r d (j _ (CU _))];exact CP _⟩)
 have l:Snd (M.rL zg f r d) {y with new:=some f} (M.uX++[(zg,f)]) ({y with new:=some f}:Lay).z:=by
  have c:=s h.ri;refine⟨?_,c.ij,c.j,c.low,c.qF,c.base,c.bare,Qq h.bd o,LK h.bd⟩;have v:=h.ri.rJ;have u:y.z.uX y.G=y.sH.map Xn++y.base.toList.map YF++((y.G.take y.G.length).drop y.i).map Y0++y.new.toList.map fun f=>(zg,f):=rfl;rw[u,C,Option.toList_none,AE,Bz] at v;exact v.append_right _
 exact {
  bd:=Bd.rL h.bd _ f o r d A G
  rp:=h.rp
  qw:=fun e a=>by have:=h.qw e a;omega
  qL:=h.qL
  qD:=fun e a=>CT _ (h.qD e a)
  rN:=fun e a u=>by simp only[BZ] at u;exact j e a u.symm
  bytes:=fun e a=>by rw[Y1 M _ f r d (j e a)];exact h.bytes e a
  ok:=h.ok
  le:=fun e a=>by rw[Y1 M _ f r d (j e a)];exact h.le e a
  sM:=fun e a=>by rw[Y1 M _ f r d (j e (xh _ a))];exact h.sM e a
  rS:=h.rS
  fl:=As h.fl
  ri:=l
  re:=fun D m=>by
   rcases OE m with m|rfl
   .obtain⟨z,c,v⟩:=h.re D m
    exact⟨z,s c,CO v (q _)⟩
   .exact⟨_,l,CO h.sD (q _)⟩
  pq:=CT _ (yt _ (CX.2 rfl))
  ru:=fun e a=>by
   obtain⟨D,m,J⟩:=h.ru e a;exact⟨D,OG _ _ _ _ m,J⟩}
theorem XN(M:DM)(f:Nat)(l:List UInt8)(r u:Int)(d:Bool)(h:g≠f):(M.put f l r u d).uV g=M.uV g:=by
 show(if g=f then {M.uV f with bytes:=(M.uV f).bytes++l} else M.uV g:FM)=_;rw[CW h]
theorem Ext.tu{g:Lay}{n:Nat}{s j:Seg}(c:y.G=G++[(n,f,s)])(b:g={y with G:=G++[(n,f,j)]}):Ext y g where
 F0:=by rw[b]
 key:=by rw[b,c];simp
 rf:=fun i h=>by
  rw[c,CN,CQ] at h;rw[b,c];simp only;rw[BR V,BR V]
 pZ:=fun a k e d=>by
  rw[b,c] at d;simp only at d;rw[BT bG] at d;cases d
 new:=by rw[b]
 sH:=by rw[b]
 base:=by rw[b]
 i:=by rw[b]
theorem Lk.put{A:Lay}{n:Nat}{s C:Seg}(h:Lg M y p t)(q:y.G=G++[(n,f,s)])(hy:A={y with G:=G++[(n,f,C)]})(l:List UInt8)(a0:l.length<=2000)(r u:Int)(d:Bool)
 (R:M.uT<=r)(h2:r<=M.uT+1)(h3:M.tr<=u)(h4:u-M.tr<=r-M.uT)(J:(M.uV f).bytes++l=ZI C)(a1:V4 C)(hc:∀ n,cnt s.1 n<=cnt C.1 n)
 (L:∀ i,((A.F.take i).foldl SM.enter SM.nil).uU.length<=32)(a2:A.F.length<=y.F.length+1):Lg (M.put f l r u d) A p (t+1):=by
 have T:Ext y A:=Ext.tu q hy;have o:A.G=G++[(n,f,C)]:=by rw[hy]
 have hm:((n,f,s):Ent)∈y.G:=by rw[q];simp
 have k:∀ e∈G,e∈y.G:=fun e c=>by rw[q];exact yw _ c
 have B:∀ e∈G,e.2.1≠f:=fun e c x=>by
  have:=h.qL;rw[q,Bq,AR] at this;exact this.2.2 _ (BW (f:=fun e:Ent=>e.2.1) c) f bG x
 have Q:∀ {D z},Snd M y D z->Snd (M.put f l r u d) A D z:=fun {D z} K =>
  K.up T (fun b J=>XN M f l r u d (fun e=>(K.base b J).ny _ hm e.symm)) (fun g hg=>hg) (fun e c=>by
   rw[o,q,BT bG] at c;cases c)
 have K:A.z=y.z:=by rw[hy];unfold Lay.z;rw[q];simp
 have j:∀ e∈A.G,e∈G\/e=(n,f,C):=fun e c=>by
  rw[o] at c;rcases CV.1 c with x|x
  .exact .inl x
  .exact .inr (CX.1 x)
 exact {
  bd:=Bd.put h.bd f l a0 r u d R h2 h3 h4
  rp:=by
   have:=h.rp;rw[q,AW] at this;rw[o,AW];exact⟨this.1,List.pairwise_singleton _ _,fun a ha b J=>by rw[CX] at J;subst J;exact this.2.2 a ha (n,f,s) bG⟩
  qw:=fun e c=>by
   rcases j e c with x|rfl
   .have:=h.qw e (k e x);omega
   .have:=h.qw _ hm;simp only at this |-;omega
  qL:=by
   have:=h.qL;rw[q] at this;rw[o]
   simpa using this
  qD:=fun e c=>by
   rcases j e c with x|rfl
   .exact h.qD e (k e x)
   .exact h.qD (n,f,s) hm
  rN:=fun e c=>by
   rw[T.new];rcases j e c with x|rfl
   .exact h.rN e (k e x)
   .exact h.rN (n,f,s) hm
  bytes:=fun e c=>by
   rcases j e c with x|rfl
   .rw[YS,CW (B e x)];exact h.bytes e (k e x)
   .rw[YS,Bl rfl];exact J
  ok:=fun e c=>by
   rcases j e c with x|rfl
   .exact h.ok e (k e x)
   .exact a1
  le:=fun e c=>by
   rw[TY,YS];rcases j e c with x|rfl
   .rw[CW (B e x)];exact h.le e (k e x)
   .have:=h.le _ hm
    rw[Bl rfl,CN];simp only at this |-;omega
  sM:=fun e c=>by
   rw[o,xV] at c;rw[TY,YS,CW (B e c)];exact h.sM e (by rw[q,xV];exact c)
  rS:=L
  fl:=by have:=h.fl;omega
  ri:=by
   rw[K];exact Q h.ri
  re:=fun D hD=>by
   obtain⟨z,K,hp⟩:=h.re D hD;refine⟨z,Q K,CO hp (U4 (by rw[T.F0]) (fun i R=>?_) _)⟩;have h2:i<A.G.length:=Bv R T.len;refine⟨h2,?_⟩;rw[TY];by_cases hi:i<G.length
   .have X:y.G[i]=G[i]:=by simp only[q,BE hi]
    have e2:A.G[i]=G[i]:=by simp only[o,BE hi]
    rw[X,e2];exact CP _
   .have hi2:i=G.length:=by rw[q,CN,CQ] at R;omega
    subst hi2;have X:y.G[G.length]=(n,f,s):=by simp only[q,List.getElem_concat_length]
    have e2:A.G[G.length]=(n,f,C):=by simp only[o,List.getElem_concat_length]
    rw[X,e2];exact hc _
  pq:=h.pq
  ru:=fun e c=>by
   rcases j e c with x|rfl
   .exact h.ru e (k e x)
   .exact h.ru (n,f,s) hm}
theorem Lk.so(h:Lk M y p t k)(s:y.new=some f)(l:List UInt8)(q:(M.uV f).bytes.length+l.length<=2000*(t+100))(r u:Int)(d:Bool)
 (o:M.uT<=r)(v:r<=M.uT+1)(A:M.tr<=u)(B:u-M.tr<=r-M.uT):Lk (M.put f l r u d) y p t (k+1):=by
 have c:∀ e∈y.G,e.2.1≠f:=fun e a x=>h.rN e a (by rw[s,x]);have j:∀ {D z},Snd M y D z->Snd (M.put f l r u d) y D z:=fun {D z} m =>
  m.tw (fun b G=>XN M f l r u d (fun e=>(m.base b G).new (by rw[s,e]))) (fun g J=>J)
 exact {
  bd:=h.bd.put f l (fun _=>q) r u d o v A B
  rp:=h.rp
  qw:=h.qw
  qL:=h.qL
  qD:=h.qD
  rN:=h.rN
  bytes:=fun e a=>by rw[XN M f l r u d (c e a)];exact h.bytes e a
  ok:=h.ok
  le:=fun e a=>by rw[XN M f l r u d (c e a)];exact h.le e a
  sM:=fun e a=>by rw[XN M f l r u d (c e (xh _ a))];exact h.sM e a
  rS:=h.rS
  fl:=h.fl
  ri:=j h.ri
  re:=fun D C=>by
   obtain⟨z,m,K⟩:=h.re D C;refine⟨z,j m,CO K (U4 rfl (fun i o=>⟨o,?_⟩) _)⟩;rw[XN M f l r u d (c _ (CU _))];exact CP _
  pq:=h.pq
  ru:=h.ru}
end Go.Proofs.YtkhnggkkiefcdaaGreatDoor
namespace Go.Proofs.YtkhnggkkiefcdaaGreatDoor
open Go.RowKit Go.Shelf Proofs.Tryz
set_option maxRecDepth 100000
set_option maxHeartbeats 8000000
variable{p:Prop}
attribute [local go_sem] ye
def YZ(s:List ByteArray × List ByteArray)(e:Bool × Nat):List ByteArray × List ByteArray:=if e.1=true then(s.1++s.2,[zt e.1 e.2]) else(s.1,s.2++[zt e.1 e.2])
def spK(a:List (Bool × Nat)):List ByteArray × List ByteArray:=a.foldl YZ ([],[])
theorem FY(a:List (Bool × Nat))(e:Bool × Nat):spK (a++[e])=YZ (spK a) e:=by unfold spK;rw[BM];rfl
theorem LL(a:List (Bool × Nat)):(spK a).1.length+(spK a).2.length=a.length:=by
 have h:∀ (a:List (Bool × Nat)) (s:List ByteArray × List ByteArray),(a.foldl YZ s).1.length+(a.foldl YZ s).2.length=s.1.length+s.2.length+a.length:=by
  intro a
  induction a with
  | nil=>intro s;rfl
  | cons e a b =>
   intro s;rw[BX,b,Bh];unfold YZ;split
   .simp only[CN,CQ];omega
   .simp only[CN,CQ];omega
 have:=h a ([],[]);unfold spK
 simpa using this
structure Vs(cs:List (Option (Bool × Nat)))(ks:List (Bool × Nat)):Prop where
 mem:∀ e,e∈ks↔some e∈cs
 rp:ks.Pairwise fun a b=>a.2<b.2
def ZF(e:Bool × Nat):Nat × ByteArray:=(e.2,zt e.1 e.2)
theorem Uf(n m:Nat):zt false n≠zt true m:=fun h=>by
 have a:=AB (fun b:ByteArray=>b.data.toList) h;simp only[zt,Wi] at a;cases a
theorem XD(k:Bool)(n:Nat):zt k n≠zg:=fun h=>by
 have a:=AB (fun b:ByteArray=>b.data.toList) h;simp only[zt,Wi] at a;cases k <;> cases a
theorem Qr{k b:Bool}{n a:Nat}(h:zt k n=zt b a):k=b/\n=a:=by
 cases k <;> cases b
 .exact⟨rfl,Qg h⟩
 .exact absurd h (Uf n a)
 .exact absurd h.symm (Uf a n)
 .exact⟨rfl,Qg h⟩
theorem LN{d:List (Option (Bool × Nat))}{l:List (Nat × ByteArray)}(h:Vr d l)(q:Asc Z0 (ZW l)):∃ m,Vs d m/\l=m.map ZF:=by
 have j:l=(l.map fun e=>(decide (e.2=zt true e.1),e.1)).map ZF:=by
  rw[Al]
  conv=>lhs;rw[<- List.map_id l]
  refine yn fun e c=>?_;obtain⟨k,n,_,rfl⟩:=(h.2 e).1 c;show(n,zt k n)=(n,zt (decide (zt k n=zt true n)) n);cases k
  .rw[yd (Uf n n)]
  .rw[yZ rfl]
 refine⟨_,⟨fun e=>?_,?_⟩,j⟩
 .have hm:∀ e:Bool × Nat,ZF e∈l↔some e∈d:=fun e=>by
   rw[h.2]
   constructor
   .rintro⟨k,n,hc,c⟩
    unfold ZF at c;simp only[Ak] at c;obtain⟨f,o⟩:=c;obtain⟨g,i⟩:=Qr o;obtain⟨a,b⟩:=e;simp only at g i;rw[g,i];exact hc
   .intro hc
    exact⟨e.1,e.2,hc,rfl⟩
  constructor
  .intro c
   refine(hm e).1 ?_;rw[j];exact BW c
  .intro hc
   have:=(hm e).2 hc;refine Bb.2 ⟨ZF e,this,?_⟩;obtain⟨a,b⟩:=e;show(decide (zt a b=zt true b),b)=(a,b);cases a
   .rw[yd (Uf b b)]
   .rw[yZ rfl]
 .have f:(l.map Prod.fst).Pairwise (fun x y=>Z0 x y=true):=q
  rw[Ao] at f;rw[Ao];exact f.imp fun h=>by simpa [Z0] using h
def SpI(w:World)(v:Value)(l:List (Nat × ByteArray))(a:List (Bool × Nat))(i:Nat)(W:World):Prop :=
 ∃ c b,(Blk W w.heap.size [c] 91/\Blk W (w.heap.size+1) [b] 91/\W.ownsRow 0 9 1 c (spK (a.take i)).1.length (strs (spK (a.take i)).1)/\W.ownsRow 0 9 1 b (spK (a.take i)).2.length (strs (spK (a.take i)).2)) /\
  ((∀ k,c.ownBlock=some k->w.heap.size<=k/\b.ownBlock≠some k)/\(∀ k,b.ownBlock=some k->w.heap.size<=k))/\Fr Nil w W/\W.ownsRow 0 268 2 v l.length (ZE l)
theorem DE(w:World)(v:Value)(l:List (Nat × ByteArray))(t:List (Bool × Nat))(B:Nat)(A:w.heap.size<=B):OwnFrom B (SpI w v l t):=by
 intro i W y row h s o;have f:=Fr.sB s;have b:Odd (fun k=>row=some k) W:=fun k e=>(o k e).2;obtain⟨x,u,⟨c,d,g,j⟩,q,r,m⟩:=h;exact⟨x,u,⟨c.fr f (c.ty.qK b),d.fr f (d.ty.qK b),ze g f (fun k a=>(zr g a).qK b),ze j f (fun k a=>(zr j a).qK b)⟩,q,r.tk f (fun k a e=>by have:=(o k e).1;omega),ze m f (fun k a=>(zr m a).qK b)⟩
theorem DF(h:p:=by
 have s:=Z (And.intro F5 (And.intro c0 a5));clear hf F5 c0 a5 a0 f0 g4
 gi_wp2_with fail
 refine⟨bG,.inl ⟨_,_,rfl,wo s.o.2.1,?_⟩⟩;have fP:=Fr.sB (vr w5 D (.deferred none));have d6:Odd (fun k=>some D=some k) w5:=fun k e=>by cases e;exact⟨_,s.o.2.1,rfl⟩
 refine⟨_,uF rfl _ _ _,C,rfl,g,d8.o,?_,s.o.1.tk fP (fun k hk e=>by cases e;omega),B.o.2.2.1⟩;exact ze s.o.2.2 fP (fun k hk=>(zr s.o.2.2 hk).qK d6)):p:=h
theorem DG(h:p:=by
 have s:=Z (And.intro F5 (And.intro c0 (And.intro a5 a0)));have h7:(spK g).1.length<1000000000:=by have:=X.o.1;omega
 have b4:C.ownBlock≠some w.heap.size:=fun e=>zh a5 a0 O e;have i5:=a0.lt;have fa:Fr Nil w5 (w5.alloc (.cells #[.string zg] 9)):=(U _ _).alloc _;clear hf F5 c0 a0 f0 g4;unfold zg at fa
 gi_wp2_with (gi_at_builtin;go_must (refine Wd rfl _ _ _ _ rfl C (.slice (some (Y w5.heap.size 0)) 1 1) bH bH (zq 91 91 9 1 16 yp XI O C (spK g).1.length (strs (spK g).1) (ze a5 fa (fun _ _=>id)) ⟨w5.heap.size,0,none⟩ 1 1 [.string ⟨#[110,101,119]⟩] rfl (YQ w5 _ _ _ rfl) aA ac V) ?_;intro v6 w6 a;obtain⟨a9,Q,rfl⟩:=zf a.sL;have f6:Fr (fun k=>C.ownBlock=some k) w5 w6:=(fa.mono (S':=fun k=>C.ownBlock=some k) (fun _ _ e=>absurd e id)).trans a.fr;have b6:=s.o.2.2.2.fr f6 b4;have c6:=b6.cell 0;have z6:=b6.frozen 0))
 have f7:Fr (fun k=>k=w.heap.size) w6 (w6.setCell (Y w.heap.size 0) (.slice a9 ((spK g).1.length+1) Q)):=Fr.set (S:=fun k=>k=w.heap.size) (p:=⟨w.heap.size,0,none⟩) (U _ _) (fun _=>rfl) _;have h5:D≠w.heap.size:=V
 have i1:C.ownBlock≠some D:=fun e=>by
  have:=(zr a5 e).qK (S:=fun k=>k=D) (fun k e=>by subst e;exact⟨_,s.o.2.1,rfl⟩);exact this rfl
 have e7:=(f7.block D (by have:=(Ae.1 s.o.2.1).1;have:=f6.size;omega) h5).trans ((f6.block D (Ae.1 s.o.2.1).1 i1).trans s.o.2.1);have g5:=ze a.sL f7 (fun j d e=>zh a.sL b6 O (e▸d));have F7:Fr Nil w (w6.setCell (Y w.heap.size 0) (.slice a9 ((spK g).1.length+1) Q)):=(s.o.1.tk f6 (fun j d e=>by have:=B.o.2.2.1 j e;omega)).tk f7 (fun j d e=>V);have h6:=a.qN;have j9:=s.o.1.size;have e9:=b6.set 0 (.slice a9 ((spK g).1.length+1) Q);have c7:=e9.cell 0;have a8:=Z (And.intro e7 (And.intro g5 F7));clear e7 g5 F7 f7 f6 a b6 c6 z6 e9
 gi_wp2_with fail
 refine⟨bG,.inl ⟨_,_,rfl,wo a8.o.1,?_⟩⟩;have fP:=Fr.sB (vr (w6.setCell (Y w.heap.size 0) (.slice a9 ((spK g).1.length+1) Q)) D (.deferred none));have d6:Odd (fun k=>some D=some k) (w6.setCell (Y w.heap.size 0) (.slice a9 ((spK g).1.length+1) Q)):=fun k e=>by cases e;exact⟨_,a8.o.1,rfl⟩
 refine⟨_,uF rfl _ _ _,_,rfl,g,d8.o,?_,a8.o.2.2.tk fP (fun k hk e=>by cases e;omega),fun j d=>?_⟩
 .have:=ze a8.o.2.1 fP (fun k hk=>(zr a8.o.2.1 hk).qK d6)
  simpa [strs,zg] using this
 .rcases h6 with e|e
  .exact B.o.2.2.1 j (e.symm.trans d)
  .have hj2:=e.symm.trans d
   simp at hj2;omega):p:=h
theorem LO(h:p:=by
 have i7:=Z hn;clear hn c4
 gi_wp2_with fail
 refine⟨trivial,?_⟩;refine(An.2 HC.o).mono ?_;rintro e w5 ⟨rfl,hf⟩;have a0:=(B.o.1.fr a7.o id).fr hf id;have j0:=a0.cell 0;have k1:=a0.frozen 0;have F5:=B.o.2.2.2.1.trans (a7.o.trans hf);have c0:=(hf.block D (by have:=(Ae.1 B.o.2.2.2.2).1;have:=a7.o.size;omega) id).trans ((a7.o.block D (Ae.1 B.o.2.2.2.2).1 id).trans B.o.2.2.2.2);have a5:=ze (ze B.o.2.1 a7.o (fun _ _=>id)) hf (fun _ _=>id)
 first
  | (clear i2;exact DG)
  | exact DF):p:=h
theorem Gt(b:Nat)(L:DL)(M:DM)(w:World)(h:DRep w b L M)(T:List (Option (Bool × Nat)))(hd:M.uX.tT=T.map ZX)(f1:M.uX.length=T.length)(h9:(Xe T).Nodup)(hb:∀ k n,some (k,n)∈T->1<=n/\n<10^14)(c8:T.length<1000000000)
 (ht:∀ w',Fr Nil w w'->Tab w')(b5:YE w) :
 Calls prog 183 #[E b 0] w fun e w'=>∃ v g,e=.returned v/\Vs T g/\w'.ownsRow 0 9 1 v ((spK g).1++if none∈T then [zg] else []).length (strs ((spK g).1++if none∈T then [zg] else []))/\Fr Nil w w'/\(∀ k,v.ownBlock=some k->w.heap.size<=k):=by
 have HL:=Z (fun wx (f:Fr Nil w wx)=>WW wx b L M (h.nil f) V);rw[hd,f1] at HL;have g6:=Z (fun wx (f:Fr Nil w wx)=>Qp b L M wx (h.nil f) T hd f1 h9 hb c8 (fun w' f'=>ht w' (f.trans f')) (b5.fr f id));have HN:aa (∀ c∈T,∀ wx,Fr Nil w wx->Calls prog 185 #[.string Yq,.string (ZX c)] wx fun e w'=>e=.returned (I (VR c).2)/\Fr Nil wx w'):=fun c hc wx f =>
  (ST c (fun k n e=>hb k n (e▸hc)) wx (fun w' f'=>ht w' (f.trans f')) (b5.fr f id)).2
 have g9:aa (∀ k n,some (k,n)∈T->1<=n):=fun k n hc=>(hb k n hc).1;clear h ht b5 hb;refine(An (n:=8)).1 ?_;refine xp func183 rfl trivial ?_ rfl;simp only[ntmps183,AQ,Bh,BU,Nat.reduceAdd,Nat.reduceSub,AY,AZ,yD,ym,Ba,CZ]
 gi_wp2_with fail
 refine⟨trivial,?_⟩;refine(An.2 (g6.o _ zd)).mono ?_;rintro e w1 ⟨mb,v,l,rfl,e8,a1,d3,j5,k0,b0⟩;have e4:Fr Nil w ((w.alloc (.cells #[.slice none 0 0] 91)).alloc (.cells #[.slice none 0 0] 91)):=((U _ _).alloc _).alloc _;have bo:Blk w1 w.heap.size [.slice none 0 0] 91:=((Blk.new w [.slice none 0 0] 91).alloc _).fr b0 id;have ba:Blk w1 (w.heap.size+1) [.slice none 0 0] 91:=by
  have:=(Blk.new (w.alloc (.cells #[.slice none 0 0] 91)) [.slice none 0 0] 91).fr b0 id
  rwa [yK] at this
 have e5:=e4.trans b0;have j7:w.heap.size+2<=w1.heap.size:=by have:=b0.size;simp at this;omega
 obtain⟨g,d4,rfl⟩:=LN d3 a1.rp;have e0:=Z e8;have X:aa ((g.map ZF).length=g.length/\g.length<=T.length/\∀ i,(hi:i<g.length)->some g[i]∈T/\Yg (g.map ZF) i=ZF g[i]):=⟨bG,by have:=d3.1;simpa using this,fun i hi=>⟨(d4.mem _).1 (CU hi),by simp[Yg,List.getD_eq_getElem?_getD,hi]⟩⟩;have d8:=Z d4;clear e8 b0 d3 d4 e4
 gi_wp2_with fail
 refine⟨trivial,?_⟩;refine(An.2 (SP mb _)).mono ?_;rintro e w3 ⟨rfl,rfl⟩;have bM:=vD w1 211 (E mb 0);have f2:Fr Nil w1 (w1.alloc (.cells #[E mb 0] 211)):=(U _ _).alloc _;have e3:=bo.fr f2 id;have e2:=ba.fr f2 id;have e6:=e5.trans f2;have d9:=Z (e0.o.alloc (.cells #[E mb 0] 211));have g1:(w1.alloc (.cells #[E mb 0] 211)).heap.size=w1.heap.size+1:=bG
 have d7:=ze a1.sL f2 (fun _ _=>id);generalize w1.alloc (.cells #[E mb 0] 211)=W0 at bM e3 e2 e6 d9 g1 d7;have j6:=e0.o.lt;clear bo ba e5 a1 f2;have h1:=Z d7;have d0:aa ((g.map ZF).length<1000000000):=by show _<_;rw[X.o.1];have:=X.o.2.1;omega
 clear c8 d7
 gi_wp2_with fail
 refine Wr rfl O (gf:=187) (lb:=#[E w1.heap.size 0]) rfl trivial (wF func187 bI rfl)
  (g.map ZF).length (TZ (g.map ZF)) (fun _=>rfl) (SpI w v (g.map ZF) g) (DE w v (g.map ZF) g _ V)
  ⟨_,_,⟨e3,e2,Bf W0 _ _ _,Bf W0 _ _ _⟩,⟨fun k hk=>by simp[Value.ownBlock] at hk,fun k hk=>by simp[Value.ownBlock] at hk⟩,e6,h1.o⟩
  (fun k J W hW hJ hI hY h0=>Ou Fence.wide 7 trivial rfl O k w1.heap.size mb v (g.map ZF) J W (by have:=d0.o;omega) hJ (fun i W1 h=>by obtain⟨_,_,_,_,_,h⟩:=hI i W1 h;exact h) hY ((hW.cell (p:=⟨w1.heap.size,0,none⟩) aU).trans bM.cell) ((hW.cell (p:=⟨mb,0,none⟩) aU).trans (d9.o.cell 0)) h0)
  (fun i=>{tmps:=#[E b 0,undef,.slice none 0 0,E w.heap.size 0,E (w.heap.size+1) 0,undef,.string (Yg (g.map ZF) i).2,E b 0,E mb 0,.func (.func 187) #[] #[E w1.heap.size 0],I (Yg (g.map ZF) i).1,.string (Yg (g.map ZF) i).2,undef,undef,undef,undef,undef,undef,undef,undef,undef,undef,undef,undef,undef,undef,undef,undef,undef],defers:=[]}) ?assign ?body ?done
 case assign =>
  intro l x W K hK;unfold TZ
  gi_wp2
  exact hK
 case body =>
  rintro q i W hi ⟨C,va,⟨r,o,ro,ra⟩,⟨ap,an⟩,hF,a4⟩;have f8:i<g.length:=by have:=X.o.1;omega
  obtain⟨b3,he⟩:=X.o.2.2 i f8;have a2:=LL (g.take i);have d5:(g.take i).length<=i:=List.length_take_le _ _;have j2:i<1000000000:=vB hi d0.o;have e1:=Z (HN.o _ b3 W hF);have d1:=Z (fun k n (e:g[i]=(k,n))=>g9.o k n (e▸b3));have b8:aa (spK (g.take (i+1))=YZ (spK (g.take i)) g[i]):=by
   show _=_;rw[<- FY]
   congr 1
   rw[yP,CS f8]
   rfl
  rw[he];rcases hs0:spK (g.take i) with⟨Oo,A⟩;rw[hs0] at ro ra b8 a2;simp only at ro ra a2;rcases hk0:g[i] with⟨k,n⟩;rw[hk0] at e1 d1 b8;have g8:=Z (d1.o k n rfl);clear he b3 hs0 hk0 d1;have h7:Oo.length<1000000000:=V
  have j3:A.length<1000000000:=V
  have c2:aa (∀ b7 a6 O' A' W',YZ (Oo,A) (k,n)=(O',A')->Fr (fun k=>C.ownBlock=some k\/va.ownBlock=some k\/k=w.heap.size\/k=w.heap.size+1) W W'->Blk W' w.heap.size [b7] 91->Blk W' (w.heap.size+1) [a6] 91->W'.ownsRow 0 9 1 b7 O'.length (strs O')->W'.ownsRow 0 9 1 a6 A'.length (strs A') ->
   (∀ k,b7.ownBlock=some k->(w.heap.size<=k/\a6.ownBlock≠some k))->(∀ k,a6.ownBlock=some k->w.heap.size<=k)->KeepsOthers W W'/\SpI w v (g.map ZF) g (i+1) W'):=fun b7 a6 O' A' W' g2 f b1 b2 r1 r2 s1 s2=>by
   refine⟨KeepsOthers.rv f (fun j d=>?_),b7,a6,⟨b1,b2,?_,?_⟩,⟨s1,s2⟩,hF.tk f (fun j d e=>?_),ze a4 f (fun j d e=>?_)⟩
   .rcases d with e|e|rfl|rfl
    .exact⟨_,zr ro e⟩
    .exact⟨_,zr ra e⟩
    .exact⟨_,r.ty⟩
    .exact⟨_,o.ty⟩
   .rw[b8.o,g2];exact r1
   .rw[b8.o,g2];exact r2
   .rcases e with e|e|e|e
    .have:=(ap j e).1;omega
    .have:=an j e;omega
    .omega
    .omega
   .have ht:=zr a4 d
    rcases e with e|e|rfl|rfl
    .exact absurd (ht.inj (zr ro e)) O
    .exact absurd (ht.inj (zr ra e)) O
    .exact absurd (ht.inj r.ty) O
    .exact absurd (ht.inj o.ty) O
  have B:=Z (And.intro r (And.intro o (And.intro ro (And.intro ra (And.intro ap (And.intro an (And.intro hF a4)))))));clear r o ro ra ap an hF a4 a2 d5;unfold ZF
  gi_wp2_with fail
  refine⟨trivial,?_⟩;refine(An.2 e1.o).mono ?_;rintro e W2 ⟨rfl,f2⟩;have bo:=B.o.1.fr f2 id;have ba:=B.o.2.1.fr f2 id;have ro:=ze B.o.2.2.1 f2 (fun _ _=>id);have ra:=ze B.o.2.2.2.1 f2 (fun _ _=>id);have g1:=(B.o.2.2.2.2.2.2.1.trans f2).size;have co:=bo.cell 0;have ca:=ba.cell 0;have zo:=bo.frozen 0;have za:=ba.frozen 0;have i3:=bo.lt;have i4:=ba.lt;have i0:va.ownBlock≠some (w.heap.size+1):=fun e=>zh ra ba O e;have g0:va.ownBlock≠some w.heap.size:=fun e=>zh ra bo O e;have f9:C.ownBlock≠some (w.heap.size+1):=fun e=>zh ro ba O e;have b4:C.ownBlock≠some w.heap.size:=fun e=>zh ro bo O e;have G:w.heap.size≠w.heap.size+1:=V
  cases k with
  | false =>
   simp only[VR];have fa:Fr Nil W2 (W2.alloc (.cells #[.string (zt false n)] 9)):=(U _ _).alloc _
   gi_wp2_with (gi_at_builtin;go_must (refine Wd rfl _ _ _ _ rfl va (.slice (some (Y W2.heap.size 0)) 1 1) bH bH (zq 91 91 9 1 16 yp XI O va A.length (strs A) (ze ra fa (fun _ _=>id)) ⟨W2.heap.size,0,none⟩ 1 1 [.string (zt false n)] rfl (YQ W2 _ _ _ rfl) aA ac V) ?_;intro v3 w3 a;obtain⟨u,m,rfl⟩:=zf a.sL;have f3:Fr (fun k=>va.ownBlock=some k) W2 w3:=(fa.mono (S':=fun k=>va.ownBlock=some k) (fun _ _ e=>absurd e id)).trans a.fr;have o:=ba.fr f3 i0;have r:=bo.fr f3 g0;have c3:=o.cell 0;have z3:=o.frozen 0))
   have f4:Fr (fun k=>C.ownBlock=some k\/va.ownBlock=some k\/k=w.heap.size\/k=w.heap.size+1) W (w3.setCell (Y (w.heap.size+1) 0) (.slice u (A.length+1) m)) :=
    Fr.set (p:=⟨w.heap.size+1,0,none⟩) ((f2.mono (S':=fun k=>C.ownBlock=some k\/va.ownBlock=some k\/k=w.heap.size\/k=w.heap.size+1) (fun _ _ e=>absurd e id)).trans (f3.mono (fun _ _ e=>.inr (.inl e)))) (fun _=>.inr (.inr (.inr rfl))) _
   have f5:Fr (fun k=>k=w.heap.size+1) w3 (w3.setCell (Y (w.heap.size+1) 0) (.slice u (A.length+1) m)):=Fr.set (S:=fun k=>k=w.heap.size+1) (p:=⟨w.heap.size+1,0,none⟩) (U _ _) (fun _=>rfl) _;have a3:=ze ro f3 (fun j d e=>(B.o.2.2.2.2.1 j d).2 e);have c1:∀ j,(Value.slice u (A.length+1) m).ownBlock=some j->va.ownBlock=some j\/j=W2.heap.size+1:=fun j d=>by
    rcases a.qN with e|e
    .exact .inl (e▸d)
    .rw[e] at d;simp at d;exact .inr V
   have R:=c2.o C (.slice u (A.length+1) m) Oo (A++[zt false n]) _ rfl f4 (r.fr f5 G) (by simpa using o.set 0 (.slice u (A.length+1) m)) (ze a3 f5 (fun j d e=>f9 (e▸d))) (by have:=ze a.sL f5 (fun j d e=>zh a.sL o O (e▸d));simpa [strs] using this) (fun j d=>⟨(B.o.2.2.2.2.1 j d).1,fun e=>by
    rcases c1 j e with e|e
    .exact(B.o.2.2.2.2.1 j d).2 e
    .have:=(zr ro d).lt;omega⟩) (fun j d=>by
    rcases c1 j d with e|e
    .exact B.o.2.2.2.2.2.1 j e
    .omega)
   exact⟨R.1,trivial,R.2⟩
  | true =>
   have i6:(0:Int)<n:=by have:=g8.o;omega
   simp only[VR];have i9:Oo.length+A.length<2000000000:=V
   gi_wp2_with (gi_at_builtin;go_must (first
    | (refine Wd rfl _ _ _ _ rfl (.slice none 0 0) (.slice (some (Y w3.heap.size 0)) 1 1) bH bH (zq 91 91 9 1 16 yp XI O (.slice none 0 0) 0 [] (Bf _ _ _ _) ⟨w3.heap.size,0,none⟩ 1 1 [.string (zt true n)] rfl (YQ _ _ _ _ bG) aA ac V) ?_;intro v5 w5 y;obtain⟨N,t,rfl⟩:=zf y.sL;have f5:Fr Nil _ w5:=((U _ _).alloc _).trans (y.fr.mono (fun _ _ e=>by simp[Value.ownBlock] at e));have h4:=h3.fr f5 id;have b9:=h2.fr f5 id;have c5:=b9.cell 0;have z5:=b9.frozen 0)
    | (refine Wd rfl _ _ _ _ rfl C va bH bH (Xf 91 91 9 1 16 yp XI O C Oo.length (strs Oo) ro va A.length (strs A) ra (FB A) ac V) ?_;intro v3 w3 a;obtain⟨u,m,rfl⟩:=zf a.sL;have f3:=a.fr;have o:=ba.fr f3 f9;have r:=bo.fr f3 b4;have c3:=r.cell 0;have z3:=r.frozen 0;have i8:=o.cell 0;have k2:=o.frozen 0;have h3:=(r.set 0 (.slice u (Oo.length+A.length) m)).qv (b':=w.heap.size+1) G 0 (.slice none 0 0);have h2:=(o.qv (b':=w.heap.size) (wJ G) 0 (.slice u (Oo.length+A.length) m)).set 0 (.slice none 0 0))))
   have a3:=a.sL;have c1:∀ j,(Value.slice u (Oo.length+A.length) m).ownBlock=some j->C.ownBlock=some j\/j=W2.heap.size:=fun j d=>by
    rcases a.qN with e|e
    .exact .inl (e▸d)
    .rw[e] at d;simp at d;exact .inr d.symm
   have j8:=f3.size;have g3:∀ j,(Value.slice N (0+1) t).ownBlock=some j->w3.heap.size<=j:=fun j d=>by
    rcases y.qN with e|e
    .rw[e] at d;simp[Value.ownBlock] at d
    .rw[e] at d;simp at d;omega
   have f4:Fr (fun k=>k=w.heap.size\/k=w.heap.size+1) w3 ((w3.setCell (Y w.heap.size 0) (.slice u (Oo.length+A.length) m)).setCell (Y (w.heap.size+1) 0) (.slice none 0 0)) :=
    Fr.set (p:=⟨w.heap.size+1,0,none⟩) (Fr.set (p:=⟨w.heap.size,0,none⟩) (U _ _) (fun _=>.inl rfl) _) (fun _=>.inr rfl) _
   have f6:Fr (fun k=>k=w.heap.size+1) w5 (w5.setCell (Y (w.heap.size+1) 0) (.slice N (0+1) t)):=Fr.set (S:=fun k=>k=w.heap.size+1) (p:=⟨w.heap.size+1,0,none⟩) (U _ _) (fun _=>rfl) _;have fA:Fr (fun k=>C.ownBlock=some k\/va.ownBlock=some k\/k=w.heap.size\/k=w.heap.size+1) W (w5.setCell (Y (w.heap.size+1) 0) (.slice N (0+1) t)) :=
    (((f2.mono (S':=fun k=>C.ownBlock=some k\/va.ownBlock=some k\/k=w.heap.size\/k=w.heap.size+1) (fun _ _ e=>absurd e id)).trans (f3.mono (fun _ _ e=>.inl e))).trans ((f4.mono (fun _ _ e=>.inr (.inr e))).trans (f5.mono (fun _ _ e=>absurd e id)))).trans (f6.mono (fun _ _ e=>.inr (.inr (.inr e))))
   have r3:(w5.setCell (Y (w.heap.size+1) 0) (.slice N (0+1) t)).ownsRow 0 9 1 (.slice u (Oo.length+A.length) m) (Oo.length+A.length) (strs Oo++strs A):=by
    refine ze (ze (ze a3 f4 (fun j d e=>?_)) f5 (fun _ _=>id)) f6 (fun j d e=>?_)
    .rcases e with rfl|rfl
     .exact zh a3 r O d
     .exact zh a3 o O d
    .subst e
     exact zh a3 o O d
   have r5:(w5.setCell (Y (w.heap.size+1) 0) (.slice N (0+1) t)).ownsRow 0 9 1 (.slice N (0+1) t) 1 (strs [zt true n]):=by
    have:=ze y.sL f6 (fun j d e=>zh y.sL b9 O (e▸d))
    simpa [strs] using this
   have R:=c2.o (.slice u (Oo.length+A.length) m) (.slice N (0+1) t) (Oo++A) [zt true n] _ rfl fA (by simpa using h4.fr f6 G) (by simpa using b9.set 0 (.slice N (0+1) t)) (by rw[CN];simpa [strs] using r3) r5 (fun j d=>?_) (fun j d=>by have:=g3 j d;omega)
   .exact⟨R.1,trivial,R.2⟩
   .have hj3:j<w3.heap.size:=(zr a3 d).lt
    refine⟨?_,fun e=>by have:=g3 j e;omega⟩;rcases c1 j d with e|e
    .exact(B.o.2.2.2.2.1 j e).1
    .omega
 case done =>
  rintro D W hD ⟨C,va,⟨r,o,ro,ra⟩,⟨ap,an⟩,hF,a4⟩ hK;have hc:=r.cell 0;have hz:=r.frozen 0;rw[X.o.1,Bj] at ro ra;have h8:=LL g;have j4:=X.o.2.1;have j1:=d0.o;have g7:=Z (HL.o W hF);have B:=Z (And.intro r (And.intro ro (And.intro (fun j d=>(ap j d).1:∀ j,C.ownBlock=some j->w.heap.size<=j) (And.intro hF hK))));clear r o ro ra ap an hF a4
  gi_wp2_with fail
  refine⟨trivial,?_⟩;refine(An.2 g7.o).mono ?_;rintro e w4 ⟨v4,rfl,c9,hf,_⟩;have HC:=Z (SQ v4 _ ⟨#[110,101,119]⟩ w4 (by rw[Bm];exact c9));have d2:=B.o.1.fr hf id;have f0:=d2.cell 0;have g4:=d2.frozen 0;have a7:=Z hf;clear c9 hf hc hz d2;have c4:(T.map ZX).any (·==⟨#[110,101,119]⟩)=decide (none∈T):=by
   rw[uB,wk,decide_eq_true_iff]
   constructor
   .rintro⟨x,hx,he⟩
    obtain⟨c,hc,rfl⟩:=Bb.1 hx;cases c with
    | none=>exact hc
    | some e=>exact absurd (zY.1 he) (XD e.1 e.2)
   .intro hn
    exact⟨zg,Bb.2 ⟨none,hn,rfl⟩,by rw[zY];rfl⟩
  rw[c4] at HC;by_cases hn:none∈T
  .rw[yZ hn] at HC
   have i2:=0;exact LO
  .rw[yd hn] at HC
   exact LO
end Go.Proofs.YtkhnggkkiefcdaaGreatDoor
