/- larder: joined texts -/
import Derived.Test.YtkhnggkkiefcdaaGreatDoorALAR
namespace Go.Proofs.YtkhnggkkiefcdaaGreatDoor
open Go.RowKit Proofs.Tryz
set_option maxRecDepth 100000
set_option maxHeartbeats 8000000
variable{M:DM}{y:Lay}{D:Dir}{z:Dl}{t k n:Nat}{i:List (Nat × Nat)}{d:Bool}{c:List Value}{e:ByteArray × Nat}{w:World}{vm:Value}
def DM.sR:List ByteArray->DM->Option Int × DM
 | [],M=>(none,M)
 | n::l,M=>if (M.sU n).1=0 then DM.sR l (M.sU n).2 else(zT (M.sU n).1,(M.sU n).2)
theorem Ma(M:DM):M.uQ.2.2.uX=M.uX/\M.uQ.2.2.tB=M.tB:=by
 unfold DM.uQ;simp only;split
 .exact⟨rfl,rfl⟩
 .split
  .exact⟨rfl,rfl⟩
  .split <;> exact⟨rfl,rfl⟩
theorem Je(M:DM)(n:ByteArray):(M.sU n).2.tB.length<=M.tB.length+1/\(M.sU n).2.uX.length<=M.uX.length:=by
 obtain⟨a,b⟩:=Ma M;unfold DM.sU;split
 .exact⟨yc _,CP _⟩
 .rename_i k _
  simp only;split
  .simp only[DM.si,a,b,CN,CR,Bc,CQ]
   omega
  .rw[a,b]
   omega
theorem Gu(b:Nat)(L:DL)(M:DM)(l:List ByteArray)(w:World)(h:DRep w b L M)(q:M.tB.length+l.length+1<=1000000000000)(s:M.uX.length+1<=1000000000000)
 (X:Calls prog 183 #[E b 0] w fun e u=>∃ v,e=.returned v/\u.ownsRow 0 9 1 v l.length (strs l)/\Fr Nil w u) :
 Calls prog 144 #[E b 0] w fun e u=>∃ v L',e=.returned v/\ERep u v (M.sR l).1/\DStep b L M w L' (M.sR l).2 u:=by
 have HC:=Z X;have HD:=Z h;clear X h;go_enter func144,ntmps144;go_wp2_with fail;refine HC.o.mono ?_;rintro e w1 ⟨v0,rfl,f,hf⟩;obtain⟨a,c,rfl⟩:=zf f;have a1:=Z (DStep.sF HD.o hf);have a5:l.length<1000000000000:=V
 have D:=Z (And.intro q s);clear hf HC q s
 go_wp2
 go_loopw [9] (fun t u=>∃ (i:Nat) (Li:DL) (j:DM),i<=l.length/\t=I (i:Int)/\DStep b L M w Li j u/\M.sR l=j.sR (l.drop i)/\j.tB.length<=M.tB.length+i/\j.uX.length<=M.uX.length/\u.ownsRow 0 9 1 (.slice a l.length c) l.length (strs l)) (fun t _=>(l.length-intOf t).toNat)
 case atStart=>exact⟨0,L,M,Bg _,rfl,a1.o,rfl,CP _,CP _,f⟩
 case round =>
  obtain⟨i,Li,j,hi,rfl,p,d,y,A,f⟩:=hrel;by_cases R:i<l.length
  .obtain⟨g,cap',hg,_,_⟩:=zl f V
   obtain⟨rfl,rfl⟩:a=some (Y g 0)/\c=cap':=by simpa using hg
   have hc:=own_cell? f i (.string l[i]) (by simp[strs,R]);rw[BJ R] at d;have m:=Z (And.intro p (And.intro d (And.intro y (And.intro A f))));have T:=Je j l[i];have x:=Z T;have G:=Z (Pw l[i] wr b Li j p.th aT aT);clear p d y A f T;generalize l[i]=nm at hc m G x;go_wp2_with fail;refine G.o.mono ?_;rintro e w2 ⟨rfl,L2,B⟩;have J:=Z B;have S:=ze m.o.2.2.2.2 B.fr (fun k hk=>m.o.1.th.apart (zr m.o.2.2.2.2 hk) ae);have a4:=Z S;clear B S hc;by_cases C:(j.sU nm).1=0
   .have d:=m.o.2.1.trans (show DM.sR (nm::l.drop (i+1)) j=DM.sR (l.drop (i+1)) (j.sU nm).2 by rw[DM.sR,Bl C])
    have o:=Z d;rw[C];clear d C;go_wp2_with fail;exact⟨⟨i+1,L2,(j.sU nm).2,V,by go_num,m.o.1.trans J.o,o.o,by have:=x.o.1;have:=m.o.2.2.1;omega,by have:=x.o.2;have:=m.o.2.2.2.1;omega,a4.o⟩,by simp[intOf];omega⟩
   .have hq:((j.sU nm).1==0)=false:=by simpa using C
    have d:=m.o.2.1;rw[show DM.sR (nm::l.drop (i+1)) j=(zT (j.sU nm).1,(j.sU nm).2) by rw[DM.sR,CW C]] at d;have o:=Z d;clear d C;generalize (j.sU nm).1=r at hq o;go_wp2_with fail;refine(YC _ _ _ _).mono ?_;rintro e w3 ⟨v3,rfl,hE,N⟩;have HE:=Z hE;have a2:=Z N;clear hE N;go_wp2_with fail;refine(zU _ _ _ w3 HE.o).mono ?_;rintro e w4 ⟨v4,rfl,K,Q⟩;have a0:=Z K;have a3:=Z Q;clear K Q;go_wp2_with fail;go_ret;exact⟨v4,L2,rfl,by rw[o.o];exact a0.o,by rw[o.o];exact(m.o.1.trans J.o).tR (a2.o.trans a3.o)⟩
  .have hil:i=l.length:=V
   subst hil;rw[vd] at d;have m:=Z (And.intro p d);clear p d y A f;go_wp2_with fail;go_ret;exact⟨.nilIface,Li,rfl,by rw[m.o.2];rfl,by rw[m.o.2];exact m.o.1⟩
def Dl.sS(G:List Ent)(z:Dl):List (Option (Bool × Nat)) :=
 z.sH.map (fun e=>some (e.1,e.2.1))++z.base.toList.map (fun b=>some (true,b.1))++((G.take z.j).drop z.i).map (fun e=>some (false,e.1))++z.new.toList.map fun _=>none
theorem Dl.tT(G:List Ent)(z:Dl):(z.uX G).map Prod.fst=(z.sS G).map ZX:=by
 unfold Dl.uX Dl.sS;simp only[Bq,Al]
 rfl
theorem VE{a b:Option (Bool × Nat)}(h:ZX a=ZX b):a=b:=by
 match a,b with
 | none,none=>rfl
 | none,some e=>exact absurd h.symm (XD e.1 e.2)
 | some e,none=>exact absurd h (XD e.1 e.2)
 | some e,some f =>
  obtain⟨c,d⟩:=Qr h;exact AB some (Prod.ext c d)
theorem Z1{α:Type}{o:Option α}{a:α}:a∈o.toList↔o=some a:=by cases o <;> simp[eq_comm]
theorem TG(G:List Ent)(z:Dl):Xe (z.sS G)=z.sH.map (·.2.1)++z.base.toList.map (·.1)++((G.take z.j).drop z.i).map (·.1):=by
 unfold Xe Dl.sS;simp only[List.filterMap_append,List.filterMap_map];have d:∀ (l:List (Bool × Nat × Nat)),l.filterMap ((fun c:Option (Bool × Nat)=>c.map (·.2)) ∘ fun e=>some (e.1,e.2.1))=l.map (·.2.1):=fun l=>by
  rw[show((fun c:Option (Bool × Nat)=>c.map (·.2)) ∘ fun e:Bool × Nat × Nat=>some (e.1,e.2.1))=(some ∘ fun e=>e.2.1) from rfl,wX]
 have f:∀ (l:List (Nat × Nat × List Fact)),l.filterMap ((fun c:Option (Bool × Nat)=>c.map (·.2)) ∘ fun b=>some (true,b.1))=l.map (·.1):=fun l=>by
  rw[show((fun c:Option (Bool × Nat)=>c.map (·.2)) ∘ fun b:Nat × Nat × List Fact=>some (true,b.1))=(some ∘ fun b=>b.1) from rfl,wX]
 have g:∀ (l:List Ent),l.filterMap ((fun c:Option (Bool × Nat)=>c.map (·.2)) ∘ fun e=>some (false,e.1))=l.map (·.1):=fun l=>by
  rw[show((fun c:Option (Bool × Nat)=>c.map (·.2)) ∘ fun e:Ent=>some (false,e.1))=(some ∘ fun e=>e.1) from rfl,wX]
 have h:∀ (l:List Nat),l.filterMap ((fun c:Option (Bool × Nat)=>c.map (·.2)) ∘ fun _=>none)=[]:=fun l=>by
  induction l with
  | nil=>rfl
  | cons a l i=>rw[List.filterMap_cons];exact i
 rw[d,f,g,h,Bz]
theorem Snd.pX(h:Snd M y D z)(i:y.G.Pairwise fun a b=>a.1<b.1):(Xe (z.sS y.G)).Nodup:=by
 have e:=TG y.G z;rw[e];have d:(((y.G.take z.j).drop z.i).map (·.1)).Nodup:=by
  rw[Af,Ao];exact(i.sublist ((xO _ _).trans (List.take_sublist _ _))).imp fun h e=>V
 cases hb:z.base with
 | none =>
  have s:z.sH=[]:=List.eq_nil_iff_forall_not_mem.2 fun e g=>by
   obtain⟨_,b,l,_⟩:=h.low e g;rw[hb] at l;cases l
  rw[s]
  simpa using d
 | some b =>
  have k:=h.base b hb;simp only[Option.toList_some,Bw,AE];have m:∀ n∈z.sH.map (·.2.1),n<b.1:=fun n q=>by
   obtain⟨e,g,rfl⟩:=Bb.1 q;obtain⟨_,t,j,r⟩:=h.low e g;rw[hb] at j;cases j;exact r
  have p:∀ n∈((y.G.take z.j).drop z.i).map (·.1),b.1<n:=fun n q=>by
   obtain⟨e,g,rfl⟩:=Bb.1 q;refine k.hi e ?_;rw[vI] at g;exact BN g
  rw[AR,AR];refine⟨⟨h.qF,bG,fun a f c o e=>by rw[CX] at o;subst o e;have:=m _ f;omega⟩,d,fun a f c o e=>?_⟩;subst e;have u:=p _ o;rcases CV.1 f with f|f
  .have:=m _ f;omega
  .rw[CX] at f;omega
theorem Mb{a:List (Option (Bool × Nat))}(h:(Xe a).Nodup)(b:a.count none<=1):a.Nodup:=by
 induction a with
 | nil=>exact xe
 | cons c a d =>
  rw[yv];cases c with
  | none =>
   have g:none∉a:=fun hm=>by
    have:=List.count_pos_iff.2 hm;rw[List.count_cons_self] at b;omega
   exact⟨g,d h (by rw[List.count_cons_self] at b;omega)⟩
  | some e =>
   have f:Xe (some e::a)=e.2::Xe a:=rfl;rw[f,yv] at h;refine⟨fun hm=>h.1 (vH.2 ⟨_,hm,rfl⟩),d h.2 (by rw[List.count_cons] at b;omega)⟩
theorem Snd.sS(h:Snd M y D z)(d:y.G.Pairwise fun a b=>a.1<b.1) :
 ∃ c,D.tT=c.map ZX/\c.Perm (z.sS y.G)/\D.length=c.length/\(Xe c).Nodup/\c.Nodup/\(D.map Prod.fst).Nodup:=by
 have k:=Ud D;have g:(D.map Prod.fst).Perm ((z.sS y.G).map ZX):=by rw[<- Dl.tT];exact h.rJ.map _
 obtain⟨c,i,e⟩:=Ow ZX (k.trans g) (z.sS y.G) rfl;have j:(Xe c).Nodup:=(i.filterMap _).nodup_iff.2 (h.pX d);have f:c.Nodup:=Mb j (by
  rw[i.count_eq];unfold Dl.sS;rw[vO,vO,vO];rw[xw,xw,xw]
  .cases z.new <;> simp
  .intro hm;obtain⟨_,_,h⟩:=Bb.1 hm;cases h
  .intro hm;obtain⟨_,_,h⟩:=Bb.1 hm;cases h
  .intro hm;obtain⟨_,_,h⟩:=Bb.1 hm;cases h)
 refine⟨c,e,i,?_,j,f,?_⟩
 .have:=k.length_eq
  rw[e,Bm,Bm] at this;exact this.symm
 .refine g.nodup_iff.2 ?_
  refine(i.map ZX).nodup_iff.1 ?_;rw[Af,Ao];exact(Af.1 f).imp fun h e=>h (VE e)
theorem Lk.nR{p:Nat}(g:Lk M y p t k)(h:Snd M y D z){b:Bool}(hm:some (b,n)∈z.sS y.G):1<=n/\n<=2*t:=by
 have a:∀ b,z.base=some b->1<=b.1/\b.1<=2*t:=fun b m=>by
  have k:=h.base b m;have q:=h.j;have o:=k.lt;have c:y.G[z.i]' V∈y.G:=CU _;have j:=k.hi _ (Bt.2 ⟨0,by rw[Bc];omega,by rw[Ac];rfl⟩:y.G[z.i]' V∈y.G.drop z.i);have l:=g.qw _ c;exact⟨k.qy,V⟩
 unfold Dl.sS at hm;simp only[CV,Bb,Z1] at hm;rcases hm with((⟨e,d,c⟩|⟨e,d,c⟩)|⟨e,d,c⟩)|⟨e,_,c⟩
 .simp only[BZ,Ak] at c
  obtain⟨j,i,f,l⟩:=h.low e d;have:=a i f;omega
 .simp only[BZ,Ak] at c
  have:=a e d;omega
 .simp only[BZ,Ak] at c
  have:=g.qw e (BN (Bx d));omega
 .cases c
theorem DH(a:List (Bool × Nat)):(spK a).1++(spK a).2=a.map fun e=>zt e.1 e.2:=by
 have h:∀ (a:List (Bool × Nat)) (s:List ByteArray × List ByteArray),(a.foldl YZ s).1++(a.foldl YZ s).2=s.1++s.2++a.map fun e=>zt e.1 e.2:=by
  intro a
  induction a with
  | nil=>intro s;simp
  | cons e a b =>
   intro s;rw[BX,b];unfold YZ;split <;> simp
 have:=h a ([],[]);unfold spK;rw[this];simp
theorem OH(a:List (Bool × Nat))(h:∀ e∈a,e.1=false)(s:List ByteArray × List ByteArray):(a.foldl YZ s).1=s.1:=by
 induction a generalizing s with
 | nil=>rfl
 | cons e a c =>
  rw[BX,c (fun x b=>h x (CT _ b))];unfold YZ;rw[CW (by rw[h e (CY ..)];decide)]
def Lay.qd(y:Lay):List ByteArray:=y.sH.map (fun e=>zt e.1 e.2.1)++y.new.toList.map fun _=>zg
theorem Snd.nY(h:Snd M y M.uX y.z){s:List (Option (Bool × Nat))}(u:s.Perm (y.z.sS y.G)){p:List (Bool × Nat)}(Q:Vs s p) :
 ((spK p).1++if none∈s then [zg] else []).Perm y.qd:=by
 have i:∀ e,e∈p↔some e∈y.z.sS y.G:=fun e=>by rw[Q.mem,u.mem_iff]
 have B:(if none∈s then [zg] else [])=y.new.toList.map fun _=>zg:=by
  have a:none∈s↔y.new≠none:=by
   rw[u.mem_iff];unfold Dl.sS;simp only[CV,Bb,Z1]
   constructor
   .rintro(((⟨e,_,a⟩|⟨e,_,a⟩)|⟨e,_,a⟩)|⟨e,d,_⟩)
    .cases a
    .cases a
    .cases a
    .have he':y.new=some e:=d
     rw[he'];simp
   .intro r
    obtain⟨f,N⟩:=Option.ne_none_iff_exists'.1 r;exact .inr ⟨f,N,trivial⟩
  by_cases r:y.new=none
  .rw[CW (by rw[a];exact fun x=>x r),r];rfl
  .rw[Bl (a.2 r)]
   obtain⟨f,N⟩:=Option.ne_none_iff_exists'.1 r;rw[N];rfl
 have v:p.Nodup:=by
  rw[Af];exact Q.rp.imp fun h e=>by rw[e] at h;omega
 rw[B];unfold Lay.qd;refine List.Perm.append_right _ ?_;have C:y.sH.Nodup->(y.sH.map fun e=>(e.1,e.2.1)).Nodup:=fun _=>by
  have:=h.qF;rw[Af,Ao] at this |-;exact this.imp fun h e=>h (by simp only[Ak] at e;exact e.2)
 have R:(y.sH.map fun e=>(e.1,e.2.1)).Nodup:=C (by
  have:=h.qF;rw[Af,Ao] at this;rw[Af];exact this.imp fun h e=>h (by rw[e]))
 cases hb:y.base with
 | none =>
  have m:y.sH=[]:=List.eq_nil_iff_forall_not_mem.2 fun e d=>by
   obtain⟨_,b,g,_⟩:=h.low e d;have t:y.base=some b:=g;rw[hb] at t;cases t
  have D:∀ e∈p,e.1=false:=fun e d=>by
   have hm:=(i e).1 d;unfold Dl.sS at hm;simp only[CV,Bb,Z1] at hm;rcases hm with((⟨x,j,a⟩|⟨x,j,a⟩)|⟨x,j,a⟩)|⟨x,_,a⟩
   .have hx':x∈y.sH:=j
    rw[m] at hx';cases hx'
   .have hx':y.base=some x:=j
    rw[hb] at hx';cases hx'
   .simp only[BZ] at a
    rw[<- a]
   .cases a
  rw[m];unfold spK;rw[OH p D];exact xU _
 | some b =>
  have kb:=h.base b hb;have L:(true,b.1)∈p:=(i _).2 (by
   unfold Dl.sS;simp only[CV,Bb,Z1];exact .inl (.inl (.inr ⟨b,hb,rfl⟩)))
  obtain⟨G,J,rfl⟩:=wE L;have c:=Q.rp;rw[AW,wC] at c;have k:∀ e∈G++(true,b.1)::J,(∃ o∈y.sH,(o.1,o.2.1)=e/\e.2<b.1)\/e=(true,b.1)\/(e.1=false/\b.1<e.2):=fun e d=>by
   have hm:=(i e).1 d;unfold Dl.sS at hm;simp only[CV,Bb,Z1] at hm;rcases hm with((⟨x,j,a⟩|⟨x,j,a⟩)|⟨x,j,a⟩)|⟨x,_,a⟩
   .simp only[BZ] at a
    obtain⟨_,K,l,q⟩:=h.low x j;have g:y.base=some K:=l;rw[hb] at g;cases g;exact .inl ⟨x,j,a,by rw[<- a];exact q⟩
   .have hx':y.base=some x:=j
    rw[hb] at hx';cases hx';simp only[BZ] at a;exact .inr (.inl a.symm)
   .simp only[BZ] at a
    refine .inr (.inr ⟨by rw[<- a],?_⟩);rw[<- a];refine kb.hi x ?_;rw[vI] at j;exact BN j
   .cases a
  have S:∀ e∈J,e.1=false:=fun e d=>by
   rcases k e (yt _ (CT _ d)) with⟨_,_,_,q⟩|rfl|q
   .have:=c.2.1.1 e d;simp only at this;omega
   .have:=c.2.1.1 _ d;simp only at this;omega
   .exact q.1
  have T:(spK (G++(true,b.1)::J)).1=G.map fun e=>zt e.1 e.2:=by
   unfold spK;rw[BM,BX,OH J S];rw[<- DH G]
   rfl
  rw[T];have X:y.sH.map (fun e=>zt e.1 e.2.1)=(y.sH.map fun e=>(e.1,e.2.1)).map fun e=>zt e.1 e.2:=by rw[Al];rfl
  rw[X];refine List.Perm.map _ ?_;rw[AR] at v;refine(List.perm_ext_iff_of_nodup v.1 R).2 fun e=>?_
  constructor
  .intro d
   have A:=c.2.2 e d (true,b.1) (CY ..);rcases k e (yw _ d) with⟨o,m,a,_⟩|rfl|q
   .exact Bb.2 ⟨o,m,a⟩
   .simp only at A;omega
   .simp only at A;omega
  .intro d
   obtain⟨o,m,rfl⟩:=Bb.1 d;obtain⟨_,K,l,q⟩:=h.low o m;have g:y.base=some K:=l;rw[hb] at g;cases g;have hm:(o.1,o.2.1)∈G++(true,b.1)::J:=(i _).2 (by
    unfold Dl.sS;simp only[CV,Bb,Z1];exact .inl (.inl (.inl ⟨o,m,rfl⟩)))
   rcases CV.1 hm with hm|hm
   .exact hm
   .rcases BC.1 hm with e|e
    .simp only[Ak] at e;omega
    .have:=c.2.1.1 _ e;simp only at this;omega
def JM.rl(J:JM)(M:DM)(f g:Nat):Option Int × JM × DM :=
 match (J.begin M (J.tu+2) f).1 with
 | .some n=>(some n,(J.begin M (J.tu+2) f).2.1,(J.begin M (J.tu+2) f).2.2)
 | .none=>(zT ((J.begin M (J.tu+2) f).2.2.sx zg g).1,(J.begin M (J.tu+2) f).2.1,((J.begin M (J.tu+2) f).2.2.sx zg g).2)
theorem Mc(B d o:Nat)(J:JM)(L:DL)(M:DM)(b7:J.tu+2<1000000000000)(w:World)(hj:JRep w d o J)(hd:DRep w o L M)(ht:Xr B w)(hB:B<=w.heap.size)(j:∀ k,Foot o L M k->B<=k)
 (X:(J.tA M).2.tB.length+1<=1000000000000)(a0:(J.tA M).2.uX.length+1<=1000000000000)
 (a1:∀ f,w.heap.size<=f->(J.begin M (J.tu+2) f).2.2.tB.length+1<=1000000000000/\(J.begin M (J.tu+2) f).2.2.uX.length+1<=1000000000000) :
 Calls prog 169 #[E d 0] w fun e w' =>
  ∃ f g v pv L',e=.returned (.tuple #[pv,v])/\w.heap.size<=f/\w.heap.size<=g/\g∉(J.begin M (J.tu+2) f).2.2.tL/\ERep w' v (J.rl M f g).1/\JStep d o L M w (J.rl M f g).2.1 L' (J.rl M f g).2.2 w' /\
   ((J.rl M f g).1=none->∃ u,pv=E u 0/\w.heap.size<=u/\Blk w' u [E d 0,I (J.tu+1:Nat)] 250)/\((J.rl M f g).1≠none->pv=.pointer none):=by
 have b8:w.cell? (Y d 2)=some (I J.tu):=hj.cell 2;have b9:IntKind.i64.wrap ((J.tu:Int)+1)=(J.tu:Int)+1:=by rw[Bu];omega
 have c0:IntKind.i64.wrap ((J.tu:Int)+1+1)=(J.tu:Int)+1+1:=by rw[Bu];omega
 have bd:=Blk.new w [E d 0,I ((J.tu:Int)+1)] 250;have f0:Fr Nil w (w.alloc (.cells #[E d 0,I ((J.tu:Int)+1)] 250)):=(U _ _).alloc _;have b6:(w.alloc (.cells #[E d 0,I ((J.tu:Int)+1)] 250)).heap.size=w.heap.size+1:=bG
 have G:=Z (fun wx (f:Fr Nil w wx)=>VL B d o J L M (J.tu+2) V wx (Blk.fr hj f id) (hd.nil f) (ht.fr hB (S:=Nil) f (fun _ h=>absurd h id)) (CO hB f.size) j X a0);have HJ:=Z hj;have HD:=Z hd;have D:=Z a1;have a2:=bd.cell;clear hj hd ht j X a0 a1;go_enter func169,ntmps169;go_wp2_with fail;generalize w.alloc (.cells #[E d 0,I ((J.tu:Int)+1)] 250)=w0 at bd f0 b6 a2 |-;rw[show((J.tu:Int)+1+1)=((J.tu+2:Nat):Int) from V];refine(G.o w0 f0).mono ?_;rintro e w1 ⟨f,v1,L1,rfl,hf,A,x⟩;have a:aa (JStep d o L M w (J.begin M (J.tu+2) f).2.1 L1 (J.begin M (J.tu+2) f).2.2 w1):=(JStep.nil HJ.o HD.o f0).trans x;have a8:¬(w.heap.size=d\/Foot o L M w.heap.size):=fun e=>by
  rcases e with e|e
  .have:=Blk.lt HJ.o;omega
  .have:=HD.o.lt e;omega
 have p:=bd.fr x.2.2.1 a8;have a9:=Z p;have HE:=Z A;have l:w.heap.size<=f:=V
 clear x a8 G p a2 bd;cases he:(J.begin M (J.tu+2) f).1 with
 | some n =>
  have hp:∀ g,J.rl M f g=(some n,(J.begin M (J.tu+2) f).2.1,(J.begin M (J.tu+2) f).2.2):=by intro g;unfold JM.rl;rw[he]
  have N:=Z hp;rw[he] at A HE;obtain⟨k,hk⟩:=A;obtain⟨t,b,rfl⟩:=hk.form;clear he hp hk;go_wp2_with fail;refine(zU _ _ _ w1 HE.o).mono ?_;rintro e w2 ⟨v2,rfl,Q,a3⟩;have b0:=Z Q;have HF:=Z (a.o.tR a3);clear Q a3
  go_wp2
  go_ret2;refine⟨f,w1.heap.size,v2,.pointer none,L1,rfl,l,?_,fun hg=>?_,?_,?_,?_,?_⟩
  .have:=a.o.2.2.1.size;omega
  .have:=a.o.2.1.lt (.uV hg);omega
  .rw[N.o];exact b0.o
  .rw[N.o];exact HF.o
  .intro h;rw[N.o] at h;cases h
  .intro _;rfl
 | none =>
  rw[he] at A HE;have hv:v1=.nilIface:=A;subst hv;have hp:∀ g,J.rl M f g=(zT ((J.begin M (J.tu+2) f).2.2.sx zg g).1,(J.begin M (J.tu+2) f).2.1,((J.begin M (J.tu+2) f).2.2.sx zg g).2):=by intro g;unfold JM.rl;rw[he]
  have N:=Z hp;have b5:w1.cell? (Y d 0)=some (E o 0):=a.o.1.cell 0;have K:=Z (UJ zg w1 o L1 _ a.o.2.1 (D.o f l).1 (D.o f l).2);clear he hp A HE;go_wp2_with fail;refine K.o.mono ?_;rintro e w2 ⟨g,L2,rfl,hg,y⟩;have a6:g∉(J.begin M (J.tu+2) f).2.2.tL:=fun hm=>by have:=a.o.2.1.lt (.uV hm);omega
  have q:=a9.o.step a.o.2.1 y ae;have r:=a.o.trans (JStep.rP a.o.1 a.o.2.1 y);have s:=Z (And.intro r q);have a7:w.heap.size<=g:=CO a.o.2.2.1.size hg;clear y r q b5 K;have c:=Z (N.o g);by_cases C:((J.begin M (J.tu+2) f).2.2.sx zg g).1=0
  .have hq:(((J.begin M (J.tu+2) f).2.2.sx zg g).1 != 0)=false:=by simp[C]
   have i:zT ((J.begin M (J.tu+2) f).2.2.sx zg g).1=none:=by unfold zT;rw[Bl C]
   have m:=Z i;clear C i
   go_wp2
   go_ret2;refine⟨f,g,.nilIface,_,L2,rfl,l,a7,a6,?_,?_,?_,?_⟩
   .rw[c.o,m.o];rfl
   .rw[c.o];exact s.o.1
   .intro _;exact⟨_,rfl,CP _,s.o.2⟩
   .intro h;rw[c.o,m.o] at h;exact absurd rfl h
  .have hq:(((J.begin M (J.tu+2) f).2.2.sx zg g).1 != 0)=true:=by simp[C]
   have i:zT ((J.begin M (J.tu+2) f).2.2.sx zg g).1=some ((J.begin M (J.tu+2) f).2.2.sx zg g).1:=by unfold zT;rw[CW C]
   have m:=Z i;clear C i;go_wp2_with fail;refine(YC _ _ _ w2).mono ?_;rintro e w3 ⟨v3,rfl,R,a4⟩;have b1:=Z R;have b3:=Z a4;clear R a4;go_wp2_with fail;refine(zU _ _ _ w3 b1.o).mono ?_;rintro e w4 ⟨v4,rfl,T,a5⟩;have b2:=Z T;have b4:=Z (s.o.1.tR (b3.o.trans a5));clear T a5
   go_wp2
   go_ret2;refine⟨f,g,v4,.pointer none,L2,rfl,l,a7,a6,?_,?_,?_,?_⟩
   .rw[c.o];exact b2.o
   .rw[c.o];exact b4.o
   .intro h;rw[c.o,m.o] at h;cases h
   .intro _;rfl
theorem XF(b i c:Nat)(n:Nat)(J:JM)(L:DL)(M:DM)(a:ByteArray)(w:World)(p:Blk w b [E i 0,I n] 250)(s:JRep w i c J)(q:DRep w c L M)
 (K:0<=M.part)(m:a.size<=1000000000000)(l:∀ f,f∈M.tL->(M.uV f).bytes.length<=1000000000000) :
 Calls prog 171 #[E b 0,.string a] w fun e t=>∃ v B,e=.returned v/\ERep t v (zT (M.add zg a).1)/\DStep c L M w B (M.add zg a).2 t:=by
 have D:w.cell? (Y i 0)=some (E c 0):=s.cell 0;have G:w.cell? (Y b 0)=some (E i 0):=p.cell 0;have u:=Z (UK zg a w c L M q K m l);clear p s q;go_enter func171,ntmps171;go_wp2_with fail;refine u.o.mono ?_;rintro e Q ⟨rfl,C,h⟩;have A:=Z h;clear h;go_wp2_with fail;refine(YC _ _ _ Q).mono ?_;rintro e R ⟨S,rfl,o,r⟩;have x:=Z o;have y:=Z r;clear o r;go_wp2_with fail;refine(zU _ _ _ R x.o).mono ?_;rintro e T ⟨N,rfl,d,g⟩;have j:=Z d;have k:=Z (A.o.tR (y.o.trans g));clear d g
 go_wp2
 go_ret;exact⟨N,C,rfl,j.o,k.o⟩
def JM.tG(J:JM)(M:DM)(a:ByteArray)(l:List ByteArray):Option Int × JM × DM :=
 if (M.tY zg).1≠0 then(zT (M.tY zg).1,J,(M.tY zg).2)
 else if ((M.tY zg).2.sA zg a).1≠0 then(zT ((M.tY zg).2.sA zg a).1,J,((M.tY zg).2.sA zg a).2)
 else match (((M.tY zg).2.sA zg a).2.sR l).1 with
  | .some n=>(some n,J,(((M.tY zg).2.sA zg a).2.sR l).2)
  | .none=>J.sw (((M.tY zg).2.sA zg a).2.sR l).2
theorem RG(y d:Nat)(J:JM)(L:DL)(M:DM)(a:ByteArray)(l:List ByteArray)(w:World)(hj:JRep w y d J)(hd:DRep w d L M)
 (R:(M.tY zg).2.tB.length+1<=1000000000000)(T:(M.tY zg).2.uX.length+1<=1000000000000)
 (a1:(M.tY zg).1=0->((M.tY zg).2.sA zg a).1=0->∀ wx LX,DRep wx d LX ((M.tY zg).2.sA zg a).2->Fr (fun k=>k=y\/Foot d L M k) w wx->(∀ k,Foot d LX ((M.tY zg).2.sA zg a).2 k->Foot d L M k\/w.heap.size<=k) ->
   Calls prog 144 #[E d 0] wx fun e w'=>∃ v L',e=.returned v/\ERep w' v (((M.tY zg).2.sA zg a).2.sR l).1/\DStep d LX ((M.tY zg).2.sA zg a).2 wx L' (((M.tY zg).2.sA zg a).2.sR l).2 w') :
 Calls prog 172 #[E y 0,.string a] w fun e w'=>∃ v L',e=.returned v/\ERep w' v (J.tG M a l).1/\JStep y d L M w (J.tG M a l).2.1 L' (J.tG M a l).2.2 w':=by
 have a8:w.cell? (Y y 0)=some (E d 0):=hj.cell 0;have a7:=Z (Sm zg w d L M hd);have HJ:=Z hj;have HD:=Z hd;have HB:=Z (And.intro R T);have G:=Z a1;clear hj hd R T a1;go_enter func172,ntmps172;go_wp2_with fail;refine a7.o.mono ?_;rintro e w1 ⟨rfl,L1,s⟩;have q:=JStep.rP HJ.o HD.o s;have g:=Z q;clear s a8;by_cases B:(M.tY zg).1=0
 .have hq1:((M.tY zg).1 != 0)=false:=by simp[B]
  have o:=Z B;have a9:w1.cell? (Y y 0)=some (E d 0):=q.1.cell 0;have a4:=Z (Py zg a w1 d L1 (M.tY zg).2 g.o.2.1 HB.o.1 HB.o.2);clear B q;go_wp2_with fail;refine a4.o.mono ?_;rintro e w2 ⟨rfl,L2,u⟩;have r:=g.o.trans (JStep.rP g.o.1 g.o.2.1 u);have c:=Z r;clear u a9;by_cases C:((M.tY zg).2.sA zg a).1=0
  .have hq2:(((M.tY zg).2.sA zg a).1 != 0)=false:=by simp[C]
   have A:=Z C;have b0:w2.cell? (Y y 0)=some (E d 0):=r.1.cell 0;have a5:=Z (G.o o.o A.o w2 L2 c.o.2.1 c.o.2.2.1 c.o.2.2.2);clear C r G;go_wp2_with fail;refine a5.o.mono ?_;rintro e w3 ⟨v3,L3,rfl,f,x⟩;have i:=c.o.trans (JStep.rP c.o.1 c.o.2.1 x);have D:=Z i;have m:=Z f;clear x b0;cases he:(((M.tY zg).2.sA zg a).2.sR l).1 with
   | some n =>
    have j:J.tG M a l=(some n,J,(((M.tY zg).2.sA zg a).2.sR l).2):=by unfold JM.tG;rw[CW (by rw[o.o];simp),CW (by rw[A.o];simp),he]
    have h:=Z j;rw[he] at f m;obtain⟨k,hk⟩:=f;obtain⟨t,b,rfl⟩:=hk.form;clear he j hk i
    go_wp2
    go_ret;exact⟨_,L3,rfl,by rw[h.o];exact m.o,by rw[h.o];exact D.o⟩
   | none =>
    have j:J.tG M a l=J.sw (((M.tY zg).2.sA zg a).2.sR l).2:=by unfold JM.tG;rw[CW (by rw[o.o];simp),CW (by rw[A.o];simp),he]
    have h:=Z j;rw[he] at f m;have hv:v3=.nilIface:=f;subst hv;have a6:=Z (VZ y d J L3 _ w3 i.1 i.2.1);clear he j f m i;go_wp2_with fail;refine a6.o.mono ?_;rintro e w4 ⟨v4,L4,rfl,Q,a0⟩;have a2:=Z Q;have a3:=Z (D.o.trans a0);clear Q a0
    go_wp2
    go_ret;exact⟨_,L4,rfl,by rw[h.o];exact a2.o,by rw[h.o];exact a3.o⟩
  .have hq2:(((M.tY zg).2.sA zg a).1 != 0)=true:=by simp[C]
   have j:J.tG M a l=(zT ((M.tY zg).2.sA zg a).1,J,((M.tY zg).2.sA zg a).2):=by unfold JM.tG;rw[CW (by rw[o.o];simp),Bl C]
   have h:=Z j;clear j C r;go_wp2_with fail;refine(YC _ _ _ w2).mono ?_;rintro e w3 ⟨v3,rfl,K,X⟩;have HE:=Z K;have HF:=Z (c.o.tR X);clear K X
   go_wp2
   go_ret;exact⟨_,L2,rfl,by rw[h.o];exact HE.o,by rw[h.o];exact HF.o⟩
 .have hq1:((M.tY zg).1 != 0)=true:=by simp[B]
  have j:J.tG M a l=(zT (M.tY zg).1,J,(M.tY zg).2):=by unfold JM.tG;rw[Bl B]
  have h:=Z j;clear j B q;go_wp2_with fail;refine(YC _ _ _ w1).mono ?_;rintro e w3 ⟨v3,rfl,K,X⟩;have HE:=Z K;have HF:=Z (g.o.tR X);clear K X
  go_wp2
  go_ret;exact⟨_,L1,rfl,by rw[h.o];exact HE.o,by rw[h.o];exact HF.o⟩
theorem SU(a c k n:Nat)(J:JM)(L:DL)(M:DM)(l:List ByteArray)(w:World)(u:Blk w a [E c 0,I n] 250)(G:JRep w c k J)(C:DRep w k L M)(hn:n<1000000000000)(ht:∀ b,Fr Nil w b->Tab b)
 (X:∀ i,Fr Nil w i->Calls prog 172 #[E c 0,.string (zt true n)] i fun e b=>∃ v j,e=.returned v/\ERep b v (J.tG M (zt true n) l).1/\JStep c k L M i (J.tG M (zt true n) l).2.1 j (J.tG M (zt true n) l).2.2 b) :
 Calls prog 138 #[E a 0] w fun e b=>∃ v j,e=.returned v/\ERep b v (J.tG M (zt true n) l).1/\JStep c k L M w (J.tG M (zt true n) l).2.1 j (J.tG M (zt true n) l).2.2 b:=by
 have B:aa (∀ b,Fr Nil w b->b.cell? (Y a 0)=some (E c 0)/\b.cell? (Y a 1)=some (I n)):=fun b f=>⟨(u.fr f id).cell 0,(u.fr f id).cell 1⟩;have m:aa (∀ i K j b,Fr Nil w i->JStep c k L M i (J.tG M (zt true n) l).2.1 j (J.tG M (zt true n) l).2.2 K->Fr Nil K b->b.cell? (Y a 0)=some (E c 0)/\b.cell? (Y a 1)=some (I n)):=fun i K j b f s f2=>by
  have h:=u.fr f id;have:=Blk.fr (h.fr s.2.2.1 (fun e=>by
   rcases e with e|e
   .exact absurd (h.ty.inj (e▸(Blk.fr G f id).ty)) O
   .exact(C.nil f).apart h.ty ae e)) f2 id
  exact⟨this.cell 0,this.cell 1⟩
 have HR:=Z X;have HJ:=Z G;have HD:=Z C;have HT:=Z ht;have a0:=B.o w (U _ _);clear u G C ht X;go_enter func138,ntmps138;go_wp2_with fail
 go_region_held3 (fun b=>b.cell? (Y a 0)=some (E c 0)/\b.cell? (Y a 1)=some (I n)) (first|assumption|go_keep|exact B.o _ zd)
  (first
  | (go_at_call 90;refine(zU _ _ _ _ HE.o).mono ?_;rintro e R ⟨v4,rfl,q,t⟩;have a3:R.cell? (Y a 0)=some (E c 0)/\R.cell? (Y a 1)=some (I n):=HZ.o _ zd;have x:=Z q;have y:aa (Fr Nil Q R):=Fr.trans zd t;clear q t)
  | (go_at_call 172;refine(HR.o _ zd).mono ?_;rintro e Q ⟨v3,T,rfl,o,g⟩;have a2:=m.o _ _ _ _ zd g (U _ _);have HZ:aa (∀ d,Fr Nil Q d->d.cell? (Y a 0)=some (E c 0)/\d.cell? (Y a 1)=some (I n)):=fun d f=>m.o _ _ _ d zd g f;have HE:=Z o;have A:aa (JStep c k L M w (J.tG M (zt true n) l).2.1 T (J.tG M (zt true n) l).2.2 Q):=(JStep.nil HJ.o HD.o zd).trans g;clear o g)
  | (go_at_call 173;refine(Ve Yq O n V _ (HT.o _ zd)).mono ?_;rintro e w2 ⟨rfl,D⟩;have r:Fr Nil w w2:=Fr.trans zd D;have a1:=B.o _ r))
 have HF:=Z (A.o.tR y.o)
 go_wp2
 go_ret;exact⟨v4,T,rfl,x.o,HF.o⟩
def DM.sX(M:DM)(D:Dir)(r:Int)(d:Bool):DM:={M with uS:=M.uS+1,uT:=r,tJ:=d,uX:=D,tB:=M.tB++[D]}
theorem Bk.sX(h:Bk M t k)(r:Int)(d:Bool)(l:M.uT<=r)(o:r<=M.uT+1)(f:D.length<=t)(g:∀ e∈D,e.2∈M.tL)(i:(D.map (·.2)).Nodup):Bk (M.sX D r d) t (k+1) where
 c0:=by have:=h.c0;show 0<=M.uS+1;omega
 uS:=by have:=h.uS;show M.uS+1<=_;omega
 f0:=h.f0
 fr:=by have:=h.fr;show M.tr<=r;omega
 rc:=by have:=h.rc;show r<=M.uS+1;omega
 r0:=h.r0
 r1:=h.r1
 part:=h.part
 qH:=h.qH
 qV:=h.qV
 qM:=h.qM
 rA:=g
 rB:=i
 tB:=by show(M.tB++[_]).length<=_;rw[CN,CQ];have:=h.tB;omega
 sD:=fun x j=>by
  have c:=h.sD x;have b:x∈M.uZ::(M.tB++[D]):=j;simp only[BC,CV,yX,ub] at b c;rcases b with e|e|e
  .exact c (.inl e)
  .exact c (.inr e)
  .rw[e];exact f
 uX:=f
theorem Jf(h:Bk M t k)(m:t<=1000000)(l:k<=2000000){a:ByteArray}{i:Nat}(q:M.uX.oH a=some i) :
 (M.sU a=(0,M.sX (M.uX.take i++M.uX.drop (i+1)) M.uT M.tJ)/\Pass M)\/(∃ d,M.sU a=(9,M.no d)/\Stop M d)\/(M.sU a=(9,M.sX (M.uX.take i++M.uX.drop (i+1)) (M.uT+1) true)/\Stop M true):=by
 unfold DM.sU;rw[q];rcases Xy h m l with⟨e,c⟩|⟨b,d,e,o,c⟩
 .refine .inl ⟨?_,c⟩
  simp only[e,Ad]
  rfl
 .exact Ot
theorem Jg(h:Bk M t k)(m:t<=1000000)(l:k<=2000000){g a:ByteArray}(j:a≠ByteArray.empty){i:Nat}(q:M.uX.oH g=some i) :
 (M.sA g a=(0,M.sX (M.uX.sV i a) M.uT M.tJ)/\Pass M)\/(∃ d,M.sA g a=(9,M.no d)/\Stop M d)\/(M.sA g a=(9,M.sX (M.uX.sV i a) (M.uT+1) true)/\Stop M true):=by
 unfold DM.sA;rw[q];simp only;rw[CW j];rcases Xy h m l with⟨e,c⟩|⟨b,d,e,o,c⟩
 .refine .inl ⟨?_,c⟩
  simp only[e,Ad]
  rfl
 .exact Ot
theorem FZ{r:Int}{c:Dir}(h:c∈(M.sX D r d).uZ::(M.sX D r d).tB):c∈M.uZ::M.tB\/c=D:=by
 have b:c∈M.uZ::(M.tB++[D]):=h;exact Gs
theorem Lk.sX{y':Lay}{p:Nat}(h:Lk M y p t k)(r:Int)(d:Bool)(J:M.uT<=r)(K:r<=M.uT+1)(N:D.length<=t)(x:y'.F0=y.F0)(c:y'.G=y.G)(g:∀ f,y'.new=some f->y.new=some f)(A:Snd M y' D y'.z):Lk (M.sX D r d) y' p t (k+1):=by
 have i:Snd (M.sX D r d) y' D y'.z:=A.tw (fun _ _=>rfl) (fun _ C=>C);have o:y'.F=y.F:=by unfold Lay.F;rw[x,c]
 have s:∀ j,left (M.sX D r d) y' j=left M y j:=fun j=>by unfold left;rw[x,c];rfl
 exact {
  bd:=h.bd.sX r d J K N A.rA A.rB
  rp:=by rw[c];exact h.rp
  qw:=by rw[c];exact h.qw
  qL:=by rw[c];exact h.qL
  qD:=by rw[c];exact h.qD
  rN:=fun e B G=>h.rN e (c▸B) (g _ G)
  bytes:=by rw[c];exact h.bytes
  ok:=by rw[c];exact h.ok
  le:=by rw[c];exact h.le
  sM:=by rw[c];exact h.sM
  rS:=by rw[o];exact h.rS
  fl:=by rw[o];exact h.fl
  ri:=i
  re:=fun u l=>by
   rcases FZ l with l|rfl
   .obtain⟨z,v,hp⟩:=h.re u l
    refine⟨z,(v.mj (y':=y') x c (fun b Q e=>(v.base b Q).new (g _ e))).tw (fun _ _=>rfl) (fun _ C=>C),by rw[s];exact hp⟩
   .refine⟨_,i,?_⟩
    rw[s];have v:y'.z.j=y.G.length:=by show y'.G.length=_;rw[c]
    rw[v];exact h.sD
  pq:=CT _ (yt _ (CX.2 rfl))
  ru:=fun e B=>by
   obtain⟨u,l,L⟩:=h.ru e (c▸B);refine⟨u,?_,L⟩;show u∈M.uZ::(M.tB++[D]);rcases BC.1 l with e|e
   .rw[e];exact CY ..
   .exact CT _ (yw _ e)}
theorem OI(g:(D.map Prod.fst).Nodup)(d:e∈D):∃ i,∃ h:i<D.length,D.oH e.1=some i/\D[i]=e/\D.Perm (e::(D.take i++D.drop (i+1))):=by
 obtain⟨i,a,rfl⟩:=Bt.1 d;have k:∀ j (b:j<D.length),j<i->D[j].1≠D[i].1:=fun j b f e=>by
  have c:(D.map Prod.fst)[j]'(by simpa using b)=(D.map Prod.fst)[i]' aQ:=by simpa using e
  have:=(uh g).1 c;omega
 refine⟨i,a,?_,rfl,?_⟩
 .unfold Dir.oH
  rw[yy];refine⟨a,by rw[zY],fun j b e=>?_⟩;exact k j V b (zY.1 e)
 .conv=>lhs;rw[<- Bo i D,BJ a]
  exact vf
theorem Snd.nM{j:Dir}{z':Dl}(h:Snd M y D z)(i:D.Perm (e::j))(l:(z.uX y.G).Perm (e::z'.uX y.G))(f:z'.i=z.i)(g:z'.j=z.j)(c:z'.base=z.base)(k:z'.sH.Sublist z.sH):Snd M y j z':=by
 refine⟨((i.symm.trans h.rJ).trans l).cons_inv,by rw[f,g];exact h.ij,by rw[g];exact h.j,fun e d=>by rw[c];exact h.low e (k.mem d),(k.map _).nodup h.qF,fun b a=>by rw[f,g];exact h.base b (c▸a),fun a=>by rw[f];exact h.bare (c▸a),?_,fun e d=>h.rA e (i.mem_iff.2 (CT _ d))⟩;have:=(i.map (·.2)).nodup_iff.1 h.rB;rw[Bw,yv] at this;exact this.2
theorem LP{p:Prop}(h:p:=by
 rw[h.ri.rJ.mem_iff];unfold Dl.uX;simp only[CV,Bb,Z1];exact .inr ⟨f,r,rfl⟩):p:=h
theorem Lk.mr{p:Nat}(h:Lk M y p t k){n:ByteArray}{l:List ByteArray}(u:(n::l).Perm y.qd) :
 ∃ y' i,M.uX.oH n=some i/\y'.F0=y.F0/\y'.G=y.G/\y'.base=y.base/\y'.i=y.i/\(∀ f,y'.new=some f->y.new=some f)/\l.Perm y'.qd/\Snd M y' (M.uX.take i++M.uX.drop (i+1)) y'.z:=by
 have A:n∈y.qd:=u.mem_iff.1 (CY ..);obtain⟨_,_,_,_,_,_,G⟩:=h.ri.sS h.rp;unfold Lay.qd at A;rcases CV.1 A with A|A
 .obtain⟨e,g,rfl⟩:=Bb.1 A
  obtain⟨K,L,ho⟩:=wE g;have hm:Xn e∈M.uX:=by
   rw[h.ri.rJ.mem_iff];unfold Dl.uX;simp only[CV,Bb];exact .inl (.inl (.inl ⟨e,g,rfl⟩))
  obtain⟨i,hi,B,_,q⟩:=OI G hm;refine⟨{y with sH:=K++L},i,B,rfl,rfl,rfl,rfl,fun _ x=>x,?_,?_⟩
  .unfold Lay.qd at u |-
   rw[ho,Bq,Bw,Be,CZ] at u;have:=(u.trans vf).cons_inv
   simpa [List.map_append,List.append_assoc] using this
  .have hs:=h.ri.nM (z':=({y with sH:=K++L}:Lay).z) q (by
    unfold Dl.uX;show(y.sH.map Xn++_++_++_).Perm (_::((K++L).map Xn++_++_++_));rw[ho,Bq,Bw,Bq];simp only[Be,CZ];exact vf) rfl rfl rfl (by show(K++L).Sublist y.sH;rw[ho];exact List.Sublist.append_left (List.sublist_cons_self _ _) _)
   exact hs.mj rfl rfl (fun b J=>(h.ri.base b J).new)
 .obtain⟨f,hf,rfl⟩:=Bb.1 A
  have r:y.new=some f:=Z1.1 hf;have hm:(zg,f)∈M.uX:=by
   exact LP
  obtain⟨i,hi,B,_,q⟩:=OI G hm;refine⟨{y with new:=none},i,B,rfl,rfl,rfl,rfl,fun _ x=>(by cases x),?_,?_⟩
  .unfold Lay.qd at u |-
   rw[r] at u;have:=(u.trans yH).cons_inv
   simpa using this
  .have hs:=h.ri.nM (z':=({y with new:=none}:Lay).z) q (by
    unfold Dl.uX;show(_++_++_++y.new.toList.map _).Perm (_::(_++_++_++[]));rw[r,Bz];exact yH) rfl rfl rfl (List.Sublist.refl _)
   exact hs.mj rfl rfl (fun b J e=>by cases e)
theorem Ans.sX(hs:Stop M d):Ans M (M.sX D (M.uT+1) d) (some 9):=Ans.no hs rfl rfl
theorem OJ(l:List ByteArray):∀ {M:DM}{y:Lay}{p t k:Nat},Lk M y p t k->t<=1000000->k+l.length<=2000000->l.Perm y.qd ->
 ∃ e c y',M.sR l=(e,c)/\Lk c y' p t (k+l.length)/\y'.F0=y.F0/\y'.G=y.G/\y'.base=y.base/\y'.i=y.i/\(∀ f,y'.new=some f->y.new=some f)/\Ans M c e/\c.room=M.room/\c.tL=M.tL/\c.sW<=M.sW/\e≠some 10/\(e=none->y'.sH=[]/\y'.new=none):=by
 induction l with
 | nil =>
  intro M y p t k h _ _ A;refine⟨none,M,y,rfl,h,rfl,rfl,rfl,rfl,fun _ x=>x,Ans.refl M,rfl,rfl,CP _,ag,fun _=>?_⟩;have g:=List.nil_perm.1 A;unfold Lay.qd at g;rw[List.append_eq_nil_iff,List.map_eq_nil_iff,List.map_eq_nil_iff] at g;refine⟨g.1,?_⟩;cases hn:y.new with
  | none=>rfl
  | some f=>rw[hn] at g;exact absurd g.2 bG
 | cons n l X =>
  intro M y p t k h G T A;rw[Bh] at T;obtain⟨y',i,S,q,s,J,K,u,q6,L⟩:=h.mr A;have o:(M.uX.take i++M.uX.drop (i+1)).length<=M.uX.length:=by rw[CN,CR,Bc];omega
  have j:(M.uX.take i++M.uX.drop (i+1)).length<=t:=CO o h.bd.uX;have a:∀ r d,(M.sX (M.uX.take i++M.uX.drop (i+1)) r d).sW<=M.sW:=fun r d=>by
   show((M.uX.take i++M.uX.drop (i+1)).map fun e=>(M.uV e.2).bytes.length).sum<=(M.uX.map fun e=>(M.uV e.2).bytes.length).sum
   conv=>rhs;rw[<- Bo i M.uX]
   rw[Bq,Bq,yF,yF];have:((M.uX.drop (i+1)).map fun e=>(M.uV e.2).bytes.length).sum<=((M.uX.drop i).map fun e=>(M.uV e.2).bytes.length).sum:=by
    by_cases m:i<M.uX.length
    .rw[BJ m,Bw,yf];omega
    .rw[BT V];exact Bg _
   omega
  unfold DM.sR;rcases Jf h.bd G V S with⟨e,v⟩|⟨d,e,b⟩|⟨e,b⟩
  .rw[e]
   simp only[Ad];have m:=h.sX (y':=y') M.uT M.tJ (yO _) V j q s u L;obtain⟨N,M2,y2,r0,r1,r2,r3,r4,r5,r6,r7,r8,r9,B,C,D⟩:=X m G V q6;refine⟨N,M2,y2,r0,?_,r2.trans q,r3.trans s,r4.trans J,r5.trans K,fun f R=>u f (r6 f R),Ans.trans (M2:=M.sX (M.uX.take i++M.uX.drop (i+1)) M.uT M.tJ) (Ans.ok v rfl rfl rfl) r7,r8,r9,CO B (a _ _),C,D⟩;rw[Bh,show k+(l.length+1)=k+1+l.length from V];exact r1
  .rw[e]
   rw[CW (fun h=>by have Q:(9:Int)=0:=h;omega)];refine⟨some 9,_,y,rfl,?_,rfl,rfl,rfl,rfl,fun _ x=>x,Ans.no b rfl rfl,rfl,rfl,CP _,ag,fun e=>by cases e⟩;exact(h.no d).pU (by rw[Bh];omega)
  .rw[e]
   rw[CW (fun h=>by have Q:(9:Int)=0:=h;omega)];have m:=h.sX (y':=y') (M.uT+1) true V V j q s u L;refine⟨some 9,_,y',rfl,?_,q,s,J,K,u,Ans.sX b,rfl,rfl,a _ _,ag,fun e=>by cases e⟩;exact m.pU (by rw[Bh];omega)
theorem Qs:((prog.info? 152).map fun i=>(i.zero.map (·.cells.size),i.size,i.bytes))=some (some 2,2,32):=bI
theorem E0(w:World)(f:Nat):(binOp .neq 146 (E f 0) (E f 0)).run prog w=.ok (.bool false) w:=by
 obtain⟨i,z,a,_⟩:=ZK Qs;have h:∀ d:Nat,(Op.equalIn (d+1) 146 (E f 0) (E f 0)).run prog w=.ok true w:=fun d=>by
  simp[Op.equalIn,run_underlying underlying146,sizeOf,typeInfo,a,run_sameAddr_same]
 simp only[binOp];simp[Op.equal,Op.maxDepth,h 9999]
theorem Gv{f g:Nat}{k:List Value}(l:Blk w f c 152)(m:Blk w g k 152)(b:f≠g) :
 (binOp .neq 146 (E f 0) (E g 0)).run prog w=.ok (.bool true) w:=by
 obtain⟨i,z,o,_,hs,_⟩:=ZK Qs;have j:i.size≠0:=V
 have a:((Y f 0):Addr)≠⟨g,0,none⟩:=fun e=>b (AB Addr.block e);have h:∀ d:Nat,(Op.equalIn (d+1) 146 (E f 0) (E g 0)).run prog w=.ok false w:=fun d=>by
  simp[Op.equalIn,run_underlying underlying146,sizeOf,typeInfo,o,j,run_sameAddr_other w a l m]
 simp only[binOp];simp[Op.equal,Op.maxDepth,h 9999]
structure Yv(w0 w:World)(bo bm:Nat)(M:DM)(ps0:List (Nat × Nat))(vo0 vm0:Value)(d:Dir)(k:Nat)(l:Value)(w':World):Prop where
 ex:∃ ps vo vm fV d',Twin w0 w' bo bm M (ps.map Prod.fst) ps vo vm fV/\(∀ p,p∈ps0->p∈ps)/\ps.length<=ps0.length+k/\d'.length=k /\
  (∀ i (h1:i<d.length)(h2:i<d'.length),d'[i].1=d[i].1/\(d[i].2,d'[i].2)∈ps)/\w'.ownsRow 0 148 2 l k (flat d') /\
  (∀ j,vo.ownBlock=some j->vo0.ownBlock=some j\/w.heap.size<=j)/\(∀ j,vm.ownBlock=some j->vm0.ownBlock=some j\/w.heap.size<=j)
 new:∀ j,l.ownBlock=some j->w.heap.size<=j
 fr:Fr (fun j=>j=bo\/j=bm\/vo0.ownBlock=some j\/vm0.ownBlock=some j) w w'
theorem Twin.qv{d u:World}{j g:Nat}{q:List Nat}{r:List (Nat × Nat)}{t l:Value}{o:Nat->Value}{B:List Value}(h:Twin d w j g M q r t vm o)
 (b:w.ownsRow 0 148 2 l n B)(A:∀ k,l.ownBlock=some k->d.heap.size<=k)(f:Fr (fun k=>l.ownBlock=some k) w u) :
 Twin d u j g M q r t vm o :=
 {h with
  co:=h.co.fr f (zh b h.co O)
  cm:=h.cm.fr f (zh b h.cm O)
  old:=ze h.old f (fun _ a e=>Zf b h.old O e a)
  rG:=ze h.rG f (fun _ a e=>Zf b h.rG O e a)
  tw:=fun p c=>(h.tw p c).fr f (zh b (h.tw p c) O)
  sq:=fun p c=>ze (h.sq p c) f (fun _ a e=>Zf b (h.sq p c) O e a)
  fr:=Fr.tk h.fr f (fun k y a=>absurd (A k a) V)}
theorem Yv.step{A W W1 Q:World}{C B:Nat}{h f:List (Nat × Nat)}{q o N l l':Value}{R:Nat->Value}{d b:Dir}{g:Nat}(hk:k<d.length)(h0:Fr Nil A w)
 (T:Twin A W C B M (f.map Prod.fst) f N vm R)(u:∀ p,p∈h->p∈f)(G:f.length<=h.length+(k+1))(r:b.length=k)
 (J:∀ i (X:i<d.length)(h2:i<b.length),b[i].1=d[i].1/\(d[i].2,b[i].2)∈f)(t:W.ownsRow 0 148 2 l k (flat b))(a:∀ j,l.ownBlock=some j->w.heap.size<=j)
 (L:∀ j,N.ownBlock=some j->q.ownBlock=some j\/w.heap.size<=j)(K:∀ j,vm.ownBlock=some j->o.ownBlock=some j\/w.heap.size<=j)
 (s:Fr (fun j=>j=C\/j=B\/q.ownBlock=some j\/o.ownBlock=some j) w W)(hg:(d[k].2,g)∈f)(x:Fr Nil W W1)
 (y:App W1 l 148 2 (k+1) (flat b++[.string d[k].1,E g 0]) l' Q) :
 Yv A w C B M h q o d (k+1) l' Q:=by
 have a1:=h0.size;have a3:=s.size;have a2:=x.size;have D:∀ j,l.ownBlock=some j->A.heap.size<=j:=fun j c=>by have:=a j c;omega
 refine⟨⟨f,N,vm,R,b++[(d[k].1,g)],(T.tW x).qv (ze t x (fun _ _=>id)) D y.fr,u,G,by simp[r],?_,?_,L,K⟩,?_,?_⟩
 .intro i X h2
  by_cases e:i<b.length
  .rw[BE e]
   exact J i X e
  .have e':i=k:=by simp at h2;omega
   subst e';rw[BV V];simp only[r,wN,AA];exact⟨trivial,hg⟩
 .have e:flat (b++[(d[k].1,g)])=flat b++[.string d[k].1,E g 0]:=by simp[flat]
  rw[e];exact y.sL
 .intro j c
  rcases y.qN with e|e
  .exact a j (by rw[<- e];exact c)
  .rw[e] at c;simp at c;omega
 .refine Fr.tk (s.trans (x.mono (fun _ _=>False.elim))) y.fr ?_
  intro j a0 c;have:=a j c;omega
theorem Twin.rL{C j a x:World}{y l f:Nat}{B t:Value}{A:Nat->Value}{c:Option Addr}{d:Nat}(T:Twin C j y l M (i.map Prod.fst++[f]) i B vm A)(q:Fr Nil j a)
 (m:App j.drew (.slice none 0 0) 5 1 (0+(M.uV f).bytes.length) ([]++u8s (M.uV f).bytes) (.slice c (0+(M.uV f).bytes.length) d) a)
 (u:App ((a.alloc (.cells #[.slice c (M.uV f).bytes.length d,I (M.uV f).uZ] 152)).alloc (.cells #[E a.heap.size 0] 146)) vm 146 1 (i.length+1)
   (ptrs (i.map Prod.snd)++[E a.heap.size 0]) t x) :
 Twin C (x.setCell (Y l 0) t) y l M ((i++[(f,a.heap.size)]).map Prod.fst) (i++[(f,a.heap.size)]) B t (fun g=>if g=a.heap.size then .slice c (M.uV f).bytes.length d else A g) /\
  Fr (fun k=>k=l\/vm.ownBlock=some k) j (x.setCell (Y l 0) t)/\(∀ k,t.ownBlock=some k->vm.ownBlock=some k\/j.heap.size<=k):=by
 have b:=m.sL;simp only[BQ,Ba] at b;have o:=m.qN;simp only[BQ] at o;have v:=(Blk.new a [.slice c (M.uV f).bytes.length d,I (M.uV f).uZ] 152).alloc (.cells #[E a.heap.size 0] 146);have s:((a.alloc (.cells #[.slice c (M.uV f).bytes.length d,I (M.uV f).uZ] 152)).alloc (.cells #[E a.heap.size 0] 146)).ownsRow 0 5 1 (.slice c (M.uV f).bytes.length d) (M.uV f).bytes.length (u8s (M.uV f).bytes) :=
  (b.alloc _).alloc _
 have h:=T.oh (v8:=.slice c (M.uV f).bytes.length d) ((q.alloc _).alloc _) s (by
  intro k r;rcases o with e|e
  .rw[e] at r;simp[Value.ownBlock] at r
  .rw[e] at r;simp at r;rw[<- r];exact CP _) v q.size u
 rw[Bq];exact h
theorem Yv.oI{C w1 S D y T X:World}{B A Q:Nat}{a x:List (Nat × Nat)}{g f R v3 v9 l l':Value}{G:Nat->Value}{d h:Dir}(hk:k<d.length)(h0:Fr Nil C w)
 (b:Yv C w B A M a g f d k l w1)(r:∀ p,p∈a->p∈x)(a0:x.length<=a.length+k)(L:h.length=k)
 (q:∀ i (J:i<d.length)(K:i<h.length),h[i].1=d[i].1/\(d[i].2,h[i].2)∈x)
 (u:∀ j,R.ownBlock=some j->g.ownBlock=some j\/w.heap.size<=j)(s:∀ j,vm.ownBlock=some j->f.ownBlock=some j\/w.heap.size<=j)
 (m:Fr Nil w1 S)(o:Fr (fun j=>j=B\/R.ownBlock=some j) S D)(v:∀ j,v3.ownBlock=some j->R.ownBlock=some j\/S.heap.size<=j)
 (T5:Twin C y B A M ((x++[(d[k].2,Q)]).map Prod.fst) (x++[(d[k].2,Q)]) v3 v9 G)(N:Fr (fun j=>j=A\/vm.ownBlock=some j) D y)(t:∀ j,v9.ownBlock=some j->vm.ownBlock=some j\/D.heap.size<=j)
 (c:y.ownsRow 0 148 2 l k (flat h))(f1:Fr Nil y T)
 (ha:App T l 148 2 (k+1) (flat h++[.string d[k].1,E Q 0]) l' X) :
 Yv C w B A M a g f d (k+1) l' X:=by
 have s1:=b.fr.size;have s2:=m.size;have s3:=o.size;refine Yv.step hk h0 T5 (fun p hp=>yw _ (r p hp)) ar L (fun i J K=>⟨(q i J K).1,yw _ (q i J K).2⟩) c b.new ?_ ?_ ?_ bG f1 ha
 .intro j hj
  rcases v j hj with e|e
  .exact u j e
  .exact .inr V
 .intro j hj
  rcases t j hj with e|e
  .exact s j e
  .exact .inr V
 .refine Fr.tk (Fr.tk (b.fr.trans (m.mono (fun _ _=>False.elim))) o ?_) N ?_
  .intro j hlt hj
   rcases hj with e|e
   .exact .inl e
   .rcases u j e with e'|e'
    .exact .inr (.inr (.inl e'))
    .omega
  .intro j hlt hj
   rcases hj with e|e
   .exact .inr (.inl e)
   .rcases s j e with e'|e'
    .exact .inr (.inr (.inr e'))
    .omega
theorem E1{A s b x:World}{d c:Nat}{C o:List Nat}{D q:List (Nat × Nat)}{y r l:Value}{B f:Nat->Value}{t:List Value}(u:Twin A s d c M C D y vm B)
 (v:Twin A b d c M o q r vm f)(m:s.ownsRow 0 148 2 l n t)(h:Fr (fun j=>j=d\/y.ownBlock=some j) s b)(i:Fr (fun j=>j=c\/vm.ownBlock=some j) b x) :
 x.ownsRow 0 148 2 l n t:=by
 have g:b.ownsRow 0 148 2 l n t:=ze m h (fun k a e=>by
  rcases e with e|e
  .subst e;exact zh m u.co O a
  .exact Zf u.old m O e a)
 exact ze g i (fun k a e=>by
  rcases e with e|e
  .subst e;exact zh g v.cm O a
  .exact Zf v.rG g O e a)
theorem E2{r a m:World}{q o g:Nat}{h:List Nat}{k:Value}{b:Nat->Value}
 (l:Twin r a q o M h i k vm b)(d:Blk a g c 148)(f:Fr (fun j=>j=o\/vm.ownBlock=some j) a m):Blk m g c 148 :=
 d.fr f (fun e=>by
  rcases e with e|e
  .exact d.ne l.cm O e
  .exact zh l.rG d O e)
structure Own(w0 w:World)(b:Nat)(L:DL)(M:DM):Prop where
 th:DRep w b L M
 fr:Fr Nil w0 w
 new:∀ k,Foot b L M k->w0.heap.size<=k
end Go.Proofs.YtkhnggkkiefcdaaGreatDoor
