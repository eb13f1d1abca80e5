/- larder: joined texts -/
import Derived.Test.YtkhnggkkiefcdaaGreatDoorALAY
namespace Go.Proofs.YtkhnggkkiefcdaaGreatDoor
open Go.RowKit Go.Shelf Proofs.Tryz
set_option maxRecDepth 100000
set_option maxHeartbeats 8000000
variable{c:List (Option (Bool × Nat))}{M:DM}{y:Lay}{p t k:Nat}
attribute [local go_sem] ye
theorem E8(b:Nat) (L M2)(M:DM)(x:Nat)(K:Nat)(n:Int)(w:World)(h:DRep w b L M)
 (a4:∀ wx,Fr Nil w wx->Calls prog 144 #[E b 0] wx fun e w'=>∃ v L2,e=.returned v/\ERep w' v (some n)/\DStep b L M wx L2 M2 w') :
 Calls prog 94 #[E b 0,I x,.func (.func 95) #[] #[],.func (.func 96) #[E K 0] #[]] w fun e w' =>
  ∃ v L',e=.returned (.tuple #[.pointer none,v])/\ERep w' v (some n)/\DStep b L M w L' M2 w':=by
 have a9:=Z a4;have HD:=Z h;clear a4 h;refine(An (n:=8)).1 ?_;refine xp func94 rfl trivial ?_ rfl;simp only[ntmps94,AQ,Bh,BU,Nat.reduceAdd,Nat.reduceSub,AY,AZ,yD,ym,Ba,CZ];have C:=Blk.new w [E b 0] 40;have f0:Fr Nil w (w.alloc (.cells #[E b 0] 40)):=(U _ _).alloc _;have s0:(w.alloc (.cells #[E b 0] 40)).heap.size=w.heap.size+1:=bG
 gi_wp2_with fail
 generalize w.alloc (.cells #[E b 0] 40)=A at C f0 s0 |-;have f1:Fr Nil A ((A.alloc (.cells #[.func (.func 95) #[] #[]] 166)).alloc (.cells #[.func (.func 96) #[E K 0] #[]] 167)):=((U _ _).alloc _).alloc _;have q:=(Blk.new A [.func (.func 95) #[] #[]] 166).alloc (.cells #[.func (.func 96) #[E K 0] #[]] 167);have d:=Blk.new (A.alloc (.cells #[.func (.func 95) #[] #[]] 166)) [.func (.func 96) #[E K 0] #[]] 167;rw[show(A.alloc (.cells #[.func (.func 95) #[] #[]] 166)).heap.size=w.heap.size+2 by simp[s0]] at d;rw[s0] at q;have s1:((A.alloc (.cells #[.func (.func 95) #[] #[]] 166)).alloc (.cells #[.func (.func 96) #[E K 0] #[]] 167)).heap.size=w.heap.size+3:=by simp[s0]
 generalize (A.alloc (.cells #[.func (.func 95) #[] #[]] 166)).alloc (.cells #[.func (.func 96) #[E K 0] #[]] 167)=B at q d f1 s1 |-;have D:=Blk.new B [.pointer none] 119;have b4:=Blk.new (B.alloc (.cells #[.pointer none] 119)) [.nilIface] 132;have s3:(B.alloc (.cells #[.pointer none] 119)).heap.size=w.heap.size+4:=by simp[s1]
 have s4:((B.alloc (.cells #[.pointer none] 119)).alloc (.cells #[.nilIface] 132)).heap.size=w.heap.size+5:=by simp[s1]
 have G:Fr Nil B ((B.alloc (.cells #[.pointer none] 119)).alloc (.cells #[.nilIface] 132)):=((U _ _).alloc _).alloc _;have D:=D.alloc (.cells #[.nilIface] 132);rw[s1] at D;rw[s3] at b4;have C:=(C.fr f1 id).fr G id;have q:=q.fr G id;have d:=d.fr G id;generalize (B.alloc (.cells #[.pointer none] 119)).alloc (.cells #[.nilIface] 132)=wc at C q d D b4 s4 G |-;have f:=(f0.trans f1).trans G;rw[show w.heap.size+1+1+1=w.heap.size+3 from rfl,show w.heap.size+1+1=w.heap.size+2 from rfl,show w.heap.size+3+1=w.heap.size+4 from rfl] at *;have HX:=Z (show w.heap.size+5=wc.heap.size from s4.symm);have l:=Z (And.intro C (And.intro q (And.intro d (And.intro D b4))));have o:=Z f;clear f0 f1 G s0 s1 s3 s4 C q d D b4 f;refine⟨trivial,?_⟩;refine(An.2 (a9.o wc o.o)).mono ?_;rintro e w1 ⟨v1,L2,rfl,X,a⟩;have s:∀ {k c t},Blk wc k c t->¬DTy t->¬Foot b L M k:=fun hb J=>(HD.o.nil o.o).apart hb.ty J;have N:=l.o.2.2.2.1.fr a.fr (s l.o.2.2.2.1 ae);have Q:=l.o.2.2.2.2.fr a.fr (s l.o.2.2.2.2 ae);have b5:w.heap.size+5<=w1.heap.size:=by rw[HX.o];exact a.fr.size
 have a8:=Z (a.of o.o);have HE:=Z X;obtain⟨k,r⟩:=X;obtain⟨t,bb,rfl⟩:=r.form;clear a s r
 gi_wp2_with fail
 refine⟨trivial,?_⟩;refine(An.2 (zU _ _ _ w1 HE.o)).mono ?_;rintro e w2 ⟨v2,rfl,a0,m⟩;have i:=N.fr m id;have j:=Q.fr m id;have z3:=i.frozen 0;have z4:=j.frozen 0;have c3:=i.cell 0;have c4:=j.cell 0;have g:=Z (a8.o.tR m);have a6:=Z a0;have a3:w.heap.size+3≠w.heap.size+4:=V
 obtain⟨k2,a2⟩:=a0;obtain⟨y,d,rfl⟩:=a2.form;have R:=(i.set 0 (.pointer none)).qv (b':=w.heap.size+4) a3 0 (.iface y (E d 0));have S:=(j.qv (b':=w.heap.size+3) (wJ a3) 0 (.pointer none)).set 0 (.iface y (E d 0));have H3:=Z R;have H4:=Z S;have fE:Fr (fun k=>k=w.heap.size+3\/k=w.heap.size+4) w2 ((w2.setCell (Y (w.heap.size+3) 0) (.pointer none)).setCell (Y (w.heap.size+4) 0) (.iface y (E d 0))) :=
  Fr.set (p:=⟨w.heap.size+4,0,none⟩) (Fr.set (p:=⟨w.heap.size+3,0,none⟩) (U _ _) (fun _=>.inl rfl) _) (fun _=>.inr rfl) _
 have u:∀ {k t},Ty w2 k t->t≠119->t≠132->¬(k=w.heap.size+3\/k=w.heap.size+4):=fun J n1 n2 e=>by
  rcases e with rfl|rfl
  .exact n1 (J.inj i.ty)
  .exact n2 (J.inj j.ty)
 have a1:ERep ((w2.setCell (Y (w.heap.size+3) 0) (.pointer none)).setCell (Y (w.heap.size+4) 0) (.iface y (E d 0))) (.iface y (E d 0)) (some n) :=
  a6.o.fr fE (fun k r=>by rcases r with e|e <;> exact u e O O)
 have T:DStep b L M w L2 M2 ((w2.setCell (Y (w.heap.size+3) 0) (.pointer none)).setCell (Y (w.heap.size+4) 0) (.iface y (E d 0))) :=
  ⟨g.o.th.fr fE (fun k r=>by
   obtain⟨t,J,hd⟩:=g.o.th.ty r;unfold DTy at hd;rcases hd with rfl|rfl|rfl|rfl|rfl <;> exact u J O O),g.o.fr.tk fE (fun k r e=>V),g.o.sd⟩
 have a7:=Z a1;have a5:=Z T;clear R S fE u a1 T a2 m N Q i j
 gi_wp2_with fail
 have e3:=H3.o.cell 0;have e4:=H4.o.cell 0;refine⟨.tuple #[.pointer none,.iface y (E d 0)],?_,_,L2,rfl,a7.o,a5.o⟩;simp only[BD,Ax] at e3 e4;simp[results,Tryz.f94,go_sem,e3,e4]
theorem Jp(S:SM)(x:Fact):(S.enter x).uR.length<=S.uR.length+1:=by
 rcases x with n|x|x|x
 .exact yc _
 .exact Ge S x.1 x.2
 .exact yc _
 .exact yc _
theorem Wz(a:List Fact):∀ S:SM,(a.foldl SM.enter S).uR.length<=S.uR.length+a.length:=by
 induction a with
 | nil=>intro S;exact CP _
 | cons x a b =>
  intro S;have c:=b (S.enter x);have d:=Jp S x;rw[BX,Bh];omega
theorem Ms{d:List (Option (Bool × Nat))}(h:(Xe d).Nodup):∃ m,Vs d m:=by
 have j:=List.mergeSort_perm (d.filterMap id) (fun a b:Bool × Nat=>decide (a.2<=b.2));have hs:=List.pairwise_mergeSort (le:=fun a b:Bool × Nat=>decide (a.2<=b.2)) (fun a b c f g=>by simp only[Bi] at f g |-;omega) (fun a b=>by simp only[Bool.or_eq_true,Bi];omega) (d.filterMap id);have l:(Xe d)=(d.filterMap id).map (·.2):=by
  unfold Xe;rw[List.map_filterMap]
  rfl
 rw[l] at h;have i:=(j.map (fun e:Bool × Nat=>e.2)).nodup_iff.2 h;refine⟨(d.filterMap id).mergeSort fun a b:Bool × Nat=>decide (a.2<=b.2),fun e=>?_,?_⟩
 .rw[j.mem_iff,vH]
  exact⟨fun⟨a,k,e⟩=>by rw[<- show a=some _ from e];exact k,fun h=>⟨_,h,rfl⟩⟩
 .rw[Af,Ao] at i
  refine(hs.and i).imp fun⟨f,g⟩=>?_;simp only[Bi] at f;omega
theorem R6{b a:List (Bool × Nat)}(h:Vs c b)(d:Vs c a):b=a :=
 Lt (fun e=>e.2) b a h.rp d.rp fun e=>by rw[h.mem,d.mem]
theorem K8(a:List (Bool × Nat))(i:Nat)(h:i<a.length):Yg (a.map ZF) i=ZF a[i]:=by
 simp[Yg,List.getD_eq_getElem?_getD,h]
def Lay.kinds(y:Lay):List (Bool × Nat):=y.base.toList.map (fun b=>(true,b.1))++(y.G.drop y.i).map fun e=>(false,e.1)
def Lay.reads(y:Lay):List Seg:=y.base.toList.map (fun b=>(b.2.2,[]))++(y.G.drop y.i).map fun e=>e.2.2
def Lay.held(y:Lay):SM:=y.F.foldl SM.enter SM.nil
theorem Lk.kinds(h:Lk M y p t k)(q:y.sH=[])(o:y.new=none)(l:c.Perm (y.z.sS y.G)):Vs c y.kinds where
 mem:=fun e=>by
  rw[l.mem_iff];unfold Lay.kinds Dl.sS;have d:y.z.sH=[]:=q;have f:y.z.new=none:=o;have g:y.z.base=y.base:=rfl;have i:(y.G.take y.z.j).drop y.z.i=y.G.drop y.i:=by show(y.G.take y.G.length).drop y.i=_;rw[Bj]
  rw[d,f,g,i];simp only[AE,Ba,Option.toList_none,Bz,CV,Bb,BZ]
 rp:=by
  unfold Lay.kinds;have hs:((y.G.drop y.i).map fun e=>(false,e.1)).Pairwise fun a b=>a.2<b.2:=by
   rw[Ao];exact h.rp.sublist (xO _ _)
  cases hb:y.base with
  | none=>simpa using hs
  | some b =>
   simp only[Option.toList_some,Bw,AE,xK,wC];refine⟨fun a j=>?_,hs⟩;obtain⟨e,m,rfl⟩:=Bb.1 j;exact(h.ri.base b hb).hi e m
theorem TK(y:Lay):Zg y.reads=(match y.base with|some b=>b.2.2|none=>[])++zv (y.G.drop y.i):=by
 unfold Lay.reads Zg zv;cases y.base <;> simp[List.map_map,Function.comp_def]
theorem RL{p:Prop}(h:p:=by
 show y.F0++zv y.G=y.F0++zv (y.G.take y.i)++_;rw[Be,<- ZL,Bo]):p:=h
theorem Lk.heldBy{M:DM}{y:Lay}{p t k:Nat}(h:Lk M y p t k):heldBy y.reads=y.held:=by
 unfold Go.Proofs.YtkhnggkkiefcdaaGreatDoor.heldBy Lay.held;rw[TK,BM];have e:y.F=y.pre y.i++zv (y.G.drop y.i):=by
  exact RL
 rw[e,BM]
 congr 1
 cases hb:y.base with
 | none =>
  obtain⟨d,f⟩:=h.ri.bare hb;have g:y.i=0:=d;rw[g];show _=(y.F0++zv (y.G.take 0)).foldl _ _;rw[f]
  rfl
 | some b=>exact(h.ri.base b hb).held
theorem GR(h:Snd M y M.uX y.z):y.qd.length<=M.uX.length:=by
 have:=h.rJ.length_eq;rw[this];unfold Lay.qd Dl.uX;show _<=(y.sH.map Xn++_++_++y.new.toList.map _).length;simp only[CN,Bm];omega
theorem QA(h:Lk M y p t k)(K:t<=990000)(J:k<=2000000):∃ l,l.Perm y.qd/\l.length<=t/\∀ b f c,DRep c b f M->(∀ d,Fr Nil c d->Tab d)->YE c ->
 Calls prog 144 #[E b 0] c fun e d=>∃ v u,e=.returned v/\ERep d v (M.sR l).1/\DStep b f M c u (M.sR l).2 d:=by
 obtain⟨x,r,a,i,j,B,_⟩:=h.ri.sS h.rp;obtain⟨L,g⟩:=Ms j;have m:=h.ri.nY a g;have G:=GR h.ri;have C:=h.bd.uX;have A:=h.bd.tB;have D:=m.length_eq;refine⟨_,m,V,fun b f c s q o=>?_⟩;refine Gu b f M _ c s V V ((Gt b f M c s x r i j (fun k n hm=>?_) V q o).mono ?_)
 .have:=h.nR h.ri (a.mem_iff.1 hm)
  omega
 .rintro e d ⟨v,ks',rfl,hk',hrow,hf,_⟩
  obtain rfl:=R6 g hk';exact⟨v,rfl,hrow,hf⟩
theorem GS(h:Lk M y p t k)(D:t<=990000)(C:y.sH=[])(B:y.new=none):∀ b m c,DRep c b m M->(∀ d,Fr Nil c d->Tab d)->YE c ->
 Calls prog 145 #[E b 0] c fun e d=>∃ j v,e=.returned (E j 0)/\Blk d j [v] 263/\Vm d v (y.kinds.map ZF)/\c.heap.size<=j/\(∀ k,v.ownBlock=some k->c.heap.size<=k)/\Fr Nil c d:=by
 obtain⟨r,q,a,f,o,s,_⟩:=h.ri.sS h.rp;have x:=h.bd.uX;intro b m c u i g;refine(Qp b m M c u r q f o (fun k n hm=>?_) V i g).mono ?_
 .have:=h.nR h.ri (a.mem_iff.1 hm)
  omega
 .rintro e d ⟨j,v,l,rfl,h1,h2,h3,h4,h5,h6⟩
  obtain⟨G,A,rfl⟩:=LN h3 h2.rp;obtain rfl:=R6 (h.kinds C B a) A;exact⟨j,v,rfl,h1,h2,h4,h5,h6⟩
def Lay.sM(y:Lay):List ((Bool × Nat) × Nat × Seg):=y.base.toList.map (fun b=>((true,b.1),b.2.1,(b.2.2,[])))++(y.G.drop y.i).map fun e=>((false,e.1),e.2.1,e.2.2)
theorem Lay.rT(y:Lay):y.kinds=y.sM.map (·.1):=by unfold Lay.kinds Lay.sM;simp[List.map_map,Function.comp_def]
theorem Lay.qf(y:Lay):y.reads=y.sM.map (·.2.2):=by unfold Lay.reads Lay.sM;simp[List.map_map,Function.comp_def]
theorem Lk.tr(h:Lk M y p t k):∀ x∈y.sM,M.uX.sF (zt x.1.1 x.1.2)=some x.2.1/\(M.uV x.2.1).bytes=ZI x.2.2/\V4 x.2.2:=fun x a=>by
 unfold Lay.sM at a;rcases CV.1 a with a|a
 .obtain⟨b,hb,rfl⟩:=Bb.1 a
  have c:=Z1.1 hb;have k:=h.ri.base b c;refine⟨Yj h.tT (h.ri.mem c),?_,k.ok,TX⟩;show(M.uV b.2.1).bytes=zK b.2.2++[];rw[Bz];exact k.bytes
 .obtain⟨e,he,rfl⟩:=Bb.1 a
  have hm:e∈y.G:=Bx he;refine⟨Yj h.tT (h.ri.pV (e:=e) ?_),h.bytes e hm,h.ok e hm⟩;show e∈(y.G.take y.G.length).drop y.i;rw[Bj];exact he
theorem Lk.nD(h:Lk M y p t k)(A:t<=990000)(i:Nat):(((Zg y.reads).take i).foldl SM.enter SM.nil).uR.length<1099511627776/\(((Zg y.reads).take i).foldl SM.enter SM.nil).uU.length<1000000:=by
 have l:=h.fl;have a:∀ c:List Fact,c.length<=3000000->(c.foldl SM.enter SM.nil).uR.length<1099511627776:=fun c u=>by
  have:=Wz c SM.nil;have s:SM.nil.uR.length=0:=rfl;omega
 have q:=(YW y y.i).length_le;have r:(zv (y.G.drop y.i)).length<=t:=by
  have e:y.F=y.pre y.i++zv (y.G.drop y.i):=by
   exact RL
  rw[e,CN] at l;omega
 rw[TK];have j:y.F=y.pre y.i++zv (y.G.drop y.i):=by
  exact RL
 cases hb:y.base with
 | none =>
  obtain⟨d,f⟩:=h.ri.bare hb;have g:y.i=0:=d;have e:y.pre y.i=[]:=by
   rw[g];show y.F0++zv (y.G.take 0)=[];rw[f]
   rfl
  rw[e,Ba] at j;simp only[Ba];refine⟨a _ aR,?_⟩;have:=h.rS i;rw[j] at this;omega
 | some b =>
  have k:=h.ri.base b hb;have x:=k.len;have o:(y.pre y.z.i).length<=y.F.length:=q;simp only;refine⟨a _ (by rw[CR,CN];omega),?_⟩;by_cases m:i<=b.2.2.length
  .rw[BR m]
   have:=k.rS i;omega
  .rw[ve,Bn V,BM,k.held,<- BM]
   have e:y.pre y.z.i++(zv (y.G.drop y.i)).take (i-b.2.2.length)=y.F.take ((y.pre y.i).length+(i-b.2.2.length)):=by
    rw[j,ve,Bn (uf _ _),Nat.add_sub_cancel_left]
    rfl
   rw[e];have:=h.rS ((y.pre y.i).length+(i-b.2.2.length));omega
theorem DT(h:Lk M y p t k)(a:Nat):JM.rn a (y.kinds.map ZF) y.reads (y.kinds.map ZF).length=JM.on a y.G false:=by
 rcases AC y.G with c|⟨r,s,c⟩
 .have hb:y.base=none:=by
   cases hb:y.base with
   | none=>rfl
   | some b =>
    have:=(h.ri.base b hb).lt;have f:y.i<y.G.length:=this;rw[c] at f;cases f
  have d:y.kinds=[]:=by unfold Lay.kinds;rw[hb,c];simp
  rw[d,c]
  rfl
 .rw[AD] at c
  have l:y.i<=r.length:=by
   rcases h.dlt with e|e
   .rw[c,CN,CQ] at e;omega
   .omega
  obtain⟨A,g⟩:∃ A,y.sM=A++[((false,s.1),s.2.1,s.2.2)]:=by
   unfold Lay.sM;rw[c,yr l,Bq,<- Be];exact⟨_,rfl⟩
  have d:y.kinds=A.map (·.1)++[(false,s.1)]:=by rw[Lay.rT,g,Bq];rfl
  have o:y.reads=A.map (·.2.2)++[s.2.2]:=by rw[Lay.qf,g,Bq];rfl
  have m:(y.kinds.map ZF).length=A.length+1:=by rw[d];simp
  rw[m,c,JM.rC];have i:Yg (y.kinds.map ZF) A.length=(s.1,zw zV s.1):=by
   rw[K8 _ _ (by rw[d];simp)];simp[d,ZF,zt]
  have j:ZJ y.reads A.length=s.2.2:=by
   unfold ZJ;rw[o,BS];simp
  show({limit:=a,tu:=(Yg (y.kinds.map ZF) A.length).1,name:=(Yg (y.kinds.map ZF) A.length).2,size:=(ZI (ZJ y.reads A.length)).length,qk:=decide (0<(ZJ y.reads A.length).2.length),tQ:=false}:JM)=_;rw[i,j]
def NM.tP(c a b:Nat)(y:Lay):NM:={tN:=c,uY:=y.held.tm,tH:=b,tf:=0,uW:=false,J:=JM.on a y.G false,S:=y.held}
end Go.Proofs.YtkhnggkkiefcdaaGreatDoor
namespace Go.Proofs.YtkhnggkkiefcdaaGreatDoor
open Go.RowKit Proofs.Tryz
set_option maxRecDepth 100000
set_option maxHeartbeats 8000000
variable{M:DM}{y:Lay}{p t:Nat}{W:WM}{F:List Fact}{N:NM}
theorem E9(b:Nat)(L:DL)(M R:DM)(node a c:Nat)(y:Lay)(hc:Zn node a c=true)(w:World)(h:DRep w b L M)
 (a4:∀ d g LS,DRep d b L M->SRep d g LS SM.nil->Fr Nil w d->Calls prog 94 #[E b 0,I a,.func (.func 95) #[] #[],.func (.func 96) #[E g 0] #[]] d fun e J =>
   ∃ t Q j,e=.returned (.tuple #[E t 0,.nilIface])/\JRep J t b (JM.on a y.G false)/\d.heap.size<=t/\DRep J b Q R/\(∀ k,Foot b Q R k->Foot b L M k\/d.heap.size<=k) /\
    SRep J g j y.held/\(∀ k,SFoot g j k->SFoot g LS k\/d.heap.size<=k)/\(∀ k,SRead j k->SRead LS k\/d.heap.size<=k)/\Fr (fun k=>SFoot g LS k\/Foot b L M k) d J) :
 Calls prog 49 #[E b 0,.agg #[I node,I a,I c]] w fun e J =>
  ∃ o,e=.returned (.tuple #[E o.nb 0,I 0])/\NRep J o (NM.tP node a c y) R/\o.db=b/\(∀ k,NFoot o R k->Foot b L M k\/w.heap.size<=k)/\(∀ k,SRead o.LS k->w.heap.size<=k)/\Fr (Foot b L M) w J:=by
 have bc:=Blk.new w [I node,I a,I c] 102;have f0:Fr Nil w (w.alloc (.cells #[I node,I a,I c] 102)):=(U _ _).alloc _;have HC:=Z (Wp node a c (w.alloc (.cells #[I node,I a,I c] 102)));rw[hc] at HC;have HH:=Z h;have a8:=Z a4;clear hc h a4;go_enter func49,ntmps49;go_wp2_with fail;generalize w.alloc (.cells #[I node,I a,I c] 102)=wc at bc f0 HC |-;refine HC.o.mono ?_;rintro e l ⟨rfl,D⟩;have p:=bc.fr D id;have F1:=f0.trans D;generalize a0:w.heap.size=u at p |-;have a5:=Z a0;clear bc f0 D a0 HC;have bs:=Blk.new l [.slice none 0 0,.slice none 0 0,I 0] 161;have f2:Fr Nil l (l.alloc (.cells #[.slice none 0 0,.slice none 0 0,I 0] 161)):=(U _ _).alloc _;have c2:=(p.fr f2 id).cell;have HR:SRep (l.alloc (.cells #[.slice none 0 0,.slice none 0 0,I 0] 161)) l.heap.size ⟨.slice none 0 0,.slice none 0 0,[]⟩ SM.nil :=
  ⟨bs,⟨Bf _ 0 _ _,List.Pairwise.nil,fun e he=>by cases he⟩,trivial,Bf _ 0 _ _⟩
 have F2:=F1.trans f2;have B:=Z (a8.o _ l.heap.size ⟨.slice none 0 0,.slice none 0 0,[]⟩ (HH.o.nil F2) HR F2);have m:=Z (p.fr f2 id);have i:=Z F2;have v:=F1.size;have b0:u<l.heap.size:=p.lt;have A:l.heap.size<(l.alloc (.cells #[.slice none 0 0,.slice none 0 0,I 0] 161)).heap.size:=bG
 have a3:∀ k,SFoot l.heap.size ⟨.slice none 0 0,.slice none 0 0,[]⟩ k->k=l.heap.size:=fun k K=>by
  rcases K with e|e|e
  .exact e
  .simp[Value.ownBlock] at e
  .simp[Value.ownBlock] at e
 have r:=Z a3;clear bs p F1 f2 HR F2 a3;go_wp2_with fail;generalize l.alloc (.cells #[.slice none 0 0,.slice none 0 0,I 0] 161)=w2 at B m i c2 A |-;generalize l.heap.size=g at B v A r b0 |-;refine B.o.mono ?_;rintro e q ⟨t,Q,j,rfl,hj,b6,a2,b1,G,b3,b4,s⟩;have F3:Fr (Foot b L M) w q:=(i.o.mono (S':=Foot b L M) (fun _ _ e=>absurd e id)).tk s (fun k K e=>e.elim (fun e=>by have:=r.o k e;omega) id);have a1:¬(SFoot g ⟨.slice none 0 0,.slice none 0 0,[]⟩ u\/Foot b L M u):=fun e=>e.elim (fun e=>by have h1:=r.o u e;omega) (fun e=>by have:=HH.o.lt e;have:=a5.o;omega);have C:=m.o.fr s a1;have HJ:=Z hj;have HS:=Z G;have a6:=Z a2;have HF:=Z F3;have HL:=Z (fun d (f:Fr Nil q d)=>UM g _ _ d (G.nil f));have HK:aa (∀ d,Fr Nil q d->d.cell? (Y u 0)=some (I node)/\d.cell? (Y u 2)=some (I c)):=fun d f=>⟨(C.fr f id).cell 0,(C.fr f id).cell 2⟩;obtain⟨k0,k2⟩:=HK.o q (U _ _);have b5:=s.size;clear hj s F3 C G a2 c2 a1 m;generalize X:y.held=S at HL HS;have a9:=Z X;clear X;go_wp2_with fail
 go_region_held3 (fun d=>d.cell? (Y u 0)=some (I node)/\d.cell? (Y u 2)=some (I c)) (first|assumption|go_keep|exact HK.o _ zd)
  (first|(go_at_call 98;refine(HL.o _ zd).mono ?_;rintro e wl ⟨rfl,b7⟩;subst wl))
 have bn:=(Blk.new q (({tN:=node,uY:=S.tm,tH:=c,tf:=0,uW:=false,J:=JM.on a y.G false,S:=S}:NM).cells {nb:=q.heap.size,jb:=t,sb:=g,db:=b,mv:=.pointer none,LS:=j,LD:=Q}) 123).drew;have T:Fr Nil q (q.alloc (.cells #[I node,E t 0,E g 0,I S.tm,I c,I 0,.pointer none,.bool false] 123)).drew:=((U _ _).alloc _).drew;have N:aa (NRep (q.alloc (.cells #[I node,E t 0,E g 0,I S.tm,I c,I 0,.pointer none,.bool false] 123)).drew {nb:=q.heap.size,jb:=t,sb:=g,db:=b,mv:=.pointer none,LS:=j,LD:=Q} (NM.tP node a c y) R):=by
  unfold NM.tP;rw[a9.o];exact⟨bn,Blk.fr HJ.o T id,HS.o.nil T,a6.o.nil T,rfl⟩
 have a7:aa (Fr (Foot b L M) w (q.alloc (.cells #[I node,E t 0,E g 0,I S.tm,I c,I 0,.pointer none,.bool false] 123)).drew):=HF.o.trans (T.mono (S':=Foot b L M) (fun _ _ e=>absurd e id));have b2:=HF.o.size;clear bn T
 go_wp2
 go_ret2;refine⟨_,rfl,N.o,rfl,fun k K=>?_,fun k K=>?_,a7.o⟩
 .rcases K with e|e|e|e|e
  .exact .inr (by rw[e];exact b2)
  .exact .inr (by rw[e];have:=i.o.size;simp only;omega)
  .rcases b3 k e with e|e
   .exact .inr (by rw[r.o k e];exact v)
   .exact .inr (CO i.o.size e)
  .exact(b1 k e).imp id (fun e=>CO i.o.size e)
  .cases e
 .rcases b4 k K with e|e
  .obtain⟨x,hx,_⟩:=e
   cases hx
  .exact CO i.o.size e
theorem DU(p:zy)(B b:Nat)(L:DL)(M S:DM)(node a c:Nat)(n:Int)(hc:Zn node a c=true)(w:World)(h:DRep w b L M)(f:Xr B w)(X:B<=w.heap.size)(d:∀ k,Foot b L M k->B<=k)
 (r:∀ C sb,DRep C b L M->Fr Nil w C->Calls prog 94 #[E b 0,I a,.func (.func 95) #[] #[],.func (.func 96) #[E sb 0] #[]] C fun e y =>
   ∃ v G,e=.returned (.tuple #[.pointer none,v])/\ERep y v (some n)/\DStep b L M C G S y) :
 Calls prog 49 #[E b 0,.agg #[I node,I a,I c]] w fun e y =>
  ∃ G,e=.returned (.tuple #[.pointer none,I n])/\DStep b L M w G S y:=by
 have J:=Blk.new w [I node,I a,I c] 102;have K:Fr Nil w (w.alloc (.cells #[I node,I a,I c] 102)):=(U _ _).alloc _;have x:=Z (Wp node a c (w.alloc (.cells #[I node,I a,I c] 102)));rw[hc] at x;have HH:=Z h;have D:=Z r;have g:=Z (And.intro f (And.intro X d));clear hc h r f X d;go_enter func49,ntmps49;go_wp2_with fail;generalize w.alloc (.cells #[I node,I a,I c] 102)=wc at J K x |-;refine x.o.mono ?_;rintro e A ⟨rfl,j⟩;have i:=J.fr j id;have R:=K.trans j;generalize Q:w.heap.size=cb at i |-;have N:Fr Nil A (A.alloc (.cells #[.slice none 0 0,.slice none 0 0,I 0] 161)):=(U _ _).alloc _;have T:=(i.fr N id).cell;have u:=R.trans N;have m:=Z (D.o _ A.heap.size (HH.o.nil u) u);have l:=Z u;clear J K j Q x i R N u;go_wp2_with fail;generalize A.alloc (.cells #[.slice none 0 0,.slice none 0 0,I 0] 161)=w2 at m l T |-;refine m.o.mono ?_;rintro e w3 ⟨v3,L3,rfl,hE,s⟩;have o:=Z (s.of l.o);have HE:=Z hE;obtain⟨k,hk⟩:=hE;obtain⟨t,bb,rfl⟩:=hk.form;clear s hk T;go_wp2_with fail;refine(p B w3 _ n (g.o.1.fr g.o.2.1 o.o.fr g.o.2.2) HE.o).mono ?_;rintro e w4 ⟨rfl,q⟩;have HF:=Z (o.o.tR q);clear q
 go_wp2
 go_ret2;exact⟨L3,rfl,HF.o⟩
theorem N4(X:zy)(B:Nat)(M:DM)(node a j:Nat)(y:Lay)(p t:Nat)(hc:Zn node a j=true)(hl:Lg M y p t)(ht:t<=980000) :
 ∃ C q c,(Lg q c p (t+1)/\c.F=y.F/\Ans M q C/\q.room=M.room/\q.tL=M.tL/\q.sW<=M.sW/\C≠some 10/\(C=none->c.new=none))/\∀ b L w,DRep w b L M->Yr B w->B<=w.heap.size->(∀ k,Foot b L M k->B<=k)->Calls prog 49 #[E b 0,.agg #[I node,I a,I j]] w fun e A =>
  (C=none/\∃ u,e=.returned (.tuple #[E u.nb 0,I 0])/\NRep A u (NM.tP node a j c) q/\u.db=b/\(∀ k,NFoot u q k->Foot b L M k\/w.heap.size<=k)/\(∀ k,SRead u.LS k->w.heap.size<=k)/\Fr (Foot b L M) w A) \/
  (∃ n S,C=some n/\e=.returned (.tuple #[.pointer none,I n])/\DStep b L M w S q A):=by
 obtain⟨l,a2,a6,Q⟩:=QA hl V O;obtain⟨C,q,c,q0,q1,q2,q3,q4,q5,q6,q7,q8,q9,a4,a5,a0⟩:=OJ l hl V V a2;have d:=q1.pf V;have hF:c.F=y.F:=by unfold Lay.F;rw[q2,q3]
 rw[q0] at Q;refine⟨C,q,c,⟨d,hF,q7,q8,q9,a4,a5,fun e=>(a0 e).2⟩,fun b L w h g K o=>?_⟩;have D:∀ J,Fr Nil w J->(∀ A,Fr Nil J A->Tab A)/\YE J:=fun J f=>⟨fun A f'=>(g.fr K (f.trans f') (fun _ e=>absurd e id)).1.1,(g.fr K f (fun _ e=>absurd e id)).2.1⟩;cases C with
 | none =>
  obtain⟨ho,hn⟩:=a0 rfl;refine(E9 b L M q node a j c hc w h (fun J sb LS T hs f=>?_)).mono (fun e A hp=>.inl ⟨rfl,hp⟩);have:=M7 b L q M a sb LS (c.kinds.map ZF) c.reads J T hs
   (fun G r=>(Q b L G (T.nil r) (D G (f.trans r)).1 (D G (f.trans r)).2).mono (by
     rintro e A ⟨v,S,rfl,hE,a3⟩;have hv:v=.nilIface:=hE;subst hv;exact⟨S,rfl,a3⟩))
   (fun G L2 a1 r=>GS d V ho hn b L2 G a1
     (fun A f'=>((g.fr K f (fun _ e=>absurd e id)).fr (CO K f.size) (r.trans (f'.mono (S':=Foot b L M) (fun _ _ e=>absurd e id))) o).1.1)
     ((g.fr K f (fun _ e=>absurd e id)).fr (CO K f.size) r o).2.1)
   (by rw[Lay.rT,Lay.qf];simp) (by
     have h1:=d.bd.uX;have R:=d.ri.rJ.length_eq;unfold Dl.uX at R;simp only[CN,Bm] at R;unfold Lay.kinds;have C:((c.G.take c.z.j).drop c.z.i)=c.G.drop c.i:=by show(c.G.take c.G.length).drop c.i=_;rw[Bj]
     rw[C] at R;simp only[CN,Bm];have e3:c.z.base=c.base:=rfl;rw[e3] at R;omega)
   (fun i hi=>by
     have N:i<c.sM.length:=by rw[Bm,Lay.rT,Bm] at hi;exact hi
     obtain⟨f1,r,_⟩:=d.tr _ (CU N);refine⟨c.sM[i].2.1,?_,?_⟩
     .rw[K8 _ _ (by rw[Lay.rT];simpa using N)]
      simp only[Lay.rT,BB];exact f1
     .rw[r]
      unfold ZJ;rw[Lay.qf,BS,List.getElem?_map,CS N]
      rfl)
   (fun s hs=>by
     rw[Lay.qf] at hs;obtain⟨x,hx,rfl⟩:=Bb.1 hs;exact(d.tr x hx).2.2)
   (fun i=>d.nD V i)
  rw[DT d,d.heldBy] at this;exact this
 | some n =>
  refine(DU X B b L M q node a j n hc w h g.1 K o (fun J sb T f=>?_)).mono (fun e A ⟨S,h1,R⟩=>.inr ⟨n,S,rfl,h1,R⟩);exact E8 b L q M a sb n J T (fun G r=>(Q b L G (T.nil r) (D G (f.trans r)).1 (D G (f.trans r)).2))
theorem GT{w:World}{b:Nat}{L:DL}(h:DRep w b L M)(s:Lg M y p t)(x:t<=990000) :
 Calls prog 54 #[E b 0] w fun e o=>∃ i k j,e=.returned (E i 0)/\Own w o i k (M.sG j)/\Pairs M j:=by
 have c:=s.bd;have m:=c.qM;have l:=c.tB;refine(Ji w b L M h V (fun d q=>?_) V (fun f r=>by have:=c.uV r;omega)).mono ?_
 .rcases BC.1 q with e|e
  .rw[e];have:=c.uX;omega
  .have:=c.sD d e;omega
 .rintro e o ⟨i,k,j,g,ho,h1,h2,h3,h4⟩
  exact⟨i,k,j,g,ho,h1,h2,fun p u=>(h3 p u).1,fun D a e g=>by
   rcases BC.1 a with rfl|a
   .exact h4 e (.inl g)
   .rcases BC.1 a with rfl|a
    .exact h4 e (.inr (.inl g))
    .exact h4 e (.inr (.inr ⟨D,a,g⟩))⟩
theorem Ea(y:Lay):y.held=atF y.F y.F.length:=by
 unfold atF Lay.held;rw[Bj]
theorem Lg.tP(h:Lg M y p t)(d:y.new=none)(c a b:Nat)(P:Prop):Kp (NM.tP c a b y) M y.F p t P :=
 ⟨⟨y,h,rfl,fun _=>⟨⟨by rw[show(NM.tP c a b y).J=JM.on a y.G false from rfl,JM.oK,JM.nt],fun e=>by rw[show(NM.tP c a b y).J=JM.on a y.G false from rfl,JM.nt] at e;cases e⟩,d⟩⟩,Ea y⟩
theorem N7(b:Nat)(node a c:Int)(f:Zn node a c=false)(w:World) :
 Calls prog 49 #[E b 0,.agg #[I node,I a,I c]] w fun e i=>e=.returned (.tuple #[.pointer none,I 1])/\Fr Nil w i:=by
 have d:=Z (Wp node a c (w.alloc (.cells #[I node,I a,I c] 102)));rw[f] at d;clear f;go_enter func49,ntmps49
 go_wp2_with (refine d.o.mono ?_;rintro e j ⟨rfl,g⟩;have h:=Z g;clear g)
 go_ret2;exact⟨rfl,((U _ _).alloc _).trans h.o⟩
def R7:ByteArray:={data:=#[97]}
def XY:ByteArray:={data:=#[97,32,116,114,105,97,108]}
structure Sane(S:SM)(t:Nat):Prop where
 held:Zc S
 tm:S.tm<=16*t
 uR:S.uR.length<=t
theorem Sane.tU{S:SM}{u:Nat}(h:Sane S t)(a:t<=u):Sane S u:=⟨h.held,by have:=h.tm;omega,by have:=h.uR;omega⟩
theorem GU{p:Prop}(h:p:=by
 rw[k6,k7,Yl key _ D,Yl key _ D];simp only[vi,Aa,Ya,CN,CQ]):p:=h
theorem Sh.mm(h:Sh W M F p t):p<=F.length/\Sane (atF F F.length) t:=by
 obtain⟨y,hl,hf⟩:=h.lg;have o:p<=F.length:=by rw[<- hf];exact hl.pz
 have L:=h.cm.uS;refine⟨o,?_⟩;have key:∀ T,Hist W.st F p T->(atF F F.length).uR.length<=t:=fun T s=>by
  obtain⟨j,_,f,_⟩:=s;obtain⟨m,hm,hr⟩:=f F.length o (CP _);rw[<- hr.1];exact(h.cm.qe m (AV hm)).uR
 rcases h.all with⟨k,f⟩|⟨_,st,m,n,a,F0,x,hF,A,q,B,l,_⟩
 .have:=k F.length o (CP _)
  exact⟨this.1,by have:=this.2.2.1;omega,f.elim (key _) (fun x=>key _ x.2)⟩
 .have:=l F.length o (CP _)
  refine⟨this.1,by have:=this.2.2.1;omega,?_⟩;obtain⟨K,key,v,D,k2,k3,k4,k5,k6,k7,k8⟩:=q;have c:(atF F F.length).uR.length=m.uR.length:=by
   exact GU
  rw[c];exact(h.cm.qe m (by rw[a];simp)).uR
theorem DV(o:Zc N.S)(j:N.tN<4)(i:N.uY<100000000000)(key a:ByteArray)(hs:a.size<=128) :
 (∀ b:NM,b.S.uR=N.S.uR->b.tN=N.tN->putV key a b (N.uY+1)=putV key a N (N.uY+1))/\(∀ u∈putV key a N (N.uY+1),VOk u)/\(putV key a N (N.uY+1)).length<=4:=by
 have d:∀ u∈zn N.S.uR key,u.Nat:=fun u c=>((o.get key).2.2 u c).oR;refine⟨fun b f g=>?_,fun u c=>?_,by unfold putV;simp⟩
 .unfold putV
  rw[f,g]
 .unfold putV at c
  rw[CX] at c;subst c;exact GJ
theorem Eb(F G:List Fact):(atF (F++G) (F++G).length).uR.length<=(atF F F.length).uR.length+G.length:=by
 unfold atF;rw[Bj,Bj,BM];exact Wz G _
theorem Jq{H0:Nat}(hl:Lg M y p t)(R:y.new=none)(hs:Sane y.held t)(ht:t<=950000)(n:Nat)(hn:n<4)(a b:Nat)(d:∀ g∈M.tL,g<H0)(key c:ByteArray)(s:zu key=true)(hv:c.size<=128) :
 (∀ H,H0<=H->Wq (NM.tP n a b y) M H key (putV key c))/\∀ f g,H0<=f->H0<=g->Apart2 (NM.tP n a b y) M f g->∀ (i:Int)(K:ByteArray)(G:Nat),(∀ g'∈((NM.tP n a b y).put M key c f g).2.2.2.tL,g'<G)->K.size<=64->zM i=true->((NM.tP n a b y).put M key c f g).2.2.1.uW=false->Fit ((NM.tP n a b y).put M key c f g).2.2.1 ((NM.tP n a b y).put M key c f g).2.2.2 G (.inr (.inr (.inl (i.toNat,K)))):=by
 have u:=hs.tm;have Q:=hs.uR;have k:(NM.tP n a b y).uY<100000000000:=by show y.held.tm<_;omega
 obtain⟨X,J,h3⟩:=DV (N:=NM.tP n a b y) hs.held hn k key c hv;have m:Kp (NM.tP n a b y) M y.F p t True:=hl.tP R n a b True;have q:(NM.tP n a b y).uY<(NM.tP n a b y).S.tm->Leas y.F p (NM.tP n a b y).S.tm:=fun h=>absurd h (yu _);refine⟨fun H hH=>OR m V k (CP _) q H (fun g hg=>Bv (d g hg) hH) key _ _ X (WH s J V) (Xl s J V) (by show y.held.uR.length<=_;omega) (Bg _),?_⟩;intro f g hf hg ha i K G;rcases hput:(NM.tP n a b y).put M key c f g with⟨r,e,N',M'⟩;intro o T D C;simp only at o C |-;obtain⟨L,J',S',gv,wr,M2,A,B,p',er,w,hp,hA,hB,a0,a5,_,_,_,_⟩:=Qv m V k (CP _) q rfl key (putV key c) _ f g (fun h=>by have:=d f h;omega) (fun h=>by have:=d g h;omega) ha X (Wh s J V) (R0 s J V);have S:(NM.tP n a b y).put M key c f g=(NM.tP n a b y).tG M key (putV key c) f g:=by
  unfold NM.put;rw[CW (by rw[s];decide),CW V,CW (by show ¬false=true;decide)]
 rw[S,er] at hput;obtain⟨rfl,rfl⟩:{NM.tP n a b y with J:=J',S:=S',uY:=gv,tf:=wr,uW:=L.isSome}=N'/\M2=M':=by
  simp only[Ak] at hput;exact⟨hput.2.2.1,hput.2.2.2⟩
 have he:L=none:=by
  cases L with
  | none=>rfl
  | some x=>cases C
 have j:=w.kp;have l:S'=atF (y.F++A++B) (y.F++A++B).length:=j.held;have h0:y.held=atF y.F y.F.length:=m.held;have a4:S'.uR.length<=t+2:=by
  have:=Eb y.F (A++B);rw[<- Be,<- l,<- h0] at this;rw[CN] at this;have a2:A.length<=1:=by rcases hA with e|⟨e,_⟩ <;> rw[e] <;> simp
  have a3:B.length<=1:=by rcases hB with⟨e,_⟩|⟨e,_⟩ <;> rw[e] <;> simp
  omega
 unfold zM at D;simp only[Bi] at D;have a1:(NM.tP n a b y).tf=0:=rfl;exact Tk (j.mono (fun _=>he) (CP _)) V G o _ ⟨by show i.toNat<_;omega,by show K.size<_;omega⟩ (Wg V T) (by show S'.uR.length<=_;omega) (by show wr<=_;omega)
theorem DW(o:zy)(K:Nat->Prop)(B:Nat)(L:WL)(W:WM)(LD:DL)(M:DM)(y:Lay)(p t:Nat)(w:World)(h:WAt K w L W)(hd:DRep w L.db LD M)(b4:Yr B w)(hB:B<=w.heap.size)(hl:Lg M y p t)(hs:Sane y.held t)(ht:t<=900000) :
 Calls prog 53 #[E L.wb 0] w fun e w'=>e=.returned (.tuple #[])/\Fr Nil w w':=by
 have b5:∀ wx,Fr Nil w wx->∀ k,wx.cell? (Y L.wb k)=(W.cells L)[k]?:=fun wx f=>(h.nil f).td.cell;have c1:=Z b5;have d0:=b5 w (U _ _);simp only[WM.cells] at d0;have a9:=Z b4;have C:=Z (GT hd hl V);have HR:=Z hl;have e7:aa (∀ y':Lay,y'.F=y.F->Sane y'.held t):=fun y' e=>by unfold Lay.held;rw[e];exact hs
 have s:=Z hB;clear h hd b5 b4 hB hl hs;go_enter func53,ntmps53;go_wp2_with fail;refine C.o.mono ?_;rintro e w1 ⟨A,L1,ps,rfl,a4,d7⟩;have S:∃ y1:Lay,y1.F=y.F/\Lg (((M.sG ps).ry 0).sO 0 0) y1 p t:=⟨y.sG ps,Lay.qP ps y,((HR.o.sG d7).ry 0).sO 0 0 O O⟩;obtain⟨y1,f2,S⟩:=S;generalize M.sG ps=M1 at a4 S;have X:∀ k,Foot A L1 M1 k->w.heap.size<=k:=a4.new;have c9:w.heap.size<=A:=X A .td;have HO:=Z a4;have a8:=Z X;have c0:=Z c9;have c7:=Z S;clear a4 X c9 d0 C S d7;go_wp2_with fail;refine(RY 0 w1 A L1 M1 HO.o.th).mono ?_;rintro e w2 ⟨rfl,d1,d2⟩;have e4:=Z (HO.o.fr.tk (S':=fun k=>k=A) d2 (fun i hi e=>by have:=c0.o;omega));have c2:=Z d1;clear d1 d2;go_wp2_with fail;refine(Sg 0 0 w2 A L1 (M1.ry 0) c2.o).mono ?_;rintro e w3 ⟨rfl,b6,d3⟩;have j:=Z (e4.o.tk (S':=fun k=>k=A) d3 (fun i hi e=>by have:=c0.o;omega));have m:∀ k,Foot A L1 ((M1.ry 0).sO 0 0) k->w.heap.size<=k:=a8.o;generalize (M1.ry 0).sO 0 0=M3 at b6 m c7;have e0:=Z b6;have a2:=Z m;have J:=c1.o w3 j.o;simp only[WM.cells] at J;clear b6 d3 m HO c2 a8;cases hcfg:Zn W.node 1000 0 with
 | false =>
  have a3:=Z (fun wx=>N7 A W.node 1000 0 hcfg wx);clear hcfg;go_wp2_with fail;refine(a3.o _).mono ?_;rintro e w4 ⟨rfl,N⟩;have x:=Z (j.o.trans N);clear N J;go_wp2_with fail;exact Aw (v:=.tuple #[]) af rfl ⟨rfl,x.o⟩
 | true =>
  obtain⟨n,hn,f1⟩:∃ n:Nat,W.node=n/\n<4:=by
   unfold Zn zM at hcfg;simp only[Ar,Bi] at hcfg;exact⟨W.node.toNat,V,V⟩
  rw[hn] at J hcfg;obtain⟨e1,M4,y4,⟨d6,c8,-,-,-,-,-,b2⟩,a5⟩:=N4 o B M3 n 1000 0 y1 p t hcfg c7.o V;have a5:=a5 A L1 w3 e0.o (a9.o.fr s.o j.o (fun _ e=>absurd e id)) (CO s.o j.o.size) (fun k hk=>CO s.o (a2.o k hk));have a3:=Z a5;have a1:=Z (And.intro d6 (And.intro (e7.o y4 (c8.trans f2)) b2));clear a5 d6 c8 b2;have d9:aa (∀ wx,Fr Nil w wx->wx.cell? (Y L.wb 0)=some (I n)):=fun wx f=>by rw[c1.o wx f];simp only[WM.cells,hn];rfl
  have f3:=Z hn;clear hcfg hn;go_wp2_with fail;refine a3.o.mono ?_;rintro e w4 (h4|⟨n1,L4,-,rfl,b3⟩)
  rotate_left
  .have x:=Z (j.o.tk (S':=Foot A L1 M3) b3.fr (fun i hi e=>by have:=a2.o i e;omega))
   clear b3 J;go_wp2_with fail;exact Aw (v:=.tuple #[]) af rfl ⟨rfl,x.o⟩
  obtain⟨f0,X4,rfl,b9,e9,Q,_,N⟩:=h4;have F4:=j.o.tk (S':=Foot A L1 M3) N (fun i hi e=>by have:=a2.o i e;omega);have b:∀ k,NFoot X4 M4 k->w.heap.size<=k:=fun k hk=>(Q k hk).elim (a2.o k) (fun e=>CO j.o.size e);have b7:Ye B X4 M4 w4:=⟨(a9.o.fr s.o F4 (fun _ e=>absurd e id)).1,CO s.o F4.size,fun k hk=>CO s.o (b k hk)⟩;have R:∀ g∈M4.tL,g<w4.heap.size:=fun g hg=>(b9.sf.tw g hg).lt;have a0:=Jq (H0:=w4.heap.size) a1.o.1 (a1.o.2.2 f0) (a1.o.2.1.tU (yc t)) V n f1 1000 0 R R7 XY O O;have D:=Z (WF o B X4 (NM.tP n 1000 0 y4) M4 R7 XY w4 b9 b7 (fun u hu=>((a1.o.2.1.held.get R7).2.2 u hu).node) (fun _ _ _=>a0.1 _ (CP _)));have c6:=Z a0.2;have x:=Z F4;have e2:=Z b7;have a6:=Z b;clear J b9 e9 Q N F4 b b7 R a0;unfold R7 XY at D;go_wp2_with fail;refine D.o.mono ?_;rintro e w5 ⟨f,g,X5,rfl,d4,d5,b0,c⟩;have a:=c6.o f g d4 d5 b0;unfold R7 XY at a;generalize ((NM.tP n 1000 0 y4).put M4 {data:=#[97]} {data:=#[97,32,116,114,105,97,108]} f g).2.2.1=N5 at c a;generalize ((NM.tP n 1000 0 y4).put M4 {data:=#[97]} {data:=#[97,32,116,114,105,97,108]} f g).2.2.2=M5 at c a;have F5:=x.o.tk (S':=NFoot X4 M4) c.fr (fun i hi e=>by have:=a6.o i e;omega);have q:∀ k,NFoot X5 M5 k->w.heap.size<=k:=fun k hk=>(c.sd k hk).elim (a6.o k) (fun e=>CO x.o.size e);have b8:Ye B X5 M5 w5:=e2.o.step c;have T:=c.same.nb;have l:=Z (SC o B X5 N5 M5 (((n:Int)+1)%4) XY w5 c.th b8 (fun h1 h2 h3=>a _ _ _ (fun g hg=>(c.th.sf.tw g hg).lt) h1 h2 h3));unfold XY at l;rw[T] at l;have e8:=d9.o w5 F5;have f5:IntKind.i64.wrap ((n:Int)+1)=(n:Int)+1:=by rw[Bu];omega
  have c3:=Z F5;have e3:=Z b8;have a7:=Z q;have c5:=Z T;clear c a F5 q b8 c6 D a3 d4 d5 b0 T;go_wp2_with fail;refine l.o.mono ?_;rintro e w6 ⟨f6,X6,rfl,f4,d⟩;generalize (N5.sE M5 _ _ f6).2.1=N6 at d;generalize (N5.sE M5 _ _ f6).2.2=M6 at d;have F6:=c3.o.tk (S':=NFoot X5 M5) d.fr (fun i hi e=>by have:=a7.o i e;omega);have r:∀ k,NFoot X6 M6 k->w.heap.size<=k:=fun k hk=>(d.sd k hk).elim (a7.o k) (fun e=>CO c3.o.size e);have G:=Z (Xu o B X6 N6 M6 w6 d.th (e3.o.step d));rw[d.same.nb,c5.o] at G;have e5:=Z F6;have c4:=Z r;clear d F6 r e8;go_wp2_with fail;refine G.o.mono ?_;rintro e w7 ⟨X7,rfl,d8⟩;have e6:=Z (e5.o.tk (S':=NFoot X6 M6) d8.fr (fun i hi e=>by have:=c4.o i e;omega));clear d8;go_wp2_with fail;exact Aw (v:=.tuple #[]) af rfl ⟨rfl,e6.o⟩
theorem NI.sh(h:NI W N M F p t):Sh W M F p t:=by
 obtain⟨y,b,a,_⟩:=h.kp.lg;exact⟨⟨y,b,a⟩,h.cm,h.room,.inl ⟨h.rY,.inl h.re⟩⟩
theorem Cm.rZ(h:Cm W t)(b:Bool):Cm {W with rZ:=b} t :=
 ⟨h.qe,h.uS,h.ww,h.len,h.ne,h.next,h.base,h.ow,h.ox,h.ou,h.ot,h.oo,h.oq,h.sD⟩
theorem Sh.sj(h:Sh W M F p t)(f:Int)(d:List Int):∃ D R,Sh {W with rZ:=true} (M.sj f d) D R t:=by
 obtain⟨y,N,K⟩:=h.lg;obtain⟨j,B,c,e⟩:=N.sj f d;rw[K] at c;refine⟨j.F,j.F.length,⟨j,B,rfl⟩,h.cm.rZ true,h.room,?_⟩;rcases h.all with⟨G,k⟩|⟨_,st,m,n,o,r,x,s,A,Q,l,C,g⟩
 .exact .inl ⟨G.cut c e,.inr ⟨.inl rfl,k.elim (fun k=>k.cut c e) (fun k=>k.2.cut c e)⟩⟩
 .by_cases hlen:j.F.length=F.length
  .have he:j.F=F:=c.eq_of_length hlen
   rw[he] at e |-;refine .inr ⟨.inl rfl,st,m,n,o,r,x,s,fun h=>?_,Q,l,fun q a b=>C q (CO e a) b,fun q a b=>g q (CO e a) b⟩;rw[s,CN,CQ] at h;omega
  .have hl3:j.F.length<=r.length:=by
    have u:=c.length_le;rw[s,CN,CQ] at u hlen;omega
   have i:j.F<+:r:=by
    have u:r<+:F:=by rw[s];exact xE _ _
    exact xm c u hl3
   have L:=(A (CO e hl3)).cut i e;refine .inl ⟨fun q a b=>?_,.inr ⟨.inl rfl,?_⟩⟩
   .have h5:=C q (CO e a) (CO b c.length_le)
    have J:=g q (CO e a) (CO b hl3);rw[Um c b];exact⟨h5.1,CO (xD l) h5.2.1,h5.2.2.1,J⟩
   .show Hist W.st _ _ _
    rw[o];exact L.nu m
theorem Sh.sG(h:Sh W M F p t){a:List (Nat × Nat)}(d:Pairs M a):Sh W (M.sG a) F p t:=by
 obtain⟨y,c,b⟩:=h.lg;exact⟨⟨y.sG a,c.sG d,(Lay.qP a y).trans b⟩,h.cm,h.room,h.all⟩
theorem ZB.rX{node:Int}{c d:Nat}(h:ZB node c d F p):ZB node (c+1) d F p:=fun q a b=>(h q a b).mono (yc _) (CP _) (h q a b).2.1
theorem Sh.rX(h:Sh W M F p t):Sh {W with uS:=W.uS+1} M F p (t+1):=by
 obtain⟨y,q,o⟩:=h.lg;have a:=h.cm.tU (u:=t+1) V;have f:=h.cm.uS;refine⟨⟨y,q.tU V,o⟩,⟨a.qe,bA,a.ww,a.len,a.ne,a.next,a.base,a.ow,a.ox,a.ou,a.ot,a.oo,a.oq,a.sD⟩,h.room,?_⟩;rcases h.all with⟨f,i⟩|⟨l,st,m,n,e,g,x,j,c,r,d,k,b⟩
 .exact .inl ⟨f.rX,i⟩
 .exact .inr ⟨l,st,m,n,e,g,x,j,c,r,d,k.rX,b⟩
theorem Sh.pS(h:Sh W M y.F p t)(hl:Lg M y p t)(b8:y.new=none)(A:M.tJ=false)(r f d:Nat)(b7:W.node=(r:Int))(b6:r<4)(W':WM)(hW:W'={W with uS:=W.uS+1,tq:=false,tH:=d,tf:=0}) :
 ∃ i m N g,W'.st[i]?=some m/\Zj W' (NM.tP r f d y) m=(N,some g)/\(∀ k m,i<k->W'.st[k]?=some m->Zj W' (NM.tP r f d y) m=(W'.tM,none))/\(W'.rZ=true\/i+1=W'.st.length) /\
  NI {W' with tM:=N,st:=W'.st.take i++[g],rZ:=false} (NM.tP r f d y) M y.F p (t+1):=by
 subst hW;have c:=hl.pz;have a1:Kp (NM.tP r f d y) M y.F p (t+1) ((NM.tP r f d y).uW=false):=(hl.tP b8 r f d _).mono id V;have a:(NM.tP r f d y).S=atF y.F y.F.length:=a1.held;have j:(NM.tP r f d y).uW=false:=rfl;have mk:∀ (i N:Nat) (g:LM),i<W.st.length->MOk W.node g (t+1)->Hist (W.st.take i++[g]) y.F p True->ZB W.node (W.uS+1) N y.F p ->
  NI {W with uS:=W.uS+1,tq:=false,tH:=d,tf:=0,tM:=N,st:=W.st.take i++[g],rZ:=false} (NM.tP r f d y) M y.F p (t+1):=fun i N g hi hm hh ha=>by
  have R:=h.cm.tU (u:=t+1) V;have J:=h.cm.uS;have s:=h.cm.len;have b:=ha _ c (CP _);rw[<- a] at b;exact {
   kp:=a1
   cm:=⟨fun m L=>by
    rcases CV.1 L with e|e
    .exact R.qe m (BN e)
    .rw[CX] at e;subst e;exact hm,bA,Bg _,(by show(W.st.take i++[g]).length<=_;rw[CN,CR,CQ];omega),(by show 0<(W.st.take i++[g]).length;simp),R.next,R.base,R.ow,R.ox,R.ou,R.ot,R.oo,R.oq,R.sD⟩
   room:=h.room
   re:=hh
   rY:=ha
   ro:=rfl
   tN:=b7
   nd:=b6
   tM:=b.2.1
   uY:=CP _
   oU:=fun _ X=>absurd X (yu _)
   tH:=rfl
   wr:=fun _ _=>by show 0=0%_;rw[Nat.zero_mod]
   nw:=Bg _
   tJ:=A}
 rcases h.all with⟨J,s⟩|⟨hd,st,m,n,b,F0,x,hF,a3,hz,X,ha,b9⟩
 .have h1':=J.rX
  have l:=h1' _ c (CP _);rw[<- a] at l;obtain⟨T,hh,hT⟩:∃ T:Prop,Hist W.st y.F p T/\(T\/W.rZ=true):=by
   rcases s with s|⟨hd,s⟩
   .exact⟨True,s,.inl trivial⟩
   .exact⟨False,s,.inr (hd.resolve_right (by rw[A];decide))⟩
  obtain⟨i,m,hm,hr,a8,b2,a5⟩:=hh.pS c;rw[<- a] at hr a8;have b3:=(BL.1 hm).1;exact⟨i,m,W.tM,m,hm,VF (W:={W with uS:=W.uS+1,tq:=false,tH:=d,tf:=0}) l.1 j hr,fun k m2 hk L=>OQ (W:={W with uS:=W.uS+1,tq:=false,tH:=d,tf:=0}) l.1 l.2.2.2 (h.cm.qe m2 (AV L)).zero (fun e=>a8 k m2 hk L e.2),hT.elim (fun x=>.inr (a5 x)) .inl,
   mk i W.tM m b3 ((h.cm.qe m (AV hm)).tU V) b2 h1'⟩
 .have hfell:W.rZ=true:=hd.resolve_right (by rw[A];decide)
  have a6:=ha.rX;have l:=a6 _ c (CP _);rw[<- a] at l hz;have hm:W.st[st.length]?=some m:=by rw[b];simp
  have S:(NM.tP r f d y).S.uR.length=m.uR.length:=by
   exact GD
  have a4:m.uU=(NM.tP r f d y).S.uU:=by obtain⟨K,key,v,k1,k2,k3,k4,k5,k6,k7,k8⟩:=hz;exact k8
  have a0:=h.cm.qe m (AV hm);have B:MOk W.node {m with uR:=(NM.tP r f d y).S.uR} (t+1):=⟨l.1.rp,by show(NM.tP r f d y).S.uR.length<=_;rw[S];have:=a0.uR;omega,fun e he=>by have:=(l.1.key e he).2.1;omega,a0.uU,l.1.uY.zero,a0.node⟩;have b0:=Hist.push (F:=F0) (G:=[x]) bG (fun hp=>a3 hp) (by rw[<- hF];exact c) {m with uR:=(NM.tP r f d y).S.uR} (by rw[<- hF,<- a];exact⟨rfl,a4⟩);rw[<- hF] at b0;refine⟨st.length,m,n,_,hm,TI (W:={W with uS:=W.uS+1,tq:=false,tH:=d,tf:=0}) hz X (by have:=l.2.1;have:=l.2.2.1;show n<=16*(W.uS+1);omega) j,fun k m2 hk L=>?_,.inl hfell,mk st.length n _ (by rw[b];simp) B ?_ a6⟩
  .have:=(BL.1 L).1
   have e:({W with uS:=W.uS+1,tq:=false,tH:=d,tf:=0}:WM).st.length=st.length+1:=by show W.st.length=_;rw[b];simp
   omega
  .rw[b,xR]
   exact b0
theorem NI.bd(h:NI W N M F p t):Bd M t:=by
 obtain⟨b,a,_⟩:=h.kp.lg;exact a.bd
theorem NI.tU{u:Nat}(h:NI W N M F p t)(a:t<=u):NI W N M F p u :=
 {h with kp:=h.kp.mono id a,cm:=h.cm.tU a,nw:=CO h.nw a}
theorem Sh.tU{u:Nat}(h:Sh W M F p t)(a:t<=u):Sh W M F p u:=by
 obtain⟨d,c,b⟩:=h.lg;exact⟨⟨d,c.tU a,b⟩,h.cm.tU a,h.room,h.all⟩
theorem NI.tV{bk:BK}(h:NI W N M F p t)(a:Booked W.bk bk):NI (W.tV bk) N M F p (t+1):=by
 have b:=h.cm.ow;have d:=h.cm.ox;have e:=h.cm.ou;have f:=h.cm.ot;have g:=h.cm.oo;have j:=h.cm.oq;have k:=a.vs;have l:=a.vm;have o:=a.ns;have q:=a.nm;have r:=a.hs;have s:=a.hm;have c:=h.cm.tU (u:=t+1) V;have x:=h.cm.next;exact {h with
  kp:=h.kp.mono id V
  cm:=⟨c.qe,c.uS,c.ww,c.len,c.ne,(by show W.next+1<=_;omega),c.base,(by show bk.vs.length<=_;omega),(by show bk.vm.length<=_;omega),(by show bk.ns.length<=_;omega),(by show bk.nm.length<=_;omega),(by show bk.hs.length<=_;omega),(by show bk.hm.length<=_;omega),c.sD⟩
  nw:=by have:=h.nw;omega}
theorem NI.nU(h:NI W N M F p t)(g:t<=10000000):BSmall W.bk:=by
 have a:=h.cm.ow;have b:=h.cm.ox;have c:=h.cm.ou;have d:=h.cm.ot;have e:=h.cm.oo;have f:=h.cm.oq;exact⟨V,V,V,V,V,V⟩
theorem NI.rX(h:NI W N M F p t):NI {W with uS:=W.uS+1} N M F p (t+1):=by
 have c:=h.cm.tU (u:=t+1) V;have a:=h.cm.uS;exact {h with
  kp:=h.kp.mono id V
  cm:=⟨c.qe,bA,c.ww,c.len,c.ne,c.next,c.base,c.ow,c.ox,c.ou,c.ot,c.oo,c.oq,c.sD⟩
  rY:=h.rY.rX
  nw:=by have:=h.nw;omega}
theorem NI.tY(h:NI W N M F p t)(ht:t<=980000)(g:N.uW=false) :
 ((N.tF M).1=0/\(N.tF M).2.2.uT=M.uT/\∃ l i,NI {W with st:=W.st.drop (W.st.length-1)} (N.tF M).2.1 (N.tF M).2.2 l i (t+2)) \/
   ((N.tF M).1=9/\(N.tF M).2.2.uT=M.uT+1/\(N.tF M).2.2.tr=M.tr/\∃ l i,Sh {W with tq:=true} (N.tF M).2.2 l i (t+2)/\((N.tF M).2.2.tJ=false->NI {W with tq:=true} (N.tF M).2.1 (N.tF M).2.2 l i (t+2))):=by
 obtain⟨e,D,G,i,R,w,o,y,j⟩:=OL (h.kp.mono (fun _=>g) (CP _)) V;have B:N.tF M=(Zt e,({N with J:=D}:NM).rD e,G):=by
  unfold NM.tF;rw[CW (by rw[g];decide),R]
 rw[B];simp only;have d:G.room=W.qA:=w.room.trans h.room;have c:ZB W.node W.uS W.tM F i:=fun q a b=>h.rY q (CO o a) b;have X:=h.nw;rcases w.rD.1 with⟨rfl,s,J,S⟩|⟨s,⟨rfl,J⟩|⟨rfl,_⟩⟩
 .obtain⟨ml,hml,hrel,hpos⟩:=h.re.tu h.kp.le
  have A:=j rfl;have C:W.st.drop (W.st.length-1)=[ml]:=by
   have Q:=BJ (show W.st.length-1<W.st.length from V);rw[CS V] at hml;rw[Q,BA hml,BT V]
  have f:=w.kp;refine .inl ⟨rfl,s,F,i,?_⟩;rw[C];have k:=h.cm.qe ml (AV hml);have K:=h.cm.len;exact {h with
   kp:=⟨f.lg.imp fun L x=>⟨x.1,x.2.1,fun _=>x.2.2 rfl⟩,f.held⟩
   cm:=(h.cm.tU (u:=t+2) V).rR (W':={W with st:=[ml]}) rfl (fun m hm=>by rw[CX] at hm;subst hm;exact k.tU V) (by show 1<=_;omega) (by show 0<1;omega) ((h.cm.tU (u:=t+2) V).ww) rfl rfl rfl rfl
   room:=d
   re:=by rw[A];exact Hist.qy ml hrel
   rY:=c
   ro:=by show(N.uW||false)=_;rw[Bool.or_false];exact h.ro
   oU:=fun _ v q a b=>h.oU g v q (CO o a) b
   wr:=fun _=>h.wr g
   nw:=by show N.tf<=_;omega
   tJ:=S.trans h.tJ}
 .refine .inr ⟨rfl,s,J,F,i,⟨w.kp.lg.imp fun L x=>⟨x.1,x.2.1⟩,(h.cm.tU (u:=t+2) V).rR (W':={W with tq:=true}) rfl (h.cm.tU (u:=t+2) V).qe (h.cm.tU (u:=t+2) V).len h.cm.ne (h.cm.tU (u:=t+2) V).ww rfl rfl rfl rfl,d,.inl ⟨c,.inl (h.re.mono o id)⟩⟩,fun T=>?_⟩
  have f:=w.kp;have r:(({N with J:=D}:NM).rD (some 9)).uW=true:=by show(N.uW||true)=true;rw[Bool.or_true]
  exact {h with
   kp:=⟨f.lg.imp fun L x=>⟨x.1,x.2.1,fun e=>by rw[r] at e;cases e⟩,f.held⟩
   cm:=(h.cm.tU (u:=t+2) V).rR (W':={W with tq:=true}) rfl (h.cm.tU (u:=t+2) V).qe (h.cm.tU (u:=t+2) V).len h.cm.ne (h.cm.tU (u:=t+2) V).ww rfl rfl rfl rfl
   room:=d
   re:=h.re.mono o id
   rY:=c
   ro:=r
   oU:=fun e=>by rw[r] at e;cases e
   wr:=fun e=>by rw[r] at e;cases e
   nw:=by show N.tf<=_;omega
   tJ:=T}
 .exact absurd rfl y
theorem NI.sf{M':DM}(h:NI W N M F p t)(k:∀ a,Lg M a p t->Lg M' a p t)(b:M'.uZ=M.uZ)(c:M'.uX=M.uX)(d:M'.tB=M.tB)(j:∀ g,(M'.uV g).bytes=(M.uV g).bytes)(f:M'.room=M.room)(i:M'.tJ=M.tJ):NI W N M' F p t :=
 {h with
  kp:=⟨h.kp.lg.imp fun a x=>⟨k a x.1,x.2.1,fun e=>⟨by have:=(x.2.2 e).1;unfold Jl at this |-;rw[b,c,d];exact this,(x.2.2 e).2.up (Ext.refl a) (fun g _=>j g)⟩⟩,h.kp.held⟩
  room:=f.trans h.room
  tJ:=i.trans h.tJ}
end Go.Proofs.YtkhnggkkiefcdaaGreatDoor
