/- larder: joined texts -/
import Derived.Test.YtkhnggkkiefcdaaGreatDoorALAE
import Derived.Lib.LazyBuf
namespace Go.Proofs.YtkhnggkkiefcdaaGreatDoor
open Go.RowKit Proofs.Tryz
set_option maxRecDepth 100000
set_option maxHeartbeats 8000000
variable{p:Prop}{w:World}{b:Nat}{L:SL}{a:List (ByteArray × Value)}{v:Value}{X:Nat->Prop}
def JM.nK(J:JM)(M:DM)(size:Nat):Bool:=((M.size J.name).2==0)&&((M.size J.name).1==(size:Int))
theorem IP(f g:Nat)(J:JM)(L:DL)(M:DM)(size:Nat)(w:World)(l:JRep w f g J)(p:DRep w g L M) :
 Calls prog 204 #[E f 0,I size] w fun e d=>e=.returned (.bool (J.nK M size))/\Fr Nil w d:=by
 have t:w.cell? (Y f 0)=some (E g 0):=l.cell 0;have u:w.cell? (Y f 3)=some (.string J.name):=l.cell 3;have s:aa (∀ d,Fr Nil w d->d.cell? (Y f 0)=some (E g 0)/\d.cell? (Y f 3)=some (.string J.name)):=by
  intro d v;have:=(Blk.fr l v id).cell;exact⟨by rw[this];rfl,by rw[this];rfl⟩
 have r:=Z p;unfold JM.nK;clear l p;go_enter func204,ntmps204;go_wp2_with fail
 go_region_held3 (fun d=>d.cell? (Y f 0)=some (E g 0)/\d.cell? (Y f 3)=some (.string J.name)) (first|assumption|go_keep)
  (first
  | (go_at_call 188;refine(Si J.name _ g L M (r.o.nil zd)).mono ?_;rintro e q ⟨rfl,o⟩;have c:Fr Nil w q:=Fr.trans zd o;have x:=s.o q c))
 generalize j:(M.size J.name).2=a;generalize k:(M.size J.name).1=b;have h:=Z j;have i:=Z k;clear j k;cases ha:(a==0) with
 | true =>
  have m:=Z ha
  go_wp2
  go_ret;rw[h.o,i.o,m.o];exact⟨bG,c⟩
 | false =>
  have m:=Z ha
  go_wp2
  go_ret;rw[h.o,i.o,m.o];exact⟨bG,c⟩
def JM.rM(J:JM)(M:DM)(a:ByteArray):Bool × Option Int × JM × DM :=
 if (M.add J.name a).1=0 then(true,none,{J with size:=J.size+a.size},(M.add J.name a).2)
 else if J.nK (M.add J.name a).2 (J.size+a.size)=true then(true,some (M.add J.name a).1,{J with size:=J.size+a.size},(M.add J.name a).2)
 else(false,some (M.add J.name a).1,J,(M.add J.name a).2)
def JM.append(J:JM)(M:DM)(a:ByteArray)(f:Nat):Bool × Option Int × JM × DM :=
 match (J.tS M a.size f).1 with
 | some n=>(false,some n,(J.tS M a.size f).2.1,(J.tS M a.size f).2.2)
 | none=>(J.tS M a.size f).2.1.rM (J.tS M a.size f).2.2 a
theorem IQ(h:p:=by
 go_wp2_with fail;refine(zU _ _ _ _ a6.o).mono ?_;rintro e w5 ⟨v5,rfl,b1,b4⟩;have b8:=Z b1;have HF:=Z (a7.o.tR b4);clear b1 b4
 go_wp2
 go_ret2;refine⟨f,v5,T,?_,hf,?_,?_⟩
 ·(rw[Q.o,q.o]) <;> rfl
 .rw[Q.o,q.o];exact b8.o
 .rw[Q.o,q.o];exact HF.o):p:=h
theorem XE(B x y:Nat)(J:JM)(L:DL)(M:DM)(a:ByteArray)(c2:a.size<1000000000000)(c4:J.size<1000000000000)(b5:J.tu+1<1000000000000)(w:World)(hj:JRep w x y J)(hd:DRep w y L M)(ht:Xr B w)(hB:B<=w.heap.size)(a3:∀ k,Foot y L M k->B<=k)
 (c0:(J.tA M).2.tB.length+1<=1000000000000)(c1:(J.tA M).2.uX.length+1<=1000000000000)
 (r:∀ f,w.heap.size<=f->0<=(J.tS M a.size f).2.2.part/\(J.tS M a.size f).2.1.size<1000000000000/\∀ g,g∈(J.tS M a.size f).2.2.tL->((J.tS M a.size f).2.2.uV g).bytes.length<=1000000000000) :
 Calls prog 164 #[E x 0,.string a] w fun e R =>
  ∃ f v L',e=.returned (.tuple #[.bool (J.append M a f).1,v])/\w.heap.size<=f/\ERep R v (J.append M a f).2.1/\JStep x y L M w (J.append M a f).2.2.1 L' (J.append M a f).2.2.2 R:=by
 have HM:=Z (Rq B x y J L M a.size c2 c4 b5 w hj hd ht hB a3 c0 c1);have b6:=Z r;clear hd hj ht r;go_enter func164,ntmps164;go_wp2_with fail;refine HM.o.mono ?_;rintro e w1 ⟨f,v1,L1,rfl,hf,hE,o⟩;have r:=b6.o f hf;have K:∀ n,(J.tS M a.size f).1=some n->J.append M a f=(false,some n,(J.tS M a.size f).2.1,(J.tS M a.size f).2.2):=by intro n h;unfold JM.append;rw[h]
 have G:(J.tS M a.size f).1=none->J.append M a f=(J.tS M a.size f).2.1.rM (J.tS M a.size f).2.2 a:=by intro h;unfold JM.append;rw[h]
 generalize b2:(J.tS M a.size f).2.1=c at r o K G;generalize b3:(J.tS M a.size f).2.2=i at r o K G;have D:=Z o;have a1:=Z r;cases he:(J.tS M a.size f).1 with
 | some n =>
  rw[he] at hE;have hp:=K n he;have Q:=Z hp;have HE:=Z hE;obtain⟨k,hk⟩:=hE;obtain⟨t,b,rfl⟩:=hk.form;clear he hp hk o b2 b3 r K G
  go_wp2
  go_ret2;refine⟨f,.iface t (E b 0),L1,?_,hf,?_,?_⟩
  ·(rw[Q.o]) <;> rfl
  .rw[Q.o];exact HE.o
  .rw[Q.o];exact D.o
 | none =>
  rw[he] at hE;have hp:=G he;have hv:v1=.nilIface:=hE;subst hv;have c7:w1.cell? (Y x 0)=some (E y 0):=o.1.cell 0;have c8:w1.cell? (Y x 3)=some (.string c.name):=o.1.cell 3;have Q:=Z hp;have HK:aa (∀ wx R L',DStep y L1 i wx L' (i.add c.name a).2 R->Fr Nil w1 wx->R.cell? (Y x 0)=some (E y 0)/\R.cell? (Y x 3)=some (.string c.name)):=by
   intro wx R L' N hf;have:=((Blk.fr o.1 hf id).step (o.2.1.nil hf) N ae).cell;exact⟨by rw[this];rfl,by rw[this];rfl⟩
  clear he hp hE o b2 b3 r K G;go_wp2_with fail
  go_region_held3 (fun R=>R.cell? (Y x 0)=some (E y 0)/\R.cell? (Y x 3)=some (.string c.name)) (first|assumption|go_keep)
   (first
   | (go_at_call 166;refine(YC _ _ _ _).mono ?_;rintro e w3 ⟨v3,rfl,d,a2⟩;have c5:w3.cell? (Y x 0)=some (E y 0)/\w3.cell? (Y x 3)=some (.string c.name):=HK.o _ _ _ (a9.o.tR (Fr.trans zd a2)) (U _ _);have a4:=Z d;have b9:aa (Fr Nil w2 w3):=Fr.trans zd a2;clear d a2)
   | (go_at_call 203;refine(UK c.name a _ y L1 i (D.o.2.1.nil zd) a1.o.1 V a1.o.2.2).mono ?_;rintro e w2 ⟨rfl,T,N⟩;have d0:=HK.o _ _ _ N zd;have a9:aa (DStep y L1 i w1 T (i.add c.name a).2 w2):=N.of zd;clear N))
  have l:=D.o.trans ((JStep.rP D.o.1 D.o.2.1 a9.o).tR b9.o);have c6:=a1.o.2.1;have C:=Z l;have hc:=l.1.cell;have hz:=l.1.frozen;simp only[JM.cells] at hc;have c9:IntKind.i64.wrap ((c.size:Int)+a.size)=(c.size:Int)+a.size:=by rw[Bu];omega
  have a0:JStep x y T (i.add c.name a).2 w3 {c with size:=c.size+a.size} T (i.add c.name a).2 (w3.setCell (Y x 4) (I ((c.size:Int)+a.size))) :=
   JStep.set l.1 l.2.1 4 (I ((c.size:Int)+a.size)) (J':={c with size:=c.size+a.size}) (by simp[JM.cells])
  have a8:=Z a0;clear c5 l a0;by_cases X:(i.add c.name a).1=0
  .have d:=a4.o
   unfold zT at d;rw[Bl X] at d;have hv:v3=.nilIface:=d;subst hv;have u:c.rM i a=(true,none,{c with size:=c.size+a.size},(i.add c.name a).2):=by unfold JM.rM;rw[Bl X]
   have q:=Z u;clear u X d;go_wp2_with fail;refine(zU _ _ none _ rfl).mono ?_;rintro e w4 ⟨v4,rfl,b0,j⟩;have b7:=Z b0;have HF:=Z ((C.o.trans a8.o).tR j);clear b0 j
   go_wp2
   go_ret2;refine⟨f,v4,T,?_,hf,?_,?_⟩
   ·(rw[Q.o,q.o]) <;> rfl
   .rw[Q.o,q.o];exact b7.o
   .rw[Q.o,q.o];exact HF.o
  .have d:=a4.o
   unfold zT at d;rw[CW X] at d;have a5:=Z d;obtain⟨k,hk⟩:∃ k,ZU w3 (i.add c.name a).1 k v3:=d;obtain⟨t,b,rfl⟩:=hk.form;have HH:=Z (IP x y c T (i.add c.name a).2 (c.size+a.size) w3 C.o.1 C.o.2.1);have m:((c.size+a.size:Nat):Int)=(c.size:Int)+a.size:=V
   cases hh:c.nK (i.add c.name a).2 (c.size+a.size) with
   | true =>
    have u:c.rM i a=(true,some (i.add c.name a).1,{c with size:=c.size+a.size},(i.add c.name a).2):=by unfold JM.rM;rw[CW X,Bl hh]
    have q:=Z u;rw[hh] at HH;rw[m] at HH;clear u X hk hh m;go_wp2_with fail;refine HH.o.mono ?_;rintro e w4 ⟨rfl,j⟩;have s:=C.o.tR j;have c3:=s.1.cell;have d1:=s.1.frozen;simp only[JM.cells] at c3;have A:JStep x y T (i.add c.name a).2 w4 {c with size:=c.size+a.size} T (i.add c.name a).2 (w4.setCell (Y x 4) (I ((c.size:Int)+a.size))) :=
     JStep.set s.1 s.2.1 4 (I ((c.size:Int)+a.size)) (J':={c with size:=c.size+a.size}) (by simp[JM.cells])
    have a6:=Z (ERep.oQ (a5.o.fr j (Wt.nil _)) s.1 s.2.1 A);have a7:=Z (s.trans A);clear s A j hc hz;exact IQ
   | false =>
    have u:c.rM i a=(false,some (i.add c.name a).1,c,(i.add c.name a).2):=by unfold JM.rM;rw[CW X,CW (by rw[hh];simp)]
    have q:=Z u;rw[hh] at HH;rw[m] at HH;clear u X hk hh m;go_wp2_with fail;refine HH.o.mono ?_;rintro e w4 ⟨rfl,j⟩;have a6:=Z (a5.o.fr j (Wt.nil _));have a7:=Z (C.o.tR j);clear j;exact IQ
theorem TR:((prog.info? 75).map fun i=>(i.zero.map (·.cells.size),i.size,i.bytes))=some (some 2,2,24):=bI
theorem UL(a b:List (Nat × ByteArray)):zI (a++b)=zI a++zI b:=by simp[zI]
theorem NG(l:List (Nat × ByteArray)):YI 2 0 (zI l)=zI (l.drop 1):=by
 cases l with
 | nil=>rfl
 | cons e l=>simp[YI,zI]
theorem SRep.uU{g w2:World}{S:SM}{d:Value}{hs:List (Nat × ByteArray)}(h:SRep w b L S)(f:Fr (fun k=>L.hv.ownBlock=some k) w g)(K:g.ownsRow 0 75 2 d hs.length (zI hs))
 (D:∀ k,d.ownBlock=some k->L.hv.ownBlock=some k\/w.heap.size<=k)(B:Fr Nil (g.setCell (Y b 1) d) w2):SStep w b L {S with uU:=hs} Nil w2:=by
 have s:∀ {k},L.hv.ownBlock=some k->k≠b:=fun c e=>zh h.sE h.td O (by rw[c,e]);have j:Blk g b [L.kv,L.hv,I S.tm] 161:=h.td.fr f (fun e=>s e rfl);have C:=h.td.lt;have y:∀ k,d.ownBlock=some k->k≠b:=by
  intro k c e;rcases D k c with r|r
  .exact s r e
  .omega
 have x:Fr (fun k=>k=b) g (g.setCell (Y b 1) d):=Fr.set (S:=fun k=>k=b) (U _ _) (fun _=>rfl) _;have i:WN g L.kv L.sC:=h.qi.fr f (fun k c e=>Zf h.qi.sL h.sE O c e);have o:Pair (VRow g) L.sC S.uR:=h.rq.mono (fun a _ l t=>VRow.fr t f (fun k c e=>Zf t h.sE O c e));have A:SRep (g.setCell (Y b 1) d) b {L with hv:=d} {S with uU:=hs} :=
  ⟨j.set 1 _,i.fr x (fun k c e=>zh i.sL j O (by rw[c,e])),o.mono (fun a _ l t=>VRow.fr t x (fun k c e=>zh t j O (by rw[c,e]))),ze K x y⟩
 refine⟨{L with hv:=d},A.nil B,?_,fun k c=>?_,fun k c=>.inl c⟩
 .refine((f.mono (fun k _ e=>.inr (.inr e))).tk x (fun k _ e=>.inl e)).trans (B.mono (fun _ _ e=>absurd e id))
 .rcases c with c|c|c
  .exact .inl (.inl c)
  .exact .inl (.inr (.inl c))
  .rcases D k c with r|r
   .exact .inl (.inr (.inr r))
   .exact .inr r
theorem PI(b:Nat)(L:SL)(S:SM)(w:World)(h:SRep w b L S)(B:S.uU.length<1000000) :
 Calls prog 275 #[.agg #[],E b 0] w fun e w'=>e=.returned (.tuple #[])/\SStep w b L {S with uU:=S.uU.drop 1} Nil w':=by
 have q:Fr Nil w (w.alloc (.cells #[] 135)):=(U _ _).alloc _;have r:=h.nil q;obtain⟨ha,K,i⟩:=zf h.sE;have x:∀ k,(w.alloc (.cells #[] 135)).cell? (Y b k)=[L.kv,L.hv,I S.tm][k]?:=fun k=>r.td.cell k;rw[i] at x;have HH:=Z h;have l:=Z r;have u:=Z i;clear h r i;by_cases C:S.uU.length=0
 .have hnil:S.uU=[]:=BH C
  have m:({S with uU:=S.uU.drop 1}:SM)=S:=by obtain⟨a,b,c⟩:=S;simp only at hnil;subst hnil;rfl
  rw[m];have t:¬(0:Int)<S.uU.length:=V
  clear m hnil C;go_enter func275,ntmps275
  go_wp2
  exact Aw (v:=.tuple #[]) af rfl ⟨rfl,L,l.o,q.mono (fun _ _ e=>absurd e id),fun k j=>.inl j,fun k j=>.inl j⟩
 .have t:(0:Int)<S.uU.length:=V
  go_enter func275,ntmps275;go_wp2_with fail;have s:=l.o.sE;rw[u.o] at s;refine(QQ _ S.uU.length 0 (zI S.uU) _ s (Vx _) V).mono ?_;rintro e w2 ⟨v',rfl,p,d,g⟩;rw[NG] at d;have A:(S.uU.drop 1).length=S.uU.length-1:=bG
  rw[<- A] at d;rw[<- u.o] at g p;have o:=fun w3 J=>l.o.uU (w2:=w3) g d (fun k j=>.inl (by rw[<- p];exact j)) J;have f:=l.o.td.fr g (fun e=>zh l.o.sE l.o.td O e);have M:=f.cell;have N:=f.frozen;have D:=Z o;obtain⟨va,vc,rfl⟩:=zf d;clear o s d f x
  go_wp2
  have y:=D.o _ (U _ _);rw[A] at y;obtain⟨G,Q,R,T,X⟩:=y;exact Aw (v:=.tuple #[]) af rfl ⟨rfl,G,Q,q.mono (fun _ _ e=>absurd e id) |>.trans R,fun k j=>(T k j).imp id (fun h=>CO q.size h),X⟩
theorem PJ(w:World)(v:Value)(n:Nat)(p:List Value)(h:w.ownsRow 0 75 2 v n p)(to:Nat)(a:ByteArray)(y:n<1000000)(g:World)(l:Fr Nil w g)(N:Nat)(s:Blk g N [I to,.string a] 75)(ty:TypeId) :
 ∃ c d,(Builtin.append_ #[66,66] ty #[v,.slice (some (Y N 0)) 1 1]).run prog g=.ok c d /\
  (d.ownsRow 0 75 2 c (n+1) (p++[I to,.string a])/\Fr (fun k=>v.ownBlock=some k) w d/\(∀ k,c.ownBlock=some k->v.ownBlock=some k\/w.heap.size<=k)):=by
 have t:=ze h l (fun _ _=>id);obtain⟨c,d,x,q,r,b⟩:=zq (P:=prog) 66 ty 75 2 24 yq TR V v n p t ⟨N,0,none⟩ 1 1 [I to,.string a] rfl
  (fun j u f=>by rw[BO,BQ,s.cell];exact f) (by intro u f;simp at f;rcases f with rfl|rfl <;> rfl) ac V
 refine⟨c,d,x,q,(l.mono (fun _ _ e=>absurd e id)).tk ((Fr.sB r).mono (fun i _ h=>h)) (fun i _ h=>h),fun k o=>?_⟩;rcases b with b|b
 .exact .inl (by rw[<- b];exact o)
 .rw[b] at o;simp at o;have:=l.size;exact .inr V
theorem QR(to:Nat)(a:ByteArray)(b:Nat)(L:SL)(S:SM)(w:World)(h:SRep w b L S)(p:S.uU.length<1000000) :
 Calls prog 283 #[.agg #[I to,.string a],E b 0] w fun e w'=>e=.returned (.tuple #[])/\SStep w b L {S with uU:=S.uU++[(to,a)]} Nil w':=by
 have u:Fr Nil w (w.alloc (.cells #[I to,.string a] 138)):=(U _ _).alloc _;have c:Blk (w.alloc (.cells #[I to,.string a] 138)) w.heap.size [I to,.string a] 138:=Blk.new w [I to,.string a] _;have d:=h.nil u;obtain⟨N,R⟩:∃ N,w.heap.size=N:=⟨_,rfl⟩;obtain⟨ha,C,g⟩:=zf h.sE;go_enter func283,ntmps283;go_wp2_with fail;rw[R] at c;obtain⟨i,s⟩:∃ i,w.alloc (.cells #[I to,.string a] 138)=i:=⟨_,rfl⟩;rw[s] at c u d |-;clear s R;have hc:∀ k,i.cell? (Y b k)=[L.kv,L.hv,I S.tm][k]?:=fun k=>d.td.cell k;have hz:∀ k,i.frozen? (Y b k)=false:=fun k=>d.td.frozen k;have hx:∀ k,i.cell? (Y N k)=[I to,.string a][k]?:=fun k=>c.cell k;have D:∀ (m:Obj) k,(i.alloc m).cell? (Y b k)=[L.kv,L.hv,I S.tm][k]?:=fun m k=>(d.td.alloc m).cell k;have a1:∀ (m:Obj) k,(i.alloc m).cell? (Y N k)=[I to,.string a][k]?:=fun m k=>(c.alloc m).cell k;rw[g] at hc D;have x:=d.sE;rw[g] at x;have X:=Z x;have y:aa (∀ t:World,Fr (fun k=>(Value.slice ha S.uU.length C).ownBlock=some k) i t->Blk t b [L.kv,L.hv,I S.tm] 161):=fun t f=>d.td.fr f (zh x d.td O);have T:=Z d;have HH:=Z h;have Q:=Z g;clear h d g c x
 go_region_law
  ((refine Zw bH _ _ _ _ bH _ _ bH bH (PJ i _ _ _ X.o to a p _ zd _ aC _) ?_;rintro v4 t ⟨l,j,q⟩;obtain⟨K,M,J⟩:=zf l;subst J;have o:=y.o _ j;have a0:=o.cell;have a2:=o.frozen;have B:=Z l;have A:=Z q;clear l q))
 all_goals
  go_wp2
  have hl:(S.uU++[(to,a)]).length=S.uU.length+1:=bG
  have G:t.ownsRow 0 75 2 (.slice K (S.uU.length+1) M) (S.uU++[(to,a)]).length (zI (S.uU++[(to,a)])):=by
   rw[hl,UL];exact B.o
  rw[<- Q.o] at j;have r:=A.o;rw[<- Q.o] at r;obtain⟨L',q1,q2,q3,q4⟩:=T.o.uU (w2:=_) j G r (U _ _);exact Aw (v:=.tuple #[]) af rfl ⟨rfl,L',q1,(u.mono (fun _ _ e=>absurd e id)).trans q2,fun k hk=>(q3 k hk).imp id (fun h=>CO u.size h),q4⟩
def SM.holds(S:SM)(key:ByteArray)(l:List Ver):SM:={S with uR:=if l=[] then Xh S.uR key else Ya S.uR key l}
theorem SRep.kept{g:World}{S:SM}{d:List (ByteArray × List Ver)}(h:SRep w b L S)(hs:Xc w b 161 L.kv [L.hv,I S.tm] a g)
 (o:Pair (VRow g) a d)(X:Nat->Prop)(q:∀ k,(∃ e∈a,e.2.ownBlock=some k)->SRead L k\/X k):SStep w b L {S with uR:=d} X g:=by
 obtain⟨r,j,l,i,m⟩:=hs;have f:∀ {k},L.hv.ownBlock=some k->k≠b:=fun c e=>zh h.sE h.td O (by rw[c,e]);refine⟨{L with kv:=r,sC:=a},⟨j,l,o,ze h.sE i (fun k c e=>?_)⟩,i.mono (fun k _ e=>e.imp id .inl),fun k c=>?_,fun k c=>q k c⟩
 .rcases e with e|e
  .exact f c e
  .exact Zf h.sE h.qi.sL O c e
 .rcases c with c|c|c
  .exact .inl (.inl c)
  .rcases m k c with h1|h1
   .exact .inl (.inr (.inl h1))
   .exact .inr h1
  .exact .inl (.inr (.inr c))
theorem Xc.nF{f:World}{S:SM}(h:SRep w b L S)(hs:Xc w b 161 L.kv [L.hv,I S.tm] a f){l:List Ver}(c:VRow w v l):VRow f v l:=by
 obtain⟨o,i,j,g,m⟩:=hs;refine VRow.fr c g (fun k d e=>?_);rcases e with e|e
 .exact zh c h.td O (by rw[d,e])
 .exact Zf c h.qi.sL O d e
theorem Xc.of{c a:World}{t:TypeId}{rest:List Value}{l:List (ByteArray × Value)}(h:Xc c b t v rest l a)(f:Fr Nil w c):Xc w b t v rest l a:=by
 obtain⟨v',d,g,i,o⟩:=h;exact⟨v',d,g,(f.mono (fun _ _ e=>absurd e id)).trans i,fun k j=>(o k j).imp id (fun h=>CO f.size h)⟩
theorem SStep.of{c a:World}{S:SM}(h:SStep c b L S X a)(f:Fr Nil w c):SStep w b L S X a:=by
 obtain⟨L',g,i,j,l⟩:=h;exact⟨L',g,(f.mono (fun _ _ e=>absurd e id)).trans i,fun k d=>(j k d).imp id (fun h=>CO f.size h),l⟩
theorem EZ(h:p:=by
 have a4:w0.cell? (Y N 1)=some (.slice la l.length lc):=by rw[G.cell];rfl
 have a6:aa (∀ wx w4:World,Fr Nil w0 wx->Xc wx b 161 L.kv [L.hv,I S.tm] (YB L.sC key (.slice la l.length lc)) w4->w4.cell? (Y N 0)=some (.string key)/\w4.cell? (Y N 1)=some (.slice la l.length lc)):=by
  rintro wx w4 f ⟨v',_,_,f4,_⟩;have y:=Q.nil f;have q:=G.fr f id;have b0:=q.fr f4 (fun e=>by
   rcases e with e|e
   .exact q.ne y.td O e
   .exact zh y.qi.sL q O e)
  exact⟨by rw[b0.cell];rfl,by rw[b0.cell];rfl⟩
 have H1:=Z Q;have HH:=Z h;have HL:=Z a8;clear h Q G a8
 go_region_held3 (fun w'=>w'.cell? (Y N 0)=some (.string key)/\w'.cell? (Y N 1)=some (.slice la l.length lc)) (first|go_keep|assumption)
  (first
  | (go_at_call 291;refine(KA L.kv _ L.sC key la _ lc b _ _ ((H1.o.nil zd).td) O ((H1.o.nil zd).qi) b2).mono ?_;rintro e w4 ⟨rfl,T⟩;have c3:=a6.o _ _ zd T;have a0:=Z (show Xc w0 _ _ _ _ _ w4 from T.of zd);clear T))
 have a3:SStep w0 b L {S with uR:=Ya S.uR key l} (fun k=>(Value.slice la l.length lc).ownBlock=some k) w4 :=
  H1.o.kept a0.o ((H1.o.rq.mono (fun a _ l hr=>Xc.nF H1.o a0.o hr)).set key (Xc.nF H1.o a0.o HL.o)) _ (fun k ⟨e,he,m⟩=>by
   rcases FD e he with h|h
   .exact .inl ⟨e,h,m⟩
   .subst h;exact .inr m)
 have HF:=Z (a3.of hf);clear a3;exact Rp):p:=h
theorem D0(h:p:=by
 have a6:aa (∀ wx w4:World,Fr Nil w0 wx->Xc wx b 161 L.kv [L.hv,I S.tm] (XL L.sC key) w4->w4.cell? (Y N 0)=some (.string key)):=by
  rintro wx w4 f ⟨v',_,_,f4,_⟩;have y:=Q.nil f;have q:=G.fr f id;rw[(q.fr f4 (fun e=>?_)).cell];rfl;rcases e with e|e
  .exact q.ne y.td O e
  .exact zh y.qi.sL q O e
 have H1:=Z Q;have HH:=Z h;clear h Q G
 go_region_held3 (fun w'=>w'.cell? (Y N 0)=some (.string key)) (first|go_keep|assumption)
  (first
  | (go_at_call 290;refine(QP L.kv _ L.sC key b _ _ ((H1.o.nil zd).td) O ((H1.o.nil zd).qi) b2).mono ?_;rintro e w4 ⟨rfl,T⟩;have c3:=a6.o _ _ zd T;have a0:=Z (show Xc w0 _ _ _ _ _ w4 from T.of zd);clear T))
 have a3:SStep w0 b L {S with uR:=Xh S.uR key} (fun k=>(Value.slice la l.length lc).ownBlock=some k) w4 :=
  H1.o.kept a0.o ((H1.o.rq.mono (fun a _ l hr=>Xc.nF H1.o a0.o hr)).mi key) _ (fun k ⟨e,he,m⟩=>.inl ⟨e,PF e he,m⟩)
 have HF:=Z (a3.of hf);clear a3
 go_wp2
 exact xC (v:=.tuple #[]) af rfl ⟨rfl,HF.o⟩):p:=h
theorem MY(h:p:=by
 rw[hS];clear hz hS;go_enter func287,ntmps287;go_wp2_with fail;obtain⟨N,hN⟩:∃ N,w.heap.size=N:=⟨_,rfl⟩;rw[hN] at G |-;obtain⟨w0,b6⟩:∃ w0,w.alloc (.cells #[.string key,.slice la l.length lc] 193)=w0:=⟨_,rfl⟩;rw[b6] at G hf Q a8 |-;clear b6 hN;have c6:w0.cell? (Y N 0)=some (.string key):=by rw[G.cell];rfl
 first
  | (clear b9;exact D0)
  | exact EZ):p:=h
theorem PK(key:ByteArray)(lv:Value)(l:List Ver)(b:Nat)(L:SL)(S:SM)(w:World)(h:SRep w b L S)(hl:VRow w lv l)(b3:S.uR.length<1099511627776) :
 Calls prog 287 #[.agg #[.string key,lv],E b 0] w fun e w'=>e=.returned (.tuple #[])/\SStep w b L (S.holds key l) (fun k=>lv.ownBlock=some k) w':=by
 obtain⟨la,lc,rfl⟩:=zf hl;have hf:Fr Nil w (w.alloc (.cells #[.string key,.slice la l.length lc] 193)):=(U _ _).alloc _;have G:Blk (w.alloc (.cells #[.string key,.slice la l.length lc] 193)) w.heap.size [.string key,.slice la l.length lc] 193:=Blk.new w [.string key,.slice la l.length lc] _;have Q:=h.nil hf;have a8:VRow (w.alloc (.cells #[.string key,.slice la l.length lc] 193)) (.slice la l.length lc) l:=VRow.fr hl hf (fun _ _=>id);have b2:L.sC.length<1099511627776:=by rw[h.rq.length];exact b3
 by_cases hz:l=[]
 .have hz0:((l.length:Int)==0)=true:=by rw[hz];rfl
  have hS:S.holds key l={S with uR:=Xh S.uR key}:=by simp[SM.holds,hz]
  have b9:=0;exact MY
 .have hz0:((l.length:Int)==0)=false:=by
   have:l.length≠0:=fun e=>hz (BH e);simp;omega
  have hS:S.holds key l={S with uR:=Ya S.uR key l}:=by simp[SM.holds,hz]
  exact MY
theorem Cs:((prog.info? 75).map fun i=>(i.zero.map (·.cells.size),i.size,i.bytes))=some (some 2,2,24):=bI
theorem IR(h:p:=by
 intro j u M;have a0:=(BL.1 M).1;rw[BO,BQ,(G.alloc _).cell];rw[<- R,AO V] at M;exact M):p:=h
theorem IU(h:p:=by
 go_wp2_with (at_builtin;go_must (refine zm rfl _ _ _ _ rfl _ _ bH bH (x _) ?_);rintro b f T)
 go_ret;exact Q.o _ _ T):p:=h
theorem MZ(h:p:=by
 rcases C with C|C
 .rw[C] at B;simp[Value.ownBlock] at B;omega
 .rw[C] at B;simp at B;omega):p:=h
theorem L8(h:p:=by
 go_wp2
 go_ret;exact⟨_,rfl,Bf w 0 _ _,U _ _,fun k B=>by simp[Value.ownBlock] at B⟩):p:=h
theorem PL(v:Value)(n:Nat)(o:List Value)(w:World)(d:w.ownsRow 0 75 2 v n o)(J:∀ u∈o,u.oneCell'=true)(D:n*24<=140737488355328) :
 Calls prog 128 #[v] w fun e f =>
  ∃ b,e=.returned b/\f.ownsRow 0 75 2 b n o/\Fr Nil w f/\(∀ k,b.ownBlock=some k->w.heap.size<=k):=by
 have N:∀ (w:World) (a:Option Addr) (n c:Nat),(binOp .eql 66 (.slice a n c) (.slice none 0 0)).run prog w=.ok (.bool a.isNone) w:=fun w a n c=>by exact Lib.run_eql_slice_nil (h:=yq) ..
 rcases YG d with⟨rfl,rfl,rfl⟩|⟨g,r,c,rfl,G,hn,y,K,R⟩
 .go_enter func128,ntmps128
  exact L8
 .have hl:=d.1
  have t:Blk (w.alloc (.cells #[] 75)) w.heap.size [] 75:=Blk.new w [] _;have s:(w.alloc (.cells #[] 75)).ownsRow 0 75 2 (.slice (some (Y w.heap.size 0)) 0 0) 0 []:=Yw t (CP _) (Bg _) bG bG;have m:∀ j u,o[j]?=some u->(w.alloc (.cells #[] 75)).cell? (((Y g 0):Addr).add j)=some u:=by
   exact IR
  have x:∀ ty,∃ b f,(Builtin.append_ #[66,66] ty #[.slice (some (Y w.heap.size 0)) 0 0,.slice (some (Y g 0)) n r]).run prog (w.alloc (.cells #[] 75))=.ok b f/\App (w.alloc (.cells #[] 75)) (.slice (some (Y w.heap.size 0)) 0 0) 75 2 (0+n) ([]++o) b f:=fun ty =>
   zq (P:=prog) 66 ty 75 2 24 yq Cs V _ 0 [] s ⟨g,0,none⟩ n r o hl m J (by unfold maxLen at *;omega) V
  have l:∀ b f,App (w.alloc (.cells #[] 75)) (.slice (some (Y w.heap.size 0)) 0 0) 75 2 (0+n) ([]++o) b f ->
   ∃ q,Ending.returned b=.returned q/\f.ownsRow 0 75 2 q n o/\Fr Nil w f/\(∀ k,q.ownBlock=some k->w.heap.size<=k):=by
   rintro b f ⟨L,A,C⟩;refine⟨b,rfl,by simpa using L,((U Nil w).alloc _).tk ((Fr.sB A).mono (fun i _ h=>h)) (fun i X h=>?_),fun k B=>?_⟩
   .simp[Value.ownBlock] at h;omega
   .exact MZ
  have Q:=Z l;clear l m s t d G;unfold maxLen at y;go_enter func128,ntmps128;exact IU
abbrev Fact:=Sum Nat (Sum (ByteArray × List Ver) (Sum (Nat × ByteArray) Unit))
def FRep(w:World)(a:Value):Fact->Prop
 | .inl n=>a=.iface 220 (.agg #[I n])
 | .inr (.inl x)=>∃ b,a=.iface 193 (.agg #[.string x.1,b])/\VRow w b x.2
 | .inr (.inr (.inl x))=>a=.iface 138 (.agg #[I x.1,.string x.2])
 | .inr (.inr (.inr _))=>a=.iface 135 (.agg #[])
def Vf(b:Value)(k:Nat):Prop :=
 match b with
 | .iface _ (.agg a)=>∃ v∈a.toList,v.ownBlock=some k
 | _=>False
def SM.enter(S:SM):Fact->SM
 | .inl n=>{S with tm:=n}
 | .inr (.inl x)=>S.holds x.1 x.2
 | .inr (.inr (.inl x))=>{S with uU:=S.uU++[x]}
 | .inr (.inr (.inr _))=>{S with uU:=S.uU.drop 1}
theorem FRep.fr{S:Nat->Prop}{w':World}{c:Value}{f:Fact}(h:FRep w c f)(fr:Fr S w w')(g:∀ k,Vf c k->¬S k):FRep w' c f:=by
 rcases f with n|x|x|x
 .exact h
 .obtain⟨lv,rfl,hv⟩:=h
  exact⟨lv,rfl,VRow.fr hv fr (fun k e=>g k ⟨lv,bG,e⟩)⟩
 .exact h
 .exact h
theorem SStep.mono{w':World}{S:SM}{c:Nat->Prop}(h:SStep w b L S X w')(f:∀ k,X k->c k):SStep w b L S c w':=by
 obtain⟨L',g,o,r,y⟩:=h;exact⟨L',g,o,r,fun k e=>(y k e).imp id (f k)⟩
theorem PM(h:p:=by
 clear h;go_enter func96,ntmps96;go_wp2_with fail;refine g.o.mono ?_;rintro e q ⟨rfl,hs⟩;have o:=Z hs;clear hs
 go_wp2
 exact Aw (v:=.tuple #[]) af rfl ⟨rfl,o.o.mono (fun _ h=>absurd h id)⟩):p:=h
theorem Su(f:Fact)(d:Value)(b:Nat)(L:SL)(S:SM)(w:World)(h:SRep w b L S)(m:FRep w d f)(i:S.uR.length<1099511627776)(a:S.uU.length<1000000) :
 Calls prog 96 #[E b 0,d] w fun e w'=>e=.returned (.tuple #[])/\SStep w b L (S.enter f) (Vf d) w':=by
 rcases f with n|⟨k,l⟩|⟨to,c⟩|x
 .have hfv:d=.iface 220 (.agg #[I n]):=m
  subst hfv;have g:=Z (PH n b L S w h);exact PM
 .obtain⟨j,hfv,hv⟩:∃ j,d=.iface 193 (.agg #[.string k,j])/\VRow w j l:=m
  subst hfv;have g:=Z (PK k j l b L S w h hv i);clear h hv;go_enter func96,ntmps96;go_wp2_with fail;refine g.o.mono ?_;rintro e q ⟨rfl,hs⟩;have o:=Z hs;clear hs
  go_wp2
  exact Aw (v:=.tuple #[]) af rfl ⟨rfl,o.o.mono (fun _ h=>⟨j,bG,h⟩)⟩
 .have hfv:d=.iface 138 (.agg #[I to,.string c]):=m
  subst hfv;have g:=Z (QR to c b L S w h a);exact PM
 .have hfv:d=.iface 135 (.agg #[]):=m
  subst hfv;have g:=Z (PI b L S w h a);exact PM
theorem SRep.getE{S:SM}(h:SRep w b L S)(s:ByteArray):VRow w (getE L.sC s) (zn S.uR s):=by
 unfold Go.Proofs.YtkhnggkkiefcdaaGreatDoor.getE zn;have e:zA L.sC=S.uR.map Prod.fst:=h.rq.uR;rw[e];split
 .rename_i ha
  have d:Zb zi (zA L.sC) s=true:=by rw[e];exact ha
  obtain⟨c,_⟩:=XK d;rw[e] at c;have a:low zi (S.uR.map Prod.fst) s<S.uR.length:=by rw[<- h.rq.length];exact c
  have:=h.rq.get _ c a
  simpa [c,a] using this
 .exact Bf w 0 _ _
theorem Wn(key:ByteArray)(b:Nat)(L:SL)(S:SM)(w:World)(h:SRep w b L S)(a:S.uR.length<1099511627776) :
 Calls prog 73 #[E b 0,.string key] w fun e g=>e=.returned (getE L.sC key)/\Fr Nil w g:=by
 have d:w.cell? (Y b 0)=some L.kv:=by rw[h.td.cell];rfl
 have c:=Z (Kz L.kv L.sC key b w d h.td.lt h.qi (by rw[h.rq.length];omega));clear h;go_enter func73,ntmps73
 go_wp2_with (refine c.o.mono ?_;rintro e i ⟨rfl,f⟩)
 go_ret;exact⟨rfl,f⟩
theorem Vy(b:Nat)(L:SL)(S:SM)(w:World)(h:SRep w b L S) :
 Calls prog 88 #[E b 0] w fun e f=>e=.returned (I S.uR.length)/\f=w:=by
 have d:w.cell? (Y b 0)=some L.kv:=by rw[h.td.cell];rfl
 have a:=Z (KC L.kv L.sC b w d h.qi);have c:=Z h.rq.length;clear h;go_enter func88,ntmps88
 go_wp2_with (refine a.o.mono ?_;rintro e g ⟨rfl,rfl⟩)
 go_ret;exact⟨by show Ending.returned (I (L.sC.length:Int))=_;rw[c.o],rfl⟩
theorem UM(b:Nat)(L:SL)(S:SM)(w:World)(h:SRep w b L S) :
 Calls prog 98 #[E b 0] w fun e a=>e=.returned (I S.tm)/\a=w:=by
 have c:=h.td.cell;clear h;go_enter func98,ntmps98
 go_wp2
 go_ret;exact⟨rfl,rfl⟩
theorem YV(b:Nat)(L:SL)(S:SM)(w:World)(h:SRep w b L S) :
 Calls prog 78 #[E b 0] w fun e g=>e=.returned (I S.uU.length)/\g=w:=by
 have c:=h.td.cell;obtain⟨i,d,a⟩:=zf h.sE;have f:=zH h.sE;unfold maxLen at f;rw[a] at c;clear h a;go_enter func78,ntmps78
 go_wp2
 go_ret;exact⟨rfl,rfl⟩
theorem PN(b:Nat)(L:SL)(S:SM)(w:World)(h:SRep w b L S)(c:S.uU.length<1000000) :
 Calls prog 77 #[E b 0] w fun e d=>∃ a,e=.returned a/\d.ownsRow 0 75 2 a S.uU.length (zI S.uU)/\Fr Nil w d/\(∀ k,a.ownBlock=some k->w.heap.size<=k):=by
 have l:w.cell? (Y b 1)=some L.hv:=by rw[h.td.cell];rfl
 have f:=Z (PL L.hv S.uU.length (zI S.uU) w h.sE (Vx _) V);clear h;go_enter func77,ntmps77
 go_wp2_with (refine f.o.mono ?_;rintro e m ⟨a,rfl,g,i,j⟩)
 go_ret;exact⟨a,rfl,g,i,j⟩
structure MgM where
 number:Nat
 done:List Fact
 left:List Fact
 uS:Nat
structure NM where
 tN:Nat
 uY:Nat
 tH:Nat
 tf:Nat
 uW:Bool
 J:JM
 S:SM
 mg:Option MgM:=none
structure NL where
 nb:Nat
 jb:Nat
 sb:Nat
 db:Nat
 mv:Value
 LS:SL
 LD:DL
variable{S:Nat->Prop}{x:Fact}{w':World}{L:NL}{N:NM}{M:DM}
def NM.cells(L:NL)(N:NM):List Value:=[I N.tN,E L.jb 0,E L.sb 0,I N.uY,I N.tH,I N.tf,L.mv,.bool N.uW]
def Zy(w:World)(d:Value)(l:List Fact):Prop :=
 ∃ g k b e,w.ownsRow 0 165 1 (.slice (some (Y g 0)) (k+l.length) b) (k+l.length) e/\(l≠[]->d=.slice (some (Y g k)) l.length (b-k))/\(l=[]->∃ a c,d=.slice a 0 c) /\
  ∀ i (h:i<l.length),∃ u,e[k+i]?=some u/\FRep w u l[i]
def MTy(t:TypeId):Prop:=t=201\/t=250\/t=165\/t=37
def MRp(w:World)(d:Value)(e:Nat):Option MgM->Prop
 | none=>d=.pointer none
 | some g=>∃ c a b,d=E c 0/\Blk w c [E a 0,b,I g.uS] 201/\Blk w a [E e 0,I g.number] 250/\Zy w b g.left
def NM.mu(N:NM):Option MgM:=if N.uW=true then none else N.mg
theorem MRp.ty{w:World}{a:Value}{f k:Nat}:∀ {g:Option MgM},MRp w a f g->a=E k 0->Ty w k 201
 | none,h,e=>by rw[show a=.pointer none from h] at e;cases e
 | some _,⟨j,b,i,c,d,_,_⟩,e=>by
  rw[c] at e;simp only[vw,BZ,vX,uP] at e;rw[<- e];exact d.ty
theorem FRep.tW{c:World}(b:FRep w v x)(f:Fr S w c)(d:∀ k t,Ty w k t->MTy t->¬S k):FRep c v x:=by
 rcases x with n|x|x|x
 .exact b
 .obtain⟨lv,e,hl⟩:=b
  exact⟨lv,e,VRow.fr hl f (fun k g=>d k _ (zr hl g) (.inr (.inr (.inr rfl))))⟩
 .exact b
 .exact b
theorem Zy.fr{r:Value}{l:List Fact}(h:Zy w r l)(f:Fr S w w')(o:∀ k t,Ty w k t->MTy t->¬S k):Zy w' r l:=by
 obtain⟨g,k,cap,K,e,y,A,C⟩:=h;refine⟨g,k,cap,K,ze e f (fun i c=>o i _ (zr e c) (.inr (.inr (.inl rfl)))),y,A,fun i c=>?_⟩;obtain⟨u,G,D⟩:=C i c;exact⟨u,G,D.tW f o⟩
theorem MRp.fr{S:Nat->Prop}{w w':World}{A:Value}{y:Nat}:∀ {g:Option MgM},MRp w A y g->Fr S w w'->(∀ k t,Ty w k t->MTy t->¬S k)->MRp w' A y g
 | none,h,_,_=>h
 | some _,⟨K,c,G,C,o,r,D⟩,f,e=>⟨K,c,G,C,o.fr f (e _ _ o.ty (.inl rfl)),r.fr f (e _ _ r.ty (.inr (.inl rfl))),D.fr f e⟩
structure NRep(w:World)(L:NL)(N:NM)(M:DM):Prop where
 td:Blk w L.nb (N.cells L) 123
 qb:JRep w L.jb L.db N.J
 held:SRep w L.sb L.LS N.S
 sf:DRep w L.db L.LD M
 oe:MRp w L.mv L.jb N.mu
def NFoot(L:NL)(M:DM)(k:Nat):Prop:=k=L.nb\/k=L.jb\/SFoot L.sb L.LS k\/Foot L.db L.LD M k\/L.mv=E k 0
theorem NRep.fr{c:Nat->Prop}(h:NRep w L N M)(f:Fr c w w')(e:∀ k,NFoot L M k->¬c k)(o:∀ k,SRead L.LS k->¬c k)(r:∀ k t,Ty w k t->MTy t->¬c k):NRep w' L N M :=
 ⟨h.td.fr f (e _ (.inl rfl)),Blk.fr h.qb f (e _ (.inr (.inl rfl))),h.held.fr f (fun k g=>e k (.inr (.inr (.inl g)))) o,h.sf.fr f (fun k g=>e k (.inr (.inr (.inr (.inl g))))),h.oe.fr f r⟩
theorem NRep.nil{c:World}(h:NRep w L N M)(f:Fr Nil w c):NRep c L N M:=h.fr f (fun _ _=>id) (fun _ _=>id) (fun _ _ _ _=>id)
structure NL.mD(L L':NL):Prop where
 nb:L'.nb=L.nb
 jb:L'.jb=L.jb
 sb:L'.sb=L.sb
 db:L'.db=L.db
structure NStep(L:NL)(M:DM)(w:World)(L':NL)(N':NM)(M':DM)(w':World):Prop where
 th:NRep w' L' N' M'
 same:NL.mD L L'
 fr:Fr (NFoot L M) w w'
 sd:∀ k,NFoot L' M' k->NFoot L M k\/w.heap.size<=k
 rn:∀ k,SRead L'.LS k->SRead L.LS k\/w.heap.size<=k
theorem NStep.trans{L1 g o:NL}{A t:NM}{r M2 s:DM}{x w2 y:World}(h:NStep L1 r x g A M2 w2)(k:NStep g M2 w2 o t s y):NStep L1 r x o t s y where
 th:=k.th
 same:=⟨k.same.nb.trans h.same.nb,k.same.jb.trans h.same.jb,k.same.sb.trans h.same.sb,k.same.db.trans h.same.db⟩
 fr:=h.fr.tk k.fr (fun i c C=>(h.sd i C).resolve_right V)
 sd:=fun i c=>(k.sd i c).elim (h.sd i) (fun e=>.inr (CO h.fr.size e))
 rn:=fun i c=>(k.rn i c).elim (h.rn i) (fun e=>.inr (CO h.fr.size e))
theorem NStep.nil{d:World}(h:NRep w L N M)(f:Fr Nil w d):NStep L M w L N M d :=
 ⟨h.nil f,⟨rfl,rfl,rfl,rfl⟩,f.mono (fun _ _ e=>absurd e id),fun _ c=>.inl c,fun _ c=>.inl c⟩
theorem NStep.tR{a:NL}{N':NM}{b:DM}{c:World}(h:NStep L M w a N' b c)(f:Fr Nil c w'):NStep L M w a N' b w':=h.trans (NStep.nil h.th f)
theorem IV(h:p:=by
 rcases h.held.rh a with e|e|e
 .exact b e ae O
 .exact b e ae O
 .exact b e ae O):p:=h
theorem NStep.rO{i:DM}{y:JM}{c:DL}{g:World}(h:NRep w L N M)(s:JStep L.jb L.db L.LD M w y c i g):NStep L M w {L with LD:=c} {N with J:=y} i g:=by
 have b:∀ {k t},Ty w k t->¬DTy t->t≠197->¬(k=L.jb\/Foot L.db L.LD M k):=by
  intro k t a l q d;rcases d with d|d
  .subst d;exact q (a.inj (Blk.ty h.qb))
  .exact h.sf.apart a l d
 refine⟨⟨h.td.fr s.2.2.1 (b h.td.ty ae O),s.1,h.held.fr s.2.2.1 (fun k a=>?_) (fun k a=>b (h.held.rK a) ae O),s.2.1,MRp.fr h.oe s.2.2.1 (fun k t a A=>by
  unfold MTy at A;rcases A with rfl|rfl|rfl|rfl <;> exact b a ae O)⟩,⟨rfl,rfl,rfl,rfl⟩,s.2.2.1.mono (fun k _ e=>?_),fun k a=>?_,fun k a=>.inl a⟩
 .exact IV
 .rcases e with e|e
  .exact .inr (.inl e)
  .exact .inr (.inr (.inr (.inl e)))
 .rcases a with e|e|e|e|e
  .exact .inl (.inl e)
  .exact .inl (.inr (.inl e))
  .exact .inl (.inr (.inr (.inl e)))
  .exact(s.2.2.2 k e).imp (fun h=>.inr (.inr (.inr (.inl h)))) id
  .exact .inl (.inr (.inr (.inr (.inr e))))
theorem NStep.held{f:NL}{q:NM}{o:DM}{S':SM}{l:World}(h:NStep L M w f q o l)(K:SStep l f.sb f.LS S' X w')(A:∀ k,X k->SRead L.LS k\/w.heap.size<=k) :
 ∃ d,NStep L M w {f with LS:=d} {q with S:=S'} o w':=by
 obtain⟨d,B,g,C,D⟩:=K;have c:=h.th;have b:∀ {k t},Ty l k t->t≠161->t≠239->t≠75->¬SFoot f.sb f.LS k:=by
  intro k t a r s x y;rcases c.held.rh y with e|e|e
  .exact r (a.inj e)
  .exact s (a.inj e)
  .exact x (a.inj e)
 refine⟨d,⟨c.td.fr g (b c.td.ty O O O),Blk.fr c.qb g (b (Blk.ty c.qb) O O O),B,c.sf.fr g (fun k a e=>?_),MRp.fr c.oe g (fun k t a j=>by
  unfold MTy at j;rcases j with rfl|rfl|rfl|rfl <;> exact b a O O O)⟩,⟨h.same.nb,h.same.jb,h.same.sb,h.same.db⟩,h.fr.tk g (fun k a e=>(h.sd k (.inr (.inr (.inl e)))).resolve_right V),fun k a=>?_,fun k a=>?_⟩
 .obtain⟨t,j,hd⟩:=c.sf.ty a
  unfold DTy at hd;refine b j ?_ ?_ ?_ e
  all_goals (rcases hd with rfl|rfl|rfl|rfl|rfl <;> decide)
 .rcases a with e|e|e|e|e
  .exact h.sd k (.inl e)
  .exact h.sd k (.inr (.inl e))
  .exact(C k e).elim (fun e=>h.sd k (.inr (.inr (.inl e)))) (fun e=>.inr (CO h.fr.size e))
  .exact h.sd k (.inr (.inr (.inr (.inl e))))
  .exact h.sd k (.inr (.inr (.inr (.inr e))))
 .exact(D k a).elim (h.rn k) (A k)
theorem NRep.apart(h:NRep w L N M){k:Nat}{t:TypeId}(b:Ty w k t)(c:t≠123)(d:t≠197)(f:t≠161)(g:t≠239)(i:t≠75)(j:¬DTy t)(l:t≠201):¬NFoot L M k:=by
 intro a;rcases a with rfl|rfl|a|a|a
 .exact c (b.inj h.td.ty)
 .exact d (b.inj (Blk.ty h.qb))
 .rcases h.held.rh a with e|e|e
  .exact f (b.inj e)
  .exact g (b.inj e)
  .exact i (b.inj e)
 .exact h.sf.apart b j a
 .exact l (b.inj (h.oe.ty a))
theorem VRow.step{b:NL}{d:NM}{c:DM}{l:List Ver}(a:VRow w v l)(h:NRep w L N M)(s:NStep L M w b d c w'):VRow w' v l :=
 VRow.fr a s.fr (fun _ e=>h.apart (zr a e) O O O O O ae O)
theorem FRep.step{b:NL}{d:NM}{c:DM}(a:FRep w v x)(h:NRep w L N M)(s:NStep L M w b d c w'):FRep w' v x:=by
 rcases x with n|x|x|x
 .exact a
 .obtain⟨lv,e,hl⟩:=a
  exact⟨lv,e,hl.step h s⟩
 .exact a
 .exact a
theorem ERep.nS{b:World}{c:NL}{f:NM}{d:DM}{e:Option Int}(g:ERep w v e)(h:NRep w L N M)(s:NStep L M w c f d b):ERep b v e :=
 g.fr s.fr (fun _ a=>a.elim (fun a=>h.apart a O O O O O ae O) (fun a=>h.apart a O O O O O ae O))
theorem PO(h:p:=by
 refine h.held.fr d (fun k b=>?_) (fun k b=>c (h.held.rK b) O);rcases h.held.rh b with e|e|e
 .exact c e O
 .exact c e O
 .exact c e O):p:=h
theorem Rr(h:p:=by
 obtain⟨t,f,B⟩:=h.sf.ty b;unfold DTy at B;refine c f ?_;rcases B with rfl|rfl|rfl|rfl|rfl <;> decide):p:=h
theorem NStep.set{N':NM}(h:NRep w L N M)(i:Nat)(v:Value)(G:(N.cells L).set i v=N'.cells L)(C:N'.J=N.J)(D:N'.S=N.S)(u:N'.mu=N.mu:=by rfl):NStep L M w L N' M (w.setCell (Y L.nb i) v):=by
 have d:Fr (fun k=>k=L.nb) w (w.setCell (Y L.nb i) v):=Fr.set (S:=fun k=>k=L.nb) (U _ _) (fun _=>rfl) _;have c:∀ {k t},Ty w k t->t≠123->¬k=L.nb:=fun b f e=>by subst e;exact f (b.inj h.td.ty)
 refine⟨⟨?_,?_,?_,h.sf.fr d (fun k b=>?_),by rw[u];exact MRp.fr h.oe d (fun k t b f=>by
  unfold MTy at f;rcases f with rfl|rfl|rfl|rfl <;> exact c b O)⟩,⟨rfl,rfl,rfl,rfl⟩,d.mono (fun _ _ e=>.inl e),fun k b=>.inl b,fun k b=>.inl b⟩
 .rw[<- G];exact h.td.set i v
 .rw[C];exact Blk.fr h.qb d (c (Blk.ty h.qb) O)
 .rw[D]
  exact PO
 .exact Rr
theorem NStep.nx{o:NL}{r:DM}{A:World}(s:NStep o r A L N M w)(y:N.uW=false)(g:Value)(mg:Option MgM)(hm:MRp w g L.jb mg)(j:∀ k,g=E k 0->NFoot o r k\/A.heap.size<=k) :
 NStep o r A {L with mv:=g} {N with mg:=mg} M (w.setCell (Y L.nb 6) g):=by
 have h:=s.th;have d:Fr (fun k=>k=L.nb) w (w.setCell (Y L.nb 6) g):=Fr.set (S:=fun k=>k=L.nb) (U _ _) (fun _=>rfl) _;have c:∀ {k t},Ty w k t->t≠123->¬k=L.nb:=fun b f e=>by subst e;exact f (b.inj h.td.ty)
 refine⟨⟨?_,?_,?_,h.sf.fr d (fun k b=>?_),?_⟩,⟨s.same.nb,s.same.jb,s.same.sb,s.same.db⟩,s.fr.tk d (fun i K e=>(s.sd i (.inl e)).resolve_right V),fun k b=>?_,s.rn⟩
 .exact h.td.set 6 g
 .exact Blk.fr h.qb d (c (Blk.ty h.qb) O)
 .exact PO
 .exact Rr
 .show MRp _ g L.jb (if N.uW=true then none else mg)
  rw[CW (by rw[y];decide)];exact hm.fr d (fun k t b f=>by
   unfold MTy at f;rcases f with rfl|rfl|rfl|rfl <;> exact c b O)
 .rcases b with e|e|e|e|e
  .exact s.sd k (.inl e)
  .exact s.sd k (.inr (.inl e))
  .exact s.sd k (.inr (.inr (.inl e)))
  .exact s.sd k (.inr (.inr (.inr (.inl e))))
  .exact j k e
theorem NStep.nV(h:NRep w L N M):NStep L M w {L with mv:=.pointer none} {N with uW:=true} M ((w.setCell (Y L.nb 7) (.bool true)).setCell (Y L.nb 6) (.pointer none)):=by
 have d:Fr (fun k=>k=L.nb) w ((w.setCell (Y L.nb 7) (.bool true)).setCell (Y L.nb 6) (.pointer none)):=Fr.set (S:=fun k=>k=L.nb) (p:=⟨L.nb,6,none⟩) (Fr.set (S:=fun k=>k=L.nb) (p:=⟨L.nb,7,none⟩) (U _ _) (fun _=>rfl) _) (fun _=>rfl) _;have c:∀ {k t},Ty w k t->t≠123->¬k=L.nb:=fun b f e=>by subst e;exact f (b.inj h.td.ty)
 refine⟨⟨?_,?_,?_,h.sf.fr d (fun k b=>?_),rfl⟩,⟨rfl,rfl,rfl,rfl⟩,d.mono (fun _ _ e=>.inl e),fun k b=>?_,fun k b=>.inl b⟩
 .exact(h.td.set 7 (.bool true)).set 6 (.pointer none)
 .exact Blk.fr h.qb d (c (Blk.ty h.qb) O)
 .exact PO
 .exact Rr
 .rcases b with e|e|e|e|e
  .exact .inl (.inl e)
  .exact .inl (.inr (.inl e))
  .exact .inl (.inr (.inr (.inl e)))
  .exact .inl (.inr (.inr (.inr (.inl e))))
  .cases e
theorem NStep.qS{i:DM}{g:World}{x:Nat}{c:DL}{mg:Option MgM}(h:NRep w L N M)(v:N.uW=false)(j:L.mv=E x 0)(f:Fr (fun k=>k=x\/Foot L.db L.LD M k) w g)(l:DRep g L.db c i)
 (o:∀ k,Foot L.db c i k->Foot L.db L.LD M k\/w.heap.size<=k)(hm:MRp g L.mv L.jb mg):NStep L M w {L with LD:=c} {N with mg:=mg} i g:=by
 have r:=h.oe.ty j;have b:∀ {k t},Ty w k t->¬DTy t->t≠201->¬(k=x\/Foot L.db L.LD M k):=by
  intro k t a m q d;rcases d with d|d
  .subst d;exact q (a.inj r)
  .exact h.sf.apart a m d
 refine⟨⟨h.td.fr f (b h.td.ty ae O),Blk.fr h.qb f (b (Blk.ty h.qb) ae O),h.held.fr f (fun k a=>?_) (fun k a=>b (h.held.rK a) ae O),l,?_⟩,⟨rfl,rfl,rfl,rfl⟩,f.mono (fun k _ e=>?_),fun k a=>?_,fun k a=>.inl a⟩
 .exact IV
 .show MRp _ L.mv L.jb (if N.uW=true then none else mg)
  rw[CW (by rw[v];decide)];exact hm
 .rcases e with e|e
  .subst e;exact .inr (.inr (.inr (.inr j)))
  .exact .inr (.inr (.inr (.inl e)))
 .rcases a with e|e|e|e|e
  .exact .inl (.inl e)
  .exact .inl (.inr (.inl e))
  .exact .inl (.inr (.inr (.inl e)))
  .exact(o k e).imp (fun h=>.inr (.inr (.inr (.inl h)))) id
  .exact .inl (.inr (.inr (.inr (.inr e))))
end Go.Proofs.YtkhnggkkiefcdaaGreatDoor
