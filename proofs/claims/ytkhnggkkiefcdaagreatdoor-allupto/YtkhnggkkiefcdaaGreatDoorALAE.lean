/- larder: joined texts -/
import Derived.Test.YtkhnggkkiefcdaaGreatDoorALAD
import Derived.Shelf.Strconv.Itoa3
import Derived.Shelf.Pu.Clone
import Derived.Test.YtkhnggkkiefcdaaGreatDoorRows
import Derived.Lib.ItoaLen
namespace Go.Proofs.YtkhnggkkiefcdaaGreatDoor
open Go.RowKit Proofs.Tryz
set_option maxRecDepth 100000
set_option maxHeartbeats 8000000
variable{w:World}{v x:Value}{l:List (ByteArray × Value)}{S:Nat->Prop}{s:ByteArray}{p:Prop}{k:Nat}{R:Value->List Ver->Prop}
abbrev zA (l:List (ByteArray × Value)):List ByteArray:=l.map Prod.fst
structure WN(w:World)(v:Value)(l:List (ByteArray × Value)):Prop where
 sL:w.ownsRow 0 239 2 v l.length (Z3 l)
 rp:Asc zi (zA l)
 qy:∀ e∈l,e.2.oneCell'=true
theorem WN.fr{w':World}(h:WN w v l)(f:Fr S w w')(c:∀ k,v.ownBlock=some k->¬S k):WN w' v l :=
 ⟨ze h.sL f c,h.rp,h.qy⟩
theorem Q6(h:∀ e∈l,e.2.oneCell'=true):∀ u∈Z3 l,u.oneCell'=true:=by
 intro u a;simp only[Z3,xZ] at a;obtain⟨e,b,a⟩:=a;simp at a;rcases a with rfl|rfl
 .rfl
 .exact h e b
theorem Vd(v:Value)(l:List (ByteArray × Value))(s:ByteArray)(b:Nat)(w:World)(g:w.cell? (Y b 0)=some v)(h:WN w v l)(c:l.length<4611686018427387904) :
 Calls prog 163 #[E b 0,.string s] w fun e f =>
  e=.returned (.tuple #[I (low zi (zA l) s),.bool (Zb zi (zA l) s)])/\Fr Nil w f:=by
 have d:=Z (QL v l s w h.sL h.rp c);clear h;go_enter func163,ntmps163
 go_wp2_with (refine d.o.mono ?_;rintro e i ⟨rfl,a⟩)
 go_ret2;exact⟨rfl,a⟩
def getE(l:List (ByteArray × Value))(s:ByteArray):Value :=
 if Zb zi (zA l) s=true then(l.getD (low zi (zA l) s) (s,.slice none 0 0)).2 else .slice none 0 0
theorem XK(h:Zb zi (zA l) s=true):∃ a:low zi (zA l) s<l.length,l[low zi (zA l) s].1=s:=by
 rcases Az (low zi (zA l) s) l.length with a|a
 .refine⟨a,?_⟩
  rw[Wl a rfl] at h;exact zY.1 h
 .rw[V7 aQ] at h
  cases h
theorem Kz(v:Value)(l:List (ByteArray × Value))(s:ByteArray)(b:Nat)(w:World)(f:w.cell? (Y b 0)=some v)(t:b<w.heap.size)(h:WN w v l)(m:l.length<4611686018427387904) :
 Calls prog 124 #[E b 0,.string s] w fun e B =>
  e=.returned (getE l s)/\Fr Nil w B:=by
 have o:=Z (Vd v l s b w f h m);cases ha:Zb zi (zA l) s with
 | false =>
  have c:getE l s=.slice none 0 0:=by simp[getE,ha]
  rw[c];clear c;go_enter func124,ntmps124
  go_wp2_with (refine o.o.mono ?_;rintro e p ⟨rfl,a⟩)
  go_ret;exact⟨rfl,a⟩
 | true =>
  obtain⟨k,x⟩:=XK ha;have c:getE l s=l[low zi (zA l) s].2:=by simp[getE,ha,k]
  rw[c];have q:=Z h;have y:=zH h.sL;unfold maxLen at y;clear c x h;go_enter func124,ntmps124;go_wp2_with fail;refine o.o.mono ?_;rintro e p ⟨rfl,a⟩;have u:p.cell? (Y b 0)=some v:=(a.cell t id).trans f;have d:=q.o.fr a (fun _ _=>id);obtain⟨g,r,A,_,_⟩:=zl d.sL V;subst A;have j:=own_cell? d.sL (low zi (zA l) s*2+1) _ (Z8 l _ k).2;clear f d;generalize low zi (zA l) s=i at k j |-
  go_wp2
  go_ret;exact⟨rfl,a⟩
theorem Zx(a b:List (ByteArray × Value)):Z3 (a++b)=Z3 a++Z3 b:=by simp[Z3]
theorem Ss(l:List (ByteArray × Value))(i:Nat):(Z3 l).take (i*2)=Z3 (l.take i):=by
 rcases wj i l.length with h|h
 .have e:=Zx (l.take i) (l.drop i)
  rw[Bo] at e;rw[e];exact AG (by rw[Xg,CR,Ab h])
 .rw[Bn h,Bn (by rw[Xg];omega)]
theorem St(l:List (ByteArray × Value))(i:Nat):(Z3 l).drop (i*2)=Z3 (l.drop i):=by
 rcases wj i l.length with h|h
 .have e:=Zx (l.take i) (l.drop i)
  rw[Bo] at e;rw[e];exact uC (by rw[Xg,CR,Ab h])
 .rw[BT h,BT (by rw[Xg];omega)]
  rfl
def YB(l:List (ByteArray × Value))(s:ByteArray)(x:Value):List (ByteArray × Value) :=
 l.take (low zi (zA l) s)++[(s,x)]++l.drop (if Zb zi (zA l) s=true then low zi (zA l) s+1 else low zi (zA l) s)
def XL(l:List (ByteArray × Value))(s:ByteArray):List (ByteArray × Value) :=
 if Zb zi (zA l) s=true then l.take (low zi (zA l) s)++l.drop (low zi (zA l) s+1) else l
theorem II(h:Zb zi (zA l) s=true):zA (YB l s x)=zA l:=by
 obtain⟨c,a⟩:=XK h;unfold YB;rw[Bl h];generalize low zi (zA l) s=i at c a |-;have d:(l.map Prod.fst)[i]' aY=s:=by rw[BB];exact a
 simp only[zA,Bq,Bw,AE,Aj,yz];rw[<- d,<- Bp,Bo]
theorem PD(s:ByteArray)(x:Value)(h:Asc zi (zA l)):Asc zi (zA (YB l s x)):=by
 cases ha:Zb zi (zA l) s with
 | true=>rw[II ha];exact h
 | false =>
  have:=Asc.mf Zp (b:=s) h (fun a e=>by rw[Tb a,e] at ha;rw[zY.2 rfl] at ha;cases ha);unfold YB;simp only[ha,Av,Aa]
  simpa [zA,List.map_take,List.map_drop] using this
theorem PE(h:∀ e∈l,e.2.oneCell'=true)(b:x.oneCell'=true):∀ e∈YB l s x,e.2.oneCell'=true:=by
 intro e a;simp only[YB,CV,CX] at a;rcases a with(a|rfl)|a
 .exact h e (BN a)
 .exact b
 .exact h e (Bx a)
theorem Tu:(YB l s x).length=if Zb zi (zA l) s=true then l.length else l.length+1:=by
 have:=VW zi (zA l) s;simp only[Bm] at this;split
 .rename_i h
  obtain⟨a,_⟩:=XK h;simp only[YB,h,Ad,CN,CR,Bc,CQ];omega
 .rename_i h
  simp only[YB,h,CN,CR,Bc,CQ];simp;omega
theorem FC(s:ByteArray)(h:Asc zi (zA l)):Asc zi (zA (XL l s)):=by
 unfold XL;split
 .have:=Asc.mi h (low zi (zA l) s)
  simpa [zA,List.map_take,List.map_drop] using this
 .exact h
theorem IJ(h:p:=by
 split at a
 .rcases CV.1 a with a|a
  .exact BN a
  .exact Bx a
 .exact a):p:=h
theorem PF:∀ e∈XL l s,e∈l:=by
 intro e a;unfold XL at a;exact IJ
def Xc(w:World)(b:Nat)(t:TypeId)(v:Value)(rest:List Value)(l:List (ByteArray × Value))(c:World):Prop :=
 ∃ a,Blk c b (a::rest) t/\WN c a l/\Fr (fun k=>k=b\/v.ownBlock=some k) w c/\(∀ k,a.ownBlock=some k->v.ownBlock=some k\/w.heap.size<=k)
theorem IK(h:p:=by
 rw[e];exact ze a1 (Fr.set (S:=fun k=>k=b) (U _ _) (fun _=>rfl) _) (fun k m=>by simp[Value.ownBlock] at m;omega)):p:=h
theorem MX(h:p:=by
 simp[Value.ownBlock] at m;subst m;rcases a5 with h|h
 .exact .inl h
 .exact .inr (by have:=J.size;omega)):p:=h
theorem Rp(h:p:=by
 go_wp2
 exact Aw (v:=.tuple #[]) af rfl ⟨rfl,HF.o⟩):p:=h
theorem KA(v:Value)(rest:List Value)(l:List (ByteArray × Value))(s:ByteArray)(B:Option Addr)(D C:Nat)(b:Nat)(t:TypeId)(w:World)(q:Blk w b (v::rest) t)(ht:t≠239)(h:WN w v l)
 (b4:l.length<1099511627776) :
 Calls prog 291 #[E b 0,.string s,.slice B D C] w fun e w' =>
  e=.returned (.tuple #[])/\Xc w b t v rest (YB l s (.slice B D C)) w':=by
 have hc:w.cell? (Y b 0)=some v:=by rw[q.cell];rfl
 have HC:=Z (Vd v l s b w hc h V);have hn:=zH h.sL;unfold maxLen at hn;cases ha:Zb zi (zA l) s with
 | true =>
  obtain⟨hl,m⟩:=XK ha;have HH:=Z h;have HB:=Z q;have HK:=Z m;clear hc h q m;go_enter func291,ntmps291;go_wp2_with fail;refine HC.o.mono ?_;rintro e o ⟨rfl,c⟩;have d:=HB.o.fr c id;have a4:o.cell? (Y b 0)=some v:=by rw[d.cell];rfl
  have Q:=HH.o.fr c (fun _ _=>id);obtain⟨g,R,hv,c8,_⟩:=zl Q.sL V;subst hv;have a7:=own_cell? Q.sL (low zi (zA l) s*2+1) _ (Z8 l _ hl).2;have c5:=W9 Q.sL (low zi (zA l) s*2+1);have c1:b≠g:=fun e=>zh Q.sL d ht bF;have j:Xc w b t (.slice (some (Y g 0)) l.length R) rest (YB l s (.slice B D C)) (o.setCell (Y g (low zi (zA l) s*2+1)) (.slice B D C)):=by
   have X:=Tu (l:=l) (s:=s) (x:=.slice B D C);rw[Bl ha] at X;refine⟨_,d.qv c1 _ _,⟨?_,PD s _ Q.rp,PE Q.qy rfl⟩,Fr.set (c.mono (fun _ _ h=>absurd h id)) (fun _=>.inr rfl) _,fun k m=>.inl m⟩;have:=Y5 Q.sL (low zi (zA l) s*2+1) (.slice B D C);rw[X];refine cast (AB (World.ownsRow _ 0 _ 2 _ l.length) ?_) this;have e:YB l s (.slice B D C)=l.take (low zi (zA l) s)++[(s,.slice B D C)]++l.drop (low zi (zA l) s+1):=by unfold YB;rw[Bl ha]
   have e2:l=l.take (low zi (zA l) s)++[l[low zi (zA l) s]]++l.drop (low zi (zA l) s+1):=by
    rw[<- Bp hl,Bo]
   have m:=HK.o;rw[e];generalize low zi (zA l) s=i at hl m e2 |-;have c2:(Z3 (l.take i)).length=i*2:=by rw[Xg,CR,Ab V]
   conv=>lhs;rw[e2]
   rw[Zx,Zx,Zx,Zx,Be,Be,xJ _ _ V,c2,show i*2+1-i*2=1 from V];simp[Z3,m]
  clear a7 Q d;have a7:=own_cell? (HH.o.fr c (fun _ _=>id)).sL (low zi (zA l) s*2+1) _ (Z8 l _ hl).2;have HF:=Z j;clear j;generalize low zi (zA l) s=i at hl a7 c5 HF |-
  go_wp2
  exact xC (v:=.tuple #[]) af rfl ⟨rfl,HF.o⟩
 | false =>
  have HH:=Z h;have HB:=Z q;clear hc h q;go_enter func291,ntmps291;go_wp2_with fail;refine HC.o.mono ?_;rintro e o ⟨rfl,c⟩;have d:=HB.o.fr c id;have a4:o.cell? (Y b 0)=some v:=by rw[d.cell];rfl
  have b7:=d.frozen 0;go_wp2_with fail;have hN:Blk (o.alloc (.cells #[.string s,.slice B D C] 239)) o.heap.size [.string s,.slice B D C] 239:=Blk.new o [.string s,.slice B D C] _;have A:=d.alloc (.cells #[.string s,.slice B D C] 239);have J:Fr Nil w (o.alloc (.cells #[.string s,.slice B D C] 239)):=c.alloc _;have a9:∀ k,v.ownBlock=some k->k<o.heap.size:=fun k m=>zF (HH.o.fr c (fun _ _=>id)).sL m;generalize o.alloc (.cells #[.string s,.slice B D C] 239)=w2 at hN A J |-;have y:=HH.o.fr J (fun _ _=>id);have M:v.ownBlock≠some b:=zh y.sL A ht;have a2:=VW zi (zA l) s;simp only[Bm] at a2;refine(QN v l.length (low zi (zA l) s) (Z3 l) [.string s,.slice B D C] o.heap.size w2 y.sL (Q6 y.qy) a2 rfl ak hN (fun e=>by have:=a9 _ e;omega) V).mono ?_;rintro e w3 ⟨g,R,rfl,a1,K,a5⟩;have r:=A.fr K M;have b1:w3.cell? (Y b 0)=some v:=by rw[r.cell];rfl
  have b8:=r.frozen 0;have c0:b≠g:=by
   rcases a5 with h|h
   .intro e;exact M (by rw[h,e])
   .have:=A.lt;omega
  have j:Xc w b t v rest (YB l s (.slice B D C)) (w3.setCell (Y b 0) (.slice (some (Y g 0)) (l.length+1) R)):=by
   have X:=Tu (l:=l) (s:=s) (x:=.slice B D C);rw[CW (by rw[ha];simp)] at X;refine⟨.slice (some (Y g 0)) (l.length+1) R,r.set 0 _,⟨?_,PD s _ y.rp,PE y.qy rfl⟩,Fr.set ((J.mono (fun _ _ h=>absurd h id)).tk K (fun i _ h=>.inr h)) (fun _=>.inl rfl) _,fun k m=>?_⟩
   .rw[X]
    have e:Z3 (YB l s (.slice B D C))=YH 2 (low zi (zA l) s) (Z3 l) [.string s,.slice B D C]:=by
     unfold YB YH;rw[CW (by rw[ha];simp),Zx,Zx,Ss,St]
     rfl
    exact IK
   .exact MX
  have HF:=Z j;clear j;exact Rp
theorem NF(h:Zb zi (zA l) s=true):(XL l s).length=l.length-1:=by
 obtain⟨a,_⟩:=XK h;simp only[XL,h,Ad,CN,CR,Bc];omega
theorem QP(v:Value)(rest:List Value)(l:List (ByteArray × Value))(s:ByteArray)(b:Nat)(t:TypeId)(w:World)(q:Blk w b (v::rest) t)(ht:t≠239)(h:WN w v l)
 (b4:l.length<1099511627776) :
 Calls prog 290 #[E b 0,.string s] w fun e w' =>
  e=.returned (.tuple #[])/\Xc w b t v rest (XL l s) w':=by
 have hc:w.cell? (Y b 0)=some v:=by rw[q.cell];rfl
 have HC:=Z (Vd v l s b w hc h V);have hn:=zH h.sL;unfold maxLen at hn;cases ha:Zb zi (zA l) s with
 | true =>
  obtain⟨hl,m⟩:=XK ha;have HH:=Z h;have HB:=Z q;clear hc h q m;have c7:(low zi (zA l) s:Int)+1<=9223372036854775807:=V
  go_enter func290,ntmps290;go_wp2_with fail;refine HC.o.mono ?_;rintro e o ⟨rfl,c⟩;have d:=HB.o.fr c id;have a4:o.cell? (Y b 0)=some v:=by rw[d.cell];rfl
  have b7:=d.frozen 0;go_wp2_with fail;have y:=HH.o.fr c (fun _ _=>id);have M:v.ownBlock≠some b:=zh y.sL d ht;refine(QO v l.length (low zi (zA l) s) (Z3 l) o y.sL (Q6 y.qy) hl).mono ?_;rintro e w3 ⟨v',rfl,b5,a1,K⟩;have r:=d.fr K M;have b1:w3.cell? (Y b 0)=some v:=by rw[r.cell];rfl
  have b8:=r.frozen 0;have j:Xc w b t v rest (XL l s) (w3.setCell (Y b 0) v'):=by
   refine⟨v',r.set 0 _,⟨?_,FC s y.rp,fun e he=>y.qy e (PF e he)⟩,Fr.set ((c.mono (fun _ _ h=>absurd h id)).tk K (fun i _ h=>.inr h)) (fun _=>.inl rfl) _,fun k m=>.inl (by rw[<- b5];exact m)⟩;have e:Z3 (XL l s)=YI 2 (low zi (zA l) s) (Z3 l):=by
    unfold XL YI;rw[Bl ha,Zx,Ss,St]
   rw[NF ha,e];exact ze a1 (Fr.set (S:=fun k=>k=b) (U _ _) (fun _=>rfl) _) (fun k m e=>M (by rw[<- b5,m,e]))
  have HF:=Z j;obtain⟨va,vc,c4⟩:=zf a1;subst c4;clear j a1;exact Rp
 | false =>
  have hd:XL l s=l:=by unfold XL;rw[CW (by rw[ha];simp)]
  rw[hd];have HH:=Z h;have HB:=Z q;clear hc h q hd;go_enter func290,ntmps290;go_wp2_with fail;refine HC.o.mono ?_;rintro e o ⟨rfl,c⟩
  go_wp2
  exact Aw (v:=.tuple #[]) af rfl ⟨rfl,v,HB.o.fr c id,HH.o.fr c (fun _ _=>id),c.mono (fun _ _ h=>absurd h id),fun k m=>.inl m⟩
theorem KC(v:Value)(l:List (ByteArray × Value))(b:Nat)(w:World)(g:w.cell? (Y b 0)=some v)(h:WN w v l) :
 Calls prog 134 #[E b 0] w fun e f=>e=.returned (I l.length)/\f=w:=by
 have d:=zH h.sL;unfold maxLen at d;obtain⟨a,c,rfl⟩:=zf h.sL;go_enter func134,ntmps134
 go_wp2
 go_ret;exact⟨rfl,rfl⟩
theorem Cq:((prog.info? 75).map fun i=>(i.zero.map (·.cells.size),i.size,i.bytes))=some (some 2,2,24):=bI
theorem Cr:((prog.info? 75).map fun i=>(i.zero.map fun z=>z.cells.toList.all (·.oneCell')))=some (some true):=bI
theorem QQ(v:Value)(n i:Nat)(x:List Value)(w:World)(m:w.ownsRow 0 75 2 v n x)(h1:∀ u∈x,u.oneCell'=true)(hi:i<n) :
 Calls prog 278 #[v,I i,I ((i:Int)+1)] w fun e w' =>
  ∃ t,e=.returned t/\t.ownBlock=v.ownBlock/\w'.ownsRow 0 75 2 t (n-1) (YI 2 i x)/\Fr (fun b=>v.ownBlock=some b) w w':=by
 rcases YG m with⟨_,h0,_⟩|⟨g,a,c,rfl,hg,hn,a2,r,ht⟩
 .omega
 obtain⟨i0,z,Q,R,a6,a3,X⟩:=ZK Cq;have T:∀ u∈z.cells.toList,u.oneCell'=true:=by
  have:=Cr;exact MU
 exact MW
structure SM where
 uR:List (ByteArray × List Ver)
 uU:List (Nat × ByteArray)
 tm:Nat
structure SL where
 kv:Value
 hv:Value
 sC:List (ByteArray × Value)
def VRow(w:World)(v:Value)(l:List Ver):Prop:=w.ownsRow 0 37 8 v l.length (zS l)
def zI(l:List (Nat × ByteArray)):List Value:=l.flatMap fun e=>[I e.1,.string e.2]
theorem PG(d:List (Nat × ByteArray)):(zI d).length=d.length*2:=by
 induction d with
 | nil=>rfl
 | cons e d a=>simp only[zI,Am,CN,Bh,BU] at a |-;omega
theorem Vx(l:List (Nat × ByteArray)):∀ u∈zI l,u.oneCell'=true:=by
 intro u a;simp only[zI,xZ] at a;obtain⟨e,_,a⟩:=a;simp at a;rcases a with rfl|rfl <;> rfl
def Pair(R:Value->List Ver->Prop):List (ByteArray × Value)->List (ByteArray × List Ver)->Prop
 | [],[]=>True
 | a::d,b::c=>a.1=b.1/\R a.2 b.2/\Pair R d c
 | _,_=>False
theorem Pair.mono{R Q:Value->List Ver->Prop}:∀ {c:List (ByteArray × Value)}{e:List (ByteArray × List Ver)},Pair R c e->(∀ a,a∈c->∀ l,R a.2 l->Q a.2 l)->Pair Q c e
 | [],[],_,_=>trivial
 | a::_,_::_,h,f=>⟨h.1,f a (CY ..) _ h.2.1,Pair.mono h.2.2 fun x g=>f x (CT _ g)⟩
theorem Pair.length{R:Value->List Ver->Prop}:∀ {o:List (ByteArray × Value)}{c:List (ByteArray × List Ver)},Pair R o c->o.length=c.length
 | [],[],_=>rfl
 | _::o,_::c,h=>by simp[Pair.length h.2.2]
theorem Pair.uR{R:Value->List Ver->Prop}:∀ {c:List (ByteArray × Value)}{b:List (ByteArray × List Ver)},Pair R c b->c.map Prod.fst=b.map Prod.fst
 | [],[],_=>rfl
 | _::c,_::b,h=>by simp[Pair.uR h.2.2,h.1]
theorem Pair.take{R:Value->List Ver->Prop}:∀ {c:List (ByteArray × Value)}{a:List (ByteArray × List Ver)}(i:Nat),Pair R c a->Pair R (c.take i) (a.take i)
 | [],[],i,_=>by simp[Pair]
 | _::c,_::a,0,_=>trivial
 | _::c,_::a,i+1,h=>⟨h.1,h.2.1,Pair.take i h.2.2⟩
theorem Pair.drop{R:Value->List Ver->Prop}:∀ {d:List (ByteArray × Value)}{c:List (ByteArray × List Ver)}(i:Nat),Pair R d c->Pair R (d.drop i) (c.drop i)
 | [],[],i,_=>by simp[Pair]
 | _::d,_::c,0,h=>h
 | _::d,_::c,i+1,h=>Pair.drop i h.2.2
theorem Pair.append{R:Value->List Ver->Prop}:∀ {d:List (ByteArray × Value)}{a:List (ByteArray × List Ver)}{b:List (ByteArray × Value)}{c:List (ByteArray × List Ver)},Pair R d a->Pair R b c->Pair R (d++b) (a++c)
 | [],[],_,_,_,k=>k
 | _::_,_::_,_,_,h,k=>⟨h.1,h.2.1,Pair.append h.2.2 k⟩
theorem Pair.get{R:Value->List Ver->Prop}:∀ {d:List (ByteArray × Value)}{c:List (ByteArray × List Ver)},Pair R d c->∀ (i:Nat)(e:i<d.length)(f:i<c.length),R d[i].2 c[i].2
 | [],[],_,i,e,_=>by simp at e
 | _::d,_::c,h,0,_,_=>h.2.1
 | _::d,_::c,h,i+1,e,f=>Pair.get h.2.2 i (by simpa using e) aG
structure SRep(w:World)(b:Nat)(L:SL)(S:SM):Prop where
 td:Blk w b [L.kv,L.hv,I S.tm] 161
 qi:WN w L.kv L.sC
 rq:Pair (VRow w) L.sC S.uR
 sE:w.ownsRow 0 75 2 L.hv S.uU.length (zI S.uU)
def SFoot(b:Nat)(L:SL)(k:Nat):Prop:=k=b\/L.kv.ownBlock=some k\/L.hv.ownBlock=some k
def SRead(L:SL)(k:Nat):Prop:=∃ e∈L.sC,e.2.ownBlock=some k
theorem VRow.fr{w':World}{l:List Ver}(h:VRow w v l)(f:Fr S w w')(c:∀ k,v.ownBlock=some k->¬S k):VRow w' v l:=ze h f c
theorem SRep.fr{c:Nat->Prop}{w':World}{b:Nat}{L:SL}{S:SM}(h:SRep w b L S)(f:Fr c w w')(g:∀ k,SFoot b L k->¬c k)(o:∀ k,SRead L k->¬c k):SRep w' b L S :=
 ⟨h.td.fr f (g _ (.inl rfl)),h.qi.fr f (fun _ e=>g _ (.inr (.inl e))),h.rq.mono (fun a r _ A=>VRow.fr A f (fun k y=>o k ⟨a,r,y⟩)),ze h.sE f (fun _ e=>g _ (.inr (.inr e)))⟩
theorem SRep.nil{c:World}{b:Nat}{L:SL}{S:SM}(h:SRep w b L S)(f:Fr Nil w c):SRep c b L S:=h.fr f (fun _ _=>id) (fun _ _=>id)
def Ty(w:World)(k:Nat)(t:TypeId):Prop:=∃ c f,w.heap[k]?=some (.cells c t f)
theorem Ty.inj{t u:TypeId}(h:Ty w k t)(a:Ty w k u):t=u:=by
 obtain⟨c,f,h⟩:=h;obtain⟨b,d,a⟩:=a;rw[h] at a;simp at a;exact a.2.1
theorem Blk.ty{b:Nat}{c:List Value}{t:TypeId}(h:Blk w b c t):Ty w b t:=⟨_,_,h⟩
theorem zr{e:TypeId}{size n:Nat}{f:List Value}(h:w.ownsRow 0 e size v n f)(a:v.ownBlock=some k):Ty w k e:=by
 rcases YG h with⟨rfl,_⟩|⟨g,b,c,rfl,d,_⟩
 .simp[Value.ownBlock] at a
 .simp[Value.ownBlock] at a
  subst a;exact d.ty
theorem SRep.rh{b:Nat}{L:SL}{S:SM}(h:SRep w b L S)(a:SFoot b L k):Ty w k 161\/Ty w k 239\/Ty w k 75:=by
 rcases a with rfl|a|a
 .exact .inl h.td.ty
 .exact .inr (.inl (zr h.qi.sL a))
 .exact .inr (.inr (zr h.sE a))
theorem Pair.mem{R:Value->List Ver->Prop}:∀ {d:List (ByteArray × Value)}{f:List (ByteArray × List Ver)},Pair R d f->∀ e∈d,∃ l,R e.2 l
 | [],[],_,e,c=>by cases c
 | a::d,b::f,h,e,c=>by
  rcases BC.1 c with rfl|c
  .exact⟨_,h.2.1⟩
  .exact Pair.mem h.2.2 e c
theorem SRep.rK{b:Nat}{L:SL}{S:SM}(h:SRep w b L S)(a:SRead L k):Ty w k 37:=by
 obtain⟨e,c,a⟩:=a;obtain⟨l,d⟩:=h.rq.mem e c;exact zr d a
def Ya{β:Type}(l:List (ByteArray × β))(s:ByteArray)(x:β):List (ByteArray × β) :=
 l.take (low zi (l.map Prod.fst) s)++[(s,x)]++l.drop (if Zb zi (l.map Prod.fst) s=true then low zi (l.map Prod.fst) s+1 else low zi (l.map Prod.fst) s)
def Xh{β:Type}(l:List (ByteArray × β))(s:ByteArray):List (ByteArray × β) :=
 if Zb zi (l.map Prod.fst) s=true then l.take (low zi (l.map Prod.fst) s)++l.drop (low zi (l.map Prod.fst) s+1) else l
def zn(l:List (ByteArray × List Ver))(s:ByteArray):List Ver :=
 if Zb zi (l.map Prod.fst) s=true then(l.getD (low zi (l.map Prod.fst) s) (s,[])).2 else []
theorem Pair.set{c:List (ByteArray × Value)}{b:List (ByteArray × List Ver)}(h:Pair R c b)(s:ByteArray){l:List Ver}(d:R x l):Pair R (YB c s x) (Ya b s l):=by
 unfold YB Ya;rw[show zA c=b.map Prod.fst from h.uR];exact Pair.append (Pair.append (h.take _) ⟨rfl,d,trivial⟩) (h.drop _)
theorem Pair.mi{b:List (ByteArray × Value)}{a:List (ByteArray × List Ver)}(h:Pair R b a)(s:ByteArray):Pair R (XL b s) (Xh a s):=by
 unfold XL Xh;rw[show zA b=a.map Prod.fst from h.uR];split
 .exact Pair.append (h.take _) (h.drop _)
 .exact h
theorem FD:∀ e∈YB l s x,e∈l\/e=(s,x):=by
 intro e a;simp only[YB,CV,CX] at a;rcases a with(a|a)|a
 .exact .inl (BN a)
 .exact .inr a
 .exact .inl (Bx a)
def SStep(w:World)(b:Nat)(L:SL)(S:SM)(X:Nat->Prop)(c:World):Prop :=
 ∃ a,SRep c b a S/\Fr (SFoot b L) w c/\(∀ k,SFoot b a k->SFoot b L k\/w.heap.size<=k)/\(∀ k,SRead a k->SRead L k\/X k)
theorem PH(n:Nat)(b:Nat)(L:SL)(S:SM)(w:World)(h:SRep w b L S) :
 Calls prog 308 #[.agg #[I n],E b 0] w fun e m=>e=.returned (.tuple #[])/\SStep w b L {S with tm:=n} Nil m:=by
 have g:=h.td.lt;have o:=h.td.cell;have p:=h.td.frozen;have f:SStep w b L {S with tm:=n} Nil ((w.setCell (Y b 2) (I n)).alloc (.cells #[I n] 220)):=by
  have c:Fr (fun k=>k=b) w (w.setCell (Y b 2) (I n)):=Fr.set (S:=fun k=>k=b) (U _ _) (fun _=>rfl) _;have hs:SRep (w.setCell (Y b 2) (I n)) b L {S with tm:=n} :=
   ⟨h.td.set 2 _,h.qi.fr c (fun k d e=>zh h.qi.sL h.td O (by rw[d,e])),h.rq.mono (fun a _ l i=>VRow.fr i c (fun k d e=>zh i h.td O (by rw[d,e]))),ze h.sE c (fun k d e=>zh h.sE h.td O (by rw[d,e]))⟩
  exact⟨L,hs.nil ((U _ _).alloc _),(c.mono (fun k _ e=>.inl e)).alloc _,fun k d=>.inl d,fun k d=>.inl d⟩
 clear h;have j:=Z f;clear f;go_enter func308,ntmps308
 go_wp2
 exact Aw (v:=.tuple #[]) af rfl ⟨rfl,j.o⟩
def ZU(w:World)(n:Int):Nat->Value->Prop
 | 0,v=>∃ b c f,v=.iface 225 (E b 0)/\Blk w b [.string c,.string f,I n] 229
 | k+1,v=>∃ b a d,v=.iface 202 (E b 0)/\Blk w b [.string a,d] 204/\ZU w n k d
def ERep(w:World)(v:Value):Option Int->Prop
 | none=>v=.nilIface
 | some n=>∃ k,ZU w n k v
def Wt(w:World)(S:Nat->Prop):Prop:=∀ k,(Ty w k 229\/Ty w k 204)->¬S k
theorem ZU.fr{S:Nat->Prop}{w w':World}{n:Int}(f:Fr S w w')(r:Wt w S):∀ {k:Nat}{v:Value},ZU w n k v->ZU w' n k v
 | 0,_,⟨b,c,g,h,e⟩=>⟨b,c,g,h,e.fr f (r b (.inl e.ty))⟩
 | _+1,_,⟨b,o,v',h,e,y⟩=>⟨b,o,v',h,e.fr f (r b (.inr e.ty)),ZU.fr f r y⟩
theorem ERep.fr{S:Nat->Prop}{w w':World}{v:Value}{e:Option Int}(h:ERep w v e)(f:Fr S w w')(g:Wt w S):ERep w' v e:=by
 cases e with
 | none=>exact h
 | some n=>obtain⟨k,c⟩:=h;exact⟨k,c.fr f g⟩
theorem Wt.nil(w:World):Wt w Nil:=fun _ _=>id
theorem ZU.form{n:Int}:∀ {k:Nat}{v:Value},ZU w n k v->∃ t b,v=.iface t (E b 0)
 | 0,_,⟨b,_,_,h,_⟩=>⟨_,b,h⟩
 | _+1,_,⟨b,_,_,h,_⟩=>⟨_,b,h⟩
def zT(n:Int):Option Int:=if n=0 then none else some n
theorem YC(c f:ByteArray)(n:Int)(w:World) :
 Calls prog 166 #[.string c,.string f,I n] w fun e d=>∃ v,e=.returned v/\ERep d v (zT n)/\Fr Nil w d:=by
 by_cases a:n=0
 .subst a
  go_enter func166,ntmps166
  go_wp2
  go_ret;exact⟨_,rfl,rfl,U _ _⟩
 .have he:zT n=some n:=by unfold zT;rw[CW a]
  have b:Blk (w.alloc (.cells #[.string c,.string f,I n] 229)) w.heap.size [.string c,.string f,I n] 229:=Blk.new w [.string c,.string f,I n] _;have h:(n==0)=false:=by simp[a]
  have g:=Z b;rw[he];clear he b a;go_enter func166,ntmps166
  go_wp2
  go_ret;exact⟨_,rfl,⟨0,_,_,_,rfl,g.o⟩,(U _ _).alloc _⟩
theorem zU(a:ByteArray)(v:Value)(e:Option Int)(w:World)(h:ERep w v e) :
 Calls prog 90 #[.string a,v] w fun x w'=>∃ g,x=.returned g/\ERep w' g e/\Fr Nil w w':=by
 cases e with
 | none =>
  have j:v=.nilIface:=h;subst j;go_enter func90,ntmps90
  go_wp2
  go_ret;exact⟨_,rfl,rfl,U _ _⟩
 | some n =>
  obtain⟨k,c⟩:=h;obtain⟨t,b,rfl⟩:=c.form;have f:Fr Nil w (w.alloc (.cells #[.string a,.iface t (E b 0)] 204)):=(U _ _).alloc _;have d:Blk (w.alloc (.cells #[.string a,.iface t (E b 0)] 204)) w.heap.size [.string a,.iface t (E b 0)] 204:=Blk.new w [.string a,.iface t (E b 0)] _;have i:aa (ERep (w.alloc (.cells #[.string a,.iface t (E b 0)] 204)) (.iface 202 (E w.heap.size 0)) (some n)):=⟨k+1,_,_,_,rfl,d,c.fr f (Wt.nil w)⟩;clear d c;go_enter func90,ntmps90
  go_wp2
  go_ret;exact⟨_,rfl,i.o,f⟩
structure JM where
 limit:Nat
 tu:Nat
 name:ByteArray
 size:Nat
 qk:Bool
 tQ:Bool
variable{b:Nat}{L:DL}{M:DM}{J:JM}
def JM.cells(c:Nat)(J:JM):List Value:=[E c 0,I J.limit,I J.tu,.string J.name,I J.size,.bool J.qk,.bool J.tQ]
def JRep(w:World)(b a:Nat)(J:JM):Prop:=Blk w b (J.cells a) 197
def DTy(t:TypeId):Prop:=t=143\/t=148\/t=145\/t=152\/t=5
theorem DRep.ty{w:World}{b:Nat}{L:DL}{M:DM}(h:DRep w b L M){k:Nat}(d:Foot b L M k):∃ t,Ty w k t/\DTy t:=by
 cases d using Foot.elim with
 | blk=>exact⟨_,h.td.ty,.inl rfl⟩
 | dir e=>exact⟨_,zr h.uX e,.inr (.inl rfl)⟩
 | safe e=>exact⟨_,zr h.uZ e,.inr (.inl rfl)⟩
 | ch e=>exact⟨_,zr h.ch e,.inr (.inr (.inl rfl))⟩
 | chs i a e=>exact⟨_,zr (h.tB i a (by rw[<- h.qh];exact a)) e,.inr (.inl rfl)⟩
 | file e=>exact⟨_,(h.tw k e).ty,.inr (.inr (.inr (.inl rfl)))⟩
 | row f c e=>exact⟨_,zr (h.sq f c) e,.inr (.inr (.inr (.inr rfl)))⟩
theorem DRep.apart(h:DRep w b L M){t:TypeId}(e:Ty w k t)(a:¬DTy t):¬Foot b L M k:=fun d=>by
 obtain⟨u,f,c⟩:=h.ty d;rw[e.inj f] at a;exact a c
theorem Blk.step{w':World}{a:Nat}{d:DL}{e:DM}{c:List Value}{t:TypeId}(h:Blk w a c t)(f:DRep w b L M)(hs:DStep b L M w d e w')(g:¬DTy t):Blk w' a c t :=
 h.fr hs.fr (f.apart h.ty g)
theorem DStep.of{c a:World}{L':DL}{M':DM}(h:DStep b L M c L' M' a)(f:Fr Nil w c):DStep b L M w L' M' a :=
 ⟨h.th,(f.mono (fun _ _ e=>absurd e id)).trans h.fr,fun k d=>(h.sd k d).imp id (fun h=>CO f.size h)⟩
theorem DStep.tR{d w':World}{a:DL}{c:DM}(h:DStep b L M w a c d)(f:Fr Nil d w'):DStep b L M w a c w' :=
 ⟨h.th.fr f (fun _ _=>id),h.fr.trans (f.mono (fun _ _ e=>absurd e id)),h.sd⟩
theorem DRep.nil{c:World}(h:DRep w b L M)(f:Fr Nil w c):DRep c b L M:=h.fr f (fun _ _=>id)
def JM.tA(J:JM)(M:DM):Option Int × DM:=if J.tu=0 then(none,M) else(zT (M.tY J.name).1,(M.tY J.name).2)
theorem VY(c b:Nat)(J:JM)(L:DL)(M:DM)(w:World)(l:JRep w c b J)(i:DRep w b L M) :
 Calls prog 132 #[E c 0] w fun e d=>∃ v f,e=.returned v/\ERep d v (J.tA M).1/\DStep b L M w f (J.tA M).2 d:=by
 have k:=l.cell;simp only[JM.cells] at k;by_cases j:J.tu=0
 .have hs:J.tA M=(none,M):=by unfold JM.tA;rw[Bl j]
  rw[hs];rw[j] at k;have m:=Z i;clear hs j i l;go_enter func132,ntmps132
  go_wp2
  go_ret;exact⟨_,L,rfl,rfl,DStep.sF m.o (U _ _)⟩
 .have hs:J.tA M=(zT (M.tY J.name).1,(M.tY J.name).2):=by unfold JM.tA;rw[CW j]
  rw[hs];have D:((J.tu:Int)==0)=false:=by simp;omega
  have y:w.cell? (Y c 0)=some (E b 0):=k 0;have A:w.cell? (Y c 3)=some (.string J.name):=k 3;have r:aa (∀ q d f,DStep b L M q f (M.tY J.name).2 d->Fr Nil w q->d.cell? (Y c 0)=some (E b 0)/\d.cell? (Y c 3)=some (.string J.name)):=by
   intro q d f a t;have:=((l.fr t id).step (i.nil t) a ae).cell;exact⟨by rw[this];rfl,by rw[this];rfl⟩
  have m:=Z i;clear hs j i l;go_enter func132,ntmps132;go_wp2_with fail
  go_region_held3 (fun d=>d.cell? (Y c 0)=some (E b 0)/\d.cell? (Y c 3)=some (.string J.name)) (first|assumption|go_keep)
   (first
   | (go_at_call 166;refine(YC _ _ _ _).mono ?_;rintro e p ⟨G,rfl,s,g⟩;have C:p.cell? (Y c 0)=some (E b 0)/\p.cell? (Y c 3)=some (.string J.name):=r.o _ _ _ (h.o.tR (Fr.trans zd g)) (U _ _);have x:=Z s;have o:aa (Fr Nil u p):=Fr.trans zd g;clear s g)
   | (go_at_call 167;refine(Sm J.name _ b L M (m.o.nil zd)).mono ?_;rintro e u ⟨rfl,f,a⟩;have B:=r.o _ _ _ a zd;have h:aa (DStep b L M w f (M.tY J.name).2 u):=a.of zd;clear a))
  go_wp2
  go_ret;exact⟨_,f,rfl,x.o,h.o.tR o.o⟩
def JStep(e a:Nat)(L:DL)(M:DM)(w:World)(J':JM)(c:DL)(d:DM)(b:World):Prop :=
 JRep b e a J'/\DRep b a c d/\Fr (fun k=>k=e\/Foot a L M k) w b/\(∀ k,Foot a c d k->Foot a L M k\/w.heap.size<=k)
theorem JStep.trans{e c:Nat}{L1 o r:DL}{s M2 t:DM}{y w2 A:World}{C g:JM}(h:JStep e c L1 s y C o M2 w2)(k:JStep e c o M2 w2 g r t A):JStep e c L1 s y g r t A:=by
 refine⟨k.1,k.2.1,h.2.2.1.tk k.2.2.1 (fun i x D=>?_),fun i x=>?_⟩
 .rcases D with h'|h'
  .exact .inl h'
  .rcases h.2.2.2 i h' with h2|h2
   .exact .inr h2
   .omega
 .rcases k.2.2.2 i x with h'|h'
  .exact h.2.2.2 i h'
  .exact .inr (CO h.2.2.1.size h')
theorem JStep.rP{d a:Nat}{b:DL}{c:DM}{f:World}(i:JRep w d a J)(g:DRep w a L M)(h:DStep a L M w b c f):JStep d a L M w J b c f :=
 ⟨i.step g h ae,h.th,h.fr.mono (fun _ _ e=>.inr e),h.sd⟩
theorem JStep.nil{e c:Nat}{g:World}(h:JRep w e c J)(d:DRep w c L M)(f:Fr Nil w g):JStep e c L M w J L M g :=
 JStep.rP h d (DStep.sF d f)
theorem JStep.tR{d c:Nat}{a:DL}{b:DM}{e w':World}{J':JM}(h:JStep d c L M w J' a b e)(f:Fr Nil e w'):JStep d c L M w J' a b w' :=
 h.trans (JStep.nil h.1 h.2.1 f)
theorem JStep.set{c:Nat}{J':JM}(j:JRep w b c J)(f:DRep w c L M)(i:Nat)(v:Value)(h:(J.cells c).set i v=J'.cells c):JStep b c L M w J' L M (w.setCell (Y b i) v):=by
 have g:Fr (fun k=>k=b) w (w.setCell (Y b i) v):=Fr.set (S:=fun k=>k=b) (U _ _) (fun _=>rfl) _;refine⟨?_,f.fr g (fun k d e=>?_),g.mono (fun _ _ e=>.inl e),fun k d=>.inl d⟩
 .unfold JRep
  rw[<- h];exact Blk.set j i v
 .subst e
  exact f.apart (Blk.ty j) ae d
theorem ERep.oQ{i:World}{g:Nat}{j:DL}{l:DM}{J':JM}{e:Option Int}(h:ERep w v e)(d:JRep w g b J)(c:DRep w b L M)(hs:JStep g b L M w J' j l i):ERep i v e :=
 h.fr hs.2.2.1 (fun k f a=>by
  rcases a with a|a
  .subst a
   rcases f with h|h
   .exact absurd ((Blk.ty d).inj h) O
   .exact absurd ((Blk.ty d).inj h) O
  .rcases f with h|h
   .exact c.apart h ae a
   .exact c.apart h ae a)
def JM.sw(J:JM)(M:DM):Option Int × JM × DM:=(zT M.sw.1,{J with tQ:=M.sw.1==0},M.sw.2)
theorem VZ(j h:Nat)(J:JM)(L:DL)(M:DM)(w:World)(u:JRep w j h J)(B:DRep w h L M) :
 Calls prog 133 #[E j 0] w fun e D=>∃ v l,e=.returned v/\ERep D v (J.sw M).1/\JStep j h L M w (J.sw M).2.1 l (J.sw M).2.2 D:=by
 have K:w.cell? (Y j 0)=some (E h 0):=u.cell 0;have y:=Z B;have G:=Z u;simp only[JM.sw];clear B u;go_enter func133,ntmps133;go_wp2_with fail;refine(QK w h L M y.o).mono ?_;rintro e Q ⟨rfl,l,p⟩;have s:=Z p;clear p;go_wp2_with fail;refine(YC _ _ _ Q).mono ?_;rintro e x ⟨C,rfl,d,o⟩;have f:JStep j h L M w J l M.sw.2 x:=(JStep.rP G.o y.o s.o).tR o;have R:=f.1.frozen 6;have N:x.cell? (Y j 6)=some (.bool J.tQ):=f.1.cell 6;have c:=Z f;have A:=Z d;clear f o;by_cases i:M.sw.1=0
 .have hv:C=.nilIface:=by unfold zT at d;rw[Bl i] at d;exact d
  subst hv;have m:(M.sw.1==0)=true:=by simp[i]
  have a:=JStep.set c.o.1 c.o.2.1 6 (.bool true) (J':={J with tQ:=true}) rfl;have r:=Z (c.o.trans a);have g:=Z (A.o.oQ c.o.1 c.o.2.1 a);have q:=Z m;clear i d a m
  go_wp2
  go_ret;rw[q.o];exact⟨_,l,rfl,g.o,r.o⟩
 .obtain⟨k,hk⟩:∃ k,ZU x M.sw.1 k C:=by unfold zT at d;rw[CW i] at d;exact d
  obtain⟨t,b,rfl⟩:=hk.form;have m:(M.sw.1==0)=false:=by simp[i]
  have a:=JStep.set c.o.1 c.o.2.1 6 (.bool false) (J':={J with tQ:=false}) rfl;have r:=Z (c.o.trans a);have g:=Z (A.o.oQ c.o.1 c.o.2.1 a);have q:=Z m;clear i d a m hk
  go_wp2
  go_ret;rw[q.o];exact⟨_,l,rfl,g.o,r.o⟩
def JM.sJ(J:JM)(M:DM):Option Int × JM × DM :=
 if (J.tA M).1=none/\J.tu≠0/\J.tQ=false then J.sw (J.tA M).2 else((J.tA M).1,J,(J.tA M).2)
theorem IL(h:p:=by
 go_wp2_with fail;refine(zU _ _ none G rfl).mono ?_;rintro e X ⟨v2,rfl,a,f⟩;have c:=Z a;have s:=Z (d.o.tR f);clear a f
 go_wp2
 go_ret;rw[u.o];exact⟨_,D,rfl,c.o,s.o⟩):p:=h
theorem VK(r o:Nat)(J:JM)(L:DL)(M:DM)(w:World)(T:JRep w r o J)(S:DRep w o L M) :
 Calls prog 84 #[E r 0] w fun e w'=>∃ v L',e=.returned v/\ERep w' v (J.sJ M).1/\JStep r o L M w (J.sJ M).2.1 L' (J.sJ M).2.2 w':=by
 have HC:=Z (VY r o J L M w T S);have HD:=Z S;have HJ:=Z T;clear S T;go_enter func84,ntmps84;go_wp2_with fail;refine HC.o.mono ?_;rintro e G ⟨v1,D,rfl,l,C⟩;have m:JStep r o L M w J D (J.tA M).2 G:=JStep.rP HJ.o HD.o C;have R:=m.1.cell;simp only[JM.cells] at R;have d:=Z m;have K:=Z l;clear m C HC;cases he:(J.tA M).1 with
 | some n =>
  have j:J.sJ M=(some n,J,(J.tA M).2):=by unfold JM.sJ;rw[CW (by rw[he];simp),he]
  have u:=Z j;rw[he] at l K;obtain⟨k,hk⟩:=l;obtain⟨t,b,rfl⟩:=hk.form;clear he j hk;go_wp2_with fail;refine(zU _ _ (some n) G K.o).mono ?_;rintro e X ⟨v2,rfl,a,f⟩;have c:=Z a;have s:=Z (d.o.tR f);clear a f
  go_wp2
  go_ret;rw[u.o];exact⟨_,D,rfl,c.o,s.o⟩
 | none =>
  rw[he] at l K;have hv:v1=.nilIface:=l;subst hv;by_cases q:J.tu≠0/\J.tQ=false
  .have j:J.sJ M=J.sw (J.tA M).2:=by unfold JM.sJ;rw[Bl ⟨he,q⟩]
   have u:=Z j;have HS:=Z (VZ r o J D (J.tA M).2 G d.o.1 d.o.2.1);have B:0<J.tu:=V
   have g:=q.2;rw[g] at R;clear he j q l g;go_wp2_with fail;refine HS.o.mono ?_;rintro e X ⟨v2,L2,rfl,a,i⟩;have Q:=Z (d.o.trans i);have c:=Z a;clear a i;go_wp2_with fail;refine(zU _ _ _ X c.o).mono ?_;rintro e w3 ⟨v3,rfl,x,y⟩;have N:=Z x;have s:=Z (Q.o.tR y);clear x y
   go_wp2
   go_ret;rw[u.o];exact⟨_,L2,rfl,N.o,s.o⟩
  .have j:J.sJ M=(none,J,(J.tA M).2):=by unfold JM.sJ;rw[CW (fun h=>q h.2),he]
   have u:=Z j;have A:J.tu=0\/J.tQ=true:=by
    rcases yI J.tu with h|h
    .exact .inl h
    .right
     cases hds:J.tQ with
     | true=>rfl
     | false=>exact absurd ⟨V,hds⟩ q
   clear he j q l;by_cases hl:J.tu=0
   .have B:¬0<J.tu:=V
    exact IL
   .have B:0<J.tu:=V
    have g:J.tQ=true:=A.resolve_left hl;rw[g] at R;clear A hl g;exact IL
end Go.Proofs.YtkhnggkkiefcdaaGreatDoor
namespace Go.Proofs
open Go.Shelf
def Tryz.py:Go.Shelf.Ren:=⟨fun|171=>81|243=>130|246=>165|283=>205|284=>206|285=>207|286=>208|129=>229|317=>228|318=>230|319=>231|320=>232|337=>242|338=>243|n=>n,fun|3=>3|9=>9|2=>2|4=>4|171=>293|0=>0|53=>274|37=>150|5=>5|173=>296|212=>322|51=>323|20=>20|213=>324|46=>299|232=>340|233=>341|n=>n,fun|17=>1|18=>2|19=>3|n=>n⟩
theorem Tryz.oy:Go.Proofs.LaysM.n171 Tryz.prog Tryz.py:={
 mixed:=by kernel_rfl
 f129:=Tryz.func229.trans (congrArg some (by kernel_rfl))
 f171:=Tryz.func81.trans (congrArg some (by kernel_rfl))
 f243:=Tryz.func130.trans (congrArg some (by kernel_rfl))
 f246:=Tryz.func165.trans (congrArg some (by kernel_rfl))
 f283:=Tryz.func205.trans (congrArg some (by kernel_rfl))
 f284:=Tryz.func206.trans (congrArg some (by kernel_rfl))
 f285:=Tryz.func207.trans (congrArg some (by kernel_rfl))
 f286:=Tryz.func208.trans (congrArg some (by kernel_rfl))
 f317:=Tryz.func228.trans (congrArg some (by kernel_rfl))
 f318:=Tryz.func230.trans (congrArg some (by kernel_rfl))
 f319:=Tryz.func231.trans (congrArg some (by kernel_rfl))
 f320:=Tryz.func232.trans (congrArg some (by kernel_rfl))
 f337:=Tryz.func242.trans (congrArg some (by kernel_rfl))
 f338:=Tryz.func243.trans (congrArg some (by kernel_rfl))
 t0:=Tryz.underlying0
 a0:=Tryz.isAgg0
 z0:=Tryz.sizeOf0
 v0:=Tryz.zeroValue0
 t2:=Tryz.underlying2
 a2:=Tryz.isAgg2
 z2:=Tryz.sizeOf2
 v2:=Tryz.zeroValue2
 t3:=Tryz.underlying3
 a3:=Tryz.isAgg3
 z3:=Tryz.sizeOf3
 v3:=Tryz.zeroValue3
 t4:=Tryz.underlying4
 a4:=Tryz.isAgg4
 z4:=Tryz.sizeOf4
 v4:=Tryz.zeroValue4
 t5:=Tryz.underlying5
 a5:=Tryz.isAgg5
 z5:=Tryz.sizeOf5
 v5:=Tryz.zeroValue5
 t9:=Tryz.underlying9
 a9:=Tryz.isAgg9
 z9:=Tryz.sizeOf9
 v9:=Tryz.zeroValue9
 t20:=Tryz.underlying20
 a20:=Tryz.isAgg20
 z20:=Tryz.sizeOf20
 v20:=Tryz.zeroValue20
 t37:=Tryz.underlying150
 a37:=Tryz.isAgg150
 z37:=Tryz.sizeOf150
 v37:=Tryz.zeroValue150
 t46:=Tryz.underlying299
 a46:=Tryz.isAgg299
 z46:=Tryz.sizeOf299
 v46:=Tryz.zeroValue299
 t51:=Tryz.underlying323
 a51:=Tryz.isAgg323
 z51:=Tryz.sizeOf323
 v51:=Tryz.zeroValue323
 t53:=Tryz.underlying274
 a53:=Tryz.isAgg274
 z53:=Tryz.sizeOf274
 v53:=Tryz.zeroValue274
 t171:=Tryz.underlying293
 a171:=Tryz.isAgg293
 z171:=Tryz.sizeOf293
 v171:=Tryz.zeroValue293
 t173:=Tryz.underlying296
 a173:=Tryz.isAgg296
 z173:=Tryz.sizeOf296
 v173:=Tryz.zeroValue296
 t212:=Tryz.underlying322
 a212:=Tryz.isAgg322
 z212:=Tryz.sizeOf322
 v212:=Tryz.zeroValue322
 t213:=Tryz.underlying324
 a213:=Tryz.isAgg324
 z213:=Tryz.sizeOf324
 t232:=Tryz.underlying340
 a232:=Tryz.isAgg340
 z232:=Tryz.sizeOf340
 v232:=Tryz.zeroValue340
 t233:=Tryz.underlying341
 a233:=Tryz.isAgg341
 z233:=Tryz.sizeOf341
 v233:=Tryz.zeroValue341
 g17:=by kernel_rfl
 g18:=by kernel_rfl
 g19:=by kernel_rfl
 i0:=by kernel_rfl
 i2:=by kernel_rfl
 i3:=by kernel_rfl
 i4:=by kernel_rfl
 i5:=by kernel_rfl
 i9:=by kernel_rfl
 i20:=by kernel_rfl
 i37:=by kernel_rfl
 i46:=by kernel_rfl
 i51:=by kernel_rfl
 i53:=by kernel_rfl
 i171:=by kernel_rfl
 i173:=by kernel_rfl
 i212:=by kernel_rfl
 i232:=by kernel_rfl
 i233:=by kernel_rfl
 m17:=by kernel_rfl
 m18:=by kernel_rfl
 m19:=by kernel_rfl}
def Tryz.pt:Go.Shelf.Ren:=⟨fun|25=>125|n=>n,fun|9=>9|3=>3|4=>4|37=>150|0=>0|47=>240|5=>5|n=>n,fun|n=>n⟩
theorem Tryz.pA:Go.Proofs.LaysPu.n25 Tryz.prog Tryz.pt:={
 mixed:=by kernel_rfl
 f25:=Tryz.func125.trans (congrArg some (by kernel_rfl))
 t0:=Tryz.underlying0
 a0:=Tryz.isAgg0
 z0:=Tryz.sizeOf0
 v0:=Tryz.zeroValue0
 i0:=by kernel_rfl
 t3:=Tryz.underlying3
 a3:=Tryz.isAgg3
 z3:=Tryz.sizeOf3
 v3:=Tryz.zeroValue3
 i3:=by kernel_rfl
 t4:=Tryz.underlying4
 a4:=Tryz.isAgg4
 z4:=Tryz.sizeOf4
 v4:=Tryz.zeroValue4
 i4:=by kernel_rfl
 t5:=Tryz.underlying5
 a5:=Tryz.isAgg5
 z5:=Tryz.sizeOf5
 v5:=Tryz.zeroValue5
 i5:=by kernel_rfl
 t9:=Tryz.underlying9
 a9:=Tryz.isAgg9
 z9:=Tryz.sizeOf9
 v9:=Tryz.zeroValue9
 i9:=by kernel_rfl
 t37:=Tryz.underlying150
 a37:=Tryz.isAgg150
 z37:=Tryz.sizeOf150
 v37:=Tryz.zeroValue150
 i37:=by kernel_rfl
 t47:=Tryz.underlying240
 a47:=Tryz.isAgg240
 z47:=Tryz.sizeOf240
 v47:=Tryz.zeroValue240
 i47:=by kernel_rfl}
end Go.Proofs
namespace Go.Proofs.YtkhnggkkiefcdaaGreatDoor
open Go.RowKit Proofs.Tryz
set_option maxRecDepth 100000
set_option maxHeartbeats 8000000
def Wm:String:=(Rows.writesRow.laid.map (fun x=>x.1)).getD 2 ""
def Tab(w:World):Prop:=Lib.TabIs prog w Wm .u64 Lib.pow10Tab
def Wc(n:Nat):ByteArray:=⟨(Lib.itoa n).toArray⟩
theorem EY(w:World)(b:Array Obj):Fr Nil w (Sort.grow w b):=⟨rfl,rfl,rfl,by simp[Sort.grow],fun k a _=>by simp[Sort.grow,Array.getElem?_append,a]⟩
theorem KD(n:Nat)(h:n<9223372036854775808)(w:World)(b:Tab w) :
 Calls prog 81 #[I n] w fun e a=>e=.returned (.string (Wc n))/\Fr Nil w a:=by
 have:=Any.strconv_Itoa Tryz.oy n V V w b;refine uK (show Calls prog 81 #[I n] w _ from this) ?_;rintro e a ⟨rfl,k,c,rfl⟩;exact⟨rfl,((U _ _).drewN k).trans (EY _ c)⟩
def Hnd(w:World):Prop:=w.cell? (Y 0 0)=some (.iface 309 (.agg #[E 6 132]))
def Xr(B:Nat)(w:World):Prop:=Tab w/\(∀ g,prog.globalNamed Wm=some g->g<B)/\Hnd w/\0<B
theorem Xr.fr{B:Nat}{S:Nat->Prop}{w w':World}(h:Xr B w)(r:B<=w.heap.size)(f:Fr S w w')(e:∀ k,S k->B<=k):Xr B w':=by
 refine⟨?_,h.2.1,(f.cell (by have:=h.2.2.2;show _<_;simp only;omega) (fun hs=>by have:=e _ hs;have:=h.2.2.2;simp only at *;omega)).trans h.2.2.1,h.2.2.2⟩;have c:=h.1;unfold Tab Lib.TabIs World.var? at c |-;cases hg:prog.globalNamed Wm with
 | none=>rw[hg] at c;simp at c
 | some g =>
  rw[hg] at c;have o:=h.2.1 g hg;simp only[wZ] at c |-;rw[f.block g V (fun hs=>by have:=e g hs;omega)];exact c
def zw(a:ByteArray)(n:Nat):ByteArray:=a++Wc n
theorem Ve(a:ByteArray)(b:a.size<=1000)(n:Nat)(h:n<9223372036854775808)(w:World)(d:Tab w) :
 Calls prog 173 #[.string a,I n] w fun e j=>e=.returned (.string (zw a n))/\Fr Nil w j:=by
 have c:=Z (KD n h w d);unfold zw;have hs:(Wc n).size<=21:=by unfold Wc;simpa [ByteArray.size] using Lib.itoa_length_le (n:Int) V V
 generalize Wc n=s at c hs |-;have g:(a.size:Int)+s.size<=9223372036854775807:=V
 have i:¬(9223372036854775807:Int)<(a.size:Int)+s.size:=V
 clear d;go_enter func173,ntmps173
 go_wp2_with (refine c.o.mono ?_;rintro e k ⟨rfl,f⟩)
 go_ret;exact⟨rfl,f⟩
def zV:ByteArray:=⟨#[108,111,103]⟩
def JM.begin(J:JM)(M:DM)(number f:Nat):Option Int × JM × DM :=
 match (J.tA M).1 with
 | some n=>(some n,J,(J.tA M).2)
 | none =>
  if ((J.tA M).2.sx (zw zV number) f).1=0 then
   (none,{J with tu:=number,name:=zw zV number,size:=0,qk:=false,tQ:=false},((J.tA M).2.sx (zw zV number) f).2)
  else(some ((J.tA M).2.sx (zw zV number) f).1,J,((J.tA M).2.sx (zw zV number) f).2)
theorem VL(B q i:Nat)(J:JM)(L:DL)(M:DM)(number:Nat)(G:number<9223372036854775808)(w:World)(hj:JRep w q i J)(hd:DRep w i L M)(ht:Xr B w)(hB:B<=w.heap.size)(m:∀ k,Foot i L M k->B<=k)
 (a0:(J.tA M).2.tB.length+1<=1000000000000)(a1:(J.tA M).2.uX.length+1<=1000000000000) :
 Calls prog 210 #[E q 0,I number] w fun e w' =>
  ∃ f v L',e=.returned v/\w.heap.size<=f/\ERep w' v (J.begin M number f).1/\JStep q i L M w (J.begin M number f).2.1 L' (J.begin M number f).2.2 w':=by
 have HC:=Z (VY q i J L M w hj hd);have HD:=Z hd;have HJ:=Z hj;have HT:=Z ht;clear hd hj ht;go_enter func210,ntmps210;go_wp2_with fail;refine HC.o.mono ?_;rintro e w1 ⟨v1,T,rfl,p,h⟩;have D:JStep q i L M w J T (J.tA M).2 w1:=JStep.rP HJ.o HD.o h;have y:Tab w1:=(HT.o.fr hB h.fr m).1;have s:=Z D;have N:=Z p;have a4:=h.fr.size;clear D h HC;cases he:(J.tA M).1 with
 | some n =>
  have K:∀ f,J.begin M number f=(some n,J,(J.tA M).2):=by intro f;unfold JM.begin;rw[he]
  have u:=Z K;rw[he] at p N;obtain⟨k,hk⟩:=p;obtain⟨t,b,rfl⟩:=hk.form;clear he K hk
  go_wp2
  go_ret;refine⟨w.heap.size,_,T,rfl,CP _,?_,?_⟩
  .rw[u.o];exact N.o
  .rw[u.o];exact s.o
 | none =>
  rw[he] at p N;have hv:v1=.nilIface:=p;subst hv;have K:∀ f,J.begin M number f=if ((J.tA M).2.sx (zw zV number) f).1=0 then
   (none,{J with tu:=number,name:=zw zV number,size:=0,qk:=false,tQ:=false},((J.tA M).2.sx (zw zV number) f).2)
   else(some ((J.tA M).2.sx (zw zV number) f).1,J,((J.tA M).2.sx (zw zV number) f).2):=by intro f;unfold JM.begin;rw[he]
  have u:=Z K;clear he K p;go_wp2_with fail;refine(Ve zV O number G w1 y).mono ?_;rintro e w2 ⟨rfl,l⟩;have d:=s.o.tR l;have a2:w2.cell? (Y q 0)=some (E i 0):=d.1.cell 0;have g:=Z d;have a3:=l.size;clear d l y;go_wp2_with fail;refine(UJ (zw zV number) w2 i T (J.tA M).2 g.o.2.1 a0 a1).mono ?_;rintro e w3 ⟨f,L3,rfl,hf,j⟩;have a:=g.o.trans (JStep.rP g.o.1 g.o.2.1 j);have hc:=a.1.cell;have hz:=a.1.frozen;simp only[JM.cells] at hc;have r:=Z a;clear a j a2;by_cases o:((J.tA M).2.sx (zw zV number) f).1=0
  .have hp2:=u.o f
   rw[Bl o] at hp2;have hq:(((J.tA M).2.sx (zw zV number) f).1 != 0)=false:=by simp[o]
   have c:=Z hp2;clear hp2 o
   go_wp2
   go_ret;refine⟨f,_,L3,rfl,V,?_,?_⟩
   .rw[c.o];rfl
   .rw[c.o]
    have X:=r.o;have s1:=JStep.set X.1 X.2.1 2 (I number) (J':={J with tu:=number}) rfl;have s2:=JStep.set s1.1 s1.2.1 3 (.string (zw zV number)) (J':={J with tu:=number,name:=zw zV number}) rfl;have s3:=JStep.set s2.1 s2.2.1 4 (I 0) (J':={J with tu:=number,name:=zw zV number,size:=0}) rfl;have s4:=JStep.set s3.1 s3.2.1 5 (.bool false) (J':={J with tu:=number,name:=zw zV number,size:=0,qk:=false}) rfl;have s5:=JStep.set s4.1 s4.2.1 6 (.bool false) (J':={J with tu:=number,name:=zw zV number,size:=0,qk:=false,tQ:=false}) rfl;exact((((X.trans s1).trans s2).trans s3).trans s4).trans s5
  .have hp2:=u.o f
   rw[CW o] at hp2;have hq:(((J.tA M).2.sx (zw zV number) f).1 != 0)=true:=by simp[o]
   have A:zT ((J.tA M).2.sx (zw zV number) f).1=some ((J.tA M).2.sx (zw zV number) f).1:=by unfold zT;rw[CW o]
   have c:=Z hp2;have R:=Z A;clear hp2 o A;go_wp2_with fail;refine(YC _ _ _ w3).mono ?_;rintro e w4 ⟨v4,rfl,x,C⟩;have Q:=Z x;have HF:=Z (r.o.tR C);clear x C
   go_wp2
   go_ret;refine⟨f,_,L3,rfl,V,?_,?_⟩
   .rw[c.o];have:=Q.o;rw[R.o] at this;exact this
   .rw[c.o];exact HF.o
def JM.om(J:JM)(a:Nat):Bool:=decide (J.tu≠0)&&(!J.qk&&decide (J.size+a<=J.limit))
def JM.tS(J:JM)(M:DM)(a f:Nat):Option Int × JM × DM:=if J.om a=true then(none,J,M) else J.begin M (J.tu+1) f
theorem IM{p:Prop}(h:p:=by
 rw[q] at X;clear hfit G q;go_enter func202,ntmps202;go_wp2_with fail
 go_quiet (fail)
 go_wp2_with fail;refine(VL B o i J L M (J.tu+1) V _ (Blk.drewN s.o _) (r.o.nil zd) (HT.o.fr K (S:=Nil) zd (fun _ h=>absurd h id)) K d y A).mono ?_;rintro e D ⟨f,v2,t,rfl,hf,x,g⟩;have N:=Z x;have Q:aa (JStep o i L M w (J.begin M (J.tu+1) f).2.1 t (J.begin M (J.tu+1) f).2.2 D):=(JStep.nil s.o r.o zd).trans g;clear x g;go_wp2_with fail;refine(zU _ _ _ D N.o).mono ?_;rintro e w3 ⟨v3,rfl,b,c⟩;have j:=Z b;have l:=Z (Q.o.tR c);clear b c
 go_wp2
 go_ret;refine⟨f,_,t,rfl,hf,?_,?_⟩
 .rw[m.o];exact j.o
 .rw[m.o];exact l.o):p:=h
theorem Rq(B o i:Nat)(J:JM)(L:DL)(M:DM)(a:Nat)(a1:a<1000000000000)(a2:J.size<1000000000000)(a0:J.tu+1<1000000000000)(w:World)(hj:JRep w o i J)(hd:DRep w i L M)(ht:Xr B w)(K:B<=w.heap.size)(d:∀ k,Foot i L M k->B<=k)
 (y:(J.tA M).2.tB.length+1<=1000000000000)(A:(J.tA M).2.uX.length+1<=1000000000000) :
 Calls prog 202 #[E o 0,I a] w fun e w' =>
  ∃ f v L',e=.returned v/\w.heap.size<=f/\ERep w' v (J.tS M a f).1/\JStep o i L M w (J.tS M a f).2.1 L' (J.tS M a f).2.2 w':=by
 have X:=hj.cell;simp only[JM.cells] at X;have r:=Z hd;have s:=Z hj;have HT:=Z ht;clear hd hj ht;have a3:IntKind.i64.wrap ((J.size:Int)+a)=(J.size:Int)+a:=by rw[Bu];omega
 have a4:IntKind.i64.wrap ((J.tu:Int)+1)=(J.tu:Int)+1:=by rw[Bu];omega
 cases hfit:J.om a with
 | true =>
  have C:∀ f,J.tS M a f=(none,J,M):=by intro f;unfold JM.tS;rw[Bl hfit]
  have m:=Z C;simp only[JM.om,Ar,Bi,vK] at hfit;obtain⟨G,q,h3⟩:=hfit;have g1:decide ((0:Int)<J.tu)=true:=by simp;omega
  have R:(0:Int)<J.tu:=V
  have g3:decide ((J.size:Int)+a<=J.limit)=true:=by simp;omega
  have u:decide (0<J.tu)=true:=by simp;omega
  have T:decide (J.size+a<=J.limit)=true:=by simp;omega
  rw[q] at X;clear C G q h3;go_enter func202,ntmps202;go_wp2_with fail
  go_quiet (fail)
  go_wp2
  go_ret;refine⟨w.heap.size,_,L,rfl,CP _,?_,?_⟩
  .rw[m.o];rfl
  .rw[m.o];exact JStep.nil s.o r.o zd
 | false =>
  have C:∀ f,J.tS M a f=J.begin M (J.tu+1) f:=by intro f;unfold JM.tS;rw[CW (by rw[hfit];simp)]
  have m:=Z C;clear C;by_cases G:0<J.tu
  .have g1:decide ((0:Int)<J.tu)=true:=by simp;omega
   have R:(0:Int)<J.tu:=V
   have u:decide (0<J.tu)=true:=by simp;omega
   cases q:J.qk with
   | true =>
    exact IM
   | false =>
    have g3:decide ((J.size:Int)+a<=J.limit)=false:=by
     simp only[JM.om,q,Bool.not_false,vW,Bool.and_eq_false_iff,BP] at hfit;simp;omega
    have T:decide (J.size+a<=J.limit)=false:=by simp at g3 |-;omega
    exact IM
  .have g1:decide ((0:Int)<J.tu)=false:=by simp;omega
   have u:decide (0<J.tu)=false:=by simp;omega
   clear hfit G;go_enter func202,ntmps202;go_wp2_with fail
   go_quiet (fail)
   go_wp2_with fail;refine(VL B o i J L M (J.tu+1) V _ (Blk.drewN s.o _) (r.o.nil zd) (HT.o.fr K (S:=Nil) zd (fun _ h=>absurd h id)) K d y A).mono ?_;rintro e D ⟨f,v2,t,rfl,hf,x,g⟩;have N:=Z x;have Q:aa (JStep o i L M w (J.begin M (J.tu+1) f).2.1 t (J.begin M (J.tu+1) f).2.2 D):=(JStep.nil s.o r.o zd).trans g;clear x g;go_wp2_with fail;refine(zU _ _ _ D N.o).mono ?_;rintro e w3 ⟨v3,rfl,b,c⟩;have j:=Z b;have l:=Z (Q.o.tR c);clear b c
   go_wp2
   go_ret;refine⟨f,_,t,rfl,hf,?_,?_⟩
   .rw[m.o];exact j.o
   .rw[m.o];exact l.o
end Go.Proofs.YtkhnggkkiefcdaaGreatDoor
