/- larder: joined texts -/
import Derived.Test.YtkhnggkkiefcdaaGreatDoorKRAG
import Derived.Test.YtkhnggkkiefcdaaGreatDoorKRAI
import Derived.Test.YtkhnggkkiefcdaaGreatDoorKRAJ
import Derived.Test.YtkhnggkkiefcdaaGreatDoorKRAM
import Derived.Test.YtkhnggkkiefcdaaGreatDoorKRAQ
namespace Go.Proofs.YtkhnggkkiefcdaaGreatDoor
open Go.RowKit Go.Shelf
set_option maxRecDepth 100000
set_option maxHeartbeats 8000000
attribute [local go_sem] Et
theorem Jj:((Tryz.prog.info? 165).map fun i=>(i.zero.map (·.cells.size),i.size,i.bytes))=some (some 1,1,16):=by kernel_rfl
def Xo(e:ByteArray × Value):Value:=.iface 193 (.agg #[.string e.1,e.2])
def QE(x:Nat × ByteArray):Value:=.iface 138 (.agg #[.int .i64 x.1,.string x.2])
def U6(n:Nat):Value:=.iface 220 (.agg #[.int .i64 n])
def YJ(a:List (ByteArray × Value))(i:Nat):ByteArray × Value:=a.getD i (ByteArray.empty,.slice none 0 0)
def O2(a:List (ByteArray × Value))(i:Nat):Array Value:=#[.string (YJ a i).1,(YJ a i).2]
theorem Ik(F:Fence)(n:Nat)(Y:F.fn 217)(D:F.round=none)(hn:1<=n)(l E O:Nat)(v:Value)(b:List (ByteArray × Value))(J:Nat->World->Prop)
 (W:World)(hl:b.length<4611686018427387904)
 (j:∀ e∈b,∃ a m c,e.2=.slice a m c)(hJ:AbidesFrom W.heap.size J)(h:∀ i o,J i o->o.ownsRow 0 239 2 v b.length (Zc b))
 (hY:∀ i o,i<b.length->J i o->YieldAt F (n-1) Tryz.prog l (O2 b i) o fun e x=>e=.returned (.bool true)/\J (i+1) x)
 (X:W.cell? ⟨E,0,none⟩=some (.pointer (some ⟨O,0,none⟩)))(a3:W.cell? ⟨O,0,none⟩=some v)(L:J 0 W) :
 CallsIn F n Tryz.prog 217 #[.func (.yield l) #[] #[],.pointer (some ⟨E,0,none⟩)] W fun e x=>(∃ r,e=.returned r)/\J b.length x:=by
 obtain⟨V,y,rfl⟩:=zg (h 0 W L);refine An BU rfl Y ?_ D;simp only[Tryz.ntmps217,Eh,Gn,GT,Nat.reduceAdd,Nat.reduceSub,Er,Es,EO,EB,GP,GC]
 gi_wp2
 gi_loopw [10] (fun i wr=>∃ k:Nat,k<=b.length/\i=.int .i64 k/\J k wr) (fun i _=>b.length-(intOf i).toNat)
 case atStart=>exact⟨0,Gz _,rfl,L⟩
 case round =>
  obtain⟨k,hk,rfl,d⟩:=hrel;by_cases f:k<b.length
  .have hvr:=h _ _ d
   obtain⟨g,q,hg,_,_⟩:=zy hvr (by omega);obtain⟨rfl,rfl⟩:V=some ⟨g,0,none⟩/\y=q:=by simpa using hg
   obtain⟨G,N,K,C⟩:=j b[k] (Gj f);have a2:=own_cell? hvr (k*2) _ (ZQ b k f).1;have B:=own_cell? hvr (k*2+1) _ (ZQ b k f).2;rw[C] at B;have s:J k (wr.alloc (.cells #[.string b[k].1,.slice G N K] 239)):=hJ _ _ _ none d (CT ..) (fun r e=>by cases e);have t:=hY k _ f s;rw[show O2 b k=#[.string b[k].1,.slice G N K] by simp[O2,YJ,List.getD_eq_getElem?_getD,List.getElem?_eq_getElem f,C]] at t;obtain⟨fn,Q,u,I,hy,M⟩:=t;have R:=Z d;have T:=Z M;clear s d M C
   gi_wp2
   refine T.out.mono ?_;rintro e W3 ⟨rfl,A⟩
   gi_wp2
   go_roundw
   case rel=>exact⟨k+1,by omega,by simp,A⟩
   case measure=>simp[intOf];omega
  .obtain rfl:k=b.length:=by omega
   gi_wp2
   go_end0
   exact⟨⟨_,rfl⟩,d⟩
theorem O3(d:List (Nat × ByteArray)):∀ (k:Nat)(h:k<d.length),(Zj d)[k*2]?=some (.int .i64 d[k].1)/\(Zj d)[k*2+1]?=some (.string d[k].2):=by
 induction d with
 | nil=>intro k h;simp at h
 | cons e d a =>
  intro k h;cases k with
  | zero=>exact⟨rfl,rfl⟩
  | succ k =>
   have:=a k (by simpa using h);rw[show(k+1)*2=k*2+2 by omega];exact this
theorem N7(b:Nat)(L:SL)(S:SM)(w:World)(h:SRep w b L S)(c6:S.keys.length<1000000000)(c3:S.hints.length<1000000) :
 Calls Tryz.prog 170 #[.pointer (some ⟨b,0,none⟩)] w fun e w'=>∃ G,e=.returned G/\w'.ownsRow 0 165 1 G (1+L.AV.length+S.hints.length) (U6 S.Ax::(L.AV.map Xo++S.hints.map QE))/\Fr Nil w w'/\(∀ k,G.ownBlock=some k->w.heap.size<=k):=by
 have c2:L.AV.length=S.keys.length:=h.pair.length;have u:∀ e∈L.AV,∃ a m c,e.2=.slice a m c:=fun e Q=>by obtain⟨l,hl⟩:=h.pair.mem e Q;obtain⟨a,c,hf⟩:=zg hl;exact⟨a,_,c,hf⟩
 have HB:=Z h.Ay;have HV:=Z h.xD;have HH:=Z h.hint;have HF:=Z u;have b6:w.cell? ⟨b,0,none⟩=some L.kv:=h.Ay.cell 0;have b7:w.cell? ⟨b,1,none⟩=some L.hv:=h.Ay.cell 1;have c7:w.cell? ⟨b,2,none⟩=some (.int .i64 S.Ax):=h.Ay.cell 2;have a2:=h.Ay.lt;have c4:L.AV.length<1000000000:=by omega
 clear h u c2;refine(FA (n:=8)).1 ?_;refine Dp Tryz.func170 rfl trivial ?_ rfl;simp only[Tryz.ntmps170,Eh,Gn,GT,Nat.reduceAdd,Nat.reduceSub,Er,Es,EO,EB,GP,GC];obtain⟨ti,tz,a6,a7,a8,a9,b0⟩:=Y6 Jj
 gi_wp2_with fail
 refine⟨trivial,?_⟩;refine(FA.2 (Sf b _)).mono ?_;rintro e w3 ⟨rfl,rfl⟩;have A:(w.alloc (.cells #[Value.iface 220 (.agg #[.int .i64 S.Ax])] 165)).ownsRow w.heap.size 165 1 (.slice (some ⟨w.heap.size,0,none⟩) 1 1) 1 [Value.iface 220 (.agg #[.int .i64 S.Ax])] :=
  ⟨rfl,.inr ⟨_,1,#[Value.iface 220 (.agg #[.int .i64 S.Ax])],rfl,Gb _,CV w 165 (Value.iface 220 (.agg #[.int .i64 S.Ax])),Gb _,by unfold maxLen;omega,rfl,rfl⟩⟩
 have y:=(A.alloc (.cells #[.slice (some ⟨w.heap.size,0,none⟩) 1 1] 199)).alloc (.cells #[.pointer (some ⟨b,0,none⟩)] 236);have bO:=(CV (w.alloc (.cells #[Value.iface 220 (.agg #[.int .i64 S.Ax])] 165)) 199 (.slice (some ⟨w.heap.size,0,none⟩) 1 1)).alloc (.cells #[.pointer (some ⟨b,0,none⟩)] 236);have bM:=CV ((w.alloc (.cells #[Value.iface 220 (.agg #[.int .i64 S.Ax])] 165)).alloc (.cells #[.slice (some ⟨w.heap.size,0,none⟩) 1 1] 199)) 236 (.pointer (some ⟨b,0,none⟩));rw[EU,EU] at bM;rw[EU] at bO;have I:Below w.heap.size w (((w.alloc (.cells #[Value.iface 220 (.agg #[.int .i64 S.Ax])] 165)).alloc (.cells #[.slice (some ⟨w.heap.size,0,none⟩) 1 1] 199)).alloc (.cells #[.pointer (some ⟨b,0,none⟩)] 236)) :=
  (((BV _ w).alloc (Gb _) _).alloc (by simp) _).alloc (by simp;omega) _
 have c5:(((w.alloc (.cells #[Value.iface 220 (.agg #[.int .i64 S.Ax])] 165)).alloc (.cells #[.slice (some ⟨w.heap.size,0,none⟩) 1 1] 199)).alloc (.cells #[.pointer (some ⟨b,0,none⟩)] 236)).heap.size=w.heap.size+3:=by simp
 generalize ((w.alloc (.cells #[Value.iface 220 (.agg #[.int .i64 S.Ax])] 165)).alloc (.cells #[.slice (some ⟨w.heap.size,0,none⟩) 1 1] 199)).alloc (.cells #[.pointer (some ⟨b,0,none⟩)] 236)=W0 at I y bM bO c5;clear A;have b2:Hid (∀ i,i<L.AV.length->∃ a m c,YJ L.AV i=((YJ L.AV i).1,.slice a m c)):=fun i hi=>by
  obtain⟨a,m,c,Q⟩:=HF.out L.AV[i] (Gj hi);exact⟨a,m,c,by rw[<- Q];simp[YJ,List.getD_eq_getElem?_getD,List.getElem?_eq_getElem hi]⟩
 have b3:Hid (OwnFrom W0.heap.size (fun(i:Nat) W=>(∃ G,Boxed W (w.heap.size+1) 199 G/\W.ownsRow w.heap.size 165 1 G (i+1) (U6 S.Ax::(List.range i).map fun k=>Xo (YJ L.AV k))/\True)/\Below w.heap.size w W/\W.ownsRow 0 239 2 L.kv L.AV.length (Zc L.AV))) :=
  Bf (Own.from (holdsRow_own w.heap.size (w.heap.size+1) 199 165 1 (fun i:Nat=>i+1) (fun i=>U6 S.Ax::(List.range i).map fun k=>Xo (YJ L.AV k)) (fun _ _=>True)) _) (Bf (ownFrom_below (by omega) (by omega)) (Own.from (IK _ _ _ _ _ _) _))
 have a4:=ze HV.out.own (Fr.yC (S:=Nil) I) (fun _ _=>id);have b4:=Z a4;clear a4
 gi_wp2_with fail
 refine XZ rfl (by decide) (gf:=217) (lb:=#[.pointer (some ⟨w.heap.size+2,0,none⟩)]) rfl trivial (Ck BU (by kernel_rfl) rfl)
  L.AV.length (O2 L.AV) (fun _=>rfl) _ b3.out
  ⟨⟨_,bO,y,trivial⟩,I,b4.out⟩
  (fun k J W hW hJ hI hY h0=>Ik Fence.wide 7 trivial rfl (by decide) k (w.heap.size+2) b L.kv L.AV J W (by omega) HF.out hJ (fun i W1 h=>(hI i W1 h).2.2) hY ((hW.cell (p:=⟨w.heap.size+2,0,none⟩) (by simp only;omega)).trans bM.cell) ((hW.cell (p:=⟨b,0,none⟩) (by simp only;omega)).trans ((I.cell (p:=⟨b,0,none⟩) a2).trans b6)) h0)
  (fun i=>{tmps:=#[.pointer (some ⟨b,0,none⟩),undef,.slice none 0 0,.pointer (some ⟨w.heap.size+1,0,none⟩),.string (YJ L.AV i).1,(YJ L.AV i).2,undef,undef,.pointer (some ⟨b,0,none⟩),.pointer (some ⟨b,0,none⟩),.pointer (some ⟨b,2,none⟩),.int .i64 S.Ax,.agg #[.int .i64 S.Ax],.iface 220 (.agg #[.int .i64 S.Ax]),.slice (some ⟨w.heap.size,0,none⟩) 1 1,.pointer (some ⟨b,0,none⟩),.pointer (some ⟨b,0,none⟩),.pointer (some ⟨b,0,none⟩),.func (.func 217) #[] #[.pointer (some ⟨w.heap.size+2,0,none⟩)],.string (YJ L.AV i).1,(YJ L.AV i).2,undef,undef,undef,undef,undef,undef,undef,undef,undef,undef,undef,undef,undef,undef,undef,undef,undef,undef,undef,undef,undef,undef,undef,undef],defers:=[]}) ?assign ?body ?done
 case assign =>
  intro l x W K E;unfold O2
  gi_wp2
  exact E
 case body =>
  rintro q i W hi ⟨⟨G,s,d,_⟩,t,v⟩;have hc:=s.cell;have hf:=s.frozen;obtain⟨a1,m1,c1,Q⟩:=b2.out i hi;have b1:Hid ((U6 S.Ax::(List.range (i+1)).map fun k=>Xo (YJ L.AV k))=(U6 S.Ax::(List.range i).map fun k=>Xo (YJ L.AV k))++[.iface 193 (.agg #[.string (YJ L.AV i).1,.slice a1 m1 c1])]):=by
   show _=_;rw[Ac,Gy,List.map_singleton,Q];simp[Xo]
  have d0:i<1000000000:=by omega
  rw[Q];clear Q
  gi_wp2_with (gi_at_builtin;go_must (refine CU _ rfl _ _ 199 rfl w.heap.size 165 ti tz 1 16 Tryz.underlying199 a6 a7 a8 a9 b0 (by decide) _ _ _ rfl (d.alloc _) ⟨W.heap.size,0,none⟩ 1 1 [.iface 193 (.agg #[.string (YJ L.AV i).1,.slice a1 m1 c1])] rfl rfl (BI _ _ _) (by simp[Value.oneCell']) (by unfold maxLen;omega) (by omega) (by have:=t.size;simp;omega) ?_;intro v3 w3 o f _;obtain⟨g',r,rfl⟩:=At o;obtain⟨C,Y,X,T,O⟩:=Boxed.appended s (by decide) d t.size (by omega) o f;have b8:=C.cell;have b9:=C.frozen))
  have R:Fr (fun k=>G.ownBlock=some k\/k=w.heap.size+1) W (w3.setCell ⟨w.heap.size+1,0,none⟩ (.slice (some ⟨g',0,none⟩) (i+1+1) r)) :=
   Fr.set (p:=⟨w.heap.size+1,0,none⟩) (Fr.grown ((U _ W).alloc _) f (fun k e _=>.inl e)) (fun _=>.inr rfl) _
  refine⟨T,trivial,⟨_,Y,by rw[b1.out];exact X,trivial⟩,t.trans O,ze v R (fun k hk e=>?_)⟩;rcases e with e|e
  .exact Zb d v (by decide) e hk
  .subst e
   exact zi v (show Blk W (w.heap.size+1) [G] 199 from s) (by decide) hk
 case done =>
  rintro D W hD ⟨⟨G,s,d,_⟩,t,v⟩ E;have hc:=s.cell;have hf:=s.frozen;have M:=(t.cell (p:=⟨b,1,none⟩) a2).trans b7;obtain⟨ah,ch,c0⟩:=zg HH.out;have a0:=Z (ze HH.out (Fr.yC (S:=Nil) t) (fun _ _=>id));rw[c0] at M a0;have a3:=a0.out;clear v
  gi_wp2_with fail
  gi_loopw [33] (fun i wr=>∃ k:Nat,k<=S.hints.length/\i=.int .i64 k/\(∃ v2,Boxed wr (w.heap.size+1) 199 v2/\wr.ownsRow w.heap.size 165 1 v2 (L.AV.length+1+k) ((U6 S.Ax::(List.range L.AV.length).map fun k=>Xo (YJ L.AV k))++(S.hints.take k).map QE))/\Below w.heap.size w wr/\wr.ownsRow 0 75 2 (.slice ah S.hints.length ch) S.hints.length (Zj S.hints)/\wr.heap[D]?=some (.deferred (some []))) (fun i _=>S.hints.length-(intOf i).toNat)
  case atStart=>exact⟨0,Gz _,rfl,⟨_,s,by simpa using d⟩,t,a3,E⟩
  case round =>
   clear hc hf s d t E M a3;obtain⟨k,hk,rfl,⟨v2,s,d⟩,t,hh,E⟩:=hrel;have hc:=s.cell;have hf:=s.frozen;by_cases V:k<S.hints.length
   .obtain⟨g,r,hg,_,_⟩:=zy hh (by omega)
    obtain⟨rfl,rfl⟩:ah=some ⟨g,0,none⟩/\ch=r:=by simpa using hg
    have d1:=own_cell? hh (k*2) _ (O3 S.hints k V).1;have d2:=own_cell? hh (k*2+1) _ (O3 S.hints k V).2;have N:=s.alloc (.cells #[.int .i64 S.hints[k].1,.string S.hints[k].2] 75);have a5:=d.alloc (.cells #[.int .i64 S.hints[k].1,.string S.hints[k].2] 75);have c8:=N.cell;have c9:=N.frozen
    gi_wp2_with (gi_at_builtin;go_must (refine CU _ rfl _ _ 199 rfl w.heap.size 165 ti tz 1 16 Tryz.underlying199 a6 a7 a8 a9 b0 (by decide) _ _ _ rfl (a5.alloc _) ⟨wr.heap.size+1,0,none⟩ 1 1 [.iface 138 (.agg #[.int .i64 S.hints[k].1,.string S.hints[k].2])] rfl rfl (by have:=BI (wr.alloc (.cells #[.int .i64 S.hints[k].1,.string S.hints[k].2] 75)) (.iface 138 (.agg #[.int .i64 S.hints[k].1,.string S.hints[k].2])) 165;rwa [EU] at this) (by simp[Value.oneCell']) (by unfold maxLen;omega) (by omega) (by have:=t.size;simp;omega) ?_;intro v3 w3 o f _;obtain⟨g',r,rfl⟩:=At o;obtain⟨C,Y,X,T,O⟩:=Boxed.appended N (by decide) a5 (by have:=t.size;simp;omega) (by omega) o f;have b8:=C.cell;have b9:=C.frozen))
    have R:Fr (fun j=>v2.ownBlock=some j\/j=w.heap.size+1) wr (w3.setCell ⟨w.heap.size+1,0,none⟩ (.slice (some ⟨g',0,none⟩) (L.AV.length+1+k+1) r)) :=
     Fr.set (p:=⟨w.heap.size+1,0,none⟩) (Fr.grown (((U _ wr).alloc _).alloc _) f (fun j e _=>.inl e)) (fun _=>.inr rfl) _
    have hT:S.hints.take (k+1)=S.hints.take k++[S.hints[k]]:=GQ V;refine⟨⟨k+1,by omega,by simp,⟨_,Y,?_⟩,(t.alloc t.size _).trans O,ze hh R (fun j hj e=>?_),T.same D _ ((Dq _ _ _ (Fa.1 E).1).trans E) rfl⟩,by simp[intOf];omega⟩
    .rw[hT,Gy,<- Gp]
     exact X
    .rcases e with e|e
     .exact Zb d hh (by decide) e hj
     .subst e
      exact zi hh (show Blk wr (w.heap.size+1) [v2] 199 from s) (by decide) hj
   .obtain rfl:k=S.hints.length:=by omega
    gi_wp2_with fail
    refine⟨by simp,.inl ⟨_,_,rfl,Ca E,?_⟩⟩;have b5:Below w.heap.size w (wr.putObj D (.deferred none)):=t.trans (belowK_b (w:=w) (Gb _) wr D _ _ (by omega) E rfl rfl);have B:=ownsRow_putObj d (.deferred none) E rfl;refine⟨_,Aj rfl _ _ _,_,rfl,UG (base:=w.heap.size) ?_,Fr.yC b5,?_⟩
    .have e1:(List.range L.AV.length).map (fun k=>Xo (YJ L.AV k))=L.AV.map Xo:=by
      refine BH (by simp) fun i h1 h2=>?_;have h3:i<L.AV.length:=by simpa using h2
      simp[YJ,List.getD_eq_getElem?_getD,List.getElem?_eq_getElem h3]
     rw[e1,Gt,GC,Nat.add_comm L.AV.length 1] at B;exact B
    .exact(fun k hk=>(d.lt k hk).1:∀ k,v2.ownBlock=some k->w.heap.size<=k)
end Go.Proofs.YtkhnggkkiefcdaaGreatDoor
namespace Go.Proofs.YtkhnggkkiefcdaaGreatDoor
open Go.RowKit
set_option maxRecDepth 100000
set_option maxHeartbeats 8000000
def Wrote(i f d a:Nat)(j:Value)(left:List Fact)(L:DL)(M:DM)(w:World)(r:Int)(h:DM)(e:Ending)(c:World):Prop :=
 ∃ v g b,e=.returned v/\ERep c v (zJ r)/\DRep c d g h/\Fr (fun k=>k=i\/Foot d L M k) w c/\(∀ k,Foot d g h k->Foot d L M k\/w.heap.size<=k)/\Blk c i [.pointer (some ⟨f,0,none⟩),b,.int .i64 a] 201/\(r=0->ZD c b left)/\(r≠0->b=j)
theorem FRep.kept{S:Nat->Prop}{w b:World}{v:Value}{x:Fact}(a:FRep w v x)(f:Fr S w b)(c:∀ k,Ty w k 37->¬S k):FRep b v x:=by
 rcases x with n|x|x|x
 .exact a
 .obtain⟨lv,e,hl⟩:=a
  exact⟨lv,e,VRow.fr hl f (fun k d=>c k (zE hl d))⟩
 .exact a
 .exact a
theorem ZD.cons{w:World}{E:Value}{x:Fact}{l:List Fact}(h:ZD w E (x::l)):∃ g k c u,E=.slice (some ⟨g,k,none⟩) (l.length+1) c/\l.length+1<=c/\w.cell? ⟨g,k,none⟩=some u/\FRep w u x/\(∀ v S,Fr S w v->(∀ k t,Ty w k t->MTy t->¬S k)->v.cell? ⟨g,k,none⟩=some u) /\
 ∀ e:Value,(1<c->e=.slice (some ⟨g,k+1,none⟩) l.length (c-1))->(c=1->∃ a G,e=.slice a 0 G)->ZD w e l:=by
 obtain⟨g,k,d,Q,m,I,T,B⟩:=h;have A:=I (by simp);obtain⟨R,y,D,o,_⟩:=zy m (by simp only[Gn];omega);simp only[DO,GU,Br,As] at D;obtain⟨_,_,rfl⟩:=D;simp only[Gn] at m A o;obtain⟨u,s,O⟩:=B 0 (by simp);rw[Eu] at s;refine⟨g,k,d-k,u,A,by omega,own_cell? m k u s,O,fun v S f L=>own_cell? (ze m f (fun i q=>L i _ (zE m q) (.inr (.inr (.inl rfl))))) k u s,fun e C M=>⟨g,k+1,d,Q,?_,fun r=>?_,fun r=>?_,fun i q=>?_⟩⟩
 .rw[show k+1+l.length=k+(l.length+1) by omega]
  exact m
 .have hlp:=CS.2 r
  rw[C (by omega),show d-k-1=d-(k+1) by omega]
 .by_cases hc:d-k=1
  .exact M hc
  .exact⟨_,_,by rw[C (by omega),r];rfl⟩
 .obtain⟨u',hu',hf'⟩:=B (i+1) (by simpa using q)
  refine⟨u',by rw[show k+1+i=k+(i+1) by omega];exact hu',?_⟩
  simpa using hf'
theorem Rl(q o jb E B m:Nat)(J:JM)(L:DL)(M:DM)(n:Nat)(left:List Fact)(lv:Value)(w:World)(hm:Blk w q [.pointer (some ⟨o,0,none⟩),lv,.int .i64 m] 201)(a4:Blk w o [.pointer (some ⟨jb,0,none⟩),.int .i64 B] 250)(hl:ZD w lv ((Sum.inl n:Fact)::left))
 (hj:JRep w jb E J)(hd:DRep w E L M)(hp:0<=M.part)(b1:FOk (Sum.inl n:Fact))(b0:(zj (Sum.inl n:Fact)).size<=1000000000000)(a5:∀ f,f∈M.ids->(M.file f).bytes.length<=1000000000000)(c8:left.length<1000000000) :
 Calls Tryz.prog 136 #[.pointer (some ⟨q,0,none⟩)] w (Wrote q o E m lv left L M w (M.add zf (zj (Sum.inl n:Fact))).1 (M.add zf (zj (Sum.inl n:Fact))).2):=by
 obtain⟨g,k,c,u,rfl,b9,c0,a6,A,I⟩:=hl.cons;have c3:u=.iface 220 (.agg #[.int .i64 n]):=a6;subst c3;have HR:=Z (fun l (_:Fr Nil w l)=>Us n b1 l);have HA:=Z (fun l (f:Fr Nil w l)=>Xl o jb E B J L M (zj (Sum.inl n:Fact)) l (a4.fr f id) (Blk.fr hj f id) (hd.nil f) hp b0 a5);generalize X:zj (Sum.inl n:Fact)=K at HA |-;have b7:Hid (zt (XF n)=K):=X;have c9:=P8;have HK:Hid (∀ l,Fr Nil w l->l.cell? ⟨q,0,none⟩=some (.pointer (some ⟨o,0,none⟩))/\l.cell? ⟨q,1,none⟩=some (.slice (some ⟨g,k,none⟩) (left.length+1) c)/\l.cell? ⟨g,k,none⟩=some (.iface 220 (.agg #[.int .i64 n]))):=fun l f=>⟨(hm.fr f id).cell 0,(hm.fr f id).cell 1,A l Nil f (fun _ _ _ _=>id)⟩;have a1:∀ {k t},Ty w k t->¬DTy t->¬Foot E L M k:=fun Q hn=>hd.apart Q hn;have N:Hid (∀ l w1 L' R,Fr Nil w l->DStep E L M l L' (M.add zf K).2 w1->Fr Nil w1 R->Blk R q [.pointer (some ⟨o,0,none⟩),.slice (some ⟨g,k,none⟩) (left.length+1) c,.int .i64 m] 201/\R.cell? ⟨g,k,none⟩=some (.iface 220 (.agg #[.int .i64 n]))):=fun l w1 L' R f s f2=>by
  have F:Fr (Foot E L M) w R:=((f.mono (S':=Foot E L M) (fun _ _ e=>absurd e id)).trans s.fr).trans (f2.mono (fun _ _ e=>absurd e id));refine⟨hm.fr F (a1 hm.ty (by unfold DTy;decide)),A R _ F (fun i t Q hM=>?_)⟩;unfold MTy at hM;rcases hM with rfl|rfl|rfl|rfl <;> exact a1 Q (by unfold DTy;decide)
 have HL:=Z hl;have HN:=Z I;have HD:=Z hd;have HC:=Z b9;have a7:=HK.out w (U _ _);clear hm a4 hl hj hd hp b0 a5 A I X a6 c0 a1 b1;go_enter Aa,Bx;go_wp2_with fail
 go_region_held3 (fun l=>l.cell? ⟨q,0,none⟩=some (.pointer (some ⟨o,0,none⟩))/\l.cell? ⟨q,1,none⟩=some (.slice (some ⟨g,k,none⟩) (left.length+1) c)/\l.cell? ⟨g,k,none⟩=some (.iface 220 (.agg #[.int .i64 n]))) (first|assumption|go_keep|exact HK.out _ zd)
  (first
  | (go_at_call 171;refine(HA.out _ (d.trans zd)).mono ?_;rintro e D ⟨v3,L3,rfl,b,j⟩;have b2:D.cell? ⟨q,0,none⟩=some (.pointer (some ⟨o,0,none⟩))/\D.cell? ⟨q,1,none⟩=some (.slice (some ⟨g,k,none⟩) (left.length+1) c)/\D.cell? ⟨g,k,none⟩=some (.iface 220 (.agg #[.int .i64 n])):=⟨(N.out _ _ _ _ (d.trans zd) j (U _ _)).1.cell 0,(N.out _ _ _ _ (d.trans zd) j (U _ _)).1.cell 1,(N.out _ _ _ _ (d.trans zd) j (U _ _)).2⟩;have b3:=Z (fun R (f:Fr Nil D R)=>(N.out _ _ _ R (d.trans zd) j f).1);have C:=Z b;have x:Hid (DStep E L M w L3 (M.add zf K).2 D):=j.of (d.trans zd);clear b j)
  | (go_at_call 307;refine(HR.out _ zd).mono ?_;rintro e w2 ⟨rfl,c2⟩;have d:Fr Nil w w2:=Fr.trans zd c2;have d1:=HK.out w2 d;rw[b7.out]))
 generalize a9:(M.add zf K).1=r at C;have a0:=Z a9;clear a9;have a2:Hid (Fr (fun k=>k=q\/Foot E L M k) w D):=x.out.fr.mono (fun _ _ e=>.inr e);have y:=b3.out D (U _ _);by_cases h0:r=0
 .have b:=C.out
  unfold zJ at b;rw[GA h0] at b;have hv:v3=.nilIface:=b;subst hv;have O:=Z h0;have b8:=y.cell;have d0:=y.frozen;have c4:(1:Int)<=((left.length:Int)+1):=by omega
  have V:Fr (Foot E L M) w D:=x.out.fr;have Y:Hid (∀ v:Value,(1<c->v=.slice (some ⟨g,k+1,none⟩) left.length (c-1))->(c=1->∃ a c',v=.slice a 0 c')->Wrote q o E m (.slice (some ⟨g,k,none⟩) (left.length+1) c) left L M w r (M.add zf K).2 (.returned .nilIface) (D.setCell ⟨q,1,none⟩ v)):=fun v ha hb=>by
   have fs:Fr (fun k=>k=q) D (D.setCell ⟨q,1,none⟩ v):=Fr.set (S:=fun k=>k=q) (p:=⟨q,1,none⟩) (U _ _) (fun _=>rfl) _;have G:∀ {k t},Ty D k t->t≠201->¬k=q:=fun Q hn e=>by subst e;exact hn (Q.inj y.ty)
   refine⟨.nilIface,L3,v,rfl,by rw[O.out];rfl,x.out.AK.fr fs (fun k hk=>?_),a2.out.trans (fs.mono (fun _ _ e=>.inl e)),x.out.AX,by simpa using y.set 1 v,fun _=>?_,fun e=>absurd O.out e⟩
   .obtain⟨t,Q,hd⟩:=x.out.AK.ty hk
    unfold DTy at hd;refine G Q ?_;rcases hd with rfl|rfl|rfl|rfl|rfl <;> decide
   .have h1:=HN.out v ha hb
    have h2:=h1.fr V (fun i t Q hM=>by
     unfold MTy at hM;rcases hM with rfl|rfl|rfl|rfl <;> exact HD.out.apart Q (by unfold DTy;decide))
    obtain⟨g',k',a3,c7,q1,q2,q3,q4⟩:=h2;refine⟨g',k',a3,c7,ze q1 fs (fun i hi=>G (zE q1 hi) (by decide)),q2,q3,fun i hi=>?_⟩;obtain⟨u',c6,c1⟩:=q4 i hi;exact⟨u',c6,c1.kept fs (fun k hk=>G hk (by decide))⟩
  clear b C h0 y V b2 a7;by_cases T:c=1
  .subst T
   have c5:left.length=0:=by have:=HC.out;omega
   rw[c5] at b8 c4 Y;go_wp2_with fail;go_ret;rw[a0.out];exact Y.out _ (fun h=>absurd h (by decide)) (fun _=>⟨_,_,rfl⟩)
  .have hcg:1<c:=by have:=HC.out;omega
   go_wp2_with fail;go_ret;rw[a0.out];exact Y.out _ (fun _=>rfl) (fun h=>absurd h T)
 .have b:=C.out
  unfold zJ at b;rw[Gl h0] at b;have O:=Z h0;have b6:=Z C.out;obtain⟨k5,a8⟩:∃ k,Zs D r k v3:=b;obtain⟨t5,b5,rfl⟩:=a8.form;have b4:=Z y;clear a8 h0 y b2 a7 C;go_wp2_with fail;go_ret;rw[a0.out];exact⟨_,L3,_,rfl,b6.out,x.out.AK,a2.out,x.out.AX,b4.out,fun e=>absurd e O.out,fun _=>rfl⟩
theorem Rm(v q jb I D o:Nat)(J:JM)(L:DL)(M:DM)(b:ByteArray)(R:List Ver)(left:List Fact)(lv:Value)(w:World)(hm:Blk w v [.pointer (some ⟨q,0,none⟩),lv,.int .i64 o] 201)(a9:Blk w q [.pointer (some ⟨jb,0,none⟩),.int .i64 D] 250)(hl:ZD w lv ((Sum.inr (Sum.inl (b,R)):Fact)::left))
 (hj:JRep w jb I J)(hd:DRep w I L M)(hp:0<=M.part)(O:FOk (Sum.inr (Sum.inl (b,R)):Fact))(b6:(zj (Sum.inr (Sum.inl (b,R)):Fact)).size<=1000000000000)(b0:∀ f,f∈M.ids->(M.file f).bytes.length<=1000000000000)(d2:left.length<1000000000) :
 Calls Tryz.prog 136 #[.pointer (some ⟨v,0,none⟩)] w (Wrote v q I o lv left L M w (M.add zf (zj (Sum.inr (Sum.inl (b,R)):Fact))).1 (M.add zf (zj (Sum.inr (Sum.inl (b,R)):Fact))).2):=by
 obtain⟨g,k,c,u,rfl,c3,c4,b1,C,N⟩:=hl.cons;obtain⟨x,c7,a3⟩:∃ x,u=.iface 193 (.agg #[.string b,x])/\VRow w x R:=id b1;subst c7;have HR:=Z (fun m (f:Fr Nil w m)=>Ut b x R O.1 O.2.1 O.2.2.1 m (VRow.fr a3 f (fun _ _=>id)) O.2.2.2);clear a3;have HA:=Z (fun m (f:Fr Nil w m)=>Xl q jb I D J L M (zj (Sum.inr (Sum.inl (b,R)):Fact)) m (a9.fr f id) (Blk.fr hj f id) (hd.nil f) hp b6 b0);generalize a2:zj (Sum.inr (Sum.inl (b,R)):Fact)=Q at HA |-;have c1:Hid (zt (XG b R)=Q):=a2;have d3:=P9;have HK:Hid (∀ m,Fr Nil w m->m.cell? ⟨v,0,none⟩=some (.pointer (some ⟨q,0,none⟩))/\m.cell? ⟨v,1,none⟩=some (.slice (some ⟨g,k,none⟩) (left.length+1) c)/\m.cell? ⟨g,k,none⟩=some (.iface 193 (.agg #[.string b,x]))):=fun m f=>⟨(hm.fr f id).cell 0,(hm.fr f id).cell 1,C m Nil f (fun _ _ _ _=>id)⟩;have a6:∀ {k t},Ty w k t->¬DTy t->¬Foot I L M k:=fun X hn=>hd.apart X hn;have T:Hid (∀ m w1 L' Y,Fr Nil w m->DStep I L M m L' (M.add zf Q).2 w1->Fr Nil w1 Y->Blk Y v [.pointer (some ⟨q,0,none⟩),.slice (some ⟨g,k,none⟩) (left.length+1) c,.int .i64 o] 201/\Y.cell? ⟨g,k,none⟩=some (.iface 193 (.agg #[.string b,x]))):=fun m w1 L' Y f s f2=>by
  have F:Fr (Foot I L M) w Y:=((f.mono (S':=Foot I L M) (fun _ _ e=>absurd e id)).trans s.fr).trans (f2.mono (fun _ _ e=>absurd e id));refine⟨hm.fr F (a6 hm.ty (by unfold DTy;decide)),C Y _ F (fun i t X hM=>?_)⟩;unfold MTy at hM;rcases hM with rfl|rfl|rfl|rfl <;> exact a6 X (by unfold DTy;decide)
 have HL:=Z hl;have HN:=Z N;have HD:=Z hd;have HC:=Z c3;have b2:=HK.out w (U _ _);clear hm a9 hl hj hd hp b6 b0 C N a2 b1 c4 a6 O;go_enter Aa,Bx;go_wp2_with fail
 go_region_held3 (fun m=>m.cell? ⟨v,0,none⟩=some (.pointer (some ⟨q,0,none⟩))/\m.cell? ⟨v,1,none⟩=some (.slice (some ⟨g,k,none⟩) (left.length+1) c)/\m.cell? ⟨g,k,none⟩=some (.iface 193 (.agg #[.string b,x]))) (first|assumption|go_keep|exact HK.out _ zd)
  (first
  | (go_at_call 171;refine(HA.out _ (j.trans zd)).mono ?_;rintro e G ⟨v3,L3,rfl,d,l⟩;have b7:G.cell? ⟨v,0,none⟩=some (.pointer (some ⟨q,0,none⟩))/\G.cell? ⟨v,1,none⟩=some (.slice (some ⟨g,k,none⟩) (left.length+1) c)/\G.cell? ⟨g,k,none⟩=some (.iface 193 (.agg #[.string b,x])):=⟨(T.out _ _ _ _ (j.trans zd) l (U _ _)).1.cell 0,(T.out _ _ _ _ (j.trans zd) l (U _ _)).1.cell 1,(T.out _ _ _ _ (j.trans zd) l (U _ _)).2⟩;have b8:=Z (fun Y (f:Fr Nil G Y)=>(T.out _ _ _ Y (j.trans zd) l f).1);have E:=Z d;have A:Hid (DStep I L M w L3 (M.add zf Q).2 G):=l.of (j.trans zd);clear d l)
  | (go_at_call 286;refine(HR.out _ zd).mono ?_;rintro e w2 ⟨rfl,c6⟩;have j:Fr Nil w w2:=Fr.trans zd c6;have d5:=HK.out w2 j;rw[c1.out]))
 generalize b4:(M.add zf Q).1=r at E;have a5:=Z b4;clear b4;have a7:Hid (Fr (fun k=>k=v\/Foot I L M k) w G):=A.out.fr.mono (fun _ _ e=>.inr e);have B:=b8.out G (U _ _);by_cases h0:r=0
 .have d:=E.out
  unfold zJ at d;rw[GA h0] at d;have hv:v3=.nilIface:=d;subst hv;have V:=Z h0;have c2:=B.cell;have d4:=B.frozen;have c8:(1:Int)<=((left.length:Int)+1):=by omega
  have a1:Fr (Foot I L M) w G:=A.out.fr;have a4:Hid (∀ y:Value,(1<c->y=.slice (some ⟨g,k+1,none⟩) left.length (c-1))->(c=1->∃ a c',y=.slice a 0 c')->Wrote v q I o (.slice (some ⟨g,k,none⟩) (left.length+1) c) left L M w r (M.add zf Q).2 (.returned .nilIface) (G.setCell ⟨v,1,none⟩ y)):=fun y ha hb=>by
   have fs:Fr (fun k=>k=v) G (G.setCell ⟨v,1,none⟩ y):=Fr.set (S:=fun k=>k=v) (p:=⟨v,1,none⟩) (U _ _) (fun _=>rfl) _;have K:∀ {k t},Ty G k t->t≠201->¬k=v:=fun X hn e=>by subst e;exact hn (X.inj B.ty)
   refine⟨.nilIface,L3,y,rfl,by rw[V.out];rfl,A.out.AK.fr fs (fun k hk=>?_),a7.out.trans (fs.mono (fun _ _ e=>.inl e)),A.out.AX,by simpa using B.set 1 y,fun _=>?_,fun e=>absurd V.out e⟩
   .obtain⟨t,X,hd⟩:=A.out.AK.ty hk
    unfold DTy at hd;refine K X ?_;rcases hd with rfl|rfl|rfl|rfl|rfl <;> decide
   .have h1:=HN.out y ha hb
    have h2:=h1.fr a1 (fun i t X hM=>by
     unfold MTy at hM;rcases hM with rfl|rfl|rfl|rfl <;> exact HD.out.apart X (by unfold DTy;decide))
    obtain⟨g',k',a8,d1,q1,q2,q3,q4⟩:=h2;refine⟨g',k',a8,d1,ze q1 fs (fun i hi=>K (zE q1 hi) (by decide)),q2,q3,fun i hi=>?_⟩;obtain⟨u',d0,c5⟩:=q4 i hi;exact⟨u',d0,c5.kept fs (fun k hk=>K hk (by decide))⟩
  clear d E h0 B a1 b7 b2;by_cases a0:c=1
  .subst a0
   have c9:left.length=0:=by have:=HC.out;omega
   rw[c9] at c2 c8 a4;go_wp2_with fail;go_ret;rw[a5.out];exact a4.out _ (fun h=>absurd h (by decide)) (fun _=>⟨_,_,rfl⟩)
  .have hcg:1<c:=by have:=HC.out;omega
   go_wp2_with fail;go_ret;rw[a5.out];exact a4.out _ (fun _=>rfl) (fun h=>absurd h a0)
 .have d:=E.out
  unfold zJ at d;rw[Gl h0] at d;have V:=Z h0;have c0:=Z E.out;obtain⟨k5,b3⟩:∃ k,Zs G r k v3:=d;obtain⟨t5,b5,rfl⟩:=b3.form;have b9:=Z B;clear b3 h0 B b7 b2 E;go_wp2_with fail;go_ret;rw[a5.out];exact⟨_,L3,_,rfl,c0.out,A.out.AK,a7.out,A.out.AX,b9.out,fun e=>absurd e V.out,fun _=>rfl⟩
theorem SG(x v jb I D q:Nat)(J:JM)(L:DL)(M:DM)(d:Nat)(b:ByteArray)(left:List Fact)(lv:Value)(w:World)(hm:Blk w x [.pointer (some ⟨v,0,none⟩),lv,.int .i64 q] 201)(a7:Blk w v [.pointer (some ⟨jb,0,none⟩),.int .i64 D] 250)(hl:ZD w lv ((Sum.inr (Sum.inr (Sum.inl (d,b))):Fact)::left))
 (hj:JRep w jb I J)(hd:DRep w I L M)(hp:0<=M.part)(a4:FOk (Sum.inr (Sum.inr (Sum.inl (d,b))):Fact))(b3:(zj (Sum.inr (Sum.inr (Sum.inl (d,b))):Fact)).size<=1000000000000)(a8:∀ f,f∈M.ids->(M.file f).bytes.length<=1000000000000)(d0:left.length<1000000000) :
 Calls Tryz.prog 136 #[.pointer (some ⟨x,0,none⟩)] w (Wrote x v I q lv left L M w (M.add zf (zj (Sum.inr (Sum.inr (Sum.inl (d,b))):Fact))).1 (M.add zf (zj (Sum.inr (Sum.inr (Sum.inl (d,b))):Fact))).2):=by
 obtain⟨g,k,c,u,rfl,c1,c2,a9,C,N⟩:=hl.cons;have c5:u=.iface 138 (.agg #[.int .i64 d,.string b]):=a9;subst c5;have HR:=Z (fun o (_:Fr Nil w o)=>Ud d b a4.1 a4.2 o);have HA:=Z (fun o (f:Fr Nil w o)=>Xl v jb I D J L M (zj (Sum.inr (Sum.inr (Sum.inl (d,b))):Fact)) o (a7.fr f id) (Blk.fr hj f id) (hd.nil f) hp b3 a8);generalize a0:zj (Sum.inr (Sum.inr (Sum.inl (d,b))):Fact)=O at HA |-;have b9:Hid (zt (XS d b)=O):=a0;have d1:=RD;have HK:Hid (∀ o,Fr Nil w o->o.cell? ⟨x,0,none⟩=some (.pointer (some ⟨v,0,none⟩))/\o.cell? ⟨x,1,none⟩=some (.slice (some ⟨g,k,none⟩) (left.length+1) c)/\o.cell? ⟨g,k,none⟩=some (.iface 138 (.agg #[.int .i64 d,.string b]))):=fun o f=>⟨(hm.fr f id).cell 0,(hm.fr f id).cell 1,C o Nil f (fun _ _ _ _=>id)⟩;have a3:∀ {k t},Ty w k t->¬DTy t->¬Foot I L M k:=fun T hn=>hd.apart T hn;have Q:Hid (∀ o w1 L' V,Fr Nil w o->DStep I L M o L' (M.add zf O).2 w1->Fr Nil w1 V->Blk V x [.pointer (some ⟨v,0,none⟩),.slice (some ⟨g,k,none⟩) (left.length+1) c,.int .i64 q] 201/\V.cell? ⟨g,k,none⟩=some (.iface 138 (.agg #[.int .i64 d,.string b]))):=fun o w1 L' V f s f2=>by
  have F:Fr (Foot I L M) w V:=((f.mono (S':=Foot I L M) (fun _ _ e=>absurd e id)).trans s.fr).trans (f2.mono (fun _ _ e=>absurd e id));refine⟨hm.fr F (a3 hm.ty (by unfold DTy;decide)),C V _ F (fun i t T hM=>?_)⟩;unfold MTy at hM;rcases hM with rfl|rfl|rfl|rfl <;> exact a3 T (by unfold DTy;decide)
 have HL:=Z hl;have HN:=Z N;have HD:=Z hd;have HC:=Z c1;have b0:=HK.out w (U _ _);clear hm a7 hl hj hd hp b3 a8 C N a0 a9 c2 a3 a4;go_enter Aa,Bx;go_wp2_with fail
 go_region_held3 (fun o=>o.cell? ⟨x,0,none⟩=some (.pointer (some ⟨v,0,none⟩))/\o.cell? ⟨x,1,none⟩=some (.slice (some ⟨g,k,none⟩) (left.length+1) c)/\o.cell? ⟨g,k,none⟩=some (.iface 138 (.agg #[.int .i64 d,.string b]))) (first|assumption|go_keep|exact HK.out _ zd)
  (first
  | (go_at_call 171;refine(HA.out _ (l.trans zd)).mono ?_;rintro e G ⟨v3,L3,rfl,j,m⟩;have b4:G.cell? ⟨x,0,none⟩=some (.pointer (some ⟨v,0,none⟩))/\G.cell? ⟨x,1,none⟩=some (.slice (some ⟨g,k,none⟩) (left.length+1) c)/\G.cell? ⟨g,k,none⟩=some (.iface 138 (.agg #[.int .i64 d,.string b])):=⟨(Q.out _ _ _ _ (l.trans zd) m (U _ _)).1.cell 0,(Q.out _ _ _ _ (l.trans zd) m (U _ _)).1.cell 1,(Q.out _ _ _ _ (l.trans zd) m (U _ _)).2⟩;have b6:=Z (fun V (f:Fr Nil G V)=>(Q.out _ _ _ V (l.trans zd) m f).1);have E:=Z j;have A:Hid (DStep I L M w L3 (M.add zf O).2 G):=m.of (l.trans zd);clear j m)
  | (go_at_call 282;refine(HR.out _ zd).mono ?_;rintro e w2 ⟨rfl,c4⟩;have l:Fr Nil w w2:=Fr.trans zd c4;have d3:=HK.out w2 l;rw[b9.out]))
 generalize b2:(M.add zf O).1=r at E;have a2:=Z b2;clear b2;have a5:Hid (Fr (fun k=>k=x\/Foot I L M k) w G):=A.out.fr.mono (fun _ _ e=>.inr e);have B:=b6.out G (U _ _);by_cases h0:r=0
 .have j:=E.out
  unfold zJ at j;rw[GA h0] at j;have hv:v3=.nilIface:=j;subst hv;have R:=Z h0;have c0:=B.cell;have d2:=B.frozen;have c6:(1:Int)<=((left.length:Int)+1):=by omega
  have Y:Fr (Foot I L M) w G:=A.out.fr;have a1:Hid (∀ y:Value,(1<c->y=.slice (some ⟨g,k+1,none⟩) left.length (c-1))->(c=1->∃ a c',y=.slice a 0 c')->Wrote x v I q (.slice (some ⟨g,k,none⟩) (left.length+1) c) left L M w r (M.add zf O).2 (.returned .nilIface) (G.setCell ⟨x,1,none⟩ y)):=fun y ha hb=>by
   have fs:Fr (fun k=>k=x) G (G.setCell ⟨x,1,none⟩ y):=Fr.set (S:=fun k=>k=x) (p:=⟨x,1,none⟩) (U _ _) (fun _=>rfl) _;have K:∀ {k t},Ty G k t->t≠201->¬k=x:=fun T hn e=>by subst e;exact hn (T.inj B.ty)
   refine⟨.nilIface,L3,y,rfl,by rw[R.out];rfl,A.out.AK.fr fs (fun k hk=>?_),a5.out.trans (fs.mono (fun _ _ e=>.inl e)),A.out.AX,by simpa using B.set 1 y,fun _=>?_,fun e=>absurd R.out e⟩
   .obtain⟨t,T,hd⟩:=A.out.AK.ty hk
    unfold DTy at hd;refine K T ?_;rcases hd with rfl|rfl|rfl|rfl|rfl <;> decide
   .have h1:=HN.out y ha hb
    have h2:=h1.fr Y (fun i t T hM=>by
     unfold MTy at hM;rcases hM with rfl|rfl|rfl|rfl <;> exact HD.out.apart T (by unfold DTy;decide))
    obtain⟨g',k',a6,c9,q1,q2,q3,q4⟩:=h2;refine⟨g',k',a6,c9,ze q1 fs (fun i hi=>K (zE q1 hi) (by decide)),q2,q3,fun i hi=>?_⟩;obtain⟨u',c8,c3⟩:=q4 i hi;exact⟨u',c8,c3.kept fs (fun k hk=>K hk (by decide))⟩
  clear j E h0 B Y b4 b0;by_cases X:c=1
  .subst X
   have c7:left.length=0:=by have:=HC.out;omega
   rw[c7] at c0 c6 a1;go_wp2_with fail;go_ret;rw[a2.out];exact a1.out _ (fun h=>absurd h (by decide)) (fun _=>⟨_,_,rfl⟩)
  .have hcg:1<c:=by have:=HC.out;omega
   go_wp2_with fail;go_ret;rw[a2.out];exact a1.out _ (fun _=>rfl) (fun h=>absurd h X)
 .have j:=E.out
  unfold zJ at j;rw[Gl h0] at j;have R:=Z h0;have b8:=Z E.out;obtain⟨k5,b1⟩:∃ k,Zs G r k v3:=j;obtain⟨t5,b5,rfl⟩:=b1.form;have b7:=Z B;clear b1 h0 B b4 b0 E;go_wp2_with fail;go_ret;rw[a2.out];exact⟨_,L3,_,rfl,b8.out,A.out.AK,a5.out,A.out.AX,b7.out,fun e=>absurd e R.out,fun _=>rfl⟩
theorem Rn(q o jb E B m:Nat)(J:JM)(L:DL)(M:DM)(u0:Unit)(left:List Fact)(lv:Value)(w:World)(hm:Blk w q [.pointer (some ⟨o,0,none⟩),lv,.int .i64 m] 201)(a4:Blk w o [.pointer (some ⟨jb,0,none⟩),.int .i64 B] 250)(hl:ZD w lv ((Sum.inr (Sum.inr (Sum.inr u0)):Fact)::left))
 (hj:JRep w jb E J)(hd:DRep w E L M)(hp:0<=M.part)(b0:(zj (Sum.inr (Sum.inr (Sum.inr u0)):Fact)).size<=1000000000000)(a5:∀ f,f∈M.ids->(M.file f).bytes.length<=1000000000000)(c7:left.length<1000000000) :
 Calls Tryz.prog 136 #[.pointer (some ⟨q,0,none⟩)] w (Wrote q o E m lv left L M w (M.add zf (zj (Sum.inr (Sum.inr (Sum.inr u0)):Fact))).1 (M.add zf (zj (Sum.inr (Sum.inr (Sum.inr u0)):Fact))).2):=by
 obtain⟨g,k,c,u,rfl,b8,b9,a6,A,I⟩:=hl.cons;have c2:u=.iface 135 (.agg #[]):=a6;subst c2;have HR:=Z (fun l (_:Fr Nil w l)=>Uu l);have HA:=Z (fun l (f:Fr Nil w l)=>Xl o jb E B J L M (zj (Sum.inr (Sum.inr (Sum.inr u0)):Fact)) l (a4.fr f id) (Blk.fr hj f id) (hd.nil f) hp b0 a5);generalize X:zj (Sum.inr (Sum.inr (Sum.inr u0)):Fact)=K at HA |-;have b6:Hid (zt WN=K):=X;have c8:=Pa;have HK:Hid (∀ l,Fr Nil w l->l.cell? ⟨q,0,none⟩=some (.pointer (some ⟨o,0,none⟩))/\l.cell? ⟨q,1,none⟩=some (.slice (some ⟨g,k,none⟩) (left.length+1) c)/\l.cell? ⟨g,k,none⟩=some (.iface 135 (.agg #[]))):=fun l f=>⟨(hm.fr f id).cell 0,(hm.fr f id).cell 1,A l Nil f (fun _ _ _ _=>id)⟩;have a1:∀ {k t},Ty w k t->¬DTy t->¬Foot E L M k:=fun Q hn=>hd.apart Q hn;have N:Hid (∀ l w1 L' R,Fr Nil w l->DStep E L M l L' (M.add zf K).2 w1->Fr Nil w1 R->Blk R q [.pointer (some ⟨o,0,none⟩),.slice (some ⟨g,k,none⟩) (left.length+1) c,.int .i64 m] 201/\R.cell? ⟨g,k,none⟩=some (.iface 135 (.agg #[]))):=fun l w1 L' R f s f2=>by
  have F:Fr (Foot E L M) w R:=((f.mono (S':=Foot E L M) (fun _ _ e=>absurd e id)).trans s.fr).trans (f2.mono (fun _ _ e=>absurd e id));refine⟨hm.fr F (a1 hm.ty (by unfold DTy;decide)),A R _ F (fun i t Q hM=>?_)⟩;unfold MTy at hM;rcases hM with rfl|rfl|rfl|rfl <;> exact a1 Q (by unfold DTy;decide)
 have HL:=Z hl;have HN:=Z I;have HD:=Z hd;have HC:=Z b8;have a7:=HK.out w (U _ _);clear hm a4 hl hj hd hp b0 a5 A I X a6 b9 a1;go_enter Aa,Bx;go_wp2_with fail
 go_region_held3 (fun l=>l.cell? ⟨q,0,none⟩=some (.pointer (some ⟨o,0,none⟩))/\l.cell? ⟨q,1,none⟩=some (.slice (some ⟨g,k,none⟩) (left.length+1) c)/\l.cell? ⟨g,k,none⟩=some (.iface 135 (.agg #[]))) (first|assumption|go_keep|exact HK.out _ zd)
  (first
  | (go_at_call 171;refine(HA.out _ (d.trans zd)).mono ?_;rintro e D ⟨v3,L3,rfl,b,j⟩;have b1:D.cell? ⟨q,0,none⟩=some (.pointer (some ⟨o,0,none⟩))/\D.cell? ⟨q,1,none⟩=some (.slice (some ⟨g,k,none⟩) (left.length+1) c)/\D.cell? ⟨g,k,none⟩=some (.iface 135 (.agg #[])):=⟨(N.out _ _ _ _ (d.trans zd) j (U _ _)).1.cell 0,(N.out _ _ _ _ (d.trans zd) j (U _ _)).1.cell 1,(N.out _ _ _ _ (d.trans zd) j (U _ _)).2⟩;have b2:=Z (fun R (f:Fr Nil D R)=>(N.out _ _ _ R (d.trans zd) j f).1);have C:=Z b;have x:Hid (DStep E L M w L3 (M.add zf K).2 D):=j.of (d.trans zd);clear b j)
  | (go_at_call 274;refine(HR.out _ zd).mono ?_;rintro e w2 ⟨rfl,c1⟩;have d:Fr Nil w w2:=Fr.trans zd c1;have d0:=HK.out w2 d;rw[b6.out]))
 generalize a9:(M.add zf K).1=r at C;have a0:=Z a9;clear a9;have a2:Hid (Fr (fun k=>k=q\/Foot E L M k) w D):=x.out.fr.mono (fun _ _ e=>.inr e);have y:=b2.out D (U _ _);by_cases h0:r=0
 .have b:=C.out
  unfold zJ at b;rw[GA h0] at b;have hv:v3=.nilIface:=b;subst hv;have O:=Z h0;have b7:=y.cell;have c9:=y.frozen;have c3:(1:Int)<=((left.length:Int)+1):=by omega
  have V:Fr (Foot E L M) w D:=x.out.fr;have Y:Hid (∀ v:Value,(1<c->v=.slice (some ⟨g,k+1,none⟩) left.length (c-1))->(c=1->∃ a c',v=.slice a 0 c')->Wrote q o E m (.slice (some ⟨g,k,none⟩) (left.length+1) c) left L M w r (M.add zf K).2 (.returned .nilIface) (D.setCell ⟨q,1,none⟩ v)):=fun v ha hb=>by
   have fs:Fr (fun k=>k=q) D (D.setCell ⟨q,1,none⟩ v):=Fr.set (S:=fun k=>k=q) (p:=⟨q,1,none⟩) (U _ _) (fun _=>rfl) _;have G:∀ {k t},Ty D k t->t≠201->¬k=q:=fun Q hn e=>by subst e;exact hn (Q.inj y.ty)
   refine⟨.nilIface,L3,v,rfl,by rw[O.out];rfl,x.out.AK.fr fs (fun k hk=>?_),a2.out.trans (fs.mono (fun _ _ e=>.inl e)),x.out.AX,by simpa using y.set 1 v,fun _=>?_,fun e=>absurd O.out e⟩
   .obtain⟨t,Q,hd⟩:=x.out.AK.ty hk
    unfold DTy at hd;refine G Q ?_;rcases hd with rfl|rfl|rfl|rfl|rfl <;> decide
   .have h1:=HN.out v ha hb
    have h2:=h1.fr V (fun i t Q hM=>by
     unfold MTy at hM;rcases hM with rfl|rfl|rfl|rfl <;> exact HD.out.apart Q (by unfold DTy;decide))
    obtain⟨g',k',a3,c6,q1,q2,q3,q4⟩:=h2;refine⟨g',k',a3,c6,ze q1 fs (fun i hi=>G (zE q1 hi) (by decide)),q2,q3,fun i hi=>?_⟩;obtain⟨u',c5,c0⟩:=q4 i hi;exact⟨u',c5,c0.kept fs (fun k hk=>G hk (by decide))⟩
  clear b C h0 y V b1 a7;by_cases T:c=1
  .subst T
   have c4:left.length=0:=by have:=HC.out;omega
   rw[c4] at b7 c3 Y;go_wp2_with fail;go_ret;rw[a0.out];exact Y.out _ (fun h=>absurd h (by decide)) (fun _=>⟨_,_,rfl⟩)
  .have hcg:1<c:=by have:=HC.out;omega
   go_wp2_with fail;go_ret;rw[a0.out];exact Y.out _ (fun _=>rfl) (fun h=>absurd h T)
 .have b:=C.out
  unfold zJ at b;rw[Gl h0] at b;have O:=Z h0;have b4:=Z C.out;obtain⟨k5,a8⟩:∃ k,Zs D r k v3:=b;obtain⟨t5,b5,rfl⟩:=a8.form;have b3:=Z y;clear a8 h0 y b1 a7 C;go_wp2_with fail;go_ret;rw[a0.out];exact⟨_,L3,_,rfl,b4.out,x.out.AK,a2.out,x.out.AX,b3.out,fun e=>absurd e O.out,fun _=>rfl⟩
theorem Ro(m c o i a b:Nat)(J:JM)(L:DL)(M:DM)(x:Fact)(left:List Fact)(k:Value)(w:World)(v:Blk w m [.pointer (some ⟨c,0,none⟩),k,.int .i64 b] 201)(d:Blk w c [.pointer (some ⟨o,0,none⟩),.int .i64 a] 250)(t:ZD w k (x::left))
 (s:JRep w o i J)(r:DRep w i L M)(y:0<=M.part)(j:FOk x)(h:(zj x).size<=1000000000000)(e:∀ f,f∈M.ids->(M.file f).bytes.length<=1000000000000)(g:left.length<1000000000) :
 Calls Tryz.prog 136 #[.pointer (some ⟨m,0,none⟩)] w (Wrote m c i b k left L M w (M.add zf (zj x)).1 (M.add zf (zj x)).2):=by
 rcases x with n|⟨B,l⟩|⟨A,q⟩|u
 .exact Rl m c o i a b J L M n left k w v d t s r y j h e g
 .exact Rm m c o i a b J L M B l left k w v d t s r y j h e g
 .exact SG m c o i a b J L M A q left k w v d t s r y j h e g
 .exact Rn m c o i a b J L M u left k w v d t s r y h e g
def SM.facts(S:SM):List Fact:=.inl S.Ax::(S.keys.map (fun e=>(.inr (.inl e):Fact))++S.hints.map fun h=>(.inr (.inr (.inl h)):Fact))
def NM.begun(N:NM)(M:DM)(f g:Nat):Option Int × NM × DM :=
 ((N.J.yn M f g).1,{N with J:=(N.J.yn M f g).2.1,mg:=if (N.J.yn M f g).1=none then some ⟨N.J.last+1,[],N.S.facts,1⟩ else N.mg},(N.J.yn M f g).2.2)
theorem LA{w:World}{v:Value}{c:List (ByteArray × Value)}{S:SM}(l:Pair (VRow w) c S.keys)(r:w.ownsRow 0 165 1 v (1+c.length+S.hints.length) (U6 S.Ax::(c.map Xo++S.hints.map QE))):ZD w v S.facts:=by
 have s:=l.length;have d:S.facts.length=1+c.length+S.hints.length:=by
  unfold SM.facts;simp only[Gn,Ga,Gv];omega
 obtain⟨g,o,rfl,_,_⟩:=zy r (by omega);refine⟨g,0,o,_,by rw[Fh,d];exact r,fun _=>by rw[d,Nat.sub_zero],fun h=>by rw[h] at d;simp at d;omega,fun i q=>?_⟩;rw[Fh];have p:∀ (m:List (ByteArray × Value)) (e:List (ByteArray × List Ver)),Pair (VRow w) m e->∀ j (f:j<m.length) (k:j<e.length),FRep w (Xo m[j]) (.inr (.inl e[j])):=by
  intro m
  induction m with
  | nil=>intro e _ j f;simp at f
  | cons a m t =>
   intro e l j f k;cases e with
   | nil=>simp at k
   | cons b e =>
    cases j with
    | zero =>
     refine⟨a.2,?_,l.2.1⟩;show Value.iface _ (.agg #[.string a.1,a.2])=Value.iface _ (.agg #[.string b.1,a.2]);rw[l.1]
    | succ j=>exact t e l.2.2 j (by simpa using f) (by simpa using k)
 unfold SM.facts at q |-;cases i with
 | zero=>exact⟨_,rfl,rfl⟩
 | succ i =>
  simp only[Dt,Dy];simp only[Gn,Ga,Gv] at q;by_cases f:i<c.length
  .refine⟨Xo c[i],by rw[Ey (by simpa using f)];simp[f],?_⟩
   have k:i<S.keys.length:=by omega
   rw[Fs (by simpa using k),GJ];exact p c S.keys l i f k
  .have h3:i-c.length<S.hints.length:=by omega
   refine⟨QE S.hints[i-c.length],by rw[EL (by simp;omega)];simp[h3],?_⟩;rw[De (by simp;omega),GJ];simp only[Gv,<- s]
   rfl
theorem TM(B:Nat)(L:NL)(N:NM)(M:DM)(w:World)(h:NRep w L N M)(he:Env B L M w)(a7:N.readOnly=false)(T:N.J.last+2<1000000000000)
 (D:(N.J.Az M).2.AA.length+1<=1000000000000)(E:(N.J.Az M).2.dir.length+1<=1000000000000)
 (G:∀ f,w.heap.size<=f->(N.J.begin M (N.J.last+2) f).2.2.AA.length+1<=1000000000000/\(N.J.begin M (N.J.last+2) f).2.2.dir.length+1<=1000000000000)
 (hk:N.S.keys.length<1000000000)(hh:N.S.hints.length<1000000) :
 Calls Tryz.prog 135 #[.pointer (some ⟨L.nb,0,none⟩)] w fun e w'=>∃ f g v L',e=.returned v/\w.heap.size<=f/\g∉(N.J.begin M (N.J.last+2) f).2.2.ids/\w.heap.size<=g/\ERep w' v (N.begun M f g).1/\NStep L M w L' (N.begun M f g).2.1 (N.begun M f g).2.2 w':=by
 have a4:w.cell? ⟨L.nb,1,none⟩=some (.pointer (some ⟨L.jb,0,none⟩)):=h.Ay.cell 1;have y:=Z (OO B L.jb L.db N.J L.LD M T w h.log h.AH he.tab he.le he.AX D E G);have HH:=Z h;have b1:=h.Ay.lt;clear h he D E G;go_enter Tryz.func135,Tryz.ntmps135;go_wp2_with fail;refine y.out.mono ?_;rintro e w1 ⟨f,g,v1,pv,L1,rfl,hf,hg,K,x,O,s,S⟩;have a:=Z (NStep.yz HH.out O);have V:=Z x;have X:=Z s;have i:=Z S;have hp:N.begun M f g=((N.J.yn M f g).1,{N with J:=(N.J.yn M f g).2.1,mg:=if (N.J.yn M f g).1=none then some ⟨N.J.last+1,[],N.S.facts,1⟩ else N.mg},(N.J.yn M f g).2.2):=rfl;have p:=Z hp;clear O s S a4 y hp;generalize A:(N.J.yn M f g).2.1=J1 at a p;generalize C:(N.J.yn M f g).2.2=M1 at a p;cases hd:(N.J.yn M f g).1 with
 | some n =>
  rw[hd] at x V i p;have a6:=i.out (by simp);subst a6;obtain⟨k,Q⟩:=x;obtain⟨t,b,rfl⟩:=Q.form;clear hd Q A C X i;go_wp2_with fail;go_ret;refine⟨f,g,_,{L with LD:=L1},rfl,hf,K,hg,?_,?_⟩
  .rw[p.out];exact V.out
  .rw[p.out];exact a.out
 | none =>
  rw[hd] at x V X p;obtain⟨j,rfl,a8,J⟩:=X.out rfl;have hv:v1=.nilIface:=x;subst hv;have a5:w1.cell? ⟨L.nb,2,none⟩=some (.pointer (some ⟨L.sb,0,none⟩)):=a.out.AK.Ay.cell 2;have a2:=Z (N7 L.sb L.LS N.S w1 a.out.AK.held hk hh);have a1:=Z J;clear hd x V X i A C J;go_wp2_with fail;refine a2.out.mono ?_;rintro e o ⟨lv,rfl,d,l,R⟩;obtain⟨a0,c0,rfl⟩:=zg d;have u:=a.out.AC l;have c:=LA u.AK.held.pair d;have I:=Blk.new o [.pointer (some ⟨j,0,none⟩),.slice a0 (1+L.LS.AV.length+N.S.hints.length) c0,.int .i64 1] 201;have Y:Fr Nil o (o.alloc (.cells #[.pointer (some ⟨j,0,none⟩),.slice a0 (1+L.LS.AV.length+N.S.hints.length) c0,.int .i64 1] 201)):=(U _ _).alloc _;have m:=u.AC Y;have q:=a1.out.fr (l.trans Y) id;have b2:=m.AK.Ay.frozen;have b0:=m.AK.Ay.cell;have a9:w.heap.size<=o.heap.size:=Gc a.out.fr.size l.size;have r:MRp (o.alloc (.cells #[.pointer (some ⟨j,0,none⟩),.slice a0 (1+L.LS.AV.length+N.S.hints.length) c0,.int .i64 1] 201)) (.pointer (some ⟨o.heap.size,0,none⟩)) L.jb (some ⟨N.J.last+1,[],N.S.facts,1⟩) :=
   ⟨o.heap.size,j,_,rfl,I,q,c.fr Y (fun _ _ _ _=>id)⟩
  have a3:=Z (m.wY a7 (.pointer (some ⟨o.heap.size,0,none⟩)) (some ⟨N.J.last+1,[],N.S.facts,1⟩) r (fun k e=>by simp only[CR,GU,Br,As] at e;exact .inr (by omega)));clear d l u c I m q r R a5 Y;go_wp2_with fail;go_ret;refine⟨f,g,.nilIface,{L with LD:=L1,mv:=.pointer (some ⟨o.heap.size,0,none⟩)},rfl,hf,K,hg,?_,?_⟩
  .rw[p.out];rfl
  .have hp':N.begun M f g=(none,{N with J:=J1,mg:=some ⟨N.J.last+1,[],N.S.facts,1⟩},M1):=by rw[p.out];simp
   rw[hp'];exact a3.out
theorem Qz(L:NL)(N:NM)(M:DM)(g i:Nat)(u:Value)(a:Nat)(w:World)(h:NRep w L N M)(j:L.mv=.pointer (some ⟨g,0,none⟩))(k:Blk w g [.pointer (some ⟨i,0,none⟩),u,.int .i64 a] 201)(y:N.S.keys.length<1000000000)(x:N.S.hints.length<1000000) :
 Calls Tryz.prog 137 #[.pointer (some ⟨L.nb,0,none⟩)] w fun e v=>e=.returned (.bool (decide (N.S.keys.length+N.S.hints.length+4<=a)))/\Fr Nil w v:=by
 have l:=Z (fun d (f:Fr Nil w d)=>V9 L.sb L.LS N.S d (h.nil f).held);have m:=Z (fun d (f:Fr Nil w d)=>YD L.sb L.LS N.S d (h.nil f).held);have q:w.cell? ⟨L.nb,6,none⟩=some (.pointer (some ⟨g,0,none⟩)):=by have:w.cell? ⟨L.nb,6,none⟩=some L.mv:=h.Ay.cell 6;rw[j] at this;exact this
 have o:w.cell? ⟨L.nb,2,none⟩=some (.pointer (some ⟨L.sb,0,none⟩)):=h.Ay.cell 2;have r:w.cell? ⟨g,2,none⟩=some (.int .i64 a):=k.cell 2;have s:IntKind.i64.wrap ((N.S.keys.length:Int)+N.S.hints.length)=(N.S.keys.length:Int)+N.S.hints.length:=by rw[Gs];omega
 have t:IntKind.i64.wrap ((N.S.keys.length:Int)+N.S.hints.length+4)=(N.S.keys.length:Int)+N.S.hints.length+4:=by rw[Gs];omega
 have b:decide ((N.S.keys.length:Int)+N.S.hints.length+4<=a)=decide (N.S.keys.length+N.S.hints.length+4<=a):=by
  by_cases e:N.S.keys.length+N.S.hints.length+4<=a
  .rw[EN e];simp;omega
  .rw[Fp e];simp;omega
 have c:=Z b;clear h k b;go_enter Tryz.func137,Tryz.ntmps137;go_wp2_with fail
 go_quiet ((first|(go_at_call 78;exact Ce (m.out _ (by exact zd)))|(go_at_call 88;exact Ce (l.out _ (by exact zd)))))
 go_wp2_with fail;go_ret;exact⟨by rw[<- c.out];rfl,by exact zd⟩
end Go.Proofs.YtkhnggkkiefcdaaGreatDoor
