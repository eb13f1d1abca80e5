/- larder: joined texts -/
import Derived.Test.YtkhnggkkiefcdaaGreatDoorKRAE
import Derived.Test.YtkhnggkkiefcdaaGreatDoorKRAG
import Derived.Test.YtkhnggkkiefcdaaGreatDoorKRAH
import Derived.RangeFuncNested
import Derived.RangeFuncBound
import Derived.RangeFuncCalls
import Derived.RangeFuncLeaves
import Derived.Shelf.Abstract
import Derived.Shelf.RegionOpen
import Derived.WalkKit
import Derived.OwnWalkIn
import Derived.TacticsInMore
import Derived.LoopNIn
import Derived.LoopIn
import Derived.StillTailTactics
namespace Go.Proofs.YtkhnggkkiefcdaaGreatDoor
open Go.RowKit Go.Shelf
set_option maxRecDepth 100000
set_option maxHeartbeats 8000000
attribute [local go_sem] Et
abbrev FT:=@Go.wp_region_still_tail
abbrev Dr:=@Go.World.putObj_heap_other
def YQ(X:Nat->Prop)(W a:World):Prop:=∀ k,X k->a.heap[k]?=W.heap[k]?
theorem YQ.refl(X:Nat->Prop)(W:World):YQ X W W:=fun _ _=>rfl
theorem YQ.trans{X:Nat->Prop}{A B C:World}(h:YQ X A B)(k:YQ X B C):YQ X A C:=fun i a=>(k i a).trans (h i a)
theorem YQ.own{X:Nat->Prop}{W i:World}{base:Nat}{e:TypeId}{size:Nat}{v:Value}{n:Nat}{m:List Value}(h:YQ X W i)(j:W.ownsRow base e size v n m)(u:∀ k,v.ownBlock=some k->X k):i.ownsRow base e size v n m:=by
 refine⟨j.1,?_⟩;rcases j.2 with o|⟨g,a,c,rfl,q,t,r⟩
 .exact .inl o
 .exact .inr ⟨g,a,c,rfl,q,by rw[h g (u g rfl)];exact t,r⟩
theorem Sf(a:Nat)(w:World) :
 Calls Tryz.prog 182 #[.pointer (some ⟨a,0,none⟩)] w fun e b =>
  e=.returned (.func (.func 217) #[] #[.pointer (some ⟨w.heap.size,0,none⟩)])/\b=w.alloc (.cells #[.pointer (some ⟨a,0,none⟩)] 236):=by
 go_enter Tryz.func182,Tryz.ntmps182
 go_wp2
 go_ret;exact⟨rfl,rfl⟩
theorem JS(F:Fence)(n:Nat)(hF:F.fn 217)(K:F.round=none)(hn:1<=n)(l M mb:Nat)(v:Value)(b:List (ByteArray × Value))(X:Nat->Prop)(J O:List (ByteArray × Value)->World->Prop)
 (W:World)(hl:b.length<4611686018427387904)
 (hJ:AbidesFrom W.heap.size J)(hX:∀ k,X k->k<W.heap.size)(D:∀ k,v.ownBlock=some k->X k)
 (j:∀ e∈b,∃ a m c,e.2=.slice a m c)
 (hY:∀ pre x u,J pre u->pre.length<b.length->YieldAt F (n-1) Tryz.prog l #[.string x.1,x.2] u fun e h =>
   (e=.returned (.bool true)/\J (pre++[x]) h/\YQ X u h/\u.heap.size<=h.heap.size)\/(e=.returned (.bool false)/\O (pre++[x]) h))
 (a4:W.cell? ⟨M,0,none⟩=some (.pointer (some ⟨mb,0,none⟩)))(a6:W.cell? ⟨mb,0,none⟩=some v)(Y:W.ownsRow 0 239 2 v b.length (Zc b))(h0:J [] W) :
 CallsIn F n Tryz.prog 217 #[.func (.yield l) #[] #[],.pointer (some ⟨M,0,none⟩)] W fun e h=>(∃ r,e=.returned r) /\
  ((∃ ys,ys=b/\J ys h)\/(∃ pre,pre<+:b/\O pre h)):=by
 obtain⟨a0,B,rfl⟩:=zg Y;refine An BU rfl hF ?_ K;simp only[Tryz.ntmps217,Eh,Gn,GT,Nat.reduceAdd,Nat.reduceSub,Er,Es,EO,EB,GP,GC]
 gi_wp2
 gi_loopw [10] (fun i wr=>∃ k:Nat,k<=b.length/\i=.int .i64 k/\J (b.take k) wr/\YQ X W wr/\W.heap.size<=wr.heap.size)
  (fun i _=>b.length-(intOf i).toNat)
 case atStart=>exact⟨0,Gz _,rfl,by simpa using h0,YQ.refl _ _,Gb _⟩
 case round =>
  obtain⟨k,V,rfl,d,t,a7⟩:=hrel;by_cases f:k<b.length
  .have hvr:=t.own Y D
   obtain⟨g,o,hg,_,_⟩:=zy hvr (by omega);obtain⟨rfl,rfl⟩:a0=some ⟨g,0,none⟩/\B=o:=by simpa using hg
   obtain⟨Q,m1,S,G⟩:=j b[k] (Gj f);have a5:=own_cell? hvr (k*2) _ (ZQ b k f).1;have E:=own_cell? hvr (k*2+1) _ (ZQ b k f).2;rw[G] at E;have q:J (b.take k) (wr.alloc (.cells #[.string b[k].1,.slice Q m1 S] 239)):=hJ _ _ _ none d (CT ..) (fun r e=>by cases e);obtain⟨fn,a2,y,R,hy,T⟩:=hY (b.take k) b[k] _ q (by simp;omega);rw[G] at hy;have N:Hid (b.take (k+1)=b.take k++[b[k]]):=GQ f;have A:Hid (YQ X W (wr.alloc (.cells #[.string b[k].1,.slice Q m1 S] 239))):=t.trans (fun k V=>Dq _ _ _ (by have:=hX k V;omega));have a3:=Z d;have HR:=Z T;clear q d T G
   gi_wp2
   refine HR.out.mono ?_;rintro e W3 (⟨rfl,C,I,L⟩|⟨rfl,s⟩)
   .gi_wp2
    go_roundw
    case rel=>exact⟨k+1,by omega,by simp,by rw[N.out];exact C,A.out.trans I,by have:=L;simp at this;omega⟩
    case measure=>simp[intOf];omega
   .gi_wp2
    refine DZ (results_none rfl _ _ _) rfl ?_;exact⟨⟨_,rfl⟩,.inr ⟨_,⟨b.drop (k+1),by rw[<- N.out,Gu]⟩,s⟩⟩
  .obtain rfl:k=b.length:=by omega
   rw[Gt] at d
   gi_wp2
   go_end0
   exact⟨⟨_,rfl⟩,.inl ⟨_,rfl,d⟩⟩
def KpX(X:Nat->Prop)(W a:World):Prop:=YQ X W a/\W.heap.size<=a.heap.size
theorem MZ(F:Fence)(n:Nat)(B:F.fn 217)(t:F.round=none)(I:1<=n)(f i:Nat)(v:Value)(b:List (ByteArray × Value))(X:Nat->Prop)
 (w:World)(G:b.length<4611686018427387904)(u:∀ k,X k->k<w.heap.size)(o:f<w.heap.size)(s:i<w.heap.size)(g:∀ k,v.ownBlock=some k->X k)
 (d:∀ e∈b,∃ a m c,e.2=.slice a m c)(q:w.cell? ⟨f,0,none⟩=some (.pointer (some ⟨i,0,none⟩)))(r:w.cell? ⟨i,0,none⟩=some v)(K:w.ownsRow 0 239 2 v b.length (Zc b)) :
 SeqStopsK F n Tryz.prog 217 #[.pointer (some ⟨f,0,none⟩)] (fun x:ByteArray × Value=>#[.string x.1,x.2]) (KpX X) (fun L=>L=b) (fun pre=>pre<+:b) b.length w:=by
 intro l J y W j C D E A;have h:YQ X w W:=fun k h=>j.block k (u k h);exact JS F n B t I l f i v b X J y W G C (fun k h=>Ff (u k h) j.size) g d E ((j.cell (p:=⟨f,0,none⟩) o).trans q) ((j.cell (p:=⟨i,0,none⟩) s).trans r) (h.own K g) A
theorem KpX.trans{X:Nat->Prop}{A B C:World}(h:KpX X A B)(k:KpX X B C):KpX X A C:=⟨h.1.trans k.1,Gc h.2 k.2⟩
theorem KpX.put{X:Nat->Prop}{w:World}(a:∀ k,X k->k<w.heap.size)(W:World)(l:Nat)(o c:Obj)(h:w.heap.size<=l)(_:W.heap[l]?=some o)(_:o.isCells=false)(_:o.isWalk=false):KpX X W (W.putObj l c) :=
 ⟨fun k b=>Dr (fun e=>by have:=a k b;omega),by simp⟩
end Go.Proofs.YtkhnggkkiefcdaaGreatDoor
namespace Go.Proofs.YtkhnggkkiefcdaaGreatDoor
open Go.RowKit
set_option maxRecDepth 100000
set_option maxHeartbeats 8000000
structure LM where
 node:Int
 keys:Keys
 hints:List (Nat × ByteArray)
def XX(node b:Int)(a:ByteArray):Int:=if (zR b&&decide (b≠node))=false then 4 else if a.size=0\/64<a.size then 3 else 0
structure Yl(B:Nat)(L:NL)(M:DM)(w:World):Prop where
 tab:X9 B w
 le:B<=w.heap.size
 AX:∀ k,NFoot L M k->B<=k
theorem Yl.env{B:Nat}{L:NL}{M:DM}{w:World}(h:Yl B L M w):Env B L M w:=⟨h.tab,h.le,fun k a=>h.AX k (.inr (.inr (.inr (.inl a))))⟩
theorem Yl.step{B:Nat}{L b:NL}{d:NM}{M c:DM}{w w':World}(h:Yl B L M w)(s:NStep L M w b d c w'):Yl B b c w' :=
 ⟨h.tab.fr h.le s.fr (fun k a=>h.AX k a),Gc h.le s.fr.size,fun k a=>(s.AX k a).elim (h.AX k) (fun e=>Gc h.le e)⟩
theorem Yl.nil{B:Nat}{L:NL}{M:DM}{w w':World}(h:Yl B L M w)(f:Fr Nil w w'):Yl B L M w' :=
 ⟨h.tab.fr (S:=Nil) h.le f (fun _ h=>absurd h id),Gc h.le f.size,h.AX⟩
def zl:Prop:=∀(B:Nat)(w:World)(v:Value)(n:Int),X9 B w->ERep w v (some n)->Calls Tryz.prog 97 #[v] w fun e a=>e=.returned (.int .i64 n)/\Fr Nil w a
def Zh(e:Option Int):Int:=e.getD 0
def NM.yo(N:NM)(e:Option Int):NM:={N with readOnly:=N.readOnly||e.isSome}
theorem ZR(a:zl)(B:Nat)(L:NL)(N:NM)(M:DM)(v:Value)(x:Option Int)(w:World)(h:NRep w L N M)(g:Yl B L M w)(f:ERep w v x) :
 Calls Tryz.prog 79 #[.pointer (some ⟨L.nb,0,none⟩),v] w fun e l=>∃ r,e=.returned (.int .i64 (Zh x))/\NStep L M w r (N.yo x) M l:=by
 cases x with
 | none =>
  have u:v=.nilIface:=f;subst u;have s:N.yo none=N:=by simp[NM.yo]
  refine(R1 _ w).mono ?_;rintro e l ⟨rfl,rfl⟩;exact⟨L,rfl,by rw[s];exact NStep.nil h (U _ _)⟩
 | some n =>
  have d:NStep L M w {L with mv:=.pointer none} (N.yo (some n)) M ((w.setCell ⟨L.nb,7,none⟩ (.bool true)).setCell ⟨L.nb,6,none⟩ (.pointer none)):=by
   have e:N.yo (some n)={N with readOnly:=true}:=by simp[NM.yo]
   rw[e];exact NStep.xW h
  have c:=f.vx h d;have m:=Z (a B _ v n (g.step d).tab c);have q:=Z d;have y:=h.Ay.cell;have A:=h.Ay.frozen;obtain⟨k,j⟩:=f;obtain⟨t,b,rfl⟩:=j.form;clear h g d c j;go_enter Tryz.func79,Tryz.ntmps79;go_wp2_with fail;refine m.out.mono ?_;rintro e C ⟨rfl,i⟩;have o:=Z (q.out.AC i);clear i
  go_wp2
  go_ret;exact⟨_,rfl,o.out⟩
def NM.AJ(N:NM)(M:DM):Int × NM × DM :=
 if N.readOnly=true then(8,N,M) else(Zh (N.sync M).1,(N.sync M).2.1.yo (N.sync M).1,(N.sync M).2.2)
theorem XY(d:zl)(B:Nat)(L:NL)(N:NM)(M:DM)(w:World)(h:NRep w L N M)(m:Yl B L M w) :
 Calls Tryz.prog 32 #[.pointer (some ⟨L.nb,0,none⟩)] w fun e x=>∃ s,e=.returned (.int .i64 (N.AJ M).1)/\NStep L M w s (N.AJ M).2.1 (N.AJ M).2.2 x:=by
 have c:w.cell? ⟨L.nb,7,none⟩=some (.bool N.readOnly):=h.Ay.cell 7;have u:w.cell? ⟨L.nb,1,none⟩=some (.pointer (some ⟨L.jb,0,none⟩)):=h.Ay.cell 1;have g:=Z h;have r:=Z m;clear h m;go_enter Tryz.func32,Tryz.ntmps32;cases hr:N.readOnly with
 | true =>
  rw[hr] at c;have a:N.AJ M=(8,N,M):=by unfold NM.AJ;rw[GA hr]
  have b:=Z a;clear hr a;go_wp2_with fail;go_ret;exact⟨L,by rw[b.out];rfl,by rw[b.out];exact NStep.nil g.out (U _ _)⟩
 | false =>
  rw[hr] at c;have a:N.AJ M=(Zh (N.sync M).1,(N.sync M).2.1.yo (N.sync M).1,(N.sync M).2.2):=by unfold NM.AJ;rw[Gl (by rw[hr];decide)]
  have o:N.sync M=((N.J.AW M).1,{N with J:=(N.J.AW M).2.1},(N.J.AW M).2.2):=rfl;rw[o] at a;have b:=Z a;clear hr a o;go_wp2_with fail;refine(Vl L.jb L.db N.J L.LD M w g.out.log g.out.AH).mono ?_;rintro e y ⟨A,j,rfl,k,l⟩;have i:=Z (NStep.yz g.out l);have p:=Z k;clear k l;go_wp2_with fail;refine(ZR d B {L with LD:=j} _ _ _ _ y i.out.AK (r.out.step i.out) p.out).mono ?_;rintro e C ⟨t,rfl,f⟩;have q:=Z (i.out.trans f);clear f
  go_wp2
  go_ret;refine⟨t,?_,?_⟩
  .rw[b.out];rfl
  .rw[b.out];exact q.out
structure Fit(N:NM)(M:DM)(H:Nat)(x:Fact):Prop where
 ok:FOk x
 log:Xa N.J M H (zj x).size
 keys:N.S.keys.length<1099511627776
 hints:N.S.hints.length<1000000
 writes:N.writes<1000000000000
theorem Fit.mono{N:NM}{M:DM}{H a:Nat}{x:Fact}(h:Fit N M H x)(c:H<=a):Fit N M a x:=⟨h.ok,h.log.mono c,h.keys,h.hints,h.writes⟩
def NM.asked(N:NM)(M:DM)(x:Fact)(f:Nat):Int × NM × DM :=
 (Zh (N.change M x f).1,(N.change M x f).2.1.yo (N.change M x f).1,(N.change M x f).2.2)
def NM.yY(N:NM)(M:DM)(f:Nat):Int × NM × DM :=
 if N.readOnly=true then(8,N,M) else if N.S.hints.length=0 then(7,N,M) else N.asked M (.inr (.inr (.inr ()))) f
theorem RF(p:zl)(B:Nat)(L:NL)(N:NM)(M:DM)(w:World)(h:NRep w L N M)(D:Yl B L M w)(c:N.readOnly=false->Fit N M w.heap.size (.inr (.inr (.inr ())))) :
 Calls Tryz.prog 28 #[.pointer (some ⟨L.nb,0,none⟩)] w fun e S=>∃ f I,e=.returned (.int .i64 (N.yY M f).1)/\w.heap.size<=f/\NStep L M w I (N.yY M f).2.1 (N.yY M f).2.2 S:=by
 have o:w.cell? ⟨L.nb,7,none⟩=some (.bool N.readOnly):=h.Ay.cell 7;have Q:w.cell? ⟨L.nb,2,none⟩=some (.pointer (some ⟨L.sb,0,none⟩)):=h.Ay.cell 2;have r:=Z h;have A:=Z D;have i:=Z c;clear h D c;go_enter Tryz.func28,Tryz.ntmps28;cases hr:N.readOnly with
 | true =>
  rw[hr] at o;have d:N.yY M w.heap.size=(8,N,M):=by unfold NM.yY;rw[GA hr]
  have b:=Z d;clear hr d;go_wp2_with fail;go_ret;exact⟨w.heap.size,L,by rw[b.out];rfl,Gb _,by rw[b.out];exact NStep.nil r.out (U _ _)⟩
 | false =>
  have i:=Z (i.out hr);rw[hr] at o;have u:=Z (YD L.sb L.LS N.S w r.out.held);by_cases j:N.S.hints.length=0
  .have d:N.yY M w.heap.size=(7,N,M):=by unfold NM.yY;rw[Gl (by rw[hr];decide),GA j]
   have b:=Z d;have l:((N.S.hints.length:Int)==0)=true:=by simp[j]
   rw[j] at u;clear hr d j l
   go_wp2_with (refine u.out.mono ?_;rintro e q ⟨rfl,y⟩;subst q)
   go_ret;exact⟨w.heap.size,L,by rw[b.out];rfl,Gb _,by rw[b.out];exact NStep.nil r.out (U _ _)⟩
  .have d:∀ f,N.yY M f=N.asked M (.inr (.inr (.inr ()))) f:=by intro f;unfold NM.yY;rw[Gl (by rw[hr];decide),Gl j]
   have b:=Z d;have l:((N.S.hints.length:Int)==0)=false:=by simpa using j
   clear hr d j
   go_wp2_with (refine u.out.mono ?_;rintro e q ⟨rfl,y⟩;subst q)
   refine(Uy B L N M _ (.inr (.inr (.inr ()))) _ w r.out A.out.env (show _=_ from rfl) i.out.ok (fun k O=>by obtain⟨v,R,e⟩:=O;simp at R) i.out.log i.out.keys i.out.hints i.out.writes).mono ?_;rintro e q ⟨f,T,J,rfl,E,C,a⟩;have s:=Z a;have t:=Z C;have G:=Z E;clear C a E;go_wp2_with fail;rw[<- s.out.same.nb];refine(ZR p B J _ _ _ _ q s.out.AK (A.out.step s.out) t.out).mono ?_;rintro e V ⟨K,rfl,a⟩;have x:=Z (s.out.trans a);clear a
   go_wp2
   go_ret;refine⟨f,K,?_,G.out,?_⟩
   .rw[b.out];rfl
   .rw[b.out];exact x.out
theorem Vp(L:NL)(N:NM)(M:DM)(w:World)(h:NRep w L N M)(a:N.S.hints.length<1000000) :
 Calls Tryz.prog 27 #[.pointer (some ⟨L.nb,0,none⟩)] w fun e c=>∃ b,e=.returned b/\c.ownsRow 0 75 2 b N.S.hints.length (Zj N.S.hints)/\Fr Nil w c/\(∀ k,b.ownBlock=some k->w.heap.size<=k):=by
 have j:w.cell? ⟨L.nb,2,none⟩=some (.pointer (some ⟨L.sb,0,none⟩)):=h.Ay.cell 2;have d:=Z (P7 L.sb L.LS N.S w h.held a);clear h;go_enter Tryz.func27,Tryz.ntmps27
 go_wp2_with (refine d.out.mono ?_;rintro e l ⟨b,rfl,f,g,i⟩)
 go_ret;exact⟨b,rfl,f,g,i⟩
theorem UE(L:NL)(N:NM)(M:DM)(a:ByteArray)(w:World)(h:NRep w L N M)(d:N.S.keys.length<1099511627776)(i:(zr N.S.keys a).length<=1000000) :
 Calls Tryz.prog 24 #[.pointer (some ⟨L.nb,0,none⟩),.string a] w fun e u=>∃ j,e=.returned (.tuple #[j,.int .i64 (if zz a=true then 0 else 2)])/\VRow u j (if zz a=true then zr N.S.keys a else [])/\Fr Nil w u/\(∀ k,j.ownBlock=some k->w.heap.size<=k):=by
 have C:w.cell? ⟨L.nb,2,none⟩=some (.pointer (some ⟨L.sb,0,none⟩)):=h.Ay.cell 2;have l:=Z (Wa a w);have p:=Z h;clear h;go_enter Tryz.func24,Tryz.ntmps24;cases hb:zz a with
 | false =>
  rw[hb] at l;clear hb
  go_wp2_with (refine l.out.mono ?_;rintro e f ⟨rfl,o⟩;subst f)
  go_ret2;exact⟨_,rfl,GK w 0 _ _,U _ _,fun k d=>absurd d (by simp[Value.ownBlock])⟩
 | true =>
  rw[hb] at l;have A:=Z (XV a L.sb L.LS N.S w p.out.held d);have y:=Z (show(zr N.S.keys a).length*72<=140737488355328 by omega);clear hb i d
  go_wp2_with (refine l.out.mono ?_;rintro e f ⟨rfl,o⟩;subst f)
  refine A.out.mono ?_;rintro e f ⟨rfl,c⟩;have g:=Z c;have b:VRow f (getE L.LS.AV a) (zr N.S.keys a):=(p.out.held.nil c).getE a;have q:=Z b;clear c b;generalize getE L.LS.AV a=B at q;go_wp2_with fail;refine(UA B _ _ f q.out (Wj _) y.out).mono ?_;rintro e D ⟨j,rfl,r,s,t⟩;have m:=Z (g.out.trans s);have v:=Z r;have x:Hid (∀ k,j.ownBlock=some k->w.heap.size<=k):=fun k d=>Gc g.out.size (t k d);clear r s t
  go_wp2
  go_ret2;exact⟨_,rfl,v.out,m.out,x.out⟩
def NM.hint(N:NM)(M:DM)(b:Int)(a:ByteArray)(f:Nat):Int × NM × DM :=
 if (zR b&&decide (b≠N.self))=false then(4,N,M) else
 if a.size=0\/64<a.size then(3,N,M) else
 if N.readOnly=true then(8,N,M) else
 if 32<=N.S.hints.length then(6,N,M) else
 N.asked M (.inr (.inr (.inl (b.toNat,a)))) f
theorem VR(D:zl)(B:Nat)(L:NL)(N:NM)(M:DM)(b:Int)(a:ByteArray)(w:World)(h:NRep w L N M)(he:Yl B L M w)(u:a.size<=64->zR b=true->N.readOnly=false->Fit N M w.heap.size (.inr (.inr (.inl (b.toNat,a))))) :
 Calls Tryz.prog 31 #[.pointer (some ⟨L.nb,0,none⟩),.int .i64 b,.string a] w fun e G=>∃ f C,e=.returned (.int .i64 (N.hint M b a f).1)/\w.heap.size<=f/\NStep L M w C (N.hint M b a f).2.1 (N.hint M b a f).2.2 G:=by
 have x:w.cell? ⟨L.nb,7,none⟩=some (.bool N.readOnly):=h.Ay.cell 7;have a0:w.cell? ⟨L.nb,2,none⟩=some (.pointer (some ⟨L.sb,0,none⟩)):=h.Ay.cell 2;have t:=Z (Ug L N M b w h);have s:=Z h;have HE:=Z he;have HT:=Z u;have A:=Z (Vn a);clear h he u;go_enter Tryz.func31,Tryz.ntmps31;cases ho:(zR b&&decide (b≠N.self)) with
 | false =>
  rw[ho] at t;have o:N.hint M b a w.heap.size=(4,N,M):=by unfold NM.hint;rw[GA ho]
  have i:=Z o;clear ho o
  go_wp2_with (refine t.out.mono ?_;rintro e d ⟨rfl,l⟩;subst d)
  go_ret;exact⟨w.heap.size,L,by rw[i.out];rfl,Gb _,by rw[i.out];exact NStep.nil s.out (U _ _)⟩
 | true =>
  rw[ho] at t;have y:Hid (zR b=true):=by simp only[Fm] at ho;exact ho.1
  by_cases c:a.size=0\/64<a.size
  .have o:N.hint M b a w.heap.size=(3,N,M):=by unfold NM.hint;rw[Gl (by rw[ho];decide),GA c]
   have i:=Z o;clear ho o;by_cases J:a.toList=[]
   .clear c
    go_wp2_with (refine t.out.mono ?_;rintro e d ⟨rfl,l⟩;subst d)
    go_ret;exact⟨w.heap.size,L,by rw[i.out];rfl,Gb _,by rw[i.out];exact NStep.nil s.out (U _ _)⟩
   .have h1:64<a.size:=by
     rcases c with c|c
     .rw[A.out] at c;exact absurd (GL c) J
     .exact c
    have h2:(64:Int)<(a.size:Int):=by omega
    have h3:a.toList.isEmpty=false:=by simpa using J
    clear c
    go_wp2_with (refine t.out.mono ?_;rintro e d ⟨rfl,l⟩;subst d)
    go_ret;exact⟨w.heap.size,L,by rw[i.out];rfl,Gb _,by rw[i.out];exact NStep.nil s.out (U _ _)⟩
  .have J:¬a.toList=[]:=by
    intro h;apply c;left;rw[A.out,h];rfl
   have h1:¬64<a.size:=fun h=>c (.inr h);have h2:¬(64:Int)<(a.size:Int):=by omega
   have h3:a.toList.isEmpty=false:=by simpa using J
   cases hr:N.readOnly with
   | true =>
    rw[hr] at x;have o:N.hint M b a w.heap.size=(8,N,M):=by unfold NM.hint;rw[Gl (by rw[ho];decide),Gl c,GA hr]
    have i:=Z o;clear ho o c hr
    go_wp2_with (refine t.out.mono ?_;rintro e d ⟨rfl,l⟩;subst d)
    go_ret;exact⟨w.heap.size,L,by rw[i.out];rfl,Gb _,by rw[i.out];exact NStep.nil s.out (U _ _)⟩
   | false =>
    rw[hr] at x;have HN:=Z (YD L.sb L.LS N.S w s.out.held);by_cases hm:32<=N.S.hints.length
    .have o:N.hint M b a w.heap.size=(6,N,M):=by unfold NM.hint;rw[Gl (by rw[ho];decide),Gl c,Gl (by rw[hr];decide),GA hm]
     have i:=Z o;have a1:(32:Int)<=(N.S.hints.length:Int):=by omega
     clear ho o c hr
     go_wp2_with (first|(refine HN.out.mono ?_;rintro e d ⟨rfl,l⟩;subst d)|(refine t.out.mono ?_;rintro e d ⟨rfl,l⟩;subst d))
     go_ret;exact⟨w.heap.size,L,by rw[i.out];rfl,Gb _,by rw[i.out];exact NStep.nil s.out (U _ _)⟩
    .have o:∀ f,N.hint M b a f=N.asked M (.inr (.inr (.inl (b.toNat,a)))) f:=by intro f;unfold NM.hint;rw[Gl (by rw[ho];decide),Gl c,Gl (by rw[hr];decide),Gl hm]
     have i:=Z o;have a1:¬(32:Int)<=(N.S.hints.length:Int):=by omega
     have Y:Hid ((b.toNat:Int)=b):=by
      have:=y.out;unfold zR at this;simp only[Gr] at this;exact Ez this.1
     have V:=Z (HT.out (by omega) y.out hr);have R:=Z (ZG a w (by omega));clear ho o c hr
     go_wp2_with (first|(refine HN.out.mono ?_;rintro e d ⟨rfl,l⟩;subst d)|(refine t.out.mono ?_;rintro e d ⟨rfl,l⟩;subst d))
     refine R.out.mono ?_;rintro e d ⟨rfl,E⟩;have T:=Z E;have HC:Hid (∀ r Q,Fr Nil d Q->Calls Tryz.prog 80 #[.pointer (some ⟨L.nb,0,none⟩),.string r,.iface 138 (.agg #[.int .i64 b,.string a])] Q fun e G =>
      ∃ f v C,e=.returned v/\w.heap.size<=f/\ERep G v (N.change M (.inr (.inr (.inl (b.toNat,a)))) f).1/\NStep L M w C (N.change M (.inr (.inr (.inl (b.toNat,a)))) f).2.1 (N.change M (.inr (.inr (.inl (b.toNat,a)))) f).2.2 G):=by
      intro r Q f2;have p:=T.out.trans f2;have q:=V.out.mono p.size;refine(Uy B L N M r (.inr (.inr (.inl (b.toNat,a)))) _ Q (s.out.nil p) (HE.out.nil p).env (show _=_ by rw[Y.out]) q.ok (fun k hb=>by obtain⟨v,hv,e⟩:=hb;simp at hv;rcases hv with rfl|rfl <;> exact absurd e (by simp[Value.ownBlock])) q.log q.keys q.hints q.writes).mono ?_;rintro e G ⟨f,v,C,rfl,O,K,j⟩;exact⟨f,v,C,rfl,Gc p.size O,K,(NStep.nil s.out p).trans j⟩
     clear E x a0;go_wp2_with fail;refine(HC.out _ _ (by exact zd)).mono ?_;rintro e w3 ⟨f,v1,L1,rfl,O,K,j⟩;have I:=Z j;have S:=Z K;have HF:=Z O;clear K j O;go_wp2_with fail;rw[<- I.out.same.nb];refine(ZR D B L1 _ _ _ _ w3 I.out.AK (HE.out.step I.out) S.out).mono ?_;rintro e w4 ⟨L2,rfl,j⟩;have X:=Z (I.out.trans j);clear j
     go_wp2
     go_ret;refine⟨f,L2,?_,HF.out,?_⟩
     .rw[i.out];rfl
     .rw[i.out];exact X.out
theorem Tg(L:NL)(N:NM)(M:DM)(w:World)(h:NRep w L N M) :
 Calls Tryz.prog 39 #[.pointer (some ⟨L.nb,0,none⟩)] w fun e G=>e=.returned (.agg #[.bool N.readOnly,.int .i64 N.S.keys.length,.int .i64 N.S.hints.length])/\Fr Nil w G:=by
 have a:Fr Nil w (w.alloc (Obj.cells #[.bool false,.int .i64 0,.int .i64 0] 81)):=(U _ _).alloc _;have c:=Blk.new w [.bool false,.int .i64 0,.int .i64 0] 81;have i:=h.nil a;have A:=Z (fun p (f:Fr Nil w p)=>V9 L.sb L.LS N.S p (h.nil f).held);have C:=Z (fun p (f:Fr Nil w p)=>YD L.sb L.LS N.S p (h.nil f).held);have j:=Z a;have y:=Z c;have x:=Z i;clear h a c i;go_enter Tryz.func39,Tryz.ntmps39;go_wp2_with fail;generalize b:w.alloc (Obj.cells #[.bool false,.int .i64 0,.int .i64 0] 81)=g;have c:Blk g w.heap.size [.bool false,.int .i64 0,.int .i64 0] 81:=by rw[<- b];exact y.out
 have i:NRep g L N M:=by rw[<- b];exact x.out
 have a:Fr Nil w g:=by rw[<- b];exact j.out
 have r:=Z a;have E:g.cell? ⟨L.nb,7,none⟩=some (.bool N.readOnly):=i.Ay.cell 7;have D:g.cell? ⟨L.nb,2,none⟩=some (.pointer (some ⟨L.sb,0,none⟩)):=i.Ay.cell 2;have t:=c.cell;have u:=c.frozen;have q:=Z c;have B:Hid (w.heap.size<=w.heap.size):=Gb _;clear b i a j y x c;refine FT 15 (by kernel_rfl) (by kernel_rfl) ?_;simp only[Fg,FK,FR,FJ]
 iterate 8 still_step
 still_call (A.out _ (r.out.trans (by exact zd)))
 iterate 4 still_step
 still_call (C.out _ (r.out.trans (by exact zd)))
 iterate 1 still_step
 refine Dg ?_;go_wp2_with fail;have m:=((q.out.set 0 (.bool N.readOnly)).set 1 (.int .i64 N.S.keys.length)).set 2 (.int .i64 N.S.hints.length);have o:Fr Nil w (((g.setCell ⟨w.heap.size,0,none⟩ (.bool N.readOnly)).setCell ⟨w.heap.size,1,none⟩ (.int .i64 N.S.keys.length)).setCell ⟨w.heap.size,2,none⟩ (.int .i64 N.S.hints.length)) :=
  Fr.set (Fr.set (Fr.set r.out (fun h=>by simp only at h;omega) _) (fun h=>by simp only at h;omega) _) (fun h=>by simp only at h;omega) _
 have l:=Z o;have d:=m.cell;simp only[GR,GS] at d;clear t u o m;generalize ((g.setCell ⟨w.heap.size,0,none⟩ (.bool N.readOnly)).setCell ⟨w.heap.size,1,none⟩ (.int .i64 N.S.keys.length)).setCell ⟨w.heap.size,2,none⟩ (.int .i64 N.S.hints.length)=I at d l |-;have s:∀ k,I.drew.cell? ⟨w.heap.size,k,none⟩=[Value.bool N.readOnly,.int .i64 N.S.keys.length,.int .i64 N.S.hints.length][k]?:=d;refine DZ (v:=.agg #[.bool N.readOnly,.int .i64 N.S.keys.length,.int .i64 N.S.hints.length]) (by simp[results,Tryz.results39,go_sem,s,Tryz.isAgg81,Tryz.sizeOf81]) rfl ⟨rfl,l.out.drew⟩
def NM.replace(N:NM)(M:DM)(a:ByteArray)(b:NM->Nat->List Ver)(f g:Nat):Nat × Int × NM × DM :=
 match (N.next M f).1 with
 | some n=>(0,n,(N.next M f).2.2.1.yo (some n),(N.next M f).2.2.2)
 | none =>
  match ((N.next M f).2.2.1.change (N.next M f).2.2.2 (.inr (.inl (a,b (N.next M f).2.2.1 (N.next M f).2.1))) g).1 with
  | some n=>(0,n,((N.next M f).2.2.1.asked (N.next M f).2.2.2 (.inr (.inl (a,b (N.next M f).2.2.1 (N.next M f).2.1))) g).2)
  | none=>((N.next M f).2.1,0,((N.next M f).2.2.1.asked (N.next M f).2.2.2 (.inr (.inl (a,b (N.next M f).2.2.1 (N.next M f).2.1))) g).2)
theorem VS(N:NM):N.yo none=N:=by simp[NM.yo]
def Gives(L:NL)(N:NM)(M:DM)(w:World)(c:Nat)(a:Array Value)(h:NM->Nat->List Ver):Prop :=
 ∀ f,w.heap.size<=f->∀ (g:NL) (b:World),NStep L M w g (N.next M f).2.2.1 (N.next M f).2.2.2 b->Calls Tryz.prog c (#[.int .i64 (N.next M f).2.1]++a) b fun e d=>∃ v,e=.returned v/\VRow d v (h (N.next M f).2.2.1 (N.next M f).2.1)/\Fr Nil b d/\(∀ k,v.ownBlock=some k->w.heap.size<=k)
theorem KC(N:NM)(M:DM)(f:Nat):(N.next M f).2.2.1.S.keys=N.S.keys/\(N.next M f).2.2.1.S.hints=N.S.hints/\(N.next M f).2.2.1.self=N.self/\(N.next M f).2.2.1.readOnly=N.readOnly/\(N.next M f).2.2.1.every=N.every/\(N.next M f).2.2.1.writes=N.writes:=by
 have a:∀ k,(N.write M (.inl k) f).2.1.S.keys=N.S.keys/\(N.write M (.inl k) f).2.1.S.hints=N.S.hints:=by
  intro k;unfold NM.write;simp only;split <;> exact⟨rfl,rfl⟩
 have b:(N.AY M f).2.1.S.keys=N.S.keys/\(N.AY M f).2.1.S.hints=N.S.hints/\(N.AY M f).2.1.self=N.self/\(N.AY M f).2.1.readOnly=N.readOnly/\(N.AY M f).2.1.every=N.every/\(N.AY M f).2.1.writes=N.writes:=by
  unfold NM.AY;split
  .exact⟨(a _).1,(a _).2,rfl,rfl,rfl,rfl⟩
  .exact⟨(a _).1,(a _).2,rfl,rfl,rfl,rfl⟩
 unfold NM.next;split
 .exact⟨rfl,rfl,rfl,rfl,rfl,rfl⟩
 .split
  .exact b
  .exact b
def Apart2(N:NM)(M:DM)(f g:Nat):Prop:=f=g->f∉(N.next M f).2.2.2.ids
theorem Xy(N:NM)(M:DM){f g:Nat}(h:f≠g):Apart2 N M f g:=fun e=>absurd e h
theorem Uh(Q:zl)(B:Nat)(L:NL)(N:NM)(M:DM)(a:ByteArray)(l:NM->Nat->List Ver)(c:Nat)(K:Array Value)(w:World)(h:NRep w L N M)(he:Yl B L M w)(C:Gives L N M w c K l)(c3:∀ xs w,Sem.run Tryz.prog (callFunc c xs) w=.ok (.enter c xs) w)
 (a6:a.size<=1000000000)(T:Xa N.J M w.heap.size (zj (.inl (N.given+16))).size)(S:N.S.keys.length<1099511627776)(hh:N.S.hints.length<1000000)(a5:N.given<1000000000000)
 (R:∀ f,w.heap.size<=f->(N.next M f).1=none->∀ H,w.heap.size<=H->(∀ i∈(N.next M f).2.2.2.ids,i<H)->Fit (N.next M f).2.2.1 (N.next M f).2.2.2 H (.inr (.inl (a,l (N.next M f).2.2.1 (N.next M f).2.1)))) :
 Calls Tryz.prog 70 #[.pointer (some ⟨L.nb,0,none⟩),.string a,.func (.func c) #[] K] w fun e w'=>∃ f g L',e=.returned (.tuple #[.int .i64 (N.replace M a l f g).1,.int .i64 (N.replace M a l f g).2.1])/\w.heap.size<=f/\w.heap.size<=g/\Apart2 N M f g/\NStep L M w L' (N.replace M a l f g).2.2.1 (N.replace M a l f g).2.2.2 w':=by
 have HX:=Z (MS B L N M w h he.env T S hh a5);have HE:=Z he;have HH:=Z h;have HG:=Z C;have a1:=Z R;clear h he C T S hh a5 R;go_enter Tryz.func70,Tryz.ntmps70;go_wp2_with fail;refine HX.out.mono ?_;rintro e w1 ⟨f,v1,L1,rfl,hf,O,d⟩;have q:=Z d;have HF:=Z hf;cases hx:(N.next M f).1 with
 | some n =>
  have hp:∀ g,N.replace M a l f g=(0,n,(N.next M f).2.2.1.yo (some n),(N.next M f).2.2.2):=by intro g;unfold NM.replace;rw[hx]
  have A:=Z hp;rw[hx] at O;have b3:=Z O;obtain⟨k,S⟩:=O;obtain⟨t,b,rfl⟩:=S.form;generalize (N.next M f).2.2.1=j at d q A;generalize (N.next M f).2.2.2=o at d q A;generalize (N.next M f).2.1=m;clear hx hp S d hf;go_wp2_with fail;rw[<- q.out.same.nb];refine(ZR Q B L1 _ _ _ _ w1 q.out.AK (HE.out.step q.out) b3.out).mono ?_;rintro e w2 ⟨L2,rfl,d⟩;have I:=Z (q.out.trans d);clear d
  go_wp2
  go_ret2;refine⟨f,f+1,L2,?_,HF.out,FO HF.out,Xy N M (by omega),?_⟩
  .rw[A.out];rfl
  .rw[A.out];exact I.out
 | none =>
  rw[hx] at O;have hv:v1=.nilIface:=O;subst hv;have a8:∀ g n,((N.next M f).2.2.1.change (N.next M f).2.2.2 (.inr (.inl (a,l (N.next M f).2.2.1 (N.next M f).2.1))) g).1=some n->N.replace M a l f g=(0,n,((N.next M f).2.2.1.asked (N.next M f).2.2.2 (.inr (.inl (a,l (N.next M f).2.2.1 (N.next M f).2.1))) g).2):=by intro g n h;unfold NM.replace;rw[hx];simp only;rw[h]
  have a7:∀ g,((N.next M f).2.2.1.change (N.next M f).2.2.2 (.inr (.inl (a,l (N.next M f).2.2.1 (N.next M f).2.1))) g).1=none->N.replace M a l f g=((N.next M f).2.1,0,((N.next M f).2.2.1.asked (N.next M f).2.2.2 (.inr (.inl (a,l (N.next M f).2.2.1 (N.next M f).2.1))) g).2):=by intro g h;unfold NM.replace;rw[hx];simp only;rw[h]
  have G:=Z a8;have E:=Z a7;have HT:=Z (a1.out f hf hx w1.heap.size d.fr.size (fun i hi=>(d.AK.AH.files i hi).lt));have a4:∀ g,w1.heap.size<=g->Apart2 N M f g:=fun g C e hi=>by have:=(d.AK.AH.files f hi).lt;omega
  have b1:=Z a4;have D:=Z (HG.out f hf);generalize (N.next M f).2.2.1=j at d q G E HT D;generalize (N.next M f).2.2.2=o at d q G E HT D;generalize (N.next M f).2.1=m at G E HT D;have b2:=Z (ZG a w1 a6);clear O hx d hf a8 a7 a4;go_wp2_with fail;refine b2.out.mono ?_;rintro e w2 ⟨rfl,J⟩;have I:=Z (q.out.AC J);have b8:=Z J.size;have b5:=Z (D.out L1 w2 I.out);have c0:=Z (Gc q.out.fr.size J.size);clear J;go_wp2_with fail;refine b5.out.mono ?_;rintro e w3 ⟨v3,rfl,u,X,V⟩;have b6:=Z (I.out.AC X);have a3:=Z (Gc b8.out X.size);have HC:Hid (∀ y w4,Fr Nil w3 w4->Calls Tryz.prog 80 #[.pointer (some ⟨L.nb,0,none⟩),.string y,.iface 193 (.agg #[.string a,v3])] w4 fun e w' =>
   ∃ g v L',e=.returned v/\w1.heap.size<=g/\ERep w' v (j.change o (.inr (.inl (a,l j m))) g).1/\NStep L M w L' (j.change o (.inr (.inl (a,l j m))) g).2.1 (j.change o (.inr (.inl (a,l j m))) g).2.2 w'):=by
   intro y w4 f4;have a9:=b6.out.AC f4;have s:=HT.out.mono (Gc a3.out f4.size);have Y:VRow w4 v3 (l j m):=VRow.fr u f4 (fun _ _=>id);rw[<- q.out.same.nb];refine(Vm B L M w L1 j o y (.inr (.inl (a,l j m))) _ w4 a9 (HE.out.step a9).env ⟨v3,rfl,Y⟩ s.ok (fun k hb=>?_) s.log s.keys s.hints s.writes).mono ?_
   .obtain⟨v,hv,e⟩:=hb
    simp at hv;rcases hv with rfl|rfl
    .exact absurd e (by simp[Value.ownBlock])
    .exact .inr (V k e)
   .rintro e w' ⟨g,v,L',rfl,C,O,d⟩
    exact⟨g,v,L',rfl,Gc (Gc a3.out f4.size) C,O,d⟩
  obtain⟨c1,c2,b0⟩:=zg u;rw[b0] at HC |-;clear u X V b0;go_wp2_with fail;refine(HC.out _ _ (by exact zd)).mono ?_;rintro e w5 ⟨g,v5,L5,rfl,C,p,x⟩;have a2:=Z (Gc q.out.fr.size C);have a0:=Z (b1.out g C);have r:=Z x;cases hc:(j.change o (.inr (.inl (a,l j m))) g).1 with
  | some n =>
   have A:=Z (G.out g n hc);rw[hc] at p;have b4:=Z p;have HA:Hid ((j.asked o (.inr (.inl (a,l j m))) g).2=((j.change o (.inr (.inl (a,l j m))) g).2.1.yo (some n),(j.change o (.inr (.inl (a,l j m))) g).2.2)):=by unfold NM.asked;rw[hc];exact rfl
   obtain⟨k,S⟩:=p;obtain⟨t,b,rfl⟩:=S.form;clear hc S x C;go_wp2_with fail;rw[<- r.out.same.nb];refine(ZR Q B L5 _ _ _ _ w5 r.out.AK (HE.out.step r.out) b4.out).mono ?_;rintro e w6 ⟨L6,rfl,d⟩;have b7:=Z (r.out.trans d);clear d
   go_wp2
   go_ret2;refine⟨f,g,L6,?_,HF.out,a2.out,a0.out,?_⟩
   .rw[A.out];rfl
   .rw[A.out,HA.out];exact b7.out
  | none =>
   have A:=Z (E.out g hc);rw[hc] at p;have b9:v5=.nilIface:=p;subst b9;have ha:(j.asked o (.inr (.inl (a,l j m))) g).2=((j.change o (.inr (.inl (a,l j m))) g).2.1,(j.change o (.inr (.inl (a,l j m))) g).2.2):=by
    show((j.change o (.inr (.inl (a,l j m))) g).2.1.yo _,_)=_;rw[hc,VS]
   have HA:=Z ha;clear hc x C p ha;go_wp2_with fail;go_ret2;refine⟨f,g,L5,?_,HF.out,a2.out,a0.out,?_⟩
   .rw[A.out];rfl
   .rw[A.out,HA.out];exact r.out
theorem KD(a:Array Value)(w:World):Sem.run Tryz.prog (callFunc 82 a) w=.ok (.enter 82 a) w:=by kernel_rfl
theorem Ht(a:Array Value)(w:World):Sem.run Tryz.prog (callFunc 71 a) w=.ok (.enter 71 a) w:=by kernel_rfl
structure VT(N:NM)(M:DM)(H:Nat)(key:ByteArray)(vs:NM->Nat->List Ver):Prop where
 log:Xa N.J M H (zj (.inl (N.given+16))).size
 keys:N.S.keys.length<1099511627776
 hints:N.S.hints.length<1000000
 given:N.given<1000000000000
 fact:∀ f,H<=f->(N.next M f).1=none->∀ H',H<=H'->(∀ i∈(N.next M f).2.2.2.ids,i<H')->Fit (N.next M f).2.2.1 (N.next M f).2.2.2 H' (.inr (.inl (key,vs (N.next M f).2.2.1 (N.next M f).2.1)))
def NM.delete(N:NM)(M:DM)(a:ByteArray)(f g:Nat):Nat × Int × NM × DM :=
 if zz a=false then(0,2,N,M) else if N.readOnly=true then(0,8,N,M) else N.replace M a (fun _ _=>[]) f g
theorem WV(q:zl)(B:Nat)(L:NL)(N:NM)(M:DM)(a:ByteArray)(w:World)(h:NRep w L N M)(v:Yl B L M w)(d:zz a=true->N.readOnly=false->VT N M w.heap.size a (fun _ _=>[])) :
 Calls Tryz.prog 30 #[.pointer (some ⟨L.nb,0,none⟩),.string a] w fun e I=>∃ f g E,e=.returned (.tuple #[.int .i64 (N.delete M a f g).1,.int .i64 (N.delete M a f g).2.1])/\w.heap.size<=f/\w.heap.size<=g/\Apart2 N M f g/\NStep L M w E (N.delete M a f g).2.2.1 (N.delete M a f g).2.2.2 I:=by
 have p:w.cell? ⟨L.nb,7,none⟩=some (.bool N.readOnly):=h.Ay.cell 7;have o:=Z (Wa a w);have t:=Z h;have x:=Z v;have D:=Z d;clear h v d;go_enter Tryz.func30,Tryz.ntmps30;cases hb:zz a with
 | false =>
  rw[hb] at o;have i:N.delete M a w.heap.size (w.heap.size+1)=(0,2,N,M):=by unfold NM.delete;rw[GA hb]
  have c:=Z i;clear hb i
  go_wp2_with (refine o.out.mono ?_;rintro e l ⟨rfl,r⟩;subst l)
  go_ret2;exact⟨w.heap.size,w.heap.size+1,L,by rw[c.out];rfl,Gb _,FQ _,Xy N M (by omega),by rw[c.out];exact NStep.nil t.out (U _ _)⟩
 | true =>
  rw[hb] at o;have j:a.size<=32:=by unfold zz at hb;simp only[Gr] at hb;exact hb.2
  have u:=Z j;cases hr:N.readOnly with
  | true =>
   rw[hr] at p;have i:N.delete M a w.heap.size (w.heap.size+1)=(0,8,N,M):=by unfold NM.delete;rw[Gl (by rw[hb];decide),GA hr]
   have c:=Z i;clear hb i j hr
   go_wp2_with (refine o.out.mono ?_;rintro e l ⟨rfl,r⟩;subst l)
   go_ret2;exact⟨w.heap.size,w.heap.size+1,L,by rw[c.out];rfl,Gb _,FQ _,Xy N M (by omega),by rw[c.out];exact NStep.nil t.out (U _ _)⟩
  | false =>
   have b:=Z (D.out hb hr);rw[hr] at p;have i:∀ f g,N.delete M a f g=N.replace M a (fun _ _=>[]) f g:=by intro f g;unfold NM.delete;rw[Gl (by rw[hb];decide),Gl (by rw[hr];decide)]
   have c:=Z i;clear hb i j hr
   go_wp2_with (refine o.out.mono ?_;rintro e l ⟨rfl,r⟩;subst l)
   refine(Uh q B L N M a (fun _ _=>[]) 82 #[] w t.out x.out ?_ KD (Gc u.out (by decide)) b.out.log b.out.keys b.out.hints b.out.given b.out.fact).mono ?_
   .intro f0 _ L1 l _
    refine(Qk (.int .i64 (N.next M f0).2.1) l).mono ?_;rintro e J ⟨rfl,rfl⟩;exact⟨_,rfl,GK _ 0 _ _,U _ _,fun k G=>absurd G (by simp[Value.ownBlock])⟩
   .rintro e J ⟨f,g,L2,rfl,hf,hg,hap,hst⟩
    have y:=Z hf;have A:=Z hg;have s:=Z hap;have C:=Z hst;clear hf hg hap hst
    go_wp2
    go_ret2;exact⟨f,g,L2,by rw[c.out];rfl,y.out,A.out,s.out,by rw[c.out];exact C.out⟩
def putV(a b:ByteArray)(N:NM)(n:Nat):List Ver :=
 [{node:=N.self,seq:=n,o0:=grV (zr N.S.keys a) 0,o1:=grV (zr N.S.keys a) 1,o2:=grV (zr N.S.keys a) 2,o3:=grV (zr N.S.keys a) 3,value:=b,gone:=false}]
theorem L7(L:NL)(N:NM)(M:DM)(b a:ByteArray)(C D E n:Nat)(w:World)(h:NRep w L N M)(o:Blk w C [.pointer (some ⟨L.nb,0,none⟩)] 41)(p:Blk w D [.string b] 9)(q:Blk w E [.string a] 9)
 (B:N.S.keys.length<1099511627776)(g:∀ u∈zr N.S.keys b,Zy u.node)(j:a.size<=1000000000) :
 Calls Tryz.prog 71 #[.int .i64 n,.pointer (some ⟨C,0,none⟩),.pointer (some ⟨D,0,none⟩),.pointer (some ⟨E,0,none⟩)] w fun e c=>∃ v,e=.returned v/\VRow c v (putV b a N n)/\Fr Nil w c/\(∀ k,v.ownBlock=some k->w.heap.size<=k):=by
 have l:Hid (∀ c,Fr Nil w c->c.cell? ⟨C,0,none⟩=some (.pointer (some ⟨L.nb,0,none⟩))/\c.cell? ⟨D,0,none⟩=some (.string b)/\c.cell? ⟨E,0,none⟩=some (.string a)/\c.cell? ⟨L.nb,0,none⟩=some (.int .i64 N.self)/\c.cell? ⟨L.nb,2,none⟩=some (.pointer (some ⟨L.sb,0,none⟩))) :=
  fun c f=>⟨(o.fr f id).cell 0,(p.fr f id).cell 0,(q.fr f id).cell 0,(h.Ay.fr f id).cell 0,(h.Ay.fr f id).cell 2⟩
 have R:=Z (fun c (f:Fr Nil w c)=>XV b L.sb L.LS N.S c (h.held.nil f) B);have Q:=Z (fun c (f:Fr Nil w c)=>R2 (getE L.LS.AV b) (zr N.S.keys b) g c ((h.held.nil f).getE b));have K:=Z (fun c=>ZG a c j);obtain⟨S,T,V,X,Y⟩:=l.out w (U _ _);clear h o p q B g j;go_enter Tryz.func71,Tryz.ntmps71;go_wp2_with fail
 go_region_held3 (fun c=>c.cell? ⟨C,0,none⟩=some (.pointer (some ⟨L.nb,0,none⟩))/\c.cell? ⟨D,0,none⟩=some (.string b)/\c.cell? ⟨E,0,none⟩=some (.string a)/\c.cell? ⟨L.nb,0,none⟩=some (.int .i64 N.self)/\c.cell? ⟨L.nb,2,none⟩=some (.pointer (some ⟨L.sb,0,none⟩))) (first|assumption|go_keep|exact l.out _ zd)
  (first
  | (go_at_call 72;refine(Q.out _ zd).mono ?_;rintro e I ⟨rfl,t⟩;have x:Fr Nil w I:=Fr.trans zd t;have a1:=l.out I x;clear t)
  | (go_at_call 74;refine(K.out _).mono ?_;rintro e wc ⟨rfl,s⟩;have d:Fr Nil w wc:=Fr.trans zd s;have a0:=l.out wc d;clear s)
  | (go_at_call 73;refine(R.out _ zd).mono ?_;rintro e J ⟨rfl,y⟩;have A:Fr Nil w J:=Fr.trans zd y;have a2:=l.out J A;clear y))
 have r:=Blk.new wc [.int .i64 N.self,.int .i64 n,.int .i64 (grV (zr N.S.keys b) 0),.int .i64 (grV (zr N.S.keys b) 1),.int .i64 (grV (zr N.S.keys b) 2),.int .i64 (grV (zr N.S.keys b) 3),.string a,.bool false] 37;have i:VRow _ (.slice (some ⟨wc.heap.size,0,none⟩) 1 1) (putV b a N n):=Yp (cap:=1) r (Gb _) (by decide) rfl rfl;have m:=Z i;have O:=Z (d.alloc (.cells #[.int .i64 N.self,.int .i64 n,.int .i64 (grV (zr N.S.keys b) 0),.int .i64 (grV (zr N.S.keys b) 1),.int .i64 (grV (zr N.S.keys b) 2),.int .i64 (grV (zr N.S.keys b) 3),.string a,.bool false] 37));have G:=Z d.size;clear r i
 go_wp2
 go_ret;exact⟨_,rfl,m.out,O.out,fun k B=>by simp[Value.ownBlock] at B;subst B;exact G.out⟩
theorem WB(w:World)(a:Obj):(w.alloc a).heap.size=w.heap.size+1:=Array.size_push ..
theorem VT.mono{N:NM}{M:DM}{H e:Nat}{a:ByteArray}{o:NM->Nat->List Ver}(h:VT N M H a o)(c:H<=e):VT N M e a o :=
 ⟨h.log.mono c,h.keys,h.hints,h.given,fun f y A q r=>h.fact f (Gc c y) A q (Gc c r)⟩
def NM.put(N:NM)(M:DM)(b a:ByteArray)(f g:Nat):Nat × Int × NM × DM :=
 if zz b=false then(0,2,N,M) else if 128<a.size then(0,3,N,M) else if N.readOnly=true then(0,8,N,M) else N.replace M b (putV b a) f g
theorem Vc(K:zl)(B:Nat)(L:NL)(N:NM)(M:DM)(b a:ByteArray)(w:World)(h:NRep w L N M)(he:Yl B L M w)(o:∀ u∈zr N.S.keys b,Zy u.node)
 (y:zz b=true->a.size<=128->N.readOnly=false->VT N M w.heap.size b (putV b a)) :
 Calls Tryz.prog 22 #[.pointer (some ⟨L.nb,0,none⟩),.string b,.string a] w fun e w'=>∃ f g L',e=.returned (.tuple #[.int .i64 (N.put M b a f g).1,.int .i64 (N.put M b a f g).2.1])/\w.heap.size<=f/\w.heap.size<=g/\Apart2 N M f g/\NStep L M w L' (N.put M b a f g).2.2.1 (N.put M b a f g).2.2.2 w':=by
 have I:=Z h;have HE:=Z he;have HT:=Z y;have X:=Z o;clear h he y o;go_enter Tryz.func22,Tryz.ntmps22;go_wp2_with fail;have C:=Blk.new w [.pointer (some ⟨L.nb,0,none⟩)] 41;have x:=Blk.new (w.alloc (.cells #[.pointer (some ⟨L.nb,0,none⟩)] 41)) [.string b] 9;have D:=Blk.new ((w.alloc (.cells #[.pointer (some ⟨L.nb,0,none⟩)] 41)).alloc (.cells #[.string b] 9)) [.string a] 9;have r:Fr Nil (w.alloc (.cells #[.pointer (some ⟨L.nb,0,none⟩)] 41)) (((w.alloc (.cells #[.pointer (some ⟨L.nb,0,none⟩)] 41)).alloc (.cells #[.string b] 9)).alloc (.cells #[.string a] 9)):=((U _ _).alloc _).alloc _;have f2:Fr Nil ((w.alloc (.cells #[.pointer (some ⟨L.nb,0,none⟩)] 41)).alloc (.cells #[.string b] 9)) (((w.alloc (.cells #[.pointer (some ⟨L.nb,0,none⟩)] 41)).alloc (.cells #[.string b] 9)).alloc (.cells #[.string a] 9)):=(U _ _).alloc _;have R:Fr Nil w (((w.alloc (.cells #[.pointer (some ⟨L.nb,0,none⟩)] 41)).alloc (.cells #[.string b] 9)).alloc (.cells #[.string a] 9)):=((U _ _).alloc _).trans r;have s1:(w.alloc (.cells #[.pointer (some ⟨L.nb,0,none⟩)] 41)).heap.size=w.heap.size+1:=WB _ _;have s2:((w.alloc (.cells #[.pointer (some ⟨L.nb,0,none⟩)] 41)).alloc (.cells #[.string b] 9)).heap.size=w.heap.size+1+1:=by rw[WB,WB]
 have C:=C.fr r id;have x:=x.fr f2 id;rw[s1] at x;rw[s2] at D;clear r f2 s1 s2;generalize ((w.alloc (.cells #[.pointer (some ⟨L.nb,0,none⟩)] 41)).alloc (.cells #[.string b] 9)).alloc (.cells #[.string a] 9)=A at C x D R |-;have c:=Z R;have a9:A.cell? ⟨w.heap.size,0,none⟩=some (.pointer (some ⟨L.nb,0,none⟩)):=C.cell 0;have a4:A.cell? ⟨w.heap.size+1,0,none⟩=some (.string b):=x.cell 0;have a5:A.cell? ⟨w.heap.size+1+1,0,none⟩=some (.string a):=D.cell 0;generalize w.heap.size+1+1=b3 at D a5 |-;generalize w.heap.size+1=b2 at x a4 |-;have HA:=Z C;have HB:=Z x;have HC:=Z D;have Y:=Z (I.out.nil R);have J:A.cell? ⟨L.nb,7,none⟩=some (.bool N.readOnly):=Y.out.Ay.cell 7;have Q:=Z (Wa b A);clear C x D R;cases hb:zz b with
 | false =>
  rw[hb] at Q;have p:N.put M b a w.heap.size (w.heap.size+1)=(0,2,N,M):=by unfold NM.put;rw[GA hb]
  have j:=Z p;clear hb p;refine Q.out.mono ?_;rintro e E ⟨rfl,a7⟩;subst E
  go_wp2
  go_ret2;exact⟨w.heap.size,w.heap.size+1,L,by rw[j.out];rfl,Gb _,FQ _,Xy N M (by omega),by rw[j.out];exact NStep.nil I.out c.out⟩
 | true =>
  rw[hb] at Q;have q:b.size<=32:=by unfold zz at hb;simp only[Gr] at hb;exact hb.2
  have V:=Z q;refine Q.out.mono ?_;rintro e E ⟨rfl,a7⟩;subst E;by_cases hv:128<a.size
  .have p:N.put M b a w.heap.size (w.heap.size+1)=(0,3,N,M):=by unfold NM.put;rw[Gl (by rw[hb];decide),GA hv]
   have j:=Z p;have a6:(128:Int)<(a.size:Int):=by omega
   clear hb p q
   go_wp2
   go_ret2;exact⟨w.heap.size,w.heap.size+1,L,by rw[j.out];rfl,Gb _,FQ _,Xy N M (by omega),by rw[j.out];exact NStep.nil I.out c.out⟩
  .have a6:¬(128:Int)<(a.size:Int):=by omega
   cases hr:N.readOnly with
   | true =>
    rw[hr] at J;have p:N.put M b a w.heap.size (w.heap.size+1)=(0,8,N,M):=by unfold NM.put;rw[Gl (by rw[hb];decide),Gl hv,GA hr]
    have j:=Z p;clear hb p q hr
    go_wp2
    go_ret2;exact⟨w.heap.size,w.heap.size+1,L,by rw[j.out];rfl,Gb _,FQ _,Xy N M (by omega),by rw[j.out];exact NStep.nil I.out c.out⟩
   | false =>
    rw[hr] at J;have p:∀ f g,N.put M b a f g=N.replace M b (putV b a) f g:=by intro f g;unfold NM.put;rw[Gl (by rw[hb];decide),Gl hv,Gl (by rw[hr];decide)]
    have j:=Z p;have G:=Z (HT.out hb (by omega) hr);have a0:Hid (a.size<=1000000000):=by show _<=_;omega
    clear hb p q hr;have T:Hid (Gives L N M A 71 #[.pointer (some ⟨w.heap.size,0,none⟩),.pointer (some ⟨b2,0,none⟩),.pointer (some ⟨b3,0,none⟩)] (putV b a)):=by
     intro r a8 L1 E s;have l:=(KC N M r).1;have d:∀ {k t},Ty A k t->t≠123->t≠197->t≠161->t≠239->t≠75->¬DTy t->t≠201->¬NFoot L M k:=fun hk q1 q2 q3 q4 q5 q6 q7=>Y.out.apart hk q1 q2 q3 q4 q5 q6 q7;have a1:Blk E w.heap.size [.pointer (some ⟨L1.nb,0,none⟩)] 41:=by
      rw[s.same.nb];exact HA.out.fr s.fr (d HA.out.ty (by decide) (by decide) (by decide) (by decide) (by decide) (by unfold DTy;decide) (by decide))
     have a2:=HB.out.fr s.fr (d HB.out.ty (by decide) (by decide) (by decide) (by decide) (by decide) (by unfold DTy;decide) (by decide));have a3:=HC.out.fr s.fr (d HC.out.ty (by decide) (by decide) (by decide) (by decide) (by decide) (by unfold DTy;decide) (by decide));refine(L7 L1 (N.next M r).2.2.1 (N.next M r).2.2.2 b a w.heap.size b2 b3 (N.next M r).2.1 E s.AK a1 a2 a3 (by rw[l];exact G.out.keys) (by rw[l];exact X.out) a0.out).mono ?_;rintro e w2 ⟨v,rfl,h1,h2,h3⟩;exact⟨v,rfl,h1,h2,fun k hk=>Gc s.fr.size (h3 k hk)⟩
    have i:=Z (G.out.mono c.out.size);go_wp2_with fail;refine(Uh K B L N M b (putV b a) 71 _ A Y.out (HE.out.nil c.out) T.out Ht (Gc V.out (by decide)) i.out.log i.out.keys i.out.hints i.out.given i.out.fact).mono ?_;rintro e w2 ⟨f,g,L2,rfl,hf,hg,d,O⟩;have S:=Z d;have HF:=Z (Gc c.out.size hf);have HG:=Z (Gc c.out.size hg);have HS:=Z ((NStep.nil I.out c.out).trans O);clear hf hg d O
    go_wp2
    go_ret2;exact⟨f,g,L2,by rw[j.out];rfl,HF.out,HG.out,S.out,by rw[j.out];exact HS.out⟩
def Yb(l:List Ver)(v:Ver):List Ver:=if v.gone=true then zK l v else Xb (zK l v) v
def NM.accept(N:NM)(M:DM)(a:ByteArray)(v:Ver)(f:Nat):Int × NM × DM :=
 if zz a=false then(2,N,M) else
 if 128<v.value.size then(3,N,M) else
 if foreign N.self v=false then(5,N,M) else
 if N.readOnly=true then(8,N,M) else
 if (zr N.S.keys a).any v.yu=true then(0,N,M) else
 if v.gone=false/\4<=(zK (zr N.S.keys a) v).length then(6,N,M) else
 if v.gone=true/\(zK (zr N.S.keys a) v).length=(zr N.S.keys a).length then(0,N,M) else
 N.asked M (.inr (.inl (a,Yb (zr N.S.keys a) v))) f
theorem UF{self:Nat}{v:Ver}(h:foreign self v=true):Zy v.node:=by
 unfold foreign at h;simp only[Fm] at h;have:=h.2.2.1.1;unfold zR at this
 simpa [Zy] using this
theorem RG(l:List Ver)(v:Ver):(zK l v).length<=l.length:=List.length_filter_le ..
theorem RH{l:List Ver}(h:YE l)(v:Ver):YE (zK l v):=by
 unfold YE Asc zK at *;exact h.sublist (List.filter_sublist.map _)
theorem Sg(B:Nat)(L:NL)(N:NM)(M:DM)(a:ByteArray)(l:List Ver)(g w:World)(h:NRep g L N M)(y:Yl B L M g)(u:Fr Nil g w)(o:Value)(m:VRow w o l)(j:∀ k,o.ownBlock=some k->g.heap.size<=k)
 (i:Fit N M g.heap.size (.inr (.inl (a,l)))) :
 ∀ c q,Fr Nil w q->Calls Tryz.prog 80 #[.pointer (some ⟨L.nb,0,none⟩),.string c,.iface 193 (.agg #[.string a,o])] q fun e s =>
  ∃ f v r,e=.returned v/\g.heap.size<=f/\ERep s v (N.change M (.inr (.inl (a,l))) f).1/\NStep L M g r (N.change M (.inr (.inl (a,l))) f).2.1 (N.change M (.inr (.inl (a,l))) f).2.2 s:=by
 intro c q t;have d:=u.trans t;have b:=i.mono d.size;refine(Vm B L M g L N M c (.inr (.inl (a,l))) _ q (NStep.nil h d) (y.nil d).env ⟨o,rfl,VRow.fr m t (fun _ _=>id)⟩ b.ok (fun k x=>?_) b.log b.keys b.hints b.writes).mono ?_
 .obtain⟨v,hv',e⟩:=x
  simp at hv';rcases hv' with rfl|rfl
  .exact absurd e (by simp[Value.ownBlock])
  .exact .inr (j k e)
 .rintro e s ⟨f,v,r,rfl,hf,hE,hst⟩
  exact⟨f,v,r,rfl,Gc d.size hf,hE,hst⟩
theorem Pg(c0:zl)(B:Nat)(L:NL)(N:NM)(M:DM)(g:ByteArray)(v:Ver)(w:World)(h:NRep w L N M)(he:Yl B L M w)(a9:∀ u∈zr N.S.keys g,Zy u.node)(b9:YE (zr N.S.keys g))
 (hk:N.S.keys.length<1099511627776)(c2:(zr N.S.keys g).length<1000000)(c1:zz g=true->v.value.size<=128->foreign N.self v=true->N.readOnly=false->(v.gone=false->(zK (zr N.S.keys g) v).length<4)->Fit N M w.heap.size (.inr (.inl (g,Yb (zr N.S.keys g) v)))) :
 Calls Tryz.prog 91 #[.pointer (some ⟨L.nb,0,none⟩),.string g,.agg v.cells.toArray] w fun e w'=>∃ f L',e=.returned (.int .i64 (N.accept M g v f).1)/\w.heap.size<=f/\NStep L M w L' (N.accept M g v f).2.1 (N.accept M g v f).2.2 w':=by
 have hA:=Blk.new w v.cells 37;have f0:Fr Nil w (w.alloc (.cells v.cells.toArray 37)):=(U _ _).alloc _;have HH:=Z h;have HE:=Z he;have HT:=Z c1;have f9:=Z a9;have f2:=Z b9;have a1:=Z c2;clear h he c1 a9 b9 c2;have f5:Hid (foreign N.self v=true->Zy v.node):=fun h=>UF h;have b8:=Z (RG (zr N.S.keys g) v);have d7:=Z (RH f2.out v);generalize hb:w.heap.size=b at hA;have b3:=Z hb;generalize f1:w.alloc (.cells v.cells.toArray 37)=R at hA f0;have d8:=Z f1;have HA:=Z hA;have y:=Z f0;have HR:=Z (HH.out.nil f0);have g1:R.cell? ⟨L.nb,7,none⟩=some (.bool N.readOnly):=HR.out.Ay.cell 7;have g0:R.cell? ⟨L.nb,2,none⟩=some (.pointer (some ⟨L.sb,0,none⟩)):=HR.out.Ay.cell 2;have HI:=Z (Se L N M v R HR.out);have HV:=Z (fun m (f:Fr Nil R m)=>XV g L.sb L.LS N.S m (HR.out.held.nil f) hk);have b4:=Z (fun m (f:Fr Nil R m)=>(HR.out.held.nil f).getE g);generalize getE L.LS.AV g=gv at HV b4;have HL:=Z (fun m (f:Fr Nil R m)=>MT gv (zr N.S.keys g) v f9.out a1.out m (b4.out m f));have d4:=Z (fun(hn:Zy v.node) m (f:Fr Nil R m)=>Oz gv (zr N.S.keys g) v hn m (b4.out m f));have f6:Hid (∃ a c,gv=.slice a (zr N.S.keys g).length c):=zg (b4.out R (U _ _));have HK:=Z (Wa g R);clear hA f0 hb f1;obtain⟨node,i,o,q,r,s,d,gone⟩:=v;simp only[Ver.cells] at HA d8 HI HL d4 |-;have d6:Hid (∀ m,Blk m b [.int .i64 node,.int .i64 i,.int .i64 o,.int .i64 q,.int .i64 r,.int .i64 s,.string d,.bool gone] 37->Blk (m.setCell ⟨b,6,none⟩ (.string d)) b [.int .i64 node,.int .i64 i,.int .i64 o,.int .i64 q,.int .i64 r,.int .i64 s,.string d,.bool gone] 37):=fun m h=>h.set 6 (.string d);go_enter Tryz.func91,Tryz.ntmps91;go_wp2_with fail;rw[d8.out,b3.out];cases hb0:zz g with
 | false =>
  rw[hb0] at HK;have A:N.accept M g ⟨node,i,o,q,r,s,d,gone⟩ b=(2,N,M):=by unfold NM.accept;rw[GA hb0]
  have j:=Z A;clear hb0 A;refine HK.out.mono ?_;rintro e m ⟨rfl,g7⟩;subst m
  go_wp2
  go_ret;exact⟨b,L,by rw[j.out];rfl,Gb _,by rw[j.out];exact NStep.nil HH.out y.out⟩
 | true =>
 rw[hb0] at HK;have C:=Z hb0;clear hb0;refine HK.out.mono ?_;rintro e m ⟨rfl,g7⟩;subst m;have g3:R.cell? ⟨b,6,none⟩=some (.string d):=HA.out.cell 6;have g2:=HA.out.cell;by_cases hv:128<d.size
 .have A:N.accept M g ⟨node,i,o,q,r,s,d,gone⟩ b=(3,N,M):=by unfold NM.accept;rw[Gl (by rw[C.out];decide),GA hv]
  have j:=Z A;have g6:(128:Int)<(d.size:Int):=by omega
  clear A
  go_wp2
  go_ret;exact⟨b,L,by rw[j.out];rfl,Gb _,by rw[j.out];exact NStep.nil HH.out y.out⟩
 have g6:¬(128:Int)<(d.size:Int):=by omega
 cases hfo:foreign N.self ⟨node,i,o,q,r,s,d,gone⟩ with
 | false =>
  rw[hfo] at HI;have A:N.accept M g ⟨node,i,o,q,r,s,d,gone⟩ b=(5,N,M):=by unfold NM.accept;rw[Gl (by rw[C.out];decide),Gl hv,GA hfo]
  have j:=Z A;clear A hfo
  go_wp2_with (refine HI.out.mono ?_;rintro e m ⟨rfl,E⟩;have V:=Z E;clear E)
  go_ret;exact⟨b,L,by rw[j.out];rfl,Gb _,by rw[j.out];exact NStep.nil HH.out (y.out.trans V.out)⟩
 | true =>
 rw[hfo] at HI;have a0:=Z hfo;have a5:=Z hv;clear hfo hv;go_wp2_with fail;refine HI.out.mono ?_;rintro e m ⟨rfl,E⟩;have e1:=(HA.out.fr E id).cell;have a7:m.cell? ⟨L.nb,7,none⟩=some (.bool N.readOnly):=(HR.out.nil E).Ay.cell 7;have e0:m.cell? ⟨L.nb,2,none⟩=some (.pointer (some ⟨L.sb,0,none⟩)):=(HR.out.nil E).Ay.cell 2;have V:=Z E;clear E g2 g3 g1 g0;cases hr:N.readOnly with
 | true =>
  rw[hr] at a7;have A:N.accept M g ⟨node,i,o,q,r,s,d,gone⟩ b=(8,N,M):=by unfold NM.accept;rw[Gl (by rw[C.out];decide),Gl a5.out,Gl (by rw[a0.out];decide),GA hr]
  have j:=Z A;clear hr A
  go_wp2
  go_ret;exact⟨b,L,by rw[j.out];rfl,Gb _,by rw[j.out];exact NStep.nil HH.out (y.out.trans V.out)⟩
 | false =>
 rw[hr] at a7;have c9:=Z hr;clear hr;go_wp2_with fail;refine(HV.out m V.out).mono ?_;rintro e w2 ⟨rfl,e5⟩;have X:Hid (Fr Nil R w2):=V.out.trans e5;have e2:=(HA.out.fr X.out id).cell;clear e5 e1 a7 e0;go_wp2_with fail;refine(HL.out w2 X.out).mono ?_;rintro e w3 ⟨hv,rfl,b2,e6,b0⟩;have c7:Hid (Fr Nil R w3):=X.out.trans e6;have e3:=(HA.out.fr c7.out id).cell;have a3:=Z b2;have d5:Hid (∀ k,hv.ownBlock=some k->w.heap.size<=k):=fun k hk=>Gc (Gc y.out.size X.out.size) (b0 k hk);have f8:Hid (∀ k,hv.ownBlock=some k->k≠b):=fun k hk e=>by have:=b0 k hk;have:=X.out.size;have:=HA.out.lt;omega
 obtain⟨la,lc,e8⟩:=zg b2;clear e6 e2 b2 b0;generalize hL:(zK (zr N.S.keys g) ⟨node,i,o,q,r,s,d,gone⟩)=l at a3 b8 d7 e8;have g5:l.length<1000000:=by have:=b8.out;have:=a1.out;omega
 have h1:(zr N.S.keys g).length<1000000:=a1.out;have a2:=Z hL;subst e8;clear hL;go_wp2_with fail;refine(d4.out (f5.out a0.out) w3 c7.out).mono ?_;rintro e w4 ⟨rfl,d2⟩;have G:Hid (Fr Nil R w4):=c7.out.trans d2;have e4:=(HA.out.fr G.out id).cell;have a4:=Z (VRow.fr a3.out d2 (fun _ _=>id));clear d2 e3 a3;have c3:∀ f,N.accept M g ⟨node,i,o,q,r,s,d,gone⟩ f=if (zr N.S.keys g).any (Ver.yu ⟨node,i,o,q,r,s,d,gone⟩)=true then(0,N,M) else
  if gone=false/\4<=l.length then(6,N,M) else if gone=true/\l.length=(zr N.S.keys g).length then(0,N,M) else
  N.asked M (.inr (.inl (g,Yb (zr N.S.keys g) ⟨node,i,o,q,r,s,d,gone⟩))) f:=by
  intro f;unfold NM.accept;rw[Gl (by rw[C.out];decide),Gl a5.out,Gl (by rw[a0.out];decide),Gl (by rw[c9.out];decide),a2.out]
 have D:=Z c3;clear c3;cases hkn:(zr N.S.keys g).any (Ver.yu ⟨node,i,o,q,r,s,d,gone⟩) with
 | true =>
  have A:N.accept M g ⟨node,i,o,q,r,s,d,gone⟩ b=(0,N,M):=by rw[D.out,GA hkn]
  have j:=Z A;clear A hkn
  go_wp2
  go_ret;exact⟨b,L,by rw[j.out];rfl,Gb _,by rw[j.out];exact NStep.nil HH.out (y.out.trans G.out)⟩
 | false =>
 have Q:=Z hkn;clear hkn;obtain⟨ga,gc,g4⟩:=f6.out;subst g4;cases gone with
 | false =>
  by_cases hm:4<=l.length
  .have A:N.accept M g ⟨node,i,o,q,r,s,d,false⟩ b=(6,N,M):=by rw[D.out,Gl (by rw[Q.out];decide),GA ⟨rfl,hm⟩]
   have j:=Z A;have b7:(4:Int)<=(l.length:Int):=by omega
   clear A
   go_wp2
   go_ret;exact⟨b,L,by rw[j.out];rfl,Gb _,by rw[j.out];exact NStep.nil HH.out (y.out.trans G.out)⟩
  .have b7:¬(4:Int)<=(l.length:Int):=by omega
   have Y:Hid (Fit N M w.heap.size (.inr (.inl (g,Yb (zr N.S.keys g) ⟨node,i,o,q,r,s,d,false⟩)))):=HT.out C.out (by have:=a5.out;omega) a0.out c9.out (fun hg=>by first|(cases hg;done)|(rw[a2.out];omega));have j:Hid (∀ f,N.accept M g ⟨node,i,o,q,r,s,d,false⟩ f=N.asked M (.inr (.inl (g,Yb (zr N.S.keys g) ⟨node,i,o,q,r,s,d,false⟩))) f):=by
    intro f;rw[D.out,Gl (by rw[Q.out];decide),Gl (by exact fun x=>hm x.2),Gl (by exact fun x=>absurd x.1 (by decide))]
   have a8:g.size<=1000000000:=by have:=C.out;unfold zz at this;simp only[Gr] at this;omega
   have c4:=Z (fun wx=>ZG g wx a8);have f7:=Z hm;clear a8 hm b7;have e9:d.size<=1000000000:=by have:=a5.out;omega
   have f4:=Z (ZG d w4 e9);have h2:¬(4:Int)<=(l.length:Int):=by have:=f7.out;omega
   clear e9;go_wp2_with fail;refine f4.out.mono ?_;rintro e w5 ⟨rfl,b6⟩;have b5:=HA.out.fr (G.out.trans b6) id;have f3:=Z (d6.out w5 b5);have h0:=f3.out.cell;have g8:=b5.frozen;have g9:=b5.cell;have d0:Hid (VRow (w5.setCell ⟨b,6,none⟩ (.string d)) (.slice la l.length lc) l):=VRow.fr (VRow.fr a4.out b6 (fun _ _=>id)) (S:=fun k=>k=b) (Fr.set (S:=fun k=>k=b) (p:=⟨b,6,none⟩) (U _ _) (fun _=>rfl) _) (fun k hk e=>f8.out k hk e);have d3:Hid (Fr Nil w (w5.setCell ⟨b,6,none⟩ (.string d))):=(y.out.trans (G.out.trans b6)).set (p:=⟨b,6,none⟩) (fun h=>absurd h (by simp only[b3.out];omega)) _;clear b6 b5 e4;go_wp2_with fail;have d9:=Z (MX (.slice la l.length lc) l ⟨node,i,o,q,r,s,d,false⟩ d7.out g5 _ d0.out);simp only[Ver.cells] at d9;refine d9.out.mono ?_;rintro e w6 ⟨v6,rfl,O,e7,b1⟩;have c8:=Z (d3.out.trans e7);have J:Hid (VRow w6 v6 (Yb (zr N.S.keys g) ⟨node,i,o,q,r,s,d,false⟩)):=by unfold Yb;rw[Gl (by simp),a2.out];exact O
   have I:Hid (∀ k,v6.ownBlock=some k->w.heap.size<=k):=fun k hk=>Gc d3.out.size (b1 k hk);obtain⟨a6,c6,rfl⟩:=zg O;clear O e7 b1;go_wp2_with fail;refine(c4.out _).mono ?_;rintro e w7 ⟨rfl,K⟩;have T:=Z (Sg B L N M g _ w w7 HH.out HE.out (c8.out.trans K) _ (VRow.fr J.out K (fun _ _=>id)) I.out Y.out);clear K;go_wp2_with fail;refine(T.out _ _ (by exact zd)).mono ?_;rintro e w8 ⟨f,v1,L1,rfl,hf,hE,t⟩;have HS:=Z t;have c5:=Z hE;have HF:=Z hf;clear hE t hf;go_wp2_with fail;rw[<- HS.out.same.nb];refine(ZR c0 B L1 _ _ _ _ w8 HS.out.AK (HE.out.step HS.out) c5.out).mono ?_;rintro e w9 ⟨L2,rfl,t⟩;have d1:=Z (HS.out.trans t);clear t
   go_wp2
   go_ret;refine⟨f,L2,?_,by rw[<- b3.out];exact HF.out,?_⟩
   .rw[j.out];rfl
   .rw[j.out];exact d1.out
 | true =>
  by_cases hm:l.length=(zr N.S.keys g).length
  .have A:N.accept M g ⟨node,i,o,q,r,s,d,true⟩ b=(0,N,M):=by rw[D.out,Gl (by rw[Q.out];decide),Gl (fun x=>absurd x.1 (by decide)),GA ⟨rfl,hm⟩]
   have j:=Z A;have b7:((l.length:Int)==((zr N.S.keys g).length:Int))=true:=by simp[hm]
   clear A hm
   go_wp2
   go_ret;exact⟨b,L,by rw[j.out];rfl,Gb _,by rw[j.out];exact NStep.nil HH.out (y.out.trans G.out)⟩
  .have b7:((l.length:Int)==((zr N.S.keys g).length:Int))=false:=by simp;omega
   have Y:Hid (Fit N M w.heap.size (.inr (.inl (g,Yb (zr N.S.keys g) ⟨node,i,o,q,r,s,d,true⟩)))):=HT.out C.out (by have:=a5.out;omega) a0.out c9.out (fun hg=>by first|(cases hg;done)|(rw[a2.out];omega));have j:Hid (∀ f,N.accept M g ⟨node,i,o,q,r,s,d,true⟩ f=N.asked M (.inr (.inl (g,Yb (zr N.S.keys g) ⟨node,i,o,q,r,s,d,true⟩))) f):=by
    intro f;rw[D.out,Gl (by rw[Q.out];decide),Gl (by exact fun x=>absurd x.1 (by decide)),Gl (by exact fun x=>hm x.2)]
   have a8:g.size<=1000000000:=by have:=C.out;unfold zz at this;simp only[Gr] at this;omega
   have c4:=Z (fun wx=>ZG g wx a8);clear a8 hm;have c8:Hid (Fr Nil w w4):=y.out.trans G.out;have J:Hid (VRow w4 (.slice la l.length lc) (Yb (zr N.S.keys g) ⟨node,i,o,q,r,s,d,true⟩)):=by unfold Yb;rw[GA rfl,a2.out];exact a4.out
   have I:=d5;go_wp2_with fail;refine(c4.out _).mono ?_;rintro e w7 ⟨rfl,K⟩;have T:=Z (Sg B L N M g _ w w7 HH.out HE.out (c8.out.trans K) _ (VRow.fr J.out K (fun _ _=>id)) I.out Y.out);clear K;go_wp2_with fail;refine(T.out _ _ (by exact zd)).mono ?_;rintro e w8 ⟨f,v1,L1,rfl,hf,hE,t⟩;have HS:=Z t;have c5:=Z hE;have HF:=Z hf;clear hE t hf;go_wp2_with fail;rw[<- HS.out.same.nb];refine(ZR c0 B L1 _ _ _ _ w8 HS.out.AK (HE.out.step HS.out) c5.out).mono ?_;rintro e w9 ⟨L2,rfl,t⟩;have d1:=Z (HS.out.trans t);clear t
   go_wp2
   go_ret;refine⟨f,L2,?_,by rw[<- b3.out];exact HF.out,?_⟩
   .rw[j.out];rfl
   .rw[j.out];exact d1.out
end Go.Proofs.YtkhnggkkiefcdaaGreatDoor
