/- larder: joined texts -/
import Derived.Test.YtkhnggkkiefcdaaGreatDoorUNAE
import Derived.Test.YtkhnggkkiefcdaaGreatDoorUNAG
import Derived.Test.YtkhnggkkiefcdaaGreatDoorUNAH
import Derived.RangeFuncNested
import Derived.RangeFuncBound
import Derived.RangeFuncCalls
import Derived.RangeFuncLeaves
import Derived.Shelf.Abstract
import Derived.Shelf.RegionOpen
import Derived.WalkKit
import Derived.OwnWalkIn
import Derived.TacticsInMore
import Derived.LoopNIn
import Derived.LoopIn
import Derived.StillTailTactics
namespace Go.Proofs.YtkhnggkkiefcdaaGreatDoor
open Go.RowKit Go.Shelf
set_option maxRecDepth 100000
set_option maxHeartbeats 8000000
attribute [local go_sem] GX
abbrev GD:=@Go.wp_region_still_tail
abbrev Ei:=@Go.World.putObj_heap_other
def YI(X:Nat->Prop)(W a:World):Prop:=∀ k,X k->a.heap[k]?=W.heap[k]?
theorem YI.refl(X:Nat->Prop)(W:World):YI X W W:=fun _ _=>rfl
theorem YI.trans{X:Nat->Prop}{A B C:World}(h:YI X A B)(k:YI X B C):YI X A C:=fun i a=>(k i a).trans (h i a)
theorem YI.own{X:Nat->Prop}{W i:World}{base:Nat}{e:TypeId}{size:Nat}{v:Value}{n:Nat}{m:List Value}(h:YI X W i)(j:W.ownsRow base e size v n m)(u:∀ k,v.ownBlock=some k->X k):i.ownsRow base e size v n m:=by
 refine⟨j.1,?_⟩;rcases j.2 with o|⟨g,a,c,rfl,q,t,r⟩
 .exact .inl o
 .exact .inr ⟨g,a,c,rfl,q,by rw[h g (u g rfl)];exact t,r⟩
theorem TD(a:Nat)(w:World) :
 Calls Tryz.prog 182 #[.pointer (some ⟨a,0,none⟩)] w fun e b =>
  e=.returned (.func (.func 217) #[] #[.pointer (some ⟨w.heap.size,0,none⟩)])/\b=w.alloc (.cells #[.pointer (some ⟨a,0,none⟩)] 236):=by
 go_enter Tryz.func182,Tryz.ntmps182
 go_wp2
 go_ret;exact⟨rfl,rfl⟩
theorem KD(F:Fence)(n:Nat)(hF:F.fn 217)(K:F.round=none)(hn:1<=n)(l M mb:Nat)(v:Value)(b:List (ByteArray × Value))(X:Nat->Prop)(J O:List (ByteArray × Value)->World->Prop)
 (W:World)(hl:b.length<4611686018427387904)
 (hJ:AbidesFrom W.heap.size J)(hX:∀ k,X k->k<W.heap.size)(D:∀ k,v.ownBlock=some k->X k)
 (j:∀ e∈b,∃ a m c,e.2=.slice a m c)
 (hY:∀ pre x u,J pre u->pre.length<b.length->YieldAt F (n-1) Tryz.prog l #[.string x.1,x.2] u fun e h =>
   (e=.returned (.bool true)/\J (pre++[x]) h/\YI X u h/\u.heap.size<=h.heap.size)\/(e=.returned (.bool false)/\O (pre++[x]) h))
 (a4:W.cell? ⟨M,0,none⟩=some (.pointer (some ⟨mb,0,none⟩)))(a6:W.cell? ⟨mb,0,none⟩=some v)(Y:W.ownsRow 0 239 2 v b.length (Ze b))(h0:J [] W) :
 CallsIn F n Tryz.prog 217 #[.func (.yield l) #[] #[],.pointer (some ⟨M,0,none⟩)] W fun e h=>(∃ r,e=.returned r) /\
  ((∃ ys,ys=b/\J ys h)\/(∃ pre,pre<+:b/\O pre h)):=by
 obtain⟨a0,B,rfl⟩:=zg Y;refine CV CE rfl hF ?_ K;simp only[Tryz.ntmps217,GP,Iz,Ho,Nat.reduceAdd,Nat.reduceSub,GV,GW,Fv,Fc,Hh,IU]
 gi_wp2
 gi_loopw [10] (fun i wr=>∃ k:Nat,k<=b.length/\i=.int .i64 k/\J (b.take k) wr/\YI X W wr/\W.heap.size<=wr.heap.size)
  (fun i _=>b.length-(intOf i).toNat)
 case atStart=>exact⟨0,II _,rfl,by simpa using h0,YI.refl _ _,Io _⟩
 case round =>
  obtain⟨k,V,rfl,d,t,a7⟩:=hrel;by_cases f:k<b.length
  .have hvr:=t.own Y D
   obtain⟨g,o,hg,_,_⟩:=zv hvr (by omega);obtain⟨rfl,rfl⟩:a0=some ⟨g,0,none⟩/\B=o:=by simpa using hg
   obtain⟨Q,m1,S,G⟩:=j b[k] (Iu f);have a5:=own_cell? hvr (k*2) _ (ZM b k f).1;have E:=own_cell? hvr (k*2+1) _ (ZM b k f).2;rw[G] at E;have q:J (b.take k) (wr.alloc (.cells #[.string b[k].1,.slice Q m1 S] 239)):=hJ _ _ _ none d (DE ..) (fun r e=>by cases e);obtain⟨fn,a2,y,R,hy,T⟩:=hY (b.take k) b[k] _ q (by simp;omega);rw[G] at hy;have N:Hid (b.take (k+1)=b.take k++[b[k]]):=Hc f;have A:Hid (YI X W (wr.alloc (.cells #[.string b[k].1,.slice Q m1 S] 239))):=t.trans (fun k V=>Eg _ _ _ (by have:=hX k V;omega));have a3:=Z d;have HR:=Z T;clear q d T G
   gi_wp2
   refine HR.out.mono ?_;rintro e W3 (⟨rfl,C,I,L⟩|⟨rfl,s⟩)
   .gi_wp2
    go_roundw
    case rel=>exact⟨k+1,by omega,by simp,by rw[N.out];exact C,A.out.trans I,by have:=L;simp at this;omega⟩
    case measure=>simp[intOf];omega
   .gi_wp2
    refine EK (results_none rfl _ _ _) rfl ?_;exact⟨⟨_,rfl⟩,.inr ⟨_,⟨b.drop (k+1),by rw[<- N.out,IG]⟩,s⟩⟩
  .obtain rfl:k=b.length:=by omega
   rw[ID] at d
   gi_wp2
   go_end0
   exact⟨⟨_,rfl⟩,.inl ⟨_,rfl,d⟩⟩
def KpX(X:Nat->Prop)(W a:World):Prop:=YI X W a/\W.heap.size<=a.heap.size
theorem Mg(F:Fence)(n:Nat)(B:F.fn 217)(t:F.round=none)(I:1<=n)(f i:Nat)(v:Value)(b:List (ByteArray × Value))(X:Nat->Prop)
 (w:World)(G:b.length<4611686018427387904)(u:∀ k,X k->k<w.heap.size)(o:f<w.heap.size)(s:i<w.heap.size)(g:∀ k,v.ownBlock=some k->X k)
 (d:∀ e∈b,∃ a m c,e.2=.slice a m c)(q:w.cell? ⟨f,0,none⟩=some (.pointer (some ⟨i,0,none⟩)))(r:w.cell? ⟨i,0,none⟩=some v)(K:w.ownsRow 0 239 2 v b.length (Ze b)) :
 SeqStopsK F n Tryz.prog 217 #[.pointer (some ⟨f,0,none⟩)] (fun x:ByteArray × Value=>#[.string x.1,x.2]) (KpX X) (fun L=>L=b) (fun pre=>pre<+:b) b.length w:=by
 intro l J y W j C D E A;have h:YI X w W:=fun k h=>j.block k (u k h);exact KD F n B t I l f i v b X J y W G C (fun k h=>Hu (u k h) j.size) g d E ((j.cell (p:=⟨f,0,none⟩) o).trans q) ((j.cell (p:=⟨i,0,none⟩) s).trans r) (h.own K g) A
theorem KpX.trans{X:Nat->Prop}{A B C:World}(h:KpX X A B)(k:KpX X B C):KpX X A C:=⟨h.1.trans k.1,Im h.2 k.2⟩
theorem KpX.put{X:Nat->Prop}{w:World}(a:∀ k,X k->k<w.heap.size)(W:World)(l:Nat)(o c:Obj)(h:w.heap.size<=l)(_:W.heap[l]?=some o)(_:o.isCells=false)(_:o.isWalk=false):KpX X W (W.putObj l c) :=
 ⟨fun k b=>Ei (fun e=>by have:=a k b;omega),by simp⟩
end Go.Proofs.YtkhnggkkiefcdaaGreatDoor
namespace Go.Proofs.YtkhnggkkiefcdaaGreatDoor
open Go.RowKit
set_option maxRecDepth 100000
set_option maxHeartbeats 8000000
structure LM where
 node:Int
 keys:Keys
 hints:List (Nat × ByteArray)
def XP(node b:Int)(a:ByteArray):Int:=if (zO b&&decide (b≠node))=false then 4 else if a.size=0\/64<a.size then 3 else 0
structure Yf(B:Nat)(L:NL)(M:DM)(w:World):Prop where
 tab:YU B w
 le:B<=w.heap.size
 BF:∀ k,NFoot L M k->B<=k
theorem Yf.env{B:Nat}{L:NL}{M:DM}{w:World}(h:Yf B L M w):Env B L M w:=⟨h.tab,h.le,fun k a=>h.BF k (.inr (.inr (.inr (.inl a))))⟩
theorem Yf.step{B:Nat}{L b:NL}{d:NM}{M c:DM}{w w':World}(h:Yf B L M w)(s:NStep L M w b d c w'):Yf B b c w' :=
 ⟨h.tab.fr h.le s.fr (fun k a=>h.BF k a),Im h.le s.fr.size,fun k a=>(s.BF k a).elim (h.BF k) (fun e=>Im h.le e)⟩
theorem Yf.nil{B:Nat}{L:NL}{M:DM}{w w':World}(h:Yf B L M w)(f:Fr Nil w w'):Yf B L M w' :=
 ⟨h.tab.fr (S:=Nil) h.le f (fun _ h=>absurd h id),Im h.le f.size,h.BF⟩
def zr:Prop:=∀(B:Nat)(w:World)(v:Value)(n:Int),YU B w->ERep w v (some n)->Calls Tryz.prog 97 #[v] w fun e a=>e=.returned (.int .i64 n)/\Fr Nil w a
def ZA(e:Option Int):Int:=e.getD 0
def NM.Af(N:NM)(e:Option Int):NM:={N with readOnly:=N.readOnly||e.isSome}
theorem ZN(a:zr)(B:Nat)(L:NL)(N:NM)(M:DM)(v:Value)(x:Option Int)(w:World)(h:NRep w L N M)(g:Yf B L M w)(f:ERep w v x) :
 Calls Tryz.prog 79 #[.pointer (some ⟨L.nb,0,none⟩),v] w fun e l=>∃ r,e=.returned (.int .i64 (ZA x))/\NStep L M w r (N.Af x) M l:=by
 cases x with
 | none =>
  have u:v=.nilIface:=f;subst u;have s:N.Af none=N:=by simp[NM.Af]
  refine(Si _ w).mono ?_;rintro e l ⟨rfl,rfl⟩;exact⟨L,rfl,by rw[s];exact NStep.nil h (U _ _)⟩
 | some n =>
  have d:NStep L M w {L with mv:=.pointer none} (N.Af (some n)) M ((w.setCell ⟨L.nb,7,none⟩ (.bool true)).setCell ⟨L.nb,6,none⟩ (.pointer none)):=by
   have e:N.Af (some n)={N with readOnly:=true}:=by simp[NM.Af]
   rw[e];exact NStep.xR h
  have c:=f.xP h d;have m:=Z (a B _ v n (g.step d).tab c);have q:=Z d;have y:=h.Bi.cell;have A:=h.Bi.frozen;obtain⟨k,j⟩:=f;obtain⟨t,b,rfl⟩:=j.form;clear h g d c j;go_enter Tryz.func79,Tryz.ntmps79;go_wp2_with fail;refine m.out.mono ?_;rintro e C ⟨rfl,i⟩;have o:=Z (q.out.Bn i);clear i
  go_wp2
  go_ret;exact⟨_,rfl,o.out⟩
def NM.Bz(N:NM)(M:DM):Int × NM × DM :=
 if N.readOnly=true then(8,N,M) else(ZA (N.sync M).1,(N.sync M).2.1.Af (N.sync M).1,(N.sync M).2.2)
theorem Vr(d:zr)(B:Nat)(L:NL)(N:NM)(M:DM)(w:World)(h:NRep w L N M)(m:Yf B L M w) :
 Calls Tryz.prog 32 #[.pointer (some ⟨L.nb,0,none⟩)] w fun e x=>∃ s,e=.returned (.int .i64 (N.Bz M).1)/\NStep L M w s (N.Bz M).2.1 (N.Bz M).2.2 x:=by
 have c:w.cell? ⟨L.nb,7,none⟩=some (.bool N.readOnly):=h.Bi.cell 7;have u:w.cell? ⟨L.nb,1,none⟩=some (.pointer (some ⟨L.jb,0,none⟩)):=h.Bi.cell 1;have g:=Z h;have r:=Z m;clear h m;go_enter Tryz.func32,Tryz.ntmps32;cases hr:N.readOnly with
 | true =>
  rw[hr] at c;have a:N.Bz M=(8,N,M):=by unfold NM.Bz;rw[IC hr]
  have b:=Z a;clear hr a;go_wp2_with fail;go_ret;exact⟨L,by rw[b.out];rfl,by rw[b.out];exact NStep.nil g.out (U _ _)⟩
 | false =>
  rw[hr] at c;have a:N.Bz M=(ZA (N.sync M).1,(N.sync M).2.1.Af (N.sync M).1,(N.sync M).2.2):=by unfold NM.Bz;rw[It (by rw[hr];decide)]
  have o:N.sync M=((N.J.BE M).1,{N with J:=(N.J.BE M).2.1},(N.J.BE M).2.2):=rfl;rw[o] at a;have b:=Z a;clear hr a o;go_wp2_with fail;refine(Ve L.jb L.db N.J L.LD M w g.out.log g.out.BM).mono ?_;rintro e y ⟨A,j,rfl,k,l⟩;have i:=Z (NStep.Aj g.out l);have p:=Z k;clear k l;go_wp2_with fail;refine(ZN d B {L with LD:=j} _ _ _ _ y i.out.Bt (r.out.step i.out) p.out).mono ?_;rintro e C ⟨t,rfl,f⟩;have q:=Z (i.out.trans f);clear f
  go_wp2
  go_ret;refine⟨t,?_,?_⟩
  .rw[b.out];rfl
  .rw[b.out];exact q.out
structure Fit(N:NM)(M:DM)(H:Nat)(x:Fact):Prop where
 ok:FOk x
 log:YV N.J M H (zj x).size
 keys:N.S.keys.length<1099511627776
 hints:N.S.hints.length<1000000
 writes:N.writes<1000000000000
theorem Fit.mono{N:NM}{M:DM}{H a:Nat}{x:Fact}(h:Fit N M H x)(c:H<=a):Fit N M a x:=⟨h.ok,h.log.mono c,h.keys,h.hints,h.writes⟩
def NM.asked(N:NM)(M:DM)(x:Fact)(f:Nat):Int × NM × DM :=
 (ZA (N.change M x f).1,(N.change M x f).2.1.Af (N.change M x f).1,(N.change M x f).2.2)
def NM.AH(N:NM)(M:DM)(f:Nat):Int × NM × DM :=
 if N.readOnly=true then(8,N,M) else if N.S.hints.length=0 then(7,N,M) else N.asked M (.inr (.inr (.inr ()))) f
theorem SV(p:zr)(B:Nat)(L:NL)(N:NM)(M:DM)(w:World)(h:NRep w L N M)(D:Yf B L M w)(c:N.readOnly=false->Fit N M w.heap.size (.inr (.inr (.inr ())))) :
 Calls Tryz.prog 28 #[.pointer (some ⟨L.nb,0,none⟩)] w fun e S=>∃ f I,e=.returned (.int .i64 (N.AH M f).1)/\w.heap.size<=f/\NStep L M w I (N.AH M f).2.1 (N.AH M f).2.2 S:=by
 have o:w.cell? ⟨L.nb,7,none⟩=some (.bool N.readOnly):=h.Bi.cell 7;have Q:w.cell? ⟨L.nb,2,none⟩=some (.pointer (some ⟨L.sb,0,none⟩)):=h.Bi.cell 2;have r:=Z h;have A:=Z D;have i:=Z c;clear h D c;go_enter Tryz.func28,Tryz.ntmps28;cases hr:N.readOnly with
 | true =>
  rw[hr] at o;have d:N.AH M w.heap.size=(8,N,M):=by unfold NM.AH;rw[IC hr]
  have b:=Z d;clear hr d;go_wp2_with fail;go_ret;exact⟨w.heap.size,L,by rw[b.out];rfl,Io _,by rw[b.out];exact NStep.nil r.out (U _ _)⟩
 | false =>
  have i:=Z (i.out hr);rw[hr] at o;have u:=Z (Yw L.sb L.LS N.S w r.out.held);by_cases j:N.S.hints.length=0
  .have d:N.AH M w.heap.size=(7,N,M):=by unfold NM.AH;rw[It (by rw[hr];decide),IC j]
   have b:=Z d;have l:((N.S.hints.length:Int)==0)=true:=by simp[j]
   rw[j] at u;clear hr d j l
   go_wp2_with (refine u.out.mono ?_;rintro e q ⟨rfl,y⟩;subst q)
   go_ret;exact⟨w.heap.size,L,by rw[b.out];rfl,Io _,by rw[b.out];exact NStep.nil r.out (U _ _)⟩
  .have d:∀ f,N.AH M f=N.asked M (.inr (.inr (.inr ()))) f:=by intro f;unfold NM.AH;rw[It (by rw[hr];decide),It j]
   have b:=Z d;have l:((N.S.hints.length:Int)==0)=false:=by simpa using j
   clear hr d j
   go_wp2_with (refine u.out.mono ?_;rintro e q ⟨rfl,y⟩;subst q)
   refine(Ue B L N M _ (.inr (.inr (.inr ()))) _ w r.out A.out.env (show _=_ from rfl) i.out.ok (fun k O=>by obtain⟨v,R,e⟩:=O;simp at R) i.out.log i.out.keys i.out.hints i.out.writes).mono ?_;rintro e q ⟨f,T,J,rfl,E,C,a⟩;have s:=Z a;have t:=Z C;have G:=Z E;clear C a E;go_wp2_with fail;rw[<- s.out.same.nb];refine(ZN p B J _ _ _ _ q s.out.Bt (A.out.step s.out) t.out).mono ?_;rintro e V ⟨K,rfl,a⟩;have x:=Z (s.out.trans a);clear a
   go_wp2
   go_ret;refine⟨f,K,?_,G.out,?_⟩
   .rw[b.out];rfl
   .rw[b.out];exact x.out
theorem UJ(L:NL)(N:NM)(M:DM)(w:World)(h:NRep w L N M)(a:N.S.hints.length<1000000) :
 Calls Tryz.prog 27 #[.pointer (some ⟨L.nb,0,none⟩)] w fun e c=>∃ b,e=.returned b/\c.ownsRow 0 75 2 b N.S.hints.length (Zj N.S.hints)/\Fr Nil w c/\(∀ k,b.ownBlock=some k->w.heap.size<=k):=by
 have j:w.cell? ⟨L.nb,2,none⟩=some (.pointer (some ⟨L.sb,0,none⟩)):=h.Bi.cell 2;have d:=Z (QL L.sb L.LS N.S w h.held a);clear h;go_enter Tryz.func27,Tryz.ntmps27
 go_wp2_with (refine d.out.mono ?_;rintro e l ⟨b,rfl,f,g,i⟩)
 go_ret;exact⟨b,rfl,f,g,i⟩
theorem SW(L:NL)(N:NM)(M:DM)(a:ByteArray)(w:World)(h:NRep w L N M)(d:N.S.keys.length<1099511627776)(i:(zl N.S.keys a).length<=1000000) :
 Calls Tryz.prog 24 #[.pointer (some ⟨L.nb,0,none⟩),.string a] w fun e v=>∃ j,e=.returned (.tuple #[j,.int .i64 (if zF a=true then 0 else 2)])/\VRow v j (if zF a=true then zl N.S.keys a else [])/\Fr Nil w v/\(∀ k,j.ownBlock=some k->w.heap.size<=k):=by
 have D:w.cell? ⟨L.nb,2,none⟩=some (.pointer (some ⟨L.sb,0,none⟩)):=h.Bi.cell 2;have l:=Z (XW a w);have q:=Z h;clear h;go_enter Tryz.func24,Tryz.ntmps24;cases hb:zF a with
 | false =>
  rw[hb] at l;clear hb
  go_wp2_with (refine l.out.mono ?_;rintro e f ⟨rfl,o⟩;subst f)
  go_ret2;exact⟨_,rfl,IX w 0 _ _,U _ _,fun k d=>absurd d (by simp[Value.ownBlock])⟩
 | true =>
  rw[hb] at l;have B:=Z (XN a L.sb L.LS N.S w q.out.held d);have A:=Z (show(zl N.S.keys a).length*72<=140737488355328 by omega);clear hb i d
  go_wp2_with (refine l.out.mono ?_;rintro e f ⟨rfl,o⟩;subst f)
  refine B.out.mono ?_;rintro e f ⟨rfl,c⟩;have g:=Z c;have b:VRow f (getE L.LS.BD a) (zl N.S.keys a):=(q.out.held.nil c).getE a;have r:=Z b;clear c b;generalize getE L.LS.BD a=C at r;go_wp2_with fail;refine(Ug C _ _ f r.out (Wc _) A.out).mono ?_;rintro e E ⟨j,rfl,s,t,u⟩;have m:=Z (g.out.trans t);have x:=Z s;have y:Hid (∀ k,j.ownBlock=some k->w.heap.size<=k):=fun k d=>Im g.out.size (u k d);clear s t u
  go_wp2
  go_ret2;exact⟨_,rfl,x.out,m.out,y.out⟩
def NM.hint(N:NM)(M:DM)(b:Int)(a:ByteArray)(f:Nat):Int × NM × DM :=
 if (zO b&&decide (b≠N.self))=false then(4,N,M) else
 if a.size=0\/64<a.size then(3,N,M) else
 if N.readOnly=true then(8,N,M) else
 if 32<=N.S.hints.length then(6,N,M) else
 N.asked M (.inr (.inr (.inl (b.toNat,a)))) f
theorem TE(D:zr)(B:Nat)(L:NL)(N:NM)(M:DM)(b:Int)(a:ByteArray)(w:World)(h:NRep w L N M)(he:Yf B L M w)(u:a.size<=64->zO b=true->N.readOnly=false->Fit N M w.heap.size (.inr (.inr (.inl (b.toNat,a))))) :
 Calls Tryz.prog 31 #[.pointer (some ⟨L.nb,0,none⟩),.int .i64 b,.string a] w fun e G=>∃ f C,e=.returned (.int .i64 (N.hint M b a f).1)/\w.heap.size<=f/\NStep L M w C (N.hint M b a f).2.1 (N.hint M b a f).2.2 G:=by
 have x:w.cell? ⟨L.nb,7,none⟩=some (.bool N.readOnly):=h.Bi.cell 7;have a0:w.cell? ⟨L.nb,2,none⟩=some (.pointer (some ⟨L.sb,0,none⟩)):=h.Bi.cell 2;have t:=Z (VV L N M b w h);have s:=Z h;have HE:=Z he;have HT:=Z u;have A:=Z (Vg a);clear h he u;go_enter Tryz.func31,Tryz.ntmps31;cases ho:(zO b&&decide (b≠N.self)) with
 | false =>
  rw[ho] at t;have o:N.hint M b a w.heap.size=(4,N,M):=by unfold NM.hint;rw[IC ho]
  have i:=Z o;clear ho o
  go_wp2_with (refine t.out.mono ?_;rintro e d ⟨rfl,l⟩;subst d)
  go_ret;exact⟨w.heap.size,L,by rw[i.out];rfl,Io _,by rw[i.out];exact NStep.nil s.out (U _ _)⟩
 | true =>
  rw[ho] at t;have y:Hid (zO b=true):=by simp only[Hz] at ho;exact ho.1
  by_cases c:a.size=0\/64<a.size
  .have o:N.hint M b a w.heap.size=(3,N,M):=by unfold NM.hint;rw[It (by rw[ho];decide),IC c]
   have i:=Z o;clear ho o;by_cases J:a.toList=[]
   .clear c
    go_wp2_with (refine t.out.mono ?_;rintro e d ⟨rfl,l⟩;subst d)
    go_ret;exact⟨w.heap.size,L,by rw[i.out];rfl,Io _,by rw[i.out];exact NStep.nil s.out (U _ _)⟩
   .have h1:64<a.size:=by
     rcases c with c|c
     .rw[A.out] at c;exact absurd (IY c) J
     .exact c
    have h2:(64:Int)<(a.size:Int):=by omega
    have h3:a.toList.isEmpty=false:=by simpa using J
    clear c
    go_wp2_with (refine t.out.mono ?_;rintro e d ⟨rfl,l⟩;subst d)
    go_ret;exact⟨w.heap.size,L,by rw[i.out];rfl,Io _,by rw[i.out];exact NStep.nil s.out (U _ _)⟩
  .have J:¬a.toList=[]:=by
    intro h;apply c;left;rw[A.out,h];rfl
   have h1:¬64<a.size:=fun h=>c (.inr h);have h2:¬(64:Int)<(a.size:Int):=by omega
   have h3:a.toList.isEmpty=false:=by simpa using J
   cases hr:N.readOnly with
   | true =>
    rw[hr] at x;have o:N.hint M b a w.heap.size=(8,N,M):=by unfold NM.hint;rw[It (by rw[ho];decide),It c,IC hr]
    have i:=Z o;clear ho o c hr
    go_wp2_with (refine t.out.mono ?_;rintro e d ⟨rfl,l⟩;subst d)
    go_ret;exact⟨w.heap.size,L,by rw[i.out];rfl,Io _,by rw[i.out];exact NStep.nil s.out (U _ _)⟩
   | false =>
    rw[hr] at x;have HN:=Z (Yw L.sb L.LS N.S w s.out.held);by_cases hm:32<=N.S.hints.length
    .have o:N.hint M b a w.heap.size=(6,N,M):=by unfold NM.hint;rw[It (by rw[ho];decide),It c,It (by rw[hr];decide),IC hm]
     have i:=Z o;have a1:(32:Int)<=(N.S.hints.length:Int):=by omega
     clear ho o c hr
     go_wp2_with (first|(refine HN.out.mono ?_;rintro e d ⟨rfl,l⟩;subst d)|(refine t.out.mono ?_;rintro e d ⟨rfl,l⟩;subst d))
     go_ret;exact⟨w.heap.size,L,by rw[i.out];rfl,Io _,by rw[i.out];exact NStep.nil s.out (U _ _)⟩
    .have o:∀ f,N.hint M b a f=N.asked M (.inr (.inr (.inl (b.toNat,a)))) f:=by intro f;unfold NM.hint;rw[It (by rw[ho];decide),It c,It (by rw[hr];decide),It hm]
     have i:=Z o;have a1:¬(32:Int)<=(N.S.hints.length:Int):=by omega
     have Y:Hid ((b.toNat:Int)=b):=by
      have:=y.out;unfold zO at this;simp only[IF] at this;exact Fa this.1
     have V:=Z (HT.out (by omega) y.out hr);have R:=Z (ZE a w (by omega));clear ho o c hr
     go_wp2_with (first|(refine HN.out.mono ?_;rintro e d ⟨rfl,l⟩;subst d)|(refine t.out.mono ?_;rintro e d ⟨rfl,l⟩;subst d))
     refine R.out.mono ?_;rintro e d ⟨rfl,E⟩;have T:=Z E;have HC:Hid (∀ r Q,Fr Nil d Q->Calls Tryz.prog 80 #[.pointer (some ⟨L.nb,0,none⟩),.string r,.iface 138 (.agg #[.int .i64 b,.string a])] Q fun e G =>
      ∃ f v C,e=.returned v/\w.heap.size<=f/\ERep G v (N.change M (.inr (.inr (.inl (b.toNat,a)))) f).1/\NStep L M w C (N.change M (.inr (.inr (.inl (b.toNat,a)))) f).2.1 (N.change M (.inr (.inr (.inl (b.toNat,a)))) f).2.2 G):=by
      intro r Q f2;have p:=T.out.trans f2;have q:=V.out.mono p.size;refine(Ue B L N M r (.inr (.inr (.inl (b.toNat,a)))) _ Q (s.out.nil p) (HE.out.nil p).env (show _=_ by rw[Y.out]) q.ok (fun k hb=>by obtain⟨v,hv,e⟩:=hb;simp at hv;rcases hv with rfl|rfl <;> exact absurd e (by simp[Value.ownBlock])) q.log q.keys q.hints q.writes).mono ?_;rintro e G ⟨f,v,C,rfl,O,K,j⟩;exact⟨f,v,C,rfl,Im p.size O,K,(NStep.nil s.out p).trans j⟩
     clear E x a0;go_wp2_with fail;refine(HC.out _ _ (by exact zd)).mono ?_;rintro e w3 ⟨f,v1,L1,rfl,O,K,j⟩;have I:=Z j;have S:=Z K;have HF:=Z O;clear K j O;go_wp2_with fail;rw[<- I.out.same.nb];refine(ZN D B L1 _ _ _ _ w3 I.out.Bt (HE.out.step I.out) S.out).mono ?_;rintro e w4 ⟨L2,rfl,j⟩;have X:=Z (I.out.trans j);clear j
     go_wp2
     go_ret;refine⟨f,L2,?_,HF.out,?_⟩
     .rw[i.out];rfl
     .rw[i.out];exact X.out
theorem Oq(L:NL)(N:NM)(M:DM)(w:World)(h:NRep w L N M) :
 Calls Tryz.prog 39 #[.pointer (some ⟨L.nb,0,none⟩)] w fun e G=>e=.returned (.agg #[.bool N.readOnly,.int .i64 N.S.keys.length,.int .i64 N.S.hints.length])/\Fr Nil w G:=by
 have a:Fr Nil w (w.alloc (Obj.cells #[.bool false,.int .i64 0,.int .i64 0] 81)):=(U _ _).alloc _;have c:=Blk.new w [.bool false,.int .i64 0,.int .i64 0] 81;have i:=h.nil a;have A:=Z (fun p (f:Fr Nil w p)=>V5 L.sb L.LS N.S p (h.nil f).held);have C:=Z (fun p (f:Fr Nil w p)=>Yw L.sb L.LS N.S p (h.nil f).held);have j:=Z a;have y:=Z c;have x:=Z i;clear h a c i;go_enter Tryz.func39,Tryz.ntmps39;go_wp2_with fail;generalize b:w.alloc (Obj.cells #[.bool false,.int .i64 0,.int .i64 0] 81)=g;have c:Blk g w.heap.size [.bool false,.int .i64 0,.int .i64 0] 81:=by rw[<- b];exact y.out
 have i:NRep g L N M:=by rw[<- b];exact x.out
 have a:Fr Nil w g:=by rw[<- b];exact j.out
 have r:=Z a;have E:g.cell? ⟨L.nb,7,none⟩=some (.bool N.readOnly):=i.Bi.cell 7;have D:g.cell? ⟨L.nb,2,none⟩=some (.pointer (some ⟨L.sb,0,none⟩)):=i.Bi.cell 2;have t:=c.cell;have u:=c.frozen;have q:=Z c;have B:Hid (w.heap.size<=w.heap.size):=Io _;clear b i a j y x c;refine GD 15 (by kernel_rfl) (by kernel_rfl) ?_;simp only[Hv,Gs,GC,Gr]
 iterate 8 still_step
 still_call (A.out _ (r.out.trans (by exact zd)))
 iterate 4 still_step
 still_call (C.out _ (r.out.trans (by exact zd)))
 iterate 1 still_step
 refine FX ?_;go_wp2_with fail;have m:=((q.out.set 0 (.bool N.readOnly)).set 1 (.int .i64 N.S.keys.length)).set 2 (.int .i64 N.S.hints.length);have o:Fr Nil w (((g.setCell ⟨w.heap.size,0,none⟩ (.bool N.readOnly)).setCell ⟨w.heap.size,1,none⟩ (.int .i64 N.S.keys.length)).setCell ⟨w.heap.size,2,none⟩ (.int .i64 N.S.hints.length)) :=
  Fr.set (Fr.set (Fr.set r.out (fun h=>by simp only at h;omega) _) (fun h=>by simp only at h;omega) _) (fun h=>by simp only at h;omega) _
 have l:=Z o;have d:=m.cell;simp only[Hd,Hf] at d;clear t u o m;generalize ((g.setCell ⟨w.heap.size,0,none⟩ (.bool N.readOnly)).setCell ⟨w.heap.size,1,none⟩ (.int .i64 N.S.keys.length)).setCell ⟨w.heap.size,2,none⟩ (.int .i64 N.S.hints.length)=I at d l |-;have s:∀ k,I.drew.cell? ⟨w.heap.size,k,none⟩=[Value.bool N.readOnly,.int .i64 N.S.keys.length,.int .i64 N.S.hints.length][k]?:=d;refine EK (v:=.agg #[.bool N.readOnly,.int .i64 N.S.keys.length,.int .i64 N.S.hints.length]) (by simp[results,Tryz.results39,go_sem,s,Tryz.isAgg81,Tryz.sizeOf81]) rfl ⟨rfl,l.out.drew⟩
def NM.replace(N:NM)(M:DM)(a:ByteArray)(b:NM->Nat->List Ver)(f g:Nat):Nat × Int × NM × DM :=
 match (N.next M f).1 with
 | some n=>(0,n,(N.next M f).2.2.1.Af (some n),(N.next M f).2.2.2)
 | none =>
  match ((N.next M f).2.2.1.change (N.next M f).2.2.2 (.inr (.inl (a,b (N.next M f).2.2.1 (N.next M f).2.1))) g).1 with
  | some n=>(0,n,((N.next M f).2.2.1.asked (N.next M f).2.2.2 (.inr (.inl (a,b (N.next M f).2.2.1 (N.next M f).2.1))) g).2)
  | none=>((N.next M f).2.1,0,((N.next M f).2.2.1.asked (N.next M f).2.2.2 (.inr (.inl (a,b (N.next M f).2.2.1 (N.next M f).2.1))) g).2)
theorem QT(N:NM):N.Af none=N:=by simp[NM.Af]
def Gives(L:NL)(N:NM)(M:DM)(w:World)(c:Nat)(a:Array Value)(h:NM->Nat->List Ver):Prop :=
 ∀ f,w.heap.size<=f->∀ (g:NL) (b:World),NStep L M w g (N.next M f).2.2.1 (N.next M f).2.2.2 b->Calls Tryz.prog c (#[.int .i64 (N.next M f).2.1]++a) b fun e d=>∃ v,e=.returned v/\VRow d v (h (N.next M f).2.2.1 (N.next M f).2.1)/\Fr Nil b d/\(∀ k,v.ownBlock=some k->w.heap.size<=k)
theorem Lt(N:NM)(M:DM)(f:Nat):(N.next M f).2.2.1.S.keys=N.S.keys/\(N.next M f).2.2.1.S.hints=N.S.hints/\(N.next M f).2.2.1.self=N.self/\(N.next M f).2.2.1.readOnly=N.readOnly/\(N.next M f).2.2.1.every=N.every/\(N.next M f).2.2.1.writes=N.writes:=by
 have a:∀ k,(N.write M (.inl k) f).2.1.S.keys=N.S.keys/\(N.write M (.inl k) f).2.1.S.hints=N.S.hints:=by
  intro k;unfold NM.write;simp only;split <;> exact⟨rfl,rfl⟩
 have b:(N.BG M f).2.1.S.keys=N.S.keys/\(N.BG M f).2.1.S.hints=N.S.hints/\(N.BG M f).2.1.self=N.self/\(N.BG M f).2.1.readOnly=N.readOnly/\(N.BG M f).2.1.every=N.every/\(N.BG M f).2.1.writes=N.writes:=by
  unfold NM.BG;split
  .exact⟨(a _).1,(a _).2,rfl,rfl,rfl,rfl⟩
  .exact⟨(a _).1,(a _).2,rfl,rfl,rfl,rfl⟩
 unfold NM.next;split
 .exact⟨rfl,rfl,rfl,rfl,rfl,rfl⟩
 .split
  .exact b
  .exact b
def Apart2(N:NM)(M:DM)(f g:Nat):Prop:=f=g->f∉(N.next M f).2.2.2.ids
theorem Xn(N:NM)(M:DM){f g:Nat}(h:f≠g):Apart2 N M f g:=fun e=>absurd e h
theorem VW(Q:zr)(B:Nat)(L:NL)(N:NM)(M:DM)(a:ByteArray)(l:NM->Nat->List Ver)(c:Nat)(K:Array Value)(w:World)(h:NRep w L N M)(he:Yf B L M w)(C:Gives L N M w c K l)(c3:∀ xs w,Sem.run Tryz.prog (callFunc c xs) w=.ok (.enter c xs) w)
 (a6:a.size<=1000000000)(T:YV N.J M w.heap.size (zj (.inl (N.given+16))).size)(S:N.S.keys.length<1099511627776)(hh:N.S.hints.length<1000000)(a5:N.given<1000000000000)
 (R:∀ f,w.heap.size<=f->(N.next M f).1=none->∀ H,w.heap.size<=H->(∀ i∈(N.next M f).2.2.2.ids,i<H)->Fit (N.next M f).2.2.1 (N.next M f).2.2.2 H (.inr (.inl (a,l (N.next M f).2.2.1 (N.next M f).2.1)))) :
 Calls Tryz.prog 70 #[.pointer (some ⟨L.nb,0,none⟩),.string a,.func (.func c) #[] K] w fun e w'=>∃ f g L',e=.returned (.tuple #[.int .i64 (N.replace M a l f g).1,.int .i64 (N.replace M a l f g).2.1])/\w.heap.size<=f/\w.heap.size<=g/\Apart2 N M f g/\NStep L M w L' (N.replace M a l f g).2.2.1 (N.replace M a l f g).2.2.2 w':=by
 have HX:=Z (M8 B L N M w h he.env T S hh a5);have HE:=Z he;have HH:=Z h;have HG:=Z C;have a1:=Z R;clear h he C T S hh a5 R;go_enter Tryz.func70,Tryz.ntmps70;go_wp2_with fail;refine HX.out.mono ?_;rintro e w1 ⟨f,v1,L1,rfl,hf,O,d⟩;have q:=Z d;have HF:=Z hf;cases hx:(N.next M f).1 with
 | some n =>
  have hp:∀ g,N.replace M a l f g=(0,n,(N.next M f).2.2.1.Af (some n),(N.next M f).2.2.2):=by intro g;unfold NM.replace;rw[hx]
  have A:=Z hp;rw[hx] at O;have b3:=Z O;obtain⟨k,S⟩:=O;obtain⟨t,b,rfl⟩:=S.form;generalize (N.next M f).2.2.1=j at d q A;generalize (N.next M f).2.2.2=o at d q A;generalize (N.next M f).2.1=m;clear hx hp S d hf;go_wp2_with fail;rw[<- q.out.same.nb];refine(ZN Q B L1 _ _ _ _ w1 q.out.Bt (HE.out.step q.out) b3.out).mono ?_;rintro e w2 ⟨L2,rfl,d⟩;have I:=Z (q.out.trans d);clear d
  go_wp2
  go_ret2;refine⟨f,f+1,L2,?_,HF.out,Gv HF.out,Xn N M (by omega),?_⟩
  .rw[A.out];rfl
  .rw[A.out];exact I.out
 | none =>
  rw[hx] at O;have hv:v1=.nilIface:=O;subst hv;have a8:∀ g n,((N.next M f).2.2.1.change (N.next M f).2.2.2 (.inr (.inl (a,l (N.next M f).2.2.1 (N.next M f).2.1))) g).1=some n->N.replace M a l f g=(0,n,((N.next M f).2.2.1.asked (N.next M f).2.2.2 (.inr (.inl (a,l (N.next M f).2.2.1 (N.next M f).2.1))) g).2):=by intro g n h;unfold NM.replace;rw[hx];simp only;rw[h]
  have a7:∀ g,((N.next M f).2.2.1.change (N.next M f).2.2.2 (.inr (.inl (a,l (N.next M f).2.2.1 (N.next M f).2.1))) g).1=none->N.replace M a l f g=((N.next M f).2.1,0,((N.next M f).2.2.1.asked (N.next M f).2.2.2 (.inr (.inl (a,l (N.next M f).2.2.1 (N.next M f).2.1))) g).2):=by intro g h;unfold NM.replace;rw[hx];simp only;rw[h]
  have G:=Z a8;have E:=Z a7;have HT:=Z (a1.out f hf hx w1.heap.size d.fr.size (fun i hi=>(d.Bt.BM.files i hi).lt));have a4:∀ g,w1.heap.size<=g->Apart2 N M f g:=fun g C e hi=>by have:=(d.Bt.BM.files f hi).lt;omega
  have b1:=Z a4;have D:=Z (HG.out f hf);generalize (N.next M f).2.2.1=j at d q G E HT D;generalize (N.next M f).2.2.2=o at d q G E HT D;generalize (N.next M f).2.1=m at G E HT D;have b2:=Z (ZE a w1 a6);clear O hx d hf a8 a7 a4;go_wp2_with fail;refine b2.out.mono ?_;rintro e w2 ⟨rfl,J⟩;have I:=Z (q.out.Bn J);have b8:=Z J.size;have b5:=Z (D.out L1 w2 I.out);have c0:=Z (Im q.out.fr.size J.size);clear J;go_wp2_with fail;refine b5.out.mono ?_;rintro e w3 ⟨v3,rfl,u,X,V⟩;have b6:=Z (I.out.Bn X);have a3:=Z (Im b8.out X.size);have HC:Hid (∀ y w4,Fr Nil w3 w4->Calls Tryz.prog 80 #[.pointer (some ⟨L.nb,0,none⟩),.string y,.iface 193 (.agg #[.string a,v3])] w4 fun e w' =>
   ∃ g v L',e=.returned v/\w1.heap.size<=g/\ERep w' v (j.change o (.inr (.inl (a,l j m))) g).1/\NStep L M w L' (j.change o (.inr (.inl (a,l j m))) g).2.1 (j.change o (.inr (.inl (a,l j m))) g).2.2 w'):=by
   intro y w4 f4;have a9:=b6.out.Bn f4;have s:=HT.out.mono (Im a3.out f4.size);have Y:VRow w4 v3 (l j m):=VRow.fr u f4 (fun _ _=>id);rw[<- q.out.same.nb];refine(Vf B L M w L1 j o y (.inr (.inl (a,l j m))) _ w4 a9 (HE.out.step a9).env ⟨v3,rfl,Y⟩ s.ok (fun k hb=>?_) s.log s.keys s.hints s.writes).mono ?_
   .obtain⟨v,hv,e⟩:=hb
    simp at hv;rcases hv with rfl|rfl
    .exact absurd e (by simp[Value.ownBlock])
    .exact .inr (V k e)
   .rintro e w' ⟨g,v,L',rfl,C,O,d⟩
    exact⟨g,v,L',rfl,Im (Im a3.out f4.size) C,O,d⟩
  obtain⟨c1,c2,b0⟩:=zg u;rw[b0] at HC |-;clear u X V b0;go_wp2_with fail;refine(HC.out _ _ (by exact zd)).mono ?_;rintro e w5 ⟨g,v5,L5,rfl,C,p,x⟩;have a2:=Z (Im q.out.fr.size C);have a0:=Z (b1.out g C);have r:=Z x;cases hc:(j.change o (.inr (.inl (a,l j m))) g).1 with
  | some n =>
   have A:=Z (G.out g n hc);rw[hc] at p;have b4:=Z p;have HA:Hid ((j.asked o (.inr (.inl (a,l j m))) g).2=((j.change o (.inr (.inl (a,l j m))) g).2.1.Af (some n),(j.change o (.inr (.inl (a,l j m))) g).2.2)):=by unfold NM.asked;rw[hc];exact rfl
   obtain⟨k,S⟩:=p;obtain⟨t,b,rfl⟩:=S.form;clear hc S x C;go_wp2_with fail;rw[<- r.out.same.nb];refine(ZN Q B L5 _ _ _ _ w5 r.out.Bt (HE.out.step r.out) b4.out).mono ?_;rintro e w6 ⟨L6,rfl,d⟩;have b7:=Z (r.out.trans d);clear d
   go_wp2
   go_ret2;refine⟨f,g,L6,?_,HF.out,a2.out,a0.out,?_⟩
   .rw[A.out];rfl
   .rw[A.out,HA.out];exact b7.out
  | none =>
   have A:=Z (E.out g hc);rw[hc] at p;have b9:v5=.nilIface:=p;subst b9;have ha:(j.asked o (.inr (.inl (a,l j m))) g).2=((j.change o (.inr (.inl (a,l j m))) g).2.1,(j.change o (.inr (.inl (a,l j m))) g).2.2):=by
    show((j.change o (.inr (.inl (a,l j m))) g).2.1.Af _,_)=_;rw[hc,QT]
   have HA:=Z ha;clear hc x C p ha;go_wp2_with fail;go_ret2;refine⟨f,g,L5,?_,HF.out,a2.out,a0.out,?_⟩
   .rw[A.out];rfl
   .rw[A.out,HA.out];exact r.out
theorem Lu(a:Array Value)(w:World):Sem.run Tryz.prog (callFunc 82 a) w=.ok (.enter 82 a) w:=by kernel_rfl
theorem I4(a:Array Value)(w:World):Sem.run Tryz.prog (callFunc 71 a) w=.ok (.enter 71 a) w:=by kernel_rfl
structure VE(N:NM)(M:DM)(H:Nat)(key:ByteArray)(vs:NM->Nat->List Ver):Prop where
 log:YV N.J M H (zj (.inl (N.given+16))).size
 keys:N.S.keys.length<1099511627776
 hints:N.S.hints.length<1000000
 given:N.given<1000000000000
 fact:∀ f,H<=f->(N.next M f).1=none->∀ H',H<=H'->(∀ i∈(N.next M f).2.2.2.ids,i<H')->Fit (N.next M f).2.2.1 (N.next M f).2.2.2 H' (.inr (.inl (key,vs (N.next M f).2.2.1 (N.next M f).2.1)))
def NM.delete(N:NM)(M:DM)(a:ByteArray)(f g:Nat):Nat × Int × NM × DM :=
 if zF a=false then(0,2,N,M) else if N.readOnly=true then(0,8,N,M) else N.replace M a (fun _ _=>[]) f g
theorem WP(q:zr)(B:Nat)(L:NL)(N:NM)(M:DM)(a:ByteArray)(w:World)(h:NRep w L N M)(v:Yf B L M w)(d:zF a=true->N.readOnly=false->VE N M w.heap.size a (fun _ _=>[])) :
 Calls Tryz.prog 30 #[.pointer (some ⟨L.nb,0,none⟩),.string a] w fun e I=>∃ f g E,e=.returned (.tuple #[.int .i64 (N.delete M a f g).1,.int .i64 (N.delete M a f g).2.1])/\w.heap.size<=f/\w.heap.size<=g/\Apart2 N M f g/\NStep L M w E (N.delete M a f g).2.2.1 (N.delete M a f g).2.2.2 I:=by
 have p:w.cell? ⟨L.nb,7,none⟩=some (.bool N.readOnly):=h.Bi.cell 7;have o:=Z (XW a w);have t:=Z h;have x:=Z v;have D:=Z d;clear h v d;go_enter Tryz.func30,Tryz.ntmps30;cases hb:zF a with
 | false =>
  rw[hb] at o;have i:N.delete M a w.heap.size (w.heap.size+1)=(0,2,N,M):=by unfold NM.delete;rw[IC hb]
  have c:=Z i;clear hb i
  go_wp2_with (refine o.out.mono ?_;rintro e l ⟨rfl,r⟩;subst l)
  go_ret2;exact⟨w.heap.size,w.heap.size+1,L,by rw[c.out];rfl,Io _,GA _,Xn N M (by omega),by rw[c.out];exact NStep.nil t.out (U _ _)⟩
 | true =>
  rw[hb] at o;have j:a.size<=32:=by unfold zF at hb;simp only[IF] at hb;exact hb.2
  have u:=Z j;cases hr:N.readOnly with
  | true =>
   rw[hr] at p;have i:N.delete M a w.heap.size (w.heap.size+1)=(0,8,N,M):=by unfold NM.delete;rw[It (by rw[hb];decide),IC hr]
   have c:=Z i;clear hb i j hr
   go_wp2_with (refine o.out.mono ?_;rintro e l ⟨rfl,r⟩;subst l)
   go_ret2;exact⟨w.heap.size,w.heap.size+1,L,by rw[c.out];rfl,Io _,GA _,Xn N M (by omega),by rw[c.out];exact NStep.nil t.out (U _ _)⟩
  | false =>
   have b:=Z (D.out hb hr);rw[hr] at p;have i:∀ f g,N.delete M a f g=N.replace M a (fun _ _=>[]) f g:=by intro f g;unfold NM.delete;rw[It (by rw[hb];decide),It (by rw[hr];decide)]
   have c:=Z i;clear hb i j hr
   go_wp2_with (refine o.out.mono ?_;rintro e l ⟨rfl,r⟩;subst l)
   refine(VW q B L N M a (fun _ _=>[]) 82 #[] w t.out x.out ?_ Lu (Im u.out (by decide)) b.out.log b.out.keys b.out.hints b.out.given b.out.fact).mono ?_
   .intro f0 _ L1 l _
    refine(RA (.int .i64 (N.next M f0).2.1) l).mono ?_;rintro e J ⟨rfl,rfl⟩;exact⟨_,rfl,IX _ 0 _ _,U _ _,fun k G=>absurd G (by simp[Value.ownBlock])⟩
   .rintro e J ⟨f,g,L2,rfl,hf,hg,hap,hst⟩
    have y:=Z hf;have A:=Z hg;have s:=Z hap;have C:=Z hst;clear hf hg hap hst
    go_wp2
    go_ret2;exact⟨f,g,L2,by rw[c.out];rfl,y.out,A.out,s.out,by rw[c.out];exact C.out⟩
def putV(a b:ByteArray)(N:NM)(n:Nat):List Ver :=
 [{node:=N.self,seq:=n,o0:=grV (zl N.S.keys a) 0,o1:=grV (zl N.S.keys a) 1,o2:=grV (zl N.S.keys a) 2,o3:=grV (zl N.S.keys a) 3,value:=b,gone:=false}]
theorem Mh(L:NL)(N:NM)(M:DM)(b a:ByteArray)(C D E n:Nat)(w:World)(h:NRep w L N M)(o:Blk w C [.pointer (some ⟨L.nb,0,none⟩)] 41)(p:Blk w D [.string b] 9)(q:Blk w E [.string a] 9)
 (B:N.S.keys.length<1099511627776)(g:∀ u∈zl N.S.keys b,Zt u.node)(j:a.size<=1000000000) :
 Calls Tryz.prog 71 #[.int .i64 n,.pointer (some ⟨C,0,none⟩),.pointer (some ⟨D,0,none⟩),.pointer (some ⟨E,0,none⟩)] w fun e c=>∃ v,e=.returned v/\VRow c v (putV b a N n)/\Fr Nil w c/\(∀ k,v.ownBlock=some k->w.heap.size<=k):=by
 have l:Hid (∀ c,Fr Nil w c->c.cell? ⟨C,0,none⟩=some (.pointer (some ⟨L.nb,0,none⟩))/\c.cell? ⟨D,0,none⟩=some (.string b)/\c.cell? ⟨E,0,none⟩=some (.string a)/\c.cell? ⟨L.nb,0,none⟩=some (.int .i64 N.self)/\c.cell? ⟨L.nb,2,none⟩=some (.pointer (some ⟨L.sb,0,none⟩))) :=
  fun c f=>⟨(o.fr f id).cell 0,(p.fr f id).cell 0,(q.fr f id).cell 0,(h.Bi.fr f id).cell 0,(h.Bi.fr f id).cell 2⟩
 have R:=Z (fun c (f:Fr Nil w c)=>XN b L.sb L.LS N.S c (h.held.nil f) B);have Q:=Z (fun c (f:Fr Nil w c)=>Sj (getE L.LS.BD b) (zl N.S.keys b) g c ((h.held.nil f).getE b));have K:=Z (fun c=>ZE a c j);obtain⟨S,T,V,X,Y⟩:=l.out w (U _ _);clear h o p q B g j;go_enter Tryz.func71,Tryz.ntmps71;go_wp2_with fail
 go_region_held3 (fun c=>c.cell? ⟨C,0,none⟩=some (.pointer (some ⟨L.nb,0,none⟩))/\c.cell? ⟨D,0,none⟩=some (.string b)/\c.cell? ⟨E,0,none⟩=some (.string a)/\c.cell? ⟨L.nb,0,none⟩=some (.int .i64 N.self)/\c.cell? ⟨L.nb,2,none⟩=some (.pointer (some ⟨L.sb,0,none⟩))) (first|assumption|go_keep|exact l.out _ zd)
  (first
  | (go_at_call 72;refine(Q.out _ zd).mono ?_;rintro e I ⟨rfl,t⟩;have x:Fr Nil w I:=Fr.trans zd t;have a1:=l.out I x;clear t)
  | (go_at_call 74;refine(K.out _).mono ?_;rintro e wc ⟨rfl,s⟩;have d:Fr Nil w wc:=Fr.trans zd s;have a0:=l.out wc d;clear s)
  | (go_at_call 73;refine(R.out _ zd).mono ?_;rintro e J ⟨rfl,y⟩;have A:Fr Nil w J:=Fr.trans zd y;have a2:=l.out J A;clear y))
 have r:=Blk.new wc [.int .i64 N.self,.int .i64 n,.int .i64 (grV (zl N.S.keys b) 0),.int .i64 (grV (zl N.S.keys b) 1),.int .i64 (grV (zl N.S.keys b) 2),.int .i64 (grV (zl N.S.keys b) 3),.string a,.bool false] 37;have i:VRow _ (.slice (some ⟨wc.heap.size,0,none⟩) 1 1) (putV b a N n):=Yi (cap:=1) r (Io _) (by decide) rfl rfl;have m:=Z i;have O:=Z (d.alloc (.cells #[.int .i64 N.self,.int .i64 n,.int .i64 (grV (zl N.S.keys b) 0),.int .i64 (grV (zl N.S.keys b) 1),.int .i64 (grV (zl N.S.keys b) 2),.int .i64 (grV (zl N.S.keys b) 3),.string a,.bool false] 37));have G:=Z d.size;clear r i
 go_wp2
 go_ret;exact⟨_,rfl,m.out,O.out,fun k B=>by simp[Value.ownBlock] at B;subst B;exact G.out⟩
theorem Ww(w:World)(a:Obj):(w.alloc a).heap.size=w.heap.size+1:=Array.size_push ..
theorem VE.mono{N:NM}{M:DM}{H e:Nat}{a:ByteArray}{o:NM->Nat->List Ver}(h:VE N M H a o)(c:H<=e):VE N M e a o :=
 ⟨h.log.mono c,h.keys,h.hints,h.given,fun f y A q r=>h.fact f (Im c y) A q (Im c r)⟩
def NM.put(N:NM)(M:DM)(b a:ByteArray)(f g:Nat):Nat × Int × NM × DM :=
 if zF b=false then(0,2,N,M) else if 128<a.size then(0,3,N,M) else if N.readOnly=true then(0,8,N,M) else N.replace M b (putV b a) f g
theorem Ui(K:zr)(B:Nat)(L:NL)(N:NM)(M:DM)(b a:ByteArray)(w:World)(h:NRep w L N M)(he:Yf B L M w)(o:∀ u∈zl N.S.keys b,Zt u.node)
 (y:zF b=true->a.size<=128->N.readOnly=false->VE N M w.heap.size b (putV b a)) :
 Calls Tryz.prog 22 #[.pointer (some ⟨L.nb,0,none⟩),.string b,.string a] w fun e w'=>∃ f g L',e=.returned (.tuple #[.int .i64 (N.put M b a f g).1,.int .i64 (N.put M b a f g).2.1])/\w.heap.size<=f/\w.heap.size<=g/\Apart2 N M f g/\NStep L M w L' (N.put M b a f g).2.2.1 (N.put M b a f g).2.2.2 w':=by
 have I:=Z h;have HE:=Z he;have HT:=Z y;have X:=Z o;clear h he y o;go_enter Tryz.func22,Tryz.ntmps22;go_wp2_with fail;have C:=Blk.new w [.pointer (some ⟨L.nb,0,none⟩)] 41;have x:=Blk.new (w.alloc (.cells #[.pointer (some ⟨L.nb,0,none⟩)] 41)) [.string b] 9;have D:=Blk.new ((w.alloc (.cells #[.pointer (some ⟨L.nb,0,none⟩)] 41)).alloc (.cells #[.string b] 9)) [.string a] 9;have r:Fr Nil (w.alloc (.cells #[.pointer (some ⟨L.nb,0,none⟩)] 41)) (((w.alloc (.cells #[.pointer (some ⟨L.nb,0,none⟩)] 41)).alloc (.cells #[.string b] 9)).alloc (.cells #[.string a] 9)):=((U _ _).alloc _).alloc _;have f2:Fr Nil ((w.alloc (.cells #[.pointer (some ⟨L.nb,0,none⟩)] 41)).alloc (.cells #[.string b] 9)) (((w.alloc (.cells #[.pointer (some ⟨L.nb,0,none⟩)] 41)).alloc (.cells #[.string b] 9)).alloc (.cells #[.string a] 9)):=(U _ _).alloc _;have R:Fr Nil w (((w.alloc (.cells #[.pointer (some ⟨L.nb,0,none⟩)] 41)).alloc (.cells #[.string b] 9)).alloc (.cells #[.string a] 9)):=((U _ _).alloc _).trans r;have s1:(w.alloc (.cells #[.pointer (some ⟨L.nb,0,none⟩)] 41)).heap.size=w.heap.size+1:=Ww _ _;have s2:((w.alloc (.cells #[.pointer (some ⟨L.nb,0,none⟩)] 41)).alloc (.cells #[.string b] 9)).heap.size=w.heap.size+1+1:=by rw[Ww,Ww]
 have C:=C.fr r id;have x:=x.fr f2 id;rw[s1] at x;rw[s2] at D;clear r f2 s1 s2;generalize ((w.alloc (.cells #[.pointer (some ⟨L.nb,0,none⟩)] 41)).alloc (.cells #[.string b] 9)).alloc (.cells #[.string a] 9)=A at C x D R |-;have c:=Z R;have a9:A.cell? ⟨w.heap.size,0,none⟩=some (.pointer (some ⟨L.nb,0,none⟩)):=C.cell 0;have a4:A.cell? ⟨w.heap.size+1,0,none⟩=some (.string b):=x.cell 0;have a5:A.cell? ⟨w.heap.size+1+1,0,none⟩=some (.string a):=D.cell 0;generalize w.heap.size+1+1=b3 at D a5 |-;generalize w.heap.size+1=b2 at x a4 |-;have HA:=Z C;have HB:=Z x;have HC:=Z D;have Y:=Z (I.out.nil R);have J:A.cell? ⟨L.nb,7,none⟩=some (.bool N.readOnly):=Y.out.Bi.cell 7;have Q:=Z (XW b A);clear C x D R;cases hb:zF b with
 | false =>
  rw[hb] at Q;have p:N.put M b a w.heap.size (w.heap.size+1)=(0,2,N,M):=by unfold NM.put;rw[IC hb]
  have j:=Z p;clear hb p;refine Q.out.mono ?_;rintro e E ⟨rfl,a7⟩;subst E
  go_wp2
  go_ret2;exact⟨w.heap.size,w.heap.size+1,L,by rw[j.out];rfl,Io _,GA _,Xn N M (by omega),by rw[j.out];exact NStep.nil I.out c.out⟩
 | true =>
  rw[hb] at Q;have q:b.size<=32:=by unfold zF at hb;simp only[IF] at hb;exact hb.2
  have V:=Z q;refine Q.out.mono ?_;rintro e E ⟨rfl,a7⟩;subst E;by_cases hv:128<a.size
  .have p:N.put M b a w.heap.size (w.heap.size+1)=(0,3,N,M):=by unfold NM.put;rw[It (by rw[hb];decide),IC hv]
   have j:=Z p;have a6:(128:Int)<(a.size:Int):=by omega
   clear hb p q
   go_wp2
   go_ret2;exact⟨w.heap.size,w.heap.size+1,L,by rw[j.out];rfl,Io _,GA _,Xn N M (by omega),by rw[j.out];exact NStep.nil I.out c.out⟩
  .have a6:¬(128:Int)<(a.size:Int):=by omega
   cases hr:N.readOnly with
   | true =>
    rw[hr] at J;have p:N.put M b a w.heap.size (w.heap.size+1)=(0,8,N,M):=by unfold NM.put;rw[It (by rw[hb];decide),It hv,IC hr]
    have j:=Z p;clear hb p q hr
    go_wp2
    go_ret2;exact⟨w.heap.size,w.heap.size+1,L,by rw[j.out];rfl,Io _,GA _,Xn N M (by omega),by rw[j.out];exact NStep.nil I.out c.out⟩
   | false =>
    rw[hr] at J;have p:∀ f g,N.put M b a f g=N.replace M b (putV b a) f g:=by intro f g;unfold NM.put;rw[It (by rw[hb];decide),It hv,It (by rw[hr];decide)]
    have j:=Z p;have G:=Z (HT.out hb (by omega) hr);have a0:Hid (a.size<=1000000000):=by show _<=_;omega
    clear hb p q hr;have T:Hid (Gives L N M A 71 #[.pointer (some ⟨w.heap.size,0,none⟩),.pointer (some ⟨b2,0,none⟩),.pointer (some ⟨b3,0,none⟩)] (putV b a)):=by
     intro r a8 L1 E s;have l:=(Lt N M r).1;have d:∀ {k t},Ty A k t->t≠123->t≠197->t≠161->t≠239->t≠75->¬DTy t->t≠201->¬NFoot L M k:=fun hk q1 q2 q3 q4 q5 q6 q7=>Y.out.apart hk q1 q2 q3 q4 q5 q6 q7;have a1:Blk E w.heap.size [.pointer (some ⟨L1.nb,0,none⟩)] 41:=by
      rw[s.same.nb];exact HA.out.fr s.fr (d HA.out.ty (by decide) (by decide) (by decide) (by decide) (by decide) (by unfold DTy;decide) (by decide))
     have a2:=HB.out.fr s.fr (d HB.out.ty (by decide) (by decide) (by decide) (by decide) (by decide) (by unfold DTy;decide) (by decide));have a3:=HC.out.fr s.fr (d HC.out.ty (by decide) (by decide) (by decide) (by decide) (by decide) (by unfold DTy;decide) (by decide));refine(Mh L1 (N.next M r).2.2.1 (N.next M r).2.2.2 b a w.heap.size b2 b3 (N.next M r).2.1 E s.Bt a1 a2 a3 (by rw[l];exact G.out.keys) (by rw[l];exact X.out) a0.out).mono ?_;rintro e w2 ⟨v,rfl,h1,h2,h3⟩;exact⟨v,rfl,h1,h2,fun k hk=>Im s.fr.size (h3 k hk)⟩
    have i:=Z (G.out.mono c.out.size);go_wp2_with fail;refine(VW K B L N M b (putV b a) 71 _ A Y.out (HE.out.nil c.out) T.out I4 (Im V.out (by decide)) i.out.log i.out.keys i.out.hints i.out.given i.out.fact).mono ?_;rintro e w2 ⟨f,g,L2,rfl,hf,hg,d,O⟩;have S:=Z d;have HF:=Z (Im c.out.size hf);have HG:=Z (Im c.out.size hg);have HS:=Z ((NStep.nil I.out c.out).trans O);clear hf hg d O
    go_wp2
    go_ret2;exact⟨f,g,L2,by rw[j.out];rfl,HF.out,HG.out,S.out,by rw[j.out];exact HS.out⟩
def Zu(l:List Ver)(v:Ver):List Ver:=if v.gone=true then zC l v else withV (zC l v) v
def NM.accept(N:NM)(M:DM)(a:ByteArray)(v:Ver)(f:Nat):Int × NM × DM :=
 if zF a=false then(2,N,M) else
 if 128<v.value.size then(3,N,M) else
 if foreign N.self v=false then(5,N,M) else
 if N.readOnly=true then(8,N,M) else
 if (zl N.S.keys a).any v.BQ=true then(0,N,M) else
 if v.gone=false/\4<=(zC (zl N.S.keys a) v).length then(6,N,M) else
 if v.gone=true/\(zC (zl N.S.keys a) v).length=(zl N.S.keys a).length then(0,N,M) else
 N.asked M (.inr (.inl (a,Zu (zl N.S.keys a) v))) f
theorem Uj{self:Nat}{v:Ver}(h:foreign self v=true):Zt v.node:=by
 unfold foreign at h;simp only[Hz] at h;have:=h.2.2.1.1;unfold zO at this
 simpa [Zt] using this
theorem SX(l:List Ver)(v:Ver):(zC l v).length<=l.length:=List.length_filter_le ..
theorem SY{l:List Ver}(h:Yx l)(v:Ver):Yx (zC l v):=by
 unfold Yx Asc zC at *;exact h.sublist (List.filter_sublist.map _)
theorem TF(B:Nat)(L:NL)(N:NM)(M:DM)(a:ByteArray)(l:List Ver)(g w:World)(h:NRep g L N M)(y:Yf B L M g)(u:Fr Nil g w)(o:Value)(m:VRow w o l)(j:∀ k,o.ownBlock=some k->g.heap.size<=k)
 (i:Fit N M g.heap.size (.inr (.inl (a,l)))) :
 ∀ c q,Fr Nil w q->Calls Tryz.prog 80 #[.pointer (some ⟨L.nb,0,none⟩),.string c,.iface 193 (.agg #[.string a,o])] q fun e s =>
  ∃ f v r,e=.returned v/\g.heap.size<=f/\ERep s v (N.change M (.inr (.inl (a,l))) f).1/\NStep L M g r (N.change M (.inr (.inl (a,l))) f).2.1 (N.change M (.inr (.inl (a,l))) f).2.2 s:=by
 intro c q t;have d:=u.trans t;have b:=i.mono d.size;refine(Vf B L M g L N M c (.inr (.inl (a,l))) _ q (NStep.nil h d) (y.nil d).env ⟨o,rfl,VRow.fr m t (fun _ _=>id)⟩ b.ok (fun k x=>?_) b.log b.keys b.hints b.writes).mono ?_
 .obtain⟨v,hv',e⟩:=x
  simp at hv';rcases hv' with rfl|rfl
  .exact absurd e (by simp[Value.ownBlock])
  .exact .inr (j k e)
 .rintro e s ⟨f,v,r,rfl,hf,hE,hst⟩
  exact⟨f,v,r,rfl,Im d.size hf,hE,hst⟩
theorem QU(c3:zr)(B:Nat)(L:NL)(N:NM)(M:DM)(i:ByteArray)(v:Ver)(w:World)(h:NRep w L N M)(he:Yf B L M w)(b2:∀ u∈zl N.S.keys i,Zt u.node)(c2:Yx (zl N.S.keys i))
 (hk:N.S.keys.length<1099511627776)(c5:(zl N.S.keys i).length<1000000)(c4:zF i=true->v.value.size<=128->foreign N.self v=true->N.readOnly=false->(v.gone=false->(zC (zl N.S.keys i) v).length<4)->Fit N M w.heap.size (.inr (.inl (i,Zu (zl N.S.keys i) v)))) :
 Calls Tryz.prog 91 #[.pointer (some ⟨L.nb,0,none⟩),.string i,.agg v.cells.toArray] w fun e w'=>∃ f L',e=.returned (.int .i64 (N.accept M i v f).1)/\w.heap.size<=f/\NStep L M w L' (N.accept M i v f).2.1 (N.accept M i v f).2.2 w':=by
 have hA:=Blk.new w v.cells 37;have f0:Fr Nil w (w.alloc (.cells v.cells.toArray 37)):=(U _ _).alloc _;have HH:=Z h;have HE:=Z he;have HT:=Z c4;have g2:=Z b2;have f5:=Z c2;have a4:=Z c5;clear h he c4 b2 c2 c5;have f8:Hid (foreign N.self v=true->Zt v.node):=fun h=>Uj h;have c1:=Z (SX (zl N.S.keys i) v);have e0:=Z (SY f5.out v);generalize hb:w.heap.size=b at hA;have b6:=Z hb;generalize f4:w.alloc (.cells v.cells.toArray 37)=X at hA f0;have e1:=Z f4;have HA:=Z hA;have D:=Z f0;have HR:=Z (HH.out.nil f0);have g4:X.cell? ⟨L.nb,7,none⟩=some (.bool N.readOnly):=HR.out.Bi.cell 7;have g3:X.cell? ⟨L.nb,2,none⟩=some (.pointer (some ⟨L.sb,0,none⟩)):=HR.out.Bi.cell 2;have HI:=Z (TC L N M v X HR.out);have HV:=Z (fun r (f:Fr Nil X r)=>XN i L.sb L.LS N.S r (HR.out.held.nil f) hk);have b7:=Z (fun r (f:Fr Nil X r)=>(HR.out.held.nil f).getE i);generalize getE L.LS.BD i=gv at HV b7;have HL:=Z (fun r (f:Fr Nil X r)=>Ma gv (zl N.S.keys i) v g2.out a4.out r (b7.out r f));have d7:=Z (fun(hn:Zt v.node) r (f:Fr Nil X r)=>On gv (zl N.S.keys i) v hn r (b7.out r f));have f9:Hid (∃ a c,gv=.slice a (zl N.S.keys i).length c):=zg (b7.out X (U _ _));have HK:=Z (XW i X);clear hA f0 hb f4;obtain⟨node,o,s,t,y,A,d,j⟩:=v;simp only[Ver.cells] at HA e1 HI HL d7 |-;have d9:Hid (∀ r,Blk r b [.int .i64 node,.int .i64 o,.int .i64 s,.int .i64 t,.int .i64 y,.int .i64 A,.string d,.bool j] 37->Blk (r.setCell ⟨b,6,none⟩ (.string d)) b [.int .i64 node,.int .i64 o,.int .i64 s,.int .i64 t,.int .i64 y,.int .i64 A,.string d,.bool j] 37):=fun r h=>h.set 6 (.string d);go_enter Tryz.func91,Tryz.ntmps91;go_wp2_with fail;rw[e1.out,b6.out];cases hb0:zF i with
 | false =>
  rw[hb0] at HK;have E:N.accept M i ⟨node,o,s,t,y,A,d,j⟩ b=(2,N,M):=by unfold NM.accept;rw[IC hb0]
  have q:=Z E;clear hb0 E;refine HK.out.mono ?_;rintro e r ⟨rfl,h0⟩;subst r
  go_wp2
  go_ret;exact⟨b,L,by rw[q.out];rfl,Io _,by rw[q.out];exact NStep.nil HH.out D.out⟩
 | true =>
 rw[hb0] at HK;have G:=Z hb0;clear hb0;refine HK.out.mono ?_;rintro e r ⟨rfl,h0⟩;subst r;have g6:X.cell? ⟨b,6,none⟩=some (.string d):=HA.out.cell 6;have g5:=HA.out.cell;by_cases hv:128<d.size
 .have E:N.accept M i ⟨node,o,s,t,y,A,d,j⟩ b=(3,N,M):=by unfold NM.accept;rw[It (by rw[G.out];decide),IC hv]
  have q:=Z E;have g9:(128:Int)<(d.size:Int):=by omega
  clear E
  go_wp2
  go_ret;exact⟨b,L,by rw[q.out];rfl,Io _,by rw[q.out];exact NStep.nil HH.out D.out⟩
 have g9:¬(128:Int)<(d.size:Int):=by omega
 cases hfo:foreign N.self ⟨node,o,s,t,y,A,d,j⟩ with
 | false =>
  rw[hfo] at HI;have E:N.accept M i ⟨node,o,s,t,y,A,d,j⟩ b=(5,N,M):=by unfold NM.accept;rw[It (by rw[G.out];decide),It hv,IC hfo]
  have q:=Z E;clear E hfo
  go_wp2_with (refine HI.out.mono ?_;rintro e r ⟨rfl,J⟩;have a0:=Z J;clear J)
  go_ret;exact⟨b,L,by rw[q.out];rfl,Io _,by rw[q.out];exact NStep.nil HH.out (D.out.trans a0.out)⟩
 | true =>
 rw[hfo] at HI;have a3:=Z hfo;have a9:=Z hv;clear hfo hv;go_wp2_with fail;refine HI.out.mono ?_;rintro e r ⟨rfl,J⟩;have e4:=(HA.out.fr J id).cell;have b0:r.cell? ⟨L.nb,7,none⟩=some (.bool N.readOnly):=(HR.out.nil J).Bi.cell 7;have e3:r.cell? ⟨L.nb,2,none⟩=some (.pointer (some ⟨L.sb,0,none⟩)):=(HR.out.nil J).Bi.cell 2;have a0:=Z J;clear J g5 g6 g4 g3;cases hr:N.readOnly with
 | true =>
  rw[hr] at b0;have E:N.accept M i ⟨node,o,s,t,y,A,d,j⟩ b=(8,N,M):=by unfold NM.accept;rw[It (by rw[G.out];decide),It a9.out,It (by rw[a3.out];decide),IC hr]
  have q:=Z E;clear hr E
  go_wp2
  go_ret;exact⟨b,L,by rw[q.out];rfl,Io _,by rw[q.out];exact NStep.nil HH.out (D.out.trans a0.out)⟩
 | false =>
 rw[hr] at b0;have d2:=Z hr;clear hr;go_wp2_with fail;refine(HV.out r a0.out).mono ?_;rintro e w2 ⟨rfl,e8⟩;have a1:Hid (Fr Nil X w2):=a0.out.trans e8;have e5:=(HA.out.fr a1.out id).cell;clear e8 e4 b0 e3;go_wp2_with fail;refine(HL.out w2 a1.out).mono ?_;rintro e w3 ⟨hv,rfl,b5,e9,b3⟩;have d0:Hid (Fr Nil X w3):=a1.out.trans e9;have e6:=(HA.out.fr d0.out id).cell;have a7:=Z b5;have d8:Hid (∀ k,hv.ownBlock=some k->w.heap.size<=k):=fun k hk=>Im (Im D.out.size a1.out.size) (b3 k hk);have g1:Hid (∀ k,hv.ownBlock=some k->k≠b):=fun k hk e=>by have:=b3 k hk;have:=a1.out.size;have:=HA.out.lt;omega
 obtain⟨la,lc,f2⟩:=zg b5;clear e9 e5 b5 b3;generalize hL:(zC (zl N.S.keys i) ⟨node,o,s,t,y,A,d,j⟩)=l at a7 c1 e0 f2;have g8:l.length<1000000:=by have:=c1.out;have:=a4.out;omega
 have h4:(zl N.S.keys i).length<1000000:=a4.out;have a5:=Z hL;subst f2;clear hL;go_wp2_with fail;refine(d7.out (f8.out a3.out) w3 d0.out).mono ?_;rintro e w4 ⟨rfl,d5⟩;have K:Hid (Fr Nil X w4):=d0.out.trans d5;have e7:=(HA.out.fr K.out id).cell;have a8:=Z (VRow.fr a7.out d5 (fun _ _=>id));clear d5 e6 a7;have c7:∀ f,N.accept M i ⟨node,o,s,t,y,A,d,j⟩ f=if (zl N.S.keys i).any (Ver.BQ ⟨node,o,s,t,y,A,d,j⟩)=true then(0,N,M) else
  if j=false/\4<=l.length then(6,N,M) else if j=true/\l.length=(zl N.S.keys i).length then(0,N,M) else
  N.asked M (.inr (.inl (i,Zu (zl N.S.keys i) ⟨node,o,s,t,y,A,d,j⟩))) f:=by
  intro f;unfold NM.accept;rw[It (by rw[G.out];decide),It a9.out,It (by rw[a3.out];decide),It (by rw[d2.out];decide),a5.out]
 have I:=Z c7;clear c7;cases hkn:(zl N.S.keys i).any (Ver.BQ ⟨node,o,s,t,y,A,d,j⟩) with
 | true =>
  have E:N.accept M i ⟨node,o,s,t,y,A,d,j⟩ b=(0,N,M):=by rw[I.out,IC hkn]
  have q:=Z E;clear E hkn
  go_wp2
  go_ret;exact⟨b,L,by rw[q.out];rfl,Io _,by rw[q.out];exact NStep.nil HH.out (D.out.trans K.out)⟩
 | false =>
 have V:=Z hkn;clear hkn;obtain⟨ga,gc,g7⟩:=f9.out;subst g7;cases j with
 | false =>
  by_cases hm:4<=l.length
  .have E:N.accept M i ⟨node,o,s,t,y,A,d,false⟩ b=(6,N,M):=by rw[I.out,It (by rw[V.out];decide),IC ⟨rfl,hm⟩]
   have q:=Z E;have c0:(4:Int)<=(l.length:Int):=by omega
   clear E
   go_wp2
   go_ret;exact⟨b,L,by rw[q.out];rfl,Io _,by rw[q.out];exact NStep.nil HH.out (D.out.trans K.out)⟩
  .have c0:¬(4:Int)<=(l.length:Int):=by omega
   have a2:Hid (Fit N M w.heap.size (.inr (.inl (i,Zu (zl N.S.keys i) ⟨node,o,s,t,y,A,d,false⟩)))):=HT.out G.out (by have:=a9.out;omega) a3.out d2.out (fun hg=>by first|(cases hg;done)|(rw[a5.out];omega));have q:Hid (∀ f,N.accept M i ⟨node,o,s,t,y,A,d,false⟩ f=N.asked M (.inr (.inl (i,Zu (zl N.S.keys i) ⟨node,o,s,t,y,A,d,false⟩))) f):=by
    intro f;rw[I.out,It (by rw[V.out];decide),It (by exact fun x=>hm x.2),It (by exact fun x=>absurd x.1 (by decide))]
   have b1:i.size<=1000000000:=by have:=G.out;unfold zF at this;simp only[IF] at this;omega
   have c8:=Z (fun wx=>ZE i wx b1);have g0:=Z hm;clear b1 hm c0;have f3:d.size<=1000000000:=by have:=a9.out;omega
   have f7:=Z (ZE d w4 f3);have h5:¬(4:Int)<=(l.length:Int):=by have:=g0.out;omega
   clear f3;go_wp2_with fail;refine f7.out.mono ?_;rintro e w5 ⟨rfl,b9⟩;have b8:=HA.out.fr (K.out.trans b9) id;have f6:=Z (d9.out w5 b8);have h3:=f6.out.cell;have h1:=b8.frozen;have h2:=b8.cell;have d3:Hid (VRow (w5.setCell ⟨b,6,none⟩ (.string d)) (.slice la l.length lc) l):=VRow.fr (VRow.fr a8.out b9 (fun _ _=>id)) (S:=fun k=>k=b) (Fr.set (S:=fun k=>k=b) (p:=⟨b,6,none⟩) (U _ _) (fun _=>rfl) _) (fun k hk e=>g1.out k hk e);have d6:Hid (Fr Nil w (w5.setCell ⟨b,6,none⟩ (.string d))):=(D.out.trans (K.out.trans b9)).set (p:=⟨b,6,none⟩) (fun h=>absurd h (by simp only[b6.out];omega)) _;clear b9 b8 e7;go_wp2_with fail;have e2:=Z (Me (.slice la l.length lc) l ⟨node,o,s,t,y,A,d,false⟩ e0.out g8 _ d3.out);simp only[Ver.cells] at e2;refine e2.out.mono ?_;rintro e w6 ⟨v6,rfl,T,f1,b4⟩;have d1:=Z (d6.out.trans f1);have Q:Hid (VRow w6 v6 (Zu (zl N.S.keys i) ⟨node,o,s,t,y,A,d,false⟩)):=by unfold Zu;rw[It (by simp),a5.out];exact T
   have O:Hid (∀ k,v6.ownBlock=some k->w.heap.size<=k):=fun k hk=>Im d6.out.size (b4 k hk);obtain⟨a6,c6,rfl⟩:=zg T;clear T f1 b4;go_wp2_with fail;refine(c8.out _).mono ?_;rintro e w7 ⟨rfl,R⟩;have Y:=Z (TF B L N M i _ w w7 HH.out HE.out (d1.out.trans R) _ (VRow.fr Q.out R (fun _ _=>id)) O.out a2.out);clear R;go_wp2_with fail;refine(Y.out _ _ (by exact zd)).mono ?_;rintro e w8 ⟨f,v1,L1,rfl,hf,hE,C⟩;have HS:=Z C;have c9:=Z hE;have HF:=Z hf;clear hE C hf;go_wp2_with fail;rw[<- HS.out.same.nb];refine(ZN c3 B L1 _ _ _ _ w8 HS.out.Bt (HE.out.step HS.out) c9.out).mono ?_;rintro e w9 ⟨L2,rfl,C⟩;have d4:=Z (HS.out.trans C);clear C
   go_wp2
   go_ret;refine⟨f,L2,?_,by rw[<- b6.out];exact HF.out,?_⟩
   .rw[q.out];rfl
   .rw[q.out];exact d4.out
 | true =>
  by_cases hm:l.length=(zl N.S.keys i).length
  .have E:N.accept M i ⟨node,o,s,t,y,A,d,true⟩ b=(0,N,M):=by rw[I.out,It (by rw[V.out];decide),It (fun x=>absurd x.1 (by decide)),IC ⟨rfl,hm⟩]
   have q:=Z E;have c0:((l.length:Int)==((zl N.S.keys i).length:Int))=true:=by simp[hm]
   clear E hm
   go_wp2
   go_ret;exact⟨b,L,by rw[q.out];rfl,Io _,by rw[q.out];exact NStep.nil HH.out (D.out.trans K.out)⟩
  .have c0:((l.length:Int)==((zl N.S.keys i).length:Int))=false:=by simp;omega
   have a2:Hid (Fit N M w.heap.size (.inr (.inl (i,Zu (zl N.S.keys i) ⟨node,o,s,t,y,A,d,true⟩)))):=HT.out G.out (by have:=a9.out;omega) a3.out d2.out (fun hg=>by first|(cases hg;done)|(rw[a5.out];omega));have q:Hid (∀ f,N.accept M i ⟨node,o,s,t,y,A,d,true⟩ f=N.asked M (.inr (.inl (i,Zu (zl N.S.keys i) ⟨node,o,s,t,y,A,d,true⟩))) f):=by
    intro f;rw[I.out,It (by rw[V.out];decide),It (by exact fun x=>absurd x.1 (by decide)),It (by exact fun x=>hm x.2)]
   have b1:i.size<=1000000000:=by have:=G.out;unfold zF at this;simp only[IF] at this;omega
   have c8:=Z (fun wx=>ZE i wx b1);clear b1 hm;have d1:Hid (Fr Nil w w4):=D.out.trans K.out;have Q:Hid (VRow w4 (.slice la l.length lc) (Zu (zl N.S.keys i) ⟨node,o,s,t,y,A,d,true⟩)):=by unfold Zu;rw[IC rfl,a5.out];exact a8.out
   have O:=d8;go_wp2_with fail;refine(c8.out _).mono ?_;rintro e w7 ⟨rfl,R⟩;have Y:=Z (TF B L N M i _ w w7 HH.out HE.out (d1.out.trans R) _ (VRow.fr Q.out R (fun _ _=>id)) O.out a2.out);clear R;go_wp2_with fail;refine(Y.out _ _ (by exact zd)).mono ?_;rintro e w8 ⟨f,v1,L1,rfl,hf,hE,C⟩;have HS:=Z C;have c9:=Z hE;have HF:=Z hf;clear hE C hf;go_wp2_with fail;rw[<- HS.out.same.nb];refine(ZN c3 B L1 _ _ _ _ w8 HS.out.Bt (HE.out.step HS.out) c9.out).mono ?_;rintro e w9 ⟨L2,rfl,C⟩;have d4:=Z (HS.out.trans C);clear C
   go_wp2
   go_ret;refine⟨f,L2,?_,by rw[<- b6.out];exact HF.out,?_⟩
   .rw[q.out];rfl
   .rw[q.out];exact d4.out
end Go.Proofs.YtkhnggkkiefcdaaGreatDoor
