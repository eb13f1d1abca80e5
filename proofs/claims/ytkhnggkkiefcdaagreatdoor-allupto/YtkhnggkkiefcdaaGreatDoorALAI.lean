/- larder: joined texts -/
import Derived.Test.YtkhnggkkiefcdaaGreatDoorALAH
import Derived.RangeFuncNested
import Derived.RangeFuncBound
import Derived.Shelf.RegionOpen
import Derived.OwnWalkIn
import Derived.LoopNIn
import Derived.LoopIn
import Derived.StillTailTactics
namespace Go.Proofs.YtkhnggkkiefcdaaGreatDoor
open Go.RowKit Go.Shelf Proofs.Tryz
set_option maxRecDepth 100000
set_option maxHeartbeats 8000000
variable{X:Nat->Prop}{p:Prop}
attribute [local go_sem] ye
abbrev yN:=@Go.wp_region_still_tail
abbrev xr:=@Go.World.putObj_heap_other
def zR(X:Nat->Prop)(W W':World):Prop:=∀ k,X k->W'.heap[k]?=W.heap[k]?
theorem zR.refl(X:Nat->Prop)(W:World):zR X W W:=fun _ _=>rfl
theorem zR.trans{A B C:World}(h:zR X A B)(k:zR X B C):zR X A C:=fun i c=>(k i c).trans (h i c)
theorem zR.sL{W W':World}{base:Nat}{e:TypeId}{size:Nat}{v:Value}{n:Nat}{j:List Value}(h:zR X W W')(i:W.ownsRow base e size v n j)(t:∀ k,v.ownBlock=some k->X k):W'.ownsRow base e size v n j:=by
 refine⟨i.1,?_⟩;rcases i.2 with m|⟨g,a,c,rfl,o,q,r⟩
 .exact .inl m
 .exact .inr ⟨g,a,c,rfl,o,by rw[h g (t g rfl)];exact q,r⟩
theorem zR.rv{S:Nat->Prop}{W W':World}(f:Fr S W W')(h:∀ k,X k->k<W.heap.size/\¬S k):zR X W W':=fun k b=>f.block k (h k b).1 (h k b).2
theorem SB(a:Nat)(w:World) :
 Calls prog 182 #[E a 0] w fun e b =>
  e=.returned (.func (.func 217) #[] #[E w.heap.size 0])/\b=w.alloc (.cells #[E a 0] 236):=by
 go_enter func182,ntmps182
 go_wp2
 go_ret;exact⟨rfl,rfl⟩
theorem D6(h:p:=by
 have j:J k (wr.alloc (.cells #[.string b[k].1,.slice a1 m1 c1] 239)):=hJ _ _ _ none d (vx ..) (fun r e=>by cases e);have y:=hY k _ f j;rw[show Nf b k=#[.string b[k].1,.slice a1 m1 c1] by simp[Nf,YX,List.getD_eq_getElem?_getD,List.getElem?_eq_getElem f,he]] at y;obtain⟨fn,M,t,G,hy,K⟩:=y;have R:=Z d;have HR:=Z K;clear j d K he
 gi_wp2
 exact Gh):p:=h
theorem D7(h:p:=by
 have j:J (b.take k) (wr.alloc (.cells #[.string b[k].1,.slice a1 m1 c1] 239)):=hJ _ _ _ none d (vx ..) (fun r e=>by cases e);obtain⟨fn,M,t,G,hy,K⟩:=hY (b.take k) b[k] _ j ar;rw[he] at hy;have HT:aa (b.take (k+1)=b.take k++[b[k]]):=Bp f;have a7:aa (zR X W (wr.alloc (.cells #[.string b[k].1,.slice a1 m1 c1] 239))):=a4.trans (fun k hk=>xq _ _ _ (by have:=hX k hk;omega));have R:=Z d;have HR:=Z K;clear j d K he
 gi_wp2
 refine HR.o.mono ?_;rintro e W3 (⟨rfl,Q,b0,b1⟩|⟨rfl,a2⟩)
 .gi_wp2
  go_roundw
  case rel=>exact⟨k+1,V,bG,by rw[HT.o];exact Q,a7.o.trans b0,by have:=b1;simp at this;omega⟩
  case measure=>simp[intOf];omega
 .gi_wp2
  refine xC (results_none rfl _ _ _) rfl ?_;exact⟨⟨_,rfl⟩,.inr ⟨_,⟨b.drop (k+1),by rw[<- HT.o,Bo]⟩,a2⟩⟩):p:=h
theorem Ld(h:p:=by
 obtain⟨g,u,hg,_,_⟩:=zl hvr V;obtain⟨rfl,rfl⟩:a0=some (Y g 0)/\C=u:=by simpa using hg
 obtain⟨a1,m1,c1,he⟩:=A b[k] (CU f);have a9:=own_cell? hvr (k*2) _ (Z8 b k f).1;have a3:=own_cell? hvr (k*2+1) _ (Z8 b k f).2;rw[he] at a3
 first
  | (clear a6;exact D7)
  | exact D6):p:=h
theorem FF(F:Fence)(n:Nat)(hF:F.fn 217)(B:F.round=none)(hn:1<=n)(l D L:Nat)(v:Value)(b:List (ByteArray × Value))(X:Nat->Prop)(J Jx:List (ByteArray × Value)->World->Prop)
 (W:World)(hl:b.length<4611686018427387904)
 (hJ:AbidesFrom W.heap.size J)(hX:∀ k,X k->k<W.heap.size)(a8:∀ k,v.ownBlock=some k->X k)
 (A:∀ e∈b,∃ a m c,e.2=.slice a m c)
 (hY:∀ pre x q,J pre q->pre.length<b.length->YieldAt F (n-1) prog l #[.string x.1,x.2] q fun e s =>
   (e=.returned (.bool true)/\J (pre++[x]) s/\zR X q s/\q.heap.size<=s.heap.size)\/(e=.returned (.bool false)/\Jx (pre++[x]) s))
 (T:W.cell? (Y D 0)=some (E L 0))(a5:W.cell? (Y L 0)=some v)(hv:W.ownsRow 0 239 2 v b.length (Z3 b))(N:J [] W) :
 CallsIn F n prog 217 #[.func (.yield l) #[] #[],E D 0] W fun e s=>(∃ r,e=.returned r) /\
  ((∃ ys,ys=b/\J ys s)\/(∃ pre,pre<+:b/\Jx pre s)):=by
 obtain⟨a0,C,rfl⟩:=zf hv;refine uJ ur rfl hF ?_ B;simp only[ntmps217,AQ,Bh,BU,Nat.reduceAdd,Nat.reduceSub,AY,AZ,yD,ym,Ba,CZ]
 gi_wp2
 gi_loopw [10] (fun i wr=>∃ k:Nat,k<=b.length/\i=I k/\J (b.take k) wr/\zR X W wr/\W.heap.size<=wr.heap.size)
  (fun i _=>b.length-(intOf i).toNat)
 case atStart=>exact⟨0,Bg _,rfl,by simpa using N,zR.refl _ _,CP _⟩
 case round =>
  obtain⟨k,hk,rfl,d,a4,b2⟩:=hrel;by_cases f:k<b.length
  .have hvr:=a4.sL hv a8
   have a6:=0;exact Ld
  .obtain rfl:k=b.length:=V
   rw[Bj] at d
   gi_wp2
   go_end0
   exact⟨⟨_,rfl⟩,.inl ⟨_,rfl,d⟩⟩
def KpX(X:Nat->Prop)(W a:World):Prop:=zR X W a/\W.heap.size<=a.heap.size
theorem KM(F:Fence)(n:Nat)(B:F.fn 217)(t:F.round=none)(L:1<=n)(f i:Nat)(v:Value)(b:List (ByteArray × Value))(X:Nat->Prop)
 (w:World)(K:b.length<4611686018427387904)(u:∀ k,X k->k<w.heap.size)(o:f<w.heap.size)(s:i<w.heap.size)(g:∀ k,v.ownBlock=some k->X k)
 (d:∀ e∈b,∃ a m c,e.2=.slice a m c)(q:w.cell? (Y f 0)=some (E i 0))(r:w.cell? (Y i 0)=some v)(M:w.ownsRow 0 239 2 v b.length (Z3 b)) :
 SeqStopsK F n prog 217 #[E f 0] (fun x:ByteArray × Value=>#[.string x.1,x.2]) (KpX X) (fun N=>N=b) (fun pre=>pre<+:b) b.length w:=by
 intro l J y W j C D G A;have h:zR X w W:=fun k h=>j.block k (u k h);exact FF F n B t L l f i v b X J y W K C (fun k h=>Bv (u k h) j.size) g d G ((j.cell (p:=⟨f,0,none⟩) o).trans q) ((j.cell (p:=⟨i,0,none⟩) s).trans r) (h.sL M g) A
theorem KpX.trans{A B C:World}(h:KpX X A B)(k:KpX X B C):KpX X A C:=⟨h.1.trans k.1,CO h.2 k.2⟩
theorem KpX.put{w:World}(a:∀ k,X k->k<w.heap.size)(W:World)(l:Nat)(o c:Obj)(h:w.heap.size<=l)(_:W.heap[l]?=some o)(_:o.isCells=false)(_:o.isWalk=false):KpX X W (W.putObj l c) :=
 ⟨fun k b=>xr (fun e=>by have:=a k b;omega),bG⟩
end Go.Proofs.YtkhnggkkiefcdaaGreatDoor
namespace Go.Proofs.YtkhnggkkiefcdaaGreatDoor
open Go.RowKit Proofs.Tryz
set_option maxRecDepth 100000
set_option maxHeartbeats 8000000
structure LM where
 node:Int
 uR:Keys
 uU:List (Nat × ByteArray)
variable{X:Nat->Prop}{c:List (ByteArray × Value)}{w:World}{p:Prop}{m:LM}{B:Nat}{L:NL}{M:DM}
structure MAt(w:World)(p:Nat)(kv hv:Value)(sC:List (ByteArray × Value))(m:LM):Prop where
 td:Blk w p [I m.node,kv,hv] 107
 qi:w.ownsRow 0 186 2 kv sC.length (Z3 sC)
 rq:Pair (VRow w) sC m.uR
 sE:w.ownsRow 0 75 2 hv m.uU.length (zI m.uU)
def MBlk(p:Nat)(c b:Value)(a:List (ByteArray × Value))(k:Nat):Prop:=k=p\/c.ownBlock=some k\/b.ownBlock=some k\/∃ e∈a,e.2.ownBlock=some k
def MRep(K:Nat->Prop)(w:World)(p:Nat)(m:LM):Prop:=∃ d c b,MAt w p d c b m/\∀ k,MBlk p d c b k->K k
theorem zR.td{W W':World}(h:zR X W W'){b:Nat}{c:List Value}{t:TypeId}(e:Blk W b c t)(g:X b):Blk W' b c t:=e.of_heap (h b g)
theorem MAt.tW{i:World}{p:Nat}{g f:Value}{b:List (ByteArray × Value)}(h:MAt w p g f b m)(c:zR X w i)(d:∀ k,MBlk p g f b k->X k):MAt i p g f b m :=
 ⟨c.td h.td (d _ (.inl rfl)),c.sL h.qi (fun _ e=>d _ (.inr (.inl e))),h.rq.mono (fun a j _ l=>c.sL l (fun _ e=>d _ (.inr (.inr (.inr ⟨a,j,e⟩))))),c.sL h.sE (fun _ e=>d _ (.inr (.inr (.inl e))))⟩
theorem MRep.tW{K:Nat->Prop}{e:World}{p:Nat}(h:MRep K w p m)(c:zR X w e)(i:∀ k,K k->X k):MRep K e p m:=by
 obtain⟨j,g,b,f,d⟩:=h;exact⟨j,g,b,f.tW c (fun k c=>i k (d k c)),d⟩
theorem MRep.mono{K K':Nat->Prop}{p:Nat}(h:MRep K w p m)(r:∀ k,K k->K' k):MRep K' w p m:=by
 obtain⟨A,y,c,g,o⟩:=h;exact⟨A,y,c,g,fun k e=>r k (o k e)⟩
theorem zR.nil{c:World}(f:Fr Nil w c)(e:∀ k,X k->k<w.heap.size):zR X w c:=zR.rv f (fun k d=>⟨e k d,id⟩)
theorem MAt.lt{p:Nat}{o g:Value}(h:MAt w p o g c m):∀ k,MBlk p o g c k->k<w.heap.size:=by
 intro k r;rcases r with rfl|e|e|⟨a,q,e⟩
 .exact h.td.lt
 .exact zF h.qi e
 .exact zF h.sE e
 .obtain⟨l,hl⟩:=h.rq.mem a q
  exact zF hl e
theorem MAt.nil{o:World}{p:Nat}{g d:Value}(h:MAt w p g d c m)(f:Fr Nil w o):MAt o p g d c m:=h.tW (zR.nil f h.lt) (fun _ e=>e)
theorem TU(v u:Ver)(c:zW u.node)(w:World) :
 Calls prog 159 #[.agg v.cells.toArray,.agg u.cells.toArray] w fun e p=>e=.returned (.bool (v.rI u))/\Fr Nil w p:=by
 obtain⟨n,s,f,h,i,j,x,g⟩:=v;obtain⟨node,d,k,l,m,o,y,a⟩:=u;unfold zW at c;simp only at c;have b:node=0\/node=1\/node=2\/node=3:=V
 have q:Fr Nil w ((w.alloc (.cells #[I n,I s,I f,I h,I i,I j,.string x,.bool g] 37)).alloc (.cells #[I node,I d,I k,I l,I m,I o,.string y,.bool a] 37)):=((U _ _).alloc _).alloc _;simp only[Ver.cells];clear c;rcases b with rfl|rfl|rfl|rfl
 all_goals
  go_enter func159,ntmps159;go_wp2_with fail
  go_quiet (fail)
  go_wp2
  go_ret;refine⟨?_,zd⟩;simp[Ver.rI,Ver.ov]
theorem PX(a b c d:Int)(w:World) :
 Calls prog 160 #[.agg #[I a,I b],.agg #[I c,I d]] w fun e g=>e=.returned (.bool (zD (a,b) (c,d)))/\Fr Nil w g:=by
 have h:Fr Nil w ((w.alloc (.cells #[I a,I b] 34)).alloc (.cells #[I c,I d] 34)):=((U _ _).alloc _).alloc _;by_cases f:a<c
 .go_enter func160,ntmps160
  go_wp2
  go_ret;exact⟨by simp[zD,f],zd⟩
 .by_cases h2:a=c
  .subst h2
   go_enter func160,ntmps160
   go_wp2
   go_ret;exact⟨by simp[zD],zd⟩
  .have h3:(a==c)=false:=by simp[h2]
   go_enter func160,ntmps160
   go_wp2
   go_ret;exact⟨by simp[zD,f,h2],zd⟩
def Z2(key:ByteArray):Int:=if zu key=true then 0 else 2
theorem Ym(key:ByteArray)(w:World) :
 Calls prog 103 #[.string key] w fun e f=>e=.returned (I (Z2 key))/\f=w:=by
 have hs:=X8 key;go_enter func103,ntmps103;by_cases b:key.toList=[]
 .have hp:Z2 key=2:=by
   unfold Z2 zu;rw[CW];simp only[Bi];intro h;have:key.size=0:=by rw[hs,b];rfl
   omega
  have a:=Z hp;clear hs hp
  go_wp2
  go_ret;exact⟨by rw[a.o];rfl,rfl⟩
 .have h3:key.toList.isEmpty=false:=by simpa using b
  have d:0<key.size:=by
   rw[hs];exact yl.2 b
  by_cases g:32<key.size
  .have hp:Z2 key=2:=by
    unfold Z2 zu;rw[CW];simp only[Bi];omega
   have a:=Z hp;have c:(32:Int)<(key.size:Int):=V
   clear hs hp
   go_wp2
   go_ret;exact⟨by rw[a.o];rfl,rfl⟩
  .have hp:Z2 key=0:=by
    unfold Z2 zu;rw[Bl];simp only[Bi];omega
   have a:=Z hp;have c:¬(32:Int)<(key.size:Int):=V
   clear hs hp
   go_wp2
   go_ret;exact⟨by rw[a.o];rfl,rfl⟩
def Zq(key a:ByteArray):Int:=if zu key=true then(if 128<a.size then 3 else 0) else 2
theorem Rv(h:p:=by
 clear hk c b
 go_wp2_with (refine d.o.mono ?_;rintro e l ⟨rfl,j⟩;subst l)
 go_ret;exact⟨by rw[f.o];rfl,rfl⟩):p:=h
theorem YN(key a:ByteArray)(w:World) :
 Calls prog 102 #[.string key,.string a] w fun e k=>e=.returned (I (Zq key a))/\k=w:=by
 have d:=Z (Ym key w);go_enter func102,ntmps102;cases hk:zu key with
 | false =>
  have c:Z2 key=2:=by unfold Z2;rw[CW (by rw[hk];decide)]
  have b:Zq key a=2:=by unfold Zq;rw[CW (by rw[hk];decide)]
  have f:=Z b;rw[c] at d;exact Rv
 | true =>
  have c:Z2 key=0:=by unfold Z2;rw[Bl hk]
  rw[c] at d;by_cases i:128<a.size
  .have b:Zq key a=3:=by unfold Zq;rw[Bl hk,Bl i]
   have f:=Z b;have g:(128:Int)<(a.size:Int):=V
   exact Rv
  .have b:Zq key a=0:=by unfold Zq;rw[Bl hk,CW i]
   have f:=Z b;have g:¬(128:Int)<(a.size:Int):=V
   exact Rv
def Zo(node to:Int)(a:ByteArray):Int:=if (zM to&&decide (to≠node))=false then 4 else if a.size=0\/64<a.size then 3 else 0
theorem Ha(h:p:=by
 have b:Zo node to a=4:=by unfold Zo zM;rw[Bl ar]
 have d:=Z b;clear hs b
 go_wp2
 go_ret;exact⟨by rw[d.o];rfl,rfl⟩):p:=h
theorem QW(p:Nat)(node:Int)(q m:Value)(to:Int)(a:ByteArray)(w:World)(h:Blk w p [I node,q,m] 107) :
 Calls prog 113 #[E p 0,I to,.string a] w fun e r=>e=.returned (I (Zo node to a))/\r=w:=by
 have hs:=X8 a;have v:w.cell? (Y p 0)=some (I node):=h.cell 0;clear h;go_enter func113,ntmps113;by_cases s:to<0
 .exact Ha
 by_cases t:4<=to
 .exact Ha
 by_cases f:to=node
 .have b:Zo node to a=4:=by unfold Zo;rw[Bl (by simp[f])]
  have d:=Z b;have j:(to==node)=true:=by simp[f]
  clear hs b f
  go_wp2
  go_ret;exact⟨by rw[d.o];rfl,rfl⟩
 have j:(to==node)=false:=by simp[f]
 have c:∀ x,(if a.size=0\/64<a.size then(3:Int) else 0)=x->Zo node to a=x:=by
  intro x o;unfold Zo zM;rw[CW (by simp[f];omega)];exact o
 by_cases g:a.toList=[]
 .have b:=c 3 (by rw[Bl (.inl (by rw[hs,g];rfl))])
  have d:=Z b;clear hs b c f
  go_wp2
  go_ret;exact⟨by rw[d.o];rfl,rfl⟩
 have u:a.toList.isEmpty=false:=by simpa using g
 have k:0<a.size:=by rw[hs];exact yl.2 g
 by_cases l:64<a.size
 .have b:=c 3 (by rw[Bl (.inr l)])
  have d:=Z b;have i:(64:Int)<(a.size:Int):=V
  clear hs b c f
  go_wp2
  go_ret;exact⟨by rw[d.o];rfl,rfl⟩
 .have b:=c 0 (by rw[CW V])
  have d:=Z b;have i:¬(64:Int)<(a.size:Int):=V
  clear hs b c f
  go_wp2
  go_ret;exact⟨by rw[d.o];rfl,rfl⟩
structure Ye(B:Nat)(L:NL)(M:DM)(w:World):Prop where
 pW:Xr B w
 le:B<=w.heap.size
 sd:∀ k,NFoot L M k->B<=k
theorem Ye.qg(h:Ye B L M w):Env B L M w:=⟨h.pW,h.le,fun k a=>h.sd k (.inr (.inr (.inr (.inl a))))⟩
theorem Ye.step{b:NL}{d:NM}{c:DM}{w':World}(h:Ye B L M w)(s:NStep L M w b d c w'):Ye B b c w' :=
 ⟨h.pW.fr h.le s.fr (fun k a=>h.sd k a),CO h.le s.fr.size,fun k a=>(s.sd k a).elim (h.sd k) (fun e=>CO h.le e)⟩
theorem Ye.nil{c:World}(h:Ye B L M w)(f:Fr Nil w c):Ye B L M c :=
 ⟨h.pW.fr (S:=Nil) h.le f (fun _ h=>absurd h id),CO h.le f.size,h.sd⟩
def zy:Prop:=∀(B:Nat)(w:World)(v:Value)(n:Int),Xr B w->ERep w v (some n)->Calls prog 97 #[v] w fun e a=>e=.returned (I n)/\Fr Nil w a
def Zt(e:Option Int):Int:=e.getD 0
def NM.rD(N:NM)(e:Option Int):NM:={N with uW:=N.uW||e.isSome}
theorem Yn(a:zy)(B:Nat)(L:NL)(N:NM)(M:DM)(v:Value)(x:Option Int)(w:World)(h:NRep w L N M)(g:Ye B L M w)(f:ERep w v x) :
 Calls prog 79 #[E L.nb 0,v] w fun e l=>∃ q,e=.returned (I (Zt x))/\NStep L M w q (N.rD x) M l:=by
 cases x with
 | none =>
  have s:v=.nilIface:=f;subst s;have r:N.rD none=N:=by simp[NM.rD]
  refine(Rs _ w).mono ?_;rintro e l ⟨rfl,rfl⟩;exact⟨L,rfl,by rw[r];exact NStep.nil h (U _ _)⟩
 | some n =>
  have d:NStep L M w {L with mv:=.pointer none} (N.rD (some n)) M ((w.setCell (Y L.nb 7) (.bool true)).setCell (Y L.nb 6) (.pointer none)):=by
   have e:N.rD (some n)={N with uW:=true}:=by simp[NM.rD]
   rw[e];exact NStep.nV h
  have c:=f.nS h d;have m:=Z (a B _ v n (g.step d).pW c);have p:=Z d;have u:=h.td.cell;have y:=h.td.frozen;obtain⟨k,j⟩:=f;obtain⟨t,b,rfl⟩:=j.form;clear h g d c j;go_enter func79,ntmps79;go_wp2_with fail;refine m.o.mono ?_;rintro e A ⟨rfl,i⟩;have o:=Z (p.o.tR i);clear i
  go_wp2
  go_ret;exact⟨_,rfl,o.o⟩
def NM.tF(N:NM)(M:DM):Int × NM × DM :=
 if N.uW=true then(8,N,M) else(Zt (N.tY M).1,(N.tY M).2.1.rD (N.tY M).1,(N.tY M).2.2)
theorem Xu(d:zy)(B:Nat)(L:NL)(N:NM)(M:DM)(w:World)(h:NRep w L N M)(m:Ye B L M w) :
 Calls prog 32 #[E L.nb 0] w fun e t=>∃ L',e=.returned (I (N.tF M).1)/\NStep L M w L' (N.tF M).2.1 (N.tF M).2.2 t:=by
 have c:w.cell? (Y L.nb 7)=some (.bool N.uW):=h.td.cell 7;have s:w.cell? (Y L.nb 1)=some (E L.jb 0):=h.td.cell 1;have g:=Z h;have q:=Z m;clear h m;go_enter func32,ntmps32;cases hr:N.uW with
 | true =>
  rw[hr] at c;have a:N.tF M=(8,N,M):=by unfold NM.tF;rw[Bl hr]
  have b:=Z a;clear hr a;go_wp2_with fail;go_ret;exact⟨L,by rw[b.o];rfl,by rw[b.o];exact NStep.nil g.o (U _ _)⟩
 | false =>
  rw[hr] at c;have a:N.tF M=(Zt (N.tY M).1,(N.tY M).2.1.rD (N.tY M).1,(N.tY M).2.2):=by unfold NM.tF;rw[CW aM]
  have hs:N.tY M=((N.J.sJ M).1,{N with J:=(N.J.sJ M).2.1},(N.J.sJ M).2.2):=rfl;rw[hs] at a;have b:=Z a;clear hr a hs;go_wp2_with fail;refine(VK L.jb L.db N.J L.LD M w g.o.qb g.o.sf).mono ?_;rintro e u ⟨x,j,rfl,k,l⟩;have i:=Z (NStep.rO g.o l);have o:=Z k;clear k l;go_wp2_with fail;refine(Yn d B {L with LD:=j} _ _ _ _ u i.o.th (q.o.step i.o) o.o).mono ?_;rintro e y ⟨r,rfl,f⟩;have p:=Z (i.o.trans f);clear f
  go_wp2
  go_ret;refine⟨r,?_,?_⟩
  .rw[b.o];rfl
  .rw[b.o];exact p.o
structure Fit(N:NM)(M:DM)(H:Nat)(x:Fact):Prop where
 ok:FOk x
 qb:Xs N.J M H (zj x).size
 uR:N.S.uR.length<1099511627776
 uU:N.S.uU.length<1000000
 tf:N.tf<1000000000000
theorem Fit.mono{N:NM}{H c:Nat}{x:Fact}(h:Fit N M H x)(e:H<=c):Fit N M c x:=⟨h.ok,h.qb.mono e,h.uR,h.uU,h.tf⟩
def NM.rk(N:NM)(M:DM)(x:Fact)(f:Nat):Int × NM × DM :=
 (Zt (N.change M x f).1,(N.change M x f).2.1.rD (N.change M x f).1,(N.change M x f).2.2)
def NM.qJ(N:NM)(M:DM)(f:Nat):Int × NM × DM :=
 if N.uW=true then(8,N,M) else if N.S.uU.length=0 then(7,N,M) else N.rk M (.inr (.inr (.inr ()))) f
theorem Hb(h:p:=by
 have a5:=Z (y.o.trans c);clear c
 go_wp2
 go_ret;refine⟨f,L2,?_,HF.o,?_⟩
 .rw[j.o];rfl
 .rw[j.o];exact a5.o):p:=h
theorem Rw(h:p:=by
 go_ret;exact⟨w.heap.size,L,by rw[j.o];rfl,CP _,by rw[j.o];exact NStep.nil u.o (U _ _)⟩):p:=h
theorem Hc(r:zy)(B:Nat)(L:NL)(N:NM)(M:DM)(w:World)(h:NRep w L N M)(he:Ye B L M w)(g:N.uW=false->Fit N M w.heap.size (.inr (.inr (.inr ())))) :
 Calls prog 28 #[E L.nb 0] w fun e J=>∃ f C,e=.returned (I (N.qJ M f).1)/\w.heap.size<=f/\NStep L M w C (N.qJ M f).2.1 (N.qJ M f).2.2 J:=by
 have m:w.cell? (Y L.nb 7)=some (.bool N.uW):=h.td.cell 7;have a0:w.cell? (Y L.nb 2)=some (E L.sb 0):=h.td.cell 2;have u:=Z h;have R:=Z he;have x:=Z g;clear h he g;go_enter func28,ntmps28;cases hr:N.uW with
 | true =>
  rw[hr] at m;have b:N.qJ M w.heap.size=(8,N,M):=by unfold NM.qJ;rw[Bl hr]
  have j:=Z b;clear hr b;go_wp2_with fail;exact Rw
 | false =>
  have x:=Z (x.o hr);rw[hr] at m;have K:=Z (YV L.sb L.LS N.S w u.o.held);by_cases o:N.S.uU.length=0
  .have b:N.qJ M w.heap.size=(7,N,M):=by unfold NM.qJ;rw[CW aM,Bl o]
   have j:=Z b;have X:((N.S.uU.length:Int)==0)=true:=by simp[o]
   rw[o] at K;clear hr b o X
   go_wp2_with (refine K.o.mono ?_;rintro e d ⟨rfl,l⟩;subst d)
   exact Rw
  .have b:∀ f,N.qJ M f=N.rk M (.inr (.inr (.inr ()))) f:=by intro f;unfold NM.qJ;rw[CW aM,CW o]
   have j:=Z b;have X:((N.S.uU.length:Int)==0)=false:=by simpa using o
   clear hr b o
   go_wp2_with (refine K.o.mono ?_;rintro e d ⟨rfl,l⟩;subst d)
   refine(UN B L N M _ (.inr (.inr (.inr ()))) _ w u.o R.o.qg (show _=_ from rfl) x.o.ok (fun k hb=>by obtain⟨v,hv,e⟩:=hb;simp at hv) x.o.qb x.o.uR x.o.uU x.o.tf).mono ?_;rintro e d ⟨f,v1,L1,rfl,G,D,c⟩;have y:=Z c;have A:=Z D;have HF:=Z G;clear D c G;go_wp2_with fail;rw[<- y.o.same.nb];refine(Yn r B L1 _ _ _ _ d y.o.th (R.o.step y.o) A.o).mono ?_;rintro e w2 ⟨L2,rfl,c⟩;exact Hb
theorem Tw(L:NL)(N:NM)(M:DM)(w:World)(h:NRep w L N M)(b:N.S.uU.length<1000000) :
 Calls prog 27 #[E L.nb 0] w fun e d=>∃ c,e=.returned c/\d.ownsRow 0 75 2 c N.S.uU.length (zI N.S.uU)/\Fr Nil w d/\(∀ k,c.ownBlock=some k->w.heap.size<=k):=by
 have l:w.cell? (Y L.nb 2)=some (E L.sb 0):=h.td.cell 2;have f:=Z (PN L.sb L.LS N.S w h.held b);clear h;go_enter func27,ntmps27
 go_wp2_with (refine f.o.mono ?_;rintro e m ⟨c,rfl,g,i,j⟩)
 go_ret;exact⟨c,rfl,g,i,j⟩
theorem VA(L:NL)(N:NM)(M:DM)(key:ByteArray)(w:World)(h:NRep w L N M)(d:N.S.uR.length<1099511627776)(i:(zn N.S.uR key).length<=1000000) :
 Calls prog 24 #[E L.nb 0,.string key] w fun e v=>∃ j,e=.returned (.tuple #[j,I (if zu key=true then 0 else 2)])/\VRow v j (if zu key=true then zn N.S.uR key else [])/\Fr Nil w v/\(∀ k,j.ownBlock=some k->w.heap.size<=k):=by
 have D:w.cell? (Y L.nb 2)=some (E L.sb 0):=h.td.cell 2;have l:=Z (Wu key w);have q:=Z h;clear h;go_enter func24,ntmps24;cases hb:zu key with
 | false =>
  rw[hb] at l;clear hb
  go_wp2_with (refine l.o.mono ?_;rintro e f ⟨rfl,p⟩;subst f)
  go_ret2;exact⟨_,rfl,Bf w 0 _ _,U _ _,fun k d=>absurd d aB⟩
 | true =>
  rw[hb] at l;have B:=Z (Wn key L.sb L.LS N.S w q.o.held d);have A:=Z (show(zn N.S.uR key).length*72<=140737488355328 from V);clear hb i d
  go_wp2_with (refine l.o.mono ?_;rintro e f ⟨rfl,p⟩;subst f)
  refine B.o.mono ?_;rintro e f ⟨rfl,c⟩;have g:=Z c;have b:VRow f (getE L.LS.sC key) (zn N.S.uR key):=(q.o.held.nil c).getE key;have r:=Z b;clear c b;generalize getE L.LS.sC key=C at r;go_wp2_with fail;refine(UP C _ _ f r.o (XS _) A.o).mono ?_;rintro e G ⟨j,rfl,s,t,u⟩;have o:=Z (g.o.trans t);have x:=Z s;have y:aa (∀ k,j.ownBlock=some k->w.heap.size<=k):=fun k d=>CO g.o.size (u k d);clear s t u
  go_wp2
  go_ret2;exact⟨_,rfl,x.o,o.o,y.o⟩
def NM.sE(N:NM)(M:DM)(to:Int)(b:ByteArray)(f:Nat):Int × NM × DM :=
 if (zM to&&decide (to≠N.tN))=false then(4,N,M) else
 if b.size=0\/64<b.size then(3,N,M) else
 if N.uW=true then(8,N,M) else
 if 32<=N.S.uU.length then(6,N,M) else
 N.rk M (.inr (.inr (.inl (to.toNat,b)))) f
theorem Hd(h:p:=by
 clear i
 go_wp2_with (refine Q.o.mono ?_;rintro e d ⟨rfl,l⟩;subst d)
 go_ret;exact⟨w.heap.size,L,by rw[j.o];rfl,CP _,by rw[j.o];exact NStep.nil u.o (U _ _)⟩):p:=h
theorem He(h:p:=by
 go_wp2_with (refine Q.o.mono ?_;rintro e d ⟨rfl,l⟩;subst d)
 go_ret;exact⟨w.heap.size,L,by rw[j.o];rfl,CP _,by rw[j.o];exact NStep.nil u.o (U _ _)⟩):p:=h
theorem SC(r:zy)(B:Nat)(L:NL)(N:NM)(M:DM)(to:Int)(a:ByteArray)(w:World)(h:NRep w L N M)(he:Ye B L M w)(g:a.size<=64->zM to=true->N.uW=false->Fit N M w.heap.size (.inr (.inr (.inl (to.toNat,a))))) :
 Calls prog 31 #[E L.nb 0,I to,.string a] w fun e J=>∃ f C,e=.returned (I (N.sE M to a f).1)/\w.heap.size<=f/\NStep L M w C (N.sE M to a f).2.1 (N.sE M to a f).2.2 J:=by
 have m:w.cell? (Y L.nb 7)=some (.bool N.uW):=h.td.cell 7;have a0:w.cell? (Y L.nb 2)=some (E L.sb 0):=h.td.cell 2;have Q:=Z (Ut L N M to w h);have u:=Z h;have R:=Z he;have x:=Z g;have T:=Z (X8 a);clear h he g;go_enter func31,ntmps31;cases ho:(zM to&&decide (to≠N.tN)) with
 | false =>
  rw[ho] at Q;have b:N.sE M to a w.heap.size=(4,N,M):=by unfold NM.sE;rw[Bl ho]
  have j:=Z b;clear ho b;exact He
 | true =>
  rw[ho] at Q;have S:aa (zM to=true):=by simp only[Ar] at ho;exact ho.1
  by_cases i:a.size=0\/64<a.size
  .have b:N.sE M to a w.heap.size=(3,N,M):=by unfold NM.sE;rw[CW bD,Bl i]
   have j:=Z b;clear ho b;by_cases o:a.toList=[]
   .exact Hd
   .have h1:64<a.size:=by
     rcases i with i|i
     .rw[T.o] at i;exact absurd (BH i) o
     .exact i
    have h2:(64:Int)<(a.size:Int):=V
    have h3:a.toList.isEmpty=false:=by simpa using o
    exact Hd
  .have o:¬a.toList=[]:=by
    intro h;apply i;left;rw[T.o,h];rfl
   have h1:¬64<a.size:=fun h=>i (.inr h);have h2:¬(64:Int)<(a.size:Int):=V
   have h3:a.toList.isEmpty=false:=by simpa using o
   cases hr:N.uW with
   | true =>
    rw[hr] at m;have b:N.sE M to a w.heap.size=(8,N,M):=by unfold NM.sE;rw[CW bD,CW i,Bl hr]
    have j:=Z b;clear ho b i hr;exact He
   | false =>
    rw[hr] at m;have K:=Z (YV L.sb L.LS N.S w u.o.held);by_cases hm:32<=N.S.uU.length
    .have b:N.sE M to a w.heap.size=(6,N,M):=by unfold NM.sE;rw[CW bD,CW i,CW aM,Bl hm]
     have j:=Z b;have a7:(32:Int)<=(N.S.uU.length:Int):=V
     clear ho b i hr
     go_wp2_with (first|(refine K.o.mono ?_;rintro e d ⟨rfl,l⟩;subst d)|(refine Q.o.mono ?_;rintro e d ⟨rfl,l⟩;subst d))
     exact Rw
    .have b:∀ f,N.sE M to a f=N.rk M (.inr (.inr (.inl (to.toNat,a)))) f:=by intro f;unfold NM.sE;rw[CW bD,CW i,CW aM,CW hm]
     have j:=Z b;have a7:¬(32:Int)<=(N.S.uU.length:Int):=V
     have a6:aa ((to.toNat:Int)=to):=by
      have:=S.o;unfold zM at this;simp only[Bi] at this;exact yj this.1
     have a4:=Z (x.o V S.o hr);have a2:=Z (ZQ a w V);clear ho b i hr
     go_wp2_with (first|(refine K.o.mono ?_;rintro e d ⟨rfl,l⟩;subst d)|(refine Q.o.mono ?_;rintro e d ⟨rfl,l⟩;subst d))
     refine a2.o.mono ?_;rintro e d ⟨rfl,a1⟩;have a3:=Z a1;have HC:aa (∀ t w2,Fr Nil d w2->Calls prog 80 #[E L.nb 0,.string t,.iface 138 (.agg #[I to,.string a])] w2 fun e J =>
      ∃ f v C,e=.returned v/\w.heap.size<=f/\ERep J v (N.change M (.inr (.inr (.inl (to.toNat,a)))) f).1/\NStep L M w C (N.change M (.inr (.inr (.inl (to.toNat,a)))) f).2.1 (N.change M (.inr (.inr (.inl (to.toNat,a)))) f).2.2 J):=by
      intro t w2 f2;have q:=a3.o.trans f2;have s:=a4.o.mono q.size;refine(UN B L N M t (.inr (.inr (.inl (to.toNat,a)))) _ w2 (u.o.nil q) (R.o.nil q).qg (show _=_ by rw[a6.o]) s.ok (fun k hb=>by obtain⟨v,hv,e⟩:=hb;simp at hv;rcases hv with rfl|rfl <;> exact absurd e aB) s.qb s.uR s.uU s.tf).mono ?_;rintro e J ⟨f,v,C,rfl,G,D,c⟩;exact⟨f,v,C,rfl,CO q.size G,D,(NStep.nil u.o q).trans c⟩
     clear a1 m a0;go_wp2_with fail;refine(HC.o _ _ zd).mono ?_;rintro e w3 ⟨f,v1,L1,rfl,G,D,c⟩;have y:=Z c;have A:=Z D;have HF:=Z G;clear D c G;go_wp2_with fail;rw[<- y.o.same.nb];refine(Yn r B L1 _ _ _ _ w3 y.o.th (R.o.step y.o) A.o).mono ?_;rintro e w4 ⟨L2,rfl,c⟩;exact Hb
theorem Tx(L:NL)(N:NM)(M:DM)(w:World)(h:NRep w L N M) :
 Calls prog 39 #[E L.nb 0] w fun e K=>e=.returned (.agg #[.bool N.uW,I N.S.uR.length,I N.S.uU.length])/\Fr Nil w K:=by
 have b:Fr Nil w (w.alloc (Obj.cells #[.bool false,I 0,I 0] 81)):=(U _ _).alloc _;have d:=Blk.new w [.bool false,I 0,I 0] 81;have j:=h.nil b;have B:=Z (fun q (f:Fr Nil w q)=>Vy L.sb L.LS N.S q (h.nil f).held);have D:=Z (fun q (f:Fr Nil w q)=>YV L.sb L.LS N.S q (h.nil f).held);have l:=Z b;have A:=Z d;have y:=Z j;clear h b d j;go_enter func39,ntmps39;go_wp2_with fail;generalize c:w.alloc (Obj.cells #[.bool false,I 0,I 0] 81)=i;have d:Blk i w.heap.size [.bool false,I 0,I 0] 81:=by rw[<- c];exact A.o
 have j:NRep i L N M:=by rw[<- c];exact y.o
 have b:Fr Nil w i:=by rw[<- c];exact l.o
 have s:=Z b;have J:i.cell? (Y L.nb 7)=some (.bool N.uW):=j.td.cell 7;have G:i.cell? (Y L.nb 2)=some (E L.sb 0):=j.td.cell 2;have u:=d.cell;have x:=d.frozen;have r:=Z d;have C:aa (w.heap.size<=w.heap.size):=CP _;clear c j b l A y d;refine yN 15 bI bI ?_;simp only[AF,yC,yk,Au]
 iterate 8 still_step
 still_call (B.o _ (s.o.trans zd))
 iterate 4 still_step
 still_call (D.o _ (s.o.trans zd))
 iterate 1 still_step
 refine vp ?_;go_wp2_with fail;have o:=((r.o.set 0 (.bool N.uW)).set 1 (I N.S.uR.length)).set 2 (I N.S.uU.length);have p:Fr Nil w (((i.setCell (Y w.heap.size 0) (.bool N.uW)).setCell (Y w.heap.size 1) (I N.S.uR.length)).setCell (Y w.heap.size 2) (I N.S.uU.length)) :=
  Fr.set (Fr.set (Fr.set s.o (fun h=>by simp only at h;omega) _) (fun h=>by simp only at h;omega) _) (fun h=>by simp only at h;omega) _
 have m:=Z p;have g:=o.cell;simp only[BD,BI] at g;clear u x p o;generalize ((i.setCell (Y w.heap.size 0) (.bool N.uW)).setCell (Y w.heap.size 1) (I N.S.uR.length)).setCell (Y w.heap.size 2) (I N.S.uU.length)=Q at g m |-;have t:∀ k,Q.drew.cell? (Y w.heap.size k)=[Value.bool N.uW,I N.S.uR.length,I N.S.uU.length][k]?:=g;refine xC (v:=.agg #[.bool N.uW,I N.S.uR.length,I N.S.uU.length]) (by simp[results,Tryz.results39,go_sem,t,isAgg81,sizeOf81]) rfl ⟨rfl,m.o.drew⟩
def NM.tG(N:NM)(M:DM)(key:ByteArray)(vs:NM->Nat->List Ver)(f g:Nat):Nat × Int × NM × DM :=
 match (N.next M f).1 with
 | some n=>(0,n,(N.next M f).2.2.1.rD (some n),(N.next M f).2.2.2)
 | none =>
  match ((N.next M f).2.2.1.change (N.next M f).2.2.2 (.inr (.inl (key,vs (N.next M f).2.2.1 (N.next M f).2.1))) g).1 with
  | some n=>(0,n,((N.next M f).2.2.1.rk (N.next M f).2.2.2 (.inr (.inl (key,vs (N.next M f).2.2.1 (N.next M f).2.1))) g).2)
  | none=>((N.next M f).2.1,0,((N.next M f).2.2.1.rk (N.next M f).2.2.2 (.inr (.inl (key,vs (N.next M f).2.2.1 (N.next M f).2.1))) g).2)
theorem FG(N:NM):N.rD none=N:=by simp[NM.rD]
def Gives(L:NL)(N:NM)(M:DM)(w:World)(c:Nat)(a:Array Value)(vs:NM->Nat->List Ver):Prop :=
 ∀ f,w.heap.size<=f->∀ (g:NL) (b:World),NStep L M w g (N.next M f).2.2.1 (N.next M f).2.2.2 b->Calls prog c (#[I (N.next M f).2.1]++a) b fun e d=>∃ v,e=.returned v/\VRow d v (vs (N.next M f).2.2.1 (N.next M f).2.1)/\Fr Nil b d/\(∀ k,v.ownBlock=some k->w.heap.size<=k)
theorem Hf(N:NM)(M:DM)(f:Nat):(N.next M f).2.2.1.S.uR=N.S.uR/\(N.next M f).2.2.1.S.uU=N.S.uU/\(N.next M f).2.2.1.tN=N.tN/\(N.next M f).2.2.1.uW=N.uW/\(N.next M f).2.2.1.tH=N.tH/\(N.next M f).2.2.1.tf=N.tf:=by
 have a:∀ k,(N.so M (.inl k) f).2.1.S.uR=N.S.uR/\(N.so M (.inl k) f).2.1.S.uU=N.S.uU:=by
  intro k;unfold NM.so;simp only;split <;> exact⟨rfl,rfl⟩
 have b:(N.sN M f).2.1.S.uR=N.S.uR/\(N.sN M f).2.1.S.uU=N.S.uU/\(N.sN M f).2.1.tN=N.tN/\(N.sN M f).2.1.uW=N.uW/\(N.sN M f).2.1.tH=N.tH/\(N.sN M f).2.1.tf=N.tf:=by
  unfold NM.sN;split
  .exact⟨(a _).1,(a _).2,rfl,rfl,rfl,rfl⟩
  .exact⟨(a _).1,(a _).2,rfl,rfl,rfl,rfl⟩
 unfold NM.next;split
 .exact⟨rfl,rfl,rfl,rfl,rfl,rfl⟩
 .split
  .exact b
  .exact b
def Apart2(N:NM)(M:DM)(f g:Nat):Prop:=f=g->f∉(N.next M f).2.2.2.tL
theorem US(N:NM)(M:DM){f g:Nat}(h:f≠g):Apart2 N M f g:=fun e=>absurd e h
theorem Uu(R:zy)(B:Nat)(L:NL)(N:NM)(M:DM)(key:ByteArray)(vs:NM->Nat->List Ver)(c:Nat)(K:Array Value)(w:World)(h:NRep w L N M)(he:Ye B L M w)(y:Gives L N M w c K vs)(c6:∀ xs w,Sem.run prog (callFunc c xs) w=.ok (.enter c xs) w)
 (a9:key.size<=1000000000)(X:Xs N.J M w.heap.size (zj (.inl (N.uY+16))).size)(T:N.S.uR.length<1099511627776)(hh:N.S.uU.length<1000000)(a8:N.uY<1000000000000)
 (S:∀ f,w.heap.size<=f->(N.next M f).1=none->∀ H,w.heap.size<=H->(∀ i∈(N.next M f).2.2.2.tL,i<H)->Fit (N.next M f).2.2.1 (N.next M f).2.2.2 H (.inr (.inl (key,vs (N.next M f).2.2.1 (N.next M f).2.1)))) :
 Calls prog 70 #[E L.nb 0,.string key,.func (.func c) #[] K] w fun e w'=>∃ f g L',e=.returned (.tuple #[I (N.tG M key vs f g).1,I (N.tG M key vs f g).2.1])/\w.heap.size<=f/\w.heap.size<=g/\Apart2 N M f g/\NStep L M w L' (N.tG M key vs f g).2.2.1 (N.tG M key vs f g).2.2.2 w':=by
 have HX:=Z (KE B L N M w h he.qg X T hh a8);have HE:=Z he;have HH:=Z h;have HG:=Z y;have a4:=Z S;clear h he y X T hh a8 S;go_enter func70,ntmps70;go_wp2_with fail;refine HX.o.mono ?_;rintro e w1 ⟨f,v1,L1,rfl,hf,Q,a⟩;have o:=Z a;have HF:=Z hf;cases hx:(N.next M f).1 with
 | some n =>
  have hp:∀ g,N.tG M key vs f g=(0,n,(N.next M f).2.2.1.rD (some n),(N.next M f).2.2.2):=by intro g;unfold NM.tG;rw[hx]
  have x:=Z hp;rw[hx] at Q;have b6:=Z Q;obtain⟨k,T⟩:=Q;obtain⟨t,b,rfl⟩:=T.form;generalize (N.next M f).2.2.1=d at a o x;generalize (N.next M f).2.2.2=l at a o x;generalize (N.next M f).2.1=j;clear hx hp T a hf;go_wp2_with fail;rw[<- o.o.same.nb];refine(Yn R B L1 _ _ _ _ w1 o.o.th (HE.o.step o.o) b6.o).mono ?_;rintro e w2 ⟨L2,rfl,a⟩;have G:=Z (o.o.trans a);clear a
  go_wp2
  go_ret2;refine⟨f,f+1,L2,?_,HF.o,As HF.o,US N M V,?_⟩
  .rw[x.o];rfl
  .rw[x.o];exact G.o
 | none =>
  rw[hx] at Q;have hv:v1=.nilIface:=Q;subst hv;have b1:∀ g n,((N.next M f).2.2.1.change (N.next M f).2.2.2 (.inr (.inl (key,vs (N.next M f).2.2.1 (N.next M f).2.1))) g).1=some n->N.tG M key vs f g=(0,n,((N.next M f).2.2.1.rk (N.next M f).2.2.2 (.inr (.inl (key,vs (N.next M f).2.2.1 (N.next M f).2.1))) g).2):=by intro g n h;unfold NM.tG;rw[hx];simp only;rw[h]
  have b0:∀ g,((N.next M f).2.2.1.change (N.next M f).2.2.2 (.inr (.inl (key,vs (N.next M f).2.2.1 (N.next M f).2.1))) g).1=none->N.tG M key vs f g=((N.next M f).2.1,0,((N.next M f).2.2.1.rk (N.next M f).2.2.2 (.inr (.inl (key,vs (N.next M f).2.2.1 (N.next M f).2.1))) g).2):=by intro g h;unfold NM.tG;rw[hx];simp only;rw[h]
  have D:=Z b1;have C:=Z b0;have HT:=Z (a4.o f hf hx w1.heap.size a.fr.size (fun i hi=>(a.th.sf.tw i hi).lt));have a7:∀ g,w1.heap.size<=g->Apart2 N M f g:=fun g y e hi=>by have:=(a.th.sf.tw f hi).lt;omega
  have b4:=Z a7;have A:=Z (HG.o f hf);generalize (N.next M f).2.2.1=d at a o D C HT A;generalize (N.next M f).2.2.2=l at a o D C HT A;generalize (N.next M f).2.1=j at D C HT A;have b5:=Z (ZQ key w1 a9);clear Q hx a hf b1 b0 a7;go_wp2_with fail;refine b5.o.mono ?_;rintro e w2 ⟨rfl,J⟩;have G:=Z (o.o.tR J);have c1:=Z J.size;have b8:=Z (A.o L1 w2 G.o);have c3:=Z (CO o.o.fr.size J.size);clear J;go_wp2_with fail;refine b8.o.mono ?_;rintro e w3 ⟨v3,rfl,r,a1,a0⟩;have b9:=Z (G.o.tR a1);have a6:=Z (CO c1.o a1.size);have HC:aa (∀ u w4,Fr Nil w3 w4->Calls prog 80 #[E L.nb 0,.string u,.iface 193 (.agg #[.string key,v3])] w4 fun e w' =>
   ∃ g v L',e=.returned v/\w1.heap.size<=g/\ERep w' v (d.change l (.inr (.inl (key,vs d j))) g).1/\NStep L M w L' (d.change l (.inr (.inl (key,vs d j))) g).2.1 (d.change l (.inr (.inl (key,vs d j))) g).2.2 w'):=by
   intro u w4 f4;have b2:=b9.o.tR f4;have q:=HT.o.mono (CO a6.o f4.size);have a2:VRow w4 v3 (vs d j):=VRow.fr r f4 (fun _ _=>id);rw[<- o.o.same.nb];refine(VM B L M w L1 d l u (.inr (.inl (key,vs d j))) _ w4 b2 (HE.o.step b2).qg ⟨v3,rfl,a2⟩ q.ok (fun k hb=>?_) q.qb q.uR q.uU q.tf).mono ?_
   .obtain⟨v,hv,e⟩:=hb
    simp at hv;rcases hv with rfl|rfl
    .exact absurd e aB
    .exact .inr (a0 k e)
   .rintro e w' ⟨g,v,L',rfl,y,Q,a⟩
    exact⟨g,v,L',rfl,CO (CO a6.o f4.size) y,Q,a⟩
  obtain⟨c4,c5,b3⟩:=zf r;rw[b3] at HC |-;clear r a1 a0 b3;go_wp2_with fail;refine(HC.o _ _ zd).mono ?_;rintro e w5 ⟨g,v5,L5,rfl,y,m,s⟩;have a5:=Z (CO o.o.fr.size y);have a3:=Z (b4.o g y);have p:=Z s;cases hc:(d.change l (.inr (.inl (key,vs d j))) g).1 with
  | some n =>
   have x:=Z (D.o g n hc);rw[hc] at m;have b7:=Z m;have HA:aa ((d.rk l (.inr (.inl (key,vs d j))) g).2=((d.change l (.inr (.inl (key,vs d j))) g).2.1.rD (some n),(d.change l (.inr (.inl (key,vs d j))) g).2.2)):=by unfold NM.rk;rw[hc];exact rfl
   obtain⟨k,T⟩:=m;obtain⟨t,b,rfl⟩:=T.form;clear hc T s y;go_wp2_with fail;rw[<- p.o.same.nb];refine(Yn R B L5 _ _ _ _ w5 p.o.th (HE.o.step p.o) b7.o).mono ?_;rintro e w6 ⟨L6,rfl,a⟩;have c0:=Z (p.o.trans a);clear a
   go_wp2
   go_ret2;refine⟨f,g,L6,?_,HF.o,a5.o,a3.o,?_⟩
   .rw[x.o];rfl
   .rw[x.o,HA.o];exact c0.o
  | none =>
   have x:=Z (C.o g hc);rw[hc] at m;have c2:v5=.nilIface:=m;subst c2;have ha:(d.rk l (.inr (.inl (key,vs d j))) g).2=((d.change l (.inr (.inl (key,vs d j))) g).2.1,(d.change l (.inr (.inl (key,vs d j))) g).2.2):=by
    show((d.change l (.inr (.inl (key,vs d j))) g).2.1.rD _,_)=_;rw[hc,FG]
   have HA:=Z ha;clear hc s y m ha;go_wp2_with fail;go_ret2;refine⟨f,g,L5,?_,HF.o,a5.o,a3.o,?_⟩
   .rw[x.o];rfl
   .rw[x.o,HA.o];exact p.o
theorem Hg(a:Array Value)(w:World):Sem.run prog (callFunc 82 a) w=.ok (.enter 82 a) w:=bI
theorem Cu(a:Array Value)(w:World):Sem.run prog (callFunc 71 a) w=.ok (.enter 71 a) w:=bI
structure Wq(N:NM)(M:DM)(H:Nat)(key:ByteArray)(vs:NM->Nat->List Ver):Prop where
 qb:Xs N.J M H (zj (.inl (N.uY+16))).size
 uR:N.S.uR.length<1099511627776
 uU:N.S.uU.length<1000000
 uY:N.uY<1000000000000
 oX:∀ f,H<=f->(N.next M f).1=none->∀ H',H<=H'->(∀ i∈(N.next M f).2.2.2.tL,i<H')->Fit (N.next M f).2.2.1 (N.next M f).2.2.2 H' (.inr (.inl (key,vs (N.next M f).2.2.1 (N.next M f).2.1)))
def NM.sr(N:NM)(M:DM)(key:ByteArray)(f g:Nat):Nat × Int × NM × DM :=
 if zu key=false then(0,2,N,M) else if N.uW=true then(0,8,N,M) else N.tG M key (fun _ _=>[]) f g
theorem Hh(h:p:=by
 go_wp2_with (refine D.o.mono ?_;rintro e q ⟨rfl,S⟩;subst q)
 go_ret2;exact⟨w.heap.size,w.heap.size+1,L,by rw[o.o];rfl,CP _,yc _,US N M V,by rw[o.o];exact NStep.nil T.o (U _ _)⟩):p:=h
theorem Hi(h:p:=by
 clear hf hg d G
 go_wp2
 go_ret2;exact⟨f,g,L2,by rw[o.o];rfl,HF.o,HG.o,a0.o,by rw[o.o];exact HS.o⟩):p:=h
theorem Vi(y:zy)(B:Nat)(L:NL)(N:NM)(M:DM)(key:ByteArray)(w:World)(h:NRep w L N M)(he:Ye B L M w)(i:zu key=true->N.uW=false->Wq N M w.heap.size key (fun _ _=>[])) :
 Calls prog 30 #[E L.nb 0,.string key] w fun e w'=>∃ f g L',e=.returned (.tuple #[I (N.sr M key f g).1,I (N.sr M key f g).2.1])/\w.heap.size<=f/\w.heap.size<=g/\Apart2 N M f g/\NStep L M w L' (N.sr M key f g).2.2.1 (N.sr M key f g).2.2.2 w':=by
 have x:w.cell? (Y L.nb 7)=some (.bool N.uW):=h.td.cell 7;have D:=Z (Wu key w);have T:=Z h;have HE:=Z he;have HT:=Z i;clear h he i;go_enter func30,ntmps30;cases hb:zu key with
 | false =>
  rw[hb] at D;have b:N.sr M key w.heap.size (w.heap.size+1)=(0,2,N,M):=by unfold NM.sr;rw[Bl hb]
  have o:=Z b;clear hb b;exact Hh
 | true =>
  rw[hb] at D;have j:key.size<=32:=by unfold zu at hb;simp only[Bi] at hb;exact hb.2
  have R:=Z j;cases hr:N.uW with
  | true =>
   rw[hr] at x;have b:N.sr M key w.heap.size (w.heap.size+1)=(0,8,N,M):=by unfold NM.sr;rw[CW aZ,Bl hr]
   have o:=Z b;clear hb b j hr;exact Hh
  | false =>
   have c:=Z (HT.o hb hr);rw[hr] at x;have b:∀ f g,N.sr M key f g=N.tG M key (fun _ _=>[]) f g:=by intro f g;unfold NM.sr;rw[CW aZ,CW aM]
   have o:=Z b;clear hb b j hr
   go_wp2_with (refine D.o.mono ?_;rintro e q ⟨rfl,S⟩;subst q)
   refine(Uu y B L N M key (fun _ _=>[]) 82 #[] w T.o HE.o ?_ Hg (CO R.o O) c.o.qb c.o.uR c.o.uU c.o.uY c.o.oX).mono ?_
   .intro X _ L1 q _
    refine(QS (I (N.next M X).2.1) q).mono ?_;rintro e w2 ⟨rfl,rfl⟩;exact⟨_,rfl,Bf _ 0 _ _,U _ _,fun k hk=>absurd hk aB⟩
   .rintro e w2 ⟨f,g,L2,rfl,hf,hg,d,G⟩
    have HF:=Z hf;have HG:=Z hg;have a0:=Z d;have HS:=Z G;exact Hi
def putV(key a:ByteArray)(N:NM)(n:Nat):List Ver :=
 [{node:=N.tN,seq:=n,o0:=grV (zn N.S.uR key) 0,o1:=grV (zn N.S.uR key) 1,o2:=grV (zn N.S.uR key) 2,o3:=grV (zn N.S.uR key) 3,value:=a,ts:=false}]
theorem KN(L:NL)(N:NM)(M:DM)(key a:ByteArray)(B C D n:Nat)(w:World)(h:NRep w L N M)(m:Blk w B [E L.nb 0] 41)(o:Blk w C [.string key] 9)(p:Blk w D [.string a] 9)
 (A:N.S.uR.length<1099511627776)(d:∀ u∈zn N.S.uR key,zW u.node)(i:a.size<=1000000000) :
 Calls prog 71 #[I n,E B 0,E C 0,E D 0] w fun e b=>∃ v,e=.returned v/\VRow b v (putV key a N n)/\Fr Nil w b/\(∀ k,v.ownBlock=some k->w.heap.size<=k):=by
 have j:aa (∀ b,Fr Nil w b->b.cell? (Y B 0)=some (E L.nb 0)/\b.cell? (Y C 0)=some (.string key)/\b.cell? (Y D 0)=some (.string a)/\b.cell? (Y L.nb 0)=some (I N.tN)/\b.cell? (Y L.nb 2)=some (E L.sb 0)) :=
  fun b f=>⟨(m.fr f id).cell 0,(o.fr f id).cell 0,(p.fr f id).cell 0,(h.td.fr f id).cell 0,(h.td.fr f id).cell 2⟩
 have T:=Z (fun b (f:Fr Nil w b)=>Wn key L.sb L.LS N.S b (h.held.nil f) A);have S:=Z (fun b (f:Fr Nil w b)=>Rt (getE L.LS.sC key) (zn N.S.uR key) d b ((h.held.nil f).getE key));have Q:=Z (fun b=>ZQ a b i);obtain⟨X,a0,a1,a2,a3⟩:=j.o w (U _ _);clear h m o p A d i;go_enter func71,ntmps71;go_wp2_with fail
 go_region_held3 (fun b=>b.cell? (Y B 0)=some (E L.nb 0)/\b.cell? (Y C 0)=some (.string key)/\b.cell? (Y D 0)=some (.string a)/\b.cell? (Y L.nb 0)=some (I N.tN)/\b.cell? (Y L.nb 2)=some (E L.sb 0)) (first|assumption|go_keep|exact j.o _ zd)
  (first
  | (go_at_call 72;refine(S.o _ zd).mono ?_;rintro e J ⟨rfl,s⟩;have t:Fr Nil w J:=Fr.trans zd s;have a5:=j.o J t;clear s)
  | (go_at_call 74;refine(Q.o _).mono ?_;rintro e wc ⟨rfl,r⟩;have c:Fr Nil w wc:=Fr.trans zd r;have a4:=j.o wc c;clear r)
  | (go_at_call 73;refine(T.o _ zd).mono ?_;rintro e K ⟨rfl,x⟩;have y:Fr Nil w K:=Fr.trans zd x;have a6:=j.o K y;clear x))
 have q:=Blk.new wc [I N.tN,I n,I (grV (zn N.S.uR key) 0),I (grV (zn N.S.uR key) 1),I (grV (zn N.S.uR key) 2),I (grV (zn N.S.uR key) 3),.string a,.bool false] 37;have g:VRow _ (.slice (some (Y wc.heap.size 0)) 1 1) (putV key a N n):=Yw (cap:=1) q (CP _) O rfl rfl;have l:=Z g;have R:=Z (c.alloc (.cells #[I N.tN,I n,I (grV (zn N.S.uR key) 0),I (grV (zn N.S.uR key) 1),I (grV (zn N.S.uR key) 2),I (grV (zn N.S.uR key) 3),.string a,.bool false] 37));have G:=Z c.size;clear q g
 go_wp2
 go_ret;exact⟨_,rfl,l.o,R.o,fun k A=>by simp[Value.ownBlock] at A;subst A;exact G.o⟩
theorem Xv(w:World)(a:Obj):(w.alloc a).heap.size=w.heap.size+1:=Array.size_push ..
theorem Wq.mono{N:NM}{H e:Nat}{key:ByteArray}{vs:NM->Nat->List Ver}(h:Wq N M H key vs)(c:H<=e):Wq N M e key vs :=
 ⟨h.qb.mono c,h.uR,h.uU,h.uY,fun f r y g o=>h.oX f (CO c r) y g (CO c o)⟩
def NM.put(N:NM)(M:DM)(key a:ByteArray)(f g:Nat):Nat × Int × NM × DM :=
 if zu key=false then(0,2,N,M) else if 128<a.size then(0,3,N,M) else if N.uW=true then(0,8,N,M) else N.tG M key (putV key a) f g
theorem PY(h:p:=by
 go_wp2
 go_ret2;exact⟨w.heap.size,w.heap.size+1,L,by rw[o.o];rfl,CP _,yc _,US N M V,by rw[o.o];exact NStep.nil T.o l.o⟩):p:=h
theorem WF(y:zy)(B:Nat)(L:NL)(N:NM)(M:DM)(key a:ByteArray)(w:World)(h:NRep w L N M)(he:Ye B L M w)(C:∀ u∈zn N.S.uR key,zW u.node)
 (i:zu key=true->a.size<=128->N.uW=false->Wq N M w.heap.size key (putV key a)) :
 Calls prog 22 #[E L.nb 0,.string key,.string a] w fun e w'=>∃ f g L',e=.returned (.tuple #[I (N.put M key a f g).1,I (N.put M key a f g).2.1])/\w.heap.size<=f/\w.heap.size<=g/\Apart2 N M f g/\NStep L M w L' (N.put M key a f g).2.2.1 (N.put M key a f g).2.2.2 w':=by
 have T:=Z h;have HE:=Z he;have HT:=Z i;have a2:=Z C;clear h he i C;go_enter func22,ntmps22;go_wp2_with fail;have hA:=Blk.new w [E L.nb 0] 41;have K:=Blk.new (w.alloc (.cells #[E L.nb 0] 41)) [.string key] 9;have hC:=Blk.new ((w.alloc (.cells #[E L.nb 0] 41)).alloc (.cells #[.string key] 9)) [.string a] 9;have J:Fr Nil (w.alloc (.cells #[E L.nb 0] 41)) (((w.alloc (.cells #[E L.nb 0] 41)).alloc (.cells #[.string key] 9)).alloc (.cells #[.string a] 9)):=((U _ _).alloc _).alloc _;have f2:Fr Nil ((w.alloc (.cells #[E L.nb 0] 41)).alloc (.cells #[.string key] 9)) (((w.alloc (.cells #[E L.nb 0] 41)).alloc (.cells #[.string key] 9)).alloc (.cells #[.string a] 9)):=(U _ _).alloc _;have X:Fr Nil w (((w.alloc (.cells #[E L.nb 0] 41)).alloc (.cells #[.string key] 9)).alloc (.cells #[.string a] 9)):=((U _ _).alloc _).trans J;have s1:(w.alloc (.cells #[E L.nb 0] 41)).heap.size=w.heap.size+1:=Xv _ _;have s2:((w.alloc (.cells #[E L.nb 0] 41)).alloc (.cells #[.string key] 9)).heap.size=w.heap.size+1+1:=by rw[Xv,Xv]
 have hA:=hA.fr J id;have K:=K.fr f2 id;rw[s1] at K;rw[s2] at hC;clear J f2 s1 s2;generalize ((w.alloc (.cells #[E L.nb 0] 41)).alloc (.cells #[.string key] 9)).alloc (.cells #[.string a] 9)=Q at hA K hC X |-;have l:=Z X;have b1:Q.cell? (Y w.heap.size 0)=some (E L.nb 0):=hA.cell 0;have a7:Q.cell? (Y (w.heap.size+1) 0)=some (.string key):=K.cell 0;have a8:Q.cell? (Y (w.heap.size+1+1) 0)=some (.string a):=hC.cell 0;generalize w.heap.size+1+1=b3 at hC a8 |-;generalize w.heap.size+1=b2 at K a7 |-;have HA:=Z hA;have HB:=Z K;have HC:=Z hC;have HR:=Z (T.o.nil X);have x:Q.cell? (Y L.nb 7)=some (.bool N.uW):=HR.o.td.cell 7;have D:=Z (Wu key Q);clear hA K hC X;cases hb:zu key with
 | false =>
  rw[hb] at D;have b:N.put M key a w.heap.size (w.heap.size+1)=(0,2,N,M):=by unfold NM.put;rw[Bl hb]
  have o:=Z b;clear hb b;refine D.o.mono ?_;rintro e q ⟨rfl,S⟩;subst q;exact PY
 | true =>
  rw[hb] at D;have j:key.size<=32:=by unfold zu at hb;simp only[Bi] at hb;exact hb.2
  have R:=Z j;refine D.o.mono ?_;rintro e q ⟨rfl,S⟩;subst q;by_cases hv:128<a.size
  .have b:N.put M key a w.heap.size (w.heap.size+1)=(0,3,N,M):=by unfold NM.put;rw[CW aZ,Bl hv]
   have o:=Z b;have a9:(128:Int)<(a.size:Int):=V
   clear hb b j;exact PY
  .have a9:¬(128:Int)<(a.size:Int):=V
   cases hr:N.uW with
   | true =>
    rw[hr] at x;have b:N.put M key a w.heap.size (w.heap.size+1)=(0,8,N,M):=by unfold NM.put;rw[CW aZ,CW hv,Bl hr]
    have o:=Z b;clear hb b j hr;exact PY
   | false =>
    rw[hr] at x;have b:∀ f g,N.put M key a f g=N.tG M key (putV key a) f g:=by intro f g;unfold NM.put;rw[CW aZ,CW hv,CW aM]
    have o:=Z b;have c:=Z (HT.o hb V hr);have a3:aa (a.size<=1000000000):=by show _<=_;omega
    clear hb b j hr;have a1:aa (Gives L N M Q 71 #[E w.heap.size 0,E b2 0,E b3 0] (putV key a)):=by
     intro J b0 L1 q s;have A:=(Hf N M J).1;have d:∀ {k t},Ty Q k t->t≠123->t≠197->t≠161->t≠239->t≠75->¬DTy t->t≠201->¬NFoot L M k:=fun hk q1 q2 q3 q4 q5 q6 q7=>HR.o.apart hk q1 q2 q3 q4 q5 q6 q7;have a4:Blk q w.heap.size [E L1.nb 0] 41:=by
      rw[s.same.nb];exact HA.o.fr s.fr (d HA.o.ty O O O O O ae O)
     have a5:=HB.o.fr s.fr (d HB.o.ty O O O O O ae O);have a6:=HC.o.fr s.fr (d HC.o.ty O O O O O ae O);refine(KN L1 (N.next M J).2.2.1 (N.next M J).2.2.2 key a w.heap.size b2 b3 (N.next M J).2.1 q s.th a4 a5 a6 (by rw[A];exact c.o.uR) (by rw[A];exact a2.o) a3.o).mono ?_;rintro e w2 ⟨v,rfl,h1,h2,h3⟩;exact⟨v,rfl,h1,h2,fun k hk=>CO s.fr.size (h3 k hk)⟩
    have r:=Z (c.o.mono l.o.size);go_wp2_with fail;refine(Uu y B L N M key (putV key a) 71 _ Q HR.o (HE.o.nil l.o) a1.o Cu (CO R.o O) r.o.qb r.o.uR r.o.uU r.o.uY r.o.oX).mono ?_;rintro e w2 ⟨f,g,L2,rfl,hf,hg,d,G⟩;have a0:=Z d;have HF:=Z (CO l.o.size hf);have HG:=Z (CO l.o.size hg);have HS:=Z ((NStep.nil T.o l.o).trans G);exact Hi
end Go.Proofs.YtkhnggkkiefcdaaGreatDoor
