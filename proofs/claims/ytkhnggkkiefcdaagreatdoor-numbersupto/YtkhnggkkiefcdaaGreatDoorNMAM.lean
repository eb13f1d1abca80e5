/- larder: joined texts -/
import Derived.Test.YtkhnggkkiefcdaaGreatDoorNMAD
import Derived.Test.YtkhnggkkiefcdaaGreatDoorNMAE
import Derived.Test.YtkhnggkkiefcdaaGreatDoorNMAK
import Derived.Test.YtkhnggkkiefcdaaGreatDoorNMAL
import Derived.RangeFuncFrom
import Derived.Deep.RegionHeld3
import Derived.OrdersIn
import Derived.StillTailTactics
namespace Go.Proofs.YtkhnggkkiefcdaaGreatDoor
open Go.RowKit Go.Shelf
set_option maxRecDepth 100000
set_option maxHeartbeats 8000000
attribute [local go_sem] GF
abbrev Fm:=@Go.KeepsOthers.setCell
abbrev ER:=@Go.grownBy_putObj'
theorem XM{F:Fence}{n:Nat}{P:Program}{g:Operand}{R:Array Tmp}{assign body:Code}{Q:Exit->Act->World->Prop}{a:Act}{w:World}
 (a7:F.round=none)(h1:1<=n){gf:Nat}{lb:Array Value}(hg:a.eval g=.func (.func gf) #[] lb)(V:F.fn gf)(eg:∀ args w,(callFunc gf args).run P w=.ok (.enter gf args) w)
 (N:Nat)(b:Nat->Array Value)(a6:∀ i,(b i).size=R.size)(I:Nat->World->Prop)(s:OwnFrom w.heap.size I)(h0:I 0 w)
 (M:∀ (l:Nat)(J:Nat->World->Prop)(W:World),Below w.heap.size w W->AbidesFrom W.heap.size J->(∀ i C,J i C->I i C) ->
   (∀ i C,i<N->J i C->YieldAt F (n-1-1) P l (b i) C fun e y=>e=.returned (.bool true)/\J (i+1) y)->J 0 W ->
   CallsIn F (n-1) P gf (#[.func (.yield l) #[] #[]]++lb) W fun e y=>(∃ v,e=.returned v)/\J N y)
 (a1:Nat->Act)
 (c:∀ (l i:Nat)(W:World)(K:Act->World->Prop),K (a1 i) W ->
   assign.wpIn (F.inRound l) (n-1-1) P (Exit.then K (fun _ _ _=>False)) {tmps:=(R.zip (b i)).foldl (fun t (p,v)=>t.setIfInBounds p v) a.tmps,defers:=[]} W)
 (d:∀ (l i:Nat)(W:World),i<N->I i W->body.wpIn (F.inRound l) (n-1-1) P (ownPostK (fun _ _=>True) (fun _ y=>I (i+1) y) (fun _ (_:List Unit) _=>False) [] W) (a1 i) W)
 (f:∀ (D:Nat)(W:World),w.heap.size<=D->I N W->W.heap[D]?=some (.deferred (some []))->Q .normal {a with defers:={target:=.collected D,args:=#[]}::a.defers} W) :
 (Code.rangeFunc g R assign body).wpIn F n P Q a w:=by
 refine wpIn_rangeFunc fun fn a0=>?_;rw[a7];obtain⟨r,x⟩:∃ r:LoopState->Loop,r=fun st=>{state:=st,pending:=none,fn,tmps:=a.tmps,params:=R,assign,body,defers:=w.heap.size}:=⟨_,rfl⟩;have k:∀ st,(r st).state=st/\(r st).pending=none:=fun st=>by rw[x];exact⟨rfl,rfl⟩
 have O:∀ st m,{r st with state:=m}=r m:=fun st m=>by rw[x]
 have b1:Below w.heap.size w ((w.alloc (.deferred (some []))).alloc (.loop (r .ready))):=((DY _ w).alloc (JS _) _).alloc (by simp) _;have i1:I 0 ((w.alloc (.deferred (some []))).alloc (.loop (r .ready))):=s.alloc _ (s.alloc _ h0);have l1:((w.alloc (.deferred (some []))).alloc (.loop (r .ready))).heap[w.heap.size+1]?=some (.loop (r .ready)):=by
  have:=World.alloc_heap_new (w.alloc (.deferred (some []))) (.loop (r .ready))
  rwa [Fe] at this
 have d1:((w.alloc (.deferred (some []))).alloc (.loop (r .ready))).heap[w.heap.size]?=some (.deferred (some [])) :=
  (FE _ _ _ (by simp)).trans (World.alloc_heap_new w _)
 have G:(Instr.enterLoop fn a.tmps R assign body none).run P w=.ok (w.heap.size+1,[{target:=.collected w.heap.size,args:=#[]}]) ((w.alloc (.deferred (some []))).alloc (.loop (r .ready))):=by
  rw[x];exact run_enterLoop_outer _ _ _ _ _
 have hz:w.heap.size+2<=((w.alloc (.deferred (some []))).alloc (.loop (r .ready))).heap.size:=by simp
 generalize (w.alloc (.deferred (some []))).alloc (.loop (r .ready))=T at b1 i1 l1 d1 G hz;refine⟨w.heap.size+1,_,T,{target:=.fn (.func gf) lb,args:=#[.func (.yield (w.heap.size+1)) #[] #[]]},T,gf,#[.func (.yield (w.heap.size+1)) #[] #[]]++lb,T,G,?_,?_,?_,fun _=>h1,?_⟩
 .simp only[resolve,hg]
  simp[go_sem]
 .intro f' hf'
  simp[Target.leads] at hf';subst hf';exact V
 .simp[invoke,go_sem,eg]
 .refine(M (w.heap.size+1) (fun i W=>I i W/\W.heap[w.heap.size+1]?=some (.loop (r .ready))/\W.heap[w.heap.size]?=some (.deferred (some []))) T b1 ?_ (fun _ _ h=>h.1) ?_ ⟨i1,l1,d1⟩).mono ?_
  .rintro i A B row ⟨h,hl,hd⟩ hgr hrow
   have hw:∀ q,row=some q->∃ o:Obj,A.heap[q]?=some o/\o.isWalk=true:=fun q e=>(hrow q e).2;exact⟨s i A B row h hgr (fun q e=>by obtain⟨hq,o,ho,a8⟩:=hrow q e;exact⟨by omega,o,ho,Obj.not_cells_of_walk a8⟩),(grownBy_keeps hgr hw hl rfl).trans hl,(grownBy_keeps hgr hw hd rfl).trans hd⟩
  .rintro i W hi ⟨h,hl,hd⟩
   have a5:w.heap.size+1<W.heap.size:=(IV.1 hl).1;have hy:=run_yield (P:=P) (args:=b i) hl (by rw[x];exact a6 i);rw[x] at hy;refine⟨fn,_,assign,body,hy,roundIn_of_wpIn a0 (c _ i W _ ⟨_,run_beginRound hl (k _).1,?_⟩)⟩;rw[O];have a4:(W.putObj (w.heap.size+1) (.loop (r .busy))).heap[w.heap.size+1]?=some (.loop (r .busy)):=World.putObj_heap_same a5;have X:(W.putObj (w.heap.size+1) (.loop (r .busy))).heap[w.heap.size]?=some (.deferred (some [])):=(FG (by omega)).trans hd;refine wpIn_mono (d _ i _ hi (s.putObj _ h (by omega) hl rfl)) ?_;rintro e a3 W3 u;cases e with
   | normal =>
    obtain⟨L,-,a2⟩:=u;have j:=L.same _ _ a4 rfl;have Y:=L.same _ _ X rfl;have E:=run_endRound (P:=P) none j;have e2:({r .busy with state:=if (none:Option Code).isNone then .ready else .done,pending:=none}:Loop)=r .ready:=by rw[x];rfl
    rw[e2] at E;exact⟨_,_,E,rfl,s.putObj _ a2 (by omega) j rfl,World.putObj_heap_same (IV.1 j).1,(FG (by omega)).trans Y⟩
   | ret=>exact u.2.elim
   | exit id=>exact u.2.elim
   | goto t=>exact u.2.elim
   | panic ch=>exact u.elim
   | outgrown=>exact u.elim
  .rintro e W2 ⟨⟨v,rfl⟩,h,hl,hd⟩
   have E:=run_endLoop (P:=P) hl (by rw[(k _).1];decide);rw[(k _).2] at E;exact⟨none,_,E,f _ _ (JS _) (s.putObj _ h (by omega) hl rfl) ((FG (by omega)).trans hd)⟩
def ZT(a:List (Nat × ByteArray))(i:Nat):Nat × ByteArray:=a.getD i (0,ByteArray.empty)
def UU(a:List (Nat × ByteArray))(i:Nat):Array Value:=#[.int .i64 (ZT a i).1,.string (ZT a i).2]
theorem Pa(F:Fence)(n:Nat)(L:F.fn 187)(u:F.round=none)(hn:1<=n)(l x C:Nat)(v:Value)(a:List (Nat × ByteArray))(J:Nat->World->Prop)
 (W:World)(hl:a.length<4611686018427387904)
 (M:AbidesFrom W.heap.size J)(d:∀ i f,J i f->f.ownsRow 0 268 2 v a.length (Zl a))
 (N:∀ i f,i<a.length->J i f->YieldAt F (n-1) Tryz.prog l (UU a i) f fun e q=>e=.returned (.bool true)/\J (i+1) q)
 (K:W.cell? ⟨x,0,none⟩=some (.pointer (some ⟨C,0,none⟩)))(T:W.cell? ⟨C,0,none⟩=some v)(A:J 0 W) :
 CallsIn F n Tryz.prog 187 #[.func (.yield l) #[] #[],.pointer (some ⟨x,0,none⟩)] W fun e q=>(∃ r,e=.returned r)/\J a.length q:=by
 obtain⟨I,s,rfl⟩:=zg (d 0 W A);refine Co Tryz.func187 rfl L ?_ u;simp only[Tryz.ntmps187,Gv,Ih,IR,Nat.reduceAdd,Nat.reduceSub,GD,GE,GZ,GL,IE,It]
 gi_wp2
 gi_loopw [10] (fun i wr=>∃ k:Nat,k<=a.length/\i=.int .i64 k/\J k wr) (fun i _=>a.length-(intOf i).toNat)
 case atStart=>exact⟨0,Iq _,rfl,A⟩
 case round =>
  obtain⟨k,Y,rfl,b⟩:=hrel;by_cases c:k<a.length
  .have hvr:=d _ _ b
   obtain⟨g,h,R,_,_⟩:=zz hvr (by omega);obtain⟨rfl,rfl⟩:I=some ⟨g,0,none⟩/\s=h:=by simpa using R
   have O:=own_cell? hvr (k*2) _ (Xn a k c).1;have Q:=own_cell? hvr (k*2+1) _ (Xn a k c).2;have j:J k (wr.alloc (.cells #[.int .i64 a[k].1,.string a[k].2] 268)):=M _ _ _ none b (EW ..) (fun r e=>by cases e);have m:=N k _ c j;rw[show UU a k=#[.int .i64 a[k].1,.string a[k].2] by simp[UU,ZT,List.getD_eq_getElem?_getD,List.getElem?_eq_getElem c]] at m;obtain⟨X,D,o,y,hy,B⟩:=m;have E:=Z b;have G:=Z B;clear j b B
   gi_wp2
   refine G.out.mono ?_;rintro e V ⟨rfl,t⟩
   gi_wp2
   go_roundw
   case rel=>exact⟨k+1,by omega,by simp,t⟩
   case measure=>simp[intOf];omega
  .obtain rfl:k=a.length:=by omega
   gi_wp2
   go_end0
   exact⟨⟨_,rfl⟩,b⟩
end Go.Proofs.YtkhnggkkiefcdaaGreatDoor
namespace Go.Proofs.YtkhnggkkiefcdaaGreatDoor
open Go.RowKit
set_option maxRecDepth 100000
set_option maxHeartbeats 8000000
theorem Sg(a:ByteArray)(f:Nat)(w:World)(b:Nat)(L:DL)(M:DM)(h:DRep w b L M)(l:M.dir.look a=some f) :
 Calls Tryz.prog 147 #[.pointer (some ⟨b,0,none⟩),.string a] w fun e r =>
  e=.returned (.tuple #[.string (zp (M.file f).bytes),.nilIface])/\Fr Nil w r:=by
 have j:M.size a=(((M.file f).bytes.length:Int),(0:Int)):=by simp[DM.size,l]
 have k:M.read a 0 (M.file f).bytes.length=(zp (M.file f).bytes,(0:Int)):=by
  simp only[DM.read,l];rw[Io (by omega)];simp
 have o:=Z (fun d (fr:Fr Nil w d)=>by have:=Tb a d b L M (h.fr fr (fun _ _=>id));rw[j] at this;exact this);have m:=Z (fun d (fr:Fr Nil w d)=>by have:=Ng a 0 (M.file f).bytes.length d b L M (h.fr fr (fun _ _=>id));rw[k] at this;exact this);clear j k h;go_enter Tryz.func147,Tryz.ntmps147;go_wp2_with fail;refine(o.out w (U _ _)).mono ?_;rintro e s ⟨rfl,c⟩;go_wp2_with fail;refine(m.out s c).mono ?_;rintro e t ⟨rfl,g⟩;go_wp2_with fail;refine(Ya _ _ 0 t).mono ?_;rintro e u ⟨v,rfl,q,i⟩;obtain rfl:v=.nilIface:=q;go_wp2_with fail;go_ret2;exact⟨rfl,(c.trans g).trans i⟩
end Go.Proofs.YtkhnggkkiefcdaaGreatDoor
namespace Go.Proofs.YtkhnggkkiefcdaaGreatDoor
open Go.RowKit Go.Shelf
set_option maxRecDepth 100000
set_option maxHeartbeats 8000000
attribute [local go_sem] GF
theorem J6{β:Type}(base:Nat)(e:TypeId)(size:Nat)(v:Value)(n:Nat)(l:List Value):Go.Own (fun(_:β) W=>W.ownsRow base e size v n l):=fun s X Y row d k a=>by
 refine World.ownsRow.kept d k ?_;rcases d.2 with⟨rfl,_⟩|⟨g,f,h,rfl,_,b,_⟩
 .exact .inl rfl
 .refine .inr fun i=>?_
  obtain⟨o,c,j⟩:=a g (by simpa [Value.ownBlock] using i.symm);rw[b] at c;cases c;cases j
theorem KeepsOthers.yc{S:Nat->Prop}{W b:World}(f:Fr S W b)(h:∀ k,S k->∃ t,Ty W k t):KeepsOthers W b :=
 ⟨f.size,fun k o a d=>(f.block k (IV.1 a).1 (fun g=>by obtain⟨t,c,i,e⟩:=h k g;rw[a] at e;cases e;cases d)).trans a⟩
end Go.Proofs.YtkhnggkkiefcdaaGreatDoor
namespace Go.Proofs.YtkhnggkkiefcdaaGreatDoor
open Go.RowKit Go.Shelf
set_option maxRecDepth 100000
set_option maxHeartbeats 8000000
attribute [local go_sem] GF
theorem Blk.kept{W d:World}{row:Option Nat}{b:Nat}{c:List Value}{t:TypeId}(h:Blk W b c t)(e:W.grownBy d row)(a:some b≠row):Blk d b c t:=h.of_heap (e.block b h.lt a)
theorem Blk.put{W:World}{b D:Nat}{c:List Value}{t:TypeId}(h:Blk W b c t){o:Obj}(a:W.heap[D]?=some o)(g:o.isCells=false)(d:Obj):Blk (W.putObj D d) b c t :=
 h.kept (ER W D d) (fun e=>by
  have e:b=D:=by simpa using e
  subst e;rw[show W.heap[b]?=_ from h] at a;cases a;cases g)
def JM.none(limit:Nat):JM:={limit:=limit,last:=0,name:=ByteArray.empty,size:=0,BL:=false,CH:=false}
end Go.Proofs.YtkhnggkkiefcdaaGreatDoor
namespace Go.Proofs.YtkhnggkkiefcdaaGreatDoor
open Go.RowKit
set_option maxRecDepth 100000
set_option maxHeartbeats 8000000
def SM.nil:SM:={keys:=[],hints:=[],CA:=0}
def heldBy(a:List Seg):SM:=(zZ a).foldl SM.enter SM.nil
theorem Ue{n:Nat}(h:n<9223372036854775808):ZO (.inl n):=by
 refine⟨⟨h,trivial⟩,?_⟩;have a:=zC (n:=1) (by decide);have b:=zC h;show(zk 1++zk n).length<_;rw[JR];omega
theorem X3(S:SM)(a:ByteArray)(l:List Ver):(S.holds a l).hints=S.hints:=by
 unfold SM.holds;split <;> rfl
theorem Pb:ZO (.inr (.inr (.inr ()))):=⟨⟨trivial,trivial⟩,by have:=zC (n:=4) (by decide);show(zk 4).length<_;omega⟩
theorem OT(x:Fact):(zw x).length<=(zj x).size:=by
 rw[Tu,YN];simp[zS]
theorem XD{a:ByteArray}{l:List Ver}(b:zJ a=true)(h:∀ u∈l,VOk u)(c:l.length<=5):ZO (.inr (.inl (a,l))):=by
 refine⟨⟨W9 b h c,fun v d=>(h v d).gone⟩,?_⟩;have e:=OT (.inr (.inl (a,l)));have f:=YO b h c;omega
theorem VO{b:Nat}{a:ByteArray}(h:b<9223372036854775808)(c:a.size<=64):ZO (.inr (.inr (.inl (b,a)))):=by
 refine⟨⟨⟨h,by show a.size<_;omega⟩,trivial⟩,?_⟩;have d:=OT (.inr (.inr (.inl (b,a))));have e:=XC h c;omega
theorem Yi(S:SM)(a:ByteArray)(l:List Ver):(S.holds a l).CA=S.CA:=by
 unfold SM.holds;split <;> rfl
theorem NQ{P:Program}{o:Oper}{a:Act}{w:World}{K j:Act->World->Prop}{Q:Exit->Act->World->Prop}(q n:Nat)(m:∀ c,o.op≠.defer c)(g:∀ a w,K a w->j a w)(h:o.wp P a w K Q):o.wpIn (Fence.wide.inRound q) n P a w j Q:=by
 refine⟨fun _ _=>trivial,?_⟩;rw[Oper.semAt_eq _ _ _ m];unfold Oper.wp at h;generalize (execOp a.eval o).run P w=r at h |-;cases r with
 | ok x p =>
  cases x <;> simp only[Oper.upon,Oper.uponIn] at h |-
  case value v=>exact g _ _ h
  case skip=>exact g _ _ h
  case defer d=>exact g _ _ h
  case enter f b =>
   refine⟨(fun e=>by cases e),Hs.2 (Cq h ?_)⟩;intro e k i;cases e with
   | returned v=>exact g _ _ i
   | panicked c=>exact i
   | outgrown=>exact i
  case row row b =>
   refine⟨(fun e=>by cases e),fun c l _=>?_⟩;obtain⟨v,k,r,s⟩:=h c l;exact⟨v,k,g _ _ r,stepsIn_wide.2 s⟩
 | halt x p=>cases x <;> simp only[Oper.upon,Oper.uponIn] at h |- <;> exact h
theorem XR{P:Program}{k:Region.Mode}{g:Array Oper}{Q:Exit->Act->World->Prop}(q n:Nat)(j:∀ (i:Nat) o,g[i]?=some o->∀ c,o.op≠.defer c)(f:¬LetsOut Q):∀ (b:Nat)(d:Array Bool)(a:Act)(w:World),wpAny P k g Q b d a w->wpAnyIn (Fence.wide.inRound q) n P k g Q b d a w
 | 0,_,_,_,h=>h
 | b+1,d,a,w,h=>by
  refine⟨h.1,fun i l=>?_⟩;have e:=h.2 i l;unfold wpOp at e;unfold wpOpIn;cases ho:g[i]? with
  | none=>rw[ho] at e;exact XR q n j f b _ _ _ e
  | some o =>
   rw[ho] at e;simp only at e |-;split
   .rename_i hwt
    rw[Io hwt] at e;rcases e with e|e
    .exact NQ q n (j i o ho) (fun a w=>XR q n j f b _ a w) e
    .exact absurd e.2 f
   .rename_i hwt
    rw[Ie hwt] at e;exact⟨fun _ _=>trivial,XR q n j f b _ _ _ e⟩
theorem TB{P:Program}{b:Array Oper}{Q:Exit->Act->World->Prop}{q n id:Nat}{S:World->Prop}{a:Act}{w:World}(k:P.follows .mixedOrders=true)(g:(b.all fun o=>match o.op with|.defer _=>false|_=>true)=true)(d:¬LetsOut Q)(e:S w.drew)
 (h:S w.drew->wpAnyH P .any b Q S b.size (Array.replicate b.size false) a w.drew):(Code.region id b true).wpIn (Fence.wide.inRound q) n P Q a w :=
 wpIn_region_any k (XR q n (fun i o l c f=>by
  obtain⟨j,rfl⟩:=IV.1 l;have:=Array.all_eq_true.1 g i j;rw[f] at this;cases this) d _ _ _ _ (wpAny_of_held _ _ _ _ (h e)))
theorem zV{P:Program}{g:Region.Mode}{e:Array Oper}{Q:Exit->Act->World->Prop}{S:World->Prop}(i:Nat)(d:Option Tmp){j:Oper}{v:Value}{f:Nat}{b:Array Bool}{a:Act}{w:World}(q:e[i]?=some j)(m:j.dst=d)
 (s:Region.noSelect e=true)(o:Region.free g e b i=true)(r:(Region.ready g e b).contains i=true)
 (k:∀ c a w,Q (.panic c) (a.put d v) w->Q (.panic c) a w)(t:YieldsIf P e S j v a)(l:S w)
 (h:wpAnyH P g e Q S f (b.setIfInBounds i true) (a.put d v) w):wpAnyH P g e Q S (f+1) b a w:=by
 subst m;exact wpAnyH_take q s o r k t l h
end Go.Proofs.YtkhnggkkiefcdaaGreatDoor
namespace Go.Proofs.YtkhnggkkiefcdaaGreatDoor
open Go.RowKit Go.Shelf
set_option maxRecDepth 100000
set_option maxHeartbeats 8000000
attribute [local go_sem] GF
def Odd(S:Nat->Prop)(w:World):Prop:=∀ k,S k->∃ o:Obj,w.heap[k]?=some o/\o.isCells=false
theorem Ty.odd{w:World}{k:Nat}{t:TypeId}{S:Nat->Prop}(h:Ty w k t)(d:Odd S w):¬S k:=fun e=>by
 obtain⟨c,f,h⟩:=h;obtain⟨o,a,b⟩:=d k e;rw[h] at a;cases a;cases b
theorem SRep.odd{S:Nat->Prop}{w d:World}{b:Nat}{L:SL}{X:SM}(h:SRep w b L X)(f:Fr S w d)(c:Odd S w):SRep d b L X :=
 h.fr f (fun k a=>by rcases h.Bc a with e|e|e <;> exact e.odd c) (fun k a=>(h.Bx a).odd c)
theorem DRep.odd{S:Nat->Prop}{w a:World}{b:Nat}{L:DL}{M:DM}(h:DRep w b L M)(f:Fr S w a)(d:Odd S w):DRep a b L M :=
 h.fr f (fun k c=>by obtain⟨t,e,_⟩:=h.ty c;exact e.odd d)
theorem SRep.yq{w:World}{b c:Nat}{a:SL}{X:SM}{L:DL}{M:DM}(h:SRep w c a X)(d:DRep w b L M){k:Nat}(f:Foot b L M k):¬SFoot c a k:=fun g=>by
 rcases h.Bc g with e|e|e
 all_goals exact d.apart e (by unfold DTy;decide) f
def Zr(a:List Seg)(i:Nat):Seg:=a.getD i ([],[])
def JM.read(a:Nat)(b:List (Nat × ByteArray))(c:List Seg):Nat->JM
 | 0=>JM.none a
 | i+1=>{limit:=a,last:=(ZT b i).1,name:=(ZT b i).2,size:=(Zq (Zr c i)).length,BL:=decide (0<(Zr c i).2.length),CH:=false}
def NR(w:World)(m g b c:Nat)(e:SL)(j L:DL)(l M:DM)(v:Value)(f:List (Nat × ByteArray))(a:Nat)(h:List Seg)(i:Nat)(W:World):Prop :=
 ((Blk W (w.heap.size+3) [.pointer none] 119/\Blk W (w.heap.size+4) [.nilIface] 132/\Blk W m [.pointer (some ⟨g,0,none⟩)] 119/\JRep W g b (JM.read a f h i)) /\
 (Blk W w.heap.size [.pointer (some ⟨b,0,none⟩)] 40/\Blk W (w.heap.size+1) [.func (.func 95) #[] #[]] 166/\Blk W (w.heap.size+2) [.func (.func 96) #[.pointer (some ⟨c,0,none⟩)] #[]] 167)) /\
 ((∃ d,SRep W c d (heldBy (h.take i))/\(∀ k,SFoot c d k->SFoot c e k\/w.heap.size<=k)/\(∀ k,SRead d k->SRead e k\/w.heap.size<=k)) /\
 DRep W b L M/\W.ownsRow 0 268 2 v f.length (Zl f)) /\
 w.heap.size<=W.heap.size/\Fr (fun k=>SFoot c e k\/Foot b j l k) w W
theorem Lo(w:World)(T O b Q:Nat)(y:SL)(x L:DL)(A M:DM)(v:Value)(K:List (Nat × ByteArray))(c:Nat)(R:List Seg)(B:Nat)(X:w.heap.size<=B):OwnFrom B (NR w T O b Q y x L A M v K c R):=by
 intro i W V row h N t;have f:=Fr.Bb N;have a:Odd (fun k=>row=some k) W:=fun k e=>(t k e).2;obtain⟨⟨⟨d,g,j,l⟩,m,o,q⟩,⟨⟨u,C,D,E⟩,G,r⟩,I,J⟩:=h;refine⟨⟨⟨d.fr f (d.ty.odd a),g.fr f (g.ty.odd a),j.fr f (j.ty.odd a),Blk.fr l f ((Blk.ty l).odd a)⟩,m.fr f (m.ty.odd a),o.fr f (o.ty.odd a),q.fr f (q.ty.odd a)⟩,
  ⟨⟨u,C.odd f a,D,E⟩,G.odd f a,ze r f (fun k s=>(zB r s).odd a)⟩,JT I f.size,J.trans' f (fun k s e=>?_)⟩
 have:=(t k e).1;omega
theorem Oj(a:List Seg)(i:Nat)(h:i<a.length):heldBy (a.take (i+1))=(Zr a i).1.foldl SM.enter (heldBy (a.take i)):=by
 unfold heldBy Zr;rw[Fj,Ii h,Vj,IQ];simp[zZ,List.getD_eq_getElem?_getD,List.getElem?_eq_getElem h]
theorem Km(A B C:List Fact)(j:Nat):(A++(B++C)).take (A.length+min j B.length)=A++B.take j:=by
 rw[EJ,Il (DG _ _),Nat.add_sub_cancel_left,ID (DF ..)]
 congr 1
 rcases Eh j B.length with h|h
 .rw[Hc h]
 .rw[DH h,Il h,Il (JS _)]
theorem Lp(a:List Seg)(i:Nat)(h:i<a.length)(j:Nat):((Zr a i).1.take j).foldl SM.enter (heldBy (a.take i))=((zZ a).take ((zZ (a.take i)).length+min j (Zr a i).1.length)).foldl SM.enter SM.nil:=by
 have e:zZ a=zZ (a.take i)++((Zr a i).1++zZ (a.drop (i+1))):=by
  have b:zZ a=zZ (a.take i++a[i]::a.drop (i+1)):=by rw[<- He h,Ik]
  rw[b,Vj];have c:Zr a i=a[i]:=by simp[Zr,List.getD_eq_getElem?_getD,List.getElem?_eq_getElem h]
  rw[c]
  rfl
 rw[show(zZ a).take ((zZ (a.take i)).length+min j (Zr a i).1.length)=zZ (a.take i)++(Zr a i).1.take j by rw[e,Km],IQ]
 rfl
theorem Ok(b:Nat) (L M2)(M:DM)(a:Nat)(C:Nat)(LS:SL)(u:List (Nat × ByteArray))(s:List Seg)(w:World)(h:DRep w b L M)(hs:SRep w C LS SM.nil)
 (j1:∀ wx,Fr Nil w wx->Calls Tryz.prog 144 #[.pointer (some ⟨b,0,none⟩)] wx fun e w'=>∃ T,e=.returned .nilIface/\DStep b L M wx T M2 w')
 (i0:∀ wx T,DRep wx b T M2->Fr (Foot b L M) w wx->Calls Tryz.prog 145 #[.pointer (some ⟨b,0,none⟩)] wx fun e w'=>∃ mb v,e=.returned (.pointer (some ⟨mb,0,none⟩))/\Blk w' mb [v] 263/\WG w' v u/\wx.heap.size<=mb/\(∀ k,v.ownBlock=some k->wx.heap.size<=k)/\Fr Nil wx w')
 (h8:u.length=s.length)(i5:u.length<1000000000)(b7:∀ i,i<u.length->∃ f,M2.dir.look (ZT u i).2=some f/\(M2.file f).bytes=Zq (Zr s i))(i9:JF s)
 (d1:∀ i,(((zZ s).take i).foldl SM.enter SM.nil).keys.length<1099511627776/\(((zZ s).take i).foldl SM.enter SM.nil).hints.length<1000000) :
 Calls Tryz.prog 94 #[.pointer (some ⟨b,0,none⟩),.int .i64 a,.func (.func 95) #[] #[],.func (.func 96) #[.pointer (some ⟨C,0,none⟩)] #[]] w fun e w' =>
  ∃ jb T d7,e=.returned (.tuple #[.pointer (some ⟨jb,0,none⟩),.nilIface])/\JRep w' jb b (JM.read a u s u.length)/\w.heap.size<=jb/\DRep w' b T M2/\(∀ k,Foot b T M2 k->Foot b L M k\/w.heap.size<=k) /\
   SRep w' C d7 (heldBy s)/\(∀ k,SFoot C d7 k->SFoot C LS k\/w.heap.size<=k)/\(∀ k,SRead d7 k->SRead LS k\/w.heap.size<=k)/\Fr (fun k=>SFoot C LS k\/Foot b L M k) w w':=by
 have k4:=Z j1;have j8:=Z i0;have HD:=Z h;have HS:=Z hs;clear j1 i0 h hs;refine(Hs (n:=8)).1 ?_;refine FD Tryz.func94 rfl trivial ?_ rfl;simp only[Tryz.ntmps94,Gv,Ih,IR,Nat.reduceAdd,Nat.reduceSub,GD,GE,GZ,GL,IE,It];have b0:=Blk.new w [.pointer (some ⟨b,0,none⟩)] 40;have f0:Fr Nil w (w.alloc (.cells #[.pointer (some ⟨b,0,none⟩)] 40)):=(U _ _).alloc _;have s0:(w.alloc (.cells #[.pointer (some ⟨b,0,none⟩)] 40)).heap.size=w.heap.size+1:=by simp
 gi_wp2_with fail
 generalize w.alloc (.cells #[.pointer (some ⟨b,0,none⟩)] 40)=wa at b0 f0 s0 |-;have f1:Fr Nil wa ((wa.alloc (.cells #[.func (.func 95) #[] #[]] 166)).alloc (.cells #[.func (.func 96) #[.pointer (some ⟨C,0,none⟩)] #[]] 167)):=((U _ _).alloc _).alloc _;have b1:=(Blk.new wa [.func (.func 95) #[] #[]] 166).alloc (.cells #[.func (.func 96) #[.pointer (some ⟨C,0,none⟩)] #[]] 167);have b2:=Blk.new (wa.alloc (.cells #[.func (.func 95) #[] #[]] 166)) [.func (.func 96) #[.pointer (some ⟨C,0,none⟩)] #[]] 167;rw[show(wa.alloc (.cells #[.func (.func 95) #[] #[]] 166)).heap.size=w.heap.size+2 by simp[s0]] at b2;rw[s0] at b1;have s1:((wa.alloc (.cells #[.func (.func 95) #[] #[]] 166)).alloc (.cells #[.func (.func 96) #[.pointer (some ⟨C,0,none⟩)] #[]] 167)).heap.size=w.heap.size+3:=by simp[s0]
 generalize (wa.alloc (.cells #[.func (.func 95) #[] #[]] 166)).alloc (.cells #[.func (.func 96) #[.pointer (some ⟨C,0,none⟩)] #[]] 167)=wb at b1 b2 f1 s1 |-;have b3:=Blk.new wb [.pointer none] 119;have b4:=Blk.new (wb.alloc (.cells #[.pointer none] 119)) [.nilIface] 132;have s3:(wb.alloc (.cells #[.pointer none] 119)).heap.size=w.heap.size+4:=by simp[s1]
 have s4:((wb.alloc (.cells #[.pointer none] 119)).alloc (.cells #[.nilIface] 132)).heap.size=w.heap.size+5:=by simp[s1]
 have f3:Fr Nil wb ((wb.alloc (.cells #[.pointer none] 119)).alloc (.cells #[.nilIface] 132)):=((U _ _).alloc _).alloc _;have b3:=b3.alloc (.cells #[.nilIface] 132);rw[s1] at b3;rw[s3] at b4;have b0:=(b0.fr f1 id).fr f3 id;have b1:=b1.fr f3 id;have b2:=b2.fr f3 id;generalize (wb.alloc (.cells #[.pointer none] 119)).alloc (.cells #[.nilIface] 132)=wc at b0 b1 b2 b3 b4 s4 f3 |-;have f:=(f0.trans f1).trans f3;rw[show w.heap.size+1+1+1=w.heap.size+3 from rfl,show w.heap.size+1+1=w.heap.size+2 from rfl,show w.heap.size+3+1=w.heap.size+4 from rfl] at *;have HX:=Z (show w.heap.size+5=wc.heap.size from s4.symm);have B:=Z (And.intro b0 (And.intro b1 (And.intro b2 (And.intro b3 b4))));have d5:=Z f;clear f0 f1 f3 s0 s1 s3 s4 b0 b1 b2 b3 b4 f;refine⟨trivial,?_⟩;refine(Hs.2 (k4.out wc d5.out)).mono ?_;rintro e m ⟨T,rfl,r⟩;have Y:∀ {k c t},Blk wc k c t->¬DTy t->¬Foot b L M k:=fun hb ht=>(HD.out.nil d5.out).apart hb.ty ht;have b9:=B.out.1.fr r.fr (Y B.out.1 (by unfold DTy;decide));have g1:=B.out.2.1.fr r.fr (Y B.out.2.1 (by unfold DTy;decide));have g2:=B.out.2.2.1.fr r.fr (Y B.out.2.2.1 (by unfold DTy;decide));have g3:=B.out.2.2.2.1.fr r.fr (Y B.out.2.2.2.1 (by unfold DTy;decide));have g4:=B.out.2.2.2.2.fr r.fr (Y B.out.2.2.2.2 (by unfold DTy;decide));have l9:w.heap.size+5<=m.heap.size:=by rw[HX.out];exact r.fr.size
 have F1:Fr (Foot b L M) w m:=(d5.out.mono (S':=Foot b L M) (fun _ _ e=>absurd e id)).trans r.fr;have d0:∀ k,Foot b T M2 k->Foot b L M k\/w.heap.size<=k:=fun k o=>(r.CX k o).imp id (fun e=>by have:=HX.out;omega);have d3:SRep m C LS SM.nil:=HS.out.fr F1 (fun k o hf=>HS.out.yq HD.out hf o) (fun k o=>HD.out.apart (HS.out.Bx o) (by unfold DTy;decide));have e5:=r.CK;have k5:=b9.cell 0;clear r Y;have f4:Fr Nil m ((m.alloc (.cells #[.pointer (some ⟨b,0,none⟩),.int .i64 a,.int .i64 0,.string ⟨#[]⟩,.int .i64 0,.bool false,.bool false] 197)).alloc (.cells #[.pointer (some ⟨m.heap.size,0,none⟩)] 119)):=((U _ _).alloc _).alloc _;have bj:=(Blk.new m [.pointer (some ⟨b,0,none⟩),.int .i64 a,.int .i64 0,.string ⟨#[]⟩,.int .i64 0,.bool false,.bool false] 197).alloc (.cells #[.pointer (some ⟨m.heap.size,0,none⟩)] 119);have bp:=Blk.new (m.alloc (.cells #[.pointer (some ⟨b,0,none⟩),.int .i64 a,.int .i64 0,.string ⟨#[]⟩,.int .i64 0,.bool false,.bool false] 197)) [.pointer (some ⟨m.heap.size,0,none⟩)] 119;rw[show(m.alloc (.cells #[.pointer (some ⟨b,0,none⟩),.int .i64 a,.int .i64 0,.string ⟨#[]⟩,.int .i64 0,.bool false,.bool false] 197)).heap.size=m.heap.size+1 by simp] at bp;have sp:((m.alloc (.cells #[.pointer (some ⟨b,0,none⟩),.int .i64 a,.int .i64 0,.string ⟨#[]⟩,.int .i64 0,.bool false,.bool false] 197)).alloc (.cells #[.pointer (some ⟨m.heap.size,0,none⟩)] 119)).heap.size=m.heap.size+2:=by simp
 have g5:=(b9.fr f4 id).cell 0
 gi_wp2_with fail
 generalize (m.alloc (.cells #[.pointer (some ⟨b,0,none⟩),.int .i64 a,.int .i64 0,.string ⟨#[]⟩,.int .i64 0,.bool false,.bool false] 197)).alloc (.cells #[.pointer (some ⟨m.heap.size,0,none⟩)] 119)=wp at bp sp bj f4 g5 |-;have F3:Fr (Foot b L M) w wp:=F1.trans (f4.mono (S':=Foot b L M) (fun _ _ e=>absurd e id));have h7:=e5.nil f4;refine⟨trivial,?_⟩;refine(Hs.2 (j8.out wp T h7 F3)).mono ?_;rintro e w2 ⟨mb,v,rfl,e9,b6,i7,j5,e7⟩;have m0:m.heap.size+2<=w2.heap.size:=by have:=e7.size;omega
 have d2:=e9.lt
 gi_wp2_with fail
 refine⟨trivial,?_⟩;refine(Hs.2 (Tx mb _)).mono ?_;rintro e w3 ⟨rfl,rfl⟩;have bM:=EZ w2 211 (.pointer (some ⟨mb,0,none⟩));have f5:Fr Nil w2 (w2.alloc (.cells #[.pointer (some ⟨mb,0,none⟩)] 211)):=(U _ _).alloc _;have s5:(w2.alloc (.cells #[.pointer (some ⟨mb,0,none⟩)] 211)).heap.size=w2.heap.size+1:=by simp
 generalize w2.alloc (.cells #[.pointer (some ⟨mb,0,none⟩)] 211)=W0 at bM f5 s5;have a8:=e7.trans f5;have I:=f4.trans a8;have i6:=e9.fr f5 id;have k3:Hid (NR w (m.heap.size+1) m.heap.size b C LS L T M M2 v u a s 0 W0) :=
  ⟨⟨⟨g3.fr I id,g4.fr I id,bp.fr a8 id,bj.fr a8 id⟩,b9.fr I id,g1.fr I id,g2.fr I id⟩,⟨⟨LS,d3.nil I,fun k o=>.inl o,fun k o=>.inl o⟩,e5.nil I,ze b6.own f5 (fun _ _=>id)⟩,by omega,(F3.mono (S':=fun k=>SFoot C LS k\/Foot b L M k) (fun _ _ e=>.inr e)).trans (a8.mono (fun _ _ e=>absurd e id))⟩
 have l5:Below W0.heap.size W0 W0:=DY _ _;have a0:=Z (And.intro d2 (And.intro (i6.cell 0) s5));clear b9 g1 g2 g3 g4 bj bp k5 g5 f4 sp F3 h7 e9 b6 i7 j5 e7 d2 f5 a8 I i6 d3 e5;have d6:=Z (And.intro h8 i5);have j9:=Z b7;have k2:=Z i9;have k1:=Z d1;have k0:=Z d0;clear h8 i5 b7 i9 d1 d0
 gi_wp2_with fail
 refine XM rfl (by decide) (gf:=187) (lb:=#[.pointer (some ⟨w2.heap.size,0,none⟩)]) rfl trivial (Es Tryz.func187 (by kernel_rfl) rfl)
  u.length (UU u) (fun _=>rfl) _ (Lo w (m.heap.size+1) m.heap.size b C LS L T M M2 v u a s W0.heap.size (by have:=a0.out.2.2;omega)) k3.out
  (fun k J W hW hJ hI hY h0=>Pa Fence.wide 7 trivial rfl (by decide) k w2.heap.size mb v u J W (by have:=d6.out.2;omega) hJ (fun i W1 h=>(hI i W1 h).2.1.2.2) hY ((hW.cell (p:=⟨w2.heap.size,0,none⟩) (by have:=a0.out.2.2;simp only;omega)).trans bM.cell) ((hW.cell (p:=⟨mb,0,none⟩) (by have:=a0.out;simp only;omega)).trans a0.out.2.1) h0)
  (fun i=>{tmps:=#[.pointer (some ⟨b,0,none⟩),.int .i64 a,.func (.func 95) #[] #[],.func (.func 96) #[.pointer (some ⟨C,0,none⟩)] #[],.pointer (some ⟨w.heap.size,0,none⟩),undef,.pointer (some ⟨w.heap.size+1,0,none⟩),.pointer (some ⟨w.heap.size+2,0,none⟩),.pointer (some ⟨w.heap.size+3,0,none⟩),.pointer (some ⟨w.heap.size+4,0,none⟩),.nilIface,.pointer (some ⟨m.heap.size+1,0,none⟩),.int .i64 (ZT u i).1,.string (ZT u i).2,undef,undef,undef,.pointer (some ⟨b,0,none⟩),.nilIface,.nilIface,.bool false,undef,undef,.pointer (some ⟨b,0,none⟩),.int .i64 a,.agg #[.pointer (some ⟨b,0,none⟩),.int .i64 a,.int .i64 0,.string ⟨#[]⟩,.int .i64 0,.bool false,.bool false],.pointer (some ⟨m.heap.size,0,none⟩),.pointer (some ⟨b,0,none⟩),.pointer (some ⟨mb,0,none⟩),.func (.func 187) #[] #[.pointer (some ⟨w2.heap.size,0,none⟩)],.int .i64 (ZT u i).1,.string (ZT u i).2,undef,undef,undef,undef,undef,undef,undef,undef,undef,undef,undef,undef,undef,undef,undef,undef,undef,undef,undef,undef,undef,undef,undef,undef,undef,undef,undef,undef,undef,undef,undef,undef,undef],defers:=[]}) ?assign ?body ?done
 case assign =>
  intro l x W K Q;unfold UU
  gi_wp2
  exact Q
 case body =>
  rintro q i W hi ⟨⟨⟨a1,a2,a3,a4⟩,a5,a6,a7⟩,⟨⟨L',c1,c2,c3⟩,c4,c5⟩,c6,c7⟩;obtain⟨f,i1,h9⟩:=j9.out i hi;have c8:i<s.length:=by have:=d6.out.1;omega
  have j0:Wp (Zr s i):=by
   have:Zr s i=s[i]:=by simp[Zr,List.getD_eq_getElem?_getD,List.getElem?_eq_getElem c8]
   rw[this];exact k2.out _ (Ia c8)
  obtain⟨i2,tb,j2,j3,j4⟩:=j0;have b5:=Sg (ZT u i).2 f W b T M2 c4 i1;rw[h9] at b5;have V:=Z b5;have E:=Z (fun wx (fr:Fr Nil W wx)=>QX (Zr s i).1 i2 (Zr s i).2 tb j2 j3 j4 C L' (heldBy (s.take i)) wx (c1.nil fr) (fun j=>by rw[Lp s i c8 j];exact k1.out _));rw[<- Oj s i c8] at E;rw[show zE (Zr s i).1++(Zr s i).2=Zq (Zr s i) from rfl] at E;have b8:Hid (JM.read a u s (i+1)={limit:=a,last:=(ZT u i).1,name:=(ZT u i).2,size:=(Zq (Zr s i)).length,BL:=decide (0<(Zr s i).2.length),CH:=false}):=show _=_ from rfl;have g0:Hid (∃ l d,JRep W m.heap.size b {limit:=a,last:=l,name:=(JM.read a u s i).name,size:=(JM.read a u s i).size,BL:=(JM.read a u s i).BL,CH:=d}/\d=false):=by
   cases i with
   | zero=>exact⟨_,_,a4,rfl⟩
   | succ i=>exact⟨_,_,a4,rfl⟩
  have k6:=a5.cell 0;have R:=Z (And.intro a1 (And.intro a2 (And.intro a3 (And.intro a5 (And.intro a6 a7)))));have O:=Z (And.intro c1 (And.intro c2 (And.intro c3 (And.intro c4 (And.intro c5 (And.intro c6 c7))))));clear a1 a2 a3 a4 a5 a6 a7 c1 c2 c3 c4 c5 c6 c7 i1 h9 b5 i2 j2 j3 j4;generalize l1:ZT u i=en at V b8 |-;generalize l2:Zq (Zr s i)=sg at V E b8;generalize l3:(Zr s i).2.length=tl at E b8;clear l2 l3 l1
  gi_wp2_with fail
  refine⟨trivial,?_⟩;refine(Hs.2 V.out).mono ?_;rintro e W2 ⟨rfl,f2⟩;have k7:=(R.out.2.2.2.2.1.fr f2 id).cell 0;have k8:=(R.out.2.2.2.2.2.fr f2 id).cell 0;have g:=Z f2;clear k6 f2
  gi_wp2_with fail
  refine⟨trivial,?_⟩;refine(Hs.2 (E.out W2 g.out)).mono ?_;rintro e W3 ⟨rfl,L3,r1,r2,r3,r4⟩;have d4:∀ k,SFoot C L' k->∃ t,Ty W2 k t:=fun k o=>by
   rcases (O.out.1.nil g.out).Bc o with e|e|e <;> exact⟨_,e⟩
  have y:∀ {k c t},Blk W2 k c t->t≠161->t≠239->t≠75->¬SFoot C L' k:=fun hb h1 h2 h3 o=>by
   rcases (O.out.1.nil g.out).Bc o with e|e|e
   .exact h1 (hb.ty.inj e)
   .exact h2 (hb.ty.inj e)
   .exact h3 (hb.ty.inj e)
  have d8:=(R.out.1.fr g.out id).fr r2 (y (R.out.1.fr g.out id) (by decide) (by decide) (by decide));have d9:=(R.out.2.1.fr g.out id).fr r2 (y (R.out.2.1.fr g.out id) (by decide) (by decide) (by decide));have c0:=(R.out.2.2.1.fr g.out id).fr r2 (y (R.out.2.2.1.fr g.out id) (by decide) (by decide) (by decide));have e0:=(R.out.2.2.2.1.fr g.out id).fr r2 (y (R.out.2.2.2.1.fr g.out id) (by decide) (by decide) (by decide));have e1:=(R.out.2.2.2.2.1.fr g.out id).fr r2 (y (R.out.2.2.2.2.1.fr g.out id) (by decide) (by decide) (by decide));have e2:=(R.out.2.2.2.2.2.fr g.out id).fr r2 (y (R.out.2.2.2.2.2.fr g.out id) (by decide) (by decide) (by decide));obtain⟨jl,jd,e8,rfl⟩:=g0.out;have a9:Blk W3 m.heap.size _ 197:=Blk.fr (Blk.fr e8 g.out id) r2 (y (Blk.fr e8 g.out id) (by decide) (by decide) (by decide));have e6:DRep W3 b T M2:=(O.out.2.2.2.1.nil g.out).fr r2 (fun k o=>(O.out.1.nil g.out).yq (O.out.2.2.2.1.nil g.out) o);have f7:W3.ownsRow 0 268 2 v u.length (Zl u):=ze (ze O.out.2.2.2.2.1 g.out (fun _ _=>id)) r2 (fun k o hf=>by
   have ht:=zB (ze O.out.2.2.2.2.1 g.out (fun _ _=>id)) o;rcases (O.out.1.nil g.out).Bc hf with e|e|e <;> exact absurd (ht.inj e) (by decide))
  have i4:KeepsOthers W W3:=(KeepsOthers.yc g.out (fun _ e=>absurd e id)).trans (KeepsOthers.yc r2 d4);have c9:Fr (fun k=>SFoot C LS k\/Foot b L M k) w W3:=(O.out.2.2.2.2.2.2.trans (g.out.mono (fun _ _ e=>absurd e id))).trans' r2 (fun k o e=>by
   rcases O.out.2.1 k e with h|h
   .exact .inl h
   .omega)
  have X:Ty W3 m.heap.size 197:=a9.ty;have A:∀ {k c t},Blk W3 k c t->t≠197->¬k=m.heap.size:=fun hb h e=>by subst e;exact h (hb.ty.inj X)
  have f8:Hid (∀ W',Fr (fun k=>k=m.heap.size) W3 W'->JRep W' m.heap.size b {limit:=a,last:=en.1,name:=en.2,size:=sg.length,BL:=decide (0<tl),CH:=false}->KeepsOthers W3 W'->KeepsOthers W W'/\True/\NR w (m.heap.size+1) m.heap.size b C LS L T M M2 v u a s (i+1) W'):=fun W' fw hj ho =>
   ⟨i4.trans ho,trivial,⟨⟨d8.fr fw (A d8 (by decide)),d9.fr fw (A d9 (by decide)),c0.fr fw (A c0 (by decide)),by rw[b8.out];exact hj⟩,e0.fr fw (A e0 (by decide)),e1.fr fw (A e1 (by decide)),e2.fr fw (A e2 (by decide))⟩,
    ⟨⟨L3,r1.fr fw (fun k o e=>by subst e;rcases r1.Bc o with e|e|e <;> exact absurd (e.inj X) (by decide)) (fun k o e=>by subst e;exact absurd ((r1.Bx o).inj X) (by decide)),
     fun k o=>(r3 k o).elim (O.out.2.1 k) (fun e=>.inr (JT (JT O.out.2.2.2.2.2.1 g.out.size) e)),fun k o=>(r4 k o).elim (O.out.2.2.1 k) (fun e=>.inr (JT (JT O.out.2.2.2.2.2.1 g.out.size) e))⟩,
     e6.fr fw (fun k o e=>by subst e;exact e6.apart X (by unfold DTy;decide) o),ze f7 fw (fun k o e=>by subst e;exact absurd ((zB f7 o).inj X) (by decide))⟩,
    JT (JT (JT O.out.2.2.2.2.2.1 g.out.size) r2.size) fw.size,c9.trans' fw (fun k o e=>by omega)⟩
  have f9:=Z a9;have l0:=c0.cell 0;have k9:=a9.cell;have m3:=a9.frozen;have l4:m.heap.size+1≠m.heap.size:=by omega
  clear E V R O g k7 k8 r1 r2 r3 r4 d4 y d8 d9 c0 e0 e1 e2 e8 a9 e6 f7 i4 c9 X A;simp only[JM.cells] at k9 f9;generalize W3=WR at *
  gi_wp2_with fail
  refine TB (S:=fun w'=>w'.cell? ⟨m.heap.size+1,0,none⟩=some (.pointer (some ⟨m.heap.size,0,none⟩))) (by kernel_rfl) (by kernel_rfl) (by rintro⟨_,_,h⟩;exact h) l0 (fun G=>?_);refine zV 0 (some 46) (v:=?_) rfl rfl (by kernel_rfl) (by kernel_rfl) (by kernel_rfl) (fun _ _ _ h=>h) (Or.inl ⟨by rfl,?_⟩) (by assumption) ?_
  rotate_left
  .intro w hSw;go_simp;try with_reducible rfl
  simp only[Act.put,Iu,IH,IK];refine zV 1 (some 47) (v:=?_) rfl rfl (by kernel_rfl) (by kernel_rfl) (by kernel_rfl) (fun _ _ _ h=>h) (Or.inl ⟨by rfl,?_⟩) (by assumption) ?_
  rotate_left
  .intro w hSw;go_simp;try with_reducible rfl
  simp only[Act.put,Iu,IH,IK];refine zV 2 (some 48) (v:=?_) rfl rfl (by kernel_rfl) (by kernel_rfl) (by kernel_rfl) (fun _ _ _ h=>h) (Or.inl ⟨by rfl,?_⟩) (by assumption) ?_
  rotate_left
  .intro w hSw;go_simp;try with_reducible rfl
  simp only[Act.put,Iu,IH,IK];refine zV 3 (some 49) (v:=?_) rfl rfl (by kernel_rfl) (by kernel_rfl) (by kernel_rfl) (fun _ _ _ h=>h) (Or.inl ⟨by rfl,?_⟩) (by assumption) ?_
  rotate_left
  .intro w hSw;go_simp;try with_reducible rfl
  simp only[Act.put,Iu,IH,IK];refine zV 4 (some 50) (v:=?_) rfl rfl (by kernel_rfl) (by kernel_rfl) (by kernel_rfl) (fun _ _ _ h=>h) (Or.inl ⟨by rfl,?_⟩) (by assumption) ?_
  rotate_left
  .intro w hSw;go_simp;try with_reducible rfl
  simp only[Act.put,Iu,IH,IK];refine zV 5 (some 51) (v:=?_) rfl rfl (by kernel_rfl) (by kernel_rfl) (by kernel_rfl) (fun _ _ _ h=>h) (Or.inl ⟨by rfl,?_⟩) (by assumption) ?_
  rotate_left
  .intro w hSw;go_simp;try with_reducible rfl
  simp only[Act.put,Iu,IH,IK];refine zV 6 (some 52) (v:=?_) rfl rfl (by kernel_rfl) (by kernel_rfl) (by kernel_rfl) (fun _ _ _ h=>h) (Or.inl ⟨by rfl,?_⟩) (by assumption) ?_
  rotate_left
  .intro w hSw;go_simp;try with_reducible rfl
  simp only[Act.put,Iu,IH,IK];refine zV 7 (some 53) (v:=?_) rfl rfl (by kernel_rfl) (by kernel_rfl) (by kernel_rfl) (fun _ _ _ h=>h) (Or.inl ⟨by rfl,?_⟩) (by assumption) ?_
  rotate_left
  .intro w hSw;go_simp;try with_reducible rfl
  simp only[Act.put,Iu,IH,IK];refine zV 8 (some 54) (v:=?_) rfl rfl (by kernel_rfl) (by kernel_rfl) (by kernel_rfl) (fun _ _ _ h=>h) (Or.inl ⟨by rfl,?_⟩) (by assumption) ?_
  rotate_left
  .intro w hSw;go_simp;try with_reducible rfl
  simp only[Act.put,Iu,IH,IK];refine zV 9 (some 55) (v:=?_) rfl rfl (by kernel_rfl) (by kernel_rfl) (by kernel_rfl) (fun _ _ _ h=>h) (Or.inl ⟨by rfl,?_⟩) (by assumption) ?_
  rotate_left
  .intro w hSw;go_simp;try with_reducible rfl
  simp only[Act.put,Iu,IH,IK];refine zV 10 (some 56) (v:=?_) rfl rfl (by kernel_rfl) (by kernel_rfl) (by kernel_rfl) (fun _ _ _ h=>h) (Or.inl ⟨by rfl,?_⟩) (by assumption) ?_
  rotate_left
  .intro w hSw;go_simp;try with_reducible rfl
  simp only[Act.put,Iu,IH,IK];refine zV 11 (some 57) (v:=?_) rfl rfl (by kernel_rfl) (by kernel_rfl) (by kernel_rfl) (fun _ _ _ h=>h) (Or.inl ⟨by rfl,?_⟩) (by assumption) ?_
  rotate_left
  .intro w hSw;go_simp;try with_reducible rfl
  simp only[Act.put,Iu,IH,IK];refine Ca (rs:=[12]) (by kernel_rfl) (by simp) (Dc rfl (fun K Q=>?_) Dz)
  go_simp
  refine Q.out _ _ (by first|assumption|go_keep) (fun G=>?_);clear Q K
  try simp only[Act.put,Iu,IH,IK]
  refine zV 13 (some 58) (v:=?_) rfl rfl (by kernel_rfl) (by kernel_rfl) (by kernel_rfl) (fun _ _ _ h=>h) (Or.inl ⟨by rfl,?_⟩) (by assumption) ?_
  rotate_left
  .intro w hSw;go_simp;try with_reducible rfl
  simp only[Act.put,Iu,IH,IK];refine zV 14 (some 59) (v:=?_) rfl rfl (by kernel_rfl) (by kernel_rfl) (by kernel_rfl) (fun _ _ _ h=>h) (Or.inl ⟨by rfl,?_⟩) (by assumption) ?_
  rotate_left
  .intro w hSw;go_simp;try with_reducible rfl
  simp only[Act.put,Iu,IH,IK];refine Ca (rs:=[15]) (by kernel_rfl) (by simp) (Dc rfl (fun K Q=>?_) Dz)
  go_simp
  refine Q.out _ _ (by first|assumption|go_keep) (fun G=>?_);clear Q K
  try simp only[Act.put,Iu,IH,IK]
  refine zV 16 (some 60) (v:=?_) rfl rfl (by kernel_rfl) (by kernel_rfl) (by kernel_rfl) (fun _ _ _ h=>h) (Or.inl ⟨by rfl,?_⟩) (by assumption) ?_
  rotate_left
  .intro w hSw;go_simp;try with_reducible rfl
  simp only[Act.put,Iu,IH,IK];refine zV 17 (some 61) (v:=?_) rfl rfl (by kernel_rfl) (by kernel_rfl) (by kernel_rfl) (fun _ _ _ h=>h) (Or.inl ⟨by rfl,?_⟩) (by assumption) ?_
  rotate_left
  .intro w hSw;go_simp;try with_reducible rfl
  simp only[Act.put,Iu,IH,IK];refine Ca (rs:=[18]) (by kernel_rfl) (by simp) (Dc rfl (fun K Q=>?_) Dz)
  go_simp
  refine Q.out _ _ (by first|assumption|go_keep) (fun G=>?_);clear Q K
  try simp only[Act.put,Iu,IH,IK]
  refine zV 19 (some 62) (v:=?_) rfl rfl (by kernel_rfl) (by kernel_rfl) (by kernel_rfl) (fun _ _ _ h=>h) (Or.inl ⟨by rfl,?_⟩) (by assumption) ?_
  rotate_left
  .intro w hSw;go_simp;try with_reducible rfl
  simp only[Act.put,Iu,IH,IK];refine zV 20 (some 63) (v:=?_) rfl rfl (by kernel_rfl) (by kernel_rfl) (by kernel_rfl) (fun _ _ _ h=>h) (Or.inl ⟨by rfl,?_⟩) (by assumption) ?_
  rotate_left
  .intro w hSw;go_simp;try with_reducible rfl
  simp only[Act.put,Iu,IH,IK];refine Ca (rs:=[21]) (by kernel_rfl) (by simp) (Dc rfl (fun K Q=>?_) Dz)
  go_simp
  refine Q.out _ _ (by first|assumption|go_keep) (fun G=>?_);clear Q K
  try simp only[Act.put,Iu,IH,IK]
  refine wpAnyH_done (by kernel_rfl) ?_ _;refine f8.out _ ?_ ?_ ?_
  .exact Fr.drew (Fr.set (S:=fun k=>k=m.heap.size) (p:=⟨m.heap.size,5,none⟩) (Fr.set (S:=fun k=>k=m.heap.size) (p:=⟨m.heap.size,4,none⟩) (Fr.set (S:=fun k=>k=m.heap.size) (p:=⟨m.heap.size,3,none⟩) (Fr.set (S:=fun k=>k=m.heap.size) (p:=⟨m.heap.size,2,none⟩) (U _ _) (fun _=>rfl) _) (fun _=>rfl) _) (fun _=>rfl) _) (fun _=>rfl) _)
  .exact Blk.drew ((((f9.out.set 2 _).set 3 _).set 4 _).set 5 _)
  .exact((((Fm WR ⟨m.heap.size,2,none⟩ _).trans (Fm _ ⟨m.heap.size,3,none⟩ _)).trans (Fm _ ⟨m.heap.size,4,none⟩ _)).trans (Fm _ ⟨m.heap.size,5,none⟩ _)).trans (KeepsOthers.drew _)
 case done =>
  rintro D W hD ⟨⟨⟨h3,h4,hp,hj⟩,-,-,-⟩,⟨⟨L',c1,c2,c3⟩,c4,c5⟩,c6,c7⟩ Q;rw[d6.out.1,Ij] at c1;have l8:=hp.cell 0;have m1:=h3.frozen 0;have m2:=h4.frozen 0;have l6:=h3.cell 0;have l7:=h4.cell 0;have i8:w.heap.size+3≠w.heap.size+4:=by omega
  have g6:=(h3.set 0 (.pointer (some ⟨m.heap.size,0,none⟩))).BW (b':=w.heap.size+4) i8 0 .nilIface;have g7:=(h4.BW (b':=w.heap.size+3) (Ev i8) 0 (.pointer (some ⟨m.heap.size,0,none⟩))).set 0 .nilIface;have fE:Fr (fun k=>k=w.heap.size+3\/k=w.heap.size+4) W ((W.setCell ⟨w.heap.size+3,0,none⟩ (.pointer (some ⟨m.heap.size,0,none⟩))).setCell ⟨w.heap.size+4,0,none⟩ .nilIface) :=
   Fr.set (p:=⟨w.heap.size+4,0,none⟩) (Fr.set (p:=⟨w.heap.size+3,0,none⟩) (U _ _) (fun _=>.inl rfl) _) (fun _=>.inr rfl) _
  have g9:=((Fm W ⟨w.heap.size+3,0,none⟩ (.pointer (some ⟨m.heap.size,0,none⟩))).trans (Fm _ ⟨w.heap.size+4,0,none⟩ .nilIface)).same D _ Q rfl;have N:∀ {k t},Ty W k t->t≠119->t≠132->¬(k=w.heap.size+3\/k=w.heap.size+4):=fun ht n1 n2 e=>by
   rcases e with rfl|rfl
   .exact n1 (ht.inj h3.ty)
   .exact n2 (ht.inj h4.ty)
  have i3:=Blk.fr hj fE (N (Blk.ty hj) (by decide) (by decide));have h5:=c1.fr fE (fun k o=>by rcases c1.Bc o with e|e|e <;> exact N e (by decide) (by decide)) (fun k o=>N (c1.Bx o) (by decide) (by decide));have h6:=c4.fr fE (fun k o=>by obtain⟨t,ht,hd⟩:=c4.ty o;unfold DTy at hd;rcases hd with rfl|rfl|rfl|rfl|rfl <;> exact N ht (by decide) (by decide));have g8:=c7.trans' fE (fun k o e=>by omega);have H3:=Z g6;have H4:=Z g7;have HJ:=Z i3;have HC:=Z h5;have j6:=Z h6;have j7:=Z g8;have HK:=Z g9;clear h3 h4 hp hj c1 c4 c5 c6 c7 g6 g7 fE g9 Q N i3 h5 h6 g8
  gi_wp2_with fail
  refine⟨by simp,.inl ⟨_,_,rfl,Ej HK.out,?_⟩⟩;have e3:=(H3.out.put HK.out rfl (.deferred none)).cell 0;have e4:=(H4.out.put HK.out rfl (.deferred none)).cell 0;have fP:=Fr.Bb (ER ((W.setCell ⟨w.heap.size+3,0,none⟩ (.pointer (some ⟨m.heap.size,0,none⟩))).setCell ⟨w.heap.size+4,0,none⟩ .nilIface) D (.deferred none));have f6:Odd (fun k=>some D=some k) ((W.setCell ⟨w.heap.size+3,0,none⟩ (.pointer (some ⟨m.heap.size,0,none⟩))).setCell ⟨w.heap.size+4,0,none⟩ .nilIface):=fun k e=>by cases e;exact⟨_,HK.out,rfl⟩
  refine⟨.tuple #[.pointer (some ⟨m.heap.size,0,none⟩),.nilIface],?_,m.heap.size,T,L',rfl,Blk.fr HJ.out fP ((Blk.ty HJ.out).odd f6),by omega,j6.out.odd fP f6,k0.out,HC.out.odd fP f6,c2,c3,j7.out.trans' fP (fun k o e=>by have:=a0.out.2.2;cases e;omega)⟩;simp only[IH,Gy] at e3 e4;simp[results,Tryz.f94,go_sem,e3,e4]
end Go.Proofs.YtkhnggkkiefcdaaGreatDoor
namespace Go.Proofs.YtkhnggkkiefcdaaGreatDoor
open Go.RowKit
set_option maxRecDepth 100000
set_option maxHeartbeats 8000000
theorem Lq(r:List ByteArray)(x:ByteArray):(YE r x).Perm (x::r):=by
 induction r with
 | nil=>exact Eb _
 | cons y r a =>
  unfold YE;split
  .exact(a.cons y).trans (List.Perm.swap x y r)
  .exact Eb _
theorem Vw(d:Dir):d.names.Perm (d.map Prod.fst):=by
 have h:∀ (e:Dir) (r:List ByteArray),(e.foldl (fun r e=>YE r e.1) r).Perm (e.map Prod.fst++r):=by
  intro e
  induction e with
  | nil=>intro r;exact Eb _
  | cons x e a =>
   intro r;rw[Hd,Iw,It];exact(a _).trans ((EE _ (Lq r x.1)).trans EK)
 unfold Dir.names Yh;rw[Ij];refine(List.reverse_perm _).trans ?_;have:=h d []
 rwa [Iz] at this
theorem Pc{α β:Type}(f:α->β){l m:List β}(h:l.Perm m):∀ b:List α,m=b.map f->∃ a:List α,a.Perm b/\l=a.map f:=by
 induction h with
 | nil=>intro b e;exact⟨b,Eb _,e⟩
 | cons x _ q =>
  intro b e;cases b with
  | nil=>cases e
  | cons y b =>
   simp only[Iw,Cc] at e;obtain⟨a,g,d⟩:=q b e.2;exact⟨y::a,g.cons y,by rw[Iw,<- e.1,<- d]⟩
 | swap x y l =>
  intro b e
  match b,e with
  | b1::k::b,e =>
   simp only[Iw,Cc] at e;exact⟨k::b1::b,List.Perm.swap _ _ _,by rw[Iw,Iw,<- e.1,<- e.2.1,<- e.2.2]⟩
 | trans _ _ i j =>
  intro b e;obtain⟨a,g,d⟩:=j b e;obtain⟨c,p,o⟩:=i a d;exact⟨c,p.trans g,o⟩
def zU(B:Nat)(w:World):Prop:=YV B w/\Yd w/\4<B
theorem zU.fr{B:Nat}{S:Nat->Prop}{w w':World}(h:zU B w)(c:B<=w.heap.size)(f:Fr S w w')(a:∀ k,S k->B<=k):zU B w' :=
 ⟨h.1.fr c f a,h.2.1.fr f (fun e=>by have:=a _ e;have:=h.2.2;omega),h.2.2⟩
def zW(c:Int)(n:Nat):Nat:=(if c<0 then -(c+1) else c).toNat%(n+1)
theorem Yu(c:Int)(n:Nat):zW c n<=n:=by
 have:=EG (if c<0 then -(c+1) else c).toNat (show 0<n+1 by omega);unfold zW;omega
theorem X0(c:Int)(n:Nat)(w:World)(k:-9223372036854775808<=c)(l:c<=9223372036854775807)(o:n<=140737488355328) :
 Calls Tryz.prog 85 #[.int .i64 c,.int .i64 n] w fun e j=>e=.returned (.int .i64 (zW c n))/\j=w:=by
 by_cases d:c<0
 .obtain⟨m,hm⟩:=IZ (a:=-(c+1)) (by omega)
  have b:Hid (zW c n=m%(n+1)):=by simp[Hid,zW,d,hm]
  have h:(m:Int).tmod ((n:Int)+1)=((m%(n+1):Nat):Int):=by rw[show((n:Int)+1)=((n+1:Nat):Int) from rfl,Ew]
  have i:(((n:Int)+1)==0)=false:=by rw[Hy];omega
  have f:(m:Int)<=9223372036854775807:=by omega
  have g:((m%(n+1):Nat):Int)<=9223372036854775807:=by have:=Nat.mod_le m (n+1);omega
  obtain rfl:c=-(m:Int)-1:=by omega
  clear hm;go_enter Tryz.func85,Tryz.ntmps85
  go_wp2
  go_ret;rw[b.out];exact⟨rfl,rfl⟩
 .obtain⟨m,rfl⟩:=IZ (a:=c) (by omega)
  have b:Hid (zW m n=m%(n+1)):=by simp only[Hid,zW];rw[Ie d];rfl
  have h:(m:Int).tmod ((n:Int)+1)=((m%(n+1):Nat):Int):=by rw[show((n:Int)+1)=((n+1:Nat):Int) from rfl,Ew]
  have i:(((n:Int)+1)==0)=false:=by rw[Hy];omega
  go_enter Tryz.func85,Tryz.ntmps85
  go_wp2
  go_ret;rw[b.out];exact⟨rfl,rfl⟩
def Y8(w:World)(v:Value)(l:List Int):Prop :=
 ((∃ a c,v=.slice a 0 c)/\l=[])\/∃ g b d,v=.slice (some ⟨g,b,none⟩) l.length d/\g<w.heap.size/\l.length<=maxLen/\∀ j (h:j<l.length),w.cell? ⟨g,b+j,none⟩=some (.int .i64 l[j])
theorem Y8.fr{S:Nat->Prop}{w w':World}{v:Value}{l:List Int}(h:Y8 w v l)(f:Fr S w w')(y:∀ k,l≠[]->v.ownBlock=some k->¬S k):Y8 w' v l:=by
 rcases h with h|⟨g,a,cap,rfl,o,r,q⟩
 .exact .inl h
 .exact .inr ⟨g,a,cap,rfl,Ha o f.size,r,fun j c=>by rw[f.cell (p:=⟨g,a+j,none⟩) o (y g (fun e=>by rw[e] at c;exact absurd c (IY _)) rfl)];exact q j c⟩
def ZH(f:FM)(c:Int):FM :=
 ⟨f.bytes.take (f.safe+zW c (f.bytes.length-f.safe)),f.safe+zW c (f.bytes.length-f.safe)⟩
def zl(d:Dir)(a:List Int)(file:Nat->FM):Nat->Nat->FM
 | 0=>file
 | k+1=>match (d.names[k]?).bind (Dir.look d) with
  | some f=>fun g=>if g=f then ZH (zl d a file k f) (a.getD k 0) else zl d a file k g
  | none=>zl d a file k
def DM.Bn(M:DM)(a:Int):Dir :=
 if zW a M.CD.length=0 then M.safe else M.CD.getD (zW a M.CD.length-1) []
def DM.CO(M:DM)(a:Int)(b:List Int):DM :=
 {M with dir:=M.Bn a,safe:=M.Bn a,CD:=[],file:=zl (M.Bn a) b M.file (M.Bn a).names.length,dead:=false,cut:=0,fail:=0}
theorem DRep.yb{w j:World}{b:Nat}{L:DL}{M:DM}(h:DRep w b L M){d:Dir}{v:Value}(q:w.ownsRow 0 148 2 v d.length (flat d))(s:∀ e,e∈d->e.2∈M.ids)
 (r:Blk j b (({M with dir:=d}:DM).cells {L with Be:=v}) 143)(f:Fr (fun k=>k=b) w j):DRep j b {L with Be:=v} {M with dir:=d} where
 CB:=r
 dir:=ze q f fun _ e a=>by subst a;exact zi q h.CB (by decide) e
 safe:=ze h.safe f fun _ e a=>by subst a;exact zi h.safe h.CB (by decide) e
 ch:=ze h.ch f fun _ e a=>by subst a;exact zi h.ch h.CB (by decide) e
 BJ:=h.BJ
 CD:=fun i l o=>ze (h.CD i l o) f fun _ e a=>by subst a;exact zi (h.CD i l o) h.CB (by decide) e
 files:=fun g c=>(h.files g c).fr f ((h.files g c).ne h.CB (by decide))
 rows:=fun g c=>ze (h.rows g c) f fun _ e a=>by subst a;exact zi (h.rows g c) h.CB (by decide) e
 sep:=h.sep
 le:=h.le
 Bq:=s
 Ai:=h.Ai
 Aj:=h.Aj
theorem DRep.Ba{w s:World}{b:Nat}{L:DL}{M:DM}(h:DRep w b L M){f:Nat}(A:f∈M.ids){v:Value}{m:Nat}(I:m<=(M.file f).bytes.length)
 (E:Blk s f [v,.int .i64 m] 152)(G:w.ownsRow 0 5 1 v m (u8s ((M.file f).bytes.take m)))
 (fr:Fr (fun k=>k=f) w s)(o:∀ k,v.ownBlock=some k->(L.fV f).ownBlock=some k) :
 DRep s b {L with fV:=fun g=>if g=f then v else L.fV g} (M.CJ f ⟨(M.file f).bytes.take m,m⟩):=by
 have a:∀ {e:TypeId} {C:Nat} {v:Value} {n:Nat} {D:List Value},w.ownsRow 0 e C v n D->e≠152->s.ownsRow 0 e C v n D:=fun B x =>
  ze B fr fun k e d=>by subst d;exact zi B (h.files k A) (Ev x) e
 have q:((M.file f).bytes.take m).length=m:=by simp;omega
 exact {
  CB:=h.CB.fr fr (h.CB.ne (h.files f A) (by decide))
  dir:=a h.dir (by decide)
  safe:=a h.safe (by decide)
  ch:=a h.ch (by decide)
  BJ:=h.BJ
  CD:=fun i x y=>a (h.CD i x y) (by decide)
  files:=fun g c=>by
   by_cases e:g=f
   .subst e;simpa [DM.CJ] using E
   .have:=(h.files g c).fr fr e
    simpa [DM.CJ,e] using this
  rows:=fun g c=>by
   by_cases e:g=f
   .subst e
    have:=a G (by decide);simp only[DM.CJ,Hp,q];exact this
   .have:=a (h.rows g c) (by decide)
    simpa [DM.CJ,e] using this
  sep:=fun g c l j e k d=>by
   by_cases t:g=f
   .subst t
    have r:¬l=g:=fun h=>e h.symm;simp only[Hp,r,Hf] at d |-;exact h.sep g c l j e k (o k d)
   .by_cases r:l=f
    .subst r
     simp only[t,Hf,Hp] at d |-;intro y;exact h.sep g c l j e k d (o k y)
    .simp only[t,r,Hf] at d |-
     exact h.sep g c l j e k d
  le:=fun g c=>by
   by_cases e:g=f
   .subst e;simp[DM.CJ];omega
   .simpa [DM.CJ,e] using h.le g c
  Bq:=h.Bq
  Ai:=h.Ai
  Aj:=h.Aj}
theorem Vx{w:World}{a:Nat}{e:TypeId}{g n b m:Nat}{j:List Value}(h:w.ownsRow a e 1 (.slice (some ⟨g,0,none⟩) n b) n j)(t:m<=n) :
 w.ownsRow a e 1 (.slice (some ⟨g,0,none⟩) m b) m (j.take m):=by
 have s:=h.1;refine⟨by simp;omega,?_⟩;rcases h.2 with⟨c,_⟩|⟨r,i,d,c,k,l,u,f,o,q⟩
 .cases c
 .simp at c
  obtain⟨rfl,rfl⟩:=c;refine .inr ⟨g,b,d,rfl,k,l,by omega,f,o,?_⟩;rw[<- q,GQ]
  congr 1
  omega
theorem Foot.yB{b:Nat}{L:DL}{M:DM}{f k:Nat}{v:Value}{x:FM}(j:f∈M.ids)(c:∀ k,v.ownBlock=some k->(L.fV f).ownBlock=some k)
 (h:Foot b {L with fV:=fun g=>if g=f then v else L.fV g} (M.CJ f x) k):Foot b L M k:=by
 cases h using Foot.elim with
 | blk=>exact .CB
 | dir e=>exact .dir e
 | safe e=>exact .safe e
 | ch e=>exact .ch e
 | chs i d e=>exact .CD i d e
 | file e=>exact .file e
 | row g l e =>
  by_cases a:g=f
  .simp only[a,Hp] at e;exact .row f j (c k e)
  .simp only[a,Hf] at e;exact .row g l e
end Go.Proofs.YtkhnggkkiefcdaaGreatDoor
