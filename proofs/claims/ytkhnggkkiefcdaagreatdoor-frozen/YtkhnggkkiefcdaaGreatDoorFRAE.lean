/- larder: joined texts -/
import Derived.Test.YtkhnggkkiefcdaaGreatDoorFRAB
import Derived.Test.YtkhnggkkiefcdaaGreatDoorFRAC
import Derived.Test.YtkhnggkkiefcdaaGreatDoorFRAD
import Derived.Test.YtkhnggkkiefcdaaGreatDoorChecked
import Derived.Deep.RegionHeld3
import Derived.Shelf.Strconv.Itoa3
import Derived.Shelf.Pu.Clone
import Derived.Ground.NamesProg
import Derived.Ground.MpProg
import Derived.Test.YtkhnggkkiefcdaaGreatDoorProg
import Derived.Test.YtkhnggkkiefcdaaGreatDoorRows
import Derived.Lib.ItoaLen
namespace Go.Proofs.YtkhnggkkiefcdaaGreatDoor
open Go.RowKit
set_option maxRecDepth 100000
set_option maxHeartbeats 8000000
theorem Nx:((Tryz.prog.info? 75).map fun i=>(i.zero.map (·.cells.size),i.size,i.bytes))=some (some 2,2,24):=by kernel_rfl
theorem Ny:((Tryz.prog.info? 75).map fun i=>(i.zero.map fun z=>z.cells.toList.all (·.oneCell')))=some (some true):=by kernel_rfl
theorem T4(v:Value)(n i:Nat)(C:List Value)(w:World)(l:w.ownsRow 0 75 2 v n C)(h1:∀ u∈C,u.oneCell'=true)(hi:i<n) :
 Calls Tryz.prog 278 #[v,.int .i64 i,.int .i64 ((i:Int)+1)] w fun e w' =>
  ∃ I,e=.returned I/\I.ownBlock=v.ownBlock/\w'.ownsRow 0 75 2 I (n-1) (Zv 2 i C)/\Fr (fun b=>v.ownBlock=some b) w w':=by
 rcases ZK l with⟨_,h0,_⟩|⟨g,a,c,rfl,hg,hn,M,r,ht⟩
 .omega
 obtain⟨i0,z,F,G,a2,a1,a0⟩:=Zr Nx;have Y:∀ u∈z.cells.toList,u.oneCell'=true:=by
  have:=Ny;rw[F] at this;simp only[KX,G] at this;exact List.all_eq_true.1 (Mp (Mp this))
 have X:C.length=n*2:=l.1;clear l;obtain⟨o,k⟩:∃ o,o=C.drop ((i+1)*2):=⟨_,rfl⟩;have s:o.length=(n-(i+1))*2:=by rw[k,Mn,X];omega
 have N:∀ j u,o[j]?=some u->c[(i+1)*2+j]?=some u:=by
  intro j u m;rw[k,LN] at m;have a6:=(Md.1 m).1;rw[<- ht,MS (by omega)] at m;exact m
 obtain⟨K,a4,V⟩:∃ K:Addr,(if a=i+1 then some (⟨g,0,none⟩:Addr) else some ⟨g,(i+1)*2,none⟩)=some K/\Hid (∀ j u,o[j]?=some u->w.drew.cell? (K.add j)=some u):=by
  by_cases h:a=i+1
  .refine⟨⟨g,0,none⟩,by simp[h],fun j u m=>?_⟩
   have:=(Md.1 m).1;omega
  .refine⟨⟨g,(i+1)*2,none⟩,by simp[h],fun j u m=>?_⟩
   rw[MK,hg.drew.cell];exact N j u m
 have p:∀ ty sc,(Builtin.append_ #[66,66] ty #[.slice (some ⟨g,0,none⟩) i a,.slice (some K) (n-(i+1)) sc]).run Tryz.prog w.drew=_:=fun ty sc =>
  WB (P:=Tryz.prog) 66 75 ty 2 KI (by kernel_rfl) g i (n-(i+1)) a sc K c o hg.drew (by omega) r s V.out (fun u m=>h1 u (by rw[k] at m;exact MO m))
 have e1:i+(n-(i+1))=n-1:=by omega
 rw[e1] at p;obtain⟨f,q⟩:∃ f,f=c.take (i*2)++o++c.drop (i*2+o.length):=⟨_,rfl⟩;rw[<- q] at p;have d:f.length=a*2:=by
  rw[q];simp only[NQ,NT,Mn,s,r];omega
 have x:f.take ((n-1)*2)=Zv 2 i C:=by
  have e:(c.take (i*2)++o).length=(n-1)*2:=by rw[NQ,NT,s,r];omega
  rw[q,MY e];unfold Zv;rw[<- k,<- ht,Kg]
  congr 2
  omega
 have t:Blk (w.drew.setRow g f.toArray) g f 75:=hg.drew.setRow f;have E:Fr (fun b=>some g=some b) w (w.drew.setRow g f.toArray):=Fr.setRow (S:=fun b=>some g=some b) ((O _ w).drew) (fun _=>rfl) _;obtain⟨D,L⟩:∃ D,D=w.drew.setRow g f.toArray:=⟨_,rfl⟩;rw[<- L] at p t E;clear L;have B:∀ cc,∃ J:List Value,J.length=a*2/\J.take ((n-1)*2)=Zv 2 i C/\∀ ty,(Builtin.clear_ #[66] ty #[.slice (some ⟨g,(n-1)*2,none⟩) (n-(n-1)) cc]).run Tryz.prog D=.ok (.tuple #[]) (D.setRow g J.toArray):=by
  intro cc;have e2:n-(n-1)=1:=by omega
  rw[e2];obtain⟨zs,a3,T⟩:=VE (P:=Tryz.prog) (w:=D) 66 75 75 i0 z 2 KI F G a0 Y g ((n-1)*2) 1 cc f 75 t (by rw[d];omega);refine⟨f.take ((n-1)*2)++zs++f.drop ((n-1)*2+zs.length),?_,?_,fun ty=>T⟩
  .simp only[NQ,NT,Mn,a3,d]
   omega
  .have e:(f.take ((n-1)*2)).length=(n-1)*2:=by rw[NT,d];omega
   rw[Mm,MY e,x]
 obtain⟨J,y,A,B⟩:=B (a-(n-1));have Q:∀ e,e=Ending.returned (.slice (some ⟨g,0,none⟩) (n-1) a)->∃ I,e=.returned I/\I.ownBlock=some g/\(D.setRow g J.toArray).ownsRow 0 75 2 I (n-1) (Zv 2 i C)/\Fr (fun b=>some g=some b) w (D.setRow g J.toArray):=by
  intro e he;exact⟨_,he,rfl,ZQ (t.setRow _) (by omega) M y A,Fr.setRow (S:=fun b=>some g=some b) E (fun _=>rfl) _⟩
 clear A y x d q t E N s k hg X h1 a0 a1 a2 G F Y r ht;have R:(Value.slice (some ⟨g,0,none⟩) n a).ownBlock=some g:=rfl;rw[R];clear R;unfold maxLen at M;have a5:i<=a:=by omega
 have a7:¬(i:Int)=(i:Int)+1:=by omega
 have a8:¬a=n-1:=by omega
 have a9:IntKind.i64.wrap ((i:Int)+1)=(i:Int)+1:=by rw[MC];omega
 have b0:(0:Int)<=(i:Int)+1:=by omega
 have b1:((i:Int)+1).toNat=i+1:=by omega
 have b2:(i:Int)<=(n:Int):=by omega
 have b3:(i:Int)+1<=(n:Int):=by omega
 go_enter Tryz.func278,Tryz.ntmps278;go_wp2_with fail
 go_region_law (refine Uu rfl _ _ 66 66 rfl _ _ (by simp[Act.eval,Act.put]) (by simp[Act.eval,Act.put]) (p _ (a-(i+1))) ?_)
 go_wp2
 go_ret;exact Q _ rfl
structure SM where
 keys:List (ByteArray × List Ver)
 hints:List (Nat × ByteArray)
 IQ:Nat
structure SL where
 kv:Value
 hv:Value
 Gi:List (ByteArray × Value)
def VRow(w:World)(v:Value)(l:List Ver):Prop:=w.ownsRow 0 37 8 v l.length (Zl l)
def Z8(l:List (Nat × ByteArray)):List Value:=l.flatMap fun e=>[.int .i64 e.1,.string e.2]
theorem UA(l:List (Nat × ByteArray)):∀ u∈Z8 l,u.oneCell'=true:=by
 intro u a;simp only[Z8,Jm] at a;obtain⟨e,_,a⟩:=a;simp at a;rcases a with rfl|rfl <;> rfl
def Pair(R:Value->List Ver->Prop):List (ByteArray × Value)->List (ByteArray × List Ver)->Prop
 | [],[]=>True
 | a::d,b::c=>a.1=b.1/\R a.2 b.2/\Pair R d c
 | _,_=>False
theorem Pair.mono{R Q:Value->List Ver->Prop}:∀ {c:List (ByteArray × Value)}{e:List (ByteArray × List Ver)},Pair R c e->(∀ a,a∈c->∀ l,R a.2 l->Q a.2 l)->Pair Q c e
 | [],[],_,_=>trivial
 | a::_,_::_,h,f=>⟨h.1,f a (NY ..) _ h.2.1,Pair.mono h.2.2 fun x g=>f x (NX _ g)⟩
theorem Pair.length{R:Value->List Ver->Prop}:∀ {c:List (ByteArray × Value)}{a:List (ByteArray × List Ver)},Pair R c a->c.length=a.length
 | [],[],_=>rfl
 | _::c,_::a,h=>by simp[Pair.length h.2.2]
theorem Pair.keys{R:Value->List Ver->Prop}:∀ {b:List (ByteArray × Value)}{a:List (ByteArray × List Ver)},Pair R b a->b.map Prod.fst=a.map Prod.fst
 | [],[],_=>rfl
 | _::b,_::a,h=>by simp[Pair.keys h.2.2,h.1]
theorem Pair.take{R:Value->List Ver->Prop}:∀ {c:List (ByteArray × Value)}{a:List (ByteArray × List Ver)}(i:Nat),Pair R c a->Pair R (c.take i) (a.take i)
 | [],[],i,_=>by simp[Pair]
 | _::c,_::a,0,_=>trivial
 | _::c,_::a,i+1,h=>⟨h.1,h.2.1,Pair.take i h.2.2⟩
theorem Pair.drop{R:Value->List Ver->Prop}:∀ {c:List (ByteArray × Value)}{a:List (ByteArray × List Ver)}(i:Nat),Pair R c a->Pair R (c.drop i) (a.drop i)
 | [],[],i,_=>by simp[Pair]
 | _::c,_::a,0,h=>h
 | _::c,_::a,i+1,h=>Pair.drop i h.2.2
theorem Pair.append{R:Value->List Ver->Prop}:∀ {d:List (ByteArray × Value)}{a:List (ByteArray × List Ver)}{b:List (ByteArray × Value)}{c:List (ByteArray × List Ver)},Pair R d a->Pair R b c->Pair R (d++b) (a++c)
 | [],[],_,_,_,k=>k
 | _::_,_::_,_,_,h,k=>⟨h.1,h.2.1,Pair.append h.2.2 k⟩
theorem Pair.get{R:Value->List Ver->Prop}:∀ {b:List (ByteArray × Value)}{a:List (ByteArray × List Ver)},Pair R b a->∀ (i:Nat)(c:i<b.length)(d:i<a.length),R b[i].2 a[i].2
 | [],[],_,i,c,_=>by simp at c
 | _::b,_::a,h,0,_,_=>h.2.1
 | _::b,_::a,h,i+1,c,d=>Pair.get h.2.2 i (by simpa using c) (by simpa using d)
structure SRep(w:World)(b:Nat)(L:SL)(S:SM):Prop where
 IR:Blk w b [L.kv,L.hv,.int .i64 S.IQ] 161
 GT:YS w L.kv L.Gi
 pair:Pair (VRow w) L.Gi S.keys
 hint:w.ownsRow 0 75 2 L.hv S.hints.length (Z8 S.hints)
def SFoot(b:Nat)(L:SL)(k:Nat):Prop:=k=b\/L.kv.ownBlock=some k\/L.hv.ownBlock=some k
def SRead(L:SL)(k:Nat):Prop:=∃ e∈L.Gi,e.2.ownBlock=some k
theorem VRow.fr{S:Nat->Prop}{w w':World}{v:Value}{l:List Ver}(h:VRow w v l)(f:Fr S w w')(a:∀ k,v.ownBlock=some k->¬S k):VRow w' v l:=za h f a
theorem SRep.fr{c:Nat->Prop}{w w':World}{b:Nat}{L:SL}{S:SM}(h:SRep w b L S)(f:Fr c w w')(g:∀ k,SFoot b L k->¬c k)(i:∀ k,SRead L k->¬c k):SRep w' b L S :=
 ⟨h.IR.fr f (g _ (.inl rfl)),h.GT.fr f (fun _ e=>g _ (.inr (.inl e))),h.pair.mono (fun a j _ q=>VRow.fr q f (fun k o=>i k ⟨a,j,o⟩)),za h.hint f (fun _ e=>g _ (.inr (.inr e)))⟩
theorem SRep.nil{w w':World}{b:Nat}{L:SL}{S:SM}(h:SRep w b L S)(f:Fr Nil w w'):SRep w' b L S:=h.fr f (fun _ _=>id) (fun _ _=>id)
def Ty(w:World)(k:Nat)(t:TypeId):Prop:=∃ c f,w.heap[k]?=some (.cells c t f)
theorem Ty.inj{w:World}{k:Nat}{t u:TypeId}(h:Ty w k t)(a:Ty w k u):t=u:=by
 obtain⟨c,f,h⟩:=h;obtain⟨b,d,a⟩:=a;rw[h] at a;simp at a;exact a.2.1
theorem Blk.ty{w:World}{b:Nat}{c:List Value}{t:TypeId}(h:Blk w b c t):Ty w b t:=⟨_,_,h⟩
theorem Zx{w:World}{e:TypeId}{size n:Nat}{v:Value}{f:List Value}(h:w.ownsRow 0 e size v n f){k:Nat}(a:v.ownBlock=some k):Ty w k e:=by
 rcases ZK h with⟨rfl,_⟩|⟨g,b,c,rfl,d,_⟩
 .simp[Value.ownBlock] at a
 .simp[Value.ownBlock] at a
  subst a;exact d.ty
theorem SRep.Hn{w:World}{b:Nat}{L:SL}{S:SM}(h:SRep w b L S){k:Nat}(a:SFoot b L k):Ty w k 161\/Ty w k 239\/Ty w k 75:=by
 rcases a with rfl|a|a
 .exact .inl h.IR.ty
 .exact .inr (.inl (Zx h.GT.own a))
 .exact .inr (.inr (Zx h.hint a))
theorem Pair.mem{R:Value->List Ver->Prop}:∀ {d:List (ByteArray × Value)}{f:List (ByteArray × List Ver)},Pair R d f->∀ e∈d,∃ l,R e.2 l
 | [],[],_,e,c=>by cases c
 | a::d,b::f,h,e,c=>by
  rcases Mr.1 c with rfl|c
  .exact⟨_,h.2.1⟩
  .exact Pair.mem h.2.2 e c
theorem SRep.Gg{w:World}{b:Nat}{L:SL}{S:SM}(h:SRep w b L S){k:Nat}(a:SRead L k):Ty w k 37:=by
 obtain⟨e,c,a⟩:=a;obtain⟨l,d⟩:=h.pair.mem e c;exact Zx d a
def Zm{β:Type}(l:List (ByteArray × β))(s:ByteArray)(x:β):List (ByteArray × β) :=
 l.take (low zb (l.map Prod.fst) s)++[(s,x)]++l.drop (if zD zb (l.map Prod.fst) s=true then low zb (l.map Prod.fst) s+1 else low zb (l.map Prod.fst) s)
def ZR{β:Type}(l:List (ByteArray × β))(s:ByteArray):List (ByteArray × β) :=
 if zD zb (l.map Prod.fst) s=true then l.take (low zb (l.map Prod.fst) s)++l.drop (low zb (l.map Prod.fst) s+1) else l
def zt(l:List (ByteArray × List Ver))(s:ByteArray):List Ver :=
 if zD zb (l.map Prod.fst) s=true then(l.getD (low zb (l.map Prod.fst) s) (s,[])).2 else []
theorem Pair.set{R:Value->List Ver->Prop}{b:List (ByteArray × Value)}{a:List (ByteArray × List Ver)}(h:Pair R b a)(s:ByteArray){x:Value}{l:List Ver}(c:R x l):Pair R (ZB b s x) (Zm a s l):=by
 unfold ZB Zm;rw[show zm b=a.map Prod.fst from h.keys];exact Pair.append (Pair.append (h.take _) ⟨rfl,c,trivial⟩) (h.drop _)
theorem Pair.del{R:Value->List Ver->Prop}{b:List (ByteArray × Value)}{a:List (ByteArray × List Ver)}(h:Pair R b a)(s:ByteArray):Pair R (Yc b s) (ZR a s):=by
 unfold Yc ZR;rw[show zm b=a.map Prod.fst from h.keys];split
 .exact Pair.append (h.take _) (h.drop _)
 .exact h
theorem Ok{l:List (ByteArray × Value)}{s:ByteArray}{x:Value}:∀ e∈ZB l s x,e∈l\/e=(s,x):=by
 intro e a;simp only[ZB,Mc,NW] at a;rcases a with(a|a)|a
 .exact .inl (Lr a)
 .exact .inr a
 .exact .inl (MO a)
def SStep(w:World)(b:Nat)(L:SL)(S:SM)(X:Nat->Prop)(c:World):Prop :=
 ∃ a,SRep c b a S/\Fr (SFoot b L) w c/\(∀ k,SFoot b a k->SFoot b L k\/w.heap.size<=k)/\(∀ k,SRead a k->SRead L k\/X k)
theorem Sj(n:Nat)(b:Nat)(L:SL)(S:SM)(w:World)(h:SRep w b L S) :
 Calls Tryz.prog 308 #[.agg #[.int .i64 n],.pointer (some ⟨b,0,none⟩)] w fun e o=>e=.returned (.tuple #[])/\SStep w b L {S with IQ:=n} Nil o:=by
 have g:=h.IR.lt;have p:=h.IR.cell;have q:=h.IR.frozen;have f:SStep w b L {S with IQ:=n} Nil ((w.setCell ⟨b,2,none⟩ (.int .i64 n)).alloc (.cells #[.int .i64 n] 220)):=by
  have c:Fr (fun k=>k=b) w (w.setCell ⟨b,2,none⟩ (.int .i64 n)):=Fr.set (S:=fun k=>k=b) (O _ _) (fun _=>rfl) _;have m:SRep (w.setCell ⟨b,2,none⟩ (.int .i64 n)) b L {S with IQ:=n} :=
   ⟨h.IR.set 2 _,h.GT.fr c (fun k d e=>zf h.GT.own h.IR (by decide) (by rw[d,e])),h.pair.mono (fun a _ l i=>VRow.fr i c (fun k d e=>zf i h.IR (by decide) (by rw[d,e]))),za h.hint c (fun k d e=>zf h.hint h.IR (by decide) (by rw[d,e]))⟩
  exact⟨L,m.nil ((O _ _).alloc _),(c.mono (fun k _ e=>.inl e)).alloc _,fun k d=>.inl d,fun k d=>.inl d⟩
 clear h;have j:=Z f;clear f;go_enter Tryz.func308,Tryz.ntmps308
 go_wp2
 exact Lo (v:=.tuple #[]) (by simp[results,go_sem]) rfl ⟨rfl,j.out⟩
def Zg(w:World)(n:Int):Nat->Value->Prop
 | 0,v=>∃ b c f,v=.iface 225 (.pointer (some ⟨b,0,none⟩))/\Blk w b [.string c,.string f,.int .i64 n] 229
 | k+1,v=>∃ b a d,v=.iface 202 (.pointer (some ⟨b,0,none⟩))/\Blk w b [.string a,d] 204/\Zg w n k d
def ERep(w:World)(v:Value):Option Int->Prop
 | none=>v=.nilIface
 | some n=>∃ k,Zg w n k v
def YA(w:World)(S:Nat->Prop):Prop:=∀ k,(Ty w k 229\/Ty w k 204)->¬S k
theorem Zg.fr{S:Nat->Prop}{w w':World}{n:Int}(f:Fr S w w')(i:YA w S):∀ {k:Nat}{v:Value},Zg w n k v->Zg w' n k v
 | 0,_,⟨b,c,g,h,a⟩=>⟨b,c,g,h,a.fr f (i b (.inl a.ty))⟩
 | _+1,_,⟨b,e,o,h,a,j⟩=>⟨b,e,o,h,a.fr f (i b (.inr a.ty)),Zg.fr f i j⟩
theorem ERep.fr{S:Nat->Prop}{w w':World}{v:Value}{e:Option Int}(h:ERep w v e)(f:Fr S w w')(c:YA w S):ERep w' v e:=by
 cases e with
 | none=>exact h
 | some n=>obtain⟨k,a⟩:=h;exact⟨k,a.fr f c⟩
theorem YA.nil(w:World):YA w Nil:=fun _ _=>id
theorem Zg.form{w:World}{n:Int}:∀ {k:Nat}{v:Value},Zg w n k v->∃ t b,v=.iface t (.pointer (some ⟨b,0,none⟩))
 | 0,_,⟨b,_,_,h,_⟩=>⟨_,b,h⟩
 | _+1,_,⟨b,_,_,h,_⟩=>⟨_,b,h⟩
def Zy(n:Int):Option Int:=if n=0 then none else some n
theorem Xl(c f:ByteArray)(n:Int)(w:World) :
 Calls Tryz.prog 166 #[.string c,.string f,.int .i64 n] w fun e d=>∃ v,e=.returned v/\ERep d v (Zy n)/\Fr Nil w d:=by
 by_cases a:n=0
 .subst a
  go_enter Tryz.func166,Tryz.ntmps166
  go_wp2
  go_ret;exact⟨_,rfl,rfl,O _ _⟩
 .have he:Zy n=some n:=by unfold Zy;rw[Ma a]
  have b:Blk (w.alloc (.cells #[.string c,.string f,.int .i64 n] 229)) w.heap.size [.string c,.string f,.int .i64 n] 229:=Blk.new w [.string c,.string f,.int .i64 n] _;have h:(n==0)=false:=by simp[a]
  have g:=Z b;rw[he];clear he b a;go_enter Tryz.func166,Tryz.ntmps166
  go_wp2
  go_ret;exact⟨_,rfl,⟨0,_,_,_,rfl,g.out⟩,(O _ _).alloc _⟩
theorem zo(a:ByteArray)(v:Value)(e:Option Int)(w:World)(h:ERep w v e) :
 Calls Tryz.prog 90 #[.string a,v] w fun x w'=>∃ g,x=.returned g/\ERep w' g e/\Fr Nil w w':=by
 cases e with
 | none =>
  have j:v=.nilIface:=h;subst j;go_enter Tryz.func90,Tryz.ntmps90
  go_wp2
  go_ret;exact⟨_,rfl,rfl,O _ _⟩
 | some n =>
  obtain⟨k,c⟩:=h;obtain⟨t,b,rfl⟩:=c.form;have f:Fr Nil w (w.alloc (.cells #[.string a,.iface t (.pointer (some ⟨b,0,none⟩))] 204)):=(O _ _).alloc _;have d:Blk (w.alloc (.cells #[.string a,.iface t (.pointer (some ⟨b,0,none⟩))] 204)) w.heap.size [.string a,.iface t (.pointer (some ⟨b,0,none⟩))] 204:=Blk.new w [.string a,.iface t (.pointer (some ⟨b,0,none⟩))] _;have i:Hid (ERep (w.alloc (.cells #[.string a,.iface t (.pointer (some ⟨b,0,none⟩))] 204)) (.iface 202 (.pointer (some ⟨w.heap.size,0,none⟩))) (some n)):=⟨k+1,_,_,_,rfl,d,c.fr f (YA.nil w)⟩;clear d c;go_enter Tryz.func90,Tryz.ntmps90
  go_wp2
  go_ret;exact⟨_,rfl,i.out,f⟩
structure JM where
 Hq:Nat
 last:Nat
 name:ByteArray
 size:Nat
 Gk:Bool
 Hb:Bool
def JM.cells(a:Nat)(J:JM):List Value:=[.pointer (some ⟨a,0,none⟩),.int .i64 J.Hq,.int .i64 J.last,.string J.name,.int .i64 J.size,.bool J.Gk,.bool J.Hb]
def JRep(w:World)(b a:Nat)(J:JM):Prop:=Blk w b (J.cells a) 197
def DTy(t:TypeId):Prop:=t=143\/t=148\/t=145\/t=152\/t=5
theorem DRep.ty{w:World}{b:Nat}{L:DL}{M:DM}(h:DRep w b L M){k:Nat}(d:Foot b L M k):∃ t,Ty w k t/\DTy t:=by
 cases d using Foot.elim with
 | blk=>exact⟨_,h.IR.ty,.inl rfl⟩
 | dir e=>exact⟨_,Zx h.dir e,.inr (.inl rfl)⟩
 | safe e=>exact⟨_,Zx h.safe e,.inr (.inl rfl)⟩
 | ch e=>exact⟨_,Zx h.ch e,.inr (.inr (.inl rfl))⟩
 | chs i a e=>exact⟨_,Zx (h.IW i a (by rw[<- h.Gj];exact a)) e,.inr (.inl rfl)⟩
 | file e=>exact⟨_,(h.files k e).ty,.inr (.inr (.inr (.inl rfl)))⟩
 | row f c e=>exact⟨_,Zx (h.rows f c) e,.inr (.inr (.inr (.inr rfl)))⟩
theorem DRep.apart{w:World}{b:Nat}{L:DL}{M:DM}(h:DRep w b L M){k:Nat}{t:TypeId}(e:Ty w k t)(a:¬DTy t):¬Foot b L M k:=fun d=>by
 obtain⟨u,f,c⟩:=h.ty d;rw[e.inj f] at a;exact a c
theorem Blk.step{w w':World}{b a:Nat}{L d:DL}{M e:DM}{c:List Value}{t:TypeId}(h:Blk w a c t)(f:DRep w b L M)(g:DStep b L M w d e w')(i:¬DTy t):Blk w' a c t :=
 h.fr g.fr (f.apart h.ty i)
theorem DStep.of{w g d:World}{b:Nat}{L a:DL}{M c:DM}(h:DStep b L M g a c d)(f:Fr Nil w g):DStep b L M w a c d :=
 ⟨h.Hl,(f.mono (fun _ _ e=>absurd e id)).trans h.fr,fun k i=>(h.Hw k i).imp id (fun h=>NR f.size h)⟩
theorem DStep.Ha{w d w':World}{b:Nat}{L a:DL}{M c:DM}(h:DStep b L M w a c d)(f:Fr Nil d w'):DStep b L M w a c w' :=
 ⟨h.Hl.fr f (fun _ _=>id),h.fr.trans (f.mono (fun _ _ e=>absurd e id)),h.Hw⟩
theorem DRep.nil{w w':World}{b:Nat}{L:DL}{M:DM}(h:DRep w b L M)(f:Fr Nil w w'):DRep w' b L M:=h.fr f (fun _ _=>id)
def JM.IU(J:JM)(M:DM):Option Int × DM:=if J.last=0 then(none,M) else(Zy (M.sync J.name).1,(M.sync J.name).2)
theorem XN(c b:Nat)(J:JM)(L:DL)(M:DM)(w:World)(l:JRep w c b J)(i:DRep w b L M) :
 Calls Tryz.prog 132 #[.pointer (some ⟨c,0,none⟩)] w fun e d=>∃ v f,e=.returned v/\ERep d v (J.IU M).1/\DStep b L M w f (J.IU M).2 d:=by
 have k:=l.cell;simp only[JM.cells] at k;by_cases j:J.last=0
 .have hs:J.IU M=(none,M):=by unfold JM.IU;rw[Mg j]
  rw[hs];rw[j] at k;have m:=Z i;clear hs j i l;go_enter Tryz.func132,Tryz.ntmps132
  go_wp2
  go_ret;exact⟨_,L,rfl,rfl,DStep.look m.out (O _ _)⟩
 .have hs:J.IU M=(Zy (M.sync J.name).1,(M.sync J.name).2):=by unfold JM.IU;rw[Ma j]
  rw[hs];have C:((J.last:Int)==0)=false:=by simp;omega
  have y:w.cell? ⟨c,0,none⟩=some (.pointer (some ⟨b,0,none⟩)):=k 0;have z:w.cell? ⟨c,3,none⟩=some (.string J.name):=k 3;have r:Hid (∀ q d f,DStep b L M q f (M.sync J.name).2 d->Fr Nil w q->d.cell? ⟨c,0,none⟩=some (.pointer (some ⟨b,0,none⟩))/\d.cell? ⟨c,3,none⟩=some (.string J.name)):=by
   intro q d f a t;have:=((l.fr t id).step (i.nil t) a (by unfold DTy;decide)).cell;exact⟨by rw[this];rfl,by rw[this];rfl⟩
  have m:=Z i;clear hs j i l;go_enter Tryz.func132,Tryz.ntmps132;go_wp2_with fail
  go_region_held3 (fun d=>d.cell? ⟨c,0,none⟩=some (.pointer (some ⟨b,0,none⟩))/\d.cell? ⟨c,3,none⟩=some (.string J.name)) (first|assumption|go_keep)
   (first
   | (go_at_call 166;refine(Xl _ _ _ _).mono ?_;rintro e p ⟨D,rfl,s,g⟩;have B:p.cell? ⟨c,0,none⟩=some (.pointer (some ⟨b,0,none⟩))/\p.cell? ⟨c,3,none⟩=some (.string J.name):=r.out _ _ _ (h.out.Ha (Fr.trans z8 g)) (O _ _);have x:=Z s;have o:Hid (Fr Nil u p):=Fr.trans z8 g;clear s g)
   | (go_at_call 167;refine(Qm J.name _ b L M (m.out.nil z8)).mono ?_;rintro e u ⟨rfl,f,a⟩;have A:=r.out _ _ _ a z8;have h:Hid (DStep b L M w f (M.sync J.name).2 u):=a.of z8;clear a))
  go_wp2
  go_ret;exact⟨_,f,rfl,x.out,h.out.Ha o.out⟩
def JStep(e a:Nat)(L:DL)(M:DM)(w:World)(J':JM)(c:DL)(d:DM)(b:World):Prop :=
 JRep b e a J'/\DRep b a c d/\Fr (fun k=>k=e\/Foot a L M k) w b/\(∀ k,Foot a c d k->Foot a L M k\/w.heap.size<=k)
theorem JStep.trans{c a:Nat}{g l o:DL}{q r s:DM}{x w2 y:World}{z e:JM}(h:JStep c a g q x z l r w2)(k:JStep c a l r w2 e o s y):JStep c a g q x e o s y:=by
 refine⟨k.1,k.2.1,h.2.2.1.trans' k.2.2.1 (fun i t A=>?_),fun i t=>?_⟩
 .rcases A with h'|h'
  .exact .inl h'
  .rcases h.2.2.2 i h' with h2|h2
   .exact .inr h2
   .omega
 .rcases k.2.2.2 i t with h'|h'
  .exact h.2.2.2 i h'
  .exact .inr (NR h.2.2.1.size h')
theorem JStep.Gl{d a:Nat}{L b:DL}{M c:DM}{w f:World}{J:JM}(i:JRep w d a J)(g:DRep w a L M)(h:DStep a L M w b c f):JStep d a L M w J b c f :=
 ⟨i.step g h (by unfold DTy;decide),h.Hl,h.fr.mono (fun _ _ e=>.inr e),h.Hw⟩
theorem JStep.nil{c a:Nat}{L:DL}{M:DM}{w w':World}{J:JM}(d:JRep w c a J)(b:DRep w a L M)(f:Fr Nil w w'):JStep c a L M w J L M w' :=
 JStep.Gl d b (DStep.look b f)
theorem JStep.Ha{d c:Nat}{L a:DL}{M b:DM}{w e w':World}{J':JM}(h:JStep d c L M w J' a b e)(f:Fr Nil e w'):JStep d c L M w J' a b w' :=
 h.trans (JStep.nil h.1 h.2.1 f)
theorem JStep.set{a b:Nat}{L:DL}{M:DM}{w:World}{J J':JM}(g:JRep w a b J)(d:DRep w b L M)(i:Nat)(v:Value)(h:(J.cells b).set i v=J'.cells b):JStep a b L M w J' L M (w.setCell ⟨a,i,none⟩ v):=by
 have f:Fr (fun k=>k=a) w (w.setCell ⟨a,i,none⟩ v):=Fr.set (S:=fun k=>k=a) (O _ _) (fun _=>rfl) _;refine⟨?_,d.fr f (fun k c e=>?_),f.mono (fun _ _ e=>.inl e),fun k c=>.inl c⟩
 .unfold JRep
  rw[<- h];exact Blk.set g i v
 .subst e
  exact d.apart (Blk.ty g) (by unfold DTy;decide) c
theorem ERep.Fk{w i:World}{g b:Nat}{L j:DL}{M l:DM}{J J':JM}{v:Value}{e:Option Int}(h:ERep w v e)(d:JRep w g b J)(c:DRep w b L M)(m:JStep g b L M w J' j l i):ERep i v e :=
 h.fr m.2.2.1 (fun k f a=>by
  rcases a with a|a
  .subst a
   rcases f with h|h
   .exact absurd ((Blk.ty d).inj h) (by decide)
   .exact absurd ((Blk.ty d).inj h) (by decide)
  .rcases f with h|h
   .exact c.apart h (by unfold DTy;decide) a
   .exact c.apart h (by unfold DTy;decide) a)
def JM.He(J:JM)(M:DM):Option Int × JM × DM:=(Zy M.He.1,{J with Hb:=M.He.1==0},M.He.2)
theorem Ub(j h:Nat)(J:JM)(L:DL)(M:DM)(w:World)(u:JRep w j h J)(A:DRep w h L M) :
 Calls Tryz.prog 133 #[.pointer (some ⟨j,0,none⟩)] w fun e C=>∃ v l,e=.returned v/\ERep C v (J.He M).1/\JStep j h L M w (J.He M).2.1 l (J.He M).2.2 C:=by
 have E:w.cell? ⟨j,0,none⟩=some (.pointer (some ⟨h,0,none⟩)):=u.cell 0;have y:=Z A;have D:=Z u;simp only[JM.He];clear A u;go_enter Tryz.func133,Tryz.ntmps133;go_wp2_with fail;refine(US w h L M y.out).mono ?_;rintro e G ⟨rfl,l,p⟩;have s:=Z p;clear p;go_wp2_with fail;refine(Xl _ _ _ G).mono ?_;rintro e x ⟨B,rfl,d,o⟩;have f:JStep j h L M w J l M.He.2 x:=(JStep.Gl D.out y.out s.out).Ha o;have I:=f.1.frozen 6;have F:x.cell? ⟨j,6,none⟩=some (.bool J.Hb):=f.1.cell 6;have c:=Z f;have z:=Z d;clear f o;by_cases i:M.He.1=0
 .have hv:B=.nilIface:=by unfold Zy at d;rw[Mg i] at d;exact d
  subst hv;have m:(M.He.1==0)=true:=by simp[i]
  have a:=JStep.set c.out.1 c.out.2.1 6 (.bool true) (J':={J with Hb:=true}) rfl;have r:=Z (c.out.trans a);have g:=Z (z.out.Fk c.out.1 c.out.2.1 a);have q:=Z m;clear i d a m
  go_wp2
  go_ret;rw[q.out];exact⟨_,l,rfl,g.out,r.out⟩
 .obtain⟨k,hk⟩:∃ k,Zg x M.He.1 k B:=by unfold Zy at d;rw[Ma i] at d;exact d
  obtain⟨t,b,rfl⟩:=hk.form;have m:(M.He.1==0)=false:=by simp[i]
  have a:=JStep.set c.out.1 c.out.2.1 6 (.bool false) (J':={J with Hb:=false}) rfl;have r:=Z (c.out.trans a);have g:=Z (z.out.Fk c.out.1 c.out.2.1 a);have q:=Z m;clear i d a m hk
  go_wp2
  go_ret;rw[q.out];exact⟨_,l,rfl,g.out,r.out⟩
def JM.Hg(J:JM)(M:DM):Option Int × JM × DM :=
 if (J.IU M).1=none/\J.last≠0/\J.Hb=false then J.He (J.IU M).2 else((J.IU M).1,J,(J.IU M).2)
theorem XB(s q:Nat)(J:JM)(L:DL)(M:DM)(w:World)(N:JRep w s q J)(K:DRep w q L M) :
 Calls Tryz.prog 84 #[.pointer (some ⟨s,0,none⟩)] w fun e V=>∃ v L',e=.returned v/\ERep V v (J.Hg M).1/\JStep s q L M w (J.Hg M).2.1 L' (J.Hg M).2.2 V:=by
 have R:=Z (XN s q J L M w N K);have X:=Z K;have Y:=Z N;clear K N;go_enter Tryz.func84,Tryz.ntmps84;go_wp2_with fail;refine R.out.mono ?_;rintro e C ⟨v1,u,rfl,m,B⟩;have o:JStep s q L M w J u (J.IU M).2 C:=JStep.Gl Y.out X.out B;have I:=o.1.cell;simp only[JM.cells] at I;have f:=Z o;have E:=Z m;clear o B R;cases he:(J.IU M).1 with
 | some n =>
  have j:J.Hg M=(some n,J,(J.IU M).2):=by unfold JM.Hg;rw[Ma (by rw[he];simp),he]
  have p:=Z j;rw[he] at m E;obtain⟨k,S⟩:=m;obtain⟨t,b,rfl⟩:=S.form;clear he j S;go_wp2_with fail;refine(zo _ _ (some n) C E.out).mono ?_;rintro e D ⟨Q,rfl,a,c⟩;have d:=Z a;have l:=Z (f.out.Ha c);clear a c
  go_wp2
  go_ret;rw[p.out];exact⟨_,u,rfl,d.out,l.out⟩
 | none =>
  rw[he] at m E;have hv:v1=.nilIface:=m;subst hv;by_cases r:J.last≠0/\J.Hb=false
  .have j:J.Hg M=J.He (J.IU M).2:=by unfold JM.Hg;rw[Mg ⟨he,r⟩]
   have p:=Z j;have HS:=Z (Ub s q J u (J.IU M).2 C f.out.1 f.out.2.1);have A:0<J.last:=by omega
   have g:=r.2;rw[g] at I;clear he j r m g;go_wp2_with fail;refine HS.out.mono ?_;rintro e D ⟨Q,L2,rfl,a,i⟩;have G:=Z (f.out.trans i);have d:=Z a;clear a i;go_wp2_with fail;refine(zo _ _ _ D d.out).mono ?_;rintro e w3 ⟨v3,rfl,x,y⟩;have F:=Z x;have l:=Z (G.out.Ha y);clear x y
   go_wp2
   go_ret;rw[p.out];exact⟨_,L2,rfl,F.out,l.out⟩
  .have j:J.Hg M=(none,J,(J.IU M).2):=by unfold JM.Hg;rw[Ma (fun h=>r h.2),he]
   have p:=Z j;have z:J.last=0\/J.Hb=true:=by
    rcases Kf J.last with h|h
    .exact .inl h
    .right
     cases hds:J.Hb with
     | true=>rfl
     | false=>exact absurd ⟨by omega,hds⟩ r
   clear he j r m;by_cases T:J.last=0
   .have A:¬0<J.last:=by omega
    go_wp2_with fail;refine(zo _ _ none C rfl).mono ?_;rintro e D ⟨Q,rfl,a,c⟩;have d:=Z a;have l:=Z (f.out.Ha c);clear a c
    go_wp2
    go_ret;rw[p.out];exact⟨_,u,rfl,d.out,l.out⟩
   .have A:0<J.last:=by omega
    have g:J.Hb=true:=z.resolve_left T;rw[g] at I;clear z T g;go_wp2_with fail;refine(zo _ _ none C rfl).mono ?_;rintro e D ⟨Q,rfl,a,c⟩;have d:=Z a;have l:=Z (f.out.Ha c);clear a c
    go_wp2
    go_ret;rw[p.out];exact⟨_,u,rfl,d.out,l.out⟩
end Go.Proofs.YtkhnggkkiefcdaaGreatDoor
namespace Go.Proofs
open Go.Shelf
def Tryz.GH:Go.Shelf.Ren:=⟨fun|171=>81|243=>130|246=>165|283=>205|284=>206|285=>207|286=>208|129=>229|317=>228|318=>230|319=>231|320=>232|337=>242|338=>243|n=>n,fun|3=>3|9=>9|2=>2|4=>4|171=>293|0=>0|53=>274|37=>150|5=>5|173=>296|212=>322|51=>323|20=>20|213=>324|46=>299|232=>340|233=>341|n=>n,fun|17=>1|18=>2|19=>3|n=>n⟩
theorem Tryz.Fi:Go.Proofs.LaysM.n171 Tryz.prog Tryz.GH:={
 mixed:=by kernel_rfl
 f129:=Tryz.func229.trans (congrArg some (by kernel_rfl))
 f171:=Tryz.func81.trans (congrArg some (by kernel_rfl))
 f243:=Tryz.func130.trans (congrArg some (by kernel_rfl))
 f246:=Tryz.func165.trans (congrArg some (by kernel_rfl))
 f283:=Tryz.func205.trans (congrArg some (by kernel_rfl))
 f284:=Tryz.func206.trans (congrArg some (by kernel_rfl))
 f285:=Tryz.func207.trans (congrArg some (by kernel_rfl))
 f286:=Tryz.func208.trans (congrArg some (by kernel_rfl))
 f317:=Tryz.func228.trans (congrArg some (by kernel_rfl))
 f318:=Tryz.func230.trans (congrArg some (by kernel_rfl))
 f319:=Tryz.func231.trans (congrArg some (by kernel_rfl))
 f320:=Tryz.func232.trans (congrArg some (by kernel_rfl))
 f337:=Tryz.func242.trans (congrArg some (by kernel_rfl))
 f338:=Tryz.func243.trans (congrArg some (by kernel_rfl))
 t0:=Tryz.underlying0
 a0:=Tryz.isAgg0
 z0:=Tryz.sizeOf0
 v0:=Tryz.zeroValue0
 t2:=Tryz.underlying2
 a2:=Tryz.isAgg2
 z2:=Tryz.sizeOf2
 v2:=Tryz.zeroValue2
 t3:=Tryz.underlying3
 a3:=Tryz.isAgg3
 z3:=Tryz.sizeOf3
 v3:=Tryz.zeroValue3
 t4:=Tryz.underlying4
 a4:=Tryz.isAgg4
 z4:=Tryz.sizeOf4
 v4:=Tryz.zeroValue4
 t5:=Tryz.underlying5
 a5:=Tryz.isAgg5
 z5:=Tryz.sizeOf5
 v5:=Tryz.zeroValue5
 t9:=Tryz.underlying9
 a9:=Tryz.isAgg9
 z9:=Tryz.sizeOf9
 v9:=Tryz.zeroValue9
 t20:=Tryz.underlying20
 a20:=Tryz.isAgg20
 z20:=Tryz.sizeOf20
 v20:=Tryz.zeroValue20
 t37:=Tryz.underlying150
 a37:=Tryz.isAgg150
 z37:=Tryz.sizeOf150
 v37:=Tryz.zeroValue150
 t46:=Tryz.underlying299
 a46:=Tryz.isAgg299
 z46:=Tryz.sizeOf299
 v46:=Tryz.zeroValue299
 t51:=Tryz.underlying323
 a51:=Tryz.isAgg323
 z51:=Tryz.sizeOf323
 v51:=Tryz.zeroValue323
 t53:=Tryz.underlying274
 a53:=Tryz.isAgg274
 z53:=Tryz.sizeOf274
 v53:=Tryz.zeroValue274
 t171:=Tryz.underlying293
 a171:=Tryz.isAgg293
 z171:=Tryz.sizeOf293
 v171:=Tryz.zeroValue293
 t173:=Tryz.underlying296
 a173:=Tryz.isAgg296
 z173:=Tryz.sizeOf296
 v173:=Tryz.zeroValue296
 t212:=Tryz.underlying322
 a212:=Tryz.isAgg322
 z212:=Tryz.sizeOf322
 v212:=Tryz.zeroValue322
 t213:=Tryz.underlying324
 a213:=Tryz.isAgg324
 z213:=Tryz.sizeOf324
 t232:=Tryz.underlying340
 a232:=Tryz.isAgg340
 z232:=Tryz.sizeOf340
 v232:=Tryz.zeroValue340
 t233:=Tryz.underlying341
 a233:=Tryz.isAgg341
 z233:=Tryz.sizeOf341
 v233:=Tryz.zeroValue341
 g17:=by kernel_rfl
 g18:=by kernel_rfl
 g19:=by kernel_rfl
 i0:=by kernel_rfl
 i2:=by kernel_rfl
 i3:=by kernel_rfl
 i4:=by kernel_rfl
 i5:=by kernel_rfl
 i9:=by kernel_rfl
 i20:=by kernel_rfl
 i37:=by kernel_rfl
 i46:=by kernel_rfl
 i51:=by kernel_rfl
 i53:=by kernel_rfl
 i171:=by kernel_rfl
 i173:=by kernel_rfl
 i212:=by kernel_rfl
 i232:=by kernel_rfl
 i233:=by kernel_rfl
 m17:=by kernel_rfl
 m18:=by kernel_rfl
 m19:=by kernel_rfl}
def Tryz.GD:Go.Shelf.Ren:=⟨fun|25=>125|n=>n,fun|9=>9|3=>3|4=>4|37=>150|0=>0|47=>240|5=>5|n=>n,fun|n=>n⟩
theorem Tryz.GN:Go.Proofs.LaysPu.n25 Tryz.prog Tryz.GD:={
 mixed:=by kernel_rfl
 f25:=Tryz.func125.trans (congrArg some (by kernel_rfl))
 t0:=Tryz.underlying0
 a0:=Tryz.isAgg0
 z0:=Tryz.sizeOf0
 v0:=Tryz.zeroValue0
 i0:=by kernel_rfl
 t3:=Tryz.underlying3
 a3:=Tryz.isAgg3
 z3:=Tryz.sizeOf3
 v3:=Tryz.zeroValue3
 i3:=by kernel_rfl
 t4:=Tryz.underlying4
 a4:=Tryz.isAgg4
 z4:=Tryz.sizeOf4
 v4:=Tryz.zeroValue4
 i4:=by kernel_rfl
 t5:=Tryz.underlying5
 a5:=Tryz.isAgg5
 z5:=Tryz.sizeOf5
 v5:=Tryz.zeroValue5
 i5:=by kernel_rfl
 t9:=Tryz.underlying9
 a9:=Tryz.isAgg9
 z9:=Tryz.sizeOf9
 v9:=Tryz.zeroValue9
 i9:=by kernel_rfl
 t37:=Tryz.underlying150
 a37:=Tryz.isAgg150
 z37:=Tryz.sizeOf150
 v37:=Tryz.zeroValue150
 i37:=by kernel_rfl
 t47:=Tryz.underlying240
 a47:=Tryz.isAgg240
 z47:=Tryz.sizeOf240
 v47:=Tryz.zeroValue240
 i47:=by kernel_rfl}
end Go.Proofs
namespace Go.Proofs.YtkhnggkkiefcdaaGreatDoor
open Go.RowKit
set_option maxRecDepth 100000
set_option maxHeartbeats 8000000
def Yy:String:=(Rows.writesRow.laid.map (fun x=>x.1)).getD 2 ""
def Tab(w:World):Prop:=Lib.TabIs Tryz.prog w Yy .u64 Lib.pow10Tab
def Zc(n:Nat):ByteArray:=⟨(Lib.itoa n).toArray⟩
theorem OX(w:World)(b:Array Obj):Fr Nil w (Sort.grow w b):=⟨rfl,rfl,rfl,by simp[Sort.grow],fun k a _=>by simp[Sort.grow,Array.getElem?_append,a]⟩
theorem VN(n:Nat)(h:n<9223372036854775808)(w:World)(b:Tab w) :
 Calls Tryz.prog 81 #[.int .i64 n] w fun e a=>e=.returned (.string (Zc n))/\Fr Nil w a:=by
 have:=Any.strconv_Itoa Tryz.Fi n (by omega) (by omega) w b;refine IF (show Calls Tryz.prog 81 #[.int .i64 n] w _ from this) ?_;rintro e a ⟨rfl,k,c,rfl⟩;exact⟨rfl,((O _ _).drewN k).trans (OX _ c)⟩
def Hnd(w:World):Prop:=w.cell? ⟨0,0,none⟩=some (.iface 309 (.agg #[.pointer (some ⟨6,132,none⟩)]))
def Yt(B:Nat)(w:World):Prop:=Tab w/\(∀ g,Tryz.prog.globalNamed Yy=some g->g<B)/\Hnd w/\0<B
theorem Yt.fr{B:Nat}{S:Nat->Prop}{w w':World}(h:Yt B w)(j:B<=w.heap.size)(f:Fr S w w')(e:∀ k,S k->B<=k):Yt B w':=by
 refine⟨?_,h.2.1,(f.cell (by have:=h.2.2.2;show _<_;simp only;omega) (fun c=>by have:=e _ c;have:=h.2.2.2;simp only at *;omega)).trans h.2.2.1,h.2.2.2⟩;have a:=h.1;unfold Tab Lib.TabIs World.var? at a |-;cases hg:Tryz.prog.globalNamed Yy with
 | none=>rw[hg] at a;simp at a
 | some g =>
  rw[hg] at a;have i:=h.2.1 g hg;simp only[Jo] at a |-;rw[f.block g (by omega) (fun c=>by have:=e g c;omega)];exact a
def ze(a:ByteArray)(n:Nat):ByteArray:=a++Zc n
theorem WE(a:ByteArray)(b:a.size<=1000)(n:Nat)(h:n<9223372036854775808)(w:World)(d:Tab w) :
 Calls Tryz.prog 173 #[.string a,.int .i64 n] w fun e k=>e=.returned (.string (ze a n))/\Fr Nil w k:=by
 have c:=Z (VN n h w d);unfold ze;have g:(Zc n).size<=21:=by unfold Zc;simpa [ByteArray.size] using Lib.itoa_length_le (n:Int) (by omega) (by omega)
 generalize Zc n=s at c g |-;have i:(a.size:Int)+s.size<=9223372036854775807:=by omega
 have j:¬(9223372036854775807:Int)<(a.size:Int)+s.size:=by omega
 clear d;go_enter Tryz.func173,Tryz.ntmps173
 go_wp2_with (refine c.out.mono ?_;rintro e l ⟨rfl,f⟩)
 go_ret;exact⟨rfl,f⟩
def zi:ByteArray:=⟨#[108,111,103]⟩
def JM.begin(J:JM)(M:DM)(a f:Nat):Option Int × JM × DM :=
 match (J.IU M).1 with
 | some n=>(some n,J,(J.IU M).2)
 | none =>
  if ((J.IU M).2.create (ze zi a) f).1=0 then
   (none,{J with last:=a,name:=ze zi a,size:=0,Gk:=false,Hb:=false},((J.IU M).2.create (ze zi a) f).2)
  else(some ((J.IU M).2.create (ze zi a) f).1,J,((J.IU M).2.create (ze zi a) f).2)
theorem XC(B r j:Nat)(J:JM)(L:DL)(M:DM)(a:Nat)(E:a<9223372036854775808)(w:World)(Y:JRep w r j J)(X:DRep w j L M)(ht:Yt B w)(hB:B<=w.heap.size)(o:∀ k,Foot j L M k->B<=k)
 (R:(J.IU M).2.IW.length+1<=1000000000000)(T:(J.IU M).2.dir.length+1<=1000000000000) :
 Calls Tryz.prog 210 #[.pointer (some ⟨r,0,none⟩),.int .i64 a] w fun e w' =>
  ∃ f v L',e=.returned v/\w.heap.size<=f/\ERep w' v (J.begin M a f).1/\JStep r j L M w (J.begin M a f).2.1 L' (J.begin M a f).2.2 w':=by
 have HC:=Z (XN r j J L M w Y X);have HD:=Z X;have HJ:=Z Y;have HT:=Z ht;clear X Y ht;go_enter Tryz.func210,Tryz.ntmps210;go_wp2_with fail;refine HC.out.mono ?_;rintro e w1 ⟨v1,N,rfl,q,i⟩;have D:JStep r j L M w J N (J.IU M).2 w1:=JStep.Gl HJ.out HD.out i;have z:Tab w1:=(HT.out.fr hB i.fr o).1;have u:=Z D;have G:=Z q;have a1:=i.fr.size;clear D i HC;cases he:(J.IU M).1 with
 | some n =>
  have F:∀ f,J.begin M a f=(some n,J,(J.IU M).2):=by intro f;unfold JM.begin;rw[he]
  have x:=Z F;rw[he] at q G;obtain⟨k,hk⟩:=q;obtain⟨t,b,rfl⟩:=hk.form;clear he F hk
  go_wp2
  go_ret;refine⟨w.heap.size,_,N,rfl,NS _,?_,?_⟩
  .rw[x.out];exact G.out
  .rw[x.out];exact u.out
 | none =>
  rw[he] at q G;have hv:v1=.nilIface:=q;subst hv;have F:∀ f,J.begin M a f=if ((J.IU M).2.create (ze zi a) f).1=0 then
   (none,{J with last:=a,name:=ze zi a,size:=0,Gk:=false,Hb:=false},((J.IU M).2.create (ze zi a) f).2)
   else(some ((J.IU M).2.create (ze zi a) f).1,J,((J.IU M).2.create (ze zi a) f).2):=by intro f;unfold JM.begin;rw[he]
  have x:=Z F;clear he F q;go_wp2_with fail;refine(WE zi (by decide) a E w1 z).mono ?_;rintro e w2 ⟨rfl,m⟩;have g:=u.out.Ha m;have V:w2.cell? ⟨r,0,none⟩=some (.pointer (some ⟨j,0,none⟩)):=g.1.cell 0;have h:=Z g;have a0:=m.size;clear g m z;go_wp2_with fail;refine(TT (ze zi a) w2 j N (J.IU M).2 h.out.2.1 R T).mono ?_;rintro e w3 ⟨f,L3,rfl,hf,l⟩;have c:=h.out.trans (JStep.Gl h.out.1 h.out.2.1 l);have hc:=c.1.cell;have hz:=c.1.frozen;simp only[JM.cells] at hc;have s:=Z c;clear c l V;by_cases p:((J.IU M).2.create (ze zi a) f).1=0
  .have hp2:=x.out f
   rw[Mg p] at hp2;have hq:(((J.IU M).2.create (ze zi a) f).1 != 0)=false:=by simp[p]
   have d:=Z hp2;clear hp2 p
   go_wp2
   go_ret;refine⟨f,_,L3,rfl,by omega,?_,?_⟩
   .rw[d.out];rfl
   .rw[d.out]
    have Q:=s.out;have s1:=JStep.set Q.1 Q.2.1 2 (.int .i64 a) (J':={J with last:=a}) rfl;have s2:=JStep.set s1.1 s1.2.1 3 (.string (ze zi a)) (J':={J with last:=a,name:=ze zi a}) rfl;have s3:=JStep.set s2.1 s2.2.1 4 (.int .i64 0) (J':={J with last:=a,name:=ze zi a,size:=0}) rfl;have s4:=JStep.set s3.1 s3.2.1 5 (.bool false) (J':={J with last:=a,name:=ze zi a,size:=0,Gk:=false}) rfl;have s5:=JStep.set s4.1 s4.2.1 6 (.bool false) (J':={J with last:=a,name:=ze zi a,size:=0,Gk:=false,Hb:=false}) rfl;exact((((Q.trans s1).trans s2).trans s3).trans s4).trans s5
  .have hp2:=x.out f
   rw[Ma p] at hp2;have hq:(((J.IU M).2.create (ze zi a) f).1 != 0)=true:=by simp[p]
   have A:Zy ((J.IU M).2.create (ze zi a) f).1=some ((J.IU M).2.create (ze zi a) f).1:=by unfold Zy;rw[Ma p]
   have d:=Z hp2;have K:=Z A;clear hp2 p A;go_wp2_with fail;refine(Xl _ _ _ w3).mono ?_;rintro e w4 ⟨v4,rfl,y,C⟩;have I:=Z y;have HF:=Z (s.out.Ha C);clear y C
   go_wp2
   go_ret;refine⟨f,_,L3,rfl,by omega,?_,?_⟩
   .rw[d.out];have:=I.out;rw[K.out] at this;exact this
   .rw[d.out];exact HF.out
def JM.fits(J:JM)(a:Nat):Bool:=decide (J.last≠0)&&(!J.Gk&&decide (J.size+a<=J.Hq))
def JM.IX(J:JM)(M:DM)(a f:Nat):Option Int × JM × DM:=if J.fits a=true then(none,J,M) else J.begin M (J.last+1) f
theorem Uc(B o l:Nat)(J:JM)(L:DL)(M:DM)(a:Nat)(a0:a<1000000000000)(a1:J.size<1000000000000)(Y:J.last+1<1000000000000)(w:World)(R:JRep w o l J)(X:DRep w l L M)(ht:Yt B w)(z:B<=w.heap.size)(g:∀ k,Foot l L M k->B<=k)
 (x:(J.IU M).2.IW.length+1<=1000000000000)(y:(J.IU M).2.dir.length+1<=1000000000000) :
 Calls Tryz.prog 202 #[.pointer (some ⟨o,0,none⟩),.int .i64 a] w fun e w' =>
  ∃ f v L',e=.returned v/\w.heap.size<=f/\ERep w' v (J.IX M a f).1/\JStep o l L M w (J.IX M a f).2.1 L' (J.IX M a f).2.2 w':=by
 have I:=R.cell;simp only[JM.cells] at I;have t:=Z X;have u:=Z R;have K:=Z ht;clear X R ht;have a2:IntKind.i64.wrap ((J.size:Int)+a)=(J.size:Int)+a:=by rw[MC];omega
 have a3:IntKind.i64.wrap ((J.last:Int)+1)=(J.last:Int)+1:=by rw[MC];omega
 cases hfit:J.fits a with
 | true =>
  have G:∀ f,J.IX M a f=(none,J,M):=by intro f;unfold JM.IX;rw[Mg hfit]
  have m:=Z G;simp only[JM.fits,Ln,Ms,Jg] at hfit;obtain⟨E,q,h3⟩:=hfit;have T:decide ((0:Int)<J.last)=true:=by simp;omega
  have N:(0:Int)<J.last:=by omega
  have V:decide ((J.size:Int)+a<=J.Hq)=true:=by simp;omega
  have D:decide (0<J.last)=true:=by simp;omega
  have Q:decide (J.size+a<=J.Hq)=true:=by simp;omega
  rw[q] at I;clear G E q h3;go_enter Ik,JS;go_wp2_with fail
  go_quiet (fail)
  go_wp2
  go_ret;refine⟨w.heap.size,_,L,rfl,NS _,?_,?_⟩
  .rw[m.out];rfl
  .rw[m.out];exact JStep.nil u.out t.out (by exact z8)
 | false =>
  have G:∀ f,J.IX M a f=J.begin M (J.last+1) f:=by intro f;unfold JM.IX;rw[Ma (by rw[hfit];simp)]
  have m:=Z G;clear G;by_cases E:0<J.last
  .have T:decide ((0:Int)<J.last)=true:=by simp;omega
   have N:(0:Int)<J.last:=by omega
   have D:decide (0<J.last)=true:=by simp;omega
   cases q:J.Gk with
   | true =>
    rw[q] at I;clear hfit E q;go_enter Ik,JS;go_wp2_with fail
    go_quiet (fail)
    go_wp2_with fail;refine(XC B o l J L M (J.last+1) (by omega) _ (Blk.drewN u.out _) (t.out.nil (by exact z8)) (K.out.fr z (S:=Nil) (by exact z8) (fun _ h=>absurd h id)) z g x y).mono ?_;rintro e s ⟨f,v2,p,rfl,F,r,d⟩;have A:=Z r;have C:Hid (JStep o l L M w (J.begin M (J.last+1) f).2.1 p (J.begin M (J.last+1) f).2.2 s):=(JStep.nil u.out t.out (by exact z8)).trans d;clear r d;go_wp2_with fail;refine(zo _ _ _ s A.out).mono ?_;rintro e w3 ⟨v3,rfl,b,c⟩;have i:=Z b;have j:=Z (C.out.Ha c);clear b c
    go_wp2
    go_ret;refine⟨f,_,p,rfl,F,?_,?_⟩
    .rw[m.out];exact i.out
    .rw[m.out];exact j.out
   | false =>
    have V:decide ((J.size:Int)+a<=J.Hq)=false:=by
     simp only[JM.fits,q,Bool.not_false,ID,Bool.and_eq_false_iff,LV] at hfit;simp;omega
    have Q:decide (J.size+a<=J.Hq)=false:=by simp at V |-;omega
    rw[q] at I;clear hfit E q;go_enter Ik,JS;go_wp2_with fail
    go_quiet (fail)
    go_wp2_with fail;refine(XC B o l J L M (J.last+1) (by omega) _ (Blk.drewN u.out _) (t.out.nil (by exact z8)) (K.out.fr z (S:=Nil) (by exact z8) (fun _ h=>absurd h id)) z g x y).mono ?_;rintro e s ⟨f,v2,p,rfl,F,r,d⟩;have A:=Z r;have C:Hid (JStep o l L M w (J.begin M (J.last+1) f).2.1 p (J.begin M (J.last+1) f).2.2 s):=(JStep.nil u.out t.out (by exact z8)).trans d;clear r d;go_wp2_with fail;refine(zo _ _ _ s A.out).mono ?_;rintro e w3 ⟨v3,rfl,b,c⟩;have i:=Z b;have j:=Z (C.out.Ha c);clear b c
    go_wp2
    go_ret;refine⟨f,_,p,rfl,F,?_,?_⟩
    .rw[m.out];exact i.out
    .rw[m.out];exact j.out
  .have T:decide ((0:Int)<J.last)=false:=by simp;omega
   have D:decide (0<J.last)=false:=by simp;omega
   clear hfit E;go_enter Ik,JS;go_wp2_with fail
   go_quiet (fail)
   go_wp2_with fail;refine(XC B o l J L M (J.last+1) (by omega) _ (Blk.drewN u.out _) (t.out.nil (by exact z8)) (K.out.fr z (S:=Nil) (by exact z8) (fun _ h=>absurd h id)) z g x y).mono ?_;rintro e s ⟨f,v2,p,rfl,F,r,d⟩;have A:=Z r;have C:Hid (JStep o l L M w (J.begin M (J.last+1) f).2.1 p (J.begin M (J.last+1) f).2.2 s):=(JStep.nil u.out t.out (by exact z8)).trans d;clear r d;go_wp2_with fail;refine(zo _ _ _ s A.out).mono ?_;rintro e w3 ⟨v3,rfl,b,c⟩;have i:=Z b;have j:=Z (C.out.Ha c);clear b c
   go_wp2
   go_ret;refine⟨f,_,p,rfl,F,?_,?_⟩
   .rw[m.out];exact i.out
   .rw[m.out];exact j.out
def JM.has(J:JM)(M:DM)(size:Nat):Bool:=((M.size J.name).2==0)&&((M.size J.name).1==(size:Int))
theorem Pn(f g:Nat)(J:JM)(L:DL)(M:DM)(size:Nat)(w:World)(l:JRep w f g J)(p:DRep w g L M) :
 Calls Tryz.prog 204 #[.pointer (some ⟨f,0,none⟩),.int .i64 size] w fun e d=>e=.returned (.bool (J.has M size))/\Fr Nil w d:=by
 have t:w.cell? ⟨f,0,none⟩=some (.pointer (some ⟨g,0,none⟩)):=l.cell 0;have u:w.cell? ⟨f,3,none⟩=some (.string J.name):=l.cell 3;have s:Hid (∀ d,Fr Nil w d->d.cell? ⟨f,0,none⟩=some (.pointer (some ⟨g,0,none⟩))/\d.cell? ⟨f,3,none⟩=some (.string J.name)):=by
  intro d v;have:=(Blk.fr l v id).cell;exact⟨by rw[this];rfl,by rw[this];rfl⟩
 have r:=Z p;unfold JM.has;clear l p;go_enter Tryz.func204,Tryz.ntmps204;go_wp2_with fail
 go_region_held3 (fun d=>d.cell? ⟨f,0,none⟩=some (.pointer (some ⟨g,0,none⟩))/\d.cell? ⟨f,3,none⟩=some (.string J.name)) (first|assumption|go_keep)
  (first
  | (go_at_call 188;refine(Vz J.name _ g L M (r.out.nil z8)).mono ?_;rintro e q ⟨rfl,o⟩;have c:Fr Nil w q:=Fr.trans z8 o;have x:=s.out q c))
 generalize j:(M.size J.name).2=a;generalize k:(M.size J.name).1=b;have h:=Z j;have i:=Z k;clear j k;cases ha:(a==0) with
 | true =>
  have m:=Z ha
  go_wp2
  go_ret;rw[h.out,i.out,m.out];exact⟨by simp,c⟩
 | false =>
  have m:=Z ha
  go_wp2
  go_ret;rw[h.out,i.out,m.out];exact⟨by simp,c⟩
def JM.Ga(J:JM)(M:DM)(a:ByteArray):Bool × Option Int × JM × DM :=
 if (M.add J.name a).1=0 then(true,none,{J with size:=J.size+a.size},(M.add J.name a).2)
 else if J.has (M.add J.name a).2 (J.size+a.size)=true then(true,some (M.add J.name a).1,{J with size:=J.size+a.size},(M.add J.name a).2)
 else(false,some (M.add J.name a).1,J,(M.add J.name a).2)
def JM.append(J:JM)(M:DM)(a:ByteArray)(f:Nat):Bool × Option Int × JM × DM :=
 match (J.IX M a.size f).1 with
 | some n=>(false,some n,(J.IX M a.size f).2.1,(J.IX M a.size f).2.2)
 | none=>(J.IX M a.size f).2.1.Ga (J.IX M a.size f).2.2 a
theorem Y9(B u x:Nat)(J:JM)(L:DL)(M:DM)(a:ByteArray)(b5:a.size<1000000000000)(b7:J.size<1000000000000)(a9:J.last+1<1000000000000)(w:World)(hj:JRep w u x J)(hd:DRep w x L M)(ht:Yt B w)(hB:B<=w.heap.size)(a1:∀ k,Foot x L M k->B<=k)
 (b3:(J.IU M).2.IW.length+1<=1000000000000)(b4:(J.IU M).2.dir.length+1<=1000000000000)
 (q:∀ f,w.heap.size<=f->0<=(J.IX M a.size f).2.2.part/\(J.IX M a.size f).2.1.size<1000000000000/\∀ g,g∈(J.IX M a.size f).2.2.ids->((J.IX M a.size f).2.2.file g).bytes.length<=1000000000000) :
 Calls Tryz.prog 164 #[.pointer (some ⟨u,0,none⟩),.string a] w fun e w' =>
  ∃ f v L',e=.returned (.tuple #[.bool (J.append M a f).1,v])/\w.heap.size<=f/\ERep w' v (J.append M a f).2.1/\JStep u x L M w (J.append M a f).2.2.1 L' (J.append M a f).2.2.2 w':=by
 have HM:=Z (Uc B u x J L M a.size b5 b7 a9 w hj hd ht hB a1 b3 b4);have b0:=Z q;clear hd hj ht q;go_enter Tryz.func164,Tryz.ntmps164;go_wp2_with fail;refine HM.out.mono ?_;rintro e w1 ⟨f,v1,L1,rfl,N,hE,p⟩;have q:=b0.out f N;have G:∀ n,(J.IX M a.size f).1=some n->J.append M a f=(false,some n,(J.IX M a.size f).2.1,(J.IX M a.size f).2.2):=by intro n h;unfold JM.append;rw[h]
 have F:(J.IX M a.size f).1=none->J.append M a f=(J.IX M a.size f).2.1.Ga (J.IX M a.size f).2.2 a:=by intro h;unfold JM.append;rw[h]
 generalize a7:(J.IX M a.size f).2.1=c at q p G F;generalize a8:(J.IX M a.size f).2.2=j at q p G F;have C:=Z p;have T:=Z q;cases he:(J.IX M a.size f).1 with
 | some n =>
  rw[he] at hE;have hp:=G n he;have z:=Z hp;have HE:=Z hE;obtain⟨k,hk⟩:=hE;obtain⟨t,b,rfl⟩:=hk.form;clear he hp hk p a7 a8 q G F
  go_wp2
  go_ret2;refine⟨f,.iface t (.pointer (some ⟨b,0,none⟩)),L1,?_,N,?_,?_⟩
  ·(rw[z.out]) <;> rfl
  .rw[z.out];exact HE.out
  .rw[z.out];exact C.out
 | none =>
  rw[he] at hE;have hp:=F he;have hv:v1=.nilIface:=hE;subst hv;have c0:w1.cell? ⟨u,0,none⟩=some (.pointer (some ⟨x,0,none⟩)):=p.1.cell 0;have c1:w1.cell? ⟨u,3,none⟩=some (.string c.name):=p.1.cell 3;have z:=Z hp;have HK:Hid (∀ wx w' L',DStep x L1 j wx L' (j.add c.name a).2 w'->Fr Nil w1 wx->w'.cell? ⟨u,0,none⟩=some (.pointer (some ⟨x,0,none⟩))/\w'.cell? ⟨u,3,none⟩=some (.string c.name)):=by
   intro wx w' L' I N;have:=((Blk.fr p.1 N id).step (p.2.1.nil N) I (by unfold DTy;decide)).cell;exact⟨by rw[this];rfl,by rw[this];rfl⟩
  clear he hp hE p a7 a8 q G F;go_wp2_with fail
  go_region_held3 (fun w'=>w'.cell? ⟨u,0,none⟩=some (.pointer (some ⟨x,0,none⟩))/\w'.cell? ⟨u,3,none⟩=some (.string c.name)) (first|assumption|go_keep)
   (first
   | (go_at_call 166;refine(Xl _ _ _ _).mono ?_;rintro e w3 ⟨v3,rfl,d,a0⟩;have b8:w3.cell? ⟨u,0,none⟩=some (.pointer (some ⟨x,0,none⟩))/\w3.cell? ⟨u,3,none⟩=some (.string c.name):=HK.out _ _ _ (a5.out.Ha (Fr.trans z8 a0)) (O _ _);have a2:=Z d;have b2:Hid (Fr Nil w2 w3):=Fr.trans z8 a0;clear d a0)
   | (go_at_call 203;refine(TU c.name a _ x L1 j (C.out.2.1.nil z8) T.out.1 (by omega) T.out.2.2).mono ?_;rintro e w2 ⟨rfl,K,I⟩;have c3:=HK.out _ _ _ I z8;have a5:Hid (DStep x L1 j w1 K (j.add c.name a).2 w2):=I.of z8;clear I))
  have m:=C.out.trans ((JStep.Gl C.out.1 C.out.2.1 a5.out).Ha b2.out);have b9:=T.out.2.1;have A:=Z m;have hc:=m.1.cell;have hz:=m.1.frozen;simp only[JM.cells] at hc;have c2:IntKind.i64.wrap ((c.size:Int)+a.size)=(c.size:Int)+a.size:=by rw[MC];omega
  have R:JStep u x K (j.add c.name a).2 w3 {c with size:=c.size+a.size} K (j.add c.name a).2 (w3.setCell ⟨u,4,none⟩ (.int .i64 ((c.size:Int)+a.size))) :=
   JStep.set m.1 m.2.1 4 (.int .i64 ((c.size:Int)+a.size)) (J':={c with size:=c.size+a.size}) (by simp[JM.cells])
  have a4:=Z R;clear b8 m R;by_cases Q:(j.add c.name a).1=0
  .have d:=a2.out
   unfold Zy at d;rw[Mg Q] at d;have hv:v3=.nilIface:=d;subst hv;have s:c.Ga j a=(true,none,{c with size:=c.size+a.size},(j.add c.name a).2):=by unfold JM.Ga;rw[Mg Q]
   have i:=Z s;clear s Q d;go_wp2_with fail;refine(zo _ _ none _ rfl).mono ?_;rintro e w4 ⟨v4,rfl,a6,l⟩;have b1:=Z a6;have HF:=Z ((A.out.trans a4.out).Ha l);clear a6 l
   go_wp2
   go_ret2;refine⟨f,v4,K,?_,N,?_,?_⟩
   ·(rw[z.out,i.out]) <;> rfl
   .rw[z.out,i.out];exact b1.out
   .rw[z.out,i.out];exact HF.out
  .have d:=a2.out
   unfold Zy at d;rw[Ma Q] at d;have a3:=Z d;obtain⟨k,hk⟩:∃ k,Zg w3 (j.add c.name a).1 k v3:=d;obtain⟨t,b,rfl⟩:=hk.form;have HH:=Z (Pn u x c K (j.add c.name a).2 (c.size+a.size) w3 A.out.1 A.out.2.1);have o:((c.size+a.size:Nat):Int)=(c.size:Int)+a.size:=by omega
   cases hh:c.has (j.add c.name a).2 (c.size+a.size) with
   | true =>
    have s:c.Ga j a=(true,some (j.add c.name a).1,{c with size:=c.size+a.size},(j.add c.name a).2):=by unfold JM.Ga;rw[Ma Q,Mg hh]
    have i:=Z s;rw[hh] at HH;rw[o] at HH;clear s Q hk hh o;go_wp2_with fail;refine HH.out.mono ?_;rintro e w4 ⟨rfl,l⟩;have r:=A.out.Ha l;have b6:=r.1.cell;have c4:=r.1.frozen;simp only[JM.cells] at b6;have y:JStep u x K (j.add c.name a).2 w4 {c with size:=c.size+a.size} K (j.add c.name a).2 (w4.setCell ⟨u,4,none⟩ (.int .i64 ((c.size:Int)+a.size))) :=
     JStep.set r.1 r.2.1 4 (.int .i64 ((c.size:Int)+a.size)) (J':={c with size:=c.size+a.size}) (by simp[JM.cells])
    have V:=Z (ERep.Fk (a3.out.fr l (YA.nil _)) r.1 r.2.1 y);have Y:=Z (r.trans y);clear r y l hc hz;go_wp2_with fail;refine(zo _ _ _ _ V.out).mono ?_;rintro e w5 ⟨v5,rfl,D,E⟩;have X:=Z D;have HF:=Z (Y.out.Ha E);clear D E
    go_wp2
    go_ret2;refine⟨f,v5,K,?_,N,?_,?_⟩
    ·(rw[z.out,i.out]) <;> rfl
    .rw[z.out,i.out];exact X.out
    .rw[z.out,i.out];exact HF.out
   | false =>
    have s:c.Ga j a=(false,some (j.add c.name a).1,c,(j.add c.name a).2):=by unfold JM.Ga;rw[Ma Q,Ma (by rw[hh];simp)]
    have i:=Z s;rw[hh] at HH;rw[o] at HH;clear s Q hk hh o;go_wp2_with fail;refine HH.out.mono ?_;rintro e w4 ⟨rfl,l⟩;have V:=Z (a3.out.fr l (YA.nil _));have Y:=Z (A.out.Ha l);clear l;go_wp2_with fail;refine(zo _ _ _ _ V.out).mono ?_;rintro e w5 ⟨v5,rfl,D,E⟩;have X:=Z D;have HF:=Z (Y.out.Ha E);clear D E
    go_wp2
    go_ret2;refine⟨f,v5,K,?_,N,?_,?_⟩
    ·(rw[z.out,i.out]) <;> rfl
    .rw[z.out,i.out];exact X.out
    .rw[z.out,i.out];exact HF.out
theorem Ol:((Tryz.prog.info? 75).map fun i=>(i.zero.map (·.cells.size),i.size,i.bytes))=some (some 2,2,24):=by kernel_rfl
theorem Sk(a b:List (Nat × ByteArray)):Z8 (a++b)=Z8 a++Z8 b:=by simp[Z8]
theorem Rz(l:List (Nat × ByteArray)):Zv 2 0 (Z8 l)=Z8 (l.drop 1):=by
 cases l with
 | nil=>rfl
 | cons e l=>simp[Zv,Z8]
theorem SRep.hints{w w' w2:World}{b:Nat}{L:SL}{S:SM}{d:Value}{t:List (Nat × ByteArray)}(h:SRep w b L S)(f:Fr (fun k=>L.hv.ownBlock=some k) w w')(C:w'.ownsRow 0 75 2 d t.length (Z8 t))
 (B:∀ k,d.ownBlock=some k->L.hv.ownBlock=some k\/w.heap.size<=k)(z:Fr Nil (w'.setCell ⟨b,1,none⟩ d) w2):SStep w b L {S with hints:=t} Nil w2:=by
 have q:∀ {k},L.hv.ownBlock=some k->k≠b:=fun c e=>zf h.hint h.IR (by decide) (by rw[c,e]);have i:Blk w' b [L.kv,L.hv,.int .i64 S.IQ] 161:=h.IR.fr f (fun e=>q e rfl);have A:=h.IR.lt;have x:∀ k,d.ownBlock=some k->k≠b:=by
  intro k c e;rcases B k c with o|o
  .exact q o e
  .omega
 have s:Fr (fun k=>k=b) w' (w'.setCell ⟨b,1,none⟩ d):=Fr.set (S:=fun k=>k=b) (O _ _) (fun _=>rfl) _;have g:YS w' L.kv L.Gi:=h.GT.fr f (fun k c e=>zN h.GT.own h.hint (by decide) c e);have j:Pair (VRow w') L.Gi S.keys:=h.pair.mono (fun a _ l r=>VRow.fr r f (fun k c e=>zN r h.hint (by decide) c e));have y:SRep (w'.setCell ⟨b,1,none⟩ d) b {L with hv:=d} {S with hints:=t} :=
  ⟨i.set 1 _,g.fr s (fun k c e=>zf g.own i (by decide) (by rw[c,e])),j.mono (fun a _ l r=>VRow.fr r s (fun k c e=>zf r i (by decide) (by rw[c,e]))),za C s x⟩
 refine⟨{L with hv:=d},y.nil z,?_,fun k c=>?_,fun k c=>.inl c⟩
 .refine((f.mono (fun k _ e=>.inr (.inr e))).trans' s (fun k _ e=>.inl e)).trans (z.mono (fun _ _ e=>absurd e id))
 .rcases c with c|c|c
  .exact .inl (.inl c)
  .exact .inl (.inr (.inl c))
  .rcases B k c with o|o
   .exact .inl (.inr (.inr o))
   .exact .inr o
theorem Sl(b:Nat)(L:SL)(S:SM)(w:World)(h:SRep w b L S)(A:S.hints.length<1000000) :
 Calls Tryz.prog 275 #[.agg #[],.pointer (some ⟨b,0,none⟩)] w fun e Q=>e=.returned (.tuple #[])/\SStep w b L {S with hints:=S.hints.drop 1} Nil Q:=by
 have q:Fr Nil w (w.alloc (.cells #[] 135)):=(O _ _).alloc _;have r:=h.nil q;obtain⟨V,F,i⟩:=zd h.hint;have x:∀ k,(w.alloc (.cells #[] 135)).cell? ⟨b,k,none⟩=[L.kv,L.hv,.int .i64 S.IQ][k]?:=fun k=>r.IR.cell k;rw[i] at x;have T:=Z h;have l:=Z r;have u:=Z i;clear h r i;by_cases B:S.hints.length=0
 .have hnil:S.hints=[]:=Mi B
  have m:({S with hints:=S.hints.drop 1}:SM)=S:=by obtain⟨a,b,c⟩:=S;simp only at hnil;subst hnil;rfl
  rw[m];have t:¬(0:Int)<S.hints.length:=by omega
  clear m hnil B;go_enter Tryz.func275,Tryz.ntmps275
  go_wp2
  exact Lo (v:=.tuple #[]) (by simp[results,go_sem]) rfl ⟨rfl,L,l.out,q.mono (fun _ _ e=>absurd e id),fun k j=>.inl j,fun k j=>.inl j⟩
 .have t:(0:Int)<S.hints.length:=by omega
  go_enter Tryz.func275,Tryz.ntmps275;go_wp2_with fail;have s:=l.out.hint;rw[u.out] at s;refine(T4 _ S.hints.length 0 (Z8 S.hints) _ s (UA _) (by omega)).mono ?_;rintro e w2 ⟨X,rfl,p,d,g⟩;rw[Rz] at d;have z:(S.hints.drop 1).length=S.hints.length-1:=by simp
  rw[<- z] at d;rw[<- u.out] at g p;have o:=fun R E=>l.out.hints (w2:=R) g d (fun k j=>.inl (by rw[<- p];exact j)) E;have f:=l.out.IR.fr g (fun e=>zf l.out.hint l.out.IR (by decide) e);have G:=f.cell;have I:=f.frozen;have C:=Z o;obtain⟨Y,vc,rfl⟩:=zd d;clear o s d f x
  go_wp2
  have y:=C.out _ (O _ _);rw[z] at y;obtain⟨D,J,K,M,N⟩:=y;exact Lo (v:=.tuple #[]) (by simp[results,go_sem]) rfl ⟨rfl,D,J,q.mono (fun _ _ e=>absurd e id) |>.trans K,fun k j=>(M k j).imp id (fun h=>NR q.size h),N⟩
theorem Om(w:World)(v:Value)(n:Nat)(p:List Value)(h:w.ownsRow 0 75 2 v n p)(o:Nat)(a:ByteArray)(y:n<1000000)(g:World)(l:Fr Nil w g)(N:Nat)(s:Blk g N [.int .i64 o,.string a] 75)(ty:TypeId) :
 ∃ c d,(Builtin.append_ #[66,66] ty #[v,.slice (some ⟨N,0,none⟩) 1 1]).run Tryz.prog g=.ok c d /\
  (d.ownsRow 0 75 2 c (n+1) (p++[.int .i64 o,.string a])/\Fr (fun k=>v.ownBlock=some k) w d/\(∀ k,c.ownBlock=some k->v.ownBlock=some k\/w.heap.size<=k)):=by
 have t:=za h l (fun _ _=>id);obtain⟨c,d,x,q,r,b⟩:=zn (P:=Tryz.prog) 66 ty 75 2 24 KI Ol (by omega) v n p t ⟨N,0,none⟩ 1 1 [.int .i64 o,.string a] rfl
  (fun j u f=>by rw[MK,MD,s.cell];exact f) (by intro u f;simp at f;rcases f with rfl|rfl <;> rfl) (by unfold maxLen;omega) (by omega)
 refine⟨c,d,x,q,(l.mono (fun _ _ e=>absurd e id)).trans' ((Fr.Ho r).mono (fun i _ h=>h)) (fun i _ h=>h),fun k m=>?_⟩;rcases b with b|b
 .exact .inl (by rw[<- b];exact m)
 .rw[b] at m;simp at m;have:=l.size;exact .inr (by omega)
theorem T6(c:Nat)(a:ByteArray)(b:Nat)(L:SL)(S:SM)(w:World)(h:SRep w b L S)(q:S.hints.length<1000000) :
 Calls Tryz.prog 283 #[.agg #[.int .i64 c,.string a],.pointer (some ⟨b,0,none⟩)] w fun e w'=>e=.returned (.tuple #[])/\SStep w b L {S with hints:=S.hints++[(c,a)]} Nil w':=by
 have x:Fr Nil w (w.alloc (.cells #[.int .i64 c,.string a] 138)):=(O _ _).alloc _;have d:Blk (w.alloc (.cells #[.int .i64 c,.string a] 138)) w.heap.size [.int .i64 c,.string a] 138:=Blk.new w [.int .i64 c,.string a] _;have g:=h.nil x;obtain⟨N,K⟩:∃ N,w.heap.size=N:=⟨_,rfl⟩;obtain⟨T,C,i⟩:=zd h.hint;go_enter Tryz.func283,Tryz.ntmps283;go_wp2_with fail;rw[K] at d;obtain⟨j,t⟩:∃ j,w.alloc (.cells #[.int .i64 c,.string a] 138)=j:=⟨_,rfl⟩;rw[t] at d x g |-;clear t K;have V:∀ k,j.cell? ⟨b,k,none⟩=[L.kv,L.hv,.int .i64 S.IQ][k]?:=fun k=>g.IR.cell k;have hz:∀ k,j.frozen? ⟨b,k,none⟩=false:=fun k=>g.IR.frozen k;have hx:∀ k,j.cell? ⟨N,k,none⟩=[.int .i64 c,.string a][k]?:=fun k=>d.cell k;have D:∀ (o:Obj) k,(j.alloc o).cell? ⟨b,k,none⟩=[L.kv,L.hv,.int .i64 S.IQ][k]?:=fun o k=>(g.IR.alloc o).cell k;have a0:∀ (o:Obj) k,(j.alloc o).cell? ⟨N,k,none⟩=[.int .i64 c,.string a][k]?:=fun o k=>(d.alloc o).cell k;rw[i] at V D;have y:=g.hint;rw[i] at y;have Q:=Z y;have z:Hid (∀ u:World,Fr (fun k=>(Value.slice T S.hints.length C).ownBlock=some k) j u->Blk u b [L.kv,L.hv,.int .i64 S.IQ] 161):=fun u f=>g.IR.fr f (zf y g.IR (by decide));have M:=Z g;have HH:=Z h;have J:=Z i;clear h g i d y
 go_region_law
  ((refine Zi (by rfl) _ _ _ _ (by rfl) _ _ (by rfl) (by rfl) (Om j _ _ _ Q.out c a q _ z8 _ (by first|exact Blk.new _ [_,_] _|exact(Blk.new _ [_,_] _).drew) _) ?_;rintro v4 u ⟨m,l,r⟩;obtain⟨G,I,F⟩:=zd m;subst F;have p:=z.out _ l;have X:=p.cell;have a1:=p.frozen;have B:=Z m;have A:=Z r;clear m r))
 all_goals
  go_wp2
  have hl:(S.hints++[(c,a)]).length=S.hints.length+1:=by simp
  have E:u.ownsRow 0 75 2 (.slice G (S.hints.length+1) I) (S.hints++[(c,a)]).length (Z8 (S.hints++[(c,a)])):=by
   rw[hl,Sk];exact B.out
  rw[<- J.out] at l;have s:=A.out;rw[<- J.out] at s;obtain⟨R,q1,q2,q3,q4⟩:=M.out.hints (w2:=_) l E s (O _ _);exact Lo (v:=.tuple #[]) (by simp[results,go_sem]) rfl ⟨rfl,R,q1,(x.mono (fun _ _ e=>absurd e id)).trans q2,fun k Y=>(q3 k Y).imp id (fun h=>NR x.size h),q4⟩
end Go.Proofs.YtkhnggkkiefcdaaGreatDoor
