/- larder: joined texts -/
import Derived.Test.YtkhnggkkiefcdaaGreatDoorSFAB
import Derived.Test.YtkhnggkkiefcdaaGreatDoorSFAC
import Derived.Test.YtkhnggkkiefcdaaGreatDoorSFAD
import Derived.Deep.RegionHeld3
import Derived.Shelf.Strconv.Itoa3
import Derived.Shelf.Pu.Clone
import Derived.Ground.NamesProg
import Derived.Ground.MpProg
import Derived.Test.YtkhnggkkiefcdaaGreatDoorProg
import Derived.Test.YtkhnggkkiefcdaaGreatDoorRows
import Derived.Lib.ItoaLen
namespace Go.Proofs.YtkhnggkkiefcdaaGreatDoor
open Go.RowKit
set_option maxRecDepth 100000
set_option maxHeartbeats 8000000
structure SM where
 keys:List (ByteArray × List Ver)
 hints:List (Nat × ByteArray)
 Ba:Nat
structure SL where
 kv:Value
 hv:Value
 BR:List (ByteArray × Value)
def VRow(w:World)(v:Value)(l:List Ver):Prop:=w.ownsRow 0 37 8 v l.length (zU l)
def zJ(l:List (Nat × ByteArray)):List Value:=l.flatMap fun e=>[.int .i64 e.1,.string e.2]
theorem Pa(d:List (Nat × ByteArray)):(zJ d).length=d.length*2:=by
 induction d with
 | nil=>rfl
 | cons e d a=>simp only[zJ,Fi,IM,Hq,Gt] at a |-;omega
theorem WN(l:List (Nat × ByteArray)):∀ u∈zJ l,u.oneCell'=true:=by
 intro u a;simp only[zJ,Dt] at a;obtain⟨e,_,a⟩:=a;simp at a;rcases a with rfl|rfl <;> rfl
def Pair(R:Value->List Ver->Prop):List (ByteArray × Value)->List (ByteArray × List Ver)->Prop
 | [],[]=>True
 | a::d,b::c=>a.1=b.1/\R a.2 b.2/\Pair R d c
 | _,_=>False
theorem Pair.mono{R Q:Value->List Ver->Prop}:∀ {c:List (ByteArray × Value)}{e:List (ByteArray × List Ver)},Pair R c e->(∀ a,a∈c->∀ l,R a.2 l->Q a.2 l)->Pair Q c e
 | [],[],_,_=>trivial
 | a::_,_::_,h,f=>⟨h.1,f a (Hf ..) _ h.2.1,Pair.mono h.2.2 fun x g=>f x (Hb _ g)⟩
theorem Pair.length{R:Value->List Ver->Prop}:∀ {o:List (ByteArray × Value)}{c:List (ByteArray × List Ver)},Pair R o c->o.length=c.length
 | [],[],_=>rfl
 | _::o,_::c,h=>by simp[Pair.length h.2.2]
theorem Pair.keys{R:Value->List Ver->Prop}:∀ {c:List (ByteArray × Value)}{b:List (ByteArray × List Ver)},Pair R c b->c.map Prod.fst=b.map Prod.fst
 | [],[],_=>rfl
 | _::c,_::b,h=>by simp[Pair.keys h.2.2,h.1]
theorem Pair.take{R:Value->List Ver->Prop}:∀ {c:List (ByteArray × Value)}{a:List (ByteArray × List Ver)}(i:Nat),Pair R c a->Pair R (c.take i) (a.take i)
 | [],[],i,_=>by simp[Pair]
 | _::c,_::a,0,_=>trivial
 | _::c,_::a,i+1,h=>⟨h.1,h.2.1,Pair.take i h.2.2⟩
theorem Pair.drop{R:Value->List Ver->Prop}:∀ {d:List (ByteArray × Value)}{c:List (ByteArray × List Ver)}(i:Nat),Pair R d c->Pair R (d.drop i) (c.drop i)
 | [],[],i,_=>by simp[Pair]
 | _::d,_::c,0,h=>h
 | _::d,_::c,i+1,h=>Pair.drop i h.2.2
theorem Pair.append{R:Value->List Ver->Prop}:∀ {d:List (ByteArray × Value)}{a:List (ByteArray × List Ver)}{b:List (ByteArray × Value)}{c:List (ByteArray × List Ver)},Pair R d a->Pair R b c->Pair R (d++b) (a++c)
 | [],[],_,_,_,k=>k
 | _::_,_::_,_,_,h,k=>⟨h.1,h.2.1,Pair.append h.2.2 k⟩
theorem Pair.get{R:Value->List Ver->Prop}:∀ {d:List (ByteArray × Value)}{c:List (ByteArray × List Ver)},Pair R d c->∀ (i:Nat)(e:i<d.length)(f:i<c.length),R d[i].2 c[i].2
 | [],[],_,i,e,_=>by simp at e
 | _::d,_::c,h,0,_,_=>h.2.1
 | _::d,_::c,h,i+1,e,f=>Pair.get h.2.2 i (by simpa using e) (by simpa using f)
structure SRep(w:World)(b:Nat)(L:SL)(S:SM):Prop where
 CY:Blk w b [L.kv,L.hv,.int .i64 S.Ba] 161
 Ah:Wf w L.kv L.BR
 pair:Pair (VRow w) L.BR S.keys
 hint:w.ownsRow 0 75 2 L.hv S.hints.length (zJ S.hints)
def SFoot(b:Nat)(L:SL)(k:Nat):Prop:=k=b\/L.kv.ownBlock=some k\/L.hv.ownBlock=some k
def SRead(L:SL)(k:Nat):Prop:=∃ e∈L.BR,e.2.ownBlock=some k
theorem VRow.fr{S:Nat->Prop}{w w':World}{v:Value}{l:List Ver}(h:VRow w v l)(f:Fr S w w')(c:∀ k,v.ownBlock=some k->¬S k):VRow w' v l:=zb h f c
theorem SRep.fr{c:Nat->Prop}{w w':World}{b:Nat}{L:SL}{S:SM}(h:SRep w b L S)(f:Fr c w w')(g:∀ k,SFoot b L k->¬c k)(o:∀ k,SRead L k->¬c k):SRep w' b L S :=
 ⟨h.CY.fr f (g _ (.inl rfl)),h.Ah.fr f (fun _ e=>g _ (.inr (.inl e))),h.pair.mono (fun a r _ z=>VRow.fr z f (fun k y=>o k ⟨a,r,y⟩)),zb h.hint f (fun _ e=>g _ (.inr (.inr e)))⟩
theorem SRep.nil{w w':World}{b:Nat}{L:SL}{S:SM}(h:SRep w b L S)(f:Fr Nil w w'):SRep w' b L S:=h.fr f (fun _ _=>id) (fun _ _=>id)
def Ty(w:World)(k:Nat)(t:TypeId):Prop:=∃ c f,w.heap[k]?=some (.cells c t f)
theorem Ty.inj{w:World}{k:Nat}{t u:TypeId}(h:Ty w k t)(a:Ty w k u):t=u:=by
 obtain⟨c,f,h⟩:=h;obtain⟨b,d,a⟩:=a;rw[h] at a;simp at a;exact a.2.1
theorem Blk.ty{w:World}{b:Nat}{c:List Value}{t:TypeId}(h:Blk w b c t):Ty w b t:=⟨_,_,h⟩
theorem zD{w:World}{e:TypeId}{size n:Nat}{v:Value}{f:List Value}(h:w.ownsRow 0 e size v n f){k:Nat}(a:v.ownBlock=some k):Ty w k e:=by
 rcases Yn h with⟨rfl,_⟩|⟨g,b,c,rfl,d,_⟩
 .simp[Value.ownBlock] at a
 .simp[Value.ownBlock] at a
  subst a;exact d.ty
theorem SRep.BH{w:World}{b:Nat}{L:SL}{S:SM}(h:SRep w b L S){k:Nat}(a:SFoot b L k):Ty w k 161\/Ty w k 239\/Ty w k 75:=by
 rcases a with rfl|a|a
 .exact .inl h.CY.ty
 .exact .inr (.inl (zD h.Ah.own a))
 .exact .inr (.inr (zD h.hint a))
theorem Pair.mem{R:Value->List Ver->Prop}:∀ {d:List (ByteArray × Value)}{f:List (ByteArray × List Ver)},Pair R d f->∀ e∈d,∃ l,R e.2 l
 | [],[],_,e,c=>by cases c
 | a::d,b::f,h,e,c=>by
  rcases HY.1 c with rfl|c
  .exact⟨_,h.2.1⟩
  .exact Pair.mem h.2.2 e c
theorem SRep.BV{w:World}{b:Nat}{L:SL}{S:SM}(h:SRep w b L S){k:Nat}(a:SRead L k):Ty w k 37:=by
 obtain⟨e,c,a⟩:=a;obtain⟨l,d⟩:=h.pair.mem e c;exact zD d a
def Y0{β:Type}(l:List (ByteArray × β))(s:ByteArray)(x:β):List (ByteArray × β) :=
 l.take (low zf (l.map Prod.fst) s)++[(s,x)]++l.drop (if Z5 zf (l.map Prod.fst) s=true then low zf (l.map Prod.fst) s+1 else low zf (l.map Prod.fst) s)
def YI{β:Type}(l:List (ByteArray × β))(s:ByteArray):List (ByteArray × β) :=
 if Z5 zf (l.map Prod.fst) s=true then l.take (low zf (l.map Prod.fst) s)++l.drop (low zf (l.map Prod.fst) s+1) else l
def zj(l:List (ByteArray × List Ver))(s:ByteArray):List Ver :=
 if Z5 zf (l.map Prod.fst) s=true then(l.getD (low zf (l.map Prod.fst) s) (s,[])).2 else []
theorem Pair.set{R:Value->List Ver->Prop}{c:List (ByteArray × Value)}{b:List (ByteArray × List Ver)}(h:Pair R c b)(s:ByteArray){x:Value}{l:List Ver}(d:R x l):Pair R (Yk c s x) (Y0 b s l):=by
 unfold Yk Y0;rw[show zu c=b.map Prod.fst from h.keys];exact Pair.append (Pair.append (h.take _) ⟨rfl,d,trivial⟩) (h.drop _)
theorem Pair.del{R:Value->List Ver->Prop}{b:List (ByteArray × Value)}{a:List (ByteArray × List Ver)}(h:Pair R b a)(s:ByteArray):Pair R (Xc b s) (YI a s):=by
 unfold Xc YI;rw[show zu b=a.map Prod.fst from h.keys];split
 .exact Pair.append (h.take _) (h.drop _)
 .exact h
theorem J0{l:List (ByteArray × Value)}{s:ByteArray}{x:Value}:∀ e∈Yk l s x,e∈l\/e=(s,x):=by
 intro e a;simp only[Yk,Hh,IZ] at a;rcases a with(a|a)|a
 .exact .inl (GV a)
 .exact .inr a
 .exact .inl (Gn a)
def SStep(w:World)(b:Nat)(L:SL)(S:SM)(X:Nat->Prop)(c:World):Prop :=
 ∃ a,SRep c b a S/\Fr (SFoot b L) w c/\(∀ k,SFoot b a k->SFoot b L k\/w.heap.size<=k)/\(∀ k,SRead a k->SRead L k\/X k)
theorem Pb(n:Nat)(b:Nat)(L:SL)(S:SM)(w:World)(h:SRep w b L S) :
 Calls Tryz.prog 308 #[.agg #[.int .i64 n],.pointer (some ⟨b,0,none⟩)] w fun e m=>e=.returned (.tuple #[])/\SStep w b L {S with Ba:=n} Nil m:=by
 have g:=h.CY.lt;have o:=h.CY.cell;have p:=h.CY.frozen;have f:SStep w b L {S with Ba:=n} Nil ((w.setCell ⟨b,2,none⟩ (.int .i64 n)).alloc (.cells #[.int .i64 n] 220)):=by
  have c:Fr (fun k=>k=b) w (w.setCell ⟨b,2,none⟩ (.int .i64 n)):=Fr.set (S:=fun k=>k=b) (O _ _) (fun _=>rfl) _;have hs:SRep (w.setCell ⟨b,2,none⟩ (.int .i64 n)) b L {S with Ba:=n} :=
   ⟨h.CY.set 2 _,h.Ah.fr c (fun k d e=>zd h.Ah.own h.CY (by decide) (by rw[d,e])),h.pair.mono (fun a _ l i=>VRow.fr i c (fun k d e=>zd i h.CY (by decide) (by rw[d,e]))),zb h.hint c (fun k d e=>zd h.hint h.CY (by decide) (by rw[d,e]))⟩
  exact⟨L,hs.nil ((O _ _).alloc _),(c.mono (fun k _ e=>.inl e)).alloc _,fun k d=>.inl d,fun k d=>.inl d⟩
 clear h;have j:=Z f;clear f;go_enter Tryz.func308,Tryz.ntmps308
 go_wp2
 exact GC (v:=.tuple #[]) (by simp[results,go_sem]) rfl ⟨rfl,j.out⟩
def ZU(w:World)(n:Int):Nat->Value->Prop
 | 0,v=>∃ b c f,v=.iface 225 (.pointer (some ⟨b,0,none⟩))/\Blk w b [.string c,.string f,.int .i64 n] 229
 | k+1,v=>∃ b a d,v=.iface 202 (.pointer (some ⟨b,0,none⟩))/\Blk w b [.string a,d] 204/\ZU w n k d
def ERep(w:World)(v:Value):Option Int->Prop
 | none=>v=.nilIface
 | some n=>∃ k,ZU w n k v
def XM(w:World)(S:Nat->Prop):Prop:=∀ k,(Ty w k 229\/Ty w k 204)->¬S k
theorem ZU.fr{S:Nat->Prop}{w w':World}{n:Int}(f:Fr S w w')(r:XM w S):∀ {k:Nat}{v:Value},ZU w n k v->ZU w' n k v
 | 0,_,⟨b,c,g,h,e⟩=>⟨b,c,g,h,e.fr f (r b (.inl e.ty))⟩
 | _+1,_,⟨b,o,v',h,e,y⟩=>⟨b,o,v',h,e.fr f (r b (.inr e.ty)),ZU.fr f r y⟩
theorem ERep.fr{S:Nat->Prop}{w w':World}{v:Value}{e:Option Int}(h:ERep w v e)(f:Fr S w w')(g:XM w S):ERep w' v e:=by
 cases e with
 | none=>exact h
 | some n=>obtain⟨k,c⟩:=h;exact⟨k,c.fr f g⟩
theorem XM.nil(w:World):XM w Nil:=fun _ _=>id
theorem ZU.form{w:World}{n:Int}:∀ {k:Nat}{v:Value},ZU w n k v->∃ t b,v=.iface t (.pointer (some ⟨b,0,none⟩))
 | 0,_,⟨b,_,_,h,_⟩=>⟨_,b,h⟩
 | _+1,_,⟨b,_,_,h,_⟩=>⟨_,b,h⟩
def Yh(n:Int):Option Int:=if n=0 then none else some n
theorem Wz(c f:ByteArray)(n:Int)(w:World) :
 Calls Tryz.prog 166 #[.string c,.string f,.int .i64 n] w fun e d=>∃ v,e=.returned v/\ERep d v (Yh n)/\Fr Nil w d:=by
 by_cases a:n=0
 .subst a
  go_enter Tryz.func166,Tryz.ntmps166
  go_wp2
  go_ret;exact⟨_,rfl,rfl,O _ _⟩
 .have he:Yh n=some n:=by unfold Yh;rw[IV a]
  have b:Blk (w.alloc (.cells #[.string c,.string f,.int .i64 n] 229)) w.heap.size [.string c,.string f,.int .i64 n] 229:=Blk.new w [.string c,.string f,.int .i64 n] _;have h:(n==0)=false:=by simp[a]
  have g:=Z b;rw[he];clear he b a;go_enter Tryz.func166,Tryz.ntmps166
  go_wp2
  go_ret;exact⟨_,rfl,⟨0,_,_,_,rfl,g.out⟩,(O _ _).alloc _⟩
theorem zK(a:ByteArray)(v:Value)(e:Option Int)(w:World)(h:ERep w v e) :
 Calls Tryz.prog 90 #[.string a,v] w fun x w'=>∃ g,x=.returned g/\ERep w' g e/\Fr Nil w w':=by
 cases e with
 | none =>
  have j:v=.nilIface:=h;subst j;go_enter Tryz.func90,Tryz.ntmps90
  go_wp2
  go_ret;exact⟨_,rfl,rfl,O _ _⟩
 | some n =>
  obtain⟨k,c⟩:=h;obtain⟨t,b,rfl⟩:=c.form;have f:Fr Nil w (w.alloc (.cells #[.string a,.iface t (.pointer (some ⟨b,0,none⟩))] 204)):=(O _ _).alloc _;have d:Blk (w.alloc (.cells #[.string a,.iface t (.pointer (some ⟨b,0,none⟩))] 204)) w.heap.size [.string a,.iface t (.pointer (some ⟨b,0,none⟩))] 204:=Blk.new w [.string a,.iface t (.pointer (some ⟨b,0,none⟩))] _;have i:Hid (ERep (w.alloc (.cells #[.string a,.iface t (.pointer (some ⟨b,0,none⟩))] 204)) (.iface 202 (.pointer (some ⟨w.heap.size,0,none⟩))) (some n)):=⟨k+1,_,_,_,rfl,d,c.fr f (XM.nil w)⟩;clear d c;go_enter Tryz.func90,Tryz.ntmps90
  go_wp2
  go_ret;exact⟨_,rfl,i.out,f⟩
structure JM where
 Bw:Nat
 last:Nat
 name:ByteArray
 size:Nat
 Ad:Bool
 Bm:Bool
def JM.cells(c:Nat)(J:JM):List Value:=[.pointer (some ⟨c,0,none⟩),.int .i64 J.Bw,.int .i64 J.last,.string J.name,.int .i64 J.size,.bool J.Ad,.bool J.Bm]
def JRep(w:World)(b a:Nat)(J:JM):Prop:=Blk w b (J.cells a) 197
def DTy(t:TypeId):Prop:=t=143\/t=148\/t=145\/t=152\/t=5
theorem DRep.ty{w:World}{b:Nat}{L:DL}{M:DM}(h:DRep w b L M){k:Nat}(d:Foot b L M k):∃ t,Ty w k t/\DTy t:=by
 cases d using Foot.elim with
 | blk=>exact⟨_,h.CY.ty,.inl rfl⟩
 | dir e=>exact⟨_,zD h.dir e,.inr (.inl rfl)⟩
 | safe e=>exact⟨_,zD h.safe e,.inr (.inl rfl)⟩
 | ch e=>exact⟨_,zD h.ch e,.inr (.inr (.inl rfl))⟩
 | chs i a e=>exact⟨_,zD (h.Bj i a (by rw[<- h.Ag];exact a)) e,.inr (.inl rfl)⟩
 | file e=>exact⟨_,(h.files k e).ty,.inr (.inr (.inr (.inl rfl)))⟩
 | row f c e=>exact⟨_,zD (h.rows f c) e,.inr (.inr (.inr (.inr rfl)))⟩
theorem DRep.apart{w:World}{b:Nat}{L:DL}{M:DM}(h:DRep w b L M){k:Nat}{t:TypeId}(e:Ty w k t)(a:¬DTy t):¬Foot b L M k:=fun d=>by
 obtain⟨u,f,c⟩:=h.ty d;rw[e.inj f] at a;exact a c
theorem Blk.step{w w':World}{b a:Nat}{L d:DL}{M e:DM}{c:List Value}{t:TypeId}(h:Blk w a c t)(f:DRep w b L M)(hs:DStep b L M w d e w')(g:¬DTy t):Blk w' a c t :=
 h.fr hs.fr (f.apart h.ty g)
theorem DStep.of{w c a:World}{b:Nat}{L L':DL}{M M':DM}(h:DStep b L M c L' M' a)(f:Fr Nil w c):DStep b L M w L' M' a :=
 ⟨h.CZ,(f.mono (fun _ _ e=>absurd e id)).trans h.fr,fun k d=>(h.BA k d).imp id (fun h=>IP f.size h)⟩
theorem DStep.Bq{w d w':World}{b:Nat}{L a:DL}{M c:DM}(h:DStep b L M w a c d)(f:Fr Nil d w'):DStep b L M w a c w' :=
 ⟨h.CZ.fr f (fun _ _=>id),h.fr.trans (f.mono (fun _ _ e=>absurd e id)),h.BA⟩
theorem DRep.nil{w w':World}{b:Nat}{L:DL}{M:DM}(h:DRep w b L M)(f:Fr Nil w w'):DRep w' b L M:=h.fr f (fun _ _=>id)
def JM.Bc(J:JM)(M:DM):Option Int × DM:=if J.last=0 then(none,M) else(Yh (M.sync J.name).1,(M.sync J.name).2)
theorem Vf(c b:Nat)(J:JM)(L:DL)(M:DM)(w:World)(l:JRep w c b J)(i:DRep w b L M) :
 Calls Tryz.prog 132 #[.pointer (some ⟨c,0,none⟩)] w fun e d=>∃ v f,e=.returned v/\ERep d v (J.Bc M).1/\DStep b L M w f (J.Bc M).2 d:=by
 have k:=l.cell;simp only[JM.cells] at k;by_cases j:J.last=0
 .have hs:J.Bc M=(none,M):=by unfold JM.Bc;rw[He j]
  rw[hs];rw[j] at k;have m:=Z i;clear hs j i l;go_enter Tryz.func132,Tryz.ntmps132
  go_wp2
  go_ret;exact⟨_,L,rfl,rfl,DStep.look m.out (O _ _)⟩
 .have hs:J.Bc M=(Yh (M.sync J.name).1,(M.sync J.name).2):=by unfold JM.Bc;rw[IV j]
  rw[hs];have C:((J.last:Int)==0)=false:=by simp;omega
  have y:w.cell? ⟨c,0,none⟩=some (.pointer (some ⟨b,0,none⟩)):=k 0;have z:w.cell? ⟨c,3,none⟩=some (.string J.name):=k 3;have r:Hid (∀ q d f,DStep b L M q f (M.sync J.name).2 d->Fr Nil w q->d.cell? ⟨c,0,none⟩=some (.pointer (some ⟨b,0,none⟩))/\d.cell? ⟨c,3,none⟩=some (.string J.name)):=by
   intro q d f a t;have:=((l.fr t id).step (i.nil t) a (by unfold DTy;decide)).cell;exact⟨by rw[this];rfl,by rw[this];rfl⟩
  have m:=Z i;clear hs j i l;go_enter Tryz.func132,Tryz.ntmps132;go_wp2_with fail
  go_region_held3 (fun d=>d.cell? ⟨c,0,none⟩=some (.pointer (some ⟨b,0,none⟩))/\d.cell? ⟨c,3,none⟩=some (.string J.name)) (first|assumption|go_keep)
   (first
   | (go_at_call 166;refine(Wz _ _ _ _).mono ?_;rintro e p ⟨D,rfl,s,g⟩;have B:p.cell? ⟨c,0,none⟩=some (.pointer (some ⟨b,0,none⟩))/\p.cell? ⟨c,3,none⟩=some (.string J.name):=r.out _ _ _ (h.out.Bq (Fr.trans za g)) (O _ _);have x:=Z s;have o:Hid (Fr Nil u p):=Fr.trans za g;clear s g)
   | (go_at_call 167;refine(Mm J.name _ b L M (m.out.nil za)).mono ?_;rintro e u ⟨rfl,f,a⟩;have A:=r.out _ _ _ a za;have h:Hid (DStep b L M w f (M.sync J.name).2 u):=a.of za;clear a))
  go_wp2
  go_ret;exact⟨_,f,rfl,x.out,h.out.Bq o.out⟩
def JStep(e a:Nat)(L:DL)(M:DM)(w:World)(J':JM)(c:DL)(d:DM)(b:World):Prop :=
 JRep b e a J'/\DRep b a c d/\Fr (fun k=>k=e\/Foot a L M k) w b/\(∀ k,Foot a c d k->Foot a L M k\/w.heap.size<=k)
theorem JStep.trans{e c:Nat}{L1 o r:DL}{s t x:DM}{z w2 A:World}{B g:JM}(h:JStep e c L1 s z B o t w2)(k:JStep e c o t w2 g r x A):JStep e c L1 s z g r x A:=by
 refine⟨k.1,k.2.1,h.2.2.1.trans' k.2.2.1 (fun i y C=>?_),fun i y=>?_⟩
 .rcases C with h'|h'
  .exact .inl h'
  .rcases h.2.2.2 i h' with h2|h2
   .exact .inr h2
   .omega
 .rcases k.2.2.2 i y with h'|h'
  .exact h.2.2.2 i h'
  .exact .inr (IP h.2.2.1.size h')
theorem JStep.Ak{d a:Nat}{L b:DL}{M c:DM}{w f:World}{J:JM}(i:JRep w d a J)(g:DRep w a L M)(h:DStep a L M w b c f):JStep d a L M w J b c f :=
 ⟨i.step g h (by unfold DTy;decide),h.CZ,h.fr.mono (fun _ _ e=>.inr e),h.BA⟩
theorem JStep.nil{e c:Nat}{L:DL}{M:DM}{w w':World}{J:JM}(g:JRep w e c J)(d:DRep w c L M)(f:Fr Nil w w'):JStep e c L M w J L M w' :=
 JStep.Ak g d (DStep.look d f)
theorem JStep.Bq{d c:Nat}{L a:DL}{M b:DM}{w e w':World}{J':JM}(h:JStep d c L M w J' a b e)(f:Fr Nil e w'):JStep d c L M w J' a b w' :=
 h.trans (JStep.nil h.1 h.2.1 f)
theorem JStep.set{b c:Nat}{L:DL}{M:DM}{w:World}{J J':JM}(j:JRep w b c J)(f:DRep w c L M)(i:Nat)(v:Value)(h:(J.cells c).set i v=J'.cells c):JStep b c L M w J' L M (w.setCell ⟨b,i,none⟩ v):=by
 have g:Fr (fun k=>k=b) w (w.setCell ⟨b,i,none⟩ v):=Fr.set (S:=fun k=>k=b) (O _ _) (fun _=>rfl) _;refine⟨?_,f.fr g (fun k d e=>?_),g.mono (fun _ _ e=>.inl e),fun k d=>.inl d⟩
 .unfold JRep
  rw[<- h];exact Blk.set j i v
 .subst e
  exact f.apart (Blk.ty j) (by unfold DTy;decide) d
theorem ERep.yp{w i:World}{g b:Nat}{L j:DL}{M l:DM}{J J':JM}{v:Value}{e:Option Int}(h:ERep w v e)(d:JRep w g b J)(c:DRep w b L M)(hs:JStep g b L M w J' j l i):ERep i v e :=
 h.fr hs.2.2.1 (fun k f a=>by
  rcases a with a|a
  .subst a
   rcases f with h|h
   .exact absurd ((Blk.ty d).inj h) (by decide)
   .exact absurd ((Blk.ty d).inj h) (by decide)
  .rcases f with h|h
   .exact c.apart h (by unfold DTy;decide) a
   .exact c.apart h (by unfold DTy;decide) a)
def JM.Bp(J:JM)(M:DM):Option Int × JM × DM:=(Yh M.Bp.1,{J with Bm:=M.Bp.1==0},M.Bp.2)
theorem SF(j h:Nat)(J:JM)(L:DL)(M:DM)(w:World)(u:JRep w j h J)(A:DRep w h L M) :
 Calls Tryz.prog 133 #[.pointer (some ⟨j,0,none⟩)] w fun e C=>∃ v l,e=.returned v/\ERep C v (J.Bp M).1/\JStep j h L M w (J.Bp M).2.1 l (J.Bp M).2.2 C:=by
 have E:w.cell? ⟨j,0,none⟩=some (.pointer (some ⟨h,0,none⟩)):=u.cell 0;have y:=Z A;have D:=Z u;simp only[JM.Bp];clear A u;go_enter Tryz.func133,Tryz.ntmps133;go_wp2_with fail;refine(RQ w h L M y.out).mono ?_;rintro e G ⟨rfl,l,p⟩;have s:=Z p;clear p;go_wp2_with fail;refine(Wz _ _ _ G).mono ?_;rintro e x ⟨B,rfl,d,o⟩;have f:JStep j h L M w J l M.Bp.2 x:=(JStep.Ak D.out y.out s.out).Bq o;have I:=f.1.frozen 6;have F:x.cell? ⟨j,6,none⟩=some (.bool J.Bm):=f.1.cell 6;have c:=Z f;have z:=Z d;clear f o;by_cases i:M.Bp.1=0
 .have hv:B=.nilIface:=by unfold Yh at d;rw[He i] at d;exact d
  subst hv;have m:(M.Bp.1==0)=true:=by simp[i]
  have a:=JStep.set c.out.1 c.out.2.1 6 (.bool true) (J':={J with Bm:=true}) rfl;have r:=Z (c.out.trans a);have g:=Z (z.out.yp c.out.1 c.out.2.1 a);have q:=Z m;clear i d a m
  go_wp2
  go_ret;rw[q.out];exact⟨_,l,rfl,g.out,r.out⟩
 .obtain⟨k,hk⟩:∃ k,ZU x M.Bp.1 k B:=by unfold Yh at d;rw[IV i] at d;exact d
  obtain⟨t,b,rfl⟩:=hk.form;have m:(M.Bp.1==0)=false:=by simp[i]
  have a:=JStep.set c.out.1 c.out.2.1 6 (.bool false) (J':={J with Bm:=false}) rfl;have r:=Z (c.out.trans a);have g:=Z (z.out.yp c.out.1 c.out.2.1 a);have q:=Z m;clear i d a m hk
  go_wp2
  go_ret;rw[q.out];exact⟨_,l,rfl,g.out,r.out⟩
def JM.Bn(J:JM)(M:DM):Option Int × JM × DM :=
 if (J.Bc M).1=none/\J.last≠0/\J.Bm=false then J.Bp (J.Bc M).2 else((J.Bc M).1,J,(J.Bc M).2)
theorem WY(s q:Nat)(J:JM)(L:DL)(M:DM)(w:World)(N:JRep w s q J)(K:DRep w q L M) :
 Calls Tryz.prog 84 #[.pointer (some ⟨s,0,none⟩)] w fun e V=>∃ v L',e=.returned v/\ERep V v (J.Bn M).1/\JStep s q L M w (J.Bn M).2.1 L' (J.Bn M).2.2 V:=by
 have R:=Z (Vf s q J L M w N K);have X:=Z K;have Y:=Z N;clear K N;go_enter Tryz.func84,Tryz.ntmps84;go_wp2_with fail;refine R.out.mono ?_;rintro e C ⟨v1,u,rfl,m,B⟩;have o:JStep s q L M w J u (J.Bc M).2 C:=JStep.Ak Y.out X.out B;have I:=o.1.cell;simp only[JM.cells] at I;have f:=Z o;have E:=Z m;clear o B R;cases he:(J.Bc M).1 with
 | some n =>
  have j:J.Bn M=(some n,J,(J.Bc M).2):=by unfold JM.Bn;rw[IV (by rw[he];simp),he]
  have p:=Z j;rw[he] at m E;obtain⟨k,S⟩:=m;obtain⟨t,b,rfl⟩:=S.form;clear he j S;go_wp2_with fail;refine(zK _ _ (some n) C E.out).mono ?_;rintro e D ⟨Q,rfl,a,c⟩;have d:=Z a;have l:=Z (f.out.Bq c);clear a c
  go_wp2
  go_ret;rw[p.out];exact⟨_,u,rfl,d.out,l.out⟩
 | none =>
  rw[he] at m E;have hv:v1=.nilIface:=m;subst hv;by_cases r:J.last≠0/\J.Bm=false
  .have j:J.Bn M=J.Bp (J.Bc M).2:=by unfold JM.Bn;rw[He ⟨he,r⟩]
   have p:=Z j;have HS:=Z (SF s q J u (J.Bc M).2 C f.out.1 f.out.2.1);have A:0<J.last:=by omega
   have g:=r.2;rw[g] at I;clear he j r m g;go_wp2_with fail;refine HS.out.mono ?_;rintro e D ⟨Q,L2,rfl,a,i⟩;have G:=Z (f.out.trans i);have d:=Z a;clear a i;go_wp2_with fail;refine(zK _ _ _ D d.out).mono ?_;rintro e w3 ⟨v3,rfl,x,y⟩;have F:=Z x;have l:=Z (G.out.Bq y);clear x y
   go_wp2
   go_ret;rw[p.out];exact⟨_,L2,rfl,F.out,l.out⟩
  .have j:J.Bn M=(none,J,(J.Bc M).2):=by unfold JM.Bn;rw[IV (fun h=>r h.2),he]
   have p:=Z j;have z:J.last=0\/J.Bm=true:=by
    rcases FG J.last with h|h
    .exact .inl h
    .right
     cases hds:J.Bm with
     | true=>rfl
     | false=>exact absurd ⟨by omega,hds⟩ r
   clear he j r m;by_cases T:J.last=0
   .have A:¬0<J.last:=by omega
    go_wp2_with fail;refine(zK _ _ none C rfl).mono ?_;rintro e D ⟨Q,rfl,a,c⟩;have d:=Z a;have l:=Z (f.out.Bq c);clear a c
    go_wp2
    go_ret;rw[p.out];exact⟨_,u,rfl,d.out,l.out⟩
   .have A:0<J.last:=by omega
    have g:J.Bm=true:=z.resolve_left T;rw[g] at I;clear z T g;go_wp2_with fail;refine(zK _ _ none C rfl).mono ?_;rintro e D ⟨Q,rfl,a,c⟩;have d:=Z a;have l:=Z (f.out.Bq c);clear a c
    go_wp2
    go_ret;rw[p.out];exact⟨_,u,rfl,d.out,l.out⟩
end Go.Proofs.YtkhnggkkiefcdaaGreatDoor
namespace Go.Proofs
open Go.Shelf
def Tryz.AG:Go.Shelf.Ren:=⟨fun|171=>81|243=>130|246=>165|283=>205|284=>206|285=>207|286=>208|129=>229|317=>228|318=>230|319=>231|320=>232|337=>242|338=>243|n=>n,fun|3=>3|9=>9|2=>2|4=>4|171=>293|0=>0|53=>274|37=>150|5=>5|173=>296|212=>322|51=>323|20=>20|213=>324|46=>299|232=>340|233=>341|n=>n,fun|17=>1|18=>2|19=>3|n=>n⟩
theorem Tryz.yo:Go.Proofs.LaysM.n171 Tryz.prog Tryz.AG:={
 mixed:=by kernel_rfl
 f129:=Tryz.func229.trans (congrArg some (by kernel_rfl))
 f171:=Tryz.func81.trans (congrArg some (by kernel_rfl))
 f243:=Tryz.func130.trans (congrArg some (by kernel_rfl))
 f246:=Tryz.func165.trans (congrArg some (by kernel_rfl))
 f283:=Tryz.func205.trans (congrArg some (by kernel_rfl))
 f284:=Tryz.func206.trans (congrArg some (by kernel_rfl))
 f285:=Tryz.func207.trans (congrArg some (by kernel_rfl))
 f286:=Tryz.func208.trans (congrArg some (by kernel_rfl))
 f317:=Tryz.func228.trans (congrArg some (by kernel_rfl))
 f318:=Tryz.func230.trans (congrArg some (by kernel_rfl))
 f319:=Tryz.func231.trans (congrArg some (by kernel_rfl))
 f320:=Tryz.func232.trans (congrArg some (by kernel_rfl))
 f337:=Tryz.func242.trans (congrArg some (by kernel_rfl))
 f338:=Tryz.func243.trans (congrArg some (by kernel_rfl))
 t0:=Tryz.underlying0
 a0:=Tryz.isAgg0
 z0:=Tryz.sizeOf0
 v0:=Tryz.zeroValue0
 t2:=Tryz.underlying2
 a2:=Tryz.isAgg2
 z2:=Tryz.sizeOf2
 v2:=Tryz.zeroValue2
 t3:=Tryz.underlying3
 a3:=Tryz.isAgg3
 z3:=Tryz.sizeOf3
 v3:=Tryz.zeroValue3
 t4:=Tryz.underlying4
 a4:=Tryz.isAgg4
 z4:=Tryz.sizeOf4
 v4:=Tryz.zeroValue4
 t5:=Tryz.underlying5
 a5:=Tryz.isAgg5
 z5:=Tryz.sizeOf5
 v5:=Tryz.zeroValue5
 t9:=Tryz.underlying9
 a9:=Tryz.isAgg9
 z9:=Tryz.sizeOf9
 v9:=Tryz.zeroValue9
 t20:=Tryz.underlying20
 a20:=Tryz.isAgg20
 z20:=Tryz.sizeOf20
 v20:=Tryz.zeroValue20
 t37:=Tryz.underlying150
 a37:=Tryz.isAgg150
 z37:=Tryz.sizeOf150
 v37:=Tryz.zeroValue150
 t46:=Tryz.underlying299
 a46:=Tryz.isAgg299
 z46:=Tryz.sizeOf299
 v46:=Tryz.zeroValue299
 t51:=Tryz.underlying323
 a51:=Tryz.isAgg323
 z51:=Tryz.sizeOf323
 v51:=Tryz.zeroValue323
 t53:=Tryz.underlying274
 a53:=Tryz.isAgg274
 z53:=Tryz.sizeOf274
 v53:=Tryz.zeroValue274
 t171:=Tryz.underlying293
 a171:=Tryz.isAgg293
 z171:=Tryz.sizeOf293
 v171:=Tryz.zeroValue293
 t173:=Tryz.underlying296
 a173:=Tryz.isAgg296
 z173:=Tryz.sizeOf296
 v173:=Tryz.zeroValue296
 t212:=Tryz.underlying322
 a212:=Tryz.isAgg322
 z212:=Tryz.sizeOf322
 v212:=Tryz.zeroValue322
 t213:=Tryz.underlying324
 a213:=Tryz.isAgg324
 z213:=Tryz.sizeOf324
 t232:=Tryz.underlying340
 a232:=Tryz.isAgg340
 z232:=Tryz.sizeOf340
 v232:=Tryz.zeroValue340
 t233:=Tryz.underlying341
 a233:=Tryz.isAgg341
 z233:=Tryz.sizeOf341
 v233:=Tryz.zeroValue341
 g17:=by kernel_rfl
 g18:=by kernel_rfl
 g19:=by kernel_rfl
 i0:=by kernel_rfl
 i2:=by kernel_rfl
 i3:=by kernel_rfl
 i4:=by kernel_rfl
 i5:=by kernel_rfl
 i9:=by kernel_rfl
 i20:=by kernel_rfl
 i37:=by kernel_rfl
 i46:=by kernel_rfl
 i51:=by kernel_rfl
 i53:=by kernel_rfl
 i171:=by kernel_rfl
 i173:=by kernel_rfl
 i212:=by kernel_rfl
 i232:=by kernel_rfl
 i233:=by kernel_rfl
 m17:=by kernel_rfl
 m18:=by kernel_rfl
 m19:=by kernel_rfl}
def Tryz.AJ:Go.Shelf.Ren:=⟨fun|25=>125|n=>n,fun|9=>9|3=>3|4=>4|37=>150|0=>0|47=>240|5=>5|n=>n,fun|n=>n⟩
theorem Tryz.AQ:Go.Proofs.LaysPu.n25 Tryz.prog Tryz.AJ:={
 mixed:=by kernel_rfl
 f25:=Tryz.func125.trans (congrArg some (by kernel_rfl))
 t0:=Tryz.underlying0
 a0:=Tryz.isAgg0
 z0:=Tryz.sizeOf0
 v0:=Tryz.zeroValue0
 i0:=by kernel_rfl
 t3:=Tryz.underlying3
 a3:=Tryz.isAgg3
 z3:=Tryz.sizeOf3
 v3:=Tryz.zeroValue3
 i3:=by kernel_rfl
 t4:=Tryz.underlying4
 a4:=Tryz.isAgg4
 z4:=Tryz.sizeOf4
 v4:=Tryz.zeroValue4
 i4:=by kernel_rfl
 t5:=Tryz.underlying5
 a5:=Tryz.isAgg5
 z5:=Tryz.sizeOf5
 v5:=Tryz.zeroValue5
 i5:=by kernel_rfl
 t9:=Tryz.underlying9
 a9:=Tryz.isAgg9
 z9:=Tryz.sizeOf9
 v9:=Tryz.zeroValue9
 i9:=by kernel_rfl
 t37:=Tryz.underlying150
 a37:=Tryz.isAgg150
 z37:=Tryz.sizeOf150
 v37:=Tryz.zeroValue150
 i37:=by kernel_rfl
 t47:=Tryz.underlying240
 a47:=Tryz.isAgg240
 z47:=Tryz.sizeOf240
 v47:=Tryz.zeroValue240
 i47:=by kernel_rfl}
end Go.Proofs
namespace Go.Proofs.YtkhnggkkiefcdaaGreatDoor
open Go.RowKit
set_option maxRecDepth 100000
set_option maxHeartbeats 8000000
def XI:String:=(Rows.writesRow.laid.map (fun x=>x.1)).getD 2 ""
def Tab(w:World):Prop:=Lib.TabIs Tryz.prog w XI .u64 Lib.pow10Tab
def Xy(n:Nat):ByteArray:=⟨(Lib.itoa n).toArray⟩
theorem JS(w:World)(b:Array Obj):Fr Nil w (Sort.grow w b):=⟨rfl,rfl,rfl,by simp[Sort.grow],fun k a _=>by simp[Sort.grow,Array.getElem?_append,a]⟩
theorem Mt(n:Nat)(h:n<9223372036854775808)(w:World)(b:Tab w) :
 Calls Tryz.prog 81 #[.int .i64 n] w fun e a=>e=.returned (.string (Xy n))/\Fr Nil w a:=by
 have:=Any.strconv_Itoa Tryz.yo n (by omega) (by omega) w b;refine CO (show Calls Tryz.prog 81 #[.int .i64 n] w _ from this) ?_;rintro e a ⟨rfl,k,c,rfl⟩;exact⟨rfl,((O _ _).drewN k).trans (JS _ c)⟩
def Hnd(w:World):Prop:=w.cell? ⟨0,0,none⟩=some (.iface 309 (.agg #[.pointer (some ⟨6,132,none⟩)]))
def Xz(B:Nat)(w:World):Prop:=Tab w/\(∀ g,Tryz.prog.globalNamed XI=some g->g<B)/\Hnd w/\0<B
theorem Xz.fr{B:Nat}{S:Nat->Prop}{w w':World}(h:Xz B w)(r:B<=w.heap.size)(f:Fr S w w')(e:∀ k,S k->B<=k):Xz B w':=by
 refine⟨?_,h.2.1,(f.cell (by have:=h.2.2.2;show _<_;simp only;omega) (fun hs=>by have:=e _ hs;have:=h.2.2.2;simp only at *;omega)).trans h.2.2.1,h.2.2.2⟩;have c:=h.1;unfold Tab Lib.TabIs World.var? at c |-;cases hg:Tryz.prog.globalNamed XI with
 | none=>rw[hg] at c;simp at c
 | some g =>
  rw[hg] at c;have o:=h.2.1 g hg;simp only[Dv] at c |-;rw[f.block g (by omega) (fun hs=>by have:=e g hs;omega)];exact c
def zg(a:ByteArray)(n:Nat):ByteArray:=a++Xy n
theorem U5(a:ByteArray)(b:a.size<=1000)(n:Nat)(h:n<9223372036854775808)(w:World)(d:Tab w) :
 Calls Tryz.prog 173 #[.string a,.int .i64 n] w fun e j=>e=.returned (.string (zg a n))/\Fr Nil w j:=by
 have c:=Z (Mt n h w d);unfold zg;have hs:(Xy n).size<=21:=by unfold Xy;simpa [ByteArray.size] using Lib.itoa_length_le (n:Int) (by omega) (by omega)
 generalize Xy n=s at c hs |-;have g:(a.size:Int)+s.size<=9223372036854775807:=by omega
 have i:¬(9223372036854775807:Int)<(a.size:Int)+s.size:=by omega
 clear d;go_enter Tryz.func173,Tryz.ntmps173
 go_wp2_with (refine c.out.mono ?_;rintro e k ⟨rfl,f⟩)
 go_ret;exact⟨rfl,f⟩
def zl:ByteArray:=⟨#[108,111,103]⟩
def JM.begin(J:JM)(M:DM)(number f:Nat):Option Int × JM × DM :=
 match (J.Bc M).1 with
 | some n=>(some n,J,(J.Bc M).2)
 | none =>
  if ((J.Bc M).2.create (zg zl number) f).1=0 then
   (none,{J with last:=number,name:=zg zl number,size:=0,Ad:=false,Bm:=false},((J.Bc M).2.create (zg zl number) f).2)
  else(some ((J.Bc M).2.create (zg zl number) f).1,J,((J.Bc M).2.create (zg zl number) f).2)
theorem WZ(B q i:Nat)(J:JM)(L:DL)(M:DM)(number:Nat)(D:number<9223372036854775808)(w:World)(X:JRep w q i J)(V:DRep w i L M)(ht:Xz B w)(hB:B<=w.heap.size)(m:∀ k,Foot i L M k->B<=k)
 (Q:(J.Bc M).2.Bj.length+1<=1000000000000)(R:(J.Bc M).2.dir.length+1<=1000000000000) :
 Calls Tryz.prog 210 #[.pointer (some ⟨q,0,none⟩),.int .i64 number] w fun e w' =>
  ∃ f v L',e=.returned v/\w.heap.size<=f/\ERep w' v (J.begin M number f).1/\JStep q i L M w (J.begin M number f).2.1 L' (J.begin M number f).2.2 w':=by
 have HC:=Z (Vf q i J L M w X V);have HD:=Z V;have HJ:=Z X;have HT:=Z ht;clear V X ht;go_enter Tryz.func210,Tryz.ntmps210;go_wp2_with fail;refine HC.out.mono ?_;rintro e w1 ⟨v1,K,rfl,p,h⟩;have C:JStep q i L M w J K (J.Bc M).2 w1:=JStep.Ak HJ.out HD.out h;have y:Tab w1:=(HT.out.fr hB h.fr m).1;have s:=Z C;have F:=Z p;have a1:=h.fr.size;clear C h HC;cases he:(J.Bc M).1 with
 | some n =>
  have E:∀ f,J.begin M number f=(some n,J,(J.Bc M).2):=by intro f;unfold JM.begin;rw[he]
  have u:=Z E;rw[he] at p F;obtain⟨k,hk⟩:=p;obtain⟨t,b,rfl⟩:=hk.form;clear he E hk
  go_wp2
  go_ret;refine⟨w.heap.size,_,K,rfl,IQ _,?_,?_⟩
  .rw[u.out];exact F.out
  .rw[u.out];exact s.out
 | none =>
  rw[he] at p F;have hv:v1=.nilIface:=p;subst hv;have E:∀ f,J.begin M number f=if ((J.Bc M).2.create (zg zl number) f).1=0 then
   (none,{J with last:=number,name:=zg zl number,size:=0,Ad:=false,Bm:=false},((J.Bc M).2.create (zg zl number) f).2)
   else(some ((J.Bc M).2.create (zg zl number) f).1,J,((J.Bc M).2.create (zg zl number) f).2):=by intro f;unfold JM.begin;rw[he]
  have u:=Z E;clear he E p;go_wp2_with fail;refine(U5 zl (by decide) number D w1 y).mono ?_;rintro e w2 ⟨rfl,l⟩;have d:=s.out.Bq l;have T:w2.cell? ⟨q,0,none⟩=some (.pointer (some ⟨i,0,none⟩)):=d.1.cell 0;have g:=Z d;have a0:=l.size;clear d l y;go_wp2_with fail;refine(P2 (zg zl number) w2 i K (J.Bc M).2 g.out.2.1 Q R).mono ?_;rintro e w3 ⟨f,L3,rfl,hf,j⟩;have a:=g.out.trans (JStep.Ak g.out.1 g.out.2.1 j);have hc:=a.1.cell;have hz:=a.1.frozen;simp only[JM.cells] at hc;have r:=Z a;clear a j T;by_cases o:((J.Bc M).2.create (zg zl number) f).1=0
  .have hp2:=u.out f
   rw[He o] at hp2;have hq:(((J.Bc M).2.create (zg zl number) f).1 != 0)=false:=by simp[o]
   have c:=Z hp2;clear hp2 o
   go_wp2
   go_ret;refine⟨f,_,L3,rfl,by omega,?_,?_⟩
   .rw[c.out];rfl
   .rw[c.out]
    have N:=r.out;have Y:=JStep.set N.1 N.2.1 2 (.int .i64 number) (J':={J with last:=number}) rfl;have s2:=JStep.set Y.1 Y.2.1 3 (.string (zg zl number)) (J':={J with last:=number,name:=zg zl number}) rfl;have s3:=JStep.set s2.1 s2.2.1 4 (.int .i64 0) (J':={J with last:=number,name:=zg zl number,size:=0}) rfl;have s4:=JStep.set s3.1 s3.2.1 5 (.bool false) (J':={J with last:=number,name:=zg zl number,size:=0,Ad:=false}) rfl;have s5:=JStep.set s4.1 s4.2.1 6 (.bool false) (J':={J with last:=number,name:=zg zl number,size:=0,Ad:=false,Bm:=false}) rfl;exact((((N.trans Y).trans s2).trans s3).trans s4).trans s5
  .have hp2:=u.out f
   rw[IV o] at hp2;have hq:(((J.Bc M).2.create (zg zl number) f).1 != 0)=true:=by simp[o]
   have z:Yh ((J.Bc M).2.create (zg zl number) f).1=some ((J.Bc M).2.create (zg zl number) f).1:=by unfold Yh;rw[IV o]
   have c:=Z hp2;have I:=Z z;clear hp2 o z;go_wp2_with fail;refine(Wz _ _ _ w3).mono ?_;rintro e w4 ⟨v4,rfl,x,A⟩;have G:=Z x;have HF:=Z (r.out.Bq A);clear x A
   go_wp2
   go_ret;refine⟨f,_,L3,rfl,by omega,?_,?_⟩
   .rw[c.out];have:=G.out;rw[I.out] at this;exact this
   .rw[c.out];exact HF.out
def JM.fits(J:JM)(a:Nat):Bool:=decide (J.last≠0)&&(!J.Ad&&decide (J.size+a<=J.Bw))
def JM.Be(J:JM)(M:DM)(a f:Nat):Option Int × JM × DM:=if J.fits a=true then(none,J,M) else J.begin M (J.last+1) f
theorem SG(B o l:Nat)(J:JM)(L:DL)(M:DM)(a:Nat)(a0:a<1000000000000)(a1:J.size<1000000000000)(Y:J.last+1<1000000000000)(w:World)(R:JRep w o l J)(X:DRep w l L M)(ht:Xz B w)(z:B<=w.heap.size)(g:∀ k,Foot l L M k->B<=k)
 (x:(J.Bc M).2.Bj.length+1<=1000000000000)(y:(J.Bc M).2.dir.length+1<=1000000000000) :
 Calls Tryz.prog 202 #[.pointer (some ⟨o,0,none⟩),.int .i64 a] w fun e w' =>
  ∃ f v L',e=.returned v/\w.heap.size<=f/\ERep w' v (J.Be M a f).1/\JStep o l L M w (J.Be M a f).2.1 L' (J.Be M a f).2.2 w':=by
 have I:=R.cell;simp only[JM.cells] at I;have t:=Z X;have u:=Z R;have K:=Z ht;clear X R ht;have a2:IntKind.i64.wrap ((J.size:Int)+a)=(J.size:Int)+a:=by rw[Hr];omega
 have a3:IntKind.i64.wrap ((J.last:Int)+1)=(J.last:Int)+1:=by rw[Hr];omega
 cases hfit:J.fits a with
 | true =>
  have G:∀ f,J.Be M a f=(none,J,M):=by intro f;unfold JM.Be;rw[He hfit]
  have m:=Z G;simp only[JM.fits,Gr,Ha,EI] at hfit;obtain⟨E,q,h3⟩:=hfit;have T:decide ((0:Int)<J.last)=true:=by simp;omega
  have N:(0:Int)<J.last:=by omega
  have V:decide ((J.size:Int)+a<=J.Bw)=true:=by simp;omega
  have D:decide (0<J.last)=true:=by simp;omega
  have Q:decide (J.size+a<=J.Bw)=true:=by simp;omega
  rw[q] at I;clear G E q h3;go_enter Cy,Ce;go_wp2_with fail
  go_quiet (fail)
  go_wp2
  go_ret;refine⟨w.heap.size,_,L,rfl,IQ _,?_,?_⟩
  .rw[m.out];rfl
  .rw[m.out];exact JStep.nil u.out t.out (by exact za)
 | false =>
  have G:∀ f,J.Be M a f=J.begin M (J.last+1) f:=by intro f;unfold JM.Be;rw[IV (by rw[hfit];simp)]
  have m:=Z G;clear G;by_cases E:0<J.last
  .have T:decide ((0:Int)<J.last)=true:=by simp;omega
   have N:(0:Int)<J.last:=by omega
   have D:decide (0<J.last)=true:=by simp;omega
   cases q:J.Ad with
   | true =>
    rw[q] at I;clear hfit E q;go_enter Cy,Ce;go_wp2_with fail
    go_quiet (fail)
    go_wp2_with fail;refine(WZ B o l J L M (J.last+1) (by omega) _ (Blk.drewN u.out _) (t.out.nil (by exact za)) (K.out.fr z (S:=Nil) (by exact za) (fun _ h=>absurd h id)) z g x y).mono ?_;rintro e s ⟨f,v2,p,rfl,F,r,d⟩;have A:=Z r;have C:Hid (JStep o l L M w (J.begin M (J.last+1) f).2.1 p (J.begin M (J.last+1) f).2.2 s):=(JStep.nil u.out t.out (by exact za)).trans d;clear r d;go_wp2_with fail;refine(zK _ _ _ s A.out).mono ?_;rintro e w3 ⟨v3,rfl,b,c⟩;have i:=Z b;have j:=Z (C.out.Bq c);clear b c
    go_wp2
    go_ret;refine⟨f,_,p,rfl,F,?_,?_⟩
    .rw[m.out];exact i.out
    .rw[m.out];exact j.out
   | false =>
    have V:decide ((J.size:Int)+a<=J.Bw)=false:=by
     simp only[JM.fits,q,Bool.not_false,Dx,Bool.and_eq_false_iff,Ho] at hfit;simp;omega
    have Q:decide (J.size+a<=J.Bw)=false:=by simp at V |-;omega
    rw[q] at I;clear hfit E q;go_enter Cy,Ce;go_wp2_with fail
    go_quiet (fail)
    go_wp2_with fail;refine(WZ B o l J L M (J.last+1) (by omega) _ (Blk.drewN u.out _) (t.out.nil (by exact za)) (K.out.fr z (S:=Nil) (by exact za) (fun _ h=>absurd h id)) z g x y).mono ?_;rintro e s ⟨f,v2,p,rfl,F,r,d⟩;have A:=Z r;have C:Hid (JStep o l L M w (J.begin M (J.last+1) f).2.1 p (J.begin M (J.last+1) f).2.2 s):=(JStep.nil u.out t.out (by exact za)).trans d;clear r d;go_wp2_with fail;refine(zK _ _ _ s A.out).mono ?_;rintro e w3 ⟨v3,rfl,b,c⟩;have i:=Z b;have j:=Z (C.out.Bq c);clear b c
    go_wp2
    go_ret;refine⟨f,_,p,rfl,F,?_,?_⟩
    .rw[m.out];exact i.out
    .rw[m.out];exact j.out
  .have T:decide ((0:Int)<J.last)=false:=by simp;omega
   have D:decide (0<J.last)=false:=by simp;omega
   clear hfit E;go_enter Cy,Ce;go_wp2_with fail
   go_quiet (fail)
   go_wp2_with fail;refine(WZ B o l J L M (J.last+1) (by omega) _ (Blk.drewN u.out _) (t.out.nil (by exact za)) (K.out.fr z (S:=Nil) (by exact za) (fun _ h=>absurd h id)) z g x y).mono ?_;rintro e s ⟨f,v2,p,rfl,F,r,d⟩;have A:=Z r;have C:Hid (JStep o l L M w (J.begin M (J.last+1) f).2.1 p (J.begin M (J.last+1) f).2.2 s):=(JStep.nil u.out t.out (by exact za)).trans d;clear r d;go_wp2_with fail;refine(zK _ _ _ s A.out).mono ?_;rintro e w3 ⟨v3,rfl,b,c⟩;have i:=Z b;have j:=Z (C.out.Bq c);clear b c
   go_wp2
   go_ret;refine⟨f,_,p,rfl,F,?_,?_⟩
   .rw[m.out];exact i.out
   .rw[m.out];exact j.out
def JM.has(J:JM)(M:DM)(size:Nat):Bool:=((M.size J.name).2==0)&&((M.size J.name).1==(size:Int))
theorem LJ(f g:Nat)(J:JM)(L:DL)(M:DM)(size:Nat)(w:World)(l:JRep w f g J)(p:DRep w g L M) :
 Calls Tryz.prog 204 #[.pointer (some ⟨f,0,none⟩),.int .i64 size] w fun e d=>e=.returned (.bool (J.has M size))/\Fr Nil w d:=by
 have t:w.cell? ⟨f,0,none⟩=some (.pointer (some ⟨g,0,none⟩)):=l.cell 0;have u:w.cell? ⟨f,3,none⟩=some (.string J.name):=l.cell 3;have s:Hid (∀ d,Fr Nil w d->d.cell? ⟨f,0,none⟩=some (.pointer (some ⟨g,0,none⟩))/\d.cell? ⟨f,3,none⟩=some (.string J.name)):=by
  intro d v;have:=(Blk.fr l v id).cell;exact⟨by rw[this];rfl,by rw[this];rfl⟩
 have r:=Z p;unfold JM.has;clear l p;go_enter Tryz.func204,Tryz.ntmps204;go_wp2_with fail
 go_region_held3 (fun d=>d.cell? ⟨f,0,none⟩=some (.pointer (some ⟨g,0,none⟩))/\d.cell? ⟨f,3,none⟩=some (.string J.name)) (first|assumption|go_keep)
  (first
  | (go_at_call 188;refine(To J.name _ g L M (r.out.nil za)).mono ?_;rintro e q ⟨rfl,o⟩;have c:Fr Nil w q:=Fr.trans za o;have x:=s.out q c))
 generalize j:(M.size J.name).2=a;generalize k:(M.size J.name).1=b;have h:=Z j;have i:=Z k;clear j k;cases ha:(a==0) with
 | true =>
  have m:=Z ha
  go_wp2
  go_ret;rw[h.out,i.out,m.out];exact⟨by simp,c⟩
 | false =>
  have m:=Z ha
  go_wp2
  go_ret;rw[h.out,i.out,m.out];exact⟨by simp,c⟩
def JM.BL(J:JM)(M:DM)(a:ByteArray):Bool × Option Int × JM × DM :=
 if (M.add J.name a).1=0 then(true,none,{J with size:=J.size+a.size},(M.add J.name a).2)
 else if J.has (M.add J.name a).2 (J.size+a.size)=true then(true,some (M.add J.name a).1,{J with size:=J.size+a.size},(M.add J.name a).2)
 else(false,some (M.add J.name a).1,J,(M.add J.name a).2)
def JM.append(J:JM)(M:DM)(a:ByteArray)(f:Nat):Bool × Option Int × JM × DM :=
 match (J.Be M a.size f).1 with
 | some n=>(false,some n,(J.Be M a.size f).2.1,(J.Be M a.size f).2.2)
 | none=>(J.Be M a.size f).2.1.BL (J.Be M a.size f).2.2 a
theorem X9(B u x:Nat)(J:JM)(L:DL)(M:DM)(a:ByteArray)(b5:a.size<1000000000000)(b7:J.size<1000000000000)(a9:J.last+1<1000000000000)(w:World)(hj:JRep w u x J)(hd:DRep w x L M)(ht:Xz B w)(hB:B<=w.heap.size)(a1:∀ k,Foot x L M k->B<=k)
 (b3:(J.Bc M).2.Bj.length+1<=1000000000000)(b4:(J.Bc M).2.dir.length+1<=1000000000000)
 (q:∀ f,w.heap.size<=f->0<=(J.Be M a.size f).2.2.part/\(J.Be M a.size f).2.1.size<1000000000000/\∀ g,g∈(J.Be M a.size f).2.2.ids->((J.Be M a.size f).2.2.file g).bytes.length<=1000000000000) :
 Calls Tryz.prog 164 #[.pointer (some ⟨u,0,none⟩),.string a] w fun e w' =>
  ∃ f v L',e=.returned (.tuple #[.bool (J.append M a f).1,v])/\w.heap.size<=f/\ERep w' v (J.append M a f).2.1/\JStep u x L M w (J.append M a f).2.2.1 L' (J.append M a f).2.2.2 w':=by
 have HM:=Z (SG B u x J L M a.size b5 b7 a9 w hj hd ht hB a1 b3 b4);have b0:=Z q;clear hd hj ht q;go_enter Tryz.func164,Tryz.ntmps164;go_wp2_with fail;refine HM.out.mono ?_;rintro e w1 ⟨f,v1,L1,rfl,N,hE,p⟩;have q:=b0.out f N;have G:∀ n,(J.Be M a.size f).1=some n->J.append M a f=(false,some n,(J.Be M a.size f).2.1,(J.Be M a.size f).2.2):=by intro n h;unfold JM.append;rw[h]
 have F:(J.Be M a.size f).1=none->J.append M a f=(J.Be M a.size f).2.1.BL (J.Be M a.size f).2.2 a:=by intro h;unfold JM.append;rw[h]
 generalize a7:(J.Be M a.size f).2.1=c at q p G F;generalize a8:(J.Be M a.size f).2.2=j at q p G F;have C:=Z p;have T:=Z q;cases he:(J.Be M a.size f).1 with
 | some n =>
  rw[he] at hE;have hp:=G n he;have z:=Z hp;have HE:=Z hE;obtain⟨k,hk⟩:=hE;obtain⟨t,b,rfl⟩:=hk.form;clear he hp hk p a7 a8 q G F
  go_wp2
  go_ret2;refine⟨f,.iface t (.pointer (some ⟨b,0,none⟩)),L1,?_,N,?_,?_⟩
  ·(rw[z.out]) <;> rfl
  .rw[z.out];exact HE.out
  .rw[z.out];exact C.out
 | none =>
  rw[he] at hE;have hp:=F he;have hv:v1=.nilIface:=hE;subst hv;have c0:w1.cell? ⟨u,0,none⟩=some (.pointer (some ⟨x,0,none⟩)):=p.1.cell 0;have c1:w1.cell? ⟨u,3,none⟩=some (.string c.name):=p.1.cell 3;have z:=Z hp;have HK:Hid (∀ wx w' L',DStep x L1 j wx L' (j.add c.name a).2 w'->Fr Nil w1 wx->w'.cell? ⟨u,0,none⟩=some (.pointer (some ⟨x,0,none⟩))/\w'.cell? ⟨u,3,none⟩=some (.string c.name)):=by
   intro wx w' L' I N;have:=((Blk.fr p.1 N id).step (p.2.1.nil N) I (by unfold DTy;decide)).cell;exact⟨by rw[this];rfl,by rw[this];rfl⟩
  clear he hp hE p a7 a8 q G F;go_wp2_with fail
  go_region_held3 (fun w'=>w'.cell? ⟨u,0,none⟩=some (.pointer (some ⟨x,0,none⟩))/\w'.cell? ⟨u,3,none⟩=some (.string c.name)) (first|assumption|go_keep)
   (first
   | (go_at_call 166;refine(Wz _ _ _ _).mono ?_;rintro e w3 ⟨v3,rfl,d,a0⟩;have b8:w3.cell? ⟨u,0,none⟩=some (.pointer (some ⟨x,0,none⟩))/\w3.cell? ⟨u,3,none⟩=some (.string c.name):=HK.out _ _ _ (a5.out.Bq (Fr.trans za a0)) (O _ _);have a2:=Z d;have b2:Hid (Fr Nil w2 w3):=Fr.trans za a0;clear d a0)
   | (go_at_call 203;refine(P3 c.name a _ x L1 j (C.out.2.1.nil za) T.out.1 (by omega) T.out.2.2).mono ?_;rintro e w2 ⟨rfl,K,I⟩;have c3:=HK.out _ _ _ I za;have a5:Hid (DStep x L1 j w1 K (j.add c.name a).2 w2):=I.of za;clear I))
  have m:=C.out.trans ((JStep.Ak C.out.1 C.out.2.1 a5.out).Bq b2.out);have b9:=T.out.2.1;have A:=Z m;have hc:=m.1.cell;have hz:=m.1.frozen;simp only[JM.cells] at hc;have c2:IntKind.i64.wrap ((c.size:Int)+a.size)=(c.size:Int)+a.size:=by rw[Hr];omega
  have R:JStep u x K (j.add c.name a).2 w3 {c with size:=c.size+a.size} K (j.add c.name a).2 (w3.setCell ⟨u,4,none⟩ (.int .i64 ((c.size:Int)+a.size))) :=
   JStep.set m.1 m.2.1 4 (.int .i64 ((c.size:Int)+a.size)) (J':={c with size:=c.size+a.size}) (by simp[JM.cells])
  have a4:=Z R;clear b8 m R;by_cases Q:(j.add c.name a).1=0
  .have d:=a2.out
   unfold Yh at d;rw[He Q] at d;have hv:v3=.nilIface:=d;subst hv;have s:c.BL j a=(true,none,{c with size:=c.size+a.size},(j.add c.name a).2):=by unfold JM.BL;rw[He Q]
   have i:=Z s;clear s Q d;go_wp2_with fail;refine(zK _ _ none _ rfl).mono ?_;rintro e w4 ⟨v4,rfl,a6,l⟩;have b1:=Z a6;have HF:=Z ((A.out.trans a4.out).Bq l);clear a6 l
   go_wp2
   go_ret2;refine⟨f,v4,K,?_,N,?_,?_⟩
   ·(rw[z.out,i.out]) <;> rfl
   .rw[z.out,i.out];exact b1.out
   .rw[z.out,i.out];exact HF.out
  .have d:=a2.out
   unfold Yh at d;rw[IV Q] at d;have a3:=Z d;obtain⟨k,hk⟩:∃ k,ZU w3 (j.add c.name a).1 k v3:=d;obtain⟨t,b,rfl⟩:=hk.form;have HH:=Z (LJ u x c K (j.add c.name a).2 (c.size+a.size) w3 A.out.1 A.out.2.1);have o:((c.size+a.size:Nat):Int)=(c.size:Int)+a.size:=by omega
   cases hh:c.has (j.add c.name a).2 (c.size+a.size) with
   | true =>
    have s:c.BL j a=(true,some (j.add c.name a).1,{c with size:=c.size+a.size},(j.add c.name a).2):=by unfold JM.BL;rw[IV Q,He hh]
    have i:=Z s;rw[hh] at HH;rw[o] at HH;clear s Q hk hh o;go_wp2_with fail;refine HH.out.mono ?_;rintro e w4 ⟨rfl,l⟩;have r:=A.out.Bq l;have b6:=r.1.cell;have c4:=r.1.frozen;simp only[JM.cells] at b6;have y:JStep u x K (j.add c.name a).2 w4 {c with size:=c.size+a.size} K (j.add c.name a).2 (w4.setCell ⟨u,4,none⟩ (.int .i64 ((c.size:Int)+a.size))) :=
     JStep.set r.1 r.2.1 4 (.int .i64 ((c.size:Int)+a.size)) (J':={c with size:=c.size+a.size}) (by simp[JM.cells])
    have V:=Z (ERep.yp (a3.out.fr l (XM.nil _)) r.1 r.2.1 y);have Y:=Z (r.trans y);clear r y l hc hz;go_wp2_with fail;refine(zK _ _ _ _ V.out).mono ?_;rintro e w5 ⟨v5,rfl,D,E⟩;have X:=Z D;have HF:=Z (Y.out.Bq E);clear D E
    go_wp2
    go_ret2;refine⟨f,v5,K,?_,N,?_,?_⟩
    ·(rw[z.out,i.out]) <;> rfl
    .rw[z.out,i.out];exact X.out
    .rw[z.out,i.out];exact HF.out
   | false =>
    have s:c.BL j a=(false,some (j.add c.name a).1,c,(j.add c.name a).2):=by unfold JM.BL;rw[IV Q,IV (by rw[hh];simp)]
    have i:=Z s;rw[hh] at HH;rw[o] at HH;clear s Q hk hh o;go_wp2_with fail;refine HH.out.mono ?_;rintro e w4 ⟨rfl,l⟩;have V:=Z (a3.out.fr l (XM.nil _));have Y:=Z (A.out.Bq l);clear l;go_wp2_with fail;refine(zK _ _ _ _ V.out).mono ?_;rintro e w5 ⟨v5,rfl,D,E⟩;have X:=Z D;have HF:=Z (Y.out.Bq E);clear D E
    go_wp2
    go_ret2;refine⟨f,v5,K,?_,N,?_,?_⟩
    ·(rw[z.out,i.out]) <;> rfl
    .rw[z.out,i.out];exact X.out
    .rw[z.out,i.out];exact HF.out
theorem T0:((Tryz.prog.info? 75).map fun i=>(i.zero.map (·.cells.size),i.size,i.bytes))=some (some 2,2,24):=by kernel_rfl
theorem U6(a b:List (Nat × ByteArray)):zJ (a++b)=zJ a++zJ b:=by simp[zJ]
theorem OR(l:List (Nat × ByteArray)):Yg 2 0 (zJ l)=zJ (l.drop 1):=by
 cases l with
 | nil=>rfl
 | cons e l=>simp[Yg,zJ]
theorem SRep.hints{w w' w2:World}{b:Nat}{L:SL}{S:SM}{d:Value}{hs:List (Nat × ByteArray)}(h:SRep w b L S)(f:Fr (fun k=>L.hv.ownBlock=some k) w w')(C:w'.ownsRow 0 75 2 d hs.length (zJ hs))
 (B:∀ k,d.ownBlock=some k->L.hv.ownBlock=some k\/w.heap.size<=k)(z:Fr Nil (w'.setCell ⟨b,1,none⟩ d) w2):SStep w b L {S with hints:=hs} Nil w2:=by
 have r:∀ {k},L.hv.ownBlock=some k->k≠b:=fun c e=>zd h.hint h.CY (by decide) (by rw[c,e]);have i:Blk w' b [L.kv,L.hv,.int .i64 S.Ba] 161:=h.CY.fr f (fun e=>r e rfl);have A:=h.CY.lt;have x:∀ k,d.ownBlock=some k->k≠b:=by
  intro k c e;rcases B k c with o|o
  .exact r o e
  .omega
 have t:Fr (fun k=>k=b) w' (w'.setCell ⟨b,1,none⟩ d):=Fr.set (S:=fun k=>k=b) (O _ _) (fun _=>rfl) _;have g:Wf w' L.kv L.BR:=h.Ah.fr f (fun k c e=>Zc h.Ah.own h.hint (by decide) c e);have j:Pair (VRow w') L.BR S.keys:=h.pair.mono (fun a _ l s=>VRow.fr s f (fun k c e=>Zc s h.hint (by decide) c e));have y:SRep (w'.setCell ⟨b,1,none⟩ d) b {L with hv:=d} {S with hints:=hs} :=
  ⟨i.set 1 _,g.fr t (fun k c e=>zd g.own i (by decide) (by rw[c,e])),j.mono (fun a _ l s=>VRow.fr s t (fun k c e=>zd s i (by decide) (by rw[c,e]))),zb C t x⟩
 refine⟨{L with hv:=d},y.nil z,?_,fun k c=>?_,fun k c=>.inl c⟩
 .refine((f.mono (fun k _ e=>.inr (.inr e))).trans' t (fun k _ e=>.inl e)).trans (z.mono (fun _ _ e=>absurd e id))
 .rcases c with c|c|c
  .exact .inl (.inl c)
  .exact .inl (.inr (.inl c))
  .rcases B k c with o|o
   .exact .inl (.inr (.inr o))
   .exact .inr o
theorem Pc(b:Nat)(L:SL)(S:SM)(w:World)(h:SRep w b L S)(A:S.hints.length<1000000) :
 Calls Tryz.prog 275 #[.agg #[],.pointer (some ⟨b,0,none⟩)] w fun e Q=>e=.returned (.tuple #[])/\SStep w b L {S with hints:=S.hints.drop 1} Nil Q:=by
 have q:Fr Nil w (w.alloc (.cells #[] 135)):=(O _ _).alloc _;have r:=h.nil q;obtain⟨V,F,i⟩:=zc h.hint;have x:∀ k,(w.alloc (.cells #[] 135)).cell? ⟨b,k,none⟩=[L.kv,L.hv,.int .i64 S.Ba][k]?:=fun k=>r.CY.cell k;rw[i] at x;have T:=Z h;have l:=Z r;have u:=Z i;clear h r i;by_cases B:S.hints.length=0
 .have hnil:S.hints=[]:=Hm B
  have m:({S with hints:=S.hints.drop 1}:SM)=S:=by obtain⟨a,b,c⟩:=S;simp only at hnil;subst hnil;rfl
  rw[m];have t:¬(0:Int)<S.hints.length:=by omega
  clear m hnil B;go_enter Tryz.func275,Tryz.ntmps275
  go_wp2
  exact GC (v:=.tuple #[]) (by simp[results,go_sem]) rfl ⟨rfl,L,l.out,q.mono (fun _ _ e=>absurd e id),fun k j=>.inl j,fun k j=>.inl j⟩
 .have t:(0:Int)<S.hints.length:=by omega
  go_enter Tryz.func275,Tryz.ntmps275;go_wp2_with fail;have s:=l.out.hint;rw[u.out] at s;refine(RW _ S.hints.length 0 (zJ S.hints) _ s (WN _) (by omega)).mono ?_;rintro e w2 ⟨X,rfl,p,d,g⟩;rw[OR] at d;have z:(S.hints.drop 1).length=S.hints.length-1:=by simp
  rw[<- z] at d;rw[<- u.out] at g p;have o:=fun R E=>l.out.hints (w2:=R) g d (fun k j=>.inl (by rw[<- p];exact j)) E;have f:=l.out.CY.fr g (fun e=>zd l.out.hint l.out.CY (by decide) e);have G:=f.cell;have I:=f.frozen;have C:=Z o;obtain⟨Y,vc,rfl⟩:=zc d;clear o s d f x
  go_wp2
  have y:=C.out _ (O _ _);rw[z] at y;obtain⟨D,J,K,M,N⟩:=y;exact GC (v:=.tuple #[]) (by simp[results,go_sem]) rfl ⟨rfl,D,J,q.mono (fun _ _ e=>absurd e id) |>.trans K,fun k j=>(M k j).imp id (fun h=>IP q.size h),N⟩
theorem Pd(w:World)(v:Value)(n:Nat)(q:List Value)(h:w.ownsRow 0 75 2 v n q)(p:Nat)(a:ByteArray)(z:n<1000000)(g:World)(l:Fr Nil w g)(N:Nat)(t:Blk g N [.int .i64 p,.string a] 75)(ty:TypeId) :
 ∃ c d,(Builtin.append_ #[66,66] ty #[v,.slice (some ⟨N,0,none⟩) 1 1]).run Tryz.prog g=.ok c d /\
  (d.ownsRow 0 75 2 c (n+1) (q++[.int .i64 p,.string a])/\Fr (fun k=>v.ownBlock=some k) w d/\(∀ k,c.ownBlock=some k->v.ownBlock=some k\/w.heap.size<=k)):=by
 have x:=zb h l (fun _ _=>id);obtain⟨c,d,y,r,s,b⟩:=zt (P:=Tryz.prog) 66 ty 75 2 24 FA T0 (by omega) v n q x ⟨N,0,none⟩ 1 1 [.int .i64 p,.string a] rfl
  (fun j u f=>by rw[Gh,Gg,t.cell];exact f) (by intro u f;simp at f;rcases f with rfl|rfl <;> rfl) (by unfold maxLen;omega) (by omega)
 refine⟨c,d,y,r,(l.mono (fun _ _ e=>absurd e id)).trans' ((Fr.Bv s).mono (fun i _ h=>h)) (fun i _ h=>h),fun k o=>?_⟩;rcases b with b|b
 .exact .inl (by rw[<- b];exact o)
 .rw[b] at o;simp at o;have:=l.size;exact .inr (by omega)
theorem RX(c:Nat)(a:ByteArray)(b:Nat)(L:SL)(S:SM)(w:World)(h:SRep w b L S)(q:S.hints.length<1000000) :
 Calls Tryz.prog 283 #[.agg #[.int .i64 c,.string a],.pointer (some ⟨b,0,none⟩)] w fun e w'=>e=.returned (.tuple #[])/\SStep w b L {S with hints:=S.hints++[(c,a)]} Nil w':=by
 have x:Fr Nil w (w.alloc (.cells #[.int .i64 c,.string a] 138)):=(O _ _).alloc _;have d:Blk (w.alloc (.cells #[.int .i64 c,.string a] 138)) w.heap.size [.int .i64 c,.string a] 138:=Blk.new w [.int .i64 c,.string a] _;have g:=h.nil x;obtain⟨N,K⟩:∃ N,w.heap.size=N:=⟨_,rfl⟩;obtain⟨T,C,i⟩:=zc h.hint;go_enter Tryz.func283,Tryz.ntmps283;go_wp2_with fail;rw[K] at d;obtain⟨j,t⟩:∃ j,w.alloc (.cells #[.int .i64 c,.string a] 138)=j:=⟨_,rfl⟩;rw[t] at d x g |-;clear t K;have V:∀ k,j.cell? ⟨b,k,none⟩=[L.kv,L.hv,.int .i64 S.Ba][k]?:=fun k=>g.CY.cell k;have hz:∀ k,j.frozen? ⟨b,k,none⟩=false:=fun k=>g.CY.frozen k;have hx:∀ k,j.cell? ⟨N,k,none⟩=[.int .i64 c,.string a][k]?:=fun k=>d.cell k;have D:∀ (o:Obj) k,(j.alloc o).cell? ⟨b,k,none⟩=[L.kv,L.hv,.int .i64 S.Ba][k]?:=fun o k=>(g.CY.alloc o).cell k;have a0:∀ (o:Obj) k,(j.alloc o).cell? ⟨N,k,none⟩=[.int .i64 c,.string a][k]?:=fun o k=>(d.alloc o).cell k;rw[i] at V D;have y:=g.hint;rw[i] at y;have Q:=Z y;have z:Hid (∀ u:World,Fr (fun k=>(Value.slice T S.hints.length C).ownBlock=some k) j u->Blk u b [L.kv,L.hv,.int .i64 S.Ba] 161):=fun u f=>g.CY.fr f (zd y g.CY (by decide));have M:=Z g;have HH:=Z h;have J:=Z i;clear h g i d y
 go_region_law
  ((refine Zf (by rfl) _ _ _ _ (by rfl) _ _ (by rfl) (by rfl) (Pd j _ _ _ Q.out c a q _ za _ (by first|exact Blk.new _ [_,_] _|exact(Blk.new _ [_,_] _).drew) _) ?_;rintro v4 u ⟨m,l,r⟩;obtain⟨G,I,F⟩:=zc m;subst F;have p:=z.out _ l;have X:=p.cell;have a1:=p.frozen;have B:=Z m;have A:=Z r;clear m r))
 all_goals
  go_wp2
  have hl:(S.hints++[(c,a)]).length=S.hints.length+1:=by simp
  have E:u.ownsRow 0 75 2 (.slice G (S.hints.length+1) I) (S.hints++[(c,a)]).length (zJ (S.hints++[(c,a)])):=by
   rw[hl,U6];exact B.out
  rw[<- J.out] at l;have s:=A.out;rw[<- J.out] at s;obtain⟨R,q1,q2,q3,q4⟩:=M.out.hints (w2:=_) l E s (O _ _);exact GC (v:=.tuple #[]) (by simp[results,go_sem]) rfl ⟨rfl,R,q1,(x.mono (fun _ _ e=>absurd e id)).trans q2,fun k Y=>(q3 k Y).imp id (fun h=>IP x.size h),q4⟩
end Go.Proofs.YtkhnggkkiefcdaaGreatDoor
