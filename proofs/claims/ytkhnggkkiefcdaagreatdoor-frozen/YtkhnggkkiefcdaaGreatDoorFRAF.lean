/- larder: joined texts -/
import Derived.Test.YtkhnggkkiefcdaaGreatDoorFRAC
import Derived.Test.YtkhnggkkiefcdaaGreatDoorFRAE
import Derived.Test.YtkhnggkkiefcdaaGreatDoorChecked
import Derived.Lib.LazyBuf
namespace Go.Proofs.YtkhnggkkiefcdaaGreatDoor
open Go.RowKit
set_option maxRecDepth 100000
set_option maxHeartbeats 8000000
def SM.holds(S:SM)(a:ByteArray)(l:List Ver):SM:={S with keys:=if l=[] then ZR S.keys a else Zm S.keys a l}
theorem SRep.kept{w f:World}{b:Nat}{L:SL}{S:SM}{a:List (ByteArray × Value)}{keys:List (ByteArray × List Ver)}(h:SRep w b L S)(o:ZM w b 161 L.kv [L.hv,.int .i64 S.IQ] a f)
 (m:Pair (VRow f) a keys)(X:Nat->Prop)(p:∀ k,(∃ e∈a,e.2.ownBlock=some k)->SRead L k\/X k):SStep w b L {S with keys:=keys} X f:=by
 obtain⟨q,i,j,g,l⟩:=o;have d:∀ {k},L.hv.ownBlock=some k->k≠b:=fun c e=>zf h.hint h.IR (by decide) (by rw[c,e]);refine⟨{L with kv:=q,Gi:=a},⟨i,j,m,za h.hint g (fun k c e=>?_)⟩,g.mono (fun k _ e=>e.imp id .inl),fun k c=>?_,fun k c=>p k c⟩
 .rcases e with e|e
  .exact d c e
  .exact zN h.hint h.GT.own (by decide) c e
 .rcases c with c|c|c
  .exact .inl (.inl c)
  .rcases l k c with h1|h1
   .exact .inl (.inr (.inl h1))
   .exact .inr h1
  .exact .inl (.inr (.inr c))
theorem ZM.FL{w f:World}{b:Nat}{L:SL}{S:SM}{a:List (ByteArray × Value)}(h:SRep w b L S)(i:ZM w b 161 L.kv [L.hv,.int .i64 S.IQ] a f){v:Value}{l:List Ver}(c:VRow w v l):VRow f v l:=by
 obtain⟨p,j,m,g,o⟩:=i;refine VRow.fr c g (fun k d e=>?_);rcases e with e|e
 .exact zf c h.IR (by decide) (by rw[d,e])
 .exact zN c h.GT.own (by decide) d e
theorem ZM.of{w d c:World}{b:Nat}{t:TypeId}{v:Value}{a:List Value}{l:List (ByteArray × Value)}(h:ZM d b t v a l c)(f:Fr Nil w d):ZM w b t v a l c:=by
 obtain⟨p,g,i,j,o⟩:=h;exact⟨p,g,i,(f.mono (fun _ _ e=>absurd e id)).trans j,fun k m=>(o k m).imp id (fun h=>NR f.size h)⟩
theorem SStep.of{w c a:World}{b:Nat}{L:SL}{S:SM}{X:Nat->Prop}(h:SStep c b L S X a)(f:Fr Nil w c):SStep w b L S X a:=by
 obtain⟨d,i,j,l,m⟩:=h;exact⟨d,i,(f.mono (fun _ _ e=>absurd e id)).trans j,fun k g=>(l k g).imp id (fun h=>NR f.size h),m⟩
theorem Sm(c:ByteArray)(Y:Value)(l:List Ver)(b:Nat)(L:SL)(S:SM)(w:World)(h:SRep w b L S)(hl:VRow w Y l)(J:S.keys.length<1099511627776) :
 Calls Tryz.prog 287 #[.agg #[.string c,Y],.pointer (some ⟨b,0,none⟩)] w fun e C=>e=.returned (.tuple #[])/\SStep w b L (S.holds c l) (fun k=>Y.ownBlock=some k) C:=by
 obtain⟨i,j,rfl⟩:=zd hl;have A:Fr Nil w (w.alloc (.cells #[.string c,.slice i l.length j] 193)):=(O _ _).alloc _;have d:Blk (w.alloc (.cells #[.string c,.slice i l.length j] 193)) w.heap.size [.string c,.slice i l.length j] 193:=Blk.new w [.string c,.slice i l.length j] _;have u:=h.nil A;have t:VRow (w.alloc (.cells #[.string c,.slice i l.length j] 193)) (.slice i l.length j) l:=VRow.fr hl A (fun _ _=>id);have I:L.Gi.length<1099511627776:=by rw[h.pair.length];exact J
 by_cases B:l=[]
 .have hz0:((l.length:Int)==0)=true:=by rw[B];rfl
  have F:S.holds c l={S with keys:=ZR S.keys c}:=by simp[SM.holds,B]
  rw[F];clear B F;go_enter Tryz.func287,Tryz.ntmps287;go_wp2_with fail;obtain⟨N,E⟩:∃ N,w.heap.size=N:=⟨_,rfl⟩;rw[E] at d |-;obtain⟨m,s⟩:∃ m,w.alloc (.cells #[.string c,.slice i l.length j] 193)=m:=⟨_,rfl⟩;rw[s] at d A u t |-;clear s E;have R:m.cell? ⟨N,0,none⟩=some (.string c):=by rw[d.cell];rfl
  have x:Hid (∀ z o:World,Fr Nil m z->ZM z b 161 L.kv [L.hv,.int .i64 S.IQ] (Yc L.Gi c) o->o.cell? ⟨N,0,none⟩=some (.string c)):=by
   rintro z o f ⟨v',_,_,Q,_⟩;have D:=u.nil f;have y:=d.fr f id;rw[(y.fr Q (fun e=>?_)).cell];rfl;rcases e with e|e
   .exact y.ne D.IR (by decide) e
   .exact zf D.GT.own y (by decide) e
  have q:=Z u;have HH:=Z h;clear h u d
  go_region_held3 (fun C=>C.cell? ⟨N,0,none⟩=some (.string c)) (first|go_keep|assumption)
   (first
   | (go_at_call 290;refine(UY L.kv _ L.Gi c b _ _ ((q.out.nil z8).IR) (by decide) ((q.out.nil z8).GT) I).mono ?_;rintro e o ⟨rfl,g⟩;have X:=x.out _ _ z8 g;have p:=Z (show ZM m _ _ _ _ _ o from g.of z8);clear g))
  have r:SStep m b L {S with keys:=ZR S.keys c} (fun k=>(Value.slice i l.length j).ownBlock=some k) o :=
   q.out.kept p.out ((q.out.pair.mono (fun a _ l V=>ZM.FL q.out p.out V)).del c) _ (fun k ⟨e,T,K⟩=>.inl ⟨e,S6 e T,K⟩)
  have M:=Z (r.of A);clear r
  go_wp2
  exact KR (v:=.tuple #[]) (by simp[results,go_sem]) rfl ⟨rfl,M.out⟩
 .have hz0:((l.length:Int)==0)=false:=by
   have:l.length≠0:=fun e=>B (Mi e);simp;omega
  have F:S.holds c l={S with keys:=Zm S.keys c l}:=by simp[SM.holds,B]
  rw[F];clear B F;go_enter Tryz.func287,Tryz.ntmps287;go_wp2_with fail;obtain⟨N,E⟩:∃ N,w.heap.size=N:=⟨_,rfl⟩;rw[E] at d |-;obtain⟨m,s⟩:∃ m,w.alloc (.cells #[.string c,.slice i l.length j] 193)=m:=⟨_,rfl⟩;rw[s] at d A u t |-;clear s E;have R:m.cell? ⟨N,0,none⟩=some (.string c):=by rw[d.cell];rfl
  have a0:m.cell? ⟨N,1,none⟩=some (.slice i l.length j):=by rw[d.cell];rfl
  have x:Hid (∀ z o:World,Fr Nil m z->ZM z b 161 L.kv [L.hv,.int .i64 S.IQ] (ZB L.Gi c (.slice i l.length j)) o->o.cell? ⟨N,0,none⟩=some (.string c)/\o.cell? ⟨N,1,none⟩=some (.slice i l.length j)):=by
   rintro z o f ⟨v',_,_,Q,_⟩;have D:=u.nil f;have y:=d.fr f id;have G:=y.fr Q (fun e=>by
    rcases e with e|e
    .exact y.ne D.IR (by decide) e
    .exact zf D.GT.own y (by decide) e)
   exact⟨by rw[G.cell];rfl,by rw[G.cell];rfl⟩
  have q:=Z u;have HH:=Z h;have HL:=Z t;clear h u d t
  go_region_held3 (fun C=>C.cell? ⟨N,0,none⟩=some (.string c)/\C.cell? ⟨N,1,none⟩=some (.slice i l.length j)) (first|go_keep|assumption)
   (first
   | (go_at_call 291;refine(Qr L.kv _ L.Gi c i _ j b _ _ ((q.out.nil z8).IR) (by decide) ((q.out.nil z8).GT) I).mono ?_;rintro e o ⟨rfl,g⟩;have X:=x.out _ _ z8 g;have p:=Z (show ZM m _ _ _ _ _ o from g.of z8);clear g))
  have r:SStep m b L {S with keys:=Zm S.keys c l} (fun k=>(Value.slice i l.length j).ownBlock=some k) o :=
   q.out.kept p.out ((q.out.pair.mono (fun a _ l V=>ZM.FL q.out p.out V)).set c (ZM.FL q.out p.out HL.out)) _ (fun k ⟨e,T,K⟩=>by
    rcases Ok e T with h|h
    .exact .inl ⟨e,h,K⟩
    .subst h;exact .inr K)
  have M:=Z (r.of A);clear r
  go_wp2
  exact Lo (v:=.tuple #[]) (by simp[results,go_sem]) rfl ⟨rfl,M.out⟩
theorem Nz:((Tryz.prog.info? 75).map fun i=>(i.zero.map (·.cells.size),i.size,i.bytes))=some (some 2,2,24):=by kernel_rfl
theorem Sn(v:Value)(n:Nat)(o:List Value)(w:World)(d:w.ownsRow 0 75 2 v n o)(F:∀ u∈o,u.oneCell'=true)(C:n*24<=140737488355328) :
 Calls Tryz.prog 128 #[v] w fun e f =>
  ∃ b,e=.returned b/\f.ownsRow 0 75 2 b n o/\Fr Nil w f/\(∀ k,b.ownBlock=some k->w.heap.size<=k):=by
 have M:∀ (w:World) (a:Option Addr) (n c:Nat),(binOp .eql 66 (.slice a n c) (.slice none 0 0)).run Tryz.prog w=.ok (.bool a.isNone) w:=fun w a n c=>by exact Lib.run_eql_slice_nil (h:=KI) ..
 rcases ZK d with⟨rfl,rfl,rfl⟩|⟨g,r,c,rfl,D,Q,z,I,L⟩
 .go_enter Tryz.func128,Tryz.ntmps128
  go_wp2
  go_ret;exact⟨_,rfl,Mo w 0 _ _,O _ _,fun k q=>by simp[Value.ownBlock] at q⟩
 .have hl:=d.1
  have y:Blk (w.alloc (.cells #[] 75)) w.heap.size [] 75:=Blk.new w [] _;have t:(w.alloc (.cells #[] 75)).ownsRow 0 75 2 (.slice (some ⟨w.heap.size,0,none⟩) 0 0) 0 []:=ZQ y (NS _) (Me _) (by simp) (by simp);have m:∀ j u,o[j]?=some u->(w.alloc (.cells #[] 75)).cell? ((⟨g,0,none⟩:Addr).add j)=some u:=by
   intro j u B;have J:=(Md.1 B).1;rw[MK,MD,(D.alloc _).cell];rw[<- L,MS (by omega)] at B;exact B
  have x:∀ ty,∃ b f,(Builtin.append_ #[66,66] ty #[.slice (some ⟨w.heap.size,0,none⟩) 0 0,.slice (some ⟨g,0,none⟩) n r]).run Tryz.prog (w.alloc (.cells #[] 75))=.ok b f/\App (w.alloc (.cells #[] 75)) (.slice (some ⟨w.heap.size,0,none⟩) 0 0) 75 2 (0+n) ([]++o) b f:=fun ty =>
   zn (P:=Tryz.prog) 66 ty 75 2 24 KI Nz (by omega) _ 0 [] t ⟨g,0,none⟩ n r o hl m F (by unfold maxLen at *;omega) (by omega)
  have l:∀ b f,App (w.alloc (.cells #[] 75)) (.slice (some ⟨w.heap.size,0,none⟩) 0 0) 75 2 (0+n) ([]++o) b f ->
   ∃ p,Ending.returned b=.returned p/\f.ownsRow 0 75 2 p n o/\Fr Nil w f/\(∀ k,p.ownBlock=some k->w.heap.size<=k):=by
   rintro b f ⟨K,A,s⟩;refine⟨b,rfl,by simpa using K,((O Nil w).alloc _).trans' ((Fr.Ho A).mono (fun i _ h=>h)) (fun i N h=>?_),fun k q=>?_⟩
   .simp[Value.ownBlock] at h;omega
   .rcases s with s|s
    .rw[s] at q;simp[Value.ownBlock] at q;omega
    .rw[s] at q;simp at q;omega
  have E:=Z l;clear l m t y d D;unfold maxLen at z;go_enter Tryz.func128,Tryz.ntmps128
  go_wp2_with (at_builtin;go_must (refine zL rfl _ _ _ _ rfl _ _ (by rfl) (by rfl) (x _) ?_);rintro b f G)
  go_ret;exact E.out _ _ G
abbrev Fact:=Sum Nat (Sum (ByteArray × List Ver) (Sum (Nat × ByteArray) Unit))
def FRep(w:World)(a:Value):Fact->Prop
 | .inl n=>a=.iface 220 (.agg #[.int .i64 n])
 | .inr (.inl x)=>∃ b,a=.iface 193 (.agg #[.string x.1,b])/\VRow w b x.2
 | .inr (.inr (.inl x))=>a=.iface 138 (.agg #[.int .i64 x.1,.string x.2])
 | .inr (.inr (.inr _))=>a=.iface 135 (.agg #[])
def Xm(b:Value)(k:Nat):Prop :=
 match b with
 | .iface _ (.agg a)=>∃ v∈a.toList,v.ownBlock=some k
 | _=>False
def SM.enter(S:SM):Fact->SM
 | .inl n=>{S with IQ:=n}
 | .inr (.inl x)=>S.holds x.1 x.2
 | .inr (.inr (.inl x))=>{S with hints:=S.hints++[x]}
 | .inr (.inr (.inr _))=>{S with hints:=S.hints.drop 1}
theorem FRep.fr{S:Nat->Prop}{w w':World}{a:Value}{f:Fact}(h:FRep w a f)(fr:Fr S w w')(e:∀ k,Xm a k->¬S k):FRep w' a f:=by
 rcases f with n|x|x|x
 .exact h
 .obtain⟨lv,rfl,hv⟩:=h
  exact⟨lv,rfl,VRow.fr hv fr (fun k c=>e k ⟨lv,by simp,c⟩)⟩
 .exact h
 .exact h
theorem SStep.mono{w w':World}{b:Nat}{L:SL}{S:SM}{X Y:Nat->Prop}(h:SStep w b L S X w')(f:∀ k,X k->Y k):SStep w b L S Y w':=by
 obtain⟨a,e,g,o,q⟩:=h;exact⟨a,e,g,o,fun k c=>(q k c).imp id (f k)⟩
theorem Yu(f:Fact)(j:Value)(b:Nat)(L:SL)(S:SM)(w:World)(h:SRep w b L S)(p:FRep w j f)(m:S.keys.length<1099511627776)(a:S.hints.length<1000000) :
 Calls Tryz.prog 96 #[.pointer (some ⟨b,0,none⟩),j] w fun e w'=>e=.returned (.tuple #[])/\SStep w b L (S.enter f) (Xm j) w':=by
 rcases f with n|⟨k,l⟩|⟨r,d⟩|x
 .have hfv:j=.iface 220 (.agg #[.int .i64 n]):=p
  subst hfv;have g:=Z (Sj n b L S w h);clear h;go_enter Iz,Il;go_wp2_with fail;refine g.out.mono ?_;rintro e q ⟨rfl,c⟩;have i:=Z c;clear c
  go_wp2
  exact Lo (v:=.tuple #[]) (by simp[results,go_sem]) rfl ⟨rfl,i.out.mono (fun _ h=>absurd h id)⟩
 .obtain⟨o,hfv,hv⟩:∃ o,j=.iface 193 (.agg #[.string k,o])/\VRow w o l:=p
  subst hfv;have g:=Z (Sm k o l b L S w h hv m);clear h hv;go_enter Iz,Il;go_wp2_with fail;refine g.out.mono ?_;rintro e q ⟨rfl,c⟩;have i:=Z c;clear c
  go_wp2
  exact Lo (v:=.tuple #[]) (by simp[results,go_sem]) rfl ⟨rfl,i.out.mono (fun _ h=>⟨o,by simp,h⟩)⟩
 .have hfv:j=.iface 138 (.agg #[.int .i64 r,.string d]):=p
  subst hfv;have g:=Z (T6 r d b L S w h a);clear h;go_enter Iz,Il;go_wp2_with fail;refine g.out.mono ?_;rintro e q ⟨rfl,c⟩;have i:=Z c;clear c
  go_wp2
  exact Lo (v:=.tuple #[]) (by simp[results,go_sem]) rfl ⟨rfl,i.out.mono (fun _ h=>absurd h id)⟩
 .have hfv:j=.iface 135 (.agg #[]):=p
  subst hfv;have g:=Z (Sl b L S w h a);clear h;go_enter Iz,Il;go_wp2_with fail;refine g.out.mono ?_;rintro e q ⟨rfl,c⟩;have i:=Z c;clear c
  go_wp2
  exact Lo (v:=.tuple #[]) (by simp[results,go_sem]) rfl ⟨rfl,i.out.mono (fun _ h=>absurd h id)⟩
theorem SRep.getE{w:World}{b:Nat}{L:SL}{S:SM}(h:SRep w b L S)(s:ByteArray):VRow w (getE L.Gi s) (zt S.keys s):=by
 unfold Go.Proofs.YtkhnggkkiefcdaaGreatDoor.getE zt;have e:zm L.Gi=S.keys.map Prod.fst:=h.pair.keys;rw[e];split
 .rename_i ha
  have d:zD zb (zm L.Gi) s=true:=by rw[e];exact ha
  obtain⟨c,_⟩:=Yb d;rw[e] at c;have a:low zb (S.keys.map Prod.fst) s<S.keys.length:=by rw[<- h.pair.length];exact c
  have:=h.pair.get _ c a
  simpa [c,a] using this
 .exact Mo w 0 _ _
theorem XO(a:ByteArray)(b:Nat)(L:SL)(S:SM)(w:World)(h:SRep w b L S)(c:S.keys.length<1099511627776) :
 Calls Tryz.prog 73 #[.pointer (some ⟨b,0,none⟩),.string a] w fun e i=>e=.returned (getE L.Gi a)/\Fr Nil w i:=by
 have f:w.cell? ⟨b,0,none⟩=some L.kv:=by rw[h.IR.cell];rfl
 have d:=Z (Qq L.kv L.Gi a b w f h.IR.lt h.GT (by rw[h.pair.length];omega));clear h;go_enter Tryz.func73,Tryz.ntmps73
 go_wp2_with (refine d.out.mono ?_;rintro e j ⟨rfl,g⟩)
 go_ret;exact⟨rfl,g⟩
theorem VO(b:Nat)(L:SL)(S:SM)(w:World)(h:SRep w b L S) :
 Calls Tryz.prog 88 #[.pointer (some ⟨b,0,none⟩)] w fun e f=>e=.returned (.int .i64 S.keys.length)/\f=w:=by
 have d:w.cell? ⟨b,0,none⟩=some L.kv:=by rw[h.IR.cell];rfl
 have a:=Z (Qs L.kv L.Gi b w d h.GT);have c:=Z h.pair.length;clear h;go_enter Tryz.func88,Tryz.ntmps88
 go_wp2_with (refine a.out.mono ?_;rintro e g ⟨rfl,rfl⟩)
 go_ret;exact⟨by show Ending.returned (.int .i64 (L.Gi.length:Int))=_;rw[c.out],rfl⟩
theorem WF(b:Nat)(L:SL)(S:SM)(w:World)(h:SRep w b L S) :
 Calls Tryz.prog 98 #[.pointer (some ⟨b,0,none⟩)] w fun e a=>e=.returned (.int .i64 S.IQ)/\a=w:=by
 have c:=h.IR.cell;clear h;go_enter Tryz.func98,Tryz.ntmps98
 go_wp2
 go_ret;exact⟨rfl,rfl⟩
theorem Yd(b:Nat)(L:SL)(S:SM)(w:World)(h:SRep w b L S) :
 Calls Tryz.prog 78 #[.pointer (some ⟨b,0,none⟩)] w fun e g=>e=.returned (.int .i64 S.hints.length)/\g=w:=by
 have c:=h.IR.cell;obtain⟨i,d,a⟩:=zd h.hint;have f:=zu h.hint;unfold maxLen at f;rw[a] at c;clear h a;go_enter Tryz.func78,Tryz.ntmps78
 go_wp2
 go_ret;exact⟨rfl,rfl⟩
theorem So(b:Nat)(L:SL)(S:SM)(w:World)(h:SRep w b L S)(c:S.hints.length<1000000) :
 Calls Tryz.prog 77 #[.pointer (some ⟨b,0,none⟩)] w fun e d=>∃ a,e=.returned a/\d.ownsRow 0 75 2 a S.hints.length (Z8 S.hints)/\Fr Nil w d/\(∀ k,a.ownBlock=some k->w.heap.size<=k):=by
 have l:w.cell? ⟨b,1,none⟩=some L.hv:=by rw[h.IR.cell];rfl
 have f:=Z (Sn L.hv S.hints.length (Z8 S.hints) w h.hint (UA _) (by omega));clear h;go_enter Tryz.func77,Tryz.ntmps77
 go_wp2_with (refine f.out.mono ?_;rintro e m ⟨a,rfl,g,i,j⟩)
 go_ret;exact⟨a,rfl,g,i,j⟩
structure NM where
 self:Nat
 given:Nat
 every:Nat
 writes:Nat
 readOnly:Bool
 J:JM
 S:SM
structure NL where
 nb:Nat
 jb:Nat
 sb:Nat
 db:Nat
 mv:Value
 LS:SL
 LD:DL
def NM.cells(L:NL)(N:NM):List Value:=[.int .i64 N.self,.pointer (some ⟨L.jb,0,none⟩),.pointer (some ⟨L.sb,0,none⟩),.int .i64 N.given,.int .i64 N.every,.int .i64 N.writes,L.mv,.bool N.readOnly]
structure NRep(w:World)(L:NL)(N:NM)(M:DM):Prop where
 IR:Blk w L.nb (N.cells L) 123
 log:JRep w L.jb L.db N.J
 held:SRep w L.sb L.LS N.S
 Hu:DRep w L.db L.LD M
def NFoot(L:NL)(M:DM)(k:Nat):Prop:=k=L.nb\/k=L.jb\/SFoot L.sb L.LS k\/Foot L.db L.LD M k
theorem NRep.fr{c:Nat->Prop}{w w':World}{L:NL}{N:NM}{M:DM}(h:NRep w L N M)(f:Fr c w w')(a:∀ k,NFoot L M k->¬c k)(g:∀ k,SRead L.LS k->¬c k):NRep w' L N M :=
 ⟨h.IR.fr f (a _ (.inl rfl)),Blk.fr h.log f (a _ (.inr (.inl rfl))),h.held.fr f (fun k e=>a k (.inr (.inr (.inl e)))) g,h.Hu.fr f (fun k e=>a k (.inr (.inr (.inr e))))⟩
theorem NRep.nil{w w':World}{L:NL}{N:NM}{M:DM}(h:NRep w L N M)(f:Fr Nil w w'):NRep w' L N M:=h.fr f (fun _ _=>id) (fun _ _=>id)
structure NL.El(L L':NL):Prop where
 nb:L'.nb=L.nb
 jb:L'.jb=L.jb
 sb:L'.sb=L.sb
 db:L'.db=L.db
structure NStep(L:NL)(M:DM)(w:World)(L':NL)(N':NM)(M':DM)(w':World):Prop where
 Hl:NRep w' L' N' M'
 same:NL.El L L'
 fr:Fr (NFoot L M) w w'
 Hw:∀ k,NFoot L' M' k->NFoot L M k\/w.heap.size<=k
 read:∀ k,SRead L'.LS k->SRead L.LS k\/w.heap.size<=k
theorem NStep.trans{e g l:NL}{y s:NM}{o q r:DM}{t w2 x:World}(h:NStep e o t g y q w2)(k:NStep g q w2 l s r x):NStep e o t l s r x where
 Hl:=k.Hl
 same:=⟨k.same.nb.trans h.same.nb,k.same.jb.trans h.same.jb,k.same.sb.trans h.same.sb,k.same.db.trans h.same.db⟩
 fr:=h.fr.trans' k.fr (fun i a z=>(h.Hw i z).resolve_right (by omega))
 Hw:=fun i a=>(k.Hw i a).elim (h.Hw i) (fun c=>.inr (NR h.fr.size c))
 read:=fun i a=>(k.read i a).elim (h.read i) (fun c=>.inr (NR h.fr.size c))
theorem NStep.nil{L:NL}{N:NM}{M:DM}{w w':World}(h:NRep w L N M)(f:Fr Nil w w'):NStep L M w L N M w' :=
 ⟨h.nil f,⟨rfl,rfl,rfl,rfl⟩,f.mono (fun _ _ e=>absurd e id),fun _ a=>.inl a,fun _ a=>.inl a⟩
theorem NStep.Ha{L a:NL}{N':NM}{M b:DM}{w c w':World}(h:NStep L M w a N' b c)(f:Fr Nil c w'):NStep L M w a N' b w':=h.trans (NStep.nil h.Hl f)
theorem NStep.Gh{L:NL}{N:NM}{M g:DM}{f:JM}{c:DL}{w w':World}(h:NRep w L N M)(s:JStep L.jb L.db L.LD M w f c g w'):NStep L M w {L with LD:=c} {N with J:=f} g w':=by
 have a:∀ {k t},Ty w k t->¬DTy t->t≠197->¬(k=L.jb\/Foot L.db L.LD M k):=by
  intro k t b i j d;rcases d with d|d
  .subst d;exact j (b.inj (Blk.ty h.log))
  .exact h.Hu.apart b i d
 refine⟨⟨h.IR.fr s.2.2.1 (a h.IR.ty (by unfold DTy;decide) (by decide)),s.1,h.held.fr s.2.2.1 (fun k b=>?_) (fun k b=>a (h.held.Gg b) (by unfold DTy;decide) (by decide)),s.2.1⟩,⟨rfl,rfl,rfl,rfl⟩,s.2.2.1.mono (fun k _ e=>?_),fun k b=>?_,fun k b=>.inl b⟩
 .rcases h.held.Hn b with e|e|e
  .exact a e (by unfold DTy;decide) (by decide)
  .exact a e (by unfold DTy;decide) (by decide)
  .exact a e (by unfold DTy;decide) (by decide)
 .rcases e with e|e
  .exact .inr (.inl e)
  .exact .inr (.inr (.inr e))
 .rcases b with e|e|e|e
  .exact .inl (.inl e)
  .exact .inl (.inr (.inl e))
  .exact .inl (.inr (.inr (.inl e)))
  .exact(s.2.2.2 k e).imp (fun h=>.inr (.inr (.inr h))) id
theorem NStep.held{L f:NL}{l:NM}{M j:DM}{S':SM}{X:Nat->Prop}{w i w':World}(h:NStep L M w f l j i)(A:SStep i f.sb f.LS S' X w')(s:∀ k,X k->SRead L.LS k\/w.heap.size<=k) :
 ∃ b,NStep L M w {f with LS:=b} {l with S:=S'} j w':=by
 obtain⟨b,x,g,y,z⟩:=A;have c:=h.Hl;have d:∀ {k t},Ty i k t->t≠161->t≠239->t≠75->¬SFoot f.sb f.LS k:=by
  intro k t a o p q r;rcases c.held.Hn r with e|e|e
  .exact o (a.inj e)
  .exact p (a.inj e)
  .exact q (a.inj e)
 refine⟨b,⟨c.IR.fr g (d c.IR.ty (by decide) (by decide) (by decide)),Blk.fr c.log g (d (Blk.ty c.log) (by decide) (by decide) (by decide)),x,c.Hu.fr g (fun k a e=>?_)⟩,⟨h.same.nb,h.same.jb,h.same.sb,h.same.db⟩,h.fr.trans' g (fun k a e=>(h.Hw k (.inr (.inr (.inl e)))).resolve_right (by omega)),fun k a=>?_,fun k a=>?_⟩
 .obtain⟨t,ht,hd⟩:=c.Hu.ty a
  unfold DTy at hd;refine d ht ?_ ?_ ?_ e
  all_goals (rcases hd with rfl|rfl|rfl|rfl|rfl <;> decide)
 .rcases a with e|e|e|e
  .exact h.Hw k (.inl e)
  .exact h.Hw k (.inr (.inl e))
  .exact(y k e).elim (fun e=>h.Hw k (.inr (.inr (.inl e)))) (fun e=>.inr (NR h.fr.size e))
  .exact h.Hw k (.inr (.inr (.inr e)))
 .exact(z k a).elim (h.read k) (s k)
theorem NRep.apart{w:World}{L:NL}{N:NM}{M:DM}(h:NRep w L N M){k:Nat}{t:TypeId}(a:Ty w k t)(c:t≠123)(d:t≠197)(f:t≠161)(g:t≠239)(i:t≠75)(j:¬DTy t):¬NFoot L M k:=by
 intro b;rcases b with rfl|rfl|b|b
 .exact c (a.inj h.IR.ty)
 .exact d (a.inj (Blk.ty h.log))
 .rcases h.held.Hn b with e|e|e
  .exact f (a.inj e)
  .exact g (a.inj e)
  .exact i (a.inj e)
 .exact h.Hu.apart a j b
theorem VRow.step{w w':World}{L b:NL}{N N':NM}{M c:DM}{v:Value}{l:List Ver}(a:VRow w v l)(h:NRep w L N M)(s:NStep L M w b N' c w'):VRow w' v l :=
 VRow.fr a s.fr (fun _ d=>h.apart (Zx a d) (by decide) (by decide) (by decide) (by decide) (by decide) (by unfold DTy;decide))
theorem FRep.step{w w':World}{L b:NL}{N N':NM}{M c:DM}{v:Value}{x:Fact}(a:FRep w v x)(h:NRep w L N M)(s:NStep L M w b N' c w'):FRep w' v x:=by
 rcases x with n|x|x|x
 .exact a
 .obtain⟨lv,e,hl⟩:=a
  exact⟨lv,e,hl.step h s⟩
 .exact a
 .exact a
theorem ERep.FR{w b:World}{L c:NL}{N N':NM}{M d:DM}{v:Value}{e:Option Int}(f:ERep w v e)(h:NRep w L N M)(s:NStep L M w c N' d b):ERep b v e :=
 f.fr s.fr (fun _ a=>a.elim (fun a=>h.apart a (by decide) (by decide) (by decide) (by decide) (by decide) (by unfold DTy;decide)) (fun a=>h.apart a (by decide) (by decide) (by decide) (by decide) (by decide) (by unfold DTy;decide)))
theorem NStep.set{L:NL}{N N':NM}{M:DM}{w:World}(h:NRep w L N M)(i:Nat)(v:Value)(j:(N.cells L).set i v=N'.cells L)(f:N'.J=N.J)(g:N'.S=N.S):NStep L M w L N' M (w.setCell ⟨L.nb,i,none⟩ v):=by
 have c:Fr (fun k=>k=L.nb) w (w.setCell ⟨L.nb,i,none⟩ v):=Fr.set (S:=fun k=>k=L.nb) (O _ _) (fun _=>rfl) _;have a:∀ {k t},Ty w k t->t≠123->¬k=L.nb:=fun b d e=>by subst e;exact d (b.inj h.IR.ty)
 refine⟨⟨?_,?_,?_,h.Hu.fr c (fun k b=>?_)⟩,⟨rfl,rfl,rfl,rfl⟩,c.mono (fun _ _ e=>.inl e),fun k b=>.inl b,fun k b=>.inl b⟩
 .rw[<- j];exact h.IR.set i v
 .rw[f];exact Blk.fr h.log c (a (Blk.ty h.log) (by decide))
 .rw[g]
  refine h.held.fr c (fun k b=>?_) (fun k b=>a (h.held.Gg b) (by decide));rcases h.held.Hn b with e|e|e
  .exact a e (by decide)
  .exact a e (by decide)
  .exact a e (by decide)
 .obtain⟨t,d,hd⟩:=h.Hu.ty b
  unfold DTy at hd;refine a d ?_;rcases hd with rfl|rfl|rfl|rfl|rfl <;> decide
def zj:Fact->ByteArray
 | .inl n=>zk (XM n)
 | .inr (.inl x)=>zk (YK x.1 x.2)
 | .inr (.inr (.inl x))=>zk (Xg x.1 x.2)
 | .inr (.inr (.inr _))=>zk VL
def FOk:Fact->Prop
 | .inl n=>n<9223372036854775808
 | .inr (.inl x)=>(∀ v∈x.2,v.Nat)/\x.2.length<1000000/\x.1.size<1000000000/\(Zb x.2).length<=100000000000
 | .inr (.inr (.inl x))=>x.1<9223372036854775808/\x.2.size<1000000000
 | .inr (.inr (.inr _))=>True
structure Y0(J:JM)(M:DM)(H n:Nat):Prop where
 bytes:n<1000000000000
 size:J.size<1000000000000
 last:J.last+1<1000000000000
 IW:(J.IU M).2.IW.length+1<=1000000000000
 dir:(J.IU M).2.dir.length+1<=1000000000000
 room:∀ f,H<=f->0<=(J.IX M n f).2.2.part/\(J.IX M n f).2.1.size<1000000000000/\∀ g,g∈(J.IX M n f).2.2.ids->((J.IX M n f).2.2.file g).bytes.length<=1000000000000
def NM.write(N:NM)(M:DM)(x:Fact)(f:Nat):Option Int × NM × DM :=
 ((N.J.append M (zj x) f).2.1,{N with J:=(N.J.append M (zj x) f).2.2.1,S:=if (N.J.append M (zj x) f).1=true then N.S.enter x else N.S},(N.J.append M (zj x) f).2.2.2)
structure Env(B:Nat)(L:NL)(M:DM)(w:World):Prop where
 tab:Yt B w
 le:B<=w.heap.size
 Hw:∀ k,Foot L.db L.LD M k->B<=k
theorem On(v:Value)(w:World):(method 496 220 v "Record").run Tryz.prog w=.ok (307,v) w:=by kernel_rfl
theorem Oo(v:Value)(w:World):(method 496 193 v "Record").run Tryz.prog w=.ok (286,v) w:=by kernel_rfl
theorem Po(v:Value)(w:World):(method 496 138 v "Record").run Tryz.prog w=.ok (282,v) w:=by kernel_rfl
theorem Oq(v:Value)(w:World):(method 496 135 v "Record").run Tryz.prog w=.ok (274,v) w:=by kernel_rfl
theorem VP(B:Nat)(L0:NL)(M0:DM)(w0:World)(L:NL)(N:NM)(M:DM)(b0:ByteArray)(x:Fact)(fv:Value)(w:World)(h0:NStep L0 M0 w0 L N M w)(he:Env B L M w)(hx:FRep w fv x)(t:FOk x)(Q:∀ k,Xm fv k->SRead L0.LS k\/w0.heap.size<=k)
 (a5:Y0 N.J M w.heap.size (zj x).size)(y:N.S.keys.length<1099511627776)(hh:N.S.hints.length<1000000) :
 Calls Tryz.prog 129 #[.pointer (some ⟨L.nb,0,none⟩),.string b0,fv] w fun e w' =>
  ∃ f v L',e=.returned v/\w.heap.size<=f/\ERep w' v (N.write M x f).1/\NStep L0 M0 w0 L' (N.write M x f).2.1 (N.write M x f).2.2 w':=by
 have h:=h0.Hl;have a4:=Z h0;have b3:w.cell? ⟨L.nb,1,none⟩=some (.pointer (some ⟨L.jb,0,none⟩)):=h.IR.cell 1;have HK:Hid (∀ w',Fr Nil w w'->w'.cell? ⟨L.nb,1,none⟩=some (.pointer (some ⟨L.jb,0,none⟩))):=by
  intro w' K;exact(h.IR.fr K id).cell 1
 have R:=Z he;have H:=Z h;have HX:=Z hx;have b2:=Z t;have b:=Z a5;clear he h a5 h0;rcases x with n|⟨J,l⟩|⟨to,j⟩|u
 .have hfv:fv=.iface 220 (.agg #[.int .i64 n]):=hx
  subst hfv;have HR:=Z (fun wx=>Se n t wx);have hw:N.write M (Sum.inl n)=fun f=>((N.J.append M (zj (Sum.inl n)) f).2.1,{N with J:=(N.J.append M (zj (Sum.inl n)) f).2.2.1,S:=if (N.J.append M (zj (Sum.inl n)) f).1=true then N.S.enter (Sum.inl n) else N.S},(N.J.append M (zj (Sum.inl n)) f).2.2.2):=rfl;have r:=Z hw;generalize i:zj (Sum.inl n)=p at b r;have Y:Hid (zk (XM n)=p):=i;have a7:=b.out.bytes;have hm:=On;generalize a3:(Sum.inl n:Fact)=x at HX r Q hw;clear i hw hx t a3;go_enter Im,JT;go_wp2_with fail
  go_region_held3 (fun w'=>w'.cell? ⟨L.nb,1,none⟩=some (.pointer (some ⟨L.jb,0,none⟩))) (first|assumption|go_keep|exact HK.out _ z8)
   (first
   | (go_at_call 164;refine(Y9 B L.jb L.db N.J L.LD M p b.out.bytes b.out.size b.out.last _ (Blk.fr (S:=Nil) H.out.log (a.trans z8) id) (H.out.Hu.nil (a.trans z8)) (R.out.tab.fr (S:=Nil) R.out.le (a.trans z8) (fun _ h=>absurd h id)) (NR R.out.le (Fr.size (S:=Nil) (a.trans z8))) R.out.Hw b.out.IW b.out.dir (fun f K=>b.out.room f (NR (Fr.size (S:=Nil) (a.trans z8)) K))).mono ?_;rintro e s ⟨f,v3,D,rfl,I,E,o⟩;have A:Hid (w.heap.size<=f):=NR (Fr.size (S:=Nil) (a.trans z8)) I;have C:Hid (NStep L M w _ _ _ s):=(NStep.nil H.out (a.trans z8)).trans (NStep.Gh (H.out.nil (a.trans z8)) o);have c:Hid (NStep L0 M0 w0 _ _ _ s):=(a4.out.Ha (a.trans z8)).trans (NStep.Gh (H.out.nil (a.trans z8)) o);have a9:s.cell? ⟨L.nb,1,none⟩=some (.pointer (some ⟨L.jb,0,none⟩)):=c.out.Hl.IR.cell 1;have z:=Z E;clear E o I)
   | (go_at_call 307;refine(HR.out _).mono ?_;rintro e w2 ⟨rfl,a2⟩;have a:Fr Nil w w2:=Fr.trans z8 a2;have a8:=HK.out w2 a;rw[Y.out]))
  have a6:s.cell? ⟨L.nb,2,none⟩=some (.pointer (some ⟨L.sb,0,none⟩)):=c.out.Hl.IR.cell 2;cases hb:(N.J.append M p f).1 with
  | true =>
   have T:=Z hb;have HT:=Z (Yu x _ L.sb L.LS N.S s c.out.Hl.held (HX.out.step H.out C.out) y hh);clear hb;go_wp2_with fail;refine HT.out.mono ?_;rintro e w4 ⟨rfl,hT⟩;obtain⟨a1,G⟩:=c.out.held hT Q;have F:=z.out.fr (w':=w4) (by obtain⟨_,_,q,_⟩:=hT;exact q) (fun k y K=>by
    rcases c.out.Hl.held.Hn K with e|e|e <;> rcases y with y|y <;> exact absurd (y.inj e) (by decide))
   have a0:=Z G;have V:=Z F;clear hT G F HT;go_wp2_with fail;refine(zo _ _ _ w4 V.out).mono ?_;rintro e w5 ⟨v5,rfl,d,g⟩;have m:=Z d;have X:=Z (a0.out.Ha g);clear d g
   go_wp2
   go_ret;refine⟨f,v5,{L with LD:=D,LS:=a1},rfl,A.out,?_,?_⟩
   .rw[r.out];exact m.out
   .rw[r.out];simp only[T.out,MP];exact X.out
  | false =>
   have T:=Z hb;clear hb;go_wp2_with fail;refine(zo _ _ _ s z.out).mono ?_;rintro e w5 ⟨v5,rfl,d,g⟩;have m:=Z d;have X:=Z (c.out.Ha g);clear d g
   go_wp2
   go_ret;refine⟨f,v5,{L with LD:=D},rfl,A.out,?_,?_⟩
   .rw[r.out];exact m.out
   .rw[r.out];simp only[T.out,Lc,MN];exact X.out
 .obtain⟨lv,hfv,hlv⟩:∃ lv,fv=.iface 193 (.agg #[.string J,lv])/\VRow w lv l:=id hx
  subst hfv;have b1:=Z hlv;clear hlv;have HR:=Z (fun wx (f:Fr Nil w wx)=>Sf J lv l t.1 t.2.1 t.2.2.1 wx (VRow.fr b1.out f (fun _ _=>id)) t.2.2.2);have hw:N.write M (Sum.inr (Sum.inl (J,l)))=fun f=>((N.J.append M (zj (Sum.inr (Sum.inl (J,l)))) f).2.1,{N with J:=(N.J.append M (zj (Sum.inr (Sum.inl (J,l)))) f).2.2.1,S:=if (N.J.append M (zj (Sum.inr (Sum.inl (J,l)))) f).1=true then N.S.enter (Sum.inr (Sum.inl (J,l))) else N.S},(N.J.append M (zj (Sum.inr (Sum.inl (J,l)))) f).2.2.2):=rfl;have r:=Z hw;generalize i:zj (Sum.inr (Sum.inl (J,l)))=p at b r;have Y:Hid (zk (YK J l)=p):=i;have a7:=b.out.bytes;have hm:=Oo;generalize a3:(Sum.inr (Sum.inl (J,l)):Fact)=x at HX r Q hw;clear i hw hx t a3;go_enter Im,JT;go_wp2_with fail
  go_region_held3 (fun w'=>w'.cell? ⟨L.nb,1,none⟩=some (.pointer (some ⟨L.jb,0,none⟩))) (first|assumption|go_keep|exact HK.out _ z8)
   (first
   | (go_at_call 164;refine(Y9 B L.jb L.db N.J L.LD M p b.out.bytes b.out.size b.out.last _ (Blk.fr (S:=Nil) H.out.log (a.trans z8) id) (H.out.Hu.nil (a.trans z8)) (R.out.tab.fr (S:=Nil) R.out.le (a.trans z8) (fun _ h=>absurd h id)) (NR R.out.le (Fr.size (S:=Nil) (a.trans z8))) R.out.Hw b.out.IW b.out.dir (fun f K=>b.out.room f (NR (Fr.size (S:=Nil) (a.trans z8)) K))).mono ?_;rintro e s ⟨f,v3,D,rfl,I,E,o⟩;have A:Hid (w.heap.size<=f):=NR (Fr.size (S:=Nil) (a.trans z8)) I;have C:Hid (NStep L M w _ _ _ s):=(NStep.nil H.out (a.trans z8)).trans (NStep.Gh (H.out.nil (a.trans z8)) o);have c:Hid (NStep L0 M0 w0 _ _ _ s):=(a4.out.Ha (a.trans z8)).trans (NStep.Gh (H.out.nil (a.trans z8)) o);have a9:s.cell? ⟨L.nb,1,none⟩=some (.pointer (some ⟨L.jb,0,none⟩)):=c.out.Hl.IR.cell 1;have z:=Z E;clear E o I)
   | (go_at_call 286;refine(HR.out _ z8).mono ?_;rintro e w2 ⟨rfl,a2⟩;have a:Fr Nil w w2:=Fr.trans z8 a2;have a8:=HK.out w2 a;rw[Y.out]))
  have a6:s.cell? ⟨L.nb,2,none⟩=some (.pointer (some ⟨L.sb,0,none⟩)):=c.out.Hl.IR.cell 2;cases hb:(N.J.append M p f).1 with
  | true =>
   have T:=Z hb;have HT:=Z (Yu x _ L.sb L.LS N.S s c.out.Hl.held (HX.out.step H.out C.out) y hh);clear hb;go_wp2_with fail;refine HT.out.mono ?_;rintro e w4 ⟨rfl,hT⟩;obtain⟨a1,G⟩:=c.out.held hT Q;have F:=z.out.fr (w':=w4) (by obtain⟨_,_,q,_⟩:=hT;exact q) (fun k y K=>by
    rcases c.out.Hl.held.Hn K with e|e|e <;> rcases y with y|y <;> exact absurd (y.inj e) (by decide))
   have a0:=Z G;have V:=Z F;clear hT G F HT;go_wp2_with fail;refine(zo _ _ _ w4 V.out).mono ?_;rintro e w5 ⟨v5,rfl,d,g⟩;have m:=Z d;have X:=Z (a0.out.Ha g);clear d g
   go_wp2
   go_ret;refine⟨f,v5,{L with LD:=D,LS:=a1},rfl,A.out,?_,?_⟩
   .rw[r.out];exact m.out
   .rw[r.out];simp only[T.out,MP];exact X.out
  | false =>
   have T:=Z hb;clear hb;go_wp2_with fail;refine(zo _ _ _ s z.out).mono ?_;rintro e w5 ⟨v5,rfl,d,g⟩;have m:=Z d;have X:=Z (c.out.Ha g);clear d g
   go_wp2
   go_ret;refine⟨f,v5,{L with LD:=D},rfl,A.out,?_,?_⟩
   .rw[r.out];exact m.out
   .rw[r.out];simp only[T.out,Lc,MN];exact X.out
 .have hfv:fv=.iface 138 (.agg #[.int .i64 to,.string j]):=hx
  subst hfv;have HR:=Z (fun wx=>T1 to j t.1 t.2 wx);have hw:N.write M (Sum.inr (Sum.inr (Sum.inl (to,j))))=fun f=>((N.J.append M (zj (Sum.inr (Sum.inr (Sum.inl (to,j))))) f).2.1,{N with J:=(N.J.append M (zj (Sum.inr (Sum.inr (Sum.inl (to,j))))) f).2.2.1,S:=if (N.J.append M (zj (Sum.inr (Sum.inr (Sum.inl (to,j))))) f).1=true then N.S.enter (Sum.inr (Sum.inr (Sum.inl (to,j)))) else N.S},(N.J.append M (zj (Sum.inr (Sum.inr (Sum.inl (to,j))))) f).2.2.2):=rfl;have r:=Z hw;generalize i:zj (Sum.inr (Sum.inr (Sum.inl (to,j))))=p at b r;have Y:Hid (zk (Xg to j)=p):=i;have a7:=b.out.bytes;have hm:=Po;generalize a3:(Sum.inr (Sum.inr (Sum.inl (to,j))):Fact)=x at HX r Q hw;clear i hw hx t a3;go_enter Im,JT;go_wp2_with fail
  go_region_held3 (fun w'=>w'.cell? ⟨L.nb,1,none⟩=some (.pointer (some ⟨L.jb,0,none⟩))) (first|assumption|go_keep|exact HK.out _ z8)
   (first
   | (go_at_call 164;refine(Y9 B L.jb L.db N.J L.LD M p b.out.bytes b.out.size b.out.last _ (Blk.fr (S:=Nil) H.out.log (a.trans z8) id) (H.out.Hu.nil (a.trans z8)) (R.out.tab.fr (S:=Nil) R.out.le (a.trans z8) (fun _ h=>absurd h id)) (NR R.out.le (Fr.size (S:=Nil) (a.trans z8))) R.out.Hw b.out.IW b.out.dir (fun f K=>b.out.room f (NR (Fr.size (S:=Nil) (a.trans z8)) K))).mono ?_;rintro e s ⟨f,v3,D,rfl,I,E,o⟩;have A:Hid (w.heap.size<=f):=NR (Fr.size (S:=Nil) (a.trans z8)) I;have C:Hid (NStep L M w _ _ _ s):=(NStep.nil H.out (a.trans z8)).trans (NStep.Gh (H.out.nil (a.trans z8)) o);have c:Hid (NStep L0 M0 w0 _ _ _ s):=(a4.out.Ha (a.trans z8)).trans (NStep.Gh (H.out.nil (a.trans z8)) o);have a9:s.cell? ⟨L.nb,1,none⟩=some (.pointer (some ⟨L.jb,0,none⟩)):=c.out.Hl.IR.cell 1;have z:=Z E;clear E o I)
   | (go_at_call 282;refine(HR.out _).mono ?_;rintro e w2 ⟨rfl,a2⟩;have a:Fr Nil w w2:=Fr.trans z8 a2;have a8:=HK.out w2 a;rw[Y.out]))
  have a6:s.cell? ⟨L.nb,2,none⟩=some (.pointer (some ⟨L.sb,0,none⟩)):=c.out.Hl.IR.cell 2;cases hb:(N.J.append M p f).1 with
  | true =>
   have T:=Z hb;have HT:=Z (Yu x _ L.sb L.LS N.S s c.out.Hl.held (HX.out.step H.out C.out) y hh);clear hb;go_wp2_with fail;refine HT.out.mono ?_;rintro e w4 ⟨rfl,hT⟩;obtain⟨a1,G⟩:=c.out.held hT Q;have F:=z.out.fr (w':=w4) (by obtain⟨_,_,q,_⟩:=hT;exact q) (fun k y K=>by
    rcases c.out.Hl.held.Hn K with e|e|e <;> rcases y with y|y <;> exact absurd (y.inj e) (by decide))
   have a0:=Z G;have V:=Z F;clear hT G F HT;go_wp2_with fail;refine(zo _ _ _ w4 V.out).mono ?_;rintro e w5 ⟨v5,rfl,d,g⟩;have m:=Z d;have X:=Z (a0.out.Ha g);clear d g
   go_wp2
   go_ret;refine⟨f,v5,{L with LD:=D,LS:=a1},rfl,A.out,?_,?_⟩
   .rw[r.out];exact m.out
   .rw[r.out];simp only[T.out,MP];exact X.out
  | false =>
   have T:=Z hb;clear hb;go_wp2_with fail;refine(zo _ _ _ s z.out).mono ?_;rintro e w5 ⟨v5,rfl,d,g⟩;have m:=Z d;have X:=Z (c.out.Ha g);clear d g
   go_wp2
   go_ret;refine⟨f,v5,{L with LD:=D},rfl,A.out,?_,?_⟩
   .rw[r.out];exact m.out
   .rw[r.out];simp only[T.out,Lc,MN];exact X.out
 .have hfv:fv=.iface 135 (.agg #[]):=hx
  subst hfv;have HR:=Z (fun wx=>Sg wx);have hw:N.write M (Sum.inr (Sum.inr (Sum.inr u)))=fun f=>((N.J.append M (zj (Sum.inr (Sum.inr (Sum.inr u)))) f).2.1,{N with J:=(N.J.append M (zj (Sum.inr (Sum.inr (Sum.inr u)))) f).2.2.1,S:=if (N.J.append M (zj (Sum.inr (Sum.inr (Sum.inr u)))) f).1=true then N.S.enter (Sum.inr (Sum.inr (Sum.inr u))) else N.S},(N.J.append M (zj (Sum.inr (Sum.inr (Sum.inr u)))) f).2.2.2):=rfl;have r:=Z hw;generalize i:zj (Sum.inr (Sum.inr (Sum.inr u)))=p at b r;have Y:Hid (zk VL=p):=i;have a7:=b.out.bytes;have hm:=Oq;generalize a3:(Sum.inr (Sum.inr (Sum.inr u)):Fact)=x at HX r Q hw;clear i hw hx t a3;go_enter Im,JT;go_wp2_with fail
  go_region_held3 (fun w'=>w'.cell? ⟨L.nb,1,none⟩=some (.pointer (some ⟨L.jb,0,none⟩))) (first|assumption|go_keep|exact HK.out _ z8)
   (first
   | (go_at_call 164;refine(Y9 B L.jb L.db N.J L.LD M p b.out.bytes b.out.size b.out.last _ (Blk.fr (S:=Nil) H.out.log (a.trans z8) id) (H.out.Hu.nil (a.trans z8)) (R.out.tab.fr (S:=Nil) R.out.le (a.trans z8) (fun _ h=>absurd h id)) (NR R.out.le (Fr.size (S:=Nil) (a.trans z8))) R.out.Hw b.out.IW b.out.dir (fun f K=>b.out.room f (NR (Fr.size (S:=Nil) (a.trans z8)) K))).mono ?_;rintro e s ⟨f,v3,D,rfl,I,E,o⟩;have A:Hid (w.heap.size<=f):=NR (Fr.size (S:=Nil) (a.trans z8)) I;have C:Hid (NStep L M w _ _ _ s):=(NStep.nil H.out (a.trans z8)).trans (NStep.Gh (H.out.nil (a.trans z8)) o);have c:Hid (NStep L0 M0 w0 _ _ _ s):=(a4.out.Ha (a.trans z8)).trans (NStep.Gh (H.out.nil (a.trans z8)) o);have a9:s.cell? ⟨L.nb,1,none⟩=some (.pointer (some ⟨L.jb,0,none⟩)):=c.out.Hl.IR.cell 1;have z:=Z E;clear E o I)
   | (go_at_call 274;refine(HR.out _).mono ?_;rintro e w2 ⟨rfl,a2⟩;have a:Fr Nil w w2:=Fr.trans z8 a2;have a8:=HK.out w2 a;rw[Y.out]))
  have a6:s.cell? ⟨L.nb,2,none⟩=some (.pointer (some ⟨L.sb,0,none⟩)):=c.out.Hl.IR.cell 2;cases hb:(N.J.append M p f).1 with
  | true =>
   have T:=Z hb;have HT:=Z (Yu x _ L.sb L.LS N.S s c.out.Hl.held (HX.out.step H.out C.out) y hh);clear hb;go_wp2_with fail;refine HT.out.mono ?_;rintro e w4 ⟨rfl,hT⟩;obtain⟨a1,G⟩:=c.out.held hT Q;have F:=z.out.fr (w':=w4) (by obtain⟨_,_,q,_⟩:=hT;exact q) (fun k y K=>by
    rcases c.out.Hl.held.Hn K with e|e|e <;> rcases y with y|y <;> exact absurd (y.inj e) (by decide))
   have a0:=Z G;have V:=Z F;clear hT G F HT;go_wp2_with fail;refine(zo _ _ _ w4 V.out).mono ?_;rintro e w5 ⟨v5,rfl,d,g⟩;have m:=Z d;have X:=Z (a0.out.Ha g);clear d g
   go_wp2
   go_ret;refine⟨f,v5,{L with LD:=D,LS:=a1},rfl,A.out,?_,?_⟩
   .rw[r.out];exact m.out
   .rw[r.out];simp only[T.out,MP];exact X.out
  | false =>
   have T:=Z hb;clear hb;go_wp2_with fail;refine(zo _ _ _ s z.out).mono ?_;rintro e w5 ⟨v5,rfl,d,g⟩;have m:=Z d;have X:=Z (c.out.Ha g);clear d g
   go_wp2
   go_ret;refine⟨f,v5,{L with LD:=D},rfl,A.out,?_,?_⟩
   .rw[r.out];exact m.out
   .rw[r.out];simp only[T.out,Lc,MN];exact X.out
theorem RA(B:Nat)(L:NL)(N:NM)(M:DM)(a:ByteArray)(x:Fact)(c:Value)(w:World)(h:NRep w L N M)(l:Env B L M w)(p:FRep w c x)(g:FOk x)(d:∀ k,Xm c k->SRead L.LS k\/w.heap.size<=k)
 (b:Y0 N.J M w.heap.size (zj x).size)(o:N.S.keys.length<1099511627776)(m:N.S.hints.length<1000000) :
 Calls Tryz.prog 129 #[.pointer (some ⟨L.nb,0,none⟩),.string a,c] w fun e i =>
  ∃ f v j,e=.returned v/\w.heap.size<=f/\ERep i v (N.write M x f).1/\NStep L M w j (N.write M x f).2.1 (N.write M x f).2.2 i :=
 VP B L M w L N M a x c w (NStep.nil h (O _ _)) l p g d b o m
def NM.sync(N:NM)(M:DM):Option Int × NM × DM:=((N.J.Hg M).1,{N with J:=(N.J.Hg M).2.1},(N.J.Hg M).2.2)
def NM.counted(N:NM)(M:DM):Option Int × NM × DM :=
 if N.every=0\/N.writes+1<N.every then(none,{N with writes:=N.writes+1},M) else NM.sync {N with writes:=0} M
def NM.change(N:NM)(M:DM)(x:Fact)(f:Nat):Option Int × NM × DM :=
 match (N.write M x f).1 with
 | some n=>(some n,(N.write M x f).2.1,(N.write M x f).2.2)
 | none=>(N.write M x f).2.1.counted (N.write M x f).2.2
theorem Va(B:Nat)(F:NL)(J:DM)(G:World)(L:NL)(N:NM)(M:DM)(C:ByteArray)(x:Fact)(fv:Value)(w:World)(D:NStep F J G L N M w)(u:Env B L M w)(hx:FRep w fv x)(a1:FOk x)(a0:∀ k,Xm fv k->SRead F.LS k\/G.heap.size<=k)
 (A:Y0 N.J M w.heap.size (zj x).size)(hk:N.S.keys.length<1099511627776)(hh:N.S.hints.length<1000000)(hw:N.writes<1000000000000) :
 Calls Tryz.prog 80 #[.pointer (some ⟨L.nb,0,none⟩),.string C,fv] w fun e w' =>
  ∃ f v L',e=.returned v/\w.heap.size<=f/\ERep w' v (N.change M x f).1/\NStep F J G L' (N.change M x f).2.1 (N.change M x f).2.2 w':=by
 have I:=Z D.same.nb;have HW:=Z (VP B F J G L N M C x fv w D u hx a1 a0 A hk hh);clear D u hx a1 a0 A hk hh;go_enter Tryz.func80,Tryz.ntmps80;go_wp2_with fail;refine HW.out.mono ?_;rintro e w1 ⟨f,v1,r,rfl,hf,o,g⟩;have q:∀ n,(N.write M x f).1=some n->N.change M x f=(some n,(N.write M x f).2.1,(N.write M x f).2.2):=by intro n h;unfold NM.change;rw[h]
 have p:(N.write M x f).1=none->N.change M x f=(N.write M x f).2.1.counted (N.write M x f).2.2:=by intro h;unfold NM.change;rw[h]
 have a7:(N.write M x f).2.1.writes<1000000000000:=hw;generalize T:(N.write M x f).2.1=a at g q p a7;generalize S:(N.write M x f).2.2=m at g q p;have HS:=Z g;have HF:=Z hf;have c:r.nb=L.nb:=g.same.nb.trans I.out.symm;cases u:(N.write M x f).1 with
 | some n =>
  rw[u] at o;have s:=Z (q n u);have HE:=Z o;obtain⟨k,hk⟩:=o;obtain⟨t,b,rfl⟩:=hk.form;clear u q p hk g T S hf c
  go_wp2
  go_ret;refine⟨f,.iface t (.pointer (some ⟨b,0,none⟩)),r,rfl,HF.out,?_,?_⟩
  .rw[s.out];exact HE.out
  .rw[s.out];exact HS.out
 | none =>
  rw[u] at o;have s:=Z (p u);have hv:v1=.nilIface:=o;subst hv;have V:=g.Hl.IR.cell;have hz:=g.Hl.IR.frozen;simp only[NM.cells] at V;rw[c] at V hz;have a9:IntKind.i64.wrap ((a.writes:Int)+1)=(a.writes:Int)+1:=by rw[MC];omega
  have l:=NStep.set HS.out.Hl (N':={a with writes:=a.writes+1}) 5 (.int .i64 ((a.writes:Int)+1)) (by simp[NM.cells]) rfl rfl;rw[c] at l;have z:=Z l;have X:=l.Hl.IR.cell;simp only[NM.cells] at X;rw[c] at X;have a8:=Z c;clear u q p o g T S hf l;by_cases E:a.every=0\/a.writes+1<a.every
  .have hp:a.counted m=(none,{a with writes:=a.writes+1},m):=by unfold NM.counted;rw[Mg E]
   have i:=Z hp;clear hp;have d:∀ y:World,Fr Nil (w1.setCell ⟨L.nb,5,none⟩ (.int .i64 ((a.writes:Int)+1))) y->NStep F J G r {a with writes:=a.writes+1} m y:=fun y f=>(HS.out.trans z.out).Ha f;have j:=Z d;clear d;by_cases D:a.every=0
   .have g1:((a.every:Int)==0)=true:=by simp;omega
    clear E D c;go_wp2_with fail
    go_quiet (fail)
    go_wp2
    go_ret;refine⟨f,_,r,rfl,HF.out,?_,?_⟩
    .rw[s.out,i.out];rfl
    .rw[s.out,i.out];exact j.out _ (by exact z8)
   .have g1:((a.every:Int)==0)=false:=by simp;omega
    have g2:a.writes+1<a.every:=E.resolve_left D;have g3:decide ((a.writes:Int)+1<a.every)=true:=by simp;omega
    have g4:decide (a.writes+1<a.every)=true:=by simp;omega
    clear E D c;go_wp2_with fail
    go_quiet (fail)
    go_wp2
    go_ret;refine⟨f,_,r,rfl,HF.out,?_,?_⟩
    .rw[s.out,i.out];rfl
    .rw[s.out,i.out];exact j.out _ (by exact z8)
  .have hp:a.counted m=NM.sync {a with writes:=0} m:=by unfold NM.counted;rw[Ma E]
   have i:=Z hp;have g1:((a.every:Int)==0)=false:=by simp;omega
   have g2:¬a.writes+1<a.every:=fun h=>E (.inr h);have g3:decide ((a.writes:Int)+1<a.every)=false:=by simp;omega
   have g4:decide (a.writes+1<a.every)=false:=by simp;omega
   have d:∀ y:World,Fr Nil (w1.setCell ⟨L.nb,5,none⟩ (.int .i64 ((a.writes:Int)+1))) y->NStep F J G r {a with writes:=0} m (y.setCell ⟨L.nb,5,none⟩ (.int .i64 0)):=by
    intro y f;have h1:=(HS.out.trans z.out).Ha f;have h2:=NStep.set h1.Hl (N':={a with writes:=0}) 5 (.int .i64 0) (by simp[NM.cells]) rfl rfl;rw[c] at h2;exact h1.trans h2
   have j:=Z d;have V:(NM.sync {a with writes:=0} m)=((a.J.Hg m).1,{a with writes:=0,J:=(a.J.Hg m).2.1},(a.J.Hg m).2.2):=rfl;have HC:=Z V;clear E c hp d V;go_wp2_with fail
   go_quiet (fail)
   go_wp2_with fail;generalize hq:World.drewN (w1.setCell ⟨L.nb,5,none⟩ (.int .i64 ((a.writes:Int)+1))) _=y;have o:=j.out y (by rw[<- hq];exact z8);clear hq;have HE:=Z o;refine(XB r.jb r.db a.J r.LD m _ o.Hl.log o.Hl.Hu).mono ?_;rintro e w3 ⟨v3,a6,rfl,K,R⟩;have a5:=Z (HE.out.trans (NStep.Gh HE.out.Hl R));have a2:=Z K;clear o R K;go_wp2_with fail;refine(zo _ _ _ w3 a2.out).mono ?_;rintro e w4 ⟨v4,rfl,Q,Y⟩;have a3:=Z Q;have a4:=Z (a5.out.Ha Y);clear Q Y
   go_wp2
   go_ret;refine⟨f,v4,{r with LD:=a6},rfl,HF.out,?_,?_⟩
   .rw[s.out,i.out,HC.out];exact a3.out
   .rw[s.out,i.out,HC.out];exact a4.out
theorem WG(B:Nat)(L:NL)(N:NM)(M:DM)(a:ByteArray)(x:Fact)(c:Value)(w:World)(h:NRep w L N M)(l:Env B L M w)(q:FRep w c x)(g:FOk x)(d:∀ k,Xm c k->SRead L.LS k\/w.heap.size<=k)
 (b:Y0 N.J M w.heap.size (zj x).size)(o:N.S.keys.length<1099511627776)(m:N.S.hints.length<1000000)(p:N.writes<1000000000000) :
 Calls Tryz.prog 80 #[.pointer (some ⟨L.nb,0,none⟩),.string a,c] w fun e i =>
  ∃ f v j,e=.returned v/\w.heap.size<=f/\ERep i v (N.change M x f).1/\NStep L M w j (N.change M x f).2.1 (N.change M x f).2.2 i :=
 Va B L M w L N M a x c w (NStep.nil h (O _ _)) l q g d b o m p
def NM.Hk(N:NM)(M:DM)(f:Nat):Option Int × NM × DM :=
 match (N.write M (.inl (N.given+16)) f).1 with
 | some n=>(some n,(N.write M (.inl (N.given+16)) f).2.1,(N.write M (.inl (N.given+16)) f).2.2)
 | none=>NM.sync (N.write M (.inl (N.given+16)) f).2.1 (N.write M (.inl (N.given+16)) f).2.2
theorem RB(B:Nat)(L:NL)(N:NM)(M:DM)(w:World)(h:NRep w L N M)(i:Env B L M w)
 (j:Y0 N.J M w.heap.size (zj (.inl (N.given+16))).size)(E:N.S.keys.length<1099511627776)(Y:N.S.hints.length<1000000)(hg:N.given<1000000000000) :
 Calls Tryz.prog 162 #[.pointer (some ⟨L.nb,0,none⟩)] w fun e F =>
  ∃ f v R,e=.returned v/\w.heap.size<=f/\ERep F v (N.Hk M f).1/\NStep L M w R (N.Hk M f).2.1 (N.Hk M f).2.2 F:=by
 have HW:Hid (∀ g,Calls Tryz.prog 129 #[.pointer (some ⟨L.nb,0,none⟩),.string g,.iface 220 (.agg #[.int .i64 ((N.given:Int)+16)])] w fun e F =>
  ∃ f v R,e=.returned v/\w.heap.size<=f/\ERep F v (N.write M (.inl (N.given+16)) f).1/\NStep L M w R (N.write M (.inl (N.given+16)) f).2.1 (N.write M (.inl (N.given+16)) f).2.2 F):=fun g =>
  RA B L N M g (.inl (N.given+16)) _ w h i (show _=_ by simp) (show N.given+16<9223372036854775808 by omega) (fun k hb=>by obtain⟨v,G,e⟩:=hb;simp at G;subst G;exact absurd e (by simp[Value.ownBlock])) j E Y
 have a1:IntKind.i64.wrap ((N.given:Int)+16)=(N.given:Int)+16:=by rw[MC];omega
 have a0:w.cell? ⟨L.nb,3,none⟩=some (.int .i64 N.given):=h.IR.cell 3;clear h i j E Y hg;go_enter Tryz.func162,Tryz.ntmps162;go_wp2_with fail;refine(HW.out _).mono ?_;rintro e w1 ⟨f,v1,m,rfl,T,p,a⟩;have d:∀ n,(N.write M (.inl (N.given+16)) f).1=some n->N.Hk M f=(some n,(N.write M (.inl (N.given+16)) f).2.1,(N.write M (.inl (N.given+16)) f).2.2):=by intro n h;unfold NM.Hk;rw[h]
 have c:(N.write M (.inl (N.given+16)) f).1=none->N.Hk M f=NM.sync (N.write M (.inl (N.given+16)) f).2.1 (N.write M (.inl (N.given+16)) f).2.2:=by intro h;unfold NM.Hk;rw[h]
 generalize A:(N.write M (.inl (N.given+16)) f).2.1=o at a d c;generalize z:(N.write M (.inl (N.given+16)) f).2.2=s at a d c;have r:=Z a;have X:=Z T;have l:=a.same.nb;cases i:(N.write M (.inl (N.given+16)) f).1 with
 | some n =>
  rw[i] at p;have q:=Z (d n i);have HE:=Z p;obtain⟨k,E⟩:=p;obtain⟨t,b,rfl⟩:=E.form;clear i d c E a A z T l
  go_wp2
  go_ret;refine⟨f,.iface t (.pointer (some ⟨b,0,none⟩)),m,rfl,X.out,?_,?_⟩
  .rw[q.out];exact HE.out
  .rw[q.out];exact r.out
 | none =>
  rw[i] at p;have q:=Z (c i);have G:v1=.nilIface:=p;subst G;have hc:w1.cell? ⟨L.nb,1,none⟩=some (.pointer (some ⟨m.jb,0,none⟩)):=by rw[<- l];exact a.Hl.IR.cell 1
  have C:(NM.sync o s)=((o.J.Hg s).1,{o with J:=(o.J.Hg s).2.1},(o.J.Hg s).2.2):=rfl;have V:=Z C;clear i d c p a A z T C l;go_wp2_with fail;refine(XB m.jb m.db o.J m.LD s _ r.out.Hl.log r.out.Hl.Hu).mono ?_;rintro e w3 ⟨v3,S,rfl,u,y⟩;have Q:=Z (r.out.trans (NStep.Gh r.out.Hl y));have I:=Z u;clear y u;go_wp2_with fail;refine(zo _ _ _ w3 I.out).mono ?_;rintro e w4 ⟨v4,rfl,x,D⟩;have J:=Z x;have K:=Z (Q.out.Ha D);clear x D
  go_wp2
  go_ret;refine⟨f,v4,{m with LD:=S},rfl,X.out,?_,?_⟩
  .rw[q.out,V.out];exact J.out
  .rw[q.out,V.out];exact K.out
def NM.next(N:NM)(M:DM)(f:Nat):Option Int × Nat × NM × DM :=
 if N.given<N.S.IQ then(none,N.given+1,{N with given:=N.given+1},M) else
 match (N.Hk M f).1 with
 | some n=>(some n,0,(N.Hk M f).2.1,(N.Hk M f).2.2)
 | none=>(none,N.given+1,{(N.Hk M f).2.1 with given:=N.given+1},(N.Hk M f).2.2)
theorem RC(N:NM)(M:DM)(f:Nat):(N.Hk M f).2.1.given=N.given:=by
 unfold NM.Hk;split <;> rfl
theorem Env.nil{B:Nat}{L:NL}{M:DM}{w w':World}(h:Env B L M w)(f:Fr Nil w w'):Env B L M w' :=
 ⟨h.tab.fr (S:=Nil) h.le f (fun _ h=>absurd h id),NR h.le f.size,h.Hw⟩
theorem Y0.mono{J:JM}{M:DM}{H a n:Nat}(h:Y0 J M H n)(c:H<=a):Y0 J M a n :=
 ⟨h.bytes,h.size,h.last,h.IW,h.dir,fun f e=>h.room f (NR c e)⟩
theorem QD(B:Nat)(L:NL)(N:NM)(M:DM)(w:World)(h:NRep w L N M)(j:Env B L M w)
 (s:Y0 N.J M w.heap.size (zj (.inl (N.given+16))).size)(S:N.S.keys.length<1099511627776)(hh:N.S.hints.length<1000000)(hg:N.given<1000000000000) :
 Calls Tryz.prog 123 #[.pointer (some ⟨L.nb,0,none⟩)] w fun e D =>
  ∃ f v Y,e=.returned (.tuple #[.int .i64 (N.next M f).2.1,v])/\w.heap.size<=f/\ERep D v (N.next M f).1/\NStep L M w Y (N.next M f).2.2.1 (N.next M f).2.2.2 D:=by
 have HW:Hid (∀ o,Fr Nil w o->Calls Tryz.prog 162 #[.pointer (some ⟨L.nb,0,none⟩)] o fun e D =>
  ∃ f v Y,e=.returned v/\o.heap.size<=f/\ERep D v (N.Hk M f).1/\NStep L M o Y (N.Hk M f).2.1 (N.Hk M f).2.2 D) :=
  fun o f=>RB B L N M o (h.nil f) (j.nil f) (s.mono f.size) S hh hg
 have V:∀ n,Calls Tryz.prog 98 #[.pointer (some ⟨L.sb,0,none⟩)] (w.drewN n) fun e D=>e=.returned (.int .i64 N.S.IQ)/\D=w.drewN n:=fun n=>WF L.sb L.LS N.S (w.drewN n) (h.held.nil z8);have I:=Z V;have HH:=Z h;have hz:=h.IR.frozen;have a0:w.cell? ⟨L.nb,3,none⟩=some (.int .i64 N.given):=h.IR.cell 3;have a3:w.cell? ⟨L.nb,2,none⟩=some (.pointer (some ⟨L.sb,0,none⟩)):=h.IR.cell 2;have a4:IntKind.i64.wrap ((N.given:Int)+1)=(N.given:Int)+1:=by rw[MC];omega
 have r:∀ (F:NM) (J:DM) (E:World) (q:NL),NStep L M w q F J E->∀ w2,Fr Nil E w2->∀ g:Nat,NStep L M w q {F with given:=g} J (w2.setCell ⟨q.nb,3,none⟩ (.int .i64 g)):=by
  intro F J E q hs w2 f g;have h1:=hs.Ha f;exact h1.trans (NStep.set h1.Hl (N':={F with given:=g}) 3 (.int .i64 g) (by simp[NM.cells]) rfl rfl)
 have p:=Z r;clear h j s S hh hg V r;by_cases T:N.given<N.S.IQ
 .have hp:∀ f,N.next M f=(none,N.given+1,{N with given:=N.given+1},M):=by intro f;unfold NM.next;rw[Mg T]
  have i:=Z hp;have g1:decide ((N.given:Int)>=N.S.IQ)=false:=by simp;omega
  have g2:decide ((N.S.IQ:Int)<=N.given)=false:=by simp;omega
  have g3:decide (N.S.IQ<=N.given)=false:=by simp;omega
  have g4:¬N.S.IQ<=N.given:=by omega
  clear T hp;go_enter Tryz.func123,Tryz.ntmps123;go_wp2_with fail
  go_quiet ((go_at_call 98;exact Calls.quiet_of_same (I.out _)))
  go_wp2_with fail;have c:=p.out N M (w.drewN nq) L (NStep.nil HH.out z8) (w.drewN nq) (O _ _) (N.given+1);have a:((N.given+1:Nat):Int)=(N.given:Int)+1:=by simp
  rw[a] at c;go_ret2;refine⟨w.heap.size,.nilIface,L,by rw[i.out,a];rfl,NS _,by rw[i.out];rfl,?_⟩;rw[i.out];exact c
 .have hp1:∀ f n,(N.Hk M f).1=some n->N.next M f=(some n,0,(N.Hk M f).2.1,(N.Hk M f).2.2):=by intro f n h;unfold NM.next;rw[Ma T,h]
  have C:∀ f,(N.Hk M f).1=none->N.next M f=(none,N.given+1,{(N.Hk M f).2.1 with given:=N.given+1},(N.Hk M f).2.2):=by intro f h;unfold NM.next;rw[Ma T,h]
  have g1:decide ((N.given:Int)>=N.S.IQ)=true:=by simp;omega
  have g2:decide ((N.S.IQ:Int)<=N.given)=true:=by simp;omega
  have g3:decide (N.S.IQ<=N.given)=true:=by simp;omega
  have g4:N.S.IQ<=N.given:=by omega
  clear T;go_enter Tryz.func123,Tryz.ntmps123;go_wp2_with fail
  go_quiet ((go_at_call 98;exact Calls.quiet_of_same (I.out _)))
  go_wp2_with fail;generalize hq:w.drewN nq=o;have R:Fr Nil w o:=by rw[<- hq];exact z8
  have x:=Z R;clear hq R;refine(HW.out o x.out).mono ?_;rintro e E ⟨f,v1,q,rfl,hf,G,d⟩;have X:=Z ((NStep.nil HH.out x.out).trans d);have HF:=Z (NR x.out.size hf);have z:=Z (hp1 f);have y:=Z (C f);have m:=d.same.nb;have l:=RC N M f;generalize Q:(N.Hk M f).2.1=F at d z y X l;generalize K:(N.Hk M f).2.2=J at d z y X;cases j:(N.Hk M f).1 with
  | some n =>
   rw[j] at G;have i:=Z (z.out n j);have HE:=Z G;obtain⟨k,S⟩:=G;obtain⟨t,b,rfl⟩:=S.form;clear j hp1 C S d Q K hf m l
   go_wp2
   go_ret2;refine⟨f,.iface t (.pointer (some ⟨b,0,none⟩)),q,by rw[i.out];rfl,HF.out,?_,?_⟩
   .rw[i.out];exact HE.out
   .rw[i.out];exact X.out
  | none =>
   rw[j] at G;have i:=Z (y.out j);have hv:v1=.nilIface:=G;subst hv;have hc:=d.Hl.IR.cell 3;have a1:=d.Hl.IR.frozen;rw[m] at hc a1;have a2:E.cell? ⟨L.nb,3,none⟩=some (.int .i64 N.given):=by rw[hc,<- l];rfl
   have c:=p.out F J E q X.out E (O _ _) (N.given+1);have a:((N.given+1:Nat):Int)=(N.given:Int)+1:=by simp
   rw[a,m] at c;have A:=Z c;have u:=Z a;clear j hp1 C d Q K hf m l hc G c a0 a;go_wp2_with fail;go_ret2;refine⟨f,.nilIface,q,by rw[i.out,u.out];rfl,HF.out,by rw[i.out];rfl,?_⟩;rw[i.out];exact A.out
def zz(k:ByteArray):Bool:=decide (0<k.size/\k.size<=32)
theorem Vb(k:ByteArray):k.size=k.toList.length:=by
 rw[Jz,LJ];rfl
theorem XD(k:ByteArray)(w:World):Calls Tryz.prog 69 #[.string k] w fun e g=>e=.returned (.bool (zz k))/\g=w:=by
 have a:=Vb k;by_cases d:k.toList=[]
 .have b:zz k=false:=by rw[d] at a;simp at a;simp[zz,a]
  have c:=Z b;clear a b;go_enter Tryz.func69,Tryz.ntmps69
  go_wp2
  go_ret;exact⟨by rw[c.out];rfl,rfl⟩
 .have hs:0<k.size:=by rw[a];exact List.length_pos_iff.mpr d
  have f:k.toList.isEmpty=false:=by simpa using d
  have b:zz k=(!k.toList.isEmpty&&decide ((k.size:Int)<=32)):=by rw[f];simp only[zz,hs,true_and,Bool.not_false,ID];congr 1;exact propext (by omega)
  have c:=Z b;clear a hs f b;go_enter Tryz.func69,Tryz.ntmps69
  go_wp2
  go_ret;exact⟨by rw[c.out];rfl,rfl⟩
def zM(n:Int):Bool:=decide (0<=n/\n<4)
theorem Xn(n:Int)(w:World):Calls Tryz.prog 131 #[.int .i64 n] w fun e b=>e=.returned (.bool (zM n))/\b=w:=by
 go_enter Tryz.func131,Tryz.ntmps131;by_cases a:0<=n
 .by_cases h1:n<4
  .go_wp2
   go_ret;exact⟨by simp[zM,a,h1],rfl⟩
  .go_wp2
   go_ret;exact⟨by simp[zM,a,h1],rfl⟩
 .go_wp2
  go_ret;exact⟨by rw[zM,Jv (by omega)];rfl,rfl⟩
theorem T7(L:NL)(N:NM)(M:DM)(n:Int)(w:World)(h:NRep w L N M):Calls Tryz.prog 83 #[.pointer (some ⟨L.nb,0,none⟩),.int .i64 n] w fun e d=>e=.returned (.bool (zM n&&decide (n≠N.self)))/\d=w:=by
 have f:w.cell? ⟨L.nb,0,none⟩=some (.int .i64 N.self):=h.IR.cell 0;clear h;go_enter Tryz.func83,Tryz.ntmps83;cases h0:zM n with
 | false =>
  have a:=Z (Xn n w);rw[h0] at a;clear h0
  go_wp2_with (refine a.out.mono ?_;rintro e c ⟨rfl,rfl⟩)
  go_ret;exact⟨rfl,rfl⟩
 | true =>
  have a:=Z (Xn n w);rw[h0] at a;clear h0;by_cases b:n=N.self
  .subst b
   go_wp2_with (refine a.out.mono ?_;rintro e c ⟨rfl,rfl⟩)
   go_ret;exact⟨by simp,rfl⟩
  .have h2:(n==(N.self:Int))=false:=by simpa using b
   go_wp2_with (refine a.out.mono ?_;rintro e c ⟨rfl,rfl⟩)
   go_ret;exact⟨by simp[b],rfl⟩
theorem T8(n:Value)(w:World):Calls Tryz.prog 82 #[n] w fun e a=>e=.returned (.slice none 0 0)/\a=w:=by
 go_enter Tryz.func82,Tryz.ntmps82
 go_wp2
 go_ret;exact⟨rfl,rfl⟩
theorem Ud(p:Value)(w:World):Calls Tryz.prog 79 #[p,.nilIface] w fun e a=>e=.returned (.int .i64 0)/\a=w:=by
 go_enter Tryz.func79,Tryz.ntmps79
 go_wp2
 go_ret;exact⟨rfl,rfl⟩
end Go.Proofs.YtkhnggkkiefcdaaGreatDoor
