/- larder: joined texts -/
import Derived.Test.YtkhnggkkiefcdaaGreatDoorSFAA
import Derived.Test.YtkhnggkkiefcdaaGreatDoorSFAE
import Derived.Test.YtkhnggkkiefcdaaGreatDoorChecked
import Derived.Lib.LazyBuf
namespace Go.Proofs.YtkhnggkkiefcdaaGreatDoor
open Go.RowKit
set_option maxRecDepth 100000
set_option maxHeartbeats 8000000
def SM.holds(S:SM)(key:ByteArray)(l:List Ver):SM:={S with keys:=if l=[] then YI S.keys key else Y0 S.keys key l}
theorem SRep.kept{w f:World}{b:Nat}{L:SL}{S:SM}{a:List (ByteArray × Value)}{keys:List (ByteArray × List Ver)}(h:SRep w b L S)(hs:YE w b 161 L.kv [L.hv,.int .i64 S.Ba] a f)
 (m:Pair (VRow f) a keys)(X:Nat->Prop)(o:∀ k,(∃ e∈a,e.2.ownBlock=some k)->SRead L k\/X k):SStep w b L {S with keys:=keys} X f:=by
 obtain⟨p,i,j,g,l⟩:=hs;have d:∀ {k},L.hv.ownBlock=some k->k≠b:=fun c e=>zd h.hint h.CY (by decide) (by rw[c,e]);refine⟨{L with kv:=p,BR:=a},⟨i,j,m,zb h.hint g (fun k c e=>?_)⟩,g.mono (fun k _ e=>e.imp id .inl),fun k c=>?_,fun k c=>o k c⟩
 .rcases e with e|e
  .exact d c e
  .exact Zc h.hint h.Ah.own (by decide) c e
 .rcases c with c|c|c
  .exact .inl (.inl c)
  .rcases l k c with h1|h1
   .exact .inl (.inr (.inl h1))
   .exact .inr h1
  .exact .inl (.inr (.inr c))
theorem YE.yJ{w f:World}{b:Nat}{L:SL}{S:SM}{a:List (ByteArray × Value)}(h:SRep w b L S)(hs:YE w b 161 L.kv [L.hv,.int .i64 S.Ba] a f){v:Value}{l:List Ver}(c:VRow w v l):VRow f v l:=by
 obtain⟨o,i,j,g,m⟩:=hs;refine VRow.fr c g (fun k d e=>?_);rcases e with e|e
 .exact zd c h.CY (by decide) (by rw[d,e])
 .exact Zc c h.Ah.own (by decide) d e
theorem YE.of{w c a:World}{b:Nat}{t:TypeId}{v:Value}{rest:List Value}{l:List (ByteArray × Value)}(h:YE c b t v rest l a)(f:Fr Nil w c):YE w b t v rest l a:=by
 obtain⟨v',d,g,i,o⟩:=h;exact⟨v',d,g,(f.mono (fun _ _ e=>absurd e id)).trans i,fun k j=>(o k j).imp id (fun h=>IP f.size h)⟩
theorem SStep.of{w c a:World}{b:Nat}{L:SL}{S:SM}{X:Nat->Prop}(h:SStep c b L S X a)(f:Fr Nil w c):SStep w b L S X a:=by
 obtain⟨L',g,i,j,l⟩:=h;exact⟨L',g,(f.mono (fun _ _ e=>absurd e id)).trans i,fun k d=>(j k d).imp id (fun h=>IP f.size h),l⟩
theorem Pe(key:ByteArray)(X:Value)(l:List Ver)(b:Nat)(L:SL)(S:SM)(w:World)(h:SRep w b L S)(Y:VRow w X l)(I:S.keys.length<1099511627776) :
 Calls Tryz.prog 287 #[.agg #[.string key,X],.pointer (some ⟨b,0,none⟩)] w fun e B=>e=.returned (.tuple #[])/\SStep w b L (S.holds key l) (fun k=>X.ownBlock=some k) B:=by
 obtain⟨g,i,rfl⟩:=zc Y;have z:Fr Nil w (w.alloc (.cells #[.string key,.slice g l.length i] 193)):=(O _ _).alloc _;have c:Blk (w.alloc (.cells #[.string key,.slice g l.length i] 193)) w.heap.size [.string key,.slice g l.length i] 193:=Blk.new w [.string key,.slice g l.length i] _;have t:=h.nil z;have s:VRow (w.alloc (.cells #[.string key,.slice g l.length i] 193)) (.slice g l.length i) l:=VRow.fr Y z (fun _ _=>id);have G:L.BR.length<1099511627776:=by rw[h.pair.length];exact I
 by_cases A:l=[]
 .have hz0:((l.length:Int)==0)=true:=by rw[A];rfl
  have E:S.holds key l={S with keys:=YI S.keys key}:=by simp[SM.holds,A]
  rw[E];clear A E;go_enter Tryz.func287,Tryz.ntmps287;go_wp2_with fail;obtain⟨N,D⟩:∃ N,w.heap.size=N:=⟨_,rfl⟩;rw[D] at c |-;obtain⟨j,r⟩:∃ j,w.alloc (.cells #[.string key,.slice g l.length i] 193)=j:=⟨_,rfl⟩;rw[r] at c z t s |-;clear r D;have Q:j.cell? ⟨N,0,none⟩=some (.string key):=by rw[c.cell];rfl
  have u:Hid (∀ y m:World,Fr Nil j y->YE y b 161 L.kv [L.hv,.int .i64 S.Ba] (Xc L.BR key) m->m.cell? ⟨N,0,none⟩=some (.string key)):=by
   rintro y m f ⟨v',_,_,M,_⟩;have C:=t.nil f;have x:=c.fr f id;rw[(x.fr M (fun e=>?_)).cell];rfl;rcases e with e|e
   .exact x.ne C.CY (by decide) e
   .exact zd C.Ah.own x (by decide) e
  have p:=Z t;have HH:=Z h;clear h t c
  go_region_held3 (fun B=>B.cell? ⟨N,0,none⟩=some (.string key)) (first|go_keep|assumption)
   (first
   | (go_at_call 290;refine(RV L.kv _ L.BR key b _ _ ((p.out.nil za).CY) (by decide) ((p.out.nil za).Ah) G).mono ?_;rintro e m ⟨rfl,d⟩;have V:=u.out _ _ za d;have o:=Z (show YE j _ _ _ _ _ m from d.of za);clear d))
  have q:SStep j b L {S with keys:=YI S.keys key} (fun k=>(Value.slice g l.length i).ownBlock=some k) m :=
   p.out.kept o.out ((p.out.pair.mono (fun a _ l T=>YE.yJ p.out o.out T)).del key) _ (fun k ⟨e,R,J⟩=>.inl ⟨e,P9 e R,J⟩)
  have K:=Z (q.of z);clear q
  go_wp2
  exact EB (v:=.tuple #[]) (by simp[results,go_sem]) rfl ⟨rfl,K.out⟩
 .have hz0:((l.length:Int)==0)=false:=by
   have:l.length≠0:=fun e=>A (Hm e);simp;omega
  have E:S.holds key l={S with keys:=Y0 S.keys key l}:=by simp[SM.holds,A]
  rw[E];clear A E;go_enter Tryz.func287,Tryz.ntmps287;go_wp2_with fail;obtain⟨N,D⟩:∃ N,w.heap.size=N:=⟨_,rfl⟩;rw[D] at c |-;obtain⟨j,r⟩:∃ j,w.alloc (.cells #[.string key,.slice g l.length i] 193)=j:=⟨_,rfl⟩;rw[r] at c z t s |-;clear r D;have Q:j.cell? ⟨N,0,none⟩=some (.string key):=by rw[c.cell];rfl
  have a0:j.cell? ⟨N,1,none⟩=some (.slice g l.length i):=by rw[c.cell];rfl
  have u:Hid (∀ y m:World,Fr Nil j y->YE y b 161 L.kv [L.hv,.int .i64 S.Ba] (Yk L.BR key (.slice g l.length i)) m->m.cell? ⟨N,0,none⟩=some (.string key)/\m.cell? ⟨N,1,none⟩=some (.slice g l.length i)):=by
   rintro y m f ⟨v',_,_,M,_⟩;have C:=t.nil f;have x:=c.fr f id;have F:=x.fr M (fun e=>by
    rcases e with e|e
    .exact x.ne C.CY (by decide) e
    .exact zd C.Ah.own x (by decide) e)
   exact⟨by rw[F.cell];rfl,by rw[F.cell];rfl⟩
  have p:=Z t;have HH:=Z h;have HL:=Z s;clear h t c s
  go_region_held3 (fun B=>B.cell? ⟨N,0,none⟩=some (.string key)/\B.cell? ⟨N,1,none⟩=some (.slice g l.length i)) (first|go_keep|assumption)
   (first
   | (go_at_call 291;refine(Mr L.kv _ L.BR key g _ i b _ _ ((p.out.nil za).CY) (by decide) ((p.out.nil za).Ah) G).mono ?_;rintro e m ⟨rfl,d⟩;have V:=u.out _ _ za d;have o:=Z (show YE j _ _ _ _ _ m from d.of za);clear d))
  have q:SStep j b L {S with keys:=Y0 S.keys key l} (fun k=>(Value.slice g l.length i).ownBlock=some k) m :=
   p.out.kept o.out ((p.out.pair.mono (fun a _ l T=>YE.yJ p.out o.out T)).set key (YE.yJ p.out o.out HL.out)) _ (fun k ⟨e,R,J⟩=>by
    rcases J0 e R with h|h
    .exact .inl ⟨e,h,J⟩
    .subst h;exact .inr J)
  have K:=Z (q.of z);clear q
  go_wp2
  exact GC (v:=.tuple #[]) (by simp[results,go_sem]) rfl ⟨rfl,K.out⟩
theorem It:((Tryz.prog.info? 75).map fun i=>(i.zero.map (·.cells.size),i.size,i.bytes))=some (some 2,2,24):=by kernel_rfl
theorem Pf(v:Value)(n:Nat)(o:List Value)(w:World)(d:w.ownsRow 0 75 2 v n o)(F:∀ u∈o,u.oneCell'=true)(C:n*24<=140737488355328) :
 Calls Tryz.prog 128 #[v] w fun e f =>
  ∃ b,e=.returned b/\f.ownsRow 0 75 2 b n o/\Fr Nil w f/\(∀ k,b.ownBlock=some k->w.heap.size<=k):=by
 have M:∀ (w:World) (a:Option Addr) (n c:Nat),(binOp .eql 66 (.slice a n c) (.slice none 0 0)).run Tryz.prog w=.ok (.bool a.isNone) w:=fun w a n c=>by exact Lib.run_eql_slice_nil (h:=FA) ..
 rcases Yn d with⟨rfl,rfl,rfl⟩|⟨g,r,c,rfl,D,Q,z,I,L⟩
 .go_enter Tryz.func128,Tryz.ntmps128
  go_wp2
  go_ret;exact⟨_,rfl,Hc w 0 _ _,O _ _,fun k q=>by simp[Value.ownBlock] at q⟩
 .have hl:=d.1
  have y:Blk (w.alloc (.cells #[] 75)) w.heap.size [] 75:=Blk.new w [] _;have t:(w.alloc (.cells #[] 75)).ownsRow 0 75 2 (.slice (some ⟨w.heap.size,0,none⟩) 0 0) 0 []:=ZA y (IQ _) (Hg _) (by simp) (by simp);have m:∀ j u,o[j]?=some u->(w.alloc (.cells #[] 75)).cell? ((⟨g,0,none⟩:Addr).add j)=some u:=by
   intro j u B;have J:=(Hp.1 B).1;rw[Gh,Gg,(D.alloc _).cell];rw[<- L,Gx (by omega)] at B;exact B
  have x:∀ ty,∃ b f,(Builtin.append_ #[66,66] ty #[.slice (some ⟨w.heap.size,0,none⟩) 0 0,.slice (some ⟨g,0,none⟩) n r]).run Tryz.prog (w.alloc (.cells #[] 75))=.ok b f/\App (w.alloc (.cells #[] 75)) (.slice (some ⟨w.heap.size,0,none⟩) 0 0) 75 2 (0+n) ([]++o) b f:=fun ty =>
   zt (P:=Tryz.prog) 66 ty 75 2 24 FA It (by omega) _ 0 [] t ⟨g,0,none⟩ n r o hl m F (by unfold maxLen at *;omega) (by omega)
  have l:∀ b f,App (w.alloc (.cells #[] 75)) (.slice (some ⟨w.heap.size,0,none⟩) 0 0) 75 2 (0+n) ([]++o) b f ->
   ∃ p,Ending.returned b=.returned p/\f.ownsRow 0 75 2 p n o/\Fr Nil w f/\(∀ k,p.ownBlock=some k->w.heap.size<=k):=by
   rintro b f ⟨K,A,s⟩;refine⟨b,rfl,by simpa using K,((O Nil w).alloc _).trans' ((Fr.Bv A).mono (fun i _ h=>h)) (fun i N h=>?_),fun k q=>?_⟩
   .simp[Value.ownBlock] at h;omega
   .rcases s with s|s
    .rw[s] at q;simp[Value.ownBlock] at q;omega
    .rw[s] at q;simp at q;omega
  have E:=Z l;clear l m t y d D;unfold maxLen at z;go_enter Tryz.func128,Tryz.ntmps128
  go_wp2_with (at_builtin;go_must (refine zk rfl _ _ _ _ rfl _ _ (by rfl) (by rfl) (x _) ?_);rintro b f G)
  go_ret;exact E.out _ _ G
abbrev Fact:=Sum Nat (Sum (ByteArray × List Ver) (Sum (Nat × ByteArray) Unit))
def FRep(w:World)(a:Value):Fact->Prop
 | .inl n=>a=.iface 220 (.agg #[.int .i64 n])
 | .inr (.inl x)=>∃ b,a=.iface 193 (.agg #[.string x.1,b])/\VRow w b x.2
 | .inr (.inr (.inl x))=>a=.iface 138 (.agg #[.int .i64 x.1,.string x.2])
 | .inr (.inr (.inr _))=>a=.iface 135 (.agg #[])
def WA(b:Value)(k:Nat):Prop :=
 match b with
 | .iface _ (.agg a)=>∃ v∈a.toList,v.ownBlock=some k
 | _=>False
def SM.enter(S:SM):Fact->SM
 | .inl n=>{S with Ba:=n}
 | .inr (.inl x)=>S.holds x.1 x.2
 | .inr (.inr (.inl x))=>{S with hints:=S.hints++[x]}
 | .inr (.inr (.inr _))=>{S with hints:=S.hints.drop 1}
theorem FRep.fr{S:Nat->Prop}{w w':World}{c:Value}{f:Fact}(h:FRep w c f)(fr:Fr S w w')(g:∀ k,WA c k->¬S k):FRep w' c f:=by
 rcases f with n|x|x|x
 .exact h
 .obtain⟨lv,rfl,hv⟩:=h
  exact⟨lv,rfl,VRow.fr hv fr (fun k e=>g k ⟨lv,by simp,e⟩)⟩
 .exact h
 .exact h
theorem SStep.mono{w w':World}{b:Nat}{L:SL}{S:SM}{X Y:Nat->Prop}(h:SStep w b L S X w')(f:∀ k,X k->Y k):SStep w b L S Y w':=by
 obtain⟨L',e,g,o,r⟩:=h;exact⟨L',e,g,o,fun k c=>(r k c).imp id (f k)⟩
theorem XA(f:Fact)(i:Value)(b:Nat)(L:SL)(S:SM)(w:World)(h:SRep w b L S)(o:FRep w i f)(j:S.keys.length<1099511627776)(a:S.hints.length<1000000) :
 Calls Tryz.prog 96 #[.pointer (some ⟨b,0,none⟩),i] w fun e w'=>e=.returned (.tuple #[])/\SStep w b L (S.enter f) (WA i) w':=by
 rcases f with n|⟨k,l⟩|⟨q,c⟩|x
 .have hfv:i=.iface 220 (.agg #[.int .i64 n]):=o
  subst hfv;have d:=Z (Pb n b L S w h);clear h;go_enter CL,Cz;go_wp2_with fail;refine d.out.mono ?_;rintro e p ⟨rfl,hs⟩;have g:=Z hs;clear hs
  go_wp2
  exact GC (v:=.tuple #[]) (by simp[results,go_sem]) rfl ⟨rfl,g.out.mono (fun _ h=>absurd h id)⟩
 .obtain⟨m,hfv,hv⟩:∃ m,i=.iface 193 (.agg #[.string k,m])/\VRow w m l:=o
  subst hfv;have d:=Z (Pe k m l b L S w h hv j);clear h hv;go_enter CL,Cz;go_wp2_with fail;refine d.out.mono ?_;rintro e p ⟨rfl,hs⟩;have g:=Z hs;clear hs
  go_wp2
  exact GC (v:=.tuple #[]) (by simp[results,go_sem]) rfl ⟨rfl,g.out.mono (fun _ h=>⟨m,by simp,h⟩)⟩
 .have hfv:i=.iface 138 (.agg #[.int .i64 q,.string c]):=o
  subst hfv;have d:=Z (RX q c b L S w h a);clear h;go_enter CL,Cz;go_wp2_with fail;refine d.out.mono ?_;rintro e p ⟨rfl,hs⟩;have g:=Z hs;clear hs
  go_wp2
  exact GC (v:=.tuple #[]) (by simp[results,go_sem]) rfl ⟨rfl,g.out.mono (fun _ h=>absurd h id)⟩
 .have hfv:i=.iface 135 (.agg #[]):=o
  subst hfv;have d:=Z (Pc b L S w h a);clear h;go_enter CL,Cz;go_wp2_with fail;refine d.out.mono ?_;rintro e p ⟨rfl,hs⟩;have g:=Z hs;clear hs
  go_wp2
  exact GC (v:=.tuple #[]) (by simp[results,go_sem]) rfl ⟨rfl,g.out.mono (fun _ h=>absurd h id)⟩
theorem SRep.getE{w:World}{b:Nat}{L:SL}{S:SM}(h:SRep w b L S)(s:ByteArray):VRow w (getE L.BR s) (zj S.keys s):=by
 unfold Go.Proofs.YtkhnggkkiefcdaaGreatDoor.getE zj;have e:zu L.BR=S.keys.map Prod.fst:=h.pair.keys;rw[e];split
 .rename_i ha
  have d:Z5 zf (zu L.BR) s=true:=by rw[e];exact ha
  obtain⟨c,_⟩:=Xb d;rw[e] at c;have a:low zf (S.keys.map Prod.fst) s<S.keys.length:=by rw[<- h.pair.length];exact c
  have:=h.pair.get _ c a
  simpa [c,a] using this
 .exact Hc w 0 _ _
theorem XJ(key:ByteArray)(b:Nat)(L:SL)(S:SM)(w:World)(h:SRep w b L S)(a:S.keys.length<1099511627776) :
 Calls Tryz.prog 73 #[.pointer (some ⟨b,0,none⟩),.string key] w fun e g=>e=.returned (getE L.BR key)/\Fr Nil w g:=by
 have d:w.cell? ⟨b,0,none⟩=some L.kv:=by rw[h.CY.cell];rfl
 have c:=Z (Mq L.kv L.BR key b w d h.CY.lt h.Ah (by rw[h.pair.length];omega));clear h;go_enter Tryz.func73,Tryz.ntmps73
 go_wp2_with (refine c.out.mono ?_;rintro e i ⟨rfl,f⟩)
 go_ret;exact⟨rfl,f⟩
theorem Tz(b:Nat)(L:SL)(S:SM)(w:World)(h:SRep w b L S) :
 Calls Tryz.prog 88 #[.pointer (some ⟨b,0,none⟩)] w fun e f=>e=.returned (.int .i64 S.keys.length)/\f=w:=by
 have d:w.cell? ⟨b,0,none⟩=some L.kv:=by rw[h.CY.cell];rfl
 have a:=Z (Ms L.kv L.BR b w d h.Ah);have c:=Z h.pair.length;clear h;go_enter Tryz.func88,Tryz.ntmps88
 go_wp2_with (refine a.out.mono ?_;rintro e g ⟨rfl,rfl⟩)
 go_ret;exact⟨by show Ending.returned (.int .i64 (L.BR.length:Int))=_;rw[c.out],rfl⟩
theorem U7(b:Nat)(L:SL)(S:SM)(w:World)(h:SRep w b L S) :
 Calls Tryz.prog 98 #[.pointer (some ⟨b,0,none⟩)] w fun e a=>e=.returned (.int .i64 S.Ba)/\a=w:=by
 have c:=h.CY.cell;clear h;go_enter Tryz.func98,Tryz.ntmps98
 go_wp2
 go_ret;exact⟨rfl,rfl⟩
theorem Xd(b:Nat)(L:SL)(S:SM)(w:World)(h:SRep w b L S) :
 Calls Tryz.prog 78 #[.pointer (some ⟨b,0,none⟩)] w fun e g=>e=.returned (.int .i64 S.hints.length)/\g=w:=by
 have c:=h.CY.cell;obtain⟨i,d,a⟩:=zc h.hint;have f:=zH h.hint;unfold maxLen at f;rw[a] at c;clear h a;go_enter Tryz.func78,Tryz.ntmps78
 go_wp2
 go_ret;exact⟨rfl,rfl⟩
theorem Pg(b:Nat)(L:SL)(S:SM)(w:World)(h:SRep w b L S)(c:S.hints.length<1000000) :
 Calls Tryz.prog 77 #[.pointer (some ⟨b,0,none⟩)] w fun e d=>∃ a,e=.returned a/\d.ownsRow 0 75 2 a S.hints.length (zJ S.hints)/\Fr Nil w d/\(∀ k,a.ownBlock=some k->w.heap.size<=k):=by
 have l:w.cell? ⟨b,1,none⟩=some L.hv:=by rw[h.CY.cell];rfl
 have f:=Z (Pf L.hv S.hints.length (zJ S.hints) w h.hint (WN _) (by omega));clear h;go_enter Tryz.func77,Tryz.ntmps77
 go_wp2_with (refine f.out.mono ?_;rintro e m ⟨a,rfl,g,i,j⟩)
 go_ret;exact⟨a,rfl,g,i,j⟩
structure NM where
 self:Nat
 given:Nat
 every:Nat
 writes:Nat
 readOnly:Bool
 J:JM
 S:SM
structure NL where
 nb:Nat
 jb:Nat
 sb:Nat
 db:Nat
 mv:Value
 LS:SL
 LD:DL
def NM.cells(L:NL)(N:NM):List Value:=[.int .i64 N.self,.pointer (some ⟨L.jb,0,none⟩),.pointer (some ⟨L.sb,0,none⟩),.int .i64 N.given,.int .i64 N.every,.int .i64 N.writes,L.mv,.bool N.readOnly]
structure NRep(w:World)(L:NL)(N:NM)(M:DM):Prop where
 CY:Blk w L.nb (N.cells L) 123
 log:JRep w L.jb L.db N.J
 held:SRep w L.sb L.LS N.S
 Bz:DRep w L.db L.LD M
def NFoot(L:NL)(M:DM)(k:Nat):Prop:=k=L.nb\/k=L.jb\/SFoot L.sb L.LS k\/Foot L.db L.LD M k
theorem NRep.fr{e:Nat->Prop}{w w':World}{L:NL}{N:NM}{M:DM}(h:NRep w L N M)(f:Fr e w w')(c:∀ k,NFoot L M k->¬e k)(o:∀ k,SRead L.LS k->¬e k):NRep w' L N M :=
 ⟨h.CY.fr f (c _ (.inl rfl)),Blk.fr h.log f (c _ (.inr (.inl rfl))),h.held.fr f (fun k g=>c k (.inr (.inr (.inl g)))) o,h.Bz.fr f (fun k g=>c k (.inr (.inr (.inr g))))⟩
theorem NRep.nil{w w':World}{L:NL}{N:NM}{M:DM}(h:NRep w L N M)(f:Fr Nil w w'):NRep w' L N M:=h.fr f (fun _ _=>id) (fun _ _=>id)
structure NL.yZ(L L':NL):Prop where
 nb:L'.nb=L.nb
 jb:L'.jb=L.jb
 sb:L'.sb=L.sb
 db:L'.db=L.db
structure NStep(L:NL)(M:DM)(w:World)(L':NL)(N':NM)(M':DM)(w':World):Prop where
 CZ:NRep w' L' N' M'
 same:NL.yZ L L'
 fr:Fr (NFoot L M) w w'
 BA:∀ k,NFoot L' M' k->NFoot L M k\/w.heap.size<=k
 read:∀ k,SRead L'.LS k->SRead L.LS k\/w.heap.size<=k
theorem NStep.trans{L1 g o:NL}{A x:NM}{r s t:DM}{y w2 z:World}(h:NStep L1 r y g A s w2)(k:NStep g s w2 o x t z):NStep L1 r y o x t z where
 CZ:=k.CZ
 same:=⟨k.same.nb.trans h.same.nb,k.same.jb.trans h.same.jb,k.same.sb.trans h.same.sb,k.same.db.trans h.same.db⟩
 fr:=h.fr.trans' k.fr (fun i c B=>(h.BA i B).resolve_right (by omega))
 BA:=fun i c=>(k.BA i c).elim (h.BA i) (fun e=>.inr (IP h.fr.size e))
 read:=fun i c=>(k.read i c).elim (h.read i) (fun e=>.inr (IP h.fr.size e))
theorem NStep.nil{L:NL}{N:NM}{M:DM}{w w':World}(h:NRep w L N M)(f:Fr Nil w w'):NStep L M w L N M w' :=
 ⟨h.nil f,⟨rfl,rfl,rfl,rfl⟩,f.mono (fun _ _ e=>absurd e id),fun _ c=>.inl c,fun _ c=>.inl c⟩
theorem NStep.Bq{L a:NL}{N':NM}{M b:DM}{w c w':World}(h:NStep L M w a N' b c)(f:Fr Nil c w'):NStep L M w a N' b w':=h.trans (NStep.nil h.CZ f)
theorem NStep.Aa{L:NL}{N:NM}{M g:DM}{f:JM}{c:DL}{w w':World}(h:NRep w L N M)(s:JStep L.jb L.db L.LD M w f c g w'):NStep L M w {L with LD:=c} {N with J:=f} g w':=by
 have a:∀ {k t},Ty w k t->¬DTy t->t≠197->¬(k=L.jb\/Foot L.db L.LD M k):=by
  intro k t b i j d;rcases d with d|d
  .subst d;exact j (b.inj (Blk.ty h.log))
  .exact h.Bz.apart b i d
 refine⟨⟨h.CY.fr s.2.2.1 (a h.CY.ty (by unfold DTy;decide) (by decide)),s.1,h.held.fr s.2.2.1 (fun k b=>?_) (fun k b=>a (h.held.BV b) (by unfold DTy;decide) (by decide)),s.2.1⟩,⟨rfl,rfl,rfl,rfl⟩,s.2.2.1.mono (fun k _ e=>?_),fun k b=>?_,fun k b=>.inl b⟩
 .rcases h.held.BH b with e|e|e
  .exact a e (by unfold DTy;decide) (by decide)
  .exact a e (by unfold DTy;decide) (by decide)
  .exact a e (by unfold DTy;decide) (by decide)
 .rcases e with e|e
  .exact .inr (.inl e)
  .exact .inr (.inr (.inr e))
 .rcases b with e|e|e|e
  .exact .inl (.inl e)
  .exact .inl (.inr (.inl e))
  .exact .inl (.inr (.inr (.inl e)))
  .exact(s.2.2.2 k e).imp (fun h=>.inr (.inr (.inr h))) id
theorem NStep.held{L f:NL}{o:NM}{M l:DM}{S':SM}{X:Nat->Prop}{w j w':World}(h:NStep L M w f o l j)(C:SStep j f.sb f.LS S' X w')(y:∀ k,X k->SRead L.LS k\/w.heap.size<=k) :
 ∃ b,NStep L M w {f with LS:=b} {o with S:=S'} l w':=by
 obtain⟨b,z,g,A,B⟩:=C;have c:=h.CZ;have d:∀ {k t},Ty j k t->t≠161->t≠239->t≠75->¬SFoot f.sb f.LS k:=by
  intro k t a q r s x;rcases c.held.BH x with e|e|e
  .exact q (a.inj e)
  .exact r (a.inj e)
  .exact s (a.inj e)
 refine⟨b,⟨c.CY.fr g (d c.CY.ty (by decide) (by decide) (by decide)),Blk.fr c.log g (d (Blk.ty c.log) (by decide) (by decide) (by decide)),z,c.Bz.fr g (fun k a e=>?_)⟩,⟨h.same.nb,h.same.jb,h.same.sb,h.same.db⟩,h.fr.trans' g (fun k a e=>(h.BA k (.inr (.inr (.inl e)))).resolve_right (by omega)),fun k a=>?_,fun k a=>?_⟩
 .obtain⟨t,ht,hd⟩:=c.Bz.ty a
  unfold DTy at hd;refine d ht ?_ ?_ ?_ e
  all_goals (rcases hd with rfl|rfl|rfl|rfl|rfl <;> decide)
 .rcases a with e|e|e|e
  .exact h.BA k (.inl e)
  .exact h.BA k (.inr (.inl e))
  .exact(A k e).elim (fun e=>h.BA k (.inr (.inr (.inl e)))) (fun e=>.inr (IP h.fr.size e))
  .exact h.BA k (.inr (.inr (.inr e)))
 .exact(B k a).elim (h.read k) (y k)
theorem NRep.apart{w:World}{L:NL}{N:NM}{M:DM}(h:NRep w L N M){k:Nat}{t:TypeId}(a:Ty w k t)(c:t≠123)(d:t≠197)(f:t≠161)(g:t≠239)(i:t≠75)(j:¬DTy t):¬NFoot L M k:=by
 intro b;rcases b with rfl|rfl|b|b
 .exact c (a.inj h.CY.ty)
 .exact d (a.inj (Blk.ty h.log))
 .rcases h.held.BH b with e|e|e
  .exact f (a.inj e)
  .exact g (a.inj e)
  .exact i (a.inj e)
 .exact h.Bz.apart a j b
theorem VRow.step{w w':World}{L b:NL}{N N':NM}{M c:DM}{v:Value}{l:List Ver}(a:VRow w v l)(h:NRep w L N M)(s:NStep L M w b N' c w'):VRow w' v l :=
 VRow.fr a s.fr (fun _ d=>h.apart (zD a d) (by decide) (by decide) (by decide) (by decide) (by decide) (by unfold DTy;decide))
theorem FRep.step{w w':World}{L b:NL}{N N':NM}{M c:DM}{v:Value}{x:Fact}(a:FRep w v x)(h:NRep w L N M)(s:NStep L M w b N' c w'):FRep w' v x:=by
 rcases x with n|x|x|x
 .exact a
 .obtain⟨lv,e,hl⟩:=a
  exact⟨lv,e,hl.step h s⟩
 .exact a
 .exact a
theorem ERep.yX{w b:World}{L c:NL}{N N':NM}{M d:DM}{v:Value}{e:Option Int}(f:ERep w v e)(h:NRep w L N M)(s:NStep L M w c N' d b):ERep b v e :=
 f.fr s.fr (fun _ a=>a.elim (fun a=>h.apart a (by decide) (by decide) (by decide) (by decide) (by decide) (by unfold DTy;decide)) (fun a=>h.apart a (by decide) (by decide) (by decide) (by decide) (by decide) (by unfold DTy;decide)))
theorem NStep.set{L:NL}{N N':NM}{M:DM}{w:World}(h:NRep w L N M)(i:Nat)(v:Value)(o:(N.cells L).set i v=N'.cells L)(g:N'.J=N.J)(j:N'.S=N.S):NStep L M w L N' M (w.setCell ⟨L.nb,i,none⟩ v):=by
 have d:Fr (fun k=>k=L.nb) w (w.setCell ⟨L.nb,i,none⟩ v):=Fr.set (S:=fun k=>k=L.nb) (O _ _) (fun _=>rfl) _;have b:∀ {k t},Ty w k t->t≠123->¬k=L.nb:=fun c f e=>by subst e;exact f (c.inj h.CY.ty)
 refine⟨⟨?_,?_,?_,h.Bz.fr d (fun k c=>?_)⟩,⟨rfl,rfl,rfl,rfl⟩,d.mono (fun _ _ e=>.inl e),fun k c=>.inl c,fun k c=>.inl c⟩
 .rw[<- o];exact h.CY.set i v
 .rw[g];exact Blk.fr h.log d (b (Blk.ty h.log) (by decide))
 .rw[j]
  refine h.held.fr d (fun k c=>?_) (fun k c=>b (h.held.BV c) (by decide));rcases h.held.BH c with e|e|e
  .exact b e (by decide)
  .exact b e (by decide)
  .exact b e (by decide)
 .obtain⟨t,f,hd⟩:=h.Bz.ty c
  unfold DTy at hd;refine b f ?_;rcases hd with rfl|rfl|rfl|rfl|rfl <;> decide
def zh:Fact->ByteArray
 | .inl n=>zo (XX n)
 | .inr (.inl x)=>zo (XY x.1 x.2)
 | .inr (.inr (.inl x))=>zo (Wt x.1 x.2)
 | .inr (.inr (.inr _))=>zo Vc
def FOk:Fact->Prop
 | .inl n=>n<9223372036854775808
 | .inr (.inl x)=>(∀ v∈x.2,v.Nat)/\x.2.length<1000000/\x.1.size<1000000000/\(ZN x.2).length<=100000000000
 | .inr (.inr (.inl x))=>x.1<9223372036854775808/\x.2.size<1000000000
 | .inr (.inr (.inr _))=>True
structure YG(J:JM)(M:DM)(H n:Nat):Prop where
 bytes:n<1000000000000
 size:J.size<1000000000000
 last:J.last+1<1000000000000
 Bj:(J.Bc M).2.Bj.length+1<=1000000000000
 dir:(J.Bc M).2.dir.length+1<=1000000000000
 room:∀ f,H<=f->0<=(J.Be M n f).2.2.part/\(J.Be M n f).2.1.size<1000000000000/\∀ g,g∈(J.Be M n f).2.2.ids->((J.Be M n f).2.2.file g).bytes.length<=1000000000000
def NM.write(N:NM)(M:DM)(x:Fact)(f:Nat):Option Int × NM × DM :=
 ((N.J.append M (zh x) f).2.1,{N with J:=(N.J.append M (zh x) f).2.2.1,S:=if (N.J.append M (zh x) f).1=true then N.S.enter x else N.S},(N.J.append M (zh x) f).2.2.2)
structure Env(B:Nat)(L:NL)(M:DM)(w:World):Prop where
 tab:Xz B w
 le:B<=w.heap.size
 BA:∀ k,Foot L.db L.LD M k->B<=k
theorem J4(v:Value)(w:World):(method 496 220 v "Record").run Tryz.prog w=.ok (307,v) w:=by kernel_rfl
theorem J5(v:Value)(w:World):(method 496 193 v "Record").run Tryz.prog w=.ok (286,v) w:=by kernel_rfl
theorem LK(v:Value)(w:World):(method 496 138 v "Record").run Tryz.prog w=.ok (282,v) w:=by kernel_rfl
theorem J6(v:Value)(w:World):(method 496 135 v "Record").run Tryz.prog w=.ok (274,v) w:=by kernel_rfl
theorem TA(B:Nat)(L0:NL)(M0:DM)(w0:World)(L:NL)(N:NM)(M:DM)(a9:ByteArray)(x:Fact)(fv:Value)(w:World)(h0:NStep L0 M0 w0 L N M w)(he:Env B L M w)(hx:FRep w fv x)(t:FOk x)(K:∀ k,WA fv k->SRead L0.LS k\/w0.heap.size<=k)
 (a4:YG N.J M w.heap.size (zh x).size)(y:N.S.keys.length<1099511627776)(hh:N.S.hints.length<1000000) :
 Calls Tryz.prog 129 #[.pointer (some ⟨L.nb,0,none⟩),.string a9,fv] w fun e w' =>
  ∃ f v L',e=.returned v/\w.heap.size<=f/\ERep w' v (N.write M x f).1/\NStep L0 M0 w0 L' (N.write M x f).2.1 (N.write M x f).2.2 w':=by
 have h:=h0.CZ;have a3:=Z h0;have b2:w.cell? ⟨L.nb,1,none⟩=some (.pointer (some ⟨L.jb,0,none⟩)):=h.CY.cell 1;have HK:Hid (∀ w',Fr Nil w w'->w'.cell? ⟨L.nb,1,none⟩=some (.pointer (some ⟨L.jb,0,none⟩))):=by
  intro w' J;exact(h.CY.fr J id).cell 1
 have Q:=Z he;have H:=Z h;have HX:=Z hx;have b1:=Z t;have b:=Z a4;clear he h a4 h0;rcases x with n|⟨key,l⟩|⟨to,j⟩|u
 .have hfv:fv=.iface 220 (.agg #[.int .i64 n]):=hx
  subst hfv;have HR:=Z (fun wx=>QV n t wx);have hw:N.write M (Sum.inl n)=fun f=>((N.J.append M (zh (Sum.inl n)) f).2.1,{N with J:=(N.J.append M (zh (Sum.inl n)) f).2.2.1,S:=if (N.J.append M (zh (Sum.inl n)) f).1=true then N.S.enter (Sum.inl n) else N.S},(N.J.append M (zh (Sum.inl n)) f).2.2.2):=rfl;have r:=Z hw;generalize i:zh (Sum.inl n)=p at b r;have X:Hid (zo (XX n)=p):=i;have a6:=b.out.bytes;have hm:=J4;generalize a2:(Sum.inl n:Fact)=x at HX r K hw;clear i hw hx t a2;go_enter CA,Cf;go_wp2_with fail
  go_region_held3 (fun w'=>w'.cell? ⟨L.nb,1,none⟩=some (.pointer (some ⟨L.jb,0,none⟩))) (first|assumption|go_keep|exact HK.out _ za)
   (first
   | (go_at_call 164;refine(X9 B L.jb L.db N.J L.LD M p b.out.bytes b.out.size b.out.last _ (Blk.fr (S:=Nil) H.out.log (a.trans za) id) (H.out.Bz.nil (a.trans za)) (Q.out.tab.fr (S:=Nil) Q.out.le (a.trans za) (fun _ h=>absurd h id)) (IP Q.out.le (Fr.size (S:=Nil) (a.trans za))) Q.out.BA b.out.Bj b.out.dir (fun f J=>b.out.room f (IP (Fr.size (S:=Nil) (a.trans za)) J))).mono ?_;rintro e s ⟨f,v3,D,rfl,I,E,o⟩;have A:Hid (w.heap.size<=f):=IP (Fr.size (S:=Nil) (a.trans za)) I;have C:Hid (NStep L M w _ _ _ s):=(NStep.nil H.out (a.trans za)).trans (NStep.Aa (H.out.nil (a.trans za)) o);have c:Hid (NStep L0 M0 w0 _ _ _ s):=(a3.out.Bq (a.trans za)).trans (NStep.Aa (H.out.nil (a.trans za)) o);have a8:s.cell? ⟨L.nb,1,none⟩=some (.pointer (some ⟨L.jb,0,none⟩)):=c.out.CZ.CY.cell 1;have z:=Z E;clear E o I)
   | (go_at_call 307;refine(HR.out _).mono ?_;rintro e w2 ⟨rfl,a1⟩;have a:Fr Nil w w2:=Fr.trans za a1;have a7:=HK.out w2 a;rw[X.out]))
  have a5:s.cell? ⟨L.nb,2,none⟩=some (.pointer (some ⟨L.sb,0,none⟩)):=c.out.CZ.CY.cell 2;cases hb:(N.J.append M p f).1 with
  | true =>
   have R:=Z hb;have HT:=Z (XA x _ L.sb L.LS N.S s c.out.CZ.held (HX.out.step H.out C.out) y hh);clear hb;go_wp2_with fail;refine HT.out.mono ?_;rintro e w4 ⟨rfl,hT⟩;obtain⟨a0,G⟩:=c.out.held hT K;have F:=z.out.fr (w':=w4) (by obtain⟨_,_,q,_⟩:=hT;exact q) (fun k y J=>by
    rcases c.out.CZ.held.BH J with e|e|e <;> rcases y with y|y <;> exact absurd (y.inj e) (by decide))
   have Y:=Z G;have T:=Z F;clear hT G F HT;go_wp2_with fail;refine(zK _ _ _ w4 T.out).mono ?_;rintro e w5 ⟨v5,rfl,d,g⟩;have m:=Z d;have V:=Z (Y.out.Bq g);clear d g
   go_wp2
   go_ret;refine⟨f,v5,{L with LD:=D,LS:=a0},rfl,A.out,?_,?_⟩
   .rw[r.out];exact m.out
   .rw[r.out];simp only[R.out,Gi];exact V.out
  | false =>
   have R:=Z hb;clear hb;go_wp2_with fail;refine(zK _ _ _ s z.out).mono ?_;rintro e w5 ⟨v5,rfl,d,g⟩;have m:=Z d;have V:=Z (c.out.Bq g);clear d g
   go_wp2
   go_ret;refine⟨f,v5,{L with LD:=D},rfl,A.out,?_,?_⟩
   .rw[r.out];exact m.out
   .rw[r.out];simp only[R.out,Gl,Gj];exact V.out
 .obtain⟨lv,hfv,hlv⟩:∃ lv,fv=.iface 193 (.agg #[.string key,lv])/\VRow w lv l:=id hx
  subst hfv;have b0:=Z hlv;clear hlv;have HR:=Z (fun wx (f:Fr Nil w wx)=>QW key lv l t.1 t.2.1 t.2.2.1 wx (VRow.fr b0.out f (fun _ _=>id)) t.2.2.2);have hw:N.write M (Sum.inr (Sum.inl (key,l)))=fun f=>((N.J.append M (zh (Sum.inr (Sum.inl (key,l)))) f).2.1,{N with J:=(N.J.append M (zh (Sum.inr (Sum.inl (key,l)))) f).2.2.1,S:=if (N.J.append M (zh (Sum.inr (Sum.inl (key,l)))) f).1=true then N.S.enter (Sum.inr (Sum.inl (key,l))) else N.S},(N.J.append M (zh (Sum.inr (Sum.inl (key,l)))) f).2.2.2):=rfl;have r:=Z hw;generalize i:zh (Sum.inr (Sum.inl (key,l)))=p at b r;have X:Hid (zo (XY key l)=p):=i;have a6:=b.out.bytes;have hm:=J5;generalize a2:(Sum.inr (Sum.inl (key,l)):Fact)=x at HX r K hw;clear i hw hx t a2;go_enter CA,Cf;go_wp2_with fail
  go_region_held3 (fun w'=>w'.cell? ⟨L.nb,1,none⟩=some (.pointer (some ⟨L.jb,0,none⟩))) (first|assumption|go_keep|exact HK.out _ za)
   (first
   | (go_at_call 164;refine(X9 B L.jb L.db N.J L.LD M p b.out.bytes b.out.size b.out.last _ (Blk.fr (S:=Nil) H.out.log (a.trans za) id) (H.out.Bz.nil (a.trans za)) (Q.out.tab.fr (S:=Nil) Q.out.le (a.trans za) (fun _ h=>absurd h id)) (IP Q.out.le (Fr.size (S:=Nil) (a.trans za))) Q.out.BA b.out.Bj b.out.dir (fun f J=>b.out.room f (IP (Fr.size (S:=Nil) (a.trans za)) J))).mono ?_;rintro e s ⟨f,v3,D,rfl,I,E,o⟩;have A:Hid (w.heap.size<=f):=IP (Fr.size (S:=Nil) (a.trans za)) I;have C:Hid (NStep L M w _ _ _ s):=(NStep.nil H.out (a.trans za)).trans (NStep.Aa (H.out.nil (a.trans za)) o);have c:Hid (NStep L0 M0 w0 _ _ _ s):=(a3.out.Bq (a.trans za)).trans (NStep.Aa (H.out.nil (a.trans za)) o);have a8:s.cell? ⟨L.nb,1,none⟩=some (.pointer (some ⟨L.jb,0,none⟩)):=c.out.CZ.CY.cell 1;have z:=Z E;clear E o I)
   | (go_at_call 286;refine(HR.out _ za).mono ?_;rintro e w2 ⟨rfl,a1⟩;have a:Fr Nil w w2:=Fr.trans za a1;have a7:=HK.out w2 a;rw[X.out]))
  have a5:s.cell? ⟨L.nb,2,none⟩=some (.pointer (some ⟨L.sb,0,none⟩)):=c.out.CZ.CY.cell 2;cases hb:(N.J.append M p f).1 with
  | true =>
   have R:=Z hb;have HT:=Z (XA x _ L.sb L.LS N.S s c.out.CZ.held (HX.out.step H.out C.out) y hh);clear hb;go_wp2_with fail;refine HT.out.mono ?_;rintro e w4 ⟨rfl,hT⟩;obtain⟨a0,G⟩:=c.out.held hT K;have F:=z.out.fr (w':=w4) (by obtain⟨_,_,q,_⟩:=hT;exact q) (fun k y J=>by
    rcases c.out.CZ.held.BH J with e|e|e <;> rcases y with y|y <;> exact absurd (y.inj e) (by decide))
   have Y:=Z G;have T:=Z F;clear hT G F HT;go_wp2_with fail;refine(zK _ _ _ w4 T.out).mono ?_;rintro e w5 ⟨v5,rfl,d,g⟩;have m:=Z d;have V:=Z (Y.out.Bq g);clear d g
   go_wp2
   go_ret;refine⟨f,v5,{L with LD:=D,LS:=a0},rfl,A.out,?_,?_⟩
   .rw[r.out];exact m.out
   .rw[r.out];simp only[R.out,Gi];exact V.out
  | false =>
   have R:=Z hb;clear hb;go_wp2_with fail;refine(zK _ _ _ s z.out).mono ?_;rintro e w5 ⟨v5,rfl,d,g⟩;have m:=Z d;have V:=Z (c.out.Bq g);clear d g
   go_wp2
   go_ret;refine⟨f,v5,{L with LD:=D},rfl,A.out,?_,?_⟩
   .rw[r.out];exact m.out
   .rw[r.out];simp only[R.out,Gl,Gj];exact V.out
 .have hfv:fv=.iface 138 (.agg #[.int .i64 to,.string j]):=hx
  subst hfv;have HR:=Z (fun wx=>RP to j t.1 t.2 wx);have hw:N.write M (Sum.inr (Sum.inr (Sum.inl (to,j))))=fun f=>((N.J.append M (zh (Sum.inr (Sum.inr (Sum.inl (to,j))))) f).2.1,{N with J:=(N.J.append M (zh (Sum.inr (Sum.inr (Sum.inl (to,j))))) f).2.2.1,S:=if (N.J.append M (zh (Sum.inr (Sum.inr (Sum.inl (to,j))))) f).1=true then N.S.enter (Sum.inr (Sum.inr (Sum.inl (to,j)))) else N.S},(N.J.append M (zh (Sum.inr (Sum.inr (Sum.inl (to,j))))) f).2.2.2):=rfl;have r:=Z hw;generalize i:zh (Sum.inr (Sum.inr (Sum.inl (to,j))))=p at b r;have X:Hid (zo (Wt to j)=p):=i;have a6:=b.out.bytes;have hm:=LK;generalize a2:(Sum.inr (Sum.inr (Sum.inl (to,j))):Fact)=x at HX r K hw;clear i hw hx t a2;go_enter CA,Cf;go_wp2_with fail
  go_region_held3 (fun w'=>w'.cell? ⟨L.nb,1,none⟩=some (.pointer (some ⟨L.jb,0,none⟩))) (first|assumption|go_keep|exact HK.out _ za)
   (first
   | (go_at_call 164;refine(X9 B L.jb L.db N.J L.LD M p b.out.bytes b.out.size b.out.last _ (Blk.fr (S:=Nil) H.out.log (a.trans za) id) (H.out.Bz.nil (a.trans za)) (Q.out.tab.fr (S:=Nil) Q.out.le (a.trans za) (fun _ h=>absurd h id)) (IP Q.out.le (Fr.size (S:=Nil) (a.trans za))) Q.out.BA b.out.Bj b.out.dir (fun f J=>b.out.room f (IP (Fr.size (S:=Nil) (a.trans za)) J))).mono ?_;rintro e s ⟨f,v3,D,rfl,I,E,o⟩;have A:Hid (w.heap.size<=f):=IP (Fr.size (S:=Nil) (a.trans za)) I;have C:Hid (NStep L M w _ _ _ s):=(NStep.nil H.out (a.trans za)).trans (NStep.Aa (H.out.nil (a.trans za)) o);have c:Hid (NStep L0 M0 w0 _ _ _ s):=(a3.out.Bq (a.trans za)).trans (NStep.Aa (H.out.nil (a.trans za)) o);have a8:s.cell? ⟨L.nb,1,none⟩=some (.pointer (some ⟨L.jb,0,none⟩)):=c.out.CZ.CY.cell 1;have z:=Z E;clear E o I)
   | (go_at_call 282;refine(HR.out _).mono ?_;rintro e w2 ⟨rfl,a1⟩;have a:Fr Nil w w2:=Fr.trans za a1;have a7:=HK.out w2 a;rw[X.out]))
  have a5:s.cell? ⟨L.nb,2,none⟩=some (.pointer (some ⟨L.sb,0,none⟩)):=c.out.CZ.CY.cell 2;cases hb:(N.J.append M p f).1 with
  | true =>
   have R:=Z hb;have HT:=Z (XA x _ L.sb L.LS N.S s c.out.CZ.held (HX.out.step H.out C.out) y hh);clear hb;go_wp2_with fail;refine HT.out.mono ?_;rintro e w4 ⟨rfl,hT⟩;obtain⟨a0,G⟩:=c.out.held hT K;have F:=z.out.fr (w':=w4) (by obtain⟨_,_,q,_⟩:=hT;exact q) (fun k y J=>by
    rcases c.out.CZ.held.BH J with e|e|e <;> rcases y with y|y <;> exact absurd (y.inj e) (by decide))
   have Y:=Z G;have T:=Z F;clear hT G F HT;go_wp2_with fail;refine(zK _ _ _ w4 T.out).mono ?_;rintro e w5 ⟨v5,rfl,d,g⟩;have m:=Z d;have V:=Z (Y.out.Bq g);clear d g
   go_wp2
   go_ret;refine⟨f,v5,{L with LD:=D,LS:=a0},rfl,A.out,?_,?_⟩
   .rw[r.out];exact m.out
   .rw[r.out];simp only[R.out,Gi];exact V.out
  | false =>
   have R:=Z hb;clear hb;go_wp2_with fail;refine(zK _ _ _ s z.out).mono ?_;rintro e w5 ⟨v5,rfl,d,g⟩;have m:=Z d;have V:=Z (c.out.Bq g);clear d g
   go_wp2
   go_ret;refine⟨f,v5,{L with LD:=D},rfl,A.out,?_,?_⟩
   .rw[r.out];exact m.out
   .rw[r.out];simp only[R.out,Gl,Gj];exact V.out
 .have hfv:fv=.iface 135 (.agg #[]):=hx
  subst hfv;have HR:=Z (fun wx=>QX wx);have hw:N.write M (Sum.inr (Sum.inr (Sum.inr u)))=fun f=>((N.J.append M (zh (Sum.inr (Sum.inr (Sum.inr u)))) f).2.1,{N with J:=(N.J.append M (zh (Sum.inr (Sum.inr (Sum.inr u)))) f).2.2.1,S:=if (N.J.append M (zh (Sum.inr (Sum.inr (Sum.inr u)))) f).1=true then N.S.enter (Sum.inr (Sum.inr (Sum.inr u))) else N.S},(N.J.append M (zh (Sum.inr (Sum.inr (Sum.inr u)))) f).2.2.2):=rfl;have r:=Z hw;generalize i:zh (Sum.inr (Sum.inr (Sum.inr u)))=p at b r;have X:Hid (zo Vc=p):=i;have a6:=b.out.bytes;have hm:=J6;generalize a2:(Sum.inr (Sum.inr (Sum.inr u)):Fact)=x at HX r K hw;clear i hw hx t a2;go_enter CA,Cf;go_wp2_with fail
  go_region_held3 (fun w'=>w'.cell? ⟨L.nb,1,none⟩=some (.pointer (some ⟨L.jb,0,none⟩))) (first|assumption|go_keep|exact HK.out _ za)
   (first
   | (go_at_call 164;refine(X9 B L.jb L.db N.J L.LD M p b.out.bytes b.out.size b.out.last _ (Blk.fr (S:=Nil) H.out.log (a.trans za) id) (H.out.Bz.nil (a.trans za)) (Q.out.tab.fr (S:=Nil) Q.out.le (a.trans za) (fun _ h=>absurd h id)) (IP Q.out.le (Fr.size (S:=Nil) (a.trans za))) Q.out.BA b.out.Bj b.out.dir (fun f J=>b.out.room f (IP (Fr.size (S:=Nil) (a.trans za)) J))).mono ?_;rintro e s ⟨f,v3,D,rfl,I,E,o⟩;have A:Hid (w.heap.size<=f):=IP (Fr.size (S:=Nil) (a.trans za)) I;have C:Hid (NStep L M w _ _ _ s):=(NStep.nil H.out (a.trans za)).trans (NStep.Aa (H.out.nil (a.trans za)) o);have c:Hid (NStep L0 M0 w0 _ _ _ s):=(a3.out.Bq (a.trans za)).trans (NStep.Aa (H.out.nil (a.trans za)) o);have a8:s.cell? ⟨L.nb,1,none⟩=some (.pointer (some ⟨L.jb,0,none⟩)):=c.out.CZ.CY.cell 1;have z:=Z E;clear E o I)
   | (go_at_call 274;refine(HR.out _).mono ?_;rintro e w2 ⟨rfl,a1⟩;have a:Fr Nil w w2:=Fr.trans za a1;have a7:=HK.out w2 a;rw[X.out]))
  have a5:s.cell? ⟨L.nb,2,none⟩=some (.pointer (some ⟨L.sb,0,none⟩)):=c.out.CZ.CY.cell 2;cases hb:(N.J.append M p f).1 with
  | true =>
   have R:=Z hb;have HT:=Z (XA x _ L.sb L.LS N.S s c.out.CZ.held (HX.out.step H.out C.out) y hh);clear hb;go_wp2_with fail;refine HT.out.mono ?_;rintro e w4 ⟨rfl,hT⟩;obtain⟨a0,G⟩:=c.out.held hT K;have F:=z.out.fr (w':=w4) (by obtain⟨_,_,q,_⟩:=hT;exact q) (fun k y J=>by
    rcases c.out.CZ.held.BH J with e|e|e <;> rcases y with y|y <;> exact absurd (y.inj e) (by decide))
   have Y:=Z G;have T:=Z F;clear hT G F HT;go_wp2_with fail;refine(zK _ _ _ w4 T.out).mono ?_;rintro e w5 ⟨v5,rfl,d,g⟩;have m:=Z d;have V:=Z (Y.out.Bq g);clear d g
   go_wp2
   go_ret;refine⟨f,v5,{L with LD:=D,LS:=a0},rfl,A.out,?_,?_⟩
   .rw[r.out];exact m.out
   .rw[r.out];simp only[R.out,Gi];exact V.out
  | false =>
   have R:=Z hb;clear hb;go_wp2_with fail;refine(zK _ _ _ s z.out).mono ?_;rintro e w5 ⟨v5,rfl,d,g⟩;have m:=Z d;have V:=Z (c.out.Bq g);clear d g
   go_wp2
   go_ret;refine⟨f,v5,{L with LD:=D},rfl,A.out,?_,?_⟩
   .rw[r.out];exact m.out
   .rw[r.out];simp only[R.out,Gl,Gj];exact V.out
theorem OS(B:Nat)(L:NL)(N:NM)(M:DM)(a:ByteArray)(x:Fact)(c:Value)(w:World)(h:NRep w L N M)(l:Env B L M w)(p:FRep w c x)(g:FOk x)(d:∀ k,WA c k->SRead L.LS k\/w.heap.size<=k)
 (b:YG N.J M w.heap.size (zh x).size)(o:N.S.keys.length<1099511627776)(m:N.S.hints.length<1000000) :
 Calls Tryz.prog 129 #[.pointer (some ⟨L.nb,0,none⟩),.string a,c] w fun e i =>
  ∃ f v j,e=.returned v/\w.heap.size<=f/\ERep i v (N.write M x f).1/\NStep L M w j (N.write M x f).2.1 (N.write M x f).2.2 i :=
 TA B L M w L N M a x c w (NStep.nil h (O _ _)) l p g d b o m
def NM.sync(N:NM)(M:DM):Option Int × NM × DM:=((N.J.Bn M).1,{N with J:=(N.J.Bn M).2.1},(N.J.Bn M).2.2)
def NM.counted(N:NM)(M:DM):Option Int × NM × DM :=
 if N.every=0\/N.writes+1<N.every then(none,{N with writes:=N.writes+1},M) else NM.sync {N with writes:=0} M
def NM.change(N:NM)(M:DM)(x:Fact)(f:Nat):Option Int × NM × DM :=
 match (N.write M x f).1 with
 | some n=>(some n,(N.write M x f).2.1,(N.write M x f).2.2)
 | none=>(N.write M x f).2.1.counted (N.write M x f).2.2
theorem V0(B:Nat)(F:NL)(J:DM)(G:World)(L:NL)(N:NM)(M:DM)(C:ByteArray)(x:Fact)(fv:Value)(w:World)(D:NStep F J G L N M w)(u:Env B L M w)(hx:FRep w fv x)(a1:FOk x)(a0:∀ k,WA fv k->SRead F.LS k\/G.heap.size<=k)
 (A:YG N.J M w.heap.size (zh x).size)(hk:N.S.keys.length<1099511627776)(hh:N.S.hints.length<1000000)(hw:N.writes<1000000000000) :
 Calls Tryz.prog 80 #[.pointer (some ⟨L.nb,0,none⟩),.string C,fv] w fun e w' =>
  ∃ f v L',e=.returned v/\w.heap.size<=f/\ERep w' v (N.change M x f).1/\NStep F J G L' (N.change M x f).2.1 (N.change M x f).2.2 w':=by
 have I:=Z D.same.nb;have HW:=Z (TA B F J G L N M C x fv w D u hx a1 a0 A hk hh);clear D u hx a1 a0 A hk hh;go_enter Tryz.func80,Tryz.ntmps80;go_wp2_with fail;refine HW.out.mono ?_;rintro e w1 ⟨f,v1,r,rfl,hf,o,g⟩;have q:∀ n,(N.write M x f).1=some n->N.change M x f=(some n,(N.write M x f).2.1,(N.write M x f).2.2):=by intro n h;unfold NM.change;rw[h]
 have p:(N.write M x f).1=none->N.change M x f=(N.write M x f).2.1.counted (N.write M x f).2.2:=by intro h;unfold NM.change;rw[h]
 have a7:(N.write M x f).2.1.writes<1000000000000:=hw;generalize T:(N.write M x f).2.1=a at g q p a7;generalize S:(N.write M x f).2.2=m at g q p;have HS:=Z g;have HF:=Z hf;have c:r.nb=L.nb:=g.same.nb.trans I.out.symm;cases u:(N.write M x f).1 with
 | some n =>
  rw[u] at o;have s:=Z (q n u);have HE:=Z o;obtain⟨k,hk⟩:=o;obtain⟨t,b,rfl⟩:=hk.form;clear u q p hk g T S hf c
  go_wp2
  go_ret;refine⟨f,.iface t (.pointer (some ⟨b,0,none⟩)),r,rfl,HF.out,?_,?_⟩
  .rw[s.out];exact HE.out
  .rw[s.out];exact HS.out
 | none =>
  rw[u] at o;have s:=Z (p u);have hv:v1=.nilIface:=o;subst hv;have V:=g.CZ.CY.cell;have hz:=g.CZ.CY.frozen;simp only[NM.cells] at V;rw[c] at V hz;have a9:IntKind.i64.wrap ((a.writes:Int)+1)=(a.writes:Int)+1:=by rw[Hr];omega
  have l:=NStep.set HS.out.CZ (N':={a with writes:=a.writes+1}) 5 (.int .i64 ((a.writes:Int)+1)) (by simp[NM.cells]) rfl rfl;rw[c] at l;have z:=Z l;have X:=l.CZ.CY.cell;simp only[NM.cells] at X;rw[c] at X;have a8:=Z c;clear u q p o g T S hf l;by_cases E:a.every=0\/a.writes+1<a.every
  .have hp:a.counted m=(none,{a with writes:=a.writes+1},m):=by unfold NM.counted;rw[He E]
   have i:=Z hp;clear hp;have d:∀ y:World,Fr Nil (w1.setCell ⟨L.nb,5,none⟩ (.int .i64 ((a.writes:Int)+1))) y->NStep F J G r {a with writes:=a.writes+1} m y:=fun y f=>(HS.out.trans z.out).Bq f;have j:=Z d;clear d;by_cases D:a.every=0
   .have g1:((a.every:Int)==0)=true:=by simp;omega
    clear E D c;go_wp2_with fail
    go_quiet (fail)
    go_wp2
    go_ret;refine⟨f,_,r,rfl,HF.out,?_,?_⟩
    .rw[s.out,i.out];rfl
    .rw[s.out,i.out];exact j.out _ (by exact za)
   .have g1:((a.every:Int)==0)=false:=by simp;omega
    have g2:a.writes+1<a.every:=E.resolve_left D;have g3:decide ((a.writes:Int)+1<a.every)=true:=by simp;omega
    have g4:decide (a.writes+1<a.every)=true:=by simp;omega
    clear E D c;go_wp2_with fail
    go_quiet (fail)
    go_wp2
    go_ret;refine⟨f,_,r,rfl,HF.out,?_,?_⟩
    .rw[s.out,i.out];rfl
    .rw[s.out,i.out];exact j.out _ (by exact za)
  .have hp:a.counted m=NM.sync {a with writes:=0} m:=by unfold NM.counted;rw[IV E]
   have i:=Z hp;have g1:((a.every:Int)==0)=false:=by simp;omega
   have g2:¬a.writes+1<a.every:=fun h=>E (.inr h);have g3:decide ((a.writes:Int)+1<a.every)=false:=by simp;omega
   have g4:decide (a.writes+1<a.every)=false:=by simp;omega
   have d:∀ y:World,Fr Nil (w1.setCell ⟨L.nb,5,none⟩ (.int .i64 ((a.writes:Int)+1))) y->NStep F J G r {a with writes:=0} m (y.setCell ⟨L.nb,5,none⟩ (.int .i64 0)):=by
    intro y f;have h1:=(HS.out.trans z.out).Bq f;have h2:=NStep.set h1.CZ (N':={a with writes:=0}) 5 (.int .i64 0) (by simp[NM.cells]) rfl rfl;rw[c] at h2;exact h1.trans h2
   have j:=Z d;have V:(NM.sync {a with writes:=0} m)=((a.J.Bn m).1,{a with writes:=0,J:=(a.J.Bn m).2.1},(a.J.Bn m).2.2):=rfl;have HC:=Z V;clear E c hp d V;go_wp2_with fail
   go_quiet (fail)
   go_wp2_with fail;generalize hq:World.drewN (w1.setCell ⟨L.nb,5,none⟩ (.int .i64 ((a.writes:Int)+1))) _=y;have o:=j.out y (by rw[<- hq];exact za);clear hq;have HE:=Z o;refine(WY r.jb r.db a.J r.LD m _ o.CZ.log o.CZ.Bz).mono ?_;rintro e w3 ⟨v3,a6,rfl,K,R⟩;have a5:=Z (HE.out.trans (NStep.Aa HE.out.CZ R));have a2:=Z K;clear o R K;go_wp2_with fail;refine(zK _ _ _ w3 a2.out).mono ?_;rintro e w4 ⟨v4,rfl,Q,Y⟩;have a3:=Z Q;have a4:=Z (a5.out.Bq Y);clear Q Y
   go_wp2
   go_ret;refine⟨f,v4,{r with LD:=a6},rfl,HF.out,?_,?_⟩
   .rw[s.out,i.out,HC.out];exact a3.out
   .rw[s.out,i.out,HC.out];exact a4.out
theorem U9(B:Nat)(L:NL)(N:NM)(M:DM)(a:ByteArray)(x:Fact)(c:Value)(w:World)(h:NRep w L N M)(l:Env B L M w)(q:FRep w c x)(g:FOk x)(d:∀ k,WA c k->SRead L.LS k\/w.heap.size<=k)
 (b:YG N.J M w.heap.size (zh x).size)(o:N.S.keys.length<1099511627776)(m:N.S.hints.length<1000000)(p:N.writes<1000000000000) :
 Calls Tryz.prog 80 #[.pointer (some ⟨L.nb,0,none⟩),.string a,c] w fun e i =>
  ∃ f v j,e=.returned v/\w.heap.size<=f/\ERep i v (N.change M x f).1/\NStep L M w j (N.change M x f).2.1 (N.change M x f).2.2 i :=
 V0 B L M w L N M a x c w (NStep.nil h (O _ _)) l q g d b o m p
def NM.Br(N:NM)(M:DM)(f:Nat):Option Int × NM × DM :=
 match (N.write M (.inl (N.given+16)) f).1 with
 | some n=>(some n,(N.write M (.inl (N.given+16)) f).2.1,(N.write M (.inl (N.given+16)) f).2.2)
 | none=>NM.sync (N.write M (.inl (N.given+16)) f).2.1 (N.write M (.inl (N.given+16)) f).2.2
theorem OT(B:Nat)(L:NL)(N:NM)(M:DM)(w:World)(h:NRep w L N M)(i:Env B L M w)
 (j:YG N.J M w.heap.size (zh (.inl (N.given+16))).size)(E:N.S.keys.length<1099511627776)(Y:N.S.hints.length<1000000)(hg:N.given<1000000000000) :
 Calls Tryz.prog 162 #[.pointer (some ⟨L.nb,0,none⟩)] w fun e F =>
  ∃ f v R,e=.returned v/\w.heap.size<=f/\ERep F v (N.Br M f).1/\NStep L M w R (N.Br M f).2.1 (N.Br M f).2.2 F:=by
 have HW:Hid (∀ g,Calls Tryz.prog 129 #[.pointer (some ⟨L.nb,0,none⟩),.string g,.iface 220 (.agg #[.int .i64 ((N.given:Int)+16)])] w fun e F =>
  ∃ f v R,e=.returned v/\w.heap.size<=f/\ERep F v (N.write M (.inl (N.given+16)) f).1/\NStep L M w R (N.write M (.inl (N.given+16)) f).2.1 (N.write M (.inl (N.given+16)) f).2.2 F):=fun g =>
  OS B L N M g (.inl (N.given+16)) _ w h i (show _=_ by simp) (show N.given+16<9223372036854775808 by omega) (fun k hb=>by obtain⟨v,G,e⟩:=hb;simp at G;subst G;exact absurd e (by simp[Value.ownBlock])) j E Y
 have a1:IntKind.i64.wrap ((N.given:Int)+16)=(N.given:Int)+16:=by rw[Hr];omega
 have a0:w.cell? ⟨L.nb,3,none⟩=some (.int .i64 N.given):=h.CY.cell 3;clear h i j E Y hg;go_enter Tryz.func162,Tryz.ntmps162;go_wp2_with fail;refine(HW.out _).mono ?_;rintro e w1 ⟨f,v1,m,rfl,T,p,a⟩;have d:∀ n,(N.write M (.inl (N.given+16)) f).1=some n->N.Br M f=(some n,(N.write M (.inl (N.given+16)) f).2.1,(N.write M (.inl (N.given+16)) f).2.2):=by intro n h;unfold NM.Br;rw[h]
 have c:(N.write M (.inl (N.given+16)) f).1=none->N.Br M f=NM.sync (N.write M (.inl (N.given+16)) f).2.1 (N.write M (.inl (N.given+16)) f).2.2:=by intro h;unfold NM.Br;rw[h]
 generalize A:(N.write M (.inl (N.given+16)) f).2.1=o at a d c;generalize z:(N.write M (.inl (N.given+16)) f).2.2=s at a d c;have r:=Z a;have X:=Z T;have l:=a.same.nb;cases i:(N.write M (.inl (N.given+16)) f).1 with
 | some n =>
  rw[i] at p;have q:=Z (d n i);have HE:=Z p;obtain⟨k,E⟩:=p;obtain⟨t,b,rfl⟩:=E.form;clear i d c E a A z T l
  go_wp2
  go_ret;refine⟨f,.iface t (.pointer (some ⟨b,0,none⟩)),m,rfl,X.out,?_,?_⟩
  .rw[q.out];exact HE.out
  .rw[q.out];exact r.out
 | none =>
  rw[i] at p;have q:=Z (c i);have G:v1=.nilIface:=p;subst G;have hc:w1.cell? ⟨L.nb,1,none⟩=some (.pointer (some ⟨m.jb,0,none⟩)):=by rw[<- l];exact a.CZ.CY.cell 1
  have C:(NM.sync o s)=((o.J.Bn s).1,{o with J:=(o.J.Bn s).2.1},(o.J.Bn s).2.2):=rfl;have V:=Z C;clear i d c p a A z T C l;go_wp2_with fail;refine(WY m.jb m.db o.J m.LD s _ r.out.CZ.log r.out.CZ.Bz).mono ?_;rintro e w3 ⟨v3,S,rfl,u,y⟩;have Q:=Z (r.out.trans (NStep.Aa r.out.CZ y));have I:=Z u;clear y u;go_wp2_with fail;refine(zK _ _ _ w3 I.out).mono ?_;rintro e w4 ⟨v4,rfl,x,D⟩;have J:=Z x;have K:=Z (Q.out.Bq D);clear x D
  go_wp2
  go_ret;refine⟨f,v4,{m with LD:=S},rfl,X.out,?_,?_⟩
  .rw[q.out,V.out];exact J.out
  .rw[q.out,V.out];exact K.out
def NM.next(N:NM)(M:DM)(f:Nat):Option Int × Nat × NM × DM :=
 if N.given<N.S.Ba then(none,N.given+1,{N with given:=N.given+1},M) else
 match (N.Br M f).1 with
 | some n=>(some n,0,(N.Br M f).2.1,(N.Br M f).2.2)
 | none=>(none,N.given+1,{(N.Br M f).2.1 with given:=N.given+1},(N.Br M f).2.2)
theorem OU(N:NM)(M:DM)(f:Nat):(N.Br M f).2.1.given=N.given:=by
 unfold NM.Br;split <;> rfl
theorem Env.nil{B:Nat}{L:NL}{M:DM}{w w':World}(h:Env B L M w)(f:Fr Nil w w'):Env B L M w' :=
 ⟨h.tab.fr (S:=Nil) h.le f (fun _ h=>absurd h id),IP h.le f.size,h.BA⟩
theorem YG.mono{J:JM}{M:DM}{H c n:Nat}(h:YG J M H n)(e:H<=c):YG J M c n :=
 ⟨h.bytes,h.size,h.last,h.Bj,h.dir,fun f g=>h.room f (IP e g)⟩
theorem Mu(B:Nat)(L:NL)(N:NM)(M:DM)(w:World)(h:NRep w L N M)(j:Env B L M w)
 (s:YG N.J M w.heap.size (zh (.inl (N.given+16))).size)(S:N.S.keys.length<1099511627776)(hh:N.S.hints.length<1000000)(hg:N.given<1000000000000) :
 Calls Tryz.prog 123 #[.pointer (some ⟨L.nb,0,none⟩)] w fun e D =>
  ∃ f v Y,e=.returned (.tuple #[.int .i64 (N.next M f).2.1,v])/\w.heap.size<=f/\ERep D v (N.next M f).1/\NStep L M w Y (N.next M f).2.2.1 (N.next M f).2.2.2 D:=by
 have HW:Hid (∀ o,Fr Nil w o->Calls Tryz.prog 162 #[.pointer (some ⟨L.nb,0,none⟩)] o fun e D =>
  ∃ f v Y,e=.returned v/\o.heap.size<=f/\ERep D v (N.Br M f).1/\NStep L M o Y (N.Br M f).2.1 (N.Br M f).2.2 D) :=
  fun o f=>OT B L N M o (h.nil f) (j.nil f) (s.mono f.size) S hh hg
 have V:∀ n,Calls Tryz.prog 98 #[.pointer (some ⟨L.sb,0,none⟩)] (w.drewN n) fun e D=>e=.returned (.int .i64 N.S.Ba)/\D=w.drewN n:=fun n=>U7 L.sb L.LS N.S (w.drewN n) (h.held.nil za);have I:=Z V;have HH:=Z h;have hz:=h.CY.frozen;have a0:w.cell? ⟨L.nb,3,none⟩=some (.int .i64 N.given):=h.CY.cell 3;have a3:w.cell? ⟨L.nb,2,none⟩=some (.pointer (some ⟨L.sb,0,none⟩)):=h.CY.cell 2;have a4:IntKind.i64.wrap ((N.given:Int)+1)=(N.given:Int)+1:=by rw[Hr];omega
 have r:∀ (F:NM) (J:DM) (E:World) (q:NL),NStep L M w q F J E->∀ w2,Fr Nil E w2->∀ g:Nat,NStep L M w q {F with given:=g} J (w2.setCell ⟨q.nb,3,none⟩ (.int .i64 g)):=by
  intro F J E q hs w2 f g;have h1:=hs.Bq f;exact h1.trans (NStep.set h1.CZ (N':={F with given:=g}) 3 (.int .i64 g) (by simp[NM.cells]) rfl rfl)
 have p:=Z r;clear h j s S hh hg V r;by_cases T:N.given<N.S.Ba
 .have hp:∀ f,N.next M f=(none,N.given+1,{N with given:=N.given+1},M):=by intro f;unfold NM.next;rw[He T]
  have i:=Z hp;have g1:decide ((N.given:Int)>=N.S.Ba)=false:=by simp;omega
  have g2:decide ((N.S.Ba:Int)<=N.given)=false:=by simp;omega
  have g3:decide (N.S.Ba<=N.given)=false:=by simp;omega
  have g4:¬N.S.Ba<=N.given:=by omega
  clear T hp;go_enter Tryz.func123,Tryz.ntmps123;go_wp2_with fail
  go_quiet ((go_at_call 98;exact Ff (I.out _)))
  go_wp2_with fail;have c:=p.out N M (w.drewN nq) L (NStep.nil HH.out za) (w.drewN nq) (O _ _) (N.given+1);have a:((N.given+1:Nat):Int)=(N.given:Int)+1:=by simp
  rw[a] at c;go_ret2;refine⟨w.heap.size,.nilIface,L,by rw[i.out,a];rfl,IQ _,by rw[i.out];rfl,?_⟩;rw[i.out];exact c
 .have hp1:∀ f n,(N.Br M f).1=some n->N.next M f=(some n,0,(N.Br M f).2.1,(N.Br M f).2.2):=by intro f n h;unfold NM.next;rw[IV T,h]
  have C:∀ f,(N.Br M f).1=none->N.next M f=(none,N.given+1,{(N.Br M f).2.1 with given:=N.given+1},(N.Br M f).2.2):=by intro f h;unfold NM.next;rw[IV T,h]
  have g1:decide ((N.given:Int)>=N.S.Ba)=true:=by simp;omega
  have g2:decide ((N.S.Ba:Int)<=N.given)=true:=by simp;omega
  have g3:decide (N.S.Ba<=N.given)=true:=by simp;omega
  have g4:N.S.Ba<=N.given:=by omega
  clear T;go_enter Tryz.func123,Tryz.ntmps123;go_wp2_with fail
  go_quiet ((go_at_call 98;exact Ff (I.out _)))
  go_wp2_with fail;generalize hq:w.drewN nq=o;have R:Fr Nil w o:=by rw[<- hq];exact za
  have x:=Z R;clear hq R;refine(HW.out o x.out).mono ?_;rintro e E ⟨f,v1,q,rfl,hf,G,d⟩;have X:=Z ((NStep.nil HH.out x.out).trans d);have HF:=Z (IP x.out.size hf);have z:=Z (hp1 f);have y:=Z (C f);have m:=d.same.nb;have l:=OU N M f;generalize Q:(N.Br M f).2.1=F at d z y X l;generalize K:(N.Br M f).2.2=J at d z y X;cases j:(N.Br M f).1 with
  | some n =>
   rw[j] at G;have i:=Z (z.out n j);have HE:=Z G;obtain⟨k,S⟩:=G;obtain⟨t,b,rfl⟩:=S.form;clear j hp1 C S d Q K hf m l
   go_wp2
   go_ret2;refine⟨f,.iface t (.pointer (some ⟨b,0,none⟩)),q,by rw[i.out];rfl,HF.out,?_,?_⟩
   .rw[i.out];exact HE.out
   .rw[i.out];exact X.out
  | none =>
   rw[j] at G;have i:=Z (y.out j);have hv:v1=.nilIface:=G;subst hv;have hc:=d.CZ.CY.cell 3;have a1:=d.CZ.CY.frozen;rw[m] at hc a1;have a2:E.cell? ⟨L.nb,3,none⟩=some (.int .i64 N.given):=by rw[hc,<- l];rfl
   have c:=p.out F J E q X.out E (O _ _) (N.given+1);have a:((N.given+1:Nat):Int)=(N.given:Int)+1:=by simp
   rw[a,m] at c;have A:=Z c;have u:=Z a;clear j hp1 C d Q K hf m l hc G c a0 a;go_wp2_with fail;go_ret2;refine⟨f,.nilIface,q,by rw[i.out,u.out];rfl,HF.out,by rw[i.out];rfl,?_⟩;rw[i.out];exact A.out
def zp(k:ByteArray):Bool:=decide (0<k.size/\k.size<=32)
theorem YA(k:ByteArray):k.size=k.toList.length:=by
 rw[DI,GR];rfl
theorem XN(k:ByteArray)(w:World):Calls Tryz.prog 69 #[.string k] w fun e g=>e=.returned (.bool (zp k))/\g=w:=by
 have a:=YA k;by_cases d:k.toList=[]
 .have b:zp k=false:=by rw[d] at a;simp at a;simp[zp,a]
  have c:=Z b;clear a b;go_enter Tryz.func69,Tryz.ntmps69
  go_wp2
  go_ret;exact⟨by rw[c.out];rfl,rfl⟩
 .have hs:0<k.size:=by rw[a];exact FD.mpr d
  have f:k.toList.isEmpty=false:=by simpa using d
  have b:zp k=(!k.toList.isEmpty&&decide ((k.size:Int)<=32)):=by rw[f];simp only[zp,hs,true_and,Bool.not_false,Dx];congr 1;exact propext (by omega)
  have c:=Z b;clear a hs f b;go_enter Tryz.func69,Tryz.ntmps69
  go_wp2
  go_ret;exact⟨by rw[c.out];rfl,rfl⟩
def zA(n:Int):Bool:=decide (0<=n/\n<4)
theorem WB(n:Int)(w:World):Calls Tryz.prog 131 #[.int .i64 n] w fun e b=>e=.returned (.bool (zA n))/\b=w:=by
 go_enter Tryz.func131,Tryz.ntmps131;by_cases a:0<=n
 .by_cases h1:n<4
  .go_wp2
   go_ret;exact⟨by simp[zA,a,h1],rfl⟩
  .go_wp2
   go_ret;exact⟨by simp[zA,a,h1],rfl⟩
 .go_wp2
  go_ret;exact⟨by rw[zA,GW (by omega)];rfl,rfl⟩
theorem VR(L:NL)(N:NM)(M:DM)(n:Int)(w:World)(h:NRep w L N M):Calls Tryz.prog 83 #[.pointer (some ⟨L.nb,0,none⟩),.int .i64 n] w fun e d=>e=.returned (.bool (zA n&&decide (n≠N.self)))/\d=w:=by
 have f:w.cell? ⟨L.nb,0,none⟩=some (.int .i64 N.self):=h.CY.cell 0;clear h;go_enter Tryz.func83,Tryz.ntmps83;cases h0:zA n with
 | false =>
  have a:=Z (WB n w);rw[h0] at a;clear h0
  go_wp2_with (refine a.out.mono ?_;rintro e c ⟨rfl,rfl⟩)
  go_ret;exact⟨rfl,rfl⟩
 | true =>
  have a:=Z (WB n w);rw[h0] at a;clear h0;by_cases b:n=N.self
  .subst b
   go_wp2_with (refine a.out.mono ?_;rintro e c ⟨rfl,rfl⟩)
   go_ret;exact⟨by simp,rfl⟩
  .have h2:(n==(N.self:Int))=false:=by simpa using b
   go_wp2_with (refine a.out.mono ?_;rintro e c ⟨rfl,rfl⟩)
   go_ret;exact⟨by simp[b],rfl⟩
theorem RY(n:Value)(w:World):Calls Tryz.prog 82 #[n] w fun e a=>e=.returned (.slice none 0 0)/\a=w:=by
 go_enter Tryz.func82,Tryz.ntmps82
 go_wp2
 go_ret;exact⟨rfl,rfl⟩
theorem SH(p:Value)(w:World):Calls Tryz.prog 79 #[p,.nilIface] w fun e a=>e=.returned (.int .i64 0)/\a=w:=by
 go_enter Tryz.func79,Tryz.ntmps79
 go_wp2
 go_ret;exact⟨rfl,rfl⟩
end Go.Proofs.YtkhnggkkiefcdaaGreatDoor
