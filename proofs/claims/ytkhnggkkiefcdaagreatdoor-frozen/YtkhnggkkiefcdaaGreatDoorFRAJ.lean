/- larder: joined texts -/
import Derived.Test.YtkhnggkkiefcdaaGreatDoorFRAB
import Derived.Test.YtkhnggkkiefcdaaGreatDoorFRAC
import Derived.Test.YtkhnggkkiefcdaaGreatDoorFRAH
import Derived.Test.YtkhnggkkiefcdaaGreatDoorFRAI
import Derived.Deep.RegionHeld3
import Derived.OrdersIn
import Derived.StillTailTactics
namespace Go.Proofs.YtkhnggkkiefcdaaGreatDoor
open Go.RowKit
set_option maxRecDepth 100000
set_option maxHeartbeats 8000000
abbrev LY:=@Go.KeepsOthers.setCell
def SM.nil:SM:={keys:=[],hints:=[],IQ:=0}
def Z5(a:List Seg):SM:=(zc a).foldl SM.enter SM.nil
theorem SQ{n:Nat}(h:n<9223372036854775808):ZT (.inl n):=by
 refine⟨⟨h,trivial⟩,?_⟩;have a:=zr (n:=1) (by decide);have b:=zr h;show(zg 1++zg n).length<_;rw[NQ];omega
theorem XG(S:SM)(a:ByteArray)(l:List Ver):(S.holds a l).hints=S.hints:=by
 unfold SM.holds;split <;> rfl
theorem Qb(x:Fact):(zl x).length<=(zj x).size:=by
 rw[VR,YN];simp[zA]
theorem WS{a:ByteArray}{l:List Ver}(b:zz a=true)(h:∀ u∈l,VOk u)(c:l.length<=5):ZT (.inr (.inl (a,l))):=by
 refine⟨⟨WP b h c,fun v d=>(h v d).gone⟩,?_⟩;have e:=Qb (.inr (.inl (a,l)));have f:=WO b h c;omega
theorem Tg{b:Nat}{a:ByteArray}(h:b<9223372036854775808)(c:a.size<=64):ZT (.inr (.inr (.inl (b,a)))):=by
 refine⟨⟨⟨h,by show a.size<_;omega⟩,trivial⟩,?_⟩;have d:=Qb (.inr (.inr (.inl (b,a))));have e:=Xb h c;omega
theorem ZU(S:SM)(a:ByteArray)(l:List Ver):(S.holds a l).IQ=S.IQ:=by
 unfold SM.holds;split <;> rfl
theorem QO{P:Program}{o:Oper}{a:Act}{w:World}{K j:Act->World->Prop}{Q:Exit->Act->World->Prop}(q n:Nat)(m:∀ c,o.op≠.defer c)(g:∀ a w,K a w->j a w)(h:o.wp P a w K Q):o.wpIn (Fence.wide.inRound q) n P a w j Q:=by
 refine⟨fun _ _=>trivial,?_⟩;rw[Oper.semAt_eq _ _ _ m];unfold Oper.wp at h;generalize (execOp a.eval o).run P w=r at h |-;cases r with
 | ok x p =>
  cases x <;> simp only[Oper.upon,Oper.uponIn] at h |-
  case value v=>exact g _ _ h
  case skip=>exact g _ _ h
  case defer d=>exact g _ _ h
  case enter f b =>
   refine⟨(fun e=>by cases e),Lm.2 (IF h ?_)⟩;intro e k i;cases e with
   | returned v=>exact g _ _ i
   | panicked c=>exact i
   | outgrown=>exact i
  case row row b =>
   refine⟨(fun e=>by cases e),fun c l _=>?_⟩;obtain⟨v,k,r,s⟩:=h c l;exact⟨v,k,g _ _ r,stepsIn_wide.2 s⟩
 | halt x p=>cases x <;> simp only[Oper.upon,Oper.uponIn] at h |- <;> exact h
theorem YB{P:Program}{k:Region.Mode}{g:Array Oper}{Q:Exit->Act->World->Prop}(q n:Nat)(j:∀ (i:Nat) o,g[i]?=some o->∀ c,o.op≠.defer c)(f:¬LetsOut Q):∀ (b:Nat)(d:Array Bool)(a:Act)(w:World),wpAny P k g Q b d a w->wpAnyIn (Fence.wide.inRound q) n P k g Q b d a w
 | 0,_,_,_,h=>h
 | b+1,d,a,w,h=>by
  refine⟨h.1,fun i l=>?_⟩;have e:=h.2 i l;unfold wpOp at e;unfold wpOpIn;cases ho:g[i]? with
  | none=>rw[ho] at e;exact YB q n j f b _ _ _ e
  | some o =>
   rw[ho] at e;simp only at e |-;split
   .rename_i hwt
    rw[Mg hwt] at e;rcases e with e|e
    .exact QO q n (j i o ho) (fun a w=>YB q n j f b _ a w) e
    .exact absurd e.2 f
   .rename_i hwt
    rw[Ma hwt] at e;exact⟨fun _ _=>trivial,YB q n j f b _ _ _ e⟩
theorem VY{P:Program}{b:Array Oper}{Q:Exit->Act->World->Prop}{q n id:Nat}{S:World->Prop}{a:Act}{w:World}(k:P.follows .mixedOrders=true)(g:(b.all fun o=>match o.op with|.defer _=>false|_=>true)=true)(d:¬LetsOut Q)(e:S w.drew)
 (h:S w.drew->wpAnyH P .any b Q S b.size (Array.replicate b.size false) a w.drew):(Code.region id b true).wpIn (Fence.wide.inRound q) n P Q a w :=
 wpIn_region_any k (YB q n (fun i o l c f=>by
  obtain⟨j,rfl⟩:=MV.1 l;have:=Array.all_eq_true.1 g i j;rw[f] at this;cases this) d _ _ _ _ (wpAny_of_held _ _ _ _ (h e)))
theorem zC{P:Program}{g:Region.Mode}{e:Array Oper}{Q:Exit->Act->World->Prop}{S:World->Prop}(i:Nat)(d:Option Tmp){j:Oper}{v:Value}{f:Nat}{b:Array Bool}{a:Act}{w:World}(q:e[i]?=some j)(m:j.dst=d)
 (s:Region.noSelect e=true)(o:Region.free g e b i=true)(r:(Region.ready g e b).contains i=true)
 (k:∀ c a w,Q (.panic c) (a.put d v) w->Q (.panic c) a w)(t:YieldsIf P e S j v a)(l:S w)
 (h:wpAnyH P g e Q S f (b.setIfInBounds i true) (a.put d v) w):wpAnyH P g e Q S (f+1) b a w:=by
 subst m;exact wpAnyH_take q s o r k t l h
end Go.Proofs.YtkhnggkkiefcdaaGreatDoor
namespace Go.Proofs.YtkhnggkkiefcdaaGreatDoor
open Go.RowKit Go.Shelf
set_option maxRecDepth 100000
set_option maxHeartbeats 8000000
attribute [local go_sem] LW
def Odd(S:Nat->Prop)(w:World):Prop:=∀ k,S k->∃ o:Obj,w.heap[k]?=some o/\o.isCells=false
theorem Ty.odd{w:World}{k:Nat}{t:TypeId}{S:Nat->Prop}(h:Ty w k t)(d:Odd S w):¬S k:=fun e=>by
 obtain⟨c,f,h⟩:=h;obtain⟨o,a,b⟩:=d k e;rw[h] at a;cases a;cases b
theorem SRep.odd{S:Nat->Prop}{w d:World}{b:Nat}{L:SL}{X:SM}(h:SRep w b L X)(f:Fr S w d)(c:Odd S w):SRep d b L X :=
 h.fr f (fun k a=>by rcases h.Hn a with e|e|e <;> exact e.odd c) (fun k a=>(h.Gg a).odd c)
theorem DRep.odd{S:Nat->Prop}{w a:World}{b:Nat}{L:DL}{M:DM}(h:DRep w b L M)(f:Fr S w a)(d:Odd S w):DRep a b L M :=
 h.fr f (fun k c=>by obtain⟨t,e,_⟩:=h.ty c;exact e.odd d)
theorem SRep.Fe{w:World}{b c:Nat}{a:SL}{X:SM}{L:DL}{M:DM}(h:SRep w c a X)(d:DRep w b L M){k:Nat}(f:Foot b L M k):¬SFoot c a k:=fun g=>by
 rcases h.Hn g with e|e|e
 all_goals exact d.apart e (by unfold DTy;decide) f
def Z6(a:List Seg)(i:Nat):Seg:=a.getD i ([],[])
def JM.read(a:Nat)(b:List (Nat × ByteArray))(c:List Seg):Nat->JM
 | 0=>JM.none a
 | i+1=>{Hq:=a,last:=(Z9 b i).1,name:=(Z9 b i).2,size:=(zX (Z6 c i)).length,Gk:=decide (0<(Z6 c i).2.length),Hb:=false}
def QP(w:World)(m g b c:Nat)(e:SL)(j L:DL)(l M:DM)(v:Value)(f:List (Nat × ByteArray))(a:Nat)(h:List Seg)(i:Nat)(W:World):Prop :=
 ((Blk W (w.heap.size+3) [.pointer none] 119/\Blk W (w.heap.size+4) [.nilIface] 132/\Blk W m [.pointer (some ⟨g,0,none⟩)] 119/\JRep W g b (JM.read a f h i)) /\
 (Blk W w.heap.size [.pointer (some ⟨b,0,none⟩)] 40/\Blk W (w.heap.size+1) [.func (.func 95) #[] #[]] 166/\Blk W (w.heap.size+2) [.func (.func 96) #[.pointer (some ⟨c,0,none⟩)] #[]] 167)) /\
 ((∃ d,SRep W c d (Z5 (h.take i))/\(∀ k,SFoot c d k->SFoot c e k\/w.heap.size<=k)/\(∀ k,SRead d k->SRead e k\/w.heap.size<=k)) /\
 DRep W b L M/\W.ownsRow 0 268 2 v f.length (zZ f)) /\
 w.heap.size<=W.heap.size/\Fr (fun k=>SFoot c e k\/Foot b j l k) w W
theorem PK(w:World)(R K b N:Nat)(y:SL)(x L:DL)(z M:DM)(v:Value)(I:List (Nat × ByteArray))(c:Nat)(Q:List Seg)(B:Nat)(V:w.heap.size<=B):OwnFrom B (QP w R K b N y x L z M v I c Q):=by
 intro i W T row h J t;have f:=Fr.Ho J;have a:Odd (fun k=>row=some k) W:=fun k e=>(t k e).2;obtain⟨⟨⟨d,g,j,l⟩,m,o,q⟩,⟨⟨u,A,C,D⟩,E,r⟩,F,G⟩:=h;refine⟨⟨⟨d.fr f (d.ty.odd a),g.fr f (g.ty.odd a),j.fr f (j.ty.odd a),Blk.fr l f ((Blk.ty l).odd a)⟩,m.fr f (m.ty.odd a),o.fr f (o.ty.odd a),q.fr f (q.ty.odd a)⟩,
  ⟨⟨u,A.odd f a,C,D⟩,E.odd f a,za r f (fun k s=>(Zx r s).odd a)⟩,NR F f.size,G.trans' f (fun k s e=>?_)⟩
 have:=(t k e).1;omega
theorem RL(a:List Seg)(i:Nat)(h:i<a.length):Z5 (a.take (i+1))=(Z6 a i).1.foldl SM.enter (Z5 (a.take i)):=by
 unfold Z5 Z6;rw[KJ,NZ h,zY,Lj];simp[zc,List.getD_eq_getElem?_getD,List.getElem?_eq_getElem h]
theorem OD(A B C:List Fact)(j:Nat):(A++(B++C)).take (A.length+min j B.length)=A++B.take j:=by
 rw[List.take_append,Mj (Nat.le_add_right _ _),Nat.add_sub_cancel_left,MF (Ia ..)]
 congr 1
 rcases JC j B.length with h|h
 .rw[MU h]
 .rw[Ib h,Mj h,Mj (NS _)]
theorem PL(a:List Seg)(i:Nat)(h:i<a.length)(j:Nat):((Z6 a i).1.take j).foldl SM.enter (Z5 (a.take i))=((zc a).take ((zc (a.take i)).length+min j (Z6 a i).1.length)).foldl SM.enter SM.nil:=by
 have e:zc a=zc (a.take i)++((Z6 a i).1++zc (a.drop (i+1))):=by
  have b:zc a=zc (a.take i++a[i]::a.drop (i+1)):=by rw[<- Lk h,Mv]
  rw[b,zY];have c:Z6 a i=a[i]:=by simp[Z6,List.getD_eq_getElem?_getD,List.getElem?_eq_getElem h]
  rw[c]
  rfl
 rw[show(zc a).take ((zc (a.take i)).length+min j (Z6 a i).1.length)=zc (a.take i)++(Z6 a i).1.take j by rw[e,OD],Lj]
 rfl
theorem RM(b:Nat) (L M2)(M:DM)(a:Nat)(B:Nat)(LS:SL)(u:List (Nat × ByteArray))(s:List Seg)(w:World)(h:DRep w b L M)(hs:SRep w B LS SM.nil)
 (j1:∀ wx,Fr Nil w wx->Calls Tryz.prog 144 #[.pointer (some ⟨b,0,none⟩)] wx fun e w'=>∃ R,e=.returned .nilIface/\DStep b L M wx R M2 w')
 (i0:∀ wx R,DRep wx b R M2->Fr (Foot b L M) w wx->Calls Tryz.prog 145 #[.pointer (some ⟨b,0,none⟩)] wx fun e w'=>∃ mb v,e=.returned (.pointer (some ⟨mb,0,none⟩))/\Blk w' mb [v] 263/\Wd w' v u/\wx.heap.size<=mb/\(∀ k,v.ownBlock=some k->wx.heap.size<=k)/\Fr Nil wx w')
 (h8:u.length=s.length)(i5:u.length<1000000000)(b7:∀ i,i<u.length->∃ f,M2.dir.look (Z9 u i).2=some f/\(M2.file f).bytes=zX (Z6 s i))(i9:WQ s)
 (d1:∀ i,(((zc s).take i).foldl SM.enter SM.nil).keys.length<1099511627776/\(((zc s).take i).foldl SM.enter SM.nil).hints.length<1000000) :
 Calls Tryz.prog 94 #[.pointer (some ⟨b,0,none⟩),.int .i64 a,.func (.func 95) #[] #[],.func (.func 96) #[.pointer (some ⟨B,0,none⟩)] #[]] w fun e w' =>
  ∃ jb R d7,e=.returned (.tuple #[.pointer (some ⟨jb,0,none⟩),.nilIface])/\JRep w' jb b (JM.read a u s u.length)/\w.heap.size<=jb/\DRep w' b R M2/\(∀ k,Foot b R M2 k->Foot b L M k\/w.heap.size<=k) /\
   SRep w' B d7 (Z5 s)/\(∀ k,SFoot B d7 k->SFoot B LS k\/w.heap.size<=k)/\(∀ k,SRead d7 k->SRead LS k\/w.heap.size<=k)/\Fr (fun k=>SFoot B LS k\/Foot b L M k) w w':=by
 have k4:=Z j1;have j8:=Z i0;have HD:=Z h;have HS:=Z hs;clear j1 i0 h hs;refine(Lm (n:=8)).1 ?_;refine JA Tryz.func94 rfl trivial ?_ rfl;simp only[Tryz.ntmps94,LU,Mh,ME,Nat.reduceAdd,Nat.reduceSub,Km,Kn,KH,Ku,LB,MJ];have b0:=Blk.new w [.pointer (some ⟨b,0,none⟩)] 40;have f0:Fr Nil w (w.alloc (.cells #[.pointer (some ⟨b,0,none⟩)] 40)):=(O _ _).alloc _;have s0:(w.alloc (.cells #[.pointer (some ⟨b,0,none⟩)] 40)).heap.size=w.heap.size+1:=by simp
 gi_wp2_with fail
 generalize w.alloc (.cells #[.pointer (some ⟨b,0,none⟩)] 40)=wa at b0 f0 s0 |-;have f1:Fr Nil wa ((wa.alloc (.cells #[.func (.func 95) #[] #[]] 166)).alloc (.cells #[.func (.func 96) #[.pointer (some ⟨B,0,none⟩)] #[]] 167)):=((O _ _).alloc _).alloc _;have b1:=(Blk.new wa [.func (.func 95) #[] #[]] 166).alloc (.cells #[.func (.func 96) #[.pointer (some ⟨B,0,none⟩)] #[]] 167);have b2:=Blk.new (wa.alloc (.cells #[.func (.func 95) #[] #[]] 166)) [.func (.func 96) #[.pointer (some ⟨B,0,none⟩)] #[]] 167;rw[show(wa.alloc (.cells #[.func (.func 95) #[] #[]] 166)).heap.size=w.heap.size+2 by simp[s0]] at b2;rw[s0] at b1;have s1:((wa.alloc (.cells #[.func (.func 95) #[] #[]] 166)).alloc (.cells #[.func (.func 96) #[.pointer (some ⟨B,0,none⟩)] #[]] 167)).heap.size=w.heap.size+3:=by simp[s0]
 generalize (wa.alloc (.cells #[.func (.func 95) #[] #[]] 166)).alloc (.cells #[.func (.func 96) #[.pointer (some ⟨B,0,none⟩)] #[]] 167)=wb at b1 b2 f1 s1 |-;have b3:=Blk.new wb [.pointer none] 119;have b4:=Blk.new (wb.alloc (.cells #[.pointer none] 119)) [.nilIface] 132;have s3:(wb.alloc (.cells #[.pointer none] 119)).heap.size=w.heap.size+4:=by simp[s1]
 have s4:((wb.alloc (.cells #[.pointer none] 119)).alloc (.cells #[.nilIface] 132)).heap.size=w.heap.size+5:=by simp[s1]
 have f3:Fr Nil wb ((wb.alloc (.cells #[.pointer none] 119)).alloc (.cells #[.nilIface] 132)):=((O _ _).alloc _).alloc _;have b3:=b3.alloc (.cells #[.nilIface] 132);rw[s1] at b3;rw[s3] at b4;have b0:=(b0.fr f1 id).fr f3 id;have b1:=b1.fr f3 id;have b2:=b2.fr f3 id;generalize (wb.alloc (.cells #[.pointer none] 119)).alloc (.cells #[.nilIface] 132)=wc at b0 b1 b2 b3 b4 s4 f3 |-;have f:=(f0.trans f1).trans f3;rw[show w.heap.size+1+1+1=w.heap.size+3 from rfl,show w.heap.size+1+1=w.heap.size+2 from rfl,show w.heap.size+3+1=w.heap.size+4 from rfl] at *;have HX:=Z (show w.heap.size+5=wc.heap.size from s4.symm);have A:=Z (And.intro b0 (And.intro b1 (And.intro b2 (And.intro b3 b4))));have d5:=Z f;clear f0 f1 f3 s0 s1 s3 s4 b0 b1 b2 b3 b4 f;refine⟨trivial,?_⟩;refine(Lm.2 (k4.out wc d5.out)).mono ?_;rintro e m ⟨R,rfl,r⟩;have X:∀ {k c t},Blk wc k c t->¬DTy t->¬Foot b L M k:=fun hb ht=>(HD.out.nil d5.out).apart hb.ty ht;have b9:=A.out.1.fr r.fr (X A.out.1 (by unfold DTy;decide));have g1:=A.out.2.1.fr r.fr (X A.out.2.1 (by unfold DTy;decide));have g2:=A.out.2.2.1.fr r.fr (X A.out.2.2.1 (by unfold DTy;decide));have g3:=A.out.2.2.2.1.fr r.fr (X A.out.2.2.2.1 (by unfold DTy;decide));have g4:=A.out.2.2.2.2.fr r.fr (X A.out.2.2.2.2 (by unfold DTy;decide));have l9:w.heap.size+5<=m.heap.size:=by rw[HX.out];exact r.fr.size
 have F1:Fr (Foot b L M) w m:=(d5.out.mono (S':=Foot b L M) (fun _ _ e=>absurd e id)).trans r.fr;have d0:∀ k,Foot b R M2 k->Foot b L M k\/w.heap.size<=k:=fun k o=>(r.Hw k o).imp id (fun e=>by have:=HX.out;omega);have d3:SRep m B LS SM.nil:=HS.out.fr F1 (fun k o hf=>HS.out.Fe HD.out hf o) (fun k o=>HD.out.apart (HS.out.Gg o) (by unfold DTy;decide));have e5:=r.Hl;have k5:=b9.cell 0;clear r X;have f4:Fr Nil m ((m.alloc (.cells #[.pointer (some ⟨b,0,none⟩),.int .i64 a,.int .i64 0,.string ⟨#[]⟩,.int .i64 0,.bool false,.bool false] 197)).alloc (.cells #[.pointer (some ⟨m.heap.size,0,none⟩)] 119)):=((O _ _).alloc _).alloc _;have bj:=(Blk.new m [.pointer (some ⟨b,0,none⟩),.int .i64 a,.int .i64 0,.string ⟨#[]⟩,.int .i64 0,.bool false,.bool false] 197).alloc (.cells #[.pointer (some ⟨m.heap.size,0,none⟩)] 119);have bp:=Blk.new (m.alloc (.cells #[.pointer (some ⟨b,0,none⟩),.int .i64 a,.int .i64 0,.string ⟨#[]⟩,.int .i64 0,.bool false,.bool false] 197)) [.pointer (some ⟨m.heap.size,0,none⟩)] 119;rw[show(m.alloc (.cells #[.pointer (some ⟨b,0,none⟩),.int .i64 a,.int .i64 0,.string ⟨#[]⟩,.int .i64 0,.bool false,.bool false] 197)).heap.size=m.heap.size+1 by simp] at bp;have sp:((m.alloc (.cells #[.pointer (some ⟨b,0,none⟩),.int .i64 a,.int .i64 0,.string ⟨#[]⟩,.int .i64 0,.bool false,.bool false] 197)).alloc (.cells #[.pointer (some ⟨m.heap.size,0,none⟩)] 119)).heap.size=m.heap.size+2:=by simp
 have g5:=(b9.fr f4 id).cell 0
 gi_wp2_with fail
 generalize (m.alloc (.cells #[.pointer (some ⟨b,0,none⟩),.int .i64 a,.int .i64 0,.string ⟨#[]⟩,.int .i64 0,.bool false,.bool false] 197)).alloc (.cells #[.pointer (some ⟨m.heap.size,0,none⟩)] 119)=wp at bp sp bj f4 g5 |-;have F3:Fr (Foot b L M) w wp:=F1.trans (f4.mono (S':=Foot b L M) (fun _ _ e=>absurd e id));have h7:=e5.nil f4;refine⟨trivial,?_⟩;refine(Lm.2 (j8.out wp R h7 F3)).mono ?_;rintro e w2 ⟨mb,v,rfl,e9,b6,i7,j5,e7⟩;have m0:m.heap.size+2<=w2.heap.size:=by have:=e7.size;omega
 have d2:=e9.lt
 gi_wp2_with fail
 refine⟨trivial,?_⟩;refine(Lm.2 (VH mb _)).mono ?_;rintro e w3 ⟨rfl,rfl⟩;have bM:=JX w2 211 (.pointer (some ⟨mb,0,none⟩));have f5:Fr Nil w2 (w2.alloc (.cells #[.pointer (some ⟨mb,0,none⟩)] 211)):=(O _ _).alloc _;have s5:(w2.alloc (.cells #[.pointer (some ⟨mb,0,none⟩)] 211)).heap.size=w2.heap.size+1:=by simp
 generalize w2.alloc (.cells #[.pointer (some ⟨mb,0,none⟩)] 211)=W0 at bM f5 s5;have a8:=e7.trans f5;have F:=f4.trans a8;have i6:=e9.fr f5 id;have k3:Hid (QP w (m.heap.size+1) m.heap.size b B LS L R M M2 v u a s 0 W0) :=
  ⟨⟨⟨g3.fr F id,g4.fr F id,bp.fr a8 id,bj.fr a8 id⟩,b9.fr F id,g1.fr F id,g2.fr F id⟩,⟨⟨LS,d3.nil F,fun k o=>.inl o,fun k o=>.inl o⟩,e5.nil F,za b6.own f5 (fun _ _=>id)⟩,by omega,(F3.mono (S':=fun k=>SFoot B LS k\/Foot b L M k) (fun _ _ e=>.inr e)).trans (a8.mono (fun _ _ e=>absurd e id))⟩
 have l5:Below W0.heap.size W0 W0:=Ij _ _;have a0:=Z (And.intro d2 (And.intro (i6.cell 0) s5));clear b9 g1 g2 g3 g4 bj bp k5 g5 f4 sp F3 h7 e9 b6 i7 j5 e7 d2 f5 a8 F i6 d3 e5;have d6:=Z (And.intro h8 i5);have j9:=Z b7;have k2:=Z i9;have k1:=Z d1;have k0:=Z d0;clear h8 i5 b7 i9 d1 d0
 gi_wp2_with fail
 refine XL rfl (by decide) (gf:=187) (lb:=#[.pointer (some ⟨w2.heap.size,0,none⟩)]) rfl trivial (Jn Tryz.func187 (by kernel_rfl) rfl)
  u.length (Vo u) (fun _=>rfl) _ (PK w (m.heap.size+1) m.heap.size b B LS L R M M2 v u a s W0.heap.size (by have:=a0.out.2.2;omega)) k3.out
  (fun k J W hW hJ hI hY h0=>S7 Fence.wide 7 trivial rfl (by decide) k w2.heap.size mb v u J W (by have:=d6.out.2;omega) hJ (fun i W1 h=>(hI i W1 h).2.1.2.2) hY ((hW.cell (p:=⟨w2.heap.size,0,none⟩) (by have:=a0.out.2.2;simp only;omega)).trans bM.cell) ((hW.cell (p:=⟨mb,0,none⟩) (by have:=a0.out;simp only;omega)).trans a0.out.2.1) h0)
  (fun i=>{tmps:=#[.pointer (some ⟨b,0,none⟩),.int .i64 a,.func (.func 95) #[] #[],.func (.func 96) #[.pointer (some ⟨B,0,none⟩)] #[],.pointer (some ⟨w.heap.size,0,none⟩),undef,.pointer (some ⟨w.heap.size+1,0,none⟩),.pointer (some ⟨w.heap.size+2,0,none⟩),.pointer (some ⟨w.heap.size+3,0,none⟩),.pointer (some ⟨w.heap.size+4,0,none⟩),.nilIface,.pointer (some ⟨m.heap.size+1,0,none⟩),.int .i64 (Z9 u i).1,.string (Z9 u i).2,undef,undef,undef,.pointer (some ⟨b,0,none⟩),.nilIface,.nilIface,.bool false,undef,undef,.pointer (some ⟨b,0,none⟩),.int .i64 a,.agg #[.pointer (some ⟨b,0,none⟩),.int .i64 a,.int .i64 0,.string ⟨#[]⟩,.int .i64 0,.bool false,.bool false],.pointer (some ⟨m.heap.size,0,none⟩),.pointer (some ⟨b,0,none⟩),.pointer (some ⟨mb,0,none⟩),.func (.func 187) #[] #[.pointer (some ⟨w2.heap.size,0,none⟩)],.int .i64 (Z9 u i).1,.string (Z9 u i).2,undef,undef,undef,undef,undef,undef,undef,undef,undef,undef,undef,undef,undef,undef,undef,undef,undef,undef,undef,undef,undef,undef,undef,undef,undef,undef,undef,undef,undef,undef,undef,undef,undef],defers:=[]}) ?assign ?body ?done
 case assign =>
  intro l x W K N;unfold Vo
  gi_wp2
  exact N
 case body =>
  rintro q i W hi ⟨⟨⟨a1,a2,a3,a4⟩,a5,a6,a7⟩,⟨⟨L',c1,c2,c3⟩,c4,c5⟩,c6,c7⟩;obtain⟨f,i1,h9⟩:=j9.out i hi;have c8:i<s.length:=by have:=d6.out.1;omega
  have j0:Wj (Z6 s i):=by
   have:Z6 s i=s[i]:=by simp[Z6,List.getD_eq_getElem?_getD,List.getElem?_eq_getElem c8]
   rw[this];exact k2.out _ (NV c8)
  obtain⟨i2,tb,j2,j3,j4⟩:=j0;have b5:=Uk (Z9 u i).2 f W b R M2 c4 i1;rw[h9] at b5;have T:=Z b5;have C:=Z (fun wx (fr:Fr Nil W wx)=>Sz (Z6 s i).1 i2 (Z6 s i).2 tb j2 j3 j4 B L' (Z5 (s.take i)) wx (c1.nil fr) (fun j=>by rw[PL s i c8 j];exact k1.out _));rw[<- RL s i c8] at C;rw[show zx (Z6 s i).1++(Z6 s i).2=zX (Z6 s i) from rfl] at C;have b8:Hid (JM.read a u s (i+1)={Hq:=a,last:=(Z9 u i).1,name:=(Z9 u i).2,size:=(zX (Z6 s i)).length,Gk:=decide (0<(Z6 s i).2.length),Hb:=false}):=show _=_ from rfl;have g0:Hid (∃ l d,JRep W m.heap.size b {Hq:=a,last:=l,name:=(JM.read a u s i).name,size:=(JM.read a u s i).size,Gk:=(JM.read a u s i).Gk,Hb:=d}/\d=false):=by
   cases i with
   | zero=>exact⟨_,_,a4,rfl⟩
   | succ i=>exact⟨_,_,a4,rfl⟩
  have k6:=a5.cell 0;have Q:=Z (And.intro a1 (And.intro a2 (And.intro a3 (And.intro a5 (And.intro a6 a7)))));have I:=Z (And.intro c1 (And.intro c2 (And.intro c3 (And.intro c4 (And.intro c5 (And.intro c6 c7))))));clear a1 a2 a3 a4 a5 a6 a7 c1 c2 c3 c4 c5 c6 c7 i1 h9 b5 i2 j2 j3 j4;generalize l1:Z9 u i=en at T b8 |-;generalize l2:zX (Z6 s i)=sg at T C b8;generalize l3:(Z6 s i).2.length=tl at C b8;clear l2 l3 l1
  gi_wp2_with fail
  refine⟨trivial,?_⟩;refine(Lm.2 T.out).mono ?_;rintro e W2 ⟨rfl,f2⟩;have k7:=(Q.out.2.2.2.2.1.fr f2 id).cell 0;have k8:=(Q.out.2.2.2.2.2.fr f2 id).cell 0;have g:=Z f2;clear k6 f2
  gi_wp2_with fail
  refine⟨trivial,?_⟩;refine(Lm.2 (C.out W2 g.out)).mono ?_;rintro e W3 ⟨rfl,L3,r1,Y,r3,r4⟩;have d4:∀ k,SFoot B L' k->∃ t,Ty W2 k t:=fun k o=>by
   rcases (I.out.1.nil g.out).Hn o with e|e|e <;> exact⟨_,e⟩
  have y:∀ {k c t},Blk W2 k c t->t≠161->t≠239->t≠75->¬SFoot B L' k:=fun hb h1 h2 h3 o=>by
   rcases (I.out.1.nil g.out).Hn o with e|e|e
   .exact h1 (hb.ty.inj e)
   .exact h2 (hb.ty.inj e)
   .exact h3 (hb.ty.inj e)
  have d8:=(Q.out.1.fr g.out id).fr Y (y (Q.out.1.fr g.out id) (by decide) (by decide) (by decide));have d9:=(Q.out.2.1.fr g.out id).fr Y (y (Q.out.2.1.fr g.out id) (by decide) (by decide) (by decide));have c0:=(Q.out.2.2.1.fr g.out id).fr Y (y (Q.out.2.2.1.fr g.out id) (by decide) (by decide) (by decide));have e0:=(Q.out.2.2.2.1.fr g.out id).fr Y (y (Q.out.2.2.2.1.fr g.out id) (by decide) (by decide) (by decide));have e1:=(Q.out.2.2.2.2.1.fr g.out id).fr Y (y (Q.out.2.2.2.2.1.fr g.out id) (by decide) (by decide) (by decide));have e2:=(Q.out.2.2.2.2.2.fr g.out id).fr Y (y (Q.out.2.2.2.2.2.fr g.out id) (by decide) (by decide) (by decide));obtain⟨jl,jd,e8,rfl⟩:=g0.out;have a9:Blk W3 m.heap.size _ 197:=Blk.fr (Blk.fr e8 g.out id) Y (y (Blk.fr e8 g.out id) (by decide) (by decide) (by decide));have e6:DRep W3 b R M2:=(I.out.2.2.2.1.nil g.out).fr Y (fun k o=>(I.out.1.nil g.out).Fe (I.out.2.2.2.1.nil g.out) o);have f7:W3.ownsRow 0 268 2 v u.length (zZ u):=za (za I.out.2.2.2.2.1 g.out (fun _ _=>id)) Y (fun k o hf=>by
   have ht:=Zx (za I.out.2.2.2.2.1 g.out (fun _ _=>id)) o;rcases (I.out.1.nil g.out).Hn hf with e|e|e <;> exact absurd (ht.inj e) (by decide))
  have i4:KeepsOthers W W3:=(KeepsOthers.Fo g.out (fun _ e=>absurd e id)).trans (KeepsOthers.Fo Y d4);have c9:Fr (fun k=>SFoot B LS k\/Foot b L M k) w W3:=(I.out.2.2.2.2.2.2.trans (g.out.mono (fun _ _ e=>absurd e id))).trans' Y (fun k o e=>by
   rcases I.out.2.1 k e with h|h
   .exact .inl h
   .omega)
  have V:Ty W3 m.heap.size 197:=a9.ty;have z:∀ {k c t},Blk W3 k c t->t≠197->¬k=m.heap.size:=fun hb h e=>by subst e;exact h (hb.ty.inj V)
  have f8:Hid (∀ W',Fr (fun k=>k=m.heap.size) W3 W'->JRep W' m.heap.size b {Hq:=a,last:=en.1,name:=en.2,size:=sg.length,Gk:=decide (0<tl),Hb:=false}->KeepsOthers W3 W'->KeepsOthers W W'/\True/\QP w (m.heap.size+1) m.heap.size b B LS L R M M2 v u a s (i+1) W'):=fun W' fw hj ho =>
   ⟨i4.trans ho,trivial,⟨⟨d8.fr fw (z d8 (by decide)),d9.fr fw (z d9 (by decide)),c0.fr fw (z c0 (by decide)),by rw[b8.out];exact hj⟩,e0.fr fw (z e0 (by decide)),e1.fr fw (z e1 (by decide)),e2.fr fw (z e2 (by decide))⟩,
    ⟨⟨L3,r1.fr fw (fun k o e=>by subst e;rcases r1.Hn o with e|e|e <;> exact absurd (e.inj V) (by decide)) (fun k o e=>by subst e;exact absurd ((r1.Gg o).inj V) (by decide)),
     fun k o=>(r3 k o).elim (I.out.2.1 k) (fun e=>.inr (NR (NR I.out.2.2.2.2.2.1 g.out.size) e)),fun k o=>(r4 k o).elim (I.out.2.2.1 k) (fun e=>.inr (NR (NR I.out.2.2.2.2.2.1 g.out.size) e))⟩,
     e6.fr fw (fun k o e=>by subst e;exact e6.apart V (by unfold DTy;decide) o),za f7 fw (fun k o e=>by subst e;exact absurd ((Zx f7 o).inj V) (by decide))⟩,
    NR (NR (NR I.out.2.2.2.2.2.1 g.out.size) Y.size) fw.size,c9.trans' fw (fun k o e=>by omega)⟩
  have f9:=Z a9;have l0:=c0.cell 0;have k9:=a9.cell;have m3:=a9.frozen;have l4:m.heap.size+1≠m.heap.size:=by omega
  clear C T Q I g k7 k8 r1 Y r3 r4 d4 y d8 d9 c0 e0 e1 e2 e8 a9 e6 f7 i4 c9 V z;simp only[JM.cells] at k9 f9;generalize W3=WR at *
  gi_wp2_with fail
  refine VY (S:=fun w'=>w'.cell? ⟨m.heap.size+1,0,none⟩=some (.pointer (some ⟨m.heap.size,0,none⟩))) (by kernel_rfl) (by kernel_rfl) (by rintro⟨_,_,h⟩;exact h) l0 (fun E=>?_);refine zC 0 (some 46) (v:=?_) rfl rfl (by kernel_rfl) (by kernel_rfl) (by kernel_rfl) (fun _ _ _ h=>h) (Or.inl ⟨by rfl,?_⟩) (by assumption) ?_
  rotate_left
  .intro w hSw;go_simp;try with_reducible rfl
  simp only[Act.put,Mb,Mk,Ml];refine zC 1 (some 47) (v:=?_) rfl rfl (by kernel_rfl) (by kernel_rfl) (by kernel_rfl) (fun _ _ _ h=>h) (Or.inl ⟨by rfl,?_⟩) (by assumption) ?_
  rotate_left
  .intro w hSw;go_simp;try with_reducible rfl
  simp only[Act.put,Mb,Mk,Ml];refine zC 2 (some 48) (v:=?_) rfl rfl (by kernel_rfl) (by kernel_rfl) (by kernel_rfl) (fun _ _ _ h=>h) (Or.inl ⟨by rfl,?_⟩) (by assumption) ?_
  rotate_left
  .intro w hSw;go_simp;try with_reducible rfl
  simp only[Act.put,Mb,Mk,Ml];refine zC 3 (some 49) (v:=?_) rfl rfl (by kernel_rfl) (by kernel_rfl) (by kernel_rfl) (fun _ _ _ h=>h) (Or.inl ⟨by rfl,?_⟩) (by assumption) ?_
  rotate_left
  .intro w hSw;go_simp;try with_reducible rfl
  simp only[Act.put,Mb,Mk,Ml];refine zC 4 (some 50) (v:=?_) rfl rfl (by kernel_rfl) (by kernel_rfl) (by kernel_rfl) (fun _ _ _ h=>h) (Or.inl ⟨by rfl,?_⟩) (by assumption) ?_
  rotate_left
  .intro w hSw;go_simp;try with_reducible rfl
  simp only[Act.put,Mb,Mk,Ml];refine zC 5 (some 51) (v:=?_) rfl rfl (by kernel_rfl) (by kernel_rfl) (by kernel_rfl) (fun _ _ _ h=>h) (Or.inl ⟨by rfl,?_⟩) (by assumption) ?_
  rotate_left
  .intro w hSw;go_simp;try with_reducible rfl
  simp only[Act.put,Mb,Mk,Ml];refine zC 6 (some 52) (v:=?_) rfl rfl (by kernel_rfl) (by kernel_rfl) (by kernel_rfl) (fun _ _ _ h=>h) (Or.inl ⟨by rfl,?_⟩) (by assumption) ?_
  rotate_left
  .intro w hSw;go_simp;try with_reducible rfl
  simp only[Act.put,Mb,Mk,Ml];refine zC 7 (some 53) (v:=?_) rfl rfl (by kernel_rfl) (by kernel_rfl) (by kernel_rfl) (fun _ _ _ h=>h) (Or.inl ⟨by rfl,?_⟩) (by assumption) ?_
  rotate_left
  .intro w hSw;go_simp;try with_reducible rfl
  simp only[Act.put,Mb,Mk,Ml];refine zC 8 (some 54) (v:=?_) rfl rfl (by kernel_rfl) (by kernel_rfl) (by kernel_rfl) (fun _ _ _ h=>h) (Or.inl ⟨by rfl,?_⟩) (by assumption) ?_
  rotate_left
  .intro w hSw;go_simp;try with_reducible rfl
  simp only[Act.put,Mb,Mk,Ml];refine zC 9 (some 55) (v:=?_) rfl rfl (by kernel_rfl) (by kernel_rfl) (by kernel_rfl) (fun _ _ _ h=>h) (Or.inl ⟨by rfl,?_⟩) (by assumption) ?_
  rotate_left
  .intro w hSw;go_simp;try with_reducible rfl
  simp only[Act.put,Mb,Mk,Ml];refine zC 10 (some 56) (v:=?_) rfl rfl (by kernel_rfl) (by kernel_rfl) (by kernel_rfl) (fun _ _ _ h=>h) (Or.inl ⟨by rfl,?_⟩) (by assumption) ?_
  rotate_left
  .intro w hSw;go_simp;try with_reducible rfl
  simp only[Act.put,Mb,Mk,Ml];refine zC 11 (some 57) (v:=?_) rfl rfl (by kernel_rfl) (by kernel_rfl) (by kernel_rfl) (fun _ _ _ h=>h) (Or.inl ⟨by rfl,?_⟩) (by assumption) ?_
  rotate_left
  .intro w hSw;go_simp;try with_reducible rfl
  simp only[Act.put,Mb,Mk,Ml];refine Iq (rs:=[12]) (by kernel_rfl) (by simp) (JH rfl (fun K N=>?_) JU)
  go_simp
  refine N.out _ _ (by first|assumption|go_keep) (fun E=>?_);clear N K
  try simp only[Act.put,Mb,Mk,Ml]
  refine zC 13 (some 58) (v:=?_) rfl rfl (by kernel_rfl) (by kernel_rfl) (by kernel_rfl) (fun _ _ _ h=>h) (Or.inl ⟨by rfl,?_⟩) (by assumption) ?_
  rotate_left
  .intro w hSw;go_simp;try with_reducible rfl
  simp only[Act.put,Mb,Mk,Ml];refine zC 14 (some 59) (v:=?_) rfl rfl (by kernel_rfl) (by kernel_rfl) (by kernel_rfl) (fun _ _ _ h=>h) (Or.inl ⟨by rfl,?_⟩) (by assumption) ?_
  rotate_left
  .intro w hSw;go_simp;try with_reducible rfl
  simp only[Act.put,Mb,Mk,Ml];refine Iq (rs:=[15]) (by kernel_rfl) (by simp) (JH rfl (fun K N=>?_) JU)
  go_simp
  refine N.out _ _ (by first|assumption|go_keep) (fun E=>?_);clear N K
  try simp only[Act.put,Mb,Mk,Ml]
  refine zC 16 (some 60) (v:=?_) rfl rfl (by kernel_rfl) (by kernel_rfl) (by kernel_rfl) (fun _ _ _ h=>h) (Or.inl ⟨by rfl,?_⟩) (by assumption) ?_
  rotate_left
  .intro w hSw;go_simp;try with_reducible rfl
  simp only[Act.put,Mb,Mk,Ml];refine zC 17 (some 61) (v:=?_) rfl rfl (by kernel_rfl) (by kernel_rfl) (by kernel_rfl) (fun _ _ _ h=>h) (Or.inl ⟨by rfl,?_⟩) (by assumption) ?_
  rotate_left
  .intro w hSw;go_simp;try with_reducible rfl
  simp only[Act.put,Mb,Mk,Ml];refine Iq (rs:=[18]) (by kernel_rfl) (by simp) (JH rfl (fun K N=>?_) JU)
  go_simp
  refine N.out _ _ (by first|assumption|go_keep) (fun E=>?_);clear N K
  try simp only[Act.put,Mb,Mk,Ml]
  refine zC 19 (some 62) (v:=?_) rfl rfl (by kernel_rfl) (by kernel_rfl) (by kernel_rfl) (fun _ _ _ h=>h) (Or.inl ⟨by rfl,?_⟩) (by assumption) ?_
  rotate_left
  .intro w hSw;go_simp;try with_reducible rfl
  simp only[Act.put,Mb,Mk,Ml];refine zC 20 (some 63) (v:=?_) rfl rfl (by kernel_rfl) (by kernel_rfl) (by kernel_rfl) (fun _ _ _ h=>h) (Or.inl ⟨by rfl,?_⟩) (by assumption) ?_
  rotate_left
  .intro w hSw;go_simp;try with_reducible rfl
  simp only[Act.put,Mb,Mk,Ml];refine Iq (rs:=[21]) (by kernel_rfl) (by simp) (JH rfl (fun K N=>?_) JU)
  go_simp
  refine N.out _ _ (by first|assumption|go_keep) (fun E=>?_);clear N K
  try simp only[Act.put,Mb,Mk,Ml]
  refine wpAnyH_done (by kernel_rfl) ?_ _;refine f8.out _ ?_ ?_ ?_
  .exact Fr.drew (Fr.set (S:=fun k=>k=m.heap.size) (p:=⟨m.heap.size,5,none⟩) (Fr.set (S:=fun k=>k=m.heap.size) (p:=⟨m.heap.size,4,none⟩) (Fr.set (S:=fun k=>k=m.heap.size) (p:=⟨m.heap.size,3,none⟩) (Fr.set (S:=fun k=>k=m.heap.size) (p:=⟨m.heap.size,2,none⟩) (O _ _) (fun _=>rfl) _) (fun _=>rfl) _) (fun _=>rfl) _) (fun _=>rfl) _)
  .exact Blk.drew ((((f9.out.set 2 _).set 3 _).set 4 _).set 5 _)
  .exact((((LY WR ⟨m.heap.size,2,none⟩ _).trans (LY _ ⟨m.heap.size,3,none⟩ _)).trans (LY _ ⟨m.heap.size,4,none⟩ _)).trans (LY _ ⟨m.heap.size,5,none⟩ _)).trans (KeepsOthers.drew _)
 case done =>
  rintro D W hD ⟨⟨⟨h3,h4,hp,hj⟩,-,-,-⟩,⟨⟨L',c1,c2,c3⟩,c4,c5⟩,c6,c7⟩ N;rw[d6.out.1,Mz] at c1;have l8:=hp.cell 0;have m1:=h3.frozen 0;have m2:=h4.frozen 0;have l6:=h3.cell 0;have l7:=h4.cell 0;have i8:w.heap.size+3≠w.heap.size+4:=by omega
  have g6:=(h3.set 0 (.pointer (some ⟨m.heap.size,0,none⟩))).Gz (b':=w.heap.size+4) i8 0 .nilIface;have g7:=(h4.Gz (b':=w.heap.size+3) (JB i8) 0 (.pointer (some ⟨m.heap.size,0,none⟩))).set 0 .nilIface;have fE:Fr (fun k=>k=w.heap.size+3\/k=w.heap.size+4) W ((W.setCell ⟨w.heap.size+3,0,none⟩ (.pointer (some ⟨m.heap.size,0,none⟩))).setCell ⟨w.heap.size+4,0,none⟩ .nilIface) :=
   Fr.set (p:=⟨w.heap.size+4,0,none⟩) (Fr.set (p:=⟨w.heap.size+3,0,none⟩) (O _ _) (fun _=>.inl rfl) _) (fun _=>.inr rfl) _
  have g9:=((LY W ⟨w.heap.size+3,0,none⟩ (.pointer (some ⟨m.heap.size,0,none⟩))).trans (LY _ ⟨w.heap.size+4,0,none⟩ .nilIface)).same D _ N rfl;have G:∀ {k t},Ty W k t->t≠119->t≠132->¬(k=w.heap.size+3\/k=w.heap.size+4):=fun ht n1 n2 e=>by
   rcases e with rfl|rfl
   .exact n1 (ht.inj h3.ty)
   .exact n2 (ht.inj h4.ty)
  have i3:=Blk.fr hj fE (G (Blk.ty hj) (by decide) (by decide));have h5:=c1.fr fE (fun k o=>by rcases c1.Hn o with e|e|e <;> exact G e (by decide) (by decide)) (fun k o=>G (c1.Gg o) (by decide) (by decide));have h6:=c4.fr fE (fun k o=>by obtain⟨t,ht,hd⟩:=c4.ty o;unfold DTy at hd;rcases hd with rfl|rfl|rfl|rfl|rfl <;> exact G ht (by decide) (by decide));have g8:=c7.trans' fE (fun k o e=>by omega);have H3:=Z g6;have H4:=Z g7;have HJ:=Z i3;have HC:=Z h5;have j6:=Z h6;have j7:=Z g8;have HK:=Z g9;clear h3 h4 hp hj c1 c4 c5 c6 c7 g6 g7 fE g9 N G i3 h5 h6 g8
  gi_wp2_with fail
  refine⟨by simp,.inl ⟨_,_,rfl,JY HK.out,?_⟩⟩;have e3:=(H3.out.put HK.out rfl (.deferred none)).cell 0;have e4:=(H4.out.put HK.out rfl (.deferred none)).cell 0;have fP:=Fr.Ho (grownBy_putObj' ((W.setCell ⟨w.heap.size+3,0,none⟩ (.pointer (some ⟨m.heap.size,0,none⟩))).setCell ⟨w.heap.size+4,0,none⟩ .nilIface) D (.deferred none));have f6:Odd (fun k=>some D=some k) ((W.setCell ⟨w.heap.size+3,0,none⟩ (.pointer (some ⟨m.heap.size,0,none⟩))).setCell ⟨w.heap.size+4,0,none⟩ .nilIface):=fun k e=>by cases e;exact⟨_,HK.out,rfl⟩
  refine⟨.tuple #[.pointer (some ⟨m.heap.size,0,none⟩),.nilIface],?_,m.heap.size,R,L',rfl,Blk.fr HJ.out fP ((Blk.ty HJ.out).odd f6),by omega,j6.out.odd fP f6,k0.out,HC.out.odd fP f6,c2,c3,j7.out.trans' fP (fun k o e=>by have:=a0.out.2.2;cases e;omega)⟩;simp only[Mk,Kw] at e3 e4;simp[results,Tryz.f94,go_sem,e3,e4]
end Go.Proofs.YtkhnggkkiefcdaaGreatDoor
namespace Go.Proofs.YtkhnggkkiefcdaaGreatDoor
open Go.RowKit
set_option maxRecDepth 100000
set_option maxHeartbeats 8000000
theorem PM(r:List ByteArray)(x:ByteArray):(ZL r x).Perm (x::r):=by
 induction r with
 | nil=>exact JI _
 | cons y r a =>
  unfold ZL;split
  .exact(a.cons y).trans (List.Perm.swap x y r)
  .exact JI _
theorem Wk(d:Dir):d.names.Perm (d.map Prod.fst):=by
 have h:∀ (e:Dir) (r:List ByteArray),(e.foldl (fun r e=>ZL r e.1) r).Perm (e.map Prod.fst++r):=by
  intro e
  induction e with
  | nil=>intro r;exact JI _
  | cons x e a =>
   intro r;rw[LA,Mf,MJ];exact(a _).trans ((List.Perm.append_left _ (PM r x.1)).trans List.perm_middle)
 unfold Dir.names ZD;rw[Mz];refine(List.reverse_perm _).trans ?_;have:=h d []
 rwa [MB] at this
theorem SR{α β:Type}(f:α->β){l m:List β}(h:l.Perm m):∀ b:List α,m=b.map f->∃ a:List α,a.Perm b/\l=a.map f:=by
 induction h with
 | nil=>intro b e;exact⟨b,JI _,e⟩
 | cons x _ q =>
  intro b e;cases b with
  | nil=>cases e
  | cons y b =>
   simp only[Mf,Ju] at e;obtain⟨a,g,d⟩:=q b e.2;exact⟨y::a,g.cons y,by rw[Mf,<- e.1,<- d]⟩
 | swap x y l =>
  intro b e
  match b,e with
  | b1::k::b,e =>
   simp only[Mf,Ju] at e;exact⟨k::b1::b,List.Perm.swap _ _ _,by rw[Mf,Mf,<- e.1,<- e.2.1,<- e.2.2]⟩
 | trans _ _ i j =>
  intro b e;obtain⟨a,g,d⟩:=j b e;obtain⟨c,p,o⟩:=i a d;exact⟨c,p.trans g,o⟩
theorem PN{M:DM}{d:List Seg}(h:Lies M d):∃ b:List Nat,M.dir.names=b.map (ze zi)/\M.dir.length=b.length/\b.Nodup/\∀ n,n∈b↔1<=n/\n<=d.length:=by
 have f:=Wk M.dir;rw[h.names] at f;obtain⟨a,c,e⟩:=SR (ze zi) f ((List.range d.length).map (·+1)) (by simp[Function.comp_def]);refine⟨a,e,?_,?_,fun n=>?_⟩
 .have:=c.length_eq
  rw[Mw,List.length_range] at this;rw[h.length,this]
 .refine c.nodup_iff.2 ?_
  rw[Ki,Kq];exact(Ki.1 List.nodup_range).imp fun h e=>h (by omega)
 .rw[c.mem_iff]
  simp only[Mt,KO]
  constructor
  .rintro⟨i,hi,rfl⟩;omega
  .intro hn;exact⟨n-1,by omega,by omega⟩
theorem PO{M:DM}{b:List Seg}(h:Lies M b)(i:Nat)(c:i<b.length):∃ f,M.dir.look (ze zi (i+1))=some f/\(M.file f).bytes=zX (Z6 b i):=by
 have d:i<M.dir.length:=by rw[h.length];exact c
 have g:∀ j (k:j<M.dir.length) (a:j<b.length),M.dir[j].1=ze zi (j+1)/\(M.file M.dir[j].2).bytes=zX b[j]:=fun j k a=>by
  have e:M.view[j]?=(Zq 0 b)[j]?:=by rw[h.view]
  rw[Vs 0 b j a] at e;unfold DM.view at e;rw[JN,NZ k] at e;simp only[KX,KK,Kc,MD] at e;exact e
 refine⟨M.dir[i].2,?_,by rw[(g i d c).2];simp[Z6,List.getD_eq_getElem?_getD,List.getElem?_eq_getElem c]⟩;unfold Dir.look;have:M.dir.find? (fun e=>e.1==ze zi (i+1))=some M.dir[i]:=by
  rw[List.find?_eq_some_iff_getElem];refine⟨by rw[(g i d c).1,zJ],i,d,rfl,fun j k=>?_⟩;have a:j<M.dir.length:=by omega
  rw[(g j a (by omega)).1,Jg,<- Bool.not_eq_true,zJ];intro e;have:=Xw e;omega
 rw[this]
 rfl
theorem UG(k i:Nat)(h:i<k):Z9 (segs k) i=(i+1,ze zi (i+1)):=by
 simp[Z9,segs,List.getD_eq_getElem?_getD,h]
theorem YC(k:Nat):(segs k).length=k:=by simp[segs]
theorem N9(a:Nat)(b:List Seg):JM.read a (segs b.length) b b.length=JM.at a b false:=by
 rcases Ld b with rfl|⟨r,s,rfl⟩
 .rfl
 .rw[Le,JM.Hz,NQ,NU]
  show({Hq:=a,last:=(Z9 (segs (r.length+1)) r.length).1,name:=(Z9 (segs (r.length+1)) r.length).2,size:=(zX (Z6 (r++[s]) r.length)).length,Gk:=decide (0<(Z6 (r++[s]) r.length).2.length),Hb:=false}:JM)=_;rw[UG _ _ (Nat.lt_succ_self _)];simp[Z6,List.getD_eq_getElem?_getD]
def Zp(B:Nat)(w:World):Prop:=Yt B w/\Yv w/\4<B
theorem Zp.fr{B:Nat}{S:Nat->Prop}{w w':World}(h:Zp B w)(c:B<=w.heap.size)(f:Fr S w w')(a:∀ k,S k->B<=k):Zp B w' :=
 ⟨h.1.fr c f a,h.2.1.fr f (fun e=>by have:=a _ e;have:=h.2.2;omega),h.2.2⟩
theorem QQ(B b:Nat)(L:DL)(M:DM)(a q:Nat)(r:SL)(j:List Seg)(w:World)(h:DRep w b L M)(hs:SRep w q r SM.nil)(F:Lies M j)(G:WQ j)(t:j.length<1000000000)
 (u:∀ i,(((zc j).take i).foldl SM.enter SM.nil).keys.length<1099511627776/\(((zc j).take i).foldl SM.enter SM.nil).hints.length<1000000)
 (c:Zp B w)(s:B<=w.heap.size)(g:∀ k,Foot b L M k->B<=k) :
 Calls Tryz.prog 94 #[.pointer (some ⟨b,0,none⟩),.int .i64 a,.func (.func 95) #[] #[],.func (.func 96) #[.pointer (some ⟨q,0,none⟩)] #[]] w fun e m =>
  ∃ I A o,e=.returned (.tuple #[.pointer (some ⟨I,0,none⟩),.nilIface])/\JRep m I b (JM.at a j false)/\w.heap.size<=I/\DRep m b A M/\(∀ k,Foot b A M k->Foot b L M k\/w.heap.size<=k) /\
   SRep m q o (Z5 j)/\(∀ k,SFoot q o k->SFoot q r k\/w.heap.size<=k)/\(∀ k,SRead o k->SRead r k\/w.heap.size<=k)/\Fr (fun k=>SFoot q r k\/Foot b L M k) w m:=by
 obtain⟨d,x,p,y,z⟩:=PN F;have a0:d.length=j.length:=by rw[<- p,F.length]
 have K:∀ n∈d,1<=n/\n<10^15:=fun n Y=>by have:=(z n).1 Y;omega
 have:=RM b L M M a q r (segs j.length) j w h hs
  (fun C f=>(Oy b C (QM b L M C (h.nil f) d x p y K (by omega) (fun m D=>(c.fr s (f.trans D) (fun _ e=>absurd e id)).1.1) (c.fr s f (fun _ e=>absurd e id)).2.1)).mono (by
    rintro e m ⟨rfl,N⟩;exact⟨L,rfl,DStep.look (h.nil f) N⟩))
  (fun C A X f=>(VW b A M C X d x p y K (by omega) (fun m D=>((c.fr s f g).fr (NR s f.size) D (fun _ e=>absurd e id)).1.1) (c.fr s f g).2.1).mono (by
    rintro e m ⟨mb,v,l,rfl,Q,J,R,S,T,V⟩;obtain rfl:=RJ R J.Gv z;exact⟨mb,v,rfl,Q,J,S,T,V⟩))
  (YC _) (by rw[YC];exact t)
  (fun i E=>by rw[YC] at E;rw[UG _ _ E];exact PO F i E) G u
 rw[YC,N9] at this;exact this
theorem Qc{f n:Nat}(size:Nat->Nat):∀ l:List Nat,l.Nodup->(l.map fun g=>if g=f then size g+n else size g).sum<=(l.map size).sum+n
 | [],_=>by simp
 | a::l,h=>by
  simp only[Kl] at h;simp only[Mf,Ly];by_cases e:a=f
  .subst e
   have:(l.map fun g=>if g=a then size g+n else size g)=l.map size:=by
    apply MX
    intro x b;rw[Ma (fun e=>h.1 (by rw[<- e];exact b))]
   rw[this,Mg rfl];omega
  .rw[Ma e]
   have:=Qc (f:=f) (n:=n) size l h.2;omega
theorem PP{s b:Nat->Nat}:∀ l:List Nat,(∀ g∈l,b g<=s g)->(l.map b).sum<=(l.map s).sum
 | [],_=>NS _
 | a::l,h=>by
  have d:=h a (NY ..);have e:=PP l (fun g c=>h g (NX _ c));simp only[Mf,Ly];omega
theorem V0(s:Nat->Nat):∀ (l m:List Nat),l.Nodup->(∀ x∈l,x∈m)->(l.map s).sum<=(m.map s).sum
 | [],m,_,_=>Me _
 | a::l,m,h,c=>by
  simp only[Kl] at h;obtain⟨e,g,rfl⟩:=List.append_of_mem (c a (NY ..));have:=V0 s l (e++g) h.2 (fun x d=>by
   have b:=c x (NX _ d);simp only[Mc,Mr] at b |-;rcases b with b|b|b
   .exact .inl b
   .exact absurd (b▸d) h.1
   .exact .inr b)
  simp only[ML,Is,Mf,Ly] at this |-;omega
def DM.all(M:DM):Nat:=(M.ids.map fun g=>(M.file g).bytes.length).sum
structure Bd(M:DM)(t:Nat):Prop where
 c0:0<=M.calls
 calls:M.calls<=t
 f0:0<=M.IZ
 fr:M.IZ<=M.refused
 rc:M.refused<=M.calls
 r0:0<=M.room
 r1:M.room<9223372036854775808
 part:0<=M.part
 all:M.all<=2000*t
 GP:M.ids.Nodup
 GJ:M.ids.length<=t
 Gc:∀ e∈M.dir,e.2∈M.ids
 once:(M.dir.map (·.2)).Nodup
 IW:M.IW.length<=t
 Hy:∀ d∈M.safe::M.IW,d.length<=t
 dir:M.dir.length<=t
theorem Bd.more{M:DM}{t u:Nat}(h:Bd M t)(a:t<=u):Bd M u :=
 ⟨h.c0,by have:=h.calls;omega,h.f0,h.fr,h.rc,h.r0,h.r1,h.part,by have:=h.all;omega,h.GP,NR h.GJ a,h.Gc,h.once,NR h.IW a,fun d b=>NR (h.Hy d b) a,NR h.dir a⟩
theorem DM.FN{M:DM}(a:(M.dir.map (·.2)).Nodup)(b:∀ e∈M.dir,e.2∈M.ids):M.Hx<=M.all:=by
 have:=V0 (fun g=>(M.file g).bytes.length) (M.dir.map (·.2)) M.ids a (fun x d=>by
  obtain⟨e,c,rfl⟩:=Mt.1 d;exact b e c)
 rw[LZ] at this;exact this
theorem Bd.Hx{M:DM}{t:Nat}(h:Bd M t):M.Hx<=2000*t:=NR (DM.FN h.once h.Gc) h.all
theorem Bd.file{M:DM}{t:Nat}(h:Bd M t){g:Nat}(c:g∈M.ids):(M.file g).bytes.length<=2000*t:=by
 have:=V0 (fun g=>(M.file g).bytes.length) [g] M.ids (by simp) (fun x a=>by rw[NW] at a;subst a;exact c);have b:=h.all;unfold DM.all at b;simp only[Mf,LC,Ly,List.sum_nil] at this;omega
structure Tick(M M':DM)(e:Option Int):Prop where
 cut:M'.cut=M.cut
 fail:M'.fail=M.fail
 le:M.calls<=M'.calls
 Fl:e=none->∀ c,M.calls<c->c<=M'.calls->c≠M.cut/\c≠M.fail
 bad:e=some 9->M.dead=false->M.calls<M'.calls/\(M'.calls=M.cut/\M'.dead=true\/M'.calls=M.fail/\M'.dead=false)
def Ans(M a:DM)(e:Option Int):Prop :=
 ((e=none/\a.refused=M.refused/\a.IZ=M.IZ/\a.dead=M.dead) \/
 (a.refused=M.refused+1/\((e=some 9/\a.IZ=M.IZ)\/(e=some 10/\a.IZ=M.IZ+1/\a.dead=M.dead))))/\Tick M a e
theorem Ans.refl(M:DM):Ans M M none:=⟨.inl ⟨rfl,rfl,rfl,rfl⟩,⟨rfl,rfl,Kx _,fun _ c a b=>absurd a (Int.not_lt.2 b),fun e=>by cases e⟩⟩
theorem Ans.trans{q o t:DM}{e:Option Int}(h:Ans q o none)(k:Ans o t e):Ans q t e:=by
 obtain⟨h,g⟩:=h;obtain⟨k,l⟩:=k;have y:o.dead=q.dead:=by
  rcases h with⟨_,_,_,c⟩|⟨_,⟨h,_⟩|⟨h,_⟩⟩
  .exact c
  .cases h
  .cases h
 refine⟨?_,l.cut.trans g.cut,l.fail.trans g.fail,Int.le_trans g.le l.le,fun r c s x=>?_,fun r s=>?_⟩
 .rcases h with⟨_,a,b,c⟩|⟨_,⟨h,_⟩|⟨h,_⟩⟩
  .rw[a,b,c] at k
   exact k
  .cases h
  .cases h
 .by_cases hc:c<=o.calls
  .exact g.Fl rfl c s hc
  .have:=l.Fl r c (by omega) x
   rw[g.cut,g.fail] at this;exact this
 .have:=l.bad r (y.trans s)
  rw[g.cut,g.fail] at this;exact⟨Int.lt_of_le_of_lt g.le this.1,this.2⟩
structure Pass(M:DM):Prop where
 dead:M.dead=false
 cut:M.calls+1≠M.cut
 fail:M.calls+1≠M.fail
structure Stop(M:DM)(d:Bool):Prop where
 dead:M.dead=true->d=true
 why:M.dead=false->M.calls+1=M.cut/\d=true\/M.calls+1=M.fail/\d=false
theorem Xc{M:DM}{t:Nat}(h:Bd M t)(l:t<=1000000000) :
 (M.IP=(true,0,{M with calls:=M.calls+1})/\Pass M)\/(∃ b d,M.IP=(b,9,{M with calls:=M.calls+1,refused:=M.refused+1,dead:=d})/\(b=true->d=true)/\Stop M d):=by
 have f:=h.calls;have g:=h.c0;have i:=h.rc;have j:=h.fr;have k:=h.f0;have a:wrap64 (M.calls+1)=M.calls+1:=by unfold wrap64;omega
 have c:wrap64 (M.refused+1)=M.refused+1:=by unfold wrap64;omega
 unfold DM.IP;simp only[a,c];split
 .rename_i hd
  exact .inr ⟨false,true,by rw[<- hd],(fun e=>by cases e),⟨fun _=>rfl,fun e=>by rw[hd] at e;cases e⟩⟩
 .rename_i hd
  simp only[Bool.not_eq_true] at hd;split
  .rename_i hc
   exact .inr ⟨true,true,rfl,fun _=>rfl,fun _=>rfl,fun _=>.inl ⟨by simpa using hc,rfl⟩⟩
  .rename_i hc
   split
   .rename_i hf
    exact .inr ⟨false,false,by rw[<- hd],(fun e=>by cases e),⟨(fun e=>by rw[hd] at e;cases e),fun _=>.inr ⟨by simpa using hf,rfl⟩⟩⟩
   .rename_i hf
    exact .inl ⟨rfl,hd,by simpa using hc,by simpa using hf⟩
def DM.no(M:DM)(d:Bool):DM:={M with calls:=M.calls+1,refused:=M.refused+1,dead:=d}
theorem Bd.no{M:DM}{t:Nat}(h:Bd M t)(d:Bool):Bd (M.no d) (t+1) where
 c0:=by have:=h.c0;show 0<=M.calls+1;omega
 calls:=by have:=h.calls;show M.calls+1<=_;push_cast;omega
 f0:=h.f0
 fr:=by have:=h.fr;show M.IZ<=M.refused+1;omega
 rc:=by have:=h.rc;show M.refused+1<=M.calls+1;omega
 r0:=h.r0
 r1:=h.r1
 part:=h.part
 all:=by have:=h.all;show M.all<=_;omega
 GP:=h.GP
 GJ:=My h.GJ
 Gc:=h.Gc
 once:=h.once
 IW:=My h.IW
 Hy:=fun x a=>My (h.Hy x a)
 dir:=My h.dir
theorem Ans.no{M a:DM}{d:Bool}(k:Stop M d)(h:a.refused=(M.no d).refused)(b:a.IZ=M.IZ)(c:a.calls=M.calls+1:=by rfl)(f:a.cut=M.cut:=by rfl)(g:a.fail=M.fail:=by rfl)(i:a.dead=d:=by rfl):Ans M a (some 9) :=
 ⟨.inr ⟨h,.inl ⟨rfl,b⟩⟩,f,g,(by omega),(fun e=>by cases e),fun _ j=>⟨by omega,by rw[c,i];exact k.why j⟩⟩
def DM.GX(M:DM)(f:Nat):DM:={M with calls:=M.calls+1,file:=fun g=>if g=f then {M.file f with safe:=(M.file f).bytes.length} else M.file g}
theorem Yl(M:DM)(f g:Nat):((M.GX f).file g).bytes=(M.file g).bytes:=by
 show(if g=f then {M.file f with safe:=(M.file f).bytes.length} else M.file g:FM).bytes=_;split
 .rename_i e;subst e;rfl
 .rfl
theorem Wl(M:DM)(f g:Nat):((M.GX f).file g).safe=if g=f then(M.file f).bytes.length else(M.file g).safe:=by
 show(if g=f then {M.file f with safe:=(M.file f).bytes.length} else M.file g:FM).safe=_;split <;> rfl
theorem OE{M:DM}{t:Nat}(h:Bd M t)(i:t<=1000000000){a:ByteArray}{f:Nat}(g:M.dir.look a=some f) :
 (M.sync a=(0,M.GX f)/\Pass M)\/∃ d,M.sync a=(9,M.no d)/\Stop M d:=by
 unfold DM.sync;rw[g];rcases Xc h i with⟨e,c⟩|⟨b,d,e,_,c⟩
 .refine .inl ⟨?_,c⟩
  simp only[e,MP]
  rfl
 .refine .inr ⟨d,?_,c⟩
  simp only[e]
  rfl
theorem Bd.GX{M:DM}{t:Nat}(h:Bd M t)(f:Nat):Bd (M.GX f) (t+1) where
 c0:=by have:=h.c0;show 0<=M.calls+1;omega
 calls:=by have:=h.calls;show M.calls+1<=_;push_cast;omega
 f0:=h.f0
 fr:=h.fr
 rc:=by have:=h.rc;show M.refused<=M.calls+1;omega
 r0:=h.r0
 r1:=h.r1
 part:=h.part
 all:=by
  have:=h.all;unfold DM.all at this |-;simp only[Yl];show(M.ids.map _).sum<=_;omega
 GP:=h.GP
 GJ:=My h.GJ
 Gc:=h.Gc
 once:=h.once
 IW:=My h.IW
 Hy:=fun x a=>My (h.Hy x a)
 dir:=My h.dir
theorem Ans.ok{M M':DM}(b:Pass M)(h:M'.refused=M.refused)(a:M'.IZ=M.IZ)(d:M'.dead=M.dead)(k:M'.calls=M.calls+1:=by rfl)(f:M'.cut=M.cut:=by rfl)(i:M'.fail=M.fail:=by rfl):Ans M M' none :=
 ⟨.inl ⟨rfl,h,a,d⟩,f,i,by omega,fun _ c j a=>(show c=M.calls+1 by omega)▸⟨b.cut,b.fail⟩,fun e=>by cases e⟩
def DM.GG(M:DM):DM:={M with calls:=M.calls+1,safe:=M.dir,IW:=[]}
theorem RN{M:DM}{t:Nat}(h:Bd M t)(c:t<=1000000000) :
 (M.He=(0,M.GG)/\Pass M)\/∃ d,M.He=(9,M.no d)/\Stop M d:=by
 unfold DM.He;rcases Xc h c with⟨e,a⟩|⟨b,d,e,_,a⟩
 .refine .inl ⟨?_,a⟩
  simp only[e,MP]
  rfl
 .refine .inr ⟨d,?_,a⟩
  simp only[e]
  rfl
theorem Bd.GG{M:DM}{t:Nat}(h:Bd M t):Bd M.GG (t+1) where
 c0:=by have:=h.c0;show 0<=M.calls+1;omega
 calls:=by have:=h.calls;show M.calls+1<=_;push_cast;omega
 f0:=h.f0
 fr:=h.fr
 rc:=by have:=h.rc;show M.refused<=M.calls+1;omega
 r0:=h.r0
 r1:=h.r1
 part:=h.part
 all:=by have:=h.all;show M.all<=_;omega
 GP:=h.GP
 GJ:=My h.GJ
 Gc:=h.Gc
 once:=h.once
 IW:=Me _
 Hy:=fun x a=>by
  rcases Mr.1 a with e|e
  .rw[e];exact My h.dir
  .cases e
 dir:=My h.dir
def DM.born(M:DM)(a:ByteArray)(f:Nat)(r:Int)(d:Bool):DM:={M with calls:=M.calls+1,refused:=r,dead:=d,ids:=f::M.ids,file:=fun g=>if g=f then⟨[],0⟩ else M.file g,dir:=M.dir++[(a,f)],IW:=M.IW++[M.dir++[(a,f)]]}
theorem QR{M:DM}{t:Nat}(h:Bd M t)(k:t<=1000000000){a:ByteArray}(g:a≠ByteArray.empty)(j:M.dir.look a=none)(f:Nat) :
 (M.create a f=(0,M.born a f M.refused M.dead)/\Pass M)\/(∃ d,M.create a f=(9,M.no d)/\Stop M d)\/(M.create a f=(9,M.born a f (M.refused+1) true)/\Stop M true):=by
 unfold DM.create;rw[Ma (by rw[j];rintro(e|e);exact g e;cases e)];rcases Xc h k with⟨e,c⟩|⟨b,d,e,i,c⟩
 .refine .inl ⟨?_,c⟩
  simp only[e,MP]
  rfl
 .cases b with
  | false =>
   refine .inr (.inl ⟨d,?_,c⟩);simp only[e]
   rfl
  | true =>
   rw[i rfl] at e c;refine .inr (.inr ⟨?_,c⟩);simp only[e,MP]
   rfl
theorem Bd.born{M:DM}{t:Nat}(h:Bd M t)(c:ByteArray)(f:Nat)(l:f∉M.ids)(r:Int)(d:Bool)(u:M.refused<=r)(v:r<=M.refused+1):Bd (M.born c f r d) (t+1) where
 c0:=by have:=h.c0;show 0<=M.calls+1;omega
 calls:=by have:=h.calls;show M.calls+1<=_;push_cast;omega
 f0:=h.f0
 fr:=by have:=h.fr;show M.IZ<=r;omega
 rc:=by have:=h.rc;show r<=M.calls+1;omega
 r0:=h.r0
 r1:=h.r1
 part:=h.part
 all:=by
  have:=h.all;have e:(M.born c f r d).all=M.all:=by
   show((f::M.ids).map fun g=>(if g=f then⟨[],0⟩ else M.file g:FM).bytes.length).sum=(M.ids.map fun g=>(M.file g).bytes.length).sum;rw[Mf,Ly,Mg rfl,ME,MD];refine LH List.sum (MX fun g s=>?_);rw[Ma (fun e=>l (by rw[<- e];exact s))]
  rw[e];omega
 GP:=Kl.2 ⟨l,h.GP⟩
 GJ:=Nat.succ_le_succ h.GJ
 Gc:=fun e i=>by
  rcases Mc.1 i with i|i
  .exact NX _ (h.Gc e i)
  .rw[NW] at i;subst i;exact NY ..
 once:=by
  show((M.dir++[(c,f)]).map (·.2)).Nodup;rw[ML,Kr];refine⟨h.once,by simp,fun a q b o e=>?_⟩;simp only[Mf,LC,NW] at o;obtain⟨x,m,rfl⟩:=Mt.1 q;exact l (by rw[<- o,<- e];exact h.Gc x m)
 IW:=by show(M.IW++[_]).length<=_;rw[NQ,NU];have:=h.IW;omega
 Hy:=fun x m=>by
  have k:=h.Hy x;have j:x∈M.safe::(M.IW++[M.dir++[(c,f)]]):=m;simp only[Mr,Mc,LO,JG] at j k;rcases j with e|e|e
  .exact My (k (.inl e))
  .exact My (k (.inr e))
  .rw[e,NQ,NU];have:=h.dir;omega
 dir:=by show(M.dir++[_]).length<=_;rw[NQ,NU];have:=h.dir;omega
def DM.put(M:DM)(f:Nat)(l:List UInt8)(r u:Int)(d:Bool):DM:={M with calls:=M.calls+1,refused:=r,IZ:=u,dead:=d,file:=fun g=>if g=f then {M.file f with bytes:=(M.file f).bytes++l} else M.file g}
theorem ZV(M:DM)(f:Nat)(l:List UInt8)(r u:Int)(d:Bool)(g:Nat):((M.put f l r u d).file g).bytes=if g=f then(M.file f).bytes++l else(M.file g).bytes:=by
 show(if g=f then {M.file f with bytes:=(M.file f).bytes++l} else M.file g:FM).bytes=_;split <;> rfl
theorem Vt(M:DM)(f:Nat)(l:List UInt8)(r u:Int)(d:Bool)(g:Nat):((M.put f l r u d).file g).safe=(M.file g).safe:=by
 show(if g=f then {M.file f with bytes:=(M.file f).bytes++l} else M.file g:FM).safe=_;split
 .rename_i e;subst e;rfl
 .rfl
theorem Bd.left{M:DM}{t:Nat}(h:Bd M t)(g:t<=1000000000):M.left=if M.room<M.Hx then 0 else M.room-M.Hx:=by
 have c:=h.Hx;have d:=h.r0;have f:=h.r1;have a:M.used=M.Hx:=M.Fs (by omega);have b:IntKind.i64.wrap (M.room-(M.Hx:Int))=M.room-(M.Hx:Int):=by rw[MC];omega
 unfold DM.left;rw[a,b];by_cases e:M.room<M.Hx
 .rw[Mg e,Mg (by omega)]
 .rw[Ma e,Ma (by omega)]
theorem Na{M:DM}{t:Nat}(h:Bd M t)(p:t<=1000000000){i:ByteArray}{f:Nat}(x:M.dir.look i=some f)(a:ByteArray) :
 ∃ e k r u d,M.add i a=(e,M.put f (a.data.toList.take k) r u d)/\k<=a.size /\
  ((e=0/\k=a.size/\r=M.refused/\u=M.IZ/\d=M.dead/\Pass M)\/(r=M.refused+1/\((e=9/\u=M.IZ/\Stop M d)\/(e=10/\u=M.IZ+1/\d=M.dead/\M.dead=false/\M.room<M.Hx+a.size)))):=by
 have v:a.data.toList.length=a.size:=by rw[LJ];rfl
 have o:∀ n:Nat,(a.extract 0 n).data.toList=a.data.toList.take n:=by
  intro n;rw[ByteArray.data_extract];simp
 have A:=h.rc;have B:=h.fr;have C:=h.f0;have z:=h.calls;have q:wrap64 (M.refused+1)=M.refused+1:=by unfold wrap64;omega
 have s:wrap64 (M.IZ+1)=M.IZ+1:=by unfold wrap64;omega
 have j:∀ (r:Int) (d:Bool),DM.left {M with calls:=M.calls+1,refused:=r,dead:=d}=M.left:=fun r d=>rfl;have m:=h.left p;unfold DM.add;rw[x];simp only;rcases Xc h p with⟨e,l⟩|⟨b,d,e,D,l⟩
 .have ht1:M.tries a.size=some (a.size:Int):=by unfold DM.tries;rw[e];rfl
  simp only[ht1,e];rw[show DM.left {M with calls:=M.calls+1}=M.left from rfl,m];by_cases c:(if M.room<(M.Hx:Int) then 0 else M.room-(M.Hx:Int))<a.size
  .rw[Mg c]
   simp only[MP];rw[q,s,o];refine⟨10,min (if M.room<(M.Hx:Int) then 0 else M.room-(M.Hx:Int)).toNat a.size,M.refused+1,M.IZ+1,M.dead,?_,Ia _ _,.inr ⟨rfl,.inr ⟨rfl,rfl,rfl,l.dead,?_⟩⟩⟩
   .rw[MU (by split at c <;> omega)]
    rfl
   .split at c <;> omega
  .rw[Ma c]
   refine⟨0,a.size,M.refused,M.IZ,M.dead,?_,NS _,.inl ⟨rfl,rfl,rfl,rfl,rfl,l⟩⟩;rw[JO,o]
   rfl
 .cases ht1:M.tries a.size with
  | none =>
   simp only[e];refine⟨9,0,M.refused+1,M.IZ,d,?_,Me _,.inr ⟨rfl,.inl ⟨rfl,rfl,l⟩⟩⟩
   congr 1
   unfold DM.put
   congr 1
   funext g
   split
   .rename_i e';subst e';simp
   .rfl
  | some n =>
   have y:0<=n/\n<=a.size:=by
    unfold DM.tries at ht1;split at ht1
    .obtain rfl:=Mp ht1
     exact⟨by omega,Kx _⟩
    .split at ht1
     .rename_i h2
      obtain rfl:=Mp ht1;exact⟨Int.tmod_nonneg _ h.part,Int.le_of_lt (Int.tmod_lt_of_pos _ h2.2)⟩
     .cases ht1
   simp only[e];rw[j,m];by_cases c:(if M.room<(M.Hx:Int) then 0 else M.room-(M.Hx:Int))<n
   .rw[Mg c,Ma (by decide),o]
    exact⟨9,(if M.room<(M.Hx:Int) then 0 else M.room-(M.Hx:Int)).toNat,M.refused+1,M.IZ,d,rfl,by split at c <;> omega,.inr ⟨rfl,.inl ⟨rfl,rfl,l⟩⟩⟩
   .rw[Ma c,o]
    exact⟨9,n.toNat,M.refused+1,M.IZ,d,rfl,by omega,.inr ⟨rfl,.inl ⟨rfl,rfl,l⟩⟩⟩
theorem Bd.put{M:DM}{t:Nat}(h:Bd M t)(f:Nat)(l:List UInt8)(s:l.length<=2000)(r u:Int)(d:Bool)(c:M.refused<=r)(i:r<=M.refused+1)(j:M.IZ<=u)(o:u-M.IZ<=r-M.refused):Bd (M.put f l r u d) (t+1) where
 c0:=by have:=h.c0;show 0<=M.calls+1;omega
 calls:=by have:=h.calls;show M.calls+1<=_;push_cast;omega
 f0:=by have:=h.f0;show 0<=u;omega
 fr:=by have:=h.fr;show u<=r;omega
 rc:=by have:=h.rc;show r<=M.calls+1;omega
 r0:=h.r0
 r1:=h.r1
 part:=h.part
 all:=by
  have a:=h.all;have q:=Qc (f:=f) (n:=l.length) (fun k=>(M.file k).bytes.length) M.ids h.GP;unfold DM.all at a |-;simp only[ZV];have e:(fun g=>(if g=f then(M.file f).bytes++l else(M.file g).bytes).length)=fun g=>if g=f then(M.file g).bytes.length+l.length else(M.file g).bytes.length:=by
   funext g
   split
   .rename_i e;subst e;simp
   .rfl
  rw[e];show(M.ids.map _).sum<=_;omega
 GP:=h.GP
 GJ:=My h.GJ
 Gc:=h.Gc
 once:=h.once
 IW:=My h.IW
 Hy:=fun x b=>My (h.Hy x b)
 dir:=My h.dir
theorem Nb{M:DM}{t:Nat}(h:Bd M t)(f:Nat)(l:List UInt8)(r u:Int)(d:Bool):(M.put f l r u d).Hx<=M.Hx+l.length:=by
 have a:=UF (f:=f) (n:=l.length) (fun k=>(M.file k).bytes.length) M.dir h.once;unfold DM.Hx;simp only[ZV];have e:(fun e:ByteArray × Nat=>(if e.2=f then(M.file f).bytes++l else(M.file e.2).bytes).length)=fun e=>if e.2=f then(M.file e.2).bytes.length+l.length else(M.file e.2).bytes.length:=by
  funext g
  split
  .rename_i e;rw[<- e];simp
  .rfl
 rw[e];exact a
def zF(c:Int)(n:Nat):Nat:=(if c<0 then -(c+1) else c).toNat%(n+1)
theorem ZW(c:Int)(n:Nat):zF c n<=n:=by
 have:=Jk (if c<0 then -(c+1) else c).toNat (show 0<n+1 by omega);unfold zF;omega
theorem Y2(c:Int)(n:Nat)(w:World)(k:-9223372036854775808<=c)(l:c<=9223372036854775807)(o:n<=140737488355328) :
 Calls Tryz.prog 85 #[.int .i64 c,.int .i64 n] w fun e j=>e=.returned (.int .i64 (zF c n))/\j=w:=by
 by_cases d:c<0
 .obtain⟨m,hm⟩:=Mx (a:=-(c+1)) (by omega)
  have b:Hid (zF c n=m%(n+1)):=by simp[Hid,zF,d,hm]
  have h:(m:Int).tmod ((n:Int)+1)=((m%(n+1):Nat):Int):=by rw[show((n:Int)+1)=((n+1:Nat):Int) from rfl,Je]
  have i:(((n:Int)+1)==0)=false:=by rw[MI];omega
  have f:(m:Int)<=9223372036854775807:=by omega
  have g:((m%(n+1):Nat):Int)<=9223372036854775807:=by have:=Nat.mod_le m (n+1);omega
  obtain rfl:c=-(m:Int)-1:=by omega
  clear hm;go_enter Tryz.func85,Tryz.ntmps85
  go_wp2
  go_ret;rw[b.out];exact⟨rfl,rfl⟩
 .obtain⟨m,rfl⟩:=Mx (a:=c) (by omega)
  have b:Hid (zF m n=m%(n+1)):=by simp only[Hid,zF];rw[Ma d];rfl
  have h:(m:Int).tmod ((n:Int)+1)=((m%(n+1):Nat):Int):=by rw[show((n:Int)+1)=((n+1:Nat):Int) from rfl,Je]
  have i:(((n:Int)+1)==0)=false:=by rw[MI];omega
  go_enter Tryz.func85,Tryz.ntmps85
  go_wp2
  go_ret;rw[b.out];exact⟨rfl,rfl⟩
def ZJ(w:World)(v:Value)(l:List Int):Prop :=
 ((∃ a c,v=.slice a 0 c)/\l=[])\/∃ g b d,v=.slice (some ⟨g,b,none⟩) l.length d/\g<w.heap.size/\l.length<=maxLen/\∀ j (h:j<l.length),w.cell? ⟨g,b+j,none⟩=some (.int .i64 l[j])
theorem ZJ.fr{S:Nat->Prop}{w w':World}{v:Value}{l:List Int}(h:ZJ w v l)(f:Fr S w w')(r:∀ k,l≠[]->v.ownBlock=some k->¬S k):ZJ w' v l:=by
 rcases h with h|⟨g,a,cap,rfl,i,q,o⟩
 .exact .inl h
 .exact .inr ⟨g,a,cap,rfl,Lb i f.size,q,fun j c=>by rw[f.cell (p:=⟨g,a+j,none⟩) i (r g (fun e=>by rw[e] at c;exact absurd c (MA _)) rfl)];exact o j c⟩
def ZG(f:FM)(c:Int):FM :=
 ⟨f.bytes.take (f.safe+zF c (f.bytes.length-f.safe)),f.safe+zF c (f.bytes.length-f.safe)⟩
def zh(d:Dir)(a:List Int)(file:Nat->FM):Nat->Nat->FM
 | 0=>file
 | k+1=>match (d.names[k]?).bind (Dir.look d) with
  | some f=>fun g=>if g=f then ZG (zh d a file k f) (a.getD k 0) else zh d a file k g
  | none=>zh d a file k
def DM.Ht(M:DM)(a:Int):Dir :=
 if zF a M.IW.length=0 then M.safe else M.IW.getD (zF a M.IW.length-1) []
def DM.Gd(M:DM)(a:Int)(b:List Int):DM :=
 {M with dir:=M.Ht a,safe:=M.Ht a,IW:=[],file:=zh (M.Ht a) b M.file (M.Ht a).names.length,dead:=false,cut:=0,fail:=0}
theorem DRep.Fg{w j:World}{b:Nat}{L:DL}{M:DM}(h:DRep w b L M){d:Dir}{v:Value}(q:w.ownsRow 0 148 2 v d.length (flat d))(s:∀ e,e∈d->e.2∈M.ids)
 (r:Blk j b (({M with dir:=d}:DM).cells {L with Hm:=v}) 143)(f:Fr (fun k=>k=b) w j):DRep j b {L with Hm:=v} {M with dir:=d} where
 IR:=r
 dir:=za q f fun _ e a=>by subst a;exact zf q h.IR (by decide) e
 safe:=za h.safe f fun _ e a=>by subst a;exact zf h.safe h.IR (by decide) e
 ch:=za h.ch f fun _ e a=>by subst a;exact zf h.ch h.IR (by decide) e
 Gj:=h.Gj
 IW:=fun i l o=>za (h.IW i l o) f fun _ e a=>by subst a;exact zf (h.IW i l o) h.IR (by decide) e
 files:=fun g c=>(h.files g c).fr f ((h.files g c).ne h.IR (by decide))
 rows:=fun g c=>za (h.rows g c) f fun _ e a=>by subst a;exact zf (h.rows g c) h.IR (by decide) e
 sep:=h.sep
 le:=h.le
 Gc:=s
 GC:=h.GC
 GB:=h.GB
theorem DRep.Gx{w s:World}{b:Nat}{L:DL}{M:DM}(h:DRep w b L M){f:Nat}(y:f∈M.ids){v:Value}{m:Nat}(E:m<=(M.file f).bytes.length)
 (C:Blk s f [v,.int .i64 m] 152)(D:w.ownsRow 0 5 1 v m (u8s ((M.file f).bytes.take m)))
 (fr:Fr (fun k=>k=f) w s)(o:∀ k,v.ownBlock=some k->(L.fV f).ownBlock=some k) :
 DRep s b {L with fV:=fun g=>if g=f then v else L.fV g} (M.IY f ⟨(M.file f).bytes.take m,m⟩):=by
 have a:∀ {e:TypeId} {A:Nat} {v:Value} {n:Nat} {B:List Value},w.ownsRow 0 e A v n B->e≠152->s.ownsRow 0 e A v n B:=fun z u =>
  za z fr fun k e d=>by subst d;exact zf z (h.files k y) (JB u) e
 have q:((M.file f).bytes.take m).length=m:=by simp;omega
 exact {
  IR:=h.IR.fr fr (h.IR.ne (h.files f y) (by decide))
  dir:=a h.dir (by decide)
  safe:=a h.safe (by decide)
  ch:=a h.ch (by decide)
  Gj:=h.Gj
  IW:=fun i u x=>a (h.IW i u x) (by decide)
  files:=fun g c=>by
   by_cases e:g=f
   .subst e;simpa [DM.IY] using C
   .have:=(h.files g c).fr fr e
    simpa [DM.IY,e] using this
  rows:=fun g c=>by
   by_cases e:g=f
   .subst e
    have:=a D (by decide);simp only[DM.IY,MP,q];exact this
   .have:=a (h.rows g c) (by decide)
    simpa [DM.IY,e] using this
  sep:=fun g c l j e k d=>by
   by_cases t:g=f
   .subst t
    have r:¬l=g:=fun h=>e h.symm;simp only[MP,r,MN] at d |-;exact h.sep g c l j e k (o k d)
   .by_cases r:l=f
    .subst r
     simp only[t,MN,MP] at d |-;intro x;exact h.sep g c l j e k d (o k x)
    .simp only[t,r,MN] at d |-
     exact h.sep g c l j e k d
  le:=fun g c=>by
   by_cases e:g=f
   .subst e;simp[DM.IY];omega
   .simpa [DM.IY,e] using h.le g c
  Gc:=h.Gc
  GC:=h.GC
  GB:=h.GB}
theorem Wm{w:World}{a:Nat}{e:TypeId}{g n b m:Nat}{j:List Value}(h:w.ownsRow a e 1 (.slice (some ⟨g,0,none⟩) n b) n j)(t:m<=n) :
 w.ownsRow a e 1 (.slice (some ⟨g,0,none⟩) m b) m (j.take m):=by
 have s:=h.1;refine⟨by simp;omega,?_⟩;rcases h.2 with⟨c,_⟩|⟨r,i,d,c,k,l,u,f,o,q⟩
 .cases c
 .simp at c
  obtain⟨rfl,rfl⟩:=c;refine .inr ⟨g,b,d,rfl,k,l,by omega,f,o,?_⟩;rw[<- q,Kg]
  congr 1
  omega
theorem Foot.Ft{b:Nat}{L:DL}{M:DM}{f k:Nat}{v:Value}{x:FM}(j:f∈M.ids)(c:∀ k,v.ownBlock=some k->(L.fV f).ownBlock=some k)
 (h:Foot b {L with fV:=fun g=>if g=f then v else L.fV g} (M.IY f x) k):Foot b L M k:=by
 cases h using Foot.elim with
 | blk=>exact .IR
 | dir e=>exact .dir e
 | safe e=>exact .safe e
 | ch e=>exact .ch e
 | chs i d e=>exact .IW i d e
 | file e=>exact .file e
 | row g l e =>
  by_cases a:g=f
  .simp only[a,MP] at e;exact .row f j (c k e)
  .simp only[a,MN] at e;exact .row g l e
end Go.Proofs.YtkhnggkkiefcdaaGreatDoor
