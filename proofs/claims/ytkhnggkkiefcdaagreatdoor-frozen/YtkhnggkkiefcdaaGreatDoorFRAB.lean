/- larder: joined texts -/
import Derived.Test.YtkhnggkkiefcdaaGreatDoorFRAA
import Derived.Deep.RegionLaw
import Derived.Test.YtkhnggkkiefcdaaGreatDoorChecked
import Derived.Laws.StructEq
namespace Go.Proofs.YtkhnggkkiefcdaaGreatDoor
open Go.RowKit
set_option maxRecDepth 100000
set_option maxHeartbeats 8000000
theorem Og(d:Dir):∀ u∈flat d,u.oneCell'=true:=by
 induction d with
 | nil=>intro u a;cases a
 | cons e d c =>
  intro u a;simp only[flat,LF,Mc,Mr,LO,JG] at a c;rcases a with(rfl|rfl)|a
  .rfl
  .rfl
  .exact c u a
theorem Rm(d a:Dir):flat (d++a)=flat d++flat a:=by simp[flat]
def DM.Hd(M:DM)(f:Nat):DM:={M with ids:=f::M.ids,file:=fun g=>if g=f then⟨[],0⟩ else M.file g}
def DL.Hd(L:DL)(f:Nat):DL:={L with fV:=fun g=>if g=f then .slice none 0 0 else L.fV g}
theorem DRep.Hd{w:World}{b:Nat}{L:DL}{M:DM}(h:DRep w b L M){f:Nat}(o:Blk w f [.slice none 0 0,.int .i64 0] 152)(p:f∉M.ids) :
 DRep w b (L.Hd f) (M.Hd f):=by
 have ne:∀ g,g∈M.ids->g≠f:=fun g a e=>p (e▸a);exact {
  IR:=h.IR
  dir:=h.dir
  safe:=h.safe
  ch:=h.ch
  Gj:=h.Gj
  IW:=h.IW
  files:=fun g a=>by
   rcases Mr.1 a with rfl|a
   .simpa [DM.Hd,DL.Hd] using o
   .simpa [DM.Hd,DL.Hd,ne g a] using h.files g a
  rows:=fun g a=>by
   rcases Mr.1 a with rfl|a
   .simpa [DM.Hd,DL.Hd,u8s] using Mo w 0 5 1
   .simpa [DM.Hd,DL.Hd,ne g a] using h.rows g a
  sep:=fun g a l c e k j=>by
   rcases Mr.1 a with rfl|a
   .simp[DL.Hd,Value.ownBlock] at j
   .rcases Mr.1 c with rfl|c
    .simp[DL.Hd,Value.ownBlock]
    .simp only[DL.Hd,ne g a,ne l c,MN] at j |-
     exact h.sep g a l c e k j
  le:=fun g a=>by
   rcases Mr.1 a with rfl|a
   .simp[DM.Hd]
   .simpa [DM.Hd,ne g a] using h.le g a
  Gc:=fun e i=>NX _ (h.Gc e i)
  GC:=fun e i=>NX _ (h.GC e i)
  GB:=fun d m e i=>NX _ (h.GB d m e i)}
def DM.create(M:DM)(a:ByteArray)(f:Nat):Int × DM :=
 if a=ByteArray.empty\/(M.dir.look a).isSome=true then(11,M)
 else(M.IP.2.1,if M.IP.1=true then(M.IP.2.2.Hd f).Hh (M.IP.2.2.dir++[(a,f)]) else M.IP.2.2)
theorem Rn(a:ByteArray)(w:World)(b:Nat)(L:DL)(M:DM)(h:DRep w b L M)(f:a=ByteArray.empty\/(M.dir.look a).isSome=true) :
 Calls Tryz.prog 211 #[.pointer (some ⟨b,0,none⟩),.string a] w fun e o =>
  e=.returned (.int .i64 11)/\Fr Nil w o:=by
 have j:=h.IR.cell;simp only[DM.cells] at j;by_cases c:a=ByteArray.empty
 .subst c
  go_enter Ii,JR
  go_wp2
  go_ret;exact⟨rfl,O _ _⟩
 .have hn':(M.dir.look a).isSome=true:=by rcases f with h|h;exact absurd h c;exact h
  rcases ZH M.dir a with⟨_,i⟩|⟨k,p,d,_,_⟩
  .rw[i] at hn';cases hn'
  .have HH:=Z h
   have g:=Z d;have l:a.toList.isEmpty=false:=by
    cases h':a.toList.isEmpty with
    | false=>rfl
    | true=>exact absurd ((toList_nil_iff_emptyBytes a).1 (by simpa using h')) c
   clear f hn' h d;go_enter Ii,JR
   go_wp2_with (go_at_call 87;refine(zU g.out _ HH.out.dir).mono ?_;rintro e q ⟨rfl,m⟩)
   go_ret;exact⟨rfl,m⟩
theorem Ut{a:ByteArray}(c:¬a=ByteArray.empty):a.toList.isEmpty=false:=by
 cases h':a.toList.isEmpty with
 | false=>rfl
 | true=>exact absurd ((toList_nil_iff_emptyBytes a).1 (by simpa using h')) c
theorem DStep.look{w a:World}{b:Nat}{L:DL}{M:DM}(h:DRep w b L M)(f:Fr Nil w a):DStep b L M w L M a :=
 ⟨h.fr f (fun _ _=>id),f.mono (fun _ _=>False.elim),fun _ c=>.inl c⟩
theorem Foot.GA{b:Nat}{L:DL}{M:DM}{f k:Nat}(h:Foot b (L.Hd f) (M.Hd f) k):k=f\/Foot b L M k:=by
 cases h using Foot.elim with
 | blk=>exact .inr .IR
 | dir e=>exact .inr (.dir e)
 | safe e=>exact .inr (.safe e)
 | ch e=>exact .inr (.ch e)
 | chs i j e=>exact .inr (.IW i j e)
 | file e =>
  rcases Mr.1 e with e|e
  .exact .inl e
  .exact .inr (.file e)
 | row g c e =>
  by_cases a:g=f
  .simp[DL.Hd,a,Value.ownBlock] at e
  .simp only[DL.Hd,a,MN] at e
   rcases Mr.1 c with c|c
   .exact absurd c a
   .exact .inr (.row g c e)
theorem Foot.Fa{b:Nat}{L:DL}{M:DM}{v cv:Value}{d:Dir}{k:Nat}(h:Foot b (L.Hh v cv) (M.Hh d) k) :
 v.ownBlock=some k\/cv.ownBlock=some k\/Foot b L M k:=by
 cases h using Foot.elim with
 | blk=>exact .inr (.inr .IR)
 | dir e=>exact .inl e
 | safe e=>exact .inr (.inr (.safe e))
 | ch e=>exact .inr (.inl e)
 | chs i c e =>
  simp only[DL.Hh,Jw] at e;split at e
  .exact .inr (.inr (.IW i _ e))
  .simp at e;exact .inl e
 | file e=>exact .inr (.inr (.file e))
 | row g a e=>exact .inr (.inr (.row g a e))
theorem Qn(a:ByteArray)(w:World)(b:Nat)(L:DL)(M:DM)(h:DRep w b L M)(i:¬a=ByteArray.empty)(f:zR M.dir a=-1)(g:M.IP.1=false) :
 Calls Tryz.prog 211 #[.pointer (some ⟨b,0,none⟩),.string a] w fun e q =>
  e=.returned (.int .i64 M.IP.2.1)/\DStep b L M w L M.IP.2.2 q:=by
 have m:=h.IR.cell;simp only[DM.cells] at m;have c:=Z h;have k:=Z f;have l:=Z g;have o:=Ut i;clear h f g i;go_enter Ii,JR;go_wp2_with fail;refine(Yg k.out _ c.out.dir).mono ?_;rintro e r ⟨rfl,j⟩;go_wp2_with fail;have d:=zQ r b L M (c.out.fr j (fun _ _=>id));rw[l.out] at d;refine d.mono ?_;rintro e s ⟨rfl,p⟩
 go_wp2
 go_ret;exact⟨rfl,(DStep.look c.out j).trans p⟩
theorem Ro(a:ByteArray)(w:World)(b:Nat)(L:DL)(M:DM)(h:DRep w b L M)(i:¬a=ByteArray.empty)(N:zR M.dir a=-1)(hd:M.IP.1=true)
 (hn:M.IW.length+1<=1000000000000)(hm:M.dir.length+1<=1000000000000) :
 Calls Tryz.prog 211 #[.pointer (some ⟨b,0,none⟩),.string a] w fun e w' =>
  e=.returned (.int .i64 M.IP.2.1)/\∃ f L',w.heap.size<=f/\f<w'.heap.size/\DStep b L M w L' ((M.IP.2.2.Hd f).Hh (M.IP.2.2.dir++[(a,f)])) w':=by
 have B:=h.IR.cell;simp only[DM.cells] at B;have X:=Z h;have H1:=Z N;have HD:=Z hd;have b0:=Ut i;clear h N hd i;go_enter Ii,JR;go_wp2_with fail;refine(Yg H1.out _ X.out.dir).mono ?_;rintro e w1 ⟨rfl,hf⟩;go_wp2_with fail;have HB:=zQ w1 b L M (X.out.fr hf (fun _ _=>id));rw[HD.out] at HB;refine HB.mono ?_;rintro e K ⟨rfl,hs⟩;clear B;have B:=hs.Hl.IR.cell;simp only[DM.cells] at B;have g:=M.IV;have a6:M.IP.2.2.dir.length+1<=1000000000000:=by rw[g.1];exact hm
 have t:M.IP.2.2.IW.length+1<=1000000000000:=by rw[g.2.2.1];exact hn
 clear g;have y:=Z hs;clear hs
 go_wp2_with (at_builtin;go_must (refine zL rfl _ _ _ _ rfl _ _ (by rfl) (by rfl) (Xh 140 _ 148 2 24 KZ YW (by decide) _ _ _ (Mo _ 0 _ _) _ _ _ y.out.Hl.dir (Og _) (by unfold maxLen;omega) (by omega)) ?_))
 intro v1 c Q;have z:=Z Q;obtain⟨a1,c1,a5⟩:=zd Q.own;have p:Fr Nil K c:=Q.fr.mono (fun _ _ h=>by simp[Value.ownBlock] at h);have E:=y.out.Hl.fr p (fun _ _=>id);have s:=Z E;clear Q E B;subst a5;have hh:b<c.heap.size:=s.out.IR.lt
 -- the file's own block,the entry's,then the entry behind the others
 have r:((c.alloc (.cells #[.slice none 0 0,.int .i64 0] 152)).alloc (.cells #[.string a,.pointer (some ⟨c.heap.size,0,none⟩)] 148)).ownsRow 0 148 2
  (.slice a1 M.IP.2.2.dir.length c1) M.IP.2.2.dir.length (flat M.IP.2.2.dir):=(z.out.own.alloc _).alloc _
 go_wp2_with (at_builtin;go_must (refine zL rfl _ _ _ _ rfl _ _ (by rfl) (by rfl) (zn 140 _ 148 2 24 KZ YW (by decide) _ _ _ r
  ⟨c.heap.size+1,0,none⟩ 1 1 [.string a,.pointer (some ⟨c.heap.size,0,none⟩)] rfl (WA _ _ _ _ _ (by simp)) (by intro u hu;simp at hu;rcases hu with rfl|rfl <;> rfl) (by unfold maxLen;omega) (by omega)) ?_))
 intro R S A;have l:=Z A;clear A r;have x:DRep S b (L.Hd c.heap.size) (M.IP.2.2.Hd c.heap.size):=by
  have a4:c.heap.size∉M.IP.2.2.ids:=fun hi=>by
   have:=(s.out.files _ hi).lt;omega
  have h0:=(s.out.fr ((O Nil c).alloc (.cells #[.slice none 0 0,.int .i64 0] 152)) (fun _ _=>id)).Hd (f:=c.heap.size) (Blk.new c [.slice none 0 0,.int .i64 0] _) a4;have N:=h0.fr ((O Nil _).alloc (.cells #[.string a,.pointer (some ⟨c.heap.size,0,none⟩)] 148)) (fun _ _=>id);refine N.fr l.out.fr ?_;intro k g i;have a8:k=K.heap.size:=by
   rcases z.out.at_ with h|h
   .rw[h] at i;simp[Value.ownBlock] at i
   .rw[h] at i;simpa using i.symm
  have a9:K.heap.size<c.heap.size:=by
   have:=Z2 z.out.own (k:=k) i;omega
  rcases g.GA with h|h
  .omega
  .have:=y.out.Hl.lt h
   omega
 have J:∀ k,R.ownBlock=some k->K.heap.size<=k:=by
  intro k g;rcases l.out.at_ with h|h
  .rw[h] at g
   rcases z.out.at_ with m|m
   .rw[m] at g;simp[Value.ownBlock] at g
   .rw[m] at g;simp at g;omega
  .rw[h] at g
   simp at g;have:=p.size;omega
 have a3:Fr Nil K S:=by
  refine Fr.trans' (Fr.alloc (Fr.alloc p _) _) l.out.fr ?_;intro k g i;rcases z.out.at_ with m|m
  .rw[m] at i;simp[Value.ownBlock] at i
  .rw[m] at i;simp at i;omega
 have G:=l.out.fr.size;simp only[Jj] at G;have I:(M.IP.2.2.dir++[(a,c.heap.size)]).length=M.IP.2.2.dir.length+1:=by simp
 have o:S.ownsRow 0 148 2 R (M.IP.2.2.dir++[(a,c.heap.size)]).length (flat (M.IP.2.2.dir++[(a,c.heap.size)])):=by
  rw[I,Rm];exact l.out.own
 have q:∀ e,e∈M.IP.2.2.dir++[(a,c.heap.size)]->e.2∈(M.IP.2.2.Hd c.heap.size).ids:=by
  intro e i;simp only[Mc,NW] at i;rcases i with i|rfl
  .exact NX _ (y.out.Hl.Gc e i)
  .exact NY ..
 have HT:=TQ R (M.IP.2.2.dir++[(a,c.heap.size)]) S b _ _ x o q t;have a0:=Z HT;have a7:=Z x;clear HT x o q I;go_wp2_with fail;refine a0.out.mono ?_;rintro e w5 ⟨rfl,cv,F,D,C⟩;have Y:=Z F;have j:=fun k=>Foot.Fa (b:=b) (L:=L.Hd c.heap.size) (M:=M.IP.2.2.Hd c.heap.size) (v:=R) (cv:=cv) (d:=M.IP.2.2.dir++[(a,c.heap.size)]) (k:=k);have V:=Z j;have T:=Z C;have a2:=Z J;clear F j C J
 go_wp2
 go_ret;have b2:=y.out.fr.size;have b1:=hf.size;have b3:=p.size;have b4:=D.size;refine⟨rfl,c.heap.size,_,by omega,by omega,(DStep.look X.out hf).trans (y.out.trans ⟨Y.out,?_,?_⟩)⟩
 .refine Fr.trans' (a3.mono (fun _ _=>False.elim)) D ?_
  intro k _ g;rcases g with rfl|g
  .exact .IR
  .exact .ch g
 .intro k g
  rcases V.out k g with h|h|h
  .exact .inr (a2.out k h)
  .rcases T.out with m|⟨k',m,hle⟩
   .rw[m] at h;exact .inl (.ch h)
   .rw[m] at h;simp at h;omega
  .rcases h.GA with h|h
   .omega
   .exact .inl h
theorem DRep.grow{w s:World}{b:Nat}{L:DL}{M:DM}(h:DRep w b L M){f:Nat}(p:f∈M.ids){v:Value}{y:List UInt8}
 (E:Blk s f [v,.int .i64 (M.file f).safe] 152)(F:s.ownsRow 0 5 1 v ((M.file f).bytes++y).length (u8s ((M.file f).bytes++y)))
 (fr:Fr (fun k=>k=f\/(L.fV f).ownBlock=some k) w s)(u:∀ k,v.ownBlock=some k->(L.fV f).ownBlock=some k\/w.heap.size<=k) :
 DRep s b {L with fV:=fun g=>if g=f then v else L.fV g} (M.IY f {M.file f with bytes:=(M.file f).bytes++y}):=by
 have A:∀ {k:Nat} {c:List Value} {t:TypeId},Blk w k c t->t≠152->t≠5->Blk s k c t:=fun q l m =>
  q.fr fr fun a=>by
   rcases a with e|a
   .exact q.ne (h.files f p) l e
   .exact zf (h.rows f p) q m a
 have d:∀ {e:TypeId} {C:Nat} {v:Value} {n:Nat} {D:List Value},w.ownsRow 0 e C v n D->e≠152->e≠5->s.ownsRow 0 e C v n D:=fun q l m =>
  za q fr fun k e a=>by
   rcases a with rfl|a
   .exact zf q (h.files k p) (JB l) e
   .exact zN q (h.rows f p) m e a
 exact {
  IR:=A h.IR (by decide) (by decide)
  dir:=d h.dir (by decide) (by decide)
  safe:=d h.safe (by decide) (by decide)
  ch:=d h.ch (by decide) (by decide)
  Gj:=h.Gj
  IW:=fun i l m=>d (h.IW i l m) (by decide) (by decide)
  files:=fun g j=>by
   by_cases e:g=f
   .subst e;simpa [DM.IY] using E
   .have:=(h.files g j).fr fr (fun a=>by
     rcases a with a|a
     .exact e a
     .exact zf (h.rows f p) (h.files g j) (by decide) a)
    simpa [DM.IY,e] using this
  rows:=fun g j=>by
   by_cases e:g=f
   .subst e;simpa [DM.IY] using F
   .have:=za (h.rows g j) fr (fun k B a=>by
     rcases a with rfl|a
     .exact zf (h.rows g j) (h.files k p) (by decide) B
     .exact h.sep g j f p e k B a)
    simpa [DM.IY,e] using this
  sep:=fun g j r o e k a=>by
   by_cases z:g=f
   .subst z
    have x:¬r=g:=fun h=>e h.symm;simp only[MP,x,MN] at a |-;rcases u k a with l|l
    .exact h.sep g j r o e k l
    .intro m
     have:=Z2 (h.rows r o) m;omega
   .by_cases x:r=f
    .subst x
     simp only[z,MN,MP] at a |-;intro m;rcases u k m with l|l
     .exact h.sep g j r o e k a l
     .have:=Z2 (h.rows g j) a
      omega
    .simp only[z,x,MN] at a |-
     exact h.sep g j r o e k a
  le:=fun g j=>by
   by_cases e:g=f
   .subst e
    have:=h.le g j;simp[DM.IY];omega
   .simpa [DM.IY,e] using h.le g j
  Gc:=h.Gc
  GC:=h.GC
  GB:=h.GB}
def DM.tries(M:DM)(n:Int):Option Int :=
 if M.IP.1=true then some n
 else if M.IP.2.2.dead=false/\0<n then some (M.part.tmod n)
 else none
def DM.left(M:DM):Int:=if IntKind.i64.wrap (M.room-M.used)<0 then 0 else IntKind.i64.wrap (M.room-M.used)
theorem Rp(a c:ByteArray)(w:World)(b:Nat)(L:DL)(M:DM)(h:DRep w b L M)(f:zR M.dir a=-1) :
 Calls Tryz.prog 203 #[.pointer (some ⟨b,0,none⟩),.string a,.string c] w fun e k =>
  e=.returned (.int .i64 11)/\DStep b L M w L M k:=by
 have i:=h.IR.cell;simp only[DM.cells] at i;have d:=Z h;have g:=Z f;clear h f;go_enter KA,Ks
 go_wp2_with (go_at_call 87;refine(Yg g.out _ d.out.dir).mono ?_;rintro e l ⟨rfl,j⟩)
 go_ret;exact⟨rfl,DStep.look d.out j⟩
theorem Qo(c a:ByteArray)(w:World)(b:Nat)(L:DL)(M:DM)(h:DRep w b L M)(k:Nat)(_:k<M.dir.length)(m:zR M.dir c=k)(o:M.IP.1=false)(d:M.IP.2.2.dead=true)(_:a.size<=1000000000000) :
 Calls Tryz.prog 203 #[.pointer (some ⟨b,0,none⟩),.string c,.string a] w fun e t =>
  e=.returned (.int .i64 M.IP.2.1)/\DStep b L M w L M.IP.2.2 t:=by
 have g:=h.IR.cell;have f:=zu h.dir;unfold maxLen at f;simp only[DM.cells] at g;have j:=Z h;have r:=Z m;have s:=Z o;have i:=Z d;clear h m o d;go_enter KA,Ks;go_wp2_with fail;refine(zU r.out _ j.out.dir).mono ?_;rintro e u ⟨rfl,p⟩;go_wp2_with fail;have l:=zQ u b L M (j.out.fr p (fun _ _=>id));rw[s.out] at l;refine l.mono ?_;rintro e v ⟨rfl,q⟩;clear g;have g:=q.Hl.IR.cell;simp only[DM.cells,i.out] at g
 go_wp2
 go_ret;exact⟨rfl,(DStep.look j.out p).trans q⟩
theorem append_nil(c a:ByteArray)(w:World)(b:Nat)(L:DL)(M:DM)(h:DRep w b L M)(k:Nat)(_:k<M.dir.length)(m:zR M.dir c=k)(o:M.IP.1=false)(d:M.IP.2.2.dead=false)(_:a.size=0) :
 Calls Tryz.prog 203 #[.pointer (some ⟨b,0,none⟩),.string c,.string a] w fun e t =>
  e=.returned (.int .i64 M.IP.2.1)/\DStep b L M w L M.IP.2.2 t:=by
 have g:=h.IR.cell;have f:=zu h.dir;unfold maxLen at f;simp only[DM.cells] at g;have j:=Z h;have r:=Z m;have s:=Z o;have i:=Z d;clear h m o d;go_enter KA,Ks;go_wp2_with fail;refine(zU r.out _ j.out.dir).mono ?_;rintro e u ⟨rfl,p⟩;go_wp2_with fail;have l:=zQ u b L M (j.out.fr p (fun _ _=>id));rw[s.out] at l;refine l.mono ?_;rintro e v ⟨rfl,q⟩;clear g;have g:=q.Hl.IR.cell;simp only[DM.cells,i.out] at g
 go_wp2
 go_ret;exact⟨rfl,(DStep.look j.out p).trans q⟩
theorem YI(w:World)(b:Nat)(L:DL)(M:DM)(d:World)(h:DRep d b L M)(a:Fr Nil d w) :
 Calls Tryz.prog 41 #[.pointer (some ⟨b,0,none⟩)] w fun e c=>e=.returned (.int .i64 M.used)/\c.cell? ⟨b,3,none⟩=some (.int .i64 M.room)/\Fr Nil d c:=by
 refine(Qk w b L M (h.fr a (fun _ _=>id))).mono fun e c ⟨g,f⟩=>⟨g,?_,a.trans f⟩;exact((h.fr (a.trans f) (fun _ _=>id)).IR.cell 3)
theorem YJ{w o:World}{b:Nat}{L:DL}{M:DM}(h:DRep w b L M){f:Nat}(l:f∈M.ids){n:Option Addr}{c m:Nat}{j:List UInt8}{v:Value}
 (x:L.fV f=.slice n (M.file f).bytes.length c)(E:m=j.length)
 (u:App w.drew (.slice n (M.file f).bytes.length c) 5 1 ((M.file f).bytes.length+m) (u8s (M.file f).bytes++u8s j) v o) :
 ∃ z,DStep b L M w z (M.IY f {M.file f with bytes:=(M.file f).bytes++j}) (o.setCell ⟨f,0,none⟩ v):=by
 subst E;have r:Fr (fun k=>k=f\/(L.fV f).ownBlock=some k) w (o.setCell ⟨f,0,none⟩ v):=by
  refine Fr.set (Fr.trans' (Fr.drew (O _ w)) u.fr ?_) (fun _=>.inl rfl) _;intro k _ a;exact .inr (by rw[x];exact a)
 have q:Blk o f [L.fV f,.int .i64 (M.file f).safe] 152:=by
  have C:=(h.files f l).drew;refine C.fr u.fr ?_;rw[<- x];exact zf (h.rows f l) (h.files f l) (by decide)
 have D:Blk (o.setCell ⟨f,0,none⟩ v) f [v,.int .i64 (M.file f).safe] 152:=q.set 0 v;have p:∀ k,v.ownBlock=some k->(L.fV f).ownBlock=some k\/w.heap.size<=k:=by
  intro k a;rcases u.at_ with d|d
  .rw[d] at a;exact .inl (by rw[x];exact a)
  .rw[d] at a;simp at a;exact .inr (by omega)
 have t:(o.setCell ⟨f,0,none⟩ v).ownsRow 0 5 1 v ((M.file f).bytes++j).length (u8s ((M.file f).bytes++j)):=by
  have d:=u.own;have A:u8s ((M.file f).bytes++j)=u8s (M.file f).bytes++u8s j:=by simp[u8s]
  have B:((M.file f).bytes++j).length=(M.file f).bytes.length+j.length:=by simp
  rw[A,B];exact za d (S:=fun k=>k=f) (by repeat' first|exact O _ _|(with_reducible assumption)|refine Fr.drewN ?_ _|refine Fr.drew ?_|refine Fr.alloc ?_ _|refine Fr.set ?_ ?_ _|(intro _;rfl)) (fun k e a=>by subst a;exact zf d q (by decide) e)
 refine⟨{L with fV:=fun g=>if g=f then v else L.fV g},⟨h.grow l D t r p,r.mono ?_,?_⟩⟩
 .intro k _ a
  rcases a with rfl|a
  .exact .file l
  .exact .row f l a
 .intro k a
  cases a using Foot.elim with
  | blk=>exact .inl .IR
  | dir e=>exact .inl (.dir e)
  | safe e=>exact .inl (.safe e)
  | ch e=>exact .inl (.ch e)
  | chs i d e=>exact .inl (.IW i d e)
  | file e=>exact .inl (.file e)
  | row g y e =>
   by_cases s:g=f
   .subst s
    simp only[MP] at e;rcases p k e with d|d
    .exact .inl (.row g y d)
    .exact .inr d
   .simp only[s,MN] at e
    exact .inl (.row g y e)
theorem Rq(m a:ByteArray)(w:World)(b:Nat)(L:DL)(M:DM)(h:DRep w b L M)(k:Nat)(hk:k<M.dir.length)(h1:zR M.dir m=k)(V:a.size<=1000000000000)(N:(M.file M.dir[k].2).bytes.length<=1000000000000)
 (hd:M.IP.1=true)(f:¬M.IP.2.2.left<a.size) :
 Calls Tryz.prog 203 #[.pointer (some ⟨b,0,none⟩),.string m,.string a] w fun e Y =>
  e=.returned (.int .i64 M.IP.2.1)/\∃ I,DStep b L M w I ((M.IP.2.2).IY M.dir[k].2 {M.IP.2.2.file M.dir[k].2 with bytes:=(M.IP.2.2.file M.dir[k].2).bytes++(a).data.toList}) Y:=by
 have l:=h.IR.cell;have x:=zu h.dir;unfold maxLen at x;simp only[DM.cells] at l;have E:=Z h;have H1:=Z h1;have HD:=Z hd;have HL:=Z f;clear f;clear h h1 hd;go_enter KA,Ks;go_wp2_with fail;refine(zU H1.out _ E.out.dir).mono ?_;rintro e w1 ⟨rfl,hf⟩;go_wp2_with fail;have D:=zQ w1 b L M (E.out.fr hf (fun _ _=>id));rw[HD.out] at D;refine D.mono ?_;rintro e w2 ⟨rfl,B⟩;clear l D;have l:=B.Hl.IR.cell;simp only[DM.cells] at l;have p:=B.Hl.IR.cell 3;simp only[DM.cells] at p;simp at p;have z:=Z B;clear B;go_wp2_with fail
 go_region_held3 (fun Y=>Y.cell? ⟨b,3,none⟩=some (.int .i64 M.IP.2.2.room)) (first|go_keep|assumption) (first|(go_at_call 41;refine(YI _ b L M.IP.2.2 w2 z.out.Hl (Fr.drew (O _ _))).mono ?_;rintro e w3 ⟨rfl,R,u⟩))
 have HE:Hid ((if IntKind.i64.wrap (M.IP.2.2.room-M.IP.2.2.used)<0 then 0 else IntKind.i64.wrap (M.IP.2.2.room-M.IP.2.2.used))=M.IP.2.2.left):=rfl;rw[HE.out];have G:=HL.out;generalize M.IP.2.2.left=left at G;have q:=z.out.Hl.fr u (fun _ _=>id);have Q:k<M.IP.2.2.dir.length:=by rw[M.IV.1];exact hk
 have he:M.IP.2.2.dir[k].2=M.dir[k].2:=by simp[M.IV.1]
 obtain⟨g,a1,n,c,hv,r,_,hp,i⟩:=q.entry Q;rw[he] at r hp i;have K:=(q.files _ r).cell;have a3:=(q.files _ r).frozen;rw[i] at K;clear l p R;have l:=q.IR.cell;simp only[DM.cells] at l;rw[hv] at l;have C:=Z q;have o:=Z i;clear q i hv;have d:=C.out.rows _ r;rw[o.out] at d;have s:=Z d;have a0:(M.IP.2.2.file M.dir[k].2).bytes.length<=1000000000000:=by rw[M.IV.2.2.2.1];exact N
 have S:(a).size<=1000000000000:=by exact V
 have q1:(M.IP.2.2.file M.dir[k].2).bytes.length+(a).size<=maxLen:=by unfold maxLen;omega
 have q2:(M.IP.2.2.file M.dir[k].2).bytes.length+(a).size<=140737488355328:=by omega
 have Q1:=Z q1;have Q2:=Z q2;have F:Hid (∀ y:World,Fr (fun j=>(Value.slice n (M.IP.2.2.file M.dir[k].2).bytes.length c).ownBlock=some j) w3.drew y->Blk y M.dir[k].2 [.slice n (M.IP.2.2.file M.dir[k].2).bytes.length c,.int .i64 (M.IP.2.2.file M.dir[k].2).safe] 152):=by
  intro y v;have J:=C.out.files _ r;rw[o.out] at J;exact(J.drew).fr v (zf d J (by decide))
 clear q1 q2 d S;go_wp2_with fail
 go_region_law
  ((refine Zi (by rfl) _ _ _ _ (by rfl) _ _ (by rfl) (by rfl) (Zn (w:=w3.drew) 150 9 _ 5 MW Lt Xf _ _ _ s.out (a) Q1.out Q2.out) ?_;intro v4 y A;obtain⟨a4,c4,X⟩:=zd A.own;have t:=F.out y A.fr;have a2:=t.cell 0;have v:=t.frozen 0;have HA:=Z A;clear A;subst X))
 go_wp2
 go_ret;obtain⟨I,T⟩:=YJ C.out r o.out (by simp) HA.out;exact⟨rfl,I,(DStep.look E.out hf).trans (z.out.trans ((DStep.look z.out.Hl u).trans T))⟩
theorem TR(o a:ByteArray)(w:World)(b:Nat)(L:DL)(M:DM)(h:DRep w b L M)(k:Nat)(hk:k<M.dir.length)(h1:zR M.dir o=k)(a8:a.size<=1000000000000)(T:(M.file M.dir[k].2).bytes.length<=1000000000000)
 (hd:M.IP.1=true)(v:M.IP.2.1=9)(m:Nat)(hm:M.IP.2.2.left=m)(f:(m:Int)<a.size) :
 Calls Tryz.prog 203 #[.pointer (some ⟨b,0,none⟩),.string o,.string a] w fun e w' =>
  e=.returned (.int .i64 9)/\∃ N,DStep b L M w N ((M.IP.2.2).IY M.dir[k].2 {M.IP.2.2.file M.dir[k].2 with bytes:=(M.IP.2.2.file M.dir[k].2).bytes++(a.extract 0 m).data.toList}) w':=by
 have l:=h.IR.cell;have z:=zu h.dir;unfold maxLen at z;simp only[DM.cells] at l;have J:=Z h;have H1:=Z h1;have HD:=Z hd;have HL:=Z f;have I:=Z v;have HM:=Z hm;clear f v hm;clear h h1 hd;go_enter KA,Ks;go_wp2_with fail;refine(zU H1.out _ J.out.dir).mono ?_;rintro e w1 ⟨rfl,hf⟩;go_wp2_with fail;have C:=zQ w1 b L M (J.out.fr hf (fun _ _=>id));rw[HD.out] at C;rw[I.out] at C;refine C.mono ?_;rintro e w2 ⟨rfl,F⟩;clear l C;have l:=F.Hl.IR.cell;simp only[DM.cells] at l;have q:=F.Hl.IR.cell 3;simp only[DM.cells] at q;simp at q;have D:=Z F;clear F;go_wp2_with fail
 go_region_held3 (fun w'=>w'.cell? ⟨b,3,none⟩=some (.int .i64 M.IP.2.2.room)) (first|go_keep|assumption) (first|(go_at_call 41;refine(YI _ b L M.IP.2.2 w2 D.out.Hl (Fr.drew (O _ _))).mono ?_;rintro e w3 ⟨rfl,X,x⟩))
 have HE:Hid ((if IntKind.i64.wrap (M.IP.2.2.room-M.IP.2.2.used)<0 then 0 else IntKind.i64.wrap (M.IP.2.2.room-M.IP.2.2.used))=M.IP.2.2.left):=rfl;rw[HE.out];rw[HM.out];have a2:=HL.out;have a7:m<=a.size:=by omega
 have r:=D.out.Hl.fr x (fun _ _=>id);have V:k<M.IP.2.2.dir.length:=by rw[M.IV.1];exact hk
 have he:M.IP.2.2.dir[k].2=M.dir[k].2:=by simp[M.IV.1]
 obtain⟨g,a3,n,c,hv,s,_,hp,i⟩:=r.entry V;rw[he] at s hp i;have R:=(r.files _ s).cell;have a6:=(r.files _ s).frozen;rw[i] at R;clear l q X;have l:=r.IR.cell;simp only[DM.cells] at l;rw[hv] at l;have G:=Z r;have p:=Z i;clear r i hv;have d:=G.out.rows _ s;rw[p.out] at d;have t:=Z d;have a1:(M.IP.2.2.file M.dir[k].2).bytes.length<=1000000000000:=by rw[M.IV.2.2.2.1];exact T
 have Y:(a.extract 0 m).size<=1000000000000:=by rw[Ll];omega
 have q1:(M.IP.2.2.file M.dir[k].2).bytes.length+(a.extract 0 m).size<=maxLen:=by unfold maxLen;omega
 have q2:(M.IP.2.2.file M.dir[k].2).bytes.length+(a.extract 0 m).size<=140737488355328:=by omega
 have Q1:=Z q1;have Q2:=Z q2;have K:Hid (∀ B:World,Fr (fun j=>(Value.slice n (M.IP.2.2.file M.dir[k].2).bytes.length c).ownBlock=some j) w3.drew B->Blk B M.dir[k].2 [.slice n (M.IP.2.2.file M.dir[k].2).bytes.length c,.int .i64 (M.IP.2.2.file M.dir[k].2).safe] 152):=by
  intro B y;have Q:=G.out.files _ s;rw[p.out] at Q;exact(Q.drew).fr y (zf d Q (by decide))
 clear q1 q2 d Y;go_wp2_with fail
 go_region_law
  ((refine Zi (by rfl) _ _ _ _ (by rfl) _ _ (by rfl) (by rfl) (Zn (w:=w3.drew) 150 9 _ 5 MW Lt Xf _ _ _ t.out (a.extract 0 m) Q1.out Q2.out) ?_;intro v4 B E;obtain⟨a4,c4,a0⟩:=zd E.own;have u:=K.out B E.fr;have a5:=u.cell 0;have y:=u.frozen 0;have HA:=Z E;clear E;subst a0))
 go_wp2
 go_ret;obtain⟨N,A⟩:=YJ G.out s p.out (by simp) HA.out;have S:(a.extract 0 m).size=m:=by rw[Ll];omega
 rw[S] at A;exact⟨rfl,N,(DStep.look J.out hf).trans (D.out.trans ((DStep.look D.out.Hl x).trans A))⟩
theorem VA(o a:ByteArray)(w:World)(b:Nat)(L:DL)(M:DM)(h:DRep w b L M)(k:Nat)(hk:k<M.dir.length)(h1:zR M.dir o=k)(b7:a.size<=1000000000000)(a2:(M.file M.dir[k].2).bytes.length<=1000000000000)
 (hd:M.IP.1=false)(z:M.IP.2.1=9)(y:M.IP.2.2.dead=false)(p q:Nat)(D:M.IP.2.2.part=p)(hq:(p:Int).tmod a.size=q)(b6:q<a.size)(m:Nat)(hm:M.IP.2.2.left=m)(f:(m:Int)<q) :
 Calls Tryz.prog 203 #[.pointer (some ⟨b,0,none⟩),.string o,.string a] w fun e w' =>
  e=.returned (.int .i64 9)/\∃ X,DStep b L M w X ((M.IP.2.2).IY M.dir[k].2 {M.IP.2.2.file M.dir[k].2 with bytes:=(M.IP.2.2.file M.dir[k].2).bytes++(a.extract 0 m).data.toList}) w':=by
 have l:=h.IR.cell;have C:=zu h.dir;unfold maxLen at C;simp only[DM.cells] at l;have S:=Z h;have H1:=Z h1;have HD:=Z hd;have R:=Z z;have Q:=Z y;have V:=Z D;have HL:=Z f;have b3:((a.size:Int)==0)=false:=by rw[MI];omega
 have b2:(0:Int)<a.size:=by omega
 clear z y D f;have HM:=Z hm;clear hm;clear h h1 hd;go_enter KA,Ks;go_wp2_with fail;refine(zU H1.out _ S.out.dir).mono ?_;rintro e w1 ⟨rfl,hf⟩;go_wp2_with fail;have G:=zQ w1 b L M (S.out.fr hf (fun _ _=>id));rw[HD.out] at G;rw[R.out] at G;refine G.mono ?_;rintro e w2 ⟨rfl,K⟩;clear l G;have l:=K.Hl.IR.cell;simp only[DM.cells,Q.out,V.out] at l;have s:=K.Hl.IR.cell 3;simp only[DM.cells] at s;simp at s;have I:=Z K;clear K;go_wp2_with fail
 go_region_held3 (fun w'=>w'.cell? ⟨b,3,none⟩=some (.int .i64 M.IP.2.2.room)) (first|go_keep|assumption) (first|(go_at_call 41;refine(YI _ b L M.IP.2.2 w2 I.out.Hl (Fr.drew (O _ _))).mono ?_;rintro e w3 ⟨rfl,a5,A⟩))
 have HE:Hid ((if IntKind.i64.wrap (M.IP.2.2.room-M.IP.2.2.used)<0 then 0 else IntKind.i64.wrap (M.IP.2.2.room-M.IP.2.2.used))=M.IP.2.2.left):=rfl;rw[HE.out];rw[HM.out];have a9:=HL.out;have b5:m<=a.size:=by omega
 have t:=I.out.Hl.fr A (fun _ _=>id);have a3:k<M.IP.2.2.dir.length:=by rw[M.IV.1];exact hk
 have he:M.IP.2.2.dir[k].2=M.dir[k].2:=by simp[M.IV.1]
 obtain⟨g,b0,n,c,hv,u,_,hp,i⟩:=t.entry a3;rw[he] at u hp i;have a0:=(t.files _ u).cell;have b4:=(t.files _ u).frozen;rw[i] at a0;clear l s a5;have l:=t.IR.cell;simp only[DM.cells] at l;rw[hv] at l;have N:=Z t;have r:=Z i;clear t i hv;have d:=N.out.rows _ u;rw[r.out] at d;have v:=Z d;have a8:(M.IP.2.2.file M.dir[k].2).bytes.length<=1000000000000:=by rw[M.IV.2.2.2.1];exact a2
 have a6:(a.extract 0 m).size<=1000000000000:=by rw[Ll];omega
 have q1:(M.IP.2.2.file M.dir[k].2).bytes.length+(a.extract 0 m).size<=maxLen:=by unfold maxLen;omega
 have q2:(M.IP.2.2.file M.dir[k].2).bytes.length+(a.extract 0 m).size<=140737488355328:=by omega
 have Q1:=Z q1;have Q2:=Z q2;have T:Hid (∀ F:World,Fr (fun j=>(Value.slice n (M.IP.2.2.file M.dir[k].2).bytes.length c).ownBlock=some j) w3.drew F->Blk F M.dir[k].2 [.slice n (M.IP.2.2.file M.dir[k].2).bytes.length c,.int .i64 (M.IP.2.2.file M.dir[k].2).safe] 152):=by
  intro F B;have Y:=N.out.files _ u;rw[r.out] at Y;exact(Y.drew).fr B (zf d Y (by decide))
 clear q1 q2 d a6;go_wp2_with fail
 go_region_law
  ((refine Zi (by rfl) _ _ _ _ (by rfl) _ _ (by rfl) (by rfl) (Zn (w:=w3.drew) 150 9 _ 5 MW Lt Xf _ _ _ v.out (a.extract 0 m) Q1.out Q2.out) ?_;intro v4 F J;obtain⟨a4,c4,a7⟩:=zd J.own;have x:=T.out F J.fr;have b1:=x.cell 0;have B:=x.frozen 0;have HA:=Z J;clear J;subst a7))
 go_wp2
 go_ret;obtain⟨X,E⟩:=YJ N.out u r.out (by simp) HA.out;have a1:(a.extract 0 m).size=m:=by rw[Ll];omega
 rw[a1] at E;exact⟨rfl,X,(DStep.look S.out hf).trans (I.out.trans ((DStep.look I.out.Hl A).trans E))⟩
theorem VB(m a:ByteArray)(w:World)(b:Nat)(L:DL)(M:DM)(h:DRep w b L M)(k:Nat)(hk:k<M.dir.length)(h1:zR M.dir m=k)(b6:a.size<=1000000000000)(a2:(M.file M.dir[k].2).bytes.length<=1000000000000)
 (hd:M.IP.1=false)(y:M.IP.2.1=9)(x:M.IP.2.2.dead=false)(p q:Nat)(C:M.IP.2.2.part=p)(hq:(p:Int).tmod a.size=q)(b5:q<a.size)(f:¬M.IP.2.2.left<q) :
 Calls Tryz.prog 203 #[.pointer (some ⟨b,0,none⟩),.string m,.string a] w fun e w' =>
  e=.returned (.int .i64 9)/\∃ X,DStep b L M w X ((M.IP.2.2).IY M.dir[k].2 {M.IP.2.2.file M.dir[k].2 with bytes:=(M.IP.2.2.file M.dir[k].2).bytes++(a.extract 0 q).data.toList}) w':=by
 have l:=h.IR.cell;have B:=zu h.dir;unfold maxLen at B;simp only[DM.cells] at l;have R:=Z h;have H1:=Z h1;have HD:=Z hd;have Q:=Z y;have N:=Z x;have V:=Z C;have HL:=Z f;have b2:((a.size:Int)==0)=false:=by rw[MI];omega
 have b1:(0:Int)<a.size:=by omega
 clear y x C f;clear h h1 hd;go_enter KA,Ks;go_wp2_with fail;refine(zU H1.out _ R.out.dir).mono ?_;rintro e w1 ⟨rfl,hf⟩;go_wp2_with fail;have F:=zQ w1 b L M (R.out.fr hf (fun _ _=>id));rw[HD.out] at F;rw[Q.out] at F;refine F.mono ?_;rintro e w2 ⟨rfl,J⟩;clear l F;have l:=J.Hl.IR.cell;simp only[DM.cells,N.out,V.out] at l;have r:=J.Hl.IR.cell 3;simp only[DM.cells] at r;simp at r;have G:=Z J;clear J;go_wp2_with fail
 go_region_held3 (fun w'=>w'.cell? ⟨b,3,none⟩=some (.int .i64 M.IP.2.2.room)) (first|go_keep|assumption) (first|(go_at_call 41;refine(YI _ b L M.IP.2.2 w2 G.out.Hl (Fr.drew (O _ _))).mono ?_;rintro e w3 ⟨rfl,a5,z⟩))
 have HE:Hid ((if IntKind.i64.wrap (M.IP.2.2.room-M.IP.2.2.used)<0 then 0 else IntKind.i64.wrap (M.IP.2.2.room-M.IP.2.2.used))=M.IP.2.2.left):=rfl;rw[HE.out];have T:=HL.out;have b4:q<=a.size:=by omega
 generalize M.IP.2.2.left=left at T;have s:=G.out.Hl.fr z (fun _ _=>id);have a3:k<M.IP.2.2.dir.length:=by rw[M.IV.1];exact hk
 have he:M.IP.2.2.dir[k].2=M.dir[k].2:=by simp[M.IV.1]
 obtain⟨g,a9,n,c,hv,t,_,hp,i⟩:=s.entry a3;rw[he] at t hp i;have a0:=(s.files _ t).cell;have b3:=(s.files _ t).frozen;rw[i] at a0;clear l r a5;have l:=s.IR.cell;simp only[DM.cells] at l;rw[hv] at l;have K:=Z s;have o:=Z i;clear s i hv;have d:=K.out.rows _ t;rw[o.out] at d;have u:=Z d;have a8:(M.IP.2.2.file M.dir[k].2).bytes.length<=1000000000000:=by rw[M.IV.2.2.2.1];exact a2
 have a6:(a.extract 0 q).size<=1000000000000:=by rw[Ll];omega
 have q1:(M.IP.2.2.file M.dir[k].2).bytes.length+(a.extract 0 q).size<=maxLen:=by unfold maxLen;omega
 have q2:(M.IP.2.2.file M.dir[k].2).bytes.length+(a.extract 0 q).size<=140737488355328:=by omega
 have Q1:=Z q1;have Q2:=Z q2;have S:Hid (∀ E:World,Fr (fun j=>(Value.slice n (M.IP.2.2.file M.dir[k].2).bytes.length c).ownBlock=some j) w3.drew E->Blk E M.dir[k].2 [.slice n (M.IP.2.2.file M.dir[k].2).bytes.length c,.int .i64 (M.IP.2.2.file M.dir[k].2).safe] 152):=by
  intro E A;have Y:=K.out.files _ t;rw[o.out] at Y;exact(Y.drew).fr A (zf d Y (by decide))
 clear q1 q2 d a6;go_wp2_with fail
 go_region_law
  ((refine Zi (by rfl) _ _ _ _ (by rfl) _ _ (by rfl) (by rfl) (Zn (w:=w3.drew) 150 9 _ 5 MW Lt Xf _ _ _ u.out (a.extract 0 q) Q1.out Q2.out) ?_;intro v4 E I;obtain⟨a4,c4,a7⟩:=zd I.own;have v:=S.out E I.fr;have b0:=v.cell 0;have A:=v.frozen 0;have HA:=Z I;clear I;subst a7))
 go_wp2
 go_ret;obtain⟨X,D⟩:=YJ K.out t o.out (by simp) HA.out;have a1:(a.extract 0 q).size=q:=by rw[Ll];omega
 rw[a1] at D;exact⟨rfl,X,(DStep.look R.out hf).trans (G.out.trans ((DStep.look G.out.Hl z).trans D))⟩
theorem TS(o a:ByteArray)(w:World)(b:Nat)(L:DL)(M:DM)(h:DRep w b L M)(k:Nat)(hk:k<M.dir.length)(h1:zR M.dir o=k)(b5:a.size<=1000000000000)(a0:(M.file M.dir[k].2).bytes.length<=1000000000000)
 (hd:M.IP.1=true)(y:M.IP.2.1=0)(m:Nat)(hm:M.IP.2.2.left=m)(i:(m:Int)<a.size) :
 Calls Tryz.prog 203 #[.pointer (some ⟨b,0,none⟩),.string o,.string a] w fun e w' =>
  e=.returned (.int .i64 10)/\∃ T,DStep b L M w T (({M.IP.2.2 with refused:=wrap64 (M.IP.2.2.refused+1),IZ:=wrap64 (M.IP.2.2.IZ+1)}:DM).IY M.dir[k].2 {M.IP.2.2.file M.dir[k].2 with bytes:=(M.IP.2.2.file M.dir[k].2).bytes++(a.extract 0 m).data.toList}) w':=by
 have v:=h.IR.cell;have B:=zu h.dir;unfold maxLen at B;simp only[DM.cells] at v;have R:=Z h;have H1:=Z h1;have HD:=Z hd;have HL:=Z i;have Q:=Z y;have HM:=Z hm;clear i y hm;clear h h1 hd;go_enter KA,Ks;go_wp2_with fail;refine(zU H1.out _ R.out.dir).mono ?_;rintro e w1 ⟨rfl,hf⟩;go_wp2_with fail;have G:=zQ w1 b L M (R.out.fr hf (fun _ _=>id));rw[HD.out] at G;rw[Q.out] at G;refine G.mono ?_;rintro e w2 ⟨rfl,K⟩;clear v G;have v:=K.Hl.IR.cell;simp only[DM.cells] at v;have q:=K.Hl.IR.cell 3;simp only[DM.cells] at q;simp at q;have I:=Z K;clear K;go_wp2_with fail
 go_region_held3 (fun w'=>w'.cell? ⟨b,3,none⟩=some (.int .i64 M.IP.2.2.room)) (first|go_keep|assumption) (first|(go_at_call 41;refine(YI _ b L M.IP.2.2 w2 I.out.Hl (Fr.drew (O _ _))).mono ?_;rintro e E ⟨rfl,a2,z⟩))
 have HE:Hid ((if IntKind.i64.wrap (M.IP.2.2.room-M.IP.2.2.used)<0 then 0 else IntKind.i64.wrap (M.IP.2.2.room-M.IP.2.2.used))=M.IP.2.2.left):=rfl;rw[HE.out];rw[HM.out];have b0:=HL.out;have b4:m<=a.size:=by omega
 have f:=I.out.Hl.fr z (fun _ _=>id);have x:=f.IR.cell;have a6:=f.IR.frozen;simp only[DM.cells] at x;clear v q a2;have a1:k<M.IP.2.2.dir.length:=by rw[M.IV.1];exact hk
 have he:M.IP.2.2.dir[k].2=M.dir[k].2:=by simp[M.IV.1]
 have h4:DRep ((E.setCell ⟨b,8,none⟩ (.int .i64 (wrap64 (M.IP.2.2.refused+1)))).setCell ⟨b,9,none⟩ (.int .i64 (wrap64 (M.IP.2.2.IZ+1)))) b L ({M.IP.2.2 with refused:=wrap64 (M.IP.2.2.refused+1),IZ:=wrap64 (M.IP.2.2.IZ+1)}:DM) :=
  f.own ((f.IR.set 8 _).set 9 _) (by repeat' first|exact O _ _|(with_reducible assumption)|refine Fr.drewN ?_ _|refine Fr.drew ?_|refine Fr.alloc ?_ _|refine Fr.set ?_ ?_ _|(intro _;rfl)) rfl rfl rfl rfl rfl
 obtain⟨g,b1,n,c,hv,r,_,hp,l⟩:=f.entry a1;rw[he] at r hp l;have X:=(f.files _ r).cell;have b3:=(f.files _ r).frozen;rw[l] at X;rw[hv] at x;have a8:M.dir[k].2≠b:=(f.files _ r).ne f.IR (by decide);have a9:g≠b:=fun e=>zf f.dir f.IR (by decide) (by rw[hv,<- e];rfl);have N:=Z h4;have p:=Z l;have s:=Z f;clear h4 f l hv;have d:=N.out.rows _ r;rw[p.out] at d;have t:=Z d;have a7:(M.IP.2.2.file M.dir[k].2).bytes.length<=1000000000000:=by rw[M.IV.2.2.2.1];exact a0
 have a3:(a.extract 0 m).size<=1000000000000:=by rw[Ll];omega
 have q1:(M.IP.2.2.file M.dir[k].2).bytes.length+(a.extract 0 m).size<=maxLen:=by unfold maxLen;omega
 have q2:(M.IP.2.2.file M.dir[k].2).bytes.length+(a.extract 0 m).size<=140737488355328:=by omega
 have Q1:=Z q1;have Q2:=Z q2;have S:Hid (∀ F:World,Fr (fun j=>(Value.slice n (M.IP.2.2.file M.dir[k].2).bytes.length c).ownBlock=some j) ((E.setCell ⟨b,8,none⟩ (.int .i64 (wrap64 (M.IP.2.2.refused+1)))).setCell ⟨b,9,none⟩ (.int .i64 (wrap64 (M.IP.2.2.IZ+1)))).drew F->Blk F M.dir[k].2 [.slice n (M.IP.2.2.file M.dir[k].2).bytes.length c,.int .i64 (M.IP.2.2.file M.dir[k].2).safe] 152):=by
  intro F A;have V:=N.out.files _ r;rw[p.out] at V;exact(V.drew).fr A (zf d V (by decide))
 clear q1 q2 d a3;go_wp2_with fail
 go_region_law
  ((refine Zi (by rfl) _ _ _ _ (by rfl) _ _ (by rfl) (by rfl) (Zn (w:=((E.setCell ⟨b,8,none⟩ (.int .i64 (wrap64 (M.IP.2.2.refused+1)))).setCell ⟨b,9,none⟩ (.int .i64 (wrap64 (M.IP.2.2.IZ+1)))).drew) 150 9 _ 5 MW Lt Xf _ _ _ t.out (a.extract 0 m) Q1.out Q2.out) ?_;intro v4 F J;obtain⟨a4,c4,a5⟩:=zd J.own;have u:=S.out F J.fr;have b2:=u.cell 0;have A:=u.frozen 0;have HA:=Z J;clear J;subst a5))
 go_wp2
 go_ret;obtain⟨T,C⟩:=YJ N.out r p.out (by simp) HA.out;have Y:(a.extract 0 m).size=m:=by rw[Ll];omega
 rw[Y] at C;have D:DStep b L M.IP.2.2 E L ({M.IP.2.2 with refused:=wrap64 (M.IP.2.2.refused+1),IZ:=wrap64 (M.IP.2.2.IZ+1)}:DM) ((E.setCell ⟨b,8,none⟩ (.int .i64 (wrap64 (M.IP.2.2.refused+1)))).setCell ⟨b,9,none⟩ (.int .i64 (wrap64 (M.IP.2.2.IZ+1)))):=by
  exact .own (s.out.own ((s.out.IR.set 8 _).set 9 _) (by repeat' first|exact O _ _|(with_reducible assumption)|refine Fr.drewN ?_ _|refine Fr.drew ?_|refine Fr.alloc ?_ _|refine Fr.set ?_ ?_ _|(intro _;rfl)) rfl rfl rfl rfl rfl) (by repeat' first|exact O _ _|(with_reducible assumption)|refine Fr.drewN ?_ _|refine Fr.drew ?_|refine Fr.alloc ?_ _|refine Fr.set ?_ ?_ _|(intro _;rfl)) rfl
 exact⟨rfl,T,(DStep.look R.out hf).trans (I.out.trans ((DStep.look I.out.Hl z).trans (D.trans C)))⟩
theorem DM.GS(M:DM)(h:M.IP.1=false):M.IP.2.1=9:=by
 unfold DM.IP at h |-;dsimp only at h |-;(repeat' split at h) <;> simp_all
theorem TT(a:ByteArray)(w:World)(b:Nat)(L:DL)(M:DM)(h:DRep w b L M)(q:M.IW.length+1<=1000000000000)(p:M.dir.length+1<=1000000000000) :
 Calls Tryz.prog 211 #[.pointer (some ⟨b,0,none⟩),.string a] w fun e i =>
  ∃ f j,e=.returned (.int .i64 (M.create a f).1)/\w.heap.size<=f/\DStep b L M w j (M.create a f).2 i:=by
 by_cases c:a=ByteArray.empty\/(M.dir.look a).isSome=true
 .refine(Rn a w b L M h c).mono fun e i ⟨d,g⟩=>⟨w.heap.size,L,?_,NS _,?_⟩
  .rw[d];simp only[DM.create];rw[Mg c]
  .simp only[DM.create];rw[Mg c];exact DStep.look h g
 .have he:¬a=ByteArray.empty:=fun e=>c (.inl e)
  rcases ZH M.dir a with⟨d,g⟩|⟨k,r,d,g,_⟩
  .cases hd:M.IP.1 with
   | false =>
    refine(Qn a w b L M h he d hd).mono fun e i ⟨l,m⟩=>⟨w.heap.size,L,?_,NS _,?_⟩
    .rw[l];simp only[DM.create];rw[Ma c]
    .simp only[DM.create];rw[Ma c,hd];exact m
   | true =>
    refine(Ro a w b L M h he d hd q p).mono fun e i ⟨l,f,j,m,_,o⟩=>⟨f,j,?_,m,?_⟩
    .rw[l];simp only[DM.create];rw[Ma c]
    .simp only[DM.create];rw[Ma c,hd];exact o
  .exact absurd (.inr (by rw[g];rfl)) c
def DM.add(M:DM)(b:ByteArray)(a:ByteArray):Int × DM :=
 match M.dir.look b with
 | none=>(11,M)
 | some f =>
  match M.tries a.size with
  | none=>(M.IP.2.1,M.IP.2.2)
  | some n =>
   if M.IP.2.2.left<n then
    if M.IP.2.1=0 then
     (10,({M.IP.2.2 with refused:=wrap64 (M.IP.2.2.refused+1),IZ:=wrap64 (M.IP.2.2.IZ+1)}:DM).IY f
       {M.IP.2.2.file f with bytes:=(M.IP.2.2.file f).bytes++(a.extract 0 M.IP.2.2.left.toNat).data.toList})
    else(M.IP.2.1,M.IP.2.2.IY f {M.IP.2.2.file f with bytes:=(M.IP.2.2.file f).bytes++(a.extract 0 M.IP.2.2.left.toNat).data.toList})
   else(M.IP.2.1,M.IP.2.2.IY f {M.IP.2.2.file f with bytes:=(M.IP.2.2.file f).bytes++(a.extract 0 n.toNat).data.toList})
theorem DM.Fj(M:DM):∃ m:Nat,M.left=m:=by
 have:0<=M.left:=by unfold DM.left;split <;> omega
 exact⟨_,(Lv this).symm⟩
theorem TU(c a:ByteArray)(w:World)(b:Nat)(L:DL)(M:DM)(h:DRep w b L M)(C:0<=M.part)(j:a.size<=1000000000000)(y:∀ f,f∈M.ids->(M.file f).bytes.length<=1000000000000) :
 Calls Tryz.prog 203 #[.pointer (some ⟨b,0,none⟩),.string c,.string a] w fun e q =>
  e=.returned (.int .i64 (M.add c a).1)/\∃ B,DStep b L M w B (M.add c a).2 q:=by
 rcases ZH M.dir c with⟨l,o⟩|⟨k,r,l,o,_⟩
 .refine(Rp c a w b L M h l).mono fun e q ⟨g,i⟩=>?_
  simp only[DM.add,o];exact⟨g,L,i⟩
 .have hf:=y _ (h.Gc _ (NV r))
  have v:M.IP.2.2.part=M.part:=M.IV.2.2.2.2.2.2.1;obtain⟨m,t⟩:=M.IP.2.2.Fj;cases hd:M.IP.1 with
  | false =>
   have d:=M.GS hd;cases hdd:M.IP.2.2.dead with
   | true =>
    refine(Qo c a w b L M h k r l hd hdd j).mono fun e q ⟨g,i⟩=>?_;simp only[DM.add,o,DM.tries,hd,hdd];exact⟨g,L,i⟩
   | false =>
    by_cases A:a.size=0
    .refine(append_nil c a w b L M h k r l hd hdd A).mono fun e q ⟨g,i⟩=>?_
     simp only[DM.add,o,DM.tries,hd,hdd,A];exact⟨g,L,i⟩
    .obtain⟨p,hp'⟩:=Mx C
     have z:(p:Int).tmod a.size=(p%a.size:Nat):=by
      rw[Je]
     have x:p%a.size<a.size:=Jk _ (by omega);have u:M.tries a.size=some ((p%a.size:Nat):Int):=by
      simp only[DM.tries,hd,hdd];rw[Ma (by simp),Mg (by simp;omega),hp',z]
     by_cases s:M.IP.2.2.left<((p%a.size:Nat):Int)
     .refine(VA c a w b L M h k r l j hf hd d hdd p (p%a.size) (by rw[v,hp']) z x m t (by omega)).mono fun e q ⟨g,i⟩=>?_
      simp only[DM.add,o,u];rw[Mg s,Ma (by omega),d,t];exact⟨g,i⟩
     .refine(VB c a w b L M h k r l j hf hd d hdd p (p%a.size) (by rw[v,hp']) z x s).mono fun e q ⟨g,i⟩=>?_
      simp only[DM.add,o,u];rw[Ma s,d];exact⟨g,i⟩
  | true =>
   have u:M.tries a.size=some (a.size:Int):=by simp[DM.tries,hd]
   by_cases s:M.IP.2.2.left<a.size
   .rcases M.Gp with d|d
    .refine(TS c a w b L M h k r l j hf hd d m t (by omega)).mono fun e q ⟨g,i⟩=>?_
     simp only[DM.add,o,u];rw[Mg s,Mg d,t];exact⟨g,i⟩
    .refine(TR c a w b L M h k r l j hf hd d m t (by omega)).mono fun e q ⟨g,i⟩=>?_
     simp only[DM.add,o,u];rw[Mg s,Ma (by omega),d,t];exact⟨g,i⟩
   .refine(Rq c a w b L M h k r l j hf hd s).mono fun e q ⟨g,i⟩=>?_
    simp only[DM.add,o,u];rw[Ma s];have:a.extract 0 ((a.size:Int).toNat)=a:=by simp
    rw[this];exact⟨g,i⟩
theorem XZ:((Tryz.prog.info? 9).map fun i=>(i.zero.map (·.cells.size),i.size,i.bytes))=some (some 1,1,16):=by kernel_rfl
def zb(a b:ByteArray):Bool:=Op.bytesLess a.toList b.toList
def ZL:List ByteArray->ByteArray->List ByteArray
 | [],x=>[x]
 | y::r,x=>if zb x y then y::ZL r x else x::y::r
def ZD(d:Dir)(k:Nat):List ByteArray:=((d.take k).foldl (fun r e=>ZL r e.1) []).reverse
def Dir.names(d:Dir):List ByteArray:=ZD d d.length
theorem Rr(l:List ByteArray)(x:ByteArray):(ZL l x).length=l.length+1:=by
 induction l with
 | nil=>rfl
 | cons y r a=>simp only[ZL];split <;> simp[a]
theorem Xz(d:Dir)(k:Nat)(h:k<d.length):ZD d (k+1)=(ZL (ZD d k).reverse d[k].1).reverse:=by
 unfold ZD;rw[Mq h,Lj];simp
theorem Wt(d:Dir):∀ k,k<=d.length->(ZD d k).length=k:=by
 intro k
 induction k with
 | zero=>intro _;rfl
 | succ k a =>
  intro h;rw[Xz d k h,List.length_reverse,Rr,List.length_reverse,a (by omega)]
theorem Pe(P R:List ByteArray)(x:ByteArray)(h:∀ t∈P,zb x t=true):ZL (P++R) x=P++ZL R x:=by
 induction P with
 | nil=>rfl
 | cons y P c =>
  have b:=h y (NY ..);simp only[MJ,ZL,b,MP];rw[c (fun t a=>h t (NX _ a))]
theorem TV(A:List ByteArray)(x:ByteArray)(j:Nat)(d:j<=A.length)(h:∀ t∈A.drop j,zb x t=true)(c:∀ i (a:i<A.length),j=i+1->zb x A[i]=false) :
 A.take j++[x]++A.drop j=(ZL A.reverse x).reverse:=by
 have e:A.reverse=(A.drop j).reverse++(A.take j).reverse:=by rw[<- List.reverse_append,Mv]
 rw[e,Pe _ _ _ (fun t f=>h t (by simpa using f))];cases j with
 | zero=>simp[ZL]
 | succ i =>
  have a:i<A.length:=d;have b:(A.take (i+1)).reverse=A[i]::(A.take i).reverse:=by
   rw[Mq a];simp
  rw[b];have:=c i a rfl;simp only[ZL,this,Lc,MN];rw[<- b];simp
def strs(l:List ByteArray):List Value:=l.map Value.string
theorem Vm(P Q:List ByteArray)(x:ByteArray):strs (P++[x]++Q)=strs P++.string x::strs Q:=by simp[strs]
theorem V6(l:List ByteArray):(strs l).length=l.length:=by simp[strs]
theorem Q8(A:List ByteArray)(x:ByteArray)(i:Nat)(b:i<A.length) :
 (strs (A.take (i+1)++[x]++A.drop (i+1)))[i+1]?=some (.string x)/\(strs (A.take (i+1)++[x]++A.drop (i+1)))[i]?=some (.string A[i]):=by
 have a:(strs (A.take (i+1))).length=i+1:=by rw[V6];simp;omega
 rw[Vm]
 constructor
 .rw[KM (by omega),a];simp
 .rw[LL (by omega)];simp[strs,b]
theorem Pf(A:List ByteArray)(x:ByteArray)(i:Nat)(b:i<A.length) :
 ((strs (A.take (i+1)++[x]++A.drop (i+1))).set (i+1) (.string A[i])).set i (.string x)=strs (A.take i++[x]++A.drop i):=by
 have c:strs (A.take (i+1))=strs (A.take i)++[.string A[i]]:=by unfold strs;rw[Mq b,ML];rfl
 have d:strs (A.drop i)=.string A[i]::strs (A.drop (i+1)):=by unfold strs;rw[Lk b,Mf]
 have a:(strs (A.take i)).length=i:=by rw[V6];simp;omega
 rw[Vm,Vm,c,d,Mm];rw[Ji _ _ (by omega),a,Ji _ _ (by omega),a];simp
theorem Ua{w:World}{a:Nat}{e:TypeId}{size:Nat}{g n b:Nat}{i:List Value}(h:w.ownsRow a e size (.slice (some ⟨g,0,none⟩) n b) n i)(j:Nat)(u:Value) :
 (w.setCell ⟨g,j,none⟩ u).ownsRow a e size (.slice (some ⟨g,0,none⟩) n b) n (i.set j u):=by
 rcases h.2 with⟨c,_⟩|⟨t,f,d,c,k,m,p,o,q,r⟩
 .cases c
 .simp at c
  obtain⟨rfl,rfl⟩:=c;refine⟨by rw[List.length_set];exact h.1,.inr ⟨g,b,d.setIfInBounds j u,rfl,k,?_,p,o,by simpa using q,?_⟩⟩
  .simp[World.setCell,Array.getElem?_modify,m]
  .rw[<- r]
   simp only[Array.toList_setIfInBounds];rw[List.take_set]
theorem VC{w:World}{a:Nat}{e:TypeId}{size:Nat}{g n c:Nat}{k:List Value}(h:w.ownsRow a e size (.slice (some ⟨g,0,none⟩) n c) n k)(j:Nat):w.frozen? ⟨g,j,none⟩=false:=by
 rcases h.2 with⟨b,_⟩|⟨m,d,f,b,o,i,_⟩
 .cases b
 .simp at b
  obtain⟨rfl,_⟩:=b;simp[World.frozen?,i]
theorem YX(w:World)(b:Nat)(L:DL)(M:DM)(h:DRep w b L M)(hm:M.dir.length<=1000000000000) :
 Calls Tryz.prog 86 #[.pointer (some ⟨b,0,none⟩)] w fun e J =>
  ∃ v,e=.returned v/\J.ownsRow 0 9 1 v M.dir.length (strs M.dir.names)/\Fr Nil w J/\(∀ k,v.ownBlock=some k->w.heap.size<=k):=by
 have hc:=h.IR.cell;simp only[DM.cells] at hc;obtain⟨a,b7,hv⟩:=zd h.dir;rw[hv] at hc;obtain⟨ti,tz,b0,b1,b2,b3,c3⟩:=Zr XZ;have HH:=Z h;have HV:=Z hv;clear h hv;go_enter Tryz.func86,Tryz.ntmps86
 go_wp2_with (at_make;go_must (refine wpList_make_own _ rfl _ _ 91 rfl 0 9 ti tz 1 KF b0 b1 b2 _ _ _ M.dir.length (by rfl) (by rfl) rfl (by rw[b3];omega) (by unfold maxLen;omega) (Me _) ?_))
 intro w1 r E;have y:Fr Nil w w1:=(Fr.Ho E).mono (fun _ _ h=>by cases h);have h1:=HH.out.fr y (fun _ _=>id);have s:=h1.IR.cell;simp only[DM.cells] at s;rw[HV.out] at s;clear hc E h1;go_wp2_with fail;clear s
 go_loopw [3,18] (fun l c J=>∃ k:Nat,k<=M.dir.length/\c=.int .i64 k/\J.ownsRow 0 9 1 l k (strs (ZD M.dir k))/\Fr Nil w J/\(∀ j,l.ownBlock=some j->w.heap.size<=j)) (fun _ c _=>M.dir.length-(intOf c).toNat)
 case atStart=>exact⟨0,Me _,rfl,r,y,fun j F=>by simp[Value.ownBlock] at F;omega⟩
 case round =>
  obtain⟨k,hk,rfl,d,z,G⟩:=hrel;have hr:=HH.out.fr z (fun _ _=>id);have HN:=Z G;have HO:=Z d;have a5:=Z (Wt M.dir k hk);obtain⟨la,lc,a8⟩:=zd d;clear r y G d;subst a8;by_cases D:k<M.dir.length
  .obtain⟨g,hg⟩:∃ g,a=some ⟨g,0,none⟩:=by
    obtain⟨g,c',V,_⟩:=zq hr.dir (by omega);rw[HV.out] at V;simp at V;exact⟨g,V.1⟩
   subst hg;have f:=hr.dir;rw[HV.out] at f;have a4:=own_cell? f _ _ (ZA M.dir k D).1;have a9:=own_cell? f _ _ (ZA M.dir k D).2;have c0:=World.block_lt_of_cell? _ _ a4;clear f hr
   go_wp2_with (at_builtin;go_must (refine zL rfl _ _ _ _ rfl _ _ (by rfl) (by rfl) (zn 91 _ 9 1 16 KF XZ (by decide) _ _ _ ((HO.out.alloc _).alloc _)
    ⟨wr.heap.size+1,0,none⟩ 1 1 [.string M.dir[k].1] rfl (YH _ _ _ _ (by simp)) (by intro u hu;simp at hu;subst hu;rfl) (by unfold maxLen;omega) (by omega)) ?_))
   intro v2 w4 R;obtain⟨Y,c2,b4,_,_⟩:=zq R.own (by omega);subst b4;have K:=Z R;clear R;go_wp2_with fail;generalize hA:ZD M.dir k=A at *;generalize hx:M.dir[k].1=x at *;have a0:A.length=k:=a5.out;have N:=Z a0;have X:Hid (ZD M.dir (k+1)=(ZL A.reverse x).reverse):=by rw[Hid,Xz M.dir k D,hA,hx]
   have b9:w.heap.size<=Y:=by
    rcases K.out.at_ with h|h
    .exact HN.out Y (by rw[<- h];rfl)
    .simp[Value.ownBlock] at h;have:=z.size;omega
   have a2:Fr Nil w w4:=Fr.trans' ((z.alloc _).alloc _) K.out.fr (fun j D F=>by have:=HN.out j F;omega);have b5:=Z hA;have b6:=Z hx;clear hA hx a0 a4 a9
   go_loopw [6] (fun c J=>∃ j:Nat,j<=k/\c=.int .i64 j/\J.ownsRow 0 9 1 (.slice (some ⟨Y,0,none⟩) (k+1) c2) (k+1) (strs (A.take j++[x]++A.drop j))/\(∀ t,t∈A.drop j->zb x t=true)/\Fr Nil w J) (fun c _=>(intOf c).toNat)
   case atStart =>
    refine⟨k,NS _,rfl,?_,?_,a2⟩
    .have e:strs (A.take k++[x]++A.drop k)=strs A++[.string x]:=by
      have hl:=N.out;rw[Mj (by omega),List.drop_of_length_le (by omega)];simp[strs]
     rw[e];exact K.out.own
    .intro t T
     rw[List.drop_of_length_le (by have:=N.out;omega)] at T;cases T
   case round =>
    rename_i wq;obtain⟨j,F,rfl,d,q,S⟩:=hrel;have o:=Z d;have Q:=Z q;clear d q a2;rcases Kf j with rfl|c1
    .have hd:decide ((0:Int)<((0:Nat):Int))=false:=by simp
     go_wp2_with fail
     go_quiet (fail)
     go_wp2
     have e3:ZD M.dir (k+1)=A.take 0++[x]++A.drop 0:=X.out.trans (TV A x 0 (Me _) Q.out (fun i _ h=>by omega)).symm;exact⟨⟨k+1,by omega,by go_num,by rw[e3];exact o.out,S.drewN _,fun j F=>by simp[Value.ownBlock] at F;omega⟩,by simp[intOf];omega⟩
    .obtain⟨i,rfl⟩:∃ i,j=i+1:=⟨j-1,by omega⟩
     have B:i<A.length:=by have:=N.out;omega
     have s:=own_cell? o.out _ _ (Q8 A x i B).1;have b8:=own_cell? o.out _ _ (Q8 A x i B).2;have y:=VC o.out;have e1:(((i+1:Nat):Int))=(i:Int)+1:=by omega
     rw[e1];cases hls:zb x A[i] with
     | true =>
      have a3:Op.bytesLess x.toList A[i].toList=true:=hls;go_wp2_with fail
      go_quiet (fail)
      go_wp2_with fail
      go_region
      go_wp2
      have I:=Ua (Ua (w:=wr.drewN (nq+1)) o.out (i+1) (.string A[i])) i (.string x);rw[Pf A x i B] at I;have C:∀ t,t∈A.drop i->zb x t=true:=by
       intro t T;rw[Lk B] at T;rcases Mr.1 T with rfl|T
       .exact hls
       .exact Q.out t T
      exact⟨⟨i,by omega,rfl,I,C,Fr.set (Fr.set (S.drewN _) (fun(h:Y<w.heap.size)=>absurd h (by omega)) _) (fun(h:Y<w.heap.size)=>absurd h (by omega)) _⟩,by simp[intOf]⟩
     | false =>
      have a3:Op.bytesLess x.toList A[i].toList=false:=hls;go_wp2_with fail
      go_quiet (fail)
      go_wp2
      have a1:∀ i' (a6:i'<A.length),i+1=i'+1->zb x A[i']=false:=by
       intro i' a6 h;have h':i'=i:=by omega
       subst h';exact hls
      have e3:ZD M.dir (k+1)=A.take (i+1)++[x]++A.drop (i+1):=X.out.trans (TV A x (i+1) (by omega) Q.out a1).symm;exact⟨⟨k+1,by omega,by go_num,by rw[e3];exact o.out,S.drewN _,fun j F=>by simp[Value.ownBlock] at F;omega⟩,by simp[intOf];omega⟩
  .go_wp2
   go_ret;have a7:k=M.dir.length:=by omega
   subst a7;exact⟨_,rfl,HO.out,z,HN.out⟩
def Ya(a b:ByteArray):Int:=if zb a b=true then -1 else if (a.toList==b.toList)=true then 0 else 1
theorem Qp(a b:ByteArray)(w:World) :
 Calls Tryz.prog 201 #[.string a,.string b] w fun e i=>e=.returned (.int .i64 (Ya a b))/\i=w:=by
 have j:∀ x:ByteArray,(x.toList==x.toList)=true:=by intro x;simp
 by_cases c:zb a b=true
 .have h:Ya a b=-1:=by unfold Ya;rw[Mg c]
  rw[h];clear h;have f:Op.bytesLess a.toList b.toList=true:=c;clear c;go_enter Tryz.func201,Tryz.ntmps201
  go_wp2
  go_ret;exact⟨rfl,rfl⟩
 .have f:Op.bytesLess a.toList b.toList=false:=by simpa [zb] using c
  by_cases d:(a.toList==b.toList)=true
  .have h:Ya a b=0:=by unfold Ya;rw[Ma c,Mg d]
   rw[h];clear h c;go_enter Tryz.func201,Tryz.ntmps201
   go_wp2
   go_ret;exact⟨rfl,rfl⟩
  .have h:Ya a b=1:=by unfold Ya;rw[Ma c,Ma d]
   rw[h];clear h c;have g:(a.toList==b.toList)=false:=by simpa using d
   clear d;go_enter Tryz.func201,Tryz.ntmps201
   go_wp2
   go_ret;exact⟨rfl,rfl⟩
theorem YR(a b:ByteArray)(v:Value)(w:World) :
 Calls Tryz.prog 200 #[.agg #[.string a,v],.string b] w fun e c=>e=.returned (.int .i64 (Ya a b))/\Fr Nil w c:=by
 go_enter Tryz.func200,Tryz.ntmps200
 go_wp2_with (go_at_call 201;refine(Qp _ _ _).mono ?_;rintro e d ⟨rfl,rfl⟩)
 go_ret;exact⟨rfl,(by repeat' first|exact O _ _|(with_reducible assumption)|refine Fr.drewN ?_ _|refine Fr.drew ?_|refine Fr.alloc ?_ _|refine Fr.set ?_ ?_ _|(intro _;rfl))⟩
end Go.Proofs.YtkhnggkkiefcdaaGreatDoor
namespace Go.Proofs.YtkhnggkkiefcdaaGreatDoor
set_option maxRecDepth 100000
set_option maxHeartbeats 8000000
open Go
structure Strict{α:Type}(lt:α->α->Bool):Prop where
 FO:∀ a,lt a a=false
 trans:∀ a b c,lt a b=true->lt b c=true->lt a c=true
 Ee:∀ a b,lt a b=false->a≠b->lt b a=true
theorem Strict.Ek{α:Type}{lt:α->α->Bool}(h:Strict lt){a b:α}(c:lt a b=true):lt b a=false:=by
 cases hb:lt b a with
 | false=>rfl
 | true=>have:=h.trans _ _ _ c hb;rw[h.FO] at this;cases this
def Asc{α:Type}(lt:α->α->Bool)(l:List α):Prop:=l.Pairwise fun a b=>lt a b=true
theorem Asc.get{α:Type}{lt:α->α->Bool}{l:List α}(h:Asc lt l){i j:Nat}(a:i<j)(b:j<l.length):lt (l[i]'(IH a b)) l[j]=true :=
 (List.pairwise_iff_getElem.1 h) i j (by omega) b a
def low{α:Type}(lt:α->α->Bool)(l:List α)(b:α):Nat:=(l.takeWhile fun a=>lt a b).length
theorem VD{α:Type}(lt:α->α->Bool)(l:List α)(b:α):low lt l b<=l.length:=by
 induction l with
 | nil=>simp[low]
 | cons a r c =>
  by_cases h:lt a b=true
  .simp only[low,Jy,h,MP,Mh] at c |-;omega
  .simp[low,h]
theorem TW{α:Type}(lt:α->α->Bool)(b:α):∀ (l:List α)(i:Nat),i<=l.length->(∀ k (e:k<l.length),k<i->lt l[k] b=true)->(∀ e:i<l.length,lt l[i] b=false)->low lt l b=i
 | [],i,c,_,_=>by simp at c;simp[low,c]
 | a::r,0,_,_,d=>by
  have:lt a b=false:=d (by simp);simp[low,this]
 | a::r,i+1,c,f,d=>by
  have g:lt a b=true:=f 0 (by simp) (by omega);have:=TW lt b r i (by simpa using c) (fun k e h=>f (k+1) (by simp;omega) (by omega)) (fun e=>d (by simp;omega));simp only[low,Jy,g,MP,Mh] at this |-;rw[this]
theorem TX{α:Type}{lt:α->α->Bool}{b:α}:∀ {l:List α}{k:Nat}(c:k<l.length),k<low lt l b->lt l[k] b=true
 | [],k,c,_=>by simp at c
 | a::r,k,c,h=>by
  by_cases d:lt a b=true
  .cases k with
   | zero=>simpa using d
   | succ k =>
    have e:k<low lt r b:=by simp only[low,Jy,d,MP,Mh] at h |-;omega
    simpa using TX (l:=r) (k:=k) (by simpa using c) e
  .simp[low,d] at h
theorem TY{α:Type}{lt:α->α->Bool}{b:α}:∀ {l:List α}(c:low lt l b<l.length),lt l[low lt l b] b=false
 | [],c=>by simp at c
 | a::r,c=>by
  by_cases d:lt a b=true
  .have e:low lt (a::r) b=low lt r b+1:=by simp[low,d]
   have f:low lt r b<r.length:=by rw[e] at c;simpa using c
   have:=TY (l:=r) f;simp only[e,KB];exact this
  .have e:low lt (a::r) b=0:=by simp[low,d]
   simp only[e,LG]
   simpa using d
def zD{α:Type} [BEq α] (lt:α->α->Bool)(l:List α)(b:α):Bool :=
 match l[low lt l b]? with
 | some a=>a==b
 | none=>false
theorem XK{α:Type} [BEq α] {lt:α->α->Bool}{l:List α}{b:α}(h:¬low lt l b<l.length):zD lt l b=false:=by
 have:l[low lt l b]?=none:=by rw[KD];omega
 simp[zD,this]
theorem WY{α:Type} [BEq α] {lt:α->α->Bool}{l:List α}{b:α}(h:low lt l b<l.length):zD lt l b=(l[low lt l b]==b):=by
 have:l[low lt l b]?=some l[low lt l b]:=NZ h;simp[zD,this]
theorem Asc.fst{α β:Type}{lt:α->α->Bool}{l:List (α × β)}(h:Asc lt (l.map Prod.fst)){i j:Nat}(a:i<j)(c:j<l.length):lt (l[i]'(IH a c)).1 l[j].1=true:=by
 have:=h.get (i:=i) (j:=j) a (by simpa using c)
 rwa [MT,MT] at this
theorem Yx{α β:Type} [BEq α] {lt:α->α->Bool}{l:List (α × β)}{b:α}{i:Nat}(a:i<l.length)(h:low lt (l.map Prod.fst) b=i):zD lt (l.map Prod.fst) b=(l[i].1==b):=by
 subst h;rw[WY (by simpa using a),MT]
theorem Asc.ins{α:Type}{lt:α->α->Bool}(s:Strict lt){l:List α}{b:α}(h:Asc lt l)(t:∀ o:low lt l b<l.length,l[low lt l b]≠b) :
 Asc lt (l.take (low lt l b)++[b]++l.drop (low lt l b)):=by
 have f:∀ x∈l.drop (low lt l b),lt b x=true:=by
  intro x p;obtain⟨j,m,rfl⟩:=LI p;rw[Mn] at m;rw[List.getElem_drop];have o:low lt l b<l.length:=by omega
  have q:lt b l[low lt l b]=true:=s.Ee _ _ (TY o) (t o);rcases Kf j with e|e
  .subst e;exact q
  .exact s.trans _ _ _ q (h.get (i:=low lt l b) (j:=low lt l b+j) (by omega) (by omega))
 have d:∀ x∈l.take (low lt l b),lt x b=true:=by
  intro x p;obtain⟨j,m,rfl⟩:=LI p;rw[NT] at m;rw[KG];exact TX (by omega) (by omega)
 unfold Asc at h |-;have g:(l.take (low lt l b)++l.drop (low lt l b)).Pairwise fun a b=>lt a b=true:=by rwa [Mv]
 rw[List.pairwise_append] at g;rw[Mm,List.pairwise_append,List.singleton_append,List.pairwise_cons];refine⟨g.1,⟨f,g.2.1⟩,fun a r c k=>?_⟩;rcases Mr.1 k with rfl|k
 .exact d a r
 .exact g.2.2 a r c k
theorem Asc.del{α:Type}{lt:α->α->Bool}{l:List α}(h:Asc lt l)(i:Nat):Asc lt (l.take i++l.drop (i+1)):=by
 unfold Asc at h |-;refine h.sublist ?_;have:l.take i++l.drop (i+1)=l.eraseIdx i:=by rw[List.eraseIdx_eq_take_drop_succ]
 rw[this];exact List.eraseIdx_sublist _ _
theorem YY{a b:ByteArray}(h:a.toList=b.toList):a=b:=by
 rw[Jz,Jz] at h;exact Jq (KY h)
theorem zJ{a b:ByteArray}:(a==b)=true↔a=b:=by
 rw[KW]
 constructor
 .intro h;exact YY (by simpa using h)
 .intro h;subst h;simp
theorem Yp:∀(x y:List UInt8),Op.bytesLess x y=decide (x<y)
 | [],[]=>by simp[Op.bytesLess]
 | _::_,[]=>by simp[Op.bytesLess]
 | [],_::_=>by simp[Op.bytesLess]
 | a::x,b::y=>by
  rw[Op.bytesLess,Yp x y];simp only[List.cons_lt_cons_iff];by_cases c:a<b <;> by_cases d:a=b <;> by_cases e:x<y <;> simp[c,d,e]
end Go.Proofs.YtkhnggkkiefcdaaGreatDoor
