/- larder: joined texts -/
import Derived.Test.YtkhnggkkiefcdaaGreatDoorSFAU
namespace Go.Proofs.YtkhnggkkiefcdaaGreatDoor
open Go.RowKit
set_option maxRecDepth 100000
theorem Tf:∀(l m:List Nat),l.Nodup->(∀ x,x∈l->x∈m)->l.length<=m.length
 | [],_,_,_=>by simp
 | x::l,m,a,hs=>by
  have c:x∈m:=hs x (Hf ..);rw[Ed] at a;have:=Tf l (m.erase x) a.2 (fun y d=>by
   have b:=hs y (Hb _ d);exact(List.mem_erase_of_ne (fun e:y=x=>a.1 (by rw[<- e];exact d))).2 b)
  have e:=List.length_erase_of_mem c;have g:0<m.length:=List.length_pos_of_mem c;simp only[Hq];omega
structure Rel(ps:List (Nat × Nat))(d d':Dir):Prop where
 len:d'.length=d.length
 at_:∀ i (h1:i<d.length) (h2:i<d'.length),d'[i].1=d[i].1/\(d[i].2,d'[i].2)∈ps
theorem Rel.more{g a:List (Nat × Nat)}{d b:Dir}(h:Rel g d b)(hs:∀ p,p∈g->p∈a):Rel a d b :=
 ⟨h.len,fun i c e=>⟨(h.at_ i c e).1,hs _ (h.at_ i c e).2⟩⟩
def second(a:List (Nat × Nat))(f:Nat):Nat:=((a.find? fun p=>p.1==f).map Prod.snd).getD 0
def first(b:List (Nat × Nat))(g:Nat):Nat:=((b.find? fun p=>p.2==g).map Prod.fst).getD 0
theorem Um:∀{a:List (Nat × Nat)}{f g:Nat},(a.map Prod.fst).Nodup->(f,g)∈a->second a f=g
 | [],_,_,_,h=>by cases h
 | p::a,f,g,b,h=>by
  rw[Ht,Ed] at b;rcases HY.1 h with e|c
  .subst e;simp[second]
  .have hne:(p.1==f)=false:=by
    rw[GG];intro e;exact b.1 (by rw[e];exact Gc.2 ⟨_,c,rfl⟩)
   have:=Um b.2 c;unfold second at this |-;rw[List.find?_cons,hne];exact this
theorem VJ:∀{a:List (Nat × Nat)}{f g:Nat},(a.map Prod.snd).Nodup->(f,g)∈a->first a g=f
 | [],_,_,_,h=>by cases h
 | p::a,f,g,b,h=>by
  rw[Ht,Ed] at b;rcases HY.1 h with e|c
  .subst e;simp[first]
  .have hne:(p.2==g)=false:=by
    rw[GG];intro e;exact b.1 (by rw[e];exact Gc.2 ⟨_,c,rfl⟩)
   have:=VJ b.2 c;unfold first at this |-
   rw[List.find?_cons,hne];exact this
def Z6(a:List (Nat × Nat))(d:Dir):Dir:=d.map fun e=>(e.1,second a e.2)
theorem Rel.eq{a:List (Nat × Nat)}{d b:Dir}(k:(a.map Prod.fst).Nodup)(h:Rel a d b):b=Z6 a d:=by
 refine Et (by rw[h.len];simp[Z6]) ?_;intro i c l;have j:i<d.length:=by rw[<- h.len];exact c
 obtain⟨e,f⟩:=h.at_ i j c;have g:=Um k f;simp only[Z6,Gf,g];exact Prod.ext e rfl
theorem Rel.mem{c:List (Nat × Nat)}{d a:Dir}(h:Rel c d a):∀ e,e∈a->∃ p,p∈c/\p.2=e.2:=by
 intro e g;obtain⟨i,b,rfl⟩:=GD.1 g;have f:i<d.length:=by rw[<- h.len];exact b
 exact⟨_,(h.at_ i f b).2,rfl⟩
def DM.BU(M:DM)(a:List (Nat × Nat)):DM :=
 {M with dir:=Z6 a M.dir,safe:=Z6 a M.safe,Bj:=M.Bj.map (Z6 a),file:=fun g=>M.file (first a g),ids:=a.map Prod.snd}
structure zV(w0 w:World)(bo bm nb:Nat)(M:DM)(D S:Dir)(k:Nat)(ps:List (Nat × Nat))(vo vm:Value)(fV:Nat->Value)(L:DL)(d1 s1:Dir)(c1:List Dir):Prop where
 T:Twin w0 w bo bm M (ps.map Prod.fst) ps vo vm fV
 CY:Blk w nb (M.cells L) 143
 yP:w0.heap.size<=nb
 dir:w.ownsRow 0 148 2 L.BE d1.length (flat d1)
 safe:w.ownsRow 0 148 2 L.Bx s1.length (flat s1)
 ch:w.ownsRow 0 145 1 L.Aj k L.BB
 Ag:L.BB.length=k
 cl:c1.length=k
 Bj:∀ i (h1:i<L.BB.length) (h2:i<c1.length),w.ownsRow 0 148 2 L.BB[i] c1[i].length (flat c1[i])
 rd:Rel ps D d1
 rs:Rel ps S s1
 rc:∀ i (h1:i<c1.length) (h2:i<M.Bj.length),Rel ps M.Bj[i] c1[i]
 nd:∀ j,L.BE.ownBlock=some j->w0.heap.size<=j
 ns:∀ j,L.Bx.ownBlock=some j->w0.heap.size<=j
 nc:∀ j,L.Aj.ownBlock=some j->w0.heap.size<=j
 yW:∀ i (h1:i<L.BB.length) j,L.BB[i].ownBlock=some j->w0.heap.size<=j
theorem zV.Bt{t w s:World}{c b j:Nat}{M:DM}{D S:Dir}{k:Nat}{l:List (Nat × Nat)}{r vm:Value}{g:Nat->Value}{L:DL}{e o:Dir}{d:List Dir}
 (h:zV t w c b j M D S k l r vm g L e o d)(f:Fr Nil w s):zV t s c b j M D S k l r vm g L e o d :=
 {h with
  T:=h.T.Bt f
  CY:=h.CY.fr f id
  dir:=zb h.dir f (fun _ _=>id)
  safe:=zb h.safe f (fun _ _=>id)
  ch:=zb h.ch f (fun _ _=>id)
  Bj:=fun i u x=>zb (h.Bj i u x) f (fun _ _=>id)}
theorem Wd{r w l:World}{d c:Nat}{M:DM}{p:List Nat}{q:List (Nat × Nat)}{i vm:Value}{o:Nat->Value}{e:TypeId}{size n:Nat}{v:Value}{m:List Value}(T:Twin r w d c M p q i vm o)
 (f:Fr (fun j=>j=d\/j=c\/i.ownBlock=some j\/vm.ownBlock=some j) w l)(a:w.ownsRow 0 e size v n m)(g:e≠168)(h:e≠146):l.ownsRow 0 e size v n m :=
 zb a f (fun k b e=>by
  rcases e with e|e|e|e
  .subst e;exact zd a T.co (DN g) b
  .subst e;exact zd a T.cm (DN g) b
  .exact Zc T.old a (DN h) e b
  .exact Zc T.made a (DN h) e b)
theorem RI{q w l:World}{d b g:Nat}{M:DM}{o:List Nat}{p:List (Nat × Nat)}{k vm:Value}{m:Nat->Value}{e:TypeId}{c:List Value}(T:Twin q w d b M o p k vm m)
 (f:Fr (fun j=>j=d\/j=b\/k.ownBlock=some j\/vm.ownBlock=some j) w l)(a:Blk w g c e)(h:e≠168)(i:e≠146):Blk l g c e :=
 a.fr f (fun e=>by
  rcases e with e|e|e|e
  .exact a.ne T.co h e
  .exact a.ne T.cm h e
  .exact zd T.old a i e
  .exact zd T.made a i e)
structure M7(w0 w w':World)(bo bm nb:Nat)(M:DM)(D S:Dir)(k:Nat)(ps:List (Nat × Nat))(L:DL)(d1 s1:Dir)(c1:List Dir)(d:Dir)(l:Value):Prop where
 ex:∃ ps' vo' vm' fV' d',zV w0 w' bo bm nb M D S k ps' vo' vm' fV' L d1 s1 c1/\(∀ p,p∈ps->p∈ps')/\Rel ps' d d'/\w'.ownsRow 0 148 2 l d'.length (flat d') /\
  (∀ j,l.ownBlock=some j->w0.heap.size<=j)
 CY:∀ (g:Nat) (c:List Value) (e:TypeId),Blk w g c e->e≠168->e≠146->Blk w' g c e
 row:∀ (v:Value) (n size:Nat) (xs:List Value) (e:TypeId),w.ownsRow 0 e size v n xs->e≠168->e≠146->w'.ownsRow 0 e size v n xs
theorem zV.other{s w A:World}{b a x:Nat}{M:DM}{D S:Dir}{k:Nat}{g:List (Nat × Nat)}{z vm l:Value}{E:Nat->Value}{L:DL}{u y d:Dir}{t:List Dir}
 (h:zV s w b a x M D S k g z vm E L u y t)(o:Yf s w b a M g z vm d d.length l A):M7 s w A b a x M D S k g L u y t d l:=by
 obtain⟨m,r,q,c,C,B,hs,_,v,J,I,_,_⟩:=o.ex;have N:=h.T.fr.size;refine⟨⟨m,r,q,c,C,?_,hs,⟨v,J⟩,by rw[v];exact I,fun j G=>IP N (o.new j G)⟩,fun _ _ _ F=>RI h.T o.fr F,fun _ _ _ _ _ K=>Wd h.T o.fr K⟩;exact {h with
  T:=B
  CY:=RI h.T o.fr h.CY (by decide) (by decide)
  dir:=Wd h.T o.fr h.dir (by decide) (by decide)
  safe:=Wd h.T o.fr h.safe (by decide) (by decide)
  ch:=Wd h.T o.fr h.ch (by decide) (by decide)
  Bj:=fun i e f=>Wd h.T o.fr (h.Bj i e f) (by decide) (by decide)
  rd:=h.rd.more hs
  rs:=h.rs.more hs
  rc:=fun i e f=>(h.rc i e f).more hs}
theorem zV.An{t w q:World}{T R A:Nat}{M:DM}{D S Q S':Dir}{k z:Nat}{y:List (Nat × Nat)}{Y vm:Value}{V:Nat->Value}{L b:DL}{d1 s1 d o:Dir}{c1 a:List Dir}
 (h:zV t w T R A M D S k y Y vm V L d1 s1 c1)(f:Fr (fun j=>j=A\/L.Aj.ownBlock=some j) w q)
 (E:Blk q A (M.cells b) 143)
 (dir:q.ownsRow 0 148 2 b.BE d.length (flat d))
 (safe:q.ownsRow 0 148 2 b.Bx o.length (flat o))
 (ch:q.ownsRow 0 145 1 b.Aj z b.BB)
 (F:b.BB.length=z)
 (cl:a.length=z)
 (G:∀ i (r:i<b.BB.length)(u:i<a.length),q.ownsRow 0 148 2 b.BB[i] a[i].length (flat a[i]))
 (rd:Rel y Q d)
 (rs:Rel y S' o)
 (rc:∀ i (r:i<a.length)(u:i<M.Bj.length),Rel y M.Bj[i] a[i])
 (nd:∀ j,b.BE.ownBlock=some j->t.heap.size<=j)
 (ns:∀ j,b.Bx.ownBlock=some j->t.heap.size<=j)
 (nc:∀ j,b.Aj.ownBlock=some j->t.heap.size<=j)
 (N:∀ i (r:i<b.BB.length) j,b.BB[i].ownBlock=some j->t.heap.size<=j):zV t q T R A M Q S' z y Y vm V b d o a where
 T:=by
  have B:∀ {g:Nat} {c:List Value} {e:TypeId},Blk w g c e->e≠143->e≠145->Blk q g c e:=fun I r u=>I.fr f (fun e=>by
   rcases e with e|e
   .exact I.ne h.CY r e
   .exact zd h.ch I u e)
  have C:∀ {v:Value} {n size:Nat} {xs:List Value} {e:TypeId},w.ownsRow 0 e size v n xs->e≠143->e≠145->q.ownsRow 0 e size v n xs:=fun K r u=>zb K f (fun k X e=>by
   rcases e with e|e
   .subst e;exact zd K h.CY (DN r) X
   .exact Zc h.ch K (DN u) e X)
  exact {h.T with
   co:=B h.T.co (by decide) (by decide)
   cm:=B h.T.cm (by decide) (by decide)
   old:=C h.T.old (by decide) (by decide)
   made:=C h.T.made (by decide) (by decide)
   files:=fun p J=>B (h.T.files p J) (by decide) (by decide)
   rows:=fun p J=>C (h.T.rows p J) (by decide) (by decide)
   fr:=Fr.trans' h.T.fr f (fun j a0 hj=>by
    rcases hj with e|e
    .have:=h.yP;omega
    .have:=h.nc j e;omega)}
 CY:=E
 yP:=h.yP
 dir:=dir
 safe:=safe
 ch:=ch
 Ag:=F
 cl:=cl
 Bj:=G
 rd:=rd
 rs:=rs
 rc:=rc
 nd:=nd
 ns:=ns
 nc:=nc
 yW:=N
theorem zV.lists{q w o:World}{y x c:Nat}{M:DM}{D S t u:Dir}{d:List (Nat × Nat)}{B vm l m:Value}{z:Nat->Value}{L:DL}{E Q b g:Dir}
 (h:zV q w y x c M D S 0 d B vm z L E Q [])(f:Fr (fun j=>j=c) w o)(F:Blk o c (M.cells {L with BE:=l,Bx:=m}) 143)
 (a:w.ownsRow 0 148 2 l b.length (flat b))(s:w.ownsRow 0 148 2 m g.length (flat g))(K:Rel d t b)(N:Rel d u g)
 (I:∀ j,l.ownBlock=some j->q.heap.size<=j)(J:∀ j,m.ownBlock=some j->q.heap.size<=j) :
 zV q o y x c M t u 0 d B vm z {L with BE:=l,Bx:=m} b g []:=by
 have r:∀ {v:Value} {n size:Nat} {C:List Value} {e:TypeId},w.ownsRow 0 e size v n C->e≠143->o.ownsRow 0 e size v n C:=fun A a=>zb A f (fun k G e=>by
  subst e;exact zd A h.CY (DN a) G)
 refine h.An (f.mono (fun _ _=>.inl)) F (r a (by decide)) (r s (by decide)) (r h.ch (by decide)) h.Ag rfl (fun i a s=>absurd s (Gb _)) K N (fun i a=>absurd a (Gb _)) I J h.nc h.yW
theorem zV.push{I w A o:World}{K J a:Nat}{M:DM}{D S:Dir}{k:Nat}{C:List (Nat × Nat)}{T vm l f:Value}{R:Nat->Value}{L:DL}{N E b:Dir}{d:List Dir}(t:k<M.Bj.length)
 (h:zV I w K J a M D S k C T vm R L N E d)(Q:Fr Nil w A)(q:App A L.Aj 145 1 (k+1) (L.BB++[l]) f o)
 (X:w.ownsRow 0 148 2 l b.length (flat b))(hr:Rel C M.Bj[k] b)(Y:∀ j,l.ownBlock=some j->I.heap.size<=j) :
 zV I (o.setCell ⟨a,2,none⟩ f) K J a M D S (k+1) C T vm R {L with Aj:=f,BB:=L.BB++[l]} N E (d++[b]):=by
 have c:=h.Bt Q;have E:=c.T.fr.size;have r:Blk o a (M.cells L) 143:=c.CY.fr q.fr (zd c.ch c.CY (by decide));have y:Fr (fun k=>k=a) o (o.setCell ⟨a,2,none⟩ f):=Fr.set (S:=fun k=>k=a) (p:=⟨a,2,none⟩) (O _ _) (fun _=>rfl) f;have s:Fr (fun k=>k=a\/L.Aj.ownBlock=some k) A (o.setCell ⟨a,2,none⟩ f) :=
  (q.fr.mono (fun _ _=>.inr)).trans (y.mono (fun _ _=>.inl))
 have z:∀ {v:Value} {n size:Nat} {V:List Value},A.ownsRow 0 148 size v n V->(o.setCell ⟨a,2,none⟩ f).ownsRow 0 148 size v n V:=fun B=>zb B s (fun k t e=>by
  rcases e with e|e
  .subst e;exact zd B c.CY (by decide) t
  .exact Zc c.ch B (by decide) e t)
 have x:(L.BB++[l]).length=k+1:=by simp[h.Ag]
 refine c.An s (r.set 2 f) (z c.dir) (z c.safe) ?_ x (by simp[h.cl]) ?_ h.rd h.rs ?_ h.nd h.ns ?_ ?_
 .exact zb q.own y (fun k t e=>by subst e;exact zd q.own r (by decide) t)
 .intro i i1 i2
  simp only[IM,Hq,Gt] at i1 i2;by_cases e:i<k
  .have g:(L.BB++[l])[i]=L.BB[i]'(by rw[h.Ag];exact e):=Hw _
   have m:(d++[b])[i]=d[i]'(by rw[h.cl];exact e):=Hw _;simp only[g,m];exact z (c.Bj i _ _)
  .have hi:i=k:=by have:=h.Ag;omega
   have g:(L.BB++[l])[i]=l:=by simp[h.Ag,hi]
   have m:(d++[b])[i]=b:=by simp[h.cl,hi]
   simp only[g,m];exact z (zb X Q (fun _ _=>id))
 .intro i i1 i2
  simp only[IM,Hq,Gt] at i1;by_cases e:i<k
  .have m:(d++[b])[i]=d[i]'(by rw[h.cl];exact e):=Hw _
   simp only[m];exact h.rc i _ i2
  .have hi:i=k:=by have:=h.cl;omega
   subst hi;have m:(d++[b])[i]=b:=by simp[h.cl]
   simp only[m];exact hr
 .intro j hj
  rcases q.at_ with e|e
  .exact h.nc j (by rw[<- e];exact hj)
  .rw[e] at hj;simp at hj;omega
 .intro i i1 j hj
  simp only[IM,Hq,Gt] at i1;by_cases e:i<k
  .have g:(L.BB++[l])[i]=L.BB[i]'(by rw[h.Ag];exact e):=Hw _
   simp only[g] at hj;exact h.yW i _ j hj
  .have hi:i=k:=by have:=h.Ag;omega
   have g:(L.BB++[l])[i]=l:=by simp[h.Ag,hi]
   simp only[g] at hj;exact Y j hj
theorem zV.whole{G w:World}{J I F:Nat}{M:DM}{m:List (Nat × Nat)}{S vm:Value}{B:Nat->Value}{L:DL}{K R:Dir}{s:List Dir}
 (h:zV G w J I F M M.dir M.safe M.Bj.length m S vm B L K R s)(x:∀ f,f∈M.ids->(M.file f).safe<=(M.file f).bytes.length):Own G w F {L with fV:=B} (M.BU m):=by
 have D:=h.rd.eq h.T.n1;have hs:=h.rs.eq h.T.n1;have C:s=M.Bj.map (Z6 m):=by
  refine Et (by rw[h.cl];simp) ?_;intro i r T;rw[Gf];exact(h.rc i r (by rw[<- h.cl];exact r)).eq h.T.n1
 have a:∀ g,g∈m.map Prod.snd->∃ p,p∈m/\p.2=g/\first m g=p.1:=by
  intro g l;obtain⟨p,b,rfl⟩:=Gc.1 l;exact⟨p,b,rfl,VJ h.T.n2 b⟩
 have j:∀ {d A:Dir},Rel m d A->∀ e,e∈A->e.2∈m.map Prod.snd:=fun Q e c=>by
  obtain⟨p,b,z⟩:=Q.mem e c;exact Gc.2 ⟨p,b,z⟩
 refine⟨?_,h.T.fr,?_⟩
 .exact {
   CY:=h.CY
   dir:=by
    have:=h.dir;rw[D] at this;exact this
   safe:=by
    have:=h.safe;rw[hs] at this;exact this
   ch:=by
    have e:(M.BU m).Bj.length=M.Bj.length:=by simp[DM.BU]
    rw[e];exact h.ch
   Ag:=by simp[DM.BU,h.Ag]
   Bj:=by
    have:=h.Bj;rw[C] at this;exact this
   files:=fun g l=>by
    obtain⟨p,b,rfl,c⟩:=a g l;have:=h.T.files p b;simp only[DM.BU,c];exact this
   rows:=fun g l=>by
    obtain⟨p,b,rfl,c⟩:=a g l;have:=h.T.rows p b;simp only[DM.BU,c];exact this
   sep:=fun f u g l y k v=>by
    obtain⟨p,b,rfl,_⟩:=a f u;obtain⟨q,N,rfl,_⟩:=a g l;exact h.T.sep p b q N y k v
   le:=fun g l=>by
    obtain⟨p,b,rfl,c⟩:=a g l;simp only[DM.BU,c];exact x _ (h.T.ids _ (GI b))
   BQ:=fun e c=>j h.rd e (by rw[D];exact c)
   AC:=fun e c=>j h.rs e (by rw[hs];exact c)
   AD:=fun d t e c=>by
    have o:d∈s:=by rw[C];exact t
    obtain⟨i,E,rfl⟩:=GD.1 o;exact j (h.rc i E (by rw[<- h.cl];exact E)) e c}
 .intro k v
  cases v using Foot.elim with
  | blk=>exact h.yP
  | dir e=>exact h.nd k e
  | safe e=>exact h.ns k e
  | ch e=>exact h.nc k e
  | chs i r e=>exact h.yW i r k e
  | file e =>
   obtain⟨p,b,rfl⟩:=Gc.1 e;exact h.T.nf p b
  | row f u e =>
   obtain⟨p,b,rfl,_⟩:=a f u;exact h.T.nr p b k e
def Oc(w:World)(M:DM)(e:Ending)(f:World):Prop :=
 ∃ b c a,e=.returned (.pointer (some ⟨b,0,none⟩))/\Own w f b c (M.BU a)/\(a.map Prod.fst).Nodup/\(a.map Prod.snd).Nodup/\(∀ p,p∈a->p.1∈M.ids/\w.heap.size<=p.2) /\
  (∀ e,e∈M.dir\/e∈M.safe\/(∃ d,d∈M.Bj/\e∈d)->∃ g,(e.2,g)∈a)
theorem Rel.xe{c:List (Nat × Nat)}{d a:Dir}(h:Rel c d a):∀ e,e∈d->∃ g,(e.2,g)∈c:=by
 intro e j;obtain⟨i,b,rfl⟩:=GD.1 j;have f:i<a.length:=by rw[h.len];exact b
 exact⟨_,(h.at_ i b f).2⟩
theorem zV.said{k w:World}{m l c:Nat}{M:DM}{j:List (Nat × Nat)}{u vm:Value}{r:Nat->Value}{L:DL}{q t:Dir}{o:List Dir}
 (h:zV k w m l c M M.dir M.safe M.Bj.length j u vm r L q t o)(b:∀ f,f∈M.ids->(M.file f).safe<=(M.file f).bytes.length):Oc k M (.returned (.pointer (some ⟨c,0,none⟩))) w:=by
 refine⟨c,_,j,rfl,h.whole b,h.T.n1,h.T.n2,fun p g=>⟨h.T.ids _ (GI g),h.T.nf p g⟩,?_⟩;intro e a;rcases a with a|a|⟨d,s,a⟩
 .exact h.rd.xe e a
 .exact h.rs.xe e a
 .obtain⟨i,hi,rfl⟩:=GD.1 s
  exact(h.rc i (by rw[h.cl];exact hi) hi).xe e a
theorem Twin.start{w W:World}{d c:Nat}(M:DM)(j:Blk W d [.slice none 0 0] 168)(l:Blk W c [.slice none 0 0] 168)(e:d≠c)(h:w.heap.size<=d)(g:w.heap.size<=c)(f:Fr Nil w W)(i:Nat->Value) :
 Twin w W d c M [] [] (.slice none 0 0) (.slice none 0 0) i where
 co:=j
 cm:=l
 ne:=e
 old:=Hc W 0 _ _
 made:=Hc W 0 _ _
 AZ:=fun k b=>by simp[Value.ownBlock] at b
 files:=fun p a=>by cases a
 rows:=fun p a=>by cases a
 sep:=fun p a=>by cases a
 n1:=Eb
 n2:=Eb
 ids:=fun f m=>by cases m
 nbo:=h
 nbm:=g
 no:=fun k b=>by simp[Value.ownBlock] at b
 nm:=fun k b=>by simp[Value.ownBlock] at b
 nf:=fun p a=>by cases a
 nr:=fun p a=>by cases a
 fr:=f
theorem zV.start{w W:World}{f e c:Nat}(M:DM)(T:Twin w W f e M [] [] (.slice none 0 0) (.slice none 0 0) DL.new.fV)(g:Blk W c (M.cells DL.new) 143)(d:w.heap.size<=c) :
 zV w W f e c M [] [] 0 [] (.slice none 0 0) (.slice none 0 0) DL.new.fV DL.new [] [] [] where
 T:=T
 CY:=g
 yP:=d
 dir:=Hc W 0 _ _
 safe:=Hc W 0 _ _
 ch:=Hc W 0 _ _
 Ag:=rfl
 cl:=rfl
 Bj:=fun i a=>absurd a (Gb _)
 rd:=⟨rfl,fun i a=>absurd a (Gb _)⟩
 rs:=⟨rfl,fun i a=>absurd a (Gb _)⟩
 rc:=fun i a=>absurd a (Gb _)
 nd:=fun j b=>by simp[DL.new,Value.ownBlock] at b
 ns:=fun j b=>by simp[DL.new,Value.ownBlock] at b
 nc:=fun j b=>by simp[DL.new,Value.ownBlock] at b
 yW:=fun i a=>absurd a (Gb _)
end Go.Proofs.YtkhnggkkiefcdaaGreatDoor
