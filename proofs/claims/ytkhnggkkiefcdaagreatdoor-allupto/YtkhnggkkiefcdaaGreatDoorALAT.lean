/- larder: joined texts -/
import Derived.Test.YtkhnggkkiefcdaaGreatDoorALAS
namespace Go.Proofs.YtkhnggkkiefcdaaGreatDoor
open Go.RowKit
set_option maxRecDepth 100000
variable{a c:List (Nat × Nat)}{d:List Dir}{w:World}{M:DM}{S:Dir}{k:Nat}{vm:Value}{L:DL}{fV:Nat->Value}
theorem S5:∀(l m:List Nat),l.Nodup->(∀ x,x∈l->x∈m)->l.length<=m.length
 | [],_,_,_=>bG
 | x::l,m,a,hs=>by
  have c:x∈m:=hs x (CY ..);rw[yv] at a;have:=S5 l (m.erase x) a.2 (fun y d=>by
   have b:=hs y (CT _ d);exact(List.mem_erase_of_ne (fun e:y=x=>a.1 (by rw[<- e];exact d))).2 b)
  have e:=List.length_erase_of_mem c;have g:0<m.length:=List.length_pos_of_mem c;simp only[Bh];omega
structure Rel(ps:List (Nat × Nat))(d d':Dir):Prop where
 len:d'.length=d.length
 qN:∀ i (h1:i<d.length) (h2:i<d'.length),d'[i].1=d[i].1/\(d[i].2,d'[i].2)∈ps
theorem Rel.tU{f:List (Nat × Nat)}{d b:Dir}(h:Rel f d b)(hs:∀ p,p∈f->p∈a):Rel a d b :=
 ⟨h.len,fun i c e=>⟨(h.qN i c e).1,hs _ (h.qN i c e).2⟩⟩
def second(a:List (Nat × Nat))(f:Nat):Nat:=((a.find? fun p=>p.1==f).map Prod.snd).getD 0
def first(b:List (Nat × Nat))(g:Nat):Nat:=((b.find? fun p=>p.2==g).map Prod.fst).getD 0
theorem T1:∀{a:List (Nat × Nat)}{f g:Nat},(a.map Prod.fst).Nodup->(f,g)∈a->second a f=g
 | [],_,_,_,h=>by cases h
 | p::a,f,g,b,h=>by
  rw[Bw,yv] at b;rcases BC.1 h with e|c
  .subst e;simp[second]
  .have hne:(p.1==f)=false:=by
    rw[Ay];intro e;exact b.1 (by rw[e];exact Bb.2 ⟨_,c,rfl⟩)
   have:=T1 b.2 c;unfold second at this |-;rw[List.find?_cons,hne];exact this
theorem Ug:∀{a:List (Nat × Nat)}{f g:Nat},(a.map Prod.snd).Nodup->(f,g)∈a->first a g=f
 | [],_,_,_,h=>by cases h
 | p::a,f,g,b,h=>by
  rw[Bw,yv] at b;rcases BC.1 h with e|c
  .subst e;simp[first]
  .have hne:(p.2==g)=false:=by
    rw[Ay];intro e;exact b.1 (by rw[e];exact Bb.2 ⟨_,c,rfl⟩)
   have:=Ug b.2 c;unfold first at this |-
   rw[List.find?_cons,hne];exact this
def Zh(a:List (Nat × Nat))(d:Dir):Dir:=d.map fun e=>(e.1,second a e.2)
theorem Rel.eq{d b:Dir}(k:(a.map Prod.fst).Nodup)(h:Rel a d b):b=Zh a d:=by
 refine xt (by rw[h.len];simp[Zh]) ?_;intro i c l;have j:i<d.length:=by rw[<- h.len];exact c
 obtain⟨e,f⟩:=h.qN i j c;have g:=T1 k f;simp only[Zh,BB,g];exact Prod.ext e rfl
theorem Rel.mem{d a:Dir}(h:Rel c d a):∀ e,e∈a->∃ p,p∈c/\p.2=e.2:=by
 intro e g;obtain⟨i,b,rfl⟩:=Bt.1 g;have f:i<d.length:=by rw[<- h.len];exact b
 exact⟨_,(h.qN i f b).2,rfl⟩
def DM.sG(M:DM)(a:List (Nat × Nat)):DM :=
 {M with uX:=Zh a M.uX,uZ:=Zh a M.uZ,tB:=M.tB.map (Zh a),uV:=fun g=>M.uV (first a g),tL:=a.map Prod.snd}
structure zX(w0 w:World)(bo bm nb:Nat)(M:DM)(D S:Dir)(k:Nat)(ps:List (Nat × Nat))(vo vm:Value)(fV:Nat->Value)(L:DL)(d1 s1:Dir)(c1:List Dir):Prop where
 T:Twin w0 w bo bm M (ps.map Prod.fst) ps vo vm fV
 td:Blk w nb (M.cells L) 143
 nN:w0.heap.size<=nb
 uX:w.ownsRow 0 148 2 L.sQ d1.length (flat d1)
 uZ:w.ownsRow 0 148 2 L.sI s1.length (flat s1)
 ch:w.ownsRow 0 145 1 L.qq k L.sK
 qh:L.sK.length=k
 cl:c1.length=k
 tB:∀ i (h1:i<L.sK.length) (h2:i<c1.length),w.ownsRow 0 148 2 L.sK[i] c1[i].length (flat c1[i])
 rd:Rel ps D d1
 rs:Rel ps S s1
 rc:∀ i (h1:i<c1.length) (h2:i<M.tB.length),Rel ps M.tB[i] c1[i]
 nd:∀ j,L.sQ.ownBlock=some j->w0.heap.size<=j
 ns:∀ j,L.sI.ownBlock=some j->w0.heap.size<=j
 nc:∀ j,L.qq.ownBlock=some j->w0.heap.size<=j
 me:∀ i (h1:i<L.sK.length) j,L.sK[i].ownBlock=some j->w0.heap.size<=j
theorem zX.tW{t s:World}{c b j:Nat}{D:Dir}{l:List (Nat × Nat)}{r:Value}{g:Nat->Value}{e o:Dir}
 (h:zX t w c b j M D S k l r vm g L e o d)(f:Fr Nil w s):zX t s c b j M D S k l r vm g L e o d :=
 {h with
  T:=h.T.tW f
  td:=h.td.fr f id
  uX:=ze h.uX f (fun _ _=>id)
  uZ:=ze h.uZ f (fun _ _=>id)
  ch:=ze h.ch f (fun _ _=>id)
  tB:=fun i u x=>ze (h.tB i u x) f (fun _ _=>id)}
theorem WI{r l:World}{d c:Nat}{p:List Nat}{q:List (Nat × Nat)}{i:Value}{o:Nat->Value}{e:TypeId}{size n:Nat}{v:Value}{m:List Value}(T:Twin r w d c M p q i vm o)
 (f:Fr (fun j=>j=d\/j=c\/i.ownBlock=some j\/vm.ownBlock=some j) w l)(a:w.ownsRow 0 e size v n m)(g:e≠168)(h:e≠146):l.ownsRow 0 e size v n m :=
 ze a f (fun k b e=>by
  rcases e with e|e|e|e
  .subst e;exact zh a T.co (wJ g) b
  .subst e;exact zh a T.cm (wJ g) b
  .exact Zf T.old a (wJ h) e b
  .exact Zf T.rG a (wJ h) e b)
theorem Qt{q l:World}{d b g:Nat}{o:List Nat}{p:List (Nat × Nat)}{k:Value}{m:Nat->Value}{e:TypeId}{c:List Value}(T:Twin q w d b M o p k vm m)
 (f:Fr (fun j=>j=d\/j=b\/k.ownBlock=some j\/vm.ownBlock=some j) w l)(a:Blk w g c e)(h:e≠168)(i:e≠146):Blk l g c e :=
 a.fr f (fun e=>by
  rcases e with e|e|e|e
  .exact a.ne T.co h e
  .exact a.ne T.cm h e
  .exact zh T.old a i e
  .exact zh T.rG a i e)
structure LQ(w0 w w':World)(bo bm nb:Nat)(M:DM)(D S:Dir)(k:Nat)(ps:List (Nat × Nat))(L:DL)(d1 s1:Dir)(c1:List Dir)(d:Dir)(l:Value):Prop where
 ex:∃ ps' vo' vm' fV' d',zX w0 w' bo bm nb M D S k ps' vo' vm' fV' L d1 s1 c1/\(∀ p,p∈ps->p∈ps')/\Rel ps' d d'/\w'.ownsRow 0 148 2 l d'.length (flat d') /\
  (∀ j,l.ownBlock=some j->w0.heap.size<=j)
 td:∀ (g:Nat) (c:List Value) (e:TypeId),Blk w g c e->e≠168->e≠146->Blk w' g c e
 row:∀ (v:Value) (n size:Nat) (xs:List Value) (e:TypeId),w.ownsRow 0 e size v n xs->e≠168->e≠146->w'.ownsRow 0 e size v n xs
theorem zX.other{s B:World}{b a x:Nat}{D:Dir}{g:List (Nat × Nat)}{A l:Value}{J:Nat->Value}{u y d:Dir}{t:List Dir}
 (h:zX s w b a x M D S k g A vm J L u y t)(o:Yv s w b a M g A vm d d.length l B):LQ s w B b a x M D S k g L u y t d l:=by
 obtain⟨m,r,q,c,G,C,hs,_,v,R,Q,_,_⟩:=o.ex;have X:=h.T.fr.size;refine⟨⟨m,r,q,c,G,?_,hs,⟨v,R⟩,by rw[v];exact Q,fun j N=>CO X (o.new j N)⟩,fun _ _ _ K=>Qt h.T o.fr K,fun _ _ _ _ _ T=>WI h.T o.fr T⟩;exact {h with
  T:=C
  td:=Qt h.T o.fr h.td O O
  uX:=WI h.T o.fr h.uX O O
  uZ:=WI h.T o.fr h.uZ O O
  ch:=WI h.T o.fr h.ch O O
  tB:=fun i e f=>WI h.T o.fr (h.tB i e f) O O
  rd:=h.rd.tU hs
  rs:=h.rs.tU hs
  rc:=fun i e f=>(h.rc i e f).tU hs}
theorem zX.qv{t q:World}{bo bm C:Nat}{D D' S':Dir}{B:Nat}{y:List (Nat × Nat)}{vo:Value}{b:DL}{d1 s1 d o:Dir}{c1 a:List Dir}
 (h:zX t w bo bm C M D S k y vo vm fV L d1 s1 c1)(f:Fr (fun j=>j=C\/L.qq.ownBlock=some j) w q)
 (K:Blk q C (M.cells b) 143)
 (R:q.ownsRow 0 148 2 b.sQ d.length (flat d))
 (A:q.ownsRow 0 148 2 b.sI o.length (flat o))
 (ch:q.ownsRow 0 145 1 b.qq B b.sK)
 (N:b.sK.length=B)
 (cl:a.length=B)
 (Q:∀ i (r:i<b.sK.length)(u:i<a.length),q.ownsRow 0 148 2 b.sK[i] a[i].length (flat a[i]))
 (rd:Rel y D' d)
 (rs:Rel y S' o)
 (rc:∀ i (r:i<a.length)(u:i<M.tB.length),Rel y M.tB[i] a[i])
 (nd:∀ j,b.sQ.ownBlock=some j->t.heap.size<=j)
 (ns:∀ j,b.sI.ownBlock=some j->t.heap.size<=j)
 (nc:∀ j,b.qq.ownBlock=some j->t.heap.size<=j)
 (a0:∀ i (r:i<b.sK.length) j,b.sK[i].ownBlock=some j->t.heap.size<=j):zX t q bo bm C M D' S' B y vo vm fV b d o a where
 T:=by
  have G:∀ {g:Nat} {c:List Value} {e:TypeId},Blk w g c e->e≠143->e≠145->Blk q g c e:=fun T r u=>T.fr f (fun e=>by
   rcases e with e|e
   .exact T.ne h.td r e
   .exact zh h.ch T u e)
  have J:∀ {v:Value} {n size:Nat} {xs:List Value} {e:TypeId},w.ownsRow 0 e size v n xs->e≠143->e≠145->q.ownsRow 0 e size v n xs:=fun hv r u=>ze hv f (fun k hk e=>by
   rcases e with e|e
   .subst e;exact zh hv h.td (wJ r) hk
   .exact Zf h.ch hv (wJ u) e hk)
  exact {h.T with
   co:=G h.T.co O O
   cm:=G h.T.cm O O
   old:=J h.T.old O O
   rG:=J h.T.rG O O
   tw:=fun p X=>G (h.T.tw p X) O O
   sq:=fun p X=>J (h.T.sq p X) O O
   fr:=Fr.tk h.T.fr f (fun j a1 hj=>by
    rcases hj with e|e
    .have:=h.nN;omega
    .have:=h.nc j e;omega)}
 td:=K
 nN:=h.nN
 uX:=R
 uZ:=A
 ch:=ch
 qh:=N
 cl:=cl
 tB:=Q
 rd:=rd
 rs:=rs
 rc:=rc
 nd:=nd
 ns:=ns
 nc:=nc
 me:=a0
theorem zX.oJ{q o:World}{y x c:Nat}{D t u:Dir}{d:List (Nat × Nat)}{C l m:Value}{A:Nat->Value}{J s1 b g:Dir}
 (h:zX q w y x c M D S 0 d C vm A L J s1 [])(f:Fr (fun j=>j=c) w o)(K:Blk o c (M.cells {L with sQ:=l,sI:=m}) 143)
 (a:w.ownsRow 0 148 2 l b.length (flat b))(s:w.ownsRow 0 148 2 m g.length (flat g))(T:Rel d t b)(X:Rel d u g)
 (Q:∀ j,l.ownBlock=some j->q.heap.size<=j)(R:∀ j,m.ownBlock=some j->q.heap.size<=j) :
 zX q o y x c M t u 0 d C vm A {L with sQ:=l,sI:=m} b g []:=by
 have r:∀ {v:Value} {n size:Nat} {G:List Value} {e:TypeId},w.ownsRow 0 e size v n G->e≠143->o.ownsRow 0 e size v n G:=fun B a=>ze B f (fun k N e=>by
  subst e;exact zh B h.td (wJ a) N)
 refine h.qv (f.mono (fun _ _=>.inl)) K (r a O) (r s O) (r h.ch O) h.qh rfl (fun i a s=>absurd s (BF _)) T X (fun i a=>absurd a (BF _)) Q R h.nc h.me
theorem zX.push{N B o:World}{R Q a:Nat}{D:Dir}{J:List (Nat × Nat)}{vo l f:Value}{T K b:Dir}(t:k<M.tB.length)
 (h:zX N w R Q a M D S k J vo vm fV L T K d)(X:Fr Nil w B)(q:App B L.qq 145 1 (k+1) (L.sK++[l]) f o)
 (hl:w.ownsRow 0 148 2 l b.length (flat b))(hr:Rel J M.tB[k] b)(hn:∀ j,l.ownBlock=some j->N.heap.size<=j) :
 zX N (o.setCell (Y a 2) f) R Q a M D S (k+1) J vo vm fV {L with qq:=f,sK:=L.sK++[l]} T K (d++[b]):=by
 have c:=h.tW X;have K:=c.T.fr.size;have r:Blk o a (M.cells L) 143:=c.td.fr q.fr (zh c.ch c.td O);have y:Fr (fun k=>k=a) o (o.setCell (Y a 2) f):=Fr.set (S:=fun k=>k=a) (p:=⟨a,2,none⟩) (U _ _) (fun _=>rfl) f;have s:Fr (fun k=>k=a\/L.qq.ownBlock=some k) B (o.setCell (Y a 2) f) :=
  (q.fr.mono (fun _ _=>.inr)).trans (y.mono (fun _ _=>.inl))
 have A:∀ {v:Value} {n size:Nat} {xs:List Value},B.ownsRow 0 148 size v n xs->(o.setCell (Y a 2) f).ownsRow 0 148 size v n xs:=fun C=>ze C s (fun k t e=>by
  rcases e with e|e
  .subst e;exact zh C c.td O t
  .exact Zf c.ch C O e t)
 have x:(L.sK++[l]).length=k+1:=by simp[h.qh]
 refine c.qv s (r.set 2 f) (A c.uX) (A c.uZ) ?_ x (by simp[h.cl]) ?_ h.rd h.rs ?_ h.nd h.ns ?_ ?_
 .exact ze q.sL y (fun k t e=>by subst e;exact zh q.sL r O t)
 .intro i i1 i2
  simp only[CN,Bh,BU] at i1 i2;by_cases e:i<k
  .have g:(L.sK++[l])[i]=L.sK[i]'(by rw[h.qh];exact e):=BE _
   have m:(d++[b])[i]=d[i]'(by rw[h.cl];exact e):=BE _;simp only[g,m];exact A (c.tB i _ _)
  .have hi:i=k:=by have:=h.qh;omega
   have g:(L.sK++[l])[i]=l:=by simp[h.qh,hi]
   have m:(d++[b])[i]=b:=by simp[h.cl,hi]
   simp only[g,m];exact A (ze hl X (fun _ _=>id))
 .intro i i1 i2
  simp only[CN,Bh,BU] at i1;by_cases e:i<k
  .have m:(d++[b])[i]=d[i]'(by rw[h.cl];exact e):=BE _
   simp only[m];exact h.rc i _ i2
  .have hi:i=k:=by have:=h.cl;omega
   subst hi;have m:(d++[b])[i]=b:=by simp[h.cl]
   simp only[m];exact hr
 .intro j hj
  rcases q.qN with e|e
  .exact h.nc j (by rw[<- e];exact hj)
  .rw[e] at hj;simp at hj;omega
 .intro i i1 j hj
  simp only[CN,Bh,BU] at i1;by_cases e:i<k
  .have g:(L.sK++[l])[i]=L.sK[i]'(by rw[h.qh];exact e):=BE _
   simp only[g] at hj;exact h.me i _ j hj
  .have hi:i=k:=by have:=h.qh;omega
   have g:(L.sK++[l])[i]=l:=by simp[h.qh,hi]
   simp only[g] at hj;exact hn j hj
theorem zX.whole{N:World}{R Q K:Nat}{m:List (Nat × Nat)}{vo:Value}{C:Nat->Value}{s1:Dir}{s:List Dir}
 (h:zX N w R Q K M M.uX M.uZ M.tB.length m vo vm C L S s1 s)(x:∀ f,f∈M.tL->(M.uV f).uZ<=(M.uV f).bytes.length):Own N w K {L with fV:=C} (M.sG m):=by
 have G:=h.rd.eq h.T.n1;have hs:=h.rs.eq h.T.n1;have D:s=M.tB.map (Zh m):=by
  refine xt (by rw[h.cl];simp) ?_;intro i r h2;rw[BB];exact(h.rc i r (by rw[<- h.cl];exact r)).eq h.T.n1
 have a:∀ g,g∈m.map Prod.snd->∃ p,p∈m/\p.2=g/\first m g=p.1:=by
  intro g l;obtain⟨p,b,rfl⟩:=Bb.1 l;exact⟨p,b,rfl,Ug h.T.n2 b⟩
 have j:∀ {d B:Dir},Rel m d B->∀ e,e∈B->e.2∈m.map Prod.snd:=fun X e c=>by
  obtain⟨p,b,A⟩:=X.mem e c;exact Bb.2 ⟨p,b,A⟩
 refine⟨?_,h.T.fr,?_⟩
 .exact {
   td:=h.td
   uX:=by
    have:=h.uX;rw[G] at this;exact this
   uZ:=by
    have:=h.uZ;rw[hs] at this;exact this
   ch:=by
    have e:(M.sG m).tB.length=M.tB.length:=by simp[DM.sG]
    rw[e];exact h.ch
   qh:=by simp[DM.sG,h.qh]
   tB:=by
    have:=h.tB;rw[D] at this;exact this
   tw:=fun g l=>by
    obtain⟨p,b,rfl,c⟩:=a g l;have:=h.T.tw p b;simp only[DM.sG,c];exact this
   sq:=fun g l=>by
    obtain⟨p,b,rfl,c⟩:=a g l;have:=h.T.sq p b;simp only[DM.sG,c];exact this
   rF:=fun f u g l y k v=>by
    obtain⟨p,b,rfl,_⟩:=a f u;obtain⟨q,T,rfl,_⟩:=a g l;exact h.T.rF p b q T y k v
   le:=fun g l=>by
    obtain⟨p,b,rfl,c⟩:=a g l;simp only[DM.sG,c];exact x _ (h.T.tL _ (BW b))
   rA:=fun e c=>j h.rd e (by rw[G];exact c)
   qZ:=fun e c=>j h.rs e (by rw[hs];exact c)
   qW:=fun d t e c=>by
    have o:d∈s:=by rw[D];exact t
    obtain⟨i,J,rfl⟩:=Bt.1 o;exact j (h.rc i J (by rw[<- h.cl];exact J)) e c}
 .intro k v
  cases v using Foot.elim with
  | blk=>exact h.nN
  | dir e=>exact h.nd k e
  | safe e=>exact h.ns k e
  | ch e=>exact h.nc k e
  | chs i r e=>exact h.me i r k e
  | file e =>
   obtain⟨p,b,rfl⟩:=Bb.1 e;exact h.T.nf p b
  | row f u e =>
   obtain⟨p,b,rfl,_⟩:=a f u;exact h.T.nr p b k e
def OK(w:World)(M:DM)(e:Ending)(f:World):Prop :=
 ∃ b c a,e=.returned (E b 0)/\Own w f b c (M.sG a)/\(a.map Prod.fst).Nodup/\(a.map Prod.snd).Nodup/\(∀ p,p∈a->p.1∈M.tL/\w.heap.size<=p.2) /\
  (∀ e,e∈M.uX\/e∈M.uZ\/(∃ d,d∈M.tB/\e∈d)->∃ g,(e.2,g)∈a)
theorem Rel.mq{d a:Dir}(h:Rel c d a):∀ e,e∈d->∃ g,(e.2,g)∈c:=by
 intro e j;obtain⟨i,b,rfl⟩:=Bt.1 j;have f:i<a.length:=by rw[h.len];exact b
 exact⟨_,(h.qN i b f).2⟩
theorem zX.my{k:World}{m l c:Nat}{j:List (Nat × Nat)}{u:Value}{r:Nat->Value}{q t:Dir}{o:List Dir}
 (h:zX k w m l c M M.uX M.uZ M.tB.length j u vm r L q t o)(b:∀ f,f∈M.tL->(M.uV f).uZ<=(M.uV f).bytes.length):OK k M (.returned (E c 0)) w:=by
 refine⟨c,_,j,rfl,h.whole b,h.T.n1,h.T.n2,fun p g=>⟨h.T.tL _ (BW g),h.T.nf p g⟩,?_⟩;intro e a;rcases a with a|a|⟨d,s,a⟩
 .exact h.rd.mq e a
 .exact h.rs.mq e a
 .obtain⟨i,hi,rfl⟩:=Bt.1 s
  exact(h.rc i (by rw[h.cl];exact hi) hi).mq e a
theorem Twin.start{W:World}{d c:Nat}(M:DM)(j:Blk W d [.slice none 0 0] 168)(l:Blk W c [.slice none 0 0] 168)(e:d≠c)(h:w.heap.size<=d)(g:w.heap.size<=c)(f:Fr Nil w W)(i:Nat->Value) :
 Twin w W d c M [] [] (.slice none 0 0) (.slice none 0 0) i where
 co:=j
 cm:=l
 ne:=e
 old:=Bf W 0 _ _
 rG:=Bf W 0 _ _
 pN:=fun k b=>by simp[Value.ownBlock] at b
 tw:=fun p a=>by cases a
 sq:=fun p a=>by cases a
 rF:=fun p a=>by cases a
 n1:=xe
 n2:=xe
 tL:=fun f m=>by cases m
 nbo:=h
 nbm:=g
 no:=fun k b=>by simp[Value.ownBlock] at b
 nm:=fun k b=>by simp[Value.ownBlock] at b
 nf:=fun p a=>by cases a
 nr:=fun p a=>by cases a
 fr:=f
theorem zX.start{W:World}{f e c:Nat}(M:DM)(T:Twin w W f e M [] [] (.slice none 0 0) (.slice none 0 0) DL.new.fV)(g:Blk W c (M.cells DL.new) 143)(d:w.heap.size<=c) :
 zX w W f e c M [] [] 0 [] (.slice none 0 0) (.slice none 0 0) DL.new.fV DL.new [] [] [] where
 T:=T
 td:=g
 nN:=d
 uX:=Bf W 0 _ _
 uZ:=Bf W 0 _ _
 ch:=Bf W 0 _ _
 qh:=rfl
 cl:=rfl
 tB:=fun i a=>absurd a (BF _)
 rd:=⟨rfl,fun i a=>absurd a (BF _)⟩
 rs:=⟨rfl,fun i a=>absurd a (BF _)⟩
 rc:=fun i a=>absurd a (BF _)
 nd:=fun j b=>by simp[DL.new,Value.ownBlock] at b
 ns:=fun j b=>by simp[DL.new,Value.ownBlock] at b
 nc:=fun j b=>by simp[DL.new,Value.ownBlock] at b
 me:=fun i a=>absurd a (BF _)
end Go.Proofs.YtkhnggkkiefcdaaGreatDoor
