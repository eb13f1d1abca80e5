/- larder: joined texts -/
import Derived.Test.YtkhnggkkiefcdaaGreatDoorALAS
namespace Go.Proofs.YtkhnggkkiefcdaaGreatDoor
open Go.RowKit
set_option maxRecDepth 100000
variable{a c:List (Nat × Nat)}{d:List Dir}{w:World}{M:DM}{S:Dir}{k:Nat}{vm:Value}{L:DL}{fV:Nat->Value}
theorem S5:∀(l m:List Nat),l.Nodup->(∀ x,x∈l->x∈m)->l.length<=m.length
 | [],_,_,_=>bG
 | x::l,m,a,hs=>by
  have c:x∈m:=hs x (Ba ..);rw[yx] at a;have:=S5 l (m.erase x) a.2 (fun y d=>by
   have b:=hs y (CV _ d);exact(List.mem_erase_of_ne (fun e:y=x=>a.1 (by rw[<- e];exact d))).2 b)
  have e:=List.length_erase_of_mem c;have g:0<m.length:=List.length_pos_of_mem c;simp only[Bj];omega
structure Rel(ps:List (Nat × Nat))(d d':Dir):Prop where
 len:d'.length=d.length
 qP:∀ i (h1:i<d.length) (h2:i<d'.length),d'[i].1=d[i].1/\(d[i].2,d'[i].2)∈ps
theorem Rel.tV{f:List (Nat × Nat)}{d b:Dir}(h:Rel f d b)(hs:∀ p,p∈f->p∈a):Rel a d b :=
 ⟨h.len,fun i c e=>⟨(h.qP i c e).1,hs _ (h.qP i c e).2⟩⟩
def second(a:List (Nat × Nat))(f:Nat):Nat:=((a.find? fun p=>p.1==f).map Prod.snd).getD 0
def first(b:List (Nat × Nat))(g:Nat):Nat:=((b.find? fun p=>p.2==g).map Prod.fst).getD 0
theorem T1:∀{a:List (Nat × Nat)}{f g:Nat},(a.map Prod.fst).Nodup->(f,g)∈a->second a f=g
 | [],_,_,_,h=>by cases h
 | p::a,f,g,b,h=>by
  rw[Bz,yx] at b;rcases BE.1 h with e|c
  .subst e;simp[second]
  .have hne:(p.1==f)=false:=by
    rw[AA];intro e;exact b.1 (by rw[e];exact Be.2 ⟨_,c,rfl⟩)
   have:=T1 b.2 c;unfold second at this |-;rw[List.find?_cons,hne];exact this
theorem Ug:∀{a:List (Nat × Nat)}{f g:Nat},(a.map Prod.snd).Nodup->(f,g)∈a->first a g=f
 | [],_,_,_,h=>by cases h
 | p::a,f,g,b,h=>by
  rw[Bz,yx] at b;rcases BE.1 h with e|c
  .subst e;simp[first]
  .have hne:(p.2==g)=false:=by
    rw[AA];intro e;exact b.1 (by rw[e];exact Be.2 ⟨_,c,rfl⟩)
   have:=Ug b.2 c;unfold first at this |-
   rw[List.find?_cons,hne];exact this
def Zh(a:List (Nat × Nat))(d:Dir):Dir:=d.map fun e=>(e.1,second a e.2)
theorem Rel.eq{d b:Dir}(k:(a.map Prod.fst).Nodup)(h:Rel a d b):b=Zh a d:=by
 refine xw (by rw[h.len];simp[Zh]) ?_;intro i c l;have j:i<d.length:=by rw[<- h.len];exact c
 obtain⟨e,f⟩:=h.qP i j c;have g:=T1 k f;simp only[Zh,BD,g];exact Prod.ext e rfl
theorem Rel.mem{d a:Dir}(h:Rel c d a):∀ e,e∈a->∃ p,p∈c/\p.2=e.2:=by
 intro e g;obtain⟨i,b,rfl⟩:=Bv.1 g;have f:i<d.length:=by rw[<- h.len];exact b
 exact⟨_,(h.qP i f b).2,rfl⟩
def DM.sI(M:DM)(a:List (Nat × Nat)):DM :=
 {M with uZ:=Zh a M.uZ,tf:=Zh a M.tf,tE:=M.tE.map (Zh a),uX:=fun g=>M.uX (first a g),tP:=a.map Prod.snd}
structure zX(w0 w:World)(bo bm nb:Nat)(M:DM)(D S:Dir)(k:Nat)(ps:List (Nat × Nat))(vo vm:Value)(fV:Nat->Value)(L:DL)(d1 s1:Dir)(c1:List Dir):Prop where
 T:Twin w0 w bo bm M (ps.map Prod.fst) ps vo vm fV
 th:Blk w nb (M.cells L) 143
 nS:w0.heap.size<=nb
 uZ:w.ownsRow 0 148 2 L.sS d1.length (flat d1)
 tf:w.ownsRow 0 148 2 L.sK s1.length (flat s1)
 ch:w.ownsRow 0 145 1 L.qp k L.sM
 qk:L.sM.length=k
 cl:c1.length=k
 tE:∀ i (h1:i<L.sM.length) (h2:i<c1.length),w.ownsRow 0 148 2 L.sM[i] c1[i].length (flat c1[i])
 rd:Rel ps D d1
 rs:Rel ps S s1
 rc:∀ i (h1:i<c1.length) (h2:i<M.tE.length),Rel ps M.tE[i] c1[i]
 nd:∀ j,L.sS.ownBlock=some j->w0.heap.size<=j
 ns:∀ j,L.sK.ownBlock=some j->w0.heap.size<=j
 nc:∀ j,L.qp.ownBlock=some j->w0.heap.size<=j
 nP:∀ i (h1:i<L.sM.length) j,L.sM[i].ownBlock=some j->w0.heap.size<=j
theorem zX.tY{t s:World}{c b j:Nat}{D:Dir}{l:List (Nat × Nat)}{r:Value}{g:Nat->Value}{e o:Dir}
 (h:zX t w c b j M D S k l r vm g L e o d)(f:Fr Nil w s):zX t s c b j M D S k l r vm g L e o d :=
 {h with
  T:=h.T.tY f
  th:=h.th.fr f id
  uZ:=ze h.uZ f (fun _ _=>id)
  tf:=ze h.tf f (fun _ _=>id)
  ch:=ze h.ch f (fun _ _=>id)
  tE:=fun i u x=>ze (h.tE i u x) f (fun _ _=>id)}
theorem WI{r l:World}{d c:Nat}{p:List Nat}{q:List (Nat × Nat)}{i:Value}{o:Nat->Value}{e:TypeId}{size n:Nat}{v:Value}{m:List Value}(T:Twin r w d c M p q i vm o)
 (f:Fr (fun j=>j=d\/j=c\/i.ownBlock=some j\/vm.ownBlock=some j) w l)(a:w.ownsRow 0 e size v n m)(g:e≠168)(h:e≠146):l.ownsRow 0 e size v n m :=
 ze a f (fun k b e=>by
  rcases e with e|e|e|e
  .subst e;exact zh a T.co (wL g) b
  .subst e;exact zh a T.cm (wL g) b
  .exact Zf T.old a (wL h) e b
  .exact Zf T.rI a (wL h) e b)
theorem Qu{q l:World}{d b g:Nat}{o:List Nat}{p:List (Nat × Nat)}{k:Value}{m:Nat->Value}{e:TypeId}{c:List Value}(T:Twin q w d b M o p k vm m)
 (f:Fr (fun j=>j=d\/j=b\/k.ownBlock=some j\/vm.ownBlock=some j) w l)(a:Blk w g c e)(h:e≠168)(i:e≠146):Blk l g c e :=
 a.fr f (fun e=>by
  rcases e with e|e|e|e
  .exact a.ne T.co h e
  .exact a.ne T.cm h e
  .exact zh T.old a i e
  .exact zh T.rI a i e)
structure LT(w0 w w':World)(bo bm nb:Nat)(M:DM)(D S:Dir)(k:Nat)(ps:List (Nat × Nat))(L:DL)(d1 s1:Dir)(c1:List Dir)(d:Dir)(l:Value):Prop where
 ex:∃ ps' vo' vm' fV' d',zX w0 w' bo bm nb M D S k ps' vo' vm' fV' L d1 s1 c1/\(∀ p,p∈ps->p∈ps')/\Rel ps' d d'/\w'.ownsRow 0 148 2 l d'.length (flat d') /\
  (∀ j,l.ownBlock=some j->w0.heap.size<=j)
 th:∀ (g:Nat) (c:List Value) (e:TypeId),Blk w g c e->e≠168->e≠146->Blk w' g c e
 row:∀ (v:Value) (n size:Nat) (xs:List Value) (e:TypeId),w.ownsRow 0 e size v n xs->e≠168->e≠146->w'.ownsRow 0 e size v n xs
theorem zX.other{s B:World}{b a x:Nat}{D:Dir}{g:List (Nat × Nat)}{A l:Value}{J:Nat->Value}{u y d:Dir}{t:List Dir}
 (h:zX s w b a x M D S k g A vm J L u y t)(o:Yv s w b a M g A vm d d.length l B):LT s w B b a x M D S k g L u y t d l:=by
 obtain⟨m,r,q,c,G,C,hs,_,v,R,Q,_,_⟩:=o.ex;have X:=h.T.fr.size;refine⟨⟨m,r,q,c,G,?_,hs,⟨v,R⟩,by rw[v];exact Q,fun j N=>CQ X (o.new j N)⟩,fun _ _ _ K=>Qu h.T o.fr K,fun _ _ _ _ _ T=>WI h.T o.fr T⟩;exact {h with
  T:=C
  th:=Qu h.T o.fr h.th O O
  uZ:=WI h.T o.fr h.uZ O O
  tf:=WI h.T o.fr h.tf O O
  ch:=WI h.T o.fr h.ch O O
  tE:=fun i e f=>WI h.T o.fr (h.tE i e f) O O
  rd:=h.rd.tV hs
  rs:=h.rs.tV hs
  rc:=fun i e f=>(h.rc i e f).tV hs}
theorem zX.qx{t q:World}{bo bm C:Nat}{D D' S':Dir}{B:Nat}{y:List (Nat × Nat)}{vo:Value}{b:DL}{d1 s1 d o:Dir}{c1 a:List Dir}
 (h:zX t w bo bm C M D S k y vo vm fV L d1 s1 c1)(f:Fr (fun j=>j=C\/L.qp.ownBlock=some j) w q)
 (K:Blk q C (M.cells b) 143)
 (R:q.ownsRow 0 148 2 b.sS d.length (flat d))
 (A:q.ownsRow 0 148 2 b.sK o.length (flat o))
 (ch:q.ownsRow 0 145 1 b.qp B b.sM)
 (N:b.sM.length=B)
 (cl:a.length=B)
 (Q:∀ i (r:i<b.sM.length)(u:i<a.length),q.ownsRow 0 148 2 b.sM[i] a[i].length (flat a[i]))
 (rd:Rel y D' d)
 (rs:Rel y S' o)
 (rc:∀ i (r:i<a.length)(u:i<M.tE.length),Rel y M.tE[i] a[i])
 (nd:∀ j,b.sS.ownBlock=some j->t.heap.size<=j)
 (ns:∀ j,b.sK.ownBlock=some j->t.heap.size<=j)
 (nc:∀ j,b.qp.ownBlock=some j->t.heap.size<=j)
 (a0:∀ i (r:i<b.sM.length) j,b.sM[i].ownBlock=some j->t.heap.size<=j):zX t q bo bm C M D' S' B y vo vm fV b d o a where
 T:=by
  have G:∀ {g:Nat} {c:List Value} {e:TypeId},Blk w g c e->e≠143->e≠145->Blk q g c e:=fun T r u=>T.fr f (fun e=>by
   rcases e with e|e
   .exact T.ne h.th r e
   .exact zh h.ch T u e)
  have J:∀ {v:Value} {n size:Nat} {xs:List Value} {e:TypeId},w.ownsRow 0 e size v n xs->e≠143->e≠145->q.ownsRow 0 e size v n xs:=fun hv r u=>ze hv f (fun k hk e=>by
   rcases e with e|e
   .subst e;exact zh hv h.th (wL r) hk
   .exact Zf h.ch hv (wL u) e hk)
  exact {h.T with
   co:=G h.T.co O O
   cm:=G h.T.cm O O
   old:=J h.T.old O O
   rI:=J h.T.rI O O
   tB:=fun p X=>G (h.T.tB p X) O O
   sw:=fun p X=>J (h.T.sw p X) O O
   fr:=Fr.tq h.T.fr f (fun j a1 hj=>by
    rcases hj with e|e
    .have:=h.nS;omega
    .have:=h.nc j e;omega)}
 th:=K
 nS:=h.nS
 uZ:=R
 tf:=A
 ch:=ch
 qk:=N
 cl:=cl
 tE:=Q
 rd:=rd
 rs:=rs
 rc:=rc
 nd:=nd
 ns:=ns
 nc:=nc
 nP:=a0
theorem zX.oA{q o:World}{y x c:Nat}{D t u:Dir}{d:List (Nat × Nat)}{C l m:Value}{A:Nat->Value}{J s1 b g:Dir}
 (h:zX q w y x c M D S 0 d C vm A L J s1 [])(f:Fr (fun j=>j=c) w o)(K:Blk o c (M.cells {L with sS:=l,sK:=m}) 143)
 (a:w.ownsRow 0 148 2 l b.length (flat b))(s:w.ownsRow 0 148 2 m g.length (flat g))(T:Rel d t b)(X:Rel d u g)
 (Q:∀ j,l.ownBlock=some j->q.heap.size<=j)(R:∀ j,m.ownBlock=some j->q.heap.size<=j) :
 zX q o y x c M t u 0 d C vm A {L with sS:=l,sK:=m} b g []:=by
 have r:∀ {v:Value} {n size:Nat} {G:List Value} {e:TypeId},w.ownsRow 0 e size v n G->e≠143->o.ownsRow 0 e size v n G:=fun B a=>ze B f (fun k N e=>by
  subst e;exact zh B h.th (wL a) N)
 refine h.qx (f.mono (fun _ _=>.inl)) K (r a O) (r s O) (r h.ch O) h.qk rfl (fun i a s=>absurd s (BH _)) T X (fun i a=>absurd a (BH _)) Q R h.nc h.nP
theorem zX.push{N B o:World}{R Q a:Nat}{D:Dir}{J:List (Nat × Nat)}{vo l f:Value}{T K b:Dir}(t:k<M.tE.length)
 (h:zX N w R Q a M D S k J vo vm fV L T K d)(X:Fr Nil w B)(q:App B L.qp 145 1 (k+1) (L.sM++[l]) f o)
 (hl:w.ownsRow 0 148 2 l b.length (flat b))(hr:Rel J M.tE[k] b)(hn:∀ j,l.ownBlock=some j->N.heap.size<=j) :
 zX N (o.setCell (Y a 2) f) R Q a M D S (k+1) J vo vm fV {L with qp:=f,sM:=L.sM++[l]} T K (d++[b]):=by
 have c:=h.tY X;have K:=c.T.fr.size;have r:Blk o a (M.cells L) 143:=c.th.fr q.fr (zh c.ch c.th O);have y:Fr (fun k=>k=a) o (o.setCell (Y a 2) f):=Fr.set (S:=fun k=>k=a) (p:=⟨a,2,none⟩) (U _ _) (fun _=>rfl) f;have s:Fr (fun k=>k=a\/L.qp.ownBlock=some k) B (o.setCell (Y a 2) f) :=
  (q.fr.mono (fun _ _=>.inr)).trans (y.mono (fun _ _=>.inl))
 have A:∀ {v:Value} {n size:Nat} {xs:List Value},B.ownsRow 0 148 size v n xs->(o.setCell (Y a 2) f).ownsRow 0 148 size v n xs:=fun C=>ze C s (fun k t e=>by
  rcases e with e|e
  .subst e;exact zh C c.th O t
  .exact Zf c.ch C O e t)
 have x:(L.sM++[l]).length=k+1:=by simp[h.qk]
 refine c.qx s (r.set 2 f) (A c.uZ) (A c.tf) ?_ x (by simp[h.cl]) ?_ h.rd h.rs ?_ h.nd h.ns ?_ ?_
 .exact ze q.sN y (fun k t e=>by subst e;exact zh q.sN r O t)
 .intro i i1 i2
  simp only[FS,Bj,BW] at i1 i2;by_cases e:i<k
  .have g:(L.sM++[l])[i]=L.sM[i]'(by rw[h.qk];exact e):=BG _
   have m:(d++[b])[i]=d[i]'(by rw[h.cl];exact e):=BG _;simp only[g,m];exact A (c.tE i _ _)
  .have hi:i=k:=by have:=h.qk;omega
   have g:(L.sM++[l])[i]=l:=by simp[h.qk,hi]
   have m:(d++[b])[i]=b:=by simp[h.cl,hi]
   simp only[g,m];exact A (ze hl X (fun _ _=>id))
 .intro i i1 i2
  simp only[FS,Bj,BW] at i1;by_cases e:i<k
  .have m:(d++[b])[i]=d[i]'(by rw[h.cl];exact e):=BG _
   simp only[m];exact h.rc i _ i2
  .have hi:i=k:=by have:=h.cl;omega
   subst hi;have m:(d++[b])[i]=b:=by simp[h.cl]
   simp only[m];exact hr
 .intro j hj
  rcases q.qP with e|e
  .exact h.nc j (by rw[<- e];exact hj)
  .rw[e] at hj;simp at hj;omega
 .intro i i1 j hj
  simp only[FS,Bj,BW] at i1;by_cases e:i<k
  .have g:(L.sM++[l])[i]=L.sM[i]'(by rw[h.qk];exact e):=BG _
   simp only[g] at hj;exact h.nP i _ j hj
  .have hi:i=k:=by have:=h.qk;omega
   have g:(L.sM++[l])[i]=l:=by simp[h.qk,hi]
   simp only[g] at hj;exact hn j hj
theorem zX.whole{N:World}{R Q K:Nat}{m:List (Nat × Nat)}{vo:Value}{C:Nat->Value}{s1:Dir}{s:List Dir}
 (h:zX N w R Q K M M.uZ M.tf M.tE.length m vo vm C L S s1 s)(x:∀ f,f∈M.tP->(M.uX f).tf<=(M.uX f).bytes.length):Own N w K {L with fV:=C} (M.sI m):=by
 have G:=h.rd.eq h.T.n1;have hs:=h.rs.eq h.T.n1;have D:s=M.tE.map (Zh m):=by
  refine xw (by rw[h.cl];simp) ?_;intro i r h2;rw[BD];exact(h.rc i r (by rw[<- h.cl];exact r)).eq h.T.n1
 have a:∀ g,g∈m.map Prod.snd->∃ p,p∈m/\p.2=g/\first m g=p.1:=by
  intro g l;obtain⟨p,b,rfl⟩:=Be.1 l;exact⟨p,b,rfl,Ug h.T.n2 b⟩
 have j:∀ {d B:Dir},Rel m d B->∀ e,e∈B->e.2∈m.map Prod.snd:=fun X e c=>by
  obtain⟨p,b,A⟩:=X.mem e c;exact Be.2 ⟨p,b,A⟩
 refine⟨?_,h.T.fr,?_⟩
 .exact {
   th:=h.th
   uZ:=by
    have:=h.uZ;rw[G] at this;exact this
   tf:=by
    have:=h.tf;rw[hs] at this;exact this
   ch:=by
    have e:(M.sI m).tE.length=M.tE.length:=by simp[DM.sI]
    rw[e];exact h.ch
   qk:=by simp[DM.sI,h.qk]
   tE:=by
    have:=h.tE;rw[D] at this;exact this
   tB:=fun g l=>by
    obtain⟨p,b,rfl,c⟩:=a g l;have:=h.T.tB p b;simp only[DM.sI,c];exact this
   sw:=fun g l=>by
    obtain⟨p,b,rfl,c⟩:=a g l;have:=h.T.sw p b;simp only[DM.sI,c];exact this
   rH:=fun f u g l y k v=>by
    obtain⟨p,b,rfl,_⟩:=a f u;obtain⟨q,T,rfl,_⟩:=a g l;exact h.T.rH p b q T y k v
   le:=fun g l=>by
    obtain⟨p,b,rfl,c⟩:=a g l;simp only[DM.sI,c];exact x _ (h.T.tP _ (BZ b))
   rC:=fun e c=>j h.rd e (by rw[G];exact c)
   pf:=fun e c=>j h.rs e (by rw[hs];exact c)
   qZ:=fun d t e c=>by
    have o:d∈s:=by rw[D];exact t
    obtain⟨i,J,rfl⟩:=Bv.1 o;exact j (h.rc i J (by rw[<- h.cl];exact J)) e c}
 .intro k v
  cases v using Foot.elim with
  | blk=>exact h.nS
  | dir e=>exact h.nd k e
  | safe e=>exact h.ns k e
  | ch e=>exact h.nc k e
  | chs i r e=>exact h.nP i r k e
  | file e =>
   obtain⟨p,b,rfl⟩:=Be.1 e;exact h.T.nf p b
  | row f u e =>
   obtain⟨p,b,rfl,_⟩:=a f u;exact h.T.nr p b k e
def OK(w:World)(M:DM)(e:Ending)(f:World):Prop :=
 ∃ b c a,e=.returned (E b 0)/\Own w f b c (M.sI a)/\(a.map Prod.fst).Nodup/\(a.map Prod.snd).Nodup/\(∀ p,p∈a->p.1∈M.tP/\w.heap.size<=p.2) /\
  (∀ e,e∈M.uZ\/e∈M.tf\/(∃ d,d∈M.tE/\e∈d)->∃ g,(e.2,g)∈a)
theorem Rel.mq{d a:Dir}(h:Rel c d a):∀ e,e∈d->∃ g,(e.2,g)∈c:=by
 intro e j;obtain⟨i,b,rfl⟩:=Bv.1 j;have f:i<a.length:=by rw[h.len];exact b
 exact⟨_,(h.qP i b f).2⟩
theorem zX.mB{k:World}{m l c:Nat}{j:List (Nat × Nat)}{u:Value}{r:Nat->Value}{q t:Dir}{o:List Dir}
 (h:zX k w m l c M M.uZ M.tf M.tE.length j u vm r L q t o)(b:∀ f,f∈M.tP->(M.uX f).tf<=(M.uX f).bytes.length):OK k M (.returned (E c 0)) w:=by
 refine⟨c,_,j,rfl,h.whole b,h.T.n1,h.T.n2,fun p g=>⟨h.T.tP _ (BZ g),h.T.nf p g⟩,?_⟩;intro e a;rcases a with a|a|⟨d,s,a⟩
 .exact h.rd.mq e a
 .exact h.rs.mq e a
 .obtain⟨i,hi,rfl⟩:=Bv.1 s
  exact(h.rc i (by rw[h.cl];exact hi) hi).mq e a
theorem Twin.start{W:World}{d c:Nat}(M:DM)(j:Blk W d [.slice none 0 0] 168)(l:Blk W c [.slice none 0 0] 168)(e:d≠c)(h:w.heap.size<=d)(g:w.heap.size<=c)(f:Fr Nil w W)(i:Nat->Value) :
 Twin w W d c M [] [] (.slice none 0 0) (.slice none 0 0) i where
 co:=j
 cm:=l
 ne:=e
 old:=Bh W 0 _ _
 rI:=Bh W 0 _ _
 pK:=fun k b=>by simp[Value.ownBlock] at b
 tB:=fun p a=>by cases a
 sw:=fun p a=>by cases a
 rH:=fun p a=>by cases a
 n1:=xh
 n2:=xh
 tP:=fun f m=>by cases m
 nbo:=h
 nbm:=g
 no:=fun k b=>by simp[Value.ownBlock] at b
 nm:=fun k b=>by simp[Value.ownBlock] at b
 nf:=fun p a=>by cases a
 nr:=fun p a=>by cases a
 fr:=f
theorem zX.start{W:World}{f e c:Nat}(M:DM)(T:Twin w W f e M [] [] (.slice none 0 0) (.slice none 0 0) DL.new.fV)(g:Blk W c (M.cells DL.new) 143)(d:w.heap.size<=c) :
 zX w W f e c M [] [] 0 [] (.slice none 0 0) (.slice none 0 0) DL.new.fV DL.new [] [] [] where
 T:=T
 th:=g
 nS:=d
 uZ:=Bh W 0 _ _
 tf:=Bh W 0 _ _
 ch:=Bh W 0 _ _
 qk:=rfl
 cl:=rfl
 tE:=fun i a=>absurd a (BH _)
 rd:=⟨rfl,fun i a=>absurd a (BH _)⟩
 rs:=⟨rfl,fun i a=>absurd a (BH _)⟩
 rc:=fun i a=>absurd a (BH _)
 nd:=fun j b=>by simp[DL.new,Value.ownBlock] at b
 ns:=fun j b=>by simp[DL.new,Value.ownBlock] at b
 nc:=fun j b=>by simp[DL.new,Value.ownBlock] at b
 nP:=fun i a=>absurd a (BH _)
end Go.Proofs.YtkhnggkkiefcdaaGreatDoor
