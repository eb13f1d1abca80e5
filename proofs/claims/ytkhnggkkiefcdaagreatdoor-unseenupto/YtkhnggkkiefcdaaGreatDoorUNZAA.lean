/- larder: joined texts -/
import Derived.Test.YtkhnggkkiefcdaaGreatDoorUNAX
namespace Go.Proofs.YtkhnggkkiefcdaaGreatDoor
open Go.RowKit
set_option maxRecDepth 100000
structure Va(n:Int)(u v:Ver):Prop where
 node:u.node=v.node
 seq:u.node≠n->u.seq=v.seq
 ov:∀ k,0<=k->k<4->k≠n->u.ov k=v.ov k
 value:u.value=v.value
 gone:u.gone=v.gone
theorem Va.refl(n:Int)(u:Ver):Va n u u:=⟨rfl,fun _=>rfl,fun _ _ _ _=>rfl,rfl,rfl⟩
def zx(n:Int):List Ver->List Ver->Prop
 | [],[]=>True
 | u::l,v::m=>Va n u v/\zx n l m
 | _,_=>False
def Zk(n:Int):Keys->Keys->Prop
 | [],[]=>True
 | a::K,b::c=>a.1=b.1/\zx n a.2 b.2/\Zk n K c
 | _,_=>False
theorem zx.refl(n:Int):∀ l:List Ver,zx n l l
 | []=>trivial
 | u::l=>⟨Va.refl n u,zx.refl n l⟩
theorem zx.len{n:Int}:∀ {l m:List Ver},zx n l m->l.length=m.length
 | [],[],_=>rfl
 | _::_,_::_,h=>by rw[Iz,Iz,h.2.len]
 | [],_::_,h=>h.elim
 | _::_,[],h=>h.elim
theorem zx.append{n:Int}:∀ {l m a b:List Ver},zx n l m->zx n a b->zx n (l++a) (m++b)
 | [],[],_,_,_,h=>h
 | _::_,_::_,_,_,h,k=>⟨h.1,h.2.append k⟩
 | [],_::_,_,_,h,_=>h.elim
 | _::_,[],_,_,h,_=>h.elim
theorem zx.take{n:Int}:∀ {l m:List Ver}(k:Nat),zx n l m->zx n (l.take k) (m.take k)
 | [],[],k,_=>by simp[zx]
 | _::_,_::_,0,_=>trivial
 | _::_,_::_,k+1,h=>⟨h.1,h.2.take k⟩
 | [],_::_,_,h=>h.elim
 | _::_,[],_,h=>h.elim
theorem zx.drop{n:Int}:∀ {l m:List Ver}(k:Nat),zx n l m->zx n (l.drop k) (m.drop k)
 | [],[],k,_=>by simp[zx]
 | _::_,_::_,0,h=>h
 | _::_,_::_,k+1,h=>h.2.drop k
 | [],_::_,_,h=>h.elim
 | _::_,[],_,h=>h.elim
theorem zx.get{n:Int}:∀ {l m:List Ver},zx n l m->∀ i (a:i<l.length)(c:i<m.length),Va n l[i] m[i]
 | _::_,_::_,h,0,_,_=>h.1
 | _::_,_::_,h,i+1,a,c=>h.2.get i (by simpa using a) (by simpa using c)
 | [],_,_,i,a,_=>absurd a (Hj _)
 | _::_,[],h,_,_,_=>h.elim
theorem Zk.len{n:Int}:∀ {K a:Keys},Zk n K a->K.length=a.length
 | [],[],_=>rfl
 | _::_,_::_,h=>by rw[Iz,Iz,h.2.2.len]
 | [],_::_,h=>h.elim
 | _::_,[],h=>h.elim
theorem Zk.get{n:Int}:∀ {K a:Keys},Zk n K a->∀ i (c:i<K.length)(d:i<a.length),K[i].1=a[i].1/\zx n K[i].2 a[i].2
 | _::_,_::_,h,0,_,_=>⟨h.1,h.2.1⟩
 | _::_,_::_,h,i+1,c,d=>h.2.2.get i (by simpa using c) (by simpa using d)
 | [],_,_,i,c,_=>absurd c (Hj _)
 | _::_,[],h,_,_,_=>h.elim
theorem Zk.snoc{n:Int}:∀ {K e:Keys}{a b:ByteArray × List Ver},Zk n K e->a.1=b.1->zx n a.2 b.2->Zk n (K++[a]) (e++[b])
 | [],[],_,_,_,c,d=>⟨c,d,trivial⟩
 | _::_,_::_,_,_,h,c,d=>⟨h.1,h.2.1,h.2.2.snoc c d⟩
 | [],_::_,_,_,h,_,_=>h.elim
 | _::_,[],_,_,h,_,_=>h.elim
theorem Zk.yI{n:Int}(c:ByteArray):∀ {K f:Keys},Zk n K f->zx n (ZH K c) (ZH f c)
 | [],[],_=>trivial
 | a::K,b::f,h=>by
  have g:=Zk.yI c h.2.2;unfold ZH at g |-;by_cases d:(a.1==c)=true
  .rw[Dd (p:=fun e:ByteArray × List Ver=>e.1==c) (a:=a) d,Dd (p:=fun e:ByteArray × List Ver=>e.1==c) (a:=b) (by rw[<- h.1];exact d)]
   exact h.2.1
  .rw[List.find?_cons_of_neg (p:=fun e:ByteArray × List Ver=>e.1==c) (a:=a) d,List.find?_cons_of_neg (p:=fun e:ByteArray × List Ver=>e.1==c) (a:=b) (by rw[<- h.1];exact d)]
   exact g
 | [],_::_,h=>h.elim
 | _::_,[],h=>h.elim
theorem Rn{n:Int}(d:ByteArray){l m:List Ver}(j:zx n l m):∀ (K g out e:Keys)(b:Bool),Zk n K g->Zk n out e ->
 Zk n (K.foldl (zU d l) (out,b)).1 (g.foldl (zU d m) (e,b)).1/\(K.foldl (zU d l) (out,b)).2=(g.foldl (zU d m) (e,b)).2
 | [],[],_,_,_,_,h=>⟨h,rfl⟩
 | a::K,c::g,out,e,b,h,k=>by
  rw[Hk,Hk];have o:zU d l (out,b) a=((if b=false/\zh a.1 d=false then out++[(d,l)] else out)++(if a.1=d then [] else [a]),b||!zh a.1 d):=rfl;have p:zU d m (e,b) c=((if b=false/\zh a.1 d=false then e++[(d,m)] else e)++(if a.1=d then [] else [c]),b||!zh a.1 d):=by rw[h.1];rfl
  rw[o,p];refine Rn d j K g _ _ _ h.2.2 ?_;have i:Zk n (if b=false/\zh a.1 d=false then out++[(d,l)] else out) (if b=false/\zh a.1 d=false then e++[(d,m)] else e):=by
   split
   .exact k.snoc rfl j
   .exact k
  by_cases f:a.1=d
  .rw[IC f,IC f,IV,IV];exact i
  .rw[It f,It f];exact i.snoc h.1 h.2.1
 | [],_::_,_,_,_,h,_=>h.elim
 | _::_,[],_,_,_,h,_=>h.elim
theorem Zk.with{n:Int}{K o:Keys}(h:Zk n K o)(key:ByteArray){l m:List Ver}(c:zx n l m):Zk n (zX K key l) (zX o key m):=by
 have r:l.isEmpty=m.isEmpty:=by
  cases l <;> cases m
  .rfl
  .exact c.elim
  .exact c.elim
  .rfl
 have q:=Rn key c K o [] [] l.isEmpty h trivial;unfold zX;rw[<- r,<- q.2];split
 .rw[IV,IV];exact q.1
 .exact q.1.snoc rfl c
theorem zx.yf{n k:Int}(b:k≠n):∀ {l m:List Ver}(a:Int),zx n l m->l.foldl (fun m u=>if u.node=k then max m u.seq else m) a=m.foldl (fun m u=>if u.node=k then max m u.seq else m) a
 | [],[],_,_=>rfl
 | u::l,v::m,a,h=>by
  rw[Hk,Hk];have e:(if u.node=k then max a u.seq else a)=(if v.node=k then max a v.seq else a):=by
   rw[<- h.1.node];split
   .rename_i e1
    rw[h.1.seq (by rw[e1];exact b)]
   .rfl
  rw[e];exact zx.yf b _ h.2
 | [],_::_,_,h=>h.elim
 | _::_,[],_,h=>h.elim
theorem zx.grV{n k:Int}(a:k≠n){l m:List Ver}(h:zx n l m):grV l k=grV m k:=zx.yf a 0 h
def PO(n:Int)(K:Keys)(a b:ByteArray)(k:Int):Ver:=⟨n,k,grV (ZH K a) 0,grV (ZH K a) 1,grV (ZH K a) 2,grV (ZH K a) 3,b,false⟩
theorem Zk.put{n:Int}{K o:Keys}(h:Zk n K o)(d c:ByteArray)(a b:Int):Va n (PO n K d c a) (PO n o d c b):=by
 have j:=fun k i=>(h.yI d).grV (k:=k) i;refine⟨rfl,fun e=>absurd rfl e,fun k r s i=>?_,rfl,rfl⟩;unfold PO Ver.ov;by_cases q:k=0
 .subst q;simp[j 0 i]
 .by_cases h1:k=1
  .subst h1;simp[j 1 i]
  .by_cases h2:k=2
   .subst h2;simp[j 2 i]
   .have h3:k=3:=by omega
    subst h3;simp[j 3 i]
theorem zx.over{n:Int}{v:Ver}(c:v.ov n=0){a b:Ver}(h:Va n a b)(d:1<=a.seq)(f:1<=b.seq):v.over a=v.over b:=by
 unfold Ver.over;rw[<- h.node];by_cases e:a.node=n
 .rw[e,c]
  simp only[decide_eq_decide];omega
 .rw[h.seq e]
theorem zx.left{n:Int}{v:Ver}(j:v.ov n=0):∀ {l m:List Ver},zx n l m->(∀ u∈l,1<=u.seq)->(∀ u∈m,1<=u.seq)->zx n (zC l v) (zC m v)
 | [],[],_,_,_=>trivial
 | a::l,b::m,h,g,i=>by
  have d:=zx.left j h.2 (fun u c=>g u (Iq _ c)) (fun u c=>i u (Iq _ c));have e:=zx.over j h.1 (g a (Is ..)) (i b (Is ..));unfold zC at d |-;rw[List.filter_cons,List.filter_cons,e];split
  .exact⟨h.1,d⟩
  .exact d
 | [],_::_,h,_,_=>h.elim
 | _::_,[],h,_,_=>h.elim
theorem zx.low{n:Int}{v:Ver}(c:v.node≠n):∀ {l m:List Ver},zx n l m->Go.Proofs.YtkhnggkkiefcdaaGreatDoor.low zA (l.map Ver.dot) v.dot=Go.Proofs.YtkhnggkkiefcdaaGreatDoor.low zA (m.map Ver.dot) v.dot
 | [],[],_=>rfl
 | a::l,b::m,h=>by
  have d:=zx.low c h.2;have e:zA a.dot v.dot=zA b.dot v.dot:=by
   unfold zA Ver.dot;simp only[decide_eq_decide];rw[<- h.1.node];by_cases e:a.node=n
   .rw[e]
    constructor <;> (rintro(x|⟨x,_⟩);exact .inl x;exact absurd x.symm c)
   .rw[h.1.seq e]
  unfold Go.Proofs.YtkhnggkkiefcdaaGreatDoor.low at d |-;rw[IJ,IJ,Ee,Ee,e];split
  .rw[Iz,Iz,d]
  .rfl
 | [],_::_,h=>h.elim
 | _::_,[],h=>h.elim
theorem zx.withV{n:Int}{v:Ver}(a:v.node≠n){l m:List Ver}(h:zx n l m):zx n (withV l v) (withV m v):=by
 unfold Go.Proofs.YtkhnggkkiefcdaaGreatDoor.withV;rw[zx.low a h];exact((h.take _).append (show zx n [v] [v] from⟨Va.refl n v,trivial⟩)).append (h.drop _)
theorem zx.acc{n:Int}{v:Ver}(d:v.ov n=0)(c:v.node≠n){l m:List Ver}(h:zx n l m)(a:∀ u∈l,1<=u.seq)(b:∀ u∈m,1<=u.seq):zx n (Zu l v) (Zu m v):=by
 unfold Zu;have:=zx.left d h a b;split
 .exact this
 .exact zx.withV c this
theorem zx.BQ{n:Int}{v:Ver}(d:v.node≠n)(c:0<=v.node/\v.node<4):∀ {l m:List Ver},zx n l m->l.any v.BQ=m.any v.BQ
 | [],[],_=>rfl
 | a::l,b::m,h=>by
  have f:=zx.BQ d c h.2;have e:v.BQ a=v.BQ b:=by
   unfold Ver.BQ Ver.over;rw[<- h.1.node,h.1.ov v.node c.1 c.2 d]
   congr 1
   by_cases e:a.node=n
   .have:(a.node==v.node)=false:=by rw[e];simp;exact fun x=>d x.symm
    rw[this];rfl
   .rw[h.1.seq e]
  rw[List.any_cons,List.any_cons,e,f]
 | [],_::_,h=>h.elim
 | _::_,[],h=>h.elim
theorem zx.way{n:Int}{v:Ver}(e:v.ov n=0)(d:v.node≠n)(c:0<=v.node/\v.node<4){l m:List Ver}(h:zx n l m)(a:∀ u∈l,1<=u.seq)(b:∀ u∈m,1<=u.seq):Zn l v=Zn m v:=by
 unfold Zn;rw[zx.BQ d c h,(zx.left e h a b).len,h.len]
def Za(n:Int)(S T:SM):Prop:=Zk n S.keys T.keys/\S.hints=T.hints
theorem Se{b c:Int}:∀ {l m:List Ver}{n r:Int},Y6 b c l m n=some r->(∀ u∈m,u.seq≠0)->l=m/\r=n
 | [],[],_,_,h,_=>⟨rfl,(Hb h).symm⟩
 | a::l,u::m,n,r,h,d=>by
  unfold Y6 at h;rw[It (d u (Is ..))] at h;split at h
  .rename_i e
   obtain⟨f,g⟩:=Se h (fun x i=>d x (Iq _ i));exact⟨by rw[(Wh a u).1 e,f],g⟩
  .cases h
 | [],_::_,_,_,h,_=>by simp[Y6] at h
 | _::_,[],_,_,h,_=>by simp[Y6] at h
theorem Ro(c:Int):∀ (d:Int)(S M:Keys),(∀ e∈M,∀ u∈e.2,u.seq≠0)->(Z3 c d S M).2.2=true->S=M
 | _,[],[],_,_=>rfl
 | d,(a,l)::S,(b,u)::M,f,h=>by
  unfold Z3 at h;split at h
  .rename_i hab
   split at h
   .cases h
   .rename_i n hal
    obtain⟨g,j⟩:=Se hal (f (b,u) (Is ..));rw[It (by omega)] at h;rw[Ro c d S M (fun e i=>f e (Iq _ i)) h,hab,g]
  .cases h
 | _,[],_::_,_,h=>by simp[Z3] at h
 | _,_::_,[],_,h=>by simp[Z3] at h
theorem Opd.same{W B:WM}{M y:DM}{o:Nat}{N g:NM}{x:List Fact}{I K:Nat}{A:DM}(l:Opd W M o N y B)(r:NI W g A x I K)(C:M.dead=false)(b:W.BV=false):N.S.keys=g.S.keys/\N.S.hints=g.S.hints:=by
 obtain⟨q,i,Q,m,L,j,D,a,d,rfl⟩:=l.found;have k:=(j C).trans b;have a:=a.resolve_left (fun e=>by rw[k] at e;cases e);obtain⟨O,f,c,_⟩:=r.now;rw[show W.st.length-1=i by omega,D] at f;obtain rfl:=Hb f;unfold X0 at d;split at d
 .rename_i hc
  simp only[Gq] at d;have s:=d.2;split at s
  .rename_i hok
   have E:=Ro _ _ _ _ (fun e t u G=>by
    rw[c.1] at t;have:=(r.st.1.key e t).2.2 u G;have:=this.one;omega) hok
   exact⟨E.trans c.1,hc.2.2.trans c.2⟩
  .cases s
 .simp at d
def Own2(a:Nat)(X:NL)(M:DM)(k:Nat):Prop:=k=a\/NFoot X M k\/SRead X.LS k
theorem Rk.own_lt{j w:World}{i n t g a:Nat}{e:Value}{W:WM}{X:NL}{N:NM}{M:DM}{F:List Fact}{p:Nat}(h:Rk j w i n t g a e W X N M F p){k:Nat}(c:Own2 i X M k):k<w.heap.size:=by
 rcases c with rfl|c|c
 .exact h.kp.st.Bi.lt
 .exact h.kp.st.node.lt c
 .exact(h.kp.st.node.held.Ag c).lt
theorem Rk.yO{f w:World}{d n t c a:Nat}{b:Value}{W:WM}{X:NL}{N:NM}{M:DM}{F:List Fact}{p:Nat}(h:Rk f w d n t c a b W X N M F p):∀ k,(k=d\/NFoot X M k)->f.heap.size<=k:=fun k g=>g.elim (fun e=>by subst e;exact h.kp.low) (h.kp.new k)
theorem Rk.beside{S:Nat->Prop}{s w r:World}{o n t l a:Nat}{b:Value}{W:WM}{X:NL}{N:NM}{M:DM}{F:List Fact}{p:Nat}(h:Rk s w o n t l a b W X N M F p)(f:Fr S w r)(q:∀ k,S k->¬Own2 o X M k)(g:∀ k,S k->s.heap.size<=k)(j:N.mg=none\/∀ k t,Ty w k t->MTy t->¬S k):Rk s r o n t l a b W X N M F p:=by
 have d:=h.kp.st.node;have m:∀ k,NFoot X M k->¬S k:=fun k c e=>q k e (.inr (.inl c));have v:∀ k,SRead X.LS k->¬S k:=fun k c e=>q k e (.inr (.inr c));have x:NRep r X N M:=by
  refine⟨d.Bi.fr f (m _ (.inl rfl)),Blk.fr d.log f (m _ (.inr (.inl rfl))),d.held.fr f (fun k c=>m k (.inr (.inr (.inl c)))) v,d.BM.fr f (fun k c=>m k (.inr (.inr (.inr (.inl c))))),?_⟩;rcases j with j|j
  .have hmr:=d.yJ
   unfold NM.xN at hmr |-;rw[h.ro,It (by decide),j] at hmr |-;exact hmr
  .exact d.yJ.fr f j
 exact {h with kp:=⟨⟨h.kp.st.Bi.fr f (fun e=>q o e (.inl rfl)),x⟩,h.kp.fr.trans' f (fun i y e=>by have:=g i e;omega),h.kp.low,h.kp.new,h.kp.sep,h.kp.xe⟩}
theorem Rk.yW{o w:World}{m n t j c:Nat}{g:Value}{W:WM}{X:NL}{N:NM}{M:DM}{F:List Fact}{p:Nat}(h:Rk o w m n t j c g W X N M F p)(l:N.mg=none):∀ k t,Ty w k t->MTy t->¬NFoot X M k:=fun k t i f b=>by
 have d:=h.kp.st.node;unfold MTy at f;rcases b with rfl|rfl|b|b|b
 .have:=i.inj d.Bi.ty;subst this;revert f;decide
 .have:=i.inj (Blk.ty d.log);subst this;revert f;decide
 .rcases d.held.BJ b with e|e|e <;> (have:=i.inj e;subst this;revert f;decide)
 .obtain⟨t2,h2,h3⟩:=d.BM.ty b
  have:=i.inj h2;subst this;unfold DTy at h3;rcases h3 with rfl|rfl|rfl|rfl|rfl <;> (revert f;decide)
 .have a:=d.yJ
  unfold NM.xN at a;rw[h.ro,It (by decide),l] at a;have a:X.mv=.pointer none:=a;rw[a] at b;cases b
def Dn(o w:World)(l n t d a:Nat)(b:Value)(X:NL)(N:NM)(M:DM)(R:SM->SM->Prop)(h:World):Prop :=
 ∃ f c e j i k,NStep X M w f c e h/\Rk o h l n t d a b j f c e i k/\c.mg=N.mg/\R N.S c.S
theorem Rk.xQ{j w i:World}{f n t u c a:Nat}{b:Value}{W:WM}{X d:NL}{N:NM}{M:DM}{F:List Fact}{p:Nat}{R:SM->SM->Prop}(h:Rk j w f n t c a b W X N M F p)(e:NStep X M w d N M i)(l:t<=u)(k:R N.S N.S):Dn j w f n u c a b X N M R i :=
 ⟨d,N,M,W,F,p,e,{h.more l with kp:=h.kp.step e},rfl,k⟩
def XT(b a:ByteArray):Int:=if zF b=false then 2 else if 128<a.size then 3 else 0
def Wt(a:ByteArray):Int:=if zF a=false then 2 else 0
def XJ(n:Nat)(b:Int)(a:ByteArray)(len:Nat):Int:=if XP n b a≠0 then XP n b a else if 32<=len then 6 else 0
def V2(len:Nat):Int:=if len=0 then 7 else 0
def Zz(n:Nat)(a:ByteArray)(v:Ver)(b:List Ver):Int:=if Z8 n a v≠0 then Z8 n a v else if Zn b v=0 then 0 else if Zn b v=1 then 6 else 0
def UPut(n:Nat)(b a:ByteArray)(S c:SM):Prop:=if XT b a=0 then ∃ k:Int,c.keys=zX S.keys b [PO n S.keys b a k]/\c.hints=S.hints else c=S
def UDel(a:ByteArray)(S b:SM):Prop:=if Wt a=0 then b.keys=zX S.keys a []/\b.hints=S.hints else b=S
def UHint(n:Nat)(b:Int)(a:ByteArray)(S c:SM):Prop:=if XJ n b a S.hints.length=0 then c.keys=S.keys/\c.hints=S.hints++[(b.toNat,a)] else c=S
def UAck(S a:SM):Prop:=if V2 S.hints.length=0 then a.keys=S.keys/\a.hints=S.hints.drop 1 else a=S
def UAcc(n:Nat)(a:ByteArray)(v:Ver)(S b:SM):Prop:=if Z8 n a v=0/\Zn (zl S.keys a) v=2 then b.keys=zX S.keys a (Zu (zl S.keys a) v)/\b.hints=S.hints else b=S
theorem Rk.xX(o:zr){B:Nat}{Y w:World}{sb n t O j:Nat}{r:Value}{W:WM}{X:NL}{N:NM}{M:DM}{F:List Fact}{p:Nat}(h:Rk Y w sb n t O j r W X N M F p)(q:Z0 B Y)(hB:B<=Y.heap.size)(ht:t+20<=980000)(d c:ByteArray) :
 Calls Tryz.prog 22 #[.pointer (some ⟨X.nb,0,none⟩),.string d,.string c] w fun e w'=>∃ v:Int,e=.returned (.tuple #[.int .i64 v,.int .i64 (XT d c)])/\(if XT d c=0 then 0<v else v=0)/\Dn Y w sb n (t+10) O j r X N M (UPut n d c) w':=by
 by_cases l:zF d=true/\c.size<=128
 .have C:XT d c=0:=by unfold XT;rw[l.1,It (by decide),It (by omega)]
  rw[C];obtain⟨m,a2,hr,a3⟩:=h.ni.yu;have D:∀ g∈M.ids,g<w.heap.size:=fun g Q=>(h.kp.st.node.BM.files g Q).lt;have h0:=h.ni.put (m:=m) (H0:=w.heap.size) (by omega) h.ro hr a3 D d c l.1 l.2;refine(Ui o B X N M d c w h.kp.st.node (h.kp.env q hB) (fun u hu=>((h.ni.st.1.get d).2.2 u hu).node) (fun _ _ _=>h0.1 _ (Io _))).mono ?_;rintro e w' ⟨f,g,X',rfl,hf,Q,A,i⟩;obtain⟨er,N',M',he,a5,y⟩:=h0.2.2.2 f g hf Q A;have G:=Ia N M d c f g;rw[he] at i G |-;obtain⟨rfl,V,mx,X2,N2,M2,W2,F2,p2,a4,hb,a1,J,L,⟨k,rfl⟩,_,I,K⟩:=Aft.rk (g:=fun m mx=>∃ k:Int,mx=m.put d c k) h ht y i ⟨rfl,rfl,rfl,rfl,rfl⟩ a2 hr ⟨_,rfl⟩ G;refine⟨_,rfl,?_,X2,N2,M2,W2,F2,p2,K,a4,I,?_⟩
  .rw[IC rfl]
   show(0:Int)<((N.given+1:Nat):Int);omega
  .unfold UPut
   rw[IC C];have s:V.node=(n:Int):=by
    rw[(h.ni.cm.AV V a1).node];exact h.node
   refine⟨k,?_,by rw[<- L.2];exact J.2⟩;rw[<- L.1];show zX V.keys d [V.putV d c k]=_;unfold LM.putV PO;rw[J.1,s]
 .have hp:(∀ f g,N.put M d c f g=(0,XT d c,N,M))/\XT d c≠0:=by
   unfold NM.put XT;by_cases hk:zF d=false
   .simp only[hk,Gh]
    exact⟨fun _ _=>trivial,by decide⟩
   .have hs:128<c.size:=Dp fun x=>l ⟨by simpa using hk,x⟩
    have a0:zF d=true:=by simpa using hk
    simp only[a0,hs,Gh,Bool.true_eq_false,Hy];exact⟨fun _ _=>trivial,by decide⟩
  obtain⟨hp,C⟩:=hp;have hh:=h.ni.st.1;refine(Ui o B X N M d c w h.kp.st.node (h.kp.env q hB) (fun u hu=>((hh.get d).2.2 u hu).node) (fun a b _=>absurd ⟨a,b⟩ l)).mono ?_;rintro e w' ⟨f,g,X',rfl,hf,Q,A,i⟩;rw[hp f g] at i |-;exact⟨0,rfl,by rw[It C],h.xQ i (by omega) (by unfold UPut;rw[It C])⟩
theorem Rk.xS(i:zr){B:Nat}{G w:World}{sb n t C d:Nat}{k:Value}{W:WM}{X:NL}{N:NM}{M:DM}{F:List Fact}{p:Nat}(h:Rk G w sb n t C d k W X N M F p)(j:Z0 B G)(Q:B<=G.heap.size)(ht:t+20<=980000)(b:ByteArray) :
 Calls Tryz.prog 30 #[.pointer (some ⟨X.nb,0,none⟩),.string b] w fun e L=>∃ l:Int,e=.returned (.tuple #[.int .i64 l,.int .i64 (Wt b)])/\(if Wt b=0 then 0<l else l=0)/\Dn G w sb n (t+10) C d k X N M (UDel b) L:=by
 cases hk:zF b with
 | true =>
  have r:Wt b=0:=by unfold Wt;rw[hk,It (by decide)]
  rw[r];obtain⟨m,I,Y,J⟩:=h.ni.yu;have s:∀ g∈M.ids,g<w.heap.size:=fun g D=>(h.kp.st.node.BM.files g D).lt;have O:=h.ni.delete (m:=m) (H0:=w.heap.size) (by omega) h.ro Y J s b hk;refine(WP i B X N M b w h.kp.st.node (h.kp.env j Q) (fun _ _=>O.1 _ (Io _))).mono ?_;rintro e L ⟨f,g,X',rfl,V,D,q,c⟩;obtain⟨er,N',M',he,a1,o⟩:=O.2.2.2 f g V D q;have u:=Rl N M b f g;rw[he] at c u |-;obtain⟨rfl,m2,mx,X2,N2,M2,W2,F2,p2,K,hb,a0,x,A,rfl,_,v,y⟩:=Aft.rk (g:=fun m mx=>mx=m.delete b) h ht o c ⟨rfl,rfl,rfl,rfl,rfl⟩ I Y rfl u;refine⟨_,rfl,?_,X2,N2,M2,W2,F2,p2,y,K,v,?_⟩
  .rw[IC rfl]
   show(0:Int)<((N.given+1:Nat):Int);omega
  .unfold UDel
   rw[IC r,<- A.1,<- A.2];exact⟨by show zX m2.keys b []=_;rw[x.1],x.2⟩
 | false =>
  have r:Wt b=2:=by unfold Wt;rw[hk,IC rfl]
  have hp:∀ f g,N.delete M b f g=(0,2,N,M):=fun f g=>by unfold NM.delete;rw[hk,IC rfl]
  rw[r];refine(WP i B X N M b w h.kp.st.node (h.kp.env j Q) (fun a _=>by rw[hk] at a;cases a)).mono ?_;rintro e L ⟨f,g,X',rfl,V,D,q,c⟩;rw[hp f g] at c |-;exact⟨0,rfl,by rw[It (by decide)],h.xQ c (by omega) (by unfold UDel;rw[r,It (by decide)])⟩
theorem Rk.xt(x:zr){B:Nat}{L w:World}{sb n t K l:Nat}{r:Value}{W:WM}{X:NL}{N:NM}{M:DM}{F:List Fact}{p:Nat}(h:Rk L w sb n t K l r W X N M F p)(J:Z0 B L)(hB:B<=L.heap.size)(ht:t+20<=980000)(j:Int)(i:ByteArray) :
 Calls Tryz.prog 31 #[.pointer (some ⟨X.nb,0,none⟩),.int .i64 j,.string i] w fun e w'=>e=.returned (.int .i64 (XJ n j i N.S.hints.length))/\Dn L w sb n (t+10) K l r X N M (UHint n j i) w':=by
 have q:N.self=n:=by have h1:=h.ni.self;rw[h.node] at h1;omega
 obtain⟨m,O,hr,Q⟩:=h.ni.yu;have y:∀ g∈M.ids,g<w.heap.size:=fun g hg=>(h.kp.st.node.BM.files g hg).lt;have Y:=h.ni.hint (m:=m) (H0:=w.heap.size) (by omega) hr Q y j i;refine(TE x B X N M j i w h.kp.st.node (h.kp.env J hB) (fun a b d=>Y.1 _ (Io _) a b d)).mono ?_;rintro e w' ⟨f,X',rfl,hf,k⟩;have o:=Tc N M j i f;cases ho:XS N j i with
 | some c =>
  rw[ho] at o;simp only at o;rw[o] at k |-;have u:c=XJ n j i N.S.hints.length/\c≠0:=by
   unfold XS at ho;rw[q,h.ro] at ho;unfold XJ;split at ho
   .rename_i s
    rw[IC s];obtain rfl:=Hb ho;exact⟨rfl,s⟩
   .rename_i s
    rw[It (by decide)] at ho;rw[It s];split at ho
    .rename_i h6
     rw[IC h6];obtain rfl:=Hb ho;exact⟨rfl,by decide⟩
    .cases ho
  exact⟨by rw[<- u.1],h.xQ k (by omega) (by unfold UHint;rw[<- u.1,It u.2])⟩
 | none =>
  obtain⟨er,N',M',he,a1,v⟩:=Y.2 ho f hf;have A:=JL N M j i f;rw[he] at k A |-;obtain⟨rfl,m2,mx,X2,N2,M2,W2,F2,p2,V,s,a0,D,I,rfl,_,C,G⟩:=Aft.rk (g:=fun m mx=>mx=m.hint j.toNat i) h ht v k ⟨rfl,rfl,rfl,rfl,rfl⟩ O hr rfl A;have u:XJ n j i N.S.hints.length=0:=by
   unfold XS at ho;rw[q,h.ro] at ho;unfold XJ;split at ho
   .cases ho
   .rename_i s
    rw[It s];rw[It (by decide)] at ho;split at ho
    .cases ho
    .rename_i h6
     rw[It h6]
  refine⟨by rw[u];rfl,X2,N2,M2,W2,F2,p2,G,V,C,?_⟩;unfold UHint;rw[IC u,<- I.1,<- I.2];exact⟨D.1,by show m2.hints++[_]=_;rw[D.2]⟩
theorem Rk.xO(i:zr){B:Nat}{v w:World}{D n t u a:Nat}{k:Value}{W:WM}{X:NL}{N:NM}{M:DM}{F:List Fact}{p:Nat}(h:Rk v w D n t u a k W X N M F p)(j:Z0 B v)(C:B<=v.heap.size)(ht:t+20<=980000) :
 Calls Tryz.prog 28 #[.pointer (some ⟨X.nb,0,none⟩)] w fun e A=>e=.returned (.int .i64 (V2 N.S.hints.length))/\Dn v w D n (t+10) u a k X N M UAck A:=by
 by_cases c:N.S.hints.length=0
 .have hc:V2 N.S.hints.length=7:=by unfold V2;rw[IC c]
  have hp:∀ f,N.AH M f=(7,N,M):=fun f=>by unfold NM.AH;rw[h.ro,It (by decide),IC c]
  obtain⟨m,Y,hr,x⟩:=h.ni.yu;have l:∀ g∈M.ids,g<w.heap.size:=fun g Q=>(h.kp.st.node.BM.files g Q).lt;have O:=h.ni.AH (m:=m) (H0:=w.heap.size) (by omega) hr x l;refine(SV i B X N M w h.kp.st.node (h.kp.env j C) (fun d=>O.1 _ (Io _) d)).mono ?_;rintro e A ⟨f,X',rfl,hf,b⟩;rw[hp f] at b |-;exact⟨by rw[hc],h.xQ b (by omega) (by unfold UAck;rw[hc,It (by decide)])⟩
 .have hc:V2 N.S.hints.length=0:=by unfold V2;rw[It c]
  refine(h.AH i j C ht c).mono ?_;rintro e A ⟨rfl,m2,mx,L,J,I,K,G,p2,y,hb,V,q,s,rfl,_,o,r⟩;refine⟨by rw[hc],L,J,I,K,G,p2,r,y,o,?_⟩;unfold UAck;rw[IC hc,<- s.1,<- s.2];exact⟨q.1,by show m2.hints.drop 1=_;rw[q.2]⟩
theorem Rk.xp(c:zr){B:Nat}{i w:World}{m n t g a:Nat}{b:Value}{W:WM}{X:NL}{N:NM}{M:DM}{F:List Fact}{p:Nat}(h:Rk i w m n t g a b W X N M F p)(d:Z0 B i)(y:B<=i.heap.size)(C:t+20<=980000) :
 Calls Tryz.prog 32 #[.pointer (some ⟨X.nb,0,none⟩)] w fun e o=>e=.returned (.int .i64 0)/\Dn i w m n (t+10) g a b X N M (fun S u=>u=S) o:=by
 refine(h.sync c d y C).mono ?_;rintro e o ⟨rfl,I,x,s,r,v,q,D,k,G,_,A,_,j,l⟩;exact⟨rfl,x,s,r,v,q,D,l,k,j,A⟩
theorem Rk.yg(C:zr){B:Nat}{Y w:World}{sb n t V o:Nat}{s:Value}{W:WM}{X:NL}{N:NM}{M:DM}{F:List Fact}{p:Nat}(h:Rk Y w sb n t V o s W X N M F p)(Q:Z0 B Y)(hB:B<=Y.heap.size)(ht:t+20<=980000)(i:ByteArray)(v:Ver) :
 Calls Tryz.prog 91 #[.pointer (some ⟨X.nb,0,none⟩),.string i,.agg v.cells.toArray] w fun e w'=>e=.returned (.int .i64 (Zz n i v (zl N.S.keys i)))/\Dn Y w sb n (t+10) V o s X N M (UAcc n i v) w':=by
 have q:N.self=n:=by have l:=h.ni.self;rw[h.node] at l;omega
 have hh:=h.ni.st.1;have D:=hh.get i;have a8:=h.ni.nk;have G:∀ g∈M.ids,g<w.heap.size:=fun g D=>(h.kp.st.node.BM.files g D).lt;obtain⟨m,a5,hr,a6⟩:=h.ni.yu;have h0:=h.ni.accept (m:=m) (H0:=w.heap.size) (by omega) hr a6 G i v;refine(QU C B X N M i v w h.kp.st.node (h.kp.env Q hB) (fun u hu=>(D.2.2 u hu).node) D.1 (by omega) (by omega) (fun a b c d e=>h0.1 _ (Io _) a b c d e)).mono ?_;rintro e w' ⟨f,X',rfl,hf,j⟩;have k:=S3 N M i v f;cases ho:V0 N i v with
 | some c =>
  rw[ho] at k;simp only at k;rw[k] at j |-;have y:c=Zz n i v (zl N.S.keys i)/\¬(Z8 n i v=0/\Zn (zl N.S.keys i) v=2):=by
   unfold V0 at ho;rw[q,h.ro] at ho;unfold Zz;split at ho
   .rename_i r
    rw[IC r];obtain rfl:=Hb ho;exact⟨rfl,fun x=>r x.1⟩
   .rename_i r
    rw[It r];rw[It (by decide)] at ho;split at ho
    .rename_i l
     rw[IC l];obtain rfl:=Hb ho;exact⟨rfl,fun x=>by omega⟩
    .rename_i l
     rw[It l];split at ho
     .rename_i h2
      rw[IC h2];obtain rfl:=Hb ho;exact⟨rfl,fun x=>by omega⟩
     .cases ho
  exact⟨by rw[<- y.1],h.xQ j (by omega) (by unfold UAcc;rw[It y.2])⟩
 | none =>
  obtain⟨er,N',M',he,b0,A⟩:=h0.2 ho f hf;have y:Zz n i v (zl N.S.keys i)=0/\Z8 n i v=0/\Zn (zl N.S.keys i) v=2:=by
   unfold V0 at ho;rw[q,h.ro] at ho;unfold Zz;split at ho
   .cases ho
   .rename_i r
    rw[It r];rw[It (by decide)] at ho;split at ho
    .cases ho
    .rename_i l
     split at ho
     .cases ho
     .rename_i h2
      rw[It l,It h2];refine⟨rfl,Classical.not_not.1 r,?_⟩;unfold Zn at l h2 |-;split at l
      .exact absurd rfl l
      .rename_i a1
       rw[It a1];split at h2
       .rename_i a2
        exact absurd a2 a1
       .split at h2
        .exact absurd rfl h2
        .rename_i a3
         rw[It a3];rw[It a3] at l;split at l
         .exact absurd rfl l
         .rename_i a4
          rw[It a4]
  have I:(N.accept M i v f).2.1.mg=N.mg:=by rw[k,ho];exact V1 _ _ _ _
  rw[he] at j I |-;obtain⟨rfl,m2,mx,X2,N2,M2,W2,F2,p2,a7,r,a9,K,O,rfl,_,J,L⟩:=Aft.rk (g:=fun m mx=>mx=m.accept i v) h ht A j ⟨rfl,rfl,rfl,rfl,rfl⟩ a5 hr rfl I;refine⟨by rw[y.1];rfl,X2,N2,M2,W2,F2,p2,L,a7,J,?_⟩;unfold UAcc;rw[IC y.2,<- O.1,<- O.2];refine⟨?_,K.2⟩;show zX m2.keys i (Sl (ZH m2.keys i) v)=_;have a0:∀ u∈zl N.S.keys i,u.dot≠v.dot:=Uu (by
   have:=y.2.2;unfold Zn at this;split at this
   .cases this
   .rename_i a;simpa using a)
  rw[K.1,WO i hh.Aa,Nh v D.1 a0]
  rfl
def Z2(i w:World)(n x y sp h s nq:Nat)(Q:SM->SM->Prop):Prop :=
 ∃ q r m b a d j t o c g e l v,Rk i w sp n x 0 q (.slice none 0 0) m b a d j t/\Rk i w h n y 0 r (.slice none 0 0) o c g e l v/\a.mg=none/\(∀ k,Own2 sp b d k->¬Own2 h c e k)/\b.nb=s/\c.nb=nq/\Q a.S g.S
theorem Z2.nil{g w w':World}{n d e sp c a nq:Nat}{Q:SM->SM->Prop}(h:Z2 g w n d e sp c a nq Q)(f:Fr Nil w w'):Z2 g w' n d e sp c a nq Q:=by
 obtain⟨B,C,u,y,s,q,m,L,x,A,t,r,o,M,D,G,I⟩:=h;exact⟨B,C,u,y,s,q,m,L,x,A,t,r,o,M,D.nil f,G.nil f,I⟩
theorem Z2.more{f w:World}{n c d up e sp b a nq:Nat}{Q:SM->SM->Prop}(h:Z2 f w n c d sp b a nq Q)(E:c<=up)(I:d<=e):Z2 f w n up e sp b a nq Q:=by
 obtain⟨y,A,q,s,l,j,g,J,r,x,o,k,i,K,B,C,D⟩:=h;exact⟨y,A,q,s,l,j,g,J,r,x,o,k,i,K,B.more E,C.more I,D⟩
theorem Z2.imp{i w:World}{n e g sp d c nq:Nat}{Q R:SM->SM->Prop}(h:Z2 i w n e g sp d c nq Q)(K:∀ S T,zK S->zK T->Q S T->R S T):Z2 i w n e g sp d c nq R:=by
 obtain⟨A,B,s,x,q,l,j,L,t,y,r,o,k,M,a,b,C,D,G,I,J⟩:=h;exact⟨A,B,s,x,q,l,j,L,t,y,r,o,k,M,a,b,C,D,G,I,K _ _ a.ni.st.1 b.ni.st.1 J⟩
theorem Z2.out{C w:World}{n y B sp r q nq:Nat}{Q:SM->SM->Prop}{A:Prop}(h:Z2 C w n y B sp r q nq Q)(o:∀ S T,zK S->zK T->Q S T->A):A:=by
 obtain⟨cp,cq,X,Xp,O,I,D,pp,Y,Xq,V,K,G,pq,c,e,h3,h4,h5,h6,g⟩:=h;exact o _ _ c.ni.st.1 e.ni.st.1 g
theorem Z2.fr{a w:World}{n o q sp g e nq:Nat}{Q:SM->SM->Prop}(h:Z2 a w n o q sp g e nq Q):Fr Nil a w:=by
 obtain⟨V,X,G,K,C,A,r,pp,I,O,D,B,y,pq,c,Y,h3,h4,h5,h6,h7⟩:=h;exact c.kp.fr
theorem Z2.cell{r w:World}{n o q sp e c nq:Nat}{Q:SM->SM->Prop}(h:Z2 r w n o q sp e c nq Q):w.cell? ⟨sp,1,none⟩=some (.pointer (some ⟨c,0,none⟩))/\w.cell? ⟨sp,2,none⟩=some (.int .i64 (n:Int))/\w.cell? ⟨e,1,none⟩=some (.pointer (some ⟨nq,0,none⟩)):=by
 obtain⟨X,Y,I,O,D,B,y,pp,K,V,G,C,A,pq,a,g,h3,h4,rfl,rfl,h7⟩:=h;exact⟨a.kp.st.Bi.cell 1,a.kp.st.Bi.cell 2,g.kp.st.Bi.cell 1⟩
def Zl(w c:World):Prop:=∀ b a,Blk w b a 89->Blk c b a 89
theorem Zl.nil{w w':World}(f:Fr Nil w w'):Zl w w':=fun _ _ h=>h.fr f id
theorem Zl.trans{c w2 e:World}(h:Zl c w2)(k:Zl w2 e):Zl c e:=fun b a x=>k b a (h b a x)
theorem Zl.node{w a:World}{X:NL}{N:NM}{M:DM}(b:NRep w X N M)(f:Fr (NFoot X M) w a):Zl w a:=fun _ _ h=>h.fr f (b.apart h.ty (by decide) (by decide) (by decide) (by decide) (by decide) (by unfold DTy;decide) (by decide))
theorem Z2.AB{l q w:World}{n B C tu sp A o nq:Nat}{Q:SM->SM->Prop}{f:Nat}{args:Array Value}{E:SM->Ending->Prop}{R:SM->SM->Prop}(hb:Z2 l q n B C sp A o nq Q)(t:Fr Nil q w)
 (hc:∀ c W X N M F p,Rk l w sp n B 0 c (.slice none 0 0) W X N M F p->X.nb=o->Calls Tryz.prog f args w fun e g=>E N.S e/\Dn l w sp n tu 0 c (.slice none 0 0) X N M R g) :
 Calls Tryz.prog f args w fun e g=>∃ i,zK i/\E i e/\Z2 l g n tu C sp A o nq (fun S T=>Q i T/\R i S)/\Zl q g:=by
 have h:=hb.nil t;obtain⟨s,cq,Wp,Xp,r,K,G,pp,Wq,Xq,V,L,I,pq,b,u,v,j,y,h6,h7⟩:=h;refine(hc s Wp Xp r K G pp b y).mono ?_;rintro e g ⟨he,X',O,J,Y,D,p',d,hr,m,hR⟩;refine⟨r.S,b.ni.st.1,he,⟨s,cq,Y,X',O,J,D,p',Wq,Xq,V,L,I,pq,hr,u.beside d.fr (fun k a=>j k (.inr (.inl a))) (fun k a=>b.yO k (.inr a)) (.inr (b.yW v)),m.trans v,fun k a e=>?_,d.same.nb.trans y,h6,h7,hR⟩,(Zl.nil t).trans (Zl.node b.kp.st.node d.fr)⟩;have a0:=u.own_lt e;rcases a with a|a|a
 .exact j k (.inl a) e
 .rcases d.BF k a with x|x
  .exact j k (.inr (.inl x)) e
  .omega
 .rcases d.read k a with x|x
  .exact j k (.inr (.inr x)) e
  .omega
theorem Z2.Az{r v w:World}{n J K tu sp q I nq:Nat}{Q:SM->SM->Prop}{f:Nat}{args:Array Value}{E:SM->Ending->Prop}{R:SM->SM->Prop}(hb:Z2 r v n J K sp q I nq Q)(B:Fr Nil v w)
 (hc:∀ c W X N M F p,Rk r w q n K 0 c (.slice none 0 0) W X N M F p->X.nb=nq->Calls Tryz.prog f args w fun e b=>E N.S e/\∃ l d i t s u,NStep X M w l d i b/\Rk r b q n tu 0 c (.slice none 0 0) t l d i s u/\R N.S d.S) :
 Calls Tryz.prog f args w fun e b=>∃ j,zK j/\E j e/\Z2 r b n J tu sp q I nq (fun S T=>Q S j/\R j T)/\Zl v b:=by
 have h:=hb.nil B;obtain⟨cp,A,Wp,Xp,Np,V,L,pp,Wq,Xq,y,Y,O,pq,C,m,D,o,h5,G,h7⟩:=h;refine(hc A Wq Xq y Y O pq m G).mono ?_;rintro e b ⟨he,l,d,i,t,s,u,g,hr,hR⟩;refine⟨y.S,m.ni.st.1,he,⟨cp,A,Wp,Xp,Np,V,L,pp,t,l,d,i,s,u,C.beside g.fr (fun k a e=>o k e (.inr (.inl a))) (fun k a=>m.yO k (.inr a)) (.inl D),hr,D,fun k a e=>?_,h5,g.same.nb.trans G,h7,hR⟩,(Zl.nil B).trans (Zl.node m.kp.st.node g.fr)⟩;have a0:=C.own_lt a;rcases e with e|e|e
 .exact o k a (.inl e)
 .rcases g.BF k e with x|x
  .exact o k a (.inr (.inl x))
  .omega
 .rcases g.read k e with x|x
  .exact o k a (.inr (.inr x))
  .omega
theorem UPut.AJ{n:Nat}{d c:ByteArray}{S T i j:SM}(h:Za n S T)(g:UPut n d c S i)(e:UPut n d c T j):Za n i j:=by
 unfold UPut at g e;split at g
 .rename_i hc
  rw[IC hc] at e;obtain⟨a,k,o⟩:=g;obtain⟨b,p,q⟩:=e;refine⟨?_,by rw[o,q];exact h.2⟩;rw[k,p];exact h.1.with d (l:=[_]) (m:=[_]) ⟨h.1.put d c a b,trivial⟩
 .rename_i hc
  rw[It hc] at e;rw[g,e];exact h
theorem UDel.AJ{n:Nat}{a:ByteArray}{S T d e:SM}(h:Za n S T)(c:UDel a S d)(b:UDel a T e):Za n d e:=by
 unfold UDel at c b;split at c
 .rename_i hc
  rw[IC hc] at b;exact⟨by rw[c.1,b.1];exact h.1.with a (l:=[]) (m:=[]) trivial,by rw[c.2,b.2];exact h.2⟩
 .rename_i hc
  rw[It hc] at b;rw[c,b];exact h
theorem UHint.AJ{n:Nat}{c:Int}{a:ByteArray}{S T e g:SM}(h:Za n S T)(d:UHint n c a S e)(b:UHint n c a T g):Za n e g:=by
 unfold UHint at d b;rw[<- h.2] at b;split at d
 .rename_i hc
  rw[IC hc] at b;exact⟨by rw[d.1,b.1];exact h.1,by rw[d.2,b.2]⟩
 .rename_i hc
  rw[It hc] at b;rw[d,b];exact h
theorem UAck.AJ{n:Nat}{S T c d:SM}(h:Za n S T)(b:UAck S c)(a:UAck T d):Za n c d:=by
 unfold UAck at b a;rw[<- h.2] at a;split at b
 .rename_i hc
  rw[IC hc] at a;exact⟨by rw[b.1,a.1];exact h.1,by rw[b.2,a.2]⟩
 .rename_i hc
  rw[It hc] at a;rw[b,a];exact h
theorem Tg{n:Nat}{a:ByteArray}{v:Ver}{S T:SM}(l:v.ov n=0)(h:Za n S T)(i:zK S)(j:zK T)(b:Z8 n a v=0):Zn (zl S.keys a) v=Zn (zl T.keys a) v/\zx n (Zu (zl S.keys a) v) (Zu (zl T.keys a) v):=by
 have d:=h.1.yI a;rw[WO a i.Aa,WO a j.Aa] at d;have f:∀ u∈zl S.keys a,1<=u.seq:=fun u e=>((i.get a).2.2 u e).one;have g:∀ u∈zl T.keys a,1<=u.seq:=fun u e=>((j.get a).2.2 u e).one;have c:foreign n v=true:=by
  unfold Z8 at b;split at b
  .cases b
  .split at b
   .cases b
   .split at b
    .cases b
    .rename_i x
     simpa using x
 unfold foreign zO at c;simp only[Hz,IF] at c;have k:v.node≠(n:Int):=c.2.2.1.2;have m:0<=v.node/\v.node<4:=c.2.2.1.1;exact⟨zx.way l k m d f g,zx.acc l k d f g⟩
theorem UAcc.AJ{n:Nat}{a:ByteArray}{v:Ver}{S T e g:SM}(k:v.ov n=0)(h:Za n S T)(i:zK S)(j:zK T)(c:UAcc n a v S e)(b:UAcc n a v T g):Za n e g:=by
 unfold UAcc at c b;split at c
 .rename_i hc
  obtain⟨o,p⟩:=Tg k h i j hc.1;rw[o] at hc;rw[IC hc] at b;exact⟨by rw[c.1,b.1];exact h.1.with a p,by rw[c.2,b.2];exact h.2⟩
 .rename_i hc
  have d:¬(Z8 n a v=0/\Zn (zl T.keys a) v=2):=fun x=>hc ⟨x.1,by rw[(Tg k h i j x.1).1];exact x.2⟩;rw[It d] at b;rw[c,b];exact h
theorem Vb{n:Nat}{a:ByteArray}{v:Ver}{S T:SM}(d:v.ov n=0)(h:Za n S T)(b:zK S)(c:zK T):Zz n a v (zl S.keys a)=Zz n a v (zl T.keys a):=by
 unfold Zz;split
 .rfl
 .rename_i hb
  rw[(Tg d h b c (Classical.not_not.1 hb)).1]
end Go.Proofs.YtkhnggkkiefcdaaGreatDoor
