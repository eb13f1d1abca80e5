/- larder: joined texts -/
import Derived.Test.YtkhnggkkiefcdaaGreatDoorKRAZ
namespace Go.Proofs.YtkhnggkkiefcdaaGreatDoor
open Go.RowKit
set_option maxRecDepth 100000
set_option maxHeartbeats 8000000
def RkS(f w:World)(e n t c a:Nat)(b:Value)(d:Nat)(Q:WM->SM->Prop):Prop:=∃ W X N M F p,Rk f w e n t c a b W X N M F p/\X.nb=d/\Q W N.S
theorem RkS.nil{m w w':World}{g n t d a:Nat}{c:Value}{e:Nat}{Q:WM->SM->Prop}(h:RkS m w g n t d a c e Q)(f:Fr Nil w w'):RkS m w' g n t d a c e Q:=by
 obtain⟨W,X,N,M,F,p,o,q,r⟩:=h;exact⟨W,X,N,M,F,p,o.nil f,q,r⟩
theorem RkS.imp{f w:World}{e n t c a:Nat}{b:Value}{d:Nat}{Q R:WM->SM->Prop}(h:RkS f w e n t c a b d Q)(l:∀ W S,Q W S->R W S):RkS f w e n t c a b d R:=by
 obtain⟨W,X,N,M,F,p,g,i,j⟩:=h;exact⟨W,X,N,M,F,p,g,i,l _ _ j⟩
theorem RkS.fr{g w:World}{r n t e a:Nat}{c:Value}{q:Nat}{Q:WM->SM->Prop}(h:RkS g w r n t e a c q Q):Fr Nil g w:=by
 obtain⟨W,X,N,M,F,p,o,y,A⟩:=h;exact o.kp.fr
theorem RkS.cell{r w:World}{e n t g a:Nat}{c:Value}{q:Nat}{Q:WM->SM->Prop}(h:RkS r w e n t g a c q Q):w.cell? ⟨e,1,none⟩=some (.pointer (some ⟨q,0,none⟩))/\w.cell? ⟨e,2,none⟩=some (.int .i64 (n:Int)):=by
 obtain⟨W,X,N,M,F,p,o,rfl,y⟩:=h;exact⟨o.kp.st.Ay.cell 1,o.kp.st.Ay.cell 2⟩
def T6(w:World)(a:Nat):Nat:=match w.cell? ⟨a,2,none⟩ with
 | some (.pointer (some p))=>match w.cell? ⟨p.block,1,none⟩ with
  | some (.slice _ n _)=>n
  | _=>0
 | _=>0
theorem LU{w:World}{X:NL}{N:NM}{M:DM}(h:NRep w X N M):T6 w X.nb=N.S.hints.length:=by
 have c:w.cell? ⟨X.nb,2,none⟩=some (.pointer (some ⟨X.sb,0,none⟩)):=h.Ay.cell 2;have a:w.cell? ⟨X.sb,1,none⟩=some X.LS.hv:=h.held.Ay.cell 1;obtain⟨d,b,e⟩:=zg h.held.hint;rw[e] at a;unfold T6;rw[c];simp only;rw[a]
theorem RkS.len{o w:World}{m n t c a:Nat}{b:Value}{d:Nat}{Q:WM->SM->Prop}(h:RkS o w m n t c a b d Q){k:Nat}(l:∀ W S,Q W S->S.hints.length=k):T6 w d=k:=by
 obtain⟨W,X,N,M,F,p,g,rfl,j⟩:=h;rw[LU g.kp.st.node];exact l _ _ j
theorem RkS.more{f w:World}{e n t u c a:Nat}{b:Value}{d:Nat}{Q:WM->SM->Prop}(h:RkS f w e n t c a b d Q)(l:t<=u):RkS f w e n u c a b d Q:=by
 obtain⟨W,X,N,M,F,p,g,i,j⟩:=h;exact⟨W,X,N,M,F,p,g.more l,i,j⟩
theorem RkS.many{s w:World}{r n t g b:Nat}{d:Value}{j k:Nat}(h:RkS s w r n t g b d j (fun _ S=>S.hints.length=k))(x:k<=1000) :
 Calls Tryz.prog 27 #[.pointer (some ⟨j,0,none⟩)] w fun e l=>∃ a c,e=.returned (.slice a k c)/\Fr Nil w l:=by
 obtain⟨W,X,N,M,F,p,o,rfl,i⟩:=h;refine(Vp X N M w o.kp.st.node (by rw[i];omega)).mono ?_;rintro v l ⟨y,rfl,q,f,_⟩;obtain⟨m,c,e⟩:=zg q;rw[i] at e;exact⟨m,c,by rw[e],f⟩
theorem RkS.yY(c:zl){B:Nat}{i w:World}{q n t f a:Nat}{b:Value}{l k:Nat}(h:RkS i w q n t f a b l (fun _ S=>S.hints.length=k+1))(d:zG B i)(C:B<=i.heap.size)(J:t+20<=980000) :
 Calls Tryz.prog 28 #[.pointer (some ⟨l,0,none⟩)] w fun e r=>e=.returned (.int .i64 0)/\RkS i r q n (t+10) f a b l (fun _ S=>S.hints.length=k):=by
 obtain⟨W,X,N,M,F,p,A,rfl,L⟩:=h;refine(A.yY c d C J (by omega)).mono ?_;rintro e r ⟨rfl,m,Q,y,o,v,x,s,K,E,D,O,G,j,rfl,I,_⟩;refine⟨rfl,x,y,o,v,s,K,E,D,?_⟩;show o.S.hints.length=k;rw[<- j.2];show(m.hints.drop 1).length=k;rw[G.2,Gk];omega
theorem RkS.vQ(f:zl){B:Nat}{q w:World}{v n t j b:Nat}{c:Value}{r:Nat}(h:RkS q w v n t j b c r (fun _ S=>S.hints=[]))(i:zG B q)(I:B<=q.heap.size)(Q:t+20<=980000)(a l:ByteArray)(K:zz a=true)(o:l.size<=128) :
 Calls Tryz.prog 22 #[.pointer (some ⟨r,0,none⟩),.string a,.string l] w fun e x=>∃ d:Int,e=.returned (.tuple #[.int .i64 d,.int .i64 0])/\RkS q x v n (t+10) j b c r (fun _ S=>S.hints=[]/\Has S.keys a l):=by
 obtain⟨W,X,N,M,F,p,s,rfl,G⟩:=h;refine(s.put f i I Q a l K o).mono ?_;rintro e x ⟨d,rfl,m,Y,E,C,A,D,y,T,L,J,V,o,g,⟨k,rfl⟩,O,_⟩;refine⟨d,rfl,D,E,C,A,y,T,L,J,?_,?_⟩
 .rw[<- g.2]
  show m.hints=[];rw[o.2,G]
 .rw[<- g.1]
  exact Has.put (by rw[o.1];exact s.ym) a l k
theorem RkS.vL(g:zl){B:Nat}{q w:World}{A n t l c:Nat}{d:Value}{s:Nat}{a v:ByteArray}(h:RkS q w A n t l c d s (fun _ S=>S.hints=[]/\Has S.keys a v))(j:zG B q)(O:B<=q.heap.size)(ht:t+20<=980000)(b x:ByteArray)(T:zz b=true)(o:x.size<=128)(r:a≠b) :
 Calls Tryz.prog 22 #[.pointer (some ⟨s,0,none⟩),.string b,.string x] w fun e C=>∃ f:Int,e=.returned (.tuple #[.int .i64 f,.int .i64 0])/\RkS q C A n (t+10) l c d s (fun _ S=>S.hints=[]/\Has S.keys a v):=by
 obtain⟨W,X,N,M,F,p,y,rfl,K,L⟩:=h;refine(y.put g j O ht b x T o).mono ?_;rintro e C ⟨f,rfl,m,mx,J,G,E,I,D,p',V,Q,hm,o,i,⟨k,rfl⟩,Y,_⟩;refine⟨f,rfl,I,J,G,E,D,p',V,Q,?_,?_⟩
 .rw[<- i.2]
  show m.hints=[];rw[o.2,K]
 .rw[<- i.1]
  show Has (Z0 m.keys b _) a v;rw[o.1];exact L.other y.ym r
theorem RkS.del(i:zl){B:Nat}{o w:World}{A n t l c:Nat}{d:Value}{x:Nat}{a y:ByteArray}(h:RkS o w A n t l c d x (fun _ S=>S.hints=[]/\Has S.keys a y))(j:zG B o)(O:B<=o.heap.size)(ht:t+20<=980000)(b:ByteArray)(T:zz b=true)(r:a≠b) :
 Calls Tryz.prog 30 #[.pointer (some ⟨x,0,none⟩),.string b] w fun e C=>∃ g:Int,e=.returned (.tuple #[.int .i64 g,.int .i64 0])/\RkS o C A n (t+10) l c d x (fun _ S=>S.hints=[]/\Has S.keys a y/\Z5 S.keys b=[]):=by
 obtain⟨W,X,N,M,F,p,q,rfl,K,L⟩:=h;refine(q.delete i j O ht b T).mono ?_;rintro e C ⟨g,rfl,m,mx,J,G,E,I,D,p',V,Q,hm,s,f,rfl,Y,_⟩;refine⟨g,rfl,I,J,G,E,D,p',V,Q,?_,?_,?_⟩
 .rw[<- f.2]
  show m.hints=[];rw[s.2,K]
 .rw[<- f.1]
  show Has (Z0 m.keys b _) a y;rw[s.1];exact L.other q.ym r
 .rw[<- f.1]
  show Z5 (Z0 m.keys b []) b=[];rw[s.1];exact LL q.ym b
theorem RkS.hint(s:zl){B:Nat}{E w:World}{L n t o d:Nat}{i:Value}{J:Nat}{a A b:ByteArray}(h:RkS E w L n t o d i J (fun _ S=>S.hints=[]/\Has S.keys a A/\Z5 S.keys b=[]))(y:zG B E)(hB:B<=E.heap.size)(ht:t+20<=980000)(c:Nat)(f:ByteArray)(hd:c<4)(a1:c≠n)(h0:f.size≠0)(a0:f.size<=64) :
 Calls Tryz.prog 31 #[.pointer (some ⟨J,0,none⟩),.int .i64 (c:Int),.string f] w fun e O=>e=.returned (.int .i64 0)/\RkS E O L n (t+10) o d i J (fun W S=>(∀ m,Z3 m S->Kpd a A b c f m)/\(o=1->∀ m∈W.st,Kpd a A b c f m)):=by
 obtain⟨W,X,N,M,F,p,C,rfl,K,h4,h5⟩:=h;have j:(N.self:Int)=(n:Int):=by rw[<- C.ni.self];exact C.node
 have x:Xg N (c:Int) f=none:=by
  have r:XX (N.self:Int) (c:Int) f=0:=by
   have h6:zR (c:Int)=true:=by unfold zR;simp only[Gr];omega
   have h7:decide ((c:Int)≠(N.self:Int))=true:=by rw[j];simp only[Gr];omega
   unfold XX;rw[h6,h7,Gl (by decide),Gl (by omega)]
  unfold Xg;rw[r,Gl (by simp),Gl (by rw[C.ro];decide),Gl (by rw[K];decide)]
 refine(C.hint s y hB ht (c:Int) f x).mono ?_;rintro e O ⟨rfl,m,mx,X',V,T,Y,Q,p',hr,hb,hm,G,l,rfl,I,_⟩;have D:Kpd a A b c f (m.hint (c:Int).toNat f):=⟨by show Has m.keys a A;rw[G.1];exact h4,by show Z5 m.keys b=[];rw[G.1];exact h5,by show m.hints++[_]=_;rw[G.2,K];rfl⟩;refine⟨rfl,Y,X',V,T,Q,p',hr,hb,fun m2 q=>⟨?_,?_,?_⟩,fun e1 m2 q=>?_⟩
 .rw[q.1,<- l.1];exact D.here
 .rw[q.1,<- l.1];exact D.gone
 .rw[q.2,<- l.2];exact D.hints
 .rcases I with e2|⟨e2,_⟩
  .rw[e2,Gg] at q
   rw[q];exact D
  .exact absurd e1 e2
theorem RkS.sync(c:zl){B:Nat}{g w:World}{o n t f a:Nat}{b:Value}{j:Nat}{K:LM->Prop}{P:Prop}(h:RkS g w o n t f a b j (fun W S=>(∀ m,Z3 m S->K m)/\(P->∀ m∈W.st,K m)))(d:zG B g)(A:B<=g.heap.size)(G:t+20<=980000) :
 Calls Tryz.prog 32 #[.pointer (some ⟨j,0,none⟩)] w fun e q=>e=.returned (.int .i64 0)/\RkS g q o n (t+10) f a b j (fun W _=>∀ m∈W.st,K m):=by
 obtain⟨W,X,N,M,F,p,x,rfl,y,_⟩:=h;refine(x.sync c d A G).mono ?_;rintro e q ⟨rfl,I,v,N',s,W',r,J,D,C,E,_,i⟩;refine⟨rfl,W',v,N',s,r,J,D,C,fun m l=>?_⟩;rw[i,Gg] at l;rw[l];exact y I E
theorem RkS.vK(o:zl){B:Nat}{v w:World}{G n t s d:Nat}{i:Value}{C:Nat}{a J b:ByteArray}{l:Nat}{I:ByteArray}(h:RkS v w G n t s d i C (fun W _=>∀ m∈W.st,Kpd a J b l I m))(r:zG B v)(hB:B<=v.heap.size)(ht:t+20<=980000)(f c:ByteArray)(hk:zz f=true)(y:c.size<=128)(V:a≠f)(Y:b≠f) :
 Calls Tryz.prog 22 #[.pointer (some ⟨C,0,none⟩),.string f,.string c] w fun e K=>∃ j:Int,e=.returned (.tuple #[.int .i64 j,.int .i64 0])/\RkS v K G n (t+10) s d i C (fun W _=>∀ m∈W.st,Kpd a J b l I m):=by
 obtain⟨W,X,N,M,F,p,q,rfl,D⟩:=h;refine(q.put o r hB ht f c hk y).mono ?_;rintro e K ⟨j,rfl,m,mx,T,Q,O,S,L,p',hr,hb,hm,y,a0,⟨k,rfl⟩,A,_⟩;have E:=(D m hm).put (by rw[y.1];exact q.ym) c k V Y;refine⟨j,rfl,S,T,Q,O,L,p',hr,hb,fun x g=>?_⟩;rcases A with e|⟨_,e⟩
 .rw[e,Gg] at g
  rw[g];exact E
 .rw[e] at g
  rcases Gf.1 g with g|g
  .exact D x g
  .rw[Gg] at g
   rw[g];exact E
structure Cr(w0 w:World)(sb db:Nat)(nv:Value)(n t calls:Nat)(nums:Value)(W:WM)(LD:DL)(M:DM):Prop where
 st:StC w sb db nv n calls nums LD M
 fr:Fr Nil w0 w
 low:w0.heap.size<=sb
 new:∀ k,Foot db LD M k->w0.heap.size<=k
 sh:∃ F p,Sh W M F p t
 node:W.node=(n:Int)
 room:W.room=-1
 top:calls<=t
theorem RkS.AH{Y w:World}{A n t T c:Nat}{j:Value}{nb:Nat}{Q:WM->SM->Prop}(h:RkS Y w A n t T c j nb Q)(b:Int)(r:InR b)(V:Value)(l:List Int)(s:ZZ Y V l)(O:∀ x,x∈l->InR x)(ht:t<=990000) :
 ∃ C,(∀ o,Fr Nil w o->o.cell? ⟨A,0,none⟩=some (.pointer (some ⟨C,0,none⟩)))/\∀ o,Fr Nil w o->Calls Tryz.prog 33 #[.pointer (some ⟨C,0,none⟩),.int .i64 b,V] o fun e w'=>e=.returned (.tuple #[])/\∃ W S LD M,Cr Y w' A C (.pointer (some ⟨nb,0,none⟩)) n t c j {W with ye:=true} LD M/\Q W S:=by
 obtain⟨W,X,N,M,F,p,D,rfl,h3⟩:=h;have q:=D.ni.bd;refine⟨X.db,fun o f=>(D.kp.st.Ay.fr f id).cell 0,fun o f=>?_⟩;have a:=D.nil f;refine(Vs b l V o X.db X.LD M a.kp.st.node.AH r.1 r.2 (s.fr a.kp.fr (fun _ _ _=>id)) (fun k I G e=>by have q1:=s.own k I G;have q2:=a.kp.new k (.inr (.inr (.inr (.inl e))));omega) O (fun f hf=>by have:=q.file hf;omega) (by have:=q.AA;omega) (fun d E=>by have:=q.yk d E;omega)).mono ?_;rintro e w' ⟨rfl,B,y⟩;obtain⟨F',p',L⟩:=a.ni.sh.AM b l;have K:¬Foot X.db X.LD M A:=a.kp.st.node.AH.apart a.kp.st.Ay.ty (by unfold DTy;decide);refine⟨rfl,W,N.S,B,_,⟨⟨a.kp.st.Ay.fr y.fr K,y.AK⟩,a.kp.fr.trans' y.fr (fun i hi e=>by have:=a.kp.new i (.inr (.inr (.inr (.inl e))));omega),a.kp.low,fun k G=>(y.AX k G).elim (fun e=>a.kp.new k (.inr (.inr (.inr (.inl e))))) (fun e=>Gc a.kp.fr.size e),⟨F',p',L⟩,a.node,a.room,a.top⟩,h3⟩
theorem Cr.steady(d:zl){B:Nat}{s w:World}{r K:Nat}{L:Value}{n t a:Nat}{b:Value}{W:WM}{J:DL}{M:DM}(h:Cr s w r K L n t a b W J M)(j:zG B s)(q:B<=s.heap.size)(S:t<=890000)(C:n<4)(c l:Int)(i:InR c)(G:InR l) :
 Calls Tryz.prog 25 #[.pointer (some ⟨r,0,none⟩),.int .i64 c,.int .i64 l] w fun e N=>e=.returned (.bool true)/\∃ x o m p v I,Rk s N r n (t+10) (zu l 5) (a+1) b p x o m v I/\Opd W ((M.yh 0).AP 0 0) (zu l 5) o m p:=by
 refine(Vg d B r K n a L b W J M c l t w h.st (j.fr q h.fr (fun _ e=>absurd e id)) (Gc q h.fr.size) (Gc q h.low) (fun k e=>Gc q (h.new k e)) h.sh S h.node C (by have:=h.top;omega) i G).mono ?_;rintro e N ⟨rfl,x,o,m,p,E,⟨v,I,D⟩,g,O,Q,y,A,f⟩;exact⟨rfl,x,o,m,p,v,I,Jv h.fr h.low h.st.Ay.lt h.new E D g O Q y A f h.node h.room (by have:=h.top;omega),g⟩
theorem Cr.kept(i:zl){B:Nat}{o w:World}{s L:Nat}{Y:Value}{n t c:Nat}{d:Value}{W:WM}{E:DL}{M:DM}{a A b:ByteArray}{g:Nat}{y:ByteArray}(h:Cr o w s L Y n t c d {W with ye:=true} E M)(Q:∀ m∈W.st,Kpd a A b g y m)(l:zG B o)(O:B<=o.heap.size)(V:t<=890000)(q:n<4)(f:Int)(j:InR f) :
 Calls Tryz.prog 25 #[.pointer (some ⟨s,0,none⟩),.int .i64 f,.int .i64 0] w fun e C=>e=.returned (.bool true)/\∃ X,RkS o C s n (t+10) 0 (c+1) d X (fun W _=>∀ m∈W.st,Kpd a A b g y m):=by
 refine(h.steady i l O V q f 0 j (by unfold InR;omega)).mono ?_;rintro e C ⟨rfl,x,I,G,K,D,p',T,r⟩;exact⟨rfl,x.nb,K,x,I,G,D,p',T,rfl,Kpd.opened (W:={W with ye:=true}) Q r⟩
theorem RkS.kept{T w:World}{Q n t B g:Nat}{l:Value}{o:Nat}{a r b:ByteArray}{i:Nat}{C:ByteArray}(h:RkS T w Q n t B g l o (fun W _=>∀ m∈W.st,Kpd a r b i C m))(ht:t<=1000000)(x:zz a=true)(y:zz b=true) :
 (Calls Tryz.prog 27 #[.pointer (some ⟨o,0,none⟩)] w fun e j=>∃ q,e=.returned q/\j.ownsRow 0 75 2 q 1 (Zj [(i,C)])/\Fr Nil w j) /\
 (∀ c,Fr Nil w c->Calls Tryz.prog 34 #[.pointer (some ⟨o,0,none⟩),.string a,.string r] c fun e j=>e=.returned (.bool true)/\Fr Nil c j) /\
 (∀ c,Fr Nil w c->Calls Tryz.prog 35 #[.pointer (some ⟨o,0,none⟩),.string b] c fun e j=>e=.returned (.bool true)/\Fr Nil c j):=by
 obtain⟨W,X,N,M,F,p,d,rfl,I⟩:=h;obtain⟨m,K,A,_⟩:=d.ni.wE;have s:=I m K;have E:N.S.hints=[(i,C)]:=by rw[<- A.2];exact s.hints
 have O:WJ (zr N.S.keys a) r=true:=by
  have:=s.here;rw[A.1] at this;exact this.asked d.ym
 have D:zr N.S.keys b=[]:=by
  have:=s.gone;rw[A.1,VP b d.ym] at this;exact this
 have L:=d.ni.nk;have Y:=(d.ni.st.1.get a).2.1;refine⟨?_,fun c f=>?_,fun c f=>?_⟩
 .refine(Vp X N M w d.kp.st.node (by rw[E];show 1<1000000;omega)).mono ?_
  rintro V j ⟨q,rfl,G,f,_⟩;rw[E] at G;exact⟨q,rfl,G,f⟩
 .have:=UQ X N M a r c (d.nil f).kp.st.node x (by omega) (by omega)
  rw[O] at this;exact this
 .have:=Qy X N M b c (d.nil f).kp.st.node y (by omega) (by rw[D];decide)
  rw[D] at this;exact this
def Mark(b:Bool):Prop:=b=b
def IB:ByteArray:={data:=#[120]}
def QF:ByteArray:={data:=#[102,111,114,32,121,111,117]}
def IC:ByteArray:={data:=#[112,101,114,104,97,112,115]}
theorem Rr.steady(d:zl){B:Nat}{l w:World}{q n t r:Nat}(h:Rr l w q n t r)(i:zG B l)(D:B<=l.heap.size)(G:t<=890000)(m:n<4)(c j:Int)(g:InR c)(o:InR j) :
 Calls Tryz.prog 25 #[.pointer (some ⟨q,0,none⟩),.int .i64 c,.int .i64 j] w fun e x=>e=.returned (.bool true)/\∃ a b I k,k<=32/\RkS l x q n (t+10) (zu j 5) a b I (fun _ S=>S.hints.length=k):=by
 obtain⟨a,b,K,W,X,N,M,F,p,E⟩:=h;refine(E.rk.steady d i D G m c j g o).mono ?_;rintro e x ⟨rfl,v,s,A,C,y,J,f,_⟩;exact⟨rfl,a+1,b,v.nb,s.S.hints.length,f.ni.st.1.hlen,C,v,s,A,y,J,f,rfl,rfl⟩
theorem LV(l:zl)(B:Nat)(node c X:Int)(bl:Bool)(K:List Int)(tv:Value)(a2:InR node)(hc:InR c)(h3:InR X)(sa:Option Addr)(cp:Nat)(os:List OpM)(w:World)(a5:zG B w)(hB:B<=w.heap.size)(i1:os≠[]->∃ a,sa=some a/\a.block<w.heap.size/\UT w a os)(i0:∀ o∈os,Vv w o)(a1:os.length<=88000)(i4:ZZ w tv K)(i5:∀ x,x∈K->InR x) :
 Calls Tryz.prog 9 #[.int .i64 node,.slice sa os.length cp,.int .i64 c,.bool bl,.int .i64 X,tv] w fun e D=>e=.returned (.bool true)/\Fr Nil w D:=by
 have c8:=Z (Zl node 4 w a2.1 a2.2 (by decide) (by decide));have b3:=ZH node (n:=4) (by decide);have b2:=Z (VL l B (zu node 4) b3 sa cp os w a5 hB i1 i0 a1);have f7:Hid (∀ h,Calls Tryz.prog 21 #[.int .i64 c,.int .i64 900] h fun e D=>e=.returned (.int .i64 (zu c 900))/\D=h):=fun h=>Zl c 900 h hc.1 hc.2 (by decide) (by decide);have j9:=ZH c (n:=900) (by decide);have j:=Z a5;have r:=Z hB;have f8:=Z (And.intro i4 i5);have HC:=Z hc;have j0:=Z h3;clear a5 hB i1 i0 i4 i5 hc h3;generalize zu c 900=k at f7 j9;generalize zu node 4=n at c8 b3 b2;obtain⟨m,hm⟩:∃ m,os.length=m:=⟨_,rfl⟩;have f0:=Z hm;rw[hm] at b2 a1;have d5:=b2;clear b2;obtain⟨N,i3⟩:∃ N,20+10*m=N:=⟨_,rfl⟩;rw[i3] at d5;have l2:N<=880020:=by omega
 clear i3 a1;rw[hm];clear hm f0;obtain⟨d,hd⟩:∃ d,(n+1)%4=d:=⟨_,rfl⟩;have HD:Hid (d<4/\d≠n):=by constructor <;> omega
 have j7:((n:Int)+1)%4=(d:Int):=by omega
 have l1:((n:Int)+1).tmod 4=(d:Int):=by rw[Int.tmod_eq_emod_of_nonneg (by omega)];exact j7
 have l3:IntKind.i64.wrap ((n:Int)+1)=(n:Int)+1:=by rw[Gs];omega
 have l4:IntKind.i64.wrap ((k:Int)+1)=(k:Int)+1:=by rw[Gs];omega
 have e7:Hid (∀ h,Fr Nil w h->Calls Tryz.prog 26 #[.int .i64 (k:Int)] h fun e D=>e=.returned (.string (Z4 k))/\Fr Nil h D):=fun h f=>Wh (k:Int) (by unfold InR;omega) h (j.out.fr r.out f (fun _ e=>absurd e id)).1.1;have e8:Hid (∀ h,Fr Nil w h->Calls Tryz.prog 26 #[.int .i64 ((k:Int)+1)] h fun e D=>e=.returned (.string (Z4 ((k+1:Nat):Int)))/\Fr Nil h D):=fun h f=>by
  have:=Wh ((k+1:Nat):Int) (by unfold InR;omega) h (j.out.fr r.out f (fun _ e=>absurd e id)).1.1;rw[show(((k+1:Nat)):Int)=(k:Int)+1 by push_cast;rfl] at this |-;exact this
 have c2:Hid (∀ h,Fr Nil w h->Calls Tryz.prog 29 #[.int .i64 (k:Int)] h fun e D=>e=.returned (.string (Za k))/\Fr Nil h D):=fun h f=>V5 k (by omega) h (j.out.fr r.out f (fun _ e=>absurd e id)).1.1;have a8:Hid (Z4 (k:Int)≠Z4 ((k+1:Nat):Int)):=UU (by omega) (by omega) (by omega);have g1:Hid ((Za k).size<=128):=by have:=WG (n:=k) (by omega);show _<=_;omega
 have c6:Hid (zz (Z4 (k:Int))=true):=Vi _;have a7:Hid (zz (Z4 ((k+1:Nat):Int))=true):=Vi _;have c3:Hid (∀ i:Nat,i<2->(∀ h,Fr Nil w h->Calls Tryz.prog 26 #[.int .i64 ((k:Int)+2+i)] h fun e D=>e=.returned (.string (Z4 ((k+2+i:Nat):Int)))/\Fr Nil h D)/\Z4 (k:Int)≠Z4 ((k+2+i:Nat):Int)/\Z4 ((k+1:Nat):Int)≠Z4 ((k+2+i:Nat):Int)/\zz (Z4 ((k+2+i:Nat):Int))=true):=fun i hi=>⟨fun h f=>by
  have:=Wh ((k+2+i:Nat):Int) (by unfold InR;omega) h (j.out.fr r.out f (fun _ e=>absurd e id)).1.1;rw[show(((k+2+i:Nat)):Int)=(k:Int)+2+i by push_cast;rfl] at this |-;exact this,UU (by omega) (by omega) (by omega),UU (by omega) (by omega) (by omega),Vi _⟩
 generalize Z4 (k:Int)=a at e7 a8 c6 c3;generalize Z4 ((k+1:Nat):Int)=b at e8 a8 a7 c3;generalize Za k=va at c2 g1;go_enter Tryz.func9,Tryz.ntmps9
 go_wp2_with (refine c8.out.mono ?_;rintro e h ⟨rfl,k3⟩;subst h)
 refine d5.out.mono ?_;rintro e w1 ⟨M,rfl,T⟩;obtain⟨Q,a4⟩:∃ Q,zu (if bl=true then 1 else 0) 5=Q:=⟨_,rfl⟩;have b8:Hid (bl=true->Q=1):=fun e=>by rw[<- a4,e];rfl
 have d3:Hid (Calls Tryz.prog 25 #[.pointer (some ⟨M,0,none⟩),.int .i64 c,.int .i64 (if bl=true then 1 else 0)] w1 fun e D=>e=.returned (.bool true)/\∃ y L nb k,k<=32/\RkS w D M n (N+10) Q y L nb (fun _ S=>S.hints.length=k)):=by
  rw[<- a4];exact T.steady l j.out r.out (by omega) b3 c _ HC.out (by split <;> unfold InR <;> omega)
 have c1:Hid (Mark bl):=show bl=bl from rfl;clear T d5 c8 hd a4;cases bl
 all_goals
  simp only[Ft,FI,Fk] at d3;go_wp2_with fail;refine d3.out.mono ?_;rintro e w2 ⟨rfl,y,L,nb,h0,j8,d9⟩;have j2:=d9.cell;have c9:=Z d9;clear d9 d3;go_wp2_with fail;refine(f7.out _).mono ?_;rintro e h ⟨rfl,k3⟩;subst h;go_wp2_with fail;refine(e7.out _ c9.out.fr).mono ?_;rintro e w3 ⟨rfl,f3⟩;have d0:=Z (c9.out.nil f3);clear f3 c9 j2;go_wp2_with fail;refine(e8.out _ d0.out.fr).mono ?_;rintro e w4 ⟨rfl,f4⟩;have d1:=Z (d0.out.nil f4);have j3:=d1.out.cell;clear f4 d0;have h6:h0<=32:=j8;go_wp2_with fail
  go_loopw [20] (fun _ D=>∃ q:Nat,q<=32/\RkS w D M n (N+10+10*(32-q)) Q y L nb (fun _ S=>S.hints.length=q)) (fun _ D=>T6 D nb)
  case atStart=>exact⟨h0,h6,d1.out.more (by omega)⟩
  case round =>
   obtain⟨q,hq,T⟩:=hrel;have HQ:=Z T;have g7:=T.cell;have HM:=Z (T.many (by omega));have h7:=T.len (k:=q) (fun _ _ e=>e);have f1:=Z h7;clear T h7 d1 j3;by_cases hz:q=0
   rotate_left
   .obtain⟨q,rfl⟩:∃ q',q=q'+1:=⟨q-1,by omega⟩
    have b6:=Z (fun h (f:Fr Nil wr h)=>(HQ.out.nil f).yY l j.out r.out (by omega));obtain⟨qq,d8⟩:∃ qq,q+1=qq:=⟨_,rfl⟩;rw[d8] at HM;have k6:0<(qq:Int):=by omega
    have k9:=Z d8;clear d8 hz;go_wp2_with fail;refine HM.out.mono ?_;rintro e w5 ⟨a0,g2,rfl,f5⟩;have j4:=(HQ.out.nil f5).cell;have i9:=Z (b6.out w5 f5);clear HM g7 f5 b6;go_wp2_with fail;refine i9.out.mono ?_;rintro e w6 ⟨rfl,v⟩;have G:=Z v;clear j4 v;go_wp2_with fail;exact⟨⟨q,by omega,by have:=G.out;rw[show N+10+10*(32-(q+1))+10=N+10+10*(32-q) by omega] at this;exact this⟩,by rw[f1.out,G.out.len (k:=q) (fun _ _ e=>e)];omega⟩
   .subst hz
    clear f1;go_wp2_with fail;refine HM.out.mono ?_;rintro e w5 ⟨a0,g2,rfl,f5⟩;have b4:=(HQ.out.nil f5).imp (R:=fun _ S=>S.hints=[]) (fun _ _ e=>GL e);rw[show N+10+10*(32-0)=N+330 by omega] at b4;have b0:=Z b4;have Y:=b4.cell;have p:Hid (∀ h,Fr Nil w5 h->h.cell? ⟨M,1,none⟩=some (.pointer (some ⟨nb,0,none⟩))/\h.cell? ⟨M,2,none⟩=some (.int .i64 (n:Int))):=fun h f=>(b0.out.nil f).cell;have f6:=Z (fun h (f:Fr Nil w5 h)=>(b0.out.nil f).vQ l j.out r.out (by omega) a va c6.out g1.out);clear b4 f5 HM HQ g7;go_wp2_with fail
    go_region_held3 (fun h=>h.cell? ⟨M,1,none⟩=some (.pointer (some ⟨nb,0,none⟩))/\h.cell? ⟨M,2,none⟩=some (.int .i64 (n:Int))) (first|assumption|go_keep|exact p.out _ zd)
     (first
       | (go_at_call 22;refine(f6.out _ t.out).mono ?_;rintro e w6 ⟨i7,rfl,v⟩;have G:=Z v;have e1:=v.cell;clear v)
       | (go_at_call 29;refine(c2.out _ (b0.out.fr.trans zd)).mono ?_;rintro e wg ⟨rfl,fg⟩;have t:Hid (Fr Nil w5 wg):=Fr.trans zd fg;have a6:=p.out wg t.out;clear fg))
    have c7:=Z (G.out.vL l j.out r.out (by omega) b IB a7.out (by decide) a8.out);unfold IB at c7;clear f6 p b0 t Y a6;go_wp2_with fail;refine c7.out.mono ?_;rintro e w7 ⟨k7,rfl,e0⟩;have e6:=Z (e0.del l j.out r.out (by omega) b a7.out a8.out);have j5:=e0.cell;clear e1 e0 c7 G;go_wp2_with fail;refine e6.out.mono ?_;rintro e w8 ⟨k8,rfl,I⟩;have c5:=Z (I.hint l j.out r.out (by omega) d QF HD.out.1 HD.out.2 (by decide) (by decide));unfold QF at c5;have d7:=I.cell;clear j5 I e6;go_wp2_with fail;refine c5.out.mono ?_;rintro e w9 ⟨rfl,J⟩;have d2:=Z J;have d4:=Z (J.sync l j.out r.out (by omega));have g8:=J.cell;clear d7 J c5;go_wp2_with fail
    first
     | (have h1:Hid (Mark false):=c1
        refine d4.out.mono ?_;rintro e w9 ⟨rfl,J⟩;have HK:=Z (J.more (u:=N+400) (by omega));clear J d4 d2 g8 h1;go_wp2_with fail)
     | (have h1:Hid (Mark true):=c1
        have HK:=Z ((d2.out.imp (R:=fun W _=>∀ m∈W.st,Kpd a va b d QF m) (fun _ _ e=>e.2 (b8.out (by simp)))).more (u:=N+400) (by omega));clear d4 d2 g8 h1)
    clear b8 c1
    go_loopw [15,29] (fun _ e3 D=>∃ i b5 A c0:Nat,i<=2/\e3=.int .i64 i/\RkS w D M n (N+400+20*i) c0 A L b5 (fun W _=>∀ m∈W.st,Kpd a va b d QF m)) (fun _ e3 _=>2-(intOf e3).toNat)
    case atStart=>exact⟨0,nb,y,Q,by omega,rfl,HK.out⟩
    case round =>
     obtain⟨i,b5,A,c0,hi,rfl,T⟩:=hrel;have HQ:=Z T;have Y:=T.cell;have p:Hid (∀ h,Fr Nil wr h->h.cell? ⟨M,1,none⟩=some (.pointer (some ⟨b5,0,none⟩))/\h.cell? ⟨M,2,none⟩=some (.int .i64 (n:Int))):=fun h f=>(HQ.out.nil f).cell;clear T HK;by_cases k0:i<2
     .have hl1:(i:Int)<2:=by omega
      have k1:IntKind.i64.wrap ((k:Int)+2)=(k:Int)+2:=by rw[Gs];omega
      have k2:IntKind.i64.wrap ((k:Int)+2+i)=(k:Int)+2+i:=by rw[Gs];omega
      have l5:IntKind.i64.wrap ((i:Int)+1)=(i:Int)+1:=by rw[Gs];omega
      obtain⟨h4,h8,h9,h5⟩:=c3.out i k0;have a9:=Z (fun h (f:Fr Nil wr h)=>(HQ.out.nil f).vK l j.out r.out (by omega) (Z4 ((k+2+i:Nat):Int)) IC h5 (by decide) h8 h9);have c4:=Z h4;generalize Z4 ((k+2+i:Nat):Int)=kk at c4 a9;unfold IC at a9;clear h4 h8 h9 h5;go_wp2_with fail
      go_region_held3 (fun h=>h.cell? ⟨M,1,none⟩=some (.pointer (some ⟨b5,0,none⟩))/\h.cell? ⟨M,2,none⟩=some (.int .i64 (n:Int))) (first|assumption|go_keep|exact p.out _ zd)
       (first
         | (go_at_call 22;refine(a9.out _ t.out).mono ?_;rintro e w6 ⟨i7,rfl,v⟩;have G:=Z v;have e1:=v.cell;clear v)
         | (go_at_call 26;refine(c4.out _ (HQ.out.fr.trans zd)).mono ?_;rintro e wg ⟨rfl,fg⟩;have t:Hid (Fr Nil wr wg):=Fr.trans zd fg;have a6:=p.out wg t.out;clear fg))
      obtain⟨db,h2,g9⟩:=G.out.AH X j0.out tv K f8.out.1 f8.out.2 (by omega);have j6:=h2 w6 (U _ _);have e4:=Z (g9 w6 (U _ _));clear h2 g9 Y a6 p a9 c4 t HQ e1 G k1 k2;go_wp2_with fail;refine e4.out.mono ?_;rintro e w7 ⟨rfl,W7,S7,l0,M7,b9,i2⟩;have e5:=Z (b9.kept l i2 j.out r.out (by omega) b3 (i:Int) (by unfold InR;omega));clear b9 i2 e4 j6;go_wp2_with fail;refine e5.out.mono ?_;rintro e w8 ⟨rfl,e2,I⟩;obtain⟨g4,g6,g5⟩:=I.kept (by omega) c6.out a7.out;have d7:=I.cell;have b1:=Z I;have e9:=Z g4;have g0:=Z g6;have f2:=Z g5;clear I g4 g6 g5 e5;go_wp2_with fail;refine e9.out.mono ?_;rintro e w9 ⟨lv,rfl,a3,f9⟩;obtain⟨g,g2,rfl,_,_⟩:=zy a3 (by simp);have V:=Z a3;have O:=Z f9;have p:Hid (∀ h,Fr Nil w9 h->h.cell? ⟨M,1,none⟩=some (.pointer (some ⟨e2,0,none⟩))/\h.cell? ⟨g,0,none⟩=some (.int .i64 (d:Int))/\h.cell? ⟨g,1,none⟩=some (.string {data:=#[102,111,114,32,121,111,117]})):=fun h f=>⟨(b1.out.nil (O.out.trans f)).cell.1,own_cell? (ze V.out f (fun _ _=>id)) 0 _ rfl,own_cell? (ze V.out f (fun _ _=>id)) 1 _ rfl⟩;have Y:=p.out w9 (U _ _);clear a3 f9 d7 e9;go_wp2_with fail
      go_region_held3 (fun h=>h.cell? ⟨M,1,none⟩=some (.pointer (some ⟨e2,0,none⟩))/\h.cell? ⟨g,0,none⟩=some (.int .i64 (d:Int))/\h.cell? ⟨g,1,none⟩=some (.string {data:=#[102,111,114,32,121,111,117]})) (first|assumption|go_keep|exact p.out _ zd)
       (first
         | (go_at_call 34;refine(g0.out _ (O.out.trans t.out)).mono ?_;rintro e i8 ⟨rfl,g3⟩;have E:=Z (t.out.trans g3);have i6:=p.out i8 E.out;clear g3)
         | (go_at_call 29;refine(c2.out _ ((b1.out.fr.trans O.out).trans zd)).mono ?_;rintro e wg ⟨rfl,fg⟩;have t:Hid (Fr Nil w9 wg):=Fr.trans zd fg;have a6:=p.out wg t.out;clear fg))
      clear Y a6 t g0;have b7:=Z (f2.out i8 (O.out.trans E.out));clear f2;go_wp2_with fail;refine b7.out.mono ?_;rintro e k4 ⟨rfl,d6⟩;have k5:=p.out k4 (E.out.trans d6);have j1:=Z (b1.out.nil ((O.out.trans E.out).trans d6));clear i6 d6 b7 p V O E b1;go_wp2_with fail;exact⟨⟨i+1,e2,A+1,0,by omega,by push_cast;rfl,by have:=j1.out;rw[show N+400+20*(i+1)=N+400+20*i+10+10 by omega];exact this⟩,by simp[intOf];omega⟩
     .have hl1:¬(i:Int)<2:=by omega
      go_wp2_with fail;go_ret;exact⟨rfl,HQ.out.fr⟩
end Go.Proofs.YtkhnggkkiefcdaaGreatDoor
