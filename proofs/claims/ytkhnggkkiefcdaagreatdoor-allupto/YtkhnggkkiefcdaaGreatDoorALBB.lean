/- larder: joined texts -/
import Derived.Test.YtkhnggkkiefcdaaGreatDoorALAZ
import Derived.Test.YtkhnggkkiefcdaaGreatDoorALBA
namespace Go.Proofs.YtkhnggkkiefcdaaGreatDoor
open Go.RowKit Proofs.Tryz
set_option maxRecDepth 100000
set_option maxHeartbeats 8000000
variable{K:Nat->Prop}{w:World}{R:Nat->Nat->List Value}{B t:Nat}{L:WL}{W:WM}{X:NL}{M M':DM}{p:Prop}
def Bkr(K:Nat->Prop)(w:World)(size:Nat)(R:Nat->Nat->List Value)(vs:List Value)(vm:List Nat):Prop :=
 vs.length=vm.length/\∀ i (a:i<vs.length) (b:i<vm.length),vm[i]<1000000000000/\(∃ n,n<=100000004/\Rds w vs[i] n size (R vm[i] n))/\∀ k,vs[i].ownBlock=some k->K k
structure Bok(K:Nat->Prop)(w:World)(bk:BK):Prop where
 vs:Bkr K w 8 Jr bk.vs bk.vm
 ns:Bkr K w 1 T6 bk.ns bk.nm
 hs:Bkr K w 2 Vt bk.hs bk.hm
theorem Bkr.fr{S K':Nat->Prop}{w':World}{size:Nat}{vs:List Value}{vm:List Nat}(h:Bkr K w size R vs vm)(f:Fr S w w')(r:∀ k,K k->¬S k)(o:∀ k,K k->K' k):Bkr K' w' size R vs vm :=
 ⟨h.1,fun i c g=>by
  obtain⟨a,⟨n,y,A⟩,b⟩:=h.2 i c g;exact⟨a,⟨n,y,A.fr f (fun _ k e=>r k (b k e))⟩,fun k e=>o k (b k e)⟩⟩
theorem Bok.fr{S K':Nat->Prop}{w':World}{g:BK}(h:Bok K w g)(f:Fr S w w')(e:∀ k,K k->¬S k)(c:∀ k,K k->K' k):Bok K' w' g :=
 ⟨h.vs.fr f e c,h.ns.fr f e c,h.hs.fr f e c⟩
def KB(K:Nat->Prop)(w b:World)(a:WL)(k:Nat):Prop:=K k\/(w.heap.size<=k/\k<b.heap.size/\¬WFoot a k)
theorem Bkr.add{S:Nat->Prop}{o j:World}{q:WL}{size b m:Nat}{vs d ne:List Value}{vm c:List Nat}(h:Bkr K o size R vs vm)(v:S7 vs vm d c ne 4 m)(hm:m<1000000000000)(y:Ws o j q size (R m) b ne)(x:b<=100000004)(f:Fr S o j)(u:∀ k,K k->¬S k):Bkr (KB K o j q) j size R d c:=by
 have s:=h.fr (K':=KB K o j q) f u (fun k e=>.inl e);obtain⟨rfl,rfl,C⟩:=v;refine⟨by rw[CN,CN,List.length_replicate,C,h.1],fun i t G=>?_⟩;by_cases r:i<vs.length
 .have hi2:i<vm.length:=by rw[<- h.1];exact r
  rw[BE r,BE hi2];exact s.2 i r hi2
 .have hle:vs.length<=i:=V
  have a:vm.length<=i:=by rw[<- h.1];exact hle
  rw[BV hle,BV a,wS];rw[CN] at t;obtain⟨⟨n,J,D⟩,A⟩:=y _ (CU (l:=ne) (n:=i-vs.length) V);exact⟨hm,⟨n,V,D⟩,fun k e=>.inr (A k e)⟩
theorem WAt.pd{b:World}{a:WL}{c:WM}(h:WAt K b a c):WAt (KB K w b a) b a c :=
 h.tU (fun _ e=>.inl e) (fun k e=>e.elim (h.tW k) (fun e=>⟨e.2.1,e.2.2⟩))
theorem Play.pd{d:World}{c:WL}{f:WM}{N:NM}(h:Play K B w L W X N M)(s:WStep K L w c f d):PStep K B L X M w (KB K w d c) c f X N M d:=by
 have b:=h.sX s;have a:=b.th;exact⟨⟨a.tE.pd,a.node,a.qg,a.nv,a.db,fun k e g=>e.elim (fun e=>h.rF k e g) (fun e=>by have:=h.node.lt g;omega),a.low⟩,fun _ e=>.inl e,fun k e=>e.elim .inl (fun e=>.inr e.1),b.fr,b.sd,b.wb,b.tv⟩
theorem TL(K:Nat->Prop)(L:WL)(W:WM)(g:Value)(l:List Ver)(b w:World)(o:WAt K b L W)(v:Fr Nil b w)(B:VRow w g l)(d:∀ k,g.ownBlock=some k->b.heap.size<=k)(C:l.length<100000)(i:W.base<100000000)(D:W.next<100000000)(hs:BSmall W.bk) :
 Calls prog 119 #[E L.wb 15,g] w fun e f=>e=.returned (.tuple #[])/\∃ c a,WStep K L b c (W.tV a) f/\Booked W.bk a/\c.ps=L.ps/\(Bok K b W.bk->Bok (KB K b f c) f a):=by
 refine(Mt K L W g l b w o v B d C i D hs).mono ?_;rintro e f ⟨rfl,c,a,ne,m,h,x,y,⟨r,s,t,u⟩,i,hm,A⟩;refine⟨rfl,c,a,h,x,y,fun q=>?_⟩;have p:∀ k,K k->¬WFoot L k:=fun k e=>(o.tW k e).2;have j:=q.fr (K':=KB K b f c) h.fr p (fun _ e=>.inl e);exact⟨q.vs.add i hm A V h.fr p,by rw[r,s];exact j.ns,by rw[t,u];exact j.hs⟩
theorem Mw(K:Nat->Prop)(L:WL)(W:WM)(g:Value)(l:List Value)(b w:World)(o:WAt K b L W)(v:Fr Nil b w)(B:w.ownsRow 0 9 1 g l.length l)(d:∀ k,g.ownBlock=some k->b.heap.size<=k)(C:l.length<100000000)(i:W.base<100000000)(D:W.next<100000000)(hs:BSmall W.bk) :
 Calls prog 120 #[E L.wb 15,g] w fun e f=>e=.returned (.tuple #[])/\∃ c a,WStep K L b c (W.tV a) f/\Booked W.bk a/\c.ps=L.ps/\(Bok K b W.bk->Bok (KB K b f c) f a):=by
 refine(Mu K L W g l b w o v B d C i D hs).mono ?_;rintro e f ⟨rfl,c,a,ne,m,h,x,y,⟨r,s,t,u⟩,i,hm,A⟩;refine⟨rfl,c,a,h,x,y,fun q=>?_⟩;have p:∀ k,K k->¬WFoot L k:=fun k e=>(o.tW k e).2;have j:=q.fr (K':=KB K b f c) h.fr p (fun _ e=>.inl e);exact⟨by rw[r,s];exact j.vs,q.ns.add i hm A V h.fr p,by rw[t,u];exact j.hs⟩
theorem Mx(K:Nat->Prop)(L:WL)(W:WM)(g:Value)(l:List (Nat × ByteArray))(b w:World)(o:WAt K b L W)(v:Fr Nil b w)(B:w.ownsRow 0 75 2 g l.length (zI l))(d:∀ k,g.ownBlock=some k->b.heap.size<=k)(C:l.length<100000000)(i:W.base<100000000)(D:W.next<100000000)(hs:BSmall W.bk) :
 Calls prog 122 #[E L.wb 15,g] w fun e f=>e=.returned (.tuple #[])/\∃ c a,WStep K L b c (W.tV a) f/\Booked W.bk a/\c.ps=L.ps/\(Bok K b W.bk->Bok (KB K b f c) f a):=by
 refine(Mv K L W g l b w o v B d C i D hs).mono ?_;rintro e f ⟨rfl,c,a,ne,m,h,x,y,⟨r,s,t,u⟩,i,hm,A⟩;refine⟨rfl,c,a,h,x,y,fun q=>?_⟩;have p:∀ k,K k->¬WFoot L k:=fun k e=>(o.tW k e).2;have j:=q.fr (K':=KB K b f c) h.fr p (fun _ e=>.inl e);exact⟨by rw[r,s];exact j.vs,by rw[t,u];exact j.ns,q.hs.add i hm A V h.fr p⟩
structure Lv(K:Nat->Prop)(B:Nat)(w:World)(L:WL)(W:WM)(X:NL)(N:NM)(M:DM)(t:Nat):Prop where
 sZ:Play K B w L W X N M
 pj:∃ F p,NI W N M F p t
 ps:L.ps≠[]
structure Cl(K:Nat->Prop)(w:World)(L:WL)(W:WM)(LD:DL)(M:DM)(t:Nat):Prop where
 tE:WAt K w L W
 sf:DRep w L.db LD M
 rF:∀ k,K k->¬Foot L.db LD M k
 pj:∃ F p,Sh W M F p t
 ps:L.ps≠[]
 nv:L.nv=.pointer none
def KBk(K:Nat->Prop)(c:BK)(w:World)(b:Nat->Prop)(a:BK)(d:World):Prop:=(∀ k,b k->K k\/w.heap.size<=k)/\(Bok K w c->Bok b d a)
theorem KBk.trans{g o r:Nat->Prop}{s t x:BK}{c w2 y:World}(h:KBk g s c o t w2)(k:KBk o t w2 r x y)(hs:c.heap.size<=w2.heap.size):KBk g s c r x y :=
 ⟨fun i e=>(k.1 i e).elim (h.1 i) (fun e=>.inr (CO hs e)),fun e=>k.2 (h.2 e)⟩
def Nx(K:Nat->Prop)(bk:BK)(B:Nat)(P:Nat->Prop)(g:Nat)(tv:Value)(w:World)(t:Nat)(e:World):Prop :=
 Fr P w e/\((∃ b a d f h M',Lv b B e a d f h M' t/\a.wb=g/\a.tv=tv/\(∀ k,PFoot a f M' k->P k\/w.heap.size<=k)/\KBk K bk w b d.bk e) \/
  (∃ b a d c M',Cl b e a d c M' t/\a.wb=g/\a.tv=tv/\(∀ k,WFoot a k->P k\/w.heap.size<=k)/\(∀ k,Foot a.db c M' k->P k\/w.heap.size<=k)/\KBk K bk w b d.bk e))
theorem WM.nl(W:WM)(m:LM):(W.rH m).bk=W.bk:=by unfold WM.rH;simp only;split <;> rfl
theorem PStep.tC{a:Nat->Prop}{c:WL}{e:WM}{f:NL}{d:NM}{b:World}{bk:BK}(h:PStep K B L X M w a c e f d M' b)(g:∀ k,K k->¬PFoot L X M k):KBk K bk w a bk b :=
 ⟨h.new,fun i=>i.fr h.fr g h.old⟩
theorem Nx.ru{b:Nat->Prop}{c:WL}{a:WM}{i:NL}{d:NM}{g:World}{bk:BK}(h:PStep K B L X M w b c a i d M' g)(k:∃ F p,NI a d M' F p t)(l:c.ps≠[])(j:KBk K bk w b a.bk g):Nx K bk B (PFoot L X M) L.wb L.tv w t g :=
 ⟨h.fr,.inl ⟨b,c,a,i,d,M',⟨h.th,k,l⟩,h.wb,h.tv,h.sd,j⟩⟩
theorem Nx.ts{c:Nat->Prop}{L' g:WL}{W' a:WM}{d:NL}{s:NM}{q r:World}{m:BK}(h:PStep K B L X M w c L' W' d s M' q)(k:Off c L' d M' q g a r)(o:∃ F p,Sh a M' F p t)(u:∀ k,K k->¬PFoot L X M k)(x:a.bk=m):Nx K m B (PFoot L X M) L.wb L.tv w t r:=by
 have f:=h.fr.tk k.fr (fun i o e=>(h.sd i e).resolve_right V);refine⟨f,.inr ⟨c,g,a,d.LD,M',⟨k.th,k.sf,k.rF,o,k.ps,k.nv⟩,k.wb.trans h.wb,k.tv.trans h.tv,fun i e=>?_,fun i e=>?_,h.new,fun y=>by rw[x];exact y.fr f u h.old⟩⟩
 .exact(k.sd i e).elim (h.sd i) (fun e=>.inr (CO h.fr.size e))
 .rw[k.db] at e
  exact h.sd i (.inr (.inr (.inr (.inr (.inl e)))))
theorem Aft.held{mx:LM}{e:Option Int}{N':NM}{r:Nat}(h:Aft W mx M e N' M' r):Zc N'.S/\N'.S.uR.length<=r:=by
 obtain⟨g,p',X,_,_,L⟩:=h.body;have d:=X.le;have b:N'.S=atF g g.length:=X.held;have key:∀ (st:List LM) (mo:Nat),(∀ m∈st,MOk W.node m r)->Hist st g p' True->ZB W.node W.uS mo g p'->Zc N'.S/\N'.S.uR.length<=r:=fun st mo hm s l=>by
  obtain⟨ml,C,hrel,_⟩:=s.tu d;have a:=l g.length d (CP _);rw[<- b] at a hrel;exact⟨a.1,by rw[<- hrel.1];exact(hm ml (AV C)).uR⟩
 rcases L with⟨k,f⟩|⟨_,⟨k,f⟩|⟨n,⟨F0,x0,hF,A,q,B,l,_⟩,hn⟩⟩
 .exact key _ _ (fun m hm=>by
   rcases CV.1 hm with hm|hm
   .exact h.cm.qe m hm
   .rw[CX] at hm;subst hm;exact h.qe) k f
 .exact key _ _ h.cm.qe k f
 .have a:=l g.length d (CP _)
  rw[<- b] at a q;refine⟨a.1,?_⟩;obtain⟨K,key,v,D,k2,k3,k4,k5,k6,k7,k8⟩:=q;have c:N'.S.uR.length=mx.uR.length:=by
   exact GU
  rw[c];exact h.qe.uR
theorem MOk.mB{node:Int}{m:LM}(h:MOk node m t)(b:t<=10000000):ZR m.uR/\m.uR.length<100000000/\(∀ e∈m.uR,e.2.length<100000)/\m.uU.length<1000000 :=
 ⟨h.rp,by have:=h.uR;omega,fun e a=>by have:=h.oB e a;omega,by have:=h.uU;omega⟩
theorem WM.oY(a:Bd M t)(c:t<=1000000)(b:M.room=W.qA)(h:M.room<M.sW+2000):¬(2000:Int)<=W.free M:=by
 have g:=a.sW c;have i:=a.r0;have j:=a.r1;have d:M.rE=M.sW:=M.pP V;have e:(if W.room<0 then 1152921504606846976 else W.room)=M.room:=b.symm;unfold WM.free;rw[e,d];have f:IntKind.i64.wrap (M.room-(M.sW:Int))=M.room-(M.sW:Int):=by rw[Bu];omega
 rw[f];omega
theorem Ed(m K:Nat->Prop)(B:Nat)(i:WL)(y:NL)(a:DM)(v:World)(L:WL)(W:WM)(X:NL)(N:NM)(M:DM)(w:World)(q:Nat)(J:LM)(e:Option Int)(t0 t:Nat)(fr:Int)
 (hs:PStep m B i y a v K L W X N M w)(j:L.ps≠[])(hq:MRep K w q J)(S:q≠L.ps[L.ps.length-1]'(by have:=yl.2 j;omega))(b:Aft W J a e N M t)(ht:t<=900000)(hb:Bd a t0)(a4:t0<=1000000)(a0:a.room=W.qA)(he:e=none\/e=some 9\/e=some 10)(R:fr=W.free a)(o:BK)(C:∀ k,m k->¬PFoot i y a k)(f:W.bk=o) :
 Calls prog 110 #[E L.wb 0,E q 0,I (Zt e),.agg #[I a.uT,I a.tr],I fr] w fun e g=>e=.returned (.bool true)/\Nx m o B (PFoot i y a) i.wb i.tv v t g:=by
 have hp:=yl.2 j;have s:=hs.th.tE.qB;have a2:=b.len;have a5:=b.ww;rcases b.rD.1 with⟨rfl,A,h2,h3⟩|⟨A,hx⟩
 .have hc:=Hv K L W X.LD M q J fr a.tr w hs.th.tE hs.th.tI hp V hq S V
  rw[A] at hc;refine hc.mono ?_;rintro e g ⟨rfl,L',u,c⟩;exact⟨rfl,Nx.ru (hs.trans (hs.th.sX u)) b.rH c (by rw[WM.nl,f];exact(hs.trans (hs.th.sX u)).tC C)⟩
 .obtain⟨x,rfl⟩:∃ x,e=some x:=by rcases hx with⟨e,_⟩|⟨e,_⟩ <;> exact⟨_,e⟩
  have p:Zt (some x)=x:=rfl;have a1:(x=9/\M.uT=a.uT+1/\M.tr=a.tr)\/(x=10/\M.uT=a.uT+1/\M.tr=a.tr+1):=by
   rcases hx with⟨e,h⟩|⟨e,h,_⟩
   .exact .inl ⟨BA e,A,h⟩
   .exact .inr ⟨BA e,A,h⟩
  have hn:W.st[L.ps.length-1]?=some (W.st[L.ps.length-1]' V):=CS _;have T:MOk W.node (W.st[L.ps.length-1]' V) t:=b.cm.qe _ (CU _);have r:=b.held;have D:=b.cm.uS;have a3:=r.1.qT;rw[p];refine DX K B L W X N M q J _ x a.uT a.tr fr w hs.th hp V hq hn a1 ?_ (fun l G=>?_) V V r.1 V (fun g=>Nx m o B (PFoot i y a) i.wb i.tv v t g) ?_ ?_ ?_
  .rintro⟨rfl,h⟩
   rw[R] at h;exact WM.oY hb V a0 (b.sM rfl) h
  .rcases BC.1 G with rfl|G
   .exact b.qe.mB V
   .rw[CX] at G
    rw[G];exact T.mB V
  .intro hd L' g ho
   exact Nx.ts hs ho (b.ts hd) C f
  .intro hd m' hm' Q L' g c d
   exact Nx.ru (hs.trans d) ((b.nQ hd).1 m' hm') c (by show KBk m o v Q W.bk g;rw[f];exact(hs.trans d).tC C)
  .intro hd hno
   obtain⟨h4,h5⟩:=(b.nQ hd).2 hno;obtain⟨h6,h7⟩:=h5 _ (by rw[<- s];exact hn);exact⟨h4,_,h6,fun Q g d=>Nx.ru (hs.trans d) h7 j (by show KBk m o v Q W.bk g;rw[f];exact(hs.trans d).tC C)⟩
theorem WAt.nO(h:WAt K w L W)(b:Nat):WAt K (w.setCell (Y L.wb 4) (E b 0)) {L with db:=b} W/\Fr (fun k=>k=L.wb) w (w.setCell (Y L.wb 4) (E b 0)):=by
 have f:Fr (fun k=>k=L.wb) w (w.setCell (Y L.wb 4) (E b 0)):=Fr.set (S:=fun k=>k=L.wb) (p:=⟨L.wb,4,none⟩) (U _ _) (fun _=>rfl) _;refine⟨h.sL (L':={L with db:=b}) (W':=W) ?_ f rfl rfl rfl rfl rfl rfl rfl rfl rfl rfl rfl,f⟩;have:=h.td.set 4 (E b 0)
 simpa [WM.cells] using this
theorem WAt.oN(h:WAt K w L W)(v:Value):WAt K (w.setCell (Y L.wb 5) v) {L with nv:=v} W/\Fr (fun k=>k=L.wb) w (w.setCell (Y L.wb 5) v):=by
 have f:Fr (fun k=>k=L.wb) w (w.setCell (Y L.wb 5) v):=Fr.set (S:=fun k=>k=L.wb) (p:=⟨L.wb,5,none⟩) (U _ _) (fun _=>rfl) _;refine⟨h.sL (L':={L with nv:=v}) (W':=W) ?_ f rfl rfl rfl rfl rfl rfl rfl rfl rfl rfl rfl,f⟩;have:=h.td.set 5 v
 simpa [WM.cells] using this
def RFoot(L:WL)(a:DL)(M:DM)(k:Nat):Prop:=WFoot L k\/Foot L.db a M k
theorem Kb(K:Nat->Prop)(L:WL)(W:WM)(m:DL)(M:DM)(y:Lay)(p t:Nat)(b:Int)(a:List Int)(tv:Value)(w:World)(h:WAt K w L W)(Q:DRep w L.db m M)(l:∀ k,K k->¬Foot L.db m M k)(R:-9223372036854775808<=b)(S:b<=9223372036854775807)
 (B:Yp w tv a)(C:∀ k,a≠[]->tv.ownBlock=some k->¬Foot L.db m M k)(D:∀ x,x∈a->-9223372036854775808<=x/\x<=9223372036854775807)(hl:Lg M y p t)(ht:t<=900000) :
 Calls prog 52 #[E L.wb 0,I b,tv] w fun e X=>e=.returned (.tuple #[])/\∃ i,WAt K X {L with nv:=.pointer none} {W with rZ:=true}/\DRep X L.db i (M.sj b a)/\Fr (RFoot L m M) w X/\∀ k,Foot L.db i (M.sj b a) k->Foot L.db m M k\/w.heap.size<=k:=by
 have G:=hl.bd;have a0:=G.tB;have u:=h.td.cell;simp only[WM.cells] at u;have J:=Z (M9 b a tv w L.db m M Q R S B C D (fun f hf=>by have:=G.uV hf;omega) V (fun d T=>by have:=G.sD d T;omega));have HH:=Z h;have HD:=Z Q;have q:=Z l;clear h Q l B C D G hl;go_enter func52,ntmps52;go_wp2_with fail;refine J.o.mono ?_;rintro e w1 ⟨rfl,i,hs⟩;have g:=HH.o.fr hs.fr (fun k A e=>HH.o.sf HD.o A e) q.o;obtain⟨s,o⟩:=g.oN (.pointer none);have j:=WStep.set s 7 (.bool true) (L':={L with nv:=.pointer none}) (W':={W with rZ:=true}) ai rfl rfl rfl rfl rfl rfl rfl rfl rfl rfl rfl rfl rfl;have F3:=(hs.fr.mono (S':=RFoot L m M) (fun k _ e=>.inr e)).tk ((o.mono (S':=WFoot L) (fun k _ e=>.inl e)).tk (S':=WFoot L) j.fr (fun k _ e=>e)) (fun k _ e=>.inl e);have r:=(hs.th.fr o (fun k A e=>g.sf hs.th (.inl e) A)).fr j.fr (fun k A e=>g.sf hs.th e A);have c:=Z (And.intro j.th (And.intro r (And.intro F3 hs.sd)));have N:=g.td.cell;have a1:=g.td.frozen;simp only[WM.cells] at N;clear u hs g s o j F3 r;go_wp2_with fail;exact Aw (v:=.tuple #[]) af rfl ⟨rfl,i,c.o.1,c.o.2.1,c.o.2.2.1,c.o.2.2.2⟩
theorem RM(F:FuncId)(K:Nat->Prop)(L:WL)(W:WM)(r:Nat)(o:OpM)(w:World)(h:WAt K w L W)(j:L.nv=E r 0)(p:o.kind=2/\F=61\/o.kind=3/\F=61\/o.kind=4/\F=62)(Q:World->Prop)
 (l:∀ s,Fr Nil w s->Calls prog F #[E L.wb 0,.agg o.cells.toArray] s fun e m=>e=.returned (.bool true)/\Q m) :
 Calls prog 18 #[E L.wb 0,.agg o.cells.toArray] w fun e m=>e=.returned (.bool true)/\Q m:=by
 obtain⟨f,a,b,c,key,g,v,d⟩:=o;simp only at p;simp only[OpM.cells,Ver.cells,CZ,Ba] at l |-;have k:Fr Nil w (w.alloc (.cells #[I f,I a,I b,I c,.string key,.string g,I v.node,I v.seq,I v.o0,I v.o1,I v.o2,I v.o3,.string v.value,.bool v.ts,d] 39)):=(U _ _).alloc _;have i:=Blk.new w [I f,I a,I b,I c,.string key,.string g,I v.node,I v.seq,I v.o0,I v.o1,I v.o2,I v.o3,.string v.value,.bool v.ts,d] 39;have A:(w.alloc (.cells #[I f,I a,I b,I c,.string key,.string g,I v.node,I v.seq,I v.o0,I v.o1,I v.o2,I v.o3,.string v.value,.bool v.ts,d] 39)).cell? (Y L.wb 5)=some (E r 0):=by rw[<- j];exact(h.nil k).td.cell 5
 have y:=i.cell;have u:=Z k;have t:=Z (l _ k);clear h k i l j;rcases p with⟨rfl,rfl⟩|⟨rfl,rfl⟩|⟨rfl,rfl⟩
 all_goals
  go_enter xk,yV
  go_wp2_with (refine t.o.mono ?_;rintro e B ⟨rfl,q⟩;have x:=Z q;clear q)
  go_ret;exact⟨rfl,x.o⟩
theorem RN(F:FuncId)(K:Nat->Prop)(L:WL)(W:WM)(r:Nat)(o:OpM)(w:World)(h:WAt K w L W)(j:L.nv=E r 0)(p:o.kind=7/\F=63\/o.kind=9/\F=63\/o.kind=11/\F=64)(Q:World->Prop)
 (l:∀ s,Fr Nil w s->Calls prog F #[E L.wb 0,.agg o.cells.toArray] s fun e m=>e=.returned (.bool true)/\Q m) :
 Calls prog 18 #[E L.wb 0,.agg o.cells.toArray] w fun e m=>e=.returned (.bool true)/\Q m:=by
 obtain⟨f,a,b,c,key,g,v,d⟩:=o;simp only at p;simp only[OpM.cells,Ver.cells,CZ,Ba] at l |-;have k:Fr Nil w (w.alloc (.cells #[I f,I a,I b,I c,.string key,.string g,I v.node,I v.seq,I v.o0,I v.o1,I v.o2,I v.o3,.string v.value,.bool v.ts,d] 39)):=(U _ _).alloc _;have i:=Blk.new w [I f,I a,I b,I c,.string key,.string g,I v.node,I v.seq,I v.o0,I v.o1,I v.o2,I v.o3,.string v.value,.bool v.ts,d] 39;have A:(w.alloc (.cells #[I f,I a,I b,I c,.string key,.string g,I v.node,I v.seq,I v.o0,I v.o1,I v.o2,I v.o3,.string v.value,.bool v.ts,d] 39)).cell? (Y L.wb 5)=some (E r 0):=by rw[<- j];exact(h.nil k).td.cell 5
 have y:=i.cell;have u:=Z k;have t:=Z (l _ k);clear h k i l j;rcases p with⟨rfl,rfl⟩|⟨rfl,rfl⟩|⟨rfl,rfl⟩
 all_goals
  go_enter xk,yV
  go_wp2_with (refine t.o.mono ?_;rintro e B ⟨rfl,q⟩;have x:=Z q;clear q)
  go_ret;exact⟨rfl,x.o⟩
theorem Kc(F:FuncId)(K:Nat->Prop)(L:WL)(W:WM)(r:Nat)(o:OpM)(w:World)(h:WAt K w L W)(j:L.nv=E r 0)(p:o.kind=5/\F=65\/o.kind=6/\F=65)(Q:World->Prop)
 (l:∀ s,Fr Nil w s->Calls prog F #[E L.wb 0,.agg o.cells.toArray] s fun e m=>e=.returned (.bool true)/\Q m) :
 Calls prog 18 #[E L.wb 0,.agg o.cells.toArray] w fun e m=>e=.returned (.bool true)/\Q m:=by
 obtain⟨f,a,b,c,key,g,v,d⟩:=o;simp only at p;simp only[OpM.cells,Ver.cells,CZ,Ba] at l |-;have k:Fr Nil w (w.alloc (.cells #[I f,I a,I b,I c,.string key,.string g,I v.node,I v.seq,I v.o0,I v.o1,I v.o2,I v.o3,.string v.value,.bool v.ts,d] 39)):=(U _ _).alloc _;have i:=Blk.new w [I f,I a,I b,I c,.string key,.string g,I v.node,I v.seq,I v.o0,I v.o1,I v.o2,I v.o3,.string v.value,.bool v.ts,d] 39;have A:(w.alloc (.cells #[I f,I a,I b,I c,.string key,.string g,I v.node,I v.seq,I v.o0,I v.o1,I v.o2,I v.o3,.string v.value,.bool v.ts,d] 39)).cell? (Y L.wb 5)=some (E r 0):=by rw[<- j];exact(h.nil k).td.cell 5
 have y:=i.cell;have u:=Z k;have t:=Z (l _ k);clear h k i l j;rcases p with⟨rfl,rfl⟩|⟨rfl,rfl⟩
 all_goals
  go_enter xk,yV
  go_wp2_with (refine t.o.mono ?_;rintro e B ⟨rfl,q⟩;have x:=Z q;clear q)
  go_ret;exact⟨rfl,x.o⟩
theorem Kd(F:FuncId)(K:Nat->Prop)(L:WL)(W:WM)(r:Nat)(o:OpM)(w:World)(h:WAt K w L W)(j:L.nv=E r 0)(p:o.kind=8/\F=65\/o.kind=10/\F=65)(Q:World->Prop)
 (l:∀ s,Fr Nil w s->Calls prog F #[E L.wb 0,.agg o.cells.toArray] s fun e m=>e=.returned (.bool true)/\Q m) :
 Calls prog 18 #[E L.wb 0,.agg o.cells.toArray] w fun e m=>e=.returned (.bool true)/\Q m:=by
 obtain⟨f,a,b,c,key,g,v,d⟩:=o;simp only at p;simp only[OpM.cells,Ver.cells,CZ,Ba] at l |-;have k:Fr Nil w (w.alloc (.cells #[I f,I a,I b,I c,.string key,.string g,I v.node,I v.seq,I v.o0,I v.o1,I v.o2,I v.o3,.string v.value,.bool v.ts,d] 39)):=(U _ _).alloc _;have i:=Blk.new w [I f,I a,I b,I c,.string key,.string g,I v.node,I v.seq,I v.o0,I v.o1,I v.o2,I v.o3,.string v.value,.bool v.ts,d] 39;have A:(w.alloc (.cells #[I f,I a,I b,I c,.string key,.string g,I v.node,I v.seq,I v.o0,I v.o1,I v.o2,I v.o3,.string v.value,.bool v.ts,d] 39)).cell? (Y L.wb 5)=some (E r 0):=by rw[<- j];exact(h.nil k).td.cell 5
 have y:=i.cell;have u:=Z k;have t:=Z (l _ k);clear h k i l j;rcases p with⟨rfl,rfl⟩|⟨rfl,rfl⟩
 all_goals
  go_enter xk,yV
  go_wp2_with (refine t.o.mono ?_;rintro e B ⟨rfl,q⟩;have x:=Z q;clear q)
  go_ret;exact⟨rfl,x.o⟩
theorem Js(K:Nat->Prop)(L:WL)(W:WM)(N:Nat)(o:OpM)(w:World)(h:WAt K w L W)(r:L.nv=E N 0)(M:o.kind≠1/\o.kind≠12/\o.kind≠13/\o.kind≠14/\o.kind≠2/\o.kind≠3/\o.kind≠4/\o.kind≠7/\o.kind≠9/\o.kind≠11/\o.kind≠15/\o.kind≠5/\o.kind≠6/\o.kind≠8/\o.kind≠10) :
 Calls prog 18 #[E L.wb 0,.agg o.cells.toArray] w fun e w'=>e=.returned (.bool true)/\Fr Nil w w':=by
 obtain⟨d,a,b,c,key,g,v,f⟩:=o;simp only at M;obtain⟨u,k,l,m,x,y,A,D,J,j,p,B,C,G,i⟩:=M;have e1:(d==1)=false:=by simp[u]
 have S:(d==12)=false:=by simp[k]
 have T:(d==13)=false:=by simp[l]
 have X:(d==14)=false:=by simp[m]
 have e2:(d==2)=false:=by simp[x]
 have e3:(d==3)=false:=by simp[y]
 have e4:(d==4)=false:=by simp[A]
 have e7:(d==7)=false:=by simp[D]
 have e9:(d==9)=false:=by simp[J]
 have R:(d==11)=false:=by simp[j]
 have a0:(d==15)=false:=by simp[p]
 have e5:(d==5)=false:=by simp[B]
 have e6:(d==6)=false:=by simp[C]
 have e8:(d==8)=false:=by simp[G]
 have Q:(d==10)=false:=by simp[i]
 simp only[OpM.cells,Ver.cells,CZ,Ba];have t:Fr Nil w (w.alloc (.cells #[I d,I a,I b,I c,.string key,.string g,I v.node,I v.seq,I v.o0,I v.o1,I v.o2,I v.o3,.string v.value,.bool v.ts,f] 39)):=(U _ _).alloc _;have q:=Blk.new w [I d,I a,I b,I c,.string key,.string g,I v.node,I v.seq,I v.o0,I v.o1,I v.o2,I v.o3,.string v.value,.bool v.ts,f] 39;have a2:(w.alloc (.cells #[I d,I a,I b,I c,.string key,.string g,I v.node,I v.seq,I v.o0,I v.o1,I v.o2,I v.o3,.string v.value,.bool v.ts,f] 39)).cell? (Y L.wb 5)=some (E N 0):=by rw[<- r];exact(h.nil t).td.cell 5
 have a1:=q.cell;have s:=Z t;clear h t q r u k l m x y A D J j p B C G i;go_enter xk,yV;go_wp2_with fail;go_ret;exact⟨rfl,s.o⟩
theorem My(K:Nat->Prop)(L:WL)(W:WM)(o:OpM)(w:World)(h:WAt K w L W)(m:L.nv=.pointer none)(s:o.kind≠1/\o.kind≠12/\o.kind≠13/\o.kind≠14) :
 Calls prog 18 #[E L.wb 0,.agg o.cells.toArray] w fun e B=>e=.returned (.bool true)/\Fr Nil w B:=by
 obtain⟨d,a,b,c,key,g,v,f⟩:=o;simp only at s;obtain⟨r,i,j,k⟩:=s;have C:(d==1)=false:=by simp[r]
 have t:(d==12)=false:=by simp[i]
 have u:(d==13)=false:=by simp[j]
 have x:(d==14)=false:=by simp[k]
 simp only[OpM.cells,Ver.cells,CZ,Ba];have q:Fr Nil w (w.alloc (.cells #[I d,I a,I b,I c,.string key,.string g,I v.node,I v.seq,I v.o0,I v.o1,I v.o2,I v.o3,.string v.value,.bool v.ts,f] 39)):=(U _ _).alloc _;have l:=Blk.new w [I d,I a,I b,I c,.string key,.string g,I v.node,I v.seq,I v.o0,I v.o1,I v.o2,I v.o3,.string v.value,.bool v.ts,f] 39;have A:(w.alloc (.cells #[I d,I a,I b,I c,.string key,.string g,I v.node,I v.seq,I v.o0,I v.o1,I v.o2,I v.o3,.string v.value,.bool v.ts,f] 39)).cell? (Y L.wb 5)=some (.pointer none):=by rw[<- m];exact(h.nil q).td.cell 5
 have y:=l.cell;have p:=Z q;clear h q l m r i j k;go_enter xk,yV;go_wp2_with fail;go_ret;exact⟨rfl,p.o⟩
theorem CI(L:WL)(o:OpM)(w:World)(k:o.kind=1)(Q:World->Prop)
 (i:∀ p,Fr Nil w p->Calls prog 17 #[E L.wb 0,I o.a,I o.b] p fun e j=>e=.returned (.bool true)/\Q j) :
 Calls prog 18 #[E L.wb 0,.agg o.cells.toArray] w fun e j=>e=.returned (.bool true)/\Q j:=by
 obtain⟨m,a,b,c,key,f,v,d⟩:=o;simp only at k;subst k;simp only[OpM.cells,Ver.cells,CZ,Ba] at i |-;have h:Fr Nil w (w.alloc (.cells #[I 1,I a,I b,I c,.string key,.string f,I v.node,I v.seq,I v.o0,I v.o1,I v.o2,I v.o3,.string v.value,.bool v.ts,d] 39)):=(U _ _).alloc _;have g:=Blk.new w [I 1,I a,I b,I c,.string key,.string f,I v.node,I v.seq,I v.o0,I v.o1,I v.o2,I v.o3,.string v.value,.bool v.ts,d] 39;have t:=g.cell;have r:=Z h;have q:=Z (i _ h);clear h g i;go_enter xk,yV
 go_wp2_with (refine q.o.mono ?_;rintro e u ⟨rfl,l⟩;have s:=Z l;clear l)
 go_ret;exact⟨rfl,s.o⟩
theorem Na(K:Nat->Prop)(L:WL)(W:WM)(LD:DL)(M:DM)(o:OpM)(w:World)(t:Option Addr)(x u:Nat)(Q:o.rz=.slice t x u)(h:WAt K w L W)(N:DRep w L.db LD M)(r:∀ k,K k->¬k=L.db)(q:o.kind=13)(a2:-9223372036854775808<=o.a)(a3:o.a<=9223372036854775807) :
 Calls prog 60 #[E L.wb 0,.agg o.cells.toArray] w fun e w'=>e=.returned (.tuple #[])/\∃ n,WAt K w' {L with tv:=o.rz} {W with sD:=o.b}/\DRep w' L.db LD (M.ry n)/\Fr (fun k=>k=L.wb\/k=L.db) w w':=by
 obtain⟨a8,a,b,c,key,j,v,a6⟩:=o;simp only at q a2 a3 Q;subst q Q;simp only[OpM.cells,Ver.cells,CZ,Ba];have y:=Blk.new w [I 13,I a,I b,I c,.string key,.string j,I v.node,I v.seq,I v.o0,I v.o1,I v.o2,I v.o3,.string v.value,.bool v.ts,(.slice t x u)] 39;have f1:Fr Nil w (w.alloc (.cells #[I 13,I a,I b,I c,.string key,.string j,I v.node,I v.seq,I v.o0,I v.o1,I v.o2,I v.o3,.string v.value,.bool v.ts,(.slice t x u)] 39)):=(U _ _).alloc _;have a0:aa (L.db<w.heap.size/\L.wb<w.heap.size/\L.db≠L.wb):=⟨N.td.lt,h.td.lt,fun e=>h.sf N (.inl e) .td⟩;have HC:=Z (fun n C (f:Fr Nil w C)=>RY n C L.db LD M (N.nil f));have HW:=Z (fun C (f:Fr Nil w C)=>h.nil f);have D:=Z r;have HD:=Z (fun C (f:Fr Nil w C)=>N.nil f);clear h N r;have g:=Z f1;have a4:=y.cell;have s:∀ k,(w.alloc (.cells #[I 13,I a,I b,I c,.string key,.string j,I v.node,I v.seq,I v.o0,I v.o1,I v.o2,I v.o3,.string v.value,.bool v.ts,(.slice t x u)] 39)).cell? (Y L.wb k)=(W.cells L)[k]?:=(HW.o _ f1).td.cell;simp only[WM.cells] at s;have T:=Z y;clear f1 y;obtain⟨m,hm⟩:∃ m:Nat,(a=m/\m<=9223372036854775807)\/(a=-(m:Int)-1/\m<=9223372036854775807):=by
  by_cases a7:a<0
  .exact⟨(-(a+1)).toNat,V⟩
  .exact⟨a.toNat,V⟩
 have ht:(m:Int).tmod 40=((m%40:Nat):Int):=by rw[show(40:Int)=((40:Nat):Int) from rfl,wK]
 rcases hm with⟨rfl,hm⟩|⟨rfl,hm⟩
 case' inl =>
  have h0:¬((m:Int)<0):=V
  have a1:decide ((m:Int)<0)=false:=bG
 case' inr =>
  have h0:(-(m:Int)-1<0):=V
  have a1:decide (-(m:Int)-1<0)=true:=by simp;omega
 all_goals
  go_enter func60,ntmps60;go_wp2_with fail;refine(HC.o _ _ g.o).mono ?_;rintro e B ⟨rfl,A,l⟩;have d:=(HW.o _ g.o).fr l (fun k q e=>(HW.o _ g.o).sf (HD.o _ g.o) q aN) (fun k q e=>D.o k q e);have X:=Z (T.o.fr l (fun e=>by have:=a0.o.1;omega));have a5:∀ k,B.cell? (Y L.wb k)=(W.cells L)[k]?:=d.td.cell;have b0:=d.td.frozen;simp only[WM.cells] at a5;have a9:=X.o.cell;have fa:Fr (fun k=>k=L.wb) B (B.setCell (Y L.wb 13) (I b)):=Fr.set (S:=fun k=>k=L.wb) (p:=⟨L.wb,13,none⟩) (U _ _) (fun _=>rfl) _;have R:Fr (fun k=>k=L.wb) B ((B.setCell (Y L.wb 13) (I b)).setCell (Y L.wb 14) (.slice t x u)):=Fr.set (S:=fun k=>k=L.wb) (p:=⟨L.wb,14,none⟩) fa (fun _=>rfl) _;have J:=d.sL (L':={L with tv:=(.slice t x u)}) (W':={W with sD:=b}) (by have:=(d.td.set 13 (I b)).set 14 (.slice t x u);simpa [WM.cells] using this) R rfl rfl rfl rfl rfl rfl rfl rfl rfl rfl rfl;have G:=A.fr R (fun k q e=>d.sf A (.inl e) q);have F3:Fr (fun k=>k=L.wb\/k=L.db) w ((B.setCell (Y L.wb 13) (I b)).setCell (Y L.wb 14) (.slice t x u)):=((g.o.mono (S':=fun k=>k=L.wb\/k=L.db) (fun _ _ e=>absurd e id)).tk l (fun k _ e=>.inr e)).tk R (fun k _ e=>.inl e);have i:=Z (And.intro J (And.intro G F3));clear s a4 A l d fa R J G F3;go_wp2_with fail;exact Aw (v:=.tuple #[]) af rfl ⟨rfl,_,i.o.1,i.o.2.1,i.o.2.2⟩
theorem QC(K:Nat->Prop)(L:WL)(W:WM)(R:DL)(M:DM)(o:OpM)(w:World)(h:WAt K w L W)(G:DRep w L.db R M)(r:∀ k,K k->¬k=L.db)(y:o.kind=14)(a1:-9223372036854775808<=o.a)(a2:o.a<=9223372036854775807) :
 Calls prog 60 #[E L.wb 0,.agg o.cells.toArray] w fun e w'=>e=.returned (.tuple #[])/\∃ n,WAt K w' L W/\DRep w' L.db R (M.sO n o.b)/\Fr (fun k=>k=L.db) w w':=by
 obtain⟨a5,a,b,c,key,j,v,d⟩:=o;simp only at y a1 a2;subst y;simp only[OpM.cells,Ver.cells,CZ,Ba];have x:=Blk.new w [I 14,I a,I b,I c,.string key,.string j,I v.node,I v.seq,I v.o0,I v.o1,I v.o2,I v.o3,.string v.value,.bool v.ts,d] 39;have T:Fr Nil w (w.alloc (.cells #[I 14,I a,I b,I c,.string key,.string j,I v.node,I v.seq,I v.o0,I v.o1,I v.o2,I v.o3,.string v.value,.bool v.ts,d] 39)):=(U _ _).alloc _;have A:aa (L.db<w.heap.size/\L.wb<w.heap.size/\L.db≠L.wb):=⟨G.td.lt,h.td.lt,fun e=>h.sf G (.inl e) .td⟩;have HC:=Z (fun n g (f:Fr Nil w g)=>Sg n b g L.db R M (G.nil f));have D:=Z (fun g (f:Fr Nil w g)=>h.nil f);have C:=Z r;have HD:=Z (fun g (f:Fr Nil w g)=>G.nil f);clear h G r;have i:=Z T;have a3:=x.cell;have s:∀ k,(w.alloc (.cells #[I 14,I a,I b,I c,.string key,.string j,I v.node,I v.seq,I v.o0,I v.o1,I v.o2,I v.o3,.string v.value,.bool v.ts,d] 39)).cell? (Y L.wb k)=(W.cells L)[k]?:=(D.o _ T).td.cell;simp only[WM.cells] at s;have p:=Z x;clear T x;obtain⟨m,hm⟩:∃ m:Nat,(a=m/\m<=9223372036854775807)\/(a=-(m:Int)-1/\m<=9223372036854775807):=by
  by_cases a4:a<0
  .exact⟨(-(a+1)).toNat,V⟩
  .exact⟨a.toNat,V⟩
 have ht:(m:Int).tmod 40=((m%40:Nat):Int):=by rw[show(40:Int)=((40:Nat):Int) from rfl,wK]
 rcases hm with⟨rfl,hm⟩|⟨rfl,hm⟩
 case' inl =>
  have h0:¬((m:Int)<0):=V
  have X:decide ((m:Int)<0)=false:=bG
 case' inr =>
  have h0:(-(m:Int)-1<0):=V
  have X:decide (-(m:Int)-1<0)=true:=by simp;omega
 all_goals
  go_enter func60,ntmps60;go_wp2_with fail;have Q:aa (∀ g,Fr Nil w g->g.cell? (Y L.wb 4)=some (E L.db 0)):=fun g f=>(D.o g f).td.cell 4;clear s a3;generalize w.alloc (.cells #[I 14,I _,I b,I c,.string key,.string j,I v.node,I v.seq,I v.o0,I v.o1,I v.o2,I v.o3,.string v.value,.bool v.ts,d] 39)=t at i p |-;have B:aa (L.db<w.heap.size):=A.o.1;generalize w.heap.size=S at p B |-;have a6:t.cell? (Y L.wb 4)=some (E L.db 0)/\t.cell? (Y S 2)=some (I b):=⟨Q.o _ i.o,p.o.cell 2⟩;have q:aa (∀ g,Fr (fun k=>k=L.db) t g->g.cell? (Y L.wb 4)=some (E L.db 0)/\g.cell? (Y S 2)=some (I b)):=fun g f=>⟨((D.o t i.o).td.fr f (fun e=>A.o.2.2 e.symm)).cell 4,(p.o.fr f (fun e=>by have:=B.o;omega)).cell 2⟩
  go_region_held3 (fun g=>g.cell? (Y L.wb 4)=some (E L.db 0)/\g.cell? (Y S 2)=some (I b)) (first|assumption|go_keep|exact q.o _ zd)
   (first|(go_at_call 46;refine(HC.o _ _ (i.o.trans zd)).mono ?_;rintro e w2 ⟨rfl,J,N⟩;have u:Fr (fun k=>k=L.db) t w2:=Fr.trans zd N;have a7:=q.o w2 u;have l:=Z (And.intro J u);clear J N u))
  go_wp2_with fail;have a0:=(D.o t i.o).fr l.o.2 (fun k y e=>(D.o t i.o).sf (HD.o t i.o) y aN) (fun k y e=>C.o k y e);exact xC (v:=.tuple #[]) af rfl ⟨rfl,_,a0,l.o.1,(i.o.mono (S':=fun k=>k=L.db) (fun _ _ e=>absurd e id)).trans l.o.2⟩
theorem R8(h:p:=by
 intro d K' L' W' X' N' M' s;have fl:Fr (fun k=>k<w.heap.size) w4 d:=s.fr.mono (fun k _ e=>HH.o.lt e);refine⟨fun k=>(d4.o d ((((F2.o.alloc _).trans c7.o).mono (S':=fun k=>k<w.heap.size) (fun _ _ e=>absurd e id)).tk fl (fun _ _ e=>e)) k).trans (d5.o k),?_⟩;exact(d3.o.fr ((c7.o.mono (S':=fun k=>k<w.heap.size) (fun _ _ e=>absurd e id)).tk fl (fun _ _ e=>e)) (by have:=c2.o;omega)).cell):p:=h
theorem R9(h:p:=by
 intro d w' X' N' M' f s;have hp:=(H4.o.nil f).trans ((H4.o.nil f).th.call s);refine⟨(hp.th.tE.td.cell 5).trans ?_,(D.o _ _ _ _ _ _ _ hp).1⟩;show some L.nv=_;rw[HH.o.nv]):p:=h
theorem Jt(a6:zy)(K:Nat->Prop)(B:Nat)(L:WL)(W:WM)(X:NL)(N:NM)(M:DM)(o:OpM)(w:World)(h:Play K B w L W X N M)(hk:o.kind=11)(A:W.tq=false)(hp:0<L.ps.length)(hl:L.ps.length<1000000)
 (d0:(N.tF M).1=0/\(N.tF M).2.2.uT=M.uT) :
 Calls prog 64 #[E L.wb 0,.agg o.cells.toArray] w fun e w'=>e=.returned (.bool true)/\∃ L' X',L'.ps≠[]/\PStep K B L X M w K L' {W with st:=W.st.drop (W.st.length-1)} X' (N.tF M).2.1 (N.tF M).2.2 w':=by
 obtain⟨d2,a,b,c,key,j,v,i⟩:=o;simp only at hk |-;subst hk;have b7:=Z d0;clear d0;simp only[OpM.cells,Ver.cells,CZ,Ba];have f1:Fr Nil w (w.alloc (.cells #[I 11,I a,I b,I c,.string key,.string j,I v.node,I v.seq,I v.o0,I v.o1,I v.o2,I v.o3,.string v.value,.bool v.ts,i] 39)):=(U _ _).alloc _;have R:=Blk.new w [I 11,I a,I b,I c,.string key,.string j,I v.node,I v.seq,I v.o0,I v.o1,I v.o2,I v.o3,.string v.value,.bool v.ts,i] 39;have HM:=Z (fun d (f:Fr Nil w d)=>Ze K L W X.LD M d (h.tE.nil f) ((h.tI).nil f));have HF:=Z (fun d (f:Fr Nil w d)=>Zu K L W X.LD M d (h.tE.nil f) ((h.tI).nil f));have HC:=Z (fun d (f:Fr Nil w d)=>zE d L.db X.LD M ((h.tI).nil f));have S:=R.cell;have G:=Z f1;have l:=Z R;have HH:=Z h;have b6:=Z A;clear h f1 R A;go_enter uH,ux;go_wp2_with fail;generalize c0:w.alloc (.cells #[I 11,I a,I b,I c,.string key,.string j,I v.node,I v.seq,I v.o0,I v.o1,I v.o2,I v.o3,.string v.value,.bool v.ts,i] 39)=wa at S G l |-;have d4:aa (∀ d,Fr (fun k=>k<w.heap.size) wa d->∀ k,d.cell? (Y w.heap.size k)=wa.cell? (Y w.heap.size k)):=fun d f k=>((l.o.fr f (yu _)).cell k).trans (l.o.cell k).symm;have d5:=Z S;have b9:aa (w.heap.size<wa.heap.size):=l.o.lt;clear c0 l;refine(HM.o wa G.o).mono ?_;rintro e w2 ⟨rfl,f2⟩;have J:Fr Nil w w2:=G.o.trans f2;have C:w.heap.size<w2.heap.size:=by have:=b9.o;have:=f2.size;omega
 have F2:=Z f2;have f3:Fr Nil w (w2.alloc (.cells #[I M.uT,I M.tr] 111)):=J.alloc _;have a4:=Blk.new w2 [I M.uT,I M.tr] 111;have a5:=(HH.o.tE.nil f3).td.cell;simp only[WM.cells] at a5;have d9:=Z J;have c2:=Z C;have F3:=Z f3;have d3:=Z a4;clear f2 J C f3 a4 S
 go_wp2_with (refine(HC.o _ F3.o).mono ?_;rintro e d ⟨rfl,b2⟩;subst d)
 refine(HF.o _ F3.o).mono ?_;rintro e w4 ⟨rfl,f4⟩;have Q:Fr Nil w w4:=F3.o.trans f4;have h4:=(HH.o.nil Q).th;have u:=Z Q;have c7:=Z f4;have H4:=Z h4;clear Q f4 h4 a5;generalize IntKind.i64.wrap ((if W.room<0 then 1152921504606846976 else W.room)-M.rE)=fr;have y:=Z (fun d (f:Fr Nil w4 d)=>Xu a6 B X N M d (H4.o.node.nil f) (H4.o.qg.nil f));have D:aa (∀ d K' L' W' X' N' M',PStep K B L X M w4 K' L' W' X' N' M' d->(∀ k,d.cell? (Y w.heap.size k)=([I 11,I a,I b,I c,.string key,.string j,I v.node,I v.seq,I v.o0,I v.o1,I v.o2,I v.o3,.string v.value,.bool v.ts,i]:List Value)[k]?)/\(∀ k,d.cell? (Y w2.heap.size k)=[I M.uT,I M.tr][k]?)):=by
  exact R8
 have HK:aa (∀ d w' X' N' M',Fr Nil w4 d->NStep X M d X' N' M' w'->w'.cell? (Y L.wb 5)=some (E X.nb 0)/\∀ k,w'.cell? (Y w.heap.size k)=([I 11,I a,I b,I c,.string key,.string j,I v.node,I v.seq,I v.o0,I v.o1,I v.o2,I v.o3,.string v.value,.bool v.ts,i]:List Value)[k]?):=by
  exact R9
 have b3:=HK.o w4 w4 X N M (U _ _) (NStep.nil H4.o.node (U _ _));go_wp2_with fail;refine(y.o _ (U _ _)).mono ?_;rintro e r ⟨X5,rfl,T⟩;have a3:=Z T;clear T;have g:=Z (H4.o.call a3.o);rw[b7.o.1];generalize c9:(N.tF M).2.1=N5 at a3 g;have b0:=Z b7.o.2;generalize c8:(N.tF M).2.2=M5 at a3 g b0;have b8:=Z (And.intro c9 c8);clear c9 c8;clear b3 HK y b7;have c1:=(D.o _ _ _ _ _ _ _ g.o).1;have a0:=g.o.th.tE.td.cell;simp only[WM.cells,b6.o] at a0;have q:∀ n k,(r.drewN n).cell? (Y L.wb k)=_:=fun n=>(g.o.th.tE.td.drewN n).cell;simp only[WM.cells,b6.o] at q;have a8:∀ n k,(r.drewN n).cell? (Y w2.heap.size k)=[I M.uT,I M.tr][k]?:=fun n=>(D.o _ _ _ _ _ _ _ (g.o.trans (g.o.th.nil ((U Nil r).drewN n)))).2;have c3:∀ n k,(r.drewN n).cell? (Y w.heap.size k)=([I 11,I a,I b,I c,.string key,.string j,I v.node,I v.seq,I v.o0,I v.o1,I v.o2,I v.o3,.string v.value,.bool v.ts,i]:List Value)[k]?:=fun n=>(D.o _ _ _ _ _ _ _ (g.o.trans (g.o.th.nil ((U Nil r).drewN n)))).1;have m:=Z (fun n=>Zr (r.drewN n) L.db X5.LD M5 (g.o.th.tI.nil ((U Nil r).drewN n)));rw[b0.o] at m;have b4:decide (M.uT<M.uT)=false:=bG
 have a7:¬M.uT<M.uT:=bG
 have f8:=Z (fun d (f:Fr Nil r d)=>Uw K L W d (g.o.th.tE.nil f) hp V);go_wp2_with fail
 go_quiet ((go_at_call 47;exact Ah (m.o _)))
 go_wp2_with fail;refine(f8.o _ ((U Nil r).drewN nq)).mono ?_;rintro e w6 ⟨rfl,L6,f5,d7⟩;have d6:L6.ps≠[]:=fun e=>by
  have:=AB List.length (d7.symm.trans e);simp at this;omega
 have e4:=Z (And.intro f5 d6);clear f5 d7 d6 a0 q a8 c3 c1;go_wp2_with fail;go_ret;rw[b8.o.1,b8.o.2];exact⟨rfl,L6,X5,e4.o.2,(HH.o.nil u.o).trans ((g.o.trans (g.o.th.nil ((U Nil r).drewN nq))).trans ((g.o.th.nil ((U Nil r).drewN nq)).th.sX e4.o.1))⟩
theorem Nb(a6:zy)(K:Nat->Prop)(B:Nat)(L:WL)(W:WM)(X:NL)(N:NM)(M:DM)(o:OpM)(w:World)(h:Play K B w L W X N M)(hk:o.kind=11)(A:W.tq=true)(g1:N.uW=true) :
 Calls prog 64 #[E L.wb 0,.agg o.cells.toArray] w fun e w'=>e=.returned (.bool true)/\∃ X',PStep K B L X M w K L W X' N M w':=by
 obtain⟨d2,a,b,c,key,j,v,i⟩:=o;simp only at hk |-;subst hk;have f6:aa (N.tF M=(8,N,M)):=by unfold NM.tF;rw[aa,Bl g1]
 simp only[OpM.cells,Ver.cells,CZ,Ba];have f1:Fr Nil w (w.alloc (.cells #[I 11,I a,I b,I c,.string key,.string j,I v.node,I v.seq,I v.o0,I v.o1,I v.o2,I v.o3,.string v.value,.bool v.ts,i] 39)):=(U _ _).alloc _;have R:=Blk.new w [I 11,I a,I b,I c,.string key,.string j,I v.node,I v.seq,I v.o0,I v.o1,I v.o2,I v.o3,.string v.value,.bool v.ts,i] 39;have HM:=Z (fun d (f:Fr Nil w d)=>Ze K L W X.LD M d (h.tE.nil f) ((h.tI).nil f));have HF:=Z (fun d (f:Fr Nil w d)=>Zu K L W X.LD M d (h.tE.nil f) ((h.tI).nil f));have HC:=Z (fun d (f:Fr Nil w d)=>zE d L.db X.LD M ((h.tI).nil f));have S:=R.cell;have G:=Z f1;have l:=Z R;have HH:=Z h;have b6:=Z A;clear h f1 R A;go_enter uH,ux;go_wp2_with fail;generalize c0:w.alloc (.cells #[I 11,I a,I b,I c,.string key,.string j,I v.node,I v.seq,I v.o0,I v.o1,I v.o2,I v.o3,.string v.value,.bool v.ts,i] 39)=wa at S G l |-;have d4:aa (∀ d,Fr (fun k=>k<w.heap.size) wa d->∀ k,d.cell? (Y w.heap.size k)=wa.cell? (Y w.heap.size k)):=fun d f k=>((l.o.fr f (yu _)).cell k).trans (l.o.cell k).symm;have d5:=Z S;have b9:aa (w.heap.size<wa.heap.size):=l.o.lt;clear c0 l;refine(HM.o wa G.o).mono ?_;rintro e w2 ⟨rfl,f2⟩;have J:Fr Nil w w2:=G.o.trans f2;have C:w.heap.size<w2.heap.size:=by have:=b9.o;have:=f2.size;omega
 have F2:=Z f2;have f3:Fr Nil w (w2.alloc (.cells #[I M.uT,I M.tr] 111)):=J.alloc _;have a4:=Blk.new w2 [I M.uT,I M.tr] 111;have a5:=(HH.o.tE.nil f3).td.cell;simp only[WM.cells] at a5;have d9:=Z J;have c2:=Z C;have F3:=Z f3;have d3:=Z a4;clear f2 J C f3 a4 S
 go_wp2_with (refine(HC.o _ F3.o).mono ?_;rintro e d ⟨rfl,b2⟩;subst d)
 refine(HF.o _ F3.o).mono ?_;rintro e w4 ⟨rfl,f4⟩;have Q:Fr Nil w w4:=F3.o.trans f4;have h4:=(HH.o.nil Q).th;have u:=Z Q;have c7:=Z f4;have H4:=Z h4;clear Q f4 h4 a5;generalize IntKind.i64.wrap ((if W.room<0 then 1152921504606846976 else W.room)-M.rE)=fr;have y:=Z (fun d (f:Fr Nil w4 d)=>Xu a6 B X N M d (H4.o.node.nil f) (H4.o.qg.nil f));have D:aa (∀ d K' L' W' X' N' M',PStep K B L X M w4 K' L' W' X' N' M' d->(∀ k,d.cell? (Y w.heap.size k)=([I 11,I a,I b,I c,.string key,.string j,I v.node,I v.seq,I v.o0,I v.o1,I v.o2,I v.o3,.string v.value,.bool v.ts,i]:List Value)[k]?)/\(∀ k,d.cell? (Y w2.heap.size k)=[I M.uT,I M.tr][k]?)):=by
  exact R8
 have HK:aa (∀ d w' X' N' M',Fr Nil w4 d->NStep X M d X' N' M' w'->w'.cell? (Y L.wb 5)=some (E X.nb 0)/\∀ k,w'.cell? (Y w.heap.size k)=([I 11,I a,I b,I c,.string key,.string j,I v.node,I v.seq,I v.o0,I v.o1,I v.o2,I v.o3,.string v.value,.bool v.ts,i]:List Value)[k]?):=by
  exact R9
 have b3:=HK.o w4 w4 X N M (U _ _) (NStep.nil H4.o.node (U _ _));go_wp2_with fail;refine(y.o _ (U _ _)).mono ?_;rintro e r ⟨X5,rfl,T⟩;have a3:=Z T;clear T;have g:=Z (H4.o.call a3.o);rw[f6.o] at a3 g |-;have a0:=g.o.th.tE.td.cell;simp only[WM.cells,b6.o] at a0;have c1:=(D.o _ _ _ _ _ _ _ g.o).1;have c4:=Z (Zd K L W X5.LD M 8 8 M.uS r g.o.th.tE g.o.th.tI);simp only[xu,yx] at c4;clear b3 HK y;go_wp2_with fail;refine c4.o.mono ?_;rintro e d ⟨rfl,b2⟩;subst d;go_wp2_with fail;go_ret;exact⟨rfl,X5,(HH.o.nil u.o).trans g.o⟩
theorem Ef(a6:zy)(K:Nat->Prop)(B:Nat)(L:WL)(W:WM)(X:NL)(N:NM)(M:DM)(o:OpM)(w:World)(h:Play K B w L W X N M)(hk:o.kind=11)(A:W.tq=false)
 (e8:(N.tF M).1=9/\(N.tF M).2.2.uT=M.uT+1/\(N.tF M).2.2.tr=M.tr) :
 Calls prog 64 #[E L.wb 0,.agg o.cells.toArray] w fun e w'=>e=.returned (.bool true)/\∃ X',((N.tF M).2.2.tJ=false->PStep K B L X M w K L {W with tq:=true} X' (N.tF M).2.1 (N.tF M).2.2 w')/\((N.tF M).2.2.tJ=true->∃ wm,PStep K B L X M w K L {W with tq:=true} X' (N.tF M).2.1 (N.tF M).2.2 wm/\w'=wm.setCell (Y L.wb 5) (.pointer none)):=by
 obtain⟨d2,a,b,c,key,j,v,i⟩:=o;simp only at hk |-;subst hk;have b7:=Z e8;clear e8;simp only[OpM.cells,Ver.cells,CZ,Ba];have f1:Fr Nil w (w.alloc (.cells #[I 11,I a,I b,I c,.string key,.string j,I v.node,I v.seq,I v.o0,I v.o1,I v.o2,I v.o3,.string v.value,.bool v.ts,i] 39)):=(U _ _).alloc _;have R:=Blk.new w [I 11,I a,I b,I c,.string key,.string j,I v.node,I v.seq,I v.o0,I v.o1,I v.o2,I v.o3,.string v.value,.bool v.ts,i] 39;have HM:=Z (fun d (f:Fr Nil w d)=>Ze K L W X.LD M d (h.tE.nil f) ((h.tI).nil f));have HF:=Z (fun d (f:Fr Nil w d)=>Zu K L W X.LD M d (h.tE.nil f) ((h.tI).nil f));have HC:=Z (fun d (f:Fr Nil w d)=>zE d L.db X.LD M ((h.tI).nil f));have S:=R.cell;have G:=Z f1;have l:=Z R;have HH:=Z h;have b6:=Z A;clear h f1 R A;go_enter uH,ux;go_wp2_with fail;generalize c0:w.alloc (.cells #[I 11,I a,I b,I c,.string key,.string j,I v.node,I v.seq,I v.o0,I v.o1,I v.o2,I v.o3,.string v.value,.bool v.ts,i] 39)=wa at S G l |-;have d4:aa (∀ d,Fr (fun k=>k<w.heap.size) wa d->∀ k,d.cell? (Y w.heap.size k)=wa.cell? (Y w.heap.size k)):=fun d f k=>((l.o.fr f (yu _)).cell k).trans (l.o.cell k).symm;have d5:=Z S;have b9:aa (w.heap.size<wa.heap.size):=l.o.lt;clear c0 l;refine(HM.o wa G.o).mono ?_;rintro e w2 ⟨rfl,f2⟩;have J:Fr Nil w w2:=G.o.trans f2;have C:w.heap.size<w2.heap.size:=by have:=b9.o;have:=f2.size;omega
 have F2:=Z f2;have f3:Fr Nil w (w2.alloc (.cells #[I M.uT,I M.tr] 111)):=J.alloc _;have a4:=Blk.new w2 [I M.uT,I M.tr] 111;have a5:=(HH.o.tE.nil f3).td.cell;simp only[WM.cells] at a5;have d9:=Z J;have c2:=Z C;have F3:=Z f3;have d3:=Z a4;clear f2 J C f3 a4 S
 go_wp2_with (refine(HC.o _ F3.o).mono ?_;rintro e d ⟨rfl,b2⟩;subst d)
 refine(HF.o _ F3.o).mono ?_;rintro e w4 ⟨rfl,f4⟩;have Q:Fr Nil w w4:=F3.o.trans f4;have h4:=(HH.o.nil Q).th;have u:=Z Q;have c7:=Z f4;have H4:=Z h4;clear Q f4 h4 a5;generalize IntKind.i64.wrap ((if W.room<0 then 1152921504606846976 else W.room)-M.rE)=fr;have y:=Z (fun d (f:Fr Nil w4 d)=>Xu a6 B X N M d (H4.o.node.nil f) (H4.o.qg.nil f));have D:aa (∀ d K' L' W' X' N' M',PStep K B L X M w4 K' L' W' X' N' M' d->(∀ k,d.cell? (Y w.heap.size k)=([I 11,I a,I b,I c,.string key,.string j,I v.node,I v.seq,I v.o0,I v.o1,I v.o2,I v.o3,.string v.value,.bool v.ts,i]:List Value)[k]?)/\(∀ k,d.cell? (Y w2.heap.size k)=[I M.uT,I M.tr][k]?)):=by
  exact R8
 have HK:aa (∀ d w' X' N' M',Fr Nil w4 d->NStep X M d X' N' M' w'->w'.cell? (Y L.wb 5)=some (E X.nb 0)/\∀ k,w'.cell? (Y w.heap.size k)=([I 11,I a,I b,I c,.string key,.string j,I v.node,I v.seq,I v.o0,I v.o1,I v.o2,I v.o3,.string v.value,.bool v.ts,i]:List Value)[k]?):=by
  exact R9
 have b3:=HK.o w4 w4 X N M (U _ _) (NStep.nil H4.o.node (U _ _));go_wp2_with fail;refine(y.o _ (U _ _)).mono ?_;rintro e r ⟨X5,rfl,T⟩;have a3:=Z T;clear T;have g:=Z (H4.o.call a3.o);rw[b7.o.1];generalize c9:(N.tF M).2.1=N5 at a3 g;have b0:=Z b7.o.2;generalize c8:(N.tF M).2.2=M5 at a3 g b0;have b8:=Z (And.intro c9 c8);clear c9 c8;clear b3 HK y b7;have c1:=(D.o _ _ _ _ _ _ _ g.o).1;have a0:=g.o.th.tE.td.cell;simp only[WM.cells,b6.o] at a0;have q:∀ n k,(r.drewN n).cell? (Y L.wb k)=_:=fun n=>(g.o.th.tE.td.drewN n).cell;simp only[WM.cells,b6.o] at q;have d1:∀ n k,(r.drewN n).frozen? (Y L.wb k)=false:=fun n=>(g.o.th.tE.td.drewN n).frozen;have a8:∀ n k,(r.drewN n).cell? (Y w2.heap.size k)=[I M.uT,I M.tr][k]?:=fun n=>(D.o _ _ _ _ _ _ _ (g.o.trans (g.o.th.nil ((U Nil r).drewN n)))).2;have m:=Z (fun n=>Zr (r.drewN n) L.db X5.LD M5 (g.o.th.tI.nil ((U Nil r).drewN n)));rw[b0.o.1] at m;have b4:decide (M.uT<M.uT+1)=true:=by simp;omega
 have a7:M.uT<M.uT+1:=V
 go_wp2_with fail
 go_quiet ((go_at_call 47;exact Ah (m.o _)))
 go_wp2_with fail;have a9:=Z (g.o.trans (g.o.th.nil ((U Nil r).drewN nq)));have a1:=Z (a9.o.trans (a9.o.th.sX (WStep.set a9.o.th.tE 8 (.bool true) (L':=L) (W':={W with tq:=true}) ai rfl rfl rfl rfl rfl rfl rfl rfl rfl rfl rfl rfl rfl)));clear a0 q d1 a8 c1 m b4 a7;generalize (r.drewN nq).setCell (Y L.wb 8) (.bool true)=w6 at a1 |-;refine(VG K L _ X5.LD M5 9 M.uT M.tr w6 a1.o.th.tE a1.o.th.tI (.inl ⟨rfl,b0.o.1,b0.o.2⟩)).mono ?_;rintro e w7 ⟨rfl,f7⟩;have a2:=Z (a1.o.trans (a1.o.th.nil f7));have e2:∀ k,w7.cell? (Y L.wb k)=(WM.cells L {W with tq:=true})[k]?:=a2.o.th.tE.td.cell;have e6:=a2.o.th.tE.td.frozen;simp only[WM.cells] at e2;have b1:=Z (WV w7 L.db X5.LD M5 a2.o.th.tI);clear f7;cases hdd:M5.tJ with
 | false =>
  rw[hdd] at b1;have c6:=Z hdd;clear hdd
  go_wp2_with (refine b1.o.mono ?_;rintro e d ⟨rfl,b2⟩;subst d)
  go_ret;rw[b8.o.1,b8.o.2];exact⟨rfl,X5,fun _=>(HH.o.nil u.o).trans a2.o,fun e=>by rw[c6.o] at e;cases e⟩
 | true =>
  rw[hdd] at b1;have c6:=Z hdd;clear hdd
  go_wp2_with (refine b1.o.mono ?_;rintro e d ⟨rfl,b2⟩;subst d)
  go_ret;rw[b8.o.1,b8.o.2];exact⟨rfl,X5,(fun e=>by rw[c6.o] at e;cases e),fun _=>⟨w7,(HH.o.nil u.o).trans a2.o,rfl⟩⟩
theorem Pa(c4:zy)(K:Nat->Prop)(B:Nat)(L:WL)(W:WM)(X:NL)(N:NM)(M:DM)(o:OpM)(w:World)(h:Play K B w L W X N M)(hk:o.kind=3)(e4:W.tq=false)(hp:0<L.ps.length)(hl:L.ps.length<1000000)(f5:W.uS<10000000)
 (c9:zu o.key=true)(m:LM)(hm:W.st[L.ps.length-1]?=some m)(e6:m.uR.length<100000000)
 (S:∀ H,w.heap.size<=H->Wq N M H o.key (fun _ _=>[]))
 (x:∀ f g,w.heap.size<=f->w.heap.size<=g->Apart2 N M f g->((N.sr M o.key f g).2.1=0->W.tM<(N.sr M o.key f g).1/\(N.sr M o.key f g).1<=16*(W.uS+1))/\((N.sr M o.key f g).2.1≠0->(N.sr M o.key f g).1=0))
 (Q:World->Prop)
 (hQ:∀ f g K' X' q a,w.heap.size<=f->w.heap.size<=g->Apart2 N M f g->PStep K B L X M w K' L {W with uS:=W.uS+1,tM:=if (N.sr M o.key f g).2.1=0 then(N.sr M o.key f g).1 else W.tM} X' (N.sr M o.key f g).2.2.1 (N.sr M o.key f g).2.2.2 a ->
   MRep K' a q (m.sr o.key)->q≠L.ps[L.ps.length-1] ->
   Calls prog 110 #[E L.wb 0,E q 0,I (N.sr M o.key f g).2.1,.agg #[I M.uT,I M.tr],I (W.free M)] a fun e p=>e=.returned (.bool true)/\Q p) :
 Calls prog 61 #[E L.wb 0,.agg o.cells.toArray] w fun e p=>e=.returned (.bool true)/\Q p:=by
 have R:Z2 o.key=0:=by unfold Z2;rw[Bl c9]
 have a1:=Z (fun a=>YN o.key o.tZ a);have a0:=Z (fun a=>Ym o.key a);rw[R] at a0;generalize Zq o.key o.tZ=bp at a1;have f1:Fr Nil w (w.alloc (.cells o.cells.toArray 39)):=(U _ _).alloc _;have a5:=Blk.new w o.cells 39;have HM:=Z (fun a (f:Fr Nil w a)=>Ze K L W X.LD M a (h.tE.nil f) ((h.tI).nil f));have HF:=Z (fun a (f:Fr Nil w a)=>Zu K L W X.LD M a (h.tE.nil f) ((h.tI).nil f));have HC:=Z (fun a (f:Fr Nil w a)=>zE a L.db X.LD M ((h.tI).nil f));obtain⟨wa,A⟩:∃ wa,w.alloc (.cells o.cells.toArray 39)=wa:=⟨_,rfl⟩;rw[A] at f1 a5;have c1:=a5.cell;have b9:=Z A;simp only[OpM.cells,Ver.cells,CZ,Ba,hk] at A c1 |-;have b4:=Z f1;have HH:=Z h;have b5:=Z S;have b1:=Z x;have HQ:=Z hQ;clear h f1 a5 S x hQ R;go_enter vq,wT;go_wp2_with fail;refine(a1.o _).mono ?_;rintro e a ⟨rfl,d5⟩;subst a;go_wp2_with fail;refine(a0.o _).mono ?_;rintro e a ⟨rfl,d5⟩;subst a;clear a1 a0 A;go_wp2_with fail;refine(HM.o wa b4.o).mono ?_;rintro e w2 ⟨rfl,f2⟩;have f3:Fr Nil w (w2.alloc (.cells #[I M.uT,I M.tr] 111)):=(b4.o.trans f2).alloc _;have c2:=(HH.o.nil f3).th.tE.td.cell;simp only[WM.cells] at c2;have F2:=Z f2;have F3:=Z f3;clear f2 f3 c1
 go_wp2_with (refine(HC.o _ F3.o).mono ?_;rintro e a ⟨rfl,d5⟩;subst a)
 refine(HF.o _ F3.o).mono ?_;rintro e w4 ⟨rfl,f4⟩;have b:=Z (Pre.of HH.o b9.o F2.o f4);have C:=Z b.o.st.th;clear f4 c2 F2 F3 b9;have c6:IntKind.i64.wrap ((if W.room<0 then 1152921504606846976 else W.room)-M.rE)=W.free M:=rfl;rw[c6];clear c6;generalize W.free M=fr at HQ |-;have G:=Z (fun a (f:Fr Nil w4 a)=>Vi c4 B X N M o.key a (C.o.node.nil f) (C.o.qg.nil f) (fun _ _=>b5.o _ (b.o.fr.trans f).size));have HK:aa (∀ a p X' N' M',Fr Nil w4 a->NStep X M a X' N' M' p->p.cell? (Y L.wb 5)=some (E X.nb 0)/\p.cell? (Y w.heap.size 4)=some (.string o.key)):=by
  intro a p X' N' M' f s;have hs:=(C.o.nil f).trans ((C.o.nil f).th.call s);refine⟨(hs.th.tE.td.cell 5).trans ?_,b.o.op hs 4⟩;show some L.nv=_;rw[HH.o.nv]
 have e5:=HK.o w4 w4 X N M (U _ _) (NStep.nil C.o.node (U _ _));have d6:=b.o.op (C.o.nil (U _ _));simp only[OpM.cells,Ver.cells,CZ,Ba,hk] at d6;go_wp2_with fail;clear d6
 go_region_held3 (fun p=>p.cell? (Y L.wb 5)=some (E X.nb 0)/\p.cell? (Y w.heap.size 4)=some (.string o.key)) (first|assumption|go_keep)
  (first|(go_at_call 30;refine(G.o _ zd).mono ?_;rintro e w5 ⟨f,g,X5,rfl,c5,c8,J,a7⟩;have e8:=HK.o _ _ _ _ _ zd a7;have b8:=Z (NStep.trans (NStep.nil C.o.node zd) a7);have u:=Z (And.intro c5 (And.intro c8 J));clear a7 c5 c8 J))
 have a9:=CO b.o.fr.size u.o.1;have b0:=CO b.o.fr.size u.o.2.1;have l:=Z (fun K' X' q a=>HQ.o f g K' X' q a a9 b0 u.o.2.2);have v:=b1.o f g a9 b0 u.o.2.2;have j:=C.o.call b8.o;clear HK G b8 u HQ b1 e5 e8 a9 b0 b5;generalize N.sr M o.key f g=r at *;obtain⟨n,er,N5,M5⟩:=r;simp only at j v l;have c3:=j.th.tE.td.cell;have c7:=j.th.tE.td.frozen;simp only[WM.cells,e4] at c3;have d7:=b.o.op j;simp only[OpM.cells,Ver.cells,CZ,Ba,hk] at d7;have e1:=Z j;have t:=Z v;have g0:IntKind.i64.wrap ((W.uS:Int)+1)=((W.uS+1:Nat):Int):=by rw[Bu];push_cast;omega
 have i:=Z (j.trans (j.th.sX (WStep.set j.th.tE 11 (I ((W.uS:Int)+1)) (L':=L) (W':={W with uS:=W.uS+1}) ai rfl rfl rfl rfl rfl rfl rfl rfl rfl rfl rfl rfl rfl)));clear j v;by_cases he:er=0
 case' pos =>
  subst he;go_wp2_with fail;generalize w5.setCell (Y L.wb 11) (I ((W.uS:Int)+1))=w6 at i |-;refine(Tz K L _ n w6 i.o.th.tE (by show W.uS+1<_;omega) (t.o.1 trivial).1 (t.o.1 trivial).2).mono ?_;rintro e w7 ⟨rfl,a8⟩;have d:=i.o.trans (i.o.th.sX a8);have g1:=i.o.trans (i.o.th.sX a8);simp only[Ad] at l;clear a8
 case' neg =>
  obtain rfl:=t.o.2 he;have f7:(er != 0)=true:=by simp[he]
  have f8:(er==0)=false:=by simp[he]
  go_wp2_with fail;generalize w5.setCell (Y L.wb 11) (I ((W.uS:Int)+1))=w7 at i |-;have d:=i.o;simp only[CW he] at l
 all_goals
  have a2:=Z d;have d8:=b.o.op d;simp only[OpM.cells,Ver.cells,CZ,Ba,hk] at d8;have d4:=d.th.tE.qB;simp only at d4;have d0:W.st[L.ps.length-1]' V=m:=by rw[CS V] at hm;exact BA hm
  have D:=Z (fun a (f:Fr Nil w7 a)=>ZD K L _ a (d.th.tE.nil f) hp V);have c:=(d.th.tE.tu hp).2;simp only[d0] at c;have y:L.ps[L.ps.length-1]<w7.heap.size:=by obtain⟨c0,e3⟩:=c.td;exact e3.lt
  obtain⟨q,d2⟩:∃ q,q=L.ps[L.ps.length-1]:=⟨_,rfl⟩;rw[<- d2] at c y D l;have b2:=Z (fun a (f:Fr Nil w7 a)=>Uv K q m o.key a (c.tW (zR.rv f (fun k e=>⟨(d.th.tE.tW k e).1,id⟩)) (fun _ e=>e)) e6);have b6:=Z y;have d9:aa (∀ a,Fr Nil w7 a->a.cell? (Y w.heap.size 4)=some (.string o.key)):=fun a f=>b.o.op (d.trans (d.th.nil f)) 4;clear d d0 c y d2 i c3 c7 d7 e1;go_wp2_with fail
  go_region_held3 (fun p=>p.cell? (Y w.heap.size 4)=some (.string o.key)) (first|assumption|go_keep)
   (first
   | (go_at_call 108;refine(b2.o _ zd).mono ?_;rintro e w8 ⟨nb,rfl,d3,a6,d1⟩;have a4:Fr Nil w7 w8:=Fr.trans zd a6;have f0:=Z a4;have e9:=d9.o w8 a4;have e2:=Z d3;have a3:=Z (a2.o.trans ((a2.o.th.nil zd).trans ((a2.o.th.nil zd).th.gr a6)));have e0:=Z d1;clear a6 a4 d3 d1)
   | (go_at_call 107;refine(D.o _ zd).mono ?_;rintro e w9 ⟨rfl,n9,f9⟩;subst w9))
  have e7:=b.o.op a3.o;simp only[OpM.cells,Ver.cells,CZ,Ba,hk] at e7;clear d8 e9;have f6:=b.o.ma a3.o;have b3:=Z (l.o _ X5 nb w8 (b.o.st.trans a3.o) e2.o (by have h1:=b6.o;have h2:w7.heap.size<=nb:=e0.o;omega));clear l;go_wp2_with fail;refine b3.o.mono ?_;rintro e g2 ⟨rfl,T⟩;have b7:=Z T;clear T;go_wp2_with fail;go_ret;exact⟨rfl,b7.o⟩
end Go.Proofs.YtkhnggkkiefcdaaGreatDoor
