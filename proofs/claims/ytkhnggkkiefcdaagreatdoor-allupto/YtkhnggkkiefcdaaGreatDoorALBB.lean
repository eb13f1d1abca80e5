/- larder: joined texts -/
import Derived.Test.YtkhnggkkiefcdaaGreatDoorALAZ
import Derived.Test.YtkhnggkkiefcdaaGreatDoorALBA
namespace Go.Proofs.YtkhnggkkiefcdaaGreatDoor
open Go.RowKit Proofs.Tryz
set_option maxRecDepth 100000
set_option maxHeartbeats 8000000
variable{K:Nat->Prop}{w:World}{R:Nat->Nat->List Value}{B t:Nat}{L:WL}{W:WM}{X:NL}{M M':DM}{p:Prop}
def Bkr(K:Nat->Prop)(w:World)(size:Nat)(R:Nat->Nat->List Value)(vs:List Value)(vm:List Nat):Prop :=
 vs.length=vm.length/\∀ i (a:i<vs.length) (b:i<vm.length),vm[i]<1000000000000/\(∃ n,n<=100000004/\Rds w vs[i] n size (R vm[i] n))/\∀ k,vs[i].ownBlock=some k->K k
structure Bok(K:Nat->Prop)(w:World)(bk:BK):Prop where
 vs:Bkr K w 8 Jt bk.vs bk.vm
 ns:Bkr K w 1 T6 bk.ns bk.nm
 hs:Bkr K w 2 Vt bk.hs bk.hm
theorem Bkr.fr{S K':Nat->Prop}{w':World}{size:Nat}{vs:List Value}{vm:List Nat}(h:Bkr K w size R vs vm)(f:Fr S w w')(r:∀ k,K k->¬S k)(o:∀ k,K k->K' k):Bkr K' w' size R vs vm :=
 ⟨h.1,fun i c g=>by
  obtain⟨a,⟨n,y,A⟩,b⟩:=h.2 i c g;exact⟨a,⟨n,y,A.fr f (fun _ k e=>r k (b k e))⟩,fun k e=>o k (b k e)⟩⟩
theorem Bok.fr{S K':Nat->Prop}{w':World}{g:BK}(h:Bok K w g)(f:Fr S w w')(e:∀ k,K k->¬S k)(c:∀ k,K k->K' k):Bok K' w' g :=
 ⟨h.vs.fr f e c,h.ns.fr f e c,h.hs.fr f e c⟩
def KB(K:Nat->Prop)(w b:World)(a:WL)(k:Nat):Prop:=K k\/(w.heap.size<=k/\k<b.heap.size/\¬WFoot a k)
theorem Bkr.add{S:Nat->Prop}{o j:World}{q:WL}{size b m:Nat}{vs d ne:List Value}{vm c:List Nat}(h:Bkr K o size R vs vm)(v:S7 vs vm d c ne 4 m)(hm:m<1000000000000)(y:Ws o j q size (R m) b ne)(x:b<=100000004)(f:Fr S o j)(u:∀ k,K k->¬S k):Bkr (KB K o j q) j size R d c:=by
 have s:=h.fr (K':=KB K o j q) f u (fun k e=>.inl e);obtain⟨rfl,rfl,C⟩:=v;refine⟨by rw[FS,FS,List.length_replicate,C,h.1],fun i t G=>?_⟩;by_cases r:i<vs.length
 .have hi2:i<vm.length:=by rw[<- h.1];exact r
  rw[BG r,BG hi2];exact s.2 i r hi2
 .have hle:vs.length<=i:=V
  have a:vm.length<=i:=by rw[<- h.1];exact hle
  rw[BX hle,BX a,wU];rw[FS] at t;obtain⟨⟨n,J,D⟩,A⟩:=y _ (CW (l:=ne) (n:=i-vs.length) V);exact⟨hm,⟨n,V,D⟩,fun k e=>.inr (A k e)⟩
theorem WAt.pj{b:World}{a:WL}{c:WM}(h:WAt K b a c):WAt (KB K w b a) b a c :=
 h.tV (fun _ e=>.inl e) (fun k e=>e.elim (h.tY k) (fun e=>⟨e.2.1,e.2.2⟩))
theorem Play.pj{d:World}{c:WL}{f:WM}{N:NM}(h:Play K B w L W X N M)(s:WStep K L w c f d):PStep K B L X M w (KB K w d c) c f X N M d:=by
 have b:=h.rh s;have a:=b.tm;exact⟨⟨a.tG.pj,a.node,a.qg,a.nv,a.db,fun k e g=>e.elim (fun e=>h.rH k e g) (fun e=>by have:=h.node.lt g;omega),a.low⟩,fun _ e=>.inl e,fun k e=>e.elim .inl (fun e=>.inr e.1),b.fr,b.sf,b.wb,b.tv⟩
theorem TL(K:Nat->Prop)(L:WL)(W:WM)(g:Value)(l:List Ver)(b w:World)(o:WAt K b L W)(v:Fr Nil b w)(B:VRow w g l)(d:∀ k,g.ownBlock=some k->b.heap.size<=k)(C:l.length<100000)(i:W.base<100000000)(D:W.next<100000000)(hs:BSmall W.bk) :
 Calls prog 119 #[E L.wb 15,g] w fun e f=>e=.returned (.tuple #[])/\∃ c a,WStep K L b c (W.tX a) f/\Booked W.bk a/\c.ps=L.ps/\(Bok K b W.bk->Bok (KB K b f c) f a):=by
 refine(Mu K L W g l b w o v B d C i D hs).mono ?_;rintro e f ⟨rfl,c,a,ne,m,h,x,y,⟨r,s,t,u⟩,i,hm,A⟩;refine⟨rfl,c,a,h,x,y,fun q=>?_⟩;have p:∀ k,K k->¬WFoot L k:=fun k e=>(o.tY k e).2;have j:=q.fr (K':=KB K b f c) h.fr p (fun _ e=>.inl e);exact⟨q.vs.add i hm A V h.fr p,by rw[r,s];exact j.ns,by rw[t,u];exact j.hs⟩
theorem Mx(K:Nat->Prop)(L:WL)(W:WM)(g:Value)(l:List Value)(b w:World)(o:WAt K b L W)(v:Fr Nil b w)(B:w.ownsRow 0 9 1 g l.length l)(d:∀ k,g.ownBlock=some k->b.heap.size<=k)(C:l.length<100000000)(i:W.base<100000000)(D:W.next<100000000)(hs:BSmall W.bk) :
 Calls prog 120 #[E L.wb 15,g] w fun e f=>e=.returned (.tuple #[])/\∃ c a,WStep K L b c (W.tX a) f/\Booked W.bk a/\c.ps=L.ps/\(Bok K b W.bk->Bok (KB K b f c) f a):=by
 refine(Mv K L W g l b w o v B d C i D hs).mono ?_;rintro e f ⟨rfl,c,a,ne,m,h,x,y,⟨r,s,t,u⟩,i,hm,A⟩;refine⟨rfl,c,a,h,x,y,fun q=>?_⟩;have p:∀ k,K k->¬WFoot L k:=fun k e=>(o.tY k e).2;have j:=q.fr (K':=KB K b f c) h.fr p (fun _ e=>.inl e);exact⟨by rw[r,s];exact j.vs,q.ns.add i hm A V h.fr p,by rw[t,u];exact j.hs⟩
theorem My(K:Nat->Prop)(L:WL)(W:WM)(g:Value)(l:List (Nat × ByteArray))(b w:World)(o:WAt K b L W)(v:Fr Nil b w)(B:w.ownsRow 0 75 2 g l.length (zI l))(d:∀ k,g.ownBlock=some k->b.heap.size<=k)(C:l.length<100000000)(i:W.base<100000000)(D:W.next<100000000)(hs:BSmall W.bk) :
 Calls prog 122 #[E L.wb 15,g] w fun e f=>e=.returned (.tuple #[])/\∃ c a,WStep K L b c (W.tX a) f/\Booked W.bk a/\c.ps=L.ps/\(Bok K b W.bk->Bok (KB K b f c) f a):=by
 refine(Mw K L W g l b w o v B d C i D hs).mono ?_;rintro e f ⟨rfl,c,a,ne,m,h,x,y,⟨r,s,t,u⟩,i,hm,A⟩;refine⟨rfl,c,a,h,x,y,fun q=>?_⟩;have p:∀ k,K k->¬WFoot L k:=fun k e=>(o.tY k e).2;have j:=q.fr (K':=KB K b f c) h.fr p (fun _ e=>.inl e);exact⟨by rw[r,s];exact j.vs,by rw[t,u];exact j.ns,q.hs.add i hm A V h.fr p⟩
structure Lv(K:Nat->Prop)(B:Nat)(w:World)(L:WL)(W:WM)(X:NL)(N:NM)(M:DM)(t:Nat):Prop where
 rf:Play K B w L W X N M
 ph:∃ F p,NI W N M F p t
 ps:L.ps≠[]
structure Cl(K:Nat->Prop)(w:World)(L:WL)(W:WM)(LD:DL)(M:DM)(t:Nat):Prop where
 tG:WAt K w L W
 sk:DRep w L.db LD M
 rH:∀ k,K k->¬Foot L.db LD M k
 ph:∃ F p,Sh W M F p t
 ps:L.ps≠[]
 nv:L.nv=.pointer none
def KBk(K:Nat->Prop)(c:BK)(w:World)(b:Nat->Prop)(a:BK)(d:World):Prop:=(∀ k,b k->K k\/w.heap.size<=k)/\(Bok K w c->Bok b d a)
theorem KBk.trans{g o r:Nat->Prop}{s t x:BK}{c w2 y:World}(h:KBk g s c o t w2)(k:KBk o t w2 r x y)(hs:c.heap.size<=w2.heap.size):KBk g s c r x y :=
 ⟨fun i e=>(k.1 i e).elim (h.1 i) (fun e=>.inr (CQ hs e)),fun e=>k.2 (h.2 e)⟩
def Nx(K:Nat->Prop)(bk:BK)(B:Nat)(P:Nat->Prop)(g:Nat)(tv:Value)(w:World)(t:Nat)(e:World):Prop :=
 Fr P w e/\((∃ b a d f h M',Lv b B e a d f h M' t/\a.wb=g/\a.tv=tv/\(∀ k,PFoot a f M' k->P k\/w.heap.size<=k)/\KBk K bk w b d.bk e) \/
  (∃ b a d c M',Cl b e a d c M' t/\a.wb=g/\a.tv=tv/\(∀ k,WFoot a k->P k\/w.heap.size<=k)/\(∀ k,Foot a.db c M' k->P k\/w.heap.size<=k)/\KBk K bk w b d.bk e))
theorem WM.nj(W:WM)(m:LM):(W.rJ m).bk=W.bk:=by unfold WM.rJ;simp only;split <;> rfl
theorem PStep.tF{a:Nat->Prop}{c:WL}{e:WM}{f:NL}{d:NM}{b:World}{bk:BK}(h:PStep K B L X M w a c e f d M' b)(g:∀ k,K k->¬PFoot L X M k):KBk K bk w a bk b :=
 ⟨h.new,fun i=>i.fr h.fr g h.old⟩
theorem Nx.ry{b:Nat->Prop}{c:WL}{a:WM}{i:NL}{d:NM}{g:World}{bk:BK}(h:PStep K B L X M w b c a i d M' g)(k:∃ F p,NI a d M' F p t)(l:c.ps≠[])(j:KBk K bk w b a.bk g):Nx K bk B (PFoot L X M) L.wb L.tv w t g :=
 ⟨h.fr,.inl ⟨b,c,a,i,d,M',⟨h.tm,k,l⟩,h.wb,h.tv,h.sf,j⟩⟩
theorem Nx.tA{c:Nat->Prop}{L' g:WL}{W' a:WM}{d:NL}{s:NM}{q r:World}{m:BK}(h:PStep K B L X M w c L' W' d s M' q)(k:Off c L' d M' q g a r)(o:∃ F p,Sh a M' F p t)(u:∀ k,K k->¬PFoot L X M k)(x:a.bk=m):Nx K m B (PFoot L X M) L.wb L.tv w t r:=by
 have f:=h.fr.tq k.fr (fun i o e=>(h.sf i e).resolve_right V);refine⟨f,.inr ⟨c,g,a,d.LD,M',⟨k.tm,k.sk,k.rH,o,k.ps,k.nv⟩,k.wb.trans h.wb,k.tv.trans h.tv,fun i e=>?_,fun i e=>?_,h.new,fun y=>by rw[x];exact y.fr f u h.old⟩⟩
 .exact(k.sf i e).elim (h.sf i) (fun e=>.inr (CQ h.fr.size e))
 .rw[k.db] at e
  exact h.sf i (.inr (.inr (.inr (.inr (.inl e)))))
theorem Aft.held{mx:LM}{e:Option Int}{N':NM}{r:Nat}(h:Aft W mx M e N' M' r):Zc N'.S/\N'.S.uT.length<=r:=by
 obtain⟨g,p',X,_,_,L⟩:=h.body;have d:=X.le;have b:N'.S=atF g g.length:=X.held;have key:∀ (st:List LM) (mo:Nat),(∀ m∈st,MOk W.node m r)->Hist st g p' True->ZB W.node W.uU mo g p'->Zc N'.S/\N'.S.uT.length<=r:=fun st mo hm s l=>by
  obtain⟨ml,C,hrel,_⟩:=s.tw d;have a:=l g.length d (CR _);rw[<- b] at a hrel;exact⟨a.1,by rw[<- hrel.1];exact(hm ml (AX C)).uT⟩
 rcases L with⟨k,f⟩|⟨_,⟨k,f⟩|⟨n,⟨F0,x0,hF,A,q,B,l,_⟩,hn⟩⟩
 .exact key _ _ (fun m hm=>by
   rcases CX.1 hm with hm|hm
   .exact h.cm.qi m hm
   .rw[CZ] at hm;subst hm;exact h.qi) k f
 .exact key _ _ h.cm.qi k f
 .have a:=l g.length d (CR _)
  rw[<- b] at a q;refine⟨a.1,?_⟩;obtain⟨K,key,v,D,k2,k3,k4,k5,k6,k7,k8⟩:=q;have c:N'.S.uT.length=mx.uT.length:=by
   exact GU
  rw[c];exact h.qi.uT
theorem MOk.mG{node:Int}{m:LM}(h:MOk node m t)(b:t<=10000000):ZR m.uT/\m.uT.length<100000000/\(∀ e∈m.uT,e.2.length<100000)/\m.uW.length<1000000 :=
 ⟨h.ru,by have:=h.uT;omega,fun e a=>by have:=h.oH e a;omega,by have:=h.uW;omega⟩
theorem WM.oW(a:Bd M t)(c:t<=1000000)(b:M.room=W.qB)(h:M.room<M.sY+2000):¬(2000:Int)<=W.free M:=by
 have g:=a.sY c;have i:=a.r0;have j:=a.r1;have d:M.rG=M.sY:=M.pY V;have e:(if W.room<0 then 1152921504606846976 else W.room)=M.room:=b.symm;unfold WM.free;rw[e,d];have f:IntKind.i64.wrap (M.room-(M.sY:Int))=M.room-(M.sY:Int):=by rw[Bw];omega
 rw[f];omega
theorem Eg(m K:Nat->Prop)(B:Nat)(i:WL)(y:NL)(a:DM)(v:World)(L:WL)(W:WM)(X:NL)(N:NM)(M:DM)(w:World)(q:Nat)(J:LM)(e:Option Int)(t0 t:Nat)(fr:Int)
 (hs:PStep m B i y a v K L W X N M w)(j:L.ps≠[])(hq:MRep K w q J)(S:q≠L.ps[L.ps.length-1]'(by have:=yn.2 j;omega))(b:Aft W J a e N M t)(ht:t<=900000)(hb:Bd a t0)(a4:t0<=1000000)(a0:a.room=W.qB)(he:e=none\/e=some 9\/e=some 10)(R:fr=W.free a)(o:BK)(C:∀ k,m k->¬PFoot i y a k)(f:W.bk=o) :
 Calls prog 110 #[E L.wb 0,E q 0,I (Zt e),.agg #[I a.uV,I a.tu],I fr] w fun e g=>e=.returned (.bool true)/\Nx m o B (PFoot i y a) i.wb i.tv v t g:=by
 have hp:=yn.2 j;have s:=hs.tm.tG.qC;have a2:=b.len;have a5:=b.ww;rcases b.rF.1 with⟨rfl,A,h2,h3⟩|⟨A,hx⟩
 .have hc:=Hw K L W X.LD M q J fr a.tu w hs.tm.tG hs.tm.tK hp V hq S V
  rw[A] at hc;refine hc.mono ?_;rintro e g ⟨rfl,L',u,c⟩;exact⟨rfl,Nx.ry (hs.trans (hs.tm.rh u)) b.rJ c (by rw[WM.nj,f];exact(hs.trans (hs.tm.rh u)).tF C)⟩
 .obtain⟨x,rfl⟩:∃ x,e=some x:=by rcases hx with⟨e,_⟩|⟨e,_⟩ <;> exact⟨_,e⟩
  have p:Zt (some x)=x:=rfl;have a1:(x=9/\M.uV=a.uV+1/\M.tu=a.tu)\/(x=10/\M.uV=a.uV+1/\M.tu=a.tu+1):=by
   rcases hx with⟨e,h⟩|⟨e,h,_⟩
   .exact .inl ⟨BC e,A,h⟩
   .exact .inr ⟨BC e,A,h⟩
  have hn:W.st[L.ps.length-1]?=some (W.st[L.ps.length-1]' V):=CU _;have T:MOk W.node (W.st[L.ps.length-1]' V) t:=b.cm.qi _ (CW _);have r:=b.held;have D:=b.cm.uU;have a3:=r.1.qW;rw[p];refine DZ K B L W X N M q J _ x a.uV a.tu fr w hs.tm hp V hq hn a1 ?_ (fun l G=>?_) V V r.1 V (fun g=>Nx m o B (PFoot i y a) i.wb i.tv v t g) ?_ ?_ ?_
  .rintro⟨rfl,h⟩
   rw[R] at h;exact WM.oW hb V a0 (b.sO rfl) h
  .rcases BE.1 G with rfl|G
   .exact b.qi.mG V
   .rw[CZ] at G
    rw[G];exact T.mG V
  .intro hd L' g ho
   exact Nx.tA hs ho (b.tA hd) C f
  .intro hd m' hm' Q L' g c d
   exact Nx.ry (hs.trans d) ((b.nO hd).1 m' hm') c (by show KBk m o v Q W.bk g;rw[f];exact(hs.trans d).tF C)
  .intro hd hno
   obtain⟨h4,h5⟩:=(b.nO hd).2 hno;obtain⟨h6,h7⟩:=h5 _ (by rw[<- s];exact hn);exact⟨h4,_,h6,fun Q g d=>Nx.ry (hs.trans d) h7 j (by show KBk m o v Q W.bk g;rw[f];exact(hs.trans d).tF C)⟩
theorem WAt.mh(h:WAt K w L W)(b:Nat):WAt K (w.setCell (Y L.wb 4) (E b 0)) {L with db:=b} W/\Fr (fun k=>k=L.wb) w (w.setCell (Y L.wb 4) (E b 0)):=by
 have f:Fr (fun k=>k=L.wb) w (w.setCell (Y L.wb 4) (E b 0)):=Fr.set (S:=fun k=>k=L.wb) (p:=⟨L.wb,4,none⟩) (U _ _) (fun _=>rfl) _;refine⟨h.sN (L':={L with db:=b}) (W':=W) ?_ f rfl rfl rfl rfl rfl rfl rfl rfl rfl rfl rfl,f⟩;have:=h.th.set 4 (E b 0)
 simpa [WM.cells] using this
theorem WAt.oL(h:WAt K w L W)(v:Value):WAt K (w.setCell (Y L.wb 5) v) {L with nv:=v} W/\Fr (fun k=>k=L.wb) w (w.setCell (Y L.wb 5) v):=by
 have f:Fr (fun k=>k=L.wb) w (w.setCell (Y L.wb 5) v):=Fr.set (S:=fun k=>k=L.wb) (p:=⟨L.wb,5,none⟩) (U _ _) (fun _=>rfl) _;refine⟨h.sN (L':={L with nv:=v}) (W':=W) ?_ f rfl rfl rfl rfl rfl rfl rfl rfl rfl rfl rfl,f⟩;have:=h.th.set 5 v
 simpa [WM.cells] using this
def RFoot(L:WL)(a:DL)(M:DM)(k:Nat):Prop:=WFoot L k\/Foot L.db a M k
theorem Kd(K:Nat->Prop)(L:WL)(W:WM)(m:DL)(M:DM)(y:Lay)(p t:Nat)(b:Int)(a:List Int)(tv:Value)(w:World)(h:WAt K w L W)(Q:DRep w L.db m M)(l:∀ k,K k->¬Foot L.db m M k)(R:-9223372036854775808<=b)(S:b<=9223372036854775807)
 (B:Yp w tv a)(C:∀ k,a≠[]->tv.ownBlock=some k->¬Foot L.db m M k)(D:∀ x,x∈a->-9223372036854775808<=x/\x<=9223372036854775807)(hl:Lg M y p t)(ht:t<=900000) :
 Calls prog 52 #[E L.wb 0,I b,tv] w fun e X=>e=.returned (.tuple #[])/\∃ i,WAt K X {L with nv:=.pointer none} {W with qf:=true}/\DRep X L.db i (M.so b a)/\Fr (RFoot L m M) w X/\∀ k,Foot L.db i (M.so b a) k->Foot L.db m M k\/w.heap.size<=k:=by
 have G:=hl.bd;have a0:=G.tE;have u:=h.th.cell;simp only[WM.cells] at u;have J:=Z (Mb b a tv w L.db m M Q R S B C D (fun f hf=>by have:=G.uX hf;omega) V (fun d T=>by have:=G.sG d T;omega));have HH:=Z h;have HD:=Z Q;have q:=Z l;clear h Q l B C D G hl;go_enter func52,ntmps52;go_wp2_with fail;refine J.o.mono ?_;rintro e w1 ⟨rfl,i,hs⟩;have g:=HH.o.fr hs.fr (fun k A e=>HH.o.sk HD.o A e) q.o;obtain⟨s,o⟩:=g.oL (.pointer none);have j:=WStep.set s 7 (.bool true) (L':={L with nv:=.pointer none}) (W':={W with qf:=true}) ai rfl rfl rfl rfl rfl rfl rfl rfl rfl rfl rfl rfl rfl;have F3:=(hs.fr.mono (S':=RFoot L m M) (fun k _ e=>.inr e)).tq ((o.mono (S':=WFoot L) (fun k _ e=>.inl e)).tq (S':=WFoot L) j.fr (fun k _ e=>e)) (fun k _ e=>.inl e);have r:=(hs.tm.fr o (fun k A e=>g.sk hs.tm (.inl e) A)).fr j.fr (fun k A e=>g.sk hs.tm e A);have c:=Z (And.intro j.tm (And.intro r (And.intro F3 hs.sf)));have N:=g.th.cell;have a1:=g.th.frozen;simp only[WM.cells] at N;clear u hs g s o j F3 r;go_wp2_with fail;exact Ay (v:=.tuple #[]) af rfl ⟨rfl,i,c.o.1,c.o.2.1,c.o.2.2.1,c.o.2.2.2⟩
theorem RN(F:FuncId)(K:Nat->Prop)(L:WL)(W:WM)(r:Nat)(o:OpM)(w:World)(h:WAt K w L W)(j:L.nv=E r 0)(p:o.kind=2/\F=61\/o.kind=3/\F=61\/o.kind=4/\F=62)(Q:World->Prop)
 (l:∀ s,Fr Nil w s->Calls prog F #[E L.wb 0,.agg o.cells.toArray] s fun e m=>e=.returned (.bool true)/\Q m) :
 Calls prog 18 #[E L.wb 0,.agg o.cells.toArray] w fun e m=>e=.returned (.bool true)/\Q m:=by
 obtain⟨f,a,b,c,key,g,v,d⟩:=o;simp only at p;simp only[OpM.cells,Ver.cells,Bb,Bc] at l |-;have k:Fr Nil w (w.alloc (.cells #[I f,I a,I b,I c,.string key,.string g,I v.node,I v.seq,I v.o0,I v.o1,I v.o2,I v.o3,.string v.value,.bool v.tA,d] 39)):=(U _ _).alloc _;have i:=Blk.new w [I f,I a,I b,I c,.string key,.string g,I v.node,I v.seq,I v.o0,I v.o1,I v.o2,I v.o3,.string v.value,.bool v.tA,d] 39;have A:(w.alloc (.cells #[I f,I a,I b,I c,.string key,.string g,I v.node,I v.seq,I v.o0,I v.o1,I v.o2,I v.o3,.string v.value,.bool v.tA,d] 39)).cell? (Y L.wb 5)=some (E r 0):=by rw[<- j];exact(h.nil k).th.cell 5
 have y:=i.cell;have u:=Z k;have t:=Z (l _ k);clear h k i l j;rcases p with⟨rfl,rfl⟩|⟨rfl,rfl⟩|⟨rfl,rfl⟩
 all_goals
  go_enter xm,yX
  go_wp2_with (refine t.o.mono ?_;rintro e B ⟨rfl,q⟩;have x:=Z q;clear q)
  go_ret;exact⟨rfl,x.o⟩
theorem RO(F:FuncId)(K:Nat->Prop)(L:WL)(W:WM)(r:Nat)(o:OpM)(w:World)(h:WAt K w L W)(j:L.nv=E r 0)(p:o.kind=7/\F=63\/o.kind=9/\F=63\/o.kind=11/\F=64)(Q:World->Prop)
 (l:∀ s,Fr Nil w s->Calls prog F #[E L.wb 0,.agg o.cells.toArray] s fun e m=>e=.returned (.bool true)/\Q m) :
 Calls prog 18 #[E L.wb 0,.agg o.cells.toArray] w fun e m=>e=.returned (.bool true)/\Q m:=by
 obtain⟨f,a,b,c,key,g,v,d⟩:=o;simp only at p;simp only[OpM.cells,Ver.cells,Bb,Bc] at l |-;have k:Fr Nil w (w.alloc (.cells #[I f,I a,I b,I c,.string key,.string g,I v.node,I v.seq,I v.o0,I v.o1,I v.o2,I v.o3,.string v.value,.bool v.tA,d] 39)):=(U _ _).alloc _;have i:=Blk.new w [I f,I a,I b,I c,.string key,.string g,I v.node,I v.seq,I v.o0,I v.o1,I v.o2,I v.o3,.string v.value,.bool v.tA,d] 39;have A:(w.alloc (.cells #[I f,I a,I b,I c,.string key,.string g,I v.node,I v.seq,I v.o0,I v.o1,I v.o2,I v.o3,.string v.value,.bool v.tA,d] 39)).cell? (Y L.wb 5)=some (E r 0):=by rw[<- j];exact(h.nil k).th.cell 5
 have y:=i.cell;have u:=Z k;have t:=Z (l _ k);clear h k i l j;rcases p with⟨rfl,rfl⟩|⟨rfl,rfl⟩|⟨rfl,rfl⟩
 all_goals
  go_enter xm,yX
  go_wp2_with (refine t.o.mono ?_;rintro e B ⟨rfl,q⟩;have x:=Z q;clear q)
  go_ret;exact⟨rfl,x.o⟩
theorem Ke(F:FuncId)(K:Nat->Prop)(L:WL)(W:WM)(r:Nat)(o:OpM)(w:World)(h:WAt K w L W)(j:L.nv=E r 0)(p:o.kind=5/\F=65\/o.kind=6/\F=65)(Q:World->Prop)
 (l:∀ s,Fr Nil w s->Calls prog F #[E L.wb 0,.agg o.cells.toArray] s fun e m=>e=.returned (.bool true)/\Q m) :
 Calls prog 18 #[E L.wb 0,.agg o.cells.toArray] w fun e m=>e=.returned (.bool true)/\Q m:=by
 obtain⟨f,a,b,c,key,g,v,d⟩:=o;simp only at p;simp only[OpM.cells,Ver.cells,Bb,Bc] at l |-;have k:Fr Nil w (w.alloc (.cells #[I f,I a,I b,I c,.string key,.string g,I v.node,I v.seq,I v.o0,I v.o1,I v.o2,I v.o3,.string v.value,.bool v.tA,d] 39)):=(U _ _).alloc _;have i:=Blk.new w [I f,I a,I b,I c,.string key,.string g,I v.node,I v.seq,I v.o0,I v.o1,I v.o2,I v.o3,.string v.value,.bool v.tA,d] 39;have A:(w.alloc (.cells #[I f,I a,I b,I c,.string key,.string g,I v.node,I v.seq,I v.o0,I v.o1,I v.o2,I v.o3,.string v.value,.bool v.tA,d] 39)).cell? (Y L.wb 5)=some (E r 0):=by rw[<- j];exact(h.nil k).th.cell 5
 have y:=i.cell;have u:=Z k;have t:=Z (l _ k);clear h k i l j;rcases p with⟨rfl,rfl⟩|⟨rfl,rfl⟩
 all_goals
  go_enter xm,yX
  go_wp2_with (refine t.o.mono ?_;rintro e B ⟨rfl,q⟩;have x:=Z q;clear q)
  go_ret;exact⟨rfl,x.o⟩
theorem Kf(F:FuncId)(K:Nat->Prop)(L:WL)(W:WM)(r:Nat)(o:OpM)(w:World)(h:WAt K w L W)(j:L.nv=E r 0)(p:o.kind=8/\F=65\/o.kind=10/\F=65)(Q:World->Prop)
 (l:∀ s,Fr Nil w s->Calls prog F #[E L.wb 0,.agg o.cells.toArray] s fun e m=>e=.returned (.bool true)/\Q m) :
 Calls prog 18 #[E L.wb 0,.agg o.cells.toArray] w fun e m=>e=.returned (.bool true)/\Q m:=by
 obtain⟨f,a,b,c,key,g,v,d⟩:=o;simp only at p;simp only[OpM.cells,Ver.cells,Bb,Bc] at l |-;have k:Fr Nil w (w.alloc (.cells #[I f,I a,I b,I c,.string key,.string g,I v.node,I v.seq,I v.o0,I v.o1,I v.o2,I v.o3,.string v.value,.bool v.tA,d] 39)):=(U _ _).alloc _;have i:=Blk.new w [I f,I a,I b,I c,.string key,.string g,I v.node,I v.seq,I v.o0,I v.o1,I v.o2,I v.o3,.string v.value,.bool v.tA,d] 39;have A:(w.alloc (.cells #[I f,I a,I b,I c,.string key,.string g,I v.node,I v.seq,I v.o0,I v.o1,I v.o2,I v.o3,.string v.value,.bool v.tA,d] 39)).cell? (Y L.wb 5)=some (E r 0):=by rw[<- j];exact(h.nil k).th.cell 5
 have y:=i.cell;have u:=Z k;have t:=Z (l _ k);clear h k i l j;rcases p with⟨rfl,rfl⟩|⟨rfl,rfl⟩
 all_goals
  go_enter xm,yX
  go_wp2_with (refine t.o.mono ?_;rintro e B ⟨rfl,q⟩;have x:=Z q;clear q)
  go_ret;exact⟨rfl,x.o⟩
theorem Ju(K:Nat->Prop)(L:WL)(W:WM)(N:Nat)(o:OpM)(w:World)(h:WAt K w L W)(r:L.nv=E N 0)(M:o.kind≠1/\o.kind≠12/\o.kind≠13/\o.kind≠14/\o.kind≠2/\o.kind≠3/\o.kind≠4/\o.kind≠7/\o.kind≠9/\o.kind≠11/\o.kind≠15/\o.kind≠5/\o.kind≠6/\o.kind≠8/\o.kind≠10) :
 Calls prog 18 #[E L.wb 0,.agg o.cells.toArray] w fun e w'=>e=.returned (.bool true)/\Fr Nil w w':=by
 obtain⟨d,a,b,c,key,g,v,f⟩:=o;simp only at M;obtain⟨u,k,l,m,x,y,A,D,J,j,p,B,C,G,i⟩:=M;have e1:(d==1)=false:=by simp[u]
 have S:(d==12)=false:=by simp[k]
 have T:(d==13)=false:=by simp[l]
 have X:(d==14)=false:=by simp[m]
 have e2:(d==2)=false:=by simp[x]
 have e3:(d==3)=false:=by simp[y]
 have e4:(d==4)=false:=by simp[A]
 have e7:(d==7)=false:=by simp[D]
 have e9:(d==9)=false:=by simp[J]
 have R:(d==11)=false:=by simp[j]
 have a0:(d==15)=false:=by simp[p]
 have e5:(d==5)=false:=by simp[B]
 have e6:(d==6)=false:=by simp[C]
 have e8:(d==8)=false:=by simp[G]
 have Q:(d==10)=false:=by simp[i]
 simp only[OpM.cells,Ver.cells,Bb,Bc];have t:Fr Nil w (w.alloc (.cells #[I d,I a,I b,I c,.string key,.string g,I v.node,I v.seq,I v.o0,I v.o1,I v.o2,I v.o3,.string v.value,.bool v.tA,f] 39)):=(U _ _).alloc _;have q:=Blk.new w [I d,I a,I b,I c,.string key,.string g,I v.node,I v.seq,I v.o0,I v.o1,I v.o2,I v.o3,.string v.value,.bool v.tA,f] 39;have a2:(w.alloc (.cells #[I d,I a,I b,I c,.string key,.string g,I v.node,I v.seq,I v.o0,I v.o1,I v.o2,I v.o3,.string v.value,.bool v.tA,f] 39)).cell? (Y L.wb 5)=some (E N 0):=by rw[<- r];exact(h.nil t).th.cell 5
 have a1:=q.cell;have s:=Z t;clear h t q r u k l m x y A D J j p B C G i;go_enter xm,yX;go_wp2_with fail;go_ret;exact⟨rfl,s.o⟩
theorem Mz(K:Nat->Prop)(L:WL)(W:WM)(o:OpM)(w:World)(h:WAt K w L W)(m:L.nv=.pointer none)(s:o.kind≠1/\o.kind≠12/\o.kind≠13/\o.kind≠14) :
 Calls prog 18 #[E L.wb 0,.agg o.cells.toArray] w fun e B=>e=.returned (.bool true)/\Fr Nil w B:=by
 obtain⟨d,a,b,c,key,g,v,f⟩:=o;simp only at s;obtain⟨r,i,j,k⟩:=s;have C:(d==1)=false:=by simp[r]
 have t:(d==12)=false:=by simp[i]
 have u:(d==13)=false:=by simp[j]
 have x:(d==14)=false:=by simp[k]
 simp only[OpM.cells,Ver.cells,Bb,Bc];have q:Fr Nil w (w.alloc (.cells #[I d,I a,I b,I c,.string key,.string g,I v.node,I v.seq,I v.o0,I v.o1,I v.o2,I v.o3,.string v.value,.bool v.tA,f] 39)):=(U _ _).alloc _;have l:=Blk.new w [I d,I a,I b,I c,.string key,.string g,I v.node,I v.seq,I v.o0,I v.o1,I v.o2,I v.o3,.string v.value,.bool v.tA,f] 39;have A:(w.alloc (.cells #[I d,I a,I b,I c,.string key,.string g,I v.node,I v.seq,I v.o0,I v.o1,I v.o2,I v.o3,.string v.value,.bool v.tA,f] 39)).cell? (Y L.wb 5)=some (.pointer none):=by rw[<- m];exact(h.nil q).th.cell 5
 have y:=l.cell;have p:=Z q;clear h q l m r i j k;go_enter xm,yX;go_wp2_with fail;go_ret;exact⟨rfl,p.o⟩
theorem CL(L:WL)(o:OpM)(w:World)(k:o.kind=1)(Q:World->Prop)
 (i:∀ p,Fr Nil w p->Calls prog 17 #[E L.wb 0,I o.a,I o.b] p fun e j=>e=.returned (.bool true)/\Q j) :
 Calls prog 18 #[E L.wb 0,.agg o.cells.toArray] w fun e j=>e=.returned (.bool true)/\Q j:=by
 obtain⟨m,a,b,c,key,f,v,d⟩:=o;simp only at k;subst k;simp only[OpM.cells,Ver.cells,Bb,Bc] at i |-;have h:Fr Nil w (w.alloc (.cells #[I 1,I a,I b,I c,.string key,.string f,I v.node,I v.seq,I v.o0,I v.o1,I v.o2,I v.o3,.string v.value,.bool v.tA,d] 39)):=(U _ _).alloc _;have g:=Blk.new w [I 1,I a,I b,I c,.string key,.string f,I v.node,I v.seq,I v.o0,I v.o1,I v.o2,I v.o3,.string v.value,.bool v.tA,d] 39;have t:=g.cell;have r:=Z h;have q:=Z (i _ h);clear h g i;go_enter xm,yX
 go_wp2_with (refine q.o.mono ?_;rintro e u ⟨rfl,l⟩;have s:=Z l;clear l)
 go_ret;exact⟨rfl,s.o⟩
theorem Na(K:Nat->Prop)(L:WL)(W:WM)(LD:DL)(M:DM)(o:OpM)(w:World)(t:Option Addr)(x u:Nat)(Q:o.rA=.slice t x u)(h:WAt K w L W)(N:DRep w L.db LD M)(r:∀ k,K k->¬k=L.db)(q:o.kind=13)(a2:-9223372036854775808<=o.a)(a3:o.a<=9223372036854775807) :
 Calls prog 60 #[E L.wb 0,.agg o.cells.toArray] w fun e w'=>e=.returned (.tuple #[])/\∃ n,WAt K w' {L with tv:=o.rA} {W with sG:=o.b}/\DRep w' L.db LD (M.rB n)/\Fr (fun k=>k=L.wb\/k=L.db) w w':=by
 obtain⟨a8,a,b,c,key,j,v,a6⟩:=o;simp only at q a2 a3 Q;subst q Q;simp only[OpM.cells,Ver.cells,Bb,Bc];have y:=Blk.new w [I 13,I a,I b,I c,.string key,.string j,I v.node,I v.seq,I v.o0,I v.o1,I v.o2,I v.o3,.string v.value,.bool v.tA,(.slice t x u)] 39;have f1:Fr Nil w (w.alloc (.cells #[I 13,I a,I b,I c,.string key,.string j,I v.node,I v.seq,I v.o0,I v.o1,I v.o2,I v.o3,.string v.value,.bool v.tA,(.slice t x u)] 39)):=(U _ _).alloc _;have a0:aa (L.db<w.heap.size/\L.wb<w.heap.size/\L.db≠L.wb):=⟨N.th.lt,h.th.lt,fun e=>h.sk N (.inl e) .th⟩;have HC:=Z (fun n C (f:Fr Nil w C)=>RZ n C L.db LD M (N.nil f));have HW:=Z (fun C (f:Fr Nil w C)=>h.nil f);have D:=Z r;have HD:=Z (fun C (f:Fr Nil w C)=>N.nil f);clear h N r;have g:=Z f1;have a4:=y.cell;have s:∀ k,(w.alloc (.cells #[I 13,I a,I b,I c,.string key,.string j,I v.node,I v.seq,I v.o0,I v.o1,I v.o2,I v.o3,.string v.value,.bool v.tA,(.slice t x u)] 39)).cell? (Y L.wb k)=(W.cells L)[k]?:=(HW.o _ f1).th.cell;simp only[WM.cells] at s;have T:=Z y;clear f1 y;obtain⟨m,hm⟩:∃ m:Nat,(a=m/\m<=9223372036854775807)\/(a=-(m:Int)-1/\m<=9223372036854775807):=by
  by_cases a7:a<0
  .exact⟨(-(a+1)).toNat,V⟩
  .exact⟨a.toNat,V⟩
 have ht:(m:Int).tmod 40=((m%40:Nat):Int):=by rw[show(40:Int)=((40:Nat):Int) from rfl,wM]
 rcases hm with⟨rfl,hm⟩|⟨rfl,hm⟩
 case' inl =>
  have h0:¬((m:Int)<0):=V
  have a1:decide ((m:Int)<0)=false:=bG
 case' inr =>
  have h0:(-(m:Int)-1<0):=V
  have a1:decide (-(m:Int)-1<0)=true:=by simp;omega
 all_goals
  go_enter func60,ntmps60;go_wp2_with fail;refine(HC.o _ _ g.o).mono ?_;rintro e B ⟨rfl,A,l⟩;have d:=(HW.o _ g.o).fr l (fun k q e=>(HW.o _ g.o).sk (HD.o _ g.o) q aN) (fun k q e=>D.o k q e);have X:=Z (T.o.fr l (fun e=>by have:=a0.o.1;omega));have a5:∀ k,B.cell? (Y L.wb k)=(W.cells L)[k]?:=d.th.cell;have b0:=d.th.frozen;simp only[WM.cells] at a5;have a9:=X.o.cell;have fa:Fr (fun k=>k=L.wb) B (B.setCell (Y L.wb 13) (I b)):=Fr.set (S:=fun k=>k=L.wb) (p:=⟨L.wb,13,none⟩) (U _ _) (fun _=>rfl) _;have R:Fr (fun k=>k=L.wb) B ((B.setCell (Y L.wb 13) (I b)).setCell (Y L.wb 14) (.slice t x u)):=Fr.set (S:=fun k=>k=L.wb) (p:=⟨L.wb,14,none⟩) fa (fun _=>rfl) _;have J:=d.sN (L':={L with tv:=(.slice t x u)}) (W':={W with sG:=b}) (by have:=(d.th.set 13 (I b)).set 14 (.slice t x u);simpa [WM.cells] using this) R rfl rfl rfl rfl rfl rfl rfl rfl rfl rfl rfl;have G:=A.fr R (fun k q e=>d.sk A (.inl e) q);have F3:Fr (fun k=>k=L.wb\/k=L.db) w ((B.setCell (Y L.wb 13) (I b)).setCell (Y L.wb 14) (.slice t x u)):=((g.o.mono (S':=fun k=>k=L.wb\/k=L.db) (fun _ _ e=>absurd e id)).tq l (fun k _ e=>.inr e)).tq R (fun k _ e=>.inl e);have i:=Z (And.intro J (And.intro G F3));clear s a4 A l d fa R J G F3;go_wp2_with fail;exact Ay (v:=.tuple #[]) af rfl ⟨rfl,_,i.o.1,i.o.2.1,i.o.2.2⟩
theorem QD(K:Nat->Prop)(L:WL)(W:WM)(R:DL)(M:DM)(o:OpM)(w:World)(h:WAt K w L W)(G:DRep w L.db R M)(r:∀ k,K k->¬k=L.db)(y:o.kind=14)(a1:-9223372036854775808<=o.a)(a2:o.a<=9223372036854775807) :
 Calls prog 60 #[E L.wb 0,.agg o.cells.toArray] w fun e w'=>e=.returned (.tuple #[])/\∃ n,WAt K w' L W/\DRep w' L.db R (M.sQ n o.b)/\Fr (fun k=>k=L.db) w w':=by
 obtain⟨a5,a,b,c,key,j,v,d⟩:=o;simp only at y a1 a2;subst y;simp only[OpM.cells,Ver.cells,Bb,Bc];have x:=Blk.new w [I 14,I a,I b,I c,.string key,.string j,I v.node,I v.seq,I v.o0,I v.o1,I v.o2,I v.o3,.string v.value,.bool v.tA,d] 39;have T:Fr Nil w (w.alloc (.cells #[I 14,I a,I b,I c,.string key,.string j,I v.node,I v.seq,I v.o0,I v.o1,I v.o2,I v.o3,.string v.value,.bool v.tA,d] 39)):=(U _ _).alloc _;have A:aa (L.db<w.heap.size/\L.wb<w.heap.size/\L.db≠L.wb):=⟨G.th.lt,h.th.lt,fun e=>h.sk G (.inl e) .th⟩;have HC:=Z (fun n g (f:Fr Nil w g)=>Sg n b g L.db R M (G.nil f));have D:=Z (fun g (f:Fr Nil w g)=>h.nil f);have C:=Z r;have HD:=Z (fun g (f:Fr Nil w g)=>G.nil f);clear h G r;have i:=Z T;have a3:=x.cell;have s:∀ k,(w.alloc (.cells #[I 14,I a,I b,I c,.string key,.string j,I v.node,I v.seq,I v.o0,I v.o1,I v.o2,I v.o3,.string v.value,.bool v.tA,d] 39)).cell? (Y L.wb k)=(W.cells L)[k]?:=(D.o _ T).th.cell;simp only[WM.cells] at s;have p:=Z x;clear T x;obtain⟨m,hm⟩:∃ m:Nat,(a=m/\m<=9223372036854775807)\/(a=-(m:Int)-1/\m<=9223372036854775807):=by
  by_cases a4:a<0
  .exact⟨(-(a+1)).toNat,V⟩
  .exact⟨a.toNat,V⟩
 have ht:(m:Int).tmod 40=((m%40:Nat):Int):=by rw[show(40:Int)=((40:Nat):Int) from rfl,wM]
 rcases hm with⟨rfl,hm⟩|⟨rfl,hm⟩
 case' inl =>
  have h0:¬((m:Int)<0):=V
  have X:decide ((m:Int)<0)=false:=bG
 case' inr =>
  have h0:(-(m:Int)-1<0):=V
  have X:decide (-(m:Int)-1<0)=true:=by simp;omega
 all_goals
  go_enter func60,ntmps60;go_wp2_with fail;have Q:aa (∀ g,Fr Nil w g->g.cell? (Y L.wb 4)=some (E L.db 0)):=fun g f=>(D.o g f).th.cell 4;clear s a3;generalize w.alloc (.cells #[I 14,I _,I b,I c,.string key,.string j,I v.node,I v.seq,I v.o0,I v.o1,I v.o2,I v.o3,.string v.value,.bool v.tA,d] 39)=t at i p |-;have B:aa (L.db<w.heap.size):=A.o.1;generalize w.heap.size=S at p B |-;have a6:t.cell? (Y L.wb 4)=some (E L.db 0)/\t.cell? (Y S 2)=some (I b):=⟨Q.o _ i.o,p.o.cell 2⟩;have q:aa (∀ g,Fr (fun k=>k=L.db) t g->g.cell? (Y L.wb 4)=some (E L.db 0)/\g.cell? (Y S 2)=some (I b)):=fun g f=>⟨((D.o t i.o).th.fr f (fun e=>A.o.2.2 e.symm)).cell 4,(p.o.fr f (fun e=>by have:=B.o;omega)).cell 2⟩
  go_region_held3 (fun g=>g.cell? (Y L.wb 4)=some (E L.db 0)/\g.cell? (Y S 2)=some (I b)) (first|assumption|go_keep|exact q.o _ zd)
   (first|(go_at_call 46;refine(HC.o _ _ (i.o.trans zd)).mono ?_;rintro e w2 ⟨rfl,J,N⟩;have u:Fr (fun k=>k=L.db) t w2:=Fr.trans zd N;have a7:=q.o w2 u;have l:=Z (And.intro J u);clear J N u))
  go_wp2_with fail;have a0:=(D.o t i.o).fr l.o.2 (fun k y e=>(D.o t i.o).sk (HD.o t i.o) y aN) (fun k y e=>C.o k y e);exact xE (v:=.tuple #[]) af rfl ⟨rfl,_,a0,l.o.1,(i.o.mono (S':=fun k=>k=L.db) (fun _ _ e=>absurd e id)).trans l.o.2⟩
theorem R8(h:p:=by
 intro d K' L' W' X' N' M' s;have fl:Fr (fun k=>k<w.heap.size) w4 d:=s.fr.mono (fun k _ e=>HH.o.lt e);refine⟨fun k=>(d4.o d ((((F2.o.alloc _).trans c7.o).mono (S':=fun k=>k<w.heap.size) (fun _ _ e=>absurd e id)).tq fl (fun _ _ e=>e)) k).trans (d5.o k),?_⟩;exact(d3.o.fr ((c7.o.mono (S':=fun k=>k<w.heap.size) (fun _ _ e=>absurd e id)).tq fl (fun _ _ e=>e)) (by have:=c2.o;omega)).cell):p:=h
theorem R9(h:p:=by
 intro d w' X' N' M' f s;have hp:=(H4.o.nil f).trans ((H4.o.nil f).tm.call s);refine⟨(hp.tm.tG.th.cell 5).trans ?_,(D.o _ _ _ _ _ _ _ hp).1⟩;show some L.nv=_;rw[HH.o.nv]):p:=h
theorem Jv(a6:zy)(K:Nat->Prop)(B:Nat)(L:WL)(W:WM)(X:NL)(N:NM)(M:DM)(o:OpM)(w:World)(h:Play K B w L W X N M)(hk:o.kind=11)(A:W.ts=false)(hp:0<L.ps.length)(hl:L.ps.length<1000000)
 (d0:(N.tH M).1=0/\(N.tH M).2.2.uV=M.uV) :
 Calls prog 64 #[E L.wb 0,.agg o.cells.toArray] w fun e w'=>e=.returned (.bool true)/\∃ L' X',L'.ps≠[]/\PStep K B L X M w K L' {W with st:=W.st.drop (W.st.length-1)} X' (N.tH M).2.1 (N.tH M).2.2 w':=by
 obtain⟨d2,a,b,c,key,j,v,i⟩:=o;simp only at hk |-;subst hk;have b7:=Z d0;clear d0;simp only[OpM.cells,Ver.cells,Bb,Bc];have f1:Fr Nil w (w.alloc (.cells #[I 11,I a,I b,I c,.string key,.string j,I v.node,I v.seq,I v.o0,I v.o1,I v.o2,I v.o3,.string v.value,.bool v.tA,i] 39)):=(U _ _).alloc _;have R:=Blk.new w [I 11,I a,I b,I c,.string key,.string j,I v.node,I v.seq,I v.o0,I v.o1,I v.o2,I v.o3,.string v.value,.bool v.tA,i] 39;have HM:=Z (fun d (f:Fr Nil w d)=>Ze K L W X.LD M d (h.tG.nil f) ((h.tK).nil f));have HF:=Z (fun d (f:Fr Nil w d)=>Zu K L W X.LD M d (h.tG.nil f) ((h.tK).nil f));have HC:=Z (fun d (f:Fr Nil w d)=>zE d L.db X.LD M ((h.tK).nil f));have S:=R.cell;have G:=Z f1;have l:=Z R;have HH:=Z h;have b6:=Z A;clear h f1 R A;go_enter uJ,uz;go_wp2_with fail;generalize c0:w.alloc (.cells #[I 11,I a,I b,I c,.string key,.string j,I v.node,I v.seq,I v.o0,I v.o1,I v.o2,I v.o3,.string v.value,.bool v.tA,i] 39)=wa at S G l |-;have d4:aa (∀ d,Fr (fun k=>k<w.heap.size) wa d->∀ k,d.cell? (Y w.heap.size k)=wa.cell? (Y w.heap.size k)):=fun d f k=>((l.o.fr f (yw _)).cell k).trans (l.o.cell k).symm;have d5:=Z S;have b9:aa (w.heap.size<wa.heap.size):=l.o.lt;clear c0 l;refine(HM.o wa G.o).mono ?_;rintro e w2 ⟨rfl,f2⟩;have J:Fr Nil w w2:=G.o.trans f2;have C:w.heap.size<w2.heap.size:=by have:=b9.o;have:=f2.size;omega
 have F2:=Z f2;have f3:Fr Nil w (w2.alloc (.cells #[I M.uV,I M.tu] 111)):=J.alloc _;have a4:=Blk.new w2 [I M.uV,I M.tu] 111;have a5:=(HH.o.tG.nil f3).th.cell;simp only[WM.cells] at a5;have d9:=Z J;have c2:=Z C;have F3:=Z f3;have d3:=Z a4;clear f2 J C f3 a4 S
 go_wp2_with (refine(HC.o _ F3.o).mono ?_;rintro e d ⟨rfl,b2⟩;subst d)
 refine(HF.o _ F3.o).mono ?_;rintro e w4 ⟨rfl,f4⟩;have Q:Fr Nil w w4:=F3.o.trans f4;have h4:=(HH.o.nil Q).tm;have u:=Z Q;have c7:=Z f4;have H4:=Z h4;clear Q f4 h4 a5;generalize IntKind.i64.wrap ((if W.room<0 then 1152921504606846976 else W.room)-M.rG)=fr;have y:=Z (fun d (f:Fr Nil w4 d)=>Xu a6 B X N M d (H4.o.node.nil f) (H4.o.qg.nil f));have D:aa (∀ d K' L' W' X' N' M',PStep K B L X M w4 K' L' W' X' N' M' d->(∀ k,d.cell? (Y w.heap.size k)=([I 11,I a,I b,I c,.string key,.string j,I v.node,I v.seq,I v.o0,I v.o1,I v.o2,I v.o3,.string v.value,.bool v.tA,i]:List Value)[k]?)/\(∀ k,d.cell? (Y w2.heap.size k)=[I M.uV,I M.tu][k]?)):=by
  exact R8
 have HK:aa (∀ d w' X' N' M',Fr Nil w4 d->NStep X M d X' N' M' w'->w'.cell? (Y L.wb 5)=some (E X.nb 0)/\∀ k,w'.cell? (Y w.heap.size k)=([I 11,I a,I b,I c,.string key,.string j,I v.node,I v.seq,I v.o0,I v.o1,I v.o2,I v.o3,.string v.value,.bool v.tA,i]:List Value)[k]?):=by
  exact R9
 have b3:=HK.o w4 w4 X N M (U _ _) (NStep.nil H4.o.node (U _ _));go_wp2_with fail;refine(y.o _ (U _ _)).mono ?_;rintro e r ⟨X5,rfl,T⟩;have a3:=Z T;clear T;have g:=Z (H4.o.call a3.o);rw[b7.o.1];generalize c9:(N.tH M).2.1=N5 at a3 g;have b0:=Z b7.o.2;generalize c8:(N.tH M).2.2=M5 at a3 g b0;have b8:=Z (And.intro c9 c8);clear c9 c8;clear b3 HK y b7;have c1:=(D.o _ _ _ _ _ _ _ g.o).1;have a0:=g.o.tm.tG.th.cell;simp only[WM.cells,b6.o] at a0;have q:∀ n k,(r.drewN n).cell? (Y L.wb k)=_:=fun n=>(g.o.tm.tG.th.drewN n).cell;simp only[WM.cells,b6.o] at q;have a8:∀ n k,(r.drewN n).cell? (Y w2.heap.size k)=[I M.uV,I M.tu][k]?:=fun n=>(D.o _ _ _ _ _ _ _ (g.o.trans (g.o.tm.nil ((U Nil r).drewN n)))).2;have c3:∀ n k,(r.drewN n).cell? (Y w.heap.size k)=([I 11,I a,I b,I c,.string key,.string j,I v.node,I v.seq,I v.o0,I v.o1,I v.o2,I v.o3,.string v.value,.bool v.tA,i]:List Value)[k]?:=fun n=>(D.o _ _ _ _ _ _ _ (g.o.trans (g.o.tm.nil ((U Nil r).drewN n)))).1;have m:=Z (fun n=>Zr (r.drewN n) L.db X5.LD M5 (g.o.tm.tK.nil ((U Nil r).drewN n)));rw[b0.o] at m;have b4:decide (M.uV<M.uV)=false:=bG
 have a7:¬M.uV<M.uV:=bG
 have f8:=Z (fun d (f:Fr Nil r d)=>Uw K L W d (g.o.tm.tG.nil f) hp V);go_wp2_with fail
 go_quiet ((go_at_call 47;exact Aj (m.o _)))
 go_wp2_with fail;refine(f8.o _ ((U Nil r).drewN nq)).mono ?_;rintro e w6 ⟨rfl,L6,f5,d7⟩;have d6:L6.ps≠[]:=fun e=>by
  have:=AK List.length (d7.symm.trans e);simp at this;omega
 have e4:=Z (And.intro f5 d6);clear f5 d7 d6 a0 q a8 c3 c1;go_wp2_with fail;go_ret;rw[b8.o.1,b8.o.2];exact⟨rfl,L6,X5,e4.o.2,(HH.o.nil u.o).trans ((g.o.trans (g.o.tm.nil ((U Nil r).drewN nq))).trans ((g.o.tm.nil ((U Nil r).drewN nq)).tm.rh e4.o.1))⟩
theorem Nb(a6:zy)(K:Nat->Prop)(B:Nat)(L:WL)(W:WM)(X:NL)(N:NM)(M:DM)(o:OpM)(w:World)(h:Play K B w L W X N M)(hk:o.kind=11)(A:W.ts=true)(g1:N.uY=true) :
 Calls prog 64 #[E L.wb 0,.agg o.cells.toArray] w fun e w'=>e=.returned (.bool true)/\∃ X',PStep K B L X M w K L W X' N M w':=by
 obtain⟨d2,a,b,c,key,j,v,i⟩:=o;simp only at hk |-;subst hk;have f6:aa (N.tH M=(8,N,M)):=by unfold NM.tH;rw[aa,Bn g1]
 simp only[OpM.cells,Ver.cells,Bb,Bc];have f1:Fr Nil w (w.alloc (.cells #[I 11,I a,I b,I c,.string key,.string j,I v.node,I v.seq,I v.o0,I v.o1,I v.o2,I v.o3,.string v.value,.bool v.tA,i] 39)):=(U _ _).alloc _;have R:=Blk.new w [I 11,I a,I b,I c,.string key,.string j,I v.node,I v.seq,I v.o0,I v.o1,I v.o2,I v.o3,.string v.value,.bool v.tA,i] 39;have HM:=Z (fun d (f:Fr Nil w d)=>Ze K L W X.LD M d (h.tG.nil f) ((h.tK).nil f));have HF:=Z (fun d (f:Fr Nil w d)=>Zu K L W X.LD M d (h.tG.nil f) ((h.tK).nil f));have HC:=Z (fun d (f:Fr Nil w d)=>zE d L.db X.LD M ((h.tK).nil f));have S:=R.cell;have G:=Z f1;have l:=Z R;have HH:=Z h;have b6:=Z A;clear h f1 R A;go_enter uJ,uz;go_wp2_with fail;generalize c0:w.alloc (.cells #[I 11,I a,I b,I c,.string key,.string j,I v.node,I v.seq,I v.o0,I v.o1,I v.o2,I v.o3,.string v.value,.bool v.tA,i] 39)=wa at S G l |-;have d4:aa (∀ d,Fr (fun k=>k<w.heap.size) wa d->∀ k,d.cell? (Y w.heap.size k)=wa.cell? (Y w.heap.size k)):=fun d f k=>((l.o.fr f (yw _)).cell k).trans (l.o.cell k).symm;have d5:=Z S;have b9:aa (w.heap.size<wa.heap.size):=l.o.lt;clear c0 l;refine(HM.o wa G.o).mono ?_;rintro e w2 ⟨rfl,f2⟩;have J:Fr Nil w w2:=G.o.trans f2;have C:w.heap.size<w2.heap.size:=by have:=b9.o;have:=f2.size;omega
 have F2:=Z f2;have f3:Fr Nil w (w2.alloc (.cells #[I M.uV,I M.tu] 111)):=J.alloc _;have a4:=Blk.new w2 [I M.uV,I M.tu] 111;have a5:=(HH.o.tG.nil f3).th.cell;simp only[WM.cells] at a5;have d9:=Z J;have c2:=Z C;have F3:=Z f3;have d3:=Z a4;clear f2 J C f3 a4 S
 go_wp2_with (refine(HC.o _ F3.o).mono ?_;rintro e d ⟨rfl,b2⟩;subst d)
 refine(HF.o _ F3.o).mono ?_;rintro e w4 ⟨rfl,f4⟩;have Q:Fr Nil w w4:=F3.o.trans f4;have h4:=(HH.o.nil Q).tm;have u:=Z Q;have c7:=Z f4;have H4:=Z h4;clear Q f4 h4 a5;generalize IntKind.i64.wrap ((if W.room<0 then 1152921504606846976 else W.room)-M.rG)=fr;have y:=Z (fun d (f:Fr Nil w4 d)=>Xu a6 B X N M d (H4.o.node.nil f) (H4.o.qg.nil f));have D:aa (∀ d K' L' W' X' N' M',PStep K B L X M w4 K' L' W' X' N' M' d->(∀ k,d.cell? (Y w.heap.size k)=([I 11,I a,I b,I c,.string key,.string j,I v.node,I v.seq,I v.o0,I v.o1,I v.o2,I v.o3,.string v.value,.bool v.tA,i]:List Value)[k]?)/\(∀ k,d.cell? (Y w2.heap.size k)=[I M.uV,I M.tu][k]?)):=by
  exact R8
 have HK:aa (∀ d w' X' N' M',Fr Nil w4 d->NStep X M d X' N' M' w'->w'.cell? (Y L.wb 5)=some (E X.nb 0)/\∀ k,w'.cell? (Y w.heap.size k)=([I 11,I a,I b,I c,.string key,.string j,I v.node,I v.seq,I v.o0,I v.o1,I v.o2,I v.o3,.string v.value,.bool v.tA,i]:List Value)[k]?):=by
  exact R9
 have b3:=HK.o w4 w4 X N M (U _ _) (NStep.nil H4.o.node (U _ _));go_wp2_with fail;refine(y.o _ (U _ _)).mono ?_;rintro e r ⟨X5,rfl,T⟩;have a3:=Z T;clear T;have g:=Z (H4.o.call a3.o);rw[f6.o] at a3 g |-;have a0:=g.o.tm.tG.th.cell;simp only[WM.cells,b6.o] at a0;have c1:=(D.o _ _ _ _ _ _ _ g.o).1;have c4:=Z (Zd K L W X5.LD M 8 8 M.uU r g.o.tm.tG g.o.tm.tK);simp only[xy,yz] at c4;clear b3 HK y;go_wp2_with fail;refine c4.o.mono ?_;rintro e d ⟨rfl,b2⟩;subst d;go_wp2_with fail;go_ret;exact⟨rfl,X5,(HH.o.nil u.o).trans g.o⟩
theorem Eh(a6:zy)(K:Nat->Prop)(B:Nat)(L:WL)(W:WM)(X:NL)(N:NM)(M:DM)(o:OpM)(w:World)(h:Play K B w L W X N M)(hk:o.kind=11)(A:W.ts=false)
 (e8:(N.tH M).1=9/\(N.tH M).2.2.uV=M.uV+1/\(N.tH M).2.2.tu=M.tu) :
 Calls prog 64 #[E L.wb 0,.agg o.cells.toArray] w fun e w'=>e=.returned (.bool true)/\∃ X',((N.tH M).2.2.tL=false->PStep K B L X M w K L {W with ts:=true} X' (N.tH M).2.1 (N.tH M).2.2 w')/\((N.tH M).2.2.tL=true->∃ wm,PStep K B L X M w K L {W with ts:=true} X' (N.tH M).2.1 (N.tH M).2.2 wm/\w'=wm.setCell (Y L.wb 5) (.pointer none)):=by
 obtain⟨d2,a,b,c,key,j,v,i⟩:=o;simp only at hk |-;subst hk;have b7:=Z e8;clear e8;simp only[OpM.cells,Ver.cells,Bb,Bc];have f1:Fr Nil w (w.alloc (.cells #[I 11,I a,I b,I c,.string key,.string j,I v.node,I v.seq,I v.o0,I v.o1,I v.o2,I v.o3,.string v.value,.bool v.tA,i] 39)):=(U _ _).alloc _;have R:=Blk.new w [I 11,I a,I b,I c,.string key,.string j,I v.node,I v.seq,I v.o0,I v.o1,I v.o2,I v.o3,.string v.value,.bool v.tA,i] 39;have HM:=Z (fun d (f:Fr Nil w d)=>Ze K L W X.LD M d (h.tG.nil f) ((h.tK).nil f));have HF:=Z (fun d (f:Fr Nil w d)=>Zu K L W X.LD M d (h.tG.nil f) ((h.tK).nil f));have HC:=Z (fun d (f:Fr Nil w d)=>zE d L.db X.LD M ((h.tK).nil f));have S:=R.cell;have G:=Z f1;have l:=Z R;have HH:=Z h;have b6:=Z A;clear h f1 R A;go_enter uJ,uz;go_wp2_with fail;generalize c0:w.alloc (.cells #[I 11,I a,I b,I c,.string key,.string j,I v.node,I v.seq,I v.o0,I v.o1,I v.o2,I v.o3,.string v.value,.bool v.tA,i] 39)=wa at S G l |-;have d4:aa (∀ d,Fr (fun k=>k<w.heap.size) wa d->∀ k,d.cell? (Y w.heap.size k)=wa.cell? (Y w.heap.size k)):=fun d f k=>((l.o.fr f (yw _)).cell k).trans (l.o.cell k).symm;have d5:=Z S;have b9:aa (w.heap.size<wa.heap.size):=l.o.lt;clear c0 l;refine(HM.o wa G.o).mono ?_;rintro e w2 ⟨rfl,f2⟩;have J:Fr Nil w w2:=G.o.trans f2;have C:w.heap.size<w2.heap.size:=by have:=b9.o;have:=f2.size;omega
 have F2:=Z f2;have f3:Fr Nil w (w2.alloc (.cells #[I M.uV,I M.tu] 111)):=J.alloc _;have a4:=Blk.new w2 [I M.uV,I M.tu] 111;have a5:=(HH.o.tG.nil f3).th.cell;simp only[WM.cells] at a5;have d9:=Z J;have c2:=Z C;have F3:=Z f3;have d3:=Z a4;clear f2 J C f3 a4 S
 go_wp2_with (refine(HC.o _ F3.o).mono ?_;rintro e d ⟨rfl,b2⟩;subst d)
 refine(HF.o _ F3.o).mono ?_;rintro e w4 ⟨rfl,f4⟩;have Q:Fr Nil w w4:=F3.o.trans f4;have h4:=(HH.o.nil Q).tm;have u:=Z Q;have c7:=Z f4;have H4:=Z h4;clear Q f4 h4 a5;generalize IntKind.i64.wrap ((if W.room<0 then 1152921504606846976 else W.room)-M.rG)=fr;have y:=Z (fun d (f:Fr Nil w4 d)=>Xu a6 B X N M d (H4.o.node.nil f) (H4.o.qg.nil f));have D:aa (∀ d K' L' W' X' N' M',PStep K B L X M w4 K' L' W' X' N' M' d->(∀ k,d.cell? (Y w.heap.size k)=([I 11,I a,I b,I c,.string key,.string j,I v.node,I v.seq,I v.o0,I v.o1,I v.o2,I v.o3,.string v.value,.bool v.tA,i]:List Value)[k]?)/\(∀ k,d.cell? (Y w2.heap.size k)=[I M.uV,I M.tu][k]?)):=by
  exact R8
 have HK:aa (∀ d w' X' N' M',Fr Nil w4 d->NStep X M d X' N' M' w'->w'.cell? (Y L.wb 5)=some (E X.nb 0)/\∀ k,w'.cell? (Y w.heap.size k)=([I 11,I a,I b,I c,.string key,.string j,I v.node,I v.seq,I v.o0,I v.o1,I v.o2,I v.o3,.string v.value,.bool v.tA,i]:List Value)[k]?):=by
  exact R9
 have b3:=HK.o w4 w4 X N M (U _ _) (NStep.nil H4.o.node (U _ _));go_wp2_with fail;refine(y.o _ (U _ _)).mono ?_;rintro e r ⟨X5,rfl,T⟩;have a3:=Z T;clear T;have g:=Z (H4.o.call a3.o);rw[b7.o.1];generalize c9:(N.tH M).2.1=N5 at a3 g;have b0:=Z b7.o.2;generalize c8:(N.tH M).2.2=M5 at a3 g b0;have b8:=Z (And.intro c9 c8);clear c9 c8;clear b3 HK y b7;have c1:=(D.o _ _ _ _ _ _ _ g.o).1;have a0:=g.o.tm.tG.th.cell;simp only[WM.cells,b6.o] at a0;have q:∀ n k,(r.drewN n).cell? (Y L.wb k)=_:=fun n=>(g.o.tm.tG.th.drewN n).cell;simp only[WM.cells,b6.o] at q;have d1:∀ n k,(r.drewN n).frozen? (Y L.wb k)=false:=fun n=>(g.o.tm.tG.th.drewN n).frozen;have a8:∀ n k,(r.drewN n).cell? (Y w2.heap.size k)=[I M.uV,I M.tu][k]?:=fun n=>(D.o _ _ _ _ _ _ _ (g.o.trans (g.o.tm.nil ((U Nil r).drewN n)))).2;have m:=Z (fun n=>Zr (r.drewN n) L.db X5.LD M5 (g.o.tm.tK.nil ((U Nil r).drewN n)));rw[b0.o.1] at m;have b4:decide (M.uV<M.uV+1)=true:=by simp;omega
 have a7:M.uV<M.uV+1:=V
 go_wp2_with fail
 go_quiet ((go_at_call 47;exact Aj (m.o _)))
 go_wp2_with fail;have a9:=Z (g.o.trans (g.o.tm.nil ((U Nil r).drewN nq)));have a1:=Z (a9.o.trans (a9.o.tm.rh (WStep.set a9.o.tm.tG 8 (.bool true) (L':=L) (W':={W with ts:=true}) ai rfl rfl rfl rfl rfl rfl rfl rfl rfl rfl rfl rfl rfl)));clear a0 q d1 a8 c1 m b4 a7;generalize (r.drewN nq).setCell (Y L.wb 8) (.bool true)=w6 at a1 |-;refine(VG K L _ X5.LD M5 9 M.uV M.tu w6 a1.o.tm.tG a1.o.tm.tK (.inl ⟨rfl,b0.o.1,b0.o.2⟩)).mono ?_;rintro e w7 ⟨rfl,f7⟩;have a2:=Z (a1.o.trans (a1.o.tm.nil f7));have e2:∀ k,w7.cell? (Y L.wb k)=(WM.cells L {W with ts:=true})[k]?:=a2.o.tm.tG.th.cell;have e6:=a2.o.tm.tG.th.frozen;simp only[WM.cells] at e2;have b1:=Z (WV w7 L.db X5.LD M5 a2.o.tm.tK);clear f7;cases hdd:M5.tL with
 | false =>
  rw[hdd] at b1;have c6:=Z hdd;clear hdd
  go_wp2_with (refine b1.o.mono ?_;rintro e d ⟨rfl,b2⟩;subst d)
  go_ret;rw[b8.o.1,b8.o.2];exact⟨rfl,X5,fun _=>(HH.o.nil u.o).trans a2.o,fun e=>by rw[c6.o] at e;cases e⟩
 | true =>
  rw[hdd] at b1;have c6:=Z hdd;clear hdd
  go_wp2_with (refine b1.o.mono ?_;rintro e d ⟨rfl,b2⟩;subst d)
  go_ret;rw[b8.o.1,b8.o.2];exact⟨rfl,X5,(fun e=>by rw[c6.o] at e;cases e),fun _=>⟨w7,(HH.o.nil u.o).trans a2.o,rfl⟩⟩
theorem GX(h:p:=by
 subst he;go_wp2_with fail;generalize w5.setCell (Y L.wb 11) (I ((W.uU:Int)+1))=w6 at t |-;refine(NV K L _ n w6 t.o.tm.tG (by show W.uU+1<_;omega) (a9.o.1 trivial).1 (a9.o.1 trivial).2).mono ?_;rintro e w7 ⟨rfl,f0⟩;have d:=t.o.trans (t.o.tm.rh f0);have h7:=t.o.trans (t.o.tm.rh f0);simp only[Af] at v;clear f0):p:=h
theorem GY(h:p:=by
 obtain rfl:=a9.o.2 he;have h5:(er != 0)=true:=by simp[he]
 have h6:(er==0)=false:=by simp[he]
 go_wp2_with fail;generalize w5.setCell (Y L.wb 11) (I ((W.uU:Int)+1))=w7 at t |-;have d:=t.o;simp only[CY he] at v):p:=h
theorem Pb(c6:zy)(K:Nat->Prop)(B:Nat)(L:WL)(W:WM)(X:NL)(N:NM)(M:DM)(o:OpM)(w:World)(h:Play K B w L W X N M)(hk:o.kind=3)(e7:W.ts=false)(hp:0<L.ps.length)(hl:L.ps.length<1000000)(g5:W.uU<10000000)
 (d1:zu o.key=true)(m:LM)(hm:W.st[L.ps.length-1]?=some m)(d9:m.uT.length<100000000)
 (a1:∀ H,w.heap.size<=H->Wq N M H o.key (fun _ _=>[]))
 (y:∀ f g,w.heap.size<=f->w.heap.size<=g->Apart2 N M f g->((N.sx M o.key f g).2.1=0->W.tN<(N.sx M o.key f g).1/\(N.sx M o.key f g).1<=16*(W.uU+1))/\((N.sx M o.key f g).2.1≠0->(N.sx M o.key f g).1=0))
 (Q:World->Prop)
 (hQ:∀ f g K' X' q a,w.heap.size<=f->w.heap.size<=g->Apart2 N M f g->PStep K B L X M w K' L {W with uU:=W.uU+1,tN:=if (N.sx M o.key f g).2.1=0 then(N.sx M o.key f g).1 else W.tN} X' (N.sx M o.key f g).2.2.1 (N.sx M o.key f g).2.2.2 a ->
   MRep K' a q (m.sx o.key)->q≠L.ps[L.ps.length-1] ->
   Calls prog 110 #[E L.wb 0,E q 0,I (N.sx M o.key f g).2.1,.agg #[I M.uV,I M.tu],I (W.free M)] a fun e j=>e=.returned (.bool true)/\Q j) :
 Calls prog 61 #[E L.wb 0,.agg o.cells.toArray] w fun e j=>e=.returned (.bool true)/\Q j:=by
 have a0:Z2 o.key=0:=by unfold Z2;rw[Bn d1]
 have a3:=Z (fun a=>YN o.key o.se a);have e2:=Z (fun a=>Ym o.key a);rw[a0] at e2;generalize Zq o.key o.se=bp at a3;have f1:Fr Nil w (w.alloc (.cells o.cells.toArray 39)):=(U _ _).alloc _;have a5:=Blk.new w o.cells 39;have HM:=Z (fun a (f:Fr Nil w a)=>Ze K L W X.LD M a (h.tG.nil f) ((h.tK).nil f));have HF:=Z (fun a (f:Fr Nil w a)=>Zu K L W X.LD M a (h.tG.nil f) ((h.tK).nil f));have HC:=Z (fun a (f:Fr Nil w a)=>zE a L.db X.LD M ((h.tK).nil f));obtain⟨wa,J⟩:∃ wa,w.alloc (.cells o.cells.toArray 39)=wa:=⟨_,rfl⟩;rw[J] at f1 a5;have c3:=a5.cell;have c2:=Z J;simp only[OpM.cells,Ver.cells,Bb,Bc,hk] at J c3 |-;have b6:=Z f1;have HH:=Z h;have b7:=Z a1;have b2:=Z y;have HQ:=Z hQ;clear h f1 a5 a1 y hQ a0;go_enter vt,wV;go_wp2_with fail;refine(a3.o _).mono ?_;rintro e a ⟨rfl,e0⟩;subst a;go_wp2_with fail;refine(e2.o _).mono ?_;rintro e a ⟨rfl,e0⟩;subst a;clear a3 e2 J;go_wp2_with fail;refine(HM.o wa b6.o).mono ?_;rintro e w2 ⟨rfl,f2⟩;have f3:Fr Nil w (w2.alloc (.cells #[I M.uV,I M.tu] 111)):=(b6.o.trans f2).alloc _;have c4:=(HH.o.nil f3).tm.tG.th.cell;simp only[WM.cells] at c4;have F2:=Z f2;have F3:=Z f3;clear f2 f3 c3
 go_wp2_with (refine(HC.o _ F3.o).mono ?_;rintro e a ⟨rfl,e0⟩;subst a)
 refine(HF.o _ F3.o).mono ?_;rintro e w4 ⟨rfl,f4⟩;have b:=Z (Pre.of HH.o c2.o F2.o f4);have R:=Z b.o.st.tm;clear f4 c4 F2 F3 c2;have c8:IntKind.i64.wrap ((if W.room<0 then 1152921504606846976 else W.room)-M.rG)=W.free M:=rfl;rw[c8];clear c8;generalize W.free M=fr at HQ |-;have S:=Z (fun a (f:Fr Nil w4 a)=>Vi c6 B X N M o.key a (R.o.node.nil f) (R.o.qg.nil f) (fun _ _=>b7.o _ (b.o.fr.trans f).size));have HK:aa (∀ a j X' N' M',Fr Nil w4 a->NStep X M a X' N' M' j->j.cell? (Y L.wb 5)=some (E X.nb 0)/\j.cell? (Y w.heap.size 4)=some (.string o.key)):=by
  intro a j X' N' M' f s;have hs:=(R.o.nil f).trans ((R.o.nil f).tm.call s);refine⟨(hs.tm.tG.th.cell 5).trans ?_,b.o.op hs 4⟩;show some L.nv=_;rw[HH.o.nv]
 have e8:=HK.o w4 w4 X N M (U _ _) (NStep.nil R.o.node (U _ _));have d6:=b.o.op (R.o.nil (U _ _));simp only[OpM.cells,Ver.cells,Bb,Bc,hk] at d6;go_wp2_with fail;clear d6
 go_region_held3 (fun j=>j.cell? (Y L.wb 5)=some (E X.nb 0)/\j.cell? (Y w.heap.size 4)=some (.string o.key)) (first|assumption|go_keep)
  (first|(go_at_call 30;refine(S.o _ zd).mono ?_;rintro e w5 ⟨f,g,X5,rfl,c7,d0,T,a6⟩;have f5:=HK.o _ _ _ _ _ zd a6;have c1:=Z (NStep.trans (NStep.nil R.o.node zd) a6);have l:=Z (And.intro c7 (And.intro d0 T));clear a6 c7 d0 T))
 have a7:=CQ b.o.fr.size l.o.1;have a8:=CQ b.o.fr.size l.o.2.1;have v:=Z (fun K' X' q a=>HQ.o f g K' X' q a a7 a8 l.o.2.2);have x:=b2.o f g a7 a8 l.o.2.2;have i:=R.o.call c1.o;clear HK S c1 l HQ b2 e8 f5 a7 a8 b7;generalize N.sx M o.key f g=r at *;obtain⟨n,er,N5,M5⟩:=r;simp only at i x v;have c5:=i.tm.tG.th.cell;have c9:=i.tm.tG.th.frozen;simp only[WM.cells,e7] at c5;have d7:=b.o.op i;simp only[OpM.cells,Ver.cells,Bb,Bc,hk] at d7;have e4:=Z i;have a9:=Z x;have g8:IntKind.i64.wrap ((W.uU:Int)+1)=((W.uU+1:Nat):Int):=by rw[Bw];push_cast;omega
 have t:=Z (i.trans (i.tm.rh (WStep.set i.tm.tG 11 (I ((W.uU:Int)+1)) (L':=L) (W':={W with uU:=W.uU+1}) ai rfl rfl rfl rfl rfl rfl rfl rfl rfl rfl rfl rfl rfl)));clear i x;by_cases he:er=0
 case' pos =>
  exact GX
 case' neg =>
  exact GY
 all_goals
  have G:=Z d;have d8:=b.o.op d;simp only[OpM.cells,Ver.cells,Bb,Bc,hk] at d8;have d5:=d.tm.tG.qC;simp only at d5;have d2:W.st[L.ps.length-1]' V=m:=by rw[CU V] at hm;exact BC hm
  have C:=Z (fun a (f:Fr Nil w7 a)=>ZD K L _ a (d.tm.tG.nil f) hp V);have c:=(d.tm.tG.tw hp).2;simp only[d2] at c;have A:L.ps[L.ps.length-1]<w7.heap.size:=by obtain⟨c0,e6⟩:=c.th;exact e6.lt
  obtain⟨q,d4⟩:∃ q,q=L.ps[L.ps.length-1]:=⟨_,rfl⟩;rw[<- d4] at c A C v;have b4:=Z (fun a (f:Fr Nil w7 a)=>Uv K q m o.key a (c.tY (zR.rz f (fun k e=>⟨(d.tm.tG.tY k e).1,id⟩)) (fun _ e=>e)) d9);have b8:=Z A;have b3:aa (∀ a,Fr Nil w7 a->a.cell? (Y w.heap.size 4)=some (.string o.key)):=fun a f=>b.o.op (d.trans (d.tm.nil f)) 4;clear d d2 c A d4 t c5 c9 d7 e4;go_wp2_with fail
  go_region_held3 (fun j=>j.cell? (Y w.heap.size 4)=some (.string o.key)) (first|assumption|go_keep)
   (first
   | (go_at_call 108;refine(b4.o _ zd).mono ?_;rintro e w8 ⟨nb,rfl,g2,b1,g0⟩;have a4:Fr Nil w7 w8:=Fr.trans zd b1;have D:=Z a4;have f6:=b3.o w8 a4;have e5:=Z g2;have b0:=Z (G.o.trans ((G.o.tm.nil zd).trans ((G.o.tm.nil zd).tm.gr b1)));have e3:=Z g0;clear b1 a4 g2 g0)
   | (go_at_call 107;refine(C.o _ zd).mono ?_;rintro e w9 ⟨rfl,n9,g4⟩;subst w9))
  have e1:=b.o.op b0.o;simp only[OpM.cells,Ver.cells,Bb,Bc,hk] at e1;clear d8 f6;have g6:=b.o.ma b0.o;have b5:=Z (v.o _ X5 nb w8 (b.o.st.trans b0.o) e5.o (by have h1:=b8.o;have h2:w7.heap.size<=nb:=e3.o;omega));clear v;go_wp2_with fail;refine b5.o.mono ?_;rintro e h0 ⟨rfl,a2⟩;have b9:=Z a2;clear a2;go_wp2_with fail;go_ret;exact⟨rfl,b9.o⟩
end Go.Proofs.YtkhnggkkiefcdaaGreatDoor
