/- larder: joined texts -/
import Derived.Test.YtkhnggkkiefcdaaGreatDoorALBC
namespace Go.Proofs.YtkhnggkkiefcdaaGreatDoor
open Go.RowKit Proofs.Tryz
set_option maxRecDepth 100000
set_option maxHeartbeats 8000000
variable{key:ByteArray}{p:Prop}{t:Nat}{K:Nat->Prop}{W:WM}{M:DM}{w:World}{F:List Fact}{y:Lay}{v:Value}{l:List Int}
theorem MC{a:ByteArray}(h:Zq key a=0):zu key=true/\a.size<=128:=by
 unfold Zq at h;split at h
 .rename_i hk
  split at h
  .cases h
  .exact⟨hk,V⟩
 .cases h
theorem MD(h:Z2 key=0):zu key=true:=by
 unfold Z2 at h;split at h
 .assumption
 .cases h
theorem T7{e:Option Int}(a:e=none\/e=some 9\/e=some 10):(Zt e=0↔e=none):=by
 rcases a with rfl|rfl|rfl <;> decide
theorem GZ(h:p:=by
 have d5:PStep K B L X M j K' L {W with uS:=W.uS+1,tM:=if e=none then N.uY+1 else W.tM} C N' M' S:=by
  by_cases e0:e=none
  .subst e0
   exact hs
  .simp only[CW e0]
   simp only[CW e0,CW (fun h0=>e0 ((T7 he).1 h0))] at hs;exact hs
 exact a1 f d5 rfl rfl hq G T he):p:=h
theorem Nd(h:p:=by
 rintro e w' ⟨rfl,K',L',d7,hs,a3,a7,b8⟩;exact⟨rfl,Nx.ru (v.trans hs) ⟨F,p,(i.tV a7).tU V⟩ (by rw[a3];exact J) ((v.tC (bk:=W.bk) hS).trans ⟨hs.new,b8⟩ f.size)⟩):p:=h
theorem F8(h:p:=by
 obtain⟨e,N',M',er,he,_⟩:=y f' g' a b c;rw[er];refine⟨fun h0=>?_,fun h0=>?_⟩
 .rw[Bl ((T7 he).1 h0)]
  exact⟨g1,g2⟩
 .rw[CW (fun e0=>h0 ((T7 he).2 e0))]):p:=h
theorem Ke(h:p:=by
 rintro e w' ⟨rfl,C,hs⟩;exact⟨rfl,Nx.ru (v.trans hs) ⟨F,p,i.rX.tU V⟩ J ((v.trans hs).tC hS)⟩):p:=h
theorem RP(h:p:=by
 obtain⟨e,N',M',er,he,T⟩:=y ho f' a;rw[er] at hs |-;exact a1 f hs rfl rfl hq G T he):p:=h
theorem C3(r:zy){B:Nat}{L:WL}{X:NL}{N:NM}(h:Lv K B w L W X N M t)(ht:t<=890000)(o:OpM)(c1:o.kind≠1)(d0:o.kind≠12)(d1:o.kind≠13)(d2:o.kind≠14)(d3:o.kind≠15) :
 Calls prog 18 #[E L.wb 0,.agg o.cells.toArray] w fun e w'=>e=.returned (.bool true)/\Nx K W.bk B (PFoot L X M) L.wb L.tv w (t+10) w':=by
 obtain⟨d,⟨F,p,i⟩,J⟩:=h;have hp:0<L.ps.length:=yl.2 J;have b5:=d.tE.qB;have d6:=i.cm.len;have hl:L.ps.length<1000000:=V
 have b3:W.uS<10000000:=by have:=i.cm.uS;omega
 obtain⟨m,d4,hrel,A⟩:=i.ri;have hm:W.st[L.ps.length-1]?=some m:=by rw[b5];exact d4
 have b6:=i.st;have d9:=i.nk;have b0:m.uR.length<100000000:=by have:=A.uR;omega
 have a9:m.uU.length=N.S.uU.length:=by rw[hrel.2]
 have d8:=b6.1.qT;have R:m.node=N.tN:=A.node.trans i.tN;have a6:W.base<100000000:=by have:=i.cm.base;omega
 have b1:W.next<100000000:=by have:=i.cm.next;omega
 have a8:=i.nU V;have l:∀ j,Fr Nil w j->PStep K B L X M w K L W X N M j:=fun j f=>d.nil f;have D:∀ j,Fr Nil w j->∀ g∈M.tL,g<j.heap.size:=fun j f g hg=>((l j f).th.node.sf.tw g hg).lt;have b4:=b6.1.get o.key;have a2:∀ u∈zn N.S.uR o.key,zW u.node:=fun u hu=>(b4.2.2 u hu).node;have a4:=i.nH hrel o.key;have b7:=i.bd;have b2:=i.room;have hS:∀ k,K k->¬PFoot L X M k:=fun k e hp=>hp.elim (d.tE.tW k e).2 (d.rF k e);have quiet:∀ {j S:World} {C:NL},Fr Nil w j->PStep K B L X M j K L W C N M S->Nx K W.bk B (PFoot L X M) L.wb L.tv w (t+10) S:=fun f s=>Nx.ru ((l _ f).trans s) ⟨F,p,i.tU V⟩ J (((l _ f).trans s).tC hS);have a1:∀ {j S:World} {K':Nat->Prop} {C:NL} {W':WM} {N':NM} {M':DM} {q:Nat} {mx:LM} {e:Option Int},Fr Nil w j->PStep K B L X M j K' L W' C N' M' S->W'.room=W.room->W'.bk=W.bk->MRep K' S q mx->q≠L.ps[L.ps.length-1]->Aft W' mx M e N' M' (t+10)->(e=none\/e=some 9\/e=some 10) ->
  Calls prog 110 #[E L.wb 0,E q 0,I (Zt e),.agg #[I M.uT,I M.tr],I (W.free M)] S fun e w'=>e=.returned (.bool true)/\Nx K W.bk B (PFoot L X M) L.wb L.tv w (t+10) w':=fun f s hr a7 hq G ha he =>
  Ed K _ B L X M w L _ _ _ _ _ _ _ _ t (t+10) _ ((l _ f).trans s) J hq G ha V b7 V (by unfold WM.qA;rw[hr];exact b2) he (by unfold WM.free;rw[hr]) W.bk hS a7
 by_cases c2:o.kind=2
 .refine RM _ K L W X.nb o w d.tE d.nv (.inl ⟨c2,rfl⟩) _ (fun j f=>?_)
  have v:=l j f;by_cases hb:Zq o.key o.tZ=0
  .obtain⟨hkey,hval⟩:=MC hb
   cases hbr:W.tq with
   | true =>
    have Q:N.uW=true:=i.ro.trans hbr;refine(MA r K B L W X N M o j v.th c2 hkey hval hbr Q V a2).mono ?_;exact Ke
   | false =>
    have Q:N.uW=false:=i.ro.trans hbr;obtain⟨x,g1,g2,y⟩:=i.put (H0:=j.heap.size) V Q hrel A (D j f) o.key o.tZ hkey hval;refine Jv r K B L W X N M o j v.th c2 hbr hp hl b3 hkey hval a2 m hm b0 (by rw[a4];exact a2) x (fun f' g' a b c=>?_) _ (fun f' g' K' C q S a b c hs hq G=>?_)
    .exact F8
    .obtain⟨e,N',M',er,he,T⟩:=y f' g' a b c
     rw[er] at hs hq |-;exact GZ
  .refine(Eg r K B L W X N M o j v.th c2 hb a2).mono ?_
   rintro e w' ⟨rfl,C,hs⟩;exact⟨rfl,quiet f hs⟩
 by_cases c3:o.kind=3
 .refine RM _ K L W X.nb o w d.tE d.nv (.inr (.inl ⟨c3,rfl⟩)) _ (fun j f=>?_)
  have v:=l j f;by_cases hb:Z2 o.key=0
  .have hkey:=MD hb
   cases hbr:W.tq with
   | true =>
    have Q:N.uW=true:=i.ro.trans hbr;refine(RO r K B L W X N M o j v.th c3 hkey hbr Q V).mono ?_;exact Ke
   | false =>
    have Q:N.uW=false:=i.ro.trans hbr;obtain⟨x,g1,g2,y⟩:=i.sr (H0:=j.heap.size) V Q hrel A (D j f) o.key hkey;refine Pa r K B L W X N M o j v.th c3 hbr hp hl b3 hkey m hm b0 x (fun f' g' a b c=>?_) _ (fun f' g' K' C q S a b c hs hq G=>?_)
    .exact F8
    .obtain⟨e,N',M',er,he,T⟩:=y f' g' a b c
     rw[er] at hs |-;exact GZ
  .refine(Mz r K B L W X N M o j v.th c3 hb).mono ?_
   rintro e w' ⟨rfl,C,hs⟩;exact⟨rfl,quiet f hs⟩
 by_cases c4:o.kind=4
 .refine RM _ K L W X.nb o w d.tE d.nv (.inr (.inr ⟨c4,rfl⟩)) _ (fun j f=>?_)
  have v:=l j f;obtain⟨x,y⟩:=i.se (H0:=j.heap.size) V hrel A (D j f) o.key o.v;refine GH r K B L W X N M o j v.th i.ro hp hl a2 b4.1 V V x m hm R a4 b0 _ (fun c _ C S hs=>quiet f hs) (fun ho f' K' C q S a hs hq G=>?_);exact RP
 by_cases c7:o.kind=7
 .refine RN _ K L W X.nb o w d.tE d.nv (.inl ⟨c7,rfl⟩) _ (fun j f=>?_)
  have v:=l j f;obtain⟨x,y⟩:=i.sE (H0:=j.heap.size) V hrel A (D j f) o.a o.tZ;refine OW r K B L W X N M o j v.th c7 i.ro hp hl x m hm R a9 V _ (fun c _ C S hs=>quiet f hs) (fun ho f' K' C q S a hs hq G=>?_);exact RP
 by_cases c9:o.kind=9
 .refine RN _ K L W X.nb o w d.tE d.nv (.inr (.inl ⟨c9,rfl⟩)) _ (fun j f=>?_)
  have v:=l j f;obtain⟨x,y⟩:=i.qJ (H0:=j.heap.size) V hrel A (D j f);refine Mk r K B L W X N M o j v.th c9 i.ro hp hl x m hm R a9 V _ (fun c _ C S hs=>quiet f hs) (fun ho f' K' C q S a hs hq G=>?_);exact RP
 by_cases c5:o.kind=5
 .refine Kc _ K L W X.nb o w d.tE d.nv (.inl ⟨c5,rfl⟩) _ (fun j f=>?_)
  have v:=l j f;refine(Eh K B L W X N M o j v.th c5 hp hl m hm a4 V V a8 a6 b1).mono ?_;exact Nd
 by_cases c6:o.kind=6
 .refine Kc _ K L W X.nb o w d.tE d.nv (.inr ⟨c6,rfl⟩) _ (fun j f=>?_)
  have v:=l j f;refine(GY K B L W X N M o j v.th c6 hp hl m hm hrel.1 V a8 a6 b1).mono ?_;exact Nd
 by_cases c8:o.kind=8
 .refine Kd _ K L W X.nb o w d.tE d.nv (.inl ⟨c8,rfl⟩) _ (fun j f=>?_)
  have v:=l j f;refine(Jw K B L W X N M o j v.th c8 hp hl m hm hrel.2 V a8 a6 b1).mono ?_;exact Nd
 by_cases a5:o.kind=10
 .refine Kd _ K L W X.nb o w d.tE d.nv (.inr ⟨a5,rfl⟩) _ (fun j f=>?_)
  have v:=l j f;refine(KX K B L W X N M o j v.th a5 hp hl m hm i.ro (by rw[hrel.1]) a9.symm).mono ?_;rintro e w' ⟨rfl,hs⟩;exact⟨rfl,quiet f hs⟩
 by_cases a0:o.kind=11
 .refine RN _ K L W X.nb o w d.tE d.nv (.inr (.inr ⟨a0,rfl⟩)) _ (fun j f=>?_)
  have v:=l j f;cases hbr:W.tq with
  | true =>
   refine(Nb r K B L W X N M o j v.th a0 hbr (i.ro.trans hbr)).mono ?_;rintro e w' ⟨rfl,C,hs⟩;exact⟨rfl,quiet f hs⟩
  | false =>
   rcases i.tY V (i.ro.trans hbr) with⟨h1,h2,F',p',hi⟩|⟨h1,h2,h3,F',p',b9,c0⟩
   .refine(Jt r K B L W X N M o j v.th a0 hbr hp hl ⟨h1,h2⟩).mono ?_
    rintro e w' ⟨rfl,L',C,a3,hs⟩;exact⟨rfl,Nx.ru (v.trans hs) ⟨F',p',hi.tU V⟩ a3 ((v.trans hs).tC hS)⟩
   .refine(Ef r K B L W X N M o j v.th a0 hbr ⟨h1,h2,h3⟩).mono ?_
    rintro e w' ⟨rfl,C,ha,hb⟩;cases hd:(N.tF M).2.2.tJ with
    | false=>exact⟨rfl,Nx.ru (v.trans (ha hd)) ⟨F',p',(c0 hd).tU V⟩ J ((v.trans (ha hd)).tC hS)⟩
    | true =>
     obtain⟨wm,hs,rfl⟩:=hb hd;exact⟨rfl,Nx.ts (v.trans hs) (Off.of (hs.th.nil (U Nil wm)) J) ⟨F',p',b9.tU V⟩ hS rfl⟩
 refine(Js K L W X.nb o w d.tE d.nv ⟨c1,d0,d1,d2,c2,c3,c4,c7,c9,a0,d3,c5,c6,c8,a5⟩).mono ?_;rintro e w' ⟨rfl,f⟩;exact⟨rfl,Nx.ru (l w' f) ⟨F,p,i.tU V⟩ J ((l w' f).tC hS)⟩
theorem F9(l:List Nat):∀ u∈Y6 l,u.oneCell'=true:=by
 intro u a;obtain⟨p,_,rfl⟩:=Bb.1 a
 rfl
theorem Jy(w:World)(g f:Nat)(l:List Nat)(h:w.ownsRow 0 104 1 (.slice (some (Y g 0)) l.length f) l.length (Y6 l))(x:l.length<1000000000)(i c:Nat)(v:i<=l.length)(e:World)(m:Fr Nil w e)(ty:TypeId) :
 ∃ v' b,(Builtin.append_ #[42,42] ty #[.slice none 0 0,.slice (some (Y g 0)) i c]).run prog e=.ok v' b /\
  (b.ownsRow 0 104 1 v' i (Y6 (l.take i))/\Fr Nil w b/\(∀ k,v'.ownBlock=some k->w.heap.size<=k)):=by
 have s:=ze h m (fun _ _=>id);obtain⟨v',b,t,p,q,a⟩:=zq (P:=prog) 42 ty 104 1 8 underlying42 Lp V (.slice none 0 0) 0 [] (Bf e 0 _ _) ⟨g,0,none⟩ i c (Y6 (l.take i)) (by simp[Y6];omega)
  (fun j u o=>by
    rw[BO,BQ];refine own_cell? s j u ?_;have r:j<i:=by have:=(BL.1 o).1;simp[Y6] at this;omega
    rw[<- o];simp[Y6,r]) (F9 _) ac V
 refine⟨v',b,t,by simpa using p,m.trans ((Fr.sB q).mono (fun i _ h=>by simp[Value.ownBlock] at h)),fun k d=>?_⟩;rcases a with a|a
 .rw[a] at d;simp[Value.ownBlock] at d
 .rw[a] at d;simp at d;have:=m.size;omega
theorem C4(K:Nat->Prop)(B:Nat)(L:WL)(W:WM)(X:NL)(N:NM)(M:DM)(w:World)(h:Play K B w L W X N M)(hl:L.ps.length<10000000)
 (u:∀ m∈W.st,ZR m.uR/\m.uR.length<100000000/\(∀ e∈m.uR,e.2.length<100000)/\m.uU.length<1000000)(d2:N.S.uR.length<100000000)(c9:N.S.uU.length<1000000)(r:Zc N.S)(c8:W.uS<100000000)
 (i:Nat)(m m':LM)(mo:Nat)(hi:W.st[i]?=some m)(hT:Zj W N m=(mo,some m'))(D:∀ k m,i<k->W.st[k]?=some m->Zj W N m=(W.tM,none))(b2:W.rZ=true\/i+1=W.st.length) :
 Calls prog 59 #[E L.wb 0] w fun e w'=>e=.returned (.bool true)/\∃ K' L',PStep K B L X M w K' L' {W with tM:=mo,st:=W.st.take i++[m'],rZ:=false} X N M w'/\L'.ps≠[]:=by
 have v:=h.tE.qB;have b3:=(BL.1 hi).1;have c4:=Z (fun(S:Nat->Prop) (k:Nat) (hk:k<L.ps.length) (t:k<W.st.length) (wx:World) (s:PStep K B L X M w S L W X N M wx)=>OO S B L W X N M L.ps[k] W.st[k] wx s.th (s.th.tE.qY k hk t) (u _ (CU t)).1 (u _ (CU t)).2.1 (u _ (CU t)).2.2.1 (u _ (CU t)).2.2.2 d2 c9 r c8);have hp:0<L.ps.length:=V
 obtain⟨g,c,G,a9,_⟩:=zl h.tE.rY hp;have y:=h.tE.rY;rw[G] at y;have a1:∀ k,w.cell? (Y L.wb k)=(W.cells L)[k]?:=h.tE.td.cell;simp only[WM.cells,G] at a1;have HH:=Z h;have q:=Z G;have d7:=Z y;have HI:=Z (And.intro hi (And.intro hT (And.intro D (And.intro b2 b3))));have p:=Z v;clear h G y hi hT D b2 u r;obtain⟨n,hn⟩:∃ n,L.ps.length=n:=⟨_,rfl⟩;have HN:=Z hn;rw[hn] at hl a1 hp a9 v;have e3:IntKind.i64.wrap ((n:Int)-1)=((n-1:Nat):Int):=by rw[Bu];omega
 clear hn v;go_enter func59,ntmps59;go_wp2_with fail
 go_loopw [3] (fun t3 w'=>∃ (j:Nat) (S:Nat->Prop),i<=j/\j<n/\t3=I j/\PStep K B L X M w S L W X N M w') (fun t3 _=>(intOf t3).toNat)
 case atStart=>exact⟨n-1,K,by have:=HI.o.2.2.2.2;have:=HN.o;have:=p.o;omega,V,rfl,HH.o.nil (U _ _)⟩
 case round =>
  obtain⟨j,S,d0,d1,rfl,hs⟩:=hrel;have C:j<L.ps.length:=by rw[HN.o];exact d1
  have l:j<W.st.length:=by rw[<- p.o];exact C
  have o:=hs.th.tE.td.cell;simp only[WM.cells,q.o] at o;have d:=hs.th.tE.rY;rw[q.o] at d;have hg:=own_cell? d j (E (L.ps[j]) 0) (by simp[Y6,List.getElem?_eq_getElem C]);have a7:=Z (c4.o S j C l _ hs);have HS:=Z hs;have HJ:=Z (And.intro d0 l);generalize L.ps[j]=qj at hg a7;have d6:IntKind.i64.wrap ((j:Int)-1)=((j:Int)-1):=by rw[Bu];omega
  have e0:(0:Int)<=j:=V
  have d8:(j:Int)<L.ps.length:=V
  clear a1 hs d;go_wp2_with fail;refine a7.o.mono ?_;intro e w1 T;by_cases b4:j=i
  .-- the state that is told
   have b5:W.st[j]'l=m:=by subst b4;have:=HI.o.1;rw[CS l] at this;exact BA this
   rw[b5,HI.o.2.1] at T;obtain⟨K2,q2,x,rfl,b7⟩:=T;have a:=Z (HS.o.trans x);have c1:=Z b7;have o:∀ k,w1.cell? (Y L.wb k)=_:=a.o.th.tE.td.cell;simp only[WM.cells,q.o] at o;have e4:=a.o.th.tE.td.frozen;have d:=a.o.th.tE.rY;rw[q.o] at d;have c2:=Z d;have a3:i<=L.ps.length/\L.ps.length<1000000000:=by rw[HN.o];omega
   have a5:aa (∀ w4:World,Fr Nil w1 w4->Blk w4 L.wb (WM.cells L {W with tM:=mo}) 49):=fun w4 f=>a.o.th.tE.td.fr f id;subst b4;have e1:(j:Int)<=c:=V
   have e2:¬(c:Int)<j:=V
   clear x b7 d hg d6 b5
   go_wp2_with (first
    | (at_builtin;(refine zm rfl _ _ _ _ rfl _ _ bH bH (Td w4 _ _ _ c0.o q2 V _ zd _ aw _) ?_;rintro v5 w5 ⟨a4,b1,d3⟩;have a8:=b9.o _ b1;obtain⟨e7,e8,d5⟩:=zf a4;have c7:=a8.cell;simp only[WM.cells] at c7;have e6:=a8.frozen))
    | (at_builtin;(refine zm rfl _ _ _ _ rfl _ _ bH bH (Jy w1 g c L.ps c2.o a3.2 j _ a3.1 _ zd _) ?_;rintro v4 w4 ⟨d4,b0,b6⟩;have a0:=a5.o _ b0;have c6:=a0.cell;simp only[WM.cells] at c6;have e5:=a0.frozen;have c0:=Z d4;have A:=Z (And.intro b0 b6);have b9:aa (∀ w5:World,Fr (fun k=>v4.ownBlock=some k) w4 w5->Blk w5 L.wb (WM.cells L {W with tM:=mo}) 49):=fun w5 f=>a0.fr f (fun e=>by have:=b6 _ e;have:=(a5.o w1 (U _ _)).lt;omega))))
   have C:j<=L.ps.length:=a3.1;have d9:j<=W.st.length:=xD l;have J:(L.ps.take j).length=j:=by rw[CR];omega
   have R:(W.st.take j).length=j:=by rw[CR];omega
   have c5:Fr Nil w1 w5:=A.o.1.tk b1 (fun i hi e=>by have:=A.o.2 i e;omega);have b8:w5.ownsRow 0 104 1 v5 (L.ps.take j++[q2]).length (Y6 (L.ps.take j++[q2])):=by
    have e:Y6 (L.ps.take j)++[E q2 0]=Y6 (L.ps.take j++[q2]):=by simp[Y6]
    rw[e] at a4;rw[CN,J];exact a4
   have a6:=WStep.rR a.o.th.tE (v':=v5) (qs:=L.ps.take j++[q2]) (st':=W.st.take j++[m']) (w4:=w5) b8 (c5.mono (fun _ _ e=>absurd e id)) (fun b e=>.inr (by
    rcases d3 b e with e|e
    .exact A.o.2 b e
    .exact CO A.o.1.size e)) (by rw[CN,CN,J,R];rfl) (fun k T h2=>by
     by_cases hk:k<j
     .have h3:=a.o.th.tE.qY k V (by show k<W.st.length;omega)
      rw[BE V,BE V,xN,xN];exact h3
     .have hkj:k=j:=by rw[CN,J] at T;simp only[CQ] at T;omega
      subst hkj;rw[BV V,BV V];simp only[J,R,wN,AA];exact c1.o)
   have c3:=a6.trans (WStep.set a6.th 7 (.bool false) (L':={L with sv:=v5,ps:=L.ps.take j++[q2]}) (W':={W with tM:=mo,st:=W.st.take j++[m'],rZ:=false}) ai rfl rfl rfl rfl rfl rfl rfl rfl rfl rfl rfl rfl rfl);subst d5;go_ret;exact⟨rfl,_,_,a.o.trans (a.o.th.sX c3),bG⟩
  .-- none of these
   have D:Zj W N (W.st[j]'l)=(W.tM,none):=HI.o.2.2.1 j _ V (CS l);rw[D] at T;obtain⟨K2,x,rfl⟩:=T;have Q:PStep S B L X M _ K2 L W X N M w1:=x;have a:=Z (HS.o.trans Q);have o:∀ k,w1.cell? (Y L.wb k)=_:=a.o.th.tE.td.cell;simp only[WM.cells,q.o] at o;have a2:W.rZ=true:=HI.o.2.2.2.1.resolve_right (fun e=>by have:=p.o;have:=HN.o;omega);rw[a2] at o;clear x Q hg;go_wp2_with fail;exact⟨⟨j-1,K2,V,V,by go_num,a.o⟩,by simp[intOf];omega⟩
structure Up(K:Nat->Prop)(L:WL)(W:WM)(LD:DL)(M:DM)(w:World)(t:Nat)(nv1:Value)(W1:WM)(LD1:DL)(M1:DM)(y:Lay)(p:Nat)(w1:World):Prop where
 tE:WAt K w1 {L with nv:=nv1} W1
 sf:DRep w1 L.db LD1 M1
 sh:Sh W1 M1 y.F p t
 lg:Lg M1 y p t
 tJ:M1.tJ=false
 fr:Fr (RFoot L LD M) w w1
 bk:W1.bk=W.bk
theorem Sh.nB{p:Nat}(h:Sh W M F p t):∃ y,Lg M y p t/\Sh W M y.F p t:=by
 obtain⟨y,b,a⟩:=h.lg;exact⟨y,b,by rw[a];exact h⟩
theorem Sh.oO{p:Nat}(h:Sh W M y.F p t):Sane y.held t:=by
 have:=h.mm.2;unfold atF at this;rw[Bj] at this;exact this
theorem Sh.mw{c:DM}{p u:Nat}(h:Sh W M F p t)(f:Lg c y p u)(e:y.F=F)(g:c.room=M.room)(d:M.tJ=true->c.tJ=true)(i:t<=u):Sh W c F p u:=by
 refine⟨⟨y,f,e⟩,h.cm.tU i,g.trans h.room,?_⟩;rcases h.all with⟨a,b⟩|⟨a,b⟩
 .exact .inl ⟨a,b.imp id fun x=>⟨x.1.imp id d,x.2⟩⟩
 .exact .inr ⟨a.imp id d,b⟩
theorem Up.sj{L:WL}{d:DL}{p:Nat}(h:Sh W M F p t)(a:List Int){b:DL}{g c:World}(f:Fr Nil w g)(l:WAt K c {L with nv:=.pointer none} {W with rZ:=true})(j:DRep c L.db b (M.sj W.sD a))(k:Fr (RFoot L d M) g c) :
 ∃ y p,Up K L W d M w t (.pointer none) {W with rZ:=true} b (M.sj W.sD a) y p c:=by
 obtain⟨q,o,i⟩:=h.sj W.sD a;obtain⟨y,m,hs⟩:=i.nB;exact⟨y,o,l,j,hs,m,rfl,(f.mono (S':=RFoot L d M) (fun _ _ e=>absurd e id)).trans k,rfl⟩
theorem C5(h:p:=by
 have d4:=Z b0;have v:=Z c6;have a2:=Z d8;clear m2 n0 c5 c6 g2 d8 b0;go_wp2_with fail;rw[show((g.uS:Int)+1)=((g.uS+1:Nat):Int) from by push_cast;rfl];generalize (w9.setCell (Y L.wb 11) (I ((g.uS+1:Nat):Int))).setCell (Y L.wb 5) (.pointer none)=R at v a2 |-;have g6:∀ n k,(R.drewN n).cell? (Y mx k)=[I l.uT,I l.tr][k]?:=fun n=>((o0.o.fr a2.o (d4.o.oP o0.o (by intro hd;unfold WTy at hd;rcases hd with e|e|e|e|e|e <;> exact absurd e O))).drewN n).cell;have b1:∀ n k,(R.drewN n).cell? (Y L.wb k)=(WM.cells {L with nv:=.pointer none,db:=o} {g with uS:=g.uS+1})[k]?:=fun n=>(v.o.td.drewN n).cell;have c0:∀ n k,(R.drewN n).frozen? (Y L.wb k)=false:=fun n=>(v.o.td.drewN n).frozen;simp only[WM.cells] at b1;clear p4 q0 s8;rcases l5.o with⟨g1,rfl,X,rfl,d6,f9,c8⟩|⟨rfl,g1,L9,k9,k1⟩
 .obtain⟨b3,A,hy5,-⟩:=i4.o
  obtain⟨b4,j8,a6⟩:=hy5 g1;have e4:=Z d6;have n8:=Z f9;have n9:aa (∀ k,NFoot X J k->Foot o L2 l k\/w8.heap.size<=k):=c8;have b9:DRep w9 o X.LD J:=by have:=d6.sf;rw[f9] at this;exact this
  have a5:=b9.fr a2.o (fun k j hw=>d4.o.sf b9 hw j);have b6:=Z (fun n=>Zr (R.drewN n) o X.LD J (a5.nil ((U _ _).drewN n)));rw[a6] at b6;have g4:decide (l.uT<l.uT)=false:=bG
  have d0:¬l.uT<l.uT:=bG
  have b7:=Z (And.intro b3 (And.intro A (And.intro b4 j8)));clear b9 a5 d6 f9 c8 g1 b3 A hy5 b4 j8 a6 i4 l5
  go_quiet ((go_at_call 47;exact Ah (b6.o _)))
  have j6:=v.o.nil ((U Nil R).drewN nq);have n1:=a2.o.drewN nq;have j5:=Z j6;have a4:=Z n1;have c7:=b1 nq;have g3:=c0 nq;clear b1 c0 g6 b6 g4 d0 j6 n1;generalize R.drewN nq=r4 at j5 a4 c7 g3 |-;obtain⟨j7,k0⟩:=j5.o.oN (E X.nb 0);have f1:=WStep.set j7 8 (.bool false) (L':={L with nv:=E X.nb 0,db:=o}) (W':={g with uS:=g.uS+1,tq:=false}) ai rfl rfl rfl rfl rfl rfl rfl rfl rfl rfl rfl rfl rfl;have f3:=f1.trans (WStep.set f1.th 9 (I (sy:Nat)) (L':={L with nv:=E X.nb 0,db:=o}) (W':={g with uS:=g.uS+1,tq:=false,tH:=sy}) ai rfl rfl rfl rfl rfl rfl rfl rfl rfl rfl rfl rfl rfl);have f4:=f3.trans (WStep.set f3.th 10 (I 0) (L':={L with nv:=E X.nb 0,db:=o}) (W':={g with uS:=g.uS+1,tq:=false,tH:=sy,tf:=0}) ai rfl rfl rfl rfl rfl rfl rfl rfl rfl rfl rfl rfl rfl);have n2:=(a4.o.tk (S':=WFoot L) (k0.mono (fun k _ e=>.inl e)) (fun _ _ e=>e)).tk (S':=WFoot L) f4.fr (fun _ _ e=>e);have j3:=Z f4;have a7:=Z n2;clear j7 k0 f1 f3 f4 n2;go_wp2_with fail;generalize (((r4.setCell (Y L.wb 5) (E X.nb 0)).setCell (Y L.wb 8) (.bool false)).setCell (Y L.wb 9) (I (sy:Nat))).setCell (Y L.wb 10) (I 0)=d7 at j3 a7 |-;clear c7 g3;have c1:∀ k,NFoot X J k->w1.heap.size<=k:=fun k j=>(n9.o k j).elim (q.o k) (fun e=>CO (CO a0.o.size s.o.size) e);have g5:∀ k,WFoot L k->B<=k:=fun k e=>e3.o k (.inl e);have N:Play K B d7 {L with nv:=E X.nb 0,db:=o} {g with uS:=g.uS+1,tq:=false,tH:=sy,tf:=0} X (NM.tP nd sg sy y5) J :=
   {tE:=j3.o.th
    node:=e4.o.fr a7.o (fun k j hf=>d4.o.node e4.o hf j) (fun k j=>d4.o.rn e4.o j) (fun k t j ht hf=>by
     obtain⟨t2,s7,hd⟩:=d4.o.ty hf;have:=s7.inj j;subst this;unfold WTy at hd;unfold MTy at ht;rcases ht with rfl|rfl|rfl|rfl <;> (rcases hd with e|e|e|e|e|e <;> exact absurd e O))
    qg:=⟨((b8.o.fr (CO S.o a0.o.size) G.o (fun k e=>CO S.o (q.o k e))).fr (CO (CO S.o a0.o.size) G.o.size) a7.o g5).1,CO S.o (CO a0.o.size (CO G.o.size a7.o.size)),fun k j=>CO S.o (c1 k j)⟩
    nv:=rfl
    db:=n8.o.symm
    rF:=fun k j hf=>by have:=i3.o k j;have:=c1 k hf;have:=c.o.fr.size;omega
    low:=g5}
  obtain⟨i,m,mo,m',hi,hT,q6,p8,q5⟩:=Sh.pS b7.o.2.1 b7.o.1 b7.o.2.2.1 b7.o.2.2.2 nd sg sy o1.o.1 o1.o.2 _ rfl;have i8:=d3.o.2.1.cm;have j0:=b7.o.2.1.oO;have m4:=i8.len;have m1:=i8.uS;have q2:=j0.uR;have q1:=j0.held.qT;have m7:L.ps.length=g.st.length:=N.tE.qB;refine(C4 K B _ _ X _ J d7 N (by show L.ps.length<_;omega) (fun m hm=>(i8.qe m hm).mB V) (by show y5.held.uR.length<_;omega) (by show y5.held.uU.length<_;omega) j0.held (by show g.uS+1<_;omega) i m m' mo hi hT q6 p8).mono ?_;rintro e r5 ⟨rfl,o3,s1,k7,g7⟩;have HP:=Z (And.intro k7 (And.intro g7 (q5.tU (by omega:t+1+1<=t+10))));have e2:=Z c1;have i5:aa (∀ k,K k->¬PFoot {L with nv:=E X.nb 0,db:=o} X J k):=fun k e j=>j.elim (N.tE.tW k e).2 (N.rF k e);clear N k7 c1 g7 q5 hi hT q6 p8 i8 j0 m4 m1 q2 q1 m7 g5;go_wp2_with fail;go_ret;have d2:Fr (WFoot L) w1 d7:=(a0.o.tk G.o (fun i hi e=>by have:=q.o i e;omega)).trans a7.o;have r6:Fr (WFoot L) w1 r5:=d2.tk HP.o.1.fr (fun i hi e=>e.elim id (fun e=>by have:=e2.o i e;omega));refine⟨rfl,c.o.fr.tk r6 (fun k _ e=>.inl e),.inl ⟨o3,s1,_,X,_,J,⟨HP.o.1.th,⟨_,_,HP.o.2.2⟩,HP.o.2.1⟩,HP.o.1.wb,HP.o.1.tv,fun k j=>?_,fun k e=>(HP.o.1.new k e).imp id (fun e=>CO c.o.fr.size (CO d2.size e)),fun ho=>?_⟩⟩
  case refine_2 =>
   show Bok o3 r5 g.bk;rw[c.o.bk];exact(ho.fr (c.o.fr.tk d2 (fun k _ e=>.inl e)) HS.o (fun _ e=>e)).fr HP.o.1.fr i5.o HP.o.1.old
  rcases HP.o.1.sd k j with(e|e)|e
  .exact .inl (.inl e)
  .exact .inr (CO c.o.fr.size (e2.o k e))
  .exact .inr (CO c.o.fr.size (CO d2.size e))
 .obtain⟨b3,A,-,hy5⟩:=i4.o
  obtain⟨rfl,a6,k2⟩:=hy5 _ g1;have c1:∀ k,Foot o L9 J k->w1.heap.size<=k:=fun k j=>(k1 k j).elim (q.o k) (fun e=>CO (CO a0.o.size s.o.size) e);have b9:=k9;have a5:=b9.fr a2.o (fun k j hw=>d4.o.sf b9 hw j);have j2:=Z a5;have r7:=Z (fun d (f:Fr Nil R d)=>VG K _ _ L9 J 9 l.uT l.tr d (v.o.nil f) (j2.o.nil f) (.inl ⟨rfl,a6,k2⟩));have b6:=Z (fun n=>Zr (R.drewN n) o L9 J (a5.nil ((U _ _).drewN n)));rw[a6] at b6;have g4:decide (l.uT<l.uT+1)=true:=by simp;omega
  have d0:l.uT<l.uT+1:=V
  have b7:=Z A;have e2:=Z c1;clear b9 a5 g1 b3 A hy5 a6 k2 k9 k1 c1 i4 l5
  go_quiet ((go_at_call 47;exact Ah (b6.o _)))
  have q3:=g6 nq;have c7:=b1 nq;have a4:=Z (((U Nil R).drewN nq));clear b1 c0 g6 b6;generalize R.drewN nq=r4 at a4 c7 q3 |-;go_wp2_with fail;refine(r7.o _ a4.o).mono ?_;rintro e d7 ⟨rfl,s3⟩;go_wp2_with fail;go_ret;have l1:Fr Nil R d7:=a4.o.trans s3;have d2:Fr (WFoot L) w1 d7:=((a0.o.tk G.o (fun i hi e=>by have:=q.o i e;omega)).trans a2.o).trans (l1.mono (S':=WFoot L) (fun _ _ e=>absurd e id));have FA:=c.o.fr.tk d2 (fun k _ e=>.inl e);exact⟨rfl,FA,.inr ⟨K,_,_,L9,J,⟨v.o.nil l1,j2.o.nil l1,fun k j e=>by have:=i3.o k j;have:=e2.o k e;have:=c.o.fr.size;omega,⟨_,_,b7.o.rX.tU V⟩,i5.o,rfl⟩,rfl,rfl,fun k e=>.inl (.inl e),fun k e=>.inr (CO c.o.fr.size (e2.o k e)),fun k e=>.inl e,fun ho=>by show Bok K _ g.bk;rw[c.o.bk];exact ho.fr FA HS.o (fun _ e=>e)⟩⟩):p:=h
theorem C6(h:p:=by
 have f0:=(T.o.nil G.o).fr d8 (fun k j hw=>b0.sf (T.o.nil G.o) hw j);have n5:=Z (zE _ o L2 l f0);have n7:=Z f0;have t4:(l.uS==l.uS)=true:=bG
 have v:=Z c6;have r9:aa (Fr (WFoot L) w1 _):=(a0.o.trans (G.o.mono (S':=WFoot L) (fun _ _ e=>absurd e id))).trans d8;clear m2 n0 b0 c5 c6 g2 d8 f0
 go_wp2_with (refine n5.o.mono ?_;rintro e d ⟨rfl,m9⟩;subst d)
 go_ret;have FA:=c.o.fr.tk r9.o (fun k _ e=>.inl e);exact⟨rfl,FA,.inr ⟨K,_,_,L2,l,⟨v.o,n7.o,fun k j e=>by have:=i3.o k j;have:=q.o k e;have:=c.o.fr.size;omega,⟨_,_,d3.o.2.1.rX.tU V⟩,i5.o,rfl⟩,rfl,rfl,fun k e=>.inl (.inl e),fun k e=>.inr (CO c.o.fr.size (q.o k e)),fun k e=>.inl e,fun ho=>by show Bok K _ g.bk;rw[c.o.bk];exact ho.fr FA HS.o (fun _ e=>e)⟩⟩):p:=h
theorem Kf(h:p:=by
 have p4:∀ k,w9.cell? (Y L.wb k)=(g.cells {L with nv:=u,db:=o})[k]?:=b0.td.cell;have q0:=b0.td.frozen;simp only[WM.cells] at p4;have c5:=WStep.set b0 11 (I ((g.uS+1:Nat):Int)) (L':={L with nv:=u,db:=o}) (W':={g with uS:=g.uS+1}) ai rfl rfl rfl rfl rfl rfl rfl rfl rfl rfl rfl rfl rfl;obtain⟨c6,g2⟩:=c5.th.oN (.pointer none);have d8:=c5.fr.tk (g2.mono (S':=WFoot {L with nv:=u,db:=o}) (fun k _ e=>.inl e)) (fun _ _ e=>e)
 first
  | (clear t3;exact C6)
  | exact C5):p:=h
theorem C7(j9:zy)(K:Nat->Prop)(B:Nat)(L:WL)(W:WM)(LD:DL)(M:DM)(C D:Int)(Q:List Int)(t:Nat)(w:World)(h:WAt K w L W)(hd:DRep w L.db LD M)(g9:∀ k,K k->¬Foot L.db LD M k)(l0:Yr B w)(hB:B<=w.heap.size)(k3:∀ k,RFoot L LD M k->B<=k)
 (hr:∃ F p,Sh W M F p t)(ht:t<=890000)(q8:L.ps≠[])(q9:Yp w L.tv Q)(r0:∀ k,Q≠[]->L.tv.ownBlock=some k->¬RFoot L LD M k)(r1:∀ x,x∈Q->-9223372036854775808<=x/\x<=9223372036854775807) :
 Calls prog 17 #[E L.wb 0,I C,I D] w fun e w'=>e=.returned (.bool true)/\Nx K W.bk B (RFoot L LD M) L.wb L.tv w (t+10) w':=by
 obtain⟨F0,p0,k8⟩:=hr;obtain⟨r3,m3,h0⟩:=k8.nB;have l9:∀ k,w.cell? (Y L.wb k)=(W.cells L)[k]?:=h.td.cell;simp only[WM.cells] at l9;have r:=Z (WV w L.db LD M hd);have e1:=Z (fun d (f:Fr Nil w d)=>Kb K L W LD M r3 p0 t W.sD Q L.tv d (h.nil f) (hd.nil f) g9 h0.cm.sD.1 h0.cm.sD.2 (q9.fr f (fun _ _ _=>id)) (fun k s4 e he=>r0 k s4 e (.inr he)) r1 m3 V);have c4:aa (∀ d,Fr Nil w d->d.cell? (Y L.wb 13)=some (I W.sD)/\d.cell? (Y L.wb 14)=some L.tv):=fun d f=>⟨(h.nil f).td.cell 13,(h.nil f).td.cell 14⟩;have e8:aa (M.tJ=false->Up K L W LD M w t L.nv W LD M r3 p0 w):=fun e=>⟨h,hd,h0,m3,e,U _ _,rfl⟩;have HS:aa (∀ k,K k->¬RFoot L LD M k):=fun k e j=>j.elim (h.tW k e).2 (g9 k e);have i3:aa (∀ k,K k->k<w.heap.size):=fun k e=>(h.tW k e).1;have o2:=Z l0;have n4:=Z hB;have e3:=Z k3;have i5:=Z q8;have e6:=Z h0;clear h hd g9 l0 hB k3 q9 r0 r1 m3 h0 k8 q8;go_enter func17,ntmps17;cases hdd:M.tJ
 case' false =>
  rw[hdd] at r
  go_wp2_with (refine r.o.mono ?_;rintro e d ⟨rfl,m9⟩;subst d)
  have h9:=e8.o hdd;clear l9 r e1 c4 e8 e6 hdd;obtain⟨u,g,e9,M1,c2,p1,w1,r2,b5⟩:∃ u g e9 M1 c2 p1 w1,w1=w/\Up K L W LD M w t u g e9 M1 c2 p1 w1:=⟨_,_,_,_,_,_,_,rfl,h9⟩;have c:=Z b5;clear h9 b5;rw[<- r2];clear r2
 case' true =>
  rw[hdd] at r
  go_wp2_with (refine r.o.mono ?_;rintro e d ⟨rfl,m9⟩;subst d)
  have p6:=c4.o w (U _ _)
  go_region_held3 (fun d=>d.cell? (Y L.wb 13)=some (I W.sD)/\d.cell? (Y L.wb 14)=some L.tv) (first|assumption|go_keep|exact c4.o _ zd)
   (first|(go_at_call 52;refine(e1.o _ zd).mono ?_;rintro e w1 ⟨rfl,e9,i6,o4,o6,p9⟩;have t0:w1.cell? (Y L.wb 13)=some (I W.sD)/\w1.cell? (Y L.wb 14)=some L.tv:=⟨i6.td.cell 13,i6.td.cell 14⟩;have j4:=Z (Up.sj (w:=w) e6.o Q zd i6 o4 o6);clear i6 o4 o6 p9))
  go_wp2_with fail;obtain⟨c2,p1,h9⟩:=j4.o;clear j4 l9 r e1 c4 e8 e6 hdd p6 t0;obtain⟨u,g,M1,b5⟩:∃ u g M1,Up K L W LD M w t u g e9 M1 c2 p1 w1:=⟨_,_,_,h9⟩;have c:=Z b5;clear h9 b5
 all_goals
  have e7:aa (Yr B w1):=o2.o.fr n4.o c.o.fr e3.o;have S:aa (B<=w1.heap.size):=CO n4.o c.o.fr.size;refine(DW j9 K B {L with nv:=u} g e9 M1 c2 p1 t w1 c.o.tE c.o.sf e7.o S.o c.o.lg c.o.sh.oO V).mono ?_;rintro e w2 ⟨rfl,f2⟩;have p2:∀ k,w2.cell? (Y L.wb k)=(g.cells {L with nv:=u})[k]?:=(c.o.tE.nil f2).td.cell;simp only[WM.cells] at p2;have i1:=Z f2;clear f2;go_wp2_with fail;refine(GT (c.o.sf.nil i1.o) c.o.lg V).mono ?_;rintro e w3 ⟨o,L2,ps,rfl,d5,g8⟩;have c9:=c.o.lg.sG g8;have d1:Sh g (M1.sG ps) (c2.sG ps).F p1 t:=by rw[Lay.qP];exact c.o.sh.sG g8
  have g0:(M1.sG ps).tJ=false:=c.o.tJ;generalize M1.sG ps=l at d5 c9 d1 g0;generalize c2.sG ps=y2 at c9 d1;have F3:=i1.o.trans d5.fr;have i7:=c.o.tE.nil F3;obtain⟨o8,i9⟩:=i7.nO o;have p3:∀ k,w3.cell? (Y L.wb k)=(g.cells {L with nv:=u})[k]?:=i7.td.cell;have t1:=i7.td.frozen;simp only[WM.cells] at p3;have g5:L.wb<w1.heap.size:=c.o.tE.td.lt;have o9:∀ k,Foot o L2 l k->¬k=L.wb:=fun k j e=>by subst e;have:=d5.new _ j;have:=i1.o.size;omega
  have o5:=d5.th.fr i9 o9;have k5:∀ k,Foot o L2 l k->w1.heap.size<=k:=fun k j=>CO i1.o.size (d5.new k j);have o7:Fr (WFoot L) w1 _:=(F3.mono (S':=WFoot L) (fun _ _ e=>absurd e id)).tk (i9.mono (S':=WFoot L) (fun k _ e=>.inl e)) (fun _ _ e=>e);have h8:Yr B _:=(e7.o.fr S.o F3 (fun _ e=>absurd e id)).fr (CO S.o F3.size) i9 (fun k e=>by subst e;exact e3.o _ (.inl (.inl rfl)));have d3:=Z (And.intro c9 (And.intro d1 g0));have q:=Z k5;have a8:=Z o8;have a0:=Z o7;have T:=Z o5;have b8:=Z h8;clear p2 d5 g8 c9 d1 g0 F3 i7 o8 i9 g5 o9 o5 k5 o7 h8;go_wp2_with fail;have m8:w3.heap.size=(w3.setCell (Y L.wb 4) (E o 0)).heap.size:=by simp[World.setCell]
  generalize w3.setCell (Y L.wb 4) (E o 0)=w4 at a8 a0 T b8 m8 |-;have l8:=Blk.qC w4 [I g.node,I C,I D] 102 _ m8;have f5:Fr Nil w4 (w4.alloc (.cells #[I g.node,I C,I D] 102)):=(U _ _).alloc _;generalize w4.alloc (.cells #[I g.node,I C,I D] 102)=w5 at l8 f5 |-;have i0:=Z l8;have r8:=Z f5;clear p3 t1 l8 f5 m8;generalize w3.heap.size=cx at i0 |-;have s9:=i0.o.cell;refine(O2 g.node C D w5).mono ?_;rintro e w6 ⟨rfl,f6⟩;have i2:=Z (r8.o.trans f6);have j1:=Z (i0.o.fr f6 id);have p5:g.uS<=t:=c.o.sh.cm.uS;have s8:IntKind.i64.wrap ((g.uS:Int)+1)=((g.uS+1:Nat):Int):=by rw[Bu];push_cast;omega
  clear s9 f6 i0 p5;generalize y:Zn g.node C D=s2;have n6:=Z y;clear y;go_wp2_with fail;refine(Ze K {L with nv:=u,db:=o} g L2 l w6 (a8.o.nil i2.o) (T.o.nil i2.o)).mono ?_;rintro e w7 ⟨rfl,f7⟩;have m5:=Blk.new w7 [I l.uT,I l.tr] 111;have f8:Fr Nil w7 (w7.alloc (.cells #[I l.uT,I l.tr] 111)):=(U _ _).alloc _;have m0:∀ k,(w7.alloc (.cells #[I l.uT,I l.tr] 111)).cell? (Y L.wb k)=(g.cells {L with nv:=u,db:=o})[k]?:=(a8.o.nil ((i2.o.trans f7).trans f8)).td.cell;simp only[WM.cells] at m0;go_wp2_with fail;generalize w7.alloc (.cells #[I l.uT,I l.tr] 111)=w8 at m5 f8 m0 |-;have s:=Z ((i2.o.trans f7).trans f8);have c3:=Z (j1.o.fr (f7.trans f8) id);have l2:=Z m5;generalize w7.heap.size=mx at l2 |-;clear f7 f8 m5 j1;refine(zE w8 o L2 l (T.o.nil s.o)).mono ?_;rintro e d ⟨rfl,m9⟩;subst d;have l3:aa (¬Foot o L2 l cx):=(T.o.nil s.o).apart c3.o.ty ae;have s0:aa (¬Foot o L2 l mx):=(T.o.nil s.o).apart l2.o.ty ae;have d9:aa (∀ d,Fr (Foot o L2 l) w8 d->d.cell? (Y L.wb 4)=some (E o 0)/\d.cell? (Y cx 0)=some (I g.node)/\d.cell? (Y cx 1)=some (I C)/\d.cell? (Y cx 2)=some (I D)) :=
   fun d f=>⟨((a8.o.nil s.o).td.fr f (fun e=>(a8.o.nil s.o).sf (T.o.nil s.o) (.inl rfl) e)).cell 4,(c3.o.fr f l3.o).cell 0,(c3.o.fr f l3.o).cell 1,(c3.o.fr f l3.o).cell 2⟩
  clear m0;go_wp2_with fail;cases s2 with
  | false =>
   have e0:aa (∀ d,Fr Nil w8 d->d.cell? (Y L.wb 4)=some (E o 0)/\d.cell? (Y cx 0)=some (I g.node)/\d.cell? (Y cx 1)=some (I C)/\d.cell? (Y cx 2)=some (I D)):=fun d f=>d9.o d (f.mono (fun _ _ e=>absurd e id));have m2:=e0.o w8 (U _ _);have l4:=Z (fun d=>N7 o g.node C D n6.o d)
   go_region_held3 (fun d=>d.cell? (Y L.wb 4)=some (E o 0)/\d.cell? (Y cx 0)=some (I g.node)/\d.cell? (Y cx 1)=some (I C)/\d.cell? (Y cx 2)=some (I D)) (first|assumption|go_keep|exact e0.o _ zd)
    (first|(go_at_call 49;refine(l4.o _).mono ?_;rintro e w9 ⟨rfl,p7⟩;have a9:Fr Nil w8 w9:=Fr.trans zd p7;have n0:=e0.o w9 a9;have G:=Z (s.o.trans a9);clear p7 a9))
   have b0:=a8.o.nil G.o;have t3:=0;exact Kf
  | true =>
   have y:=n6.o;obtain⟨nd,sg,sy,m6,q4,s5,s6⟩:∃ nd sg sy:Nat,g.node=(nd:Int)/\nd<4/\C=(sg:Int)/\D=(sy:Int):=by
    unfold Zn zM at y;simp only[Ar,Bi] at y;exact⟨g.node.toNat,C.toNat,D.toNat,V,V,V,V⟩
   subst s5 s6;rw[m6] at y d9 |-;have n3:aa (B<=w4.heap.size):=CO S.o a0.o.size;obtain⟨e5,J,y5,⟨b3,l6,l7,k6,-,-,k4,b4⟩,q7⟩:=N4 j9 B l nd sg sy y2 p1 t y d3.o.1 V;have l4:aa (∀ d,Fr Nil w8 d->Calls prog 49 #[E o 0,.agg #[I nd,I sg,I sy]] d fun e w'=>∃ na en,e=.returned (.tuple #[.pointer na,I en])/\Fr (Foot o L2 l) w8 w' /\
    ((e5=none/\en=0/\∃ X,na=some (Y X.nb 0)/\NRep w' X (NM.tP nd sg sy y5) J/\X.db=o/\∀ k,NFoot X J k->Foot o L2 l k\/w8.heap.size<=k)\/(na=none/\e5=some en/\∃ L',DRep w' o L' J/\∀ k,Foot o L' J k->Foot o L2 l k\/w8.heap.size<=k))):=fun d f=>by
    refine(q7 o L2 d (T.o.nil (s.o.trans f)) (b8.o.fr n3.o (s.o.trans f) (fun _ e=>absurd e id)) (CO n3.o (s.o.trans f).size) (fun k j=>CO S.o (q.o k j))).mono ?_;rintro e w' (⟨h1,X,h2,h3,h4,h5,h6,h7⟩|⟨m,L',h1,h2,h3⟩)
    .exact⟨_,_,h2,(f.mono (S':=Foot o L2 l) (fun _ _ e=>absurd e id)).trans h7,.inl ⟨h1,rfl,X,rfl,h3,h4,fun k j=>(h5 k j).imp id (fun e=>CO f.size e)⟩⟩
    .exact⟨_,_,h2,(f.mono (S':=Foot o L2 l) (fun _ _ e=>absurd e id)).trans h3.fr,.inr ⟨rfl,h1,L',h3.th,fun k j=>(h3.sd k j).imp id (fun e=>CO f.size e)⟩⟩
   have A:Sh g J y5.F p1 (t+1):=by
    have:=d3.o.2.1.mw b3 l6 k6 (fun e=>by rw[d3.o.2.2] at e;cases e) (yc t);rw[<- l6] at this;exact this
   have i4:aa (Lg J y5 p1 (t+1)/\Sh g J y5.F p1 (t+1)/\(e5=none->y5.new=none/\J.tJ=false/\J.uT=l.uT)/\∀ n,e5=some n->n=9/\J.uT=l.uT+1/\J.tr=l.tr):=by
    refine⟨b3,A,fun e=>?_,fun n e=>?_⟩
    .subst e
     obtain⟨_,a1,_,a3⟩:=l7.1.resolve_right (fun x=>by rcases x.2 with⟨e,_⟩|⟨e,_⟩ <;> cases e);exact⟨b4 rfl,a3.trans d3.o.2.2,a1⟩
    .subst e
     rcases l7.1 with⟨e,_⟩|⟨a,⟨e,b⟩|⟨e,_⟩⟩
     .cases e
     .exact⟨BA e,a,b⟩
     .exact absurd e k4
   have o1:=Z (And.intro m6 q4);clear y m6 q4 q7 b3 l6 l7 k6 k4 b4 A;have m2:=d9.o w8 (U _ _)
   go_region_held3 (fun d=>d.cell? (Y L.wb 4)=some (E o 0)/\d.cell? (Y cx 0)=some (I (nd:Nat))/\d.cell? (Y cx 1)=some (I (sg:Nat))/\d.cell? (Y cx 2)=some (I (sy:Nat))) (first|assumption|go_keep|exact d9.o _ zd)
    (first|(go_at_call 49;refine(l4.o _ zd).mono ?_;rintro e w9 ⟨na,en,rfl,a9,d6⟩;have n0:=d9.o w9 a9;have l5:=Z d6;have o0:=Z (l2.o.fr a9 s0.o);have G:=Z ((s.o.mono (S':=Foot o L2 l) (fun _ _ e=>absurd e id)).trans a9);clear a9 d6))
   have b0:=a8.o.fr G.o (fun k j e=>a8.o.sf T.o j e) (fun k j e=>by have:=i3.o k j;have:=q.o k e;have:=c.o.fr.size;omega);exact Kf
theorem C8(L:WL)(o:OpM)(w:World)(k:o.kind=12)(Q:World->Prop)
 (i:∀ p,Fr Nil w p->Calls prog 52 #[E L.wb 0,I o.a,o.rz] p fun e j=>e=.returned (.tuple #[])/\Q j) :
 Calls prog 18 #[E L.wb 0,.agg o.cells.toArray] w fun e j=>e=.returned (.bool true)/\Q j:=by
 obtain⟨m,a,b,c,key,f,v,d⟩:=o;simp only at k;subst k;simp only[OpM.cells,Ver.cells,CZ,Ba] at i |-;have h:Fr Nil w (w.alloc (.cells #[I 12,I a,I b,I c,.string key,.string f,I v.node,I v.seq,I v.o0,I v.o1,I v.o2,I v.o3,.string v.value,.bool v.ts,d] 39)):=(U _ _).alloc _;have g:=Blk.new w [I 12,I a,I b,I c,.string key,.string f,I v.node,I v.seq,I v.o0,I v.o1,I v.o2,I v.o3,.string v.value,.bool v.ts,d] 39;have t:=g.cell;have r:=Z h;have q:=Z (i _ h);clear h g i;go_enter xk,yV
 go_wp2_with (refine q.o.mono ?_;rintro e u ⟨rfl,l⟩;have s:=Z l;clear l)
 go_ret;exact⟨rfl,s.o⟩
theorem Un(L:WL)(o:OpM)(w:World)(l:o.kind=13\/o.kind=14)(Q:World->Prop)
 (j:∀ p,Fr Nil w p->Calls prog 60 #[E L.wb 0,.agg o.cells.toArray] p fun e k=>e=.returned (.tuple #[])/\Q k) :
 Calls prog 18 #[E L.wb 0,.agg o.cells.toArray] w fun e k=>e=.returned (.bool true)/\Q k:=by
 obtain⟨f,a,b,c,key,g,v,d⟩:=o;simp only at l;simp only[OpM.cells,Ver.cells,CZ,Ba] at j |-;have i:Fr Nil w (w.alloc (.cells #[I f,I a,I b,I c,.string key,.string g,I v.node,I v.seq,I v.o0,I v.o1,I v.o2,I v.o3,.string v.value,.bool v.ts,d] 39)):=(U _ _).alloc _;have h:=Blk.new w [I f,I a,I b,I c,.string key,.string g,I v.node,I v.seq,I v.o0,I v.o1,I v.o2,I v.o3,.string v.value,.bool v.ts,d] 39;have t:=h.cell;have r:=Z i;have q:=Z (j _ i);clear i h j;rcases l with rfl|rfl
 all_goals
  go_enter xk,yV
  go_wp2_with (refine q.o.mono ?_;rintro e u ⟨rfl,m⟩;have s:=Z m;clear m)
  go_ret;exact⟨rfl,s.o⟩
def InR(x:Int):Prop:=-9223372036854775808<=x/\x<=9223372036854775807
def T8(w:World)(v:Value):Prop:=∃ l,Yp w v l/\∀ x,x∈l->InR x
structure VT(w:World)(o:OpM):Prop where
 a:InR o.a
 b:InR o.b
 rz:T8 w o.rz
theorem Yp.sL(h:Yp w v l):∀ k,l≠[]->v.ownBlock=some k->k<w.heap.size:=fun k a e=>by
 rcases h with⟨_,i⟩|⟨g,j,c,rfl,m,_⟩
 .exact absurd i a
 .simp[Value.ownBlock] at e;omega
theorem Yp.form(h:Yp w v l):∃ a n c,v=.slice a n c:=by
 rcases h with⟨⟨a,c,rfl⟩,_⟩|⟨g,d,b,rfl,_⟩
 .exact⟨_,_,_,rfl⟩
 .exact⟨_,_,_,rfl⟩
end Go.Proofs.YtkhnggkkiefcdaaGreatDoor
namespace Go.Proofs.YtkhnggkkiefcdaaGreatDoor
open Go.RowKit Go.Shelf Proofs.Tryz
set_option maxRecDepth 100000
set_option maxHeartbeats 8000000
attribute [local go_sem] ye
theorem Fa:((prog.info? 165).map fun i=>(i.zero.map (·.cells.size),i.size,i.bytes))=some (some 1,1,16):=bI
def XH(e:ByteArray × Value):Value:=.iface 193 (.agg #[.string e.1,e.2])
def Pf(x:Nat × ByteArray):Value:=.iface 138 (.agg #[I x.1,.string x.2])
def Uo(n:Nat):Value:=.iface 220 (.agg #[I n])
def YX(a:List (ByteArray × Value))(i:Nat):ByteArray × Value:=a.getD i (ByteArray.empty,.slice none 0 0)
def Nf(a:List (ByteArray × Value))(i:Nat):Array Value:=#[.string (YX a i).1,(YX a i).2]
theorem Ei(F:Fence)(n:Nat)(hF:F.fn 217)(B:F.round=none)(hn:1<=n)(l D L:Nat)(v:Value)(b:List (ByteArray × Value))(J:Nat->World->Prop)
 (W:World)(hl:b.length<4611686018427387904)
 (A:∀ e∈b,∃ a m c,e.2=.slice a m c)(hJ:AbidesFrom W.heap.size J)(o:∀ i q,J i q->q.ownsRow 0 239 2 v b.length (Z3 b))
 (hY:∀ i q,i<b.length->J i q->YieldAt F (n-1) prog l (Nf b i) q fun e s=>e=.returned (.bool true)/\J (i+1) s)
 (T:W.cell? (Y D 0)=some (E L 0))(a5:W.cell? (Y L 0)=some v)(N:J 0 W) :
 CallsIn F n prog 217 #[.func (.yield l) #[] #[],E D 0] W fun e s=>(∃ r,e=.returned r)/\J b.length s:=by
 obtain⟨a0,C,rfl⟩:=zf (o 0 W N);refine uJ ur rfl hF ?_ B;simp only[ntmps217,AQ,Bh,BU,Nat.reduceAdd,Nat.reduceSub,AY,AZ,yD,ym,Ba,CZ]
 gi_wp2
 gi_loopw [10] (fun i wr=>∃ k:Nat,k<=b.length/\i=I k/\J k wr) (fun i _=>b.length-(intOf i).toNat)
 case atStart=>exact⟨0,Bg _,rfl,N⟩
 case round =>
  obtain⟨k,hk,rfl,d⟩:=hrel;by_cases f:k<b.length
  .have hvr:=o _ _ d
   exact Ld
  .obtain rfl:k=b.length:=V
   gi_wp2
   go_end0
   exact⟨⟨_,rfl⟩,d⟩
theorem Ng(d:List (Nat × ByteArray)):∀ (k:Nat)(h:k<d.length),(zI d)[k*2]?=some (I d[k].1)/\(zI d)[k*2+1]?=some (.string d[k].2):=by
 induction d with
 | nil=>intro k h;simp at h
 | cons e d a =>
  intro k h;cases k with
  | zero=>exact⟨rfl,rfl⟩
  | succ k =>
   have:=a k aE;rw[show(k+1)*2=k*2+2 from V];exact this
theorem ME(b:Nat)(L:SL)(S:SM)(w:World)(h:SRep w b L S)(d1:S.uR.length<1000000000)(c8:S.uU.length<1000000) :
 Calls prog 170 #[E b 0] w fun e w'=>∃ M,e=.returned M/\w'.ownsRow 0 165 1 M (1+L.sC.length+S.uU.length) (Uo S.tm::(L.sC.map XH++S.uU.map Pf))/\Fr Nil w w'/\(∀ k,M.ownBlock=some k->w.heap.size<=k):=by
 have c7:L.sC.length=S.uR.length:=h.rq.length;have u:∀ e∈L.sC,∃ a m c,e.2=.slice a m c:=fun e X=>by obtain⟨l,hl⟩:=h.rq.mem e X;obtain⟨a,c,hf⟩:=zf hl;exact⟨a,_,c,hf⟩
 have HB:=Z h.td;have HV:=Z h.qi;have HH:=Z h.sE;have HF:=Z u;have c2:w.cell? (Y b 0)=some L.kv:=h.td.cell 0;have c3:w.cell? (Y b 1)=some L.hv:=h.td.cell 1;have d2:w.cell? (Y b 2)=some (I S.tm):=h.td.cell 2;have a7:=h.td.lt;have c9:L.sC.length<1000000000:=V
 clear h u c7;refine(An (n:=8)).1 ?_;refine xp func170 rfl trivial ?_ rfl;simp only[ntmps170,AQ,Bh,BU,Nat.reduceAdd,Nat.reduceSub,AY,AZ,yD,ym,Ba,CZ];obtain⟨ti,tz,b1,b2,b3,b4,b5⟩:=ZK Fa
 gi_wp2_with fail
 refine⟨trivial,?_⟩;refine(An.2 (SB b _)).mono ?_;rintro e w3 ⟨rfl,rfl⟩;have A:(w.alloc (.cells #[Value.iface 220 (.agg #[I S.tm])] 165)).ownsRow w.heap.size 165 1 (.slice (some (Y w.heap.size 0)) 1 1) 1 [Value.iface 220 (.agg #[I S.tm])] :=
  ⟨rfl,.inr ⟨_,1,#[Value.iface 220 (.agg #[I S.tm])],rfl,CP _,vD w 165 (Value.iface 220 (.agg #[I S.tm])),CP _,by unfold maxLen;omega,rfl,rfl⟩⟩
 have y:=(A.alloc (.cells #[.slice (some (Y w.heap.size 0)) 1 1] 199)).alloc (.cells #[E b 0] 236);have bO:=(vD (w.alloc (.cells #[Value.iface 220 (.agg #[I S.tm])] 165)) 199 (.slice (some (Y w.heap.size 0)) 1 1)).alloc (.cells #[E b 0] 236);have bM:=vD ((w.alloc (.cells #[Value.iface 220 (.agg #[I S.tm])] 165)).alloc (.cells #[.slice (some (Y w.heap.size 0)) 1 1] 199)) 236 (E b 0);rw[yK,yK] at bM;rw[yK] at bO;have N:Below w.heap.size w (((w.alloc (.cells #[Value.iface 220 (.agg #[I S.tm])] 165)).alloc (.cells #[.slice (some (Y w.heap.size 0)) 1 1] 199)).alloc (.cells #[E b 0] 236)) :=
  (((uu _ w).alloc (CP _) _).alloc bG _).alloc ar _
 have d0:(((w.alloc (.cells #[Value.iface 220 (.agg #[I S.tm])] 165)).alloc (.cells #[.slice (some (Y w.heap.size 0)) 1 1] 199)).alloc (.cells #[E b 0] 236)).heap.size=w.heap.size+3:=bG
 generalize ((w.alloc (.cells #[Value.iface 220 (.agg #[I S.tm])] 165)).alloc (.cells #[.slice (some (Y w.heap.size 0)) 1 1] 199)).alloc (.cells #[E b 0] 236)=W0 at N y bM bO d0;clear A;have b7:aa (∀ i,i<L.sC.length->∃ a m c,YX L.sC i=((YX L.sC i).1,.slice a m c)):=fun i hi=>by
  obtain⟨a,m,c,X⟩:=HF.o L.sC[i] (CU hi);exact⟨a,m,c,by rw[<- X];simp[YX,List.getD_eq_getElem?_getD,List.getElem?_eq_getElem hi]⟩
 have b8:aa (OwnFrom W0.heap.size (fun(i:Nat) W=>(∃ M,Boxed W (w.heap.size+1) 199 M/\W.ownsRow w.heap.size 165 1 M (i+1) (Uo S.tm::(List.range i).map fun k=>XH (YX L.sC k))/\True)/\Below w.heap.size w W/\W.ownsRow 0 239 2 L.kv L.sC.length (Z3 L.sC))) :=
  vM (Own.from (holdsRow_own w.heap.size (w.heap.size+1) 199 165 1 (fun i:Nat=>i+1) (fun i=>Uo S.tm::(List.range i).map fun k=>XH (YX L.sC k)) (fun _ _=>True)) _) (vM (ownFrom_below V V) (Own.from (Dt _ _ _ _ _ _) _))
 have a9:=ze HV.o.sL (Fr.rQ (S:=Nil) N) (fun _ _=>id);have b9:=Z a9;clear a9
 gi_wp2_with fail
 refine Wr rfl O (gf:=217) (lb:=#[E (w.heap.size+2) 0]) rfl trivial (wF ur bI rfl)
  L.sC.length (Nf L.sC) (fun _=>rfl) _ b8.o
  ⟨⟨_,bO,y,trivial⟩,N,b9.o⟩
  (fun k J W hW hJ hI hY h0=>Ei Fence.wide 7 trivial rfl O k (w.heap.size+2) b L.kv L.sC J W V HF.o hJ (fun i W1 h=>(hI i W1 h).2.2) hY ((hW.cell (p:=⟨w.heap.size+2,0,none⟩) aU).trans bM.cell) ((hW.cell (p:=⟨b,0,none⟩) aU).trans ((N.cell (p:=⟨b,0,none⟩) a7).trans c2)) h0)
  (fun i=>{tmps:=#[E b 0,undef,.slice none 0 0,E (w.heap.size+1) 0,.string (YX L.sC i).1,(YX L.sC i).2,undef,undef,E b 0,E b 0,E b 2,I S.tm,.agg #[I S.tm],.iface 220 (.agg #[I S.tm]),.slice (some (Y w.heap.size 0)) 1 1,E b 0,E b 0,E b 0,.func (.func 217) #[] #[E (w.heap.size+2) 0],.string (YX L.sC i).1,(YX L.sC i).2,undef,undef,undef,undef,undef,undef,undef,undef,undef,undef,undef,undef,undef,undef,undef,undef,undef,undef,undef,undef,undef,undef,undef,undef],defers:=[]}) ?assign ?body ?done
 case assign =>
  intro l x W K G;unfold Nf
  gi_wp2
  exact G
 case body =>
  rintro q i W hi ⟨⟨M,s,d,_⟩,t,v⟩;have hc:=s.cell;have hf:=s.frozen;obtain⟨a1,m1,c1,X⟩:=b7.o i hi;have b6:aa ((Uo S.tm::(List.range (i+1)).map fun k=>XH (YX L.sC k))=(Uo S.tm::(List.range i).map fun k=>XH (YX L.sC k))++[.iface 193 (.agg #[.string (YX L.sC i).1,.slice a1 m1 c1])]):=by
   show _=_;rw[uA,Bq,List.map_singleton,X];simp[XH]
  have d5:i<1000000000:=V
  rw[X];clear X
  gi_wp2_with (gi_at_builtin;go_must (refine vy _ rfl _ _ 199 rfl w.heap.size 165 ti tz 1 16 underlying199 b1 b2 b3 b4 b5 O _ _ _ rfl (d.alloc _) ⟨W.heap.size,0,none⟩ 1 1 [.iface 193 (.agg #[.string (YX L.sC i).1,.slice a1 m1 c1])] rfl rfl (ui _ _ _) aA ac V bt ?_;intro v3 w3 o f _;obtain⟨g',r,rfl⟩:=uM o;obtain⟨C,a5,a4,a2,T⟩:=Boxed.appended s O d t.size V o f;have c4:=C.cell;have c5:=C.frozen))
  have a0:Fr (fun k=>M.ownBlock=some k\/k=w.heap.size+1) W (w3.setCell (Y (w.heap.size+1) 0) (.slice (some (Y g' 0)) (i+1+1) r)) :=
   Fr.set (p:=⟨w.heap.size+1,0,none⟩) (Fr.grown ((U _ W).alloc _) f (fun k e _=>.inl e)) (fun _=>.inr rfl) _
  refine⟨a2,trivial,⟨_,a5,by rw[b6.o];exact a4,trivial⟩,t.trans T,ze v a0 (fun k hk e=>?_)⟩;rcases e with e|e
  .exact Zf d v O e hk
  .subst e
   exact zh v (show Blk W (w.heap.size+1) [M] 199 from s) O hk
 case done =>
  rintro D W hD ⟨⟨M,s,d,_⟩,t,v⟩ G;have hc:=s.cell;have hf:=s.frozen;have Q:=(t.cell (p:=⟨b,1,none⟩) a7).trans c3;obtain⟨ah,ch,c6⟩:=zf HH.o;have a6:=Z (ze HH.o (Fr.rQ (S:=Nil) t) (fun _ _=>id));rw[c6] at Q a6;have a8:=a6.o;clear v
  gi_wp2_with fail
  gi_loopw [33] (fun i wr=>∃ k:Nat,k<=S.uU.length/\i=I k/\(∃ v2,Boxed wr (w.heap.size+1) 199 v2/\wr.ownsRow w.heap.size 165 1 v2 (L.sC.length+1+k) ((Uo S.tm::(List.range L.sC.length).map fun k=>XH (YX L.sC k))++(S.uU.take k).map Pf))/\Below w.heap.size w wr/\wr.ownsRow 0 75 2 (.slice ah S.uU.length ch) S.uU.length (zI S.uU)/\wr.heap[D]?=some (.deferred (some []))) (fun i _=>S.uU.length-(intOf i).toNat)
  case atStart=>exact⟨0,Bg _,rfl,⟨_,s,by simpa using d⟩,t,a8,G⟩
  case round =>
   clear hc hf s d t G Q a8;obtain⟨k,hk,rfl,⟨v2,s,d⟩,t,hh,G⟩:=hrel;have hc:=s.cell;have hf:=s.frozen;by_cases a3:k<S.uU.length
   .obtain⟨g,r,hg,_,_⟩:=zl hh V
    obtain⟨rfl,rfl⟩:ah=some (Y g 0)/\ch=r:=by simpa using hg
    have d6:=own_cell? hh (k*2) _ (Ng S.uU k a3).1;have d7:=own_cell? hh (k*2+1) _ (Ng S.uU k a3).2;have R:=s.alloc (.cells #[I S.uU[k].1,.string S.uU[k].2] 75);have b0:=d.alloc (.cells #[I S.uU[k].1,.string S.uU[k].2] 75);have d3:=R.cell;have d4:=R.frozen
    gi_wp2_with (gi_at_builtin;go_must (refine vy _ rfl _ _ 199 rfl w.heap.size 165 ti tz 1 16 underlying199 b1 b2 b3 b4 b5 O _ _ _ rfl (b0.alloc _) ⟨wr.heap.size+1,0,none⟩ 1 1 [.iface 138 (.agg #[I S.uU[k].1,.string S.uU[k].2])] rfl rfl (by have:=ui (wr.alloc (.cells #[I S.uU[k].1,.string S.uU[k].2] 75)) (.iface 138 (.agg #[I S.uU[k].1,.string S.uU[k].2])) 165;rwa [yK] at this) aA ac V bt ?_;intro v3 w3 o f _;obtain⟨g',r,rfl⟩:=uM o;obtain⟨C,a5,a4,a2,T⟩:=Boxed.appended R O b0 bt V o f;have c4:=C.cell;have c5:=C.frozen))
    have a0:Fr (fun j=>v2.ownBlock=some j\/j=w.heap.size+1) wr (w3.setCell (Y (w.heap.size+1) 0) (.slice (some (Y g' 0)) (L.sC.length+1+k+1) r)) :=
     Fr.set (p:=⟨w.heap.size+1,0,none⟩) (Fr.grown (((U _ wr).alloc _).alloc _) f (fun j e _=>.inl e)) (fun _=>.inr rfl) _
    have hT:S.uU.take (k+1)=S.uU.take k++[S.uU[k]]:=Bp a3;refine⟨⟨k+1,V,bG,⟨_,a5,?_⟩,(t.alloc t.size _).trans T,ze hh a0 (fun j hj e=>?_),a2.same D _ ((xq _ _ _ (Ae.1 G).1).trans G) rfl⟩,by simp[intOf];omega⟩
    .rw[hT,Bq,<- Be]
     exact a4
    .rcases e with e|e
     .exact Zf d hh O e hj
     .subst e
      exact zh hh (show Blk wr (w.heap.size+1) [v2] 199 from s) O hj
   .obtain rfl:k=S.uU.length:=V
    gi_wp2_with fail
    refine⟨bG,.inl ⟨_,_,rfl,wo G,?_⟩⟩;have c0:Below w.heap.size w (wr.putObj D (.deferred none)):=t.trans (belowK_b (w:=w) (CP _) wr D _ _ V G rfl rfl);have B:=ownsRow_putObj d (.deferred none) G rfl;refine⟨_,uF rfl _ _ _,_,rfl,UT (base:=w.heap.size) ?_,Fr.rQ c0,?_⟩
    .have e1:(List.range L.sC.length).map (fun k=>XH (YX L.sC k))=L.sC.map XH:=by
      refine xt bG fun i h1 h2=>?_;have h3:i<L.sC.length:=by simpa using h2
      simp[YX,List.getD_eq_getElem?_getD,List.getElem?_eq_getElem h3]
     rw[e1,Bj,CZ,Nat.add_comm L.sC.length 1] at B;exact B
    .exact(fun k hk=>(d.lt k hk).1:∀ k,v2.ownBlock=some k->w.heap.size<=k)
end Go.Proofs.YtkhnggkkiefcdaaGreatDoor
