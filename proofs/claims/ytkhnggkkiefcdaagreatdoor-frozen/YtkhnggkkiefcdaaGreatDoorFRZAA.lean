/- larder: joined texts -/
import Derived.Test.YtkhnggkkiefcdaaGreatDoorFRAP
namespace Go.Proofs.YtkhnggkkiefcdaaGreatDoor
open Go.RowKit
set_option maxRecDepth 100000
set_option maxHeartbeats 8000000
def Y4(m:LM)(x:ByteArray):Prop:=∃ v:Ver,m.keys=[(zB,[v])]/\v.value=x/\v.gone=false
theorem Y4.put{m:LM}(h:m.keys=[]\/∃ x,Y4 m x)(x:ByteArray)(n:Int):Y4 (m.put zB x n) x:=by
 refine⟨m.putV zB x n,?_,rfl,rfl⟩;show Z0 m.keys zB _=_;rcases h with e|⟨_,v,e,_⟩
 .rw[e];exact O2 _ _
 .rw[e];exact O3 _ _ _
theorem Y4.bare{m m':LM}{x:ByteArray}(h:Y4 m x)(b:Zz m'.keys=Zz m.keys):Y4 m' x:=by
 obtain⟨v,d,e,f⟩:=h;rw[d] at b
 match hk:m'.keys,b with
 | [(a,[u])],b =>
  simp only[Zz,Mf,LC,Ju,Kc,and_true] at b;obtain⟨rfl,c⟩:=b;unfold YG at c;simp only[Ver.mk.injEq] at c;exact⟨u,hk,by rw[<- e];exact c.2.2.2.2.2.2.1,by rw[<- f];exact c.2.2.2.2.2.2.2⟩
 | [],b=>simp[Zz] at b
 | [(_,[])],b=>simp[Zz] at b
 | [(_,_::_::_)],b=>simp[Zz] at b
 | _::_::_,b=>simp[Zz] at b
theorem Y4.asked{m:LM}{S:SM}{x:ByteArray}(h:Y4 m x)(d:zP m S):S.keys.length=1/\∃ v:Ver,zt S.keys zB=[v]/\v.value=x/\v.gone=false:=by
 obtain⟨v,a,b,c⟩:=h;rw[d.1] at a;refine⟨by rw[a];rfl,v,?_,b,c⟩;rw[a,<- Sr zB (by unfold Ye Asc;simp)];unfold YZ;rw[List.find?_cons_of_pos (by simp[zJ])]
structure Fr0(W:WM)(N:NM)(M:DM)(t:Nat):Prop where
 ni:∃ F p,NI W N M F p t
 ro:N.readOnly=W.broken
 room:M.room=1152921504606846976
 cut:M.cut=0
 node:W.node=3
 Gy:W.room=-1
 Hp:W.Hp=false
structure FrA(W:WM)(N:NM)(M:DM)(x:ByteArray)(t:Nat):Prop extends Fr0 W N M t where
 one:∀ m,zP m N.S->Y4 m x
theorem Oc(W:WM)(m:LM):(W.Hv m).Hp=W.Hp:=by
 unfold WM.Hv;simp only;split <;> rfl
theorem Aft.FG{W c:WM}{N l:NM}{M d:DM}{t:Nat}{m:LM}{n:Int}{y:ByteArray}(f:Fr0 W N M t)(u:m.keys=[]\/∃ x,Y4 m x)(g:c.node=W.node/\c.broken=W.broken/\c.room=W.room/\c.Hp=W.Hp)(h:Aft c (m.put zB y n) M none l d (t+10)) :
 FrA (c.Hv (m.put zB y n)) l d y (t+10)/\d.fail=M.fail/\d.refused=M.refused/\M.calls<d.calls/\(M.calls<M.fail->d.calls<M.fail)/\(c.Hv (m.put zB y n)).broken=W.broken:=by
 obtain⟨p,B,i⟩:=h.Hv;obtain⟨I,J,C,D,o,E⟩:=Nn c (m.put zB y n);have b:=h.Gf;refine⟨⟨⟨⟨p,B,i⟩,i.ro,?_,b.2.cut.trans f.cut,by rw[C,g.1,f.node],by rw[o,g.2.2.1,f.Gy],by rw[Oc,g.2.2.2,f.Hp]⟩,fun G k=>?_⟩,b.2.fail,?_,h.grow rfl,fun j=>?_,by rw[D,g.2.1]⟩
 .rw[i.room]
  unfold WM.Gn;rw[o,g.2.2.1,f.Gy]
  rfl
 .obtain⟨ml,hml,hrl,_⟩:=i.now
  have A:ml=m.put zB y n:=by
   rcases E with⟨_,e⟩|⟨_,e⟩
   .rw[e] at hml;simpa using hml.symm
   .rw[e] at hml;simp at hml;exact hml.symm
  obtain⟨v,q,r,s⟩:=Y4.put u y n;exact⟨v,by rw[k.1,<- hrl.1,A];exact q,r,s⟩
 .rcases b.1 with⟨_,a,_⟩|⟨_,⟨a,_⟩|⟨a,_⟩⟩
  .exact a
  .cases a
  .cases a
 .have hg:=b.2.Fl rfl
  have F:=h.grow rfl;by_cases z:M.fail<=d.calls
  .exact absurd rfl (hg M.fail j z).2
  .omega
theorem Aft.calm{f:WM}{e:NM}{M d:DM}{t j:Nat}{i:LM}{b:Option Int}(c:Bd M t)(o:t<=100000000)(k:M.cut=0)(l:M.fail=0)(m:M.room=1152921504606846976)(h:Aft f i M b e d j):b=none:=by
 rcases h.Gf.1 with⟨a,_⟩|⟨_,⟨a,_⟩|⟨a,_⟩⟩
 .exact a
 .have h1:=h.Gf.2.bad a h.dead
  have:=c.c0;rcases h1.2 with⟨g,_⟩|⟨g,_⟩ <;> omega
 .have:=h.full a
  have:=c.Hx;omega
theorem Aft.FX{W a:WM}{N d:NM}{M g:DM}{F:List Fact}{p t:Nat}{m:LM}{n e:Int}{x y:ByteArray}(B:NI W N M F p t)(ht:t<=10000000)(i:FrA W N M x t)(X:zP m N.S)(f:a.node=W.node/\a.broken=W.broken/\a.room=W.room/\a.st=W.st/\a.Hp=W.Hp)(h:Aft a (m.put zB y n) M (some e) d g (t+10)) :
 e=9/\g.refused=M.refused+1/\∃ W' z,(z=x\/z=y)/\FrA W' d g z (t+10)/\W'.broken=true/\d.readOnly=true:=by
 have hx:=i.one m X;have r:=B.Eg;have L:e=9/\g.refused=M.refused+1/\g.dead=false:=by
  rcases h.Gf.1 with⟨q,_⟩|⟨k,⟨q,_⟩|⟨q,_⟩⟩
  .cases q
  .have h1:=h.Gf.2.bad q h.dead
   have hc:=i.cut;have:=r.c0;refine⟨Mp q,k,?_⟩;rcases h1.2 with⟨D,_⟩|⟨_,D⟩
   .omega
   .exact D
  .have:=h.full q
   have X:=i.room;have:=r.Hx;omega
 obtain⟨L,k,hd⟩:=L;refine⟨L,k,?_⟩;obtain⟨a4,a5⟩:=h.told hd;have C:d.readOnly=true:=h.ro;have l:g.room=1152921504606846976:=by
  rw[h.room];unfold WM.Gn;rw[f.2.2.1,i.Gy]
  rfl
 have hcut:=h.Gf.2.cut.trans i.cut;have j:∀ (c:WM) (z:ByteArray) (o:LM),(∃ F p,NI c d g F p (t+10))->c.st[c.st.length-1]?=some o->Y4 o z->c.broken=true->c.node=W.node->c.room=W.room->c.Hp=W.Hp->FrA c d g z (t+10)/\c.broken=true:=by
  intro c z o A hl V Q T Y R;obtain⟨F2,p2,b⟩:=A;obtain⟨m2,s,a3,_⟩:=b.now;rw[hl] at s;obtain rfl:=Mp s;refine⟨⟨⟨⟨F2,p2,b⟩,b.ro,l,hcut,by rw[T,i.node],by rw[Y,i.Gy],by rw[R,i.Hp]⟩,fun m' S=>?_⟩,Q⟩;obtain⟨v,I,J,K⟩:=V;exact⟨v,by rw[S.1,<- a3.1];exact I,J,K⟩
 cases htp:(Zh {a with broken:=true} d (m.put zB y n)).2 with
 | some m' =>
  have A:=a4 m' htp;have hb:=Xe (W:={a with broken:=true}) (N:=d) (m:=m.put zB y n) (m':=m') (mo:=(Zh {a with broken:=true} d (m.put zB y n)).1) (by rw[<- htp]);obtain⟨E,G⟩:=j _ y m' A (by simp) ((Y4.put (.inr ⟨x,hx⟩) y n).bare hb.1) rfl f.1 f.2.2.1 f.2.2.2.2;exact⟨_,y,.inr rfl,E,G,C⟩
 | none =>
  obtain⟨_,D⟩:=a5 htp;obtain⟨o,u,a0,_⟩:=B.now;obtain⟨_,A⟩:=D o (by rw[f.2.2.2.1];exact u);have V:Y4 o x:=by
   obtain⟨v,I,J,K⟩:=hx;exact⟨v,by rw[a0.1,<- X.1];exact I,J,K⟩
  obtain⟨E,G⟩:=j _ x o A (by show a.st[a.st.length-1]?=_;rw[f.2.2.2.1];exact u) V rfl f.1 f.2.2.1 f.2.2.2.2;exact⟨_,x,.inl rfl,E,G,C⟩
theorem Fr0.more{W:WM}{N:NM}{M:DM}{t u:Nat}(h:Fr0 W N M t)(a:t<=u):Fr0 W N M u :=
 {h with ni:=h.ni.imp fun _ x=>x.imp fun _ y=>y.more a}
theorem FrA.more{W:WM}{N:NM}{M:DM}{x:ByteArray}{t u:Nat}(h:FrA W N M x t)(a:t<=u):FrA W N M x u:=⟨h.toFr0.more a,h.one⟩
theorem FrA.fail{W:WM}{N:NM}{M:DM}{x:ByteArray}{t:Nat}(h:FrA W N M x t)(n c:Int)(e:-9223372036854775808<=c)(g:c<=9223372036854775807):FrA W N (M.Hi n c) x t :=
 ⟨⟨h.ni.imp fun _ a=>a.imp fun _ b=>b.Hu (fun _ y=>y.Hi n c e g) rfl rfl rfl rfl rfl,h.ro,h.room,h.cut,h.node,h.Gy,h.Hp⟩,h.one⟩
theorem Kpt.FJ(k:zv){B:Nat}{q w:World}{s n c:Nat}{i:Value}{W:WM}{X:NL}{N:NM}{M:DM}{F:List Fact}{p t:Nat}(h:Kpt q w s n c i X N M)(r:NI W N M F p t)(o:Zp B q)(x:B<=q.heap.size)(m:N.readOnly=true)(d b:ByteArray)(l:zz d=true)(E:b.size<=128) :
 Calls Tryz.prog 22 #[.pointer (some ⟨X.nb,0,none⟩),.string d,.string b] w fun e v=>∃ j,e=.returned (.tuple #[.int .i64 0,.int .i64 8])/\Kpt q v s n c i j N M/\j.nb=X.nb/\j.db=X.db:=by
 refine(WK k B X N M d b w h.st.node (h.env o x) (fun u A=>((r.st.1.get d).2.2 u A).node) (fun _ _ e=>by rw[m] at e;cases e)).mono ?_;rintro e v ⟨f,g,j,rfl,C,D,y,a⟩;have z:N.put M d b f g=(0,8,N,M):=by
  unfold NM.put;rw[Ma (by rw[l];decide),Ma (by omega),Mg m]
 rw[z] at a |-;exact⟨j,rfl,h.step a,a.same.nb,a.same.db⟩
theorem Kpt.GY(j:zv){B:Nat}{o w:World}{p n b:Nat}{d:Value}{X:NL}{N:NM}{M:DM}(h:Kpt o w p n b d X N M)(m:Zp B o)(r:B<=o.heap.size)(l:N.readOnly=true)(c:ByteArray)(k:zz c=true) :
 Calls Tryz.prog 30 #[.pointer (some ⟨X.nb,0,none⟩),.string c] w fun e q=>∃ i,e=.returned (.tuple #[.int .i64 0,.int .i64 8])/\Kpt o q p n b d i N M/\i.nb=X.nb/\i.db=X.db:=by
 refine(Ss j B X N M c w h.st.node (h.env m r) (fun _ e=>by rw[l] at e;cases e)).mono ?_;rintro e q ⟨f,g,i,rfl,u,v,s,a⟩;have t:N.delete M c f g=(0,8,N,M):=by
  unfold NM.delete;rw[Ma (by rw[k];decide),Mg l]
 rw[t] at a |-;exact⟨i,rfl,h.step a,a.same.nb,a.same.db⟩
theorem Kpt.Fz(j:zv){B:Nat}{m w:World}{o n c:Nat}{g:Value}{X:NL}{N:NM}{M:DM}(h:Kpt m w o n c g X N M)(l:Zp B m)(s:B<=m.heap.size)(k:N.readOnly=true)(d:Int)(b:ByteArray)(q:zM d=true)(r:d≠N.self)(u:b.size≠0)(v:b.size<=64) :
 Calls Tryz.prog 31 #[.pointer (some ⟨X.nb,0,none⟩),.int .i64 d,.string b] w fun e p=>∃ i,e=.returned (.int .i64 8)/\Kpt m p o n c g i N M/\i.nb=X.nb/\i.db=X.db:=by
 refine(Wa j B X N M d b w h.st.node (h.env l s) (fun _ _ e=>by rw[k] at e;cases e)).mono ?_;rintro e p ⟨f,i,rfl,x,a⟩;have t:N.hint M d b f=(8,N,M):=by
  unfold NM.hint;rw[Ma (by rw[q];simp[r]),Ma (by omega),Mg k]
 rw[t] at a |-;exact⟨i,rfl,h.step a,a.same.nb,a.same.db⟩
theorem Kpt.FF(g:zv){B:Nat}{k w:World}{l n b:Nat}{c:Value}{X:NL}{N:NM}{M:DM}(h:Kpt k w l n b c X N M)(j:Zp B k)(o:B<=k.heap.size)(i:N.readOnly=true) :
 Calls Tryz.prog 28 #[.pointer (some ⟨X.nb,0,none⟩)] w fun e m=>∃ d,e=.returned (.int .i64 8)/\Kpt k m l n b c d N M/\d.nb=X.nb/\d.db=X.db:=by
 refine(Pq g B X N M w h.st.node (h.env j o) (fun e=>by rw[i] at e;cases e)).mono ?_;rintro e m ⟨f,d,rfl,q,a⟩;have p:N.Ff M f=(8,N,M):=by
  unfold NM.Ff;rw[Mg i]
 rw[p] at a |-;exact⟨d,rfl,h.step a,a.same.nb,a.same.db⟩
theorem Kpt.Fw(f:zv){B:Nat}{i w:World}{k n b:Nat}{c:Value}{X:NL}{N:NM}{M:DM}(h:Kpt i w k n b c X N M)(g:Zp B i)(m:B<=i.heap.size)(j:N.readOnly=true) :
 Calls Tryz.prog 32 #[.pointer (some ⟨X.nb,0,none⟩)] w fun e l=>∃ d,e=.returned (.int .i64 8)/\Kpt i l k n b c d N M/\d.nb=X.nb/\d.db=X.db:=by
 refine(Yz f B X N M w h.st.node (h.env g m)).mono ?_;rintro e l ⟨d,rfl,a⟩;have o:N.Hc M=(8,N,M):=by
  unfold NM.Hc;rw[Mg j]
 rw[o] at a |-;exact⟨d,rfl,h.step a,a.same.nb,a.same.db⟩
theorem OV(X:NL)(N:NM)(M:DM)(w:World)(h:NRep w X N M)(a:N.readOnly=true) :
 Calls Tryz.prog 40 #[.pointer (some ⟨X.nb,0,none⟩)] w fun e c=>e=.returned (.tuple #[.bool false,.int .i64 8])/\Fr Nil w c:=by
 have b:=h.IR.cell;simp only[NM.cells] at b;rw[a] at b;clear h;go_enter Tryz.func40,Tryz.ntmps40;go_wp2_with fail;go_ret2;exact⟨rfl,O _ _⟩
theorem FrA.opened{W l:WM}{N k:NM}{M j:DM}{x:ByteArray}{t y:Nat}{z:List Fact}{E:Nat}(h:FrA W N M x t)(g:Opd W ((M.Hr 0).Hi 0 0) y k j l)(a:NI l k j z E (t+10))(K:j.cut=0):FrA l k j x (t+10):=by
 obtain⟨F,p,B⟩:=h.ni;obtain⟨I,Y,a3,a4,A⟩:=g.GR;obtain⟨c,i,mo,m,C,o,Q,b,J,rfl⟩:=g.found;have L:c=false:=by rw[o B.dead,h.Hp]
 have R:=b.resolve_left (by rw[L];decide);obtain⟨D,f,s,_⟩:=B.now;have T:m=D:=by
  rw[show W.st.length-1=i by omega,Q] at f;exact Mp f
 have V:Y4 C x:=((by rw[T];exact h.one D s:Y4 m x)).bare (Xe J).1;obtain⟨X,d,r,_⟩:=a.now;have e:X=C:=by simp at d;exact d.symm
 refine⟨⟨⟨z,E,a⟩,a.ro,?_,K,by rw[I,h.node],by rw[A,h.Gy],rfl⟩,fun m3 q=>?_⟩
 .rw[a.room]
  unfold WM.Gn;rw[A,h.Gy]
  rfl
 .obtain⟨v,e1,e2,e3⟩:=V
  exact⟨v,by rw[q.1,<- r.1,e];exact e1,e2,e3⟩
def Ur:ByteArray:={data:=#[111,108,100]}
def WX:ByteArray:={data:=#[110,101,119]}
def FrR(f:World)(e i d k:Nat)(a b c:Value)(w:World):Prop:=∃ X N M W x,Kpt f w e 3 2 (.slice none 0 0) X N M/\b=.string x/\x.size<=128 /\
 ((a=.int .i64 0/\FrA W N M x (40+10*i)/\W.broken=false/\M.refused=0/\M.fail=((d+k:Nat):Int)/\((d+i:Nat):Int)<=M.calls/\M.calls<M.fail) \/
   (a=.int .i64 9/\0<i/\∃ y z,c=.string y/\(z=x\/z=y)/\FrA W N M z (40+10*i)/\W.broken=true/\M.refused=1))
theorem Rb(r:zv)(B:Nat)(c t b7 d3:Int)(w:World)(g5:Zp B w)(hB:B<=w.heap.size)(hc:InR c)(s3:InR t)(n9:InR b7)(s2:InR d3) :
 Calls Tryz.prog 13 #[.int .i64 c,.int .i64 t,.int .i64 b7,.int .i64 d3] w fun e w'=>e=.returned (.bool true)/\Fr Nil w w':=by
 have q:=Z g5;have o:=Z hB;have m5:=Z (Nm r B 3 w g5 hB (by decide));have j7:Hid (∀ j,Calls Tryz.prog 21 #[.int .i64 t,.int .i64 3] j fun e w'=>e=.returned (.int .i64 (zI t 3))/\w'=j):=fun j=>Y8 t 3 j s3.1 s3.2 (by decide) (by decide);have m6:Hid (∀ j,Calls Tryz.prog 21 #[.int .i64 b7,.int .i64 30] j fun e w'=>e=.returned (.int .i64 (zI b7 30))/\w'=j):=fun j=>Y8 b7 30 j n9.1 n9.2 (by decide) (by decide);have v6:=Xs t (n:=3) (by decide);have v1:=Xs b7 (n:=30) (by decide);generalize zI t 3=ev at j7 v6;generalize zI b7 30=ca at m6 v1;clear g5 hB;go_enter IC,Tryz.ntmps13;go_wp2_with fail;refine m5.out.mono ?_;rintro e w1 ⟨J,X1,N1,M1,W1,rfl,r6,⟨F1,p1,j2⟩,o0⟩;have K:=Z r6;have i5:=Z j2;have T:=Z o0;clear r6 j2 o0 m5;go_wp2_with fail;refine(j7.out _).mono ?_;rintro e j ⟨rfl,x7⟩;subst j;have n8:W1.node=((3:Nat):Int):=T.out.node;have Y:=Z (WW r B J X1.db 3 1 (.pointer (some ⟨X1.nb,0,none⟩)) (.slice none 0 0) W1 X1.LD M1 c ev 10 w1 K.out.closed (q.out.fr o.out K.out.fr (fun _ e=>absurd e id)) (NR o.out K.out.fr.size) (NR o.out K.out.low) (fun k Q=>NR o.out (K.out.new k (.inr (.inr (.inr Q))))) ⟨F1,p1,i5.out.sh⟩ (by decide) n8 (by decide) (by decide) hc ⟨by omega,by omega⟩);clear n8;go_wp2_with fail;refine Y.out.mono ?_;rintro e w2 ⟨rfl,a9⟩;obtain⟨X2,N2,M2,W2,k6,⟨F2,p2,D⟩,I,b9,c7⟩:=Kpt.std K.out.fr K.out.low K.out.st.IR.lt (fun k Q=>K.out.new k (.inr (.inr (.inr Q)))) a9;have n6:Fr0 W2 N2 M2 20:=by
  obtain⟨a1,a2,a3,a4,a5⟩:=I.GR;refine⟨⟨F2,p2,D⟩,D.ro,?_,b9,by rw[a1,T.out.node];rfl,by rw[a5,T.out.room],by obtain⟨_,_,_,_,_,_,_,_,_,e⟩:=I.found;rw[e]⟩;rw[D.room];unfold WM.Gn;rw[a5,T.out.room]
  rfl
 have q9:∀ m,zP m N2.S->m.keys=[]:=by
  obtain⟨m,hm,Q,hh⟩:=T.out.st;obtain⟨y9,i,mo,m1,m',_,hi,_,hT,rfl⟩:=I.found;obtain⟨ml,x1,x3,_⟩:=D.now;have r4:i=0:=by
   have:=(Md.1 hi).1;rw[hm,NU] at this;omega
  subst r4;have r9:ml=m':=by simpa using x1.symm
  have w0:m1=m:=by
   rw[hm,Kw] at hi;exact(Mp hi).symm
  have hb:=(Xe hT).1;rw[w0,Q] at hb;have v9:m'.keys=[]:=by
   cases hx:m'.keys with
   | nil=>rfl
   | cons a l=>rw[hx] at hb;simp[Zz] at hb
  intro m2 x0;rw[x0.1,<- x3.1,r9,v9]
 have d7:=Z (And.intro I.GR.2.2.2.1 (And.intro (I.refused.trans T.out.refused) (I.calls.trans T.out.FK)));have j4:N2.readOnly=false:=by rw[D.ro];exact d7.out.1
 have u:=Z (k6.put r D (by decide) q.out o.out j4 zB Ur (by decide) (by decide));unfold zB Ur at u;have v2:w2.cell? ⟨J,1,none⟩=some (.pointer (some ⟨X2.nb,0,none⟩)):=k6.st.IR.cell 1;have V:=Z (And.intro n6 (And.intro q9 (And.intro D (And.intro b9 c7))));clear a9 I b9 c7 Y K i5 T j7 n6 q9 j4 k6 D;go_wp2_with fail;refine u.out.mono ?_;rintro e w3 ⟨er,X3,N3,M3,rfl,k7,s1,q7,s0,r2,i4,d4⟩;obtain⟨m2,_,l1,i9⟩:=V.out.2.2.1.now;have ha:=d4 m2 l1 i9;obtain rfl:er=none:=Aft.calm V.out.2.2.1.Eg (by decide) V.out.2.2.2.1 V.out.2.2.2.2 V.out.1.room ha;obtain⟨e3,v7,j3,p0,_,c6⟩:=Aft.FG V.out.1 (.inl (V.out.2.1 m2 l1)) (by exact⟨rfl,rfl,rfl,rfl⟩) ha;rw[show zT none=0 from rfl];obtain⟨W3,e3,c6⟩:∃ W3,FrA W3 N3 M3 Ur 30/\W3.broken=false:=⟨_,e3,c6.trans d7.out.1⟩;generalize (if (none:Option Int)=none then N2.given+1 else 0)=nn;have i6:0<=M3.calls:=by have:=d7.out.2.2;omega
 obtain⟨c1,o1⟩:=Mx i6;have d6:=Z (And.intro e3 (And.intro c6 (And.intro (j3.trans d7.out.2.1) o1)));have p6:M3.calls<=40:=by
  obtain⟨F3,p3,x2⟩:=e3.ni;have:=x2.Eg.calls;omega
 have l6:=Z p6;have h4:=Z k7;have p4:w3.cell? ⟨J,0,none⟩=some (.pointer (some ⟨X3.db,0,none⟩)):=k7.st.IR.cell 0;clear k7 s1 q7 s0 r2 i4 d4 l1 i9 ha e3 v7 j3 p0 c6 i6 o1 p6 v2 V d7 u;go_wp2_with fail;have l9:=Z (fun j (f:Fr Nil w3 j)=>XY (1+(ca:Int)) d3 j X3.db X3.LD M3 (h4.out.st.node.Hu.nil f));have x6:IntKind.i64.wrap (1+(ca:Int))=1+(ca:Int):=by rw[MC];omega
 have d8:Hid (∀ j,Fr Nil w3 j->j.cell? ⟨J,0,none⟩=some (.pointer (some ⟨X3.db,0,none⟩))):=fun j f=>(h4.out.nil f).st.IR.cell 0
 go_region_held3 (fun j=>j.cell? ⟨J,0,none⟩=some (.pointer (some ⟨X3.db,0,none⟩))) (first|assumption|go_keep|exact d8.out _ z8)
  (first
    | (go_at_call 46;refine(l9.out _ z8).mono ?_;rintro e w4 ⟨rfl,q0,r0⟩;have n7:Fr (fun k=>k=X3.db) w3 w4:=Fr.trans z8 r0;have j6:=Z (h4.out.turn q0 n7 (fun k Q=>Q));have x9:=j6.out.st.IR.cell 0;clear q0 r0 n7)
    | (go_at_call 21;refine(m6.out _).mono ?_;rintro e wp ⟨rfl,A4⟩;subst wp))
 have m9:Hid (FrR w J 0 c1 (1+ca) (.int .i64 0) (.string Ur) (.string {data:=#[]}) w4):=by
  have h1:=d6.out.2.2.2;have h2:=l6.out;refine⟨X3,N3,_,W3,Ur,j6.out,rfl,by decide,.inl ⟨rfl,(d6.out.1.fail _ d3 s2.1 s2.2).more (by decide),d6.out.2.1,d6.out.2.2.1,?_,?_,?_⟩⟩
  .show(if (0:Int)<1+ca then wrap64 (M3.calls+(1+ca)) else 0)=_
   rw[Mg (by omega)];unfold wrap64;omega
  .show((c1+0:Nat):Int)<=M3.calls
   omega
  .show M3.calls<(if (0:Int)<1+ca then wrap64 (M3.calls+(1+ca)) else 0)
   rw[Mg (by omega)];unfold wrap64;omega
 unfold Ur at m9;clear x9 p4 l9 d8 h4 j6 x6 d6 l6;go_wp2_with fail
 go_loopw [12,13,14,15] (fun y2 y3 y4 l4 wy=>∃ i:Nat,i<=60/\l4=.int .i64 i/\FrR w J i c1 (1+ca) y2 y3 y4 wy) (fun _ _ _ l4 _=>60-(intOf l4).toNat)
 case atStart=>exact⟨0,Me _,rfl,m9.out⟩
 case round =>
  obtain⟨i,hi,rfl,X,N,M,W,x,Q,rfl,x8,k3⟩:=hrel;have k2:∀ k,wr.cell? ⟨J,k,none⟩=(zG X.db (.pointer (some ⟨X.nb,0,none⟩)) 3 2 (.slice none 0 0))[k]?:=Q.st.IR.cell;simp only[zG] at k2;have HK:=Z Q;rcases k3 with⟨rfl,hA,b8,g0,r1,r7,r3⟩|⟨rfl,r4,y,z,rfl,hz,hA,b8,g0⟩
  .have r8:i<60:=by omega
   obtain⟨F,p,a8⟩:=hA.ni;obtain⟨m,_,hr,f1⟩:=a8.now;have d5:N.readOnly=false:=hA.ro.trans b8;have b:=Z (And.intro hA (And.intro b8 (And.intro g0 (And.intro r1 (And.intro r7 (And.intro r3 (And.intro a8 (And.intro hr f1))))))));have t1:=Z (fun j (f:Fr Nil wr j)=>R5 i (by omega) j (q.out.fr o.out (HK.out.fr.trans f) (fun _ e=>absurd e id)).1.1);have u:=Z (fun j (f:Fr Nil wr j)=>(Q.nil f).put r a8 (by omega) q.out o.out d5 zB (Zc i) (by decide) (by have:=U3 (n:=i) (by omega);omega));unfold zB at u;have t5:Hid ((Zc i).size<=128):=by have:=U3 (n:=i) (by omega);show _<=_;omega
   clear hA b8 g0 r1 r7 r3 a8 hr f1 d5 Q;go_wp2_with fail;refine(t1.out _ (O _ _)).mono ?_;rintro e wg ⟨rfl,fg⟩;have p5:wg.cell? ⟨J,1,none⟩=some (.pointer (some ⟨X.nb,0,none⟩)):=(HK.out.nil fg).st.IR.cell 1;have t3:=Z fg;clear k2 fg;go_wp2_with fail;refine(u.out _ t3.out).mono ?_;rintro e w5 ⟨er,X',N',M',rfl,h8,j1,i7,j0,i8,i4,d4⟩;have ha:=d4 m b.out.2.2.2.2.2.2.2.1 b.out.2.2.2.2.2.2.2.2;have k0:=b.out.1.one m b.out.2.2.2.2.2.2.2.1;have A3:IntKind.i64.wrap ((i:Int)+1)=(i:Int)+1:=by rw[MC];omega
   cases er with
   | none =>
    obtain⟨b1,b2,b3,b4,b5,b6⟩:=Aft.FG b.out.1.toFr0 (.inr ⟨_,k0⟩) (by exact⟨rfl,rfl,rfl,rfl⟩) ha;have e0:Hid (FrR w J (i+1) c1 (1+ca) (.int .i64 0) (.string (Zc i)) (.string (Zc i)) w5):=by
     have q2:=b.out.2.1;have q3:=b.out.2.2.1;have q4:=b.out.2.2.2.1;have q5:=b.out.2.2.2.2.1;have q6:=b.out.2.2.2.2.2.1;exact⟨X',N',M',_,Zc i,h8,rfl,t5.out,.inl ⟨rfl,b1.more (by omega),b6.trans q2,b3.trans q3,b2.trans q4,by push_cast at q5 |-;omega,by rw[b2];exact b5 q6⟩⟩
    rw[show zT none=0 from rfl];generalize (if (none:Option Int)=none then N.given+1 else 0)=n5;clear h8 j1 i7 j0 i8 i4 d4 ha k0 b1 b2 b3 b4 b5 b6 p5;go_wp2_with fail;exact⟨⟨i+1,by omega,by push_cast;rfl,e0.out⟩,by simp[intOf];omega⟩
   | some e5 =>
    obtain⟨rfl,b1,W',z,b2,b3,b4,b5⟩:=Aft.FX b.out.2.2.2.2.2.2.1 (by omega) b.out.1 b.out.2.2.2.2.2.2.2.1 (by exact⟨rfl,rfl,rfl,rfl,rfl⟩) ha;have e0:Hid (FrR w J (i+1) c1 (1+ca) (.int .i64 9) (.string x) (.string (Zc i)) w5):=by
     have q3:=b.out.2.2.1;exact⟨X',N',M',W',x,h8,rfl,x8,.inr ⟨rfl,Nat.succ_pos _,Zc i,z,rfl,b2,b3.more (by omega),b4,by rw[b1,q3];rfl⟩⟩
    rw[show zT (some 9)=9 from rfl];generalize (if (some (9:Int))=none then N.given+1 else 0)=n5;clear h8 j1 i7 j0 i8 i4 d4 ha k0 b1 b2 b3 b4 b5 p5;go_wp2_with fail;exact⟨⟨i+1,by omega,by push_cast;rfl,e0.out⟩,by simp[intOf];omega⟩
  .obtain⟨F,p,a8⟩:=hA.ni
   obtain⟨m,_,hr,f1⟩:=a8.now;obtain⟨i1,v,h7,s5,s4⟩:=(hA.one m hr).asked hr;have d5:N.readOnly=true:=hA.ro.trans b8;have b:=Z (And.intro hA (And.intro b8 (And.intro a8 (And.intro hr (And.intro f1 d5)))));have L:=Z (And.intro i1 (And.intro h7 (And.intro s5 s4)));have g4:=Vc X N M wr Q.st.node;rw[d5,i1] at g4;have g4:Calls Tryz.prog 39 #[.pointer (some ⟨X.nb,0,none⟩)] wr fun e w'=>e=.returned (.agg #[.bool true,.int .i64 1,.int .i64 N.S.hints.length])/\Fr Nil wr w':=g4;have a6:=fun j (f:Fr Nil wr j)=>WI X N M zB j (Q.nil f).st.node (by rw[i1];decide) (by rw[h7];show 1<=1000000;decide);rw[show zz zB=true by decide,h7] at a6;simp only[MP] at a6;have g1:=fun j (f:Fr Nil wr j)=>YQ j X.db X.LD M (Q.nil f).st.node.Hu;rw[g0] at g1;unfold zB at a6;have m8:=Z g4;have m0:=Z a6;have m7:=Z g1;have HZ:=Z hz;have d8:Hid (∀ j,Fr Nil wr j->j.cell? ⟨J,0,none⟩=some (.pointer (some ⟨X.db,0,none⟩))/\j.cell? ⟨J,1,none⟩=some (.pointer (some ⟨X.nb,0,none⟩))):=fun j f=>⟨(HK.out.nil f).st.IR.cell 0,(HK.out.nil f).st.IR.cell 1⟩;generalize N.S.hints.length=hl at m8;have HI:Hid (i<=60):=hi;clear hA b8 a8 hr f1 i1 h7 s5 s4 d5 g4 a6 g1 g0 hz Q;by_cases r8:i<60
   case' pos =>
    have q8:decide ((i:Int)<60)=true:=by simp;omega
    go_wp2_with fail
   case' neg =>
    have q8:decide ((i:Int)<60)=false:=by simp;omega
    go_wp2_with fail
   all_goals
    clear r8 q8 k2 hi;refine m8.out.mono ?_;rintro e w5 ⟨rfl,f5⟩;have k1:=Blk.new w5 [.bool true,.int .i64 1,.int .i64 hl] 81;have f6:Fr Nil wr (w5.alloc (.cells #[.bool true,.int .i64 1,.int .i64 hl] 81)):=f5.alloc _;obtain⟨o9,q1⟩:=d8.out _ f6;have l2:=k1.cell;have h0:=Z k1;have h3:=Z f6;clear k1 f6 f5;go_wp2_with fail;generalize w5.alloc (.cells #[.bool true,.int .i64 1,.int .i64 hl] 81)=w6 at o9 q1 l2 h0 h3 |-;generalize w5.heap.size=bs at l2 h0 |-;refine(m0.out _ h3.out).mono ?_;rintro e w7 ⟨lv,rfl,hv,f7,-⟩;obtain⟨g,A2,rfl,-,-⟩:=zq hv (by simp);have h6:∀ j,Fr Nil w7 j->j.cell? ⟨g,6,none⟩=some (.string v.value):=fun j f=>own_cell? (za hv f (fun _ _=>id)) 6 _ rfl;rw[L.out.2.2.1] at h6;have z5:=Z h6;have x4:=(h0.out.fr f7 id).cell;have j5:=Z (h3.out.trans f7);obtain⟨t8,v3⟩:=d8.out _ j5.out;have x5:=h6 w7 (O _ _);clear o9 q1 l2 h0 h3 f7 hv h6;simp only[NU];have y0:z.toList=x.toList\/(¬z.toList=x.toList/\z.toList=y.toList/\¬y.toList=x.toList):=by
     by_cases h:z.toList=x.toList
     .exact .inl h
     .have hzy:z=y:=HZ.out.resolve_left (fun e=>h (by rw[e]))
      exact .inr ⟨h,by rw[hzy],fun e=>h (by rw[hzy];exact e)⟩
    rcases y0 with s7|⟨s7,A5,A6⟩
    all_goals
     go_wp2_with (refine(m7.out _ j5.out).mono ?_;rintro e j ⟨rfl,x7⟩;subst j)
    all_goals
     clear s7 x4 x5 t8;have t4:=Z (HK.out.nil j5.out);have HP:=Z (t4.out.FJ r b.out.2.2.1 q.out o.out b.out.2.2.2.2.2 zB WX (by decide) (by decide));unfold zB WX at HP;refine HP.out.mono ?_;rintro e w8 ⟨X8,rfl,h9,i2,v4⟩;have t9:w8.cell? ⟨J,1,none⟩=some (.pointer (some ⟨X.nb,0,none⟩)):=by rw[<- i2];exact h9.st.IR.cell 1
     have z3:=Z (And.intro h9 i2);have HD:=Z (h9.GY r q.out o.out b.out.2.2.2.2.2 zB (by decide));rw[i2] at HD;unfold zB at HD;clear h9 i2 v4 HP v3;go_wp2_with fail;refine HD.out.mono ?_;rintro e w9 ⟨X9,rfl,i0,i3,v5⟩;have v0:w9.cell? ⟨J,1,none⟩=some (.pointer (some ⟨X.nb,0,none⟩)):=by rw[<- i3];exact i0.st.IR.cell 1
     have z4:=Z (And.intro i0 i3);have g3:N.self=3:=by
      have h1:=b.out.2.2.1.self;have h2:=b.out.1.node;rw[h2] at h1;omega
     have HH:=Z (i0.Fz r q.out o.out b.out.2.2.2.2.2 0 {data:=#[120]} (by decide) (by rw[g3];decide) (by decide) (by decide));rw[i3] at HH;clear i0 i3 v5 g3 HD t9;go_wp2_with fail;refine HH.out.mono ?_;rintro e y5 ⟨A0,rfl,e7,f3,p7⟩;have o2:y5.cell? ⟨J,1,none⟩=some (.pointer (some ⟨X.nb,0,none⟩)):=by rw[<- f3];exact e7.st.IR.cell 1
     have HA:=Z (e7.FF r q.out o.out b.out.2.2.2.2.2);rw[f3] at HA;clear e7 f3 p7 HH v0;go_wp2_with fail;refine HA.out.mono ?_;rintro e y6 ⟨A1,rfl,e8,f4,p8⟩;have o3:y6.cell? ⟨J,1,none⟩=some (.pointer (some ⟨X.nb,0,none⟩)):=by rw[<- f4];exact e8.st.IR.cell 1
     have HS:=Z (e8.Fw r q.out o.out b.out.2.2.2.2.2);rw[f4] at HS;clear e8 f4 p8 HA o2;go_wp2_with fail;refine HS.out.mono ?_;rintro e s8 ⟨e1,rfl,c8,d1,p9⟩;have o4:s8.cell? ⟨J,1,none⟩=some (.pointer (some ⟨X.nb,0,none⟩)):=by rw[<- d1];exact c8.st.IR.cell 1
     have HM:=Z (OV e1 N M s8 c8.st.node b.out.2.2.2.2.2);rw[d1] at HM;have d9:=Z (And.intro c8 d1);clear c8 d1 p9 HS o3;go_wp2_with fail;refine HM.out.mono ?_;rintro e s9 ⟨rfl,n2⟩;have c9:=d9.out.1.nil n2;have o5:s9.cell? ⟨J,1,none⟩=some (.pointer (some ⟨X.nb,0,none⟩)):=by rw[<- d9.out.2];exact c9.st.IR.cell 1
     have b0:Y3 (zt N.S.keys zB) z=true:=by
      rw[L.out.2.1];unfold Y3;simp[L.out.2.2.1,L.out.2.2.2]
     have d:=Xt e1 N M zB z s9 c9.st.node (by decide) (by rw[L.out.1];decide) (by rw[L.out.2.1];show 1<=1000000;decide);rw[b0,d9.out.2] at d;unfold zB at d;have A:=Z d;have m3:=Z c9;clear o4 n2 c9 b0 d HM;go_wp2_with fail;refine A.out.mono ?_;rintro e y7 ⟨rfl,n3⟩;have E:=m3.out.nil n3;have s6:W.node=((3:Nat):Int):=b.out.1.node;have r5:=HI.out;have Y:=Z (WW r B J e1.db 3 2 (.pointer (some ⟨e1.nb,0,none⟩)) (.slice none 0 0) W e1.LD M c 0 (40+10*i) y7 E.closed (q.out.fr o.out E.fr (fun _ e=>absurd e id)) (NR o.out E.fr.size) (NR o.out E.low) (fun k Q=>NR o.out (E.new k (.inr (.inr (.inr Q))))) ⟨F,p,b.out.2.2.1.sh⟩ (by omega) s6 (by decide) (by decide) hc ⟨by decide,by decide⟩);have c4:=Z E;clear o5 n3 E s6 A;go_wp2_with fail;refine Y.out.mono ?_;rintro e l5 ⟨rfl,a9⟩;obtain⟨j8,h5,t6,z9,a7,⟨z0,A8,G⟩,c3,S,a0⟩:=Kpt.std c4.out.fr c4.out.low c4.out.st.IR.lt (fun k Q=>c4.out.new k (.inr (.inr (.inr Q)))) a9;have c5:=FrA.opened b.out.1 c3 G S;obtain⟨l3,_,d2,f2⟩:=G.now;obtain⟨e9,B0,c0,g8,g6⟩:=(c5.one l3 d2).asked d2;have b0:Y3 (zt h5.S.keys zB) z=true:=by
      rw[c0];unfold Y3;simp[g8,g6]
     have d:=Xt j8 h5 t6 zB z l5 a7.st.node (by decide) (by rw[e9];decide) (by rw[c0];show 1<=1000000;decide);rw[b0] at d;unfold zB at d;have A:=Z d;have o6:l5.cell? ⟨J,1,none⟩=some (.pointer (some ⟨j8.nb,0,none⟩)):=a7.st.IR.cell 1;have g2:h5.readOnly=false:=by rw[c5.ro];exact c3.GR.2.2.2.1
     have v8:=r5;have u:=Z (fun j (f:Fr Nil l5 j)=>(a7.nil f).put r G (by omega) q.out o.out g2 zB WX (by decide) (by decide));unfold zB WX at u;have R:=Z (And.intro c5 (And.intro G (And.intro d2 (And.intro f2 (And.intro S a0)))));have m4:=Z a7;clear a9 Y c3 c5 G d2 f2 e9 c0 g8 g6 b0 d g2 S a0 a7;go_wp2_with fail;refine A.out.mono ?_;rintro e y8 ⟨rfl,j9⟩;have o7:y8.cell? ⟨J,1,none⟩=some (.pointer (some ⟨j8.nb,0,none⟩)):=(m4.out.nil j9).st.IR.cell 1;have l7:=Z j9;clear j9 o6 A;go_wp2_with fail;refine(u.out _ l7.out).mono ?_;rintro e t0 ⟨er,n1,n0,t7,rfl,d0,k9,k4,k8,k5,l0,e6⟩;have e4:=e6 l3 R.out.2.2.1 R.out.2.2.2.1;obtain rfl:er=none:=Aft.calm R.out.2.1.Eg (by omega) R.out.2.2.2.2.1 R.out.2.2.2.2.2 R.out.1.room e4;obtain⟨e2,_⟩:=Aft.FG R.out.1.toFr0 (.inr ⟨_,R.out.1.one l3 R.out.2.2.1⟩) (by exact⟨rfl,rfl,rfl,rfl⟩) e4;obtain⟨z2,A9,f8⟩:=e2.ni;obtain⟨y1,_,f9,_⟩:=f8.now;obtain⟨f0,B1,c2,g9,g7⟩:=(e2.one y1 f9).asked f9;have b0:Y3 (zt n0.S.keys zB) WX=true:=by
      rw[c2];unfold Y3;simp[g9,g7,WX]
     have d:=Xt n1 n0 t7 zB WX t0 d0.st.node (by decide) (by rw[f0];decide) (by rw[c2];show 1<=1000000;decide);rw[b0] at d;unfold zB WX at d;have A:=Z d;have o8:t0.cell? ⟨J,1,none⟩=some (.pointer (some ⟨n1.nb,0,none⟩)):=d0.st.IR.cell 1;have t2:=Z d0.fr;rw[show zT none=0 from rfl];generalize (if (none:Option Int)=none then h5.given+1 else 0)=A7;clear d0 k9 k4 k8 k5 l0 e6 e4 e2 f8 f9 f0 c2 g9 g7 b0 d o7;go_wp2_with fail;refine A.out.mono ?_;rintro e B2 ⟨rfl,n4⟩;have l8:=Z (t2.out.trans n4);clear n4 o8 A;go_wp2_with fail;go_ret;exact⟨rfl,l8.out⟩
end Go.Proofs.YtkhnggkkiefcdaaGreatDoor
