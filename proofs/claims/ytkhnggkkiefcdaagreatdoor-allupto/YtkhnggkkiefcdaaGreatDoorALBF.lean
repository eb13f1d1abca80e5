/- larder: joined texts -/
import Derived.Test.YtkhnggkkiefcdaaGreatDoorALBE
namespace Go.Proofs.YtkhnggkkiefcdaaGreatDoor
open Go.RowKit Proofs.Tryz
set_option maxRecDepth 100000
set_option maxHeartbeats 8000000
variable{S K A:Nat->Prop}{w d:World}{l:List Fact}{L:WL}{N:NM}{M:DM}{y:Lay}{p t B:Nat}{c a:DL}{b:Int}{W:WM}{X:NL}
theorem Zy.kept{o:World}{j:Value}(h:Zy w j l)(f:Fr S w o)(g:∀ k t,Ty w k t->t=165\/t=37->¬S k):Zy o j l:=by
 obtain⟨q,s,a,e,m,u,x,y⟩:=h;refine⟨q,s,a,e,ze m f (fun i c=>g i _ (zr m c) (.inl rfl)),u,x,fun i c=>?_⟩;obtain⟨A,d,b⟩:=y i c;exact⟨A,d,b.kept f (fun k r=>g k _ r (.inr rfl))⟩
def V8(w:World)(a:Nat):Nat:=match w.cell? (Y a 1) with
 | some (.slice _ n _)=>n
 | _=>0
def NM.pI(N:NM)(m:MgM):Bool:=decide (N.S.uR.length+N.S.uU.length+4<=m.uS+1)
structure Mwr(L:NL)(N:NM)(M:DM)(y:Lay)(p t k0:Nat)(m:MgM)(i f mb:Nat)(w:World)(done left:List Fact)(Li:NL)(Mi:DM)(wi:World):Prop where
 st:NStep L M w Li {N with mg:=some ⟨m.number,done,left,m.uS+1⟩} Mi wi
 mv:Li.mv=E mb 0
 lk:Lk Mi y p t (k0+(m.left.length-left.length))
 mx:Mgx Mi y ⟨m.number,done,left,m.uS+1⟩ i f
 len:left.length<=m.left.length
 all:done++left=m.done++m.left
 go:left.length=m.left.length\/N.pI m=true
 rD:Ans M Mi none
 room:Mi.room=M.room
 tL:Mi.tL=M.tL
 uX:Mi.uX=M.uX
 uZ:Mi.uZ=M.uZ
 tB:Mi.tB=M.tB
def Mgo(L:NL)(N:NM)(M:DM)(y:Lay)(p t o:Nat)(m:MgM)(i f:Nat)(w:World)(e:Ending)(k:World):Prop :=
 ∃ fin c v l h b a g,e=.returned (.tuple #[.bool fin,v])/\ERep k v c/\NStep L M w l {N with J:=h,mg:=b} a k/\Lg a g p (t+2)/\g.F=y.F/\Ans M a c/\a.room=M.room/\a.tL=M.tL/\(c=some 10->M.room<2100000000000000) /\
  ((c≠none/\fin=false) \/
    (c=none/\fin=false/\g=y/\h=N.J/\a.uX=M.uX/\a.uZ=M.uZ/\a.tB=M.tB/\N.pI m=false/\Lk a y p t (o+1)/\∃ d j,b=some ⟨m.number,d,j,m.uS+1⟩/\Mgx a y ⟨m.number,d,j,m.uS+1⟩ i f/\j.length+1=m.left.length/\d++j=m.done++m.left) \/
    (c=none/\fin=true/\b=none/\g.new=none/\h.limit=N.J.limit/\(Jl N.J M y->Jl h a g)/\(m.left=[]\/N.pI m=true)/\a.sW=(zK (m.done++m.left)).length+((y.G.drop i).map fun e=>(ZI e.2.2).length).sum))
theorem Mwr.nW{L:NL}{r:Nat}{m:MgM}{i f j:Nat}{done left:List Fact}{c:NL}{k:DM}{b:World}(h:Mwr L N M y p t r m i f j w done left c k b)(g:N.uW=false) :
 ∃ a d,Blk b j [E a 0,d,I (m.uS+1:Nat)] 201/\Blk b a [E c.jb 0,I m.number] 250/\Zy b d left:=by
 have hm:MRp b c.mv c.jb (if N.uW=true then none else some ⟨m.number,done,left,m.uS+1⟩):=h.st.th.oe;rw[CW (by rw[g];decide)] at hm;obtain⟨s,a,d,e,l,o,q⟩:=hm;rw[h.mv] at e;simp only[vw,BZ,vX,uP] at e;subst e;exact⟨a,d,l,o,q⟩
theorem Re(B:Nat)(L:NL)(N:NM)(M:DM)(y:Lay)(p t k0:Nat)(m:MgM)(i f:Nat)(w:World)(h:NRep w L N M)(c3:Yr B w)(hB:B<=w.heap.size)(a8:∀ k,NFoot L M k->B<=k)(a2:N.uW=false)(f0:N.mg=some m)(hl:Lk M y p t k0)(j0:k0+m.left.length<=980950)(g:Mgx M y m i f)(ht:t<=980000)
 (G:N.S.uR.length<1000000000)(hh:N.S.uU.length<1000000)(i9:m.uS<1000000000)(f2:m.number<1000000000000) :
 Calls prog 89 #[E L.nb 0] w (Mgo L N M y p t k0 m i f w):=by
 have hm:MRp w L.mv L.jb (if N.uW=true then none else N.mg):=h.oe;rw[CW (by rw[a2];decide),f0] at hm;obtain⟨o,C,lv,b9,a6,c8,b1⟩:=hm;have h7:=hl.fl;have i1:=(YW y i).length_le;have f1:=g.len;rw[CN] at f1;have d0:w.cell? (Y L.nb 6)=some (E o 0):=by have:w.cell? (Y L.nb 6)=some L.mv:=h.td.cell 6;rw[b9] at this;exact this
 have g9:w.cell? (Y o 2)=some (I m.uS):=a6.cell 2;have i4:=a6.frozen;have j1:IntKind.i64.wrap ((m.uS:Int)+1)=(m.uS:Int)+1:=by rw[Bu];omega
 have fs:Fr (fun k=>k=o) w (w.setCell (Y o 2) (I ((m.uS:Int)+1))):=Fr.set (S:=fun k=>k=o) (p:=⟨o,2,none⟩) (U _ _) (fun _=>rfl) _;have j:∀ {k t},Ty w k t->t≠201->¬k=o:=fun ht hn e=>by subst e;exact hn (ht.inj a6.ty)
 have e2:MRp (w.setCell (Y o 2) (I ((m.uS:Int)+1))) L.mv L.jb (some ⟨m.number,m.done,m.left,m.uS+1⟩):=by
  refine⟨o,C,lv,b9,by have:=a6.set 2 (I ((m.uS:Int)+1));simpa using this,c8.fr fs (j c8.ty O),?_⟩;obtain⟨g',k',e0,i5,q1,q2,q3,q4⟩:=b1;refine⟨g',k',e0,i5,ze q1 fs (fun i hi=>j (zr q1 hi) O),q2,q3,fun i hi=>?_⟩;obtain⟨u',i2,h6⟩:=q4 i hi;exact⟨u',i2,h6.kept fs (fun k G=>j G O)⟩
 have e1:=h.sf.fr fs (fun k G=>by
  obtain⟨t,ht,hd⟩:=h.sf.ty G;unfold DTy at hd;refine j ht ?_;rcases hd with rfl|rfl|rfl|rfl|rfl <;> decide)
 have f3:=NStep.qS (mg:=some ⟨m.number,m.done,m.left,m.uS+1⟩) h a2 b9 (fs.mono (fun _ _ e=>.inl e)) e1 (fun k G=>.inl G) e2;have e3:Mwr L N M y p t k0 m i f o w m.done m.left {L with LD:=L.LD} M (w.setCell (Y o 2) (I ((m.uS:Int)+1))) :=
  ⟨f3,b9,by rw[wN,AM];exact hl,⟨g.new,g.lt,g.yi,g.old,g.qy,g.lo,g.hi,g.bytes,g.ok,g.held,g.rS,g.len⟩,CP _,rfl,.inl rfl,Ans.refl M,rfl,rfl,rfl,rfl,rfl⟩
 have d9:=Z e3;have u:=Z (And.intro c3 (And.intro hB a8));have d6:=Z (And.intro G hh);have i8:m.left.length<=980040:=V
 clear h f0 a6 c8 b1 fs j e2 e1 f3 e3 c3 hB a8 hl g f1 i1 h7;go_enter func89,ntmps89;go_wp2_with fail;generalize w.setCell (Y o 2) (I ((m.uS:Int)+1))=w1 at d9 |-;clear d0 g9 i4
 go_loopw [5] (fun _ w'=>∃ done left v Mi,Mwr L N M y p t k0 m i f o w done left v Mi w') (fun _ w'=>V8 w' o)
 case atStart=>exact⟨m.done,m.left,_,M,d9.o⟩
 case round =>
  obtain⟨done,left,v,Mi,A⟩:=hrel;obtain⟨C,lv,hb,a7,a1⟩:=A.nW a2;have b:=Z A;have c9:wr.cell? (Y o 1)=some lv:=hb.cell 1;cases left with
  | nil =>
   obtain⟨a,c,rfl⟩:∃ a c,lv=.slice a 0 c:=by obtain⟨_,_,_,_,_,_,q,_⟩:=a1;exact q rfl
   have D:=A.lk;rw[BU,Nat.sub_zero] at D;obtain⟨l,f5,e5,e6,e4,J4,M4,y4,q0,q1,q2,q3,q4,q5,q6,q7⟩:=Ca (J:=N.J) D A.mx rfl ht V;have b2:∀ k,NFoot v Mi k->B<=k:=fun k G=>(A.st.sd k G).elim (u.o.2.2 k) (fun e=>CO u.o.2.1 e);have d3:Yr B wr:=u.o.1.fr u.o.2.1 A.st.fr u.o.2.2;have a4:B<=wr.heap.size:=CO u.o.2.1 A.st.fr.size;have c6:=Z (SU C v.jb v.db m.number N.J v.LD Mi l wr a7 A.st.th.qb A.st.th.sf f2 (fun w' f'=>(d3.fr a4 f' (fun _ e=>absurd e id)).1.1) (fun wx fx=>RG v.jb v.db N.J v.LD Mi (zt true m.number) l wx (Blk.fr A.st.th.qb fx id) (A.st.th.sf.nil fx) e5 e6 (fun h1 h2 wy LX hd f _=>by
    have j:Yr B wy:=(d3.fr a4 fx (fun _ e=>absurd e id)).fr (CO a4 fx.size) f (fun k e=>by
     rcases e with e|e
     .exact b2 k (.inr (.inl e))
     .exact b2 k (.inr (.inr (.inr (.inl e)))))
    have g3:B<=wy.heap.size:=CO (CO a4 fx.size) f.size;exact f5 h1 h2 v.db LX wy hd (fun w' f'=>(j.fr g3 f' (fun _ e=>absurd e id)).1.1) j.2.1)))
   rw[q0] at c6;have g8:wr.cell? (Y o 0)=some (E C 0):=hb.cell 0;have d:=Z (And.intro q1 (And.intro q2 (And.intro q3 (And.intro q4 (And.intro q5 (And.intro q6 q7))))));clear A hb a7 a1 D f5 e5 e6 q0 q1 q2 q3 q4 q5 q6 q7 b2 d3 a4;go_wp2_with fail;refine c6.o.mono ?_;rintro e w3 ⟨v3,L3,rfl,hE,e7⟩;have s:=b.o.st.trans (NStep.rO b.o.st.th e7);have T:=Z s;have HE:=Z hE;have R:=b.o.st.same.nb;clear e7 g8 c6 c9;cases e4 with
   | some n =>
    obtain⟨k,a9⟩:=hE;obtain⟨t5,b5,rfl⟩:=a9.form;clear a9 s;go_wp2_with fail;go_ret2;refine⟨false,some n,_,{v with LD:=L3},J4,some ⟨m.number,done,[],m.uS+1⟩,M4,y4,rfl,HE.o,T.o,d.o.1,d.o.2.1,b.o.rD.trans d.o.2.2.1,d.o.2.2.2.1.trans b.o.room,d.o.2.2.2.2.1.trans b.o.tL,fun e=>absurd e d.o.2.2.2.2.2.1,.inl ⟨bG,rfl⟩⟩
   | none =>
    have hv:v3=.nilIface:=hE;subst hv;have d0:=s.th.td.cell;have i3:=s.th.td.frozen;simp only[R] at d0 i3;have c4:=Z (s.nx (N:={N with J:=J4,mg:=some ⟨m.number,done,[],m.uS+1⟩}) a2 (.pointer none) none rfl (fun k e=>by cases e));clear s hE;go_wp2_with fail;go_ret2;have b4:=c4.o;simp only[R] at b4;obtain⟨h1,h2,h3,h4⟩:=d.o.2.2.2.2.2.2 trivial;have c1:=b.o.all;rw[Bz] at c1;refine⟨true,none,_,_,J4,none,M4,y4,rfl,rfl,b4,d.o.1,d.o.2.1,b.o.rD.trans d.o.2.2.1,d.o.2.2.2.1.trans b.o.room,d.o.2.2.2.2.1.trans b.o.tL,(fun e=>by cases e),.inr (.inr ⟨rfl,rfl,rfl,h1,h2,fun hj=>h3 ?_,?_,?_⟩)⟩
    .unfold Jl at hj |-
     rw[b.o.uX,b.o.uZ,b.o.tB];exact hj
    .rcases b.o.go with e|e
     .exact .inl (BH e.symm)
     .exact .inr e
    .rw[h4]
     show(zK done).length+_=_;rw[c1]
  | cons x left =>
   obtain⟨g0,j2,c0,u0,d1,i7,-,-,-,-⟩:=a1.cons;subst d1;have D:=A.lk;have e8:=A.len;rw[Bh] at e8;obtain⟨r,M',q1,q2,q3,q4,q5,q6,q7,q8,q9,f7⟩:=Ej D A.mx rfl V V;have f6:=A.mx.ok x bG;have c7:=Z (RT o C v.jb v.db m.number (m.uS+1) N.J v.LD Mi x left _ wr hb a7 a1 A.st.th.qb A.st.th.sf D.bd.part f6.1.1.1 V (fun f hf=>by have:=D.bd.uV hf;omega) V);rw[q1] at c7;have d:=Z (And.intro q2 (And.intro q3 (And.intro q4 (And.intro q5 (And.intro q6 (And.intro q7 (And.intro q8 (And.intro q9 f7))))))));have d5:=Z a7;have g1:=Z a1;have i0:=hb.ty;have g4:aa (V8 wr o=left.length+1):=by show V8 wr o=_;unfold V8;rw[c9]
   have R:=b.o.st.same.nb;clear A hb a7 a1 D q1 q2 q3 q4 q5 q6 q7 q8 q9 f7 f6;go_wp2_with fail;refine c7.o.mono ?_;rintro e w3 ⟨v3,L3,d4,rfl,hE,b7,a0,Q,X,b8,b0⟩;have j:∀ {k t},Ty wr k t->¬DTy t->t≠201->¬(k=o\/Foot v.db v.LD Mi k):=fun {k t} G h5 hj hf=>by
    rcases hf with hf|hf
    .subst hf;exact hj (G.inj i0)
    .exact b.o.st.th.sf.apart G h5 hf
   have K:=d5.o.fr a0 (j d5.o.ty ae O);have HE:=Z hE;clear c7 c9;by_cases h0:r=0
   .have he0:zT r=none:=by unfold zT;rw[Bl h0]
    rw[he0] at hE HE d;have hv:v3=.nilIface:=hE;subst hv;have s:=NStep.qS (mg:=some ⟨m.number,done++[x],left,m.uS+1⟩) b.o.st.th a2 b.o.mv a0 b7 Q ⟨o,C,d4,b.o.mv,X,K,b8 h0⟩;have b3:=b.o.st.trans s;have T:=Z b3;have d8:=Z (d.o.2.2.2.2.2.2.2.2 h0);have f8:=Z X;have f9:=Z (b8 h0);have a3:=Z (Pb {v with LD:=L3} {N with mg:=some ⟨m.number,done++[x],left,m.uS+1⟩} M' o C d4 (m.uS+1) w3 b3.th b.o.mv X d6.o.1 d6.o.2);rw[show({v with LD:=L3}:NL).nb=L.nb from R] at a3;have e9:decide (N.S.uR.length+N.S.uU.length+4<=m.uS+1)=N.pI m:=rfl;have d7:=Z e9;clear hE HE s b3 X b8 b0 b7 a0 Q K j h0 he0 e9;cases hmu:N.pI m with
    | true =>
     have b6:=Z hmu;have d2:aa (∀ _:World,Calls prog 137 #[E L.nb 0] w3 fun e w'=>e=.returned (.bool true)/\Fr Nil w3 w'):=fun _=>by have:=a3.o;rw[show decide ((({N with mg:=some ⟨m.number,done++[x],left,m.uS+1⟩}:NM)).S.uR.length+(({N with mg:=some ⟨m.number,done++[x],left,m.uS+1⟩}:NM)).S.uU.length+4<=m.uS+1)=true from d7.o.trans hmu] at this;exact this
     clear a3 hmu;go_wp2_with fail;refine(d2.o w3).mono ?_;rintro e w4 ⟨rfl,f4⟩;have b4:=T.o.tR f4;have h9:V8 w4 o=left.length:=by
      have g6:=f8.o.fr f4 id;have g7:w4.cell? (Y o 1)=some d4:=g6.cell 1;unfold V8;rw[g7];obtain⟨g5,k5,i6,j3,p1,p2,p3,p4⟩:=f9.o;by_cases hn:left=[]
      .obtain⟨a5,c5,rfl⟩:=p3 hn
       rw[hn];rfl
      .rw[p2 hn]
     have g2:aa (Mwr L N M y p t k0 m i f o w (done++[x]) left {v with LD:=L3} M' w4) :=
      ⟨b4,b.o.mv,by have:=d.o.1;rw[Bh] at this;rw[show k0+(m.left.length-left.length)=k0+(m.left.length-(left.length+1))+1 from V];exact this,d8.o,V,by rw[<- b.o.all];simp,.inr b6.o,b.o.rD.trans d.o.2.1,d.o.2.2.1.trans b.o.room,d.o.2.2.2.1.trans b.o.tL,d.o.2.2.2.2.1.trans b.o.uX,d.o.2.2.2.2.2.1.trans b.o.uZ,d.o.2.2.2.2.2.2.1.trans b.o.tB⟩
     clear b4 f4;go_wp2_with fail;exact⟨⟨_,_,_,_,g2.o⟩,by rw[h9,g4.o];omega⟩
    | false =>
     have b6:=Z hmu;have d2:aa (∀ _:World,Calls prog 137 #[E L.nb 0] w3 fun e w'=>e=.returned (.bool false)/\Fr Nil w3 w'):=fun _=>by have:=a3.o;rw[show decide ((({N with mg:=some ⟨m.number,done++[x],left,m.uS+1⟩}:NM)).S.uR.length+(({N with mg:=some ⟨m.number,done++[x],left,m.uS+1⟩}:NM)).S.uU.length+4<=m.uS+1)=false from d7.o.trans hmu] at this;exact this
     clear a3 hmu;go_wp2_with fail;refine(d2.o w3).mono ?_;rintro e w4 ⟨rfl,f4⟩;have c4:=Z (T.o.tR f4);clear f4;go_wp2_with fail;go_ret2;have h8:left.length+1=m.left.length:=by
      rcases b.o.go with e|e
      .rw[Bh] at e;exact e
      .rw[b6.o] at e;cases e
     refine⟨false,none,_,_,N.J,some ⟨m.number,done++[x],left,m.uS+1⟩,M',y,rfl,rfl,c4.o,d.o.1.qp V,rfl,b.o.rD.trans d.o.2.1,d.o.2.2.1.trans b.o.room,d.o.2.2.2.1.trans b.o.tL,(fun e=>by cases e),.inr (.inl ⟨rfl,rfl,rfl,rfl,d.o.2.2.2.2.1.trans b.o.uX,d.o.2.2.2.2.2.1.trans b.o.uZ,d.o.2.2.2.2.2.2.1.trans b.o.tB,b6.o,by have:=d.o.1;rw[Bh,show k0+(m.left.length-(left.length+1))+1=k0+1 from V] at this;exact this,_,_,rfl,d8.o,h8,by rw[<- b.o.all];simp⟩)⟩
   .have he0:zT r=some r:=by unfold zT;rw[CW h0]
    rw[he0] at hE HE d;have d1:=b0 h0;subst d1;have c2:=g1.o.kept a0 (fun k t G ht=>by
     rcases ht with rfl|rfl
     .exact j G ae O
     .exact j G ae O)
    have s:=NStep.qS (mg:=some ⟨m.number,done,x::left,m.uS+1⟩) b.o.st.th a2 b.o.mv a0 b7 Q ⟨o,C,_,b.o.mv,X,K,c2⟩;have T:=Z (b.o.st.trans s);obtain⟨k,a9⟩:=hE;obtain⟨t5,b5,rfl⟩:=a9.form;clear a9 s c2 X b8 b0 b7 a0 Q K j h0 he0;go_wp2_with fail;go_ret2;refine⟨false,some r,_,_,N.J,some ⟨m.number,done,x::left,m.uS+1⟩,M',y,rfl,HE.o,T.o,d.o.1.qp V,rfl,b.o.rD.trans d.o.2.1,d.o.2.2.1.trans b.o.room,d.o.2.2.2.1.trans b.o.tL,fun e=>by have:=d.o.2.2.2.2.2.2.2.1 e;rw[b.o.room] at this;exact this,.inl ⟨bG,rfl⟩⟩
theorem El{K:Keys}{a:ByteArray}(l:List Ver)(h:∀ x∈K,zi x.1 a=true):Ya K a l=K++[(a,l)]:=by
 have b:low zi (K.map Prod.fst) a=K.length:=VX _ _ _ _ bG (fun k c _=>by rw[BB];exact h _ (CU _)) (fun c=>absurd c bG);unfold Ya;rw[b,V7 (by rw[b];simp),CW O,Bj,vd,Bz]
theorem Rf:∀(b:Keys)(S:SM),ZR (S.uR++b)->(∀ e∈b,e.2≠[])->(b.map (fun e=>(.inr (.inl e):Fact))).foldl SM.enter S={S with uR:=S.uR++b}
 | [],S,_,_=>bG
 | (a,l)::b,S,h,c=>by
  have d:S.enter (.inr (.inl (a,l)))={S with uR:=S.uR++[(a,l)]}:=by
   show S.holds a l=_;unfold SM.holds;rw[CW (c (a,l) (CY ..)),El];intro x g;unfold ZR at h;rw[Bq] at h;exact(AW.1 h).2.2 x.1 (BW g) a bG
  rw[Bw,BX,d,Rf b _ aE (fun e f=>c e (CT _ f))];simp
theorem TM:∀(hs:List (Nat × ByteArray))(S:SM),(hs.map (fun h=>(.inr (.inr (.inl h)):Fact))).foldl SM.enter S={S with uU:=S.uU++hs}
 | [],S=>bG
 | h::hs,S=>by
  rw[Bw,BX,show S.enter (.inr (.inr (.inl h)))={S with uU:=S.uU++[h]} from rfl,TM hs];simp
theorem Rg{S:SM}(h:Zc S):S.rf.foldl SM.enter SM.nil=S:=by
 unfold SM.rf;rw[BX,BM,Rf S.uR _ (by show ZR ([]++S.uR);rw[Ba];exact h.rp) h.some,TM]
 rfl
theorem Em{S:SM}(h:Zc S)(c:S.tm<9223372036854775808):∀ x∈S.rf,Yb x/\(zj x).size<=2000:=by
 intro x b;unfold SM.rf at b;simp only[BC,CV,Bb] at b;rcases b with rfl|⟨e,a,rfl⟩|⟨e,a,rfl⟩
 .exact⟨UX c,Gc c⟩
 .have:=h.key e a
  exact⟨Wh (h.tT e a) this.2.2 V,Xl (h.tT e a) this.2.2 V⟩
 .have:=h.tZ e a
  exact⟨Uy V this.2,Wg V this.2⟩
theorem Rh:∀(a:List Fact)(S:SM),(∀ x∈a,x≠.inr (.inr (.inr ())))->S.uU.length<=(a.foldl SM.enter S).uU.length
 | [],_,_=>CP _
 | x::a,S,h=>by
  refine CO ?_ (Rh a (S.enter x) (fun y b=>h y (CT _ b)));rcases x with n|e|e|e
  .exact CP _
  .exact CP _
  .show _<=(S.uU++[e]).length
   rw[CN];omega
  .exact absurd rfl (h _ (CY ..))
theorem Fb{S:SM}(h:Zc S)(k:Nat):((S.rf.take k).foldl SM.enter SM.nil).uU.length<=32:=by
 have b:=Rh (S.rf.drop k) ((S.rf.take k).foldl SM.enter SM.nil) (fun x a=>by
  have a:=Bx a;unfold SM.rf at a;simp only[BC,CV,Bb] at a;rcases a with rfl|⟨e,c,rfl⟩|⟨e,c,rfl⟩ <;> (intro e;cases e))
 rw[<- BM,Bo,Rg h] at b;exact CO b h.qT
theorem Fc{S:SM}(h:Zc S){F:List Fact}(b:S=F.foldl SM.enter SM.nil):S.rf.length<=F.length+40:=by
 have a:=Wz F SM.nil;rw[<- b] at a;have c:=h.qT;have d:SM.nil.uR.length=0:=rfl;unfold SM.rf;simp only[Bh,CN,Bm];omega
theorem En{J:JM}(h:Lg M y p t)(q:Jl J M y)(s:y.new=none)(u:t+4<=1000000){S:SM}(l:S=y.F.foldl SM.enter SM.nil)(a:Zc S)(r:S.tm<9223372036854775808)
 (f g:Nat)(m:f∉M.tL)(o:g∉(J.begin M (J.tu+2) f).2.2.tL) :
 ∃ e d b c,J.rl M f g=(e,d,b)/\Lg b c p (t+3)/\c.F=y.F/\Ans M b e/\b.room=M.room/\(∀ k∈b.tL,k=f\/k=g\/k∈M.tL)/\b.sW=M.sW/\e≠some 10 /\
  (e=none->Jl d b c/\d.limit=J.limit/\∃ i f,Mgx b c ⟨J.tu+1,[],S.rf,1⟩ i f/\∃ n j,c.G.drop i=[(n,j,([],[]))]) :=
 C9 h q s u S.rf (Em a r) (by rw[Rg a,l]) (Fb a) (Fc a l) f g m o
def Mst(N:NM)(y:Lay)(p t h i f:Nat)(fin:Bool)(a:Option MgM)(b:DM)(g:Lay):Prop :=
 (N.mg=none/\fin=false/\a=some ⟨N.J.tu+1,[],N.S.rf,1⟩/\∃ i f,Mgx b g ⟨N.J.tu+1,[],N.S.rf,1⟩ i f/\∃ n j,g.G.drop i=[(n,j,([],[]))]) \/
 (∃ m d c,N.mg=some m/\fin=false/\N.pI m=false/\g=y/\Lk b y p t (h+1)/\a=some ⟨m.number,d,c,m.uS+1⟩/\Mgx b y ⟨m.number,d,c,m.uS+1⟩ i f/\c.length+1=m.left.length/\d++c=m.done++m.left) \/
 (∃ m,N.mg=some m/\fin=true/\a=none/\(m.left=[]\/N.pI m=true)/\b.sW=(zK (m.done++m.left)).length+((y.G.drop i).map fun e=>(ZI e.2.2).length).sum)
structure Mgw(L:NL)(N:NM)(M:DM)(y:Lay)(p t k0 i f:Nat)(w:World)(fin:Bool)(er:Option Int)(L':NL)(J':JM)(mg':Option MgM)(M':DM)(y':Lay):Prop where
 lg:Lg M' y' p (t+3)
 F:y'.F=y.F
 rD:Ans M M' er
 room:M'.room=M.room
 sM:er=some 10->M.room<2100000000000000
 nX:er≠none->fin=false
 qX:er=none->Jl J' M' y'/\Mo M' y' mg'/\J'.limit=N.J.limit/\Mst N y p t k0 i f fin mg' M' y'
theorem Kg{p:Prop}(h:p:=by
 go_wp2_with fail;go_ret2;obtain⟨f,g,a,Q,R,S,T,X⟩:=K.o;exact⟨f,g,_,a,rfl,Q,R,S,T,X⟩):p:=h
theorem RU(B:Nat)(L:NL)(N:NM)(M:DM)(w:World)(h:NRep w L N M)(y:Env B L M w)(q:N.uW=false)(u:N.mg=none)(o:N.J.tu+2<1000000000000)
 (i:(N.J.tA M).2.tB.length+1<=1000000000000)(j:(N.J.tA M).2.uX.length+1<=1000000000000)
 (l:∀ f,w.heap.size<=f->(N.J.begin M (N.J.tu+2) f).2.2.tB.length+1<=1000000000000/\(N.J.begin M (N.J.tu+2) f).2.2.uX.length+1<=1000000000000)
 (s:N.S.uR.length<1000000000)(hh:N.S.uU.length<1000000) :
 Calls prog 89 #[E L.nb 0] w fun e D=>∃ f g v a,e=.returned (.tuple #[.bool false,v])/\w.heap.size<=f/\g∉(N.J.begin M (N.J.tu+2) f).2.2.tL/\w.heap.size<=g/\ERep D v (N.rU M f g).1/\NStep L M w a (N.rU M f g).2.1 (N.rU M f g).2.2 D:=by
 have hm:MRp w L.mv L.jb (if N.uW=true then none else N.mg):=h.oe;rw[CW (by rw[q];decide),u] at hm;have x:L.mv=.pointer none:=hm;have a0:w.cell? (Y L.nb 6)=some (.pointer none):=by have:w.cell? (Y L.nb 6)=some L.mv:=h.td.cell 6;rw[x] at this;exact this
 have J:=Z (S8 B L N M w h y q o i j l s hh);clear h y i j l hm;go_enter func89,ntmps89;go_wp2_with fail;refine J.o.mono ?_;rintro e G ⟨f,g,v,a,rfl,A,C,m,d,r⟩;have K:aa (∃ f g a,w.heap.size<=f/\g∉(N.J.begin M (N.J.tu+2) f).2.2.tL/\w.heap.size<=g/\ERep G v (N.rU M f g).1/\NStep L M w a (N.rU M f g).2.1 (N.rU M f g).2.2 G):=⟨f,g,a,A,C,m,d,r⟩;have c:v=.nilIface\/∃ t b,v=.iface t (E b 0):=by
  cases hx:(N.rU M f g).1 with
  | none=>rw[hx] at d;exact .inl d
  | some n=>rw[hx] at d;obtain⟨k,s⟩:=d;obtain⟨t,b,rfl⟩:=s.form;exact .inr ⟨t,b,rfl⟩
 clear A C m d r;rcases c with rfl|⟨t,b,rfl⟩
 .exact Kg
 .exact Kg
theorem JC(B:Nat)(L:NL)(N:NM)(M:DM)(y:Lay)(p t T i f:Nat)(w:World)(h:NRep w L N M)(r:Yr B w)(hB:B<=w.heap.size)(b:∀ k,NFoot L M k->B<=k)(S:N.uW=false)(A:Lk M y p t T)(x:Jl N.J M y)(a0:N.mg=none->T=0)(a1:∀ m,N.mg=some m->T+m.left.length<=980950)
 (a5:N.mg=none->y.new=none)(a3:∀ m,N.mg=some m->Mgx M y m i f/\m.uS<=m.done.length+1)(hS:N.S=y.F.foldl SM.enter SM.nil)(c:Zc N.S)(K:N.S.tm<9223372036854775808)(ht:t<=980000) :
 Calls prog 89 #[E L.nb 0] w fun e w'=>∃ fin o v D s l u y',e=.returned (.tuple #[.bool fin,v])/\ERep w' v o/\NStep L M w D {N with J:=s,mg:=l} u w'/\Mgw L N M y p t T i f w fin o D s l u y':=by
 have a9:=A.fl;have b9:N.S.uR.length<=t:=by
  have h1:=Wz y.F SM.nil;rw[<- hS] at h1;have h3:SM.nil.uR.length=0:=rfl;omega
 have b0:=c.qT;have a2:=A.pQ x.1;cases hm:N.mg with
 | none =>
  have hn:=a5 hm;obtain rfl:=a0 hm;obtain⟨e1,M1,ea,J,_⟩:=Wj A x.1 V;have q:∀ g∈M.tL,g<w.heap.size:=fun g hg=>(h.sf.tw g hg).lt;have a6:=J.bd.tB;have a7:=J.bd.uX;refine(RU B L N M w h ⟨r.1,hB,fun k hk=>b k (.inr (.inr (.inr (.inl hk))))⟩ S hm V (by rw[ea];show M1.tB.length+1<=_;omega) (by rw[ea];show M1.uX.length+1<=_;omega) (fun f hf=>?_) V V).mono ?_
  .obtain⟨e2,J2,M2,y2,X,G,_⟩:=RH A x V (N.J.tu+2) f V V (fun C=>by have:=q f C;omega)
   rw[X];have:=G.bd.tB;have:=G.bd.uX;exact⟨by show M2.tB.length+1<=_;omega,by show M2.uX.length+1<=_;omega⟩
  rintro e w' ⟨f',g,v,D,rfl,a8,hg,_,hE,j⟩;obtain⟨o,s,u,y',X,G,q3,q4,q5,_,_,q8,q9⟩:=En A x hn V hS c K f' g (fun C=>by have:=q f' C;omega) hg;have hb:N.rU M f' g=(o,{N with J:=s,mg:=if o=none then some ⟨N.J.tu+1,[],N.S.rf,1⟩ else N.mg},u):=by unfold NM.rU;rw[X]
  rw[hb] at hE j;refine⟨false,o,v,D,s,_,u,y',rfl,hE,j,⟨G,q3,q4,q5,fun e=>absurd e q8,fun _=>rfl,fun e0=>?_⟩⟩;obtain⟨r1,r2,i2,f2,r3,r4⟩:=q9 e0;rw[Bl e0];exact⟨r1,⟨i2,f2,r3,CP _⟩,r2,.inl ⟨hm,rfl,rfl,i2,f2,r3,r4⟩⟩
 | some m =>
  obtain⟨hx,hc⟩:=a3 m hm;have c0:=(YW y i).length_le;have a4:=hx.len;rw[CN] at a4;have R:m.number<1000000000000:=by
   have Q:=hx.lt;have h4:=hx.hi _ (Bt.2 ⟨0,by rw[Bc];omega,by rw[Ac];rfl⟩:y.G[i]'Q∈y.G.drop i);have h5:=(A.qw _ (CU Q)).2;omega
  refine(Re B L N M y p t T m i f w h r hB b S hm A (a1 m hm) hx ht V V V R).mono ?_;rintro e w' ⟨fin,o,v,D,s,l,u,y',rfl,hE,j,X,G,q3,q4,q5,q6,q7⟩;refine⟨fin,o,v,D,s,l,u,y',rfl,hE,j,⟨X.tU V,G,q3,q4,q6,fun e=>?_,fun e0=>?_⟩⟩
  .rcases q7 with⟨_,a⟩|⟨a,_⟩|⟨a,_⟩
   .exact a
   .exact absurd a e
   .exact absurd a e
  .rcases q7 with⟨a,_⟩|⟨_,a,rfl,rfl,b1,b2,b3,b4,b8,d,lf,rfl,b5,b6,b7⟩|⟨_,a,rfl,b1,b2,b3,b4,b5⟩
   .exact absurd e0 a
   .refine⟨?_,⟨i,f,b5,?_⟩,rfl,.inr (.inl ⟨m,d,lf,hm,a,b4,rfl,b8,rfl,b5,b6,b7⟩)⟩
    .unfold Jl at x |-
     rw[b1,b2,b3];exact x
    .have h7:=AB List.length b7
     rw[CN,CN] at h7;show m.uS+1<=d.length+1;omega
   .exact⟨b3 x,b1,b2,.inr (.inr ⟨m,hm,a,rfl,b4,b5⟩)⟩
theorem MF(C:zy)(B:Nat)(L:NL)(N:NM)(M:DM)(y:Lay)(p t R i f:Nat)(w:World)(h:NRep w L N M)(c:Yr B w)(hB:B<=w.heap.size)(a:∀ k,NFoot L M k->B<=k)(Q:N.uW=false)(hl:Lk M y p t R)(hj:Jl N.J M y)(x:N.mg=none->R=0)(D:∀ m,N.mg=some m->R+m.left.length<=980950)
 (K:N.mg=none->y.new=none)(J:∀ m,N.mg=some m->Mgx M y m i f/\m.uS<=m.done.length+1)(hS:N.S=y.F.foldl SM.enter SM.nil)(b:Zc N.S)(G:N.S.tm<9223372036854775808)(ht:t<=980000) :
 Calls prog 40 #[E L.nb 0] w fun e w'=>∃ fin o L' S g u y',e=.returned (.tuple #[.bool fin,I (Zt o)])/\NStep L M w L' (({N with J:=S,mg:=g}:NM).rD o) u w'/\Mgw L N M y p t R i f w fin o L' S g u y':=by
 have a2:w.cell? (Y L.nb 7)=some (.bool false):=by have:w.cell? (Y L.nb 7)=some (.bool N.uW):=h.td.cell 7;rw[Q] at this;exact this
 have HS:=Z (JC B L N M y p t R i f w h c hB a Q hl hj x D K J hS b G ht);have HE:=Z (show Ye B L M w from⟨c.1,hB,a⟩);clear h c hB a hl hj x D K J hS b;go_enter func40,ntmps40;go_wp2_with fail;refine HS.o.mono ?_;rintro e w1 ⟨fin,o,v,L1,S,g,u,y',rfl,hE,q,hw⟩;have T:=Z hE;have a1:=Z q;have l:=Z hw;have a3:=q.same.nb;clear hE q hw a2 HS;have s:=Z (zU {data:=#[109,101,114,103,105,110,103]} v o w1 T.o);go_wp2_with fail;refine s.o.mono ?_;rintro e w2 ⟨v2,rfl,A,f2⟩;have d:=a1.o.tR f2;have r:=Z (Yn C B L1 _ u v2 o w2 d.th (HE.o.step d) A);rw[a3] at r;have X:=Z d;clear d A f2 s;go_wp2_with fail;refine r.o.mono ?_;rintro e w3 ⟨L3,rfl,j⟩;have a0:=Z (X.o.trans j);clear j
 go_wp2
 go_ret2;exact⟨fin,o,L3,S,g,u,y',rfl,a0.o,l.o.lg,l.o.F,l.o.rD,l.o.room,l.o.sM,l.o.nX,l.o.qX⟩
structure Mrg(W:WM)(N:NM)(M:DM)(F:List Fact)(p t:Nat)(er:Option Int)(N':NM)(M':DM):Prop where
 rD:Ans M M' er
 room:M'.room=M.room
 sM:er=some 10->M.room<2100000000000000
 qX:er=none->NI W N' M' F p t
 ts:er≠none->Sh {W with tq:=true} M' F p t/\(M'.tJ=false->NI {W with tq:=true} N' M' F p t)
theorem NI.qS{F:List Fact}(h:NI W N M F p t){b:Option Int}{c:JM}{a:Option MgM}{d:DM}{i:Lay}(s:Lg d i p (t+3))(q:i.F=F)(A:Ans M d b)(l:d.room=M.room)(f:b=some 10->M.room<2100000000000000)(G:b=none->Jl c d i/\Mo d i a) :
 Mrg W N M F p (t+3) b (({N with J:=c,mg:=a}:NM).rD b) d:=by
 have j:=h.cm.tU (u:=t+3) V;refine⟨A,l,f,fun m=>?_,fun m=>?_⟩
 .subst m
  have K:(({N with J:=c,mg:=a}:NM).rD none)={N with J:=c,mg:=a}:=by unfold NM.rD;simp
  rw[K];have r:d.tJ=false:=by
   rcases A.1 with⟨_,_,_,D⟩|⟨_,⟨o,_⟩|⟨o,_⟩⟩
   .exact D.trans h.tJ
   .cases o
   .cases o
  exact {h with
   kp:=⟨⟨i,s,q,fun _=>G rfl⟩,h.kp.held⟩
   cm:=j
   room:=l.trans h.room
   nw:=by have:=h.nw;show N.tf<=_;omega
   tJ:=r}
 .have hr2:(({N with J:=c,mg:=a}:NM).rD b).uW=true:=by
   cases b with
   | none=>exact absurd rfl m
   | some n=>simp[NM.rD]
  have k:Cm {W with tq:=true} (t+3):=j.rR (W':={W with tq:=true}) rfl j.qe j.len h.cm.ne j.ww rfl rfl rfl rfl;refine⟨⟨⟨i,s,q⟩,k,l.trans h.room,.inl ⟨h.rY,.inl h.re⟩⟩,fun r=>?_⟩;have y:(({N with J:=c,mg:=a}:NM).rD b).S=N.S:=by cases b <;> rfl
  have g:(({N with J:=c,mg:=a}:NM).rD b).tN=N.tN/\(({N with J:=c,mg:=a}:NM).rD b).uY=N.uY/\(({N with J:=c,mg:=a}:NM).rD b).tH=N.tH/\(({N with J:=c,mg:=a}:NM).rD b).tf=N.tf:=by cases b <;> exact⟨rfl,rfl,rfl,rfl⟩
  obtain⟨v,x,B,C⟩:=g;exact⟨⟨⟨i,s,q,fun e=>by rw[hr2] at e;cases e⟩,by rw[y];exact h.kp.held⟩,k,l.trans h.room,h.re,h.rY,hr2,by rw[v];exact h.tN,by rw[v];exact h.nd,by rw[x];exact h.tM,by rw[x,y];exact h.uY,fun e=>by(rw[hr2] at e;cases e),by rw[B];exact h.tH,fun e=>by(rw[hr2] at e;cases e),by rw[C];have:=h.nw;omega,r⟩
theorem Pc(X:NL)(N:NM)(M:DM)(w:World)(h:NRep w X N M)(a:N.uW=true) :
 Calls prog 40 #[E X.nb 0] w fun e c=>e=.returned (.tuple #[.bool false,I 8])/\Fr Nil w c:=by
 have b:=h.td.cell;simp only[NM.cells] at b;rw[a] at b;clear h;go_enter func40,ntmps40;go_wp2_with fail;go_ret2;exact⟨rfl,U _ _⟩
theorem Cb(j:zy){F:List Fact}(h:NRep w X N M)(G:Ye B X M w)(r:Yr B w)(a:NI W N M F p t)(ht:t+20<=980000)(o:N.uW=false) :
 Calls prog 40 #[E X.nb 0] w fun e K=>∃ fin g u A s,e=.returned (.tuple #[.bool fin,I (Zt g)])/\NStep X M w u A s K/\Mrg W N M F p (t+3) g A s/\(g≠none->fin=false):=by
 obtain⟨y,J,D,T⟩:=a.kp.lg;obtain⟨hj,b⟩:=T o;have key:∃ i f,(N.mg=none->y.new=none)/\∀ m,N.mg=some m->Mgx M y m i f/\m.uS<=m.done.length+1:=by
  cases hm:N.mg with
  | none=>rw[hm] at b;exact⟨0,0,(fun _=>b),fun m e=>by cases e⟩
  | some m =>
   rw[hm] at b;obtain⟨i,f,L,Q⟩:=b;exact⟨i,f,(fun e=>by cases e),fun m' e=>by obtain rfl:=BA e;exact⟨L,Q⟩⟩
 obtain⟨i,f,x,l⟩:=key;have q:=a.st;have k:N.S.tm<9223372036854775808:=by have:=q.2.2.1;have:=a.cm.uS;omega
 have R:N.S=y.F.foldl SM.enter SM.nil:=by rw[D,<- LU];exact a.kp.held
 have v:∀ m,N.mg=some m->0+m.left.length<=980950:=fun m hm=>by
  have hx:=(l m hm).1.len;have S:=J.fl;have a0:=(YW y i).length_le;rw[CN] at hx;omega
 refine(MF j B X N M y p t 0 i f w h r G.le G.sd o J hj (fun _=>rfl) v x l R q.1 k V).mono ?_;rintro e K ⟨fin,g,u,J',a1,s,y',rfl,d,c⟩;exact⟨fin,g,u,_,s,rfl,d,a.qS c.lg (c.F.trans D) c.rD c.room c.sM (fun C=>⟨(c.qX C).1,(c.qX C).2.1⟩),c.nX⟩
def Mgq(W:WM)(M:DM)(F:List Fact)(p t:Nat)(fin:Bool)(b:Int)(c:NM)(a:DM):Prop :=
 (W.tq=true/\fin=false/\b=8/\a.uS=M.uS/\NI W c a F p t) \/
 (W.tq=false/\b=0/\a.uT=M.uT/\NI W c a F p t) \/
 (W.tq=false/\fin=false/\((b=9/\a.uT=M.uT+1/\a.tr=M.tr)\/(b=10/\a.uT=M.uT+1/\a.tr=M.tr+1))/\Sh {W with tq:=true} a F p t/\(a.tJ=false->NI {W with tq:=true} c a F p t))
theorem Nh(b:zy){F:List Fact}(h:NRep w X N M)(r:Ye B X M w)(c:Yr B w)(a:NI W N M F p t)(s:t+20<=980000) :
 Calls prog 40 #[E X.nb 0] w fun e o=>∃ fin k j g d,e=.returned (.tuple #[.bool fin,I k])/\NStep X M w j g d o/\Mgq W M F p (t+3) fin k g d:=by
 cases hbr:W.tq with
 | true =>
  refine(Pc X N M w h (a.ro.trans hbr)).mono ?_;rintro e o ⟨rfl,f⟩;exact⟨_,_,X,N,M,rfl,NStep.nil h f,.inl ⟨hbr,rfl,rfl,rfl,a.tU V⟩⟩
 | false =>
  refine(Cb b h r c a s (a.ro.trans hbr)).mono ?_;rintro e o ⟨fin,k,j,g,d,rfl,m,hm,q⟩;refine⟨_,_,j,g,d,rfl,m,.inr ?_⟩;rcases hm.rD.1 with⟨rfl,i,_⟩|⟨i,⟨rfl,l⟩|⟨rfl,l,_⟩⟩
  .exact .inl ⟨hbr,rfl,i,hm.qX rfl⟩
  .exact .inr ⟨hbr,q bG,.inl ⟨rfl,i,l⟩,hm.ts bG⟩
  .exact .inr ⟨hbr,q bG,.inr ⟨rfl,i,l⟩,hm.ts bG⟩
theorem MG(a6:zy)(K:Nat->Prop)(B:Nat)(L:WL)(W:WM)(X:NL)(N:NM)(M:DM)(o:OpM)(w:World)(F:List Fact)(p t:Nat)(h:Play K B w L W X N M)(hk:o.kind=15)(e7:NI W N M F p t)(ht:t+20<=980000)(d8:Yr B w) :
 Calls prog 64 #[E L.wb 0,.agg o.cells.toArray] w fun e w'=>e=.returned (.bool true) /\
  ((∃ X' N' M' W',PStep K B L X M w K L W' X' N' M' w'/\W'.bk=W.bk/\NI W' N' M' F p (t+3))\/∃ X' N' M' W' wm,PStep K B L X M w K L W' X' N' M' wm/\W'.bk=W.bk/\Sh W' M' F p (t+3)/\w'=wm.setCell (Y L.wb 5) (.pointer none)):=by
 obtain⟨d2,a,b,c,key,j,v,i⟩:=o;simp only at hk |-;subst hk;simp only[OpM.cells,Ver.cells,CZ,Ba];have f1:Fr Nil w (w.alloc (.cells #[I 15,I a,I b,I c,.string key,.string j,I v.node,I v.seq,I v.o0,I v.o1,I v.o2,I v.o3,.string v.value,.bool v.ts,i] 39)):=(U _ _).alloc _;have R:=Blk.new w [I 15,I a,I b,I c,.string key,.string j,I v.node,I v.seq,I v.o0,I v.o1,I v.o2,I v.o3,.string v.value,.bool v.ts,i] 39;have HM:=Z (fun d (f:Fr Nil w d)=>Ze K L W X.LD M d (h.tE.nil f) ((h.tI).nil f));have HF:=Z (fun d (f:Fr Nil w d)=>Zu K L W X.LD M d (h.tE.nil f) ((h.tI).nil f));have HC:=Z (fun d (f:Fr Nil w d)=>zE d L.db X.LD M ((h.tI).nil f));have S:=R.cell;have G:=Z f1;have l:=Z R;have HH:=Z h;clear h f1 R;go_enter uH,ux;go_wp2_with fail;generalize c0:w.alloc (.cells #[I 15,I a,I b,I c,.string key,.string j,I v.node,I v.seq,I v.o0,I v.o1,I v.o2,I v.o3,.string v.value,.bool v.ts,i] 39)=wa at S G l |-;have d4:aa (∀ d,Fr (fun k=>k<w.heap.size) wa d->∀ k,d.cell? (Y w.heap.size k)=wa.cell? (Y w.heap.size k)):=fun d f k=>((l.o.fr f (yu _)).cell k).trans (l.o.cell k).symm;have d5:=Z S;have b9:aa (w.heap.size<wa.heap.size):=l.o.lt;clear c0 l;refine(HM.o wa G.o).mono ?_;rintro e w2 ⟨rfl,f2⟩;have J:Fr Nil w w2:=G.o.trans f2;have C:w.heap.size<w2.heap.size:=by have:=b9.o;have:=f2.size;omega
 have F2:=Z f2;have f3:Fr Nil w (w2.alloc (.cells #[I M.uT,I M.tr] 111)):=J.alloc _;have a4:=Blk.new w2 [I M.uT,I M.tr] 111;have a5:=(HH.o.tE.nil f3).td.cell;simp only[WM.cells] at a5;have d9:=Z J;have c2:=Z C;have F3:=Z f3;have d3:=Z a4;clear f2 J C f3 a4 S
 go_wp2_with (refine(HC.o _ F3.o).mono ?_;rintro e d ⟨rfl,b2⟩;subst d)
 refine(HF.o _ F3.o).mono ?_;rintro e w4 ⟨rfl,f4⟩;have Q:Fr Nil w w4:=F3.o.trans f4;have h4:=(HH.o.nil Q).th;have u:=Z Q;have c7:=Z f4;have H4:=Z h4;clear Q f4 h4 a5;generalize IntKind.i64.wrap ((if W.room<0 then 1152921504606846976 else W.room)-M.rE)=fr;have y:=Z (fun d (f:Fr Nil w d)=>Nh a6 (HH.o.node.nil f) (HH.o.qg.nil f) (d8.fr HH.o.qg.le f (fun _ e=>absurd e id)) e7 ht);clear e7 d8;have D:aa (∀ d K' L' W' X' N' M',PStep K B L X M w4 K' L' W' X' N' M' d->(∀ k,d.cell? (Y w.heap.size k)=([I 15,I a,I b,I c,.string key,.string j,I v.node,I v.seq,I v.o0,I v.o1,I v.o2,I v.o3,.string v.value,.bool v.ts,i]:List Value)[k]?)/\(∀ k,d.cell? (Y w2.heap.size k)=[I M.uT,I M.tr][k]?)):=by
  exact R8
 have HK:aa (∀ d w' X' N' M',Fr Nil w4 d->NStep X M d X' N' M' w'->w'.cell? (Y L.wb 5)=some (E X.nb 0)/\∀ k,w'.cell? (Y w.heap.size k)=([I 15,I a,I b,I c,.string key,.string j,I v.node,I v.seq,I v.o0,I v.o1,I v.o2,I v.o3,.string v.value,.bool v.ts,i]:List Value)[k]?):=by
  exact R9
 have b3:=HK.o w4 w4 X N M (U _ _) (NStep.nil H4.o.node (U _ _));have f9:=b3;go_wp2_with fail;refine(y.o _ u.o).mono ?_;rintro e r ⟨fin,er,X5,N5,M5,rfl,T,e9⟩;have a3:=Z T;have g:=Z (H4.o.call a3.o);have e1:=Z e9;clear b3 f9 HK y T;have c1:=(D.o _ _ _ _ _ _ _ g.o).1;have a0:=g.o.th.tE.td.cell;simp only[WM.cells] at a0;rcases e9 with⟨A,rfl,rfl,e5,b5⟩|⟨A,rfl,c5,b5⟩|⟨A,rfl,c5,T,b5⟩
 .rw[A] at a0
  have a9:=Z b5;have c4:=Z (Zd K L W X5.LD M5 8 8 M.uS r g.o.th.tE g.o.th.tI);rw[e5] at c4;simp only[xu,yx] at c4;clear b5 e5 A e1;go_wp2_with fail;refine c4.o.mono ?_;rintro e d ⟨rfl,b2⟩;subst d;go_wp2_with fail;go_ret;exact⟨rfl,.inl ⟨X5,_,M5,W,(HH.o.nil u.o).trans g.o,rfl,a9.o⟩⟩
 .have a9:=Z b5
  have q:∀ n k,(r.drewN n).cell? (Y L.wb k)=_:=fun n=>(g.o.th.tE.td.drewN n).cell;simp only[WM.cells] at q;rw[A] at a0 q;have a8:∀ n k,(r.drewN n).cell? (Y w2.heap.size k)=[I M.uT,I M.tr][k]?:=fun n=>(D.o _ _ _ _ _ _ _ (g.o.trans (g.o.th.nil ((U Nil r).drewN n)))).2;have c3:∀ n k,(r.drewN n).cell? (Y w.heap.size k)=([I 15,I a,I b,I c,.string key,.string j,I v.node,I v.seq,I v.o0,I v.o1,I v.o2,I v.o3,.string v.value,.bool v.ts,i]:List Value)[k]?:=fun n=>(D.o _ _ _ _ _ _ _ (g.o.trans (g.o.th.nil ((U Nil r).drewN n)))).1;have m:=Z (fun n=>Zr (r.drewN n) L.db X5.LD M5 (g.o.th.tI.nil ((U Nil r).drewN n)));rw[c5] at m;have b4:decide (M.uT<M.uT)=false:=bG
  have a7:¬M.uT<M.uT:=bG
  clear b5 c5 A e1;cases fin
  all_goals
   go_wp2_with fail
   go_quiet ((go_at_call 47;exact Ah (m.o _)))
   have e3:=c3 nq;clear q a8 c3 c1;go_wp2_with fail;go_ret;exact⟨rfl,.inl ⟨X5,_,_,W,(HH.o.nil u.o).trans (g.o.trans (g.o.th.nil ((U Nil r).drewN nq))),rfl,a9.o⟩⟩
 .have a9:=Z (And.intro T b5)
  have q:∀ n k,(r.drewN n).cell? (Y L.wb k)=_:=fun n=>(g.o.th.tE.td.drewN n).cell;simp only[WM.cells] at q;rw[A] at a0 q;have d1:∀ n k,(r.drewN n).frozen? (Y L.wb k)=false:=fun n=>(g.o.th.tE.td.drewN n).frozen;have a8:∀ n k,(r.drewN n).cell? (Y w2.heap.size k)=[I M.uT,I M.tr][k]?:=fun n=>(D.o _ _ _ _ _ _ _ (g.o.trans (g.o.th.nil ((U Nil r).drewN n)))).2;have m:=Z (fun n=>Zr (r.drewN n) L.db X5.LD M5 (g.o.th.tI.nil ((U Nil r).drewN n)));have f0:M5.uT=M.uT+1:=by rcases c5 with x|x <;> exact x.2.1
  rw[f0] at m;have b4:decide (M.uT<M.uT+1)=true:=by simp;omega
  have a7:M.uT<M.uT+1:=V
  have b0:=Z c5;clear T b5 c5 f0 A e1;have g0:aa (er=9\/er=10):=b0.o.imp (fun x=>x.1) (fun x=>x.1);have g2:decide (er=0)=false:=by rcases g0.o with rfl|rfl <;> rfl
  go_wp2_with fail
  go_quiet ((go_at_call 47;exact Ah (m.o _)))
  have e0:=Z (g.o.trans (g.o.th.nil ((U Nil r).drewN nq)));have a1:=Z (e0.o.trans (e0.o.th.sX (WStep.set e0.o.th.tE 8 (.bool true) (L':=L) (W':={W with tq:=true}) ai rfl rfl rfl rfl rfl rfl rfl rfl rfl rfl rfl rfl rfl)));have e3:=(D.o _ _ _ _ _ _ _ a1.o).1;go_wp2_with fail;clear a0 q d1 a8 c1 m b4 a7;generalize (r.drewN nq).setCell (Y L.wb 8) (.bool true)=w6 at a1 e3 |-;refine(VG K L _ X5.LD M5 er M.uT M.tr w6 a1.o.th.tE a1.o.th.tI b0.o).mono ?_;rintro e w7 ⟨rfl,f7⟩;have a2:=Z (a1.o.trans (a1.o.th.nil f7));have e2:∀ k,w7.cell? (Y L.wb k)=(WM.cells L {W with tq:=true})[k]?:=a2.o.th.tE.td.cell;have e6:=a2.o.th.tE.td.frozen;have g3:=(D.o _ _ _ _ _ _ _ a2.o).1;simp only[WM.cells] at e2;have b1:=Z (WV w7 L.db X5.LD M5 a2.o.th.tI);clear f7 e3;cases hdd:M5.tJ with
  | false =>
   rw[hdd] at b1;have c6:=Z hdd;clear hdd
   go_wp2_with (refine b1.o.mono ?_;rintro e d ⟨rfl,b2⟩;subst d)
   all_goals (go_ret;exact⟨rfl,.inl ⟨X5,_,M5,_,(HH.o.nil u.o).trans a2.o,rfl,a9.o.2 c6.o⟩⟩)
  | true =>
   rw[hdd] at b1;clear hdd
   go_wp2_with (refine b1.o.mono ?_;rintro e d ⟨rfl,b2⟩;subst d)
   all_goals (go_ret;exact⟨rfl,.inr ⟨X5,_,M5,_,w7,(HH.o.nil u.o).trans a2.o,rfl,a9.o.1,rfl⟩⟩)
def YY(t:TypeId):Prop:=t=250\/t=165\/t=37
theorem FRep.nZ{b:World}{v:Value}{x:Fact}(a:FRep w v x)(f:Fr S w b)(c:∀ k t,Ty w k t->YY t->¬S k):FRep b v x:=by
 rcases x with n|x|x|x
 .exact a
 .obtain⟨lv,e,hl⟩:=a
  exact⟨lv,e,VRow.fr hl f (fun k d=>c k _ (zr hl d) (.inr (.inr rfl)))⟩
 .exact a
 .exact a
theorem Zy.nP{j:World}{e:Value}(h:Zy w e l)(f:Fr S w j)(d:∀ k t,Ty w k t->YY t->¬S k):Zy j e l:=by
 obtain⟨g,k,a,s,c,m,o,p⟩:=h;refine⟨g,k,a,s,ze c f (fun i b=>d i _ (zr c b) (.inr (.inl rfl))),m,o,fun i b=>?_⟩;obtain⟨u,r,q⟩:=p i b;exact⟨u,r,q.nZ f d⟩
theorem MRp.nP{S:Nat->Prop}{w l:World}{b:Value}{i:Nat}:∀ {g:Option MgM},MRp w b i g->Fr S w l->(∀ k,b=E k 0->¬S k)->(∀ k t,Ty w k t->YY t->¬S k)->MRp l b i g
 | none,h,_,_,_=>h
 | some _,⟨j,a,p,c,m,e,o⟩,f,hm,d=>⟨j,a,p,c,m.fr f (hm j c),e.fr f (d _ _ e.ty (.inl rfl)),o.nP f d⟩
theorem NRep.nP{L:NL}(h:NRep w L N M)(f:Fr S w d)(a:∀ k,NFoot L M k->¬S k)(c:∀ k t,Ty w k t->YY t->¬S k):NRep d L N M :=
 ⟨h.td.fr f (a _ (.inl rfl)),Blk.fr h.qb f (a _ (.inr (.inl rfl))),h.held.fr f (fun k b=>a k (.inr (.inr (.inl b)))) (fun k b=>c k _ (h.held.rK b) (.inr (.inr rfl))),h.sf.fr f (fun k b=>a k (.inr (.inr (.inr (.inl b))))),h.oe.nP f (fun k e=>a k (.inr (.inr (.inr (.inr e))))) c⟩
theorem DTy.ro{t:TypeId}(h:DTy t):¬YY t:=by
 unfold DTy at h;rcases h with rfl|rfl|rfl|rfl|rfl <;> (unfold YY;decide)
theorem NRep.ro{L:NL}(h:NRep w L N M):∀ k t,Ty w k t->YY t->¬NFoot L M k:=fun k t c d b=>by
 rcases b with rfl|rfl|b|b|b
 .have:=c.inj h.td.ty;subst this;revert d;unfold YY;decide
 .have:=c.inj (Blk.ty h.qb);subst this;revert d;unfold YY;decide
 .rcases h.held.rh b with e|e|e <;> (have:=c.inj e;subst this;revert d;unfold YY;decide)
 .obtain⟨t2,h2,h3⟩:=h.sf.ty b
  have:=c.inj h2;subst this;exact h3.ro d
 .have:=c.inj (h.oe.ty b);subst this;revert d;unfold YY;decide
theorem WAt.ro(h:WAt K w L W):∀ k t,Ty w k t->YY t->¬WFoot L k:=fun k t d e c=>by
 obtain⟨u,f,b⟩:=h.ty c;have:=d.inj f;subst this;unfold WTy at b;rcases b with rfl|rfl|rfl|rfl|rfl|rfl <;> (revert e;unfold YY;decide)
theorem DRep.ro{b:Nat}(h:DRep w b c M):∀ k t,Ty w k t->YY t->¬Foot b c M k:=fun k t g i f=>by
 obtain⟨j,d,e⟩:=h.ty f;have:=g.inj d;subst this;exact e.ro i
structure Plg(B:Nat)(A:Nat->Prop)(w0:World)(wb t:Nat)(w:World):Prop where
 fr:Fr Nil w0 w
 lt:∀ k,A k->k<w.heap.size
 ge:∀ k,A k->w0.heap.size<=k
 st:∃ tv,T8 w0 tv/\((∃ K L W X N M,Lv K B w L W X N M t/\L.wb=wb/\L.tv=tv/\(∀ k,PFoot L X M k->A k)/\(∀ k,K k->A k)/\Bok K w W.bk) \/
  (∃ K L W LD M,Cl K w L W LD M t/\L.wb=wb/\L.tv=tv/\(∀ k,RFoot L LD M k->A k)/\(∀ k,K k->A k)/\Bok K w W.bk))
def Pls(B:Nat)(A:Nat->Prop)(c:World)(d t:Nat)(w b:World):Prop :=
 ∃ S a,Fr S w b/\(∀ k,S k->A k)/\(∀ k u,Ty w k u->YY u->¬S k)/\(∀ k,a k->A k\/w.heap.size<=k)/\Plg B a c d t b
theorem Lv.lt(h:Lv K B w L W X N M t):∀ k,PFoot L X M k\/K k->k<w.heap.size:=fun k e =>
 e.elim (fun e=>h.sZ.lt e) (fun e=>(h.sZ.tE.tW k e).1)
theorem Cl.lt(h:Cl K w L W c M t):∀ k,RFoot L c M k\/K k->k<w.heap.size:=fun k e =>
 e.elim (fun e=>e.elim (h.tE.lt k) h.sf.lt) (fun e=>(h.tE.tW k e).1)
theorem Plg.of{P:Nat->Prop}{D:BK}{y:World}{wb:Nat}{r T:World}{tv:Value}(hA:∀ k,A k->y.heap.size<=k)(f:Fr Nil y w)(s:Fr Nil w r)(G:∀ k,P k->A k)(hK:∀ k,K k->A k)(Q:∀ k u,Ty w k u->YY u->¬P k)(hb:Bok K w D)(R:T8 y tv)(h:Nx K D B P wb tv r t T):Pls B A y wb t w T:=by
 have hs:=s.size;have l:Bok K r D:=hb.fr s (fun _ _=>id) (fun _ e=>e);refine⟨P,fun k=>(A k\/w.heap.size<=k)/\k<T.heap.size,(s.mono (S':=P) (fun _ _ e=>absurd e id)).trans h.1,G,Q,fun k e=>e.1,?_⟩;have J:∀ k,P k\/r.heap.size<=k->A k\/w.heap.size<=k:=fun k e=>e.imp (G k) (fun e=>CO hs e);have o:∀ k,K k\/r.heap.size<=k->A k\/w.heap.size<=k:=fun k e=>e.imp (hK k) (fun e=>CO hs e);refine⟨(f.trans s).tk h.1 (fun i hi e=>by have:=hA i (G i e);omega),fun k e=>e.2,fun k e=>e.1.elim (hA k) (fun e=>CO f.size e),tv,R,?_⟩;rcases h.2 with⟨C,L,W,X,N,M,a,b,c,d,e⟩|⟨C,L,W,LD,M,a,b,c,d,e,g⟩
 .exact .inl ⟨C,L,W,X,N,M,a,b,c,fun k j=>⟨J k (d k j),a.lt k (.inl j)⟩,fun k j=>⟨o k (e.1 k j),a.lt k (.inr j)⟩,e.2 l⟩
 .exact .inr ⟨C,L,W,LD,M,a,b,c,fun k j=>⟨j.elim (fun x=>J k (d k x)) (fun x=>J k (e k x)),a.lt k (.inl j)⟩,fun k j=>⟨o k (g.1 k j),a.lt k (.inr j)⟩,g.2 l⟩
theorem Lv.tU{u:Nat}(h:Lv K B w L W X N M t)(a:t<=u):Lv K B w L W X N M u:=⟨h.sZ,h.pj.imp fun _ x=>x.imp fun _ y=>y.tU a,h.ps⟩
theorem Cl.tU{u:Nat}(h:Cl K w L W a M t)(b:t<=u):Cl K w L W a M u:=⟨h.tE,h.sf,h.rF,h.pj.imp fun _ x=>x.imp fun _ y=>y.tU b,h.ps,h.nv⟩
theorem Plg.tU{e:World}{g u:Nat}(h:Plg B A e g t w)(d:t<=u):Plg B A e g u w:=by
 obtain⟨f,j,k,tv,c,hs⟩:=h;refine⟨f,j,k,tv,c,?_⟩;rcases hs with⟨K,L,W,X,N,M,a,b⟩|⟨K,L,W,i,M,a,b⟩
 .exact .inl ⟨K,L,W,X,N,M,a.tU d,b⟩
 .exact .inr ⟨K,L,W,i,M,a.tU d,b⟩
theorem Lv.nil{c:World}(h:Lv K B w L W X N M t)(f:Fr Nil w c):Lv K B c L W X N M t:=⟨(h.sZ.nil f).th,h.pj,h.ps⟩
theorem Cl.nil(h:Cl K w L W c M t)(f:Fr Nil w d):Cl K d L W c M t:=⟨h.tE.nil f,h.sf.nil f,h.rF,h.pj,h.ps,h.nv⟩
theorem Plg.qt{q:World}{v:Nat}{s:World}(h:Plg B A q v t w)(f:Fr S w s)(l:∀ k,S k->¬A k)(m:∀ k,S k->q.heap.size<=k)(G:∀ k,S k->B<=k)(o:∀ k u,Ty w k u->YY u->¬S k):Plg B A q v t s:=by
 obtain⟨fr,C,D,J,p,hs⟩:=h;refine⟨fr.tk f (fun i Q e=>by have:=m i e;omega),fun k e=>Bv (C k e) f.size,D,J,p,?_⟩;rcases hs with⟨K,L,W,X,N,M,a,b,c,d,e,g⟩|⟨K,L,W,r,M,a,b,c,d,e,g⟩
 .have hp:∀ k,PFoot L X M k->¬S k:=fun k x y=>l k y (d k x)
  have j:∀ k,K k->¬S k:=fun k x y=>l k y (e k x);exact .inl ⟨K,L,W,X,N,M,⟨⟨a.sZ.tE.fr f (fun k x=>hp k (.inl x)) j,a.sZ.node.nP f (fun k x=>hp k (.inr x)) o,⟨a.sZ.qg.pW.fr a.sZ.qg.le f G,CO a.sZ.qg.le f.size,a.sZ.qg.sd⟩,a.sZ.nv,a.sZ.db,a.sZ.rF,a.sZ.low⟩,a.pj,a.ps⟩,b,c,d,e,g.fr f j (fun _ x=>x)⟩
 .have hp:∀ k,RFoot L r M k->¬S k:=fun k x y=>l k y (d k x)
  have j:∀ k,K k->¬S k:=fun k x y=>l k y (e k x);exact .inr ⟨K,L,W,r,M,⟨a.tE.fr f (fun k x=>hp k (.inl x)) j,a.sf.fr f (fun k x=>hp k (.inr x)),a.rF,a.pj,a.ps,a.nv⟩,b,c,d,e,g.fr f j (fun _ x=>x)⟩
theorem Plg.nil{g:Nat}{c:World}(h:Plg B A d g t w)(k:Fr Nil w c):Plg B A d g t c :=
 h.qt k (fun _ e=>absurd e id) (fun _ e=>absurd e id) (fun _ e=>absurd e id) (fun _ _ _ _=>id)
structure Zs(K:Nat->Prop)(w:World)(L:WL)(W:WM)(LD:DL)(M:DM)(t:Nat):Prop where
 tE:WAt K w L W
 sf:DRep w L.db LD M
 rF:∀ k,K k->¬Foot L.db LD M k
 pj:∃ F p,Sh W M F p t
 ps:L.ps≠[]
theorem Zs.nil(h:Zs K w L W c M t)(f:Fr Nil w d):Zs K d L W c M t:=⟨h.tE.nil f,h.sf.nil f,h.rF,h.pj,h.ps⟩
theorem Plg.rest{m:World}{o:Nat}(h:Plg B A m o t w):∃ K L W j M,Zs K w L W j M t/\L.wb=o/\T8 m L.tv/\(∀ k,RFoot L j M k->A k)/\(∀ k,K k->A k)/\Bok K w W.bk:=by
 obtain⟨f,_,_,tv,i,hs⟩:=h;rcases hs with⟨K,L,W,X,N,M,a,b,c,d,e,g⟩|⟨K,L,W,j,M,a,b,c,d,e,g⟩
 .refine⟨K,L,W,X.LD,M,⟨a.sZ.tE,a.sZ.tI,fun k q e=>a.sZ.rF k q (.inr (.inr (.inr (.inl (by rw[<- a.sZ.db];exact e))))),a.pj.imp fun _ x=>x.imp fun _ y=>y.sh,a.ps⟩,b,by rw[c];exact i,fun k e=>d k (e.imp id fun e=>.inr (.inr (.inr (.inl (by rw[<- a.sZ.db];exact e))))),e,g⟩
 .exact⟨K,L,W,j,M,⟨a.tE,a.sf,a.rF,a.pj,a.ps⟩,b,by rw[c];exact i,d,e,g⟩
theorem Zs.ro{b:DL}(h:Zs K w L W b M t):∀ k u,Ty w k u->YY u->¬RFoot L b M k:=fun k u c d e=>e.elim (h.tE.ro k u c d) (h.sf.ro k u c d)
theorem Zs.apart(h:Zs K w L W a M t):∀ k,K k->¬RFoot L a M k:=fun k b e=>e.elim (h.tE.tW k b).2 (h.rF k b)
theorem Cl.zs(h:Cl K w L W a M t):Zs K w L W a M t:=⟨h.tE,h.sf,h.rF,h.pj,h.ps⟩
theorem Play.ro(h:Play K B w L W X N M):∀ k u,Ty w k u->YY u->¬PFoot L X M k:=fun k u b c e=>e.elim (h.tE.ro k u b c) (h.node.ro k u b c)
theorem Play.apart(h:Play K B w L W X N M):∀ k,K k->¬PFoot L X M k:=fun k a e=>e.elim (h.tE.tW k a).2 (h.rF k a)
theorem Cm.nA(h:Cm W t)(a:InR b):Cm {W with sD:=b} t :=
 ⟨h.qe,h.uS,h.ww,h.len,h.ne,h.next,h.base,h.ow,h.ox,h.ou,h.ot,h.oo,h.oq,a⟩
theorem Sh.sD{F:List Fact}(h:Sh W M F p t)(a:InR b):Sh {W with sD:=b} M F p t:=⟨h.lg,h.cm.nA a,h.room,h.all⟩
theorem Sh.sf{M':DM}{F:List Fact}(h:Sh W M F p t)(c:∀ y,Lg M y p t->Lg M' y p t)(a:M'.room=M.room)(b:M'.tJ=M.tJ):Sh W M' F p t :=
 ⟨h.lg.imp fun d x=>⟨c d x.1,x.2⟩,h.cm,a.trans h.room,by rw[b];exact h.all⟩
theorem NI.sD{F:List Fact}(h:NI W N M F p t)(a:InR b):NI {W with sD:=b} N M F p t:={h with cm:=h.cm.nA a}
theorem Play.cut{w':World}{d:WL}{i:WM}{M':DM}(h:Play K B w L W X N M)(u:WAt K w' d i)(x:DRep w' L.db X.LD M')(f:Fr (fun k=>k=L.wb\/k=L.db) w w')(l:d.nv=L.nv)(o:d.db=L.db)(p:∀ k,WFoot d k->WFoot L k)(j:∀ k,NFoot X M' k->NFoot X M k):Play K B w' d i X N M':=by
 have s:=h.tI;have a:∀ {k t},Ty w k t->¬DTy t->t≠49->¬(k=L.wb\/k=L.db):=by
  intro k t b q r y;rcases y with rfl|rfl
  .exact r (b.inj h.tE.td.ty)
  .exact s.apart b q .td
 have v:∀ k,(k=L.wb\/k=L.db)->B<=k:=fun k e=>e.elim (fun e=>by rw[e];exact h.low _ (.inl rfl)) (fun e=>by rw[e,h.db];exact h.qg.sd _ (.inr (.inr (.inr (.inl .td)))));have c:=h.node;refine⟨u,⟨c.td.fr f (a c.td.ty ae O),Blk.fr c.qb f (a (Blk.ty c.qb) ae O),c.held.fr f (fun k b=>?_) (fun k b=>a (c.held.rK b) ae O),by rw[<- h.db];exact x,c.oe.fr f (fun k t b g=>a b (by unfold MTy at g;rcases g with rfl|rfl|rfl|rfl <;> (unfold DTy;decide)) (by unfold MTy at g;rcases g with rfl|rfl|rfl|rfl <;> decide))⟩,⟨h.qg.pW.fr h.qg.le f v,CO h.qg.le f.size,fun k b=>h.qg.sd k (j k b)⟩,l.trans h.nv,o.trans h.db,fun k b e=>h.rF k b (j k e),fun k b=>h.low k (p k b)⟩;rcases c.held.rh b with e|e|e
 .exact a e ae O
 .exact a e ae O
 .exact a e ae O
theorem Cc(K:Nat->Prop)(L:WL)(W:WM)(r:Nat)(o:OpM)(w:World)(h:WAt K w L W)(j:L.nv=E r 0)(p:o.kind=15)(Q:World->Prop)
 (l:∀ s,Fr Nil w s->Calls prog 64 #[E L.wb 0,.agg o.cells.toArray] s fun e m=>e=.returned (.bool true)/\Q m) :
 Calls prog 18 #[E L.wb 0,.agg o.cells.toArray] w fun e m=>e=.returned (.bool true)/\Q m:=by
 obtain⟨f,a,b,c,key,g,v,d⟩:=o;simp only at p;simp only[OpM.cells,Ver.cells,CZ,Ba] at l |-;have k:Fr Nil w (w.alloc (.cells #[I f,I a,I b,I c,.string key,.string g,I v.node,I v.seq,I v.o0,I v.o1,I v.o2,I v.o3,.string v.value,.bool v.ts,d] 39)):=(U _ _).alloc _;have i:=Blk.new w [I f,I a,I b,I c,.string key,.string g,I v.node,I v.seq,I v.o0,I v.o1,I v.o2,I v.o3,.string v.value,.bool v.ts,d] 39;have A:(w.alloc (.cells #[I f,I a,I b,I c,.string key,.string g,I v.node,I v.seq,I v.o0,I v.o1,I v.o2,I v.o3,.string v.value,.bool v.ts,d] 39)).cell? (Y L.wb 5)=some (E r 0):=by rw[<- j];exact(h.nil k).td.cell 5
 have y:=i.cell;have u:=Z k;have t:=Z (l _ k);clear h k i l j;subst p
 all_goals
  go_enter xk,yV
  go_wp2_with (refine t.o.mono ?_;rintro e B ⟨rfl,q⟩;have x:=Z q;clear q)
  go_ret;exact⟨rfl,x.o⟩
theorem Pls.nil{g u:Nat}{c:World}(h:Plg B A d g t w)(f:Fr Nil w c)(o:t<=u):Pls B A d g u w c :=
 ⟨Nil,A,f,fun _ e=>absurd e id,fun _ _ _ _=>id,fun _ e=>.inl e,(h.nil f).tU o⟩
theorem WJ(c:zy){v:Nat}{m x:World}(h:Plg B A m v t w)(o:Fr Nil w x)(d:Yr B m)(p:B<=m.heap.size)(R:t<=890000)(i j:Int) :
 Calls prog 17 #[E v 0,I i,I j] x fun e D=>e=.returned (.bool true)/\Pls B A m v (t+10) w D:=by
 have r:=h.fr.trans o;obtain⟨K,L,W,G,M,C,rfl,f,a,J,q⟩:=h.rest;have g:=f;obtain⟨l,y,Q⟩:=f;have b:=C.nil o;refine(C7 c K B L W G M i j l t x b.tE b.sf b.rF (d.fr p r (fun _ e=>absurd e id)) (CO p r.size) (fun k s=>CO p (h.ge k (a k s))) b.pj R b.ps (y.fr r (fun _ _ _=>id)) (fun k u e s=>by have:=y.sL k u e;have:=h.ge k (a k s);omega) Q).mono ?_;rintro e D ⟨rfl,N⟩;exact⟨rfl,Plg.of h.ge h.fr o a J C.ro q g N⟩
theorem Ni(J:zy){wb:Nat}{w0:World}(h:Plg B A w0 wb t w)(a0:Yr B w0)(hB:B<=w0.heap.size)(ht:t<=890000)(o:OpM)(q:VT w0 o) :
 Calls prog 18 #[E wb 0,.agg o.cells.toArray] w fun e C=>e=.returned (.bool true)/\Pls B A w0 wb (t+10) w C:=by
 have S:=h.fr;by_cases a1:o.kind=1
 .obtain⟨_,L,_,_,_,_,hwb,_⟩:=h.rest
  rw[<- hwb] at h |-;exact CI L o w a1 _ (fun s f=>WJ J h f a0 hB ht o.a o.b)
 by_cases Q:o.kind=12
 .obtain⟨K,L,W,R,M,hz,rfl,r,hlow,u,b⟩:=h.rest
  obtain⟨l,hi,hr⟩:=q.rz;refine C8 L o w Q _ (fun s f=>?_);have v:=hz.nil f;obtain⟨F,p,a3⟩:=v.pj;obtain⟨y,hl,hs⟩:=a3.nB;refine(Kb K L W R M y p t o.a l o.rz s v.tE v.sf v.rF q.a.1 q.a.2 (hi.fr (S.trans f) (fun _ _ _=>id)) (fun k a6 e G=>by have:=hi.sL k a6 e;have:=h.ge k (hlow k (.inr G));omega) hr hl V).mono ?_;rintro e C ⟨rfl,a5,hW,T,D,a2⟩;refine⟨rfl,Plg.of h.ge S f hlow u hz.ro b r ⟨D,.inr ⟨K,_,_,a5,_,⟨hW,T,fun k G e=>?_,?_,hz.ps,rfl⟩,rfl,rfl,fun k e=>.inl (.inl e),fun k e=>(a2 k e).imp .inr id,fun k e=>.inl e,fun hb=>hb.fr D v.apart (fun _ e=>e)⟩⟩⟩
  .rcases a2 k e with e|e
   .exact hz.rF k G e
   .have:=(v.tE.tW k G).1;omega
  .obtain⟨F',p',h'⟩:=a3.sj o.a l
   exact⟨F',p',h'.tU V⟩
 by_cases j:o.kind=13
 .obtain⟨l,hi,hr⟩:=q.rz
  obtain⟨ta,tn,tc,a4⟩:=hi.form;obtain⟨tv,r,hs⟩:=h.st;rcases hs with⟨K,L,W,X,N,M,a,rfl,c,d,u,b⟩|⟨K,L,W,R,M,a,rfl,c,d,u,b⟩
  .refine Un L o w (.inl j) _ (fun s f=>?_)
   have g:=a.nil f;refine(Na K L W X.LD M o s ta tn tc a4 g.sZ.tE g.sZ.tI (fun k G e=>g.sZ.rF k G (.inr (.inr (.inr (.inl aP))))) j q.a.1 q.a.2).mono ?_;rintro e C ⟨rfl,n,hW,T,D⟩;have i:Fr (PFoot L X M) s C:=D.mono (fun k _ e=>e.elim (fun e=>.inl (.inl e)) (fun e=>.inr (.inr (.inr (.inr (.inl aP))))));refine⟨rfl,Plg.of (tv:=o.rz) h.ge S f d u a.sZ.ro b q.rz ⟨i,.inl ⟨K,_,_,X,N,_,⟨g.sZ.cut hW T D rfl rfl (fun _ e=>e) (fun _ e=>e),?_,a.ps⟩,rfl,rfl,fun k e=>.inl e,fun k e=>.inl e,fun hb=>hb.fr i g.sZ.apart (fun _ e=>e)⟩⟩⟩;obtain⟨F,p,hn⟩:=a.pj;exact⟨F,p,((hn.sf (M':=M.ry n) (fun ss x=>x.ry n) rfl rfl rfl (fun _=>rfl) rfl rfl).sD q.b).tU V⟩
  .refine Un L o w (.inl j) _ (fun s f=>?_)
   have g:=a.nil f;refine(Na K L W R M o s ta tn tc a4 g.tE g.sf (fun k G e=>g.rF k G aN) j q.a.1 q.a.2).mono ?_;rintro e C ⟨rfl,n,hW,T,D⟩;have i:Fr (RFoot L R M) s C:=D.mono (fun k _ e=>e.elim (fun e=>.inl (.inl e)) (fun e=>.inr aN));refine⟨rfl,Plg.of (tv:=o.rz) h.ge S f d u a.zs.ro b q.rz ⟨i,.inr ⟨K,_,_,R,_,⟨hW,T,g.rF,?_,a.ps,a.nv⟩,rfl,rfl,fun k e=>.inl (.inl e),fun k e=>.inl (.inr e),fun k e=>.inl e,fun hb=>hb.fr i g.zs.apart (fun _ e=>e)⟩⟩⟩;obtain⟨F,p,hn⟩:=a.pj;exact⟨F,p,((hn.sf (M':=M.ry n) (fun ss x=>x.ry n) rfl rfl).sD q.b).tU V⟩
 by_cases m:o.kind=14
 .obtain⟨tv,r,hs⟩:=h.st
  rcases hs with⟨K,L,W,X,N,M,a,rfl,c,d,u,b⟩|⟨K,L,W,R,M,a,rfl,c,d,u,b⟩
  .refine Un L o w (.inr m) _ (fun s f=>?_)
   have g:=a.nil f;refine(QC K L W X.LD M o s g.sZ.tE g.sZ.tI (fun k G e=>g.sZ.rF k G (.inr (.inr (.inr (.inl aP))))) m q.a.1 q.a.2).mono ?_;rintro e C ⟨rfl,n,hW,T,D⟩;have i:Fr (PFoot L X M) s C:=D.mono (fun k _ e=>.inr (.inr (.inr (.inr (.inl aP)))));refine⟨rfl,Plg.of (tv:=L.tv) h.ge S f d u a.sZ.ro b bf ⟨i,.inl ⟨K,_,_,X,N,_,⟨g.sZ.cut hW T (D.mono (fun k _ e=>.inr e)) rfl rfl (fun _ e=>e) (fun _ e=>e),?_,a.ps⟩,rfl,rfl,fun k e=>.inl e,fun k e=>.inl e,fun hb=>hb.fr i g.sZ.apart (fun _ e=>e)⟩⟩⟩;obtain⟨F,p,hn⟩:=a.pj;exact⟨F,p,(hn.sf (M':=M.sO n o.b) (fun ss x=>x.sO n o.b q.b.1 q.b.2) rfl rfl rfl (fun _=>rfl) rfl rfl).tU V⟩
  .refine Un L o w (.inr m) _ (fun s f=>?_)
   have g:=a.nil f;refine(QC K L W R M o s g.tE g.sf (fun k G e=>g.rF k G aN) m q.a.1 q.a.2).mono ?_;rintro e C ⟨rfl,n,hW,T,D⟩;have i:Fr (RFoot L R M) s C:=D.mono (fun k _ e=>.inr aN);refine⟨rfl,Plg.of (tv:=L.tv) h.ge S f d u a.zs.ro b bf ⟨i,.inr ⟨K,_,_,R,_,⟨hW,T,g.rF,?_,a.ps,a.nv⟩,rfl,rfl,fun k e=>.inl (.inl e),fun k e=>.inl (.inr e),fun k e=>.inl e,fun hb=>hb.fr i g.zs.apart (fun _ e=>e)⟩⟩⟩;obtain⟨F,p,hn⟩:=a.pj;exact⟨F,p,(hn.sf (M':=M.sO n o.b) (fun ss x=>x.sO n o.b q.b.1 q.b.2) rfl rfl).tU V⟩
 obtain⟨tv,r,hs⟩:=h.st;rcases hs with⟨K,L,W,X,N,M,a,rfl,c,d,u,b⟩|⟨K,L,W,R,M,a,rfl,c,d,u,b⟩
 .by_cases hk15:o.kind=15
  .obtain⟨F,p,hinv⟩:=a.pj
   refine Cc K L W X.nb o w a.sZ.tE a.sZ.nv hk15 _ (fun s f=>?_);have hx:=a.sZ.nil f;refine(MG J K B L W X N M o s F p t hx.th hk15 hinv V (a0.fr hB (S.trans f) (fun _ e=>absurd e id))).mono ?_;rintro e C ⟨rfl,⟨X',N',M',W',hs,he,hi⟩|⟨X',N',M',W',wm,hs,he,hi,rfl⟩⟩
   .exact⟨rfl,Plg.of (tv:=L.tv) h.ge S (U _ _) d u a.sZ.ro b bf (Nx.ru (hx.trans hs) ⟨F,p,hi.tU V⟩ a.ps (by rw[he];exact(hx.trans hs).tC a.sZ.apart))⟩
   .exact⟨rfl,Plg.of (tv:=L.tv) h.ge S (U _ _) d u a.sZ.ro b bf (Nx.ts (hx.trans hs) (Off.of (hs.th.nil (U Nil wm)) a.ps) ⟨F,p,hi.tU V⟩ a.sZ.apart he)⟩
  .refine(C3 J a ht o a1 Q j m hk15).mono ?_
   rintro e C ⟨rfl,hn⟩;exact⟨rfl,Plg.of (tv:=L.tv) h.ge S (U _ _) d u a.sZ.ro b bf hn⟩
 .refine(My K L W o w a.tE a.nv ⟨a1,Q,j,m⟩).mono ?_
  rintro e C ⟨rfl,f⟩;exact⟨rfl,Pls.nil h f V⟩
end Go.Proofs.YtkhnggkkiefcdaaGreatDoor
