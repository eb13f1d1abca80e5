/- larder: joined texts -/
import Derived.Test.YtkhnggkkiefcdaaGreatDoorUNAK
import Derived.Test.YtkhnggkkiefcdaaGreatDoorUNAT
import Derived.Test.YtkhnggkkiefcdaaGreatDoorUNAU
import Derived.Test.YtkhnggkkiefcdaaGreatDoorUNAV
import Derived.Test.YtkhnggkkiefcdaaGreatDoorUNAW
import Derived.OpenShut
import Derived.Deep.Slices
import Derived.LaidSub
import Derived.Lib.LaidTab
import Derived.Stop.LaidErr
namespace Go.Proofs.YtkhnggkkiefcdaaGreatDoor
open Go.RowKit
set_option maxRecDepth 100000
set_option maxHeartbeats 8000000
abbrev CN:=@Go.Deep.open_slice
abbrev Bf:=@Go.laidMetH_iff
theorem ZB.kept{S:Nat->Prop}{w o:World}{j:Value}{l:List Fact}(h:ZB w j l)(f:Fr S w o)(g:∀ k t,Ty w k t->t=165\/t=37->¬S k):ZB o j l:=by
 obtain⟨q,s,a,e,m,u,x,y⟩:=h;refine⟨q,s,a,e,ze m f (fun i c=>g i _ (zH m c) (.inl rfl)),u,x,fun i c=>?_⟩;obtain⟨A,d,b⟩:=y i c;exact⟨A,d,b.kept f (fun k r=>g k _ r (.inr rfl))⟩
def WF(w:World)(a:Nat):Nat:=match w.cell? ⟨a,1,none⟩ with
 | some (.slice _ n _)=>n
 | _=>0
def NM.yv(N:NM)(m:MgM):Bool:=decide (N.S.keys.length+N.S.hints.length+4<=m.calls+1)
structure Mwr(L:NL)(N:NM)(M:DM)(y:Lay)(p t k0:Nat)(m:MgM)(i f mb:Nat)(w:World)(done left:List Fact)(Li:NL)(Mi:DM)(wi:World):Prop where
 st:NStep L M w Li {N with mg:=some ⟨m.number,done,left,m.calls+1⟩} Mi wi
 mv:Li.mv=.pointer (some ⟨mb,0,none⟩)
 lk:Lk Mi y p t (k0+(m.left.length-left.length))
 mx:Mgx Mi y ⟨m.number,done,left,m.calls+1⟩ i f
 len:left.length<=m.left.length
 all:done++left=m.done++m.left
 go:left.length=m.left.length\/N.yv m=true
 Af:Ans M Mi none
 room:Mi.room=M.room
 ids:Mi.ids=M.ids
 dir:Mi.dir=M.dir
 safe:Mi.safe=M.safe
 Bl:Mi.Bl=M.Bl
def Mgo(L:NL)(N:NM)(M:DM)(y:Lay)(p t q:Nat)(m:MgM)(i f:Nat)(w:World)(e:Ending)(l:World):Prop :=
 ∃ b g v o j c a h,e=.returned (.tuple #[.bool b,v])/\ERep l v g/\NStep L M w o {N with J:=j,mg:=c} a l/\Lg a h p (t+2)/\h.F=y.F/\Ans M a g/\a.room=M.room/\a.ids=M.ids/\(g=some 10->M.room<2100000000000000) /\
  ((g≠none/\b=false) \/
    (g=none/\b=false/\h=y/\j=N.J/\a.dir=M.dir/\a.safe=M.safe/\a.Bl=M.Bl/\N.yv m=false/\Lk a y p t (q+1)/\∃ d k,c=some ⟨m.number,d,k,m.calls+1⟩/\Mgx a y ⟨m.number,d,k,m.calls+1⟩ i f/\k.length+1=m.left.length/\d++k=m.done++m.left) \/
    (g=none/\b=true/\c=none/\h.new=none/\j.limit=N.J.limit/\(Jl N.J M y->Jl j a h)/\(m.left=[]\/N.yv m=true)/\a.BU=(zD (m.done++m.left)).length+((y.G.drop i).map fun e=>(Zv e.2.2).length).sum))
theorem Mwr.merge{L:NL}{N:NM}{M:DM}{y:Lay}{p t s:Nat}{m:MgM}{i f k:Nat}{w:World}{done left:List Fact}{c:NL}{l:DM}{b:World}(h:Mwr L N M y p t s m i f k w done left c l b)(g:N.readOnly=false) :
 ∃ a d,Blk b k [.pointer (some ⟨a,0,none⟩),d,.int .i64 (m.calls+1:Nat)] 201/\Blk b a [.pointer (some ⟨c.jb,0,none⟩),.int .i64 m.number] 250/\ZB b d left:=by
 have j:MRp b c.mv c.jb (if N.readOnly=true then none else some ⟨m.number,done,left,m.calls+1⟩):=h.st.Bt.yJ;rw[It (by rw[g];decide)] at j;obtain⟨u,a,d,e,o,q,r⟩:=j;rw[h.mv] at e;simp only[DC,Hi,Cg,DK] at e;subst e;exact⟨a,d,o,q,r⟩
theorem S5(B:Nat)(L:NL)(N:NM)(M:DM)(y:Lay)(p t k0:Nat)(m:MgM)(i f:Nat)(w:World)(h:NRep w L N M)(b7:Z0 B w)(hB:B<=w.heap.size)(a2:∀ k,NFoot L M k->B<=k)(V:N.readOnly=false)(e5:N.mg=some m)(hl:Lk M y p t k0)(i5:k0+m.left.length<=980950)(g:Mgx M y m i f)(ht:t<=980000)
 (E:N.S.keys.length<1000000000)(hh:N.S.hints.length<1000000)(i4:m.calls<1000000000)(e7:m.number<1000000000000) :
 Calls Tryz.prog 89 #[.pointer (some ⟨L.nb,0,none⟩)] w (Mgo L N M y p t k0 m i f w):=by
 have hm:MRp w L.mv L.jb (if N.readOnly=true then none else N.mg):=h.yJ;rw[It (by rw[V];decide),e5] at hm;obtain⟨o,C,lv,b3,a0,c2,a6⟩:=hm;have g7:=hl.fl;have h6:=(Yz y i).length_le;have e6:=g.len;rw[Il] at e6;have c4:w.cell? ⟨L.nb,6,none⟩=some (.pointer (some ⟨o,0,none⟩)):=by have:w.cell? ⟨L.nb,6,none⟩=some L.mv:=h.Bi.cell 6;rw[b3] at this;exact this
 have g3:w.cell? ⟨o,2,none⟩=some (.int .i64 m.calls):=a0.cell 2;have h9:=a0.frozen;have i6:IntKind.i64.wrap ((m.calls:Int)+1)=(m.calls:Int)+1:=by rw[Hg];omega
 have fs:Fr (fun k=>k=o) w (w.setCell ⟨o,2,none⟩ (.int .i64 ((m.calls:Int)+1))):=Fr.set (S:=fun k=>k=o) (p:=⟨o,2,none⟩) (U _ _) (fun _=>rfl) _;have j:∀ {k t},Ty w k t->t≠201->¬k=o:=fun ht hn e=>by subst e;exact hn (ht.inj a0.ty)
 have d7:MRp (w.setCell ⟨o,2,none⟩ (.int .i64 ((m.calls:Int)+1))) L.mv L.jb (some ⟨m.number,m.done,m.left,m.calls+1⟩):=by
  refine⟨o,C,lv,b3,by have:=a0.set 2 (.int .i64 ((m.calls:Int)+1));simpa using this,c2.fr fs (j c2.ty (by decide)),?_⟩;obtain⟨g',k',d5,i0,q1,q2,q3,q4⟩:=a6;refine⟨g',k',d5,i0,ze q1 fs (fun i hi=>j (zH q1 hi) (by decide)),q2,q3,fun i hi=>?_⟩;obtain⟨u',h7,g6⟩:=q4 i hi;exact⟨u',h7,g6.kept fs (fun k E=>j E (by decide))⟩
 have d6:=h.BM.fr fs (fun k E=>by
  obtain⟨t,ht,hd⟩:=h.BM.ty E;unfold DTy at hd;refine j ht ?_;rcases hd with rfl|rfl|rfl|rfl|rfl <;> decide)
 have e8:=NStep.merged (mg:=some ⟨m.number,m.done,m.left,m.calls+1⟩) h V b3 (fs.mono (fun _ _ e=>.inl e)) d6 (fun k E=>.inl E) d7;have d8:Mwr L N M y p t k0 m i f o w m.done m.left {L with LD:=L.LD} M (w.setCell ⟨o,2,none⟩ (.int .i64 ((m.calls:Int)+1))) :=
  ⟨e8,b3,by rw[Bc,Fs];exact hl,⟨g.new,g.lt,g.yi,g.old,g.one,g.lo,g.hi,g.bytes,g.ok,g.held,g.An,g.len⟩,Io _,rfl,.inl rfl,Ans.refl M,rfl,rfl,rfl,rfl,rfl⟩
 have d4:=Z d8;have u:=Z (And.intro b7 (And.intro hB a2));have d1:=Z (And.intro E hh);have i3:m.left.length<=980040:=by omega
 clear h e5 a0 c2 a6 fs j d7 d6 e8 d8 b7 hB a2 hl g e6 h6 g7;go_enter Tryz.func89,Tryz.ntmps89;go_wp2_with fail;generalize w.setCell ⟨o,2,none⟩ (.int .i64 ((m.calls:Int)+1))=w1 at d4 |-;clear c4 g3 h9
 go_loopw [5] (fun _ w'=>∃ done left v Mi,Mwr L N M y p t k0 m i f o w done left v Mi w') (fun _ w'=>WF w' o)
 case atStart=>exact⟨m.done,m.left,_,M,d4.out⟩
 case round =>
  obtain⟨done,left,v,Mi,A⟩:=hrel;obtain⟨C,lv,hb,a1,T⟩:=A.merge V;have b:=Z A;have c3:wr.cell? ⟨o,1,none⟩=some lv:=hb.cell 1;cases left with
  | nil =>
   obtain⟨a,c,rfl⟩:∃ a c,lv=.slice a 0 c:=by obtain⟨_,_,_,_,_,_,q,_⟩:=T;exact q rfl
   have D:=A.lk;rw[Ho,Nat.sub_zero] at D;obtain⟨l,e9,d9,e0,e4,J4,M4,y4,q0,q1,q2,q3,q4,q5,q6,q7⟩:=JK (J:=N.J) D A.mx rfl ht (by omega);have a7:∀ k,NFoot v Mi k->B<=k:=fun k E=>(A.st.BF k E).elim (u.out.2.2 k) (fun e=>Im u.out.2.1 e);have c8:Z0 B wr:=u.out.1.fr u.out.2.1 A.st.fr u.out.2.2;have Y:B<=wr.heap.size:=Im u.out.2.1 A.st.fr.size;have b9:=Z (TP C v.jb v.db m.number N.J v.LD Mi l wr a1 A.st.Bt.log A.st.Bt.BM e7 (fun w' f'=>(c8.fr Y f' (fun _ e=>absurd e id)).1.1) (fun wx fx=>Su v.jb v.db N.J v.LD Mi (zn true m.number) l wx (Blk.fr A.st.Bt.log fx id) (A.st.Bt.BM.nil fx) d9 e0 (fun h1 h2 wy LX hd f _=>by
    have j:Z0 B wy:=(c8.fr Y fx (fun _ e=>absurd e id)).fr (Im Y fx.size) f (fun k e=>by
     rcases e with e|e
     .exact a7 k (.inr (.inl e))
     .exact a7 k (.inr (.inr (.inr (.inl e)))))
    have f7:B<=wy.heap.size:=Im (Im Y fx.size) f.size;exact e9 h1 h2 v.db LX wy hd (fun w' f'=>(j.fr f7 f' (fun _ e=>absurd e id)).1.1) j.2.1)))
   rw[q0] at b9;have g2:wr.cell? ⟨o,0,none⟩=some (.pointer (some ⟨C,0,none⟩)):=hb.cell 0;have d:=Z (And.intro q1 (And.intro q2 (And.intro q3 (And.intro q4 (And.intro q5 (And.intro q6 q7))))));clear A hb a1 T D e9 d9 e0 q0 q1 q2 q3 q4 q5 q6 q7 a7 c8 Y;go_wp2_with fail;refine b9.out.mono ?_;rintro e w3 ⟨v3,L3,rfl,hE,e1⟩;have s:=b.out.st.trans (NStep.Aj b.out.st.Bt e1);have O:=Z s;have HE:=Z hE;have K:=b.out.st.same.nb;clear e1 g2 b9 c3;cases e4 with
   | some n =>
    obtain⟨k,a3⟩:=hE;obtain⟨t5,b5,rfl⟩:=a3.form;clear a3 s;go_wp2_with fail;go_ret2;refine⟨false,some n,_,{v with LD:=L3},J4,some ⟨m.number,done,[],m.calls+1⟩,M4,y4,rfl,HE.out,O.out,d.out.1,d.out.2.1,b.out.Af.trans d.out.2.2.1,d.out.2.2.2.1.trans b.out.room,d.out.2.2.2.2.1.trans b.out.ids,fun e=>absurd e d.out.2.2.2.2.2.1,.inl ⟨by simp,rfl⟩⟩
   | none =>
    have hv:v3=.nilIface:=hE;subst hv;have c4:=s.Bt.Bi.cell;have h8:=s.Bt.Bi.frozen;simp only[K] at c4 h8;have b8:=Z (s.xo (N:={N with J:=J4,mg:=some ⟨m.number,done,[],m.calls+1⟩}) V (.pointer none) none rfl (fun k e=>by cases e));clear s hE;go_wp2_with fail;go_ret2;have a9:=b8.out;simp only[K] at a9;obtain⟨h1,h2,h3,h4⟩:=d.out.2.2.2.2.2.2 trivial;have b4:=b.out.all;rw[IV] at b4;refine⟨true,none,_,_,J4,none,M4,y4,rfl,rfl,a9,d.out.1,d.out.2.1,b.out.Af.trans d.out.2.2.1,d.out.2.2.2.1.trans b.out.room,d.out.2.2.2.2.1.trans b.out.ids,(fun e=>by cases e),.inr (.inr ⟨rfl,rfl,rfl,h1,h2,fun hj=>h3 ?_,?_,?_⟩)⟩
    .unfold Jl at hj |-
     rw[b.out.dir,b.out.safe,b.out.Bl];exact hj
    .rcases b.out.go with e|e
     .exact .inl (IY e.symm)
     .exact .inr e
    .rw[h4]
     show(zD done).length+_=_;rw[b4]
  | cons x left =>
   obtain⟨g0,i7,c0,u0,c6,i2,-,-,-,-⟩:=T.cons;subst c6;have D:=A.lk;have e2:=A.len;rw[Iz] at e2;obtain⟨r,M',q1,q2,q3,q4,q5,q6,q7,q8,q9,f1⟩:=Ja D A.mx rfl (by omega) (by omega);have f0:=A.mx.ok x (by simp);have c1:=Z (SB o C v.jb v.db m.number (m.calls+1) N.J v.LD Mi x left _ wr hb a1 T A.st.Bt.log A.st.Bt.BM D.bd.part f0.1.1.1 (by omega) (fun f hf=>by have:=D.bd.file hf;omega) (by omega));rw[q1] at c1;have d:=Z (And.intro q2 (And.intro q3 (And.intro q4 (And.intro q5 (And.intro q6 (And.intro q7 (And.intro q8 (And.intro q9 f1))))))));have d0:=Z a1;have f5:=Z T;have h5:=hb.ty;have f8:Hid (WF wr o=left.length+1):=by show WF wr o=_;unfold WF;rw[c3]
   have K:=b.out.st.same.nb;clear A hb a1 T D q1 q2 q3 q4 q5 q6 q7 q8 q9 f1 f0;go_wp2_with fail;refine c1.out.mono ?_;rintro e w3 ⟨v3,L3,c9,rfl,hE,b1,R,I,Q,b2,a4⟩;have j:∀ {k t},Ty wr k t->¬DTy t->t≠201->¬(k=o\/Foot v.db v.LD Mi k):=fun {k t} E g4 hj hf=>by
    rcases hf with hf|hf
    .subst hf;exact hj (E.inj h5)
    .exact b.out.st.Bt.BM.apart E g4 hf
   have G:=d0.out.fr R (j d0.out.ty (by unfold DTy;decide) (by decide));have HE:=Z hE;clear c1 c3;by_cases h0:r=0
   .have he0:zE r=none:=by unfold zE;rw[IC h0]
    rw[he0] at hE HE d;have hv:v3=.nilIface:=hE;subst hv;have s:=NStep.merged (mg:=some ⟨m.number,done++[x],left,m.calls+1⟩) b.out.st.Bt V b.out.mv R b1 I ⟨o,C,c9,b.out.mv,Q,G,b2 h0⟩;have a8:=b.out.st.trans s;have O:=Z a8;have d3:=Z (d.out.2.2.2.2.2.2.2.2 h0);have f2:=Z Q;have f3:=Z (b2 h0);have X:=Z (RO {v with LD:=L3} {N with mg:=some ⟨m.number,done++[x],left,m.calls+1⟩} M' o C c9 (m.calls+1) w3 a8.Bt b.out.mv Q d1.out.1 d1.out.2);rw[show({v with LD:=L3}:NL).nb=L.nb from K] at X;have e3:decide (N.S.keys.length+N.S.hints.length+4<=m.calls+1)=N.yv m:=rfl;have d2:=Z e3;clear hE HE s a8 Q b2 a4 b1 R I G j h0 he0 e3;cases hmu:N.yv m with
    | true =>
     have b0:=Z hmu;have c7:Hid (∀ _:World,Calls Tryz.prog 137 #[.pointer (some ⟨L.nb,0,none⟩)] w3 fun e w'=>e=.returned (.bool true)/\Fr Nil w3 w'):=fun _=>by have:=X.out;rw[show decide ((({N with mg:=some ⟨m.number,done++[x],left,m.calls+1⟩}:NM)).S.keys.length+(({N with mg:=some ⟨m.number,done++[x],left,m.calls+1⟩}:NM)).S.hints.length+4<=m.calls+1)=true from d2.out.trans hmu] at this;exact this
     clear X hmu;go_wp2_with fail;refine(c7.out w3).mono ?_;rintro e w4 ⟨rfl,f4⟩;have a9:=O.out.Bn f4;have g9:WF w4 o=left.length:=by
      have f9:=f2.out.fr f4 id;have g1:w4.cell? ⟨o,1,none⟩=some c9:=f9.cell 1;unfold WF;rw[g1];obtain⟨g5,k5,i1,i8,p1,p2,p3,p4⟩:=f3.out;by_cases hn:left=[]
      .obtain⟨a5,c5,rfl⟩:=p3 hn
       rw[hn];rfl
      .rw[p2 hn]
     have f6:Hid (Mwr L N M y p t k0 m i f o w (done++[x]) left {v with LD:=L3} M' w4) :=
      ⟨a9,b.out.mv,by have:=d.out.1;rw[Iz] at this;rw[show k0+(m.left.length-left.length)=k0+(m.left.length-(left.length+1))+1 by omega];exact this,d3.out,by omega,by rw[<- b.out.all];simp,.inr b0.out,b.out.Af.trans d.out.2.1,d.out.2.2.1.trans b.out.room,d.out.2.2.2.1.trans b.out.ids,d.out.2.2.2.2.1.trans b.out.dir,d.out.2.2.2.2.2.1.trans b.out.safe,d.out.2.2.2.2.2.2.1.trans b.out.Bl⟩
     clear a9 f4;go_wp2_with fail;exact⟨⟨_,_,_,_,f6.out⟩,by rw[g9,f8.out];omega⟩
    | false =>
     have b0:=Z hmu;have c7:Hid (∀ _:World,Calls Tryz.prog 137 #[.pointer (some ⟨L.nb,0,none⟩)] w3 fun e w'=>e=.returned (.bool false)/\Fr Nil w3 w'):=fun _=>by have:=X.out;rw[show decide ((({N with mg:=some ⟨m.number,done++[x],left,m.calls+1⟩}:NM)).S.keys.length+(({N with mg:=some ⟨m.number,done++[x],left,m.calls+1⟩}:NM)).S.hints.length+4<=m.calls+1)=false from d2.out.trans hmu] at this;exact this
     clear X hmu;go_wp2_with fail;refine(c7.out w3).mono ?_;rintro e w4 ⟨rfl,f4⟩;have b8:=Z (O.out.Bn f4);clear f4;go_wp2_with fail;go_ret2;have g8:left.length+1=m.left.length:=by
      rcases b.out.go with e|e
      .rw[Iz] at e;exact e
      .rw[b0.out] at e;cases e
     refine⟨false,none,_,_,N.J,some ⟨m.number,done++[x],left,m.calls+1⟩,M',y,rfl,rfl,b8.out,d.out.1.Ax (by omega),rfl,b.out.Af.trans d.out.2.1,d.out.2.2.1.trans b.out.room,d.out.2.2.2.1.trans b.out.ids,(fun e=>by cases e),.inr (.inl ⟨rfl,rfl,rfl,rfl,d.out.2.2.2.2.1.trans b.out.dir,d.out.2.2.2.2.2.1.trans b.out.safe,d.out.2.2.2.2.2.2.1.trans b.out.Bl,b0.out,by have:=d.out.1;rw[Iz,show k0+(m.left.length-(left.length+1))+1=k0+1 by omega] at this;exact this,_,_,rfl,d3.out,g8,by rw[<- b.out.all];simp⟩)⟩
   .have he0:zE r=some r:=by unfold zE;rw[It h0]
    rw[he0] at hE HE d;have c6:=a4 h0;subst c6;have b6:=f5.out.kept R (fun k t E ht=>by
     rcases ht with rfl|rfl
     .exact j E (by unfold DTy;decide) (by decide)
     .exact j E (by unfold DTy;decide) (by decide))
    have s:=NStep.merged (mg:=some ⟨m.number,done,x::left,m.calls+1⟩) b.out.st.Bt V b.out.mv R b1 I ⟨o,C,_,b.out.mv,Q,G,b6⟩;have O:=Z (b.out.st.trans s);obtain⟨k,a3⟩:=hE;obtain⟨t5,b5,rfl⟩:=a3.form;clear a3 s b6 Q b2 a4 b1 R I G j h0 he0;go_wp2_with fail;go_ret2;refine⟨false,some r,_,_,N.J,some ⟨m.number,done,x::left,m.calls+1⟩,M',y,rfl,HE.out,O.out,d.out.1.Ax (by omega),rfl,b.out.Af.trans d.out.2.1,d.out.2.2.1.trans b.out.room,d.out.2.2.2.1.trans b.out.ids,fun e=>by have:=d.out.2.2.2.2.2.2.2.1 e;rw[b.out.room] at this;exact this,.inl ⟨by simp,rfl⟩⟩
theorem Jc{K:Keys}{a:ByteArray}(l:List Ver)(h:∀ x∈K,zh x.1 a=true):ZU K a l=K++[(a,l)]:=by
 have b:low zh (K.map Prod.fst) a=K.length:=Vn _ _ _ _ (by simp) (fun k c _=>by rw[IR];exact h _ (Iu _)) (fun c=>absurd c (by simp));unfold ZU;rw[b,WE (by rw[b];simp),It (by decide),ID,EM,IV]
theorem S6:∀(b:Keys)(S:SM),YH (S.keys++b)->(∀ e∈b,e.2≠[])->(b.map (fun e=>(.inr (.inl e):Fact))).foldl SM.enter S={S with keys:=S.keys++b}
 | [],S,_,_=>by simp
 | (a,l)::b,S,h,c=>by
  have d:S.enter (.inr (.inl (a,l)))={S with keys:=S.keys++[(a,l)]}:=by
   show S.holds a l=_;unfold SM.holds;rw[It (c (a,l) (Is ..)),Jc];intro x g;unfold YH at h;rw[IL] at h;exact(GT.1 h).2.2 x.1 (Hq g) a (by simp)
  rw[IJ,Hk,d,S6 b _ (by simpa using h) (fun e f=>c e (Iq _ f))];simp
theorem UU:∀(a:List (Nat × ByteArray))(S:SM),(a.map (fun h=>(.inr (.inr (.inl h)):Fact))).foldl SM.enter S={S with hints:=S.hints++a}
 | [],S=>by simp
 | h::a,S=>by
  rw[IJ,Hk,show S.enter (.inr (.inr (.inl h)))={S with hints:=S.hints++[h]} from rfl,UU a];simp
theorem S7{S:SM}(h:zK S):S.facts.foldl SM.enter SM.nil=S:=by
 unfold SM.facts;rw[Hk,Hm,S6 S.keys _ (by show YH ([]++S.keys);rw[Hh];exact h.Aa) h.some,UU]
 rfl
theorem Jd{S:SM}(h:zK S)(c:S.Bh<9223372036854775808):∀ x∈S.facts,ZW x/\(zj x).size<=2000:=by
 intro x b;unfold SM.facts at b;simp only[IW,Ir,Iy] at b;rcases b with rfl|⟨e,a,rfl⟩|⟨e,a,rfl⟩
 .exact⟨Uo c,LI c⟩
 .have:=h.key e a
  exact⟨XG (h.names e a) this.2.2 (by omega),YP (h.names e a) this.2.2 (by omega)⟩
 .have:=h.text e a
  exact⟨VY (by omega) this.2,XF (by omega) this.2⟩
theorem S8:∀(a:List Fact)(S:SM),(∀ x∈a,x≠.inr (.inr (.inr ())))->S.hints.length<=(a.foldl SM.enter S).hints.length
 | [],_,_=>Io _
 | x::a,S,h=>by
  refine Im ?_ (S8 a (S.enter x) (fun y b=>h y (Iq _ b)));rcases x with n|e|e|e
  .exact Io _
  .exact Io _
  .show _<=(S.hints++[e]).length
   rw[Il];omega
  .exact absurd rfl (h _ (Is ..))
theorem Kf{S:SM}(h:zK S)(k:Nat):((S.facts.take k).foldl SM.enter SM.nil).hints.length<=32:=by
 have b:=S8 (S.facts.drop k) ((S.facts.take k).foldl SM.enter SM.nil) (fun x a=>by
  have a:=IK a;unfold SM.facts at a;simp only[IW,Ir,Iy] at a;rcases a with rfl|⟨e,c,rfl⟩|⟨e,c,rfl⟩ <;> (intro e;cases e))
 rw[<- Hm,IG,S7 h] at b;exact Im b h.hlen
theorem Kg{S:SM}(h:zK S){F:List Fact}(b:S=F.foldl SM.enter SM.nil):S.facts.length<=F.length+40:=by
 have a:=XZ F SM.nil;rw[<- b] at a;have c:=h.hlen;have d:SM.nil.keys.length=0:=rfl;unfold SM.facts;simp only[Iz,Il,IE];omega
theorem Je{J:JM}{M:DM}{y:Lay}{p t:Nat}(h:Lg M y p t)(q:Jl J M y)(s:y.new=none)(u:t+4<=1000000){S:SM}(l:S=y.F.foldl SM.enter SM.nil)(a:zK S)(r:S.Bh<9223372036854775808)
 (f g:Nat)(m:f∉M.ids)(o:g∉(J.begin M (J.last+2) f).2.2.ids) :
 ∃ e d b c,J.BW M f g=(e,d,b)/\Lg b c p (t+3)/\c.F=y.F/\Ans M b e/\b.room=M.room/\(∀ k∈b.ids,k=f\/k=g\/k∈M.ids)/\b.BU=M.BU/\e≠some 10 /\
  (e=none->Jl d b c/\d.limit=J.limit/\∃ i f,Mgx b c ⟨J.last+1,[],S.facts,1⟩ i f/\∃ n j,c.G.drop i=[(n,j,([],[]))]) :=
 JJ h q s u S.facts (Jd a r) (by rw[S7 a,l]) (Kf a) (Kg a l) f g m o
def Mst(N:NM)(y:Lay)(p t k i f:Nat)(a:Bool)(b:Option MgM)(c:DM)(h:Lay):Prop :=
 (N.mg=none/\a=false/\b=some ⟨N.J.last+1,[],N.S.facts,1⟩/\∃ i f,Mgx c h ⟨N.J.last+1,[],N.S.facts,1⟩ i f/\∃ n j,h.G.drop i=[(n,j,([],[]))]) \/
 (∃ m d g,N.mg=some m/\a=false/\N.yv m=false/\h=y/\Lk c y p t (k+1)/\b=some ⟨m.number,d,g,m.calls+1⟩/\Mgx c y ⟨m.number,d,g,m.calls+1⟩ i f/\g.length+1=m.left.length/\d++g=m.done++m.left) \/
 (∃ m,N.mg=some m/\a=true/\b=none/\(m.left=[]\/N.yv m=true)/\c.BU=(zD (m.done++m.left)).length+((y.G.drop i).map fun e=>(Zv e.2.2).length).sum)
structure Mgw(L:NL)(N:NM)(M:DM)(y:Lay)(p t k0 i f:Nat)(w:World)(fin:Bool)(er:Option Int)(L':NL)(J':JM)(mg':Option MgM)(M':DM)(y':Lay):Prop where
 lg:Lg M' y' p (t+3)
 F:y'.F=y.F
 Af:Ans M M' er
 room:M'.room=M.room
 full:er=some 10->M.room<2100000000000000
 stop:er≠none->fin=false
 AR:er=none->Jl J' M' y'/\Mo M' y' mg'/\J'.limit=N.J.limit/\Mst N y p t k0 i f fin mg' M' y'
theorem SC(B:Nat)(L:NL)(N:NM)(M:DM)(w:World)(h:NRep w L N M)(I:Env B L M w)(p:N.readOnly=false)(D:N.mg=none)(o:N.J.last+2<1000000000000)
 (i:(N.J.Bj M).2.Bl.length+1<=1000000000000)(j:(N.J.Bj M).2.dir.length+1<=1000000000000)
 (l:∀ f,w.heap.size<=f->(N.J.begin M (N.J.last+2) f).2.2.Bl.length+1<=1000000000000/\(N.J.begin M (N.J.last+2) f).2.2.dir.length+1<=1000000000000)
 (A:N.S.keys.length<1000000000)(T:N.S.hints.length<1000000) :
 Calls Tryz.prog 89 #[.pointer (some ⟨L.nb,0,none⟩)] w fun e O=>∃ f g v a,e=.returned (.tuple #[.bool false,v])/\w.heap.size<=f/\g∉(N.J.begin M (N.J.last+2) f).2.2.ids/\w.heap.size<=g/\ERep O v (N.begun M f g).1/\NStep L M w a (N.begun M f g).2.1 (N.begun M f g).2.2 O:=by
 have C:MRp w L.mv L.jb (if N.readOnly=true then none else N.mg):=h.yJ;rw[It (by rw[p];decide),D] at C;have E:L.mv=.pointer none:=C;have S:w.cell? ⟨L.nb,6,none⟩=some (.pointer none):=by have:w.cell? ⟨L.nb,6,none⟩=some L.mv:=h.Bi.cell 6;rw[E] at this;exact this
 have R:=Z (Te B L N M w h I p o i j l A T);clear h I i j l C;go_enter Tryz.func89,Tryz.ntmps89;go_wp2_with fail;refine R.out.mono ?_;rintro e Q ⟨f,g,v,a,rfl,J,K,m,d,q⟩;have G:Hid (∃ f g a,w.heap.size<=f/\g∉(N.J.begin M (N.J.last+2) f).2.2.ids/\w.heap.size<=g/\ERep Q v (N.begun M f g).1/\NStep L M w a (N.begun M f g).2.1 (N.begun M f g).2.2 Q):=⟨f,g,a,J,K,m,d,q⟩;have c:v=.nilIface\/∃ t b,v=.iface t (.pointer (some ⟨b,0,none⟩)):=by
  cases hx:(N.begun M f g).1 with
  | none=>rw[hx] at d;exact .inl d
  | some n=>rw[hx] at d;obtain⟨k,A⟩:=d;obtain⟨t,b,rfl⟩:=A.form;exact .inr ⟨t,b,rfl⟩
 clear J K m d q;rcases c with rfl|⟨t,b,rfl⟩
 .go_wp2_with fail
  go_ret2;obtain⟨f,g,a,r,s,u,x,y⟩:=G.out;exact⟨f,g,_,a,rfl,r,s,u,x,y⟩
 .go_wp2_with fail
  go_ret2;obtain⟨f,g,a,r,s,u,x,y⟩:=G.out;exact⟨f,g,_,a,rfl,r,s,u,x,y⟩
theorem MO(B:Nat)(L:NL)(N:NM)(M:DM)(y:Lay)(p t R i f:Nat)(w:World)(h:NRep w L N M)(s:Z0 B w)(hB:B<=w.heap.size)(b:∀ k,NFoot L M k->B<=k)(Q:N.readOnly=false)(C:Lk M y p t R)(A:Jl N.J M y)(a0:N.mg=none->R=0)(a1:∀ m,N.mg=some m->R+m.left.length<=980950)
 (a5:N.mg=none->y.new=none)(a3:∀ m,N.mg=some m->Mgx M y m i f/\m.calls<=m.done.length+1)(hS:N.S=y.F.foldl SM.enter SM.nil)(c:zK N.S)(J:N.S.Bh<9223372036854775808)(ht:t<=980000) :
 Calls Tryz.prog 89 #[.pointer (some ⟨L.nb,0,none⟩)] w fun e w'=>∃ j q v E u o x T,e=.returned (.tuple #[.bool j,v])/\ERep w' v q/\NStep L M w E {N with J:=u,mg:=o} x w'/\Mgw L N M y p t R i f w j q E u o x T:=by
 have a9:=C.fl;have b9:N.S.keys.length<=t:=by
  have h1:=XZ y.F SM.nil;rw[<- hS] at h1;have h3:SM.nil.keys.length=0:=rfl;omega
 have b0:=c.hlen;have a2:=C.yD A.1;cases hm:N.mg with
 | none =>
  have hn:=a5 hm;obtain rfl:=a0 hm;obtain⟨e1,M1,ea,I,_⟩:=XI C A.1 (by omega);have r:∀ g∈M.ids,g<w.heap.size:=fun g hg=>(h.BM.files g hg).lt;have a6:=I.bd.Bl;have a7:=I.bd.dir;refine(SC B L N M w h ⟨s.1,hB,fun k hk=>b k (.inr (.inr (.inr (.inl hk))))⟩ Q hm (by omega) (by rw[ea];show M1.Bl.length+1<=_;omega) (by rw[ea];show M1.dir.length+1<=_;omega) (fun f hf=>?_) (by omega) (by omega)).mono ?_
  .obtain⟨e2,J2,M2,y2,S,G,_⟩:=Sv C A (by omega) (N.J.last+2) f (by omega) (by omega) (fun D=>by have:=r f D;omega)
   rw[S];have:=G.bd.Bl;have:=G.bd.dir;exact⟨by show M2.Bl.length+1<=_;omega,by show M2.dir.length+1<=_;omega⟩
  rintro e w' ⟨f',g,v,E,rfl,a8,hg,_,X,l⟩;obtain⟨q,u,x,T,S,G,q3,q4,q5,_,_,q8,q9⟩:=Je C A hn (by omega) hS c J f' g (fun D=>by have:=r f' D;omega) hg;have hb:N.begun M f' g=(q,{N with J:=u,mg:=if q=none then some ⟨N.J.last+1,[],N.S.facts,1⟩ else N.mg},x):=by unfold NM.begun;rw[S]
  rw[hb] at X l;refine⟨false,q,v,E,u,_,x,T,rfl,X,l,⟨G,q3,q4,q5,fun e=>absurd e q8,fun _=>rfl,fun V=>?_⟩⟩;obtain⟨r1,r2,i2,f2,r3,r4⟩:=q9 V;rw[IC V];exact⟨r1,⟨i2,f2,r3,Io _⟩,r2,.inl ⟨hm,rfl,rfl,i2,f2,r3,r4⟩⟩
 | some m =>
  obtain⟨Y,hc⟩:=a3 m hm;have c0:=(Yz y i).length_le;have a4:=Y.len;rw[Il] at a4;have O:m.number<1000000000000:=by
   have K:=Y.lt;have h4:=Y.hi _ (IP.2 ⟨0,by rw[Iw];omega,by rw[Gd];rfl⟩:y.G[i]'K∈y.G.drop i);have h5:=(C.pos _ (Iu K)).2;omega
  refine(S5 B L N M y p t R m i f w h s hB b Q hm C (a1 m hm) Y ht (by omega) (by omega) (by omega) O).mono ?_;rintro e w' ⟨j,q,v,E,u,o,x,T,rfl,X,l,S,G,q3,q4,q5,q6,q7⟩;refine⟨j,q,v,E,u,o,x,T,rfl,X,l,⟨S.more (by omega),G,q3,q4,q6,fun e=>?_,fun V=>?_⟩⟩
  .rcases q7 with⟨_,a⟩|⟨a,_⟩|⟨a,_⟩
   .exact a
   .exact absurd a e
   .exact absurd a e
  .rcases q7 with⟨a,_⟩|⟨_,a,rfl,rfl,b1,b2,b3,b4,b8,d,lf,rfl,b5,b6,b7⟩|⟨_,a,rfl,b1,b2,b3,b4,b5⟩
   .exact absurd V a
   .refine⟨?_,⟨i,f,b5,?_⟩,rfl,.inr (.inl ⟨m,d,lf,hm,a,b4,rfl,b8,rfl,b5,b6,b7⟩)⟩
    .unfold Jl at A |-
     rw[b1,b2,b3];exact A
    .have h7:=Fg List.length b7
     rw[Il,Il] at h7;show m.calls+1<=d.length+1;omega
   .exact⟨b3 A,b1,b2,.inr (.inr ⟨m,hm,a,rfl,b4,b5⟩)⟩
theorem OW(D:zr)(B:Nat)(L:NL)(N:NM)(M:DM)(y:Lay)(p t O i f:Nat)(w:World)(h:NRep w L N M)(c:Z0 B w)(X:B<=w.heap.size)(a:∀ k,NFoot L M k->B<=k)(K:N.readOnly=false)(hl:Lk M y p t O)(hj:Jl N.J M y)(A:N.mg=none->O=0)(E:∀ m,N.mg=some m->O+m.left.length<=980950)
 (J:N.mg=none->y.new=none)(I:∀ m,N.mg=some m->Mgx M y m i f/\m.calls<=m.done.length+1)(hS:N.S=y.F.foldl SM.enter SM.nil)(b:zK N.S)(G:N.S.Bh<9223372036854775808)(ht:t<=980000) :
 Calls Tryz.prog 40 #[.pointer (some ⟨L.nb,0,none⟩)] w fun e w'=>∃ d q L' Q j x y',e=.returned (.tuple #[.bool d,.int .i64 (ZA q)])/\NStep L M w L' (({N with J:=Q,mg:=j}:NM).Af q) x w'/\Mgw L N M y p t O i f w d q L' Q j x y':=by
 have Y:w.cell? ⟨L.nb,7,none⟩=some (.bool false):=by have:w.cell? ⟨L.nb,7,none⟩=some (.bool N.readOnly):=h.Bi.cell 7;rw[K] at this;exact this
 have HS:=Z (MO B L N M y p t O i f w h c X a K hl hj A E J I hS b G ht);have HE:=Z (show Yf B L M w from⟨c.1,X,a⟩);clear h c X a hl hj A E J I hS b;go_enter Tryz.func40,Tryz.ntmps40;go_wp2_with fail;refine HS.out.mono ?_;rintro e w1 ⟨d,q,v,L1,Q,j,x,y',rfl,hE,r,hw⟩;have R:=Z hE;have V:=Z r;have o:=Z hw;have a0:=r.same.nb;clear hE r hw Y HS;have u:=Z (zz {data:=#[109,101,114,103,105,110,103]} v q w1 R.out);go_wp2_with fail;refine u.out.mono ?_;rintro e w2 ⟨v2,rfl,C,f2⟩;have g:=V.out.Bn f2;have s:=Z (ZN D B L1 _ x v2 q w2 g.Bt (HE.out.step g) C);rw[a0] at s;have S:=Z g;clear g C f2 u;go_wp2_with fail;refine s.out.mono ?_;rintro e w3 ⟨L3,rfl,l⟩;have T:=Z (S.out.trans l);clear l
 go_wp2
 go_ret2;exact⟨d,q,L3,Q,j,x,y',rfl,T.out,o.out.lg,o.out.F,o.out.Af,o.out.room,o.out.full,o.out.stop,o.out.AR⟩
structure Mrg(W:WM)(N:NM)(M:DM)(F:List Fact)(p t:Nat)(er:Option Int)(N':NM)(M':DM):Prop where
 Af:Ans M M' er
 room:M'.room=M.room
 full:er=some 10->M.room<2100000000000000
 AR:er=none->NI W N' M' F p t
 gone:er≠none->Sh {W with broken:=true} M' F p t/\(M'.dead=false->NI {W with broken:=true} N' M' F p t)
theorem NI.merged{W:WM}{N:NM}{M:DM}{F:List Fact}{p t:Nat}(h:NI W N M F p t){b:Option Int}{c:JM}{a:Option MgM}{d:DM}{i:Lay}(s:Lg d i p (t+3))(q:i.F=F)(A:Ans M d b)(l:d.room=M.room)(f:b=some 10->M.room<2100000000000000)(E:b=none->Jl c d i/\Mo d i a) :
 Mrg W N M F p (t+3) b (({N with J:=c,mg:=a}:NM).Af b) d:=by
 have j:=h.cm.more (u:=t+3) (by omega);refine⟨A,l,f,fun m=>?_,fun m=>?_⟩
 .subst m
  have G:(({N with J:=c,mg:=a}:NM).Af none)={N with J:=c,mg:=a}:=by unfold NM.Af;simp
  rw[G];have r:d.dead=false:=by
   rcases A.1 with⟨_,_,_,D⟩|⟨_,⟨o,_⟩|⟨o,_⟩⟩
   .exact D.trans h.dead
   .cases o
   .cases o
  exact {h with
   kp:=⟨⟨i,s,q,fun _=>E rfl⟩,h.kp.held⟩
   cm:=j
   room:=l.trans h.room
   nw:=by have:=h.nw;show N.writes<=_;omega
   dead:=r}
 .have hr2:(({N with J:=c,mg:=a}:NM).Af b).readOnly=true:=by
   cases b with
   | none=>exact absurd rfl m
   | some n=>simp[NM.Af]
  have k:Cm {W with broken:=true} (t+3):=j.AP (W':={W with broken:=true}) rfl j.AV j.len h.cm.ne j.ww rfl rfl rfl rfl;refine⟨⟨⟨i,s,q⟩,k,l.trans h.room,.inl ⟨h.yG,.inl h.BR⟩⟩,fun r=>?_⟩;have y:(({N with J:=c,mg:=a}:NM).Af b).S=N.S:=by cases b <;> rfl
  have g:(({N with J:=c,mg:=a}:NM).Af b).self=N.self/\(({N with J:=c,mg:=a}:NM).Af b).given=N.given/\(({N with J:=c,mg:=a}:NM).Af b).every=N.every/\(({N with J:=c,mg:=a}:NM).Af b).writes=N.writes:=by cases b <;> exact⟨rfl,rfl,rfl,rfl⟩
  obtain⟨v,x,B,C⟩:=g;exact⟨⟨⟨i,s,q,fun e=>by rw[hr2] at e;cases e⟩,by rw[y];exact h.kp.held⟩,k,l.trans h.room,h.BR,h.yG,hr2,by rw[v];exact h.self,by rw[v];exact h.nd,by rw[x];exact h.most,by rw[x,y];exact h.given,fun e=>by(rw[hr2] at e;cases e),by rw[B];exact h.every,fun e=>by(rw[hr2] at e;cases e),by rw[C];have:=h.nw;omega,r⟩
def OpM.BS(o:OpM):List Value:=[.int .i64 o.kind,.int .i64 o.a,.int .i64 o.b,.string o.key,.string o.text]++o.v.cells++[o.Ai]
def PI(w:World)(a:Addr)(b:List OpM):Prop:=∀ i (h:i<b.length) k,k<14->w.cell? ((a.add (i*14)).add k)=b[i].BS[k]?
theorem Kh(a:Addr):a.add 0=a:=by unfold Addr.add;simp
theorem ZF(a:Addr)(k:Nat)(h:k≠0):a.add k=⟨a.block,a.off+k,none⟩:=by unfold Addr.add;simp[h]
theorem S9(a:Addr)(i:Nat):(a.add i).block=a.block:=by unfold Addr.add;split <;> rfl
theorem Ans.xz{M c:DM}{e:Option Int}{n t:Nat}(h:Ans M c e)(g:Bd M t)(o:t<=1000000)(i:M.dead=false)(l:M.cut=0)(m:M.fail=0)(r:M.room=1152921504606846976)(a:e=some 10->M.room<M.BU+n)(q:n<=100000):e=none/\c.cut=0/\c.fail=0/\c.dead=false:=by
 have d:=h.2.cut;have f:=h.2.fail;rcases h.1 with⟨b,_,_,k⟩|⟨_,⟨b,_⟩|⟨b,_⟩⟩
 .exact⟨b,d.trans l,f.trans m,k.trans i⟩
 .have h1:=h.2.bad b i
  have p:=g.c0;rcases h1.2 with⟨j,_⟩|⟨j,_⟩ <;> omega
 .have h1:=a b
  have:=g.BU o;omega
theorem Ki(W:WM)(m:LM):(W.Ae m).st[(W.Ae m).st.length-1]?=some m:=by
 unfold WM.Ae;simp only;split
 .have e1:(W.st++[m]).drop ((W.st++[m]).length-1)=[m]:=by
   rw[Il,Ix,Nat.add_sub_cancel,Fi]
  rw[e1]
  rfl
 .rw[Il,Ix,Nat.add_sub_cancel]
  simp
theorem Aft.says{W:WM}{c:LM}{M:DM}{a:NM}{d:DM}{g:Nat}(h:Aft W c M none a d g):Z9 c a.S:=by
 obtain⟨i,j,e⟩:=h.Ae;obtain⟨m,b,f,_⟩:=e.now;rw[Ki] at b;obtain rfl:=Hb b;exact f
structure Rk(w0 w:World)(sb n t syn calls:Nat)(nums:Value)(W:WM)(X:NL)(N:NM)(M:DM)(F:List Fact)(p:Nat):Prop where
 kp:Kpt w0 w sb n calls nums X N M
 ni:NI W N M F p t
 cut:M.cut=0
 fail:M.fail=0
 ro:N.readOnly=false
 every:W.every=(syn:Int)
 node:W.node=(n:Int)
 room:W.room=-1
 top:calls<=t
 BV:W.BV=false
theorem Rk.nil{g w w':World}{e n t d a:Nat}{c:Value}{W:WM}{X:NL}{N:NM}{M:DM}{F:List Fact}{p:Nat}(h:Rk g w e n t d a c W X N M F p)(f:Fr Nil w w'):Rk g w' e n t d a c W X N M F p :=
 {h with kp:=h.kp.nil f}
theorem Rk.more{f w:World}{e n t u c a:Nat}{b:Value}{W:WM}{X:NL}{N:NM}{M:DM}{F:List Fact}{p:Nat}(h:Rk f w e n t c a b W X N M F p)(d:t<=u):Rk f w e n u c a b W X N M F p :=
 {h with ni:=h.ni.more d,top:=Im h.top d}
theorem Rk.As{e w:World}{d n t c a:Nat}{b:Value}{W:WM}{X:NL}{N:NM}{M:DM}{F:List Fact}{p:Nat}(h:Rk e w d n t c a b W X N M F p):M.room=1152921504606846976:=by
 rw[h.ni.room];unfold WM.As;rw[h.room];rfl
theorem Opd.wm{W a:WM}{M c:DM}{b:Nat}{N:NM}(h:Opd W M b N c a):a.node=W.node/\a.every=b/\a.writes=0/\a.broken=false/\a.room=W.room/\a.BV=false:=by
 obtain⟨_,_,_,_,_,_,_,_,_,rfl⟩:=h.found;exact⟨rfl,rfl,rfl,rfl,rfl,rfl⟩
theorem Jf(W:WM)(m:LM):(W.Ae m).every=W.every/\(W.Ae m).node=W.node/\(W.Ae m).room=W.room/\(W.Ae m).BV=W.BV /\
 (((0<W.every/\((W.writes+1:Nat):Int).tmod W.every=0)/\(W.Ae m).st=[m])\/(¬(0<W.every/\((W.writes+1:Nat):Int).tmod W.every=0)/\(W.Ae m).st=W.st++[m])):=by
 unfold WM.Ae WM.due;simp only[Hz,IF];split
 .rename_i h
  exact⟨rfl,rfl,rfl,rfl,.inl ⟨h,by simp⟩⟩
 .rename_i h
  exact⟨rfl,rfl,rfl,rfl,.inr ⟨h,rfl⟩⟩
theorem NB(N:NM)(M:DM):(N.sync M).2.1.mg=N.mg:=rfl
theorem MP(N:NM)(M:DM):(N.counted M).2.1.mg=N.mg:=by
 unfold NM.counted;split
 .exact NB _ M
 .rfl
theorem Kj(N:NM)(M:DM)(x:Fact)(f:Nat):(N.change M x f).2.1.mg=N.mg:=by
 unfold NM.change;split
 .rfl
 .exact MP _ _
theorem V1(N:NM)(M:DM)(x:Fact)(f:Nat):(N.asked M x f).2.1.mg=N.mg:=Kj N M x f
theorem SD(N:NM)(M:DM)(f:Nat):(N.next M f).2.2.1.mg=N.mg:=by
 have h:(N.BG M f).2.1.mg=N.mg:=by
  unfold NM.BG;split
  .rfl
  .exact NB _ _
 unfold NM.next;split
 .rfl
 .split
  .exact h
  .exact h
theorem Sa(N:NM)(M:DM)(a:ByteArray)(b:NM->Nat->List Ver)(f g:Nat):(N.replace M a b f g).2.2.1.mg=N.mg:=by
 unfold NM.replace;split
 .exact SD N M f
 .split
  .exact(V1 _ _ _ _).trans (SD N M f)
  .exact(V1 _ _ _ _).trans (SD N M f)
theorem Ia(N:NM)(M:DM)(b a:ByteArray)(f g:Nat):(N.put M b a f g).2.2.1.mg=N.mg:=by
 unfold NM.put;split
 .rfl
 .split
  .rfl
  .split
   .rfl
   .exact Sa _ _ _ _ _ _
theorem Rl(N:NM)(M:DM)(a:ByteArray)(f g:Nat):(N.delete M a f g).2.2.1.mg=N.mg:=by
 unfold NM.delete;split
 .rfl
 .split
  .rfl
  .exact Sa _ _ _ _ _ _
theorem JL(N:NM)(M:DM)(b:Int)(a:ByteArray)(f:Nat):(N.hint M b a f).2.1.mg=N.mg:=by
 rw[Tc];split
 .rfl
 .exact V1 _ _ _ _
theorem Ib(N:NM)(M:DM)(f:Nat):(N.AH M f).2.1.mg=N.mg:=by
 rw[Nz];split
 .rfl
 .exact V1 _ _ _ _
def Wrt(p:World)(o n t c a:Nat)(b:Value)(W:WM)(X:NL)(N:NM)(M:DM)(w:World)(g:LM->LM->Prop)(j:World):Prop :=
 ∃ m e h d i f k l,Rk p j o n t c a b f h d i k l/\h.nb=X.nb/\m∈W.st/\Z9 m N.S/\Z9 e d.S/\g m e/\(f.st=[e]\/(c≠1/\f.st=W.st++[e]))/\d.mg=N.mg/\NStep X M w h d i j
theorem NI.yu{W:WM}{N:NM}{M:DM}{F:List Fact}{p t:Nat}(h:NI W N M F p t):∃ m,m∈W.st/\Z9 m N.S/\MOk W.node m t:=by
 obtain⟨m,a,b,c⟩:=h.now;exact⟨m,GS a,b,c⟩
theorem Aft.rk{x w v:World}{u n t j c:Nat}{d:Value}{W f:WM}{X r:NL}{N k:NM}{M o:DM}{F:List Fact}{p:Nat}{m l:LM}{s:Option Int}{g:LM->LM->Prop}(h:Rk x w u n t j c d W X N M F p)(ht:t+20<=980000)(a:Aft f l M s k o (t+10))(b:NStep X M w r k o v)
 (i:f.st=W.st/\f.every=W.every/\f.node=W.node/\f.room=W.room/\f.BV=W.BV)(J:m∈W.st)(L:Z9 m N.S)(G:g m l)(q:k.mg=N.mg):s=none/\Wrt x u n (t+10) j c d W X N M w g v:=by
 have I:=h.kp.step b;have D:=b.same.nb;obtain⟨rfl,A,B,Y⟩:=a.Af.xz h.ni.bd (by omega) h.ni.dead h.cut h.fail h.As a.full (by decide);obtain⟨y,O,K⟩:=a.Ae;obtain⟨Q,R,S,V,T⟩:=Jf f l;refine⟨rfl,m,l,r,k,o,_,y,O,⟨I,K,A,B,a.ro,by rw[Q,i.2.1];exact h.every,by rw[R,i.2.2.1];exact h.node,by rw[S,i.2.2.2.1];exact h.room,by have:=h.top;omega,by rw[V,i.2.2.2.2];exact h.BV⟩,D,J,L,a.says,G,?_,q,b⟩;rcases T with⟨_,e⟩|⟨E,e⟩
 .exact .inl e
 .refine .inr ⟨fun C=>E ?_,by rw[e,i.1]⟩
  rw[i.2.1,h.every,C];refine⟨by decide,?_⟩;show Int.tmod _ 1=0;exact Int.tmod_one _
theorem Rk.delete(j:zr){B:Nat}{r w:World}{E n t q b:Nat}{d:Value}{W:WM}{X:NL}{N:NM}{M:DM}{F:List Fact}{p:Nat}(h:Rk r w E n t q b d W X N M F p)(o:Z0 B r)(I:B<=r.heap.size)(Q:t+20<=980000)(a:ByteArray)(L:zF a=true) :
 Calls Tryz.prog 30 #[.pointer (some ⟨X.nb,0,none⟩),.string a] w fun e G=>∃ A:Int,e=.returned (.tuple #[.int .i64 A,.int .i64 0])/\Wrt r E n (t+10) q b d W X N M w (fun m y=>y=m.delete a) G:=by
 obtain⟨m,v,D,x⟩:=h.ni.yu;have k:∀ g∈M.ids,g<w.heap.size:=fun g u=>(h.kp.st.node.BM.files g u).lt;have C:=h.ni.delete (m:=m) (H0:=w.heap.size) (by omega) h.ro D x k a L;refine(WP j B X N M a w h.kp.st.node (h.kp.env o I) (fun _ _=>C.1 _ (Io _))).mono ?_;rintro e G ⟨f,g,V,rfl,K,u,s,c⟩;obtain⟨Y,T,S,J,O,i⟩:=C.2.2.2 f g K u s;have l:=Rl N M a f g;rw[J] at c l |-;obtain⟨rfl,R⟩:=Aft.rk (g:=fun m y=>y=m.delete a) h Q i c ⟨rfl,rfl,rfl,rfl,rfl⟩ v D rfl l;exact⟨_,rfl,R⟩
theorem Rk.AH(j:zr){B:Nat}{s w:World}{D n t r a:Nat}{c:Value}{W:WM}{X:NL}{N:NM}{M:DM}{F:List Fact}{p:Nat}(h:Rk s w D n t r a c W X N M F p)(q:Z0 B s)(G:B<=s.heap.size)(O:t+20<=980000)(x:N.S.hints.length≠0) :
 Calls Tryz.prog 28 #[.pointer (some ⟨X.nb,0,none⟩)] w fun e E=>e=.returned (.int .i64 0)/\Wrt s D n (t+10) r a c W X N M w (fun m y=>y=m.AH) E:=by
 obtain⟨m,u,C,v⟩:=h.ni.yu;have k:∀ g∈M.ids,g<w.heap.size:=fun g K=>(h.kp.st.node.BM.files g K).lt;have A:=h.ni.AH (m:=m) (H0:=w.heap.size) (by omega) C v k;have o:Vx N=none:=by unfold Vx;rw[h.ro,It (by decide),It x]
 refine(SV j B X N M w h.kp.st.node (h.kp.env q G) (fun d=>A.1 _ (Io _) d)).mono ?_;rintro e E ⟨f,T,rfl,J,b⟩;obtain⟨V,S,R,I,L,i⟩:=A.2 o f J;have l:=Ib N M f;rw[I] at b l |-;obtain⟨rfl,Q⟩:=Aft.rk (g:=fun m y=>y=m.AH) h O i b ⟨rfl,rfl,rfl,rfl,rfl⟩ u C rfl l;exact⟨rfl,Q⟩
theorem Rk.sync(j:zr){B:Nat}{q w:World}{E n t o b:Nat}{c:Value}{W:WM}{X:NL}{N:NM}{M:DM}{F:List Fact}{p:Nat}(h:Rk q w E n t o b c W X N M F p)(l:Z0 B q)(Q:B<=q.heap.size)(ht:t+20<=980000) :
 Calls Tryz.prog 32 #[.pointer (some ⟨X.nb,0,none⟩)] w fun e x=>e=.returned (.int .i64 0)/\∃ C i N' g W' r D,Rk q x E n (t+10) o b c W' i N' g r D/\i.nb=X.nb/\Z9 C N.S/\N'.S=N.S/\W'.st=[C]/\N'.mg=N.mg/\NStep X M w i N' g x:=by
 obtain⟨m,d,T,R⟩:=h.ni.now;have f:=h.As;refine(Vr j B X N M w h.kp.st.node (h.kp.env l Q)).mono ?_;rintro e x ⟨i,rfl,a⟩;obtain⟨y,G,g,D,L,V,_,s,_⟩:=TR (h:=h.ni.kp.mono (fun _=>h.ro) (Io _)) (by omega);have v:N.Bz M=(ZA y,({N with J:=G}:NM).Af y,g):=by
  unfold NM.Bz;rw[It (by rw[h.ro];decide),L]
 obtain⟨rfl,I,J,c3⟩:=V.Af.xz (n:=0) h.ni.bd (by omega) h.ni.dead h.cut h.fail f (fun e=>absurd e s) (by decide);have A:=h.ni.sync (by omega) h.ro;rw[v] at A a |-;rcases A with⟨_,_,r,Y,S⟩|⟨O,_⟩
 .have hlast:W.st.drop (W.st.length-1)=[m]:=by
   have k:=(IQ.1 d).1;have K:=Hs k;rw[IB k] at d;rw[K,Hb d,Hn (by omega)]
  refine⟨rfl,m,i,_,g,_,r,Y,⟨h.kp.step a,S.more (by omega),I,J,?_,h.every,h.node,h.room,by have:=h.top;omega,h.BV⟩,a.same.nb,T,rfl,hlast,rfl,a⟩;show(N.readOnly||false)=false;rw[h.ro];rfl
 .cases O
theorem Ic{t w y:World}{r J n u s a:Nat}{b:Value}{I:DL}{W A:WM}{M c:DM}{x:NL}{v:NM}{G:List Fact}{K:Nat}(h:Fr Nil t w)(l:t.heap.size<=r)(V:r<w.heap.size)(o:∀ k,Foot J I M k->t.heap.size<=k)
 (E:StO y r n (a+1) b x v c)(p:NI A v c G K u)(D:Opd W ((M.Ab 0).BL 0 0) s v c A)(S:c.cut=0)(T:c.fail=0)(m:∀ k,NFoot x c k->w.heap.size<=k)(C:∀ k,SRead x.LS k->w.heap.size<=k)(f:Fr (fun k=>k=r\/Foot J I M k) w y)(d:W.node=(n:Int))(g:W.room=-1)(q:a+1<=u) :
 Rk t y r n u s (a+1) b A x v c G K:=by
 have X:=h.size;have B:Fr Nil t y:=h.trans' f (fun i hi e=>by
  rcases e with e|e
  .omega
  .have:=o i e;omega)
 obtain⟨L,N,Y,O,Q,R⟩:=D.wm;exact⟨⟨E,B,l,fun k j=>by have:=m k j;omega,fun k j e=>by have:=m k j;omega,fun k j e=>by have:=C k j;omega⟩,p,S,T,p.ro.trans O,N,L.trans d,Q.trans g,q,R⟩
theorem add_zero(a:Addr):a.add 0=a:=by unfold Addr.add;simp
theorem JN(a:Addr)(k:Nat)(h:k≠0):a.add k=⟨a.block,a.off+k,none⟩:=by unfold Addr.add;simp[h]
theorem Vy{w:World}{p:Addr}{v:Value}(h:w.cell? p=some v):p.block<w.heap.size:=by
 refine Dp fun a=>?_;unfold World.cell? at h;rw[FN a] at h;cases h
theorem Kk{w:World}{p:Addr}{v:Value}(h:w.cell? p=some v):p.spot=none:=by
 unfold World.cell? at h;split at h
 .split at h
  .cases h
  .rename_i hs
   simpa using hs
 .cases h
theorem Yt:Tryz.prog.cellsOf 3=1:=by kernel_rfl
theorem MQ:Tryz.prog.cellsOf 4=1:=by kernel_rfl
theorem Sb:Tryz.prog.cellsOf 9=1:=by kernel_rfl
theorem MR:Tryz.prog.cellsOf 26=1:=by kernel_rfl
theorem Kl:Tryz.prog.cellsOf 34=2:=by kernel_rfl
theorem MS:Tryz.prog.cellsOf 35=4:=by kernel_rfl
theorem U0:Tryz.prog.cellsOf 37=8:=by kernel_rfl
theorem Zd{H:Type}(d:DataW H):1<=Rows.uptoBulk d:=by
 cases d with
 | lit l=>cases l <;> simp[Rows.uptoBulk]
 | _=>simp[Rows.uptoBulk]
theorem Xk{H:Type}(k:Nat):∀ (l:List (DataW H)),(∀ d∈l,k<=Rows.uptoBulk d)->k*l.length<=Rows.uptoBulkAll l
 | [],_=>by simp
 | d::l,h=>by
  have b:=Xk k l (fun x a=>h x (Iq _ a));have c:=h d (Is ..);simp only[Rows.uptoBulkAll,Iz,Nat.mul_add,Nat.mul_one];omega
section
variable {H:Type} {enc:TypeId × Value->H} {W:World} {sp:Nat->Bool} {held:Bool} {n:Nat}
theorem Yp{c:Value}{x:DataW H × List MemPlace}(h:DataW.trod enc Tryz.prog W 0 sp held n 3 [c]=some x):∃ k,c=.int .i64 k/\InR k:=by
 obtain⟨k,e,_,a⟩:=DataW.trod_int Eh h;refine⟨k,by simpa using e,?_⟩;unfold Lit.wf at a;simp only[Hz,IF] at a;have b:IntKind.i64.min=-9223372036854775808:=by decide
 have d:IntKind.i64.max=9223372036854775807:=by decide
 rw[b,d] at a;exact a
theorem PJ{c:Value}{x:DataW H × List MemPlace}(B:sp=fun _=>true)(h:DataW.trod enc Tryz.prog W 0 sp held n 26 [c]=some x):I9 W c:=by
 subst B;rcases Deep.open_slice1 Ex Yt h with⟨v,_⟩|⟨a,len,b,m,Q,V,D,O,v,_,L,G,M,_,d⟩
 .have:c=.slice none 0 0:=by simpa using v
  exact⟨[],.inl ⟨⟨none,0,this⟩,rfl⟩,fun x t=>by cases t⟩
 .have hcv:c=.slice (some a) len b:=by simpa using v
  have N:m=b:=by rw[M];rfl
  have I:∀ i,i<m->∃ k,V i=.int .i64 k/\InR k:=fun i o=>Yp (d i o).2;obtain⟨f,E⟩:∃ f:Nat->Int,∀ i,i<m->V i=.int .i64 (f i)/\InR (f i):=by
   classical
   refine⟨fun i=>if o:i<m then Classical.choose (I i o) else 0,fun i o=>?_⟩;simp only[CU o];exact Classical.choose_spec (I i o)
  by_cases K:len=0
  .subst K
   exact⟨[],.inl ⟨⟨some a,b,hcv⟩,rfl⟩,fun x t=>by cases t⟩
  .have hc0:=(d 0 (by omega)).1
   rw[add_zero] at hc0;have r:=Kk hc0;have q:=Vy hc0;obtain⟨g,l,J⟩:=a;simp only at r q;subst r;have A:((List.range len).map f).length=len:=by simp
   refine⟨(List.range len).map f,.inr ⟨g,l,b,by rw[A];exact hcv,q,by rw[A];omega,fun j y=>?_⟩,fun x t=>?_⟩
   .rw[A] at y
    have u:=(d j (by omega)).1;rw[(E j (by omega)).1] at u;have e:Addr.add ⟨g,l,none⟩ j=⟨g,l+j,none⟩:=by
     by_cases p:j=0
     .subst p;rw[add_zero];rfl
     .rw[JN _ _ p]
    rw[e] at u
    simpa using u
   .obtain⟨j,y,rfl⟩:=Iy.1 t
    exact(E j (by have:=EC.1 y;omega)).2
theorem Tf{c:Value}{x:DataW H × List MemPlace}(h:DataW.trod enc Tryz.prog W 0 sp held n 9 [c]=some x):∃ s,c=.string s:=by
 obtain⟨k,a,_⟩:=DataW.trod_string GL h;exact⟨k,by simpa using a⟩
theorem Jg{c:Value}{x:DataW H × List MemPlace}(h:DataW.trod enc Tryz.prog W 0 sp held n 4 [c]=some x):∃ b,c=.bool b:=by
 obtain⟨k,a,_⟩:=DataW.trod_bool Tryz.underlying4 h;exact⟨k,by simpa using a⟩
theorem YE{α:Type}{l:List α}{i k:Nat}(b:l.length=k)(a:i<k):∃ x,l[i]?=some x:=⟨l[i]'(by omega),IB (by omega)⟩
theorem PK{y:List Value}{x:DataW H × List MemPlace}(h:DataW.trod enc Tryz.prog W 0 sp held n 37 y=some x):(∃ v:Ver,y=v.cells)/\5<=Rows.uptoBulk x.1:=by
 obtain⟨j,m,_,hx,J,a,t⟩:=FZ DU h;rw[U0] at J;refine⟨?_,?_⟩
 .match y,J with
  | [e,f,k,l,o,p,q,r],_ =>
   have A:DataW.trod enc Tryz.prog W 0 sp held m 34 (([e,f,k,l,o,p,q,r].drop 0).take (Tryz.prog.cellsOf 34))=j[0]?:=t 0 _ rfl;have B:DataW.trod enc Tryz.prog W 0 sp held m 35 (([e,f,k,l,o,p,q,r].drop 2).take (Tryz.prog.cellsOf 35))=j[1]?:=t 1 _ rfl;have C:DataW.trod enc Tryz.prog W 0 sp held m 9 (([e,f,k,l,o,p,q,r].drop 6).take (Tryz.prog.cellsOf 9))=j[2]?:=t 2 _ rfl;have D:DataW.trod enc Tryz.prog W 0 sp held m 4 (([e,f,k,l,o,p,q,r].drop 7).take (Tryz.prog.cellsOf 4))=j[3]?:=t 3 _ rfl;obtain⟨x0,e0⟩:=YE (i:=0) a (by decide);obtain⟨x1,e1⟩:=YE (i:=1) a (by decide);obtain⟨x2,e2⟩:=YE (i:=2) a (by decide);obtain⟨x3,e3⟩:=YE (i:=3) a (by decide);rw[e0,Kl] at A;rw[e1,MS] at B;rw[e2,Sb] at C;rw[e3,MQ] at D;obtain⟨s,rfl⟩:=Tf C;obtain⟨b,rfl⟩:=Jg D;obtain⟨Q,O,_,_,_,g,I⟩:=FZ DS A;have E:DataW.trod enc Tryz.prog W 0 sp held O 3 (([e,f].drop 0).take (Tryz.prog.cellsOf 3))=Q[0]?:=I 0 _ rfl;have G:DataW.trod enc Tryz.prog W 0 sp held O 3 (([e,f].drop 1).take (Tryz.prog.cellsOf 3))=Q[1]?:=I 1 _ rfl;obtain⟨y0,X⟩:=YE (i:=0) g (by decide);obtain⟨y1,Y⟩:=YE (i:=1) g (by decide);rw[X,Yt] at E;rw[Y,Yt] at G;obtain⟨i0,rfl,_⟩:=Yp E;obtain⟨i1,rfl,_⟩:=Yp G;obtain⟨zs,m2,_,_,_,c,u⟩:=DataW.trod_array Tryz.underlying35 B;have K:=u 0 (by decide);have L:=u 1 (by decide);have M:=u 2 (by decide);have N:=u 3 (by decide);obtain⟨z0,R⟩:=YE (i:=0) c (by decide);obtain⟨z1,S⟩:=YE (i:=1) c (by decide);obtain⟨z2,T⟩:=YE (i:=2) c (by decide);obtain⟨z3,V⟩:=YE (i:=3) c (by decide);rw[R,Yt] at K;rw[S,Yt] at L;rw[T,Yt] at M;rw[V,Yt] at N;obtain⟨o0,rfl,_⟩:=Yp K;obtain⟨o1,rfl,_⟩:=Yp L;obtain⟨o2,rfl,_⟩:=Yp M;obtain⟨o3,rfl,_⟩:=Yp N;exact⟨⟨i0,i1,o0,o1,o2,o3,s,b⟩,rfl⟩
 .rw[hx]
  have:=Xk 1 (j.map (·.1)) (fun d _=>Zd d);rw[IE,a] at this;simp only[Rows.uptoBulk];exact EO this
end
theorem Jh{w:World}{a:Addr}{n:Nat}{b:List Value}(h:w.cells? 0 a n=some b)(k:Nat)(c:k<n):w.cell? (a.add k)=b[k]?:=by
 unfold World.cells? at h;rw[IC (II _)] at h;exact mapM_some_get h k k (by simp[c])
theorem Rm:Tryz.prog.cellsOf 89=14:=by kernel_rfl
section
variable {H:Type} {enc:TypeId × Value->H} {W:World} {sp:Nat->Bool} {held:Bool} {n:Nat}
theorem Ji(A:sp=fun _=>true){a:List Value}{x:DataW H × List MemPlace}(h:DataW.trod enc Tryz.prog W 0 sp held n 89 a=some x):(∃ o:OpM,a=o.BS/\Td W o)/\12<=Rows.uptoBulk x.1:=by
 obtain⟨b,m,_,L,E,D,c⟩:=FZ Tryz.underlying89 h;rw[Rm] at E;have k:DataW.trod enc Tryz.prog W 0 sp held m 3 ((a.drop 0).take (Tryz.prog.cellsOf 3))=b[0]?:=c 0 _ rfl;have l:DataW.trod enc Tryz.prog W 0 sp held m 3 ((a.drop 1).take (Tryz.prog.cellsOf 3))=b[1]?:=c 1 _ rfl;have p:DataW.trod enc Tryz.prog W 0 sp held m 3 ((a.drop 2).take (Tryz.prog.cellsOf 3))=b[2]?:=c 2 _ rfl;have q:DataW.trod enc Tryz.prog W 0 sp held m 9 ((a.drop 3).take (Tryz.prog.cellsOf 9))=b[3]?:=c 3 _ rfl;have r:DataW.trod enc Tryz.prog W 0 sp held m 9 ((a.drop 4).take (Tryz.prog.cellsOf 9))=b[4]?:=c 4 _ rfl;have s:DataW.trod enc Tryz.prog W 0 sp held m 37 ((a.drop 5).take (Tryz.prog.cellsOf 37))=b[5]?:=c 5 _ rfl;have t:DataW.trod enc Tryz.prog W 0 sp held m 26 ((a.drop 13).take (Tryz.prog.cellsOf 26))=b[6]?:=c 6 _ rfl;have d:b.length=7:=D
 match b,d with
 | [S,T,V,X,Y,x6,x7],_ =>
  simp only[Ga,GB] at k l p q r s t;rw[Yt] at k l p;rw[Sb] at q r;rw[U0] at s;rw[MR] at t;obtain⟨B,hb⟩:=PK s;refine⟨?_,?_⟩
  .match a,E with
   | [c0,c1,c2,c4,c5,G,I,J,K,e,f,g,i,j],_ =>
    obtain⟨M,rfl,_⟩:=Yp k;obtain⟨N,rfl,u⟩:=Yp l;obtain⟨O,rfl,y⟩:=Yp p;obtain⟨Q,rfl⟩:=Tf q;obtain⟨R,rfl⟩:=Tf r;obtain⟨v,B⟩:=B;have C:[G,I,J,K,e,f,g,i]=v.cells:=B;refine⟨⟨M,N,O,0,Q,R,v,j⟩,?_,u,y,PJ A t⟩;unfold OpM.BS;rw[<- C]
    rfl
  .rw[L]
   simp only[Rows.uptoBulk,IJ,Gm,Rows.uptoBulkAll];have a0:=Zd S.1;have a1:=Zd T.1;have a2:=Zd V.1;have a4:=Zd X.1;have a5:=Zd Y.1;have a7:=Zd x7.1;omega
end
theorem PL{H:Type}{enc:TypeId × Value->H}{W:World}{j:Nat}{A:List Value}{x:DataW H × List MemPlace}(h:DataW.trod enc Tryz.prog W 0 (fun _=>true) true j 51 A=some x) :
 ∃ (G:Option Addr) (c:Nat) (r:List OpM),A=[.slice G r.length c]/\(r≠[]->∃ a,G=some a/\a.block<W.heap.size/\PI W a r)/\(∀ o∈r,Td W o)/\12*r.length<=Rows.uptoBulk x.1:=by
 rcases CN DY h with⟨rfl,rfl⟩|⟨a,len,t,m,n,D,R,rfl,S,N,E,O,Q,u⟩
 .exact⟨none,0,[],rfl,fun e=>absurd rfl e,fun o l=>by(cases l),by simp⟩
 .have hlm:len<=m:=by rw[O];split <;> omega
  have p:∀ i,i<len->∃ o:OpM,W.cells? 0 (a.add (i*14)) 14=some o.BS/\Td W o/\12<=Rows.uptoBulk (D i):=fun i g=>by
   obtain⟨I,B,J⟩:=u i (by omega);rw[Rm] at B;obtain⟨⟨o,rfl,l⟩,K⟩:=Ji rfl J;exact⟨o,B,l,K⟩
  obtain⟨f,v⟩:∃ f:Nat->OpM,∀ i,i<len->W.cells? 0 (a.add (i*14)) 14=some (f i).BS/\Td W (f i)/\12<=Rows.uptoBulk (D i):=by
   classical
   refine⟨fun i=>if g:i<len then Classical.choose (p i g) else⟨0,0,0,0,ByteArray.empty,ByteArray.empty,⟨0,0,0,0,0,0,ByteArray.empty,false⟩,.bool false⟩,fun i g=>?_⟩;simp only[CU g];exact Classical.choose_spec (p i g)
  have b:((List.range len).map f).length=len:=by simp
  have q:PI W a ((List.range len).map f):=fun i g k M=>by
   rw[b] at g;rw[Jh (v i g).1 k M];simp
  refine⟨some a,t,(List.range len).map f,by rw[b],fun y=>⟨a,rfl,?_,q⟩,fun o l=>?_,?_⟩
  .have hpos:0<len:=Nat.pos_of_ne_zero fun e=>y (by rw[e];rfl)
   have:=q 0 (by rw[b];exact hpos) 0 (by decide);rw[CY,add_zero,add_zero] at this;exact Vy this
  .obtain⟨i,g,rfl⟩:=Iy.1 l
   exact(v i (EC.1 g)).2.1
  .rw[b,Q]
   simp only[Rows.uptoBulk];have:=Xk 12 ((List.range len).map D) (fun d L=>by
    obtain⟨i,g,rfl⟩:=Iy.1 L;exact(v i (EC.1 g)).2.2)
   rw[IE,DZ] at this;omega
end Go.Proofs.YtkhnggkkiefcdaaGreatDoor
namespace Go.Proofs.YtkhnggkkiefcdaaGreatDoor
open Go.RowKit Go.ChangeShapes
set_option maxRecDepth 100000
set_option maxHeartbeats 8000000
theorem OX{W:World}(h:laidMetH Tryz.prog Rows.writesRow.laid W):Tab W:=by
 have a:=(Bf.1 h).1.filter (fun x=>x.1==XM);have e:((Rows.writesRow.laid.filter fun x=>x.2.handleName?.isNone).filter fun x=>x.1==XM)=[(XM,Lib.tabData .u64 Lib.pow10Tab)]:=by kernel_rfl
 rw[e] at a;exact Lib.tabIs_of_head (rest:=[]) (g:=1) (by kernel_rfl) (t:=322) (by kernel_rfl) Tryz.underlying322 Tryz.underlying274 (by kernel_rfl) (by kernel_rfl) a
theorem Sc:Tryz.prog.globalNamed XM=some 1:=by kernel_rfl
theorem MT:Tryz.prog.globalNamed "errors.errorType"=some 0:=by kernel_rfl
theorem MU:Tryz.prog.types.size=396:=by kernel_rfl
theorem Km:((List.range 396).filter fun t=>Tryz.prog.rowNamed t [101,114,114,111,114])=[132]:=by kernel_rfl
theorem OY{W:World}(h:laidMetH Tryz.prog Rows.writesRow.laid W):Hnd W:=by
 have c:=(Bf.1 h).2;have e:(Rows.writesRow.laid.filter fun x=>x.2.handleName?.isSome)=[("errors.errorType",Rows.laid_errors_errorType)]:=by kernel_rfl
 rw[e] at c;obtain⟨a,u,ty,f,g,i,j,b⟩:=c _ (Iv.2 rfl);have k:a=[101,114,114,111,114]:=(Hb f).symm;subst k;have l:some u=some 309:=g.symm.trans (by kernel_rfl);obtain rfl:=Hb l;have d:ty∈(List.range 396).filter fun t=>Tryz.prog.rowNamed t [101,114,114,111,114]:=FJ.2 ⟨EC.2 (by rw[<- MU];exact i),j⟩;rw[Km] at d;obtain rfl:=Iv.1 d;have m:typeHandle Tryz.prog 132=.pointer (some ⟨6,132,none⟩):=by kernel_rfl
 rw[m] at b;have:=World.var?_cell MT b 0;unfold Hnd
 simpa using this
theorem RP{W:World}(h:laidMetH Tryz.prog Rows.writesRow.laid W):YU W.heap.size W:=by
 have a:=OX h;have b:=OY h;refine⟨a,fun g c=>?_,b,Vy b⟩;have:=Hb (Sc.symm.trans c);subst this;exact Vy (a.cell Sc 0 (by decide))
theorem Sd:Tryz.prog.globalNamed "strconv.ErrSyntax"=some 4:=by kernel_rfl
theorem Jj:(Tryz.prog.globals[4]?).map (·.type)=some 132:=by kernel_rfl
theorem U1{W:World}(h:laidMetH Tryz.prog Rows.writesRow.laid W):Yg W:=by
 have b:=(Bf.1 h).1.filter (fun x=>x.1== "strconv.ErrSyntax");have e:((Rows.writesRow.laid.filter fun x=>x.2.handleName?.isNone).filter fun x=>x.1== "strconv.ErrSyntax")=[("strconv.ErrSyntax",Rows.laid_strconv_ErrSyntax)]:=by kernel_rfl
 rw[e] at b;obtain⟨a,s,c,_⟩:=laid_sentinel b Sd Jj Tryz.underlying132 (fun u h => typeName_ptr_named (P := Tryz.prog) (nm := "errors.errorString") (by kernel_rfl) (by kernel_rfl) (by decide) u (h.trans (congrArg some (by decide)))) Tryz.underlying348 Tryz.underlying350 rfl rfl GL (by kernel_rfl) (by kernel_rfl);have:=World.var?_cell Sd c 0;exact⟨Vy (p:=⟨4,0,none⟩) (by simpa using this),_,_,by simpa using this⟩
theorem PN{W:World}(h:laidMetH Tryz.prog Rows.writesRow.laid W):Z0 W.heap.size W :=
 ⟨RP h,U1 h,(U1 h).1⟩
end Go.Proofs.YtkhnggkkiefcdaaGreatDoor
