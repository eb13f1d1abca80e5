/- larder: joined texts -/
import Derived.Test.YtkhnggkkiefcdaaGreatDoorALAB
namespace Go.Proofs.YtkhnggkkiefcdaaGreatDoor
open Go.RowKit Proofs.Tryz
set_option maxRecDepth 100000
set_option maxHeartbeats 8000000
variable{b f:Nat}{L:DL}{M:DM}{w:World}{p:Prop}{d:Dir}{v:Value}
structure DStep(b:Nat)(L:DL)(M:DM)(w:World)(L':DL)(M':DM)(w':World):Prop where
 th:DRep w' b L' M'
 fr:Fr (Foot b L M) w w'
 sd:∀ k,Foot b L' M' k->Foot b L M k\/w.heap.size<=k
theorem DStep.trans{L1 e g:DL}{o M2 r:DM}{t w2 x:World}(h:DStep b L1 o t e M2 w2)(k:DStep b e M2 w2 g r x):DStep b L1 o t g r x where
 th:=k.th
 fr:=h.fr.tk k.fr (fun i s y=>by
  rcases h.sd i y with c|c
  .exact c
  .omega)
 sd:=fun i s=>by
  rcases k.sd i s with c|c
  .exact h.sd i c
  .exact .inr (CO h.fr.size c)
theorem DStep.sL{M':DM}{w':World}(h:DRep w' b L M')(f:Fr (fun k=>k=b) w w')
 (a:M'.tL=M.tL):DStep b L M w L M' w' where
 th:=h
 fr:=f.mono (fun k _ e=>by subst e;exact .td)
 sd:=fun k j=>.inl (by
  cases j using Foot.elim with
  | blk=>exact .td
  | dir e=>exact .uX e
  | safe e=>exact .uZ e
  | ch e=>exact .ch e
  | chs i c e=>exact .tB i c e
  | file e=>exact .uV (a▸e)
  | row f g e=>exact .row f (a▸g) e)
theorem DM.tK(M:DM):M.uQ.2.2.uX=M.uX/\M.uQ.2.2.uZ=M.uZ/\M.uQ.2.2.tB=M.tB/\M.uQ.2.2.uV=M.uV/\M.uQ.2.2.tL=M.tL /\
 M.uQ.2.2.room=M.room/\M.uQ.2.2.part=M.part/\M.uQ.2.2.tr=M.tr/\M.uQ.2.2.cut=M.cut/\M.uQ.2.2.fail=M.fail:=by
 unfold DM.uQ;dsimp only;(repeat' split) <;> exact⟨rfl,rfl,rfl,rfl,rfl,rfl,rfl,rfl,rfl,rfl⟩
theorem DM.qx(M:DM):M.uQ.2.1=0\/M.uQ.2.1=9:=by
 unfold DM.uQ;dsimp only;(repeat' split) <;> simp
theorem Z6(w:World)(b:Nat)(L:DL)(M:DM)(h:DRep w b L M) :
 Calls prog 209 #[E b 0] w fun e w' =>
  e=.returned (.tuple #[.bool M.uQ.1,I M.uQ.2.1])/\DStep b L M w L M.uQ.2.2 w' :=
 (Po w b L M h).mono fun _ _ ⟨a,c,g⟩=>⟨a,.sL c g M.tK.2.2.2.2.1⟩
def DM.sw(M:DM):Int × DM :=
 (M.uQ.2.1,if M.uQ.2.1=0 then {M.uQ.2.2 with uZ:=M.uQ.2.2.uX,tB:=[]} else M.uQ.2.2)
theorem DRep.oC{w':World}(h:DRep w b L M)
 (l:Blk w' b (({M with uZ:=M.uX,tB:=[]}:DM).cells {L with sI:=L.sQ,qq:=.slice none 0 0,sK:=[]}) 143)(f:Fr (fun k=>k=b) w w') :
 DRep w' b {L with sI:=L.sQ,qq:=.slice none 0 0,sK:=[]} {M with uZ:=M.uX,tB:=[]} where
 td:=l
 uX:=ze h.uX f fun _ e c=>by subst c;exact zh h.uX h.td O e
 uZ:=ze h.uX f fun _ e c=>by subst c;exact zh h.uX h.td O e
 ch:=Bf w' 0 _ _
 qh:=rfl
 tB:=fun i j=>absurd j (BF _)
 tw:=fun g a=>(h.tw g a).fr f ((h.tw g a).ne h.td O)
 sq:=fun g a=>ze (h.sq g a) f fun _ e c=>by subst c;exact zh (h.sq g a) h.td O e
 rF:=h.rF
 le:=h.le
 rA:=h.rA
 qZ:=h.rA
 qW:=fun d m=>by cases m
theorem QK(w:World)(b:Nat)(L:DL)(M:DM)(h:DRep w b L M) :
 Calls prog 168 #[E b 0] w fun e w' =>
  e=.returned (I M.sw.1)/\∃ p,DStep b L M w p M.sw.2 w':=by
 have d:=Z (Z6 w b L M h);have s:=Z h;clear h;rcases M.qx with c|c
 .have HM:aa (M.sw=(0,{M.uQ.2.2 with uZ:=M.uQ.2.2.uX,tB:=[]})):=by simp[aa,DM.sw,c]
  rw[c] at d;clear c;go_enter func168,ntmps168;go_wp2_with fail;refine d.o.mono ?_;rintro e m ⟨rfl,hs⟩;have j:=hs.th.td.cell;have l:=hs.th.td.frozen;simp only[DM.cells] at j;obtain⟨a,q,g⟩:=zf hs.th.uX;rw[g] at j;have o:=Z g;clear g
  go_wp2
  go_ret;rw[HM.o,<- o.o];refine⟨rfl,{L with sI:=L.sQ,qq:=.slice none 0 0,sK:=[]},hs.trans ⟨?_,?_,?_⟩⟩
  .have:=hs.th.oC (w':=(m.setCell (Y b 1) L.sQ).setCell (Y b 2) (.slice none 0 0)) ((hs.th.td.set 1 L.sQ).set 2 (.slice none 0 0)) ab
   exact this
  .exact Fr.set (Fr.set (U _ _) (fun _=>.td) _) (fun _=>.td) _
  .intro k hk
   refine .inl ?_;cases hk using Foot.elim with
   | blk=>exact .td
   | dir e=>exact .uX e
   | safe e=>exact .uX e
   | ch e=>simp[Value.ownBlock] at e
   | chs i r e=>exact absurd r (BF _)
   | file e=>exact .uV e
   | row f l e=>exact .row f l e
 .have HM:aa (M.sw=(9,M.uQ.2.2)):=by simp[aa,DM.sw,c]
  rw[c] at d;clear c;go_enter func168,ntmps168
  go_wp2_with (go_at_call 209;refine d.o.mono ?_;rintro e m ⟨rfl,hs⟩)
  go_ret;rw[HM.o];exact⟨rfl,_,hs⟩
def DM.tX(M:DM)(f:Nat)(x:FM):DM:={M with uV:=fun g=>if g=f then x else M.uV g}
theorem Io(h:p:=by
 by_cases e:g=f
 .subst e;simpa [DM.tX] using D
 .have:=(h.tw g j).fr fr e
  simpa [DM.tX,e] using this):p:=h
theorem DRep.oW{r:World}(h:DRep w b L M){s:Nat}(hs:s<=(M.uV f).bytes.length)
 (D:Blk r f [L.fV f,I s] 152)(fr:Fr (fun k=>k=f) w r)(o:f∈M.tL) :
 DRep r b L (M.tX f {M.uV f with uZ:=s}) where
 td:=h.td.fr fr ((h.td).ne (h.tw f o) O)
 uX:=ze h.uX fr fun _ e d=>by subst d;exact zh h.uX (h.tw _ o) O e
 uZ:=ze h.uZ fr fun _ e d=>by subst d;exact zh h.uZ (h.tw _ o) O e
 ch:=ze h.ch fr fun _ e d=>by subst d;exact zh h.ch (h.tw _ o) O e
 qh:=h.qh
 tB:=fun i l u=>ze (h.tB i l u) fr fun _ e d=>by subst d;exact zh (h.tB i l u) (h.tw _ o) O e
 tw:=fun g j=>by
  exact Io
 sq:=fun g j=>by
  have l:=ze (h.sq g j) fr fun _ e d=>by subst d;exact zh (h.sq g j) (h.tw _ o) O e
  by_cases e:g=f
  .subst e;simpa [DM.tX] using l
  .simpa [DM.tX,e] using l
 rF:=h.rF
 le:=fun g j=>by
  by_cases e:g=f
  .subst e;simpa [DM.tX] using hs
  .simpa [DM.tX,e] using h.le g j
 rA:=h.rA
 qZ:=h.qZ
 qW:=h.qW
def DM.tY(M:DM)(a:ByteArray):Int × DM :=
 match M.uX.sF a with
 | none=>(11,M)
 | some f=>(M.uQ.2.1,if M.uQ.2.1=0 then M.uQ.2.2.tX f {M.uQ.2.2.uV f with uZ:=(M.uQ.2.2.uV f).bytes.length} else M.uQ.2.2)
theorem EQ(h:p:=by
 go_wp2
 go_ret;rw[HM.o];exact⟨rfl,L,DStep.trans ⟨q.o.fr d (fun _ _=>id),d.mono (fun _ _=>False.elim),fun k m=>.inl m⟩ hs⟩):p:=h
theorem ER(h:p:=by
 have t:=hs.th.td.cell;simp only[DM.cells] at t;have B:k<M.uQ.2.2.uX.length:=by rw[M.tK.1];exact m
 have D:M.uQ.2.2.uX[k].2=M.uX[k].2:=by simp[M.tK.1]
 obtain⟨g,Q,n,c,G,s,_,S,o⟩:=hs.th.entry B;rw[D] at s S o;have A:=(hs.th.tw _ s).cell;have R:=(hs.th.tw _ s).frozen;rw[o] at A;rw[G] at t;have y:=Z hs;clear hs o G D;go_wp2_with fail
 go_region
 go_wp2
 go_ret;rw[HM.o];refine⟨rfl,L,DStep.trans ⟨q.o.fr d (fun _ _=>id),d.mono (fun _ _=>False.elim),fun k m=>.inl m⟩ (y.o.trans ⟨?_,?_,?_⟩)⟩
 .exact y.o.th.oW (CP _) (((y.o.th.tw _ s).set 1 _).drew) ab s
 .exact Fr.drew (Fr.set (U _ _) (fun _=>.uV s) _)
 .intro j hj
  refine .inl ?_;cases hj using Foot.elim with
  | blk=>exact .td
  | dir e=>exact .uX e
  | safe e=>exact .uZ e
  | ch e=>exact .ch e
  | chs i l e=>exact .tB i l e
  | file e=>exact .uV e
  | row f d e=>exact .row f d e):p:=h
theorem MR(h:p:=by
 have x:=Z l;have K:=Z h0;clear h l r h0;go_enter func167,ntmps167;go_wp2_with fail;refine(Za x.o _ q.o.uX).mono ?_;rintro e J ⟨rfl,d⟩;clear t;go_wp2_with fail;have C:=Z6 J b L M (q.o.fr d (fun _ _=>id));rw[K.o] at C;refine C.mono ?_;rintro e X ⟨rfl,hs⟩
 first
  | (clear v;exact ER)
  | exact EQ):p:=h
theorem Sm(a:ByteArray)(w:World)(b:Nat)(L:DL)(M:DM)(h:DRep w b L M) :
 Calls prog 167 #[E b 0,.string a] w fun e T =>
  e=.returned (I (M.tY a).1)/\∃ N,DStep b L M w N (M.tY a).2 T:=by
 have t:=h.td.cell;simp only[DM.cells] at t;have u:=zH h.uX;unfold maxLen at u;have q:=Z h;rcases YU M.uX a with⟨l,r⟩|⟨k,m,l,r,_⟩
 .have HM:aa (M.tY a=(11,M)):=by simp[aa,DM.tY,r]
  have x:=Z l;clear h l r;go_enter func167,ntmps167
  go_wp2_with (go_at_call 87;refine(YR x.o _ q.o.uX).mono ?_;rintro e J ⟨rfl,d⟩)
  go_ret;rw[HM.o];exact⟨rfl,_,q.o.fr d (fun _ _=>id),d.mono (fun _ _=>False.elim),fun k m=>.inl m⟩
 .rcases M.qx with h0|h0
  .have HM:aa (M.tY a=(0,M.uQ.2.2.tX M.uX[k].2 {M.uQ.2.2.uV M.uX[k].2 with uZ:=(M.uQ.2.2.uV M.uX[k].2).bytes.length})):=by simp[aa,DM.tY,r,h0]
   have v:=0;exact MR
  .have HM:aa (M.tY a=(9,M.uQ.2.2)):=by simp[aa,DM.tY,r,h0]
   exact MR
theorem Ts:((prog.info? 145).map fun i=>(i.zero.map (·.cells.size),i.size,i.bytes))=some (some 1,1,24):=bI
theorem Yc:((prog.info? 148).map fun i=>(i.zero.map (·.cells.size),i.size,i.bytes))=some (some 2,2,24):=bI
theorem V6:((prog.info? 5).map fun i=>(i.zero.map (·.cells.size),i.size,i.bytes))=some (some 1,1,1):=bI
def DM.si(M:DM)(d:Dir):DM:={M with uX:=d,tB:=M.tB++[d]}
def DL.si(L:DL)(v a:Value):DL:={L with sQ:=v,qq:=a,sK:=L.sK++[v]}
theorem DRep.si{w':World}(h:DRep w b L M){j:Value}
 (B:Blk w' b ((M.si d).cells (L.si v j)) 143)(u:w.ownsRow 0 148 2 v d.length (flat d))
 (p:w'.ownsRow 0 145 1 j (M.tB.length+1) (L.sK++[v]))(f:Fr (fun k=>k=b\/L.qq.ownBlock=some k) w w')
 (s:∀ e,e∈d->e.2∈M.tL):DRep w' b (L.si v j) (M.si d):=by
 have m:∀ {v:Value} {n:Nat} {x:List Value},w.ownsRow 0 148 2 v n x->w'.ownsRow 0 148 2 v n x:=fun t =>
  ze t f fun k e l=>by
   rcases l with rfl|l
   .exact zh t h.td O e
   .exact Zf t h.ch O e l
 exact {
  td:=B
  uX:=m u
  uZ:=m h.uZ
  ch:=by
   have:(M.si d).tB.length=M.tB.length+1:=by simp[DM.si]
   rw[this];exact p
  qh:=by simp[DM.si,DL.si,h.qh]
  tB:=fun i y A=>by
   simp only[DM.si,DL.si,CN,Bh,BU] at y A;by_cases a:i<M.tB.length
   .have q:(L.si v j).sK[i]=L.sK[i]'(by rw[h.qh];exact a):=by simp[DL.si,h.qh,a]
    have r:(M.si d).tB[i]=M.tB[i]:=by simp[DM.si,a]
    rw[q,r];exact m (h.tB i _ a)
   .have s:i=M.tB.length:=V
    have q:(L.si v j).sK[i]=v:=by simp[DL.si,List.getElem_append,h.qh,a]
    have r:(M.si d).tB[i]=d:=by simp[DM.si,List.getElem_append,a]
    rw[q,r];exact m u
  tw:=fun g o=>(h.tw g o).fr f fun l=>by
   rcases l with e|l
   .exact(h.tw g o).ne h.td O e
   .exact zh h.ch (h.tw g o) O l
  sq:=fun g o=>ze (h.sq g o) f fun k e l=>by
   rcases l with rfl|l
   .exact zh (h.sq g o) h.td O e
   .exact Zf (h.sq g o) h.ch O e l
  rF:=h.rF
  le:=h.le
  rA:=s
  qZ:=h.qZ
  qW:=fun c p=>by
   simp only[DM.si,CV,CX] at p;rcases p with p|rfl
   .exact h.qW c p
   .exact s}
theorem Vc(v:Value)(d:Dir)(w:World)(b:Nat)(L:DL)(M:DM)(h:DRep w b L M)(B:w.ownsRow 0 148 2 v d.length (flat d))
 (X:∀ e,e∈d->e.2∈M.tL)(hn:M.tB.length+1<=1000000000000) :
 Calls prog 219 #[E b 0,v] w fun e w' =>
  e=.returned (.tuple #[])/\∃ o,DRep w' b (L.si v o) (M.si d)/\Fr (fun k=>k=b\/L.qq.ownBlock=some k) w w'/\(o.ownBlock=L.qq.ownBlock\/∃ k,o.ownBlock=some k/\w.heap.size<=k):=by
 have y:=h.td.cell;have R:=h.td.frozen;simp only[DM.cells] at y;obtain⟨a,i,D⟩:=zf B;obtain⟨ca,J,l⟩:=zf h.ch;have a0:=h.td.lt;rw[l] at y;have m:=Z h;have N:=Z B;have Q:=Z D;have t:=Z l;clear h B;rw[D];have C:=(ze m.o.ch (w':=(w.setCell (Y b 0) (.slice a d.length i)).alloc (.cells #[.slice a d.length i] 145)) (S:=fun k=>k=b) ab
  (fun k e p=>by subst p;exact zh m.o.ch m.o.td O e))
 rw[l] at C;clear D l;go_enter func219,ntmps219
 go_wp2_with (at_builtin;go_must (refine zm rfl _ _ _ _ rfl _ _ bH bH (zq (w:=_) 141 _ 145 1 24 underlying141 Ts O _ _ _ C
  ⟨w.heap.size,0,none⟩ 1 1 [.slice a d.length i] rfl (YQ _ _ _ _ bG) (by intro u K;simp at K;subst K;rfl) ac V) ?_))
 intro v' w' c;have j:Blk w' b ((M.cells L).set 0 (.slice a d.length i)) 143 :=
  ((m.o.td.set 0 _).alloc _).fr c.fr (by rw[<- t.o];exact zh m.o.ch m.o.td O)
 have A:=j.cell;have T:=j.frozen;simp only[DM.cells,List.set] at A;obtain⟨x,g,r⟩:=zf c.sL;have s:=Z c;have G:=Z j;have HX:=Z r;clear c j y R C;subst r
 go_wp2
 go_end0
 refine⟨rfl,.slice x (M.tB.length+1) g,?_⟩;have q:Fr (fun k=>k=b\/L.qq.ownBlock=some k) w (w'.setCell (Y b 2) (.slice x (M.tB.length+1) g)):=by
  refine Fr.set (Fr.tk (Fr.alloc (Fr.set (U _ w) (fun _=>.inl rfl) _) _) s.o.fr ?_) (fun _=>.inl rfl) _;intro k _ p;rw[<- t.o] at p;exact .inr p
 rw[<- Q.o] at *;refine⟨m.o.si ?_ N.o ?_ q X,q,?_⟩
 .have:=G.o.set 2 (.slice x (M.tB.length+1) g)
  exact this
 .have:=s.o.sL
  refine ze this (S:=fun k=>k=b) ab (fun k e p=>by subst p;exact zh this G.o O e)
 .rcases s.o.qN with h1|h1
  .exact .inl (by rw[h1,t.o])
  .exact .inr ⟨_,h1,bG⟩
theorem TO(d:Dir):∀ u∈flat d,u.oneCell'=true:=by
 induction d with
 | nil=>intro u a;cases a
 | cons e d c =>
  intro u a;simp only[flat,Am,CV,BC,yX,ub] at a c;rcases a with(rfl|rfl)|a
  .rfl
  .rfl
  .exact c u a
theorem XA(d a:Dir):flat (d++a)=flat d++flat a:=by simp[flat]
def DM.sk(M:DM)(f:Nat):DM:={M with tL:=f::M.tL,uV:=fun g=>if g=f then⟨[],0⟩ else M.uV g}
def DL.sk(L:DL)(f:Nat):DL:={L with fV:=fun g=>if g=f then .slice none 0 0 else L.fV g}
theorem DRep.sk(h:DRep w b L M)(o:Blk w f [.slice none 0 0,I 0] 152)(p:f∉M.tL) :
 DRep w b (L.sk f) (M.sk f):=by
 have ne:∀ g,g∈M.tL->g≠f:=fun g a e=>p (e▸a);exact {
  td:=h.td
  uX:=h.uX
  uZ:=h.uZ
  ch:=h.ch
  qh:=h.qh
  tB:=h.tB
  tw:=fun g a=>by
   rcases BC.1 a with rfl|a
   .simpa [DM.sk,DL.sk] using o
   .simpa [DM.sk,DL.sk,ne g a] using h.tw g a
  sq:=fun g a=>by
   rcases BC.1 a with rfl|a
   .simpa [DM.sk,DL.sk,u8s] using Bf w 0 5 1
   .simpa [DM.sk,DL.sk,ne g a] using h.sq g a
  rF:=fun g a l c e k j=>by
   rcases BC.1 a with rfl|a
   .simp[DL.sk,Value.ownBlock] at j
   .rcases BC.1 c with rfl|c
    .simp[DL.sk,Value.ownBlock]
    .simp only[DL.sk,ne g a,ne l c,Aa] at j |-
     exact h.rF g a l c e k j
  le:=fun g a=>by
   rcases BC.1 a with rfl|a
   .simp[DM.sk]
   .simpa [DM.sk,ne g a] using h.le g a
  rA:=fun e i=>CT _ (h.rA e i)
  qZ:=fun e i=>CT _ (h.qZ e i)
  qW:=fun d m e i=>CT _ (h.qW d m e i)}
def DM.sx(M:DM)(a:ByteArray)(f:Nat):Int × DM :=
 if a=ByteArray.empty\/(M.uX.sF a).isSome=true then(11,M)
 else(M.uQ.2.1,if M.uQ.1=true then(M.uQ.2.2.sk f).si (M.uQ.2.2.uX++[(a,f)]) else M.uQ.2.2)
theorem Ip(h:p:=by
 cases h':a.toList.isEmpty with
 | false=>rfl
 | true=>exact absurd ((toList_nil_iff_emptyBytes a).1 (by simpa using h')) c):p:=h
theorem Nu(a:ByteArray)(w:World)(b:Nat)(L:DL)(M:DM)(h:DRep w b L M)(i:a=ByteArray.empty\/(M.uX.sF a).isSome=true) :
 Calls prog 211 #[E b 0,.string a] w fun e r =>
  e=.returned (I 11)/\Fr Nil w r:=by
 have m:=h.td.cell;simp only[DM.cells] at m;by_cases c:a=ByteArray.empty
 .subst c
  go_enter um,vU
  go_wp2
  go_ret;exact⟨rfl,U _ _⟩
 .have hn':(M.uX.sF a).isSome=true:=by rcases i with h|h;exact absurd h c;exact h
  rcases YU M.uX a with⟨_,l⟩|⟨k,s,g,_,_⟩
  .rw[l] at hn';cases hn'
  .have HH:=Z h
   have j:=Z g;have o:a.toList.isEmpty=false:=by
    exact Ip
   clear i hn' h g;go_enter um,vU
   go_wp2_with (go_at_call 87;refine(Za j.o _ HH.o.uX).mono ?_;rintro e t ⟨rfl,q⟩)
   go_ret;exact⟨rfl,q⟩
theorem Vw{a:ByteArray}(c:¬a=ByteArray.empty):a.toList.isEmpty=false:=by
 exact Ip
theorem DStep.sF{a:World}(h:DRep w b L M)(f:Fr Nil w a):DStep b L M w L M a :=
 ⟨h.fr f (fun _ _=>id),f.mono (fun _ _=>False.elim),fun _ c=>.inl c⟩
theorem Foot.qR{k:Nat}(h:Foot b (L.sk f) (M.sk f) k):k=f\/Foot b L M k:=by
 cases h using Foot.elim with
 | blk=>exact .inr .td
 | dir e=>exact .inr (.uX e)
 | safe e=>exact .inr (.uZ e)
 | ch e=>exact .inr (.ch e)
 | chs i j e=>exact .inr (.tB i j e)
 | file e =>
  rcases BC.1 e with e|e
  .exact .inl e
  .exact .inr (.uV e)
 | row g c e =>
  by_cases a:g=f
  .simp[DL.sk,a,Value.ownBlock] at e
  .simp only[DL.sk,a,Aa] at e
   rcases BC.1 c with c|c
   .exact absurd c a
   .exact .inr (.row g c e)
theorem Foot.po{cv:Value}{k:Nat}(h:Foot b (L.si v cv) (M.si d) k) :
 v.ownBlock=some k\/cv.ownBlock=some k\/Foot b L M k:=by
 cases h using Foot.elim with
 | blk=>exact .inr (.inr .td)
 | dir e=>exact .inl e
 | safe e=>exact .inr (.inr (.uZ e))
 | ch e=>exact .inr (.inl e)
 | chs i c e =>
  simp only[DL.si,vt] at e;split at e
  .exact .inr (.inr (.tB i _ e))
  .simp at e;exact .inl e
 | file e=>exact .inr (.inr (.uV e))
 | row g a e=>exact .inr (.inr (.row g a e))
theorem Ku(a:ByteArray)(w:World)(b:Nat)(L:DL)(M:DM)(h:DRep w b L M)(i:¬a=ByteArray.empty)(f:zZ M.uX a=-1)(g:M.uQ.1=false) :
 Calls prog 211 #[E b 0,.string a] w fun e p =>
  e=.returned (I M.uQ.2.1)/\DStep b L M w L M.uQ.2.2 p:=by
 have m:=h.td.cell;simp only[DM.cells] at m;have c:=Z h;have k:=Z f;have l:=Z g;have o:=Vw i;clear h f g i;go_enter um,vU;go_wp2_with fail;refine(YR k.o _ c.o.uX).mono ?_;rintro e q ⟨rfl,j⟩;go_wp2_with fail;have d:=Z6 q b L M (c.o.fr j (fun _ _=>id));rw[l.o] at d;refine d.mono ?_;rintro e r ⟨rfl,hs⟩
 go_wp2
 go_ret;exact⟨rfl,(DStep.sF c.o j).trans hs⟩
theorem Iq(h:p:=by
 refine Fr.tk (B.mono (fun _ _=>False.elim)) C ?_;intro k _ g;rcases g with rfl|g
 .exact .td
 .exact .ch g):p:=h
theorem Nv(a:ByteArray)(w:World)(b:Nat)(L:DL)(M:DM)(h:DRep w b L M)(i:¬a=ByteArray.empty)(h1:zZ M.uX a=-1)(hd:M.uQ.1=true)
 (hn:M.tB.length+1<=1000000000000)(hm:M.uX.length+1<=1000000000000) :
 Calls prog 211 #[E b 0,.string a] w fun e w' =>
  e=.returned (I M.uQ.2.1)/\∃ f L',w.heap.size<=f/\f<w'.heap.size/\DStep b L M w L' ((M.uQ.2.2.sk f).si (M.uQ.2.2.uX++[(a,f)])) w':=by
 have Q:=h.td.cell;simp only[DM.cells] at Q;have HH:=Z h;have H1:=Z h1;have HD:=Z hd;have b3:=Vw i;clear h h1 hd i;go_enter um,vU;go_wp2_with fail;refine(YR H1.o _ HH.o.uX).mono ?_;rintro e w1 ⟨rfl,hf⟩;go_wp2_with fail;have HB:=Z6 w1 b L M (HH.o.fr hf (fun _ _=>id));rw[HD.o] at HB;refine HB.mono ?_;rintro e s ⟨rfl,hs⟩;clear Q;have Q:=hs.th.td.cell;simp only[DM.cells] at Q;have g:=M.tK;have a9:M.uQ.2.2.uX.length+1<=1000000000000:=by rw[g.1];exact hm
 have D:M.uQ.2.2.tB.length+1<=1000000000000:=by rw[g.2.2.1];exact hn
 clear g;have J:=Z hs;clear hs
 go_wp2_with (at_builtin;go_must (refine zm rfl _ _ _ _ rfl _ _ bH bH (Xf 140 _ 148 2 24 AU Yc O _ _ _ (Bf _ 0 _ _) _ _ _ J.o.th.uX (TO _) ac V) ?_))
 intro v1 c ha;have K:=Z ha;obtain⟨a1,c1,a8⟩:=zf ha.sL;have r:Fr Nil s c:=ha.fr.mono (fun _ _ h=>by simp[Value.ownBlock] at h);have R:=J.o.th.fr r (fun _ _=>id);have A:=Z R;clear ha R Q;subst a8;have hh:b<c.heap.size:=A.o.td.lt
 -- the file's own block,the entry's,then the entry behind the others
 have x:((c.alloc (.cells #[.slice none 0 0,I 0] 152)).alloc (.cells #[.string a,E c.heap.size 0] 148)).ownsRow 0 148 2
  (.slice a1 M.uQ.2.2.uX.length c1) M.uQ.2.2.uX.length (flat M.uQ.2.2.uX):=(K.o.sL.alloc _).alloc _
 go_wp2_with (at_builtin;go_must (refine zm rfl _ _ _ _ rfl _ _ bH bH (zq 140 _ 148 2 24 AU Yc O _ _ _ x
  ⟨c.heap.size+1,0,none⟩ 1 1 [.string a,E c.heap.size 0] rfl (WA _ _ _ _ _ bG) ak ac V) ?_))
 intro v2 y N;have m:=Z N;clear N x;have G:DRep y b (L.sk c.heap.size) (M.uQ.2.2.sk c.heap.size):=by
  have a7:c.heap.size∉M.uQ.2.2.tL:=fun hi=>by
   have:=(A.o.tw _ hi).lt;omega
  have h0:=(A.o.fr ((U Nil c).alloc (.cells #[.slice none 0 0,I 0] 152)) (fun _ _=>id)).sk (f:=c.heap.size) (Blk.new c [.slice none 0 0,I 0] _) a7;have h1:=h0.fr ((U Nil _).alloc (.cells #[.string a,E c.heap.size 0] 148)) (fun _ _=>id);refine h1.fr m.o.fr ?_;intro k g i;have b1:k=s.heap.size:=by
   rcases K.o.qN with h|h
   .rw[h] at i;simp[Value.ownBlock] at i
   .rw[h] at i;simpa using i.symm
  have b2:s.heap.size<c.heap.size:=by
   have:=zF K.o.sL (k:=k) i;omega
  rcases g.qR with h|h
  .omega
  .have:=J.o.th.lt h
   omega
 have a0:∀ k,v2.ownBlock=some k->s.heap.size<=k:=by
  intro k g;rcases m.o.qN with h|h
  .rw[h] at g
   rcases K.o.qN with j|j
   .rw[j] at g;simp[Value.ownBlock] at g
   .rw[j] at g;simp at g;omega
  .rw[h] at g
   simp at g;have:=r.size;omega
 have B:Fr Nil s y:=by
  refine Fr.tk (Fr.alloc (Fr.alloc r _) _) m.o.fr ?_;intro k g i;rcases K.o.qN with j|j
  .rw[j] at i;simp[Value.ownBlock] at i
  .rw[j] at i;simp at i;omega
 have T:=m.o.fr.size;simp only[yK] at T;have X:(M.uQ.2.2.uX++[(a,c.heap.size)]).length=M.uQ.2.2.uX.length+1:=bG
 have o:y.ownsRow 0 148 2 v2 (M.uQ.2.2.uX++[(a,c.heap.size)]).length (flat (M.uQ.2.2.uX++[(a,c.heap.size)])):=by
  rw[X,XA];exact m.o.sL
 have t:∀ e,e∈M.uQ.2.2.uX++[(a,c.heap.size)]->e.2∈(M.uQ.2.2.sk c.heap.size).tL:=by
  intro e i;simp only[CV,CX] at i;rcases i with i|rfl
  .exact CT _ (J.o.th.rA e i)
  .exact CY ..
 have HT:=Vc v2 (M.uQ.2.2.uX++[(a,c.heap.size)]) y b _ _ G o t D;have a5:=Z HT;have b0:=Z G;clear HT G o t X;go_wp2_with fail;refine a5.o.mono ?_;rintro e w5 ⟨rfl,cv,S,C,q⟩;have a4:=Z S;have l:=fun k=>Foot.po (b:=b) (L:=L.sk c.heap.size) (M:=M.uQ.2.2.sk c.heap.size) (v:=v2) (cv:=cv) (d:=M.uQ.2.2.uX++[(a,c.heap.size)]) (k:=k);have a3:=Z l;have a2:=Z q;have a6:=Z a0;clear S l q a0
 go_wp2
 go_ret;have b5:=J.o.fr.size;have b4:=hf.size;have b6:=r.size;have b8:=C.size;refine⟨rfl,c.heap.size,_,V,V,(DStep.sF HH.o hf).trans (J.o.trans ⟨a4.o,?_,?_⟩)⟩
 .exact Iq
 .intro k g
  rcases a3.o k g with h|h|h
  .exact .inr (a6.o k h)
  .rcases a2.o with j|⟨k',j,hle⟩
   .rw[j] at h;exact .inl (.ch h)
   .rw[j] at h;simp at h;omega
  .rcases h.qR with h|h
   .omega
   .exact .inl h
theorem DRep.grow{s:World}(h:DRep w b L M)(p:f∈M.tL){y:List UInt8}
 (J:Blk s f [v,I (M.uV f).uZ] 152)(K:s.ownsRow 0 5 1 v ((M.uV f).bytes++y).length (u8s ((M.uV f).bytes++y)))
 (fr:Fr (fun k=>k=f\/(L.fV f).ownBlock=some k) w s)(u:∀ k,v.ownBlock=some k->(L.fV f).ownBlock=some k\/w.heap.size<=k) :
 DRep s b {L with fV:=fun g=>if g=f then v else L.fV g} (M.tX f {M.uV f with bytes:=(M.uV f).bytes++y}):=by
 have B:∀ {k:Nat} {c:List Value} {t:TypeId},Blk w k c t->t≠152->t≠5->Blk s k c t:=fun q l m =>
  q.fr fr fun a=>by
   rcases a with e|a
   .exact q.ne (h.tw f p) l e
   .exact zh (h.sq f p) q m a
 have d:∀ {e:TypeId} {D:Nat} {v:Value} {n:Nat} {G:List Value},w.ownsRow 0 e D v n G->e≠152->e≠5->s.ownsRow 0 e D v n G:=fun q l m =>
  ze q fr fun k e a=>by
   rcases a with rfl|a
   .exact zh q (h.tw k p) (wJ l) e
   .exact Zf q (h.sq f p) m e a
 exact {
  td:=B h.td O O
  uX:=d h.uX O O
  uZ:=d h.uZ O O
  ch:=d h.ch O O
  qh:=h.qh
  tB:=fun i l m=>d (h.tB i l m) O O
  tw:=fun g j=>by
   by_cases e:g=f
   .subst e;simpa [DM.tX] using J
   .have:=(h.tw g j).fr fr (fun a=>by
     rcases a with a|a
     .exact e a
     .exact zh (h.sq f p) (h.tw g j) O a)
    simpa [DM.tX,e] using this
  sq:=fun g j=>by
   by_cases e:g=f
   .subst e;simpa [DM.tX] using K
   .have:=ze (h.sq g j) fr (fun k C a=>by
     rcases a with rfl|a
     .exact zh (h.sq g j) (h.tw k p) O C
     .exact h.rF g j f p e k C a)
    simpa [DM.tX,e] using this
  rF:=fun g j r o e k a=>by
   by_cases A:g=f
   .subst A
    have x:¬r=g:=fun h=>e h.symm;simp only[Ad,x,Aa] at a |-;rcases u k a with l|l
    .exact h.rF g j r o e k l
    .intro m
     have:=zF (h.sq r o) m;omega
   .by_cases x:r=f
    .subst x
     simp only[A,Aa,Ad] at a |-;intro m;rcases u k m with l|l
     .exact h.rF g j r o e k a l
     .have:=zF (h.sq g j) a
      omega
    .simp only[A,x,Aa] at a |-
     exact h.rF g j r o e k a
  le:=fun g j=>by
   by_cases e:g=f
   .subst e
    have:=h.le g j;simp[DM.tX];omega
   .simpa [DM.tX,e] using h.le g j
  rA:=h.rA
  qZ:=h.qZ
  qW:=h.qW}
def DM.qo(M:DM)(n:Int):Option Int :=
 if M.uQ.1=true then some n
 else if M.uQ.2.2.tJ=false/\0<n then some (M.part.tmod n)
 else none
def DM.left(M:DM):Int:=if IntKind.i64.wrap (M.room-M.rE)<0 then 0 else IntKind.i64.wrap (M.room-M.rE)
theorem Nw(a c:ByteArray)(w:World)(b:Nat)(L:DL)(M:DM)(h:DRep w b L M)(f:zZ M.uX a=-1) :
 Calls prog 203 #[E b 0,.string a,.string c] w fun e k =>
  e=.returned (I 11)/\DStep b L M w L M k:=by
 have i:=h.td.cell;simp only[DM.cells] at i;have d:=Z h;have g:=Z f;clear h f;go_enter xB,xl
 go_wp2_with (go_at_call 87;refine(YR g.o _ d.o.uX).mono ?_;rintro e l ⟨rfl,j⟩)
 go_ret;exact⟨rfl,DStep.sF d.o j⟩
theorem Kv(c a:ByteArray)(w:World)(b:Nat)(L:DL)(M:DM)(h:DRep w b L M)(k:Nat)(_:k<M.uX.length)(m:zZ M.uX c=k)(o:M.uQ.1=false)(d:M.uQ.2.2.tJ=true)(_:a.size<=1000000000000) :
 Calls prog 203 #[E b 0,.string c,.string a] w fun e s =>
  e=.returned (I M.uQ.2.1)/\DStep b L M w L M.uQ.2.2 s:=by
 have g:=h.td.cell;have f:=zH h.uX;unfold maxLen at f;simp only[DM.cells] at g;have j:=Z h;have q:=Z m;have r:=Z o;have i:=Z d;clear h m o d;go_enter xB,xl;go_wp2_with fail;refine(Za q.o _ j.o.uX).mono ?_;rintro e t ⟨rfl,p⟩;go_wp2_with fail;have l:=Z6 t b L M (j.o.fr p (fun _ _=>id));rw[r.o] at l;refine l.mono ?_;rintro e u ⟨rfl,hs⟩;clear g;have g:=hs.th.td.cell;simp only[DM.cells,i.o] at g
 go_wp2
 go_ret;exact⟨rfl,(DStep.sF j.o p).trans hs⟩
theorem append_nil(c a:ByteArray)(w:World)(b:Nat)(L:DL)(M:DM)(h:DRep w b L M)(k:Nat)(_:k<M.uX.length)(m:zZ M.uX c=k)(o:M.uQ.1=false)(d:M.uQ.2.2.tJ=false)(_:a.size=0) :
 Calls prog 203 #[E b 0,.string c,.string a] w fun e s =>
  e=.returned (I M.uQ.2.1)/\DStep b L M w L M.uQ.2.2 s:=by
 have g:=h.td.cell;have f:=zH h.uX;unfold maxLen at f;simp only[DM.cells] at g;have j:=Z h;have q:=Z m;have r:=Z o;have i:=Z d;clear h m o d;go_enter xB,xl;go_wp2_with fail;refine(Za q.o _ j.o.uX).mono ?_;rintro e t ⟨rfl,p⟩;go_wp2_with fail;have l:=Z6 t b L M (j.o.fr p (fun _ _=>id));rw[r.o] at l;refine l.mono ?_;rintro e u ⟨rfl,hs⟩;clear g;have g:=hs.th.td.cell;simp only[DM.cells,i.o] at g
 go_wp2
 go_ret;exact⟨rfl,(DStep.sF j.o p).trans hs⟩
theorem WD(w:World)(b:Nat)(L:DL)(M:DM)(d:World)(h:DRep d b L M)(a:Fr Nil d w) :
 Calls prog 41 #[E b 0] w fun e c=>e=.returned (I M.rE)/\c.cell? (Y b 3)=some (I M.room)/\Fr Nil d c:=by
 refine(Sj w b L M (h.fr a (fun _ _=>id))).mono fun e c ⟨g,f⟩=>⟨g,?_,a.trans f⟩;exact((h.fr (a.trans f) (fun _ _=>id)).td.cell 3)
theorem WE{o:World}(h:DRep w b L M)(l:f∈M.tL){n:Option Addr}{c m:Nat}{j:List UInt8}
 (x:L.fV f=.slice n (M.uV f).bytes.length c)(hm:m=j.length)
 (u:App w.drew (.slice n (M.uV f).bytes.length c) 5 1 ((M.uV f).bytes.length+m) (u8s (M.uV f).bytes++u8s j) v o) :
 ∃ A,DStep b L M w A (M.tX f {M.uV f with bytes:=(M.uV f).bytes++j}) (o.setCell (Y f 0) v):=by
 subst hm;have r:Fr (fun k=>k=f\/(L.fV f).ownBlock=some k) w (o.setCell (Y f 0) v):=by
  refine Fr.set (Fr.tk (Fr.drew (U _ w)) u.fr ?_) (fun _=>.inl rfl) _;intro k _ a;exact .inr (by rw[x];exact a)
 have q:Blk o f [L.fV f,I (M.uV f).uZ] 152:=by
  have D:=(h.tw f l).drew;refine D.fr u.fr ?_;rw[<- x];exact zh (h.sq f l) (h.tw f l) O
 have G:Blk (o.setCell (Y f 0) v) f [v,I (M.uV f).uZ] 152:=q.set 0 v;have p:∀ k,v.ownBlock=some k->(L.fV f).ownBlock=some k\/w.heap.size<=k:=by
  intro k a;rcases u.qN with d|d
  .rw[d] at a;exact .inl (by rw[x];exact a)
  .rw[d] at a;simp at a;exact .inr V
 have t:(o.setCell (Y f 0) v).ownsRow 0 5 1 v ((M.uV f).bytes++j).length (u8s ((M.uV f).bytes++j)):=by
  have d:=u.sL;have B:u8s ((M.uV f).bytes++j)=u8s (M.uV f).bytes++u8s j:=by simp[u8s]
  have C:((M.uV f).bytes++j).length=(M.uV f).bytes.length+j.length:=bG
  rw[B,C];exact ze d (S:=fun k=>k=f) ab (fun k e a=>by subst a;exact zh d q O e)
 refine⟨{L with fV:=fun g=>if g=f then v else L.fV g},⟨h.grow l G t r p,r.mono ?_,?_⟩⟩
 .intro k _ a
  rcases a with rfl|a
  .exact .uV l
  .exact .row f l a
 .intro k a
  cases a using Foot.elim with
  | blk=>exact .inl .td
  | dir e=>exact .inl (.uX e)
  | safe e=>exact .inl (.uZ e)
  | ch e=>exact .inl (.ch e)
  | chs i d e=>exact .inl (.tB i d e)
  | file e=>exact .inl (.uV e)
  | row g y e =>
   by_cases s:g=f
   .subst s
    simp only[Ad] at e;rcases p k e with d|d
    .exact .inl (.row g y d)
    .exact .inr d
   .simp only[s,Aa] at e
    exact .inl (.row g y e)
theorem VV(h:p:=by
 intro C a8;have h0:=H3.o.tw _ u;rw[t.o] at h0;exact(h0.drew).fr a8 (zh d h0 O)):p:=h
theorem Ny(l a:ByteArray)(w:World)(b:Nat)(L:DL)(M:DM)(h:DRep w b L M)(k:Nat)(hk:k<M.uX.length)(h1:zZ M.uX l=k)(b1:a.size<=1000000000000)(T:(M.uV M.uX[k].2).bytes.length<=1000000000000)
 (hd:M.uQ.1=true)(f:¬M.uQ.2.2.left<a.size) :
 Calls prog 203 #[E b 0,.string l,.string a] w fun e w' =>
  e=.returned (I M.uQ.2.1)/\∃ R,DStep b L M w R ((M.uQ.2.2).tX M.uX[k].2 {M.uQ.2.2.uV M.uX[k].2 with bytes:=(M.uQ.2.2.uV M.uX[k].2).bytes++(a).data.toList}) w':=by
 have r:=h.td.cell;have A:=zH h.uX;unfold maxLen at A;simp only[DM.cells] at r;have N:=Z h;have H1:=Z h1;have HD:=Z hd;have HL:=Z f;clear f;clear h h1 hd;go_enter xB,xl;go_wp2_with fail;refine(Za H1.o _ N.o.uX).mono ?_;rintro e w1 ⟨rfl,hf⟩;go_wp2_with fail;have J:=Z6 w1 b L M (N.o.fr hf (fun _ _=>id));rw[HD.o] at J;refine J.mono ?_;rintro e w2 ⟨rfl,hs⟩;clear r J;have r:=hs.th.td.cell;simp only[DM.cells] at r;have s:=hs.th.td.cell 3;simp only[DM.cells] at s;simp at s;have D:=Z hs;clear hs;go_wp2_with fail
 go_region_held3 (fun w'=>w'.cell? (Y b 3)=some (I M.uQ.2.2.room)) (first|go_keep|assumption) (first|(go_at_call 41;refine(WD _ b L M.uQ.2.2 w2 D.o.th (Fr.drew (U _ _))).mono ?_;rintro e w3 ⟨rfl,a0,y⟩))
 have HE:aa ((if IntKind.i64.wrap (M.uQ.2.2.room-M.uQ.2.2.rE)<0 then 0 else IntKind.i64.wrap (M.uQ.2.2.room-M.uQ.2.2.rE))=M.uQ.2.2.left):=rfl;rw[HE.o];have a7:=HL.o;generalize M.uQ.2.2.left=left at a7;have o:=D.o.th.fr y (fun _ _=>id);have X:k<M.uQ.2.2.uX.length:=by rw[M.tK.1];exact hk
 have he:M.uQ.2.2.uX[k].2=M.uX[k].2:=by simp[M.tK.1]
 obtain⟨g,b2,n,c,hv,u,_,hp,i⟩:=o.entry X;rw[he] at u hp i;have S:=(o.tw _ u).cell;have b4:=(o.tw _ u).frozen;rw[i] at S;clear r s a0;have r:=o.td.cell;simp only[DM.cells] at r;rw[hv] at r;have H3:=Z o;have t:=Z i;clear o i hv;have d:=H3.o.sq _ u;rw[t.o] at d;have v:=Z d;have a6:(M.uQ.2.2.uV M.uX[k].2).bytes.length<=1000000000000:=by rw[M.tK.2.2.2.1];exact T
 have a1:(a).size<=1000000000000:=by exact b1
 have q1:(M.uQ.2.2.uV M.uX[k].2).bytes.length+(a).size<=maxLen:=by unfold maxLen;omega
 have q2:(M.uQ.2.2.uV M.uX[k].2).bytes.length+(a).size<=140737488355328:=V
 have Q1:=Z q1;have Q2:=Z q2;have Q:aa (∀ C:World,Fr (fun j=>(Value.slice n (M.uQ.2.2.uV M.uX[k].2).bytes.length c).ownBlock=some j) w3.drew C->Blk C M.uX[k].2 [.slice n (M.uQ.2.2.uV M.uX[k].2).bytes.length c,I (M.uQ.2.2.uV M.uX[k].2).uZ] 152):=by
  exact VV
 clear q1 q2 d a1;go_wp2_with fail
 go_region_law
  ((refine Zw bH _ _ _ _ bH _ _ bH bH (Yh (w:=w3.drew) 150 9 _ 5 Ap AH V6 _ _ _ v.o (a) Q1.o Q2.o) ?_;intro v4 C G;obtain⟨a4,c4,a2⟩:=zf G.sL;have x:=Q.o C G.fr;have b3:=x.cell 0;have a8:=x.frozen 0;have HA:=Z G;clear G;subst a2))
 go_wp2
 go_ret;obtain⟨R,B⟩:=WE H3.o u t.o bG HA.o;exact⟨rfl,R,(DStep.sF N.o hf).trans (D.o.trans ((DStep.sF D.o.th y).trans B))⟩
theorem Ps(l a:ByteArray)(w:World)(b:Nat)(L:DL)(M:DM)(h:DRep w b L M)(k:Nat)(hk:k<M.uX.length)(h1:zZ M.uX l=k)(b1:a.size<=1000000000000)(T:(M.uV M.uX[k].2).bytes.length<=1000000000000)
 (hd:M.uQ.1=true)(K:M.uQ.2.1=9)(m:Nat)(hm:M.uQ.2.2.left=m)(f:(m:Int)<a.size) :
 Calls prog 203 #[E b 0,.string l,.string a] w fun e w' =>
  e=.returned (I 9)/\∃ R,DStep b L M w R ((M.uQ.2.2).tX M.uX[k].2 {M.uQ.2.2.uV M.uX[k].2 with bytes:=(M.uQ.2.2.uV M.uX[k].2).bytes++(a.extract 0 m).data.toList}) w':=by
 have r:=h.td.cell;have A:=zH h.uX;unfold maxLen at A;simp only[DM.cells] at r;have N:=Z h;have H1:=Z h1;have HD:=Z hd;have HL:=Z f;have a3:=Z K;have HM:=Z hm;clear f K hm;clear h h1 hd;go_enter xB,xl;go_wp2_with fail;refine(Za H1.o _ N.o.uX).mono ?_;rintro e w1 ⟨rfl,hf⟩;go_wp2_with fail;have J:=Z6 w1 b L M (N.o.fr hf (fun _ _=>id));rw[HD.o] at J;rw[a3.o] at J;refine J.mono ?_;rintro e w2 ⟨rfl,hs⟩;clear r J;have r:=hs.th.td.cell;simp only[DM.cells] at r;have s:=hs.th.td.cell 3;simp only[DM.cells] at s;simp at s;have D:=Z hs;clear hs;go_wp2_with fail
 go_region_held3 (fun w'=>w'.cell? (Y b 3)=some (I M.uQ.2.2.room)) (first|go_keep|assumption) (first|(go_at_call 41;refine(WD _ b L M.uQ.2.2 w2 D.o.th (Fr.drew (U _ _))).mono ?_;rintro e w3 ⟨rfl,a0,y⟩))
 have HE:aa ((if IntKind.i64.wrap (M.uQ.2.2.room-M.uQ.2.2.rE)<0 then 0 else IntKind.i64.wrap (M.uQ.2.2.room-M.uQ.2.2.rE))=M.uQ.2.2.left):=rfl;rw[HE.o];rw[HM.o];have a7:=HL.o;have b7:m<=a.size:=V
 have o:=D.o.th.fr y (fun _ _=>id);have X:k<M.uQ.2.2.uX.length:=by rw[M.tK.1];exact hk
 have he:M.uQ.2.2.uX[k].2=M.uX[k].2:=by simp[M.tK.1]
 obtain⟨g,b2,n,c,hv,u,_,hp,i⟩:=o.entry X;rw[he] at u hp i;have S:=(o.tw _ u).cell;have b4:=(o.tw _ u).frozen;rw[i] at S;clear r s a0;have r:=o.td.cell;simp only[DM.cells] at r;rw[hv] at r;have H3:=Z o;have t:=Z i;clear o i hv;have d:=H3.o.sq _ u;rw[t.o] at d;have v:=Z d;have a6:(M.uQ.2.2.uV M.uX[k].2).bytes.length<=1000000000000:=by rw[M.tK.2.2.2.1];exact T
 have a1:(a.extract 0 m).size<=1000000000000:=by rw[AN];omega
 have q1:(M.uQ.2.2.uV M.uX[k].2).bytes.length+(a.extract 0 m).size<=maxLen:=by unfold maxLen;omega
 have q2:(M.uQ.2.2.uV M.uX[k].2).bytes.length+(a.extract 0 m).size<=140737488355328:=V
 have Q1:=Z q1;have Q2:=Z q2;have Q:aa (∀ C:World,Fr (fun j=>(Value.slice n (M.uQ.2.2.uV M.uX[k].2).bytes.length c).ownBlock=some j) w3.drew C->Blk C M.uX[k].2 [.slice n (M.uQ.2.2.uV M.uX[k].2).bytes.length c,I (M.uQ.2.2.uV M.uX[k].2).uZ] 152):=by
  exact VV
 clear q1 q2 d a1;go_wp2_with fail
 go_region_law
  ((refine Zw bH _ _ _ _ bH _ _ bH bH (Yh (w:=w3.drew) 150 9 _ 5 Ap AH V6 _ _ _ v.o (a.extract 0 m) Q1.o Q2.o) ?_;intro v4 C G;obtain⟨a4,c4,a2⟩:=zf G.sL;have x:=Q.o C G.fr;have b3:=x.cell 0;have a8:=x.frozen 0;have HA:=Z G;clear G;subst a2))
 go_wp2
 go_ret;obtain⟨R,B⟩:=WE H3.o u t.o bG HA.o;have a5:(a.extract 0 m).size=m:=by rw[AN];omega
 rw[a5] at B;exact⟨rfl,R,(DStep.sF N.o hf).trans (D.o.trans ((DStep.sF D.o.th y).trans B))⟩
theorem Sn(l a:ByteArray)(w:World)(b:Nat)(L:DL)(M:DM)(h:DRep w b L M)(k:Nat)(hk:k<M.uX.length)(h1:zZ M.uX l=k)(b1:a.size<=1000000000000)(T:(M.uV M.uX[k].2).bytes.length<=1000000000000)
 (hd:M.uQ.1=false)(K:M.uQ.2.1=9)(a9:M.uQ.2.2.tJ=false)(p q:Nat)(b0:M.uQ.2.2.part=p)(hq:(p:Int).tmod a.size=q)(c3:q<a.size)(m:Nat)(hm:M.uQ.2.2.left=m)(f:(m:Int)<q) :
 Calls prog 203 #[E b 0,.string l,.string a] w fun e w' =>
  e=.returned (I 9)/\∃ R,DStep b L M w R ((M.uQ.2.2).tX M.uX[k].2 {M.uQ.2.2.uV M.uX[k].2 with bytes:=(M.uQ.2.2.uV M.uX[k].2).bytes++(a.extract 0 m).data.toList}) w':=by
 have r:=h.td.cell;have A:=zH h.uX;unfold maxLen at A;simp only[DM.cells] at r;have N:=Z h;have H1:=Z h1;have HD:=Z hd;have a3:=Z K;have b5:=Z a9;have b6:=Z b0;have HL:=Z f;have c2:((a.size:Int)==0)=false:=by rw[Ay];omega
 have c1:(0:Int)<a.size:=V
 clear K a9 b0 f;have HM:=Z hm;clear hm;clear h h1 hd;go_enter xB,xl;go_wp2_with fail;refine(Za H1.o _ N.o.uX).mono ?_;rintro e w1 ⟨rfl,hf⟩;go_wp2_with fail;have J:=Z6 w1 b L M (N.o.fr hf (fun _ _=>id));rw[HD.o] at J;rw[a3.o] at J;refine J.mono ?_;rintro e w2 ⟨rfl,hs⟩;clear r J;have r:=hs.th.td.cell;simp only[DM.cells,b5.o,b6.o] at r;have s:=hs.th.td.cell 3;simp only[DM.cells] at s;simp at s;have D:=Z hs;clear hs;go_wp2_with fail
 go_region_held3 (fun w'=>w'.cell? (Y b 3)=some (I M.uQ.2.2.room)) (first|go_keep|assumption) (first|(go_at_call 41;refine(WD _ b L M.uQ.2.2 w2 D.o.th (Fr.drew (U _ _))).mono ?_;rintro e w3 ⟨rfl,a0,y⟩))
 have HE:aa ((if IntKind.i64.wrap (M.uQ.2.2.room-M.uQ.2.2.rE)<0 then 0 else IntKind.i64.wrap (M.uQ.2.2.room-M.uQ.2.2.rE))=M.uQ.2.2.left):=rfl;rw[HE.o];rw[HM.o];have a7:=HL.o;have b7:m<=a.size:=V
 have o:=D.o.th.fr y (fun _ _=>id);have X:k<M.uQ.2.2.uX.length:=by rw[M.tK.1];exact hk
 have he:M.uQ.2.2.uX[k].2=M.uX[k].2:=by simp[M.tK.1]
 obtain⟨g,b2,n,c,hv,u,_,hp,i⟩:=o.entry X;rw[he] at u hp i;have S:=(o.tw _ u).cell;have b4:=(o.tw _ u).frozen;rw[i] at S;clear r s a0;have r:=o.td.cell;simp only[DM.cells] at r;rw[hv] at r;have H3:=Z o;have t:=Z i;clear o i hv;have d:=H3.o.sq _ u;rw[t.o] at d;have v:=Z d;have a6:(M.uQ.2.2.uV M.uX[k].2).bytes.length<=1000000000000:=by rw[M.tK.2.2.2.1];exact T
 have a1:(a.extract 0 m).size<=1000000000000:=by rw[AN];omega
 have q1:(M.uQ.2.2.uV M.uX[k].2).bytes.length+(a.extract 0 m).size<=maxLen:=by unfold maxLen;omega
 have q2:(M.uQ.2.2.uV M.uX[k].2).bytes.length+(a.extract 0 m).size<=140737488355328:=V
 have Q1:=Z q1;have Q2:=Z q2;have Q:aa (∀ C:World,Fr (fun j=>(Value.slice n (M.uQ.2.2.uV M.uX[k].2).bytes.length c).ownBlock=some j) w3.drew C->Blk C M.uX[k].2 [.slice n (M.uQ.2.2.uV M.uX[k].2).bytes.length c,I (M.uQ.2.2.uV M.uX[k].2).uZ] 152):=by
  exact VV
 clear q1 q2 d a1;go_wp2_with fail
 go_region_law
  ((refine Zw bH _ _ _ _ bH _ _ bH bH (Yh (w:=w3.drew) 150 9 _ 5 Ap AH V6 _ _ _ v.o (a.extract 0 m) Q1.o Q2.o) ?_;intro v4 C G;obtain⟨a4,c4,a2⟩:=zf G.sL;have x:=Q.o C G.fr;have b3:=x.cell 0;have a8:=x.frozen 0;have HA:=Z G;clear G;subst a2))
 go_wp2
 go_ret;obtain⟨R,B⟩:=WE H3.o u t.o bG HA.o;have a5:(a.extract 0 m).size=m:=by rw[AN];omega
 rw[a5] at B;exact⟨rfl,R,(DStep.sF N.o hf).trans (D.o.trans ((DStep.sF D.o.th y).trans B))⟩
theorem So(l a:ByteArray)(w:World)(b:Nat)(L:DL)(M:DM)(h:DRep w b L M)(k:Nat)(hk:k<M.uX.length)(h1:zZ M.uX l=k)(b1:a.size<=1000000000000)(T:(M.uV M.uX[k].2).bytes.length<=1000000000000)
 (hd:M.uQ.1=false)(K:M.uQ.2.1=9)(a9:M.uQ.2.2.tJ=false)(p q:Nat)(b0:M.uQ.2.2.part=p)(hq:(p:Int).tmod a.size=q)(c3:q<a.size)(f:¬M.uQ.2.2.left<q) :
 Calls prog 203 #[E b 0,.string l,.string a] w fun e w' =>
  e=.returned (I 9)/\∃ R,DStep b L M w R ((M.uQ.2.2).tX M.uX[k].2 {M.uQ.2.2.uV M.uX[k].2 with bytes:=(M.uQ.2.2.uV M.uX[k].2).bytes++(a.extract 0 q).data.toList}) w':=by
 have r:=h.td.cell;have A:=zH h.uX;unfold maxLen at A;simp only[DM.cells] at r;have N:=Z h;have H1:=Z h1;have HD:=Z hd;have a3:=Z K;have b5:=Z a9;have b6:=Z b0;have HL:=Z f;have c2:((a.size:Int)==0)=false:=by rw[Ay];omega
 have c1:(0:Int)<a.size:=V
 clear K a9 b0 f;clear h h1 hd;go_enter xB,xl;go_wp2_with fail;refine(Za H1.o _ N.o.uX).mono ?_;rintro e w1 ⟨rfl,hf⟩;go_wp2_with fail;have J:=Z6 w1 b L M (N.o.fr hf (fun _ _=>id));rw[HD.o] at J;rw[a3.o] at J;refine J.mono ?_;rintro e w2 ⟨rfl,hs⟩;clear r J;have r:=hs.th.td.cell;simp only[DM.cells,b5.o,b6.o] at r;have s:=hs.th.td.cell 3;simp only[DM.cells] at s;simp at s;have D:=Z hs;clear hs;go_wp2_with fail
 go_region_held3 (fun w'=>w'.cell? (Y b 3)=some (I M.uQ.2.2.room)) (first|go_keep|assumption) (first|(go_at_call 41;refine(WD _ b L M.uQ.2.2 w2 D.o.th (Fr.drew (U _ _))).mono ?_;rintro e w3 ⟨rfl,a0,y⟩))
 have HE:aa ((if IntKind.i64.wrap (M.uQ.2.2.room-M.uQ.2.2.rE)<0 then 0 else IntKind.i64.wrap (M.uQ.2.2.room-M.uQ.2.2.rE))=M.uQ.2.2.left):=rfl;rw[HE.o];have a7:=HL.o;have b7:q<=a.size:=V
 generalize M.uQ.2.2.left=left at a7;have o:=D.o.th.fr y (fun _ _=>id);have X:k<M.uQ.2.2.uX.length:=by rw[M.tK.1];exact hk
 have he:M.uQ.2.2.uX[k].2=M.uX[k].2:=by simp[M.tK.1]
 obtain⟨g,b2,n,c,hv,u,_,hp,i⟩:=o.entry X;rw[he] at u hp i;have S:=(o.tw _ u).cell;have b4:=(o.tw _ u).frozen;rw[i] at S;clear r s a0;have r:=o.td.cell;simp only[DM.cells] at r;rw[hv] at r;have H3:=Z o;have t:=Z i;clear o i hv;have d:=H3.o.sq _ u;rw[t.o] at d;have v:=Z d;have a6:(M.uQ.2.2.uV M.uX[k].2).bytes.length<=1000000000000:=by rw[M.tK.2.2.2.1];exact T
 have a1:(a.extract 0 q).size<=1000000000000:=by rw[AN];omega
 have q1:(M.uQ.2.2.uV M.uX[k].2).bytes.length+(a.extract 0 q).size<=maxLen:=by unfold maxLen;omega
 have q2:(M.uQ.2.2.uV M.uX[k].2).bytes.length+(a.extract 0 q).size<=140737488355328:=V
 have Q1:=Z q1;have Q2:=Z q2;have Q:aa (∀ C:World,Fr (fun j=>(Value.slice n (M.uQ.2.2.uV M.uX[k].2).bytes.length c).ownBlock=some j) w3.drew C->Blk C M.uX[k].2 [.slice n (M.uQ.2.2.uV M.uX[k].2).bytes.length c,I (M.uQ.2.2.uV M.uX[k].2).uZ] 152):=by
  exact VV
 clear q1 q2 d a1;go_wp2_with fail
 go_region_law
  ((refine Zw bH _ _ _ _ bH _ _ bH bH (Yh (w:=w3.drew) 150 9 _ 5 Ap AH V6 _ _ _ v.o (a.extract 0 q) Q1.o Q2.o) ?_;intro v4 C G;obtain⟨a4,c4,a2⟩:=zf G.sL;have x:=Q.o C G.fr;have b3:=x.cell 0;have a8:=x.frozen 0;have HA:=Z G;clear G;subst a2))
 go_wp2
 go_ret;obtain⟨R,B⟩:=WE H3.o u t.o bG HA.o;have a5:(a.extract 0 q).size=q:=by rw[AN];omega
 rw[a5] at B;exact⟨rfl,R,(DStep.sF N.o hf).trans (D.o.trans ((DStep.sF D.o.th y).trans B))⟩
theorem Pt(l a:ByteArray)(w:World)(b:Nat)(L:DL)(M:DM)(h:DRep w b L M)(k:Nat)(hk:k<M.uX.length)(h1:zZ M.uX l=k)(b1:a.size<=1000000000000)(T:(M.uV M.uX[k].2).bytes.length<=1000000000000)
 (hd:M.uQ.1=true)(K:M.uQ.2.1=0)(m:Nat)(hm:M.uQ.2.2.left=m)(f:(m:Int)<a.size) :
 Calls prog 203 #[E b 0,.string l,.string a] w fun e w' =>
  e=.returned (I 10)/\∃ R,DStep b L M w R (({M.uQ.2.2 with uT:=wrap64 (M.uQ.2.2.uT+1),tr:=wrap64 (M.uQ.2.2.tr+1)}:DM).tX M.uX[k].2 {M.uQ.2.2.uV M.uX[k].2 with bytes:=(M.uQ.2.2.uV M.uX[k].2).bytes++(a.extract 0 m).data.toList}) w':=by
 have r:=h.td.cell;have A:=zH h.uX;unfold maxLen at A;simp only[DM.cells] at r;have N:=Z h;have H1:=Z h1;have HD:=Z hd;have HL:=Z f;have a3:=Z K;have HM:=Z hm;clear f K hm;clear h h1 hd;go_enter xB,xl;go_wp2_with fail;refine(Za H1.o _ N.o.uX).mono ?_;rintro e w1 ⟨rfl,hf⟩;go_wp2_with fail;have J:=Z6 w1 b L M (N.o.fr hf (fun _ _=>id));rw[HD.o] at J;rw[a3.o] at J;refine J.mono ?_;rintro e w2 ⟨rfl,hs⟩;clear r J;have r:=hs.th.td.cell;simp only[DM.cells] at r;have s:=hs.th.td.cell 3;simp only[DM.cells] at s;simp at s;have D:=Z hs;clear hs;go_wp2_with fail
 go_region_held3 (fun w'=>w'.cell? (Y b 3)=some (I M.uQ.2.2.room)) (first|go_keep|assumption) (first|(go_at_call 41;refine(WD _ b L M.uQ.2.2 w2 D.o.th (Fr.drew (U _ _))).mono ?_;rintro e w3 ⟨rfl,a0,y⟩))
 have HE:aa ((if IntKind.i64.wrap (M.uQ.2.2.room-M.uQ.2.2.rE)<0 then 0 else IntKind.i64.wrap (M.uQ.2.2.room-M.uQ.2.2.rE))=M.uQ.2.2.left):=rfl;rw[HE.o];rw[HM.o];have a7:=HL.o;have b7:m<=a.size:=V
 have o:=D.o.th.fr y (fun _ _=>id);have b9:=o.td.cell;have c5:=o.td.frozen;simp only[DM.cells] at b9;clear r s a0;have X:k<M.uQ.2.2.uX.length:=by rw[M.tK.1];exact hk
 have he:M.uQ.2.2.uX[k].2=M.uX[k].2:=by simp[M.tK.1]
 have h4:DRep ((w3.setCell (Y b 8) (I (wrap64 (M.uQ.2.2.uT+1)))).setCell (Y b 9) (I (wrap64 (M.uQ.2.2.tr+1)))) b L ({M.uQ.2.2 with uT:=wrap64 (M.uQ.2.2.uT+1),tr:=wrap64 (M.uQ.2.2.tr+1)}:DM) :=
  o.sL ((o.td.set 8 _).set 9 _) ab rfl rfl rfl rfl rfl
 obtain⟨g,b2,n,c,hv,u,_,hp,i⟩:=o.entry X;rw[he] at u hp i;have S:=(o.tw _ u).cell;have b4:=(o.tw _ u).frozen;rw[i] at S;rw[hv] at b9;have c6:M.uX[k].2≠b:=(o.tw _ u).ne o.td O;have c7:g≠b:=fun e=>zh o.uX o.td O (by rw[hv,<- e];rfl);have H3:=Z h4;have t:=Z i;have b8:=Z o;clear h4 o i hv;have d:=H3.o.sq _ u;rw[t.o] at d;have v:=Z d;have a6:(M.uQ.2.2.uV M.uX[k].2).bytes.length<=1000000000000:=by rw[M.tK.2.2.2.1];exact T
 have a1:(a.extract 0 m).size<=1000000000000:=by rw[AN];omega
 have q1:(M.uQ.2.2.uV M.uX[k].2).bytes.length+(a.extract 0 m).size<=maxLen:=by unfold maxLen;omega
 have q2:(M.uQ.2.2.uV M.uX[k].2).bytes.length+(a.extract 0 m).size<=140737488355328:=V
 have Q1:=Z q1;have Q2:=Z q2;have Q:aa (∀ C:World,Fr (fun j=>(Value.slice n (M.uQ.2.2.uV M.uX[k].2).bytes.length c).ownBlock=some j) ((w3.setCell (Y b 8) (I (wrap64 (M.uQ.2.2.uT+1)))).setCell (Y b 9) (I (wrap64 (M.uQ.2.2.tr+1)))).drew C->Blk C M.uX[k].2 [.slice n (M.uQ.2.2.uV M.uX[k].2).bytes.length c,I (M.uQ.2.2.uV M.uX[k].2).uZ] 152):=by
  exact VV
 clear q1 q2 d a1;go_wp2_with fail
 go_region_law
  ((refine Zw bH _ _ _ _ bH _ _ bH bH (Yh (w:=((w3.setCell (Y b 8) (I (wrap64 (M.uQ.2.2.uT+1)))).setCell (Y b 9) (I (wrap64 (M.uQ.2.2.tr+1)))).drew) 150 9 _ 5 Ap AH V6 _ _ _ v.o (a.extract 0 m) Q1.o Q2.o) ?_;intro v4 C G;obtain⟨a4,c4,a2⟩:=zf G.sL;have x:=Q.o C G.fr;have b3:=x.cell 0;have a8:=x.frozen 0;have HA:=Z G;clear G;subst a2))
 go_wp2
 go_ret;obtain⟨R,B⟩:=WE H3.o u t.o bG HA.o;have a5:(a.extract 0 m).size=m:=by rw[AN];omega
 rw[a5] at B;have c0:DStep b L M.uQ.2.2 w3 L ({M.uQ.2.2 with uT:=wrap64 (M.uQ.2.2.uT+1),tr:=wrap64 (M.uQ.2.2.tr+1)}:DM) ((w3.setCell (Y b 8) (I (wrap64 (M.uQ.2.2.uT+1)))).setCell (Y b 9) (I (wrap64 (M.uQ.2.2.tr+1)))):=by
  exact .sL (b8.o.sL ((b8.o.td.set 8 _).set 9 _) ab rfl rfl rfl rfl rfl) ab rfl
 exact⟨rfl,R,(DStep.sF N.o hf).trans (D.o.trans ((DStep.sF D.o.th y).trans (c0.trans B)))⟩
theorem DM.pL(M:DM)(h:M.uQ.1=false):M.uQ.2.1=9:=by
 unfold DM.uQ at h |-;dsimp only at h |-;(repeat' split at h) <;> simp_all
theorem UJ(a:ByteArray)(w:World)(b:Nat)(L:DL)(M:DM)(h:DRep w b L M)(p:M.tB.length+1<=1000000000000)(hm:M.uX.length+1<=1000000000000) :
 Calls prog 211 #[E b 0,.string a] w fun e i =>
  ∃ f j,e=.returned (I (M.sx a f).1)/\w.heap.size<=f/\DStep b L M w j (M.sx a f).2 i:=by
 by_cases c:a=ByteArray.empty\/(M.uX.sF a).isSome=true
 .refine(Nu a w b L M h c).mono fun e i ⟨d,g⟩=>⟨w.heap.size,L,?_,CP _,?_⟩
  .rw[d];simp only[DM.sx];rw[Bl c]
  .simp only[DM.sx];rw[Bl c];exact DStep.sF h g
 .have he:¬a=ByteArray.empty:=fun e=>c (.inl e)
  rcases YU M.uX a with⟨d,g⟩|⟨k,q,d,g,_⟩
  .cases hd:M.uQ.1 with
   | false =>
    refine(Ku a w b L M h he d hd).mono fun e i ⟨l,m⟩=>⟨w.heap.size,L,?_,CP _,?_⟩
    .rw[l];simp only[DM.sx];rw[CW c]
    .simp only[DM.sx];rw[CW c,hd];exact m
   | true =>
    refine(Nv a w b L M h he d hd p hm).mono fun e i ⟨l,f,j,m,_,o⟩=>⟨f,j,?_,m,?_⟩
    .rw[l];simp only[DM.sx];rw[CW c]
    .simp only[DM.sx];rw[CW c,hd];exact o
  .exact absurd (.inr (by rw[g];rfl)) c
def DM.add(M:DM)(b:ByteArray)(a:ByteArray):Int × DM :=
 match M.uX.sF b with
 | none=>(11,M)
 | some f =>
  match M.qo a.size with
  | none=>(M.uQ.2.1,M.uQ.2.2)
  | some n =>
   if M.uQ.2.2.left<n then
    if M.uQ.2.1=0 then
     (10,({M.uQ.2.2 with uT:=wrap64 (M.uQ.2.2.uT+1),tr:=wrap64 (M.uQ.2.2.tr+1)}:DM).tX f
       {M.uQ.2.2.uV f with bytes:=(M.uQ.2.2.uV f).bytes++(a.extract 0 M.uQ.2.2.left.toNat).data.toList})
    else(M.uQ.2.1,M.uQ.2.2.tX f {M.uQ.2.2.uV f with bytes:=(M.uQ.2.2.uV f).bytes++(a.extract 0 M.uQ.2.2.left.toNat).data.toList})
   else(M.uQ.2.1,M.uQ.2.2.tX f {M.uQ.2.2.uV f with bytes:=(M.uQ.2.2.uV f).bytes++(a.extract 0 n.toNat).data.toList})
theorem DM.oM(M:DM):∃ m:Nat,M.left=m:=by
 have:0<=M.left:=by unfold DM.left;split <;> omega
 exact⟨_,(yj this).symm⟩
theorem UK(c a:ByteArray)(w:World)(b:Nat)(L:DL)(M:DM)(h:DRep w b L M)(C:0<=M.part)(j:a.size<=1000000000000)(x:∀ f,f∈M.tL->(M.uV f).bytes.length<=1000000000000) :
 Calls prog 203 #[E b 0,.string c,.string a] w fun e q =>
  e=.returned (I (M.add c a).1)/\∃ B,DStep b L M w B (M.add c a).2 q:=by
 rcases YU M.uX c with⟨l,o⟩|⟨k,r,l,o,_⟩
 .refine(Nw c a w b L M h l).mono fun e q ⟨g,i⟩=>?_
  simp only[DM.add,o];exact⟨g,L,i⟩
 .have hf:=x _ (h.rA _ (CU r))
  have u:M.uQ.2.2.part=M.part:=M.tK.2.2.2.2.2.2.1;obtain⟨m,hm⟩:=M.uQ.2.2.oM;cases hd:M.uQ.1 with
  | false =>
   have d:=M.pL hd;cases hdd:M.uQ.2.2.tJ with
   | true =>
    refine(Kv c a w b L M h k r l hd hdd j).mono fun e q ⟨g,i⟩=>?_;simp only[DM.add,o,DM.qo,hd,hdd];exact⟨g,L,i⟩
   | false =>
    by_cases A:a.size=0
    .refine(append_nil c a w b L M h k r l hd hdd A).mono fun e q ⟨g,i⟩=>?_
     simp only[DM.add,o,DM.qo,hd,hdd,A];exact⟨g,L,i⟩
    .obtain⟨p,hp'⟩:=Ai C
     have y:(p:Int).tmod a.size=(p%a.size:Nat):=by
      rw[wK]
     have v:p%a.size<a.size:=vE _ V;have t:M.qo a.size=some ((p%a.size:Nat):Int):=by
      simp only[DM.qo,hd,hdd];rw[CW bG,Bl ar,hp',y]
     by_cases s:M.uQ.2.2.left<((p%a.size:Nat):Int)
     .refine(Sn c a w b L M h k r l j hf hd d hdd p (p%a.size) (by rw[u,hp']) y v m hm V).mono fun e q ⟨g,i⟩=>?_
      simp only[DM.add,o,t];rw[Bl s,CW V,d,hm];exact⟨g,i⟩
     .refine(So c a w b L M h k r l j hf hd d hdd p (p%a.size) (by rw[u,hp']) y v s).mono fun e q ⟨g,i⟩=>?_
      simp only[DM.add,o,t];rw[CW s,d];exact⟨g,i⟩
  | true =>
   have t:M.qo a.size=some (a.size:Int):=by simp[DM.qo,hd]
   by_cases s:M.uQ.2.2.left<a.size
   .rcases M.qx with d|d
    .refine(Pt c a w b L M h k r l j hf hd d m hm V).mono fun e q ⟨g,i⟩=>?_
     simp only[DM.add,o,t];rw[Bl s,Bl d,hm];exact⟨g,i⟩
    .refine(Ps c a w b L M h k r l j hf hd d m hm V).mono fun e q ⟨g,i⟩=>?_
     simp only[DM.add,o,t];rw[Bl s,CW V,d,hm];exact⟨g,i⟩
   .refine(Ny c a w b L M h k r l j hf hd s).mono fun e q ⟨g,i⟩=>?_
    simp only[DM.add,o,t];rw[CW s];have:a.extract 0 ((a.size:Int).toNat)=a:=bG
    rw[this];exact⟨g,i⟩
end Go.Proofs.YtkhnggkkiefcdaaGreatDoor
