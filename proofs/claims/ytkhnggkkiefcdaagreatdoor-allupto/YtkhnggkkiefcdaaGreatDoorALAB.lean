/- larder: joined texts -/
import Derived.Test.YtkhnggkkiefcdaaGreatDoorALAA
import Derived.Lib.EndianBits
namespace Go.Proofs.YtkhnggkkiefcdaaGreatDoor
open Go.RowKit Proofs.Tryz
set_option maxRecDepth 100000
set_option maxHeartbeats 8000000
abbrev yW:=@Go.bits_join_low
abbrev xH:=@Go.wraps_u64
structure FM where
 bytes:List UInt8
 uZ:Nat
abbrev Dir:=List (ByteArray × Nat)
structure DM where
 uX:Dir
 uZ:Dir
 tB:List Dir
 uV:Nat->FM
 tL:List Nat
 room:Int
 uS:Int
 cut:Int
 fail:Int
 part:Int
 uT:Int
 tr:Int
 tJ:Bool
structure DL where
 sQ:Value
 sI:Value
 qq:Value
 sK:List Value
 fV:Nat->Value
def flat(d:Dir):List Value:=d.flatMap fun e=>[.string e.1,E e.2 0]
theorem Ns(d:Dir):(flat d).length=d.length*2:=by
 induction d with
 | nil=>rfl
 | cons e d a=>simp only[flat,Am,CN,Bh,BU] at a |-;omega
theorem ZP(d:Dir):∀ (k:Nat)(h:k<d.length),(flat d)[k*2]?=some (.string d[k].1)/\(flat d)[k*2+1]?=some (E (d[k].2) 0):=by
 induction d with
 | nil=>intro k h;simp at h
 | cons e d b =>
  intro k h;cases k with
  | zero=>exact⟨rfl,rfl⟩
  | succ k =>
   have:=b k aE;have a:(k+1)*2=k*2+2:=by omega
   simp only[flat,Am,a] at this |-;exact this
def zZ(d:Dir)(a:ByteArray):Int :=
 match d.findIdx? (fun e=>e.1==a) with
 | some i=>i
 | none=>-1
theorem Ie(d:Dir)(a:ByteArray)(k:Nat)(g:k<d.length)(c:∀ j (b:j<d.length),j<k->(d[j].1==a)=false)(f:(d[k].1==a)=true) :
 zZ d a=k:=by
 have:d.findIdx? (fun e=>e.1==a)=some k:=by
  rw[yy];exact⟨g,f,fun j b=>by have:=c j V b;simpa using this⟩
 simp[zZ,this]
theorem Kl(d:Dir)(a:ByteArray)(c:∀ j (b:j<d.length),(d[j].1==a)=false):zZ d a=-1:=by
 have:d.findIdx? (fun e=>e.1==a)=none:=by
  rw[List.findIdx?_eq_none_iff];intro x f;obtain⟨j,b,rfl⟩:=AP f;exact c j b
 simp[zZ,this]
theorem Ci{k:IntKind}{a b:Int}(h:a=b):Ending.returned (.int k a)=.returned (.int k b):=by rw[h]
theorem VU{p:Prop}(h:p:=by
 rcases h.2 with⟨y,h0⟩|⟨g,G,a7,y,_⟩
 .omega
 .simp at y;exact⟨g,y.1⟩):p:=h
theorem Sf(v:Value)(d:Dir)(c:ByteArray)(w:World)(h:w.ownsRow 0 148 2 v d.length (flat d)) :
 Calls prog 87 #[v,.string c] w fun e B=>e=.returned (I (zZ d c))/\Fr Nil w B:=by
 have T:=zH h;unfold maxLen at T;obtain⟨a,G,rfl⟩:=zf h;go_enter func87,ntmps87
 go_wp2
 go_loopw [8] (fun t B=>∃ k:Nat,k<=d.length/\t=I k/\(∀ j (u:j<d.length),j<k->(d[j].1==c)=false)/\Fr Nil w B) (fun t _=>d.length-(intOf t).toNat)
 case atStart=>exact⟨0,Bg _,rfl,fun j _ u=>absurd u (BF _),U _ _⟩
 case round =>
  obtain⟨k,f,rfl,u,o⟩:=hrel;by_cases D:k<d.length
  .obtain⟨g,rfl⟩:∃ g,a=some (Y g 0):=by
    exact VU
   have hc:=own_cell? (ze h o (fun _ _=>id)) (k*2) _ (ZP d k D).1;have hb:=yQ d[k].1 c;cases hm:(d[k].1==c) with
   | true =>
    have a5:(d[k].1.toList==c.toList)=true:=by rw[<- hb];exact hm
    clear hb;have hr:=Ie d c k D u hm;clear hm u
    go_wp2
    go_ret;exact⟨Ci hr.symm,o⟩
   | false =>
    have a5:(d[k].1.toList==c.toList)=false:=by rw[<- hb];exact hm
    clear hb;have S:∀ j (u:j<d.length),j<k+1->(d[j].1==c)=false:=by
     intro j L a8;by_cases e:j=k
     .subst e;exact hm
     .exact u j L V
    clear hm u;have HJ:=Z S;clear S
    go_wp2
    exact⟨⟨k+1,V,by go_num,HJ.o,o⟩,by simp[intOf];omega⟩
  .have hr:=Kl d c (fun j L=>u j L V)
   clear u
   go_wp2
   go_ret;exact⟨Ci hr.symm,o⟩
def DM.cells(L:DL)(M:DM):List Value :=
 [L.sQ,L.sI,L.qq,I M.room,I M.uS,I M.cut,I M.fail,I M.part,I M.uT,I M.tr,.bool M.tJ]
structure DRep(w:World)(b:Nat)(L:DL)(M:DM):Prop where
 td:Blk w b (M.cells L) 143
 uX:w.ownsRow 0 148 2 L.sQ M.uX.length (flat M.uX)
 uZ:w.ownsRow 0 148 2 L.sI M.uZ.length (flat M.uZ)
 ch:w.ownsRow 0 145 1 L.qq M.tB.length L.sK
 qh:L.sK.length=M.tB.length
 tB:∀ i (h1:i<L.sK.length) (h2:i<M.tB.length),w.ownsRow 0 148 2 L.sK[i] M.tB[i].length (flat M.tB[i])
 tw:∀ f,f∈M.tL->Blk w f [L.fV f,I (M.uV f).uZ] 152
 sq:∀ f,f∈M.tL->w.ownsRow 0 5 1 (L.fV f) (M.uV f).bytes.length (u8s (M.uV f).bytes)
 rF:∀ f,f∈M.tL->∀ g,g∈M.tL->f≠g->∀ k,(L.fV f).ownBlock=some k->(L.fV g).ownBlock≠some k
 le:∀ f,f∈M.tL->(M.uV f).uZ<=(M.uV f).bytes.length
 rA:∀ e,e∈M.uX->e.2∈M.tL
 qZ:∀ e,e∈M.uZ->e.2∈M.tL
 qW:∀ d,d∈M.tB->∀ e,e∈d->e.2∈M.tL
def Foot(b:Nat)(L:DL)(M:DM)(k:Nat):Prop :=
 k=b\/L.sQ.ownBlock=some k\/L.sI.ownBlock=some k\/L.qq.ownBlock=some k
  \/ (∃ (i:Nat) (_:i<L.sK.length),L.sK[i].ownBlock=some k)\/k∈M.tL\/(∃ f,f∈M.tL/\(L.fV f).ownBlock=some k)
variable{b k n:Nat}{L:DL}{M:DM}{w:World}{p:Prop}{v:Value}{a:ByteArray}{P:Program}
theorem Foot.td:Foot b L M b:=.inl rfl
theorem Foot.uX(h:L.sQ.ownBlock=some k):Foot b L M k:=.inr (.inl h)
theorem Foot.uZ(h:L.sI.ownBlock=some k):Foot b L M k:=.inr (.inr (.inl h))
theorem Foot.ch(h:L.qq.ownBlock=some k):Foot b L M k:=.inr (.inr (.inr (.inl h)))
theorem Foot.tB(i:Nat)(a:i<L.sK.length)(h:L.sK[i].ownBlock=some k):Foot b L M k:=.inr (.inr (.inr (.inr (.inl ⟨i,a,h⟩))))
theorem Foot.uV(h:k∈M.tL):Foot b L M k:=.inr (.inr (.inr (.inr (.inr (.inl h)))))
theorem Foot.row(f:Nat)(a:f∈M.tL)(h:(L.fV f).ownBlock=some k):Foot b L M k:=.inr (.inr (.inr (.inr (.inr (.inr ⟨f,a,h⟩)))))
theorem Foot.elim{b:Nat}{L:DL}{M:DM}{motive:(k:Nat)->Foot b L M k->Prop}(blk:motive b .td)
 (dir:∀ {k:Nat}(h:L.sQ.ownBlock=some k),motive k (.uX h))(safe:∀ {k:Nat}(h:L.sI.ownBlock=some k),motive k (.uZ h))
 (ch:∀ {k:Nat}(h:L.qq.ownBlock=some k),motive k (.ch h))
 (chs:∀ {k:Nat}(i:Nat)(h1:i<L.sK.length)(h:L.sK[i].ownBlock=some k),motive k (.tB i h1 h))
 (file:∀ {k:Nat}(h:k∈M.tL),motive k (.uV h))(row:∀ {k:Nat}(f:Nat)(hf:f∈M.tL)(h:(L.fV f).ownBlock=some k),motive k (.row f hf h))
 {k:Nat}(h:Foot b L M k):motive k h:=by
 rcases id h with e|e|e|e|⟨i,h1,e⟩|e|⟨f,hf,e⟩
 .subst e;exact blk
 .exact dir e
 .exact safe e
 .exact ch e
 .exact chs i h1 e
 .exact file e
 .exact row f hf e
theorem DRep.lt{w:World}{b:Nat}{L:DL}{M:DM}(h:DRep w b L M){k:Nat}(o:Foot b L M k):k<w.heap.size:=by
 cases o using Foot.elim with
 | blk=>exact h.td.lt
 | dir e=>exact zF h.uX e
 | safe e=>exact zF h.uZ e
 | ch e=>exact zF h.ch e
 | chs i c e=>exact zF (h.tB i c (by rw[<- h.qh];exact c)) e
 | file e=>exact(h.tw k e).lt
 | row f g e=>exact zF (h.sq f g) e
theorem DRep.fr{w':World}{S:Nat->Prop}(h:DRep w b L M)(f:Fr S w w')(c:∀ k,Foot b L M k->¬S k):DRep w' b L M where
 td:=h.td.fr f (c _ .td)
 uX:=ze h.uX f fun _ e=>c _ (.uX e)
 uZ:=ze h.uZ f fun _ e=>c _ (.uZ e)
 ch:=ze h.ch f fun _ e=>c _ (.ch e)
 qh:=h.qh
 tB:=fun i r y=>ze (h.tB i r y) f fun _ e=>c _ (.tB i r e)
 tw:=fun g o=>(h.tw g o).fr f (c _ (.uV o))
 sq:=fun g o=>ze (h.sq g o) f fun _ e=>c _ (.row g o e)
 rF:=h.rF
 le:=h.le
 rA:=h.rA
 qZ:=h.qZ
 qW:=h.qW
theorem DRep.sL{w':World}{M':DM}(h:DRep w b L M)(y:Blk w' b (M'.cells L) 143)(f:Fr (fun k=>k=b) w w')
 (q:M'.uX=M.uX)(r:M'.uZ=M.uZ)(m:M'.tB=M.tB)(o:M'.uV=M.uV)(c:M'.tL=M.tL):DRep w' b L M' where
 td:=y
 uX:=by rw[q];exact ze h.uX f fun _ e a=>by subst a;exact zh h.uX h.td O e
 uZ:=by rw[r];exact ze h.uZ f fun _ e a=>by subst a;exact zh h.uZ h.td O e
 ch:=by rw[m];exact ze h.ch f fun _ e a=>by subst a;exact zh h.ch h.td O e
 qh:=by rw[m];exact h.qh
 tB:=by
  rw[m];exact fun i t u=>ze (h.tB i t u) f fun _ e a=>by subst a;exact zh (h.tB i t u) h.td O e
 tw:=by rw[o,c];exact fun g j=>(h.tw g j).fr f ((h.tw g j).ne h.td O)
 sq:=by rw[o,c];exact fun g j=>ze (h.sq g j) f fun _ e a=>by subst a;exact zh (h.sq g j) h.td O e
 rF:=by rw[c];exact h.rF
 le:=by rw[o,c];exact h.le
 rA:=by rw[q,c];exact h.rA
 qZ:=by rw[r,c];exact h.qZ
 qW:=by rw[m,c];exact h.qW
def DM.uQ(M:DM):Bool × Int × DM :=
 let c:=wrap64 (M.uS+1)
 if M.tJ=true then(false,9,{M with uS:=c,uT:=wrap64 (M.uT+1)})
 else if (c==M.cut)=true then(true,9,{M with uS:=c,uT:=wrap64 (M.uT+1),tJ:=true})
 else if (c==M.fail)=true then(false,9,{M with uS:=c,uT:=wrap64 (M.uT+1)})
 else(true,0,{M with uS:=c})
theorem DM.pH(M:DM)(a:M.tJ=true):M.uQ=(false,9,{M with uS:=wrap64 (M.uS+1),uT:=wrap64 (M.uT+1)}):=by
 simp[DM.uQ,a]
theorem DM.pK(M:DM)(b:M.tJ=false)(a:(wrap64 (M.uS+1)==M.cut)=true) :
 M.uQ=(true,9,{M with uS:=wrap64 (M.uS+1),uT:=wrap64 (M.uT+1),tJ:=true}):=by
 simp[DM.uQ,b,a]
theorem DM.pG(M:DM)(c:M.tJ=false)(a:(wrap64 (M.uS+1)==M.cut)=false)(b:(wrap64 (M.uS+1)==M.fail)=true) :
 M.uQ=(false,9,{M with uS:=wrap64 (M.uS+1),uT:=wrap64 (M.uT+1)}):=by
 simp[DM.uQ,c,a,b]
theorem DM.od(M:DM)(c:M.tJ=false)(a:(wrap64 (M.uS+1)==M.cut)=false)(b:(wrap64 (M.uS+1)==M.fail)=false) :
 M.uQ=(true,0,{M with uS:=wrap64 (M.uS+1)}):=by
 simp[DM.uQ,c,a,b]
theorem Ig(h:p:=by
 go_wp2
 go_ret2;refine⟨rfl,?_,ab⟩;have:=(c.o.set 4 (I (wrap64 (M.uS+1)))).set 8 (I (wrap64 (M.uT+1)));exact this):p:=h
theorem Km(w:World)(b:Nat)(L:DL)(M:DM)(h:Blk w b (M.cells L) 143) :
 Calls prog 209 #[E b 0] w fun e f =>
  e=.returned (.tuple #[.bool M.uQ.1,I M.uQ.2.1])/\Blk f b (M.uQ.2.2.cells L) 143/\Fr (fun k=>k=b) w f:=by
 have d:=h.cell;have g:=h.frozen;have c:=Z h;clear h;simp only[DM.cells] at d;cases hd:M.tJ with
 | true =>
  rw[hd] at d;rw[M.pH hd];have a:=Z hd;clear hd;go_enter uj,vS;exact Ig
 | false =>
  rw[hd] at d;cases h1:(wrap64 (M.uS+1)==M.cut) with
  | true =>
   rw[M.pK hd h1];have a:=Z hd;clear hd;go_enter uj,vS
   go_wp2
   go_quiet (fail)
   go_wp2
   go_ret2;refine⟨rfl,?_,ab⟩;have:=((c.o.set 4 (I (wrap64 (M.uS+1)))).set 8 (I (wrap64 (M.uT+1)))).set 10 (.bool true);exact this
  | false =>
   cases h2:(wrap64 (M.uS+1)==M.fail) with
   | true =>
    rw[M.pG hd h1 h2];have a:=Z hd;clear hd;go_enter uj,vS
    go_wp2
    go_quiet (fail)
    go_wp2
    go_quiet (fail)
    exact Ig
   | false =>
    rw[M.od hd h1 h2];have a:=Z hd;clear hd;go_enter uj,vS
    go_wp2
    go_quiet (fail)
    go_wp2
    go_quiet (fail)
    go_wp2
    go_ret2;refine⟨rfl,?_,ab⟩;have:=c.o.set 4 (I (wrap64 (M.uS+1)));exact this
theorem Po(w:World)(b:Nat)(L:DL)(M:DM)(h:DRep w b L M) :
 Calls prog 209 #[E b 0] w fun e a =>
  e=.returned (.tuple #[.bool M.uQ.1,I M.uQ.2.1])/\DRep a b L M.uQ.2.2/\Fr (fun k=>k=b) w a:=by
 refine(Km w b L M h.td).mono fun e a ⟨d,f,c⟩=>⟨d,?_,c⟩;refine h.sL f c ?_ ?_ ?_ ?_ ?_ <;> (unfold DM.uQ;dsimp only;(repeat' split) <;> rfl)
def DM.new(c:Int):DM:={uX:=[],uZ:=[],tB:=[],uV:=fun _=>⟨[],0⟩,tL:=[],room:=c,uS:=0,cut:=0,fail:=0,part:=0,uT:=0,tr:=0,tJ:=false}
def DL.new:DL:={sQ:=.slice none 0 0,sI:=.slice none 0 0,qq:=.slice none 0 0,sK:=[],fV:=fun _=>.slice none 0 0}
theorem DRep.new{g:Int}(h:Blk w b ((DM.new g).cells DL.new) 143):DRep w b DL.new (DM.new g) where
 td:=h
 uX:=Bf w 0 _ _
 uZ:=Bf w 0 _ _
 ch:=Bf w 0 _ _
 qh:=rfl
 tB:=fun i c=>absurd c (BF _)
 tw:=fun f c=>by cases c
 sq:=fun f c=>by cases c
 rF:=fun f c=>by cases c
 le:=fun f c=>by cases c
 rA:=fun f c=>by cases c
 qZ:=fun f c=>by cases c
 qW:=fun f c=>by cases c
theorem RX(a:Int)(w:World) :
 Calls prog 50 #[I a] w fun e b=>e=.returned (E w.heap.size 0)/\DRep b w.heap.size DL.new (DM.new a)/\Fr Nil w b/\b.heap.size=w.heap.size+1:=by
 go_enter func50,ntmps50
 go_wp2
 go_ret;exact⟨rfl,DRep.new (Blk.new _ _ _),ab,bG⟩
theorem WV(w:World)(b:Nat)(L:DL)(M:DM)(h:DRep w b L M) :
 Calls prog 38 #[E b 0] w fun e c=>e=.returned (.bool M.tJ)/\c=w:=by
 have a:=h.td.cell;simp only[DM.cells] at a;go_enter func38,ntmps38
 go_wp2
 go_ret;exact⟨rfl,rfl⟩
theorem Zr(w:World)(b:Nat)(L:DL)(M:DM)(h:DRep w b L M) :
 Calls prog 47 #[E b 0] w fun e c=>e=.returned (I M.uT)/\c=w:=by
 have a:=h.td.cell;simp only[DM.cells] at a;go_enter func47,ntmps47
 go_wp2
 go_ret;exact⟨rfl,rfl⟩
theorem Tp(w:World)(b:Nat)(L:DL)(M:DM)(h:DRep w b L M) :
 Calls prog 100 #[E b 0] w fun e c=>e=.returned (I M.tr)/\c=w:=by
 have a:=h.td.cell;simp only[DM.cells] at a;go_enter func100,ntmps100
 go_wp2
 go_ret;exact⟨rfl,rfl⟩
def DM.ry(M:DM)(n:Int):DM:={M with cut:=if 0<n then wrap64 (M.uS+n) else 0}
theorem EK(h:p:=by
 have:=(c.o.td.set 5 (I 0));exact this):p:=h
theorem EL(h:p:=by
 have:=(c.o.td.set 5 (I 0)).set 5 (I (wrap64 (M.uS+n)));exact this):p:=h
theorem MN(h:p:=by
 go_enter func37,ntmps37
 go_wp2
 go_end0
 rw[HM.o];refine⟨rfl,c.o.sL ?_ ab rfl rfl rfl rfl rfl,ab⟩
 first
  | (clear a;exact EL)
  | exact EK):p:=h
theorem RY(n:Int)(w:World)(b:Nat)(L:DL)(M:DM)(h:DRep w b L M) :
 Calls prog 37 #[E b 0,I n] w fun e f =>
  e=.returned (.tuple #[])/\DRep f b L (M.ry n)/\Fr (fun k=>k=b) w f:=by
 have g:=h.td.cell;have i:=h.td.frozen;simp only[DM.cells] at g;have c:=Z h;clear h;by_cases d:0<n
 .have HM:aa (M.ry n={M with cut:=wrap64 (M.uS+n)}):=by simp[aa,DM.ry,d]
  have a:=0;exact MN
 .have HM:aa (M.ry n={M with cut:=0}):=by simp[aa,DM.ry,d]
  exact MN
def DM.sO(M:DM)(n a:Int):DM:={M with fail:=if 0<n then wrap64 (M.uS+n) else 0,part:=if a<0 then wrap64 (-(wrap64 (a+1))) else a}
theorem EM(h:p:=by
 have:=(((c.o.td.set 6 (I 0)).set 6 (I (wrap64 (M.uS+n)))).set 7 (I a));exact this):p:=h
theorem EN(h:p:=by
 have:=(((c.o.td.set 6 (I 0)).set 6 (I (wrap64 (M.uS+n)))).set 7 (I a)).set 7 (I (wrap64 (-(wrap64 (a+1)))));exact this):p:=h
theorem MO(h:p:=by
 go_enter func46,ntmps46
 go_wp2
 go_end0
 rw[HM.o];refine⟨rfl,c.o.sL ?_ ab rfl rfl rfl rfl rfl,ab⟩
 first
  | (clear d;exact EN)
  | exact EM):p:=h
theorem EO(h:p:=by
 have:=(((c.o.td.set 6 (I 0))).set 7 (I a));exact this):p:=h
theorem EP(h:p:=by
 have:=(((c.o.td.set 6 (I 0))).set 7 (I a)).set 7 (I (wrap64 (-(wrap64 (a+1)))));exact this):p:=h
theorem MP(h:p:=by
 go_enter func46,ntmps46
 go_wp2
 go_end0
 rw[HM.o];refine⟨rfl,c.o.sL ?_ ab rfl rfl rfl rfl rfl,ab⟩
 first
  | (clear f;exact EP)
  | exact EO):p:=h
theorem Sg(n a:Int)(w:World)(b:Nat)(L:DL)(M:DM)(h:DRep w b L M) :
 Calls prog 46 #[E b 0,I n,I a] w fun e j =>
  e=.returned (.tuple #[])/\DRep j b L (M.sO n a)/\Fr (fun k=>k=b) w j:=by
 have l:=h.td.cell;have m:=h.td.frozen;simp only[DM.cells] at l;have c:=Z h;clear h;by_cases g:0<n <;> by_cases i:a<0
 .have HM:aa (M.sO n a={M with fail:=wrap64 (M.uS+n),part:=wrap64 (-(wrap64 (a+1)))}):=by simp[aa,DM.sO,g,i]
  have d:=0;exact MO
 .have HM:aa (M.sO n a={M with fail:=wrap64 (M.uS+n),part:=a}):=by simp[aa,DM.sO,g,i]
  exact MO
 .have HM:aa (M.sO n a={M with fail:=0,part:=wrap64 (-(wrap64 (a+1)))}):=by simp[aa,DM.sO,g,i]
  have f:=0;exact MP
 .have HM:aa (M.sO n a={M with fail:=0,part:=a}):=by simp[aa,DM.sO,g,i]
  exact MP
def Dir.sF(d:Dir)(a:ByteArray):Option Nat:=(d.find? fun e=>e.1==a).map (·.2)
theorem YU(d:Dir)(a:ByteArray) :
 (zZ d a=-1/\Dir.sF d a=none)\/∃ k:Nat,∃ h:k<d.length,zZ d a=k/\Dir.sF d a=some d[k].2/\(d[k].1==a)=true:=by
 unfold zZ Dir.sF;cases hf:d.findIdx? (fun e=>e.1==a) with
 | none =>
  rw[List.findIdx?_eq_none_iff] at hf;refine .inl ⟨rfl,?_⟩;rw[yY.2 (fun x l=>by simpa using hf x l)]
  rfl
 | some k =>
  rw[yy] at hf;obtain⟨f,c,g⟩:=hf;refine .inr ⟨k,f,rfl,?_,c⟩;rw[(List.find?_eq_some_iff_getElem (xs:=d) (b:=d[k])).2 ⟨c,k,f,rfl,fun j i=>by simpa using g j i⟩]
  rfl
theorem YR{d:Dir}(hm:zZ d a=-1)(w:World)(h:w.ownsRow 0 148 2 v d.length (flat d)) :
 Calls prog 87 #[v,.string a] w fun e c=>e=.returned (I (-1))/\Fr Nil w c:=by
 have:=Sf v d a w h
 rwa [hm] at this
theorem Za{d:Dir}(hm:zZ d a=k)(w:World)(h:w.ownsRow 0 148 2 v d.length (flat d)) :
 Calls prog 87 #[v,.string a] w fun e b=>e=.returned (I k)/\Fr Nil w b:=by
 have:=Sf v d a w h
 rwa [hm] at this
def DM.size(M:DM)(c:ByteArray):Int × Int :=
 match M.uX.sF c with
 | some f=>((M.uV f).bytes.length,0)
 | none=>(0,11)
theorem DRep.entry(h:DRep w b L M)(j:k<M.uX.length) :
 ∃ g e n c,L.sQ=.slice (some (Y g 0)) M.uX.length e/\M.uX[k].2∈M.tL/\w.cell? (Y g (k*2))=some (.string M.uX[k].1) /\
  w.cell? (Y g (k*2+1))=some (E (M.uX[k].2) 0) /\
  L.fV M.uX[k].2=.slice n (M.uV M.uX[k].2).bytes.length c:=by
 obtain⟨g,e,m,_⟩:=zl h.uX V;have i:=h.uX;rw[m] at i;have l:=h.rA _ (CU j);obtain⟨a,c,o⟩:=zf (h.sq _ l);exact⟨g,e,a,c,m,l,own_cell? i _ _ (ZP _ k j).1,own_cell? i _ _ (ZP _ k j).2,o⟩
theorem Si(a:ByteArray)(w:World)(b:Nat)(L:DL)(M:DM)(h:DRep w b L M) :
 Calls prog 188 #[E b 0,.string a] w fun e v =>
  e=.returned (.tuple #[I (M.size a).1,I (M.size a).2])/\Fr Nil w v:=by
 have i:=h.td.cell;simp only[DM.cells] at i;have p:=Z h;have j:=zH h.uX;unfold maxLen at j;rcases YU M.uX a with⟨d,f⟩|⟨k,u,d,f,_⟩
 .have HM:aa (M.size a=(0,11)):=by simp[aa,DM.size,f]
  have o:=Z d;clear h d f;go_enter func188,ntmps188
  go_wp2_with (go_at_call 87;refine(YR o.o _ p.o.uX).mono ?_;rintro e x ⟨rfl,m⟩)
  go_ret2;rw[HM.o];exact⟨rfl,m⟩
 .have HM:aa (M.size a=(((M.uV M.uX[k].2).bytes.length:Int),(0:Int))):=by simp[aa,DM.size,f]
  have o:=Z d;clear h d f;go_enter func188,ntmps188;go_wp2_with fail;refine(Za o.o _ p.o.uX).mono ?_;rintro e x ⟨rfl,m⟩;have l:=p.o.fr m (fun _ _=>id);clear i;have i:=l.td.cell;simp only[DM.cells] at i;obtain⟨g,s,n,c,r,t,_,y,hs⟩:=l.entry u;have q:=(l.tw _ t).cell;rw[hs] at q;rw[r] at i;clear hs r l
  go_wp2
  go_ret2;rw[HM.o];exact⟨rfl,m⟩
def DM.qE(M:DM)(k:Nat):Int:=(M.uX.take k).foldl (fun n e=>wrap64 (n+(M.uV e.2).bytes.length)) 0
def DM.rE(M:DM):Int:=M.qE M.uX.length
theorem DM.pE(M:DM)(k:Nat)(h:k<M.uX.length):M.qE (k+1)=wrap64 (M.qE k+(M.uV M.uX[k].2).bytes.length):=by
 unfold DM.qE;rw[Bp h,BM]
 rfl
theorem Sj(w:World)(b:Nat)(L:DL)(M:DM)(h:DRep w b L M) :
 Calls prog 41 #[E b 0] w fun e p=>e=.returned (I M.rE)/\Fr Nil w p:=by
 have j:=h.td.cell;simp only[DM.cells] at j;have d:=zH h.uX;unfold maxLen at d;obtain⟨a,u,o⟩:=zf h.uX;rw[o] at j;have q:=Z h;have s:=Z o;clear h o;go_enter func41,ntmps41
 go_wp2
 clear j
 go_loopw [3,11] (fun n t p=>∃ k:Nat,k<=M.uX.length/\t=I k/\n=I (M.qE k)/\Fr Nil w p) (fun _ t _=>M.uX.length-(intOf t).toNat)
 case atStart=>exact⟨0,Bg _,rfl,rfl,U _ _⟩
 case round =>
  obtain⟨k,y,rfl,rfl,m⟩:=hrel;have i:=q.o.fr m (fun _ _=>id);by_cases f:k<M.uX.length
  .obtain⟨g,cap',n,c,hv',hi,he,hp,hs⟩:=i.entry f
   rw[s.o] at hv';simp at hv';obtain⟨rfl,rfl⟩:=hv';have l:=(i.tw _ hi).cell;rw[hs] at l;have r:=Z (M.pE k f);have v:=(i.tw _ hi).lt;have x:=wG _ _ he;clear hs i
   go_wp2
   exact⟨⟨k+1,V,by go_num,by rw[r.o],m.alloc _⟩,by simp[intOf];omega⟩
  .go_wp2
   go_ret;have:k=M.uX.length:=V
   subst this;exact⟨rfl,m⟩
def zp(l:List UInt8):ByteArray:=⟨l.toArray⟩
def DM.rn(M:DM)(b:ByteArray)(a n:Int):ByteArray × Int :=
 match M.uX.sF b with
 | none=>(ByteArray.empty,11)
 | some f =>
  if 0<=a/\0<=n/\a<=(M.uV f).bytes.length/\n<=(M.uV f).bytes.length-a then
   (zp (((M.uV f).bytes.drop a.toNat).take n.toNat),0)
  else(ByteArray.empty,12)
theorem Ih(a:ByteArray)(x n:Int)(w:World)(b:Nat)(L:DL)(M:DM)(h:DRep w b L M)(c:zZ M.uX a=-1)(d:M.uX.sF a=none) :
 Calls prog 189 #[E b 0,.string a,I x,I n] w fun e l =>
  e=.returned (.tuple #[.string (M.rn a x n).1,I (M.rn a x n).2])/\Fr Nil w l:=by
 have j:=h.td.cell;simp only[DM.cells] at j;have g:=Z h;have i:aa (M.rn a x n=(ByteArray.empty,(11:Int))):=by simp[aa,DM.rn,d]
 have f:=Z c;clear h c d;go_enter uk,vT
 go_wp2_with (go_at_call 87;refine(YR f.o _ g.o.uX).mono ?_;rintro e m ⟨rfl,k⟩)
 go_ret2;rw[i.o];exact⟨rfl,k⟩
theorem Fx(a:ByteArray)(x n:Int)(w:World)(b:Nat)(L:DL)(M:DM)(h:DRep w b L M)(k:Nat)(v:k<M.uX.length)(s:zZ M.uX a=k)(t:M.uX.sF a=some M.uX[k].2)
 (A:¬(0<=x/\0<=n/\x<=(M.uV M.uX[k].2).bytes.length/\n<=(M.uV M.uX[k].2).bytes.length-x)) :
 Calls prog 189 #[E b 0,.string a,I x,I n] w fun e K =>
  e=.returned (.tuple #[.string (M.rn a x n).1,I (M.rn a x n).2])/\Fr Nil w K:=by
 have f:=h.td.cell;simp only[DM.cells] at f;have q:=Z h;have i:=zH h.uX;have d:=zH (h.sq _ (h.rA _ (CU v)));unfold maxLen at i d;have C:aa (M.rn a x n=(ByteArray.empty,(12:Int))):=by simp only[aa,DM.rn,t];rw[CW A]
 have B:=Z s;clear h s t;have j:x<0\/(0<=x/\n<0)\/(0<=x/\0<=n/\((M.uV M.uX[k].2).bytes.length:Int)<x)\/(0<=x/\0<=n/\x<=((M.uV M.uX[k].2).bytes.length:Int)/\((M.uV M.uX[k].2).bytes.length:Int)-x<n):=V
 clear A;rcases j with o|⟨o,r⟩|⟨o,r,D⟩|⟨o,r,D,N⟩
 all_goals
  go_enter uk,vT;go_wp2_with fail;refine(Za B.o _ q.o.uX).mono ?_;rintro e R ⟨rfl,u⟩;have l:=q.o.fr u (fun _ _=>id);clear f;have f:=l.td.cell;simp only[DM.cells] at f;obtain⟨g,G,m,c,y,J,_,Q,hs⟩:=l.entry v;have p:=(l.tw _ J).cell;rw[hs] at p;rw[y] at f;clear hs y l
  go_wp2
  go_ret2;rw[C.o];exact⟨rfl,u⟩
theorem TN{t e u:TypeId}(A:P.underlying t=some (.slice e))(q:P.underlying e=some (.int .u8))(B:P.underlying u=some .string)
 {g cap:Nat}{d:List UInt8}(h:w.ownsRow 0 5 1 (.slice (some (Y g 0)) n cap) n (u8s d))(x m c:Nat)(D:x+m<=d.length) :
 (convert t u (.slice (some (Y g x)) m c)).run P w=.ok (.string (zp ((d.drop x).take m))) w:=by
 have y:(loadCells ⟨g,x,none⟩ m).run P w=.ok ((((d.drop x).take m).map fun c:UInt8=>(c.toNat:Int)).map (Value.int .u8)).toArray w:=by
  have o:=run_loadCells_list (P:=P) w ⟨g,x,none⟩ ((((d.drop x).take m).map fun c:UInt8=>(c.toNat:Int)).map (Value.int .u8)) (by
   intro j v i;have s:j<m:=by
    rcases Az j m with k|k
    .exact k
    .rw[xI ar] at i;cases i
   have f:((Y g x):Addr).add j=⟨g,x+j,none⟩:=by unfold Addr.add;split <;> simp_all
   rw[f];refine own_cell? h _ _ ?_;rw[<- i];simp[u8s,s,List.getElem?_drop]
   rfl)
  have p:((((d.drop x).take m).map fun c:UInt8=>(c.toNat:Int)).map (Value.int .u8)).length=m:=by simp;omega
  rw[p] at o;exact o
 rw[run_convert_bytes_string w t u e _ m c A q B,run_bytesToString w _ m c _ y]
 congr 2
 have key:∀ (l:List UInt8) (b:ByteArray),(l.map fun c:UInt8=>(c.toNat:Int)).foldl (fun r n=>r.push (UInt8.ofNat n.toNat)) b=⟨(b.data.toList++l).toArray⟩:=by
  intro l
  induction l with
  | nil=>intro b;simp
  | cons a l C =>
   intro b;simp only[Bw,BX];rw[C];simp[ByteArray.push]
 rw[key]
 rfl
theorem Ij(a:ByteArray)(x n:Nat)(w:World)(b:Nat)(L:DL)(M:DM)(h:DRep w b L M)(k:Nat)(C:k<M.uX.length)(v:zZ M.uX a=k)(y:M.uX.sF a=some M.uX[k].2)
 (S:x+n<=(M.uV M.uX[k].2).bytes.length)(h0:0<n) :
 Calls prog 189 #[E b 0,.string a,I x,I n] w fun e T =>
  e=.returned (.tuple #[.string (M.rn a x n).1,I (M.rn a x n).2])/\Fr Nil w T:=by
 have i:=h.td.cell;simp only[DM.cells] at i;have r:=Z h;have j:=zH h.uX;have d:=zH (h.sq _ (h.rA _ (CU C)));unfold maxLen at j d;have J:aa (M.rn a x n=(zp (((M.uV M.uX[k].2).bytes.drop x).take n),(0:Int))):=by simp only[aa,DM.rn,y];rw[Bl V];simp
 have G:=Z v;clear h v y;have X:¬(x:Int)<0:=V
 have a2:¬(n:Int)<0:=V
 have a3:¬((M.uV M.uX[k].2).bytes.length:Int)<x:=V
 have a4:¬((M.uV M.uX[k].2).bytes.length:Int)-x<n:=V
 go_enter uk,vT;go_wp2_with fail;refine(Za G.o _ r.o.uX).mono ?_;rintro e w1 ⟨rfl,A⟩;have f:=r.o.fr A (fun _ _=>id);clear i;have i:=f.td.cell;simp only[DM.cells] at i;obtain⟨g,K,m,c,D,B,_,hp,hs⟩:=f.entry C;have o:=f.sq _ B;obtain⟨gb,s,l,N,q⟩:=zl o V;have p:=(f.tw _ B).cell;rw[l] at p o;rw[D] at i;unfold maxLen at q;have R:¬s=x:=V
 have Q:=TN (P:=prog) (t:=150) (u:=9) Ap wY AH o x n (s-x) S;clear hs D f o l
 go_wp2
 go_ret2;rw[J.o];exact⟨rfl,A⟩
theorem Ik{t e u:TypeId}(d:P.underlying t=some (.slice e))(b:P.underlying e=some (.int .u8))(f:P.underlying u=some .string)
 (w:World)(a:Option Addr)(c:Nat):(convert t u (.slice a 0 c)).run P w=.ok (.string ByteArray.empty) w:=by
 rw[run_convert_bytes_string w t u e _ 0 c d b f];cases a with
 | none=>rfl
 | some a=>exact run_bytesToString w a 0 c [] bH
theorem Il(a:ByteArray)(x:Nat)(w:World)(b:Nat)(L:DL)(M:DM)(h:DRep w b L M)(k:Nat)(y:k<M.uX.length)(d:zZ M.uX a=k)(p:M.uX.sF a=some M.uX[k].2)
 (hx:x<=(M.uV M.uX[k].2).bytes.length) :
 Calls prog 189 #[E b 0,.string a,I x,I 0] w fun e N =>
  e=.returned (.tuple #[.string (M.rn a x 0).1,I (M.rn a x 0).2])/\Fr Nil w N:=by
 have l:=h.td.cell;simp only[DM.cells] at l;have r:=Z h;have o:=zH h.uX;have i:=zH (h.sq _ (h.rA _ (CU y)));unfold maxLen at o i;have D:aa (M.rn a x 0=(ByteArray.empty,(0:Int))):=by simp only[aa,DM.rn,p];rw[Bl V];simp[zp];rfl
 have C:=Z d;clear h d p;have R:¬(x:Int)<0:=V
 have S:¬((M.uV M.uX[k].2).bytes.length:Int)<x:=V
 have T:¬((M.uV M.uX[k].2).bytes.length:Int)-x<0:=V
 go_enter uk,vT;go_wp2_with fail;refine(Za C.o _ r.o.uX).mono ?_;rintro e Q ⟨rfl,s⟩;have j:=r.o.fr s (fun _ _=>id);clear l;have l:=j.td.cell;simp only[DM.cells] at l;obtain⟨g,G,m,c,B,v,_,hp,hs⟩:=j.entry y;have A:=j.sq _ v;have f:(M.uV M.uX[k].2).bytes.length<=c/\c<=maxLen:=by
  rcases A.2 with⟨d,p⟩|⟨_,_,_,d,_,_,p,X,_⟩
  .rw[hs] at d;simp at d;omega
  .rw[hs] at d;simp at d;omega
 unfold maxLen at f;obtain⟨f,J⟩:=f;have q:=(j.tw _ v).cell;rw[hs] at q;rw[B] at l;have K:=Ik (P:=prog) (t:=150) (u:=9) Ap wY AH Q;clear hs B j A
 go_wp2
 all_goals
  go_ret2;rw[D.o];exact⟨rfl,s⟩
theorem Kn(f:ByteArray)(x n:Int)(w:World)(b:Nat)(L:DL)(M:DM)(h:DRep w b L M) :
 Calls prog 189 #[E b 0,.string f,I x,I n] w fun e m =>
  e=.returned (.tuple #[.string (M.rn f x n).1,I (M.rn f x n).2])/\Fr Nil w m:=by
 rcases YU M.uX f with⟨g,i⟩|⟨k,j,g,i,_⟩
 .exact Ih f x n w b L M h g i
 .by_cases hx:0<=x/\0<=n/\x<=(M.uV M.uX[k].2).bytes.length/\n<=(M.uV M.uX[k].2).bytes.length-x
  .obtain⟨a,b',c,d⟩:=hx
   obtain⟨x,rfl⟩:=Ai a;obtain⟨n,rfl⟩:=Ai b';rcases yI n with rfl|l
   .exact Il f x w b L M h k j g i V
   .exact Ij f x n w b L M h k j g i V l
  .exact Fx f x n w b L M h k j g i hx
theorem ZG.nL{W:World}{g:FuncId}{p:Value}{c:List UInt8}(h:ZG W (.func (.func g) #[] #[p]) c)(k:Still W w){d:List Value}(j:w.ownsRow 0 5 1 v n d)(a:n+c.length<=1099511627776) :
 Calls prog g #[v,p] w fun e l=>∃ f,e=.returned f/\Adds w v n d c f l:=by
 obtain⟨m,o,b,_,i⟩:=h;simp only[Value.func.injEq,Fn.func.injEq] at b;obtain⟨rfl,_,rfl⟩:=b;exact i w k v n d j a
def zS(l:List Ver):List Value:=l.flatMap Ver.cells
theorem XZ(l:List Ver):(zS l).length=l.length*8:=by
 induction l with
 | nil=>rfl
 | cons e l a=>simp only[zS,Am,CN,Bh,Ver.sY] at a |-;omega
theorem UF(l:List Ver):∀ (k j:Nat)(h:k<l.length)(_:j<8),(zS l)[k*8+j]?=l[k].cells[j]?:=by
 induction l with
 | nil=>intro k j h;simp at h
 | cons e l c =>
  intro k j h a;cases k with
  | zero =>
   simp only[zS,Am,vA,BQ,AA];exact Aq (by rw[Ver.sY];exact a)
  | succ k =>
   have:=c k j aE a;have b:(k+1)*8+j=k*8+j+8:=by omega
   simp only[zS,Am,b,xA] at this |-;rw[AJ (by rw[Ver.sY];omega),Ver.sY,show k*8+j+8-8=k*8+j from V];exact this
theorem XS(l:List Ver):∀ u∈zS l,u.oneCell'=true:=by
 intro u a;simp only[zS,xZ] at a;obtain⟨e,_,a⟩:=a;simp only[Ver.cells,BC,yX,ub] at a;rcases a with rfl|rfl|rfl|rfl|rfl|rfl|rfl|rfl <;> rfl
def Y3(l:List Ver):List UInt8:=zk l.length++(l.map Y9).flatten
theorem Pp(b1 b2:Nat)(lv:Value)(l:List Ver)(hl:∀ x∈l,x.Nat)(c6:l.length<1000000)(w:World)
 (C:Blk w b1 [lv] 61)(h2:Blk w b2 [.func (.func 289) #[] #[]] 372)
 (hr:w.ownsRow 0 37 8 lv l.length (zS l))
 (v:Value)(n:Nat)(Q:List Value)(ho:w.ownsRow 0 5 1 v n Q)(B:n+(Y3 l).length<=1099511627776) :
 Calls prog 292 #[v,E b1 0,E b2 0] w fun e w'=>∃ v',e=.returned v'/\Adds w v n Q (Y3 l) v' w':=by
 have c2:w.cell? (Y b1 0)=some lv:=by rw[C.cell];rfl
 obtain⟨va,vc,rfl⟩:=zf ho;obtain⟨la,lc,rfl⟩:=zf hr;have HO:=Z ho;have H1:=Z C;clear C ho;have J:n+(zk l.length).length+((l.map Y9).flatten).length<=1099511627776:=by simp only[Y3,CN] at B;omega
 have HL:=Z J;clear J B;have HR:=Z hr;have H2:=Z h2;have a7:=Z hl;clear hr h2 hl;go_enter func292,ntmps292
 go_wp2_with (first
  | (go_at_call 280;refine(Ys w.heap.size l.length V _ G (.slice va n vc) n Q (ze (S:=Nil) HO.o u (fun _ _=>id)) (by have:=HL.o;omega)).mono ?_;rintro e w3 ⟨v3,rfl,a1⟩;refine aa.o ?_)
  | (go_at_call 277;refine(ZY w _ _ (U _ _)).mono ?_;rintro e w2 ⟨rfl,G,u⟩))
 have X:=Z (a1.of u);have L:=X.o.still HO.o;have c4:w3.cell? (Y b1 0)=some (.slice la l.length lc):=by rw[(H1.o.still O L).cell];rfl
 clear a1 G u L;refine Z ?_;go_wp2_with fail
 go_loopw [0,14] (fun t0 N w'=>∃ i:Nat,i<=l.length/\N=I i/\Adds w (.slice va n vc) n Q (zk l.length++((l.take i).map Y9).flatten) t0 w') (fun _ N _=>l.length-(intOf N).toNat)
 case atStart=>exact⟨0,Bg _,rfl,by simpa using X.o⟩
 case round =>
  obtain⟨i,hi,rfl,s⟩:=hrel;have K:=s.still HO.o;obtain⟨m,hm⟩:∃ m,m=n+(zk l.length++((l.take i).map Y9).flatten).length:=⟨_,rfl⟩;have d:=s.1;rw[<- hm] at d;obtain⟨ta,tc,rfl⟩:=zf d;have HW:=Z d;have HM:=Z hm;clear d hm;by_cases y:i<l.length
  .obtain⟨g,rfl⟩:∃ g,la=some (Y g 0):=by
    obtain⟨g,b3,h,_⟩:=zl HR.o V;simp at h;exact⟨g,h.1⟩
   have c0:=U7 O HR.o K;have R:=fun j hj=>own_cell? c0 (i*8+j) _ ((UF l i j y hj).trans (CS (by rw[Ver.sY];exact hj)));have g0:=R 0 V;have g1:=R 1 V;have g2:=R 2 V;have g3:=R 3 V;have g4:=R 4 V;have g5:=R 5 V;have g6:=R 6 V;have g7:=R 7 V;have c3:∀ ob:Obj,(wr.alloc ob).cell? (Y b2 0)=some (.func (.func 289) #[] #[]):=fun ob=>by rw[((H2.o.still O K).alloc ob).cell];rfl
   have hx:=a7.o l[i] (CU y);have a:zk l.length++((l.take (i+1)).map Y9).flatten=(zk l.length++((l.take i).map Y9).flatten)++Y9 l[i]:=by
    rw[Bp y,Bq,wu];simp
   have M:m+(Y9 l[i]).length<=1099511627776:=by
    have C:=V9 (l.map Y9) (i+1);exact Id
   have D:=Z a;have T:=Z s;have a0:=Z M;clear a s M c0 R;generalize l[i]=x at g0 g1 g2 g3 g4 g5 g6 g7 hx D a0;obtain⟨node,c7,o0,o1,o2,o3,a8,b4⟩:=x;simp only[Ver.cells,AA,xA,AM] at g0 g1 g2 g3 g4 g5 g6 g7;have HX:=Z hx;clear hx;go_wp2_with fail;refine(QJ ⟨node,c7,o0,o1,o2,o3,a8,b4⟩ HX.o _).mono ?_;rintro e w4 ⟨pb,rfl,hp,b6⟩;have a4:Fr Nil wr w4:=((U Nil wr).alloc _).trans b6;have HP:=Z hp;clear hp b6;go_wp2_with fail;refine(HP.o.nL (Still.rW (U _ _)) (ze (S:=Nil) HW.o a4 (fun _ _=>id)) a0.o).mono ?_;rintro e w5 ⟨v5,rfl,a2⟩;have a6:=Z (T.o.next HM.o (a2.of a4));clear a2;exact Rm
  .have e:i=l.length:=V
   have q:zk l.length++((l.take i).map Y9).flatten=Y3 l:=by rw[e,Bj];rfl
   rw[q] at s;have T:=Z s;clear q s
   go_wp2
   go_ret;exact⟨_,rfl,T.o⟩
theorem Pq(a:Option Addr)(n c:Nat)(w:World) :
 Calls prog 288 #[.slice a n c,.func (.func 289) #[] #[]] w fun e b =>
  e=.returned (.func (.func 292) #[] #[E w.heap.size 0,E (w.heap.size+1) 0]) /\
  b=(w.alloc (.cells #[.slice a n c] 61)).alloc (.cells #[.func (.func 289) #[] #[]] 372):=by
 go_enter func288,ntmps288
 go_wp2
 go_ret;exact⟨rfl,rfl⟩
theorem Nt(W:World)(m:Value)(l:List Ver)(r:∀ x∈l,x.Nat)(d:l.length<1000000)(w:World)(q:Fr Nil W w)(k:w.ownsRow 0 37 8 m l.length (zS l)) :
 Calls prog 288 #[m,.func (.func 289) #[] #[]] w fun e h =>
  ∃ i j,e=.returned (.func (.func 292) #[] #[E i 0,E j 0]) /\
  ZG h (.func (.func 292) #[] #[E i 0,E j 0]) (Y3 l)/\Fr Nil W h:=by
 obtain⟨a,c,rfl⟩:=zf k;refine(Pq a l.length c w).mono ?_;rintro e h ⟨rfl,rfl⟩;have p:Blk ((w.alloc (.cells #[.slice a l.length c] 61)).alloc (.cells #[.func (.func 289) #[] #[]] 372)) (w.heap.size+1) [.func (.func 289) #[] #[]] 372:=by
  have:=Blk.new (w.alloc (.cells #[.slice a l.length c] 61)) [.func (.func 289) #[] #[]] 372
  simpa using this
 have o:=(Blk.new w [.slice a l.length c] 61).alloc (.cells #[.func (.func 289) #[] #[]] 372);have f:=ze (S:=Nil) k (((U Nil w).alloc (.cells #[.slice a l.length c] 61)).alloc (.cells #[.func (.func 289) #[] #[]] 372)) (fun _ _=>id);exact⟨_,_,rfl,⟨_,_,rfl,wF func292 bI rfl,fun w g v n t s b =>
  Pp _ _ _ l r d w (o.still O g) (p.still O g) (U7 O f g) v n t s b⟩,(q.alloc _).alloc _⟩
def Z5(a:List UInt8):List UInt8:=zk a.length++a
theorem Ko(sv:Value)(d:List Value)(b:List (List UInt8))(w:World)(hs:w.ownsRow 0 365 1 sv d.length d)(hp:ZO w d b)(N:b.flatten.length<=500000000000)(s:(zk b.flatten.length).length<=100) :
 Calls prog 276 #[sv] w fun e w'=>e=.returned (.string (zp (Z5 b.flatten)))/\Fr Nil w w':=by
 obtain⟨sa,sc,rfl⟩:=zf hs;have HS:=Z hs;have HP:=Z hp;clear hs hp;go_enter func276,ntmps276;go_wp2_with fail;refine(UE sa _ sc w).mono ?_;rintro e w1 ⟨rfl,y⟩;have a2:Blk w1 w.heap.size [.slice sa d.length sc] 368:=by rw[y];exact Blk.new w [.slice sa d.length sc] _
 have q:Fr Nil w w1:=by rw[y];exact(U _ _).alloc _
 clear y;go_wp2_with fail;refine(UD _ _ d b w1 a2 (ze (S:=Nil) HS.o q (fun _ _=>id)) (HP.o.still (Still.rW q)) (.slice none 0 0) 0 [] (Bf w1 0 _ _) V).mono ?_;rintro e T ⟨v2,rfl,p⟩;have v:T.ownsRow 0 5 1 v2 b.flatten.length (u8s b.flatten):=by simpa using p.1
 obtain⟨va,vc,rfl⟩:=zf v;have J:Fr Nil w T:=q.trans (p.2.1.mono (fun _ _ h=>by simp[Value.ownBlock] at h));have C:=Z v;clear v p;generalize f:b.flatten=a at N s C;have a0:=Z f;clear f;go_wp2_with fail;refine(ZY T _ T (U _ _)).mono ?_;rintro e w3 ⟨rfl,G,r⟩;go_wp2_with fail;refine(Ys T.heap.size a.length V w3 G (.slice none 0 0) 0 [] (Bf w3 0 _ _) V).mono ?_;rintro e w4 ⟨X,rfl,l⟩;have K:Fr Nil w3 w4:=l.2.1.mono (fun _ _ h=>by simp[Value.ownBlock] at h);have x:w4.ownsRow 0 5 1 X (zk a.length).length (u8s (zk a.length)):=by simpa using l.1
 have R:=ze (S:=Nil) (ze (S:=Nil) C.o r (fun _ _=>id)) K (fun _ _=>id);have L:=(J.trans r).trans K;have o:∀ k,X.ownBlock=some k->w3.heap.size<=k:=fun k hk=>(l.2.2 k hk).resolve_left aB;have Q:=fun ty=>Xf (P:=prog) (w:=w4) 150 ty 5 1 1 Ap Pj V X _ _ x _ _ _ R (by intro u hu;simp[u8s] at hu;obtain⟨c,_,rfl⟩:=hu;rfl) ac V;have m:∀ v5 A,App w4 X 5 1 ((zk a.length).length+a.length) (u8s (zk a.length)++u8s a) v5 A ->
  ∃ g j,v5=.slice (some (Y g 0)) ((zk a.length).length+a.length) j/\(∀ t,(convert 150 9 (.slice (some (Y g 0)) ((zk a.length).length+a.length) t)).run prog A=.ok (.string (zp (Z5 a))) A)/\Fr Nil w A:=by
  rintro v5 A ⟨h1,h2,h3⟩;have a4:0<(zk a.length).length:=by
   by_cases h:a.length<128
   .rw[Xp h];simp
   .rw[XR h];simp
  obtain⟨g,j,rfl,_,_⟩:=zl h1 V;have a1:A.ownsRow 0 5 1 (.slice (some (Y g 0)) ((zk a.length).length+a.length) j) ((zk a.length).length+a.length) (u8s (Z5 a)):=by
   unfold Z5;rw[Sd];exact h1
  refine⟨g,j,rfl,fun t=>?_,?_⟩
  .rw[TN (P:=prog) Ap wY AH a1 0 _ t (by unfold Z5;rw[CN];omega)]
   congr 3
   rw[Au];exact Bn (by unfold Z5;rw[CN];exact CP _)
  .refine L.tk ((Fr.sB h2).mono (fun i _ h=>h)) (fun i hi h=>?_)
   have:=o i h;have:=(J.trans r).size;omega
 have B:=Z m;obtain⟨a6,a7,rfl⟩:=zf x;clear m l x R o G
 go_wp2_with (at_builtin;go_must (refine zm rfl _ _ _ _ rfl _ _ bH bH (Q _) ?_);rintro v5 A D;obtain⟨g5,a3,rfl,a5,M⟩:=B.o _ _ D;clear D)
 go_ret;rw[a0.o];exact⟨rfl,M⟩
theorem Fy:∀(k n:Nat),n<128^(k+1)->(zk n).length<=k+1:=by
 intro k
 induction k with
 | zero=>intro n h;rw[Xp V];simp
 | succ k b =>
  intro n h;by_cases a:n<128
  .rw[Xp a];simp
  .have:=b (n / 128) (by rw[Nat.div_lt_iff_lt_mul V];rw[uL] at h;exact h)
   rw[XR a,Bh];omega
theorem zL(h:n<9223372036854775808):(zk n).length<=9:=Fy 8 n (Nat.lt_of_lt_of_eq h O)
theorem YK(W:World)(N:Nat)(d:N<9223372036854775808)(w:World)(g:Fr Nil W w)(x:Int)(h:x=N) :
 Calls prog 277 #[I x] w fun e a=>∃ b,e=.returned (.func (.func 280) #[] #[E b 0])/\ZG a (.func (.func 280) #[] #[E b 0]) (zk N)/\Fr Nil W a:=by
 subst h;refine(ZY W N w g).mono ?_;rintro e a ⟨rfl,f,c⟩;exact⟨_,rfl,VI a _ N d f,c⟩
theorem Sk(W:World)(s:ByteArray)(hs:s.size<9223372036854775808)(w:World)(f:Fr Nil W w) :
 Calls prog 284 #[.string s] w fun e a=>∃ b,e=.returned (.func (.func 285) #[] #[E b 0])/\ZG a (.func (.func 285) #[] #[E b 0]) (Zk s.data.toList)/\Fr Nil W a:=by
 refine(Se W s w f).mono ?_;rintro e a ⟨rfl,d,c⟩;exact⟨_,rfl,RW a _ s hs d,c⟩
theorem Vu(W:World)(g:Nat)(b:List Value)(a:List (List UInt8))(w i:World)(k:Fr Nil W w)(o:Fr Nil i w)(j:Blk w g b 365)(m:ZO i b a)(f:b.length<=1000)(c:a.flatten.length<=500000000000)
 (n:Nat)(l:n=b.length) :
 Calls prog 276 #[.slice (some (Y g 0)) n n] w fun e h=>e=.returned (.string (zp (Z5 a.flatten)))/\Fr Nil W h:=by
 subst l;refine(Ko _ b a w (Yw j (CP _) ac bG bG) (m.still (Still.rW o)) c (by have:=zL (n:=a.flatten.length) V;omega)).mono ?_;rintro e h ⟨rfl,d⟩;exact⟨rfl,k.trans d⟩
def W8(n:Nat):List UInt8:=Z5 (zk 1++zk n)
def WB(key:ByteArray)(l:List Ver):List UInt8:=Z5 (zk 2++(Zk key.data.toList++Y3 l))
def Wk(to:Nat)(a:ByteArray):List UInt8:=Z5 (zk 3++(zk to++Zk a.data.toList))
def Va:List UInt8:=Z5 (zk 4)
theorem UG(n:Nat)(q:n<9223372036854775808)(w:World) :
 Calls prog 307 #[.agg #[I n]] w fun e d=>e=.returned (.string (zp (W8 n)))/\Fr Nil w d:=by
 have a:Blk (w.alloc (.cells #[I n] 220)) w.heap.size [I n] 220:=Blk.new w [I n] _;have g:Fr Nil w (w.alloc (.cells #[I n] 220)):=(U _ _).alloc _;have j:([zk 1,zk n]:List (List UInt8)).flatten.length<=500000000000:=by
  have D:=zL q;have G:=zL (n:=1) V;simp;omega
 go_enter func307,ntmps307;go_wp2_with fail;obtain⟨N,p⟩:∃ N,w.heap.size=N:=⟨_,rfl⟩;obtain⟨f,k⟩:∃ f,w.alloc (.cells #[I n] 220)=f:=⟨_,rfl⟩;rw[p] at a |-;rw[k] at a g |-;clear k p;have t:f.cell? (Y N 0)=some (I n):=by rw[a.cell];rfl
 have l:aa (∀ d,Fr Nil f d->d.cell? (Y N 0)=some (I n)):=by
  intro d u;rw[(a.fr u id).cell];rfl
 clear a
 go_region_held3 (fun d=>d.cell? (Y N 0)=some (I n)) (first|assumption|exact l.o _ zd)
  (first
  | (go_at_call 276;refine(Vu f _ [_,_] [_,_] _ s (b.trans zd) zd aL ⟨m.still (Still.rW i),o,trivial⟩ bG j _ rfl).mono ?_;rintro e A ⟨rfl,c⟩;have y:=l.o A c)
  | (go_at_call 277;refine(YK r n q _ zd _ rfl).mono ?_;rintro e s ⟨C,rfl,o,i⟩;have b:=h.trans i;have x:=l.o s b)
  | (go_at_call 277;refine(YK f 1 V _ zd _ rfl).mono ?_;rintro e r ⟨B,rfl,m,h⟩;have v:=l.o r h))
 go_wp2
 go_ret;exact⟨by simp[W8],g.trans c⟩
theorem UH(key:ByteArray)(G:Value)(l:List Ver)(hl:∀ x∈l,x.Nat)(v:l.length<1000000)(X:key.size<1000000000)(w:World)(C:w.ownsRow 0 37 8 G l.length (zS l))(r:(Y3 l).length<=100000000000) :
 Calls prog 286 #[.agg #[.string key,G]] w fun e b=>e=.returned (.string (zp (WB key l)))/\Fr Nil w b:=by
 obtain⟨d,f,rfl⟩:=zf C;have a:Blk (w.alloc (.cells #[.string key,.slice d l.length f] 193)) w.heap.size [.string key,.slice d l.length f] 193:=Blk.new w [.string key,.slice d l.length f] _;have j:Fr Nil w (w.alloc (.cells #[.string key,.slice d l.length f] 193)):=(U _ _).alloc _;have m:([zk 2,Zk key.data.toList,Y3 l]:List (List UInt8)).flatten.length<=500000000000:=by
  have h1:=zL (n:=key.size) V;have h2:=zL (n:=2) V;simp[Zk];omega
 have M:=Z C;clear C r;go_enter func286,ntmps286;go_wp2_with fail;obtain⟨N,D⟩:∃ N,w.heap.size=N:=⟨_,rfl⟩;obtain⟨i,s⟩:∃ i,w.alloc (.cells #[.string key,.slice d l.length f] 193)=i:=⟨_,rfl⟩;rw[D] at a |-;rw[s] at a j |-;clear s D;have R:i.cell? (Y N 0)=some (.string key):=by rw[a.cell];rfl
 have T:i.cell? (Y N 1)=some (.slice d l.length f):=by rw[a.cell];rfl
 have o:aa (∀ b,Fr Nil i b->b.cell? (Y N 0)=some (.string key)/\b.cell? (Y N 1)=some (.slice d l.length f)):=by
  intro b u;have:=(a.fr u id).cell;exact⟨by rw[this];rfl,by rw[this];rfl⟩
 have t:aa (∀ b,Fr Nil i b->b.ownsRow 0 37 8 (.slice d l.length f) l.length (zS l)):=fun b u=>ze (S:=Nil) M.o (j.trans u) (fun _ _=>id);clear a
 go_region_held3 (fun b=>b.cell? (Y N 0)=some (.string key)/\b.cell? (Y N 1)=some (.slice d l.length f)) (first|assumption|exact o.o _ zd)
  (first
  | (go_at_call 276;refine(Vu i _ [_,_,_] [_,_,_] _ L (g.trans zd) zd (by exact Blk.new _ [_,_,_] _) ⟨y.still (Still.rW (q.trans k)),A.still (Still.rW k),B,trivial⟩ bG m _ rfl).mono ?_;rintro e w5 ⟨rfl,h⟩;have a3:=o.o w5 h)
  | (go_at_call 288;refine(Nt K _ l hl v _ zd (t.o _ (c.trans zd))).mono ?_;rintro e L ⟨b4,Q,rfl,B,k⟩;have g:=c.trans k;have a2:=o.o L g)
  | (go_at_call 284;refine(Sk J _ V _ zd).mono ?_;rintro e K ⟨b3,rfl,A,q⟩;have c:=p.trans q;have a1:=o.o K c)
  | (go_at_call 277;refine(YK i 2 V _ zd _ rfl).mono ?_;rintro e J ⟨b2,rfl,y,p⟩;have a0:=o.o J p))
 go_wp2
 go_ret;exact⟨by simp[WB],j.trans h⟩
theorem Uq(to:Nat)(a:ByteArray)(u:to<9223372036854775808)(D:a.size<1000000000)(w:World) :
 Calls prog 282 #[.agg #[I to,.string a]] w fun e c=>e=.returned (.string (zp (Wk to a)))/\Fr Nil w c:=by
 have b:Blk (w.alloc (.cells #[I to,.string a] 138)) w.heap.size [I to,.string a] 138:=Blk.new w [I to,.string a] _;have l:Fr Nil w (w.alloc (.cells #[I to,.string a] 138)):=(U _ _).alloc _;have i:([zk 3,zk to,Zk a.data.toList]:List (List UInt8)).flatten.length<=500000000000:=by
  have X:=zL (n:=a.size) V;have h2:=zL (n:=3) V;have h3:=zL u;simp[Zk];omega
 go_enter func282,ntmps282;go_wp2_with fail;obtain⟨N,t⟩:∃ N,w.heap.size=N:=⟨_,rfl⟩;obtain⟨j,p⟩:∃ j,w.alloc (.cells #[I to,.string a] 138)=j:=⟨_,rfl⟩;rw[t] at b |-;rw[p] at b l |-;clear p t;have A:j.cell? (Y N 0)=some (I to):=by rw[b.cell];rfl
 have B:j.cell? (Y N 1)=some (.string a):=by rw[b.cell];rfl
 have k:aa (∀ c,Fr Nil j c->c.cell? (Y N 0)=some (I to)/\c.cell? (Y N 1)=some (.string a)):=by
  intro c C;have:=(b.fr C id).cell;exact⟨by rw[this];rfl,by rw[this];rfl⟩
 clear b
 go_region_held3 (fun c=>c.cell? (Y N 0)=some (I to)/\c.cell? (Y N 1)=some (.string a)) (first|assumption|exact k.o _ zd)
  (first
  | (go_at_call 276;refine(Vu j _ [_,_,_] [_,_,_] _ y (f.trans zd) zd (by exact Blk.new _ [_,_,_] _) ⟨q.still (Still.rW (o.trans h)),r.still (Still.rW h),s,trivial⟩ bG i _ rfl).mono ?_;rintro e M ⟨rfl,g⟩;have L:=k.o M g)
  | (go_at_call 284;refine(Sk x _ V _ zd).mono ?_;rintro e y ⟨T,rfl,s,h⟩;have f:=d.trans h;have K:=k.o y f)
  | (go_at_call 277;refine(YK v to u _ zd _ rfl).mono ?_;rintro e x ⟨R,rfl,r,o⟩;have d:=m.trans o;have J:=k.o x d)
  | (go_at_call 277;refine(YK j 3 V _ zd _ rfl).mono ?_;rintro e v ⟨Q,rfl,q,m⟩;have G:=k.o v m))
 go_wp2
 go_ret;exact⟨by simp[Wk],l.trans g⟩
theorem UI(w:World) :
 Calls prog 274 #[.agg #[]] w fun e g=>e=.returned (.string (zp Va))/\Fr Nil w g:=by
 have b:Fr Nil w (w.alloc (.cells #[] 135)):=(U _ _).alloc _;have a:([zk 4]:List (List UInt8)).flatten.length<=500000000000:=by
  have j:=zL (n:=4) V;simp;omega
 go_enter func274,ntmps274;go_wp2_with fail;refine(YK w 4 V _ b _ rfl).mono ?_;rintro e h ⟨i,rfl,f,c⟩;go_wp2_with fail;refine(Vu w _ [_] [_] _ h (c.trans zd) zd aw ⟨f,trivial⟩ bG a _ rfl).mono ?_;rintro e k ⟨rfl,d⟩
 go_wp2
 go_ret;exact⟨by simp[Va],d⟩
def Src(w:World)(b:Nat)(c:List UInt8)(a:Bool):Prop:=Blk w b [.string (zp c),.bool a] 276
theorem Kq(a:List UInt8):(zp a).size=a.length:=rfl
theorem Ur(a:List UInt8)(i j:Nat):(zp a).extract i j=zp ((a.drop i).take (j-i)):=by
 apply wA
 apply xQ
 simp[zp]
theorem Tq(b:Nat)(g:List UInt8)(c:Bool)(w:World)(h:Src w b g c) :
 Calls prog 153 #[E b 0] w fun e d=>e=.returned (.tuple #[])/\Src d b [] true/\Fr (fun k=>k=b) w d:=by
 have i:=h.cell;have j:=h.frozen;have a:Src ((w.setCell (Y b 0) (.string (zp []))).setCell (Y b 1) (.bool true)) b [] true/\Fr (fun k=>k=b) w ((w.setCell (Y b 0) (.string (zp []))).setCell (Y b 1) (.bool true)) :=
  ⟨(Blk.set h 0 _).set 1 _,Fr.set (S:=fun k=>k=b) (Fr.set (S:=fun k=>k=b) (U _ _) (fun _=>rfl) _) (fun _=>rfl) _⟩
 have f:=Z a;clear a h;go_enter func153,ntmps153
 go_wp2
 exact Aw (v:=.tuple #[]) af rfl ⟨rfl,f.o⟩
theorem Tr(b:Nat)(c:List UInt8)(a:Bool)(w:World)(h:Src w b c a) :
 Calls prog 192 #[E b 0] w fun e d=>e=.returned (I c.length)/\Fr Nil w d:=by
 have f:=h.cell;clear h;go_enter func192,ntmps192
 go_wp2
 go_ret;exact⟨rfl,U _ _⟩
theorem WC(n b:Nat)(a:List UInt8)(c:Bool)(w:World)(h:Src w b a c)(j:n<=a.length) :
 Calls prog 193 #[E b 0,I n] w fun e f=>e=.returned (.string (zp (a.take n)))/\Src f b (a.drop n) c/\Fr (fun k=>k=b) w f:=by
 have i:=h.cell;have l:=h.frozen;have hs:(zp a).size=a.length:=rfl;have d:aa ((zp a).extract 0 n=zp (a.take n)/\(zp a).extract n a.length=zp (a.drop n)) :=
  ⟨by rw[Ur];simp,by rw[Ur,Bn bG]⟩
 have g:aa (Src (w.setCell (Y b 0) (.string (zp (a.drop n)))) b (a.drop n) c/\Fr (fun k=>k=b) w (w.setCell (Y b 0) (.string (zp (a.drop n))))) :=
  ⟨Blk.set h 0 _,Fr.set (S:=fun k=>k=b) (U _ _) (fun _=>rfl) _⟩
 clear h;go_enter func193,ntmps193;go_wp2_with fail;go_ret;rw[d.o.1,d.o.2];exact⟨rfl,g.o⟩
theorem RZ(n b:Nat)(c:List UInt8)(a:Bool)(w:World)(h:Src w b c a)(j:c.length<n) :
 Calls prog 193 #[E b 0,I n] w fun e f=>e=.returned (.string (zp []))/\Src f b [] true/\Fr (fun k=>k=b) w f:=by
 have i:=h.cell;have l:=h.frozen;have hs:(zp c).size=c.length:=rfl;have g:=Z h;clear h;go_enter func193,ntmps193
 go_wp2_with (refine(Tq b c a w g.o).mono ?_;rintro e m ⟨rfl,d⟩)
 go_ret;exact⟨rfl,d⟩
def Y4(i a:Nat):List UInt8->Option (Nat × List UInt8)
 | []=>none
 | c::b=>if 9<=i then none else if c.toNat<128 then some (a+c.toNat*128^i,b) else Y4 (i+1) (a+(c.toNat%128)*128^i) b
theorem Sl:∀ n<128,(UInt8.ofNat n).toNat=n:=O
theorem Kr(r:List UInt8):∀ (n i c:Nat),0<i->0<n->n*128^i<9223372036854775808->Y4 i c (zk n++r)=some (c+n*128^i,r):=by
 intro n
 induction n using Nat.strongRecOn with
 | ind n j =>
  intro i c l g h;have d:¬9<=i:=by
   intro d;have:128^9<=128^i:=Nat.pow_le_pow_right V d;have k:1*128^i<=n*128^i:=BG _ g;simp only[Nat.reducePow] at this;omega
  by_cases a:n<128
  .rw[Xp a]
   simp only[CZ,Ba,Y4];rw[CW d,Sl n a,Bl a]
  .rw[XR a]
   have e:(UInt8.ofNat (n%128+128)).toNat=n%128+128:=by simp;omega
   simp only[CZ,Y4];rw[CW d,e,CW V];have b:128^(i+1)=128^i*128:=uL ..;have f:n / 128*(128^i*128)+n%128*128^i=n*128^i:=by
    rw[Nat.mul_comm (128^i) 128,<- Nat.mul_assoc,<- yo,Nat.mul_comm (n / 128) 128,Nat.div_add_mod]
   rw[j (n / 128) V (i+1) _ V V (by rw[b];omega),b]
   congr 2
   rw[show(n%128+128)%128=n%128 from V];omega
theorem Pr(n:Nat)(r:List UInt8)(c:n<9223372036854775808):Y4 0 0 (zk n++r)=some (n,r):=by
 by_cases a:n<128
 .rw[Xp a]
  simp only[CZ,Ba,Y4];rw[CW V,Sl n a,Bl a];simp
 .rw[XR a]
  have b:(UInt8.ofNat (n%128+128)).toNat=n%128+128:=by simp;omega
  simp only[CZ,Y4];rw[CW V,b,CW V,Kr r (n / 128) 1 _ V V V]
  congr 2
  omega
theorem Ks:∀(n i d:Nat)(p:List UInt8),p<+:zk n->p≠zk n->Y4 i d p=none:=by
 intro n
 induction n using Nat.strongRecOn with
 | ind n k =>
  intro i d p g a;rcases p with-| ⟨c,p⟩
  .rfl
  by_cases f:n<128
  .rw[Xp f] at g a
   obtain⟨t,b⟩:=g;simp at b;exact absurd (by rw[b.1,b.2.1]) a
  .rw[XR f] at g a
   obtain⟨t,b⟩:=g;simp only[CZ,uz] at b;obtain⟨rfl,b⟩:=b;have j:(UInt8.ofNat (n%128+128)).toNat=n%128+128:=by simp;omega
   simp only[Y4];by_cases h:9<=i
   .rw[Bl h]
   .rw[CW h,j,CW V]
    exact k (n / 128) V _ _ p ⟨t,b⟩ (fun e=>a (by rw[e]))
theorem MQ(i a m:Nat)(d:i<9)(b:a<128^i)(hm:m<128):bits .or .u64 (a:Int) (IntKind.u64.wrap ((m:Int)*2^(i*7)))=((a+m*128^i:Nat):Int)/\a+m*128^i<128^(i+1)/\a+m*128^i<9223372036854775808:=by
 have c:i=0\/i=1\/i=2\/i=3\/i=4\/i=5\/i=6\/i=7\/i=8:=V
 rcases c with rfl|rfl|rfl|rfl|rfl|rfl|rfl|rfl|rfl
 all_goals
  simp only[Nat.reducePow,Nat.reduceMul,Nat.reduceAdd,Int.reducePow] at b |-;refine⟨?_,V,V⟩;rw[xH _ V V]
 .exact(yW .u64 64 O xH 0 _ _ V V V V V V).trans V
 .exact(yW .u64 64 O xH 7 _ _ V V V V V V).trans V
 .exact(yW .u64 64 O xH 14 _ _ V V V V V V).trans V
 .exact(yW .u64 64 O xH 21 _ _ V V V V V V).trans V
 .exact(yW .u64 64 O xH 28 _ _ V V V V V V).trans V
 .exact(yW .u64 64 O xH 35 _ _ V V V V V V).trans V
 .exact(yW .u64 64 O xH 42 _ _ V V V V V V).trans V
 .exact(yW .u64 64 O xH 49 _ _ V V V V V V).trans V
 .exact(yW .u64 64 O xH 56 _ _ V V V V V V).trans V
theorem Im(i a:Nat)(c:UInt8)(f:i<9)(b:a<128^i) :
 bits .or .u64 (a:Int) (IntKind.u64.wrap (IntKind.u64.wrap (bits .and .u8 (c.toNat:Int) 127)*2^(i*7)))=((a+c.toNat%128*128^i:Nat):Int):=by
 have g:c.toNat<256:=UInt8.toNat_lt c;have e:bits .and .u8 (c.toNat:Int) 127=((c.toNat%128:Nat):Int):=(bits_mask .u8 8 O wraps_u8 7 O (c.toNat:Int) V V).trans V;have d:IntKind.u64.wrap ((c.toNat%128:Nat):Int)=((c.toNat%128:Nat):Int):=xH _ V V;rw[e,d];exact(MQ i a (c.toNat%128) f b V).1
theorem Kt(h:n<9223372036854775808):wrap64 (n:Int)=n:=by unfold wrap64;omega
def Cj(R:Option (Nat × List UInt8))(b:Nat)(c:Bool)(w:World)(e:Ending)(a:World):Prop :=
 match R with
 | some (n,r)=>e=.returned (I n)/\Src a b r c/\Fr (fun k=>k=b) w a
 | none=>e=.returned (I 0)/\Src a b [] true/\Fr (fun k=>k=b) w a
theorem Vb(b:Nat)(C:List UInt8)(f:Bool)(w:World)(h:Src w b C f)(q:f=true->C=[]) :
 Calls prog 149 #[E b 0] w fun e G=>Cj (Y4 0 0 C) b f w e G:=by
 generalize m:Y4 0 0 C=R;have X:=Z m;have T:=Z h;have S:=Z q;clear m h q;go_enter func149,ntmps149;go_wp2_with fail
 go_loopw [3,4] (fun t3 L G=>∃ (i d:Nat) (l:List UInt8),t3=.int .u64 d/\L=I ((i*7:Nat):Int)/\i<=9/\d<128^i/\Y4 i d l=R/\Src G b l f/\(f=true->l=[])/\Fr (fun k=>k=b) w G) (fun _ L _=>(63-intOf L).toNat)
 case atStart=>exact⟨0,0,C,rfl,rfl,V,bG,X.o,T.o,S.o,U _ _⟩
 case round =>
  obtain⟨i,d,l,rfl,rfl,hi,j,m,t,x,D⟩:=hrel;by_cases h9:i=9
  .subst h9
   have o:R=none:=by rw[<- m];cases l <;> simp[Y4]
   have r:=Z o;have v:=Z t;clear t x m j o
   go_wp2_with (refine(Tq b l f wr v.o).mono ?_;rintro e M ⟨rfl,a⟩)
   go_ret;rw[r.o];exact⟨rfl,a.1,D.trans a.2⟩
  have A:i<9:=V
  rcases l with-| ⟨c,l⟩
  .have o:R=none:=by rw[<- m];simp[Y4]
   have r:=Z o;have v:=Z t;clear t x m j o
   go_wp2_with (refine(RZ 1 b [] f wr v.o bG).mono ?_;rintro e M ⟨rfl,a,g⟩;have y:=a.cell;have p:=Z (And.intro a g);clear a g)
   go_ret;rw[r.o];exact⟨rfl,p.o.1,D.trans p.o.2⟩
  have J:f=false:=by cases f with|false=>rfl|true=>simp at x
  subst J;have v:=Z t;have Q:=Z (Im i d c A j);have N:=Z (MQ i d (c.toNat%128) A j (vE _ V));have K:0<(zp [c]).size:=by show 0<1;omega
  have e0:((zp [c])[0]'K).toNat=c.toNat:=rfl;by_cases u:c.toNat<128
  .have hRs:R=some (d+c.toNat%128*128^i,l):=by rw[<- m];simp only[Y4];rw[CW V,Bl u,Nat.mod_eq_of_lt u]
   have s:=Z hRs;clear t x m hRs
   go_wp2_with (refine(WC 1 b (c::l) false wr v.o bG).mono ?_;rintro e M ⟨rfl,a,g⟩;have y:=a.cell;have p:=Z (And.intro a g);clear a g)
   go_ret;rw[s.o];have B:=N.o.2.2;exact⟨by rw[Q.o,Kt B];rfl,p.o.1,D.trans p.o.2⟩
  .have hRs:Y4 (i+1) (d+c.toNat%128*128^i) l=R:=by rw[<- m];simp only[Y4];rw[CW V,CW u]
   have s:=Z hRs;clear t x m hRs
   go_wp2_with (refine(WC 1 b (c::l) false wr v.o bG).mono ?_;rintro e M ⟨rfl,a,g⟩;have y:=a.cell;have p:=Z (And.intro a g);clear a g)
   refine⟨⟨i+1,d+c.toNat%128*128^i,l,by rw[Q.o],by go_num,V,N.o.2.1,s.o,p.o.1,bG,D.trans p.o.2⟩,?_⟩;simp[intOf];omega
end Go.Proofs.YtkhnggkkiefcdaaGreatDoor
