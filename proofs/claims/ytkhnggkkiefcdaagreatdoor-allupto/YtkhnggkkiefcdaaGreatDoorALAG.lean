/- larder: joined texts -/
import Derived.Test.YtkhnggkkiefcdaaGreatDoorALAF
namespace Go.Proofs.YtkhnggkkiefcdaaGreatDoor
open Go.RowKit Proofs.Tryz
set_option maxRecDepth 100000
set_option maxHeartbeats 8000000
variable{p:Prop}
def zj:Fact->ByteArray
 | .inl n=>zp (W8 n)
 | .inr (.inl x)=>zp (WB x.1 x.2)
 | .inr (.inr (.inl x))=>zp (Wk x.1 x.2)
 | .inr (.inr (.inr _))=>zp Va
def FOk:Fact->Prop
 | .inl n=>n<9223372036854775808
 | .inr (.inl x)=>(∀ v∈x.2,v.Nat)/\x.2.length<1000000/\x.1.size<1000000000/\(Y3 x.2).length<=100000000000
 | .inr (.inr (.inl x))=>x.1<9223372036854775808/\x.2.size<1000000000
 | .inr (.inr (.inr _))=>True
structure Xs(J:JM)(M:DM)(H n:Nat):Prop where
 bytes:n<1000000000000
 size:J.size<1000000000000
 tu:J.tu+1<1000000000000
 tB:(J.tA M).2.tB.length+1<=1000000000000
 uX:(J.tA M).2.uX.length+1<=1000000000000
 room:∀ f,H<=f->0<=(J.tS M n f).2.2.part/\(J.tS M n f).2.1.size<1000000000000/\∀ g,g∈(J.tS M n f).2.2.tL->((J.tS M n f).2.2.uV g).bytes.length<=1000000000000
def NM.so(N:NM)(M:DM)(x:Fact)(f:Nat):Option Int × NM × DM :=
 ((N.J.append M (zj x) f).2.1,{N with J:=(N.J.append M (zj x) f).2.2.1,S:=if (N.J.append M (zj x) f).1=true then N.S.enter x else N.S},(N.J.append M (zj x) f).2.2.2)
structure Env(B:Nat)(L:NL)(M:DM)(w:World):Prop where
 pW:Xr B w
 le:B<=w.heap.size
 sd:∀ k,Foot L.db L.LD M k->B<=k
theorem PP(v:Value)(w:World):(method 496 220 v "Record").run prog w=.ok (307,v) w:=bI
theorem PQ(v:Value)(w:World):(method 496 193 v "Record").run prog w=.ok (286,v) w:=bI
theorem Q7(v:Value)(w:World):(method 496 138 v "Record").run prog w=.ok (282,v) w:=bI
theorem PR(v:Value)(w:World):(method 496 135 v "Record").run prog w=.ok (274,v) w:=bI
theorem Sv(h:p:=by
 have b7:s.cell? (Y L.nb 2)=some (E L.sb 0):=i.o.th.td.cell 2;cases hb:(N.J.append M m f).1 with
 | true =>
  have HB:=Z hb;have HT:=Z (Su x _ L.sb L.LS N.S s i.o.th.held (HX.o.step H.o J.o) hk hh);clear hb;go_wp2_with fail;refine HT.o.mono ?_;rintro e w4 ⟨rfl,hT⟩;obtain⟨b4,a9⟩:=i.o.held hT a1;have a8:=K.o.fr (w':=w4) (by obtain⟨_,_,q,_⟩:=hT;exact q) (fun k hk X=>by
   rcases i.o.th.held.rh X with e|e|e <;> rcases hk with hk|hk <;> exact absurd (hk.inj e) O)
  have b3:=Z a9;have b1:=Z a8;clear hT a9 a8 HT;go_wp2_with fail;refine(zU _ _ _ w4 b1.o).mono ?_;rintro e w5 ⟨v5,rfl,T,a0⟩;have a4:=Z T;have HF:=Z (b3.o.tR a0);clear T a0
  go_wp2
  go_ret;refine⟨f,v5,{L with LD:=R,LS:=b4},rfl,Q.o,?_,?_⟩
  .rw[A.o];exact a4.o
  .rw[A.o];simp only[HB.o,Ad];exact HF.o
 | false =>
  have HB:=Z hb;clear hb;go_wp2_with fail;refine(zU _ _ _ s K.o).mono ?_;rintro e w5 ⟨v5,rfl,T,a0⟩;have a4:=Z T;have HF:=Z (i.o.tR a0);clear T a0
  go_wp2
  go_ret;refine⟨f,v5,{L with LD:=R},rfl,Q.o,?_,?_⟩
  .rw[A.o];exact a4.o
  .rw[A.o];simp only[HB.o,Av,Aa];exact HF.o):p:=h
theorem Sw(B:Nat)(L0:NL)(M0:DM)(w0:World)(L:NL)(N:NM)(M:DM)(b0:ByteArray)(x:Fact)(fv:Value)(w:World)(h0:NStep L0 M0 w0 L N M w)(he:Env B L M w)(hx:FRep w fv x)(j:FOk x)(a1:∀ k,Vf fv k->SRead L0.LS k\/w0.heap.size<=k)
 (a3:Xs N.J M w.heap.size (zj x).size)(hk:N.S.uR.length<1099511627776)(hh:N.S.uU.length<1000000) :
 Calls prog 129 #[E L.nb 0,.string b0,fv] w fun e w' =>
  ∃ f v L',e=.returned v/\w.heap.size<=f/\ERep w' v (N.so M x f).1/\NStep L0 M0 w0 L' (N.so M x f).2.1 (N.so M x f).2.2 w':=by
 have h:=h0.th;have a2:=Z h0;have b6:w.cell? (Y L.nb 1)=some (E L.jb 0):=h.td.cell 1;have HK:aa (∀ w',Fr Nil w w'->w'.cell? (Y L.nb 1)=some (E L.jb 0)):=by
  intro w' X;exact(h.td.fr X id).cell 1
 have t:=Z he;have H:=Z h;have HX:=Z hx;have b5:=Z j;have b:=Z a3;clear he h a3 h0;rcases x with n|⟨key,l⟩|⟨to,d⟩|u
 .have hfv:fv=.iface 220 (.agg #[I n]):=hx
  subst hfv;have HR:=Z (fun wx=>UG n j wx);have D:N.so M (Sum.inl n)=fun f=>((N.J.append M (zj (Sum.inl n)) f).2.1,{N with J:=(N.J.append M (zj (Sum.inl n)) f).2.2.1,S:=if (N.J.append M (zj (Sum.inl n)) f).1=true then N.S.enter (Sum.inl n) else N.S},(N.J.append M (zj (Sum.inl n)) f).2.2.2):=rfl;have A:=Z D;generalize c:zj (Sum.inl n)=m at b A;have y:aa (zp (W8 n)=m):=c;have a5:=b.o.bytes;have hm:=PP;generalize G:(Sum.inl n:Fact)=x at HX A a1 D;clear c D hx j G;go_enter uq,vY;go_wp2_with fail
  go_region_held3 (fun w'=>w'.cell? (Y L.nb 1)=some (E L.jb 0)) (first|assumption|go_keep|exact HK.o _ zd)
   (first
   | (go_at_call 164;refine(XE B L.jb L.db N.J L.LD M m b.o.bytes b.o.size b.o.tu _ (Blk.fr (S:=Nil) H.o.qb (a.trans zd) id) (H.o.sf.nil (a.trans zd)) (t.o.pW.fr (S:=Nil) t.o.le (a.trans zd) (fun _ h=>absurd h id)) (CO t.o.le (Fr.size (S:=Nil) (a.trans zd))) t.o.sd b.o.tB b.o.uX (fun f X=>b.o.room f (CO (Fr.size (S:=Nil) (a.trans zd)) X))).mono ?_;rintro e s ⟨f,v3,R,rfl,r,o,g⟩;have Q:aa (w.heap.size<=f):=CO (Fr.size (S:=Nil) (a.trans zd)) r;have J:aa (NStep L M w _ _ _ s):=(NStep.nil H.o (a.trans zd)).trans (NStep.rO (H.o.nil (a.trans zd)) g);have i:aa (NStep L0 M0 w0 _ _ _ s):=(a2.o.tR (a.trans zd)).trans (NStep.rO (H.o.nil (a.trans zd)) g);have a7:s.cell? (Y L.nb 1)=some (E L.jb 0):=i.o.th.td.cell 1;have K:=Z o;clear o g r)
   | (go_at_call 307;refine(HR.o _).mono ?_;rintro e w2 ⟨rfl,C⟩;have a:Fr Nil w w2:=Fr.trans zd C;have a6:=HK.o w2 a;rw[y.o]))
  exact Sv
 .obtain⟨lv,hfv,hlv⟩:∃ lv,fv=.iface 193 (.agg #[.string key,lv])/\VRow w lv l:=id hx
  subst hfv;have b2:=Z hlv;clear hlv;have HR:=Z (fun wx (f:Fr Nil w wx)=>UH key lv l j.1 j.2.1 j.2.2.1 wx (VRow.fr b2.o f (fun _ _=>id)) j.2.2.2);have D:N.so M (Sum.inr (Sum.inl (key,l)))=fun f=>((N.J.append M (zj (Sum.inr (Sum.inl (key,l)))) f).2.1,{N with J:=(N.J.append M (zj (Sum.inr (Sum.inl (key,l)))) f).2.2.1,S:=if (N.J.append M (zj (Sum.inr (Sum.inl (key,l)))) f).1=true then N.S.enter (Sum.inr (Sum.inl (key,l))) else N.S},(N.J.append M (zj (Sum.inr (Sum.inl (key,l)))) f).2.2.2):=rfl;have A:=Z D;generalize c:zj (Sum.inr (Sum.inl (key,l)))=m at b A;have y:aa (zp (WB key l)=m):=c;have a5:=b.o.bytes;have hm:=PQ;generalize G:(Sum.inr (Sum.inl (key,l)):Fact)=x at HX A a1 D;clear c D hx j G;go_enter uq,vY;go_wp2_with fail
  go_region_held3 (fun w'=>w'.cell? (Y L.nb 1)=some (E L.jb 0)) (first|assumption|go_keep|exact HK.o _ zd)
   (first
   | (go_at_call 164;refine(XE B L.jb L.db N.J L.LD M m b.o.bytes b.o.size b.o.tu _ (Blk.fr (S:=Nil) H.o.qb (a.trans zd) id) (H.o.sf.nil (a.trans zd)) (t.o.pW.fr (S:=Nil) t.o.le (a.trans zd) (fun _ h=>absurd h id)) (CO t.o.le (Fr.size (S:=Nil) (a.trans zd))) t.o.sd b.o.tB b.o.uX (fun f X=>b.o.room f (CO (Fr.size (S:=Nil) (a.trans zd)) X))).mono ?_;rintro e s ⟨f,v3,R,rfl,r,o,g⟩;have Q:aa (w.heap.size<=f):=CO (Fr.size (S:=Nil) (a.trans zd)) r;have J:aa (NStep L M w _ _ _ s):=(NStep.nil H.o (a.trans zd)).trans (NStep.rO (H.o.nil (a.trans zd)) g);have i:aa (NStep L0 M0 w0 _ _ _ s):=(a2.o.tR (a.trans zd)).trans (NStep.rO (H.o.nil (a.trans zd)) g);have a7:s.cell? (Y L.nb 1)=some (E L.jb 0):=i.o.th.td.cell 1;have K:=Z o;clear o g r)
   | (go_at_call 286;refine(HR.o _ zd).mono ?_;rintro e w2 ⟨rfl,C⟩;have a:Fr Nil w w2:=Fr.trans zd C;have a6:=HK.o w2 a;rw[y.o]))
  exact Sv
 .have hfv:fv=.iface 138 (.agg #[I to,.string d]):=hx
  subst hfv;have HR:=Z (fun wx=>Uq to d j.1 j.2 wx);have D:N.so M (Sum.inr (Sum.inr (Sum.inl (to,d))))=fun f=>((N.J.append M (zj (Sum.inr (Sum.inr (Sum.inl (to,d))))) f).2.1,{N with J:=(N.J.append M (zj (Sum.inr (Sum.inr (Sum.inl (to,d))))) f).2.2.1,S:=if (N.J.append M (zj (Sum.inr (Sum.inr (Sum.inl (to,d))))) f).1=true then N.S.enter (Sum.inr (Sum.inr (Sum.inl (to,d)))) else N.S},(N.J.append M (zj (Sum.inr (Sum.inr (Sum.inl (to,d))))) f).2.2.2):=rfl;have A:=Z D;generalize c:zj (Sum.inr (Sum.inr (Sum.inl (to,d))))=m at b A;have y:aa (zp (Wk to d)=m):=c;have a5:=b.o.bytes;have hm:=Q7;generalize G:(Sum.inr (Sum.inr (Sum.inl (to,d))):Fact)=x at HX A a1 D;clear c D hx j G;go_enter uq,vY;go_wp2_with fail
  go_region_held3 (fun w'=>w'.cell? (Y L.nb 1)=some (E L.jb 0)) (first|assumption|go_keep|exact HK.o _ zd)
   (first
   | (go_at_call 164;refine(XE B L.jb L.db N.J L.LD M m b.o.bytes b.o.size b.o.tu _ (Blk.fr (S:=Nil) H.o.qb (a.trans zd) id) (H.o.sf.nil (a.trans zd)) (t.o.pW.fr (S:=Nil) t.o.le (a.trans zd) (fun _ h=>absurd h id)) (CO t.o.le (Fr.size (S:=Nil) (a.trans zd))) t.o.sd b.o.tB b.o.uX (fun f X=>b.o.room f (CO (Fr.size (S:=Nil) (a.trans zd)) X))).mono ?_;rintro e s ⟨f,v3,R,rfl,r,o,g⟩;have Q:aa (w.heap.size<=f):=CO (Fr.size (S:=Nil) (a.trans zd)) r;have J:aa (NStep L M w _ _ _ s):=(NStep.nil H.o (a.trans zd)).trans (NStep.rO (H.o.nil (a.trans zd)) g);have i:aa (NStep L0 M0 w0 _ _ _ s):=(a2.o.tR (a.trans zd)).trans (NStep.rO (H.o.nil (a.trans zd)) g);have a7:s.cell? (Y L.nb 1)=some (E L.jb 0):=i.o.th.td.cell 1;have K:=Z o;clear o g r)
   | (go_at_call 282;refine(HR.o _).mono ?_;rintro e w2 ⟨rfl,C⟩;have a:Fr Nil w w2:=Fr.trans zd C;have a6:=HK.o w2 a;rw[y.o]))
  exact Sv
 .have hfv:fv=.iface 135 (.agg #[]):=hx
  subst hfv;have HR:=Z (fun wx=>UI wx);have D:N.so M (Sum.inr (Sum.inr (Sum.inr u)))=fun f=>((N.J.append M (zj (Sum.inr (Sum.inr (Sum.inr u)))) f).2.1,{N with J:=(N.J.append M (zj (Sum.inr (Sum.inr (Sum.inr u)))) f).2.2.1,S:=if (N.J.append M (zj (Sum.inr (Sum.inr (Sum.inr u)))) f).1=true then N.S.enter (Sum.inr (Sum.inr (Sum.inr u))) else N.S},(N.J.append M (zj (Sum.inr (Sum.inr (Sum.inr u)))) f).2.2.2):=rfl;have A:=Z D;generalize c:zj (Sum.inr (Sum.inr (Sum.inr u)))=m at b A;have y:aa (zp Va=m):=c;have a5:=b.o.bytes;have hm:=PR;generalize G:(Sum.inr (Sum.inr (Sum.inr u)):Fact)=x at HX A a1 D;clear c D hx j G;go_enter uq,vY;go_wp2_with fail
  go_region_held3 (fun w'=>w'.cell? (Y L.nb 1)=some (E L.jb 0)) (first|assumption|go_keep|exact HK.o _ zd)
   (first
   | (go_at_call 164;refine(XE B L.jb L.db N.J L.LD M m b.o.bytes b.o.size b.o.tu _ (Blk.fr (S:=Nil) H.o.qb (a.trans zd) id) (H.o.sf.nil (a.trans zd)) (t.o.pW.fr (S:=Nil) t.o.le (a.trans zd) (fun _ h=>absurd h id)) (CO t.o.le (Fr.size (S:=Nil) (a.trans zd))) t.o.sd b.o.tB b.o.uX (fun f X=>b.o.room f (CO (Fr.size (S:=Nil) (a.trans zd)) X))).mono ?_;rintro e s ⟨f,v3,R,rfl,r,o,g⟩;have Q:aa (w.heap.size<=f):=CO (Fr.size (S:=Nil) (a.trans zd)) r;have J:aa (NStep L M w _ _ _ s):=(NStep.nil H.o (a.trans zd)).trans (NStep.rO (H.o.nil (a.trans zd)) g);have i:aa (NStep L0 M0 w0 _ _ _ s):=(a2.o.tR (a.trans zd)).trans (NStep.rO (H.o.nil (a.trans zd)) g);have a7:s.cell? (Y L.nb 1)=some (E L.jb 0):=i.o.th.td.cell 1;have K:=Z o;clear o g r)
   | (go_at_call 274;refine(HR.o _).mono ?_;rintro e w2 ⟨rfl,C⟩;have a:Fr Nil w w2:=Fr.trans zd C;have a6:=HK.o w2 a;rw[y.o]))
  exact Sv
theorem NH(B:Nat)(L:NL)(N:NM)(M:DM)(a:ByteArray)(x:Fact)(c:Value)(w:World)(h:NRep w L N M)(l:Env B L M w)(p:FRep w c x)(g:FOk x)(d:∀ k,Vf c k->SRead L.LS k\/w.heap.size<=k)
 (b:Xs N.J M w.heap.size (zj x).size)(o:N.S.uR.length<1099511627776)(m:N.S.uU.length<1000000) :
 Calls prog 129 #[E L.nb 0,.string a,c] w fun e i =>
  ∃ f v j,e=.returned v/\w.heap.size<=f/\ERep i v (N.so M x f).1/\NStep L M w j (N.so M x f).2.1 (N.so M x f).2.2 i :=
 Sw B L M w L N M a x c w (NStep.nil h (U _ _)) l p g d b o m
def NM.tY(N:NM)(M:DM):Option Int × NM × DM:=((N.J.sJ M).1,{N with J:=(N.J.sJ M).2.1},(N.J.sJ M).2.2)
def NM.rV(N:NM)(M:DM):Option Int × NM × DM :=
 if N.tH=0\/N.tf+1<N.tH then(none,{N with tf:=N.tf+1},M) else NM.tY {N with tf:=0} M
def NM.change(N:NM)(M:DM)(x:Fact)(f:Nat):Option Int × NM × DM :=
 match (N.so M x f).1 with
 | some n=>(some n,(N.so M x f).2.1,(N.so M x f).2.2)
 | none=>(N.so M x f).2.1.rV (N.so M x f).2.2
theorem IW(h:p:=by
 clear hg h0 d;go_wp2_with fail
 go_quiet (fail)
 go_wp2
 go_ret;refine⟨f,_,r,rfl,HF.o,?_,?_⟩
 .rw[K.o,A.o];rfl
 .rw[K.o,A.o];exact y.o _ zd):p:=h
theorem IX(h:p:=by
 rw[q] at s;have K:=Z (j n q);have HE:=Z s;obtain⟨k,hk⟩:=s;obtain⟨t,b,rfl⟩:=hk.form;clear q j g hk c S R hf d
 go_wp2
 go_ret;refine⟨f,.iface t (E b 0),r,rfl,HF.o,?_,?_⟩
 .rw[K.o];exact HE.o
 .rw[K.o];exact Q.o):p:=h
theorem VM(B:Nat)(L0:NL)(M0:DM)(w0:World)(L:NL)(N:NM)(M:DM)(i:ByteArray)(x:Fact)(fv:Value)(w:World)(h0:NStep L0 M0 w0 L N M w)(q:Env B L M w)(hx:FRep w fv x)(b0:FOk x)(a8:∀ k,Vf fv k->SRead L0.LS k\/w0.heap.size<=k)
 (o:Xs N.J M w.heap.size (zj x).size)(hk:N.S.uR.length<1099511627776)(hh:N.S.uU.length<1000000)(hw:N.tf<1000000000000) :
 Calls prog 80 #[E L.nb 0,.string i,fv] w fun e w' =>
  ∃ f v L',e=.returned v/\w.heap.size<=f/\ERep w' v (N.change M x f).1/\NStep L0 M0 w0 L' (N.change M x f).2.1 (N.change M x f).2.2 w':=by
 have a5:=Z h0.same.nb;have HW:=Z (Sw B L0 M0 w0 L N M i x fv w h0 q hx b0 a8 o hk hh);clear h0 q hx b0 a8 o hk hh;go_enter func80,ntmps80;go_wp2_with fail;refine HW.o.mono ?_;rintro e w1 ⟨f,v1,r,rfl,hf,s,c⟩;have j:∀ n,(N.so M x f).1=some n->N.change M x f=(some n,(N.so M x f).2.1,(N.so M x f).2.2):=by intro n h;unfold NM.change;rw[h]
 have g:(N.so M x f).1=none->N.change M x f=(N.so M x f).2.1.rV (N.so M x f).2.2:=by intro h;unfold NM.change;rw[h]
 have a9:(N.so M x f).2.1.tf<1000000000000:=hw;generalize S:(N.so M x f).2.1=a at c j g a9;generalize R:(N.so M x f).2.2=l at c j g;have Q:=Z c;have HF:=Z hf;have d:r.nb=L.nb:=c.same.nb.trans a5.o.symm;cases q:(N.so M x f).1 with
 | some n =>
  exact IX
 | none =>
  rw[q] at s;have K:=Z (g q);have hv:v1=.nilIface:=s;subst hv;have hc:=c.th.td.cell;have hz:=c.th.td.frozen;simp only[NM.cells] at hc;rw[d] at hc hz;have b3:IntKind.i64.wrap ((a.tf:Int)+1)=(a.tf:Int)+1:=by rw[Bu];omega
  have u:=NStep.set Q.o.th (N':={a with tf:=a.tf+1}) 5 (I ((a.tf:Int)+1)) (by simp[NM.cells]) rfl rfl;rw[d] at u;have X:=Z u;have a6:=u.th.td.cell;simp only[NM.cells] at a6;rw[d] at a6;have b1:=Z d;clear q j g s c S R hf u;by_cases hg:a.tH=0\/a.tf+1<a.tH
  .have hp:a.rV l=(none,{a with tf:=a.tf+1},l):=by unfold NM.rV;rw[Bl hg]
   have A:=Z hp;clear hp;have m:∀ T:World,Fr Nil (w1.setCell (Y L.nb 5) (I ((a.tf:Int)+1))) T->NStep L0 M0 w0 r {a with tf:=a.tf+1} l T:=fun T f=>(Q.o.trans X.o).tR f;have y:=Z m;clear m;by_cases h0:a.tH=0
   .have g1:((a.tH:Int)==0)=true:=by simp;omega
    exact IW
   .have g1:((a.tH:Int)==0)=false:=by simp;omega
    have g2:a.tf+1<a.tH:=hg.resolve_left h0;have g3:decide ((a.tf:Int)+1<a.tH)=true:=by simp;omega
    have g4:decide (a.tf+1<a.tH)=true:=by simp;omega
    exact IW
  .have hp:a.rV l=NM.tY {a with tf:=0} l:=by unfold NM.rV;rw[CW hg]
   have A:=Z hp;have g1:((a.tH:Int)==0)=false:=by simp;omega
   have g2:¬a.tf+1<a.tH:=fun h=>hg (.inr h);have g3:decide ((a.tf:Int)+1<a.tH)=false:=by simp;omega
   have g4:decide (a.tf+1<a.tH)=false:=by simp;omega
   have m:∀ T:World,Fr Nil (w1.setCell (Y L.nb 5) (I ((a.tf:Int)+1))) T->NStep L0 M0 w0 r {a with tf:=0} l (T.setCell (Y L.nb 5) (I 0)):=by
    intro T f;have h1:=(Q.o.trans X.o).tR f;have h2:=NStep.set h1.th (N':={a with tf:=0}) 5 (I 0) (by simp[NM.cells]) rfl rfl;rw[d] at h2;exact h1.trans h2
   have y:=Z m;have hc:(NM.tY {a with tf:=0} l)=((a.J.sJ l).1,{a with tf:=0,J:=(a.J.sJ l).2.1},(a.J.sJ l).2.2):=rfl;have HC:=Z hc;clear hg d hp m hc;go_wp2_with fail
   go_quiet (fail)
   go_wp2_with fail;generalize hq:World.drewN (w1.setCell (Y L.nb 5) (I ((a.tf:Int)+1))) _=T;have s:=y.o T (by rw[<- hq];exact zd);clear hq;have HE:=Z s;refine(VK r.jb r.db a.J r.LD l _ s.th.qb s.th.sf).mono ?_;rintro e w3 ⟨v3,a4,rfl,C,G⟩;have a3:=Z (HE.o.trans (NStep.rO HE.o.th G));have a0:=Z C;clear s G C;go_wp2_with fail;refine(zU _ _ _ w3 a0.o).mono ?_;rintro e w4 ⟨v4,rfl,D,J⟩;have a1:=Z D;have a2:=Z (a3.o.tR J);clear D J
   go_wp2
   go_ret;refine⟨f,v4,{r with LD:=a4},rfl,HF.o,?_,?_⟩
   .rw[K.o,A.o,HC.o];exact a1.o
   .rw[K.o,A.o,HC.o];exact a2.o
theorem UN(B:Nat)(L:NL)(N:NM)(M:DM)(a:ByteArray)(x:Fact)(c:Value)(w:World)(h:NRep w L N M)(l:Env B L M w)(q:FRep w c x)(g:FOk x)(d:∀ k,Vf c k->SRead L.LS k\/w.heap.size<=k)
 (b:Xs N.J M w.heap.size (zj x).size)(o:N.S.uR.length<1099511627776)(m:N.S.uU.length<1000000)(p:N.tf<1000000000000) :
 Calls prog 80 #[E L.nb 0,.string a,c] w fun e i =>
  ∃ f v j,e=.returned v/\w.heap.size<=f/\ERep i v (N.change M x f).1/\NStep L M w j (N.change M x f).2.1 (N.change M x f).2.2 i :=
 VM B L M w L N M a x c w (NStep.nil h (U _ _)) l q g d b o m p
def NM.sN(N:NM)(M:DM)(f:Nat):Option Int × NM × DM :=
 match (N.so M (.inl (N.uY+16)) f).1 with
 | some n=>(some n,(N.so M (.inl (N.uY+16)) f).2.1,(N.so M (.inl (N.uY+16)) f).2.2)
 | none=>NM.tY (N.so M (.inl (N.uY+16)) f).2.1 (N.so M (.inl (N.uY+16)) f).2.2
theorem NJ(B:Nat)(L:NL)(N:NM)(M:DM)(w:World)(h:NRep w L N M)(q:Env B L M w)
 (o:Xs N.J M w.heap.size (zj (.inl (N.uY+16))).size)(hk:N.S.uR.length<1099511627776)(hh:N.S.uU.length<1000000)(hg:N.uY<1000000000000) :
 Calls prog 162 #[E L.nb 0] w fun e w' =>
  ∃ f v L',e=.returned v/\w.heap.size<=f/\ERep w' v (N.sN M f).1/\NStep L M w L' (N.sN M f).2.1 (N.sN M f).2.2 w':=by
 have HW:aa (∀ i,Calls prog 129 #[E L.nb 0,.string i,.iface 220 (.agg #[I ((N.uY:Int)+16)])] w fun e w' =>
  ∃ f v L',e=.returned v/\w.heap.size<=f/\ERep w' v (N.so M (.inl (N.uY+16)) f).1/\NStep L M w L' (N.so M (.inl (N.uY+16)) f).2.1 (N.so M (.inl (N.uY+16)) f).2.2 w'):=fun i =>
  NH B L N M i (.inl (N.uY+16)) _ w h q (show _=_ from bG) (show N.uY+16<9223372036854775808 from V) (fun k hb=>by obtain⟨v,hv,e⟩:=hb;simp at hv;subst hv;exact absurd e aB) o hk hh
 have a9:IntKind.i64.wrap ((N.uY:Int)+16)=(N.uY:Int)+16:=by rw[Bu];omega
 have b2:w.cell? (Y L.nb 3)=some (I N.uY):=h.td.cell 3;clear h q o hk hh hg;go_enter func162,ntmps162;go_wp2_with fail;refine(HW.o _).mono ?_;rintro e w1 ⟨f,v1,r,rfl,hf,s,c⟩;have j:∀ n,(N.so M (.inl (N.uY+16)) f).1=some n->N.sN M f=(some n,(N.so M (.inl (N.uY+16)) f).2.1,(N.so M (.inl (N.uY+16)) f).2.2):=by intro n h;unfold NM.sN;rw[h]
 have g:(N.so M (.inl (N.uY+16)) f).1=none->N.sN M f=NM.tY (N.so M (.inl (N.uY+16)) f).2.1 (N.so M (.inl (N.uY+16)) f).2.2:=by intro h;unfold NM.sN;rw[h]
 generalize S:(N.so M (.inl (N.uY+16)) f).2.1=a at c j g;generalize R:(N.so M (.inl (N.uY+16)) f).2.2=l at c j g;have Q:=Z c;have HF:=Z hf;have d:=c.same.nb;cases q:(N.so M (.inl (N.uY+16)) f).1 with
 | some n =>
  exact IX
 | none =>
  rw[q] at s;have K:=Z (g q);have hv:v1=.nilIface:=s;subst hv;have hc:w1.cell? (Y L.nb 1)=some (E r.jb 0):=by rw[<- d];exact c.th.td.cell 1
  have a7:(NM.tY a l)=((a.J.sJ l).1,{a with J:=(a.J.sJ l).2.1},(a.J.sJ l).2.2):=rfl;have HC:=Z a7;clear q j g s c S R hf a7 d;go_wp2_with fail;refine(VK r.jb r.db a.J r.LD l _ Q.o.th.qb Q.o.th.sf).mono ?_;rintro e w3 ⟨v3,a4,rfl,C,G⟩;have a3:=Z (Q.o.trans (NStep.rO Q.o.th G));have a0:=Z C;clear G C;go_wp2_with fail;refine(zU _ _ _ w3 a0.o).mono ?_;rintro e w4 ⟨v4,rfl,D,J⟩;have a1:=Z D;have a2:=Z (a3.o.tR J);clear D J
  go_wp2
  go_ret;refine⟨f,v4,{r with LD:=a4},rfl,HF.o,?_,?_⟩
  .rw[K.o,HC.o];exact a1.o
  .rw[K.o,HC.o];exact a2.o
def NM.next(N:NM)(M:DM)(f:Nat):Option Int × Nat × NM × DM :=
 if N.uY<N.S.tm then(none,N.uY+1,{N with uY:=N.uY+1},M) else
 match (N.sN M f).1 with
 | some n=>(some n,0,(N.sN M f).2.1,(N.sN M f).2.2)
 | none=>(none,N.uY+1,{(N.sN M f).2.1 with uY:=N.uY+1},(N.sN M f).2.2)
theorem NK(N:NM)(M:DM)(f:Nat):(N.sN M f).2.1.uY=N.uY:=by
 unfold NM.sN;split <;> rfl
theorem Env.nil{B:Nat}{L:NL}{M:DM}{w c:World}(h:Env B L M w)(f:Fr Nil w c):Env B L M c :=
 ⟨h.pW.fr (S:=Nil) h.le f (fun _ h=>absurd h id),CO h.le f.size,h.sd⟩
theorem Xs.mono{J:JM}{M:DM}{H c n:Nat}(h:Xs J M H n)(e:H<=c):Xs J M c n :=
 ⟨h.bytes,h.size,h.tu,h.tB,h.uX,fun f g=>h.room f (CO e g)⟩
theorem KE(B:Nat)(L:NL)(N:NM)(M:DM)(w:World)(h:NRep w L N M)(j:Env B L M w)
 (s:Xs N.J M w.heap.size (zj (.inl (N.uY+16))).size)(hk:N.S.uR.length<1099511627776)(hh:N.S.uU.length<1000000)(hg:N.uY<1000000000000) :
 Calls prog 123 #[E L.nb 0] w fun e G =>
  ∃ f v L',e=.returned (.tuple #[I (N.next M f).2.1,v])/\w.heap.size<=f/\ERep G v (N.next M f).1/\NStep L M w L' (N.next M f).2.2.1 (N.next M f).2.2.2 G:=by
 have HW:aa (∀ o,Fr Nil w o->Calls prog 162 #[E L.nb 0] o fun e G =>
  ∃ f v L',e=.returned v/\o.heap.size<=f/\ERep G v (N.sN M f).1/\NStep L M o L' (N.sN M f).2.1 (N.sN M f).2.2 G) :=
  fun o f=>NJ B L N M o (h.nil f) (j.nil f) (s.mono f.size) hk hh hg
 have a1:∀ n,Calls prog 98 #[E L.sb 0] (w.drewN n) fun e G=>e=.returned (I N.S.tm)/\G=w.drewN n:=fun n=>UM L.sb L.LS N.S (w.drewN n) (h.held.nil zd);have R:=Z a1;have HH:=Z h;have hz:=h.td.frozen;have a2:w.cell? (Y L.nb 3)=some (I N.uY):=h.td.cell 3;have a5:w.cell? (Y L.nb 2)=some (E L.sb 0):=h.td.cell 2;have a6:IntKind.i64.wrap ((N.uY:Int)+1)=(N.uY:Int)+1:=by rw[Bu];omega
 have r:∀ (K:NM) (S:DM) (J:World) (q:NL),NStep L M w q K S J->∀ w2,Fr Nil J w2->∀ g:Nat,NStep L M w q {K with uY:=g} S (w2.setCell (Y q.nb 3) (I g)):=by
  intro K S J q hs w2 f g;have h1:=hs.tR f;exact h1.trans (NStep.set h1.th (N':={K with uY:=g}) 3 (I g) (by simp[NM.cells]) rfl rfl)
 have p:=Z r;clear h j s hk hh hg a1 r;by_cases hl:N.uY<N.S.tm
 .have hp:∀ f,N.next M f=(none,N.uY+1,{N with uY:=N.uY+1},M):=by intro f;unfold NM.next;rw[Bl hl]
  have i:=Z hp;have g1:decide ((N.uY:Int)>=N.S.tm)=false:=by simp;omega
  have g2:decide ((N.S.tm:Int)<=N.uY)=false:=by simp;omega
  have g3:decide (N.S.tm<=N.uY)=false:=by simp;omega
  have g4:¬N.S.tm<=N.uY:=V
  clear hl hp;go_enter func123,ntmps123;go_wp2_with fail
  go_quiet ((go_at_call 98;exact Ah (R.o _)))
  go_wp2_with fail;have c:=p.o N M (w.drewN nq) L (NStep.nil HH.o zd) (w.drewN nq) (U _ _) (N.uY+1);have a:((N.uY+1:Nat):Int)=(N.uY:Int)+1:=bG
  rw[a] at c;go_ret2;refine⟨w.heap.size,.nilIface,L,by rw[i.o,a];rfl,CP _,by rw[i.o];rfl,?_⟩;rw[i.o];exact c
 .have hp1:∀ f n,(N.sN M f).1=some n->N.next M f=(some n,0,(N.sN M f).2.1,(N.sN M f).2.2):=by intro f n h;unfold NM.next;rw[CW hl,h]
  have D:∀ f,(N.sN M f).1=none->N.next M f=(none,N.uY+1,{(N.sN M f).2.1 with uY:=N.uY+1},(N.sN M f).2.2):=by intro f h;unfold NM.next;rw[CW hl,h]
  have g1:decide ((N.uY:Int)>=N.S.tm)=true:=by simp;omega
  have g2:decide ((N.S.tm:Int)<=N.uY)=true:=by simp;omega
  have g3:decide (N.S.tm<=N.uY)=true:=by simp;omega
  have g4:N.S.tm<=N.uY:=V
  clear hl;go_enter func123,ntmps123;go_wp2_with fail
  go_quiet ((go_at_call 98;exact Ah (R.o _)))
  go_wp2_with fail;generalize hq:w.drewN nq=o;have a0:Fr Nil w o:=by rw[<- hq];exact zd
  have x:=Z a0;clear hq a0;refine(HW.o o x.o).mono ?_;rintro e J ⟨f,v1,q,rfl,hf,Q,d⟩;have HS:=Z ((NStep.nil HH.o x.o).trans d);have HF:=Z (CO x.o.size hf);have A:=Z (hp1 f);have y:=Z (D f);have m:=d.same.nb;have l:=NK N M f;generalize X:(N.sN M f).2.1=K at d A y HS l;generalize T:(N.sN M f).2.2=S at d A y HS;cases j:(N.sN M f).1 with
  | some n =>
   rw[j] at Q;have i:=Z (A.o n j);have HE:=Z Q;obtain⟨k,hk⟩:=Q;obtain⟨t,b,rfl⟩:=hk.form;clear j hp1 D hk d X T hf m l
   go_wp2
   go_ret2;refine⟨f,.iface t (E b 0),q,by rw[i.o];rfl,HF.o,?_,?_⟩
   .rw[i.o];exact HE.o
   .rw[i.o];exact HS.o
  | none =>
   rw[j] at Q;have i:=Z (y.o j);have hv:v1=.nilIface:=Q;subst hv;have hc:=d.th.td.cell 3;have a3:=d.th.td.frozen;rw[m] at hc a3;have a4:J.cell? (Y L.nb 3)=some (I N.uY):=by rw[hc,<- l];rfl
   have c:=p.o K S J q HS.o J (U _ _) (N.uY+1);have a:((N.uY+1:Nat):Int)=(N.uY:Int)+1:=bG
   rw[a,m] at c;have C:=Z c;have u:=Z a;clear j hp1 D d X T hf m l hc Q c a2 a;go_wp2_with fail;go_ret2;refine⟨f,.nilIface,q,by rw[i.o,u.o];rfl,HF.o,by rw[i.o];rfl,?_⟩;rw[i.o];exact C.o
def zu(k:ByteArray):Bool:=decide (0<k.size/\k.size<=32)
theorem X8(k:ByteArray):k.size=k.toList.length:=by
 rw[vv,yh];rfl
theorem Wu(k:ByteArray)(w:World):Calls prog 69 #[.string k] w fun e g=>e=.returned (.bool (zu k))/\g=w:=by
 have a:=X8 k;by_cases d:k.toList=[]
 .have b:zu k=false:=by rw[d] at a;simp at a;simp[zu,a]
  have c:=Z b;clear a b;go_enter func69,ntmps69
  go_wp2
  go_ret;exact⟨by rw[c.o];rfl,rfl⟩
 .have hs:0<k.size:=by rw[a];exact yl.mpr d
  have f:k.toList.isEmpty=false:=by simpa using d
  have b:zu k=(!k.toList.isEmpty&&decide ((k.size:Int)<=32)):=by rw[f];simp only[zu,hs,true_and,Bool.not_false,vW];congr 1;exact propext V
  have c:=Z b;clear a hs f b;go_enter func69,ntmps69
  go_wp2
  go_ret;exact⟨by rw[c.o];rfl,rfl⟩
def zM(n:Int):Bool:=decide (0<=n/\n<4)
theorem Vg(n:Int)(w:World):Calls prog 131 #[I n] w fun e b=>e=.returned (.bool (zM n))/\b=w:=by
 go_enter func131,ntmps131;by_cases a:0<=n
 .by_cases h1:n<4
  .go_wp2
   go_ret;exact⟨by simp[zM,a,h1],rfl⟩
  .go_wp2
   go_ret;exact⟨by simp[zM,a,h1],rfl⟩
 .go_wp2
  go_ret;exact⟨by rw[zM,yd V];rfl,rfl⟩
theorem Ut(L:NL)(N:NM)(M:DM)(n:Int)(w:World)(h:NRep w L N M):Calls prog 83 #[E L.nb 0,I n] w fun e d=>e=.returned (.bool (zM n&&decide (n≠N.tN)))/\d=w:=by
 have f:w.cell? (Y L.nb 0)=some (I N.tN):=h.td.cell 0;clear h;go_enter func83,ntmps83;cases h0:zM n with
 | false =>
  have a:=Z (Vg n w);rw[h0] at a;clear h0
  go_wp2_with (refine a.o.mono ?_;rintro e c ⟨rfl,rfl⟩)
  go_ret;exact⟨rfl,rfl⟩
 | true =>
  have a:=Z (Vg n w);rw[h0] at a;clear h0;by_cases b:n=N.tN
  .subst b
   go_wp2_with (refine a.o.mono ?_;rintro e c ⟨rfl,rfl⟩)
   go_ret;exact⟨bG,rfl⟩
  .have h2:(n==(N.tN:Int))=false:=by simpa using b
   go_wp2_with (refine a.o.mono ?_;rintro e c ⟨rfl,rfl⟩)
   go_ret;exact⟨by simp[b],rfl⟩
theorem QS(n:Value)(w:World):Calls prog 82 #[n] w fun e a=>e=.returned (.slice none 0 0)/\a=w:=by
 go_enter func82,ntmps82
 go_wp2
 go_ret;exact⟨rfl,rfl⟩
theorem Rs(p:Value)(w:World):Calls prog 79 #[p,.nilIface] w fun e a=>e=.returned (I 0)/\a=w:=by
 go_enter func79,ntmps79
 go_wp2
 go_ret;exact⟨rfl,rfl⟩
theorem ZQ(s:ByteArray)(w:World)(h:s.size<=1000000000) :
 Calls prog 74 #[.string s] w fun e b=>e=.returned (.string s)/\Fr Nil w b:=by
 have c:aa (Calls prog 125 #[.string s] w fun e b=>e=.returned (.string s)/\Below w.heap.size w b):=AnyPu.stringslite_Clone Tryz.pA s w V;clear h;go_enter func74,ntmps74
 go_wp2_with (refine c.o.mono ?_;rintro e f ⟨rfl,a⟩)
 go_ret;exact⟨rfl,a.os,a.tape,a.output,a.size,fun k d _=>a.block k d⟩
def Ver.ov(v:Ver)(n:Int):Int:=if n=0 then v.o0 else if n=1 then v.o1 else if n=2 then v.o2 else v.o3
def Ver.rI(v u:Ver):Bool:=decide (u.seq<=v.ov u.node)
def zW(n:Int):Prop:=0<=n/\n<4
theorem Vz(v u:Ver)(c:zW u.node)(w:World) :
 Calls prog 174 #[.agg v.cells.toArray,.agg u.cells.toArray] w fun e p=>e=.returned (.bool (v.rI u))/\Fr Nil w p:=by
 obtain⟨n,s,f,h,i,j,x,g⟩:=v;obtain⟨node,d,k,l,m,o,y,a⟩:=u;unfold zW at c;simp only at c;have b:node=0\/node=1\/node=2\/node=3:=V
 have q:Fr Nil w ((w.alloc (.cells #[I n,I s,I f,I h,I i,I j,.string x,.bool g] 37)).alloc (.cells #[I node,I d,I k,I l,I m,I o,.string y,.bool a] 37)):=((U _ _).alloc _).alloc _;simp only[Ver.cells];clear c;rcases b with rfl|rfl|rfl|rfl
 all_goals
  go_enter func174,ntmps174;go_wp2_with fail
  go_quiet (fail)
  go_wp2
  go_ret;refine⟨?_,zd⟩;simp[Ver.rI,Ver.ov]
theorem CL(a b c d:Int)(w:World):(binOp .eql 34 (.agg #[I a,I b]) (.agg #[I c,I d])).run prog w=.ok (.bool (a==c&&b==d)) w:=by
 have u3:=we;have i:=isAgg3;have j:=sizeOf3;have g:prog.underlying 34=some (.struct (prog.fieldsOf 34)):=bI
 have h:prog.stoodInHeld 34=false:=bI
 rw[run_eql_struct,show(10000:Nat)=9999+1 from rfl,run_equalIn_agg w 9999 34 _ _ g h];simp only[Program.fieldsOf,underlying34]
 go_simp
 by_cases e:a=c <;> by_cases f:b=d <;> simp[e,f]
def Ver.sP(v w:Ver):Bool:=(w.node==v.node&&w.seq==v.seq)||w.rI v
theorem PS(v u:Ver)(o:zW v.node)(b:Nat)(w:World)(j:Blk w b v.cells 37) :
 Calls prog 176 #[.agg u.cells.toArray,E b 0] w fun e q=>e=.returned (.bool (v.sP u))/\Fr Nil w q:=by
 have m:=CL u.node u.seq v.node v.seq;have a:=Vz u v o;have p:∀ (d:Obj) k,(w.alloc d).cell? (Y b k)=v.cells[k]?:=fun d k=>(j.alloc d).cell k;have l:Fr Nil w (w.alloc (.cells u.cells.toArray 37)):=(U _ _).alloc _;have h:=Z a;simp only[Ver.sP];generalize u.rI v=ov at h |-;obtain⟨n,s,r,t,A,B,x,g⟩:=v;obtain⟨node,f,C,D,G,J,y,i⟩:=u;simp only[Ver.cells] at *;clear j a o;cases he:(node==n&&f==s) with
 | true =>
  rw[he] at m;clear he;go_enter func176,ntmps176
  go_wp2
  go_ret;exact⟨rfl,l⟩
 | false =>
  rw[he] at m;clear he;go_enter func176,ntmps176
  go_wp2_with (refine(h.o _).mono ?_;rintro e K ⟨rfl,c⟩)
  go_ret;exact⟨rfl,l.trans c⟩
theorem VRow.cells{w:World}{g n cap:Nat}{l:List Ver}(h:w.ownsRow 0 37 8 (.slice (some (Y g 0)) n cap) n (zS l))(i:Nat)(o:i<l.length)(j:Nat)(e:j<8) :
 w.cell? (Y g (i*8+j))=l[i].cells[j]?:=by
 have c:j<l[i].cells.length:=by rw[Ver.sY];exact e
 rw[own_cell? h (i*8+j) _ ((UF l i j o e).trans (CS c)),CS c]
theorem Sx(X:Value)(l:List Ver)(v:Ver)(hv:zW v.node)(b:Nat)(w:World)(s:VRow w X l)(T:Blk w b v.cells 37) :
 Calls prog 213 #[X,.func (.func 176) #[] #[E b 0]] w fun e B =>
  ∃ r:Int,e=.returned (I r)/\decide (0<=r)=l.any v.sP/\Fr Nil w B:=by
 have hn:=zH s;unfold maxLen at hn;obtain⟨la,lc,rfl⟩:=zf s;have HB:=Z T;have C:=Z s;clear T s;go_enter func213,ntmps213;go_wp2_with fail
 go_loopw [8] (fun A B=>∃ i:Nat,i<=l.length/\A=I i/\(l.take i).any v.sP=false/\Fr Nil w B) (fun A _=>l.length-(intOf A).toNat)
 case atStart=>exact⟨0,Bg _,rfl,rfl,U _ _⟩
 case round =>
  obtain⟨i,hi,rfl,a,q⟩:=hrel;by_cases k:i<l.length
  .obtain⟨g,rfl⟩:∃ g,la=some (Y g 0):=by
    obtain⟨g,a0,h,_⟩:=zl C.o V;simp at h;exact⟨g,h.1⟩
   have c:=VRow.cells (ze (S:=Nil) C.o q (fun _ _=>id)) i k;have G:=c 0 V;have J:=c 1 V;have K:=c 2 V;have L:=c 3 V;have M:=c 4 V;have N:=c 5 V;have Q:=c 6 V;have R:=c 7 V;have f:(l.take (i+1)).any v.sP=v.sP l[i]:=by
    rw[Bp k,List.any_append,a];simp
   have d:v.sP l[i]=true->l.any v.sP=true:=fun h=>wk.2 ⟨l[i],CU k,h⟩;have o:=Z (PS v l[i] hv b wr (HB.o.fr q id));have u:=Z f;have t:=Z d;have D:=Z a;clear c f d a;generalize l[i]=x at G J K L M N Q R o u t;obtain⟨node,y,o0,o1,o2,o3,m,p⟩:=x;simp only[Ver.cells,AM] at G J K L M N Q R o;cases hk:v.sP ⟨node,y,o0,o1,o2,o3,m,p⟩ with
   | true =>
    rw[hk] at o t;have a1:(0:Int)<=i:=V
    clear hk
    go_wp2_with (refine o.o.mono ?_;rintro e w1 ⟨rfl,j⟩)
    go_ret;exact⟨_,rfl,by rw[t.o (by trivial)];simp,q.trans j⟩
   | false =>
    rw[hk] at o u;clear hk
    go_wp2_with (refine o.o.mono ?_;rintro e w1 ⟨rfl,j⟩)
    exact⟨⟨i+1,V,by go_num,u.o,q.trans j⟩,by simp[intOf];omega⟩
  .have e:i=l.length:=V
   rw[e,Bj] at a;have D:=Z a;clear a
   go_wp2
   go_ret;exact⟨_,rfl,by rw[D.o];simp,q⟩
theorem UO(a:Value)(l:List Ver)(v:Ver)(i:zW v.node)(b:Nat)(w:World)(d:VRow w a l)(c:Blk w b v.cells 37) :
 Calls prog 175 #[a,.func (.func 176) #[] #[E b 0]] w fun e j =>
  e=.returned (.bool (l.any v.sP))/\Fr Nil w j:=by
 have f:=Z (Sx a l v i b w d c);clear d c;go_enter func175,ntmps175
 go_wp2_with (refine f.o.mono ?_;rintro e k ⟨r,rfl,h,g⟩)
 go_ret;exact⟨by first|rfl|(show Ending.returned (.bool (decide (0<=r)))=_;rw[h]),g⟩
theorem NN(b:Value)(l:List Ver)(v:Ver)(j:zW v.node)(w:World)(i:VRow w b l) :
 Calls prog 141 #[b,.agg v.cells.toArray] w fun e m=>e=.returned (.bool (l.any v.sP))/\Fr Nil w m:=by
 have g:Blk (w.alloc (.cells v.cells.toArray 37)) w.heap.size v.cells 37:=Blk.new w v.cells _;have h:Fr Nil w (w.alloc (.cells v.cells.toArray 37)):=(U _ _).alloc _;have d:=Z (UO b l v j _ _ (VRow.fr i h (fun _ _=>id)) g);clear i g;generalize l.any v.sP=r at d |-;obtain⟨node,k,o,q,s,t,c,f⟩:=v;simp only[Ver.cells] at *;go_enter func141,ntmps141
 go_wp2_with (refine d.o.mono ?_;rintro e u ⟨rfl,a⟩)
 go_ret;exact⟨rfl,h.trans a⟩
theorem Ez:((prog.info? 37).map fun i=>(i.zero.map (·.cells.size),i.size,i.bytes))=some (some 8,8,72):=bI
theorem Xi(a b:List Ver):zS (a++b)=zS a++zS b:=by simp[zS]
theorem Yt(w:World)(v:Value)(l:List Ver)(h:VRow w v l)(x:Ver)(y:l.length<1000000)(d:World)(f:Fr Nil w d)(N:Nat)(r:Blk d N x.cells 37)(ty:TypeId) :
 ∃ b c,(Builtin.append_ #[61,61] ty #[v,.slice (some (Y N 0)) 1 1]).run prog d=.ok b c /\
  (VRow c b (l++[x])/\Fr (fun k=>v.ownBlock=some k) w c/\(∀ k,b.ownBlock=some k->v.ownBlock=some k\/w.heap.size<=k)):=by
 have s:=ze h f (fun _ _=>id);obtain⟨b,c,t,o,q,a⟩:=zq (P:=prog) 61 ty 37 8 72 AL Ez V v l.length _ s ⟨N,0,none⟩ 1 1 x.cells rfl
  (fun j u m=>by rw[BO,BQ,r.cell];exact m) (fun u m=>XS [x] u (by simpa [zS] using m)) ac V
 refine⟨b,c,t,?_,(f.mono (fun _ _ e=>absurd e id)).tk ((Fr.sB q).mono (fun i _ h=>h)) (fun i _ h=>h),fun k g=>?_⟩
 .unfold VRow
  rw[CN,Xi];have:zS [x]=x.cells:=by simp[zS]
  rw[this];exact o
 .rcases a with a|a
  .exact .inl (by rw[<- a];exact g)
  .rw[a] at g;simp at g;have:=f.size;exact .inr V
def zC(l:List Ver)(v:Ver):List Ver:=l.filter fun u=>!v.rI u
theorem La(h:p:=by
 unfold zC;rw[Bp hi,List.filter_append]
 congr 1
 cases hv:v.rI l[i] <;> simp[hv]):p:=h
theorem D1(h:p:=by
 have e4:=Vh l i a5;have b8:=Z e4;have HX:=Z hx;clear hc e4 hx;generalize l[i]=x at g0 g1 g2 g3 g4 g5 g6 g7 b8 HX;obtain⟨node,y,x0,x1,x2,x3,xv,xg⟩:=x;simp only[Ver.cells,AM] at g0 g1 g2 g3 g4 g5 g6 g7;have r6:node=0\/node=1\/node=2\/node=3:=by have:=HX.o;unfold zW at this;simp only at this;omega
 generalize k6:grV (l.take i) 0=m0 at e7;generalize k7:grV (l.take i) 1=m1 at e7;generalize k8:grV (l.take i) 2=m2 at e7;generalize k9:grV (l.take i) 3=m3 at e7;have j4:=Z k6;have j5:=Z k7;have j6:=Z k8;have j7:=Z k9;clear k6 k7 k8 k9;have s8:∀ (ob:Obj) k,(wr.alloc ob).cell? (Y (R+1) k)=[I m0,I m1,I m2,I m3][k]?:=fun ob k=>(e7.alloc ob).cell k;have t7:∀ (ob:Obj) k,(wr.alloc ob).frozen? (Y (R+1) k)=false:=fun ob k=>(e7.alloc ob).frozen k;have HB:=Z e7;clear e7;have n6:∀ (m q:Int),max m q=if m<q then q else m:=by intro m q;simp only[Int.max_def];split <;> split <;> omega
 have i9:=Z n6;clear n6;rcases r6 with rfl|rfl|rfl|rfl
 .go_wp2_with fail
  go_region
  go_wp2
  refine⟨⟨i+1,V,by go_num,?_,?_⟩,by simp[intOf];omega⟩
  .have e4:=b8.o
   simp only[e4,j4.o,j5.o,j6.o,j7.o,i9.o];exact((HB.o.alloc _).set 0 _).drew
  .exact(Fr.set (S:=fun k=>k=R+1) (hf.alloc _) (fun _=>rfl) _).drew
 .go_wp2_with fail
  go_region
  go_wp2
  refine⟨⟨i+1,V,by go_num,?_,?_⟩,by simp[intOf];omega⟩
  .have e4:=b8.o
   simp only[e4,j4.o,j5.o,j6.o,j7.o,i9.o];exact((HB.o.alloc _).set 1 _).drew
  .exact(Fr.set (S:=fun k=>k=R+1) (hf.alloc _) (fun _=>rfl) _).drew
 .go_wp2_with fail
  go_region
  go_wp2
  refine⟨⟨i+1,V,by go_num,?_,?_⟩,by simp[intOf];omega⟩
  .have e4:=b8.o
   simp only[e4,j4.o,j5.o,j6.o,j7.o,i9.o];exact((HB.o.alloc _).set 2 _).drew
  .exact(Fr.set (S:=fun k=>k=R+1) (hf.alloc _) (fun _=>rfl) _).drew
 .go_wp2_with fail
  go_region
  go_wp2
  refine⟨⟨i+1,V,by go_num,?_,?_⟩,by simp[intOf];omega⟩
  .have e4:=b8.o
   simp only[e4,j4.o,j5.o,j6.o,j7.o,i9.o];exact((HB.o.alloc _).set 3 _).drew
  .exact(Fr.set (S:=fun k=>k=R+1) (hf.alloc _) (fun _=>rfl) _).drew):p:=h
theorem D2(h:p:=by
 have e4:=h7.o i a5;have t0:∀ (ob:Obj) k,(wr.alloc ob).cell? (Y N k)=[I node,I y,I D,I G,I J,I L,.string c,.bool B][k]?:=fun ob k=>((hb.fr hf id).alloc ob).cell k;have b8:=Z e4;have f3:=Z j1;have m7:=Z k0;have HX:=Z hx;clear hc e4 j1 hx;generalize l[i]=x at g0 g1 g2 g3 g4 g5 g6 g7 b8 HX;have HO:=Z (j8.o x (wr.alloc (.cells x.cells.toArray 37)) HX.o);obtain⟨xn,xs,x0,x1,x2,x3,xv,xg⟩:=x;simp only[Ver.cells,AM] at g0 g1 g2 g3 g4 g5 g6 g7 HO;obtain⟨ta,tc,rfl⟩:=zf k0;clear k0;cases hov:Ver.rI ⟨node,y,D,G,J,L,c,B⟩ ⟨xn,xs,x0,x1,x2,x3,xv,xg⟩ with
 | true =>
  rw[hov] at HO b8;clear hov
  go_wp2_with (refine HO.o.mono ?_;rintro e w1 ⟨rfl,m9⟩)
  have n0:Fr Nil wr w1:=((U Nil wr).alloc _).trans m9;refine⟨⟨i+1,V,by go_num,?_,hf.trans n0,f3.o⟩,by simp[intOf];omega⟩;rw[b8.o]
  simpa using VRow.fr m7.o n0 (fun _ _=>id)
 | false =>
  rw[hov] at HO b8;clear hov;go_wp2_with fail;refine HO.o.mono ?_;rintro e w1 ⟨rfl,m9⟩;have n0:Fr Nil wr w1:=((U Nil wr).alloc _).trans m9;have s9:=((Blk.new wr [I xn,I xs,I x0,I x1,I x2,I x3,.string xv,.bool xg] 37).fr m9 id).cell;have n7:=fun ty=>Yt wr _ _ m7.o ⟨xn,xs,x0,x1,x2,x3,xv,xg⟩ (p7.o i) (w1.alloc (.cells #[I xn,I xs,I x0,I x1,I x2,I x3,.string xv,.bool xg] 37)) (n0.alloc _) w1.heap.size (Blk.new w1 [I xn,I xs,I x0,I x1,I x2,I x3,.string xv,.bool xg] _) ty;obtain⟨m,hm⟩:∃ m,(zC (l.take i) ⟨node,y,D,G,J,L,c,B⟩).length=m:=⟨_,rfl⟩;rw[hm] at n7 f3 |-;have HM:=Z hm;clear hm
  go_wp2_with (at_builtin;go_must (refine zm rfl _ _ _ _ rfl _ _ bH bH (n7 _) ?_);rintro v' d ⟨r9,q2,r8⟩)
  refine⟨⟨i+1,V,by go_num,?_,?_,fun k hk=>?_⟩,by simp[intOf];omega⟩
  .rw[b8.o]
   simpa using r9
  .exact hf.tk q2 (fun j hj h=>absurd (f3.o j h) V)
  .rcases r8 k hk with h|h
   .exact f3.o k h
   .have:=hf.size;omega):p:=h
theorem Lb(h:p:=by
 have g0:=hc 0 V;have g1:=hc 1 V;have g2:=hc 2 V;have g3:=hc 3 V;have g4:=hc 4 V;have g5:=hc 5 V;have g6:=hc 6 V;have g7:=hc 7 V;have hx:=k2.o l[i] (CU a5)
 first
  | (clear r3;exact D2)
  | exact D1):p:=h
theorem KF(lv:Value)(l:List Ver)(v:Ver)(b9:∀ u∈l,zW u.node)(t4:l.length<1000000)(w:World)(hl:VRow w lv l) :
 Calls prog 140 #[lv,.agg v.cells.toArray] w fun e d=>∃ v',e=.returned v'/\VRow d v' (zC l v)/\Fr Nil w d/\(∀ k,v'.ownBlock=some k->w.heap.size<=k):=by
 have hn:=zH hl;unfold maxLen at hn;obtain⟨la,lc,rfl⟩:=zf hl;have hb:Blk (w.alloc (.cells v.cells.toArray 37)) w.heap.size v.cells 37:=Blk.new w v.cells _;have i3:Fr Nil w (w.alloc (.cells v.cells.toArray 37)):=(U _ _).alloc _;have HL:=Z hl;have k2:=Z b9;clear hl b9;have j8:aa (∀ (x:Ver) (W:World),zW x.node->Calls prog 174 #[.agg v.cells.toArray,.agg x.cells.toArray] W fun e d=>e=.returned (.bool (v.rI x))/\Fr Nil W d):=fun x W hx=>Vz v x hx W;have h7:aa (∀ i (hi:i<l.length),zC (l.take (i+1)) v=zC (l.take i) v++if v.rI l[i]=true then [] else [l[i]]):=by
  intro i hi;exact La
 have p7:aa (∀ i,(zC (l.take i) v).length<1000000):=by
  intro i;have h1:=List.length_filter_le (fun u=>!v.rI u) (l.take i);have h2:=List.length_take_le' i l;unfold zC;omega
 obtain⟨node,y,D,G,J,L,c,B⟩:=v;simp only[Ver.cells] at *;go_enter func140,ntmps140;go_wp2_with fail;obtain⟨N,hN⟩:∃ N,w.heap.size=N:=⟨_,rfl⟩;obtain⟨w0,l9⟩:∃ w0,w.alloc (.cells #[I node,I y,I D,I G,I J,I L,.string c,.bool B] 37)=w0:=⟨_,rfl⟩;rw[hN] at hb |-;rw[l9] at hb i3 |-;clear l9;have s5:=hb.lt
 go_loopw [5,10] (fun t5 i5 d=>∃ i:Nat,i<=l.length/\i5=I i/\VRow d t5 (zC (l.take i) ⟨node,y,D,G,J,L,c,B⟩)/\Fr Nil w0 d/\(∀ k,t5.ownBlock=some k->w0.heap.size<=k)) (fun _ i5 _=>l.length-(intOf i5).toNat)
 case atStart=>exact⟨0,Bg _,rfl,Bf w0 0 _ _,U _ _,fun k hk=>by simp[Value.ownBlock] at hk⟩
 case round =>
  obtain⟨i,hi,rfl,k0,hf,j1⟩:=hrel;by_cases a5:i<l.length
  .obtain⟨g,rfl⟩:∃ g,la=some (Y g 0):=by
    obtain⟨g,cap,h,_⟩:=zl HL.o V;simp at h;exact⟨g,h.1⟩
   have hc:=VRow.cells (ze (S:=Nil) HL.o (i3.trans hf) (fun _ _=>id)) i a5;have r3:=0;exact Lb
  .have e:i=l.length:=V
   have n3:zC (l.take i) ⟨node,y,D,G,J,L,c,B⟩=zC l ⟨node,y,D,G,J,L,c,B⟩:=by rw[e,Bj]
   rw[n3] at k0;have m7:=Z k0;have f3:=Z j1;clear k0 n3 j1
   go_wp2
   go_ret;exact⟨_,rfl,m7.o,i3.trans hf,fun k hk=>CO i3.size (f3.o k hk)⟩
def grV(l:List Ver)(n:Int):Int:=l.foldl (fun m u=>if u.node=n then max m u.seq else m) 0
theorem Vh(l:List Ver)(i:Nat)(h:i<l.length)(n:Int):grV (l.take (i+1)) n=if l[i].node=n then max (grV (l.take i) n) l[i].seq else grV (l.take i) n:=by
 unfold grV;rw[Bp h,BM]
 rfl
theorem Rt(lv:Value)(l:List Ver)(b9:∀ u∈l,zW u.node)(w:World)(hl:VRow w lv l) :
 Calls prog 72 #[lv] w fun e d=>e=.returned (.agg #[I (grV l 0),I (grV l 1),I (grV l 2),I (grV l 3)])/\Fr Nil w d:=by
 have hn:=zH hl;unfold maxLen at hn;obtain⟨la,lc,rfl⟩:=zf hl;have HL:=Z hl;have k2:=Z b9;clear hl b9;go_enter func72,ntmps72;go_wp2_with fail;obtain⟨R,hR⟩:∃ R,w.heap.size=R:=⟨_,rfl⟩;have o5:Blk ((w.alloc (.cells #[I 0,I 0,I 0,I 0] 35)).alloc (.cells #[I 0,I 0,I 0,I 0] 35)) (w.heap.size+1) [I 0,I 0,I 0,I 0] 35:=by
  have:=Blk.new (w.alloc (.cells #[I 0,I 0,I 0,I 0] 35)) [I 0,I 0,I 0,I 0] 35
  simpa using this
 have o9:Blk ((w.alloc (.cells #[I 0,I 0,I 0,I 0] 35)).alloc (.cells #[I 0,I 0,I 0,I 0] 35)) w.heap.size [I 0,I 0,I 0,I 0] 35:=(Blk.new w [I 0,I 0,I 0,I 0] _).alloc _;have i3:Fr Nil w ((w.alloc (.cells #[I 0,I 0,I 0,I 0] 35)).alloc (.cells #[I 0,I 0,I 0,I 0] 35)):=((U _ _).alloc _).alloc _;obtain⟨w0,l9⟩:∃ w0,(w.alloc (.cells #[I 0,I 0,I 0,I 0] 35)).alloc (.cells #[I 0,I 0,I 0,I 0] 35)=w0:=⟨_,rfl⟩;rw[l9] at o5 o9 i3 |-;have s6:w.heap.size<=R:=V
 rw[hR] at o5 o9 |-;clear l9 hR
 go_loopw [8] (fun t8 d=>∃ i:Nat,i<=l.length/\t8=I i/\Blk d (R+1) [I (grV (l.take i) 0),I (grV (l.take i) 1),I (grV (l.take i) 2),I (grV (l.take i) 3)] 35/\Fr (fun k=>k=R+1) w0 d) (fun t8 _=>l.length-(intOf t8).toNat)
 case atStart=>exact⟨0,Bg _,rfl,o5,U _ _⟩
 case round =>
  obtain⟨i,hi,rfl,e7,hf⟩:=hrel;have q3:Fr Nil w wr:=i3.tk (hf.mono (fun _ _ h=>h)) (fun k hk h=>V);by_cases a5:i<l.length
  .obtain⟨g,rfl⟩:∃ g,la=some (Y g 0):=by
    obtain⟨g,cap,h,_⟩:=zl HL.o V;simp at h;exact⟨g,h.1⟩
   have hc:=VRow.cells (ze (S:=Nil) HL.o q3 (fun _ _=>id)) i a5;exact Lb
  .have e:i=l.length:=V
   rw[e,Bj] at e7;have m8:=o9.fr hf (fun e=>V);have l1:=e7.cell;have r5:=m8.cell;have s1:=m8.frozen;generalize k6:grV l 0=m0 at l1;generalize k7:grV l 1=m1 at l1;generalize k8:grV l 2=m2 at l1;generalize k9:grV l 3=m3 at l1;have j4:=Z k6;have j5:=Z k7;have j6:=Z k8;have j7:=Z k9;have HF:=Z q3;have r4:=Z m8;clear k6 k7 k8 k9 e7 m8
   go_wp2
   have q1:=(((r4.o.set 0 (I m0)).set 1 (I m1)).set 2 (I m2)).set 3 (I m3);have j9:Fr Nil w ((((wr.setCell (Y R 0) (I m0)).setCell (Y R 1) (I m1)).setCell (Y R 2) (I m2)).setCell (Y R 3) (I m3)) :=
    Fr.set (Fr.set (Fr.set (Fr.set HF.o (fun h=>by simp only at h;omega) _) (fun h=>by simp only at h;omega) _) (fun h=>by simp only at h;omega) _) (fun h=>by simp only at h;omega) _
   have p3:=Z j9;have o6:=q1.cell;simp only[BD,BI] at o6;clear l1 r5 s1 j9 q1;generalize (((wr.setCell (Y R 0) (I m0)).setCell (Y R 1) (I m1)).setCell (Y R 2) (I m2)).setCell (Y R 3) (I m3)=w4 at o6 p3 |-;refine xC (v:=.agg #[I m0,I m1,I m2,I m3]) (by simp[results,Tryz.results72,go_sem,o6,isAgg35,sizeOf35]) rfl ⟨?_,p3.o⟩;rw[j4.o,j5.o,j6.o,j7.o]
end Go.Proofs.YtkhnggkkiefcdaaGreatDoor
