/- larder: joined texts -/
import Derived.Test.YtkhnggkkiefcdaaGreatDoorALAI
namespace Go.Proofs.YtkhnggkkiefcdaaGreatDoor
open Go.RowKit Proofs.Tryz
set_option maxRecDepth 100000
set_option maxHeartbeats 8000000
variable{p:Prop}
abbrev xp:=@Go.callsIn_of_wp_marks
abbrev wo:=@Go.run_takeDeferred
abbrev vy:=@Go.wpListIn_append_own
abbrev vD:=@Go.Boxed.new
abbrev vM:=@Go.OwnFrom.and
abbrev uM:=@Go.ownsRow_succ
def Yf(l:List Ver)(v:Ver):List Ver:=if v.ts=true then zC l v else Xt (zC l v) v
def NM.se(N:NM)(M:DM)(key:ByteArray)(v:Ver)(f:Nat):Int × NM × DM :=
 if zu key=false then(2,N,M) else
 if 128<v.value.size then(3,N,M) else
 if foreign N.tN v=false then(5,N,M) else
 if N.uW=true then(8,N,M) else
 if (zn N.S.uR key).any v.sP=true then(0,N,M) else
 if v.ts=false/\4<=(zC (zn N.S.uR key) v).length then(6,N,M) else
 if v.ts=true/\(zC (zn N.S.uR key) v).length=(zn N.S.uR key).length then(0,N,M) else
 N.rk M (.inr (.inl (key,Yf (zn N.S.uR key) v))) f
theorem Vj{a:Nat}{v:Ver}(h:foreign a v=true):zW v.node:=by
 unfold foreign at h;simp only[Ar] at h;have:=h.2.2.1.1;unfold zM at this
 simpa [zW] using this
theorem VB(l:List Ver)(v:Ver):(zC l v).length<=l.length:=List.length_filter_le ..
theorem Qb{l:List Ver}(h:YM l)(v:Ver):YM (zC l v):=by
 unfold YM Asc zC at *;exact h.sublist (List.filter_sublist.map _)
theorem KO(B:Nat)(L:NL)(N:NM)(M:DM)(key:ByteArray)(l:List Ver)(d w:World)(h:NRep d L N M)(u:Ye B L M d)(s:Fr Nil d w)(m:Value)(j:VRow w m l)(i:∀ k,m.ownBlock=some k->d.heap.size<=k)
 (g:Fit N M d.heap.size (.inr (.inl (key,l)))) :
 ∀ b o,Fr Nil w o->Calls prog 80 #[E L.nb 0,.string b,.iface 193 (.agg #[.string key,m])] o fun e q =>
  ∃ f v p,e=.returned v/\d.heap.size<=f/\ERep q v (N.change M (.inr (.inl (key,l))) f).1/\NStep L M d p (N.change M (.inr (.inl (key,l))) f).2.1 (N.change M (.inr (.inl (key,l))) f).2.2 q:=by
 intro b o r;have c:=s.trans r;have a:=g.mono c.size;refine(VM B L M d L N M b (.inr (.inl (key,l))) _ o (NStep.nil h c) (u.nil c).qg ⟨m,rfl,VRow.fr j r (fun _ _=>id)⟩ a.ok (fun k t=>?_) a.qb a.uR a.uU a.tf).mono ?_
 .obtain⟨v,hv',e⟩:=t
  simp at hv';rcases hv' with rfl|rfl
  .exact absurd e aB
  .exact .inr (i k e)
 .rintro e q ⟨f,v,p,rfl,hf,hE,hst⟩
  exact⟨f,v,p,rfl,CO c.size hf,hE,hst⟩
theorem Hj(h:p:=by
 go_wp2_with fail;refine(d2.o _).mono ?_;rintro e w7 ⟨rfl,d1⟩;have d3:=Z (KO B L N M key _ w w7 HH.o HE.o (d5.o.trans d1) _ (VRow.fr a4.o d1 (fun _ _=>id)) a1.o b9.o);clear d1;go_wp2_with fail;refine(d3.o _ _ zd).mono ?_;rintro e w8 ⟨f,v1,L1,rfl,hf,hE,b3⟩;have HS:=Z b3;have f8:=Z hE;have HF:=Z hf;clear hE b3 hf;go_wp2_with fail;rw[<- HS.o.same.nb];refine(Yn e7 B L1 _ _ _ _ w8 HS.o.th (HE.o.step HS.o) f8.o).mono ?_;rintro e w9 ⟨L2,rfl,b3⟩;have g4:=Z (HS.o.trans b3);clear b3
 go_wp2
 go_ret;refine⟨f,L2,?_,by rw[<- c5.o];exact HF.o,?_⟩
 .rw[C.o];rfl
 .rw[C.o];exact g4.o):p:=h
theorem PZ(h:p:=by
 go_wp2
 go_ret;exact⟨b,L,by rw[C.o];rfl,CP _,by rw[C.o];exact NStep.nil HH.o (J.o.trans R.o)⟩):p:=h
theorem Le(h:p:=by
 go_ret;exact⟨b,L,by rw[C.o];rfl,CP _,by rw[C.o];exact NStep.nil HH.o (J.o.trans b4.o)⟩):p:=h
theorem Lf(h:p:=by
 go_wp2
 go_ret;exact⟨b,L,by rw[C.o];rfl,CP _,by rw[C.o];exact NStep.nil HH.o J.o⟩):p:=h
theorem O0(e7:zy)(B:Nat)(L:NL)(N:NM)(M:DM)(key:ByteArray)(v:Ver)(w:World)(h:NRep w L N M)(he:Ye B L M w)(a9:∀ u∈zn N.S.uR key,zW u.node)(c1:YM (zn N.S.uR key))
 (hk:N.S.uR.length<1099511627776)(c3:(zn N.S.uR key).length<1000000)(c2:zu key=true->v.value.size<=128->foreign N.tN v=true->N.uW=false->(v.ts=false->(zC (zn N.S.uR key) v).length<4)->Fit N M w.heap.size (.inr (.inl (key,Yf (zn N.S.uR key) v)))) :
 Calls prog 91 #[E L.nb 0,.string key,.agg v.cells.toArray] w fun e w'=>∃ f L',e=.returned (I (N.se M key v f).1)/\w.heap.size<=f/\NStep L M w L' (N.se M key v f).2.1 (N.se M key v f).2.2 w':=by
 have hA:=Blk.new w v.cells 37;have f0:Fr Nil w (w.alloc (.cells v.cells.toArray 37)):=(U _ _).alloc _;have HH:=Z h;have HE:=Z he;have HT:=Z c2;have g3:=Z a9;have f5:=Z c1;have X:=Z c3;clear h he c2 a9 c1 c3;have f9:aa (foreign N.tN v=true->zW v.node):=fun h=>Vj h;have c0:=Z (VB (zn N.S.uR key) v);have d9:=Z (Qb f5.o v);generalize hb:w.heap.size=b at hA;have c5:=Z hb;generalize f4:w.alloc (.cells v.cells.toArray 37)=K at hA f0;have e0:=Z f4;have HA:=Z hA;have J:=Z f0;have HR:=Z (HH.o.nil f0);have g6:K.cell? (Y L.nb 7)=some (.bool N.uW):=HR.o.td.cell 7;have g5:K.cell? (Y L.nb 2)=some (E L.sb 0):=HR.o.td.cell 2;have HI:=Z (SA L N M v K HR.o);have HV:=Z (fun j (f:Fr Nil K j)=>Wn key L.sb L.LS N.S j (HR.o.held.nil f) hk);have b5:=Z (fun j (f:Fr Nil K j)=>(HR.o.held.nil f).getE key);generalize getE L.LS.sC key=gv at HV b5;have HL:=Z (fun j (f:Fr Nil K j)=>KF gv (zn N.S.uR key) v g3.o X.o j (b5.o j f));have d6:=Z (fun(hn:zW v.node) j (f:Fr Nil K j)=>NN gv (zn N.S.uR key) v hn j (b5.o j f));have g0:aa (∃ a c,gv=.slice a (zn N.S.uR key).length c):=zf (b5.o K (U _ _));have HK:=Z (Wu key K);clear hA f0 hb f4;obtain⟨node,i,m,o,q,r,d,g⟩:=v;simp only[Ver.cells] at HA e0 HI HL d6 |-;have d8:aa (∀ j,Blk j b [I node,I i,I m,I o,I q,I r,.string d,.bool g] 37->Blk (j.setCell (Y b 6) (.string d)) b [I node,I i,I m,I o,I q,I r,.string d,.bool g] 37):=fun j h=>h.set 6 (.string d);go_enter func91,ntmps91;go_wp2_with fail;rw[e0.o,c5.o];cases hb0:zu key with
 | false =>
  rw[hb0] at HK;have s:N.se M key ⟨node,i,m,o,q,r,d,g⟩ b=(2,N,M):=by unfold NM.se;rw[Bl hb0]
  have C:=Z s;clear hb0 s;refine HK.o.mono ?_;rintro e j ⟨rfl,h2⟩;subst j;exact Lf
 | true =>
 rw[hb0] at HK;have t:=Z hb0;clear hb0;refine HK.o.mono ?_;rintro e j ⟨rfl,h2⟩;subst j;have g8:K.cell? (Y b 6)=some (.string d):=HA.o.cell 6;have g7:=HA.o.cell;by_cases hv:128<d.size
 .have s:N.se M key ⟨node,i,m,o,q,r,d,g⟩ b=(3,N,M):=by unfold NM.se;rw[CW bx,Bl hv]
  have C:=Z s;have h1:(128:Int)<(d.size:Int):=V
  clear s;exact Lf
 have h1:¬(128:Int)<(d.size:Int):=V
 cases hfo:foreign N.tN ⟨node,i,m,o,q,r,d,g⟩ with
 | false =>
  rw[hfo] at HI;have s:N.se M key ⟨node,i,m,o,q,r,d,g⟩ b=(5,N,M):=by unfold NM.se;rw[CW bx,CW hv,Bl hfo]
  have C:=Z s;clear s hfo
  go_wp2_with (refine HI.o.mono ?_;rintro e j ⟨rfl,A⟩;have b4:=Z A;clear A)
  exact Le
 | true =>
 rw[hfo] at HI;have T:=Z hfo;have a5:=Z hv;clear hfo hv;go_wp2_with fail;refine HI.o.mono ?_;rintro e j ⟨rfl,A⟩;have e3:=(HA.o.fr A id).cell;have a7:j.cell? (Y L.nb 7)=some (.bool N.uW):=(HR.o.nil A).td.cell 7;have e2:j.cell? (Y L.nb 2)=some (E L.sb 0):=(HR.o.nil A).td.cell 2;have b4:=Z A;clear A g7 g8 g6 g5;cases hr:N.uW with
 | true =>
  rw[hr] at a7;have s:N.se M key ⟨node,i,m,o,q,r,d,g⟩ b=(8,N,M):=by unfold NM.se;rw[CW bx,CW a5.o,CW (by rw[T.o];decide),Bl hr]
  have C:=Z s;clear hr s
  go_wp2
  exact Le
 | false =>
 rw[hr] at a7;have c8:=Z hr;clear hr;go_wp2_with fail;refine(HV.o j b4.o).mono ?_;rintro e w2 ⟨rfl,e8⟩;have Q:aa (Fr Nil K w2):=b4.o.trans e8;have e4:=(HA.o.fr Q.o id).cell;clear e8 e3 a7 e2;go_wp2_with fail;refine(HL.o w2 Q.o).mono ?_;rintro e w3 ⟨hv,rfl,b2,e9,b0⟩;have c7:aa (Fr Nil K w3):=Q.o.trans e9;have e5:=(HA.o.fr c7.o id).cell;have a2:=Z b2;have d7:aa (∀ k,hv.ownBlock=some k->w.heap.size<=k):=fun k hk=>CO (CO J.o.size Q.o.size) (b0 k hk);have g2:aa (∀ k,hv.ownBlock=some k->k≠b):=fun k hk e=>by have:=b0 k hk;have:=Q.o.size;have:=HA.o.lt;omega
 obtain⟨la,lc,f2⟩:=zf b2;clear e9 e4 b2 b0;generalize hL:(zC (zn N.S.uR key) ⟨node,i,m,o,q,r,d,g⟩)=l at a2 c0 d9 f2;have h0:l.length<1000000:=by have:=c0.o;have:=X.o;omega
 have h6:(zn N.S.uR key).length<1000000:=X.o;have a0:=Z hL;subst f2;clear hL;go_wp2_with fail;refine(d6.o (f9.o T.o) w3 c7.o).mono ?_;rintro e w4 ⟨rfl,d0⟩;have R:aa (Fr Nil K w4):=c7.o.trans d0;have e6:=(HA.o.fr R.o id).cell;have a3:=Z (VRow.fr a2.o d0 (fun _ _=>id));clear d0 e5 a2;have c4:∀ f,N.se M key ⟨node,i,m,o,q,r,d,g⟩ f=if (zn N.S.uR key).any (Ver.sP ⟨node,i,m,o,q,r,d,g⟩)=true then(0,N,M) else
  if g=false/\4<=l.length then(6,N,M) else if g=true/\l.length=(zn N.S.uR key).length then(0,N,M) else
  N.rk M (.inr (.inl (key,Yf (zn N.S.uR key) ⟨node,i,m,o,q,r,d,g⟩))) f:=by
  intro f;unfold NM.se;rw[CW bx,CW a5.o,CW (by rw[T.o];decide),CW (by rw[c8.o];decide),a0.o]
 have y:=Z c4;clear c4;cases hkn:(zn N.S.uR key).any (Ver.sP ⟨node,i,m,o,q,r,d,g⟩) with
 | true =>
  have s:N.se M key ⟨node,i,m,o,q,r,d,g⟩ b=(0,N,M):=by rw[y.o,Bl hkn]
  have C:=Z s;clear s hkn;exact PZ
 | false =>
 have G:=Z hkn;clear hkn;obtain⟨ga,gc,g9⟩:=g0.o;subst g9;cases g with
 | false =>
  by_cases hm:4<=l.length
  .have s:N.se M key ⟨node,i,m,o,q,r,d,false⟩ b=(6,N,M):=by rw[y.o,CW bz,Bl ⟨rfl,hm⟩]
   have C:=Z s;have b8:(4:Int)<=(l.length:Int):=V
   clear s;exact PZ
  .have b8:¬(4:Int)<=(l.length:Int):=V
   have b9:aa (Fit N M w.heap.size (.inr (.inl (key,Yf (zn N.S.uR key) ⟨node,i,m,o,q,r,d,false⟩)))):=HT.o t.o bi T.o c8.o (fun hg=>by first|(cases hg;done)|(rw[a0.o];omega));have C:aa (∀ f,N.se M key ⟨node,i,m,o,q,r,d,false⟩ f=N.rk M (.inr (.inl (key,Yf (zn N.S.uR key) ⟨node,i,m,o,q,r,d,false⟩))) f):=by
    intro f;rw[y.o,CW bz,CW (by exact fun x=>hm x.2),CW (by exact fun x=>absurd x.1 O)]
   have a8:key.size<=1000000000:=by have:=t.o;unfold zu at this;simp only[Bi] at this;omega
   have d2:=Z (fun wx=>ZQ key wx a8);have g1:=Z hm;clear a8 hm b8;have f3:d.size<=1000000000:=by have:=a5.o;omega
   have f7:=Z (ZQ d w4 f3);have h7:¬(4:Int)<=(l.length:Int):=by have:=g1.o;omega
   clear f3;go_wp2_with fail;refine f7.o.mono ?_;rintro e w5 ⟨rfl,b7⟩;have b6:=HA.o.fr (R.o.trans b7) id;have f6:=Z (d8.o w5 b6);have h5:=f6.o.cell;have h3:=b6.frozen;have h4:=b6.cell;have c9:aa (VRow (w5.setCell (Y b 6) (.string d)) (.slice la l.length lc) l):=VRow.fr (VRow.fr a3.o b7 (fun _ _=>id)) (S:=fun k=>k=b) (Fr.set (S:=fun k=>k=b) (p:=⟨b,6,none⟩) (U _ _) (fun _=>rfl) _) (fun k hk e=>g2.o k hk e);have d4:aa (Fr Nil w (w5.setCell (Y b 6) (.string d))):=(J.o.trans (R.o.trans b7)).set (p:=⟨b,6,none⟩) (fun h=>absurd h (by simp only[c5.o];omega)) _;clear b7 b6 e6;go_wp2_with fail;have e1:=Z (KJ (.slice la l.length lc) l ⟨node,i,m,o,q,r,d,false⟩ d9.o h0 _ c9.o);simp only[Ver.cells] at e1;refine e1.o.mono ?_;rintro e w6 ⟨v6,rfl,D,f1,b1⟩;have d5:=Z (d4.o.trans f1);have a4:aa (VRow w6 v6 (Yf (zn N.S.uR key) ⟨node,i,m,o,q,r,d,false⟩)):=by unfold Yf;rw[CW bG,a0.o];exact D
   have a1:aa (∀ k,v6.ownBlock=some k->w.heap.size<=k):=fun k hk=>CO d4.o.size (b1 k hk);obtain⟨a6,c6,rfl⟩:=zf D;clear D f1 b1;exact Hj
 | true =>
  by_cases hm:l.length=(zn N.S.uR key).length
  .have s:N.se M key ⟨node,i,m,o,q,r,d,true⟩ b=(0,N,M):=by rw[y.o,CW bz,CW (fun x=>absurd x.1 O),Bl ⟨rfl,hm⟩]
   have C:=Z s;have b8:((l.length:Int)==((zn N.S.uR key).length:Int))=true:=by simp[hm]
   clear s hm;exact PZ
  .have b8:((l.length:Int)==((zn N.S.uR key).length:Int))=false:=by simp;omega
   have b9:aa (Fit N M w.heap.size (.inr (.inl (key,Yf (zn N.S.uR key) ⟨node,i,m,o,q,r,d,true⟩)))):=HT.o t.o bi T.o c8.o (fun hg=>by first|(cases hg;done)|(rw[a0.o];omega));have C:aa (∀ f,N.se M key ⟨node,i,m,o,q,r,d,true⟩ f=N.rk M (.inr (.inl (key,Yf (zn N.S.uR key) ⟨node,i,m,o,q,r,d,true⟩))) f):=by
    intro f;rw[y.o,CW bz,CW (by exact fun x=>absurd x.1 O),CW (by exact fun x=>hm x.2)]
   have a8:key.size<=1000000000:=by have:=t.o;unfold zu at this;simp only[Bi] at this;omega
   have d2:=Z (fun wx=>ZQ key wx a8);clear a8 hm;have d5:aa (Fr Nil w w4):=J.o.trans R.o;have a4:aa (VRow w4 (.slice la l.length lc) (Yf (zn N.S.uR key) ⟨node,i,m,o,q,r,d,true⟩)):=by unfold Yf;rw[Bl rfl,a0.o];exact a3.o
   have a1:=d7;exact Hj
end Go.Proofs.YtkhnggkkiefcdaaGreatDoor
namespace Go.Proofs.YtkhnggkkiefcdaaGreatDoor
open Go.RowKit Go.Shelf Proofs.Tryz
set_option maxRecDepth 100000
set_option maxHeartbeats 8000000
attribute [local go_sem] ye
theorem Wd{F:Fence}{n:Nat}{P:Program}{w:World}{f:Array Oper}{rest:List Oper}{o:Oper}{a:Act}{Q:Exit->Act->World->Prop}{R:Value->World->Prop}(j:o.guard=none)(s x:Operand)(t u:TypeId)
 (k:o.op=.call {callee:=.builtin .append,args:=#[s,x],argTypes:=#[t,u]})(v l:Value)(hs:a.eval s=v)(r:a.eval x=l)
 (e:∃ b d,(Builtin.append_ #[t,u] o.type #[v,l]).run P w=.ok b d/\R b d)
 (h:∀ b d,R b d->wpListIn F n P f Q rest (a.put o.dst b) d):wpListIn F n P f Q (o::rest) a w:=by
 obtain⟨b,d,q,m⟩:=e;refine wpListIn_plain j fun K g=>?_;unfold Oper.wpIn;refine⟨?_,?_⟩
 .simp[Oper.about,k,resolve,Target.leads,Sem.run_pure]
 .rw[Oper.semAt_plain F _ _ (by rw[k];intro c i;cases i)]
  simp[execOp,k,resolve,invoke,builtin,hs,r,q,Result.andThen];exact g _ _ (h b d m)
theorem KP(b:Nat)(a:Option Addr)(n c:Nat)(w:World)(f:w.cell? (Y b 0)=some (.slice a n c)) :
 Calls prog 134 #[E b 0] w fun e d=>e=.returned (I n)/\d=w:=by
 go_enter func134,ntmps134
 go_wp2
 go_ret;exact⟨rfl,rfl⟩
theorem UT{w:World}{base:Nat}{e:TypeId}{size n:Nat}{v:Value}{c:List Value}(h:w.ownsRow base e size v n c):w.ownsRow 0 e size v n c:=by
 refine⟨h.1,?_⟩;rcases h.2 with d|⟨g,a,b,f,i,r⟩
 .exact .inl d
 .exact .inr ⟨g,a,b,f,Bg _,r⟩
theorem NP(i:Nat)(v:Value)(f:List (ByteArray × Value))(w:World)(M:w.cell? (Y i 0)=some v)(b4:i<w.heap.size)(hv:WN w v f)(L:∀ e∈f,∃ a m c,e.2=.slice a m c)(a1:f.length<1000000000) :
 Calls prog 143 #[E i 0] w fun e w'=>∃ C,e=.returned C/\w'.ownsRow 0 9 1 C f.length (strs (zA f))/\Fr Nil w w'/\(∀ k,C.ownBlock=some k->w.heap.size<=k):=by
 obtain⟨a0,c0,b8⟩:=zf hv.sL;have HL:=Z (KP i a0 f.length c0 w (by rw[M,b8]));refine(An (n:=8)).1 ?_;refine xp func143 rfl trivial ?_ rfl;simp only[ntmps143,AQ,Bh,BU,Nat.reduceAdd,Nat.reduceSub,AY,AZ,yD,ym,Ba,CZ];obtain⟨ti,tz,a4,a5,a6,a7,b6⟩:=ZK XI;have HV:=Z hv;have a9:=Z M;clear hv M
 gi_wp2_with (first
  | (refine⟨trivial,?_⟩;gi_at_call 134;refine(An.2 HL.o).mono ?_;rintro e w1 ⟨rfl,c4⟩;subst w1)
  | (gi_at_make;refine wpListIn_make_own _ rfl _ _ 91 rfl w.heap.size 9 ti tz 1 yp a4 a5 a6 .i64 .i64 f.length f.length rfl rfl rfl (by rw[a7];omega) ac (CP _) ?_;intro g r d))
 refine⟨trivial,?_⟩;refine(An.2 (SB i _)).mono ?_;rintro e w3 ⟨rfl,rfl⟩;have a3:=d.size;have bO:=vD g 91 (.slice (some (Y w.heap.size 0)) 0 f.length);have bM:=vD (g.alloc (.cells #[.slice (some (Y w.heap.size 0)) 0 f.length] 91)) 236 (E i 0);rw[yK] at bM;have t:Below w.heap.size w ((g.alloc (.cells #[.slice (some (Y w.heap.size 0)) 0 f.length] 91)).alloc (.cells #[E i 0] 236)) :=
  ((Below.grown (uu _ w) d (CP _) (fun k e=>by cases e)).alloc a3 _).alloc ar _
 have s:=(r.alloc (.cells #[.slice (some (Y w.heap.size 0)) 0 f.length] 91)).alloc (.cells #[E i 0] 236);generalize J:(g.alloc (.cells #[.slice (some (Y w.heap.size 0)) 0 f.length] 91)).alloc (.cells #[E i 0] 236)=W0 at t s bM;have c3:W0.heap.size=g.heap.size+2:=by rw[<- J];simp
 have b0:Boxed W0 g.heap.size 91 (.slice (some (Y w.heap.size 0)) 0 f.length):=by rw[<- J];exact bO.alloc _
 clear J bO d r
 gi_wp2_with fail
 refine wpIn_rangeFunc_ownF rfl O (gf:=217) (lb:=#[E (g.heap.size+1) 0]) rfl trivial (wF ur bI rfl)
  (KM Fence.wide 7 trivial rfl O (g.heap.size+1) i v f (fun k=>k<w.heap.size\/k=g.heap.size+1) W0 V (fun k o=>V) V V (fun k o=>.inl (zF HV.o.sL o)) L bM.cell ((t.cell (p:=⟨i,0,none⟩) b4).trans a9.o) (ze HV.o.sL (Fr.rQ (S:=Nil) t) (fun _ _=>id)))
  KpX.trans (KpX.put (fun k o=>V)) (uu _ _) (fun _=>rfl)
  (fun pre W=>(∃ C,Boxed W g.heap.size 91 C/\W.ownsRow w.heap.size 9 1 C pre.length (strs (pre.map Prod.fst))/\True)/\Below w.heap.size w W/\W0.heap.size<=W.heap.size/\Boxed W (g.heap.size+1) 236 (E i 0))
  (fun _ _ _=>False)
  (vM (Own.from (holdsRow_own w.heap.size g.heap.size 91 9 1 (fun pre:List (ByteArray × Value)=>pre.length) (fun pre=>strs (pre.map Prod.fst)) (fun _ _=>True)) _) (vM (ownFrom_below V V) (vM (fun _ A B row hs hg _=>CO hs hg.size) (Own.from (boxed_own _ _ _) _))))
  (fun _ _ _ _ _ hs _ _=>hs)
  ⟨⟨_,b0,s,trivial⟩,t,CP _,bM⟩
  (fun x=>{tmps:=#[E i 0,undef,.slice none 0 0,E g.heap.size 0,.string x.1,E i 0,I f.length,.slice (some (Y w.heap.size 0)) 0 f.length,E i 0,.func (.func 217) #[] #[E (g.heap.size+1) 0],.string x.1,x.2,undef,undef,undef,undef,undef],defers:=[]}) ?assign ?body ?done ?stop
 case assign =>
  intro l x W K X
  gi_wp2
  exact X
 case body =>
  rintro l pre x W ⟨⟨C,Q,b,_⟩,T,a2,y⟩ a1;have hc:=Q.cell;have hf:=Q.frozen;have b3:pre.length<1000000000:=V
  gi_wp2_with (gi_at_builtin;go_must (refine vy _ rfl _ _ 91 rfl w.heap.size 9 ti tz 1 16 yp a4 a5 a6 a7 b6 O _ _ _ rfl (b.alloc _) ⟨W.heap.size,0,none⟩ 1 1 [.string x.1] rfl rfl (ui _ _ _) aA ac V (by have:=T.size;simp;omega) ?_;intro v1 w1 q j _;obtain⟨g',R,rfl⟩:=uM q;obtain⟨a8,b7,b5,b2,u⟩:=Q.appended O b T.size V q j;have b9:=j.block (g.heap.size+1) ar (y.not_row O b);have c1:=a8.cell;have c2:=a8.frozen))
  have G:Boxed (w1.setCell (Y g.heap.size 0) (.slice (some (Y g' 0)) (pre.length+1) R)) (g.heap.size+1) 236 (E i 0):=Boxed.other (show Boxed w1 _ _ _ from b9.trans ((y.alloc _))) V _;refine⟨b2,⟨fun k o=>?_,u.size⟩,⟨_,b7,by simpa [strs] using b5,trivial⟩,T.trans u,CO a2 u.size,G⟩;rcases o with o|o
  .exact u.block k o
  .subst o
   exact Eq.trans (show _=_ from G) (Eq.symm (show _=_ from y))
 case done =>
  rintro D ys W hD rfl ⟨⟨C,Q,b,_⟩,T,a2,y⟩ X;have hc:=Q.cell
  gi_wp2_with fail
  refine⟨bG,.inl ⟨_,_,rfl,wo X,?_⟩⟩;have b1:Below w.heap.size w (W.putObj D (.deferred none)):=T.trans (belowK_b (w:=w) (CP _) W D _ _ V X rfl rfl);have N:=ownsRow_putObj b (.deferred none) X rfl;refine⟨_,uF rfl _ _ _,_,rfl,UT (base:=w.heap.size) ?_,Fr.rQ b1,?_⟩
  .exact N
  .exact(fun k o=>(b.lt k o).1:∀ k,C.ownBlock=some k->w.heap.size<=k)
 case stop =>
  rintro D c pre W _ _ h _;exact h.elim
theorem NQ(b:Nat)(L:SL)(S:SM)(w:World)(h:SRep w b L S)(g:S.uR.length<1000000000) :
 Calls prog 92 #[E b 0] w fun e i=>∃ f,e=.returned f/\i.ownsRow 0 9 1 f S.uR.length (strs (S.uR.map Prod.fst))/\Fr Nil w i/\(∀ k,f.ownBlock=some k->w.heap.size<=k):=by
 have d:L.sC.length=S.uR.length:=h.rq.length;have m:=Z (NP b L.kv L.sC w (h.td.cell 0) h.td.lt h.qi (fun e s=>by obtain⟨l,u⟩:=h.rq.mem e s;obtain⟨a,c,t⟩:=zf u;exact⟨a,_,c,t⟩) V);have j:=Z h.rq.uR;have o:=Z d;clear h d;go_enter func92,ntmps92
 go_wp2_with (refine m.o.mono ?_;rintro e v ⟨f,rfl,p,q,r⟩)
 go_ret;exact⟨f,rfl,by rw[<- o.o,<- j.o];exact p,q,r⟩
theorem SD(L:NL)(N:NM)(M:DM)(w:World)(h:NRep w L N M)(b:N.S.uR.length<1000000000) :
 Calls prog 44 #[E L.nb 0] w fun e d=>∃ c,e=.returned c/\d.ownsRow 0 9 1 c N.S.uR.length (strs (N.S.uR.map Prod.fst))/\Fr Nil w d/\(∀ k,c.ownBlock=some k->w.heap.size<=k):=by
 have l:w.cell? (Y L.nb 2)=some (E L.sb 0):=h.td.cell 2;have f:=Z (NQ L.sb L.LS N.S w h.held b);clear h;go_enter func44,ntmps44
 go_wp2_with (refine f.o.mono ?_;rintro e m ⟨c,rfl,g,i,j⟩)
 go_ret;exact⟨c,rfl,g,i,j⟩
end Go.Proofs.YtkhnggkkiefcdaaGreatDoor
namespace Go.Proofs.YtkhnggkkiefcdaaGreatDoor
open Go.RowKit Proofs.Tryz
set_option maxRecDepth 100000
set_option maxHeartbeats 8000000
variable{K:Nat->Prop}{c:List (ByteArray × Value)}{p:Prop}
theorem O1{K:Keys}{key:ByteArray}(i:Nat)(d:i<K.length)(b:∀ j (a:j<K.length),j<i->(K[j].1==key)=false)(c:(K[i].1==key)=true):zJ K key=K[i].2:=by
 unfold zJ;have:K.find? (fun e=>e.1==key)=some K[i]:=by
  rw[List.find?_eq_some_iff_getElem];exact⟨c,i,d,rfl,fun j a=>by simp[b j V a]⟩
 rw[this]
theorem FH{K:Keys}{key:ByteArray}(b:∀ j (a:j<K.length),(K[j].1==key)=false):zJ K key=[]:=by
 unfold zJ;have:K.find? (fun e=>e.1==key)=none:=by
  rw[yY];intro x c;obtain⟨j,a,rfl⟩:=AP c;simp[b j a]
 rw[this]
theorem Pair.key{R:Value->List Ver->Prop}{d:List (ByteArray × Value)}{c:Keys}(h:Pair R d c)(i:Nat)(g:i<d.length)(o:i<c.length):d[i].1=c[i].1:=by
 have:=h.uR;have e:(d.map Prod.fst)[i]'(by simpa using g)=d[i].1:=BB ..;have f:(c.map Prod.fst)[i]'(by simpa using o)=c[i].1:=BB ..;rw[<- e,<- f]
 congr 1
theorem Yx(p:Nat)(Q r:Value)(b:List (ByteArray × Value))(m:LM)(key:ByteArray)(w:World)(h:MAt w p Q r b m) :
 Calls prog 117 #[E p 0,.string key] w fun e R=>∃ v,e=.returned v/\VRow w v (zJ m.uR key)/\(∀ k,v.ownBlock=some k->MBlk p Q r b k)/\R=w:=by
 have G:b.length=m.uR.length:=h.rq.length;have hn:=zH h.qi;unfold maxLen at hn;have X:w.cell? (Y p 1)=some Q:=h.td.cell 1;obtain⟨a,cap,rfl⟩:=zf h.qi;have A:=Z h;have B:=Z G;clear h G;go_enter func117,ntmps117;go_wp2_with fail
 go_loopw [5] (fun t R=>∃ i:Nat,i<=b.length/\t=I i/\(∀ j (q:j<m.uR.length),j<i->(m.uR[j].1==key)=false)/\R=w) (fun t _=>b.length-(intOf t).toNat)
 case atStart=>exact⟨0,Bg _,rfl,fun j _ q=>absurd q (BF _),rfl⟩
 case round =>
  obtain⟨i,hi,rfl,q,hw⟩:=hrel;subst hw;by_cases o:i<b.length
  .obtain⟨g,cap',hg,_,_⟩:=zl A.o.qi V
   obtain⟨rfl,rfl⟩:a=some (Y g 0)/\cap=cap':=by simpa using hg
   have y:i<m.uR.length:=by have:=B.o;omega
   have M:=own_cell? A.o.qi (i*2) _ (Z8 b i o).1;have C:=own_cell? A.o.qi (i*2+1) _ (Z8 b i o).2;have l:b[i].1=m.uR[i].1:=A.o.rq.key i o y;have d:VRow wr b[i].2 m.uR[i].2:=A.o.rq.get i o y;have f:∀ k,b[i].2.ownBlock=some k->MBlk p (.slice (some (Y g 0)) b.length cap) r b k:=fun k e=>.inr (.inr (.inr ⟨b[i],CU o,e⟩));rw[l] at M;obtain⟨ra,rc,c⟩:=zf d;have J:=yQ m.uR[i].1 key;cases hm:(m.uR[i].1==key) with
   | true =>
    have N:(m.uR[i].1.toList==key.toList)=true:=by rw[<- J];exact hm
    have r:=O1 i y q hm;have L:=Z r;have u:=Z d;have s:=Z f;rw[c] at C u s;clear J hm q r d f l c hg
    go_wp2
    go_ret;exact⟨_,rfl,by rw[L.o];exact u.o,s.o,rfl⟩
   | false =>
    have N:(m.uR[i].1.toList==key.toList)=false:=by rw[<- J];exact hm
    have D:∀ j (q:j<m.uR.length),j<i+1->(m.uR[j].1==key)=false:=by
     intro j x a0;by_cases e:j=i
     .subst e;exact hm
     .exact q j x V
    have T:=Z D;clear J hm q D d f l c hg C
    go_wp2
    exact⟨⟨i+1,V,by go_num,T.o,by first|rfl|trivial⟩,by simp[intOf];omega⟩
  .have r:=FH (K:=m.uR) (key:=key) (fun j x=>q j x (by have:=B.o;omega))
   have L:=Z r;clear q r
   go_wp2
   go_ret;exact⟨_,rfl,by rw[L.o];exact Bf _ 0 _ _,fun k hk=>by simp[Value.ownBlock] at hk,rfl⟩
theorem D8:((prog.info? 186).map fun i=>(i.zero.map (·.cells.size),i.size,i.bytes))=some (some 2,2,40):=bI
theorem Tc(w:World)(v:Value)(n:Nat)(q:List Value)(h:w.ownsRow 0 186 2 v n q)(key:ByteArray)(a:Option Addr)(l c:Nat)(A:n<1000000000)(m:World)(o:Fr Nil w m)(N:Nat)(t:Blk m N [.string key,.slice a l c] 186)(ty:TypeId) :
 ∃ d f,(Builtin.append_ #[105,105] ty #[v,.slice (some (Y N 0)) 1 1]).run prog m=.ok d f /\
  (f.ownsRow 0 186 2 d (n+1) (q++[.string key,.slice a l c])/\Fr (fun k=>v.ownBlock=some k) w f/\(∀ k,d.ownBlock=some k->v.ownBlock=some k\/w.heap.size<=k)):=by
 have x:=ze h o (fun _ _=>id);obtain⟨d,f,y,r,s,b⟩:=zq (P:=prog) 105 ty 186 2 40 underlying105 D8 V v n q x ⟨N,0,none⟩ 1 1 [.string key,.slice a l c] rfl
  (fun j u g=>by rw[BO,BQ,t.cell];exact g) (by intro u g;simp at g;rcases g with rfl|rfl <;> rfl) ac V
 refine⟨d,f,y,r,(o.mono (fun _ _ e=>absurd e id)).tk ((Fr.sB s).mono (fun i _ h=>h)) (fun i _ h=>h),fun k p=>?_⟩;rcases b with b|b
 .exact .inl (by rw[<- b];exact p)
 .rw[b] at p;simp at p;have:=o.size;exact .inr V
structure Xj(w w':World)(nb:Nat)(hv:Value)(node:Int)(K:Keys)(P:Nat->Prop):Prop where
 ex:∃ kv sC,Blk w' nb [I node,kv,hv] 107/\w'.ownsRow 0 186 2 kv sC.length (Z3 sC)/\Pair (VRow w') sC K/\(∀ k,kv.ownBlock=some k->w.heap.size<=k)/\(∀ e∈sC,∀ k,e.2.ownBlock=some k->P k)
 fr:Fr Nil w w'
 le:w.heap.size<=nb
theorem KQ(l:List (ByteArray × Value))(k:ByteArray)(x:Value):Z3 (l++[(k,x)])=Z3 l++[.string k,x]:=by rw[Zx];rfl
theorem Xj.nG{w wr w4:World}{g:Nat}{o:Value}{node:Int}{K:Keys}{P:Nat->Prop}(L:Fr Nil w wr)(B:w.heap.size<=g){r d:Value}
 (y:Blk wr g [I node,r,o] 107)(M:wr.ownsRow 0 186 2 r c.length (Z3 c))(X:Pair (VRow wr) c K)(j:∀ k,r.ownBlock=some k->w.heap.size<=k)(Q:∀ e∈c,∀ k,e.2.ownBlock=some k->P k)
 {key:ByteArray}{x:Value}{N:List Ver}(J:w4.ownsRow 0 186 2 d (c.length+1) (Z3 c++[.string key,x]))(t:Fr (fun b=>r.ownBlock=some b) wr w4)(T:∀ b,d.ownBlock=some b->r.ownBlock=some b\/wr.heap.size<=b)
 (hx:VRow wr x N)(D:∀ b,x.ownBlock=some b->P b):Xj w (w4.setCell (Y g 1) d) g o node (K++[(key,N)]) P:=by
 have C:r.ownBlock≠some g:=zh M y O;have s:Blk w4 g _ _:=y.fr t C;have u:Fr (fun k=>k=g) w4 (w4.setCell (Y g 1) d):=Fr.set (S:=fun k=>k=g) (p:=⟨g,1,none⟩) (U _ _) (fun _=>rfl) _;have l:∀ v (G:List Ver),VRow wr v G->VRow (w4.setCell (Y g 1) d) v G:=fun v G o=>VRow.fr (VRow.fr o t (fun k j e=>Zf o M O j e)) u (fun k j e=>by subst e;exact zh o y O j);refine⟨⟨d,c++[(key,x)],s.set 1 d,?_,?_,?_,?_⟩,?_,B⟩
 .rw[KQ,CN,CQ]
  exact ze J u (fun k j e=>by subst e;exact zh J s O j)
 .exact Pair.append (X.mono fun a _ l' A=>l _ _ A) ⟨rfl,l _ _ hx,trivial⟩
 .intro k hk'
  exact(T k hk').elim (j k) (fun h=>CO L.size h)
 .intro e f k hk'
  rcases CV.1 f with f|f
  .exact Q e f k hk'
  .simp at f;subst f;exact D k hk'
 .exact((L.tk t (fun i R e=>by have:=j i e;omega)).tk u (fun i R e=>V))
theorem EA(h:p:=by
 obtain⟨⟨e8,e1,j,r,B,a4,a0⟩,a2,v⟩:=y;have b5:e1.length<1000000000:=by have:=B.length;omega
 obtain⟨a1,c1,c0⟩:=zf r;subst c0;have d5:=j.cell;have d9:=j.frozen;have a9:aa (∀ w4:World,Fr (fun k=>(Value.slice a1 e1.length c1).ownBlock=some k) wr w4->Blk w4 nb [I m.node,.slice a1 e1.length c1,hv] 107):=fun w4 f=>j.fr f (zh r j O);have a6:=Z j;have R:=Z r;have b4:=Z B;have a7:=Z a4;have b0:=Z a0;have q:=Z a2;have L:=Z v;clear j r B a4 a0 a2 v;go_wp2_with fail;have g2:∀ (C:Obj) k,(wr.alloc C).cell? (Y nb k)=[I m.node,.slice a1 e1.length c1,hv][k]?:=fun C k=>(a6.o.alloc C).cell k;have g5:∀ (C:Obj),(wr.alloc C).cell? (Y p 1)=some (.slice (some (Y g 0)) c.length kc):=fun C=>by have:=c6.o _ (q.o.alloc C);rw[T] at this;exact this
 have g3:∀ (C:Obj),(wr.alloc C).cell? (Y g (i*2))=some (.string G):=fun C=>M.o _ (q.o.alloc C);have g4:∀ (C:Obj),(wr.alloc C).cell? (Y g (i*2+1))=some (.slice ra X.length rc):=fun C=>N.o _ (q.o.alloc C);have b7:=Z (D.o _ q.o)
 go_region_law
  ((refine Zw bH _ _ _ _ bH _ _ bH bH (Tc wr _ _ _ R.o G ra X.length rc b5 _ zd _ aC _) ?_;rintro v4 w4 ⟨A,u,a5⟩;obtain⟨e0,e2,c2⟩:=zf A;subst c2;have S:=a9.o _ u;have d4:=S.cell;have d8:=S.frozen;have b3:=Z A;have b2:=Z a5;have b1:=Z u;clear A a5 u))
 all_goals
  go_wp2
  have o:=Xj.nG q.o L.o a6.o R.o b4.o a7.o b0.o b3.o b1.o b2.o b7.o (fun b e=>.inl (c3.o b e));exact⟨⟨i+1,V,by go_num,by rw[d.o,s.o],by rw[d.o,s.o];exact o,by rw[d.o,s.o];simp only[CN,CQ];omega⟩,by simp[intOf];omega⟩):p:=h
theorem D9(h:p:=by
 have f9:(J++[(key,l)]).length<=2*i+1:=by simp;omega
 generalize J++[(key,l)]=h0 at o f9 s;clear a8 f2 f3 d5 d9 a9 a6 R b4 a7 b0 q L b3 b2 b1 S d4 d8 b5 c7 d0 d1;generalize w4.setCell (Y nb 1) (.slice e0 (e1.length+1) e2)=w5 at o |-;have c7:=c6.o w5 o.fr;rw[T] at c7;simp only[AK,Ax] at c7;have d0:=M.o w5 o.fr;have d1:=N.o w5 o.fr;have y:=o;clear o;obtain⟨⟨e8,e1,j,r,B,a4,a0⟩,a2,v⟩:=y;have b5:e1.length<1000000000:=by have:=B.length;omega
 obtain⟨a1,c1,c0⟩:=zf r;subst c0;have d5:=j.cell;have d9:=j.frozen;have a9:aa (∀ w4:World,Fr (fun k=>(Value.slice a1 e1.length c1).ownBlock=some k) w5 w4->Blk w4 nb [I m.node,.slice a1 e1.length c1,hv] 107):=fun w4 f=>j.fr f (zh r j O);have a6:=Z j;have R:=Z r;have b4:=Z B;have a7:=Z a4;have b0:=Z a0;have q:=Z a2;have L:=Z v;clear j r B a4 a0 a2 v;have g2:∀ (C:Obj) k,(w5.alloc C).cell? (Y nb k)=[I m.node,.slice a1 e1.length c1,hv][k]?:=fun C k=>(a6.o.alloc C).cell k;have g5:∀ (C:Obj),(w5.alloc C).cell? (Y p 1)=some (.slice (some (Y g 0)) c.length kc):=fun C=>by have:=c6.o _ (q.o.alloc C);rw[T] at this;exact this
 have g3:∀ (C:Obj),(w5.alloc C).cell? (Y g (i*2))=some (.string G):=fun C=>M.o _ (q.o.alloc C);have g4:∀ (C:Obj),(w5.alloc C).cell? (Y g (i*2+1))=some (.slice ra X.length rc):=fun C=>N.o _ (q.o.alloc C);have b7:=Z (D.o _ q.o)
 go_region_law
  ((refine Zw bH _ _ _ _ bH _ _ bH bH (Tc w5 _ _ _ R.o G ra X.length rc b5 _ zd _ aC _) ?_;rintro v4 w4 ⟨A,u,a5⟩;obtain⟨e0,e2,c2⟩:=zf A;subst c2;have S:=a9.o _ u;have d4:=S.cell;have d8:=S.frozen;have b3:=Z A;have b2:=Z a5;have b1:=Z u;clear A a5 u))
 all_goals
  go_wp2
  have o:=Xj.nG q.o L.o a6.o R.o b4.o a7.o b0.o b3.o b1.o b2.o b7.o (fun b e=>.inl (c3.o b e));exact⟨⟨i+1,V,by go_num,by rw[d.o,s.o],by rw[d.o,s.o];exact o,by rw[d.o,s.o];simp only[CN,CQ];omega⟩,by simp[intOf];omega⟩):p:=h
theorem Da(h:p:=by
 have c9:=Z o;clear o;exact⟨⟨i+1,V,by go_num,by rw[d.o,s.o],by rw[d.o,s.o];exact c9.o,by rw[d.o,s.o];simp only[CN,CQ];omega⟩,by simp[intOf];omega⟩):p:=h
theorem Lh(h:p:=by
 clear x hb b8;obtain⟨⟨e8,e1,j,r,B,a4,a0⟩,a2,v⟩:=y;have b5:e1.length<1000000000:=by have:=B.length;omega
 obtain⟨a1,c1,c0⟩:=zf r;subst c0;have d5:=j.cell;have d9:=j.frozen;have a9:aa (∀ w4:World,Fr (fun k=>(Value.slice a1 e1.length c1).ownBlock=some k) wr w4->Blk w4 nb [I m.node,.slice a1 e1.length c1,hv] 107):=fun w4 f=>j.fr f (zh r j O);have a6:=Z j;have R:=Z r;have b4:=Z B;have a7:=Z a4;have b0:=Z a0;have q:=Z a2;have L:=Z v;clear j r B a4 a0 a2 v
 go_wp2_with (at_builtin;go_must (refine zm rfl _ _ _ _ rfl _ _ bH bH (Tc wr _ _ _ R.o key la l.length lc b5 _ zd _ aL _) ?_;rintro v4 w4 ⟨A,u,a5⟩;obtain⟨e0,e2,c2⟩:=zf A;subst c2;have S:=a9.o _ u;have d4:=S.cell;have d8:=S.frozen;have b3:=Z A;have b2:=Z a5;have b1:=Z u;have b9:=q.o.tk u (fun k hk e=>by have:=a7.o k e;omega);have a8:=c6.o w4 b9;rw[T] at a8;simp only[AK,Ax] at a8;have f2:=M.o w4 b9;have f3:=N.o w4 b9;clear A a5 u b9))
 have o:=Xj.nG q.o L.o a6.o R.o b4.o a7.o b0.o b3.o b1.o b2.o (VRow.fr HL.o q.o (fun _ _=>id)) (fun b e=>.inr e)
 first
  | (clear g8;exact Da)
  | exact D9):p:=h
theorem NR(p:Nat)(kv hv:Value)(c:List (ByteArray × Value))(m:LM)(key:ByteArray)(lv:Value)(l:List Ver)(w:World)(h:MAt w p kv hv c m)(hl:VRow w lv l)(g9:c.length<100000000) :
 Calls prog 157 #[E p 0,.string key,lv] w fun e w' =>
  ∃ nb,e=.returned (E nb 0)/\Xj w w' nb hv m.node (Z4 m.uR key l) (fun k=>MBlk p kv hv c k\/lv.ownBlock=some k):=by
 obtain⟨la,lc,g6⟩:=zf hl;obtain⟨ka,kc,T⟩:=zf h.qi;obtain⟨ha,hc,f6⟩:=zf h.sE;have f4:=h.td.cell;rw[T,f6] at f4;have HH:=Z h;have HL:=Z hl;have f7:c.length=m.uR.length:=h.rq.length;have f1:=Z f7;subst g6;have hb:=Blk.new w [I m.node,.slice none 0 0,.slice ha m.uU.length hc] 107;have f0:Fr Nil w (w.alloc (.cells #[I m.node,.slice none 0 0,.slice ha m.uU.length hc] 107)).drew:=((U _ _).alloc _).drew;have HW:aa (Xj w (w.alloc (.cells #[I m.node,.slice none 0 0,.slice ha m.uU.length hc] 107)).drew w.heap.size hv m.node [] (fun k=>MBlk p kv hv c k\/(Value.slice la l.length lc).ownBlock=some k)) :=
  ⟨⟨.slice none 0 0,[],by rw[f6];exact hb.drew,Bf _ 0 _ _,trivial,fun k hk=>by simp[Value.ownBlock] at hk,fun e he=>by cases he⟩,f0,CP _⟩
 have c6:=Z (fun wx (f:Fr Nil w wx)=>(HH.o.nil f).td.cell 1);have f5:((l.length:Int)==0)=l.isEmpty:=by cases l with|nil=>rfl|cons a t=>simp;omega
 have e9:=Z f5;go_enter func157,ntmps157;go_wp2_with fail;clear h hl f7
 go_region
 have g0:=Z f0;generalize (w.alloc (.cells #[I m.node,.slice none 0 0,.slice ha m.uU.length hc] 107)).drew=wb at HW g0 |-;generalize f8:w.heap.size=nb at HW |-;have e4:=Z f8;clear hb f0 f8 f4;go_wp2_with fail
 go_loopw [8,9] (fun t8 t9 w'=>∃ i:Nat,i<=c.length/\t9=I i/\t8=.bool ((m.uR.take i).foldl (zB key l) ([],l.isEmpty)).2/\Xj w w' nb hv m.node ((m.uR.take i).foldl (zB key l) ([],l.isEmpty)).1 (fun k=>MBlk p kv hv c k\/(Value.slice la l.length lc).ownBlock=some k)/\((m.uR.take i).foldl (zB key l) ([],l.isEmpty)).1.length<=2*i) (fun _ t9 _=>c.length-(intOf t9).toNat)
 case atStart=>exact⟨0,Bg _,rfl,by first|rfl|(rw[<- e9.o];rfl),HW.o,bG⟩
 case round =>
  obtain⟨i,hi,rfl,rfl,y,d3⟩:=hrel;have c7:=c6.o wr y.fr;rw[T] at c7;simp only[AK,Ax] at c7;by_cases b6:i<c.length
  .obtain⟨g,cap',hg,_,_⟩:=zl HH.o.qi V
   have d7:i<m.uR.length:=by have:=f1.o;omega
   have e6:=HH.o.nil y.fr;rw[T] at hg;obtain⟨rfl,rfl⟩:ka=some (Y g 0)/\kc=cap':=by simpa using hg
   have c4:=e6.qi;rw[T] at c4;have d0:=own_cell? c4 (i*2) _ (Z8 c i b6).1;have d1:=own_cell? c4 (i*2+1) _ (Z8 c i b6).2;have d2:c[i].1=m.uR[i].1:=HH.o.rq.key i b6 d7;have c5:VRow wr c[i].2 m.uR[i].2:=e6.rq.get i b6 d7;rw[d2] at d0;obtain⟨ra,rc,a3⟩:=zf c5;rw[a3] at d1 c5;have c3:aa (∀ k,(Value.slice ra m.uR[i].2.length rc).ownBlock=some k->MBlk p kv hv c k):=by rw[<- a3];exact fun k e=>.inr (.inr (.inr ⟨c[i],CU b6,e⟩))
   have e3:=Z c5;have d:aa ((m.uR.take (i+1)).foldl (zB key l) ([],l.isEmpty)=zB key l ((m.uR.take i).foldl (zB key l) ([],l.isEmpty)) m.uR[i]):=by
    rw[Bp d7,BM];rfl
   have g7:p≠nb:=fun e=>by have:=HH.o.td.lt;have:=e4.o;omega
   have h3:g≠nb:=fun e=>by have:=HH.o.lt g (.inr (.inl (by rw[T];rfl)));have:=e4.o;omega
   have M:∀ wx,Fr Nil w wx->wx.cell? (Y g (i*2))=some (.string m.uR[i].1):=fun wx f=>by
    have h1:=(HH.o.nil f).qi;rw[T] at h1;have h2:=own_cell? h1 (i*2) _ (Z8 c i b6).1;rw[d2] at h2;exact h2
   have N:∀ wx,Fr Nil w wx->wx.cell? (Y g (i*2+1))=some (.slice ra m.uR[i].2.length rc):=fun wx f=>by
    have h1:=(HH.o.nil f).qi;rw[T] at h1;have h2:=own_cell? h1 (i*2+1) _ (Z8 c i b6).2;rw[a3] at h2;exact h2
   have D:∀ wx,Fr Nil w wx->VRow wx (.slice ra m.uR[i].2.length rc) m.uR[i].2:=fun wx f=>by
    have h1:=(HH.o.nil f).rq.get i b6 d7;rw[a3] at h1;exact h1
   have D:=Z D;have M:=Z M;have N:=Z N;clear c5 a3 d2 c4 e6;generalize (m.uR.take i).foldl (zB key l) ([],l.isEmpty)=st at y d3 d |-;generalize m.uR[i]=K at d0 d1 M N D d e3 c3;obtain⟨J,done⟩:=st;obtain⟨G,X⟩:=K;simp only at y d3 d0 d1 M N D e3 c3 |-;have b8:=yQ G key;cases done with
   | false =>
    cases hb:zi G key with
    | false =>
     have g1:Op.bytesLess G.toList key.toList=false:=hb;by_cases x:G=key
     .have d6:(G.toList==key.toList)=true:=by rw[x];simp
      have s:aa (zB key l (J,false) (G,X)=(J++[(key,l)],true)):=Z (by subst x;simp[zB,hb]);have g8:=0;exact Lh
     .have d6:(G.toList==key.toList)=false:=by rw[<- b8];cases h:(G==key) with|false=>rfl|true=>exact absurd (zY.1 h) x
      have s:aa (zB key l (J,false) (G,X)=(J++[(key,l)]++[(G,X)],true)):=Z (by simp[zB,hb,x]);exact Lh
    | true =>
     have g1:Op.bytesLess G.toList key.toList=true:=hb;have x:G≠key:=ZH hb;have d6:(G.toList==key.toList)=false:=by rw[<- b8];cases h:(G==key) with|false=>rfl|true=>exact absurd (zY.1 h) x
     have s:aa (zB key l (J,false) (G,X)=(J++[(G,X)],false)):=Z (by simp[zB,hb,x]);clear x hb b8;exact EA
   | true =>
    by_cases x:G=key
    .have d6:(G.toList==key.toList)=true:=by rw[x];simp
     have s:aa (zB key l (J,true) (G,X)=(J,true)):=Z (by simp[zB,x]);have e5:=Z y;clear x b8 y
     go_wp2
     exact⟨⟨i+1,V,by go_num,by rw[d.o,s.o],by rw[d.o,s.o];exact e5.o,by rw[d.o,s.o];simp only;omega⟩,by simp[intOf];omega⟩
    .have d6:(G.toList==key.toList)=false:=by rw[<- b8];cases h:(G==key) with|false=>rfl|true=>exact absurd (zY.1 h) x
     have s:aa (zB key l (J,true) (G,X)=(J++[(G,X)],true)):=Z (by simp[zB,x]);clear x b8;exact EA
  .obtain rfl:i=c.length:=V
   have e7:m.uR.take c.length=m.uR:=by rw[f1.o,Bj]
   rw[e7] at y d3 |-;have Q:Z4 m.uR key l=(m.uR.foldl (zB key l) ([],l.isEmpty)).1++if (m.uR.foldl (zB key l) ([],l.isEmpty)).2=true then [] else [(key,l)]:=rfl
   generalize m.uR.foldl (zB key l) ([],l.isEmpty)=st at y d3 Q |-;obtain⟨J,done⟩:=st;simp only at y d3 Q |-;cases done with
   | true =>
    have e5:=Z y;simp only[Ad,Bz] at Q;have c8:=Z Q;clear y Q e7
    go_wp2
    go_ret;exact⟨nb,rfl,by rw[c8.o];exact e5.o⟩
   | false =>
    simp only[Av,Aa] at Q;have c8:=Z Q;have g7:p≠nb:=fun e=>by have:=HH.o.td.lt;have:=e4.o;omega
    clear Q e7;obtain⟨⟨e8,e1,j,r,B,a4,a0⟩,a2,v⟩:=y;have b5:e1.length<1000000000:=by have:=B.length;omega
    obtain⟨a1,c1,c0⟩:=zf r;subst c0;have d5:=j.cell;have d9:=j.frozen;have a9:aa (∀ w4:World,Fr (fun k=>(Value.slice a1 e1.length c1).ownBlock=some k) wr w4->Blk w4 nb [I m.node,.slice a1 e1.length c1,hv] 107):=fun w4 f=>j.fr f (zh r j O);have a6:=Z j;have R:=Z r;have b4:=Z B;have a7:=Z a4;have b0:=Z a0;have q:=Z a2;have L:=Z v;clear j r B a4 a0 a2 v
    go_wp2_with (at_builtin;go_must (refine zm rfl _ _ _ _ rfl _ _ bH bH (Tc wr _ _ _ R.o key la l.length lc b5 _ zd _ aL _) ?_;rintro v4 w4 ⟨A,u,a5⟩;obtain⟨e0,e2,c2⟩:=zf A;subst c2;have S:=a9.o _ u;have d4:=S.cell;have d8:=S.frozen;have b3:=Z A;have b2:=Z a5;have b1:=Z u;have b9:=q.o.tk u (fun k hk e=>by have:=a7.o k e;omega);have a8:=c6.o w4 b9;rw[T] at a8;simp only[AK,Ax] at a8;clear A a5 u b9))
    have o:=Xj.nG q.o L.o a6.o R.o b4.o a7.o b0.o b3.o b1.o b2.o (VRow.fr HL.o q.o (fun _ _=>id)) (fun b e=>.inr e);have c9:=Z o;clear o;go_ret;exact⟨nb,rfl,by rw[c8.o];exact c9.o⟩
def KGr(K:Nat->Prop)(w a:World)(k:Nat):Prop:=K k\/(w.heap.size<=k/\k<a.heap.size)
theorem Xj.th{w w':World}{p C:Nat}{s j:Value}{m:LM}{B:Value}{u:Keys}(h:MAt w p s j c m)(A:∀ k,MBlk p s j c k->K k)(r:∀ k,B.ownBlock=some k->K k)
 (X:Xj w w' C j m.node u (fun k=>MBlk p s j c k\/B.ownBlock=some k)):MRep (KGr K w w') w' C {m with uR:=u}:=by
 obtain⟨⟨t,g,x,y,D,G,Q⟩,T,o⟩:=X;refine⟨t,j,g,⟨x,y,D,ze h.sE T (fun _ _=>id)⟩,fun k l=>?_⟩;rcases l with rfl|e|e|⟨a,R,e⟩
 .exact .inr ⟨o,x.lt⟩
 .exact .inr ⟨G k e,zF y e⟩
 .exact .inl (A k (.inr (.inr (.inl e))))
 .exact .inl ((Q a R k e).elim (A k) (r k))
theorem KGr.trans{a b c:World}{k:Nat}(h:KGr (KGr K a b) b c k)(g:a.heap.size<=b.heap.size)(o:b.heap.size<=c.heap.size):KGr K a c k:=by
 rcases h with(h|⟨h,e⟩)|⟨h,e⟩
 .exact .inl h
 .exact .inr ⟨h,V⟩
 .exact .inr ⟨V,e⟩
theorem MRep.nil{w d:World}{p:Nat}{m:LM}(h:MRep K w p m)(f:Fr Nil w d):MRep (KGr K w d) d p m:=by
 obtain⟨s,r,c,e,g⟩:=h;exact⟨s,r,c,e.nil f,fun k o=>.inl (g k o)⟩
theorem XB(K:Nat->Prop)(p:Nat)(m:LM)(key:ByteArray)(d:Value)(l:List Ver)(w:World)(h:MRep K w p m)(q:VRow w d l)(i:∀ k,d.ownBlock=some k->K k)(b:m.uR.length<100000000) :
 Calls prog 157 #[E p 0,.string key,d] w fun e f =>
  ∃ c,e=.returned (E c 0)/\MRep (KGr K w f) f c {m with uR:=Z4 m.uR key l}/\Fr Nil w f/\w.heap.size<=c:=by
 obtain⟨s,r,a,g,o⟩:=h;refine(NR p s r a m key d l w g q (by rw[g.rq.length];exact b)).mono ?_;rintro e f ⟨c,rfl,j⟩;exact⟨c,rfl,j.th g o i,j.fr,j.le⟩
def LM.sr(m:LM)(key:ByteArray):LM:={m with uR:=Z4 m.uR key []}
theorem Uv(K:Nat->Prop)(p:Nat)(m:LM)(key:ByteArray)(w:World)(h:MRep K w p m)(a:m.uR.length<100000000) :
 Calls prog 108 #[E p 0,.string key] w fun e c =>
  ∃ b,e=.returned (E b 0)/\MRep (KGr K w c) c b (m.sr key)/\Fr Nil w c/\w.heap.size<=b:=by
 have g:=Z (XB K p m key (.slice none 0 0) [] w h (Bf w 0 _ _) (fun k l=>by simp[Value.ownBlock] at l) a);clear h;go_enter func108,ntmps108
 go_wp2_with (refine g.o.mono ?_;rintro e o ⟨b,rfl,d,i,j⟩;have f:=Z d;clear d)
 go_ret;exact⟨b,rfl,f.o,i,j⟩
def LM.putV(m:LM)(key a:ByteArray)(b:Int):Ver :=
 ⟨m.node,b,grV (zJ m.uR key) 0,grV (zJ m.uR key) 1,grV (zJ m.uR key) 2,grV (zJ m.uR key) 3,a,false⟩
def LM.put(m:LM)(key a:ByteArray)(b:Int):LM:={m with uR:=Z4 m.uR key [m.putV key a b]}
theorem Hk(h:p:=by
 clear c A
 go_wp2
 go_quiet (fail)
 go_wp2
 exact⟨⟨i+1,V,by go_num,by first|(rw[q.o,r.o,s.o,y.o];simp only[G.o,Ad,show ¬((0:Int)=1) from by decide,show ¬((0:Int)=2) from by decide,show ¬((0:Int)=3) from by decide,Aa];exact l.o),o.o _⟩,by simp[intOf];omega⟩):p:=h
theorem Hl(h:p:=by
 clear c A
 go_wp2
 go_quiet (fail)
 go_wp2
 exact⟨⟨i+1,V,by go_num,by first|(rw[q.o,r.o,s.o,y.o];simp only[G.o,Ad,show ¬((1:Int)=0) from by decide,show ¬((1:Int)=2) from by decide,show ¬((1:Int)=3) from by decide,Aa];exact l.o),o.o _⟩,by simp[intOf];omega⟩):p:=h
theorem Hm(h:p:=by
 clear c A
 go_wp2
 go_quiet (fail)
 go_wp2
 exact⟨⟨i+1,V,by go_num,by first|(rw[q.o,r.o,s.o,y.o];simp only[G.o,Ad,show ¬((2:Int)=0) from by decide,show ¬((2:Int)=1) from by decide,show ¬((2:Int)=3) from by decide,Aa];exact l.o),o.o _⟩,by simp[intOf];omega⟩):p:=h
theorem Hn(h:p:=by
 clear c A
 go_wp2
 go_quiet (fail)
 go_wp2
 exact⟨⟨i+1,V,by go_num,by first|(rw[q.o,r.o,s.o,y.o];simp only[G.o,Ad,show ¬((3:Int)=0) from by decide,show ¬((3:Int)=1) from by decide,show ¬((3:Int)=2) from by decide,Aa];exact l.o),o.o _⟩,by simp[intOf];omega⟩):p:=h
theorem KR(K:Nat->Prop)(p:Nat)(m:LM)(key b:ByteArray)(d:Int)(w:World)(h:MRep K w p m)(b2:m.uR.length<100000000)(L:∀ u∈zJ m.uR key,zW u.node) :
 Calls prog 109 #[E p 0,.string key,.string b,I d] w fun e w' =>
  ∃ f,e=.returned (E f 0)/\MRep (KGr K w w') w' f (m.put key b d)/\Fr Nil w w'/\w.heap.size<=f:=by
 obtain⟨kv,hv,X,ha,hb⟩:=h;have b7:w.cell? (Y p 0)=some (I m.node):=ha.td.cell 0;have N:=Blk.new w [I m.node,I d,I 0,I 0,I 0,I 0,.string b,.bool false] 37;have f0:Fr Nil w (w.alloc (.cells #[I m.node,I d,I 0,I 0,I 0,I 0,.string b,.bool false] 37)):=(U _ _).alloc _;have HA:=Z ha;have HB:=Z hb;have b0:=Z L;clear ha hb L;go_enter func109,ntmps109;go_wp2_with fail;generalize w.alloc (.cells #[I m.node,I d,I 0,I 0,I 0,I 0,.string b,.bool false] 37)=wb at N f0 |-;generalize b3:w.heap.size=f at N |-;have a9:=Z b3;clear b3;refine(Yx p kv hv X m key wb (HA.o.nil f0)).mono ?_;rintro e R ⟨v,rfl,B,a4,b9⟩;subst b9;have hn:=zH B;unfold maxLen at hn;obtain⟨va,vc,rfl⟩:=zf B;have J:=Z B;have b5:=Z f0;have T:aa (∀ k,(Value.slice va (zJ m.uR key).length vc).ownBlock=some k->k≠f):=fun k Q e=>by have:=HA.o.lt k (a4 k Q);have:=a9.o;omega
 have HG:aa (LM.putV m key b d=⟨m.node,d,grV (zJ m.uR key) 0,grV (zJ m.uR key) 1,grV (zJ m.uR key) 2,grV (zJ m.uR key) 3,b,false⟩):=rfl;have c1:=N.lt;generalize zJ m.uR key=a at hn J b0 HG T |-;clear B a4 f0 b7;go_wp2_with fail
 go_loopw [11] (fun t w'=>∃ i:Nat,i<=a.length/\t=I i/\Blk w' f [I m.node,I d,I (grV (a.take i) 0),I (grV (a.take i) 1),I (grV (a.take i) 2),I (grV (a.take i) 3),.string b,.bool false] 37/\Fr (fun k=>k=f) R w') (fun t _=>a.length-(intOf t).toNat)
 case atStart=>exact⟨0,Bg _,rfl,N,U _ _⟩
 case round =>
  obtain⟨i,hi,rfl,c,A⟩:=hrel;by_cases C:i<a.length
  .obtain⟨g,rfl⟩:∃ g,va=some (Y g 0):=by
    obtain⟨g,cap,h,_⟩:=zl J.o V;simp at h;exact⟨g,h.1⟩
   have hc:=VRow.cells (ze J.o A (fun k Q e=>T.o k Q e)) i C;have g0:=hc 0 V;have g1:=hc 1 V;have D:=b0.o a[i] (CU C);have q:=Z (Vh a i C 0);have r:=Z (Vh a i C 1);have s:=Z (Vh a i C 2);have y:=Z (Vh a i C 3);clear hc;generalize a[i]=x at g0 g1 D q r s y;obtain⟨xn,j,x0,x1,x2,x3,xv,xg⟩:=x;simp only[Ver.cells,AM,Ax,AK] at g0 g1 q r s y;generalize grV (a.take i) 0=a0 at c q;generalize grV (a.take i) 1=a1 at c r;generalize grV (a.take i) 2=a2 at c s;generalize grV (a.take i) 3=a3 at c y;have b6:=c.cell;have c2:=c.frozen;have b8:xn=0\/xn=1\/xn=2\/xn=3:=by unfold zW at D;simp only at D;omega
   clear D;rcases b8 with D|D|D|D
   .subst D
    by_cases a8:a0<j
    .have l:=Z ((show Blk wr f _ _ from c).set 2 (I j))
     have o:aa (∀ n,Fr (fun k=>k=f) R ((wr.drewN n).setCell (Y f 2) (I j))):=Z (fun n=>Fr.set (S:=fun k=>k=f) (p:=⟨f,2,none⟩) (A.drewN n) (fun _=>rfl) _);have G:aa (max a0 j=j):=Z V;exact Hk
    .have G:aa (max a0 j=a0):=Z V
     have l:=Z c;have o:aa (∀ n,Fr (fun k=>k=f) R (wr.drewN n)):=Z (fun n=>A.drewN n);exact Hk
   .subst D
    by_cases a8:a1<j
    .have l:=Z ((show Blk wr f _ _ from c).set 3 (I j))
     have o:aa (∀ n,Fr (fun k=>k=f) R ((wr.drewN n).setCell (Y f 3) (I j))):=Z (fun n=>Fr.set (S:=fun k=>k=f) (p:=⟨f,3,none⟩) (A.drewN n) (fun _=>rfl) _);have G:aa (max a1 j=j):=Z V;exact Hl
    .have G:aa (max a1 j=a1):=Z V
     have l:=Z c;have o:aa (∀ n,Fr (fun k=>k=f) R (wr.drewN n)):=Z (fun n=>A.drewN n);exact Hl
   .subst D
    by_cases a8:a2<j
    .have l:=Z ((show Blk wr f _ _ from c).set 4 (I j))
     have o:aa (∀ n,Fr (fun k=>k=f) R ((wr.drewN n).setCell (Y f 4) (I j))):=Z (fun n=>Fr.set (S:=fun k=>k=f) (p:=⟨f,4,none⟩) (A.drewN n) (fun _=>rfl) _);have G:aa (max a2 j=j):=Z V;exact Hm
    .have G:aa (max a2 j=a2):=Z V
     have l:=Z c;have o:aa (∀ n,Fr (fun k=>k=f) R (wr.drewN n)):=Z (fun n=>A.drewN n);exact Hm
   .subst D
    by_cases a8:a3<j
    .have l:=Z ((show Blk wr f _ _ from c).set 5 (I j))
     have o:aa (∀ n,Fr (fun k=>k=f) R ((wr.drewN n).setCell (Y f 5) (I j))):=Z (fun n=>Fr.set (S:=fun k=>k=f) (p:=⟨f,5,none⟩) (A.drewN n) (fun _=>rfl) _);have G:aa (max a3 j=j):=Z V;exact Hn
    .have G:aa (max a3 j=a3):=Z V
     have l:=Z c;have o:aa (∀ n,Fr (fun k=>k=f) R (wr.drewN n)):=Z (fun n=>A.drewN n);exact Hn
  .obtain rfl:i=a.length:=V
   rw[Bj] at c;have b6:=c.cell;have a7:Fr Nil w wr:=b5.o.tk A (fun k Q e=>by have:=a9.o;omega);have fx:Fr Nil w (wr.alloc (.cells #[I m.node,I d,I (grV a 0),I (grV a 1),I (grV a 2),I (grV a 3),.string b,.bool false] 37)):=a7.alloc _;have a6:=Blk.new wr [I m.node,I d,I (grV a 0),I (grV a 1),I (grV a 2),I (grV a 3),.string b,.bool false] 37;have M:VRow (wr.alloc (.cells #[I m.node,I d,I (grV a 0),I (grV a 1),I (grV a 2),I (grV a 3),.string b,.bool false] 37)) (.slice (some (Y wr.heap.size 0)) 1 1) [LM.putV m key b d]:=by rw[HG.o];exact Yw (cap:=1) a6 (CP _) O rfl rfl
   have b4:=Z (XB (KGr K w (wr.alloc (.cells #[I m.node,I d,I (grV a 0),I (grV a 1),I (grV a 2),I (grV a 3),.string b,.bool false] 37))) p m key _ _ (wr.alloc (.cells #[I m.node,I d,I (grV a 0),I (grV a 1),I (grV a 2),I (grV a 3),.string b,.bool false] 37)) (MRep.nil ⟨kv,hv,X,HA.o,HB.o⟩ fx) M (fun k Q=>by simp[Value.ownBlock] at Q;subst Q;exact .inr ⟨a7.size,a6.lt⟩) b2);have a5:=Z fx;have b1:aa (LM.put m key b d={m with uR:=Z4 m.uR key [LM.putV m key b d]}):=rfl;clear c A a7 fx a6 M;go_wp2_with fail;refine b4.o.mono ?_;rintro e w5 ⟨c0,rfl,h1,h2,h3⟩;have H1:=Z h1;have H2:=Z h2;have H3:=Z h3;clear h1 h2 h3
   go_wp2
   go_ret;exact⟨c0,rfl,by rw[b1.o];exact H1.o.mono (fun k Q=>Q.trans a5.o.size H2.o.size),a5.o.trans H2.o,CO a5.o.size H3.o⟩
end Go.Proofs.YtkhnggkkiefcdaaGreatDoor
