/- larder: joined texts -/
import Derived.Test.YtkhnggkkiefcdaaGreatDoorALBD
namespace Go.Proofs.YtkhnggkkiefcdaaGreatDoor
open Go.RowKit Proofs.Tryz
set_option maxRecDepth 100000
set_option maxHeartbeats 8000000
variable{w:World}{v:Value}{x:Fact}{p:Prop}{M:DM}{y:Lay}{g:MgM}{i:Nat}
def Wrote(i f d a:Nat)(j:Value)(left:List Fact)(L:DL)(M:DM)(w:World)(r:Int)(h:DM)(e:Ending)(c:World):Prop :=
 ∃ v g b,e=.returned v/\ERep c v (zT r)/\DRep c d g h/\Fr (fun k=>k=i\/Foot d L M k) w c/\(∀ k,Foot d g h k->Foot d L M k\/w.heap.size<=k)/\Blk c i [E f 0,b,I a] 201/\(r=0->Zy c b left)/\(r≠0->b=j)
theorem FRep.kept{S:Nat->Prop}{b:World}(a:FRep w v x)(f:Fr S w b)(c:∀ k,Ty w k 37->¬S k):FRep b v x:=by
 rcases x with n|x|x|x
 .exact a
 .obtain⟨lv,e,hl⟩:=a
  exact⟨lv,e,VRow.fr hl f (fun k d=>c k (zr hl d))⟩
 .exact a
 .exact a
theorem Zy.cons{G:Value}{l:List Fact}(h:Zy w G (x::l)):∃ g k c u,G=.slice (some (Y g k)) (l.length+1) c/\l.length+1<=c/\w.cell? (Y g k)=some u/\FRep w u x/\(∀ v S,Fr S w v->(∀ k t,Ty w k t->MTy t->¬S k)->v.cell? (Y g k)=some u) /\
 ∀ e:Value,(1<c->e=.slice (some (Y g (k+1))) l.length (c-1))->(c=1->∃ a L,e=.slice a 0 L)->Zy w e l:=by
 obtain⟨g,k,d,X,m,M,h4,B⟩:=h;have A:=M bG;obtain⟨g',y,D,o,_⟩:=zl m (by simp only[Bh];omega);simp only[wO,BZ,vX,uP] at D;obtain⟨_,_,rfl⟩:=D;simp only[Bh] at m A o;obtain⟨u,s,T⟩:=B 0 bG;rw[AM] at s;refine⟨g,k,d-k,u,A,V,own_cell? m k u s,T,fun v S f Q=>own_cell? (ze m f (fun i q=>Q i _ (zr m q) (.inr (.inr (.inl rfl))))) k u s,fun e C R=>⟨g,k+1,d,X,?_,fun r=>?_,fun r=>?_,fun i q=>?_⟩⟩
 .rw[show k+1+l.length=k+(l.length+1) from V]
  exact m
 .have hlp:=yl.2 r
  rw[C V,show d-k-1=d-(k+1) from V]
 .by_cases hc:d-k=1
  .exact R hc
  .exact⟨_,_,by rw[C V,r];rfl⟩
 .obtain⟨u',hu',hf'⟩:=B (i+1) (by simpa using q)
  refine⟨u',by rw[show k+1+i=k+(i+1) from V];exact hu',?_⟩
  simpa using hf'
theorem Pg(h:p:=by
 have y:=R.o;unfold zT at y;rw[Bl h0] at y;have hv:v3=.nilIface:=y;subst hv;have c0:=Z h0;have d2:=a4.cell;have d8:=a4.frozen;have d4:(1:Int)<=((left.length:Int)+1):=V
 have c2:Fr (Foot C L M) w D:=Q.o.fr;have c4:aa (∀ a7:Value,(1<c->a7=.slice (some (Y g (k+1))) left.length (c-1))->(c=1->∃ a c',a7=.slice a 0 c')->Wrote o l C m (.slice (some (Y g k)) (left.length+1) c) left L M w r (M.add zg A).2 (.returned .nilIface) (D.setCell (Y o 1) a7)):=fun a7 ha hb=>by
  have fs:Fr (fun k=>k=o) D (D.setCell (Y o 1) a7):=Fr.set (S:=fun k=>k=o) (p:=⟨o,1,none⟩) (U _ _) (fun _=>rfl) _;have b8:∀ {k t},Ty D k t->t≠201->¬k=o:=fun ht hn e=>by subst e;exact hn (ht.inj a4.ty)
  refine⟨.nilIface,L3,a7,rfl,by rw[c0.o];rfl,Q.o.th.fr fs (fun k hk=>?_),b6.o.trans (fs.mono (fun _ _ e=>.inl e)),Q.o.sd,by simpa using a4.set 1 a7,fun _=>?_,fun e=>absurd c0.o e⟩
  .obtain⟨t,ht,hd⟩:=Q.o.th.ty hk
   unfold DTy at hd;refine b8 ht ?_;rcases hd with rfl|rfl|rfl|rfl|rfl <;> decide
  .have h1:=HN.o a7 ha hb
   have h2:=h1.fr c2 (fun i t ht hM=>by
    unfold MTy at hM;rcases hM with rfl|rfl|rfl|rfl <;> exact HD.o.apart ht ae)
   obtain⟨g',k',c8,d7,q1,q2,q3,q4⟩:=h2;refine⟨g',k',c8,d7,ze q1 fs (fun i hi=>b8 (zr q1 hi) O),q2,q3,fun i hi=>?_⟩;obtain⟨u',d6,d3⟩:=q4 i hi;exact⟨u',d6,d3.kept fs (fun k hk=>b8 hk O)⟩
 clear y R h0 a4 c2 b9 b7;by_cases c1:c=1
 .subst c1
  have d5:left.length=0:=by have:=HC.o;omega
  rw[d5] at d2 d4 c4;go_wp2_with fail;go_ret;rw[b4.o];exact c4.o _ (fun h=>absurd h O) (fun _=>⟨_,_,rfl⟩)
 .have hcg:1<c:=by have:=HC.o;omega
  go_wp2_with fail;go_ret;rw[b4.o];exact c4.o _ (fun _=>rfl) (fun h=>absurd h c1)):p:=h
theorem Rb(h:p:=by
 have y:=R.o;unfold zT at y;rw[CW h0] at y;have c0:=Z h0;have d1:=Z R.o;obtain⟨k5,c9⟩:∃ k,ZU D r k v3:=y;obtain⟨t5,b5,rfl⟩:=c9.form;have d0:=Z a4;clear c9 h0 a4 b9 b7 R;go_wp2_with fail;go_ret;rw[b4.o];exact⟨_,L3,_,rfl,d1.o,Q.o.th,b6.o,Q.o.sd,d0.o,fun e=>absurd e c0.o,fun _=>rfl⟩):p:=h
theorem Rc(h:p:=by
 have F:Fr (Foot C L M) w K:=((f.mono (S':=Foot C L M) (fun _ _ e=>absurd e id)).trans s.fr).trans (f2.mono (fun _ _ e=>absurd e id));refine⟨hm.fr F (a5 hm.ty ae),q K _ F (fun i t ht hM=>?_)⟩;unfold MTy at hM;rcases hM with rfl|rfl|rfl|rfl <;> exact a5 ht ae):p:=h
theorem RQ(o l jb C number m:Nat)(J:JM)(L:DL)(M:DM)(n:Nat)(left:List Fact)(lv:Value)(w:World)(hm:Blk w o [E l 0,lv,I m] 201)(X:Blk w l [E jb 0,I number] 250)(hl:Zy w lv ((Sum.inl n:Fact)::left))
 (hj:JRep w jb C J)(hd:DRep w C L M)(hp:0<=M.part)(T:FOk (Sum.inl n:Fact))(a3:(zj (Sum.inl n:Fact)).size<=1000000000000)(a0:∀ f,f∈M.tL->(M.uV f).bytes.length<=1000000000000)(c5:left.length<1000000000) :
 Calls prog 136 #[E o 0] w (Wrote o l C m lv left L M w (M.add zg (zj (Sum.inl n:Fact))).1 (M.add zg (zj (Sum.inl n:Fact))).2):=by
 obtain⟨g,k,c,u,rfl,b0,b1,a1,q,v⟩:=hl.cons;have b3:u=.iface 220 (.agg #[I n]):=a1;subst b3;have HR:=Z (fun j (_:Fr Nil w j)=>UG n T j);have HA:=Z (fun j (f:Fr Nil w j)=>XF l jb C number J L M (zj (Sum.inl n:Fact)) j (X.fr f id) (Blk.fr hj f id) (hd.nil f) hp a3 a0);generalize G:zj (Sum.inl n:Fact)=A at HA |-;have a9:aa (zp (W8 n)=A):=G;have c6:=PP;have HK:aa (∀ j,Fr Nil w j->j.cell? (Y o 0)=some (E l 0)/\j.cell? (Y o 1)=some (.slice (some (Y g k)) (left.length+1) c)/\j.cell? (Y g k)=some (.iface 220 (.agg #[I n]))):=fun j f=>⟨(hm.fr f id).cell 0,(hm.fr f id).cell 1,q j Nil f (fun _ _ _ _=>id)⟩;have a5:∀ {k t},Ty w k t->¬DTy t->¬Foot C L M k:=fun ht hn=>hd.apart ht hn;have B:aa (∀ j w1 L' K,Fr Nil w j->DStep C L M j L' (M.add zg A).2 w1->Fr Nil w1 K->Blk K o [E l 0,.slice (some (Y g k)) (left.length+1) c,I m] 201/\K.cell? (Y g k)=some (.iface 220 (.agg #[I n]))):=fun j w1 L' K f s f2=>by
  exact Rc
 have HL:=Z hl;have HN:=Z v;have HD:=Z hd;have HC:=Z b0;have b7:=HK.o w (U _ _);clear hm X hl hj hd hp a3 a0 q v G a1 b1 a5 T;go_enter uy,ua;go_wp2_with fail
 go_region_held3 (fun j=>j.cell? (Y o 0)=some (E l 0)/\j.cell? (Y o 1)=some (.slice (some (Y g k)) (left.length+1) c)/\j.cell? (Y g k)=some (.iface 220 (.agg #[I n]))) (first|assumption|go_keep|exact HK.o _ zd)
  (first
  | (go_at_call 171;refine(HA.o _ (b.trans zd)).mono ?_;rintro e D ⟨v3,L3,rfl,y,d⟩;have b9:D.cell? (Y o 0)=some (E l 0)/\D.cell? (Y o 1)=some (.slice (some (Y g k)) (left.length+1) c)/\D.cell? (Y g k)=some (.iface 220 (.agg #[I n])):=⟨(B.o _ _ _ _ (b.trans zd) d (U _ _)).1.cell 0,(B.o _ _ _ _ (b.trans zd) d (U _ _)).1.cell 1,(B.o _ _ _ _ (b.trans zd) d (U _ _)).2⟩;have a8:=Z (fun K (f:Fr Nil D K)=>(B.o _ _ _ K (b.trans zd) d f).1);have R:=Z y;have Q:aa (DStep C L M w L3 (M.add zg A).2 D):=d.of (b.trans zd);clear y d)
  | (go_at_call 307;refine(HR.o _ zd).mono ?_;rintro e w2 ⟨rfl,b2⟩;have b:Fr Nil w w2:=Fr.trans zd b2;have c7:=HK.o w2 b;rw[a9.o]))
 generalize a2:(M.add zg A).1=r at R;have b4:=Z a2;clear a2;have b6:aa (Fr (fun k=>k=o\/Foot C L M k) w D):=Q.o.fr.mono (fun _ _ e=>.inr e);have a4:=a8.o D (U _ _);by_cases h0:r=0
 .exact Pg
 .exact Rb
theorem RR(o l jb C number m:Nat)(J:JM)(L:DL)(M:DM)(key:ByteArray)(vl:List Ver)(left:List Fact)(lv:Value)(w:World)(hm:Blk w o [E l 0,lv,I m] 201)(X:Blk w l [E jb 0,I number] 250)(hl:Zy w lv ((Sum.inr (Sum.inl (key,vl)):Fact)::left))
 (hj:JRep w jb C J)(hd:DRep w C L M)(hp:0<=M.part)(T:FOk (Sum.inr (Sum.inl (key,vl)):Fact))(a3:(zj (Sum.inr (Sum.inl (key,vl)):Fact)).size<=1000000000000)(a0:∀ f,f∈M.tL->(M.uV f).bytes.length<=1000000000000)(c5:left.length<1000000000) :
 Calls prog 136 #[E o 0] w (Wrote o l C m lv left L M w (M.add zg (zj (Sum.inr (Sum.inl (key,vl)):Fact))).1 (M.add zg (zj (Sum.inr (Sum.inl (key,vl)):Fact))).2):=by
 obtain⟨g,k,c,u,rfl,b0,b1,a1,q,v⟩:=hl.cons;obtain⟨a6,b3,c3⟩:∃ a6,u=.iface 193 (.agg #[.string key,a6])/\VRow w a6 vl:=id a1;subst b3;have HR:=Z (fun j (f:Fr Nil w j)=>UH key a6 vl T.1 T.2.1 T.2.2.1 j (VRow.fr c3 f (fun _ _=>id)) T.2.2.2);clear c3;have HA:=Z (fun j (f:Fr Nil w j)=>XF l jb C number J L M (zj (Sum.inr (Sum.inl (key,vl)):Fact)) j (X.fr f id) (Blk.fr hj f id) (hd.nil f) hp a3 a0);generalize G:zj (Sum.inr (Sum.inl (key,vl)):Fact)=A at HA |-;have a9:aa (zp (WB key vl)=A):=G;have c6:=PQ;have HK:aa (∀ j,Fr Nil w j->j.cell? (Y o 0)=some (E l 0)/\j.cell? (Y o 1)=some (.slice (some (Y g k)) (left.length+1) c)/\j.cell? (Y g k)=some (.iface 193 (.agg #[.string key,a6]))):=fun j f=>⟨(hm.fr f id).cell 0,(hm.fr f id).cell 1,q j Nil f (fun _ _ _ _=>id)⟩;have a5:∀ {k t},Ty w k t->¬DTy t->¬Foot C L M k:=fun ht hn=>hd.apart ht hn;have B:aa (∀ j w1 L' K,Fr Nil w j->DStep C L M j L' (M.add zg A).2 w1->Fr Nil w1 K->Blk K o [E l 0,.slice (some (Y g k)) (left.length+1) c,I m] 201/\K.cell? (Y g k)=some (.iface 193 (.agg #[.string key,a6]))):=fun j w1 L' K f s f2=>by
  exact Rc
 have HL:=Z hl;have HN:=Z v;have HD:=Z hd;have HC:=Z b0;have b7:=HK.o w (U _ _);clear hm X hl hj hd hp a3 a0 q v G a1 b1 a5 T;go_enter uy,ua;go_wp2_with fail
 go_region_held3 (fun j=>j.cell? (Y o 0)=some (E l 0)/\j.cell? (Y o 1)=some (.slice (some (Y g k)) (left.length+1) c)/\j.cell? (Y g k)=some (.iface 193 (.agg #[.string key,a6]))) (first|assumption|go_keep|exact HK.o _ zd)
  (first
  | (go_at_call 171;refine(HA.o _ (b.trans zd)).mono ?_;rintro e D ⟨v3,L3,rfl,y,d⟩;have b9:D.cell? (Y o 0)=some (E l 0)/\D.cell? (Y o 1)=some (.slice (some (Y g k)) (left.length+1) c)/\D.cell? (Y g k)=some (.iface 193 (.agg #[.string key,a6])):=⟨(B.o _ _ _ _ (b.trans zd) d (U _ _)).1.cell 0,(B.o _ _ _ _ (b.trans zd) d (U _ _)).1.cell 1,(B.o _ _ _ _ (b.trans zd) d (U _ _)).2⟩;have a8:=Z (fun K (f:Fr Nil D K)=>(B.o _ _ _ K (b.trans zd) d f).1);have R:=Z y;have Q:aa (DStep C L M w L3 (M.add zg A).2 D):=d.of (b.trans zd);clear y d)
  | (go_at_call 286;refine(HR.o _ zd).mono ?_;rintro e w2 ⟨rfl,b2⟩;have b:Fr Nil w w2:=Fr.trans zd b2;have c7:=HK.o w2 b;rw[a9.o]))
 generalize a2:(M.add zg A).1=r at R;have b4:=Z a2;clear a2;have b6:aa (Fr (fun k=>k=o\/Foot C L M k) w D):=Q.o.fr.mono (fun _ _ e=>.inr e);have a4:=a8.o D (U _ _);by_cases h0:r=0
 .exact Pg
 .exact Rb
theorem Rd(o l jb C number m:Nat)(J:JM)(L:DL)(M:DM)(N:Nat)(x:ByteArray)(left:List Fact)(lv:Value)(w:World)(hm:Blk w o [E l 0,lv,I m] 201)(X:Blk w l [E jb 0,I number] 250)(hl:Zy w lv ((Sum.inr (Sum.inr (Sum.inl (N,x))):Fact)::left))
 (hj:JRep w jb C J)(hd:DRep w C L M)(hp:0<=M.part)(T:FOk (Sum.inr (Sum.inr (Sum.inl (N,x))):Fact))(a3:(zj (Sum.inr (Sum.inr (Sum.inl (N,x))):Fact)).size<=1000000000000)(a0:∀ f,f∈M.tL->(M.uV f).bytes.length<=1000000000000)(c5:left.length<1000000000) :
 Calls prog 136 #[E o 0] w (Wrote o l C m lv left L M w (M.add zg (zj (Sum.inr (Sum.inr (Sum.inl (N,x))):Fact))).1 (M.add zg (zj (Sum.inr (Sum.inr (Sum.inl (N,x))):Fact))).2):=by
 obtain⟨g,k,c,u,rfl,b0,b1,a1,q,v⟩:=hl.cons;have b3:u=.iface 138 (.agg #[I N,.string x]):=a1;subst b3;have HR:=Z (fun j (_:Fr Nil w j)=>Uq N x T.1 T.2 j);have HA:=Z (fun j (f:Fr Nil w j)=>XF l jb C number J L M (zj (Sum.inr (Sum.inr (Sum.inl (N,x))):Fact)) j (X.fr f id) (Blk.fr hj f id) (hd.nil f) hp a3 a0);generalize G:zj (Sum.inr (Sum.inr (Sum.inl (N,x))):Fact)=A at HA |-;have a9:aa (zp (Wk N x)=A):=G;have c6:=Q7;have HK:aa (∀ j,Fr Nil w j->j.cell? (Y o 0)=some (E l 0)/\j.cell? (Y o 1)=some (.slice (some (Y g k)) (left.length+1) c)/\j.cell? (Y g k)=some (.iface 138 (.agg #[I N,.string x]))):=fun j f=>⟨(hm.fr f id).cell 0,(hm.fr f id).cell 1,q j Nil f (fun _ _ _ _=>id)⟩;have a5:∀ {k t},Ty w k t->¬DTy t->¬Foot C L M k:=fun ht hn=>hd.apart ht hn;have B:aa (∀ j w1 L' K,Fr Nil w j->DStep C L M j L' (M.add zg A).2 w1->Fr Nil w1 K->Blk K o [E l 0,.slice (some (Y g k)) (left.length+1) c,I m] 201/\K.cell? (Y g k)=some (.iface 138 (.agg #[I N,.string x]))):=fun j w1 L' K f s f2=>by
  exact Rc
 have HL:=Z hl;have HN:=Z v;have HD:=Z hd;have HC:=Z b0;have b7:=HK.o w (U _ _);clear hm X hl hj hd hp a3 a0 q v G a1 b1 a5 T;go_enter uy,ua;go_wp2_with fail
 go_region_held3 (fun j=>j.cell? (Y o 0)=some (E l 0)/\j.cell? (Y o 1)=some (.slice (some (Y g k)) (left.length+1) c)/\j.cell? (Y g k)=some (.iface 138 (.agg #[I N,.string x]))) (first|assumption|go_keep|exact HK.o _ zd)
  (first
  | (go_at_call 171;refine(HA.o _ (b.trans zd)).mono ?_;rintro e D ⟨v3,L3,rfl,y,d⟩;have b9:D.cell? (Y o 0)=some (E l 0)/\D.cell? (Y o 1)=some (.slice (some (Y g k)) (left.length+1) c)/\D.cell? (Y g k)=some (.iface 138 (.agg #[I N,.string x])):=⟨(B.o _ _ _ _ (b.trans zd) d (U _ _)).1.cell 0,(B.o _ _ _ _ (b.trans zd) d (U _ _)).1.cell 1,(B.o _ _ _ _ (b.trans zd) d (U _ _)).2⟩;have a8:=Z (fun K (f:Fr Nil D K)=>(B.o _ _ _ K (b.trans zd) d f).1);have R:=Z y;have Q:aa (DStep C L M w L3 (M.add zg A).2 D):=d.of (b.trans zd);clear y d)
  | (go_at_call 282;refine(HR.o _ zd).mono ?_;rintro e w2 ⟨rfl,b2⟩;have b:Fr Nil w w2:=Fr.trans zd b2;have c7:=HK.o w2 b;rw[a9.o]))
 generalize a2:(M.add zg A).1=r at R;have b4:=Z a2;clear a2;have b6:aa (Fr (fun k=>k=o\/Foot C L M k) w D):=Q.o.fr.mono (fun _ _ e=>.inr e);have a4:=a8.o D (U _ _);by_cases h0:r=0
 .exact Pg
 .exact Rb
theorem RS(o l jb C number m:Nat)(J:JM)(L:DL)(M:DM)(u0:Unit)(left:List Fact)(lv:Value)(w:World)(hm:Blk w o [E l 0,lv,I m] 201)(X:Blk w l [E jb 0,I number] 250)(hl:Zy w lv ((Sum.inr (Sum.inr (Sum.inr u0)):Fact)::left))
 (hj:JRep w jb C J)(hd:DRep w C L M)(hp:0<=M.part)(a3:(zj (Sum.inr (Sum.inr (Sum.inr u0)):Fact)).size<=1000000000000)(a0:∀ f,f∈M.tL->(M.uV f).bytes.length<=1000000000000)(c5:left.length<1000000000) :
 Calls prog 136 #[E o 0] w (Wrote o l C m lv left L M w (M.add zg (zj (Sum.inr (Sum.inr (Sum.inr u0)):Fact))).1 (M.add zg (zj (Sum.inr (Sum.inr (Sum.inr u0)):Fact))).2):=by
 obtain⟨g,k,c,u,rfl,b0,b1,a1,q,v⟩:=hl.cons;have b3:u=.iface 135 (.agg #[]):=a1;subst b3;have HR:=Z (fun j (_:Fr Nil w j)=>UI j);have HA:=Z (fun j (f:Fr Nil w j)=>XF l jb C number J L M (zj (Sum.inr (Sum.inr (Sum.inr u0)):Fact)) j (X.fr f id) (Blk.fr hj f id) (hd.nil f) hp a3 a0);generalize G:zj (Sum.inr (Sum.inr (Sum.inr u0)):Fact)=A at HA |-;have a9:aa (zp Va=A):=G;have c6:=PR;have HK:aa (∀ j,Fr Nil w j->j.cell? (Y o 0)=some (E l 0)/\j.cell? (Y o 1)=some (.slice (some (Y g k)) (left.length+1) c)/\j.cell? (Y g k)=some (.iface 135 (.agg #[]))):=fun j f=>⟨(hm.fr f id).cell 0,(hm.fr f id).cell 1,q j Nil f (fun _ _ _ _=>id)⟩;have a5:∀ {k t},Ty w k t->¬DTy t->¬Foot C L M k:=fun ht hn=>hd.apart ht hn;have B:aa (∀ j w1 L' K,Fr Nil w j->DStep C L M j L' (M.add zg A).2 w1->Fr Nil w1 K->Blk K o [E l 0,.slice (some (Y g k)) (left.length+1) c,I m] 201/\K.cell? (Y g k)=some (.iface 135 (.agg #[]))):=fun j w1 L' K f s f2=>by
  exact Rc
 have HL:=Z hl;have HN:=Z v;have HD:=Z hd;have HC:=Z b0;have b7:=HK.o w (U _ _);clear hm X hl hj hd hp a3 a0 q v G a1 b1 a5;go_enter uy,ua;go_wp2_with fail
 go_region_held3 (fun j=>j.cell? (Y o 0)=some (E l 0)/\j.cell? (Y o 1)=some (.slice (some (Y g k)) (left.length+1) c)/\j.cell? (Y g k)=some (.iface 135 (.agg #[]))) (first|assumption|go_keep|exact HK.o _ zd)
  (first
  | (go_at_call 171;refine(HA.o _ (b.trans zd)).mono ?_;rintro e D ⟨v3,L3,rfl,y,d⟩;have b9:D.cell? (Y o 0)=some (E l 0)/\D.cell? (Y o 1)=some (.slice (some (Y g k)) (left.length+1) c)/\D.cell? (Y g k)=some (.iface 135 (.agg #[])):=⟨(B.o _ _ _ _ (b.trans zd) d (U _ _)).1.cell 0,(B.o _ _ _ _ (b.trans zd) d (U _ _)).1.cell 1,(B.o _ _ _ _ (b.trans zd) d (U _ _)).2⟩;have a8:=Z (fun K (f:Fr Nil D K)=>(B.o _ _ _ K (b.trans zd) d f).1);have R:=Z y;have Q:aa (DStep C L M w L3 (M.add zg A).2 D):=d.of (b.trans zd);clear y d)
  | (go_at_call 274;refine(HR.o _ zd).mono ?_;rintro e w2 ⟨rfl,b2⟩;have b:Fr Nil w w2:=Fr.trans zd b2;have c7:=HK.o w2 b;rw[a9.o]))
 generalize a2:(M.add zg A).1=r at R;have b4:=Z a2;clear a2;have b6:aa (Fr (fun k=>k=o\/Foot C L M k) w D):=Q.o.fr.mono (fun _ _ e=>.inr e);have a4:=a8.o D (U _ _);by_cases h0:r=0
 .exact Pg
 .exact Rb
theorem RT(k b m h number a:Nat)(J:JM)(L:DL)(M:DM)(x:Fact)(left:List Fact)(j:Value)(w:World)(hm:Blk w k [E b 0,j,I a] 201)(c:Blk w b [E m 0,I number] 250)(s:Zy w j (x::left))
 (r:JRep w m h J)(q:DRep w h L M)(t:0<=M.part)(i:FOk x)(g:(zj x).size<=1000000000000)(d:∀ f,f∈M.tL->(M.uV f).bytes.length<=1000000000000)(e:left.length<1000000000) :
 Calls prog 136 #[E k 0] w (Wrote k b h a j left L M w (M.add zg (zj x)).1 (M.add zg (zj x)).2):=by
 rcases x with n|⟨key,l⟩|⟨v,o⟩|u
 .exact RQ k b m h number a J L M n left j w hm c s r q t i g d e
 .exact RR k b m h number a J L M key l left j w hm c s r q t i g d e
 .exact Rd k b m h number a J L M v o left j w hm c s r q t i g d e
 .exact RS k b m h number a J L M u left j w hm c s r q t g d e
def SM.rf(S:SM):List Fact:=.inl S.tm::(S.uR.map (fun e=>(.inr (.inl e):Fact))++S.uU.map fun h=>(.inr (.inr (.inl h)):Fact))
def NM.rU(N:NM)(M:DM)(f g:Nat):Option Int × NM × DM :=
 ((N.J.rl M f g).1,{N with J:=(N.J.rl M f g).2.1,mg:=if (N.J.rl M f g).1=none then some ⟨N.J.tu+1,[],N.S.rf,1⟩ else N.mg},(N.J.rl M f g).2.2)
theorem Jz{c:List (ByteArray × Value)}{S:SM}(l:Pair (VRow w) c S.uR)(r:w.ownsRow 0 165 1 v (1+c.length+S.uU.length) (Uo S.tm::(c.map XH++S.uU.map Pf))):Zy w v S.rf:=by
 have s:=l.length;have d:S.rf.length=1+c.length+S.uU.length:=by
  unfold SM.rf;simp only[Bh,CN,Bm];omega
 obtain⟨g,o,rfl,_,_⟩:=zl r V;refine⟨g,0,o,_,by rw[BQ,d];exact r,fun _=>by rw[d,Nat.sub_zero],fun h=>by rw[h] at d;simp at d;omega,fun i q=>?_⟩;rw[BQ];have p:∀ (m:List (ByteArray × Value)) (e:List (ByteArray × List Ver)),Pair (VRow w) m e->∀ j (f:j<m.length) (k:j<e.length),FRep w (XH m[j]) (.inr (.inl e[j])):=by
  intro m
  induction m with
  | nil=>intro e _ j f;simp at f
  | cons a m t =>
   intro e l j f k;cases e with
   | nil=>simp at k
   | cons b e =>
    cases j with
    | zero =>
     refine⟨a.2,?_,l.2.1⟩;show Value.iface _ (.agg #[.string a.1,a.2])=Value.iface _ (.agg #[.string b.1,a.2]);rw[l.1]
    | succ j=>exact t e l.2.2 j aG (by simpa using k)
 unfold SM.rf at q |-;cases i with
 | zero=>exact⟨_,rfl,rfl⟩
 | succ i =>
  simp only[AK,xA];simp only[Bh,CN,Bm] at q;by_cases f:i<c.length
  .refine⟨XH c[i],by rw[Aq aG];simp[f],?_⟩
   have k:i<S.uR.length:=V
   rw[BE (by simpa using k),BB];exact p c S.uR l i f k
  .have h3:i-c.length<S.uU.length:=V
   refine⟨Pf S.uU[i-c.length],by rw[AJ ar];simp[h3],?_⟩;rw[BV ar,BB];simp only[Bm,<- s]
   rfl
theorem S8(B:Nat)(L:NL)(N:NM)(M:DM)(w:World)(h:NRep w L N M)(he:Env B L M w)(a9:N.uW=false)(a2:N.J.tu+2<1000000000000)
 (D:(N.J.tA M).2.tB.length+1<=1000000000000)(G:(N.J.tA M).2.uX.length+1<=1000000000000)
 (J:∀ f,w.heap.size<=f->(N.J.begin M (N.J.tu+2) f).2.2.tB.length+1<=1000000000000/\(N.J.begin M (N.J.tu+2) f).2.2.uX.length+1<=1000000000000)
 (hk:N.S.uR.length<1000000000)(hh:N.S.uU.length<1000000) :
 Calls prog 135 #[E L.nb 0] w fun e w'=>∃ f g v L',e=.returned v/\w.heap.size<=f/\g∉(N.J.begin M (N.J.tu+2) f).2.2.tL/\w.heap.size<=g/\ERep w' v (N.rU M f g).1/\NStep L M w L' (N.rU M f g).2.1 (N.rU M f g).2.2 w':=by
 have a6:w.cell? (Y L.nb 1)=some (E L.jb 0):=h.td.cell 1;have y:=Z (Mc B L.jb L.db N.J L.LD M a2 w h.qb h.sf he.pW he.le he.sd D G J);have HH:=Z h;have b3:=h.td.lt;clear h he D G J;go_enter func135,ntmps135;go_wp2_with fail;refine y.o.mono ?_;rintro e w1 ⟨f,g,v1,pv,L1,rfl,hf,hg,R,x,S,s,a1⟩;have a:=Z (NStep.rO HH.o S);have HE:=Z x;have HY:=Z s;have i:=Z a1;have hp:N.rU M f g=((N.J.rl M f g).1,{N with J:=(N.J.rl M f g).2.1,mg:=if (N.J.rl M f g).1=none then some ⟨N.J.tu+1,[],N.S.rf,1⟩ else N.mg},(N.J.rl M f g).2.2):=rfl;have p:=Z hp;clear S s a1 a6 y hp;generalize A:(N.J.rl M f g).2.1=J1 at a p;generalize C:(N.J.rl M f g).2.2=M1 at a p;cases hd:(N.J.rl M f g).1 with
 | some n =>
  rw[hd] at x HE i p;have a8:=i.o bG;subst a8;obtain⟨k,T⟩:=x;obtain⟨t,b,rfl⟩:=T.form;clear hd T A C HY i;go_wp2_with fail;go_ret;refine⟨f,g,_,{L with LD:=L1},rfl,hf,R,hg,?_,?_⟩
  .rw[p.o];exact HE.o
  .rw[p.o];exact a.o
 | none =>
  rw[hd] at x HE HY p;obtain⟨j,rfl,b0,Q⟩:=HY.o rfl;have hv:v1=.nilIface:=x;subst hv;have a7:w1.cell? (Y L.nb 2)=some (E L.sb 0):=a.o.th.td.cell 2;have a4:=Z (ME L.sb L.LS N.S w1 a.o.th.held hk hh);have a3:=Z Q;clear hd x HE HY i A C Q;go_wp2_with fail;refine a4.o.mono ?_;rintro e o ⟨lv,rfl,d,l,X⟩;obtain⟨a0,c0,rfl⟩:=zf d;have u:=a.o.tR l;have c:=Jz u.th.held.rq d;have K:=Blk.new o [E j 0,.slice a0 (1+L.LS.sC.length+N.S.uU.length) c0,I 1] 201;have f3:Fr Nil o (o.alloc (.cells #[E j 0,.slice a0 (1+L.LS.sC.length+N.S.uU.length) c0,I 1] 201)):=(U _ _).alloc _;have m:=u.tR f3;have q:=a3.o.fr (l.trans f3) id;have b4:=m.th.td.frozen;have b2:=m.th.td.cell;have b1:w.heap.size<=o.heap.size:=CO a.o.fr.size l.size;have r:MRp (o.alloc (.cells #[E j 0,.slice a0 (1+L.LS.sC.length+N.S.uU.length) c0,I 1] 201)) (E o.heap.size 0) L.jb (some ⟨N.J.tu+1,[],N.S.rf,1⟩) :=
   ⟨o.heap.size,j,_,rfl,K,q,c.fr f3 (fun _ _ _ _=>id)⟩
  have a5:=Z (m.nx a9 (E o.heap.size 0) (some ⟨N.J.tu+1,[],N.S.rf,1⟩) r (fun k e=>by simp only[vw,BZ,vX,uP] at e;exact .inr V));clear d l u c K m q r X a7 f3;go_wp2_with fail;go_ret;refine⟨f,g,.nilIface,{L with LD:=L1,mv:=E o.heap.size 0},rfl,hf,R,hg,?_,?_⟩
  .rw[p.o];rfl
  .have hp':N.rU M f g=(none,{N with J:=J1,mg:=some ⟨N.J.tu+1,[],N.S.rf,1⟩},M1):=by rw[p.o];simp
   rw[hp'];exact a5.o
theorem Pb(L:NL)(N:NM)(M:DM)(g i:Nat)(u:Value)(a:Nat)(w:World)(h:NRep w L N M)(j:L.mv=E g 0)(k:Blk w g [E i 0,u,I a] 201)(y:N.S.uR.length<1000000000)(x:N.S.uU.length<1000000) :
 Calls prog 137 #[E L.nb 0] w fun e v=>e=.returned (.bool (decide (N.S.uR.length+N.S.uU.length+4<=a)))/\Fr Nil w v:=by
 have l:=Z (fun d (f:Fr Nil w d)=>Vy L.sb L.LS N.S d (h.nil f).held);have m:=Z (fun d (f:Fr Nil w d)=>YV L.sb L.LS N.S d (h.nil f).held);have q:w.cell? (Y L.nb 6)=some (E g 0):=by have:w.cell? (Y L.nb 6)=some L.mv:=h.td.cell 6;rw[j] at this;exact this
 have o:w.cell? (Y L.nb 2)=some (E L.sb 0):=h.td.cell 2;have r:w.cell? (Y g 2)=some (I a):=k.cell 2;have s:IntKind.i64.wrap ((N.S.uR.length:Int)+N.S.uU.length)=(N.S.uR.length:Int)+N.S.uU.length:=by rw[Bu];omega
 have t:IntKind.i64.wrap ((N.S.uR.length:Int)+N.S.uU.length+4)=(N.S.uR.length:Int)+N.S.uU.length+4:=by rw[Bu];omega
 have b:decide ((N.S.uR.length:Int)+N.S.uU.length+4<=a)=decide (N.S.uR.length+N.S.uU.length+4<=a):=by
  by_cases e:N.S.uR.length+N.S.uU.length+4<=a
  .rw[yZ e];simp;omega
  .rw[yd e];simp;omega
 have c:=Z b;clear h k b;go_enter func137,ntmps137;go_wp2_with fail
 go_quiet ((first|(go_at_call 78;exact Ah (m.o _ zd))|(go_at_call 88;exact Ah (l.o _ zd))))
 go_wp2_with fail;go_ret;exact⟨by rw[<- c.o];rfl,by exact zd⟩
theorem C9{J:JM}{p t:Nat}(h:Lg M y p t)(hj:Jl J M y)(hn:y.new=none)(ht:t+4<=1000000)(A:List Fact)(a1:∀ x∈A,Yb x/\(zj x).size<=2000)(q:A.foldl SM.enter SM.nil=y.F.foldl SM.enter SM.nil)(K:∀ k,((A.take k).foldl SM.enter SM.nil).uU.length<=32)(Q:A.length<=y.F.length+40)
 (f g:Nat)(hf:f∉M.tL)(B:g∉(J.begin M (J.tu+2) f).2.2.tL) :
 ∃ e J' l T,J.rl M f g=(e,J',l)/\Lg l T p (t+3)/\T.F=y.F/\Ans M l e/\l.room=M.room/\(∀ k∈l.tL,k=f\/k=g\/k∈M.tL)/\l.sW=M.sW/\e≠some 10 /\
  (e=none->Jl J' l T/\J'.limit=J.limit/\∃ i f,Mgx l T ⟨J.tu+1,[],A,1⟩ i f/\∃ n j,T.G.drop i=[(n,j,([],[]))]):=by
 have a0:=h.pQ hj.1;have N:∀ e∈y.G,e.1<=J.tu:=fun e G=>by
  have:=JM.pR (limit:=J.limit) (ds:=J.tQ) h.rp e G;rw[<- hj.1] at this;exact this
 obtain⟨e1,X,v,a,q1,o,q3,q4,q5,q6,q7,q8,q9,c,a2,a4,a3⟩:=RH h hj V (J.tu+2) f V V hf;unfold JM.rl;rw[q1] at B |-;cases e1 with
 | some n=>exact⟨some n,X,v,a,rfl,o.tU V,q3,q6,q7,fun k s=>(q9 k s).imp id .inr,c,a2,fun e=>by cases e⟩
 | none =>
  obtain⟨r1,r2,S,r4⟩:=a3 rfl;simp only at B |-;have u:a.new=none:=q4.new.trans hn;have hx:∀ d r,Lg (v.rL zg g r d) {a with new:=some g} p (t+2+1)->∃ i f,Mgx (v.rL zg g r d) {a with new:=some g} ⟨J.tu+1,[],A,1⟩ i f/\∃ n j,({a with new:=some g}:Lay).G.drop i=[(n,j,([],[]))]:=fun d r L=>by
   have m:({a with new:=some g}:Lay).pre y.G.length=y.F:=by
    show a.F0++zv (a.G.take y.G.length)=_;rw[S,xR,q4.F0]
    rfl
   refine⟨y.G.length,g,⟨rfl,?_,?_,fun b hb=>?_,ud (Bg _),fun e G=>?_,fun e G=>?_,?_,by simpa using a1,by rw[m];simpa using q,by simpa using K,by rw[m];simpa using Q⟩,_,_,by show a.G.drop y.G.length=_;rw[S,yB]⟩
   .show y.G.length<a.G.length
    rw[S];simp
   .show a.i<=y.G.length
    rw[q4.i];exact h.ri.ij
   .have hb':y.base=some b:=by rw[<- q4.base];exact hb
    have k:=h.ri.base b hb';have R:y.i<y.G.length:=k.lt;have h4:=k.hi _ (Bt.2 ⟨0,by rw[Bc];show 0<y.G.length-y.i;omega,by rw[Ac];rfl⟩:y.G[y.i]'R∈y.G.drop y.i);have h5:=N _ (CU R);show b.1<J.tu+1;omega
   .have he':e∈a.G.take y.G.length:=G
    rw[S,xR] at he';have:=N e he';show e.1<J.tu+1;omega
   .have he':e∈a.G.drop y.G.length:=G
    rw[S,yB,CX] at he';subst he';show J.tu+1<J.tu+2;omega
   .rw[S4];rfl
  rcases SR o.bd V O (show zg≠ByteArray.empty from O) (o.oV u) g with⟨C,D⟩|⟨d,C,D⟩|⟨C,D⟩
  .rw[C]
   have L:=Lk.rl o u g B v.uT v.tJ (yO _) V;refine⟨none,X,_,_,rfl,L,q3,q6.trans (Ans.ok D rfl rfl rfl),q7,fun k s=>?_,(Ui o.bd B _ _ _).trans c,ag,fun _=>⟨⟨r1.1,fun e=>by rw[r4] at e;cases e⟩,r2,hx _ _ L⟩⟩;rcases BC.1 s with e|e
   .exact .inr (.inl e)
   .exact(q9 k e).imp id .inr
  .rw[C]
   exact⟨some 9,X,_,a,rfl,(Lg.no o d).tU V,q3,q6.trans (Ans.no D rfl rfl),q7,fun k s=>(q9 k s).imp id .inr,c,ag,fun e=>by cases e⟩
  .rw[C]
   have L:=Lk.rl o u g B (v.uT+1) true V V;refine⟨some 9,X,_,_,rfl,L,q3,q6.trans (Ans.no D rfl rfl),q7,fun k s=>?_,(Ui o.bd B _ _ _).trans c,ag,fun e=>by cases e⟩;rcases BC.1 s with e|e
   .exact .inr (.inl e)
   .exact(q9 k e).imp id .inr
theorem T9:∀(a:List Fact),(∀ x∈a,(zj x).size<=2000)->(zK a).length<=2000*a.length
 | [],_=>by simp[zK]
 | x::a,h=>by
  have c:=h x (CY ..);have d:=T9 a (fun y b=>h y (CT _ b));have e:(Z5 (zx x)).length=(zj x).size:=by rw[<- WZ,yh];rfl
  rw[Ww,CN,Bh];omega
theorem Ej{p t k:Nat}(h:Lk M y p t k){f:Nat}(hm:Mgx M y g i f){left:List Fact}(hl:g.left=x::left)(ht:t<=1000000)(hk:k<=2000000) :
 ∃ r o,M.add zg (zj x)=(r,o)/\Lk o y p t (k+1)/\Ans M o (zT r)/\o.room=M.room/\o.tL=M.tL/\o.uX=M.uX/\o.uZ=M.uZ/\o.tB=M.tB/\(zT r=some 10->M.room<2100000000000000)/\(r=0->Mgx o y {g with done:=g.done++[x],left:=left} i f):=by
 obtain⟨c8,d6⟩:=h.pw hm.new;obtain⟨B,j,r,u,A,ea,hj,c⟩:=Lx h.bd ht hk c8 (zj x);have X:(zj x).data.toList.length=(zj x).size:=by rw[yh];rfl
 have hx:=hm.ok x (by rw[hl];simp);have d7:=h.fl;have d8:=(YW y i).length_le;have d0:=hm.len;rw[hl,CN,Bh] at d0;have d5:=T9 g.done (fun z hz=>(hm.ok z (yw _ hz)).2);have d:M.uT<=r/\r<=M.uT+1/\M.tr<=u/\u-M.tr<=r-M.uT:=by
  exact Gx
 have d4:=h.so hm.new ((zj x).data.toList.take j) (by rw[hm.bytes,CR];omega) r u A d.1 d.2.1 d.2.2.1 d.2.2.2;have R:=h.bd.sW ht;have l:Ans M (M.put f ((zj x).data.toList.take j) r u A) (zT B):=by
  exact Gw
 refine⟨B,_,ea,d4,l,rfl,rfl,rfl,rfl,rfl,fun e=>?_,fun e0=>?_⟩
 .have D:B=10:=by
   unfold zT at e;split at e
   .cases e
   .exact BA e
  rcases c with⟨a,_⟩|⟨_,⟨a,_⟩|⟨_,_,_,_,c9⟩⟩
  .rw[a] at D;cases D
  .rw[a] at D;cases D
  .have:=hx.2;omega
 .have hjf:j=(zj x).size:=by
   exact LT
  have he:g.done++[x]++left=g.done++g.left:=by rw[hl];simp
  refine⟨hm.new,hm.lt,hm.yi,hm.old,hm.qy,hm.lo,hm.hi,?_,by show ∀ z∈g.done++[x]++left,_;rw[he];exact hm.ok,by show(g.done++[x]++left).foldl _ _=_;rw[he];exact hm.held,fun k=>by have:=hm.rS k;rw[<- he] at this;exact this,by show(g.done++[x]++left).length<=_;rw[he];exact hm.len⟩;rw[YS,Bl rfl,hm.bytes,hjf,<- X,Bj];show _=zK (g.done++[x]);rw[VP]
theorem QD{d:Dir}{i:Nat}{a:ByteArray}(h:∀ e∈d,e.1≠a)(j:i<d.length):∀ k,k<=d.length->Yd d i a k=if k<=i then d.take k else d.take i++(d.take k).drop (i+1)
 | 0,_=>by simp[Yd]
 | k+1,m=>by
  have l:=QD h j k V;rw[Q5 d i a k V,l];have b:(d[k].1==a)=false:=by
   cases hb:(d[k].1==a) with
   | false=>rfl
   | true=>exact absurd (zY.1 hb) (h _ (CU _))
  have c:d.take (k+1)=d.take k++[d[k]]:=by rw[yP,CS V];rfl
  by_cases f:k+1<=i
  .rw[Bl V,Bl f,Bl ⟨V,b⟩,c]
  .rw[CW f]
   by_cases g:k=i
   .subst g
    rw[Bl (CP _),CW (fun x=>x.1 rfl),Bz,BT aR,Bz]
   .rw[CW V,Bl ⟨g,b⟩,c,Be,yr aR]
theorem JA{d:Dir}{a:ByteArray}(c:∀ e∈d,e.1≠a)(b:i<d.length):d.sV i a=d.take i++d.drop (i+1)++[(a,d[i].2)]:=by
 unfold Dir.sV;rw[QD c b d.length (CP _),CW V,Bj,CS b]
def Lay.qn(y:Lay)(g:MgM)(i f:Nat):Lay:={y with new:=none,sH:=y.sH++y.base.toList.map (fun b=>(true,b.1,b.2.1))++((y.G.take i).drop y.i).map (fun e=>(false,e.1,e.2.1)),base:=some (g.number,f,g.done),i:=i}
theorem JB{p t k:Nat}(h:Lk M y p t k){f:Nat}(hm:Mgx M y g i f)(hl:g.left=[])(A:(M.uV f).uZ=(M.uV f).bytes.length) :
 ∃ n,M.uX.oH zg=some n/\(M.uX.sV n (zt true g.number)).length<=t/\Snd M (y.qn g i f) (M.uX.sV n (zt true g.number)) (y.qn g i f).z/\(∀ r d,(M.sX (M.uX.sV n (zt true g.number)) r d).sW=M.sW):=by
 have K:(zg,f)∈M.uX:=by
  rw[h.ri.rJ.mem_iff];unfold Dl.uX;simp only[CV,Bb,Z1];exact .inr ⟨f,hm.new,rfl⟩
 obtain⟨n,hn,D,C,j⟩:=OI h.tT K;have q:∀ e∈M.uX,e.1≠zt true g.number:=fun e a x=>by
  have m:e.1∈(y.z.sS y.G).map ZX:=by
   rw[<- Dl.tT,<- (h.ri.rJ.map Prod.fst).mem_iff];exact BW a
  obtain⟨c,N,T⟩:=Bb.1 m;have X:c=some (true,g.number):=VE (T.trans x);subst X;unfold Dl.sS at N;simp only[CV,Bb,Z1] at N;rcases N with((⟨e,a,m⟩|⟨e,a,m⟩)|⟨e,a,m⟩)|⟨e,_,m⟩
  .simp only[BZ,Ak] at m
   obtain⟨_,b',v,X⟩:=h.ri.low e a;have:=hm.old b' v;omega
  .simp only[BZ,Ak] at m
   have:=hm.old e a;omega
  .simp at m
  .cases m
 have l:=JA q hn;rw[C] at l;have a0:=hm.yi;have J:=hm.lt;refine⟨n,D,?_,?_,fun r d=>?_⟩
 .rw[l,CN,CN,CR,Bc,CQ]
  have:=h.bd.uX;omega
 .have hp0:=h.ri.rJ
  have e2:y.z.uX y.G=y.sH.map Xn++y.base.toList.map YF++(y.G.drop y.i).map Y0++[(zg,f)]:=by
   show y.sH.map Xn++y.base.toList.map YF++((y.G.take y.G.length).drop y.i).map Y0++y.new.toList.map _=_;rw[Bj,hm.new]
   rfl
  rw[e2] at hp0;have o:(M.uX.take n++M.uX.drop (n+1)).Perm (y.sH.map Xn++y.base.toList.map YF++(y.G.drop y.i).map Y0) :=
   ((j.symm.trans hp0).trans yH).cons_inv
  have e3:(y.qn g i f).z.uX (y.qn g i f).G=y.sH.map Xn++y.base.toList.map YF++((y.G.take i).drop y.i).map Y0++[(zt true g.number,f)]++(y.G.drop i).map Y0:=by
   show(y.sH++y.base.toList.map _++((y.G.take i).drop y.i).map _).map Xn++[YF (g.number,f,g.done)]++((y.G.take y.G.length).drop i).map Y0++[]=_;rw[Bj,Bz,Bq,Bq,Al,Al]
   rfl
  have S:y.G.drop y.i=(y.G.take i).drop y.i++y.G.drop i:=by
   conv=>lhs;rw[<- Bo i y.G,yr aR]
  have u:∀ e∈(y.qn g i f).sH,1<=e.2.1/\e.2.1<g.number:=fun e a=>by
   have B:e∈y.sH++y.base.toList.map (fun b=>(true,b.1,b.2.1))++((y.G.take i).drop y.i).map (fun e=>(false,e.1,e.2.1)):=a;simp only[CV,Bb,Z1] at B;rcases B with(a|⟨b,s,rfl⟩)|⟨x,R,rfl⟩
   .obtain⟨m,b,s,T⟩:=h.ri.low e a
    have:=hm.old b s;omega
   .exact⟨(h.ri.base b s).qy,hm.old b s⟩
   .have hx2:=Bx R
    exact⟨(h.qw x (BN hx2)).1,hm.lo x hx2⟩
  refine⟨?_,xD J,CP _,fun e a=>⟨(u e a).1,_,rfl,(u e a).2⟩,?_,fun b s=>?_,(fun s=>by cases s),?_,fun e a=>?_⟩
  .rw[e3,l]
   rw[S,Bq,<- Be] at o;refine(o.append_right _).trans ?_;rw[Be _ _ [(zt true g.number,f)],Be _ [(zt true g.number,f)] _];exact wW _ yH
  .have hnd:=h.ri.pX h.rp
   rw[TG] at hnd;refine List.Sublist.nodup ?_ hnd;show((y.sH++y.base.toList.map (fun b=>(true,b.1,b.2.1))++((y.G.take i).drop y.i).map (fun e=>(false,e.1,e.2.1))).map (fun e:Bool × Nat × Nat=>e.2.1)).Sublist (y.sH.map (fun e:Bool × Nat × Nat=>e.2.1)++y.base.toList.map (fun b:Nat × Nat × List Fact=>b.1)++((y.G.take y.G.length).drop y.i).map (fun e:Ent=>e.1));rw[Bj,Bq,Bq,Al,Al,S,Bq];exact List.Sublist.append_left (List.sublist_append_left _ _) _
  .have v:b=(g.number,f,g.done):=(BA s).symm
   subst v;have Q:g.done++g.left=g.done:=by rw[hl,Bz]
   have hh:=hm.held;have hf:=hm.rS;have G:=hm.len;have L:=hm.ok;rw[Q] at hh hf G L;exact⟨J,hm.qy,hm.lo,hm.hi,hm.bytes,A,fun e a x=>h.rN e a (by rw[hm.new,x]),ag,fun x R=>(L x R).1,hh,hf,G⟩
  .rw[l,Bq]
   have m:=(j.map (·.2)).nodup_iff.1 h.ri.rB;exact(yH (l₁:=[f])).nodup_iff.1 m
  .rw[l] at a
   rcases CV.1 a with a|a
   .exact h.ri.rA e (j.mem_iff.2 (CT _ a))
   .rw[CX] at a
    subst a;have:=h.ri.rA _ K;exact this
 .show((M.uX.sV n (zt true g.number)).map fun e=>(M.uV e.2).bytes.length).sum=(M.uX.map fun e=>(M.uV e.2).bytes.length).sum
  rw[l,(j.map fun e=>(M.uV e.2).bytes.length).sum_nat,Bq,yF,Bw,yf];simp only[Bw,AE,yf,uN];omega
theorem Ek{p t k:Nat}(h:Lk M y p t k)(j:y.sH=[])(i:y.new=none){b:Nat × Nat × List Fact}(a:y.base=some b):M.sW=(zK b.2.2).length+((y.G.drop y.i).map fun e=>(ZI e.2.2).length).sum:=by
 have f:M.sW=((y.z.uX y.G).map fun e=>(M.uV e.2).bytes.length).sum:=(h.ri.rJ.map fun e:ByteArray × Nat=>(M.uV e.2).bytes.length).sum_nat;rw[f];have c:y.z.uX y.G=[YF b]++(y.G.drop y.i).map Y0:=by
  show y.sH.map Xn++y.base.toList.map YF++((y.G.take y.G.length).drop y.i).map Y0++y.new.toList.map _=_;rw[j,i,a,Bj];simp
 rw[c,Bq,yF,Al];have d:([YF b].map fun e=>(M.uV e.2).bytes.length).sum=(zK b.2.2).length:=by
  simp only[Bw,AE,yf,uN,AM];show(M.uV b.2.1).bytes.length=_;rw[(h.ri.base b a).bytes]
 rw[d]
 congr 2
 refine yn fun e g=>?_;show(M.uV e.2.1).bytes.length=_;rw[h.bytes e (Bx g)]
theorem Ca{J:JM}{p t k:Nat}(h:Lk M y p t k){f:Nat}(hm:Mgx M y g i f)(hl:g.left=[])(ht:t<=980000)(hk:k<=981000) :
 ∃ l,((M.tY zg).1=0->((M.tY zg).2.sA zg (zt true g.number)).1=0->∀ b LX Q,DRep Q b LX ((M.tY zg).2.sA zg (zt true g.number)).2->(∀ L,Fr Nil Q L->Tab L)->YE Q ->
  Calls prog 144 #[E b 0] Q fun e L=>∃ v L',e=.returned v/\ERep L v (((M.tY zg).2.sA zg (zt true g.number)).2.sR l).1/\DStep b LX ((M.tY zg).2.sA zg (zt true g.number)).2 Q L' (((M.tY zg).2.sA zg (zt true g.number)).2.sR l).2 L) /\
  (M.tY zg).2.tB.length+1<=1000000000000/\(M.tY zg).2.uX.length+1<=1000000000000 /\
  ∃ e T o y',J.tG M (zt true g.number) l=(e,T,o)/\Lg o y' p (t+2)/\y'.F=y.F/\Ans M o e/\o.room=M.room/\o.tL=M.tL/\e≠some 10 /\
   (e=none->y'.new=none/\T.limit=J.limit/\(Jl J M y->Jl T o y')/\o.sW=(zK g.done).length+((y.G.drop i).map fun e=>(ZI e.2.2).length).sum):=by
 obtain⟨a1,_⟩:=h.pw hm.new;have a5:zt true g.number≠ByteArray.empty:=fun e=>by
  have s:=AB (fun b:ByteArray=>b.data.toList) e;simp only[zt,Wi] at s;cases s
 have b3:=h.bd.tB;have b4:=h.bd.uX;rcases Oq h.bd V V a1 with⟨q,B⟩|⟨d,q,a7⟩
 .have s:=h.qm f
  have a4:Mgx (M.qm f) y g i f:=⟨hm.new,hm.lt,hm.yi,hm.old,hm.qy,hm.lo,hm.hi,(YA M f f).trans hm.bytes,hm.ok,hm.held,hm.rS,hm.len⟩;have a8:((M.qm f).uV f).uZ=((M.qm f).uV f).bytes.length:=by rw[Vp,YA,Bl rfl]
  obtain⟨n,a0,a2,a9,b6⟩:=JB s a4 hl a8;have K:∀ r d,(M.qm f).uT<=r->r<=(M.qm f).uT+1->Lk ((M.qm f).sX ((M.qm f).uX.sV n (zt true g.number)) r d) (y.qn g i f) p t (k+2):=fun r d a b =>
   s.sX (y':=y.qn g i f) r d a b a2 rfl rfl (fun _ e=>by cases e) a9
  rw[q];rcases Jg s.bd V V a5 a0 with⟨m,a6⟩|⟨d,m,C⟩|⟨m,C⟩
  .have G:=K (M.qm f).uT (M.qm f).tJ (yO _) V
   obtain⟨l,a3,b5,b0⟩:=QA G V V;simp only[m];refine⟨l,fun _ _=>b0,?_,?_,?_⟩
   .show M.tB.length+1<=_;omega
   .show M.uX.length+1<=_;omega
   obtain⟨e3,R,j,q0,D,q2,q3,q4,q5,q6,q7,q8,q9,b7,b1,b2⟩:=OJ l G V V a3;have u:j.F=y.F:=by unfold Lay.F;rw[q2,q3];rfl
   have c:Ans M R e3:=Ans.trans (M2:=M.qm f) (Ans.ok B rfl rfl rfl) (Ans.trans (M2:=(M.qm f).sX ((M.qm f).uX.sV n (zt true g.number)) (M.qm f).uT (M.qm f).tJ) (Ans.ok a6 rfl rfl rfl) q7);unfold JM.tG;simp only[q,m,q0,ne_eq,not_true,Aa];cases e3 with
   | some x=>exact⟨some x,J,R,j,rfl,D.qp V,u,c,q8,q9,b1,fun e=>by cases e⟩
   | none =>
    obtain⟨ho,hn⟩:=b2 rfl;simp only;unfold JM.sw;rcases TD D.bd V V with⟨X,A⟩|⟨d,X,A⟩
    .simp only[X]
     have h4:=D.qu D.sD;refine⟨none,_,R.qu,j.rr,rfl,h4.qp V,(Lay.px j).trans u,c.trans (Ans.ok A rfl rfl rfl),q8,q9,ag,fun _=>⟨hn,rfl,fun hj=>⟨?_,fun _=>⟨rfl,rfl⟩⟩,?_⟩⟩
     .show({J with tQ:=_}:JM)=JM.on J.limit j.rr.G _
      rw[D.pO,q3];show _=JM.on J.limit y.G _;rw[<- JM.pT J.limit y.G J.tQ,<- hj.1]
     .have hb3:j.rr.base=some (g.number,f,g.done):=q4
      have:=Ek h4 (show j.rr.sH=[] from ho) (show j.rr.new=none from hn) hb3;rw[this];have e5:j.rr.G.drop j.rr.i=y.G.drop i:=by
       show(j.G.drop j.i).drop 0=_;rw[Au,q3,q5]
       rfl
      rw[e5]
    .simp only[X]
     exact⟨some 9,_,R.no d,j,rfl,(D.no d).qp V,u,c.trans (Ans.no A rfl rfl),q8,q9,ag,fun e=>by cases e⟩
  .simp only[m]
   refine⟨[],fun _ e=>absurd e O,?_,?_,some 9,J,(M.qm f).no d,y,?_,(s.no d).qp V,rfl,(Ans.ok B rfl rfl rfl:Ans M (M.qm f) none).trans (Ans.no C rfl rfl),rfl,rfl,ag,fun e=>by cases e⟩
   .show M.tB.length+1<=_;omega
   .show M.uX.length+1<=_;omega
   .unfold JM.tG
    rw[q];simp only[m,ne_eq,not_true,Aa]
    rfl
  .simp only[m]
   have G:=K ((M.qm f).uT+1) true V V;refine⟨[],fun _ e=>absurd e O,?_,?_,some 9,J,_,y.qn g i f,?_,G.qp V,rfl,(Ans.ok B rfl rfl rfl:Ans M (M.qm f) none).trans (Ans.sX C),rfl,rfl,ag,fun e=>by cases e⟩
   .show M.tB.length+1<=_;omega
   .show M.uX.length+1<=_;omega
   .unfold JM.tG
    rw[q];simp only[m,ne_eq,not_true,Aa]
    rfl
 .rw[q]
  refine⟨[],fun e=>absurd e (fun h=>by have G:(9:Int)=0:=h;omega),?_,?_,some 9,J,M.no d,y,?_,(h.no d).qp V,rfl,Ans.no a7 rfl rfl,rfl,rfl,ag,fun e=>by cases e⟩
  .show M.tB.length+1<=_;omega
  .show M.uX.length+1<=_;omega
  .unfold JM.tG
   rw[q]
   rfl
end Go.Proofs.YtkhnggkkiefcdaaGreatDoor
