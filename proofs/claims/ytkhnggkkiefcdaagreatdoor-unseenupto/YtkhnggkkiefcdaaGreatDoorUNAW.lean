/- larder: joined texts -/
import Derived.Test.YtkhnggkkiefcdaaGreatDoorUNAG
import Derived.Test.YtkhnggkkiefcdaaGreatDoorUNAI
import Derived.Test.YtkhnggkkiefcdaaGreatDoorUNAQ
import Derived.Test.YtkhnggkkiefcdaaGreatDoorUNAS
import Derived.Test.YtkhnggkkiefcdaaGreatDoorUNAT
import Derived.Test.YtkhnggkkiefcdaaGreatDoorUNAV
namespace Go.Proofs.YtkhnggkkiefcdaaGreatDoor
open Go.RowKit
set_option maxRecDepth 100000
set_option maxHeartbeats 8000000
def Wrote(i f d a:Nat)(j:Value)(left:List Fact)(L:DL)(M:DM)(w:World)(r:Int)(h:DM)(e:Ending)(c:World):Prop :=
 ∃ v g b,e=.returned v/\ERep c v (zE r)/\DRep c d g h/\Fr (fun k=>k=i\/Foot d L M k) w c/\(∀ k,Foot d g h k->Foot d L M k\/w.heap.size<=k)/\Blk c i [.pointer (some ⟨f,0,none⟩),b,.int .i64 a] 201/\(r=0->ZB c b left)/\(r≠0->b=j)
theorem FRep.kept{S:Nat->Prop}{w b:World}{v:Value}{x:Fact}(a:FRep w v x)(f:Fr S w b)(c:∀ k,Ty w k 37->¬S k):FRep b v x:=by
 rcases x with n|x|x|x
 .exact a
 .obtain⟨lv,e,hl⟩:=a
  exact⟨lv,e,VRow.fr hl f (fun k d=>c k (zH hl d))⟩
 .exact a
 .exact a
theorem ZB.cons{w:World}{E:Value}{x:Fact}{l:List Fact}(h:ZB w E (x::l)):∃ g k c u,E=.slice (some ⟨g,k,none⟩) (l.length+1) c/\l.length+1<=c/\w.cell? ⟨g,k,none⟩=some u/\FRep w u x/\(∀ v S,Fr S w v->(∀ k t,Ty w k t->MTy t->¬S k)->v.cell? ⟨g,k,none⟩=some u) /\
 ∀ e:Value,(1<c->e=.slice (some ⟨g,k+1,none⟩) l.length (c-1))->(c=1->∃ a G,e=.slice a 0 G)->ZB w e l:=by
 obtain⟨g,k,d,Q,m,I,T,B⟩:=h;have A:=I (by simp);obtain⟨R,y,D,o,_⟩:=zv m (by simp only[Iz];omega);simp only[GE,Hi,Cg,DK] at D;obtain⟨_,_,rfl⟩:=D;simp only[Iz] at m A o;obtain⟨u,s,O⟩:=B 0 (by simp);rw[Fs] at s;refine⟨g,k,d-k,u,A,by omega,own_cell? m k u s,O,fun v S f L=>own_cell? (ze m f (fun i q=>L i _ (zH m q) (.inr (.inr (.inl rfl))))) k u s,fun e C M=>⟨g,k+1,d,Q,?_,fun r=>?_,fun r=>?_,fun i q=>?_⟩⟩
 .rw[show k+1+l.length=k+(l.length+1) by omega]
  exact m
 .have hlp:=DD.2 r
  rw[C (by omega),show d-k-1=d-(k+1) by omega]
 .by_cases hc:d-k=1
  .exact M hc
  .exact⟨_,_,by rw[C (by omega),r];rfl⟩
 .obtain⟨u',hu',hf'⟩:=B (i+1) (by simpa using q)
  refine⟨u',by rw[show k+1+i=k+(i+1) by omega];exact hu',?_⟩
  simpa using hf'
theorem Sy(q o jb E B m:Nat)(J:JM)(L:DL)(M:DM)(n:Nat)(left:List Fact)(lv:Value)(w:World)(hm:Blk w q [.pointer (some ⟨o,0,none⟩),lv,.int .i64 m] 201)(a4:Blk w o [.pointer (some ⟨jb,0,none⟩),.int .i64 B] 250)(hl:ZB w lv ((Sum.inl n:Fact)::left))
 (hj:JRep w jb E J)(hd:DRep w E L M)(hp:0<=M.part)(b1:FOk (Sum.inl n:Fact))(b0:(zj (Sum.inl n:Fact)).size<=1000000000000)(a5:∀ f,f∈M.ids->(M.file f).bytes.length<=1000000000000)(c8:left.length<1000000000) :
 Calls Tryz.prog 136 #[.pointer (some ⟨q,0,none⟩)] w (Wrote q o E m lv left L M w (M.add zf (zj (Sum.inl n:Fact))).1 (M.add zf (zj (Sum.inl n:Fact))).2):=by
 obtain⟨g,k,c,u,rfl,b9,c0,a6,A,I⟩:=hl.cons;have c3:u=.iface 220 (.agg #[.int .i64 n]):=a6;subst c3;have HR:=Z (fun l (_:Fr Nil w l)=>U7 n b1 l);have HA:=Z (fun l (f:Fr Nil w l)=>Xb o jb E B J L M (zj (Sum.inl n:Fact)) l (a4.fr f id) (Blk.fr hj f id) (hd.nil f) hp b0 a5);generalize X:zj (Sum.inl n:Fact)=K at HA |-;have b7:Hid (zp (Xw n)=K):=X;have c9:=QM;have HK:Hid (∀ l,Fr Nil w l->l.cell? ⟨q,0,none⟩=some (.pointer (some ⟨o,0,none⟩))/\l.cell? ⟨q,1,none⟩=some (.slice (some ⟨g,k,none⟩) (left.length+1) c)/\l.cell? ⟨g,k,none⟩=some (.iface 220 (.agg #[.int .i64 n]))):=fun l f=>⟨(hm.fr f id).cell 0,(hm.fr f id).cell 1,A l Nil f (fun _ _ _ _=>id)⟩;have a1:∀ {k t},Ty w k t->¬DTy t->¬Foot E L M k:=fun Q hn=>hd.apart Q hn;have N:Hid (∀ l w1 L' R,Fr Nil w l->DStep E L M l L' (M.add zf K).2 w1->Fr Nil w1 R->Blk R q [.pointer (some ⟨o,0,none⟩),.slice (some ⟨g,k,none⟩) (left.length+1) c,.int .i64 m] 201/\R.cell? ⟨g,k,none⟩=some (.iface 220 (.agg #[.int .i64 n]))):=fun l w1 L' R f s f2=>by
  have F:Fr (Foot E L M) w R:=((f.mono (S':=Foot E L M) (fun _ _ e=>absurd e id)).trans s.fr).trans (f2.mono (fun _ _ e=>absurd e id));refine⟨hm.fr F (a1 hm.ty (by unfold DTy;decide)),A R _ F (fun i t Q hM=>?_)⟩;unfold MTy at hM;rcases hM with rfl|rfl|rfl|rfl <;> exact a1 Q (by unfold DTy;decide)
 have HL:=Z hl;have HN:=Z I;have HD:=Z hd;have HC:=Z b9;have a7:=HK.out w (U _ _);clear hm a4 hl hj hd hp b0 a5 A I X a6 c0 a1 b1;go_enter CI,Cl;go_wp2_with fail
 go_region_held3 (fun l=>l.cell? ⟨q,0,none⟩=some (.pointer (some ⟨o,0,none⟩))/\l.cell? ⟨q,1,none⟩=some (.slice (some ⟨g,k,none⟩) (left.length+1) c)/\l.cell? ⟨g,k,none⟩=some (.iface 220 (.agg #[.int .i64 n]))) (first|assumption|go_keep|exact HK.out _ zd)
  (first
  | (go_at_call 171;refine(HA.out _ (d.trans zd)).mono ?_;rintro e D ⟨v3,L3,rfl,b,j⟩;have b2:D.cell? ⟨q,0,none⟩=some (.pointer (some ⟨o,0,none⟩))/\D.cell? ⟨q,1,none⟩=some (.slice (some ⟨g,k,none⟩) (left.length+1) c)/\D.cell? ⟨g,k,none⟩=some (.iface 220 (.agg #[.int .i64 n])):=⟨(N.out _ _ _ _ (d.trans zd) j (U _ _)).1.cell 0,(N.out _ _ _ _ (d.trans zd) j (U _ _)).1.cell 1,(N.out _ _ _ _ (d.trans zd) j (U _ _)).2⟩;have b3:=Z (fun R (f:Fr Nil D R)=>(N.out _ _ _ R (d.trans zd) j f).1);have C:=Z b;have x:Hid (DStep E L M w L3 (M.add zf K).2 D):=j.of (d.trans zd);clear b j)
  | (go_at_call 307;refine(HR.out _ zd).mono ?_;rintro e w2 ⟨rfl,c2⟩;have d:Fr Nil w w2:=Fr.trans zd c2;have d1:=HK.out w2 d;rw[b7.out]))
 generalize a9:(M.add zf K).1=r at C;have a0:=Z a9;clear a9;have a2:Hid (Fr (fun k=>k=q\/Foot E L M k) w D):=x.out.fr.mono (fun _ _ e=>.inr e);have y:=b3.out D (U _ _);by_cases h0:r=0
 .have b:=C.out
  unfold zE at b;rw[IC h0] at b;have hv:v3=.nilIface:=b;subst hv;have O:=Z h0;have b8:=y.cell;have d0:=y.frozen;have c4:(1:Int)<=((left.length:Int)+1):=by omega
  have V:Fr (Foot E L M) w D:=x.out.fr;have Y:Hid (∀ v:Value,(1<c->v=.slice (some ⟨g,k+1,none⟩) left.length (c-1))->(c=1->∃ a c',v=.slice a 0 c')->Wrote q o E m (.slice (some ⟨g,k,none⟩) (left.length+1) c) left L M w r (M.add zf K).2 (.returned .nilIface) (D.setCell ⟨q,1,none⟩ v)):=fun v ha hb=>by
   have fs:Fr (fun k=>k=q) D (D.setCell ⟨q,1,none⟩ v):=Fr.set (S:=fun k=>k=q) (p:=⟨q,1,none⟩) (U _ _) (fun _=>rfl) _;have G:∀ {k t},Ty D k t->t≠201->¬k=q:=fun Q hn e=>by subst e;exact hn (Q.inj y.ty)
   refine⟨.nilIface,L3,v,rfl,by rw[O.out];rfl,x.out.Bt.fr fs (fun k hk=>?_),a2.out.trans (fs.mono (fun _ _ e=>.inl e)),x.out.BF,by simpa using y.set 1 v,fun _=>?_,fun e=>absurd O.out e⟩
   .obtain⟨t,Q,hd⟩:=x.out.Bt.ty hk
    unfold DTy at hd;refine G Q ?_;rcases hd with rfl|rfl|rfl|rfl|rfl <;> decide
   .have h1:=HN.out v ha hb
    have h2:=h1.fr V (fun i t Q hM=>by
     unfold MTy at hM;rcases hM with rfl|rfl|rfl|rfl <;> exact HD.out.apart Q (by unfold DTy;decide))
    obtain⟨g',k',a3,c7,q1,q2,q3,q4⟩:=h2;refine⟨g',k',a3,c7,ze q1 fs (fun i hi=>G (zH q1 hi) (by decide)),q2,q3,fun i hi=>?_⟩;obtain⟨u',c6,c1⟩:=q4 i hi;exact⟨u',c6,c1.kept fs (fun k hk=>G hk (by decide))⟩
  clear b C h0 y V b2 a7;by_cases T:c=1
  .subst T
   have c5:left.length=0:=by have:=HC.out;omega
   rw[c5] at b8 c4 Y;go_wp2_with fail;go_ret;rw[a0.out];exact Y.out _ (fun h=>absurd h (by decide)) (fun _=>⟨_,_,rfl⟩)
  .have hcg:1<c:=by have:=HC.out;omega
   go_wp2_with fail;go_ret;rw[a0.out];exact Y.out _ (fun _=>rfl) (fun h=>absurd h T)
 .have b:=C.out
  unfold zE at b;rw[It h0] at b;have O:=Z h0;have b6:=Z C.out;obtain⟨k5,a8⟩:∃ k,Zo D r k v3:=b;obtain⟨t5,b5,rfl⟩:=a8.form;have b4:=Z y;clear a8 h0 y b2 a7 C;go_wp2_with fail;go_ret;rw[a0.out];exact⟨_,L3,_,rfl,b6.out,x.out.Bt,a2.out,x.out.BF,b4.out,fun e=>absurd e O.out,fun _=>rfl⟩
theorem Sz(v q jb I D o:Nat)(J:JM)(L:DL)(M:DM)(b:ByteArray)(R:List Ver)(left:List Fact)(lv:Value)(w:World)(hm:Blk w v [.pointer (some ⟨q,0,none⟩),lv,.int .i64 o] 201)(a9:Blk w q [.pointer (some ⟨jb,0,none⟩),.int .i64 D] 250)(hl:ZB w lv ((Sum.inr (Sum.inl (b,R)):Fact)::left))
 (hj:JRep w jb I J)(hd:DRep w I L M)(hp:0<=M.part)(O:FOk (Sum.inr (Sum.inl (b,R)):Fact))(b6:(zj (Sum.inr (Sum.inl (b,R)):Fact)).size<=1000000000000)(b0:∀ f,f∈M.ids->(M.file f).bytes.length<=1000000000000)(d2:left.length<1000000000) :
 Calls Tryz.prog 136 #[.pointer (some ⟨v,0,none⟩)] w (Wrote v q I o lv left L M w (M.add zf (zj (Sum.inr (Sum.inl (b,R)):Fact))).1 (M.add zf (zj (Sum.inr (Sum.inl (b,R)):Fact))).2):=by
 obtain⟨g,k,c,u,rfl,c3,c4,b1,C,N⟩:=hl.cons;obtain⟨x,c7,a3⟩:∃ x,u=.iface 193 (.agg #[.string b,x])/\VRow w x R:=id b1;subst c7;have HR:=Z (fun m (f:Fr Nil w m)=>U9 b x R O.1 O.2.1 O.2.2.1 m (VRow.fr a3 f (fun _ _=>id)) O.2.2.2);clear a3;have HA:=Z (fun m (f:Fr Nil w m)=>Xb q jb I D J L M (zj (Sum.inr (Sum.inl (b,R)):Fact)) m (a9.fr f id) (Blk.fr hj f id) (hd.nil f) hp b6 b0);generalize a2:zj (Sum.inr (Sum.inl (b,R)):Fact)=Q at HA |-;have c1:Hid (zp (Xx b R)=Q):=a2;have d3:=QN;have HK:Hid (∀ m,Fr Nil w m->m.cell? ⟨v,0,none⟩=some (.pointer (some ⟨q,0,none⟩))/\m.cell? ⟨v,1,none⟩=some (.slice (some ⟨g,k,none⟩) (left.length+1) c)/\m.cell? ⟨g,k,none⟩=some (.iface 193 (.agg #[.string b,x]))):=fun m f=>⟨(hm.fr f id).cell 0,(hm.fr f id).cell 1,C m Nil f (fun _ _ _ _=>id)⟩;have a6:∀ {k t},Ty w k t->¬DTy t->¬Foot I L M k:=fun X hn=>hd.apart X hn;have T:Hid (∀ m w1 L' Y,Fr Nil w m->DStep I L M m L' (M.add zf Q).2 w1->Fr Nil w1 Y->Blk Y v [.pointer (some ⟨q,0,none⟩),.slice (some ⟨g,k,none⟩) (left.length+1) c,.int .i64 o] 201/\Y.cell? ⟨g,k,none⟩=some (.iface 193 (.agg #[.string b,x]))):=fun m w1 L' Y f s f2=>by
  have F:Fr (Foot I L M) w Y:=((f.mono (S':=Foot I L M) (fun _ _ e=>absurd e id)).trans s.fr).trans (f2.mono (fun _ _ e=>absurd e id));refine⟨hm.fr F (a6 hm.ty (by unfold DTy;decide)),C Y _ F (fun i t X hM=>?_)⟩;unfold MTy at hM;rcases hM with rfl|rfl|rfl|rfl <;> exact a6 X (by unfold DTy;decide)
 have HL:=Z hl;have HN:=Z N;have HD:=Z hd;have HC:=Z c3;have b2:=HK.out w (U _ _);clear hm a9 hl hj hd hp b6 b0 C N a2 b1 c4 a6 O;go_enter CI,Cl;go_wp2_with fail
 go_region_held3 (fun m=>m.cell? ⟨v,0,none⟩=some (.pointer (some ⟨q,0,none⟩))/\m.cell? ⟨v,1,none⟩=some (.slice (some ⟨g,k,none⟩) (left.length+1) c)/\m.cell? ⟨g,k,none⟩=some (.iface 193 (.agg #[.string b,x]))) (first|assumption|go_keep|exact HK.out _ zd)
  (first
  | (go_at_call 171;refine(HA.out _ (j.trans zd)).mono ?_;rintro e G ⟨v3,L3,rfl,d,l⟩;have b7:G.cell? ⟨v,0,none⟩=some (.pointer (some ⟨q,0,none⟩))/\G.cell? ⟨v,1,none⟩=some (.slice (some ⟨g,k,none⟩) (left.length+1) c)/\G.cell? ⟨g,k,none⟩=some (.iface 193 (.agg #[.string b,x])):=⟨(T.out _ _ _ _ (j.trans zd) l (U _ _)).1.cell 0,(T.out _ _ _ _ (j.trans zd) l (U _ _)).1.cell 1,(T.out _ _ _ _ (j.trans zd) l (U _ _)).2⟩;have b8:=Z (fun Y (f:Fr Nil G Y)=>(T.out _ _ _ Y (j.trans zd) l f).1);have E:=Z d;have A:Hid (DStep I L M w L3 (M.add zf Q).2 G):=l.of (j.trans zd);clear d l)
  | (go_at_call 286;refine(HR.out _ zd).mono ?_;rintro e w2 ⟨rfl,c6⟩;have j:Fr Nil w w2:=Fr.trans zd c6;have d5:=HK.out w2 j;rw[c1.out]))
 generalize b4:(M.add zf Q).1=r at E;have a5:=Z b4;clear b4;have a7:Hid (Fr (fun k=>k=v\/Foot I L M k) w G):=A.out.fr.mono (fun _ _ e=>.inr e);have B:=b8.out G (U _ _);by_cases h0:r=0
 .have d:=E.out
  unfold zE at d;rw[IC h0] at d;have hv:v3=.nilIface:=d;subst hv;have V:=Z h0;have c2:=B.cell;have d4:=B.frozen;have c8:(1:Int)<=((left.length:Int)+1):=by omega
  have a1:Fr (Foot I L M) w G:=A.out.fr;have a4:Hid (∀ y:Value,(1<c->y=.slice (some ⟨g,k+1,none⟩) left.length (c-1))->(c=1->∃ a c',y=.slice a 0 c')->Wrote v q I o (.slice (some ⟨g,k,none⟩) (left.length+1) c) left L M w r (M.add zf Q).2 (.returned .nilIface) (G.setCell ⟨v,1,none⟩ y)):=fun y ha hb=>by
   have fs:Fr (fun k=>k=v) G (G.setCell ⟨v,1,none⟩ y):=Fr.set (S:=fun k=>k=v) (p:=⟨v,1,none⟩) (U _ _) (fun _=>rfl) _;have K:∀ {k t},Ty G k t->t≠201->¬k=v:=fun X hn e=>by subst e;exact hn (X.inj B.ty)
   refine⟨.nilIface,L3,y,rfl,by rw[V.out];rfl,A.out.Bt.fr fs (fun k hk=>?_),a7.out.trans (fs.mono (fun _ _ e=>.inl e)),A.out.BF,by simpa using B.set 1 y,fun _=>?_,fun e=>absurd V.out e⟩
   .obtain⟨t,X,hd⟩:=A.out.Bt.ty hk
    unfold DTy at hd;refine K X ?_;rcases hd with rfl|rfl|rfl|rfl|rfl <;> decide
   .have h1:=HN.out y ha hb
    have h2:=h1.fr a1 (fun i t X hM=>by
     unfold MTy at hM;rcases hM with rfl|rfl|rfl|rfl <;> exact HD.out.apart X (by unfold DTy;decide))
    obtain⟨g',k',a8,d1,q1,q2,q3,q4⟩:=h2;refine⟨g',k',a8,d1,ze q1 fs (fun i hi=>K (zH q1 hi) (by decide)),q2,q3,fun i hi=>?_⟩;obtain⟨u',d0,c5⟩:=q4 i hi;exact⟨u',d0,c5.kept fs (fun k hk=>K hk (by decide))⟩
  clear d E h0 B a1 b7 b2;by_cases a0:c=1
  .subst a0
   have c9:left.length=0:=by have:=HC.out;omega
   rw[c9] at c2 c8 a4;go_wp2_with fail;go_ret;rw[a5.out];exact a4.out _ (fun h=>absurd h (by decide)) (fun _=>⟨_,_,rfl⟩)
  .have hcg:1<c:=by have:=HC.out;omega
   go_wp2_with fail;go_ret;rw[a5.out];exact a4.out _ (fun _=>rfl) (fun h=>absurd h a0)
 .have d:=E.out
  unfold zE at d;rw[It h0] at d;have V:=Z h0;have c0:=Z E.out;obtain⟨k5,b3⟩:∃ k,Zo G r k v3:=d;obtain⟨t5,b5,rfl⟩:=b3.form;have b9:=Z B;clear b3 h0 B b7 b2 E;go_wp2_with fail;go_ret;rw[a5.out];exact⟨_,L3,_,rfl,c0.out,A.out.Bt,a7.out,A.out.BF,b9.out,fun e=>absurd e V.out,fun _=>rfl⟩
theorem S4(x v jb I D q:Nat)(J:JM)(L:DL)(M:DM)(d:Nat)(b:ByteArray)(left:List Fact)(lv:Value)(w:World)(hm:Blk w x [.pointer (some ⟨v,0,none⟩),lv,.int .i64 q] 201)(a7:Blk w v [.pointer (some ⟨jb,0,none⟩),.int .i64 D] 250)(hl:ZB w lv ((Sum.inr (Sum.inr (Sum.inl (d,b))):Fact)::left))
 (hj:JRep w jb I J)(hd:DRep w I L M)(hp:0<=M.part)(a4:FOk (Sum.inr (Sum.inr (Sum.inl (d,b))):Fact))(b3:(zj (Sum.inr (Sum.inr (Sum.inl (d,b))):Fact)).size<=1000000000000)(a8:∀ f,f∈M.ids->(M.file f).bytes.length<=1000000000000)(d0:left.length<1000000000) :
 Calls Tryz.prog 136 #[.pointer (some ⟨x,0,none⟩)] w (Wrote x v I q lv left L M w (M.add zf (zj (Sum.inr (Sum.inr (Sum.inl (d,b))):Fact))).1 (M.add zf (zj (Sum.inr (Sum.inr (Sum.inl (d,b))):Fact))).2):=by
 obtain⟨g,k,c,u,rfl,c1,c2,a9,C,N⟩:=hl.cons;have c5:u=.iface 138 (.agg #[.int .i64 d,.string b]):=a9;subst c5;have HR:=Z (fun o (_:Fr Nil w o)=>VS d b a4.1 a4.2 o);have HA:=Z (fun o (f:Fr Nil w o)=>Xb v jb I D J L M (zj (Sum.inr (Sum.inr (Sum.inl (d,b))):Fact)) o (a7.fr f id) (Blk.fr hj f id) (hd.nil f) hp b3 a8);generalize a0:zj (Sum.inr (Sum.inr (Sum.inl (d,b))):Fact)=O at HA |-;have b9:Hid (zp (XK d b)=O):=a0;have d1:=SQ;have HK:Hid (∀ o,Fr Nil w o->o.cell? ⟨x,0,none⟩=some (.pointer (some ⟨v,0,none⟩))/\o.cell? ⟨x,1,none⟩=some (.slice (some ⟨g,k,none⟩) (left.length+1) c)/\o.cell? ⟨g,k,none⟩=some (.iface 138 (.agg #[.int .i64 d,.string b]))):=fun o f=>⟨(hm.fr f id).cell 0,(hm.fr f id).cell 1,C o Nil f (fun _ _ _ _=>id)⟩;have a3:∀ {k t},Ty w k t->¬DTy t->¬Foot I L M k:=fun T hn=>hd.apart T hn;have Q:Hid (∀ o w1 L' V,Fr Nil w o->DStep I L M o L' (M.add zf O).2 w1->Fr Nil w1 V->Blk V x [.pointer (some ⟨v,0,none⟩),.slice (some ⟨g,k,none⟩) (left.length+1) c,.int .i64 q] 201/\V.cell? ⟨g,k,none⟩=some (.iface 138 (.agg #[.int .i64 d,.string b]))):=fun o w1 L' V f s f2=>by
  have F:Fr (Foot I L M) w V:=((f.mono (S':=Foot I L M) (fun _ _ e=>absurd e id)).trans s.fr).trans (f2.mono (fun _ _ e=>absurd e id));refine⟨hm.fr F (a3 hm.ty (by unfold DTy;decide)),C V _ F (fun i t T hM=>?_)⟩;unfold MTy at hM;rcases hM with rfl|rfl|rfl|rfl <;> exact a3 T (by unfold DTy;decide)
 have HL:=Z hl;have HN:=Z N;have HD:=Z hd;have HC:=Z c1;have b0:=HK.out w (U _ _);clear hm a7 hl hj hd hp b3 a8 C N a0 a9 c2 a3 a4;go_enter CI,Cl;go_wp2_with fail
 go_region_held3 (fun o=>o.cell? ⟨x,0,none⟩=some (.pointer (some ⟨v,0,none⟩))/\o.cell? ⟨x,1,none⟩=some (.slice (some ⟨g,k,none⟩) (left.length+1) c)/\o.cell? ⟨g,k,none⟩=some (.iface 138 (.agg #[.int .i64 d,.string b]))) (first|assumption|go_keep|exact HK.out _ zd)
  (first
  | (go_at_call 171;refine(HA.out _ (l.trans zd)).mono ?_;rintro e G ⟨v3,L3,rfl,j,m⟩;have b4:G.cell? ⟨x,0,none⟩=some (.pointer (some ⟨v,0,none⟩))/\G.cell? ⟨x,1,none⟩=some (.slice (some ⟨g,k,none⟩) (left.length+1) c)/\G.cell? ⟨g,k,none⟩=some (.iface 138 (.agg #[.int .i64 d,.string b])):=⟨(Q.out _ _ _ _ (l.trans zd) m (U _ _)).1.cell 0,(Q.out _ _ _ _ (l.trans zd) m (U _ _)).1.cell 1,(Q.out _ _ _ _ (l.trans zd) m (U _ _)).2⟩;have b6:=Z (fun V (f:Fr Nil G V)=>(Q.out _ _ _ V (l.trans zd) m f).1);have E:=Z j;have A:Hid (DStep I L M w L3 (M.add zf O).2 G):=m.of (l.trans zd);clear j m)
  | (go_at_call 282;refine(HR.out _ zd).mono ?_;rintro e w2 ⟨rfl,c4⟩;have l:Fr Nil w w2:=Fr.trans zd c4;have d3:=HK.out w2 l;rw[b9.out]))
 generalize b2:(M.add zf O).1=r at E;have a2:=Z b2;clear b2;have a5:Hid (Fr (fun k=>k=x\/Foot I L M k) w G):=A.out.fr.mono (fun _ _ e=>.inr e);have B:=b6.out G (U _ _);by_cases h0:r=0
 .have j:=E.out
  unfold zE at j;rw[IC h0] at j;have hv:v3=.nilIface:=j;subst hv;have R:=Z h0;have c0:=B.cell;have d2:=B.frozen;have c6:(1:Int)<=((left.length:Int)+1):=by omega
  have Y:Fr (Foot I L M) w G:=A.out.fr;have a1:Hid (∀ y:Value,(1<c->y=.slice (some ⟨g,k+1,none⟩) left.length (c-1))->(c=1->∃ a c',y=.slice a 0 c')->Wrote x v I q (.slice (some ⟨g,k,none⟩) (left.length+1) c) left L M w r (M.add zf O).2 (.returned .nilIface) (G.setCell ⟨x,1,none⟩ y)):=fun y ha hb=>by
   have fs:Fr (fun k=>k=x) G (G.setCell ⟨x,1,none⟩ y):=Fr.set (S:=fun k=>k=x) (p:=⟨x,1,none⟩) (U _ _) (fun _=>rfl) _;have K:∀ {k t},Ty G k t->t≠201->¬k=x:=fun T hn e=>by subst e;exact hn (T.inj B.ty)
   refine⟨.nilIface,L3,y,rfl,by rw[R.out];rfl,A.out.Bt.fr fs (fun k hk=>?_),a5.out.trans (fs.mono (fun _ _ e=>.inl e)),A.out.BF,by simpa using B.set 1 y,fun _=>?_,fun e=>absurd R.out e⟩
   .obtain⟨t,T,hd⟩:=A.out.Bt.ty hk
    unfold DTy at hd;refine K T ?_;rcases hd with rfl|rfl|rfl|rfl|rfl <;> decide
   .have h1:=HN.out y ha hb
    have h2:=h1.fr Y (fun i t T hM=>by
     unfold MTy at hM;rcases hM with rfl|rfl|rfl|rfl <;> exact HD.out.apart T (by unfold DTy;decide))
    obtain⟨g',k',a6,c9,q1,q2,q3,q4⟩:=h2;refine⟨g',k',a6,c9,ze q1 fs (fun i hi=>K (zH q1 hi) (by decide)),q2,q3,fun i hi=>?_⟩;obtain⟨u',c8,c3⟩:=q4 i hi;exact⟨u',c8,c3.kept fs (fun k hk=>K hk (by decide))⟩
  clear j E h0 B Y b4 b0;by_cases X:c=1
  .subst X
   have c7:left.length=0:=by have:=HC.out;omega
   rw[c7] at c0 c6 a1;go_wp2_with fail;go_ret;rw[a2.out];exact a1.out _ (fun h=>absurd h (by decide)) (fun _=>⟨_,_,rfl⟩)
  .have hcg:1<c:=by have:=HC.out;omega
   go_wp2_with fail;go_ret;rw[a2.out];exact a1.out _ (fun _=>rfl) (fun h=>absurd h X)
 .have j:=E.out
  unfold zE at j;rw[It h0] at j;have R:=Z h0;have b8:=Z E.out;obtain⟨k5,b1⟩:∃ k,Zo G r k v3:=j;obtain⟨t5,b5,rfl⟩:=b1.form;have b7:=Z B;clear b1 h0 B b4 b0 E;go_wp2_with fail;go_ret;rw[a2.out];exact⟨_,L3,_,rfl,b8.out,A.out.Bt,a5.out,A.out.BF,b7.out,fun e=>absurd e R.out,fun _=>rfl⟩
theorem SA(q o jb E B m:Nat)(J:JM)(L:DL)(M:DM)(u0:Unit)(left:List Fact)(lv:Value)(w:World)(hm:Blk w q [.pointer (some ⟨o,0,none⟩),lv,.int .i64 m] 201)(a4:Blk w o [.pointer (some ⟨jb,0,none⟩),.int .i64 B] 250)(hl:ZB w lv ((Sum.inr (Sum.inr (Sum.inr u0)):Fact)::left))
 (hj:JRep w jb E J)(hd:DRep w E L M)(hp:0<=M.part)(b0:(zj (Sum.inr (Sum.inr (Sum.inr u0)):Fact)).size<=1000000000000)(a5:∀ f,f∈M.ids->(M.file f).bytes.length<=1000000000000)(c7:left.length<1000000000) :
 Calls Tryz.prog 136 #[.pointer (some ⟨q,0,none⟩)] w (Wrote q o E m lv left L M w (M.add zf (zj (Sum.inr (Sum.inr (Sum.inr u0)):Fact))).1 (M.add zf (zj (Sum.inr (Sum.inr (Sum.inr u0)):Fact))).2):=by
 obtain⟨g,k,c,u,rfl,b8,b9,a6,A,I⟩:=hl.cons;have c2:u=.iface 135 (.agg #[]):=a6;subst c2;have HR:=Z (fun l (_:Fr Nil w l)=>Ua l);have HA:=Z (fun l (f:Fr Nil w l)=>Xb o jb E B J L M (zj (Sum.inr (Sum.inr (Sum.inr u0)):Fact)) l (a4.fr f id) (Blk.fr hj f id) (hd.nil f) hp b0 a5);generalize X:zj (Sum.inr (Sum.inr (Sum.inr u0)):Fact)=K at HA |-;have b6:Hid (zp WH=K):=X;have c8:=QO;have HK:Hid (∀ l,Fr Nil w l->l.cell? ⟨q,0,none⟩=some (.pointer (some ⟨o,0,none⟩))/\l.cell? ⟨q,1,none⟩=some (.slice (some ⟨g,k,none⟩) (left.length+1) c)/\l.cell? ⟨g,k,none⟩=some (.iface 135 (.agg #[]))):=fun l f=>⟨(hm.fr f id).cell 0,(hm.fr f id).cell 1,A l Nil f (fun _ _ _ _=>id)⟩;have a1:∀ {k t},Ty w k t->¬DTy t->¬Foot E L M k:=fun Q hn=>hd.apart Q hn;have N:Hid (∀ l w1 L' R,Fr Nil w l->DStep E L M l L' (M.add zf K).2 w1->Fr Nil w1 R->Blk R q [.pointer (some ⟨o,0,none⟩),.slice (some ⟨g,k,none⟩) (left.length+1) c,.int .i64 m] 201/\R.cell? ⟨g,k,none⟩=some (.iface 135 (.agg #[]))):=fun l w1 L' R f s f2=>by
  have F:Fr (Foot E L M) w R:=((f.mono (S':=Foot E L M) (fun _ _ e=>absurd e id)).trans s.fr).trans (f2.mono (fun _ _ e=>absurd e id));refine⟨hm.fr F (a1 hm.ty (by unfold DTy;decide)),A R _ F (fun i t Q hM=>?_)⟩;unfold MTy at hM;rcases hM with rfl|rfl|rfl|rfl <;> exact a1 Q (by unfold DTy;decide)
 have HL:=Z hl;have HN:=Z I;have HD:=Z hd;have HC:=Z b8;have a7:=HK.out w (U _ _);clear hm a4 hl hj hd hp b0 a5 A I X a6 b9 a1;go_enter CI,Cl;go_wp2_with fail
 go_region_held3 (fun l=>l.cell? ⟨q,0,none⟩=some (.pointer (some ⟨o,0,none⟩))/\l.cell? ⟨q,1,none⟩=some (.slice (some ⟨g,k,none⟩) (left.length+1) c)/\l.cell? ⟨g,k,none⟩=some (.iface 135 (.agg #[]))) (first|assumption|go_keep|exact HK.out _ zd)
  (first
  | (go_at_call 171;refine(HA.out _ (d.trans zd)).mono ?_;rintro e D ⟨v3,L3,rfl,b,j⟩;have b1:D.cell? ⟨q,0,none⟩=some (.pointer (some ⟨o,0,none⟩))/\D.cell? ⟨q,1,none⟩=some (.slice (some ⟨g,k,none⟩) (left.length+1) c)/\D.cell? ⟨g,k,none⟩=some (.iface 135 (.agg #[])):=⟨(N.out _ _ _ _ (d.trans zd) j (U _ _)).1.cell 0,(N.out _ _ _ _ (d.trans zd) j (U _ _)).1.cell 1,(N.out _ _ _ _ (d.trans zd) j (U _ _)).2⟩;have b2:=Z (fun R (f:Fr Nil D R)=>(N.out _ _ _ R (d.trans zd) j f).1);have C:=Z b;have x:Hid (DStep E L M w L3 (M.add zf K).2 D):=j.of (d.trans zd);clear b j)
  | (go_at_call 274;refine(HR.out _ zd).mono ?_;rintro e w2 ⟨rfl,c1⟩;have d:Fr Nil w w2:=Fr.trans zd c1;have d0:=HK.out w2 d;rw[b6.out]))
 generalize a9:(M.add zf K).1=r at C;have a0:=Z a9;clear a9;have a2:Hid (Fr (fun k=>k=q\/Foot E L M k) w D):=x.out.fr.mono (fun _ _ e=>.inr e);have y:=b2.out D (U _ _);by_cases h0:r=0
 .have b:=C.out
  unfold zE at b;rw[IC h0] at b;have hv:v3=.nilIface:=b;subst hv;have O:=Z h0;have b7:=y.cell;have c9:=y.frozen;have c3:(1:Int)<=((left.length:Int)+1):=by omega
  have V:Fr (Foot E L M) w D:=x.out.fr;have Y:Hid (∀ v:Value,(1<c->v=.slice (some ⟨g,k+1,none⟩) left.length (c-1))->(c=1->∃ a c',v=.slice a 0 c')->Wrote q o E m (.slice (some ⟨g,k,none⟩) (left.length+1) c) left L M w r (M.add zf K).2 (.returned .nilIface) (D.setCell ⟨q,1,none⟩ v)):=fun v ha hb=>by
   have fs:Fr (fun k=>k=q) D (D.setCell ⟨q,1,none⟩ v):=Fr.set (S:=fun k=>k=q) (p:=⟨q,1,none⟩) (U _ _) (fun _=>rfl) _;have G:∀ {k t},Ty D k t->t≠201->¬k=q:=fun Q hn e=>by subst e;exact hn (Q.inj y.ty)
   refine⟨.nilIface,L3,v,rfl,by rw[O.out];rfl,x.out.Bt.fr fs (fun k hk=>?_),a2.out.trans (fs.mono (fun _ _ e=>.inl e)),x.out.BF,by simpa using y.set 1 v,fun _=>?_,fun e=>absurd O.out e⟩
   .obtain⟨t,Q,hd⟩:=x.out.Bt.ty hk
    unfold DTy at hd;refine G Q ?_;rcases hd with rfl|rfl|rfl|rfl|rfl <;> decide
   .have h1:=HN.out v ha hb
    have h2:=h1.fr V (fun i t Q hM=>by
     unfold MTy at hM;rcases hM with rfl|rfl|rfl|rfl <;> exact HD.out.apart Q (by unfold DTy;decide))
    obtain⟨g',k',a3,c6,q1,q2,q3,q4⟩:=h2;refine⟨g',k',a3,c6,ze q1 fs (fun i hi=>G (zH q1 hi) (by decide)),q2,q3,fun i hi=>?_⟩;obtain⟨u',c5,c0⟩:=q4 i hi;exact⟨u',c5,c0.kept fs (fun k hk=>G hk (by decide))⟩
  clear b C h0 y V b1 a7;by_cases T:c=1
  .subst T
   have c4:left.length=0:=by have:=HC.out;omega
   rw[c4] at b7 c3 Y;go_wp2_with fail;go_ret;rw[a0.out];exact Y.out _ (fun h=>absurd h (by decide)) (fun _=>⟨_,_,rfl⟩)
  .have hcg:1<c:=by have:=HC.out;omega
   go_wp2_with fail;go_ret;rw[a0.out];exact Y.out _ (fun _=>rfl) (fun h=>absurd h T)
 .have b:=C.out
  unfold zE at b;rw[It h0] at b;have O:=Z h0;have b4:=Z C.out;obtain⟨k5,a8⟩:∃ k,Zo D r k v3:=b;obtain⟨t5,b5,rfl⟩:=a8.form;have b3:=Z y;clear a8 h0 y b1 a7 C;go_wp2_with fail;go_ret;rw[a0.out];exact⟨_,L3,_,rfl,b4.out,x.out.Bt,a2.out,x.out.BF,b3.out,fun e=>absurd e O.out,fun _=>rfl⟩
theorem SB(m c o i a b:Nat)(J:JM)(L:DL)(M:DM)(x:Fact)(left:List Fact)(k:Value)(w:World)(v:Blk w m [.pointer (some ⟨c,0,none⟩),k,.int .i64 b] 201)(d:Blk w c [.pointer (some ⟨o,0,none⟩),.int .i64 a] 250)(t:ZB w k (x::left))
 (s:JRep w o i J)(r:DRep w i L M)(y:0<=M.part)(j:FOk x)(h:(zj x).size<=1000000000000)(e:∀ f,f∈M.ids->(M.file f).bytes.length<=1000000000000)(g:left.length<1000000000) :
 Calls Tryz.prog 136 #[.pointer (some ⟨m,0,none⟩)] w (Wrote m c i b k left L M w (M.add zf (zj x)).1 (M.add zf (zj x)).2):=by
 rcases x with n|⟨B,l⟩|⟨A,q⟩|u
 .exact Sy m c o i a b J L M n left k w v d t s r y j h e g
 .exact Sz m c o i a b J L M B l left k w v d t s r y j h e g
 .exact S4 m c o i a b J L M A q left k w v d t s r y j h e g
 .exact SA m c o i a b J L M u left k w v d t s r y h e g
def SM.facts(S:SM):List Fact:=.inl S.Bh::(S.keys.map (fun e=>(.inr (.inl e):Fact))++S.hints.map fun h=>(.inr (.inr (.inl h)):Fact))
def NM.begun(N:NM)(M:DM)(f g:Nat):Option Int × NM × DM :=
 ((N.J.BW M f g).1,{N with J:=(N.J.BW M f g).2.1,mg:=if (N.J.BW M f g).1=none then some ⟨N.J.last+1,[],N.S.facts,1⟩ else N.mg},(N.J.BW M f g).2.2)
theorem ML{w:World}{v:Value}{c:List (ByteArray × Value)}{S:SM}(l:Pair (VRow w) c S.keys)(r:w.ownsRow 0 165 1 v (1+c.length+S.hints.length) (VR S.Bh::(c.map Xd++S.hints.map Qj))):ZB w v S.facts:=by
 have s:=l.length;have d:S.facts.length=1+c.length+S.hints.length:=by
  unfold SM.facts;simp only[Iz,Il,IE];omega
 obtain⟨g,o,rfl,_,_⟩:=zv r (by omega);refine⟨g,0,o,_,by rw[Hw,d];exact r,fun _=>by rw[d,Nat.sub_zero],fun h=>by rw[h] at d;simp at d;omega,fun i q=>?_⟩;rw[Hw];have p:∀ (m:List (ByteArray × Value)) (e:List (ByteArray × List Ver)),Pair (VRow w) m e->∀ j (f:j<m.length) (k:j<e.length),FRep w (Xd m[j]) (.inr (.inl e[j])):=by
  intro m
  induction m with
  | nil=>intro e _ j f;simp at f
  | cons a m t =>
   intro e l j f k;cases e with
   | nil=>simp at k
   | cons b e =>
    cases j with
    | zero =>
     refine⟨a.2,?_,l.2.1⟩;show Value.iface _ (.agg #[.string a.1,a.2])=Value.iface _ (.agg #[.string b.1,a.2]);rw[l.1]
    | succ j=>exact t e l.2.2 j (by simpa using f) (by simpa using k)
 unfold SM.facts at q |-;cases i with
 | zero=>exact⟨_,rfl,rfl⟩
 | succ i =>
  simp only[GB,En];simp only[Iz,Il,IE] at q;by_cases f:i<c.length
  .refine⟨Xd c[i],by rw[GZ (by simpa using f)];simp[f],?_⟩
   have k:i<S.keys.length:=by omega
   rw[Gk (by simpa using k),IR];exact p c S.keys l i f k
  .have h3:i-c.length<S.hints.length:=by omega
   refine⟨Qj S.hints[i-c.length],by rw[FR (by simp;omega)];simp[h3],?_⟩;rw[ER (by simp;omega),IR];simp only[IE,<- s]
   rfl
theorem Te(B:Nat)(L:NL)(N:NM)(M:DM)(w:World)(h:NRep w L N M)(he:Env B L M w)(a7:N.readOnly=false)(T:N.J.last+2<1000000000000)
 (D:(N.J.Bj M).2.Bl.length+1<=1000000000000)(E:(N.J.Bj M).2.dir.length+1<=1000000000000)
 (G:∀ f,w.heap.size<=f->(N.J.begin M (N.J.last+2) f).2.2.Bl.length+1<=1000000000000/\(N.J.begin M (N.J.last+2) f).2.2.dir.length+1<=1000000000000)
 (hk:N.S.keys.length<1000000000)(hh:N.S.hints.length<1000000) :
 Calls Tryz.prog 135 #[.pointer (some ⟨L.nb,0,none⟩)] w fun e w'=>∃ f g v L',e=.returned v/\w.heap.size<=f/\g∉(N.J.begin M (N.J.last+2) f).2.2.ids/\w.heap.size<=g/\ERep w' v (N.begun M f g).1/\NStep L M w L' (N.begun M f g).2.1 (N.begun M f g).2.2 w':=by
 have a4:w.cell? ⟨L.nb,1,none⟩=some (.pointer (some ⟨L.jb,0,none⟩)):=h.Bi.cell 1;have y:=Z (OH B L.jb L.db N.J L.LD M T w h.log h.BM he.tab he.le he.BF D E G);have HH:=Z h;have b1:=h.Bi.lt;clear h he D E G;go_enter Tryz.func135,Tryz.ntmps135;go_wp2_with fail;refine y.out.mono ?_;rintro e w1 ⟨f,g,v1,pv,L1,rfl,hf,hg,K,x,O,s,S⟩;have a:=Z (NStep.Aj HH.out O);have V:=Z x;have X:=Z s;have i:=Z S;have hp:N.begun M f g=((N.J.BW M f g).1,{N with J:=(N.J.BW M f g).2.1,mg:=if (N.J.BW M f g).1=none then some ⟨N.J.last+1,[],N.S.facts,1⟩ else N.mg},(N.J.BW M f g).2.2):=rfl;have p:=Z hp;clear O s S a4 y hp;generalize A:(N.J.BW M f g).2.1=J1 at a p;generalize C:(N.J.BW M f g).2.2=M1 at a p;cases hd:(N.J.BW M f g).1 with
 | some n =>
  rw[hd] at x V i p;have a6:=i.out (by simp);subst a6;obtain⟨k,Q⟩:=x;obtain⟨t,b,rfl⟩:=Q.form;clear hd Q A C X i;go_wp2_with fail;go_ret;refine⟨f,g,_,{L with LD:=L1},rfl,hf,K,hg,?_,?_⟩
  .rw[p.out];exact V.out
  .rw[p.out];exact a.out
 | none =>
  rw[hd] at x V X p;obtain⟨j,rfl,a8,J⟩:=X.out rfl;have hv:v1=.nilIface:=x;subst hv;have a5:w1.cell? ⟨L.nb,2,none⟩=some (.pointer (some ⟨L.sb,0,none⟩)):=a.out.Bt.Bi.cell 2;have a2:=Z (OV L.sb L.LS N.S w1 a.out.Bt.held hk hh);have a1:=Z J;clear hd x V X i A C J;go_wp2_with fail;refine a2.out.mono ?_;rintro e o ⟨lv,rfl,d,l,R⟩;obtain⟨a0,c0,rfl⟩:=zg d;have u:=a.out.Bn l;have c:=ML u.Bt.held.pair d;have I:=Blk.new o [.pointer (some ⟨j,0,none⟩),.slice a0 (1+L.LS.BD.length+N.S.hints.length) c0,.int .i64 1] 201;have Y:Fr Nil o (o.alloc (.cells #[.pointer (some ⟨j,0,none⟩),.slice a0 (1+L.LS.BD.length+N.S.hints.length) c0,.int .i64 1] 201)):=(U _ _).alloc _;have m:=u.Bn Y;have q:=a1.out.fr (l.trans Y) id;have b2:=m.Bt.Bi.frozen;have b0:=m.Bt.Bi.cell;have a9:w.heap.size<=o.heap.size:=Im a.out.fr.size l.size;have r:MRp (o.alloc (.cells #[.pointer (some ⟨j,0,none⟩),.slice a0 (1+L.LS.BD.length+N.S.hints.length) c0,.int .i64 1] 201)) (.pointer (some ⟨o.heap.size,0,none⟩)) L.jb (some ⟨N.J.last+1,[],N.S.facts,1⟩) :=
   ⟨o.heap.size,j,_,rfl,I,q,c.fr Y (fun _ _ _ _=>id)⟩
  have a3:=Z (m.xo a7 (.pointer (some ⟨o.heap.size,0,none⟩)) (some ⟨N.J.last+1,[],N.S.facts,1⟩) r (fun k e=>by simp only[DC,Hi,Cg,DK] at e;exact .inr (by omega)));clear d l u c I m q r R a5 Y;go_wp2_with fail;go_ret;refine⟨f,g,.nilIface,{L with LD:=L1,mv:=.pointer (some ⟨o.heap.size,0,none⟩)},rfl,hf,K,hg,?_,?_⟩
  .rw[p.out];rfl
  .have hp':N.begun M f g=(none,{N with J:=J1,mg:=some ⟨N.J.last+1,[],N.S.facts,1⟩},M1):=by rw[p.out];simp
   rw[hp'];exact a3.out
theorem RO(L:NL)(N:NM)(M:DM)(g i:Nat)(u:Value)(a:Nat)(w:World)(h:NRep w L N M)(j:L.mv=.pointer (some ⟨g,0,none⟩))(k:Blk w g [.pointer (some ⟨i,0,none⟩),u,.int .i64 a] 201)(y:N.S.keys.length<1000000000)(x:N.S.hints.length<1000000) :
 Calls Tryz.prog 137 #[.pointer (some ⟨L.nb,0,none⟩)] w fun e v=>e=.returned (.bool (decide (N.S.keys.length+N.S.hints.length+4<=a)))/\Fr Nil w v:=by
 have l:=Z (fun d (f:Fr Nil w d)=>V5 L.sb L.LS N.S d (h.nil f).held);have m:=Z (fun d (f:Fr Nil w d)=>Yw L.sb L.LS N.S d (h.nil f).held);have q:w.cell? ⟨L.nb,6,none⟩=some (.pointer (some ⟨g,0,none⟩)):=by have:w.cell? ⟨L.nb,6,none⟩=some L.mv:=h.Bi.cell 6;rw[j] at this;exact this
 have o:w.cell? ⟨L.nb,2,none⟩=some (.pointer (some ⟨L.sb,0,none⟩)):=h.Bi.cell 2;have r:w.cell? ⟨g,2,none⟩=some (.int .i64 a):=k.cell 2;have s:IntKind.i64.wrap ((N.S.keys.length:Int)+N.S.hints.length)=(N.S.keys.length:Int)+N.S.hints.length:=by rw[Hg];omega
 have t:IntKind.i64.wrap ((N.S.keys.length:Int)+N.S.hints.length+4)=(N.S.keys.length:Int)+N.S.hints.length+4:=by rw[Hg];omega
 have b:decide ((N.S.keys.length:Int)+N.S.hints.length+4<=a)=decide (N.S.keys.length+N.S.hints.length+4<=a):=by
  by_cases e:N.S.keys.length+N.S.hints.length+4<=a
  .rw[fFS e];simp;omega
  .rw[Gu e];simp;omega
 have c:=Z b;clear h k b;go_enter Tryz.func137,Tryz.ntmps137;go_wp2_with fail
 go_quiet ((first|(go_at_call 78;exact ET (m.out _ (by exact zd)))|(go_at_call 88;exact ET (l.out _ (by exact zd)))))
 go_wp2_with fail;go_ret;exact⟨by rw[<- c.out];rfl,by exact zd⟩
theorem JJ{J:JM}{M:DM}{y:Lay}{p t:Nat}(h:Lg M y p t)(hj:Jl J M y)(hn:y.new=none)(ht:t+4<=1000000)(A:List Fact)(a1:∀ x∈A,ZW x/\(zj x).size<=2000)(q:A.foldl SM.enter SM.nil=y.F.foldl SM.enter SM.nil)(G:∀ k,((A.take k).foldl SM.enter SM.nil).hints.length<=32)(L:A.length<=y.F.length+40)
 (f g:Nat)(hf:f∉M.ids)(B:g∉(J.begin M (J.last+2) f).2.2.ids) :
 ∃ e J' l Q,J.BW M f g=(e,J',l)/\Lg l Q p (t+3)/\Q.F=y.F/\Ans M l e/\l.room=M.room/\(∀ k∈l.ids,k=f\/k=g\/k∈M.ids)/\l.BU=M.BU/\e≠some 10 /\
  (e=none->Jl J' l Q/\J'.limit=J.limit/\∃ i f,Mgx l Q ⟨J.last+1,[],A,1⟩ i f/\∃ n j,Q.G.drop i=[(n,j,([],[]))]):=by
 have a0:=h.yD hj.1;have K:∀ e∈y.G,e.1<=J.last:=fun e E=>by
  have:=JM.yA (limit:=J.limit) (ds:=J.Bp) h.Aa e E;rw[<- hj.1] at this;exact this
 obtain⟨e1,R,v,a,q1,o,S,T,q5,V,X,q8,Y,c,a2,a4,a3⟩:=Sv h hj (by omega) (J.last+2) f (by omega) (by omega) hf;unfold JM.BW;rw[q1] at B |-;cases e1 with
 | some n=>exact⟨some n,R,v,a,rfl,o.more (by omega),S,V,X,fun k s=>(Y k s).imp id .inr,c,a2,fun e=>by cases e⟩
 | none =>
  obtain⟨r1,r2,O,r4⟩:=a3 rfl;simp only at B |-;have u:a.new=none:=T.new.trans hn;have hx:∀ d r,Lg (v.born zf g r d) {a with new:=some g} p (t+2+1)->∃ i f,Mgx (v.born zf g r d) {a with new:=some g} ⟨J.last+1,[],A,1⟩ i f/\∃ n j,({a with new:=some g}:Lay).G.drop i=[(n,j,([],[]))]:=fun d r I=>by
   have m:({a with new:=some g}:Lay).pre y.G.length=y.F:=by
    show a.F0++zq (a.G.take y.G.length)=_;rw[O,EB,T.F0]
    rfl
   refine⟨y.G.length,g,⟨rfl,?_,?_,fun b hb=>?_,EO (II _),fun e E=>?_,fun e E=>?_,?_,by simpa using a1,by rw[m];simpa using q,by simpa using G,by rw[m];simpa using L⟩,_,_,by show a.G.drop y.G.length=_;rw[O,Fi]⟩
   .show y.G.length<a.G.length
    rw[O];simp
   .show a.i<=y.G.length
    rw[T.i];exact h.now.ij
   .have hb':y.base=some b:=by rw[<- T.base];exact hb
    have k:=h.now.base b hb';have N:y.i<y.G.length:=k.lt;have h4:=k.hi _ (IP.2 ⟨0,by rw[Iw];show 0<y.G.length-y.i;omega,by rw[Gd];rfl⟩:y.G[y.i]'N∈y.G.drop y.i);have h5:=K _ (Iu N);show b.1<J.last+1;omega
   .have he':e∈a.G.take y.G.length:=E
    rw[O,EB] at he';have:=K e he';show e.1<J.last+1;omega
   .have he':e∈a.G.drop y.G.length:=E
    rw[O,Fi,Iv] at he';subst he';show J.last+1<J.last+2;omega
   .rw[T8];rfl
  rcases TM o.bd (by omega) (by decide) (show zf≠ByteArray.empty by decide) (o.xd u) g with⟨C,D⟩|⟨d,C,D⟩|⟨C,D⟩
  .rw[C]
   have I:=Lk.BW o u g B v.refused v.dead (FH _) (by omega);refine⟨none,R,_,_,rfl,I,S,V.trans (Ans.ok D rfl rfl rfl),X,fun k s=>?_,(VN o.bd B _ _ _).trans c,(by intro e;cases e),fun _=>⟨⟨r1.1,fun e=>by rw[r4] at e;cases e⟩,r2,hx _ _ I⟩⟩;rcases IW.1 s with e|e
   .exact .inr (.inl e)
   .exact(Y k e).imp id .inr
  .rw[C]
   exact⟨some 9,R,_,a,rfl,(Lg.no o d).more (by omega),S,V.trans (Ans.no D rfl rfl),X,fun k s=>(Y k s).imp id .inr,c,(by intro e;cases e),fun e=>by cases e⟩
  .rw[C]
   have I:=Lk.BW o u g B (v.refused+1) true (by omega) (by omega);refine⟨some 9,R,_,_,rfl,I,S,V.trans (Ans.no D rfl rfl),X,fun k s=>?_,(VN o.bd B _ _ _).trans c,(by intro e;cases e),fun e=>by cases e⟩;rcases IW.1 s with e|e
   .exact .inr (.inl e)
   .exact(Y k e).imp id .inr
theorem Uv:∀(a:List Fact),(∀ x∈a,(zj x).size<=2000)->(zD a).length<=2000*a.length
 | [],_=>by simp[zD]
 | x::a,h=>by
  have c:=h x (Is ..);have d:=Uv a (fun y b=>h y (Iq _ b));have e:(zS (zw x)).length=(zj x).size:=by rw[<- Wx,GF];rfl
  rw[XY,Il,Iz];omega
theorem Ja{M:DM}{y:Lay}{p t k:Nat}(h:Lk M y p t k){g:MgM}{i f:Nat}(d:Mgx M y g i f){x:Fact}{left:List Fact}(A:g.left=x::left)(L:t<=1000000)(X:k<=2000000) :
 ∃ r l,M.add zf (zj x)=(r,l)/\Lk l y p t (k+1)/\Ans M l (zE r)/\l.room=M.room/\l.ids=M.ids/\l.dir=M.dir/\l.safe=M.safe/\l.Bl=M.Bl/\(zE r=some 10->M.room<2100000000000000)/\(r=0->Mgx l y {g with done:=g.done++[x],left:=left} i f):=by
 obtain⟨B,T⟩:=h.AZ d.new;obtain⟨v,j,r,u,K,Q,hj,c⟩:=Nk h.bd L X B (zj x);have E:(zj x).data.toList.length=(zj x).size:=by rw[GF];rfl
 have hx:=d.ok x (by rw[A];simp);have V:=h.fl;have a0:=(Yz y i).length_le;have C:=d.len;rw[A,Il,Iz] at C;have R:=Uv g.done (fun z hz=>(d.ok z (Fl _ hz)).2);have m:M.refused<=r/\r<=M.refused+1/\M.Bo<=u/\u-M.Bo<=r-M.refused:=by
  rcases c with⟨_,_,a,b,_⟩|⟨a,⟨_,b,_⟩|⟨_,b,_⟩⟩ <;> subst a b <;> refine⟨by omega,by omega,by omega,by omega⟩
 have I:=h.write d.new ((zj x).data.toList.take j) (by rw[d.bytes,Ip];omega) r u K m.1 m.2.1 m.2.2.1 m.2.2.2;have O:=h.bd.BU L;have o:Ans M (M.put f ((zj x).data.toList.take j) r u K) (zE v):=by
  rcases c with⟨rfl,_,rfl,rfl,rfl,D⟩|⟨rfl,⟨rfl,rfl,G⟩|⟨rfl,rfl,rfl,_⟩⟩
  .exact Ans.ok D rfl rfl rfl
  .exact Ans.no G rfl rfl
  .exact⟨.inr ⟨rfl,.inr ⟨rfl,rfl,rfl⟩⟩,rfl,rfl,Bb (Int.lt_succ _),(fun e=>by cases e),(fun e=>by cases e)⟩
 refine⟨v,_,Q,I,o,rfl,rfl,rfl,rfl,rfl,fun e=>?_,fun q=>?_⟩
 .have h10:v=10:=by
   unfold zE at e;split at e
   .cases e
   .exact Hb e
  rcases c with⟨a,_⟩|⟨_,⟨a,_⟩|⟨_,_,_,_,Y⟩⟩
  .rw[a] at h10;cases h10
  .rw[a] at h10;cases h10
  .have:=hx.2;omega
 .have hjf:j=(zj x).size:=by
   rcases c with⟨_,a,_⟩|⟨_,⟨a,_⟩|⟨a,_⟩⟩
   .exact a
   .rw[a] at q;cases q
   .rw[a] at q;cases q
  have s:g.done++[x]++left=g.done++g.left:=by rw[A];simp
  refine⟨d.new,d.lt,d.yi,d.old,d.one,d.lo,d.hi,?_,by show ∀ z∈g.done++[x]++left,_;rw[s];exact d.ok,by show(g.done++[x]++left).foldl _ _=_;rw[s];exact d.held,fun k=>by have:=d.An k;rw[<- s] at this;exact this,by show(g.done++[x]++left).length<=_;rw[s];exact d.len⟩;rw[Ys,IC rfl,d.bytes,hjf,<- E,ID];show _=zD (g.done++[x]);rw[Vi]
theorem Rj{d:Dir}{i:Nat}{a:ByteArray}(h:∀ e∈d,e.1≠a)(j:i<d.length):∀ k,k<=d.length->ZY d i a k=if k<=i then d.take k else d.take i++(d.take k).drop (i+1)
 | 0,_=>by simp[ZY]
 | k+1,m=>by
  have l:=Rj h j k (by omega);rw[SN d i a k (by omega),l];have b:(d[k].1==a)=false:=by
   cases hb:(d[k].1==a) with
   | false=>rfl
   | true=>exact absurd (Z4.1 hb) (h _ (Iu _))
  have c:d.take (k+1)=d.take k++[d[k]]:=by rw[FI,IB (by omega)];rfl
  by_cases f:k+1<=i
  .rw[IC (by omega),IC f,IC ⟨by omega,b⟩,c]
  .rw[It f]
   by_cases g:k=i
   .subst g
    rw[IC (Io _),It (fun x=>x.1 rfl),IV,Hn (by rw[Ip];omega),IV]
   .rw[It (by omega),IC ⟨g,b⟩,c,IA,Fe (by rw[Ip];omega)]
theorem MM{d:Dir}{i:Nat}{a:ByteArray}(c:∀ e∈d,e.1≠a)(b:i<d.length):d.renamed i a=d.take i++d.drop (i+1)++[(a,d[i].2)]:=by
 unfold Dir.renamed;rw[Rj c b d.length (Io _),It (by omega),ID,IB b]
def Lay.Aw(y:Lay)(g:MgM)(i f:Nat):Lay:={y with new:=none,BC:=y.BC++y.base.toList.map (fun b=>(true,b.1,b.2.1))++((y.G.take i).drop y.i).map (fun e=>(false,e.1,e.2.1)),base:=some (g.number,f,g.done),i:=i}
theorem MN{M:DM}{y:Lay}{p t k:Nat}(h:Lk M y p t k){g:MgM}{i f:Nat}(l:Mgx M y g i f)(hl:g.left=[])(B:(M.file f).safe=(M.file f).bytes.length) :
 ∃ n,M.dir.idx zf=some n/\(M.dir.renamed n (zn true g.number)).length<=t/\Snd M (y.Aw g i f) (M.dir.renamed n (zn true g.number)) (y.Aw g i f).z/\(∀ r d,(M.turn (M.dir.renamed n (zn true g.number)) r d).BU=M.BU):=by
 have J:(zf,f)∈M.dir:=by
  rw[h.now.perm.mem_iff];unfold Dl.dir;simp only[Ir,Iy,zM];exact .inr ⟨f,l.new,rfl⟩
 obtain⟨n,hn,E,D,j⟩:=Pv h.names J;have s:∀ e∈M.dir,e.1≠zn true g.number:=fun e a x=>by
  have o:e.1∈(y.z.BP y.G).map ZJ:=by
   rw[<- Dl.names,<- (h.now.perm.map Prod.fst).mem_iff];exact Hq a
  obtain⟨c,L,R⟩:=Iy.1 o;have S:c=some (true,g.number):=V9 (R.trans x);subst S;unfold Dl.BP at L;simp only[Ir,Iy,zM] at L;rcases L with((⟨e,a,o⟩|⟨e,a,o⟩)|⟨e,a,o⟩)|⟨e,_,o⟩
  .simp only[Hi,Gq] at o
   obtain⟨_,X,A,S⟩:=h.now.low e a;have:=l.old X A;omega
  .simp only[Hi,Gq] at o
   have:=l.old e a;omega
  .simp at o
  .cases o
 have m:=MM s hn;rw[D] at m;have a0:=l.yi;have I:=l.lt;refine⟨n,E,?_,?_,fun r d=>?_⟩
 .rw[m,Il,Il,Ip,Iw,Ix]
  have:=h.bd.dir;omega
 .have hp0:=h.now.perm
  have Y:y.z.dir y.G=y.BC.map YR++y.base.toList.map Yh++(y.G.drop y.i).map ZP++[(zf,f)]:=by
   show y.BC.map YR++y.base.toList.map Yh++((y.G.take y.G.length).drop y.i).map ZP++y.new.toList.map _=_;rw[ID,l.new]
   rfl
  rw[Y] at hp0;have q:(M.dir.take n++M.dir.drop (n+1)).Perm (y.BC.map YR++y.base.toList.map Yh++(y.G.drop y.i).map ZP) :=
   ((j.symm.trans hp0).trans Fy).cons_inv
  have e3:(y.Aw g i f).z.dir (y.Aw g i f).G=y.BC.map YR++y.base.toList.map Yh++((y.G.take i).drop y.i).map ZP++[(zn true g.number,f)]++(y.G.drop i).map ZP:=by
   show(y.BC++y.base.toList.map _++((y.G.take i).drop y.i).map _).map YR++[Yh (g.number,f,g.done)]++((y.G.take y.G.length).drop i).map ZP++[]=_;rw[ID,IV,IL,IL,Gi,Gi]
   rfl
  have Q:y.G.drop y.i=(y.G.take i).drop y.i++y.G.drop i:=by
   conv=>lhs;rw[<- IG i y.G,Fe (by rw[Ip];omega)]
  have v:∀ e∈(y.Aw g i f).BC,1<=e.2.1/\e.2.1<g.number:=fun e a=>by
   have C:e∈y.BC++y.base.toList.map (fun b=>(true,b.1,b.2.1))++((y.G.take i).drop y.i).map (fun e=>(false,e.1,e.2.1)):=a;simp only[Ir,Iy,zM] at C;rcases C with(a|⟨b,u,rfl⟩)|⟨x,O,rfl⟩
   .obtain⟨o,b,u,R⟩:=h.now.low e a
    have:=l.old b u;omega
   .exact⟨(h.now.base b u).one,l.old b u⟩
   .have hx2:=IK O
    exact⟨(h.pos x (He hx2)).1,l.lo x hx2⟩
  refine⟨?_,EN I,Io _,fun e a=>⟨(v e a).1,_,rfl,(v e a).2⟩,?_,fun b u=>?_,(fun u=>by cases u),?_,fun e a=>?_⟩
  .rw[e3,m]
   rw[Q,IL,<- IA] at q;refine(q.append_right _).trans ?_;rw[IA _ _ [(zn true g.number,f)],IA _ [(zn true g.number,f)] _];exact Di _ Fy
  .have hnd:=h.now.yF h.Aa
   rw[UP] at hnd;refine List.Sublist.nodup ?_ hnd;show((y.BC++y.base.toList.map (fun b=>(true,b.1,b.2.1))++((y.G.take i).drop y.i).map (fun e=>(false,e.1,e.2.1))).map (fun e:Bool × Nat × Nat=>e.2.1)).Sublist (y.BC.map (fun e:Bool × Nat × Nat=>e.2.1)++y.base.toList.map (fun b:Nat × Nat × List Fact=>b.1)++((y.G.take y.G.length).drop y.i).map (fun e:Ent=>e.1));rw[ID,IL,IL,Gi,Gi,Q,IL];exact List.Sublist.append_left (List.sublist_append_left _ _) _
  .have A:b=(g.number,f,g.done):=(Hb u).symm
   subst A;have N:g.done++g.left=g.done:=by rw[hl,IV]
   have V:=l.held;have T:=l.An;have G:=l.len;have K:=l.ok;rw[N] at V T G K;exact⟨I,l.one,l.lo,l.hi,l.bytes,B,fun e a x=>h.Ak e a (by rw[l.new,x]),(by intro e;cases e),fun x O=>(K x O).1,V,T,G⟩
  .rw[m,IL]
   have o:=(j.map (·.2)).nodup_iff.1 h.now.once;exact(Fy (l₁:=[f])).nodup_iff.1 o
  .rw[m] at a
   rcases Ir.1 a with a|a
   .exact h.now.Ad e (j.mem_iff.2 (Iq _ a))
   .rw[Iv] at a
    subst a;have:=h.now.Ad _ J;exact this
 .show((M.dir.renamed n (zn true g.number)).map fun e=>(M.file e.2).bytes.length).sum=(M.dir.map fun e=>(M.file e.2).bytes.length).sum
  rw[m,(j.map fun e=>(M.file e.2).bytes.length).sum_nat,IL,Fx,IJ,GY];simp only[IJ,Gm,GY,Be];omega
theorem Jb{M:DM}{y:Lay}{p t k:Nat}(h:Lk M y p t k)(j:y.BC=[])(i:y.new=none){b:Nat × Nat × List Fact}(a:y.base=some b):M.BU=(zD b.2.2).length+((y.G.drop y.i).map fun e=>(Zv e.2.2).length).sum:=by
 have f:M.BU=((y.z.dir y.G).map fun e=>(M.file e.2).bytes.length).sum:=(h.now.perm.map fun e:ByteArray × Nat=>(M.file e.2).bytes.length).sum_nat;rw[f];have c:y.z.dir y.G=[Yh b]++(y.G.drop y.i).map ZP:=by
  show y.BC.map YR++y.base.toList.map Yh++((y.G.take y.G.length).drop y.i).map ZP++y.new.toList.map _=_;rw[j,i,a,ID];simp
 rw[c,IL,Fx,Gi];have d:([Yh b].map fun e=>(M.file e.2).bytes.length).sum=(zD b.2.2).length:=by
  simp only[IJ,Gm,GY,Be,Fs];show(M.file b.2.1).bytes.length=_;rw[(h.now.base b a).bytes]
 rw[d]
 congr 2
 refine GN fun e g=>?_;show(M.file e.2.1).bytes.length=_;rw[h.bytes e (IK g)]
theorem JK{J:JM}{M:DM}{y:Lay}{p t k:Nat}(h:Lk M y p t k){g:MgM}{i f:Nat}(j:Mgx M y g i f)(hl:g.left=[])(ht:t<=980000)(hk:k<=981000) :
 ∃ l,((M.sync zf).1=0->((M.sync zf).2.rename zf (zn true g.number)).1=0->∀ b LX L,DRep L b LX ((M.sync zf).2.rename zf (zn true g.number)).2->(∀ K,Fr Nil L K->Tab K)->Yg L ->
  Calls Tryz.prog 144 #[.pointer (some ⟨b,0,none⟩)] L fun e K=>∃ v L',e=.returned v/\ERep K v (((M.sync zf).2.rename zf (zn true g.number)).2.BO l).1/\DStep b LX ((M.sync zf).2.rename zf (zn true g.number)).2 L L' (((M.sync zf).2.rename zf (zn true g.number)).2.BO l).2 K) /\
  (M.sync zf).2.Bl.length+1<=1000000000000/\(M.sync zf).2.dir.length+1<=1000000000000 /\
  ∃ e Q q y',J.replace M (zn true g.number) l=(e,Q,q)/\Lg q y' p (t+2)/\y'.F=y.F/\Ans M q e/\q.room=M.room/\q.ids=M.ids/\e≠some 10 /\
   (e=none->y'.new=none/\Q.limit=J.limit/\(Jl J M y->Jl Q q y')/\q.BU=(zD g.done).length+((y.G.drop i).map fun e=>(Zv e.2.2).length).sum):=by
 obtain⟨V,_⟩:=h.AZ j.new;have a1:zn true g.number≠ByteArray.empty:=fun e=>by
  have u:=Fg (fun b:ByteArray=>b.data.toList) e;simp only[zn,XH] at u;cases u
 have a9:=h.bd.Bl;have b0:=h.bd.dir;rcases Pf h.bd (by omega) (by omega) V with⟨s,C⟩|⟨d,s,a3⟩
 .have u:=h.Av f
  have a0:Mgx (M.Av f) y g i f:=⟨j.new,j.lt,j.yi,j.old,j.one,j.lo,j.hi,(Yc M f f).trans j.bytes,j.ok,j.held,j.An,j.len⟩;have a4:((M.Av f).file f).safe=((M.Av f).file f).bytes.length:=by rw[WW,Yc,IC rfl]
  obtain⟨n,T,X,a5,b2⟩:=MN u a0 hl a4;have I:∀ r d,(M.Av f).refused<=r->r<=(M.Av f).refused+1->Lk ((M.Av f).turn ((M.Av f).dir.renamed n (zn true g.number)) r d) (y.Aw g i f) p t (k+2):=fun r d a b =>
   u.turn (y':=y.Aw g i f) r d a b X rfl rfl (fun _ e=>by cases e) a5
  rw[s];rcases MA u.bd (by omega) (by omega) a1 T with⟨o,a2⟩|⟨d,o,D⟩|⟨o,D⟩
  .have G:=I (M.Av f).refused (M.Av f).dead (FH _) (by omega)
   obtain⟨l,Y,b1,a6⟩:=Rf G (by omega) (by omega);simp only[o];refine⟨l,fun _ _=>a6,?_,?_,?_⟩
   .show M.Bl.length+1<=_;omega
   .show M.dir.length+1<=_;omega
   obtain⟨e3,O,m,q0,E,q2,q3,q4,q5,q6,q7,q8,q9,b3,a7,a8⟩:=Pw l G (by omega) (by omega) Y;have A:m.F=y.F:=by unfold Lay.F;rw[q2,q3];rfl
   have c:Ans M O e3:=Ans.trans (M2:=M.Av f) (Ans.ok C rfl rfl rfl) (Ans.trans (M2:=(M.Av f).turn ((M.Av f).dir.renamed n (zn true g.number)) (M.Av f).refused (M.Av f).dead) (Ans.ok a2 rfl rfl rfl) q7);unfold JM.replace;simp only[s,o,q0,ne_eq,not_true,Hy];cases e3 with
   | some x=>exact⟨some x,J,O,m,rfl,E.Ax (by omega),A,c,q8,q9,a7,fun e=>by cases e⟩
   | none =>
    obtain⟨ho,hn⟩:=a8 rfl;simp only;unfold JM.Bx;rcases UM E.bd (by omega) (by omega) with⟨R,B⟩|⟨d,R,B⟩
    .simp only[R]
     have h4:=E.Ay E.BT;refine⟨none,_,O.Ay,m.trim,rfl,h4.Ax (by omega),(Lay.ya m).trans A,c.trans (Ans.ok B rfl rfl rfl),q8,q9,(by intro e;cases e),fun _=>⟨hn,rfl,fun hj=>⟨?_,fun _=>⟨rfl,rfl⟩⟩,?_⟩⟩
     .show({J with Bp:=_}:JM)=JM.on J.limit m.trim.G _
      rw[E.yC,q3];show _=JM.on J.limit y.G _;rw[<- JM.yz J.limit y.G J.Bp,<- hj.1]
     .have hb3:m.trim.base=some (g.number,f,g.done):=q4
      have:=Jb h4 (show m.trim.BC=[] from ho) (show m.trim.new=none from hn) hb3;rw[this];have e5:m.trim.G.drop m.trim.i=y.G.drop i:=by
       show(m.G.drop m.i).drop 0=_;rw[Gr,q3,q5]
       rfl
      rw[e5]
    .simp only[R]
     exact⟨some 9,_,O.no d,m,rfl,(E.no d).Ax (by omega),A,c.trans (Ans.no B rfl rfl),q8,q9,(by intro e;cases e),fun e=>by cases e⟩
  .simp only[o]
   refine⟨[],fun _ e=>absurd e (by decide),?_,?_,some 9,J,(M.Av f).no d,y,?_,(u.no d).Ax (by omega),rfl,(Ans.ok C rfl rfl rfl:Ans M (M.Av f) none).trans (Ans.no D rfl rfl),rfl,rfl,(by intro e;cases e),fun e=>by cases e⟩
   .show M.Bl.length+1<=_;omega
   .show M.dir.length+1<=_;omega
   .unfold JM.replace
    rw[s];simp only[o,ne_eq,not_true,Hy]
    rfl
  .simp only[o]
   have G:=I ((M.Av f).refused+1) true (by omega) (by omega);refine⟨[],fun _ e=>absurd e (by decide),?_,?_,some 9,J,_,y.Aw g i f,?_,G.Ax (by omega),rfl,(Ans.ok C rfl rfl rfl:Ans M (M.Av f) none).trans (Ans.turn D),rfl,rfl,(by intro e;cases e),fun e=>by cases e⟩
   .show M.Bl.length+1<=_;omega
   .show M.dir.length+1<=_;omega
   .unfold JM.replace
    rw[s];simp only[o,ne_eq,not_true,Hy]
    rfl
 .rw[s]
  refine⟨[],fun e=>absurd e (fun h=>by have G:(9:Int)=0:=h;omega),?_,?_,some 9,J,M.no d,y,?_,(h.no d).Ax (by omega),rfl,Ans.no a3 rfl rfl,rfl,rfl,(by intro e;cases e),fun e=>by cases e⟩
  .show M.Bl.length+1<=_;omega
  .show M.dir.length+1<=_;omega
  .unfold JM.replace
   rw[s]
   rfl
end Go.Proofs.YtkhnggkkiefcdaaGreatDoor
