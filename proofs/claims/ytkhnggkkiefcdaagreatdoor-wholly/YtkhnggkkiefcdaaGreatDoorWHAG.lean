/- larder: joined texts -/
import Derived.Test.YtkhnggkkiefcdaaGreatDoorWHAC
import Derived.Test.YtkhnggkkiefcdaaGreatDoorWHAF
import Derived.Test.YtkhnggkkiefcdaaGreatDoorChecked
import Derived.Lib.LazyBuf
import Derived.StillTailTactics
import Derived.Maps.AppendAt
namespace Go.Proofs.YtkhnggkkiefcdaaGreatDoor
open Go.RowKit
set_option maxRecDepth 100000
set_option maxHeartbeats 8000000
abbrev MR:=@Go.wp_region_still_tail
abbrev Jk:=@Go.OwnFrom.and
abbrev Jt:=@Go.callsIn_of_wp_marks
abbrev JQ:=@Go.Boxed.new
abbrev JR:=@Go.run_takeDeferred
abbrev IE:=@Go.Own.from
theorem VRow.cells{w:World}{g n cap:Nat}{l:List Ver}(h:w.ownsRow 0 37 8 (.slice (some ⟨g,0,none⟩) n cap) n (Zi l))(i:Nat)(e:i<l.length)(j:Nat)(c:j<8) :
 w.cell? ⟨g,i*8+j,none⟩=l[i].cells[j]?:=by
 have a:j<l[i].cells.length:=by rw[Ver.Hw];exact c
 rw[own_cell? h (i*8+j) _ ((Uo l i j e c).trans (NS a)),NS a]
theorem NA:((Tryz.prog.info? 37).map fun i=>(i.zero.map (·.cells.size),i.size,i.bytes))=some (some 8,8,72):=by kernel_rfl
theorem Sl(a b:List Ver):Zi (a++b)=Zi a++Zi b:=by simp[Zi]
theorem OU(w:World)(v:Value)(l:List Ver)(h:VRow w v l)(x:Ver)(t:l.length<1000000)(d:World)(f:Fr Nil w d)(N:Nat)(q:Blk d N x.cells 37)(ty:TypeId) :
 ∃ b c,(Builtin.append_ #[61,61] ty #[v,.slice (some ⟨N,0,none⟩) 1 1]).run Tryz.prog d=.ok b c /\
  (VRow c b (l++[x])/\Fr (fun k=>v.ownBlock=some k) w c/\(∀ k,b.ownBlock=some k->v.ownBlock=some k\/w.heap.size<=k)):=by
 have r:=za h f (fun _ _=>id);obtain⟨b,c,s,o,p,a⟩:=zn (P:=Tryz.prog) 61 ty 37 8 72 JD NA (by omega) v l.length _ r ⟨N,0,none⟩ 1 1 x.cells rfl
  (fun j u m=>by rw[MC,Mv,q.cell];exact m) (fun u m=>Up [x] u (by simpa [Zi] using m)) (by unfold maxLen;omega) (by omega)
 refine⟨b,c,s,?_,(f.mono (fun _ _ e=>absurd e id)).trans' ((Fr.Hi p).mono (fun i _ h=>h)) (fun i _ h=>h),fun k g=>?_⟩
 .unfold VRow
  rw[NF,Sl];have:Zi [x]=x.cells:=by simp[Zi]
  rw[this];exact o
 .rcases a with a|a
  .exact .inl (by rw[<- a];exact g)
  .rw[a] at g;simp at g;have:=f.size;exact .inr (by omega)
def grV(l:List Ver)(n:Int):Int:=l.foldl (fun m u=>if u.node=n then max m u.seq else m) 0
theorem Om(l:List Ver)(i:Nat)(h:i<l.length)(n:Int):grV (l.take (i+1)) n=if l[i].node=n then max (grV (l.take i) n) l[i].seq else grV (l.take i) n:=by
 unfold grV;rw[Mi h,MZ]
 rfl
theorem U6(lv:Value)(l:List Ver)(B:∀ u∈l,WB u.node)(w:World)(hl:VRow w lv l) :
 Calls Tryz.prog 72 #[lv] w fun e w'=>e=.returned (.agg #[.int .i64 (grV l 0),.int .i64 (grV l 1),.int .i64 (grV l 2),.int .i64 (grV l 3)])/\Fr Nil w w':=by
 have hn:=zv hl;unfold maxLen at hn;obtain⟨la,lc,rfl⟩:=zd hl;have HL:=Z hl;have F:=Z B;clear hl B;go_enter Tryz.func72,Tryz.ntmps72;go_wp2_with fail;obtain⟨R,hR⟩:∃ R,w.heap.size=R:=⟨_,rfl⟩;have G:Blk ((w.alloc (.cells #[.int .i64 0,.int .i64 0,.int .i64 0,.int .i64 0] 35)).alloc (.cells #[.int .i64 0,.int .i64 0,.int .i64 0,.int .i64 0] 35)) (w.heap.size+1) [.int .i64 0,.int .i64 0,.int .i64 0,.int .i64 0] 35:=by
  have:=Blk.new (w.alloc (.cells #[.int .i64 0,.int .i64 0,.int .i64 0,.int .i64 0] 35)) [.int .i64 0,.int .i64 0,.int .i64 0,.int .i64 0] 35
  simpa using this
 have K:Blk ((w.alloc (.cells #[.int .i64 0,.int .i64 0,.int .i64 0,.int .i64 0] 35)).alloc (.cells #[.int .i64 0,.int .i64 0,.int .i64 0,.int .i64 0] 35)) w.heap.size [.int .i64 0,.int .i64 0,.int .i64 0,.int .i64 0] 35:=(Blk.new w [.int .i64 0,.int .i64 0,.int .i64 0,.int .i64 0] _).alloc _;have a0:Fr Nil w ((w.alloc (.cells #[.int .i64 0,.int .i64 0,.int .i64 0,.int .i64 0] 35)).alloc (.cells #[.int .i64 0,.int .i64 0,.int .i64 0,.int .i64 0] 35)):=((O _ _).alloc _).alloc _;obtain⟨w0,a3⟩:∃ w0,(w.alloc (.cells #[.int .i64 0,.int .i64 0,.int .i64 0,.int .i64 0] 35)).alloc (.cells #[.int .i64 0,.int .i64 0,.int .i64 0,.int .i64 0] 35)=w0:=⟨_,rfl⟩;rw[a3] at G K a0 |-;have a8:w.heap.size<=R:=by omega
 rw[hR] at G K |-;clear a3 hR
 go_loopw [8] (fun t8 w'=>∃ i:Nat,i<=l.length/\t8=.int .i64 i/\Blk w' (R+1) [.int .i64 (grV (l.take i) 0),.int .i64 (grV (l.take i) 1),.int .i64 (grV (l.take i) 2),.int .i64 (grV (l.take i) 3)] 35/\Fr (fun k=>k=R+1) w0 w') (fun t8 _=>l.length-(intOf t8).toNat)
 case atStart=>exact⟨0,NV _,rfl,G,O _ _⟩
 case round =>
  obtain⟨i,hi,rfl,a,M⟩:=hrel;have a2:Fr Nil w wr:=a0.trans' (M.mono (fun _ _ h=>h)) (fun k hk h=>by omega);by_cases J:i<l.length
  .obtain⟨g,rfl⟩:∃ g,la=some ⟨g,0,none⟩:=by
    obtain⟨g,cap,h,_⟩:=zr HL.out (by omega);simp at h;exact⟨g,h.1⟩
   have D:=VRow.cells (za (S:=Nil) HL.out a2 (fun _ _=>id)) i J;have g0:=D 0 (by omega);have g1:=D 1 (by omega);have g2:=D 2 (by omega);have g3:=D 3 (by omega);have g4:=D 4 (by omega);have g5:=D 5 (by omega);have g6:=D 6 (by omega);have g7:=D 7 (by omega);have hx:=F.out l[i] (NN J);have b:=Om l i J;have r:=Z b;have HX:=Z hx;clear D b hx;generalize l[i]=x at g0 g1 g2 g3 g4 g5 g6 g7 r HX;obtain⟨d,b1,x0,x1,x2,x3,xv,xg⟩:=x;simp only[Ver.cells,KU] at g0 g1 g2 g3 g4 g5 g6 g7;have a6:d=0\/d=1\/d=2\/d=3:=by have:=HX.out;unfold WB at this;simp only at this;omega
   generalize s:grV (l.take i) 0=N at a;generalize t:grV (l.take i) 1=Q at a;generalize y:grV (l.take i) 2=T at a;generalize z:grV (l.take i) 3=V at a;have f:=Z s;have j:=Z t;have o:=Z y;have p:=Z z;clear s t y z;have a9:∀ (L:Obj) k,(wr.alloc L).cell? ⟨R+1,k,none⟩=[.int .i64 N,.int .i64 Q,.int .i64 T,.int .i64 V][k]?:=fun L k=>(a.alloc L).cell k;have b0:∀ (L:Obj) k,(wr.alloc L).frozen? ⟨R+1,k,none⟩=false:=fun L k=>(a.alloc L).frozen k;have HB:=Z a;clear a;have E:∀ (m q:Int),max m q=if m<q then q else m:=by intro m q;simp only[Int.max_def];split <;> split <;> omega
   have c:=Z E;clear E;rcases a6 with rfl|rfl|rfl|rfl
   .go_wp2_with fail
    go_region
    go_wp2
    refine⟨⟨i+1,by omega,by go_num,?_,?_⟩,by simp[intOf];omega⟩
    .have b:=r.out
     simp only[b,f.out,j.out,o.out,p.out,c.out];exact((HB.out.alloc _).set 0 _).drew
    .exact(Fr.set (S:=fun k=>k=R+1) (M.alloc _) (fun _=>rfl) _).drew
   .go_wp2_with fail
    go_region
    go_wp2
    refine⟨⟨i+1,by omega,by go_num,?_,?_⟩,by simp[intOf];omega⟩
    .have b:=r.out
     simp only[b,f.out,j.out,o.out,p.out,c.out];exact((HB.out.alloc _).set 1 _).drew
    .exact(Fr.set (S:=fun k=>k=R+1) (M.alloc _) (fun _=>rfl) _).drew
   .go_wp2_with fail
    go_region
    go_wp2
    refine⟨⟨i+1,by omega,by go_num,?_,?_⟩,by simp[intOf];omega⟩
    .have b:=r.out
     simp only[b,f.out,j.out,o.out,p.out,c.out];exact((HB.out.alloc _).set 2 _).drew
    .exact(Fr.set (S:=fun k=>k=R+1) (M.alloc _) (fun _=>rfl) _).drew
   .go_wp2_with fail
    go_region
    go_wp2
    refine⟨⟨i+1,by omega,by go_num,?_,?_⟩,by simp[intOf];omega⟩
    .have b:=r.out
     simp only[b,f.out,j.out,o.out,p.out,c.out];exact((HB.out.alloc _).set 3 _).drew
    .exact(Fr.set (S:=fun k=>k=R+1) (M.alloc _) (fun _=>rfl) _).drew
  .have e:i=l.length:=by omega
   rw[e,Mt] at a;have C:=K.fr M (fun e=>by omega);have A:=a.cell;have a5:=C.cell;have a7:=C.frozen;generalize s:grV l 0=N at A;generalize t:grV l 1=Q at A;generalize y:grV l 2=T at A;generalize z:grV l 3=V at A;have f:=Z s;have j:=Z t;have o:=Z y;have p:=Z z;have HF:=Z a2;have a4:=Z C;clear s t y z a C
   go_wp2
   have Y:=(((a4.out.set 0 (.int .i64 N)).set 1 (.int .i64 Q)).set 2 (.int .i64 T)).set 3 (.int .i64 V);have a1:Fr Nil w ((((wr.setCell ⟨R,0,none⟩ (.int .i64 N)).setCell ⟨R,1,none⟩ (.int .i64 Q)).setCell ⟨R,2,none⟩ (.int .i64 T)).setCell ⟨R,3,none⟩ (.int .i64 V)) :=
    Fr.set (Fr.set (Fr.set (Fr.set HF.out (fun h=>by simp only at h;omega) _) (fun h=>by simp only at h;omega) _) (fun h=>by simp only at h;omega) _) (fun h=>by simp only at h;omega) _
   have X:=Z a1;have I:=Y.cell;simp only[Mb,Mc] at I;clear A a5 a7 a1 Y;generalize (((wr.setCell ⟨R,0,none⟩ (.int .i64 N)).setCell ⟨R,1,none⟩ (.int .i64 Q)).setCell ⟨R,2,none⟩ (.int .i64 T)).setCell ⟨R,3,none⟩ (.int .i64 V)=w4 at I X |-;refine KJ (v:=.agg #[.int .i64 N,.int .i64 Q,.int .i64 T,.int .i64 V]) (by simp[results,Tryz.results72,go_sem,I,Tryz.isAgg35,Tryz.sizeOf35]) rfl ⟨?_,X.out⟩;rw[f.out,j.out,o.out,p.out]
theorem Nw:((Tryz.prog.info? 37).map fun i=>(i.zero.map (·.cells.size),i.size,i.bytes))=some (some 8,8,72):=by kernel_rfl
theorem Sm(v:Value)(n:Nat)(o:List Value)(w:World)(d:w.ownsRow 0 37 8 v n o)(F:∀ u∈o,u.oneCell'=true)(C:n*72<=140737488355328) :
 Calls Tryz.prog 75 #[v] w fun e f =>
  ∃ b,e=.returned b/\f.ownsRow 0 37 8 b n o/\Fr Nil w f/\(∀ k,b.ownBlock=some k->w.heap.size<=k):=by
 have M:∀ (w:World) (a:Option Addr) (n c:Nat),(binOp .eql 61 (.slice a n c) (.slice none 0 0)).run Tryz.prog w=.ok (.bool a.isNone) w:=fun w a n c=>by exact Lib.run_eql_slice_nil (h:=JD) ..
 rcases ZI d with⟨rfl,rfl,rfl⟩|⟨g,r,c,rfl,D,Q,z,I,L⟩
 .go_enter Tryz.func75,Tryz.ntmps75
  go_wp2
  go_ret;exact⟨_,rfl,Mh w 0 _ _,O _ _,fun k q=>by simp[Value.ownBlock] at q⟩
 .have hl:=d.1
  have y:Blk (w.alloc (.cells #[] 37)) w.heap.size [] 37:=Blk.new w [] _;have t:(w.alloc (.cells #[] 37)).ownsRow 0 37 8 (.slice (some ⟨w.heap.size,0,none⟩) 0 0) 0 []:=ZP y (NH _) (NV _) (by simp) (by simp);have m:∀ j u,o[j]?=some u->(w.alloc (.cells #[] 37)).cell? ((⟨g,0,none⟩:Addr).add j)=some u:=by
   intro j u B;have J:=(NQ.1 B).1;rw[MC,Mv,(D.alloc _).cell];rw[<- L,ML (by omega)] at B;exact B
  have x:∀ ty,∃ b f,(Builtin.append_ #[61,61] ty #[.slice (some ⟨w.heap.size,0,none⟩) 0 0,.slice (some ⟨g,0,none⟩) n r]).run Tryz.prog (w.alloc (.cells #[] 37))=.ok b f/\App (w.alloc (.cells #[] 37)) (.slice (some ⟨w.heap.size,0,none⟩) 0 0) 37 8 (0+n) ([]++o) b f:=fun ty =>
   zn (P:=Tryz.prog) 61 ty 37 8 72 JD Nw (by omega) _ 0 [] t ⟨g,0,none⟩ n r o hl m F (by unfold maxLen at *;omega) (by omega)
  have l:∀ b f,App (w.alloc (.cells #[] 37)) (.slice (some ⟨w.heap.size,0,none⟩) 0 0) 37 8 (0+n) ([]++o) b f ->
   ∃ p,Ending.returned b=.returned p/\f.ownsRow 0 37 8 p n o/\Fr Nil w f/\(∀ k,p.ownBlock=some k->w.heap.size<=k):=by
   rintro b f ⟨K,A,s⟩;refine⟨b,rfl,by simpa using K,((O Nil w).alloc _).trans' ((Fr.Hi A).mono (fun i _ h=>h)) (fun i N h=>?_),fun k q=>?_⟩
   .simp[Value.ownBlock] at h;omega
   .rcases s with s|s
    .rw[s] at q;simp[Value.ownBlock] at q;omega
    .rw[s] at q;simp at q;omega
  have E:=Z l;clear l m t y d D;unfold maxLen at z;go_enter Tryz.func75,Tryz.ntmps75
  go_wp2_with (at_builtin;go_must (refine zJ rfl _ _ _ _ rfl _ _ (by rfl) (by rfl) (x _) ?_);rintro b f G)
  go_ret;exact E.out _ _ G
def Xz(a b:Int):Int:=if a<b then -1 else if b<a then 1 else 0
theorem QC(a b:Int)(w:World) :
 Calls Tryz.prog 180 #[.int .i64 a,.int .i64 b] w fun e d=>e=.returned (.int .i64 (Xz a b))/\d=w:=by
 unfold Xz;by_cases c:a<b
 .rw[Mg c]
  go_enter Tryz.func180,Tryz.ntmps180
  go_wp2
  go_ret;exact⟨rfl,rfl⟩
 .by_cases h2:b<a
  .rw[NU c,Mg h2]
   go_enter Tryz.func180,Tryz.ntmps180
   go_wp2
   go_ret;exact⟨rfl,rfl⟩
  .rw[NU c,NU h2]
   go_enter Tryz.func180,Tryz.ntmps180
   go_wp2
   go_ret;exact⟨rfl,rfl⟩
def Ver.dot(v:Ver):Int × Int:=(v.node,v.seq)
def NB(a b:Int × Int):Bool:=decide (a.1<b.1\/a.1=b.1/\a.2<b.2)
def Vf(l:List Ver):Prop:=Asc NB (l.map Ver.dot)
abbrev Keys:=List (ByteArray × List Ver)
def Yb(K:Keys):Prop:=Asc zb (K.map Prod.fst)
theorem ZH{a b:ByteArray}(h:zb a b=true):a≠b:=fun e=>by rw[e,zW.Fz] at h;cases h
theorem Us{K:Keys}{key:ByteArray}:∀ x∈K.take (low zb (K.map Prod.fst) key),zb x.1 key=true:=by
 intro x d;obtain⟨j,c,rfl⟩:=LC d;rw[NJ] at c;have a:j<(K.map Prod.fst).length:=by rw[Mq];omega
 have:=TS (lt:=zb) (l:=K.map Prod.fst) (b:=key) (k:=j) a (by omega);rw[MH] at this;rw[KA];exact this
theorem Ut{K:Keys}{key:ByteArray}(h:Yb K):∀ x∈K.drop (if zC zb (K.map Prod.fst) key=true then low zb (K.map Prod.fst) key+1 else low zb (K.map Prod.fst) key),zb key x.1=true:=by
 intro x m;obtain⟨j,d,rfl⟩:=LC m;rw[Md] at d;rw[List.getElem_drop];rcases Ls (low zb (K.map Prod.fst) key) (K.map Prod.fst).length with f|f
 .have hge:=TT f
  have k:low zb (K.map Prod.fst) key<K.length:=by simpa using f
  have c:=Yv (lt:=zb) (b:=key) k rfl;rw[MH] at hge;by_cases a:zC zb (K.map Prod.fst) key=true
  .rw[a] at c
   have g:=zH.1 c.symm;simp only[a,MK] at d |-;have:=Asc.fst h (i:=low zb (K.map Prod.fst) key) (j:=low zb (K.map Prod.fst) key+1+j) (by omega) (by omega);rw[g] at this;exact this
  .have a:zC zb (K.map Prod.fst) key=false:=by simpa using a
   rw[a] at c;have g:K[low zb (K.map Prod.fst) key].1≠key:=fun e=>by rw[zH.2 e] at c;cases c
   have l:=zW.FR _ _ hge g;simp only[a,MU,MG] at d |-;rcases LY j with e|e
   .subst e;exact l
   .exact zW.trans _ _ _ l (Asc.fst h (i:=low zb (K.map Prod.fst) key) (j:=low zb (K.map Prod.fst) key+j) (by omega) (by omega))
 .rw[Mq] at f
  exfalso
  have:=d;split at this <;> omega
theorem XW{K:Keys}{key:ByteArray}(a:zC zb (K.map Prod.fst) key=true):∃ l,K=K.take (low zb (K.map Prod.fst) key)++(key,l)::K.drop (low zb (K.map Prod.fst) key+1)/\zq K key=l:=by
 rcases Ls (low zb (K.map Prod.fst) key) K.length with c|c
 .have he:=Yv (lt:=zb) (b:=key) c rfl
  rw[a] at he;have d:=zH.1 he.symm;refine⟨K[low zb (K.map Prod.fst) key].2,?_,?_⟩
  .have e2:(key,K[low zb (K.map Prod.fst) key].2)=K[low zb (K.map Prod.fst) key]:=by rw[<- Prod.eta K[low zb (K.map Prod.fst) key],d]
   rw[e2,List.getElem_cons_drop,Mp]
  .unfold zq
   rw[Mg a,Mz,NS c]
   rfl
 .rw[XG (by simpa using c)] at a
  cases a
def YX(K:Keys)(key:ByteArray):List Ver:=match K.find? (fun e=>e.1==key) with|some e=>e.2|none=>[]
theorem Uu{K:Keys}{key:ByteArray}(h:∀ x∈K,x.1≠key):K.find? (fun e=>e.1==key)=none:=by
 rw[LX];intro x a;have:=h x a;intro e;exact this (zH.1 e)
theorem Sn{K:Keys}(key:ByteArray)(h:Yb K):YX K key=zq K key:=by
 have c:∀ x∈K.take (low zb (K.map Prod.fst) key),x.1≠key:=fun x a=>ZH (Us x a);have b:=Ut (key:=key) h;cases ha:zC zb (K.map Prod.fst) key with
 | true =>
  obtain⟨l,d,g⟩:=XW ha;rw[g];unfold YX;have:K.find? (fun e=>e.1==key)=some (key,l):=by
   rw[d,JE,Uu c];simp[zH.2 rfl]
  rw[this]
 | false =>
  have f:zq K key=[]:=by unfold zq;rw[NU (by rw[ha];decide)]
  rw[f];rw[ha] at b;simp only[MU,MG] at b;unfold YX;have:K.find? (fun e=>e.1==key)=none:=by
   rw[<- Mp (low zb (K.map Prod.fst) key) K];refine Uu fun x a=>?_;rcases NW.1 a with a|a
   .exact c x a
   .exact(ZH (b x a)).symm
  rw[this]
def zT(key:ByteArray)(l:List Ver)(st:Keys × Bool)(e:ByteArray × List Ver):Keys × Bool :=
 (((if st.2=false/\zb e.1 key=false then st.1++[(key,l)] else st.1)++if e.1=key then [] else [e]),st.2||!zb e.1 key)
def Z0(K:Keys)(key:ByteArray)(l:List Ver):Keys :=
 (K.foldl (zT key l) ([],l.isEmpty)).1++if (K.foldl (zT key l) ([],l.isEmpty)).2=true then [] else [(key,l)]
theorem YL(key:ByteArray)(l:List Ver):∀ (K a:Keys),(∀ x∈K,x.1≠key)->K.foldl (zT key l) (a,true)=(a++K,true)
 | [],a,_=>by simp
 | e::K,a,h=>by
  have b:e.1≠key:=h e (NR ..);have:zT key l (a,true) e=(a++[e],true):=by simp[zT,b]
  rw[Lt,this,YL key l K _ (fun x c=>h x (NO _ c))];simp
theorem XX(key:ByteArray)(l:List Ver)(b:Bool):∀ (K a:Keys),(∀ x∈K,zb x.1 key=true)->K.foldl (zT key l) (a,b)=(a++K,b)
 | [],a,_=>by simp
 | e::K,a,h=>by
  have c:=h e (NR ..);have d:e.1≠key:=ZH c;have:zT key l (a,b) e=(a++[e],b):=by simp[zT,c,d]
  rw[Lt,this,XX key l b K _ (fun x f=>h x (NO _ f))];simp
theorem Pn(key:ByteArray)(l:List Ver)(K a:Keys)(h:∀ x∈K,zb key x.1=true) :
 K.foldl (zT key l) (a,false)=(if K=[] then(a,false) else(a++(key,l)::K,true)):=by
 cases K with
 | nil=>rfl
 | cons e K =>
  have b:=h e (NR ..);have f:e.1≠key:=fun x=>ZH b x.symm;have d:zb e.1 key=false:=zW.FZ b;have:zT key l (a,false) e=(a++[(key,l)]++[e],true):=by simp[zT,d,f]
  rw[Lt,this,YL key l K _ (fun x g=>fun c=>ZH (h x (NO _ g)) c.symm)];simp
theorem Zy{K:Keys}(key:ByteArray)(l:List Ver)(h:Yb K):Z0 K key l=if l=[] then ZQ K key else Zk K key l:=by
 have j:=Us (K:=K) (key:=key);have a:=Ut (key:=key) h;cases ha:zC zb (K.map Prod.fst) key with
 | true =>
  obtain⟨k,e,_⟩:=XW ha;rw[ha] at a;simp only[MK] at a;have f:ZQ K key=K.take (low zb (K.map Prod.fst) key)++K.drop (low zb (K.map Prod.fst) key+1):=by unfold ZQ;rw[Mg ha]
  have g:Zk K key l=K.take (low zb (K.map Prod.fst) key)++[(key,l)]++K.drop (low zb (K.map Prod.fst) key+1):=by unfold Zk;rw[Mg ha]
  rw[f,g];generalize K.take (low zb (K.map Prod.fst) key)=A at *;generalize K.drop (low zb (K.map Prod.fst) key+1)=C at *;subst e;unfold Z0;rw[MZ,XX key l _ A [] j,Lt];have b:zb key key=false:=zW.Fz key;have d:∀ x∈C,x.1≠key:=fun x i=>(ZH (a x i)).symm;cases l with
  | nil =>
   have:zT key [] ([]++A,List.isEmpty ([]:List Ver)) (key,k)=(A,true):=by simp[zT,b]
   rw[this,YL key _ C A d];simp
  | cons v l =>
   have:zT key (v::l) ([]++A,List.isEmpty (v::l)) (key,k)=(A++[(key,v::l)],true):=by simp[zT,b]
   rw[this,YL key _ C _ d];simp
 | false =>
  rw[ha] at a;simp only[MU,MG] at a;have f:ZQ K key=K:=by unfold ZQ;rw[NU (by rw[ha];decide)]
  have g:Zk K key l=K.take (low zb (K.map Prod.fst) key)++[(key,l)]++K.drop (low zb (K.map Prod.fst) key):=by unfold Zk;rw[NU (by rw[ha];decide)]
  have e:K=K.take (low zb (K.map Prod.fst) key)++K.drop (low zb (K.map Prod.fst) key):=(Mp _ _).symm;rw[f,g];generalize K.take (low zb (K.map Prod.fst) key)=A at *;generalize K.drop (low zb (K.map Prod.fst) key)=C at *;subst e;have d:∀ x∈C,x.1≠key:=fun x i=>(ZH (a x i)).symm;unfold Z0;rw[MZ,XX key l _ A [] j];cases l with
  | nil =>
   rw[show List.isEmpty ([]:List Ver)=true from rfl,YL key _ C _ d];simp
  | cons v l =>
   rw[show List.isEmpty (v::l)=false from rfl,Pn key _ C _ a];cases C with
   | nil=>simp
   | cons c C=>simp
def Zz(n s y:Int):Bool:=zN n&&decide (1000<=s/\s<=1000000/\0<=y/\y<=100)
theorem U7(n s y:Int)(w:World):Calls Tryz.prog 93 #[.agg #[.int .i64 n,.int .i64 s,.int .i64 y]] w fun e t=>e=.returned (.bool (Zz n s y))/\Fr Nil w t:=by
 have l:=Blk.new w [.int .i64 n,.int .i64 s,.int .i64 y] 102;have k:Fr Nil w (w.alloc (.cells #[.int .i64 n,.int .i64 s,.int .i64 y] 102)):=(O _ _).alloc _;have f:=Z l;have g:=Z k;clear l k;go_enter Tryz.func93,Tryz.ntmps93;go_wp2_with fail;generalize c:w.alloc (.cells #[.int .i64 n,.int .i64 s,.int .i64 y] 102)=u;rw[c] at f g;clear c;have r:=f.out.cell;generalize w.heap.size=b at f r |-;have d:=Z (Xj n u);cases h1:zN n with
 | false =>
  rw[h1] at d;have a:Zz n s y=false:=by unfold Zz;rw[h1];rfl
  have h:=Z a;clear h1 a
  go_wp2_with (refine d.out.mono ?_;rintro e j ⟨rfl,i⟩;subst j)
  go_ret;exact⟨by rw[h.out];rfl,g.out⟩
 | true =>
  rw[h1] at d;have a:Zz n s y=decide (1000<=s/\s<=1000000/\0<=y/\y<=100):=by unfold Zz;rw[h1];rfl
  have h:=Z a;clear h1 a;by_cases m:1000<=s <;> by_cases o:s<=1000000 <;> by_cases p:0<=y <;> by_cases q:y<=100
  all_goals first
   | (exfalso;omega)
   | (
   go_wp2_with (refine d.out.mono ?_;rintro e j ⟨rfl,i⟩;subst j)
   go_ret;exact⟨by rw[h.out];simp[m,o,p,q],g.out⟩)
structure LM where
 node:Int
 keys:Keys
 hints:List (Nat × ByteArray)
def Yx(b c:Int)(a:ByteArray):Int:=if (zN c&&decide (c≠b))=false then 4 else if a.size=0\/64<a.size then 3 else 0
structure Y2(B:Nat)(L:NL)(M:DM)(w:World):Prop where
 tab:Yp B w
 le:B<=w.heap.size
 Hn:∀ k,NFoot L M k->B<=k
theorem Y2.env{B:Nat}{L:NL}{M:DM}{w:World}(h:Y2 B L M w):Env B L M w:=⟨h.tab,h.le,fun k a=>h.Hn k (.inr (.inr (.inr a)))⟩
theorem Y2.step{B:Nat}{L b:NL}{N':NM}{M c:DM}{w w':World}(h:Y2 B L M w)(s:NStep L M w b N' c w'):Y2 B b c w' :=
 ⟨h.tab.fr h.le s.fr (fun k a=>h.Hn k a),NG h.le s.fr.size,fun k a=>(s.Hn k a).elim (h.Hn k) (fun d=>NG h.le d)⟩
theorem Y2.nil{B:Nat}{L:NL}{M:DM}{w w':World}(h:Y2 B L M w)(f:Fr Nil w w'):Y2 B L M w' :=
 ⟨h.tab.fr (S:=Nil) h.le f (fun _ h=>absurd h id),NG h.le f.size,h.Hn⟩
def zU:Prop:=∀(B:Nat)(w:World)(v:Value)(n:Int),Yp B w->ERep w v (some n)->Calls Tryz.prog 97 #[v] w fun e a=>e=.returned (.int .i64 n)/\Fr Nil w a
def zR(e:Option Int):Int:=e.getD 0
def NM.Gc(N:NM)(e:Option Int):NM:={N with readOnly:=N.readOnly||e.isSome}
theorem NStep.FD{L:NL}{N:NM}{M:DM}{w:World}(h:NRep w L N M)(v:Value):NStep L M w {L with mv:=v} N M (w.setCell ⟨L.nb,6,none⟩ v):=by
 have c:Fr (fun k=>k=L.nb) w (w.setCell ⟨L.nb,6,none⟩ v):=Fr.set (S:=fun k=>k=L.nb) (O _ _) (fun _=>rfl) _;have a:∀ {k t},Ty w k t->t≠123->¬k=L.nb:=fun b d e=>by subst e;exact d (b.inj h.IJ.ty)
 refine⟨⟨?_,?_,?_,h.Hm.fr c (fun k b=>?_)⟩,⟨rfl,rfl,rfl,rfl⟩,c.mono (fun _ _ e=>.inl e),fun k b=>.inl b,fun k b=>.inl b⟩
 .exact h.IJ.set 6 v
 .exact Blk.fr h.log c (a (Blk.ty h.log) (by decide))
 .refine h.held.fr c (fun k b=>?_) (fun k b=>a (h.held.HZ b) (by decide))
  rcases h.held.Hh b with e|e|e
  .exact a e (by decide)
  .exact a e (by decide)
  .exact a e (by decide)
 .obtain⟨t,d,hd⟩:=h.Hm.ty b
  unfold DTy at hd;refine a d ?_;rcases hd with rfl|rfl|rfl|rfl|rfl <;> decide
theorem Yr(a:zU)(B:Nat)(L:NL)(N:NM)(M:DM)(v:Value)(x:Option Int)(w:World)(h:NRep w L N M)(i:Y2 B L M w)(f:ERep w v x) :
 Calls Tryz.prog 79 #[.pointer (some ⟨L.nb,0,none⟩),v] w fun e m=>∃ r,e=.returned (.int .i64 (zR x))/\NStep L M w r (N.Gc x) M m:=by
 cases x with
 | none =>
  have u:v=.nilIface:=f;subst u;have s:N.Gc none=N:=by simp[NM.Gc]
  refine(U5 _ w).mono ?_;rintro e m ⟨rfl,rfl⟩;exact⟨L,rfl,by rw[s];exact NStep.nil h (O _ _)⟩
 | some n =>
  have g:=NStep.set h (N':=N.Gc (some n)) 7 (.bool true) (by simp[NM.cells,NM.Gc]) rfl rfl;have d:=g.trans (NStep.FD g.Hd (.pointer none));have c:=f.FG h d;have o:=Z (a B _ v n (i.step d).tab c);have q:=Z d;have y:=h.IJ.cell;have z:=h.IJ.frozen;obtain⟨k,l⟩:=f;obtain⟨t,b,rfl⟩:=l.form;clear h i g d c l;go_enter Tryz.func79,Tryz.ntmps79;go_wp2_with fail;refine o.out.mono ?_;rintro e A ⟨rfl,j⟩;have p:=Z (q.out.IU j);clear j
  go_wp2
  go_ret;exact⟨_,rfl,p.out⟩
def NM.IX(N:NM)(M:DM):Int × NM × DM :=
 if N.readOnly=true then(8,N,M) else(zR (N.sync M).1,(N.sync M).2.1.Gc (N.sync M).1,(N.sync M).2.2)
theorem XL(d:zU)(B:Nat)(L:NL)(N:NM)(M:DM)(w:World)(h:NRep w L N M)(m:Y2 B L M w) :
 Calls Tryz.prog 32 #[.pointer (some ⟨L.nb,0,none⟩)] w fun e x=>∃ s,e=.returned (.int .i64 (N.IX M).1)/\NStep L M w s (N.IX M).2.1 (N.IX M).2.2 x:=by
 have c:w.cell? ⟨L.nb,7,none⟩=some (.bool N.readOnly):=h.IJ.cell 7;have u:w.cell? ⟨L.nb,1,none⟩=some (.pointer (some ⟨L.jb,0,none⟩)):=h.IJ.cell 1;have g:=Z h;have r:=Z m;clear h m;go_enter Tryz.func32,Tryz.ntmps32;cases hr:N.readOnly with
 | true =>
  rw[hr] at c;have a:N.IX M=(8,N,M):=by unfold NM.IX;rw[Mg hr]
  have b:=Z a;clear hr a;go_wp2_with fail;go_ret;exact⟨L,by rw[b.out];rfl,by rw[b.out];exact NStep.nil g.out (O _ _)⟩
 | false =>
  rw[hr] at c;have a:N.IX M=(zR (N.sync M).1,(N.sync M).2.1.Gc (N.sync M).1,(N.sync M).2.2):=by unfold NM.IX;rw[NU (by rw[hr];decide)]
  have o:N.sync M=((N.J.Hb M).1,{N with J:=(N.J.Hb M).2.1},(N.J.Hb M).2.2):=rfl;rw[o] at a;have b:=Z a;clear hr a o;go_wp2_with fail;refine(Xx L.jb L.db N.J L.LD M w g.out.log g.out.Hm).mono ?_;rintro e y ⟨z,j,rfl,k,l⟩;have i:=Z (NStep.Gb g.out l);have p:=Z k;clear k l;go_wp2_with fail;refine(Yr d B {L with LD:=j} _ _ _ _ y i.out.Hd (r.out.step i.out) p.out).mono ?_;rintro e A ⟨t,rfl,f⟩;have q:=Z (i.out.trans f);clear f
  go_wp2
  go_ret;refine⟨t,?_,?_⟩
  .rw[b.out];rfl
  .rw[b.out];exact q.out
structure Fit(N:NM)(M:DM)(H:Nat)(x:Fact):Prop where
 ok:FOk x
 log:ZY N.J M H (zj x).size
 keys:N.S.keys.length<1099511627776
 hints:N.S.hints.length<1000000
 writes:N.writes<1000000000000
theorem Fit.mono{N:NM}{M:DM}{H a:Nat}{x:Fact}(h:Fit N M H x)(c:H<=a):Fit N M a x:=⟨h.ok,h.log.mono c,h.keys,h.hints,h.writes⟩
def NM.asked(N:NM)(M:DM)(x:Fact)(f:Nat):Int × NM × DM :=
 (zR (N.change M x f).1,(N.change M x f).2.1.Gc (N.change M x f).1,(N.change M x f).2.2)
theorem RA(L:NL)(N:NM)(M:DM)(w:World)(h:NRep w L N M)(a:N.S.hints.length<1000000) :
 Calls Tryz.prog 27 #[.pointer (some ⟨L.nb,0,none⟩)] w fun e c=>∃ b,e=.returned b/\c.ownsRow 0 75 2 b N.S.hints.length (Z8 N.S.hints)/\Fr Nil w c/\(∀ k,b.ownBlock=some k->w.heap.size<=k):=by
 have j:w.cell? ⟨L.nb,2,none⟩=some (.pointer (some ⟨L.sb,0,none⟩)):=h.IJ.cell 2;have d:=Z (Sj L.sb L.LS N.S w h.held a);clear h;go_enter Tryz.func27,Tryz.ntmps27
 go_wp2_with (refine d.out.mono ?_;rintro e l ⟨b,rfl,f,g,i⟩)
 go_ret;exact⟨b,rfl,f,g,i⟩
theorem Uv(L:NL)(N:NM)(M:DM)(a:ByteArray)(w:World)(h:NRep w L N M)(d:N.S.keys.length<1099511627776)(i:(zq N.S.keys a).length<=1000000) :
 Calls Tryz.prog 24 #[.pointer (some ⟨L.nb,0,none⟩),.string a] w fun e u=>∃ j,e=.returned (.tuple #[j,.int .i64 (if zL a=true then 0 else 2)])/\VRow u j (if zL a=true then zq N.S.keys a else [])/\Fr Nil w u/\(∀ k,j.ownBlock=some k->w.heap.size<=k):=by
 have B:w.cell? ⟨L.nb,2,none⟩=some (.pointer (some ⟨L.sb,0,none⟩)):=h.IJ.cell 2;have l:=Z (V2 a w);have p:=Z h;clear h;go_enter Tryz.func24,Tryz.ntmps24;cases hb:zL a with
 | false =>
  rw[hb] at l;clear hb
  go_wp2_with (refine l.out.mono ?_;rintro e f ⟨rfl,o⟩;subst f)
  go_ret2;exact⟨_,rfl,Mh w 0 _ _,O _ _,fun k d=>absurd d (by simp[Value.ownBlock])⟩
 | true =>
  rw[hb] at l;have z:=Z (XK a L.sb L.LS N.S w p.out.held d);have y:=Z (show(zq N.S.keys a).length*72<=140737488355328 by omega);clear hb i d
  go_wp2_with (refine l.out.mono ?_;rintro e f ⟨rfl,o⟩;subst f)
  refine z.out.mono ?_;rintro e f ⟨rfl,c⟩;have g:=Z c;have b:VRow f (getE L.LS.Ga a) (zq N.S.keys a):=(p.out.held.nil c).getE a;have q:=Z b;clear c b;generalize getE L.LS.Ga a=A at q;go_wp2_with fail;refine(Sm A _ _ f q.out (Up _) y.out).mono ?_;rintro e C ⟨j,rfl,r,s,t⟩;have m:=Z (g.out.trans s);have v:=Z r;have x:Hid (∀ k,j.ownBlock=some k->w.heap.size<=k):=fun k d=>NG g.out.size (t k d);clear r s t
  go_wp2
  go_ret2;exact⟨_,rfl,v.out,m.out,x.out⟩
def NM.hint(N:NM)(M:DM)(b:Int)(a:ByteArray)(f:Nat):Int × NM × DM :=
 if (zN b&&decide (b≠N.self))=false then(4,N,M) else
 if a.size=0\/64<a.size then(3,N,M) else
 if N.readOnly=true then(8,N,M) else
 if 32<=N.S.hints.length then(6,N,M) else
 N.asked M (.inr (.inr (.inl (b.toNat,a)))) f
theorem VI(A:zU)(B:Nat)(L:NL)(N:NM)(M:DM)(b:Int)(a:ByteArray)(w:World)(h:NRep w L N M)(he:Y2 B L M w)(t:a.size<=64->zN b=true->N.readOnly=false->Fit N M w.heap.size (.inr (.inr (.inl (b.toNat,a))))) :
 Calls Tryz.prog 31 #[.pointer (some ⟨L.nb,0,none⟩),.int .i64 b,.string a] w fun e D=>∃ f z,e=.returned (.int .i64 (N.hint M b a f).1)/\w.heap.size<=f/\NStep L M w z (N.hint M b a f).2.1 (N.hint M b a f).2.2 D:=by
 have u:w.cell? ⟨L.nb,7,none⟩=some (.bool N.readOnly):=h.IJ.cell 7;have X:w.cell? ⟨L.nb,2,none⟩=some (.pointer (some ⟨L.sb,0,none⟩)):=h.IJ.cell 2;have s:=Z (UY L N M b w h);have r:=Z h;have HE:=Z he;have HT:=Z t;have y:=Z (V1 a);clear h he t;go_enter Tryz.func31,Tryz.ntmps31;cases ho:(zN b&&decide (b≠N.self)) with
 | false =>
  rw[ho] at s;have l:N.hint M b a w.heap.size=(4,N,M):=by unfold NM.hint;rw[Mg ho]
  have g:=Z l;clear ho l
  go_wp2_with (refine s.out.mono ?_;rintro e d ⟨rfl,j⟩;subst d)
  go_ret;exact⟨w.heap.size,L,by rw[g.out];rfl,NH _,by rw[g.out];exact NStep.nil r.out (O _ _)⟩
 | true =>
  rw[ho] at s;have x:Hid (zN b=true):=by simp only[Ld] at ho;exact ho.1
  by_cases c:a.size=0\/64<a.size
  .have l:N.hint M b a w.heap.size=(3,N,M):=by unfold NM.hint;rw[NU (by rw[ho];decide),Mg c]
   have g:=Z l;clear ho l;by_cases F:a.toList=[]
   .clear c
    go_wp2_with (refine s.out.mono ?_;rintro e d ⟨rfl,j⟩;subst d)
    go_ret;exact⟨w.heap.size,L,by rw[g.out];rfl,NH _,by rw[g.out];exact NStep.nil r.out (O _ _)⟩
   .have h1:64<a.size:=by
     rcases c with c|c
     .rw[y.out] at c;exact absurd (NZ c) F
     .exact c
    have h2:(64:Int)<(a.size:Int):=by omega
    have h3:a.toList.isEmpty=false:=by simpa using F
    clear c
    go_wp2_with (refine s.out.mono ?_;rintro e d ⟨rfl,j⟩;subst d)
    go_ret;exact⟨w.heap.size,L,by rw[g.out];rfl,NH _,by rw[g.out];exact NStep.nil r.out (O _ _)⟩
  .have F:¬a.toList=[]:=by
    intro h;apply c;left;rw[y.out,h];rfl
   have h1:¬64<a.size:=fun h=>c (.inr h);have h2:¬(64:Int)<(a.size:Int):=by omega
   have h3:a.toList.isEmpty=false:=by simpa using F
   cases hr:N.readOnly with
   | true =>
    rw[hr] at u;have l:N.hint M b a w.heap.size=(8,N,M):=by unfold NM.hint;rw[NU (by rw[ho];decide),NU c,Mg hr]
    have g:=Z l;clear ho l c hr
    go_wp2_with (refine s.out.mono ?_;rintro e d ⟨rfl,j⟩;subst d)
    go_ret;exact⟨w.heap.size,L,by rw[g.out];rfl,NH _,by rw[g.out];exact NStep.nil r.out (O _ _)⟩
   | false =>
    rw[hr] at u;have HN:=Z (Xi L.sb L.LS N.S w r.out.held);by_cases hm:32<=N.S.hints.length
    .have l:N.hint M b a w.heap.size=(6,N,M):=by unfold NM.hint;rw[NU (by rw[ho];decide),NU c,NU (by rw[hr];decide),Mg hm]
     have g:=Z l;have Y:(32:Int)<=(N.S.hints.length:Int):=by omega
     clear ho l c hr
     go_wp2_with (first|(refine HN.out.mono ?_;rintro e d ⟨rfl,j⟩;subst d)|(refine s.out.mono ?_;rintro e d ⟨rfl,j⟩;subst d))
     go_ret;exact⟨w.heap.size,L,by rw[g.out];rfl,NH _,by rw[g.out];exact NStep.nil r.out (O _ _)⟩
    .have l:∀ f,N.hint M b a f=N.asked M (.inr (.inr (.inl (b.toNat,a)))) f:=by intro f;unfold NM.hint;rw[NU (by rw[ho];decide),NU c,NU (by rw[hr];decide),NU hm]
     have g:=Z l;have Y:¬(32:Int)<=(N.S.hints.length:Int):=by omega
     have V:Hid ((b.toNat:Int)=b):=by
      have:=x.out;unfold zN at this;simp only[Mk] at this;exact Lp this.1
     have S:=Z (HT.out (by omega) x.out hr);have K:=Z (ZZ a w (by omega));clear ho l c hr
     go_wp2_with (first|(refine HN.out.mono ?_;rintro e d ⟨rfl,j⟩;subst d)|(refine s.out.mono ?_;rintro e d ⟨rfl,j⟩;subst d))
     refine K.out.mono ?_;rintro e d ⟨rfl,C⟩;have R:=Z C;have HC:Hid (∀ q J,Fr Nil d J->Calls Tryz.prog 80 #[.pointer (some ⟨L.nb,0,none⟩),.string q,.iface 138 (.agg #[.int .i64 b,.string a])] J fun e D =>
      ∃ f v z,e=.returned v/\w.heap.size<=f/\ERep D v (N.change M (.inr (.inr (.inl (b.toNat,a)))) f).1/\NStep L M w z (N.change M (.inr (.inr (.inl (b.toNat,a)))) f).2.1 (N.change M (.inr (.inr (.inl (b.toNat,a)))) f).2.2 D):=by
      intro q J f2;have o:=R.out.trans f2;have p:=S.out.mono o.size;refine(Sk B L N M q (.inr (.inr (.inl (b.toNat,a)))) _ J (r.out.nil o) (HE.out.nil o).env (show _=_ by rw[V.out]) p.ok (fun k hb=>by obtain⟨v,hv,e⟩:=hb;simp at hv;rcases hv with rfl|rfl <;> exact absurd e (by simp[Value.ownBlock])) p.log p.keys p.hints p.writes).mono ?_;rintro e D ⟨f,v,z,rfl,I,G,i⟩;exact⟨f,v,z,rfl,NG o.size I,G,(NStep.nil r.out o).trans i⟩
     clear C u X;go_wp2_with fail;refine(HC.out _ _ (by exact z8)).mono ?_;rintro e w3 ⟨f,v1,L1,rfl,I,G,i⟩;have E:=Z i;have Q:=Z G;have HF:=Z I;clear G i I;go_wp2_with fail;rw[<- E.out.same.nb];refine(Yr A B L1 _ _ _ _ w3 E.out.Hd (HE.out.step E.out) Q.out).mono ?_;rintro e w4 ⟨L2,rfl,i⟩;have T:=Z (E.out.trans i);clear i
     go_wp2
     go_ret;refine⟨f,L2,?_,HF.out,?_⟩
     .rw[g.out];rfl
     .rw[g.out];exact T.out
theorem RB(L:NL)(N:NM)(M:DM)(w:World)(h:NRep w L N M) :
 Calls Tryz.prog 39 #[.pointer (some ⟨L.nb,0,none⟩)] w fun e E=>e=.returned (.agg #[.bool N.readOnly,.int .i64 N.S.keys.length,.int .i64 N.S.hints.length])/\Fr Nil w E:=by
 have a:Fr Nil w (w.alloc (Obj.cells #[.bool false,.int .i64 0,.int .i64 0] 81)):=(O _ _).alloc _;have c:=Blk.new w [.bool false,.int .i64 0,.int .i64 0] 81;have i:=h.nil a;have z:=Z (fun p (f:Fr Nil w p)=>VG L.sb L.LS N.S p (h.nil f).held);have B:=Z (fun p (f:Fr Nil w p)=>Xi L.sb L.LS N.S p (h.nil f).held);have j:=Z a;have y:=Z c;have x:=Z i;clear h a c i;go_enter Tryz.func39,Tryz.ntmps39;go_wp2_with fail;generalize b:w.alloc (Obj.cells #[.bool false,.int .i64 0,.int .i64 0] 81)=g;have c:Blk g w.heap.size [.bool false,.int .i64 0,.int .i64 0] 81:=by rw[<- b];exact y.out
 have i:NRep g L N M:=by rw[<- b];exact x.out
 have a:Fr Nil w g:=by rw[<- b];exact j.out
 have r:=Z a;have D:g.cell? ⟨L.nb,7,none⟩=some (.bool N.readOnly):=i.IJ.cell 7;have C:g.cell? ⟨L.nb,2,none⟩=some (.pointer (some ⟨L.sb,0,none⟩)):=i.IJ.cell 2;have t:=c.cell;have u:=c.frozen;have q:=Z c;have A:Hid (w.heap.size<=w.heap.size):=NH _;clear b i a j y x c;refine MR 15 (by kernel_rfl) (by kernel_rfl) ?_;simp only[MI,Lk,MX,Lq]
 iterate 8 still_step
 still_call (z.out _ (r.out.trans (by exact z8)))
 iterate 4 still_step
 still_call (B.out _ (r.out.trans (by exact z8)))
 iterate 1 still_step
 refine Kh ?_;go_wp2_with fail;have m:=((q.out.set 0 (.bool N.readOnly)).set 1 (.int .i64 N.S.keys.length)).set 2 (.int .i64 N.S.hints.length);have o:Fr Nil w (((g.setCell ⟨w.heap.size,0,none⟩ (.bool N.readOnly)).setCell ⟨w.heap.size,1,none⟩ (.int .i64 N.S.keys.length)).setCell ⟨w.heap.size,2,none⟩ (.int .i64 N.S.hints.length)) :=
  Fr.set (Fr.set (Fr.set r.out (fun h=>by simp only at h;omega) _) (fun h=>by simp only at h;omega) _) (fun h=>by simp only at h;omega) _
 have l:=Z o;have d:=m.cell;simp only[Mb,Mc] at d;clear t u o m;generalize ((g.setCell ⟨w.heap.size,0,none⟩ (.bool N.readOnly)).setCell ⟨w.heap.size,1,none⟩ (.int .i64 N.S.keys.length)).setCell ⟨w.heap.size,2,none⟩ (.int .i64 N.S.hints.length)=F at d l |-;have s:∀ k,F.drew.cell? ⟨w.heap.size,k,none⟩=[Value.bool N.readOnly,.int .i64 N.S.keys.length,.int .i64 N.S.hints.length][k]?:=d;refine KJ (v:=.agg #[.bool N.readOnly,.int .i64 N.S.keys.length,.int .i64 N.S.hints.length]) (by simp[results,Tryz.results39,go_sem,s,Tryz.isAgg81,Tryz.sizeOf81]) rfl ⟨rfl,l.out.drew⟩
def NM.replace(N:NM)(M:DM)(a:ByteArray)(b:NM->Nat->List Ver)(f g:Nat):Nat × Int × NM × DM :=
 match (N.next M f).1 with
 | some n=>(0,n,(N.next M f).2.2.1.Gc (some n),(N.next M f).2.2.2)
 | none =>
  match ((N.next M f).2.2.1.change (N.next M f).2.2.2 (.inr (.inl (a,b (N.next M f).2.2.1 (N.next M f).2.1))) g).1 with
  | some n=>(0,n,((N.next M f).2.2.1.asked (N.next M f).2.2.2 (.inr (.inl (a,b (N.next M f).2.2.1 (N.next M f).2.1))) g).2)
  | none=>((N.next M f).2.1,0,((N.next M f).2.2.1.asked (N.next M f).2.2.2 (.inr (.inl (a,b (N.next M f).2.2.1 (N.next M f).2.1))) g).2)
theorem On(N:NM):N.Gc none=N:=by simp[NM.Gc]
def Gives(L:NL)(N:NM)(M:DM)(w:World)(c:Nat)(a:Array Value)(h:NM->Nat->List Ver):Prop :=
 ∀ f,w.heap.size<=f->∀ (g:NL) (b:World),NStep L M w g (N.next M f).2.2.1 (N.next M f).2.2.2 b->Calls Tryz.prog c (#[.int .i64 (N.next M f).2.1]++a) b fun e d=>∃ v,e=.returned v/\VRow d v (h (N.next M f).2.2.1 (N.next M f).2.1)/\Fr Nil b d/\(∀ k,v.ownBlock=some k->w.heap.size<=k)
theorem Po(N:NM)(M:DM)(f:Nat):(N.next M f).2.2.1.S.keys=N.S.keys/\(N.next M f).2.2.1.S.hints=N.S.hints/\(N.next M f).2.2.1.self=N.self/\(N.next M f).2.2.1.readOnly=N.readOnly/\(N.next M f).2.2.1.every=N.every/\(N.next M f).2.2.1.writes=N.writes:=by
 have a:∀ k,(N.write M (.inl k) f).2.1.S.keys=N.S.keys/\(N.write M (.inl k) f).2.1.S.hints=N.S.hints:=by
  intro k;unfold NM.write;simp only;split <;> exact⟨rfl,rfl⟩
 have b:(N.He M f).2.1.S.keys=N.S.keys/\(N.He M f).2.1.S.hints=N.S.hints/\(N.He M f).2.1.self=N.self/\(N.He M f).2.1.readOnly=N.readOnly/\(N.He M f).2.1.every=N.every/\(N.He M f).2.1.writes=N.writes:=by
  unfold NM.He;split
  .exact⟨(a _).1,(a _).2,rfl,rfl,rfl,rfl⟩
  .exact⟨(a _).1,(a _).2,rfl,rfl,rfl,rfl⟩
 unfold NM.next;split
 .exact⟨rfl,rfl,rfl,rfl,rfl,rfl⟩
 .split
  .exact b
  .exact b
def Apart2(N:NM)(M:DM)(f g:Nat):Prop:=f=g->f∉(N.next M f).2.2.2.ids
theorem Xr(N:NM)(M:DM){f g:Nat}(h:f≠g):Apart2 N M f g:=fun e=>absurd e h
theorem UZ(K:zU)(B:Nat)(L:NL)(N:NM)(M:DM)(a:ByteArray)(l:NM->Nat->List Ver)(c:Nat)(I:Array Value)(w:World)(h:NRep w L N M)(he:Y2 B L M w)(A:Gives L N M w c I l)(c2:∀ xs w,Sem.run Tryz.prog (callFunc c xs) w=.ok (.enter c xs) w)
 (a5:a.size<=1000000000)(S:ZY N.J M w.heap.size (zj (.inl (N.given+16))).size)(R:N.S.keys.length<1099511627776)(hh:N.S.hints.length<1000000)(a4:N.given<1000000000000)
 (Q:∀ f,w.heap.size<=f->(N.next M f).1=none->∀ H,w.heap.size<=H->(∀ i∈(N.next M f).2.2.2.ids,i<H)->Fit (N.next M f).2.2.1 (N.next M f).2.2.2 H (.inr (.inl (a,l (N.next M f).2.2.1 (N.next M f).2.1)))) :
 Calls Tryz.prog 70 #[.pointer (some ⟨L.nb,0,none⟩),.string a,.func (.func c) #[] I] w fun e w'=>∃ f g L',e=.returned (.tuple #[.int .i64 (N.replace M a l f g).1,.int .i64 (N.replace M a l f g).2.1])/\w.heap.size<=f/\w.heap.size<=g/\Apart2 N M f g/\NStep L M w L' (N.replace M a l f g).2.2.1 (N.replace M a l f g).2.2.2 w':=by
 have HX:=Z (QB B L N M w h he.env S R hh a4);have HE:=Z he;have HH:=Z h;have HG:=Z A;have a0:=Z Q;clear h he A S R hh a4 Q;go_enter Tryz.func70,Tryz.ntmps70;go_wp2_with fail;refine HX.out.mono ?_;rintro e w1 ⟨f,v1,L1,rfl,hf,J,d⟩;have q:=Z d;have HF:=Z hf;cases hx:(N.next M f).1 with
 | some n =>
  have hp:∀ g,N.replace M a l f g=(0,n,(N.next M f).2.2.1.Gc (some n),(N.next M f).2.2.2):=by intro g;unfold NM.replace;rw[hx]
  have z:=Z hp;rw[hx] at J;have b2:=Z J;obtain⟨k,R⟩:=J;obtain⟨t,b,rfl⟩:=R.form;generalize (N.next M f).2.2.1=j at d q z;generalize (N.next M f).2.2.2=o at d q z;generalize (N.next M f).2.1=m;clear hx hp R d hf;go_wp2_with fail;rw[<- q.out.same.nb];refine(Yr K B L1 _ _ _ _ w1 q.out.Hd (HE.out.step q.out) b2.out).mono ?_;rintro e w2 ⟨L2,rfl,d⟩;have F:=Z (q.out.trans d);clear d
  go_wp2
  go_ret2;refine⟨f,f+1,L2,?_,HF.out,Mr HF.out,Xr N M (by omega),?_⟩
  .rw[z.out];rfl
  .rw[z.out];exact F.out
 | none =>
  rw[hx] at J;have hv:v1=.nilIface:=J;subst hv;have a7:∀ g n,((N.next M f).2.2.1.change (N.next M f).2.2.2 (.inr (.inl (a,l (N.next M f).2.2.1 (N.next M f).2.1))) g).1=some n->N.replace M a l f g=(0,n,((N.next M f).2.2.1.asked (N.next M f).2.2.2 (.inr (.inl (a,l (N.next M f).2.2.1 (N.next M f).2.1))) g).2):=by intro g n h;unfold NM.replace;rw[hx];simp only;rw[h]
  have a6:∀ g,((N.next M f).2.2.1.change (N.next M f).2.2.2 (.inr (.inl (a,l (N.next M f).2.2.1 (N.next M f).2.1))) g).1=none->N.replace M a l f g=((N.next M f).2.1,0,((N.next M f).2.2.1.asked (N.next M f).2.2.2 (.inr (.inl (a,l (N.next M f).2.2.1 (N.next M f).2.1))) g).2):=by intro g h;unfold NM.replace;rw[hx];simp only;rw[h]
  have E:=Z a7;have D:=Z a6;have HT:=Z (a0.out f hf hx w1.heap.size d.fr.size (fun i hi=>(d.Hd.Hm.files i hi).lt));have a3:∀ g,w1.heap.size<=g->Apart2 N M f g:=fun g A e hi=>by have:=(d.Hd.Hm.files f hi).lt;omega
  have b0:=Z a3;have C:=Z (HG.out f hf);generalize (N.next M f).2.2.1=j at d q E D HT C;generalize (N.next M f).2.2.2=o at d q E D HT C;generalize (N.next M f).2.1=m at E D HT C;have b1:=Z (ZZ a w1 a5);clear J hx d hf a7 a6 a3;go_wp2_with fail;refine b1.out.mono ?_;rintro e w2 ⟨rfl,G⟩;have F:=Z (q.out.IU G);have b7:=Z G.size;have b4:=Z (C.out L1 w2 F.out);have b9:=Z (NG q.out.fr.size G.size);clear G;go_wp2_with fail;refine b4.out.mono ?_;rintro e w3 ⟨v3,rfl,u,V,T⟩;have b5:=Z (F.out.IU V);have a2:=Z (NG b7.out V.size);have HC:Hid (∀ y w4,Fr Nil w3 w4->Calls Tryz.prog 80 #[.pointer (some ⟨L.nb,0,none⟩),.string y,.iface 193 (.agg #[.string a,v3])] w4 fun e w' =>
   ∃ g v L',e=.returned v/\w1.heap.size<=g/\ERep w' v (j.change o (.inr (.inl (a,l j m))) g).1/\NStep L M w L' (j.change o (.inr (.inl (a,l j m))) g).2.1 (j.change o (.inr (.inl (a,l j m))) g).2.2 w'):=by
   intro y w4 f4;have a8:=b5.out.IU f4;have s:=HT.out.mono (NG a2.out f4.size);have X:VRow w4 v3 (l j m):=VRow.fr u f4 (fun _ _=>id);rw[<- q.out.same.nb];refine(V0 B L M w L1 j o y (.inr (.inl (a,l j m))) _ w4 a8 (HE.out.step a8).env ⟨v3,rfl,X⟩ s.ok (fun k hb=>?_) s.log s.keys s.hints s.writes).mono ?_
   .obtain⟨v,hv,e⟩:=hb
    simp at hv;rcases hv with rfl|rfl
    .exact absurd e (by simp[Value.ownBlock])
    .exact .inr (T k e)
   .rintro e w' ⟨g,v,L',rfl,A,J,d⟩
    exact⟨g,v,L',rfl,NG (NG a2.out f4.size) A,J,d⟩
  obtain⟨c0,c1,a9⟩:=zd u;rw[a9] at HC |-;clear u V T a9;go_wp2_with fail;refine(HC.out _ _ (by exact z8)).mono ?_;rintro e w5 ⟨g,v5,L5,rfl,A,p,x⟩;have a1:=Z (NG q.out.fr.size A);have Y:=Z (b0.out g A);have r:=Z x;cases hc:(j.change o (.inr (.inl (a,l j m))) g).1 with
  | some n =>
   have z:=Z (E.out g n hc);rw[hc] at p;have b3:=Z p;have HA:Hid ((j.asked o (.inr (.inl (a,l j m))) g).2=((j.change o (.inr (.inl (a,l j m))) g).2.1.Gc (some n),(j.change o (.inr (.inl (a,l j m))) g).2.2)):=by unfold NM.asked;rw[hc];exact rfl
   obtain⟨k,R⟩:=p;obtain⟨t,b,rfl⟩:=R.form;clear hc R x A;go_wp2_with fail;rw[<- r.out.same.nb];refine(Yr K B L5 _ _ _ _ w5 r.out.Hd (HE.out.step r.out) b3.out).mono ?_;rintro e w6 ⟨L6,rfl,d⟩;have b6:=Z (r.out.trans d);clear d
   go_wp2
   go_ret2;refine⟨f,g,L6,?_,HF.out,a1.out,Y.out,?_⟩
   .rw[z.out];rfl
   .rw[z.out,HA.out];exact b6.out
  | none =>
   have z:=Z (D.out g hc);rw[hc] at p;have b8:v5=.nilIface:=p;subst b8;have ha:(j.asked o (.inr (.inl (a,l j m))) g).2=((j.change o (.inr (.inl (a,l j m))) g).2.1,(j.change o (.inr (.inl (a,l j m))) g).2.2):=by
    show((j.change o (.inr (.inl (a,l j m))) g).2.1.Gc _,_)=_;rw[hc,On]
   have HA:=Z ha;clear hc x A p ha;go_wp2_with fail;go_ret2;refine⟨f,g,L5,?_,HF.out,a1.out,Y.out,?_⟩
   .rw[z.out];rfl
   .rw[z.out,HA.out];exact r.out
theorem Nx(a:Array Value)(w:World):Sem.run Tryz.prog (callFunc 71 a) w=.ok (.enter 71 a) w:=by kernel_rfl
structure Vg(N:NM)(M:DM)(H:Nat)(key:ByteArray)(vs:NM->Nat->List Ver):Prop where
 log:ZY N.J M H (zj (.inl (N.given+16))).size
 keys:N.S.keys.length<1099511627776
 hints:N.S.hints.length<1000000
 given:N.given<1000000000000
 fact:∀ f,H<=f->(N.next M f).1=none->∀ H',H<=H'->(∀ i∈(N.next M f).2.2.2.ids,i<H')->Fit (N.next M f).2.2.1 (N.next M f).2.2.2 H' (.inr (.inl (key,vs (N.next M f).2.2.1 (N.next M f).2.1)))
def putV(a b:ByteArray)(N:NM)(n:Nat):List Ver :=
 [{node:=N.self,seq:=n,o0:=grV (zq N.S.keys a) 0,o1:=grV (zq N.S.keys a) 1,o2:=grV (zq N.S.keys a) 2,o3:=grV (zq N.S.keys a) 3,value:=b,gone:=false}]
theorem QD(L:NL)(N:NM)(M:DM)(b a:ByteArray)(B C D n:Nat)(w:World)(h:NRep w L N M)(o:Blk w B [.pointer (some ⟨L.nb,0,none⟩)] 41)(p:Blk w C [.string b] 9)(q:Blk w D [.string a] 9)
 (A:N.S.keys.length<1099511627776)(g:∀ u∈zq N.S.keys b,WB u.node)(j:a.size<=1000000000) :
 Calls Tryz.prog 71 #[.int .i64 n,.pointer (some ⟨B,0,none⟩),.pointer (some ⟨C,0,none⟩),.pointer (some ⟨D,0,none⟩)] w fun e c=>∃ v,e=.returned v/\VRow c v (putV b a N n)/\Fr Nil w c/\(∀ k,v.ownBlock=some k->w.heap.size<=k):=by
 have l:Hid (∀ c,Fr Nil w c->c.cell? ⟨B,0,none⟩=some (.pointer (some ⟨L.nb,0,none⟩))/\c.cell? ⟨C,0,none⟩=some (.string b)/\c.cell? ⟨D,0,none⟩=some (.string a)/\c.cell? ⟨L.nb,0,none⟩=some (.int .i64 N.self)/\c.cell? ⟨L.nb,2,none⟩=some (.pointer (some ⟨L.sb,0,none⟩))) :=
  fun c f=>⟨(o.fr f id).cell 0,(p.fr f id).cell 0,(q.fr f id).cell 0,(h.IJ.fr f id).cell 0,(h.IJ.fr f id).cell 2⟩
 have Q:=Z (fun c (f:Fr Nil w c)=>XK b L.sb L.LS N.S c (h.held.nil f) A);have K:=Z (fun c (f:Fr Nil w c)=>U6 (getE L.LS.Ga b) (zq N.S.keys b) g c ((h.held.nil f).getE b));have I:=Z (fun c=>ZZ a c j);obtain⟨R,S,T,V,X⟩:=l.out w (O _ _);clear h o p q A g j;go_enter Tryz.func71,Tryz.ntmps71;go_wp2_with fail
 go_region_held3 (fun c=>c.cell? ⟨B,0,none⟩=some (.pointer (some ⟨L.nb,0,none⟩))/\c.cell? ⟨C,0,none⟩=some (.string b)/\c.cell? ⟨D,0,none⟩=some (.string a)/\c.cell? ⟨L.nb,0,none⟩=some (.int .i64 N.self)/\c.cell? ⟨L.nb,2,none⟩=some (.pointer (some ⟨L.sb,0,none⟩))) (first|assumption|go_keep|exact l.out _ z8)
  (first
  | (go_at_call 72;refine(K.out _ z8).mono ?_;rintro e F ⟨rfl,t⟩;have x:Fr Nil w F:=Fr.trans z8 t;have a0:=l.out F x;clear t)
  | (go_at_call 74;refine(I.out _).mono ?_;rintro e wc ⟨rfl,s⟩;have d:Fr Nil w wc:=Fr.trans z8 s;have Y:=l.out wc d;clear s)
  | (go_at_call 73;refine(Q.out _ z8).mono ?_;rintro e G ⟨rfl,y⟩;have z:Fr Nil w G:=Fr.trans z8 y;have a1:=l.out G z;clear y))
 have r:=Blk.new wc [.int .i64 N.self,.int .i64 n,.int .i64 (grV (zq N.S.keys b) 0),.int .i64 (grV (zq N.S.keys b) 1),.int .i64 (grV (zq N.S.keys b) 2),.int .i64 (grV (zq N.S.keys b) 3),.string a,.bool false] 37;have i:VRow _ (.slice (some ⟨wc.heap.size,0,none⟩) 1 1) (putV b a N n):=ZP (cap:=1) r (NH _) (by decide) rfl rfl;have m:=Z i;have J:=Z (d.alloc (.cells #[.int .i64 N.self,.int .i64 n,.int .i64 (grV (zq N.S.keys b) 0),.int .i64 (grV (zq N.S.keys b) 1),.int .i64 (grV (zq N.S.keys b) 2),.int .i64 (grV (zq N.S.keys b) 3),.string a,.bool false] 37));have E:=Z d.size;clear r i
 go_wp2
 go_ret;exact⟨_,rfl,m.out,J.out,fun k A=>by simp[Value.ownBlock] at A;subst A;exact E.out⟩
theorem YY(w:World)(a:Obj):(w.alloc a).heap.size=w.heap.size+1:=Array.size_push ..
theorem Vg.mono{N:NM}{M:DM}{H e:Nat}{a:ByteArray}{g:NM->Nat->List Ver}(h:Vg N M H a g)(c:H<=e):Vg N M e a g :=
 ⟨h.log.mono c,h.keys,h.hints,h.given,fun f r y o q=>h.fact f (NG c r) y o (NG c q)⟩
def NM.put(N:NM)(M:DM)(b a:ByteArray)(f g:Nat):Nat × Int × NM × DM :=
 if zL b=false then(0,2,N,M) else if 128<a.size then(0,3,N,M) else if N.readOnly=true then(0,8,N,M) else N.replace M b (putV b a) f g
theorem Uw(I:zU)(B:Nat)(L:NL)(N:NM)(M:DM)(b a:ByteArray)(w:World)(h:NRep w L N M)(he:Y2 B L M w)(o:∀ u∈zq N.S.keys b,WB u.node)
 (y:zL b=true->a.size<=128->N.readOnly=false->Vg N M w.heap.size b (putV b a)) :
 Calls Tryz.prog 22 #[.pointer (some ⟨L.nb,0,none⟩),.string b,.string a] w fun e w'=>∃ f g L',e=.returned (.tuple #[.int .i64 (N.put M b a f g).1,.int .i64 (N.put M b a f g).2.1])/\w.heap.size<=f/\w.heap.size<=g/\Apart2 N M f g/\NStep L M w L' (N.put M b a f g).2.2.1 (N.put M b a f g).2.2.2 w':=by
 have F:=Z h;have HE:=Z he;have HT:=Z y;have V:=Z o;clear h he y o;go_enter Tryz.func22,Tryz.ntmps22;go_wp2_with fail;have A:=Blk.new w [.pointer (some ⟨L.nb,0,none⟩)] 41;have x:=Blk.new (w.alloc (.cells #[.pointer (some ⟨L.nb,0,none⟩)] 41)) [.string b] 9;have C:=Blk.new ((w.alloc (.cells #[.pointer (some ⟨L.nb,0,none⟩)] 41)).alloc (.cells #[.string b] 9)) [.string a] 9;have r:Fr Nil (w.alloc (.cells #[.pointer (some ⟨L.nb,0,none⟩)] 41)) (((w.alloc (.cells #[.pointer (some ⟨L.nb,0,none⟩)] 41)).alloc (.cells #[.string b] 9)).alloc (.cells #[.string a] 9)):=((O _ _).alloc _).alloc _;have f2:Fr Nil ((w.alloc (.cells #[.pointer (some ⟨L.nb,0,none⟩)] 41)).alloc (.cells #[.string b] 9)) (((w.alloc (.cells #[.pointer (some ⟨L.nb,0,none⟩)] 41)).alloc (.cells #[.string b] 9)).alloc (.cells #[.string a] 9)):=(O _ _).alloc _;have Q:Fr Nil w (((w.alloc (.cells #[.pointer (some ⟨L.nb,0,none⟩)] 41)).alloc (.cells #[.string b] 9)).alloc (.cells #[.string a] 9)):=((O _ _).alloc _).trans r;have s1:(w.alloc (.cells #[.pointer (some ⟨L.nb,0,none⟩)] 41)).heap.size=w.heap.size+1:=YY _ _;have s2:((w.alloc (.cells #[.pointer (some ⟨L.nb,0,none⟩)] 41)).alloc (.cells #[.string b] 9)).heap.size=w.heap.size+1+1:=by rw[YY,YY]
 have A:=A.fr r id;have x:=x.fr f2 id;rw[s1] at x;rw[s2] at C;clear r f2 s1 s2;generalize ((w.alloc (.cells #[.pointer (some ⟨L.nb,0,none⟩)] 41)).alloc (.cells #[.string b] 9)).alloc (.cells #[.string a] 9)=z at A x C Q |-;have c:=Z Q;have a8:z.cell? ⟨w.heap.size,0,none⟩=some (.pointer (some ⟨L.nb,0,none⟩)):=A.cell 0;have a3:z.cell? ⟨w.heap.size+1,0,none⟩=some (.string b):=x.cell 0;have a4:z.cell? ⟨w.heap.size+1+1,0,none⟩=some (.string a):=C.cell 0;generalize w.heap.size+1+1=b3 at C a4 |-;generalize w.heap.size+1=b2 at x a3 |-;have HA:=Z A;have HB:=Z x;have HC:=Z C;have X:=Z (F.out.nil Q);have G:z.cell? ⟨L.nb,7,none⟩=some (.bool N.readOnly):=X.out.IJ.cell 7;have K:=Z (V2 b z);clear A x C Q;cases hb:zL b with
 | false =>
  rw[hb] at K;have p:N.put M b a w.heap.size (w.heap.size+1)=(0,2,N,M):=by unfold NM.put;rw[Mg hb]
  have j:=Z p;clear hb p;refine K.out.mono ?_;rintro e D ⟨rfl,a6⟩;subst D
  go_wp2
  go_ret2;exact⟨w.heap.size,w.heap.size+1,L,by rw[j.out];rfl,NH _,Ly _,Xr N M (by omega),by rw[j.out];exact NStep.nil F.out c.out⟩
 | true =>
  rw[hb] at K;have q:b.size<=32:=by unfold zL at hb;simp only[Mk] at hb;exact hb.2
  have T:=Z q;refine K.out.mono ?_;rintro e D ⟨rfl,a6⟩;subst D;by_cases hv:128<a.size
  .have p:N.put M b a w.heap.size (w.heap.size+1)=(0,3,N,M):=by unfold NM.put;rw[NU (by rw[hb];decide),Mg hv]
   have j:=Z p;have a5:(128:Int)<(a.size:Int):=by omega
   clear hb p q
   go_wp2
   go_ret2;exact⟨w.heap.size,w.heap.size+1,L,by rw[j.out];rfl,NH _,Ly _,Xr N M (by omega),by rw[j.out];exact NStep.nil F.out c.out⟩
  .have a5:¬(128:Int)<(a.size:Int):=by omega
   cases hr:N.readOnly with
   | true =>
    rw[hr] at G;have p:N.put M b a w.heap.size (w.heap.size+1)=(0,8,N,M):=by unfold NM.put;rw[NU (by rw[hb];decide),NU hv,Mg hr]
    have j:=Z p;clear hb p q hr
    go_wp2
    go_ret2;exact⟨w.heap.size,w.heap.size+1,L,by rw[j.out];rfl,NH _,Ly _,Xr N M (by omega),by rw[j.out];exact NStep.nil F.out c.out⟩
   | false =>
    rw[hr] at G;have p:∀ f g,N.put M b a f g=N.replace M b (putV b a) f g:=by intro f g;unfold NM.put;rw[NU (by rw[hb];decide),NU hv,NU (by rw[hr];decide)]
    have j:=Z p;have E:=Z (HT.out hb (by omega) hr);have Y:Hid (a.size<=1000000000):=by show _<=_;omega
    clear hb p q hr;have S:Hid (Gives L N M z 71 #[.pointer (some ⟨w.heap.size,0,none⟩),.pointer (some ⟨b2,0,none⟩),.pointer (some ⟨b3,0,none⟩)] (putV b a)):=by
     intro r a7 L1 D s;have l:=(Po N M r).1;have d:∀ {k t},Ty z k t->t≠123->t≠197->t≠161->t≠239->t≠75->¬DTy t->¬NFoot L M k:=fun hk q1 q2 q3 q4 q5 q6=>X.out.apart hk q1 q2 q3 q4 q5 q6;have a0:Blk D w.heap.size [.pointer (some ⟨L1.nb,0,none⟩)] 41:=by
      rw[s.same.nb];exact HA.out.fr s.fr (d HA.out.ty (by decide) (by decide) (by decide) (by decide) (by decide) (by unfold DTy;decide))
     have a1:=HB.out.fr s.fr (d HB.out.ty (by decide) (by decide) (by decide) (by decide) (by decide) (by unfold DTy;decide));have a2:=HC.out.fr s.fr (d HC.out.ty (by decide) (by decide) (by decide) (by decide) (by decide) (by unfold DTy;decide));refine(QD L1 (N.next M r).2.2.1 (N.next M r).2.2.2 b a w.heap.size b2 b3 (N.next M r).2.1 D s.Hd a0 a1 a2 (by rw[l];exact E.out.keys) (by rw[l];exact V.out) Y.out).mono ?_;rintro e w2 ⟨v,rfl,h1,h2,h3⟩;exact⟨v,rfl,h1,h2,fun k hk=>NG s.fr.size (h3 k hk)⟩
    have i:=Z (E.out.mono c.out.size);go_wp2_with fail;refine(UZ I B L N M b (putV b a) 71 _ z X.out (HE.out.nil c.out) S.out Nx (NG T.out (by decide)) i.out.log i.out.keys i.out.hints i.out.given i.out.fact).mono ?_;rintro e w2 ⟨f,g,L2,rfl,hf,hg,d,J⟩;have R:=Z d;have HF:=Z (NG c.out.size hf);have HG:=Z (NG c.out.size hg);have HS:=Z ((NStep.nil F.out c.out).trans J);clear hf hg d J
    go_wp2
    go_ret2;exact⟨f,g,L2,by rw[j.out];rfl,HF.out,HG.out,R.out,by rw[j.out];exact HS.out⟩
end Go.Proofs.YtkhnggkkiefcdaaGreatDoor
namespace Go.Proofs.YtkhnggkkiefcdaaGreatDoor
open Go.RowKit Go.Shelf
set_option maxRecDepth 100000
set_option maxHeartbeats 8000000
attribute [local go_sem] LN
theorem QE(b:Nat)(a:Option Addr)(n c:Nat)(w:World)(f:w.cell? ⟨b,0,none⟩=some (.slice a n c)) :
 Calls Tryz.prog 134 #[.pointer (some ⟨b,0,none⟩)] w fun e d=>e=.returned (.int .i64 n)/\d=w:=by
 go_enter Tryz.func134,Tryz.ntmps134
 go_wp2
 go_ret;exact⟨rfl,rfl⟩
theorem So{w:World}{base:Nat}{e:TypeId}{size n:Nat}{v:Value}{c:List Value}(h:w.ownsRow base e size v n c):w.ownsRow 0 e size v n c:=by
 refine⟨h.1,?_⟩;rcases h.2 with d|⟨g,a,b,f,i,r⟩
 .exact .inl d
 .exact .inr ⟨g,a,b,f,NV _,r⟩
theorem RC(j:Nat)(v:Value)(g:List (ByteArray × Value))(w:World)(I:w.cell? ⟨j,0,none⟩=some v)(a9:j<w.heap.size)(hv:YQ w v g)(G:∀ e∈g,∃ a m c,e.2=.slice a m c)(R:g.length<1000000000) :
 Calls Tryz.prog 143 #[.pointer (some ⟨j,0,none⟩)] w fun e w'=>∃ C,e=.returned C/\w'.ownsRow 0 9 1 C g.length (strs (zm g))/\Fr Nil w w'/\(∀ k,C.ownBlock=some k->w.heap.size<=k):=by
 obtain⟨a0,c0,b3⟩:=zd hv.own;have HL:=Z (QE j a0 g.length c0 w (by rw[I,b3]));refine(Lc (n:=8)).1 ?_;refine Jt Tryz.func143 rfl trivial ?_ rfl;simp only[Tryz.ntmps143,LL,NY,Mw,Nat.reduceAdd,Nat.reduceSub,Kf,Kg,KB,Kn,Ll,MA];obtain⟨ti,tz,X,Y,a1,a2,b1⟩:=Zn XU;have HV:=Z hv;have a4:=Z I;clear hv I
 gi_wp2_with (first
  | (refine⟨trivial,?_⟩;gi_at_call 134;refine(Lc.2 HL.out).mono ?_;rintro e w1 ⟨rfl,b8⟩;subst w1)
  | (gi_at_make;refine wpListIn_make_own _ rfl _ _ 91 rfl w.heap.size 9 ti tz 1 Kz X Y a1 .i64 .i64 g.length g.length rfl rfl rfl (by rw[a2];omega) (by unfold maxLen;omega) (NH _) ?_;intro i s f))
 refine⟨trivial,?_⟩;refine(Lc.2 (Qr j _)).mono ?_;rintro e w3 ⟨rfl,rfl⟩;have V:=f.size;have bO:=JQ i 91 (.slice (some ⟨w.heap.size,0,none⟩) 0 g.length);have bM:=JQ (i.alloc (.cells #[.slice (some ⟨w.heap.size,0,none⟩) 0 g.length] 91)) 236 (.pointer (some ⟨j,0,none⟩));rw[Jc] at bM;have u:Below w.heap.size w ((i.alloc (.cells #[.slice (some ⟨w.heap.size,0,none⟩) 0 g.length] 91)).alloc (.cells #[.pointer (some ⟨j,0,none⟩)] 236)) :=
  ((Below.grown (Ia _ w) f (NH _) (fun k e=>by cases e)).alloc V _).alloc (by simp;omega) _
 have t:=(s.alloc (.cells #[.slice (some ⟨w.heap.size,0,none⟩) 0 g.length] 91)).alloc (.cells #[.pointer (some ⟨j,0,none⟩)] 236);generalize F:(i.alloc (.cells #[.slice (some ⟨w.heap.size,0,none⟩) 0 g.length] 91)).alloc (.cells #[.pointer (some ⟨j,0,none⟩)] 236)=W0 at u t bM;have b7:W0.heap.size=i.heap.size+2:=by rw[<- F];simp
 have a5:Boxed W0 i.heap.size 91 (.slice (some ⟨w.heap.size,0,none⟩) 0 g.length):=by rw[<- F];exact bO.alloc _
 clear F bO f s
 gi_wp2_with fail
 refine wpIn_rangeFunc_ownF rfl (by decide) (gf:=217) (lb:=#[.pointer (some ⟨i.heap.size+1,0,none⟩)]) rfl trivial (Jf Tryz.func217 (by kernel_rfl) rfl)
  (Qs Fence.wide 7 trivial rfl (by decide) (i.heap.size+1) j v g (fun k=>k<w.heap.size\/k=i.heap.size+1) W0 (by omega) (fun k q=>by omega) (by omega) (by omega) (fun k q=>.inl (Z1 HV.out.own q)) G bM.cell ((u.cell (p:=⟨j,0,none⟩) a9).trans a4.out) (za HV.out.own (Fr.Hz (S:=Nil) u) (fun _ _=>id)))
  KpX.trans (KpX.put (fun k q=>by omega)) (Ia _ _) (fun _=>rfl)
  (fun b W=>(∃ C,Boxed W i.heap.size 91 C/\W.ownsRow w.heap.size 9 1 C b.length (strs (b.map Prod.fst))/\True)/\Below w.heap.size w W/\W0.heap.size<=W.heap.size/\Boxed W (i.heap.size+1) 236 (.pointer (some ⟨j,0,none⟩)))
  (fun _ _ _=>False)
  (Jk (IE (holdsRow_own w.heap.size i.heap.size 91 9 1 (fun b:List (ByteArray × Value)=>b.length) (fun b=>strs (b.map Prod.fst)) (fun _ _=>True)) _) (Jk (ownFrom_below (by omega) (by omega)) (Jk (fun _ A B row hs hg _=>NG hs hg.size) (IE (boxed_own _ _ _) _))))
  (fun _ _ _ _ _ hs _ _=>hs)
  ⟨⟨_,a5,t,trivial⟩,u,NH _,bM⟩
  (fun x=>{tmps:=#[.pointer (some ⟨j,0,none⟩),undef,.slice none 0 0,.pointer (some ⟨i.heap.size,0,none⟩),.string x.1,.pointer (some ⟨j,0,none⟩),.int .i64 g.length,.slice (some ⟨w.heap.size,0,none⟩) 0 g.length,.pointer (some ⟨j,0,none⟩),.func (.func 217) #[] #[.pointer (some ⟨i.heap.size+1,0,none⟩)],.string x.1,x.2,undef,undef,undef,undef,undef],defers:=[]}) ?assign ?body ?done ?stop
 case assign =>
  intro l x W K Q
  gi_wp2
  exact Q
 case body =>
  rintro l b x W ⟨⟨C,L,d,_⟩,N,T,z⟩ R;have hc:=L.cell;have hf:=L.frozen;have a8:b.length<1000000000:=by omega
  gi_wp2_with (gi_at_builtin;go_must (refine wpListIn_append_own _ rfl _ _ 91 rfl w.heap.size 9 ti tz 1 16 Kz X Y a1 a2 b1 (by decide) _ _ _ rfl (d.alloc _) ⟨W.heap.size,0,none⟩ 1 1 [.string x.1] rfl rfl (IB _ _ _) (by simp[Value.oneCell']) (by unfold maxLen;omega) (by omega) (by have:=N.size;simp;omega) ?_;intro v1 w1 r o _;obtain⟨g',M,rfl⟩:=ownsRow_succ r;obtain⟨a3,b2,b0,a7,y⟩:=L.appended (by decide) d N.size (by omega) r o;have b4:=o.block (i.heap.size+1) (by simp;omega) (z.not_row (by decide) d);have b5:=a3.cell;have b6:=a3.frozen))
  have E:Boxed (w1.setCell ⟨i.heap.size,0,none⟩ (.slice (some ⟨g',0,none⟩) (b.length+1) M)) (i.heap.size+1) 236 (.pointer (some ⟨j,0,none⟩)):=Boxed.other (show Boxed w1 _ _ _ from b4.trans ((z.alloc _))) (by omega) _;refine⟨a7,⟨fun k q=>?_,y.size⟩,⟨_,b2,by simpa [strs] using b0,trivial⟩,N.trans y,NG T y.size,E⟩;rcases q with q|q
  .exact y.block k q
  .subst q
   exact Eq.trans (show _=_ from E) (Eq.symm (show _=_ from z))
 case done =>
  rintro D ys W hD rfl ⟨⟨C,L,d,_⟩,N,T,z⟩ Q;have hc:=L.cell
  gi_wp2_with fail
  refine⟨by simp,.inl ⟨_,_,rfl,JR Q,?_⟩⟩;have a6:Below w.heap.size w (W.putObj D (.deferred none)):=N.trans (belowK_b (w:=w) (NH _) W D _ _ (by omega) Q rfl rfl);have J:=ownsRow_putObj d (.deferred none) Q rfl;refine⟨_,results_tmp rfl _ _ _,_,rfl,So (base:=w.heap.size) ?_,Fr.Hz a6,?_⟩
  .exact J
  .exact(fun k q=>(d.lt k q).1:∀ k,C.ownBlock=some k->w.heap.size<=k)
 case stop =>
  rintro D c b W _ _ h _;exact h.elim
theorem RD(b:Nat)(L:SL)(S:SM)(w:World)(h:SRep w b L S)(g:S.keys.length<1000000000) :
 Calls Tryz.prog 92 #[.pointer (some ⟨b,0,none⟩)] w fun e i=>∃ f,e=.returned f/\i.ownsRow 0 9 1 f S.keys.length (strs (S.keys.map Prod.fst))/\Fr Nil w i/\(∀ k,f.ownBlock=some k->w.heap.size<=k):=by
 have d:L.Ga.length=S.keys.length:=h.pair.length;have m:=Z (RC b L.kv L.Ga w (h.IJ.cell 0) h.IJ.lt h.GK (fun e s=>by obtain⟨l,u⟩:=h.pair.mem e s;obtain⟨a,c,t⟩:=zd u;exact⟨a,_,c,t⟩) (by omega));have j:=Z h.pair.keys;have o:=Z d;clear h d;go_enter Tryz.func92,Tryz.ntmps92
 go_wp2_with (refine m.out.mono ?_;rintro e v ⟨f,rfl,p,q,r⟩)
 go_ret;exact⟨f,rfl,by rw[<- o.out,<- j.out];exact p,q,r⟩
theorem QF(L:NL)(N:NM)(M:DM)(w:World)(h:NRep w L N M)(a:N.S.keys.length<1000000000) :
 Calls Tryz.prog 44 #[.pointer (some ⟨L.nb,0,none⟩)] w fun e c=>∃ b,e=.returned b/\c.ownsRow 0 9 1 b N.S.keys.length (strs (N.S.keys.map Prod.fst))/\Fr Nil w c/\(∀ k,b.ownBlock=some k->w.heap.size<=k):=by
 have j:w.cell? ⟨L.nb,2,none⟩=some (.pointer (some ⟨L.sb,0,none⟩)):=h.IJ.cell 2;have d:=Z (RD L.sb L.LS N.S w h.held a);clear h;go_enter Tryz.func44,Tryz.ntmps44
 go_wp2_with (refine d.out.mono ?_;rintro e l ⟨b,rfl,f,g,i⟩)
 go_ret;exact⟨b,rfl,f,g,i⟩
end Go.Proofs.YtkhnggkkiefcdaaGreatDoor
namespace Go.Proofs.YtkhnggkkiefcdaaGreatDoor
open Go.RowKit
set_option maxRecDepth 100000
set_option maxHeartbeats 8000000
def LM.putV(m:LM)(a b:ByteArray)(c:Int):Ver :=
 ⟨m.node,c,grV (YX m.keys a) 0,grV (YX m.keys a) 1,grV (YX m.keys a) 2,grV (YX m.keys a) 3,b,false⟩
def LM.put(m:LM)(b a:ByteArray)(c:Int):LM:={m with keys:=Z0 m.keys b [m.putV b a c]}
def LM.hint(m:LM)(b:Nat)(a:ByteArray):LM:={m with hints:=m.hints++[(b,a)]}
end Go.Proofs.YtkhnggkkiefcdaaGreatDoor
