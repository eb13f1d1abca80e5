/- larder: joined texts -/
import Derived.Test.YtkhnggkkiefcdaaGreatDoorFRAC
import Derived.Test.YtkhnggkkiefcdaaGreatDoorFRAE
import Derived.Test.YtkhnggkkiefcdaaGreatDoorFRAF
import Derived.Shelf.Pu.Clone
import Derived.Ground.MpProg
import Derived.Test.YtkhnggkkiefcdaaGreatDoorChecked
import Derived.Lib.LazyBuf
import Derived.StillTailTactics
namespace Go.Proofs.YtkhnggkkiefcdaaGreatDoor
open Go.RowKit
set_option maxRecDepth 100000
set_option maxHeartbeats 8000000
abbrev MZ:=@Go.wp_region_still_tail
theorem Y1(s:ByteArray)(w:World)(h:s.size<=1000000000) :
 Calls Tryz.prog 74 #[.string s] w fun e b=>e=.returned (.string s)/\Fr Nil w b:=by
 have c:Hid (Calls Tryz.prog 125 #[.string s] w fun e b=>e=.returned (.string s)/\Below w.heap.size w b):=AnyPu.stringslite_Clone Tryz.GN s w (by omega);clear h;go_enter Tryz.func74,Tryz.ntmps74
 go_wp2_with (refine c.out.mono ?_;rintro e f ⟨rfl,a⟩)
 go_ret;exact⟨rfl,a.os,a.tape,a.output,a.size,fun k d _=>a.block k d⟩
def WH(n:Int):Prop:=0<=n/\n<4
theorem VRow.cells{w:World}{g n cap:Nat}{l:List Ver}(h:w.ownsRow 0 37 8 (.slice (some ⟨g,0,none⟩) n cap) n (Zl l))(i:Nat)(e:i<l.length)(j:Nat)(c:j<8) :
 w.cell? ⟨g,i*8+j,none⟩=l[i].cells[j]?:=by
 have a:j<l[i].cells.length:=by rw[Ver.Gb];exact c
 rw[own_cell? h (i*8+j) _ ((Ux l i j e c).trans (NZ a)),NZ a]
theorem NG:((Tryz.prog.info? 37).map fun i=>(i.zero.map (·.cells.size),i.size,i.bytes))=some (some 8,8,72):=by kernel_rfl
theorem Sp(a b:List Ver):Zl (a++b)=Zl a++Zl b:=by simp[Zl]
theorem OY(w:World)(v:Value)(l:List Ver)(h:VRow w v l)(x:Ver)(t:l.length<1000000)(d:World)(f:Fr Nil w d)(N:Nat)(q:Blk d N x.cells 37)(ty:TypeId) :
 ∃ b c,(Builtin.append_ #[61,61] ty #[v,.slice (some ⟨N,0,none⟩) 1 1]).run Tryz.prog d=.ok b c /\
  (VRow c b (l++[x])/\Fr (fun k=>v.ownBlock=some k) w c/\(∀ k,b.ownBlock=some k->v.ownBlock=some k\/w.heap.size<=k)):=by
 have r:=za h f (fun _ _=>id);obtain⟨b,c,s,o,p,a⟩:=zn (P:=Tryz.prog) 61 ty 37 8 72 JJ NG (by omega) v l.length _ r ⟨N,0,none⟩ 1 1 x.cells rfl
  (fun j u m=>by rw[MK,MD,q.cell];exact m) (fun u m=>Uy [x] u (by simpa [Zl] using m)) (by unfold maxLen;omega) (by omega)
 refine⟨b,c,s,?_,(f.mono (fun _ _ e=>absurd e id)).trans' ((Fr.Ho p).mono (fun i _ h=>h)) (fun i _ h=>h),fun k g=>?_⟩
 .unfold VRow
  rw[NQ,Sp];have:Zl [x]=x.cells:=by simp[Zl]
  rw[this];exact o
 .rcases a with a|a
  .exact .inl (by rw[<- a];exact g)
  .rw[a] at g;simp at g;have:=f.size;exact .inr (by omega)
def grV(l:List Ver)(n:Int):Int:=l.foldl (fun m u=>if u.node=n then max m u.seq else m) 0
theorem Ot(l:List Ver)(i:Nat)(h:i<l.length)(n:Int):grV (l.take (i+1)) n=if l[i].node=n then max (grV (l.take i) n) l[i].seq else grV (l.take i) n:=by
 unfold grV;rw[Mq h,Lj]
 rfl
theorem Ue(lv:Value)(l:List Ver)(B:∀ u∈l,WH u.node)(w:World)(hl:VRow w lv l) :
 Calls Tryz.prog 72 #[lv] w fun e w'=>e=.returned (.agg #[.int .i64 (grV l 0),.int .i64 (grV l 1),.int .i64 (grV l 2),.int .i64 (grV l 3)])/\Fr Nil w w':=by
 have hn:=zu hl;unfold maxLen at hn;obtain⟨la,lc,rfl⟩:=zd hl;have HL:=Z hl;have F:=Z B;clear hl B;go_enter Tryz.func72,Tryz.ntmps72;go_wp2_with fail;obtain⟨R,hR⟩:∃ R,w.heap.size=R:=⟨_,rfl⟩;have G:Blk ((w.alloc (.cells #[.int .i64 0,.int .i64 0,.int .i64 0,.int .i64 0] 35)).alloc (.cells #[.int .i64 0,.int .i64 0,.int .i64 0,.int .i64 0] 35)) (w.heap.size+1) [.int .i64 0,.int .i64 0,.int .i64 0,.int .i64 0] 35:=by
  have:=Blk.new (w.alloc (.cells #[.int .i64 0,.int .i64 0,.int .i64 0,.int .i64 0] 35)) [.int .i64 0,.int .i64 0,.int .i64 0,.int .i64 0] 35
  simpa using this
 have K:Blk ((w.alloc (.cells #[.int .i64 0,.int .i64 0,.int .i64 0,.int .i64 0] 35)).alloc (.cells #[.int .i64 0,.int .i64 0,.int .i64 0,.int .i64 0] 35)) w.heap.size [.int .i64 0,.int .i64 0,.int .i64 0,.int .i64 0] 35:=(Blk.new w [.int .i64 0,.int .i64 0,.int .i64 0,.int .i64 0] _).alloc _;have a0:Fr Nil w ((w.alloc (.cells #[.int .i64 0,.int .i64 0,.int .i64 0,.int .i64 0] 35)).alloc (.cells #[.int .i64 0,.int .i64 0,.int .i64 0,.int .i64 0] 35)):=((O _ _).alloc _).alloc _;obtain⟨w0,a3⟩:∃ w0,(w.alloc (.cells #[.int .i64 0,.int .i64 0,.int .i64 0,.int .i64 0] 35)).alloc (.cells #[.int .i64 0,.int .i64 0,.int .i64 0,.int .i64 0] 35)=w0:=⟨_,rfl⟩;rw[a3] at G K a0 |-;have a8:w.heap.size<=R:=by omega
 rw[hR] at G K |-;clear a3 hR
 go_loopw [8] (fun t8 w'=>∃ i:Nat,i<=l.length/\t8=.int .i64 i/\Blk w' (R+1) [.int .i64 (grV (l.take i) 0),.int .i64 (grV (l.take i) 1),.int .i64 (grV (l.take i) 2),.int .i64 (grV (l.take i) 3)] 35/\Fr (fun k=>k=R+1) w0 w') (fun t8 _=>l.length-(intOf t8).toNat)
 case atStart=>exact⟨0,Me _,rfl,G,O _ _⟩
 case round =>
  obtain⟨i,hi,rfl,a,M⟩:=hrel;have a2:Fr Nil w wr:=a0.trans' (M.mono (fun _ _ h=>h)) (fun k hk h=>by omega);by_cases J:i<l.length
  .obtain⟨g,rfl⟩:∃ g,la=some ⟨g,0,none⟩:=by
    obtain⟨g,cap,h,_⟩:=zq HL.out (by omega);simp at h;exact⟨g,h.1⟩
   have D:=VRow.cells (za (S:=Nil) HL.out a2 (fun _ _=>id)) i J;have g0:=D 0 (by omega);have g1:=D 1 (by omega);have g2:=D 2 (by omega);have g3:=D 3 (by omega);have g4:=D 4 (by omega);have g5:=D 5 (by omega);have g6:=D 6 (by omega);have g7:=D 7 (by omega);have hx:=F.out l[i] (NV J);have b:=Ot l i J;have r:=Z b;have HX:=Z hx;clear D b hx;generalize l[i]=x at g0 g1 g2 g3 g4 g5 g6 g7 r HX;obtain⟨d,b1,x0,x1,x2,x3,xv,xg⟩:=x;simp only[Ver.cells,Jc] at g0 g1 g2 g3 g4 g5 g6 g7;have a6:d=0\/d=1\/d=2\/d=3:=by have:=HX.out;unfold WH at this;simp only at this;omega
   generalize s:grV (l.take i) 0=N at a;generalize t:grV (l.take i) 1=Q at a;generalize y:grV (l.take i) 2=T at a;generalize z:grV (l.take i) 3=V at a;have f:=Z s;have j:=Z t;have o:=Z y;have p:=Z z;clear s t y z;have a9:∀ (L:Obj) k,(wr.alloc L).cell? ⟨R+1,k,none⟩=[.int .i64 N,.int .i64 Q,.int .i64 T,.int .i64 V][k]?:=fun L k=>(a.alloc L).cell k;have b0:∀ (L:Obj) k,(wr.alloc L).frozen? ⟨R+1,k,none⟩=false:=fun L k=>(a.alloc L).frozen k;have HB:=Z a;clear a;have E:∀ (m q:Int),max m q=if m<q then q else m:=by intro m q;simp only[Int.max_def];split <;> split <;> omega
   have c:=Z E;clear E;rcases a6 with rfl|rfl|rfl|rfl
   .go_wp2_with fail
    go_region
    go_wp2
    refine⟨⟨i+1,by omega,by go_num,?_,?_⟩,by simp[intOf];omega⟩
    .have b:=r.out
     simp only[b,f.out,j.out,o.out,p.out,c.out];exact((HB.out.alloc _).set 0 _).drew
    .exact(Fr.set (S:=fun k=>k=R+1) (M.alloc _) (fun _=>rfl) _).drew
   .go_wp2_with fail
    go_region
    go_wp2
    refine⟨⟨i+1,by omega,by go_num,?_,?_⟩,by simp[intOf];omega⟩
    .have b:=r.out
     simp only[b,f.out,j.out,o.out,p.out,c.out];exact((HB.out.alloc _).set 1 _).drew
    .exact(Fr.set (S:=fun k=>k=R+1) (M.alloc _) (fun _=>rfl) _).drew
   .go_wp2_with fail
    go_region
    go_wp2
    refine⟨⟨i+1,by omega,by go_num,?_,?_⟩,by simp[intOf];omega⟩
    .have b:=r.out
     simp only[b,f.out,j.out,o.out,p.out,c.out];exact((HB.out.alloc _).set 2 _).drew
    .exact(Fr.set (S:=fun k=>k=R+1) (M.alloc _) (fun _=>rfl) _).drew
   .go_wp2_with fail
    go_region
    go_wp2
    refine⟨⟨i+1,by omega,by go_num,?_,?_⟩,by simp[intOf];omega⟩
    .have b:=r.out
     simp only[b,f.out,j.out,o.out,p.out,c.out];exact((HB.out.alloc _).set 3 _).drew
    .exact(Fr.set (S:=fun k=>k=R+1) (M.alloc _) (fun _=>rfl) _).drew
  .have e:i=l.length:=by omega
   rw[e,Mz] at a;have C:=K.fr M (fun e=>by omega);have A:=a.cell;have a5:=C.cell;have a7:=C.frozen;generalize s:grV l 0=N at A;generalize t:grV l 1=Q at A;generalize y:grV l 2=T at A;generalize z:grV l 3=V at A;have f:=Z s;have j:=Z t;have o:=Z y;have p:=Z z;have HF:=Z a2;have a4:=Z C;clear s t y z a C
   go_wp2
   have Y:=(((a4.out.set 0 (.int .i64 N)).set 1 (.int .i64 Q)).set 2 (.int .i64 T)).set 3 (.int .i64 V);have a1:Fr Nil w ((((wr.setCell ⟨R,0,none⟩ (.int .i64 N)).setCell ⟨R,1,none⟩ (.int .i64 Q)).setCell ⟨R,2,none⟩ (.int .i64 T)).setCell ⟨R,3,none⟩ (.int .i64 V)) :=
    Fr.set (Fr.set (Fr.set (Fr.set HF.out (fun h=>by simp only at h;omega) _) (fun h=>by simp only at h;omega) _) (fun h=>by simp only at h;omega) _) (fun h=>by simp only at h;omega) _
   have X:=Z a1;have I:=Y.cell;simp only[Mk,Ml] at I;clear A a5 a7 a1 Y;generalize (((wr.setCell ⟨R,0,none⟩ (.int .i64 N)).setCell ⟨R,1,none⟩ (.int .i64 Q)).setCell ⟨R,2,none⟩ (.int .i64 T)).setCell ⟨R,3,none⟩ (.int .i64 V)=w4 at I X |-;refine KR (v:=.agg #[.int .i64 N,.int .i64 Q,.int .i64 T,.int .i64 V]) (by simp[results,Tryz.results72,go_sem,I,Tryz.isAgg35,Tryz.sizeOf35]) rfl ⟨?_,X.out⟩;rw[f.out,j.out,o.out,p.out]
theorem NA:((Tryz.prog.info? 37).map fun i=>(i.zero.map (·.cells.size),i.size,i.bytes))=some (some 8,8,72):=by kernel_rfl
theorem Sq(v:Value)(n:Nat)(o:List Value)(w:World)(d:w.ownsRow 0 37 8 v n o)(F:∀ u∈o,u.oneCell'=true)(C:n*72<=140737488355328) :
 Calls Tryz.prog 75 #[v] w fun e f =>
  ∃ b,e=.returned b/\f.ownsRow 0 37 8 b n o/\Fr Nil w f/\(∀ k,b.ownBlock=some k->w.heap.size<=k):=by
 have M:∀ (w:World) (a:Option Addr) (n c:Nat),(binOp .eql 61 (.slice a n c) (.slice none 0 0)).run Tryz.prog w=.ok (.bool a.isNone) w:=fun w a n c=>by exact Lib.run_eql_slice_nil (h:=JJ) ..
 rcases ZK d with⟨rfl,rfl,rfl⟩|⟨g,r,c,rfl,D,Q,z,I,L⟩
 .go_enter Tryz.func75,Tryz.ntmps75
  go_wp2
  go_ret;exact⟨_,rfl,Mo w 0 _ _,O _ _,fun k q=>by simp[Value.ownBlock] at q⟩
 .have hl:=d.1
  have y:Blk (w.alloc (.cells #[] 37)) w.heap.size [] 37:=Blk.new w [] _;have t:(w.alloc (.cells #[] 37)).ownsRow 0 37 8 (.slice (some ⟨w.heap.size,0,none⟩) 0 0) 0 []:=ZQ y (NS _) (Me _) (by simp) (by simp);have m:∀ j u,o[j]?=some u->(w.alloc (.cells #[] 37)).cell? ((⟨g,0,none⟩:Addr).add j)=some u:=by
   intro j u B;have J:=(Md.1 B).1;rw[MK,MD,(D.alloc _).cell];rw[<- L,MS (by omega)] at B;exact B
  have x:∀ ty,∃ b f,(Builtin.append_ #[61,61] ty #[.slice (some ⟨w.heap.size,0,none⟩) 0 0,.slice (some ⟨g,0,none⟩) n r]).run Tryz.prog (w.alloc (.cells #[] 37))=.ok b f/\App (w.alloc (.cells #[] 37)) (.slice (some ⟨w.heap.size,0,none⟩) 0 0) 37 8 (0+n) ([]++o) b f:=fun ty =>
   zn (P:=Tryz.prog) 61 ty 37 8 72 JJ NA (by omega) _ 0 [] t ⟨g,0,none⟩ n r o hl m F (by unfold maxLen at *;omega) (by omega)
  have l:∀ b f,App (w.alloc (.cells #[] 37)) (.slice (some ⟨w.heap.size,0,none⟩) 0 0) 37 8 (0+n) ([]++o) b f ->
   ∃ p,Ending.returned b=.returned p/\f.ownsRow 0 37 8 p n o/\Fr Nil w f/\(∀ k,p.ownBlock=some k->w.heap.size<=k):=by
   rintro b f ⟨K,A,s⟩;refine⟨b,rfl,by simpa using K,((O Nil w).alloc _).trans' ((Fr.Ho A).mono (fun i _ h=>h)) (fun i N h=>?_),fun k q=>?_⟩
   .simp[Value.ownBlock] at h;omega
   .rcases s with s|s
    .rw[s] at q;simp[Value.ownBlock] at q;omega
    .rw[s] at q;simp at q;omega
  have E:=Z l;clear l m t y d D;unfold maxLen at z;go_enter Tryz.func75,Tryz.ntmps75
  go_wp2_with (at_builtin;go_must (refine zL rfl _ _ _ _ rfl _ _ (by rfl) (by rfl) (x _) ?_);rintro b f G)
  go_ret;exact E.out _ _ G
def XE(a b:Int):Int:=if a<b then -1 else if b<a then 1 else 0
theorem QE(a b:Int)(w:World) :
 Calls Tryz.prog 180 #[.int .i64 a,.int .i64 b] w fun e d=>e=.returned (.int .i64 (XE a b))/\d=w:=by
 unfold XE;by_cases c:a<b
 .rw[Mg c]
  go_enter Tryz.func180,Tryz.ntmps180
  go_wp2
  go_ret;exact⟨rfl,rfl⟩
 .by_cases h2:b<a
  .rw[Ma c,Mg h2]
   go_enter Tryz.func180,Tryz.ntmps180
   go_wp2
   go_ret;exact⟨rfl,rfl⟩
  .rw[Ma c,Ma h2]
   go_enter Tryz.func180,Tryz.ntmps180
   go_wp2
   go_ret;exact⟨rfl,rfl⟩
def Ver.dot(v:Ver):Int × Int:=(v.node,v.seq)
def NH(a b:Int × Int):Bool:=decide (a.1<b.1\/a.1=b.1/\a.2<b.2)
def Vp(l:List Ver):Prop:=Asc NH (l.map Ver.dot)
abbrev Keys:=List (ByteArray × List Ver)
def Ye(K:Keys):Prop:=Asc zb (K.map Prod.fst)
theorem ZI{a b:ByteArray}(h:zb a b=true):a≠b:=fun e=>by rw[e,zW.FO] at h;cases h
theorem UB{K:Keys}{key:ByteArray}:∀ x∈K.take (low zb (K.map Prod.fst) key),zb x.1 key=true:=by
 intro x d;obtain⟨j,c,rfl⟩:=LI d;rw[NT] at c;have a:j<(K.map Prod.fst).length:=by rw[Mw];omega
 have:=TX (lt:=zb) (l:=K.map Prod.fst) (b:=key) (k:=j) a (by omega);rw[MT] at this;rw[KG];exact this
theorem UC{K:Keys}{key:ByteArray}(h:Ye K):∀ x∈K.drop (if zD zb (K.map Prod.fst) key=true then low zb (K.map Prod.fst) key+1 else low zb (K.map Prod.fst) key),zb key x.1=true:=by
 intro x m;obtain⟨j,d,rfl⟩:=LI m;rw[Mn] at d;rw[List.getElem_drop];rcases Lz (low zb (K.map Prod.fst) key) (K.map Prod.fst).length with f|f
 .have hge:=TY f
  have k:low zb (K.map Prod.fst) key<K.length:=by simpa using f
  have c:=Yx (lt:=zb) (b:=key) k rfl;rw[MT] at hge;by_cases a:zD zb (K.map Prod.fst) key=true
  .rw[a] at c
   have g:=zJ.1 c.symm;simp only[a,MP] at d |-;have:=Asc.fst h (i:=low zb (K.map Prod.fst) key) (j:=low zb (K.map Prod.fst) key+1+j) (by omega) (by omega);rw[g] at this;exact this
  .have a:zD zb (K.map Prod.fst) key=false:=by simpa using a
   rw[a] at c;have g:K[low zb (K.map Prod.fst) key].1≠key:=fun e=>by rw[zJ.2 e] at c;cases c
   have l:=zW.Ee _ _ hge g;simp only[a,Lc,MN] at d |-;rcases Kf j with e|e
   .subst e;exact l
   .exact zW.trans _ _ _ l (Asc.fst h (i:=low zb (K.map Prod.fst) key) (j:=low zb (K.map Prod.fst) key+j) (by omega) (by omega))
 .rw[Mw] at f
  exfalso
  have:=d;split at this <;> omega
theorem W8{K:Keys}{key:ByteArray}(a:zD zb (K.map Prod.fst) key=true):∃ l,K=K.take (low zb (K.map Prod.fst) key)++(key,l)::K.drop (low zb (K.map Prod.fst) key+1)/\zt K key=l:=by
 rcases Lz (low zb (K.map Prod.fst) key) K.length with c|c
 .have he:=Yx (lt:=zb) (b:=key) c rfl
  rw[a] at he;have d:=zJ.1 he.symm;refine⟨K[low zb (K.map Prod.fst) key].2,?_,?_⟩
  .have e2:(key,K[low zb (K.map Prod.fst) key].2)=K[low zb (K.map Prod.fst) key]:=by rw[<- Prod.eta K[low zb (K.map Prod.fst) key],d]
   rw[e2,List.getElem_cons_drop,Mv]
  .unfold zt
   rw[Mg a,MH,NZ c]
   rfl
 .rw[XK (by simpa using c)] at a
  cases a
def YZ(K:Keys)(key:ByteArray):List Ver:=match K.find? (fun e=>e.1==key) with|some e=>e.2|none=>[]
theorem UD{K:Keys}{key:ByteArray}(h:∀ x∈K,x.1≠key):K.find? (fun e=>e.1==key)=none:=by
 rw[Ke];intro x a;have:=h x a;intro e;exact this (zJ.1 e)
theorem Sr{K:Keys}(key:ByteArray)(h:Ye K):YZ K key=zt K key:=by
 have c:∀ x∈K.take (low zb (K.map Prod.fst) key),x.1≠key:=fun x a=>ZI (UB x a);have b:=UC (key:=key) h;cases ha:zD zb (K.map Prod.fst) key with
 | true =>
  obtain⟨l,d,g⟩:=W8 ha;rw[g];unfold YZ;have:K.find? (fun e=>e.1==key)=some (key,l):=by
   rw[d,JK,UD c];simp[zJ.2 rfl]
  rw[this]
 | false =>
  have f:zt K key=[]:=by unfold zt;rw[Ma (by rw[ha];decide)]
  rw[f];rw[ha] at b;simp only[Lc,MN] at b;unfold YZ;have:K.find? (fun e=>e.1==key)=none:=by
   rw[<- Mv (low zb (K.map Prod.fst) key) K];refine UD fun x a=>?_;rcases Mc.1 a with a|a
   .exact c x a
   .exact(ZI (b x a)).symm
  rw[this]
def zV(key:ByteArray)(l:List Ver)(st:Keys × Bool)(e:ByteArray × List Ver):Keys × Bool :=
 (((if st.2=false/\zb e.1 key=false then st.1++[(key,l)] else st.1)++if e.1=key then [] else [e]),st.2||!zb e.1 key)
def Z0(K:Keys)(key:ByteArray)(l:List Ver):Keys :=
 (K.foldl (zV key l) ([],l.isEmpty)).1++if (K.foldl (zV key l) ([],l.isEmpty)).2=true then [] else [(key,l)]
theorem YM(key:ByteArray)(l:List Ver):∀ (K a:Keys),(∀ x∈K,x.1≠key)->K.foldl (zV key l) (a,true)=(a++K,true)
 | [],a,_=>by simp
 | e::K,a,h=>by
  have b:e.1≠key:=h e (NY ..);have:zV key l (a,true) e=(a++[e],true):=by simp[zV,b]
  rw[LA,this,YM key l K _ (fun x c=>h x (NX _ c))];simp
theorem W9(key:ByteArray)(l:List Ver)(b:Bool):∀ (K a:Keys),(∀ x∈K,zb x.1 key=true)->K.foldl (zV key l) (a,b)=(a++K,b)
 | [],a,_=>by simp
 | e::K,a,h=>by
  have c:=h e (NY ..);have d:e.1≠key:=ZI c;have:zV key l (a,b) e=(a++[e],b):=by simp[zV,c,d]
  rw[LA,this,W9 key l b K _ (fun x f=>h x (NX _ f))];simp
theorem Pp(key:ByteArray)(l:List Ver)(K a:Keys)(h:∀ x∈K,zb key x.1=true) :
 K.foldl (zV key l) (a,false)=(if K=[] then(a,false) else(a++(key,l)::K,true)):=by
 cases K with
 | nil=>rfl
 | cons e K =>
  have b:=h e (NY ..);have f:e.1≠key:=fun x=>ZI b x.symm;have d:zb e.1 key=false:=zW.Ek b;have:zV key l (a,false) e=(a++[(key,l)]++[e],true):=by simp[zV,d,f]
  rw[LA,this,YM key l K _ (fun x g=>fun c=>ZI (h x (NX _ g)) c.symm)];simp
theorem Zk{K:Keys}(key:ByteArray)(l:List Ver)(h:Ye K):Z0 K key l=if l=[] then ZR K key else Zm K key l:=by
 have j:=UB (K:=K) (key:=key);have a:=UC (key:=key) h;cases ha:zD zb (K.map Prod.fst) key with
 | true =>
  obtain⟨k,e,_⟩:=W8 ha;rw[ha] at a;simp only[MP] at a;have f:ZR K key=K.take (low zb (K.map Prod.fst) key)++K.drop (low zb (K.map Prod.fst) key+1):=by unfold ZR;rw[Mg ha]
  have g:Zm K key l=K.take (low zb (K.map Prod.fst) key)++[(key,l)]++K.drop (low zb (K.map Prod.fst) key+1):=by unfold Zm;rw[Mg ha]
  rw[f,g];generalize K.take (low zb (K.map Prod.fst) key)=A at *;generalize K.drop (low zb (K.map Prod.fst) key+1)=C at *;subst e;unfold Z0;rw[Lj,W9 key l _ A [] j,LA];have b:zb key key=false:=zW.FO key;have d:∀ x∈C,x.1≠key:=fun x i=>(ZI (a x i)).symm;cases l with
  | nil =>
   have:zV key [] ([]++A,List.isEmpty ([]:List Ver)) (key,k)=(A,true):=by simp[zV,b]
   rw[this,YM key _ C A d];simp
  | cons v l =>
   have:zV key (v::l) ([]++A,List.isEmpty (v::l)) (key,k)=(A++[(key,v::l)],true):=by simp[zV,b]
   rw[this,YM key _ C _ d];simp
 | false =>
  rw[ha] at a;simp only[Lc,MN] at a;have f:ZR K key=K:=by unfold ZR;rw[Ma (by rw[ha];decide)]
  have g:Zm K key l=K.take (low zb (K.map Prod.fst) key)++[(key,l)]++K.drop (low zb (K.map Prod.fst) key):=by unfold Zm;rw[Ma (by rw[ha];decide)]
  have e:K=K.take (low zb (K.map Prod.fst) key)++K.drop (low zb (K.map Prod.fst) key):=(Mv _ _).symm;rw[f,g];generalize K.take (low zb (K.map Prod.fst) key)=A at *;generalize K.drop (low zb (K.map Prod.fst) key)=C at *;subst e;have d:∀ x∈C,x.1≠key:=fun x i=>(ZI (a x i)).symm;unfold Z0;rw[Lj,W9 key l _ A [] j];cases l with
  | nil =>
   rw[show List.isEmpty ([]:List Ver)=true from rfl,YM key _ C _ d];simp
  | cons v l =>
   rw[show List.isEmpty (v::l)=false from rfl,Pp key _ C _ a];cases C with
   | nil=>simp
   | cons c C=>simp
def ZC(n s y:Int):Bool:=zM n&&decide (1000<=s/\s<=1000000/\0<=y/\y<=100)
theorem Uf(n s y:Int)(w:World):Calls Tryz.prog 93 #[.agg #[.int .i64 n,.int .i64 s,.int .i64 y]] w fun e t=>e=.returned (.bool (ZC n s y))/\Fr Nil w t:=by
 have l:=Blk.new w [.int .i64 n,.int .i64 s,.int .i64 y] 102;have k:Fr Nil w (w.alloc (.cells #[.int .i64 n,.int .i64 s,.int .i64 y] 102)):=(O _ _).alloc _;have f:=Z l;have g:=Z k;clear l k;go_enter Tryz.func93,Tryz.ntmps93;go_wp2_with fail;generalize c:w.alloc (.cells #[.int .i64 n,.int .i64 s,.int .i64 y] 102)=u;rw[c] at f g;clear c;have r:=f.out.cell;generalize w.heap.size=b at f r |-;have d:=Z (Xn n u);cases h1:zM n with
 | false =>
  rw[h1] at d;have a:ZC n s y=false:=by unfold ZC;rw[h1];rfl
  have h:=Z a;clear h1 a
  go_wp2_with (refine d.out.mono ?_;rintro e j ⟨rfl,i⟩;subst j)
  go_ret;exact⟨by rw[h.out];rfl,g.out⟩
 | true =>
  rw[h1] at d;have a:ZC n s y=decide (1000<=s/\s<=1000000/\0<=y/\y<=100):=by unfold ZC;rw[h1];rfl
  have h:=Z a;clear h1 a;by_cases m:1000<=s <;> by_cases o:s<=1000000 <;> by_cases p:0<=y <;> by_cases q:y<=100
  all_goals first
   | (exfalso;omega)
   | (
   go_wp2_with (refine d.out.mono ?_;rintro e j ⟨rfl,i⟩;subst j)
   go_ret;exact⟨by rw[h.out];simp[m,o,p,q],g.out⟩)
structure LM where
 node:Int
 keys:Keys
 hints:List (Nat × ByteArray)
def XP(b c:Int)(a:ByteArray):Int:=if (zM c&&decide (c≠b))=false then 4 else if a.size=0\/64<a.size then 3 else 0
structure ZN(B:Nat)(L:NL)(M:DM)(w:World):Prop where
 tab:Yt B w
 le:B<=w.heap.size
 Hw:∀ k,NFoot L M k->B<=k
theorem ZN.env{B:Nat}{L:NL}{M:DM}{w:World}(h:ZN B L M w):Env B L M w:=⟨h.tab,h.le,fun k a=>h.Hw k (.inr (.inr (.inr a)))⟩
theorem ZN.step{B:Nat}{L b:NL}{N':NM}{M c:DM}{w w':World}(h:ZN B L M w)(s:NStep L M w b N' c w'):ZN B b c w' :=
 ⟨h.tab.fr h.le s.fr (fun k a=>h.Hw k a),NR h.le s.fr.size,fun k a=>(s.Hw k a).elim (h.Hw k) (fun d=>NR h.le d)⟩
theorem ZN.nil{B:Nat}{L:NL}{M:DM}{w w':World}(h:ZN B L M w)(f:Fr Nil w w'):ZN B L M w' :=
 ⟨h.tab.fr (S:=Nil) h.le f (fun _ h=>absurd h id),NR h.le f.size,h.Hw⟩
def zv:Prop:=∀(B:Nat)(w:World)(v:Value)(n:Int),Yt B w->ERep w v (some n)->Calls Tryz.prog 97 #[v] w fun e a=>e=.returned (.int .i64 n)/\Fr Nil w a
def zT(e:Option Int):Int:=e.getD 0
def NM.Gf(N:NM)(e:Option Int):NM:={N with readOnly:=N.readOnly||e.isSome}
theorem NStep.Ec{L:NL}{N:NM}{M:DM}{w:World}(h:NRep w L N M)(v:Value):NStep L M w {L with mv:=v} N M (w.setCell ⟨L.nb,6,none⟩ v):=by
 have c:Fr (fun k=>k=L.nb) w (w.setCell ⟨L.nb,6,none⟩ v):=Fr.set (S:=fun k=>k=L.nb) (O _ _) (fun _=>rfl) _;have a:∀ {k t},Ty w k t->t≠123->¬k=L.nb:=fun b d e=>by subst e;exact d (b.inj h.IR.ty)
 refine⟨⟨?_,?_,?_,h.Hu.fr c (fun k b=>?_)⟩,⟨rfl,rfl,rfl,rfl⟩,c.mono (fun _ _ e=>.inl e),fun k b=>.inl b,fun k b=>.inl b⟩
 .exact h.IR.set 6 v
 .exact Blk.fr h.log c (a (Blk.ty h.log) (by decide))
 .refine h.held.fr c (fun k b=>?_) (fun k b=>a (h.held.Gg b) (by decide))
  rcases h.held.Hn b with e|e|e
  .exact a e (by decide)
  .exact a e (by decide)
  .exact a e (by decide)
 .obtain⟨t,d,hd⟩:=h.Hu.ty b
  unfold DTy at hd;refine a d ?_;rcases hd with rfl|rfl|rfl|rfl|rfl <;> decide
theorem ZS(a:zv)(B:Nat)(L:NL)(N:NM)(M:DM)(v:Value)(x:Option Int)(w:World)(h:NRep w L N M)(i:ZN B L M w)(f:ERep w v x) :
 Calls Tryz.prog 79 #[.pointer (some ⟨L.nb,0,none⟩),v] w fun e m=>∃ r,e=.returned (.int .i64 (zT x))/\NStep L M w r (N.Gf x) M m:=by
 cases x with
 | none =>
  have u:v=.nilIface:=f;subst u;have s:N.Gf none=N:=by simp[NM.Gf]
  refine(Ud _ w).mono ?_;rintro e m ⟨rfl,rfl⟩;exact⟨L,rfl,by rw[s];exact NStep.nil h (O _ _)⟩
 | some n =>
  have g:=NStep.set h (N':=N.Gf (some n)) 7 (.bool true) (by simp[NM.cells,NM.Gf]) rfl rfl;have d:=g.trans (NStep.Ec g.Hl (.pointer none));have c:=f.FR h d;have o:=Z (a B _ v n (i.step d).tab c);have q:=Z d;have y:=h.IR.cell;have z:=h.IR.frozen;obtain⟨k,l⟩:=f;obtain⟨t,b,rfl⟩:=l.form;clear h i g d c l;go_enter Tryz.func79,Tryz.ntmps79;go_wp2_with fail;refine o.out.mono ?_;rintro e A ⟨rfl,j⟩;have p:=Z (q.out.Ha j);clear j
  go_wp2
  go_ret;exact⟨_,rfl,p.out⟩
def NM.Hc(N:NM)(M:DM):Int × NM × DM :=
 if N.readOnly=true then(8,N,M) else(zT (N.sync M).1,(N.sync M).2.1.Gf (N.sync M).1,(N.sync M).2.2)
theorem Yz(d:zv)(B:Nat)(L:NL)(N:NM)(M:DM)(w:World)(h:NRep w L N M)(m:ZN B L M w) :
 Calls Tryz.prog 32 #[.pointer (some ⟨L.nb,0,none⟩)] w fun e x=>∃ s,e=.returned (.int .i64 (N.Hc M).1)/\NStep L M w s (N.Hc M).2.1 (N.Hc M).2.2 x:=by
 have c:w.cell? ⟨L.nb,7,none⟩=some (.bool N.readOnly):=h.IR.cell 7;have u:w.cell? ⟨L.nb,1,none⟩=some (.pointer (some ⟨L.jb,0,none⟩)):=h.IR.cell 1;have g:=Z h;have r:=Z m;clear h m;go_enter Tryz.func32,Tryz.ntmps32;cases hr:N.readOnly with
 | true =>
  rw[hr] at c;have a:N.Hc M=(8,N,M):=by unfold NM.Hc;rw[Mg hr]
  have b:=Z a;clear hr a;go_wp2_with fail;go_ret;exact⟨L,by rw[b.out];rfl,by rw[b.out];exact NStep.nil g.out (O _ _)⟩
 | false =>
  rw[hr] at c;have a:N.Hc M=(zT (N.sync M).1,(N.sync M).2.1.Gf (N.sync M).1,(N.sync M).2.2):=by unfold NM.Hc;rw[Ma (by rw[hr];decide)]
  have o:N.sync M=((N.J.Hg M).1,{N with J:=(N.J.Hg M).2.1},(N.J.Hg M).2.2):=rfl;rw[o] at a;have b:=Z a;clear hr a o;go_wp2_with fail;refine(XB L.jb L.db N.J L.LD M w g.out.log g.out.Hu).mono ?_;rintro e y ⟨z,j,rfl,k,l⟩;have i:=Z (NStep.Gh g.out l);have p:=Z k;clear k l;go_wp2_with fail;refine(ZS d B {L with LD:=j} _ _ _ _ y i.out.Hl (r.out.step i.out) p.out).mono ?_;rintro e A ⟨t,rfl,f⟩;have q:=Z (i.out.trans f);clear f
  go_wp2
  go_ret;refine⟨t,?_,?_⟩
  .rw[b.out];rfl
  .rw[b.out];exact q.out
structure Fit(N:NM)(M:DM)(H:Nat)(x:Fact):Prop where
 ok:FOk x
 log:Y0 N.J M H (zj x).size
 keys:N.S.keys.length<1099511627776
 hints:N.S.hints.length<1000000
 writes:N.writes<1000000000000
theorem Fit.mono{N:NM}{M:DM}{H a:Nat}{x:Fact}(h:Fit N M H x)(c:H<=a):Fit N M a x:=⟨h.ok,h.log.mono c,h.keys,h.hints,h.writes⟩
def NM.asked(N:NM)(M:DM)(x:Fact)(f:Nat):Int × NM × DM :=
 (zT (N.change M x f).1,(N.change M x f).2.1.Gf (N.change M x f).1,(N.change M x f).2.2)
def NM.Ff(N:NM)(M:DM)(f:Nat):Int × NM × DM :=
 if N.readOnly=true then(8,N,M) else if N.S.hints.length=0 then(7,N,M) else N.asked M (.inr (.inr (.inr ()))) f
theorem Pq(m:zv)(B:Nat)(L:NL)(N:NM)(M:DM)(w:World)(h:NRep w L N M)(z:ZN B L M w)(c:N.readOnly=false->Fit N M w.heap.size (.inr (.inr (.inr ())))) :
 Calls Tryz.prog 28 #[.pointer (some ⟨L.nb,0,none⟩)] w fun e K=>∃ f D,e=.returned (.int .i64 (N.Ff M f).1)/\w.heap.size<=f/\NStep L M w D (N.Ff M f).2.1 (N.Ff M f).2.2 K:=by
 have l:w.cell? ⟨L.nb,7,none⟩=some (.bool N.readOnly):=h.IR.cell 7;have I:w.cell? ⟨L.nb,2,none⟩=some (.pointer (some ⟨L.sb,0,none⟩)):=h.IR.cell 2;have p:=Z h;have x:=Z z;have g:=Z c;clear h z c;go_enter Tryz.func28,Tryz.ntmps28;cases hr:N.readOnly with
 | true =>
  rw[hr] at l;have d:N.Ff M w.heap.size=(8,N,M):=by unfold NM.Ff;rw[Mg hr]
  have b:=Z d;clear hr d;go_wp2_with fail;go_ret;exact⟨w.heap.size,L,by rw[b.out];rfl,NS _,by rw[b.out];exact NStep.nil p.out (O _ _)⟩
 | false =>
  have g:=Z (g.out hr);rw[hr] at l;have s:=Z (Yd L.sb L.LS N.S w p.out.held);by_cases i:N.S.hints.length=0
  .have d:N.Ff M w.heap.size=(7,N,M):=by unfold NM.Ff;rw[Ma (by rw[hr];decide),Mg i]
   have b:=Z d;have j:((N.S.hints.length:Int)==0)=true:=by simp[i]
   rw[i] at s;clear hr d i j
   go_wp2_with (refine s.out.mono ?_;rintro e o ⟨rfl,u⟩;subst o)
   go_ret;exact⟨w.heap.size,L,by rw[b.out];rfl,NS _,by rw[b.out];exact NStep.nil p.out (O _ _)⟩
  .have d:∀ f,N.Ff M f=N.asked M (.inr (.inr (.inr ()))) f:=by intro f;unfold NM.Ff;rw[Ma (by rw[hr];decide),Ma i]
   have b:=Z d;have j:((N.S.hints.length:Int)==0)=false:=by simpa using i
   clear hr d i
   go_wp2_with (refine s.out.mono ?_;rintro e o ⟨rfl,u⟩;subst o)
   refine(WG B L N M _ (.inr (.inr (.inr ()))) _ w p.out x.out.env (show _=_ from rfl) g.out.ok (fun k G=>by obtain⟨v,J,e⟩:=G;simp at J) g.out.log g.out.keys g.out.hints g.out.writes).mono ?_;rintro e o ⟨f,Q,E,rfl,A,y,a⟩;have q:=Z a;have r:=Z y;have C:=Z A;clear y a A;go_wp2_with fail;rw[<- q.out.same.nb];refine(ZS m B E _ _ _ _ o q.out.Hl (x.out.step q.out) r.out).mono ?_;rintro e R ⟨F,rfl,a⟩;have t:=Z (q.out.trans a);clear a
   go_wp2
   go_ret;refine⟨f,F,?_,C.out,?_⟩
   .rw[b.out];rfl
   .rw[b.out];exact t.out
theorem NE(L:NL)(N:NM)(M:DM)(w:World)(h:NRep w L N M)(a:N.S.hints.length<1000000) :
 Calls Tryz.prog 27 #[.pointer (some ⟨L.nb,0,none⟩)] w fun e c=>∃ b,e=.returned b/\c.ownsRow 0 75 2 b N.S.hints.length (Z8 N.S.hints)/\Fr Nil w c/\(∀ k,b.ownBlock=some k->w.heap.size<=k):=by
 have j:w.cell? ⟨L.nb,2,none⟩=some (.pointer (some ⟨L.sb,0,none⟩)):=h.IR.cell 2;have d:=Z (So L.sb L.LS N.S w h.held a);clear h;go_enter Tryz.func27,Tryz.ntmps27
 go_wp2_with (refine d.out.mono ?_;rintro e l ⟨b,rfl,f,g,i⟩)
 go_ret;exact⟨b,rfl,f,g,i⟩
theorem WI(L:NL)(N:NM)(M:DM)(a:ByteArray)(w:World)(h:NRep w L N M)(d:N.S.keys.length<1099511627776)(i:(zt N.S.keys a).length<=1000000) :
 Calls Tryz.prog 24 #[.pointer (some ⟨L.nb,0,none⟩),.string a] w fun e u=>∃ j,e=.returned (.tuple #[j,.int .i64 (if zz a=true then 0 else 2)])/\VRow u j (if zz a=true then zt N.S.keys a else [])/\Fr Nil w u/\(∀ k,j.ownBlock=some k->w.heap.size<=k):=by
 have B:w.cell? ⟨L.nb,2,none⟩=some (.pointer (some ⟨L.sb,0,none⟩)):=h.IR.cell 2;have l:=Z (XD a w);have p:=Z h;clear h;go_enter Tryz.func24,Tryz.ntmps24;cases hb:zz a with
 | false =>
  rw[hb] at l;clear hb
  go_wp2_with (refine l.out.mono ?_;rintro e f ⟨rfl,o⟩;subst f)
  go_ret2;exact⟨_,rfl,Mo w 0 _ _,O _ _,fun k d=>absurd d (by simp[Value.ownBlock])⟩
 | true =>
  rw[hb] at l;have z:=Z (XO a L.sb L.LS N.S w p.out.held d);have y:=Z (show(zt N.S.keys a).length*72<=140737488355328 by omega);clear hb i d
  go_wp2_with (refine l.out.mono ?_;rintro e f ⟨rfl,o⟩;subst f)
  refine z.out.mono ?_;rintro e f ⟨rfl,c⟩;have g:=Z c;have b:VRow f (getE L.LS.Gi a) (zt N.S.keys a):=(p.out.held.nil c).getE a;have q:=Z b;clear c b;generalize getE L.LS.Gi a=A at q;go_wp2_with fail;refine(Sq A _ _ f q.out (Uy _) y.out).mono ?_;rintro e C ⟨j,rfl,r,s,t⟩;have m:=Z (g.out.trans s);have v:=Z r;have x:Hid (∀ k,j.ownBlock=some k->w.heap.size<=k):=fun k d=>NR g.out.size (t k d);clear r s t
  go_wp2
  go_ret2;exact⟨_,rfl,v.out,m.out,x.out⟩
def NM.hint(N:NM)(M:DM)(b:Int)(a:ByteArray)(f:Nat):Int × NM × DM :=
 if (zM b&&decide (b≠N.self))=false then(4,N,M) else
 if a.size=0\/64<a.size then(3,N,M) else
 if N.readOnly=true then(8,N,M) else
 if 32<=N.S.hints.length then(6,N,M) else
 N.asked M (.inr (.inr (.inl (b.toNat,a)))) f
theorem Wa(A:zv)(B:Nat)(L:NL)(N:NM)(M:DM)(b:Int)(a:ByteArray)(w:World)(h:NRep w L N M)(he:ZN B L M w)(t:a.size<=64->zM b=true->N.readOnly=false->Fit N M w.heap.size (.inr (.inr (.inl (b.toNat,a))))) :
 Calls Tryz.prog 31 #[.pointer (some ⟨L.nb,0,none⟩),.int .i64 b,.string a] w fun e D=>∃ f z,e=.returned (.int .i64 (N.hint M b a f).1)/\w.heap.size<=f/\NStep L M w z (N.hint M b a f).2.1 (N.hint M b a f).2.2 D:=by
 have u:w.cell? ⟨L.nb,7,none⟩=some (.bool N.readOnly):=h.IR.cell 7;have X:w.cell? ⟨L.nb,2,none⟩=some (.pointer (some ⟨L.sb,0,none⟩)):=h.IR.cell 2;have s:=Z (T7 L N M b w h);have r:=Z h;have HE:=Z he;have HT:=Z t;have y:=Z (Vb a);clear h he t;go_enter Tryz.func31,Tryz.ntmps31;cases ho:(zM b&&decide (b≠N.self)) with
 | false =>
  rw[ho] at s;have l:N.hint M b a w.heap.size=(4,N,M):=by unfold NM.hint;rw[Mg ho]
  have g:=Z l;clear ho l
  go_wp2_with (refine s.out.mono ?_;rintro e d ⟨rfl,j⟩;subst d)
  go_ret;exact⟨w.heap.size,L,by rw[g.out];rfl,NS _,by rw[g.out];exact NStep.nil r.out (O _ _)⟩
 | true =>
  rw[ho] at s;have x:Hid (zM b=true):=by simp only[Ln] at ho;exact ho.1
  by_cases c:a.size=0\/64<a.size
  .have l:N.hint M b a w.heap.size=(3,N,M):=by unfold NM.hint;rw[Ma (by rw[ho];decide),Mg c]
   have g:=Z l;clear ho l;by_cases F:a.toList=[]
   .clear c
    go_wp2_with (refine s.out.mono ?_;rintro e d ⟨rfl,j⟩;subst d)
    go_ret;exact⟨w.heap.size,L,by rw[g.out];rfl,NS _,by rw[g.out];exact NStep.nil r.out (O _ _)⟩
   .have h1:64<a.size:=by
     rcases c with c|c
     .rw[y.out] at c;exact absurd (Mi c) F
     .exact c
    have h2:(64:Int)<(a.size:Int):=by omega
    have h3:a.toList.isEmpty=false:=by simpa using F
    clear c
    go_wp2_with (refine s.out.mono ?_;rintro e d ⟨rfl,j⟩;subst d)
    go_ret;exact⟨w.heap.size,L,by rw[g.out];rfl,NS _,by rw[g.out];exact NStep.nil r.out (O _ _)⟩
  .have F:¬a.toList=[]:=by
    intro h;apply c;left;rw[y.out,h];rfl
   have h1:¬64<a.size:=fun h=>c (.inr h);have h2:¬(64:Int)<(a.size:Int):=by omega
   have h3:a.toList.isEmpty=false:=by simpa using F
   cases hr:N.readOnly with
   | true =>
    rw[hr] at u;have l:N.hint M b a w.heap.size=(8,N,M):=by unfold NM.hint;rw[Ma (by rw[ho];decide),Ma c,Mg hr]
    have g:=Z l;clear ho l c hr
    go_wp2_with (refine s.out.mono ?_;rintro e d ⟨rfl,j⟩;subst d)
    go_ret;exact⟨w.heap.size,L,by rw[g.out];rfl,NS _,by rw[g.out];exact NStep.nil r.out (O _ _)⟩
   | false =>
    rw[hr] at u;have HN:=Z (Yd L.sb L.LS N.S w r.out.held);by_cases hm:32<=N.S.hints.length
    .have l:N.hint M b a w.heap.size=(6,N,M):=by unfold NM.hint;rw[Ma (by rw[ho];decide),Ma c,Ma (by rw[hr];decide),Mg hm]
     have g:=Z l;have Y:(32:Int)<=(N.S.hints.length:Int):=by omega
     clear ho l c hr
     go_wp2_with (first|(refine HN.out.mono ?_;rintro e d ⟨rfl,j⟩;subst d)|(refine s.out.mono ?_;rintro e d ⟨rfl,j⟩;subst d))
     go_ret;exact⟨w.heap.size,L,by rw[g.out];rfl,NS _,by rw[g.out];exact NStep.nil r.out (O _ _)⟩
    .have l:∀ f,N.hint M b a f=N.asked M (.inr (.inr (.inl (b.toNat,a)))) f:=by intro f;unfold NM.hint;rw[Ma (by rw[ho];decide),Ma c,Ma (by rw[hr];decide),Ma hm]
     have g:=Z l;have Y:¬(32:Int)<=(N.S.hints.length:Int):=by omega
     have V:Hid ((b.toNat:Int)=b):=by
      have:=x.out;unfold zM at this;simp only[Ms] at this;exact Lv this.1
     have S:=Z (HT.out (by omega) x.out hr);have K:=Z (Y1 a w (by omega));clear ho l c hr
     go_wp2_with (first|(refine HN.out.mono ?_;rintro e d ⟨rfl,j⟩;subst d)|(refine s.out.mono ?_;rintro e d ⟨rfl,j⟩;subst d))
     refine K.out.mono ?_;rintro e d ⟨rfl,C⟩;have R:=Z C;have HC:Hid (∀ q J,Fr Nil d J->Calls Tryz.prog 80 #[.pointer (some ⟨L.nb,0,none⟩),.string q,.iface 138 (.agg #[.int .i64 b,.string a])] J fun e D =>
      ∃ f v z,e=.returned v/\w.heap.size<=f/\ERep D v (N.change M (.inr (.inr (.inl (b.toNat,a)))) f).1/\NStep L M w z (N.change M (.inr (.inr (.inl (b.toNat,a)))) f).2.1 (N.change M (.inr (.inr (.inl (b.toNat,a)))) f).2.2 D):=by
      intro q J f2;have o:=R.out.trans f2;have p:=S.out.mono o.size;refine(WG B L N M q (.inr (.inr (.inl (b.toNat,a)))) _ J (r.out.nil o) (HE.out.nil o).env (show _=_ by rw[V.out]) p.ok (fun k hb=>by obtain⟨v,hv,e⟩:=hb;simp at hv;rcases hv with rfl|rfl <;> exact absurd e (by simp[Value.ownBlock])) p.log p.keys p.hints p.writes).mono ?_;rintro e D ⟨f,v,z,rfl,I,G,i⟩;exact⟨f,v,z,rfl,NR o.size I,G,(NStep.nil r.out o).trans i⟩
     clear C u X;go_wp2_with fail;refine(HC.out _ _ (by exact z8)).mono ?_;rintro e w3 ⟨f,v1,L1,rfl,I,G,i⟩;have E:=Z i;have Q:=Z G;have HF:=Z I;clear G i I;go_wp2_with fail;rw[<- E.out.same.nb];refine(ZS A B L1 _ _ _ _ w3 E.out.Hl (HE.out.step E.out) Q.out).mono ?_;rintro e w4 ⟨L2,rfl,i⟩;have T:=Z (E.out.trans i);clear i
     go_wp2
     go_ret;refine⟨f,L2,?_,HF.out,?_⟩
     .rw[g.out];rfl
     .rw[g.out];exact T.out
theorem Vc(L:NL)(N:NM)(M:DM)(w:World)(h:NRep w L N M) :
 Calls Tryz.prog 39 #[.pointer (some ⟨L.nb,0,none⟩)] w fun e E=>e=.returned (.agg #[.bool N.readOnly,.int .i64 N.S.keys.length,.int .i64 N.S.hints.length])/\Fr Nil w E:=by
 have a:Fr Nil w (w.alloc (Obj.cells #[.bool false,.int .i64 0,.int .i64 0] 81)):=(O _ _).alloc _;have c:=Blk.new w [.bool false,.int .i64 0,.int .i64 0] 81;have i:=h.nil a;have z:=Z (fun p (f:Fr Nil w p)=>VO L.sb L.LS N.S p (h.nil f).held);have B:=Z (fun p (f:Fr Nil w p)=>Yd L.sb L.LS N.S p (h.nil f).held);have j:=Z a;have y:=Z c;have x:=Z i;clear h a c i;go_enter Tryz.func39,Tryz.ntmps39;go_wp2_with fail;generalize b:w.alloc (Obj.cells #[.bool false,.int .i64 0,.int .i64 0] 81)=g;have c:Blk g w.heap.size [.bool false,.int .i64 0,.int .i64 0] 81:=by rw[<- b];exact y.out
 have i:NRep g L N M:=by rw[<- b];exact x.out
 have a:Fr Nil w g:=by rw[<- b];exact j.out
 have r:=Z a;have D:g.cell? ⟨L.nb,7,none⟩=some (.bool N.readOnly):=i.IR.cell 7;have C:g.cell? ⟨L.nb,2,none⟩=some (.pointer (some ⟨L.sb,0,none⟩)):=i.IR.cell 2;have t:=c.cell;have u:=c.frozen;have q:=Z c;have A:Hid (w.heap.size<=w.heap.size):=NS _;clear b i a j y x c;refine MZ 15 (by kernel_rfl) (by kernel_rfl) ?_;simp only[MQ,Lx,Lf,Lw]
 iterate 8 still_step
 still_call (z.out _ (r.out.trans (by exact z8)))
 iterate 4 still_step
 still_call (B.out _ (r.out.trans (by exact z8)))
 iterate 1 still_step
 refine Ko ?_;go_wp2_with fail;have m:=((q.out.set 0 (.bool N.readOnly)).set 1 (.int .i64 N.S.keys.length)).set 2 (.int .i64 N.S.hints.length);have o:Fr Nil w (((g.setCell ⟨w.heap.size,0,none⟩ (.bool N.readOnly)).setCell ⟨w.heap.size,1,none⟩ (.int .i64 N.S.keys.length)).setCell ⟨w.heap.size,2,none⟩ (.int .i64 N.S.hints.length)) :=
  Fr.set (Fr.set (Fr.set r.out (fun h=>by simp only at h;omega) _) (fun h=>by simp only at h;omega) _) (fun h=>by simp only at h;omega) _
 have l:=Z o;have d:=m.cell;simp only[Mk,Ml] at d;clear t u o m;generalize ((g.setCell ⟨w.heap.size,0,none⟩ (.bool N.readOnly)).setCell ⟨w.heap.size,1,none⟩ (.int .i64 N.S.keys.length)).setCell ⟨w.heap.size,2,none⟩ (.int .i64 N.S.hints.length)=F at d l |-;have s:∀ k,F.drew.cell? ⟨w.heap.size,k,none⟩=[Value.bool N.readOnly,.int .i64 N.S.keys.length,.int .i64 N.S.hints.length][k]?:=d;refine KR (v:=.agg #[.bool N.readOnly,.int .i64 N.S.keys.length,.int .i64 N.S.hints.length]) (by simp[results,Tryz.results39,go_sem,s,Tryz.isAgg81,Tryz.sizeOf81]) rfl ⟨rfl,l.out.drew⟩
def NM.replace(N:NM)(M:DM)(a:ByteArray)(b:NM->Nat->List Ver)(f g:Nat):Nat × Int × NM × DM :=
 match (N.next M f).1 with
 | some n=>(0,n,(N.next M f).2.2.1.Gf (some n),(N.next M f).2.2.2)
 | none =>
  match ((N.next M f).2.2.1.change (N.next M f).2.2.2 (.inr (.inl (a,b (N.next M f).2.2.1 (N.next M f).2.1))) g).1 with
  | some n=>(0,n,((N.next M f).2.2.1.asked (N.next M f).2.2.2 (.inr (.inl (a,b (N.next M f).2.2.1 (N.next M f).2.1))) g).2)
  | none=>((N.next M f).2.1,0,((N.next M f).2.2.1.asked (N.next M f).2.2.2 (.inr (.inl (a,b (N.next M f).2.2.1 (N.next M f).2.1))) g).2)
theorem Ou(N:NM):N.Gf none=N:=by simp[NM.Gf]
def Gives(L:NL)(N:NM)(M:DM)(w:World)(c:Nat)(a:Array Value)(h:NM->Nat->List Ver):Prop :=
 ∀ f,w.heap.size<=f->∀ (g:NL) (b:World),NStep L M w g (N.next M f).2.2.1 (N.next M f).2.2.2 b->Calls Tryz.prog c (#[.int .i64 (N.next M f).2.1]++a) b fun e d=>∃ v,e=.returned v/\VRow d v (h (N.next M f).2.2.1 (N.next M f).2.1)/\Fr Nil b d/\(∀ k,v.ownBlock=some k->w.heap.size<=k)
theorem Pr(N:NM)(M:DM)(f:Nat):(N.next M f).2.2.1.S.keys=N.S.keys/\(N.next M f).2.2.1.S.hints=N.S.hints/\(N.next M f).2.2.1.self=N.self/\(N.next M f).2.2.1.readOnly=N.readOnly/\(N.next M f).2.2.1.every=N.every/\(N.next M f).2.2.1.writes=N.writes:=by
 have a:∀ k,(N.write M (.inl k) f).2.1.S.keys=N.S.keys/\(N.write M (.inl k) f).2.1.S.hints=N.S.hints:=by
  intro k;unfold NM.write;simp only;split <;> exact⟨rfl,rfl⟩
 have b:(N.Hk M f).2.1.S.keys=N.S.keys/\(N.Hk M f).2.1.S.hints=N.S.hints/\(N.Hk M f).2.1.self=N.self/\(N.Hk M f).2.1.readOnly=N.readOnly/\(N.Hk M f).2.1.every=N.every/\(N.Hk M f).2.1.writes=N.writes:=by
  unfold NM.Hk;split
  .exact⟨(a _).1,(a _).2,rfl,rfl,rfl,rfl⟩
  .exact⟨(a _).1,(a _).2,rfl,rfl,rfl,rfl⟩
 unfold NM.next;split
 .exact⟨rfl,rfl,rfl,rfl,rfl,rfl⟩
 .split
  .exact b
  .exact b
def Apart2(N:NM)(M:DM)(f g:Nat):Prop:=f=g->f∉(N.next M f).2.2.2.ids
theorem Yk(N:NM)(M:DM){f g:Nat}(h:f≠g):Apart2 N M f g:=fun e=>absurd e h
theorem Wv(K:zv)(B:Nat)(L:NL)(N:NM)(M:DM)(a:ByteArray)(l:NM->Nat->List Ver)(c:Nat)(I:Array Value)(w:World)(h:NRep w L N M)(he:ZN B L M w)(A:Gives L N M w c I l)(c2:∀ xs w,Sem.run Tryz.prog (callFunc c xs) w=.ok (.enter c xs) w)
 (a5:a.size<=1000000000)(S:Y0 N.J M w.heap.size (zj (.inl (N.given+16))).size)(R:N.S.keys.length<1099511627776)(hh:N.S.hints.length<1000000)(a4:N.given<1000000000000)
 (Q:∀ f,w.heap.size<=f->(N.next M f).1=none->∀ H,w.heap.size<=H->(∀ i∈(N.next M f).2.2.2.ids,i<H)->Fit (N.next M f).2.2.1 (N.next M f).2.2.2 H (.inr (.inl (a,l (N.next M f).2.2.1 (N.next M f).2.1)))) :
 Calls Tryz.prog 70 #[.pointer (some ⟨L.nb,0,none⟩),.string a,.func (.func c) #[] I] w fun e w'=>∃ f g L',e=.returned (.tuple #[.int .i64 (N.replace M a l f g).1,.int .i64 (N.replace M a l f g).2.1])/\w.heap.size<=f/\w.heap.size<=g/\Apart2 N M f g/\NStep L M w L' (N.replace M a l f g).2.2.1 (N.replace M a l f g).2.2.2 w':=by
 have HX:=Z (QD B L N M w h he.env S R hh a4);have HE:=Z he;have HH:=Z h;have HG:=Z A;have a0:=Z Q;clear h he A S R hh a4 Q;go_enter Tryz.func70,Tryz.ntmps70;go_wp2_with fail;refine HX.out.mono ?_;rintro e w1 ⟨f,v1,L1,rfl,hf,J,d⟩;have q:=Z d;have HF:=Z hf;cases hx:(N.next M f).1 with
 | some n =>
  have hp:∀ g,N.replace M a l f g=(0,n,(N.next M f).2.2.1.Gf (some n),(N.next M f).2.2.2):=by intro g;unfold NM.replace;rw[hx]
  have z:=Z hp;rw[hx] at J;have b2:=Z J;obtain⟨k,R⟩:=J;obtain⟨t,b,rfl⟩:=R.form;generalize (N.next M f).2.2.1=j at d q z;generalize (N.next M f).2.2.2=o at d q z;generalize (N.next M f).2.1=m;clear hx hp R d hf;go_wp2_with fail;rw[<- q.out.same.nb];refine(ZS K B L1 _ _ _ _ w1 q.out.Hl (HE.out.step q.out) b2.out).mono ?_;rintro e w2 ⟨L2,rfl,d⟩;have F:=Z (q.out.trans d);clear d
  go_wp2
  go_ret2;refine⟨f,f+1,L2,?_,HF.out,My HF.out,Yk N M (by omega),?_⟩
  .rw[z.out];rfl
  .rw[z.out];exact F.out
 | none =>
  rw[hx] at J;have hv:v1=.nilIface:=J;subst hv;have a7:∀ g n,((N.next M f).2.2.1.change (N.next M f).2.2.2 (.inr (.inl (a,l (N.next M f).2.2.1 (N.next M f).2.1))) g).1=some n->N.replace M a l f g=(0,n,((N.next M f).2.2.1.asked (N.next M f).2.2.2 (.inr (.inl (a,l (N.next M f).2.2.1 (N.next M f).2.1))) g).2):=by intro g n h;unfold NM.replace;rw[hx];simp only;rw[h]
  have a6:∀ g,((N.next M f).2.2.1.change (N.next M f).2.2.2 (.inr (.inl (a,l (N.next M f).2.2.1 (N.next M f).2.1))) g).1=none->N.replace M a l f g=((N.next M f).2.1,0,((N.next M f).2.2.1.asked (N.next M f).2.2.2 (.inr (.inl (a,l (N.next M f).2.2.1 (N.next M f).2.1))) g).2):=by intro g h;unfold NM.replace;rw[hx];simp only;rw[h]
  have E:=Z a7;have D:=Z a6;have HT:=Z (a0.out f hf hx w1.heap.size d.fr.size (fun i hi=>(d.Hl.Hu.files i hi).lt));have a3:∀ g,w1.heap.size<=g->Apart2 N M f g:=fun g A e hi=>by have:=(d.Hl.Hu.files f hi).lt;omega
  have b0:=Z a3;have C:=Z (HG.out f hf);generalize (N.next M f).2.2.1=j at d q E D HT C;generalize (N.next M f).2.2.2=o at d q E D HT C;generalize (N.next M f).2.1=m at E D HT C;have b1:=Z (Y1 a w1 a5);clear J hx d hf a7 a6 a3;go_wp2_with fail;refine b1.out.mono ?_;rintro e w2 ⟨rfl,G⟩;have F:=Z (q.out.Ha G);have b7:=Z G.size;have b4:=Z (C.out L1 w2 F.out);have b9:=Z (NR q.out.fr.size G.size);clear G;go_wp2_with fail;refine b4.out.mono ?_;rintro e w3 ⟨v3,rfl,u,V,T⟩;have b5:=Z (F.out.Ha V);have a2:=Z (NR b7.out V.size);have HC:Hid (∀ y w4,Fr Nil w3 w4->Calls Tryz.prog 80 #[.pointer (some ⟨L.nb,0,none⟩),.string y,.iface 193 (.agg #[.string a,v3])] w4 fun e w' =>
   ∃ g v L',e=.returned v/\w1.heap.size<=g/\ERep w' v (j.change o (.inr (.inl (a,l j m))) g).1/\NStep L M w L' (j.change o (.inr (.inl (a,l j m))) g).2.1 (j.change o (.inr (.inl (a,l j m))) g).2.2 w'):=by
   intro y w4 f4;have a8:=b5.out.Ha f4;have s:=HT.out.mono (NR a2.out f4.size);have X:VRow w4 v3 (l j m):=VRow.fr u f4 (fun _ _=>id);rw[<- q.out.same.nb];refine(Va B L M w L1 j o y (.inr (.inl (a,l j m))) _ w4 a8 (HE.out.step a8).env ⟨v3,rfl,X⟩ s.ok (fun k hb=>?_) s.log s.keys s.hints s.writes).mono ?_
   .obtain⟨v,hv,e⟩:=hb
    simp at hv;rcases hv with rfl|rfl
    .exact absurd e (by simp[Value.ownBlock])
    .exact .inr (T k e)
   .rintro e w' ⟨g,v,L',rfl,A,J,d⟩
    exact⟨g,v,L',rfl,NR (NR a2.out f4.size) A,J,d⟩
  obtain⟨c0,c1,a9⟩:=zd u;rw[a9] at HC |-;clear u V T a9;go_wp2_with fail;refine(HC.out _ _ (by exact z8)).mono ?_;rintro e w5 ⟨g,v5,L5,rfl,A,p,x⟩;have a1:=Z (NR q.out.fr.size A);have Y:=Z (b0.out g A);have r:=Z x;cases hc:(j.change o (.inr (.inl (a,l j m))) g).1 with
  | some n =>
   have z:=Z (E.out g n hc);rw[hc] at p;have b3:=Z p;have HA:Hid ((j.asked o (.inr (.inl (a,l j m))) g).2=((j.change o (.inr (.inl (a,l j m))) g).2.1.Gf (some n),(j.change o (.inr (.inl (a,l j m))) g).2.2)):=by unfold NM.asked;rw[hc];exact rfl
   obtain⟨k,R⟩:=p;obtain⟨t,b,rfl⟩:=R.form;clear hc R x A;go_wp2_with fail;rw[<- r.out.same.nb];refine(ZS K B L5 _ _ _ _ w5 r.out.Hl (HE.out.step r.out) b3.out).mono ?_;rintro e w6 ⟨L6,rfl,d⟩;have b6:=Z (r.out.trans d);clear d
   go_wp2
   go_ret2;refine⟨f,g,L6,?_,HF.out,a1.out,Y.out,?_⟩
   .rw[z.out];rfl
   .rw[z.out,HA.out];exact b6.out
  | none =>
   have z:=Z (D.out g hc);rw[hc] at p;have b8:v5=.nilIface:=p;subst b8;have ha:(j.asked o (.inr (.inl (a,l j m))) g).2=((j.change o (.inr (.inl (a,l j m))) g).2.1,(j.change o (.inr (.inl (a,l j m))) g).2.2):=by
    show((j.change o (.inr (.inl (a,l j m))) g).2.1.Gf _,_)=_;rw[hc,Ou]
   have HA:=Z ha;clear hc x A p ha;go_wp2_with fail;go_ret2;refine⟨f,g,L5,?_,HF.out,a1.out,Y.out,?_⟩
   .rw[z.out];rfl
   .rw[z.out,HA.out];exact r.out
theorem Ps(a:Array Value)(w:World):Sem.run Tryz.prog (callFunc 82 a) w=.ok (.enter 82 a) w:=by kernel_rfl
theorem NB(a:Array Value)(w:World):Sem.run Tryz.prog (callFunc 71 a) w=.ok (.enter 71 a) w:=by kernel_rfl
structure WJ(N:NM)(M:DM)(H:Nat)(key:ByteArray)(vs:NM->Nat->List Ver):Prop where
 log:Y0 N.J M H (zj (.inl (N.given+16))).size
 keys:N.S.keys.length<1099511627776
 hints:N.S.hints.length<1000000
 given:N.given<1000000000000
 fact:∀ f,H<=f->(N.next M f).1=none->∀ H',H<=H'->(∀ i∈(N.next M f).2.2.2.ids,i<H')->Fit (N.next M f).2.2.1 (N.next M f).2.2.2 H' (.inr (.inl (key,vs (N.next M f).2.2.1 (N.next M f).2.1)))
def NM.delete(N:NM)(M:DM)(a:ByteArray)(f g:Nat):Nat × Int × NM × DM :=
 if zz a=false then(0,2,N,M) else if N.readOnly=true then(0,8,N,M) else N.replace M a (fun _ _=>[]) f g
theorem Ss(p:zv)(B:Nat)(L:NL)(N:NM)(M:DM)(a:ByteArray)(w:World)(h:NRep w L N M)(u:ZN B L M w)(d:zz a=true->N.readOnly=false->WJ N M w.heap.size a (fun _ _=>[])) :
 Calls Tryz.prog 30 #[.pointer (some ⟨L.nb,0,none⟩),.string a] w fun e E=>∃ f g C,e=.returned (.tuple #[.int .i64 (N.delete M a f g).1,.int .i64 (N.delete M a f g).2.1])/\w.heap.size<=f/\w.heap.size<=g/\Apart2 N M f g/\NStep L M w C (N.delete M a f g).2.2.1 (N.delete M a f g).2.2.2 E:=by
 have o:w.cell? ⟨L.nb,7,none⟩=some (.bool N.readOnly):=h.IR.cell 7;have m:=Z (XD a w);have s:=Z h;have v:=Z u;have A:=Z d;clear h u d;go_enter Tryz.func30,Tryz.ntmps30;cases hb:zz a with
 | false =>
  rw[hb] at m;have i:N.delete M a w.heap.size (w.heap.size+1)=(0,2,N,M):=by unfold NM.delete;rw[Mg hb]
  have c:=Z i;clear hb i
  go_wp2_with (refine m.out.mono ?_;rintro e l ⟨rfl,q⟩;subst l)
  go_ret2;exact⟨w.heap.size,w.heap.size+1,L,by rw[c.out];rfl,NS _,Ls _,Yk N M (by omega),by rw[c.out];exact NStep.nil s.out (O _ _)⟩
 | true =>
  rw[hb] at m;have j:a.size<=32:=by unfold zz at hb;simp only[Ms] at hb;exact hb.2
  have t:=Z j;cases hr:N.readOnly with
  | true =>
   rw[hr] at o;have i:N.delete M a w.heap.size (w.heap.size+1)=(0,8,N,M):=by unfold NM.delete;rw[Ma (by rw[hb];decide),Mg hr]
   have c:=Z i;clear hb i j hr
   go_wp2_with (refine m.out.mono ?_;rintro e l ⟨rfl,q⟩;subst l)
   go_ret2;exact⟨w.heap.size,w.heap.size+1,L,by rw[c.out];rfl,NS _,Ls _,Yk N M (by omega),by rw[c.out];exact NStep.nil s.out (O _ _)⟩
  | false =>
   have b:=Z (A.out hb hr);rw[hr] at o;have i:∀ f g,N.delete M a f g=N.replace M a (fun _ _=>[]) f g:=by intro f g;unfold NM.delete;rw[Ma (by rw[hb];decide),Ma (by rw[hr];decide)]
   have c:=Z i;clear hb i j hr
   go_wp2_with (refine m.out.mono ?_;rintro e l ⟨rfl,q⟩;subst l)
   refine(Wv p B L N M a (fun _ _=>[]) 82 #[] w s.out v.out ?_ Ps (NR t.out (by decide)) b.out.log b.out.keys b.out.hints b.out.given b.out.fact).mono ?_
   .intro f0 _ L1 l _
    refine(T8 (.int .i64 (N.next M f0).2.1) l).mono ?_;rintro e F ⟨rfl,rfl⟩;exact⟨_,rfl,Mo _ 0 _ _,O _ _,fun k D=>absurd D (by simp[Value.ownBlock])⟩
   .rintro e F ⟨f,g,L2,rfl,hf,hg,hap,hst⟩
    have x:=Z hf;have y:=Z hg;have r:=Z hap;have z:=Z hst;clear hf hg hap hst
    go_wp2
    go_ret2;exact⟨f,g,L2,by rw[c.out];rfl,x.out,y.out,r.out,by rw[c.out];exact z.out⟩
def putV(a b:ByteArray)(N:NM)(n:Nat):List Ver :=
 [{node:=N.self,seq:=n,o0:=grV (zt N.S.keys a) 0,o1:=grV (zt N.S.keys a) 1,o2:=grV (zt N.S.keys a) 2,o3:=grV (zt N.S.keys a) 3,value:=b,gone:=false}]
theorem QF(L:NL)(N:NM)(M:DM)(b a:ByteArray)(B C D n:Nat)(w:World)(h:NRep w L N M)(o:Blk w B [.pointer (some ⟨L.nb,0,none⟩)] 41)(p:Blk w C [.string b] 9)(q:Blk w D [.string a] 9)
 (A:N.S.keys.length<1099511627776)(g:∀ u∈zt N.S.keys b,WH u.node)(j:a.size<=1000000000) :
 Calls Tryz.prog 71 #[.int .i64 n,.pointer (some ⟨B,0,none⟩),.pointer (some ⟨C,0,none⟩),.pointer (some ⟨D,0,none⟩)] w fun e c=>∃ v,e=.returned v/\VRow c v (putV b a N n)/\Fr Nil w c/\(∀ k,v.ownBlock=some k->w.heap.size<=k):=by
 have l:Hid (∀ c,Fr Nil w c->c.cell? ⟨B,0,none⟩=some (.pointer (some ⟨L.nb,0,none⟩))/\c.cell? ⟨C,0,none⟩=some (.string b)/\c.cell? ⟨D,0,none⟩=some (.string a)/\c.cell? ⟨L.nb,0,none⟩=some (.int .i64 N.self)/\c.cell? ⟨L.nb,2,none⟩=some (.pointer (some ⟨L.sb,0,none⟩))) :=
  fun c f=>⟨(o.fr f id).cell 0,(p.fr f id).cell 0,(q.fr f id).cell 0,(h.IR.fr f id).cell 0,(h.IR.fr f id).cell 2⟩
 have Q:=Z (fun c (f:Fr Nil w c)=>XO b L.sb L.LS N.S c (h.held.nil f) A);have K:=Z (fun c (f:Fr Nil w c)=>Ue (getE L.LS.Gi b) (zt N.S.keys b) g c ((h.held.nil f).getE b));have I:=Z (fun c=>Y1 a c j);obtain⟨R,S,T,V,X⟩:=l.out w (O _ _);clear h o p q A g j;go_enter Tryz.func71,Tryz.ntmps71;go_wp2_with fail
 go_region_held3 (fun c=>c.cell? ⟨B,0,none⟩=some (.pointer (some ⟨L.nb,0,none⟩))/\c.cell? ⟨C,0,none⟩=some (.string b)/\c.cell? ⟨D,0,none⟩=some (.string a)/\c.cell? ⟨L.nb,0,none⟩=some (.int .i64 N.self)/\c.cell? ⟨L.nb,2,none⟩=some (.pointer (some ⟨L.sb,0,none⟩))) (first|assumption|go_keep|exact l.out _ z8)
  (first
  | (go_at_call 72;refine(K.out _ z8).mono ?_;rintro e F ⟨rfl,t⟩;have x:Fr Nil w F:=Fr.trans z8 t;have a0:=l.out F x;clear t)
  | (go_at_call 74;refine(I.out _).mono ?_;rintro e wc ⟨rfl,s⟩;have d:Fr Nil w wc:=Fr.trans z8 s;have Y:=l.out wc d;clear s)
  | (go_at_call 73;refine(Q.out _ z8).mono ?_;rintro e G ⟨rfl,y⟩;have z:Fr Nil w G:=Fr.trans z8 y;have a1:=l.out G z;clear y))
 have r:=Blk.new wc [.int .i64 N.self,.int .i64 n,.int .i64 (grV (zt N.S.keys b) 0),.int .i64 (grV (zt N.S.keys b) 1),.int .i64 (grV (zt N.S.keys b) 2),.int .i64 (grV (zt N.S.keys b) 3),.string a,.bool false] 37;have i:VRow _ (.slice (some ⟨wc.heap.size,0,none⟩) 1 1) (putV b a N n):=ZQ (cap:=1) r (NS _) (by decide) rfl rfl;have m:=Z i;have J:=Z (d.alloc (.cells #[.int .i64 N.self,.int .i64 n,.int .i64 (grV (zt N.S.keys b) 0),.int .i64 (grV (zt N.S.keys b) 1),.int .i64 (grV (zt N.S.keys b) 2),.int .i64 (grV (zt N.S.keys b) 3),.string a,.bool false] 37));have E:=Z d.size;clear r i
 go_wp2
 go_ret;exact⟨_,rfl,m.out,J.out,fun k A=>by simp[Value.ownBlock] at A;subst A;exact E.out⟩
theorem X0(w:World)(a:Obj):(w.alloc a).heap.size=w.heap.size+1:=Array.size_push ..
theorem WJ.mono{N:NM}{M:DM}{H e:Nat}{a:ByteArray}{g:NM->Nat->List Ver}(h:WJ N M H a g)(c:H<=e):WJ N M e a g :=
 ⟨h.log.mono c,h.keys,h.hints,h.given,fun f r y o q=>h.fact f (NR c r) y o (NR c q)⟩
def NM.put(N:NM)(M:DM)(b a:ByteArray)(f g:Nat):Nat × Int × NM × DM :=
 if zz b=false then(0,2,N,M) else if 128<a.size then(0,3,N,M) else if N.readOnly=true then(0,8,N,M) else N.replace M b (putV b a) f g
theorem WK(I:zv)(B:Nat)(L:NL)(N:NM)(M:DM)(b a:ByteArray)(w:World)(h:NRep w L N M)(he:ZN B L M w)(o:∀ u∈zt N.S.keys b,WH u.node)
 (y:zz b=true->a.size<=128->N.readOnly=false->WJ N M w.heap.size b (putV b a)) :
 Calls Tryz.prog 22 #[.pointer (some ⟨L.nb,0,none⟩),.string b,.string a] w fun e w'=>∃ f g L',e=.returned (.tuple #[.int .i64 (N.put M b a f g).1,.int .i64 (N.put M b a f g).2.1])/\w.heap.size<=f/\w.heap.size<=g/\Apart2 N M f g/\NStep L M w L' (N.put M b a f g).2.2.1 (N.put M b a f g).2.2.2 w':=by
 have F:=Z h;have HE:=Z he;have HT:=Z y;have V:=Z o;clear h he y o;go_enter Tryz.func22,Tryz.ntmps22;go_wp2_with fail;have A:=Blk.new w [.pointer (some ⟨L.nb,0,none⟩)] 41;have x:=Blk.new (w.alloc (.cells #[.pointer (some ⟨L.nb,0,none⟩)] 41)) [.string b] 9;have C:=Blk.new ((w.alloc (.cells #[.pointer (some ⟨L.nb,0,none⟩)] 41)).alloc (.cells #[.string b] 9)) [.string a] 9;have r:Fr Nil (w.alloc (.cells #[.pointer (some ⟨L.nb,0,none⟩)] 41)) (((w.alloc (.cells #[.pointer (some ⟨L.nb,0,none⟩)] 41)).alloc (.cells #[.string b] 9)).alloc (.cells #[.string a] 9)):=((O _ _).alloc _).alloc _;have f2:Fr Nil ((w.alloc (.cells #[.pointer (some ⟨L.nb,0,none⟩)] 41)).alloc (.cells #[.string b] 9)) (((w.alloc (.cells #[.pointer (some ⟨L.nb,0,none⟩)] 41)).alloc (.cells #[.string b] 9)).alloc (.cells #[.string a] 9)):=(O _ _).alloc _;have Q:Fr Nil w (((w.alloc (.cells #[.pointer (some ⟨L.nb,0,none⟩)] 41)).alloc (.cells #[.string b] 9)).alloc (.cells #[.string a] 9)):=((O _ _).alloc _).trans r;have s1:(w.alloc (.cells #[.pointer (some ⟨L.nb,0,none⟩)] 41)).heap.size=w.heap.size+1:=X0 _ _;have s2:((w.alloc (.cells #[.pointer (some ⟨L.nb,0,none⟩)] 41)).alloc (.cells #[.string b] 9)).heap.size=w.heap.size+1+1:=by rw[X0,X0]
 have A:=A.fr r id;have x:=x.fr f2 id;rw[s1] at x;rw[s2] at C;clear r f2 s1 s2;generalize ((w.alloc (.cells #[.pointer (some ⟨L.nb,0,none⟩)] 41)).alloc (.cells #[.string b] 9)).alloc (.cells #[.string a] 9)=z at A x C Q |-;have c:=Z Q;have a8:z.cell? ⟨w.heap.size,0,none⟩=some (.pointer (some ⟨L.nb,0,none⟩)):=A.cell 0;have a3:z.cell? ⟨w.heap.size+1,0,none⟩=some (.string b):=x.cell 0;have a4:z.cell? ⟨w.heap.size+1+1,0,none⟩=some (.string a):=C.cell 0;generalize w.heap.size+1+1=b3 at C a4 |-;generalize w.heap.size+1=b2 at x a3 |-;have HA:=Z A;have HB:=Z x;have HC:=Z C;have X:=Z (F.out.nil Q);have G:z.cell? ⟨L.nb,7,none⟩=some (.bool N.readOnly):=X.out.IR.cell 7;have K:=Z (XD b z);clear A x C Q;cases hb:zz b with
 | false =>
  rw[hb] at K;have p:N.put M b a w.heap.size (w.heap.size+1)=(0,2,N,M):=by unfold NM.put;rw[Mg hb]
  have j:=Z p;clear hb p;refine K.out.mono ?_;rintro e D ⟨rfl,a6⟩;subst D
  go_wp2
  go_ret2;exact⟨w.heap.size,w.heap.size+1,L,by rw[j.out];rfl,NS _,Ls _,Yk N M (by omega),by rw[j.out];exact NStep.nil F.out c.out⟩
 | true =>
  rw[hb] at K;have q:b.size<=32:=by unfold zz at hb;simp only[Ms] at hb;exact hb.2
  have T:=Z q;refine K.out.mono ?_;rintro e D ⟨rfl,a6⟩;subst D;by_cases hv:128<a.size
  .have p:N.put M b a w.heap.size (w.heap.size+1)=(0,3,N,M):=by unfold NM.put;rw[Ma (by rw[hb];decide),Mg hv]
   have j:=Z p;have a5:(128:Int)<(a.size:Int):=by omega
   clear hb p q
   go_wp2
   go_ret2;exact⟨w.heap.size,w.heap.size+1,L,by rw[j.out];rfl,NS _,Ls _,Yk N M (by omega),by rw[j.out];exact NStep.nil F.out c.out⟩
  .have a5:¬(128:Int)<(a.size:Int):=by omega
   cases hr:N.readOnly with
   | true =>
    rw[hr] at G;have p:N.put M b a w.heap.size (w.heap.size+1)=(0,8,N,M):=by unfold NM.put;rw[Ma (by rw[hb];decide),Ma hv,Mg hr]
    have j:=Z p;clear hb p q hr
    go_wp2
    go_ret2;exact⟨w.heap.size,w.heap.size+1,L,by rw[j.out];rfl,NS _,Ls _,Yk N M (by omega),by rw[j.out];exact NStep.nil F.out c.out⟩
   | false =>
    rw[hr] at G;have p:∀ f g,N.put M b a f g=N.replace M b (putV b a) f g:=by intro f g;unfold NM.put;rw[Ma (by rw[hb];decide),Ma hv,Ma (by rw[hr];decide)]
    have j:=Z p;have E:=Z (HT.out hb (by omega) hr);have Y:Hid (a.size<=1000000000):=by show _<=_;omega
    clear hb p q hr;have S:Hid (Gives L N M z 71 #[.pointer (some ⟨w.heap.size,0,none⟩),.pointer (some ⟨b2,0,none⟩),.pointer (some ⟨b3,0,none⟩)] (putV b a)):=by
     intro r a7 L1 D s;have l:=(Pr N M r).1;have d:∀ {k t},Ty z k t->t≠123->t≠197->t≠161->t≠239->t≠75->¬DTy t->¬NFoot L M k:=fun hk q1 q2 q3 q4 q5 q6=>X.out.apart hk q1 q2 q3 q4 q5 q6;have a0:Blk D w.heap.size [.pointer (some ⟨L1.nb,0,none⟩)] 41:=by
      rw[s.same.nb];exact HA.out.fr s.fr (d HA.out.ty (by decide) (by decide) (by decide) (by decide) (by decide) (by unfold DTy;decide))
     have a1:=HB.out.fr s.fr (d HB.out.ty (by decide) (by decide) (by decide) (by decide) (by decide) (by unfold DTy;decide));have a2:=HC.out.fr s.fr (d HC.out.ty (by decide) (by decide) (by decide) (by decide) (by decide) (by unfold DTy;decide));refine(QF L1 (N.next M r).2.2.1 (N.next M r).2.2.2 b a w.heap.size b2 b3 (N.next M r).2.1 D s.Hl a0 a1 a2 (by rw[l];exact E.out.keys) (by rw[l];exact V.out) Y.out).mono ?_;rintro e w2 ⟨v,rfl,h1,h2,h3⟩;exact⟨v,rfl,h1,h2,fun k hk=>NR s.fr.size (h3 k hk)⟩
    have i:=Z (E.out.mono c.out.size);go_wp2_with fail;refine(Wv I B L N M b (putV b a) 71 _ z X.out (HE.out.nil c.out) S.out NB (NR T.out (by decide)) i.out.log i.out.keys i.out.hints i.out.given i.out.fact).mono ?_;rintro e w2 ⟨f,g,L2,rfl,hf,hg,d,J⟩;have R:=Z d;have HF:=Z (NR c.out.size hf);have HG:=Z (NR c.out.size hg);have HS:=Z ((NStep.nil F.out c.out).trans J);clear hf hg d J
    go_wp2
    go_ret2;exact⟨f,g,L2,by rw[j.out];rfl,HF.out,HG.out,R.out,by rw[j.out];exact HS.out⟩
end Go.Proofs.YtkhnggkkiefcdaaGreatDoor
