/- larder: joined texts -/
import Derived.Test.YtkhnggkkiefcdaaGreatDoorSFAA
import Derived.Test.YtkhnggkkiefcdaaGreatDoorSFAE
import Derived.Test.YtkhnggkkiefcdaaGreatDoorSFAF
import Derived.Shelf.Pu.Clone
import Derived.Ground.MpProg
import Derived.Test.YtkhnggkkiefcdaaGreatDoorChecked
import Derived.Lib.LazyBuf
namespace Go.Proofs.YtkhnggkkiefcdaaGreatDoor
open Go.RowKit
set_option maxRecDepth 100000
set_option maxHeartbeats 8000000
theorem ZJ(s:ByteArray)(w:World)(h:s.size<=1000000000) :
 Calls Tryz.prog 74 #[.string s] w fun e b=>e=.returned (.string s)/\Fr Nil w b:=by
 have c:Hid (Calls Tryz.prog 125 #[.string s] w fun e b=>e=.returned (.string s)/\Below w.heap.size w b):=AnyPu.stringslite_Clone Tryz.AQ s w (by omega);clear h;go_enter Tryz.func74,Tryz.ntmps74
 go_wp2_with (refine c.out.mono ?_;rintro e f ⟨rfl,a⟩)
 go_ret;exact⟨rfl,a.os,a.tape,a.output,a.size,fun k d _=>a.block k d⟩
def Ver.ov(v:Ver)(n:Int):Int:=if n=0 then v.o0 else if n=1 then v.o1 else if n=2 then v.o2 else v.o3
def Ver.over(v u:Ver):Bool:=decide (u.seq<=v.ov u.node)
def zS(n:Int):Prop:=0<=n/\n<4
theorem WO(v u:Ver)(b:zS u.node)(w:World) :
 Calls Tryz.prog 174 #[.agg v.cells.toArray,.agg u.cells.toArray] w fun e o=>e=.returned (.bool (v.over u))/\Fr Nil w o:=by
 obtain⟨n,s,d,f,h,i,x,g⟩:=v;obtain⟨node,c,j,k,l,m,y,gone⟩:=u;unfold zS at b;simp only at b;have a:node=0\/node=1\/node=2\/node=3:=by omega
 have p:Fr Nil w ((w.alloc (.cells #[.int .i64 n,.int .i64 s,.int .i64 d,.int .i64 f,.int .i64 h,.int .i64 i,.string x,.bool g] 37)).alloc (.cells #[.int .i64 node,.int .i64 c,.int .i64 j,.int .i64 k,.int .i64 l,.int .i64 m,.string y,.bool gone] 37)):=((O _ _).alloc _).alloc _;simp only[Ver.cells];clear b;rcases a with rfl|rfl|rfl|rfl
 all_goals
  go_enter Tryz.func174,Tryz.ntmps174;go_wp2_with fail
  go_quiet (fail)
  go_wp2
  go_ret;refine⟨?_,za⟩;simp[Ver.over,Ver.ov]
theorem IJ(a b c d:Int)(w:World):(binOp .eql 34 (.agg #[.int .i64 a,.int .i64 b]) (.agg #[.int .i64 c,.int .i64 d])).run Tryz.prog w=.ok (.bool (a==c&&b==d)) w:=by
 have u3:=ET;have i:=Tryz.isAgg3;have j:=Tryz.sizeOf3;have g:Tryz.prog.underlying 34=some (.struct (Tryz.prog.fieldsOf 34)):=by kernel_rfl
 have h:Tryz.prog.stoodInHeld 34=false:=by kernel_rfl
 rw[run_eql_struct,show(10000:Nat)=9999+1 from rfl,run_equalIn_agg w 9999 34 _ _ g h];simp only[Program.fieldsOf,Tryz.underlying34]
 go_simp
 by_cases e:a=c <;> by_cases f:b=d <;> simp[e,f]
def Ver.BF(v w:Ver):Bool:=(w.node==v.node&&w.seq==v.seq)||w.over v
theorem Ph(v u:Ver)(m:zS v.node)(b:Nat)(w:World)(i:Blk w b v.cells 37) :
 Calls Tryz.prog 176 #[.agg u.cells.toArray,.pointer (some ⟨b,0,none⟩)] w fun e p=>e=.returned (.bool (v.BF u))/\Fr Nil w p:=by
 have l:=IJ u.node u.seq v.node v.seq;have a:=WO u v m;have o:∀ (d:Obj) k,(w.alloc d).cell? ⟨b,k,none⟩=v.cells[k]?:=fun d k=>(i.alloc d).cell k;have j:Fr Nil w (w.alloc (.cells u.cells.toArray 37)):=(O _ _).alloc _;have h:=Z a;simp only[Ver.BF];generalize u.over v=ov at h |-;obtain⟨n,s,q,r,t,z,x,g⟩:=v;obtain⟨node,f,A,B,C,D,y,gone⟩:=u;simp only[Ver.cells] at *;clear i a m;cases he:(node==n&&f==s) with
 | true =>
  rw[he] at l;clear he;go_enter Tryz.func176,Tryz.ntmps176
  go_wp2
  go_ret;exact⟨rfl,j⟩
 | false =>
  rw[he] at l;clear he;go_enter Tryz.func176,Tryz.ntmps176
  go_wp2_with (refine(h.out _).mono ?_;rintro e E ⟨rfl,c⟩)
  go_ret;exact⟨rfl,j.trans c⟩
theorem VRow.cells{w:World}{g n cap:Nat}{l:List Ver}(h:w.ownsRow 0 37 8 (.slice (some ⟨g,0,none⟩) n cap) n (zU l))(i:Nat)(o:i<l.length)(j:Nat)(e:j<8) :
 w.cell? ⟨g,i*8+j,none⟩=l[i].cells[j]?:=by
 have c:j<l[i].cells.length:=by rw[Ver.BI];exact e
 rw[own_cell? h (i*8+j) _ ((Rh l i j o e).trans (IW c)),IW c]
theorem TB(M:Value)(l:List Ver)(v:Ver)(V:zS v.node)(b:Nat)(w:World)(q:VRow w M l)(L:Blk w b v.cells 37) :
 Calls Tryz.prog 213 #[M,.func (.func 176) #[] #[.pointer (some ⟨b,0,none⟩)]] w fun e z =>
  ∃ r:Int,e=.returned (.int .i64 r)/\decide (0<=r)=l.any v.BF/\Fr Nil w z:=by
 have T:=zH q;unfold maxLen at T;obtain⟨X,lc,rfl⟩:=zc q;have N:=Z L;have A:=Z q;clear L q;go_enter Tryz.func213,Tryz.ntmps213;go_wp2_with fail
 go_loopw [8] (fun y z=>∃ i:Nat,i<=l.length/\y=.int .i64 i/\(l.take i).any v.BF=false/\Fr Nil w z) (fun y _=>l.length-(intOf y).toNat)
 case atStart=>exact⟨0,Hg _,rfl,rfl,O _ _⟩
 case round =>
  obtain⟨i,hi,rfl,a,p⟩:=hrel;by_cases k:i<l.length
  .obtain⟨g,rfl⟩:∃ g,X=some ⟨g,0,none⟩:=by
    obtain⟨g,Q,h,_⟩:=zm A.out (by omega);simp at h;exact⟨g,h.1⟩
   have c:=VRow.cells (zb (S:=Nil) A.out p (fun _ _=>id)) i k;have C:=c 0 (by omega);have D:=c 1 (by omega);have E:=c 2 (by omega);have F:=c 3 (by omega);have G:=c 4 (by omega);have I:=c 5 (by omega);have J:=c 6 (by omega);have K:=c 7 (by omega);have f:(l.take (i+1)).any v.BF=v.BF l[i]:=by
    rw[Hj k,List.any_append,a];simp
   have d:v.BF l[i]=true->l.any v.BF=true:=fun h=>Dw.2 ⟨l[i],IX k,h⟩;have o:=Z (Ph v l[i] V b wr (N.out.fr p id));have t:=Z f;have s:=Z d;have B:=Z a;clear c f d a;generalize l[i]=x at C D E F G I J K o t s;obtain⟨node,u,Y,o1,o2,o3,m,gone⟩:=x;simp only[Ver.cells,Fx] at C D E F G I J K o;cases hk:v.BF ⟨node,u,Y,o1,o2,o3,m,gone⟩ with
   | true =>
    rw[hk] at o s;have R:(0:Int)<=i:=by omega
    clear hk
    go_wp2_with (refine o.out.mono ?_;rintro e w1 ⟨rfl,j⟩)
    go_ret;exact⟨_,rfl,by rw[s.out (by trivial)];simp,p.trans j⟩
   | false =>
    rw[hk] at o t;clear hk
    go_wp2_with (refine o.out.mono ?_;rintro e w1 ⟨rfl,j⟩)
    exact⟨⟨i+1,by omega,by go_num,t.out,p.trans j⟩,by simp[intOf];omega⟩
  .have e:i=l.length:=by omega
   rw[e,HZ] at a;have B:=Z a;clear a
   go_wp2
   go_ret;exact⟨_,rfl,by rw[B.out];simp,p⟩
theorem Ua(a:Value)(l:List Ver)(v:Ver)(i:zS v.node)(b:Nat)(w:World)(d:VRow w a l)(c:Blk w b v.cells 37) :
 Calls Tryz.prog 175 #[a,.func (.func 176) #[] #[.pointer (some ⟨b,0,none⟩)]] w fun e j =>
  e=.returned (.bool (l.any v.BF))/\Fr Nil w j:=by
 have f:=Z (TB a l v i b w d c);clear d c;go_enter Tryz.func175,Tryz.ntmps175
 go_wp2_with (refine f.out.mono ?_;rintro e k ⟨r,rfl,h,g⟩)
 go_ret;exact⟨by first|rfl|(show Ending.returned (.bool (decide (0<=r)))=_;rw[h]),g⟩
theorem OV(b:Value)(l:List Ver)(v:Ver)(i:zS v.node)(w:World)(h:VRow w b l) :
 Calls Tryz.prog 141 #[b,.agg v.cells.toArray] w fun e k=>e=.returned (.bool (l.any v.BF))/\Fr Nil w k:=by
 have f:Blk (w.alloc (.cells v.cells.toArray 37)) w.heap.size v.cells 37:=Blk.new w v.cells _;have g:Fr Nil w (w.alloc (.cells v.cells.toArray 37)):=(O _ _).alloc _;have d:=Z (Ua b l v i _ _ (VRow.fr h g (fun _ _=>id)) f);clear h f;generalize l.any v.BF=r at d |-;obtain⟨node,j,m,o,q,s,c,gone⟩:=v;simp only[Ver.cells] at *;go_enter Tryz.func141,Tryz.ntmps141
 go_wp2_with (refine d.out.mono ?_;rintro e t ⟨rfl,a⟩)
 go_ret;exact⟨rfl,g.trans a⟩
theorem IK:((Tryz.prog.info? 37).map fun i=>(i.zero.map (·.cells.size),i.size,i.bytes))=some (some 8,8,72):=by kernel_rfl
theorem YJ(a b:List Ver):zU (a++b)=zU a++zU b:=by simp[zU]
theorem Zw(w:World)(v:Value)(l:List Ver)(h:VRow w v l)(x:Ver)(y:l.length<1000000)(d:World)(f:Fr Nil w d)(N:Nat)(r:Blk d N x.cells 37)(ty:TypeId) :
 ∃ b c,(Builtin.append_ #[61,61] ty #[v,.slice (some ⟨N,0,none⟩) 1 1]).run Tryz.prog d=.ok b c /\
  (VRow c b (l++[x])/\Fr (fun k=>v.ownBlock=some k) w c/\(∀ k,b.ownBlock=some k->v.ownBlock=some k\/w.heap.size<=k)):=by
 have s:=zb h f (fun _ _=>id);obtain⟨b,c,t,p,q,a⟩:=zt (P:=Tryz.prog) 61 ty 37 8 72 Fj IK (by omega) v l.length _ s ⟨N,0,none⟩ 1 1 x.cells rfl
  (fun j u o=>by rw[Gh,Gg,r.cell];exact o) (fun u o=>XW [x] u (by simpa [zU] using o)) (by unfold maxLen;omega) (by omega)
 refine⟨b,c,t,?_,(f.mono (fun _ _ e=>absurd e id)).trans' ((Fr.Bv q).mono (fun i _ h=>h)) (fun i _ h=>h),fun k g=>?_⟩
 .unfold VRow
  rw[IM,YJ];have:zU [x]=x.cells:=by simp[zU]
  rw[this];exact p
 .rcases a with a|a
  .exact .inl (by rw[<- a];exact g)
  .rw[a] at g;simp at g;have:=f.size;exact .inr (by omega)
def zx(l:List Ver)(v:Ver):List Ver:=l.filter fun u=>!v.over u
theorem Mv(lv:Value)(l:List Ver)(v:Ver)(q:∀ u∈l,zS u.node)(a8:l.length<1000000)(w:World)(hl:VRow w lv l) :
 Calls Tryz.prog 140 #[lv,.agg v.cells.toArray] w fun e C=>∃ v',e=.returned v'/\VRow C v' (zx l v)/\Fr Nil w C/\(∀ k,v'.ownBlock=some k->w.heap.size<=k):=by
 have hn:=zH hl;unfold maxLen at hn;obtain⟨la,lc,rfl⟩:=zc hl;have hb:Blk (w.alloc (.cells v.cells.toArray 37)) w.heap.size v.cells 37:=Blk.new w v.cells _;have t:Fr Nil w (w.alloc (.cells v.cells.toArray 37)):=(O _ _).alloc _;have HL:=Z hl;have E:=Z q;clear hl q;have a1:Hid (∀ (x:Ver) (W:World),zS x.node->Calls Tryz.prog 174 #[.agg v.cells.toArray,.agg x.cells.toArray] W fun e C=>e=.returned (.bool (v.over x))/\Fr Nil W C):=fun x W hx=>WO v x hx W;have D:Hid (∀ i (hi:i<l.length),zx (l.take (i+1)) v=zx (l.take i) v++if v.over l[i]=true then [] else [l[i]]):=by
  intro i hi;unfold zx;rw[Hj hi,List.filter_append]
  congr 1
  cases hv:v.over l[i] <;> simp[hv]
 have R:Hid (∀ i,(zx (l.take i) v).length<1000000):=by
  intro i;have h1:=List.length_filter_le (fun u=>!v.over u) (l.take i);have h2:=List.length_take_le' i l;unfold zx;omega
 obtain⟨node,c,G,I,J,K,a,gone⟩:=v;simp only[Ver.cells] at *;go_enter Tryz.func140,Tryz.ntmps140;go_wp2_with fail;obtain⟨N,hN⟩:∃ N,w.heap.size=N:=⟨_,rfl⟩;obtain⟨w0,a0⟩:∃ w0,w.alloc (.cells #[.int .i64 node,.int .i64 c,.int .i64 G,.int .i64 I,.int .i64 J,.int .i64 K,.string a,.bool gone] 37)=w0:=⟨_,rfl⟩;rw[hN] at hb |-;rw[a0] at hb t |-;clear a0;have a4:=hb.lt
 go_loopw [5,10] (fun t5 L C=>∃ i:Nat,i<=l.length/\L=.int .i64 i/\VRow C t5 (zx (l.take i) ⟨node,c,G,I,J,K,a,gone⟩)/\Fr Nil w0 C/\(∀ k,t5.ownBlock=some k->w0.heap.size<=k)) (fun _ L _=>l.length-(intOf L).toNat)
 case atStart=>exact⟨0,Hg _,rfl,Hc w0 0 _ _,O _ _,fun k X=>by simp[Value.ownBlock] at X⟩
 case round =>
  obtain⟨i,hi,rfl,f,M,d⟩:=hrel;by_cases F:i<l.length
  .obtain⟨g,rfl⟩:∃ g,la=some ⟨g,0,none⟩:=by
    obtain⟨g,a5,h,_⟩:=zm HL.out (by omega);simp at h;exact⟨g,h.1⟩
   have s:=VRow.cells (zb (S:=Nil) HL.out (t.trans M) (fun _ _=>id)) i F;have g0:=s 0 (by omega);have g1:=s 1 (by omega);have g2:=s 2 (by omega);have g3:=s 3 (by omega);have g4:=s 4 (by omega);have g5:=s 5 (by omega);have g6:=s 6 (by omega);have g7:=s 7 (by omega);have hx:=E.out l[i] (IX F);have Y:=D.out i F;have a7:∀ (ob:Obj) k,(wr.alloc ob).cell? ⟨N,k,none⟩=[.int .i64 node,.int .i64 c,.int .i64 G,.int .i64 I,.int .i64 J,.int .i64 K,.string a,.bool gone][k]?:=fun ob k=>((hb.fr M id).alloc ob).cell k;have o:=Z Y;have b:=Z d;have r:=Z f;have HX:=Z hx;clear s Y d hx;generalize l[i]=x at g0 g1 g2 g3 g4 g5 g6 g7 o HX;have T:=Z (a1.out x (wr.alloc (.cells x.cells.toArray 37)) HX.out);obtain⟨xn,xs,x0,x1,x2,x3,xv,xg⟩:=x;simp only[Ver.cells,Fx] at g0 g1 g2 g3 g4 g5 g6 g7 T;obtain⟨ta,tc,rfl⟩:=zc f;clear f;cases hov:Ver.over ⟨node,c,G,I,J,K,a,gone⟩ ⟨xn,xs,x0,x1,x2,x3,xv,xg⟩ with
   | true =>
    rw[hov] at T o;clear hov
    go_wp2_with (refine T.out.mono ?_;rintro e Q ⟨rfl,y⟩)
    have z:Fr Nil wr Q:=((O Nil wr).alloc _).trans y;refine⟨⟨i+1,by omega,by go_num,?_,M.trans z,b.out⟩,by simp[intOf];omega⟩;rw[o.out]
    simpa using VRow.fr r.out z (fun _ _=>id)
   | false =>
    rw[hov] at T o;clear hov;go_wp2_with fail;refine T.out.mono ?_;rintro e Q ⟨rfl,y⟩;have z:Fr Nil wr Q:=((O Nil wr).alloc _).trans y;have a6:=((Blk.new wr [.int .i64 xn,.int .i64 xs,.int .i64 x0,.int .i64 x1,.int .i64 x2,.int .i64 x3,.string xv,.bool xg] 37).fr y id).cell;have B:=fun ty=>Zw wr _ _ r.out ⟨xn,xs,x0,x1,x2,x3,xv,xg⟩ (R.out i) (Q.alloc (.cells #[.int .i64 xn,.int .i64 xs,.int .i64 x0,.int .i64 x1,.int .i64 x2,.int .i64 x3,.string xv,.bool xg] 37)) (z.alloc _) Q.heap.size (Blk.new Q [.int .i64 xn,.int .i64 xs,.int .i64 x0,.int .i64 x1,.int .i64 x2,.int .i64 x3,.string xv,.bool xg] _) ty;obtain⟨m,hm⟩:∃ m,(zx (l.take i) ⟨node,c,G,I,J,K,a,gone⟩).length=m:=⟨_,rfl⟩;rw[hm] at B b |-;have HM:=Z hm;clear hm
    go_wp2_with (at_builtin;go_must (refine zk rfl _ _ _ _ rfl _ _ (by rfl) (by rfl) (B _) ?_);rintro v' C ⟨a3,V,a2⟩)
    refine⟨⟨i+1,by omega,by go_num,?_,?_,fun k X=>?_⟩,by simp[intOf];omega⟩
    .rw[o.out]
     simpa using a3
    .exact M.trans' V (fun j hj h=>absurd (b.out j h) (by omega))
    .rcases a2 k X with h|h
     .exact b.out k h
     .have:=M.size;omega
  .have e:i=l.length:=by omega
   have A:zx (l.take i) ⟨node,c,G,I,J,K,a,gone⟩=zx l ⟨node,c,G,I,J,K,a,gone⟩:=by rw[e,HZ]
   rw[A] at f;have r:=Z f;have b:=Z d;clear f A d
   go_wp2
   go_ret;exact⟨_,rfl,r.out,t.trans M,fun k X=>IP t.size (b.out k X)⟩
def grV(l:List Ver)(n:Int):Int:=l.foldl (fun m u=>if u.node=n then max m u.seq else m) 0
theorem WC(l:List Ver)(i:Nat)(h:i<l.length)(n:Int):grV (l.take (i+1)) n=if l[i].node=n then max (grV (l.take i) n) l[i].seq else grV (l.take i) n:=by
 unfold grV;rw[Hj h,Gq]
 rfl
theorem SI(lv:Value)(l:List Ver)(A:∀ u∈l,zS u.node)(w:World)(hl:VRow w lv l) :
 Calls Tryz.prog 72 #[lv] w fun e w'=>e=.returned (.agg #[.int .i64 (grV l 0),.int .i64 (grV l 1),.int .i64 (grV l 2),.int .i64 (grV l 3)])/\Fr Nil w w':=by
 have hn:=zH hl;unfold maxLen at hn;obtain⟨la,lc,rfl⟩:=zc hl;have HL:=Z hl;have E:=Z A;clear hl A;go_enter Tryz.func72,Tryz.ntmps72;go_wp2_with fail;obtain⟨R,hR⟩:∃ R,w.heap.size=R:=⟨_,rfl⟩;have F:Blk ((w.alloc (.cells #[.int .i64 0,.int .i64 0,.int .i64 0,.int .i64 0] 35)).alloc (.cells #[.int .i64 0,.int .i64 0,.int .i64 0,.int .i64 0] 35)) (w.heap.size+1) [.int .i64 0,.int .i64 0,.int .i64 0,.int .i64 0] 35:=by
  have:=Blk.new (w.alloc (.cells #[.int .i64 0,.int .i64 0,.int .i64 0,.int .i64 0] 35)) [.int .i64 0,.int .i64 0,.int .i64 0,.int .i64 0] 35
  simpa using this
 have J:Blk ((w.alloc (.cells #[.int .i64 0,.int .i64 0,.int .i64 0,.int .i64 0] 35)).alloc (.cells #[.int .i64 0,.int .i64 0,.int .i64 0,.int .i64 0] 35)) w.heap.size [.int .i64 0,.int .i64 0,.int .i64 0,.int .i64 0] 35:=(Blk.new w [.int .i64 0,.int .i64 0,.int .i64 0,.int .i64 0] _).alloc _;have Y:Fr Nil w ((w.alloc (.cells #[.int .i64 0,.int .i64 0,.int .i64 0,.int .i64 0] 35)).alloc (.cells #[.int .i64 0,.int .i64 0,.int .i64 0,.int .i64 0] 35)):=((O _ _).alloc _).alloc _;obtain⟨w0,a2⟩:∃ w0,(w.alloc (.cells #[.int .i64 0,.int .i64 0,.int .i64 0,.int .i64 0] 35)).alloc (.cells #[.int .i64 0,.int .i64 0,.int .i64 0,.int .i64 0] 35)=w0:=⟨_,rfl⟩;rw[a2] at F J Y |-;have a7:w.heap.size<=R:=by omega
 rw[hR] at F J |-;clear a2 hR
 go_loopw [8] (fun t8 w'=>∃ i:Nat,i<=l.length/\t8=.int .i64 i/\Blk w' (R+1) [.int .i64 (grV (l.take i) 0),.int .i64 (grV (l.take i) 1),.int .i64 (grV (l.take i) 2),.int .i64 (grV (l.take i) 3)] 35/\Fr (fun k=>k=R+1) w0 w') (fun t8 _=>l.length-(intOf t8).toNat)
 case atStart=>exact⟨0,Hg _,rfl,F,O _ _⟩
 case round =>
  obtain⟨i,hi,rfl,a,L⟩:=hrel;have a1:Fr Nil w wr:=Y.trans' (L.mono (fun _ _ h=>h)) (fun k hk h=>by omega);by_cases I:i<l.length
  .obtain⟨g,rfl⟩:∃ g,la=some ⟨g,0,none⟩:=by
    obtain⟨g,cap,h,_⟩:=zm HL.out (by omega);simp at h;exact⟨g,h.1⟩
   have C:=VRow.cells (zb (S:=Nil) HL.out a1 (fun _ _=>id)) i I;have g0:=C 0 (by omega);have g1:=C 1 (by omega);have g2:=C 2 (by omega);have g3:=C 3 (by omega);have g4:=C 4 (by omega);have g5:=C 5 (by omega);have g6:=C 6 (by omega);have g7:=C 7 (by omega);have hx:=E.out l[i] (IX I);have b:=WC l i I;have p:=Z b;have HX:=Z hx;clear C b hx;generalize l[i]=x at g0 g1 g2 g3 g4 g5 g6 g7 p HX;obtain⟨node,b0,x0,x1,x2,x3,xv,xg⟩:=x;simp only[Ver.cells,Fx] at g0 g1 g2 g3 g4 g5 g6 g7;have a5:node=0\/node=1\/node=2\/node=3:=by have:=HX.out;unfold zS at this;simp only at this;omega
   generalize r:grV (l.take i) 0=M at a;generalize s:grV (l.take i) 1=N at a;generalize t:grV (l.take i) 2=Q at a;generalize y:grV (l.take i) 3=T at a;have d:=Z r;have f:=Z s;have j:=Z t;have o:=Z y;clear r s t y;have a8:∀ (K:Obj) k,(wr.alloc K).cell? ⟨R+1,k,none⟩=[.int .i64 M,.int .i64 N,.int .i64 Q,.int .i64 T][k]?:=fun K k=>(a.alloc K).cell k;have a9:∀ (K:Obj) k,(wr.alloc K).frozen? ⟨R+1,k,none⟩=false:=fun K k=>(a.alloc K).frozen k;have HB:=Z a;clear a;have D:∀ (m q:Int),max m q=if m<q then q else m:=by intro m q;simp only[Int.max_def];split <;> split <;> omega
   have c:=Z D;clear D;rcases a5 with rfl|rfl|rfl|rfl
   .go_wp2_with fail
    go_region
    go_wp2
    refine⟨⟨i+1,by omega,by go_num,?_,?_⟩,by simp[intOf];omega⟩
    .have b:=p.out
     simp only[b,d.out,f.out,j.out,o.out,c.out];exact((HB.out.alloc _).set 0 _).drew
    .exact(Fr.set (S:=fun k=>k=R+1) (L.alloc _) (fun _=>rfl) _).drew
   .go_wp2_with fail
    go_region
    go_wp2
    refine⟨⟨i+1,by omega,by go_num,?_,?_⟩,by simp[intOf];omega⟩
    .have b:=p.out
     simp only[b,d.out,f.out,j.out,o.out,c.out];exact((HB.out.alloc _).set 1 _).drew
    .exact(Fr.set (S:=fun k=>k=R+1) (L.alloc _) (fun _=>rfl) _).drew
   .go_wp2_with fail
    go_region
    go_wp2
    refine⟨⟨i+1,by omega,by go_num,?_,?_⟩,by simp[intOf];omega⟩
    .have b:=p.out
     simp only[b,d.out,f.out,j.out,o.out,c.out];exact((HB.out.alloc _).set 2 _).drew
    .exact(Fr.set (S:=fun k=>k=R+1) (L.alloc _) (fun _=>rfl) _).drew
   .go_wp2_with fail
    go_region
    go_wp2
    refine⟨⟨i+1,by omega,by go_num,?_,?_⟩,by simp[intOf];omega⟩
    .have b:=p.out
     simp only[b,d.out,f.out,j.out,o.out,c.out];exact((HB.out.alloc _).set 3 _).drew
    .exact(Fr.set (S:=fun k=>k=R+1) (L.alloc _) (fun _=>rfl) _).drew
  .have e:i=l.length:=by omega
   rw[e,HZ] at a;have B:=J.fr L (fun e=>by omega);have z:=a.cell;have a4:=B.cell;have a6:=B.frozen;generalize r:grV l 0=M at z;generalize s:grV l 1=N at z;generalize t:grV l 2=Q at z;generalize y:grV l 3=T at z;have d:=Z r;have f:=Z s;have j:=Z t;have o:=Z y;have HF:=Z a1;have a3:=Z B;clear r s t y a B
   go_wp2
   have X:=(((a3.out.set 0 (.int .i64 M)).set 1 (.int .i64 N)).set 2 (.int .i64 Q)).set 3 (.int .i64 T);have a0:Fr Nil w ((((wr.setCell ⟨R,0,none⟩ (.int .i64 M)).setCell ⟨R,1,none⟩ (.int .i64 N)).setCell ⟨R,2,none⟩ (.int .i64 Q)).setCell ⟨R,3,none⟩ (.int .i64 T)) :=
    Fr.set (Fr.set (Fr.set (Fr.set HF.out (fun h=>by simp only at h;omega) _) (fun h=>by simp only at h;omega) _) (fun h=>by simp only at h;omega) _) (fun h=>by simp only at h;omega) _
   have V:=Z a0;have G:=X.cell;simp only[Hz,Ga] at G;clear z a4 a6 a0 X;generalize (((wr.setCell ⟨R,0,none⟩ (.int .i64 M)).setCell ⟨R,1,none⟩ (.int .i64 N)).setCell ⟨R,2,none⟩ (.int .i64 Q)).setCell ⟨R,3,none⟩ (.int .i64 T)=w4 at G V |-;refine EB (v:=.agg #[.int .i64 M,.int .i64 N,.int .i64 Q,.int .i64 T]) (by simp[results,Tryz.results72,go_sem,G,Tryz.isAgg35,Tryz.sizeOf35]) rfl ⟨?_,V.out⟩;rw[d.out,f.out,j.out,o.out]
theorem LL:((Tryz.prog.info? 37).map fun i=>(i.zero.map (·.cells.size),i.size,i.bytes))=some (some 8,8,72):=by kernel_rfl
def V3(w:World)(c:Option Nat)(n i:Nat)(h f:List Value)(e:Ending)(d:World):Prop :=
 ∃ g a,e=.returned (.slice (some ⟨g,0,none⟩) (n+1) a)/\d.ownsRow 0 37 8 (.slice (some ⟨g,0,none⟩) (n+1) a) (n+1) (Y5 8 i h f)/\Fr (fun b=>c=some b) w d/\(c=some g\/w.heap.size<=g)
theorem OW(v:Value)(n:Nat)(d f:List Value)(r:Nat)(w:World)(b:w.ownsRow 0 37 8 v n d)(t:f.length=8)(s:∀ u∈f,u.oneCell'=true)(E:Blk w r f 37)(p:(n+1)*72<=140737488355328) :
 Calls Tryz.prog 181 #[v,.int .i64 n,.slice (some ⟨r,0,none⟩) 1 1] w fun e c=>V3 w v.ownBlock n n d f e c:=by
 have q:∀ ty,∃ m c,(Builtin.append_ #[61,61] ty #[v,.slice (some ⟨r,0,none⟩) 1 1]).run Tryz.prog w=.ok m c/\App w v 37 8 (n+1) (d++f) m c:=fun ty =>
  zt (P:=Tryz.prog) 61 ty 37 8 72 Fj LL (by omega) v n d b ⟨r,0,none⟩ 1 1 f (by rw[t]) (fun j u D=>by rw[Gh,Gg];rw[E.cell];exact D) s (by unfold maxLen;omega) p
 have k:∀ m c,App w v 37 8 (n+1) (d++f) m c->V3 w v.ownBlock n n d f (.returned m) c:=by
  rintro m c ⟨y,B,o⟩;obtain⟨g,l,rfl,_,_⟩:=y.form (by omega);refine⟨g,l,rfl,?_,(Fr.Bv B).mono (fun i _ h=>h),?_⟩
  .have e1:d.take (n*8)=d:=Hn (by rw[b.1];exact IQ _)
   have z:d.drop (n*8)=[]:=Gy (by rw[b.1];exact IQ _);unfold Y5;rw[e1,z,Hx];exact y
  .rcases o with o|o
   .left;rw[<- o];rfl
   .right;have:g=w.heap.size:=by simpa [Value.ownBlock] using o
    omega
 have C:=zH b;unfold maxLen at C;obtain⟨a,l,rfl⟩:=zc b;have x:=Z k;clear k b;generalize (Value.slice a n l).ownBlock=F at x |-;go_enter Tryz.func181,Tryz.ntmps181
 go_wp2_with (at_builtin;go_must (refine zk rfl _ _ _ _ rfl _ _ (by rfl) (by rfl) (q _) ?_);rintro m c A)
 all_goals
  go_ret;exact x.out _ _ A
theorem LN(w:World)(k m l i h f:Nat)(a g:Nat)(j c:List Value)(d:Blk w a j 37)(p:Blk w g c 37)(b:a≠g)(o:c.length≠0) :
 (callFunc 215 #[.slice (some ⟨a,k,none⟩) m l,.slice (some ⟨g,i,none⟩) h f]).run Tryz.prog w=.ok (.value (.bool false)) w:=by
 rw[GA Tryz.func215 (by kernel_rfl) (by kernel_rfl) (by kernel_rfl) (e:=Extern.SlicesOverlaps.overlaps #[61,61] #[4]) (by kernel_rfl),
  Dh w 61 4 37 Fj 8 Tryz.sizeOf37 ⟨a,k,none⟩ ⟨g,i,none⟩ m l h f b 37 37 j.length c.length d.shape p.shape o (d.frozen _) (d.frozen _)]
 rfl
theorem RZ(g n d i:Nat)(c l k:List Value)(z:Nat)(w:World)(J:Blk w g c 37)(h:c.length=d*8)(M:c.take (n*8)=l)(V:∀ u∈l,u.oneCell'=true)(hi:i<n)(a:n+1<=d)(F:d<=maxLen)
 (r:k.length=8)(I:∀ u∈k,u.oneCell'=true)(Q:Blk w z k 37)(K:z≠g) :
 Calls Tryz.prog 181 #[.slice (some ⟨g,0,none⟩) n d,.int .i64 i,.slice (some ⟨z,0,none⟩) 1 1] w fun e w'=>V3 w (some g) n i l k e w':=by
 have N:=fun va vl vc bo bl bc=>LN w va vl vc bo bl bc z g k c Q J K (by omega);have v:l.length=n*8:=by rw[<- M,IR,h];exact Gv (Hv _ (by omega))
 have q:(l.drop (i*8)).length=(n-i)*8:=by rw[Hi,v,Dz]
 have G:∀ j u,(l.drop (i*8))[j]?=some u->c[i*8+j]?=some u:=by
  intro j u s;rw[Fa] at s;have a0:=(Hp.1 s).1;rw[<- M,Gx (by omega)] at s;exact s
 have p:∀ ty A R,(Builtin.copy_ #[61,61] ty #[.slice (some ⟨g,(i+1)*8,none⟩) (n-i) A,.slice (some ⟨g,i*8,none⟩) (n+1-i) R]).run Tryz.prog w.drew=_:=fun ty A R =>
  Zv 61 37 ty 8 Fj (by kernel_rfl) g ((i+1)*8) (n-i) A ⟨g,i*8,none⟩ (n+1-i) R c (l.drop (i*8)) 37 J
   (by rw[q];congr 1;simp only[FK];split <;> omega) (fun j u s=>by rw[Gh,show w.drew.cell? ⟨g,i*8+j,none⟩=c[i*8+j]? from J.drew.cell _];exact G j u s)
   (by rw[q,h];have:=Hv 8 a;have e:(i+1)*8+(n-i)*8=(n+1)*8:=(by rw[<- Fe];congr 1;omega);omega)
   (fun u s=>V u (Gn s))
 obtain⟨f,m⟩:∃ f,f=c.take ((i+1)*8)++l.drop (i*8)++c.drop ((i+1)*8+(l.drop (i*8)).length):=⟨_,rfl⟩;rw[<- m] at p;have t:Blk (w.drew.setRow g f.toArray) g f 37:=J.drew.setRow f;have C:Blk (w.drew.setRow g f.toArray) z k 37:=Q.drew.of_heap (Ex _ g z _ K);have o:f.length=d*8:=by
  have:=Hv 8 a;have e:(i+1)*8+(n-i)*8=(n+1)*8:=by rw[<- Fe];congr 1;omega
  rw[m];simp only[IM,IR,Hi,v,h];omega
 have B:Fr (fun b=>some g=some b) w (w.drew.setRow g f.toArray):=Fr.setRow (S:=fun b=>some g=some b) ((O _ w).drew) (fun _=>rfl) _;obtain⟨L,D⟩:∃ L,L=w.drew.setRow g f.toArray:=⟨_,rfl⟩;rw[<- D] at p t C B;clear D;have x:∀ ty A,(Builtin.copy_ #[61,61] ty #[.slice (some ⟨g,i*8,none⟩) (n+1-i) A,.slice (some ⟨z,0,none⟩) 1 1]).run Tryz.prog L=_:=fun ty A =>
  Zv 61 37 ty 8 Fj (by kernel_rfl) g (i*8) (n+1-i) A ⟨z,0,none⟩ 1 1 f k 37 t
   (by rw[r];have:Nat.min 1 (n+1-i)=1:=(by simp only[FK];split <;> omega);rw[this]) (fun j u s=>by rw[Gh,Gg,C.cell];exact s)
   (by rw[r,o];have:=Hv 8 a;have e:i*8+8=(i+1)*8:=(by rw[Fe,DA]);have:=Hv 8 (show i+1<=n+1 by omega);omega)
   I
 have y:V3 w (some g) n i l k (.returned (.slice (some ⟨g,0,none⟩) (n+1) d)) (L.setRow g (f.take (i*8)++k++f.drop (i*8+k.length)).toArray):=by
  have e0:=Hv 8 a;have e1:i*8+8=(i+1)*8:=by rw[Fe,DA]
  have e2:(i+1)*8+(n-i)*8=(n+1)*8:=by rw[<- Fe];congr 1;omega
  have e3:=Hv 8 (show i<=n by omega);refine⟨g,d,rfl,ZA (t.setRow _) a F ?_ ?_,Fr.setRow (S:=fun b=>some g=some b) B (fun _=>rfl) _,.inl rfl⟩
  .rw[IM,IM,IR,Hi,r,o]
   omega
  .unfold Y5
   have X:f.take (i*8)=l.take (i*8):=by
    rw[m,<- M,Gk (by rw[IM,IR,h];omega),Gk (by rw[IR,h];omega),Fz,Fz]
    congr 1
    omega
   have Y:f.drop (i*8+k.length)=l.drop (i*8)++c.drop ((n+1)*8):=by
    have e4:(c.take ((i+1)*8)).length=i*8+k.length:=by rw[IR,h];omega
    rw[m,Hu,<- e4,EO,q,e2]
   rw[X,Y,<- Hu,Gw (by rw[IM,IM,q,r,IR,v];omega)]
 obtain⟨T,E⟩:∃ T,T=f.take (i*8)++k++f.drop (i*8+k.length):=⟨_,rfl⟩;rw[<- E] at x y;clear t C B o G J Q q v V I m E M r h;unfold maxLen at F;have a3:¬(i:Int)=(n:Int):=by omega
 have a4:¬(d:Int)<(n:Int)+1:=by omega
 have a5:¬d=i:=by omega
 have a6:¬d=i+1:=by omega
 have a7:IntKind.i64.wrap ((i:Int)+1)=(i:Int)+1:=by rw[Hr];omega
 have a8:(0:Int)<=(i:Int)+1:=by omega
 have a9:((i:Int)+1).toNat=i+1:=by omega
 have b0:(i:Int)<=(n:Int)+1:=by omega
 have b1:(i:Int)<=(n:Int):=by omega
 go_enter Tryz.func181,Tryz.ntmps181
 go_wp2_with (simp only[N])
 go_region_law (refine Yx rfl _ _ 61 61 rfl _ _ (by simp[Act.eval,Act.put]) (by simp[Act.eval,Act.put]) (p _ _ _) ?_)
 go_wp2_with (at_builtin;go_must (refine Yo rfl _ _ 61 61 rfl _ _ (by rfl) (by rfl) (x _ _) ?_))
 go_ret;exact y
theorem Pi(g n i:Nat)(b m:List Value)(vb:Nat)(w:World)(hg:Blk w g b 37)(f:b.length=n*8)(h1:∀ u∈b,u.oneCell'=true)(hi:i<n)
 (q:m.length=8)(a0:∀ u∈m,u.oneCell'=true)(hv:Blk w vb m 37)(Y:(n+1)*72<=140737488355328) :
 Calls Tryz.prog 181 #[.slice (some ⟨g,0,none⟩) n n,.int .i64 i,.slice (some ⟨vb,0,none⟩) 1 1] w fun e w'=>V3 w (some g) n i b m e w':=by
 obtain⟨i0,z,a4,a6,S,J,a7⟩:=ZH LL;have s:i+(n+1-i)=n+1:=by omega
 have a:∀ ty,(Builtin.append_ #[61,3] ty #[.slice (some ⟨g,0,none⟩) i n,.int .i64 ((n+1-i:Nat):Int)]).run Tryz.prog w=_:=fun ty =>
  EX (P:=Tryz.prog) w 61 3 ty 37 i0 z .i64 .i64 Fj ET a4 a6 (some ⟨g,0,none⟩) i n (b.take (i*8))
   (by rw[S];exact En (P:=Tryz.prog) w.drew 8 i ⟨g,0,none⟩ i n (b.take (i*8)) (by rw[IR,f];omega) (fun j u t=>by
     have a8:=(Hp.1 t).1;rw[Gh,Gg,hg.drew.cell];rw[IR] at a8;rw[Gx (by omega)] at t;exact t))
   (n+1-i) (by omega) (by rw[S];omega) (by omega) (by omega) (by rw[J];omega) (DT (by omega) (by rw[J,s];exact Y))
 rw[s] at a;have a2:=CJ w (n+1) n 37;have K:=Da w (n+1) n 37 (by unfold maxLen;omega);generalize grownCap w (n+1) n 37=c at a a2 K;obtain⟨d,v⟩:∃ d:List Value,d=b.take (i*8)++(Builtin.zeroCells z.cells (n+1-i)).toList++(Builtin.zeroCells z.cells (c-(n+1))).toList:=⟨_,rfl⟩;have C:(b.take (i*8)).toArray++Builtin.zeroCells z.cells (n+1-i)++Builtin.zeroCells z.cells (c-(n+1))=d.toArray:=by rw[v];apply EN;simp
 rw[C] at a;have o:d.length=c*8:=by
  rw[v];simp only[IM,IR,GR,DR,a7,f];omega
 have D:d.take (i*8)=b.take (i*8):=by
  have e:(b.take (i*8)).length=i*8:=by rw[IR,f];omega
  rw[v,Hu];exact Gw e
 have a3:=hg.lt;have a5:=hv.lt;have r:Blk (w.drew.alloc (.cells d.toArray 37)) w.heap.size d 37:=Blk.new w.drew d _;have T:Blk (w.drew.alloc (.cells d.toArray 37)) vb m 37:=hv.drew.alloc _;have Q:Blk (w.drew.alloc (.cells d.toArray 37)) g b 37:=hg.drew.alloc _;have L:Fr Nil w (w.drew.alloc (.cells d.toArray 37)):=((O _ w).drew).alloc _;obtain⟨N,hN⟩:∃ N,N=w.heap.size:=⟨_,rfl⟩;rw[<- hN] at a r a3 a5;obtain⟨G,V⟩:∃ G,G=w.drew.alloc (.cells d.toArray 37):=⟨_,rfl⟩;rw[<- V] at a r T Q L;clear V;obtain⟨k,x⟩:∃ k,k=d.take (i*8)++m++d.drop (i*8+m.length):=⟨_,rfl⟩;have p:∀ ty I,(Builtin.copy_ #[61,61] ty #[.slice (some ⟨N,i*8,none⟩) (n+1-i) I,.slice (some ⟨vb,0,none⟩) 1 1]).run Tryz.prog G=_:=fun ty I =>
  Zv 61 37 ty 8 Fj (by kernel_rfl) N (i*8) (n+1-i) I ⟨vb,0,none⟩ 1 1 d m 37 r
   (by rw[q];have:Nat.min 1 (n+1-i)=1:=(by simp only[FK];split <;> omega);rw[this]) (fun j u t=>by rw[Gh,Gg,T.cell];exact t)
   (by rw[q,o];omega)
   a0
 rw[<- x] at p;have l:k.length=c*8:=by
  rw[x];simp only[IM,IR,Hi,q,o];omega
 have E:k.take ((i+1)*8)=b.take (i*8)++m:=by
  have e:(b.take (i*8)++m).length=(i+1)*8:=by rw[IM,IR,f,q];omega
  rw[x,D];exact Gw e
 have B:Blk (G.setRow N k.toArray) N k 37:=r.setRow k;have R:Blk (G.setRow N k.toArray) g b 37:=Q.of_heap (Ex _ N g _ (by omega));have M:Fr Nil w (G.setRow N k.toArray):=L.setRow (fun h=>by omega) _;obtain⟨W2,X⟩:∃ W2,W2=G.setRow N k.toArray:=⟨_,rfl⟩;rw[<- X] at p B R M;clear X;have A:(b.drop (i*8)).length=(n-i)*8:=by rw[Hi,f,Dz]
 obtain⟨c3,y⟩:∃ c3,c3=k.take ((i+1)*8)++b.drop (i*8)++k.drop ((i+1)*8+(b.drop (i*8)).length):=⟨_,rfl⟩;have F:∀ ty I sc,(Builtin.copy_ #[61,61] ty #[.slice (some ⟨N,(i+1)*8,none⟩) (n-i) I,.slice (some ⟨g,i*8,none⟩) (n-i) sc]).run Tryz.prog W2.drew=_:=fun ty I sc =>
  Zv 61 37 ty 8 Fj (by kernel_rfl) N ((i+1)*8) (n-i) I ⟨g,i*8,none⟩ (n-i) sc k (b.drop (i*8)) 37 B.drew
   (by rw[A];congr 1;simp only[FK];split <;> omega) (fun j u t=>by rw[Gh,R.drew.cell];rw[Fa] at t;exact t)
   (by rw[A,l];omega)
   (fun u t=>h1 u (Gn t))
 rw[<- y] at F;have a1:V3 w (some g) n i b m (.returned (.slice (some ⟨N,0,none⟩) (n+1) c)) (W2.drew.setRow N c3.toArray):=by
  refine⟨N,c,rfl,ZA (B.drew.setRow _) a2 K ?_ ?_,(M.drew.setRow (fun h=>by omega) _).mono (fun _ _ h=>absurd h id),.inr (by omega)⟩
  .rw[y]
   simp only[IM,IR,Hi,f,l];omega
  .have e:(k.take ((i+1)*8)++b.drop (i*8)).length=(n+1)*8:=by rw[IM,IR,l,A];omega
   rw[y,Gw e,E]
   rfl
 clear D E C y x v r T Q L B R M A l o h1 a0 q f hv hg hN s a7 J S a6 a4;unfold maxLen at K;have a9:¬(i:Int)=(n:Int):=by omega
 have b0:¬n=i:=by omega
 have b1:¬c=i+1:=by omega
 have b2:¬c=i:=by omega
 have b3:(n:Int)+1-i=((n+1-i:Nat):Int):=by omega
 have b4:IntKind.i64.wrap ((i:Int)+1)=(i:Int)+1:=by rw[Hr];omega
 have b5:(0:Int)<=(i:Int)+1:=by omega
 have b6:((i:Int)+1).toNat=i+1:=by omega
 have b7:(i:Int)<=(n:Int)+1:=by omega
 have b8:(i:Int)<=(n:Int):=by omega
 go_enter Tryz.func181,Tryz.ntmps181
 go_wp2_with (at_builtin;go_must (first|(refine Dq _ rfl _ _ _ _ rfl _ _ (by rfl) (by rfl) _ _ (a _) ?_)|(refine Yo rfl _ _ 61 61 rfl _ _ (by rfl) (by rfl) (p _ _) ?_)))
 go_region_law (refine Yx rfl _ _ 61 61 rfl _ _ (by simp[Act.eval,Act.put]) (by simp[Act.eval,Act.put]) (F _ _ _) ?_)
 go_wp2
 go_ret;exact a1
theorem Q0(v:Value)(n i:Nat)(k d:List Value)(j:Nat)(w:World)(b:w.ownsRow 0 37 8 v n k)(q:∀ u∈k,u.oneCell'=true)(x:i<=n)
 (h:d.length=8)(f:∀ u∈d,u.oneCell'=true)(p:Blk w j d 37)(o:v.ownBlock≠some j)(a:(n+1)*72<=140737488355328) :
 Calls Tryz.prog 181 #[v,.int .i64 i,.slice (some ⟨j,0,none⟩) 1 1] w fun e t=>V3 w v.ownBlock n i k d e t:=by
 rcases Fg i n with l|s
 .rcases Yn b with⟨_,h0,_⟩|⟨g,cap,c,rfl,hg,hn,hm,hc,ht⟩
  .omega
  .have hne':j≠g:=fun e=>o (by rw[e];rfl)
   rcases Fg n cap with r|r
   .exact RZ g n cap i c k d j w hg hc ht q l r hm h f p hne'
   .have e:cap=n:=by omega
    subst e;have m:c=k:=by rw[<- ht];exact(Hn (by omega)).symm
    subst m;exact Pi g cap i c d j w hg hc q l h f p a
 .have e:i=n:=by omega
  subst e;exact OW v i k d j w b h f p a
theorem Iu:((Tryz.prog.info? 37).map fun i=>(i.zero.map (·.cells.size),i.size,i.bytes))=some (some 8,8,72):=by kernel_rfl
theorem Ub(v:Value)(n:Nat)(o:List Value)(w:World)(d:w.ownsRow 0 37 8 v n o)(F:∀ u∈o,u.oneCell'=true)(C:n*72<=140737488355328) :
 Calls Tryz.prog 75 #[v] w fun e f =>
  ∃ b,e=.returned b/\f.ownsRow 0 37 8 b n o/\Fr Nil w f/\(∀ k,b.ownBlock=some k->w.heap.size<=k):=by
 have M:∀ (w:World) (a:Option Addr) (n c:Nat),(binOp .eql 61 (.slice a n c) (.slice none 0 0)).run Tryz.prog w=.ok (.bool a.isNone) w:=fun w a n c=>by exact Lib.run_eql_slice_nil (h:=Fj) ..
 rcases Yn d with⟨rfl,rfl,rfl⟩|⟨g,r,c,rfl,D,Q,z,I,L⟩
 .go_enter Tryz.func75,Tryz.ntmps75
  go_wp2
  go_ret;exact⟨_,rfl,Hc w 0 _ _,O _ _,fun k q=>by simp[Value.ownBlock] at q⟩
 .have hl:=d.1
  have y:Blk (w.alloc (.cells #[] 37)) w.heap.size [] 37:=Blk.new w [] _;have t:(w.alloc (.cells #[] 37)).ownsRow 0 37 8 (.slice (some ⟨w.heap.size,0,none⟩) 0 0) 0 []:=ZA y (IQ _) (Hg _) (by simp) (by simp);have m:∀ j u,o[j]?=some u->(w.alloc (.cells #[] 37)).cell? ((⟨g,0,none⟩:Addr).add j)=some u:=by
   intro j u B;have J:=(Hp.1 B).1;rw[Gh,Gg,(D.alloc _).cell];rw[<- L,Gx (by omega)] at B;exact B
  have x:∀ ty,∃ b f,(Builtin.append_ #[61,61] ty #[.slice (some ⟨w.heap.size,0,none⟩) 0 0,.slice (some ⟨g,0,none⟩) n r]).run Tryz.prog (w.alloc (.cells #[] 37))=.ok b f/\App (w.alloc (.cells #[] 37)) (.slice (some ⟨w.heap.size,0,none⟩) 0 0) 37 8 (0+n) ([]++o) b f:=fun ty =>
   zt (P:=Tryz.prog) 61 ty 37 8 72 Fj Iu (by omega) _ 0 [] t ⟨g,0,none⟩ n r o hl m F (by unfold maxLen at *;omega) (by omega)
  have l:∀ b f,App (w.alloc (.cells #[] 37)) (.slice (some ⟨w.heap.size,0,none⟩) 0 0) 37 8 (0+n) ([]++o) b f ->
   ∃ p,Ending.returned b=.returned p/\f.ownsRow 0 37 8 p n o/\Fr Nil w f/\(∀ k,p.ownBlock=some k->w.heap.size<=k):=by
   rintro b f ⟨K,A,s⟩;refine⟨b,rfl,by simpa using K,((O Nil w).alloc _).trans' ((Fr.Bv A).mono (fun i _ h=>h)) (fun i N h=>?_),fun k q=>?_⟩
   .simp[Value.ownBlock] at h;omega
   .rcases s with s|s
    .rw[s] at q;simp[Value.ownBlock] at q;omega
    .rw[s] at q;simp at q;omega
  have E:=Z l;clear l m t y d D;unfold maxLen at z;go_enter Tryz.func75,Tryz.ntmps75
  go_wp2_with (at_builtin;go_must (refine zk rfl _ _ _ _ rfl _ _ (by rfl) (by rfl) (x _) ?_);rintro b f G)
  go_ret;exact E.out _ _ G
def XK(a b:Int):Int:=if a<b then -1 else if b<a then 1 else 0
theorem TC(a b:Int)(w:World) :
 Calls Tryz.prog 180 #[.int .i64 a,.int .i64 b] w fun e d=>e=.returned (.int .i64 (XK a b))/\d=w:=by
 unfold XK;by_cases c:a<b
 .rw[He c]
  go_enter Tryz.func180,Tryz.ntmps180
  go_wp2
  go_ret;exact⟨rfl,rfl⟩
 .by_cases h2:b<a
  .rw[IV c,He h2]
   go_enter Tryz.func180,Tryz.ntmps180
   go_wp2
   go_ret;exact⟨rfl,rfl⟩
  .rw[IV c,IV h2]
   go_enter Tryz.func180,Tryz.ntmps180
   go_wp2
   go_ret;exact⟨rfl,rfl⟩
def orI(a b:Int):Int:=if a=0 then b else a
theorem LO(a b:Int)(g:Nat)(w:World)(c:Blk w g [.int .i64 a,.int .i64 b] 3) :
 Calls Tryz.prog 179 #[.slice (some ⟨g,0,none⟩) 2 2] w fun e l=>e=.returned (.int .i64 (orI a b))/\Fr Nil w l:=by
 have o:w.cell? ⟨g,0,none⟩=some (.int .i64 a):=by rw[c.cell];rfl
 have p:w.cell? ⟨g,1,none⟩=some (.int .i64 b):=by rw[c.cell];rfl
 clear c;go_enter Tryz.func179,Tryz.ntmps179;go_wp2_with fail
 go_loopw [8] (fun k l=>∃ i:Nat,k=.int .i64 i/\(i=0\/i=1/\a=0\/i=2/\a=0/\b=0)/\l=w) (fun k _=>2-(intOf k).toNat)
 case atStart=>exact⟨0,rfl,.inl rfl,rfl⟩
 case round =>
  obtain⟨i,rfl,m,rfl⟩:=hrel;rcases m with rfl|⟨rfl,rfl⟩|⟨rfl,rfl,rfl⟩
  .cases ha:(a != 0) with
   | true =>
    have d:orI a b=a:=(by have j:a≠0:=(by simpa using ha);simp[orI,j]);have f:=Z d;clear d
    go_wp2
    go_ret;rw[f.out];exact⟨rfl,O _ _⟩
   | false =>
    have h:a=0:=by simpa using ha
    subst h
    go_wp2
    exact⟨⟨1,by go_num,.inr (.inl ⟨rfl,by simp⟩),by trivial⟩,by simp[intOf]⟩
  .cases c:(b != 0) with
   | true =>
    go_wp2
    go_ret;exact⟨rfl,O _ _⟩
   | false =>
    have h:b=0:=by simpa using c
    subst h
    go_wp2
    exact⟨⟨2,by go_num,.inr (.inr ⟨rfl,by simp,by simp⟩),by trivial⟩,by simp[intOf]⟩
  .go_wp2
   go_ret;exact⟨rfl,O _ _⟩
def Ver.dot(v:Ver):Int × Int:=(v.node,v.seq)
def SJ(a b:Int × Int):Int:=orI (XK a.1 b.1) (XK a.2 b.2)
def zy(a b:Int × Int):Bool:=decide (a.1<b.1\/a.1=b.1/\a.2<b.2)
theorem Y6:Strict zy where
 yI a:=by simp[zy]
 trans a b c h1 h2:=by simp only[zy,Ha] at *;omega
 yO a b h1 h2:=by
  obtain⟨d,e⟩:=a;obtain⟨f,g⟩:=b;simp only[zy,Ha,Ho] at *;have:¬(d=f/\e=g):=fun h=>h2 (by rw[h.1,h.2]);omega
theorem Pj{a b:Int × Int}:SJ a b<0↔zy a b=true:=by
 simp only[SJ,orI,XK,zy,Ha];split <;> split <;> (try split) <;> (try split) <;> omega
theorem UJ(u:Ver)(n s:Int)(w:World) :
 Calls Tryz.prog 178 #[.agg u.cells.toArray,.agg #[.int .i64 n,.int .i64 s]] w fun e f=>e=.returned (.int .i64 (SJ u.dot (n,s)))/\Fr Nil w f:=by
 obtain⟨node,b,k,l,m,o,a,gone⟩:=u;simp only[Ver.cells,Ver.dot,SJ];go_enter Tryz.func178,Tryz.ntmps178;go_wp2_with fail;have d:Blk ((w.alloc (.cells #[.int .i64 node,.int .i64 b,.int .i64 k,.int .i64 l,.int .i64 m,.int .i64 o,.string a,.bool gone] 37)).alloc (.cells #[.int .i64 n,.int .i64 s] 34)) w.heap.size [.int .i64 node,.int .i64 b,.int .i64 k,.int .i64 l,.int .i64 m,.int .i64 o,.string a,.bool gone] 37 :=
  (Blk.new w [.int .i64 node,.int .i64 b,.int .i64 k,.int .i64 l,.int .i64 m,.int .i64 o,.string a,.bool gone] _).alloc _
 have c:Blk ((w.alloc (.cells #[.int .i64 node,.int .i64 b,.int .i64 k,.int .i64 l,.int .i64 m,.int .i64 o,.string a,.bool gone] 37)).alloc (.cells #[.int .i64 n,.int .i64 s] 34)) (w.heap.size+1) [.int .i64 n,.int .i64 s] 34:=by
  have:=Blk.new (w.alloc (.cells #[.int .i64 node,.int .i64 b,.int .i64 k,.int .i64 l,.int .i64 m,.int .i64 o,.string a,.bool gone] 37)) [.int .i64 n,.int .i64 s] 34
  simpa using this
 have h:Fr Nil w ((w.alloc (.cells #[.int .i64 node,.int .i64 b,.int .i64 k,.int .i64 l,.int .i64 m,.int .i64 o,.string a,.bool gone] 37)).alloc (.cells #[.int .i64 n,.int .i64 s] 34)):=((O _ _).alloc _).alloc _;generalize (w.alloc (.cells #[.int .i64 node,.int .i64 b,.int .i64 k,.int .i64 l,.int .i64 m,.int .i64 o,.string a,.bool gone] 37)).alloc (.cells #[.int .i64 n,.int .i64 s] 34)=p at d c h |-;generalize w.heap.size=N at d c |-;have C:p.cell? ⟨N,0,none⟩=some (.int .i64 node):=by rw[d.cell];rfl
 have D:p.cell? ⟨N,1,none⟩=some (.int .i64 b):=by rw[d.cell];rfl
 have E:p.cell? ⟨N+1,0,none⟩=some (.int .i64 n):=by rw[c.cell];rfl
 have F:p.cell? ⟨N+1,1,none⟩=some (.int .i64 s):=by rw[c.cell];rfl
 have t:Hid (∀ f,Fr Nil p f->f.cell? ⟨N,0,none⟩=some (.int .i64 node)/\f.cell? ⟨N,1,none⟩=some (.int .i64 b)/\f.cell? ⟨N+1,0,none⟩=some (.int .i64 n)/\f.cell? ⟨N+1,1,none⟩=some (.int .i64 s)):=by
  intro f x;have y:=(d.fr x id).cell;have v:=(c.fr x id).cell;exact⟨by rw[y];rfl,by rw[y];rfl,by rw[v];rfl,by rw[v];rfl⟩
 clear d c
 go_region_held3 (fun f=>f.cell? ⟨N,0,none⟩=some (.int .i64 node)/\f.cell? ⟨N,1,none⟩=some (.int .i64 b)/\f.cell? ⟨N+1,0,none⟩=some (.int .i64 n)/\f.cell? ⟨N+1,1,none⟩=some (.int .i64 s)) (first|assumption|exact t.out _ za)
  (first
  | (go_at_call 179;refine(LO _ _ _ _ (by exact Blk.new _ [_,_] _)).mono ?_;rintro e z ⟨rfl,q⟩;have g:Fr Nil p z:=Fr.trans za q;have B:=t.out z g)
  | (go_at_call 180;refine(TC _ _ _).mono ?_;rintro e G ⟨rfl,r⟩;subst r))
 have A:=Z (h.trans g);clear h g q
 go_wp2
 go_ret;exact⟨rfl,A.out⟩
def Yl(l:List Ver):Prop:=Asc zy (l.map Ver.dot)
theorem Yl.get{l:List Ver}(h:Yl l){i j:Nat}(c:i<j)(d:j<l.length):zy (l[i]'(DO c d)).dot l[j].dot=true:=by
 have:=Asc.get h (i:=i) (j:=j) c (by simpa using d)
 rwa [Gf,Gf] at this
theorem Q3(lv:Value)(l:List Ver)(n s:Int)(hs:Yl l)(b2:l.length<1000000)(w:World)(u:VRow w lv l) :
 Calls Tryz.prog 177 #[lv,.agg #[.int .i64 n,.int .i64 s],.func (.func 178) #[] #[]] w fun e c =>
  ∃ b:Bool,e=.returned (.tuple #[.int .i64 (low zy (l.map Ver.dot) (n,s)),.bool b])/\Fr Nil w c:=by
 obtain⟨a,R,rfl⟩:=zc u;have HL:=Z u;clear u;have B:Blk (w.alloc (.cells #[.int .i64 n,.int .i64 s] 34)) w.heap.size [.int .i64 n,.int .i64 s] 34:=Blk.new w [.int .i64 n,.int .i64 s] _;have y:Fr Nil w (w.alloc (.cells #[.int .i64 n,.int .i64 s] 34)):=(O _ _).alloc _;go_enter Tryz.func177,Tryz.ntmps177
 go_wp2
 generalize w.alloc (.cells #[.int .i64 n,.int .i64 s] 34)=w0 at B y |-;generalize w.heap.size=N at B |-
 go_loopw [9,10] (fun ti tj c=>∃ i j:Nat,i<=j/\j<=l.length/\ti=.int .i64 i/\tj=.int .i64 j/\(∀ k (r:k<l.length),k<i->zy l[k].dot (n,s)=true)/\(∀ k (r:k<l.length),j<=k->zy l[k].dot (n,s)=false)/\Fr Nil w0 c) (fun ti tj _=>(intOf tj).toNat-(intOf ti).toNat)
 case atStart=>exact⟨0,l.length,Hg _,IQ _,rfl,rfl,fun k _ r=>absurd r (Gb _),fun k r b0=>absurd r (by omega),O _ _⟩
 case round =>
  obtain⟨i,j,V,hj,rfl,rfl,h1,h2,D⟩:=hrel;by_cases b1:i<j
  .obtain⟨g,rfl⟩:∃ g,a=some ⟨g,0,none⟩:=by
    obtain⟨g,R,h,_⟩:=zm HL.out (by omega);simp at h;exact⟨g,h.1⟩
   have hm:(i+j) / 2<l.length:=by omega
   have L:Hid (∀ c,Fr Nil wr c->∀ k,k<8->c.cell? ⟨g,(i+j) / 2*8+k,none⟩=l[(i+j) / 2].cells[k]?):=fun c f k r=>VRow.cells (zb (S:=Nil) HL.out ((y.trans D).trans f) (fun _ _=>id)) _ hm k r;have HX:Hid (∀ c,Fr Nil wr c->c.cell? ⟨N,0,none⟩=some (.int .i64 n)/\c.cell? ⟨N,1,none⟩=some (.int .i64 s)):=by
    intro c f;have X:=((B.fr D id).fr f id).cell;exact⟨by rw[X];rfl,by rw[X];rfl⟩
   have H1:=Z h1;have H2:=Z h2;clear h1 h2;have a3:(i:Int)<=1000000:=by omega
   have a4:(j:Int)<=1000000:=by omega
   have a5:(i:Int)+j<=9223372036854775807:=by omega
   have hq:(((i:Int)+j) / 2).toNat=(i+j) / 2:=by omega
   have p:Hid (zy l[(i+j) / 2].dot (n,s)=true->∀ k (r:k<l.length),k<(i+j) / 2+1->zy l[k].dot (n,s)=true):=by
    intro u k r M;by_cases e:k=(i+j) / 2
    .subst e;exact u
    .exact Y6.trans _ _ _ (hs.get (i:=k) (j:=(i+j) / 2) (by omega) hm) u
   have q:Hid (zy l[(i+j) / 2].dot (n,s)=false->∀ k (r:k<l.length),(i+j) / 2<=k->zy l[k].dot (n,s)=false):=by
    intro u k r M;by_cases e:k=(i+j) / 2
    .subst e;exact u
    .cases hk2:zy l[k].dot (n,s) with
     | false=>rfl
     | true =>
      have:=Y6.trans _ _ _ (hs.get (i:=(i+j) / 2) (j:=k) (by omega) r) hk2;rw[u] at this;cases this
   generalize l[(i+j) / 2]=x at L p q;obtain⟨node,o,F,G,I,J,d,gone⟩:=x;have Q:=Z (UJ ⟨node,o,F,G,I,J,d,gone⟩ n s);simp only[Ver.cells,Ver.dot] at L p q Q;have A:Hid (∀ c,Fr Nil wr c->c.cell? ⟨g,(i+j) / 2*8,none⟩=some (.int .i64 node)/\c.cell? ⟨g,(i+j) / 2*8+1,none⟩=some (.int .i64 o)/\c.cell? ⟨g,(i+j) / 2*8+2,none⟩=some (.int .i64 F)/\c.cell? ⟨g,(i+j) / 2*8+3,none⟩=some (.int .i64 G)/\c.cell? ⟨g,(i+j) / 2*8+4,none⟩=some (.int .i64 I)/\c.cell? ⟨g,(i+j) / 2*8+5,none⟩=some (.int .i64 J)/\c.cell? ⟨g,(i+j) / 2*8+6,none⟩=some (.string d)/\c.cell? ⟨g,(i+j) / 2*8+7,none⟩=some (.bool gone)/\c.cell? ⟨N,0,none⟩=some (.int .i64 n)/\c.cell? ⟨N,1,none⟩=some (.int .i64 s)):=by
    intro c f;have t:=L.out c f;have T:=HX.out c f;exact⟨t 0 (by omega),t 1 (by omega),t 2 (by omega),t 3 (by omega),t 4 (by omega),t 5 (by omega),t 6 (by omega),t 7 (by omega),T.1,T.2⟩
   have hS:=A.out wr (O _ _);clear V;have a6:(0:Int)<=((i:Int)+j) / 2:=by omega
   have a7:((i:Int)+j) / 2<l.length:=by omega
   cases u:zy (node,o) (n,s) with
   | true =>
    have a0:SJ (node,o) (n,s)<0:=Pj.2 u;have H3:=Z (p.out u);clear u;go_wp2_with fail
    go_region_held3 (fun c=>c.cell? ⟨g,(i+j) / 2*8,none⟩=some (.int .i64 node)/\c.cell? ⟨g,(i+j) / 2*8+1,none⟩=some (.int .i64 o)/\c.cell? ⟨g,(i+j) / 2*8+2,none⟩=some (.int .i64 F)/\c.cell? ⟨g,(i+j) / 2*8+3,none⟩=some (.int .i64 G)/\c.cell? ⟨g,(i+j) / 2*8+4,none⟩=some (.int .i64 I)/\c.cell? ⟨g,(i+j) / 2*8+5,none⟩=some (.int .i64 J)/\c.cell? ⟨g,(i+j) / 2*8+6,none⟩=some (.string d)/\c.cell? ⟨g,(i+j) / 2*8+7,none⟩=some (.bool gone)/\c.cell? ⟨N,0,none⟩=some (.int .i64 n)/\c.cell? ⟨N,1,none⟩=some (.int .i64 s)) (first|assumption|exact A.out _ za)
     (first
     | (go_at_call 178;refine(Q.out _).mono ?_;rintro e K ⟨rfl,z⟩;have m:Fr Nil wr K:=Fr.trans za z;have Y:=A.out K m))
    go_wp2
    exact⟨⟨(i+j) / 2+1,j,by omega,hj,by go_num,rfl,H3.out,H2.out,D.trans m⟩,by simp[intOf];omega⟩
   | false =>
    have a0:¬SJ (node,o) (n,s)<0:=by rw[Pj];simp[u]
    have H3:=Z (q.out u);clear u;go_wp2_with fail
    go_region_held3 (fun c=>c.cell? ⟨g,(i+j) / 2*8,none⟩=some (.int .i64 node)/\c.cell? ⟨g,(i+j) / 2*8+1,none⟩=some (.int .i64 o)/\c.cell? ⟨g,(i+j) / 2*8+2,none⟩=some (.int .i64 F)/\c.cell? ⟨g,(i+j) / 2*8+3,none⟩=some (.int .i64 G)/\c.cell? ⟨g,(i+j) / 2*8+4,none⟩=some (.int .i64 I)/\c.cell? ⟨g,(i+j) / 2*8+5,none⟩=some (.int .i64 J)/\c.cell? ⟨g,(i+j) / 2*8+6,none⟩=some (.string d)/\c.cell? ⟨g,(i+j) / 2*8+7,none⟩=some (.bool gone)/\c.cell? ⟨N,0,none⟩=some (.int .i64 n)/\c.cell? ⟨N,1,none⟩=some (.int .i64 s)) (first|assumption|exact A.out _ za)
     (first
     | (go_at_call 178;refine(Q.out _).mono ?_;rintro e K ⟨rfl,z⟩;have m:Fr Nil wr K:=Fr.trans za z;have Y:=A.out K m))
    go_wp2
    exact⟨⟨i,(i+j) / 2,by omega,by omega,rfl,by go_num,H1.out,H3.out,D.trans m⟩,by simp[intOf];omega⟩
  .have he:i=j:=by omega
   subst he;have E:low zy (l.map Ver.dot) (n,s)=i:=U4 zy _ _ i (by simpa using hj) (fun k r M=>by rw[Gf];exact h1 k (by simpa using r) M) (fun r=>by rw[Gf];exact h2 i (by simpa using r) (IQ _));have C:=Z E;clear E h1 h2 V;by_cases a2:i<l.length
   .obtain⟨g,rfl⟩:∃ g,a=some ⟨g,0,none⟩:=by
     obtain⟨g,R,h,_⟩:=zm HL.out (by omega);simp at h;exact⟨g,h.1⟩
    have L:Hid (∀ c,Fr Nil wr c->∀ k,k<8->c.cell? ⟨g,i*8+k,none⟩=l[i].cells[k]?):=fun c f k r=>VRow.cells (zb (S:=Nil) HL.out ((y.trans D).trans f) (fun _ _=>id)) _ a2 k r;have HX:Hid (∀ c,Fr Nil wr c->c.cell? ⟨N,0,none⟩=some (.int .i64 n)/\c.cell? ⟨N,1,none⟩=some (.int .i64 s)):=by
     intro c f;have X:=((B.fr D id).fr f id).cell;exact⟨by rw[X];rfl,by rw[X];rfl⟩
    generalize l[i]=x at L;obtain⟨node,o,F,G,I,J,d,gone⟩:=x;have Q:=Z (UJ ⟨node,o,F,G,I,J,d,gone⟩ n s);simp only[Ver.cells,Ver.dot] at L Q;have A:Hid (∀ c,Fr Nil wr c->c.cell? ⟨g,i*8,none⟩=some (.int .i64 node)/\c.cell? ⟨g,i*8+1,none⟩=some (.int .i64 o)/\c.cell? ⟨g,i*8+2,none⟩=some (.int .i64 F)/\c.cell? ⟨g,i*8+3,none⟩=some (.int .i64 G)/\c.cell? ⟨g,i*8+4,none⟩=some (.int .i64 I)/\c.cell? ⟨g,i*8+5,none⟩=some (.int .i64 J)/\c.cell? ⟨g,i*8+6,none⟩=some (.string d)/\c.cell? ⟨g,i*8+7,none⟩=some (.bool gone)/\c.cell? ⟨N,0,none⟩=some (.int .i64 n)/\c.cell? ⟨N,1,none⟩=some (.int .i64 s)):=by
     intro c f;have t:=L.out c f;have T:=HX.out c f;exact⟨t 0 (by omega),t 1 (by omega),t 2 (by omega),t 3 (by omega),t 4 (by omega),t 5 (by omega),t 6 (by omega),t 7 (by omega),T.1,T.2⟩
    have hS:=A.out wr (O _ _);have a1:decide ((i:Int)<(l.length:Int))=true:=by simp;omega
    have a8:(i:Int)<(l.length:Int):=by omega
    have a9:(0:Int)<=(i:Int):=by omega
    go_wp2_with fail
    go_region_held3 (fun c=>c.cell? ⟨g,i*8,none⟩=some (.int .i64 node)/\c.cell? ⟨g,i*8+1,none⟩=some (.int .i64 o)/\c.cell? ⟨g,i*8+2,none⟩=some (.int .i64 F)/\c.cell? ⟨g,i*8+3,none⟩=some (.int .i64 G)/\c.cell? ⟨g,i*8+4,none⟩=some (.int .i64 I)/\c.cell? ⟨g,i*8+5,none⟩=some (.int .i64 J)/\c.cell? ⟨g,i*8+6,none⟩=some (.string d)/\c.cell? ⟨g,i*8+7,none⟩=some (.bool gone)/\c.cell? ⟨N,0,none⟩=some (.int .i64 n)/\c.cell? ⟨N,1,none⟩=some (.int .i64 s)) (first|assumption|exact A.out _ za)
     (first
     | (go_at_call 178;refine(Q.out _).mono ?_;rintro e K ⟨rfl,z⟩;have m:Fr Nil wr K:=Fr.trans za z;have Y:=A.out K m))
    go_wp2
    go_ret2;rw[C.out];exact⟨_,rfl,(y.trans D).trans m⟩
   .have a1:decide ((i:Int)<(l.length:Int))=false:=by simp;omega
    go_wp2_with fail
    go_quiet (fail)
    go_wp2
    go_ret2;rw[C.out];exact⟨_,rfl,Fr.drewN (y.trans D) _⟩
def YR(l:List Ver)(v:Ver):List Ver:=l.take (low zy (l.map Ver.dot) v.dot)++[v]++l.drop (low zy (l.map Ver.dot) v.dot)
theorem Mw(l:List Ver)(i:Nat):(zU l).take (i*8)=zU (l.take i):=by
 rcases EU i l.length with h|h
 .have e:=YJ (l.take i) (l.drop i)
  rw[Ge] at e;rw[e];exact Gw (by rw[Xu,IR,Gv h])
 .rw[Hn h,Hn (by rw[Xu];omega)]
theorem Mx(l:List Ver)(i:Nat):(zU l).drop (i*8)=zU (l.drop i):=by
 rcases EU i l.length with h|h
 .have e:=YJ (l.take i) (l.drop i)
  rw[Ge] at e;rw[e];exact CG (by rw[Xu,IR,Gv h])
 .rw[Gy h,Gy (by rw[Xu];omega)]
  rfl
theorem My(l:List Ver)(v:Ver):Y5 8 (low zy (l.map Ver.dot) v.dot) (zU l) v.cells=zU (YR l v):=by
 unfold Y5 YR;rw[Mw,Mx,YJ,YJ];simp[zU]
theorem Uc(l:List Ver)(v:Ver):(YR l v).length=l.length+1:=by
 have:=Vd zy (l.map Ver.dot) v.dot;simp only[Hy] at this;simp only[YR,IM,IR,Hi,IU];omega
theorem V3.row{a r w':World}{q:Value}{l:List Ver}{v:Ver}{e:Ending}(h:V3 r q.ownBlock l.length (low zy (l.map Ver.dot) v.dot) (zU l) v.cells e w')(d:Fr Nil a r)(j:∀ k,q.ownBlock=some k->a.heap.size<=k) :
 ∃ c,e=.returned c/\VRow w' c (YR l v)/\Fr Nil a w'/\(∀ k,c.ownBlock=some k->a.heap.size<=k):=by
 obtain⟨g,s,rfl,o,b,t⟩:=h;rw[My] at o;refine⟨_,rfl,?_,d.trans' b (fun i u h=>absurd (j i h) (by omega)),fun k f=>?_⟩
 .unfold VRow
  rw[Uc];exact o
 .simp[Value.ownBlock] at f
  subst f;rcases t with h|h
  .exact j _ h
  .have:=d.size;omega
theorem Mz(G:Value)(l:List Ver)(v:Ver)(hs:Yl l)(X:l.length<1000000)(w:World)(V:VRow w G l) :
 Calls Tryz.prog 142 #[G,.agg v.cells.toArray] w fun e d=>∃ Y,e=.returned Y/\VRow d Y (YR l v)/\Fr Nil w d/\(∀ k,Y.ownBlock=some k->w.heap.size<=k):=by
 obtain⟨node,c,h,i,j,m,a,gone⟩:=v;have x:=Vd zy (l.map Ver.dot) (node,c);simp only[Hy] at x;have K:=Z x;clear x;have hb:Blk (w.alloc (.cells #[.int .i64 node,.int .i64 c,.int .i64 h,.int .i64 i,.int .i64 j,.int .i64 m,.string a,.bool gone] 37)) w.heap.size [.int .i64 node,.int .i64 c,.int .i64 h,.int .i64 i,.int .i64 j,.int .i64 m,.string a,.bool gone] 37:=Blk.new w [.int .i64 node,.int .i64 c,.int .i64 h,.int .i64 i,.int .i64 j,.int .i64 m,.string a,.bool gone] _;have t:Fr Nil w (w.alloc (.cells #[.int .i64 node,.int .i64 c,.int .i64 h,.int .i64 i,.int .i64 j,.int .i64 m,.string a,.bool gone] 37)):=(O _ _).alloc _;simp only[Ver.cells];have HS:=Z (Q3 G l node c hs X _ (VRow.fr V t (fun _ _=>id)));have HL:=Z V;clear V hs;go_enter Tryz.func142,Tryz.ntmps142;go_wp2_with fail;refine HS.out.mono ?_;rintro e o ⟨b,rfl,u⟩;have s:=hb.fr u id;have g:=t.trans u;clear hb t HS u;go_wp2_with fail;generalize w.heap.size=N at s |-;have I:Hid (∀ d,Fr Nil o d->d.cell? ⟨N,0,none⟩=some (.int .i64 node)/\d.cell? ⟨N,1,none⟩=some (.int .i64 c)/\d.cell? ⟨N,2,none⟩=some (.int .i64 h)/\d.cell? ⟨N,3,none⟩=some (.int .i64 i)/\d.cell? ⟨N,4,none⟩=some (.int .i64 j)/\d.cell? ⟨N,5,none⟩=some (.int .i64 m)/\d.cell? ⟨N,6,none⟩=some (.string a)/\d.cell? ⟨N,7,none⟩=some (.bool gone)):=by
  intro d f;have r:=(s.fr f id).cell;exact⟨by rw[r];rfl,by rw[r];rfl,by rw[r];rfl,by rw[r];rfl,by rw[r];rfl,by rw[r];rfl,by rw[r];rfl,by rw[r];rfl⟩
 have hK:=I.out o (O _ _);have J:Hid (∀ d,Fr Nil o d->VRow d G l):=fun d f=>VRow.fr HL.out (g.trans f) (fun _ _=>id);clear s
 go_region_held3 (fun d=>d.cell? ⟨N,0,none⟩=some (.int .i64 node)/\d.cell? ⟨N,1,none⟩=some (.int .i64 c)/\d.cell? ⟨N,2,none⟩=some (.int .i64 h)/\d.cell? ⟨N,3,none⟩=some (.int .i64 i)/\d.cell? ⟨N,4,none⟩=some (.int .i64 j)/\d.cell? ⟨N,5,none⟩=some (.int .i64 m)/\d.cell? ⟨N,6,none⟩=some (.string a)/\d.cell? ⟨N,7,none⟩=some (.bool gone)) (first|assumption|exact I.out _ za)
  (first
  | (go_at_call 181;refine(Q0 v2 l.length (low zy (l.map Ver.dot) (node,c)) (zU l) [.int .i64 node,.int .i64 c,.int .i64 h,.int .i64 i,.int .i64 j,.int .i64 m,.string a,.bool gone] _ _ (zb (S:=Nil) z.out za (fun _ _=>id)) (XW l) K.out rfl (XW [⟨node,c,h,i,j,m,a,gone⟩]) (by first|exact F|exact F.drew|exact Blk.new _ [_,_,_,_,_,_,_,_] _|exact(Blk.new _ [_,_,_,_,_,_,_,_] _).drew) (by first|exact Q.out|exact(fun e=>absurd (zC z.out e) (by simp))) (by omega)).mono ?_;rintro e w3 hI;have HI:=Z hI;clear hI;obtain⟨v3,rfl,E,B,C⟩:=V3.row (v:=⟨node,c,h,i,j,m,a,gone⟩) HI.out (show Fr Nil o _ from q.trans za) L.out;have a1:=I.out w3 B;have R:=Z E;have M:=Z C;clear E C)
  | (go_at_call 75;refine(Ub G l.length (zU l) _ (J.out _ za) (XW l) (by omega)).mono ?_;rintro e w2 ⟨v2,rfl,D,A,y⟩;have q:Fr Nil o w2:=Fr.trans za A;have a0:=I.out w2 q;have z:=Z D;(try (have F:Blk w2 o.heap.size [.int .i64 node,.int .i64 c,.int .i64 h,.int .i64 i,.int .i64 j,.int .i64 m,.string a,.bool gone] 37:=Blk.fr (S:=Nil) ((Blk.new o [.int .i64 node,.int .i64 c,.int .i64 h,.int .i64 i,.int .i64 j,.int .i64 m,.string a,.bool gone] 37).drew) A id;have Q:Hid (v2.ownBlock≠some o.heap.size):=(fun e=>absurd (y _ e) (by simp))));have L:Hid (∀ k,v2.ownBlock=some k->o.heap.size<=k):=(fun k T=>IP (Fr.size (S:=Nil) za) (y k T));clear D y))
 all_goals
  go_wp2
  go_ret;exact⟨_,rfl,R.out,g.trans B,fun k T=>IP g.size (M.out k T)⟩
end Go.Proofs.YtkhnggkkiefcdaaGreatDoor
