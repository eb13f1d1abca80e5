/- larder: joined texts -/
import Derived.Test.YtkhnggkkiefcdaaGreatDoorSFAB
import Derived.Test.YtkhnggkkiefcdaaGreatDoorSFAG
import Derived.Test.YtkhnggkkiefcdaaGreatDoorSFAL
import Derived.Laws.Rows
namespace Go.Proofs.YtkhnggkkiefcdaaGreatDoor
open Go.RowKit
set_option maxRecDepth 100000
set_option maxHeartbeats 8000000
theorem MK(K:Nat->Prop)(B:Nat)(L:WL)(W:WM)(X:NL)(N:NM)(M:DM)(o:OpM)(w:World)(h:Play K B w L W X N M)(hk:o.kind=10)(hp:0<L.ps.length)(hl:L.ps.length<1000000)
 (m:LM)(hm:W.st[L.ps.length-1]?=some m)(V:N.readOnly=W.broken)(Q:N.S.keys.length=m.keys.length)(J:N.S.hints.length=m.hints.length) :
 Calls Tryz.prog 65 #[.pointer (some ⟨L.wb,0,none⟩),.agg o.cells.toArray] w fun e w'=>e=.returned (.bool true)/\PStep K B L X M w K L W X N M w':=by
 obtain⟨a6,a,b,c,key,g,v,d⟩:=o;simp only at hk |-;subst hk;simp only[OpM.cells,Ver.cells,IY,Hd];have f1:Fr Nil w (w.alloc (.cells #[.int .i64 10,.int .i64 a,.int .i64 b,.int .i64 c,.string key,.string g,.int .i64 v.node,.int .i64 v.seq,.int .i64 v.o0,.int .i64 v.o1,.int .i64 v.o2,.int .i64 v.o3,.string v.value,.bool v.gone,d] 39)):=(O _ _).alloc _;have t:=Blk.new w [.int .i64 10,.int .i64 a,.int .i64 b,.int .i64 c,.string key,.string g,.int .i64 v.node,.int .i64 v.seq,.int .i64 v.o0,.int .i64 v.o1,.int .i64 v.o2,.int .i64 v.o3,.string v.value,.bool v.gone,d] 39;have HC:=Z (fun i (f:Fr Nil w i)=>zB i L.db X.LD M ((h.marks).nil f));have a1:=Z (fun i (f:Fr Nil w i)=>UL X N M i (h.node.nil f));have l:=Z (fun i (f:Fr Nil w i)=>Zx K L W i (h.Bi.nil f) hp (by omega));have S:L.ps.length=W.st.length:=h.Bi.Ao;have R:W.st[L.ps.length-1]'(by omega)=m:=by rw[IW (by omega)] at hm;exact Hl hm
 have j:=(h.Bi.last hp).2;simp only[R] at j;obtain⟨q,T⟩:∃ q,q=L.ps[L.ps.length-1]:=⟨_,rfl⟩;rw[<- T] at j l;obtain⟨kv,hv,D,E,a2⟩:=j;have I:D.length=m.keys.length:=E.pair.length;obtain⟨ka,kc,rfl⟩:=zc E.Ah;obtain⟨ja,jc,rfl⟩:=zc E.hint;have C:=Z E.CY;have x:∀ i,Fr Nil w i->∀ k,i.cell? ⟨L.wb,k,none⟩=(W.cells L)[k]?:=fun i f=>(h.Bi.nil f).CY.cell;have z:=Z x;have G:=x _ f1;simp only[WM.cells,h.nv] at G;have a3:=t.cell;have p:=Z f1;have a0:=Z t;have HH:=Z h;rw[I] at C;clear h f1 t R T E x I a2;go_enter DX,DP
 go_wp2_with (refine(HC.out _ p.out).mono ?_;rintro e i ⟨rfl,a5⟩;subst i)
 refine(l.out _ p.out).mono ?_;rintro e w2 ⟨rfl,n2,b0⟩;subst w2;have s:Fr Nil w ((w.alloc (.cells #[.int .i64 10,.int .i64 a,.int .i64 b,.int .i64 c,.string key,.string g,.int .i64 v.node,.int .i64 v.seq,.int .i64 v.o0,.int .i64 v.o1,.int .i64 v.o2,.int .i64 v.o3,.string v.value,.bool v.gone,d] 39)).drewN n2):=p.out.drewN n2;have u:=z.out _ s;simp only[WM.cells,HH.out.nv] at u;have Y:∀ k,((w.alloc (.cells #[.int .i64 10,.int .i64 a,.int .i64 b,.int .i64 c,.string key,.string g,.int .i64 v.node,.int .i64 v.seq,.int .i64 v.o0,.int .i64 v.o1,.int .i64 v.o2,.int .i64 v.o3,.string v.value,.bool v.gone,d] 39)).drewN n2).cell? ⟨w.heap.size,k,none⟩=_:=(a0.out.drewN n2).cell;have r:=Z s;clear G a3 s;generalize (w.alloc (.cells #[.int .i64 10,.int .i64 a,.int .i64 b,.int .i64 c,.string key,.string g,.int .i64 v.node,.int .i64 v.seq,.int .i64 v.o0,.int .i64 v.o1,.int .i64 v.o2,.int .i64 v.o3,.string v.value,.bool v.gone,d] 39)).drewN n2=w2 at u Y r |-;go_wp2_with fail;refine(a1.out _ r.out).mono ?_;rintro e y ⟨rfl,f3⟩;rw[V,Q,J];have F:=Blk.new y [.bool W.broken,.int .i64 m.keys.length,.int .i64 m.hints.length] 81;have f4:Fr Nil w (y.alloc (.cells #[.bool W.broken,.int .i64 m.keys.length,.int .i64 m.hints.length] 81)):=(r.out.trans f3).alloc _;have a4:∀ n k,((y.alloc (.cells #[.bool W.broken,.int .i64 m.keys.length,.int .i64 m.hints.length] 81)).drewN n).cell? ⟨L.wb,k,none⟩=(W.cells L)[k]?:=fun n=>z.out _ (f4.drewN n);have a9:∀ n k,((y.alloc (.cells #[.bool W.broken,.int .i64 m.keys.length,.int .i64 m.hints.length] 81)).drewN n).cell? ⟨y.heap.size,k,none⟩=[Value.bool W.broken,.int .i64 m.keys.length,.int .i64 m.hints.length][k]?:=fun n=>(F.drewN n).cell;have a8:∀ n k,((y.alloc (.cells #[.bool W.broken,.int .i64 m.keys.length,.int .i64 m.hints.length] 81)).drewN n).cell? ⟨q,k,none⟩=_:=fun n=>(C.out.fr (f4.drewN n) (fun e=>e)).cell;have A:=Z f4;simp only[WM.cells] at a4;clear u Y f4 f3 F V Q J S hm;generalize m.keys.length=kl at *;generalize m.hints.length=a7 at *;generalize W.broken=br at *;cases br
 all_goals
  go_wp2_with fail
  go_quiet (fail)
  go_wp2_with fail;refine(HC.out _ (A.out.drewN _)).mono ?_;rintro e i ⟨rfl,a5⟩;subst i;go_wp2_with fail;go_ret;exact⟨rfl,HH.out.nil (A.out.drewN _)⟩
theorem N7(v:Value)(l:List Int)(k:Int)(w:World)(h:w.ownsRow 0 3 1 v l.length (l.map (.int .i64 ·)))(B:l.length<1000000000) :
 Calls Tryz.prog 48 #[v,.int .i64 k] w fun e p=>e=.returned (.bool (decide (k∈l)))/\Fr Nil w p:=by
 obtain⟨D,E,rfl⟩:=zc h;have f:=Z h;clear h;generalize t:l.length=n at B f |-;have q:=Z t;clear t;go_enter Tryz.func48,Tryz.ntmps48;go_wp2_with fail
 go_loopw [5] (fun o p=>∃ i:Nat,i<=n/\o=.int .i64 i/\(∀ j (F:j<l.length),j<i->¬l[j]=k)/\Fr Nil w p) (fun o _=>n-(intOf o).toNat)
 case atStart=>exact⟨0,by omega,rfl,fun j _ h=>absurd h (Gb _),O _ _⟩
 case round =>
  obtain⟨i,G,rfl,hs,d⟩:=hrel;have y:=Z hs;have g:=Z d;by_cases C:i<n
  .have hi1:i<l.length:=by have:=q.out;omega
   obtain⟨A,z,r,_,_⟩:=zm f.out (by omega);simp only[EL] at r;obtain⟨rfl,-,-⟩:=r;have c:wr.cell? ⟨A,i,none⟩=some (.int .i64 l[i]):=by
    have:=own_cell? (zb f.out d (fun _ _=>id)) i (.int .i64 l[i]) (by simp[hi1])
    simpa using this
   clear hs d;by_cases b:l[i]=k
   .have HR:=Z (show decide (k∈l)=true by simp only[Ha];rw[<- b];exact IX hi1)
    rw[b] at c;have m:(k==k)=true:=by simp
    clear b;go_wp2_with fail;go_ret;exact⟨by rw[HR.out];rfl,g.out⟩
   .have HK:=Z b
    obtain⟨x,u⟩:∃ x,x=l[i]:=⟨_,rfl⟩;rw[<- u] at c b;have m:(x==k)=false:=by simp[b]
    clear u;go_wp2_with fail;refine⟨⟨i+1,by omega,by push_cast;rfl,fun j a s=>?_,g.out⟩,by simp[intOf];omega⟩;by_cases e:j=i
    .subst e;exact HK.out
    .exact y.out j a (by omega)
  .have HR:=Z (show decide (k∈l)=false by
    simp only[Ho];intro hm;obtain⟨j,s,e⟩:=GF hm;exact hs j s (by have:=q.out;omega) e)
   clear hs d;go_wp2_with fail;go_ret;exact⟨by rw[HR.out];rfl,g.out⟩
def Yz(c:Int):Int:=if c<0 then 1152921504606846976 else c
def WM.CX(node c e h:Int)(a:Nat):WM:=⟨node,c,e,h,false,false,0,0,0,0,0,a,0,[⟨node,[],[]⟩],⟨[],[],[],[],[],[]⟩⟩
def WL.CX(a:Nat):WL:=⟨a+1,a,.pointer none,.slice (some ⟨a+3,0,none⟩) 1 1,.slice none 0 0,[a+2],.slice none 0 0,.slice none 0 0,.slice none 0 0,.slice none 0 0,.slice none 0 0,.slice none 0 0⟩
theorem ML(d:World)(a:Nat)(node c r s:Int)(b:Nat)(D:Blk d (a+1) [.int .i64 node,.int .i64 c,.int .i64 r,.int .i64 s,.pointer (some ⟨a,0,none⟩),.pointer none,.slice none 0 0,.bool false,.bool false,.int .i64 0,.int .i64 0,.int .i64 0,.int .i64 0,.int .i64 0,.slice none 0 0,.int .i64 0,.int .i64 0,.slice none 0 0,.slice none 0 0,.slice none 0 0,.slice none 0 0,.slice none 0 0,.slice none 0 0] 49)(hs:d.heap.size=a+2) :
 WAt (fun k=>k=a+2) ((((d.alloc (.cells #[.int .i64 node,.slice none 0 0,.slice none 0 0] 107)).alloc (.cells #[.pointer (some ⟨a+2,0,none⟩)] 104)).setCell ⟨a+1,6,none⟩ (.slice (some ⟨a+3,0,none⟩) 1 1)).setCell ⟨a+1,15,none⟩ (.int .i64 b)) (WL.CX a) (WM.CX node c r s b):=by
 have B:Fr Nil d (d.alloc (.cells #[.int .i64 node,.slice none 0 0,.slice none 0 0] 107)):=(O _ _).alloc _;have g:=Blk.new d [.int .i64 node,.slice none 0 0,.slice none 0 0] 107;have q:(d.alloc (.cells #[.int .i64 node,.slice none 0 0,.slice none 0 0] 107)).heap.size=a+3:=by simp[hs]
 rw[hs] at g;generalize d.alloc (.cells #[.int .i64 node,.slice none 0 0,.slice none 0 0] 107)=t at *;have z:Fr Nil t (t.alloc (.cells #[.pointer (some ⟨a+2,0,none⟩)] 104)):=(O _ _).alloc _;have m:=Blk.new t [.pointer (some ⟨a+2,0,none⟩)] 104;have G:(t.alloc (.cells #[.pointer (some ⟨a+2,0,none⟩)] 104)).heap.size=a+4:=by simp[q]
 rw[q] at m;generalize t.alloc (.cells #[.pointer (some ⟨a+2,0,none⟩)] 104)=u at *;have x:=((D.fr B (fun e=>e)).fr z (fun e=>e));have j:=g.fr z (fun e=>e);have C:Fr (fun k=>k=a+1) u (u.setCell ⟨a+1,6,none⟩ (.slice (some ⟨a+3,0,none⟩) 1 1)):=Fr.set (S:=fun k=>k=a+1) (p:=⟨a+1,6,none⟩) (O _ _) (fun _=>rfl) _;have v:Fr (fun k=>k=a+1) u ((u.setCell ⟨a+1,6,none⟩ (.slice (some ⟨a+3,0,none⟩) 1 1)).setCell ⟨a+1,15,none⟩ (.int .i64 b)):=Fr.set (S:=fun k=>k=a+1) (p:=⟨a+1,15,none⟩) C (fun _=>rfl) _;have y:=(x.set 6 (.slice (some ⟨a+3,0,none⟩) 1 1)).set 15 (.int .i64 b);have l:=j.fr v (by omega);have o:=m.fr v (by omega);have I:=v.size;generalize (u.setCell ⟨a+1,6,none⟩ (.slice (some ⟨a+3,0,none⟩) 1 1)).setCell ⟨a+1,15,none⟩ (.int .i64 b)=f at *;refine⟨by simpa [WM.cells,WM.CX,WL.CX] using y,ZA (cap:=1) o (IQ _) (by decide) rfl rfl,rfl,fun i A J=>?_,⟨Hc f 0 _ _,Hc f 0 _ _,Hc f 0 _ _,Hc f 0 _ _,Hc f 0 _ _,Hc f 0 _ _,fun k e=>by simp[WL.CX,Value.ownBlock] at e,fun k e=>by simp[WL.CX,Value.ownBlock] at e⟩,fun k e=>⟨by omega,fun h=>?_⟩⟩
 .have:i=0:=by simp[WL.CX] at A;exact A
  subst this;refine⟨.slice none 0 0,.slice none 0 0,[],⟨l,Hc f 0 _ _,trivial,Hc f 0 _ _⟩,fun k F=>?_⟩;rcases F with rfl|e|e|⟨e,E,_⟩
  .rfl
  .simp[Value.ownBlock] at e
  .simp[Value.ownBlock] at e
  .simp at E
 .subst e
  unfold WFoot WL.CX at h;simp[Value.ownBlock] at h
theorem Jd{b k:Nat}{a:Int}(g:Foot b DL.new (DM.new a) k):k=b:=by
 cases g using Foot.elim with
 | blk=>rfl
 | dir e=>simp[DL.new,Value.ownBlock] at e
 | safe e=>simp[DL.new,Value.ownBlock] at e
 | ch e=>simp[DL.new,Value.ownBlock] at e
 | chs i c e=>exact absurd c (Gb _)
 | file e=>cases e
 | row f d e=>cases d
theorem N8(node a b c:Int)(i:Nat)(w:World) :
 Calls Tryz.prog 16 #[.agg #[.int .i64 node,.int .i64 a,.int .i64 b,.int .i64 c],.int .i64 i] w fun e K=>∃ d,w.heap.size<d/\e=.returned (.pointer (some ⟨d+1,0,none⟩))/\WAt (fun k=>k=d+2) K (WL.CX d) (WM.CX node a b c i)/\DRep K d DL.new (DM.new (Yz a))/\Fr Nil w K:=by
 have f1:Fr Nil w (w.alloc (.cells #[.int .i64 node,.int .i64 a,.int .i64 b,.int .i64 c] 23)):=(O _ _).alloc _;have x:=Blk.new w [.int .i64 node,.int .i64 a,.int .i64 b,.int .i64 c] 23;have z:=x.cell;have D:=Z f1;have s:=Z x;have v:=Z (fun L=>TI a L);rw[show(if a<0 then 1152921504606846976 else a)=Yz a from rfl] at v;generalize Yz a=r at v |-;clear f1 x;go_enter Tryz.func16,Tryz.ntmps16;go_wp2_with fail;generalize w.alloc (.cells #[.int .i64 node,.int .i64 a,.int .i64 b,.int .i64 c] 23)=g at z D s |-;have T:∀ k,g.cell? ⟨w.heap.size,k,none⟩=[Value.int .i64 node,.int .i64 a,.int .i64 b,.int .i64 c][k]?:=z;have t:Hid (∀ L,Fr Nil g L->∀ k,L.cell? ⟨w.heap.size,k,none⟩=[Value.int .i64 node,.int .i64 a,.int .i64 b,.int .i64 c][k]?):=fun L f=>(s.out.fr f (fun e=>e)).cell;clear z
 go_region_held3 (fun K=>∀ k,K.cell? ⟨w.heap.size,k,none⟩=[Value.int .i64 node,.int .i64 a,.int .i64 b,.int .i64 c][k]?) (first|assumption|exact t.out _ za|go_keep)
  (first
  | (go_at_call 50;refine(Rf _ _).mono ?_;rintro e j ⟨rfl,I,J,m⟩;have l:Fr Nil g j:=Fr.trans za J;have Y:=t.out j l;have N:=Z l;have C:Hid (DRep j g.heap.size DL.new (DM.new r)):=I;clear J I)
  | (go_at_call 51;refine(v.out _).mono ?_;rintro e j ⟨rfl,a4⟩;subst j))
 replace m:j.heap.size=g.heap.size+1:=m
 have a0:∀ k,(j.alloc (.cells #[.int .i64 node,.int .i64 a,.int .i64 b,.int .i64 c,.pointer (some ⟨g.heap.size,0,none⟩),.pointer none,.slice none 0 0,.bool false,.bool false,.int .i64 0,.int .i64 0,.int .i64 0,.int .i64 0,.int .i64 0,.slice none 0 0,.int .i64 0,.int .i64 0,.slice none 0 0,.slice none 0 0,.slice none 0 0,.slice none 0 0,.slice none 0 0,.slice none 0 0] 49)).cell? ⟨w.heap.size,k,none⟩=[Value.int .i64 node,.int .i64 a,.int .i64 b,.int .i64 c][k]?:=t.out _ (l.alloc _);have y:=Blk.new j [.int .i64 node,.int .i64 a,.int .i64 b,.int .i64 c,.pointer (some ⟨g.heap.size,0,none⟩),.pointer none,.slice none 0 0,.bool false,.bool false,.int .i64 0,.int .i64 0,.int .i64 0,.int .i64 0,.int .i64 0,.slice none 0 0,.int .i64 0,.int .i64 0,.slice none 0 0,.slice none 0 0,.slice none 0 0,.slice none 0 0,.slice none 0 0,.slice none 0 0] 49;have Q:Fr Nil j (j.alloc (.cells #[.int .i64 node,.int .i64 a,.int .i64 b,.int .i64 c,.pointer (some ⟨g.heap.size,0,none⟩),.pointer none,.slice none 0 0,.bool false,.bool false,.int .i64 0,.int .i64 0,.int .i64 0,.int .i64 0,.int .i64 0,.slice none 0 0,.int .i64 0,.int .i64 0,.slice none 0 0,.slice none 0 0,.slice none 0 0,.slice none 0 0,.slice none 0 0,.slice none 0 0] 49)):=(O _ _).alloc _;have u:=Z (C.out.nil Q);have E:=Z (D.out.trans (l.trans Q));rw[m] at y;have o:=Z y;have M:Hid (g.heap.size=g.heap.size):=rfl;have F:Hid (w.heap.size<g.heap.size):=s.out.lt;have A:(j.alloc (.cells #[.int .i64 node,.int .i64 a,.int .i64 b,.int .i64 c,.pointer (some ⟨g.heap.size,0,none⟩),.pointer none,.slice none 0 0,.bool false,.bool false,.int .i64 0,.int .i64 0,.int .i64 0,.int .i64 0,.int .i64 0,.slice none 0 0,.int .i64 0,.int .i64 0,.slice none 0 0,.slice none 0 0,.slice none 0 0,.slice none 0 0,.slice none 0 0,.slice none 0 0] 49)).heap.size=g.heap.size+1+1:=by simp[m]
 generalize j.alloc (.cells #[.int .i64 node,.int .i64 a,.int .i64 b,.int .i64 c,.pointer (some ⟨g.heap.size,0,none⟩),.pointer none,.slice none 0 0,.bool false,.bool false,.int .i64 0,.int .i64 0,.int .i64 0,.int .i64 0,.int .i64 0,.slice none 0 0,.int .i64 0,.int .i64 0,.slice none 0 0,.slice none 0 0,.slice none 0 0,.slice none 0 0,.slice none 0 0,.slice none 0 0] 49)=B at a0 u E o A |-;have G:=Z A;clear Y l m Q y T N C A;generalize V:g.heap.size=d at o u G F |-;clear V M;have R:Fr Nil B ((B.alloc (.cells #[.int .i64 node,.slice none 0 0,.slice none 0 0] 107)).alloc (.cells #[.pointer (some ⟨B.heap.size,0,none⟩)] 104)):=((O _ _).alloc _).alloc _;have q:=o.out.fr R (fun e=>e);have a3:=q.cell;have a5:=q.frozen;have a1:=Z q;have a2:=Z R;clear q R;go_wp2_with fail;go_ret;have h3:B.heap.size=d+2:=G.out;rw[h3];have X:=F.out;refine⟨d,X,rfl,ML B d node a b c i o.out h3,?_,?_⟩
 .have g6:Fr (fun k=>k=d+1) B _:=Fr.set (S:=fun k=>k=d+1) (p:=⟨d+1,15,none⟩) (Fr.set (S:=fun k=>k=d+1) (p:=⟨d+1,6,none⟩) (((O _ B).alloc (.cells #[.int .i64 node,.slice none 0 0,.slice none 0 0] 107)).alloc (.cells #[.pointer (some ⟨d+2,0,none⟩)] 104)) (fun _=>rfl) (.slice (some ⟨d+3,0,none⟩) 1 1)) (fun _=>rfl) (.int .i64 i)
  exact u.out.fr g6 (fun k hk=>by rw[Jd hk];omega)
 .exact Fr.set (Fr.set ((E.out.alloc _).alloc _) (fun h=>by simp only at h;omega) _) (fun h=>by simp only at h;omega) _
theorem Iw:((Tryz.prog.info? 61).map fun i=>(i.zero.map (·.cells.size),i.size,i.bytes))=some (some 1,1,24):=by kernel_rfl
theorem Ix:((Tryz.prog.info? 91).map fun i=>(i.zero.map (·.cells.size),i.size,i.bytes))=some (some 1,1,24):=by kernel_rfl
theorem Iy:((Tryz.prog.info? 66).map fun i=>(i.zero.map (·.cells.size),i.size,i.bytes))=some (some 1,1,24):=by kernel_rfl
theorem Uw:((Tryz.prog.info? 3).map fun i=>(i.zero.map (·.cells.size),i.size,i.bytes))=some (some 1,1,8):=by kernel_rfl
theorem Xm{t e:TypeId}{a:Nat}(D:Tryz.prog.underlying t=some (.slice e))(z:((Tryz.prog.info? e).map fun i=>(i.zero.map (·.cells.size),i.size,i.bytes))=some (some 1,1,a))(o:a<=24)
 (w:World)(v:Value)(n:Nat)(r:List Value)(h:w.ownsRow 0 e 1 v n r)(x:Value)(s:x.oneCell'=true)(E:n<1000000000)(g:World)(p:Fr Nil w g)(N:Nat)(A:Blk g N [x] e)(ty:TypeId) :
 ∃ c d,(Builtin.append_ #[t,t] ty #[v,.slice (some ⟨N,0,none⟩) 1 1]).run Tryz.prog g=.ok c d /\
  (d.ownsRow 0 e 1 c (n+1) (r++[x])/\Fr (fun k=>v.ownBlock=some k) w d/\(∀ k,c.ownBlock=some k->v.ownBlock=some k\/w.heap.size<=k)):=by
 have B:=zb h p (fun _ _=>id);obtain⟨c,d,C,l,y,b⟩:=zt (P:=Tryz.prog) t ty e 1 a D z (by omega) v n r B ⟨N,0,none⟩ 1 1 [x] rfl
  (fun j u f=>by rw[Gh,Gg,A.cell];exact f) (by intro u f;simp at f;subst f;exact s) (by unfold maxLen;omega) (IP (Nat.mul_le_mul_left _ o) (by omega))
 refine⟨c,d,C,l,(p.mono (fun _ _ e=>absurd e id)).trans' ((Fr.Bv y).mono (fun i _ h=>h)) (fun i _ h=>h),fun k q=>?_⟩;rcases b with b|b
 .exact .inl (by rw[<- b];exact q)
 .rw[b] at q;simp at q;have:=p.size;exact .inr (by omega)
theorem zM(b n:Nat)(r:List UInt8)(w:World)(h:Src w b (zi n++r) false)(d:n<9223372036854775808) :
 Calls Tryz.prog 149 #[.pointer (some ⟨b,0,none⟩)] w fun e a=>e=.returned (.int .i64 n)/\Src a b r false/\Fr (fun k=>k=b) w a:=by
 refine(Wx b _ false w h (by simp)).mono ?_;intro e a c;rw[QY n r d] at c;exact c
theorem TK(b:Nat)(d:List UInt8)(w:World)(h:Src w b d false)(f:ZS 0 0 d=none) :
 Calls Tryz.prog 149 #[.pointer (some ⟨b,0,none⟩)] w fun e a=>e=.returned (.int .i64 0)/\Src a b [] true/\Fr (fun k=>k=b) w a:=by
 refine(Wx b _ false w h (by simp)).mono ?_;intro e a c;rw[f] at c;exact c
def Read1(w:World)(b:Nat)(r:List UInt8)(a:World):Prop:=Src a b r false/\Fr (fun k=>k=b) w a
theorem Wh(b:Nat)(s r:List UInt8)(w:World)(h:Src w b (Za s++r) false)(hs:s.length<=1000000000) :
 Calls Tryz.prog 150 #[.pointer (some ⟨b,0,none⟩)] w fun e q=>e=.returned (.string (zo s))/\Read1 w b r q:=by
 have k:Za s++r=zi s.length++(s++r):=by simp[Za]
 rw[k] at h;have o:=Z h;clear h k;have m:=Z (fun t=>ZJ (zo s) t hs);go_enter Tryz.func150,Tryz.ntmps150
 go_wp2_with (first
  | (refine(m.out _).mono ?_;rintro e x ⟨rfl,d⟩)
  | (refine(XZ s.length b (s++r) false _ i.out.1 (by simp)).mono ?_;rintro e v ⟨rfl,g,c⟩;have j:=Z (And.intro g c);clear g c)
  | (refine(zM b s.length (s++r) _ o.out (by omega)).mono ?_;rintro e u ⟨rfl,f,a⟩;have i:=Z (And.intro f a);clear f a))
 go_ret;have l:=j.out.1;rw[EO] at l;exact⟨rfl,l.fr d id,(i.out.2.trans j.out.2).trans (d.mono (fun _ _ e=>absurd e id))⟩
def WF(l:List Nat):List Value:=l.map fun n:Nat=>.int .i64 (n:Int)
def LX(w a:World)(t:TypeId)(size:Nat)(v:Value)(n:Nat)(b:List Value):Prop :=
 a.ownsRow 0 t size v n b/\∀ k,v.ownBlock=some k->w.heap.size<=k
theorem Q6(b:Nat)(l:List Nat)(r:List UInt8)(w:World)(h:Src w b (YQ l++r) false)(R:∀ x∈l,x<9223372036854775808)(a1:l.length<1000000) :
 Calls Tryz.prog 194 #[.pointer (some ⟨b,0,none⟩),.func (.func 149) #[] #[]] w fun e m =>
  ∃ v,e=.returned v/\LX w m 3 1 v l.length (WF l)/\Read1 w b r m:=by
 have M:YQ l++r=zi l.length++((l.map zi).flatten++r):=by simp[YQ]
 rw[M] at h;have Q:=h.lt;have V:=Z h;clear h M;have X:=Z R;clear R;go_enter Tryz.func194,Tryz.ntmps194
 go_wp2_with (refine(zM b l.length _ _ V.out (by omega)).mono ?_;rintro e w1 ⟨rfl,t,q⟩;have G:=Z (And.intro t q);clear t q)
 go_loopw [5,9] (fun t5 F m=>∃ i:Nat,i<=l.length/\F=.int .i64 (i:Int)/\LX w m 3 1 t5 i (WF (l.take i))/\Src m b (((l.drop i).map zi).flatten++r) false/\Fr (fun k=>k=b) w m) (fun _ F _=>(l.length-intOf F).toNat)
 case atStart=>exact⟨0,by omega,rfl,⟨⟨by simp[WF],.inl ⟨rfl,rfl⟩⟩,fun k j=>by simp[Value.ownBlock] at j⟩,G.out.1,G.out.2⟩
 case round =>
  obtain⟨i,hi,rfl,⟨a,c⟩,o,A⟩:=hrel;by_cases f:i<l.length
  .have e2:((l.drop i).map zi).flatten++r=zi l[i]++(((l.drop (i+1)).map zi).flatten++r):=by
    rw[Gm f];simp only[Ht,Fh,Hu]
   rw[e2] at o;have T:=X.out l[i] (IX f);have L:=Z T;have J:=Z o;have K:Hid (WF (l.take (i+1))=WF (l.take i)++[.int .i64 (l[i]:Int)]):=by
    show WF _=_;unfold WF;rw[EM,IW f,Gs];rfl
   clear o e2 T;generalize E:l[i]=x at L J K;obtain⟨va,vc,rfl⟩:=zc a;have Y:=Z a;have u:=Z c;have I:=Z A;clear a c A E;have B:i<1000000000:=by omega
   go_wp2_with (first
    | (at_builtin;go_must (refine zk rfl _ _ _ _ rfl _ _ (by rfl) (by rfl) (Xm Eh Uw (by decide) _ _ _ _ z.out (.int .i64 x) rfl B _ za _ (by exact Blk.new _ [_] _) _) ?_);rintro v' w3 ⟨D,s,C⟩)
    | (refine(zM b x _ _ J.out L.out).mono ?_;rintro e w2 ⟨rfl,g,d⟩;have a0:=g.cell;have y:=Z (And.intro g d);have z:=Z (zb Y.out d (fun k j e=>by have:=u.out k j;omega));clear g d))
   refine⟨⟨i+1,by omega,by go_num,⟨by rw[K.out];exact D,fun k j=>?_⟩,?_,?_⟩,by simp[intOf];omega⟩
   .have:=I.out.size
    have:=y.out.2.size;rcases C k j with N|N
    .exact u.out k N
    .omega
   .exact y.out.1.fr s (fun e=>by have:=u.out b e;omega)
   .exact(I.out.trans y.out.2).trans' s (fun k j e=>absurd (u.out k e) (by omega))
  .have hil:i=l.length:=by omega
   subst hil;go_wp2_with fail;go_ret;rw[HZ] at a;rw[Co] at o;exact⟨_,rfl,⟨a,c⟩,o,A⟩
theorem Vv(s:ByteArray):zo s.data.toList=s:=by
 apply EY
 simp[zo]
theorem info1:(Tryz.prog.info? 3).map (·.size)=some 1:=by kernel_rfl
theorem UB(b:Nat)(v:Ver)(hv:v.Nat)(hg:v.gone=false)(r:List UInt8)(w:World)(h:Src w b (ZY v++r) false) :
 Calls Tryz.prog 152 #[.pointer (some ⟨b,0,none⟩)] w fun e w'=>e=.returned (.agg v.cells.toArray)/\Read1 w b r w':=by
 obtain⟨node,a,i,l,m,o,c,gone⟩:=v;simp only at hg;subst hg;obtain⟨y,J,V,h1,h2,h3,z⟩:=hv;simp only[isN] at y J V h1 h2 h3 z;obtain⟨node,rfl⟩:=GB y.1;obtain⟨a,rfl⟩:=GB J.1;obtain⟨i,rfl⟩:=GB V.1;obtain⟨l,rfl⟩:=GB h1.1;obtain⟨m,rfl⟩:=GB h2.1;obtain⟨o,rfl⟩:=GB h3.1;have e1:ZY ⟨node,a,i,l,m,o,c,false⟩++r=zi node++(zi a++(YQ [i,l,m,o]++(Za c.data.toList++r))):=by
  simp[ZY]
 rw[e1] at h;have c1:=h.lt;have HH:=Z h;clear h e1;have H0:=Z V;have H1:=Z h1;have H2:=Z h2;have H3:=Z h3;clear V h1 h2 h3;go_enter Tryz.func152,Tryz.ntmps152;go_wp2_with fail;have N:Blk ((w.alloc (.cells #[.int .i64 0,.int .i64 0,.int .i64 0,.int .i64 0,.int .i64 0,.int .i64 0,.string ⟨#[]⟩,.bool false] 37)).alloc (.cells #[.int .i64 0,.int .i64 0,.int .i64 0,.int .i64 0,.int .i64 0,.int .i64 0,.string ⟨#[]⟩,.bool false] 37)) w.heap.size [.int .i64 0,.int .i64 0,.int .i64 0,.int .i64 0,.int .i64 0,.int .i64 0,.string ⟨#[]⟩,.bool false] 37 :=
  (Blk.new w [.int .i64 0,.int .i64 0,.int .i64 0,.int .i64 0,.int .i64 0,.int .i64 0,.string ⟨#[]⟩,.bool false] _).alloc _
 have Q:Blk ((w.alloc (.cells #[.int .i64 0,.int .i64 0,.int .i64 0,.int .i64 0,.int .i64 0,.int .i64 0,.string ⟨#[]⟩,.bool false] 37)).alloc (.cells #[.int .i64 0,.int .i64 0,.int .i64 0,.int .i64 0,.int .i64 0,.int .i64 0,.string ⟨#[]⟩,.bool false] 37)) (w.heap.size+1) [.int .i64 0,.int .i64 0,.int .i64 0,.int .i64 0,.int .i64 0,.int .i64 0,.string ⟨#[]⟩,.bool false] 37:=by
  have V:=Blk.new (w.alloc (.cells #[.int .i64 0,.int .i64 0,.int .i64 0,.int .i64 0,.int .i64 0,.int .i64 0,.string ⟨#[]⟩,.bool false] 37)) [.int .i64 0,.int .i64 0,.int .i64 0,.int .i64 0,.int .i64 0,.int .i64 0,.string ⟨#[]⟩,.bool false] 37
  simpa using V
 have D:Fr Nil w ((w.alloc (.cells #[.int .i64 0,.int .i64 0,.int .i64 0,.int .i64 0,.int .i64 0,.int .i64 0,.string ⟨#[]⟩,.bool false] 37)).alloc (.cells #[.int .i64 0,.int .i64 0,.int .i64 0,.int .i64 0,.int .i64 0,.int .i64 0,.string ⟨#[]⟩,.bool false] 37)):=((O _ _).alloc _).alloc _;generalize (w.alloc (.cells #[.int .i64 0,.int .i64 0,.int .i64 0,.int .i64 0,.int .i64 0,.int .i64 0,.string ⟨#[]⟩,.bool false] 37)).alloc (.cells #[.int .i64 0,.int .i64 0,.int .i64 0,.int .i64 0,.int .i64 0,.int .i64 0,.string ⟨#[]⟩,.bool false] 37)=W0 at N Q D |-;have a1:Fr (fun k=>k=b) w W0:=D.mono (fun _ _ e=>absurd e id)
 -- the node
 refine(zM b node _ W0 (HH.out.fr D id) (by omega)).mono ?_;rintro e w1 ⟨rfl,A,E⟩;have s:=N.fr E (by omega);have f:=Q.fr E (by omega);have b6:=f.cell;have b9:=f.frozen;go_wp2_with fail;have f:=f.set 0 (.int .i64 node);have s:=s.An (b':=w.heap.size+1) (by omega) 0 (.int .i64 node);have A:Src _ b _ false:=Blk.An A (b':=w.heap.size+1) (by omega) 0 (.int .i64 node);have K:=(a1.trans E).set (p:=⟨w.heap.size+1,0,none⟩) (fun h=>absurd h (by simp)) (.int .i64 node);generalize w1.setCell ⟨w.heap.size+1,0,none⟩ (.int .i64 node)=W1 at f s A K |-;clear b6 b9 E N Q D a1
 -- its number
 refine(zM b a _ W1 A (by omega)).mono ?_;rintro e w2 ⟨rfl,B,F⟩;have t:=s.fr F (by omega);have d:=f.fr F (by omega);have b7:=d.cell;have c0:=d.frozen;go_wp2_with fail;have d:=d.set 1 (.int .i64 a);have t:=t.An (b':=w.heap.size+1) (by omega) 1 (.int .i64 a);have B:Src _ b _ false:=Blk.An B (b':=w.heap.size+1) (by omega) 1 (.int .i64 a);have L:=(K.trans F).set (p:=⟨w.heap.size+1,1,none⟩) (fun h=>absurd h (by simp)) (.int .i64 a);generalize w2.setCell ⟨w.heap.size+1,1,none⟩ (.int .i64 a)=W2 at d t B L |-;clear b7 c0 F f s A K;simp at d
 -- the four
 have a6:∀ x∈[i,l,m,o],x<9223372036854775808:=by
  have:=H0.out.2;have:=H1.out.2;have:=H2.out.2;have:=H3.out.2;intro x hx;simp at hx;rcases hx with rfl|rfl|rfl|rfl <;> omega
 have b2:=Z B;have b1:=Z d;have a9:=Z t;have a8:=Z a6;have C:=Z (HH.out.lt);have c2:w.heap.size+2<=W2.heap.size:=d.lt;clear B d t a6
 go_region_law
  (first
  | (go_simp;go_at_call 194;refine(Q6 b [i,l,m,o] _ W2.drew b2.out a8.out (by simp)).mono ?_;rintro e X ⟨v3,rfl,I,T⟩
     have G:Fr (fun k=>k=b) W2 X:=Fr.trans ((O _ W2).drew) T.2;obtain⟨g,b3,rfl,c6,c7⟩:=zm I.1 (by simp);have a0:=Z (b1.out.fr G (by have:=C.out;omega));have b0:=Z (a9.out.fr G (by have:=C.out;omega));have Y:Hid (∀ (j:Nat) (v:Value),[Value.int .i64 (i:Int),.int .i64 l,.int .i64 m,.int .i64 o][j]?=some v->X.cell? ((⟨g,0,none⟩:Addr).add j)=some v):=fun j v hj=>by
      rw[Gh,Gg];exact own_cell? I.1 _ _ hj
     have c3:=Z I;have HR:=Z (And.intro T.1 G);clear I T G)
  | (refine Yx rfl _ _ 26 26 rfl _ _ (by rfl) (by rfl) (Zv (P:=Tryz.prog) 26 3 _ 1 Eh info1 (w.heap.size+1) 2 4 4 ⟨g,0,none⟩ 4 b3 _ [.int .i64 i,.int .i64 l,.int .i64 m,.int .i64 o] 37 a0.out rfl Y.out (by simp) (by simp[Value.oneCell'])) ?_))
 have a4:Blk (X.setRow (w.heap.size+1) #[.int .i64 node,.int .i64 a,.int .i64 i,.int .i64 l,.int .i64 m,.int .i64 o,.string ⟨#[]⟩,.bool false]) (w.heap.size+1) [.int .i64 node,.int .i64 a,.int .i64 i,.int .i64 l,.int .i64 m,.int .i64 o,.string ⟨#[]⟩,.bool false] 37 :=
  a0.out.setRow [.int .i64 node,.int .i64 a,.int .i64 i,.int .i64 l,.int .i64 m,.int .i64 o,.string ⟨#[]⟩,.bool false]
 have q:Fr (fun k=>k=w.heap.size+1) X (X.setRow (w.heap.size+1) #[.int .i64 node,.int .i64 a,.int .i64 i,.int .i64 l,.int .i64 m,.int .i64 o,.string ⟨#[]⟩,.bool false]):=Fr.setRow (S:=fun k=>k=w.heap.size+1) (O _ _) (fun _=>rfl) _;have a3:=b0.out.fr q (by omega);have a7:Src _ b _ false:=Blk.fr HR.out.1 q (by have:=C.out;omega);have a2:=(L.trans HR.out.2).trans' q (fun k hk e=>by omega);generalize X.setRow (w.heap.size+1) #[.int .i64 node,.int .i64 a,.int .i64 i,.int .i64 l,.int .i64 m,.int .i64 o,.string ⟨#[]⟩,.bool false]=W4 at a4 a3 a7 a2 |-;clear q L;have c4:=C.out;go_wp2_with fail;refine(Wh b c.data.toList r W4 a7 (by simpa using Dk z)).mono ?_;rintro e w5 ⟨rfl,b8,R⟩;have a5:=a4.fr R (by omega);have M:=a3.fr R (by omega);have c5:=a5.cell;have c9:=a5.frozen;have c8:=M.cell;have d0:=M.frozen;rw[Vv];go_wp2_with fail;have u:=(((((((((M.An (b':=w.heap.size+1) (by omega) 6 (.string c)).set 0 (.int .i64 node)).set 1 (.int .i64 a)).set 2 (.int .i64 i)).set 3 (.int .i64 l)).set 4 (.int .i64 m)).set 5 (.int .i64 o)).set 6 (.string c)).set 7 (.bool false));have u:Blk _ w.heap.size (Ver.cells ⟨node,a,i,l,m,o,c,false⟩) 37:=u;have b4:=a2.trans R;have b5:Src _ b r false:=((((((((b8.An (b':=w.heap.size+1) (by omega) 6 (.string c)).An (b':=w.heap.size) (by omega) 0 (.int .i64 node)).An (b':=w.heap.size) (by omega) 1 (.int .i64 a)).An (b':=w.heap.size) (by omega) 2 (.int .i64 i)).An (b':=w.heap.size) (by omega) 3 (.int .i64 l)).An (b':=w.heap.size) (by omega) 4 (.int .i64 m)).An (b':=w.heap.size) (by omega) 5 (.int .i64 o)).An (b':=w.heap.size) (by omega) 6 (.string c)).An (b':=w.heap.size) (by omega) 7 (.bool false);refine EB (results_cell_row rfl _ _ w.heap.size _ _ _ _ rfl u Tryz.underlying37 rfl (by kernel_rfl)) rfl ⟨rfl,b5,?_⟩
 repeat' first|(with_reducible exact b4)|(with_reducible refine Fr.set ?_ ?_ _)|(intro h;exact absurd h (by simp))
theorem WStep.gen{K:Nat->Prop}{w c:World}{L a:WL}{W g:WM}{S:Nat->Prop}(h:WAt K w L W)(i:Nat)(f:Value)(m:Fr S w c)(r:∀ b,S b->WFoot L b/\b≠L.wb/\L.sv.ownBlock≠some b)
 (F:(W.cells L).set i f=g.cells a)(t:a.wb=L.wb)(l:a.db=L.db)(u:a.nv=L.nv)(v:a.sv=L.sv)(x:a.ps=L.ps)(y:g.st=W.st)
 (E:∀ C,Fr (fun k=>k=L.wb) c C->BAt C a g.bk)(B:∀ k,WFoot a k->WFoot L k\/w.heap.size<=k)(z:a.tv=L.tv:=by rfl) :
 WStep K L w a g (c.setCell ⟨L.wb,i,none⟩ f):=by
 obtain⟨Q,G,I,M,N,J,vs,vm,ns,nm,hs,hm⟩:=a;simp only at t l u v x z;subst t l u v x;have s:Blk c L.wb _ _:=h.CY.fr m (fun e=>(r _ e).2.1 rfl);have o:Fr (fun k=>k=L.wb) c (c.setCell ⟨L.wb,i,none⟩ f):=Fr.set (S:=fun k=>k=L.wb) (p:=⟨L.wb,i,none⟩) (O _ _) (fun _=>rfl) _;have q:Fr (WFoot L) w (c.setCell ⟨L.wb,i,none⟩ f):=(m.mono (fun k _ e=>(r k e).1)).trans' (o.mono (S':=WFoot L) (fun k _ e=>.inl e)) (fun _ _ e=>e);refine⟨⟨?_,?_,?_,fun j D A=>?_,E _ o,fun k e=>⟨Gd (h.Bt k e).1 q.size,fun d=>(B k d).elim (h.Bt k e).2 (fun l=>by have:=(h.Bt k e).1;omega)⟩⟩,q,B,rfl,rfl,rfl,z⟩
 .rw[<- F]
  exact s.set i f
 .exact zb (zb h.Ab m (fun k e d=>(r k d).2.2 e)) o (fun k e d=>by subst d;exact zd h.Ab h.CY (by decide) e)
 .rw[y];exact h.Ao
 .simp only[y] at A |-
  exact(h.AB j D A).Bt (zQ.BO q (fun k e=>h.Bt k e)) (fun _ e=>e)
theorem WStep.An{K S:Nat->Prop}{a w g:World}{L b:WL}{c:WM}(h:WStep K L a b c w)(f:Fr S w g)(d:∀ k,S k->a.heap.size<=k)(j:∀ k,WFoot b k->¬S k)(o:∀ k,K k->k<a.heap.size):WStep K L a b c g :=
 ⟨h.CZ.fr f j (fun k e hs=>by have:=d k hs;have:=o k e;omega),h.fr.trans' (f.mono (S':=S) (fun _ _ e=>e)) (fun i q e=>by have:=d i e;omega),h.BA,h.wb,h.db,h.nv,h.tv⟩
theorem WStep.vs{K:Nat->Prop}{w o:World}{L:WL}{W:WM}(h:WAt K w L W){l:Value}{j:List Value}(z:o.ownsRow 0 61 1 l j.length j)(r:Fr (fun b=>L.vs.ownBlock=some b) w o)(C:∀ b,l.ownBlock=some b->L.vs.ownBlock=some b\/w.heap.size<=b) :
 WStep K L w {L with vs:=l} {W with bk:={W.bk with vs:=j}} (o.setCell ⟨L.wb,17,none⟩ l):=by
 have d:∀ {t:TypeId} {k:Nat},Ty w k t->t≠61->¬L.vs.ownBlock=some k:=fun a D e=>D (a.inj (zD h.book.vs e));have c:∀ {t:TypeId} {v:Value} {n s:Nat} {j:List Value},w.ownsRow 0 t s v n j->t≠61->t≠49->∀ f,Fr (fun k=>k=L.wb) o f->f.ownsRow 0 t s v n j:=fun y A B f g =>
  zb (zb y r (fun k e=>d (zD y e) A)) g (fun k e a=>by subst a;exact zd y h.CY (fun e=>B e.symm) e)
 have x:Blk o L.wb _ _:=h.CY.fr r (d h.CY.ty (by decide));refine WStep.gen h 17 l r (fun b e=>⟨.inr (.inr (.inl e)),fun q=>?_,fun q=>?_⟩) (by simp[WM.cells]) rfl rfl rfl rfl rfl rfl (fun f g=>⟨zb z g (fun k e a=>by subst a;exact zd z x (by decide) e),c h.book.vm (by decide) (by decide) f g,c h.book.ns (by decide) (by decide) f g,c h.book.nm (by decide) (by decide) f g,c h.book.hs (by decide) (by decide) f g,c h.book.hm (by decide) (by decide) f g,h.book.s1,h.book.s2⟩) (fun k a=>?_)
 .subst q;exact d h.CY.ty (by decide) e
 .exact d (zD h.Ab q) (by decide) e
 rcases a with a|a|a|a|a|a|a|a
 .exact .inl (.inl a)
 .exact .inl (.inr (.inl a))
 .exact(C k a).elim (fun e=>.inl (.inr (.inr (.inl e)))) .inr
 .exact .inl (.inr (.inr (.inr (.inl a))))
 .exact .inl (.inr (.inr (.inr (.inr (.inl a)))))
 .exact .inl (.inr (.inr (.inr (.inr (.inr (.inl a))))))
 .exact .inl (.inr (.inr (.inr (.inr (.inr (.inr (.inl a)))))))
 .exact .inl (.inr (.inr (.inr (.inr (.inr (.inr (.inr (a))))))))
theorem WStep.vm{K:Nat->Prop}{w r:World}{L:WL}{W:WM}(h:WAt K w L W){q:Value}{l:List Nat}(z:r.ownsRow 0 3 1 q l.length (Y9 l))(o:Fr (fun b=>L.vm.ownBlock=some b) w r)(A:∀ b,q.ownBlock=some b->L.vm.ownBlock=some b\/w.heap.size<=b) :
 WStep K L w {L with vm:=q} {W with bk:={W.bk with vm:=l}} (r.setCell ⟨L.wb,18,none⟩ q):=by
 have d:∀ {t:TypeId} {k:Nat},Ty w k t->t≠3->¬L.vm.ownBlock=some k:=fun a D e=>D (a.inj (zD h.book.vm e));have c:∀ {t:TypeId} {v:Value} {n s:Nat} {l:List Value},w.ownsRow 0 t s v n l->t≠3->t≠49->∀ j,Fr (fun k=>k=L.wb) r j->j.ownsRow 0 t s v n l:=fun y B C j f =>
  zb (zb y o (fun k e=>d (zD y e) B)) f (fun k e a=>by subst a;exact zd y h.CY (fun e=>C e.symm) e)
 have x:Blk r L.wb _ _:=h.CY.fr o (d h.CY.ty (by decide));refine WStep.gen h 18 q o (fun b e=>⟨.inr (.inr (.inr (.inl e))),fun g=>?_,fun g=>?_⟩) (by simp[WM.cells]) rfl rfl rfl rfl rfl rfl (fun j f=>⟨c h.book.vs (by decide) (by decide) j f,zb z f (fun k e a=>by subst a;exact zd z x (by decide) e),c h.book.ns (by decide) (by decide) j f,zb (zb h.book.nm o (fun k e a=>(h.book.s1 k a).1 e)) f (fun k e a=>by subst a;exact zd h.book.nm h.CY (by decide) e),c h.book.hs (by decide) (by decide) j f,zb (zb h.book.hm o (fun k e a=>(h.book.s1 k a).2 e)) f (fun k e a=>by subst a;exact zd h.book.hm h.CY (by decide) e),fun k e=>(A k e).elim (h.book.s1 k) (fun E=>⟨fun g=>by have:=zC h.book.nm g;omega,fun g=>by have:=zC h.book.hm g;omega⟩),h.book.s2⟩) (fun k a=>?_)
 .subst g;exact d h.CY.ty (by decide) e
 .exact d (zD h.Ab g) (by decide) e
 rcases a with a|a|a|a|a|a|a|a
 .exact .inl (.inl a)
 .exact .inl (.inr (.inl a))
 .exact .inl (.inr (.inr (.inl a)))
 .exact(A k a).elim (fun e=>.inl (.inr (.inr (.inr (.inl e))))) .inr
 .exact .inl (.inr (.inr (.inr (.inr (.inl a)))))
 .exact .inl (.inr (.inr (.inr (.inr (.inr (.inl a))))))
 .exact .inl (.inr (.inr (.inr (.inr (.inr (.inr (.inl a)))))))
 .exact .inl (.inr (.inr (.inr (.inr (.inr (.inr (.inr (a))))))))
theorem WStep.ns{K:Nat->Prop}{w l:World}{L:WL}{W:WM}(h:WAt K w L W){j:Value}{i:List Value}(y:l.ownsRow 0 91 1 j i.length i)(q:Fr (fun b=>L.ns.ownBlock=some b) w l)(B:∀ b,j.ownBlock=some b->L.ns.ownBlock=some b\/w.heap.size<=b) :
 WStep K L w {L with ns:=j} {W with bk:={W.bk with ns:=i}} (l.setCell ⟨L.wb,19,none⟩ j):=by
 have d:∀ {t:TypeId} {k:Nat},Ty w k t->t≠91->¬L.ns.ownBlock=some k:=fun a C e=>C (a.inj (zD h.book.ns e));have c:∀ {t:TypeId} {v:Value} {n s:Nat} {i:List Value},w.ownsRow 0 t s v n i->t≠91->t≠49->∀ f,Fr (fun k=>k=L.wb) l f->f.ownsRow 0 t s v n i:=fun x z A f g =>
  zb (zb x q (fun k e=>d (zD x e) z)) g (fun k e a=>by subst a;exact zd x h.CY (fun e=>A e.symm) e)
 have r:Blk l L.wb _ _:=h.CY.fr q (d h.CY.ty (by decide));refine WStep.gen h 19 j q (fun b e=>⟨.inr (.inr (.inr (.inr (.inl e)))),fun o=>?_,fun o=>?_⟩) (by simp[WM.cells]) rfl rfl rfl rfl rfl rfl (fun f g=>⟨c h.book.vs (by decide) (by decide) f g,c h.book.vm (by decide) (by decide) f g,zb y g (fun k e a=>by subst a;exact zd y r (by decide) e),c h.book.nm (by decide) (by decide) f g,c h.book.hs (by decide) (by decide) f g,c h.book.hm (by decide) (by decide) f g,h.book.s1,h.book.s2⟩) (fun k a=>?_)
 .subst o;exact d h.CY.ty (by decide) e
 .exact d (zD h.Ab o) (by decide) e
 rcases a with a|a|a|a|a|a|a|a
 .exact .inl (.inl a)
 .exact .inl (.inr (.inl a))
 .exact .inl (.inr (.inr (.inl a)))
 .exact .inl (.inr (.inr (.inr (.inl a))))
 .exact(B k a).elim (fun e=>.inl (.inr (.inr (.inr (.inr (.inl e)))))) .inr
 .exact .inl (.inr (.inr (.inr (.inr (.inr (.inl a))))))
 .exact .inl (.inr (.inr (.inr (.inr (.inr (.inr (.inl a)))))))
 .exact .inl (.inr (.inr (.inr (.inr (.inr (.inr (.inr (a))))))))
theorem WStep.nm{K:Nat->Prop}{w r:World}{L:WL}{W:WM}(h:WAt K w L W){q:Value}{j:List Nat}(A:r.ownsRow 0 3 1 q j.length (Y9 j))(o:Fr (fun b=>L.nm.ownBlock=some b) w r)(y:∀ b,q.ownBlock=some b->L.nm.ownBlock=some b\/w.heap.size<=b) :
 WStep K L w {L with nm:=q} {W with bk:={W.bk with nm:=j}} (r.setCell ⟨L.wb,20,none⟩ q):=by
 have d:∀ {t:TypeId} {k:Nat},Ty w k t->t≠3->¬L.nm.ownBlock=some k:=fun a D e=>D (a.inj (zD h.book.nm e));have c:∀ {t:TypeId} {v:Value} {n s:Nat} {j:List Value},w.ownsRow 0 t s v n j->t≠3->t≠49->∀ i,Fr (fun k=>k=L.wb) r i->i.ownsRow 0 t s v n j:=fun z B C i g =>
  zb (zb z o (fun k e=>d (zD z e) B)) g (fun k e a=>by subst a;exact zd z h.CY (fun e=>C e.symm) e)
 have x:Blk r L.wb _ _:=h.CY.fr o (d h.CY.ty (by decide));refine WStep.gen h 20 q o (fun b e=>⟨.inr (.inr (.inr (.inr (.inr (.inl e))))),fun f=>?_,fun f=>?_⟩) (by simp[WM.cells]) rfl rfl rfl rfl rfl rfl (fun i g=>⟨c h.book.vs (by decide) (by decide) i g,zb (zb h.book.vm o (fun k e a=>(h.book.s1 k e).1 a)) g (fun k e a=>by subst a;exact zd h.book.vm h.CY (by decide) e),c h.book.ns (by decide) (by decide) i g,zb A g (fun k e a=>by subst a;exact zd A x (by decide) e),c h.book.hs (by decide) (by decide) i g,zb (zb h.book.hm o (fun k e a=>h.book.s2 k a e)) g (fun k e a=>by subst a;exact zd h.book.hm h.CY (by decide) e),fun k e=>⟨fun f=>(y k f).elim (fun l=>(h.book.s1 k e).1 l) (fun l=>by have:=zC h.book.vm e;omega),(h.book.s1 k e).2⟩,fun k e f=>(y k e).elim (fun l=>h.book.s2 k l f) (fun l=>by have:=zC h.book.hm f;omega)⟩) (fun k a=>?_)
 .subst f;exact d h.CY.ty (by decide) e
 .exact d (zD h.Ab f) (by decide) e
 rcases a with a|a|a|a|a|a|a|a
 .exact .inl (.inl a)
 .exact .inl (.inr (.inl a))
 .exact .inl (.inr (.inr (.inl a)))
 .exact .inl (.inr (.inr (.inr (.inl a))))
 .exact .inl (.inr (.inr (.inr (.inr (.inl a)))))
 .exact(y k a).elim (fun e=>.inl (.inr (.inr (.inr (.inr (.inr (.inl e))))))) .inr
 .exact .inl (.inr (.inr (.inr (.inr (.inr (.inr (.inl a)))))))
 .exact .inl (.inr (.inr (.inr (.inr (.inr (.inr (.inr (a))))))))
theorem WStep.hs{K:Nat->Prop}{w w4:World}{L:WL}{W:WM}(h:WAt K w L W){v':Value}{x:List Value}(C:w4.ownsRow 0 66 1 v' x.length x)(z:Fr (fun b=>L.hs.ownBlock=some b) w w4)(F:∀ b,v'.ownBlock=some b->L.hs.ownBlock=some b\/w.heap.size<=b) :
 WStep K L w {L with hs:=v'} {W with bk:={W.bk with hs:=x}} (w4.setCell ⟨L.wb,21,none⟩ v'):=by
 have o:∀ {t:TypeId} {k:Nat},Ty w k t->t≠66->¬L.hs.ownBlock=some k:=fun c G e=>G (c.inj (zD h.book.hs e));have g:∀ {t:TypeId} {v:Value} {n s:Nat} {x:List Value},w.ownsRow 0 t s v n x->t≠66->t≠49->∀ q,Fr (fun k=>k=L.wb) w4 q->q.ownsRow 0 t s v n x:=fun B D E q r =>
  zb (zb B z (fun k e=>o (zD B e) D)) r (fun k e c=>by subst c;exact zd B h.CY (fun e=>E e.symm) e)
 have A:Blk w4 L.wb _ _:=h.CY.fr z (o h.CY.ty (by decide));refine WStep.gen h 21 v' z (fun b e=>⟨.inr (.inr (.inr (.inr (.inr (.inr (.inl e)))))),fun y=>?_,fun y=>?_⟩) (by simp[WM.cells]) rfl rfl rfl rfl rfl rfl (fun q r=>⟨g h.book.vs (by decide) (by decide) q r,g h.book.vm (by decide) (by decide) q r,g h.book.ns (by decide) (by decide) q r,g h.book.nm (by decide) (by decide) q r,zb C r (fun k e c=>by subst c;exact zd C A (by decide) e),g h.book.hm (by decide) (by decide) q r,h.book.s1,h.book.s2⟩) (fun k c=>?_)
 .subst y;exact o h.CY.ty (by decide) e
 .exact o (zD h.Ab y) (by decide) e
 rcases c with c|c|c|c|c|c|c|c
 .exact .inl (.inl c)
 .exact .inl (.inr (.inl c))
 .exact .inl (.inr (.inr (.inl c)))
 .exact .inl (.inr (.inr (.inr (.inl c))))
 .exact .inl (.inr (.inr (.inr (.inr (.inl c)))))
 .exact .inl (.inr (.inr (.inr (.inr (.inr (.inl c))))))
 .exact(F k c).elim (fun e=>.inl (.inr (.inr (.inr (.inr (.inr (.inr (.inl e)))))))) .inr
 .exact .inl (.inr (.inr (.inr (.inr (.inr (.inr (.inr (c))))))))
theorem WStep.hm{K:Nat->Prop}{w D:World}{L:WL}{W:WM}(h:WAt K w L W){C:Value}{z:List Nat}(T:D.ownsRow 0 3 1 C z.length (Y9 z))(B:Fr (fun b=>L.hm.ownBlock=some b) w D)(I:∀ b,C.ownBlock=some b->L.hm.ownBlock=some b\/w.heap.size<=b) :
 WStep K L w {L with hm:=C} {W with bk:={W.bk with hm:=z}} (D.setCell ⟨L.wb,22,none⟩ C):=by
 have q:∀ {t:TypeId} {k:Nat},Ty w k t->t≠3->¬L.hm.ownBlock=some k:=fun c Y e=>Y (c.inj (zD h.book.hm e));have o:∀ {t:TypeId} {v:Value} {n s:Nat} {z:List Value},w.ownsRow 0 t s v n z->t≠3->t≠49->∀ y,Fr (fun k=>k=L.wb) D y->y.ownsRow 0 t s v n z:=fun J V X y r =>
  zb (zb J B (fun k e=>q (zD J e) V)) r (fun k e c=>by subst c;exact zd J h.CY (fun e=>X e.symm) e)
 have E:Blk D L.wb _ _:=h.CY.fr B (q h.CY.ty (by decide));refine WStep.gen h 22 C B (fun b e=>⟨.inr (.inr (.inr (.inr (.inr (.inr (.inr (e))))))),fun x=>?_,fun x=>?_⟩) (by simp[WM.cells]) rfl rfl rfl rfl rfl rfl (fun y r=>⟨o h.book.vs (by decide) (by decide) y r,zb (zb h.book.vm B (fun k e c=>(h.book.s1 k e).2 c)) r (fun k e c=>by subst c;exact zd h.book.vm h.CY (by decide) e),o h.book.ns (by decide) (by decide) y r,zb (zb h.book.nm B (fun k e c=>h.book.s2 k e c)) r (fun k e c=>by subst c;exact zd h.book.nm h.CY (by decide) e),o h.book.hs (by decide) (by decide) y r,zb T r (fun k e c=>by subst c;exact zd T E (by decide) e),fun k e=>⟨(h.book.s1 k e).1,fun x=>(I k x).elim (fun A=>(h.book.s1 k e).2 A) (fun A=>by have:=zC h.book.vm e;omega)⟩,fun k e x=>(I k x).elim (fun A=>h.book.s2 k e A) (fun A=>by have:=zC h.book.nm e;omega)⟩) (fun k c=>?_)
 .subst x;exact q h.CY.ty (by decide) e
 .exact q (zD h.Ab x) (by decide) e
 rcases c with c|c|c|c|c|c|c|c
 .exact .inl (.inl c)
 .exact .inl (.inr (.inl c))
 .exact .inl (.inr (.inr (.inl c)))
 .exact .inl (.inr (.inr (.inr (.inl c))))
 .exact .inl (.inr (.inr (.inr (.inr (.inl c)))))
 .exact .inl (.inr (.inr (.inr (.inr (.inr (.inl c))))))
 .exact .inl (.inr (.inr (.inr (.inr (.inr (.inr (.inl c)))))))
 .exact(I k c).elim (fun e=>.inl (.inr (.inr (.inr (.inr (.inr (.inr (.inr (e))))))))) .inr
structure Booked(B B':BK):Prop where
 vs:B'.vs.length<=B.vs.length+4
 vm:B'.vm.length<=B.vm.length+4
 ns:B'.ns.length<=B.ns.length+4
 nm:B'.nm.length<=B.nm.length+4
 hs:B'.hs.length<=B.hs.length+4
 hm:B'.hm.length<=B.hm.length+4
structure BSmall(B:BK):Prop where
 vs:B.vs.length<100000000
 vm:B.vm.length<100000000
 ns:B.ns.length<100000000
 nm:B.nm.length<100000000
 hs:B.hs.length<100000000
 hm:B.hm.length<100000000
def WM.Bo(W:WM)(a:BK):WM:={W with next:=W.next+1,bk:=a}
theorem LY(a:Ver)(t:List Value)(x:Ver):((((((((a.cells++t).set 0 (.int .i64 x.node)).set 1 (.int .i64 x.seq)).set 2 (.int .i64 x.o0)).set 3 (.int .i64 x.o1)).set 4 (.int .i64 x.o2)).set 5 (.int .i64 x.o3)).set 6 (.string x.value)).set 7 (.bool x.gone)=x.cells++t:=by
 simp[Ver.cells]
theorem LZ(a:Ver)(t:List Value)(k:Nat)(u:Value):(a.cells++t).set (k+8) u=a.cells++t.set k u:=by
 rw[EF _ _ (by rw[Ver.BI];omega),Ver.BI,Nat.add_sub_cancel]
theorem Rr(x:Ver):∀ (l:List Ver)(i:Nat),i<l.length->((((((((zU l).set (i*8) (.int .i64 x.node)).set (i*8+1) (.int .i64 x.seq)).set (i*8+2) (.int .i64 x.o0)).set (i*8+3) (.int .i64 x.o1)).set (i*8+4) (.int .i64 x.o2)).set (i*8+5) (.int .i64 x.o3)).set (i*8+6) (.string x.value)).set (i*8+7) (.bool x.gone)=zU (l.set i x)
 | [],i,h=>absurd h (Gb _)
 | a::l,0,_=>by
  have e:∀ b:Ver,zU (b::l)=b.cells++zU l:=fun b=>rfl;rw[e,DK];simp only[Gg];rw[LY]
  rfl
 | a::l,i+1,h=>by
  have e:∀ (b:Ver) (l:List Ver),zU (b::l)=b.cells++zU l:=fun b l=>rfl;have c:(i+1)*8=i*8+8:=by omega
  have d:∀ k,i*8+8+k=i*8+k+8:=by intro k;omega
  rw[e,c];simp only[d,LZ];rw[Rr x l i (by simpa using h)]
  rfl
theorem VRow.yY{w:World}{g n a:Nat}{l:List Ver}(h:VRow w (.slice (some ⟨g,0,none⟩) n a) l)(c:n=l.length)(i:Nat)(b:i<l.length)(x:Ver) :
 VRow ((((((((w.setCell ⟨g,i*8,none⟩ (.int .i64 x.node)).setCell ⟨g,i*8+1,none⟩ (.int .i64 x.seq)).setCell ⟨g,i*8+2,none⟩ (.int .i64 x.o0)).setCell ⟨g,i*8+3,none⟩ (.int .i64 x.o1)).setCell ⟨g,i*8+4,none⟩ (.int .i64 x.o2)).setCell ⟨g,i*8+5,none⟩ (.int .i64 x.o3)).setCell ⟨g,i*8+6,none⟩ (.string x.value)).setCell ⟨g,i*8+7,none⟩ (.bool x.gone))
  (.slice (some ⟨g,0,none⟩) n a) (l.set i x):=by
 subst c;unfold VRow at h |-;rw[<- Rr x l i b,DE];exact ZT (ZT (ZT (ZT (ZT (ZT (ZT (ZT h _ _) _ _) _ _) _ _) _ _) _ _) _ _) _ _
structure JO(K:Nat->Prop)(L:WL)(W:WM)(w0:World)(n xb m i:Nat)(lv:Value)(w':World):Prop where
 ex:∃ l' L' bk',VRow w' lv l'/\(∀ k,lv.ownBlock=some k->w0.heap.size<=k)/\l'.length=n+i/\WStep K L w0 L' (W.Bo bk') w'/\bk'.vs.length=W.bk.vs.length+i/\bk'.vm.length=W.bk.vm.length+i/\bk'.ns=W.bk.ns/\bk'.nm=W.bk.nm/\bk'.hs=W.bk.hs/\bk'.hm=W.bk.hm/\L'.ps=L.ps
 box:Blk w' xb (YU m).cells 37
 low:w0.heap.size<=xb
 Az:¬lv.ownBlock=some xb
theorem WAt.yt{K:Nat->Prop}{w:World}{L:WL}{W:WM}(h:WAt K w L W){v:Value}{l:List Ver}(d:VRow w v l):∀ k,WFoot L k->¬v.ownBlock=some k:=fun k b e=>by
 obtain⟨t,c,a⟩:=h.ty b;have:=c.inj (zD d e);subst this;unfold WTy at a;rcases a with e|e|e|e|e|e <;> exact absurd e (by decide)
theorem WAt.low{K:Nat->Prop}{w:World}{L:WL}{W:WM}(h:WAt K w L W):∀ k,K k->k<w.heap.size:=fun k e=>(h.Bt k e).1
theorem Blk.newAt(w:World)(c:List Value)(t:TypeId)(N:Nat)(a:N=w.heap.size):Blk (w.alloc (.cells c.toArray t)) N c t:=by subst a;exact Blk.new w c t
theorem Iz{K:Nat->Prop}{L1:WL}{W1:WM}{wr c:World}{a x:Value}{n:Nat}(h:WAt K wr L1 W1)(e:n=W1.bk.vs.length+1)(f:c.ownsRow 0 61 1 a n (W1.bk.vs++[x]))(d:Fr (fun k=>L1.vs.ownBlock=some k) wr c)(b:∀ k,a.ownBlock=some k->L1.vs.ownBlock=some k\/wr.heap.size<=k) :
 WStep K L1 wr {L1 with vs:=a} {W1 with bk:={W1.bk with vs:=W1.bk.vs++[x]}} (c.setCell ⟨L1.wb,17,none⟩ a) :=
 WStep.vs h (by rw[IM,IU,<- e];exact f) d b
theorem V4(l:List Nat)(m:Nat):Y9 (l++[m])=Y9 l++[.int .i64 m]:=by simp[Y9]
theorem IA{K:Nat->Prop}{L1:WL}{W1:WM}{wr c:World}{a:Value}{m n:Nat}(h:WAt K wr L1 W1)(e:n=W1.bk.vm.length+1)(f:c.ownsRow 0 3 1 a n (Y9 W1.bk.vm++[.int .i64 m]))(d:Fr (fun k=>L1.vm.ownBlock=some k) wr c)(b:∀ k,a.ownBlock=some k->L1.vm.ownBlock=some k\/wr.heap.size<=k) :
 WStep K L1 wr {L1 with vm:=a} {W1 with bk:={W1.bk with vm:=W1.bk.vm++[m]}} (c.setCell ⟨L1.wb,18,none⟩ a) :=
 WStep.vm h (by rw[IM,IU,<- e,V4];exact f) d b
theorem WAt.yu{K:Nat->Prop}{w:World}{L:WL}{W:WM}(h:WAt K w L W){b:Nat}{c:List Value}{t:TypeId}(a:Blk w b c t)(f:¬WTy t):¬WFoot L b:=fun e=>by
 obtain⟨u,g,d⟩:=h.ty e;have:=g.inj a.ty;subst this;exact f d
theorem JP:¬WTy 37:=by
 intro a;unfold WTy at a;rcases a with e|e|e|e|e|e <;> exact absurd e (by decide)
theorem UN(K:Nat->Prop)(L:WL)(W:WM)(lv:Value)(l:List Ver)(V w:World)(h0:WAt K V L W)(f0:Fr Nil V w)(hl:VRow w lv l)(a0:∀ k,lv.ownBlock=some k->V.heap.size<=k)(R:l.length<100000)(hb:W.base<100000000)(hx:W.next<100000000)(hs:BSmall W.bk) :
 Calls Tryz.prog 119 #[.pointer (some ⟨L.wb,15,none⟩),lv] w fun e w'=>e=.returned (.tuple #[])/\∃ L' c4,WStep K L V L' (W.Bo c4) w'/\Booked W.bk c4/\L'.ps=L.ps:=by
 have HM:=Z (Vt K L W w (h0.nil f0) hb hx);have H0:=Z h0;have F0:=Z f0;have HL:=Z hl;have HN:=Z a0;have b2:Hid (∀ k,lv.ownBlock=some k->k<w.heap.size):=fun k e=>zC hl e;have b6:=Z hs;obtain⟨la,lc,rfl⟩:=zc hl;have u:=Z R;clear h0 f0 hl a0;obtain⟨m,hm⟩:∃ m,m=W.base+W.next+1:=⟨_,rfl⟩;have d2:m<1000000000000:=by omega
 rw[<- hm] at HM;clear hm hb hx hs;go_enter Tryz.func119,Tryz.ntmps119;go_wp2_with fail;refine HM.out.mono ?_;rintro e w1 ⟨rfl,b⟩;have c:=Z b;clear b;go_wp2_with fail;refine(Vu m w1 d2).mono ?_;rintro e w2 ⟨rfl,f2⟩;go_wp2_with fail;have B:Blk (w2.alloc (.cells (YU m).cells.toArray 37)) w2.heap.size (YU m).cells 37:=Blk.new w2 (YU m).cells _;have f3:Fr Nil w1 (w2.alloc (.cells (YU m).cells.toArray 37)):=f2.alloc _;have G:w.heap.size<=w2.heap.size:=IP c.out.fr.size f2.size;simp only[YU,Ver.cells] at B f3;generalize w2.alloc (.cells #[.int .i64 m,.int .i64 m,.int .i64 0,.int .i64 0,.int .i64 0,.int .i64 0,.string (Yb m),.bool true] 37)=w3 at B f3 |-;generalize w2.heap.size=xb at B G |-;have a3:=Z B;have c3:Hid (V.heap.size<=xb):=IP F0.out.size G;have y:Hid (¬(Value.slice la l.length lc).ownBlock=some xb):=fun e=>by have:=b2.out xb e;omega
 have a4:Hid (WStep K L V L (W.Bo W.bk) w3):=(WStep.nil H0.out F0.out).trans (c.out.trans (WStep.nil c.out.CZ f3));have N:Hid (VRow w3 (.slice la l.length lc) l):=zb (zb HL.out c.out.fr (fun k e Q=>(H0.out.nil F0.out).yt HL.out k Q e)) f3 (fun _ _=>id);generalize d4:l.length=n at N HN u y |-;have b4:=Z d4;have R:n<100000:=u.out;clear B f3 f2 G c HL HM d4 b2 d2
 go_loopw [6] (fun t6 w'=>∃ i:Nat,∃ l':List Ver,i<=n/\t6=.int .i64 i/\l'.length=n/\VRow w' (.slice la n lc) l'/\Fr (fun k=>(Value.slice la n lc).ownBlock=some k) w3 w') (fun t6 _=>n-(intOf t6).toNat)
 case atStart=>exact⟨0,l,Hg _,rfl,b4.out,N.out,O _ _⟩
 case round =>
  obtain⟨i,l',hi,rfl,q,hv,D⟩:=hrel;have HV:=Z hv;have HF:=Z D;have t:=Z q;by_cases F:i<n
  .obtain⟨g,rfl⟩:∃ g,la=some ⟨g,0,none⟩:=by
    obtain⟨g,h4,e,_⟩:=zm hv (by omega);simp at e;exact⟨g,e.1⟩
   have hx:=(a3.out.fr D y.out).cell;have I:=hv;unfold VRow at I;rw[q] at I;have hz:∀ k,wr.frozen? ⟨g,k,none⟩=false:=fun k=>Xv I k;have C:=VRow.cells I i (by rw[q];exact F);obtain⟨x,e0⟩:∃ x,x=l'[i]'(by rw[q];exact F):=⟨_,rfl⟩;have g0:=C 0 (by omega);have g1:=C 1 (by omega);have g2:=C 2 (by omega);have g3:=C 3 (by omega);have g4:=C 4 (by omega);have g5:=C 5 (by omega);have g6:=C 6 (by omega);have g7:=C 7 (by omega);rw[<- e0] at g0 g1 g2 g3 g4 g5 g6 g7;simp only[Ver.cells,Fx] at g0 g1 g2 g3 g4 g5 g6 g7;clear hv I D q C e0;go_wp2_with fail;have d7:=HV.out.yY t.out.symm i (by rw[t.out];exact F) (YU m);refine⟨⟨i+1,l'.set i (YU m),by omega,by push_cast;rfl,by rw[DE];exact t.out,d7,?_⟩,by simp[intOf];omega⟩;have hF:=HF.out;exact za
  .have hin:i=n:=by omega
   subst hin;have b5:=Z (a4.out.An HF.out HN.out (fun k Q e=>a4.out.CZ.yt N.out k Q e) H0.out.low);have e8:=Z (JO.mk (i:=0) (n:=i) (m:=m) ⟨l',L,W.bk,HV.out,HN.out,t.out,b5.out,rfl,rfl,rfl,rfl,rfl,rfl,rfl⟩ (a3.out.fr HF.out y.out) c3.out y.out);clear hv D q;go_wp2_with fail;clear b5 HV HF t N a3 y a4 HN c3 u b4 hi F
   go_loopw [1,7] (fun t1 t7 w'=>∃ j:Nat,j<=4/\t7=.int .i64 j/\JO K L W V i xb m j t1 w') (fun _ t7 _=>4-(intOf t7).toNat)
   case atStart=>exact⟨0,by omega,rfl,e8.out⟩
   case round =>
    obtain⟨j,hj,rfl,a9⟩:=hrel;have a2:=Z a9;by_cases F:j<4
    .obtain⟨⟨l1,L1,a,o,S,E,b,e1,e2,e3,e4,e5,e6,e7⟩,hbx1,_,_⟩:=a9
     have b9:=Z o;have b3:=Z S;have f1:=Z E;have c:=Z b;have HE:=Z (And.intro e1 (And.intro e2 (And.intro e3 (And.intro e4 (And.intro e5 (And.intro e6 e7))))));have X:=Z hbx1;have d1:l1.length<1000000:=by omega
     unfold VRow at o;rw[E] at o;obtain⟨a1,c1,rfl⟩:=zc o;have T:=b.wb;have A:=b.CZ.CY;rw[T] at A;obtain⟨va,vc,J⟩:∃ va vc,L1.vs=.slice va a.vs.length vc:=zc b.CZ.book.vs;obtain⟨ma,mc,b0⟩:∃ ma mc,L1.vm=.slice ma a.vm.length mc:=zc b.CZ.book.vm;have d9:a.vs.length<1000000000:=by have:=b6.out.vs;omega
     have d8:a.vm.length<1000000000:=by have:=b6.out.vm;omega
     have C:=A.cell;simp only[WM.cells,WM.Bo,J,b0] at C;have h1:=hbx1.cell;simp only[YU,Ver.cells] at h1;have z:=Z b.CZ.book.vs;have a7:=Z T;have h3:=Z J;have a6:=Z b0;rw[J] at z;have b1:Hid (∀ r:World,Fr (fun k=>(Value.slice va a.vs.length vc).ownBlock=some k) wr r->Blk r L.wb ((W.Bo a).cells L1) 49):=fun r f=>A.fr f (zd z.out A (by decide));have b7:Hid (∀ (p:Value) (r:World) (n:Nat),n=a.vs.length+1->r.ownsRow 0 61 1 p n (a.vs++[.slice a1 (i+j) c1])->Fr (fun k=>(Value.slice va a.vs.length vc).ownBlock=some k) wr r->(∀ k,p.ownBlock=some k->(Value.slice va a.vs.length vc).ownBlock=some k\/wr.heap.size<=k) ->
      WStep K L1 wr {L1 with vs:=p} (W.Bo {a with vs:=a.vs++[.slice a1 (i+j) c1]}) (r.setCell ⟨L.wb,17,none⟩ p)):=fun p r n e ho D R=>by rw[<- T];rw[<- J] at D R;exact Iz c.out.CZ e ho D R
     clear o S E b e1 e2 e3 e4 e5 e6 e7 hbx1 T J b0 A
     go_wp2_with (at_builtin;(first
      | (refine zk rfl _ _ _ _ rfl _ _ (by rfl) (by rfl) (Zw _ _ l1 c2.out (YU m) d1 _ za _ (by exact Blk.newAt _ (YU m).cells _ _ (by simp[World.setCell])) _) ?_;rintro v8 w8 ⟨g9,d0,d3⟩)
      | (refine zk rfl _ _ _ _ rfl _ _ (by rfl) (by rfl) (Xm Eh Uw (by decide) _ _ _ _ h.out (.int .i64 m) rfl d8 _ za _ (by exact Blk.newAt _ [_] _ _ (by simp[World.setCell])) _) ?_;rintro v6 M ⟨d6,c9,g8⟩;have c6:=e9.out _ c9;have f7:=c6.cell;simp only[WM.cells,WM.Bo] at f7;have h6:=c6.frozen;have a5:=Z (b8.out _ _ _ rfl d6 c9 g8);have c2:Hid (VRow _ (.slice a1 (i+j) c1) l1):=zb c0.out a5.out.fr (fun k e Q=>d.out.CZ.yt c0.out k Q e);have s:=Z (Y.out.fr a5.out.fr (d.out.CZ.yu Y.out JP));have h2:=s.out.cell;simp only[YU,Ver.cells] at h2;obtain⟨h8,i0,rfl⟩:=zc d6)
      | (refine zk rfl _ _ _ _ rfl _ _ (by rfl) (by rfl) (Xm Tryz.underlying43 Iw (by decide) wr _ _ _ z.out (.slice a1 (i+j) c1) rfl d9 _ za _ (by exact Blk.new _ [_] _) _) ?_;rintro p r ⟨d5,c8,f9⟩;have c5:=b1.out _ c8;have f6:=c5.cell;simp only[WM.cells,WM.Bo,a6.out] at f6;have h5:=c5.frozen;have d:=Z (b7.out _ _ _ rfl d5 c8 f9);have c0:Hid (VRow _ (.slice a1 (i+j) c1) l1):=zb b9.out d.out.fr (fun k e Q=>c.out.CZ.yt b9.out k Q e);have Y:=Z (X.out.fr d.out.fr (c.out.CZ.yu X.out JP));have h:=Z d.out.CZ.book.vm;rw[show({L1 with vs:=p}:WL).vm=.slice ma a.vm.length mc from a6.out] at h;have e9:Hid (∀ M:World,Fr (fun k=>(Value.slice ma a.vm.length mc).ownBlock=some k) _ M->Blk M L.wb ((W.Bo {a with vs:=a.vs++[.slice a1 (i+j) c1]}).cells {L1 with vs:=p}) 49):=(fun M f=>by rw[<- a7.out];exact d.out.CZ.CY.fr f (zd h.out d.out.CZ.CY (by decide)));have b8:Hid (∀ (v6:Value) (M:World) (n:Nat),n=a.vm.length+1->M.ownsRow 0 3 1 v6 n (Y9 a.vm++[.int .i64 m])->Fr (fun k=>(Value.slice ma a.vm.length mc).ownBlock=some k) (r.setCell ⟨L.wb,17,none⟩ p) M->(∀ k,v6.ownBlock=some k->(Value.slice ma a.vm.length mc).ownBlock=some k\/(r.setCell ⟨L.wb,17,none⟩ p).heap.size<=k)->WStep K {L1 with vs:=p} (r.setCell ⟨L.wb,17,none⟩ p) {L1 with vs:=p,vm:=v6} (W.Bo {a with vs:=a.vs++[.slice a1 (i+j) c1],vm:=a.vm++[m]}) (M.setCell ⟨L.wb,18,none⟩ v6)):=(fun v6 M n e ho D R=>by rw[<- a7.out] at D R |-;rw[<- a6.out] at D R;have hr:=d.out.CZ;rw[<- a7.out] at hr;exact IA (L1:={L1 with vs:=p}) (W1:=W.Bo {a with vs:=a.vs++[.slice a1 (i+j) c1]}) (m:=m) hr e ho D R);obtain⟨h7,h9,rfl⟩:=zc d5)))
     have a8:=c.out.trans (d.out.trans a5.out);have f5:WStep K L V _ _ w8:=a8.An d0 b3.out (fun k Q e=>a8.CZ.yt c2.out k Q e) H0.out.low;have f8:V.heap.size<=(M.setCell ⟨L.wb,18,none⟩ _).heap.size:=a8.fr.size;have c7:=s.out.fr d0 a2.out.Az;obtain⟨e1,e2,e3,e4,e5,e6,e7⟩:=HE.out;refine⟨⟨j+1,by omega,by push_cast;rfl,⟨⟨l1++[YU m],_,_,g9,fun k e=>(d3 k e).elim (b3.out k) (fun e=>IP f8 e),by rw[IM,IU,f1.out];omega,f5,?_,?_,e3,e4,e5,e6,e7⟩,c7,a2.out.low,fun e=>(d3 xb e).elim a2.out.Az (fun e=>by have:=s.out.lt;omega)⟩⟩,by simp[intOf];omega⟩
     .simp only[IM,IU];omega
     .simp only[IM,IU];omega
    .have hj4:j=4:=by omega
     subst hj4;obtain⟨⟨l1,L1,a,o,S,E,b,e1,e2,e3,e4,e5,e6,e7⟩,_,_,_⟩:=a9;have c:=Z b;have HE:Hid (Booked W.bk a):=⟨by omega,by omega,by rw[e3];omega,by rw[e4];omega,by rw[e5];omega,by rw[e6];omega⟩;have f4:=Z e7;clear o S E b e1 e2 e3 e4 e5 e6 e7;go_wp2_with fail;exact GC (v:=.tuple #[]) (by simp[results,go_sem]) rfl ⟨rfl,L1,a,c.out,HE.out,f4.out⟩
def K4(l:List Ver):Prop:=∀ x∈l,x.Nat/\x.gone=false
theorem Q7(b:Nat)(l:List Ver)(r:List UInt8)(w:World)(h:Src w b (ZN l++r) false)(hl:K4 l)(a2:l.length<1000000) :
 Calls Tryz.prog 151 #[.pointer (some ⟨b,0,none⟩),.func (.func 152) #[] #[]] w fun e d =>
  ∃ v,e=.returned v/\(VRow d v l/\∀ k,v.ownBlock=some k->w.heap.size<=k)/\Read1 w b r d:=by
 have e1:ZN l++r=zi l.length++((l.map ZY).flatten++r):=by simp[ZN]
 rw[e1] at h;have a0:=h.lt;have HH:=Z h;clear h e1;have HL:=Z hl;clear hl;go_enter Tryz.func151,Tryz.ntmps151
 go_wp2_with (refine(zM b l.length _ _ HH.out (by omega)).mono ?_;rintro e w1 ⟨rfl,t,p⟩;have T:=Z (And.intro t p);clear t p)
 go_loopw [5,9] (fun t5 S d=>∃ i:Nat,i<=l.length/\S=.int .i64 (i:Int)/\VRow d t5 (l.take i)/\(∀ k,t5.ownBlock=some k->w.heap.size<=k)/\Src d b (((l.drop i).map ZY).flatten++r) false/\Fr (fun k=>k=b) w d) (fun _ S _=>(l.length-intOf S).toNat)
 case atStart=>exact⟨0,by omega,rfl,⟨by simp[zU],.inl ⟨rfl,rfl⟩⟩,fun k m=>by simp[Value.ownBlock] at m,T.out.1,T.out.2⟩
 case round =>
  obtain⟨i,hi,rfl,a,c,o,L⟩:=hrel;by_cases g:i<l.length
  .have e2:((l.drop i).map ZY).flatten++r=ZY l[i]++(((l.drop (i+1)).map ZY).flatten++r):=by
    rw[Gm g];simp only[Ht,Fh,Hu]
   rw[e2] at o;have hx:=HL.out l[i] (IX g);have K:=Z hx;have X:=Z o;have Y:Hid (l.take (i+1)=l.take i++[l[i]]):=by
    show l.take (i+1)=_;rw[EM,IW g];rfl
   clear o e2 hx;generalize R:l[i]=x at K X Y;obtain⟨va,vc,s⟩:=zc a;rw[show(l.take i).length=i by simp;omega] at s;subst s;have HR:=Z a;have y:=Z c;have V:=Z L;clear a c L R;have M:(l.take i).length<1000000:=by simp;omega
   obtain⟨E,F,z,A,B,C,G,D⟩:=x;have HC:Hid (∀ u,Src u b (ZY ⟨E,F,z,A,B,C,G,D⟩++(((l.drop (i+1)).map ZY).flatten++r)) false->Calls Tryz.prog 152 #[.pointer (some ⟨b,0,none⟩)] u fun e d =>
    e=.returned (.agg #[.int .i64 E,.int .i64 F,.int .i64 z,.int .i64 A,.int .i64 B,.int .i64 C,.string G,.bool D])/\Read1 u b (((l.drop (i+1)).map ZY).flatten++r) d) :=
    fun u hs=>UB b ⟨E,F,z,A,B,C,G,D⟩ K.out.1 K.out.2 _ u hs
   go_wp2_with (first
    | (at_builtin;go_must (refine zk rfl _ _ _ _ rfl _ _ (by rfl) (by rfl) (Zw _ _ _ J.out ⟨E,F,z,A,B,C,G,D⟩ M _ (by repeat' first|(with_reducible exact O _ _)|(with_reducible refine Fr.alloc ?_ _)|(with_reducible refine Fr.set ?_ ?_ _)|(intro h;exact absurd h (by simp))) _ (by exact Blk.newAt _ [_,_,_,_,_,_,_,_] _ _ (by simp)) _) ?_);rintro v' w3 ⟨Q,q,N⟩)
    | (refine(HC.out _ X.out).mono ?_;rintro e w2 ⟨rfl,j,f⟩;have a1:=fun ob=>(Blk.alloc j ob).cell;have I:=Z (And.intro j f);have J:=Z (VRow.fr HR.out f (fun k m e=>by have:=y.out k m;omega));clear j f))
   refine⟨⟨i+1,by omega,by go_num,by rw[Y.out];exact Q,fun k m=>?_,?_,?_⟩,by simp[intOf];omega⟩
   .have:=V.out.size
    have:=I.out.2.size;rcases N k m with h1|h1
    .exact y.out k h1
    .omega
   .exact I.out.1.fr q (fun e=>by have:=y.out b e;omega)
   .exact(V.out.trans I.out.2).trans' q (fun k m e=>absurd (y.out k e) (by omega))
  .have hil:i=l.length:=by omega
   subst hil;go_wp2_with fail;go_ret;rw[HZ] at a;rw[Co] at o;exact⟨_,rfl,⟨a,c⟩,o,L⟩
end Go.Proofs.YtkhnggkkiefcdaaGreatDoor
