/- larder: joined texts -/
import Derived.Test.YtkhnggkkiefcdaaGreatDoorNMAT
import Derived.Test.YtkhnggkkiefcdaaGreatDoorNMAU
import Derived.Test.YtkhnggkkiefcdaaGreatDoorNMAX
import Derived.OpenShut
import Derived.Deep.Slices
import Derived.LaidSub
import Derived.Lib.LaidTab
import Derived.Stop.LaidErr
namespace Go.Proofs.YtkhnggkkiefcdaaGreatDoor
open Go.RowKit
set_option maxRecDepth 100000
set_option maxHeartbeats 8000000
abbrev Cx:=@Go.laidMetH_iff
structure Trn(M M':DM):Prop where
 lg:∀ y p t,Lg M y p t->Lg M' y p t
 safe:M'.safe=M.safe
 dir:M'.dir=M.dir
 CD:M'.CD=M.CD
 bytes:∀ g,(M'.file g).bytes=(M.file g).bytes
 room:M'.room=M.room
 dead:M'.dead=M.dead
theorem Trn.cut(M:DM)(m:Int):Trn M (M.Bl m):=⟨fun _ _ _ h=>h.Bl m,rfl,rfl,rfl,fun _=>rfl,rfl,rfl⟩
theorem Trn.fail(M:DM)(m b:Int)(a:InR b):Trn M (M.CY m b):=⟨fun _ _ _ h=>h.CY m b a.1 a.2,rfl,rfl,rfl,fun _=>rfl,rfl,rfl⟩
theorem Sh.yU{W:WM}{M a:DM}{F:List Fact}{p t:Nat}(h:Sh W M F p t)(k:Trn M a):Sh W a F p t:=by
 obtain⟨y,c,b⟩:=h.lg;exact⟨⟨y,k.lg _ _ _ c,b⟩,h.cm,k.room.trans h.room,by rw[k.dead];exact h.all⟩
theorem Now.yU{W:WM}{N:NM}{M a:DM}{t:Nat}(h:Now W N M t)(k:Trn M a):Now W N a t:=by
 rcases h with⟨F,p,h⟩|⟨b,c,d,e,F,p,h⟩
 .exact .inl ⟨F,p,h.CN (fun y=>k.lg y p t) k.safe k.dir k.CD k.bytes k.room k.dead⟩
 .exact .inr ⟨b,k.dead.trans c,d,e,F,p,h.yU k⟩
theorem Mp{w0 w:World}{T n t:Nat}(h:Yj w0 w T n t)(o:OpM)(V:Option Addr)(tn tc:Nat)(A:o.Bw=.slice V tn tc)(G:o.kind≠1)(k:o.kind≠12)(l:o.kind≠13)(m:o.kind≠14)(I:o.kind≠2)(J:o.kind≠3)(K:o.kind≠4)(L:o.kind≠7)(O:o.kind≠9)(j:o.kind≠11)(p:o.kind≠15) :
 Calls Tryz.prog 68 #[.pointer (some ⟨T,0,none⟩),.agg o.Ba.toArray] w (YS w0 T n (t+10)):=by
 obtain⟨i,C,ns,W,X,N,M,R,y,hn⟩:=h;obtain⟨d,a,b,c,B,g,v,Y⟩:=o;simp only at A G k l m I J K L O j p;subst A;simp only[OpM.Ba,Ver.cells,It,IE];have E:Fr Nil w (w.alloc (.cells #[.int .i64 d,.int .i64 a,.int .i64 b,.string B,.string g,.int .i64 v.node,.int .i64 v.seq,.int .i64 v.o0,.int .i64 v.o1,.int .i64 v.o2,.int .i64 v.o3,.string v.value,.bool v.gone,(.slice V tn tc)] 89)):=(U _ _).alloc _;have x:=Blk.new w [.int .i64 d,.int .i64 a,.int .i64 b,.string B,.string g,.int .i64 v.node,.int .i64 v.seq,.int .i64 v.o0,.int .i64 v.o1,.int .i64 v.o2,.int .i64 v.o3,.string v.value,.bool v.gone,(.slice V tn tc)] 89;have g1:¬d=1:=G;have a1:¬d=12:=k;have a2:¬d=13:=l;have a3:¬d=14:=m;have g2:¬d=2:=I;have g3:¬d=3:=J;have g4:¬d=4:=K;have g7:¬d=7:=L;have g9:¬d=9:=O;have a0:¬d=11:=j;have a4:¬d=15:=p;clear G k l m I J K L O j p;have f:=y.nil E;have Q:=f.st.CB.cell;have a6:=f.st.CB.frozen;have a5:=x.cell;simp only[zm] at Q;have s:=Z ((R.nil E).up (R.nil E).row (Wup.refl W) (u:=t+10) (by omega));have q:=Z f;have r:=Z (hn.more (u:=t+10) (by omega));have D:=Z (ZQ _ X.db X.LD M f.st.node.CN);clear f y R E x;go_enter GN,Gx;cases hdd:M.dead with
 | true =>
  rw[hdd] at D
  go_wp2_with (refine D.out.mono ?_;rintro e wx ⟨rfl,S⟩;subst wx)
  go_ret;exact⟨rfl,.inr (Yj.shut q.out r.out s.out (Wup.refl _) (JS _))⟩
 | false =>
  rw[hdd] at D
  go_wp2_with (refine D.out.mono ?_;rintro e wx ⟨rfl,S⟩;subst wx)
  go_ret;exact⟨rfl,.inl ⟨i,C,ns,W,X,N,_,s.out,q.out,r.out⟩⟩
theorem Mq{K w:World}{A n t:Nat}(h:PF K w A n t)(o:OpM)(E:Option Addr)(J I:Nat)(s:o.Bw=.slice E J I)(B:o.kind≠1)(g:o.kind≠12)(i:o.kind≠13)(j:o.kind≠14) :
 Calls Tryz.prog 68 #[.pointer (some ⟨A,0,none⟩),.agg o.Ba.toArray] w (YS K A n (t+10)):=by
 obtain⟨f,y,V,W,O,N,M,D,m,F,p,r⟩:=h;obtain⟨d,a,b,c,x,e,v,G⟩:=o;simp only at s B g i j;subst s;simp only[OpM.Ba,Ver.cells,It,IE];have l:Fr Nil w (w.alloc (.cells #[.int .i64 d,.int .i64 a,.int .i64 b,.string x,.string e,.int .i64 v.node,.int .i64 v.seq,.int .i64 v.o0,.int .i64 v.o1,.int .i64 v.o2,.int .i64 v.o3,.string v.value,.bool v.gone,(.slice E J I)] 89)):=(U _ _).alloc _;have q:=Blk.new w [.int .i64 d,.int .i64 a,.int .i64 b,.string x,.string e,.int .i64 v.node,.int .i64 v.seq,.int .i64 v.o0,.int .i64 v.o1,.int .i64 v.o2,.int .i64 v.o3,.string v.value,.bool v.gone,(.slice E J I)] 89;have X:¬d=1:=B;have Q:¬d=12:=g;have R:¬d=13:=i;have S:¬d=14:=j;clear B g i j;have k:=m.st.CB.fr l id;have C:=k.cell;have T:=q.cell;simp only[zm] at C;have L:Hid (Str K _ A n (t+10)):=.inr ⟨f,y,V,W,O,N,M,(D.nil l).up (D.nil l).row (Wup.refl W) (u:=t+10) (by omega),⟨⟨k,m.st.CN.nil l⟩,m.fr.trans l,m.low,m.new⟩,F,p,r.more (by omega)⟩;clear k m D l q r;go_enter GN,Gx;go_wp2_with fail;go_ret;exact⟨rfl,L.out⟩
theorem LR{w0 w:World}{J n t:Nat}(h:Yj w0 w J n t)(o:OpM)(r:Option Addr)(x s:Nat)(a0:o.Bw=.slice r x s)(hk:o.kind=13)(ha:InR o.a) :
 Calls Tryz.prog 68 #[.pointer (some ⟨J,0,none⟩),.agg o.Ba.toArray] w (YS w0 J n (t+10)):=by
 obtain⟨G,a1,ns,W,X,N,M,hs,Y,hn⟩:=h;obtain⟨a8,a,b,c,i,g,v,a7⟩:=o;simp only at hk a0 ha;subst hk a0;simp only[OpM.Ba,Ver.cells,It,IE];have f1:Fr Nil w (w.alloc (.cells #[.int .i64 13,.int .i64 a,.int .i64 b,.string i,.string g,.int .i64 v.node,.int .i64 v.seq,.int .i64 v.o0,.int .i64 v.o1,.int .i64 v.o2,.int .i64 v.o3,.string v.value,.bool v.gone,(.slice r x s)] 89)):=(U _ _).alloc _;have p:=Blk.new w [.int .i64 13,.int .i64 a,.int .i64 b,.string i,.string g,.int .i64 v.node,.int .i64 v.seq,.int .i64 v.o0,.int .i64 v.o1,.int .i64 v.o2,.int .i64 v.o3,.string v.value,.bool v.gone,(.slice r x s)] 89;have j:=Y.nil f1;have q:=j.st.CB.cell;have I:=p.cell;simp only[zm] at q;have HP:=Z (fun d (f:Fr Nil _ d)=>WO (1+(zA a 40:Nat):Int) d X.db X.LD M (j.nil f).st.node.CN);have D:=Z (hs.nil f1);have E:=Z j.st.CB;have m:=Z j.st.node.CN;have y:=Z p;have O:=Z j;have R:Hid (∀ d,Calls Tryz.prog 21 #[.int .i64 a,.int .i64 40] d fun e w'=>e=.returned (.int .i64 (zA a 40:Nat))/\Fr Nil d w'):=fun d=>(ZU a 40 d ha.1 ha.2 (by decide) (by decide)).mono (fun _ w' h=>⟨h.1,by rw[h.2];exact U _ _⟩);have a9:(zA a 40:Int)<40:=by have:=YR a (n:=40) (by decide);omega
 have b0:IntKind.i64.wrap (1+(zA a 40:Int))=1+(zA a 40:Int):=by rw[IB];omega
 clear f1 j Y hs;go_enter GN,Gx;go_wp2_with fail;generalize w.alloc (.cells #[.int .i64 13,.int .i64 a,.int .i64 b,.string i,.string g,.int .i64 v.node,.int .i64 v.seq,.int .i64 v.o0,.int .i64 v.o1,.int .i64 v.o2,.int .i64 v.o3,.string v.value,.bool v.gone,(.slice r x s)] 89)=K at q I HP D E y m O p |-;have a4:K.cell? ⟨J,0,none⟩=some (.pointer (some ⟨X.db,0,none⟩))/\∀ k,K.cell? ⟨w.heap.size,k,none⟩=[.int .i64 13,.int .i64 a,.int .i64 b,.string i,.string g,.int .i64 v.node,.int .i64 v.seq,.int .i64 v.o0,.int .i64 v.o1,.int .i64 v.o2,.int .i64 v.o3,.string v.value,.bool v.gone,(.slice r x s)][k]?:=⟨q 0,I⟩;have A:Hid (∀ d,Fr (fun k=>k=X.db) K d->d.cell? ⟨J,0,none⟩=some (.pointer (some ⟨X.db,0,none⟩))/\∀ k,d.cell? ⟨w.heap.size,k,none⟩=[.int .i64 13,.int .i64 a,.int .i64 b,.string i,.string g,.int .i64 v.node,.int .i64 v.seq,.int .i64 v.o0,.int .i64 v.o1,.int .i64 v.o2,.int .i64 v.o3,.string v.value,.bool v.gone,(.slice r x s)][k]?):=fun d f=>⟨(E.out.fr f (fun e=>m.out.apart E.out.ty (by unfold DTy;decide) (e▸.CB))).cell 0,(y.out.fr f (fun e=>m.out.apart y.out.ty (by unfold DTy;decide) (e▸.CB))).cell⟩;have B:Hid (∀ d,Fr Nil K d->d.cell? ⟨J,0,none⟩=some (.pointer (some ⟨X.db,0,none⟩))/\∀ k,d.cell? ⟨w.heap.size,k,none⟩=[.int .i64 13,.int .i64 a,.int .i64 b,.string i,.string g,.int .i64 v.node,.int .i64 v.seq,.int .i64 v.o0,.int .i64 v.o1,.int .i64 v.o2,.int .i64 v.o3,.string v.value,.bool v.gone,(.slice r x s)][k]?):=fun d f=>A.out d (f.mono (fun _ _ e=>absurd e id))
 go_region_held3 (fun d=>d.cell? ⟨J,0,none⟩=some (.pointer (some ⟨X.db,0,none⟩))/\∀ k,d.cell? ⟨w.heap.size,k,none⟩=[.int .i64 13,.int .i64 a,.int .i64 b,.string i,.string g,.int .i64 v.node,.int .i64 v.seq,.int .i64 v.o0,.int .i64 v.o1,.int .i64 v.o2,.int .i64 v.o3,.string v.value,.bool v.gone,(.slice r x s)][k]?) (first|assumption|go_keep|exact B.out _ zd)
  (first
    | (go_at_call 37;refine(HP.out _ C.out).mono ?_;rintro e w2 ⟨rfl,T,V⟩;have F2:Fr (fun k=>k=X.db) K w2:=(C.out.mono (fun _ _ e=>absurd e id)).trans V;have a5:=A.out w2 F2)
    | (go_at_call 21;refine(R.out _).mono ?_;rintro e wc ⟨rfl,fc⟩;have C:Hid (Fr Nil K wc):=Fr.trans zd fc;have a6:=B.out wc C.out;clear fc))
 have l:=O.out.CL T F2 (fun k hk=>hk);have S:=Z (D.out.up (D.out.row.CN m.out (F2.mono (fun _ _ e=>e▸.CB))) (Wup.refl W) (u:=t+10) (by omega));have L:=Z l;have Q:=Z ((hn.yU (Trn.cut M (1+(zA a 40:Nat):Int))).more (u:=t+10) (by omega));have a2:=l.st.CB.cell;have b1:=l.st.CB.frozen;simp only[zm] at a2;have HD:=Z (ZQ w2 X.db X.LD _ l.st.node.CN);clear l T V F2 a4 a5 a6 HP q I A B p R;cases hdd:(M.Bl (1+(zA a 40:Nat):Int)).dead with
 | true =>
  rw[hdd] at HD
  go_wp2_with (refine HD.out.mono ?_;rintro e d ⟨rfl,a3⟩;subst d)
  go_ret;exact⟨rfl,.inr (Yj.shut L.out Q.out S.out (Wup.refl _) (JS _))⟩
 | false =>
  rw[hdd] at HD
  go_wp2_with (refine HD.out.mono ?_;rintro e d ⟨rfl,a3⟩;subst d)
  go_ret;exact⟨rfl,.inl ⟨G,a1,ns,W,X,N,_,S.out,L.out,Q.out⟩⟩
theorem LT{w0 w:World}{x n t:Nat}(h:PF w0 w x n t)(o:OpM)(y:Option Addr)(B A:Nat)(a1:o.Bw=.slice y B A)(hk:o.kind=13)(ha:InR o.a) :
 Calls Tryz.prog 68 #[.pointer (some ⟨x,0,none⟩),.agg o.Ba.toArray] w (YS w0 x n (t+10)):=by
 obtain⟨J,a2,ns,W,q,LD,M,hs,V,F,p,a0⟩:=h;obtain⟨a8,a,b,c,j,d,v,a7⟩:=o;simp only at hk a1 ha;subst hk a1;simp only[OpM.Ba,Ver.cells,It,IE];have T:Fr Nil w (w.alloc (.cells #[.int .i64 13,.int .i64 a,.int .i64 b,.string j,.string d,.int .i64 v.node,.int .i64 v.seq,.int .i64 v.o0,.int .i64 v.o1,.int .i64 v.o2,.int .i64 v.o3,.string v.value,.bool v.gone,(.slice y B A)] 89)):=(U _ _).alloc _;have r:=Blk.new w [.int .i64 13,.int .i64 a,.int .i64 b,.string j,.string d,.int .i64 v.node,.int .i64 v.seq,.int .i64 v.o0,.int .i64 v.o1,.int .i64 v.o2,.int .i64 v.o3,.string v.value,.bool v.gone,(.slice y B A)] 89;have O:=V.st.CB.fr T id;have N:=V.st.CN.nil T;have s:=O.cell;have L:=r.cell;simp only[zm] at s;have HP:=Z (fun g (f:Fr Nil _ g)=>WO (1+(zA a 40:Nat):Int) g q LD M (N.nil f));have I:=Z (hs.nil T);have m:=Z O;have l:=Z N;have C:=Z r;have HF:=Z (V.fr.trans T);have HC:=Z V;have S:Hid (∀ g,Calls Tryz.prog 21 #[.int .i64 a,.int .i64 40] g fun e w'=>e=.returned (.int .i64 (zA a 40:Nat))/\Fr Nil g w'):=fun g=>(ZU a 40 g ha.1 ha.2 (by decide) (by decide)).mono (fun _ w' h=>⟨h.1,by rw[h.2];exact U _ _⟩);have a9:(zA a 40:Int)<40:=by have:=YR a (n:=40) (by decide);omega
 have b0:IntKind.i64.wrap (1+(zA a 40:Int))=1+(zA a 40:Int):=by rw[IB];omega
 clear T O N V hs;go_enter GN,Gx;go_wp2_with fail;generalize w.alloc (.cells #[.int .i64 13,.int .i64 a,.int .i64 b,.string j,.string d,.int .i64 v.node,.int .i64 v.seq,.int .i64 v.o0,.int .i64 v.o1,.int .i64 v.o2,.int .i64 v.o3,.string v.value,.bool v.gone,(.slice y B A)] 89)=Q at s L HP I m C l HF r |-;have a4:Q.cell? ⟨x,0,none⟩=some (.pointer (some ⟨q,0,none⟩))/\∀ k,Q.cell? ⟨w.heap.size,k,none⟩=[.int .i64 13,.int .i64 a,.int .i64 b,.string j,.string d,.int .i64 v.node,.int .i64 v.seq,.int .i64 v.o0,.int .i64 v.o1,.int .i64 v.o2,.int .i64 v.o3,.string v.value,.bool v.gone,(.slice y B A)][k]?:=⟨s 0,L⟩;have D:Hid (∀ g,Fr (fun k=>k=q) Q g->g.cell? ⟨x,0,none⟩=some (.pointer (some ⟨q,0,none⟩))/\∀ k,g.cell? ⟨w.heap.size,k,none⟩=[.int .i64 13,.int .i64 a,.int .i64 b,.string j,.string d,.int .i64 v.node,.int .i64 v.seq,.int .i64 v.o0,.int .i64 v.o1,.int .i64 v.o2,.int .i64 v.o3,.string v.value,.bool v.gone,(.slice y B A)][k]?):=fun g f=>⟨(m.out.fr f (fun e=>l.out.apart m.out.ty (by unfold DTy;decide) (e▸.CB))).cell 0,(C.out.fr f (fun e=>l.out.apart C.out.ty (by unfold DTy;decide) (e▸.CB))).cell⟩;have E:Hid (∀ g,Fr Nil Q g->g.cell? ⟨x,0,none⟩=some (.pointer (some ⟨q,0,none⟩))/\∀ k,g.cell? ⟨w.heap.size,k,none⟩=[.int .i64 13,.int .i64 a,.int .i64 b,.string j,.string d,.int .i64 v.node,.int .i64 v.seq,.int .i64 v.o0,.int .i64 v.o1,.int .i64 v.o2,.int .i64 v.o3,.string v.value,.bool v.gone,(.slice y B A)][k]?):=fun g f=>D.out g (f.mono (fun _ _ e=>absurd e id))
 go_region_held3 (fun g=>g.cell? ⟨x,0,none⟩=some (.pointer (some ⟨q,0,none⟩))/\∀ k,g.cell? ⟨w.heap.size,k,none⟩=[.int .i64 13,.int .i64 a,.int .i64 b,.string j,.string d,.int .i64 v.node,.int .i64 v.seq,.int .i64 v.o0,.int .i64 v.o1,.int .i64 v.o2,.int .i64 v.o3,.string v.value,.bool v.gone,(.slice y B A)][k]?) (first|assumption|go_keep|exact E.out _ zd)
  (first
    | (go_at_call 37;refine(HP.out _ G.out).mono ?_;rintro e w2 ⟨rfl,X,Y⟩;have R:Fr (fun k=>k=q) Q w2:=(G.out.mono (fun _ _ e=>absurd e id)).trans Y;have a5:=D.out w2 R)
    | (go_at_call 21;refine(S.out _).mono ?_;rintro e wc ⟨rfl,fc⟩;have G:Hid (Fr Nil Q wc):=Fr.trans zd fc;have a6:=E.out wc G.out;clear fc))
 have K:=m.out.fr R (fun e=>l.out.apart m.out.ty (by unfold DTy;decide) (e▸.CB));have a3:=K.cell;simp only[zm] at a3;have HR:Hid (Str w0 w2 x n (t+10)):=.inr ⟨J,a2,ns,W,q,LD,_,I.out.up (I.out.row.CN l.out (R.mono (fun _ _ e=>e▸.CB))) (Wup.refl W) (u:=t+10) (by omega),⟨⟨K,X⟩,HF.out.trans' R (fun i hi e=>by have:=HC.out.new q .CB;omega),HC.out.low,HC.out.new⟩,F,p,(a0.yU (Trn.cut M (1+(zA a 40:Nat):Int))).more (by omega)⟩;clear K X Y R a4 a5 a6 HP s L D E r S a0;go_wp2_with fail;go_ret;exact⟨rfl,HR.out⟩
theorem LU{w0 w:World}{J n t:Nat}(h:Yj w0 w J n t)(o:OpM)(r:Option Addr)(x s:Nat)(a0:o.Bw=.slice r x s)(hk:o.kind=14)(ha:InR o.a)(hb:InR o.b) :
 Calls Tryz.prog 68 #[.pointer (some ⟨J,0,none⟩),.agg o.Ba.toArray] w (YS w0 J n (t+10)):=by
 obtain⟨G,a1,ns,W,X,N,M,hs,Y,hn⟩:=h;obtain⟨a8,a,b,c,i,g,v,a7⟩:=o;simp only at hk a0 ha hb;subst hk a0;simp only[OpM.Ba,Ver.cells,It,IE];have f1:Fr Nil w (w.alloc (.cells #[.int .i64 14,.int .i64 a,.int .i64 b,.string i,.string g,.int .i64 v.node,.int .i64 v.seq,.int .i64 v.o0,.int .i64 v.o1,.int .i64 v.o2,.int .i64 v.o3,.string v.value,.bool v.gone,(.slice r x s)] 89)):=(U _ _).alloc _;have p:=Blk.new w [.int .i64 14,.int .i64 a,.int .i64 b,.string i,.string g,.int .i64 v.node,.int .i64 v.seq,.int .i64 v.o0,.int .i64 v.o1,.int .i64 v.o2,.int .i64 v.o3,.string v.value,.bool v.gone,(.slice r x s)] 89;have j:=Y.nil f1;have q:=j.st.CB.cell;have I:=p.cell;simp only[zm] at q;have HP:=Z (fun d (f:Fr Nil _ d)=>Wj (1+(zA a 40:Nat):Int) b d X.db X.LD M (j.nil f).st.node.CN);have D:=Z (hs.nil f1);have E:=Z j.st.CB;have m:=Z j.st.node.CN;have y:=Z p;have O:=Z j;have R:Hid (∀ d,Calls Tryz.prog 21 #[.int .i64 a,.int .i64 40] d fun e w'=>e=.returned (.int .i64 (zA a 40:Nat))/\Fr Nil d w'):=fun d=>(ZU a 40 d ha.1 ha.2 (by decide) (by decide)).mono (fun _ w' h=>⟨h.1,by rw[h.2];exact U _ _⟩);have a9:(zA a 40:Int)<40:=by have:=YR a (n:=40) (by decide);omega
 have b0:IntKind.i64.wrap (1+(zA a 40:Int))=1+(zA a 40:Int):=by rw[IB];omega
 clear f1 j Y hs;go_enter GN,Gx;go_wp2_with fail;generalize w.alloc (.cells #[.int .i64 14,.int .i64 a,.int .i64 b,.string i,.string g,.int .i64 v.node,.int .i64 v.seq,.int .i64 v.o0,.int .i64 v.o1,.int .i64 v.o2,.int .i64 v.o3,.string v.value,.bool v.gone,(.slice r x s)] 89)=K at q I HP D E y m O p |-;have a4:K.cell? ⟨J,0,none⟩=some (.pointer (some ⟨X.db,0,none⟩))/\∀ k,K.cell? ⟨w.heap.size,k,none⟩=[.int .i64 14,.int .i64 a,.int .i64 b,.string i,.string g,.int .i64 v.node,.int .i64 v.seq,.int .i64 v.o0,.int .i64 v.o1,.int .i64 v.o2,.int .i64 v.o3,.string v.value,.bool v.gone,(.slice r x s)][k]?:=⟨q 0,I⟩;have A:Hid (∀ d,Fr (fun k=>k=X.db) K d->d.cell? ⟨J,0,none⟩=some (.pointer (some ⟨X.db,0,none⟩))/\∀ k,d.cell? ⟨w.heap.size,k,none⟩=[.int .i64 14,.int .i64 a,.int .i64 b,.string i,.string g,.int .i64 v.node,.int .i64 v.seq,.int .i64 v.o0,.int .i64 v.o1,.int .i64 v.o2,.int .i64 v.o3,.string v.value,.bool v.gone,(.slice r x s)][k]?):=fun d f=>⟨(E.out.fr f (fun e=>m.out.apart E.out.ty (by unfold DTy;decide) (e▸.CB))).cell 0,(y.out.fr f (fun e=>m.out.apart y.out.ty (by unfold DTy;decide) (e▸.CB))).cell⟩;have B:Hid (∀ d,Fr Nil K d->d.cell? ⟨J,0,none⟩=some (.pointer (some ⟨X.db,0,none⟩))/\∀ k,d.cell? ⟨w.heap.size,k,none⟩=[.int .i64 14,.int .i64 a,.int .i64 b,.string i,.string g,.int .i64 v.node,.int .i64 v.seq,.int .i64 v.o0,.int .i64 v.o1,.int .i64 v.o2,.int .i64 v.o3,.string v.value,.bool v.gone,(.slice r x s)][k]?):=fun d f=>A.out d (f.mono (fun _ _ e=>absurd e id))
 go_region_held3 (fun d=>d.cell? ⟨J,0,none⟩=some (.pointer (some ⟨X.db,0,none⟩))/\∀ k,d.cell? ⟨w.heap.size,k,none⟩=[.int .i64 14,.int .i64 a,.int .i64 b,.string i,.string g,.int .i64 v.node,.int .i64 v.seq,.int .i64 v.o0,.int .i64 v.o1,.int .i64 v.o2,.int .i64 v.o3,.string v.value,.bool v.gone,(.slice r x s)][k]?) (first|assumption|go_keep|exact B.out _ zd)
  (first
    | (go_at_call 46;refine(HP.out _ C.out).mono ?_;rintro e w2 ⟨rfl,T,V⟩;have F2:Fr (fun k=>k=X.db) K w2:=(C.out.mono (fun _ _ e=>absurd e id)).trans V;have a5:=A.out w2 F2)
    | (go_at_call 21;refine(R.out _).mono ?_;rintro e wc ⟨rfl,fc⟩;have C:Hid (Fr Nil K wc):=Fr.trans zd fc;have a6:=B.out wc C.out;clear fc))
 have l:=O.out.CL T F2 (fun k hk=>hk);have S:=Z (D.out.up (D.out.row.CN m.out (F2.mono (fun _ _ e=>e▸.CB))) (Wup.refl W) (u:=t+10) (by omega));have L:=Z l;have Q:=Z ((hn.yU (Trn.fail M (1+(zA a 40:Nat):Int) b hb)).more (u:=t+10) (by omega));have a2:=l.st.CB.cell;have b1:=l.st.CB.frozen;simp only[zm] at a2;have HD:=Z (ZQ w2 X.db X.LD _ l.st.node.CN);clear l T V F2 a4 a5 a6 HP q I A B p R;cases hdd:(M.CY (1+(zA a 40:Nat):Int) b).dead with
 | true =>
  rw[hdd] at HD
  go_wp2_with (refine HD.out.mono ?_;rintro e d ⟨rfl,a3⟩;subst d)
  go_ret;exact⟨rfl,.inr (Yj.shut L.out Q.out S.out (Wup.refl _) (JS _))⟩
 | false =>
  rw[hdd] at HD
  go_wp2_with (refine HD.out.mono ?_;rintro e d ⟨rfl,a3⟩;subst d)
  go_ret;exact⟨rfl,.inl ⟨G,a1,ns,W,X,N,_,S.out,L.out,Q.out⟩⟩
theorem LV{w0 w:World}{x n t:Nat}(h:PF w0 w x n t)(o:OpM)(y:Option Addr)(B A:Nat)(a1:o.Bw=.slice y B A)(hk:o.kind=14)(ha:InR o.a)(hb:InR o.b) :
 Calls Tryz.prog 68 #[.pointer (some ⟨x,0,none⟩),.agg o.Ba.toArray] w (YS w0 x n (t+10)):=by
 obtain⟨J,a2,ns,W,q,LD,M,hs,V,F,p,a0⟩:=h;obtain⟨a8,a,b,c,j,d,v,a7⟩:=o;simp only at hk a1 ha hb;subst hk a1;simp only[OpM.Ba,Ver.cells,It,IE];have T:Fr Nil w (w.alloc (.cells #[.int .i64 14,.int .i64 a,.int .i64 b,.string j,.string d,.int .i64 v.node,.int .i64 v.seq,.int .i64 v.o0,.int .i64 v.o1,.int .i64 v.o2,.int .i64 v.o3,.string v.value,.bool v.gone,(.slice y B A)] 89)):=(U _ _).alloc _;have r:=Blk.new w [.int .i64 14,.int .i64 a,.int .i64 b,.string j,.string d,.int .i64 v.node,.int .i64 v.seq,.int .i64 v.o0,.int .i64 v.o1,.int .i64 v.o2,.int .i64 v.o3,.string v.value,.bool v.gone,(.slice y B A)] 89;have O:=V.st.CB.fr T id;have N:=V.st.CN.nil T;have s:=O.cell;have L:=r.cell;simp only[zm] at s;have HP:=Z (fun g (f:Fr Nil _ g)=>Wj (1+(zA a 40:Nat):Int) b g q LD M (N.nil f));have I:=Z (hs.nil T);have m:=Z O;have l:=Z N;have C:=Z r;have HF:=Z (V.fr.trans T);have HC:=Z V;have S:Hid (∀ g,Calls Tryz.prog 21 #[.int .i64 a,.int .i64 40] g fun e w'=>e=.returned (.int .i64 (zA a 40:Nat))/\Fr Nil g w'):=fun g=>(ZU a 40 g ha.1 ha.2 (by decide) (by decide)).mono (fun _ w' h=>⟨h.1,by rw[h.2];exact U _ _⟩);have a9:(zA a 40:Int)<40:=by have:=YR a (n:=40) (by decide);omega
 have b0:IntKind.i64.wrap (1+(zA a 40:Int))=1+(zA a 40:Int):=by rw[IB];omega
 clear T O N V hs;go_enter GN,Gx;go_wp2_with fail;generalize w.alloc (.cells #[.int .i64 14,.int .i64 a,.int .i64 b,.string j,.string d,.int .i64 v.node,.int .i64 v.seq,.int .i64 v.o0,.int .i64 v.o1,.int .i64 v.o2,.int .i64 v.o3,.string v.value,.bool v.gone,(.slice y B A)] 89)=Q at s L HP I m C l HF r |-;have a4:Q.cell? ⟨x,0,none⟩=some (.pointer (some ⟨q,0,none⟩))/\∀ k,Q.cell? ⟨w.heap.size,k,none⟩=[.int .i64 14,.int .i64 a,.int .i64 b,.string j,.string d,.int .i64 v.node,.int .i64 v.seq,.int .i64 v.o0,.int .i64 v.o1,.int .i64 v.o2,.int .i64 v.o3,.string v.value,.bool v.gone,(.slice y B A)][k]?:=⟨s 0,L⟩;have D:Hid (∀ g,Fr (fun k=>k=q) Q g->g.cell? ⟨x,0,none⟩=some (.pointer (some ⟨q,0,none⟩))/\∀ k,g.cell? ⟨w.heap.size,k,none⟩=[.int .i64 14,.int .i64 a,.int .i64 b,.string j,.string d,.int .i64 v.node,.int .i64 v.seq,.int .i64 v.o0,.int .i64 v.o1,.int .i64 v.o2,.int .i64 v.o3,.string v.value,.bool v.gone,(.slice y B A)][k]?):=fun g f=>⟨(m.out.fr f (fun e=>l.out.apart m.out.ty (by unfold DTy;decide) (e▸.CB))).cell 0,(C.out.fr f (fun e=>l.out.apart C.out.ty (by unfold DTy;decide) (e▸.CB))).cell⟩;have E:Hid (∀ g,Fr Nil Q g->g.cell? ⟨x,0,none⟩=some (.pointer (some ⟨q,0,none⟩))/\∀ k,g.cell? ⟨w.heap.size,k,none⟩=[.int .i64 14,.int .i64 a,.int .i64 b,.string j,.string d,.int .i64 v.node,.int .i64 v.seq,.int .i64 v.o0,.int .i64 v.o1,.int .i64 v.o2,.int .i64 v.o3,.string v.value,.bool v.gone,(.slice y B A)][k]?):=fun g f=>D.out g (f.mono (fun _ _ e=>absurd e id))
 go_region_held3 (fun g=>g.cell? ⟨x,0,none⟩=some (.pointer (some ⟨q,0,none⟩))/\∀ k,g.cell? ⟨w.heap.size,k,none⟩=[.int .i64 14,.int .i64 a,.int .i64 b,.string j,.string d,.int .i64 v.node,.int .i64 v.seq,.int .i64 v.o0,.int .i64 v.o1,.int .i64 v.o2,.int .i64 v.o3,.string v.value,.bool v.gone,(.slice y B A)][k]?) (first|assumption|go_keep|exact E.out _ zd)
  (first
    | (go_at_call 46;refine(HP.out _ G.out).mono ?_;rintro e w2 ⟨rfl,X,Y⟩;have R:Fr (fun k=>k=q) Q w2:=(G.out.mono (fun _ _ e=>absurd e id)).trans Y;have a5:=D.out w2 R)
    | (go_at_call 21;refine(S.out _).mono ?_;rintro e wc ⟨rfl,fc⟩;have G:Hid (Fr Nil Q wc):=Fr.trans zd fc;have a6:=E.out wc G.out;clear fc))
 have K:=m.out.fr R (fun e=>l.out.apart m.out.ty (by unfold DTy;decide) (e▸.CB));have a3:=K.cell;simp only[zm] at a3;have HR:Hid (Str w0 w2 x n (t+10)):=.inr ⟨J,a2,ns,W,q,LD,_,I.out.up (I.out.row.CN l.out (R.mono (fun _ _ e=>e▸.CB))) (Wup.refl W) (u:=t+10) (by omega),⟨⟨K,X⟩,HF.out.trans' R (fun i hi e=>by have:=HC.out.new q .CB;omega),HC.out.low,HC.out.new⟩,F,p,(a0.yU (Trn.fail M (1+(zA a 40:Nat):Int) b hb)).more (by omega)⟩;clear K X Y R a4 a5 a6 HP s L D E r S a0;go_wp2_with fail;go_ret;exact⟨rfl,HR.out⟩
theorem OH(b:zt){B:Nat}{q w:World}{v n t:Nat}(c:zU B q)(j:B<=q.heap.size)(h:Str q w v n t)(o:OpM)(i:VF q o)(E:t<=890000)(s:n<4) :
 Calls Tryz.prog 68 #[.pointer (some ⟨v,0,none⟩),.agg o.Ba.toArray] w (YS q v n (t+10)):=by
 obtain⟨l,u,G⟩:=i.Bw;obtain⟨d,f,e,a⟩:=u.form;by_cases r:o.kind=1
 .exact Jr b c j h.any o d f e a r i.a i.b E s
 by_cases k:o.kind=12
 .exact KO h.any o d f e a k i E
 rcases h with h|h
 .by_cases h13:o.kind=13
  .exact LR h o d f e a h13 i.a
  by_cases g:o.kind=14
  .exact LU h o d f e a g i.a i.b
  by_cases x:o.kind=2
  .exact Jm b c j h o d f e a x (by omega)
  by_cases y:o.kind=3
  .exact Jn b c j h o d f e a y (by omega)
  by_cases A:o.kind=4
  .exact Jo b c j h o d f e a A (by omega)
  by_cases C:o.kind=7
  .exact Jp b c j h o d f e a C (by omega)
  by_cases D:o.kind=9
  .exact Jq b c j h o d f e a D (by omega)
  by_cases m:o.kind=11
  .exact KM b c j h o d f e a m (by omega)
  by_cases p:o.kind=15
  .exact KN b c j h o d f e a p (by omega)
  exact Mp h o d f e a r k h13 g x y A C D m p
 .by_cases h13:o.kind=13
  .exact LT h o d f e a h13 i.a
  by_cases g:o.kind=14
  .exact LV h o d f e a g i.a i.b
  exact Mq h o d f e a r k h13 g
def TW(w:World)(a:Addr)(b:List OpM):Prop:=∀ i (h:i<b.length) k,k<14->w.cell? ((a.add (i*14)).add k)=b[i].Ba[k]?
theorem LW(a:Addr):a.add 0=a:=by unfold Addr.add;simp
theorem Zz(a:Addr)(k:Nat)(h:k≠0):a.add k=⟨a.block,a.off+k,none⟩:=by unfold Addr.add;simp[h]
theorem TX(a:Addr)(i:Nat):(a.add i).block=a.block:=by unfold Addr.add;split <;> rfl
structure Rdy(w0 w:World)(sb n t syn calls:Nat)(nums:Value)(ns:List Nat)(W:WM)(X:NL)(N:NM)(M:DM)(F:List Fact)(p:Nat):Prop where
 ns:Ns w0 w n calls nums ns W t
 kp:Kpt w0 w sb n calls nums X N M
 ni:NI W N M F p t
 cut:M.cut=0
 fail:M.fail=0
 ro:N.readOnly=false
 every:W.every=(syn:Int)
def JJ(f w:World)(e n t c:Nat):Prop:=∃ a b d W X N M F p,Rdy f w e n t c a b d W X N M F p
theorem Mr(s:zt){B:Nat}{E w:World}{I n t:Nat}(D:zU B E)(G:B<=E.heap.size)(h:Ul E w I n t)(q c:Int)(A:InR q)(C:InR c)(ht:t<=890000)(Q:n<4) :
 Calls Tryz.prog 25 #[.pointer (some ⟨I,0,none⟩),.int .i64 q,.int .i64 c] w fun e J=>e=.returned (.bool true)/\JJ E J I n (t+10) (zA c 5):=by
 obtain⟨a,b,ns,W,db,nv,LD,M,r,j,g,l,o,R,_⟩:=h;have V:=r.top;refine(Rw s B I db n a nv b W LD M q c t w j (D.fr G g (fun _ e=>absurd e id)) (JT G g.size) (JT G l) (fun k d=>JT G (o k d)) R ht r.node Q (by omega) A C).mono ?_;rintro e J ⟨rfl,X,N,M',K,S,⟨F,p,v⟩,x,hc,hf,u,O,f⟩;have L:Fr Nil E J:=g.trans' f (fun i hi e=>by
  rcases e with e|e
  .omega
  .have:=o i e;omega)
 have y:Zb J b ns:=ze r.row f (fun k d e=>by
  rcases e with e|e
  .exact zi r.row j.CB (by decide) (by rw[d,e])
  .exact j.CN.apart (zB r.row d) (by unfold DTy;decide) e)
 have a0:=j.CB.lt;have a1:=g.size;have Y:K.broken=false/\K.every=(zA c 5:Nat):=by
  obtain⟨T,i,mo,m,m',_,_,_,_,rfl⟩:=x.found;exact⟨rfl,rfl⟩
 exact⟨rfl,a+1,b,ns,K,X,N,M',F,p,r.opened y x.up (by omega),⟨S,L,l,fun k d=>by have:=u k d;omega,fun k d e=>by have:=u k d;omega,fun k d e=>by have:=O k d;omega⟩,v,hc,hf,by rw[v.ro];exact Y.1,Y.2⟩
theorem Str.fr{c w:World}{e n t:Nat}(h:Str c w e n t):Fr Nil c w:=by
 obtain⟨_,_,_,_,_,_,_,_,_,_,a,_⟩:=h.any;exact a
theorem Su(g:zt)(B n:Nat)(y:n<4)(sa:Option Addr)(c:Nat)(l:List OpM)(w:World)(j:zU B w)(hB:B<=w.heap.size)(R:l≠[]->∃ a,sa=some a/\a.block<w.heap.size/\TW w a l)(Q:∀ o∈l,VF w o)(K:l.length<=88000) :
 Calls Tryz.prog 20 #[.int .i64 n,.slice sa l.length c] w fun e w'=>∃ C,e=.returned (.pointer (some ⟨C,0,none⟩))/\JJ w w' C n (20+10*l.length) 0:=by
 have q:=Z j;have D:=Z hB;have a2:=Z R;have a1:=Z Q;have E:=Z (Ji g B n w j hB y);clear j hB R Q;go_enter Tryz.func20,Tryz.ntmps20;go_wp2_with fail;refine E.out.mono ?_;rintro e w1 ⟨C,X,N,M,W,rfl,J,⟨F,p,L⟩,d⟩;have r:Str w w1 C n 10:=.inl ⟨1,.slice none 0 0,[],W,X,N,M,⟨⟨by simp[Y6],.inl ⟨rfl,rfl⟩⟩,fun k hk=>by simp[Value.ownBlock] at hk,by simp,by omega,d.node,d.room,GH d.calls,fun x hx=>by simp at hx⟩,J,.inl ⟨F,p,L⟩⟩;have I:=Z r;clear J L d r E;generalize O:l.length=m at K |-;have f:=Z O;clear O;go_wp2_with fail
 go_loopw [6] (fun t6 w'=>∃ i:Nat,i<=m/\t6=.int .i64 i/\Str w w' C n (10+10*i)) (fun t6 _=>m-(intOf t6).toNat)
 case atStart=>exact⟨0,Iq _,rfl,I.out⟩
 case round =>
  obtain⟨i,hi,rfl,S⟩:=hrel;have HR:=Z S;by_cases a7:i<m
  .obtain⟨a,rfl,hab,hst⟩:=a2.out (fun e=>by have:=f.out;rw[e] at this;simp at this;omega)
   have b:∀ k,k<14->wr.cell? ((a.add (i*14)).add k)=(l[i]'(by have:=f.out;omega)).Ba[k]?:=fun k hk=>by
    rw[S.fr.cell (by rw[TX,TX];exact hab) id];exact hst i _ k hk
   have A:VF w (l[i]'(by have:=f.out;omega)):=a1.out _ (Ia _);generalize l[i]'(by have:=f.out;omega)=o at b A;have t:=Z (OH g q.out D.out HR.out o A (by omega) y);obtain⟨a5,oa,ob,oc,a8,a6,v,a4⟩:=o;simp only[OpM.Ba,Ver.cells,It,IE] at b t;have q0:=b 0 (by omega);rw[LW] at q0;have q1:=b 1 (by omega);rw[Zz _ 1 (by decide)] at q1;have q2:=b 2 (by omega);rw[Zz _ 2 (by decide)] at q2;have q3:=b 3 (by omega);rw[Zz _ 3 (by decide)] at q3;have q4:=b 4 (by omega);rw[Zz _ 4 (by decide)] at q4;have q5:=b 5 (by omega);rw[Zz _ 5 (by decide)] at q5;have q6:=b 6 (by omega);rw[Zz _ 6 (by decide)] at q6;have q7:=b 7 (by omega);rw[Zz _ 7 (by decide)] at q7;have q8:=b 8 (by omega);rw[Zz _ 8 (by decide)] at q8;have q9:=b 9 (by omega);rw[Zz _ 9 (by decide)] at q9;have T:=b 10 (by omega);rw[Zz _ 10 (by decide)] at T;have V:=b 11 (by omega);rw[Zz _ 11 (by decide)] at V;have Y:=b 12 (by omega);rw[Zz _ 12 (by decide)] at Y;have a0:=b 13 (by omega);rw[Zz _ 13 (by decide)] at a0;have a3:(i:Int)<m:=by omega
   clear b S A hst;go_wp2_with fail;refine t.out.mono ?_;rintro e w6 ⟨rfl,h⟩;have s:=Z h;clear h t q0 q1 q2 q3 q4 q5 q6 q7 q8 q9 T V Y a0;go_wp2_with fail;exact⟨⟨i+1,by omega,by push_cast;rfl,by have:=s.out;rw[show 10+10*(i+1)=10+10*i+10 by omega];exact this⟩,by simp[intOf];omega⟩
  .have hin:i=m:=by omega
   subst hin;have a3:¬((i:Int)<i):=by omega
   have G:=Z (Mr g q.out D.out S.any 0 0 (by unfold InR;omega) (by unfold InR;omega) (by omega) y);clear S;go_wp2_with fail;refine G.out.mono ?_;rintro e w6 ⟨rfl,h⟩;have s:=Z h;clear h G;go_wp2_with fail;go_ret;exact⟨C,rfl,by have:=s.out;rw[f.out,show 20+10*i=10+10*i+10 by omega];exact this⟩
theorem add_zero(a:Addr):a.add 0=a:=by unfold Addr.add;simp
theorem Js(a:Addr)(k:Nat)(h:k≠0):a.add k=⟨a.block,a.off+k,none⟩:=by unfold Addr.add;simp[h]
theorem Vo{w:World}{p:Addr}{v:Value}(h:w.cell? p=some v):p.block<w.heap.size:=by
 refine DD fun a=>?_;unfold World.cell? at h;rw[Fo a] at h;cases h
theorem LY{w:World}{p:Addr}{v:Value}(h:w.cell? p=some v):p.spot=none:=by
 unfold World.cell? at h;split at h
 .split at h
  .cases h
  .rename_i hs
   simpa using hs
 .cases h
theorem Yo:Tryz.prog.cellsOf 3=1:=by kernel_rfl
theorem Ms:Tryz.prog.cellsOf 4=1:=by kernel_rfl
theorem TY:Tryz.prog.cellsOf 9=1:=by kernel_rfl
theorem Mt:Tryz.prog.cellsOf 26=1:=by kernel_rfl
theorem LZ:Tryz.prog.cellsOf 34=2:=by kernel_rfl
theorem Mu:Tryz.prog.cellsOf 35=4:=by kernel_rfl
theorem VQ:Tryz.prog.cellsOf 37=8:=by kernel_rfl
theorem Xj{H:Type}(d:DataW H):1<=Rows.uptoBulk d:=by
 cases d with
 | lit l=>cases l <;> simp[Rows.uptoBulk]
 | _=>simp[Rows.uptoBulk]
theorem T4{H:Type}(k:Nat):∀ (l:List (DataW H)),(∀ d∈l,k<=Rows.uptoBulk d)->k*l.length<=Rows.uptoBulkAll l
 | [],_=>by simp
 | d::l,h=>by
  have b:=T4 k l (fun x a=>h x (JV _ a));have c:=h d (JX ..);simp only[Rows.uptoBulkAll,Ih,Nat.mul_add,Nat.mul_one];omega
section
variable {H:Type} {enc:TypeId × Value->H} {W:World} {sp:Nat->Bool} {held:Bool} {n:Nat}
theorem Yk{c:Value}{x:DataW H × List MemPlace}(h:DataW.trod enc Tryz.prog W 0 sp held n 3 [c]=some x):∃ k,c=.int .i64 k/\InR k:=by
 obtain⟨k,e,_,a⟩:=DataW.trod_int FF h;refine⟨k,by simpa using e,?_⟩;unfold Lit.wf at a;simp only[Hq,Im] at a;have b:IntKind.i64.min=-9223372036854775808:=by decide
 have d:IntKind.i64.max=9223372036854775807:=by decide
 rw[b,d] at a;exact a
theorem KP{c:Value}{x:DataW H × List MemPlace}(A:sp=fun _=>true)(h:DataW.trod enc Tryz.prog W 0 sp held n 26 [c]=some x):JI W c:=by
 subst A;rcases Deep.open_slice1 FX Yo h with⟨u,_⟩|⟨a,len,b,m,N,V,D,M,u,_,J,C,K,_,d⟩
 .have:c=.slice none 0 0:=by simpa using u
  exact⟨[],.inl ⟨⟨none,0,this⟩,rfl⟩,fun x s=>by cases s⟩
 .have hcv:c=.slice (some a) len b:=by simpa using u
  have L:m=b:=by rw[K];rfl
  have E:∀ i,i<m->∃ k,V i=.int .i64 k/\InR k:=fun i o=>Yk (d i o).2;obtain⟨f,B⟩:∃ f:Nat->Int,∀ i,i<m->V i=.int .i64 (f i)/\InR (f i):=by
   classical
   refine⟨fun i=>if o:i<m then Classical.choose (E i o) else 0,fun i o=>?_⟩;simp only[Cn o];exact Classical.choose_spec (E i o)
  by_cases I:len=0
  .subst I
   exact⟨[],.inl ⟨⟨some a,b,hcv⟩,rfl⟩,fun x s=>by cases s⟩
  .have hc0:=(d 0 (by omega)).1
   rw[add_zero] at hc0;have r:=LY hc0;have q:=Vo hc0;obtain⟨g,l,G⟩:=a;simp only at r q;subst r;have y:((List.range len).map f).length=len:=by simp
   refine⟨(List.range len).map f,.inr ⟨g,l,b,by rw[y];exact hcv,q,by rw[y];omega,fun j v=>?_⟩,fun x s=>?_⟩
   .rw[y] at v
    have t:=(d j (by omega)).1;rw[(B j (by omega)).1] at t;have e:Addr.add ⟨g,l,none⟩ j=⟨g,l+j,none⟩:=by
     by_cases p:j=0
     .subst p;rw[add_zero];rfl
     .rw[Js _ _ p]
    rw[e] at t
    simpa using t
   .obtain⟨j,v,rfl⟩:=Ic.1 s
    exact(B j (by have:=Ex.1 v;omega)).2
theorem T6{c:Value}{x:DataW H × List MemPlace}(h:DataW.trod enc Tryz.prog W 0 sp held n 9 [c]=some x):∃ s,c=.string s:=by
 obtain⟨k,a,_⟩:=DataW.trod_string Gq h;exact⟨k,by simpa using a⟩
theorem KQ{c:Value}{x:DataW H × List MemPlace}(h:DataW.trod enc Tryz.prog W 0 sp held n 4 [c]=some x):∃ b,c=.bool b:=by
 obtain⟨k,a,_⟩:=DataW.trod_bool Tryz.underlying4 h;exact⟨k,by simpa using a⟩
theorem YD{α:Type}{l:List α}{i k:Nat}(b:l.length=k)(a:i<k):∃ x,l[i]?=some x:=⟨l[i]'(by omega),Ii (by omega)⟩
theorem PG{y:List Value}{x:DataW H × List MemPlace}(h:DataW.trod enc Tryz.prog W 0 sp held n 37 y=some x):(∃ v:Ver,y=v.cells)/\5<=Rows.uptoBulk x.1:=by
 obtain⟨j,m,_,hx,J,a,t⟩:=Do Tryz.underlying37 h;rw[VQ] at J;refine⟨?_,?_⟩
 .match y,J with
  | [e,f,k,l,o,p,q,r],_ =>
   have A:DataW.trod enc Tryz.prog W 0 sp held m 34 (([e,f,k,l,o,p,q,r].drop 0).take (Tryz.prog.cellsOf 34))=j[0]?:=t 0 _ rfl;have B:DataW.trod enc Tryz.prog W 0 sp held m 35 (([e,f,k,l,o,p,q,r].drop 2).take (Tryz.prog.cellsOf 35))=j[1]?:=t 1 _ rfl;have C:DataW.trod enc Tryz.prog W 0 sp held m 9 (([e,f,k,l,o,p,q,r].drop 6).take (Tryz.prog.cellsOf 9))=j[2]?:=t 2 _ rfl;have D:DataW.trod enc Tryz.prog W 0 sp held m 4 (([e,f,k,l,o,p,q,r].drop 7).take (Tryz.prog.cellsOf 4))=j[3]?:=t 3 _ rfl;obtain⟨x0,e0⟩:=YD (i:=0) a (by decide);obtain⟨x1,e1⟩:=YD (i:=1) a (by decide);obtain⟨x2,e2⟩:=YD (i:=2) a (by decide);obtain⟨x3,e3⟩:=YD (i:=3) a (by decide);rw[e0,LZ] at A;rw[e1,Mu] at B;rw[e2,TY] at C;rw[e3,Ms] at D;obtain⟨s,rfl⟩:=T6 C;obtain⟨b,rfl⟩:=KQ D;obtain⟨Q,O,_,_,_,g,I⟩:=Do Tryz.underlying34 A;have E:DataW.trod enc Tryz.prog W 0 sp held O 3 (([e,f].drop 0).take (Tryz.prog.cellsOf 3))=Q[0]?:=I 0 _ rfl;have G:DataW.trod enc Tryz.prog W 0 sp held O 3 (([e,f].drop 1).take (Tryz.prog.cellsOf 3))=Q[1]?:=I 1 _ rfl;obtain⟨y0,X⟩:=YD (i:=0) g (by decide);obtain⟨y1,Y⟩:=YD (i:=1) g (by decide);rw[X,Yo] at E;rw[Y,Yo] at G;obtain⟨i0,rfl,_⟩:=Yk E;obtain⟨i1,rfl,_⟩:=Yk G;obtain⟨zs,m2,_,_,_,c,u⟩:=DataW.trod_array Tryz.underlying35 B;have K:=u 0 (by decide);have L:=u 1 (by decide);have M:=u 2 (by decide);have N:=u 3 (by decide);obtain⟨z0,R⟩:=YD (i:=0) c (by decide);obtain⟨z1,S⟩:=YD (i:=1) c (by decide);obtain⟨z2,T⟩:=YD (i:=2) c (by decide);obtain⟨z3,V⟩:=YD (i:=3) c (by decide);rw[R,Yo] at K;rw[S,Yo] at L;rw[T,Yo] at M;rw[V,Yo] at N;obtain⟨o0,rfl,_⟩:=Yk K;obtain⟨o1,rfl,_⟩:=Yk L;obtain⟨o2,rfl,_⟩:=Yk M;obtain⟨o3,rfl,_⟩:=Yk N;exact⟨⟨i0,i1,o0,o1,o2,o3,s,b⟩,rfl⟩
 .rw[hx]
  have:=T4 1 (j.map (·.1)) (fun d _=>Xj d);rw[Is,a] at this;simp only[Rows.uptoBulk];exact DE this
end
theorem KR{w:World}{a:Addr}{n:Nat}{b:List Value}(h:w.cells? 0 a n=some b)(k:Nat)(c:k<n):w.cell? (a.add k)=b[k]?:=by
 unfold World.cells? at h;rw[Io (Iq _)] at h;exact mapM_some_get h k k (by simp[c])
end Go.Proofs.YtkhnggkkiefcdaaGreatDoor
namespace Go.Proofs.YtkhnggkkiefcdaaGreatDoor
open Go.RowKit Go.ChangeShapes
set_option maxRecDepth 100000
set_option maxHeartbeats 8000000
theorem OI{W:World}(h:laidMetH Tryz.prog Rows.writesRow.laid W):Tab W:=by
 have a:=(Cx.1 h).1.filter (fun x=>x.1==XI);have e:((Rows.writesRow.laid.filter fun x=>x.2.handleName?.isNone).filter fun x=>x.1==XI)=[(XI,Lib.tabData .u64 Lib.pow10Tab)]:=by kernel_rfl
 rw[e] at a;exact Lib.tabIs_of_head (rest:=[]) (g:=1) (by kernel_rfl) (t:=322) (by kernel_rfl) Tryz.underlying322 Tryz.underlying274 (by kernel_rfl) (by kernel_rfl) a
theorem TZ:Tryz.prog.globalNamed XI=some 1:=by kernel_rfl
theorem Mv:Tryz.prog.globalNamed "errors.errorType"=some 0:=by kernel_rfl
theorem Mw:Tryz.prog.types.size=396:=by kernel_rfl
theorem K0:((List.range 396).filter fun t=>Tryz.prog.rowNamed t [101,114,114,111,114])=[132]:=by kernel_rfl
theorem OJ{W:World}(h:laidMetH Tryz.prog Rows.writesRow.laid W):Hnd W:=by
 have c:=(Cx.1 h).2;have e:(Rows.writesRow.laid.filter fun x=>x.2.handleName?.isSome)=[("errors.errorType",Rows.laid_errors_errorType)]:=by kernel_rfl
 rw[e] at c;obtain⟨a,u,ty,f,g,i,j,b⟩:=c _ (JY.2 rfl);have k:a=[101,114,114,111,114]:=(IL f).symm;subst k;have l:some u=some 309:=g.symm.trans (by kernel_rfl);obtain rfl:=IL l;have d:ty∈(List.range 396).filter fun t=>Tryz.prog.rowNamed t [101,114,114,111,114]:=Fk.2 ⟨Ex.2 (by rw[<- Mw];exact i),j⟩;rw[K0] at d;obtain rfl:=JY.1 d;have m:typeHandle Tryz.prog 132=.pointer (some ⟨6,132,none⟩):=by kernel_rfl
 rw[m] at b;have:=World.var?_cell Mv b 0;unfold Hnd
 simpa using this
theorem Q0{W:World}(h:laidMetH Tryz.prog Rows.writesRow.laid W):YV W.heap.size W:=by
 have a:=OI h;have b:=OJ h;refine⟨a,fun g c=>?_,b,Vo b⟩;have:=IL (TZ.symm.trans c);subst this;exact Vo (a.cell TZ 0 (by decide))
theorem S3:Tryz.prog.globalNamed "strconv.ErrSyntax"=some 4:=by kernel_rfl
theorem KS:(Tryz.prog.globals[4]?).map (·.type)=some 132:=by kernel_rfl
theorem VR{W:World}(h:laidMetH Tryz.prog Rows.writesRow.laid W):Yd W:=by
 have b:=(Cx.1 h).1.filter (fun x=>x.1== "strconv.ErrSyntax");have e:((Rows.writesRow.laid.filter fun x=>x.2.handleName?.isNone).filter fun x=>x.1== "strconv.ErrSyntax")=[("strconv.ErrSyntax",Rows.laid_strconv_ErrSyntax)]:=by kernel_rfl
 rw[e] at b;obtain⟨a,s,c,_⟩:=laid_sentinel b S3 KS Tryz.underlying132 (fun u h => typeName_ptr_named (P := Tryz.prog) (nm := "errors.errorString") (by kernel_rfl) (by kernel_rfl) (by decide) u (h.trans (congrArg some (by decide)))) Tryz.underlying348 Tryz.underlying350 rfl rfl Gq (by kernel_rfl) (by kernel_rfl);have:=World.var?_cell S3 c 0;exact⟨Vo (p:=⟨4,0,none⟩) (by simpa using this),_,_,by simpa using this⟩
theorem PI{W:World}(h:laidMetH Tryz.prog Rows.writesRow.laid W):zU W.heap.size W :=
 ⟨Q0 h,VR h,(VR h).1⟩
end Go.Proofs.YtkhnggkkiefcdaaGreatDoor
