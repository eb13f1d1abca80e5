/- larder: joined texts -/
import Derived.Test.YtkhnggkkiefcdaaGreatDoorKRAT
import Derived.Test.YtkhnggkkiefcdaaGreatDoorKRAV
import Derived.Test.YtkhnggkkiefcdaaGreatDoorKRAY
import Derived.OpenShut
import Derived.Deep.Slices
namespace Go.Proofs.YtkhnggkkiefcdaaGreatDoor
open Go.RowKit
set_option maxRecDepth 100000
set_option maxHeartbeats 8000000
structure Trn(M M':DM):Prop where
 lg:∀ y p t,Lg M y p t->Lg M' y p t
 safe:M'.safe=M.safe
 dir:M'.dir=M.dir
 AA:M'.AA=M.AA
 bytes:∀ g,(M'.file g).bytes=(M.file g).bytes
 room:M'.room=M.room
 dead:M'.dead=M.dead
theorem Trn.cut(M:DM)(m:Int):Trn M (M.yh m):=⟨fun _ _ _ h=>h.yh m,rfl,rfl,rfl,fun _=>rfl,rfl,rfl⟩
theorem Trn.fail(M:DM)(m b:Int)(a:InR b):Trn M (M.AP m b):=⟨fun _ _ _ h=>h.AP m b a.1 a.2,rfl,rfl,rfl,fun _=>rfl,rfl,rfl⟩
theorem Sh.vu{W:WM}{M a:DM}{F:List Fact}{p t:Nat}(h:Sh W M F p t)(k:Trn M a):Sh W a F p t:=by
 obtain⟨y,c,b⟩:=h.lg;exact⟨⟨y,k.lg _ _ _ c,b⟩,h.cm,k.room.trans h.room,by rw[k.dead];exact h.all⟩
theorem Now.vu{W:WM}{N:NM}{M a:DM}{t:Nat}(h:Now W N M t)(k:Trn M a):Now W N a t:=by
 rcases h with⟨F,p,h⟩|⟨b,c,d,e,F,p,h⟩
 .exact .inl ⟨F,p,h.AH (fun y=>k.lg y p t) k.safe k.dir k.AA k.bytes k.room k.dead⟩
 .exact .inr ⟨b,k.dead.trans c,d,e,F,p,h.vu k⟩
theorem LH{w0 w:World}{T n t:Nat}(h:Yv w0 w T n t)(o:OpM)(V:Option Addr)(tn tc:Nat)(A:o.yw=.slice V tn tc)(G:o.kind≠1)(k:o.kind≠12)(l:o.kind≠13)(m:o.kind≠14)(I:o.kind≠2)(J:o.kind≠3)(K:o.kind≠4)(L:o.kind≠7)(O:o.kind≠9)(j:o.kind≠11)(p:o.kind≠15) :
 Calls Tryz.prog 68 #[.pointer (some ⟨T,0,none⟩),.agg o.yb.toArray] w (X3 w0 T n (t+10)):=by
 obtain⟨i,C,ns,W,X,N,M,R,y,hn⟩:=h;obtain⟨d,a,b,c,B,g,v,Y⟩:=o;simp only at A G k l m I J K L O j p;subst A;simp only[OpM.yb,Ver.cells,GC,GP];have E:Fr Nil w (w.alloc (.cells #[.int .i64 d,.int .i64 a,.int .i64 b,.string B,.string g,.int .i64 v.node,.int .i64 v.seq,.int .i64 v.o0,.int .i64 v.o1,.int .i64 v.o2,.int .i64 v.o3,.string v.value,.bool v.gone,(.slice V tn tc)] 89)):=(U _ _).alloc _;have x:=Blk.new w [.int .i64 d,.int .i64 a,.int .i64 b,.string B,.string g,.int .i64 v.node,.int .i64 v.seq,.int .i64 v.o0,.int .i64 v.o1,.int .i64 v.o2,.int .i64 v.o3,.string v.value,.bool v.gone,(.slice V tn tc)] 89;have g1:¬d=1:=G;have a1:¬d=12:=k;have a2:¬d=13:=l;have a3:¬d=14:=m;have g2:¬d=2:=I;have g3:¬d=3:=J;have g4:¬d=4:=K;have g7:¬d=7:=L;have g9:¬d=9:=O;have a0:¬d=11:=j;have a4:¬d=15:=p;clear G k l m I J K L O j p;have f:=y.nil E;have Q:=f.st.Ay.cell;have a6:=f.st.Ay.frozen;have a5:=x.cell;simp only[zp] at Q;have s:=Z ((R.nil E).up (R.nil E).row (Wup.refl W) (u:=t+10) (by omega));have q:=Z f;have r:=Z (hn.more (u:=t+10) (by omega));have D:=Z (Y1 _ X.db X.LD M f.st.node.AH);clear f y R E x;go_enter ED,El;cases hdd:M.dead with
 | true =>
  rw[hdd] at D
  go_wp2_with (refine D.out.mono ?_;rintro e wx ⟨rfl,S⟩;subst wx)
  go_ret;exact⟨rfl,.inr (Yv.shut q.out r.out s.out (Wup.refl _) (Gb _))⟩
 | false =>
  rw[hdd] at D
  go_wp2_with (refine D.out.mono ?_;rintro e wx ⟨rfl,S⟩;subst wx)
  go_ret;exact⟨rfl,.inl ⟨i,C,ns,W,X,N,_,s.out,q.out,r.out⟩⟩
theorem LI{K w:World}{A n t:Nat}(h:O5 K w A n t)(o:OpM)(E:Option Addr)(J I:Nat)(s:o.yw=.slice E J I)(B:o.kind≠1)(g:o.kind≠12)(i:o.kind≠13)(j:o.kind≠14) :
 Calls Tryz.prog 68 #[.pointer (some ⟨A,0,none⟩),.agg o.yb.toArray] w (X3 K A n (t+10)):=by
 obtain⟨f,y,V,W,O,N,M,D,m,F,p,r⟩:=h;obtain⟨d,a,b,c,x,e,v,G⟩:=o;simp only at s B g i j;subst s;simp only[OpM.yb,Ver.cells,GC,GP];have l:Fr Nil w (w.alloc (.cells #[.int .i64 d,.int .i64 a,.int .i64 b,.string x,.string e,.int .i64 v.node,.int .i64 v.seq,.int .i64 v.o0,.int .i64 v.o1,.int .i64 v.o2,.int .i64 v.o3,.string v.value,.bool v.gone,(.slice E J I)] 89)):=(U _ _).alloc _;have q:=Blk.new w [.int .i64 d,.int .i64 a,.int .i64 b,.string x,.string e,.int .i64 v.node,.int .i64 v.seq,.int .i64 v.o0,.int .i64 v.o1,.int .i64 v.o2,.int .i64 v.o3,.string v.value,.bool v.gone,(.slice E J I)] 89;have X:¬d=1:=B;have Q:¬d=12:=g;have R:¬d=13:=i;have S:¬d=14:=j;clear B g i j;have k:=m.st.Ay.fr l id;have C:=k.cell;have T:=q.cell;simp only[zp] at C;have L:Hid (Str K _ A n (t+10)):=.inr ⟨f,y,V,W,O,N,M,(D.nil l).up (D.nil l).row (Wup.refl W) (u:=t+10) (by omega),⟨⟨k,m.st.AH.nil l⟩,m.fr.trans l,m.low,m.new⟩,F,p,r.more (by omega)⟩;clear k m D l q r;go_enter ED,El;go_wp2_with fail;go_ret;exact⟨rfl,L.out⟩
theorem Jm{w0 w:World}{J n t:Nat}(h:Yv w0 w J n t)(o:OpM)(r:Option Addr)(x s:Nat)(a0:o.yw=.slice r x s)(hk:o.kind=13)(ha:InR o.a) :
 Calls Tryz.prog 68 #[.pointer (some ⟨J,0,none⟩),.agg o.yb.toArray] w (X3 w0 J n (t+10)):=by
 obtain⟨G,a1,ns,W,X,N,M,hs,Y,hn⟩:=h;obtain⟨a8,a,b,c,i,g,v,a7⟩:=o;simp only at hk a0 ha;subst hk a0;simp only[OpM.yb,Ver.cells,GC,GP];have f1:Fr Nil w (w.alloc (.cells #[.int .i64 13,.int .i64 a,.int .i64 b,.string i,.string g,.int .i64 v.node,.int .i64 v.seq,.int .i64 v.o0,.int .i64 v.o1,.int .i64 v.o2,.int .i64 v.o3,.string v.value,.bool v.gone,(.slice r x s)] 89)):=(U _ _).alloc _;have p:=Blk.new w [.int .i64 13,.int .i64 a,.int .i64 b,.string i,.string g,.int .i64 v.node,.int .i64 v.seq,.int .i64 v.o0,.int .i64 v.o1,.int .i64 v.o2,.int .i64 v.o3,.string v.value,.bool v.gone,(.slice r x s)] 89;have j:=Y.nil f1;have q:=j.st.Ay.cell;have I:=p.cell;simp only[zp] at q;have HP:=Z (fun d (f:Fr Nil _ d)=>V6 (1+(zu a 40:Nat):Int) d X.db X.LD M (j.nil f).st.node.AH);have D:=Z (hs.nil f1);have E:=Z j.st.Ay;have m:=Z j.st.node.AH;have y:=Z p;have O:=Z j;have R:Hid (∀ d,Calls Tryz.prog 21 #[.int .i64 a,.int .i64 40] d fun e w'=>e=.returned (.int .i64 (zu a 40:Nat))/\Fr Nil d w'):=fun d=>(Zl a 40 d ha.1 ha.2 (by decide) (by decide)).mono (fun _ w' h=>⟨h.1,by rw[h.2];exact U _ _⟩);have a9:(zu a 40:Int)<40:=by have:=ZH a (n:=40) (by decide);omega
 have b0:IntKind.i64.wrap (1+(zu a 40:Int))=1+(zu a 40:Int):=by rw[Gs];omega
 clear f1 j Y hs;go_enter ED,El;go_wp2_with fail;generalize w.alloc (.cells #[.int .i64 13,.int .i64 a,.int .i64 b,.string i,.string g,.int .i64 v.node,.int .i64 v.seq,.int .i64 v.o0,.int .i64 v.o1,.int .i64 v.o2,.int .i64 v.o3,.string v.value,.bool v.gone,(.slice r x s)] 89)=K at q I HP D E y m O p |-;have a4:K.cell? ⟨J,0,none⟩=some (.pointer (some ⟨X.db,0,none⟩))/\∀ k,K.cell? ⟨w.heap.size,k,none⟩=[.int .i64 13,.int .i64 a,.int .i64 b,.string i,.string g,.int .i64 v.node,.int .i64 v.seq,.int .i64 v.o0,.int .i64 v.o1,.int .i64 v.o2,.int .i64 v.o3,.string v.value,.bool v.gone,(.slice r x s)][k]?:=⟨q 0,I⟩;have A:Hid (∀ d,Fr (fun k=>k=X.db) K d->d.cell? ⟨J,0,none⟩=some (.pointer (some ⟨X.db,0,none⟩))/\∀ k,d.cell? ⟨w.heap.size,k,none⟩=[.int .i64 13,.int .i64 a,.int .i64 b,.string i,.string g,.int .i64 v.node,.int .i64 v.seq,.int .i64 v.o0,.int .i64 v.o1,.int .i64 v.o2,.int .i64 v.o3,.string v.value,.bool v.gone,(.slice r x s)][k]?):=fun d f=>⟨(E.out.fr f (fun e=>m.out.apart E.out.ty (by unfold DTy;decide) (e▸.Ay))).cell 0,(y.out.fr f (fun e=>m.out.apart y.out.ty (by unfold DTy;decide) (e▸.Ay))).cell⟩;have B:Hid (∀ d,Fr Nil K d->d.cell? ⟨J,0,none⟩=some (.pointer (some ⟨X.db,0,none⟩))/\∀ k,d.cell? ⟨w.heap.size,k,none⟩=[.int .i64 13,.int .i64 a,.int .i64 b,.string i,.string g,.int .i64 v.node,.int .i64 v.seq,.int .i64 v.o0,.int .i64 v.o1,.int .i64 v.o2,.int .i64 v.o3,.string v.value,.bool v.gone,(.slice r x s)][k]?):=fun d f=>A.out d (f.mono (fun _ _ e=>absurd e id))
 go_region_held3 (fun d=>d.cell? ⟨J,0,none⟩=some (.pointer (some ⟨X.db,0,none⟩))/\∀ k,d.cell? ⟨w.heap.size,k,none⟩=[.int .i64 13,.int .i64 a,.int .i64 b,.string i,.string g,.int .i64 v.node,.int .i64 v.seq,.int .i64 v.o0,.int .i64 v.o1,.int .i64 v.o2,.int .i64 v.o3,.string v.value,.bool v.gone,(.slice r x s)][k]?) (first|assumption|go_keep|exact B.out _ zd)
  (first
    | (go_at_call 37;refine(HP.out _ C.out).mono ?_;rintro e w2 ⟨rfl,T,V⟩;have F2:Fr (fun k=>k=X.db) K w2:=(C.out.mono (fun _ _ e=>absurd e id)).trans V;have a5:=A.out w2 F2)
    | (go_at_call 21;refine(R.out _).mono ?_;rintro e wc ⟨rfl,fc⟩;have C:Hid (Fr Nil K wc):=Fr.trans zd fc;have a6:=B.out wc C.out;clear fc))
 have l:=O.out.AL T F2 (fun k hk=>hk);have S:=Z (D.out.up (D.out.row.AH m.out (F2.mono (fun _ _ e=>e▸.Ay))) (Wup.refl W) (u:=t+10) (by omega));have L:=Z l;have Q:=Z ((hn.vu (Trn.cut M (1+(zu a 40:Nat):Int))).more (u:=t+10) (by omega));have a2:=l.st.Ay.cell;have b1:=l.st.Ay.frozen;simp only[zp] at a2;have HD:=Z (Y1 w2 X.db X.LD _ l.st.node.AH);clear l T V F2 a4 a5 a6 HP q I A B p R;cases hdd:(M.yh (1+(zu a 40:Nat):Int)).dead with
 | true =>
  rw[hdd] at HD
  go_wp2_with (refine HD.out.mono ?_;rintro e d ⟨rfl,a3⟩;subst d)
  go_ret;exact⟨rfl,.inr (Yv.shut L.out Q.out S.out (Wup.refl _) (Gb _))⟩
 | false =>
  rw[hdd] at HD
  go_wp2_with (refine HD.out.mono ?_;rintro e d ⟨rfl,a3⟩;subst d)
  go_ret;exact⟨rfl,.inl ⟨G,a1,ns,W,X,N,_,S.out,L.out,Q.out⟩⟩
theorem Jn{w0 w:World}{x n t:Nat}(h:O5 w0 w x n t)(o:OpM)(y:Option Addr)(B A:Nat)(a1:o.yw=.slice y B A)(hk:o.kind=13)(ha:InR o.a) :
 Calls Tryz.prog 68 #[.pointer (some ⟨x,0,none⟩),.agg o.yb.toArray] w (X3 w0 x n (t+10)):=by
 obtain⟨J,a2,ns,W,q,LD,M,hs,V,F,p,a0⟩:=h;obtain⟨a8,a,b,c,j,d,v,a7⟩:=o;simp only at hk a1 ha;subst hk a1;simp only[OpM.yb,Ver.cells,GC,GP];have T:Fr Nil w (w.alloc (.cells #[.int .i64 13,.int .i64 a,.int .i64 b,.string j,.string d,.int .i64 v.node,.int .i64 v.seq,.int .i64 v.o0,.int .i64 v.o1,.int .i64 v.o2,.int .i64 v.o3,.string v.value,.bool v.gone,(.slice y B A)] 89)):=(U _ _).alloc _;have r:=Blk.new w [.int .i64 13,.int .i64 a,.int .i64 b,.string j,.string d,.int .i64 v.node,.int .i64 v.seq,.int .i64 v.o0,.int .i64 v.o1,.int .i64 v.o2,.int .i64 v.o3,.string v.value,.bool v.gone,(.slice y B A)] 89;have O:=V.st.Ay.fr T id;have N:=V.st.AH.nil T;have s:=O.cell;have L:=r.cell;simp only[zp] at s;have HP:=Z (fun g (f:Fr Nil _ g)=>V6 (1+(zu a 40:Nat):Int) g q LD M (N.nil f));have I:=Z (hs.nil T);have m:=Z O;have l:=Z N;have C:=Z r;have HF:=Z (V.fr.trans T);have HC:=Z V;have S:Hid (∀ g,Calls Tryz.prog 21 #[.int .i64 a,.int .i64 40] g fun e w'=>e=.returned (.int .i64 (zu a 40:Nat))/\Fr Nil g w'):=fun g=>(Zl a 40 g ha.1 ha.2 (by decide) (by decide)).mono (fun _ w' h=>⟨h.1,by rw[h.2];exact U _ _⟩);have a9:(zu a 40:Int)<40:=by have:=ZH a (n:=40) (by decide);omega
 have b0:IntKind.i64.wrap (1+(zu a 40:Int))=1+(zu a 40:Int):=by rw[Gs];omega
 clear T O N V hs;go_enter ED,El;go_wp2_with fail;generalize w.alloc (.cells #[.int .i64 13,.int .i64 a,.int .i64 b,.string j,.string d,.int .i64 v.node,.int .i64 v.seq,.int .i64 v.o0,.int .i64 v.o1,.int .i64 v.o2,.int .i64 v.o3,.string v.value,.bool v.gone,(.slice y B A)] 89)=Q at s L HP I m C l HF r |-;have a4:Q.cell? ⟨x,0,none⟩=some (.pointer (some ⟨q,0,none⟩))/\∀ k,Q.cell? ⟨w.heap.size,k,none⟩=[.int .i64 13,.int .i64 a,.int .i64 b,.string j,.string d,.int .i64 v.node,.int .i64 v.seq,.int .i64 v.o0,.int .i64 v.o1,.int .i64 v.o2,.int .i64 v.o3,.string v.value,.bool v.gone,(.slice y B A)][k]?:=⟨s 0,L⟩;have D:Hid (∀ g,Fr (fun k=>k=q) Q g->g.cell? ⟨x,0,none⟩=some (.pointer (some ⟨q,0,none⟩))/\∀ k,g.cell? ⟨w.heap.size,k,none⟩=[.int .i64 13,.int .i64 a,.int .i64 b,.string j,.string d,.int .i64 v.node,.int .i64 v.seq,.int .i64 v.o0,.int .i64 v.o1,.int .i64 v.o2,.int .i64 v.o3,.string v.value,.bool v.gone,(.slice y B A)][k]?):=fun g f=>⟨(m.out.fr f (fun e=>l.out.apart m.out.ty (by unfold DTy;decide) (e▸.Ay))).cell 0,(C.out.fr f (fun e=>l.out.apart C.out.ty (by unfold DTy;decide) (e▸.Ay))).cell⟩;have E:Hid (∀ g,Fr Nil Q g->g.cell? ⟨x,0,none⟩=some (.pointer (some ⟨q,0,none⟩))/\∀ k,g.cell? ⟨w.heap.size,k,none⟩=[.int .i64 13,.int .i64 a,.int .i64 b,.string j,.string d,.int .i64 v.node,.int .i64 v.seq,.int .i64 v.o0,.int .i64 v.o1,.int .i64 v.o2,.int .i64 v.o3,.string v.value,.bool v.gone,(.slice y B A)][k]?):=fun g f=>D.out g (f.mono (fun _ _ e=>absurd e id))
 go_region_held3 (fun g=>g.cell? ⟨x,0,none⟩=some (.pointer (some ⟨q,0,none⟩))/\∀ k,g.cell? ⟨w.heap.size,k,none⟩=[.int .i64 13,.int .i64 a,.int .i64 b,.string j,.string d,.int .i64 v.node,.int .i64 v.seq,.int .i64 v.o0,.int .i64 v.o1,.int .i64 v.o2,.int .i64 v.o3,.string v.value,.bool v.gone,(.slice y B A)][k]?) (first|assumption|go_keep|exact E.out _ zd)
  (first
    | (go_at_call 37;refine(HP.out _ G.out).mono ?_;rintro e w2 ⟨rfl,X,Y⟩;have R:Fr (fun k=>k=q) Q w2:=(G.out.mono (fun _ _ e=>absurd e id)).trans Y;have a5:=D.out w2 R)
    | (go_at_call 21;refine(S.out _).mono ?_;rintro e wc ⟨rfl,fc⟩;have G:Hid (Fr Nil Q wc):=Fr.trans zd fc;have a6:=E.out wc G.out;clear fc))
 have K:=m.out.fr R (fun e=>l.out.apart m.out.ty (by unfold DTy;decide) (e▸.Ay));have a3:=K.cell;simp only[zp] at a3;have HR:Hid (Str w0 w2 x n (t+10)):=.inr ⟨J,a2,ns,W,q,LD,_,I.out.up (I.out.row.AH l.out (R.mono (fun _ _ e=>e▸.Ay))) (Wup.refl W) (u:=t+10) (by omega),⟨⟨K,X⟩,HF.out.trans' R (fun i hi e=>by have:=HC.out.new q .Ay;omega),HC.out.low,HC.out.new⟩,F,p,(a0.vu (Trn.cut M (1+(zu a 40:Nat):Int))).more (by omega)⟩;clear K X Y R a4 a5 a6 HP s L D E r S a0;go_wp2_with fail;go_ret;exact⟨rfl,HR.out⟩
theorem Jo{w0 w:World}{J n t:Nat}(h:Yv w0 w J n t)(o:OpM)(r:Option Addr)(x s:Nat)(a0:o.yw=.slice r x s)(hk:o.kind=14)(ha:InR o.a)(hb:InR o.b) :
 Calls Tryz.prog 68 #[.pointer (some ⟨J,0,none⟩),.agg o.yb.toArray] w (X3 w0 J n (t+10)):=by
 obtain⟨G,a1,ns,W,X,N,M,hs,Y,hn⟩:=h;obtain⟨a8,a,b,c,i,g,v,a7⟩:=o;simp only at hk a0 ha hb;subst hk a0;simp only[OpM.yb,Ver.cells,GC,GP];have f1:Fr Nil w (w.alloc (.cells #[.int .i64 14,.int .i64 a,.int .i64 b,.string i,.string g,.int .i64 v.node,.int .i64 v.seq,.int .i64 v.o0,.int .i64 v.o1,.int .i64 v.o2,.int .i64 v.o3,.string v.value,.bool v.gone,(.slice r x s)] 89)):=(U _ _).alloc _;have p:=Blk.new w [.int .i64 14,.int .i64 a,.int .i64 b,.string i,.string g,.int .i64 v.node,.int .i64 v.seq,.int .i64 v.o0,.int .i64 v.o1,.int .i64 v.o2,.int .i64 v.o3,.string v.value,.bool v.gone,(.slice r x s)] 89;have j:=Y.nil f1;have q:=j.st.Ay.cell;have I:=p.cell;simp only[zp] at q;have HP:=Z (fun d (f:Fr Nil _ d)=>Wz (1+(zu a 40:Nat):Int) b d X.db X.LD M (j.nil f).st.node.AH);have D:=Z (hs.nil f1);have E:=Z j.st.Ay;have m:=Z j.st.node.AH;have y:=Z p;have O:=Z j;have R:Hid (∀ d,Calls Tryz.prog 21 #[.int .i64 a,.int .i64 40] d fun e w'=>e=.returned (.int .i64 (zu a 40:Nat))/\Fr Nil d w'):=fun d=>(Zl a 40 d ha.1 ha.2 (by decide) (by decide)).mono (fun _ w' h=>⟨h.1,by rw[h.2];exact U _ _⟩);have a9:(zu a 40:Int)<40:=by have:=ZH a (n:=40) (by decide);omega
 have b0:IntKind.i64.wrap (1+(zu a 40:Int))=1+(zu a 40:Int):=by rw[Gs];omega
 clear f1 j Y hs;go_enter ED,El;go_wp2_with fail;generalize w.alloc (.cells #[.int .i64 14,.int .i64 a,.int .i64 b,.string i,.string g,.int .i64 v.node,.int .i64 v.seq,.int .i64 v.o0,.int .i64 v.o1,.int .i64 v.o2,.int .i64 v.o3,.string v.value,.bool v.gone,(.slice r x s)] 89)=K at q I HP D E y m O p |-;have a4:K.cell? ⟨J,0,none⟩=some (.pointer (some ⟨X.db,0,none⟩))/\∀ k,K.cell? ⟨w.heap.size,k,none⟩=[.int .i64 14,.int .i64 a,.int .i64 b,.string i,.string g,.int .i64 v.node,.int .i64 v.seq,.int .i64 v.o0,.int .i64 v.o1,.int .i64 v.o2,.int .i64 v.o3,.string v.value,.bool v.gone,(.slice r x s)][k]?:=⟨q 0,I⟩;have A:Hid (∀ d,Fr (fun k=>k=X.db) K d->d.cell? ⟨J,0,none⟩=some (.pointer (some ⟨X.db,0,none⟩))/\∀ k,d.cell? ⟨w.heap.size,k,none⟩=[.int .i64 14,.int .i64 a,.int .i64 b,.string i,.string g,.int .i64 v.node,.int .i64 v.seq,.int .i64 v.o0,.int .i64 v.o1,.int .i64 v.o2,.int .i64 v.o3,.string v.value,.bool v.gone,(.slice r x s)][k]?):=fun d f=>⟨(E.out.fr f (fun e=>m.out.apart E.out.ty (by unfold DTy;decide) (e▸.Ay))).cell 0,(y.out.fr f (fun e=>m.out.apart y.out.ty (by unfold DTy;decide) (e▸.Ay))).cell⟩;have B:Hid (∀ d,Fr Nil K d->d.cell? ⟨J,0,none⟩=some (.pointer (some ⟨X.db,0,none⟩))/\∀ k,d.cell? ⟨w.heap.size,k,none⟩=[.int .i64 14,.int .i64 a,.int .i64 b,.string i,.string g,.int .i64 v.node,.int .i64 v.seq,.int .i64 v.o0,.int .i64 v.o1,.int .i64 v.o2,.int .i64 v.o3,.string v.value,.bool v.gone,(.slice r x s)][k]?):=fun d f=>A.out d (f.mono (fun _ _ e=>absurd e id))
 go_region_held3 (fun d=>d.cell? ⟨J,0,none⟩=some (.pointer (some ⟨X.db,0,none⟩))/\∀ k,d.cell? ⟨w.heap.size,k,none⟩=[.int .i64 14,.int .i64 a,.int .i64 b,.string i,.string g,.int .i64 v.node,.int .i64 v.seq,.int .i64 v.o0,.int .i64 v.o1,.int .i64 v.o2,.int .i64 v.o3,.string v.value,.bool v.gone,(.slice r x s)][k]?) (first|assumption|go_keep|exact B.out _ zd)
  (first
    | (go_at_call 46;refine(HP.out _ C.out).mono ?_;rintro e w2 ⟨rfl,T,V⟩;have F2:Fr (fun k=>k=X.db) K w2:=(C.out.mono (fun _ _ e=>absurd e id)).trans V;have a5:=A.out w2 F2)
    | (go_at_call 21;refine(R.out _).mono ?_;rintro e wc ⟨rfl,fc⟩;have C:Hid (Fr Nil K wc):=Fr.trans zd fc;have a6:=B.out wc C.out;clear fc))
 have l:=O.out.AL T F2 (fun k hk=>hk);have S:=Z (D.out.up (D.out.row.AH m.out (F2.mono (fun _ _ e=>e▸.Ay))) (Wup.refl W) (u:=t+10) (by omega));have L:=Z l;have Q:=Z ((hn.vu (Trn.fail M (1+(zu a 40:Nat):Int) b hb)).more (u:=t+10) (by omega));have a2:=l.st.Ay.cell;have b1:=l.st.Ay.frozen;simp only[zp] at a2;have HD:=Z (Y1 w2 X.db X.LD _ l.st.node.AH);clear l T V F2 a4 a5 a6 HP q I A B p R;cases hdd:(M.AP (1+(zu a 40:Nat):Int) b).dead with
 | true =>
  rw[hdd] at HD
  go_wp2_with (refine HD.out.mono ?_;rintro e d ⟨rfl,a3⟩;subst d)
  go_ret;exact⟨rfl,.inr (Yv.shut L.out Q.out S.out (Wup.refl _) (Gb _))⟩
 | false =>
  rw[hdd] at HD
  go_wp2_with (refine HD.out.mono ?_;rintro e d ⟨rfl,a3⟩;subst d)
  go_ret;exact⟨rfl,.inl ⟨G,a1,ns,W,X,N,_,S.out,L.out,Q.out⟩⟩
theorem Jp{w0 w:World}{x n t:Nat}(h:O5 w0 w x n t)(o:OpM)(y:Option Addr)(B A:Nat)(a1:o.yw=.slice y B A)(hk:o.kind=14)(ha:InR o.a)(hb:InR o.b) :
 Calls Tryz.prog 68 #[.pointer (some ⟨x,0,none⟩),.agg o.yb.toArray] w (X3 w0 x n (t+10)):=by
 obtain⟨J,a2,ns,W,q,LD,M,hs,V,F,p,a0⟩:=h;obtain⟨a8,a,b,c,j,d,v,a7⟩:=o;simp only at hk a1 ha hb;subst hk a1;simp only[OpM.yb,Ver.cells,GC,GP];have T:Fr Nil w (w.alloc (.cells #[.int .i64 14,.int .i64 a,.int .i64 b,.string j,.string d,.int .i64 v.node,.int .i64 v.seq,.int .i64 v.o0,.int .i64 v.o1,.int .i64 v.o2,.int .i64 v.o3,.string v.value,.bool v.gone,(.slice y B A)] 89)):=(U _ _).alloc _;have r:=Blk.new w [.int .i64 14,.int .i64 a,.int .i64 b,.string j,.string d,.int .i64 v.node,.int .i64 v.seq,.int .i64 v.o0,.int .i64 v.o1,.int .i64 v.o2,.int .i64 v.o3,.string v.value,.bool v.gone,(.slice y B A)] 89;have O:=V.st.Ay.fr T id;have N:=V.st.AH.nil T;have s:=O.cell;have L:=r.cell;simp only[zp] at s;have HP:=Z (fun g (f:Fr Nil _ g)=>Wz (1+(zu a 40:Nat):Int) b g q LD M (N.nil f));have I:=Z (hs.nil T);have m:=Z O;have l:=Z N;have C:=Z r;have HF:=Z (V.fr.trans T);have HC:=Z V;have S:Hid (∀ g,Calls Tryz.prog 21 #[.int .i64 a,.int .i64 40] g fun e w'=>e=.returned (.int .i64 (zu a 40:Nat))/\Fr Nil g w'):=fun g=>(Zl a 40 g ha.1 ha.2 (by decide) (by decide)).mono (fun _ w' h=>⟨h.1,by rw[h.2];exact U _ _⟩);have a9:(zu a 40:Int)<40:=by have:=ZH a (n:=40) (by decide);omega
 have b0:IntKind.i64.wrap (1+(zu a 40:Int))=1+(zu a 40:Int):=by rw[Gs];omega
 clear T O N V hs;go_enter ED,El;go_wp2_with fail;generalize w.alloc (.cells #[.int .i64 14,.int .i64 a,.int .i64 b,.string j,.string d,.int .i64 v.node,.int .i64 v.seq,.int .i64 v.o0,.int .i64 v.o1,.int .i64 v.o2,.int .i64 v.o3,.string v.value,.bool v.gone,(.slice y B A)] 89)=Q at s L HP I m C l HF r |-;have a4:Q.cell? ⟨x,0,none⟩=some (.pointer (some ⟨q,0,none⟩))/\∀ k,Q.cell? ⟨w.heap.size,k,none⟩=[.int .i64 14,.int .i64 a,.int .i64 b,.string j,.string d,.int .i64 v.node,.int .i64 v.seq,.int .i64 v.o0,.int .i64 v.o1,.int .i64 v.o2,.int .i64 v.o3,.string v.value,.bool v.gone,(.slice y B A)][k]?:=⟨s 0,L⟩;have D:Hid (∀ g,Fr (fun k=>k=q) Q g->g.cell? ⟨x,0,none⟩=some (.pointer (some ⟨q,0,none⟩))/\∀ k,g.cell? ⟨w.heap.size,k,none⟩=[.int .i64 14,.int .i64 a,.int .i64 b,.string j,.string d,.int .i64 v.node,.int .i64 v.seq,.int .i64 v.o0,.int .i64 v.o1,.int .i64 v.o2,.int .i64 v.o3,.string v.value,.bool v.gone,(.slice y B A)][k]?):=fun g f=>⟨(m.out.fr f (fun e=>l.out.apart m.out.ty (by unfold DTy;decide) (e▸.Ay))).cell 0,(C.out.fr f (fun e=>l.out.apart C.out.ty (by unfold DTy;decide) (e▸.Ay))).cell⟩;have E:Hid (∀ g,Fr Nil Q g->g.cell? ⟨x,0,none⟩=some (.pointer (some ⟨q,0,none⟩))/\∀ k,g.cell? ⟨w.heap.size,k,none⟩=[.int .i64 14,.int .i64 a,.int .i64 b,.string j,.string d,.int .i64 v.node,.int .i64 v.seq,.int .i64 v.o0,.int .i64 v.o1,.int .i64 v.o2,.int .i64 v.o3,.string v.value,.bool v.gone,(.slice y B A)][k]?):=fun g f=>D.out g (f.mono (fun _ _ e=>absurd e id))
 go_region_held3 (fun g=>g.cell? ⟨x,0,none⟩=some (.pointer (some ⟨q,0,none⟩))/\∀ k,g.cell? ⟨w.heap.size,k,none⟩=[.int .i64 14,.int .i64 a,.int .i64 b,.string j,.string d,.int .i64 v.node,.int .i64 v.seq,.int .i64 v.o0,.int .i64 v.o1,.int .i64 v.o2,.int .i64 v.o3,.string v.value,.bool v.gone,(.slice y B A)][k]?) (first|assumption|go_keep|exact E.out _ zd)
  (first
    | (go_at_call 46;refine(HP.out _ G.out).mono ?_;rintro e w2 ⟨rfl,X,Y⟩;have R:Fr (fun k=>k=q) Q w2:=(G.out.mono (fun _ _ e=>absurd e id)).trans Y;have a5:=D.out w2 R)
    | (go_at_call 21;refine(S.out _).mono ?_;rintro e wc ⟨rfl,fc⟩;have G:Hid (Fr Nil Q wc):=Fr.trans zd fc;have a6:=E.out wc G.out;clear fc))
 have K:=m.out.fr R (fun e=>l.out.apart m.out.ty (by unfold DTy;decide) (e▸.Ay));have a3:=K.cell;simp only[zp] at a3;have HR:Hid (Str w0 w2 x n (t+10)):=.inr ⟨J,a2,ns,W,q,LD,_,I.out.up (I.out.row.AH l.out (R.mono (fun _ _ e=>e▸.Ay))) (Wup.refl W) (u:=t+10) (by omega),⟨⟨K,X⟩,HF.out.trans' R (fun i hi e=>by have:=HC.out.new q .Ay;omega),HC.out.low,HC.out.new⟩,F,p,(a0.vu (Trn.fail M (1+(zu a 40:Nat):Int) b hb)).more (by omega)⟩;clear K X Y R a4 a5 a6 HP s L D E r S a0;go_wp2_with fail;go_ret;exact⟨rfl,HR.out⟩
theorem N8(b:zl){B:Nat}{q w:World}{v n t:Nat}(c:zG B q)(j:B<=q.heap.size)(h:Str q w v n t)(o:OpM)(i:Vv q o)(E:t<=890000)(s:n<4) :
 Calls Tryz.prog 68 #[.pointer (some ⟨v,0,none⟩),.agg o.yb.toArray] w (X3 q v n (t+10)):=by
 obtain⟨l,u,G⟩:=i.yw;obtain⟨d,f,e,a⟩:=u.form;by_cases r:o.kind=1
 .exact He b c j h.any o d f e a r i.a i.b E s
 by_cases k:o.kind=12
 .exact It h.any o d f e a k i E
 rcases h with h|h
 .by_cases h13:o.kind=13
  .exact Jm h o d f e a h13 i.a
  by_cases g:o.kind=14
  .exact Jo h o d f e a g i.a i.b
  by_cases x:o.kind=2
  .exact H9 b c j h o d f e a x (by omega)
  by_cases y:o.kind=3
  .exact Ha b c j h o d f e a y (by omega)
  by_cases A:o.kind=4
  .exact Hb b c j h o d f e a A (by omega)
  by_cases C:o.kind=7
  .exact Hc b c j h o d f e a C (by omega)
  by_cases D:o.kind=9
  .exact Hd b c j h o d f e a D (by omega)
  by_cases m:o.kind=11
  .exact Ir b c j h o d f e a m (by omega)
  by_cases p:o.kind=15
  .exact Is b c j h o d f e a p (by omega)
  exact LH h o d f e a r k h13 g x y A C D m p
 .by_cases h13:o.kind=13
  .exact Jn h o d f e a h13 i.a
  by_cases g:o.kind=14
  .exact Jp h o d f e a g i.a i.b
  exact LI h o d f e a r k h13 g
def UT(w:World)(a:Addr)(b:List OpM):Prop:=∀ i (h:i<b.length) k,k<14->w.cell? ((a.add (i*14)).add k)=b[i].yb[k]?
theorem Jq(a:Addr):a.add 0=a:=by unfold Addr.add;simp
theorem ZI(a:Addr)(k:Nat)(h:k≠0):a.add k=⟨a.block,a.off+k,none⟩:=by unfold Addr.add;simp[h]
theorem SQ(a:Addr)(i:Nat):(a.add i).block=a.block:=by unfold Addr.add;split <;> rfl
structure Rdy(w0 w:World)(sb n t syn calls:Nat)(nums:Value)(ns:List Nat)(W:WM)(X:NL)(N:NM)(M:DM)(F:List Fact)(p:Nat):Prop where
 ns:Ns w0 w n calls nums ns W t
 kp:Kpt w0 w sb n calls nums X N M
 ni:NI W N M F p t
 cut:M.cut=0
 fail:M.fail=0
 ro:N.readOnly=false
 every:W.every=(syn:Int)
 mg:N.mg=none
 ye:W.ye=false
def Rr(f w:World)(e n t c:Nat):Prop:=∃ a b d W X N M F p,Rdy f w e n t c a b d W X N M F p
theorem LJ(u:zl){B:Nat}{E w:World}{J n t:Nat}(D:zG B E)(I:B<=E.heap.size)(h:US E w J n t)(r c:Int)(A:InR r)(C:InR c)(ht:t<=890000)(Q:n<4) :
 Calls Tryz.prog 25 #[.pointer (some ⟨J,0,none⟩),.int .i64 r,.int .i64 c] w fun e K=>e=.returned (.bool true)/\Rr E K J n (t+10) (zu c 5):=by
 obtain⟨a,b,ns,W,db,nv,LD,M,s,j,g,l,o,R,_⟩:=h;have Y:=s.top;refine(Vg u B J db n a nv b W LD M r c t w j (D.fr I g (fun _ e=>absurd e id)) (Gc I g.size) (Gc I l) (fun k d=>Gc I (o k d)) R ht s.node Q (by omega) A C).mono ?_;rintro e K ⟨rfl,X,N,M',G,S,⟨F,p,x⟩,q,hc,hf,v,O,f⟩;have L:Fr Nil E K:=g.trans' f (fun i hi e=>by
  rcases e with e|e
  .omega
  .have:=o i e;omega)
 have y:Zi K b ns:=ze s.row f (fun k d e=>by
  rcases e with e|e
  .exact zi s.row j.Ay (by decide) (by rw[d,e])
  .exact j.AH.apart (zE s.row d) (by unfold DTy;decide) e)
 have a0:=j.Ay.lt;have a1:=g.size;have T:G.broken=false/\G.every=(zu c 5:Nat)/\G.ye=false:=by
  obtain⟨V,i,mo,m,m',_,_,_,_,rfl⟩:=q.found;exact⟨rfl,rfl,rfl⟩
 exact⟨rfl,a+1,b,ns,G,X,N,M',F,p,s.opened y q.up (by omega),⟨S,L,l,fun k d=>by have:=v k d;omega,fun k d e=>by have:=v k d;omega,fun k d e=>by have:=O k d;omega⟩,x,hc,hf,by rw[x.ro];exact T.1,T.2.1,q.mg,T.2.2⟩
theorem Str.fr{c w:World}{e n t:Nat}(h:Str c w e n t):Fr Nil c w:=by
 obtain⟨_,_,_,_,_,_,_,_,_,_,a,_⟩:=h.any;exact a
theorem VL(g:zl)(B n:Nat)(y:n<4)(sa:Option Addr)(c:Nat)(l:List OpM)(w:World)(j:zG B w)(hB:B<=w.heap.size)(S:l≠[]->∃ a,sa=some a/\a.block<w.heap.size/\UT w a l)(Q:∀ o∈l,Vv w o)(K:l.length<=88000) :
 Calls Tryz.prog 20 #[.int .i64 n,.slice sa l.length c] w fun e w'=>∃ C,e=.returned (.pointer (some ⟨C,0,none⟩))/\Rr w w' C n (20+10*l.length) 0:=by
 have q:=Z j;have D:=Z hB;have a3:=Z S;have a2:=Z Q;have E:=Z (H6 g B n w j hB y);clear j hB S Q;go_enter Tryz.func20,Tryz.ntmps20;go_wp2_with fail;refine E.out.mono ?_;rintro e w1 ⟨C,X,N,M,W,rfl,J,⟨F,p,L⟩,d⟩;have r:Str w w1 C n 10:=.inl ⟨1,.slice none 0 0,[],W,X,N,M,⟨⟨by simp[Yh],.inl ⟨rfl,rfl⟩⟩,fun k hk=>by simp[Value.ownBlock] at hk,by simp,by omega,d.node,d.room,Ex d.calls,fun x hx=>by simp at hx⟩,J,.inl ⟨F,p,L⟩⟩;have I:=Z r;clear J L d r E;generalize O:l.length=m at K |-;have f:=Z O;clear O;go_wp2_with fail
 go_loopw [6] (fun t6 w'=>∃ i:Nat,i<=m/\t6=.int .i64 i/\Str w w' C n (10+10*i)) (fun t6 _=>m-(intOf t6).toNat)
 case atStart=>exact⟨0,Gz _,rfl,I.out⟩
 case round =>
  obtain⟨i,hi,rfl,T⟩:=hrel;have HR:=Z T;by_cases a8:i<m
  .obtain⟨a,rfl,hab,hst⟩:=a3.out (fun e=>by have:=f.out;rw[e] at this;simp at this;omega)
   have b:∀ k,k<14->wr.cell? ((a.add (i*14)).add k)=(l[i]'(by have:=f.out;omega)).yb[k]?:=fun k hk=>by
    rw[T.fr.cell (by rw[SQ,SQ];exact hab) id];exact hst i _ k hk
   have A:Vv w (l[i]'(by have:=f.out;omega)):=a2.out _ (Gj _);generalize l[i]'(by have:=f.out;omega)=o at b A;have t:=Z (N8 g q.out D.out HR.out o A (by omega) y);obtain⟨a6,oa,ob,oc,a9,a7,v,a5⟩:=o;simp only[OpM.yb,Ver.cells,GC,GP] at b t;have q0:=b 0 (by omega);rw[Jq] at q0;have q1:=b 1 (by omega);rw[ZI _ 1 (by decide)] at q1;have q2:=b 2 (by omega);rw[ZI _ 2 (by decide)] at q2;have q3:=b 3 (by omega);rw[ZI _ 3 (by decide)] at q3;have q4:=b 4 (by omega);rw[ZI _ 4 (by decide)] at q4;have q5:=b 5 (by omega);rw[ZI _ 5 (by decide)] at q5;have q6:=b 6 (by omega);rw[ZI _ 6 (by decide)] at q6;have q7:=b 7 (by omega);rw[ZI _ 7 (by decide)] at q7;have q8:=b 8 (by omega);rw[ZI _ 8 (by decide)] at q8;have q9:=b 9 (by omega);rw[ZI _ 9 (by decide)] at q9;have V:=b 10 (by omega);rw[ZI _ 10 (by decide)] at V;have Y:=b 11 (by omega);rw[ZI _ 11 (by decide)] at Y;have a0:=b 12 (by omega);rw[ZI _ 12 (by decide)] at a0;have a1:=b 13 (by omega);rw[ZI _ 13 (by decide)] at a1;have a4:(i:Int)<m:=by omega
   clear b T A hst;go_wp2_with fail;refine t.out.mono ?_;rintro e w6 ⟨rfl,h⟩;have s:=Z h;clear h t q0 q1 q2 q3 q4 q5 q6 q7 q8 q9 V Y a0 a1;go_wp2_with fail;exact⟨⟨i+1,by omega,by push_cast;rfl,by have:=s.out;rw[show 10+10*(i+1)=10+10*i+10 by omega];exact this⟩,by simp[intOf];omega⟩
  .have hin:i=m:=by omega
   subst hin;have a4:¬((i:Int)<i):=by omega
   have G:=Z (LJ g q.out D.out T.any 0 0 (by unfold InR;omega) (by unfold InR;omega) (by omega) y);clear T;go_wp2_with fail;refine G.out.mono ?_;rintro e w6 ⟨rfl,h⟩;have s:=Z h;clear h G;go_wp2_with fail;go_ret;exact⟨C,rfl,by have:=s.out;rw[f.out,show 20+10*i=10+10*i+10 by omega];exact this⟩
theorem Ans.wO{M c:DM}{e:Option Int}{n t:Nat}(h:Ans M c e)(j:Bd M t)(q:t<=1000000)(k:M.dead=false)(o:M.cut=0)(p:M.fail=0)(u:M.room=1152921504606846976)(a:e=some 10->M.room<M.yj+n)(s:n<=100000):e=none/\c.cut=0/\c.fail=0/\c.dead=false:=by
 have d:=h.2.cut;have g:=h.2.fail;rcases h.1 with⟨b,_,_,m⟩|⟨_,⟨b,_⟩|⟨b,_⟩⟩
 .exact⟨b,d.trans o,g.trans p,m.trans k⟩
 .have h1:=h.2.bad b k
  have r:=j.c0;rcases h1.2 with⟨l,_⟩|⟨l,_⟩ <;> omega
 .have h1:=a b
  have:=j.yj q;omega
theorem Jr(W:WM)(m:LM):(W.yp m).st[(W.yp m).st.length-1]?=some m:=by
 unfold WM.yp;simp only;split
 .have e1:(W.st++[m]).drop ((W.st++[m]).length-1)=[m]:=by
   rw[Ga,Gi,Bb,EG]
  rw[e1]
  rfl
 .rw[Ga,Gi,Bb]
  simp
theorem Aft.says{W:WM}{c:LM}{M:DM}{a:NM}{d:DM}{g:Nat}(h:Aft W c M none a d g):Z3 c a.S:=by
 obtain⟨i,j,e⟩:=h.yp;obtain⟨m,b,f,_⟩:=e.now;rw[Jr] at b;obtain rfl:=GG b;exact f
theorem LK{K:Keys}(h:Zz K)(a:ByteArray)(v:Ver):Z5 (Z0 K a [v]) a=[v]:=by
 rw[Ze a _ h,Gl (by simp)];have:=TB a [v] h;unfold Zu at this |-;rw[Gp] at this |-;exact Ly this
theorem Js{A C:Keys}{b c:ByteArray}{l:List Ver}(d:c≠b):(A++(b,l)::C).find? (fun e=>e.1==c)=(A++C).find? (fun e=>e.1==c):=by
 have f:¬(b==c)=true:=fun e=>d (zZ.1 e).symm;rw[DK,DK,Cx (p:=fun e:ByteArray × List Ver=>e.1==c) (a:=(b,l)) f]
theorem Tt{K:Keys}(h:Zz K)(key:ByteArray)(l:List Ver):∃ A C:Keys,((K=A++C)\/∃ d,K=A++(key,d)::C)/\(Z0 K key l=if l=[] then A++C else A++(key,l)::C)/\(∀ x∈A++C,x.1≠key):=by
 have e:=UC (K:=K) (key:=key);have b:=UD (key:=key) h;rw[Ze key l h];cases ha:zY zh (K.map Prod.fst) key with
 | true =>
  obtain⟨d,f,_⟩:=WU ha;rw[ha] at b;simp only[Ft] at b;refine⟨_,_,.inr ⟨d,f⟩,?_,fun x a=>?_⟩
  .unfold YC Zu
   rw[GA ha,GA ha];split <;> simp
  .rcases Gf.1 a with a|a
   .exact Zg (e x a)
   .exact(Zg (b x a)).symm
 | false =>
  have c:¬zY zh (K.map Prod.fst) key=true:=by rw[ha];decide
  rw[Gl c] at b;refine⟨_,_,.inl (Gu (low zh (K.map Prod.fst) key) K).symm,?_,fun x a=>?_⟩
  .unfold YC Zu
   rw[Gl c,Gl c,Gu];split <;> simp
  .rcases Gf.1 a with a|a
   .exact Zg (e x a)
   .exact(Zg (b x a)).symm
theorem Tu{K:Keys}(h:Zz K){a b:ByteArray}(l:List Ver)(f:b≠a):Z5 (Z0 K a l) b=Z5 K b:=by
 obtain⟨A,C,c,i,_⟩:=Tt h a l;have e:(Z0 K a l).find? (fun e=>e.1==b)=K.find? (fun e=>e.1==b):=by
  rw[i];have d:∀ g,(A++(a,g)::C).find? (fun e=>e.1==b)=(A++C).find? (fun e=>e.1==b):=fun g=>Js f;rcases c with c|⟨j,c⟩
  .rw[c]
   split
   .rfl
   .exact d l
  .rw[c,d j]
   split
   .rfl
   .exact d l
 unfold Z5;rw[e]
theorem LL{K:Keys}(h:Zz K)(a:ByteArray):Z5 (Z0 K a []) a=[]:=by
 obtain⟨A,C,_,b,c⟩:=Tt h a [];unfold Z5;rw[b,GA rfl,Vb c]
theorem U7(c:ByteArray):∀ {K K2:Keys},ZN K2=ZN K->(Z5 K2 c).map Xn=(Z5 K c).map Xn
 | [],[],_=>rfl
 | [],(_,_)::_,h=>by simp[ZN] at h
 | (_,_)::_,[],h=>by simp[ZN] at h
 | (a,l)::K,(b,u)::K2,h=>by
  simp only[ZN,Gw,Cg,FF] at h;obtain⟨⟨rfl,i⟩,g⟩:=h;have f:=U7 c (K:=K) (K2:=K2) g;unfold Z5 at f |-;by_cases d:(b==c)=true
  .rw[DB (p:=fun e:ByteArray × List Ver=>e.1==c) (a:=(b,u)) d,DB (p:=fun e:ByteArray × List Ver=>e.1==c) (a:=(b,l)) d]
   exact i
  .rw[Cx (p:=fun e:ByteArray × List Ver=>e.1==c) (a:=(b,u)) d,Cx (p:=fun e:ByteArray × List Ver=>e.1==c) (a:=(b,l)) d]
   exact f
def Has(K:Keys)(a b:ByteArray):Prop:=∃ v,Z5 K a=[v]/\v.value=b/\v.gone=false
theorem Has.put{m:LM}(h:Zz m.keys)(b a:ByteArray)(n:Int):Has (m.put b a n).keys b a:=⟨m.putV b a n,LK h b _,rfl,rfl⟩
theorem Has.other{K:Keys}{a d b:ByteArray}{l:List Ver}(h:Has K a d)(i:Zz K)(c:a≠b):Has (Z0 K b l) a d:=by
 obtain⟨v,e,f,g⟩:=h;exact⟨v,by rw[Tu i l c];exact e,f,g⟩
theorem Has.bare{K b:Keys}{a c:ByteArray}(h:Has K a c)(j:ZN b=ZN K):Has b a c:=by
 obtain⟨v,d,f,g⟩:=h;have:=U7 a j;rw[d] at this
 match hv:Z5 b a,this with
 | [u],this =>
  simp only[Gw,Fz,Cg,As] at this;unfold Xn at this;simp only[Ver.mk.injEq] at this;exact⟨u,hv,by rw[<- f];exact this.2.2.2.2.2.2.1,by rw[<- g];exact this.2.2.2.2.2.2.2⟩
 | [],this=>simp at this
 | _::_::_,this=>simp at this
theorem Has.asked{K:Keys}{a b:ByteArray}(h:Has K a b)(f:Zz K):WJ (zr K a) b=true:=by
 obtain⟨v,c,d,e⟩:=h;rw[<- VP a f,c];simp[WJ,d,e]
structure Kpd(a va b:ByteArray)(dst:Nat)(tx:ByteArray)(m:LM):Prop where
 here:Has m.keys a va
 gone:Z5 m.keys b=[]
 hints:m.hints=[(dst,tx)]
theorem Kpd.put{a k b:ByteArray}{d:Nat}{j:ByteArray}{m:LM}(h:Kpd a k b d j m)(i:Zz m.keys){c:ByteArray}(e:ByteArray)(n:Int)(l:a≠c)(o:b≠c):Kpd a k b d j (m.put c e n) :=
 ⟨h.here.other i l,by show Z5 (Z0 m.keys c _) b=[];rw[Tu i _ o];exact h.gone,h.hints⟩
theorem Kpd.bare{a j b:ByteArray}{c:Nat}{g:ByteArray}{m d:LM}(h:Kpd a j b c g m)(f:ZN d.keys=ZN m.keys)(k:d.hints=m.hints):Kpd a j b c g d :=
 ⟨h.here.bare f,by have:=U7 b f;rw[h.gone] at this;exact Cf.1 this,k.trans h.hints⟩
theorem Kpd.opened{a o b:ByteArray}{d:Nat}{l:ByteArray}{W g:WM}{M q:DM}{f:Nat}{N:NM}(h:∀ m∈W.st,Kpd a o b d l m)(e:Opd W M f N q g):∀ m∈g.st,Kpd a o b d l m:=by
 obtain⟨j,i,y,m,t,_,s,_,r,rfl⟩:=e.found;have k:=U5 r;intro x c;have c:x∈W.st.take i++[t]:=c;rcases Gf.1 c with c|c
 .exact h x (GN c)
 .rw[Gg] at c
  subst c;exact(h m (fFS s)).bare k.1 k.2.1
def Z4(n:Int):ByteArray:={data:=#[126]}++Za (zu n 1000)
theorem WG{n:Nat}(h:n<1000000):(Za n).size<=21:=by
 unfold Za
 simpa [ByteArray.size] using Lib.itoa_length_le (n:Int) (by omega) (by omega)
theorem Vi(n:Int):zz (Z4 n)=true:=by
 have a:=WG (n:=zu n 1000) (by have:=ZH n (n:=1000) (by decide);omega);unfold zz Z4;rw[ByteArray.size_append];have:({data:=#[126]}:ByteArray).size=1:=rfl;rw[this];simp only[Gr];omega
theorem UU{m n:Nat}(g:m<1000)(i:n<1000)(h:m≠n):Z4 m≠Z4 n:=fun e=>by
 unfold Z4 at e;have c:=FW (fun b:ByteArray=>b.data.toList) e;simp only[ER,EP] at c;have d:=List.append_cancel_left c;have f:Za (zu m 1000)=Za (zu n 1000):=by
  cases h1:Za (zu m 1000) with
  | mk a =>
   cases h2:Za (zu n 1000) with
   | mk b =>
    rw[h1,h2] at d;have:a=b:=Array.toList_inj.1 d;rw[this]
 have:=Pw f;rw[Wg g,Wg i] at this;exact h this
theorem Wh(n:Int)(c:InR n)(w:World)(i:Tab w) :
 Calls Tryz.prog 26 #[.int .i64 n] w fun e f=>e=.returned (.string (Z4 n))/\Fr Nil w f:=by
 have h:Hid (∀ a,Calls Tryz.prog 21 #[.int .i64 n,.int .i64 1000] a fun e f=>e=.returned (.int .i64 (zu n 1000))/\f=a):=fun a=>Zl n 1000 a c.1 c.2 (by decide) (by decide);have g:=Z (V5 (zu n 1000) (by have:=ZH n (n:=1000) (by decide);omega) w i);have b:Hid (Z4 n={data:=#[126]}++Za (zu n 1000)):=rfl;have d:¬9223372036854775807<1+(Za (zu n 1000)).size:=by have:=WG (n:=zu n 1000) (by have:=ZH n (n:=1000) (by decide);omega);omega
 generalize zu n 1000=q at h g b d;generalize Z4 n=k at b |-;clear c i;go_enter Tryz.func26,Tryz.ntmps26;go_wp2_with fail;refine(h.out _).mono ?_;rintro e a ⟨rfl,l⟩;subst a;go_wp2_with fail;refine g.out.mono ?_;rintro e m ⟨rfl,j⟩
 go_wp2
 go_ret;exact⟨by rw[b.out];rfl,j⟩
structure Rk(w0 w:World)(sb n t syn calls:Nat)(nums:Value)(W:WM)(X:NL)(N:NM)(M:DM)(F:List Fact)(p:Nat):Prop where
 kp:Kpt w0 w sb n calls nums X N M
 ni:NI W N M F p t
 cut:M.cut=0
 fail:M.fail=0
 ro:N.readOnly=false
 every:W.every=(syn:Int)
 node:W.node=(n:Int)
 room:W.room=-1
 top:calls<=t
 ye:W.ye=false
theorem Rdy.rk{e w:World}{d n t c a:Nat}{b:Value}{f:List Nat}{W:WM}{X:NL}{N:NM}{M:DM}{F:List Fact}{p:Nat}(h:Rdy e w d n t c a b f W X N M F p):Rk e w d n t c a b W X N M F p :=
 ⟨h.kp,h.ni,h.cut,h.fail,h.ro,h.every,h.ns.node,h.ns.room,h.ns.top,h.ye⟩
theorem Rk.nil{g w w':World}{e n t d a:Nat}{c:Value}{W:WM}{X:NL}{N:NM}{M:DM}{F:List Fact}{p:Nat}(h:Rk g w e n t d a c W X N M F p)(f:Fr Nil w w'):Rk g w' e n t d a c W X N M F p :=
 {h with kp:=h.kp.nil f}
theorem Rk.more{f w:World}{e n t u c a:Nat}{b:Value}{W:WM}{X:NL}{N:NM}{M:DM}{F:List Fact}{p:Nat}(h:Rk f w e n t c a b W X N M F p)(d:t<=u):Rk f w e n u c a b W X N M F p :=
 {h with ni:=h.ni.more d,top:=Gc h.top d}
theorem Rk.yF{e w:World}{d n t c a:Nat}{b:Value}{W:WM}{X:NL}{N:NM}{M:DM}{F:List Fact}{p:Nat}(h:Rk e w d n t c a b W X N M F p):M.room=1152921504606846976:=by
 rw[h.ni.room];unfold WM.yF;rw[h.room];rfl
theorem Rk.ym{g w:World}{d n t c a:Nat}{b:Value}{W:WM}{X:NL}{N:NM}{M:DM}{F:List Fact}{p:Nat}(h:Rk g w d n t c a b W X N M F p):Zz N.S.keys:=h.ni.st.1.ym
theorem Opd.vM{W a:WM}{M c:DM}{b:Nat}{N:NM}(h:Opd W M b N c a):a.node=W.node/\a.every=b/\a.writes=0/\a.broken=false/\a.room=W.room/\a.ye=false:=by
 obtain⟨_,_,_,_,_,_,_,_,_,rfl⟩:=h.found;exact⟨rfl,rfl,rfl,rfl,rfl,rfl⟩
theorem Iu(W:WM)(m:LM):(W.yp m).every=W.every/\(W.yp m).node=W.node/\(W.yp m).room=W.room/\(W.yp m).ye=W.ye /\
 (((0<W.every/\((W.writes+1:Nat):Int).tmod W.every=0)/\(W.yp m).st=[m])\/(¬(0<W.every/\((W.writes+1:Nat):Int).tmod W.every=0)/\(W.yp m).st=W.st++[m])):=by
 unfold WM.yp WM.due;simp only[Fm,Gr];split
 .rename_i h
  exact⟨rfl,rfl,rfl,rfl,.inl ⟨h,by simp⟩⟩
 .rename_i h
  exact⟨rfl,rfl,rfl,rfl,.inr ⟨h,rfl⟩⟩
theorem My(N:NM)(M:DM):(N.sync M).2.1.mg=N.mg:=rfl
theorem LN(N:NM)(M:DM):(N.counted M).2.1.mg=N.mg:=by
 unfold NM.counted;split
 .exact My _ M
 .rfl
theorem Jt(N:NM)(M:DM)(x:Fact)(f:Nat):(N.change M x f).2.1.mg=N.mg:=by
 unfold NM.change;split
 .rfl
 .exact LN _ _
theorem U9(N:NM)(M:DM)(x:Fact)(f:Nat):(N.asked M x f).2.1.mg=N.mg:=Jt N M x f
theorem Rs(N:NM)(M:DM)(f:Nat):(N.next M f).2.2.1.mg=N.mg:=by
 have h:(N.AY M f).2.1.mg=N.mg:=by
  unfold NM.AY;split
  .rfl
  .exact My _ _
 unfold NM.next;split
 .rfl
 .split
  .exact h
  .exact h
theorem SR(N:NM)(M:DM)(a:ByteArray)(b:NM->Nat->List Ver)(f g:Nat):(N.replace M a b f g).2.2.1.mg=N.mg:=by
 unfold NM.replace;split
 .exact Rs N M f
 .split
  .exact(U9 _ _ _ _).trans (Rs N M f)
  .exact(U9 _ _ _ _).trans (Rs N M f)
theorem Hz(N:NM)(M:DM)(b a:ByteArray)(f g:Nat):(N.put M b a f g).2.2.1.mg=N.mg:=by
 unfold NM.put;split
 .rfl
 .split
  .rfl
  .split
   .rfl
   .exact SR _ _ _ _ _ _
theorem Ju(N:NM)(M:DM)(a:ByteArray)(f g:Nat):(N.delete M a f g).2.2.1.mg=N.mg:=by
 unfold NM.delete;split
 .rfl
 .split
  .rfl
  .exact SR _ _ _ _ _ _
theorem Hf(N:NM)(M:DM)(b:Int)(a:ByteArray)(f:Nat):(N.hint M b a f).2.1.mg=N.mg:=by
 rw[TL];split
 .rfl
 .exact U9 _ _ _ _
theorem G0(N:NM)(M:DM)(f:Nat):(N.yY M f).2.1.mg=N.mg:=by
 rw[Ri];split
 .rfl
 .exact U9 _ _ _ _
def Wrt(p:World)(l n t c a:Nat)(b:Value)(W:WM)(X:NL)(N:NM)(g:LM->LM->Prop)(o:World):Prop :=
 ∃ m d h e j f i k,Rk p o l n t c a b f h e j i k/\h.nb=X.nb/\m∈W.st/\Z3 m N.S/\Z3 d e.S/\g m d/\(f.st=[d]\/(c≠1/\f.st=W.st++[d]))/\e.mg=N.mg
theorem NI.wE{W:WM}{N:NM}{M:DM}{F:List Fact}{p t:Nat}(h:NI W N M F p t):∃ m,m∈W.st/\Z3 m N.S/\MOk W.node m t:=by
 obtain⟨m,a,b,c⟩:=h.now;exact⟨m,fFS a,b,c⟩
theorem Aft.rk{s w v:World}{r n t i b:Nat}{c:Value}{W d:WM}{X o:NL}{N j:NM}{M l:DM}{F:List Fact}{p:Nat}{m k:LM}{u:Option Int}{g:LM->LM->Prop}(h:Rk s w r n t i b c W X N M F p)(Y:t+20<=980000)(a:Aft d k M u j l (t+10))(G:Kpt s v r n b c o j l)(C:o.nb=X.nb)
 (f:d.st=W.st/\d.every=W.every/\d.node=W.node/\d.room=W.room/\d.ye=W.ye)(I:m∈W.st)(K:Z3 m N.S)(E:g m k)(q:j.mg=N.mg):u=none/\Wrt s r n (t+10) i b c W X N g v:=by
 obtain⟨rfl,y,A,V⟩:=a.yo.wO h.ni.bd (by omega) h.ni.dead h.cut h.fail h.yF a.full (by decide);obtain⟨x,L,J⟩:=a.yp;obtain⟨O,Q,R,T,S⟩:=Iu d k;refine⟨rfl,m,k,o,j,l,_,x,L,⟨G,J,y,A,a.ro,by rw[O,f.2.1];exact h.every,by rw[Q,f.2.2.1];exact h.node,by rw[R,f.2.2.2.1];exact h.room,by have:=h.top;omega,by rw[T,f.2.2.2.2];exact h.ye⟩,C,I,K,a.says,E,?_,q⟩;rcases S with⟨_,e⟩|⟨D,e⟩
 .exact .inl e
 .refine .inr ⟨fun B=>D ?_,by rw[e,f.1]⟩
  rw[f.2.1,h.every,B];refine⟨by decide,?_⟩;show Int.tmod _ 1=0;exact Int.tmod_one _
theorem Rk.put(l:zl){B:Nat}{x w:World}{K n t s d:Nat}{i:Value}{W:WM}{X:NL}{N:NM}{M:DM}{F:List Fact}{p:Nat}(h:Rk x w K n t s d i W X N M F p)(r:zG B x)(O:B<=x.heap.size)(ht:t+20<=980000)(b a:ByteArray)(T:zz b=true)(Y:a.size<=128) :
 Calls Tryz.prog 22 #[.pointer (some ⟨X.nb,0,none⟩),.string b,.string a] w fun e L=>∃ G:Int,e=.returned (.tuple #[.int .i64 G,.int .i64 0])/\Wrt x K n (t+10) s d i W X N (fun m E=>∃ k:Int,E=m.put b a k) L:=by
 obtain⟨m,C,J,D⟩:=h.ni.wE;have o:∀ g∈M.ids,g<w.heap.size:=fun g A=>(h.kp.st.node.AH.files g A).lt;have I:=h.ni.put (m:=m) (H0:=w.heap.size) (by omega) h.ro J D o b a T Y;refine(Vc l B X N M b a w h.kp.st.node (h.kp.env r O) (fun u hu=>((h.ni.st.1.get b).2.2 u hu).node) (fun _ _ _=>I.1 _ (Gb _))).mono ?_;rintro e L ⟨f,g,X',rfl,R,A,y,c⟩;obtain⟨er,N',M',Q,V,j⟩:=I.2.2.2 f g R A y;have q:=Hz N M b a f g;rw[Q] at c q |-;obtain⟨rfl,hw⟩:=Aft.rk (g:=fun m E=>∃ k:Int,E=m.put b a k) h ht j (h.kp.step c) c.same.nb ⟨rfl,rfl,rfl,rfl,rfl⟩ C J ⟨_,rfl⟩ q;exact⟨_,rfl,hw⟩
theorem Rk.delete(j:zl){B:Nat}{r w:World}{E n t q c:Nat}{d:Value}{W:WM}{X:NL}{N:NM}{M:DM}{F:List Fact}{p:Nat}(h:Rk r w E n t q c d W X N M F p)(o:zG B r)(I:B<=r.heap.size)(Q:t+20<=980000)(b:ByteArray)(L:zz b=true) :
 Calls Tryz.prog 30 #[.pointer (some ⟨X.nb,0,none⟩),.string b] w fun e G=>∃ A:Int,e=.returned (.tuple #[.int .i64 A,.int .i64 0])/\Wrt r E n (t+10) q c d W X N (fun m y=>y=m.delete b) G:=by
 obtain⟨m,v,D,x⟩:=h.ni.wE;have k:∀ g∈M.ids,g<w.heap.size:=fun g u=>(h.kp.st.node.AH.files g u).lt;have C:=h.ni.delete (m:=m) (H0:=w.heap.size) (by omega) h.ro D x k b L;refine(WV j B X N M b w h.kp.st.node (h.kp.env o I) (fun _ _=>C.1 _ (Gb _))).mono ?_;rintro e G ⟨f,g,V,rfl,K,u,s,a⟩;obtain⟨Y,T,S,J,O,i⟩:=C.2.2.2 f g K u s;have l:=Ju N M b f g;rw[J] at a l |-;obtain⟨rfl,R⟩:=Aft.rk (g:=fun m y=>y=m.delete b) h Q i (h.kp.step a) a.same.nb ⟨rfl,rfl,rfl,rfl,rfl⟩ v D rfl l;exact⟨_,rfl,R⟩
theorem Rk.hint(r:zl){B:Nat}{D w:World}{L n t C l:Nat}{o:Value}{W:WM}{X:NL}{N:NM}{M:DM}{F:List Fact}{p:Nat}(h:Rk D w L n t C l o W X N M F p)(A:zG B D)(Q:B<=D.heap.size)(ht:t+20<=980000)(i:Int)(c:ByteArray)(y:Xg N i c=none) :
 Calls Tryz.prog 31 #[.pointer (some ⟨X.nb,0,none⟩),.int .i64 i,.string c] w fun e O=>e=.returned (.int .i64 0)/\Wrt D L n (t+10) C l o W X N (fun m I=>I=m.hint i.toNat c) O:=by
 obtain⟨m,E,K,G⟩:=h.ni.wE;have s:∀ g∈M.ids,g<w.heap.size:=fun g Y=>(h.kp.st.node.AH.files g Y).lt;have J:=h.ni.hint (m:=m) (H0:=w.heap.size) (by omega) K G s i c;refine(VR r B X N M i c w h.kp.st.node (h.kp.env A Q) (fun a b d=>J.1 _ (Gb _) a b d)).mono ?_;rintro e O ⟨f,X',rfl,V,j⟩;obtain⟨er,N',M',T,a0,q⟩:=J.2 y f V;have x:=Hf N M i c f;rw[T] at j x |-;obtain⟨rfl,hw⟩:=Aft.rk (g:=fun m I=>I=m.hint i.toNat c) h ht q (h.kp.step j) j.same.nb ⟨rfl,rfl,rfl,rfl,rfl⟩ E K rfl x;exact⟨rfl,hw⟩
theorem Rk.yY(j:zl){B:Nat}{v w:World}{G n t s b:Nat}{c:Value}{W:WM}{X:NL}{N:NM}{M:DM}{F:List Fact}{p:Nat}(h:Rk v w G n t s b c W X N M F p)(r:zG B v)(J:B<=v.heap.size)(S:t+20<=980000)(A:N.S.hints.length≠0) :
 Calls Tryz.prog 28 #[.pointer (some ⟨X.nb,0,none⟩)] w fun e I=>e=.returned (.int .i64 0)/\Wrt v G n (t+10) s b c W X N (fun m C=>C=m.yY) I:=by
 obtain⟨m,x,E,y⟩:=h.ni.wE;have l:∀ g∈M.ids,g<w.heap.size:=fun g O=>(h.kp.st.node.AH.files g O).lt;have D:=h.ni.yY (m:=m) (H0:=w.heap.size) (by omega) E y l;have q:Wq N=none:=by unfold Wq;rw[h.ro,Gl (by decide),Gl A]
 refine(RF j B X N M w h.kp.st.node (h.kp.env r J) (fun d=>D.1 _ (Gb _) d)).mono ?_;rintro e I ⟨f,X',rfl,L,a⟩;obtain⟨er,Y,V,K,Q,i⟩:=D.2 q f L;have o:=G0 N M f;rw[K] at a o |-;obtain⟨rfl,T⟩:=Aft.rk (g:=fun m C=>C=m.yY) h S i (h.kp.step a) a.same.nb ⟨rfl,rfl,rfl,rfl,rfl⟩ x E rfl o;exact⟨rfl,T⟩
theorem Rk.sync(g:zl){B:Nat}{r w:World}{E n t l b:Nat}{c:Value}{W:WM}{X:NL}{N:NM}{M:DM}{F:List Fact}{p:Nat}(h:Rk r w E n t l b c W X N M F p)(j:zG B r)(S:B<=r.heap.size)(ht:t+20<=980000) :
 Calls Tryz.prog 32 #[.pointer (some ⟨X.nb,0,none⟩)] w fun e G=>e=.returned (.int .i64 0)/\∃ C q N' o W' s D,Rk r G E n (t+10) l b c W' q N' o s D/\q.nb=X.nb/\Z3 C N.S/\N'.S=N.S/\W'.st=[C]:=by
 obtain⟨m,d,Y,T⟩:=h.ni.now;have f:=h.yF;refine(XY g B X N M w h.kp.st.node (h.kp.env j S)).mono ?_;rintro e G ⟨q,rfl,a⟩;obtain⟨y,I,o,D,O,hw,_,v,_⟩:=Sv (h:=h.ni.kp.mono (fun _=>h.ro) (Gb _)) (by omega);have x:N.AJ M=(Zh y,({N with J:=I}:NM).yo y,o):=by
  unfold NM.AJ;rw[Gl (by rw[h.ro];decide),O]
 obtain⟨rfl,J,K,c3⟩:=hw.yo.wO (n:=0) h.ni.bd (by omega) h.ni.dead h.cut h.fail f (fun e=>absurd e v) (by decide);have A:=h.ni.sync (by omega) h.ro;rw[x] at A a |-;rcases A with⟨_,_,s,p2,V⟩|⟨Q,_⟩
 .have hlast:W.st.drop (W.st.length-1)=[m]:=by
   have i:=(GF.1 d).1;have L:=Fb i;rw[Gq i] at d;rw[L,GG d,GX (by omega)]
  refine⟨rfl,m,q,_,o,_,s,p2,⟨h.kp.step a,V.more (by omega),J,K,?_,h.every,h.node,h.room,by have:=h.top;omega,h.ye⟩,a.same.nb,Y,rfl,hlast⟩;show(N.readOnly||false)=false;rw[h.ro];rfl
 .cases Q
def ZO(w c:World):Prop:=∀ b a,Blk w b a 81->Blk c b a 81
theorem ZO.nil{w w':World}(f:Fr Nil w w'):ZO w w':=fun _ _ h=>h.fr f id
theorem ZO.trans{c w2 e:World}(h:ZO c w2)(k:ZO w2 e):ZO c e:=fun b a x=>k b a (h b a x)
theorem ZO.node{w a:World}{X:NL}{N:NM}{M:DM}(b:NRep w X N M)(f:Fr (NFoot X M) w a):ZO w a:=fun _ _ h=>h.fr f (b.apart h.ty (by decide) (by decide) (by decide) (by decide) (by decide) (by unfold DTy;decide) (by decide))
theorem ZO.store{w l:World}{j g:Nat}{m:Value}{n a:Nat}{c:Value}{d:DL}{M:DM}(i:StC w j g m n a c d M)(f:Fr (fun k=>k=j\/Foot g d M k) w l):ZO w l:=fun b _ h=>h.fr f (fun e=>by
 rcases e with e|e
 .subst e
  have:=h.ty.inj i.Ay.ty
  revert this;decide
 .exact i.AH.apart h.ty (by unfold DTy;decide) e)
theorem Jv{u w y:World}{r J n t s a:Nat}{b:Value}{I:DL}{W A:WM}{M c:DM}{x:NL}{v:NM}{G:List Fact}{K:Nat}(h:Fr Nil u w)(l:u.heap.size<=r)(V:r<w.heap.size)(o:∀ k,Foot J I M k->u.heap.size<=k)
 (E:StO y r n (a+1) b x v c)(p:NI A v c G K (t+10))(D:Opd W ((M.yh 0).AP 0 0) s v c A)(S:c.cut=0)(T:c.fail=0)(m:∀ k,NFoot x c k->w.heap.size<=k)(C:∀ k,SRead x.LS k->w.heap.size<=k)(f:Fr (fun k=>k=r\/Foot J I M k) w y)(d:W.node=(n:Int))(g:W.room=-1)(q:a+1<=t+10) :
 Rk u y r n (t+10) s (a+1) b A x v c G K:=by
 have X:=h.size;have B:Fr Nil u y:=h.trans' f (fun i hi e=>by
  rcases e with e|e
  .omega
  .have:=o i e;omega)
 obtain⟨L,N,Y,O,Q,R⟩:=D.vM;exact⟨⟨E,B,l,fun k j=>by have:=m k j;omega,fun k j e=>by have:=m k j;omega,fun k j e=>by have:=C k j;omega⟩,p,S,T,p.ro.trans O,N,L.trans d,Q.trans g,q,R⟩
theorem Rk.steady(g:zl){B:Nat}{x w:World}{v n t L a:Nat}{b:Value}{W:WM}{X:NL}{N:NM}{M:DM}{F:List Fact}{p:Nat}(h:Rk x w v n t L a b W X N M F p)(l:zG B x)(s:B<=x.heap.size)(T:t<=890000)(E:n<4)(d m:Int)(j:InR d)(J:InR m) :
 Calls Tryz.prog 25 #[.pointer (some ⟨v,0,none⟩),.int .i64 d,.int .i64 m] w fun e O=>e=.returned (.bool true)/\∃ A q o r y K,Rk x O v n (t+10) (zu m 5) (a+1) b r A q o y K/\Opd W ((M.yh 0).AP 0 0) (zu m 5) q o r/\ZO w O:=by
 have c:=h.kp;refine(Vg g B v X.db n a _ b W X.LD M d m t w c.closed (l.fr s c.fr (fun _ e=>absurd e id)) (Gc s c.fr.size) (Gc s c.low) (fun k e=>Gc s (c.new k (.inr (.inr (.inr (.inl e)))))) ⟨F,p,h.ni.sh⟩ T h.node E (by have:=h.top;omega) j J).mono ?_;rintro e O ⟨rfl,A,q,o,r,I,⟨y,K,G⟩,i,Q,S,C,D,f⟩;refine⟨rfl,A,q,o,r,y,K,?_,i,ZO.store c.closed f⟩;exact Jv c.fr c.low c.st.Ay.lt (fun k e=>c.new k (.inr (.inr (.inr (.inl e))))) I G i Q S C D f h.node h.room (by have:=h.top;omega)
theorem add_zero(a:Addr):a.add 0=a:=by unfold Addr.add;simp
theorem Hg(a:Addr)(k:Nat)(h:k≠0):a.add k=⟨a.block,a.off+k,none⟩:=by unfold Addr.add;simp[h]
theorem VM{w:World}{p:Addr}{v:Value}(h:w.cell? p=some v):p.block<w.heap.size:=by
 refine BB fun a=>?_;unfold World.cell? at h;rw[EZ a] at h;cases h
theorem Jw{w:World}{p:Addr}{v:Value}(h:w.cell? p=some v):p.spot=none:=by
 unfold World.cell? at h;split at h
 .split at h
  .cases h
  .rename_i hs
   simpa using hs
 .cases h
theorem Yz:Tryz.prog.cellsOf 3=1:=by kernel_rfl
theorem LO:Tryz.prog.cellsOf 4=1:=by kernel_rfl
theorem SS:Tryz.prog.cellsOf 9=1:=by kernel_rfl
theorem LP:Tryz.prog.cellsOf 26=1:=by kernel_rfl
theorem Jy:Tryz.prog.cellsOf 34=2:=by kernel_rfl
theorem LQ:Tryz.prog.cellsOf 35=4:=by kernel_rfl
theorem Ul:Tryz.prog.cellsOf 37=8:=by kernel_rfl
theorem Xv{H:Type}(d:DataW H):1<=Rows.uptoBulk d:=by
 cases d with
 | lit l=>cases l <;> simp[Rows.uptoBulk]
 | _=>simp[Rows.uptoBulk]
theorem TN{H:Type}(k:Nat):∀ (l:List (DataW H)),(∀ d∈l,k<=Rows.uptoBulk d)->k*l.length<=Rows.uptoBulkAll l
 | [],_=>by simp
 | d::l,h=>by
  have b:=TN k l (fun x a=>h x (Ge _ a));have c:=h d (Gh ..);simp only[Rows.uptoBulkAll,Gn,Nat.mul_add,Nat.mul_one];omega
section
variable {H:Type} {enc:TypeId × Value->H} {W:World} {sp:Nat->Bool} {held:Bool} {n:Nat}
theorem ZJ{c:Value}{x:DataW H × List MemPlace}(h:DataW.trod enc Tryz.prog W 0 sp held n 3 [c]=some x):∃ k,c=.int .i64 k/\InR k:=by
 obtain⟨k,e,_,a⟩:=DataW.trod_int Ew h;refine⟨k,by simpa using e,?_⟩;unfold Lit.wf at a;simp only[Fm,Gr] at a;have b:IntKind.i64.min=-9223372036854775808:=by decide
 have d:IntKind.i64.max=9223372036854775807:=by decide
 rw[b,d] at a;exact a
theorem O6{c:Value}{x:DataW H × List MemPlace}(B:sp=fun _=>true)(h:DataW.trod enc Tryz.prog W 0 sp held n 26 [c]=some x):Hy W c:=by
 subst B;rcases Deep.open_slice1 Dh Yz h with⟨v,_⟩|⟨a,len,b,m,Q,V,D,O,v,_,L,G,M,_,d⟩
 .have:c=.slice none 0 0:=by simpa using v
  exact⟨[],.inl ⟨⟨none,0,this⟩,rfl⟩,fun x t=>by cases t⟩
 .have hcv:c=.slice (some a) len b:=by simpa using v
  have N:m=b:=by rw[M];rfl
  have I:∀ i,i<m->∃ k,V i=.int .i64 k/\InR k:=fun i o=>ZJ (d i o).2;obtain⟨f,E⟩:∃ f:Nat->Int,∀ i,i<m->V i=.int .i64 (f i)/\InR (f i):=by
   classical
   refine⟨fun i=>if o:i<m then Classical.choose (I i o) else 0,fun i o=>?_⟩;simp only[Am o];exact Classical.choose_spec (I i o)
  by_cases K:len=0
  .subst K
   exact⟨[],.inl ⟨⟨some a,b,hcv⟩,rfl⟩,fun x t=>by cases t⟩
  .have hc0:=(d 0 (by omega)).1
   rw[add_zero] at hc0;have r:=Jw hc0;have q:=VM hc0;obtain⟨g,l,J⟩:=a;simp only at r q;subst r;have A:((List.range len).map f).length=len:=by simp
   refine⟨(List.range len).map f,.inr ⟨g,l,b,by rw[A];exact hcv,q,by rw[A];omega,fun j y=>?_⟩,fun x t=>?_⟩
   .rw[A] at y
    have u:=(d j (by omega)).1;rw[(E j (by omega)).1] at u;have e:Addr.add ⟨g,l,none⟩ j=⟨g,l+j,none⟩:=by
     by_cases p:j=0
     .subst p;rw[add_zero];rfl
     .rw[Hg _ _ p]
    rw[e] at u
    simpa using u
   .obtain⟨j,y,rfl⟩:=Gm.1 t
    exact(E j (by have:=Cs.1 y;omega)).2
theorem TO{c:Value}{x:DataW H × List MemPlace}(h:DataW.trod enc Tryz.prog W 0 sp held n 9 [c]=some x):∃ s,c=.string s:=by
 obtain⟨k,a,_⟩:=DataW.trod_string Ec h;exact⟨k,by simpa using a⟩
theorem Iv{c:Value}{x:DataW H × List MemPlace}(h:DataW.trod enc Tryz.prog W 0 sp held n 4 [c]=some x):∃ b,c=.bool b:=by
 obtain⟨k,a,_⟩:=DataW.trod_bool CJ h;exact⟨k,by simpa using a⟩
theorem YN{α:Type}{l:List α}{i k:Nat}(b:l.length=k)(a:i<k):∃ x,l[i]?=some x:=⟨l[i]'(by omega),Gq (by omega)⟩
theorem O7{y:List Value}{x:DataW H × List MemPlace}(h:DataW.trod enc Tryz.prog W 0 sp held n 37 y=some x):(∃ v:Ver,y=v.cells)/\5<=Rows.uptoBulk x.1:=by
 obtain⟨j,m,_,hx,J,a,t⟩:=Bi Tryz.underlying37 h;rw[Ul] at J;refine⟨?_,?_⟩
 .match y,J with
  | [e,f,k,l,o,p,q,r],_ =>
   have A:DataW.trod enc Tryz.prog W 0 sp held m 34 (([e,f,k,l,o,p,q,r].drop 0).take (Tryz.prog.cellsOf 34))=j[0]?:=t 0 _ rfl;have B:DataW.trod enc Tryz.prog W 0 sp held m 35 (([e,f,k,l,o,p,q,r].drop 2).take (Tryz.prog.cellsOf 35))=j[1]?:=t 1 _ rfl;have C:DataW.trod enc Tryz.prog W 0 sp held m 9 (([e,f,k,l,o,p,q,r].drop 6).take (Tryz.prog.cellsOf 9))=j[2]?:=t 2 _ rfl;have D:DataW.trod enc Tryz.prog W 0 sp held m 4 (([e,f,k,l,o,p,q,r].drop 7).take (Tryz.prog.cellsOf 4))=j[3]?:=t 3 _ rfl;obtain⟨x0,e0⟩:=YN (i:=0) a (by decide);obtain⟨x1,e1⟩:=YN (i:=1) a (by decide);obtain⟨x2,e2⟩:=YN (i:=2) a (by decide);obtain⟨x3,e3⟩:=YN (i:=3) a (by decide);rw[e0,Jy] at A;rw[e1,LQ] at B;rw[e2,SS] at C;rw[e3,LO] at D;obtain⟨s,rfl⟩:=TO C;obtain⟨b,rfl⟩:=Iv D;obtain⟨Q,O,_,_,_,g,I⟩:=Bi Tryz.underlying34 A;have E:DataW.trod enc Tryz.prog W 0 sp held O 3 (([e,f].drop 0).take (Tryz.prog.cellsOf 3))=Q[0]?:=I 0 _ rfl;have G:DataW.trod enc Tryz.prog W 0 sp held O 3 (([e,f].drop 1).take (Tryz.prog.cellsOf 3))=Q[1]?:=I 1 _ rfl;obtain⟨y0,X⟩:=YN (i:=0) g (by decide);obtain⟨y1,Y⟩:=YN (i:=1) g (by decide);rw[X,Yz] at E;rw[Y,Yz] at G;obtain⟨i0,rfl,_⟩:=ZJ E;obtain⟨i1,rfl,_⟩:=ZJ G;obtain⟨zs,m2,_,_,_,c,u⟩:=DataW.trod_array Tryz.underlying35 B;have K:=u 0 (by decide);have L:=u 1 (by decide);have M:=u 2 (by decide);have N:=u 3 (by decide);obtain⟨z0,R⟩:=YN (i:=0) c (by decide);obtain⟨z1,S⟩:=YN (i:=1) c (by decide);obtain⟨z2,T⟩:=YN (i:=2) c (by decide);obtain⟨z3,V⟩:=YN (i:=3) c (by decide);rw[R,Yz] at K;rw[S,Yz] at L;rw[T,Yz] at M;rw[V,Yz] at N;obtain⟨o0,rfl,_⟩:=ZJ K;obtain⟨o1,rfl,_⟩:=ZJ L;obtain⟨o2,rfl,_⟩:=ZJ M;obtain⟨o3,rfl,_⟩:=ZJ N;exact⟨⟨i0,i1,o0,o1,o2,o3,s,b⟩,rfl⟩
 .rw[hx]
  have:=TN 1 (j.map (·.1)) (fun d _=>Xv d);rw[Gv,a] at this;simp only[Rows.uptoBulk];exact BC this
end
theorem Iw{w:World}{a:Addr}{n:Nat}{b:List Value}(h:w.cells? 0 a n=some b)(k:Nat)(c:k<n):w.cell? (a.add k)=b[k]?:=by
 unfold World.cells? at h;rw[GA (Gz _)] at h;exact mapM_some_get h k k (by simp[c])
theorem Q8:Tryz.prog.cellsOf 89=14:=by kernel_rfl
section
variable {H:Type} {enc:TypeId × Value->H} {W:World} {sp:Nat->Bool} {held:Bool} {n:Nat}
theorem Ix(A:sp=fun _=>true){a:List Value}{x:DataW H × List MemPlace}(h:DataW.trod enc Tryz.prog W 0 sp held n 89 a=some x):(∃ o:OpM,a=o.yb/\Vv W o)/\12<=Rows.uptoBulk x.1:=by
 obtain⟨b,m,_,L,E,D,c⟩:=Bi Tryz.underlying89 h;rw[Q8] at E;have k:DataW.trod enc Tryz.prog W 0 sp held m 3 ((a.drop 0).take (Tryz.prog.cellsOf 3))=b[0]?:=c 0 _ rfl;have l:DataW.trod enc Tryz.prog W 0 sp held m 3 ((a.drop 1).take (Tryz.prog.cellsOf 3))=b[1]?:=c 1 _ rfl;have p:DataW.trod enc Tryz.prog W 0 sp held m 3 ((a.drop 2).take (Tryz.prog.cellsOf 3))=b[2]?:=c 2 _ rfl;have q:DataW.trod enc Tryz.prog W 0 sp held m 9 ((a.drop 3).take (Tryz.prog.cellsOf 9))=b[3]?:=c 3 _ rfl;have r:DataW.trod enc Tryz.prog W 0 sp held m 9 ((a.drop 4).take (Tryz.prog.cellsOf 9))=b[4]?:=c 4 _ rfl;have s:DataW.trod enc Tryz.prog W 0 sp held m 37 ((a.drop 5).take (Tryz.prog.cellsOf 37))=b[5]?:=c 5 _ rfl;have t:DataW.trod enc Tryz.prog W 0 sp held m 26 ((a.drop 13).take (Tryz.prog.cellsOf 26))=b[6]?:=c 6 _ rfl;have d:b.length=7:=D
 match b,d with
 | [S,T,V,X,Y,x6,x7],_ =>
  simp only[Em,Dt] at k l p q r s t;rw[Yz] at k l p;rw[SS] at q r;rw[Ul] at s;rw[LP] at t;obtain⟨B,hb⟩:=O7 s;refine⟨?_,?_⟩
  .match a,E with
   | [c0,c1,c2,c4,c5,G,I,J,K,e,f,g,i,j],_ =>
    obtain⟨M,rfl,_⟩:=ZJ k;obtain⟨N,rfl,u⟩:=ZJ l;obtain⟨O,rfl,y⟩:=ZJ p;obtain⟨Q,rfl⟩:=TO q;obtain⟨R,rfl⟩:=TO r;obtain⟨v,B⟩:=B;have C:[G,I,J,K,e,f,g,i]=v.cells:=B;refine⟨⟨M,N,O,0,Q,R,v,j⟩,?_,u,y,O6 A t⟩;unfold OpM.yb;rw[<- C]
    rfl
  .rw[L]
   simp only[Rows.uptoBulk,Gw,Fz,Rows.uptoBulkAll];have a0:=Xv S.1;have a1:=Xv T.1;have a2:=Xv V.1;have a4:=Xv X.1;have a5:=Xv Y.1;have a7:=Xv x7.1;omega
end
theorem UV{H:Type}{enc:TypeId × Value->H}{W:World}{j:Nat}{A:List Value}{x:DataW H × List MemPlace}(h:DataW.trod enc Tryz.prog W 0 (fun _=>true) true j 51 A=some x) :
 ∃ (G:Option Addr) (c:Nat) (r:List OpM),A=[.slice G r.length c]/\(r≠[]->∃ a,G=some a/\a.block<W.heap.size/\UT W a r)/\(∀ o∈r,Vv W o)/\12*r.length<=Rows.uptoBulk x.1:=by
 rcases Deep.open_slice Bj h with⟨rfl,rfl⟩|⟨a,len,t,m,n,D,R,rfl,S,N,E,O,Q,u⟩
 .exact⟨none,0,[],rfl,fun e=>absurd rfl e,fun o l=>by(cases l),by simp⟩
 .have hlm:len<=m:=by rw[O];split <;> omega
  have p:∀ i,i<len->∃ o:OpM,W.cells? 0 (a.add (i*14)) 14=some o.yb/\Vv W o/\12<=Rows.uptoBulk (D i):=fun i g=>by
   obtain⟨I,B,J⟩:=u i (by omega);rw[Q8] at B;obtain⟨⟨o,rfl,l⟩,K⟩:=Ix rfl J;exact⟨o,B,l,K⟩
  obtain⟨f,v⟩:∃ f:Nat->OpM,∀ i,i<len->W.cells? 0 (a.add (i*14)) 14=some (f i).yb/\Vv W (f i)/\12<=Rows.uptoBulk (D i):=by
   classical
   refine⟨fun i=>if g:i<len then Classical.choose (p i g) else⟨0,0,0,0,ByteArray.empty,ByteArray.empty,⟨0,0,0,0,0,0,ByteArray.empty,false⟩,.bool false⟩,fun i g=>?_⟩;simp only[Am g];exact Classical.choose_spec (p i g)
  have b:((List.range len).map f).length=len:=by simp
  have q:UT W a ((List.range len).map f):=fun i g k M=>by
   rw[b] at g;rw[Iw (v i g).1 k M];simp
  refine⟨some a,t,(List.range len).map f,by rw[b],fun y=>⟨a,rfl,?_,q⟩,fun o l=>?_,?_⟩
  .have hpos:0<len:=Nat.pos_of_ne_zero fun e=>y (by rw[e];rfl)
   have:=q 0 (by rw[b];exact hpos) 0 (by decide);rw[Aq,add_zero,add_zero] at this;exact VM this
  .obtain⟨i,g,rfl⟩:=Gm.1 l
   exact(v i (Cs.1 g)).2.1
  .rw[b,Q]
   simp only[Rows.uptoBulk];have:=TN 12 ((List.range len).map D) (fun d L=>by
    obtain⟨i,g,rfl⟩:=Gm.1 L;exact(v i (Cs.1 g)).2.2)
   rw[Gv,List.length_range] at this;omega
end Go.Proofs.YtkhnggkkiefcdaaGreatDoor
