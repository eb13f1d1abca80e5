/- larder: joined texts -/
import Derived.Test.YtkhnggkkiefcdaaGreatDoorSFAL
import Derived.Test.YtkhnggkkiefcdaaGreatDoorSFAR
import Derived.Test.YtkhnggkkiefcdaaGreatDoorSFAS
import Derived.Test.YtkhnggkkiefcdaaGreatDoorSFAU
import Derived.Test.YtkhnggkkiefcdaaGreatDoorSFAX
import Derived.Test.YtkhnggkkiefcdaaGreatDoorSFAY
import Derived.Test.YtkhnggkkiefcdaaGreatDoorSFAZ
namespace Go.Proofs.YtkhnggkkiefcdaaGreatDoor
open Go.RowKit
set_option maxRecDepth 100000
set_option maxHeartbeats 8000000
theorem NB(K:Nat->Prop)(B:Nat)(L:WL)(W:WM)(X:NL)(N:NM)(M:DM)(o:OpM)(w:World)(h:Play K B w L W X N M)(hk:o.kind=5)(hp:0<L.ps.length)(hl:L.ps.length<1000000)
 (m:LM)(hm:W.st[L.ps.length-1]?=some m)(c9:zE m.keys o.key=zj N.S.keys o.key)(c3:N.S.keys.length<1099511627776)(c4:(zj N.S.keys o.key).length<=1000)(b3:BSmall W.bk)(b1:W.base<100000000)(c5:W.next<100000000)(b9:zp o.key=true) :
 Calls Tryz.prog 65 #[.pointer (some ⟨L.wb,0,none⟩),.agg o.cells.toArray] w fun e w'=>e=.returned (.bool true)/\∃ L' a8,PStep K B L X M w K L' (W.Bo a8) X N M w'/\L'.ps=L.ps/\Booked W.bk a8:=by
 obtain⟨e6,a,b,c,key,i,v,g⟩:=o;simp only at *;subst hk;simp only[OpM.cells,Ver.cells,IY,Hd];have f1:Fr Nil w (w.alloc (.cells #[.int .i64 5,.int .i64 a,.int .i64 b,.int .i64 c,.string key,.string i,.int .i64 v.node,.int .i64 v.seq,.int .i64 v.o0,.int .i64 v.o1,.int .i64 v.o2,.int .i64 v.o3,.string v.value,.bool v.gone,g] 39)):=(O _ _).alloc _;have Y:=Blk.new w [.int .i64 5,.int .i64 a,.int .i64 b,.int .i64 c,.string key,.string i,.int .i64 v.node,.int .i64 v.seq,.int .i64 v.o0,.int .i64 v.o1,.int .i64 v.o2,.int .i64 v.o3,.string v.value,.bool v.gone,g] 39;have HC:=Z (fun d (f:Fr Nil w d)=>zB d L.db X.LD M ((h.marks).nil f));have z:=Z (fun d (f:Fr Nil w d)=>Zx K L W d (h.Bi.nil f) hp (by omega));have c6:L.ps.length=W.st.length:=h.Bi.Ao;have c1:W.st[L.ps.length-1]'(by omega)=m:=by rw[IW (by omega)] at hm;exact Hl hm
 have p:=(h.Bi.last hp).2;simp only[c1] at p;obtain⟨q,c7⟩:∃ q,q=L.ps[L.ps.length-1]:=⟨_,rfl⟩;rw[<- c7] at p z;obtain⟨kv,hv,a9,ha,e0⟩:=p;have a2:∀ d,Fr Nil w d->∀ k,d.cell? ⟨L.wb,k,none⟩=(W.cells L)[k]?:=fun d f=>(h.Bi.nil f).CY.cell;have I:=Z a2;have b4:=a2 _ f1;simp only[WM.cells,h.nv] at b4;have e2:=Y.cell;have J:=Z f1;have d0:=Z Y;have HH:=Z h;have HA:=Z ha;have t:=Z (fun d (f:Fr Nil w d)=>WP X N M key d (h.node.nil f) c3 (by omega));have A:=Z (fun d (f:Fr Nil w d)=>Yi q kv hv a9 m key d (ha.nil f));rw[c9] at A;have r:=Z (fun d=>Y7 key d);have d2:=Z (fun lv l d f hl hn c0=>UN K L W lv l w d h.Bi f hl hn c0 b1 c5 b3);have a6:=Z c4;unfold zZ at r;rw[b9] at r t;simp only[Gi] at r t;clear h f1 Y c1 c7 ha a2 e0 c6 hm c9 c3 c4 b3 b1 c5 b9;go_enter DX,DP
 go_wp2_with (refine(HC.out _ J.out).mono ?_;rintro e d ⟨rfl,a4⟩;subst d)
 refine(z.out _ J.out).mono ?_;rintro e E ⟨rfl,n2,e8⟩;subst E;have T:Fr Nil w ((w.alloc (.cells #[.int .i64 5,.int .i64 a,.int .i64 b,.int .i64 c,.string key,.string i,.int .i64 v.node,.int .i64 v.seq,.int .i64 v.o0,.int .i64 v.o1,.int .i64 v.o2,.int .i64 v.o3,.string v.value,.bool v.gone,g] 39)).drewN n2):=J.out.drewN n2;have a1:=I.out _ T;simp only[WM.cells,HH.out.nv] at a1;have a0:Blk ((w.alloc (.cells #[.int .i64 5,.int .i64 a,.int .i64 b,.int .i64 c,.string key,.string i,.int .i64 v.node,.int .i64 v.seq,.int .i64 v.o0,.int .i64 v.o1,.int .i64 v.o2,.int .i64 v.o3,.string v.value,.bool v.gone,g] 39)).drewN n2) w.heap.size [.int .i64 5,.int .i64 a,.int .i64 b,.int .i64 c,.string key,.string i,.int .i64 v.node,.int .i64 v.seq,.int .i64 v.o0,.int .i64 v.o1,.int .i64 v.o2,.int .i64 v.o3,.string v.value,.bool v.gone,g] 39:=d0.out.drewN n2;have G:=Z a0;have a5:=a0.cell;have j:=Z T;clear b4 e2 T a0;generalize (w.alloc (.cells #[.int .i64 5,.int .i64 a,.int .i64 b,.int .i64 c,.string key,.string i,.int .i64 v.node,.int .i64 v.seq,.int .i64 v.o0,.int .i64 v.o1,.int .i64 v.o2,.int .i64 v.o3,.string v.value,.bool v.gone,g] 39)).drewN n2=E at a1 a5 j G |-;generalize b2:w.heap.size=bb at a5 G |-;have e7:=Z b2;clear b2;go_wp2_with fail;have s:Hid (∀ d,Fr Nil E d->d.cell? ⟨L.wb,5,none⟩=some (.pointer (some ⟨X.nb,0,none⟩))/\∀ k,d.cell? ⟨bb,k,none⟩=([.int .i64 5,.int .i64 a,.int .i64 b,.int .i64 c,.string key,.string i,.int .i64 v.node,.int .i64 v.seq,.int .i64 v.o0,.int .i64 v.o1,.int .i64 v.o2,.int .i64 v.o3,.string v.value,.bool v.gone,g]:List Value)[k]?):=fun d f=>⟨by rw[I.out _ (j.out.trans f)];show some L.nv=_;rw[HH.out.nv],(G.out.fr f id).cell⟩;have e3:E.cell? ⟨L.wb,5,none⟩=some (.pointer (some ⟨X.nb,0,none⟩))/\E.cell? ⟨bb,4,none⟩=some (.string key):=⟨(s.out E (O _ _)).1,(s.out E (O _ _)).2 4⟩
 go_region_held3 (fun d=>d.cell? ⟨L.wb,5,none⟩=some (.pointer (some ⟨X.nb,0,none⟩))/\d.cell? ⟨bb,4,none⟩=some (.string key)) (first|assumption|go_keep)
  (first|(go_at_call 24;refine(t.out _ (j.out.trans (by exact za))).mono ?_;rintro e F ⟨v4,rfl,c8,b8,c2⟩;have x:Fr Nil E F:=Fr.trans za b8;have e5:F.cell? ⟨L.wb,5,none⟩=some (.pointer (some ⟨X.nb,0,none⟩))/\F.cell? ⟨bb,4,none⟩=some (.string key):=⟨(s.out F x).1,(s.out F x).2 4⟩;have S:=Z c8;have Q:=Z x;have d5:Hid (∀ k,v4.ownBlock=some k->w.heap.size<=k):=(fun k e=>IP j.out.size (c2 k e));clear b8 x c8 c2))
 obtain⟨e9,f2,rfl⟩:=zc S.out;have e4:=(s.out F Q.out).2;clear a1 a5 e3 e5
 go_wp2_with (refine(r.out _).mono ?_;rintro e d ⟨rfl,a4⟩;subst d)
 refine(A.out F (j.out.trans Q.out)).mono ?_;rintro e d ⟨v5,rfl,a3,_,a4⟩;subst d;obtain⟨f0,f3,rfl⟩:=zc a3;have d7:=Z a3;clear a3;go_wp2_with fail;have R:=Z (Wa _ _ _ _ F S.out d7.out (by have:=a6.out;omega));refine R.out.mono ?_;rintro e w6 ⟨b6,rfl,b0,f6⟩;have e1:b6=true:=b0.2 rfl;subst e1;have V:=Q.out.trans f6;have b5:=I.out w6 (j.out.trans V);simp only[WM.cells,HH.out.nv] at b5;have d8:=Z (VRow.fr S.out f6 (fun _ _=>id));have d4:=Z (j.out.trans V);clear e4 V f6 b0;go_wp2_with fail;refine(d2.out _ _ w6 d4.out d8.out d5.out (by have:=a6.out;omega)).mono ?_;rintro e w7 ⟨rfl,L7,d9,u,C,D⟩;have y:=HH.out.turn u;have d3:=Z (zB w7 L.db X.LD M (by have:=y.CZ.marks;rw[u.db] at this;exact this));have b7:=y.CZ.Bi.CY.cell;rw[u.wb] at b7;simp only[WM.cells,u.db] at b7;have d6:=Z y;have d1:=Z C;have a7:=Z D;clear b5 y u C D
 go_wp2_with (refine d3.out.mono ?_;rintro e d ⟨rfl,a4⟩;subst d)
 go_ret;exact⟨rfl,L7,d9,d6.out,a7.out,d1.out⟩
theorem Og(K:Nat->Prop)(B:Nat)(L:WL)(W:WM)(X:NL)(N:NM)(M:DM)(o:OpM)(w:World)(h:Play K B w L W X N M)(hk:o.kind=5)(hp:0<L.ps.length)(hl:L.ps.length<1000000)
 (m:LM)(hm:W.st[L.ps.length-1]?=some m)(c6:zE m.keys o.key=zj N.S.keys o.key)(c0:N.S.keys.length<1099511627776)(c1:(zj N.S.keys o.key).length<=1000)(b0:BSmall W.bk)(a8:W.base<100000000)(c2:W.next<100000000)(b5:zp o.key=false) :
 Calls Tryz.prog 65 #[.pointer (some ⟨L.wb,0,none⟩),.agg o.cells.toArray] w fun e w'=>e=.returned (.bool true)/\∃ L' a5,PStep K B L X M w K L' (W.Bo a5) X N M w'/\L'.ps=L.ps/\Booked W.bk a5:=by
 obtain⟨e4,a,b,c,key,i,v,g⟩:=o;simp only at *;subst hk;simp only[OpM.cells,Ver.cells,IY,Hd];have f1:Fr Nil w (w.alloc (.cells #[.int .i64 5,.int .i64 a,.int .i64 b,.int .i64 c,.string key,.string i,.int .i64 v.node,.int .i64 v.seq,.int .i64 v.o0,.int .i64 v.o1,.int .i64 v.o2,.int .i64 v.o3,.string v.value,.bool v.gone,g] 39)):=(O _ _).alloc _;have T:=Blk.new w [.int .i64 5,.int .i64 a,.int .i64 b,.int .i64 c,.string key,.string i,.int .i64 v.node,.int .i64 v.seq,.int .i64 v.o0,.int .i64 v.o1,.int .i64 v.o2,.int .i64 v.o3,.string v.value,.bool v.gone,g] 39;have HC:=Z (fun d (f:Fr Nil w d)=>zB d L.db X.LD M ((h.marks).nil f));have A:=Z (fun d (f:Fr Nil w d)=>Zx K L W d (h.Bi.nil f) hp (by omega));have c3:L.ps.length=W.st.length:=h.Bi.Ao;have b8:W.st[L.ps.length-1]'(by omega)=m:=by rw[IW (by omega)] at hm;exact Hl hm
 have j:=(h.Bi.last hp).2;simp only[b8] at j;obtain⟨q,c4⟩:∃ q,q=L.ps[L.ps.length-1]:=⟨_,rfl⟩;rw[<- c4] at j A;obtain⟨kv,hv,a6,ha,d8⟩:=j;have a0:∀ d,Fr Nil w d->∀ k,d.cell? ⟨L.wb,k,none⟩=(W.cells L)[k]?:=fun d f=>(h.Bi.nil f).CY.cell;have G:=Z a0;have b1:=a0 _ f1;simp only[WM.cells,h.nv] at b1;have e0:=T.cell;have I:=Z f1;have c8:=Z T;have HH:=Z h;have HA:=Z ha;have t:=Z (fun d (f:Fr Nil w d)=>WP X N M key d (h.node.nil f) c0 (by omega));have a4:=Z (fun d (f:Fr Nil w d)=>Yi q kv hv a6 m key d (ha.nil f));rw[c6] at a4;have p:=Z (fun d=>Y7 key d);have d0:=Z (fun lv l d f hl hn b7=>UN K L W lv l w d h.Bi f hl hn b7 a8 c2 b0);have e6:=Z c1;unfold zZ at p;rw[b5] at p t;simp only[Gl,Gj] at p t;clear h f1 T b8 c4 ha a0 d8 c3 hm c6 c0 c1 b0 a8 c2 b5;go_enter DX,DP
 go_wp2_with (refine(HC.out _ I.out).mono ?_;rintro e d ⟨rfl,c7⟩;subst d)
 refine(A.out _ I.out).mono ?_;rintro e E ⟨rfl,n2,e7⟩;subst E;have R:Fr Nil w ((w.alloc (.cells #[.int .i64 5,.int .i64 a,.int .i64 b,.int .i64 c,.string key,.string i,.int .i64 v.node,.int .i64 v.seq,.int .i64 v.o0,.int .i64 v.o1,.int .i64 v.o2,.int .i64 v.o3,.string v.value,.bool v.gone,g] 39)).drewN n2):=I.out.drewN n2;have Y:=G.out _ R;simp only[WM.cells,HH.out.nv] at Y;have V:Blk ((w.alloc (.cells #[.int .i64 5,.int .i64 a,.int .i64 b,.int .i64 c,.string key,.string i,.int .i64 v.node,.int .i64 v.seq,.int .i64 v.o0,.int .i64 v.o1,.int .i64 v.o2,.int .i64 v.o3,.string v.value,.bool v.gone,g] 39)).drewN n2) w.heap.size [.int .i64 5,.int .i64 a,.int .i64 b,.int .i64 c,.string key,.string i,.int .i64 v.node,.int .i64 v.seq,.int .i64 v.o0,.int .i64 v.o1,.int .i64 v.o2,.int .i64 v.o3,.string v.value,.bool v.gone,g] 39:=c8.out.drewN n2;have F:=Z V;have a1:=V.cell;have r:=Z R;clear b1 e0 R V;generalize (w.alloc (.cells #[.int .i64 5,.int .i64 a,.int .i64 b,.int .i64 c,.string key,.string i,.int .i64 v.node,.int .i64 v.seq,.int .i64 v.o0,.int .i64 v.o1,.int .i64 v.o2,.int .i64 v.o3,.string v.value,.bool v.gone,g] 39)).drewN n2=E at Y a1 r F |-;generalize a9:w.heap.size=bb at a1 F |-;have e5:=Z a9;clear a9;go_wp2_with fail;have s:Hid (∀ d,Fr Nil E d->d.cell? ⟨L.wb,5,none⟩=some (.pointer (some ⟨X.nb,0,none⟩))/\∀ k,d.cell? ⟨bb,k,none⟩=([.int .i64 5,.int .i64 a,.int .i64 b,.int .i64 c,.string key,.string i,.int .i64 v.node,.int .i64 v.seq,.int .i64 v.o0,.int .i64 v.o1,.int .i64 v.o2,.int .i64 v.o3,.string v.value,.bool v.gone,g]:List Value)[k]?):=fun d f=>⟨by rw[G.out _ (r.out.trans f)];show some L.nv=_;rw[HH.out.nv],(F.out.fr f id).cell⟩;have e1:E.cell? ⟨L.wb,5,none⟩=some (.pointer (some ⟨X.nb,0,none⟩))/\E.cell? ⟨bb,4,none⟩=some (.string key):=⟨(s.out E (O _ _)).1,(s.out E (O _ _)).2 4⟩
 go_region_held3 (fun d=>d.cell? ⟨L.wb,5,none⟩=some (.pointer (some ⟨X.nb,0,none⟩))/\d.cell? ⟨bb,4,none⟩=some (.string key)) (first|assumption|go_keep)
  (first|(go_at_call 24;refine(t.out _ (r.out.trans (by exact za))).mono ?_;rintro e z ⟨v4,rfl,c5,b4,b9⟩;have x:Fr Nil E z:=Fr.trans za b4;have e3:z.cell? ⟨L.wb,5,none⟩=some (.pointer (some ⟨X.nb,0,none⟩))/\z.cell? ⟨bb,4,none⟩=some (.string key):=⟨(s.out z x).1,(s.out z x).2 4⟩;have Q:=Z c5;have a2:=Z x;have d3:Hid (∀ k,v4.ownBlock=some k->w.heap.size<=k):=(fun k e=>IP r.out.size (b9 k e));clear b4 x c5 b9))
 obtain⟨e8,e9,rfl⟩:=zc Q.out;have e2:=(s.out z a2.out).2;clear Y a1 e1 e3
 go_wp2_with (refine(p.out _).mono ?_;rintro e d ⟨rfl,c7⟩;subst d)
 have d5:Hid (VRow z (.slice none 0 0) []):=Hc z 0 _ _;have J:=Z (Wa _ _ _ _ z Q.out d5.out (by decide));refine J.out.mono ?_;rintro e w6 ⟨b6,rfl,a7,f6⟩;have d9:b6=true:=a7.2 rfl;subst d9;have S:=a2.out.trans f6;have b2:=G.out w6 (r.out.trans S);simp only[WM.cells,HH.out.nv] at b2;have d6:=Z (VRow.fr Q.out f6 (fun _ _=>id));have d2:=Z (r.out.trans S);clear e2 S f6 a7;go_wp2_with fail;refine(d0.out _ _ w6 d2.out d6.out d3.out (by decide)).mono ?_;rintro e w7 ⟨rfl,L7,d7,u,C,D⟩;have y:=HH.out.turn u;have d1:=Z (zB w7 L.db X.LD M (by have:=y.CZ.marks;rw[u.db] at this;exact this));have b3:=y.CZ.Bi.CY.cell;rw[u.wb] at b3;simp only[WM.cells,u.db] at b3;have d4:=Z y;have c9:=Z C;have a3:=Z D;clear b2 y u C D
 go_wp2_with (refine d1.out.mono ?_;rintro e d ⟨rfl,c7⟩;subst d)
 go_ret;exact⟨rfl,L7,d7,d4.out,a3.out,c9.out⟩
theorem JD(K:Nat->Prop)(B:Nat)(L:WL)(W:WM)(X:NL)(N:NM)(M:DM)(o:OpM)(w:World)(h:Play K B w L W X N M)(k:o.kind=5)(p:0<L.ps.length)(l:L.ps.length<1000000)
 (m:LM)(hm:W.st[L.ps.length-1]?=some m)(i:zE m.keys o.key=zj N.S.keys o.key)(d:N.S.keys.length<1099511627776)(f:(zj N.S.keys o.key).length<=1000)(c:BSmall W.bk)(b:W.base<100000000)(g:W.next<100000000) :
 Calls Tryz.prog 65 #[.pointer (some ⟨L.wb,0,none⟩),.agg o.cells.toArray] w fun e q=>e=.returned (.bool true)/\∃ j a,PStep K B L X M w K j (W.Bo a) X N M q/\j.ps=L.ps/\Booked W.bk a:=by
 cases hko:zp o.key with
 | true=>exact NB K B L W X N M o w h k p l m hm i d f c b g hko
 | false=>exact Og K B L W X N M o w h k p l m hm i d f c b g hko
theorem KG(K:Nat->Prop)(B:Nat)(L:WL)(W:WM)(X:NL)(N:NM)(M:DM)(o:OpM)(w:World)(h:Play K B w L W X N M)(hk:o.kind=6)(hp:0<L.ps.length)(hl:L.ps.length<1000000)
 (m:LM)(hm:W.st[L.ps.length-1]?=some m)(p:m.keys=N.S.keys)(d1:N.S.keys.length<100000000)(b9:BSmall W.bk)(b7:W.base<100000000)(d4:W.next<100000000) :
 Calls Tryz.prog 65 #[.pointer (some ⟨L.wb,0,none⟩),.agg o.cells.toArray] w fun e w'=>e=.returned (.bool true)/\∃ L' b6,PStep K B L X M w K L' (W.Bo b6) X N M w'/\L'.ps=L.ps/\Booked W.bk b6:=by
 obtain⟨f3,a,b,c,key,j,v,d⟩:=o;simp only at *;subst hk;simp only[OpM.cells,Ver.cells,IY,Hd];have f1:Fr Nil w (w.alloc (.cells #[.int .i64 6,.int .i64 a,.int .i64 b,.int .i64 c,.string key,.string j,.int .i64 v.node,.int .i64 v.seq,.int .i64 v.o0,.int .i64 v.o1,.int .i64 v.o2,.int .i64 v.o3,.string v.value,.bool v.gone,d] 39)):=(O _ _).alloc _;have a0:=Blk.new w [.int .i64 6,.int .i64 a,.int .i64 b,.int .i64 c,.string key,.string j,.int .i64 v.node,.int .i64 v.seq,.int .i64 v.o0,.int .i64 v.o1,.int .i64 v.o2,.int .i64 v.o3,.string v.value,.bool v.gone,d] 39;have HC:=Z (fun r (f:Fr Nil w r)=>zB r L.db X.LD M ((h.marks).nil f));have G:=Z (fun r (f:Fr Nil w r)=>Zx K L W r (h.Bi.nil f) hp (by omega));have d5:L.ps.length=W.st.length:=h.Bi.Ao;have c7:W.st[L.ps.length-1]'(by omega)=m:=by rw[IW (by omega)] at hm;exact Hl hm
 have s:=(h.Bi.last hp).2;simp only[c7] at s;obtain⟨q,d6⟩:∃ q,q=L.ps[L.ps.length-1]:=⟨_,rfl⟩;rw[<- d6] at s G;obtain⟨kv,hv,g,ha,e7⟩:=s;have a5:∀ r,Fr Nil w r->∀ k,r.cell? ⟨L.wb,k,none⟩=(W.cells L)[k]?:=fun r f=>(h.Bi.nil f).CY.cell;have R:=Z a5;have c0:=a5 _ f1;simp only[WM.cells,h.nv] at c0;have e8:=a0.cell;have S:=Z f1;have d7:=Z a0;have HH:=Z h;have HA:=Z ha;have V:=Z (fun r (f:Fr Nil w r)=>TG X N M r (h.node.nil f) (by omega));have d9:=Z (fun lv l r f hl hn c5=>Nz K L W lv l w r h.Bi f hl hn c5 b7 d4 b9);have c3:g.length=N.S.keys.length:=by rw[ha.pair.length,p]
 have c2:∀ i (h1:i<g.length) (h2:i<N.S.keys.length),g[i].1=N.S.keys[i].1:=fun i h1 h2=>by
  have:=ha.pair.key i h1 (by rw[p];exact h2);simp only[p] at this;exact this
 obtain⟨ka,kc,rfl⟩:=zc ha.Ah;have z:=Z c3;have e3:=Z c2;clear h f1 a0 c7 d6 ha a5 e7 d5 hm p b9 b7 d4 c3 c2;go_enter DX,DP
 go_wp2_with (refine(HC.out _ S.out).mono ?_;rintro e r ⟨rfl,f2⟩;subst r)
 refine(G.out _ S.out).mono ?_;rintro e w2 ⟨rfl,n2,f7⟩;subst w2;have Y:Fr Nil w ((w.alloc (.cells #[.int .i64 6,.int .i64 a,.int .i64 b,.int .i64 c,.string key,.string j,.int .i64 v.node,.int .i64 v.seq,.int .i64 v.o0,.int .i64 v.o1,.int .i64 v.o2,.int .i64 v.o3,.string v.value,.bool v.gone,d] 39)).drewN n2):=S.out.drewN n2;have a2:=R.out _ Y;simp only[WM.cells,HH.out.nv] at a2;have a1:Blk ((w.alloc (.cells #[.int .i64 6,.int .i64 a,.int .i64 b,.int .i64 c,.string key,.string j,.int .i64 v.node,.int .i64 v.seq,.int .i64 v.o0,.int .i64 v.o1,.int .i64 v.o2,.int .i64 v.o3,.string v.value,.bool v.gone,d] 39)).drewN n2) w.heap.size [.int .i64 6,.int .i64 a,.int .i64 b,.int .i64 c,.string key,.string j,.int .i64 v.node,.int .i64 v.seq,.int .i64 v.o0,.int .i64 v.o1,.int .i64 v.o2,.int .i64 v.o3,.string v.value,.bool v.gone,d] 39:=d7.out.drewN n2;have b0:=Z a1;have F:=a1.cell;have A:=Z Y;clear c0 e8 Y a1;generalize (w.alloc (.cells #[.int .i64 6,.int .i64 a,.int .i64 b,.int .i64 c,.string key,.string j,.int .i64 v.node,.int .i64 v.seq,.int .i64 v.o0,.int .i64 v.o1,.int .i64 v.o2,.int .i64 v.o3,.string v.value,.bool v.gone,d] 39)).drewN n2=w2 at a2 F A b0 |-;generalize b8:w.heap.size=bb at F b0 |-;have f4:=Z b8;clear b8;go_wp2_with fail;refine(V.out w2 A.out).mono ?_;rintro e w4 ⟨v4,rfl,a6,c4,d0⟩;obtain⟨a8,a9,rfl⟩:=zc a6;have C:=Z a6;have b2:Hid (∀ k,(Value.slice a8 N.S.keys.length a9).ownBlock=some k->w.heap.size<=k):=fun k e=>IP A.out.size (d0 k e);have u:=Z (A.out.trans c4);have E:=(HA.out.nil u.out).CY.cell;rw[z.out] at E;have a3:=R.out w4 u.out;simp only[WM.cells,HH.out.nv] at a3;have t:=Z ((HA.out.nil u.out).Ah);rw[z.out] at t;have b5:Hid (∀ i,i<N.S.keys.length->∃ x:ByteArray,(strs (N.S.keys.map Prod.fst))[i]?=some (.string x)/\(Z1 g)[i*2]?=some (.string x)):=fun i h2=>by
  have h1:i<g.length:=by rw[z.out];exact h2
  refine⟨N.S.keys[i].1,by simp[strs,h2],?_⟩;rw[<- e3.out i h1 h2];exact(Z3 g i h1).1
 generalize d3:N.S.keys.length=n at E t C b2 d1 b5 |-;have f6:((n:Int)==n)=true:=by simp
 clear a2 F a6 c4 d0;go_wp2_with fail
 go_loopw [7,13] (fun t7 a7 w'=>∃ i:Nat,i<=n/\t7=.bool true/\a7=.int .i64 i/\Fr Nil w4 w') (fun _ a7 _=>n-(intOf a7).toNat)
 case atStart=>exact⟨0,Hg _,rfl,rfl,O _ _⟩
 case round =>
  obtain⟨i,hi,rfl,rfl,J⟩:=hrel;have HF:=Z J;by_cases e9:i<n
  .obtain⟨g1,c1',e1,_,_⟩:=zm C.out (by omega)
   obtain⟨g2,f5,e2,_,_⟩:=zm t.out (by omega);simp only[EL] at e1 e2;obtain⟨rfl,-,-⟩:=e1;obtain⟨rfl,-,-⟩:=e2;obtain⟨xx,c8,c9⟩:=b5.out i e9;have f8:∀ n,(wr.drewN n).cell? ⟨g1,i,none⟩=some (.string xx):=fun n=>own_cell? (zb C.out (J.drewN n) (fun _ _=>id)) i _ c8;have F:∀ n,(wr.drewN n).cell? ⟨g2,i*2,none⟩=some (.string xx):=fun n=>own_cell? (zb t.out (J.drewN n) (fun _ _=>id)) (i*2) _ c9;have f0:∀ n k,(wr.drewN n).cell? ⟨q,k,none⟩=_:=fun n k=>((HA.out.nil u.out).CY.fr (J.drewN n) (fun e=>e)).cell k;rw[z.out,d3] at f0;have f9:(xx.toList==xx.toList)=true:=by simp
   clear c8 c9 J E a3;go_wp2_with fail
   go_quiet (fail)
   go_wp2_with fail;exact⟨⟨i+1,by omega,rfl,by push_cast;rfl,HF.out.drewN _⟩,by simp[intOf];omega⟩
  .have hin:i=n:=by omega
   subst hin;have T:=Z (u.out.trans J);have b4:=Z (zb C.out J (fun _ _=>id));have a4:=R.out wr T.out;simp only[WM.cells,HH.out.nv] at a4;have c6:i=(strs (N.S.keys.map Prod.fst)).length:=by rw[<- d3];simp[strs]
   have b1:=Z c6;generalize wr=w6 at b4 T a4 |-;clear J HF E a3 c6;go_wp2_with fail;have e5:Hid (w6.ownsRow 0 9 1 (.slice a8 i a9) (strs (N.S.keys.map Prod.fst)).length (strs (N.S.keys.map Prod.fst))):=by rw[<- b1.out];exact b4.out
   have d2:(strs (N.S.keys.map Prod.fst)).length<100000000:=by rw[<- b1.out];exact d1
   refine(d9.out (.slice a8 i a9) (strs (N.S.keys.map Prod.fst)) w6 T.out e5.out b2.out (d2)).mono ?_;rintro e w7 ⟨rfl,L7,e6,y,I,Q⟩;have D:=HH.out.turn y;have e0:=Z (zB w7 L.db X.LD M (by have:=D.CZ.marks;rw[y.db] at this;exact this));have c1:=D.CZ.Bi.CY.cell;rw[y.wb] at c1;simp only[WM.cells,y.db] at c1;have e4:=Z D;have d8:=Z I;have b3:=Z Q;clear a4 D y I Q
   go_wp2_with (refine e0.out.mono ?_;rintro e r ⟨rfl,f2⟩;subst r)
   go_ret;exact⟨rfl,L7,e6,e4.out,b3.out,d8.out⟩
theorem Lj(K:Nat->Prop)(B:Nat)(L:WL)(W:WM)(X:NL)(N:NM)(M:DM)(o:OpM)(w:World)(h:Play K B w L W X N M)(hk:o.kind=8)(hp:0<L.ps.length)(hl:L.ps.length<1000000)
 (m:LM)(hm:W.st[L.ps.length-1]?=some m)(b0:m.hints=N.S.hints)(b1:N.S.hints.length<1000)(a5:BSmall W.bk)(a3:W.base<100000000)(b6:W.next<100000000) :
 Calls Tryz.prog 65 #[.pointer (some ⟨L.wb,0,none⟩),.agg o.cells.toArray] w fun e w'=>e=.returned (.bool true)/\∃ L' a2,PStep K B L X M w K L' (W.Bo a2) X N M w'/\L'.ps=L.ps/\Booked W.bk a2:=by
 obtain⟨d7,a,b,c,key,g,v,d⟩:=o;simp only at *;subst hk;simp only[OpM.cells,Ver.cells,IY,Hd];have f1:Fr Nil w (w.alloc (.cells #[.int .i64 8,.int .i64 a,.int .i64 b,.int .i64 c,.string key,.string g,.int .i64 v.node,.int .i64 v.seq,.int .i64 v.o0,.int .i64 v.o1,.int .i64 v.o2,.int .i64 v.o3,.string v.value,.bool v.gone,d] 39)):=(O _ _).alloc _;have E:=Blk.new w [.int .i64 8,.int .i64 a,.int .i64 b,.int .i64 c,.string key,.string g,.int .i64 v.node,.int .i64 v.seq,.int .i64 v.o0,.int .i64 v.o1,.int .i64 v.o2,.int .i64 v.o3,.string v.value,.bool v.gone,d] 39;have HC:=Z (fun i (f:Fr Nil w i)=>zB i L.db X.LD M ((h.marks).nil f));have x:=Z (fun i (f:Fr Nil w i)=>Zx K L W i (h.Bi.nil f) hp (by omega));have b7:L.ps.length=W.st.length:=h.Bi.Ao;have b4:W.st[L.ps.length-1]'(by omega)=m:=by rw[IW (by omega)] at hm;exact Hl hm
 have p:=(h.Bi.last hp).2;simp only[b4] at p;obtain⟨q,b9⟩:∃ q,q=L.ps[L.ps.length-1]:=⟨_,rfl⟩;rw[<- b9] at p x;obtain⟨kv,hv,d6,ha,d1⟩:=p;have I:∀ i,Fr Nil w i->∀ k,i.cell? ⟨L.wb,k,none⟩=(W.cells L)[k]?:=fun i f=>(h.Bi.nil f).CY.cell;have S:=Z I;have a6:=I _ f1;simp only[WM.cells,h.nv] at a6;have d2:=E.cell;have A:=Z f1;have c0:=Z E;have HH:=Z h;have HA:=Z ha;have c4:=Z (fun i (f:Fr Nil w i)=>UK X N M i (h.node.nil f) (by omega));have c2:=Z (fun lv l i f hl hn b3=>NA K L W lv l w i h.Bi f hl hn b3 a3 b6 a5);have u:=ha.hint;rw[b0] at u;have c7:=Z u;obtain⟨ja,jc,b2⟩:=zc u;have Y:=Z b2;have V:=Z b1;clear h f1 E b4 b9 ha I d1 b7 hm b0 b1 a5 a3 b6 u b2;go_enter DX,DP
 go_wp2_with (refine(HC.out _ A.out).mono ?_;rintro e i ⟨rfl,d3⟩;subst i)
 refine(x.out _ A.out).mono ?_;rintro e w2 ⟨rfl,n2,d9⟩;subst w2;have D:Fr Nil w ((w.alloc (.cells #[.int .i64 8,.int .i64 a,.int .i64 b,.int .i64 c,.string key,.string g,.int .i64 v.node,.int .i64 v.seq,.int .i64 v.o0,.int .i64 v.o1,.int .i64 v.o2,.int .i64 v.o3,.string v.value,.bool v.gone,d] 39)).drewN n2):=A.out.drewN n2;have G:=S.out _ D;simp only[WM.cells,HH.out.nv] at G;have F:Blk ((w.alloc (.cells #[.int .i64 8,.int .i64 a,.int .i64 b,.int .i64 c,.string key,.string g,.int .i64 v.node,.int .i64 v.seq,.int .i64 v.o0,.int .i64 v.o1,.int .i64 v.o2,.int .i64 v.o3,.string v.value,.bool v.gone,d] 39)).drewN n2) w.heap.size [.int .i64 8,.int .i64 a,.int .i64 b,.int .i64 c,.string key,.string g,.int .i64 v.node,.int .i64 v.seq,.int .i64 v.o0,.int .i64 v.o1,.int .i64 v.o2,.int .i64 v.o3,.string v.value,.bool v.gone,d] 39:=c0.out.drewN n2;have R:=Z F;have Q:=F.cell;have s:=Z D;clear a6 d2 D F;generalize (w.alloc (.cells #[.int .i64 8,.int .i64 a,.int .i64 b,.int .i64 c,.string key,.string g,.int .i64 v.node,.int .i64 v.seq,.int .i64 v.o0,.int .i64 v.o1,.int .i64 v.o2,.int .i64 v.o3,.string v.value,.bool v.gone,d] 39)).drewN n2=w2 at G Q s R |-;generalize a4:w.heap.size=bb at Q R |-;have d8:=Z a4;clear a4;go_wp2_with fail;refine(c4.out w2 s.out).mono ?_;rintro e w4 ⟨v4,rfl,J,a9,b5⟩;obtain⟨d4,d5,rfl⟩:=zc J;have a1:=Z J;have c5:Hid (∀ k,(Value.slice d4 N.S.hints.length d5).ownBlock=some k->w.heap.size<=k):=fun k e=>IP s.out.size (b5 k e);have C:=Z (s.out.trans a9);have b8:=(HA.out.nil C.out).CY.cell;rw[Y.out] at b8;have j:=Z (WT _ _ N.S.hints N.S.hints w4 a1.out (zb c7.out C.out (fun _ _=>id)) (by have:=V.out;omega));rw[Y.out] at j;have c8:Hid (decide (N.S.hints=N.S.hints)=true):=by show _=_;simp
 rw[c8.out] at j;clear G Q J a9 b5;go_wp2_with fail;refine j.out.mono ?_;rintro e w6 ⟨rfl,f6⟩;have T:=Z (C.out.trans f6);have c9:=Z (zb a1.out f6 (fun _ _=>id));have a7:=S.out w6 T.out;simp only[WM.cells,HH.out.nv] at a7;clear b8 f6;go_wp2_with fail;refine(c2.out _ _ w6 T.out c9.out c5.out (by have:=V.out;omega)).mono ?_;rintro e w7 ⟨rfl,L7,d0,r,y,z⟩;have t:=HH.out.turn r;have c3:=Z (zB w7 L.db X.LD M (by have:=t.CZ.marks;rw[r.db] at this;exact this));have a8:=t.CZ.Bi.CY.cell;rw[r.wb] at a8;simp only[WM.cells,r.db] at a8;have c6:=Z t;have c1:=Z y;have a0:=Z z;clear a7 t r y z
 go_wp2_with (refine c3.out.mono ?_;rintro e i ⟨rfl,d3⟩;subst i)
 go_ret;exact⟨rfl,L7,d0,c6.out,a0.out,c1.out⟩
theorem NC{key a:ByteArray}(h:Zh key a=0):zp key=true/\a.size<=128:=by
 unfold Zh at h;split at h
 .rename_i hk
  split at h
  .cases h
  .exact⟨hk,by omega⟩
 .cases h
theorem ND{key:ByteArray}(h:zZ key=0):zp key=true:=by
 unfold zZ at h;split at h
 .assumption
 .cases h
theorem Xs{e:Option Int}(a:e=none\/e=some 9\/e=some 10):(Zy e=0↔e=none):=by
 rcases a with rfl|rfl|rfl <;> decide
theorem Id(l:zz){B t:Nat}{K:Nat->Prop}{L:WL}{W:WM}{X:NL}{N:NM}{M:DM}{w:World}(h:Lv K B w L W X N M t)(ht:t<=890000)(o:OpM)(c0:o.kind≠1)(c1:o.kind≠12)(d0:o.kind≠13)(d1:o.kind≠14)(d2:o.kind≠15) :
 Calls Tryz.prog 18 #[.pointer (some ⟨L.wb,0,none⟩),.agg o.cells.toArray] w fun e Q=>e=.returned (.bool true)/\Nx B (PFoot L X M) L.wb L.tv w (t+10) Q:=by
 obtain⟨i,⟨F,p,d⟩,D⟩:=h;have hp:0<L.ps.length:=FD.2 D;have b5:=i.Bi.Ao;have d4:=d.cm.len;have hl:L.ps.length<1000000:=by omega
 have b3:W.calls<10000000:=by have:=d.cm.calls;omega
 obtain⟨m,d3,hrel,A⟩:=d.now;have hm:W.st[L.ps.length-1]?=some m:=by rw[b5];exact d3
 have b6:=d.st;have d6:=d.nk;have a8:m.keys.length<100000000:=by have:=A.keys;omega
 have a7:m.hints.length=N.S.hints.length:=by rw[hrel.2]
 have d5:=b6.1.hlen;have T:m.node=N.self:=A.node.trans d.self;have a5:W.base<100000000:=by have:=d.cm.base;omega
 have a9:W.next<100000000:=by have:=d.cm.next;omega
 have a6:=d.small (by omega);have k:∀ j,Fr Nil w j->PStep K B L X M w K L W X N M j:=fun j f=>i.nil f;have J:∀ j,Fr Nil w j->∀ g∈M.ids,g<j.heap.size:=fun j f g hg=>((k j f).CZ.node.Bz.files g hg).lt;have b4:=b6.1.get o.key;have a2:∀ u∈zj N.S.keys o.key,zS u.node:=fun u hu=>(b4.2.2 u hu).node;have a3:=d.yN hrel o.key;have b7:=d.bd;have b0:=d.room;have quiet:∀ {j R:World} {G:NL},Fr Nil w j->PStep K B L X M j K L W G N M R->Nx B (PFoot L X M) L.wb L.tv w (t+10) R:=fun f s=>Nx.live ((k _ f).trans s) ⟨F,p,d.more (by omega)⟩ D;have z:∀ {j R:World} {K':Nat->Prop} {G:NL} {W':WM} {N':NM} {M':DM} {q:Nat} {mx:LM} {e:Option Int},Fr Nil w j->PStep K B L X M j K' L W' G N' M' R->W'.room=W.room->MRep K' R q mx->q≠L.ps[L.ps.length-1]->Aft W' mx M e N' M' (t+10)->(e=none\/e=some 9\/e=some 10) ->
  Calls Tryz.prog 110 #[.pointer (some ⟨L.wb,0,none⟩),.pointer (some ⟨q,0,none⟩),.int .i64 (Zy e),.agg #[.int .i64 M.refused,.int .i64 M.Bb],.int .i64 (W.free M)] R fun e Q=>e=.returned (.bool true)/\Nx B (PFoot L X M) L.wb L.tv w (t+10) Q:=fun f s hr hq C ha I =>
  Jz K _ B L X M w L _ _ _ _ _ _ _ _ t (t+10) _ ((k _ f).trans s) D hq C ha (by omega) b7 (by omega) (by unfold WM.Ap;rw[hr];exact b0) I (by unfold WM.free;rw[hr])
 by_cases c2:o.kind=2
 .refine SX _ K L W X.nb o w i.Bi i.nv (.inl ⟨c2,rfl⟩) _ (fun j f=>?_)
  have v:=k j f;by_cases hb:Zh o.key o.text=0
  .obtain⟨hkey,hval⟩:=NC hb
   cases hbr:W.broken with
   | true =>
    have S:N.readOnly=true:=d.ro.trans hbr;refine(Ny l K B L W X N M o j v.CZ c2 hkey hval hbr S (by omega) a2).mono ?_;rintro e Q ⟨rfl,G,hs⟩;exact⟨rfl,Nx.live (v.trans hs) ⟨F,p,d.called.more (by omega)⟩ D⟩
   | false =>
    have S:N.readOnly=false:=d.ro.trans hbr;obtain⟨y,g1,g2,r⟩:=d.put (H0:=j.heap.size) (by omega) S hrel A (J j f) o.key o.text hkey hval;refine Lh l K B L W X N M o j v.CZ c2 hbr hp hl b3 hkey hval a2 m hm a8 (by rw[a3];exact a2) y (fun f' g' a b c=>?_) _ (fun f' g' K' G q R a b c hs hq C=>?_)
    .obtain⟨e,N',M',Y,I,_⟩:=r f' g' a b c
     rw[Y];refine⟨fun h0=>?_,fun h0=>?_⟩
     .rw[He ((Xs I).1 h0)]
      exact⟨g1,g2⟩
     .rw[IV (fun V=>h0 ((Xs I).2 V))]
    .obtain⟨e,N',M',Y,I,x⟩:=r f' g' a b c
     rw[Y] at hs hq |-;have b1:PStep K B L X M j K' L {W with calls:=W.calls+1,most:=if e=none then N.given+1 else W.most} G N' M' R:=by
      by_cases V:e=none
      .subst V
       exact hs
      .simp only[IV V]
       simp only[IV V,IV (fun h0=>V ((Xs I).1 h0))] at hs;exact hs
     exact z f b1 rfl hq C x I
  .refine(JB l K B L W X N M o j v.CZ c2 hb a2).mono ?_
   rintro e Q ⟨rfl,G,hs⟩;exact⟨rfl,quiet f hs⟩
 by_cases c3:o.kind=3
 .refine SX _ K L W X.nb o w i.Bi i.nv (.inr (.inl ⟨c3,rfl⟩)) _ (fun j f=>?_)
  have v:=k j f;by_cases hb:zZ o.key=0
  .have hkey:=ND hb
   cases hbr:W.broken with
   | true =>
    have S:N.readOnly=true:=d.ro.trans hbr;refine(SZ l K B L W X N M o j v.CZ c3 hkey hbr S (by omega)).mono ?_;rintro e Q ⟨rfl,G,hs⟩;exact⟨rfl,Nx.live (v.trans hs) ⟨F,p,d.called.more (by omega)⟩ D⟩
   | false =>
    have S:N.readOnly=false:=d.ro.trans hbr;obtain⟨y,g1,g2,r⟩:=d.delete (H0:=j.heap.size) (by omega) S hrel A (J j f) o.key hkey;refine Qg l K B L W X N M o j v.CZ c3 hbr hp hl b3 hkey m hm a8 y (fun f' g' a b c=>?_) _ (fun f' g' K' G q R a b c hs hq C=>?_)
    .obtain⟨e,N',M',Y,I,_⟩:=r f' g' a b c
     rw[Y];refine⟨fun h0=>?_,fun h0=>?_⟩
     .rw[He ((Xs I).1 h0)]
      exact⟨g1,g2⟩
     .rw[IV (fun V=>h0 ((Xs I).2 V))]
    .obtain⟨e,N',M',Y,I,x⟩:=r f' g' a b c
     rw[Y] at hs |-;have b1:PStep K B L X M j K' L {W with calls:=W.calls+1,most:=if e=none then N.given+1 else W.most} G N' M' R:=by
      by_cases V:e=none
      .subst V
       exact hs
      .simp only[IV V]
       simp only[IV V,IV (fun h0=>V ((Xs I).1 h0))] at hs;exact hs
     exact z f b1 rfl hq C x I
  .refine(Nw l K B L W X N M o j v.CZ c3 hb).mono ?_
   rintro e Q ⟨rfl,G,hs⟩;exact⟨rfl,quiet f hs⟩
 by_cases c4:o.kind=4
 .refine SX _ K L W X.nb o w i.Bi i.nv (.inr (.inr ⟨c4,rfl⟩)) _ (fun j f=>?_)
  have v:=k j f;obtain⟨y,r⟩:=d.accept (H0:=j.heap.size) (by omega) hrel A (J j f) o.key o.v;refine Kz l K B L W X N M o j v.CZ d.ro hp hl a2 b4.1 (by omega) (by omega) y m hm T a3 a8 _ (fun c _ G R hs=>quiet f hs) (fun ho f' K' G q R a hs hq C=>?_);obtain⟨e,N',M',Y,I,x⟩:=r ho f' a;rw[Y] at hs |-;exact z f hs rfl hq C x I
 by_cases c7:o.kind=7
 .refine SY _ K L W X.nb o w i.Bi i.nv (.inl ⟨c7,rfl⟩) _ (fun j f=>?_)
  have v:=k j f;obtain⟨y,r⟩:=d.hint (H0:=j.heap.size) (by omega) hrel A (J j f) o.a o.text;refine Oa l K B L W X N M o j v.CZ c7 d.ro hp hl y m hm T a7 (by omega) _ (fun c _ G R hs=>quiet f hs) (fun ho f' K' G q R a hs hq C=>?_);obtain⟨e,N',M',Y,I,x⟩:=r ho f' a;rw[Y] at hs |-;exact z f hs rfl hq C x I
 by_cases c9:o.kind=9
 .refine SY _ K L W X.nb o w i.Bi i.nv (.inr (.inl ⟨c9,rfl⟩)) _ (fun j f=>?_)
  have v:=k j f;obtain⟨y,r⟩:=d.Au (H0:=j.heap.size) (by omega) hrel A (J j f);refine Np l K B L W X N M o j v.CZ c9 d.ro hp hl y m hm T a7 (by omega) _ (fun c _ G R hs=>quiet f hs) (fun ho f' K' G q R a hs hq C=>?_);obtain⟨e,N',M',Y,I,x⟩:=r ho f' a;rw[Y] at hs |-;exact z f hs rfl hq C x I
 by_cases c5:o.kind=5
 .refine M9 _ K L W X.nb o w i.Bi i.nv (.inl ⟨c5,rfl⟩) _ (fun j f=>?_)
  have v:=k j f;refine(JD K B L W X N M o j v.CZ c5 hp hl m hm a3 (by omega) (by omega) a6 a5 a9).mono ?_;rintro e Q ⟨rfl,L',b2,hs,E,a1⟩;exact⟨rfl,Nx.live (v.trans hs) ⟨F,p,(d.Bo a1).more (by omega)⟩ (by rw[E];exact D)⟩
 by_cases c6:o.kind=6
 .refine M9 _ K L W X.nb o w i.Bi i.nv (.inr ⟨c6,rfl⟩) _ (fun j f=>?_)
  have v:=k j f;refine(KG K B L W X N M o j v.CZ c6 hp hl m hm hrel.1 (by omega) a6 a5 a9).mono ?_;rintro e Q ⟨rfl,L',b2,hs,E,a1⟩;exact⟨rfl,Nx.live (v.trans hs) ⟨F,p,(d.Bo a1).more (by omega)⟩ (by rw[E];exact D)⟩
 by_cases c8:o.kind=8
 .refine Ma _ K L W X.nb o w i.Bi i.nv (.inl ⟨c8,rfl⟩) _ (fun j f=>?_)
  have v:=k j f;refine(Lj K B L W X N M o j v.CZ c8 hp hl m hm hrel.2 (by omega) a6 a5 a9).mono ?_;rintro e Q ⟨rfl,L',b2,hs,E,a1⟩;exact⟨rfl,Nx.live (v.trans hs) ⟨F,p,(d.Bo a1).more (by omega)⟩ (by rw[E];exact D)⟩
 by_cases a4:o.kind=10
 .refine Ma _ K L W X.nb o w i.Bi i.nv (.inr ⟨a4,rfl⟩) _ (fun j f=>?_)
  have v:=k j f;refine(MK K B L W X N M o j v.CZ a4 hp hl m hm d.ro (by rw[hrel.1]) a7.symm).mono ?_;rintro e Q ⟨rfl,hs⟩;exact⟨rfl,quiet f hs⟩
 by_cases a0:o.kind=11
 .refine SY _ K L W X.nb o w i.Bi i.nv (.inr (.inr ⟨a0,rfl⟩)) _ (fun j f=>?_)
  have v:=k j f;cases hbr:W.broken with
  | true =>
   refine(Of l K B L W X N M o j v.CZ a0 hbr (d.ro.trans hbr)).mono ?_;rintro e Q ⟨rfl,G,hs⟩;exact⟨rfl,quiet f hs⟩
  | false =>
   rcases d.sync (by omega) (d.ro.trans hbr) with⟨h1,h2,F',p',hi⟩|⟨h1,h2,h3,F',p',b8,b9⟩
   .refine(Le l K B L W X N M o j v.CZ a0 hbr hp hl ⟨h1,h2⟩).mono ?_
    rintro e Q ⟨rfl,L',G,E,hs⟩;exact⟨rfl,Nx.live (v.trans hs) ⟨F',p',hi.more (by omega)⟩ E⟩
   .refine(JA l K B L W X N M o j v.CZ a0 hbr ⟨h1,h2,h3⟩).mono ?_
    rintro e Q ⟨rfl,G,ha,hb⟩;cases hd:(N.Bh M).2.2.dead with
    | false=>exact⟨rfl,Nx.live (v.trans (ha hd)) ⟨F',p',(b9 hd).more (by omega)⟩ D⟩
    | true =>
     obtain⟨wm,hs,rfl⟩:=hb hd;exact⟨rfl,Nx.gone (v.trans hs) (Off.of (hs.CZ.nil (O Nil wm)) D) ⟨F',p',b8.more (by omega)⟩⟩
 refine(Ld K L W X.nb o w i.Bi i.nv ⟨c0,c1,d0,d1,c2,c3,c4,c7,c9,a0,d2,c5,c6,c8,a4⟩).mono ?_;rintro e Q ⟨rfl,f⟩;exact⟨rfl,Nx.live (k Q f) ⟨F,p,d.more (by omega)⟩ D⟩
theorem KH(l:List Nat):∀ u∈ZV l,u.oneCell'=true:=by
 intro u a;obtain⟨p,_,rfl⟩:=Gc.1 a
 rfl
theorem Lk(w:World)(g f:Nat)(l:List Nat)(h:w.ownsRow 0 104 1 (.slice (some ⟨g,0,none⟩) l.length f) l.length (ZV l))(x:l.length<1000000000)(i c:Nat)(v:i<=l.length)(e:World)(m:Fr Nil w e)(ty:TypeId) :
 ∃ v' b,(Builtin.append_ #[42,42] ty #[.slice none 0 0,.slice (some ⟨g,0,none⟩) i c]).run Tryz.prog e=.ok v' b /\
  (b.ownsRow 0 104 1 v' i (ZV (l.take i))/\Fr Nil w b/\(∀ k,v'.ownBlock=some k->w.heap.size<=k)):=by
 have s:=zb h m (fun _ _=>id);obtain⟨v',b,t,p,q,a⟩:=zt (P:=Tryz.prog) 42 ty 104 1 8 Tryz.underlying42 NT (by omega) (.slice none 0 0) 0 [] (Hc e 0 _ _) ⟨g,0,none⟩ i c (ZV (l.take i)) (by simp[ZV];omega)
  (fun j u o=>by
    rw[Gh,Gg];refine own_cell? s j u ?_;have r:j<i:=by have:=(Hp.1 o).1;simp[ZV] at this;omega
    rw[<- o];simp[ZV,r]) (KH _) (by unfold maxLen;omega) (by omega)
 refine⟨v',b,t,by simpa using p,m.trans ((Fr.Bv q).mono (fun i _ h=>by simp[Value.ownBlock] at h)),fun k d=>?_⟩;rcases a with a|a
 .rw[a] at d;simp[Value.ownBlock] at d
 .rw[a] at d;simp at d;have:=m.size;omega
theorem Ie(K:Nat->Prop)(B:Nat)(L:WL)(W:WM)(X:NL)(N:NM)(M:DM)(w:World)(h:Play K B w L W X N M)(hl:L.ps.length<10000000)
 (u:∀ m∈W.st,Y1 m.keys/\m.keys.length<100000000/\(∀ e∈m.keys,e.2.length<100000)/\m.hints.length<1000000)(c7:N.S.keys.length<100000000)(c4:N.S.hints.length<1000000)(r:Zm N.S)(c3:W.calls<100000000)
 (i:Nat)(m m':LM)(mo:Nat)(hi:W.st[i]?=some m)(hT:Zb W N m=(mo,some m'))(C:∀ k m,i<k->W.st[k]?=some m->Zb W N m=(W.most,none))(a7:W.Ac=true\/i+1=W.st.length) :
 Calls Tryz.prog 59 #[.pointer (some ⟨L.wb,0,none⟩)] w fun e w'=>e=.returned (.bool true)/\∃ K' L',PStep K B L X M w K' L' {W with most:=mo,st:=W.st.take i++[m'],Ac:=false} X N M w'/\L'.ps≠[]:=by
 have v:=h.Bi.Ao;have a8:=(Hp.1 hi).1;have b9:=Z (fun(I:Nat->Prop) (k:Nat) (hk:k<L.ps.length) (t:k<W.st.length) (wx:World) (s:PStep K B L X M w I L W X N M wx)=>O4 I B L W X N M L.ps[k] W.st[k] wx s.CZ (s.CZ.Bi.AB k hk t) (u _ (IX t)).1 (u _ (IX t)).2.1 (u _ (IX t)).2.2.1 (u _ (IX t)).2.2.2 c7 c4 r c3);have hp:0<L.ps.length:=by omega
 obtain⟨g,c,D,a4,_⟩:=zm h.Bi.Ab hp;have y:=h.Bi.Ab;rw[D] at y;have R:∀ k,w.cell? ⟨L.wb,k,none⟩=(W.cells L)[k]?:=h.Bi.CY.cell;simp only[WM.cells,D] at R;have HH:=Z h;have q:=Z D;have d2:=Z y;have HI:=Z (And.intro hi (And.intro hT (And.intro C (And.intro a7 a8))));have p:=Z v;clear h D y hi hT C a7 u r;obtain⟨n,hn⟩:∃ n,L.ps.length=n:=⟨_,rfl⟩;have HN:=Z hn;rw[hn] at hl R hp a4 v;have d8:IntKind.i64.wrap ((n:Int)-1)=((n-1:Nat):Int):=by rw[Hr];omega
 clear hn v;go_enter Tryz.func59,Tryz.ntmps59;go_wp2_with fail
 go_loopw [3] (fun t3 w'=>∃ (j:Nat) (I:Nat->Prop),i<=j/\j<n/\t3=.int .i64 j/\PStep K B L X M w I L W X N M w') (fun t3 _=>(intOf t3).toNat)
 case atStart=>exact⟨n-1,K,by have:=HI.out.2.2.2.2;have:=HN.out;have:=p.out;omega,by omega,rfl,HH.out.nil (O _ _)⟩
 case round =>
  obtain⟨j,I,c5,c6,rfl,hs⟩:=hrel;have A:j<L.ps.length:=by rw[HN.out];exact c6
  have l:j<W.st.length:=by rw[<- p.out];exact A
  have o:=hs.CZ.Bi.CY.cell;simp only[WM.cells,q.out] at o;have d:=hs.CZ.Bi.Ab;rw[q.out] at d;have hg:=own_cell? d j (.pointer (some ⟨L.ps[j],0,none⟩)) (by simp[ZV,List.getElem?_eq_getElem A]);have a2:=Z (b9.out I j A l _ hs);have HS:=Z hs;have HJ:=Z (And.intro c5 l);generalize L.ps[j]=qj at hg a2;have d1:IntKind.i64.wrap ((j:Int)-1)=((j:Int)-1):=by rw[Hr];omega
  have d5:(0:Int)<=j:=by omega
  have d3:(j:Int)<L.ps.length:=by omega
  clear R hs d;go_wp2_with fail;refine a2.out.mono ?_;intro e w1 J;by_cases a9:j=i
  .-- the state that is told
   have b0:W.st[j]'l=m:=by subst a9;have:=HI.out.1;rw[IW l] at this;exact Hl this
   rw[b0,HI.out.2.1] at J;obtain⟨K2,Y,x,rfl,b2⟩:=J;have a:=Z (HS.out.trans x);have b6:=Z b2;have o:∀ k,w1.cell? ⟨L.wb,k,none⟩=_:=a.out.CZ.Bi.CY.cell;simp only[WM.cells,q.out] at o;have d9:=a.out.CZ.Bi.CY.frozen;have d:=a.out.CZ.Bi.Ab;rw[q.out] at d;have b7:=Z d;have T:i<=L.ps.length/\L.ps.length<1000000000:=by rw[HN.out];omega
   have a0:Hid (∀ w4:World,Fr Nil w1 w4->Blk w4 L.wb (WM.cells L {W with most:=mo}) 49):=fun w4 f=>a.out.CZ.Bi.CY.fr f id;subst a9;have d6:(j:Int)<=c:=by omega
   have d7:¬(c:Int)<j:=by omega
   clear x b2 d hg d1 b0
   go_wp2_with (first
    | (at_builtin;(refine zk rfl _ _ _ _ rfl _ _ (by rfl) (by rfl) (Uv w4 _ _ _ b5.out Y (by omega) _ za _ (by exact Blk.new _ [_] _) _) ?_;rintro v5 w5 ⟨V,a6,c8⟩;have a3:=b4.out _ a6;obtain⟨e2,e3,d0⟩:=zc V;have c2:=a3.cell;simp only[WM.cells] at c2;have e1:=a3.frozen))
    | (at_builtin;(refine zk rfl _ _ _ _ rfl _ _ (by rfl) (by rfl) (Lk w1 g c L.ps b7.out T.2 j _ T.1 _ za _) ?_;rintro v4 w4 ⟨c9,a5,b1⟩;have Q:=a0.out _ a5;have c1:=Q.cell;simp only[WM.cells] at c1;have e0:=Q.frozen;have b5:=Z c9;have z:=Z (And.intro a5 b1);have b4:Hid (∀ w5:World,Fr (fun k=>v4.ownBlock=some k) w4 w5->Blk w5 L.wb (WM.cells L {W with most:=mo}) 49):=fun w5 f=>Q.fr f (fun e=>by have:=b1 _ e;have:=(a0.out w1 (O _ _)).lt;omega))))
   have A:j<=L.ps.length:=T.1;have d4:j<=W.st.length:=Dk l;have E:(L.ps.take j).length=j:=by rw[IR];omega
   have G:(W.st.take j).length=j:=by rw[IR];omega
   have c0:Fr Nil w1 w5:=z.out.1.trans' a6 (fun i hi e=>by have:=z.out.2 i e;omega);have b3:w5.ownsRow 0 104 1 v5 (L.ps.take j++[Y]).length (ZV (L.ps.take j++[Y])):=by
    have e:ZV (L.ps.take j)++[.pointer (some ⟨Y,0,none⟩)]=ZV (L.ps.take j++[Y]):=by simp[ZV]
    rw[e] at V;rw[IM,E];exact V
   have a1:=WStep.BZ a.out.CZ.Bi (v':=v5) (qs:=L.ps.take j++[Y]) (st':=W.st.take j++[m']) (w4:=w5) b3 (c0.mono (fun _ _ e=>absurd e id)) (fun b e=>.inr (by
    rcases c8 b e with e|e
    .exact z.out.2 b e
    .exact IP z.out.1.size e)) (by rw[IM,IM,E,G];rfl) (fun k J h2=>by
     by_cases hk:k<j
     .have h3:=a.out.CZ.Bi.AB k (by omega) (by show k<W.st.length;omega)
      rw[Hw (by omega),Hw (by omega),Fy,Fy];exact h3
     .have hkj:k=j:=by rw[IM,E] at J;simp only[IU] at J;omega
      subst hkj;rw[Gu (by omega),Gu (by omega)];simp only[E,G,Dj,GJ];exact b6.out)
   have b8:=a1.trans (WStep.set a1.CZ 7 (.bool false) (L':={L with sv:=v5,ps:=L.ps.take j++[Y]}) (W':={W with most:=mo,st:=W.st.take j++[m'],Ac:=false}) (by simp[WM.cells]) rfl rfl rfl rfl rfl rfl rfl rfl rfl rfl rfl rfl rfl);subst d0;go_ret;exact⟨rfl,_,_,a.out.trans (a.out.CZ.turn b8),by simp⟩
  .-- none of these
   have C:Zb W N (W.st[j]'l)=(W.most,none):=HI.out.2.2.1 j _ (by omega) (IW l);rw[C] at J;obtain⟨K2,x,rfl⟩:=J;have F:PStep I B L X M _ K2 L W X N M w1:=x;have a:=Z (HS.out.trans F);have o:∀ k,w1.cell? ⟨L.wb,k,none⟩=_:=a.out.CZ.Bi.CY.cell;simp only[WM.cells,q.out] at o;have S:W.Ac=true:=HI.out.2.2.2.1.resolve_right (fun e=>by have:=p.out;have:=HN.out;omega);rw[S] at o;clear x F hg;go_wp2_with fail;exact⟨⟨j-1,K2,by omega,by omega,by go_num,a.out⟩,by simp[intOf];omega⟩
structure Up(K:Nat->Prop)(L:WL)(W:WM)(LD:DL)(M:DM)(w:World)(t:Nat)(nv1:Value)(W1:WM)(LD1:DL)(M1:DM)(ss:List Seg)(p:Nat)(w1:World):Prop where
 Bi:WAt K w1 {L with nv:=nv1} W1
 Bz:DRep w1 L.db LD1 M1
 sh:Sh W1 M1 (ze ss) p t
 lg:Lg M1 ss p t
 dead:M1.dead=false
 fr:Fr (RFoot L LD M) w w1
theorem Sh.segs{W:WM}{M:DM}{F:List Fact}{p t:Nat}(h:Sh W M F p t):∃ a,Lg M a p t/\Sh W M (ze a) p t:=by
 obtain⟨a,c,b⟩:=h.lg;exact⟨a,c,by rw[b];exact h⟩
theorem Sh.yr{W:WM}{M:DM}{a:List Seg}{p t:Nat}(h:Sh W M (ze a) p t):Sane (Zj a) t:=by
 have:=h.xi.2;unfold atF at this;rw[HZ] at this;exact this
theorem Up.BT{K:Nat->Prop}{L:WL}{W:WM}{d:DL}{M:DM}{w:World}{t:Nat}{F:List Fact}{p:Nat}(h:Sh W M F p t)(a:List Int){b:DL}{i c:World}(f:Fr Nil w i)(o:WAt K c {L with nv:=.pointer none} {W with Ac:=true})(k:DRep c L.db b (M.BT W.Bu a))(l:Fr (RFoot L d M) i c) :
 ∃ g p,Up K L W d M w t (.pointer none) {W with Ac:=true} b (M.BT W.Bu a) g p c:=by
 obtain⟨s,r,j⟩:=h.BT W.Bu a;obtain⟨g,q,hs⟩:=j.segs;exact⟨g,r,o,k,hs,q,rfl,(f.mono (S':=RFoot L d M) (fun _ _ e=>absurd e id)).trans l⟩
theorem Ig(l7:zz)(K:Nat->Prop)(B:Nat)(L:WL)(W:WM)(LD:DL)(M:DM)(s u:Int)(A:List Int)(t:Nat)(w:World)(h:WAt K w L W)(hd:DRep w L.db LD M)(g9:∀ k,K k->¬Foot L.db LD M k)(h1:YX B w)(hB:B<=w.heap.size)(g6:∀ k,RFoot L LD M k->B<=k)
 (hr:∃ F p,Sh W M F p t)(ht:t<=890000)(m6:L.ps≠[])(m8:Ya w L.tv A)(m9:∀ k,A≠[]->L.tv.ownBlock=some k->¬RFoot L LD M k)(n0:∀ x,x∈A->-9223372036854775808<=x/\x<=9223372036854775807) :
 Calls Tryz.prog 17 #[.pointer (some ⟨L.wb,0,none⟩),.int .i64 s,.int .i64 u] w fun e w'=>e=.returned (.bool true)/\Nx B (RFoot L LD M) L.wb L.tv w (t+10) w':=by
 obtain⟨F0,p0,h0⟩:=hr;obtain⟨n2,i1,d1⟩:=h0.segs;have h7:∀ k,w.cell? ⟨L.wb,k,none⟩=(W.cells L)[k]?:=h.CY.cell;simp only[WM.cells] at h7;have o:=Z (Vq w L.db LD M hd);have b1:=Z (fun b (f:Fr Nil w b)=>M8 K L W LD M n2 p0 t W.Bu A L.tv b (h.nil f) (hd.nil f) g9 d1.cm.Bu.1 d1.cm.Bu.2 (m8.fr f (fun _ _ _=>id)) (fun k o1 e he=>m9 k o1 e (.inr he)) n0 i1 (by omega));have a3:Hid (∀ b,Fr Nil w b->b.cell? ⟨L.wb,13,none⟩=some (.int .i64 W.Bu)/\b.cell? ⟨L.wb,14,none⟩=some L.tv):=fun b f=>⟨(h.nil f).CY.cell 13,(h.nil f).CY.cell 14⟩;have b6:Hid (M.dead=false->Up K L W LD M w t L.nv W LD M n2 p0 w):=fun e=>⟨h,hd,d1,i1,e,O _ _⟩;have h2:Hid (∀ k,K k->k<w.heap.size):=fun k e=>(h.Bt k e).1;have k5:=Z h1;have j5:=Z hB;have b3:=Z g6;have n7:=Z m6;have b4:=Z d1;clear h hd g9 h1 hB g6 m8 m9 n0 i1 d1 h0 m6;go_enter Tryz.func17,Tryz.ntmps17;cases hdd:M.dead
 case' false =>
  rw[hdd] at o
  go_wp2_with (refine o.out.mono ?_;rintro e b ⟨rfl,i8⟩;subst b)
  have d4:=b6.out hdd;clear h7 o b1 a3 b6 b4 hdd;obtain⟨j,c,b7,M1,J,p1,w1,n1,Y⟩:∃ j c b7 M1 J p1 w1,w1=w/\Up K L W LD M w t j c b7 M1 J p1 w1:=⟨_,_,_,_,_,_,_,rfl,d4⟩;have a:=Z Y;clear d4 Y;rw[<- n1];clear n1
 case' true =>
  rw[hdd] at o
  go_wp2_with (refine o.out.mono ?_;rintro e b ⟨rfl,i8⟩;subst b)
  have l6:=a3.out w (O _ _)
  go_region_held3 (fun b=>b.cell? ⟨L.wb,13,none⟩=some (.int .i64 W.Bu)/\b.cell? ⟨L.wb,14,none⟩=some L.tv) (first|assumption|go_keep|exact a3.out _ za)
   (first|(go_at_call 52;refine(b1.out _ za).mono ?_;rintro e w1 ⟨rfl,b7,e0,k6,k9,l9⟩;have o6:w1.cell? ⟨L.wb,13,none⟩=some (.int .i64 W.Bu)/\w1.cell? ⟨L.wb,14,none⟩=some L.tv:=⟨e0.CY.cell 13,e0.CY.cell 14⟩;have f3:=Z (Up.BT (w:=w) b4.out A za e0 k6 k9);clear e0 k6 k9 l9))
  go_wp2_with fail;obtain⟨J,p1,d4⟩:=f3.out;clear f3 h7 o b1 a3 b6 b4 hdd l6 o6;obtain⟨j,c,M1,Y⟩:∃ j c M1,Up K L W LD M w t j c b7 M1 J p1 w1:=⟨_,_,_,d4⟩;have a:=Z Y;clear d4 Y
 all_goals
  have b5:Hid (YX B w1):=k5.out.fr j5.out a.out.fr b3.out;have C:Hid (B<=w1.heap.size):=IP j5.out a.out.fr.size;refine(Ia l7 K B {L with nv:=j} c b7 M1 J p1 t w1 a.out.Bi a.out.Bz b5.out C.out a.out.lg a.out.sh.yr (by omega)).mono ?_;rintro e w2 ⟨rfl,f2⟩;have l3:∀ k,w2.cell? ⟨L.wb,k,none⟩=(c.cells {L with nv:=j})[k]?:=(a.out.Bi.nil f2).CY.cell;simp only[WM.cells] at l3;have d6:=Z f2;clear f2;go_wp2_with fail;refine(KB (a.out.Bz.nil d6.out) a.out.lg (by omega)).mono ?_;rintro e w3 ⟨g,L2,ps,rfl,a7,d0⟩;have c7:=a.out.lg.BU d0;have d2:=a.out.sh.BU d0;have c3:(M1.BU ps).dead=false:=a.out.dead;generalize M1.BU ps=d at a7 c7 d2 c3;have F3:=d6.out.trans a7.fr;have e1:=a.out.Bi.nil F3;obtain⟨l1,e4⟩:=e1.yU g;have l4:∀ k,w3.cell? ⟨L.wb,k,none⟩=(c.cells {L with nv:=j})[k]?:=e1.CY.cell;have o7:=e1.CY.frozen;simp only[WM.cells] at l4;have c8:L.wb<w1.heap.size:=a.out.Bi.CY.lt;have l2:∀ k,Foot g L2 d k->¬k=L.wb:=fun k l e=>by subst e;have:=a7.new _ l;have:=d6.out.size;omega
  have k7:=a7.CZ.fr e4 l2;have g7:∀ k,Foot g L2 d k->w1.heap.size<=k:=fun k l=>IP d6.out.size (a7.new k l);have l0:Fr (WFoot L) w1 _:=(F3.mono (S':=WFoot L) (fun _ _ e=>absurd e id)).trans' (e4.mono (S':=WFoot L) (fun k _ e=>.inl e)) (fun _ _ e=>e);have d3:YX B _:=(b5.out.fr C.out F3 (fun _ e=>absurd e id)).fr (IP C.out F3.size) e4 (fun k e=>by subst e;exact b3.out _ (.inl (.inl rfl)));have G:=Z (And.intro c7 (And.intro d2 c3));have v:=Z g7;have R:=Z l1;have Q:=Z l0;have D:=Z k7;have a0:=Z d3;clear l3 a7 d0 c7 d2 c3 F3 e1 l1 e4 c8 l2 k7 g7 l0 d3;go_wp2_with fail;have i7:w3.heap.size=(w3.setCell ⟨L.wb,4,none⟩ (.pointer (some ⟨g,0,none⟩))).heap.size:=by simp[World.setCell]
  generalize w3.setCell ⟨L.wb,4,none⟩ (.pointer (some ⟨g,0,none⟩))=w4 at R Q D a0 i7 |-;have h6:=Blk.newAt w4 [.int .i64 c.node,.int .i64 s,.int .i64 u] 102 _ i7;have f5:Fr Nil w4 (w4.alloc (.cells #[.int .i64 c.node,.int .i64 s,.int .i64 u] 102)):=(O _ _).alloc _;generalize w4.alloc (.cells #[.int .i64 c.node,.int .i64 s,.int .i64 u] 102)=w5 at h6 f5 |-;have d5:=Z h6;have n4:=Z f5;clear l4 o7 h6 f5 i7;generalize w3.heap.size=cx at d5 |-;have o5:=d5.out.cell;refine(Pq c.node s u w5).mono ?_;rintro e w6 ⟨rfl,f6⟩;have d7:=Z (n4.out.trans f6);have e8:=Z (d5.out.fr f6 id);have l5:c.calls<=t:=a.out.sh.cm.calls;have o4:IntKind.i64.wrap ((c.calls:Int)+1)=((c.calls+1:Nat):Int):=by rw[Hr];push_cast;omega
  clear o5 f6 d5 l5;generalize q:zP c.node s u=o0;have j7:=Z q;clear q;go_wp2_with fail;refine(Zd K {L with nv:=j,db:=g} c L2 d w6 (R.out.nil d7.out) (D.out.nil d7.out)).mono ?_;rintro e w7 ⟨rfl,f7⟩;have i4:=Blk.new w7 [.int .i64 d.refused,.int .i64 d.Bb] 111;have f8:Fr Nil w7 (w7.alloc (.cells #[.int .i64 d.refused,.int .i64 d.Bb] 111)):=(O _ _).alloc _;have h8:∀ k,(w7.alloc (.cells #[.int .i64 d.refused,.int .i64 d.Bb] 111)).cell? ⟨L.wb,k,none⟩=(c.cells {L with nv:=j,db:=g})[k]?:=(R.out.nil ((d7.out.trans f7).trans f8)).CY.cell;simp only[WM.cells] at h8;go_wp2_with fail;generalize w7.alloc (.cells #[.int .i64 d.refused,.int .i64 d.Bb] 111)=w8 at i4 f8 h8 |-;have r:=Z ((d7.out.trans f7).trans f8);have a2:=Z (e8.out.fr (f7.trans f8) id);have h3:=Z i4;generalize w7.heap.size=mx at h3 |-;clear f7 f8 i4 e8;refine(zB w8 g L2 d (D.out.nil r.out)).mono ?_;rintro e b ⟨rfl,i8⟩;subst b;have h4:Hid (¬Foot g L2 d cx):=(D.out.nil r.out).apart a2.out.ty (by unfold DTy;decide);have n6:Hid (¬Foot g L2 d mx):=(D.out.nil r.out).apart h3.out.ty (by unfold DTy;decide);have a9:Hid (∀ b,Fr (Foot g L2 d) w8 b->b.cell? ⟨L.wb,4,none⟩=some (.pointer (some ⟨g,0,none⟩))/\b.cell? ⟨cx,0,none⟩=some (.int .i64 c.node)/\b.cell? ⟨cx,1,none⟩=some (.int .i64 s)/\b.cell? ⟨cx,2,none⟩=some (.int .i64 u)) :=
   fun b f=>⟨((R.out.nil r.out).CY.fr f (fun e=>(R.out.nil r.out).Bz (D.out.nil r.out) (.inl rfl) e)).cell 4,(a2.out.fr f h4.out).cell 0,(a2.out.fr f h4.out).cell 1,(a2.out.fr f h4.out).cell 2⟩
  clear h8;go_wp2_with fail;cases o0 with
  | false =>
   have b0:Hid (∀ b,Fr Nil w8 b->b.cell? ⟨L.wb,4,none⟩=some (.pointer (some ⟨g,0,none⟩))/\b.cell? ⟨cx,0,none⟩=some (.int .i64 c.node)/\b.cell? ⟨cx,1,none⟩=some (.int .i64 s)/\b.cell? ⟨cx,2,none⟩=some (.int .i64 u)):=fun b f=>a9.out b (f.mono (fun _ _ e=>absurd e id));have i0:=b0.out w8 (O _ _);have h5:=Z (fun b=>Od g c.node s u j7.out b)
   go_region_held3 (fun b=>b.cell? ⟨L.wb,4,none⟩=some (.pointer (some ⟨g,0,none⟩))/\b.cell? ⟨cx,0,none⟩=some (.int .i64 c.node)/\b.cell? ⟨cx,1,none⟩=some (.int .i64 s)/\b.cell? ⟨cx,2,none⟩=some (.int .i64 u)) (first|assumption|go_keep|exact b0.out _ za)
    (first|(go_at_call 49;refine(h5.out _).mono ?_;rintro e w9 ⟨rfl,c4⟩;have S:Fr Nil w8 w9:=Fr.trans za c4;have i9:=b0.out w9 S;have E:=Z (r.out.trans S);clear c4 S))
   have z:=R.out.nil E.out;have e2:∀ k,w9.cell? ⟨L.wb,k,none⟩=(c.cells {L with nv:=j,db:=g})[k]?:=z.CY.cell;have g5:=z.CY.frozen;simp only[WM.cells] at e2;have y:=WStep.set z 11 (.int .i64 ((c.calls+1:Nat):Int)) (L':={L with nv:=j,db:=g}) (W':={c with calls:=c.calls+1}) (by simp[WM.cells]) rfl rfl rfl rfl rfl rfl rfl rfl rfl rfl rfl rfl rfl;obtain⟨T,V⟩:=y.CZ.yb (.pointer none);have a6:=y.fr.trans' (V.mono (S':=WFoot {L with nv:=j,db:=g}) (fun k _ e=>.inl e)) (fun _ _ e=>e);have b8:=(D.out.nil E.out).fr a6 (fun k l hw=>z.Bz (D.out.nil E.out) hw l);have j6:=Z (zB _ g L2 d b8);have j8:=Z b8;have p2:(d.calls==d.calls)=true:=by simp
   have I:=Z T;have n5:Hid (Fr (WFoot L) w1 _):=(Q.out.trans (E.out.mono (S':=WFoot L) (fun _ _ e=>absurd e id))).trans a6;clear i0 i9 z y T V a6 b8
   go_wp2_with (refine j6.out.mono ?_;rintro e b ⟨rfl,i8⟩;subst b)
   go_ret;exact⟨rfl,a.out.fr.trans' n5.out (fun k _ e=>.inl e),.inr ⟨K,_,_,L2,d,⟨I.out,j8.out,fun k l e=>by have:=h2.out k l;have:=v.out k e;have:=a.out.fr.size;omega,⟨_,_,G.out.2.1.called⟩,n7.out,rfl⟩,rfl,rfl,fun k e=>.inl (.inl e),fun k e=>.inr (IP a.out.fr.size (v.out k e))⟩⟩
  | true =>
   have q:=j7.out;obtain⟨nd,sg,sy,i5,m3,o2,o3⟩:∃ nd sg sy:Nat,c.node=(nd:Int)/\nd<4/\s=(sg:Int)/\u=(sy:Int):=by
    unfold zP zA at q;simp only[Gr,Ha] at q;exact⟨c.node.toNat,s.toNat,u.toNat,by omega,by omega,by omega,by omega⟩
   subst o2 o3;rw[i5] at q a9 |-;have j4:Hid (B<=w4.heap.size):=IP C.out Q.out.size;have h5:=Z (fun b (f:Fr Nil w8 b)=>Un B g L2 d nd sg sy J q b (D.out.nil (r.out.trans f)) G.out.1.BC G.out.1.ok (G.out.1.short (by omega)) (G.out.1.yS (by omega)) (a0.out.fr j4.out (r.out.trans f) (fun _ e=>absurd e id)) (IP j4.out (r.out.trans f).size) (fun k l=>IP C.out (v.out k l)));have k3:=Z (And.intro i5 m3);clear q i5 m3;have i0:=a9.out w8 (O _ _)
   go_region_held3 (fun b=>b.cell? ⟨L.wb,4,none⟩=some (.pointer (some ⟨g,0,none⟩))/\b.cell? ⟨cx,0,none⟩=some (.int .i64 (nd:Nat))/\b.cell? ⟨cx,1,none⟩=some (.int .i64 (sg:Nat))/\b.cell? ⟨cx,2,none⟩=some (.int .i64 (sy:Nat))) (first|assumption|go_keep|exact a9.out _ za)
    (first|(go_at_call 49;refine(h5.out _ za).mono ?_;rintro e w9 ⟨X,rfl,m7,g3,a5,_,c4⟩;have S:Fr (Foot g L2 d) w8 w9:=Fr.trans za c4;have i9:=a9.out w9 S;have d8:=Z m7;have e9:=Z g3;have k0:Hid (∀ k,NFoot X d k->Foot g L2 d k\/w8.heap.size<=k):=(fun k l=>a5 k l);have k2:=Z (h3.out.fr S n6.out);have E:=Z ((r.out.mono (S':=Foot g L2 d) (fun _ _ e=>absurd e id)).trans S);clear c4 S m7 g3 a5))
   have z:=R.out.fr E.out (fun k l e=>R.out.Bz D.out l e) (fun k l e=>by have:=h2.out k l;have:=v.out k e;have:=a.out.fr.size;omega);have k8:DRep w9 g X.LD d:=by have:=d8.out.Bz;rw[e9.out] at this;exact this
   have j9:=Z k8;clear k8;have e2:∀ k,w9.cell? ⟨L.wb,k,none⟩=(c.cells {L with nv:=j,db:=g})[k]?:=z.CY.cell;have g5:=z.CY.frozen;simp only[WM.cells] at e2;have y:=WStep.set z 11 (.int .i64 ((c.calls+1:Nat):Int)) (L':={L with nv:=j,db:=g}) (W':={c with calls:=c.calls+1}) (by simp[WM.cells]) rfl rfl rfl rfl rfl rfl rfl rfl rfl rfl rfl rfl rfl;obtain⟨T,V⟩:=y.CZ.yb (.pointer none);have a6:=y.fr.trans' (V.mono (S':=WFoot {L with nv:=j,db:=g}) (fun k _ e=>.inl e)) (fun _ _ e=>e);have d9:=Z z;have I:=Z T;have a4:=Z a6;clear i0 i9 y T V a6 z;go_wp2_with fail;rw[show((c.calls:Int)+1)=((c.calls+1:Nat):Int) from by push_cast;rfl];generalize (w9.setCell ⟨L.wb,11,none⟩ (.int .i64 ((c.calls+1:Nat):Int))).setCell ⟨L.wb,5,none⟩ (.pointer none)=a8 at I a4 |-;have f9:=j9.out.fr a4.out (fun k l hw=>d9.out.Bz j9.out hw l);have m2:∀ n k,(a8.drewN n).cell? ⟨mx,k,none⟩=[Value.int .i64 d.refused,.int .i64 d.Bb][k]?:=fun n=>((k2.out.fr a4.out (d9.out.yu k2.out (by intro hd;unfold WTy at hd;rcases hd with e|e|e|e|e|e <;> exact absurd e (by decide)))).drewN n).cell;have c2:∀ n k,(a8.drewN n).cell? ⟨L.wb,k,none⟩=(WM.cells {L with nv:=.pointer none,db:=g} {c with calls:=c.calls+1})[k]?:=fun n=>(I.out.CY.drewN n).cell;have c5:∀ n k,(a8.drewN n).frozen? ⟨L.wb,k,none⟩=false:=fun n=>(I.out.CY.drewN n).frozen;simp only[WM.cells] at c2;have k4:=Z (fun n=>ZZ (a8.drewN n) g X.LD d (f9.nil ((O _ _).drewN n)));have i3:decide (d.refused<d.refused)=false:=by simp
   have e6:¬d.refused<d.refused:=by simp
   clear e2 g5 f9 o4
   go_quiet ((go_at_call 47;exact Ff (k4.out _)))
   have g0:=I.out.nil ((O Nil a8).drewN nq);have j1:=a4.out.drewN nq;have f4:=Z g0;have f0:=Z j1;have g2:=c2 nq;have c6:=c5 nq;clear c2 c5 m2 k4 i3 e6 g0 j1;generalize a8.drewN nq=o8 at f4 f0 g2 c6 |-;obtain⟨g1,g4⟩:=f4.out.yb (.pointer (some ⟨X.nb,0,none⟩));have b9:=WStep.set g1 8 (.bool false) (L':={L with nv:=.pointer (some ⟨X.nb,0,none⟩),db:=g}) (W':={c with calls:=c.calls+1,broken:=false}) (by simp[WM.cells]) rfl rfl rfl rfl rfl rfl rfl rfl rfl rfl rfl rfl rfl;have c0:=b9.trans (WStep.set b9.CZ 9 (.int .i64 (sy:Nat)) (L':={L with nv:=.pointer (some ⟨X.nb,0,none⟩),db:=g}) (W':={c with calls:=c.calls+1,broken:=false,every:=sy}) (by simp[WM.cells]) rfl rfl rfl rfl rfl rfl rfl rfl rfl rfl rfl rfl rfl);have c1:=c0.trans (WStep.set c0.CZ 10 (.int .i64 0) (L':={L with nv:=.pointer (some ⟨X.nb,0,none⟩),db:=g}) (W':={c with calls:=c.calls+1,broken:=false,every:=sy,writes:=0}) (by simp[WM.cells]) rfl rfl rfl rfl rfl rfl rfl rfl rfl rfl rfl rfl rfl);have j3:=(f0.out.trans' (S':=WFoot L) (g4.mono (fun k _ e=>.inl e)) (fun _ _ e=>e)).trans' (S':=WFoot L) c1.fr (fun _ _ e=>e);have f1:=Z c1;have N:=Z j3;clear g1 g4 b9 c0 c1 j3;go_wp2_with fail;generalize (((o8.setCell ⟨L.wb,5,none⟩ (.pointer (some ⟨X.nb,0,none⟩))).setCell ⟨L.wb,8,none⟩ (.bool false)).setCell ⟨L.wb,9,none⟩ (.int .i64 (sy:Nat))).setCell ⟨L.wb,10,none⟩ (.int .i64 0)=j0 at f1 N |-;clear g2 c6;have e5:∀ k,NFoot X d k->w1.heap.size<=k:=fun k l=>(k0.out k l).elim (v.out k) (fun e=>IP (IP Q.out.size r.out.size) e);have c8:∀ k,WFoot L k->B<=k:=fun k e=>b3.out k (.inl e);have a1:Play K B j0 {L with nv:=.pointer (some ⟨X.nb,0,none⟩),db:=g} {c with calls:=c.calls+1,broken:=false,every:=sy,writes:=0} X (NM.opened nd sg sy J) d :=
    {Bi:=f1.out.CZ
     node:=d8.out.fr N.out (fun k l hf=>d9.out.node d8.out hf l) (fun k l=>d9.out.read d8.out l)
     env:=⟨((a0.out.fr (IP C.out Q.out.size) E.out (fun k e=>IP C.out (v.out k e))).fr (IP (IP C.out Q.out.size) E.out.size) N.out c8).1,IP C.out (IP Q.out.size (IP E.out.size N.out.size)),fun k l=>IP C.out (e5 k l)⟩
     nv:=rfl
     db:=e9.out.symm
     sep:=fun k l hf=>by have:=h2.out k l;have:=e5 k hf;have:=a.out.fr.size;omega
     low:=c8}
   obtain⟨i,m,mo,m',hi,hT,m5,l8,m4⟩:=Sh.found G.out.2.1 G.out.1 G.out.2.2 nd sg sy k3.out.1 k3.out.2 _ rfl;have e3:=G.out.2.1.cm;have e7:=G.out.2.1.yr;have i2:=e3.len;have h9:=e3.calls;have m1:=e7.keys;have m0:=e7.held.hlen;have i6:L.ps.length=c.st.length:=a1.Bi.Ao;refine(Ie K B _ _ X _ d j0 a1 (by show L.ps.length<_;omega) (fun m hm=>(e3.Af m hm).xd (by omega)) (by show(Zj J).keys.length<_;omega) (by show(Zj J).hints.length<_;omega) e7.held (by show c.calls+1<_;omega) i m m' mo hi hT m5 l8).mono ?_;rintro e o9 ⟨rfl,n8,n9,g8,c9⟩;have HP:=Z (And.intro g8 (And.intro c9 m4));have k1:=Z e5;clear a1 g8 e5 c9 m4 hi hT m5 l8 e3 e7 i2 h9 m1 m0 i6 c8;go_wp2_with fail;go_ret;have j2:Fr (WFoot L) w1 j0:=(Q.out.trans' E.out (fun i hi e=>by have:=v.out i e;omega)).trans N.out;have n3:Fr (WFoot L) w1 o9:=j2.trans' HP.out.1.fr (fun i hi e=>e.elim id (fun e=>by have:=k1.out i e;omega));refine⟨rfl,a.out.fr.trans' n3 (fun k _ e=>.inl e),.inl ⟨n8,n9,_,X,_,d,⟨HP.out.1.CZ,⟨_,_,HP.out.2.2⟩,HP.out.2.1⟩,HP.out.1.wb,HP.out.1.tv,fun k l=>?_⟩⟩;rcases HP.out.1.BA k l with(e|e)|e
   .exact .inl (.inl e)
   .exact .inr (IP a.out.fr.size (k1.out k e))
   .exact .inr (IP a.out.fr.size (IP j2.size e))
theorem Ih(L:WL)(o:OpM)(w:World)(k:o.kind=12)(Q:World->Prop)
 (i:∀ p,Fr Nil w p->Calls Tryz.prog 52 #[.pointer (some ⟨L.wb,0,none⟩),.int .i64 o.a,o.BN] p fun e j=>e=.returned (.tuple #[])/\Q j) :
 Calls Tryz.prog 18 #[.pointer (some ⟨L.wb,0,none⟩),.agg o.cells.toArray] w fun e j=>e=.returned (.bool true)/\Q j:=by
 obtain⟨m,a,b,c,key,f,v,d⟩:=o;simp only at k;subst k;simp only[OpM.cells,Ver.cells,IY,Hd] at i |-;have h:Fr Nil w (w.alloc (.cells #[.int .i64 12,.int .i64 a,.int .i64 b,.int .i64 c,.string key,.string f,.int .i64 v.node,.int .i64 v.seq,.int .i64 v.o0,.int .i64 v.o1,.int .i64 v.o2,.int .i64 v.o3,.string v.value,.bool v.gone,d] 39)):=(O _ _).alloc _;have g:=Blk.new w [.int .i64 12,.int .i64 a,.int .i64 b,.int .i64 c,.string key,.string f,.int .i64 v.node,.int .i64 v.seq,.int .i64 v.o0,.int .i64 v.o1,.int .i64 v.o2,.int .i64 v.o3,.string v.value,.bool v.gone,d] 39;have t:=g.cell;have r:=Z h;have q:=Z (i _ h);clear h g i;go_enter Ew,Ek
 go_wp2_with (refine q.out.mono ?_;rintro e u ⟨rfl,l⟩;have s:=Z l;clear l)
 go_ret;exact⟨rfl,s.out⟩
theorem VN(L:WL)(o:OpM)(w:World)(l:o.kind=13\/o.kind=14)(Q:World->Prop)
 (j:∀ p,Fr Nil w p->Calls Tryz.prog 60 #[.pointer (some ⟨L.wb,0,none⟩),.agg o.cells.toArray] p fun e k=>e=.returned (.tuple #[])/\Q k) :
 Calls Tryz.prog 18 #[.pointer (some ⟨L.wb,0,none⟩),.agg o.cells.toArray] w fun e k=>e=.returned (.bool true)/\Q k:=by
 obtain⟨f,a,b,c,key,g,v,d⟩:=o;simp only at l;simp only[OpM.cells,Ver.cells,IY,Hd] at j |-;have i:Fr Nil w (w.alloc (.cells #[.int .i64 f,.int .i64 a,.int .i64 b,.int .i64 c,.string key,.string g,.int .i64 v.node,.int .i64 v.seq,.int .i64 v.o0,.int .i64 v.o1,.int .i64 v.o2,.int .i64 v.o3,.string v.value,.bool v.gone,d] 39)):=(O _ _).alloc _;have h:=Blk.new w [.int .i64 f,.int .i64 a,.int .i64 b,.int .i64 c,.string key,.string g,.int .i64 v.node,.int .i64 v.seq,.int .i64 v.o0,.int .i64 v.o1,.int .i64 v.o2,.int .i64 v.o3,.string v.value,.bool v.gone,d] 39;have t:=h.cell;have r:=Z i;have q:=Z (j _ i);clear i h j;rcases l with rfl|rfl
 all_goals
  go_enter Ew,Ek
  go_wp2_with (refine q.out.mono ?_;rintro e u ⟨rfl,m⟩;have s:=Z m;clear m)
  go_ret;exact⟨rfl,s.out⟩
def InR(x:Int):Prop:=-9223372036854775808<=x/\x<=9223372036854775807
def Uo(w:World)(v:Value):Prop:=∃ l,Ya w v l/\∀ x,x∈l->InR x
structure Wk(w:World)(o:OpM):Prop where
 a:InR o.a
 b:InR o.b
 BN:Uo w o.BN
theorem Ya.own{w:World}{v:Value}{l:List Int}(h:Ya w v l):∀ k,l≠[]->v.ownBlock=some k->k<w.heap.size:=fun k a e=>by
 rcases h with⟨_,i⟩|⟨g,j,c,rfl,m,_⟩
 .exact absurd i a
 .simp[Value.ownBlock] at e;omega
theorem Ya.form{w:World}{v:Value}{l:List Int}(h:Ya w v l):∃ a n c,v=.slice a n c:=by
 rcases h with⟨⟨a,c,rfl⟩,_⟩|⟨g,d,b,rfl,_⟩
 .exact⟨_,_,_,rfl⟩
 .exact⟨_,_,_,rfl⟩
end Go.Proofs.YtkhnggkkiefcdaaGreatDoor
