/- larder: joined texts -/
import Derived.Test.YtkhnggkkiefcdaaGreatDoorSFAL
import Derived.Test.YtkhnggkkiefcdaaGreatDoorSFAU
import Derived.Test.YtkhnggkkiefcdaaGreatDoorSFAX
namespace Go.Proofs.YtkhnggkkiefcdaaGreatDoor
open Go.RowKit
set_option maxRecDepth 100000
set_option maxHeartbeats 8000000
structure Lv(K:Nat->Prop)(B:Nat)(w:World)(L:WL)(W:WM)(X:NL)(N:NM)(M:DM)(t:Nat):Prop where
 Ae:Play K B w L W X N M
 inv:∃ F p,NI W N M F p t
 ps:L.ps≠[]
structure Cl(K:Nat->Prop)(w:World)(L:WL)(W:WM)(LD:DL)(M:DM)(t:Nat):Prop where
 Bi:WAt K w L W
 Bz:DRep w L.db LD M
 sep:∀ k,K k->¬Foot L.db LD M k
 inv:∃ F p,Sh W M F p t
 ps:L.ps≠[]
 nv:L.nv=.pointer none
def Nx(B:Nat)(P:Nat->Prop)(g:Nat)(f:Value)(w:World)(t:Nat)(d:World):Prop :=
 Fr P w d/\((∃ c L' W' e h b,Lv c B d L' W' e h b t/\L'.wb=g/\L'.tv=f/\∀ k,PFoot L' e b k->P k\/w.heap.size<=k) \/
  (∃ c L' W' a b,Cl c d L' W' a b t/\L'.wb=g/\L'.tv=f/\(∀ k,WFoot L' k->P k\/w.heap.size<=k)/\∀ k,Foot L'.db a b k->P k\/w.heap.size<=k))
theorem Nx.live{K e:Nat->Prop}{B:Nat}{L a:WL}{d:WM}{X f:NL}{M b:DM}{c:NM}{w g:World}{t:Nat}(h:PStep K B L X M w e a d f c b g)(i:∃ F p,NI d c b F p t)(j:a.ps≠[]):Nx B (PFoot L X M) L.wb L.tv w t g :=
 ⟨h.fr,.inl ⟨e,a,d,f,c,b,⟨h.CZ,i,j⟩,h.wb,h.tv,h.BA⟩⟩
theorem Nx.gone{K c:Nat->Prop}{B:Nat}{L L' g:WL}{W' d:WM}{X f:NL}{M a:DM}{r:NM}{w o q:World}{t:Nat}(h:PStep K B L X M w c L' W' f r a o)(k:Off c L' f a o g d q)(m:∃ F p,Sh d a F p t):Nx B (PFoot L X M) L.wb L.tv w t q:=by
 refine⟨h.fr.trans' k.fr (fun i m e=>(h.BA i e).resolve_right (by omega)),.inr ⟨c,g,d,f.LD,a,⟨k.CZ,k.Bz,k.sep,m,k.ps,k.nv⟩,k.wb.trans h.wb,k.tv.trans h.tv,fun i e=>?_,fun i e=>?_⟩⟩
 .exact(k.BA i e).elim (h.BA i) (fun e=>.inr (IP h.fr.size e))
 .rw[k.db] at e
  exact h.BA i (.inr (.inr (.inr (.inr e))))
theorem Aft.held{W:WM}{x:LM}{M:DM}{e:Option Int}{N':NM}{z:DM}{g:Nat}(h:Aft W x M e N' z g):Zm N'.S/\N'.S.keys.length<=g:=by
 obtain⟨d,y,q,_,_,A⟩:=h.body;have b:=q.le;have a:N'.S=atF d d.length:=q.held;have key:∀ (st:List LM) (t:Nat),(∀ m∈st,MOk W.node m g)->Hist st d y True->Zu W.node W.calls t d y->Zm N'.S/\N'.S.keys.length<=g:=fun st t hm B l=>by
  obtain⟨L,o,hrel,_⟩:=B.last b;have c:=l d.length b (IQ _);rw[<- a] at c hrel;exact⟨c.1,by rw[<- hrel.1];exact(hm L (Fv o)).keys⟩
 rcases A with⟨j,k⟩|⟨_,⟨j,k⟩|⟨n,⟨T,x0,V,C,r,D,l,_⟩,X⟩⟩
 .exact key _ _ (fun m hm=>by
   rcases Hh.1 hm with hm|hm
   .exact h.cm.Af m hm
   .rw[IZ] at hm;subst hm;exact h.Af) j k
 .exact key _ _ h.cm.Af j k
 .have c:=l d.length b (IQ _)
  rw[<- a] at c r;refine⟨c.1,?_⟩;obtain⟨K,key,v,s,Y,k3,k4,k5,E,I,k8⟩:=r;have f:N'.S.keys.length=x.keys.length:=by
   rw[E,I,Zo key _ s,Zo key _ s];simp only[Eu,Gj,Y0,IM,IU]
  rw[f];exact h.Af.keys
theorem MOk.xd{node:Int}{m:LM}{t:Nat}(h:MOk node m t)(b:t<=10000000):Y1 m.keys/\m.keys.length<100000000/\(∀ e∈m.keys,e.2.length<100000)/\m.hints.length<1000000 :=
 ⟨h.Al,by have:=h.keys;omega,fun e a=>by have:=h.lens e a;omega,by have:=h.hints;omega⟩
theorem WM.yE{W:WM}{M:DM}{t:Nat}(a:Bd M t)(j:t<=1000000000)(b:M.room=W.Ap)(h:M.room<M.BG+2000):¬(2000:Int)<=W.free M:=by
 have f:=a.BG;have g:=a.r0;have i:=a.r1;have c:M.used=M.BG:=M.AK (by omega);have e:(if W.room<0 then 1152921504606846976 else W.room)=M.room:=b.symm;unfold WM.free;rw[e,c];have d:IntKind.i64.wrap (M.room-(M.BG:Int))=M.room-(M.BG:Int):=by rw[Hr];omega
 rw[d];omega
theorem Jz(V K:Nat->Prop)(B:Nat)(d:WL)(u:NL)(a:DM)(E:World)(L:WL)(W:WM)(X:NL)(N:NM)(M:DM)(w:World)(q:Nat)(s:LM)(e:Option Int)(S t:Nat)(fr:Int)
 (hs:PStep V B d u a E K L W X N M w)(f:L.ps≠[])(Q:MRep K w q s)(y:q≠L.ps[L.ps.length-1]'(by have:=FD.2 f;omega))(b:Aft W s a e N M t)(ht:t<=900000)(hb:Bd a S)(a1:S<=1000000)(A:a.room=W.Ap)(he:e=none\/e=some 9\/e=some 10)(v:fr=W.free a) :
 Calls Tryz.prog 110 #[.pointer (some ⟨L.wb,0,none⟩),.pointer (some ⟨q,0,none⟩),.int .i64 (Zy e),.agg #[.int .i64 a.refused,.int .i64 a.Bb],.int .i64 fr] w fun e i=>e=.returned (.bool true)/\Nx B (PFoot d u a) d.wb d.tv E t i:=by
 have J:=FD.2 f;have m:=hs.CZ.Bi.Ao;have G:=b.len;have a2:=b.ww;rcases b.BX with⟨rfl,o,h2,h3⟩|⟨o,R⟩
 .have hc:=LW K L W X.LD M q s fr a.Bb w hs.CZ.Bi hs.CZ.marks J (by omega) Q y (by omega)
  rw[o] at hc;refine hc.mono ?_;rintro e i ⟨rfl,F,C,c⟩;exact⟨rfl,Nx.live (hs.trans (hs.CZ.turn C)) b.BS c⟩
 .obtain⟨x,rfl⟩:∃ x,e=some x:=by rcases R with⟨e,_⟩|⟨e,_⟩ <;> exact⟨_,e⟩
  have j:Zy (some x)=x:=rfl;have D:(x=9/\M.refused=a.refused+1/\M.Bb=a.Bb)\/(x=10/\M.refused=a.refused+1/\M.Bb=a.Bb+1):=by
   rcases R with⟨e,h⟩|⟨e,h,_⟩
   .exact .inl ⟨Hl e,o,h⟩
   .exact .inr ⟨Hl e,o,h⟩
  have I:W.st[L.ps.length-1]?=some (W.st[L.ps.length-1]'(by omega)):=IW _;have z:MOk W.node (W.st[L.ps.length-1]'(by omega)) t:=b.cm.Af _ (IX _);have k:=b.held;have p:=b.cm.calls;have a0:=k.1.hlen;rw[j];refine Ib K B L W X N M q s _ x a.refused a.Bb fr w hs.CZ J (by omega) Q I D ?_ (fun l r=>?_) (by omega) (by omega) k.1 (by omega) (fun i=>Nx B (PFoot d u a) d.wb d.tv E t i) ?_ ?_ ?_
  .rintro⟨rfl,h⟩
   rw[v] at h;exact WM.yE hb (by omega) A (b.full rfl) h
  .rcases HY.1 r with rfl|r
   .exact b.Af.xd (by omega)
   .rw[IZ] at r
    rw[r];exact z.xd (by omega)
  .intro hd F i ho
   exact Nx.gone hs ho (b.gone hd)
  .intro hd m' hm' T F i c g
   exact Nx.live (hs.trans g) ((b.told hd).1 m' hm') c
  .intro hd hno
   obtain⟨Y,h5⟩:=(b.told hd).2 hno;obtain⟨h6,h7⟩:=h5 _ (by rw[<- m];exact I);exact⟨Y,_,h6,fun T i g=>Nx.live (hs.trans g) h7 f⟩
theorem WAt.yU{K:Nat->Prop}{w:World}{L:WL}{W:WM}(h:WAt K w L W)(b:Nat):WAt K (w.setCell ⟨L.wb,4,none⟩ (.pointer (some ⟨b,0,none⟩))) {L with db:=b} W/\Fr (fun k=>k=L.wb) w (w.setCell ⟨L.wb,4,none⟩ (.pointer (some ⟨b,0,none⟩))):=by
 have f:Fr (fun k=>k=L.wb) w (w.setCell ⟨L.wb,4,none⟩ (.pointer (some ⟨b,0,none⟩))):=Fr.set (S:=fun k=>k=L.wb) (p:=⟨L.wb,4,none⟩) (O _ _) (fun _=>rfl) _;refine⟨h.own (L':={L with db:=b}) (W':=W) ?_ f rfl rfl rfl rfl rfl rfl rfl rfl rfl rfl rfl,f⟩;have:=h.CY.set 4 (.pointer (some ⟨b,0,none⟩))
 simpa [WM.cells] using this
theorem WAt.yb{K:Nat->Prop}{w:World}{L:WL}{W:WM}(h:WAt K w L W)(v:Value):WAt K (w.setCell ⟨L.wb,5,none⟩ v) {L with nv:=v} W/\Fr (fun k=>k=L.wb) w (w.setCell ⟨L.wb,5,none⟩ v):=by
 have f:Fr (fun k=>k=L.wb) w (w.setCell ⟨L.wb,5,none⟩ v):=Fr.set (S:=fun k=>k=L.wb) (p:=⟨L.wb,5,none⟩) (O _ _) (fun _=>rfl) _;refine⟨h.own (L':={L with nv:=v}) (W':=W) ?_ f rfl rfl rfl rfl rfl rfl rfl rfl rfl rfl rfl,f⟩;have:=h.CY.set 5 v
 simpa [WM.cells] using this
def RFoot(L:WL)(a:DL)(M:DM)(k:Nat):Prop:=WFoot L k\/Foot L.db a M k
theorem M8(K:Nat->Prop)(L:WL)(W:WM)(m:DL)(M:DM)(ss:List Seg)(p t:Nat)(b:Int)(a:List Int)(tv:Value)(w:World)(h:WAt K w L W)(F:DRep w L.db m M)(l:∀ k,K k->¬Foot L.db m M k)(G:-9223372036854775808<=b)(I:b<=9223372036854775807)
 (z:Ya w tv a)(A:∀ k,a≠[]->tv.ownBlock=some k->¬Foot L.db m M k)(B:∀ x,x∈a->-9223372036854775808<=x/\x<=9223372036854775807)(T:Lg M ss p t)(ht:t<=900000) :
 Calls Tryz.prog 52 #[.pointer (some ⟨L.wb,0,none⟩),.int .i64 b,tv] w fun e N=>e=.returned (.tuple #[])/\∃ i,WAt K N {L with nv:=.pointer none} {W with Ac:=true}/\DRep N L.db i (M.BT b a)/\Fr (RFoot L m M) w N/\∀ k,Foot L.db i (M.BT b a) k->Foot L.db m M k\/w.heap.size<=k:=by
 have C:=T.bd;have S:=C.Bj;have u:=h.CY.cell;simp only[WM.cells] at u;have D:=Z (Nl b a tv w L.db m M F G I z A B (fun f X=>by have:=C.file X;omega) (by omega) (fun d J=>by have:=C.Bu d J;omega));have R:=Z h;have V:=Z F;have q:=Z l;clear h F l z A B C T;go_enter Tryz.func52,Tryz.ntmps52;go_wp2_with fail;refine D.out.mono ?_;rintro e w1 ⟨rfl,i,hs⟩;have g:=R.out.fr hs.fr (fun k y e=>R.out.Bz V.out y e) q.out;obtain⟨s,o⟩:=g.yb (.pointer none);have j:=WStep.set s 7 (.bool true) (L':={L with nv:=.pointer none}) (W':={W with Ac:=true}) (by simp[WM.cells]) rfl rfl rfl rfl rfl rfl rfl rfl rfl rfl rfl rfl rfl;have Q:=(hs.fr.mono (S':=RFoot L m M) (fun k _ e=>.inr e)).trans' ((o.mono (S':=WFoot L) (fun k _ e=>.inl e)).trans' (S':=WFoot L) j.fr (fun k _ e=>e)) (fun k _ e=>.inl e);have r:=(hs.CZ.fr o (fun k y e=>g.Bz hs.CZ (.inl e) y)).fr j.fr (fun k y e=>g.Bz hs.CZ e y);have c:=Z (And.intro j.CZ (And.intro r (And.intro Q hs.BA)));have E:=g.CY.cell;have Y:=g.CY.frozen;simp only[WM.cells] at E;clear u hs g s o j Q r;go_wp2_with fail;exact GC (v:=.tuple #[]) (by simp[results,go_sem]) rfl ⟨rfl,i,c.out.1,c.out.2.1,c.out.2.2.1,c.out.2.2.2⟩
theorem SX(F:FuncId)(K:Nat->Prop)(L:WL)(W:WM)(r:Nat)(o:OpM)(w:World)(h:WAt K w L W)(j:L.nv=.pointer (some ⟨r,0,none⟩))(p:o.kind=2/\F=61\/o.kind=3/\F=61\/o.kind=4/\F=62)(Q:World->Prop)
 (l:∀ s,Fr Nil w s->Calls Tryz.prog F #[.pointer (some ⟨L.wb,0,none⟩),.agg o.cells.toArray] s fun e m=>e=.returned (.bool true)/\Q m) :
 Calls Tryz.prog 18 #[.pointer (some ⟨L.wb,0,none⟩),.agg o.cells.toArray] w fun e m=>e=.returned (.bool true)/\Q m:=by
 obtain⟨f,a,b,c,key,g,v,d⟩:=o;simp only at p;simp only[OpM.cells,Ver.cells,IY,Hd] at l |-;have k:Fr Nil w (w.alloc (.cells #[.int .i64 f,.int .i64 a,.int .i64 b,.int .i64 c,.string key,.string g,.int .i64 v.node,.int .i64 v.seq,.int .i64 v.o0,.int .i64 v.o1,.int .i64 v.o2,.int .i64 v.o3,.string v.value,.bool v.gone,d] 39)):=(O _ _).alloc _;have i:=Blk.new w [.int .i64 f,.int .i64 a,.int .i64 b,.int .i64 c,.string key,.string g,.int .i64 v.node,.int .i64 v.seq,.int .i64 v.o0,.int .i64 v.o1,.int .i64 v.o2,.int .i64 v.o3,.string v.value,.bool v.gone,d] 39;have z:(w.alloc (.cells #[.int .i64 f,.int .i64 a,.int .i64 b,.int .i64 c,.string key,.string g,.int .i64 v.node,.int .i64 v.seq,.int .i64 v.o0,.int .i64 v.o1,.int .i64 v.o2,.int .i64 v.o3,.string v.value,.bool v.gone,d] 39)).cell? ⟨L.wb,5,none⟩=some (.pointer (some ⟨r,0,none⟩)):=by rw[<- j];exact(h.nil k).CY.cell 5
 have y:=i.cell;have u:=Z k;have t:=Z (l _ k);clear h k i l j;rcases p with⟨rfl,rfl⟩|⟨rfl,rfl⟩|⟨rfl,rfl⟩
 all_goals
  go_enter Ew,Ek
  go_wp2_with (refine t.out.mono ?_;rintro e A ⟨rfl,q⟩;have x:=Z q;clear q)
  go_ret;exact⟨rfl,x.out⟩
theorem SY(F:FuncId)(K:Nat->Prop)(L:WL)(W:WM)(r:Nat)(o:OpM)(w:World)(h:WAt K w L W)(j:L.nv=.pointer (some ⟨r,0,none⟩))(p:o.kind=7/\F=63\/o.kind=9/\F=63\/o.kind=11/\F=64)(Q:World->Prop)
 (l:∀ s,Fr Nil w s->Calls Tryz.prog F #[.pointer (some ⟨L.wb,0,none⟩),.agg o.cells.toArray] s fun e m=>e=.returned (.bool true)/\Q m) :
 Calls Tryz.prog 18 #[.pointer (some ⟨L.wb,0,none⟩),.agg o.cells.toArray] w fun e m=>e=.returned (.bool true)/\Q m:=by
 obtain⟨f,a,b,c,key,g,v,d⟩:=o;simp only at p;simp only[OpM.cells,Ver.cells,IY,Hd] at l |-;have k:Fr Nil w (w.alloc (.cells #[.int .i64 f,.int .i64 a,.int .i64 b,.int .i64 c,.string key,.string g,.int .i64 v.node,.int .i64 v.seq,.int .i64 v.o0,.int .i64 v.o1,.int .i64 v.o2,.int .i64 v.o3,.string v.value,.bool v.gone,d] 39)):=(O _ _).alloc _;have i:=Blk.new w [.int .i64 f,.int .i64 a,.int .i64 b,.int .i64 c,.string key,.string g,.int .i64 v.node,.int .i64 v.seq,.int .i64 v.o0,.int .i64 v.o1,.int .i64 v.o2,.int .i64 v.o3,.string v.value,.bool v.gone,d] 39;have z:(w.alloc (.cells #[.int .i64 f,.int .i64 a,.int .i64 b,.int .i64 c,.string key,.string g,.int .i64 v.node,.int .i64 v.seq,.int .i64 v.o0,.int .i64 v.o1,.int .i64 v.o2,.int .i64 v.o3,.string v.value,.bool v.gone,d] 39)).cell? ⟨L.wb,5,none⟩=some (.pointer (some ⟨r,0,none⟩)):=by rw[<- j];exact(h.nil k).CY.cell 5
 have y:=i.cell;have u:=Z k;have t:=Z (l _ k);clear h k i l j;rcases p with⟨rfl,rfl⟩|⟨rfl,rfl⟩|⟨rfl,rfl⟩
 all_goals
  go_enter Ew,Ek
  go_wp2_with (refine t.out.mono ?_;rintro e A ⟨rfl,q⟩;have x:=Z q;clear q)
  go_ret;exact⟨rfl,x.out⟩
theorem M9(F:FuncId)(K:Nat->Prop)(L:WL)(W:WM)(r:Nat)(o:OpM)(w:World)(h:WAt K w L W)(j:L.nv=.pointer (some ⟨r,0,none⟩))(p:o.kind=5/\F=65\/o.kind=6/\F=65)(Q:World->Prop)
 (l:∀ s,Fr Nil w s->Calls Tryz.prog F #[.pointer (some ⟨L.wb,0,none⟩),.agg o.cells.toArray] s fun e m=>e=.returned (.bool true)/\Q m) :
 Calls Tryz.prog 18 #[.pointer (some ⟨L.wb,0,none⟩),.agg o.cells.toArray] w fun e m=>e=.returned (.bool true)/\Q m:=by
 obtain⟨f,a,b,c,key,g,v,d⟩:=o;simp only at p;simp only[OpM.cells,Ver.cells,IY,Hd] at l |-;have k:Fr Nil w (w.alloc (.cells #[.int .i64 f,.int .i64 a,.int .i64 b,.int .i64 c,.string key,.string g,.int .i64 v.node,.int .i64 v.seq,.int .i64 v.o0,.int .i64 v.o1,.int .i64 v.o2,.int .i64 v.o3,.string v.value,.bool v.gone,d] 39)):=(O _ _).alloc _;have i:=Blk.new w [.int .i64 f,.int .i64 a,.int .i64 b,.int .i64 c,.string key,.string g,.int .i64 v.node,.int .i64 v.seq,.int .i64 v.o0,.int .i64 v.o1,.int .i64 v.o2,.int .i64 v.o3,.string v.value,.bool v.gone,d] 39;have z:(w.alloc (.cells #[.int .i64 f,.int .i64 a,.int .i64 b,.int .i64 c,.string key,.string g,.int .i64 v.node,.int .i64 v.seq,.int .i64 v.o0,.int .i64 v.o1,.int .i64 v.o2,.int .i64 v.o3,.string v.value,.bool v.gone,d] 39)).cell? ⟨L.wb,5,none⟩=some (.pointer (some ⟨r,0,none⟩)):=by rw[<- j];exact(h.nil k).CY.cell 5
 have y:=i.cell;have u:=Z k;have t:=Z (l _ k);clear h k i l j;rcases p with⟨rfl,rfl⟩|⟨rfl,rfl⟩
 all_goals
  go_enter Ew,Ek
  go_wp2_with (refine t.out.mono ?_;rintro e A ⟨rfl,q⟩;have x:=Z q;clear q)
  go_ret;exact⟨rfl,x.out⟩
theorem Ma(F:FuncId)(K:Nat->Prop)(L:WL)(W:WM)(r:Nat)(o:OpM)(w:World)(h:WAt K w L W)(j:L.nv=.pointer (some ⟨r,0,none⟩))(p:o.kind=8/\F=65\/o.kind=10/\F=65)(Q:World->Prop)
 (l:∀ s,Fr Nil w s->Calls Tryz.prog F #[.pointer (some ⟨L.wb,0,none⟩),.agg o.cells.toArray] s fun e m=>e=.returned (.bool true)/\Q m) :
 Calls Tryz.prog 18 #[.pointer (some ⟨L.wb,0,none⟩),.agg o.cells.toArray] w fun e m=>e=.returned (.bool true)/\Q m:=by
 obtain⟨f,a,b,c,key,g,v,d⟩:=o;simp only at p;simp only[OpM.cells,Ver.cells,IY,Hd] at l |-;have k:Fr Nil w (w.alloc (.cells #[.int .i64 f,.int .i64 a,.int .i64 b,.int .i64 c,.string key,.string g,.int .i64 v.node,.int .i64 v.seq,.int .i64 v.o0,.int .i64 v.o1,.int .i64 v.o2,.int .i64 v.o3,.string v.value,.bool v.gone,d] 39)):=(O _ _).alloc _;have i:=Blk.new w [.int .i64 f,.int .i64 a,.int .i64 b,.int .i64 c,.string key,.string g,.int .i64 v.node,.int .i64 v.seq,.int .i64 v.o0,.int .i64 v.o1,.int .i64 v.o2,.int .i64 v.o3,.string v.value,.bool v.gone,d] 39;have z:(w.alloc (.cells #[.int .i64 f,.int .i64 a,.int .i64 b,.int .i64 c,.string key,.string g,.int .i64 v.node,.int .i64 v.seq,.int .i64 v.o0,.int .i64 v.o1,.int .i64 v.o2,.int .i64 v.o3,.string v.value,.bool v.gone,d] 39)).cell? ⟨L.wb,5,none⟩=some (.pointer (some ⟨r,0,none⟩)):=by rw[<- j];exact(h.nil k).CY.cell 5
 have y:=i.cell;have u:=Z k;have t:=Z (l _ k);clear h k i l j;rcases p with⟨rfl,rfl⟩|⟨rfl,rfl⟩
 all_goals
  go_enter Ew,Ek
  go_wp2_with (refine t.out.mono ?_;rintro e A ⟨rfl,q⟩;have x:=Z q;clear q)
  go_ret;exact⟨rfl,x.out⟩
theorem Ld(K:Nat->Prop)(L:WL)(W:WM)(G:Nat)(o:OpM)(w:World)(h:WAt K w L W)(r:L.nv=.pointer (some ⟨G,0,none⟩))(F:o.kind≠1/\o.kind≠12/\o.kind≠13/\o.kind≠14/\o.kind≠2/\o.kind≠3/\o.kind≠4/\o.kind≠7/\o.kind≠9/\o.kind≠11/\o.kind≠15/\o.kind≠5/\o.kind≠6/\o.kind≠8/\o.kind≠10) :
 Calls Tryz.prog 18 #[.pointer (some ⟨L.wb,0,none⟩),.agg o.cells.toArray] w fun e V=>e=.returned (.bool true)/\Fr Nil w V:=by
 obtain⟨d,a,b,c,key,g,v,f⟩:=o;simp only at F;obtain⟨u,k,l,m,x,y,z,C,E,j,p,A,B,D,i⟩:=F;have X:(d==1)=false:=by simp[u]
 have M:(d==12)=false:=by simp[k]
 have N:(d==13)=false:=by simp[l]
 have Q:(d==14)=false:=by simp[m]
 have Y:(d==2)=false:=by simp[x]
 have e3:(d==3)=false:=by simp[y]
 have e4:(d==4)=false:=by simp[z]
 have e7:(d==7)=false:=by simp[C]
 have e9:(d==9)=false:=by simp[E]
 have J:(d==11)=false:=by simp[j]
 have R:(d==15)=false:=by simp[p]
 have e5:(d==5)=false:=by simp[A]
 have e6:(d==6)=false:=by simp[B]
 have e8:(d==8)=false:=by simp[D]
 have I:(d==10)=false:=by simp[i]
 simp only[OpM.cells,Ver.cells,IY,Hd];have t:Fr Nil w (w.alloc (.cells #[.int .i64 d,.int .i64 a,.int .i64 b,.int .i64 c,.string key,.string g,.int .i64 v.node,.int .i64 v.seq,.int .i64 v.o0,.int .i64 v.o1,.int .i64 v.o2,.int .i64 v.o3,.string v.value,.bool v.gone,f] 39)):=(O _ _).alloc _;have q:=Blk.new w [.int .i64 d,.int .i64 a,.int .i64 b,.int .i64 c,.string key,.string g,.int .i64 v.node,.int .i64 v.seq,.int .i64 v.o0,.int .i64 v.o1,.int .i64 v.o2,.int .i64 v.o3,.string v.value,.bool v.gone,f] 39;have T:(w.alloc (.cells #[.int .i64 d,.int .i64 a,.int .i64 b,.int .i64 c,.string key,.string g,.int .i64 v.node,.int .i64 v.seq,.int .i64 v.o0,.int .i64 v.o1,.int .i64 v.o2,.int .i64 v.o3,.string v.value,.bool v.gone,f] 39)).cell? ⟨L.wb,5,none⟩=some (.pointer (some ⟨G,0,none⟩)):=by rw[<- r];exact(h.nil t).CY.cell 5
 have S:=q.cell;have s:=Z t;clear h t q r u k l m x y z C E j p A B D i;go_enter Ew,Ek;go_wp2_with fail;go_ret;exact⟨rfl,s.out⟩
theorem Nv(K:Nat->Prop)(L:WL)(W:WM)(o:OpM)(w:World)(h:WAt K w L W)(m:L.nv=.pointer none)(s:o.kind≠1/\o.kind≠12/\o.kind≠13/\o.kind≠14) :
 Calls Tryz.prog 18 #[.pointer (some ⟨L.wb,0,none⟩),.agg o.cells.toArray] w fun e A=>e=.returned (.bool true)/\Fr Nil w A:=by
 obtain⟨d,a,b,c,key,g,v,f⟩:=o;simp only at s;obtain⟨r,i,j,k⟩:=s;have B:(d==1)=false:=by simp[r]
 have t:(d==12)=false:=by simp[i]
 have u:(d==13)=false:=by simp[j]
 have x:(d==14)=false:=by simp[k]
 simp only[OpM.cells,Ver.cells,IY,Hd];have q:Fr Nil w (w.alloc (.cells #[.int .i64 d,.int .i64 a,.int .i64 b,.int .i64 c,.string key,.string g,.int .i64 v.node,.int .i64 v.seq,.int .i64 v.o0,.int .i64 v.o1,.int .i64 v.o2,.int .i64 v.o3,.string v.value,.bool v.gone,f] 39)):=(O _ _).alloc _;have l:=Blk.new w [.int .i64 d,.int .i64 a,.int .i64 b,.int .i64 c,.string key,.string g,.int .i64 v.node,.int .i64 v.seq,.int .i64 v.o0,.int .i64 v.o1,.int .i64 v.o2,.int .i64 v.o3,.string v.value,.bool v.gone,f] 39;have z:(w.alloc (.cells #[.int .i64 d,.int .i64 a,.int .i64 b,.int .i64 c,.string key,.string g,.int .i64 v.node,.int .i64 v.seq,.int .i64 v.o0,.int .i64 v.o1,.int .i64 v.o2,.int .i64 v.o3,.string v.value,.bool v.gone,f] 39)).cell? ⟨L.wb,5,none⟩=some (.pointer none):=by rw[<- m];exact(h.nil q).CY.cell 5
 have y:=l.cell;have p:=Z q;clear h q l m r i j k;go_enter Ew,Ek;go_wp2_with fail;go_ret;exact⟨rfl,p.out⟩
theorem IC(L:WL)(o:OpM)(w:World)(k:o.kind=1)(Q:World->Prop)
 (i:∀ p,Fr Nil w p->Calls Tryz.prog 17 #[.pointer (some ⟨L.wb,0,none⟩),.int .i64 o.a,.int .i64 o.b] p fun e j=>e=.returned (.bool true)/\Q j) :
 Calls Tryz.prog 18 #[.pointer (some ⟨L.wb,0,none⟩),.agg o.cells.toArray] w fun e j=>e=.returned (.bool true)/\Q j:=by
 obtain⟨m,a,b,c,key,f,v,d⟩:=o;simp only at k;subst k;simp only[OpM.cells,Ver.cells,IY,Hd] at i |-;have h:Fr Nil w (w.alloc (.cells #[.int .i64 1,.int .i64 a,.int .i64 b,.int .i64 c,.string key,.string f,.int .i64 v.node,.int .i64 v.seq,.int .i64 v.o0,.int .i64 v.o1,.int .i64 v.o2,.int .i64 v.o3,.string v.value,.bool v.gone,d] 39)):=(O _ _).alloc _;have g:=Blk.new w [.int .i64 1,.int .i64 a,.int .i64 b,.int .i64 c,.string key,.string f,.int .i64 v.node,.int .i64 v.seq,.int .i64 v.o0,.int .i64 v.o1,.int .i64 v.o2,.int .i64 v.o3,.string v.value,.bool v.gone,d] 39;have t:=g.cell;have r:=Z h;have q:=Z (i _ h);clear h g i;go_enter Ew,Ek
 go_wp2_with (refine q.out.mono ?_;rintro e u ⟨rfl,l⟩;have s:=Z l;clear l)
 go_ret;exact⟨rfl,s.out⟩
theorem Oe(K:Nat->Prop)(L:WL)(W:WM)(T:DL)(M:DM)(o:OpM)(w:World)(t:Option Addr)(x u:Nat)(G:o.BN=.slice t x u)(h:WAt K w L W)(F:DRep w L.db T M)(r:∀ k,K k->¬k=L.db)(q:o.kind=13)(Y:-9223372036854775808<=o.a)(a0:o.a<=9223372036854775807) :
 Calls Tryz.prog 60 #[.pointer (some ⟨L.wb,0,none⟩),.agg o.cells.toArray] w fun e w'=>e=.returned (.tuple #[])/\∃ n,WAt K w' {L with tv:=o.BN} {W with Bu:=o.b}/\DRep w' L.db T (M.BP n)/\Fr (fun k=>k=L.wb\/k=L.db) w w':=by
 obtain⟨a5,a,b,c,key,j,v,a3⟩:=o;simp only at q Y a0 G;subst q G;simp only[OpM.cells,Ver.cells,IY,Hd];have y:=Blk.new w [.int .i64 13,.int .i64 a,.int .i64 b,.int .i64 c,.string key,.string j,.int .i64 v.node,.int .i64 v.seq,.int .i64 v.o0,.int .i64 v.o1,.int .i64 v.o2,.int .i64 v.o3,.string v.value,.bool v.gone,(.slice t x u)] 39;have V:Fr Nil w (w.alloc (.cells #[.int .i64 13,.int .i64 a,.int .i64 b,.int .i64 c,.string key,.string j,.int .i64 v.node,.int .i64 v.seq,.int .i64 v.o0,.int .i64 v.o1,.int .i64 v.o2,.int .i64 v.o3,.string v.value,.bool v.gone,(.slice t x u)] 39)):=(O _ _).alloc _;have Q:Hid (L.db<w.heap.size/\L.wb<w.heap.size/\L.db≠L.wb):=⟨F.CY.lt,h.CY.lt,fun e=>h.Bz F (.inl e) .CY⟩;have HC:=Z (fun n B (f:Fr Nil w B)=>Rg n B L.db T M (F.nil f));have R:=Z (fun B (f:Fr Nil w B)=>h.nil f);have C:=Z r;have HD:=Z (fun B (f:Fr Nil w B)=>F.nil f);clear h F r;have g:=Z V;have a1:=y.cell;have s:∀ k,(w.alloc (.cells #[.int .i64 13,.int .i64 a,.int .i64 b,.int .i64 c,.string key,.string j,.int .i64 v.node,.int .i64 v.seq,.int .i64 v.o0,.int .i64 v.o1,.int .i64 v.o2,.int .i64 v.o3,.string v.value,.bool v.gone,(.slice t x u)] 39)).cell? ⟨L.wb,k,none⟩=(W.cells L)[k]?:=(R.out _ V).CY.cell;simp only[WM.cells] at s;have J:=Z y;clear V y;obtain⟨m,hm⟩:∃ m:Nat,(a=m/\m<=9223372036854775807)\/(a=-(m:Int)-1/\m<=9223372036854775807):=by
  by_cases a4:a<0
  .exact⟨(-(a+1)).toNat,by omega⟩
  .exact⟨a.toNat,by omega⟩
 have ht:(m:Int).tmod 40=((m%40:Nat):Int):=by rw[show(40:Int)=((40:Nat):Int) from rfl,Df]
 rcases hm with⟨rfl,hm⟩|⟨rfl,hm⟩
 case' inl =>
  have h0:¬((m:Int)<0):=by omega
  have X:decide ((m:Int)<0)=false:=by simp
 case' inr =>
  have h0:(-(m:Int)-1<0):=by omega
  have X:decide (-(m:Int)-1<0)=true:=by simp;omega
 all_goals
  go_enter Tryz.func60,Tryz.ntmps60;go_wp2_with fail;refine(HC.out _ _ g.out).mono ?_;rintro e A ⟨rfl,z,l⟩;have d:=(R.out _ g.out).fr l (fun k q e=>(R.out _ g.out).Bz (HD.out _ g.out) q (by rw[e];exact .CY)) (fun k q e=>C.out k q e);have N:=Z (J.out.fr l (fun e=>by have:=Q.out.1;omega));have a2:∀ k,A.cell? ⟨L.wb,k,none⟩=(W.cells L)[k]?:=d.CY.cell;have a7:=d.CY.frozen;simp only[WM.cells] at a2;have a6:=N.out.cell;have fa:Fr (fun k=>k=L.wb) A (A.setCell ⟨L.wb,13,none⟩ (.int .i64 b)):=Fr.set (S:=fun k=>k=L.wb) (p:=⟨L.wb,13,none⟩) (O _ _) (fun _=>rfl) _;have I:Fr (fun k=>k=L.wb) A ((A.setCell ⟨L.wb,13,none⟩ (.int .i64 b)).setCell ⟨L.wb,14,none⟩ (.slice t x u)):=Fr.set (S:=fun k=>k=L.wb) (p:=⟨L.wb,14,none⟩) fa (fun _=>rfl) _;have E:=d.own (L':={L with tv:=(.slice t x u)}) (W':={W with Bu:=b}) (by have:=(d.CY.set 13 (.int .i64 b)).set 14 (.slice t x u);simpa [WM.cells] using this) I rfl rfl rfl rfl rfl rfl rfl rfl rfl rfl rfl;have D:=z.fr I (fun k q e=>d.Bz z (.inl e) q);have F3:Fr (fun k=>k=L.wb\/k=L.db) w ((A.setCell ⟨L.wb,13,none⟩ (.int .i64 b)).setCell ⟨L.wb,14,none⟩ (.slice t x u)):=((g.out.mono (S':=fun k=>k=L.wb\/k=L.db) (fun _ _ e=>absurd e id)).trans' l (fun k _ e=>.inr e)).trans' I (fun k _ e=>.inl e);have i:=Z (And.intro E (And.intro D F3));clear s a1 z l d fa I E D F3;go_wp2_with fail;exact GC (v:=.tuple #[]) (by simp[results,go_sem]) rfl ⟨rfl,_,i.out.1,i.out.2.1,i.out.2.2⟩
theorem RL(K:Nat->Prop)(L:WL)(W:WM)(I:DL)(M:DM)(o:OpM)(w:World)(h:WAt K w L W)(D:DRep w L.db I M)(r:∀ k,K k->¬k=L.db)(y:o.kind=14)(S:-9223372036854775808<=o.a)(T:o.a<=9223372036854775807) :
 Calls Tryz.prog 60 #[.pointer (some ⟨L.wb,0,none⟩),.agg o.cells.toArray] w fun e X=>e=.returned (.tuple #[])/\∃ n,WAt K X L W/\DRep X L.db I (M.BD n o.b)/\Fr (fun k=>k=L.db) w X:=by
 obtain⟨a0,a,b,c,key,j,v,d⟩:=o;simp only at y S T;subst y;simp only[OpM.cells,Ver.cells,IY,Hd];have x:=Blk.new w [.int .i64 14,.int .i64 a,.int .i64 b,.int .i64 c,.string key,.string j,.int .i64 v.node,.int .i64 v.seq,.int .i64 v.o0,.int .i64 v.o1,.int .i64 v.o2,.int .i64 v.o3,.string v.value,.bool v.gone,d] 39;have N:Fr Nil w (w.alloc (.cells #[.int .i64 14,.int .i64 a,.int .i64 b,.int .i64 c,.string key,.string j,.int .i64 v.node,.int .i64 v.seq,.int .i64 v.o0,.int .i64 v.o1,.int .i64 v.o2,.int .i64 v.o3,.string v.value,.bool v.gone,d] 39)):=(O _ _).alloc _;have z:Hid (L.db<w.heap.size/\L.wb<w.heap.size/\L.db≠L.wb):=⟨D.CY.lt,h.CY.lt,fun e=>h.Bz D (.inl e) .CY⟩;have HC:=Z (fun n g (f:Fr Nil w g)=>Tn n b g L.db I M (D.nil f));have C:=Z (fun g (f:Fr Nil w g)=>h.nil f);have B:=Z r;have HD:=Z (fun g (f:Fr Nil w g)=>D.nil f);clear h D r;have i:=Z N;have V:=x.cell;have s:∀ k,(w.alloc (.cells #[.int .i64 14,.int .i64 a,.int .i64 b,.int .i64 c,.string key,.string j,.int .i64 v.node,.int .i64 v.seq,.int .i64 v.o0,.int .i64 v.o1,.int .i64 v.o2,.int .i64 v.o3,.string v.value,.bool v.gone,d] 39)).cell? ⟨L.wb,k,none⟩=(W.cells L)[k]?:=(C.out _ N).CY.cell;simp only[WM.cells] at s;have p:=Z x;clear N x;obtain⟨m,hm⟩:∃ m:Nat,(a=m/\m<=9223372036854775807)\/(a=-(m:Int)-1/\m<=9223372036854775807):=by
  by_cases Y:a<0
  .exact⟨(-(a+1)).toNat,by omega⟩
  .exact⟨a.toNat,by omega⟩
 have ht:(m:Int).tmod 40=((m%40:Nat):Int):=by rw[show(40:Int)=((40:Nat):Int) from rfl,Df]
 rcases hm with⟨rfl,hm⟩|⟨rfl,hm⟩
 case' inl =>
  have h0:¬((m:Int)<0):=by omega
  have Q:decide ((m:Int)<0)=false:=by simp
 case' inr =>
  have h0:(-(m:Int)-1<0):=by omega
  have Q:decide (-(m:Int)-1<0)=true:=by simp;omega
 all_goals
  go_enter Tryz.func60,Tryz.ntmps60;go_wp2_with fail;have G:Hid (∀ g,Fr Nil w g->g.cell? ⟨L.wb,4,none⟩=some (.pointer (some ⟨L.db,0,none⟩))):=fun g f=>(C.out g f).CY.cell 4;clear s V;generalize w.alloc (.cells #[.int .i64 14,.int .i64 _,.int .i64 b,.int .i64 c,.string key,.string j,.int .i64 v.node,.int .i64 v.seq,.int .i64 v.o0,.int .i64 v.o1,.int .i64 v.o2,.int .i64 v.o3,.string v.value,.bool v.gone,d] 39)=t at i p |-;have A:Hid (L.db<w.heap.size):=z.out.1;generalize w.heap.size=J at p A |-;have a1:t.cell? ⟨L.wb,4,none⟩=some (.pointer (some ⟨L.db,0,none⟩))/\t.cell? ⟨J,2,none⟩=some (.int .i64 b):=⟨G.out _ i.out,p.out.cell 2⟩;have q:Hid (∀ g,Fr (fun k=>k=L.db) t g->g.cell? ⟨L.wb,4,none⟩=some (.pointer (some ⟨L.db,0,none⟩))/\g.cell? ⟨J,2,none⟩=some (.int .i64 b)):=fun g f=>⟨((C.out t i.out).CY.fr f (fun e=>z.out.2.2 e.symm)).cell 4,(p.out.fr f (fun e=>by have:=A.out;omega)).cell 2⟩
  go_region_held3 (fun g=>g.cell? ⟨L.wb,4,none⟩=some (.pointer (some ⟨L.db,0,none⟩))/\g.cell? ⟨J,2,none⟩=some (.int .i64 b)) (first|assumption|go_keep|exact q.out _ za)
   (first|(go_at_call 46;refine(HC.out _ _ (i.out.trans za)).mono ?_;rintro e w2 ⟨rfl,E,F⟩;have u:Fr (fun k=>k=L.db) t w2:=Fr.trans za F;have a2:=q.out w2 u;have l:=Z (And.intro E u);clear E F u))
  go_wp2_with fail;have R:=(C.out t i.out).fr l.out.2 (fun k y e=>(C.out t i.out).Bz (HD.out t i.out) y (by rw[e];exact .CY)) (fun k y e=>B.out k y e);exact EB (v:=.tuple #[]) (by simp[results,go_sem]) rfl ⟨rfl,_,R,l.out.1,(i.out.mono (S':=fun k=>k=L.db) (fun _ _ e=>absurd e id)).trans l.out.2⟩
theorem Le(b1:zz)(K:Nat->Prop)(B:Nat)(L:WL)(W:WM)(X:NL)(N:NM)(M:DM)(o:OpM)(w:World)(h:Play K B w L W X N M)(hk:o.kind=11)(a8:W.broken=false)(hp:0<L.ps.length)(hl:L.ps.length<1000000)
 (m:(N.Bh M).1=0/\(N.Bh M).2.2.refused=M.refused) :
 Calls Tryz.prog 64 #[.pointer (some ⟨L.wb,0,none⟩),.agg o.cells.toArray] w fun e S=>e=.returned (.bool true)/\∃ L' E,L'.ps≠[]/\PStep K B L X M w K L' {W with st:=W.st.drop (W.st.length-1)} E (N.Bh M).2.1 (N.Bh M).2.2 S:=by
 obtain⟨c6,a,b,c,key,j,v,i⟩:=o;simp only at hk |-;subst hk;have A:=Z m;clear m;simp only[OpM.cells,Ver.cells,IY,Hd];have f1:Fr Nil w (w.alloc (.cells #[.int .i64 11,.int .i64 a,.int .i64 b,.int .i64 c,.string key,.string j,.int .i64 v.node,.int .i64 v.seq,.int .i64 v.o0,.int .i64 v.o1,.int .i64 v.o2,.int .i64 v.o3,.string v.value,.bool v.gone,i] 39)):=(O _ _).alloc _;have I:=Blk.new w [.int .i64 11,.int .i64 a,.int .i64 b,.int .i64 c,.string key,.string j,.int .i64 v.node,.int .i64 v.seq,.int .i64 v.o0,.int .i64 v.o1,.int .i64 v.o2,.int .i64 v.o3,.string v.value,.bool v.gone,i] 39;have HM:=Z (fun d (f:Fr Nil w d)=>Zd K L W X.LD M d (h.Bi.nil f) ((h.marks).nil f));have HF:=Z (fun d (f:Fr Nil w d)=>Zr K L W X.LD M d (h.Bi.nil f) ((h.marks).nil f));have HC:=Z (fun d (f:Fr Nil w d)=>zB d L.db X.LD M ((h.marks).nil f));have J:=I.cell;have C:=Z f1;have l:=Z I;have HH:=Z h;have V:=Z a8;clear h f1 I a8;go_enter Tryz.func64,Tryz.ntmps64;go_wp2_with fail;generalize c3:w.alloc (.cells #[.int .i64 11,.int .i64 a,.int .i64 b,.int .i64 c,.string key,.string j,.int .i64 v.node,.int .i64 v.seq,.int .i64 v.o0,.int .i64 v.o1,.int .i64 v.o2,.int .i64 v.o3,.string v.value,.bool v.gone,i] 39)=wa at J C l |-;have b7:Hid (∀ d,Fr (fun k=>k<w.heap.size) wa d->∀ k,d.cell? ⟨w.heap.size,k,none⟩=wa.cell? ⟨w.heap.size,k,none⟩):=fun d f k=>((l.out.fr f (Fw _)).cell k).trans (l.out.cell k).symm;have b8:=Z J;have b9:Hid (w.heap.size<wa.heap.size):=l.out.lt;clear c3 l;refine(HM.out wa C.out).mono ?_;rintro e T ⟨rfl,f2⟩;have F:Fr Nil w T:=C.out.trans f2;have x:w.heap.size<T.heap.size:=by have:=b9.out;have:=f2.size;omega
 have F2:=Z f2;have f3:Fr Nil w (T.alloc (.cells #[.int .i64 M.refused,.int .i64 M.Bb] 111)):=F.alloc _;have a7:=Blk.new T [.int .i64 M.refused,.int .i64 M.Bb] 111;have a9:=(HH.out.Bi.nil f3).CY.cell;simp only[WM.cells] at a9;have c7:=Z F;have a2:=Z x;have F3:=Z f3;have b6:=Z a7;clear f2 F x f3 a7 J
 go_wp2_with (refine(HC.out _ F3.out).mono ?_;rintro e d ⟨rfl,c8⟩;subst d)
 refine(HF.out _ F3.out).mono ?_;rintro e Q ⟨rfl,f4⟩;have G:Fr Nil w Q:=F3.out.trans f4;have h4:=(HH.out.nil G).CZ;have a0:=Z G;have a1:=Z f4;have R:=Z h4;clear G f4 h4 a9;generalize IntKind.i64.wrap ((if W.room<0 then 1152921504606846976 else W.room)-M.used)=fr;have r:=Z (fun d (f:Fr Nil Q d)=>YS b1 B X N M d (R.out.node.nil f) (R.out.env.nil f));have q:Hid (∀ d K' L' W' E N' M',PStep K B L X M Q K' L' W' E N' M' d->(∀ k,d.cell? ⟨w.heap.size,k,none⟩=([.int .i64 11,.int .i64 a,.int .i64 b,.int .i64 c,.string key,.string j,.int .i64 v.node,.int .i64 v.seq,.int .i64 v.o0,.int .i64 v.o1,.int .i64 v.o2,.int .i64 v.o3,.string v.value,.bool v.gone,i]:List Value)[k]?)/\(∀ k,d.cell? ⟨T.heap.size,k,none⟩=[Value.int .i64 M.refused,.int .i64 M.Bb][k]?)):=by
  intro d K' L' W' E N' M' s;have fl:Fr (fun k=>k<w.heap.size) Q d:=s.fr.mono (fun k _ e=>HH.out.lt e);refine⟨fun k=>(b7.out d ((((F2.out.alloc _).trans a1.out).mono (S':=fun k=>k<w.heap.size) (fun _ _ e=>absurd e id)).trans' fl (fun _ _ e=>e)) k).trans (b8.out k),?_⟩;exact(b6.out.fr ((a1.out.mono (S':=fun k=>k<w.heap.size) (fun _ _ e=>absurd e id)).trans' fl (fun _ _ e=>e)) (by have:=a2.out;omega)).cell
 have HK:Hid (∀ d S E N' M',Fr Nil Q d->NStep X M d E N' M' S->S.cell? ⟨L.wb,5,none⟩=some (.pointer (some ⟨X.nb,0,none⟩))/\∀ k,S.cell? ⟨w.heap.size,k,none⟩=([.int .i64 11,.int .i64 a,.int .i64 b,.int .i64 c,.string key,.string j,.int .i64 v.node,.int .i64 v.seq,.int .i64 v.o0,.int .i64 v.o1,.int .i64 v.o2,.int .i64 v.o3,.string v.value,.bool v.gone,i]:List Value)[k]?):=by
  intro d S E N' M' f s;have hp:=(R.out.nil f).trans ((R.out.nil f).CZ.call s);refine⟨(hp.CZ.Bi.CY.cell 5).trans ?_,(q.out _ _ _ _ _ _ _ hp).1⟩;show some L.nv=_;rw[HH.out.nv]
 have c1:=HK.out Q Q X N M (O _ _) (NStep.nil R.out.node (O _ _));go_wp2_with fail;refine(r.out _ (O _ _)).mono ?_;rintro e p ⟨X5,rfl,b3⟩;have D:=Z b3;clear b3;have g:=Z (R.out.call D.out);rw[A.out.1];generalize a6:(N.Bh M).2.1=N5 at D g;have a3:=Z A.out.2;generalize a5:(N.Bh M).2.2=M5 at D g a3;have Y:=Z (And.intro a6 a5);clear a6 a5;clear c1 HK r A;have c4:=(q.out _ _ _ _ _ _ _ g.out).1;have b0:=g.out.CZ.Bi.CY.cell;simp only[WM.cells,V.out] at b0;have u:∀ n k,(p.drewN n).cell? ⟨L.wb,k,none⟩=_:=fun n=>(g.out.CZ.Bi.CY.drewN n).cell;simp only[WM.cells,V.out] at u;have b2:∀ n k,(p.drewN n).cell? ⟨T.heap.size,k,none⟩=[Value.int .i64 M.refused,.int .i64 M.Bb][k]?:=fun n=>(q.out _ _ _ _ _ _ _ (g.out.trans (g.out.CZ.nil ((O Nil p).drewN n)))).2;have b5:∀ n k,(p.drewN n).cell? ⟨w.heap.size,k,none⟩=([.int .i64 11,.int .i64 a,.int .i64 b,.int .i64 c,.string key,.string j,.int .i64 v.node,.int .i64 v.seq,.int .i64 v.o0,.int .i64 v.o1,.int .i64 v.o2,.int .i64 v.o3,.string v.value,.bool v.gone,i]:List Value)[k]?:=fun n=>(q.out _ _ _ _ _ _ _ (g.out.trans (g.out.CZ.nil ((O Nil p).drewN n)))).1;have t:=Z (fun n=>ZZ (p.drewN n) L.db X5.LD M5 (g.out.CZ.marks.nil ((O Nil p).drewN n)));rw[a3.out] at t;have c5:decide (M.refused<M.refused)=false:=by simp
 have c2:¬M.refused<M.refused:=by simp
 have c0:=Z (fun d (f:Fr Nil p d)=>VU K L W d (g.out.CZ.Bi.nil f) hp (by omega));go_wp2_with fail
 go_quiet ((go_at_call 47;exact Ff (t.out _)))
 go_wp2_with fail;refine(c0.out _ ((O Nil p).drewN nq)).mono ?_;rintro e w6 ⟨rfl,L6,b4,z⟩;have y:L6.ps≠[]:=fun e=>by
  have:=GY List.length (z.symm.trans e);simp at this;omega
 have a4:=Z (And.intro b4 y);clear b4 z y b0 u b2 b5 c4;go_wp2_with fail;go_ret;rw[Y.out.1,Y.out.2];exact⟨rfl,L6,X5,a4.out.2,(HH.out.nil a0.out).trans ((g.out.trans (g.out.CZ.nil ((O Nil p).drewN nq))).trans ((g.out.CZ.nil ((O Nil p).drewN nq)).CZ.turn a4.out.1))⟩
theorem Of(a0:zz)(K:Nat->Prop)(B:Nat)(L:WL)(W:WM)(X:NL)(N:NM)(M:DM)(o:OpM)(w:World)(h:Play K B w L W X N M)(hk:o.kind=11)(V:W.broken=true)(b0:N.readOnly=true) :
 Calls Tryz.prog 64 #[.pointer (some ⟨L.wb,0,none⟩),.agg o.cells.toArray] w fun e C=>e=.returned (.bool true)/\∃ r,PStep K B L X M w K L W r N M C:=by
 obtain⟨b3,a,b,c,key,i,v,g⟩:=o;simp only at hk |-;subst hk;have a7:Hid (N.Bh M=(8,N,M)):=by unfold NM.Bh;rw[Hid,He b0]
 simp only[OpM.cells,Ver.cells,IY,Hd];have f1:Fr Nil w (w.alloc (.cells #[.int .i64 11,.int .i64 a,.int .i64 b,.int .i64 c,.string key,.string i,.int .i64 v.node,.int .i64 v.seq,.int .i64 v.o0,.int .i64 v.o1,.int .i64 v.o2,.int .i64 v.o3,.string v.value,.bool v.gone,g] 39)):=(O _ _).alloc _;have x:=Blk.new w [.int .i64 11,.int .i64 a,.int .i64 b,.int .i64 c,.string key,.string i,.int .i64 v.node,.int .i64 v.seq,.int .i64 v.o0,.int .i64 v.o1,.int .i64 v.o2,.int .i64 v.o3,.string v.value,.bool v.gone,g] 39;have HM:=Z (fun d (f:Fr Nil w d)=>Zd K L W X.LD M d (h.Bi.nil f) ((h.marks).nil f));have HF:=Z (fun d (f:Fr Nil w d)=>Zr K L W X.LD M d (h.Bi.nil f) ((h.marks).nil f));have HC:=Z (fun d (f:Fr Nil w d)=>zB d L.db X.LD M ((h.marks).nil f));have y:=x.cell;have q:=Z f1;have l:=Z x;have F:=Z h;have a3:=Z V;clear h f1 x V;go_enter Tryz.func64,Tryz.ntmps64;go_wp2_with fail;generalize b1:w.alloc (.cells #[.int .i64 11,.int .i64 a,.int .i64 b,.int .i64 c,.string key,.string i,.int .i64 v.node,.int .i64 v.seq,.int .i64 v.o0,.int .i64 v.o1,.int .i64 v.o2,.int .i64 v.o3,.string v.value,.bool v.gone,g] 39)=wa at y q l |-;have a4:Hid (∀ d,Fr (fun k=>k<w.heap.size) wa d->∀ k,d.cell? ⟨w.heap.size,k,none⟩=wa.cell? ⟨w.heap.size,k,none⟩):=fun d f k=>((l.out.fr f (Fw _)).cell k).trans (l.out.cell k).symm;have a5:=Z y;have a6:Hid (w.heap.size<wa.heap.size):=l.out.lt;clear b1 l;refine(HM.out wa q.out).mono ?_;rintro e w2 ⟨rfl,f2⟩;have t:Fr Nil w w2:=q.out.trans f2;have p:w.heap.size<w2.heap.size:=by have:=a6.out;have:=f2.size;omega
 have F2:=Z f2;have f3:Fr Nil w (w2.alloc (.cells #[.int .i64 M.refused,.int .i64 M.Bb] 111)):=t.alloc _;have T:=Blk.new w2 [.int .i64 M.refused,.int .i64 M.Bb] 111;have Y:=(F.out.Bi.nil f3).CY.cell;simp only[WM.cells] at Y;have b4:=Z t;have G:=Z p;have F3:=Z f3;have a2:=Z T;clear f2 t p f3 T y
 go_wp2_with (refine(HC.out _ F3.out).mono ?_;rintro e d ⟨rfl,b2⟩;subst d)
 refine(HF.out _ F3.out).mono ?_;rintro e z ⟨rfl,f4⟩;have u:Fr Nil w z:=F3.out.trans f4;have h4:=(F.out.nil u).CZ;have D:=Z u;have E:=Z f4;have A:=Z h4;clear u f4 h4 Y;generalize IntKind.i64.wrap ((if W.room<0 then 1152921504606846976 else W.room)-M.used)=fr;have m:=Z (fun d (f:Fr Nil z d)=>YS a0 B X N M d (A.out.node.nil f) (A.out.env.nil f));have Q:Hid (∀ d K' L' W' r S R,PStep K B L X M z K' L' W' r S R d->(∀ k,d.cell? ⟨w.heap.size,k,none⟩=([.int .i64 11,.int .i64 a,.int .i64 b,.int .i64 c,.string key,.string i,.int .i64 v.node,.int .i64 v.seq,.int .i64 v.o0,.int .i64 v.o1,.int .i64 v.o2,.int .i64 v.o3,.string v.value,.bool v.gone,g]:List Value)[k]?)/\(∀ k,d.cell? ⟨w2.heap.size,k,none⟩=[Value.int .i64 M.refused,.int .i64 M.Bb][k]?)):=by
  intro d K' L' W' r S R s;have fl:Fr (fun k=>k<w.heap.size) z d:=s.fr.mono (fun k _ e=>F.out.lt e);refine⟨fun k=>(a4.out d ((((F2.out.alloc _).trans E.out).mono (S':=fun k=>k<w.heap.size) (fun _ _ e=>absurd e id)).trans' fl (fun _ _ e=>e)) k).trans (a5.out k),?_⟩;exact(a2.out.fr ((E.out.mono (S':=fun k=>k<w.heap.size) (fun _ _ e=>absurd e id)).trans' fl (fun _ _ e=>e)) (by have:=G.out;omega)).cell
 have HK:Hid (∀ d C r S R,Fr Nil z d->NStep X M d r S R C->C.cell? ⟨L.wb,5,none⟩=some (.pointer (some ⟨X.nb,0,none⟩))/\∀ k,C.cell? ⟨w.heap.size,k,none⟩=([.int .i64 11,.int .i64 a,.int .i64 b,.int .i64 c,.string key,.string i,.int .i64 v.node,.int .i64 v.seq,.int .i64 v.o0,.int .i64 v.o1,.int .i64 v.o2,.int .i64 v.o3,.string v.value,.bool v.gone,g]:List Value)[k]?):=by
  intro d C r S R f s;have hp:=(A.out.nil f).trans ((A.out.nil f).CZ.call s);refine⟨(hp.CZ.Bi.CY.cell 5).trans ?_,(Q.out _ _ _ _ _ _ _ hp).1⟩;show some L.nv=_;rw[F.out.nv]
 have a9:=HK.out z z X N M (O _ _) (NStep.nil A.out.node (O _ _));go_wp2_with fail;refine(m.out _ (O _ _)).mono ?_;rintro e w5 ⟨X5,rfl,a1⟩;have J:=Z a1;clear a1;have j:=Z (A.out.call J.out);rw[a7.out] at J j |-;have a8:=j.out.CZ.Bi.CY.cell;simp only[WM.cells,a3.out] at a8;have b5:=(Q.out _ _ _ _ _ _ _ j.out).1;have I:=Z (Z7 K L W X5.LD M 8 8 M.calls w5 j.out.CZ.Bi j.out.CZ.marks);simp only[Ev,Fu] at I;clear a9 HK m;go_wp2_with fail;refine I.out.mono ?_;rintro e d ⟨rfl,b2⟩;subst d;go_wp2_with fail;go_ret;exact⟨rfl,X5,(F.out.nil D.out).trans j.out⟩
theorem JA(a9:zz)(K:Nat->Prop)(B:Nat)(L:WL)(W:WM)(X:NL)(N:NM)(M:DM)(o:OpM)(w:World)(h:Play K B w L W X N M)(hk:o.kind=11)(a6:W.broken=false)
 (b3:(N.Bh M).1=9/\(N.Bh M).2.2.refused=M.refused+1/\(N.Bh M).2.2.Bb=M.Bb) :
 Calls Tryz.prog 64 #[.pointer (some ⟨L.wb,0,none⟩),.agg o.cells.toArray] w fun e w'=>e=.returned (.bool true)/\∃ z,((N.Bh M).2.2.dead=false->PStep K B L X M w K L {W with broken:=true} z (N.Bh M).2.1 (N.Bh M).2.2 w')/\((N.Bh M).2.2.dead=true->∃ wm,PStep K B L X M w K L {W with broken:=true} z (N.Bh M).2.1 (N.Bh M).2.2 wm/\w'=wm.setCell ⟨L.wb,5,none⟩ (.pointer none)):=by
 obtain⟨c5,a,b,c,key,j,v,i⟩:=o;simp only at hk |-;subst hk;have E:=Z b3;clear b3;simp only[OpM.cells,Ver.cells,IY,Hd];have f1:Fr Nil w (w.alloc (.cells #[.int .i64 11,.int .i64 a,.int .i64 b,.int .i64 c,.string key,.string j,.int .i64 v.node,.int .i64 v.seq,.int .i64 v.o0,.int .i64 v.o1,.int .i64 v.o2,.int .i64 v.o3,.string v.value,.bool v.gone,i] 39)):=(O _ _).alloc _;have T:=Blk.new w [.int .i64 11,.int .i64 a,.int .i64 b,.int .i64 c,.string key,.string j,.int .i64 v.node,.int .i64 v.seq,.int .i64 v.o0,.int .i64 v.o1,.int .i64 v.o2,.int .i64 v.o3,.string v.value,.bool v.gone,i] 39;have HM:=Z (fun d (f:Fr Nil w d)=>Zd K L W X.LD M d (h.Bi.nil f) ((h.marks).nil f));have HF:=Z (fun d (f:Fr Nil w d)=>Zr K L W X.LD M d (h.Bi.nil f) ((h.marks).nil f));have HC:=Z (fun d (f:Fr Nil w d)=>zB d L.db X.LD M ((h.marks).nil f));have V:=T.cell;have G:=Z f1;have l:=Z T;have HH:=Z h;have a0:=Z a6;clear h f1 T a6;go_enter Tryz.func64,Tryz.ntmps64;go_wp2_with fail;generalize c2:w.alloc (.cells #[.int .i64 11,.int .i64 a,.int .i64 b,.int .i64 c,.string key,.string j,.int .i64 v.node,.int .i64 v.seq,.int .i64 v.o0,.int .i64 v.o1,.int .i64 v.o2,.int .i64 v.o3,.string v.value,.bool v.gone,i] 39)=wa at V G l |-;have b7:Hid (∀ d,Fr (fun k=>k<w.heap.size) wa d->∀ k,d.cell? ⟨w.heap.size,k,none⟩=wa.cell? ⟨w.heap.size,k,none⟩):=fun d f k=>((l.out.fr f (Fw _)).cell k).trans (l.out.cell k).symm;have b8:=Z V;have b9:Hid (w.heap.size<wa.heap.size):=l.out.lt;clear c2 l;refine(HM.out wa G.out).mono ?_;rintro e w2 ⟨rfl,f2⟩;have R:Fr Nil w w2:=G.out.trans f2;have C:w.heap.size<w2.heap.size:=by have:=b9.out;have:=f2.size;omega
 have F2:=Z f2;have f3:Fr Nil w (w2.alloc (.cells #[.int .i64 M.refused,.int .i64 M.Bb] 111)):=R.alloc _;have a5:=Blk.new w2 [.int .i64 M.refused,.int .i64 M.Bb] 111;have a7:=(HH.out.Bi.nil f3).CY.cell;simp only[WM.cells] at a7;have c6:=Z R;have a2:=Z C;have F3:=Z f3;have b6:=Z a5;clear f2 R C f3 a5 V
 go_wp2_with (refine(HC.out _ F3.out).mono ?_;rintro e d ⟨rfl,b5⟩;subst d)
 refine(HF.out _ F3.out).mono ?_;rintro e w4 ⟨rfl,f4⟩;have S:Fr Nil w w4:=F3.out.trans f4;have h4:=(HH.out.nil S).CZ;have y:=Z S;have a1:=Z f4;have H4:=Z h4;clear S f4 h4 a7;generalize IntKind.i64.wrap ((if W.room<0 then 1152921504606846976 else W.room)-M.used)=fr;have x:=Z (fun d (f:Fr Nil w4 d)=>YS a9 B X N M d (H4.out.node.nil f) (H4.out.env.nil f));have Q:Hid (∀ d K' L' W' z N' M',PStep K B L X M w4 K' L' W' z N' M' d->(∀ k,d.cell? ⟨w.heap.size,k,none⟩=([.int .i64 11,.int .i64 a,.int .i64 b,.int .i64 c,.string key,.string j,.int .i64 v.node,.int .i64 v.seq,.int .i64 v.o0,.int .i64 v.o1,.int .i64 v.o2,.int .i64 v.o3,.string v.value,.bool v.gone,i]:List Value)[k]?)/\(∀ k,d.cell? ⟨w2.heap.size,k,none⟩=[Value.int .i64 M.refused,.int .i64 M.Bb][k]?)):=by
  intro d K' L' W' z N' M' s;have fl:Fr (fun k=>k<w.heap.size) w4 d:=s.fr.mono (fun k _ e=>HH.out.lt e);refine⟨fun k=>(b7.out d ((((F2.out.alloc _).trans a1.out).mono (S':=fun k=>k<w.heap.size) (fun _ _ e=>absurd e id)).trans' fl (fun _ _ e=>e)) k).trans (b8.out k),?_⟩;exact(b6.out.fr ((a1.out.mono (S':=fun k=>k<w.heap.size) (fun _ _ e=>absurd e id)).trans' fl (fun _ _ e=>e)) (by have:=a2.out;omega)).cell
 have HK:Hid (∀ d w' z N' M',Fr Nil w4 d->NStep X M d z N' M' w'->w'.cell? ⟨L.wb,5,none⟩=some (.pointer (some ⟨X.nb,0,none⟩))/\∀ k,w'.cell? ⟨w.heap.size,k,none⟩=([.int .i64 11,.int .i64 a,.int .i64 b,.int .i64 c,.string key,.string j,.int .i64 v.node,.int .i64 v.seq,.int .i64 v.o0,.int .i64 v.o1,.int .i64 v.o2,.int .i64 v.o3,.string v.value,.bool v.gone,i]:List Value)[k]?):=by
  intro d w' z N' M' f s;have hp:=(H4.out.nil f).trans ((H4.out.nil f).CZ.call s);refine⟨(hp.CZ.Bi.CY.cell 5).trans ?_,(Q.out _ _ _ _ _ _ _ hp).1⟩;show some L.nv=_;rw[HH.out.nv]
 have c1:=HK.out w4 w4 X N M (O _ _) (NStep.nil H4.out.node (O _ _));go_wp2_with fail;refine(x.out _ (O _ _)).mono ?_;rintro e D ⟨X5,rfl,b4⟩;have J:=Z b4;clear b4;have g:=Z (H4.out.call J.out);rw[E.out.1];generalize a4:(N.Bh M).2.1=N5 at J g;have u:=Z E.out.2;generalize a3:(N.Bh M).2.2=M5 at J g u;have t:=Z (And.intro a4 a3);clear a4 a3;clear c1 HK x E;have c3:=(Q.out _ _ _ _ _ _ _ g.out).1;have a8:=g.out.CZ.Bi.CY.cell;simp only[WM.cells,a0.out] at a8;have A:∀ n k,(D.drewN n).cell? ⟨L.wb,k,none⟩=_:=fun n=>(g.out.CZ.Bi.CY.drewN n).cell;simp only[WM.cells,a0.out] at A;have b0:∀ n k,(D.drewN n).frozen? ⟨L.wb,k,none⟩=false:=fun n=>(g.out.CZ.Bi.CY.drewN n).frozen;have b2:∀ n k,(D.drewN n).cell? ⟨w2.heap.size,k,none⟩=[Value.int .i64 M.refused,.int .i64 M.Bb][k]?:=fun n=>(Q.out _ _ _ _ _ _ _ (g.out.trans (g.out.CZ.nil ((O Nil D).drewN n)))).2;have q:=Z (fun n=>ZZ (D.drewN n) L.db X5.LD M5 (g.out.CZ.marks.nil ((O Nil D).drewN n)));rw[u.out.1] at q;have b1:decide (M.refused<M.refused+1)=true:=by simp;omega
 have Y:M.refused<M.refused+1:=by omega
 go_wp2_with fail
 go_quiet ((go_at_call 47;exact Ff (q.out _)))
 go_wp2_with fail;have I:=Z (g.out.trans (g.out.CZ.nil ((O Nil D).drewN nq)));have m:=Z (I.out.trans (I.out.CZ.turn (WStep.set I.out.CZ.Bi 8 (.bool true) (L':=L) (W':={W with broken:=true}) (by simp[WM.cells]) rfl rfl rfl rfl rfl rfl rfl rfl rfl rfl rfl rfl rfl)));clear a8 A b0 b2 c3 q b1 Y;generalize (D.drewN nq).setCell ⟨L.wb,8,none⟩ (.bool true)=w6 at m |-;refine(RK K L _ X5.LD M5 9 M.refused M.Bb w6 m.out.CZ.Bi m.out.CZ.marks (.inl ⟨rfl,u.out.1,u.out.2⟩)).mono ?_;rintro e w7 ⟨rfl,f7⟩;have p:=Z (m.out.trans (m.out.CZ.nil f7));have c0:∀ k,w7.cell? ⟨L.wb,k,none⟩=(WM.cells L {W with broken:=true})[k]?:=p.out.CZ.Bi.CY.cell;have c4:=p.out.CZ.Bi.CY.frozen;simp only[WM.cells] at c0;have r:=Z (Vq w7 L.db X5.LD M5 p.out.CZ.marks);clear f7;cases hdd:M5.dead with
 | false =>
  rw[hdd] at r;have F:=Z hdd;clear hdd
  go_wp2_with (refine r.out.mono ?_;rintro e d ⟨rfl,b5⟩;subst d)
  go_ret;rw[t.out.1,t.out.2];exact⟨rfl,X5,fun _=>(HH.out.nil y.out).trans p.out,fun e=>by rw[F.out] at e;cases e⟩
 | true =>
  rw[hdd] at r;have F:=Z hdd;clear hdd
  go_wp2_with (refine r.out.mono ?_;rintro e d ⟨rfl,b5⟩;subst d)
  go_ret;rw[t.out.1,t.out.2];exact⟨rfl,X5,(fun e=>by rw[F.out] at e;cases e),fun _=>⟨w7,(HH.out.nil y.out).trans p.out,rfl⟩⟩
theorem Qg(b7:zz)(K:Nat->Prop)(B:Nat)(L:WL)(W:WM)(X:NL)(N:NM)(M:DM)(o:OpM)(w:World)(h:Play K B w L W X N M)(hk:o.kind=3)(d8:W.broken=false)(hp:0<L.ps.length)(hl:L.ps.length<1000000)(e5:W.calls<10000000)
 (c3:zp o.key=true)(m:LM)(hm:W.st[L.ps.length-1]?=some m)(e0:m.keys.length<100000000)
 (G:∀ H,w.heap.size<=H->Xe N M H o.key (fun _ _=>[]))
 (x:∀ f g,w.heap.size<=f->w.heap.size<=g->Apart2 N M f g->((N.delete M o.key f g).2.1=0->W.most<(N.delete M o.key f g).1/\(N.delete M o.key f g).1<=16*(W.calls+1))/\((N.delete M o.key f g).2.1≠0->(N.delete M o.key f g).1=0))
 (Q:World->Prop)
 (hQ:∀ f g K' X' q a,w.heap.size<=f->w.heap.size<=g->Apart2 N M f g->PStep K B L X M w K' L {W with calls:=W.calls+1,most:=if (N.delete M o.key f g).2.1=0 then(N.delete M o.key f g).1 else W.most} X' (N.delete M o.key f g).2.2.1 (N.delete M o.key f g).2.2.2 a ->
   MRep K' a q (m.delete o.key)->q≠L.ps[L.ps.length-1] ->
   Calls Tryz.prog 110 #[.pointer (some ⟨L.wb,0,none⟩),.pointer (some ⟨q,0,none⟩),.int .i64 (N.delete M o.key f g).2.1,.agg #[.int .i64 M.refused,.int .i64 M.Bb],.int .i64 (W.free M)] a fun e p=>e=.returned (.bool true)/\Q p) :
 Calls Tryz.prog 61 #[.pointer (some ⟨L.wb,0,none⟩),.agg o.cells.toArray] w fun e p=>e=.returned (.bool true)/\Q p:=by
 have F:zZ o.key=0:=by unfold zZ;rw[He c3]
 have R:=Z (fun a=>Yr o.key o.text a);have J:=Z (fun a=>Y7 o.key a);rw[F] at J;generalize Zh o.key o.text=bp at R;have f1:Fr Nil w (w.alloc (.cells o.cells.toArray 39)):=(O _ _).alloc _;have Y:=Blk.new w o.cells 39;have HM:=Z (fun a (f:Fr Nil w a)=>Zd K L W X.LD M a (h.Bi.nil f) ((h.marks).nil f));have HF:=Z (fun a (f:Fr Nil w a)=>Zr K L W X.LD M a (h.Bi.nil f) ((h.marks).nil f));have HC:=Z (fun a (f:Fr Nil w a)=>zB a L.db X.LD M ((h.marks).nil f));obtain⟨wa,z⟩:∃ wa,w.alloc (.cells o.cells.toArray 39)=wa:=⟨_,rfl⟩;rw[z] at f1 Y;have b4:=Y.cell;have b3:=Z z;simp only[OpM.cells,Ver.cells,IY,Hd,hk] at z b4 |-;have a8:=Z f1;have HH:=Z h;have a9:=Z G;have a5:=Z x;have HQ:=Z hQ;clear h f1 Y G x hQ F;go_enter DD,Dn;go_wp2_with fail;refine(R.out _).mono ?_;rintro e a ⟨rfl,c9⟩;subst a;go_wp2_with fail;refine(J.out _).mono ?_;rintro e a ⟨rfl,c9⟩;subst a;clear R J z;go_wp2_with fail;refine(HM.out wa a8.out).mono ?_;rintro e w2 ⟨rfl,f2⟩;have f3:Fr Nil w (w2.alloc (.cells #[.int .i64 M.refused,.int .i64 M.Bb] 111)):=(a8.out.trans f2).alloc _;have b5:=(HH.out.nil f3).CZ.Bi.CY.cell;simp only[WM.cells] at b5;have F2:=Z f2;have F3:=Z f3;clear f2 f3 b4
 go_wp2_with (refine(HC.out _ F3.out).mono ?_;rintro e a ⟨rfl,c9⟩;subst a)
 refine(HF.out _ F3.out).mono ?_;rintro e w4 ⟨rfl,f4⟩;have b:=Z (Pre.of HH.out b3.out F2.out f4);have A:=Z b.out.st.CZ;clear f4 b5 F2 F3 b3;have b9:IntKind.i64.wrap ((if W.room<0 then 1152921504606846976 else W.room)-M.used)=W.free M:=rfl;rw[b9];clear b9;generalize W.free M=fr at HQ |-;have D:=Z (fun a (f:Fr Nil w4 a)=>WD b7 B X N M o.key a (A.out.node.nil f) (A.out.env.nil f) (fun _ _=>a9.out _ (b.out.fr.trans f).size));have HK:Hid (∀ a p X' N' M',Fr Nil w4 a->NStep X M a X' N' M' p->p.cell? ⟨L.wb,5,none⟩=some (.pointer (some ⟨X.nb,0,none⟩))/\p.cell? ⟨w.heap.size,4,none⟩=some (.string o.key)):=by
  intro a p X' N' M' f s;have hs:=(A.out.nil f).trans ((A.out.nil f).CZ.call s);refine⟨(hs.CZ.Bi.CY.cell 5).trans ?_,b.out.op hs 4⟩;show some L.nv=_;rw[HH.out.nv]
 have d9:=HK.out w4 w4 X N M (O _ _) (NStep.nil A.out.node (O _ _));have d0:=b.out.op (A.out.nil (O _ _));simp only[OpM.cells,Ver.cells,IY,Hd,hk] at d0;go_wp2_with fail;clear d0
 go_region_held3 (fun p=>p.cell? ⟨L.wb,5,none⟩=some (.pointer (some ⟨X.nb,0,none⟩))/\p.cell? ⟨w.heap.size,4,none⟩=some (.string o.key)) (first|assumption|go_keep)
  (first|(go_at_call 30;refine(D.out _ za).mono ?_;rintro e w5 ⟨f,g,X5,rfl,b8,c2,E,a1⟩;have e2:=HK.out _ _ _ _ _ za a1;have b2:=Z (NStep.trans (NStep.nil A.out.node (by exact za)) a1);have u:=Z (And.intro b8 (And.intro c2 E));clear a1 b8 c2 E))
 have a3:=IP b.out.fr.size u.out.1;have a4:=IP b.out.fr.size u.out.2.1;have l:=Z (fun K' X' q a=>HQ.out f g K' X' q a a3 a4 u.out.2.2);have v:=a5.out f g a3 a4 u.out.2.2;have j:=A.out.call b2.out;clear HK D b2 u HQ a5 d9 e2 a3 a4 a9;generalize N.delete M o.key f g=r at *;obtain⟨n,er,N5,M5⟩:=r;simp only at j v l;have b6:=j.CZ.Bi.CY.cell;have c1:=j.CZ.Bi.CY.frozen;simp only[WM.cells,d8] at b6;have d1:=b.out.op j;simp only[OpM.cells,Ver.cells,IY,Hd,hk] at d1;have d5:=Z j;have t:=Z v;have f0:IntKind.i64.wrap ((W.calls:Int)+1)=((W.calls+1:Nat):Int):=by rw[Hr];push_cast;omega
 have i:=Z (j.trans (j.CZ.turn (WStep.set j.CZ.Bi 11 (.int .i64 ((W.calls:Int)+1)) (L':=L) (W':={W with calls:=W.calls+1}) (by simp[WM.cells]) rfl rfl rfl rfl rfl rfl rfl rfl rfl rfl rfl rfl rfl)));clear j v;by_cases he:er=0
 case' pos =>
  subst he;go_wp2_with fail;generalize w5.setCell ⟨L.wb,11,none⟩ (.int .i64 ((W.calls:Int)+1))=w6 at i |-;refine(UM K L _ n w6 i.out.CZ.Bi (by show W.calls+1<_;omega) (t.out.1 trivial).1 (t.out.1 trivial).2).mono ?_;rintro e w7 ⟨rfl,a2⟩;have d:=i.out.trans (i.out.CZ.turn a2);have f5:=i.out.trans (i.out.CZ.turn a2);simp only[Gi] at l;clear a2
 case' neg =>
  obtain rfl:=t.out.2 he;have e7:(er != 0)=true:=by simp[he]
  have e8:(er==0)=false:=by simp[he]
  go_wp2_with fail;generalize w5.setCell ⟨L.wb,11,none⟩ (.int .i64 ((W.calls:Int)+1))=w7 at i |-;have d:=i.out;simp only[IV he] at l
 all_goals
  have S:=Z d;have d2:=b.out.op d;simp only[OpM.cells,Ver.cells,IY,Hd,hk] at d2;have c8:=d.CZ.Bi.Ao;simp only at c8;have c4:W.st[L.ps.length-1]'(by omega)=m:=by rw[IW (by omega)] at hm;exact Hl hm
  have C:=Z (fun a (f:Fr Nil w7 a)=>Zx K L _ a (d.CZ.Bi.nil f) hp (by omega));have c:=(d.CZ.Bi.last hp).2;simp only[c4] at c;have y:L.ps[L.ps.length-1]<w7.heap.size:=by obtain⟨c0,d7⟩:=c.CY;exact d7.lt
  obtain⟨q,c6⟩:∃ q,q=L.ps[L.ps.length-1]:=⟨_,rfl⟩;rw[<- c6] at c y C l;have a6:=Z (fun a (f:Fr Nil w7 a)=>VT K q m o.key a (c.Bt (zQ.BO f (fun k e=>⟨(d.CZ.Bi.Bt k e).1,id⟩)) (fun _ e=>e)) e0);have b0:=Z y;have d3:Hid (∀ a,Fr Nil w7 a->a.cell? ⟨w.heap.size,4,none⟩=some (.string o.key)):=fun a f=>b.out.op (d.trans (d.CZ.nil f)) 4;clear d c4 c y c6 i b6 c1 d1 d5;go_wp2_with fail
  go_region_held3 (fun p=>p.cell? ⟨w.heap.size,4,none⟩=some (.string o.key)) (first|assumption|go_keep)
   (first
   | (go_at_call 108;refine(a6.out _ za).mono ?_;rintro e w8 ⟨nb,rfl,c7,a0,c5⟩;have V:Fr Nil w7 w8:=Fr.trans za a0;have e4:=Z V;have e3:=d3.out w8 V;have d6:=Z c7;have T:=Z (S.out.trans ((S.out.CZ.nil (by exact za)).trans ((S.out.CZ.nil (by exact za)).CZ.gr a0)));have d4:=Z c5;clear a0 V c7 c5)
   | (go_at_call 107;refine(C.out _ za).mono ?_;rintro e w9 ⟨rfl,n9,e9⟩;subst w9))
  have e1:=b.out.op T.out;simp only[OpM.cells,Ver.cells,IY,Hd,hk] at e1;clear d2 e3;have e6:=b.out.ma T.out;have a7:=Z (l.out _ X5 nb w8 (b.out.st.trans T.out) d6.out (by have h1:=b0.out;have h2:w7.heap.size<=nb:=d4.out;omega));clear l;go_wp2_with fail;refine a7.out.mono ?_;rintro e f6 ⟨rfl,I⟩;have b1:=Z I;clear I;go_wp2_with fail;go_ret;exact⟨rfl,b1.out⟩
end Go.Proofs.YtkhnggkkiefcdaaGreatDoor
