/- larder: joined texts -/
import Derived.Test.YtkhnggkkiefcdaaGreatDoorALAM
namespace Go.Proofs.YtkhnggkkiefcdaaGreatDoor
open Go.RowKit Proofs.Tryz
set_option maxRecDepth 100000
set_option maxHeartbeats 8000000
variable{b:Nat}{a:Bool}{p:Prop}{K S:Nat->Prop}{w:World}{L:WL}{W:WM}{j:List Value}{r:Value}{l:List Ver}
theorem KX(K:Nat->Prop)(B:Nat)(L:WL)(W:WM)(X:NL)(N:NM)(M:DM)(o:OpM)(w:World)(h:Play K B w L W X N M)(hk:o.kind=10)(hp:0<L.ps.length)(hl:L.ps.length<1000000)
 (m:LM)(hm:W.st[L.ps.length-1]?=some m)(a4:N.uW=W.tq)(a0:N.S.uR.length=m.uR.length)(T:N.S.uU.length=m.uU.length) :
 Calls prog 65 #[E L.wb 0,.agg o.cells.toArray] w fun e w'=>e=.returned (.bool true)/\PStep K B L X M w K L W X N M w':=by
 obtain⟨b2,a,b,c,key,g,v,d⟩:=o;simp only at hk |-;subst hk;simp only[OpM.cells,Ver.cells,CZ,Ba];have f1:Fr Nil w (w.alloc (.cells #[I 10,I a,I b,I c,.string key,.string g,I v.node,I v.seq,I v.o0,I v.o1,I v.o2,I v.o3,.string v.value,.bool v.ts,d] 39)):=(U _ _).alloc _;have t:=Blk.new w [I 10,I a,I b,I c,.string key,.string g,I v.node,I v.seq,I v.o0,I v.o1,I v.o2,I v.o3,.string v.value,.bool v.ts,d] 39;have HC:=Z (fun i (f:Fr Nil w i)=>zE i L.db X.LD M ((h.tI).nil f));have a7:=Z (fun i (f:Fr Nil w i)=>Tx X N M i (h.node.nil f));have l:=Z (fun i (f:Fr Nil w i)=>ZD K L W i (h.tE.nil f) hp V);have a2:L.ps.length=W.st.length:=h.tE.qB;have a1:W.st[L.ps.length-1]' V=m:=by rw[CS V] at hm;exact BA hm
 have j:=(h.tE.tu hp).2;simp only[a1] at j;obtain⟨q,a3⟩:∃ q,q=L.ps[L.ps.length-1]:=⟨_,rfl⟩;rw[<- a3] at j l;obtain⟨kv,hv,G,J,a8⟩:=j;have S:G.length=m.uR.length:=J.rq.length;obtain⟨ka,kc,rfl⟩:=zf J.qi;obtain⟨ja,jc,rfl⟩:=zf J.sE;have D:=Z J.td;have x:∀ i,Fr Nil w i->∀ k,i.cell? (Y L.wb k)=(W.cells L)[k]?:=fun i f=>(h.tE.nil f).td.cell;have A:=Z x;have R:=x _ f1;simp only[WM.cells,h.nv] at R;have a9:=t.cell;have p:=Z f1;have a6:=Z t;have HH:=Z h;rw[S] at D;clear h f1 t a1 a3 J x S a8;go_enter vN,vC
 go_wp2_with (refine(HC.o _ p.o).mono ?_;rintro e i ⟨rfl,b1⟩;subst i)
 refine(l.o _ p.o).mono ?_;rintro e w2 ⟨rfl,n2,b6⟩;subst w2;have s:Fr Nil w ((w.alloc (.cells #[I 10,I a,I b,I c,.string key,.string g,I v.node,I v.seq,I v.o0,I v.o1,I v.o2,I v.o3,.string v.value,.bool v.ts,d] 39)).drewN n2):=p.o.drewN n2;have u:=A.o _ s;simp only[WM.cells,HH.o.nv] at u;have a5:∀ k,((w.alloc (.cells #[I 10,I a,I b,I c,.string key,.string g,I v.node,I v.seq,I v.o0,I v.o1,I v.o2,I v.o3,.string v.value,.bool v.ts,d] 39)).drewN n2).cell? (Y w.heap.size k)=_:=(a6.o.drewN n2).cell;have r:=Z s;clear R a9 s;generalize (w.alloc (.cells #[I 10,I a,I b,I c,.string key,.string g,I v.node,I v.seq,I v.o0,I v.o1,I v.o2,I v.o3,.string v.value,.bool v.ts,d] 39)).drewN n2=w2 at u a5 r |-;go_wp2_with fail;refine(a7.o _ r.o).mono ?_;rintro e y ⟨rfl,f3⟩;rw[a4,a0,T];have Q:=Blk.new y [.bool W.tq,I m.uR.length,I m.uU.length] 81;have f4:Fr Nil w (y.alloc (.cells #[.bool W.tq,I m.uR.length,I m.uU.length] 81)):=(r.o.trans f3).alloc _;have b0:∀ n k,((y.alloc (.cells #[.bool W.tq,I m.uR.length,I m.uU.length] 81)).drewN n).cell? (Y L.wb k)=(W.cells L)[k]?:=fun n=>A.o _ (f4.drewN n);have b5:∀ n k,((y.alloc (.cells #[.bool W.tq,I m.uR.length,I m.uU.length] 81)).drewN n).cell? (Y y.heap.size k)=[Value.bool W.tq,I m.uR.length,I m.uU.length][k]?:=fun n=>(Q.drewN n).cell;have b4:∀ n k,((y.alloc (.cells #[.bool W.tq,I m.uR.length,I m.uU.length] 81)).drewN n).cell? (Y q k)=_:=fun n=>(D.o.fr (f4.drewN n) (fun e=>e)).cell;have C:=Z f4;simp only[WM.cells] at b0;clear u a5 f4 f3 Q a4 a0 T a2 hm;generalize m.uR.length=kl at *;generalize m.uU.length=b3 at *;generalize W.tq=br at *;cases br
 all_goals
  go_wp2_with fail
  go_quiet (fail)
  go_wp2_with fail;refine(HC.o _ (C.o.drewN _)).mono ?_;rintro e i ⟨rfl,b1⟩;subst i;go_wp2_with fail;go_ret;exact⟨rfl,HH.o.nil (C.o.drewN _)⟩
def Yo(c:Int):Int:=if c<0 then 1152921504606846976 else c
def WM.uQ(node c e g:Int)(a:Nat):WM:=⟨node,c,e,g,false,false,0,0,0,0,0,a,0,[⟨node,[],[]⟩],⟨[],[],[],[],[],[]⟩⟩
def WL.uQ(a:Nat):WL:=⟨a+1,a,.pointer none,.slice (some (Y (a+3) 0)) 1 1,.slice none 0 0,[a+2],.slice none 0 0,.slice none 0 0,.slice none 0 0,.slice none 0 0,.slice none 0 0,.slice none 0 0⟩
theorem KY(d:World)(a:Nat)(node c r s:Int)(b:Nat)(G:Blk d (a+1) [I node,I c,I r,I s,E a 0,.pointer none,.slice none 0 0,.bool false,.bool false,I 0,I 0,I 0,I 0,I 0,.slice none 0 0,I 0,I 0,.slice none 0 0,.slice none 0 0,.slice none 0 0,.slice none 0 0,.slice none 0 0,.slice none 0 0] 49)(hs:d.heap.size=a+2) :
 WAt (fun k=>k=a+2) ((((d.alloc (.cells #[I node,.slice none 0 0,.slice none 0 0] 107)).alloc (.cells #[E (a+2) 0] 104)).setCell (Y (a+1) 6) (.slice (some (Y (a+3) 0)) 1 1)).setCell (Y (a+1) 15) (I b)) (WL.uQ a) (WM.uQ node c r s b):=by
 have C:Fr Nil d (d.alloc (.cells #[I node,.slice none 0 0,.slice none 0 0] 107)):=(U _ _).alloc _;have g:=Blk.new d [I node,.slice none 0 0,.slice none 0 0] 107;have q:(d.alloc (.cells #[I node,.slice none 0 0,.slice none 0 0] 107)).heap.size=a+3:=by simp[hs]
 rw[hs] at g;generalize d.alloc (.cells #[I node,.slice none 0 0,.slice none 0 0] 107)=t at *;have A:Fr Nil t (t.alloc (.cells #[E (a+2) 0] 104)):=(U _ _).alloc _;have m:=Blk.new t [E (a+2) 0] 104;have L:(t.alloc (.cells #[E (a+2) 0] 104)).heap.size=a+4:=by simp[q]
 rw[q] at m;generalize t.alloc (.cells #[E (a+2) 0] 104)=u at *;have x:=((G.fr C (fun e=>e)).fr A (fun e=>e));have j:=g.fr A (fun e=>e);have D:Fr (fun k=>k=a+1) u (u.setCell (Y (a+1) 6) (.slice (some (Y (a+3) 0)) 1 1)):=Fr.set (S:=fun k=>k=a+1) (p:=⟨a+1,6,none⟩) (U _ _) (fun _=>rfl) _;have v:Fr (fun k=>k=a+1) u ((u.setCell (Y (a+1) 6) (.slice (some (Y (a+3) 0)) 1 1)).setCell (Y (a+1) 15) (I b)):=Fr.set (S:=fun k=>k=a+1) (p:=⟨a+1,15,none⟩) D (fun _=>rfl) _;have y:=(x.set 6 (.slice (some (Y (a+3) 0)) 1 1)).set 15 (I b);have l:=j.fr v V;have o:=m.fr v V;have M:=v.size;generalize (u.setCell (Y (a+1) 6) (.slice (some (Y (a+3) 0)) 1 1)).setCell (Y (a+1) 15) (I b)=f at *;refine⟨by simpa [WM.cells,WM.uQ,WL.uQ] using y,Yw (cap:=1) o (CP _) O rfl rfl,rfl,fun i B N=>?_,⟨Bf f 0 _ _,Bf f 0 _ _,Bf f 0 _ _,Bf f 0 _ _,Bf f 0 _ _,Bf f 0 _ _,fun k e=>by simp[WL.uQ,Value.ownBlock] at e,fun k e=>by simp[WL.uQ,Value.ownBlock] at e⟩,fun k e=>⟨V,fun h=>?_⟩⟩
 .have:i=0:=by simp[WL.uQ] at B;exact B
  subst this;refine⟨.slice none 0 0,.slice none 0 0,[],⟨l,Bf f 0 _ _,trivial,Bf f 0 _ _⟩,fun k K=>?_⟩;rcases K with rfl|e|e|⟨e,J,_⟩
  .rfl
  .simp[Value.ownBlock] at e
  .simp[Value.ownBlock] at e
  .simp at J
 .subst e
  unfold WFoot WL.uQ at h;simp[Value.ownBlock] at h
theorem FL{k:Nat}{a:Int}(g:Foot b DL.new (DM.new a) k):k=b:=by
 cases g using Foot.elim with
 | blk=>rfl
 | dir e=>simp[DL.new,Value.ownBlock] at e
 | safe e=>simp[DL.new,Value.ownBlock] at e
 | ch e=>simp[DL.new,Value.ownBlock] at e
 | chs i c e=>exact absurd c (BF _)
 | file e=>cases e
 | row f d e=>cases d
theorem TA(node a b c:Int)(i:Nat)(w:World) :
 Calls prog 16 #[.agg #[I node,I a,I b,I c],I i] w fun e R=>∃ d,w.heap.size<d/\e=.returned (E (d+1) 0)/\WAt (fun k=>k=d+2) R (WL.uQ d) (WM.uQ node a b c i)/\DRep R d DL.new (DM.new (Yo a))/\Fr Nil w R:=by
 have f1:Fr Nil w (w.alloc (.cells #[I node,I a,I b,I c] 23)):=(U _ _).alloc _;have x:=Blk.new w [I node,I a,I b,I c] 23;have A:=x.cell;have J:=Z f1;have s:=Z x;have v:=Z (fun T=>SG a T);rw[show(if a<0 then 1152921504606846976 else a)=Yo a from rfl] at v;generalize Yo a=r at v |-;clear f1 x;go_enter func16,ntmps16;go_wp2_with fail;generalize w.alloc (.cells #[I node,I a,I b,I c] 23)=g at A J s |-;have a1:∀ k,g.cell? (Y w.heap.size k)=[I node,I a,I b,I c][k]?:=A;have t:aa (∀ T,Fr Nil g T->∀ k,T.cell? (Y w.heap.size k)=[I node,I a,I b,I c][k]?):=fun T f=>(s.o.fr f (fun e=>e)).cell;clear A
 go_region_held3 (fun R=>∀ k,R.cell? (Y w.heap.size k)=[I node,I a,I b,I c][k]?) (first|assumption|exact t.o _ zd|go_keep)
  (first
  | (go_at_call 50;refine(RX _ _).mono ?_;rintro e j ⟨rfl,N,Q,m⟩;have l:Fr Nil g j:=Fr.trans zd Q;have a4:=t.o j l;have a0:=Z l;have G:aa (DRep j g.heap.size DL.new (DM.new r)):=N;clear Q N)
  | (go_at_call 51;refine(v.o _).mono ?_;rintro e j ⟨rfl,a9⟩;subst j))
 replace m:j.heap.size=g.heap.size+1:=m
 have a5:∀ k,(j.alloc (.cells #[I node,I a,I b,I c,E g.heap.size 0,.pointer none,.slice none 0 0,.bool false,.bool false,I 0,I 0,I 0,I 0,I 0,.slice none 0 0,I 0,I 0,.slice none 0 0,.slice none 0 0,.slice none 0 0,.slice none 0 0,.slice none 0 0,.slice none 0 0] 49)).cell? (Y w.heap.size k)=[I node,I a,I b,I c][k]?:=t.o _ (l.alloc _);have y:=Blk.new j [I node,I a,I b,I c,E g.heap.size 0,.pointer none,.slice none 0 0,.bool false,.bool false,I 0,I 0,I 0,I 0,I 0,.slice none 0 0,I 0,I 0,.slice none 0 0,.slice none 0 0,.slice none 0 0,.slice none 0 0,.slice none 0 0,.slice none 0 0] 49;have f3:Fr Nil j (j.alloc (.cells #[I node,I a,I b,I c,E g.heap.size 0,.pointer none,.slice none 0 0,.bool false,.bool false,I 0,I 0,I 0,I 0,I 0,.slice none 0 0,I 0,I 0,.slice none 0 0,.slice none 0 0,.slice none 0 0,.slice none 0 0,.slice none 0 0,.slice none 0 0] 49)):=(U _ _).alloc _;have u:=Z (G.o.nil f3);have K:=Z (J.o.trans (l.trans f3));rw[m] at y;have o:=Z y;have X:aa (g.heap.size=g.heap.size):=rfl;have L:aa (w.heap.size<g.heap.size):=s.o.lt;have C:(j.alloc (.cells #[I node,I a,I b,I c,E g.heap.size 0,.pointer none,.slice none 0 0,.bool false,.bool false,I 0,I 0,I 0,I 0,I 0,.slice none 0 0,I 0,I 0,.slice none 0 0,.slice none 0 0,.slice none 0 0,.slice none 0 0,.slice none 0 0,.slice none 0 0] 49)).heap.size=g.heap.size+1+1:=by simp[m]
 generalize j.alloc (.cells #[I node,I a,I b,I c,E g.heap.size 0,.pointer none,.slice none 0 0,.bool false,.bool false,I 0,I 0,I 0,I 0,I 0,.slice none 0 0,I 0,I 0,.slice none 0 0,.slice none 0 0,.slice none 0 0,.slice none 0 0,.slice none 0 0,.slice none 0 0] 49)=D at a5 u K o C |-;have M:=Z C;clear a4 l m f3 y a1 a0 G C;generalize a2:g.heap.size=d at o u M L |-;clear a2 X;have f5:Fr Nil D ((D.alloc (.cells #[I node,.slice none 0 0,.slice none 0 0] 107)).alloc (.cells #[E D.heap.size 0] 104)):=((U _ _).alloc _).alloc _;have q:=o.o.fr f5 (fun e=>e);have a8:=q.cell;have b0:=q.frozen;have a6:=Z q;have a7:=Z f5;clear q f5;go_wp2_with fail;go_ret;have h3:D.heap.size=d+2:=M.o;rw[h3];have a3:=L.o;refine⟨d,a3,rfl,KY D d node a b c i o.o h3,?_,?_⟩
 .have g6:Fr (fun k=>k=d+1) D _:=Fr.set (S:=fun k=>k=d+1) (p:=⟨d+1,15,none⟩) (Fr.set (S:=fun k=>k=d+1) (p:=⟨d+1,6,none⟩) (((U _ D).alloc (.cells #[I node,.slice none 0 0,.slice none 0 0] 107)).alloc (.cells #[E (d+2) 0] 104)) (fun _=>rfl) (.slice (some (Y (d+3) 0)) 1 1)) (fun _=>rfl) (I i)
  exact u.o.fr g6 (fun k hk=>by rw[FL hk];omega)
 .exact Fr.set (Fr.set ((K.o.alloc _).alloc _) (fun h=>by simp only at h;omega) _) (fun h=>by simp only at h;omega) _
theorem Cv:((prog.info? 61).map fun i=>(i.zero.map (·.cells.size),i.size,i.bytes))=some (some 1,1,24):=bI
theorem Cw:((prog.info? 91).map fun i=>(i.zero.map (·.cells.size),i.size,i.bytes))=some (some 1,1,24):=bI
theorem Cx:((prog.info? 66).map fun i=>(i.zero.map (·.cells.size),i.size,i.bytes))=some (some 1,1,24):=bI
theorem Te:((prog.info? 3).map fun i=>(i.zero.map (·.cells.size),i.size,i.bytes))=some (some 1,1,8):=bI
theorem XU{t e:TypeId}{a:Nat}(J:prog.underlying t=some (.slice e))(B:((prog.info? e).map fun i=>(i.zero.map (·.cells.size),i.size,i.bytes))=some (some 1,1,a))(o:a<=24)
 (w:World)(v:Value)(n:Nat)(s:List Value)(h:w.ownsRow 0 e 1 v n s)(x:Value)(y:x.oneCell'=true)(K:n<1000000000)(g:World)(q:Fr Nil w g)(N:Nat)(C:Blk g N [x] e)(ty:TypeId) :
 ∃ c d,(Builtin.append_ #[t,t] ty #[v,.slice (some (Y N 0)) 1 1]).run prog g=.ok c d /\
  (d.ownsRow 0 e 1 c (n+1) (s++[x])/\Fr (fun k=>v.ownBlock=some k) w d/\(∀ k,c.ownBlock=some k->v.ownBlock=some k\/w.heap.size<=k)):=by
 have D:=ze h q (fun _ _=>id);obtain⟨c,d,G,l,A,b⟩:=zq (P:=prog) t ty e 1 a J B V v n s D ⟨N,0,none⟩ 1 1 [x] rfl
  (fun j u f=>by rw[BO,BQ,C.cell];exact f) (by intro u f;simp at f;subst f;exact y) ac (CO (vz _ o) V)
 refine⟨c,d,G,l,(q.mono (fun _ _ e=>absurd e id)).tk ((Fr.sB A).mono (fun i _ h=>h)) (fun i _ h=>h),fun k r=>?_⟩;rcases b with b|b
 .exact .inl (by rw[<- b];exact r)
 .rw[b] at r;simp at r;have:=q.size;exact .inr V
theorem zO(b n:Nat)(r:List UInt8)(w:World)(h:Src w b (zk n++r) false)(d:n<9223372036854775808) :
 Calls prog 149 #[E b 0] w fun e a=>e=.returned (I n)/\Src a b r false/\Fr (fun k=>k=b) w a:=by
 refine(Vb b _ false w h bG).mono ?_;intro e a c;rw[Pr n r d] at c;exact c
theorem SJ(b:Nat)(d:List UInt8)(w:World)(h:Src w b d false)(f:Y4 0 0 d=none) :
 Calls prog 149 #[E b 0] w fun e a=>e=.returned (I 0)/\Src a b [] true/\Fr (fun k=>k=b) w a:=by
 refine(Vb b _ false w h bG).mono ?_;intro e a c;rw[f] at c;exact c
def Read1(w:World)(b:Nat)(r:List UInt8)(a:World):Prop:=Src a b r false/\Fr (fun k=>k=b) w a
theorem WP(b:Nat)(s r:List UInt8)(w:World)(h:Src w b (Zk s++r) false)(hs:s.length<=1000000000) :
 Calls prog 150 #[E b 0] w fun e q=>e=.returned (.string (zp s))/\Read1 w b r q:=by
 have k:Zk s++r=zk s.length++(s++r):=by simp[Zk]
 rw[k] at h;have o:=Z h;clear h k;have m:=Z (fun t=>ZQ (zp s) t hs);go_enter func150,ntmps150
 go_wp2_with (first
  | (refine(m.o _).mono ?_;rintro e x ⟨rfl,d⟩)
  | (refine(WC s.length b (s++r) false _ i.o.1 bG).mono ?_;rintro e v ⟨rfl,g,c⟩;have j:=Z (And.intro g c);clear g c)
  | (refine(zO b s.length (s++r) _ o.o V).mono ?_;rintro e u ⟨rfl,f,a⟩;have i:=Z (And.intro f a);clear f a))
 go_ret;have l:=j.o.1;rw[yB] at l;exact⟨rfl,l.fr d id,(i.o.2.trans j.o.2).trans (d.mono (fun _ _ e=>absurd e id))⟩
def Vk(l:List Nat):List Value:=l.map fun n:Nat=>I (n:Int)
def Hw(w a:World)(t:TypeId)(size:Nat)(v:Value)(n:Nat)(b:List Value):Prop :=
 a.ownsRow 0 t size v n b/\∀ k,v.ownBlock=some k->w.heap.size<=k
theorem Hx(h:p:=by
 have a3:i=l.length:=V
 subst a3;go_wp2_with fail;go_ret;rw[Bj] at a;rw[vd] at u;exact⟨_,rfl,⟨a,c⟩,u,L⟩):p:=h
theorem QY(b:Nat)(l:List Nat)(r:List UInt8)(w:World)(h:Src w b (Xq l++r) false)(hl:∀ x∈l,x<9223372036854775808)(a4:l.length<1000000) :
 Calls prog 194 #[E b 0,.func (.func 149) #[] #[]] w fun e j =>
  ∃ v,e=.returned v/\Hw w j 3 1 v l.length (Vk l)/\Read1 w b r j:=by
 have T:Xq l++r=zk l.length++((l.map zk).flatten++r):=by simp[Xq]
 rw[T] at h;have a0:=h.lt;have HH:=Z h;clear h T;have HL:=Z hl;clear hl;go_enter func194,ntmps194
 go_wp2_with (refine(zO b l.length _ _ HH.o V).mono ?_;rintro e w1 ⟨rfl,s,o⟩;have M:=Z (And.intro s o);clear s o)
 go_loopw [5,9] (fun t5 J j=>∃ i:Nat,i<=l.length/\J=I (i:Int)/\Hw w j 3 1 t5 i (Vk (l.take i))/\Src j b (((l.drop i).map zk).flatten++r) false/\Fr (fun k=>k=b) w j) (fun _ J _=>(l.length-intOf J).toNat)
 case atStart=>exact⟨0,V,rfl,⟨⟨by simp[Vk],.inl ⟨rfl,rfl⟩⟩,fun k m=>by simp[Value.ownBlock] at m⟩,M.o.1,M.o.2⟩
 case round =>
  obtain⟨i,hi,rfl,⟨a,c⟩,u,L⟩:=hrel;by_cases f:i<l.length
  .have e2:((l.drop i).map zk).flatten++r=zk l[i]++(((l.drop (i+1)).map zk).flatten++r):=by
    rw[BJ f];simp only[Bw,yA,Be]
   rw[e2] at u;have hx:=HL.o l[i] (CU f);have K:=Z hx;have Q:=Z u;have R:aa (Vk (l.take (i+1))=Vk (l.take i)++[I (l[i]:Int)]):=by
    show Vk _=_;unfold Vk;rw[yP,CS f,Bq];rfl
   clear u e2 hx;generalize G:l[i]=x at K Q R;obtain⟨va,vc,rfl⟩:=zf a;have HR:=Z a;have t:=Z c;have N:=Z L;clear a c L G;have B:i<1000000000:=V
   go_wp2_with (first
    | (at_builtin;go_must (refine zm rfl _ _ _ _ rfl _ _ bH bH (XU xf Te O _ _ _ _ A.o (I x) rfl B _ zd _ aw _) ?_);rintro v' w3 ⟨D,q,C⟩)
    | (refine(zO b x _ _ Q.o K.o).mono ?_;rintro e w2 ⟨rfl,g,d⟩;have a2:=g.cell;have y:=Z (And.intro g d);have A:=Z (ze HR.o d (fun k m e=>by have:=t.o k m;omega));clear g d))
   refine⟨⟨i+1,V,by go_num,⟨by rw[R.o];exact D,fun k m=>?_⟩,?_,?_⟩,by simp[intOf];omega⟩
   .have:=N.o.size
    have:=y.o.2.size;rcases C k m with X|X
    .exact t.o k X
    .omega
   .exact y.o.1.fr q (fun e=>by have:=t.o b e;omega)
   .exact(N.o.trans y.o.2).tk q (fun k m e=>absurd (t.o k e) V)
  .exact Hx
theorem Ub(s:ByteArray):zp s.data.toList=s:=by
 apply wA
 simp[zp]
theorem info1:(prog.info? 3).map (·.size)=some 1:=bI
theorem Tn(b:Nat)(v:Ver)(hv:v.Nat)(hg:v.ts=false)(r:List UInt8)(w:World)(h:Src w b (Y9 v++r) false) :
 Calls prog 152 #[E b 0] w fun e w'=>e=.returned (.agg v.cells.toArray)/\Read1 w b r w':=by
 obtain⟨node,a,i,l,m,o,c,c5⟩:=v;simp only at hg;subst hg;obtain⟨y,N,h0,h1,h2,h3,A⟩:=hv;simp only[isN] at y N h0 h1 h2 h3 A;obtain⟨node,rfl⟩:=Ai y.1;obtain⟨a,rfl⟩:=Ai N.1;obtain⟨i,rfl⟩:=Ai h0.1;obtain⟨l,rfl⟩:=Ai h1.1;obtain⟨m,rfl⟩:=Ai h2.1;obtain⟨o,rfl⟩:=Ai h3.1;have e1:Y9 ⟨node,a,i,l,m,o,c,false⟩++r=zk node++(zk a++(Xq [i,l,m,o]++(Zk c.data.toList++r))):=by
  simp[Y9]
 rw[e1] at h;have c6:=h.lt;have HH:=Z h;clear h e1;have H0:=Z h0;have H1:=Z h1;have H2:=Z h2;have H3:=Z h3;clear h0 h1 h2 h3;go_enter func152,ntmps152;go_wp2_with fail;have X:Blk ((w.alloc (.cells #[I 0,I 0,I 0,I 0,I 0,I 0,.string ⟨#[]⟩,.bool false] 37)).alloc (.cells #[I 0,I 0,I 0,I 0,I 0,I 0,.string ⟨#[]⟩,.bool false] 37)) w.heap.size [I 0,I 0,I 0,I 0,I 0,I 0,.string ⟨#[]⟩,.bool false] 37 :=
  (Blk.new w [I 0,I 0,I 0,I 0,I 0,I 0,.string ⟨#[]⟩,.bool false] _).alloc _
 have a0:Blk ((w.alloc (.cells #[I 0,I 0,I 0,I 0,I 0,I 0,.string ⟨#[]⟩,.bool false] 37)).alloc (.cells #[I 0,I 0,I 0,I 0,I 0,I 0,.string ⟨#[]⟩,.bool false] 37)) (w.heap.size+1) [I 0,I 0,I 0,I 0,I 0,I 0,.string ⟨#[]⟩,.bool false] 37:=by
  have h0:=Blk.new (w.alloc (.cells #[I 0,I 0,I 0,I 0,I 0,I 0,.string ⟨#[]⟩,.bool false] 37)) [I 0,I 0,I 0,I 0,I 0,I 0,.string ⟨#[]⟩,.bool false] 37
  simpa using h0
 have G:Fr Nil w ((w.alloc (.cells #[I 0,I 0,I 0,I 0,I 0,I 0,.string ⟨#[]⟩,.bool false] 37)).alloc (.cells #[I 0,I 0,I 0,I 0,I 0,I 0,.string ⟨#[]⟩,.bool false] 37)):=((U _ _).alloc _).alloc _;generalize (w.alloc (.cells #[I 0,I 0,I 0,I 0,I 0,I 0,.string ⟨#[]⟩,.bool false] 37)).alloc (.cells #[I 0,I 0,I 0,I 0,I 0,I 0,.string ⟨#[]⟩,.bool false] 37)=W0 at X a0 G |-;have a5:Fr (fun k=>k=b) w W0:=G.mono (fun _ _ e=>absurd e id)
 -- the node
 refine(zO b node _ W0 (HH.o.fr G id) V).mono ?_;rintro e w1 ⟨rfl,B,J⟩;have s:=X.fr J V;have f:=a0.fr J V;have c0:=f.cell;have c3:=f.frozen;go_wp2_with fail;have f:=f.set 0 (I node);have s:=s.qv (b':=w.heap.size+1) V 0 (I node);have B:Src _ b _ false:=Blk.qv B (b':=w.heap.size+1) V 0 (I node);have Q:=(a5.trans J).set (p:=⟨w.heap.size+1,0,none⟩) (fun h=>absurd h bG) (I node);generalize w1.setCell (Y (w.heap.size+1) 0) (I node)=W1 at f s B Q |-;clear c0 c3 J X a0 G a5
 -- its number
 refine(zO b a _ W1 B V).mono ?_;rintro e w2 ⟨rfl,C,K⟩;have t:=s.fr K V;have d:=f.fr K V;have c1:=d.cell;have c4:=d.frozen;go_wp2_with fail;have d:=d.set 1 (I a);have t:=t.qv (b':=w.heap.size+1) V 1 (I a);have C:Src _ b _ false:=Blk.qv C (b':=w.heap.size+1) V 1 (I a);have R:=(Q.trans K).set (p:=⟨w.heap.size+1,1,none⟩) (fun h=>absurd h bG) (I a);generalize w2.setCell (Y (w.heap.size+1) 1) (I a)=W2 at d t C R |-;clear c1 c4 K f s B Q;simp at d
 -- the four
 have b0:∀ x∈[i,l,m,o],x<9223372036854775808:=by
  have:=H0.o.2;have:=H1.o.2;have:=H2.o.2;have:=H3.o.2;intro x hx;simp at hx;rcases hx with rfl|rfl|rfl|rfl <;> omega
 have b6:=Z C;have b5:=Z d;have b3:=Z t;have b2:=Z b0;have D:=Z (HH.o.lt);have c7:w.heap.size+2<=W2.heap.size:=d.lt;clear C d t b0
 go_region_law
  (first
  | (go_simp;go_at_call 194;refine(QY b [i,l,m,o] _ W2.drew b6.o b2.o bG).mono ?_;rintro e w3 ⟨v3,rfl,M,a2⟩
     have L:Fr (fun k=>k=b) W2 w3:=Fr.trans ((U _ W2).drew) a2.2;obtain⟨g,b7,rfl,d1,d2⟩:=zl M.1 bG;have a4:=Z (b5.o.fr L aT);have b4:=Z (b3.o.fr L aT);have a3:aa (∀ (j:Nat) (v:Value),[I (i:Int),I l,I m,I o][j]?=some v->w3.cell? (((Y g 0):Addr).add j)=some v):=fun j v hj=>by
      rw[BO,BQ];exact own_cell? M.1 _ _ hj
     have c8:=Z M;have HR:=Z (And.intro a2.1 L);clear M a2 L)
  | (refine YT rfl _ _ 26 26 rfl _ _ bH bH (ZC (P:=prog) 26 3 _ 1 xf info1 (w.heap.size+1) 2 4 4 ⟨g,0,none⟩ 4 b7 _ [I i,I l,I m,I o] 37 a4.o rfl a3.o bG aA) ?_))
 have a8:Blk (w3.setRow (w.heap.size+1) #[I node,I a,I i,I l,I m,I o,.string ⟨#[]⟩,.bool false]) (w.heap.size+1) [I node,I a,I i,I l,I m,I o,.string ⟨#[]⟩,.bool false] 37 :=
  a4.o.setRow [I node,I a,I i,I l,I m,I o,.string ⟨#[]⟩,.bool false]
 have q:Fr (fun k=>k=w.heap.size+1) w3 (w3.setRow (w.heap.size+1) #[I node,I a,I i,I l,I m,I o,.string ⟨#[]⟩,.bool false]):=Fr.setRow (S:=fun k=>k=w.heap.size+1) (U _ _) (fun _=>rfl) _;have a7:=b4.o.fr q V;have b1:Src _ b _ false:=Blk.fr HR.o.1 q aT;have a6:=(R.trans HR.o.2).tk q (fun k hk e=>V);generalize w3.setRow (w.heap.size+1) #[I node,I a,I i,I l,I m,I o,.string ⟨#[]⟩,.bool false]=W4 at a8 a7 b1 a6 |-;clear q R;have c9:=D.o;go_wp2_with fail;refine(WP b c.data.toList r W4 b1 (by simpa using xD A)).mono ?_;rintro e w5 ⟨rfl,c2,a1⟩;have a9:=a8.fr a1 V;have T:=a7.fr a1 V;have d0:=a9.cell;have d4:=a9.frozen;have d3:=T.cell;have d5:=T.frozen;rw[Ub];go_wp2_with fail;have u:=(((((((((T.qv (b':=w.heap.size+1) V 6 (.string c)).set 0 (I node)).set 1 (I a)).set 2 (I i)).set 3 (I l)).set 4 (I m)).set 5 (I o)).set 6 (.string c)).set 7 (.bool false));have u:Blk _ w.heap.size (Ver.cells ⟨node,a,i,l,m,o,c,false⟩) 37:=u;have b8:=a6.trans a1;have b9:Src _ b r false:=((((((((c2.qv (b':=w.heap.size+1) V 6 (.string c)).qv (b':=w.heap.size) V 0 (I node)).qv (b':=w.heap.size) V 1 (I a)).qv (b':=w.heap.size) V 2 (I i)).qv (b':=w.heap.size) V 3 (I l)).qv (b':=w.heap.size) V 4 (I m)).qv (b':=w.heap.size) V 5 (I o)).qv (b':=w.heap.size) V 6 (.string c)).qv (b':=w.heap.size) V 7 (.bool false);refine xC (results_cell_row rfl _ _ w.heap.size _ _ _ _ rfl u underlying37 rfl bI) rfl ⟨rfl,b9,?_⟩
 repeat' first|(with_reducible exact b8)|(with_reducible refine Fr.set ?_ ?_ _)|(intro h;exact absurd h bG)
theorem WStep.nI{c:World}{a:WL}{g:WM}(h:WAt K w L W)(i:Nat)(f:Value)(m:Fr S w c)(r:∀ b,S b->WFoot L b/\b≠L.wb/\L.sv.ownBlock≠some b)
 (M:(W.cells L).set i f=g.cells a)(t:a.wb=L.wb)(l:a.db=L.db)(u:a.nv=L.nv)(v:a.sv=L.sv)(x:a.ps=L.ps)(y:g.st=W.st)
 (J:∀ D,Fr (fun k=>k=L.wb) c D->BAt D a g.bk)(C:∀ k,WFoot a k->WFoot L k\/w.heap.size<=k)(A:a.tv=L.tv:=by rfl) :
 WStep K L w a g (c.setCell (Y L.wb i) f):=by
 obtain⟨wb,N,Q,T,X,R,vs,vm,ns,nm,hs,hm⟩:=a;simp only at t l u v x A;subst t l u v x;have s:Blk c L.wb _ _:=h.td.fr m (fun e=>(r _ e).2.1 rfl);have o:Fr (fun k=>k=L.wb) c (c.setCell (Y L.wb i) f):=Fr.set (S:=fun k=>k=L.wb) (p:=⟨L.wb,i,none⟩) (U _ _) (fun _=>rfl) _;have q:Fr (WFoot L) w (c.setCell (Y L.wb i) f):=(m.mono (fun k _ e=>(r k e).1)).tk (o.mono (S':=WFoot L) (fun k _ e=>.inl e)) (fun _ _ e=>e);refine⟨⟨?_,?_,?_,fun j G B=>?_,J _ o,fun k e=>⟨Bv (h.tW k e).1 q.size,fun d=>(C k d).elim (h.tW k e).2 (fun l=>by have:=(h.tW k e).1;omega)⟩⟩,q,C,rfl,rfl,rfl,A⟩
 .rw[<- M]
  exact s.set i f
 .exact ze (ze h.rY m (fun k e d=>(r k d).2.2 e)) o (fun k e d=>by subst d;exact zh h.rY h.td O e)
 .rw[y];exact h.qB
 .simp only[y] at B |-
  exact(h.qY j G B).tW (zR.rv q (fun k e=>h.tW k e)) (fun _ e=>e)
theorem WStep.qv{a g:World}{b:WL}{c:WM}(h:WStep K L a b c w)(f:Fr S w g)(d:∀ k,S k->a.heap.size<=k)(j:∀ k,WFoot b k->¬S k)(o:∀ k,K k->k<a.heap.size):WStep K L a b c g :=
 ⟨h.th.fr f j (fun k e hs=>by have:=d k hs;have:=o k e;omega),h.fr.tk (f.mono (S':=S) (fun _ _ e=>e)) (fun i q e=>by have:=d i e;omega),h.sd,h.wb,h.db,h.nv,h.tv⟩
theorem WStep.vs{q:World}(h:WAt K w L W){o:Value}(B:q.ownsRow 0 61 1 o j.length j)(x:Fr (fun b=>L.vs.ownBlock=some b) w q)(G:∀ b,o.ownBlock=some b->L.vs.ownBlock=some b\/w.heap.size<=b) :
 WStep K L w {L with vs:=o} {W with bk:={W.bk with vs:=j}} (q.setCell (Y L.wb 17) o):=by
 have d:∀ {t:TypeId} {k:Nat},Ty w k t->t≠61->¬L.vs.ownBlock=some k:=fun a J e=>J (a.inj (zr h.tC.vs e));have c:∀ {t:TypeId} {v:Value} {n s:Nat} {j:List Value},w.ownsRow 0 t s v n j->t≠61->t≠49->∀ f,Fr (fun k=>k=L.wb) q f->f.ownsRow 0 t s v n j:=fun A C D f g =>
  ze (ze A x (fun k e=>d (zr A e) C)) g (fun k e a=>by subst a;exact zh A h.td (fun e=>D e.symm) e)
 have y:Blk q L.wb _ _:=h.td.fr x (d h.td.ty O);refine WStep.nI h 17 o x (fun b e=>⟨.inr (.inr (.inl e)),fun r=>?_,fun r=>?_⟩) ai rfl rfl rfl rfl rfl rfl (fun f g=>⟨ze B g (fun k e a=>by subst a;exact zh B y O e),c h.tC.vm O O f g,c h.tC.ns O O f g,c h.tC.nm O O f g,c h.tC.hs O O f g,c h.tC.hm O O f g,h.tC.s1,h.tC.s2⟩) (fun k a=>?_)
 .subst r;exact d h.td.ty O e
 .exact d (zr h.rY r) O e
 rcases a with a|a|a|a|a|a|a|a
 .exact .inl (.inl a)
 .exact .inl (.inr (.inl a))
 .exact(G k a).elim (fun e=>.inl (.inr (.inr (.inl e)))) .inr
 .exact .inl (.inr (.inr (.inr (.inl a))))
 .exact .inl (.inr (.inr (.inr (.inr (.inl a)))))
 .exact .inl (.inr (.inr (.inr (.inr (.inr (.inl a))))))
 .exact .inl (.inr (.inr (.inr (.inr (.inr (.inr (.inl a)))))))
 .exact .inl (.inr (.inr (.inr (.inr (.inr (.inr (.inr (a))))))))
theorem WStep.vm{x:World}(h:WAt K w L W){o:List Nat}(B:x.ownsRow 0 3 1 r o.length (ZN o))(q:Fr (fun b=>L.vm.ownBlock=some b) w x)(C:∀ b,r.ownBlock=some b->L.vm.ownBlock=some b\/w.heap.size<=b) :
 WStep K L w {L with vm:=r} {W with bk:={W.bk with vm:=o}} (x.setCell (Y L.wb 18) r):=by
 have d:∀ {t:TypeId} {k:Nat},Ty w k t->t≠3->¬L.vm.ownBlock=some k:=fun a J e=>J (a.inj (zr h.tC.vm e));have c:∀ {t:TypeId} {v:Value} {n s:Nat} {o:List Value},w.ownsRow 0 t s v n o->t≠3->t≠49->∀ j,Fr (fun k=>k=L.wb) x j->j.ownsRow 0 t s v n o:=fun A D G j f =>
  ze (ze A q (fun k e=>d (zr A e) D)) f (fun k e a=>by subst a;exact zh A h.td (fun e=>G e.symm) e)
 have y:Blk x L.wb _ _:=h.td.fr q (d h.td.ty O);refine WStep.nI h 18 r q (fun b e=>⟨.inr (.inr (.inr (.inl e))),fun g=>?_,fun g=>?_⟩) ai rfl rfl rfl rfl rfl rfl (fun j f=>⟨c h.tC.vs O O j f,ze B f (fun k e a=>by subst a;exact zh B y O e),c h.tC.ns O O j f,ze (ze h.tC.nm q (fun k e a=>(h.tC.s1 k a).1 e)) f (fun k e a=>by subst a;exact zh h.tC.nm h.td O e),c h.tC.hs O O j f,ze (ze h.tC.hm q (fun k e a=>(h.tC.s1 k a).2 e)) f (fun k e a=>by subst a;exact zh h.tC.hm h.td O e),fun k e=>(C k e).elim (h.tC.s1 k) (fun M=>⟨fun g=>by have:=zF h.tC.nm g;omega,fun g=>by have:=zF h.tC.hm g;omega⟩),h.tC.s2⟩) (fun k a=>?_)
 .subst g;exact d h.td.ty O e
 .exact d (zr h.rY g) O e
 rcases a with a|a|a|a|a|a|a|a
 .exact .inl (.inl a)
 .exact .inl (.inr (.inl a))
 .exact .inl (.inr (.inr (.inl a)))
 .exact(C k a).elim (fun e=>.inl (.inr (.inr (.inr (.inl e))))) .inr
 .exact .inl (.inr (.inr (.inr (.inr (.inl a)))))
 .exact .inl (.inr (.inr (.inr (.inr (.inr (.inl a))))))
 .exact .inl (.inr (.inr (.inr (.inr (.inr (.inr (.inl a)))))))
 .exact .inl (.inr (.inr (.inr (.inr (.inr (.inr (.inr (a))))))))
theorem WStep.ns{o:World}(h:WAt K w L W){l:Value}(A:o.ownsRow 0 91 1 l j.length j)(r:Fr (fun b=>L.ns.ownBlock=some b) w o)(D:∀ b,l.ownBlock=some b->L.ns.ownBlock=some b\/w.heap.size<=b) :
 WStep K L w {L with ns:=l} {W with bk:={W.bk with ns:=j}} (o.setCell (Y L.wb 19) l):=by
 have d:∀ {t:TypeId} {k:Nat},Ty w k t->t≠91->¬L.ns.ownBlock=some k:=fun a G e=>G (a.inj (zr h.tC.ns e));have c:∀ {t:TypeId} {v:Value} {n s:Nat} {j:List Value},w.ownsRow 0 t s v n j->t≠91->t≠49->∀ f,Fr (fun k=>k=L.wb) o f->f.ownsRow 0 t s v n j:=fun y B C f g =>
  ze (ze y r (fun k e=>d (zr y e) B)) g (fun k e a=>by subst a;exact zh y h.td (fun e=>C e.symm) e)
 have x:Blk o L.wb _ _:=h.td.fr r (d h.td.ty O);refine WStep.nI h 19 l r (fun b e=>⟨.inr (.inr (.inr (.inr (.inl e)))),fun q=>?_,fun q=>?_⟩) ai rfl rfl rfl rfl rfl rfl (fun f g=>⟨c h.tC.vs O O f g,c h.tC.vm O O f g,ze A g (fun k e a=>by subst a;exact zh A x O e),c h.tC.nm O O f g,c h.tC.hs O O f g,c h.tC.hm O O f g,h.tC.s1,h.tC.s2⟩) (fun k a=>?_)
 .subst q;exact d h.td.ty O e
 .exact d (zr h.rY q) O e
 rcases a with a|a|a|a|a|a|a|a
 .exact .inl (.inl a)
 .exact .inl (.inr (.inl a))
 .exact .inl (.inr (.inr (.inl a)))
 .exact .inl (.inr (.inr (.inr (.inl a))))
 .exact(D k a).elim (fun e=>.inl (.inr (.inr (.inr (.inr (.inl e)))))) .inr
 .exact .inl (.inr (.inr (.inr (.inr (.inr (.inl a))))))
 .exact .inl (.inr (.inr (.inr (.inr (.inr (.inr (.inl a)))))))
 .exact .inl (.inr (.inr (.inr (.inr (.inr (.inr (.inr (a))))))))
theorem WStep.nm{x:World}(h:WAt K w L W){l:List Nat}(C:x.ownsRow 0 3 1 r l.length (ZN l))(q:Fr (fun b=>L.nm.ownBlock=some b) w x)(A:∀ b,r.ownBlock=some b->L.nm.ownBlock=some b\/w.heap.size<=b) :
 WStep K L w {L with nm:=r} {W with bk:={W.bk with nm:=l}} (x.setCell (Y L.wb 20) r):=by
 have d:∀ {t:TypeId} {k:Nat},Ty w k t->t≠3->¬L.nm.ownBlock=some k:=fun a J e=>J (a.inj (zr h.tC.nm e));have c:∀ {t:TypeId} {v:Value} {n s:Nat} {l:List Value},w.ownsRow 0 t s v n l->t≠3->t≠49->∀ j,Fr (fun k=>k=L.wb) x j->j.ownsRow 0 t s v n l:=fun B D G j g =>
  ze (ze B q (fun k e=>d (zr B e) D)) g (fun k e a=>by subst a;exact zh B h.td (fun e=>G e.symm) e)
 have y:Blk x L.wb _ _:=h.td.fr q (d h.td.ty O);refine WStep.nI h 20 r q (fun b e=>⟨.inr (.inr (.inr (.inr (.inr (.inl e))))),fun f=>?_,fun f=>?_⟩) ai rfl rfl rfl rfl rfl rfl (fun j g=>⟨c h.tC.vs O O j g,ze (ze h.tC.vm q (fun k e a=>(h.tC.s1 k e).1 a)) g (fun k e a=>by subst a;exact zh h.tC.vm h.td O e),c h.tC.ns O O j g,ze C g (fun k e a=>by subst a;exact zh C y O e),c h.tC.hs O O j g,ze (ze h.tC.hm q (fun k e a=>h.tC.s2 k a e)) g (fun k e a=>by subst a;exact zh h.tC.hm h.td O e),fun k e=>⟨fun f=>(A k f).elim (fun o=>(h.tC.s1 k e).1 o) (fun o=>by have:=zF h.tC.vm e;omega),(h.tC.s1 k e).2⟩,fun k e f=>(A k e).elim (fun o=>h.tC.s2 k o f) (fun o=>by have:=zF h.tC.hm f;omega)⟩) (fun k a=>?_)
 .subst f;exact d h.td.ty O e
 .exact d (zr h.rY f) O e
 rcases a with a|a|a|a|a|a|a|a
 .exact .inl (.inl a)
 .exact .inl (.inr (.inl a))
 .exact .inl (.inr (.inr (.inl a)))
 .exact .inl (.inr (.inr (.inr (.inl a))))
 .exact .inl (.inr (.inr (.inr (.inr (.inl a)))))
 .exact(A k a).elim (fun e=>.inl (.inr (.inr (.inr (.inr (.inr (.inl e))))))) .inr
 .exact .inl (.inr (.inr (.inr (.inr (.inr (.inr (.inl a)))))))
 .exact .inl (.inr (.inr (.inr (.inr (.inr (.inr (.inr (a))))))))
theorem WStep.hs{w4:World}(h:WAt K w L W){v':Value}{x:List Value}(D:w4.ownsRow 0 66 1 v' x.length x)(A:Fr (fun b=>L.hs.ownBlock=some b) w w4)(Q:∀ b,v'.ownBlock=some b->L.hs.ownBlock=some b\/w.heap.size<=b) :
 WStep K L w {L with hs:=v'} {W with bk:={W.bk with hs:=x}} (w4.setCell (Y L.wb 21) v'):=by
 have o:∀ {t:TypeId} {k:Nat},Ty w k t->t≠66->¬L.hs.ownBlock=some k:=fun c R e=>R (c.inj (zr h.tC.hs e));have g:∀ {t:TypeId} {v:Value} {n s:Nat} {x:List Value},w.ownsRow 0 t s v n x->t≠66->t≠49->∀ q,Fr (fun k=>k=L.wb) w4 q->q.ownsRow 0 t s v n x:=fun C G J q r =>
  ze (ze C A (fun k e=>o (zr C e) G)) r (fun k e c=>by subst c;exact zh C h.td (fun e=>J e.symm) e)
 have B:Blk w4 L.wb _ _:=h.td.fr A (o h.td.ty O);refine WStep.nI h 21 v' A (fun b e=>⟨.inr (.inr (.inr (.inr (.inr (.inr (.inl e)))))),fun y=>?_,fun y=>?_⟩) ai rfl rfl rfl rfl rfl rfl (fun q r=>⟨g h.tC.vs O O q r,g h.tC.vm O O q r,g h.tC.ns O O q r,g h.tC.nm O O q r,ze D r (fun k e c=>by subst c;exact zh D B O e),g h.tC.hm O O q r,h.tC.s1,h.tC.s2⟩) (fun k c=>?_)
 .subst y;exact o h.td.ty O e
 .exact o (zr h.rY y) O e
 rcases c with c|c|c|c|c|c|c|c
 .exact .inl (.inl c)
 .exact .inl (.inr (.inl c))
 .exact .inl (.inr (.inr (.inl c)))
 .exact .inl (.inr (.inr (.inr (.inl c))))
 .exact .inl (.inr (.inr (.inr (.inr (.inl c)))))
 .exact .inl (.inr (.inr (.inr (.inr (.inr (.inl c))))))
 .exact(Q k c).elim (fun e=>.inl (.inr (.inr (.inr (.inr (.inr (.inr (.inl e)))))))) .inr
 .exact .inl (.inr (.inr (.inr (.inr (.inr (.inr (.inr (c))))))))
theorem WStep.hm{X:World}(h:WAt K w L W){T:Value}{A:List Nat}(h4:X.ownsRow 0 3 1 T A.length (ZN A))(D:Fr (fun b=>L.hm.ownBlock=some b) w X)(hn:∀ b,T.ownBlock=some b->L.hm.ownBlock=some b\/w.heap.size<=b) :
 WStep K L w {L with hm:=T} {W with bk:={W.bk with hm:=A}} (X.setCell (Y L.wb 22) T):=by
 have q:∀ {t:TypeId} {k:Nat},Ty w k t->t≠3->¬L.hm.ownBlock=some k:=fun c ht e=>ht (c.inj (zr h.tC.hm e));have o:∀ {t:TypeId} {v:Value} {n s:Nat} {A:List Value},w.ownsRow 0 t s v n A->t≠3->t≠49->∀ y,Fr (fun k=>k=L.wb) X y->y.ownsRow 0 t s v n A:=fun ho h1 h2 y r =>
  ze (ze ho D (fun k e=>q (zr ho e) h1)) r (fun k e c=>by subst c;exact zh ho h.td (fun e=>h2 e.symm) e)
 have a0:Blk X L.wb _ _:=h.td.fr D (q h.td.ty O);refine WStep.nI h 22 T D (fun b e=>⟨.inr (.inr (.inr (.inr (.inr (.inr (.inr (e))))))),fun x=>?_,fun x=>?_⟩) ai rfl rfl rfl rfl rfl rfl (fun y r=>⟨o h.tC.vs O O y r,ze (ze h.tC.vm D (fun k e c=>(h.tC.s1 k e).2 c)) r (fun k e c=>by subst c;exact zh h.tC.vm h.td O e),o h.tC.ns O O y r,ze (ze h.tC.nm D (fun k e c=>h.tC.s2 k e c)) r (fun k e c=>by subst c;exact zh h.tC.nm h.td O e),o h.tC.hs O O y r,ze h4 r (fun k e c=>by subst c;exact zh h4 a0 O e),fun k e=>⟨(h.tC.s1 k e).1,fun x=>(hn k x).elim (fun C=>(h.tC.s1 k e).2 C) (fun C=>by have:=zF h.tC.vm e;omega)⟩,fun k e x=>(hn k x).elim (fun C=>h.tC.s2 k e C) (fun C=>by have:=zF h.tC.nm e;omega)⟩) (fun k c=>?_)
 .subst x;exact q h.td.ty O e
 .exact q (zr h.rY x) O e
 rcases c with c|c|c|c|c|c|c|c
 .exact .inl (.inl c)
 .exact .inl (.inr (.inl c))
 .exact .inl (.inr (.inr (.inl c)))
 .exact .inl (.inr (.inr (.inr (.inl c))))
 .exact .inl (.inr (.inr (.inr (.inr (.inl c)))))
 .exact .inl (.inr (.inr (.inr (.inr (.inr (.inl c))))))
 .exact .inl (.inr (.inr (.inr (.inr (.inr (.inr (.inl c)))))))
 .exact(hn k c).elim (fun e=>.inl (.inr (.inr (.inr (.inr (.inr (.inr (.inr (e))))))))) .inr
structure Booked(B B':BK):Prop where
 vs:B'.vs.length<=B.vs.length+4
 vm:B'.vm.length<=B.vm.length+4
 ns:B'.ns.length<=B.ns.length+4
 nm:B'.nm.length<=B.nm.length+4
 hs:B'.hs.length<=B.hs.length+4
 hm:B'.hm.length<=B.hm.length+4
structure BSmall(B:BK):Prop where
 vs:B.vs.length<100000000
 vm:B.vm.length<100000000
 ns:B.ns.length<100000000
 nm:B.nm.length<100000000
 hs:B.hs.length<100000000
 hm:B.hm.length<100000000
def WM.tV(W:WM)(bk:BK):WM:={W with next:=W.next+1,bk:=bk}
theorem Hy(a:Ver)(t:List Value)(x:Ver):((((((((a.cells++t).set 0 (I x.node)).set 1 (I x.seq)).set 2 (I x.o0)).set 3 (I x.o1)).set 4 (I x.o2)).set 5 (I x.o3)).set 6 (.string x.value)).set 7 (.bool x.ts)=x.cells++t:=by
 simp[Ver.cells]
theorem Hz(a:Ver)(t:List Value)(k:Nat)(u:Value):(a.cells++t).set (k+8) u=a.cells++t.set k u:=by
 rw[xJ _ _ (by rw[Ver.sY];omega),Ver.sY,wD]
theorem Qe(x:Ver):∀ (l:List Ver)(i:Nat),i<l.length->((((((((zS l).set (i*8) (I x.node)).set (i*8+1) (I x.seq)).set (i*8+2) (I x.o0)).set (i*8+3) (I x.o1)).set (i*8+4) (I x.o2)).set (i*8+5) (I x.o3)).set (i*8+6) (.string x.value)).set (i*8+7) (.bool x.ts)=zS (l.set i x)
 | [],i,h=>absurd h (BF _)
 | a::l,0,_=>by
  have e:∀ b:Ver,zS (b::l)=b.cells++zS l:=fun b=>rfl;rw[e,vA];simp only[BQ];rw[Hy]
  rfl
 | a::l,i+1,h=>by
  have e:∀ (b:Ver) (l:List Ver),zS (b::l)=b.cells++zS l:=fun b l=>rfl;have c:(i+1)*8=i*8+8:=V
  have d:∀ k,i*8+8+k=i*8+k+8:=by intro k;omega
  rw[e,c];simp only[d,Hz];rw[Qe x l i aE]
  rfl
theorem VRow.mC{g n a:Nat}(h:VRow w (.slice (some (Y g 0)) n a) l)(c:n=l.length)(i:Nat)(b:i<l.length)(x:Ver) :
 VRow ((((((((w.setCell (Y g (i*8)) (I x.node)).setCell (Y g (i*8+1)) (I x.seq)).setCell (Y g (i*8+2)) (I x.o0)).setCell (Y g (i*8+3)) (I x.o1)).setCell (Y g (i*8+4)) (I x.o2)).setCell (Y g (i*8+5)) (I x.o3)).setCell (Y g (i*8+6)) (.string x.value)).setCell (Y g (i*8+7)) (.bool x.ts))
  (.slice (some (Y g 0)) n a) (l.set i x):=by
 subst c;unfold VRow at h |-;rw[<- Qe x l i b,xF];exact Y5 (Y5 (Y5 (Y5 (Y5 (Y5 (Y5 (Y5 h _ _) _ _) _ _) _ _) _ _) _ _) _ _) _ _
theorem WAt.oj(h:WAt K w L W){v:Value}(d:VRow w v l):∀ k,WFoot L k->¬v.ownBlock=some k:=fun k b e=>by
 obtain⟨t,c,a⟩:=h.ty b;have:=c.inj (zr d e);subst this;unfold WTy at a;rcases a with e|e|e|e|e|e <;> exact absurd e O
theorem WAt.low(h:WAt K w L W):∀ k,K k->k<w.heap.size:=fun k e=>(h.tW k e).1
theorem Blk.qC(w:World)(c:List Value)(t:TypeId)(N:Nat)(a:N=w.heap.size):Blk (w.alloc (.cells c.toArray t)) N c t:=by subst a;exact Blk.new w c t
theorem Cy{L1:WL}{W1:WM}{wr c:World}{a x:Value}{n:Nat}(h:WAt K wr L1 W1)(e:n=W1.bk.vs.length+1)(f:c.ownsRow 0 61 1 a n (W1.bk.vs++[x]))(d:Fr (fun k=>L1.vs.ownBlock=some k) wr c)(b:∀ k,a.ownBlock=some k->L1.vs.ownBlock=some k\/wr.heap.size<=k) :
 WStep K L1 wr {L1 with vs:=a} {W1 with bk:={W1.bk with vs:=W1.bk.vs++[x]}} (c.setCell (Y L1.wb 17) a) :=
 WStep.vs h bv d b
theorem VO(l:List Nat)(m:Nat):ZN (l++[m])=ZN l++[I m]:=by simp[ZN]
theorem Cz{L1:WL}{W1:WM}{wr c:World}{a:Value}{m n:Nat}(h:WAt K wr L1 W1)(e:n=W1.bk.vm.length+1)(f:c.ownsRow 0 3 1 a n (ZN W1.bk.vm++[I m]))(d:Fr (fun k=>L1.vm.ownBlock=some k) wr c)(b:∀ k,a.ownBlock=some k->L1.vm.ownBlock=some k\/wr.heap.size<=k) :
 WStep K L1 wr {L1 with vm:=a} {W1 with bk:={W1.bk with vm:=W1.bk.vm++[m]}} (c.setCell (Y L1.wb 18) a) :=
 WStep.vm h be d b
theorem WAt.oP(h:WAt K w L W){c:List Value}{t:TypeId}(a:Blk w b c t)(f:¬WTy t):¬WFoot L b:=fun e=>by
 obtain⟨u,g,d⟩:=h.ty e;have:=g.inj a.ty;subst this;exact f d
theorem Rx(h:p:=by
 intro a;unfold WTy at a;rcases a with e|e|e|e|e|e <;> exact absurd e O):p:=h
theorem EE:¬WTy 37:=by
 exact Rx
def G0(l:List Ver):Prop:=∀ x∈l,x.Nat/\x.ts=false
theorem QZ(b:Nat)(l:List Ver)(r:List UInt8)(w:World)(h:Src w b (Y3 l++r) false)(hl:G0 l)(a4:l.length<1000000) :
 Calls prog 151 #[E b 0,.func (.func 152) #[] #[]] w fun e j =>
  ∃ v,e=.returned v/\(VRow j v l/\∀ k,v.ownBlock=some k->w.heap.size<=k)/\Read1 w b r j:=by
 have T:Y3 l++r=zk l.length++((l.map Y9).flatten++r):=by simp[Y3]
 rw[T] at h;have a0:=h.lt;have HH:=Z h;clear h T;have HL:=Z hl;clear hl;go_enter func151,ntmps151
 go_wp2_with (refine(zO b l.length _ _ HH.o V).mono ?_;rintro e w1 ⟨rfl,s,o⟩;have M:=Z (And.intro s o);clear s o)
 go_loopw [5,9] (fun t5 J j=>∃ i:Nat,i<=l.length/\J=I (i:Int)/\VRow j t5 (l.take i)/\(∀ k,t5.ownBlock=some k->w.heap.size<=k)/\Src j b (((l.drop i).map Y9).flatten++r) false/\Fr (fun k=>k=b) w j) (fun _ J _=>(l.length-intOf J).toNat)
 case atStart=>exact⟨0,V,rfl,⟨by simp[zS],.inl ⟨rfl,rfl⟩⟩,fun k m=>by simp[Value.ownBlock] at m,M.o.1,M.o.2⟩
 case round =>
  obtain⟨i,hi,rfl,a,c,u,L⟩:=hrel;by_cases f:i<l.length
  .have e2:((l.drop i).map Y9).flatten++r=Y9 l[i]++(((l.drop (i+1)).map Y9).flatten++r):=by
    rw[BJ f];simp only[Bw,yA,Be]
   rw[e2] at u;have hx:=HL.o l[i] (CU f);have K:=Z hx;have Q:=Z u;have R:aa (l.take (i+1)=l.take i++[l[i]]):=by
    show l.take (i+1)=_;rw[yP,CS f];rfl
   clear u e2 hx;generalize G:l[i]=x at K Q R;obtain⟨va,vc,a1⟩:=zf a;rw[show(l.take i).length=i by simp;omega] at a1;subst a1;have HR:=Z a;have t:=Z c;have N:=Z L;clear a c L G;have B:(l.take i).length<1000000:=by simp;omega
   obtain⟨xn,xs,x0,x1,x2,x3,xv,xg⟩:=x;have HC:aa (∀ wx,Src wx b (Y9 ⟨xn,xs,x0,x1,x2,x3,xv,xg⟩++(((l.drop (i+1)).map Y9).flatten++r)) false->Calls prog 152 #[E b 0] wx fun e j =>
    e=.returned (.agg #[I xn,I xs,I x0,I x1,I x2,I x3,.string xv,.bool xg])/\Read1 wx b (((l.drop (i+1)).map Y9).flatten++r) j) :=
    fun wx hs=>Tn b ⟨xn,xs,x0,x1,x2,x3,xv,xg⟩ K.o.1 K.o.2 _ wx hs
   go_wp2_with (first
    | (at_builtin;go_must (refine zm rfl _ _ _ _ rfl _ _ bH bH (Yt _ _ _ A.o ⟨xn,xs,x0,x1,x2,x3,xv,xg⟩ B _ (by repeat' first|(with_reducible exact U _ _)|(with_reducible refine Fr.alloc ?_ _)|(with_reducible refine Fr.set ?_ ?_ _)|(intro h;exact absurd h bG)) _ (by exact Blk.qC _ [_,_,_,_,_,_,_,_] _ _ bG) _) ?_);rintro v' w3 ⟨D,q,C⟩)
    | (refine(HC.o _ Q.o).mono ?_;rintro e w2 ⟨rfl,g,d⟩;have a2:=fun ob=>(Blk.alloc g ob).cell;have y:=Z (And.intro g d);have A:=Z (VRow.fr HR.o d (fun k m e=>by have:=t.o k m;omega));clear g d))
   refine⟨⟨i+1,V,by go_num,by rw[R.o];exact D,fun k m=>?_,?_,?_⟩,by simp[intOf];omega⟩
   .have:=N.o.size
    have:=y.o.2.size;rcases C k m with X|X
    .exact t.o k X
    .omega
   .exact y.o.1.fr q (fun e=>by have:=t.o b e;omega)
   .exact(N.o.trans y.o.2).tk q (fun k m e=>absurd (t.o k e) V)
  .exact Hx
def zx:Fact->List UInt8
 | .inl n=>zk 1++zk n
 | .inr (.inl x)=>zk 2++(Zk x.1.data.toList++Y3 x.2)
 | .inr (.inr (.inl x))=>zk 3++(zk x.1++Zk x.2.data.toList)
 | .inr (.inr (.inr _))=>zk 4
theorem SK(f:Fact):zj f=zp (Z5 (zx f)):=by
 rcases f with n|x|x|x <;> rfl
def FRead(f:Fact):Prop:=FOk f/\match f with
 | .inr (.inl x)=>∀ v∈x.2,v.ts=false
 | _=>True
def U1(w:World)(b:Nat)(r:List UInt8)(f:Fact)(e:Ending)(c:World):Prop :=
 ∃ a,e=.returned a/\FRep c a f/\(∀ k,Vf a k->w.heap.size<=k)/\Read1 w b r c
theorem Ry(b n:Nat)(r:List UInt8)(w:World)(h:Src w b (zk 1++(zk n++r)) false)(m:n<9223372036854775808) :
 Calls prog 95 #[E b 0] w fun e o=>U1 w b r (.inl n) e o:=by
 have j:=Z h;clear h;go_enter uG,uv
 go_wp2_with (first
  | (refine(zO b n _ _ g.o.1 m).mono ?_;rintro e q ⟨rfl,f,c⟩;have i:=Z (And.intro f c);clear f c)
  | (refine(zO b 1 _ _ j.o V).mono ?_;rintro e p ⟨rfl,d,a⟩;have g:=Z (And.intro d a);clear d a))
 go_ret;exact⟨_,rfl,rfl,fun k l=>by simp[Vf,Value.ownBlock] at l,i.o.1,g.o.2.trans i.o.2⟩
theorem Rz(b:Nat)(r:List UInt8)(w:World)(h:Src w b (zk 4++r) false) :
 Calls prog 95 #[E b 0] w fun e i=>U1 w b r (.inr (.inr (.inr ()))) e i:=by
 have f:=Z h;clear h;go_enter uG,uv
 go_wp2_with (refine(zO b 4 _ _ f.o V).mono ?_;rintro e j ⟨rfl,c,a⟩;have d:=Z (And.intro c a);clear c a)
 go_ret;exact⟨_,rfl,rfl,fun k g=>by simp[Vf] at g,d.o.1,d.o.2⟩
theorem SN(b to:Nat)(s:ByteArray)(r:List UInt8)(w:World)(h:Src w b (zk 3++(zk to++(Zk s.data.toList++r))) false)(x:to<9223372036854775808)(hs:s.size<1000000000) :
 Calls prog 95 #[E b 0] w fun e m=>U1 w b r (.inr (.inr (.inl (to,s)))) e m:=by
 have t:=Z h;clear h;have l:s.data.toList.length<=1000000000:=by simpa using xD hs
 have u:aa (∀ j,Src j b (Zk s.data.toList++r) false->Calls prog 150 #[E b 0] j fun e m=>e=.returned (.string s)/\Read1 j b r m):=fun j y=>by
  have:=WP b s.data.toList r j y l
  rwa [Ub] at this
 go_enter uG,uv
 go_wp2_with (first
  | (refine(u.o _ p.o.1).mono ?_;rintro e C ⟨rfl,i,d⟩;have q:=Z (And.intro i d);clear i d)
  | (refine(zO b to _ _ o.o.1 x).mono ?_;rintro e B ⟨rfl,g,c⟩;have p:=Z (And.intro g c);clear g c)
  | (refine(zO b 3 _ _ t.o V).mono ?_;rintro e A ⟨rfl,f,a⟩;have o:=Z (And.intro f a);clear f a))
 go_ret;exact⟨_,rfl,rfl,fun k v=>by simp[Vf,Value.ownBlock] at v,q.o.1,(o.o.2.trans p.o.2).trans q.o.2⟩
theorem RA(b:Nat)(s:ByteArray)(l:List Ver)(r:List UInt8)(w:World)(h:Src w b (zk 2++(Zk s.data.toList++(Y3 l++r))) false)(hs:s.size<1000000000)(B:G0 l)(u:l.length<1000000) :
 Calls prog 95 #[E b 0] w fun e y=>U1 w b r (.inr (.inl (s,l))) e y:=by
 have J:=Z h;clear h;have x:s.data.toList.length<=1000000000:=by simpa using xD hs
 have L:aa (∀ o,Src o b (Zk s.data.toList++(Y3 l++r)) false->Calls prog 150 #[E b 0] o fun e y=>e=.returned (.string s)/\Read1 o b (Y3 l++r) y):=fun o M=>by
  have:=WP b s.data.toList _ o M x
  rwa [Ub] at this
 have K:=Z B;clear B;go_enter uG,uv
 go_wp2_with (first
  | (refine(QZ b l r _ t.o.1 K.o u).mono ?_;rintro e X ⟨N,rfl,a,m,g⟩;obtain⟨Q,R,rfl⟩:=zf a.1;have c:=Z a;have A:=Z (And.intro m g);clear m g a)
  | (refine(L.o _ q.o.1).mono ?_;rintro e T ⟨rfl,j,f⟩;have t:=Z (And.intro j f);clear j f)
  | (refine(zO b 2 _ _ J.o V).mono ?_;rintro e S ⟨rfl,i,d⟩;have q:=Z (And.intro i d);clear i d))
 go_ret;have C:=q.o.2.size;have D:=t.o.2.size;refine⟨_,rfl,⟨_,rfl,c.o.1⟩,fun k p=>?_,A.o.1,(q.o.2.trans t.o.2).trans A.o.2⟩;obtain⟨v,G,p⟩:=p;simp at G;rcases G with rfl|rfl
 .simp[Value.ownBlock] at p
 .have:=c.o.2 k p;omega
theorem RB(f:Fact)(a:FRead f)(b:Nat)(r:List UInt8)(w:World)(h:Src w b (zx f++r) false) :
 Calls prog 95 #[E b 0] w fun e d=>U1 w b r f e d:=by
 rcases f with n|⟨s,l⟩|⟨to,s⟩|x
 .exact Ry b n r w aX a.1
 .exact RA b s l r w aX a.1.2.2.1 (fun x c=>⟨a.1.1 x c,a.2 x c⟩) a.1.2.1
 .exact SN b to s r w aX a.1.1 a.1.2
 .exact Rz b r w aX
def Dp(w:World)(b:Nat)(r:List UInt8)(f:Fact)(e:Ending)(c:World):Prop :=
 ∃ a,e=.returned (.tuple #[a,.bool true])/\FRep c a f/\(∀ k,Vf a k->w.heap.size<=k)/\Read1 w b r c
theorem O4(f:Fact)(hf:FRead f)(b:Nat)(r:List UInt8)(w:World)(h:Src w b (Z5 (zx f)++r) false)(M:(zx f).length<9223372036854775808) :
 Calls prog 191 #[E b 0,.func (.func 95) #[] #[]] w fun e w'=>Dp w b r f e w':=by
 have e1:Z5 (zx f)++r=zk (zx f).length++(zx f++r):=by simp[Z5]
 rw[e1] at h;have a4:=h.lt;have hc:=h.cell;have m:Src (w.alloc (.cells #[.string (zp (zk (zx f).length++(zx f++r))),.bool false] 276)) b (zk (zx f).length++(zx f++r)) false:=Blk.alloc h _;have l:Src (w.alloc (.cells #[.string (zp (zk (zx f).length++(zx f++r))),.bool false] 276)) w.heap.size (zk (zx f).length++(zx f++r)) false:=Blk.new w [_,_] _;have J:Fr Nil w (w.alloc (.cells #[.string (zp (zk (zx f).length++(zx f++r))),.bool false] 276)):=(U _ _).alloc _;have a2:(w.alloc (.cells #[.string (zp (zk (zx f).length++(zx f++r))),.bool false] 276)).heap.size=w.heap.size+1:=bG
 have HF:=Z hf;clear h e1 hf;go_enter func191,ntmps191;go_wp2_with fail;generalize w.alloc (.cells #[.string (zp (zk (zx f).length++(zx f++r))),.bool false] 276)=W0 at m l J a2 |-;clear hc;refine(zO w.heap.size (zx f).length (zx f++r) W0 l M).mono ?_;rintro e w1 ⟨rfl,u,q⟩;have B:Src w1 b _ false:=Blk.fr m q V;have a5:=q.size;go_wp2_with fail;refine(WC (zx f).length w.heap.size (zx f++r) false w1 u bG).mono ?_;rintro e a ⟨rfl,c,s⟩;have C:Src a b _ false:=Blk.fr B s V;have a6:=s.size;rw[yB] at c;rw[xR];have d:=fun ob=>(Blk.alloc c ob).cell;go_wp2_with fail;have v:Src (a.alloc (.cells #[.string (zp (zx f)),.bool false] 276)) w.heap.size r false:=Blk.alloc c _;have D:Src (a.alloc (.cells #[.string (zp (zx f)),.bool false] 276)) b _ false:=Blk.alloc C _;have y:Src (a.alloc (.cells #[.string (zp (zx f)),.bool false] 276)) a.heap.size (zx f++[]) false:=by
  rw[Bz];exact Blk.new a [_,_] _
 have t:Fr Nil w (a.alloc (.cells #[.string (zp (zx f)),.bool false] 276)) :=
  (J.tk (q.trans s) (fun k L e=>V)).alloc _
 have a3:(a.alloc (.cells #[.string (zp (zx f)),.bool false] 276)).heap.size=a.heap.size+1:=bG
 generalize a.alloc (.cells #[.string (zp (zx f)),.bool false] 276)=W3 at v D y t a3 |-;clear d l u c m B C;refine(RB f HF.o a.heap.size [] W3 y).mono ?_;rintro e w4 ⟨fv,rfl,N,j,A,g⟩;have x:Src w4 w.heap.size r false:=Blk.fr v g V;have o:Src w4 b _ false:=Blk.fr D g V;have a1:=A.cell;have d:=x.cell;have G:=o.cell;have Q:=o.frozen;have a7:=g.size;go_wp2_with fail;refine(Tr a.heap.size [] false w4 A).mono ?_;rintro e R ⟨rfl,i⟩;have T:Src R w.heap.size r false:=Blk.fr x i id;have p:Src R b _ false:=Blk.fr o i id;clear a1 d G Q;have d:=T.cell;have G:=p.cell;have Q:=p.frozen;go_wp2_with fail;go_ret2;have X:=t.tk g (fun k L e=>V);have a0:Fr (fun k=>k=b) w R:=(X.trans i).mono (fun _ _ e=>absurd e id);have K:Fr (fun k=>k=b) R ((R.setCell (Y b 0) (.string (zp r))).setCell (Y b 1) (.bool false)):=Fr.set (S:=fun k=>k=b) (Fr.set (S:=fun k=>k=b) (U _ _) (fun _=>rfl) _) (fun _=>rfl) _;have a8:=t.size;exact⟨fv,rfl,(N.fr i (fun _ _=>id)).fr K (fun k L e=>by have:=j k L;omega),fun k L=>by have:=j k L;omega,(Blk.set p 0 _).set 1 _,a0.trans K⟩
theorem G1(a b:List UInt8)(i:b<+:Z5 a)(d:b≠Z5 a):Y4 0 0 b=none\/∃ p,b=zk a.length++p/\p.length<a.length:=by
 unfold Z5 at i d;obtain⟨t,f⟩:=i;rcases Az b.length (zk a.length).length with h|h
 .refine .inl (Ks a.length 0 0 b ?_ (fun e=>by rw[e] at h;omega))
  exact xm ⟨t,f⟩ (xE _ _) V
 .have hpre:zk a.length<+:b:=xm (l₃:=zk a.length++a) (xE _ _) ⟨t,f⟩ h
  obtain⟨p,rfl⟩:=hpre;refine .inr ⟨p,rfl,?_⟩;rw[Be] at f;have g:=List.append_cancel_left f;have j:a.length=p.length+t.length:=by rw[<- g];simp
  rcases t with-| ⟨c,t⟩
  .rw[Bz] at g;exact absurd (by rw[g]) d
  .simp at j;omega
def O5(w:World)(e:Ending)(a:World):Prop:=e=.returned (.tuple #[.nilIface,.bool false])/\Fr Nil w a
theorem O6(a:List UInt8)(b:Nat)(w:World)(h:Src w b a false)(l:Y4 0 0 a=none) :
 Calls prog 191 #[E b 0,.func (.func 95) #[] #[]] w fun e s=>O5 w e s:=by
 have p:=h.cell;have c:Src (w.alloc (.cells #[.string (zp a),.bool false] 276)) w.heap.size a false:=Blk.new w [_,_] _;have d:Fr Nil w (w.alloc (.cells #[.string (zp a),.bool false] 276)):=(U _ _).alloc _;have m:=Z l;clear h l;go_enter func191,ntmps191;go_wp2_with fail;generalize w.alloc (.cells #[.string (zp a),.bool false] 276)=o at c d |-;clear p;refine(SJ w.heap.size a o c m.o).mono ?_;rintro e t ⟨rfl,f,i⟩;go_wp2_with fail;refine(WC 0 w.heap.size [] true t f bG).mono ?_;rintro e v ⟨rfl,g,j⟩;have q:=fun r=>(Blk.alloc g r).cell;go_wp2_with fail;go_ret2;exact⟨rfl,(d.tk (i.trans j) (fun k u e=>V)).alloc _⟩
theorem NU(n:Nat)(p:List UInt8)(b:Nat)(w:World)(h:Src w b (zk n++p) false)(o:n<9223372036854775808)(q:p.length<n) :
 Calls prog 191 #[E b 0,.func (.func 95) #[] #[]] w fun e s=>O5 w e s:=by
 have l:=h.cell;have a:Src (w.alloc (.cells #[.string (zp (zk n++p)),.bool false] 276)) w.heap.size (zk n++p) false:=Blk.new w [_,_] _;have c:Fr Nil w (w.alloc (.cells #[.string (zp (zk n++p)),.bool false] 276)):=(U _ _).alloc _;clear h;go_enter func191,ntmps191;go_wp2_with fail;generalize w.alloc (.cells #[.string (zp (zk n++p)),.bool false] 276)=j at a c |-;clear l;refine(zO w.heap.size n p j a o).mono ?_;rintro e t ⟨rfl,d,g⟩;go_wp2_with fail;refine(RZ n w.heap.size p false t d q).mono ?_;rintro e v ⟨rfl,f,i⟩;have m:=fun r=>(Blk.alloc f r).cell;go_wp2_with fail;go_ret2;exact⟨rfl,(c.tk (g.trans i) (fun k u e=>V)).alloc _⟩
theorem O7(a c:List UInt8)(j:c<+:Z5 a)(d:c≠Z5 a)(g:a.length<9223372036854775808)(b:Nat)(w:World)(h:Src w b c false) :
 Calls prog 191 #[E b 0,.func (.func 95) #[] #[]] w fun e k=>O5 w e k:=by
 rcases G1 a c j d with f|⟨p,rfl,i⟩
 .exact O6 c b w h f
 .exact NU a.length p b w h g i
theorem KZ(a:List UInt8)(w:World) :
 Calls prog 190 #[.string (zp a)] w fun e b=>e=.returned (E w.heap.size 0)/\b=w.alloc (.cells #[.string (zp a),.bool false] 276):=by
 go_enter func190,ntmps190
 go_wp2
 go_ret;exact⟨rfl,rfl⟩
def zK(a:List Fact):List UInt8:=(a.map fun f=>Z5 (zx f)).flatten
theorem Dq(n:Nat):0<(zk n).length:=by
 by_cases h:n<128
 .rw[Xp h];simp
 .rw[XR h];simp
theorem O8(a:List UInt8):0<(Z5 a).length:=by
 have:=Dq a.length;simp[Z5];omega
def O9(w:World)(s:Nat):Nat:=match w.cell? (Y s 0) with
 | some (.string x)=>x.size
 | _=>0
theorem Qf{s:Nat}{b:List UInt8}(h:Src w s b a):O9 w s=b.length:=by
 have:=h.cell 0;simp at this;simp[O9,this,Kq]
theorem SRep.pM{s:Nat}{L:SL}{S:SM}{d:List UInt8}(h:SRep w b L S)(hs:Src w s d a):¬SFoot b L s/\¬SRead L s:=by
 refine⟨fun c=>?_,fun c=>?_⟩
 .rcases h.rh c with h1|h1|h1
  .exact absurd (Ty.inj h1 (Blk.ty hs)) O
  .exact absurd (Ty.inj h1 (Blk.ty hs)) O
  .exact absurd (Ty.inj h1 (Blk.ty hs)) O
 .exact absurd (Ty.inj (h.rK c) (Blk.ty hs)) O
theorem SRep.src{d:World}{s:Nat}{L:SL}{S:SM}{g:List UInt8}(h:SRep w b L S)(hs:Src w s g a)(f:Fr (fun k=>k=s) w d):SRep d b L S :=
 h.fr f (fun _ c e=>(h.pM hs).1 (e▸c)) (fun _ c e=>(h.pM hs).2 (e▸c))
theorem Oa(b:List Fact)(N:∀ f∈b,FRead f/\(zx f).length<9223372036854775808)(a d:List UInt8)(ht:a<+:Z5 d)(T:a≠Z5 d)(hb:d.length<9223372036854775808)
 (u:Nat)(L:SL)(S:SM)(w:World)(h:SRep w u L S)
 (t:∀ i,((b.take i).foldl SM.enter S).uR.length<1099511627776/\((b.take i).foldl SM.enter S).uU.length<1000000) :
 Calls prog 148 #[.string (zp (zK b++a)),.func (.func 95) #[] #[],.func (.func 96) #[E u 0] #[]] w fun e A =>
  e=.returned (I a.length)/\SStep w u L (b.foldl SM.enter S) (fun k=>w.heap.size<=k) A:=by
 have HH:=Z h;have C:=Z N;have s:=Z t;have HT:=Z (And.intro ht (And.intro T hb));clear h N t ht T hb;go_enter func148,ntmps148;go_wp2_with fail;refine(KZ _ w).mono ?_;rintro e w1 ⟨rfl,y⟩;have K:Fr Nil w w1:=by rw[y];exact(U _ _).alloc _
 have a3:Src w1 w.heap.size (zK b++a) false:=by rw[y];exact Blk.new w [_,_] _
 clear y;go_wp2_with fail
 go_loopw [9] (fun _ A=>∃ (i:Nat) (B:SL),i<=b.length/\SRep A u B ((b.take i).foldl SM.enter S)/\Fr (SFoot u L) w A/\(∀ k,SFoot u B k->SFoot u L k\/w.heap.size<=k)/\(∀ k,SRead B k->SRead L k\/w.heap.size<=k)/\Src A w.heap.size (zK (b.drop i)++a) false) (fun _ A=>O9 A w.heap.size)
 case atStart=>exact⟨0,L,V,HH.o.nil K,K.mono (fun _ _ e=>absurd e id),fun k o=>.inl o,fun k o=>.inl o,a3⟩
 case round =>
  obtain⟨i,B,hi,c,hF,Q,a0,hS⟩:=hrel;have g:=Z (And.intro c (And.intro hF (And.intro Q (And.intro a0 hS))));clear c hF Q a0 hS;by_cases r:i<b.length
  .have hSi:Src wr w.heap.size (Z5 (zx b[i])++(zK (b.drop (i+1))++a)) false:=by
    have:=g.o.2.2.2.2;rw[BJ r] at this
    simpa only[zK,Bw,yA,Be] using this
   go_wp2_with fail;refine(O4 b[i] (C.o _ (CU r)).1 w.heap.size _ wr hSi (C.o _ (CU r)).2).mono ?_;rintro e w2 ⟨fv,rfl,a5,X,G,j⟩;have m:=g.o.1.src g.o.2.2.2.2 j;have a6:=(m.pM G).1;go_wp2_with fail;refine(Su b[i] fv u B _ w2 m a5 (s.o i).1 (s.o i).2).mono ?_;rintro e w3 ⟨rfl,a2,x,D,R,a1⟩;go_wp2_with fail;have a8:=g.o.2.1.size;have a7:=j.size;have J:Src w3 w.heap.size (zK (b.drop (i+1))++a) false:=Blk.fr G D a6;refine⟨⟨i+1,a2,V,?_,?_,fun k o=>?_,fun k o=>?_,J⟩,?_⟩
   .rw[yP,CS r,BM]
    exact x
   .refine(g.o.2.1.tk j (fun k o e=>V)).tk D (fun k o e=>?_)
    rcases g.o.2.2.1 k e with q|q
    .exact q
    .omega
   .rcases R k o with q|q
    .exact g.o.2.2.1 k q
    .exact .inr V
   .rcases a1 k o with q|q
    .exact g.o.2.2.2.1 k q
    .have:=X k q;exact .inr V
   .rw[Qf J,Qf hSi]
    have:=O8 (zx b[i]);simp only[CN];omega
  .have hil:i=b.length:=V
   subst hil;have l:=g.o.2.2.2.2;rw[vd] at l;have l:Src wr w.heap.size a false:=l;go_wp2_with fail;refine(O7 d a HT.o.1 HT.o.2.1 HT.o.2.2 w.heap.size wr l).mono ?_;rintro e w2 ⟨rfl,j⟩;go_wp2_with fail;refine(Tr w.heap.size a false w2 (Blk.fr l j id)).mono ?_;rintro e w3 ⟨rfl,a4⟩;go_wp2_with fail;go_ret;have c:=g.o.1;rw[Bj] at c;have M:=(j.trans a4);exact⟨rfl,B,c.nil M,g.o.2.1.tk M (fun k o e=>absurd e id),g.o.2.2.1,g.o.2.2.2.1⟩
end Go.Proofs.YtkhnggkkiefcdaaGreatDoor
