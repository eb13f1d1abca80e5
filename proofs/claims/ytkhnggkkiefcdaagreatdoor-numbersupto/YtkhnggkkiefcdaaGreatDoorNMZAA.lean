/- larder: joined texts -/
import Derived.Test.YtkhnggkkiefcdaaGreatDoorNMAS
import Derived.Test.YtkhnggkkiefcdaaGreatDoorNMAY
namespace Go.Proofs.YtkhnggkkiefcdaaGreatDoor
open Go.RowKit
set_option maxRecDepth 100000
set_option maxHeartbeats 8000000
theorem Ans.xr{M c:DM}{e:Option Int}{n t:Nat}(h:Ans M c e)(g:Bd M t)(p:t<=1000000)(i:M.dead=false)(l:M.cut=0)(o:M.fail=0)(s:M.room=1152921504606846976)(a:e=some 10->M.room<M.Bi+n)(r:n<=100000):e=none/\c.cut=0/\c.fail=0/\c.dead=false:=by
 have d:=h.2.cut;have f:=h.2.fail;rcases h.1 with⟨b,_,_,k⟩|⟨_,⟨b,_⟩|⟨b,_⟩⟩
 .exact⟨b,d.trans l,f.trans o,k.trans i⟩
 .have h1:=h.2.bad b i
  have q:=g.c0;rcases h1.2 with⟨j,_⟩|⟨j,_⟩ <;> omega
 .have h1:=a b
  have:=g.Bi p;omega
theorem K1(W:WM)(m:LM):(W.Bu m).st[(W.Bu m).st.length-1]?=some m:=by
 unfold WM.Bu;simp only;split
 .have e1:(W.st++[m]).drop ((W.st++[m]).length-1)=[m]:=by
   rw[JR,JZ,Nat.add_sub_cancel,GR]
  rw[e1]
  rfl
 .rw[JR,JZ,Nat.add_sub_cancel]
  simp
theorem Aft.says{W:WM}{c:LM}{M:DM}{a:NM}{d:DM}{g:Nat}(h:Aft W c M none a d g):Z9 c a.S:=by
 obtain⟨i,j,e⟩:=h.Bu;obtain⟨m,b,f,_⟩:=e.now;rw[K1] at b;obtain rfl:=IL b;exact f
theorem Mx(W:WM)(m:LM):(W.Bu m).every=W.every/\Wup W (W.Bu m) 0:=by
 unfold WM.Bu;simp only;split <;> exact⟨rfl,rfl,rfl,JS _,rfl⟩
theorem My{K:Keys}(h:Yb K)(a:ByteArray)(v:Ver):YG (Zf K a [v]) a=[v]:=by
 rw[Zc a _ h,Ie (by simp)];have:=UR a [v] h;unfold Zt at this |-;rw[Ig] at this |-;exact Me this
def JQ(o:World)(l n a:Nat)(c:Value)(W:WM)(X:NL)(N:NM)(M:DM)(w:World)(t:Nat)(j d:ByteArray)(e:Ending)(k:World):Prop :=
 ∃ (b:Nat) (i:NL) (g:NM) (f:DM) (h:WM),e=.returned (.tuple #[.int .i64 b,.int .i64 0])/\Kpt o k l n a c i g f/\i.nb=X.nb/\i.db=X.db/\(∃ F p,NI h g f F p (t+10))/\Gave W b 0 h/\f.cut=0/\f.fail=0/\g.readOnly=false/\h.every=W.every/\Fr (NFoot X M) w k /\
  ∃ m,Z9 m N.S/\m.node=W.node/\Z9 (m.put j d b) g.S
theorem Rdy.put(r:zt){B:Nat}{C w:World}{K n t J j:Nat}{l:Value}{ns:List Nat}{W:WM}{X:NL}{N:NM}{M:DM}{F:List Fact}{p:Nat}(h:Rdy C w K n t J j l ns W X N M F p)(A:zU B C)(hB:B<=C.heap.size)(ht:t+20<=980000)(d b:ByteArray)(hk:zJ d=true)(hs:b.size<=128) :
 Calls Tryz.prog 22 #[.pointer (some ⟨X.nb,0,none⟩),.string d,.string b] w (JQ C K n j l W X N M w t d b):=by
 have i:=h.ni;obtain⟨I,_,y,x⟩:=i.now;have s:∀ g∈M.ids,g<w.heap.size:=fun g G=>(h.kp.st.node.CN.files g G).lt;have q:=i.put (m:=I) (H0:=w.heap.size) (by omega) h.ro y x s d b hk hs;refine(WU r B X N M d b w h.kp.st.node (h.kp.env A hB) (fun u hu=>((i.st.1.get d).2.2 u hu).node) (fun _ _ _=>q.1 _ (JS _))).mono ?_;rintro e w' ⟨f,g,R,rfl,hf,G,D,a⟩;obtain⟨er,Q,O,he,a0,c⟩:=q.2.2.2 f g hf G D;have o:M.room=1152921504606846976:=by rw[i.room];unfold WM.BU;rw[h.ns.room];rfl
 obtain⟨rfl,T,V,h3⟩:=c.Bv.xr i.bd (by omega) i.dead h.cut h.fail o c.full (by decide);obtain⟨L,p',hn⟩:=c.Bu;obtain⟨E,k⟩:=Mx {W with calls:=W.calls+1,most:=if (none:Option Int)=none then N.given+1 else W.most} (I.put d b (((if (none:Option Int)=none then N.given+1 else 0:Nat)):Int));rw[he] at a |-;refine⟨N.given+1,R,Q,O,_,rfl,h.kp.step a,a.same.nb,a.same.db,⟨L,p',hn⟩,⟨⟨k.node,k.calls,?_,k.room⟩,fun e=>absurd rfl e,fun _=>⟨q.2.1,q.2.2.1,?_⟩⟩,T,V,by rw[c.ro];rfl,E,a.fr,I,y,x.node,c.says⟩
 .have h5:N.given+1<=_:=k.most
  have Y:=q.2.1;exact JT (FQ Y) h5
 .exact k.most
def Ws:ByteArray:={data:=#[118]}
theorem Q3(t:zt)(B:Nat)(node:Int)(l:InR node)(sa:Option Addr)(c:Nat)(x:List OpM)(w:World)(q:zU B w)(hB:B<=w.heap.size)(Y:x≠[]->∃ a,sa=some a/\a.block<w.heap.size/\TW w a x)(V:∀ o∈x,VF w o)(T:x.length<=88000) :
 Calls Tryz.prog 8 #[.int .i64 node,.slice sa x.length c] w fun e w'=>e=.returned (.bool true)/\Fr Nil w w':=by
 have D:=Z (ZU node 4 w l.1 l.2 (by decide) (by decide));have b0:=YR node (n:=4) (by decide);have G:=Z (Su t B (zA node 4) b0 sa c x w q hB Y V T);have E:=Z q;have a3:=Z hB;clear q hB Y V;go_enter Tryz.func8,Tryz.ntmps8
 go_wp2_with (refine D.out.mono ?_;rintro e wx ⟨rfl,b7⟩;subst wx)
 refine G.out.mono ?_;rintro e w1 ⟨sb,rfl,a5,b4,ns,W,X,N,M,F,p,hr⟩;have J:=hr.kp.st.CB.cell;simp only[zm] at J;have i:=Z (hr.put t E.out a3.out (by omega) Yw Ws (by decide) (by decide));unfold Yw Ws at i;have HR:=Z hr;clear hr G D;go_wp2_with fail;refine i.out.mono ?_;rintro e w2 ⟨d,X',N',M',W',rfl,Q,a6,a8,⟨F',p',k⟩,O,hc,hf,b6,a9,L,m,a0,b1,a1⟩;have v:=HR.out.ns.yh HR.out.kp.st.node L;have A:=Z (XN Q v d 0 O (u:=20+10*x.length+10) (by omega) (by omega));have j:zr N'.S.keys Yw=[m.putV Yw Ws d]:=by
  have I:Yb m.keys:=by rw[a0.1];exact HR.out.ni.st.1.Bp
  have h1:=My I Yw (m.putV Yw Ws d);rw[<- QN Yw k.st.1.Bp,<- a1.1];exact h1
 have hv:(m.putV Yw Ws d).node=(zA node 4:Nat)/\(m.putV Yw Ws d).seq=d/\(m.putV Yw Ws d).value=Ws:=⟨b1.trans HR.out.ns.node,rfl,rfl⟩;generalize m.putV Yw Ws d=u at j hv;have R:=k.nk;have h:=Z (And.intro j (And.intro hv R));clear a6 a8 Q v k O hc hf a9 L a0 a1 j hv i J R;go_wp2_with fail;refine A.out.mono ?_;rintro e w3 ⟨rfl,a2,b3,b8,b2,r⟩;have f:=Z (MW X' N' M' Yw w3 r.st.node (by have:=h.out.2.2;omega) (by rw[h.out.1];simp));have S:zJ Yw=true:=by decide
 rw[h.out.1,S] at f;simp only[Hp] at f;unfold Yw at f;clear S;have y:=Z r;have K:=r.st.CB.cell;simp only[zm] at K;clear b2 r A;go_wp2_with fail;refine f.out.mono ?_;rintro e w4 ⟨lv,rfl,b,f4,-⟩;have b:VRow w4 lv [u]:=b;obtain⟨g,b5,rfl,_,_⟩:=zz b (by simp);have r0:w4.cell? ⟨g,0,none⟩=some (.int .i64 (zA node 4:Nat)):=by rw[<- h.out.2.1.1];exact own_cell? b 0 _ rfl
 have r1:w4.cell? ⟨g,1,none⟩=some (.int .i64 (d:Nat)):=by rw[<- h.out.2.1.2.1];exact own_cell? b 1 _ rfl
 have r6:w4.cell? ⟨g,6,none⟩=some (.string {data:=#[118]}):=by
  have:w4.cell? ⟨g,6,none⟩=some (.string u.value):=own_cell? b 6 _ rfl;rw[h.out.2.1.2.2] at this;exact this
 have a7:=(y.out.nil f4).st.CB.cell;simp only[zm] at a7;have a4:=Z (y.out.fr.trans f4);simp only[JZ];clear b K f f4;go_wp2_with fail
 go_quiet (fail)
 go_wp2_with fail;go_ret;exact⟨rfl,a4.out.trans (by exact zd)⟩
theorem Ry:Tryz.prog.cellsOf 89=14:=by kernel_rfl
section
variable {H:Type} {enc:TypeId × Value->H} {W:World} {sp:Nat->Bool} {held:Bool} {n:Nat}
theorem KT(A:sp=fun _=>true){a:List Value}{x:DataW H × List MemPlace}(h:DataW.trod enc Tryz.prog W 0 sp held n 89 a=some x):(∃ o:OpM,a=o.Ba/\VF W o)/\12<=Rows.uptoBulk x.1:=by
 obtain⟨b,m,_,L,E,D,c⟩:=Do Tryz.underlying89 h;rw[Ry] at E;have k:DataW.trod enc Tryz.prog W 0 sp held m 3 ((a.drop 0).take (Tryz.prog.cellsOf 3))=b[0]?:=c 0 _ rfl;have l:DataW.trod enc Tryz.prog W 0 sp held m 3 ((a.drop 1).take (Tryz.prog.cellsOf 3))=b[1]?:=c 1 _ rfl;have p:DataW.trod enc Tryz.prog W 0 sp held m 3 ((a.drop 2).take (Tryz.prog.cellsOf 3))=b[2]?:=c 2 _ rfl;have q:DataW.trod enc Tryz.prog W 0 sp held m 9 ((a.drop 3).take (Tryz.prog.cellsOf 9))=b[3]?:=c 3 _ rfl;have r:DataW.trod enc Tryz.prog W 0 sp held m 9 ((a.drop 4).take (Tryz.prog.cellsOf 9))=b[4]?:=c 4 _ rfl;have s:DataW.trod enc Tryz.prog W 0 sp held m 37 ((a.drop 5).take (Tryz.prog.cellsOf 37))=b[5]?:=c 5 _ rfl;have t:DataW.trod enc Tryz.prog W 0 sp held m 26 ((a.drop 13).take (Tryz.prog.cellsOf 26))=b[6]?:=c 6 _ rfl;have d:b.length=7:=D
 match b,d with
 | [S,T,V,X,Y,x6,x7],_ =>
  simp only[Gy,FI] at k l p q r s t;rw[Yo] at k l p;rw[TY] at q r;rw[VQ] at s;rw[Mt] at t;obtain⟨B,hb⟩:=PG s;refine⟨?_,?_⟩
  .match a,E with
   | [c0,c1,c2,c4,c5,G,I,J,K,e,f,g,i,j],_ =>
    obtain⟨M,rfl,_⟩:=Yk k;obtain⟨N,rfl,u⟩:=Yk l;obtain⟨O,rfl,y⟩:=Yk p;obtain⟨Q,rfl⟩:=T6 q;obtain⟨R,rfl⟩:=T6 r;obtain⟨v,B⟩:=B;have C:[G,I,J,K,e,f,g,i]=v.cells:=B;refine⟨⟨M,N,O,0,Q,R,v,j⟩,?_,u,y,KP A t⟩;unfold OpM.Ba;rw[<- C]
    rfl
  .rw[L]
   simp only[Rows.uptoBulk,Iw,Gf,Rows.uptoBulkAll];have a0:=Xj S.1;have a1:=Xj T.1;have a2:=Xj V.1;have a4:=Xj X.1;have a5:=Xj Y.1;have a7:=Xj x7.1;omega
end
theorem PJ{H:Type}{enc:TypeId × Value->H}{W:World}{j:Nat}{A:List Value}{x:DataW H × List MemPlace}(h:DataW.trod enc Tryz.prog W 0 (fun _=>true) true j 51 A=some x) :
 ∃ (G:Option Addr) (c:Nat) (r:List OpM),A=[.slice G r.length c]/\(r≠[]->∃ a,G=some a/\a.block<W.heap.size/\TW W a r)/\(∀ o∈r,VF W o)/\12*r.length<=Rows.uptoBulk x.1:=by
 rcases Deep.open_slice Tryz.underlying51 h with⟨rfl,rfl⟩|⟨a,len,t,m,n,D,R,rfl,S,N,E,O,Q,u⟩
 .exact⟨none,0,[],rfl,fun e=>absurd rfl e,fun o l=>by(cases l),by simp⟩
 .have hlm:len<=m:=by rw[O];split <;> omega
  have p:∀ i,i<len->∃ o:OpM,W.cells? 0 (a.add (i*14)) 14=some o.Ba/\VF W o/\12<=Rows.uptoBulk (D i):=fun i g=>by
   obtain⟨I,B,J⟩:=u i (by omega);rw[Ry] at B;obtain⟨⟨o,rfl,l⟩,K⟩:=KT rfl J;exact⟨o,B,l,K⟩
  obtain⟨f,v⟩:∃ f:Nat->OpM,∀ i,i<len->W.cells? 0 (a.add (i*14)) 14=some (f i).Ba/\VF W (f i)/\12<=Rows.uptoBulk (D i):=by
   classical
   refine⟨fun i=>if g:i<len then Classical.choose (p i g) else⟨0,0,0,0,ByteArray.empty,ByteArray.empty,⟨0,0,0,0,0,0,ByteArray.empty,false⟩,.bool false⟩,fun i g=>?_⟩;simp only[Cn g];exact Classical.choose_spec (p i g)
  have b:((List.range len).map f).length=len:=by simp
  have q:TW W a ((List.range len).map f):=fun i g k M=>by
   rw[b] at g;rw[KR (v i g).1 k M];simp
  refine⟨some a,t,(List.range len).map f,by rw[b],fun y=>⟨a,rfl,?_,q⟩,fun o l=>?_,?_⟩
  .have hpos:0<len:=Nat.pos_of_ne_zero fun e=>y (by rw[e];rfl)
   have:=q 0 (by rw[b];exact hpos) 0 (by decide);rw[Cr,add_zero,add_zero] at this;exact Vo this
  .obtain⟨i,g,rfl⟩:=Ic.1 l
   exact(v i (Ex.1 g)).2.1
  .rw[b,Q]
   simp only[Rows.uptoBulk];have:=T4 12 ((List.range len).map D) (fun d L=>by
    obtain⟨i,g,rfl⟩:=Ic.1 L;exact(v i (Ex.1 g)).2.2)
   rw[Is,List.length_range] at this;omega
end Go.Proofs.YtkhnggkkiefcdaaGreatDoor
