/- larder: joined texts -/
import Derived.Test.YtkhnggkkiefcdaaGreatDoorNMAK
import Derived.Test.YtkhnggkkiefcdaaGreatDoorNMAR
import Derived.Test.YtkhnggkkiefcdaaGreatDoorNMAS
import Derived.Test.YtkhnggkkiefcdaaGreatDoorNMAT
import Derived.Test.YtkhnggkkiefcdaaGreatDoorNMAU
import Derived.Test.YtkhnggkkiefcdaaGreatDoorNMAV
namespace Go.Proofs.YtkhnggkkiefcdaaGreatDoor
open Go.RowKit
set_option maxRecDepth 100000
set_option maxHeartbeats 8000000
theorem Jj{J:JM}{M:DM}{y:Lay}{p t:Nat}(h:Lg M y p t)(hj:Jl J M y)(hn:y.new=none)(ht:t+4<=1000000)(A:List Fact)(a1:∀ x∈A,ZO x/\(zj x).size<=2000)(q:A.foldl SM.enter SM.nil=y.F.foldl SM.enter SM.nil)(G:∀ k,((A.take k).foldl SM.enter SM.nil).hints.length<=32)(L:A.length<=y.F.length+40)
 (f g:Nat)(hf:f∉M.ids)(B:g∉(J.begin M (J.last+2) f).2.2.ids) :
 ∃ e J' l Q,J.Bm M f g=(e,J',l)/\Lg l Q p (t+3)/\Q.F=y.F/\Ans M l e/\l.room=M.room/\(∀ k∈l.ids,k=f\/k=g\/k∈M.ids)/\l.Bi=M.Bi/\e≠some 10 /\
  (e=none->Jl J' l Q/\J'.limit=J.limit/\∃ i f,Mgx l Q ⟨J.last+1,[],A,1⟩ i f/\∃ n j,Q.G.drop i=[(n,j,([],[]))]):=by
 have a0:=h.AL hj.1;have K:∀ e∈y.G,e.1<=J.last:=fun e E=>by
  have:=JM.AO (limit:=J.limit) (ds:=J.CH) h.Bp e E;rw[<- hj.1] at this;exact this
 obtain⟨e1,R,v,a,q1,o,S,T,q5,V,X,q8,Y,c,a2,a4,a3⟩:=Sl h hj (by omega) (J.last+2) f (by omega) (by omega) hf;unfold JM.Bm;rw[q1] at B |-;cases e1 with
 | some n=>exact⟨some n,R,v,a,rfl,o.more (by omega),S,V,X,fun k s=>(Y k s).imp id .inr,c,a2,fun e=>by cases e⟩
 | none =>
  obtain⟨r1,r2,O,r4⟩:=a3 rfl;simp only at B |-;have u:a.new=none:=T.new.trans hn;have hx:∀ d r,Lg (v.born zf g r d) {a with new:=some g} p (t+2+1)->∃ i f,Mgx (v.born zf g r d) {a with new:=some g} ⟨J.last+1,[],A,1⟩ i f/\∃ n j,({a with new:=some g}:Lay).G.drop i=[(n,j,([],[]))]:=fun d r I=>by
   have m:({a with new:=some g}:Lay).pre y.G.length=y.F:=by
    show a.F0++zq (a.G.take y.G.length)=_;rw[O,Ea,T.F0]
    rfl
   refine⟨y.G.length,g,⟨rfl,?_,?_,fun b hb=>?_,DE (Iq _),fun e E=>?_,fun e E=>?_,?_,by simpa using a1,by rw[m];simpa using q,by simpa using G,by rw[m];simpa using L⟩,_,_,by show a.G.drop y.G.length=_;rw[O,GR]⟩
   .show y.G.length<a.G.length
    rw[O];simp
   .show a.i<=y.G.length
    rw[T.i];exact h.now.ij
   .have hb':y.base=some b:=by rw[<- T.base];exact hb
    have k:=h.now.base b hb';have N:y.i<y.G.length:=k.lt;have h4:=k.hi _ (Iv.2 ⟨0,by rw[Ib];show 0<y.G.length-y.i;omega,by rw[Hj];rfl⟩:y.G[y.i]'N∈y.G.drop y.i);have h5:=K _ (Ia N);show b.1<J.last+1;omega
   .have he':e∈a.G.take y.G.length:=E
    rw[O,Ea] at he';have:=K e he';show e.1<J.last+1;omega
   .have he':e∈a.G.drop y.G.length:=E
    rw[O,GR,JY] at he';subst he';show J.last+1<J.last+2;omega
   .rw[UW];rfl
  rcases TA o.bd (by omega) (by decide) (show zf≠ByteArray.empty by decide) (o.yx u) g with⟨C,D⟩|⟨d,C,D⟩|⟨C,D⟩
  .rw[C]
   have I:=Lk.Bm o u g B v.refused v.dead (Gt _) (by omega);refine⟨none,R,_,_,rfl,I,S,V.trans (Ans.ok D rfl rfl rfl),X,fun k s=>?_,(VC o.bd B _ _ _).trans c,(by intro e;cases e),fun _=>⟨⟨r1.1,fun e=>by rw[r4] at e;cases e⟩,r2,hx _ _ I⟩⟩;rcases Ix.1 s with e|e
   .exact .inr (.inl e)
   .exact(Y k e).imp id .inr
  .rw[C]
   exact⟨some 9,R,_,a,rfl,(Lg.no o d).more (by omega),S,V.trans (Ans.no D rfl rfl),X,fun k s=>(Y k s).imp id .inr,c,(by intro e;cases e),fun e=>by cases e⟩
  .rw[C]
   have I:=Lk.Bm o u g B (v.refused+1) true (by omega) (by omega);refine⟨some 9,R,_,_,rfl,I,S,V.trans (Ans.no D rfl rfl),X,fun k s=>?_,(VC o.bd B _ _ _).trans c,(by intro e;cases e),fun e=>by cases e⟩;rcases Ix.1 s with e|e
   .exact .inr (.inl e)
   .exact(Y k e).imp id .inr
theorem Uk:∀(a:List Fact),(∀ x∈a,(zj x).size<=2000)->(zE a).length<=2000*a.length
 | [],_=>by simp[zE]
 | x::a,h=>by
  have c:=h x (JX ..);have d:=Uk a (fun y b=>h y (JV _ b));have e:(zS (zw x)).length=(zj x).size:=by rw[<- Wm,Gj];rfl
  rw[XS,JR,Ih];omega
theorem KH{M:DM}{y:Lay}{p t k:Nat}(h:Lk M y p t k){g:MgM}{i f:Nat}(d:Mgx M y g i f){x:Fact}{left:List Fact}(A:g.left=x::left)(L:t<=1000000)(X:k<=2000000) :
 ∃ r l,M.add zf (zj x)=(r,l)/\Lk l y p t (k+1)/\Ans M l (zF r)/\l.room=M.room/\l.ids=M.ids/\l.dir=M.dir/\l.safe=M.safe/\l.CD=M.CD/\(zF r=some 10->M.room<2100000000000000)/\(r=0->Mgx l y {g with done:=g.done++[x],left:=left} i f):=by
 obtain⟨B,T⟩:=h.Am d.new;obtain⟨v,j,r,u,K,Q,hj,c⟩:=OS h.bd L X B (zj x);have E:(zj x).data.toList.length=(zj x).size:=by rw[Gj];rfl
 have hx:=d.ok x (by rw[A];simp);have V:=h.fl;have a0:=(Yv y i).length_le;have C:=d.len;rw[A,JR,Ih] at C;have R:=Uk g.done (fun z hz=>(d.ok z (GU _ hz)).2);have m:M.refused<=r/\r<=M.refused+1/\M.CG<=u/\u-M.CG<=r-M.refused:=by
  rcases c with⟨_,_,a,b,_⟩|⟨a,⟨_,b,_⟩|⟨_,b,_⟩⟩ <;> subst a b <;> refine⟨by omega,by omega,by omega,by omega⟩
 have I:=h.write d.new ((zj x).data.toList.take j) (by rw[d.bytes,JU];omega) r u K m.1 m.2.1 m.2.2.1 m.2.2.2;have O:=h.bd.Bi L;have o:Ans M (M.put f ((zj x).data.toList.take j) r u K) (zF v):=by
  rcases c with⟨rfl,_,rfl,rfl,rfl,D⟩|⟨rfl,⟨rfl,rfl,G⟩|⟨rfl,rfl,rfl,_⟩⟩
  .exact Ans.ok D rfl rfl rfl
  .exact Ans.no G rfl rfl
  .exact⟨.inr ⟨rfl,.inr ⟨rfl,rfl,rfl⟩⟩,rfl,rfl,Cu (Int.lt_succ _),(fun e=>by cases e),(fun e=>by cases e)⟩
 refine⟨v,_,Q,I,o,rfl,rfl,rfl,rfl,rfl,fun e=>?_,fun q=>?_⟩
 .have h10:v=10:=by
   unfold zF at e;split at e
   .cases e
   .exact IL e
  rcases c with⟨a,_⟩|⟨_,⟨a,_⟩|⟨_,_,_,_,Y⟩⟩
  .rw[a] at h10;cases h10
  .rw[a] at h10;cases h10
  .have:=hx.2;omega
 .have hjf:j=(zj x).size:=by
   rcases c with⟨_,a,_⟩|⟨_,⟨a,_⟩|⟨a,_⟩⟩
   .exact a
   .rw[a] at q;cases q
   .rw[a] at q;cases q
  have s:g.done++[x]++left=g.done++g.left:=by rw[A];simp
  refine⟨d.new,d.lt,d.yi,d.old,d.one,d.lo,d.hi,?_,by show ∀ z∈g.done++[x]++left,_;rw[s];exact d.ok,by show(g.done++[x]++left).foldl _ _=_;rw[s];exact d.held,fun k=>by have:=d.BF k;rw[<- s] at this;exact this,by show(g.done++[x]++left).length<=_;rw[s];exact d.len⟩;rw[Yn,Io rfl,d.bytes,hjf,<- E,Ij];show _=zE (g.done++[x]);rw[V6]
theorem Rx{d:Dir}{i:Nat}{a:ByteArray}(h:∀ e∈d,e.1≠a)(j:i<d.length):∀ k,k<=d.length->ZS d i a k=if k<=i then d.take k else d.take i++(d.take k).drop (i+1)
 | 0,_=>by simp[ZS]
 | k+1,m=>by
  have l:=Rx h j k (by omega);rw[R3 d i a k (by omega),l];have b:(d[k].1==a)=false:=by
   cases hb:(d[k].1==a) with
   | false=>rfl
   | true=>exact absurd (Z5.1 hb) (h _ (Ia _))
  have c:d.take (k+1)=d.take k++[d[k]]:=by rw[Fj,Ii (by omega)];rfl
  by_cases f:k+1<=i
  .rw[Io (by omega),Io f,Io ⟨by omega,b⟩,c]
  .rw[Ie f]
   by_cases g:k=i
   .subst g
    rw[Io (JS _),Ie (fun x=>x.1 rfl),Iz,IX (by rw[JU];omega),Iz]
   .rw[Ie (by omega),Io ⟨g,b⟩,c,Ig,GM (by rw[JU];omega)]
theorem Mj{d:Dir}{i:Nat}{a:ByteArray}(c:∀ e∈d,e.1≠a)(b:i<d.length):d.renamed i a=d.take i++d.drop (i+1)++[(a,d[i].2)]:=by
 unfold Dir.renamed;rw[Rx c b d.length (JS _),Ie (by omega),Ij,Ii b]
def Lay.BQ(y:Lay)(g:MgM)(i f:Nat):Lay:={y with new:=none,CT:=y.CT++y.base.toList.map (fun b=>(true,b.1,b.2.1))++((y.G.take i).drop y.i).map (fun e=>(false,e.1,e.2.1)),base:=some (g.number,f,g.done),i:=i}
theorem Mk{M:DM}{y:Lay}{p t k:Nat}(h:Lk M y p t k){g:MgM}{i f:Nat}(l:Mgx M y g i f)(hl:g.left=[])(B:(M.file f).safe=(M.file f).bytes.length) :
 ∃ n,M.dir.idx zf=some n/\(M.dir.renamed n (zn true g.number)).length<=t/\Snd M (y.BQ g i f) (M.dir.renamed n (zn true g.number)) (y.BQ g i f).z/\(∀ r d,(M.turn (M.dir.renamed n (zn true g.number)) r d).Bi=M.Bi):=by
 have J:(zf,f)∈M.dir:=by
  rw[h.now.perm.mem_iff];unfold Dl.dir;simp only[JW,Ic,zM];exact .inr ⟨f,l.new,rfl⟩
 obtain⟨n,hn,E,D,j⟩:=Po h.names J;have s:∀ e∈M.dir,e.1≠zn true g.number:=fun e a x=>by
  have o:e.1∈(y.z.Bg y.G).map ZC:=by
   rw[<- Dl.names,<- (h.now.perm.map Prod.fst).mem_iff];exact IU a
  obtain⟨c,L,R⟩:=Ic.1 o;have S:c=some (true,g.number):=WX (R.trans x);subst S;unfold Dl.Bg at L;simp only[JW,Ic,zM] at L;rcases L with((⟨e,a,o⟩|⟨e,a,o⟩)|⟨e,a,o⟩)|⟨e,_,o⟩
  .simp only[IM,Ga] at o
   obtain⟨_,X,A,S⟩:=h.now.low e a;have:=l.old X A;omega
  .simp only[IM,Ga] at o
   have:=l.old e a;omega
  .simp at o
  .cases o
 have m:=Mj s hn;rw[D] at m;have a0:=l.yi;have I:=l.lt;refine⟨n,E,?_,?_,fun r d=>?_⟩
 .rw[m,JR,JR,JU,Ib,JZ]
  have:=h.bd.dir;omega
 .have hp0:=h.now.perm
  have Y:y.z.dir y.G=y.CT.map YQ++y.base.toList.map Ye++(y.G.drop y.i).map ZI++[(zf,f)]:=by
   show y.CT.map YQ++y.base.toList.map Ye++((y.G.take y.G.length).drop y.i).map ZI++y.new.toList.map _=_;rw[Ij,l.new]
   rfl
  rw[Y] at hp0;have q:(M.dir.take n++M.dir.drop (n+1)).Perm (y.CT.map YQ++y.base.toList.map Ye++(y.G.drop y.i).map ZI) :=
   ((j.symm.trans hp0).trans Fb).cons_inv
  have e3:(y.BQ g i f).z.dir (y.BQ g i f).G=y.CT.map YQ++y.base.toList.map Ye++((y.G.take i).drop y.i).map ZI++[(zn true g.number,f)]++(y.G.drop i).map ZI:=by
   show(y.CT++y.base.toList.map _++((y.G.take i).drop y.i).map _).map YQ++[Ye (g.number,f,g.done)]++((y.G.take y.G.length).drop i).map ZI++[]=_;rw[Ij,Iz,Ip,Ip,Ho,Ho]
   rfl
  have Q:y.G.drop y.i=(y.G.take i).drop y.i++y.G.drop i:=by
   conv=>lhs;rw[<- Ik i y.G,GM (by rw[JU];omega)]
  have v:∀ e∈(y.BQ g i f).CT,1<=e.2.1/\e.2.1<g.number:=fun e a=>by
   have C:e∈y.CT++y.base.toList.map (fun b=>(true,b.1,b.2.1))++((y.G.take i).drop y.i).map (fun e=>(false,e.1,e.2.1)):=a;simp only[JW,Ic,zM] at C;rcases C with(a|⟨b,u,rfl⟩)|⟨x,O,rfl⟩
   .obtain⟨o,b,u,R⟩:=h.now.low e a
    have:=l.old b u;omega
   .exact⟨(h.now.base b u).one,l.old b u⟩
   .have hx2:=Ir O
    exact⟨(h.pos x (IJ hx2)).1,l.lo x hx2⟩
  refine⟨?_,FQ I,JS _,fun e a=>⟨(v e a).1,_,rfl,(v e a).2⟩,?_,fun b u=>?_,(fun u=>by cases u),?_,fun e a=>?_⟩
  .rw[e3,m]
   rw[Q,Ip,<- Ig] at q;refine(q.append_right _).trans ?_;rw[Ig _ _ [(zn true g.number,f)],Ig _ [(zn true g.number,f)] _];exact EE _ Fb
  .have hnd:=h.now.AU h.Bp
   rw[UF] at hnd;refine List.Sublist.nodup ?_ hnd;show((y.CT++y.base.toList.map (fun b=>(true,b.1,b.2.1))++((y.G.take i).drop y.i).map (fun e=>(false,e.1,e.2.1))).map (fun e:Bool × Nat × Nat=>e.2.1)).Sublist (y.CT.map (fun e:Bool × Nat × Nat=>e.2.1)++y.base.toList.map (fun b:Nat × Nat × List Fact=>b.1)++((y.G.take y.G.length).drop y.i).map (fun e:Ent=>e.1));rw[Ij,Ip,Ip,Ho,Ho,Q,Ip];exact List.Sublist.append_left (List.sublist_append_left _ _) _
  .have A:b=(g.number,f,g.done):=(IL u).symm
   subst A;have N:g.done++g.left=g.done:=by rw[hl,Iz]
   have V:=l.held;have T:=l.BF;have G:=l.len;have K:=l.ok;rw[N] at V T G K;exact⟨I,l.one,l.lo,l.hi,l.bytes,B,fun e a x=>h.BB e a (by rw[l.new,x]),(by intro e;cases e),fun x O=>(K x O).1,V,T,G⟩
  .rw[m,Ip]
   have o:=(j.map (·.2)).nodup_iff.1 h.now.once;exact(Fb (l₁:=[f])).nodup_iff.1 o
  .rw[m] at a
   rcases JW.1 a with a|a
   .exact h.now.Bq e (j.mem_iff.2 (JV _ a))
   .rw[JY] at a
    subst a;have:=h.now.Bq _ J;exact this
 .show((M.dir.renamed n (zn true g.number)).map fun e=>(M.file e.2).bytes.length).sum=(M.dir.map fun e=>(M.file e.2).bytes.length).sum
  rw[m,(j.map fun e=>(M.file e.2).bytes.length).sum_nat,Ip,Fa,Iw,GG];simp only[Iw,Gf,GG,Cw];omega
theorem KI{M:DM}{y:Lay}{p t k:Nat}(h:Lk M y p t k)(j:y.CT=[])(i:y.new=none){b:Nat × Nat × List Fact}(a:y.base=some b):M.Bi=(zE b.2.2).length+((y.G.drop y.i).map fun e=>(Zq e.2.2).length).sum:=by
 have f:M.Bi=((y.z.dir y.G).map fun e=>(M.file e.2).bytes.length).sum:=(h.now.perm.map fun e:ByteArray × Nat=>(M.file e.2).bytes.length).sum_nat;rw[f];have c:y.z.dir y.G=[Ye b]++(y.G.drop y.i).map ZI:=by
  show y.CT.map YQ++y.base.toList.map Ye++((y.G.take y.G.length).drop y.i).map ZI++y.new.toList.map _=_;rw[j,i,a,Ij];simp
 rw[c,Ip,Fa,Ho];have d:([Ye b].map fun e=>(M.file e.2).bytes.length).sum=(zE b.2.2).length:=by
  simp only[Iw,Gf,GG,Cw,Fg];show(M.file b.2.1).bytes.length=_;rw[(h.now.base b a).bytes]
 rw[d]
 congr 2
 refine Gs fun e g=>?_;show(M.file e.2.1).bytes.length=_;rw[h.bytes e (Ir g)]
theorem Jk{J:JM}{M:DM}{y:Lay}{p t k:Nat}(h:Lk M y p t k){g:MgM}{i f:Nat}(j:Mgx M y g i f)(hl:g.left=[])(ht:t<=980000)(hk:k<=981000) :
 ∃ l,((M.sync zf).1=0->((M.sync zf).2.rename zf (zn true g.number)).1=0->∀ b LX L,DRep L b LX ((M.sync zf).2.rename zf (zn true g.number)).2->(∀ K,Fr Nil L K->Tab K)->Yd L ->
  Calls Tryz.prog 144 #[.pointer (some ⟨b,0,none⟩)] L fun e K=>∃ v L',e=.returned v/\ERep K v (((M.sync zf).2.rename zf (zn true g.number)).2.Bf l).1/\DStep b LX ((M.sync zf).2.rename zf (zn true g.number)).2 L L' (((M.sync zf).2.rename zf (zn true g.number)).2.Bf l).2 K) /\
  (M.sync zf).2.CD.length+1<=1000000000000/\(M.sync zf).2.dir.length+1<=1000000000000 /\
  ∃ e Q q y',J.replace M (zn true g.number) l=(e,Q,q)/\Lg q y' p (t+2)/\y'.F=y.F/\Ans M q e/\q.room=M.room/\q.ids=M.ids/\e≠some 10 /\
   (e=none->y'.new=none/\Q.limit=J.limit/\(Jl J M y->Jl Q q y')/\q.Bi=(zE g.done).length+((y.G.drop i).map fun e=>(Zq e.2.2).length).sum):=by
 obtain⟨V,_⟩:=h.Am j.new;have a1:zn true g.number≠ByteArray.empty:=fun e=>by
  have u:=GP (fun b:ByteArray=>b.data.toList) e;simp only[zn,XE] at u;cases u
 have a9:=h.bd.CD;have b0:=h.bd.dir;rcases sync_any h.bd (by omega) (by omega) V with⟨s,C⟩|⟨d,s,a3⟩
 .have u:=h.BN f
  have a0:Mgx (M.BN f) y g i f:=⟨j.new,j.lt,j.yi,j.old,j.one,j.lo,j.hi,(Y7 M f f).trans j.bytes,j.ok,j.held,j.BF,j.len⟩;have a4:((M.BN f).file f).safe=((M.BN f).file f).bytes.length:=by rw[WJ,Y7,Io rfl]
  obtain⟨n,T,X,a5,b2⟩:=Mk u a0 hl a4;have I:∀ r d,(M.BN f).refused<=r->r<=(M.BN f).refused+1->Lk ((M.BN f).turn ((M.BN f).dir.renamed n (zn true g.number)) r d) (y.BQ g i f) p t (k+2):=fun r d a b =>
   u.turn (y':=y.BQ g i f) r d a b X rfl rfl (fun _ e=>by cases e) a5
  rw[s];rcases NY u.bd (by omega) (by omega) a1 T with⟨o,a2⟩|⟨d,o,D⟩|⟨o,D⟩
  .have G:=I (M.BN f).refused (M.BN f).dead (Gt _) (by omega)
   obtain⟨l,Y,b1,a6⟩:=Rr G (by omega) (by omega);simp only[o];refine⟨l,fun _ _=>a6,?_,?_,?_⟩
   .show M.CD.length+1<=_;omega
   .show M.dir.length+1<=_;omega
   obtain⟨e3,O,m,q0,E,q2,q3,q4,q5,q6,q7,q8,q9,b3,a7,a8⟩:=Pp l G (by omega) (by omega) Y;have A:m.F=y.F:=by unfold Lay.F;rw[q2,q3];rfl
   have c:Ans M O e3:=Ans.trans (M2:=M.BN f) (Ans.ok C rfl rfl rfl) (Ans.trans (M2:=(M.BN f).turn ((M.BN f).dir.renamed n (zn true g.number)) (M.BN f).refused (M.BN f).dead) (Ans.ok a2 rfl rfl rfl) q7);unfold JM.replace;simp only[s,o,q0,ne_eq,not_true,Hf];cases e3 with
   | some x=>exact⟨some x,J,O,m,rfl,E.BP (by omega),A,c,q8,q9,a7,fun e=>by cases e⟩
   | none =>
    obtain⟨ho,hn⟩:=a8 rfl;simp only;unfold JM.CQ;rcases UB E.bd (by omega) (by omega) with⟨R,B⟩|⟨d,R,B⟩
    .simp only[R]
     have h4:=E.BO E.Bh;refine⟨none,_,O.BO,m.trim,rfl,h4.BP (by omega),(Lay.An m).trans A,c.trans (Ans.ok B rfl rfl rfl),q8,q9,(by intro e;cases e),fun _=>⟨hn,rfl,fun hj=>⟨?_,fun _=>⟨rfl,rfl⟩⟩,?_⟩⟩
     .show({J with CH:=_}:JM)=JM.on J.limit m.trim.G _
      rw[E.AW,q3];show _=JM.on J.limit y.G _;rw[<- JM.AM J.limit y.G J.CH,<- hj.1]
     .have hb3:m.trim.base=some (g.number,f,g.done):=q4
      have:=KI h4 (show m.trim.CT=[] from ho) (show m.trim.new=none from hn) hb3;rw[this];have e5:m.trim.G.drop m.trim.i=y.G.drop i:=by
       show(m.G.drop m.i).drop 0=_;rw[Hx,q3,q5]
       rfl
      rw[e5]
    .simp only[R]
     exact⟨some 9,_,O.no d,m,rfl,(E.no d).BP (by omega),A,c.trans (Ans.no B rfl rfl),q8,q9,(by intro e;cases e),fun e=>by cases e⟩
  .simp only[o]
   refine⟨[],fun _ e=>absurd e (by decide),?_,?_,some 9,J,(M.BN f).no d,y,?_,(u.no d).BP (by omega),rfl,(Ans.ok C rfl rfl rfl:Ans M (M.BN f) none).trans (Ans.no D rfl rfl),rfl,rfl,(by intro e;cases e),fun e=>by cases e⟩
   .show M.CD.length+1<=_;omega
   .show M.dir.length+1<=_;omega
   .unfold JM.replace
    rw[s];simp only[o,ne_eq,not_true,Hf]
    rfl
  .simp only[o]
   have G:=I ((M.BN f).refused+1) true (by omega) (by omega);refine⟨[],fun _ e=>absurd e (by decide),?_,?_,some 9,J,_,y.BQ g i f,?_,G.BP (by omega),rfl,(Ans.ok C rfl rfl rfl:Ans M (M.BN f) none).trans (Ans.turn D),rfl,rfl,(by intro e;cases e),fun e=>by cases e⟩
   .show M.CD.length+1<=_;omega
   .show M.dir.length+1<=_;omega
   .unfold JM.replace
    rw[s];simp only[o,ne_eq,not_true,Hf]
    rfl
 .rw[s]
  refine⟨[],fun e=>absurd e (fun h=>by have G:(9:Int)=0:=h;omega),?_,?_,some 9,J,M.no d,y,?_,(h.no d).BP (by omega),rfl,Ans.no a3 rfl rfl,rfl,rfl,(by intro e;cases e),fun e=>by cases e⟩
  .show M.CD.length+1<=_;omega
  .show M.dir.length+1<=_;omega
  .unfold JM.replace
   rw[s]
   rfl
theorem Zv.kept{S:Nat->Prop}{w o:World}{j:Value}{l:List Fact}(h:Zv w j l)(f:Fr S w o)(g:∀ k t,Ty w k t->t=165\/t=37->¬S k):Zv o j l:=by
 obtain⟨q,s,a,e,m,u,x,y⟩:=h;refine⟨q,s,a,e,ze m f (fun i c=>g i _ (zB m c) (.inl rfl)),u,x,fun i c=>?_⟩;obtain⟨A,d,b⟩:=y i c;exact⟨A,d,b.kept f (fun k r=>g k _ r (.inr rfl))⟩
def Ww(w:World)(a:Nat):Nat:=match w.cell? ⟨a,1,none⟩ with
 | some (.slice _ n _)=>n
 | _=>0
def NM.AF(N:NM)(m:MgM):Bool:=decide (N.S.keys.length+N.S.hints.length+4<=m.calls+1)
structure Mwr(L:NL)(N:NM)(M:DM)(y:Lay)(p t k0:Nat)(m:MgM)(i f mb:Nat)(w:World)(done left:List Fact)(Li:NL)(Mi:DM)(wi:World):Prop where
 st:NStep L M w Li {N with mg:=some ⟨m.number,done,left,m.calls+1⟩} Mi wi
 mv:Li.mv=.pointer (some ⟨mb,0,none⟩)
 lk:Lk Mi y p t (k0+(m.left.length-left.length))
 mx:Mgx Mi y ⟨m.number,done,left,m.calls+1⟩ i f
 len:left.length<=m.left.length
 all:done++left=m.done++m.left
 go:left.length=m.left.length\/N.AF m=true
 Bv:Ans M Mi none
 room:Mi.room=M.room
 ids:Mi.ids=M.ids
 dir:Mi.dir=M.dir
 safe:Mi.safe=M.safe
 CD:Mi.CD=M.CD
def Mgo(L:NL)(N:NM)(M:DM)(y:Lay)(p t q:Nat)(m:MgM)(i f:Nat)(w:World)(e:Ending)(l:World):Prop :=
 ∃ b g v o j c a h,e=.returned (.tuple #[.bool b,v])/\ERep l v g/\NStep L M w o {N with J:=j,mg:=c} a l/\Lg a h p (t+2)/\h.F=y.F/\Ans M a g/\a.room=M.room/\a.ids=M.ids/\(g=some 10->M.room<2100000000000000) /\
  ((g≠none/\b=false) \/
    (g=none/\b=false/\h=y/\j=N.J/\a.dir=M.dir/\a.safe=M.safe/\a.CD=M.CD/\N.AF m=false/\Lk a y p t (q+1)/\∃ d k,c=some ⟨m.number,d,k,m.calls+1⟩/\Mgx a y ⟨m.number,d,k,m.calls+1⟩ i f/\k.length+1=m.left.length/\d++k=m.done++m.left) \/
    (g=none/\b=true/\c=none/\h.new=none/\j.limit=N.J.limit/\(Jl N.J M y->Jl j a h)/\(m.left=[]\/N.AF m=true)/\a.Bi=(zE (m.done++m.left)).length+((y.G.drop i).map fun e=>(Zq e.2.2).length).sum))
theorem Mwr.merge{L:NL}{N:NM}{M:DM}{y:Lay}{p t s:Nat}{m:MgM}{i f k:Nat}{w:World}{done left:List Fact}{c:NL}{l:DM}{b:World}(h:Mwr L N M y p t s m i f k w done left c l b)(g:N.readOnly=false) :
 ∃ a d,Blk b k [.pointer (some ⟨a,0,none⟩),d,.int .i64 (m.calls+1:Nat)] 201/\Blk b a [.pointer (some ⟨c.jb,0,none⟩),.int .i64 m.number] 250/\Zv b d left:=by
 have j:MRp b c.mv c.jb (if N.readOnly=true then none else some ⟨m.number,done,left,m.calls+1⟩):=h.st.CK.yr;rw[Ie (by rw[g];decide)] at j;obtain⟨u,a,d,e,o,q,r⟩:=j;rw[h.mv] at e;simp only[EV,IM,Dv,Cy] at e;subst e;exact⟨a,d,o,q,r⟩
theorem TP(B:Nat)(L:NL)(N:NM)(M:DM)(y:Lay)(p t k0:Nat)(m:MgM)(i f:Nat)(w:World)(h:NRep w L N M)(b7:zU B w)(hB:B<=w.heap.size)(a2:∀ k,NFoot L M k->B<=k)(V:N.readOnly=false)(e5:N.mg=some m)(hl:Lk M y p t k0)(i5:k0+m.left.length<=980950)(g:Mgx M y m i f)(ht:t<=980000)
 (E:N.S.keys.length<1000000000)(hh:N.S.hints.length<1000000)(i4:m.calls<1000000000)(e7:m.number<1000000000000) :
 Calls Tryz.prog 89 #[.pointer (some ⟨L.nb,0,none⟩)] w (Mgo L N M y p t k0 m i f w):=by
 have hm:MRp w L.mv L.jb (if N.readOnly=true then none else N.mg):=h.yr;rw[Ie (by rw[V];decide),e5] at hm;obtain⟨o,C,lv,b3,a0,c2,a6⟩:=hm;have g7:=hl.fl;have h6:=(Yv y i).length_le;have e6:=g.len;rw[JR] at e6;have c4:w.cell? ⟨L.nb,6,none⟩=some (.pointer (some ⟨o,0,none⟩)):=by have:w.cell? ⟨L.nb,6,none⟩=some L.mv:=h.CB.cell 6;rw[b3] at this;exact this
 have g3:w.cell? ⟨o,2,none⟩=some (.int .i64 m.calls):=a0.cell 2;have h9:=a0.frozen;have i6:IntKind.i64.wrap ((m.calls:Int)+1)=(m.calls:Int)+1:=by rw[IB];omega
 have fs:Fr (fun k=>k=o) w (w.setCell ⟨o,2,none⟩ (.int .i64 ((m.calls:Int)+1))):=Fr.set (S:=fun k=>k=o) (p:=⟨o,2,none⟩) (U _ _) (fun _=>rfl) _;have j:∀ {k t},Ty w k t->t≠201->¬k=o:=fun ht hn e=>by subst e;exact hn (ht.inj a0.ty)
 have d7:MRp (w.setCell ⟨o,2,none⟩ (.int .i64 ((m.calls:Int)+1))) L.mv L.jb (some ⟨m.number,m.done,m.left,m.calls+1⟩):=by
  refine⟨o,C,lv,b3,by have:=a0.set 2 (.int .i64 ((m.calls:Int)+1));simpa using this,c2.fr fs (j c2.ty (by decide)),?_⟩;obtain⟨g',k',d5,i0,q1,q2,q3,q4⟩:=a6;refine⟨g',k',d5,i0,ze q1 fs (fun i hi=>j (zB q1 hi) (by decide)),q2,q3,fun i hi=>?_⟩;obtain⟨u',h7,g6⟩:=q4 i hi;exact⟨u',h7,g6.kept fs (fun k E=>j E (by decide))⟩
 have d6:=h.CN.fr fs (fun k E=>by
  obtain⟨t,ht,hd⟩:=h.CN.ty E;unfold DTy at hd;refine j ht ?_;rcases hd with rfl|rfl|rfl|rfl|rfl <;> decide)
 have e8:=NStep.merged (mg:=some ⟨m.number,m.done,m.left,m.calls+1⟩) h V b3 (fs.mono (fun _ _ e=>.inl e)) d6 (fun k E=>.inl E) d7;have d8:Mwr L N M y p t k0 m i f o w m.done m.left {L with LD:=L.LD} M (w.setCell ⟨o,2,none⟩ (.int .i64 ((m.calls:Int)+1))) :=
  ⟨e8,b3,by rw[Cv,Fg];exact hl,⟨g.new,g.lt,g.yi,g.old,g.one,g.lo,g.hi,g.bytes,g.ok,g.held,g.BF,g.len⟩,JS _,rfl,.inl rfl,Ans.refl M,rfl,rfl,rfl,rfl,rfl⟩
 have d4:=Z d8;have u:=Z (And.intro b7 (And.intro hB a2));have d1:=Z (And.intro E hh);have i3:m.left.length<=980040:=by omega
 clear h e5 a0 c2 a6 fs j d7 d6 e8 d8 b7 hB a2 hl g e6 h6 g7;go_enter Tryz.func89,Tryz.ntmps89;go_wp2_with fail;generalize w.setCell ⟨o,2,none⟩ (.int .i64 ((m.calls:Int)+1))=w1 at d4 |-;clear c4 g3 h9
 go_loopw [5] (fun _ w'=>∃ done left v Mi,Mwr L N M y p t k0 m i f o w done left v Mi w') (fun _ w'=>Ww w' o)
 case atStart=>exact⟨m.done,m.left,_,M,d4.out⟩
 case round =>
  obtain⟨done,left,v,Mi,A⟩:=hrel;obtain⟨C,lv,hb,a1,T⟩:=A.merge V;have b:=Z A;have c3:wr.cell? ⟨o,1,none⟩=some lv:=hb.cell 1;cases left with
  | nil =>
   obtain⟨a,c,rfl⟩:∃ a c,lv=.slice a 0 c:=by obtain⟨_,_,_,_,_,_,q,_⟩:=T;exact q rfl
   have D:=A.lk;rw[IR,Nat.sub_zero] at D;obtain⟨l,e9,d9,e0,e4,J4,M4,y4,q0,q1,q2,q3,q4,q5,q6,q7⟩:=Jk (J:=N.J) D A.mx rfl ht (by omega);have a7:∀ k,NFoot v Mi k->B<=k:=fun k E=>(A.st.CX k E).elim (u.out.2.2 k) (fun e=>JT u.out.2.1 e);have c8:zU B wr:=u.out.1.fr u.out.2.1 A.st.fr u.out.2.2;have Y:B<=wr.heap.size:=JT u.out.2.1 A.st.fr.size;have b9:=Z (TD C v.jb v.db m.number N.J v.LD Mi l wr a1 A.st.CK.log A.st.CK.CN e7 (fun w' f'=>(c8.fr Y f' (fun _ e=>absurd e id)).1.1) (fun wx fx=>Sk v.jb v.db N.J v.LD Mi (zn true m.number) l wx (Blk.fr A.st.CK.log fx id) (A.st.CK.CN.nil fx) d9 e0 (fun h1 h2 wy LX hd f _=>by
    have j:zU B wy:=(c8.fr Y fx (fun _ e=>absurd e id)).fr (JT Y fx.size) f (fun k e=>by
     rcases e with e|e
     .exact a7 k (.inr (.inl e))
     .exact a7 k (.inr (.inr (.inr (.inl e)))))
    have f7:B<=wy.heap.size:=JT (JT Y fx.size) f.size;exact e9 h1 h2 v.db LX wy hd (fun w' f'=>(j.fr f7 f' (fun _ e=>absurd e id)).1.1) j.2.1)))
   rw[q0] at b9;have g2:wr.cell? ⟨o,0,none⟩=some (.pointer (some ⟨C,0,none⟩)):=hb.cell 0;have d:=Z (And.intro q1 (And.intro q2 (And.intro q3 (And.intro q4 (And.intro q5 (And.intro q6 q7))))));clear A hb a1 T D e9 d9 e0 q0 q1 q2 q3 q4 q5 q6 q7 a7 c8 Y;go_wp2_with fail;refine b9.out.mono ?_;rintro e w3 ⟨v3,L3,rfl,hE,e1⟩;have s:=b.out.st.trans (NStep.BC b.out.st.CK e1);have O:=Z s;have HE:=Z hE;have K:=b.out.st.same.nb;clear e1 g2 b9 c3;cases e4 with
   | some n =>
    obtain⟨k,a3⟩:=hE;obtain⟨t5,b5,rfl⟩:=a3.form;clear a3 s;go_wp2_with fail;go_ret2;refine⟨false,some n,_,{v with LD:=L3},J4,some ⟨m.number,done,[],m.calls+1⟩,M4,y4,rfl,HE.out,O.out,d.out.1,d.out.2.1,b.out.Bv.trans d.out.2.2.1,d.out.2.2.2.1.trans b.out.room,d.out.2.2.2.2.1.trans b.out.ids,fun e=>absurd e d.out.2.2.2.2.2.1,.inl ⟨by simp,rfl⟩⟩
   | none =>
    have hv:v3=.nilIface:=hE;subst hv;have c4:=s.CK.CB.cell;have h8:=s.CK.CB.frozen;simp only[K] at c4 h8;have b8:=Z (s.yG (N:={N with J:=J4,mg:=some ⟨m.number,done,[],m.calls+1⟩}) V (.pointer none) none rfl (fun k e=>by cases e));clear s hE;go_wp2_with fail;go_ret2;have a9:=b8.out;simp only[K] at a9;obtain⟨h1,h2,h3,h4⟩:=d.out.2.2.2.2.2.2 trivial;have b4:=b.out.all;rw[Iz] at b4;refine⟨true,none,_,_,J4,none,M4,y4,rfl,rfl,a9,d.out.1,d.out.2.1,b.out.Bv.trans d.out.2.2.1,d.out.2.2.2.1.trans b.out.room,d.out.2.2.2.2.1.trans b.out.ids,(fun e=>by cases e),.inr (.inr ⟨rfl,rfl,rfl,h1,h2,fun hj=>h3 ?_,?_,?_⟩)⟩
    .unfold Jl at hj |-
     rw[b.out.dir,b.out.safe,b.out.CD];exact hj
    .rcases b.out.go with e|e
     .exact .inl (II e.symm)
     .exact .inr e
    .rw[h4]
     show(zE done).length+_=_;rw[b4]
  | cons x left =>
   obtain⟨g0,i7,c0,u0,c6,i2,-,-,-,-⟩:=T.cons;subst c6;have D:=A.lk;have e2:=A.len;rw[Ih] at e2;obtain⟨r,M',q1,q2,q3,q4,q5,q6,q7,q8,q9,f1⟩:=KH D A.mx rfl (by omega) (by omega);have f0:=A.mx.ok x (by simp);have c1:=Z (Sr o C v.jb v.db m.number (m.calls+1) N.J v.LD Mi x left _ wr hb a1 T A.st.CK.log A.st.CK.CN D.bd.part f0.1.1.1 (by omega) (fun f hf=>by have:=D.bd.file hf;omega) (by omega));rw[q1] at c1;have d:=Z (And.intro q2 (And.intro q3 (And.intro q4 (And.intro q5 (And.intro q6 (And.intro q7 (And.intro q8 (And.intro q9 f1))))))));have d0:=Z a1;have f5:=Z T;have h5:=hb.ty;have f8:Hid (Ww wr o=left.length+1):=by show Ww wr o=_;unfold Ww;rw[c3]
   have K:=b.out.st.same.nb;clear A hb a1 T D q1 q2 q3 q4 q5 q6 q7 q8 q9 f1 f0;go_wp2_with fail;refine c1.out.mono ?_;rintro e w3 ⟨v3,L3,c9,rfl,hE,b1,R,I,Q,b2,a4⟩;have j:∀ {k t},Ty wr k t->¬DTy t->t≠201->¬(k=o\/Foot v.db v.LD Mi k):=fun {k t} E g4 hj hf=>by
    rcases hf with hf|hf
    .subst hf;exact hj (E.inj h5)
    .exact b.out.st.CK.CN.apart E g4 hf
   have G:=d0.out.fr R (j d0.out.ty (by unfold DTy;decide) (by decide));have HE:=Z hE;clear c1 c3;by_cases h0:r=0
   .have he0:zF r=none:=by unfold zF;rw[Io h0]
    rw[he0] at hE HE d;have hv:v3=.nilIface:=hE;subst hv;have s:=NStep.merged (mg:=some ⟨m.number,done++[x],left,m.calls+1⟩) b.out.st.CK V b.out.mv R b1 I ⟨o,C,c9,b.out.mv,Q,G,b2 h0⟩;have a8:=b.out.st.trans s;have O:=Z a8;have d3:=Z (d.out.2.2.2.2.2.2.2.2 h0);have f2:=Z Q;have f3:=Z (b2 h0);have X:=Z (RY {v with LD:=L3} {N with mg:=some ⟨m.number,done++[x],left,m.calls+1⟩} M' o C c9 (m.calls+1) w3 a8.CK b.out.mv Q d1.out.1 d1.out.2);rw[show({v with LD:=L3}:NL).nb=L.nb from K] at X;have e3:decide (N.S.keys.length+N.S.hints.length+4<=m.calls+1)=N.AF m:=rfl;have d2:=Z e3;clear hE HE s a8 Q b2 a4 b1 R I G j h0 he0 e3;cases hmu:N.AF m with
    | true =>
     have b0:=Z hmu;have c7:Hid (∀ _:World,Calls Tryz.prog 137 #[.pointer (some ⟨L.nb,0,none⟩)] w3 fun e w'=>e=.returned (.bool true)/\Fr Nil w3 w'):=fun _=>by have:=X.out;rw[show decide ((({N with mg:=some ⟨m.number,done++[x],left,m.calls+1⟩}:NM)).S.keys.length+(({N with mg:=some ⟨m.number,done++[x],left,m.calls+1⟩}:NM)).S.hints.length+4<=m.calls+1)=true from d2.out.trans hmu] at this;exact this
     clear X hmu;go_wp2_with fail;refine(c7.out w3).mono ?_;rintro e w4 ⟨rfl,f4⟩;have a9:=O.out.CF f4;have g9:Ww w4 o=left.length:=by
      have f9:=f2.out.fr f4 id;have g1:w4.cell? ⟨o,1,none⟩=some c9:=f9.cell 1;unfold Ww;rw[g1];obtain⟨g5,k5,i1,i8,p1,p2,p3,p4⟩:=f3.out;by_cases hn:left=[]
      .obtain⟨a5,c5,rfl⟩:=p3 hn
       rw[hn];rfl
      .rw[p2 hn]
     have f6:Hid (Mwr L N M y p t k0 m i f o w (done++[x]) left {v with LD:=L3} M' w4) :=
      ⟨a9,b.out.mv,by have:=d.out.1;rw[Ih] at this;rw[show k0+(m.left.length-left.length)=k0+(m.left.length-(left.length+1))+1 by omega];exact this,d3.out,by omega,by rw[<- b.out.all];simp,.inr b0.out,b.out.Bv.trans d.out.2.1,d.out.2.2.1.trans b.out.room,d.out.2.2.2.1.trans b.out.ids,d.out.2.2.2.2.1.trans b.out.dir,d.out.2.2.2.2.2.1.trans b.out.safe,d.out.2.2.2.2.2.2.1.trans b.out.CD⟩
     clear a9 f4;go_wp2_with fail;exact⟨⟨_,_,_,_,f6.out⟩,by rw[g9,f8.out];omega⟩
    | false =>
     have b0:=Z hmu;have c7:Hid (∀ _:World,Calls Tryz.prog 137 #[.pointer (some ⟨L.nb,0,none⟩)] w3 fun e w'=>e=.returned (.bool false)/\Fr Nil w3 w'):=fun _=>by have:=X.out;rw[show decide ((({N with mg:=some ⟨m.number,done++[x],left,m.calls+1⟩}:NM)).S.keys.length+(({N with mg:=some ⟨m.number,done++[x],left,m.calls+1⟩}:NM)).S.hints.length+4<=m.calls+1)=false from d2.out.trans hmu] at this;exact this
     clear X hmu;go_wp2_with fail;refine(c7.out w3).mono ?_;rintro e w4 ⟨rfl,f4⟩;have b8:=Z (O.out.CF f4);clear f4;go_wp2_with fail;go_ret2;have g8:left.length+1=m.left.length:=by
      rcases b.out.go with e|e
      .rw[Ih] at e;exact e
      .rw[b0.out] at e;cases e
     refine⟨false,none,_,_,N.J,some ⟨m.number,done++[x],left,m.calls+1⟩,M',y,rfl,rfl,b8.out,d.out.1.BP (by omega),rfl,b.out.Bv.trans d.out.2.1,d.out.2.2.1.trans b.out.room,d.out.2.2.2.1.trans b.out.ids,(fun e=>by cases e),.inr (.inl ⟨rfl,rfl,rfl,rfl,d.out.2.2.2.2.1.trans b.out.dir,d.out.2.2.2.2.2.1.trans b.out.safe,d.out.2.2.2.2.2.2.1.trans b.out.CD,b0.out,by have:=d.out.1;rw[Ih,show k0+(m.left.length-(left.length+1))+1=k0+1 by omega] at this;exact this,_,_,rfl,d3.out,g8,by rw[<- b.out.all];simp⟩)⟩
   .have he0:zF r=some r:=by unfold zF;rw[Ie h0]
    rw[he0] at hE HE d;have c6:=a4 h0;subst c6;have b6:=f5.out.kept R (fun k t E ht=>by
     rcases ht with rfl|rfl
     .exact j E (by unfold DTy;decide) (by decide)
     .exact j E (by unfold DTy;decide) (by decide))
    have s:=NStep.merged (mg:=some ⟨m.number,done,x::left,m.calls+1⟩) b.out.st.CK V b.out.mv R b1 I ⟨o,C,_,b.out.mv,Q,G,b6⟩;have O:=Z (b.out.st.trans s);obtain⟨k,a3⟩:=hE;obtain⟨t5,b5,rfl⟩:=a3.form;clear a3 s b6 Q b2 a4 b1 R I G j h0 he0;go_wp2_with fail;go_ret2;refine⟨false,some r,_,_,N.J,some ⟨m.number,done,x::left,m.calls+1⟩,M',y,rfl,HE.out,O.out,d.out.1.BP (by omega),rfl,b.out.Bv.trans d.out.2.1,d.out.2.2.1.trans b.out.room,d.out.2.2.2.1.trans b.out.ids,fun e=>by have:=d.out.2.2.2.2.2.2.2.1 e;rw[b.out.room] at this;exact this,.inl ⟨by simp,rfl⟩⟩
theorem KJ{K:Keys}{a:ByteArray}(l:List Ver)(h:∀ x∈K,zh x.1 a=true):Zt K a l=K++[(a,l)]:=by
 have b:low zh (K.map Prod.fst) a=K.length:=Vb _ _ _ _ (by simp) (fun k c _=>by rw[Iy];exact h _ (Ia _)) (fun c=>absurd c (by simp));unfold Zt;rw[b,Wu (by rw[b];simp),Ie (by decide),Ij,Ek,Iz]
theorem TQ:∀(b:Keys)(S:SM),Yb (S.keys++b)->(∀ e∈b,e.2≠[])->(b.map (fun e=>(.inr (.inl e):Fact))).foldl SM.enter S={S with keys:=S.keys++b}
 | [],S,_,_=>by simp
 | (a,l)::b,S,h,c=>by
  have d:S.enter (.inr (.inl (a,l)))={S with keys:=S.keys++[(a,l)]}:=by
   show S.holds a l=_;unfold SM.holds;rw[Ie (c (a,l) (JX ..)),KJ];intro x g;unfold Yb at h;rw[Ip] at h;exact(GB.1 h).2.2 x.1 (IU g) a (by simp)
  rw[Iw,Hd,d,TQ b _ (by simpa using h) (fun e f=>c e (JV _ f))];simp
theorem UL:∀(a:List (Nat × ByteArray))(S:SM),(a.map (fun h=>(.inr (.inr (.inl h)):Fact))).foldl SM.enter S={S with hints:=S.hints++a}
 | [],S=>by simp
 | h::a,S=>by
  rw[Iw,Hd,show S.enter (.inr (.inr (.inl h)))={S with hints:=S.hints++[h]} from rfl,UL a];simp
theorem TR{S:SM}(h:zY S):S.facts.foldl SM.enter SM.nil=S:=by
 unfold SM.facts;rw[Hd,IQ,TQ S.keys _ (by show Yb ([]++S.keys);rw[IE];exact h.Bp) h.some,UL]
 rfl
theorem KK{S:SM}(h:zY S)(c:S.CA<9223372036854775808):∀ x∈S.facts,ZO x/\(zj x).size<=2000:=by
 intro x b;unfold SM.facts at b;simp only[Ix,JW,Ic] at b;rcases b with rfl|⟨e,a,rfl⟩|⟨e,a,rfl⟩
 .exact⟨Ue c,Lm c⟩
 .have:=h.key e a
  exact⟨XD (h.names e a) this.2.2 (by omega),YO (h.names e a) this.2.2 (by omega)⟩
 .have:=h.text e a
  exact⟨VO (by omega) this.2,XC (by omega) this.2⟩
theorem TS:∀(a:List Fact)(S:SM),(∀ x∈a,x≠.inr (.inr (.inr ())))->S.hints.length<=(a.foldl SM.enter S).hints.length
 | [],_,_=>JS _
 | x::a,S,h=>by
  refine JT ?_ (TS a (S.enter x) (fun y b=>h y (JV _ b)));rcases x with n|e|e|e
  .exact JS _
  .exact JS _
  .show _<=(S.hints++[e]).length
   rw[JR];omega
  .exact absurd rfl (h _ (JX ..))
theorem LP{S:SM}(h:zY S)(k:Nat):((S.facts.take k).foldl SM.enter SM.nil).hints.length<=32:=by
 have b:=TS (S.facts.drop k) ((S.facts.take k).foldl SM.enter SM.nil) (fun x a=>by
  have a:=Ir a;unfold SM.facts at a;simp only[Ix,JW,Ic] at a;rcases a with rfl|⟨e,c,rfl⟩|⟨e,c,rfl⟩ <;> (intro e;cases e))
 rw[<- IQ,Ik,TR h] at b;exact JT b h.hlen
theorem LQ{S:SM}(h:zY S){F:List Fact}(b:S=F.foldl SM.enter SM.nil):S.facts.length<=F.length+40:=by
 have a:=XT F SM.nil;rw[<- b] at a;have c:=h.hlen;have d:SM.nil.keys.length=0:=rfl;unfold SM.facts;simp only[Ih,JR,Is];omega
theorem KL{J:JM}{M:DM}{y:Lay}{p t:Nat}(h:Lg M y p t)(q:Jl J M y)(s:y.new=none)(u:t+4<=1000000){S:SM}(l:S=y.F.foldl SM.enter SM.nil)(a:zY S)(r:S.CA<9223372036854775808)
 (f g:Nat)(m:f∉M.ids)(o:g∉(J.begin M (J.last+2) f).2.2.ids) :
 ∃ e d b c,J.Bm M f g=(e,d,b)/\Lg b c p (t+3)/\c.F=y.F/\Ans M b e/\b.room=M.room/\(∀ k∈b.ids,k=f\/k=g\/k∈M.ids)/\b.Bi=M.Bi/\e≠some 10 /\
  (e=none->Jl d b c/\d.limit=J.limit/\∃ i f,Mgx b c ⟨J.last+1,[],S.facts,1⟩ i f/\∃ n j,c.G.drop i=[(n,j,([],[]))]) :=
 Jj h q s u S.facts (KK a r) (by rw[TR a,l]) (LP a) (LQ a l) f g m o
def Mst(N:NM)(y:Lay)(p t k i f:Nat)(a:Bool)(b:Option MgM)(c:DM)(h:Lay):Prop :=
 (N.mg=none/\a=false/\b=some ⟨N.J.last+1,[],N.S.facts,1⟩/\∃ i f,Mgx c h ⟨N.J.last+1,[],N.S.facts,1⟩ i f/\∃ n j,h.G.drop i=[(n,j,([],[]))]) \/
 (∃ m d g,N.mg=some m/\a=false/\N.AF m=false/\h=y/\Lk c y p t (k+1)/\b=some ⟨m.number,d,g,m.calls+1⟩/\Mgx c y ⟨m.number,d,g,m.calls+1⟩ i f/\g.length+1=m.left.length/\d++g=m.done++m.left) \/
 (∃ m,N.mg=some m/\a=true/\b=none/\(m.left=[]\/N.AF m=true)/\c.Bi=(zE (m.done++m.left)).length+((y.G.drop i).map fun e=>(Zq e.2.2).length).sum)
structure Mgw(L:NL)(N:NM)(M:DM)(y:Lay)(p t k0 i f:Nat)(w:World)(fin:Bool)(er:Option Int)(L':NL)(J':JM)(mg':Option MgM)(M':DM)(y':Lay):Prop where
 lg:Lg M' y' p (t+3)
 F:y'.F=y.F
 Bv:Ans M M' er
 room:M'.room=M.room
 full:er=some 10->M.room<2100000000000000
 stop:er≠none->fin=false
 BZ:er=none->Jl J' M' y'/\Mo M' y' mg'/\J'.limit=N.J.limit/\Mst N y p t k0 i f fin mg' M' y'
theorem Ss(B:Nat)(L:NL)(N:NM)(M:DM)(w:World)(h:NRep w L N M)(I:Env B L M w)(p:N.readOnly=false)(D:N.mg=none)(o:N.J.last+2<1000000000000)
 (i:(N.J.CC M).2.CD.length+1<=1000000000000)(j:(N.J.CC M).2.dir.length+1<=1000000000000)
 (l:∀ f,w.heap.size<=f->(N.J.begin M (N.J.last+2) f).2.2.CD.length+1<=1000000000000/\(N.J.begin M (N.J.last+2) f).2.2.dir.length+1<=1000000000000)
 (A:N.S.keys.length<1000000000)(T:N.S.hints.length<1000000) :
 Calls Tryz.prog 89 #[.pointer (some ⟨L.nb,0,none⟩)] w fun e O=>∃ f g v a,e=.returned (.tuple #[.bool false,v])/\w.heap.size<=f/\g∉(N.J.begin M (N.J.last+2) f).2.2.ids/\w.heap.size<=g/\ERep O v (N.begun M f g).1/\NStep L M w a (N.begun M f g).2.1 (N.begun M f g).2.2 O:=by
 have C:MRp w L.mv L.jb (if N.readOnly=true then none else N.mg):=h.yr;rw[Ie (by rw[p];decide),D] at C;have E:L.mv=.pointer none:=C;have S:w.cell? ⟨L.nb,6,none⟩=some (.pointer none):=by have:w.cell? ⟨L.nb,6,none⟩=some L.mv:=h.CB.cell 6;rw[E] at this;exact this
 have R:=Z (T1 B L N M w h I p o i j l A T);clear h I i j l C;go_enter Tryz.func89,Tryz.ntmps89;go_wp2_with fail;refine R.out.mono ?_;rintro e Q ⟨f,g,v,a,rfl,J,K,m,d,q⟩;have G:Hid (∃ f g a,w.heap.size<=f/\g∉(N.J.begin M (N.J.last+2) f).2.2.ids/\w.heap.size<=g/\ERep Q v (N.begun M f g).1/\NStep L M w a (N.begun M f g).2.1 (N.begun M f g).2.2 Q):=⟨f,g,a,J,K,m,d,q⟩;have c:v=.nilIface\/∃ t b,v=.iface t (.pointer (some ⟨b,0,none⟩)):=by
  cases hx:(N.begun M f g).1 with
  | none=>rw[hx] at d;exact .inl d
  | some n=>rw[hx] at d;obtain⟨k,A⟩:=d;obtain⟨t,b,rfl⟩:=A.form;exact .inr ⟨t,b,rfl⟩
 clear J K m d q;rcases c with rfl|⟨t,b,rfl⟩
 .go_wp2_with fail
  go_ret2;obtain⟨f,g,a,r,s,u,x,y⟩:=G.out;exact⟨f,g,_,a,rfl,r,s,u,x,y⟩
 .go_wp2_with fail
  go_ret2;obtain⟨f,g,a,r,s,u,x,y⟩:=G.out;exact⟨f,g,_,a,rfl,r,s,u,x,y⟩
theorem Ml(B:Nat)(L:NL)(N:NM)(M:DM)(y:Lay)(p t R i f:Nat)(w:World)(h:NRep w L N M)(s:zU B w)(hB:B<=w.heap.size)(b:∀ k,NFoot L M k->B<=k)(Q:N.readOnly=false)(C:Lk M y p t R)(A:Jl N.J M y)(a0:N.mg=none->R=0)(a1:∀ m,N.mg=some m->R+m.left.length<=980950)
 (a5:N.mg=none->y.new=none)(a3:∀ m,N.mg=some m->Mgx M y m i f/\m.calls<=m.done.length+1)(hS:N.S=y.F.foldl SM.enter SM.nil)(c:zY N.S)(J:N.S.CA<9223372036854775808)(ht:t<=980000) :
 Calls Tryz.prog 89 #[.pointer (some ⟨L.nb,0,none⟩)] w fun e w'=>∃ j q v E u o x T,e=.returned (.tuple #[.bool j,v])/\ERep w' v q/\NStep L M w E {N with J:=u,mg:=o} x w'/\Mgw L N M y p t R i f w j q E u o x T:=by
 have a9:=C.fl;have b9:N.S.keys.length<=t:=by
  have h1:=XT y.F SM.nil;rw[<- hS] at h1;have h3:SM.nil.keys.length=0:=rfl;omega
 have b0:=c.hlen;have a2:=C.AL A.1;cases hm:N.mg with
 | none =>
  have hn:=a5 hm;obtain rfl:=a0 hm;obtain⟨e1,M1,ea,I,_⟩:=XF C A.1 (by omega);have r:∀ g∈M.ids,g<w.heap.size:=fun g hg=>(h.CN.files g hg).lt;have a6:=I.bd.CD;have a7:=I.bd.dir;refine(Ss B L N M w h ⟨s.1,hB,fun k hk=>b k (.inr (.inr (.inr (.inl hk))))⟩ Q hm (by omega) (by rw[ea];show M1.CD.length+1<=_;omega) (by rw[ea];show M1.dir.length+1<=_;omega) (fun f hf=>?_) (by omega) (by omega)).mono ?_
  .obtain⟨e2,J2,M2,y2,S,G,_⟩:=Sl C A (by omega) (N.J.last+2) f (by omega) (by omega) (fun D=>by have:=r f D;omega)
   rw[S];have:=G.bd.CD;have:=G.bd.dir;exact⟨by show M2.CD.length+1<=_;omega,by show M2.dir.length+1<=_;omega⟩
  rintro e w' ⟨f',g,v,E,rfl,a8,hg,_,X,l⟩;obtain⟨q,u,x,T,S,G,q3,q4,q5,_,_,q8,q9⟩:=KL C A hn (by omega) hS c J f' g (fun D=>by have:=r f' D;omega) hg;have hb:N.begun M f' g=(q,{N with J:=u,mg:=if q=none then some ⟨N.J.last+1,[],N.S.facts,1⟩ else N.mg},x):=by unfold NM.begun;rw[S]
  rw[hb] at X l;refine⟨false,q,v,E,u,_,x,T,rfl,X,l,⟨G,q3,q4,q5,fun e=>absurd e q8,fun _=>rfl,fun V=>?_⟩⟩;obtain⟨r1,r2,i2,f2,r3,r4⟩:=q9 V;rw[Io V];exact⟨r1,⟨i2,f2,r3,JS _⟩,r2,.inl ⟨hm,rfl,rfl,i2,f2,r3,r4⟩⟩
 | some m =>
  obtain⟨Y,hc⟩:=a3 m hm;have c0:=(Yv y i).length_le;have a4:=Y.len;rw[JR] at a4;have O:m.number<1000000000000:=by
   have K:=Y.lt;have h4:=Y.hi _ (Iv.2 ⟨0,by rw[Ib];omega,by rw[Hj];rfl⟩:y.G[i]'K∈y.G.drop i);have h5:=(C.pos _ (Ia K)).2;omega
  refine(TP B L N M y p t R m i f w h s hB b Q hm C (a1 m hm) Y ht (by omega) (by omega) (by omega) O).mono ?_;rintro e w' ⟨j,q,v,E,u,o,x,T,rfl,X,l,S,G,q3,q4,q5,q6,q7⟩;refine⟨j,q,v,E,u,o,x,T,rfl,X,l,⟨S.more (by omega),G,q3,q4,q6,fun e=>?_,fun V=>?_⟩⟩
  .rcases q7 with⟨_,a⟩|⟨a,_⟩|⟨a,_⟩
   .exact a
   .exact absurd a e
   .exact absurd a e
  .rcases q7 with⟨a,_⟩|⟨_,a,rfl,rfl,b1,b2,b3,b4,b8,d,lf,rfl,b5,b6,b7⟩|⟨_,a,rfl,b1,b2,b3,b4,b5⟩
   .exact absurd V a
   .refine⟨?_,⟨i,f,b5,?_⟩,rfl,.inr (.inl ⟨m,d,lf,hm,a,b4,rfl,b8,rfl,b5,b6,b7⟩)⟩
    .unfold Jl at A |-
     rw[b1,b2,b3];exact A
    .have h7:=GP List.length b7
     rw[JR,JR] at h7;show m.calls+1<=d.length+1;omega
   .exact⟨b3 A,b1,b2,.inr (.inr ⟨m,hm,a,rfl,b4,b5⟩)⟩
theorem OG(D:zt)(B:Nat)(L:NL)(N:NM)(M:DM)(y:Lay)(p t O i f:Nat)(w:World)(h:NRep w L N M)(c:zU B w)(X:B<=w.heap.size)(a:∀ k,NFoot L M k->B<=k)(K:N.readOnly=false)(hl:Lk M y p t O)(hj:Jl N.J M y)(A:N.mg=none->O=0)(E:∀ m,N.mg=some m->O+m.left.length<=980950)
 (J:N.mg=none->y.new=none)(I:∀ m,N.mg=some m->Mgx M y m i f/\m.calls<=m.done.length+1)(hS:N.S=y.F.foldl SM.enter SM.nil)(b:zY N.S)(G:N.S.CA<9223372036854775808)(ht:t<=980000) :
 Calls Tryz.prog 40 #[.pointer (some ⟨L.nb,0,none⟩)] w fun e w'=>∃ d q L' Q j x y',e=.returned (.tuple #[.bool d,.int .i64 (Zd q)])/\NStep L M w L' (({N with J:=Q,mg:=j}:NM).Bv q) x w'/\Mgw L N M y p t O i f w d q L' Q j x y':=by
 have Y:w.cell? ⟨L.nb,7,none⟩=some (.bool false):=by have:w.cell? ⟨L.nb,7,none⟩=some (.bool N.readOnly):=h.CB.cell 7;rw[K] at this;exact this
 have HS:=Z (Ml B L N M y p t O i f w h c X a K hl hj A E J I hS b G ht);have HE:=Z (show Yc B L M w from⟨c.1,X,a⟩);clear h c X a hl hj A E J I hS b;go_enter Tryz.func40,Tryz.ntmps40;go_wp2_with fail;refine HS.out.mono ?_;rintro e w1 ⟨d,q,v,L1,Q,j,x,y',rfl,hE,r,hw⟩;have R:=Z hE;have V:=Z r;have o:=Z hw;have a0:=r.same.nb;clear hE r hw Y HS;have u:=Z (zy {data:=#[109,101,114,103,105,110,103]} v q w1 R.out);go_wp2_with fail;refine u.out.mono ?_;rintro e w2 ⟨v2,rfl,C,f2⟩;have g:=V.out.CF f2;have s:=Z (ZG D B L1 _ x v2 q w2 g.CK (HE.out.step g) C);rw[a0] at s;have S:=Z g;clear g C f2 u;go_wp2_with fail;refine s.out.mono ?_;rintro e w3 ⟨L3,rfl,l⟩;have T:=Z (S.out.trans l);clear l
 go_wp2
 go_ret2;exact⟨d,q,L3,Q,j,x,y',rfl,T.out,o.out.lg,o.out.F,o.out.Bv,o.out.room,o.out.full,o.out.stop,o.out.BZ⟩
structure Mrg(W:WM)(N:NM)(M:DM)(F:List Fact)(p t:Nat)(er:Option Int)(N':NM)(M':DM):Prop where
 Bv:Ans M M' er
 room:M'.room=M.room
 full:er=some 10->M.room<2100000000000000
 BZ:er=none->NI W N' M' F p t
 gone:er≠none->Sh {W with broken:=true} M' F p t/\(M'.dead=false->NI {W with broken:=true} N' M' F p t)
theorem NI.merged{W:WM}{N:NM}{M:DM}{F:List Fact}{p t:Nat}(h:NI W N M F p t){b:Option Int}{c:JM}{a:Option MgM}{d:DM}{i:Lay}(s:Lg d i p (t+3))(q:i.F=F)(A:Ans M d b)(l:d.room=M.room)(f:b=some 10->M.room<2100000000000000)(E:b=none->Jl c d i/\Mo d i a) :
 Mrg W N M F p (t+3) b (({N with J:=c,mg:=a}:NM).Bv b) d:=by
 have j:=h.cm.more (u:=t+3) (by omega);refine⟨A,l,f,fun m=>?_,fun m=>?_⟩
 .subst m
  have G:(({N with J:=c,mg:=a}:NM).Bv none)={N with J:=c,mg:=a}:=by unfold NM.Bv;simp
  rw[G];have r:d.dead=false:=by
   rcases A.1 with⟨_,_,_,D⟩|⟨_,⟨o,_⟩|⟨o,_⟩⟩
   .exact D.trans h.dead
   .cases o
   .cases o
  exact {h with
   kp:=⟨⟨i,s,q,fun _=>E rfl⟩,h.kp.held⟩
   cm:=j
   room:=l.trans h.room
   nw:=by have:=h.nw;show N.writes<=_;omega
   dead:=r}
 .have hr2:(({N with J:=c,mg:=a}:NM).Bv b).readOnly=true:=by
   cases b with
   | none=>exact absurd rfl m
   | some n=>simp[NM.Bv]
  have k:Cm {W with broken:=true} (t+3):=j.BT (W':={W with broken:=true}) rfl j.BR j.len h.cm.ne j.ww rfl rfl rfl rfl;refine⟨⟨⟨i,s,q⟩,k,l.trans h.room,.inl ⟨h.AJ,.inl h.Bj⟩⟩,fun r=>?_⟩;have y:(({N with J:=c,mg:=a}:NM).Bv b).S=N.S:=by cases b <;> rfl
  have g:(({N with J:=c,mg:=a}:NM).Bv b).self=N.self/\(({N with J:=c,mg:=a}:NM).Bv b).given=N.given/\(({N with J:=c,mg:=a}:NM).Bv b).every=N.every/\(({N with J:=c,mg:=a}:NM).Bv b).writes=N.writes:=by cases b <;> exact⟨rfl,rfl,rfl,rfl⟩
  obtain⟨v,x,B,C⟩:=g;exact⟨⟨⟨i,s,q,fun e=>by rw[hr2] at e;cases e⟩,by rw[y];exact h.kp.held⟩,k,l.trans h.room,h.Bj,h.AJ,hr2,by rw[v];exact h.self,by rw[v];exact h.nd,by rw[x];exact h.most,by rw[x,y];exact h.given,fun e=>by(rw[hr2] at e;cases e),by rw[B];exact h.every,fun e=>by(rw[hr2] at e;cases e),by rw[C];have:=h.nw;omega,r⟩
theorem Kpt.merge(C:zt){B:Nat}{K w:World}{sb n d:Nat}{q:Value}{W:WM}{X:NL}{N:NM}{M:DM}{F:List Fact}{p t:Nat}(h:Kpt K w sb n d q X N M)(j:NI W N M F p t)(ht:t+20<=980000)(I:zU B K)(L:B<=K.heap.size)(T:N.readOnly=false)
 {y:Lay}(Y:Lg M y p t)(O:y.F=F)(hj:Jl N.J M y){i f:Nat}(R:N.mg=none->y.new=none)(E:∀ m,N.mg=some m->Mgx M y m i f/\m.calls<=m.done.length+1) :
 Calls Tryz.prog 40 #[.pointer (some ⟨X.nb,0,none⟩)] w fun e V=>∃ g o A x c l u,e=.returned (.tuple #[.bool g,.int .i64 (Zd o)])/\Kpt K V sb n d q A (({N with J:=x,mg:=c}:NM).Bv o) l/\A.nb=X.nb/\A.db=X.db /\
  Mrg W N M F p (t+3) o (({N with J:=x,mg:=c}:NM).Bv o) l/\Lg l u p (t+3)/\u.F=F/\(o≠none->g=false)/\(o=none->Jl x l u/\Mo l u c/\Mst N y p t 0 i f g c l u)/\Fr (NFoot X M) w V:=by
 have G:=j.st;have r:zY N.S:=G.1;have D:N.S.CA<9223372036854775808:=by have:=G.2.2.1;have:=j.cm.calls;omega
 have hS:N.S=y.F.foldl SM.enter SM.nil:=by rw[O,<- N0];exact j.kp.held
 have s:zU B w:=I.fr L h.fr (fun _ e=>absurd e id);have Q:∀ m,N.mg=some m->0+m.left.length<=980950:=fun m hm=>by
  have hx:=(E m hm).1.len;have a0:=Y.fl;have a1:=(Yv y i).length_le;rw[JR] at hx;omega
 refine(OG C B X N M y p t 0 i f w h.st.node s (JT L h.fr.size) (fun k hk=>JT L (h.new k hk)) T Y hj (fun _=>rfl) Q R E hS r D (by omega)).mono ?_;rintro e V ⟨g,o,A,x,c,l,u,rfl,a,b⟩;exact⟨g,o,A,x,c,l,u,rfl,h.step a,a.same.nb,a.same.db,j.merged b.lg (b.F.trans O) b.Bv b.room b.full (fun v=>⟨(b.BZ v).1,(b.BZ v).2.1⟩),b.lg,b.F.trans O,b.stop,(fun v=>⟨(b.BZ v).1,(b.BZ v).2.1,(b.BZ v).2.2.2⟩),a.fr⟩
theorem Kpt.yK(k:zt){B:Nat}{v w:World}{I n a:Nat}{c:Value}{W:WM}{X:NL}{N:NM}{M:DM}{F:List Fact}{p t:Nat}(h:Kpt v w I n a c X N M)(l:NI W N M F p t)(Y:t+20<=980000)(q:zU B v)(K:B<=v.heap.size)(o:N.readOnly=false) :
 Calls Tryz.prog 40 #[.pointer (some ⟨X.nb,0,none⟩)] w fun e G=>∃ g d j s r,e=.returned (.tuple #[.bool g,.int .i64 (Zd d)])/\Kpt v G I n a c j s r/\j.nb=X.nb/\j.db=X.db/\Mrg W N M F p (t+3) d s r/\s.S=N.S/\(d≠none->s.readOnly=true)/\Fr (NFoot X M) w G:=by
 obtain⟨y,V,L,R⟩:=l.kp.lg;obtain⟨S,b⟩:=R o;have E:∃ i f,(N.mg=none->y.new=none)/\∀ m,N.mg=some m->Mgx M y m i f/\m.calls<=m.done.length+1:=by
  cases u:N.mg with
  | none=>rw[u] at b;exact⟨0,0,(fun _=>b),fun m e=>by cases e⟩
  | some m =>
   rw[u] at b;obtain⟨i,f,A,C⟩:=b;exact⟨i,f,(fun e=>by cases e),fun m' e=>by obtain rfl:=IL e;exact⟨A,C⟩⟩
 obtain⟨i,f,A,C⟩:=E;refine(h.merge k l Y q K o V L S A C).mono ?_;rintro e G ⟨g,d,j,J',a0,r,y',rfl,T,O,Q,u,_,_,_,_,D⟩;refine⟨g,d,j,_,r,rfl,T,O,Q,u,by cases d <;> rfl,fun J=>?_,D⟩;cases d with
 | none=>exact absurd rfl J
 | some x=>simp[NM.Bv]
theorem Aft.held{W:WM}{A:LM}{M:DM}{e:Option Int}{N':NM}{C:DM}{k:Nat}(h:Aft W A M e N' C k):zY N'.S/\N'.S.keys.length<=k:=by
 obtain⟨g,B,s,_,_,D⟩:=h.body;have b:=s.le;have a:N'.S=atF g g.length:=s.held;have d:∀ (st:List LM) (y:Nat),(∀ m∈st,MOk W.node m k)->Hist st g B True->Zg W.node W.calls y g B->zY N'.S/\N'.S.keys.length<=k:=fun st y f E q=>by
  obtain⟨V,r,hrel,_⟩:=E.last b;have c:=q g.length b (JS _);rw[<- a] at c hrel;exact⟨c.1,by rw[<- hrel.1];exact(f V (GA r)).keys⟩
 rcases D with⟨l,o⟩|⟨_,⟨l,o⟩|⟨n,⟨X,x0,Y,I,t,L,q,_⟩,hn⟩⟩
 .exact d _ _ (fun m f=>by
   rcases JW.1 f with f|f
   .exact h.cm.BR m f
   .rw[JY] at f;subst f;exact h.BR) l o
 .exact d _ _ h.cm.BR l o
 .have c:=q g.length b (JS _)
  rw[<- a] at c t;refine⟨c.1,?_⟩;obtain⟨K,d,v,x,k2,k3,k4,k5,O,T,k8⟩:=t;have j:N'.S.keys.length=A.keys.length:=by
   rw[O,T,Zc d _ x,Zc d _ x];simp only[FH,Hf,Zt,JR,JZ]
  rw[j];exact h.BR.keys
end Go.Proofs.YtkhnggkkiefcdaaGreatDoor
