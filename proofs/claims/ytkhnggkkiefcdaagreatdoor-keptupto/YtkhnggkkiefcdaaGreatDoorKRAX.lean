/- larder: joined texts -/
import Derived.Test.YtkhnggkkiefcdaaGreatDoorKRAK
import Derived.Test.YtkhnggkkiefcdaaGreatDoorKRAS
import Derived.Test.YtkhnggkkiefcdaaGreatDoorKRAT
import Derived.Test.YtkhnggkkiefcdaaGreatDoorKRAU
import Derived.Test.YtkhnggkkiefcdaaGreatDoorKRAV
import Derived.Test.YtkhnggkkiefcdaaGreatDoorKRAW
namespace Go.Proofs.YtkhnggkkiefcdaaGreatDoor
open Go.RowKit
set_option maxRecDepth 100000
set_option maxHeartbeats 8000000
theorem H7{J:JM}{M:DM}{y:Lay}{p t:Nat}(h:Lg M y p t)(hj:Jl J M y)(hn:y.new=none)(ht:t+4<=1000000)(A:List Fact)(a1:∀ x∈A,ZY x/\(zj x).size<=2000)(q:A.foldl SM.enter SM.nil=y.F.foldl SM.enter SM.nil)(G:∀ k,((A.take k).foldl SM.enter SM.nil).hints.length<=32)(L:A.length<=y.F.length+40)
 (f g:Nat)(hf:f∉M.ids)(B:g∉(J.begin M (J.last+2) f).2.2.ids) :
 ∃ e J' l Q,J.yn M f g=(e,J',l)/\Lg l Q p (t+3)/\Q.F=y.F/\Ans M l e/\l.room=M.room/\(∀ k∈l.ids,k=f\/k=g\/k∈M.ids)/\l.yj=M.yj/\e≠some 10 /\
  (e=none->Jl J' l Q/\J'.limit=J.limit/\∃ i f,Mgx l Q ⟨J.last+1,[],A,1⟩ i f/\∃ n j,Q.G.drop i=[(n,j,([],[]))]):=by
 have a0:=h.xX hj.1;have K:∀ e∈y.G,e.1<=J.last:=fun e E=>by
  have:=JM.xS (limit:=J.limit) (ds:=J.AE) h.ym e E;rw[<- hj.1] at this;exact this
 obtain⟨e1,R,v,a,q1,o,S,T,q5,V,X,q8,Y,c,a2,a4,a3⟩:=Rf h hj (by omega) (J.last+2) f (by omega) (by omega) hf;unfold JM.yn;rw[q1] at B |-;cases e1 with
 | some n=>exact⟨some n,R,v,a,rfl,o.more (by omega),S,V,X,fun k s=>(Y k s).imp id .inr,c,a2,fun e=>by cases e⟩
 | none =>
  obtain⟨r1,r2,O,r4⟩:=a3 rfl;simp only at B |-;have u:a.new=none:=T.new.trans hn;have hx:∀ d r,Lg (v.born zf g r d) {a with new:=some g} p (t+2+1)->∃ i f,Mgx (v.born zf g r d) {a with new:=some g} ⟨J.last+1,[],A,1⟩ i f/\∃ n j,({a with new:=some g}:Lay).G.drop i=[(n,j,([],[]))]:=fun d r I=>by
   have m:({a with new:=some g}:Lay).pre y.G.length=y.F:=by
    show a.F0++zv (a.G.take y.G.length)=_;rw[O,DQ,T.F0]
    rfl
   refine⟨y.G.length,g,⟨rfl,?_,?_,fun b hb=>?_,BC (Gz _),fun e E=>?_,fun e E=>?_,?_,by simpa using a1,by rw[m];simpa using q,by simpa using G,by rw[m];simpa using L⟩,_,_,by show a.G.drop y.G.length=_;rw[O,EG]⟩
   .show y.G.length<a.G.length
    rw[O];simp
   .show a.i<=y.G.length
    rw[T.i];exact h.now.ij
   .have hb':y.base=some b:=by rw[<- T.base];exact hb
    have k:=h.now.base b hb';have N:y.i<y.G.length:=k.lt;have h4:=k.hi _ (GE.2 ⟨0,by rw[Gk];show 0<y.G.length-y.i;omega,by rw[Fu];rfl⟩:y.G[y.i]'N∈y.G.drop y.i);have h5:=K _ (Gj N);show b.1<J.last+1;omega
   .have he':e∈a.G.take y.G.length:=E
    rw[O,DQ] at he';have:=K e he';show e.1<J.last+1;omega
   .have he':e∈a.G.drop y.G.length:=E
    rw[O,EG,Gg] at he';subst he';show J.last+1<J.last+2;omega
   .rw[TG];rfl
  rcases Sq o.bd (by omega) (by decide) (show zf≠ByteArray.empty by decide) (o.wQ u) g with⟨C,D⟩|⟨d,C,D⟩|⟨C,D⟩
  .rw[C]
   have I:=Lk.yn o u g B v.refused v.dead (Ef _) (by omega);refine⟨none,R,_,_,rfl,I,S,V.trans (Ans.ok D rfl rfl rfl),X,fun k s=>?_,(U1 o.bd B _ _ _).trans c,(by intro e;cases e),fun _=>⟨⟨r1.1,fun e=>by rw[r4] at e;cases e⟩,r2,hx _ _ I⟩⟩;rcases GH.1 s with e|e
   .exact .inr (.inl e)
   .exact(Y k e).imp id .inr
  .rw[C]
   exact⟨some 9,R,_,a,rfl,(Lg.no o d).more (by omega),S,V.trans (Ans.no D rfl rfl),X,fun k s=>(Y k s).imp id .inr,c,(by intro e;cases e),fun e=>by cases e⟩
  .rw[C]
   have I:=Lk.yn o u g B (v.refused+1) true (by omega) (by omega);refine⟨some 9,R,_,_,rfl,I,S,V.trans (Ans.no D rfl rfl),X,fun k s=>?_,(U1 o.bd B _ _ _).trans c,(by intro e;cases e),fun e=>by cases e⟩;rcases GH.1 s with e|e
   .exact .inr (.inl e)
   .exact(Y k e).imp id .inr
theorem UR:∀(a:List Fact),(∀ x∈a,(zj x).size<=2000)->(zF a).length<=2000*a.length
 | [],_=>by simp[zF]
 | x::a,h=>by
  have c:=h x (Gh ..);have d:=UR a (fun y b=>h y (Ge _ b));have e:(zP (zn x)).length=(zj x).size:=by rw[<- WC,FU];rfl
  rw[Wc,Ga,Gn];omega
theorem Il{M:DM}{y:Lay}{p t k:Nat}(h:Lk M y p t k){g:MgM}{i f:Nat}(d:Mgx M y g i f){x:Fact}{left:List Fact}(A:g.left=x::left)(L:t<=1000000)(X:k<=2000000) :
 ∃ r l,M.add zf (zj x)=(r,l)/\Lk l y p t (k+1)/\Ans M l (zJ r)/\l.room=M.room/\l.ids=M.ids/\l.dir=M.dir/\l.safe=M.safe/\l.AA=M.AA/\(zJ r=some 10->M.room<2100000000000000)/\(r=0->Mgx l y {g with done:=g.done++[x],left:=left} i f):=by
 obtain⟨B,T⟩:=h.xo d.new;obtain⟨v,j,r,u,K,Q,hj,c⟩:=Mn h.bd L X B (zj x);have E:(zj x).data.toList.length=(zj x).size:=by rw[FU];rfl
 have hx:=d.ok x (by rw[A];simp);have V:=h.fl;have a0:=(YI y i).length_le;have C:=d.len;rw[A,Ga,Gn] at C;have R:=UR g.done (fun z hz=>(d.ok z (EI _ hz)).2);have m:M.refused<=r/\r<=M.refused+1/\M.AD<=u/\u-M.AD<=r-M.refused:=by
  rcases c with⟨_,_,a,b,_⟩|⟨a,⟨_,b,_⟩|⟨_,b,_⟩⟩ <;> subst a b <;> refine⟨by omega,by omega,by omega,by omega⟩
 have I:=h.write d.new ((zj x).data.toList.take j) (by rw[d.bytes,Gd];omega) r u K m.1 m.2.1 m.2.2.1 m.2.2.2;have O:=h.bd.yj L;have o:Ans M (M.put f ((zj x).data.toList.take j) r u K) (zJ v):=by
  rcases c with⟨rfl,_,rfl,rfl,rfl,D⟩|⟨rfl,⟨rfl,rfl,G⟩|⟨rfl,rfl,rfl,_⟩⟩
  .exact Ans.ok D rfl rfl rfl
  .exact Ans.no G rfl rfl
  .exact⟨.inr ⟨rfl,.inr ⟨rfl,rfl,rfl⟩⟩,rfl,rfl,Au (Int.lt_succ _),(fun e=>by cases e),(fun e=>by cases e)⟩
 refine⟨v,_,Q,I,o,rfl,rfl,rfl,rfl,rfl,fun e=>?_,fun q=>?_⟩
 .have h10:v=10:=by
   unfold zJ at e;split at e
   .cases e
   .exact GG e
  rcases c with⟨a,_⟩|⟨_,⟨a,_⟩|⟨_,_,_,_,Y⟩⟩
  .rw[a] at h10;cases h10
  .rw[a] at h10;cases h10
  .have:=hx.2;omega
 .have hjf:j=(zj x).size:=by
   rcases c with⟨_,a,_⟩|⟨_,⟨a,_⟩|⟨a,_⟩⟩
   .exact a
   .rw[a] at q;cases q
   .rw[a] at q;cases q
  have s:g.done++[x]++left=g.done++g.left:=by rw[A];simp
  refine⟨d.new,d.lt,d.yi,d.old,d.one,d.lo,d.hi,?_,by show ∀ z∈g.done++[x]++left,_;rw[s];exact d.ok,by show(g.done++[x]++left).foldl _ _=_;rw[s];exact d.held,fun k=>by have:=d.yD k;rw[<- s] at this;exact this,by show(g.done++[x]++left).length<=_;rw[s];exact d.len⟩;rw[Yy,GA rfl,d.bytes,hjf,<- E,Gt];show _=zF (g.done++[x]);rw[Vq]
theorem Q6{d:Dir}{i:Nat}{a:ByteArray}(h:∀ e∈d,e.1≠a)(j:i<d.length):∀ k,k<=d.length->Y3 d i a k=if k<=i then d.take k else d.take i++(d.take k).drop (i+1)
 | 0,_=>by simp[Y3]
 | k+1,m=>by
  have l:=Q6 h j k (by omega);rw[RA d i a k (by omega),l];have b:(d[k].1==a)=false:=by
   cases hb:(d[k].1==a) with
   | false=>rfl
   | true=>exact absurd (zZ.1 hb) (h _ (Gj _))
  have c:d.take (k+1)=d.take k++[d[k]]:=by rw[Ek,Gq (by omega)];rfl
  by_cases f:k+1<=i
  .rw[GA (by omega),GA f,GA ⟨by omega,b⟩,c]
  .rw[Gl f]
   by_cases g:k=i
   .subst g
    rw[GA (Gb _),Gl (fun x=>x.1 rfl),GI,GX (by rw[Gd];omega),GI]
   .rw[Gl (by omega),GA ⟨g,b⟩,c,Gp,EC (by rw[Gd];omega)]
theorem LB{d:Dir}{i:Nat}{a:ByteArray}(c:∀ e∈d,e.1≠a)(b:i<d.length):d.renamed i a=d.take i++d.drop (i+1)++[(a,d[i].2)]:=by
 unfold Dir.renamed;rw[Q6 c b d.length (Gb _),Gl (by omega),Gt,Gq b]
def Lay.yP(y:Lay)(g:MgM)(i f:Nat):Lay:={y with new:=none,AU:=y.AU++y.base.toList.map (fun b=>(true,b.1,b.2.1))++((y.G.take i).drop y.i).map (fun e=>(false,e.1,e.2.1)),base:=some (g.number,f,g.done),i:=i}
theorem LC{M:DM}{y:Lay}{p t k:Nat}(h:Lk M y p t k){g:MgM}{i f:Nat}(l:Mgx M y g i f)(hl:g.left=[])(B:(M.file f).safe=(M.file f).bytes.length) :
 ∃ n,M.dir.idx zf=some n/\(M.dir.renamed n (zq true g.number)).length<=t/\Snd M (y.yP g i f) (M.dir.renamed n (zq true g.number)) (y.yP g i f).z/\(∀ r d,(M.turn (M.dir.renamed n (zq true g.number)) r d).yj=M.yj):=by
 have J:(zf,f)∈M.dir:=by
  rw[h.now.perm.mem_iff];unfold Dl.dir;simp only[Gf,Gm,zQ];exact .inr ⟨f,l.new,rfl⟩
 obtain⟨n,hn,E,D,j⟩:=PQ h.names J;have s:∀ e∈M.dir,e.1≠zq true g.number:=fun e a x=>by
  have o:e.1∈(y.z.yg y.G).map ZL:=by
   rw[<- Dl.names,<- (h.now.perm.map Prod.fst).mem_iff];exact GZ a
  obtain⟨c,L,R⟩:=Gm.1 o;have S:c=some (true,g.number):=Ve (R.trans x);subst S;unfold Dl.yg at L;simp only[Gf,Gm,zQ] at L;rcases L with((⟨e,a,o⟩|⟨e,a,o⟩)|⟨e,a,o⟩)|⟨e,_,o⟩
  .simp only[GU,FF] at o
   obtain⟨_,X,A,S⟩:=h.now.low e a;have:=l.old X A;omega
  .simp only[GU,FF] at o
   have:=l.old e a;omega
  .simp at o
  .cases o
 have m:=LB s hn;rw[D] at m;have a0:=l.yi;have I:=l.lt;refine⟨n,E,?_,?_,fun r d=>?_⟩
 .rw[m,Ga,Ga,Gd,Gk,Gi]
  have:=h.bd.dir;omega
 .have hp0:=h.now.perm
  have Y:y.z.dir y.G=y.AU.map X2++y.base.toList.map Yo++(y.G.drop y.i).map ZT++[(zf,f)]:=by
   show y.AU.map X2++y.base.toList.map Yo++((y.G.take y.G.length).drop y.i).map ZT++y.new.toList.map _=_;rw[Gt,l.new]
   rfl
  rw[Y] at hp0;have q:(M.dir.take n++M.dir.drop (n+1)).Perm (y.AU.map X2++y.base.toList.map Yo++(y.G.drop y.i).map ZT) :=
   ((j.symm.trans hp0).trans ES).cons_inv
  have e3:(y.yP g i f).z.dir (y.yP g i f).G=y.AU.map X2++y.base.toList.map Yo++((y.G.take i).drop y.i).map ZT++[(zq true g.number,f)]++(y.G.drop i).map ZT:=by
   show(y.AU++y.base.toList.map _++((y.G.take i).drop y.i).map _).map X2++[Yo (g.number,f,g.done)]++((y.G.take y.G.length).drop i).map ZT++[]=_;rw[Gt,GI,Gy,Gy,Fv,Fv]
   rfl
  have Q:y.G.drop y.i=(y.G.take i).drop y.i++y.G.drop i:=by
   conv=>lhs;rw[<- Gu i y.G,EC (by rw[Gd];omega)]
  have v:∀ e∈(y.yP g i f).AU,1<=e.2.1/\e.2.1<g.number:=fun e a=>by
   have C:e∈y.AU++y.base.toList.map (fun b=>(true,b.1,b.2.1))++((y.G.take i).drop y.i).map (fun e=>(false,e.1,e.2.1)):=a;simp only[Gf,Gm,zQ] at C;rcases C with(a|⟨b,u,rfl⟩)|⟨x,O,rfl⟩
   .obtain⟨o,b,u,R⟩:=h.now.low e a
    have:=l.old b u;omega
   .exact⟨(h.now.base b u).one,l.old b u⟩
   .have hx2:=GB O
    exact⟨(h.pos x (GN hx2)).1,l.lo x hx2⟩
  refine⟨?_,Cc I,Gb _,fun e a=>⟨(v e a).1,_,rfl,(v e a).2⟩,?_,fun b u=>?_,(fun u=>by cases u),?_,fun e a=>?_⟩
  .rw[e3,m]
   rw[Q,Gy,<- Gp] at q;refine(q.append_right _).trans ?_;rw[Gp _ _ [(zq true g.number,f)],Gp _ [(zq true g.number,f)] _];exact CB _ ES
  .have hnd:=h.now.xQ h.ym
   rw[Tm] at hnd;refine List.Sublist.nodup ?_ hnd;show((y.AU++y.base.toList.map (fun b=>(true,b.1,b.2.1))++((y.G.take i).drop y.i).map (fun e=>(false,e.1,e.2.1))).map (fun e:Bool × Nat × Nat=>e.2.1)).Sublist (y.AU.map (fun e:Bool × Nat × Nat=>e.2.1)++y.base.toList.map (fun b:Nat × Nat × List Fact=>b.1)++((y.G.take y.G.length).drop y.i).map (fun e:Ent=>e.1));rw[Gt,Gy,Gy,Fv,Fv,Q,Gy];exact List.Sublist.append_left (List.sublist_append_left _ _) _
  .have A:b=(g.number,f,g.done):=(GG u).symm
   subst A;have N:g.done++g.left=g.done:=by rw[hl,GI]
   have V:=l.held;have T:=l.yD;have G:=l.len;have K:=l.ok;rw[N] at V T G K;exact⟨I,l.one,l.lo,l.hi,l.bytes,B,fun e a x=>h.yA e a (by rw[l.new,x]),(by intro e;cases e),fun x O=>(K x O).1,V,T,G⟩
  .rw[m,Gy]
   have o:=(j.map (·.2)).nodup_iff.1 h.now.once;exact(ES (l₁:=[f])).nodup_iff.1 o
  .rw[m] at a
   rcases Gf.1 a with a|a
   .exact h.now.yt e (j.mem_iff.2 (Ge _ a))
   .rw[Gg] at a
    subst a;have:=h.now.yt _ J;exact this
 .show((M.dir.renamed n (zq true g.number)).map fun e=>(M.file e.2).bytes.length).sum=(M.dir.map fun e=>(M.file e.2).bytes.length).sum
  rw[m,(j.map fun e=>(M.file e.2).bytes.length).sum_nat,Gy,Eb,Gw,FL];simp only[Gw,Fz,FL,Cv];omega
theorem Im{M:DM}{y:Lay}{p t k:Nat}(h:Lk M y p t k)(j:y.AU=[])(i:y.new=none){b:Nat × Nat × List Fact}(a:y.base=some b):M.yj=(zF b.2.2).length+((y.G.drop y.i).map fun e=>(Zp e.2.2).length).sum:=by
 have f:M.yj=((y.z.dir y.G).map fun e=>(M.file e.2).bytes.length).sum:=(h.now.perm.map fun e:ByteArray × Nat=>(M.file e.2).bytes.length).sum_nat;rw[f];have c:y.z.dir y.G=[Yo b]++(y.G.drop y.i).map ZT:=by
  show y.AU.map X2++y.base.toList.map Yo++((y.G.take y.G.length).drop y.i).map ZT++y.new.toList.map _=_;rw[j,i,a,Gt];simp
 rw[c,Gy,Eb,Fv];have d:([Yo b].map fun e=>(M.file e.2).bytes.length).sum=(zF b.2.2).length:=by
  simp only[Gw,Fz,FL,Cv,Eu];show(M.file b.2.1).bytes.length=_;rw[(h.now.base b a).bytes]
 rw[d]
 congr 2
 refine Ee fun e g=>?_;show(M.file e.2.1).bytes.length=_;rw[h.bytes e (GB g)]
theorem H8{J:JM}{M:DM}{y:Lay}{p t k:Nat}(h:Lk M y p t k){g:MgM}{i f:Nat}(j:Mgx M y g i f)(hl:g.left=[])(ht:t<=980000)(hk:k<=981000) :
 ∃ l,((M.sync zf).1=0->((M.sync zf).2.rename zf (zq true g.number)).1=0->∀ b LX L,DRep L b LX ((M.sync zf).2.rename zf (zq true g.number)).2->(∀ K,Fr Nil L K->Tab K)->Yn L ->
  Calls Tryz.prog 144 #[.pointer (some ⟨b,0,none⟩)] L fun e K=>∃ v L',e=.returned v/\ERep K v (((M.sync zf).2.rename zf (zq true g.number)).2.yf l).1/\DStep b LX ((M.sync zf).2.rename zf (zq true g.number)).2 L L' (((M.sync zf).2.rename zf (zq true g.number)).2.yf l).2 K) /\
  (M.sync zf).2.AA.length+1<=1000000000000/\(M.sync zf).2.dir.length+1<=1000000000000 /\
  ∃ e Q q y',J.replace M (zq true g.number) l=(e,Q,q)/\Lg q y' p (t+2)/\y'.F=y.F/\Ans M q e/\q.room=M.room/\q.ids=M.ids/\e≠some 10 /\
   (e=none->y'.new=none/\Q.limit=J.limit/\(Jl J M y->Jl Q q y')/\q.yj=(zF g.done).length+((y.G.drop i).map fun e=>(Zp e.2.2).length).sum):=by
 obtain⟨V,_⟩:=h.xo j.new;have a1:zq true g.number≠ByteArray.empty:=fun e=>by
  have u:=FW (fun b:ByteArray=>b.data.toList) e;simp only[zq,XP] at u;cases u
 have a9:=h.bd.AA;have b0:=h.bd.dir;rcases sync_any h.bd (by omega) (by omega) V with⟨s,C⟩|⟨d,s,a3⟩
 .have u:=h.yK f
  have a0:Mgx (M.yK f) y g i f:=⟨j.new,j.lt,j.yi,j.old,j.one,j.lo,j.hi,(Yi M f f).trans j.bytes,j.ok,j.held,j.yD,j.len⟩;have a4:((M.yK f).file f).safe=((M.yK f).file f).bytes.length:=by rw[V1,Yi,GA rfl]
  obtain⟨n,T,X,a5,b2⟩:=LC u a0 hl a4;have I:∀ r d,(M.yK f).refused<=r->r<=(M.yK f).refused+1->Lk ((M.yK f).turn ((M.yK f).dir.renamed n (zq true g.number)) r d) (y.yP g i f) p t (k+2):=fun r d a b =>
   u.turn (y':=y.yP g i f) r d a b X rfl rfl (fun _ e=>by cases e) a5
  rw[s];rcases Lq u.bd (by omega) (by omega) a1 T with⟨o,a2⟩|⟨d,o,D⟩|⟨o,D⟩
  .have G:=I (M.yK f).refused (M.yK f).dead (Ef _) (by omega)
   obtain⟨l,Y,b1,a6⟩:=RZ G (by omega) (by omega);simp only[o];refine⟨l,fun _ _=>a6,?_,?_,?_⟩
   .show M.AA.length+1<=_;omega
   .show M.dir.length+1<=_;omega
   obtain⟨e3,O,m,q0,E,q2,q3,q4,q5,q6,q7,q8,q9,b3,a7,a8⟩:=PR l G (by omega) (by omega) Y;have A:m.F=y.F:=by unfold Lay.F;rw[q2,q3];rfl
   have c:Ans M O e3:=Ans.trans (M2:=M.yK f) (Ans.ok C rfl rfl rfl) (Ans.trans (M2:=(M.yK f).turn ((M.yK f).dir.renamed n (zq true g.number)) (M.yK f).refused (M.yK f).dead) (Ans.ok a2 rfl rfl rfl) q7);unfold JM.replace;simp only[s,o,q0,ne_eq,not_true,Fk];cases e3 with
   | some x=>exact⟨some x,J,O,m,rfl,E.yM (by omega),A,c,q8,q9,a7,fun e=>by cases e⟩
   | none =>
    obtain⟨ho,hn⟩:=a8 rfl;simp only;unfold JM.AO;rcases Tj E.bd (by omega) (by omega) with⟨R,B⟩|⟨d,R,B⟩
    .simp only[R]
     have h4:=E.yN E.yk;refine⟨none,_,O.yN,m.trim,rfl,h4.yM (by omega),(Lay.xq m).trans A,c.trans (Ans.ok B rfl rfl rfl),q8,q9,(by intro e;cases e),fun _=>⟨hn,rfl,fun hj=>⟨?_,fun _=>⟨rfl,rfl⟩⟩,?_⟩⟩
     .show({J with AE:=_}:JM)=JM.on J.limit m.trim.G _
      rw[E.xU,q3];show _=JM.on J.limit y.G _;rw[<- JM.xP J.limit y.G J.AE,<- hj.1]
     .have hb3:m.trim.base=some (g.number,f,g.done):=q4
      have:=Im h4 (show m.trim.AU=[] from ho) (show m.trim.new=none from hn) hb3;rw[this];have e5:m.trim.G.drop m.trim.i=y.G.drop i:=by
       show(m.G.drop m.i).drop 0=_;rw[FJ,q3,q5]
       rfl
      rw[e5]
    .simp only[R]
     exact⟨some 9,_,O.no d,m,rfl,(E.no d).yM (by omega),A,c.trans (Ans.no B rfl rfl),q8,q9,(by intro e;cases e),fun e=>by cases e⟩
  .simp only[o]
   refine⟨[],fun _ e=>absurd e (by decide),?_,?_,some 9,J,(M.yK f).no d,y,?_,(u.no d).yM (by omega),rfl,(Ans.ok C rfl rfl rfl:Ans M (M.yK f) none).trans (Ans.no D rfl rfl),rfl,rfl,(by intro e;cases e),fun e=>by cases e⟩
   .show M.AA.length+1<=_;omega
   .show M.dir.length+1<=_;omega
   .unfold JM.replace
    rw[s];simp only[o,ne_eq,not_true,Fk]
    rfl
  .simp only[o]
   have G:=I ((M.yK f).refused+1) true (by omega) (by omega);refine⟨[],fun _ e=>absurd e (by decide),?_,?_,some 9,J,_,y.yP g i f,?_,G.yM (by omega),rfl,(Ans.ok C rfl rfl rfl:Ans M (M.yK f) none).trans (Ans.turn D),rfl,rfl,(by intro e;cases e),fun e=>by cases e⟩
   .show M.AA.length+1<=_;omega
   .show M.dir.length+1<=_;omega
   .unfold JM.replace
    rw[s];simp only[o,ne_eq,not_true,Fk]
    rfl
 .rw[s]
  refine⟨[],fun e=>absurd e (fun h=>by have G:(9:Int)=0:=h;omega),?_,?_,some 9,J,M.no d,y,?_,(h.no d).yM (by omega),rfl,Ans.no a3 rfl rfl,rfl,rfl,(by intro e;cases e),fun e=>by cases e⟩
  .show M.AA.length+1<=_;omega
  .show M.dir.length+1<=_;omega
  .unfold JM.replace
   rw[s]
   rfl
theorem ZD.kept{S:Nat->Prop}{w o:World}{j:Value}{l:List Fact}(h:ZD w j l)(f:Fr S w o)(g:∀ k t,Ty w k t->t=165\/t=37->¬S k):ZD o j l:=by
 obtain⟨q,s,a,e,m,x,y,A⟩:=h;refine⟨q,s,a,e,ze m f (fun i c=>g i _ (zE m c) (.inl rfl)),x,y,fun i c=>?_⟩;obtain⟨B,d,b⟩:=A i c;exact⟨B,d,b.kept f (fun k r=>g k _ r (.inr rfl))⟩
def WK(w:World)(a:Nat):Nat:=match w.cell? ⟨a,1,none⟩ with
 | some (.slice _ n _)=>n
 | _=>0
def NM.xw(N:NM)(m:MgM):Bool:=decide (N.S.keys.length+N.S.hints.length+4<=m.calls+1)
structure Mwr(L:NL)(N:NM)(M:DM)(y:Lay)(p t k0:Nat)(m:MgM)(i f mb:Nat)(w:World)(done left:List Fact)(Li:NL)(Mi:DM)(wi:World):Prop where
 st:NStep L M w Li {N with mg:=some ⟨m.number,done,left,m.calls+1⟩} Mi wi
 mv:Li.mv=.pointer (some ⟨mb,0,none⟩)
 lk:Lk Mi y p t (k0+(m.left.length-left.length))
 mx:Mgx Mi y ⟨m.number,done,left,m.calls+1⟩ i f
 len:left.length<=m.left.length
 all:done++left=m.done++m.left
 go:left.length=m.left.length\/N.xw m=true
 yo:Ans M Mi none
 room:Mi.room=M.room
 ids:Mi.ids=M.ids
 dir:Mi.dir=M.dir
 safe:Mi.safe=M.safe
 AA:Mi.AA=M.AA
def Mgo(L:NL)(N:NM)(M:DM)(y:Lay)(p t q:Nat)(m:MgM)(i f:Nat)(w:World)(e:Ending)(l:World):Prop :=
 ∃ b g v o j c a h,e=.returned (.tuple #[.bool b,v])/\ERep l v g/\NStep L M w o {N with J:=j,mg:=c} a l/\Lg a h p (t+2)/\h.F=y.F/\Ans M a g/\a.room=M.room/\a.ids=M.ids/\(g=some 10->M.room<2100000000000000) /\
  ((g≠none/\b=false) \/
    (g=none/\b=false/\h=y/\j=N.J/\a.dir=M.dir/\a.safe=M.safe/\a.AA=M.AA/\N.xw m=false/\Lk a y p t (q+1)/\∃ d k,c=some ⟨m.number,d,k,m.calls+1⟩/\Mgx a y ⟨m.number,d,k,m.calls+1⟩ i f/\k.length+1=m.left.length/\d++k=m.done++m.left) \/
    (g=none/\b=true/\c=none/\h.new=none/\j.limit=N.J.limit/\(Jl N.J M y->Jl j a h)/\(m.left=[]\/N.xw m=true)/\a.yj=(zF (m.done++m.left)).length+((y.G.drop i).map fun e=>(Zp e.2.2).length).sum))
theorem Mwr.merge{L:NL}{N:NM}{M:DM}{y:Lay}{p t s:Nat}{m:MgM}{i f k:Nat}{w:World}{done left:List Fact}{c:NL}{l:DM}{b:World}(h:Mwr L N M y p t s m i f k w done left c l b)(g:N.readOnly=false) :
 ∃ a d,Blk b k [.pointer (some ⟨a,0,none⟩),d,.int .i64 (m.calls+1:Nat)] 201/\Blk b a [.pointer (some ⟨c.jb,0,none⟩),.int .i64 m.number] 250/\ZD b d left:=by
 have j:MRp b c.mv c.jb (if N.readOnly=true then none else some ⟨m.number,done,left,m.calls+1⟩):=h.st.AK.wK;rw[Gl (by rw[g];decide)] at j;obtain⟨u,a,d,e,o,q,r⟩:=j;rw[h.mv] at e;simp only[CR,GU,Br,As] at e;subst e;exact⟨a,d,o,q,r⟩
theorem SH(B:Nat)(L:NL)(N:NM)(M:DM)(y:Lay)(p t k0:Nat)(m:MgM)(i f:Nat)(w:World)(h:NRep w L N M)(b7:zG B w)(hB:B<=w.heap.size)(a2:∀ k,NFoot L M k->B<=k)(V:N.readOnly=false)(e5:N.mg=some m)(hl:Lk M y p t k0)(i5:k0+m.left.length<=980950)(g:Mgx M y m i f)(ht:t<=980000)
 (E:N.S.keys.length<1000000000)(hh:N.S.hints.length<1000000)(i4:m.calls<1000000000)(e7:m.number<1000000000000) :
 Calls Tryz.prog 89 #[.pointer (some ⟨L.nb,0,none⟩)] w (Mgo L N M y p t k0 m i f w):=by
 have hm:MRp w L.mv L.jb (if N.readOnly=true then none else N.mg):=h.wK;rw[Gl (by rw[V];decide),e5] at hm;obtain⟨o,C,lv,b3,a0,c2,a6⟩:=hm;have g7:=hl.fl;have h6:=(YI y i).length_le;have e6:=g.len;rw[Ga] at e6;have c4:w.cell? ⟨L.nb,6,none⟩=some (.pointer (some ⟨o,0,none⟩)):=by have:w.cell? ⟨L.nb,6,none⟩=some L.mv:=h.Ay.cell 6;rw[b3] at this;exact this
 have g3:w.cell? ⟨o,2,none⟩=some (.int .i64 m.calls):=a0.cell 2;have h9:=a0.frozen;have i6:IntKind.i64.wrap ((m.calls:Int)+1)=(m.calls:Int)+1:=by rw[Gs];omega
 have fs:Fr (fun k=>k=o) w (w.setCell ⟨o,2,none⟩ (.int .i64 ((m.calls:Int)+1))):=Fr.set (S:=fun k=>k=o) (p:=⟨o,2,none⟩) (U _ _) (fun _=>rfl) _;have j:∀ {k t},Ty w k t->t≠201->¬k=o:=fun ht hn e=>by subst e;exact hn (ht.inj a0.ty)
 have d7:MRp (w.setCell ⟨o,2,none⟩ (.int .i64 ((m.calls:Int)+1))) L.mv L.jb (some ⟨m.number,m.done,m.left,m.calls+1⟩):=by
  refine⟨o,C,lv,b3,by have:=a0.set 2 (.int .i64 ((m.calls:Int)+1));simpa using this,c2.fr fs (j c2.ty (by decide)),?_⟩;obtain⟨g',k',d5,i0,q1,q2,q3,q4⟩:=a6;refine⟨g',k',d5,i0,ze q1 fs (fun i hi=>j (zE q1 hi) (by decide)),q2,q3,fun i hi=>?_⟩;obtain⟨u',h7,g6⟩:=q4 i hi;exact⟨u',h7,g6.kept fs (fun k E=>j E (by decide))⟩
 have d6:=h.AH.fr fs (fun k E=>by
  obtain⟨t,ht,hd⟩:=h.AH.ty E;unfold DTy at hd;refine j ht ?_;rcases hd with rfl|rfl|rfl|rfl|rfl <;> decide)
 have e8:=NStep.merged (mg:=some ⟨m.number,m.done,m.left,m.calls+1⟩) h V b3 (fs.mono (fun _ _ e=>.inl e)) d6 (fun k E=>.inl E) d7;have d8:Mwr L N M y p t k0 m i f o w m.done m.left {L with LD:=L.LD} M (w.setCell ⟨o,2,none⟩ (.int .i64 ((m.calls:Int)+1))) :=
  ⟨e8,b3,by rw[BZ,Eu];exact hl,⟨g.new,g.lt,g.yi,g.old,g.one,g.lo,g.hi,g.bytes,g.ok,g.held,g.yD,g.len⟩,Gb _,rfl,.inl rfl,Ans.refl M,rfl,rfl,rfl,rfl,rfl⟩
 have d4:=Z d8;have u:=Z (And.intro b7 (And.intro hB a2));have d1:=Z (And.intro E hh);have i3:m.left.length<=980040:=by omega
 clear h e5 a0 c2 a6 fs j d7 d6 e8 d8 b7 hB a2 hl g e6 h6 g7;go_enter Tryz.func89,Tryz.ntmps89;go_wp2_with fail;generalize w.setCell ⟨o,2,none⟩ (.int .i64 ((m.calls:Int)+1))=w1 at d4 |-;clear c4 g3 h9
 go_loopw [5] (fun _ w'=>∃ done left v Mi,Mwr L N M y p t k0 m i f o w done left v Mi w') (fun _ w'=>WK w' o)
 case atStart=>exact⟨m.done,m.left,_,M,d4.out⟩
 case round =>
  obtain⟨done,left,v,Mi,A⟩:=hrel;obtain⟨C,lv,hb,a1,T⟩:=A.merge V;have b:=Z A;have c3:wr.cell? ⟨o,1,none⟩=some lv:=hb.cell 1;cases left with
  | nil =>
   obtain⟨a,c,rfl⟩:∃ a c,lv=.slice a 0 c:=by obtain⟨_,_,_,_,_,_,q,_⟩:=T;exact q rfl
   have D:=A.lk;rw[GT,Nat.sub_zero] at D;obtain⟨l,e9,d9,e0,e4,J4,M4,y4,q0,q1,q2,q3,q4,q5,q6,q7⟩:=H8 (J:=N.J) D A.mx rfl ht (by omega);have a7:∀ k,NFoot v Mi k->B<=k:=fun k E=>(A.st.AX k E).elim (u.out.2.2 k) (fun e=>Gc u.out.2.1 e);have c8:zG B wr:=u.out.1.fr u.out.2.1 A.st.fr u.out.2.2;have Y:B<=wr.heap.size:=Gc u.out.2.1 A.st.fr.size;have b9:=Z (St C v.jb v.db m.number N.J v.LD Mi l wr a1 A.st.AK.log A.st.AK.AH e7 (fun w' f'=>(c8.fr Y f' (fun _ e=>absurd e id)).1.1) (fun wx fx=>Re v.jb v.db N.J v.LD Mi (zq true m.number) l wx (Blk.fr A.st.AK.log fx id) (A.st.AK.AH.nil fx) d9 e0 (fun h1 h2 wy LX hd f _=>by
    have j:zG B wy:=(c8.fr Y fx (fun _ e=>absurd e id)).fr (Gc Y fx.size) f (fun k e=>by
     rcases e with e|e
     .exact a7 k (.inr (.inl e))
     .exact a7 k (.inr (.inr (.inr (.inl e)))))
    have f7:B<=wy.heap.size:=Gc (Gc Y fx.size) f.size;exact e9 h1 h2 v.db LX wy hd (fun w' f'=>(j.fr f7 f' (fun _ e=>absurd e id)).1.1) j.2.1)))
   rw[q0] at b9;have g2:wr.cell? ⟨o,0,none⟩=some (.pointer (some ⟨C,0,none⟩)):=hb.cell 0;have d:=Z (And.intro q1 (And.intro q2 (And.intro q3 (And.intro q4 (And.intro q5 (And.intro q6 q7))))));clear A hb a1 T D e9 d9 e0 q0 q1 q2 q3 q4 q5 q6 q7 a7 c8 Y;go_wp2_with fail;refine b9.out.mono ?_;rintro e w3 ⟨v3,L3,rfl,hE,e1⟩;have s:=b.out.st.trans (NStep.yz b.out.st.AK e1);have O:=Z s;have HE:=Z hE;have K:=b.out.st.same.nb;clear e1 g2 b9 c3;cases e4 with
   | some n =>
    obtain⟨k,a3⟩:=hE;obtain⟨t5,b5,rfl⟩:=a3.form;clear a3 s;go_wp2_with fail;go_ret2;refine⟨false,some n,_,{v with LD:=L3},J4,some ⟨m.number,done,[],m.calls+1⟩,M4,y4,rfl,HE.out,O.out,d.out.1,d.out.2.1,b.out.yo.trans d.out.2.2.1,d.out.2.2.2.1.trans b.out.room,d.out.2.2.2.2.1.trans b.out.ids,fun e=>absurd e d.out.2.2.2.2.2.1,.inl ⟨by simp,rfl⟩⟩
   | none =>
    have hv:v3=.nilIface:=hE;subst hv;have c4:=s.AK.Ay.cell;have h8:=s.AK.Ay.frozen;simp only[K] at c4 h8;have b8:=Z (s.wY (N:={N with J:=J4,mg:=some ⟨m.number,done,[],m.calls+1⟩}) V (.pointer none) none rfl (fun k e=>by cases e));clear s hE;go_wp2_with fail;go_ret2;have a9:=b8.out;simp only[K] at a9;obtain⟨h1,h2,h3,h4⟩:=d.out.2.2.2.2.2.2 trivial;have b4:=b.out.all;rw[GI] at b4;refine⟨true,none,_,_,J4,none,M4,y4,rfl,rfl,a9,d.out.1,d.out.2.1,b.out.yo.trans d.out.2.2.1,d.out.2.2.2.1.trans b.out.room,d.out.2.2.2.2.1.trans b.out.ids,(fun e=>by cases e),.inr (.inr ⟨rfl,rfl,rfl,h1,h2,fun hj=>h3 ?_,?_,?_⟩)⟩
    .unfold Jl at hj |-
     rw[b.out.dir,b.out.safe,b.out.AA];exact hj
    .rcases b.out.go with e|e
     .exact .inl (GL e.symm)
     .exact .inr e
    .rw[h4]
     show(zF done).length+_=_;rw[b4]
  | cons x left =>
   obtain⟨g0,i7,c0,u0,c6,i2,-,-,-,-⟩:=T.cons;subst c6;have D:=A.lk;have e2:=A.len;rw[Gn] at e2;obtain⟨r,M',q1,q2,q3,q4,q5,q6,q7,q8,q9,f1⟩:=Il D A.mx rfl (by omega) (by omega);have f0:=A.mx.ok x (by simp);have c1:=Z (Ro o C v.jb v.db m.number (m.calls+1) N.J v.LD Mi x left _ wr hb a1 T A.st.AK.log A.st.AK.AH D.bd.part f0.1.1.1 (by omega) (fun f hf=>by have:=D.bd.file hf;omega) (by omega));rw[q1] at c1;have d:=Z (And.intro q2 (And.intro q3 (And.intro q4 (And.intro q5 (And.intro q6 (And.intro q7 (And.intro q8 (And.intro q9 f1))))))));have d0:=Z a1;have f5:=Z T;have h5:=hb.ty;have f8:Hid (WK wr o=left.length+1):=by show WK wr o=_;unfold WK;rw[c3]
   have K:=b.out.st.same.nb;clear A hb a1 T D q1 q2 q3 q4 q5 q6 q7 q8 q9 f1 f0;go_wp2_with fail;refine c1.out.mono ?_;rintro e w3 ⟨v3,L3,c9,rfl,hE,b1,R,I,Q,b2,a4⟩;have j:∀ {k t},Ty wr k t->¬DTy t->t≠201->¬(k=o\/Foot v.db v.LD Mi k):=fun {k t} E g4 hj hf=>by
    rcases hf with hf|hf
    .subst hf;exact hj (E.inj h5)
    .exact b.out.st.AK.AH.apart E g4 hf
   have G:=d0.out.fr R (j d0.out.ty (by unfold DTy;decide) (by decide));have HE:=Z hE;clear c1 c3;by_cases h0:r=0
   .have he0:zJ r=none:=by unfold zJ;rw[GA h0]
    rw[he0] at hE HE d;have hv:v3=.nilIface:=hE;subst hv;have s:=NStep.merged (mg:=some ⟨m.number,done++[x],left,m.calls+1⟩) b.out.st.AK V b.out.mv R b1 I ⟨o,C,c9,b.out.mv,Q,G,b2 h0⟩;have a8:=b.out.st.trans s;have O:=Z a8;have d3:=Z (d.out.2.2.2.2.2.2.2.2 h0);have f2:=Z Q;have f3:=Z (b2 h0);have X:=Z (Qz {v with LD:=L3} {N with mg:=some ⟨m.number,done++[x],left,m.calls+1⟩} M' o C c9 (m.calls+1) w3 a8.AK b.out.mv Q d1.out.1 d1.out.2);rw[show({v with LD:=L3}:NL).nb=L.nb from K] at X;have e3:decide (N.S.keys.length+N.S.hints.length+4<=m.calls+1)=N.xw m:=rfl;have d2:=Z e3;clear hE HE s a8 Q b2 a4 b1 R I G j h0 he0 e3;cases hmu:N.xw m with
    | true =>
     have b0:=Z hmu;have c7:Hid (∀ _:World,Calls Tryz.prog 137 #[.pointer (some ⟨L.nb,0,none⟩)] w3 fun e w'=>e=.returned (.bool true)/\Fr Nil w3 w'):=fun _=>by have:=X.out;rw[show decide ((({N with mg:=some ⟨m.number,done++[x],left,m.calls+1⟩}:NM)).S.keys.length+(({N with mg:=some ⟨m.number,done++[x],left,m.calls+1⟩}:NM)).S.hints.length+4<=m.calls+1)=true from d2.out.trans hmu] at this;exact this
     clear X hmu;go_wp2_with fail;refine(c7.out w3).mono ?_;rintro e w4 ⟨rfl,f4⟩;have a9:=O.out.AC f4;have g9:WK w4 o=left.length:=by
      have f9:=f2.out.fr f4 id;have g1:w4.cell? ⟨o,1,none⟩=some c9:=f9.cell 1;unfold WK;rw[g1];obtain⟨g5,k5,i1,i8,p1,p2,p3,p4⟩:=f3.out;by_cases hn:left=[]
      .obtain⟨a5,c5,rfl⟩:=p3 hn
       rw[hn];rfl
      .rw[p2 hn]
     have f6:Hid (Mwr L N M y p t k0 m i f o w (done++[x]) left {v with LD:=L3} M' w4) :=
      ⟨a9,b.out.mv,by have:=d.out.1;rw[Gn] at this;rw[show k0+(m.left.length-left.length)=k0+(m.left.length-(left.length+1))+1 by omega];exact this,d3.out,by omega,by rw[<- b.out.all];simp,.inr b0.out,b.out.yo.trans d.out.2.1,d.out.2.2.1.trans b.out.room,d.out.2.2.2.1.trans b.out.ids,d.out.2.2.2.2.1.trans b.out.dir,d.out.2.2.2.2.2.1.trans b.out.safe,d.out.2.2.2.2.2.2.1.trans b.out.AA⟩
     clear a9 f4;go_wp2_with fail;exact⟨⟨_,_,_,_,f6.out⟩,by rw[g9,f8.out];omega⟩
    | false =>
     have b0:=Z hmu;have c7:Hid (∀ _:World,Calls Tryz.prog 137 #[.pointer (some ⟨L.nb,0,none⟩)] w3 fun e w'=>e=.returned (.bool false)/\Fr Nil w3 w'):=fun _=>by have:=X.out;rw[show decide ((({N with mg:=some ⟨m.number,done++[x],left,m.calls+1⟩}:NM)).S.keys.length+(({N with mg:=some ⟨m.number,done++[x],left,m.calls+1⟩}:NM)).S.hints.length+4<=m.calls+1)=false from d2.out.trans hmu] at this;exact this
     clear X hmu;go_wp2_with fail;refine(c7.out w3).mono ?_;rintro e w4 ⟨rfl,f4⟩;have b8:=Z (O.out.AC f4);clear f4;go_wp2_with fail;go_ret2;have g8:left.length+1=m.left.length:=by
      rcases b.out.go with e|e
      .rw[Gn] at e;exact e
      .rw[b0.out] at e;cases e
     refine⟨false,none,_,_,N.J,some ⟨m.number,done++[x],left,m.calls+1⟩,M',y,rfl,rfl,b8.out,d.out.1.yM (by omega),rfl,b.out.yo.trans d.out.2.1,d.out.2.2.1.trans b.out.room,d.out.2.2.2.1.trans b.out.ids,(fun e=>by cases e),.inr (.inl ⟨rfl,rfl,rfl,rfl,d.out.2.2.2.2.1.trans b.out.dir,d.out.2.2.2.2.2.1.trans b.out.safe,d.out.2.2.2.2.2.2.1.trans b.out.AA,b0.out,by have:=d.out.1;rw[Gn,show k0+(m.left.length-(left.length+1))+1=k0+1 by omega] at this;exact this,_,_,rfl,d3.out,g8,by rw[<- b.out.all];simp⟩)⟩
   .have he0:zJ r=some r:=by unfold zJ;rw[Gl h0]
    rw[he0] at hE HE d;have c6:=a4 h0;subst c6;have b6:=f5.out.kept R (fun k t E ht=>by
     rcases ht with rfl|rfl
     .exact j E (by unfold DTy;decide) (by decide)
     .exact j E (by unfold DTy;decide) (by decide))
    have s:=NStep.merged (mg:=some ⟨m.number,done,x::left,m.calls+1⟩) b.out.st.AK V b.out.mv R b1 I ⟨o,C,_,b.out.mv,Q,G,b6⟩;have O:=Z (b.out.st.trans s);obtain⟨k,a3⟩:=hE;obtain⟨t5,b5,rfl⟩:=a3.form;clear a3 s b6 Q b2 a4 b1 R I G j h0 he0;go_wp2_with fail;go_ret2;refine⟨false,some r,_,_,N.J,some ⟨m.number,done,x::left,m.calls+1⟩,M',y,rfl,HE.out,O.out,d.out.1.yM (by omega),rfl,b.out.yo.trans d.out.2.1,d.out.2.2.1.trans b.out.room,d.out.2.2.2.1.trans b.out.ids,fun e=>by have:=d.out.2.2.2.2.2.2.2.1 e;rw[b.out.room] at this;exact this,.inl ⟨by simp,rfl⟩⟩
theorem Io{K:Keys}{a:ByteArray}(l:List Ver)(h:∀ x∈K,zh x.1 a=true):Zu K a l=K++[(a,l)]:=by
 have b:low zh (K.map Prod.fst) a=K.length:=VA _ _ _ _ (by simp) (fun k c _=>by rw[GJ];exact h _ (Gj _)) (fun c=>absurd c (by simp));unfold Zu;rw[b,WI (by rw[b];simp),Gl (by decide),Gt,Cb,GI]
theorem SI:∀(b:Keys)(S:SM),Zz (S.keys++b)->(∀ e∈b,e.2≠[])->(b.map (fun e=>(.inr (.inl e):Fact))).foldl SM.enter S={S with keys:=S.keys++b}
 | [],S,_,_=>by simp
 | (a,l)::b,S,h,c=>by
  have d:S.enter (.inr (.inl (a,l)))={S with keys:=S.keys++[(a,l)]}:=by
   show S.holds a l=_;unfold SM.holds;rw[Gl (c (a,l) (Gh ..)),Io];intro x g;unfold Zz at h;rw[Gy] at h;exact(Eo.1 h).2.2 x.1 (GZ g) a (by simp)
  rw[Gw,Fj,d,SI b _ (by simpa using h) (fun e f=>c e (Ge _ f))];simp
theorem Tr:∀(a:List (Nat × ByteArray))(S:SM),(a.map (fun h=>(.inr (.inr (.inl h)):Fact))).foldl SM.enter S={S with hints:=S.hints++a}
 | [],S=>by simp
 | h::a,S=>by
  rw[Gw,Fj,show S.enter (.inr (.inr (.inl h)))={S with hints:=S.hints++[h]} from rfl,Tr a];simp
theorem SJ{S:SM}(h:zO S):S.facts.foldl SM.enter SM.nil=S:=by
 unfold SM.facts;rw[Fj,GW,SI S.keys _ (by show Zz ([]++S.keys);rw[GP];exact h.ym) h.some,Tr]
 rfl
theorem Ip{S:SM}(h:zO S)(c:S.Ax<9223372036854775808):∀ x∈S.facts,ZY x/\(zj x).size<=2000:=by
 intro x b;unfold SM.facts at b;simp only[GH,Gf,Gm] at b;rcases b with rfl|⟨e,a,rfl⟩|⟨e,a,rfl⟩
 .exact⟨UK c,KP c⟩
 .have:=h.key e a
  exact⟨XO (h.names e a) this.2.2 (by omega),YZ (h.names e a) this.2.2 (by omega)⟩
 .have:=h.text e a
  exact⟨Uj (by omega) this.2,XN (by omega) this.2⟩
theorem SK:∀(a:List Fact)(S:SM),(∀ x∈a,x≠.inr (.inr (.inr ())))->S.hints.length<=(a.foldl SM.enter S).hints.length
 | [],_,_=>Gb _
 | x::a,S,h=>by
  refine Gc ?_ (SK a (S.enter x) (fun y b=>h y (Ge _ b)));rcases x with n|e|e|e
  .exact Gb _
  .exact Gb _
  .show _<=(S.hints++[e]).length
   rw[Ga];omega
  .exact absurd rfl (h _ (Gh ..))
theorem Jk{S:SM}(h:zO S)(k:Nat):((S.facts.take k).foldl SM.enter SM.nil).hints.length<=32:=by
 have b:=SK (S.facts.drop k) ((S.facts.take k).foldl SM.enter SM.nil) (fun x a=>by
  have a:=GB a;unfold SM.facts at a;simp only[GH,Gf,Gm] at a;rcases a with rfl|⟨e,c,rfl⟩|⟨e,c,rfl⟩ <;> (intro e;cases e))
 rw[<- GW,Gu,SJ h] at b;exact Gc b h.hlen
theorem Q7{S:SM}(h:zO S){F:List Fact}(b:S=F.foldl SM.enter SM.nil):S.facts.length<=F.length+40:=by
 have a:=Wd F SM.nil;rw[<- b] at a;have c:=h.hlen;have d:SM.nil.keys.length=0:=rfl;unfold SM.facts;simp only[Gn,Ga,Gv];omega
theorem Iq{J:JM}{M:DM}{y:Lay}{p t:Nat}(h:Lg M y p t)(q:Jl J M y)(s:y.new=none)(u:t+4<=1000000){S:SM}(l:S=y.F.foldl SM.enter SM.nil)(a:zO S)(r:S.Ax<9223372036854775808)
 (f g:Nat)(m:f∉M.ids)(o:g∉(J.begin M (J.last+2) f).2.2.ids) :
 ∃ e d b c,J.yn M f g=(e,d,b)/\Lg b c p (t+3)/\c.F=y.F/\Ans M b e/\b.room=M.room/\(∀ k∈b.ids,k=f\/k=g\/k∈M.ids)/\b.yj=M.yj/\e≠some 10 /\
  (e=none->Jl d b c/\d.limit=J.limit/\∃ i f,Mgx b c ⟨J.last+1,[],S.facts,1⟩ i f/\∃ n j,c.G.drop i=[(n,j,([],[]))]) :=
 H7 h q s u S.facts (Ip a r) (by rw[SJ a,l]) (Jk a) (Q7 a l) f g m o
def Mst(N:NM)(y:Lay)(p t k i f:Nat)(a:Bool)(b:Option MgM)(c:DM)(h:Lay):Prop :=
 (N.mg=none/\a=false/\b=some ⟨N.J.last+1,[],N.S.facts,1⟩/\∃ i f,Mgx c h ⟨N.J.last+1,[],N.S.facts,1⟩ i f/\∃ n j,h.G.drop i=[(n,j,([],[]))]) \/
 (∃ m d g,N.mg=some m/\a=false/\N.xw m=false/\h=y/\Lk c y p t (k+1)/\b=some ⟨m.number,d,g,m.calls+1⟩/\Mgx c y ⟨m.number,d,g,m.calls+1⟩ i f/\g.length+1=m.left.length/\d++g=m.done++m.left) \/
 (∃ m,N.mg=some m/\a=true/\b=none/\(m.left=[]\/N.xw m=true)/\c.yj=(zF (m.done++m.left)).length+((y.G.drop i).map fun e=>(Zp e.2.2).length).sum)
structure Mgw(L:NL)(N:NM)(M:DM)(y:Lay)(p t k0 i f:Nat)(w:World)(fin:Bool)(er:Option Int)(L':NL)(J':JM)(mg':Option MgM)(M':DM)(y':Lay):Prop where
 lg:Lg M' y' p (t+3)
 F:y'.F=y.F
 yo:Ans M M' er
 room:M'.room=M.room
 full:er=some 10->M.room<2100000000000000
 stop:er≠none->fin=false
 yS:er=none->Jl J' M' y'/\Mo M' y' mg'/\J'.limit=N.J.limit/\Mst N y p t k0 i f fin mg' M' y'
theorem Rp(B:Nat)(L:NL)(N:NM)(M:DM)(w:World)(h:NRep w L N M)(I:Env B L M w)(p:N.readOnly=false)(D:N.mg=none)(o:N.J.last+2<1000000000000)
 (i:(N.J.Az M).2.AA.length+1<=1000000000000)(j:(N.J.Az M).2.dir.length+1<=1000000000000)
 (l:∀ f,w.heap.size<=f->(N.J.begin M (N.J.last+2) f).2.2.AA.length+1<=1000000000000/\(N.J.begin M (N.J.last+2) f).2.2.dir.length+1<=1000000000000)
 (A:N.S.keys.length<1000000000)(T:N.S.hints.length<1000000) :
 Calls Tryz.prog 89 #[.pointer (some ⟨L.nb,0,none⟩)] w fun e O=>∃ f g v a,e=.returned (.tuple #[.bool false,v])/\w.heap.size<=f/\g∉(N.J.begin M (N.J.last+2) f).2.2.ids/\w.heap.size<=g/\ERep O v (N.begun M f g).1/\NStep L M w a (N.begun M f g).2.1 (N.begun M f g).2.2 O:=by
 have C:MRp w L.mv L.jb (if N.readOnly=true then none else N.mg):=h.wK;rw[Gl (by rw[p];decide),D] at C;have E:L.mv=.pointer none:=C;have S:w.cell? ⟨L.nb,6,none⟩=some (.pointer none):=by have:w.cell? ⟨L.nb,6,none⟩=some L.mv:=h.Ay.cell 6;rw[E] at this;exact this
 have R:=Z (TM B L N M w h I p o i j l A T);clear h I i j l C;go_enter Tryz.func89,Tryz.ntmps89;go_wp2_with fail;refine R.out.mono ?_;rintro e Q ⟨f,g,v,a,rfl,J,K,m,d,q⟩;have G:Hid (∃ f g a,w.heap.size<=f/\g∉(N.J.begin M (N.J.last+2) f).2.2.ids/\w.heap.size<=g/\ERep Q v (N.begun M f g).1/\NStep L M w a (N.begun M f g).2.1 (N.begun M f g).2.2 Q):=⟨f,g,a,J,K,m,d,q⟩;have c:v=.nilIface\/∃ t b,v=.iface t (.pointer (some ⟨b,0,none⟩)):=by
  cases hx:(N.begun M f g).1 with
  | none=>rw[hx] at d;exact .inl d
  | some n=>rw[hx] at d;obtain⟨k,A⟩:=d;obtain⟨t,b,rfl⟩:=A.form;exact .inr ⟨t,b,rfl⟩
 clear J K m d q;rcases c with rfl|⟨t,b,rfl⟩
 .go_wp2_with fail
  go_ret2;obtain⟨f,g,a,r,s,u,x,y⟩:=G.out;exact⟨f,g,_,a,rfl,r,s,u,x,y⟩
 .go_wp2_with fail
  go_ret2;obtain⟨f,g,a,r,s,u,x,y⟩:=G.out;exact⟨f,g,_,a,rfl,r,s,u,x,y⟩
theorem LE(B:Nat)(L:NL)(N:NM)(M:DM)(y:Lay)(p t R i f:Nat)(w:World)(h:NRep w L N M)(s:zG B w)(hB:B<=w.heap.size)(b:∀ k,NFoot L M k->B<=k)(Q:N.readOnly=false)(C:Lk M y p t R)(A:Jl N.J M y)(a0:N.mg=none->R=0)(a1:∀ m,N.mg=some m->R+m.left.length<=980950)
 (a5:N.mg=none->y.new=none)(a3:∀ m,N.mg=some m->Mgx M y m i f/\m.calls<=m.done.length+1)(hS:N.S=y.F.foldl SM.enter SM.nil)(c:zO N.S)(J:N.S.Ax<9223372036854775808)(ht:t<=980000) :
 Calls Tryz.prog 89 #[.pointer (some ⟨L.nb,0,none⟩)] w fun e w'=>∃ j q v E u o x T,e=.returned (.tuple #[.bool j,v])/\ERep w' v q/\NStep L M w E {N with J:=u,mg:=o} x w'/\Mgw L N M y p t R i f w j q E u o x T:=by
 have a9:=C.fl;have b9:N.S.keys.length<=t:=by
  have h1:=Wd y.F SM.nil;rw[<- hS] at h1;have h3:SM.nil.keys.length=0:=rfl;omega
 have b0:=c.hlen;have a2:=C.xX A.1;cases hm:N.mg with
 | none =>
  have hn:=a5 hm;obtain rfl:=a0 hm;obtain⟨e1,M1,ea,I,_⟩:=XQ C A.1 (by omega);have r:∀ g∈M.ids,g<w.heap.size:=fun g hg=>(h.AH.files g hg).lt;have a6:=I.bd.AA;have a7:=I.bd.dir;refine(Rp B L N M w h ⟨s.1,hB,fun k hk=>b k (.inr (.inr (.inr (.inl hk))))⟩ Q hm (by omega) (by rw[ea];show M1.AA.length+1<=_;omega) (by rw[ea];show M1.dir.length+1<=_;omega) (fun f hf=>?_) (by omega) (by omega)).mono ?_
  .obtain⟨e2,J2,M2,y2,S,G,_⟩:=Rf C A (by omega) (N.J.last+2) f (by omega) (by omega) (fun D=>by have:=r f D;omega)
   rw[S];have:=G.bd.AA;have:=G.bd.dir;exact⟨by show M2.AA.length+1<=_;omega,by show M2.dir.length+1<=_;omega⟩
  rintro e w' ⟨f',g,v,E,rfl,a8,hg,_,X,l⟩;obtain⟨q,u,x,T,S,G,q3,q4,q5,_,_,q8,q9⟩:=Iq C A hn (by omega) hS c J f' g (fun D=>by have:=r f' D;omega) hg;have hb:N.begun M f' g=(q,{N with J:=u,mg:=if q=none then some ⟨N.J.last+1,[],N.S.facts,1⟩ else N.mg},x):=by unfold NM.begun;rw[S]
  rw[hb] at X l;refine⟨false,q,v,E,u,_,x,T,rfl,X,l,⟨G,q3,q4,q5,fun e=>absurd e q8,fun _=>rfl,fun V=>?_⟩⟩;obtain⟨r1,r2,i2,f2,r3,r4⟩:=q9 V;rw[GA V];exact⟨r1,⟨i2,f2,r3,Gb _⟩,r2,.inl ⟨hm,rfl,rfl,i2,f2,r3,r4⟩⟩
 | some m =>
  obtain⟨Y,hc⟩:=a3 m hm;have c0:=(YI y i).length_le;have a4:=Y.len;rw[Ga] at a4;have O:m.number<1000000000000:=by
   have K:=Y.lt;have h4:=Y.hi _ (GE.2 ⟨0,by rw[Gk];omega,by rw[Fu];rfl⟩:y.G[i]'K∈y.G.drop i);have h5:=(C.pos _ (Gj K)).2;omega
  refine(SH B L N M y p t R m i f w h s hB b Q hm C (a1 m hm) Y ht (by omega) (by omega) (by omega) O).mono ?_;rintro e w' ⟨j,q,v,E,u,o,x,T,rfl,X,l,S,G,q3,q4,q5,q6,q7⟩;refine⟨j,q,v,E,u,o,x,T,rfl,X,l,⟨S.more (by omega),G,q3,q4,q6,fun e=>?_,fun V=>?_⟩⟩
  .rcases q7 with⟨_,a⟩|⟨a,_⟩|⟨a,_⟩
   .exact a
   .exact absurd a e
   .exact absurd a e
  .rcases q7 with⟨a,_⟩|⟨_,a,rfl,rfl,b1,b2,b3,b4,b8,d,lf,rfl,b5,b6,b7⟩|⟨_,a,rfl,b1,b2,b3,b4,b5⟩
   .exact absurd V a
   .refine⟨?_,⟨i,f,b5,?_⟩,rfl,.inr (.inl ⟨m,d,lf,hm,a,b4,rfl,b8,rfl,b5,b6,b7⟩)⟩
    .unfold Jl at A |-
     rw[b1,b2,b3];exact A
    .have h7:=FW List.length b7
     rw[Ga,Ga] at h7;show m.calls+1<=d.length+1;omega
   .exact⟨b3 A,b1,b2,.inr (.inr ⟨m,hm,a,rfl,b4,b5⟩)⟩
theorem Ts(D:zl)(B:Nat)(L:NL)(N:NM)(M:DM)(y:Lay)(p t O i f:Nat)(w:World)(h:NRep w L N M)(c:zG B w)(X:B<=w.heap.size)(a:∀ k,NFoot L M k->B<=k)(K:N.readOnly=false)(hl:Lk M y p t O)(hj:Jl N.J M y)(A:N.mg=none->O=0)(E:∀ m,N.mg=some m->O+m.left.length<=980950)
 (J:N.mg=none->y.new=none)(I:∀ m,N.mg=some m->Mgx M y m i f/\m.calls<=m.done.length+1)(hS:N.S=y.F.foldl SM.enter SM.nil)(b:zO N.S)(G:N.S.Ax<9223372036854775808)(ht:t<=980000) :
 Calls Tryz.prog 40 #[.pointer (some ⟨L.nb,0,none⟩)] w fun e w'=>∃ d q L' Q j x y',e=.returned (.tuple #[.bool d,.int .i64 (Zh q)])/\NStep L M w L' (({N with J:=Q,mg:=j}:NM).yo q) x w'/\Mgw L N M y p t O i f w d q L' Q j x y':=by
 have Y:w.cell? ⟨L.nb,7,none⟩=some (.bool false):=by have:w.cell? ⟨L.nb,7,none⟩=some (.bool N.readOnly):=h.Ay.cell 7;rw[K] at this;exact this
 have HS:=Z (LE B L N M y p t O i f w h c X a K hl hj A E J I hS b G ht);have HE:=Z (show Yl B L M w from⟨c.1,X,a⟩);clear h c X a hl hj A E J I hS b;go_enter Tryz.func40,Tryz.ntmps40;go_wp2_with fail;refine HS.out.mono ?_;rintro e w1 ⟨d,q,v,L1,Q,j,x,y',rfl,hE,r,hw⟩;have R:=Z hE;have V:=Z r;have o:=Z hw;have a0:=r.same.nb;clear hE r hw Y HS;have u:=Z (zB {data:=#[109,101,114,103,105,110,103]} v q w1 R.out);go_wp2_with fail;refine u.out.mono ?_;rintro e w2 ⟨v2,rfl,C,f2⟩;have g:=V.out.AC f2;have s:=Z (ZR D B L1 _ x v2 q w2 g.AK (HE.out.step g) C);rw[a0] at s;have S:=Z g;clear g C f2 u;go_wp2_with fail;refine s.out.mono ?_;rintro e w3 ⟨L3,rfl,l⟩;have T:=Z (S.out.trans l);clear l
 go_wp2
 go_ret2;exact⟨d,q,L3,Q,j,x,y',rfl,T.out,o.out.lg,o.out.F,o.out.yo,o.out.room,o.out.full,o.out.stop,o.out.yS⟩
structure Mrg(W:WM)(N:NM)(M:DM)(F:List Fact)(p t:Nat)(er:Option Int)(N':NM)(M':DM):Prop where
 yo:Ans M M' er
 room:M'.room=M.room
 full:er=some 10->M.room<2100000000000000
 yS:er=none->NI W N' M' F p t
 gone:er≠none->Sh {W with broken:=true} M' F p t/\(M'.dead=false->NI {W with broken:=true} N' M' F p t)
theorem NI.merged{W:WM}{N:NM}{M:DM}{F:List Fact}{p t:Nat}(h:NI W N M F p t){er:Option Int}{J':JM}{mg':Option MgM}{a:DM}{d:Lay}(o:Lg a d p (t+3))(l:d.F=F)(v:Ans M a er)(i:a.room=M.room)(b:er=some 10->M.room<2100000000000000)(B:er=none->Jl J' a d/\Mo a d mg') :
 Mrg W N M F p (t+3) er (({N with J:=J',mg:=mg'}:NM).yo er) a:=by
 have f:=h.cm.more (u:=t+3) (by omega);refine⟨v,i,b,fun j=>?_,fun j=>?_⟩
 .subst j
  have C:(({N with J:=J',mg:=mg'}:NM).yo none)={N with J:=J',mg:=mg'}:=by unfold NM.yo;simp
  rw[C];have m:a.dead=false:=by
   rcases v.1 with⟨_,_,_,A⟩|⟨_,⟨k,_⟩|⟨k,_⟩⟩
   .exact A.trans h.dead
   .cases k
   .cases k
  exact {h with
   kp:=⟨⟨d,o,l,fun _=>B rfl⟩,h.kp.held⟩
   cm:=f
   room:=i.trans h.room
   nw:=by have:=h.nw;show N.writes<=_;omega
   dead:=m}
 .have hr2:(({N with J:=J',mg:=mg'}:NM).yo er).readOnly=true:=by
   cases er with
   | none=>exact absurd rfl j
   | some n=>simp[NM.yo]
  have g:Cm {W with broken:=true} (t+3):=f.yR (W':={W with broken:=true}) rfl f.yO f.len h.cm.ne f.ww rfl rfl rfl rfl;refine⟨⟨⟨d,o,l⟩,g,i.trans h.room,.inl ⟨h.xI,.inl h.yl⟩⟩,fun m=>?_⟩;have s:(({N with J:=J',mg:=mg'}:NM).yo er).S=N.S:=by cases er <;> rfl
  have c:(({N with J:=J',mg:=mg'}:NM).yo er).self=N.self/\(({N with J:=J',mg:=mg'}:NM).yo er).given=N.given/\(({N with J:=J',mg:=mg'}:NM).yo er).every=N.every/\(({N with J:=J',mg:=mg'}:NM).yo er).writes=N.writes:=by cases er <;> exact⟨rfl,rfl,rfl,rfl⟩
  obtain⟨q,r,x,y⟩:=c;exact⟨⟨⟨d,o,l,fun e=>by rw[hr2] at e;cases e⟩,by rw[s];exact h.kp.held⟩,g,i.trans h.room,h.yl,h.xI,hr2,by rw[q];exact h.self,by rw[q];exact h.nd,by rw[r];exact h.most,by rw[r,s];exact h.given,fun e=>by(rw[hr2] at e;cases e),by rw[x];exact h.every,fun e=>by(rw[hr2] at e;cases e),by rw[y];have:=h.nw;omega,m⟩
theorem Kpt.merge(C:zl){B:Nat}{K w:World}{sb n d:Nat}{q:Value}{W:WM}{X:NL}{N:NM}{M:DM}{F:List Fact}{p t:Nat}(h:Kpt K w sb n d q X N M)(j:NI W N M F p t)(ht:t+20<=980000)(I:zG B K)(L:B<=K.heap.size)(T:N.readOnly=false)
 {y:Lay}(Y:Lg M y p t)(O:y.F=F)(hj:Jl N.J M y){i f:Nat}(R:N.mg=none->y.new=none)(E:∀ m,N.mg=some m->Mgx M y m i f/\m.calls<=m.done.length+1) :
 Calls Tryz.prog 40 #[.pointer (some ⟨X.nb,0,none⟩)] w fun e V=>∃ g o A x c l u,e=.returned (.tuple #[.bool g,.int .i64 (Zh o)])/\Kpt K V sb n d q A (({N with J:=x,mg:=c}:NM).yo o) l/\A.nb=X.nb/\A.db=X.db /\
  Mrg W N M F p (t+3) o (({N with J:=x,mg:=c}:NM).yo o) l/\Lg l u p (t+3)/\u.F=F/\(o≠none->g=false)/\(o=none->Jl x l u/\Mo l u c/\Mst N y p t 0 i f g c l u)/\Fr (NFoot X M) w V:=by
 have G:=j.st;have r:zO N.S:=G.1;have D:N.S.Ax<9223372036854775808:=by have:=G.2.2.1;have:=j.cm.calls;omega
 have hS:N.S=y.F.foldl SM.enter SM.nil:=by rw[O,<- Rg];exact j.kp.held
 have s:zG B w:=I.fr L h.fr (fun _ e=>absurd e id);have Q:∀ m,N.mg=some m->0+m.left.length<=980950:=fun m hm=>by
  have hx:=(E m hm).1.len;have a0:=Y.fl;have a1:=(YI y i).length_le;rw[Ga] at hx;omega
 refine(Ts C B X N M y p t 0 i f w h.st.node s (Gc L h.fr.size) (fun k hk=>Gc L (h.new k hk)) T Y hj (fun _=>rfl) Q R E hS r D (by omega)).mono ?_;rintro e V ⟨g,o,A,x,c,l,u,rfl,a,b⟩;exact⟨g,o,A,x,c,l,u,rfl,h.step a,a.same.nb,a.same.db,j.merged b.lg (b.F.trans O) b.yo b.room b.full (fun v=>⟨(b.yS v).1,(b.yS v).2.1⟩),b.lg,b.F.trans O,b.stop,(fun v=>⟨(b.yS v).1,(b.yS v).2.1,(b.yS v).2.2.2⟩),a.fr⟩
theorem Kpt.vk(k:zl){B:Nat}{v w:World}{I n a:Nat}{c:Value}{W:WM}{X:NL}{N:NM}{M:DM}{F:List Fact}{p t:Nat}(h:Kpt v w I n a c X N M)(l:NI W N M F p t)(Y:t+20<=980000)(q:zG B v)(K:B<=v.heap.size)(o:N.readOnly=false) :
 Calls Tryz.prog 40 #[.pointer (some ⟨X.nb,0,none⟩)] w fun e G=>∃ g d j s r,e=.returned (.tuple #[.bool g,.int .i64 (Zh d)])/\Kpt v G I n a c j s r/\j.nb=X.nb/\j.db=X.db/\Mrg W N M F p (t+3) d s r/\s.S=N.S/\(d≠none->s.readOnly=true)/\Fr (NFoot X M) w G:=by
 obtain⟨y,V,L,R⟩:=l.kp.lg;obtain⟨S,b⟩:=R o;have E:∃ i f,(N.mg=none->y.new=none)/\∀ m,N.mg=some m->Mgx M y m i f/\m.calls<=m.done.length+1:=by
  cases u:N.mg with
  | none=>rw[u] at b;exact⟨0,0,(fun _=>b),fun m e=>by cases e⟩
  | some m =>
   rw[u] at b;obtain⟨i,f,A,C⟩:=b;exact⟨i,f,(fun e=>by cases e),fun m' e=>by obtain rfl:=GG e;exact⟨A,C⟩⟩
 obtain⟨i,f,A,C⟩:=E;refine(h.merge k l Y q K o V L S A C).mono ?_;rintro e G ⟨g,d,j,J',a0,r,y',rfl,T,O,Q,u,_,_,_,_,D⟩;refine⟨g,d,j,_,r,rfl,T,O,Q,u,by cases d <;> rfl,fun J=>?_,D⟩;cases d with
 | none=>exact absurd rfl J
 | some x=>simp[NM.yo]
theorem Aft.held{W:WM}{A:LM}{M:DM}{e:Option Int}{N':NM}{C:DM}{k:Nat}(h:Aft W A M e N' C k):zO N'.S/\N'.S.keys.length<=k:=by
 obtain⟨g,B,s,_,_,D⟩:=h.body;have b:=s.le;have a:N'.S=atF g g.length:=s.held;have d:∀ (st:List LM) (y:Nat),(∀ m∈st,MOk W.node m k)->Hist st g B True->Zn W.node W.calls y g B->zO N'.S/\N'.S.keys.length<=k:=fun st y f E q=>by
  obtain⟨V,r,hrel,_⟩:=E.last b;have c:=q g.length b (Gb _);rw[<- a] at c hrel;exact⟨c.1,by rw[<- hrel.1];exact(f V (fFS r)).keys⟩
 rcases D with⟨l,o⟩|⟨_,⟨l,o⟩|⟨n,⟨X,x0,Y,I,t,L,q,_⟩,hn⟩⟩
 .exact d _ _ (fun m f=>by
   rcases Gf.1 f with f|f
   .exact h.cm.yO m f
   .rw[Gg] at f;subst f;exact h.yO) l o
 .exact d _ _ h.cm.yO l o
 .have c:=q g.length b (Gb _)
  rw[<- a] at c t;refine⟨c.1,?_⟩;obtain⟨K,d,v,x,k2,k3,k4,k5,O,T,k8⟩:=t;have j:N'.S.keys.length=A.keys.length:=by
   rw[O,T,Ze d _ x,Ze d _ x];simp only[Ds,Fk,Zu,Ga,Gi]
  rw[j];exact h.yO.keys
end Go.Proofs.YtkhnggkkiefcdaaGreatDoor
