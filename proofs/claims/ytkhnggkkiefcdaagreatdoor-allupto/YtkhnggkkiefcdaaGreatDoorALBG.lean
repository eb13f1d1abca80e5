/- larder: joined texts -/
import Derived.Test.YtkhnggkkiefcdaaGreatDoorALBF
import Derived.OpenShut
import Derived.Deep.Slices
import Derived.LaidSub
import Derived.Stop.LaidErr
namespace Go.Proofs.YtkhnggkkiefcdaaGreatDoor
open Go.RowKit Proofs.Tryz
set_option maxRecDepth 100000
set_option maxHeartbeats 8000000
variable{w:World}{v c:Value}{B:Nat}{p:Prop}{A:Nat->Prop}
abbrev uO:=@Go.laidMetH_iff
theorem Cd(m n k j:Nat)(b:k<n)(a:j<8):(Jr m n)[k*8+j]?=(Zl m).cells[j]?:=by
 have h:=UF (List.replicate n (Zl m)) k j (by simpa using b) a;rw[wS] at h;exact h
theorem JD(a:Ver):ZV a a=true:=(Xk a a).2 rfl
theorem Ta{K:Nat->Prop}{e:TypeId}{B:Value}{size:Nat}{R:Nat->Nat->List Value}{vs:List Value}{vm:List Nat}(h:w.ownsRow 0 e 1 v vs.length vs)(hm:w.ownsRow 0 3 1 B vm.length (ZN vm))(y:Bkr K w size R vs vm) :
 ∃ q r x o u,v=.slice r q x/\B=.slice o q u/\q=vs.length/\∀ i,i<q->∃ m a n c l k,r=some (Y l 0)/\o=some (Y k 0)/\m<1000000000000/\n<=100000004/\(∀ b,Fr Nil w b->b.cell? (Y l i)=some (.slice a n c)/\b.cell? (Y k i)=some (I (m:Nat))) /\
  (0<n->∃ g,a=some (Y g 0)/\∀ b,Fr Nil w b->∀ j,j<n*size->b.cell? (Y g j)=(R m n)[j]?):=by
 obtain⟨r,x,rfl⟩:=zf h;obtain⟨o,u,rfl⟩:=zf hm;have L:=y.1;refine⟨vs.length,r,x,o,u,rfl,by rw[L],rfl,fun i A=>?_⟩;obtain⟨l,_,D,_⟩:=zl h V;cases D;obtain⟨k,_,G,_⟩:=zl hm V;cases G;have d:i<vm.length:=V
 obtain⟨C,⟨n,M,Q,a,c,S,t⟩,_⟩:=y.2 i A d;have s:(ZN vm)[i]?=some (I (vm[i]:Nat)):=by simp[ZN,d]
 refine⟨vm[i],a,n,c,l,k,rfl,rfl,C,M,fun b f=>⟨?_,own_cell? (ze hm f (fun _ _=>id)) i _ s⟩,fun N=>?_⟩
 .rw[own_cell? (ze h f (fun _ _=>id)) i _ (CS A),S]
 .obtain⟨g,rfl,hg,t⟩:=t N
  exact⟨g,rfl,fun b f j J=>by rw[f.cell (p:=⟨g,j,none⟩) hg id,t j J]⟩
theorem Fd(h:p:=by
 have a0:k=n:=V
 subst a0;clear d;go_wp2_with fail;exact⟨⟨i+1,V,by push_cast;rfl,o.o⟩,by simp[intOf];omega⟩):p:=h
theorem MH(K:Nat->Prop)(L:WL)(W:WM)(w:World)(h:WAt K w L W)(hb:Bok K w W.bk)(hs:BSmall W.bk) :
 Calls prog 19 #[E L.wb 15] w fun e y=>e=.returned (.bool true)/\Fr Nil w y:=by
 obtain⟨n1,va,vc,ma,mc,b1,b0,b6,a7⟩:=Ta h.tC.vs h.tC.vm hb.vs;obtain⟨n2,na,nc,pa,pc,a6,a5,b7,a8⟩:=Ta h.tC.ns h.tC.nm hb.ns;obtain⟨n3,ha,hc,qa,qc,a4,a3,b8,a9⟩:=Ta h.tC.hs h.tC.hm hb.hs;have s:∀ b,Fr Nil w b->∀ k,b.cell? (Y L.wb k)=(W.cells L)[k]?:=fun b f=>(h.nil f).td.cell;simp only[WM.cells,b1,b0,a6,a5,a4,a3] at s;have c2:n1<100000000:=by have:=hs.vs;omega
 have c3:n2<100000000:=by have:=hs.ns;omega
 have c4:n3<100000000:=by have:=hs.hs;omega
 have M:=Z s;have b3:=Z a7;have b4:=Z a8;have b5:=Z a9;have C:=s w (U _ _);clear h hb hs b1 b0 a6 a5 a4 a3 s a7 a8 a9 b6 b7 b8;go_enter func19,ntmps19;go_wp2_with fail
 go_loopw [3] (fun G y=>∃ i:Nat,i<=n1/\G=I i/\Fr Nil w y) (fun G _=>n1-(intOf G).toNat)
 case atStart=>exact⟨0,Bg _,rfl,U _ _⟩
 case round =>
  obtain⟨i,hi,rfl,d⟩:=hrel;have l:=M.o wr d;clear C;by_cases x:i<n1
  .obtain⟨m,a,n,c,gv,gm,rfl,rfl,hm,hn,hcl,hg⟩:=b3.o i x
   have D:=hcl wr d;have v:=Z d;have t:=Z hcl;have HG:=Z hg;clear hcl hg d
   go_wp2_with (refine(Xw m _ hm).mono ?_;rintro e R ⟨rfl,N⟩)
   clear l D;go_wp2_with fail;have r:Blk (R.alloc (.cells (Zl m).cells.toArray 37)) R.heap.size (Zl m).cells 37:=Blk.new R (Zl m).cells _;have f3:Fr Nil w (R.alloc (.cells (Zl m).cells.toArray 37)):=(v.o.trans N).alloc _;simp only[Zl,Ver.cells] at r f3;generalize R.alloc (.cells #[I m,I m,I 0,I 0,I 0,I 0,.string (Zi m),.bool true] 37)=w3 at r f3 |-;generalize R.heap.size=u at r |-;have B:=Z f3;have b2:=Z r;clear N f3 r v
   go_loopw [6] (fun J y=>∃ k:Nat,k<=n/\J=I k/\Fr Nil w y/\Blk y u (Zl m).cells 37) (fun J _=>n-(intOf J).toNat)
   case atStart=>exact⟨0,Bg _,rfl,B.o,b2.o⟩
   case round =>
    obtain⟨k,hk,rfl,d,r⟩:=hrel;have l:=M.o wr d;have D:=t.o wr d;have o:=Z d;have q:=Z r;by_cases A:k<n
    .obtain⟨g,rfl,hgc⟩:=HG.o V
     have S:aa (∀ b,Fr Nil wr b->b.cell? (Y L.wb 17)=some (.slice (some (Y gv 0)) n1 vc)/\b.cell? (Y gv i)=some (.slice (some (Y g 0)) n c)/\b.cell? (Y g (k*8))=some (I m)/\b.cell? (Y g (k*8+1))=some (I m)/\b.cell? (Y g (k*8+2))=some (I 0)/\b.cell? (Y g (k*8+3))=some (I 0)/\b.cell? (Y g (k*8+4))=some (I 0)/\b.cell? (Y g (k*8+5))=some (I 0)/\b.cell? (Y g (k*8+6))=some (.string (Zi m))/\b.cell? (Y g (k*8+7))=some (.bool true)/\b.cell? (Y u 0)=some (I m)/\b.cell? (Y u 1)=some (I m)/\b.cell? (Y u 2)=some (I 0)/\b.cell? (Y u 3)=some (I 0)/\b.cell? (Y u 4)=some (I 0)/\b.cell? (Y u 5)=some (I 0)/\b.cell? (Y u 6)=some (.string (Zi m))/\b.cell? (Y u 7)=some (.bool true)):=by
      intro b f;have Q:∀ j,j<8->b.cell? (Y g (k*8+j))=(Zl m).cells[j]?:=fun j hj=>(hgc b (o.o.trans f) (k*8+j) V).trans (Cd m n k j A hj);exact⟨M.o b (o.o.trans f) 17,(t.o b (o.o.trans f)).1,Q 0 V,Q 1 V,Q 2 V,Q 3 V,Q 4 V,Q 5 V,Q 6 V,Q 7 V,(q.o.fr f id).cell 0,(q.o.fr f id).cell 1,(q.o.fr f id).cell 2,(q.o.fr f id).cell 3,(q.o.fr f id).cell 4,(q.o.fr f id).cell 5,(q.o.fr f id).cell 6,(q.o.fr f id).cell 7⟩
     have hq:=S.o wr (U _ _);have T:=Z (fun b=>YD (Zl m) (Zl m) b);rw[JD] at T;simp only[Zl,Ver.cells] at T;clear l D d r hgc;go_wp2_with fail
     go_region_held3 (fun b=>b.cell? (Y L.wb 17)=some (.slice (some (Y gv 0)) n1 vc)/\b.cell? (Y gv i)=some (.slice (some (Y g 0)) n c)/\b.cell? (Y g (k*8))=some (I m)/\b.cell? (Y g (k*8+1))=some (I m)/\b.cell? (Y g (k*8+2))=some (I 0)/\b.cell? (Y g (k*8+3))=some (I 0)/\b.cell? (Y g (k*8+4))=some (I 0)/\b.cell? (Y g (k*8+5))=some (I 0)/\b.cell? (Y g (k*8+6))=some (.string (Zi m))/\b.cell? (Y g (k*8+7))=some (.bool true)/\b.cell? (Y u 0)=some (I m)/\b.cell? (Y u 1)=some (I m)/\b.cell? (Y u 2)=some (I 0)/\b.cell? (Y u 3)=some (I 0)/\b.cell? (Y u 4)=some (I 0)/\b.cell? (Y u 5)=some (I 0)/\b.cell? (Y u 6)=some (.string (Zi m))/\b.cell? (Y u 7)=some (.bool true)) (first|assumption|go_keep|exact S.o _ zd)
      (first|(go_at_call 67;refine(T.o _).mono ?_;rintro e w4 ⟨rfl,a2⟩;have X:Fr Nil wr w4:=Fr.trans zd a2;have c0:=S.o w4 X;have a1:=Z X;clear a2 X))
     clear hq c0;go_wp2_with fail;exact⟨⟨k+1,V,by push_cast;rfl,o.o.trans a1.o,q.o.fr a1.o id⟩,by simp[intOf];omega⟩
    .have a0:k=n:=V
     subst a0;clear d r;go_wp2_with fail;exact⟨⟨i+1,V,by push_cast;rfl,o.o⟩,by simp[intOf];omega⟩
  .have hin:i=n1:=V
   subst hin;have v:=Z d;clear d l;have C:=M.o wr v.o;go_wp2_with fail;clear x hi
   go_loopw [8] (fun G y=>∃ i:Nat,i<=n2/\G=I i/\Fr Nil w y) (fun G _=>n2-(intOf G).toNat)
   case atStart=>exact⟨0,Bg _,rfl,v.o⟩
   case round =>
    obtain⟨i,hi,rfl,d⟩:=hrel;have l:=M.o wr d;clear C;by_cases x:i<n2
    .obtain⟨m,a,n,c,gv,gm,rfl,rfl,hm,hn,hcl,hg⟩:=b4.o i x
     have D:=hcl wr d;have v:=Z d;have t:=Z hcl;have HG:=Z hg;clear hcl hg d
     go_wp2_with (refine(Xw m _ hm).mono ?_;rintro e R ⟨rfl,N⟩)
     have B:=Z (v.o.trans N);clear l D N v;go_wp2_with fail
     go_loopw [10] (fun J y=>∃ k:Nat,k<=n/\J=I k/\Fr Nil w y) (fun J _=>n-(intOf J).toNat)
     case atStart=>exact⟨0,Bg _,rfl,B.o⟩
     case round =>
      obtain⟨k,hk,rfl,d⟩:=hrel;have l:=M.o wr d;have D:=t.o wr d;have o:=Z d;by_cases A:k<n
      .obtain⟨g,rfl,hgc⟩:=HG.o V
       have hs:∀ b,Fr Nil w b->b.cell? (Y g k)=some (.string (Zi m)):=fun b f=>(hgc b f k V).trans (by simp[T6,A]);have b9:=hs wr d;have c1:=Z hs;clear d hgc hs;go_wp2_with fail;exact⟨⟨k+1,V,by push_cast;rfl,o.o⟩,by simp[intOf];omega⟩
      .exact Fd
    .have hin:i=n2:=V
     subst hin;have v:=Z d;clear d l;have C:=M.o wr v.o;go_wp2_with fail;clear x hi
     go_loopw [11] (fun G y=>∃ i:Nat,i<=n3/\G=I i/\Fr Nil w y) (fun G _=>n3-(intOf G).toNat)
     case atStart=>exact⟨0,Bg _,rfl,v.o⟩
     case round =>
      obtain⟨i,hi,rfl,d⟩:=hrel;have l:=M.o wr d;clear C;by_cases x:i<n3
      .obtain⟨m,a,n,c,gv,gm,rfl,rfl,hm,hn,hcl,hg⟩:=b5.o i x
       have D:=hcl wr d;have v:=Z d;have t:=Z hcl;have HG:=Z hg;clear hcl hg d
       go_wp2_with (refine(Xw m _ hm).mono ?_;rintro e R ⟨rfl,N⟩)
       have B:=Z (v.o.trans N);clear l D N v;go_wp2_with fail
       go_loopw [13] (fun J y=>∃ k:Nat,k<=n/\J=I k/\Fr Nil w y) (fun J _=>n-(intOf J).toNat)
       case atStart=>exact⟨0,Bg _,rfl,B.o⟩
       case round =>
        obtain⟨k,hk,rfl,d⟩:=hrel;have l:=M.o wr d;have D:=t.o wr d;have o:=Z d;by_cases A:k<n
        .obtain⟨g,rfl,hgc⟩:=HG.o V
         have hs:∀ b,Fr Nil w b->b.cell? (Y g (k*2))=some (I (m:Nat))/\b.cell? (Y g (k*2+1))=some (.string (Zi m)):=fun b f=>⟨(hgc b f (k*2) V).trans (Tm m n k A).1,(hgc b f (k*2+1) V).trans (Tm m n k A).2⟩;have q1:∀ n k,(wr.drewN n).cell? (Y L.wb k)=_:=fun n=>M.o _ (d.drewN n);have q2:∀ n,(wr.drewN n).cell? (Y gv i)=_:=fun n=>(t.o _ (d.drewN n)).1;have q3:∀ n,(wr.drewN n).cell? (Y gm i)=_:=fun n=>(t.o _ (d.drewN n)).2;have q4:∀ n,(wr.drewN n).cell? (Y g (k*2))=_:=fun n=>(hs _ (d.drewN n)).1;have q5:∀ n,(wr.drewN n).cell? (Y g (k*2+1))=_:=fun n=>(hs _ (d.drewN n)).2;have c5:((m:Int) != m)=false:=bG
         clear d hgc hs;go_wp2_with fail
         go_quiet (fail)
         clear l D;have l:=q1 nq;have D:=And.intro (q2 nq) (q3 nq);have b9:=And.intro (q4 nq) (q5 nq);clear q1 q2 q3 q4 q5;go_wp2_with fail;exact⟨⟨k+1,V,by push_cast;rfl,o.o.drewN nq⟩,by simp[intOf];omega⟩
        .exact Fd
      .have hin:i=n3:=V
       subst hin;have v:=Z d;clear d;go_wp2_with fail;go_ret;exact⟨rfl,v.o⟩
theorem Sh.uQ(node h s t:Int)(C:InR h):Sh (WM.uQ node h s t 0) (DM.new (Yo h)) [] 0 0 where
 lg:=by
  refine⟨⟨[],[],none,[],none,0⟩,?_,rfl⟩;have u:0<=Yo h/\Yo h<9223372036854775808:=by
   have G:=C.2;unfold Yo;split <;> omega
  have l:∀ D∈(DM.new (Yo h)).uZ::(DM.new (Yo h)).tB,D=[]:=fun D r=>by
   rw[show DM.uZ (DM.new (Yo h))::DM.tB (DM.new (Yo h))=[[]] from rfl] at r;exact CX.1 r
  have j:Snd (DM.new (Yo h)) ⟨[],[],none,[],none,0⟩ [] ⟨[],none,0,0,none⟩:=⟨xU _,CP _,CP _,(fun e c=>by cases c),xe,(fun b x=>by cases x),fun _=>⟨rfl,rfl⟩,xe,(fun e c=>by cases c)⟩;exact {
   bd:=⟨yO _,yO _,yO _,yO _,yO _,u.1,u.2,yO _,(fun g A=>by cases A),xe,CP _,(fun e c=>by cases c),xe,CP _,(fun d y=>by rw[l d y];exact CP _),CP _⟩
   rp:=List.Pairwise.nil
   qw:=fun e c=>by cases c
   qL:=xe
   qD:=fun e c=>by cases c
   rN:=fun e c=>by cases c
   bytes:=fun e c=>by cases c
   ok:=fun e c=>by cases c
   le:=fun e c=>by cases c
   sM:=fun e c=>by cases c
   rS:=fun i=>by simp[Lay.F,zv,SM.nil]
   fl:=CP _
   ri:=j
   re:=fun D r=>by rw[l D r];exact⟨_,j,Bg _⟩
   pq:=CY ..
   ru:=fun e c=>by cases c}
 cm:=⟨fun m hm=>by
  have o:m∈[(⟨node,[],[]⟩:LM)]:=hm;rw[CX] at o;subst o;exact⟨List.Pairwise.nil,CP _,fun e c=>bu,Bg _,fun e c=>bu,rfl⟩,CP _,CP _,CP _,Nat.zero_lt_one,CP _,Bg _,CP _,CP _,CP _,CP _,CP _,CP _,⟨by show(-9223372036854775808:Int)<=0;decide,by show(0:Int)<=9223372036854775807;decide⟩⟩
 room:=rfl
 all:=.inl ⟨fun q a b=>by
  have:q=0:=Nat.le_zero.1 b;subst this;exact⟨⟨List.Pairwise.nil,fun e c=>bu,Bg _,fun e c=>bu,fun e c=>bu,fun e c=>bu⟩,CP _,Bg _,fun e c=>bu⟩,.inl (Hist.qy ⟨node,[],[]⟩ ⟨rfl,rfl⟩)⟩
theorem Sh.oT(node a d e:Int)(b:Nat)(g:InR a)(f:b<=100000):Sh (WM.uQ node a d e b) (DM.new (Yo a)) [] 0 0:=by
 have h:=Sh.uQ node a d e g;have c:=h.cm;exact⟨h.lg,⟨c.qe,c.uS,c.ww,c.len,c.ne,c.next,f,c.ow,c.ox,c.ou,c.ot,c.oo,c.oq,c.sD⟩,h.room,h.all⟩
theorem Plg.uQ{A w':World}{l g:Nat}{node a r s:Int}(u:Fr Nil A w)(D:w.heap.size<l)(t:WAt (fun k=>k=l+2) w' (WL.uQ l) (WM.uQ node a r s g))(y:DRep w' l DL.new (DM.new (Yo a)))(f:Fr Nil w w')(J:InR a)(C:g<=100000) :
 Plg B (fun k=>w.heap.size<=k/\k<w'.heap.size) A (l+1) 0 w':=by
 have hs:=u.size;have j:∀ k,Foot l DL.new (DM.new (Yo a)) k->k=l:=fun k c=>by
  cases c using Foot.elim with
  | blk=>rfl
  | dir h=>simp[DL.new,Value.ownBlock] at h
  | safe h=>simp[DL.new,Value.ownBlock] at h
  | ch h=>simp[DL.new,Value.ownBlock] at h
  | chs i o h=>simp[DL.new] at o
  | file h=>cases h
  | row f G h=>cases G
 have q:∀ k,WFoot (WL.uQ l) k->w.heap.size<=k:=fun k c=>by
  unfold WFoot WL.uQ at c;simp only[Value.ownBlock] at c;rcases c with rfl|e|e|e|e|e|e|e
  .omega
  .simp at e;omega
  all_goals (simp at e)
 refine⟨u.trans f,fun k e=>e.2,fun k e=>CO hs e.1,.slice none 0 0,⟨[],.inl ⟨⟨_,_,rfl⟩,rfl⟩,fun x K=>by cases K⟩,.inr ⟨_,_,_,DL.new,_,⟨t,y,fun k c e=>by have:=j k e;omega,⟨[],0,Sh.oT node a r s g J C⟩,by simp[WL.uQ],rfl⟩,rfl,rfl,fun k c=>?_,fun k c=>?_,?_⟩⟩
 .rcases c with c|c
  .exact⟨q k c,t.lt k c⟩
  .exact⟨by have:=j k c;omega,y.lt c⟩
 .obtain rfl:k=l+2:=c
  exact⟨V,(t.tW _ rfl).1⟩
 .exact⟨⟨rfl,fun i o=>by cases o⟩,⟨rfl,fun i o=>by cases o⟩,⟨rfl,fun i o=>by cases o⟩⟩
theorem QE{t d:Nat}{g:World}(h:Plg B A g d t w)(r:t<=10000000) :
 Calls prog 19 #[E d 15] w fun e f=>e=.returned (.bool true)/\Fr Nil w f:=by
 obtain⟨K,L,W,i,M,b,rfl,_,_,_,a⟩:=h.rest;obtain⟨F,p,hs⟩:=b.pj;have c:=hs.cm;have j:=c.ow;have k:=c.ox;have l:=c.ou;have m:=c.ot;have o:=c.oo;have q:=c.oq;exact MH K L W w b.tE a ⟨V,V,V,V,V,V⟩
theorem Pls.qt{d:Nat->Prop}{a:World}{p b t u:Nat}{j:World}(h:Pls B A a p t w j)(k:Plg B d a b u w)(m:∀ k,A k->¬d k)(o:∀ k,A k->a.heap.size<=k)(v:B<=a.heap.size) :
 ∃ c,Plg B c a p t j/\Plg B d a b u j/\∀ k,c k->¬d k:=by
 obtain⟨S,c,f,g,q,r,s⟩:=h;refine⟨c,s,k.qt f (fun i e=>m i (g i e)) (fun i e=>o i (g i e)) (fun i e=>CO v (o i (g i e))) q,fun i e l=>?_⟩;rcases r i e with h|h
 .exact m i h l
 .have:=k.lt i l
  omega
def Steps(w:World)(a:Addr)(b:List OpM):Prop:=∀ i (h:i<b.length) k,k<15->w.cell? ((a.add (i*15)).add k)=b[i].cells[k]?
theorem add_zero(a:Addr):a.add 0=a:=by unfold Addr.add;simp
theorem ZS(a:Addr)(k:Nat)(h:k≠0):a.add k=⟨a.block,a.off+k,none⟩:=by unfold Addr.add;simp[h]
theorem QF(a:Addr)(i:Nat):(a.add i).block=a.block:=by unfold Addr.add;split <;> rfl
theorem U6{p:Addr}(h:w.cell? p=some v):p.block<w.heap.size:=by
 refine uc fun a=>?_;unfold World.cell? at h;rw[yU a] at h;cases h
theorem Fe{p:Addr}(h:w.cell? p=some v):p.spot=none:=by
 unfold World.cell? at h;split at h
 .split at h
  .cases h
  .rename_i hs
   simpa using hs
 .cases h
theorem ZM:prog.cellsOf 3=1:=bI
theorem JE:prog.cellsOf 4=1:=bI
theorem Ri:prog.cellsOf 9=1:=bI
theorem JF:prog.cellsOf 26=1:=bI
theorem Ff:prog.cellsOf 34=2:=bI
theorem JG:prog.cellsOf 35=4:=bI
theorem Uz:prog.cellsOf 37=8:=bI
theorem Nj:prog.cellsOf 39=15:=bI
theorem Fg:prog.cellsOf 23=4:=bI
theorem Xo{H:Type}(d:DataW H):1<=Rows.uptoBulk d:=by
 cases d with
 | lit l=>cases l <;> simp[Rows.uptoBulk]
 | _=>simp[Rows.uptoBulk]
theorem S9{H:Type}(k:Nat):∀ (l:List (DataW H)),(∀ d∈l,k<=Rows.uptoBulk d)->k*l.length<=Rows.uptoBulkAll l
 | [],_=>bG
 | d::l,h=>by
  have b:=S9 k l (fun x a=>h x (CT _ a));have c:=h d (CY ..);simp only[Rows.uptoBulkAll,Bh,Nat.mul_add,Nat.mul_one];omega
section
variable {H:Type} {enc:TypeId × Value->H} {W:World} {sp:Nat->Bool} {held:Bool} {n:Nat}
theorem ZT{x:DataW H × List MemPlace}(h:DataW.trod enc prog W 0 sp held n 3 [c]=some x):∃ k,c=I k/\InR k:=by
 obtain⟨k,e,_,a⟩:=DataW.trod_int we h;refine⟨k,by simpa using e,?_⟩;unfold Lit.wf at a;simp only[Ar,Bi] at a;have b:IntKind.i64.min=-9223372036854775808:=O
 have d:IntKind.i64.max=9223372036854775807:=O
 rw[b,d] at a;exact a
theorem Eo{x:DataW H × List MemPlace}(A:sp=fun _=>true)(h:DataW.trod enc prog W 0 sp held n 26 [c]=some x):T8 W c:=by
 subst A;rcases Deep.open_slice1 xf ZM h with⟨u,_⟩|⟨a,len,b,m,R,B,D,Q,u,_,M,G,hm,_,d⟩
 .have:c=.slice none 0 0:=by simpa using u
  exact⟨[],.inl ⟨⟨none,0,this⟩,rfl⟩,fun x s=>by cases s⟩
 .have hcv:c=.slice (some a) len b:=by simpa using u
  have N:m=b:=by rw[hm];rfl
  have J:∀ i,i<m->∃ k,B i=I k/\InR k:=fun i o=>ZT (d i o).2;obtain⟨f,C⟩:∃ f:Nat->Int,∀ i,i<m->B i=I (f i)/\InR (f i):=by
   classical
   refine⟨fun i=>if o:i<m then Classical.choose (J i o) else 0,fun i o=>?_⟩;simp only[uI o];exact Classical.choose_spec (J i o)
  by_cases L:len=0
  .subst L
   exact⟨[],.inl ⟨⟨some a,b,hcv⟩,rfl⟩,fun x s=>by cases s⟩
  .have hc0:=(d 0 V).1
   rw[add_zero] at hc0;have r:=Fe hc0;have q:=U6 hc0;obtain⟨g,l,K⟩:=a;simp only at r q;subst r;have y:((List.range len).map f).length=len:=bG
   refine⟨(List.range len).map f,.inr ⟨g,l,b,by rw[y];exact hcv,q,by rw[y];omega,fun j v=>?_⟩,fun x s=>?_⟩
   .rw[y] at v
    have t:=(d j V).1;rw[(C j V).1] at t;have e:Addr.add ⟨g,l,none⟩ j=⟨g,l+j,none⟩:=by
     by_cases p:j=0
     .subst p;rw[add_zero];rfl
     .rw[ZS _ _ p]
    rw[e] at t
    simpa using t
   .obtain⟨j,v,rfl⟩:=Bb.1 s
    exact(C j (by have:=wL.1 v;omega)).2
theorem Sa{x:DataW H × List MemPlace}(h:DataW.trod enc prog W 0 sp held n 9 [c]=some x):∃ s,c=.string s:=by
 obtain⟨k,a,_⟩:=DataW.trod_string AH h;exact⟨k,by simpa using a⟩
theorem Ep{x:DataW H × List MemPlace}(h:DataW.trod enc prog W 0 sp held n 4 [c]=some x):∃ b,c=.bool b:=by
 obtain⟨k,a,_⟩:=DataW.trod_bool underlying4 h;exact⟨k,by simpa using a⟩
theorem Y8{α:Type}{l:List α}{i k:Nat}(b:l.length=k)(a:i<k):∃ x,l[i]?=some x:=⟨l[i]' V,CS V⟩
theorem Nk{p:List Value}{x:DataW H × List MemPlace}(h:DataW.trod enc prog W 0 sp held n 23 p=some x):∃ a b c d,p=[I a,I b,I c,I d]/\InR b:=by
 obtain⟨o,m,_,_,v,e,l⟩:=wU vQ h;rw[Fg] at v
 match p,v with
 | [f,g,j,k],_ =>
  have q:DataW.trod enc prog W 0 sp held m 3 (([f,g,j,k].drop 0).take (prog.cellsOf 3))=o[0]?:=l 0 _ rfl;have r:DataW.trod enc prog W 0 sp held m 3 (([f,g,j,k].drop 1).take (prog.cellsOf 3))=o[1]?:=l 1 _ rfl;have t:DataW.trod enc prog W 0 sp held m 3 (([f,g,j,k].drop 2).take (prog.cellsOf 3))=o[2]?:=l 2 _ rfl;have u:DataW.trod enc prog W 0 sp held m 3 (([f,g,j,k].drop 3).take (prog.cellsOf 3))=o[3]?:=l 3 _ rfl;obtain⟨J,y⟩:=Y8 (i:=0) e O;obtain⟨K,A⟩:=Y8 (i:=1) e O;obtain⟨L,B⟩:=Y8 (i:=2) e O;obtain⟨M,D⟩:=Y8 (i:=3) e O;rw[y,ZM] at q;rw[A,ZM] at r;rw[B,ZM] at t;rw[D,ZM] at u;obtain⟨a,rfl,_⟩:=ZT q;obtain⟨b,rfl,G⟩:=ZT r;obtain⟨c,rfl,_⟩:=ZT t;obtain⟨d,rfl,_⟩:=ZT u;exact⟨a,b,c,d,rfl,G⟩
theorem Nl{y:List Value}{x:DataW H × List MemPlace}(h:DataW.trod enc prog W 0 sp held n 37 y=some x):(∃ v:Ver,y=v.cells)/\5<=Rows.uptoBulk x.1:=by
 obtain⟨j,m,_,hx,L,a,t⟩:=wU underlying37 h;rw[Uz] at L;refine⟨?_,?_⟩
 .match y,L with
  | [e,f,k,l,o,p,q,r],_ =>
   have A:DataW.trod enc prog W 0 sp held m 34 (([e,f,k,l,o,p,q,r].drop 0).take (prog.cellsOf 34))=j[0]?:=t 0 _ rfl;have B:DataW.trod enc prog W 0 sp held m 35 (([e,f,k,l,o,p,q,r].drop 2).take (prog.cellsOf 35))=j[1]?:=t 1 _ rfl;have C:DataW.trod enc prog W 0 sp held m 9 (([e,f,k,l,o,p,q,r].drop 6).take (prog.cellsOf 9))=j[2]?:=t 2 _ rfl;have D:DataW.trod enc prog W 0 sp held m 4 (([e,f,k,l,o,p,q,r].drop 7).take (prog.cellsOf 4))=j[3]?:=t 3 _ rfl;obtain⟨x0,e0⟩:=Y8 (i:=0) a O;obtain⟨x1,e1⟩:=Y8 (i:=1) a O;obtain⟨x2,e2⟩:=Y8 (i:=2) a O;obtain⟨x3,e3⟩:=Y8 (i:=3) a O;rw[e0,Ff] at A;rw[e1,JG] at B;rw[e2,Ri] at C;rw[e3,JE] at D;obtain⟨s,rfl⟩:=Sa C;obtain⟨b,rfl⟩:=Ep D;obtain⟨T,S,_,_,_,g,K⟩:=wU underlying34 A;have G:DataW.trod enc prog W 0 sp held S 3 (([e,f].drop 0).take (prog.cellsOf 3))=T[0]?:=K 0 _ rfl;have J:DataW.trod enc prog W 0 sp held S 3 (([e,f].drop 1).take (prog.cellsOf 3))=T[1]?:=K 1 _ rfl;obtain⟨y0,d0⟩:=Y8 (i:=0) g O;obtain⟨y1,d1⟩:=Y8 (i:=1) g O;rw[d0,ZM] at G;rw[d1,ZM] at J;obtain⟨i0,rfl,_⟩:=ZT G;obtain⟨i1,rfl,_⟩:=ZT J;obtain⟨zs,m2,_,_,_,c,u⟩:=DataW.trod_array underlying35 B;have M:=u 0 O;have N:=u 1 O;have Q:=u 2 O;have R:=u 3 O;obtain⟨z0,X⟩:=Y8 (i:=0) c O;obtain⟨z1,b1⟩:=Y8 (i:=1) c O;obtain⟨z2,b2⟩:=Y8 (i:=2) c O;obtain⟨z3,b3⟩:=Y8 (i:=3) c O;rw[X,ZM] at M;rw[b1,ZM] at N;rw[b2,ZM] at Q;rw[b3,ZM] at R;obtain⟨o0,rfl,_⟩:=ZT M;obtain⟨o1,rfl,_⟩:=ZT N;obtain⟨o2,rfl,_⟩:=ZT Q;obtain⟨o3,rfl,_⟩:=ZT R;exact⟨⟨i0,i1,o0,o1,o2,o3,s,b⟩,rfl⟩
 .rw[hx]
  have:=S9 1 (j.map (·.1)) (fun d _=>Xo d);rw[Bm,a] at this;simp only[Rows.uptoBulk];exact ud this
theorem Ce(B:sp=fun _=>true){a:List Value}{x:DataW H × List MemPlace}(h:DataW.trod enc prog W 0 sp held n 39 a=some x):(∃ o:OpM,a=o.cells/\VT W o)/\13<=Rows.uptoBulk x.1:=by
 obtain⟨b,m,_,Q,J,G,c⟩:=wU underlying39 h;rw[Nj] at J;have k:DataW.trod enc prog W 0 sp held m 3 ((a.drop 0).take (prog.cellsOf 3))=b[0]?:=c 0 _ rfl;have l:DataW.trod enc prog W 0 sp held m 3 ((a.drop 1).take (prog.cellsOf 3))=b[1]?:=c 1 _ rfl;have p:DataW.trod enc prog W 0 sp held m 3 ((a.drop 2).take (prog.cellsOf 3))=b[2]?:=c 2 _ rfl;have q:DataW.trod enc prog W 0 sp held m 3 ((a.drop 3).take (prog.cellsOf 3))=b[3]?:=c 3 _ rfl;have r:DataW.trod enc prog W 0 sp held m 9 ((a.drop 4).take (prog.cellsOf 9))=b[4]?:=c 4 _ rfl;have s:DataW.trod enc prog W 0 sp held m 9 ((a.drop 5).take (prog.cellsOf 9))=b[5]?:=c 5 _ rfl;have t:DataW.trod enc prog W 0 sp held m 37 ((a.drop 6).take (prog.cellsOf 37))=b[6]?:=c 6 _ rfl;have u:DataW.trod enc prog W 0 sp held m 26 ((a.drop 14).take (prog.cellsOf 26))=b[7]?:=c 7 _ rfl;have d:b.length=8:=G
 match b,d with
 | [x0,x1,x2,x3,x4,x5,x6,x7],_ =>
  simp only[Ax,AK] at k l p q r s t u;rw[ZM] at k l p q;rw[Ri] at r s;rw[Uz] at t;rw[JF] at u;obtain⟨C,hb⟩:=Nl t;refine⟨?_,?_⟩
  .match a,J with
   | [c0,c1,c2,c3,c4,c5,K,L,M,N,e,f,g,i,j],_ =>
    obtain⟨R,rfl,_⟩:=ZT k;obtain⟨S,rfl,y⟩:=ZT l;obtain⟨T,rfl,A⟩:=ZT p;obtain⟨X,rfl,_⟩:=ZT q;obtain⟨s4,rfl⟩:=Sa r;obtain⟨s5,rfl⟩:=Sa s;obtain⟨v,C⟩:=C;have D:[K,L,M,N,e,f,g,i]=v.cells:=C;refine⟨⟨R,S,T,X,s4,s5,v,j⟩,?_,y,A,Eo B u⟩;unfold OpM.cells;rw[<- D]
    rfl
  .rw[Q]
   simp only[Rows.uptoBulk,Bw,AE,Rows.uptoBulkAll];have a0:=Xo x0.1;have a1:=Xo x1.1;have a2:=Xo x2.1;have a3:=Xo x3.1;have a4:=Xo x4.1;have a5:=Xo x5.1;have a7:=Xo x7.1;omega
end
theorem Er{a:Addr}{n:Nat}{b:List Value}(h:w.cells? 0 a n=some b)(k:Nat)(c:k<n):w.cell? (a.add k)=b[k]?:=by
 unfold World.cells? at h;rw[Bl (Bg _)] at h;exact mapM_some_get h k k (by simp[c])
theorem MI{H:Type}{enc:TypeId × Value->H}{W:World}{j:Nat}{A:List Value}{x:DataW H × List MemPlace}(h:DataW.trod enc prog W 0 (fun _=>true) true j 24 A=some x) :
 ∃ (J:Option Addr) (c:Nat) (r:List OpM),A=[.slice J r.length c]/\(r≠[]->∃ a,J=some a/\a.block<W.heap.size/\Steps W a r)/\(∀ o∈r,VT W o)/\13*r.length<=Rows.uptoBulk x.1:=by
 rcases Deep.open_slice underlying24 h with⟨rfl,rfl⟩|⟨a,len,t,m,n,D,T,rfl,X,R,G,hm,S,u⟩
 .exact⟨none,0,[],rfl,fun e=>absurd rfl e,fun o l=>by(cases l),bG⟩
 .have hlm:len<=m:=by rw[hm];split <;> omega
  have p:∀ i,i<len->∃ o:OpM,W.cells? 0 (a.add (i*15)) 15=some o.cells/\VT W o/\13<=Rows.uptoBulk (D i):=fun i g=>by
   obtain⟨K,B,L⟩:=u i V;rw[Nj] at B;obtain⟨⟨o,rfl,l⟩,M⟩:=Ce rfl L;exact⟨o,B,l,M⟩
  obtain⟨f,v⟩:∃ f:Nat->OpM,∀ i,i<len->W.cells? 0 (a.add (i*15)) 15=some (f i).cells/\VT W (f i)/\13<=Rows.uptoBulk (D i):=by
   classical
   refine⟨fun i=>if g:i<len then Classical.choose (p i g) else⟨0,0,0,0,ByteArray.empty,ByteArray.empty,⟨0,0,0,0,0,0,ByteArray.empty,false⟩,.bool false⟩,fun i g=>?_⟩;simp only[uI g];exact Classical.choose_spec (p i g)
  have b:((List.range len).map f).length=len:=bG
  have q:Steps W a ((List.range len).map f):=fun i g k Q=>by
   rw[b] at g;rw[Er (v i g).1 k Q];simp
  refine⟨some a,t,(List.range len).map f,by rw[b],fun y=>⟨a,rfl,?_,q⟩,fun o l=>?_,?_⟩
  .have hpos:0<len:=Nat.pos_of_ne_zero fun e=>y bF
   have:=q 0 (by rw[b];exact hpos) 0 O;rw[vA,add_zero,add_zero] at this;exact U6 this
  .obtain⟨i,g,rfl⟩:=Bb.1 l
   exact(v i (wL.1 g)).2.1
  .rw[b,S]
   simp only[Rows.uptoBulk];have:=S9 13 ((List.range len).map D) (fun d N=>by
    obtain⟨i,g,rfl⟩:=Bb.1 N;exact(v i (wL.1 g)).2.2)
   rw[Bm,List.length_range] at this;omega
theorem T8.fr{w':World}(h:T8 w v)(f:Fr Nil w w'):T8 w' v:=by
 obtain⟨l,c,e⟩:=h;exact⟨l,c.fr f (fun _ _ _=>id),e⟩
theorem VT.fr{w':World}{o:OpM}(h:VT w o)(f:Fr Nil w w'):VT w' o:=⟨h.a,h.b,h.rz.fr f⟩
theorem Cf(h:p:=by
 exact⟨⟨i+1,A,A4,V,rfl,by push_cast;rfl,(a4.o.nil K.o).tU V,(a5.o.nil K.o).tU V,b7.o⟩,by simp[intOf];omega⟩):p:=h
theorem Cg(h:p:=by
 exact⟨⟨i+1,A4,A',V,rfl,by push_cast;rfl,(a4.o.nil K.o).tU V,(a5.o.nil K.o).tU V,b7.o⟩,by simp[intOf];omega⟩):p:=h
theorem Kh(h:p:=by
 clear g G J M c4 R q0 q1 q2 q3 q4 q5 q6 q7 q8 q9 g1 g2 g3 g4 g5;have d5:=Z (QE a4.o V);go_wp2_with fail;refine d5.o.mono ?_;rintro e w9 ⟨rfl,f9⟩;have d6:=Z (QE (a5.o.nil f9) V);go_wp2_with fail;refine d6.o.mono ?_;rintro e i1 ⟨rfl,d8⟩;have K:=Z (f9.trans d8);clear f9 d8 d5 d6;go_wp2_with fail
 first
  | (clear g0;exact Cg)
  | exact Cf):p:=h
theorem JH(t:zy)(B:Nat)(e1:∀ w,Yr B w->B<=w.heap.size->Calls prog 15 #[] w fun e w'=>e=.returned (.bool true)/\Fr Nil w w')(node m x y l j q r:Int)(c6:InR m)(a8:InR j)(sa:Option Addr)(c:Nat)(os:List OpM)(w:World)(b4:Yr B w)(hB:B<=w.heap.size)(e8:os≠[]->∃ a,sa=some a/\a.block<w.heap.size/\Steps w a os)(e7:∀ o∈os,VT w o)(e5:os.length<=81000) :
 Calls prog 7 #[.agg #[I node,I m,I x,I y],.agg #[I l,I j,I q,I r],.slice sa os.length c] w fun e w'=>e=.returned (.bool true)/\Fr Nil w w':=by
 have b0:=Z b4;have a2:=Z hB;have h2:=Z e8;have h1:=Z e7;have g7:=Z e1;clear b4 hB e8 e7 e1;have a6:=Blk.new w [I node,I m,I x,I y] 23;have f1:Fr Nil w (w.alloc (.cells #[I node,I m,I x,I y] 23)):=(U _ _).alloc _;have d7:aa (w.heap.size+1=(w.alloc (.cells #[I node,I m,I x,I y] 23)).heap.size):=by unfold aa;simp
 go_enter func7,ntmps7;go_wp2_with fail;have a9:=d7.o;clear d7;generalize w.alloc (.cells #[I node,I m,I x,I y] 23)=w1 at a6 f1 a9 |-;have a7:=Blk.qC w1 [I l,I j,I q,I r] 23 _ a9;have f2:Fr Nil w1 (w1.alloc (.cells #[I l,I j,I q,I r] 23)):=(U _ _).alloc _;generalize w1.alloc (.cells #[I l,I j,I q,I r] 23)=w2 at a7 f2 |-;generalize w.heap.size+1=b2 at a7 a9 |-;generalize w.heap.size=b1 at a6 |-;have c0:=Z (f1.trans f2);have g8:=Z (a6.fr f2 id);have g9:=Z a7;clear a6 f1 a9 a7 f2;refine(g7.o w2 (b0.o.fr a2.o c0.o (fun _ e=>absurd e id)) (CO a2.o c0.o.size)).mono ?_;rintro e w3 ⟨rfl,f3⟩;have Q:=Z (c0.o.trans f3);have b8:aa (∀ N,Fr Nil w3 N->∀ k,N.cell? (Y b1 k)=([I node,I m,I x,I y]:List Value)[k]?):=fun N f=>(g8.o.fr (f3.trans f) id).cell;have b9:aa (∀ N,Fr Nil w3 N->∀ k,N.cell? (Y b2 k)=([I l,I j,I q,I r]:List Value)[k]?):=fun N f=>(g9.o.fr (f3.trans f) id).cell;have T:=b8.o w3 (U _ _);clear f3;go_wp2_with fail;refine(TA node m x y 0 w3).mono ?_;rintro e w4 ⟨db,e4,rfl,f7,e2,f4⟩;have d2:=Z (Plg.uQ (B:=B) (U Nil w3) e4 f7 e2 f4 c6 (Bg _));have c1:=Z f4;have X:=b9.o w4 f4;clear T e4 f7 e2 f4;go_wp2_with fail;refine(TA l j q r 100000 w4).mono ?_;rintro e w5 ⟨h5,b3,rfl,f8,e3,f5⟩;have d4:=Z (Plg.uQ (B:=B) c1.o b3 f8 e3 f5 a8 (CP _));have c2:=Z (d2.o.nil f5);have d0:=Z (c1.o.trans f5);have T:=b8.o w5 d0.o;have L:=Z (b0.o.fr a2.o Q.o (fun _ e=>absurd e id));have b:=Z (CO a2.o Q.o.size);have c9:aa (∀ k,(w4.heap.size<=k/\k<w5.heap.size)->¬(w3.heap.size<=k/\k<w4.heap.size)):=fun k h e=>V
 clear X b3 f8 e3 f5 d2 c1 d0;have D:=Z (fun N (f:Fr Nil w5 N)=>WJ t c2.o f L.o b.o V x y);go_wp2_with fail;refine(D.o w5 (U _ _)).mono ?_;rintro e w6 ⟨rfl,g⟩;obtain⟨A1,c5,f0,d9⟩:=g.qt d4.o (fun k e h=>c9.o k h e) c2.o.ge b.o;have X:=b9.o w6 c5.fr;have d3:=Z c5;have c3:=Z f0;have c8:=Z d9;clear g c5 f0 d9 D d4 c2 c9 T;have D:=Z (WJ t c3.o (U _ _) L.o b.o V q r);go_wp2_with fail;refine D.o.mono ?_;rintro e w7 ⟨rfl,g⟩;obtain⟨A3,f6,e9,e0⟩:=g.qt d3.o (fun k e h=>c8.o k h e) c3.o.ge b.o;have h3:=Z e9;have h4:=Z f6;have g6:aa (∀ k,A1 k->¬A3 k):=fun k e h=>e0 k h e;clear g e9 f6 e0 D c3 d3 c8 X;generalize e6:os.length=n at e5 |-;have a3:=Z e6;clear e6;go_wp2_with fail
 go_loopw [12,13] (fun h7 c7 w'=>∃ (i:Nat) (A A':Nat->Prop),i<=n/\h7=.bool true/\c7=I i/\Plg B A w3 (db+1) (10+10*i) w'/\Plg B A' w3 (h5+1) (10+10*i) w'/\∀ k,A k->¬A' k) (fun _ c7 _=>n-(intOf c7).toNat)
 case atStart=>exact⟨0,A1,A3,Bg _,rfl,rfl,h3.o,h4.o,g6.o⟩
 case round =>
  obtain⟨i,A,A',hi,rfl,rfl,hp,hq,ha⟩:=hrel;by_cases i0:i<n
  .obtain⟨a,rfl,hab,hst⟩:=h2.o (fun e=>by have:=a3.o;rw[e] at this;simp at this;omega)
   have u:∀ N,Fr Nil wr N->∀ k,k<15->N.cell? ((a.add (i*15)).add k)=(os[i]'(by have:=a3.o;omega)).cells[k]?:=fun N f k hk=>by
    rw[((Q.o.trans hp.fr).trans f).cell (by rw[QF,QF];exact hab) id];exact hst i _ k hk
   have a0:VT w3 (os[i]'(by have:=a3.o;omega)):=(h1.o _ (CU _)).fr Q.o;generalize os[i]'(by have:=a3.o;omega)=o at u a0;have h8:=Z a0;have HP:=Z hp;have HQ:=Z hq;have HA:=Z ha;obtain⟨b5,oa,ob,oc,key,b6,v,a1⟩:=o;have c4:=Z (Ni t hp L.o b.o V ⟨b5,oa,ob,oc,key,b6,v,a1⟩ a0);have R:=Z (Ni t hq L.o b.o V ⟨b5,oa,ob,oc,key,b6,v,a1⟩ a0);simp only[OpM.cells,Ver.cells,CZ,Ba] at c4 R u;have d:=u wr (U _ _);have q0:=d 0 V;rw[add_zero] at q0;have q1:=d 1 V;rw[ZS _ 1 O] at q1;have q2:=d 2 V;rw[ZS _ 2 O] at q2;have q3:=d 3 V;rw[ZS _ 3 O] at q3;have q4:=d 4 V;rw[ZS _ 4 O] at q4;have q5:=d 5 V;rw[ZS _ 5 O] at q5;have q6:=d 6 V;rw[ZS _ 6 O] at q6;have q7:=d 7 V;rw[ZS _ 7 O] at q7;have q8:=d 8 V;rw[ZS _ 8 O] at q8;have q9:=d 9 V;rw[ZS _ 9 O] at q9;have g1:=d 10 V;rw[ZS _ 10 O] at g1;have g2:=d 11 V;rw[ZS _ 11 O] at g2;have g3:=d 12 V;rw[ZS _ 12 O] at g3;have g4:=d 13 V;rw[ZS _ 13 O] at g4;have g5:=d 14 V;rw[ZS _ 14 O] at g5;clear hp hq ha a0 u hst d;rcases Nat.mod_two_eq_zero_or_one i with hm|hm
   .have hm1:((i:Int).tmod 2)=0:=by rw[xd V];omega
    have h6:IntKind.i64.wrap ((i:Int).tmod 2)=0:=by rw[hm1];rfl
    go_wp2_with fail;refine c4.o.mono ?_;rintro e w8 ⟨rfl,g⟩;obtain⟨A4,G,J,M⟩:=g.qt HQ.o HA.o HP.o.ge b.o;have a4:=Z G;have a5:=Z J;have b7:=Z M;have g0:=0;exact Kh
   .have hm1:((i:Int).tmod 2)=1:=by rw[xd V];omega
    have h6:IntKind.i64.wrap ((i:Int).tmod 2)=1:=by rw[hm1];rfl
    go_wp2_with fail;refine R.o.mono ?_;rintro e w8 ⟨rfl,g⟩;obtain⟨A4,J,G,M⟩:=g.qt HP.o (fun k e h=>HA.o k h e) HQ.o.ge b.o;have a4:=Z G;have a5:=Z J;have b7:aa (∀ k,A k->¬A4 k):=fun k e h=>M k h e;exact Kh
  .have hin:i=n:=V
   subst hin;have HP:=Z hp;have HQ:=Z hq;have HA:=Z ha;have T:=b8.o wr hp.fr;have D:=Z (WJ t hp (U _ _) L.o b.o V x y);clear hp hq ha;go_wp2_with fail;refine D.o.mono ?_;rintro e w8 ⟨rfl,g⟩;obtain⟨A4,G,J,M⟩:=g.qt HQ.o HA.o HP.o.ge b.o;have X:=b9.o w8 G.fr;have d1:=Z (WJ t J (U _ _) L.o b.o V q r);clear g G J M D T;go_wp2_with fail;refine d1.o.mono ?_;rintro e w9 ⟨rfl,g⟩;obtain⟨S,A5,f9,_,_,_,h9⟩:=g;have h0:=Z (Q.o.trans h9.fr);clear f9 h9 X;go_wp2_with fail;go_ret;exact⟨rfl,h0.o⟩
def Rj:ByteArray:={data:=#[107]}
def Ph:ByteArray:={data:=#[118]}
theorem Fh(m:LM)(b:m.uR=[])(key a:ByteArray)(n:Int):zJ (m.put key a n).uR key=[⟨m.node,n,0,0,0,0,a,false⟩]:=by
 have e:(m.put key a n).uR=[(key,[m.putV key a n])]:=by
  unfold LM.put Z4;simp only[b,List.foldl_nil]
  rfl
 rw[e];have c:m.putV key a n=⟨m.node,n,0,0,0,0,a,false⟩:=by
  unfold LM.putV;rw[b]
  rfl
 rw[c];unfold zJ;rw[wQ (by simp[zY])]
theorem Es{d:DM}{c:Lay}(k:Lg d c 0 1)(j:c.F=[])(l:d.tJ=false)(p:d.room=100000)(g:c.new=none):∃ W:WM,W.uS=1/\W.node=2/\NI W (NM.tP 2 1000 0 c) d [] 0 2:=by
 have hs:=Sh.uQ 2 100000 1000 0 (by unfold InR;decide);have h:Sh (WM.uQ 2 100000 1000 0 0) d c.F 0 1:=by
  refine⟨⟨c,k,rfl⟩,hs.cm.tU V,p,?_⟩;rw[j];rcases hs.all with⟨a,b⟩|⟨a,b⟩
  .exact .inl ⟨a,b.imp id fun x=>⟨x.1.imp id (fun e=>by cases e),x.2⟩⟩
  .exact .inr ⟨a.imp id (fun e=>by cases e),b⟩
 obtain⟨i,m,t,s,r,q,_,o,f⟩:=Sh.pS h k g l 2 1000 0 rfl O _ rfl;rw[j] at f;exact⟨_,rfl,rfl,f⟩
theorem Fi{e:NM}{M l:DM}{m:LM}{g:Option Int}{key a:ByteArray}{n:Int}{f:WM}{t:Nat}(v:0<=M.uS)(q:M.tJ=false)(x:M.cut=0)(y:M.fail=0)(A:M.room=100000)(k:M.sW=0)(c:Aft f (m.put key a n) M g e l t)(r:m.uR=[]) :
 g=none/\zn e.S.uR key=[⟨m.node,n,0,0,0,0,a,false⟩]/\e.S.uR.length<=t:=by
 have h:g=none:=by
  rcases c.rD.1 with⟨d,_⟩|⟨_,⟨d,_⟩|⟨d,_⟩⟩
  .exact d
  .have h1:=c.rD.2.mn d q
   rcases h1.2 with⟨p,_⟩|⟨p,_⟩ <;> omega
  .have h1:=c.sM d
   omega
 subst h;obtain⟨u,B,i⟩:=c.rH;obtain⟨s,b,j,_⟩:=i.ri;have o:m.put key a n=s:=by
  unfold WM.rH at b;simp only at b;split at b
  .have e1:(f.st++[m.put key a n]).drop ((f.st++[m.put key a n]).length-1)=[m.put key a n]:=by
    rw[CN,CQ,wD,yB]
   rw[e1] at b;exact BA b
  .rw[CN,CQ,wD] at b
   simpa using b
 subst o;refine⟨rfl,?_,i.nk⟩;rw[<- TS key i.st.1.rp,<- j.1];exact Fh m r key a n
theorem Et(S:zy)(B:Nat)(w:World)(X:Yr B w)(hB:B<=w.heap.size) :
 Calls prog 15 #[] w fun e w'=>e=.returned (.bool true)/\Fr Nil w w':=by
 have M:=Z X;have j:=Z hB;clear X hB;go_enter func15,ntmps15;go_wp2_with fail;refine(RX 100000 w).mono ?_;rintro e w1 ⟨rfl,b7,G,c9⟩;have o:aa (∀ k,Foot w.heap.size DL.new (DM.new 100000) k->w.heap.size<=k):=fun k hk=>by
  cases hk using Foot.elim with
  | blk=>exact CP _
  | dir h=>simp[DL.new,Value.ownBlock] at h
  | safe h=>simp[DL.new,Value.ownBlock] at h
  | ch h=>simp[DL.new,Value.ownBlock] at h
  | chs i h1 h=>simp[DL.new] at h1
  | file h=>cases h
  | row f hf h=>cases hf
 obtain⟨y,c5,b3⟩:=(Sh.uQ 2 100000 1000 0 (by unfold InR;decide)).lg;obtain⟨e1,d,y2,⟨a1,b2,l,x,-,K,a4,d0⟩,J⟩:=N4 S B _ 2 1000 0 y 0 0 O c5 V;have J:=J w.heap.size DL.new w1 b7 (M.o.fr j.o G (fun _ e=>absurd e id)) (CO j.o G.size) (fun k hk=>CO j.o (o.o k hk));have d7:e1=none:=by
  rcases l.1 with⟨e0,_⟩|⟨_,⟨e0,_⟩|⟨e0,_⟩⟩
  .exact e0
  .have h1:=l.2.mn e0 rfl
   have h3:(0:Int)<d.uS:=h1.1;rcases h1.2 with⟨h2,_⟩|⟨h2,_⟩
   .have h2:d.uS=0:=h2
    omega
   .have h2:d.uS=0:=h2
    omega
  .exact absurd e0 a4
 subst d7;have b6:d.cut=0:=l.2.cut;have T:d.fail=0:=l.2.fail;have R:0<=d.uS:=a1.bd.c0;have x:d.room=100000:=x;have K:d.sW=0:=Nat.le_zero.1 K;have a0:d.tJ=false:=by
  rcases l.1 with⟨_,_,_,e⟩|⟨_,⟨e,_⟩|⟨e,_⟩⟩
  .exact e
  .cases e
  .cases e
 obtain⟨W,b4,b5,c7⟩:=Es a1 (b2.trans b3) a0 x (d0 rfl);have D:=Z c7;have d4:=Z (And.intro R (And.intro a0 (And.intro b6 (And.intro T (And.intro x K)))));have b1:=Z (And.intro b4 b5);have a9:=Z J;have a7:=Z G;clear b7 G c9 c5 b3 a1 b2 l x K a4 d0 J b6 T R a0 b4 b5 c7;go_wp2_with fail;refine a9.o.mono ?_;rintro e w4 (⟨-,X4,rfl,a5,d6,q,_,b9⟩|⟨n,_,h,_⟩)
 rotate_left
 .cases h
 have F4:=a7.o.tk (S':=Foot w.heap.size DL.new (DM.new 100000)) b9 (fun i hi e=>by have:=o.o i e;omega);have b:∀ k,NFoot X4 d k->w.heap.size<=k:=fun k hk=>(q k hk).elim (o.o k) (fun e=>CO a7.o.size e);have b8:Ye B X4 d w4:=⟨(M.o.fr j.o F4 (fun _ e=>absurd e id)).1,CO j.o F4.size,fun k hk=>CO j.o (b k hk)⟩;have r:∀ g∈d.tL,g<w4.heap.size:=fun g hg=>(a5.sf.tw g hg).lt;obtain⟨m,d8,a2,a3⟩:=D.o.ri;have t:m.uR=[]:=by
  rw[a2.1];have:=D.o.kp.held;rw[this]
  rfl
 have v:=D.o.put (m:=m) (H0:=w4.heap.size) V rfl a2 a3 r Rj Ph O O;have p:=Z (WF S B X4 (NM.tP 2 1000 0 y2) d Rj Ph w4 a5 b8 (fun u hu=>((D.o.st.1.get Rj).2.2 u hu).node) (fun _ _ _=>v.1 _ (CP _)));have b0:=Z v.2;have d1:=Z F4;have a8:=Z b;have L:=Z (And.intro t a3.node);clear a5 d6 q b9 F4 b b8 r v d8 a2 a3 t;unfold Rj Ph at p;go_wp2_with fail;refine p.o.mono ?_;rintro e w5 ⟨f,g,X5,rfl,c2,c4,Q,A⟩;obtain⟨-,h3,c8⟩:=b0.o;obtain⟨er,N5,M5,he,-,N⟩:=c8 f g c2 c4 Q;obtain⟨k1,k2,k3,k4,k5,k6⟩:=d4.o;obtain⟨rfl,a,e2⟩:=Fi k1 k2 k3 k4 k5 k6 N L.o.1;unfold Rj Ph at he a;rw[he] at A |-;rw[L.o.2,b1.o.2] at a;simp only[Ad,Zt] at a |-;rw[b1.o.1] at h3;obtain⟨n,hn⟩:∃ n,n=(NM.tP 2 1000 0 y2).uY+1:=⟨_,rfl⟩;rw[<- hn] at h3 a |-;have h2:0<n:=V
 have F5:=d1.o.tk (S':=NFoot X4 d) A.fr (fun i hi e=>by have:=a8.o i e;omega);have c:=Z (VA X5 N5 M5 {data:=#[107]} w5 A.th V (by rw[a];simp));rw[A.same.nb,show zu {data:=#[107]}=true from by decide] at c;simp only[Ad] at c;rw[a] at c;have d2:=Z F5;have e3:(1:Int)<=(n:Int):=V
 have a4:(n:Int)<=32:=V
 have e4:((n:Int)==n)=true:=bG
 clear A N he c8 F5 b0 p a9 c2 c4 Q h2 h3 a hn e2 k1 k2 k3 k4 k5 k6;go_wp2_with fail;refine c.o.mono ?_;rintro e w6 ⟨v6,rfl,a6,c3,d9⟩;obtain⟨g6,c6,rfl,_,_⟩:=zl a6 bG;have hc:=VRow.cells a6 0 bG;have c0:=hc 0 V;have c1:=hc 1 V;have d5:=hc 6 V;simp only[Ver.cells,AA,vA,BQ] at c0 c1 d5;have d3:=Z (d2.o.trans c3);clear a6 c3 d9 hc;simp only[CQ];go_wp2_with fail;go_ret;exact⟨rfl,d3.o⟩
end Go.Proofs.YtkhnggkkiefcdaaGreatDoor
namespace Go.Proofs.YtkhnggkkiefcdaaGreatDoor
open Go.RowKit Go.ChangeShapes Proofs.Tryz
set_option maxRecDepth 100000
set_option maxHeartbeats 8000000
variable{W:World}
theorem MJ(h:laidMetH prog Rows.writesRow.laid W):Tab W:=by
 have a:=(uO.1 h).1.filter (fun x=>x.1==Wm);have e:((Rows.writesRow.laid.filter fun x=>x.2.handleName?.isNone).filter fun x=>x.1==Wm)=[(Wm,Lib.tabData .u64 Lib.pow10Tab)]:=bI
 rw[e] at a;exact Lib.tabIs_of_head (rest:=[]) (g:=1) bI (t:=322) bI underlying322 underlying274 bI bI a
theorem Rk:prog.globalNamed Wm=some 1:=bI
theorem JI:prog.globalNamed "errors.errorType"=some 0:=bI
theorem JJ:prog.types.size=396:=bI
theorem Fj:((List.range 396).filter fun t=>prog.rowNamed t [101,114,114,111,114])=[132]:=bI
theorem MK(h:laidMetH prog Rows.writesRow.laid W):Hnd W:=by
 have c:=(uO.1 h).2;have e:(Rows.writesRow.laid.filter fun x=>x.2.handleName?.isSome)=[("errors.errorType",Rows.laid_errors_errorType)]:=bI
 rw[e] at c;obtain⟨a,u,ty,d,f,g,i,b⟩:=c _ (CX.2 rfl);have j:a=[101,114,114,111,114]:=(BA d).symm;subst j;have k:some u=some 309:=f.symm.trans bI;obtain rfl:=BA k;have hm:ty∈(List.range 396).filter fun t=>prog.rowNamed t [101,114,114,111,114]:=yR.2 ⟨wL.2 (by rw[<- JJ];exact g),i⟩;rw[Fj] at hm;obtain rfl:=CX.1 hm;have l:typeHandle prog 132=E 6 132:=bI
 rw[l] at b;have:=World.var?_cell JI b 0;unfold Hnd
 simpa using this
theorem Pd(h:laidMetH prog Rows.writesRow.laid W):Xr W.heap.size W:=by
 have a:=MJ h;have b:=MK h;refine⟨a,fun g c=>?_,b,U6 b⟩;have:=BA (Rk.symm.trans c);subst this;exact U6 (a.cell Rk 0 O)
theorem Rl:prog.globalNamed "strconv.ErrSyntax"=some 4:=bI
theorem Eu:(prog.globals[4]?).map (·.type)=some 132:=bI
theorem UA(h:laidMetH prog Rows.writesRow.laid W):YE W:=by
 have b:=(uO.1 h).1.filter (fun x=>x.1== "strconv.ErrSyntax");have e:((Rows.writesRow.laid.filter fun x=>x.2.handleName?.isNone).filter fun x=>x.1== "strconv.ErrSyntax")=[("strconv.ErrSyntax",Rows.laid_strconv_ErrSyntax)]:=bI
 rw[e] at b;obtain⟨a,s,c,_⟩:=laid_sentinel b Rl Eu underlying132 (fun u h=>typeName_ptr_named (P:=prog) (nm:= "errors.errorString") bI bI O u (h.trans (AB some O))) underlying348 underlying350 rfl rfl AH bI bI;have:=World.var?_cell Rl c 0;exact⟨U6 (p:=⟨4,0,none⟩) (by simpa using this),_,_,by simpa using this⟩
theorem Nm(h:laidMetH prog Rows.writesRow.laid W):Yr W.heap.size W :=
 ⟨Pd h,UA h,(UA h).1⟩
end Go.Proofs.YtkhnggkkiefcdaaGreatDoor
