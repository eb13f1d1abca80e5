/- larder: joined texts -/
import Derived.Test.YtkhnggkkiefcdaaGreatDoorFRAJ
import Derived.Test.YtkhnggkkiefcdaaGreatDoorFRAK
import Derived.Deep.RegionLaw
import Derived.LaidEqlPtr
namespace Go.Proofs.YtkhnggkkiefcdaaGreatDoor
open Go.RowKit
set_option maxRecDepth 100000
def Jl(J:JM)(M:DM)(a:List Seg):Prop:=J=JM.at J.Hq a J.Hb/\(J.Hb=true->M.safe=M.dir/\M.IW=[])
def Firm(M:DM):Prop:=∀ e∈M.dir,(M.file e.2).safe=(M.file e.2).bytes.length
theorem Lg.no{M:DM}{a:List Seg}{p t:Nat}(h:Lg M a p t)(d:Bool):Lg (M.no d) a p (t+1) :=
 ⟨h.bd.no d,h.Hs.same rfl (fun _=>rfl) rfl,h.ok,h.Gw,h.pre,h.le,h.full,h.GI⟩
theorem Lg.GX{M:DM}{b:List Seg}{p t:Nat}(h:Lg M b p t)(f:Nat):Lg (M.GX f) b p (t+1) where
 bd:=h.bd.GX f
 Hs:=h.Hs.same rfl (Yl M f) rfl
 ok:=h.ok
 Gw:=h.Gw
 pre:=h.pre
 le:=fun e a=>by
  rw[Wl,Yl];split
  .rename_i e';rw[e'];exact NS _
  .exact h.le e a
 full:=fun e a=>by
  rw[Wl,Yl];split
  .rename_i e';rw[e']
  .exact h.full e a
 GI:=fun D g=>NR (h.GI D g) (SW (M':=M.GX f) h.Hs.length h.Hs.length (fun i c d=>⟨c,d,Vu _ (by
  show(M.file M.dir[i].2).safe<=((M.GX f).file M.dir[i].2).safe;rw[Wl];split
  .rename_i e';rw[<- e'];exact h.le _ (NV _)
  .exact NS _)⟩) _)
theorem Lg.Fc{M:DM}{g:List Seg}{p t:Nat}(h:Lg M g p t){d:Dir}{n:ByteArray}{f:Nat}(b:M.dir=d++[(n,f)]):Firm (M.GX f):=fun e c=>by
 rw[Wl,Yl];split
 .rename_i e';rw[e']
 .rename_i hne
  refine h.full e ?_;have a:e∈M.dir:=c;rw[b] at a |-;rw[Js];rcases Mc.1 a with x|x
  .exact x
  .rw[NW] at x;subst x;exact absurd rfl hne
theorem SZ{M:DM}{a:List Seg}{k m:Nat}(h:k<=m):lft M a k<=lft M a m:=Th _ h
theorem Lg.Hy{M:DM}{a:List Seg}{p t:Nat}(h:Lg M a p t):p<=lft M a M.dir.length :=
 NR (h.GI _ (NY ..)) (SZ (h.pre _ (NY ..)).length_le)
theorem Lg.GF{M:DM}{b:List Seg}{p t:Nat}(h:Lg M b p t):p<=(zc b).length:=by
 refine NR h.Hy ?_;unfold lft;rw[WT];rw[show(b.map fun s=>s.1.length).sum=((b.map fun s=>s.1.length).take M.dir.length).sum by rw[h.Hs.length,Mj (by simp)]];refine YD _ _ _ fun i a=>?_;rw[YO h.Hs.length] at a;refine⟨by simpa using a,?_⟩;rw[XT (by rw[h.Hs.length];exact a) a,MT];exact SU _ _
theorem Lg.GG{M:DM}{c:List Seg}{p t:Nat}(h:Lg M c p t){q:Nat}(d:q<=lft M c M.dir.length):Lg M.GG c q (t+1) where
 bd:=h.bd.GG
 Hs:=h.Hs.same rfl (fun _=>rfl) rfl
 ok:=h.ok
 Gw:=h.Gw
 pre:=fun D b=>by
  have a:D∈[M.dir]:=b;rw[NW] at a;subst a;exact Ic _
 le:=h.le
 full:=h.full
 GI:=fun D b=>by
  have a:D∈[M.dir]:=b;rw[NW] at a;subst a;exact d
theorem Firm.lft{M:DM}{a:List Seg}(h:Firm M)(b:Lies M a):lft M a M.dir.length=(zc a).length:=by
 rw[b.length];exact Uo b h
theorem Lg.born{M:DM}{j:List Seg}{p t:Nat}(h:Lg M j p t)(G:Firm M)(f:Nat)(F:f∉M.ids)(r:Int)(d:Bool)(K:M.refused<=r)(L:r<=M.refused+1):Lg (M.born (ze zi (j.length+1)) f r d) (j++[([],[])]) p (t+1):=by
 have y:∀ e∈M.dir,e.2≠f:=fun e A x=>F (x▸h.bd.Gc e A);have c:∀ g,g≠f->(M.born (ze zi (j.length+1)) f r d).file g=M.file g:=fun g I=>by
  show(if g=f then(⟨[],0⟩:FM) else M.file g)=_;rw[Ma I]
 have u:(M.born (ze zi (j.length+1)) f r d).file f=⟨[],0⟩:=by
  show(if f=f then(⟨[],0⟩:FM) else M.file f)=_;rw[Mg rfl]
 have q:Lies (M.born (ze zi (j.length+1)) f r d) (j++[([],[])]):=h.Hs.more rfl F (fun g I=>by rw[c g I]) (by rw[u]) rfl;have E:=h.Hs.length;have o:∀ k,lft M j k<=lft (M.born (ze zi (j.length+1)) f r d) (j++[([],[])]) k:=SW E q.length (fun i a b=>by
  have B:(M.born (ze zi (j.length+1)) f r d).dir=M.dir++[(ze zi (j.length+1),f)]:=rfl;refine⟨by rw[B,NQ];omega,by rw[NQ];omega,?_⟩;rw[MG b];have J:((M.born (ze zi (j.length+1)) f r d).dir[i]'(by rw[B,NQ];omega))=M.dir[i]:=by
   simp only[B,MG a]
  rw[J,c _ (y _ (NV _))];exact NS _)
 exact {
  bd:=h.bd.born _ f F r d K L
  Hs:=q
  ok:=fun s z=>by
   rcases Mc.1 z with z|z
   .exact h.ok s z
   .rw[NW] at z;subst z;exact⟨(fun x N=>by cases N),SP⟩
  Gw:=by rw[zY,show zc [(([],[]):Seg)]=[] from rfl,MB];exact h.Gw
  pre:=fun D C=>by
   have l:D∈M.safe::(M.IW++[M.dir++[(ze zi (j.length+1),f)]]):=C;have v:=h.pre D;simp only[Mr,Mc,LO,JG] at l v;rcases l with e|e|e
   .exact(v (.inl e)).trans (Kh _ _)
   .exact(v (.inr e)).trans (Kh _ _)
   .rw[e];exact Ic _
  le:=fun e A=>by
   have m:e∈M.dir++[(ze zi (j.length+1),f)]:=A;rcases Mc.1 m with x|x
   .rw[c _ (y e x)];exact h.le e x
   .rw[NW] at x;subst x;simp only[u];exact NS _
  full:=fun e A=>by
   have m:e∈(M.dir++[(ze zi (j.length+1),f)]).dropLast:=A;rw[Js] at m;rw[c _ (y e m)];exact G e m
  GI:=fun D C=>by
   have l:D∈M.safe::(M.IW++[M.dir++[(ze zi (j.length+1),f)]]):=C;have v:=h.GI D;simp only[Mr,Mc,LO,JG] at l v;rcases l with e|e|e
   .exact NR (v (.inl e)) (o _)
   .exact NR (v (.inr e)) (o _)
   .refine NR h.Hy (NR (o _) (SZ ?_))
    rw[e,NQ];omega}
theorem Lg.put{M:DM}{c:List Seg}{s o:Seg}{p t:Nat}(h:Lg M (c++[s]) p t){f:Nat}(I:M.dir.look (ze zi (c.length+1))=some f)(l:List UInt8)(C:l.length<=2000)(r u:Int)(d:Bool)
 (K:M.refused<=r)(L:r<=M.refused+1)(Q:M.IZ<=u)(R:u-M.IZ<=r-M.refused)(V:(M.file f).bytes++l=zX o)(F:Wj o)(X:∀ n,cnt s.1 n<=cnt o.1 n)
 (z:∀ i,(((zc (c++[o])).take i).foldl SM.enter SM.nil).hints.length<=32):Lg (M.put f l r u d) (c++[o]) p (t+1):=by
 obtain⟨d0,g,Y,_,B,E,_⟩:=h.Hs.last;obtain rfl:g=f:=Mp (B.symm.trans I);have j:Lies (M.put g l r u d) (c++[o]):=h.Hs.put I rfl (fun k hk=>by rw[ZV,Ma hk]) (by rw[ZV,Mg rfl];exact V) rfl;exact {
  bd:=h.bd.put g l C r u d K L Q R
  Hs:=j
  ok:=fun x q=>by
   rcases Mc.1 q with q|q
   .exact h.ok x (Jt _ q)
   .rw[NW] at q;subst q;exact F
  Gw:=z
  pre:=h.pre
  le:=fun e A=>by
   rw[Vt,ZV];have:=h.le e A;split
   .rename_i e';rw[NQ,<- e'];omega
   .exact this
  full:=fun e A=>by
   have y:e∈M.dir.dropLast:=A;rw[Vt,ZV,Ma]
   .exact h.full e A
   .intro x
    rw[Y,Js] at y;exact E (x▸MR y)
  GI:=fun D T=>by
   refine NR (h.GI D T) (SW h.Hs.length j.length (fun i a b=>?_) _);have J:i<(c++[o]).length:=by simpa using b
   refine⟨a,J,?_⟩;show _<=cnt (c++[o])[i].1 ((M.put g l r u d).file M.dir[i].2).safe;rw[Vt];by_cases G:i<c.length
   .rw[MG G,MG G]
    exact NS _
   .have:i=c.length:=by simp at b;omega
    subst this;simp only[List.getElem_concat_length];exact X _}
structure Alike(M M':DM):Prop where
 dir:M'.dir=M.dir
 ids:M'.ids=M.ids
 room:M'.room=M.room
 part:M'.part=M.part
 Hx:M'.Hx=M.Hx
theorem Nd(M:DM)(f:Nat):(M.GX f).Hx=M.Hx:=by
 unfold DM.Hx;simp only[Yl]
 rfl
theorem Xd{J:JM}{M:DM}{g:List Seg}{p t:Nat}(h:Lg M g p t)(c:J=JM.at J.Hq g J.Hb)(o:t<=1000000000) :
 ∃ e a,J.IU M=(e,a)/\Lg a g p (t+1)/\Ans M a e/\Alike M a/\e≠some 10/\a.safe=M.safe/\a.IW=M.IW/\(e=none->Firm a):=by
 unfold JM.IU;rcases Ld g with rfl|⟨q,s,rfl⟩
 .have:J.last=0:=by rw[c];rfl
  rw[Mg this];exact⟨none,M,rfl,h.more (Ls _),Ans.refl M,⟨rfl,rfl,rfl,rfl,rfl⟩,(by intro e;cases e),rfl,rfl,fun _ e j=>by
   have i:=Mi h.Hs.length;rw[i] at j;cases j⟩
 .rw[Le] at h c |-
  rw[JM.Hz] at c;have k:J.last≠0:=by rw[c];simp
  have l:J.name=ze zi (q.length+1):=by rw[c]
  obtain⟨r,f,i,_,m,_,_⟩:=h.Hs.last;rw[Ma k,l];rcases OE h.bd o m with⟨e,b⟩|⟨d,e,b⟩
  .rw[e]
   exact⟨none,M.GX f,rfl,h.GX f,Ans.ok b rfl rfl rfl,⟨rfl,rfl,rfl,rfl,Nd M f⟩,(by intro e;cases e),rfl,rfl,fun _=>h.Fc i⟩
  .rw[e]
   exact⟨some 9,M.no d,rfl,h.no d,Ans.no b rfl rfl,⟨rfl,rfl,rfl,rfl,rfl⟩,(by intro e;cases e),rfl,rfl,fun e=>by cases e⟩
theorem VZ{J:JM}{M:DM}{c:List Seg}{p t:Nat}(h:Lg M c p t)(C:Jl J M c)(Y:t+2<=1000000000)(n f:Nat)(S:f∉M.ids) :
 ∃ e A k j,J.IX M n f=(e,A,k)/\Lg k j p (t+2)/\zc j=zc c/\Ans M k e/\k.room=M.room/\k.part=M.part/\(∀ g∈k.ids,g=f\/g∈M.ids)/\k.Hx=M.Hx/\e≠some 10/\(e≠none->A=J) /\
  (e=none->Jl A k j/\A.Hq=J.Hq/\∃ L D,j=L++[(D,[])]):=by
 unfold JM.IX;cases hb:J.fits n with
 | true =>
  simp only[MP];refine⟨none,J,M,c,rfl,h.more (by omega),rfl,Ans.refl M,rfl,rfl,fun g a=>.inr a,rfl,(by intro e;cases e),fun _=>rfl,fun _=>⟨C,rfl,?_⟩⟩;unfold JM.fits at hb;simp only[Ln,Ms,Jg] at hb;obtain⟨N,E,_⟩:=hb;have o:=C.1;rcases Ld c with rfl|⟨r,s,rfl⟩
  .rw[o] at N;exact absurd rfl N
  .rw[Le] at o |-
   rw[o,JM.Hz] at E;simp only[LV,Nat.not_lt,Nat.le_zero_eq] at E;obtain⟨D,X⟩:=s;obtain rfl:X=[]:=Mi E;exact⟨r,D,rfl⟩
 | false =>
  simp only[Lc,MN];obtain⟨Q,i,T,a,B,b,K,V,R,G⟩:=Xd h C.1 (by omega);have q:J.last=c.length:=by rw[C.1];exact JM.GE _ _ _
  unfold JM.begin;rw[T];cases Q with
  | some x=>exact⟨some x,J,i,c,rfl,a.more (by omega),rfl,B,b.room,b.part,fun g a=>.inr (b.ids▸a),b.Hx,K,fun _=>rfl,fun e=>by cases e⟩
  | none =>
   have l:=G rfl;have m:f∉i.ids:=by rw[b.ids];exact S
   simp only;rw[q];have z:∀ r d,(i.born (ze zi (c.length+1)) f r d).Hx=M.Hx:=fun r d=>by
    rw[<- b.Hx];have I:∀ e∈i.dir,e.2≠f:=fun e F x=>m (x▸a.bd.Gc e F);show((i.dir++[(ze zi (c.length+1),f)]).map fun e=>(if e.2=f then(⟨[],0⟩:FM) else i.file e.2).bytes.length).sum=_;rw[ML,Is];simp only[Mf,LC,Ly,List.sum_nil,MP,ME,Jc];unfold DM.Hx;refine LH List.sum (MX fun e F=>?_);rw[Ma (I e F)]
   have y:∀ g,g∈f::i.ids->g=f\/g∈M.ids:=fun g a=>by
    rw[Mr,b.ids] at a;exact a
   rcases QR a.bd (by omega) (OA _) a.Hs.none f with⟨u,v⟩|⟨d,u,v⟩|⟨u,v⟩
   .rw[u]
    simp only[MP];refine⟨none,_,_,_,rfl,a.born l f m i.refused i.dead (by omega) (by omega),?_,B.trans (Ans.ok v rfl rfl rfl),b.room,b.part,fun g a=>y g a,z _ _,(by intro e;cases e),(fun h=>absurd rfl h),fun _=>⟨⟨?_,fun e=>by cases e⟩,rfl,c,[],rfl⟩⟩
    .rw[zY];simp[zc]
    .simp only[JM.Hz,zX,zx]
     simp
   .rw[u]
    simp only[show ¬(9:Int)=0 by decide,MN];exact⟨_,_,_,c,rfl,(a.no d).more (by omega),rfl,B.trans (Ans.no v rfl rfl),b.room,b.part,fun g a=>.inr (b.ids▸a),b.Hx,(by intro e;cases e),fun _=>rfl,fun e=>by cases e⟩
   .rw[u]
    simp only[show ¬(9:Int)=0 by decide,MN];refine⟨_,_,_,_,rfl,a.born l f m (i.refused+1) true (by omega) (by omega),?_,B.trans (Ans.no v rfl rfl),b.room,b.part,fun g a=>y g a,z _ _,(by intro e;cases e),fun _=>rfl,fun e=>by cases e⟩;rw[zY];simp[zc]
theorem OH{J:JM}{M:DM}{ss:List Seg}{p t:Nat}(h:Lg M ss p t)(hj:Jl J M ss)(ht:t+3<=1000000000)(x:Fact)(hx:ZT x)(c2:(zj x).size<=2000)(a9:(((zc ss++[x])).foldl SM.enter SM.nil).hints.length<=32)(f:Nat)(hf:f∉M.ids) :
 ∃ wh e J' Q a6,J.append M (zj x) f=(wh,e,J',Q)/\Lg Q a6 p (t+3)/\zc a6=zc ss++(if wh=true then [x] else [])/\Ans M Q e/\Q.room=M.room/\Q.part=M.part/\(∀ g∈Q.ids,g=f\/g∈M.ids)/\Q.Hx<=M.Hx+(zj x).size/\(e=some 10->M.room<M.Hx+(zj x).size) /\
  (e=none->wh=true/\Jl J' Q a6/\J'.Hq=J.Hq/\M.calls<Q.calls):=by
 obtain⟨e1,C,q,s1,e,hg,a8,ha,Y,X,V,c3,b7,_,b6⟩:=VZ h hj (by omega) (zj x).size f hf;unfold JM.append;rw[e];cases e1 with
 | some n=>exact⟨false,some n,C,q,s1,rfl,hg.more (by omega),by simp[a8],ha,Y,X,V,by omega,fun e=>absurd e b7,fun e=>by cases e⟩
 | none =>
  obtain⟨hL,b1,o,B,rfl⟩:=b6 rfl;simp only;obtain⟨d,g,hd,b4,a5,c1,hv⟩:=hg.Hs.last;have F:=hL.1;rw[JM.Hz] at F;have s:C.name=ze zi (o.length+1):=by rw[F]
  have v:C.size=(zx B).length:=by rw[F];simp[zX]
  have K:C.Gk=false:=by rw[F];simp
  have G:C.last=o.length+1:=by rw[F]
  have a2:q.dir.look C.name=some g:=by rw[s];exact a5
  have a0:(zj x).data.toList.length=(zj x).size:=by rw[LJ];rfl
  have E:(q.file g).bytes=zx B:=by rw[b4];simp[zX]
  obtain⟨D,k,r,u,N,ea,hk,j⟩:=Na hg.bd (by omega) a2 (zj x);have z:C.has (q.put g ((zj x).data.toList.take k) r u N) (C.size+(zj x).size)=decide (k=(zj x).size):=by
   unfold JM.has DM.size;rw[show(q.put g ((zj x).data.toList.take k) r u N).dir=q.dir from rfl,a2];simp only[ZV,MP,E,NQ,NT,a0];rw[v,show((0:Int)==0)=true from rfl,ID,MU hk];by_cases e:k=(zj x).size
   .rw[IB e,beq_iff_eq];omega
   .rw[Jv e,MI];omega
  have b0:=(hg.ok (B,[]) (by simp)).1;have a1:zc o++B=zc ss:=by rw[<- a8,zY];simp[zc]
  have a3:((zj x).data.toList.take k).length<=2000:=by rw[NT];omega
  have m:q.refused<=r/\r<=q.refused+1/\q.IZ<=u/\u-q.IZ<=r-q.refused:=by
   rcases j with⟨_,_,a,b,_⟩|⟨a,⟨_,b,_⟩|⟨_,b,_⟩⟩ <;> subst a b <;> refine⟨by omega,by omega,by omega,by omega⟩
  have L:(q.put g ((zj x).data.toList.take k) r u N).Hx<=M.Hx+(zj x).size:=by
   have h1:=Nb hg.bd g ((zj x).data.toList.take k) r u N;rw[NT] at h1;omega
  have c:Ans M (q.put g ((zj x).data.toList.take k) r u N) (Zy D):=by
   refine ha.trans ?_;rcases j with⟨rfl,_,rfl,rfl,rfl,b8⟩|⟨rfl,⟨rfl,rfl,b9⟩|⟨rfl,rfl,rfl,_⟩⟩
   .exact Ans.ok b8 rfl rfl rfl
   .exact Ans.no b9 rfl rfl
   .exact⟨.inr ⟨rfl,.inr ⟨rfl,rfl,rfl⟩⟩,rfl,rfl,Int.le_of_lt (Int.lt_succ _),(fun e=>by cases e),(fun e=>by cases e)⟩
  have a7:D=10->M.room<M.Hx+(zj x).size:=fun R=>by
   rcases j with⟨a,_⟩|⟨_,⟨a,_⟩|⟨_,_,_,_,c0⟩⟩
   .rw[a] at R;cases R
   .rw[a] at R;cases R
   .omega
  have b2:D=0->k=(zj x).size:=fun e0=>by
   rcases j with⟨_,a,_⟩|⟨_,⟨a,_⟩|⟨a,_⟩⟩
   .exact a
   .rw[a] at e0;cases e0
   .rw[a] at e0;cases e0
  unfold JM.Ga;rw[ea];simp only;by_cases l:k=(zj x).size
  .have I:Wj (B++[x],[]):=⟨fun y hy=>by
    rcases Mc.1 hy with hy|hy
    .exact b0 y hy
    .rw[NW] at hy;subst hy;exact hx,SP⟩
   have A:zc (o++[(B++[x],[])])=zc ss++[x]:=by
    rw[zY,<- a1];simp[zc]
   have T:Lg (q.put g ((zj x).data.toList.take k) r u N) (o++[(B++[x],[])]) p (t+3):=hg.put a5 _ a3 r u N m.1 m.2.1 m.2.2.1 m.2.2.2 (by
    rw[E,l,<- a0,Mz];simp only[zX,MB,Vf]) I (fun n=>Qd B [x] n) (fun i=>by
     rw[A];by_cases hi:i<=(zc ss).length
     .rw[MF hi];exact h.Gw i
     .rw[Mj (by simp;omega)];exact a9)
   have b3:Jl {C with size:=C.size+(zj x).size} (q.put g ((zj x).data.toList.take k) r u N) (o++[(B++[x],[])]):=by
    refine⟨?_,fun b5=>hL.2 b5⟩;rw[JM.Hz];obtain⟨jl,c4,jn,js,jt,jd⟩:=C;simp only at s v K G |-;subst s v K G;simp[zX,Vf,a0]
   rw[IB l] at z;by_cases S:D=0
   .rw[Mg S]
    rw[S] at c;exact⟨true,none,_,_,_,rfl,T,by rw[Mg rfl];exact A,c,Y,X,V,L,(by intro e;cases e),fun _=>⟨rfl,b3,b1,Int.lt_add_one_of_le ha.2.le⟩⟩
   .rw[Ma S,Mg z]
    have a4:Zy D=some D:=by unfold Zy;rw[Ma S]
    rw[a4] at c;exact⟨true,some D,_,_,_,rfl,T,by rw[Mg rfl];exact A,c,Y,X,V,L,fun e=>a7 (Mp e),fun e=>by cases e⟩
  .have S:¬D=0:=fun S=>l (b2 S)
   rw[Jv l] at z;have a4:Zy D=some D:=by unfold Zy;rw[Ma S]
   rw[a4] at c;have I:Wj (B,(zj x).data.toList.take k):=⟨b0,zl x,by rw[Wf];exact Jp _ _,fun e=>by
    have:=LH List.length e;rw[NT,<- Wf,a0] at this;omega,hx.2⟩
   have A:zc (o++[(B,(zj x).data.toList.take k)])=zc ss:=by
    rw[zY,<- a1];simp[zc]
   have T:Lg (q.put g ((zj x).data.toList.take k) r u N) (o++[(B,(zj x).data.toList.take k)]) p (t+3):=hg.put a5 _ a3 r u N m.1 m.2.1 m.2.2.1 m.2.2.2 (by
    rw[E];rfl) I (fun n=>NS _) (by rw[A];exact h.Gw)
   rw[Ma S,Ma (by rw[z];decide)];exact⟨false,some D,_,_,_,rfl,T,by simp[A],c,Y,X,V,L,fun e=>a7 (Mp e),fun e=>by cases e⟩
theorem PR{J:JM}{M:DM}{c:List Seg}{p t:Nat}(h:Lg M c p t)(l:Jl J M c)(L:t+2<=1000000000) :
 ∃ e s k,J.Hg M=(e,s,k)/\Lg k c p (t+2)/\Ans M k e/\Alike M k/\e≠some 10/\s.Hq=J.Hq/\(e=none->Jl s k c/\Lg k c (zc c).length (t+2)):=by
 obtain⟨E,i,K,f,r,b,o,q,m,B⟩:=Xd h l.1 (by omega);unfold JM.Hg;rw[K];cases E with
 | some x =>
  rw[Ma (by rintro⟨a,_⟩;cases a)];exact⟨some x,J,i,rfl,f.more (by omega),r,b,o,rfl,fun e=>by cases e⟩
 | none =>
  have g:=B rfl;by_cases y:J.last≠0/\J.Hb=false
  .rw[Mg ⟨rfl,y⟩]
   unfold JM.He;rcases RN f.bd (by omega) with⟨u,j⟩|⟨d,u,j⟩
   .simp only[u]
    refine⟨none,_,i.GG,rfl,f.GG f.Hy,r.trans (Ans.ok j rfl rfl rfl),⟨b.dir,b.ids,b.room,b.part,b.Hx⟩,(by intro e;cases e),rfl,fun _=>⟨⟨?_,fun _=>⟨rfl,rfl⟩⟩,f.GG (by rw[g.lft f.Hs];exact NS _)⟩⟩;have C:=l.1;show({J with Hb:=_}:JM)=JM.at J.Hq c _;rw[<- JM.Fv J.Hq c J.Hb,<- C]
   .simp only[u]
    exact⟨some 9,_,i.no d,rfl,f.no d,r.trans (Ans.no j rfl rfl),⟨b.dir,b.ids,b.room,b.part,b.Hx⟩,(by intro e;cases e),rfl,fun e=>by cases e⟩
  .rw[Ma (fun x=>y x.2)]
   refine⟨none,J,i,rfl,f.more (by omega),r,b,o,rfl,fun _=>⟨⟨l.1,fun z=>by rw[q,m,b.dir];exact l.2 z⟩,?_⟩⟩;by_cases I:J.last=0
   .have hnil:c=[]:=by
     have:J.last=c.length:=by rw[l.1];exact JM.GE _ _ _
     exact Mi (by omega)
    subst hnil;exact {f.more (show t+1<=t+2 by omega) with GI:=fun D v=>Me _}
   .have hds:J.Hb=true:=by
     cases z:J.Hb with
     | true=>rfl
     | false=>exact absurd ⟨I,z⟩ y
    obtain⟨F,G⟩:=l.2 hds;have A:∀ D∈i.safe::i.IW,(zc c).length<=lft i c D.length:=fun D v=>by
     rw[q,m,F,G,NW] at v;subst v;rw[<- b.dir,g.lft f.Hs];exact NS _
    exact {f.more (show t+1<=t+2 by omega) with GI:=A}
def atF(F:List Fact)(q:Nat):SM:=(F.take q).foldl SM.enter SM.nil
theorem Nf(F:List Fact):atF F F.length=F.foldl SM.enter SM.nil:=by unfold atF;rw[Mz]
theorem Ym{F G:List Fact}{q:Nat}(h:q<=F.length):atF (F++G) q=atF F q:=by unfold atF;rw[MF h]
theorem Yf(F:List Fact)(x:Fact):atF (F++[x]) (F.length+1)=(atF F F.length).enter x:=by
 unfold atF;rw[Mj (by simp),Mz,Lj]
 rfl
structure Kp(N:NM)(M:DM)(F:List Fact)(p t:Nat)(Fl:Prop):Prop where
 lg:∃ ss,Lg M ss p t/\zc ss=F/\(Fl->Jl N.J M ss)
 held:N.S=atF F F.length
theorem Kp.mono{N:NM}{M:DM}{F:List Fact}{p t u:Nat}{P Q:Prop}(h:Kp N M F p t P)(f:Q->P)(o:t<=u):Kp N M F p u Q:=by
 obtain⟨⟨r,a,c,e⟩,g⟩:=h;exact⟨⟨r,a.more o,c,fun q=>e (f q)⟩,g⟩
theorem Kp.le{N:NM}{M:DM}{F:List Fact}{p t:Nat}{P:Prop}(h:Kp N M F p t P):p<=F.length:=by
 obtain⟨⟨e,a,b,c⟩,d⟩:=h;rw[<- b];exact a.GF
theorem Kp.Gw{N:NM}{M:DM}{F:List Fact}{p t:Nat}{P:Prop}(h:Kp N M F p t P)(i:Nat):(atF F i).hints.length<=32:=by
 obtain⟨⟨e,a,b,c⟩,d⟩:=h;rw[<- b];exact a.Gw i
structure Went(M:DM)(P:Nat->Prop)(n:Nat)(e:Option Int)(N':NM)(M':DM)(F':List Fact)(p' t':Nat):Prop where
 kp:Kp N' M' F' p' t' (e=none)
 Gf:Ans M M' e
 room:M'.room=M.room
 ids:∀ g∈M'.ids,P g\/g∈M.ids
 Hx:M'.Hx<=M.Hx+n
 full:e=some 10->M.room<M.Hx+n
theorem Went.trans{o q r:DM}{P Q R:Nat->Prop}{n k m:Nat}{e:Option Int}{A s:NM}{z l:List Fact}{E t F y:Nat}(h:Went o P n none A q z E F)(a:Went q Q k e s r l t y)(C:∀ g,P g->R g)(D:∀ g,Q g->R g)(I:n+k<=m):Went o R m e s r l t y where
 kp:=a.kp
 Gf:=h.Gf.trans a.Gf
 room:=a.room.trans h.room
 ids:=fun g B=>(a.ids g B).elim (fun x=>.inl (D g x)) (fun x=>(h.ids g x).imp (C g) id)
 Hx:=by have:=h.Hx;have:=a.Hx;omega
 full:=fun c=>by have G:=a.full c;have:=h.Hx;have:=h.room;omega
theorem Went.more{M:DM}{P Q:Nat->Prop}{n m:Nat}{e:Option Int}{d:NM}{c:DM}{b:List Fact}{f i u:Nat}(h:Went M P n e d c b f i)(k:∀ g,P g->Q g)(o:n<=m)(l:i<=u):Went M Q m e d c b f u :=
 ⟨h.kp.mono id l,h.Gf,h.room,fun g j=>(h.ids g j).imp (k g) id,by have:=h.Hx;omega,fun a=>by have:=h.full a;omega⟩
theorem Went.self{N:NM}{M:DM}{F:List Fact}{p t:Nat}(h:Kp N M F p t True)(P:Nat->Prop):Went M P 0 none N M F p t :=
 ⟨h.mono (fun _=>trivial) (NS _),Ans.refl M,rfl,fun _ a=>.inr a,NS _,fun e=>by cases e⟩
theorem Qf{N:NM}{M:DM}{F:List Fact}{p t:Nat}(h:Kp N M F p t True)(G:t+3<=1000000000)(x:Fact)(I:ZT x)(r:(zj x).size<=2000)(y:(N.S.enter x).hints.length<=32)(f:Nat)(C:f∉M.ids) :
 ∃ e b i j c,N.write M x f=(e,{N with J:=i,S:=j},c)/\Went M (·=f) (zj x).size e {N with J:=i,S:=j} c (F++if b=true then [x] else []) p (t+3)/\(e=none->b=true)/\j=(if b=true then N.S.enter x else N.S)/\(e=none->M.calls<c.calls):=by
 obtain⟨⟨J,A,rfl,B⟩,v⟩:=h;rw[v] at y;obtain⟨b,e,i,c,u,z,D,l,g,q,E,o,s,k,a⟩:=OH A (B trivial) G x I r (by rw[Lj,<- Nf];exact y) f C;refine⟨e,b,i,_,c,?_,⟨⟨⟨u,D,l,fun d=>(a d).2.1⟩,?_⟩,g,q,o,s,k⟩,fun d=>(a d).1,rfl,fun d=>(a d).2.2.2⟩
 .unfold NM.write
  rw[z]
 .show(if b=true then N.S.enter x else N.S)=_
  rw[v];split
  .rw[NQ,NU,Yf]
  .rw[MB]
theorem U0{N:NM}{M:DM}{F:List Fact}{p t:Nat}(h:Kp N M F p t True)(A:t+2<=1000000000) :
 ∃ e f i o,N.sync M=(e,{N with J:=f},i)/\Went M (fun _=>False) 0 e {N with J:=f} i F o (t+2)/\p<=o/\e≠some 10/\(e=none->o=F.length):=by
 obtain⟨⟨x,q,rfl,z⟩,r⟩:=h;obtain⟨e,f,i,y,k,c,j,d,v,l⟩:=PR q (z trivial) A;have s:N.sync M=(e,{N with J:=f},i):=by unfold NM.sync;rw[y]
 cases e with
 | none =>
  obtain⟨a,b⟩:=l rfl;exact⟨none,f,i,_,s,⟨⟨⟨x,b,rfl,fun _=>a⟩,r⟩,c,j.room,fun g k=>.inr (j.ids▸k),JD j.Hx,fun e=>by cases e⟩,q.GF,d,fun _=>rfl⟩
 | some n=>exact⟨some n,f,i,p,s,⟨⟨⟨x,k,rfl,fun e=>by cases e⟩,r⟩,c,j.room,fun g k=>.inr (j.ids▸k),JD j.Hx,fun e=>absurd e d⟩,NS _,d,fun e=>by cases e⟩
def NM.due(N:NM):Bool:=!(decide (N.every=0)||decide (N.writes+1<N.every))
theorem PS{N:NM}{M:DM}{F:List Fact}{p t:Nat}(h:Kp N M F p t True)(l:t+2<=1000000000) :
 ∃ e b c wr a,N.counted M=(e,{N with J:=b,writes:=wr},c)/\Went M (fun _=>False) 0 e {N with J:=b,writes:=wr} c F a (t+2)/\p<=a/\wr=(if N.due=true then 0 else N.writes+1)/\(e=none->N.due=true->a=F.length):=by
 unfold NM.counted NM.due;by_cases f:N.every=0\/N.writes+1<N.every
 .rw[Mg f]
  refine⟨none,N.J,M,N.writes+1,p,rfl,(Went.self (N:={N with writes:=N.writes+1}) ⟨h.lg,h.held⟩ _).more (fun _ e=>e) (NS _) (by omega),NS _,?_,fun _ e=>?_⟩
  .rw[Ma];simp;omega
  .exfalso;simp at e;omega
 .rw[Ma f]
  obtain⟨e,b,c,a,i,m,k,j,d⟩:=U0 (N:={N with writes:=0}) ⟨h.lg,h.held⟩ l;refine⟨e,b,c,0,a,i,m,k,?_,fun g _=>d g⟩;rw[Mg];simp;omega
theorem R0{N:NM}{M:DM}{F:List Fact}{p t:Nat}(h:Kp N M F p t True)(Y:t+5<=1000000000)(x:Fact)(V:ZT x)(l:(zj x).size<=2000)(T:(N.S.enter x).hints.length<=32)(f:Nat)(S:f∉M.ids) :
 ∃ e c v g wr d r,N.change M x f=(e,{N with J:=v,S:=g,writes:=wr},d)/\Went M (·=f) (zj x).size e {N with J:=v,S:=g,writes:=wr} d (F++if c=true then [x] else []) r (t+5)/\p<=r/\(e=none->c=true)/\g=(if c=true then N.S.enter x else N.S) /\
  (e=none->wr=(if N.due=true then 0 else N.writes+1)/\(N.due=true->r=F.length+1))/\wr<=N.writes+1/\(e=none->M.calls<d.calls):=by
 obtain⟨G,c,y,i,C,J,s,q,z,j⟩:=Qf h (by omega) x V l T f S;unfold NM.change;rw[J];cases G with
 | some n=>exact⟨some n,c,y,i,N.writes,C,p,rfl,s.more (fun _ e=>e) (NS _) (by omega),NS _,(fun e=>by cases e),z,(fun e=>by cases e),Ls _,(fun e=>by cases e)⟩
 | none =>
  have o:=q rfl;subst o;obtain⟨I,B,D,wr,X,K,A,k,b,a⟩:=PS (N:={N with J:=y,S:=i}) (s.kp.mono (fun _=>rfl) (NS _)) (by omega);refine⟨I,true,B,i,wr,D,X,K,s.trans A (fun _ e=>e) (fun _ e=>absurd e id) (NS _),k,fun _=>rfl,z,fun E=>⟨b,fun L=>?_⟩,?_,fun _=>Int.lt_of_lt_of_le (j rfl) A.Gf.2.le⟩
  .have:=a E L
   rw[Mg rfl,NQ,NU] at this;exact this
  .rw[b];show(if N.due=true then 0 else N.writes+1)<=_;split <;> omega
def Leas(F:List Fact)(p g:Nat):Prop:=∀ q,p<=q->q<=F.length->g<=(atF F q).IQ
theorem U1{n:Nat}(h:n<1000000000000):(zj (.inl n)).size<=100:=by
 show(zk (XM n)).size<=100;rw[YN];unfold XM;have b:=zr (n:=1) (by decide);have c:=zr (n:=n) (by omega);have a:=Wg (zg 1++zg n) (by rw[NQ];omega);rw[NQ] at a;omega
theorem PT{N:NM}{M:DM}{F:List Fact}{p t:Nat}(h:Kp N M F p t True)(ht:t+5<=1000000000)(hg:N.given<100000000000)(V:N.given<=N.S.IQ)(S:N.given<N.S.IQ->Leas F p N.S.IQ)(f:Nat)(T:f∉M.ids) :
 ∃ e y d C A v,N.next M f=(e,(if e=none then N.given+1 else 0),{N with J:=y,S:=d,given:=if e=none then N.given+1 else N.given},C)/\Went M (·=f) 100 e {N with J:=y,S:=d,given:=if e=none then N.given+1 else N.given} C (F++A) v (t+5)/\p<=v /\
  (A=[]/\d=N.S\/A=[.inl (N.given+16)]/\d={N.S with IQ:=N.given+16}/\¬N.given<N.S.IQ)/\(e=none->N.given+1<=d.IQ/\Leas (F++A) v d.IQ):=by
 unfold NM.next;by_cases b:N.given<N.S.IQ
 .rw[Mg b]
  refine⟨none,N.J,N.S,M,[],p,rfl,?_,NS _,.inl ⟨rfl,rfl⟩,fun _=>⟨b,by rw[MB];exact S b⟩⟩;rw[MB];exact(Went.self (N:={N with given:=N.given+1}) ⟨h.lg,h.held⟩ _).more (fun _ e=>e) (Me _) (by omega)
 .rw[Ma b]
  have j:=U1 (n:=N.given+16) (by omega);obtain⟨I,x,z,c,G,K,l,s,k,_⟩:=Qf h (by omega) (.inl (N.given+16)) (SQ (by omega)) (by omega) (by show N.S.hints.length<=32;rw[h.held];exact h.Gw _) f T;unfold NM.Hk;rw[K];have g:(if x=true then [.inl (N.given+16)] else []:List Fact)=[]/\c=N.S\/(if x=true then [.inl (N.given+16)] else []:List Fact)=[.inl (N.given+16)]/\c={N.S with IQ:=N.given+16}/\¬N.given<N.S.IQ:=by
   rw[k];cases x with
   | true=>exact .inr ⟨rfl,rfl,b⟩
   | false=>exact .inl ⟨rfl,rfl⟩
  cases I with
  | some n=>exact⟨some n,z,c,G,_,p,rfl,l.more (fun _ e=>e) j (by omega),NS _,g,fun e=>by cases e⟩
  | none =>
   have r:=s rfl;subst r;simp only[MP] at k l |-;clear g;have g:([.inl (N.given+16)]:List Fact)=[]/\c=N.S\/([.inl (N.given+16)]:List Fact)=[.inl (N.given+16)]/\c={N.S with IQ:=N.given+16}/\¬N.given<N.S.IQ:=.inr ⟨rfl,k,b⟩;obtain⟨J,B,D,E,L,w2,i,X,o⟩:=U0 (N:={N with J:=z,S:=c}) (l.kp.mono (fun _=>rfl) (NS _)) (by omega);have a:=l.trans (R:=(·=f)) (m:=100) w2 (fun _ e=>e) (fun _ e=>absurd e id) (by omega);simp only[L];cases J with
   | some n=>exact⟨some n,B,c,D,_,E,rfl,a,i,g,fun e=>by cases e⟩
   | none =>
    refine⟨none,B,c,D,_,E,rfl,⟨⟨a.kp.lg,a.kp.held⟩,a.Gf,a.room,a.ids,a.Hx,a.full⟩,i,g,fun _=>⟨?_,fun q h1 h2=>?_⟩⟩
    .rw[k];exact Nat.add_le_add_left (by decide) _
    .have:=o rfl
     have Y:q=(F++[(.inl (N.given+16):Fact)]).length:=by omega
     rw[Y,<- a.kp.held];exact NS _
theorem UK{N:NM}{M:DM}{F:List Fact}{p t:Nat}(h:Kp N M F p t True)(ht:t+10<=1000000000)(a3:N.given<100000000000)(G:N.given<=N.S.IQ)(hL:N.given<N.S.IQ->Leas F p N.S.IQ)(a7:N.readOnly=false)(a:ByteArray)(vs:NM->Nat->List Ver)(l:List Ver)(f g:Nat)(hf:f∉M.ids)(hg:g∉M.ids)(ha:Apart2 N M f g)
 (hv:∀ i:NM,i.S.keys=N.S.keys->i.self=N.self->vs i (N.given+1)=l)(hx:ZT (.inr (.inl (a,l))))(a9:(zj (.inr (.inl (a,l)))).size<=1900) :
 ∃ e J' y z wr V A B S,N.replace M a vs f g=((if e=none then N.given+1 else 0),zT e,{N with J:=J',S:=y,given:=z,writes:=wr,readOnly:=e.isSome},V)/\Went M (fun k=>k=f\/k=g) 2000 e {N with J:=J',S:=y,given:=z,writes:=wr,readOnly:=e.isSome} V (F++A++B) S (t+10)/\p<=S /\
  (A=[]\/A=[.inl (N.given+16)]/\¬N.given<N.S.IQ)/\(B=[]/\e≠none\/B=[.inr (.inl (a,l))]/\z=N.given+1/\N.given+1<=y.IQ/\Leas (F++A++B) S y.IQ) /\
  (e=none->wr=(if N.due=true then 0 else N.writes+1)/\(N.due=true->S=(F++A++B).length))/\wr<=N.writes+1/\N.given<=z/\z<=N.given+1/\y.hints=N.S.hints/\z<=y.IQ/\(e=none->M.calls<V.calls):=by
 obtain⟨e1,T,o,M1,A,p1,ea,v,J,hA,hn⟩:=PT h (by omega) a3 G hL f hf;have E:A=[]\/A=[.inl (N.given+16)]/\¬N.given<N.S.IQ:=hA.imp (fun x=>x.1) (fun x=>⟨x.1,x.2.2⟩);have b:o.hints=N.S.hints/\o.keys=N.S.keys:=by
  rcases hA with⟨_,e⟩|⟨_,e,_⟩
  .rw[e];exact⟨rfl,rfl⟩
  .rw[e];exact⟨rfl,rfl⟩
 unfold NM.replace;rw[ea];cases e1 with
 | some n =>
  refine⟨some n,T,o,N.given,N.writes,M1,A,[],p1,?_,?_,J,E,.inl ⟨rfl,fun e=>by cases e⟩,(fun e=>by cases e),Ls _,NS _,Ls _,b.1,?_,(fun e=>by cases e)⟩
  .simp[NM.Gf,zT]
  .rw[MB]
   have:=v.more (Q:=fun k=>k=f\/k=g) (m:=2000) (u:=t+10) (fun _ e=>.inl e) (by omega) (by omega);exact⟨⟨this.kp.lg,this.kp.held⟩,this.Gf,this.room,this.ids,this.Hx,this.full⟩
  .rcases hA with⟨_,e⟩|⟨_,e,_⟩
   .rw[e];exact G
   .rw[e];exact Nat.le_add_right _ _
 | none =>
  simp only[MP] at v |-;obtain⟨I,a5⟩:=hn rfl;have a2:g∉M1.ids:=fun hm=>by
   rcases v.ids g hm with e|e
   .subst e
    have:=ha rfl;rw[ea] at this;exact this hm
   .exact hg e
  have hl:=hv {N with J:=T,S:=o,given:=N.given+1} b.2 rfl;rw[hl];obtain⟨X,L,J2,C,wr,M2,p2,eb,w2,a6,K,s,r,a8,a1⟩:=R0 (N:={N with J:=T,S:=o,given:=N.given+1}) (v.kp.mono (fun _=>rfl) (NS _)) (by omega) (.inr (.inl (a,l))) hx (by omega) (by show(SM.holds _ _ _).hints.length<=32;rw[XG,b.1,h.held];exact h.Gw _) g a2;have c:=v.trans (R:=fun k=>k=f\/k=g) (m:=2000) w2 (fun _ e=>.inl e) (fun _ e=>.inr e) (by omega);have hk:=c.kp;have j:C.IQ=o.IQ:=by
   rw[s];split
   .exact ZU _ _ _
   .rfl
  have a4:C.hints=N.S.hints:=by
   rw[s];split
   .show(SM.holds _ _ _).hints=_;rw[XG];exact b.1
   .exact b.1
  have hB:(if L=true then [.inr (.inl (a,l))] else []:List Fact)=[]/\X≠none\/(if L=true then [.inr (.inl (a,l))] else []:List Fact)=[.inr (.inl (a,l))]/\N.given+1=N.given+1/\N.given+1<=C.IQ/\Leas (F++A++if L=true then [.inr (.inl (a,l))] else []) p2 C.IQ:=by
   cases L with
   | false=>exact .inl ⟨rfl,fun e=>by have:=K e;cases this⟩
   | true =>
    refine .inr ⟨rfl,rfl,by rw[j];exact I,fun q h1 h2=>?_⟩;simp only[MP] at h2 s |-;rw[NQ,NU] at h2;by_cases hq:q<=(F++A).length
    .rw[Ym hq,j]
     exact a5 q (by omega) hq
    .have e:q=(F++A).length+1:=by omega
     rw[e,Yf];have Y:o=atF (F++A) (F++A).length:=v.kp.held;rw[<- Y,j];show o.IQ<=(SM.holds _ _ _).IQ;rw[ZU];exact NS _
  have a0:∀ i d (x:Fact),NM.asked i d x g=(zT (i.change d x g).1,(i.change d x g).2.1.Gf (i.change d x g).1,(i.change d x g).2.2):=fun _ _ _=>rfl;rw[a0,eb];refine⟨X,J2,C,N.given+1,wr,M2,A,if L=true then [.inr (.inl (a,l))] else [],p2,?_,⟨⟨hk.lg,hk.held⟩,c.Gf,c.room,c.ids,c.Hx,c.full⟩,NR J a6,E,hB,fun D=>⟨(r D).1,fun hd=>?_⟩,a8,Ls _,NS _,a4,by rw[j];exact I,fun D=>Int.lt_of_le_of_lt v.Gf.2.le (a1 D)⟩
  .cases X with
   | none=>simp[NM.Gf,zT,a7]
   | some n=>simp[NM.Gf,zT]
  .have Y:=(r D).2 hd
   rw[K D,Mg rfl,NQ,NU];exact Y
theorem Ng{N:NM}{M:DM}{F:List Fact}{p t:Nat}(h:Kp N M F p t True)(E:t+5<=1000000000)(q:N.readOnly=false)(x:Fact)(G:ZT x)(i:(zj x).size<=2000)(D:(N.S.enter x).hints.length<=32)(f:Nat)(A:f∉M.ids) :
 ∃ e l c wr d B k,N.asked M x f=(zT e,{N with J:=l,S:=c,writes:=wr,readOnly:=e.isSome},d)/\Went M (·=f) 2000 e {N with J:=l,S:=c,writes:=wr,readOnly:=e.isSome} d (F++B) k (t+5)/\p<=k/\(B=[]/\e≠none/\c=N.S\/B=[x]/\c=N.S.enter x) /\
  (e=none->wr=(if N.due=true then 0 else N.writes+1)/\(N.due=true->k=(F++B).length))/\wr<=N.writes+1/\(e=none->M.calls<d.calls):=by
 obtain⟨e,s,l,c,wr,d,k,v,w,C,j,y,a,r,o⟩:=R0 h E x G i D f A;have b:=w.more (Q:=(·=f)) (m:=2000) (u:=t+5) (fun _ e=>e) i (NS _);unfold NM.asked;rw[v];refine⟨e,l,c,wr,d,if s=true then [x] else [],k,?_,⟨⟨b.kp.lg,b.kp.held⟩,b.Gf,b.room,b.ids,b.Hx,b.full⟩,C,?_,fun g=>⟨(a g).1,fun z=>?_⟩,r,o⟩
 .cases e with
  | none=>simp[NM.Gf,zT,q]
  | some n=>simp[NM.Gf,zT]
 .rw[y]
  cases s with
  | false=>exact .inl ⟨rfl,(fun g=>by have:=j g;cases this),rfl⟩
  | true=>exact .inr ⟨rfl,rfl⟩
 .rw[j g,Mg rfl,NQ,NU]
  exact(a g).2 z
theorem UL:((Tryz.prog.info? 152).map fun i=>(i.zero.map (·.cells.size),i.size,i.bytes))=some (some 2,2,32):=by kernel_rfl
theorem OI(w:World)(f:Nat):(binOp .neq 146 (.pointer (some ⟨f,0,none⟩)) (.pointer (some ⟨f,0,none⟩))).run Tryz.prog w=.ok (.bool false) w:=by
 obtain⟨i,z,a,_⟩:=Zr UL;have h:∀ d:Nat,(Op.equalIn (d+1) 146 (.pointer (some ⟨f,0,none⟩)) (.pointer (some ⟨f,0,none⟩))).run Tryz.prog w=.ok true w:=fun d=>by
  simp[Op.equalIn,run_underlying Tryz.underlying146,sizeOf,typeInfo,a,run_sameAddr_same]
 simp only[binOp];simp[Op.equal,Op.maxDepth,h 9999]
theorem PU{w:World}{f g:Nat}{c k:List Value}(l:Blk w f c 152)(m:Blk w g k 152)(b:f≠g) :
 (binOp .neq 146 (.pointer (some ⟨f,0,none⟩)) (.pointer (some ⟨g,0,none⟩))).run Tryz.prog w=.ok (.bool true) w:=by
 obtain⟨i,z,o,_,q,_⟩:=Zr UL;have j:i.size≠0:=by omega
 have a:(⟨f,0,none⟩:Addr)≠⟨g,0,none⟩:=fun e=>b (LH Addr.block e);have h:∀ d:Nat,(Op.equalIn (d+1) 146 (.pointer (some ⟨f,0,none⟩)) (.pointer (some ⟨g,0,none⟩))).run Tryz.prog w=.ok false w:=fun d=>by
  simp[Op.equalIn,run_underlying Tryz.underlying146,sizeOf,typeInfo,o,j,run_sameAddr_other w a l m]
 simp only[binOp];simp[Op.equal,Op.maxDepth,h 9999]
structure Zt(w0 w:World)(bo bm:Nat)(M:DM)(ps0:List (Nat × Nat))(vo0 vm0:Value)(d:Dir)(k:Nat)(l:Value)(w':World):Prop where
 ex:∃ ps vo vm fV d',Twin w0 w' bo bm M (ps.map Prod.fst) ps vo vm fV/\(∀ p,p∈ps0->p∈ps)/\ps.length<=ps0.length+k/\d'.length=k /\
  (∀ i (h1:i<d.length)(h2:i<d'.length),d'[i].1=d[i].1/\(d[i].2,d'[i].2)∈ps)/\w'.ownsRow 0 148 2 l k (flat d') /\
  (∀ j,vo.ownBlock=some j->vo0.ownBlock=some j\/w.heap.size<=j)/\(∀ j,vm.ownBlock=some j->vm0.ownBlock=some j\/w.heap.size<=j)
 new:∀ j,l.ownBlock=some j->w.heap.size<=j
 fr:Fr (fun j=>j=bo\/j=bm\/vo0.ownBlock=some j\/vm0.ownBlock=some j) w w'
theorem Twin.Gz{d w t:World}{i g:Nat}{M:DM}{m:List Nat}{o:List (Nat × Nat)}{r q l:Value}{j:Nat->Value}{n:Nat}{z:List Value}(h:Twin d w i g M m o r q j)
 (b:w.ownsRow 0 148 2 l n z)(y:∀ k,l.ownBlock=some k->d.heap.size<=k)(f:Fr (fun k=>l.ownBlock=some k) w t) :
 Twin d t i g M m o r q j :=
 {h with
  co:=h.co.fr f (zf b h.co (by decide))
  cm:=h.cm.fr f (zf b h.cm (by decide))
  old:=za h.old f (fun _ a e=>zN b h.old (by decide) e a)
  made:=za h.made f (fun _ a e=>zN b h.made (by decide) e a)
  files:=fun p c=>(h.files p c).fr f (zf b (h.files p c) (by decide))
  rows:=fun p c=>za (h.rows p c) f (fun _ a e=>zN b (h.rows p c) (by decide) e a)
  fr:=Fr.trans' h.fr f (fun k u a=>absurd (y k a) (by omega))}
theorem Zt.step{A w W L N:World}{C B:Nat}{M:DM}{o f:List (Nat × Nat)}{r q K J l X:Value}{Q:Nat->Value}{d b:Dir}{k g:Nat}(hk:k<d.length)(Y:Fr Nil A w)
 (T:Twin A W C B M (f.map Prod.fst) f K J Q)(x:∀ p,p∈o->p∈f)(E:f.length<=o.length+(k+1))(s:b.length=k)
 (F:∀ i (R:i<d.length)(V:i<b.length),b[i].1=d[i].1/\(d[i].2,b[i].2)∈f)(u:W.ownsRow 0 148 2 l k (flat b))(a:∀ j,l.ownBlock=some j->w.heap.size<=j)
 (I:∀ j,K.ownBlock=some j->r.ownBlock=some j\/w.heap.size<=j)(G:∀ j,J.ownBlock=some j->q.ownBlock=some j\/w.heap.size<=j)
 (t:Fr (fun j=>j=C\/j=B\/r.ownBlock=some j\/q.ownBlock=some j) w W)(hg:(d[k].2,g)∈f)(y:Fr Nil W L)
 (z:App L l 148 2 (k+1) (flat b++[.string d[k].1,.pointer (some ⟨g,0,none⟩)]) X N) :
 Zt A w C B M o r q d (k+1) X N:=by
 have a1:=Y.size;have a3:=t.size;have a2:=y.size;have D:∀ j,l.ownBlock=some j->A.heap.size<=j:=fun j c=>by have:=a j c;omega
 refine⟨⟨f,K,J,Q,b++[(d[k].1,g)],(T.Gx y).Gz (za u y (fun _ _=>id)) D z.fr,x,E,by simp[s],?_,?_,I,G⟩,?_,?_⟩
 .intro i R V
  by_cases e:i<b.length
  .rw[MG e]
   exact F i R e
  .have e':i=k:=by simp at V;omega
   subst e';rw[List.getElem_append_right (by omega)];simp only[s,IL,LG];exact⟨trivial,hg⟩
 .have e:flat (b++[(d[k].1,g)])=flat b++[.string d[k].1,.pointer (some ⟨g,0,none⟩)]:=by simp[flat]
  rw[e];exact z.own
 .intro j c
  rcases z.at_ with e|e
  .exact a j (by rw[<- e];exact c)
  .rw[e] at c;simp at c;omega
 .refine Fr.trans' (t.trans (y.mono (fun _ _=>False.elim))) z.fr ?_
  intro j a0 c;have:=a j c;omega
theorem Twin.born{C j a y:World}{z l f:Nat}{M:DM}{i:List (Nat × Nat)}{B u t:Value}{A:Nat->Value}{c:Option Addr}{d:Nat}(T:Twin C j z l M (i.map Prod.fst++[f]) i B u A)(q:Fr Nil j a)
 (m:App j.drew (.slice none 0 0) 5 1 (0+(M.file f).bytes.length) ([]++u8s (M.file f).bytes) (.slice c (0+(M.file f).bytes.length) d) a)
 (v:App ((a.alloc (.cells #[.slice c (M.file f).bytes.length d,.int .i64 (M.file f).safe] 152)).alloc (.cells #[.pointer (some ⟨a.heap.size,0,none⟩)] 146)) u 146 1 (i.length+1)
   (ptrs (i.map Prod.snd)++[.pointer (some ⟨a.heap.size,0,none⟩)]) t y) :
 Twin C (y.setCell ⟨l,0,none⟩ t) z l M ((i++[(f,a.heap.size)]).map Prod.fst) (i++[(f,a.heap.size)]) B t (fun g=>if g=a.heap.size then .slice c (M.file f).bytes.length d else A g) /\
  Fr (fun k=>k=l\/u.ownBlock=some k) j (y.setCell ⟨l,0,none⟩ t)/\(∀ k,t.ownBlock=some k->u.ownBlock=some k\/j.heap.size<=k):=by
 have b:=m.own;simp only[MD,LB] at b;have o:=m.at_;simp only[MD] at o;have x:=(Blk.new a [.slice c (M.file f).bytes.length d,.int .i64 (M.file f).safe] 152).alloc (.cells #[.pointer (some ⟨a.heap.size,0,none⟩)] 146);have s:((a.alloc (.cells #[.slice c (M.file f).bytes.length d,.int .i64 (M.file f).safe] 152)).alloc (.cells #[.pointer (some ⟨a.heap.size,0,none⟩)] 146)).ownsRow 0 5 1 (.slice c (M.file f).bytes.length d) (M.file f).bytes.length (u8s (M.file f).bytes) :=
  (b.alloc _).alloc _
 have h:=T.GZ (v8:=.slice c (M.file f).bytes.length d) ((q.alloc _).alloc _) s (by
  intro k r;rcases o with e|e
  .rw[e] at r;simp[Value.ownBlock] at r
  .rw[e] at r;simp at r;rw[<- r];exact NS _) x q.size v
 rw[ML];exact h
theorem Zt.Fh{B w X N C y Q R:World}{A z J:Nat}{M:DM}{a x:List (Nat × Nat)}{g f L K T V l S:Value}{D:Nat->Value}{d h:Dir}{k:Nat}(hk:k<d.length)(h0:Fr Nil B w)
 (b:Zt B w A z M a g f d k l X)(r:∀ p,p∈a->p∈x)(a0:x.length<=a.length+k)(G:h.length=k)
 (q:∀ i (E:i<d.length)(F:i<h.length),h[i].1=d[i].1/\(d[i].2,h[i].2)∈x)
 (u:∀ j,L.ownBlock=some j->g.ownBlock=some j\/w.heap.size<=j)(s:∀ j,K.ownBlock=some j->f.ownBlock=some j\/w.heap.size<=j)
 (m:Fr Nil X N)(o:Fr (fun j=>j=A\/L.ownBlock=some j) N C)(v:∀ j,T.ownBlock=some j->L.ownBlock=some j\/N.heap.size<=j)
 (Y:Twin B y A z M ((x++[(d[k].2,J)]).map Prod.fst) (x++[(d[k].2,J)]) T V D)(I:Fr (fun j=>j=z\/K.ownBlock=some j) C y)(t:∀ j,V.ownBlock=some j->K.ownBlock=some j\/C.heap.size<=j)
 (c:y.ownsRow 0 148 2 l k (flat h))(f1:Fr Nil y Q)
 (ha:App Q l 148 2 (k+1) (flat h++[.string d[k].1,.pointer (some ⟨J,0,none⟩)]) S R) :
 Zt B w A z M a g f d (k+1) S R:=by
 have s1:=b.fr.size;have s2:=m.size;have s3:=o.size;refine Zt.step hk h0 Y (fun p hp=>Jt _ (r p hp)) (by simp;omega) G (fun i E F=>⟨(q i E F).1,Jt _ (q i E F).2⟩) c b.new ?_ ?_ ?_ (by simp) f1 ha
 .intro j hj
  rcases v j hj with e|e
  .exact u j e
  .exact .inr (by omega)
 .intro j hj
  rcases t j hj with e|e
  .exact s j e
  .exact .inr (by omega)
 .refine Fr.trans' (Fr.trans' (b.fr.trans (m.mono (fun _ _=>False.elim))) o ?_) I ?_
  .intro j hlt hj
   rcases hj with e|e
   .exact .inl e
   .rcases u j e with e'|e'
    .exact .inr (.inr (.inl e'))
    .omega
  .intro j hlt hj
   rcases hj with e|e
   .exact .inr (.inl e)
   .rcases s j e with e'|e'
    .exact .inr (.inr (.inr e'))
    .omega
theorem OJ{A t b y:World}{d c:Nat}{M:DM}{C o:List Nat}{D q:List (Nat × Nat)}{z r s l:Value}{B f:Nat->Value}{n:Nat}{u:List Value}(v:Twin A t d c M C D z r B)
 (x:Twin A b d c M o q s r f)(m:t.ownsRow 0 148 2 l n u)(h:Fr (fun j=>j=d\/z.ownBlock=some j) t b)(i:Fr (fun j=>j=c\/r.ownBlock=some j) b y) :
 y.ownsRow 0 148 2 l n u:=by
 have g:b.ownsRow 0 148 2 l n u:=za m h (fun k a e=>by
  rcases e with e|e
  .subst e;exact zf m v.co (by decide) a
  .exact zN v.old m (by decide) e a)
 exact za g i (fun k a e=>by
  rcases e with e|e
  .subst e;exact zf g x.cm (by decide) a
  .exact zN x.made g (by decide) e a)
theorem OK{s a m:World}{r o g:Nat}{M:DM}{h:List Nat}{i:List (Nat × Nat)}{q k:Value}{b:Nat->Value}{c:List Value}
 (l:Twin s a r o M h i k q b)(d:Blk a g c 148)(f:Fr (fun j=>j=o\/q.ownBlock=some j) a m):Blk m g c 148 :=
 d.fr f (fun e=>by
  rcases e with e|e
  .exact d.ne l.cm (by decide) e
  .exact zf l.made d (by decide) e)
structure Own(w0 w:World)(b:Nat)(L:DL)(M:DM):Prop where
 Hl:DRep w b L M
 fr:Fr Nil w0 w
 new:∀ k,Foot b L M k->w0.heap.size<=k
theorem Vv:∀(l m:List Nat),l.Nodup->(∀ x,x∈l->x∈m)->l.length<=m.length
 | [],_,_,_=>by simp
 | x::l,m,a,c=>by
  have d:x∈m:=c x (NY ..);rw[Kl] at a;have:=Vv l (m.erase x) a.2 (fun y g=>by
   have b:=c y (NX _ g);exact(List.mem_erase_of_ne (fun e:y=x=>a.1 (by rw[<- e];exact g))).2 b)
  have e:=List.length_erase_of_mem d;have h:0<m.length:=List.length_pos_of_mem d;simp only[Mh];omega
structure Rel(ps:List (Nat × Nat))(d d':Dir):Prop where
 len:d'.length=d.length
 at_:∀ i (h1:i<d.length) (h2:i<d'.length),d'[i].1=d[i].1/\(d[i].2,d'[i].2)∈ps
theorem Rel.more{f a:List (Nat × Nat)}{d b:Dir}(h:Rel f d b)(g:∀ p,p∈f->p∈a):Rel a d b :=
 ⟨h.len,fun i c e=>⟨(h.at_ i c e).1,g _ (h.at_ i c e).2⟩⟩
def second(a:List (Nat × Nat))(f:Nat):Nat:=((a.find? fun p=>p.1==f).map Prod.snd).getD 0
def first(a:List (Nat × Nat))(g:Nat):Nat:=((a.find? fun p=>p.2==g).map Prod.fst).getD 0
theorem WU:∀{a:List (Nat × Nat)}{f g:Nat},(a.map Prod.fst).Nodup->(f,g)∈a->second a f=g
 | [],_,_,_,h=>by cases h
 | p::a,f,g,b,h=>by
  rw[Mf,Kl] at b;rcases Mr.1 h with e|c
  .subst e;simp[second]
  .have hne:(p.1==f)=false:=by
    rw[MI];intro e;exact b.1 (by rw[e];exact Mt.2 ⟨_,c,rfl⟩)
   have:=WU b.2 c;unfold second at this |-;rw[List.find?_cons,hne];exact this
theorem Wn:∀{a:List (Nat × Nat)}{f g:Nat},(a.map Prod.snd).Nodup->(f,g)∈a->first a g=f
 | [],_,_,_,h=>by cases h
 | p::a,f,g,b,h=>by
  rw[Mf,Kl] at b;rcases Mr.1 h with e|c
  .subst e;simp[first]
  .have hne:(p.2==g)=false:=by
    rw[MI];intro e;exact b.1 (by rw[e];exact Mt.2 ⟨_,c,rfl⟩)
   have:=Wn b.2 c;unfold first at this |-
   rw[List.find?_cons,hne];exact this
def zE(a:List (Nat × Nat))(d:Dir):Dir:=d.map fun e=>(e.1,second a e.2)
theorem Rel.eq{a:List (Nat × Nat)}{d b:Dir}(k:(a.map Prod.fst).Nodup)(h:Rel a d b):b=zE a d:=by
 refine KS (by rw[h.len];simp[zE]) ?_;intro i c l;have j:i<d.length:=by rw[<- h.len];exact c
 obtain⟨e,f⟩:=h.at_ i j c;have g:=WU k f;simp only[zE,MT,g];exact Prod.ext e rfl
theorem Rel.mem{c:List (Nat × Nat)}{d a:Dir}(h:Rel c d a):∀ e,e∈a->∃ p,p∈c/\p.2=e.2:=by
 intro e g;obtain⟨i,b,rfl⟩:=La.1 g;have f:i<d.length:=by rw[<- h.len];exact b
 exact⟨_,(h.at_ i f b).2,rfl⟩
def DM.HQ(M:DM)(a:List (Nat × Nat)):DM :=
 {M with dir:=zE a M.dir,safe:=zE a M.safe,IW:=M.IW.map (zE a),file:=fun g=>M.file (first a g),ids:=a.map Prod.snd}
structure zw(w0 w:World)(bo bm nb:Nat)(M:DM)(D S:Dir)(k:Nat)(ps:List (Nat × Nat))(vo vm:Value)(fV:Nat->Value)(L:DL)(d1 s1:Dir)(c1:List Dir):Prop where
 T:Twin w0 w bo bm M (ps.map Prod.fst) ps vo vm fV
 IR:Blk w nb (M.cells L) 143
 fFS:w0.heap.size<=nb
 dir:w.ownsRow 0 148 2 L.Hm d1.length (flat d1)
 safe:w.ownsRow 0 148 2 L.Hf s1.length (flat s1)
 ch:w.ownsRow 0 145 1 L.Gm k L.Hj
 Gj:L.Hj.length=k
 cl:c1.length=k
 IW:∀ i (h1:i<L.Hj.length) (h2:i<c1.length),w.ownsRow 0 148 2 L.Hj[i] c1[i].length (flat c1[i])
 rd:Rel ps D d1
 rs:Rel ps S s1
 rc:∀ i (h1:i<c1.length) (h2:i<M.IW.length),Rel ps M.IW[i] c1[i]
 nd:∀ j,L.Hm.ownBlock=some j->w0.heap.size<=j
 ns:∀ j,L.Hf.ownBlock=some j->w0.heap.size<=j
 nc:∀ j,L.Gm.ownBlock=some j->w0.heap.size<=j
 Ea:∀ i (h1:i<L.Hj.length) j,L.Hj[i].ownBlock=some j->w0.heap.size<=j
theorem zw.Gx{r w q:World}{b a g:Nat}{M:DM}{D S:Dir}{k:Nat}{j:List (Nat × Nat)}{o m:Value}{e:Nat->Value}{L:DL}{d l:Dir}{c:List Dir}
 (h:zw r w b a g M D S k j o m e L d l c)(f:Fr Nil w q):zw r q b a g M D S k j o m e L d l c :=
 {h with
  T:=h.T.Gx f
  IR:=h.IR.fr f id
  dir:=za h.dir f (fun _ _=>id)
  safe:=za h.safe f (fun _ _=>id)
  ch:=za h.ch f (fun _ _=>id)
  IW:=fun i s t=>za (h.IW i s t) f (fun _ _=>id)}
theorem YP{s w m:World}{d c:Nat}{M:DM}{q:List Nat}{r:List (Nat × Nat)}{l i:Value}{p:Nat->Value}{e:TypeId}{size n:Nat}{v:Value}{o:List Value}(T:Twin s w d c M q r l i p)
 (f:Fr (fun j=>j=d\/j=c\/l.ownBlock=some j\/i.ownBlock=some j) w m)(a:w.ownsRow 0 e size v n o)(g:e≠168)(h:e≠146):m.ownsRow 0 e size v n o :=
 za a f (fun k b e=>by
  rcases e with e|e|e|e
  .subst e;exact zf a T.co (JB g) b
  .subst e;exact zf a T.cm (JB g) b
  .exact zN T.old a (JB h) e b
  .exact zN T.made a (JB h) e b)
theorem UM{r w m:World}{d b g:Nat}{M:DM}{p:List Nat}{q:List (Nat × Nat)}{l k:Value}{o:Nat->Value}{e:TypeId}{c:List Value}(T:Twin r w d b M p q l k o)
 (f:Fr (fun j=>j=d\/j=b\/l.ownBlock=some j\/k.ownBlock=some j) w m)(a:Blk w g c e)(h:e≠168)(i:e≠146):Blk m g c e :=
 a.fr f (fun e=>by
  rcases e with e|e|e|e
  .exact a.ne T.co h e
  .exact a.ne T.cm h e
  .exact zf T.old a i e
  .exact zf T.made a i e)
structure Qg(w0 w w':World)(bo bm nb:Nat)(M:DM)(D S:Dir)(k:Nat)(ps:List (Nat × Nat))(L:DL)(d1 s1:Dir)(c1:List Dir)(d:Dir)(l:Value):Prop where
 ex:∃ ps' vo' vm' fV' d',zw w0 w' bo bm nb M D S k ps' vo' vm' fV' L d1 s1 c1/\(∀ p,p∈ps->p∈ps')/\Rel ps' d d'/\w'.ownsRow 0 148 2 l d'.length (flat d') /\
  (∀ j,l.ownBlock=some j->w0.heap.size<=j)
 IR:∀ (g:Nat) (c:List Value) (e:TypeId),Blk w g c e->e≠168->e≠146->Blk w' g c e
 row:∀ (v:Value) (n size:Nat) (xs:List Value) (e:TypeId),w.ownsRow 0 e size v n xs->e≠168->e≠146->w'.ownsRow 0 e size v n xs
theorem zw.other{t w C:World}{c b y:Nat}{M:DM}{D S:Dir}{k:Nat}{m:List (Nat × Nat)}{B A l:Value}{G:Nat->Value}{L:DL}{v z d:Dir}{u:List Dir}
 (h:zw t w c b y M D S k m B A G L v z u)(o:Zt t w c b M m B A d d.length l C):Qg t w C c b y M D S k m L v z u d l:=by
 obtain⟨q,s,r,e,F,E,a,_,x,N,K,_,_⟩:=o.ex;have R:=h.T.fr.size;refine⟨⟨q,s,r,e,F,?_,a,⟨x,N⟩,by rw[x];exact K,fun j J=>NR R (o.new j J)⟩,fun _ _ _ I=>UM h.T o.fr I,fun _ _ _ _ _ Q=>YP h.T o.fr Q⟩;exact {h with
  T:=E
  IR:=UM h.T o.fr h.IR (by decide) (by decide)
  dir:=YP h.T o.fr h.dir (by decide) (by decide)
  safe:=YP h.T o.fr h.safe (by decide) (by decide)
  ch:=YP h.T o.fr h.ch (by decide) (by decide)
  IW:=fun i f g=>YP h.T o.fr (h.IW i f g) (by decide) (by decide)
  rd:=h.rd.more a
  rs:=h.rs.more a
  rc:=fun i f g=>(h.rc i f g).more a}
theorem zw.Gz{r w o:World}{R Q z:Nat}{M:DM}{D S N S':Dir}{k y:Nat}{u:List (Nat × Nat)}{Y X:Value}{T:Nat->Value}{L b:DL}{d1 s1 d m:Dir}{c1 a:List Dir}
 (h:zw r w R Q z M D S k u Y X T L d1 s1 c1)(f:Fr (fun j=>j=z\/L.Gm.ownBlock=some j) w o)
 (C:Blk o z (M.cells b) 143)
 (dir:o.ownsRow 0 148 2 b.Hm d.length (flat d))
 (safe:o.ownsRow 0 148 2 b.Hf m.length (flat m))
 (ch:o.ownsRow 0 145 1 b.Gm y b.Hj)
 (E:b.Hj.length=y)
 (cl:a.length=y)
 (F:∀ i (q:i<b.Hj.length)(t:i<a.length),o.ownsRow 0 148 2 b.Hj[i] a[i].length (flat a[i]))
 (rd:Rel u N d)
 (rs:Rel u S' m)
 (rc:∀ i (q:i<a.length)(t:i<M.IW.length),Rel u M.IW[i] a[i])
 (nd:∀ j,b.Hm.ownBlock=some j->r.heap.size<=j)
 (ns:∀ j,b.Hf.ownBlock=some j->r.heap.size<=j)
 (nc:∀ j,b.Gm.ownBlock=some j->r.heap.size<=j)
 (K:∀ i (q:i<b.Hj.length) j,b.Hj[i].ownBlock=some j->r.heap.size<=j):zw r o R Q z M N S' y u Y X T b d m a where
 T:=by
  have A:∀ {g:Nat} {c:List Value} {e:TypeId},Blk w g c e->e≠143->e≠145->Blk o g c e:=fun G q t=>G.fr f (fun e=>by
   rcases e with e|e
   .exact G.ne h.IR q e
   .exact zf h.ch G t e)
  have B:∀ {v:Value} {n size:Nat} {xs:List Value} {e:TypeId},w.ownsRow 0 e size v n xs->e≠143->e≠145->o.ownsRow 0 e size v n xs:=fun J q t=>za J f (fun k V e=>by
   rcases e with e|e
   .subst e;exact zf J h.IR (JB q) V
   .exact zN h.ch J (JB t) e V)
  exact {h.T with
   co:=A h.T.co (by decide) (by decide)
   cm:=A h.T.cm (by decide) (by decide)
   old:=B h.T.old (by decide) (by decide)
   made:=B h.T.made (by decide) (by decide)
   files:=fun p I=>A (h.T.files p I) (by decide) (by decide)
   rows:=fun p I=>B (h.T.rows p I) (by decide) (by decide)
   fr:=Fr.trans' h.T.fr f (fun j a0 hj=>by
    rcases hj with e|e
    .have:=h.fFS;omega
    .have:=h.nc j e;omega)}
 IR:=C
 fFS:=h.fFS
 dir:=dir
 safe:=safe
 ch:=ch
 Gj:=E
 cl:=cl
 IW:=F
 rd:=rd
 rs:=rs
 rc:=rc
 nd:=nd
 ns:=ns
 nc:=nc
 Ea:=K
theorem zw.lists{q w o:World}{y x c:Nat}{M:DM}{D S t u:Dir}{d:List (Nat × Nat)}{C B l m:Value}{z:Nat->Value}{L:DL}{F R b g:Dir}
 (h:zw q w y x c M D S 0 d C B z L F R [])(f:Fr (fun j=>j=c) w o)(G:Blk o c (M.cells {L with Hm:=l,Hf:=m}) 143)
 (a:w.ownsRow 0 148 2 l b.length (flat b))(s:w.ownsRow 0 148 2 m g.length (flat g))(N:Rel d t b)(Q:Rel d u g)
 (J:∀ j,l.ownBlock=some j->q.heap.size<=j)(K:∀ j,m.ownBlock=some j->q.heap.size<=j) :
 zw q o y x c M t u 0 d C B z {L with Hm:=l,Hf:=m} b g []:=by
 have r:∀ {v:Value} {n size:Nat} {E:List Value} {e:TypeId},w.ownsRow 0 e size v n E->e≠143->o.ownsRow 0 e size v n E:=fun A a=>za A f (fun k I e=>by
  subst e;exact zf A h.IR (JB a) I)
 refine h.Gz (f.mono (fun _ _=>.inl)) G (r a (by decide)) (r s (by decide)) (r h.ch (by decide)) h.Gj rfl (fun i a s=>absurd s (MA _)) N Q (fun i a=>absurd a (MA _)) J K h.nc h.Ea
theorem zw.push{I w A o:World}{K J a:Nat}{M:DM}{D S:Dir}{k:Nat}{C:List (Nat × Nat)}{V T l f:Value}{R:Nat->Value}{L:DL}{N E b:Dir}{d:List Dir}(t:k<M.IW.length)
 (h:zw I w K J a M D S k C V T R L N E d)(Q:Fr Nil w A)(q:App A L.Gm 145 1 (k+1) (L.Hj++[l]) f o)
 (Y:w.ownsRow 0 148 2 l b.length (flat b))(hr:Rel C M.IW[k] b)(hn:∀ j,l.ownBlock=some j->I.heap.size<=j) :
 zw I (o.setCell ⟨a,2,none⟩ f) K J a M D S (k+1) C V T R {L with Gm:=f,Hj:=L.Hj++[l]} N E (d++[b]):=by
 have c:=h.Gx Q;have E:=c.T.fr.size;have r:Blk o a (M.cells L) 143:=c.IR.fr q.fr (zf c.ch c.IR (by decide));have y:Fr (fun k=>k=a) o (o.setCell ⟨a,2,none⟩ f):=Fr.set (S:=fun k=>k=a) (p:=⟨a,2,none⟩) (O _ _) (fun _=>rfl) f;have s:Fr (fun k=>k=a\/L.Gm.ownBlock=some k) A (o.setCell ⟨a,2,none⟩ f) :=
  (q.fr.mono (fun _ _=>.inr)).trans (y.mono (fun _ _=>.inl))
 have z:∀ {v:Value} {n size:Nat} {X:List Value},A.ownsRow 0 148 size v n X->(o.setCell ⟨a,2,none⟩ f).ownsRow 0 148 size v n X:=fun B=>za B s (fun k t e=>by
  rcases e with e|e
  .subst e;exact zf B c.IR (by decide) t
  .exact zN c.ch B (by decide) e t)
 have x:(L.Hj++[l]).length=k+1:=by simp[h.Gj]
 refine c.Gz s (r.set 2 f) (z c.dir) (z c.safe) ?_ x (by simp[h.cl]) ?_ h.rd h.rs ?_ h.nd h.ns ?_ ?_
 .exact za q.own y (fun k t e=>by subst e;exact zf q.own r (by decide) t)
 .intro i i1 i2
  simp only[NQ,Mh,ME] at i1 i2;by_cases e:i<k
  .have g:(L.Hj++[l])[i]=L.Hj[i]'(by rw[h.Gj];exact e):=MG _
   have m:(d++[b])[i]=d[i]'(by rw[h.cl];exact e):=MG _;simp only[g,m];exact z (c.IW i _ _)
  .have hi:i=k:=by have:=h.Gj;omega
   have g:(L.Hj++[l])[i]=l:=by simp[h.Gj,hi]
   have m:(d++[b])[i]=b:=by simp[h.cl,hi]
   simp only[g,m];exact z (za Y Q (fun _ _=>id))
 .intro i i1 i2
  simp only[NQ,Mh,ME] at i1;by_cases e:i<k
  .have m:(d++[b])[i]=d[i]'(by rw[h.cl];exact e):=MG _
   simp only[m];exact h.rc i _ i2
  .have hi:i=k:=by have:=h.cl;omega
   subst hi;have m:(d++[b])[i]=b:=by simp[h.cl]
   simp only[m];exact hr
 .intro j hj
  rcases q.at_ with e|e
  .exact h.nc j (by rw[<- e];exact hj)
  .rw[e] at hj;simp at hj;omega
 .intro i i1 j hj
  simp only[NQ,Mh,ME] at i1;by_cases e:i<k
  .have g:(L.Hj++[l])[i]=L.Hj[i]'(by rw[h.Gj];exact e):=MG _
   simp only[g] at hj;exact h.Ea i _ j hj
  .have hi:i=k:=by have:=h.Gj;omega
   have g:(L.Hj++[l])[i]=l:=by simp[h.Gj,hi]
   simp only[g] at hj;exact hn j hj
theorem zw.whole{I w:World}{K J G:Nat}{M:DM}{m:List (Nat × Nat)}{V T:Value}{B:Nat->Value}{L:DL}{N S:Dir}{s:List Dir}
 (h:zw I w K J G M M.dir M.safe M.IW.length m V T B L N S s)(x:∀ f,f∈M.ids->(M.file f).safe<=(M.file f).bytes.length):Own I w G {L with fV:=B} (M.HQ m):=by
 have D:=h.rd.eq h.T.n1;have F:=h.rs.eq h.T.n1;have C:s=M.IW.map (zE m):=by
  refine KS (by rw[h.cl];simp) ?_;intro i r X;rw[MT];exact(h.rc i r (by rw[<- h.cl];exact r)).eq h.T.n1
 have a:∀ g,g∈m.map Prod.snd->∃ p,p∈m/\p.2=g/\first m g=p.1:=by
  intro g l;obtain⟨p,b,rfl⟩:=Mt.1 l;exact⟨p,b,rfl,Wn h.T.n2 b⟩
 have j:∀ {d A:Dir},Rel m d A->∀ e,e∈A->e.2∈m.map Prod.snd:=fun R e c=>by
  obtain⟨p,b,z⟩:=R.mem e c;exact Mt.2 ⟨p,b,z⟩
 refine⟨?_,h.T.fr,?_⟩
 .exact {
   IR:=h.IR
   dir:=by
    have:=h.dir;rw[D] at this;exact this
   safe:=by
    have:=h.safe;rw[F] at this;exact this
   ch:=by
    have e:(M.HQ m).IW.length=M.IW.length:=by simp[DM.HQ]
    rw[e];exact h.ch
   Gj:=by simp[DM.HQ,h.Gj]
   IW:=by
    have:=h.IW;rw[C] at this;exact this
   files:=fun g l=>by
    obtain⟨p,b,rfl,c⟩:=a g l;have:=h.T.files p b;simp only[DM.HQ,c];exact this
   rows:=fun g l=>by
    obtain⟨p,b,rfl,c⟩:=a g l;have:=h.T.rows p b;simp only[DM.HQ,c];exact this
   sep:=fun f u g l y k v=>by
    obtain⟨p,b,rfl,_⟩:=a f u;obtain⟨q,Q,rfl,_⟩:=a g l;exact h.T.sep p b q Q y k v
   le:=fun g l=>by
    obtain⟨p,b,rfl,c⟩:=a g l;simp only[DM.HQ,c];exact x _ (h.T.ids _ (MR b))
   Gc:=fun e c=>j h.rd e (by rw[D];exact c)
   GC:=fun e c=>j h.rs e (by rw[F];exact c)
   GB:=fun d t e c=>by
    have o:d∈s:=by rw[C];exact t
    obtain⟨i,E,rfl⟩:=La.1 o;exact j (h.rc i E (by rw[<- h.cl];exact E)) e c}
 .intro k v
  cases v using Foot.elim with
  | blk=>exact h.fFS
  | dir e=>exact h.nd k e
  | safe e=>exact h.ns k e
  | ch e=>exact h.nc k e
  | chs i r e=>exact h.Ea i r k e
  | file e =>
   obtain⟨p,b,rfl⟩:=Mt.1 e;exact h.T.nf p b
  | row f u e =>
   obtain⟨p,b,rfl,_⟩:=a f u;exact h.T.nr p b k e
def R1(w:World)(M:DM)(e:Ending)(f:World):Prop :=
 ∃ b c a,e=.returned (.pointer (some ⟨b,0,none⟩))/\Own w f b c (M.HQ a)/\(a.map Prod.fst).Nodup/\(a.map Prod.snd).Nodup/\(∀ p,p∈a->p.1∈M.ids/\w.heap.size<=p.2) /\
  (∀ e,e∈M.dir\/e∈M.safe\/(∃ d,d∈M.IW/\e∈d)->∃ g,(e.2,g)∈a)
theorem Rel.Em{c:List (Nat × Nat)}{d a:Dir}(h:Rel c d a):∀ e,e∈d->∃ g,(e.2,g)∈c:=by
 intro e j;obtain⟨i,b,rfl⟩:=La.1 j;have f:i<a.length:=by rw[h.len];exact b
 exact⟨_,(h.at_ i b f).2⟩
theorem zw.said{k w:World}{m l c:Nat}{M:DM}{j:List (Nat × Nat)}{v u:Value}{r:Nat->Value}{L:DL}{q t:Dir}{o:List Dir}
 (h:zw k w m l c M M.dir M.safe M.IW.length j v u r L q t o)(b:∀ f,f∈M.ids->(M.file f).safe<=(M.file f).bytes.length):R1 k M (.returned (.pointer (some ⟨c,0,none⟩))) w:=by
 refine⟨c,_,j,rfl,h.whole b,h.T.n1,h.T.n2,fun p g=>⟨h.T.ids _ (MR g),h.T.nf p g⟩,?_⟩;intro e a;rcases a with a|a|⟨d,s,a⟩
 .exact h.rd.Em e a
 .exact h.rs.Em e a
 .obtain⟨i,hi,rfl⟩:=La.1 s
  exact(h.rc i (by rw[h.cl];exact hi) hi).Em e a
theorem Twin.start{w W:World}{d c:Nat}(M:DM)(j:Blk W d [.slice none 0 0] 168)(l:Blk W c [.slice none 0 0] 168)(e:d≠c)(h:w.heap.size<=d)(g:w.heap.size<=c)(f:Fr Nil w W)(i:Nat->Value) :
 Twin w W d c M [] [] (.slice none 0 0) (.slice none 0 0) i where
 co:=j
 cm:=l
 ne:=e
 old:=Mo W 0 _ _
 made:=Mo W 0 _ _
 GV:=fun k b=>by simp[Value.ownBlock] at b
 files:=fun p a=>by cases a
 rows:=fun p a=>by cases a
 sep:=fun p a=>by cases a
 n1:=Jh
 n2:=Jh
 ids:=fun f m=>by cases m
 nbo:=h
 nbm:=g
 no:=fun k b=>by simp[Value.ownBlock] at b
 nm:=fun k b=>by simp[Value.ownBlock] at b
 nf:=fun p a=>by cases a
 nr:=fun p a=>by cases a
 fr:=f
theorem zw.start{w W:World}{f e c:Nat}(M:DM)(T:Twin w W f e M [] [] (.slice none 0 0) (.slice none 0 0) DL.new.fV)(g:Blk W c (M.cells DL.new) 143)(d:w.heap.size<=c) :
 zw w W f e c M [] [] 0 [] (.slice none 0 0) (.slice none 0 0) DL.new.fV DL.new [] [] [] where
 T:=T
 IR:=g
 fFS:=d
 dir:=Mo W 0 _ _
 safe:=Mo W 0 _ _
 ch:=Mo W 0 _ _
 Gj:=rfl
 cl:=rfl
 IW:=fun i a=>absurd a (MA _)
 rd:=⟨rfl,fun i a=>absurd a (MA _)⟩
 rs:=⟨rfl,fun i a=>absurd a (MA _)⟩
 rc:=fun i a=>absurd a (MA _)
 nd:=fun j b=>by simp[DL.new,Value.ownBlock] at b
 ns:=fun j b=>by simp[DL.new,Value.ownBlock] at b
 nc:=fun j b=>by simp[DL.new,Value.ownBlock] at b
 Ea:=fun i a=>absurd a (MA _)
end Go.Proofs.YtkhnggkkiefcdaaGreatDoor
