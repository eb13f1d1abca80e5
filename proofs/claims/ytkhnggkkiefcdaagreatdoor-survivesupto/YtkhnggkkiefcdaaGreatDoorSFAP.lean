/- larder: joined texts -/
import Derived.Test.YtkhnggkkiefcdaaGreatDoorSFAE
import Derived.Test.YtkhnggkkiefcdaaGreatDoorSFAN
import Derived.Test.YtkhnggkkiefcdaaGreatDoorSFAO
import Derived.RangeFuncFrom
import Derived.Deep.RegionHeld3
import Derived.OrdersIn
namespace Go.Proofs.YtkhnggkkiefcdaaGreatDoor
open Go.RowKit
set_option maxRecDepth 100000
set_option maxHeartbeats 8000000
theorem NV{f n:Nat}(size:Nat->Nat):∀ l:List Nat,l.Nodup->(l.map fun g=>if g=f then size g+n else size g).sum<=(l.map size).sum+n
 | [],_=>by simp
 | a::l,h=>by
  simp only[Ed] at h;simp only[Ht,Fm];by_cases e:a=f
  .subst e
   have:(l.map fun g=>if g=a then size g+n else size g)=l.map size:=by
    apply GS
    intro x b;rw[IV (fun e=>h.1 (by rw[<- e];exact b))]
   rw[this,He rfl];omega
  .rw[IV e]
   have:=NV (f:=f) (n:=n) size l h.2;omega
theorem Kk{s b:Nat->Nat}:∀ l:List Nat,(∀ g∈l,b g<=s g)->(l.map b).sum<=(l.map s).sum
 | [],_=>IQ _
 | a::l,h=>by
  have d:=h a (Hf ..);have e:=Kk l (fun g c=>h g (Hb _ c));simp only[Ht,Fm];omega
theorem Ux(s:Nat->Nat):∀ (l m:List Nat),l.Nodup->(∀ x∈l,x∈m)->(l.map s).sum<=(m.map s).sum
 | [],m,_,_=>Hg _
 | a::l,m,h,hs=>by
  simp only[Ed] at h;obtain⟨d,e,rfl⟩:=List.append_of_mem (hs a (Hf ..));have:=Ux s l (d++e) h.2 (fun x c=>by
   have b:=hs x (Hb _ c);simp only[Hh,HY] at b |-;rcases b with b|b|b
   .exact .inl b
   .exact absurd (b▸c) h.1
   .exact .inr b)
  simp only[Gs,DF,Ht,Fm] at this |-;omega
def DM.all(M:DM):Nat:=(M.ids.map fun g=>(M.file g).bytes.length).sum
structure Bd(M:DM)(t:Nat):Prop where
 c0:0<=M.calls
 calls:M.calls<=t
 f0:0<=M.Bb
 fr:M.Bb<=M.refused
 rc:M.refused<=M.calls
 r0:0<=M.room
 r1:M.room<9223372036854775808
 part:0<=M.part
 all:M.all<=2000*t
 Aq:M.ids.Nodup
 AM:M.ids.length<=t
 BQ:∀ e∈M.dir,e.2∈M.ids
 once:(M.dir.map (·.2)).Nodup
 Bj:M.Bj.length<=t
 Bu:∀ d∈M.safe::M.Bj,d.length<=t
 dir:M.dir.length<=t
theorem Bd.more{M:DM}{t u:Nat}(h:Bd M t)(a:t<=u):Bd M u :=
 ⟨h.c0,by have:=h.calls;omega,h.f0,h.fr,h.rc,h.r0,h.r1,h.part,by have:=h.all;omega,h.Aq,IP h.AM a,h.BQ,h.once,IP h.Bj a,fun d b=>IP (h.Bu d b) a,IP h.dir a⟩
theorem DM.yM{M:DM}(a:(M.dir.map (·.2)).Nodup)(b:∀ e∈M.dir,e.2∈M.ids):M.BG<=M.all:=by
 have:=Ux (fun g=>(M.file g).bytes.length) (M.dir.map (·.2)) M.ids a (fun x d=>by
  obtain⟨e,c,rfl⟩:=Gc.1 d;exact b e c)
 rw[Ej] at this;exact this
theorem Bd.BG{M:DM}{t:Nat}(h:Bd M t):M.BG<=2000*t:=IP (DM.yM h.once h.BQ) h.all
theorem Bd.file{M:DM}{t:Nat}(h:Bd M t){g:Nat}(c:g∈M.ids):(M.file g).bytes.length<=2000*t:=by
 have:=Ux (fun g=>(M.file g).bytes.length) [g] M.ids (by simp) (fun x a=>by rw[IZ] at a;subst a;exact c);have b:=h.all;unfold DM.all at b;simp only[Ht,Fo,Fm,CU] at this;omega
def Ans(M a:DM)(e:Option Int):Prop :=
 (e=none/\a.refused=M.refused/\a.Bb=M.Bb/\a.dead=M.dead) \/
 (a.refused=M.refused+1/\((e=some 9/\a.Bb=M.Bb)\/(e=some 10/\a.Bb=M.Bb+1/\a.dead=M.dead)))
theorem Ans.refl(M:DM):Ans M M none:=.inl ⟨rfl,rfl,rfl,rfl⟩
theorem Ans.trans{g o r:DM}{e:Option Int}(h:Ans g o none)(k:Ans o r e):Ans g r e:=by
 rcases h with⟨_,a,b,c⟩|⟨_,⟨h,_⟩|⟨h,_⟩⟩
 .unfold Ans at k |-
  rw[a,b,c] at k;exact k
 .cases h
 .cases h
theorem Wr{M:DM}{t:Nat}(h:Bd M t)(l:t<=1000000000) :
 (M.CX=(true,0,{M with calls:=M.calls+1})/\M.dead=false)\/(∃ b d,M.CX=(b,9,{M with calls:=M.calls+1,refused:=M.refused+1,dead:=d})/\(b=true->d=true)/\(M.dead=true->d=true)):=by
 have f:=h.calls;have g:=h.c0;have i:=h.rc;have j:=h.fr;have k:=h.f0;have a:wrap64 (M.calls+1)=M.calls+1:=by unfold wrap64;omega
 have c:wrap64 (M.refused+1)=M.refused+1:=by unfold wrap64;omega
 unfold DM.CX;simp only[a,c];split
 .rename_i hd
  exact .inr ⟨false,true,by rw[<- hd],(fun e=>by cases e),fun _=>rfl⟩
 .rename_i hd
  simp only[Bool.not_eq_true] at hd;split
  .exact .inr ⟨true,true,rfl,fun _=>rfl,fun _=>rfl⟩
  .split
   .exact .inr ⟨false,false,by rw[<- hd],(fun e=>by cases e),fun e=>by rw[hd] at e;cases e⟩
   .exact .inl ⟨rfl,hd⟩
def DM.no(M:DM)(d:Bool):DM:={M with calls:=M.calls+1,refused:=M.refused+1,dead:=d}
theorem Bd.no{M:DM}{t:Nat}(h:Bd M t)(d:Bool):Bd (M.no d) (t+1) where
 c0:=by have:=h.c0;show 0<=M.calls+1;omega
 calls:=by have:=h.calls;show M.calls+1<=_;push_cast;omega
 f0:=h.f0
 fr:=by have:=h.fr;show M.Bb<=M.refused+1;omega
 rc:=by have:=h.rc;show M.refused+1<=M.calls+1;omega
 r0:=h.r0
 r1:=h.r1
 part:=h.part
 all:=by have:=h.all;show M.all<=_;omega
 Aq:=h.Aq
 AM:=Hs h.AM
 BQ:=h.BQ
 once:=h.once
 Bj:=Hs h.Bj
 Bu:=fun x a=>Hs (h.Bu x a)
 dir:=Hs h.dir
theorem Ans.no{M a:DM}{d:Bool}(h:a.refused=(M.no d).refused)(b:a.Bb=M.Bb):Ans M a (some 9):=.inr ⟨h,.inl ⟨rfl,b⟩⟩
def DM.yc(M:DM)(f:Nat):DM:={M with calls:=M.calls+1,file:=fun g=>if g=f then {M.file f with safe:=(M.file f).bytes.length} else M.file g}
theorem Xp(M:DM)(f g:Nat):((M.yc f).file g).bytes=(M.file g).bytes:=by
 show(if g=f then {M.file f with safe:=(M.file f).bytes.length} else M.file g:FM).bytes=_;split
 .rename_i e;subst e;rfl
 .rfl
theorem VC(M:DM)(f g:Nat):((M.yc f).file g).safe=if g=f then(M.file f).bytes.length else(M.file g).safe:=by
 show(if g=f then {M.file f with safe:=(M.file f).bytes.length} else M.file g:FM).safe=_;split <;> rfl
theorem Jm{M:DM}{t:Nat}(h:Bd M t)(i:t<=1000000000){a:ByteArray}{f:Nat}(g:M.dir.look a=some f) :
 (M.sync a=(0,M.yc f)/\M.dead=false)\/∃ d,M.sync a=(9,M.no d)/\(M.dead=true->d=true):=by
 unfold DM.sync;rw[g];rcases Wr h i with⟨e,c⟩|⟨b,d,e,_,c⟩
 .refine .inl ⟨?_,c⟩
  simp only[e,Gi]
  rfl
 .refine .inr ⟨d,?_,c⟩
  simp only[e]
  rfl
theorem Bd.yc{M:DM}{t:Nat}(h:Bd M t)(f:Nat):Bd (M.yc f) (t+1) where
 c0:=by have:=h.c0;show 0<=M.calls+1;omega
 calls:=by have:=h.calls;show M.calls+1<=_;push_cast;omega
 f0:=h.f0
 fr:=h.fr
 rc:=by have:=h.rc;show M.refused<=M.calls+1;omega
 r0:=h.r0
 r1:=h.r1
 part:=h.part
 all:=by
  have:=h.all;unfold DM.all at this |-;simp only[Xp];show(M.ids.map _).sum<=_;omega
 Aq:=h.Aq
 AM:=Hs h.AM
 BQ:=h.BQ
 once:=h.once
 Bj:=Hs h.Bj
 Bu:=fun x a=>Hs (h.Bu x a)
 dir:=Hs h.dir
theorem Ans.ok{M M':DM}(h:M'.refused=M.refused)(a:M'.Bb=M.Bb)(b:M'.dead=M.dead):Ans M M' none:=.inl ⟨rfl,h,a,b⟩
def DM.AF(M:DM):DM:={M with calls:=M.calls+1,safe:=M.dir,Bj:=[]}
theorem Nh{M:DM}{t:Nat}(h:Bd M t)(c:t<=1000000000) :
 (M.Bp=(0,M.AF)/\M.dead=false)\/∃ d,M.Bp=(9,M.no d)/\(M.dead=true->d=true):=by
 unfold DM.Bp;rcases Wr h c with⟨e,a⟩|⟨b,d,e,_,a⟩
 .refine .inl ⟨?_,a⟩
  simp only[e,Gi]
  rfl
 .refine .inr ⟨d,?_,a⟩
  simp only[e]
  rfl
theorem Bd.AF{M:DM}{t:Nat}(h:Bd M t):Bd M.AF (t+1) where
 c0:=by have:=h.c0;show 0<=M.calls+1;omega
 calls:=by have:=h.calls;show M.calls+1<=_;push_cast;omega
 f0:=h.f0
 fr:=h.fr
 rc:=by have:=h.rc;show M.refused<=M.calls+1;omega
 r0:=h.r0
 r1:=h.r1
 part:=h.part
 all:=by have:=h.all;show M.all<=_;omega
 Aq:=h.Aq
 AM:=Hs h.AM
 BQ:=h.BQ
 once:=h.once
 Bj:=Hg _
 Bu:=fun x a=>by
  rcases HY.1 a with e|e
  .rw[e];exact Hs h.dir
  .cases e
 dir:=Hs h.dir
def DM.born(M:DM)(a:ByteArray)(f:Nat)(r:Int)(d:Bool):DM:={M with calls:=M.calls+1,refused:=r,dead:=d,ids:=f::M.ids,file:=fun g=>if g=f then⟨[],0⟩ else M.file g,dir:=M.dir++[(a,f)],Bj:=M.Bj++[M.dir++[(a,f)]]}
theorem MS{M:DM}{t:Nat}(h:Bd M t)(k:t<=1000000000){a:ByteArray}(g:a≠ByteArray.empty)(j:M.dir.look a=none)(f:Nat) :
 (M.create a f=(0,M.born a f M.refused M.dead)/\M.dead=false)\/(∃ d,M.create a f=(9,M.no d)/\(M.dead=true->d=true))\/M.create a f=(9,M.born a f (M.refused+1) true):=by
 unfold DM.create;rw[IV (by rw[j];rintro(e|e);exact g e;cases e)];rcases Wr h k with⟨e,c⟩|⟨b,d,e,i,c⟩
 .refine .inl ⟨?_,c⟩
  simp only[e,Gi]
  rfl
 .cases b with
  | false =>
   refine .inr (.inl ⟨d,?_,c⟩);simp only[e]
   rfl
  | true =>
   refine .inr (.inr ?_);rw[i rfl] at e;simp only[e,Gi]
   rfl
theorem Bd.born{M:DM}{t:Nat}(h:Bd M t)(c:ByteArray)(f:Nat)(l:f∉M.ids)(r:Int)(d:Bool)(u:M.refused<=r)(v:r<=M.refused+1):Bd (M.born c f r d) (t+1) where
 c0:=by have:=h.c0;show 0<=M.calls+1;omega
 calls:=by have:=h.calls;show M.calls+1<=_;push_cast;omega
 f0:=h.f0
 fr:=by have:=h.fr;show M.Bb<=r;omega
 rc:=by have:=h.rc;show r<=M.calls+1;omega
 r0:=h.r0
 r1:=h.r1
 part:=h.part
 all:=by
  have:=h.all;have e:(M.born c f r d).all=M.all:=by
   show((f::M.ids).map fun g=>(if g=f then⟨[],0⟩ else M.file g:FM).bytes.length).sum=(M.ids.map fun g=>(M.file g).bytes.length).sum;rw[Ht,Fm,He rfl,Gt,Gg];refine GY List.sum (GS fun g s=>?_);rw[IV (fun e=>l (by rw[<- e];exact s))]
  rw[e];omega
 Aq:=Ed.2 ⟨l,h.Aq⟩
 AM:=Nat.succ_le_succ h.AM
 BQ:=fun e i=>by
  rcases Hh.1 i with i|i
  .exact Hb _ (h.BQ e i)
  .rw[IZ] at i;subst i;exact Hf ..
 once:=by
  show((M.dir++[(c,f)]).map (·.2)).Nodup;rw[Gs,FO];refine⟨h.once,by simp,fun a q b o e=>?_⟩;simp only[Ht,Fo,IZ] at o;obtain⟨x,m,rfl⟩:=Gc.1 q;exact l (by rw[<- o,<- e];exact h.BQ x m)
 Bj:=by show(M.Bj++[_]).length<=_;rw[IM,IU];have:=h.Bj;omega
 Bu:=fun x m=>by
  have k:=h.Bu x;have j:x∈M.safe::(M.Bj++[M.dir++[(c,f)]]):=m;simp only[HY,Hh,Ft,Dy] at j k;rcases j with e|e|e
  .exact Hs (k (.inl e))
  .exact Hs (k (.inr e))
  .rw[e,IM,IU];have:=h.dir;omega
 dir:=by show(M.dir++[_]).length<=_;rw[IM,IU];have:=h.dir;omega
def DM.put(M:DM)(f:Nat)(l:List UInt8)(r u:Int)(d:Bool):DM:={M with calls:=M.calls+1,refused:=r,Bb:=u,dead:=d,file:=fun g=>if g=f then {M.file f with bytes:=(M.file f).bytes++l} else M.file g}
theorem YM(M:DM)(f:Nat)(l:List UInt8)(r u:Int)(d:Bool)(g:Nat):((M.put f l r u d).file g).bytes=if g=f then(M.file f).bytes++l else(M.file g).bytes:=by
 show(if g=f then {M.file f with bytes:=(M.file f).bytes++l} else M.file g:FM).bytes=_;split <;> rfl
theorem Tc(M:DM)(f:Nat)(l:List UInt8)(r u:Int)(d:Bool)(g:Nat):((M.put f l r u d).file g).safe=(M.file g).safe:=by
 show(if g=f then {M.file f with bytes:=(M.file f).bytes++l} else M.file g:FM).safe=_;split
 .rename_i e;subst e;rfl
 .rfl
theorem Bd.left{M:DM}{t:Nat}(h:Bd M t)(i:t<=1000000000):M.left=if M.room<M.BG then 0 else M.room-M.BG:=by
 have c:=h.BG;have d:=h.r0;have g:=h.r1;have a:M.used=M.BG:=M.AK (by omega);have b:IntKind.i64.wrap (M.room-(M.BG:Int))=M.room-(M.BG:Int):=by rw[Hr];omega
 unfold DM.left;rw[a,b];by_cases e:M.room<M.BG
 .rw[He e,He (by omega)]
 .rw[IV e,IV (by omega)]
theorem JY{M:DM}{t:Nat}(h:Bd M t)(p:t<=1000000000){i:ByteArray}{f:Nat}(x:M.dir.look i=some f)(a:ByteArray) :
 ∃ e k r u d,M.add i a=(e,M.put f (a.data.toList.take k) r u d)/\k<=a.size /\
  ((e=0/\k=a.size/\r=M.refused/\u=M.Bb/\d=M.dead/\M.dead=false)\/(r=M.refused+1/\((e=9/\u=M.Bb/\(M.dead=true->d=true))\/(e=10/\u=M.Bb+1/\d=M.dead/\M.dead=false/\M.room<M.BG+a.size)))):=by
 have v:a.data.toList.length=a.size:=by rw[GR];rfl
 have o:∀ n:Nat,(a.extract 0 n).data.toList=a.data.toList.take n:=by
  intro n;rw[ByteArray.data_extract];simp
 have A:=h.rc;have B:=h.fr;have C:=h.f0;have z:=h.calls;have q:wrap64 (M.refused+1)=M.refused+1:=by unfold wrap64;omega
 have s:wrap64 (M.Bb+1)=M.Bb+1:=by unfold wrap64;omega
 have j:∀ (r:Int) (d:Bool),DM.left {M with calls:=M.calls+1,refused:=r,dead:=d}=M.left:=fun r d=>rfl;have m:=h.left p;unfold DM.add;rw[x];simp only;rcases Wr h p with⟨e,l⟩|⟨b,d,e,D,l⟩
 .have ht1:M.tries a.size=some (a.size:Int):=by unfold DM.tries;rw[e];rfl
  simp only[ht1,e];rw[show DM.left {M with calls:=M.calls+1}=M.left from rfl,m];by_cases c:(if M.room<(M.BG:Int) then 0 else M.room-(M.BG:Int))<a.size
  .rw[He c]
   simp only[Gi];rw[q,s,o];refine⟨10,min (if M.room<(M.BG:Int) then 0 else M.room-(M.BG:Int)).toNat a.size,M.refused+1,M.Bb+1,M.dead,?_,Cq _ _,.inr ⟨rfl,.inr ⟨rfl,rfl,rfl,l,?_⟩⟩⟩
   .rw[Gv (by split at c <;> omega)]
    rfl
   .split at c <;> omega
  .rw[IV c]
   refine⟨0,a.size,M.refused,M.Bb,M.dead,?_,IQ _,.inl ⟨rfl,rfl,rfl,rfl,rfl,l⟩⟩;rw[Dl,o]
   rfl
 .cases ht1:M.tries a.size with
  | none =>
   simp only[e];refine⟨9,0,M.refused+1,M.Bb,d,?_,Hg _,.inr ⟨rfl,.inl ⟨rfl,rfl,l⟩⟩⟩
   congr 1
   unfold DM.put
   congr 1
   funext g
   split
   .rename_i e';subst e';simp
   .rfl
  | some n =>
   have y:0<=n/\n<=a.size:=by
    unfold DM.tries at ht1;split at ht1
    .obtain rfl:=Hl ht1
     exact⟨by omega,FL _⟩
    .split at ht1
     .rename_i h2
      obtain rfl:=Hl ht1;exact⟨Int.tmod_nonneg _ h.part,Int.le_of_lt (Int.tmod_lt_of_pos _ h2.2)⟩
     .cases ht1
   simp only[e];rw[j,m];by_cases c:(if M.room<(M.BG:Int) then 0 else M.room-(M.BG:Int))<n
   .rw[He c,IV (by decide),o]
    exact⟨9,(if M.room<(M.BG:Int) then 0 else M.room-(M.BG:Int)).toNat,M.refused+1,M.Bb,d,rfl,by split at c <;> omega,.inr ⟨rfl,.inl ⟨rfl,rfl,l⟩⟩⟩
   .rw[IV c,o]
    exact⟨9,n.toNat,M.refused+1,M.Bb,d,rfl,by omega,.inr ⟨rfl,.inl ⟨rfl,rfl,l⟩⟩⟩
theorem Bd.put{M:DM}{t:Nat}(h:Bd M t)(f:Nat)(l:List UInt8)(q:l.length<=2000)(r u:Int)(d:Bool)(c:M.refused<=r)(i:r<=M.refused+1)(j:M.Bb<=u)(m:u-M.Bb<=r-M.refused):Bd (M.put f l r u d) (t+1) where
 c0:=by have:=h.c0;show 0<=M.calls+1;omega
 calls:=by have:=h.calls;show M.calls+1<=_;push_cast;omega
 f0:=by have:=h.f0;show 0<=u;omega
 fr:=by have:=h.fr;show u<=r;omega
 rc:=by have:=h.rc;show r<=M.calls+1;omega
 r0:=h.r0
 r1:=h.r1
 part:=h.part
 all:=by
  have a:=h.all;have o:=NV (f:=f) (n:=l.length) (fun k=>(M.file k).bytes.length) M.ids h.Aq;unfold DM.all at a |-;simp only[YM];have e:(fun g=>(if g=f then(M.file f).bytes++l else(M.file g).bytes).length)=fun g=>if g=f then(M.file g).bytes.length+l.length else(M.file g).bytes.length:=by
   funext g
   split
   .rename_i e;subst e;simp
   .rfl
  rw[e];show(M.ids.map _).sum<=_;omega
 Aq:=h.Aq
 AM:=Hs h.AM
 BQ:=h.BQ
 once:=h.once
 Bj:=Hs h.Bj
 Bu:=fun x b=>Hs (h.Bu x b)
 dir:=Hs h.dir
theorem JZ{M:DM}{t:Nat}(h:Bd M t)(f:Nat)(l:List UInt8)(r u:Int)(d:Bool):(M.put f l r u d).BG<=M.BG+l.length:=by
 have a:=Ug (f:=f) (n:=l.length) (fun k=>(M.file k).bytes.length) M.dir h.once;unfold DM.BG;simp only[YM];have e:(fun e:ByteArray × Nat=>(if e.2=f then(M.file f).bytes++l else(M.file e.2).bytes).length)=fun e=>if e.2=f then(M.file e.2).bytes.length+l.length else(M.file e.2).bytes.length:=by
  funext g
  split
  .rename_i e;rw[<- e];simp
  .rfl
 rw[e];exact a
end Go.Proofs.YtkhnggkkiefcdaaGreatDoor
namespace Go.Proofs.YtkhnggkkiefcdaaGreatDoor
open Go.RowKit Go.Shelf
set_option maxRecDepth 100000
set_option maxHeartbeats 8000000
attribute [local go_sem] FQ
theorem Vk{F:Fence}{n:Nat}{P:Program}{g:Operand}{R:Array Tmp}{assign body:Code}{Q:Exit->Act->World->Prop}{a:Act}{w:World}
 (a7:F.round=none)(h1:1<=n){gf:Nat}{lb:Array Value}(hg:a.eval g=.func (.func gf) #[] lb)(V:F.fn gf)(eg:∀ args w,(callFunc gf args).run P w=.ok (.enter gf args) w)
 (N:Nat)(b:Nat->Array Value)(a6:∀ i,(b i).size=R.size)(I:Nat->World->Prop)(s:OwnFrom w.heap.size I)(h0:I 0 w)
 (L:∀ (l:Nat)(J:Nat->World->Prop)(W:World),Below w.heap.size w W->AbidesFrom W.heap.size J->(∀ i z,J i z->I i z) ->
   (∀ i z,i<N->J i z->YieldAt F (n-1-1) P l (b i) z fun e y=>e=.returned (.bool true)/\J (i+1) y)->J 0 W ->
   CallsIn F (n-1) P gf (#[.func (.yield l) #[] #[]]++lb) W fun e y=>(∃ v,e=.returned v)/\J N y)
 (a1:Nat->Act)
 (c:∀ (l i:Nat)(W:World)(K:Act->World->Prop),K (a1 i) W ->
   assign.wpIn (F.inRound l) (n-1-1) P (Exit.then K (fun _ _ _=>False)) {tmps:=(R.zip (b i)).foldl (fun t (p,v)=>t.setIfInBounds p v) a.tmps,defers:=[]} W)
 (d:∀ (l i:Nat)(W:World),i<N->I i W->body.wpIn (F.inRound l) (n-1-1) P (ownPostK (fun _ _=>True) (fun _ y=>I (i+1) y) (fun _ (_:List Unit) _=>False) [] W) (a1 i) W)
 (f:∀ (D:Nat)(W:World),w.heap.size<=D->I N W->W.heap[D]?=some (.deferred (some []))->Q .normal {a with defers:={target:=.collected D,args:=#[]}::a.defers} W) :
 (Code.rangeFunc g R assign body).wpIn F n P Q a w:=by
 refine wpIn_rangeFunc fun fn a0=>?_;rw[a7];obtain⟨r,x⟩:∃ r:LoopState->Loop,r=fun st=>{state:=st,pending:=none,fn,tmps:=a.tmps,params:=R,assign,body,defers:=w.heap.size}:=⟨_,rfl⟩;have k:∀ st,(r st).state=st/\(r st).pending=none:=fun st=>by rw[x];exact⟨rfl,rfl⟩
 have M:∀ st m,{r st with state:=m}=r m:=fun st m=>by rw[x]
 have b1:Below w.heap.size w ((w.alloc (.deferred (some []))).alloc (.loop (r .ready))):=((CC _ w).alloc (IQ _) _).alloc (by simp) _;have i1:I 0 ((w.alloc (.deferred (some []))).alloc (.loop (r .ready))):=s.alloc _ (s.alloc _ h0);have l1:((w.alloc (.deferred (some []))).alloc (.loop (r .ready))).heap[w.heap.size+1]?=some (.loop (r .ready)):=by
  have:=World.alloc_heap_new (w.alloc (.deferred (some []))) (.loop (r .ready))
  rwa [Du] at this
 have d1:((w.alloc (.deferred (some []))).alloc (.loop (r .ready))).heap[w.heap.size]?=some (.deferred (some [])) :=
  (ER _ _ _ (by simp)).trans (World.alloc_heap_new w _)
 have E:(Instr.enterLoop fn a.tmps R assign body none).run P w=.ok (w.heap.size+1,[{target:=.collected w.heap.size,args:=#[]}]) ((w.alloc (.deferred (some []))).alloc (.loop (r .ready))):=by
  rw[x];exact run_enterLoop_outer _ _ _ _ _
 have hz:w.heap.size+2<=((w.alloc (.deferred (some []))).alloc (.loop (r .ready))).heap.size:=by simp
 generalize (w.alloc (.deferred (some []))).alloc (.loop (r .ready))=T at b1 i1 l1 d1 E hz;refine⟨w.heap.size+1,_,T,{target:=.fn (.func gf) lb,args:=#[.func (.yield (w.heap.size+1)) #[] #[]]},T,gf,#[.func (.yield (w.heap.size+1)) #[] #[]]++lb,T,E,?_,?_,?_,fun _=>h1,?_⟩
 .simp only[resolve,hg]
  simp[go_sem]
 .intro f' hf'
  simp[Target.leads] at hf';subst hf';exact V
 .simp[invoke,go_sem,eg]
 .refine(L (w.heap.size+1) (fun i W=>I i W/\W.heap[w.heap.size+1]?=some (.loop (r .ready))/\W.heap[w.heap.size]?=some (.deferred (some []))) T b1 ?_ (fun _ _ h=>h.1) ?_ ⟨i1,l1,d1⟩).mono ?_
  .rintro i A B row ⟨h,hl,hd⟩ hgr hrow
   have hw:∀ q,row=some q->∃ o:Obj,A.heap[q]?=some o/\o.isWalk=true:=fun q e=>(hrow q e).2;exact⟨s i A B row h hgr (fun q e=>by obtain⟨hq,o,ho,a8⟩:=hrow q e;exact⟨by omega,o,ho,Obj.not_cells_of_walk a8⟩),(grownBy_keeps hgr hw hl rfl).trans hl,(grownBy_keeps hgr hw hd rfl).trans hd⟩
  .rintro i W hi ⟨h,hl,hd⟩
   have a5:w.heap.size+1<W.heap.size:=(GL.1 hl).1;have hy:=run_yield (P:=P) (args:=b i) hl (by rw[x];exact a6 i);rw[x] at hy;refine⟨fn,_,assign,body,hy,roundIn_of_wpIn a0 (c _ i W _ ⟨_,run_beginRound hl (k _).1,?_⟩)⟩;rw[M];have a4:(W.putObj (w.heap.size+1) (.loop (r .busy))).heap[w.heap.size+1]?=some (.loop (r .busy)):=World.putObj_heap_same a5;have X:(W.putObj (w.heap.size+1) (.loop (r .busy))).heap[w.heap.size]?=some (.deferred (some [])):=(Es (by omega)).trans hd;refine wpIn_mono (d _ i _ hi (s.putObj _ h (by omega) hl rfl)) ?_;rintro e a3 W3 u;cases e with
   | normal =>
    obtain⟨G,-,a2⟩:=u;have j:=G.same _ _ a4 rfl;have Y:=G.same _ _ X rfl;have C:=run_endRound (P:=P) none j;have e2:({r .busy with state:=if (none:Option Code).isNone then .ready else .done,pending:=none}:Loop)=r .ready:=by rw[x];rfl
    rw[e2] at C;exact⟨_,_,C,rfl,s.putObj _ a2 (by omega) j rfl,World.putObj_heap_same (GL.1 j).1,(Es (by omega)).trans Y⟩
   | ret=>exact u.2.elim
   | exit id=>exact u.2.elim
   | goto t=>exact u.2.elim
   | panic ch=>exact u.elim
   | outgrown=>exact u.elim
  .rintro e W2 ⟨⟨v,rfl⟩,h,hl,hd⟩
   have C:=run_endLoop (P:=P) hl (by rw[(k _).1];decide);rw[(k _).2] at C;exact⟨none,_,C,f _ _ (IQ _) (s.putObj _ h (by omega) hl rfl) ((Es (by omega)).trans hd)⟩
def ZK(a:List (Nat × ByteArray))(i:Nat):Nat × ByteArray:=a.getD i (0,ByteArray.empty)
def Td(a:List (Nat × ByteArray))(i:Nat):Array Value:=#[.int .i64 (ZK a i).1,.string (ZK a i).2]
theorem PQ(F:Fence)(n:Nat)(K:F.fn 187)(u:F.round=none)(hn:1<=n)(l x B:Nat)(v:Value)(a:List (Nat × ByteArray))(J:Nat->World->Prop)
 (W:World)(hl:a.length<4611686018427387904)
 (L:AbidesFrom W.heap.size J)(d:∀ i f,J i f->f.ownsRow 0 268 2 v a.length (Zz a))
 (M:∀ i f,i<a.length->J i f->YieldAt F (n-1) Tryz.prog l (Td a i) f fun e q=>e=.returned (.bool true)/\J (i+1) q)
 (I:W.cell? ⟨x,0,none⟩=some (.pointer (some ⟨B,0,none⟩)))(T:W.cell? ⟨B,0,none⟩=some v)(z:J 0 W) :
 CallsIn F n Tryz.prog 187 #[.func (.yield l) #[] #[],.pointer (some ⟨x,0,none⟩)] W fun e q=>(∃ r,e=.returned r)/\J a.length q:=by
 obtain⟨G,s,rfl⟩:=zc (d 0 W z);refine callsIn_of_wp Tryz.func187 rfl K ?_ u;simp only[Tryz.ntmps187,FN,Hq,Gt,Nat.reduceAdd,Nat.reduceSub,Ef,Eg,EK,Eo,Hd,IY]
 gi_wp2
 gi_loopw [10] (fun i wr=>∃ k:Nat,k<=a.length/\i=.int .i64 k/\J k wr) (fun i _=>a.length-(intOf i).toNat)
 case atStart=>exact⟨0,Hg _,rfl,z⟩
 case round =>
  obtain⟨k,Y,rfl,b⟩:=hrel;by_cases c:k<a.length
  .have hvr:=d _ _ b
   obtain⟨g,h,R,_,_⟩:=zm hvr (by omega);obtain⟨rfl,rfl⟩:G=some ⟨g,0,none⟩/\s=h:=by simpa using R
   have N:=own_cell? hvr (k*2) _ (Xn a k c).1;have Q:=own_cell? hvr (k*2+1) _ (Xn a k c).2;have j:J k (wr.alloc (.cells #[.int .i64 a[k].1,.string a[k].2] 268)):=L _ _ _ none b (World.grownBy_alloc ..) (fun r e=>by cases e);have m:=M k _ c j;rw[show Td a k=#[.int .i64 a[k].1,.string a[k].2] by simp[Td,ZK,List.getD_eq_getElem?_getD,List.getElem?_eq_getElem c]] at m;obtain⟨X,C,o,y,hy,A⟩:=m;have D:=Z b;have E:=Z A;clear j b A
   gi_wp2
   refine E.out.mono ?_;rintro e V ⟨rfl,t⟩
   gi_wp2
   go_roundw
   case rel=>exact⟨k+1,by omega,by simp,t⟩
   case measure=>simp[intOf];omega
  .obtain rfl:k=a.length:=by omega
   gi_wp2
   go_end0
   exact⟨⟨_,rfl⟩,b⟩
end Go.Proofs.YtkhnggkkiefcdaaGreatDoor
namespace Go.Proofs.YtkhnggkkiefcdaaGreatDoor
open Go.RowKit
set_option maxRecDepth 100000
set_option maxHeartbeats 8000000
theorem SS(a:ByteArray)(f:Nat)(w:World)(b:Nat)(L:DL)(M:DM)(h:DRep w b L M)(l:M.dir.look a=some f) :
 Calls Tryz.prog 147 #[.pointer (some ⟨b,0,none⟩),.string a] w fun e r =>
  e=.returned (.tuple #[.string (zo (M.file f).bytes),.nilIface])/\Fr Nil w r:=by
 have j:M.size a=(((M.file f).bytes.length:Int),(0:Int)):=by simp[DM.size,l]
 have k:M.read a 0 (M.file f).bytes.length=(zo (M.file f).bytes,(0:Int)):=by
  simp only[DM.read,l];rw[He (by omega)];simp
 have o:=Z (fun d (fr:Fr Nil w d)=>by have:=To a d b L M (h.fr fr (fun _ _=>id));rw[j] at this;exact this);have m:=Z (fun d (fr:Fr Nil w d)=>by have:=Mg a 0 (M.file f).bytes.length d b L M (h.fr fr (fun _ _=>id));rw[k] at this;exact this);clear j k h;go_enter Tryz.func147,Tryz.ntmps147;go_wp2_with fail;refine(o.out w (O _ _)).mono ?_;rintro e s ⟨rfl,c⟩;go_wp2_with fail;refine(m.out s c).mono ?_;rintro e t ⟨rfl,g⟩;go_wp2_with fail;refine(Wz _ _ 0 t).mono ?_;rintro e u ⟨v,rfl,q,i⟩;obtain rfl:v=.nilIface:=q;go_wp2_with fail;go_ret2;exact⟨rfl,(c.trans g).trans i⟩
def Uy(b:Nat)(w:World):Prop:=Calls Tryz.prog 183 #[.pointer (some ⟨b,0,none⟩)] w fun e a=>e=.returned (.slice none 0 0)/\Fr Nil w a
theorem Jn(b:Nat)(w:World)(h:Uy b w) :
 Calls Tryz.prog 144 #[.pointer (some ⟨b,0,none⟩)] w fun e a=>e=.returned .nilIface/\Fr Nil w a:=by
 unfold Uy at h;have c:=Z h;clear h;go_enter Tryz.func144,Tryz.ntmps144;go_wp2_with fail;refine c.out.mono ?_;rintro e f ⟨rfl,d⟩
 go_wp2
 go_loopw [9] (fun t a=>t=.int .i64 0/\a=f) (fun _ _=>0)
 case atStart=>exact⟨rfl,rfl⟩
 case round =>
  obtain⟨rfl,rfl⟩:=hrel
  go_wp2
  go_ret;exact⟨rfl,d⟩
end Go.Proofs.YtkhnggkkiefcdaaGreatDoor
namespace Go.Proofs.YtkhnggkkiefcdaaGreatDoor
open Go.RowKit Go.Shelf
set_option maxRecDepth 100000
set_option maxHeartbeats 8000000
attribute [local go_sem] FQ
theorem I0{β:Type}(a:Nat)(e:TypeId)(size:Nat)(v:Value)(n:Nat)(m:List Value):Go.Own (fun(_:β) W=>W.ownsRow a e size v n m):=fun s X Y row f l b=>by
 refine World.ownsRow.kept f l ?_;rcases f.2 with⟨rfl,_⟩|⟨g,h,i,rfl,_,c,_⟩
 .exact .inl rfl
 .refine .inr fun j=>?_
  obtain⟨o,d,k⟩:=b g (by simpa [Value.ownBlock] using j.symm);rw[c] at d;cases d;cases k
theorem KeepsOthers.BO{S:Nat->Prop}{W W':World}(f:Fr S W W')(h:∀ k,S k->∃ t,Ty W k t):KeepsOthers W W' :=
 ⟨f.size,fun k o b d=>(f.block k (GL.1 b).1 (fun hs=>by obtain⟨t,c,g,e⟩:=h k hs;rw[b] at e;cases e;cases d)).trans b⟩
theorem Kl(n:Nat):(zg zl n==⟨#[110,101,119]⟩)=false:=by
 cases h:(zg zl n==⟨#[110,101,119]⟩) with
 | false=>rfl
 | true =>
  have e:=GY (fun b:ByteArray=>b.data.toList) (zT.1 h);have a:(zg zl n).data.toList=108::111::103::Lib.decDigits n:=by
   simp only[zg,zl,FF,FR,Wp]
   rfl
  simp only[a] at e;cases e
theorem MT(b:Nat)(L:DL)(M:DM)(w:World)(h:DRep w b L M)(c:List Nat)(hd:M.dir.names=c.map (zg zl))(a8:M.dir.length=c.length)(c0:c.Nodup)(hb:∀ n∈c,1<=n/\n<10^15)(u:c.length<1000000000)
 (ht:∀ S,Fr Nil w S->Tab S)(A:XC w):Uy b w:=by
 unfold Uy;have HL:=Z (fun B (f:Fr Nil w B)=>Wm B b L M (h.nil f) (by omega));rw[hd,a8] at HL;have b2:=Z (fun B (f:Fr Nil w B)=>TR b L M B (h.nil f) c hd a8 c0 hb u (fun S f'=>ht S (f.trans f')) (A.fr f id));have HN:Hid (∀ n∈c,∀ B,Fr Nil w B->Calls Tryz.prog 185 #[.string TQ,.string (zg zl n)] B fun e S=>e=.returned (.int .i64 0)/\Fr Nil B S):=fun n hn B f =>
  Vj TQ (zg zl n) (Vy n).1 (PF n (hb n hn).2) (Vy n).2 B (A.fr f id)
 clear h ht A;refine(Fc (n:=8)).1 ?_;refine DJ Tryz.func183 rfl trivial ?_ rfl;simp only[Tryz.ntmps183,FN,Hq,Gt,Nat.reduceAdd,Nat.reduceSub,Ef,Eg,EK,Eo,Hd,IY];obtain⟨ti,tz,c2,c3,c4,c5,c6⟩:=ZH Vr
 gi_wp2_with fail
 refine⟨trivial,?_⟩;refine(Fc.2 (b2.out _ (by exact za))).mono ?_;rintro e g ⟨o,v,l,rfl,a6,r,N,d3,Q,s⟩;have bo:Boxed g w.heap.size 91 (.slice none 0 0):=(s.block w.heap.size (by simp;omega) id).trans (Boxed.alloc (Cj w 91 (.slice none 0 0)) _);have ba:Boxed g (w.heap.size+1) 91 (.slice none 0 0):=(s.block (w.heap.size+1) (by simp) id).trans (by have:=Cj (w.alloc (.cells #[.slice none 0 0] 91)) 91 (.slice none 0 0);rwa [Du] at this);have a3:Below w.heap.size w g:=(((CC _ w).alloc (IQ _) _).alloc (by simp) _).trans (s.below.mono (by simp;omega));have d5:w.heap.size+2<=g.heap.size:=by have:=s.size;simp at this;omega
 have Y:=Z a6;have T:Hid (l.length=c.length/\∀ i,i<l.length->∃ n∈c,ZK l i=(n,zg zl n)):=⟨N.1,fun i hi=>by
  have hm:l[i]∈l:=IX hi;obtain⟨n,hn,he⟩:=(N.2 _).1 hm;exact⟨n,hn,by simp[ZK,List.getD_eq_getElem?_getD,List.getElem?_eq_getElem hi,he]⟩⟩
 clear a6 s N
 gi_wp2_with fail
 refine⟨trivial,?_⟩;refine(Fc.2 (TO o _)).mono ?_;rintro e w3 ⟨rfl,rfl⟩;have bM:=Cj g 211 (.pointer (some ⟨o,0,none⟩));have a1:=bo.alloc (.cells #[.pointer (some ⟨o,0,none⟩)] 211);have a0:=ba.alloc (.cells #[.pointer (some ⟨o,0,none⟩)] 211);have a4:Below w.heap.size w (g.alloc (.cells #[.pointer (some ⟨o,0,none⟩)] 211)):=a3.alloc (by omega) _;have X:=Z (Y.out.alloc (.cells #[.pointer (some ⟨o,0,none⟩)] 211));have c1:(g.alloc (.cells #[.pointer (some ⟨o,0,none⟩)] 211)).heap.size=g.heap.size+1:=by simp
 have z:=zb r.own ((O Nil g).alloc (.cells #[.pointer (some ⟨o,0,none⟩)] 211)) (fun _ _=>id);generalize g.alloc (.cells #[.pointer (some ⟨o,0,none⟩)] 211)=W0 at bM a1 a0 a4 X c1 z;have d4:=Y.out.lt;clear bo ba a3 r;have b5:=Z z;have HI:Hid (OwnFrom W0.heap.size (fun(i:Nat) W=>(∃ va,Boxed W (w.heap.size+1) 91 va/\W.ownsRow w.heap.size 9 1 va i (strs ((List.range i).map fun k=>(ZK l k).2))/\True)/\Boxed W w.heap.size 91 (.slice none 0 0)/\Below w.heap.size w W/\W.ownsRow 0 268 2 v l.length (Zz l))) :=
  DB (CS (holdsRow_own w.heap.size (w.heap.size+1) 91 9 1 (fun i:Nat=>i) (fun i=>strs ((List.range i).map fun k=>(ZK l k).2)) (fun _ _=>True)) _) (DB (CS (boxed_own _ _ _) _) (DB (ownFrom_below (by omega) (by omega)) (CS (I0 _ _ _ _ _ _) _)))
 have V:Hid (l.length<1000000000):=by rw[T.out.1];exact u
 clear u z
 gi_wp2_with fail
 refine Vk rfl (by decide) (gf:=187) (lb:=#[.pointer (some ⟨g.heap.size,0,none⟩)]) rfl trivial (Dr Tryz.func187 (by kernel_rfl) rfl)
  l.length (Td l) (fun _=>rfl) _ HI.out
  ⟨⟨_,a0,Hc W0 _ _ _,trivial⟩,a1,a4,b5.out⟩
  (fun k J W hW hJ hI hY h0=>PQ Fence.wide 7 trivial rfl (by decide) k g.heap.size o v l J W (by have:=V.out;omega) hJ (fun i W1 h=>(hI i W1 h).2.2.2) hY ((hW.cell (p:=⟨g.heap.size,0,none⟩) (by simp only;omega)).trans bM.cell) ((hW.cell (p:=⟨o,0,none⟩) (by simp only;omega)).trans (X.out.cell 0)) h0)
  (fun i=>{tmps:=#[.pointer (some ⟨b,0,none⟩),undef,.slice none 0 0,.pointer (some ⟨w.heap.size,0,none⟩),.pointer (some ⟨w.heap.size+1,0,none⟩),undef,.string (ZK l i).2,.pointer (some ⟨b,0,none⟩),.pointer (some ⟨o,0,none⟩),.func (.func 187) #[] #[.pointer (some ⟨g.heap.size,0,none⟩)],.int .i64 (ZK l i).1,.string (ZK l i).2,undef,undef,undef,undef,undef,undef,undef,undef,undef,undef,undef,undef,undef,undef,undef,undef,undef],defers:=[]}) ?assign ?body ?done
 case assign =>
  intro l x W K hK;unfold Td
  gi_wp2
  exact hK
 case body =>
  rintro q i W hi ⟨⟨va,G,a,_⟩,d,m,j⟩;obtain⟨n,hn,he⟩:=T.out.2 i hi;have b4:=Z (HN.out n hn W (Fr.BW m));have b1:Hid (strs ((List.range (i+1)).map fun k=>(ZK l k).2)=strs ((List.range i).map fun k=>(ZK l k).2)++[.string (zg zl n)]):=by
   show _=_;rw[List.range_succ,Gs,List.map_singleton,he];simp[strs]
  have d2:i<1000000000:=DO hi V.out;rw[he];clear he;have E:=Z (And.intro G (And.intro a (And.intro d (And.intro m j))));clear G a d m j
  gi_wp2_with fail
  refine⟨trivial,?_⟩;refine(Fc.2 b4.out).mono ?_;rintro e W2 ⟨rfl,R⟩;have G:=(R.block _ E.out.1.lt id).trans E.out.1;have a:=zb E.out.2.1 R (fun _ _=>id);have d:=(R.block _ E.out.2.2.1.lt id).trans E.out.2.2.1;have m:=E.out.2.2.2.1.trans (R.below.mono E.out.2.2.2.1.size);have j:=zb E.out.2.2.2.2 R (fun _ _=>id);have b8:KeepsOthers W W2:=KeepsOthers.BO R (fun _ e=>absurd e id);have hc:=Boxed.cell G;have C:=Boxed.frozen G
  gi_wp2_with (gi_at_builtin;go_must (refine wpListIn_append_own _ rfl _ _ 91 rfl w.heap.size 9 ti tz 1 16 Ee c2 c3 c4 c5 c6 (by decide) _ _ _ rfl (World.ownsRow.alloc a _) ⟨W2.heap.size,0,none⟩ 1 1 [.string (zg zl n)] rfl rfl (CQ _ _ _) (by simp[Value.oneCell']) (by unfold maxLen;omega) (by omega) (by have:=m.size;simp;omega) ?_;intro v3 w3 y t _;obtain⟨g',a2,rfl⟩:=ownsRow_succ y;obtain⟨Q,c7,z,b9,b7⟩:=Boxed.appended G (by decide) a m.size (by omega) y t;have c9:=Q.cell;have d1:=Q.frozen))
  have a9:Fr (fun k=>va.ownBlock=some k\/k=w.heap.size+1) W2 (w3.setCell ⟨w.heap.size+1,0,none⟩ (.slice (some ⟨g',0,none⟩) (i+1) a2)) :=
   Fr.set (p:=⟨w.heap.size+1,0,none⟩) (Fr.grown ((O _ W2).alloc _) t (fun k e _=>.inl e)) (fun _=>.inr rfl) _
  refine⟨b8.trans b9,trivial,⟨_,c7,by rw[b1.out];exact z,trivial⟩,(a9.block _ (Boxed.lt d) (fun e=>e.elim (fun e=>(Boxed.not_row d (by decide) a) e.symm) (fun e=>by omega))).trans d,m.trans b7,zb j a9 (fun k hk e=>?_)⟩;rcases e with e|e
  .exact Zc a j (by decide) e hk
  .subst e
   exact zd j (show Blk W2 (w.heap.size+1) [va] 91 from G) (by decide) hk
 case done =>
  rintro D W hD ⟨_,d,m,_⟩ hK;have hc:=d.cell;have b3:=Z (HL.out W (Fr.BW m))
  gi_wp2_with fail
  refine⟨trivial,?_⟩;refine(Fc.2 b3.out).mono ?_;rintro e w4 ⟨v4,rfl,a,C,_⟩;have HC:=Z (TP v4 _ ⟨#[110,101,119]⟩ w4 (by rw[Hy];exact a));rw[show(c.map (zg zl)).any (·==⟨#[110,101,119]⟩)=false by simp only[List.any_map,Di];intro x hx;simp[Kl]] at HC;have a7:w4.cell? ⟨w.heap.size,0,none⟩=some (.slice none 0 0):=(C.cell d.lt id).trans hc;have F:Hid (Below w.heap.size w w4):=m.trans (C.below.mono m.size);have c8:w.heap.size<=D:=by omega
  have I:=(C.block D (GL.1 hK).1 id).trans hK;clear a C hc d m
  gi_wp2_with fail
  refine⟨trivial,?_⟩;refine(Fc.2 HC.out).mono ?_;rintro e w5 ⟨rfl,C⟩;have d0:w5.cell? ⟨w.heap.size,0,none⟩=some (.slice none 0 0):=(C.cell (by have:=F.out.size;simp only;have:=(GL.1 I).1;omega) id).trans a7;have b0:Hid (Below w.heap.size w w5):=F.out.trans (C.below.mono F.out.size);have a5:=(C.block D (GL.1 I).1 id).trans I;clear C a7
  gi_wp2_with fail
  refine⟨by simp,.inl ⟨_,_,rfl,Ck a5,?_⟩⟩;have b6:Below w.heap.size w (w5.putObj D (.deferred none)):=b0.out.trans (belowK_b (w:=w) (IQ _) w5 D _ _ (by omega) a5 rfl rfl);exact⟨_,results_tmp rfl _ _ _,rfl,Fr.BW b6⟩
end Go.Proofs.YtkhnggkkiefcdaaGreatDoor
namespace Go.Proofs.YtkhnggkkiefcdaaGreatDoor
open Go.RowKit Go.Shelf
set_option maxRecDepth 100000
set_option maxHeartbeats 8000000
attribute [local go_sem] FQ
theorem Blk.kept{W d:World}{row:Option Nat}{b:Nat}{c:List Value}{t:TypeId}(h:Blk W b c t)(e:W.grownBy d row)(a:some b≠row):Blk d b c t:=h.of_heap (e.block b h.lt a)
theorem Blk.put{W:World}{b D:Nat}{c:List Value}{t:TypeId}(h:Blk W b c t){o:Obj}(a:W.heap[D]?=some o)(g:o.isCells=false)(d:Obj):Blk (W.putObj D d) b c t :=
 h.kept (grownBy_putObj' W D d) (fun e=>by
  have e:b=D:=by simpa using e
  subst e;rw[show W.heap[b]?=_ from h] at a;cases a;cases g)
def JM.none(c:Nat):JM:={Bw:=c,last:=0,name:=ByteArray.empty,size:=0,Ad:=false,Bm:=false}
end Go.Proofs.YtkhnggkkiefcdaaGreatDoor
namespace Go.Proofs.YtkhnggkkiefcdaaGreatDoor
open Go.RowKit
set_option maxRecDepth 100000
set_option maxHeartbeats 8000000
def SM.nil:SM:={keys:=[],hints:=[],Ba:=0}
def Zj(a:List Seg):SM:=(ze a).foldl SM.enter SM.nil
structure Keeps(N:NM)(M:DM)(ss:List Seg)(good:Prop):Prop where
 BC:Lies M ss
 part:0<=M.part
 ok:YZ ss
 held:N.S=Zj ss
 Ai:∀ i,(((ze ss).take i).foldl SM.enter SM.nil).hints.length<=32
 j:good->N.J=JM.at N.J.Bw ss N.J.Bm
theorem Keeps.mono{N:NM}{M:DM}{c:List Seg}{P Q:Prop}(h:Keeps N M c P)(f:Q->P):Keeps N M c Q:=⟨h.BC,h.part,h.ok,h.held,h.Ai,fun q=>h.j (f q)⟩
theorem Keeps.BX{N:NM}{M:DM}{a:List Seg}{P:Prop}(h:Keeps N M a P)(e:Option Int):Keeps (N.BX e) M a P:=⟨h.BC,h.part,h.ok,h.held,h.Ai,h.j⟩
def Kept(M:DM)(P:Nat->Prop)(d:NM)(c:DM)(a:Prop):Prop:=∃ b,Keeps d c b a/\∀ g∈c.ids,P g\/g∈M.ids
theorem Keeps.same{N:NM}{M:DM}{a:List Seg}{P:Prop}(h:Keeps N M a P)(Q:Nat->Prop):Kept M Q N M P:=⟨a,h,fun _ b=>.inr b⟩
theorem Keeps.hints{N:NM}{M:DM}{b:List Seg}{P:Prop}(h:Keeps N M b P):N.S.hints.length<=32:=by
 have:=h.Ai (ze b).length;rw[HZ] at this;rw[h.held];exact this
theorem Keeps.write{N:NM}{M:DM}{c:List Seg}(h:Keeps N M c True)(x:Fact)(q:ZG x)(p:(N.S.enter x).hints.length<=32)(f:Nat)(m:f∉M.ids):Kept M (·=f) (N.write M x f).2.1 (N.write M x f).2.2 ((N.write M x f).1=none):=by
 obtain⟨a,e,g,b,j,k,l⟩:=Logged.append ⟨h.BC,h.j trivial⟩ h.part h.ok x q f m;refine⟨a,⟨e,?_,g,?_,fun i=>?_,fun d=>(l d).2.j⟩,k⟩
 .show 0<=(N.J.append M (zh x) f).2.2.2.part
  rw[j];exact h.part
 .show(if (N.J.append M (zh x) f).1=true then N.S.enter x else N.S)=_
  rw[h.held];unfold Zj;rw[b];split
  .rw[Gq];rfl
  .rw[Hx]
 .rw[b]
  by_cases o:i<=(ze c).length
  .rw[Gk o]
   exact h.Ai i
  .split
   .rw[Hn (by simp;omega),Gq]
    have:(N.S.enter x).hints.length<=32:=p;rw[h.held] at this;exact this
   .rw[Hx]
    exact h.Ai i
theorem Keeps.sync{N:NM}{M:DM}{b:List Seg}(h:Keeps N M b True):Keeps (N.sync M).2.1 (N.sync M).2.2 b True/\(N.sync M).2.2.ids=M.ids:=by
 obtain⟨a,c,d⟩:=Logged.Bn (J:=N.J) (M:=M) ⟨h.BC,h.j trivial⟩;exact⟨⟨a.BC,by show 0<=(N.J.Bn M).2.2.part;rw[c];exact h.part,h.ok,h.held,h.Ai,fun _=>a.j⟩,d⟩
theorem Keeps.counted{N:NM}{M:DM}{a:List Seg}(h:Keeps N M a True):Keeps (N.counted M).2.1 (N.counted M).2.2 a True/\(N.counted M).2.2.ids=M.ids:=by
 unfold NM.counted;split
 .exact⟨⟨h.BC,h.part,h.ok,h.held,h.Ai,h.j⟩,rfl⟩
 .exact Keeps.sync (N:={N with writes:=0}) ⟨h.BC,h.part,h.ok,h.held,h.Ai,h.j⟩
theorem Keeps.change{N:NM}{M:DM}{o:List Seg}(h:Keeps N M o True)(x:Fact)(l:ZG x)(k:(N.S.enter x).hints.length<=32)(f:Nat)(i:f∉M.ids):Kept M (·=f) (N.change M x f).2.1 (N.change M x f).2.2 ((N.change M x f).1=none):=by
 obtain⟨a,b,c⟩:=h.write x l k f i;unfold NM.change;cases he:(N.write M x f).1 with
 | some n=>exact⟨a,b.mono (fun h=>by cases h),c⟩
 | none =>
  obtain⟨d,e⟩:=(b.mono (fun _=>he)).counted;exact⟨a,d.mono (fun _=>trivial),fun g j=>c g (e▸j)⟩
theorem Km{N:NM}{e:Option Int}(h:(N.BX e).readOnly=false):e=none:=by
 cases e with
 | none=>rfl
 | some n=>simp[NM.BX] at h
theorem Keeps.asked{N:NM}{M:DM}{j:List Seg}(h:Keeps N M j True)(x:Fact)(i:ZG x)(g:(N.S.enter x).hints.length<=32)(f:Nat)(e:f∉M.ids):Kept M (·=f) (N.asked M x f).2.1 (N.asked M x f).2.2 ((N.asked M x f).2.1.readOnly=false):=by
 obtain⟨a,c,d⟩:=h.change x i g f e;exact⟨a,(c.BX _).mono (fun b=>Km b),d⟩
theorem Uj{n:Nat}(h:n<9223372036854775808):ZG (.inl n):=by
 refine⟨⟨h,trivial⟩,?_⟩;have a:=zG (n:=1) (by decide);have b:=zG h;show(zi 1++zi n).length<_;rw[IM];omega
theorem Keeps.Br{N:NM}{M:DM}{k:List Seg}(h:Keeps N M k True)(d:N.given<1000000000000)(f:Nat)(j:f∉M.ids):Kept M (·=f) (N.Br M f).2.1 (N.Br M f).2.2 ((N.Br M f).1=none):=by
 obtain⟨a,b,c⟩:=h.write (.inl (N.given+16)) (Uj (by omega)) h.hints f j;unfold NM.Br;cases he:(N.write M (.inl (N.given+16)) f).1 with
 | some n=>exact⟨a,b.mono (fun h=>by cases h),c⟩
 | none =>
  obtain⟨e,i⟩:=(b.mono (fun _=>he)).sync;exact⟨a,e.mono (fun _=>trivial),fun g d=>c g (i▸d)⟩
theorem Keeps.next{N:NM}{M:DM}{b:List Seg}(h:Keeps N M b True)(a:N.given<1000000000000)(f:Nat)(c:f∉M.ids):Kept M (·=f) (N.next M f).2.2.1 (N.next M f).2.2.2 ((N.next M f).1=none):=by
 unfold NM.next;split
 .exact⟨b,⟨h.BC,h.part,h.ok,h.held,h.Ai,fun _=>h.j trivial⟩,fun _ a=>.inr a⟩
 .obtain⟨ss',h1,h2⟩:=h.Br a f c
  cases he:(N.Br M f).1 with
  | some n=>exact⟨ss',h1.mono (fun h=>by cases h),h2⟩
  | none=>exact⟨ss',⟨h1.BC,h1.part,h1.ok,h1.held,h1.Ai,fun _=>h1.j he⟩,h2⟩
theorem YC(S:SM)(key:ByteArray)(l:List Ver):(S.holds key l).hints=S.hints:=by
 unfold SM.holds;split <;> rfl
theorem Keeps.replace{N:NM}{M:DM}{z:List Seg}(h:Keeps N M z True)(c:N.given<1000000000000)(key:ByteArray)(vs:NM->Nat->List Ver)(f g:Nat)(s:f∉M.ids)(t:g∉M.ids)(r:Apart2 N M f g)(v:ZG (.inr (.inl (key,vs (N.next M f).2.2.1 (N.next M f).2.1)))) :
 Kept M (fun k=>k=f\/k=g) (N.replace M key vs f g).2.2.1 (N.replace M key vs f g).2.2.2 ((N.replace M key vs f g).2.2.1.readOnly=false):=by
 obtain⟨y,a,i⟩:=h.next c f s;unfold NM.replace;cases he:(N.next M f).1 with
 | some n=>exact⟨y,(a.BX (some n)).mono (fun q=>by have:=Km q;cases this),fun k d=>(i k d).imp .inl id⟩
 | none =>
  have b:g∉(N.next M f).2.2.2.ids:=fun hm=>by
   rcases i g hm with e|e
   .exact r e.symm (e▸hm)
   .exact t e
  obtain⟨o,j,x⟩:=(a.mono (fun _=>he)).asked _ v (by show(SM.holds _ _ _).hints.length<=32;rw[YC];exact a.hints) g b;have l:∀ k∈((N.next M f).2.2.1.asked (N.next M f).2.2.2 (.inr (.inl (key,vs (N.next M f).2.2.1 (N.next M f).2.1))) g).2.2.ids,(k=f\/k=g)\/k∈M.ids:=fun k d=>(x k d).elim (fun e=>.inl (.inr e)) (fun hm=>(i k hm).imp .inl id);simp only;split
  .exact⟨o,j,l⟩
  .exact⟨o,j,l⟩
theorem Keeps.put{N:NM}{M:DM}{j:List Seg}(h:Keeps N M j (N.readOnly=false))(b:N.given<1000000000000)(key a:ByteArray)(f g:Nat)(d:f∉M.ids)(e:g∉M.ids)(c:Apart2 N M f g)(i:zp key=true->a.size<=128->ZG (.inr (.inl (key,putV key a (N.next M f).2.2.1 (N.next M f).2.1)))) :
 Kept M (fun k=>k=f\/k=g) (N.put M key a f g).2.2.1 (N.put M key a f g).2.2.2 ((N.put M key a f g).2.2.1.readOnly=false):=by
 unfold NM.put;split
 .exact h.same _
 .rename_i hk
  split
  .exact h.same _
  .rename_i hs
   split
   .exact h.same _
   .rename_i hr
    exact(h.mono (fun _=>by simpa using hr)).replace b key _ f g d e c (i (by simpa using hk) (by omega))
theorem PR:ZG (.inr (.inr (.inr ()))):=⟨⟨trivial,trivial⟩,by have:=zG (n:=4) (by decide);show(zi 4).length<_;omega⟩
theorem NW(x:Fact):(zr x).length<=(zh x).size:=by
 rw[TL,YK];simp[Z0]
theorem XG{key:ByteArray}{l:List Ver}(a:zp key=true)(h:∀ u∈l,VOk u)(b:l.length<=5):ZG (.inr (.inl (key,l))):=by
 refine⟨⟨Xo a h b,fun v c=>(h v c).gone⟩,?_⟩;have d:=NW (.inr (.inl (key,l)));have e:=YL a h b;omega
theorem Qd{b:Nat}{a:ByteArray}(h:b<9223372036854775808)(hs:a.size<=64):ZG (.inr (.inr (.inl (b,a)))):=by
 refine⟨⟨⟨h,by show a.size<_;omega⟩,trivial⟩,?_⟩;have c:=NW (.inr (.inr (.inl (b,a))));have d:=Wq h hs;omega
theorem ZQ(S:SM)(key:ByteArray)(l:List Ver):(S.holds key l).Ba=S.Ba:=by
 unfold SM.holds;split <;> rfl
theorem MU{P:Program}{o:Oper}{a:Act}{w:World}{K j:Act->World->Prop}{Q:Exit->Act->World->Prop}(q n:Nat)(m:∀ c,o.op≠.defer c)(g:∀ a w,K a w->j a w)(h:o.wp P a w K Q):o.wpIn (Fence.wide.inRound q) n P a w j Q:=by
 refine⟨fun _ _=>trivial,?_⟩;rw[Oper.semAt_eq _ _ _ m];unfold Oper.wp at h;generalize (execOp a.eval o).run P w=r at h |-;cases r with
 | ok x p =>
  cases x <;> simp only[Oper.upon,Oper.uponIn] at h |-
  case value v=>exact g _ _ h
  case skip=>exact g _ _ h
  case defer d=>exact g _ _ h
  case enter f b =>
   refine⟨(fun e=>by cases e),Fc.2 (CO h ?_)⟩;intro e k i;cases e with
   | returned v=>exact g _ _ i
   | panicked c=>exact i
   | outgrown=>exact i
  case row row b =>
   refine⟨(fun e=>by cases e),fun c l _=>?_⟩;obtain⟨v,k,r,s⟩:=h c l;exact⟨v,k,g _ _ r,stepsIn_wide.2 s⟩
 | halt x p=>cases x <;> simp only[Oper.upon,Oper.uponIn] at h |- <;> exact h
theorem XQ{P:Program}{k:Region.Mode}{g:Array Oper}{Q:Exit->Act->World->Prop}(q n:Nat)(j:∀ (i:Nat) o,g[i]?=some o->∀ c,o.op≠.defer c)(f:¬LetsOut Q):∀ (b:Nat)(d:Array Bool)(a:Act)(w:World),wpAny P k g Q b d a w->wpAnyIn (Fence.wide.inRound q) n P k g Q b d a w
 | 0,_,_,_,h=>h
 | b+1,d,a,w,h=>by
  refine⟨h.1,fun i l=>?_⟩;have e:=h.2 i l;unfold wpOp at e;unfold wpOpIn;cases ho:g[i]? with
  | none=>rw[ho] at e;exact XQ q n j f b _ _ _ e
  | some o =>
   rw[ho] at e;simp only at e |-;split
   .rename_i hwt
    rw[He hwt] at e;rcases e with e|e
    .exact MU q n (j i o ho) (fun a w=>XQ q n j f b _ a w) e
    .exact absurd e.2 f
   .rename_i hwt
    rw[IV hwt] at e;exact⟨fun _ _=>trivial,XQ q n j f b _ _ _ e⟩
theorem TU{P:Program}{b:Array Oper}{Q:Exit->Act->World->Prop}{q n id:Nat}{S:World->Prop}{a:Act}{w:World}(hm:P.follows .mixedOrders=true)(g:(b.all fun o=>match o.op with|.defer _=>false|_=>true)=true)(d:¬LetsOut Q)(e:S w.drew)
 (h:S w.drew->wpAnyH P .any b Q S b.size (Array.replicate b.size false) a w.drew):(Code.region id b true).wpIn (Fence.wide.inRound q) n P Q a w :=
 wpIn_region_any hm (XQ q n (fun i o k c f=>by
  obtain⟨j,rfl⟩:=GL.1 k;have:=Array.all_eq_true.1 g i j;rw[f] at this;cases this) d _ _ _ _ (wpAny_of_held _ _ _ _ (h e)))
theorem Z4{P:Program}{g:Region.Mode}{e:Array Oper}{Q:Exit->Act->World->Prop}{S:World->Prop}(i:Nat)(d:Option Tmp){j:Oper}{v:Value}{f:Nat}{b:Array Bool}{a:Act}{w:World}(q:e[i]?=some j)(m:j.dst=d)
 (hs:Region.noSelect e=true)(o:Region.free g e b i=true)(r:(Region.ready g e b).contains i=true)
 (k:∀ c a w,Q (.panic c) (a.put d v) w->Q (.panic c) a w)(s:YieldsIf P e S j v a)(l:S w)
 (h:wpAnyH P g e Q S f (b.setIfInBounds i true) (a.put d v) w):wpAnyH P g e Q S (f+1) b a w:=by
 subst m;exact wpAnyH_take q hs o r k s l h
end Go.Proofs.YtkhnggkkiefcdaaGreatDoor
