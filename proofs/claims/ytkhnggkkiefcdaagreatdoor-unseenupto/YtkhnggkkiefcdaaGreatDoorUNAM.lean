/- larder: joined texts -/
import Derived.Test.YtkhnggkkiefcdaaGreatDoorUNAE
import Derived.Test.YtkhnggkkiefcdaaGreatDoorUNAK
import Derived.Test.YtkhnggkkiefcdaaGreatDoorUNAL
import Derived.RangeFuncFrom
import Derived.Deep.RegionHeld3
import Derived.OrdersIn
namespace Go.Proofs.YtkhnggkkiefcdaaGreatDoor
open Go.RowKit
set_option maxRecDepth 100000
set_option maxHeartbeats 8000000
abbrev FL:=@Go.KeepsOthers.setCell
abbrev Dz:=@Go.grownBy_putObj'
theorem Ju{f n:Nat}(size:Nat->Nat):∀ l:List Nat,l.Nodup->(l.map fun g=>if g=f then size g+n else size g).sum<=(l.map size).sum+n
 | [],_=>by simp
 | a::l,h=>by
  simp only[Fj] at h;simp only[IJ,GY];by_cases e:a=f
  .subst e
   have:(l.map fun g=>if g=a then size g+n else size g)=l.map size:=by
    apply GN
    intro x b;rw[It (fun e=>h.1 (by rw[<- e];exact b))]
   rw[this,IC rfl];omega
  .rw[It e]
   have:=Ju (f:=f) (n:=n) size l h.2;omega
theorem Nj(s:Nat->Nat):∀ (l m:List Nat),l.Nodup->(∀ x∈l,x∈m)->(l.map s).sum<=(m.map s).sum
 | [],m,_,_=>II _
 | a::l,m,h,c=>by
  simp only[Fj] at h;obtain⟨e,f,rfl⟩:=EW (c a (Is ..));have:=Nj s l (e++f) h.2 (fun x d=>by
   have b:=c x (Iq _ d);simp only[Ir,IW] at b |-;rcases b with b|b|b
   .exact .inl b
   .exact absurd (b▸d) h.1
   .exact .inr b)
  simp only[IL,Fx,IJ,GY] at this |-;omega
structure Bk(M:DM)(t k:Nat):Prop where
 c0:0<=M.calls
 calls:M.calls<=(1000000*t+k:Nat)
 f0:0<=M.Bo
 fr:M.Bo<=M.refused
 rc:M.refused<=M.calls
 r0:0<=M.room
 r1:M.room<9223372036854775808
 part:0<=M.part
 AG:∀ g∈M.ids,(M.file g).bytes.length<=2000*(t+100)
 AQ:M.ids.Nodup
 AK:M.ids.length<=t
 Ad:∀ e∈M.dir,e.2∈M.ids
 once:(M.dir.map (·.2)).Nodup
 Bl:M.Bl.length<=1000000*t+k
 BT:∀ d∈M.safe::M.Bl,d.length<=t
 dir:M.dir.length<=t
abbrev Bd (M:DM)(t:Nat):Prop:=Bk M t 0
theorem Bk.more{M:DM}{t u k:Nat}(h:Bk M t k)(a:t<=u):Bk M u k :=
 ⟨h.c0,by have:=h.calls;omega,h.f0,h.fr,h.rc,h.r0,h.r1,h.part,fun g c=>by have:=h.AG g c;omega,h.AQ,Im h.AK a,h.Ad,h.once,by have:=h.Bl;omega,fun d b=>Im (h.BT d b) a,Im h.dir a⟩
theorem Bk.yy{M:DM}{t k n:Nat}(h:Bk M t k)(a:k<=n):Bk M t n :=
 ⟨h.c0,by have:=h.calls;omega,h.f0,h.fr,h.rc,h.r0,h.r1,h.part,h.AG,h.AQ,h.AK,h.Ad,h.once,by have:=h.Bl;omega,h.BT,h.dir⟩
theorem Bk.close{M:DM}{t k:Nat}(h:Bk M t k)(c:k<=1000000):Bd M (t+1) :=
 ⟨h.c0,by have:=h.calls;omega,h.f0,h.fr,h.rc,h.r0,h.r1,h.part,fun g b=>by have:=h.AG g b;omega,h.AQ,Gv h.AK,h.Ad,h.once,by have:=h.Bl;omega,fun d a=>Gv (h.BT d a),Gv h.dir⟩
theorem R4(s:Nat->Nat)(B:Nat):∀ l:List Nat,(∀ g∈l,s g<=B)->(l.map s).sum<=l.length*B
 | [],_=>by simp
 | a::l,h=>by
  have c:=h a (Is ..);have d:=R4 s B l (fun g b=>h g (Iq _ b));rw[IJ,GY,Iz,Nat.succ_mul];omega
theorem Bk.BU{M:DM}{t k:Nat}(h:Bk M t k)(c:t<=1000000):M.BU<=2000200000000000:=by
 have a:=Nj (fun g=>(M.file g).bytes.length) (M.dir.map (·.2)) M.ids h.once (fun x d=>by
  obtain⟨e,b,rfl⟩:=Iy.1 d;exact h.Ad e b)
 rw[Gi] at a;have i:=R4 (fun g=>(M.file g).bytes.length) (2000*(t+100)) M.ids h.AG;have j:M.ids.length*(2000*(t+100))<=1000000*(2000*1000100):=Nat.mul_le_mul (Im h.AK c) (by omega);have l:M.BU<=(M.ids.map fun g=>(M.file g).bytes.length).sum:=a;omega
theorem Bk.file{M:DM}{t k:Nat}(h:Bk M t k){g:Nat}(a:g∈M.ids):(M.file g).bytes.length<=2000*(t+100):=h.AG g a
structure Tick(M M':DM)(e:Option Int):Prop where
 cut:M'.cut=M.cut
 fail:M'.fail=M.fail
 le:M.calls<=M'.calls
 AR:e=none->∀ c,M.calls<c->c<=M'.calls->c≠M.cut/\c≠M.fail
 bad:e=some 9->M.dead=false->M.calls<M'.calls/\(M'.calls=M.cut/\M'.dead=true\/M'.calls=M.fail/\M'.dead=false)
def Ans(M a:DM)(e:Option Int):Prop :=
 ((e=none/\a.refused=M.refused/\a.Bo=M.Bo/\a.dead=M.dead) \/
 (a.refused=M.refused+1/\((e=some 9/\a.Bo=M.Bo)\/(e=some 10/\a.Bo=M.Bo+1/\a.dead=M.dead))))/\Tick M a e
theorem Ans.refl(M:DM):Ans M M none:=⟨.inl ⟨rfl,rfl,rfl,rfl⟩,⟨rfl,rfl,FH _,fun _ c a b=>absurd a (Int.not_lt.2 b),fun e=>by cases e⟩⟩
theorem Ans.trans{q M2 t:DM}{e:Option Int}(h:Ans q M2 none)(k:Ans M2 t e):Ans q t e:=by
 obtain⟨h,g⟩:=h;obtain⟨k,o⟩:=k;have y:M2.dead=q.dead:=by
  rcases h with⟨_,_,_,c⟩|⟨_,⟨h,_⟩|⟨h,_⟩⟩
  .exact c
  .cases h
  .cases h
 refine⟨?_,o.cut.trans g.cut,o.fail.trans g.fail,Int.le_trans g.le o.le,fun r c s x=>?_,fun r s=>?_⟩
 .rcases h with⟨_,a,b,c⟩|⟨_,⟨h,_⟩|⟨h,_⟩⟩
  .rw[a,b,c] at k
   exact k
  .cases h
  .cases h
 .by_cases hc:c<=M2.calls
  .exact g.AR rfl c s hc
  .have:=o.AR r c (by omega) x
   rw[g.cut,g.fail] at this;exact this
 .have:=o.bad r (y.trans s)
  rw[g.cut,g.fail] at this;exact⟨Int.lt_of_le_of_lt g.le this.1,this.2⟩
structure Pass(M:DM):Prop where
 dead:M.dead=false
 cut:M.calls+1≠M.cut
 fail:M.calls+1≠M.fail
structure Stop(M:DM)(d:Bool):Prop where
 dead:M.dead=true->d=true
 wu:M.dead=false->M.calls+1=M.cut/\d=true\/M.calls+1=M.fail/\d=false
theorem YX{M:DM}{t k:Nat}(h:Bk M t k)(o:t<=1000000)(m:k<=2000000) :
 (M.Bg=(true,0,{M with calls:=M.calls+1})/\Pass M)\/(∃ b d,M.Bg=(b,9,{M with calls:=M.calls+1,refused:=M.refused+1,dead:=d})/\(b=true->d=true)/\Stop M d):=by
 have f:=h.calls;have g:=h.c0;have i:=h.rc;have j:=h.fr;have l:=h.f0;have a:wrap64 (M.calls+1)=M.calls+1:=by unfold wrap64;omega
 have c:wrap64 (M.refused+1)=M.refused+1:=by unfold wrap64;omega
 unfold DM.Bg;simp only[a,c];split
 .rename_i hd
  exact .inr ⟨false,true,by rw[<- hd],(fun e=>by cases e),⟨fun _=>rfl,fun e=>by rw[hd] at e;cases e⟩⟩
 .rename_i hd
  simp only[Bool.not_eq_true] at hd;split
  .rename_i hc
   exact .inr ⟨true,true,rfl,fun _=>rfl,fun _=>rfl,fun _=>.inl ⟨by simpa using hc,rfl⟩⟩
  .rename_i hc
   split
   .rename_i hf
    exact .inr ⟨false,false,by rw[<- hd],(fun e=>by cases e),⟨(fun e=>by rw[hd] at e;cases e),fun _=>.inr ⟨by simpa using hf,rfl⟩⟩⟩
   .rename_i hf
    exact .inl ⟨rfl,hd,by simpa using hc,by simpa using hf⟩
def DM.no(M:DM)(d:Bool):DM:={M with calls:=M.calls+1,refused:=M.refused+1,dead:=d}
theorem Bk.no{M:DM}{t k:Nat}(h:Bk M t k)(d:Bool):Bk (M.no d) t (k+1) where
 c0:=by have:=h.c0;show 0<=M.calls+1;omega
 calls:=by have:=h.calls;show M.calls+1<=_;omega
 f0:=h.f0
 fr:=by have:=h.fr;show M.Bo<=M.refused+1;omega
 rc:=by have:=h.rc;show M.refused+1<=M.calls+1;omega
 r0:=h.r0
 r1:=h.r1
 part:=h.part
 AG:=h.AG
 AQ:=h.AQ
 AK:=h.AK
 Ad:=h.Ad
 once:=h.once
 Bl:=Gv h.Bl
 BT:=h.BT
 dir:=h.dir
theorem Ans.no{M a:DM}{d:Bool}(k:Stop M d)(h:a.refused=(M.no d).refused)(b:a.Bo=M.Bo)(c:a.calls=M.calls+1:=by rfl)(f:a.cut=M.cut:=by rfl)(g:a.fail=M.fail:=by rfl)(i:a.dead=d:=by rfl):Ans M a (some 9) :=
 ⟨.inr ⟨h,.inl ⟨rfl,b⟩⟩,f,g,(by omega),(fun e=>by cases e),fun _ j=>⟨by omega,by rw[c,i];exact k.wu j⟩⟩
def DM.Av(M:DM)(f:Nat):DM:={M with calls:=M.calls+1,file:=fun g=>if g=f then {M.file f with safe:=(M.file f).bytes.length} else M.file g}
theorem Yc(M:DM)(f g:Nat):((M.Av f).file g).bytes=(M.file g).bytes:=by
 show(if g=f then {M.file f with safe:=(M.file f).bytes.length} else M.file g:FM).bytes=_;split
 .rename_i e;subst e;rfl
 .rfl
theorem WW(M:DM)(f g:Nat):((M.Av f).file g).safe=if g=f then(M.file f).bytes.length else(M.file g).safe:=by
 show(if g=f then {M.file f with safe:=(M.file f).bytes.length} else M.file g:FM).safe=_;split <;> rfl
theorem Pf{M:DM}{t k:Nat}(h:Bk M t k)(j:t<=1000000)(g:k<=2000000){a:ByteArray}{f:Nat}(i:M.dir.look a=some f) :
 (M.sync a=(0,M.Av f)/\Pass M)\/∃ d,M.sync a=(9,M.no d)/\Stop M d:=by
 unfold DM.sync;rw[i];rcases YX h j g with⟨e,c⟩|⟨b,d,e,_,c⟩
 .refine .inl ⟨?_,c⟩
  simp only[e,Gh]
  rfl
 .refine .inr ⟨d,?_,c⟩
  simp only[e]
  rfl
theorem Bk.Av{M:DM}{t k:Nat}(h:Bk M t k)(f:Nat):Bk (M.Av f) t (k+1) where
 c0:=by have:=h.c0;show 0<=M.calls+1;omega
 calls:=by have:=h.calls;show M.calls+1<=_;omega
 f0:=h.f0
 fr:=h.fr
 rc:=by have:=h.rc;show M.refused<=M.calls+1;omega
 r0:=h.r0
 r1:=h.r1
 part:=h.part
 AG:=fun g a=>by rw[Yc];exact h.AG g a
 AQ:=h.AQ
 AK:=h.AK
 Ad:=h.Ad
 once:=h.once
 Bl:=Gv h.Bl
 BT:=h.BT
 dir:=h.dir
theorem Ans.ok{M a:DM}(d:Pass M)(h:a.refused=M.refused)(b:a.Bo=M.Bo)(j:a.dead=M.dead)(o:a.calls=M.calls+1:=by rfl)(k:a.cut=M.cut:=by rfl)(l:a.fail=M.fail:=by rfl):Ans M a none :=
 ⟨.inl ⟨rfl,h,b,j⟩,k,l,by omega,fun _ c m b=>(show c=M.calls+1 by omega)▸⟨d.cut,d.fail⟩,fun e=>by cases e⟩
def DM.Ay(M:DM):DM:={M with calls:=M.calls+1,safe:=M.dir,Bl:=[]}
theorem UM{M:DM}{t k:Nat}(h:Bk M t k)(f:t<=1000000)(c:k<=2000000) :
 (M.Bx=(0,M.Ay)/\Pass M)\/∃ d,M.Bx=(9,M.no d)/\Stop M d:=by
 unfold DM.Bx;rcases YX h f c with⟨e,a⟩|⟨b,d,e,_,a⟩
 .refine .inl ⟨?_,a⟩
  simp only[e,Gh]
  rfl
 .refine .inr ⟨d,?_,a⟩
  simp only[e]
  rfl
theorem Bk.Ay{M:DM}{t k:Nat}(h:Bk M t k):Bk M.Ay t (k+1) where
 c0:=by have:=h.c0;show 0<=M.calls+1;omega
 calls:=by have:=h.calls;show M.calls+1<=_;omega
 f0:=h.f0
 fr:=h.fr
 rc:=by have:=h.rc;show M.refused<=M.calls+1;omega
 r0:=h.r0
 r1:=h.r1
 part:=h.part
 AG:=h.AG
 AQ:=h.AQ
 AK:=h.AK
 Ad:=h.Ad
 once:=h.once
 Bl:=II _
 BT:=fun x a=>by
  rcases IW.1 a with e|e
  .rw[e];exact h.dir
  .cases e
 dir:=h.dir
def DM.born(M:DM)(a:ByteArray)(f:Nat)(r:Int)(d:Bool):DM:={M with calls:=M.calls+1,refused:=r,dead:=d,ids:=f::M.ids,file:=fun g=>if g=f then⟨[],0⟩ else M.file g,dir:=M.dir++[(a,f)],Bl:=M.Bl++[M.dir++[(a,f)]]}
theorem TM{M:DM}{t k:Nat}(h:Bk M t k)(m:t<=1000000)(j:k<=2000000){a:ByteArray}(g:a≠ByteArray.empty)(l:M.dir.look a=none)(f:Nat) :
 (M.create a f=(0,M.born a f M.refused M.dead)/\Pass M)\/(∃ d,M.create a f=(9,M.no d)/\Stop M d)\/(M.create a f=(9,M.born a f (M.refused+1) true)/\Stop M true):=by
 unfold DM.create;rw[It (by rw[l];rintro(e|e);exact g e;cases e)];rcases YX h m j with⟨e,c⟩|⟨b,d,e,i,c⟩
 .refine .inl ⟨?_,c⟩
  simp only[e,Gh]
  rfl
 .cases b with
  | false =>
   refine .inr (.inl ⟨d,?_,c⟩);simp only[e]
   rfl
  | true =>
   rw[i rfl] at e c;refine .inr (.inr ⟨?_,c⟩);simp only[e,Gh]
   rfl
theorem Bd.born{M:DM}{t:Nat}(h:Bd M t)(c:ByteArray)(f:Nat)(o:f∉M.ids)(r:Int)(d:Bool)(u:M.refused<=r)(v:r<=M.refused+1):Bd (M.born c f r d) (t+1) where
 c0:=by have:=h.c0;show 0<=M.calls+1;omega
 calls:=by have:=h.calls;show M.calls+1<=_;omega
 f0:=h.f0
 fr:=by have:=h.fr;show M.Bo<=r;omega
 rc:=by have:=h.rc;show r<=M.calls+1;omega
 r0:=h.r0
 r1:=h.r1
 part:=h.part
 AG:=fun g s=>by
  show(if g=f then(⟨[],0⟩:FM) else M.file g).bytes.length<=_;split
  .simp
  .rcases IW.1 s with e|e
   .contradiction
   .have:=h.AG g e;omega
 AQ:=Fj.2 ⟨o,h.AQ⟩
 AK:=EO h.AK
 Ad:=fun e i=>by
  rcases Ir.1 i with i|i
  .exact Iq _ (h.Ad e i)
  .rw[Iv] at i;subst i;exact Is ..
 once:=by
  show((M.dir++[(c,f)]).map (·.2)).Nodup;rw[IL,GH];refine⟨h.once,by simp,fun a q b m e=>?_⟩;simp only[IJ,Gm,Iv] at m;obtain⟨x,l,rfl⟩:=Iy.1 q;exact o (by rw[<- m,<- e];exact h.Ad x l)
 Bl:=by show(M.Bl++[_]).length<=_;rw[Il,Ix];have:=h.Bl;omega
 BT:=fun x l=>by
  have k:=h.BT x;have j:x∈M.safe::(M.Bl++[M.dir++[(c,f)]]):=l;simp only[IW,Ir,Fk,Dw] at j k;rcases j with e|e|e
  .exact Gv (k (.inl e))
  .exact Gv (k (.inr e))
  .rw[e,Il,Ix];have:=h.dir;omega
 dir:=by show(M.dir++[_]).length<=_;rw[Il,Ix];have:=h.dir;omega
def DM.put(M:DM)(f:Nat)(l:List UInt8)(r u:Int)(d:Bool):DM:={M with calls:=M.calls+1,refused:=r,Bo:=u,dead:=d,file:=fun g=>if g=f then {M.file f with bytes:=(M.file f).bytes++l} else M.file g}
theorem Ys(M:DM)(f:Nat)(l:List UInt8)(r u:Int)(d:Bool)(g:Nat):((M.put f l r u d).file g).bytes=if g=f then(M.file f).bytes++l else(M.file g).bytes:=by
 show(if g=f then {M.file f with bytes:=(M.file f).bytes++l} else M.file g:FM).bytes=_;split <;> rfl
theorem T4(M:DM)(f:Nat)(l:List UInt8)(r u:Int)(d:Bool)(g:Nat):((M.put f l r u d).file g).safe=(M.file g).safe:=by
 show(if g=f then {M.file f with bytes:=(M.file f).bytes++l} else M.file g:FM).safe=_;split
 .rename_i e;subst e;rfl
 .rfl
theorem Bk.left{M:DM}{t k:Nat}(h:Bk M t k)(a:t<=1000000):M.left=if M.room<M.BU then 0 else M.room-M.BU:=by
 have d:=h.BU a;have g:=h.r0;have i:=h.r1;have b:M.used=M.BU:=M.xl (by omega);have c:IntKind.i64.wrap (M.room-(M.BU:Int))=M.room-(M.BU:Int):=by rw[Hg];omega
 unfold DM.left;rw[b,c];by_cases e:M.room<M.BU
 .rw[IC e,IC (by omega)]
 .rw[It e,It (by omega)]
theorem Nk{M:DM}{t n:Nat}(h:Bk M t n)(p:t<=1000000)(x:n<=2000000){i:ByteArray}{f:Nat}(y:M.dir.look i=some f)(a:ByteArray) :
 ∃ e k r u d,M.add i a=(e,M.put f (a.data.toList.take k) r u d)/\k<=a.size /\
  ((e=0/\k=a.size/\r=M.refused/\u=M.Bo/\d=M.dead/\Pass M)\/(r=M.refused+1/\((e=9/\u=M.Bo/\Stop M d)\/(e=10/\u=M.Bo+1/\d=M.dead/\M.dead=false/\M.room<M.BU+a.size)))):=by
 have v:a.data.toList.length=a.size:=by rw[GF];rfl
 have o:∀ n:Nat,(a.extract 0 n).data.toList=a.data.toList.take n:=by
  intro n;rw[ByteArray.data_extract];simp
 have C:=h.rc;have D:=h.fr;have E:=h.f0;have B:=h.calls;have q:wrap64 (M.refused+1)=M.refused+1:=by unfold wrap64;omega
 have s:wrap64 (M.Bo+1)=M.Bo+1:=by unfold wrap64;omega
 have j:∀ (r:Int) (d:Bool),DM.left {M with calls:=M.calls+1,refused:=r,dead:=d}=M.left:=fun r d=>rfl;have m:=h.left p;unfold DM.add;rw[y];simp only;rcases YX h p x with⟨e,l⟩|⟨b,d,e,G,l⟩
 .have ht1:M.tries a.size=some (a.size:Int):=by unfold DM.tries;rw[e];rfl
  simp only[ht1,e];rw[show DM.left {M with calls:=M.calls+1}=M.left from rfl,m];by_cases c:(if M.room<(M.BU:Int) then 0 else M.room-(M.BU:Int))<a.size
  .rw[IC c]
   simp only[Gh];rw[q,s,o];refine⟨10,min (if M.room<(M.BU:Int) then 0 else M.room-(M.BU:Int)).toNat a.size,M.refused+1,M.Bo+1,M.dead,?_,Cp _ _,.inr ⟨rfl,.inr ⟨rfl,rfl,rfl,l.dead,?_⟩⟩⟩
   .rw[Hx (by split at c <;> omega)]
    rfl
   .split at c <;> omega
  .rw[It c]
   refine⟨0,a.size,M.refused,M.Bo,M.dead,?_,Io _,.inl ⟨rfl,rfl,rfl,rfl,rfl,l⟩⟩;rw[DV,o]
   rfl
 .cases ht1:M.tries a.size with
  | none =>
   simp only[e];refine⟨9,0,M.refused+1,M.Bo,d,?_,II _,.inr ⟨rfl,.inl ⟨rfl,rfl,l⟩⟩⟩
   congr 1
   unfold DM.put
   congr 1
   funext g
   split
   .rename_i e';subst e';simp
   .rfl
  | some n =>
   have A:0<=n/\n<=a.size:=by
    unfold DM.tries at ht1;split at ht1
    .obtain rfl:=Hb ht1
     exact⟨by omega,FH _⟩
    .split at ht1
     .rename_i h2
      obtain rfl:=Hb ht1;exact⟨Int.tmod_nonneg _ h.part,Bb (Int.tmod_lt_of_pos _ h2.2)⟩
     .cases ht1
   simp only[e];rw[j,m];by_cases c:(if M.room<(M.BU:Int) then 0 else M.room-(M.BU:Int))<n
   .rw[IC c,It (by decide),o]
    exact⟨9,(if M.room<(M.BU:Int) then 0 else M.room-(M.BU:Int)).toNat,M.refused+1,M.Bo,d,rfl,by split at c <;> omega,.inr ⟨rfl,.inl ⟨rfl,rfl,l⟩⟩⟩
   .rw[It c,o]
    exact⟨9,n.toNat,M.refused+1,M.Bo,d,rfl,by omega,.inr ⟨rfl,.inl ⟨rfl,rfl,l⟩⟩⟩
theorem Bk.put{M:DM}{t k:Nat}(h:Bk M t k)(f:Nat)(l:List UInt8)(b:f∈M.ids->(M.file f).bytes.length+l.length<=2000*(t+100))(r u:Int)(d:Bool)(c:M.refused<=r)(i:r<=M.refused+1)(j:M.Bo<=u)(o:u-M.Bo<=r-M.refused):Bk (M.put f l r u d) t (k+1) where
 c0:=by have:=h.c0;show 0<=M.calls+1;omega
 calls:=by have:=h.calls;show M.calls+1<=_;omega
 f0:=by have:=h.f0;show 0<=u;omega
 fr:=by have:=h.fr;show u<=r;omega
 rc:=by have:=h.rc;show r<=M.calls+1;omega
 r0:=h.r0
 r1:=h.r1
 part:=h.part
 AG:=fun g a=>by
  rw[Ys];split
  .rename_i e;subst e;rw[Il];exact b a
  .exact h.AG g a
 AQ:=h.AQ
 AK:=h.AK
 Ad:=h.Ad
 once:=h.once
 Bl:=Gv h.Bl
 BT:=h.BT
 dir:=h.dir
theorem Bd.put{M:DM}{t:Nat}(h:Bd M t)(f:Nat)(l:List UInt8)(o:l.length<=2000)(r u:Int)(d:Bool)(b:M.refused<=r)(c:r<=M.refused+1)(e:M.Bo<=u)(i:u-M.Bo<=r-M.refused):Bd (M.put f l r u d) (t+1):=by
 have a:=Bk.put (t:=t+1) (Bk.more h (GA _)) f l (fun j=>by have:=h.AG f j;omega) r u d b c e i;exact⟨a.c0,by have:=h.calls;show M.calls+1<=_;omega,a.f0,a.fr,a.rc,a.r0,a.r1,a.part,a.AG,a.AQ,a.AK,a.Ad,a.once,by have:=h.Bl;show M.Bl.length<=_;omega,a.BT,a.dir⟩
theorem Jv{M:DM}{t k:Nat}(h:Bk M t k)(f:Nat)(l:List UInt8)(r u:Int)(d:Bool):(M.put f l r u d).BU<=M.BU+l.length:=by
 have a:=R2 (f:=f) (n:=l.length) (fun k=>(M.file k).bytes.length) M.dir h.once;unfold DM.BU;simp only[Ys];have e:(fun e:ByteArray × Nat=>(if e.2=f then(M.file f).bytes++l else(M.file e.2).bytes).length)=fun e=>if e.2=f then(M.file e.2).bytes.length+l.length else(M.file e.2).bytes.length:=by
  funext g
  split
  .rename_i e;rw[<- e];simp
  .rfl
 rw[e];exact a
end Go.Proofs.YtkhnggkkiefcdaaGreatDoor
namespace Go.Proofs.YtkhnggkkiefcdaaGreatDoor
open Go.RowKit Go.Shelf
set_option maxRecDepth 100000
set_option maxHeartbeats 8000000
attribute [local go_sem] GX
theorem XR{F:Fence}{n:Nat}{P:Program}{g:Operand}{R:Array Tmp}{assign body:Code}{Q:Exit->Act->World->Prop}{a:Act}{w:World}
 (a7:F.round=none)(h1:1<=n){gf:Nat}{lb:Array Value}(hg:a.eval g=.func (.func gf) #[] lb)(V:F.fn gf)(eg:∀ args w,(callFunc gf args).run P w=.ok (.enter gf args) w)
 (N:Nat)(b:Nat->Array Value)(a6:∀ i,(b i).size=R.size)(I:Nat->World->Prop)(s:OwnFrom w.heap.size I)(h0:I 0 w)
 (M:∀ (l:Nat)(J:Nat->World->Prop)(W:World),Below w.heap.size w W->AbidesFrom W.heap.size J->(∀ i C,J i C->I i C) ->
   (∀ i C,i<N->J i C->YieldAt F (n-1-1) P l (b i) C fun e y=>e=.returned (.bool true)/\J (i+1) y)->J 0 W ->
   CallsIn F (n-1) P gf (#[.func (.yield l) #[] #[]]++lb) W fun e y=>(∃ v,e=.returned v)/\J N y)
 (a1:Nat->Act)
 (c:∀ (l i:Nat)(W:World)(K:Act->World->Prop),K (a1 i) W ->
   assign.wpIn (F.inRound l) (n-1-1) P (Exit.then K (fun _ _ _=>False)) {tmps:=(R.zip (b i)).foldl (fun t (p,v)=>t.setIfInBounds p v) a.tmps,defers:=[]} W)
 (d:∀ (l i:Nat)(W:World),i<N->I i W->body.wpIn (F.inRound l) (n-1-1) P (ownPostK (fun _ _=>True) (fun _ y=>I (i+1) y) (fun _ (_:List Unit) _=>False) [] W) (a1 i) W)
 (f:∀ (D:Nat)(W:World),w.heap.size<=D->I N W->W.heap[D]?=some (.deferred (some []))->Q .normal {a with defers:={target:=.collected D,args:=#[]}::a.defers} W) :
 (Code.rangeFunc g R assign body).wpIn F n P Q a w:=by
 refine wpIn_rangeFunc fun fn a0=>?_;rw[a7];obtain⟨r,x⟩:∃ r:LoopState->Loop,r=fun st=>{state:=st,pending:=none,fn,tmps:=a.tmps,params:=R,assign,body,defers:=w.heap.size}:=⟨_,rfl⟩;have k:∀ st,(r st).state=st/\(r st).pending=none:=fun st=>by rw[x];exact⟨rfl,rfl⟩
 have O:∀ st m,{r st with state:=m}=r m:=fun st m=>by rw[x]
 have b1:Below w.heap.size w ((w.alloc (.deferred (some []))).alloc (.loop (r .ready))):=((CF _ w).alloc (Io _) _).alloc (by simp) _;have i1:I 0 ((w.alloc (.deferred (some []))).alloc (.loop (r .ready))):=s.alloc _ (s.alloc _ h0);have l1:((w.alloc (.deferred (some []))).alloc (.loop (r .ready))).heap[w.heap.size+1]?=some (.loop (r .ready)):=by
  have:=World.alloc_heap_new (w.alloc (.deferred (some []))) (.loop (r .ready))
  rwa [FE] at this
 have d1:((w.alloc (.deferred (some []))).alloc (.loop (r .ready))).heap[w.heap.size]?=some (.deferred (some [])) :=
  (Eg _ _ _ (by simp)).trans (World.alloc_heap_new w _)
 have G:(Instr.enterLoop fn a.tmps R assign body none).run P w=.ok (w.heap.size+1,[{target:=.collected w.heap.size,args:=#[]}]) ((w.alloc (.deferred (some []))).alloc (.loop (r .ready))):=by
  rw[x];exact run_enterLoop_outer _ _ _ _ _
 have hz:w.heap.size+2<=((w.alloc (.deferred (some []))).alloc (.loop (r .ready))).heap.size:=by simp
 generalize (w.alloc (.deferred (some []))).alloc (.loop (r .ready))=T at b1 i1 l1 d1 G hz;refine⟨w.heap.size+1,_,T,{target:=.fn (.func gf) lb,args:=#[.func (.yield (w.heap.size+1)) #[] #[]]},T,gf,#[.func (.yield (w.heap.size+1)) #[] #[]]++lb,T,G,?_,?_,?_,fun _=>h1,?_⟩
 .simp only[resolve,hg]
  simp[go_sem]
 .intro f' hf'
  simp[Target.leads] at hf';subst hf';exact V
 .simp[invoke,go_sem,eg]
 .refine(M (w.heap.size+1) (fun i W=>I i W/\W.heap[w.heap.size+1]?=some (.loop (r .ready))/\W.heap[w.heap.size]?=some (.deferred (some []))) T b1 ?_ (fun _ _ h=>h.1) ?_ ⟨i1,l1,d1⟩).mono ?_
  .rintro i A B row ⟨h,hl,hd⟩ hgr hrow
   have hw:∀ q,row=some q->∃ o:Obj,A.heap[q]?=some o/\o.isWalk=true:=fun q e=>(hrow q e).2;exact⟨s i A B row h hgr (fun q e=>by obtain⟨hq,o,ho,a8⟩:=hrow q e;exact⟨by omega,o,ho,Obj.not_cells_of_walk a8⟩),(grownBy_keeps hgr hw hl rfl).trans hl,(grownBy_keeps hgr hw hd rfl).trans hd⟩
  .rintro i W hi ⟨h,hl,hd⟩
   have a5:w.heap.size+1<W.heap.size:=(Hr.1 hl).1;have hy:=run_yield (P:=P) (args:=b i) hl (by rw[x];exact a6 i);rw[x] at hy;refine⟨fn,_,assign,body,hy,roundIn_of_wpIn a0 (c _ i W _ ⟨_,run_beginRound hl (k _).1,?_⟩)⟩;rw[O];have a4:(W.putObj (w.heap.size+1) (.loop (r .busy))).heap[w.heap.size+1]?=some (.loop (r .busy)):=World.putObj_heap_same a5;have X:(W.putObj (w.heap.size+1) (.loop (r .busy))).heap[w.heap.size]?=some (.deferred (some [])):=(Ei (by omega)).trans hd;refine wpIn_mono (d _ i _ hi (s.putObj _ h (by omega) hl rfl)) ?_;rintro e a3 W3 u;cases e with
   | normal =>
    obtain⟨L,-,a2⟩:=u;have j:=L.same _ _ a4 rfl;have Y:=L.same _ _ X rfl;have E:=run_endRound (P:=P) none j;have e2:({r .busy with state:=if (none:Option Code).isNone then .ready else .done,pending:=none}:Loop)=r .ready:=by rw[x];rfl
    rw[e2] at E;exact⟨_,_,E,rfl,s.putObj _ a2 (by omega) j rfl,World.putObj_heap_same (Hr.1 j).1,(Ei (by omega)).trans Y⟩
   | ret=>exact u.2.elim
   | exit id=>exact u.2.elim
   | goto t=>exact u.2.elim
   | panic ch=>exact u.elim
   | outgrown=>exact u.elim
  .rintro e W2 ⟨⟨v,rfl⟩,h,hl,hd⟩
   have E:=run_endLoop (P:=P) hl (by rw[(k _).1];decide);rw[(k _).2] at E;exact⟨none,_,E,f _ _ (Io _) (s.putObj _ h (by omega) hl rfl) ((Ei (by omega)).trans hd)⟩
def ZZ(a:List (Nat × ByteArray))(i:Nat):Nat × ByteArray:=a.getD i (0,ByteArray.empty)
def T6(a:List (Nat × ByteArray))(i:Nat):Array Value:=#[.int .i64 (ZZ a i).1,.string (ZZ a i).2]
theorem Pg(F:Fence)(n:Nat)(L:F.fn 187)(u:F.round=none)(hn:1<=n)(l x C:Nat)(v:Value)(a:List (Nat × ByteArray))(J:Nat->World->Prop)
 (W:World)(hl:a.length<4611686018427387904)
 (M:AbidesFrom W.heap.size J)(d:∀ i f,J i f->f.ownsRow 0 268 2 v a.length (Zp a))
 (N:∀ i f,i<a.length->J i f->YieldAt F (n-1) Tryz.prog l (T6 a i) f fun e q=>e=.returned (.bool true)/\J (i+1) q)
 (K:W.cell? ⟨x,0,none⟩=some (.pointer (some ⟨C,0,none⟩)))(T:W.cell? ⟨C,0,none⟩=some v)(A:J 0 W) :
 CallsIn F n Tryz.prog 187 #[.func (.yield l) #[] #[],.pointer (some ⟨x,0,none⟩)] W fun e q=>(∃ r,e=.returned r)/\J a.length q:=by
 obtain⟨I,s,rfl⟩:=zg (d 0 W A);refine CV Tryz.func187 rfl L ?_ u;simp only[Tryz.ntmps187,GP,Iz,Ho,Nat.reduceAdd,Nat.reduceSub,GV,GW,Fv,Fc,Hh,IU]
 gi_wp2
 gi_loopw [10] (fun i wr=>∃ k:Nat,k<=a.length/\i=.int .i64 k/\J k wr) (fun i _=>a.length-(intOf i).toNat)
 case atStart=>exact⟨0,II _,rfl,A⟩
 case round =>
  obtain⟨k,Y,rfl,b⟩:=hrel;by_cases c:k<a.length
  .have hvr:=d _ _ b
   obtain⟨g,h,R,_,_⟩:=zv hvr (by omega);obtain⟨rfl,rfl⟩:I=some ⟨g,0,none⟩/\s=h:=by simpa using R
   have O:=own_cell? hvr (k*2) _ (Xo a k c).1;have Q:=own_cell? hvr (k*2+1) _ (Xo a k c).2;have j:J k (wr.alloc (.cells #[.int .i64 a[k].1,.string a[k].2] 268)):=M _ _ _ none b (DE ..) (fun r e=>by cases e);have m:=N k _ c j;rw[show T6 a k=#[.int .i64 a[k].1,.string a[k].2] by simp[T6,ZZ,List.getD_eq_getElem?_getD,List.getElem?_eq_getElem c]] at m;obtain⟨X,D,o,y,hy,B⟩:=m;have E:=Z b;have G:=Z B;clear j b B
   gi_wp2
   refine G.out.mono ?_;rintro e V ⟨rfl,t⟩
   gi_wp2
   go_roundw
   case rel=>exact⟨k+1,by omega,by simp,t⟩
   case measure=>simp[intOf];omega
  .obtain rfl:k=a.length:=by omega
   gi_wp2
   go_end0
   exact⟨⟨_,rfl⟩,b⟩
end Go.Proofs.YtkhnggkkiefcdaaGreatDoor
namespace Go.Proofs.YtkhnggkkiefcdaaGreatDoor
open Go.RowKit
set_option maxRecDepth 100000
set_option maxHeartbeats 8000000
theorem Sr(a:ByteArray)(f:Nat)(w:World)(b:Nat)(L:DL)(M:DM)(h:DRep w b L M)(l:M.dir.look a=some f) :
 Calls Tryz.prog 147 #[.pointer (some ⟨b,0,none⟩),.string a] w fun e r =>
  e=.returned (.tuple #[.string (zp (M.file f).bytes),.nilIface])/\Fr Nil w r:=by
 have j:M.size a=(((M.file f).bytes.length:Int),(0:Int)):=by simp[DM.size,l]
 have k:M.read a 0 (M.file f).bytes.length=(zp (M.file f).bytes,(0:Int)):=by
  simp only[DM.read,l];rw[IC (by omega)];simp
 have o:=Z (fun d (fr:Fr Nil w d)=>by have:=Tn a d b L M (h.fr fr (fun _ _=>id));rw[j] at this;exact this);have m:=Z (fun d (fr:Fr Nil w d)=>by have:=NK a 0 (M.file f).bytes.length d b L M (h.fr fr (fun _ _=>id));rw[k] at this;exact this);clear j k h;go_enter Tryz.func147,Tryz.ntmps147;go_wp2_with fail;refine(o.out w (U _ _)).mono ?_;rintro e s ⟨rfl,c⟩;go_wp2_with fail;refine(m.out s c).mono ?_;rintro e t ⟨rfl,g⟩;go_wp2_with fail;refine(Ye _ _ 0 t).mono ?_;rintro e u ⟨v,rfl,q,i⟩;obtain rfl:v=.nilIface:=q;go_wp2_with fail;go_ret2;exact⟨rfl,(c.trans g).trans i⟩
end Go.Proofs.YtkhnggkkiefcdaaGreatDoor
namespace Go.Proofs.YtkhnggkkiefcdaaGreatDoor
open Go.RowKit Go.Shelf
set_option maxRecDepth 100000
set_option maxHeartbeats 8000000
attribute [local go_sem] GX
theorem Jw{β:Type}(base:Nat)(e:TypeId)(size:Nat)(v:Value)(n:Nat)(l:List Value):Go.Own (fun(_:β) W=>W.ownsRow base e size v n l):=fun s X Y row d k a=>by
 refine World.ownsRow.kept d k ?_;rcases d.2 with⟨rfl,_⟩|⟨g,f,h,rfl,_,b,_⟩
 .exact .inl rfl
 .refine .inr fun i=>?_
  obtain⟨o,c,j⟩:=a g (by simpa [Value.ownBlock] using i.symm);rw[b] at c;cases c;cases j
theorem KeepsOthers.yY{S:Nat->Prop}{W b:World}(f:Fr S W b)(h:∀ k,S k->∃ t,Ty W k t):KeepsOthers W b :=
 ⟨f.size,fun k o a d=>(f.block k (Hr.1 a).1 (fun g=>by obtain⟨t,c,i,e⟩:=h k g;rw[a] at e;cases e;cases d)).trans a⟩
end Go.Proofs.YtkhnggkkiefcdaaGreatDoor
namespace Go.Proofs.YtkhnggkkiefcdaaGreatDoor
open Go.RowKit Go.Shelf
set_option maxRecDepth 100000
set_option maxHeartbeats 8000000
attribute [local go_sem] GX
theorem Blk.kept{W d:World}{row:Option Nat}{b:Nat}{c:List Value}{t:TypeId}(h:Blk W b c t)(e:W.grownBy d row)(a:some b≠row):Blk d b c t:=h.of_heap (e.block b h.lt a)
theorem Blk.put{W:World}{b D:Nat}{c:List Value}{t:TypeId}(h:Blk W b c t){o:Obj}(a:W.heap[D]?=some o)(i:o.isCells=false)(d:Obj):Blk (W.putObj D d) b c t :=
 h.kept (Dz W D d) (fun e=>by
  have e:b=D:=by simpa using e
  subst e;rw[show W.heap[b]?=_ from h] at a;cases a;cases i)
def JM.none(limit:Nat):JM:={limit:=limit,last:=0,name:=ByteArray.empty,size:=0,At:=false,Bp:=false}
end Go.Proofs.YtkhnggkkiefcdaaGreatDoor
namespace Go.Proofs.YtkhnggkkiefcdaaGreatDoor
open Go.RowKit
set_option maxRecDepth 100000
set_option maxHeartbeats 8000000
def SM.nil:SM:={keys:=[],hints:=[],Bh:=0}
def heldBy(a:List Seg):SM:=(Z5 a).foldl SM.enter SM.nil
theorem Uo{n:Nat}(h:n<9223372036854775808):ZW (.inl n):=by
 refine⟨⟨h,trivial⟩,?_⟩;have a:=zB (n:=1) (by decide);have b:=zB h;show(zk 1++zk n).length<_;rw[Il];omega
theorem X3(S:SM)(a:ByteArray)(l:List Ver):(S.holds a l).hints=S.hints:=by
 unfold SM.holds;split <;> rfl
theorem Ph:ZW (.inr (.inr (.inr ()))):=⟨⟨trivial,trivial⟩,by have:=zB (n:=4) (by decide);show(zk 4).length<_;omega⟩
theorem Nl(x:Fact):(zw x).length<=(zj x).size:=by
 rw[TH,YO];simp[zS]
theorem XG{a:ByteArray}{l:List Ver}(b:zF a=true)(h:∀ u∈l,VOk u)(c:l.length<=5):ZW (.inr (.inl (a,l))):=by
 refine⟨⟨Wi b h c,fun v d=>(h v d).gone⟩,?_⟩;have e:=Nl (.inr (.inl (a,l)));have f:=YP b h c;omega
theorem VY{b:Nat}{a:ByteArray}(h:b<9223372036854775808)(c:a.size<=64):ZW (.inr (.inr (.inl (b,a)))):=by
 refine⟨⟨⟨h,by show a.size<_;omega⟩,trivial⟩,?_⟩;have d:=Nl (.inr (.inr (.inl (b,a))));have e:=XF h c;omega
theorem Yn(S:SM)(a:ByteArray)(l:List Ver):(S.holds a l).Bh=S.Bh:=by
 unfold SM.holds;split <;> rfl
theorem Ms{P:Program}{o:Oper}{a:Act}{w:World}{K j:Act->World->Prop}{Q:Exit->Act->World->Prop}(q n:Nat)(m:∀ c,o.op≠.defer c)(g:∀ a w,K a w->j a w)(h:o.wp P a w K Q):o.wpIn (Fence.wide.inRound q) n P a w j Q:=by
 refine⟨fun _ _=>trivial,?_⟩;rw[Oper.semAt_eq _ _ _ m];unfold Oper.wp at h;generalize (execOp a.eval o).run P w=r at h |-;cases r with
 | ok x p =>
  cases x <;> simp only[Oper.upon,Oper.uponIn] at h |-
  case value v=>exact g _ _ h
  case skip=>exact g _ _ h
  case defer d=>exact g _ _ h
  case enter f b =>
   refine⟨(fun e=>by cases e),Gl.2 (CX h ?_)⟩;intro e k i;cases e with
   | returned v=>exact g _ _ i
   | panicked c=>exact i
   | outgrown=>exact i
  case row row b =>
   refine⟨(fun e=>by cases e),fun c l _=>?_⟩;obtain⟨v,k,r,s⟩:=h c l;exact⟨v,k,g _ _ r,stepsIn_wide.2 s⟩
 | halt x p=>cases x <;> simp only[Oper.upon,Oper.uponIn] at h |- <;> exact h
theorem XX{P:Program}{k:Region.Mode}{g:Array Oper}{Q:Exit->Act->World->Prop}(q n:Nat)(j:∀ (i:Nat) o,g[i]?=some o->∀ c,o.op≠.defer c)(f:¬LetsOut Q):∀ (b:Nat)(d:Array Bool)(a:Act)(w:World),wpAny P k g Q b d a w->wpAnyIn (Fence.wide.inRound q) n P k g Q b d a w
 | 0,_,_,_,h=>h
 | b+1,d,a,w,h=>by
  refine⟨h.1,fun i l=>?_⟩;have e:=h.2 i l;unfold wpOp at e;unfold wpOpIn;cases ho:g[i]? with
  | none=>rw[ho] at e;exact XX q n j f b _ _ _ e
  | some o =>
   rw[ho] at e;simp only at e |-;split
   .rename_i hwt
    rw[IC hwt] at e;rcases e with e|e
    .exact Ms q n (j i o ho) (fun a w=>XX q n j f b _ a w) e
    .exact absurd e.2 f
   .rename_i hwt
    rw[It hwt] at e;exact⟨fun _ _=>trivial,XX q n j f b _ _ _ e⟩
theorem TN{P:Program}{b:Array Oper}{Q:Exit->Act->World->Prop}{q n id:Nat}{S:World->Prop}{a:Act}{w:World}(k:P.follows .mixedOrders=true)(g:(b.all fun o=>match o.op with|.defer _=>false|_=>true)=true)(d:¬LetsOut Q)(e:S w.drew)
 (h:S w.drew->wpAnyH P .any b Q S b.size (Array.replicate b.size false) a w.drew):(Code.region id b true).wpIn (Fence.wide.inRound q) n P Q a w :=
 wpIn_region_any k (XX q n (fun i o l c f=>by
  obtain⟨j,rfl⟩:=Hr.1 l;have:=Array.all_eq_true.1 g i j;rw[f] at this;cases this) d _ _ _ _ (wpAny_of_held _ _ _ _ (h e)))
theorem zW{P:Program}{g:Region.Mode}{e:Array Oper}{Q:Exit->Act->World->Prop}{S:World->Prop}(i:Nat)(d:Option Tmp){j:Oper}{v:Value}{f:Nat}{b:Array Bool}{a:Act}{w:World}(q:e[i]?=some j)(m:j.dst=d)
 (s:Region.noSelect e=true)(o:Region.free g e b i=true)(r:(Region.ready g e b).contains i=true)
 (k:∀ c a w,Q (.panic c) (a.put d v) w->Q (.panic c) a w)(t:YieldsIf P e S j v a)(l:S w)
 (h:wpAnyH P g e Q S f (b.setIfInBounds i true) (a.put d v) w):wpAnyH P g e Q S (f+1) b a w:=by
 subst m;exact wpAnyH_take q s o r k t l h
end Go.Proofs.YtkhnggkkiefcdaaGreatDoor
namespace Go.Proofs.YtkhnggkkiefcdaaGreatDoor
open Go.RowKit Go.Shelf
set_option maxRecDepth 100000
set_option maxHeartbeats 8000000
attribute [local go_sem] GX
def Odd(S:Nat->Prop)(w:World):Prop:=∀ k,S k->∃ o:Obj,w.heap[k]?=some o/\o.isCells=false
theorem Ty.odd{w:World}{k:Nat}{t:TypeId}{S:Nat->Prop}(h:Ty w k t)(d:Odd S w):¬S k:=fun e=>by
 obtain⟨c,f,h⟩:=h;obtain⟨o,a,b⟩:=d k e;rw[h] at a;cases a;cases b
theorem SRep.odd{S:Nat->Prop}{w d:World}{b:Nat}{L:SL}{X:SM}(h:SRep w b L X)(f:Fr S w d)(c:Odd S w):SRep d b L X :=
 h.fr f (fun k a=>by rcases h.BJ a with e|e|e <;> exact e.odd c) (fun k a=>(h.Ag a).odd c)
theorem DRep.odd{S:Nat->Prop}{w a:World}{b:Nat}{L:DL}{M:DM}(h:DRep w b L M)(f:Fr S w a)(d:Odd S w):DRep a b L M :=
 h.fr f (fun k c=>by obtain⟨t,e,_⟩:=h.ty c;exact e.odd d)
theorem SRep.yM{w:World}{b c:Nat}{a:SL}{X:SM}{L:DL}{M:DM}(h:SRep w c a X)(d:DRep w b L M){k:Nat}(f:Foot b L M k):¬SFoot c a k:=fun g=>by
 rcases h.BJ g with e|e|e
 all_goals exact d.apart e (by unfold DTy;decide) f
def Zw(a:List Seg)(i:Nat):Seg:=a.getD i ([],[])
def JM.read(a:Nat)(b:List (Nat × ByteArray))(c:List Seg):Nat->JM
 | 0=>JM.none a
 | i+1=>{limit:=a,last:=(ZZ b i).1,name:=(ZZ b i).2,size:=(Zv (Zw c i)).length,At:=decide (0<(Zw c i).2.length),Bp:=false}
def Mt(w:World)(m g b c:Nat)(e:SL)(j L:DL)(l M:DM)(v:Value)(f:List (Nat × ByteArray))(a:Nat)(h:List Seg)(i:Nat)(W:World):Prop :=
 ((Blk W (w.heap.size+3) [.pointer none] 119/\Blk W (w.heap.size+4) [.nilIface] 132/\Blk W m [.pointer (some ⟨g,0,none⟩)] 119/\JRep W g b (JM.read a f h i)) /\
 (Blk W w.heap.size [.pointer (some ⟨b,0,none⟩)] 40/\Blk W (w.heap.size+1) [.func (.func 95) #[] #[]] 166/\Blk W (w.heap.size+2) [.func (.func 96) #[.pointer (some ⟨c,0,none⟩)] #[]] 167)) /\
 ((∃ d,SRep W c d (heldBy (h.take i))/\(∀ k,SFoot c d k->SFoot c e k\/w.heap.size<=k)/\(∀ k,SRead d k->SRead e k\/w.heap.size<=k)) /\
 DRep W b L M/\W.ownsRow 0 268 2 v f.length (Zp f)) /\
 w.heap.size<=W.heap.size/\Fr (fun k=>SFoot c e k\/Foot b j l k) w W
theorem LK(w:World)(T O b Q:Nat)(y:SL)(x L:DL)(A M:DM)(v:Value)(K:List (Nat × ByteArray))(c:Nat)(R:List Seg)(B:Nat)(X:w.heap.size<=B):OwnFrom B (Mt w T O b Q y x L A M v K c R):=by
 intro i W V row h N t;have f:=Fr.BI N;have a:Odd (fun k=>row=some k) W:=fun k e=>(t k e).2;obtain⟨⟨⟨d,g,j,l⟩,m,o,q⟩,⟨⟨u,C,D,E⟩,G,r⟩,I,J⟩:=h;refine⟨⟨⟨d.fr f (d.ty.odd a),g.fr f (g.ty.odd a),j.fr f (j.ty.odd a),Blk.fr l f ((Blk.ty l).odd a)⟩,m.fr f (m.ty.odd a),o.fr f (o.ty.odd a),q.fr f (q.ty.odd a)⟩,
  ⟨⟨u,C.odd f a,D,E⟩,G.odd f a,ze r f (fun k s=>(zH r s).odd a)⟩,Im I f.size,J.trans' f (fun k s e=>?_)⟩
 have:=(t k e).1;omega
theorem OA(a:List Seg)(i:Nat)(h:i<a.length):heldBy (a.take (i+1))=(Zw a i).1.foldl SM.enter (heldBy (a.take i)):=by
 unfold heldBy Zw;rw[FI,IB h,Vu,Hm];simp[Z5,List.getD_eq_getElem?_getD,List.getElem?_eq_getElem h]
theorem KM(A B C:List Fact)(j:Nat):(A++(B++C)).take (A.length+min j B.length)=A++B.take j:=by
 rw[Dq,IH (Cq _ _),Nat.add_sub_cancel_left,Ha (Cp ..)]
 congr 1
 rcases EJ j B.length with h|h
 .rw[Hx h]
 .rw[Cr h,IH h,IH (Io _)]
theorem LL(a:List Seg)(i:Nat)(h:i<a.length)(j:Nat):((Zw a i).1.take j).foldl SM.enter (heldBy (a.take i))=((Z5 a).take ((Z5 (a.take i)).length+min j (Zw a i).1.length)).foldl SM.enter SM.nil:=by
 have e:Z5 a=Z5 (a.take i)++((Zw a i).1++Z5 (a.drop (i+1))):=by
  have b:Z5 a=Z5 (a.take i++a[i]::a.drop (i+1)):=by rw[<- Hs h,IG]
  rw[b,Vu];have c:Zw a i=a[i]:=by simp[Zw,List.getD_eq_getElem?_getD,List.getElem?_eq_getElem h]
  rw[c]
  rfl
 rw[show(Z5 a).take ((Z5 (a.take i)).length+min j (Zw a i).1.length)=Z5 (a.take i)++(Zw a i).1.take j by rw[e,KM],Hm]
 rfl
theorem OB(b:Nat) (L M2)(M:DM)(a:Nat)(C:Nat)(LS:SL)(u:List (Nat × ByteArray))(s:List Seg)(w:World)(h:DRep w b L M)(hs:SRep w C LS SM.nil)
 (j1:∀ wx,Fr Nil w wx->Calls Tryz.prog 144 #[.pointer (some ⟨b,0,none⟩)] wx fun e w'=>∃ T,e=.returned .nilIface/\DStep b L M wx T M2 w')
 (i0:∀ wx T,DRep wx b T M2->Fr (Foot b L M) w wx->Calls Tryz.prog 145 #[.pointer (some ⟨b,0,none⟩)] wx fun e w'=>∃ mb v,e=.returned (.pointer (some ⟨mb,0,none⟩))/\Blk w' mb [v] 263/\WT w' v u/\wx.heap.size<=mb/\(∀ k,v.ownBlock=some k->wx.heap.size<=k)/\Fr Nil wx w')
 (h8:u.length=s.length)(i5:u.length<1000000000)(b7:∀ i,i<u.length->∃ f,M2.dir.look (ZZ u i).2=some f/\(M2.file f).bytes=Zv (Zw s i))(i9:I6 s)
 (d1:∀ i,(((Z5 s).take i).foldl SM.enter SM.nil).keys.length<1099511627776/\(((Z5 s).take i).foldl SM.enter SM.nil).hints.length<1000000) :
 Calls Tryz.prog 94 #[.pointer (some ⟨b,0,none⟩),.int .i64 a,.func (.func 95) #[] #[],.func (.func 96) #[.pointer (some ⟨C,0,none⟩)] #[]] w fun e w' =>
  ∃ jb T d7,e=.returned (.tuple #[.pointer (some ⟨jb,0,none⟩),.nilIface])/\JRep w' jb b (JM.read a u s u.length)/\w.heap.size<=jb/\DRep w' b T M2/\(∀ k,Foot b T M2 k->Foot b L M k\/w.heap.size<=k) /\
   SRep w' C d7 (heldBy s)/\(∀ k,SFoot C d7 k->SFoot C LS k\/w.heap.size<=k)/\(∀ k,SRead d7 k->SRead LS k\/w.heap.size<=k)/\Fr (fun k=>SFoot C LS k\/Foot b L M k) w w':=by
 have k4:=Z j1;have j8:=Z i0;have HD:=Z h;have HS:=Z hs;clear j1 i0 h hs;refine(Gl (n:=8)).1 ?_;refine Ef Tryz.func94 rfl trivial ?_ rfl;simp only[Tryz.ntmps94,GP,Iz,Ho,Nat.reduceAdd,Nat.reduceSub,GV,GW,Fv,Fc,Hh,IU];have b0:=Blk.new w [.pointer (some ⟨b,0,none⟩)] 40;have f0:Fr Nil w (w.alloc (.cells #[.pointer (some ⟨b,0,none⟩)] 40)):=(U _ _).alloc _;have s0:(w.alloc (.cells #[.pointer (some ⟨b,0,none⟩)] 40)).heap.size=w.heap.size+1:=by simp
 gi_wp2_with fail
 generalize w.alloc (.cells #[.pointer (some ⟨b,0,none⟩)] 40)=wa at b0 f0 s0 |-;have f1:Fr Nil wa ((wa.alloc (.cells #[.func (.func 95) #[] #[]] 166)).alloc (.cells #[.func (.func 96) #[.pointer (some ⟨C,0,none⟩)] #[]] 167)):=((U _ _).alloc _).alloc _;have b1:=(Blk.new wa [.func (.func 95) #[] #[]] 166).alloc (.cells #[.func (.func 96) #[.pointer (some ⟨C,0,none⟩)] #[]] 167);have b2:=Blk.new (wa.alloc (.cells #[.func (.func 95) #[] #[]] 166)) [.func (.func 96) #[.pointer (some ⟨C,0,none⟩)] #[]] 167;rw[show(wa.alloc (.cells #[.func (.func 95) #[] #[]] 166)).heap.size=w.heap.size+2 by simp[s0]] at b2;rw[s0] at b1;have s1:((wa.alloc (.cells #[.func (.func 95) #[] #[]] 166)).alloc (.cells #[.func (.func 96) #[.pointer (some ⟨C,0,none⟩)] #[]] 167)).heap.size=w.heap.size+3:=by simp[s0]
 generalize (wa.alloc (.cells #[.func (.func 95) #[] #[]] 166)).alloc (.cells #[.func (.func 96) #[.pointer (some ⟨C,0,none⟩)] #[]] 167)=wb at b1 b2 f1 s1 |-;have b3:=Blk.new wb [.pointer none] 119;have b4:=Blk.new (wb.alloc (.cells #[.pointer none] 119)) [.nilIface] 132;have s3:(wb.alloc (.cells #[.pointer none] 119)).heap.size=w.heap.size+4:=by simp[s1]
 have s4:((wb.alloc (.cells #[.pointer none] 119)).alloc (.cells #[.nilIface] 132)).heap.size=w.heap.size+5:=by simp[s1]
 have f3:Fr Nil wb ((wb.alloc (.cells #[.pointer none] 119)).alloc (.cells #[.nilIface] 132)):=((U _ _).alloc _).alloc _;have b3:=b3.alloc (.cells #[.nilIface] 132);rw[s1] at b3;rw[s3] at b4;have b0:=(b0.fr f1 id).fr f3 id;have b1:=b1.fr f3 id;have b2:=b2.fr f3 id;generalize (wb.alloc (.cells #[.pointer none] 119)).alloc (.cells #[.nilIface] 132)=wc at b0 b1 b2 b3 b4 s4 f3 |-;have f:=(f0.trans f1).trans f3;rw[show w.heap.size+1+1+1=w.heap.size+3 from rfl,show w.heap.size+1+1=w.heap.size+2 from rfl,show w.heap.size+3+1=w.heap.size+4 from rfl] at *;have HX:=Z (show w.heap.size+5=wc.heap.size from s4.symm);have B:=Z (And.intro b0 (And.intro b1 (And.intro b2 (And.intro b3 b4))));have d5:=Z f;clear f0 f1 f3 s0 s1 s3 s4 b0 b1 b2 b3 b4 f;refine⟨trivial,?_⟩;refine(Gl.2 (k4.out wc d5.out)).mono ?_;rintro e m ⟨T,rfl,r⟩;have Y:∀ {k c t},Blk wc k c t->¬DTy t->¬Foot b L M k:=fun hb ht=>(HD.out.nil d5.out).apart hb.ty ht;have b9:=B.out.1.fr r.fr (Y B.out.1 (by unfold DTy;decide));have g1:=B.out.2.1.fr r.fr (Y B.out.2.1 (by unfold DTy;decide));have g2:=B.out.2.2.1.fr r.fr (Y B.out.2.2.1 (by unfold DTy;decide));have g3:=B.out.2.2.2.1.fr r.fr (Y B.out.2.2.2.1 (by unfold DTy;decide));have g4:=B.out.2.2.2.2.fr r.fr (Y B.out.2.2.2.2 (by unfold DTy;decide));have l9:w.heap.size+5<=m.heap.size:=by rw[HX.out];exact r.fr.size
 have F1:Fr (Foot b L M) w m:=(d5.out.mono (S':=Foot b L M) (fun _ _ e=>absurd e id)).trans r.fr;have d0:∀ k,Foot b T M2 k->Foot b L M k\/w.heap.size<=k:=fun k o=>(r.BF k o).imp id (fun e=>by have:=HX.out;omega);have d3:SRep m C LS SM.nil:=HS.out.fr F1 (fun k o hf=>HS.out.yM HD.out hf o) (fun k o=>HD.out.apart (HS.out.Ag o) (by unfold DTy;decide));have e5:=r.Bt;have k5:=b9.cell 0;clear r Y;have f4:Fr Nil m ((m.alloc (.cells #[.pointer (some ⟨b,0,none⟩),.int .i64 a,.int .i64 0,.string ⟨#[]⟩,.int .i64 0,.bool false,.bool false] 197)).alloc (.cells #[.pointer (some ⟨m.heap.size,0,none⟩)] 119)):=((U _ _).alloc _).alloc _;have bj:=(Blk.new m [.pointer (some ⟨b,0,none⟩),.int .i64 a,.int .i64 0,.string ⟨#[]⟩,.int .i64 0,.bool false,.bool false] 197).alloc (.cells #[.pointer (some ⟨m.heap.size,0,none⟩)] 119);have bp:=Blk.new (m.alloc (.cells #[.pointer (some ⟨b,0,none⟩),.int .i64 a,.int .i64 0,.string ⟨#[]⟩,.int .i64 0,.bool false,.bool false] 197)) [.pointer (some ⟨m.heap.size,0,none⟩)] 119;rw[show(m.alloc (.cells #[.pointer (some ⟨b,0,none⟩),.int .i64 a,.int .i64 0,.string ⟨#[]⟩,.int .i64 0,.bool false,.bool false] 197)).heap.size=m.heap.size+1 by simp] at bp;have sp:((m.alloc (.cells #[.pointer (some ⟨b,0,none⟩),.int .i64 a,.int .i64 0,.string ⟨#[]⟩,.int .i64 0,.bool false,.bool false] 197)).alloc (.cells #[.pointer (some ⟨m.heap.size,0,none⟩)] 119)).heap.size=m.heap.size+2:=by simp
 have g5:=(b9.fr f4 id).cell 0
 gi_wp2_with fail
 generalize (m.alloc (.cells #[.pointer (some ⟨b,0,none⟩),.int .i64 a,.int .i64 0,.string ⟨#[]⟩,.int .i64 0,.bool false,.bool false] 197)).alloc (.cells #[.pointer (some ⟨m.heap.size,0,none⟩)] 119)=wp at bp sp bj f4 g5 |-;have F3:Fr (Foot b L M) w wp:=F1.trans (f4.mono (S':=Foot b L M) (fun _ _ e=>absurd e id));have h7:=e5.nil f4;refine⟨trivial,?_⟩;refine(Gl.2 (j8.out wp T h7 F3)).mono ?_;rintro e w2 ⟨mb,v,rfl,e9,b6,i7,j5,e7⟩;have m0:m.heap.size+2<=w2.heap.size:=by have:=e7.size;omega
 have d2:=e9.lt
 gi_wp2_with fail
 refine⟨trivial,?_⟩;refine(Gl.2 (TK mb _)).mono ?_;rintro e w3 ⟨rfl,rfl⟩;have bM:=DH w2 211 (.pointer (some ⟨mb,0,none⟩));have f5:Fr Nil w2 (w2.alloc (.cells #[.pointer (some ⟨mb,0,none⟩)] 211)):=(U _ _).alloc _;have s5:(w2.alloc (.cells #[.pointer (some ⟨mb,0,none⟩)] 211)).heap.size=w2.heap.size+1:=by simp
 generalize w2.alloc (.cells #[.pointer (some ⟨mb,0,none⟩)] 211)=W0 at bM f5 s5;have a8:=e7.trans f5;have I:=f4.trans a8;have i6:=e9.fr f5 id;have k3:Hid (Mt w (m.heap.size+1) m.heap.size b C LS L T M M2 v u a s 0 W0) :=
  ⟨⟨⟨g3.fr I id,g4.fr I id,bp.fr a8 id,bj.fr a8 id⟩,b9.fr I id,g1.fr I id,g2.fr I id⟩,⟨⟨LS,d3.nil I,fun k o=>.inl o,fun k o=>.inl o⟩,e5.nil I,ze b6.own f5 (fun _ _=>id)⟩,by omega,(F3.mono (S':=fun k=>SFoot C LS k\/Foot b L M k) (fun _ _ e=>.inr e)).trans (a8.mono (fun _ _ e=>absurd e id))⟩
 have l5:Below W0.heap.size W0 W0:=CF _ _;have a0:=Z (And.intro d2 (And.intro (i6.cell 0) s5));clear b9 g1 g2 g3 g4 bj bp k5 g5 f4 sp F3 h7 e9 b6 i7 j5 e7 d2 f5 a8 I i6 d3 e5;have d6:=Z (And.intro h8 i5);have j9:=Z b7;have k2:=Z i9;have k1:=Z d1;have k0:=Z d0;clear h8 i5 b7 i9 d1 d0
 gi_wp2_with fail
 refine XR rfl (by decide) (gf:=187) (lb:=#[.pointer (some ⟨w2.heap.size,0,none⟩)]) rfl trivial (EX Tryz.func187 (by kernel_rfl) rfl)
  u.length (T6 u) (fun _=>rfl) _ (LK w (m.heap.size+1) m.heap.size b C LS L T M M2 v u a s W0.heap.size (by have:=a0.out.2.2;omega)) k3.out
  (fun k J W hW hJ hI hY h0=>Pg Fence.wide 7 trivial rfl (by decide) k w2.heap.size mb v u J W (by have:=d6.out.2;omega) hJ (fun i W1 h=>(hI i W1 h).2.1.2.2) hY ((hW.cell (p:=⟨w2.heap.size,0,none⟩) (by have:=a0.out.2.2;simp only;omega)).trans bM.cell) ((hW.cell (p:=⟨mb,0,none⟩) (by have:=a0.out;simp only;omega)).trans a0.out.2.1) h0)
  (fun i=>{tmps:=#[.pointer (some ⟨b,0,none⟩),.int .i64 a,.func (.func 95) #[] #[],.func (.func 96) #[.pointer (some ⟨C,0,none⟩)] #[],.pointer (some ⟨w.heap.size,0,none⟩),undef,.pointer (some ⟨w.heap.size+1,0,none⟩),.pointer (some ⟨w.heap.size+2,0,none⟩),.pointer (some ⟨w.heap.size+3,0,none⟩),.pointer (some ⟨w.heap.size+4,0,none⟩),.nilIface,.pointer (some ⟨m.heap.size+1,0,none⟩),.int .i64 (ZZ u i).1,.string (ZZ u i).2,undef,undef,undef,.pointer (some ⟨b,0,none⟩),.nilIface,.nilIface,.bool false,undef,undef,.pointer (some ⟨b,0,none⟩),.int .i64 a,.agg #[.pointer (some ⟨b,0,none⟩),.int .i64 a,.int .i64 0,.string ⟨#[]⟩,.int .i64 0,.bool false,.bool false],.pointer (some ⟨m.heap.size,0,none⟩),.pointer (some ⟨b,0,none⟩),.pointer (some ⟨mb,0,none⟩),.func (.func 187) #[] #[.pointer (some ⟨w2.heap.size,0,none⟩)],.int .i64 (ZZ u i).1,.string (ZZ u i).2,undef,undef,undef,undef,undef,undef,undef,undef,undef,undef,undef,undef,undef,undef,undef,undef,undef,undef,undef,undef,undef,undef,undef,undef,undef,undef,undef,undef,undef,undef,undef,undef,undef],defers:=[]}) ?assign ?body ?done
 case assign =>
  intro l x W K Q;unfold T6
  gi_wp2
  exact Q
 case body =>
  rintro q i W hi ⟨⟨⟨a1,a2,a3,a4⟩,a5,a6,a7⟩,⟨⟨L',c1,c2,c3⟩,c4,c5⟩,c6,c7⟩;obtain⟨f,i1,h9⟩:=j9.out i hi;have c8:i<s.length:=by have:=d6.out.1;omega
  have j0:WA (Zw s i):=by
   have:Zw s i=s[i]:=by simp[Zw,List.getD_eq_getElem?_getD,List.getElem?_eq_getElem c8]
   rw[this];exact k2.out _ (Iu c8)
  obtain⟨i2,tb,j2,j3,j4⟩:=j0;have b5:=Sr (ZZ u i).2 f W b T M2 c4 i1;rw[h9] at b5;have V:=Z b5;have E:=Z (fun wx (fr:Fr Nil W wx)=>P1 (Zw s i).1 i2 (Zw s i).2 tb j2 j3 j4 C L' (heldBy (s.take i)) wx (c1.nil fr) (fun j=>by rw[LL s i c8 j];exact k1.out _));rw[<- OA s i c8] at E;rw[show zD (Zw s i).1++(Zw s i).2=Zv (Zw s i) from rfl] at E;have b8:Hid (JM.read a u s (i+1)={limit:=a,last:=(ZZ u i).1,name:=(ZZ u i).2,size:=(Zv (Zw s i)).length,At:=decide (0<(Zw s i).2.length),Bp:=false}):=show _=_ from rfl;have g0:Hid (∃ l d,JRep W m.heap.size b {limit:=a,last:=l,name:=(JM.read a u s i).name,size:=(JM.read a u s i).size,At:=(JM.read a u s i).At,Bp:=d}/\d=false):=by
   cases i with
   | zero=>exact⟨_,_,a4,rfl⟩
   | succ i=>exact⟨_,_,a4,rfl⟩
  have k6:=a5.cell 0;have R:=Z (And.intro a1 (And.intro a2 (And.intro a3 (And.intro a5 (And.intro a6 a7)))));have O:=Z (And.intro c1 (And.intro c2 (And.intro c3 (And.intro c4 (And.intro c5 (And.intro c6 c7))))));clear a1 a2 a3 a4 a5 a6 a7 c1 c2 c3 c4 c5 c6 c7 i1 h9 b5 i2 j2 j3 j4;generalize l1:ZZ u i=en at V b8 |-;generalize l2:Zv (Zw s i)=sg at V E b8;generalize l3:(Zw s i).2.length=tl at E b8;clear l2 l3 l1
  gi_wp2_with fail
  refine⟨trivial,?_⟩;refine(Gl.2 V.out).mono ?_;rintro e W2 ⟨rfl,f2⟩;have k7:=(R.out.2.2.2.2.1.fr f2 id).cell 0;have k8:=(R.out.2.2.2.2.2.fr f2 id).cell 0;have g:=Z f2;clear k6 f2
  gi_wp2_with fail
  refine⟨trivial,?_⟩;refine(Gl.2 (E.out W2 g.out)).mono ?_;rintro e W3 ⟨rfl,L3,r1,r2,r3,r4⟩;have d4:∀ k,SFoot C L' k->∃ t,Ty W2 k t:=fun k o=>by
   rcases (O.out.1.nil g.out).BJ o with e|e|e <;> exact⟨_,e⟩
  have y:∀ {k c t},Blk W2 k c t->t≠161->t≠239->t≠75->¬SFoot C L' k:=fun hb h1 h2 h3 o=>by
   rcases (O.out.1.nil g.out).BJ o with e|e|e
   .exact h1 (hb.ty.inj e)
   .exact h2 (hb.ty.inj e)
   .exact h3 (hb.ty.inj e)
  have d8:=(R.out.1.fr g.out id).fr r2 (y (R.out.1.fr g.out id) (by decide) (by decide) (by decide));have d9:=(R.out.2.1.fr g.out id).fr r2 (y (R.out.2.1.fr g.out id) (by decide) (by decide) (by decide));have c0:=(R.out.2.2.1.fr g.out id).fr r2 (y (R.out.2.2.1.fr g.out id) (by decide) (by decide) (by decide));have e0:=(R.out.2.2.2.1.fr g.out id).fr r2 (y (R.out.2.2.2.1.fr g.out id) (by decide) (by decide) (by decide));have e1:=(R.out.2.2.2.2.1.fr g.out id).fr r2 (y (R.out.2.2.2.2.1.fr g.out id) (by decide) (by decide) (by decide));have e2:=(R.out.2.2.2.2.2.fr g.out id).fr r2 (y (R.out.2.2.2.2.2.fr g.out id) (by decide) (by decide) (by decide));obtain⟨jl,jd,e8,rfl⟩:=g0.out;have a9:Blk W3 m.heap.size _ 197:=Blk.fr (Blk.fr e8 g.out id) r2 (y (Blk.fr e8 g.out id) (by decide) (by decide) (by decide));have e6:DRep W3 b T M2:=(O.out.2.2.2.1.nil g.out).fr r2 (fun k o=>(O.out.1.nil g.out).yM (O.out.2.2.2.1.nil g.out) o);have f7:W3.ownsRow 0 268 2 v u.length (Zp u):=ze (ze O.out.2.2.2.2.1 g.out (fun _ _=>id)) r2 (fun k o hf=>by
   have ht:=zH (ze O.out.2.2.2.2.1 g.out (fun _ _=>id)) o;rcases (O.out.1.nil g.out).BJ hf with e|e|e <;> exact absurd (ht.inj e) (by decide))
  have i4:KeepsOthers W W3:=(KeepsOthers.yY g.out (fun _ e=>absurd e id)).trans (KeepsOthers.yY r2 d4);have c9:Fr (fun k=>SFoot C LS k\/Foot b L M k) w W3:=(O.out.2.2.2.2.2.2.trans (g.out.mono (fun _ _ e=>absurd e id))).trans' r2 (fun k o e=>by
   rcases O.out.2.1 k e with h|h
   .exact .inl h
   .omega)
  have X:Ty W3 m.heap.size 197:=a9.ty;have A:∀ {k c t},Blk W3 k c t->t≠197->¬k=m.heap.size:=fun hb h e=>by subst e;exact h (hb.ty.inj X)
  have f8:Hid (∀ W',Fr (fun k=>k=m.heap.size) W3 W'->JRep W' m.heap.size b {limit:=a,last:=en.1,name:=en.2,size:=sg.length,At:=decide (0<tl),Bp:=false}->KeepsOthers W3 W'->KeepsOthers W W'/\True/\Mt w (m.heap.size+1) m.heap.size b C LS L T M M2 v u a s (i+1) W'):=fun W' fw hj ho =>
   ⟨i4.trans ho,trivial,⟨⟨d8.fr fw (A d8 (by decide)),d9.fr fw (A d9 (by decide)),c0.fr fw (A c0 (by decide)),by rw[b8.out];exact hj⟩,e0.fr fw (A e0 (by decide)),e1.fr fw (A e1 (by decide)),e2.fr fw (A e2 (by decide))⟩,
    ⟨⟨L3,r1.fr fw (fun k o e=>by subst e;rcases r1.BJ o with e|e|e <;> exact absurd (e.inj X) (by decide)) (fun k o e=>by subst e;exact absurd ((r1.Ag o).inj X) (by decide)),
     fun k o=>(r3 k o).elim (O.out.2.1 k) (fun e=>.inr (Im (Im O.out.2.2.2.2.2.1 g.out.size) e)),fun k o=>(r4 k o).elim (O.out.2.2.1 k) (fun e=>.inr (Im (Im O.out.2.2.2.2.2.1 g.out.size) e))⟩,
     e6.fr fw (fun k o e=>by subst e;exact e6.apart X (by unfold DTy;decide) o),ze f7 fw (fun k o e=>by subst e;exact absurd ((zH f7 o).inj X) (by decide))⟩,
    Im (Im (Im O.out.2.2.2.2.2.1 g.out.size) r2.size) fw.size,c9.trans' fw (fun k o e=>by omega)⟩
  have f9:=Z a9;have l0:=c0.cell 0;have k9:=a9.cell;have m3:=a9.frozen;have l4:m.heap.size+1≠m.heap.size:=by omega
  clear E V R O g k7 k8 r1 r2 r3 r4 d4 y d8 d9 c0 e0 e1 e2 e8 a9 e6 f7 i4 c9 X A;simp only[JM.cells] at k9 f9;generalize W3=WR at *
  gi_wp2_with fail
  refine TN (S:=fun w'=>w'.cell? ⟨m.heap.size+1,0,none⟩=some (.pointer (some ⟨m.heap.size,0,none⟩))) (by kernel_rfl) (by kernel_rfl) (by rintro⟨_,_,h⟩;exact h) l0 (fun G=>?_);refine zW 0 (some 46) (v:=?_) rfl rfl (by kernel_rfl) (by kernel_rfl) (by kernel_rfl) (fun _ _ _ h=>h) (Or.inl ⟨by rfl,?_⟩) (by assumption) ?_
  rotate_left
  .intro w hSw;go_simp;try with_reducible rfl
  simp only[Act.put,IM,Hd,Hf];refine zW 1 (some 47) (v:=?_) rfl rfl (by kernel_rfl) (by kernel_rfl) (by kernel_rfl) (fun _ _ _ h=>h) (Or.inl ⟨by rfl,?_⟩) (by assumption) ?_
  rotate_left
  .intro w hSw;go_simp;try with_reducible rfl
  simp only[Act.put,IM,Hd,Hf];refine zW 2 (some 48) (v:=?_) rfl rfl (by kernel_rfl) (by kernel_rfl) (by kernel_rfl) (fun _ _ _ h=>h) (Or.inl ⟨by rfl,?_⟩) (by assumption) ?_
  rotate_left
  .intro w hSw;go_simp;try with_reducible rfl
  simp only[Act.put,IM,Hd,Hf];refine zW 3 (some 49) (v:=?_) rfl rfl (by kernel_rfl) (by kernel_rfl) (by kernel_rfl) (fun _ _ _ h=>h) (Or.inl ⟨by rfl,?_⟩) (by assumption) ?_
  rotate_left
  .intro w hSw;go_simp;try with_reducible rfl
  simp only[Act.put,IM,Hd,Hf];refine zW 4 (some 50) (v:=?_) rfl rfl (by kernel_rfl) (by kernel_rfl) (by kernel_rfl) (fun _ _ _ h=>h) (Or.inl ⟨by rfl,?_⟩) (by assumption) ?_
  rotate_left
  .intro w hSw;go_simp;try with_reducible rfl
  simp only[Act.put,IM,Hd,Hf];refine zW 5 (some 51) (v:=?_) rfl rfl (by kernel_rfl) (by kernel_rfl) (by kernel_rfl) (fun _ _ _ h=>h) (Or.inl ⟨by rfl,?_⟩) (by assumption) ?_
  rotate_left
  .intro w hSw;go_simp;try with_reducible rfl
  simp only[Act.put,IM,Hd,Hf];refine zW 6 (some 52) (v:=?_) rfl rfl (by kernel_rfl) (by kernel_rfl) (by kernel_rfl) (fun _ _ _ h=>h) (Or.inl ⟨by rfl,?_⟩) (by assumption) ?_
  rotate_left
  .intro w hSw;go_simp;try with_reducible rfl
  simp only[Act.put,IM,Hd,Hf];refine zW 7 (some 53) (v:=?_) rfl rfl (by kernel_rfl) (by kernel_rfl) (by kernel_rfl) (fun _ _ _ h=>h) (Or.inl ⟨by rfl,?_⟩) (by assumption) ?_
  rotate_left
  .intro w hSw;go_simp;try with_reducible rfl
  simp only[Act.put,IM,Hd,Hf];refine zW 8 (some 54) (v:=?_) rfl rfl (by kernel_rfl) (by kernel_rfl) (by kernel_rfl) (fun _ _ _ h=>h) (Or.inl ⟨by rfl,?_⟩) (by assumption) ?_
  rotate_left
  .intro w hSw;go_simp;try with_reducible rfl
  simp only[Act.put,IM,Hd,Hf];refine zW 9 (some 55) (v:=?_) rfl rfl (by kernel_rfl) (by kernel_rfl) (by kernel_rfl) (fun _ _ _ h=>h) (Or.inl ⟨by rfl,?_⟩) (by assumption) ?_
  rotate_left
  .intro w hSw;go_simp;try with_reducible rfl
  simp only[Act.put,IM,Hd,Hf];refine zW 10 (some 56) (v:=?_) rfl rfl (by kernel_rfl) (by kernel_rfl) (by kernel_rfl) (fun _ _ _ h=>h) (Or.inl ⟨by rfl,?_⟩) (by assumption) ?_
  rotate_left
  .intro w hSw;go_simp;try with_reducible rfl
  simp only[Act.put,IM,Hd,Hf];refine zW 11 (some 57) (v:=?_) rfl rfl (by kernel_rfl) (by kernel_rfl) (by kernel_rfl) (fun _ _ _ h=>h) (Or.inl ⟨by rfl,?_⟩) (by assumption) ?_
  rotate_left
  .intro w hSw;go_simp;try with_reducible rfl
  simp only[Act.put,IM,Hd,Hf];refine CH (rs:=[12]) (by kernel_rfl) (by simp) (DN rfl (fun K Q=>?_) Ck)
  go_simp
  refine Q.out _ _ (by first|assumption|go_keep) (fun G=>?_);clear Q K
  try simp only[Act.put,IM,Hd,Hf]
  refine zW 13 (some 58) (v:=?_) rfl rfl (by kernel_rfl) (by kernel_rfl) (by kernel_rfl) (fun _ _ _ h=>h) (Or.inl ⟨by rfl,?_⟩) (by assumption) ?_
  rotate_left
  .intro w hSw;go_simp;try with_reducible rfl
  simp only[Act.put,IM,Hd,Hf];refine zW 14 (some 59) (v:=?_) rfl rfl (by kernel_rfl) (by kernel_rfl) (by kernel_rfl) (fun _ _ _ h=>h) (Or.inl ⟨by rfl,?_⟩) (by assumption) ?_
  rotate_left
  .intro w hSw;go_simp;try with_reducible rfl
  simp only[Act.put,IM,Hd,Hf];refine CH (rs:=[15]) (by kernel_rfl) (by simp) (DN rfl (fun K Q=>?_) Ck)
  go_simp
  refine Q.out _ _ (by first|assumption|go_keep) (fun G=>?_);clear Q K
  try simp only[Act.put,IM,Hd,Hf]
  refine zW 16 (some 60) (v:=?_) rfl rfl (by kernel_rfl) (by kernel_rfl) (by kernel_rfl) (fun _ _ _ h=>h) (Or.inl ⟨by rfl,?_⟩) (by assumption) ?_
  rotate_left
  .intro w hSw;go_simp;try with_reducible rfl
  simp only[Act.put,IM,Hd,Hf];refine zW 17 (some 61) (v:=?_) rfl rfl (by kernel_rfl) (by kernel_rfl) (by kernel_rfl) (fun _ _ _ h=>h) (Or.inl ⟨by rfl,?_⟩) (by assumption) ?_
  rotate_left
  .intro w hSw;go_simp;try with_reducible rfl
  simp only[Act.put,IM,Hd,Hf];refine CH (rs:=[18]) (by kernel_rfl) (by simp) (DN rfl (fun K Q=>?_) Ck)
  go_simp
  refine Q.out _ _ (by first|assumption|go_keep) (fun G=>?_);clear Q K
  try simp only[Act.put,IM,Hd,Hf]
  refine zW 19 (some 62) (v:=?_) rfl rfl (by kernel_rfl) (by kernel_rfl) (by kernel_rfl) (fun _ _ _ h=>h) (Or.inl ⟨by rfl,?_⟩) (by assumption) ?_
  rotate_left
  .intro w hSw;go_simp;try with_reducible rfl
  simp only[Act.put,IM,Hd,Hf];refine zW 20 (some 63) (v:=?_) rfl rfl (by kernel_rfl) (by kernel_rfl) (by kernel_rfl) (fun _ _ _ h=>h) (Or.inl ⟨by rfl,?_⟩) (by assumption) ?_
  rotate_left
  .intro w hSw;go_simp;try with_reducible rfl
  simp only[Act.put,IM,Hd,Hf];refine CH (rs:=[21]) (by kernel_rfl) (by simp) (DN rfl (fun K Q=>?_) Ck)
  go_simp
  refine Q.out _ _ (by first|assumption|go_keep) (fun G=>?_);clear Q K
  try simp only[Act.put,IM,Hd,Hf]
  refine wpAnyH_done (by kernel_rfl) ?_ _;refine f8.out _ ?_ ?_ ?_
  .exact Fr.drew (Fr.set (S:=fun k=>k=m.heap.size) (p:=⟨m.heap.size,5,none⟩) (Fr.set (S:=fun k=>k=m.heap.size) (p:=⟨m.heap.size,4,none⟩) (Fr.set (S:=fun k=>k=m.heap.size) (p:=⟨m.heap.size,3,none⟩) (Fr.set (S:=fun k=>k=m.heap.size) (p:=⟨m.heap.size,2,none⟩) (U _ _) (fun _=>rfl) _) (fun _=>rfl) _) (fun _=>rfl) _) (fun _=>rfl) _)
  .exact Blk.drew ((((f9.out.set 2 _).set 3 _).set 4 _).set 5 _)
  .exact((((FL WR ⟨m.heap.size,2,none⟩ _).trans (FL _ ⟨m.heap.size,3,none⟩ _)).trans (FL _ ⟨m.heap.size,4,none⟩ _)).trans (FL _ ⟨m.heap.size,5,none⟩ _)).trans (KeepsOthers.drew _)
 case done =>
  rintro D W hD ⟨⟨⟨h3,h4,hp,hj⟩,-,-,-⟩,⟨⟨L',c1,c2,c3⟩,c4,c5⟩,c6,c7⟩ Q;rw[d6.out.1,ID] at c1;have l8:=hp.cell 0;have m1:=h3.frozen 0;have m2:=h4.frozen 0;have l6:=h3.cell 0;have l7:=h4.cell 0;have i8:w.heap.size+3≠w.heap.size+4:=by omega
  have g6:=(h3.set 0 (.pointer (some ⟨m.heap.size,0,none⟩))).AE (b':=w.heap.size+4) i8 0 .nilIface;have g7:=(h4.AE (b':=w.heap.size+3) (Da i8) 0 (.pointer (some ⟨m.heap.size,0,none⟩))).set 0 .nilIface;have fE:Fr (fun k=>k=w.heap.size+3\/k=w.heap.size+4) W ((W.setCell ⟨w.heap.size+3,0,none⟩ (.pointer (some ⟨m.heap.size,0,none⟩))).setCell ⟨w.heap.size+4,0,none⟩ .nilIface) :=
   Fr.set (p:=⟨w.heap.size+4,0,none⟩) (Fr.set (p:=⟨w.heap.size+3,0,none⟩) (U _ _) (fun _=>.inl rfl) _) (fun _=>.inr rfl) _
  have g9:=((FL W ⟨w.heap.size+3,0,none⟩ (.pointer (some ⟨m.heap.size,0,none⟩))).trans (FL _ ⟨w.heap.size+4,0,none⟩ .nilIface)).same D _ Q rfl;have N:∀ {k t},Ty W k t->t≠119->t≠132->¬(k=w.heap.size+3\/k=w.heap.size+4):=fun ht n1 n2 e=>by
   rcases e with rfl|rfl
   .exact n1 (ht.inj h3.ty)
   .exact n2 (ht.inj h4.ty)
  have i3:=Blk.fr hj fE (N (Blk.ty hj) (by decide) (by decide));have h5:=c1.fr fE (fun k o=>by rcases c1.BJ o with e|e|e <;> exact N e (by decide) (by decide)) (fun k o=>N (c1.Ag o) (by decide) (by decide));have h6:=c4.fr fE (fun k o=>by obtain⟨t,ht,hd⟩:=c4.ty o;unfold DTy at hd;rcases hd with rfl|rfl|rfl|rfl|rfl <;> exact N ht (by decide) (by decide));have g8:=c7.trans' fE (fun k o e=>by omega);have H3:=Z g6;have H4:=Z g7;have HJ:=Z i3;have HC:=Z h5;have j6:=Z h6;have j7:=Z g8;have HK:=Z g9;clear h3 h4 hp hj c1 c4 c5 c6 c7 g6 g7 fE g9 Q N i3 h5 h6 g8
  gi_wp2_with fail
  refine⟨by simp,.inl ⟨_,_,rfl,EL HK.out,?_⟩⟩;have e3:=(H3.out.put HK.out rfl (.deferred none)).cell 0;have e4:=(H4.out.put HK.out rfl (.deferred none)).cell 0;have fP:=Fr.BI (Dz ((W.setCell ⟨w.heap.size+3,0,none⟩ (.pointer (some ⟨m.heap.size,0,none⟩))).setCell ⟨w.heap.size+4,0,none⟩ .nilIface) D (.deferred none));have f6:Odd (fun k=>some D=some k) ((W.setCell ⟨w.heap.size+3,0,none⟩ (.pointer (some ⟨m.heap.size,0,none⟩))).setCell ⟨w.heap.size+4,0,none⟩ .nilIface):=fun k e=>by cases e;exact⟨_,HK.out,rfl⟩
  refine⟨.tuple #[.pointer (some ⟨m.heap.size,0,none⟩),.nilIface],?_,m.heap.size,T,L',rfl,Blk.fr HJ.out fP ((Blk.ty HJ.out).odd f6),by omega,j6.out.odd fP f6,k0.out,HC.out.odd fP f6,c2,c3,j7.out.trans' fP (fun k o e=>by have:=a0.out.2.2;cases e;omega)⟩;simp only[Hd,Ga] at e3 e4;simp[results,Tryz.f94,go_sem,e3,e4]
end Go.Proofs.YtkhnggkkiefcdaaGreatDoor
namespace Go.Proofs.YtkhnggkkiefcdaaGreatDoor
open Go.RowKit
set_option maxRecDepth 100000
set_option maxHeartbeats 8000000
theorem LN(r:List ByteArray)(x:ByteArray):(YF r x).Perm (x::r):=by
 induction r with
 | nil=>exact ED _
 | cons y r a =>
  unfold YF;split
  .exact(a.cons y).trans (List.Perm.swap x y r)
  .exact ED _
theorem VH(d:Dir):d.names.Perm (d.map Prod.fst):=by
 have h:∀ (e:Dir) (r:List ByteArray),(e.foldl (fun r e=>YF r e.1) r).Perm (e.map Prod.fst++r):=by
  intro e
  induction e with
  | nil=>intro r;exact ED _
  | cons x e a =>
   intro r;rw[Hk,IJ,IU];exact(a _).trans ((Di _ (LN r x.1)).trans Dr)
 unfold Dir.names Ym;rw[ID];refine(List.reverse_perm _).trans ?_;have:=h d []
 rwa [IV] at this
theorem Pi{α β:Type}(f:α->β){l m:List β}(h:l.Perm m):∀ b:List α,m=b.map f->∃ a:List α,a.Perm b/\l=a.map f:=by
 induction h with
 | nil=>intro b e;exact⟨b,ED _,e⟩
 | cons x _ q =>
  intro b e;cases b with
  | nil=>cases e
  | cons y b =>
   simp only[IJ,FW] at e;obtain⟨a,g,d⟩:=q b e.2;exact⟨y::a,g.cons y,by rw[IJ,<- e.1,<- d]⟩
 | swap x y l =>
  intro b e
  match b,e with
  | b1::k::b,e =>
   simp only[IJ,FW] at e;exact⟨k::b1::b,List.Perm.swap _ _ _,by rw[IJ,IJ,<- e.1,<- e.2.1,<- e.2.2]⟩
 | trans _ _ i j =>
  intro b e;obtain⟨a,g,d⟩:=j b e;obtain⟨c,p,o⟩:=i a d;exact⟨c,p.trans g,o⟩
def Z0(B:Nat)(w:World):Prop:=YU B w/\Yg w/\4<B
theorem Z0.fr{B:Nat}{S:Nat->Prop}{w w':World}(h:Z0 B w)(c:B<=w.heap.size)(f:Fr S w w')(a:∀ k,S k->B<=k):Z0 B w' :=
 ⟨h.1.fr c f a,h.2.1.fr f (fun e=>by have:=a _ e;have:=h.2.2;omega),h.2.2⟩
end Go.Proofs.YtkhnggkkiefcdaaGreatDoor
