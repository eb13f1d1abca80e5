/- larder: joined texts -/
import Derived.Test.YtkhnggkkiefcdaaGreatDoorALAO
namespace Go.Proofs.YtkhnggkkiefcdaaGreatDoor
open Go.RowKit Proofs.Tryz
set_option maxRecDepth 100000
set_option maxHeartbeats 8000000
variable{M:DM}{t k f:Nat}{a:ByteArray}{p:Prop}
abbrev yT:=@Go.KeepsOthers.setCell
abbrev vr:=@Go.grownBy_putObj'
theorem Dr{f n:Nat}(size:Nat->Nat):∀ l:List Nat,l.Nodup->(l.map fun g=>if g=f then size g+n else size g).sum<=(l.map size).sum+n
 | [],_=>bG
 | a::l,h=>by
  simp only[yv] at h;simp only[Bw,yf];by_cases e:a=f
  .subst e
   have:(l.map fun g=>if g=a then size g+n else size g)=l.map size:=by
    apply yn
    intro x b;rw[CW (fun e=>h.1 (by rw[<- e];exact b))]
   rw[this,Bl rfl];omega
  .rw[CW e]
   have:=Dr (f:=f) (n:=n) size l h.2;omega
theorem Lw(s:Nat->Nat):∀ (l m:List Nat),l.Nodup->(∀ x∈l,x∈m)->(l.map s).sum<=(m.map s).sum
 | [],m,_,_=>Bg _
 | a::l,m,h,hs=>by
  simp only[yv] at h;obtain⟨d,e,rfl⟩:=wE (hs a (CY ..));have:=Lw s l (d++e) h.2 (fun x c=>by
   have b:=hs x (CT _ c);simp only[CV,BC] at b |-;rcases b with b|b|b
   .exact .inl b
   .exact absurd (b▸c) h.1
   .exact .inr b)
  simp only[Bq,yF,Bw,yf] at this |-;omega
structure Bk(M:DM)(t k:Nat):Prop where
 c0:0<=M.uS
 uS:M.uS<=(1000000*t+k:Nat)
 f0:0<=M.tr
 fr:M.tr<=M.uT
 rc:M.uT<=M.uS
 r0:0<=M.room
 r1:M.room<9223372036854775808
 part:0<=M.part
 qH:∀ g∈M.tL,(M.uV g).bytes.length<=2000*(t+100)
 qV:M.tL.Nodup
 qM:M.tL.length<=t
 rA:∀ e∈M.uX,e.2∈M.tL
 rB:(M.uX.map (·.2)).Nodup
 tB:M.tB.length<=1000000*t+k
 sD:∀ d∈M.uZ::M.tB,d.length<=t
 uX:M.uX.length<=t
abbrev Bd (M:DM)(t:Nat):Prop:=Bk M t 0
theorem Bk.tU{u:Nat}(h:Bk M t k)(a:t<=u):Bk M u k :=
 ⟨h.c0,by have:=h.uS;omega,h.f0,h.fr,h.rc,h.r0,h.r1,h.part,fun g c=>by have:=h.qH g c;omega,h.qV,CO h.qM a,h.rA,h.rB,by have:=h.tB;omega,fun d b=>CO (h.sD d b) a,CO h.uX a⟩
theorem Bk.pU{n:Nat}(h:Bk M t k)(a:k<=n):Bk M t n :=
 ⟨h.c0,by have:=h.uS;omega,h.f0,h.fr,h.rc,h.r0,h.r1,h.part,h.qH,h.qV,h.qM,h.rA,h.rB,by have:=h.tB;omega,h.sD,h.uX⟩
theorem Bk.pf(h:Bk M t k)(c:k<=1000000):Bd M (t+1) :=
 ⟨h.c0,by have:=h.uS;omega,h.f0,h.fr,h.rc,h.r0,h.r1,h.part,fun g b=>by have:=h.qH g b;omega,h.qV,As h.qM,h.rA,h.rB,by have:=h.tB;omega,fun d a=>As (h.sD d a),As h.uX⟩
theorem Ql(s:Nat->Nat)(B:Nat):∀ l:List Nat,(∀ g∈l,s g<=B)->(l.map s).sum<=l.length*B
 | [],_=>bG
 | a::l,h=>by
  have c:=h a (CY ..);have d:=Ql s B l (fun g b=>h g (CT _ b));rw[Bw,yf,Bh,Nat.succ_mul];omega
theorem Bk.sW(h:Bk M t k)(c:t<=1000000):M.sW<=2000200000000000:=by
 have a:=Lw (fun g=>(M.uV g).bytes.length) (M.uX.map (·.2)) M.tL h.rB (fun x d=>by
  obtain⟨e,b,rfl⟩:=Bb.1 d;exact h.rA e b)
 rw[Al] at a;have i:=Ql (fun g=>(M.uV g).bytes.length) (2000*(t+100)) M.tL h.qH;have j:M.tL.length*(2000*(t+100))<=1000000*(2000*1000100):=Nat.mul_le_mul (CO h.qM c) V;have l:M.sW<=(M.tL.map fun g=>(M.uV g).bytes.length).sum:=a;omega
theorem Bk.uV(h:Bk M t k){g:Nat}(a:g∈M.tL):(M.uV g).bytes.length<=2000*(t+100):=h.qH g a
structure Tick(M M':DM)(e:Option Int):Prop where
 cut:M'.cut=M.cut
 fail:M'.fail=M.fail
 le:M.uS<=M'.uS
 qX:e=none->∀ c,M.uS<c->c<=M'.uS->c≠M.cut/\c≠M.fail
 mn:e=some 9->M.tJ=false->M.uS<M'.uS/\(M'.uS=M.cut/\M'.tJ=true\/M'.uS=M.fail/\M'.tJ=false)
def Ans(M a:DM)(e:Option Int):Prop :=
 ((e=none/\a.uT=M.uT/\a.tr=M.tr/\a.tJ=M.tJ) \/
 (a.uT=M.uT+1/\((e=some 9/\a.tr=M.tr)\/(e=some 10/\a.tr=M.tr+1/\a.tJ=M.tJ))))/\Tick M a e
theorem Ans.refl(M:DM):Ans M M none:=⟨.inl ⟨rfl,rfl,rfl,rfl⟩,⟨rfl,rfl,yO _,fun _ c a b=>absurd a (Int.not_lt.2 b),fun e=>by cases e⟩⟩
theorem Ans.trans{r M2 x:DM}{e:Option Int}(h:Ans r M2 none)(k:Ans M2 x e):Ans r x e:=by
 obtain⟨h,g⟩:=h;obtain⟨k,o⟩:=k;have A:M2.tJ=r.tJ:=by
  rcases h with⟨_,_,_,c⟩|⟨_,⟨h,_⟩|⟨h,_⟩⟩
  .exact c
  .cases h
  .cases h
 refine⟨?_,o.cut.trans g.cut,o.fail.trans g.fail,Int.le_trans g.le o.le,fun s c t y=>?_,fun s t=>?_⟩
 .rcases h with⟨_,a,b,c⟩|⟨_,⟨h,_⟩|⟨h,_⟩⟩
  .rw[a,b,c] at k
   exact k
  .cases h
  .cases h
 .by_cases hc:c<=M2.uS
  .exact g.qX rfl c t hc
  .have:=o.qX s c V y
   rw[g.cut,g.fail] at this;exact this
 .have:=o.mn s (A.trans t)
  rw[g.cut,g.fail] at this;exact⟨Int.lt_of_le_of_lt g.le this.1,this.2⟩
structure Pass(M:DM):Prop where
 tJ:M.tJ=false
 cut:M.uS+1≠M.cut
 fail:M.uS+1≠M.fail
structure Stop(M:DM)(d:Bool):Prop where
 tJ:M.tJ=true->d=true
 why:M.tJ=false->M.uS+1=M.cut/\d=true\/M.uS+1=M.fail/\d=false
theorem Xy(h:Bk M t k)(o:t<=1000000)(m:k<=2000000) :
 (M.uQ=(true,0,{M with uS:=M.uS+1})/\Pass M)\/(∃ b d,M.uQ=(b,9,{M with uS:=M.uS+1,uT:=M.uT+1,tJ:=d})/\(b=true->d=true)/\Stop M d):=by
 have f:=h.uS;have g:=h.c0;have i:=h.rc;have j:=h.fr;have l:=h.f0;have a:wrap64 (M.uS+1)=M.uS+1:=by unfold wrap64;omega
 have c:wrap64 (M.uT+1)=M.uT+1:=by unfold wrap64;omega
 unfold DM.uQ;simp only[a,c];split
 .rename_i hd
  exact .inr ⟨false,true,by rw[<- hd],(fun e=>by cases e),⟨fun _=>rfl,fun e=>by rw[hd] at e;cases e⟩⟩
 .rename_i hd
  simp only[Bool.not_eq_true] at hd;split
  .rename_i hc
   exact .inr ⟨true,true,rfl,fun _=>rfl,fun _=>rfl,fun _=>.inl ⟨by simpa using hc,rfl⟩⟩
  .rename_i hc
   split
   .rename_i hf
    exact .inr ⟨false,false,by rw[<- hd],(fun e=>by cases e),⟨(fun e=>by rw[hd] at e;cases e),fun _=>.inr ⟨by simpa using hf,rfl⟩⟩⟩
   .rename_i hf
    exact .inl ⟨rfl,hd,by simpa using hc,by simpa using hf⟩
def DM.no(M:DM)(d:Bool):DM:={M with uS:=M.uS+1,uT:=M.uT+1,tJ:=d}
theorem Bk.no(h:Bk M t k)(d:Bool):Bk (M.no d) t (k+1) where
 c0:=by have:=h.c0;show 0<=M.uS+1;omega
 uS:=by have:=h.uS;show M.uS+1<=_;omega
 f0:=h.f0
 fr:=by have:=h.fr;show M.tr<=M.uT+1;omega
 rc:=by have:=h.rc;show M.uT+1<=M.uS+1;omega
 r0:=h.r0
 r1:=h.r1
 part:=h.part
 qH:=h.qH
 qV:=h.qV
 qM:=h.qM
 rA:=h.rA
 rB:=h.rB
 tB:=As h.tB
 sD:=h.sD
 uX:=h.uX
theorem Ans.no{a:DM}{d:Bool}(hs:Stop M d)(h:a.uT=(M.no d).uT)(b:a.tr=M.tr)(c:a.uS=M.uS+1:=by rfl)(f:a.cut=M.cut:=by rfl)(g:a.fail=M.fail:=by rfl)(i:a.tJ=d:=by rfl):Ans M a (some 9) :=
 ⟨.inr ⟨h,.inl ⟨rfl,b⟩⟩,f,g,V,(fun e=>by cases e),fun _ j=>⟨V,by rw[c,i];exact hs.why j⟩⟩
def DM.qm(M:DM)(f:Nat):DM:={M with uS:=M.uS+1,uV:=fun g=>if g=f then {M.uV f with uZ:=(M.uV f).bytes.length} else M.uV g}
theorem YA(M:DM)(f g:Nat):((M.qm f).uV g).bytes=(M.uV g).bytes:=by
 show(if g=f then {M.uV f with uZ:=(M.uV f).bytes.length} else M.uV g:FM).bytes=_;split
 .rename_i e;subst e;rfl
 .rfl
theorem Vp(M:DM)(f g:Nat):((M.qm f).uV g).uZ=if g=f then(M.uV f).bytes.length else(M.uV g).uZ:=by
 show(if g=f then {M.uV f with uZ:=(M.uV f).bytes.length} else M.uV g:FM).uZ=_;split <;> rfl
theorem Oq(h:Bk M t k)(j:t<=1000000)(g:k<=2000000)(i:M.uX.sF a=some f) :
 (M.tY a=(0,M.qm f)/\Pass M)\/∃ d,M.tY a=(9,M.no d)/\Stop M d:=by
 unfold DM.tY;rw[i];rcases Xy h j g with⟨e,c⟩|⟨b,d,e,_,c⟩
 .refine .inl ⟨?_,c⟩
  simp only[e,Ad]
  rfl
 .refine .inr ⟨d,?_,c⟩
  simp only[e]
  rfl
theorem Bk.qm(h:Bk M t k)(f:Nat):Bk (M.qm f) t (k+1) where
 c0:=by have:=h.c0;show 0<=M.uS+1;omega
 uS:=by have:=h.uS;show M.uS+1<=_;omega
 f0:=h.f0
 fr:=h.fr
 rc:=by have:=h.rc;show M.uT<=M.uS+1;omega
 r0:=h.r0
 r1:=h.r1
 part:=h.part
 qH:=fun g a=>by rw[YA];exact h.qH g a
 qV:=h.qV
 qM:=h.qM
 rA:=h.rA
 rB:=h.rB
 tB:=As h.tB
 sD:=h.sD
 uX:=h.uX
theorem Ans.ok{a:DM}(d:Pass M)(h:a.uT=M.uT)(b:a.tr=M.tr)(j:a.tJ=M.tJ)(o:a.uS=M.uS+1:=by rfl)(k:a.cut=M.cut:=by rfl)(l:a.fail=M.fail:=by rfl):Ans M a none :=
 ⟨.inl ⟨rfl,h,b,j⟩,k,l,V,fun _ c m b=>(show c=M.uS+1 from V)▸⟨d.cut,d.fail⟩,fun e=>by cases e⟩
def DM.qu(M:DM):DM:={M with uS:=M.uS+1,uZ:=M.uX,tB:=[]}
theorem TD(h:Bk M t k)(f:t<=1000000)(c:k<=2000000) :
 (M.sw=(0,M.qu)/\Pass M)\/∃ d,M.sw=(9,M.no d)/\Stop M d:=by
 unfold DM.sw;rcases Xy h f c with⟨e,a⟩|⟨b,d,e,_,a⟩
 .refine .inl ⟨?_,a⟩
  simp only[e,Ad]
  rfl
 .refine .inr ⟨d,?_,a⟩
  simp only[e]
  rfl
theorem Bk.qu(h:Bk M t k):Bk M.qu t (k+1) where
 c0:=by have:=h.c0;show 0<=M.uS+1;omega
 uS:=by have:=h.uS;show M.uS+1<=_;omega
 f0:=h.f0
 fr:=h.fr
 rc:=by have:=h.rc;show M.uT<=M.uS+1;omega
 r0:=h.r0
 r1:=h.r1
 part:=h.part
 qH:=h.qH
 qV:=h.qV
 qM:=h.qM
 rA:=h.rA
 rB:=h.rB
 tB:=Bg _
 sD:=fun x a=>by
  rcases BC.1 a with e|e
  .rw[e];exact h.uX
  .cases e
 uX:=h.uX
def DM.rL(M:DM)(a:ByteArray)(f:Nat)(r:Int)(d:Bool):DM:={M with uS:=M.uS+1,uT:=r,tJ:=d,tL:=f::M.tL,uV:=fun g=>if g=f then⟨[],0⟩ else M.uV g,uX:=M.uX++[(a,f)],tB:=M.tB++[M.uX++[(a,f)]]}
theorem Ot(h:p:=by
 cases b with
 | false =>
  refine .inr (.inl ⟨d,?_,c⟩);simp only[e]
  rfl
 | true =>
  rw[o rfl] at e c;refine .inr (.inr ⟨?_,c⟩);simp only[e,Ad]
  rfl):p:=h
theorem SR(h:Bk M t k)(m:t<=1000000)(l:k<=2000000)(j:a≠ByteArray.empty)(r:M.uX.sF a=none)(f:Nat) :
 (M.sx a f=(0,M.rL a f M.uT M.tJ)/\Pass M)\/(∃ d,M.sx a f=(9,M.no d)/\Stop M d)\/(M.sx a f=(9,M.rL a f (M.uT+1) true)/\Stop M true):=by
 unfold DM.sx;rw[CW (by rw[r];rintro(e|e);exact j e;cases e)];rcases Xy h m l with⟨e,c⟩|⟨b,d,e,o,c⟩
 .refine .inl ⟨?_,c⟩
  simp only[e,Ad]
  rfl
 .exact Ot
theorem Gf(h:p:=by
 rw[Bq,AR];refine⟨h.rB,bG,fun a s b q e=>?_⟩;simp only[Bw,AE,CX] at q;obtain⟨x,o,rfl⟩:=Bb.1 s;exact m (by rw[<- q,<- e];exact h.rA x o)):p:=h
theorem Gg(h:p:=by
 rcases CV.1 i with i|i
 .exact CT _ (h.rA e i)
 .rw[CX] at i;subst i;exact CY ..):p:=h
theorem Bd.rL(h:Bd M t)(c:ByteArray)(f:Nat)(m:f∉M.tL)(r:Int)(d:Bool)(v:M.uT<=r)(y:r<=M.uT+1):Bd (M.rL c f r d) (t+1) where
 c0:=by have:=h.c0;show 0<=M.uS+1;omega
 uS:=by have:=h.uS;show M.uS+1<=_;omega
 f0:=h.f0
 fr:=by have:=h.fr;show M.tr<=r;omega
 rc:=by have:=h.rc;show r<=M.uS+1;omega
 r0:=h.r0
 r1:=h.r1
 part:=h.part
 qH:=fun g u=>by
  show(if g=f then(⟨[],0⟩:FM) else M.uV g).bytes.length<=_;split
  .simp
  .rcases BC.1 u with e|e
   .contradiction
   .have:=h.qH g e;omega
 qV:=yv.2 ⟨m,h.qV⟩
 qM:=ud h.qM
 rA:=fun e i=>by
  exact Gg
 rB:=by
  show((M.uX++[(c,f)]).map (·.2)).Nodup;exact Gf
 tB:=by show(M.tB++[_]).length<=_;rw[CN,CQ];have:=h.tB;omega
 sD:=fun x o=>by
  have l:=h.sD x;have j:x∈M.uZ::(M.tB++[M.uX++[(c,f)]]):=o;simp only[BC,CV,yX,ub] at j l;rcases j with e|e|e
  .exact As (l (.inl e))
  .exact As (l (.inr e))
  .rw[e,CN,CQ];have:=h.uX;omega
 uX:=by show(M.uX++[_]).length<=_;rw[CN,CQ];have:=h.uX;omega
def DM.put(M:DM)(f:Nat)(l:List UInt8)(r u:Int)(d:Bool):DM:={M with uS:=M.uS+1,uT:=r,tr:=u,tJ:=d,uV:=fun g=>if g=f then {M.uV f with bytes:=(M.uV f).bytes++l} else M.uV g}
theorem YS(M:DM)(f:Nat)(l:List UInt8)(r u:Int)(d:Bool)(g:Nat):((M.put f l r u d).uV g).bytes=if g=f then(M.uV f).bytes++l else(M.uV g).bytes:=by
 show(if g=f then {M.uV f with bytes:=(M.uV f).bytes++l} else M.uV g:FM).bytes=_;split <;> rfl
theorem TY(M:DM)(f:Nat)(l:List UInt8)(r u:Int)(d:Bool)(g:Nat):((M.put f l r u d).uV g).uZ=(M.uV g).uZ:=by
 show(if g=f then {M.uV f with bytes:=(M.uV f).bytes++l} else M.uV g:FM).uZ=_;split
 .rename_i e;subst e;rfl
 .rfl
theorem Bk.left(h:Bk M t k)(a:t<=1000000):M.left=if M.room<M.sW then 0 else M.room-M.sW:=by
 have d:=h.sW a;have g:=h.r0;have i:=h.r1;have b:M.rE=M.sW:=M.pP V;have c:IntKind.i64.wrap (M.room-(M.sW:Int))=M.room-(M.sW:Int):=by rw[Bu];omega
 unfold DM.left;rw[b,c];by_cases e:M.room<M.sW
 .rw[Bl e,Bl V]
 .rw[CW e,CW V]
theorem Lx{n:Nat}(h:Bk M t n)(p:t<=1000000)(x:n<=2000000){i:ByteArray}(y:M.uX.sF i=some f)(a:ByteArray) :
 ∃ e k r u d,M.add i a=(e,M.put f (a.data.toList.take k) r u d)/\k<=a.size /\
  ((e=0/\k=a.size/\r=M.uT/\u=M.tr/\d=M.tJ/\Pass M)\/(r=M.uT+1/\((e=9/\u=M.tr/\Stop M d)\/(e=10/\u=M.tr+1/\d=M.tJ/\M.tJ=false/\M.room<M.sW+a.size)))):=by
 have v:a.data.toList.length=a.size:=by rw[yh];rfl
 have o:∀ n:Nat,(a.extract 0 n).data.toList=a.data.toList.take n:=by
  intro n;rw[ByteArray.data_extract];simp
 have C:=h.rc;have D:=h.fr;have G:=h.f0;have B:=h.uS;have q:wrap64 (M.uT+1)=M.uT+1:=by unfold wrap64;omega
 have s:wrap64 (M.tr+1)=M.tr+1:=by unfold wrap64;omega
 have j:∀ (r:Int) (d:Bool),DM.left {M with uS:=M.uS+1,uT:=r,tJ:=d}=M.left:=fun r d=>rfl;have m:=h.left p;unfold DM.add;rw[y];simp only;rcases Xy h p x with⟨e,l⟩|⟨b,d,e,J,l⟩
 .have ht1:M.qo a.size=some (a.size:Int):=by unfold DM.qo;rw[e];rfl
  simp only[ht1,e];rw[show DM.left {M with uS:=M.uS+1}=M.left from rfl,m];by_cases c:(if M.room<(M.sW:Int) then 0 else M.room-(M.sW:Int))<a.size
  .rw[Bl c]
   simp only[Ad];rw[q,s,o];refine⟨10,min (if M.room<(M.sW:Int) then 0 else M.room-(M.sW:Int)).toNat a.size,M.uT+1,M.tr+1,M.tJ,?_,ue _ _,.inr ⟨rfl,.inr ⟨rfl,rfl,rfl,l.tJ,?_⟩⟩⟩
   .rw[Ab (by split at c <;> omega)]
    rfl
   .split at c <;> omega
  .rw[CW c]
   refine⟨0,a.size,M.uT,M.tr,M.tJ,?_,CP _,.inl ⟨rfl,rfl,rfl,rfl,rfl,l⟩⟩;rw[wP,o]
   rfl
 .cases ht1:M.qo a.size with
  | none =>
   simp only[e];refine⟨9,0,M.uT+1,M.tr,d,?_,Bg _,.inr ⟨rfl,.inl ⟨rfl,rfl,l⟩⟩⟩
   congr 1
   unfold DM.put
   congr 1
   funext g
   split
   .rename_i e';subst e';simp
   .rfl
  | some n =>
   have A:0<=n/\n<=a.size:=by
    unfold DM.qo at ht1;split at ht1
    .obtain rfl:=BA ht1
     exact⟨V,yO _⟩
    .split at ht1
     .rename_i h2
      obtain rfl:=BA ht1;exact⟨Int.tmod_nonneg _ h.part,Int.le_of_lt (Int.tmod_lt_of_pos _ h2.2)⟩
     .cases ht1
   simp only[e];rw[j,m];by_cases c:(if M.room<(M.sW:Int) then 0 else M.room-(M.sW:Int))<n
   .rw[Bl c,CW O,o]
    exact⟨9,(if M.room<(M.sW:Int) then 0 else M.room-(M.sW:Int)).toNat,M.uT+1,M.tr,d,rfl,by split at c <;> omega,.inr ⟨rfl,.inl ⟨rfl,rfl,l⟩⟩⟩
   .rw[CW c,o]
    exact⟨9,n.toNat,M.uT+1,M.tr,d,rfl,V,.inr ⟨rfl,.inl ⟨rfl,rfl,l⟩⟩⟩
theorem Bk.put(h:Bk M t k)(f:Nat)(l:List UInt8)(b:f∈M.tL->(M.uV f).bytes.length+l.length<=2000*(t+100))(r u:Int)(d:Bool)(c:M.uT<=r)(i:r<=M.uT+1)(j:M.tr<=u)(o:u-M.tr<=r-M.uT):Bk (M.put f l r u d) t (k+1) where
 c0:=by have:=h.c0;show 0<=M.uS+1;omega
 uS:=by have:=h.uS;show M.uS+1<=_;omega
 f0:=by have:=h.f0;show 0<=u;omega
 fr:=by have:=h.fr;show u<=r;omega
 rc:=by have:=h.rc;show r<=M.uS+1;omega
 r0:=h.r0
 r1:=h.r1
 part:=h.part
 qH:=fun g a=>by
  rw[YS];split
  .rename_i e;subst e;rw[CN];exact b a
  .exact h.qH g a
 qV:=h.qV
 qM:=h.qM
 rA:=h.rA
 rB:=h.rB
 tB:=As h.tB
 sD:=h.sD
 uX:=h.uX
theorem Bd.put(h:Bd M t)(f:Nat)(l:List UInt8)(j:l.length<=2000)(r u:Int)(d:Bool)(b:M.uT<=r)(c:r<=M.uT+1)(e:M.tr<=u)(g:u-M.tr<=r-M.uT):Bd (M.put f l r u d) (t+1):=by
 have a:=Bk.put (t:=t+1) (Bk.tU h (yc _)) f l (fun i=>by have:=h.qH f i;omega) r u d b c e g;exact⟨a.c0,by have:=h.uS;show M.uS+1<=_;omega,a.f0,a.fr,a.rc,a.r0,a.r1,a.part,a.qH,a.qV,a.qM,a.rA,a.rB,by have:=h.tB;show M.tB.length<=_;omega,a.sD,a.uX⟩
theorem Ds(h:Bk M t k)(f:Nat)(l:List UInt8)(r u:Int)(d:Bool):(M.put f l r u d).sW<=M.sW+l.length:=by
 have a:=Qi (f:=f) (n:=l.length) (fun k=>(M.uV k).bytes.length) M.uX h.rB;unfold DM.sW;simp only[YS];have e:(fun e:ByteArray × Nat=>(if e.2=f then(M.uV f).bytes++l else(M.uV e.2).bytes).length)=fun e=>if e.2=f then(M.uV e.2).bytes.length+l.length else(M.uV e.2).bytes.length:=by
  funext g
  split
  .rename_i e;rw[<- e];simp
  .rfl
 rw[e];exact a
end Go.Proofs.YtkhnggkkiefcdaaGreatDoor
namespace Go.Proofs.YtkhnggkkiefcdaaGreatDoor
open Go.RowKit Go.Shelf Proofs.Tryz
set_option maxRecDepth 100000
set_option maxHeartbeats 8000000
attribute [local go_sem] ye
theorem Wr{F:Fence}{n:Nat}{P:Program}{g:Operand}{ps:Array Tmp}{assign body:Code}{Q:Exit->Act->World->Prop}{a:Act}{w:World}
 (b0:F.round=none)(h1:1<=n){gf:Nat}{lb:Array Value}(hg:a.eval g=.func (.func gf) #[] lb)(a0:F.fn gf)(eg:∀ args w,(callFunc gf args).run P w=.ok (.enter gf args) w)
 (N:Nat)(b:Nat->Array Value)(a9:∀ i,(b i).size=ps.size)(d:Nat->World->Prop)(u:OwnFrom w.heap.size d)(h0:d 0 w)
 (T:∀ (l:Nat)(J:Nat->World->Prop)(W:World),Below w.heap.size w W->AbidesFrom W.heap.size J->(∀ i G,J i G->d i G) ->
   (∀ i G,i<N->J i G->YieldAt F (n-1-1) P l (b i) G fun e C=>e=.returned (.bool true)/\J (i+1) C)->J 0 W ->
   CallsIn F (n-1) P gf (#[.func (.yield l) #[] #[]]++lb) W fun e C=>(∃ v,e=.returned v)/\J N C)
 (a1:Nat->Act)
 (c:∀ (l i:Nat)(W:World)(K:Act->World->Prop),K (a1 i) W ->
   assign.wpIn (F.inRound l) (n-1-1) P (Exit.then K (fun _ _ _=>False)) {tmps:=(ps.zip (b i)).foldl (fun t (p,v)=>t.setIfInBounds p v) a.tmps,defers:=[]} W)
 (f:∀ (l i:Nat)(W:World),i<N->d i W->body.wpIn (F.inRound l) (n-1-1) P (ownPostK (fun _ _=>True) (fun _ C=>d (i+1) C) (fun _ (_:List Unit) _=>False) [] W) (a1 i) W)
 (j:∀ (D:Nat)(W:World),w.heap.size<=D->d N W->W.heap[D]?=some (.deferred (some []))->Q .normal {a with defers:={target:=.collected D,args:=#[]}::a.defers} W) :
 (Code.rangeFunc g ps assign body).wpIn F n P Q a w:=by
 refine wpIn_rangeFunc fun fn a5=>?_;rw[b0];obtain⟨r,y⟩:∃ r:LoopState->Loop,r=fun st=>{state:=st,pending:=none,fn,tmps:=a.tmps,params:=ps,assign,body,defers:=w.heap.size}:=⟨_,rfl⟩;have m:∀ st,(r st).state=st/\(r st).pending=none:=fun st=>by rw[y];exact⟨rfl,rfl⟩
 have X:∀ st s,{r st with state:=s}=r s:=fun st s=>by rw[y]
 have b1:Below w.heap.size w ((w.alloc (.deferred (some []))).alloc (.loop (r .ready))):=((uu _ w).alloc (CP _) _).alloc bG _;have i1:d 0 ((w.alloc (.deferred (some []))).alloc (.loop (r .ready))):=u.alloc _ (u.alloc _ h0);have l1:((w.alloc (.deferred (some []))).alloc (.loop (r .ready))).heap[w.heap.size+1]?=some (.loop (r .ready)):=by
  have:=World.alloc_heap_new (w.alloc (.deferred (some []))) (.loop (r .ready))
  rwa [yK] at this
 have d1:((w.alloc (.deferred (some []))).alloc (.loop (r .ready))).heap[w.heap.size]?=some (.deferred (some [])) :=
  (xq _ _ _ bG).trans (World.alloc_heap_new w _)
 have M:(Instr.enterLoop fn a.tmps ps assign body none).run P w=.ok (w.heap.size+1,[{target:=.collected w.heap.size,args:=#[]}]) ((w.alloc (.deferred (some []))).alloc (.loop (r .ready))):=by
  rw[y];exact run_enterLoop_outer _ _ _ _ _
 have hz:w.heap.size+2<=((w.alloc (.deferred (some []))).alloc (.loop (r .ready))).heap.size:=bG
 generalize (w.alloc (.deferred (some []))).alloc (.loop (r .ready))=w1 at b1 i1 l1 d1 M hz;refine⟨w.heap.size+1,_,w1,{target:=.fn (.func gf) lb,args:=#[.func (.yield (w.heap.size+1)) #[] #[]]},w1,gf,#[.func (.yield (w.heap.size+1)) #[] #[]]++lb,w1,M,?_,?_,?_,fun _=>h1,?_⟩
 .simp only[resolve,hg]
  simp[go_sem]
 .intro f' hf'
  simp[Target.leads] at hf';subst hf';exact a0
 .simp[invoke,go_sem,eg]
 .refine(T (w.heap.size+1) (fun i W=>d i W/\W.heap[w.heap.size+1]?=some (.loop (r .ready))/\W.heap[w.heap.size]?=some (.deferred (some []))) w1 b1 ?_ (fun _ _ h=>h.1) ?_ ⟨i1,l1,d1⟩).mono ?_
  .rintro i A B row ⟨h,hl,hd⟩ hgr hrow
   have hw:∀ q,row=some q->∃ o:Obj,A.heap[q]?=some o/\o.isWalk=true:=fun q e=>(hrow q e).2;exact⟨u i A B row h hgr (fun q e=>by obtain⟨hq,o,ho,b2⟩:=hrow q e;exact⟨V,o,ho,Obj.not_cells_of_walk b2⟩),(grownBy_keeps hgr hw hl rfl).trans hl,(grownBy_keeps hgr hw hd rfl).trans hd⟩
  .rintro i W hi ⟨h,hl,hd⟩
   have a8:w.heap.size+1<W.heap.size:=(Ae.1 hl).1;have hy:=run_yield (P:=P) (args:=b i) hl (by rw[y];exact a9 i);rw[y] at hy;refine⟨fn,_,assign,body,hy,roundIn_of_wpIn a5 (c _ i W _ ⟨_,run_beginRound hl (m _).1,?_⟩)⟩;rw[X];have a7:(W.putObj (w.heap.size+1) (.loop (r .busy))).heap[w.heap.size+1]?=some (.loop (r .busy)):=World.putObj_heap_same a8;have a2:(W.putObj (w.heap.size+1) (.loop (r .busy))).heap[w.heap.size]?=some (.deferred (some [])):=(xr V).trans hd;refine wpIn_mono (f _ i _ hi (u.putObj _ h V hl rfl)) ?_;rintro e a3 W3 x;cases e with
   | normal =>
    obtain⟨R,-,a6⟩:=x;have k:=R.same _ _ a7 rfl;have a4:=R.same _ _ a2 rfl;have L:=run_endRound (P:=P) none k;have e2:({r .busy with state:=if (none:Option Code).isNone then .ready else .done,pending:=none}:Loop)=r .ready:=by rw[y];rfl
    rw[e2] at L;exact⟨_,_,L,rfl,u.putObj _ a6 V k rfl,World.putObj_heap_same (Ae.1 k).1,(xr V).trans a4⟩
   | ret=>exact x.2.elim
   | exit id=>exact x.2.elim
   | goto t=>exact x.2.elim
   | panic ch=>exact x.elim
   | outgrown=>exact x.elim
  .rintro e W2 ⟨⟨v,rfl⟩,h,hl,hd⟩
   have L:=run_endLoop (P:=P) hl (by rw[(m _).1];decide);rw[(m _).2] at L;exact⟨none,_,L,j _ _ (CP _) (u.putObj _ h V hl rfl) ((xr V).trans hd)⟩
def Yg(a:List (Nat × ByteArray))(i:Nat):Nat × ByteArray:=a.getD i (0,ByteArray.empty)
def TZ(a:List (Nat × ByteArray))(i:Nat):Array Value:=#[I (Yg a i).1,.string (Yg a i).2]
theorem Gh{p:Prop}(h:p:=by
 refine HR.o.mono ?_;rintro e W3 ⟨rfl,Q⟩
 gi_wp2
 go_roundw
 case rel=>exact⟨k+1,V,bG,Q⟩
 case measure=>simp[intOf];omega):p:=h
theorem Ou(F:Fence)(n:Nat)(hF:F.fn 187)(B:F.round=none)(hn:1<=n)(l D L:Nat)(v:Value)(b:List (Nat × ByteArray))(J:Nat->World->Prop)
 (W:World)(hl:b.length<4611686018427387904)
 (hJ:AbidesFrom W.heap.size J)(o:∀ i q,J i q->q.ownsRow 0 268 2 v b.length (ZE b))
 (hY:∀ i q,i<b.length->J i q->YieldAt F (n-1) prog l (TZ b i) q fun e s=>e=.returned (.bool true)/\J (i+1) s)
 (T:W.cell? (Y D 0)=some (E L 0))(a5:W.cell? (Y L 0)=some v)(N:J 0 W) :
 CallsIn F n prog 187 #[.func (.yield l) #[] #[],E D 0] W fun e s=>(∃ r,e=.returned r)/\J b.length s:=by
 obtain⟨a0,C,rfl⟩:=zf (o 0 W N);refine uJ func187 rfl hF ?_ B;simp only[ntmps187,AQ,Bh,BU,Nat.reduceAdd,Nat.reduceSub,AY,AZ,yD,ym,Ba,CZ]
 gi_wp2
 gi_loopw [10] (fun i wr=>∃ k:Nat,k<=b.length/\i=I k/\J k wr) (fun i _=>b.length-(intOf i).toNat)
 case atStart=>exact⟨0,Bg _,rfl,N⟩
 case round =>
  obtain⟨k,hk,rfl,d⟩:=hrel;by_cases f:k<b.length
  .have hvr:=o _ _ d
   obtain⟨g,u,hg,_,_⟩:=zl hvr V;obtain⟨rfl,rfl⟩:a0=some (Y g 0)/\C=u:=by simpa using hg
   have a9:=own_cell? hvr (k*2) _ (XV b k f).1;have a3:=own_cell? hvr (k*2+1) _ (XV b k f).2;have j:J k (wr.alloc (.cells #[I b[k].1,.string b[k].2] 268)):=hJ _ _ _ none d (vx ..) (fun r e=>by cases e);have y:=hY k _ f j;rw[show TZ b k=#[I b[k].1,.string b[k].2] by simp[TZ,Yg,List.getD_eq_getElem?_getD,List.getElem?_eq_getElem f]] at y;obtain⟨fn,M,t,G,hy,K⟩:=y;have R:=Z d;have HR:=Z K;clear j d K
   gi_wp2
   exact Gh
  .obtain rfl:k=b.length:=V
   gi_wp2
   go_end0
   exact⟨⟨_,rfl⟩,d⟩
end Go.Proofs.YtkhnggkkiefcdaaGreatDoor
namespace Go.Proofs.YtkhnggkkiefcdaaGreatDoor
open Go.RowKit Proofs.Tryz
set_option maxRecDepth 100000
set_option maxHeartbeats 8000000
theorem RD(a:ByteArray)(f:Nat)(w:World)(b:Nat)(L:DL)(M:DM)(h:DRep w b L M)(l:M.uX.sF a=some f) :
 Calls prog 147 #[E b 0,.string a] w fun e r =>
  e=.returned (.tuple #[.string (zp (M.uV f).bytes),.nilIface])/\Fr Nil w r:=by
 have j:M.size a=(((M.uV f).bytes.length:Int),(0:Int)):=by simp[DM.size,l]
 have k:M.rn a 0 (M.uV f).bytes.length=(zp (M.uV f).bytes,(0:Int)):=by
  simp only[DM.rn,l];rw[Bl V];simp
 have o:=Z (fun d (fr:Fr Nil w d)=>by have:=Si a d b L M (h.fr fr (fun _ _=>id));rw[j] at this;exact this);have m:=Z (fun d (fr:Fr Nil w d)=>by have:=Kn a 0 (M.uV f).bytes.length d b L M (h.fr fr (fun _ _=>id));rw[k] at this;exact this);clear j k h;go_enter func147,ntmps147;go_wp2_with fail;refine(o.o w (U _ _)).mono ?_;rintro e s ⟨rfl,c⟩;go_wp2_with fail;refine(m.o s c).mono ?_;rintro e t ⟨rfl,g⟩;go_wp2_with fail;refine(YC _ _ 0 t).mono ?_;rintro e u ⟨v,rfl,q,i⟩;obtain rfl:v=.nilIface:=q;go_wp2_with fail;go_ret2;exact⟨rfl,(c.trans g).trans i⟩
end Go.Proofs.YtkhnggkkiefcdaaGreatDoor
namespace Go.Proofs.YtkhnggkkiefcdaaGreatDoor
open Go.RowKit Go.Shelf Proofs.Tryz
set_option maxRecDepth 100000
set_option maxHeartbeats 8000000
variable{W:World}{c:List Value}
attribute [local go_sem] ye
theorem Dt{β:Type}(base:Nat)(e:TypeId)(size:Nat)(v:Value)(n:Nat)(l:List Value):Go.Own (fun(_:β) W=>W.ownsRow base e size v n l):=fun s X m row d k a=>by
 refine World.ownsRow.kept d k ?_;rcases d.2 with⟨rfl,_⟩|⟨g,f,h,rfl,_,b,_⟩
 .exact .inl rfl
 .refine .inr fun i=>?_
  obtain⟨o,c,j⟩:=a g (by simpa [Value.ownBlock] using i.symm);rw[b] at c;cases c;cases j
theorem KeepsOthers.rv{S:Nat->Prop}{W':World}(f:Fr S W W')(h:∀ k,S k->∃ t,Ty W k t):KeepsOthers W W' :=
 ⟨f.size,fun k o b d=>(f.block k (Ae.1 b).1 (fun hs=>by obtain⟨t,c,g,e⟩:=h k hs;rw[b] at e;cases e;cases d)).trans b⟩
attribute [local go_sem] ye
theorem Blk.kept{d:World}{row:Option Nat}{b:Nat}{t:TypeId}(h:Blk W b c t)(e:W.grownBy d row)(a:some b≠row):Blk d b c t:=h.of_heap (e.block b h.lt a)
theorem Blk.put{b D:Nat}{t:TypeId}(h:Blk W b c t){o:Obj}(a:W.heap[D]?=some o)(g:o.isCells=false)(d:Obj):Blk (W.putObj D d) b c t :=
 h.kept (vr W D d) (fun e=>by
  have e:b=D:=by simpa using e
  subst e;rw[show W.heap[b]?=_ from h] at a;cases a;cases g)
def JM.none(limit:Nat):JM:={limit:=limit,tu:=0,name:=ByteArray.empty,size:=0,qk:=false,tQ:=false}
end Go.Proofs.YtkhnggkkiefcdaaGreatDoor
namespace Go.Proofs.YtkhnggkkiefcdaaGreatDoor
open Go.RowKit Proofs.Tryz
set_option maxRecDepth 100000
set_option maxHeartbeats 8000000
variable{a:Act}{P:Program}{w:World}{Q:Exit->Act->World->Prop}{S:World->Prop}
def SM.nil:SM:={uR:=[],uU:=[],tm:=0}
def heldBy(a:List Seg):SM:=(Zg a).foldl SM.enter SM.nil
theorem UX{n:Nat}(h:n<9223372036854775808):Yb (.inl n):=by
 refine⟨⟨h,trivial⟩,?_⟩;have a:=zL (n:=1) O;have b:=zL h;show(zk 1++zk n).length<_;rw[CN];omega
theorem XC(S:SM)(key:ByteArray)(l:List Ver):(S.holds key l).uU=S.uU:=by
 unfold SM.holds;split <;> rfl
theorem Ov:Yb (.inr (.inr (.inr ()))):=⟨⟨trivial,trivial⟩,by have:=zL (n:=4) O;show(zk 4).length<_;omega⟩
theorem Ly(x:Fact):(zx x).length<=(zj x).size:=by
 rw[SK,XW];simp[Z5]
theorem Wh{key:ByteArray}{l:List Ver}(a:zu key=true)(h:∀ u∈l,VOk u)(b:l.length<=5):Yb (.inr (.inl (key,l))):=by
 refine⟨⟨WH a h b,fun v c=>(h v c).ts⟩,?_⟩;have d:=Ly (.inr (.inl (key,l)));have e:=Xl a h b;omega
theorem Uy{to:Nat}{a:ByteArray}(h:to<9223372036854775808)(hs:a.size<=64):Yb (.inr (.inr (.inl (to,a)))):=by
 refine⟨⟨⟨h,by show a.size<_;omega⟩,trivial⟩,?_⟩;have b:=Ly (.inr (.inr (.inl (to,a))));have c:=Wg h hs;omega
theorem YO(S:SM)(key:ByteArray)(l:List Ver):(S.holds key l).tm=S.tm:=by
 unfold SM.holds;split <;> rfl
theorem J8{o:Oper}{K j:Act->World->Prop}(q n:Nat)(m:∀ c,o.op≠.defer c)(g:∀ a w,K a w->j a w)(h:o.wp P a w K Q):o.wpIn (Fence.wide.inRound q) n P a w j Q:=by
 refine⟨fun _ _=>trivial,?_⟩;rw[Oper.semAt_eq _ _ _ m];unfold Oper.wp at h;generalize (execOp a.eval o).run P w=r at h |-;cases r with
 | ok x p =>
  cases x <;> simp only[Oper.upon,Oper.uponIn] at h |-
  case value v=>exact g _ _ h
  case skip=>exact g _ _ h
  case defer d=>exact g _ _ h
  case enter f b =>
   refine⟨(fun e=>by cases e),An.2 (uK h ?_)⟩;intro e k i;cases e with
   | returned v=>exact g _ _ i
   | panicked c=>exact i
   | outgrown=>exact i
  case row row b =>
   refine⟨(fun e=>by cases e),fun c l _=>?_⟩;obtain⟨v,k,r,s⟩:=h c l;exact⟨v,k,g _ _ r,stepsIn_wide.2 s⟩
 | halt x p=>cases x <;> simp only[Oper.upon,Oper.uponIn] at h |- <;> exact h
theorem Wv{P:Program}{k:Region.Mode}{g:Array Oper}{Q:Exit->Act->World->Prop}(q n:Nat)(j:∀ (i:Nat) o,g[i]?=some o->∀ c,o.op≠.defer c)(f:¬LetsOut Q):∀ (b:Nat)(d:Array Bool)(a:Act)(w:World),wpAny P k g Q b d a w->wpAnyIn (Fence.wide.inRound q) n P k g Q b d a w
 | 0,_,_,_,h=>h
 | b+1,d,a,w,h=>by
  refine⟨h.1,fun i l=>?_⟩;have e:=h.2 i l;unfold wpOp at e;unfold wpOpIn;cases ho:g[i]? with
  | none=>rw[ho] at e;exact Wv q n j f b _ _ _ e
  | some o =>
   rw[ho] at e;simp only at e |-;split
   .rename_i hwt
    rw[Bl hwt] at e;rcases e with e|e
    .exact J8 q n (j i o ho) (fun a w=>Wv q n j f b _ a w) e
    .exact absurd e.2 f
   .rename_i hwt
    rw[CW hwt] at e;exact⟨fun _ _=>trivial,Wv q n j f b _ _ _ e⟩
theorem SS{b:Array Oper}{q n id:Nat}(hm:P.follows .mixedOrders=true)(g:(b.all fun o=>match o.op with|.defer _=>false|_=>true)=true)(d:¬LetsOut Q)(e:S w.drew)
 (h:S w.drew->wpAnyH P .any b Q S b.size (Array.replicate b.size false) a w.drew):(Code.region id b true).wpIn (Fence.wide.inRound q) n P Q a w :=
 wpIn_region_any hm (Wv q n (fun i o k c f=>by
  obtain⟨j,rfl⟩:=Ae.1 k;have:=Array.all_eq_true.1 g i j;rw[f] at this;cases this) d _ _ _ _ (wpAny_of_held _ _ _ _ (h e)))
theorem Z9{g:Region.Mode}{e:Array Oper}(i:Nat)(d:Option Tmp){j:Oper}{v:Value}{f:Nat}{b:Array Bool}(q:e[i]?=some j)(m:j.dst=d)
 (hs:Region.noSelect e=true)(o:Region.free g e b i=true)(r:(Region.ready g e b).contains i=true)
 (k:∀ c a w,Q (.panic c) (a.put d v) w->Q (.panic c) a w)(s:YieldsIf P e S j v a)(l:S w)
 (h:wpAnyH P g e Q S f (b.setIfInBounds i true) (a.put d v) w):wpAnyH P g e Q S (f+1) b a w:=by
 subst m;exact wpAnyH_take q hs o r k s l h
end Go.Proofs.YtkhnggkkiefcdaaGreatDoor
namespace Go.Proofs.YtkhnggkkiefcdaaGreatDoor
open Go.RowKit Go.Shelf Proofs.Tryz
set_option maxRecDepth 100000
set_option maxHeartbeats 8000000
variable{w:World}{k b:Nat}{S:Nat->Prop}
attribute [local go_sem] ye
def Odd(S:Nat->Prop)(w:World):Prop:=∀ k,S k->∃ o:Obj,w.heap[k]?=some o/\o.isCells=false
theorem Ty.qK{t:TypeId}(h:Ty w k t)(d:Odd S w):¬S k:=fun hs=>by
 obtain⟨c,f,h⟩:=h;obtain⟨o,a,b⟩:=d k hs;rw[h] at a;cases a;cases b
theorem SRep.qK{d:World}{L:SL}{X:SM}(h:SRep w b L X)(f:Fr S w d)(c:Odd S w):SRep d b L X :=
 h.fr f (fun k a=>by rcases h.rh a with e|e|e <;> exact e.qK c) (fun k a=>(h.rK a).qK c)
theorem DRep.qK{a:World}{L:DL}{M:DM}(h:DRep w b L M)(f:Fr S w a)(d:Odd S w):DRep a b L M :=
 h.fr f (fun k c=>by obtain⟨t,e,_⟩:=h.ty c;exact e.qK d)
theorem SRep.oG{c:Nat}{a:SL}{X:SM}{L:DL}{M:DM}(h:SRep w c a X)(d:DRep w b L M)(f:Foot b L M k):¬SFoot c a k:=fun hs=>by
 rcases h.rh hs with e|e|e
 all_goals exact d.apart e ae f
def ZJ(a:List Seg)(i:Nat):Seg:=a.getD i ([],[])
def JM.rn(a:Nat)(b:List (Nat × ByteArray))(c:List Seg):Nat->JM
 | 0=>JM.none a
 | i+1=>{limit:=a,tu:=(Yg b i).1,name:=(Yg b i).2,size:=(ZI (ZJ c i)).length,qk:=decide (0<(ZJ c i).2.length),tQ:=false}
def J9(w:World)(m g b c:Nat)(e:SL)(j L:DL)(l M:DM)(v:Value)(f:List (Nat × ByteArray))(a:Nat)(h:List Seg)(i:Nat)(W:World):Prop :=
 ((Blk W (w.heap.size+3) [.pointer none] 119/\Blk W (w.heap.size+4) [.nilIface] 132/\Blk W m [E g 0] 119/\JRep W g b (JM.rn a f h i)) /\
 (Blk W w.heap.size [E b 0] 40/\Blk W (w.heap.size+1) [.func (.func 95) #[] #[]] 166/\Blk W (w.heap.size+2) [.func (.func 96) #[E c 0] #[]] 167)) /\
 ((∃ d,SRep W c d (heldBy (h.take i))/\(∀ k,SFoot c d k->SFoot c e k\/w.heap.size<=k)/\(∀ k,SRead d k->SRead e k\/w.heap.size<=k)) /\
 DRep W b L M/\W.ownsRow 0 268 2 v f.length (ZE f)) /\
 w.heap.size<=W.heap.size/\Fr (fun k=>SFoot c e k\/Foot b j l k) w W
theorem Gi(w:World)(vb T b X:Nat)(y:SL)(x L:DL)(A M:DM)(v:Value)(Q:List (Nat × ByteArray))(c:Nat)(ss:List Seg)(B:Nat)(hB:w.heap.size<=B):OwnFrom B (J9 w vb T b X y x L A M v Q c ss):=by
 intro i W W' row h R t;have f:=Fr.sB R;have a:Odd (fun k=>row=some k) W:=fun k e=>(t k e).2;obtain⟨⟨⟨d,g,j,l⟩,m,o,q⟩,⟨⟨u,C,D,G⟩,J,r⟩,K,N⟩:=h;refine⟨⟨⟨d.fr f (d.ty.qK a),g.fr f (g.ty.qK a),j.fr f (j.ty.qK a),Blk.fr l f ((Blk.ty l).qK a)⟩,m.fr f (m.ty.qK a),o.fr f (o.ty.qK a),q.fr f (q.ty.qK a)⟩,
  ⟨⟨u,C.qK f a,D,G⟩,J.qK f a,ze r f (fun k s=>(zr r s).qK a)⟩,CO K f.size,N.tk f (fun k s e=>?_)⟩
 have:=(t k e).1;omega
theorem NZ(a:List Seg)(i:Nat)(h:i<a.length):heldBy (a.take (i+1))=(ZJ a i).1.foldl SM.enter (heldBy (a.take i)):=by
 unfold heldBy ZJ;rw[yP,CS h,U3,BM];simp[Zg,List.getD_eq_getElem?_getD,List.getElem?_eq_getElem h]
theorem FV(A B C:List Fact)(j:Nat):(A++(B++C)).take (A.length+min j B.length)=A++B.take j:=by
 rw[ve,Bn (uf _ _),Nat.add_sub_cancel_left,BR (ue ..)]
 congr 1
 rcases wj j B.length with h|h
 .rw[Ab h]
 .rw[ug h,Bn h,Bn (CP _)]
theorem Gj(a:List Seg)(i:Nat)(h:i<a.length)(j:Nat):((ZJ a i).1.take j).foldl SM.enter (heldBy (a.take i))=((Zg a).take ((Zg (a.take i)).length+min j (ZJ a i).1.length)).foldl SM.enter SM.nil:=by
 have e:Zg a=Zg (a.take i)++((ZJ a i).1++Zg (a.drop (i+1))):=by
  have b:Zg a=Zg (a.take i++a[i]::a.drop (i+1)):=by rw[<- BJ h,Bo]
  rw[b,U3];have c:ZJ a i=a[i]:=by simp[ZJ,List.getD_eq_getElem?_getD,List.getElem?_eq_getElem h]
  rw[c]
  rfl
 rw[show(Zg a).take ((Zg (a.take i)).length+min j (ZJ a i).1.length)=Zg (a.take i)++(ZJ a i).1.take j by rw[e,FV],BM]
 rfl
theorem M7(b:Nat) (L M2)(M:DM)(a:Nat)(C:Nat)(LS:SL)(u:List (Nat × ByteArray))(s:List Seg)(w:World)(h:DRep w b L M)(hs:SRep w C LS SM.nil)
 (j4:∀ wx,Fr Nil w wx->Calls prog 144 #[E b 0] wx fun e w'=>∃ L2,e=.returned .nilIface/\DStep b L M wx L2 M2 w')
 (i3:∀ wx L2,DRep wx b L2 M2->Fr (Foot b L M) w wx->Calls prog 145 #[E b 0] wx fun e w'=>∃ mb v,e=.returned (E mb 0)/\Blk w' mb [v] 263/\Vm w' v u/\wx.heap.size<=mb/\(∀ k,v.ownBlock=some k->wx.heap.size<=k)/\Fr Nil wx w')
 (i1:u.length=s.length)(i8:u.length<1000000000)(c0:∀ i,i<u.length->∃ f,M2.uX.sF (Yg u i).2=some f/\(M2.uV f).bytes=ZI (ZJ s i))(j2:CB s)
 (d4:∀ i,(((Zg s).take i).foldl SM.enter SM.nil).uR.length<1099511627776/\(((Zg s).take i).foldl SM.enter SM.nil).uU.length<1000000) :
 Calls prog 94 #[E b 0,I a,.func (.func 95) #[] #[],.func (.func 96) #[E C 0] #[]] w fun e w' =>
  ∃ jb L2 e0,e=.returned (.tuple #[E jb 0,.nilIface])/\JRep w' jb b (JM.rn a u s u.length)/\w.heap.size<=jb/\DRep w' b L2 M2/\(∀ k,Foot b L2 M2 k->Foot b L M k\/w.heap.size<=k) /\
   SRep w' C e0 (heldBy s)/\(∀ k,SFoot C e0 k->SFoot C LS k\/w.heap.size<=k)/\(∀ k,SRead e0 k->SRead LS k\/w.heap.size<=k)/\Fr (fun k=>SFoot C LS k\/Foot b L M k) w w':=by
 have k7:=Z j4;have k1:=Z i3;have HD:=Z h;have HS:=Z hs;clear j4 i3 h hs;refine(An (n:=8)).1 ?_;refine xp func94 rfl trivial ?_ rfl;simp only[ntmps94,AQ,Bh,BU,Nat.reduceAdd,Nat.reduceSub,AY,AZ,yD,ym,Ba,CZ];have b0:=Blk.new w [E b 0] 40;have f0:Fr Nil w (w.alloc (.cells #[E b 0] 40)):=(U _ _).alloc _;have s0:(w.alloc (.cells #[E b 0] 40)).heap.size=w.heap.size+1:=bG
 gi_wp2_with fail
 generalize w.alloc (.cells #[E b 0] 40)=wa at b0 f0 s0 |-;have f1:Fr Nil wa ((wa.alloc (.cells #[.func (.func 95) #[] #[]] 166)).alloc (.cells #[.func (.func 96) #[E C 0] #[]] 167)):=((U _ _).alloc _).alloc _;have b1:=(Blk.new wa [.func (.func 95) #[] #[]] 166).alloc (.cells #[.func (.func 96) #[E C 0] #[]] 167);have b2:=Blk.new (wa.alloc (.cells #[.func (.func 95) #[] #[]] 166)) [.func (.func 96) #[E C 0] #[]] 167;rw[show(wa.alloc (.cells #[.func (.func 95) #[] #[]] 166)).heap.size=w.heap.size+2 by simp[s0]] at b2;rw[s0] at b1;have s1:((wa.alloc (.cells #[.func (.func 95) #[] #[]] 166)).alloc (.cells #[.func (.func 96) #[E C 0] #[]] 167)).heap.size=w.heap.size+3:=by simp[s0]
 generalize (wa.alloc (.cells #[.func (.func 95) #[] #[]] 166)).alloc (.cells #[.func (.func 96) #[E C 0] #[]] 167)=wb at b1 b2 f1 s1 |-;have b3:=Blk.new wb [.pointer none] 119;have b4:=Blk.new (wb.alloc (.cells #[.pointer none] 119)) [.nilIface] 132;have s3:(wb.alloc (.cells #[.pointer none] 119)).heap.size=w.heap.size+4:=by simp[s1]
 have s4:((wb.alloc (.cells #[.pointer none] 119)).alloc (.cells #[.nilIface] 132)).heap.size=w.heap.size+5:=by simp[s1]
 have f3:Fr Nil wb ((wb.alloc (.cells #[.pointer none] 119)).alloc (.cells #[.nilIface] 132)):=((U _ _).alloc _).alloc _;have b3:=b3.alloc (.cells #[.nilIface] 132);rw[s1] at b3;rw[s3] at b4;have b0:=(b0.fr f1 id).fr f3 id;have b1:=b1.fr f3 id;have b2:=b2.fr f3 id;generalize (wb.alloc (.cells #[.pointer none] 119)).alloc (.cells #[.nilIface] 132)=wc at b0 b1 b2 b3 b4 s4 f3 |-;have f:=(f0.trans f1).trans f3;rw[show w.heap.size+1+1+1=w.heap.size+3 from rfl,show w.heap.size+1+1=w.heap.size+2 from rfl,show w.heap.size+3+1=w.heap.size+4 from rfl] at *;have HX:=Z (show w.heap.size+5=wc.heap.size from s4.symm);have B:=Z (And.intro b0 (And.intro b1 (And.intro b2 (And.intro b3 b4))));have d8:=Z f;clear f0 f1 f3 s0 s1 s3 s4 b0 b1 b2 b3 b4 f;refine⟨trivial,?_⟩;refine(An.2 (k7.o wc d8.o)).mono ?_;rintro e m ⟨L2,rfl,r⟩;have a9:∀ {k c t},Blk wc k c t->¬DTy t->¬Foot b L M k:=fun hb ht=>(HD.o.nil d8.o).apart hb.ty ht;have c9:=B.o.1.fr r.fr (a9 B.o.1 ae);have g4:=B.o.2.1.fr r.fr (a9 B.o.2.1 ae);have g5:=B.o.2.2.1.fr r.fr (a9 B.o.2.2.1 ae);have g6:=B.o.2.2.2.1.fr r.fr (a9 B.o.2.2.2.1 ae);have g7:=B.o.2.2.2.2.fr r.fr (a9 B.o.2.2.2.2 ae);have m2:w.heap.size+5<=m.heap.size:=by rw[HX.o];exact r.fr.size
 have F1:Fr (Foot b L M) w m:=(d8.o.mono (S':=Foot b L M) (fun _ _ e=>absurd e id)).trans r.fr;have d3:∀ k,Foot b L2 M2 k->Foot b L M k\/w.heap.size<=k:=fun k o=>(r.sd k o).imp id (fun e=>by have:=HX.o;omega);have d6:SRep m C LS SM.nil:=HS.o.fr F1 (fun k o hf=>HS.o.oG HD.o hf o) (fun k o=>HD.o.apart (HS.o.rK o) ae);have e8:=r.th;have k8:=c9.cell 0;clear r a9;have f4:Fr Nil m ((m.alloc (.cells #[E b 0,I a,I 0,.string ⟨#[]⟩,I 0,.bool false,.bool false] 197)).alloc (.cells #[E m.heap.size 0] 119)):=((U _ _).alloc _).alloc _;have bj:=(Blk.new m [E b 0,I a,I 0,.string ⟨#[]⟩,I 0,.bool false,.bool false] 197).alloc (.cells #[E m.heap.size 0] 119);have bp:=Blk.new (m.alloc (.cells #[E b 0,I a,I 0,.string ⟨#[]⟩,I 0,.bool false,.bool false] 197)) [E m.heap.size 0] 119;rw[show(m.alloc (.cells #[E b 0,I a,I 0,.string ⟨#[]⟩,I 0,.bool false,.bool false] 197)).heap.size=m.heap.size+1 from bG] at bp;have sp:((m.alloc (.cells #[E b 0,I a,I 0,.string ⟨#[]⟩,I 0,.bool false,.bool false] 197)).alloc (.cells #[E m.heap.size 0] 119)).heap.size=m.heap.size+2:=bG
 have g8:=(c9.fr f4 id).cell 0
 gi_wp2_with fail
 generalize (m.alloc (.cells #[E b 0,I a,I 0,.string ⟨#[]⟩,I 0,.bool false,.bool false] 197)).alloc (.cells #[E m.heap.size 0] 119)=wp at bp sp bj f4 g8 |-;have F3:Fr (Foot b L M) w wp:=F1.trans (f4.mono (S':=Foot b L M) (fun _ _ e=>absurd e id));have i0:=e8.nil f4;refine⟨trivial,?_⟩;refine(An.2 (k1.o wp L2 i0 F3)).mono ?_;rintro e w2 ⟨mb,v,rfl,f8,b9,j0,j8,f6⟩;have m3:m.heap.size+2<=w2.heap.size:=by have:=f6.size;omega
 have d5:=f8.lt
 gi_wp2_with fail
 refine⟨trivial,?_⟩;refine(An.2 (SP mb _)).mono ?_;rintro e w3 ⟨rfl,rfl⟩;have bM:=vD w2 211 (E mb 0);have f5:Fr Nil w2 (w2.alloc (.cells #[E mb 0] 211)):=(U _ _).alloc _;have s5:(w2.alloc (.cells #[E mb 0] 211)).heap.size=w2.heap.size+1:=bG
 generalize w2.alloc (.cells #[E mb 0] 211)=W0 at bM f5 s5;have b6:=f6.trans f5;have Q:=f4.trans b6;have i9:=f8.fr f5 id;have k6:aa (J9 w (m.heap.size+1) m.heap.size b C LS L L2 M M2 v u a s 0 W0) :=
  ⟨⟨⟨g6.fr Q id,g7.fr Q id,bp.fr b6 id,bj.fr b6 id⟩,c9.fr Q id,g4.fr Q id,g5.fr Q id⟩,⟨⟨LS,d6.nil Q,fun k o=>.inl o,fun k o=>.inl o⟩,e8.nil Q,ze b9.sL f5 (fun _ _=>id)⟩,V,(F3.mono (S':=fun k=>SFoot C LS k\/Foot b L M k) (fun _ _ e=>.inr e)).trans (b6.mono (fun _ _ e=>absurd e id))⟩
 have l8:Below W0.heap.size W0 W0:=uu _ _;have b5:=Z (And.intro d5 (And.intro (i9.cell 0) s5));clear c9 g4 g5 g6 g7 bj bp k8 g8 f4 sp F3 i0 f8 b9 j0 j8 f6 d5 f5 b6 Q i9 d6 e8;have d9:=Z (And.intro i1 i8);have k2:=Z c0;have k5:=Z j2;have k4:=Z d4;have k3:=Z d3;clear i1 i8 c0 j2 d4 d3
 gi_wp2_with fail
 refine Wr rfl O (gf:=187) (lb:=#[E w2.heap.size 0]) rfl trivial (wF func187 bI rfl)
  u.length (TZ u) (fun _=>rfl) _ (Gi w (m.heap.size+1) m.heap.size b C LS L L2 M M2 v u a s W0.heap.size (by have:=b5.o.2.2;omega)) k6.o
  (fun k J W hW hJ hI hY h0=>Ou Fence.wide 7 trivial rfl O k w2.heap.size mb v u J W (by have:=d9.o.2;omega) hJ (fun i W1 h=>(hI i W1 h).2.1.2.2) hY ((hW.cell (p:=⟨w2.heap.size,0,none⟩) (by have:=b5.o.2.2;simp only;omega)).trans bM.cell) ((hW.cell (p:=⟨mb,0,none⟩) (by have:=b5.o;simp only;omega)).trans b5.o.2.1) h0)
  (fun i=>{tmps:=#[E b 0,I a,.func (.func 95) #[] #[],.func (.func 96) #[E C 0] #[],E w.heap.size 0,undef,E (w.heap.size+1) 0,E (w.heap.size+2) 0,E (w.heap.size+3) 0,E (w.heap.size+4) 0,.nilIface,E (m.heap.size+1) 0,I (Yg u i).1,.string (Yg u i).2,undef,undef,undef,E b 0,.nilIface,.nilIface,.bool false,undef,undef,E b 0,I a,.agg #[E b 0,I a,I 0,.string ⟨#[]⟩,I 0,.bool false,.bool false],E m.heap.size 0,E b 0,E mb 0,.func (.func 187) #[] #[E w2.heap.size 0],I (Yg u i).1,.string (Yg u i).2,undef,undef,undef,undef,undef,undef,undef,undef,undef,undef,undef,undef,undef,undef,undef,undef,undef,undef,undef,undef,undef,undef,undef,undef,undef,undef,undef,undef,undef,undef,undef,undef,undef],defers:=[]}) ?assign ?body ?done
 case assign =>
  intro l x W K X;unfold TZ
  gi_wp2
  exact X
 case body =>
  rintro q i W hi ⟨⟨⟨a1,a2,a3,a4⟩,a5,a6,a7⟩,⟨⟨L',c1,c2,c3⟩,c4,c5⟩,c6,c7⟩;obtain⟨f,i4,i2⟩:=k2.o i hi;have d1:i<s.length:=by have:=d9.o.1;omega
  have j3:V4 (ZJ s i):=by
   have:ZJ s i=s[i]:=by simp[ZJ,List.getD_eq_getElem?_getD,List.getElem?_eq_getElem d1]
   rw[this];exact k5.o _ (CU d1)
  obtain⟨i5,tb,j5,j6,j7⟩:=j3;have b8:=RD (Yg u i).2 f W b L2 M2 c4 i4;rw[i2] at b8;have a0:=Z b8;have G:=Z (fun wx (fr:Fr Nil W wx)=>Oa (ZJ s i).1 i5 (ZJ s i).2 tb j5 j6 j7 C L' (heldBy (s.take i)) wx (c1.nil fr) (fun j=>by rw[Gj s i d1 j];exact k4.o _));rw[<- NZ s i d1] at G;rw[show zK (ZJ s i).1++(ZJ s i).2=ZI (ZJ s i) from rfl] at G;have c8:aa (JM.rn a u s (i+1)={limit:=a,tu:=(Yg u i).1,name:=(Yg u i).2,size:=(ZI (ZJ s i)).length,qk:=decide (0<(ZJ s i).2.length),tQ:=false}):=show _=_ from rfl;have g3:aa (∃ l d,JRep W m.heap.size b {limit:=a,tu:=l,name:=(JM.rn a u s i).name,size:=(JM.rn a u s i).size,qk:=(JM.rn a u s i).qk,tQ:=d}/\d=false):=by
   cases i with
   | zero=>exact⟨_,_,a4,rfl⟩
   | succ i=>exact⟨_,_,a4,rfl⟩
  have k9:=a5.cell 0;have HV:=Z (And.intro a1 (And.intro a2 (And.intro a3 (And.intro a5 (And.intro a6 a7)))));have T:=Z (And.intro c1 (And.intro c2 (And.intro c3 (And.intro c4 (And.intro c5 (And.intro c6 c7))))));clear a1 a2 a3 a4 a5 a6 a7 c1 c2 c3 c4 c5 c6 c7 i4 i2 b8 i5 j5 j6 j7;generalize l4:Yg u i=en at a0 c8 |-;generalize l5:ZI (ZJ s i)=sg at a0 G c8;generalize l6:(ZJ s i).2.length=tl at G c8;clear l5 l6 l4
  gi_wp2_with fail
  refine⟨trivial,?_⟩;refine(An.2 a0.o).mono ?_;rintro e W2 ⟨rfl,f2⟩;have l0:=(HV.o.2.2.2.2.1.fr f2 id).cell 0;have l1:=(HV.o.2.2.2.2.2.fr f2 id).cell 0;have g:=Z f2;clear k9 f2
  gi_wp2_with fail
  refine⟨trivial,?_⟩;refine(An.2 (G.o W2 g.o)).mono ?_;rintro e W3 ⟨rfl,L3,r1,r2,r3,r4⟩;have d7:∀ k,SFoot C L' k->∃ t,Ty W2 k t:=fun k o=>by
   rcases (T.o.1.nil g.o).rh o with e|e|e <;> exact⟨_,e⟩
  have y:∀ {k c t},Blk W2 k c t->t≠161->t≠239->t≠75->¬SFoot C L' k:=fun hb h1 h2 h3 o=>by
   rcases (T.o.1.nil g.o).rh o with e|e|e
   .exact h1 (hb.ty.inj e)
   .exact h2 (hb.ty.inj e)
   .exact h3 (hb.ty.inj e)
  have e1:=(HV.o.1.fr g.o id).fr r2 (y (HV.o.1.fr g.o id) O O O);have e2:=(HV.o.2.1.fr g.o id).fr r2 (y (HV.o.2.1.fr g.o id) O O O);have d0:=(HV.o.2.2.1.fr g.o id).fr r2 (y (HV.o.2.2.1.fr g.o id) O O O);have e5:=(HV.o.2.2.2.1.fr g.o id).fr r2 (y (HV.o.2.2.2.1.fr g.o id) O O O);have e6:=(HV.o.2.2.2.2.1.fr g.o id).fr r2 (y (HV.o.2.2.2.2.1.fr g.o id) O O O);have e7:=(HV.o.2.2.2.2.2.fr g.o id).fr r2 (y (HV.o.2.2.2.2.2.fr g.o id) O O O);obtain⟨jl,jd,f7,rfl⟩:=g3.o;have b7:Blk W3 m.heap.size _ 197:=Blk.fr (Blk.fr f7 g.o id) r2 (y (Blk.fr f7 g.o id) O O O);have e9:DRep W3 b L2 M2:=(T.o.2.2.2.1.nil g.o).fr r2 (fun k o=>(T.o.1.nil g.o).oG (T.o.2.2.2.1.nil g.o) o);have g0:W3.ownsRow 0 268 2 v u.length (ZE u):=ze (ze T.o.2.2.2.2.1 g.o (fun _ _=>id)) r2 (fun k o hf=>by
   have ht:=zr (ze T.o.2.2.2.2.1 g.o (fun _ _=>id)) o;rcases (T.o.1.nil g.o).rh hf with e|e|e <;> exact absurd (ht.inj e) O)
  have i7:KeepsOthers W W3:=(KeepsOthers.rv g.o (fun _ e=>absurd e id)).trans (KeepsOthers.rv r2 d7);have d2:Fr (fun k=>SFoot C LS k\/Foot b L M k) w W3:=(T.o.2.2.2.2.2.2.trans (g.o.mono (fun _ _ e=>absurd e id))).tk r2 (fun k o e=>by
   rcases T.o.2.1 k e with h|h
   .exact .inl h
   .omega)
  have a8:Ty W3 m.heap.size 197:=b7.ty;have A:∀ {k c t},Blk W3 k c t->t≠197->¬k=m.heap.size:=fun hb h e=>by subst e;exact h (hb.ty.inj a8)
  have g1:aa (∀ W',Fr (fun k=>k=m.heap.size) W3 W'->JRep W' m.heap.size b {limit:=a,tu:=en.1,name:=en.2,size:=sg.length,qk:=decide (0<tl),tQ:=false}->KeepsOthers W3 W'->KeepsOthers W W'/\True/\J9 w (m.heap.size+1) m.heap.size b C LS L L2 M M2 v u a s (i+1) W'):=fun W' fw hj ho =>
   ⟨i7.trans ho,trivial,⟨⟨e1.fr fw (A e1 O),e2.fr fw (A e2 O),d0.fr fw (A d0 O),by rw[c8.o];exact hj⟩,e5.fr fw (A e5 O),e6.fr fw (A e6 O),e7.fr fw (A e7 O)⟩,
    ⟨⟨L3,r1.fr fw (fun k o e=>by subst e;rcases r1.rh o with e|e|e <;> exact absurd (e.inj a8) O) (fun k o e=>by subst e;exact absurd ((r1.rK o).inj a8) O),
     fun k o=>(r3 k o).elim (T.o.2.1 k) (fun e=>.inr (CO (CO T.o.2.2.2.2.2.1 g.o.size) e)),fun k o=>(r4 k o).elim (T.o.2.2.1 k) (fun e=>.inr (CO (CO T.o.2.2.2.2.2.1 g.o.size) e))⟩,
     e9.fr fw (fun k o e=>by subst e;exact e9.apart a8 ae o),ze g0 fw (fun k o e=>by subst e;exact absurd ((zr g0 o).inj a8) O)⟩,
    CO (CO (CO T.o.2.2.2.2.2.1 g.o.size) r2.size) fw.size,d2.tk fw (fun k o e=>V)⟩
  have g2:=Z b7;have l3:=d0.cell 0;have l2:=b7.cell;have m6:=b7.frozen;have l7:m.heap.size+1≠m.heap.size:=V
  clear G a0 HV T g l0 l1 r1 r2 r3 r4 d7 y e1 e2 d0 e5 e6 e7 f7 b7 e9 g0 i7 d2 a8 A;simp only[JM.cells] at l2 g2;generalize W3=WR at *
  gi_wp2_with fail
  refine SS (S:=fun w'=>w'.cell? (Y (m.heap.size+1) 0)=some (E m.heap.size 0)) bI bI (by rintro⟨_,_,h⟩;exact h) l3 (fun N=>?_);refine Z9 0 (some 46) (v:=?_) rfl rfl bI bI bI (fun _ _ _ h=>h) (Or.inl ⟨bH,?_⟩) ao ?_
  rotate_left
  .intro w hSw;go_simp;try with_reducible rfl
  simp only[Act.put,Br,BD,BI];refine Z9 1 (some 47) (v:=?_) rfl rfl bI bI bI (fun _ _ _ h=>h) (Or.inl ⟨bH,?_⟩) ao ?_
  rotate_left
  .intro w hSw;go_simp;try with_reducible rfl
  simp only[Act.put,Br,BD,BI];refine Z9 2 (some 48) (v:=?_) rfl rfl bI bI bI (fun _ _ _ h=>h) (Or.inl ⟨bH,?_⟩) ao ?_
  rotate_left
  .intro w hSw;go_simp;try with_reducible rfl
  simp only[Act.put,Br,BD,BI];refine Z9 3 (some 49) (v:=?_) rfl rfl bI bI bI (fun _ _ _ h=>h) (Or.inl ⟨bH,?_⟩) ao ?_
  rotate_left
  .intro w hSw;go_simp;try with_reducible rfl
  simp only[Act.put,Br,BD,BI];refine Z9 4 (some 50) (v:=?_) rfl rfl bI bI bI (fun _ _ _ h=>h) (Or.inl ⟨bH,?_⟩) ao ?_
  rotate_left
  .intro w hSw;go_simp;try with_reducible rfl
  simp only[Act.put,Br,BD,BI];refine Z9 5 (some 51) (v:=?_) rfl rfl bI bI bI (fun _ _ _ h=>h) (Or.inl ⟨bH,?_⟩) ao ?_
  rotate_left
  .intro w hSw;go_simp;try with_reducible rfl
  simp only[Act.put,Br,BD,BI];refine Z9 6 (some 52) (v:=?_) rfl rfl bI bI bI (fun _ _ _ h=>h) (Or.inl ⟨bH,?_⟩) ao ?_
  rotate_left
  .intro w hSw;go_simp;try with_reducible rfl
  simp only[Act.put,Br,BD,BI];refine Z9 7 (some 53) (v:=?_) rfl rfl bI bI bI (fun _ _ _ h=>h) (Or.inl ⟨bH,?_⟩) ao ?_
  rotate_left
  .intro w hSw;go_simp;try with_reducible rfl
  simp only[Act.put,Br,BD,BI];refine Z9 8 (some 54) (v:=?_) rfl rfl bI bI bI (fun _ _ _ h=>h) (Or.inl ⟨bH,?_⟩) ao ?_
  rotate_left
  .intro w hSw;go_simp;try with_reducible rfl
  simp only[Act.put,Br,BD,BI];refine Z9 9 (some 55) (v:=?_) rfl rfl bI bI bI (fun _ _ _ h=>h) (Or.inl ⟨bH,?_⟩) ao ?_
  rotate_left
  .intro w hSw;go_simp;try with_reducible rfl
  simp only[Act.put,Br,BD,BI];refine Z9 10 (some 56) (v:=?_) rfl rfl bI bI bI (fun _ _ _ h=>h) (Or.inl ⟨bH,?_⟩) ao ?_
  rotate_left
  .intro w hSw;go_simp;try with_reducible rfl
  simp only[Act.put,Br,BD,BI];refine Z9 11 (some 57) (v:=?_) rfl rfl bI bI bI (fun _ _ _ h=>h) (Or.inl ⟨bH,?_⟩) ao ?_
  rotate_left
  .intro w hSw;go_simp;try with_reducible rfl
  simp only[Act.put,Br,BD,BI];refine uw (rs:=[12]) bI bG (vF rfl (fun K X=>?_) vZ)
  go_simp
  refine X _ _ aO (fun N=>?_);clear X K
  try simp only[Act.put,Br,BD,BI]
  refine Z9 13 (some 58) (v:=?_) rfl rfl bI bI bI (fun _ _ _ h=>h) (Or.inl ⟨bH,?_⟩) ao ?_
  rotate_left
  .intro w hSw;go_simp;try with_reducible rfl
  simp only[Act.put,Br,BD,BI];refine Z9 14 (some 59) (v:=?_) rfl rfl bI bI bI (fun _ _ _ h=>h) (Or.inl ⟨bH,?_⟩) ao ?_
  rotate_left
  .intro w hSw;go_simp;try with_reducible rfl
  simp only[Act.put,Br,BD,BI];refine uw (rs:=[15]) bI bG (vF rfl (fun K X=>?_) vZ)
  go_simp
  refine X _ _ aO (fun N=>?_);clear X K
  try simp only[Act.put,Br,BD,BI]
  refine Z9 16 (some 60) (v:=?_) rfl rfl bI bI bI (fun _ _ _ h=>h) (Or.inl ⟨bH,?_⟩) ao ?_
  rotate_left
  .intro w hSw;go_simp;try with_reducible rfl
  simp only[Act.put,Br,BD,BI];refine Z9 17 (some 61) (v:=?_) rfl rfl bI bI bI (fun _ _ _ h=>h) (Or.inl ⟨bH,?_⟩) ao ?_
  rotate_left
  .intro w hSw;go_simp;try with_reducible rfl
  simp only[Act.put,Br,BD,BI];refine uw (rs:=[18]) bI bG (vF rfl (fun K X=>?_) vZ)
  go_simp
  refine X _ _ aO (fun N=>?_);clear X K
  try simp only[Act.put,Br,BD,BI]
  refine Z9 19 (some 62) (v:=?_) rfl rfl bI bI bI (fun _ _ _ h=>h) (Or.inl ⟨bH,?_⟩) ao ?_
  rotate_left
  .intro w hSw;go_simp;try with_reducible rfl
  simp only[Act.put,Br,BD,BI];refine Z9 20 (some 63) (v:=?_) rfl rfl bI bI bI (fun _ _ _ h=>h) (Or.inl ⟨bH,?_⟩) ao ?_
  rotate_left
  .intro w hSw;go_simp;try with_reducible rfl
  simp only[Act.put,Br,BD,BI];refine uw (rs:=[21]) bI bG (vF rfl (fun K X=>?_) vZ)
  go_simp
  refine X _ _ aO (fun N=>?_);clear X K
  try simp only[Act.put,Br,BD,BI]
  refine wpAnyH_done bI ?_ _;refine g1.o _ ?_ ?_ ?_
  .exact Fr.drew (Fr.set (S:=fun k=>k=m.heap.size) (p:=⟨m.heap.size,5,none⟩) (Fr.set (S:=fun k=>k=m.heap.size) (p:=⟨m.heap.size,4,none⟩) (Fr.set (S:=fun k=>k=m.heap.size) (p:=⟨m.heap.size,3,none⟩) (Fr.set (S:=fun k=>k=m.heap.size) (p:=⟨m.heap.size,2,none⟩) (U _ _) (fun _=>rfl) _) (fun _=>rfl) _) (fun _=>rfl) _) (fun _=>rfl) _)
  .exact Blk.drew ((((g2.o.set 2 _).set 3 _).set 4 _).set 5 _)
  .exact((((yT WR ⟨m.heap.size,2,none⟩ _).trans (yT _ ⟨m.heap.size,3,none⟩ _)).trans (yT _ ⟨m.heap.size,4,none⟩ _)).trans (yT _ ⟨m.heap.size,5,none⟩ _)).trans (KeepsOthers.drew _)
 case done =>
  rintro D W hD ⟨⟨⟨h3,h4,hp,hj⟩,-,-,-⟩,⟨⟨L',c1,c2,c3⟩,c4,c5⟩,c6,c7⟩ X;rw[d9.o.1,Bj] at c1;have m1:=hp.cell 0;have m4:=h3.frozen 0;have m5:=h4.frozen 0;have l9:=h3.cell 0;have m0:=h4.cell 0;have j1:w.heap.size+3≠w.heap.size+4:=V
  have g9:=(h3.set 0 (E m.heap.size 0)).qv (b':=w.heap.size+4) j1 0 .nilIface;have h5:=(h4.qv (b':=w.heap.size+3) (wJ j1) 0 (E m.heap.size 0)).set 0 .nilIface;have fE:Fr (fun k=>k=w.heap.size+3\/k=w.heap.size+4) W ((W.setCell (Y (w.heap.size+3) 0) (E m.heap.size 0)).setCell (Y (w.heap.size+4) 0) .nilIface) :=
   Fr.set (p:=⟨w.heap.size+4,0,none⟩) (Fr.set (p:=⟨w.heap.size+3,0,none⟩) (U _ _) (fun _=>.inl rfl) _) (fun _=>.inr rfl) _
  have h7:=((yT W ⟨w.heap.size+3,0,none⟩ (E m.heap.size 0)).trans (yT _ ⟨w.heap.size+4,0,none⟩ .nilIface)).same D _ X rfl;have R:∀ {k t},Ty W k t->t≠119->t≠132->¬(k=w.heap.size+3\/k=w.heap.size+4):=fun ht n1 n2 e=>by
   rcases e with rfl|rfl
   .exact n1 (ht.inj h3.ty)
   .exact n2 (ht.inj h4.ty)
  have i6:=Blk.fr hj fE (R (Blk.ty hj) O O);have h8:=c1.fr fE (fun k o=>by rcases c1.rh o with e|e|e <;> exact R e O O) (fun k o=>R (c1.rK o) O O);have h9:=c4.fr fE (fun k o=>by obtain⟨t,ht,hd⟩:=c4.ty o;unfold DTy at hd;rcases hd with rfl|rfl|rfl|rfl|rfl <;> exact R ht O O);have h6:=c7.tk fE (fun k o e=>V);have H3:=Z g9;have H4:=Z h5;have HJ:=Z i6;have HC:=Z h8;have j9:=Z h9;have k0:=Z h6;have HK:=Z h7;clear h3 h4 hp hj c1 c4 c5 c6 c7 g9 h5 fE h7 X R i6 h8 h9 h6
  gi_wp2_with fail
  refine⟨bG,.inl ⟨_,_,rfl,wo HK.o,?_⟩⟩;have e3:=(H3.o.put HK.o rfl (.deferred none)).cell 0;have e4:=(H4.o.put HK.o rfl (.deferred none)).cell 0;have fP:=Fr.sB (vr ((W.setCell (Y (w.heap.size+3) 0) (E m.heap.size 0)).setCell (Y (w.heap.size+4) 0) .nilIface) D (.deferred none));have f9:Odd (fun k=>some D=some k) ((W.setCell (Y (w.heap.size+3) 0) (E m.heap.size 0)).setCell (Y (w.heap.size+4) 0) .nilIface):=fun k e=>by cases e;exact⟨_,HK.o,rfl⟩
  refine⟨.tuple #[E m.heap.size 0,.nilIface],?_,m.heap.size,L2,L',rfl,Blk.fr HJ.o fP ((Blk.ty HJ.o).qK f9),V,j9.o.qK fP f9,k3.o,HC.o.qK fP f9,c2,c3,k0.o.tk fP (fun k o e=>by have:=b5.o.2.2;cases e;omega)⟩;simp only[BD,Ax] at e3 e4;simp[results,Tryz.f94,go_sem,e3,e4]
end Go.Proofs.YtkhnggkkiefcdaaGreatDoor
namespace Go.Proofs.YtkhnggkkiefcdaaGreatDoor
open Go.RowKit Proofs.Tryz
set_option maxRecDepth 100000
set_option maxHeartbeats 8000000
theorem Gk(r:List ByteArray)(x:ByteArray):(Xb r x).Perm (x::r):=by
 induction r with
 | nil=>exact xU _
 | cons y r a =>
  unfold Xb;split
  .exact(a.cons y).trans (List.Perm.swap x y r)
  .exact xU _
theorem Ud(d:Dir):d.tT.Perm (d.map Prod.fst):=by
 have h:∀ (e:Dir) (r:List ByteArray),(e.foldl (fun r e=>Xb r e.1) r).Perm (e.map Prod.fst++r):=by
  intro e
  induction e with
  | nil=>intro r;exact xU _
  | cons x e a =>
   intro r;rw[BX,Bw,CZ];exact(a _).trans ((wW _ (Gk r x.1)).trans vf)
 unfold Dir.tT YL;rw[Bj];refine(List.reverse_perm _).trans ?_;have:=h d []
 rwa [Bz] at this
theorem Ow{α β:Type}(f:α->β){l m:List β}(h:l.Perm m):∀ b:List α,m=b.map f->∃ a:List α,a.Perm b/\l=a.map f:=by
 induction h with
 | nil=>intro b e;exact⟨b,xU _,e⟩
 | cons x _ q =>
  intro b e;cases b with
  | nil=>cases e
  | cons y b =>
   simp only[Bw,uz] at e;obtain⟨a,g,d⟩:=q b e.2;exact⟨y::a,g.cons y,by rw[Bw,<- e.1,<- d]⟩
 | swap x y l =>
  intro b e
  match b,e with
  | b1::k::b,e =>
   simp only[Bw,uz] at e;exact⟨k::b1::b,List.Perm.swap _ _ _,by rw[Bw,Bw,<- e.1,<- e.2.1,<- e.2.2]⟩
 | trans _ _ i j =>
  intro b e;obtain⟨a,g,d⟩:=j b e;obtain⟨c,p,o⟩:=i a d;exact⟨c,p.trans g,o⟩
def Yr(B:Nat)(w:World):Prop:=Xr B w/\YE w/\4<B
theorem Yr.fr{B:Nat}{S:Nat->Prop}{w w':World}(h:Yr B w)(g:B<=w.heap.size)(f:Fr S w w')(c:∀ k,S k->B<=k):Yr B w' :=
 ⟨h.1.fr g f c,h.2.1.fr f (fun e=>by have:=c _ e;have:=h.2.2;omega),h.2.2⟩
end Go.Proofs.YtkhnggkkiefcdaaGreatDoor
