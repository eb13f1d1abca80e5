/- larder: joined texts -/
import Derived.Test.YtkhnggkkiefcdaaGreatDoorSFAH
import Derived.Test.YtkhnggkkiefcdaaGreatDoorSFAI
import Derived.Test.YtkhnggkkiefcdaaGreatDoorSFAN
namespace Go.Proofs.YtkhnggkkiefcdaaGreatDoor
open Go.RowKit
set_option maxRecDepth 100000
set_option maxHeartbeats 8000000
def TQ:ByteArray:=⟨#[98,97,115,101]⟩
theorem Ke{l:List (Nat × ByteArray)}{s:Nat}(h:s∉ZO l):Z5 zY (ZO l) s=false:=by
 rcases Fg (low zY (ZO l) s) l.length with a|a
 .rw[XH a rfl,GG]
  rintro e;exact h (by rw[<- e];exact GI (IX a))
 .exact Ve (by simpa using a)
theorem Jg{l:List (Nat × ByteArray)}{s:Nat}{x:ByteArray}{e:Nat × ByteArray}:e∈WH l s x↔e∈l\/e=(s,x):=by
 have h:e∈l↔e∈l.take (low zY (ZO l) s)\/e∈l.drop (low zY (ZO l) s):=by
  rw[<- Hh,Ge]
 rw[h];simp only[WH,Hh,IZ]
 constructor
 .rintro((h|h)|h)
  .exact .inl (.inl h)
  .exact .inr h
  .exact .inl (.inr h)
 .rintro((h|h)|h)
  .exact .inl (.inl h)
  .exact .inr h
  .exact .inl (.inr h)
theorem Vy(n:Nat):Lib.hasPrefix (zg zl n).data.toList TQ.data.toList=false/\Lib.atoi (zg zl n).data.toList=none:=by
 have e:(zg zl n).data.toList=108::111::103::Lib.decDigits n:=by
  simp only[zg,zl,FF,FR,Wp]
  rfl
 rw[e];exact⟨rfl,rfl⟩
theorem PF(n:Nat)(a:n<10^15):(zg zl n).size<=18:=by
 have h:=Vw 14 n a;have e:(zg zl n).data.toList.length=3+(Lib.decDigits n).length:=by
  simp only[zg,zl,FF,FR,Wp];simp;omega
 have b:(zg zl n).size=(zg zl n).data.toList.length:=by simp
 omega
def SR(a:List Nat)(l:List (Nat × ByteArray)):Prop:=l.length=a.length/\∀ e,e∈l↔∃ n∈a,e=(n,zg zl n)
theorem TR(b:Nat)(L:DL)(M:DM)(w:World)(h:DRep w b L M)(a:List Nat)(hd:M.dir.names=a.map (zg zl))(a3:M.dir.length=a.length)(Y:a.Nodup)(N:∀ n∈a,1<=n/\n<10^15)(a9:a.length<1000000000)
 (ht:∀ o,Fr Nil w o->Tab o)(y:XC w) :
 Calls Tryz.prog 145 #[.pointer (some ⟨b,0,none⟩)] w fun e o =>
  ∃ mb v l,e=.returned (.pointer (some ⟨mb,0,none⟩))/\Blk o mb [v] 263/\Vx o v l/\SR a l/\w.heap.size<=mb/\(∀ k,v.ownBlock=some k->w.heap.size<=k)/\Fr Nil w o:=by
 have HL:=Z (fun z (f:Fr Nil w z)=>Wm z b L M (h.fr f (fun _ _=>id)) (by omega));rw[hd,a3] at HL;clear h;go_enter Tryz.func145,Tryz.ntmps145;go_wp2_with fail;have V:Blk (w.alloc (.cells #[.slice none 0 0] 263)) w.heap.size [.slice none 0 0] 263:=Blk.new w [_] _;have A:Fr Nil w (w.alloc (.cells #[.slice none 0 0] 263)):=(O _ _).alloc _;generalize w.alloc (.cells #[.slice none 0 0] 263)=W0 at V A |-;refine(HL.out W0 A).mono ?_;rintro e w1 ⟨lv,rfl,T,G,b1⟩;have a5:=V.fr G id;obtain⟨la,lc,rfl⟩:=zc T;go_wp2_with fail;have HT:=Z ht;have b0:=Z y;have a2:=Z Y;have HB:=Z N;have HX:Hid (∀ n∈a,∀ z,Fr Nil w z->(Calls Tryz.prog 185 #[.string zl,.string (zg zl n)] z fun e o=>e=.returned (.int .i64 n)/\Fr Nil z o) /\
  (Calls Tryz.prog 185 #[.string TQ,.string (zg zl n)] z fun e o=>e=.returned (.int .i64 0)/\Fr Nil z o)):=fun n X z f =>
  ⟨PA zl (by decide) n (N n X).1 (by have:=(N n X).2;omega) z (fun o f'=>ht o (f.trans f')),
   Vj TQ (zg zl n) (Vy n).1 (PF n (N n X).2) (Vy n).2 z (y.fr f id)⟩
 clear ht y Y N;have b4:=A.size;have b5:=G.size
 go_loopw [12] (fun J o=>∃ (i:Nat) (v:Value) (l:List (Nat × ByteArray)),i<=a.length/\J=.int .i64 (i:Int)/\Blk o w.heap.size [v] 263/\Vx o v l/\SR (a.take i) l/\(∀ k,v.ownBlock=some k->w.heap.size<=k)/\o.ownsRow 0 9 1 (.slice la a.length lc) a.length (strs (a.map (zg zl)))/\Fr Nil w o) (fun J _=>(a.length-intOf J).toNat)
 case atStart =>
  refine⟨0,_,[],by omega,rfl,a5,⟨⟨rfl,.inl ⟨rfl,rfl⟩⟩,?_⟩,⟨rfl,by simp⟩,fun k C=>by simp[Value.ownBlock] at C,T,A.trans G⟩;exact List.Pairwise.nil
 case round =>
  obtain⟨i,v,l,hi,rfl,hm,s,t,u,r,hf⟩:=hrel;by_cases B:i<a.length
  .obtain⟨g,cap',hg,_,_⟩:=zm r (by omega)
   obtain⟨rfl,rfl⟩:la=some ⟨g,0,none⟩/\lc=cap':=by simpa using hg
   have hc:=own_cell? r i (.string (zg zl a[i])) (by simp[strs,B]);have d:=IX B;have a1:=(HB.out _ d).1;have Q:a[i]<10^15:=(HB.out _ d).2;have a0:a[i]∉ZO l:=by
    intro C;obtain⟨e,he,D⟩:=Gc.1 C;obtain⟨n,X,rfl⟩:=(t.2 e).1 he;simp only at D;obtain⟨j,hj,rfl⟩:=GF X;simp only[IR] at hj;rw[Fy] at D;exact(List.pairwise_iff_getElem.1 a2.out) j i (by omega) B (by omega) D
   have HN:=Z a0;have q:=Z (And.intro hm (And.intro s (And.intro t (And.intro u (And.intro r hf)))));have K:Hid (a.take (i+1)=a.take i++[a[i]]):=by
    show a.take (i+1)=_;rw[EM,IW B];rfl
   clear hm s t u r hf a0;generalize b3:a[i]=n at hc d a1 Q HN K;go_wp2_with fail;refine((HX.out n d wr q.out.2.2.2.2.2).1).mono ?_;rintro e w2 ⟨rfl,R⟩;go_wp2_with fail;refine((HX.out n d w2 (q.out.2.2.2.2.2.trans R)).2).mono ?_;rintro e w3 ⟨rfl,a4⟩;have a8:(0:Int)<n:=by omega
   have b2:¬(n:Int)<0:=by omega
   go_wp2_with fail;have c:=R.trans a4;refine(MP v [] l n (zg zl n) w.heap.size 263 w3 (q.out.1.fr c id) (by decide) (q.out.2.1.fr c (fun _ _=>id)) (by have:=q.out.2.2.1.1;simp at this;omega) (Ke HN.out)).mono ?_;rintro e w4 ⟨rfl,v',a7,F,S,I⟩;go_wp2_with fail;have x:=zb q.out.2.2.2.2.1 c (fun _ _=>id);have a6:=q.out.1.fr c id;have E:=q.out.2.1.fr c (fun _ _=>id);have b6:=(q.out.2.2.2.2.2.trans c).size;refine⟨⟨i+1,v',WH l n (zg zl n),by omega,by go_num,a7,F,⟨?_,fun e=>?_⟩,fun k C=>?_,zb x S (fun k C e=>?_),?_⟩,by simp[intOf];omega⟩
   .have:=q.out.2.2.1.1
    rw[UP,this];simp;omega
   .rw[Jg,K.out,q.out.2.2.1.2 e]
    constructor
    .rintro(⟨m,hm,rfl⟩|rfl)
     .exact⟨m,by simp only[Hh];exact .inl hm,rfl⟩
     .exact⟨n,by simp,rfl⟩
    .rintro⟨m,hm,rfl⟩
     simp only[Hh,IZ] at hm;rcases hm with hm|rfl
     .exact .inl ⟨m,hm,rfl⟩
     .exact .inr rfl
   .rcases I k C with h1|h1
    .exact q.out.2.2.2.1 k h1
    .omega
   .have h0:=zD x C
    rcases e with rfl|e
    .exact absurd (Ty.inj h0 (Blk.ty a6)) (by decide)
    .exact absurd (Ty.inj h0 (zD E.own e)) (by decide)
   .refine(q.out.2.2.2.2.2.trans c).trans' S (fun k C e=>?_)
    rcases e with rfl|e
    .omega
    .have:=q.out.2.2.2.1 k e;omega
  .have hil:i=a.length:=by omega
   subst hil;go_wp2_with fail;go_ret;rw[HZ] at t;exact⟨_,v,l,rfl,hm,s,t,IQ _,u,hf⟩
end Go.Proofs.YtkhnggkkiefcdaaGreatDoor
namespace Go.Proofs.YtkhnggkkiefcdaaGreatDoor
open Go.RowKit
theorem NU{α:Type}(f:α->Nat):∀ (a b:List α),a.Pairwise (fun x y=>f x<f y)->b.Pairwise (fun x y=>f x<f y)->(∀ e,e∈a↔e∈b)->a=b
 | [],[],_,_,_=>rfl
 | [],y::b,_,_,h=>absurd ((h y).2 (Hf ..)) (by simp)
 | x::a,[],_,_,h=>absurd ((h x).1 (Hf ..)) (by simp)
 | x::a,y::b,d,g,h=>by
  rw[List.pairwise_cons] at d g;have i:x=y:=by
   rcases HY.1 ((h x).1 (Hf ..)) with e|e
   .exact e
   .rcases HY.1 ((h y).2 (Hf ..)) with e2|e2
    .exact e2.symm
    .have c:=g.1 x e
     have j:=d.1 y e2;omega
  subst i;rw[NU f a b d.2 g.2 fun e=>?_]
  constructor
  .intro he
   rcases HY.1 ((h e).1 (Hb _ he)) with rfl|c
   .have:=d.1 e he;omega
   .exact c
  .intro he
   rcases HY.1 ((h e).2 (Hb _ he)) with rfl|c
   .have:=g.1 e he;omega
   .exact c
def segs(k:Nat):List (Nat × ByteArray):=(List.range k).map fun i=>(i+1,zg zl (i+1))
theorem Nd{a:List Nat}{l:List (Nat × ByteArray)}{k:Nat}(h:SR a l)(c:Asc zY (ZO l))(b:∀ n,n∈a↔1<=n/\n<=k):l=segs k:=by
 refine NU Prod.fst l (segs k) ?_ ?_ fun e=>?_
 .have h1:(l.map Prod.fst).Pairwise (fun x y=>zY x y=true):=c
  rw[Ei] at h1;exact h1.imp fun h=>by simpa [zY] using h
 .unfold segs
  rw[Ei];exact List.pairwise_lt_range.imp fun h=>by simpa using h
 .rw[h.2 e]
  unfold segs;simp only[Gc,FY]
  constructor
  .rintro⟨n,hm,rfl⟩
   have:=(b n).1 hm;exact⟨n-1,by omega,by rw[show n-1+1=n by omega]⟩
  .rintro⟨i,hi,rfl⟩
   exact⟨i+1,(b _).2 (by omega),rfl⟩
end Go.Proofs.YtkhnggkkiefcdaaGreatDoor
namespace Go.Proofs.YtkhnggkkiefcdaaGreatDoor
open Go.RowKit
set_option maxRecDepth 100000
set_option maxHeartbeats 8000000
def Uf(l:List UInt8):Nat:=l.foldl (fun a c=>a*10+(c.toNat-48)) 0
theorem Nf(l:List UInt8)(c:UInt8):Uf (l++[c])=Uf l*10+(c.toNat-48):=by simp[Uf]
theorem VV(u:Nat):Uf (Lib.decDigits u)=u:=by
 induction u using Nat.strongRecOn with
 | _ u a =>
  rw[Lib.decDigits];by_cases h:u<10
  .rw[CN h]
   have:(UInt8.ofNat (48+u)).toNat=48+u:=by simp;omega
   simp only[Uf,GT,List.foldl_nil,this];omega
  .rw[dif_neg h,Nf,a (u / 10) (by omega)]
   have:(UInt8.ofNat (48+u%10)).toNat=48+u%10:=by simp;omega
   rw[this];omega
theorem Jh{a b:Nat}(h:Xy a=Xy b):a=b:=by
 have c:Lib.itoa (a:Int)=Lib.itoa (b:Int):=by
  have:=GY (fun x:ByteArray=>x.data.toList) h
  simpa [Xy] using this
 have e:∀ n:Nat,Lib.itoa (n:Int)=Lib.decDigits n:=by
  intro n;unfold Lib.itoa;rw[IV (by omega)];simp
 rw[e,e] at c;rw[<- VV a,<- VV b,c]
theorem Wb{k:ByteArray}{a b:Nat}(h:zg k a=zg k b):a=b:=by
 refine Jh ?_;have c:(zg k a).data.toList=(zg k b).data.toList:=by rw[h]
 unfold zg at c;simp only[FF,FR,List.append_cancel_left_eq] at c;exact EY (EN c)
theorem MQ(k:ByteArray)(n:Nat):(zg k n).size=k.size+(Xy n).size:=by
 unfold zg;simp
theorem Ta(n:Nat):zg zl n≠ByteArray.empty:=by
 intro h;have:(zg zl n).size=0:=by rw[h];rfl
 rw[MQ] at this;have a:zl.size=3:=rfl;omega
structure Calm(M:DM):Prop where
 dead:M.dead=false
 cut:M.cut=0
 fail:M.fail=0
 calls:0<=M.calls
theorem Calm.CX{M:DM}(h:Calm M)(i:M.calls<4611686018427387904):M.CX=(true,0,{M with calls:=M.calls+1}):=by
 have a:wrap64 (M.calls+1)=M.calls+1:=by have:=h.calls;unfold wrap64;omega
 have c:(wrap64 (M.calls+1)==M.cut)=false:=by rw[a,h.cut];have:=h.calls;simp;omega
 have e:(wrap64 (M.calls+1)==M.fail)=false:=by rw[a,h.fail];have:=h.calls;simp;omega
 rw[M.AE h.dead c e,a]
def DM.BG(M:DM):Nat:=(M.dir.map fun e=>(M.file e.2).bytes.length).sum
theorem PG{n:Int}(a:0<=n)(b:n<9223372036854775808):wrap64 n=n:=by unfold wrap64;omega
theorem DM.AK(M:DM)(h:M.BG<4611686018427387904):M.used=M.BG:=by
 have key:∀ (d:Dir) (a:Nat),a+(d.map fun e=>(M.file e.2).bytes.length).sum<4611686018427387904 ->
  d.foldl (fun n e=>wrap64 (n+(M.file e.2).bytes.length)) (a:Int)=((a+(d.map fun e=>(M.file e.2).bytes.length).sum:Nat):Int):=by
  intro d
  induction d with
  | nil=>intro a _;simp
  | cons e d c =>
   intro a b;simp only[Ht,Fm] at b;rw[GT,PG (by omega) (by omega)];have:=c (a+(M.file e.2).bytes.length) (by omega);rw[show((a:Int)+((M.file e.2).bytes.length:Int))=((a+(M.file e.2).bytes.length:Nat):Int) from by push_cast;rfl,this];simp only[Ht,Fm]
   congr 1
   omega
 have:=key M.dir 0 (by unfold DM.BG at h;omega);unfold DM.used DM.Ar;rw[HZ];rw[show(0:Int)=((0:Nat):Int) from rfl,this];unfold DM.BG;simp
structure zI(T:Nat)(J:JM)(M:DM)(t:Nat):Prop where
 calm:Calm M
 calls:M.calls<=4*t
 room:2000*(T:Int)<=M.room/\M.room<=1152921504606846976/\T<=100000000
 part:M.part=0
 last:J.last<=t
 size:J.size<=2000*t
 names:∀ e∈M.dir,∃ k,k<=J.last/\e.1=zg zl k
 cur:J.last≠0->∃ f,M.dir.look J.name=some f/\(M.file f).bytes.length=J.size
 BG:M.BG<=2000*t
 Bj:M.Bj.length<=t
 dir:M.dir.length<=t
 ids:∀ g∈M.ids,(M.file g).bytes.length<=2000*t
 BQ:∀ e∈M.dir,e.2∈M.ids
 once:(M.dir.map (·.2)).Nodup
 Aq:M.ids.length<=t
 Bu:∀ d∈M.safe::M.Bj,d.length<=t
theorem Rt{d:Dir}{a:ByteArray}(h:∀ e∈d,e.1≠a):d.look a=none:=by
 have c:d.find? (fun e=>e.1==a)=none:=by
  rw[FH];intro e b x;exact h e b (zT.1 x)
 unfold Dir.look;rw[c]
 rfl
theorem zI.Ay{T:Nat}{J:JM}{M:DM}{t:Nat}(h:zI T J M t)(c:Int)(b:M.calls<=c)(a:c<=4*(t+1)):zI T J {M with calls:=c} (t+1) where
 calm:=⟨h.calm.dead,h.calm.cut,h.calm.fail,CT h.calm.calls b⟩
 calls:=by have:=a;simp only at this |-;push_cast;omega
 room:=h.room
 part:=h.part
 last:=Hs h.last
 size:=by have:=h.size;omega
 names:=h.names
 cur:=h.cur
 BG:=by have:=h.BG;have e:DM.BG {M with calls:=c}=M.BG:=rfl;rw[e];omega
 Bj:=Hs h.Bj
 dir:=Hs h.dir
 ids:=fun g i=>by have:=h.ids g i;simp only;omega
 BQ:=h.BQ
 once:=h.once
 Aq:=Hs h.Aq
 Bu:=fun d f=>Hs (h.Bu d f)
theorem zI.lt{T:Nat}{J:JM}{M:DM}{t:Nat}(h:zI T J M t)(c:t<=T):M.calls<4611686018427387904:=by have:=h.calls;have:=h.room;omega
theorem zI.Bc{T:Nat}{J:JM}{M:DM}{t:Nat}(h:zI T J M t)(q:t<=T):∃ a,J.Bc M=(none,a)/\a.calls<=M.calls+1/\M.calls<=a.calls/\a.refused=M.refused/\a.Bb=M.Bb/\zI T J a (t+1)/\a.dir=M.dir/\a.ids=M.ids/\a.Bj=M.Bj/\(∀ c:Int,a.calls<=c->c<=4*(t+1)->zI T J {a with calls:=c} (t+1)):=by
 unfold JM.Bc;by_cases j:J.last=0
 .rw[He j]
  refine⟨M,rfl,by omega,by omega,rfl,rfl,?_,rfl,rfl,rfl,fun c i b=>h.Ay c i b⟩;have:=h.Ay M.calls (by omega) (by have:=h.calls;omega);exact this
 .rw[IV j]
  obtain⟨f,m,hs⟩:=h.cur j;have hm:M.sync J.name=(0,{M with calls:=M.calls+1,file:=fun g=>if g=f then {M.file f with safe:=(M.file f).bytes.length} else M.file g}):=by
   unfold DM.sync;rw[m];simp only[h.calm.CX (h.lt q),Gi]
   rfl
  rw[hm];have l:∀ g,((if g=f then {M.file f with safe:=(M.file f).bytes.length} else M.file g:FM)).bytes=(M.file g).bytes:=by
   intro g;split
   .rename_i e;subst e;rfl
   .rfl
  have k:∀ c:Int,M.calls+1<=c->c<=4*(t+1)->zI T J {M with calls:=c,file:=fun g=>if g=f then {M.file f with safe:=(M.file f).bytes.length} else M.file g} (t+1):=by
   intro c i b;exact {
    calm:=⟨h.calm.dead,h.calm.cut,h.calm.fail,by have:=h.calm.calls;simp only;omega⟩
    calls:=by simp only;push_cast;omega
    room:=h.room
    part:=h.part
    last:=Hs h.last
    size:=by have:=h.size;omega
    names:=h.names
    cur:=fun _=>⟨f,m,by simp only[Gi];exact hs⟩
    BG:=by
     have e:DM.BG {M with calls:=c,file:=fun g=>if g=f then {M.file f with safe:=(M.file f).bytes.length} else M.file g}=M.BG:=by unfold DM.BG;simp only[l]
     rw[e];have:=h.BG;omega
    Bj:=Hs h.Bj
    dir:=Hs h.dir
    ids:=fun g p=>by have:=h.ids g p;simp only[l];omega
    BQ:=h.BQ
    once:=h.once
    Aq:=Hs h.Aq
    Bu:=fun d o=>Hs (h.Bu d o)}
  refine⟨_,rfl,by simp only;omega,by simp only;omega,rfl,rfl,k _ (by omega) (by have:=h.calls;omega),rfl,rfl,rfl,fun c i b=>k c i b⟩
theorem Ug{f n:Nat}(size:Nat->Nat):∀ (d:Dir),(d.map (·.2)).Nodup->(d.map fun e=>if e.2=f then size e.2+n else size e.2).sum<=(d.map fun e=>size e.2).sum+n
 | [],_=>by simp
 | e::d,h=>by
  simp only[Ht,Ed] at h;simp only[Ht,Fm];by_cases a:e.2=f
  .rw[He a]
   have:(d.map fun e=>if e.2=f then size e.2+n else size e.2)=d.map fun e=>size e.2:=by
    apply GS
    intro x c;rw[IV];intro b;exact h.1 (by rw[a,<- b];exact GI c)
   rw[this];omega
  .rw[IV a]
   have:=Ug (f:=f) (n:=n) size d h.2;omega
theorem zI.Be{T:Nat}{J:JM}{M:DM}{t:Nat}(h:zI T J M t)(R:t<=T)(n f:Nat)(L:f∉M.ids) :
 ∃ J' m,J.Be M n f=(none,J',m)/\zI T J' m (t+1)/\J'.last≠0/\J'.Bw=J.Bw/\M.calls<=m.calls/\m.refused=M.refused/\m.Bb=M.Bb/\(∀ g∈m.ids,g=f\/g∈M.ids):=by
 have V:t<=100000000:=by have:=h.room;omega
 unfold JM.Be;cases o:J.fits n with
 | true =>
  have Q:J.last≠0:=by
   unfold JM.fits at o;simp only[Gr,Ha] at o;exact o.1
  have:=h.Ay M.calls (by omega) (by have:=h.calls;omega);exact⟨J,M,rfl,this,Q,rfl,by omega,rfl,rfl,fun g i=>.inr i⟩
 | false =>
  simp only[Gl,Gj];obtain⟨l,E,I,K,C,s,j,p,D,y,F⟩:=h.Bc R;have B:l.calls<4611686018427387904:=by have:=h.calls;omega
  have u:l.dir.look (zg zl (J.last+1))=none:=by
   refine Rt fun e c x=>?_;rw[p] at c;obtain⟨k,N,v⟩:=h.names e c;rw[v] at x;have:=Wb x;omega
  have z:l.create (zg zl (J.last+1)) f=(0,({l with calls:=l.calls+1}.Bf f).Bk (l.dir++[(zg zl (J.last+1),f)])):=by
   unfold DM.create;rw[IV (by rw[u];rintro(e|e);exact Ta _ e;cases e)];rw[j.calm.CX B]
   rfl
  unfold JM.begin;rw[E];simp only[z,Gi];refine⟨_,_,rfl,?_,by simp,rfl,?_,C,s,?_⟩
  .have hnf:∀ e∈M.dir,e.2≠f:=fun e c x=>L (x▸h.BQ e c)
   have A:∀ e∈l.dir,(if e.2=f then(⟨[],0⟩:FM) else l.file e.2)=l.file e.2:=fun e c=>IV (hnf e (p▸c));exact {
    calm:=⟨j.calm.dead,j.calm.cut,j.calm.fail,by have:=j.calm.calls;simp only[DM.Bk,DM.Bf];omega⟩
    calls:=by have:=h.calls;simp only[DM.Bk,DM.Bf];push_cast;omega
    room:=j.room
    part:=j.part
    last:=by have:=h.last;simp only;omega
    size:=by simp only;omega
    names:=by
     intro e c;simp only[DM.Bk,DM.Bf,Hh,IZ] at c;rcases c with c|rfl
     .rw[p] at c
      obtain⟨k,N,v⟩:=h.names e c;exact⟨k,by simp only;omega,v⟩
     .exact⟨J.last+1,IQ _,rfl⟩
    cur:=fun _=>by
     refine⟨f,?_,by simp[DM.Bk,DM.Bf]⟩;simp only[DM.Bk,DM.Bf];unfold Dir.look at u |-;rw[Option.map_eq_none_iff] at u;rw[EJ,u];simp[zT]
    BG:=by
     have:=j.BG;unfold DM.BG at this |-;simp only[DM.Bk,DM.Bf,Gs,Ht,Fo,DF,Fm,CU,Gi];rw[GS (g:=fun e=>(l.file e.2).bytes.length) (fun e c=>by rw[A e c])];simp only[Gt];omega
    Bj:=by have:=h.Bj;simp only[DM.Bk,DM.Bf,IM,IU,y];omega
    dir:=by have:=h.dir;simp only[DM.Bk,DM.Bf,IM,IU,p];omega
    ids:=by
     intro g i;simp only[DM.Bk,DM.Bf];split
     .simp
     .rename_i hne
      simp only[DM.Bk,DM.Bf,HY] at i;rcases i with i|i
      .exact absurd i hne
      .exact j.ids g i
    BQ:=by
     intro e c;simp only[DM.Bk,DM.Bf,Hh,HY,Ft,Dy] at c |-;rcases c with c|rfl
     .exact .inr (j.BQ e c)
     .exact .inl rfl
    once:=by
     simp only[DM.Bk,DM.Bf,Gs,Ht,Fo];rw[FO];refine⟨j.once,by simp,?_⟩;intro a G b o;simp only[IZ] at o;obtain⟨e,c,rfl⟩:=Gc.1 G;subst o;exact hnf e (p▸c)
    Aq:=by
     have:=h.Aq;simp only[DM.Bk,DM.Bf,Hq,D];omega
    Bu:=by
     intro d r;simp only[DM.Bk,DM.Bf,HY,Hh,Ft,Dy] at r;have q:=j.Bu d;rcases r with e|e|e
     .exact q (by rw[e];exact Hf ..)
     .exact q (Hb _ e)
     .rw[e,IM,p]
      have:=h.dir;simp only[IU];omega}
  .simp only[DM.Bk,DM.Bf];omega
  .intro g i
   simp only[DM.Bk,DM.Bf,HY] at i;rcases i with i|i
   .exact .inl i
   .exact .inr (D▸i)
theorem zI.append{T:Nat}{J:JM}{M:DM}{t:Nat}(h:zI T J M t)(Y:t+2<=T)(a:ByteArray)(A:a.size<=2000)(f:Nat)(I:f∉M.ids) :
 ∃ J' o,J.append M a f=(true,none,J',o)/\zI T J' o (t+2)/\J'.Bw=J.Bw/\M.calls<=o.calls/\o.refused=M.refused/\o.Bb=M.Bb/\(∀ g∈o.ids,g=f\/g∈M.ids):=by
 obtain⟨C,b,D,c,L,s,F,N,u,r⟩:=h.Be (by omega) a.size f I;have v:=c.room;have B:=c.BG;unfold JM.append;rw[D];simp only;obtain⟨g,z,Q⟩:=c.cur L;have j:=c.calm.CX (by have:=c.calls;omega);have m:b.used=b.BG:=b.AK (by have:=c.BG;omega);have q:b.add C.name a=(0,({b with calls:=b.calls+1}:DM).Bg g {b.file g with bytes:=(b.file g).bytes++a.data.toList}):=by
  unfold DM.add;rw[z];have x:b.tries a.size=some (a.size:Int):=by unfold DM.tries;rw[j];rfl
  simp only[x,j];have l:DM.left {b with calls:=b.calls+1}=b.room-(b.BG:Int):=by
   have e:DM.used {b with calls:=b.calls+1}=b.used:=rfl;unfold DM.left;rw[e,m];have:=c.BG;have R:IntKind.i64.wrap (b.room-(b.BG:Int))=b.room-(b.BG:Int):=by
    rw[Hr];omega
   rw[R,IV (by omega)]
  rw[l,IV (by have:=c.BG;omega)];have V:(a.extract 0 (a.size:Int).toNat).data.toList=a.data.toList:=by
   have:(a.size:Int).toNat=a.size:=by simp
   rw[this,ByteArray.extract_zero_size]
  rw[V]
 unfold JM.BL;rw[q];simp only[Gi];have y:=h.calls;refine⟨_,_,rfl,?_,s,by simp only[DM.Bg];omega,N,u,r⟩;have i:∀ k,((if k=g then {b.file g with bytes:=(b.file g).bytes++a.data.toList} else b.file k:FM)).bytes.length=if k=g then(b.file k).bytes.length+a.size else(b.file k).bytes.length:=by
  intro k;by_cases e:k=g
  .subst e;simp only[Gi,IM,GR];rfl
  .simp only[IV e]
 exact {
  calm:=⟨c.calm.dead,c.calm.cut,c.calm.fail,by have:=c.calm.calls;simp only[DM.Bg];omega⟩
  calls:=by have:=c.calls;simp only[DM.Bg];push_cast at this |-;omega
  room:=c.room
  part:=c.part
  last:=by have:=c.last;simp only;omega
  size:=by have:=c.size;simp only;omega
  names:=c.names
  cur:=fun _=>⟨g,z,by have:=i g;simp only[Gi] at this;simp only[DM.Bg,Gi];omega⟩
  BG:=by
   have E:=c.BG;have X:=Ug (f:=g) (n:=a.size) (fun k=>(b.file k).bytes.length) b.dir c.once;unfold DM.BG at E |-;simp only[DM.Bg,i];omega
  Bj:=by have:=c.Bj;simp only[DM.Bg];omega
  dir:=by have:=c.dir;simp only[DM.Bg];omega
  ids:=by
   intro k K;have:=c.ids k K;simp only[DM.Bg,i];split <;> omega
  BQ:=c.BQ
  once:=c.once
  Aq:=Hs c.Aq
  Bu:=fun d G=>Hs (c.Bu d G)}
theorem zI.Bn{T:Nat}{J:JM}{M:DM}{t:Nat}(h:zI T J M t)(y:t<=T) :
 ∃ i c,J.Bn M=(none,i,c)/\zI T i c (t+1)/\i.Bw=J.Bw/\M.calls<=c.calls/\c.refused=M.refused/\c.Bb=M.Bb/\c.ids=M.ids:=by
 obtain⟨f,r,u,j,g,b,a,p,q,v,s⟩:=h.Bc y;have z:t<=100000000:=by have:=h.room;omega
 unfold JM.Bn;rw[r];by_cases m:J.last≠0/\J.Bm=false
 .rw[He ⟨rfl,m⟩]
  have k:f.calls<4611686018427387904:=by have:=h.calls;omega
  have l:f.Bp=(0,{f with calls:=f.calls+1,safe:=f.dir,Bj:=[]}):=by
   unfold DM.Bp;rw[a.calm.CX k]
   rfl
  unfold JM.Bp;simp only[l];refine⟨_,_,rfl,?_,rfl,by simp only;omega,g,b,q⟩;have o:=h.calls;exact {
   calm:=⟨a.calm.dead,a.calm.cut,a.calm.fail,by have:=a.calm.calls;simp only;omega⟩
   calls:=by simp only;push_cast;omega
   room:=a.room
   part:=a.part
   last:=a.last
   size:=a.size
   names:=a.names
   cur:=a.cur
   BG:=a.BG
   Bj:=Hg _
   dir:=a.dir
   ids:=a.ids
   BQ:=a.BQ
   once:=a.once
   Aq:=a.Aq
   Bu:=fun d p=>by
    rcases HY.1 p with e|e
    .rw[e];exact a.dir
    .cases e}
 .rw[IV (fun x=>m x.2)]
  exact⟨_,_,rfl,a,rfl,j,g,b,q⟩
theorem zI.ok{T:Nat}{J:JM}{M:DM}{t:Nat}(h:zI T J M t)(i:t<=T)(H n:Nat)(q:n<=2000)(k:∀ g∈M.ids,g<H):YG J M H n where
 bytes:=by omega
 size:=by have:=h.size;have:=h.room;omega
 last:=by have:=h.last;have:=h.room;omega
 Bj:=by obtain⟨j,a,_,_,_,_,_,_,_,c,_⟩:=h.Bc i;rw[a];simp only[c];have:=h.Bj;have:=h.room;omega
 dir:=by obtain⟨j,a,_,_,_,_,_,l,_⟩:=h.Bc i;rw[a];simp only[l];have:=h.dir;have:=h.room;omega
 room:=fun f p=>by
  obtain⟨o,j,a,b,_⟩:=h.Be i n f (fun hm=>by have:=k f hm;omega);rw[a];exact⟨by rw[b.part];decide,by have:=b.size;have:=h.room;simp only;omega,fun g m=>by have:=b.ids g m;have:=h.room;simp only;omega⟩
structure VOk(u:Ver):Prop where
 node:zS u.node
 nat:u.Nat
 size:u.value.size<=128
 one:1<=u.seq
 gone:u.gone=false
theorem Kf{n:Int}(h:isN n):(zi n.toNat).length<=9:=zG (by unfold isN at h;omega)
theorem PH:∀ l:List Nat,(∀ x∈l,x<9223372036854775808)->((l.map zi).flatten).length<=9*l.length
 | [],_=>by simp
 | a::l,h=>by
  have:=PH l (fun x b=>h x (Hb _ b));have c:=zG (h a (Hf ..));simp only[Ht,Fh,IM,Hq];omega
theorem Kg(l:List Nat)(a:∀ x∈l,x<9223372036854775808)(b:l.length<9223372036854775808):(YQ l).length<=9+9*l.length:=by
 unfold YQ;rw[IM];have c:=zG b;have:=PH l a;omega
theorem WU(s:ByteArray)(h:s.size<1000000000):(Za s.data.toList).length<=9+s.size:=by
 have hs:s.data.toList.length=s.size:=by rw[GR];rfl
 unfold Za;rw[IM,hs];have:=zG (n:=s.size) (by omega);omega
theorem Ji{u:Ver}(h:VOk u):(ZY u).length<=200:=by
 unfold ZY;simp only[IM];have g:=Kf h.nat.node;have i:=Kf h.nat.seq;have f:=Kg [u.o0.toNat,u.o1.toNat,u.o2.toNat,u.o3.toNat] (by
  have a:=h.nat.o0;have b:=h.nat.o1;have c:=h.nat.o2;have d:=h.nat.o3;unfold isN at a b c d;intro x e;simp only[HY,Ft,Dy] at e;rcases e with rfl|rfl|rfl|rfl <;> omega) (by simp only[Hq,Gt];omega)
 have j:=WU u.value h.nat.size;have:=h.size;simp only[Hq,Gt] at f;omega
theorem Uh(l:List Ver)(h:∀ u∈l,VOk u)(g:l.length<=5):(ZN l).length<=1009:=by
 unfold ZN;rw[IM];have e:=zG (n:=l.length) (by omega);have b:∀ l:List Ver,(∀ u∈l,VOk u)->((l.map ZY).flatten).length<=200*l.length:=by
  intro l
  induction l with
  | nil=>intro _;simp
  | cons a l d =>
   intro h;have:=d (fun x c=>h x (Hb _ c));have f:=Ji (h a (Hf ..));simp only[Ht,Fh,IM,Hq];omega
 have:=b l h;omega
theorem XL(l:List UInt8)(h:l.length<9223372036854775808):(Z0 l).length<=9+l.length:=by
 unfold Z0;rw[IM];have:=zG h;omega
theorem YK(l:List UInt8):(zo l).size=l.length:=rfl
theorem Ru{n:Nat}(h:n<9223372036854775808):(zh (.inl n)).size<=2000:=by
 show(zo (XX n)).size<=2000;rw[YK];unfold XX;have b:=zG (n:=1) (by decide);have c:=zG h;have a:=XL (zi 1++zi n) (by rw[IM];omega);rw[IM] at a;omega
theorem YL{key:ByteArray}{l:List Ver}(a:zp key=true)(h:∀ u∈l,VOk u)(c:l.length<=5):(zh (.inr (.inl (key,l)))).size<=2000:=by
 show(zo (XY key l)).size<=2000;rw[YK];unfold zp at a;simp only[Ha] at a;unfold XY;have d:=zG (n:=2) (by decide);have e:=WU key (by omega);have f:=Uh l h c;have b:=XL (zi 2++(Za key.data.toList++ZN l)) (by simp only[IM];omega);simp only[IM] at b;omega
theorem Wq{b:Nat}{a:ByteArray}(h:b<9223372036854775808)(hs:a.size<=64):(zh (.inr (.inr (.inl (b,a))))).size<=2000:=by
 show(zo (Wt b a)).size<=2000;rw[YK];unfold Wt;have d:=zG (n:=3) (by decide);have e:=WU a (by omega);have f:=zG h;have c:=XL (zi 3++(zi b++Za a.data.toList)) (by simp only[IM];omega);simp only[IM] at c;omega
theorem Rv:(zh (.inr (.inr (.inr ())))).size<=2000:=by
 show(zo Vc).size<=2000;rw[YK];unfold Vc;have a:=zG (n:=4) (by decide);have b:=XL (zi 4) (by omega);omega
theorem Xo{key:ByteArray}{l:List Ver}(a:zp key=true)(h:∀ u∈l,VOk u)(b:l.length<=5):FOk (.inr (.inl (key,l))):=by
 unfold zp at a;simp only[Ha] at a;have:=Uh l h b;exact⟨fun v c=>(h v c).nat,by show l.length<_;omega,by show key.size<_;omega,by show(ZN l).length<=_;omega⟩
structure Zm(S:SM):Prop where
 Al:Y1 S.keys
 key:∀ e∈S.keys,Yl e.2/\e.2.length<=4/\∀ u∈e.2,VOk u
 hlen:S.hints.length<=32
 names:∀ e∈S.keys,zp e.1=true
theorem PI(K:Keys)(key:ByteArray):zj K key=[]\/∃ e∈K,e.1=key/\e.2=zj K key:=by
 cases ha:Z5 zf (K.map Prod.fst) key with
 | false=>exact .inl (by unfold zj;rw[ha];rfl)
 | true =>
  obtain⟨l,hs,a⟩:=Vs ha;refine .inr ⟨(key,l),?_,rfl,a.symm⟩;rw[hs];simp
theorem Zm.get{S:SM}(h:Zm S)(key:ByteArray):Yl (zj S.keys key)/\(zj S.keys key).length<=4/\∀ u∈zj S.keys key,VOk u:=by
 rcases PI S.keys key with e|⟨e,d,_,c⟩
 .rw[e]
  exact⟨List.Pairwise.nil,by simp,fun u f=>absurd f (by simp)⟩
 .rw[<- c]
  exact h.key e d
theorem Vz{K:Keys}{key:ByteArray}{l:List Ver}:∀ e∈Y0 K key l,e∈K\/e=(key,l):=by
 intro e a;simp only[Y0,Hh,IZ] at a;rcases a with(a|rfl)|a
 .exact .inl (GV a)
 .exact .inr rfl
 .exact .inl (Gn a)
theorem VA{K:Keys}{key:ByteArray}:∀ e∈YI K key,e∈K:=by
 intro e a;unfold YI at a;split at a
 .rcases Hh.1 a with a|a
  .exact GV a
  .exact Gn a
 .exact a
theorem PJ{K:Keys}(key:ByteArray)(l:List Ver)(h:Y1 K):Y1 (Y0 K key l):=by
 unfold Y1 at h |-;cases ha:Z5 zf (K.map Prod.fst) key with
 | true =>
  obtain⟨d,hs,_⟩:=Vs ha;have e:(Y0 K key l).map Prod.fst=K.map Prod.fst:=by
   have a:K.map Prod.fst=(K.take (low zf (K.map Prod.fst) key)++(key,d)::K.drop (low zf (K.map Prod.fst) key+1)).map Prod.fst:=GY (List.map Prod.fst) hs;unfold Y0;rw[He ha]
   conv=>rhs;rw[a]
   simp
  rw[e];exact h
 | false =>
  have:=Asc.ins Zg (b:=key) h (fun c e=>by rw[Uu c,e] at ha;rw[zT.2 rfl] at ha;cases ha);unfold Y0;simp only[ha,Gl,Gj]
  simpa [List.map_take,List.map_drop] using this
theorem PK{K:Keys}(key:ByteArray)(h:Y1 K):Y1 (YI K key):=by
 unfold Y1 at h |-;unfold YI;split
 .have:=Asc.del h (low zf (K.map Prod.fst) key)
  simpa [List.map_take,List.map_drop] using this
 .exact h
theorem PL(K:Keys)(key:ByteArray)(l:List Ver):(Y0 K key l).length<=K.length+1:=by
 unfold Y0;simp only[IM,IR,Hi,IU];split <;> omega
theorem PM(K:Keys)(key:ByteArray):(YI K key).length<=K.length:=by
 unfold YI;split
 .simp only[IM,IR,Hi];omega
 .exact IQ _
theorem Zm.holds{S:SM}(h:Zm S)(key:ByteArray)(d:zp key=true)(l:List Ver)(c:Yl l)(f:l.length<=4)(i:∀ u∈l,VOk u):Zm (S.holds key l):=by
 unfold SM.holds;split
 .exact⟨PK key h.Al,fun e a=>h.key e (VA e a),h.hlen,fun e a=>h.names e (VA e a)⟩
 .exact⟨PJ key l h.Al,fun e a=>(Vz e a).elim (h.key e) (fun b=>by subst b;exact⟨c,f,i⟩),h.hlen,fun e a=>(Vz e a).elim (h.names e) (fun b=>by subst b;exact d)⟩
theorem Rw(S:SM)(key:ByteArray)(l:List Ver):(S.holds key l).keys.length<=S.keys.length+1:=by
 unfold SM.holds;simp only;split
 .exact Hs (PM S.keys key)
 .exact PL S.keys key l
theorem Zm.Ba{S:SM}(h:Zm S)(n:Nat):Zm {S with Ba:=n}:=⟨h.Al,h.key,h.hlen,h.names⟩
structure Goes(T:Nat)(M:DM)(J J':JM)(M':DM)(t:Nat)(P:Nat->Prop):Prop where
 log:zI T J' M' t
 Bw:J'.Bw=J.Bw
 calls:M.calls<=M'.calls
 refused:M'.refused=M.refused
 Bb:M'.Bb=M.Bb
 ids:∀ g∈M'.ids,P g\/g∈M.ids
theorem Goes.trans{T:Nat}{s x y:DM}{c o r:JM}{t u:Nat}{P Q R:Nat->Prop}(h:Goes T s c o x t P)(k:Goes T x o r y u Q)(A:∀ g,P g->R g)(B:∀ g,Q g->R g):Goes T s c r y u R :=
 ⟨k.log,k.Bw.trans h.Bw,CT h.calls k.calls,k.refused.trans h.refused,k.Bb.trans h.Bb,fun g z=>(k.ids g z).elim (fun e=>.inl (B g e)) (fun e=>(h.ids g e).imp (A g) id)⟩
theorem TS{T:Nat}{N:NM}{M:DM}{t:Nat}(h:zI T N.J M t)(m:t+2<=T)(x:Fact)(o:(zh x).size<=2000)(f:Nat)(l:f∉M.ids) :
 ∃ a b,N.write M x f=(none,{N with J:=a,S:=N.S.enter x},b)/\Goes T M N.J a b (t+2) (·=f):=by
 obtain⟨a,b,e,c,d,g,i,j,k⟩:=h.append m (zh x) o f l;refine⟨a,b,?_,c,d,g,i,j,k⟩;unfold NM.write;rw[e];simp only[Gi]
theorem Rx{T:Nat}{N:NM}{M:DM}{t:Nat}(h:zI T N.J M t)(m:t<=T) :
 ∃ a b,N.sync M=(none,{N with J:=a},b)/\Goes T M N.J a b (t+1) (fun _=>False):=by
 obtain⟨a,b,e,c,d,f,i,j,k⟩:=h.Bn m;refine⟨a,b,?_,c,d,f,i,j,fun g l=>.inr (k▸l)⟩;unfold NM.sync;rw[e]
theorem PN{T:Nat}{N:NM}{M:DM}{t:Nat}(h:zI T N.J M t)(d:t<=T) :
 ∃ a b wr,N.counted M=(none,{N with J:=a,writes:=wr},b)/\wr<=N.writes+1/\Goes T M N.J a b (t+1) (fun _=>False):=by
 unfold NM.counted;split
 .have:=h.Ay M.calls (by omega) (by have:=h.calls;omega)
  exact⟨N.J,M,N.writes+1,rfl,IQ _,this,rfl,FL _,rfl,rfl,fun g c=>.inr c⟩
 .obtain⟨a,b,e,c⟩:=Rx (N:={N with writes:=0}) h d
  exact⟨a,b,0,e,Hg _,c⟩
theorem Ng{T:Nat}{N:NM}{M:DM}{t:Nat}(h:zI T N.J M t)(r:t+2<=T)(x:Fact)(p:(zh x).size<=2000)(f:Nat)(m:f∉M.ids) :
 ∃ a b wr,N.change M x f=(none,{N with J:=a,S:=N.S.enter x,writes:=wr},b)/\wr<=N.writes+1/\Goes T M N.J a b (t+3) (·=f):=by
 obtain⟨d,q,j,c⟩:=TS h (by omega) x p f m;obtain⟨g,i,wr,k,o,l⟩:=PN (N:={N with J:=d,S:=N.S.enter x}) c.log (by omega);refine⟨g,i,wr,?_,o,c.trans l (fun _ e=>e) (fun _ e=>absurd e id)⟩;unfold NM.change;rw[j];exact k
theorem MR{T:Nat}{N:NM}{M:DM}{t:Nat}(h:zI T N.J M t)(q:t+2<=T)(p:N.given<1000000000000)(f:Nat)(m:f∉M.ids) :
 ∃ a b,N.Br M f=(none,{N with J:=a,S:={N.S with Ba:=N.given+16}},b)/\Goes T M N.J a b (t+3) (·=f):=by
 obtain⟨d,o,j,c⟩:=TS h (by omega) (.inl (N.given+16)) (Ru (by omega)) f m;obtain⟨g,i,k,l⟩:=Rx (N:={N with J:=d,S:=N.S.enter (.inl (N.given+16))}) c.log (by omega);refine⟨g,i,?_,c.trans l (fun _ e=>e) (fun _ e=>absurd e id)⟩;unfold NM.Br;rw[j];exact k
theorem zI.more{T:Nat}{J:JM}{M:DM}{t u:Nat}(h:zI T J M t)(a:t<=u):zI T J M u:=by
 obtain⟨k,rfl⟩:=Nat.le.dest a;clear a
 induction k with
 | zero=>exact h
 | succ k b=>exact b.Ay M.calls (FL _) (by have:=b.calls;omega)
theorem Ui{T:Nat}{N:NM}{M:DM}{t:Nat}(h:zI T N.J M t)(i:t+2<=T)(a:N.given<1000000000000)(f:Nat)(e:f∉M.ids) :
 ∃ c d b,N.next M f=(none,N.given+1,{N with J:=c,S:={N.S with Ba:=b},given:=N.given+1},d)/\N.given+1<=b/\(N.given<=N.S.Ba->b<=N.S.Ba+16)/\Goes T M N.J c d (t+3) (·=f):=by
 unfold NM.next;split
 .rename_i hlt
  exact⟨N.J,M,N.S.Ba,rfl,hlt,fun _=>Cp _ _,h.more (by omega),rfl,FL _,rfl,rfl,fun g a=>.inr a⟩
 .obtain⟨J1,M1,e1,g1⟩:=MR h i a f e
  refine⟨J1,M1,N.given+16,?_,by omega,fun _=>by omega,g1⟩;rw[e1]
theorem PO{T:Nat}{N:NM}{M:DM}{t:Nat}(h:zI T N.J M t)(G:t+5<=T)(o:N.given<1000000000000)(key:ByteArray)(vs:NM->Nat->List Ver)(l:List Ver)(f g:Nat)(B:f∉M.ids)(C:g∉M.ids)(A:Apart2 N M f g)
 (E:∀ i:NM,i.S.keys=N.S.keys->i.self=N.self->vs i (N.given+1)=l)(d:(zh (.inr (.inl (key,l)))).size<=2000) :
 ∃ p r a wr,N.replace M key vs f g=(N.given+1,0,{N with J:=p,S:={N.S with Ba:=a}.holds key l,given:=N.given+1,writes:=wr},r)/\wr<=N.writes+1/\N.given+1<=a/\(N.given<=N.S.Ba->a<=N.S.Ba+16)/\Goes T M N.J p r (t+6) (fun k=>k=f\/k=g):=by
 obtain⟨q,v,a,s,b,c,j⟩:=Ui h (by omega) o f B;have m:g∉v.ids:=fun hm=>by
  rcases j.ids g hm with e|e
  .subst e
   have:=A rfl;rw[s] at this;exact this hm
  .exact C e
 have D:=E {N with J:=q,S:={N.S with Ba:=a},given:=N.given+1} rfl rfl;obtain⟨u,x,wr,y,F,z⟩:=Ng (N:={N with J:=q,S:={N.S with Ba:=a},given:=N.given+1}) j.log (by omega) (.inr (.inl (key,l))) d g m;refine⟨u,x,a,wr,?_,F,b,c,j.trans z (fun _ e=>.inl e) (fun _ e=>.inr e)⟩;unfold NM.replace NM.asked;rw[s];simp only[D];rw[y];simp only[Pm]
 rfl
theorem Jj{T:Nat}{N:NM}{M:DM}{t:Nat}(h:zI T N.J M t)(f:t<=T)(H:Nat)(b:∀ g∈M.ids,g<H)(x:Fact)(c:FOk x)(a:(zh x).size<=2000)(e:N.S.keys.length<=100000000)(d:N.S.hints.length<=32)(i:N.writes<=100000000):Fit N M H x :=
 ⟨c,h.ok (by omega) H _ a b,by omega,by omega,by omega⟩
theorem Kh{T:Nat}{N:NM}{M:DM}{t:Nat}(h:zI T N.J M t)(y:t+5<=T)(H:Nat)(e:∀ g∈M.ids,g<H)(key:ByteArray)(vs:NM->Nat->List Ver)(l:List Ver)(o:N.given<1000000000000)
 (r:∀ c:NM,c.S.keys=N.S.keys->c.self=N.self->vs c (N.given+1)=l)(u:FOk (.inr (.inl (key,l))))(b:(zh (.inr (.inl (key,l)))).size<=2000)(q:N.S.keys.length<=100000000)(p:N.S.hints.length<=32)(s:N.writes<=100000000):Xe N M H key vs where
 log:=h.ok (by omega) H _ (Ru (by omega)) e
 keys:=by omega
 hints:=by omega
 given:=by omega
 fact:=fun f x _ j _ a=>by
  obtain⟨d,v,i,k,_,_,m⟩:=Ui h (by omega) (by omega) f (fun hm=>by have:=e f hm;omega);rw[k] at a |-;simp only at a |-;rw[r {N with J:=d,S:={N.S with Ba:=i},given:=N.given+1} rfl rfl];exact Jj (N:={N with J:=d,S:={N.S with Ba:=i},given:=N.given+1}) m.log (by omega) j a _ u b q p s
abbrev Seg:=List Fact × List UInt8
def Ze(s:Seg):List UInt8:=zR s.1++s.2
def DM.view(M:DM):List (ByteArray × List UInt8):=M.dir.map fun e=>(e.1,(M.file e.2).bytes)
def Yc:Nat->List Seg->List (ByteArray × List UInt8)
 | _,[]=>[]
 | k,s::r=>(zg zl (k+1),Ze s)::Yc (k+1) r
theorem V5(k:Nat)(a b:List Seg):Yc k (a++b)=Yc k a++Yc (k+a.length) b:=by
 induction a generalizing k with
 | nil=>simp[Yc]
 | cons s a c =>
  simp only[IY,Yc,c,Hq];rw[show k+1+a.length=k+(a.length+1) by omega]
theorem UQ(k:Nat)(a:List Seg):(Yc k a).length=a.length:=by
 induction a generalizing k with
 | nil=>rfl
 | cons s a b=>simp[Yc,b]
theorem Tb(k:Nat)(a:List Seg)(i:Nat)(h:i<a.length):(Yc k a)[i]?=some (zg zl (k+i+1),Ze a[i]):=by
 induction a generalizing k i with
 | nil=>simp at h
 | cons s a b =>
  cases i with
  | zero=>simp[Yc]
  | succ i =>
   simp only[Yc,GP,Ez];rw[b (k+1) i (by simpa using h),show k+1+i=k+(i+1) by omega]
theorem TT(k:Nat)(a:List Seg):(Yc k a).map Prod.fst=(List.range a.length).map fun i=>zg zl (k+i+1):=by
 induction a generalizing k with
 | nil=>rfl
 | cons s a b =>
  simp only[Yc,Ht,Hq,List.range_succ_eq_map,Ej,b];refine List.cons_eq_cons.2 ⟨rfl,GS fun i _=>?_⟩;show zg zl (k+1+i+1)=zg zl (k+(i+1)+1);rw[show k+1+i=k+(i+1) by omega]
def ze(a:List Seg):List Fact:=(a.map Prod.fst).flatten
theorem zW(a b:List Seg):ze (a++b)=ze a++ze b:=by simp[ze]
def Torn(l:List UInt8):Prop:=∃ a,l<+:Z0 a/\l≠Z0 a/\a.length<9223372036854775808
theorem VB:Torn []:=⟨[],(Pz []).1,(Pz []).2,by decide⟩
def ZG(x:Fact):Prop:=FRead x/\(zr x).length<9223372036854775808
def XF(s:Seg):Prop:=(∀ x∈s.1,ZG x)/\Torn s.2
def YZ(a:List Seg):Prop:=∀ s∈a,XF s
def JM.at(c:Nat)(e:List Seg)(o:Bool):JM :=
 match e.getLast? with
 | none=>{Bw:=c,last:=0,name:=ByteArray.empty,size:=0,Ad:=false,Bm:=o}
 | some s=>{Bw:=c,last:=e.length,name:=zg zl e.length,size:=(Ze s).length,Ad:=decide (0<s.2.length),Bm:=o}
theorem JM.BJ(a:Nat)(b:List Seg)(s:Seg)(c:Bool):JM.at a (b++[s]) c={Bw:=a,last:=b.length+1,name:=zg zl (b.length+1),size:=(Ze s).length,Ad:=decide (0<s.2.length),Bm:=c}:=by
 unfold JM.at;simp
theorem JM.Aw(a:Nat)(b:List Seg)(c:Bool):(JM.at a b c).last=b.length:=by
 rcases GN b with rfl|⟨r,s,rfl⟩
 .rfl
 .rw[GO,JM.BJ];simp
theorem JM.yn(a:Nat)(b:List Seg)(c:Bool):(JM.at a b c).Bw=a:=by
 rcases GN b with rfl|⟨r,s,rfl⟩
 .rfl
 .rw[GO,JM.BJ]
theorem JM.yd(a:Nat)(b:List Seg)(d c:Bool):{JM.at a b d with Bm:=c}=JM.at a b c:=by
 rcases GN b with rfl|⟨r,s,rfl⟩
 .rfl
 .rw[GO,JM.BJ,JM.BJ]
theorem JM.yG(a:Nat)(c:List Seg)(b:Bool):(JM.at a c b).Bm=b:=by
 rcases GN c with rfl|⟨r,s,rfl⟩
 .rfl
 .rw[GO,JM.BJ]
structure Lies(M:DM)(ss:List Seg):Prop where
 view:M.view=Yc 0 ss
 once:(M.dir.map (·.2)).Nodup
 BQ:∀ e∈M.dir,e.2∈M.ids
structure Logged(J:JM)(M:DM)(ss:List Seg):Prop where
 BC:Lies M ss
 j:J=JM.at J.Bw ss J.Bm
theorem Lies.same{M M':DM}{b:List Seg}(h:Lies M b)(a:M'.dir=M.dir)(c:∀ g,(M'.file g).bytes=(M.file g).bytes)(d:M'.ids=M.ids):Lies M' b :=
 ⟨by rw[<- h.view];unfold DM.view;rw[a];simp only[c],by rw[a];exact h.once,by rw[a,d];exact h.BQ⟩
theorem Lies.length{M:DM}{c:List Seg}(h:Lies M c):M.dir.length=c.length:=by
 have:=GY List.length h.view;rw[UQ] at this
 simpa [DM.view] using this
theorem Lies.names{M:DM}{b:List Seg}(h:Lies M b):M.dir.map Prod.fst=(List.range b.length).map fun i=>zg zl (i+1):=by
 have:=GY (List.map Prod.fst) h.view;rw[TT] at this
 simpa [DM.view,Function.comp_def] using this
theorem Ki(d:Dir)(e:ByteArray × Nat)(h:∀ x∈d,x.1≠e.1):Dir.look (d++[e]) e.1=some e.2:=by
 have b:d.find? (fun x=>x.1==e.1)=none:=by
  rw[FH];intro x c a;exact h x c (zT.1 a)
 unfold Dir.look;rw[EJ,b];simp[zT]
theorem Lies.mem{M:DM}{a:List Seg}(h:Lies M a){e:ByteArray × Nat}(b:e∈M.dir):∃ i,i<a.length/\e.1=zg zl (i+1):=by
 have:e.1∈M.dir.map Prod.fst:=GI b;rw[h.names] at this;obtain⟨i,c,d⟩:=Gc.1 this;exact⟨i,FY.1 c,d.symm⟩
theorem Lies.last{M:DM}{a:List Seg}{s:Seg}(h:Lies M (a++[s])):∃ d f,M.dir=d++[(zg zl (a.length+1),f)]/\(M.file f).bytes=Ze s/\M.dir.look (zg zl (a.length+1))=some f/\f∉d.map (·.2)/\d.map (fun e=>(e.1,(M.file e.2).bytes))=Yc 0 a:=by
 have k:=h.view;rw[V5] at k;unfold DM.view at k;obtain⟨d,r,j,l,c⟩:=List.map_eq_append_iff.1 k;obtain⟨e,B,o⟩:∃ e,r=[e]/\(e.1,(M.file e.2).bytes)=(zg zl (a.length+1),Ze s):=by
  simp only[Yc,Gg] at c;cases r with
  | nil=>cases c
  | cons e r =>
   cases r with
   | nil=>exact⟨e,rfl,by simpa using c⟩
   | cons D r=>simp at c
 subst B;obtain⟨n,f⟩:=e;simp only[FW] at o;obtain⟨rfl,t⟩:=o;refine⟨d,f,j,t,?_,?_,l⟩
 .rw[j]
  refine Ki d (zg zl (a.length+1),f) fun x C e=>?_;have b:x.1∈(d.map (fun e=>(e.1,(M.file e.2).bytes))).map Prod.fst:=by
   rw[Ej];exact GI C
  rw[l,TT] at b;obtain⟨i,A,y⟩:=Gc.1 b;have:=Wb (y.trans e);have:=FY.1 A;omega
 .have:=h.once
  rw[j,Gs,FO] at this;intro z;exact this.2.2 f z f (by simp) rfl
theorem Lies.put{M b:DM}{a:List Seg}{s k:Seg}{f:Nat}(h:Lies M (a++[s]))(u:M.dir.look (zg zl (a.length+1))=some f)(c:b.dir=M.dir)(m:∀ g,g≠f->(b.file g).bytes=(M.file g).bytes)(o:(b.file f).bytes=Ze k)(q:b.ids=M.ids):Lies b (a++[k]):=by
 obtain⟨d,l,r,_,i,j,y⟩:=h.last;obtain rfl:l=f:=Hl (i.symm.trans u);refine⟨?_,by rw[c];exact h.once,by rw[c,q];exact h.BQ⟩;unfold DM.view;rw[c,r,Gs,V5,<- y]
 congr 1
 .refine GS fun e t=>?_
  rw[m e.2 (fun x=>j (x▸GI t))]
 .simp[Yc,o]
theorem Lies.more{M M':DM}{k:List Seg}{f:Nat}(h:Lies M k)(i:M'.dir=M.dir++[(zg zl (k.length+1),f)])(j:f∉M.ids)(p:∀ g,g≠f->(M'.file g).bytes=(M.file g).bytes)(q:(M'.file f).bytes=[])(r:M'.ids=f::M.ids):Lies M' (k++[([],[])]):=by
 have o:f∉M.dir.map (·.2):=fun hm=>by
  obtain⟨e,c,rfl⟩:=Gc.1 hm;exact j (h.BQ e c)
 refine⟨?_,?_,fun e c=>?_⟩
 .unfold DM.view
  rw[i,Gs,V5,<- h.view]
  congr 1
  .unfold DM.view
   refine GS fun e c=>?_;rw[p e.2 (fun x=>o (x▸GI c))]
  .simp[Yc,q,Ze,zR]
 .rw[i,Gs,FO]
  refine⟨h.once,by simp,fun a s b l e=>?_⟩;simp only[Ht,Fo,IZ] at l;subst l e;exact o s
 .rw[i] at c
  rw[r];rcases Hh.1 c with c|c
  .exact Hb _ (h.BQ e c)
  .rw[IZ] at c;subst c;exact Hf ..
theorem Lies.none{M:DM}{c:List Seg}(h:Lies M c):M.dir.look (zg zl (c.length+1))=none :=
 Rt fun e o x=>by
  obtain⟨i,y,r⟩:=h.mem o;have:=Wb (r.symm.trans x);omega
theorem XP(M:DM):M.CX.2.2.dir=M.dir/\M.CX.2.2.file=M.file/\M.CX.2.2.ids=M.ids/\M.CX.2.2.part=M.part:=by
 unfold DM.CX;simp only;split
 .exact⟨rfl,rfl,rfl,rfl⟩
 .split
  .exact⟨rfl,rfl,rfl,rfl⟩
  .split <;> exact⟨rfl,rfl,rfl,rfl⟩
theorem V6{M:DM}(h:M.CX.2.1=0):M.CX.1=true:=by
 unfold DM.CX at h |-;simp only at h |-;split at h
 .cases h
 .split at h
  .cases h
  .split at h
   .cases h
   .rename_i a b c
    rw[IV a,IV b,IV c]
theorem Kj(M:DM)(a:ByteArray):(M.sync a).2.dir=M.dir/\(∀ g,((M.sync a).2.file g).bytes=(M.file g).bytes)/\(M.sync a).2.part=M.part/\(M.sync a).2.ids=M.ids:=by
 have b:=XP M;unfold DM.sync;cases M.dir.look a with
 | none=>exact⟨rfl,fun _=>rfl,rfl,rfl⟩
 | some f =>
  simp only;split
  .refine⟨b.1,fun g=>?_,b.2.2.2,b.2.2.1⟩
   simp only[DM.Bg,b.2.1];split
   .rename_i e;subst e;rfl
   .rfl
  .exact⟨b.1,fun g=>by rw[b.2.1],b.2.2.2,b.2.2.1⟩
theorem VW(J:JM)(M:DM):(J.Bc M).2.dir=M.dir/\(∀ g,((J.Bc M).2.file g).bytes=(M.file g).bytes)/\(J.Bc M).2.part=M.part/\(J.Bc M).2.ids=M.ids:=by
 unfold JM.Bc;split
 .exact⟨rfl,fun _=>rfl,rfl,rfl⟩
 .exact Kj M J.name
theorem PP(M:DM):M.Bp.2.dir=M.dir/\M.Bp.2.file=M.file/\M.Bp.2.part=M.part/\M.Bp.2.ids=M.ids:=by
 have a:=XP M;unfold DM.Bp;simp only;split
 .exact⟨a.1,a.2.1,a.2.2.2,a.2.2.1⟩
 .exact⟨a.1,a.2.1,a.2.2.2,a.2.2.1⟩
theorem Jk{M:DM}{i:ByteArray}{f:Nat}(z:M.dir.look i=some f)(A:0<=M.part)(e:ByteArray) :
 ∃ k,k<=e.size/\(M.add i e).2.dir=M.dir/\(∀ g,g≠f->((M.add i e).2.file g).bytes=(M.file g).bytes)/\((M.add i e).2.file f).bytes=(M.file f).bytes++e.data.toList.take k/\((M.add i e).1=0->k=e.size)/\(M.add i e).2.part=M.part/\(M.add i e).2.ids=M.ids:=by
 have l:=XP M;have B:∀ n:Nat,(e.extract 0 n).data.toList=e.data.toList.take n:=by
  intro n;rw[ByteArray.data_extract];simp
 have o:∀ (j:DM) (n:Nat),j.dir=M.dir->j.file=M.file->j.part=M.part->j.ids=M.ids ->
  (j.Bg f {j.file f with bytes:=(j.file f).bytes++(e.extract 0 n).data.toList}).dir=M.dir/\(∀ g,g≠f->((j.Bg f {j.file f with bytes:=(j.file f).bytes++(e.extract 0 n).data.toList}).file g).bytes=(M.file g).bytes)/\((j.Bg f {j.file f with bytes:=(j.file f).bytes++(e.extract 0 n).data.toList}).file f).bytes=(M.file f).bytes++e.data.toList.take n/\(j.Bg f {j.file f with bytes:=(j.file f).bytes++(e.extract 0 n).data.toList}).part=M.part/\(j.Bg f {j.file f with bytes:=(j.file f).bytes++(e.extract 0 n).data.toList}).ids=M.ids:=by
  intro j n t s u v;refine⟨t,fun g y=>?_,?_,u,v⟩
  .simp only[DM.Bg,IV y,s]
  .simp only[DM.Bg,Gi,s,B]
 have x:e.data.toList.length=e.size:=by rw[GR];rfl
 unfold DM.add;rw[z];simp only;cases ht:M.tries e.size with
 | none =>
  refine⟨0,Hg _,l.1,fun g _=>by rw[l.2.1],by simp[l.2.1],fun p=>?_,l.2.2.2,l.2.2.1⟩;unfold DM.tries at ht;rw[V6 p] at ht;cases ht
 | some n =>
  have r:0<=n/\n<=e.size/\(M.CX.2.1=0->n=e.size):=by
   unfold DM.tries at ht;split at ht
   .rename_i h1
    obtain rfl:=Hl ht;exact⟨by omega,FL _,fun _=>rfl⟩
   .rename_i h1
    split at ht
    .rename_i h2
     obtain rfl:=Hl ht;refine⟨Int.tmod_nonneg _ A,Int.le_of_lt (Int.tmod_lt_of_pos _ h2.2),fun p=>absurd (V6 p) h1⟩
    .cases ht
  simp only;obtain⟨m,hm⟩:=DM.AP M.CX.2.2;by_cases q:M.CX.2.2.left<n
  .rw[He q]
   by_cases p:M.CX.2.1=0
   .rw[He p]
    obtain⟨a,b,c,d⟩:=o {M.CX.2.2 with refused:=wrap64 (M.CX.2.2.refused+1),Bb:=wrap64 (M.CX.2.2.Bb+1)} M.CX.2.2.left.toNat l.1 l.2.1 l.2.2.2 l.2.2.1;exact⟨M.CX.2.2.left.toNat,by omega,a,b,c,(fun h=>by cases h),d⟩
   .rw[IV p]
    obtain⟨a,b,c,d⟩:=o M.CX.2.2 M.CX.2.2.left.toNat l.1 l.2.1 l.2.2.2 l.2.2.1;exact⟨M.CX.2.2.left.toNat,by omega,a,b,c,fun h=>absurd h p,d⟩
  .rw[IV q]
   obtain⟨a,b,c,d⟩:=o M.CX.2.2 n.toNat l.1 l.2.1 l.2.2.2 l.2.2.1;exact⟨n.toNat,by omega,a,b,c,fun h=>by have:=r.2.2 h;omega,d⟩
theorem Logged.begin{J:JM}{M:DM}{b:List Seg}(h:Logged J M b)(f:Nat)(y:f∉M.ids) :
 ∃ i,Lies (J.begin M (J.last+1) f).2.2 i/\(i=b\/i=b++[([],[])])/\(J.begin M (J.last+1) f).2.2.part=M.part/\(∀ g∈(J.begin M (J.last+1) f).2.2.ids,g=f\/g∈M.ids)/\((J.begin M (J.last+1) f).1=none->i=b++[([],[])]/\Logged (J.begin M (J.last+1) f).2.1 (J.begin M (J.last+1) f).2.2 i):=by
 obtain⟨u,v,o,l⟩:=VW J M;have hs:=h.BC.same u v l;have k:J.last=b.length:=by rw[h.j];exact JM.Aw _ _ _
 unfold JM.begin;cases hsl:(J.Bc M).1 with
 | some n=>exact⟨b,hs,.inl rfl,o,(fun g j=>.inr (l▸j)),fun h=>by cases h⟩
 | none =>
  simp only;generalize (J.Bc M).2=a at *;have c:=XP a;have t:=hs.none;have s:f∉a.ids:=by rw[l];exact y
  rw[k];have q:a.create (zg zl (b.length+1)) f=(a.CX.2.1,if a.CX.1=true then(a.CX.2.2.Bf f).Bk (a.CX.2.2.dir++[(zg zl (b.length+1),f)]) else a.CX.2.2):=by
   unfold DM.create;rw[IV (by rw[t];rintro(e|e);exact Ta _ e;cases e)]
  rw[q];simp only;by_cases r:a.CX.1=true
  .have hl:Lies ((a.CX.2.2.Bf f).Bk (a.CX.2.2.dir++[(zg zl (b.length+1),f)])) (b++[([],[])]):=by
    refine hs.more (f:=f) (by simp only[DM.Bk,c.1]) s (fun g j=>?_) ?_ ?_
    .simp only[DM.Bk,DM.Bf,IV j,c.2.1]
    .simp only[DM.Bk,DM.Bf,Gi]
    .simp only[DM.Bk,DM.Bf,c.2.2.1]
   rw[He r];have m:∀ g∈((a.CX.2.2.Bf f).Bk (a.CX.2.2.dir++[(zg zl (b.length+1),f)])).ids,g=f\/g∈M.ids:=fun g j=>by
    simp only[DM.Bk,DM.Bf,c.2.2.1,HY] at j;exact j.imp id (fun x=>l▸x)
   refine⟨b++[([],[])],?_,.inr rfl,?_,?_,fun p=>⟨rfl,?_,?_⟩⟩
   .split
    .exact hl
    .exact hl
   .split
    .exact c.2.2.2.trans o
    .exact c.2.2.2.trans o
   .split
    .exact m
    .exact m
   .split
    .exact hl
    .exact hl
   .split
    .simp only[JM.BJ,Ze,zR]
     simp
    .rename_i hne
     rw[IV hne] at p;cases p
  .have hne:¬a.CX.2.1=0:=fun p=>r (V6 p)
   rw[IV hne,IV r];exact⟨b,hs.same c.1 (fun g=>by rw[c.2.1]) c.2.2.1,.inl rfl,c.2.2.2.trans o,(fun g j=>.inr (by rw[c.2.2.1,l] at j;exact j)),fun h=>by cases h⟩
theorem Logged.Be{J:JM}{M:DM}{b:List Seg}(h:Logged J M b)(n f:Nat)(p:f∉M.ids) :
 ∃ a,Lies (J.Be M n f).2.2 a/\(a=b\/a=b++[([],[])])/\(J.Be M n f).2.2.part=M.part/\(∀ g∈(J.Be M n f).2.2.ids,g=f\/g∈M.ids)/\((J.Be M n f).1=none->Logged (J.Be M n f).2.1 (J.Be M n f).2.2 a/\∃ j i,a=j++[(i,[])]):=by
 unfold JM.Be;cases hb:J.fits n with
 | true =>
  simp only[Gi];refine⟨b,h.BC,.inl rfl,(by first|rfl|trivial),(fun g q=>.inr q),fun _=>⟨h,?_⟩⟩;unfold JM.fits at hb;simp only[Gr,Ha,EI] at hb;obtain⟨e,c,_⟩:=hb;rcases GN b with rfl|⟨r,s,rfl⟩
  .rw[h.j] at e;exact absurd rfl e
  .rw[GO] at h |-
   rw[h.j,JM.BJ] at c;simp only[Ho,Nat.not_lt,Nat.le_zero_eq] at c;obtain⟨i,t⟩:=s;obtain rfl:t=[]:=Hm c;exact⟨r,i,rfl⟩
 | false =>
  simp only[Gl,Gj];obtain⟨a,e,c,m,o,l⟩:=h.begin f p;exact⟨a,e,c,m,o,fun k=>⟨(l k).2,b,[],(l k).1⟩⟩
theorem Logged.append{J:JM}{M:DM}{N:List Seg}(h:Logged J M N)(hp:0<=M.part)(Y:YZ N)(x:Fact)(hx:ZG x)(f:Nat)(hf:f∉M.ids) :
 ∃ C,Lies (J.append M (zh x) f).2.2.2 C/\YZ C/\ze C=ze N++(if (J.append M (zh x) f).1=true then [x] else [])/\(J.append M (zh x) f).2.2.2.part=M.part/\(∀ g∈(J.append M (zh x) f).2.2.2.ids,g=f\/g∈M.ids) /\
  ((J.append M (zh x) f).2.1=none->(J.append M (zh x) f).1=true/\Logged (J.append M (zh x) f).2.2.1 (J.append M (zh x) f).2.2.2 C):=by
 have X:XF ([],[]):=⟨(fun x hx=>by cases hx),VB⟩;obtain⟨s1,h1,h2,Q,h5,h4⟩:=h.Be (zh x).size f hf;have t:YZ s1:=by
  rcases h2 with rfl|rfl
  .exact Y
  .intro s hs
   rcases Hh.1 hs with hs|hs
   .exact Y s hs
   .rw[IZ] at hs;subst hs;exact X
 have F:ze s1=ze N:=by
  rcases h2 with rfl|rfl
  .rfl
  .rw[zW];simp[ze]
 unfold JM.append;cases he:(J.Be M (zh x).size f).1 with
 | some n =>
  simp only[Gl,Gj,Hx];exact⟨s1,h1,t,F,Q,h5,fun h=>by cases h⟩
 | none =>
  obtain⟨hL,j,z,rfl⟩:=h4 he;simp only;generalize (J.Be M (zh x).size f).2.1=b at *;generalize (J.Be M (zh x).size f).2.2=D at *;obtain⟨d,g,hd,a0,I,a9,hv⟩:=h1.last;have V:=hL.j;rw[JM.BJ] at V;have l:b.name=zg zl (j.length+1):=by rw[V]
  have m:b.size=(zR z).length:=by rw[V];simp[Ze]
  have v:b.Ad=false:=by rw[V];simp
  have r:b.last=j.length+1:=by rw[V]
  have E:D.dir.look b.name=some g:=by rw[l];exact I
  obtain⟨k,hk,a1,a2,a3,a4,a5,a6⟩:=Jk E (by rw[Q];exact hp) (zh x);have G:∀ g∈(D.add b.name (zh x)).2.ids,g=f\/g∈M.ids:=fun g hg=>h5 g (a6▸hg);have B:(zh x).data.toList.length=(zh x).size:=by rw[GR];rfl
  have R:(D.file g).bytes=zR z:=by rw[a0];simp[Ze]
  rw[R] at a3;have o:b.has (D.add b.name (zh x)).2 (b.size+(zh x).size)=decide (k=(zh x).size):=by
   unfold JM.has DM.size;rw[a1,E];simp only[a3,IM,IR,B];rw[m,show((0:Int)==0)=true from rfl,Dx,Gv hk];by_cases e:k=(zh x).size
   .rw[Er e,CP];omega
   .rw[GW e,GG];omega
  have u:∀ s':Seg,XF s'->YZ (j++[s']):=fun s' a8 s hs=>by
   rcases Hh.1 hs with hs|hs
   .exact t s (EP _ hs)
   .rw[IZ] at hs;subst hs;exact a8
  have T:=(t (z,[]) (by simp)).1;by_cases c:k=(zh x).size
  .-- all of it
   have i:Lies (D.add b.name (zh x)).2 (j++[(z++[x],[])]):=by
    refine h1.put I a1 a2 ?_ a6;rw[a3,c,<- B,HZ];simp only[Ze,Hx,XO]
   have q:XF (z++[x],[]):=⟨fun y L=>by
    rcases Hh.1 L with L|L
    .exact T y L
    .rw[IZ] at L;subst L;exact hx,VB⟩
   have A:ze (j++[(z++[x],[])])=ze N++[x]:=by
    rw[<- F,zW,zW];simp[ze]
   have a7:({b with size:=b.size+(zh x).size}:JM)=JM.at ({b with size:=b.size+(zh x).size}:JM).Bw (j++[(z++[x],[])]) ({b with size:=b.size+(zh x).size}:JM).Bm:=by
    rw[JM.BJ];obtain⟨jl,b0,jn,js,jt,jd⟩:=b;simp only at l m v r |-;subst l m v r;simp[Ze,XO,B]
   rw[c,Er rfl] at o;unfold JM.BL;by_cases K:(D.add b.name (zh x)).1=0
   .rw[He K]
    exact⟨_,i,u _ q,A,a5.trans Q,G,fun _=>⟨rfl,i,a7⟩⟩
   .rw[IV K,He o]
    exact⟨_,i,u _ q,A,a5.trans Q,G,fun h=>by cases h⟩
  .-- a piece
   have K:¬(D.add b.name (zh x)).1=0:=fun K=>c (a4 K);rw[GW c] at o;have i:Lies (D.add b.name (zh x)).2 (j++[(z,(zh x).data.toList.take k)]):=h1.put I a1 a2 a3 a6;have q:XF (z,(zh x).data.toList.take k):=⟨T,zr x,by rw[XB];exact EW _ _,fun e=>by
    have:=GY List.length e;rw[IR,<- XB,B] at this;omega,hx.2⟩
   have A:ze (j++[(z,(zh x).data.toList.take k)])=ze N:=by
    rw[<- F,zW,zW];simp[ze]
   unfold JM.BL;rw[IV K,IV (by rw[o];decide)];simp only[Gl,Gj,Hx];exact⟨_,i,u _ q,A,a5.trans Q,G,fun h=>by cases h⟩
theorem Logged.Bn{J:JM}{M:DM}{b:List Seg}(h:Logged J M b):Logged (J.Bn M).2.1 (J.Bn M).2.2 b/\(J.Bn M).2.2.part=M.part/\(J.Bn M).2.2.ids=M.ids:=by
 obtain⟨c,d,e,a⟩:=VW J M;unfold JM.Bn;split
 .unfold JM.Bp
  obtain⟨j,k,l,f⟩:=PP (J.Bc M).2;refine⟨⟨(h.BC.same c d a).same j (fun g=>by rw[k]) f,?_⟩,l.trans e,f.trans a⟩;have i:=h.j;show({J with Bm:=_}:JM)=JM.at J.Bw b _;rw[<- JM.yd J.Bw b J.Bm,<- i]
 .exact⟨⟨h.BC.same c d a,h.j⟩,e,a⟩
end Go.Proofs.YtkhnggkkiefcdaaGreatDoor
