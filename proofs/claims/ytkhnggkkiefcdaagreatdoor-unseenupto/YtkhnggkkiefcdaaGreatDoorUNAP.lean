/- larder: joined texts -/
import Derived.Test.YtkhnggkkiefcdaaGreatDoorUNAE
import Derived.Test.YtkhnggkkiefcdaaGreatDoorUNAM
import Derived.Test.YtkhnggkkiefcdaaGreatDoorUNAO
namespace Go.Proofs.YtkhnggkkiefcdaaGreatDoor
open Go.RowKit
set_option maxRecDepth 100000
set_option maxHeartbeats 8000000
abbrev Ent:=Nat × Nat × Seg
structure Lay where
 F0:List Fact
 G:List Ent
 new:Option Nat
 BC:List (Bool × Nat × Nat)
 base:Option (Nat × Nat × List Fact)
 i:Nat
structure Dl where
 BC:List (Bool × Nat × Nat)
 base:Option (Nat × Nat × List Fact)
 i:Nat
 j:Nat
 new:Option Nat
def Lay.z(y:Lay):Dl:=⟨y.BC,y.base,y.i,y.G.length,y.new⟩
def zq(G:List Ent):List Fact:=(G.map fun e=>e.2.2.1).flatten
def Lay.pre(y:Lay)(i:Nat):List Fact:=y.F0++zq (y.G.take i)
def Lay.F(y:Lay):List Fact:=y.F0++zq y.G
def YR(e:Bool × Nat × Nat):ByteArray × Nat:=(zn e.1 e.2.1,e.2.2)
def Yh(b:Nat × Nat × List Fact):ByteArray × Nat:=(zn true b.1,b.2.1)
def ZP(e:Ent):ByteArray × Nat:=(zn false e.1,e.2.1)
def Dl.dir(G:List Ent)(z:Dl):Dir:=z.BC.map YR++z.base.toList.map Yh++((G.take z.j).drop z.i).map ZP++z.new.toList.map fun f=>(zf,f)
theorem Zg(a b:List Ent):zq (a++b)=zq a++zq b:=by simp[zq]
theorem VJ(e:Ent):zq [e]=e.2.2.1:=by simp[zq]
theorem YZ(G:List Ent):(zq G).length=(G.map fun e=>e.2.2.1.length).sum:=by
 induction G with
 | nil=>rfl
 | cons e G a=>simp only[zq,IJ,Ft,Il,GY] at a |-;rw[a]
theorem Jy(y:Lay):y.pre y.G.length=y.F:=by unfold Lay.pre Lay.F;rw[ID]
theorem Yz(y:Lay)(i:Nat):y.pre i<+:y.F:=by
 unfold Lay.pre Lay.F;refine(Es _).2 ?_
 conv=>rhs;rw[<- IG i y.G,Zg]
 exact Ep _ _
structure Bas(M:DM)(y:Lay)(i j:Nat)(b:Nat × Nat × List Fact):Prop where
 lt:i<j
 one:1<=b.1
 lo:∀ e∈y.G.take i,e.1<b.1
 hi:∀ e∈y.G.drop i,b.1<e.1
 bytes:(M.file b.2.1).bytes=zD b.2.2
 safe:(M.file b.2.1).safe=(M.file b.2.1).bytes.length
 xr:∀ e∈y.G,e.2.1≠b.2.1
 new:y.new≠some b.2.1
 ok:∀ x∈b.2.2,ZW x
 held:b.2.2.foldl SM.enter SM.nil=(y.pre i).foldl SM.enter SM.nil
 An:∀ k,((b.2.2.take k).foldl SM.enter SM.nil).hints.length<=32
 len:b.2.2.length<=(y.pre i).length+40
structure Snd(M:DM)(y:Lay)(D:Dir)(z:Dl):Prop where
 perm:D.Perm (z.dir y.G)
 ij:z.i<=z.j
 j:z.j<=y.G.length
 low:∀ e∈z.BC,1<=e.2.1/\∃ b,z.base=some b/\e.2.1<b.1
 nums:(z.BC.map (·.2.1)).Nodup
 base:∀ b,z.base=some b->Bas M y z.i z.j b
 bare:z.base=none->z.i=0/\y.F0=[]
 once:(D.map (·.2)).Nodup
 Ad:∀ e∈D,e.2∈M.ids
def left(M:DM)(y:Lay)(j:Nat):Nat:=y.F0.length+((y.G.take j).map fun e=>cnt e.2.2.1 (M.file e.2.1).safe).sum
structure Lk(M:DM)(y:Lay)(p t k:Nat):Prop where
 bd:Bk M t k
 Aa:y.G.Pairwise fun a b=>a.1<b.1
 pos:∀ e∈y.G,1<=e.1/\e.1<=2*t
 gid:(y.G.map (·.2.1)).Nodup
 AC:∀ e∈y.G,e.2.1∈M.ids
 Ak:∀ e∈y.G,y.new≠some e.2.1
 bytes:∀ e∈y.G,(M.file e.2.1).bytes=Zv e.2.2
 ok:∀ e∈y.G,WA e.2.2
 le:∀ e∈y.G,(M.file e.2.1).safe<=(M.file e.2.1).bytes.length
 full:∀ e∈y.G.dropLast,(M.file e.2.1).safe=(M.file e.2.1).bytes.length
 An:∀ i,((y.F.take i).foldl SM.enter SM.nil).hints.length<=32
 fl:y.F.length<=t
 now:Snd M y M.dir y.z
 BR:∀ D∈M.safe::M.Bl,∃ z,Snd M y D z/\p<=left M y z.j
 cur:M.dir∈M.safe::M.Bl
 live:∀ e∈y.G,∃ D∈M.safe::M.Bl,ZP e∈D
abbrev Lg (M:DM)(y:Lay)(p t:Nat):Prop:=Lk M y p t 0
theorem Lk.more{M:DM}{y:Lay}{p t u k:Nat}(h:Lk M y p t k)(a:t<=u):Lk M y p u k :=
 ⟨h.bd.more a,h.Aa,fun e b=>by have:=h.pos e b;omega,h.gid,h.AC,h.Ak,h.bytes,h.ok,h.le,h.full,h.An,Im h.fl a,h.now,h.BR,h.cur,h.live⟩
theorem Lk.yy{M:DM}{y:Lay}{p t k n:Nat}(h:Lk M y p t k)(a:k<=n):Lk M y p t n :=
 ⟨h.bd.yy a,h.Aa,h.pos,h.gid,h.AC,h.Ak,h.bytes,h.ok,h.le,h.full,h.An,h.fl,h.now,h.BR,h.cur,h.live⟩
theorem Lk.close{M:DM}{y:Lay}{p t k:Nat}(h:Lk M y p t k)(b:k<=1000000):Lg M y p (t+1) :=
 ⟨h.bd.close b,h.Aa,fun e a=>by have:=h.pos e a;omega,h.gid,h.AC,h.Ak,h.bytes,h.ok,h.le,h.full,h.An,Gv h.fl,h.now,h.BR,h.cur,h.live⟩
theorem Lk.Ax{M:DM}{y:Lay}{p t k:Nat}(h:Lk M y p t k)(f:k<=2000000):Lg M y p (t+2) :=
 ⟨⟨h.bd.c0,by have:=h.bd.calls;omega,h.bd.f0,h.bd.fr,h.bd.rc,h.bd.r0,h.bd.r1,h.bd.part,fun g c=>by have:=h.bd.AG g c;omega,h.bd.AQ,by have:=h.bd.AK;omega,h.bd.Ad,h.bd.once,by have:=h.bd.Bl;omega,fun d a=>by have:=h.bd.BT d a;omega,by have:=h.bd.dir;omega⟩,h.Aa,fun e b=>by have:=h.pos e b;omega,h.gid,h.AC,h.Ak,h.bytes,h.ok,h.le,h.full,h.An,by have:=h.fl;omega,h.now,h.BR,h.cur,h.live⟩
theorem Snd.mem{M:DM}{y:Lay}{D:Dir}{z:Dl}(h:Snd M y D z){b:Nat × Nat × List Fact}(a:z.base=some b):Yh b∈D:=by
 rw[h.perm.mem_iff];unfold Dl.dir;rw[a];simp
theorem Snd.bin{M:DM}{y:Lay}{D:Dir}{z:Dl}(h:Snd M y D z){b:Nat × Nat × List Fact}(a:z.base=some b):b.2.1∈M.ids:=h.Ad _ (h.mem a)
theorem Snd.files{M a:DM}{y:Lay}{D:Dir}{z:Dl}(h:Snd M y D z)(i:∀ b,z.base=some b->a.file b.2.1=M.file b.2.1)(l:∀ g∈M.ids,g∈a.ids):Snd a y D z :=
 ⟨h.perm,h.ij,h.j,h.low,h.nums,fun b c=>by
  have k:=h.base b c;exact⟨k.lt,k.one,k.lo,k.hi,by rw[i b c];exact k.bytes,by rw[i b c];exact k.safe,k.xr,k.new,k.ok,k.held,k.An,k.len⟩,h.bare,h.once,fun e j=>l _ (h.Ad e j)⟩
theorem Snd.lay{M:DM}{y y':Lay}{D:Dir}{z:Dl}(h:Snd M y D z)(c:y'.F0=y.F0)(a:y'.G=y.G)(f:∀ b,z.base=some b->y'.new≠some b.2.1):Snd M y' D z:=by
 have e:∀ i,y'.pre i=y.pre i:=fun i=>by unfold Lay.pre;rw[c,a]
 exact⟨by rw[a];exact h.perm,h.ij,by rw[a];exact h.j,h.low,h.nums,fun b d=>by
  have k:=h.base b d;exact⟨k.lt,k.one,by rw[a];exact k.lo,by rw[a];exact k.hi,k.bytes,k.safe,by rw[a];exact k.xr,f b d,k.ok,by rw[e];exact k.held,k.An,by rw[e];exact k.len⟩,by rw[c];exact h.bare,h.once,h.Ad⟩
structure Ext(y y':Lay):Prop where
 F0:y'.F0=y.F0
 key:y.G.map (fun e=>(e.1,e.2.1))<+:y'.G.map (fun e=>(e.1,e.2.1))
 facts:∀ i,i<y.G.length->zq (y'.G.take i)=zq (y.G.take i)
 yE:∀ a∈y.G,∀ e∈y'.G.drop y.G.length,a.1<e.1
 new:y'.new=y.new
 BC:y'.BC=y.BC
 base:y'.base=y.base
 i:y'.i=y.i
theorem Ext.refl(y:Lay):Ext y y:=⟨rfl,List.prefix_refl _,fun _ _=>rfl,fun _ _ e a=>by simp at a,rfl,rfl,rfl,rfl⟩
theorem Ext.len{y y':Lay}(h:Ext y y'):y.G.length<=y'.G.length:=by
 have:=h.key.length_le
 simpa using this
theorem Ext.pre{y a:Lay}(h:Ext y a){i:Nat}(b:i<y.G.length):a.pre i=y.pre i:=by
 unfold Lay.pre;rw[h.F0,h.facts i b]
theorem Ext.take{y y':Lay}(h:Ext y y'){j:Nat}(a:j<=y.G.length):(y'.G.take j).map (fun e=>(e.1,e.2.1))=(y.G.take j).map (fun e=>(e.1,e.2.1)):=by
 rw[Gg,Gg];obtain⟨r,c⟩:=h.key;rw[<- c,Ha (by simpa using a)]
theorem Pp(G:List Ent):G.map ZP=(G.map fun e=>(e.1,e.2.1)).map fun e=>(zn false e.1,e.2):=by rw[Gi];rfl
theorem Ext.dir{y y':Lay}(h:Ext y y')(z:Dl)(a:z.j<=y.G.length):z.dir y'.G=z.dir y.G:=by
 unfold Dl.dir;have:((y'.G.take z.j).drop z.i).map ZP=((y.G.take z.j).drop z.i).map ZP:=by
  rw[Fo,Fo,Pp,Pp,h.take a]
 rw[this]
theorem Uq{y b:Lay}(h:Ext y b){i:Nat}(k:i<=y.G.length){e:Ent}(j:e∈b.G.take i):∃ a∈y.G.take i,a.1=e.1/\a.2.1=e.2.1:=by
 have d:(e.1,e.2.1)∈(b.G.take i).map fun e=>(e.1,e.2.1):=Hq (f:=fun e:Ent=>(e.1,e.2.1)) j;rw[h.take k] at d;obtain⟨a,g,c⟩:=Iy.1 d;simp only[Gq] at c;exact⟨a,g,c⟩
theorem Snd.up{M o:DM}{y d:Lay}{D:Dir}{z:Dl}(h:Snd M y D z)(c:Ext y d)(v:∀ b,z.base=some b->o.file b.2.1=M.file b.2.1)(E:∀ g∈M.ids,g∈o.ids)(J:∀ e∈d.G.drop y.G.length,e.2.1∉M.ids):Snd o d D z:=by
 have G:=c.len;have x:=h.j;refine⟨by rw[c.dir z x];exact h.perm,h.ij,Im x G,h.low,h.nums,fun b m=>?_,by rw[c.F0];exact h.bare,h.once,fun e l=>E _ (h.Ad e l)⟩;have k:=h.base b m;have I:=k.lt;have q:∀ e∈d.G.take z.i,e.1<b.1:=fun e l=>by
  obtain⟨a,C,A,_⟩:=Uq c (by omega) l;rw[<- A];exact k.lo a C
 have r:∀ e∈d.G,(∃ n,∃ j:n<y.G.length,∃ B:n<d.G.length,e=d.G[n]/\e.1=y.G[n].1/\e.2.1=y.G[n].2.1)\/e∈d.G.drop y.G.length:=fun e l=>by
  obtain⟨n,s,rfl⟩:=IP.1 l;by_cases j:n<y.G.length
  .have:=c.key.getElem (i:=n) (by simpa using j)
   simp only[IR,Gq] at this;exact .inl ⟨n,j,s,rfl,this.1.symm,this.2.symm⟩
  .exact .inr (IP.2 ⟨n-y.G.length,by rw[Iw];omega,by rw[Gd];congr 1;omega⟩)
 have p:∀ e∈d.G.drop z.i,b.1<e.1:=fun e l=>by
  obtain⟨n,s,rfl⟩:=IP.1 l;rw[Iw] at s;rw[Gd];by_cases j:z.i+n<y.G.length
  .have:=c.key.getElem (i:=z.i+n) (by simpa using j)
   simp only[IR,Gq] at this;rw[<- this.1];exact k.hi _ (IP.2 ⟨n,by rw[Iw];omega,by rw[Gd]⟩)
  .have B:z.i<y.G.length:=by omega
   have u:=k.hi y.G[z.i] (IP.2 ⟨0,by rw[Iw];omega,by rw[Gd];rfl⟩);have K:=c.yE y.G[z.i] (Iu _) d.G[z.i+n] (IP.2 ⟨z.i+n-y.G.length,by rw[Iw];omega,by rw[Gd];congr 1;omega⟩);omega
 exact⟨k.lt,k.one,q,p,by rw[v b m];exact k.bytes,by rw[v b m];exact k.safe,fun e l t=>by
  rcases r e l with⟨n,j,_,_,_,u⟩|j
  .exact k.xr _ (Iu j) (u.symm.trans t)
  .exact J e j (t▸h.bin m),by rw[c.new];exact k.new,k.ok,by rw[c.pre (by omega)];exact k.held,k.An,by rw[c.pre (by omega)];exact k.len⟩
theorem Ur{M:DM}{y:Lay}{i j:Nat}(h:i<=j):left M y i<=left M y j:=by
 unfold left;have:=RL (y.G.map fun e=>cnt e.2.2.1 (M.file e.2.1).safe) h;rw[<- Gg,<- Gg] at this;omega
theorem Vv{M a:DM}{y y':Lay}(g:y'.F0.length=y.F0.length)(h:∀ i (j:i<y.G.length),∃ b:i<y'.G.length,cnt y.G[i].2.2.1 (M.file y.G[i].2.1).safe<=cnt y'.G[i].2.2.1 (a.file y'.G[i].2.1).safe)(k:Nat):left M y k<=left a y' k:=by
 unfold left;have:=YD (y.G.map fun e=>cnt e.2.2.1 (M.file e.2.1).safe) (y'.G.map fun e=>cnt e.2.2.1 (a.file e.2.1).safe) k (fun i d=>by
  obtain⟨b,c⟩:=h i (by simpa using d);exact⟨by simpa using b,by simpa using c⟩)
 rw[<- Gg,<- Gg] at this;omega
def Ux(M:DM)(y:Lay):Prop:=∀ e∈y.G,(M.file e.2.1).safe=(M.file e.2.1).bytes.length
theorem Ux.left{M:DM}{y:Lay}{p t k:Nat}(h:Ux M y)(c:Lk M y p t k)(j:Nat):left M y j=(y.pre j).length:=by
 unfold Go.Proofs.YtkhnggkkiefcdaaGreatDoor.left Lay.pre;rw[Il,YZ]
 congr 2
 refine GN fun e b=>?_;have a:=He b;rw[h e a,c.bytes e a];exact Ss (Io _)
theorem Lk.BT{M:DM}{y:Lay}{p t k:Nat}(h:Lk M y p t k):p<=left M y y.G.length:=by
 obtain⟨z,b,a⟩:=h.BR M.safe (Is ..);exact Im a (Ur b.j)
theorem I7{M:DM}{y:Lay}(j:Nat):left M y j<=y.F.length:=by
 refine Im ?_ (Yz y j).length_le;unfold left Lay.pre;rw[Il,YZ];have:=YD (y.G.map fun e=>cnt e.2.2.1 (M.file e.2.1).safe) (y.G.map fun e=>e.2.2.1.length) j (fun i b=>by
  have a:i<y.G.length:=by simpa using b
  refine⟨by simpa using a,?_⟩;rw[IR,IR];exact Up _ _)
 rw[<- Gg,<- Gg] at this;omega
theorem Lk.yc{M:DM}{y:Lay}{p t k:Nat}(h:Lk M y p t k):p<=y.F.length:=Im h.BT (I7 _)
theorem Lk.same{M a:DM}{y:Lay}{p t k u n:Nat}(h:Lk M y p t k)(o:Bk a u n)(r:t<=u)(j:a.dir=M.dir)(b:a.file=M.file)(c:a.ids=M.ids)(d:a.safe=M.safe)(f:a.Bl=M.Bl):Lk a y p u n where
 bd:=o
 Aa:=h.Aa
 pos:=fun e q=>by have:=h.pos e q;omega
 gid:=h.gid
 AC:=by rw[c];exact h.AC
 Ak:=h.Ak
 bytes:=by rw[b];exact h.bytes
 ok:=h.ok
 le:=by rw[b];exact h.le
 full:=by rw[b];exact h.full
 An:=h.An
 fl:=Im h.fl r
 now:=by rw[j];exact h.now.files (fun _ _=>by rw[b]) (fun g i=>by rw[c];exact i)
 BR:=fun D l=>by
  rw[d,f] at l;obtain⟨z,s,m⟩:=h.BR D l;exact⟨z,s.files (fun _ _=>by rw[b]) (fun g i=>by rw[c];exact i),by unfold left at m |-;rw[b];exact m⟩
 cur:=by rw[j,d,f];exact h.cur
 live:=by rw[d,f];exact h.live
theorem Lk.no{M:DM}{y:Lay}{p t k:Nat}(h:Lk M y p t k)(d:Bool):Lk (M.no d) y p t (k+1):=h.same (h.bd.no d) (Io _) rfl rfl rfl rfl rfl
theorem Pq(M:DM)(f:Nat){g:Nat}(h:(M.file g).safe=(M.file g).bytes.length):(M.Av f).file g=M.file g:=by
 show(if g=f then {M.file f with safe:=(M.file f).bytes.length} else M.file g:FM)=_;split
 .rename_i e;subst e;rw[<- h]
 .rfl
theorem Lk.Av{M:DM}{y:Lay}{p t k:Nat}(h:Lk M y p t k)(f:Nat):Lk (M.Av f) y p t (k+1):=by
 have c:∀ e∈y.G,(M.file e.2.1).safe<=((M.Av f).file e.2.1).safe:=fun e a=>by
  rw[WW];split
  .rename_i e';rw[<- e'];exact h.le e a
  .exact Io _
 exact {
  bd:=h.bd.Av f
  Aa:=h.Aa
  pos:=h.pos
  gid:=h.gid
  AC:=h.AC
  Ak:=h.Ak
  bytes:=fun e a=>by rw[Yc];exact h.bytes e a
  ok:=h.ok
  le:=fun e a=>by
   rw[WW,Yc];split
   .rename_i e';rw[e'];exact Io _
   .exact h.le e a
  full:=fun e a=>by
   rw[WW,Yc];split
   .rename_i e';rw[e']
   .exact h.full e a
  An:=h.An
  fl:=h.fl
  now:=h.now.files (fun b d=>Pq M f (h.now.base b d).safe) (fun _ g=>g)
  BR:=fun D m=>by
   obtain⟨z,j,o⟩:=h.BR D m;refine⟨z,j.files (fun b d=>Pq M f (j.base b d).safe) (fun _ g=>g),Im o (Vv rfl (fun i l=>⟨l,T7 _ (c _ (Iu _))⟩) _)⟩
  cur:=h.cur
  live:=h.live}
theorem Lk.yU{M:DM}{y:Lay}{p t k:Nat}(h:Lk M y p t k){G:List Ent}{a:Ent}(c:y.G=G++[a]):Ux (M.Av a.2.1) y:=fun e b=>by
 rw[WW,Yc];split
 .rename_i e';rw[e']
 .rename_i hne
  refine h.full e ?_;rw[c] at b |-;rw[EE];rcases Ir.1 b with x|x
  .exact x
  .rw[Iv] at x;subst x;exact absurd rfl hne
def Lay.trim(y:Lay):Lay:={y with F0:=y.pre y.i,G:=y.G.drop y.i,i:=0}
theorem Lay.ya(y:Lay):y.trim.F=y.F:=by
 show y.F0++zq (y.G.take y.i)++zq (y.G.drop y.i)=y.F0++zq y.G;rw[IA,<- Zg,IG]
theorem Lay.AL(y:Lay)(n:Nat):y.trim.pre n=y.pre (y.i+n):=by
 show y.F0++zq (y.G.take y.i)++zq ((y.G.drop y.i).take n)=y.F0++zq (y.G.take (y.i+n));rw[IA,<- Zg,List.take_add]
theorem Lay.yX(y:Lay):y.trim.z.dir y.trim.G=y.z.dir y.G:=by
 unfold Dl.dir;show _++_++(((y.G.drop y.i).take (y.G.drop y.i).length).drop 0).map ZP++_=_++_++((y.G.take y.G.length).drop y.i).map ZP++_;rw[ID,ID,Gr]
 rfl
theorem Snd.trim{M:DM}{y:Lay}(h:Snd M y M.dir y.z):Snd M y.trim M.dir y.trim.z:=by
 have g:∀ e∈y.trim.G,e∈y.G:=fun e a=>IK a;refine⟨by rw[y.yX];exact h.perm,II _,Io _,h.low,h.nums,fun b c=>?_,fun c=>?_,h.once,h.Ad⟩
 .have k:=h.base b c
  have f:y.i<y.G.length:=k.lt;refine⟨?_,k.one,fun e a=>?_,fun e a=>k.hi e a,k.bytes,k.safe,fun e a=>k.xr e (g e a),k.new,k.ok,?_,k.An,?_⟩
  .show 0<(y.G.drop y.i).length
   rw[Iw];omega
  .have he':e∈y.trim.G.take 0:=a
   rw[Gs] at he';cases he'
  .have:=y.AL 0
   show _=(y.trim.pre 0).foldl SM.enter SM.nil;rw[this];exact k.held
  .show _<=(y.trim.pre 0).length+40
   rw[y.AL 0];exact k.len
 .obtain⟨h1,h2⟩:=h.bare c
  refine⟨rfl,?_⟩;have d:y.i=0:=h1;show y.pre y.i=[];rw[d];show y.F0++zq (y.G.take 0)=[];rw[h2]
  rfl
theorem LQ(M:DM)(y:Lay):left M y y.G.length<=left M y.trim y.trim.G.length:=by
 unfold left;show _<=(y.pre y.i).length+(((y.G.drop y.i).take (y.G.drop y.i).length).map _).sum;rw[ID,ID];have e:y.G=y.G.take y.i++y.G.drop y.i:=(IG _ _).symm;have a:((y.G.take y.i).map fun e=>cnt e.2.2.1 (M.file e.2.1).safe).sum<=(zq (y.G.take y.i)).length:=by
  rw[YZ];have:=YD ((y.G.take y.i).map fun e=>cnt e.2.2.1 (M.file e.2.1).safe) ((y.G.take y.i).map fun e=>e.2.2.1.length) ((y.G.take y.i).length) (fun i b=>by
   have a:i<(y.G.take y.i).length:=by simpa using b
   refine⟨by simpa using a,?_⟩;rw[IR,IR];exact Up _ _)
  rw[IH (Fw (IE _)),IH (Fw (IE _))] at this;exact this
 have c:(y.pre y.i).length=y.F0.length+(zq (y.G.take y.i)).length:=by unfold Lay.pre;rw[Il]
 have d:(y.G.map fun e=>cnt e.2.2.1 (M.file e.2.1).safe).sum=((y.G.take y.i).map fun e=>cnt e.2.2.1 (M.file e.2.1).safe).sum+((y.G.drop y.i).map fun e=>cnt e.2.2.1 (M.file e.2.1).safe).sum:=by
  rw[<- Fx,<- IL,IG]
 omega
theorem Snd.yx{M:DM}{y:Lay}{D:Dir}{z:Dl}(h:Snd M y D z){e:Ent}(a:e∈(y.G.take z.j).drop z.i):ZP e∈D:=by
 rw[h.perm.mem_iff];unfold Dl.dir;simp only[Ir,Iy];exact .inl (.inr ⟨e,a,rfl⟩)
theorem Lk.Ay{M:DM}{y:Lay}{p t k:Nat}(h:Lk M y p t k){q:Nat}(m:q<=left M y y.G.length):Lk M.Ay y.trim q t (k+1):=by
 have c:∀ e∈y.trim.G,e∈y.G:=fun e a=>IK a;have b:Snd M.Ay y.trim M.dir y.trim.z:=h.now.trim.files (fun _ _=>rfl) (fun _ j=>j);have d:∀ D∈M.Ay.safe::M.Ay.Bl,D=M.dir:=fun D f=>by
  have g:D∈[M.dir]:=f;exact Iv.1 g
 exact {
  bd:=h.bd.Ay
  Aa:=h.Aa.sublist (Ey _ _)
  pos:=fun e a=>h.pos e (c e a)
  gid:=((Ey y.i y.G).map fun e=>e.2.1).nodup h.gid
  AC:=fun e a=>h.AC e (c e a)
  Ak:=fun e a=>h.Ak e (c e a)
  bytes:=fun e a=>h.bytes e (c e a)
  ok:=fun e a=>h.ok e (c e a)
  le:=fun e a=>h.le e (c e a)
  full:=fun e a=>h.full e (by
   have i:e∈(y.G.drop y.i).dropLast:=a;obtain⟨n,l,rfl⟩:=IP.1 i;rw[EF,Iw] at l;refine IP.2 ⟨y.i+n,by rw[EF];omega,?_⟩;rw[Eu,Eu];simp)
  An:=by rw[Lay.ya];exact h.An
  fl:=by rw[Lay.ya];exact h.fl
  now:=b
  BR:=fun D f=>by
   rw[d D f];exact⟨_,b,Im m (LQ M y)⟩
  cur:=Is ..
  live:=fun e a=>⟨M.dir,Is ..,b.yx (by
   show e∈(y.trim.G.take y.trim.G.length).drop 0;rw[ID,Gr];exact a)⟩}
def Lay.add(y:Lay)(n f:Nat):Lay:={y with G:=y.G++[(n,f,([],[]))]}
theorem Lay.yB(y:Lay)(n f:Nat):(y.add n f).F=y.F:=by
 show y.F0++zq (y.G++[(n,f,([],[]))])=_;rw[Zg,VJ,IV]
 rfl
theorem Ext.add(y:Lay)(n f:Nat)(j:∀ e∈y.G,e.1<n):Ext y (y.add n f) where
 F0:=rfl
 key:=by show _<+:(y.G++[_]).map _;rw[IL];exact Ep _ _
 facts:=fun i k=>by show zq ((y.G++[_]).take i)=_;rw[Ha (by omega)]
 yE:=fun a c e d=>by
  have b:e∈(y.G++[(n,f,([],[]))]).drop y.G.length:=d;rw[Fi,Iv] at b;subst b;exact j a c
 new:=rfl
 BC:=rfl
 base:=rfl
 i:=rfl
theorem ZQ(M:DM)(a:ByteArray)(f:Nat)(r:Int)(d:Bool){g:Nat}(h:g≠f):(M.born a f r d).file g=M.file g:=by
 show(if g=f then(⟨[],0⟩:FM) else M.file g)=_;rw[It h]
theorem T8(M:DM)(a:ByteArray)(f:Nat)(r:Int)(d:Bool):(M.born a f r d).file f=⟨[],0⟩:=by
 show(if f=f then(⟨[],0⟩:FM) else M.file f)=_;rw[IC rfl]
theorem Pr{M:DM}{a:ByteArray}{f:Nat}{r:Int}{d:Bool}{D:Dir}(h:D∈(M.born a f r d).safe::(M.born a f r d).Bl):D∈M.safe::M.Bl\/D=M.dir++[(a,f)]:=by
 have b:D∈M.safe::(M.Bl++[M.dir++[(a,f)]]):=h;simp only[IW,Ir,Fk,Dw] at b;rcases b with e|e|e
 .exact .inl (e▸Is ..)
 .exact .inl (Iq _ e)
 .exact .inr e
theorem Ps{M:DM}{D:Dir}(a:ByteArray)(f:Nat)(r:Int)(d:Bool)(h:D∈M.safe::M.Bl):D∈(M.born a f r d).safe::(M.born a f r d).Bl:=by
 show D∈M.safe::(M.Bl++[M.dir++[(a,f)]]);rcases IW.1 h with e|e
 .rw[e];exact Is ..
 .exact Iq _ (Fl _ e)
theorem R9{M:DM}{t k:Nat}(h:Bk M t k){c:ByteArray}{f:Nat}(i:f∉M.ids):((M.dir++[(c,f)]).map (·.2)).Nodup:=by
 rw[IL,GH];refine⟨h.once,by simp,fun a g b d e=>?_⟩;simp only[IJ,Gm,Iv] at d;obtain⟨x,j,rfl⟩:=Iy.1 g;exact i (by rw[<- d,<- e];exact h.Ad x j)
theorem Nr{M:DM}{t k:Nat}(h:Bk M t k){b:ByteArray}{f:Nat}:∀ e∈M.dir++[(b,f)],e.2∈f::M.ids:=fun e a=>by
 rcases Ir.1 a with a|a
 .exact Iq _ (h.Ad e a)
 .rw[Iv] at a;subst a;exact Is ..
theorem Lk.born{M:DM}{y:Lay}{p t:Nat}(h:Lg M y p t)(I:Ux M y)(n f:Nat)(v:f∉M.ids)(R:1<=n)(N:∀ e∈y.G,e.1<n)(J:n<=2*(t+1))(K:y.new≠some f)(r:Int)(d:Bool)(C:M.refused<=r)(S:r<=M.refused+1):Lg (M.born (zn false n) f r d) (y.add n f) p (t+1):=by
 have q:=Ext.add y n f N;have j:∀ e∈y.G,e.2.1≠f:=fun e c x=>v (x▸h.AC e c);have G:(y.add n f).G.drop y.G.length=[(n,f,([],[]))]:=by show(y.G++[_]).drop _=_;rw[Fi]
 have B:∀ {D z},Snd M y D z->Snd (M.born (zn false n) f r d) (y.add n f) D z:=fun {D z} m =>
  m.up q (fun b l=>ZQ M _ f r d (fun e=>v (e▸m.bin l))) (fun g T=>Iq _ T) (fun e c=>by rw[G,Iv] at c;subst c;exact v)
 have L:y.i<=y.G.length:=h.now.ij;have A:∀ k,left M y k<=left (M.born (zn false n) f r d) (y.add n f) k:=Vv rfl (fun i C=>by
  refine⟨by show i<(y.G++[_]).length;rw[Il];omega,?_⟩;have e:(y.add n f).G[i]'(by show i<(y.G++[_]).length;rw[Il];omega)=y.G[i]:=by
   show(y.G++[(n,f,([],[]))])[i]'_=_;rw[Gk C]
  rw[e,ZQ M _ f r d (j _ (Iu _))];exact Io _)
 have o:Snd (M.born (zn false n) f r d) (y.add n f) (M.dir++[(zn false n,f)]) (y.add n f).z:=by
  have m:=B h.now;refine⟨?_,Im h.now.ij q.len,Io _,m.low,m.nums,fun b l=>?_,m.bare,R9 h.bd v,Nr h.bd⟩
  .have hp:=h.now.perm
   have O:(y.add n f).z.dir (y.add n f).G=y.BC.map YR++y.base.toList.map Yh++((y.G.drop y.i).map ZP++[(zn false n,f)])++y.new.toList.map fun f=>(zf,f):=by
    show y.BC.map YR++y.base.toList.map Yh++(((y.G++[(n,f,([],[]))]).take (y.G++[(n,f,([],[]))]).length).drop y.i).map ZP++_=_;rw[ID,Fe L,IL];simp[Lay.add,ZP,Lay.z]
   have Q:y.z.dir y.G=y.BC.map YR++y.base.toList.map Yh++(y.G.drop y.i).map ZP++y.new.toList.map fun f=>(zf,f):=by
    show y.BC.map YR++y.base.toList.map Yh++((y.G.take y.G.length).drop y.i).map ZP++_=_;rw[ID]
    rfl
   rw[O];rw[Q] at hp;refine(hp.append_right _).trans ?_;rw[<- IA,IA _ _ [(zn false n,f)],IA _ [(zn false n,f)] _];exact Di _ Fy
  .have k:=m.base b l
   exact⟨Hu k.lt q.len,k.one,k.lo,k.hi,k.bytes,k.safe,k.xr,k.new,k.ok,k.held,k.An,k.len⟩
 exact {
  bd:=Bd.born h.bd _ f v r d C S
  Aa:=by
   show(y.G++[_]).Pairwise _;rw[GT];exact⟨h.Aa,List.pairwise_singleton _ _,fun a E b l=>by rw[Iv] at l;subst l;exact N a E⟩
  pos:=fun e c=>by
   rcases Ir.1 c with c|c
   .have:=h.pos e c;omega
   .rw[Iv] at c;subst c;exact⟨R,J⟩
  gid:=by
   show((y.G++[(n,f,([],[]))]).map (fun e:Ent=>e.2.1)).Nodup;rw[IL,GH];refine⟨h.gid,by simp,fun a E b l e=>?_⟩;simp only[IJ,Gm,Iv] at l;obtain⟨x,q,rfl⟩:=Iy.1 E;exact j x q (e.trans l)
  AC:=fun e c=>by
   rcases Ir.1 c with c|c
   .exact Iq _ (h.AC e c)
   .rw[Iv] at c;subst c;exact Is ..
  Ak:=fun e c=>by
   rcases Ir.1 c with c|c
   .exact h.Ak e c
   .rw[Iv] at c;subst c;exact K
  bytes:=fun e c=>by
   rcases Ir.1 c with c|c
   .rw[ZQ M _ f r d (j e c)];exact h.bytes e c
   .rw[Iv] at c;subst c;rw[T8];rfl
  ok:=fun e c=>by
   rcases Ir.1 c with c|c
   .exact h.ok e c
   .rw[Iv] at c;subst c;exact⟨(fun x q=>by cases q),T1⟩
  le:=fun e c=>by
   rcases Ir.1 c with c|c
   .rw[ZQ M _ f r d (j e c)];exact h.le e c
   .rw[Iv] at c;subst c;rw[T8];exact Io _
  full:=fun e c=>by
   have s:e∈(y.G++[(n,f,([],[]))]).dropLast:=c;rw[EE] at s;rw[ZQ M _ f r d (j e s)];exact I e s
  An:=by rw[Lay.yB];exact h.An
  fl:=by rw[Lay.yB];exact Gv h.fl
  now:=o
  BR:=fun D u=>by
   rcases Pr u with u|rfl
   .obtain⟨z,m,hp⟩:=h.BR D u
    exact⟨z,B m,Im hp (A _)⟩
   .exact⟨_,o,Im h.BT (Im (A _) (Ur q.len))⟩
  cur:=Iq _ (Ff _ (Iv.2 rfl))
  live:=fun e c=>by
   rcases Ir.1 c with c|c
   .obtain⟨D,u,h3⟩:=h.live e c
    exact⟨D,Ps _ _ _ _ u,h3⟩
   .rw[Iv] at c
    subst c;exact⟨_,Iq _ (Ff _ (Iv.2 rfl)),Ff _ (Iv.2 rfl)⟩}
theorem Lk.BW{M:DM}{y:Lay}{p t:Nat}(h:Lg M y p t)(C:y.new=none)(f:Nat)(o:f∉M.ids)(r:Int)(d:Bool)(A:M.refused<=r)(E:r<=M.refused+1):Lg (M.born zf f r d) {y with new:=some f} p (t+1):=by
 have j:∀ e∈y.G,e.2.1≠f:=fun e a x=>o (x▸h.AC e a);have s:∀ {D z},Snd M y D z->Snd (M.born zf f r d) {y with new:=some f} D z:=fun {D z} c =>
  (c.lay (y':={y with new:=some f}) rfl rfl (fun b B e=>o (by have:=c.bin B;simp only[Hi] at e;rw[e];exact this))).files (fun b B=>ZQ M _ f r d (fun e=>o (e▸c.bin B))) (fun g I=>Iq _ I)
 have q:∀ k,left M y k<=left (M.born zf f r d) {y with new:=some f} k:=Vv rfl (fun i A=>⟨A,by
  rw[ZQ M _ f r d (j _ (Iu _))];exact Io _⟩)
 have l:Snd (M.born zf f r d) {y with new:=some f} (M.dir++[(zf,f)]) ({y with new:=some f}:Lay).z:=by
  have c:=s h.now;refine⟨?_,c.ij,c.j,c.low,c.nums,c.base,c.bare,R9 h.bd o,Nr h.bd⟩;have v:=h.now.perm;have u:y.z.dir y.G=y.BC.map YR++y.base.toList.map Yh++((y.G.take y.G.length).drop y.i).map ZP++y.new.toList.map fun f=>(zf,f):=rfl;rw[u,C,Option.toList_none,Gm,IV] at v;exact v.append_right _
 exact {
  bd:=Bd.born h.bd _ f o r d A E
  Aa:=h.Aa
  pos:=fun e a=>by have:=h.pos e a;omega
  gid:=h.gid
  AC:=fun e a=>Iq _ (h.AC e a)
  Ak:=fun e a u=>by simp only[Hi] at u;exact j e a u.symm
  bytes:=fun e a=>by rw[ZQ M _ f r d (j e a)];exact h.bytes e a
  ok:=h.ok
  le:=fun e a=>by rw[ZQ M _ f r d (j e a)];exact h.le e a
  full:=fun e a=>by rw[ZQ M _ f r d (j e (FY _ a))];exact h.full e a
  An:=h.An
  fl:=Gv h.fl
  now:=l
  BR:=fun D m=>by
   rcases Pr m with m|rfl
   .obtain⟨z,c,v⟩:=h.BR D m
    exact⟨z,s c,Im v (q _)⟩
   .exact⟨_,l,Im h.BT (q _)⟩
  cur:=Iq _ (Ff _ (Iv.2 rfl))
  live:=fun e a=>by
   obtain⟨D,m,G⟩:=h.live e a;exact⟨D,Ps _ _ _ _ m,G⟩}
theorem Xi(M:DM)(f:Nat)(l:List UInt8)(r u:Int)(d:Bool){g:Nat}(h:g≠f):(M.put f l r u d).file g=M.file g:=by
 show(if g=f then {M.file f with bytes:=(M.file f).bytes++l} else M.file g:FM)=_;rw[It h]
theorem Ext.last{y g:Lay}{G:List Ent}{n f:Nat}{s j:Seg}(c:y.G=G++[(n,f,s)])(b:g={y with G:=G++[(n,f,j)]}):Ext y g where
 F0:=by rw[b]
 key:=by rw[b,c];simp
 facts:=fun i h=>by
  rw[c,Il,Ix] at h;rw[b,c];simp only;rw[Ha (by omega),Ha (by omega)]
 yE:=fun a k e d=>by
  rw[b,c] at d;simp only at d;rw[Hn (by simp)] at d;cases d
 new:=by rw[b]
 BC:=by rw[b]
 base:=by rw[b]
 i:=by rw[b]
theorem Lk.put{M:DM}{y B:Lay}{G:List Ent}{n f:Nat}{s E:Seg}{p t:Nat}(h:Lg M y p t)(A:y.G=G++[(n,f,s)])(hy:B={y with G:=G++[(n,f,E)]})(l:List UInt8)(Y:l.length<=2000)(r u:Int)(d:Bool)
 (Q:M.refused<=r)(X:r<=M.refused+1)(h3:M.Bo<=u)(h4:u-M.Bo<=r-M.refused)(I:(M.file f).bytes++l=Zv E)(a0:WA E)(hc:∀ n,cnt s.1 n<=cnt E.1 n)
 (L:∀ i,((B.F.take i).foldl SM.enter SM.nil).hints.length<=32)(a1:B.F.length<=y.F.length+1):Lg (M.put f l r u d) B p (t+1):=by
 have R:Ext y B:=Ext.last A hy;have q:B.G=G++[(n,f,E)]:=by rw[hy]
 have J:((n,f,s):Ent)∈y.G:=by rw[A];simp
 have o:∀ e∈G,e∈y.G:=fun e c=>by rw[A];exact Fl _ c
 have C:∀ e∈G,e.2.1≠f:=fun e c x=>by
  have:=h.gid;rw[A,IL,GH] at this;exact this.2.2 _ (Hq (f:=fun e:Ent=>e.2.1) c) f (by simp) x
 have O:∀ {D z},Snd M y D z->Snd (M.put f l r u d) B D z:=fun {D z} K =>
  K.up R (fun b I=>Xi M f l r u d (fun e=>(K.base b I).xr _ J e.symm)) (fun g hg=>hg) (fun e c=>by
   rw[q,A,Hn (by simp)] at c;cases c)
 have K:B.z=y.z:=by rw[hy];unfold Lay.z;rw[A];simp
 have j:∀ e∈B.G,e∈G\/e=(n,f,E):=fun e c=>by
  rw[q] at c;rcases Ir.1 c with x|x
  .exact .inl x
  .exact .inr (Iv.1 x)
 exact {
  bd:=Bd.put h.bd f l Y r u d Q X h3 h4
  Aa:=by
   have:=h.Aa;rw[A,GT] at this;rw[q,GT];exact⟨this.1,List.pairwise_singleton _ _,fun a ha b I=>by rw[Iv] at I;subst I;exact this.2.2 a ha (n,f,s) (by simp)⟩
  pos:=fun e c=>by
   rcases j e c with x|rfl
   .have:=h.pos e (o e x);omega
   .have:=h.pos _ J;simp only at this |-;omega
  gid:=by
   have:=h.gid;rw[A] at this;rw[q]
   simpa using this
  AC:=fun e c=>by
   rcases j e c with x|rfl
   .exact h.AC e (o e x)
   .exact h.AC (n,f,s) J
  Ak:=fun e c=>by
   rw[R.new];rcases j e c with x|rfl
   .exact h.Ak e (o e x)
   .exact h.Ak (n,f,s) J
  bytes:=fun e c=>by
   rcases j e c with x|rfl
   .rw[Ys,It (C e x)];exact h.bytes e (o e x)
   .rw[Ys,IC rfl];exact I
  ok:=fun e c=>by
   rcases j e c with x|rfl
   .exact h.ok e (o e x)
   .exact a0
  le:=fun e c=>by
   rw[T4,Ys];rcases j e c with x|rfl
   .rw[It (C e x)];exact h.le e (o e x)
   .have:=h.le _ J
    rw[IC rfl,Il];simp only at this |-;omega
  full:=fun e c=>by
   rw[q,EE] at c;rw[T4,Ys,It (C e c)];exact h.full e (by rw[A,EE];exact c)
  An:=L
  fl:=by have:=h.fl;omega
  now:=by
   rw[K];exact O h.now
  BR:=fun D hD=>by
   obtain⟨z,K,hp⟩:=h.BR D hD;refine⟨z,O K,Im hp (Vv (by rw[R.F0]) (fun i Q=>?_) _)⟩;have X:i<B.G.length:=Hu Q R.len;refine⟨X,?_⟩;rw[T4];by_cases hi:i<G.length
   .have T:y.G[i]=G[i]:=by simp only[A,Gk hi]
    have V:B.G[i]=G[i]:=by simp only[q,Gk hi]
    rw[T,V];exact Io _
   .have hi2:i=G.length:=by rw[A,Il,Ix] at Q;omega
    subst hi2;have T:y.G[G.length]=(n,f,s):=by simp only[A,List.getElem_concat_length]
    have V:B.G[G.length]=(n,f,E):=by simp only[q,List.getElem_concat_length]
    rw[T,V];exact hc _
  cur:=h.cur
  live:=fun e c=>by
   rcases j e c with x|rfl
   .exact h.live e (o e x)
   .exact h.live (n,f,s) J}
theorem Lk.write{M:DM}{y:Lay}{f:Nat}{p t k:Nat}(h:Lk M y p t k)(s:y.new=some f)(l:List UInt8)(q:(M.file f).bytes.length+l.length<=2000*(t+100))(r u:Int)(d:Bool)
 (o:M.refused<=r)(v:r<=M.refused+1)(A:M.Bo<=u)(B:u-M.Bo<=r-M.refused):Lk (M.put f l r u d) y p t (k+1):=by
 have c:∀ e∈y.G,e.2.1≠f:=fun e a x=>h.Ak e a (by rw[s,x]);have j:∀ {D z},Snd M y D z->Snd (M.put f l r u d) y D z:=fun {D z} m =>
  m.files (fun b E=>Xi M f l r u d (fun e=>(m.base b E).new (by rw[s,e]))) (fun g G=>G)
 exact {
  bd:=h.bd.put f l (fun _=>q) r u d o v A B
  Aa:=h.Aa
  pos:=h.pos
  gid:=h.gid
  AC:=h.AC
  Ak:=h.Ak
  bytes:=fun e a=>by rw[Xi M f l r u d (c e a)];exact h.bytes e a
  ok:=h.ok
  le:=fun e a=>by rw[Xi M f l r u d (c e a)];exact h.le e a
  full:=fun e a=>by rw[Xi M f l r u d (c e (FY _ a))];exact h.full e a
  An:=h.An
  fl:=h.fl
  now:=j h.now
  BR:=fun D C=>by
   obtain⟨z,m,I⟩:=h.BR D C;refine⟨z,j m,Im I (Vv rfl (fun i o=>⟨o,?_⟩) _)⟩;rw[Xi M f l r u d (c _ (Iu _))];exact Io _
  cur:=h.cur
  live:=h.live}
end Go.Proofs.YtkhnggkkiefcdaaGreatDoor
namespace Go.Proofs.YtkhnggkkiefcdaaGreatDoor
open Go.RowKit Go.Shelf
set_option maxRecDepth 100000
set_option maxHeartbeats 8000000
attribute [local go_sem] GX
def YB(s:List ByteArray × List ByteArray)(e:Bool × Nat):List ByteArray × List ByteArray:=if e.1=true then(s.1++s.2,[zn e.1 e.2]) else(s.1,s.2++[zn e.1 e.2])
def spK(a:List (Bool × Nat)):List ByteArray × List ByteArray:=a.foldl YB ([],[])
theorem KO(a:List (Bool × Nat))(e:Bool × Nat):spK (a++[e])=YB (spK a) e:=by unfold spK;rw[Hm];rfl
theorem Ns(a:List (Bool × Nat)):(spK a).1.length+(spK a).2.length=a.length:=by
 have h:∀ (a:List (Bool × Nat)) (s:List ByteArray × List ByteArray),(a.foldl YB s).1.length+(a.foldl YB s).2.length=s.1.length+s.2.length+a.length:=by
  intro a
  induction a with
  | nil=>intro s;rfl
  | cons e a b =>
   intro s;rw[Hk,b,Iz];unfold YB;split
   .simp only[Il,Ix];omega
   .simp only[Il,Ix];omega
 have:=h a ([],[]);unfold spK
 simpa using this
structure WZ(cs:List (Option (Bool × Nat)))(ks:List (Bool × Nat)):Prop where
 mem:∀ e,e∈ks↔some e∈cs
 Aa:ks.Pairwise fun a b=>a.2<b.2
def Zq(e:Bool × Nat):Nat × ByteArray:=(e.2,zn e.1 e.2)
theorem VK(n m:Nat):zn false n≠zn true m:=fun h=>by
 have a:=Fg (fun b:ByteArray=>b.data.toList) h;simp only[zn,XH] at a;cases a
theorem X8(k:Bool)(n:Nat):zn k n≠zf:=fun h=>by
 have a:=Fg (fun b:ByteArray=>b.data.toList) h;simp only[zn,XH] at a;cases k <;> cases a
theorem Ra{k b:Bool}{n a:Nat}(h:zn k n=zn b a):k=b/\n=a:=by
 cases k <;> cases b
 .exact⟨rfl,R0 h⟩
 .exact absurd h (VK n a)
 .exact absurd h.symm (VK a n)
 .exact⟨rfl,R0 h⟩
theorem Nt{d:List (Option (Bool × Nat))}{l:List (Nat × ByteArray)}(h:WY d l)(q:Asc zQ (ZI l)):∃ m,WZ d m/\l=m.map Zq:=by
 have j:l=(l.map fun e=>(decide (e.2=zn true e.1),e.1)).map Zq:=by
  rw[Gi]
  conv=>lhs;rw[<- List.map_id l]
  refine GN fun e c=>?_;obtain⟨k,n,_,rfl⟩:=(h.2 e).1 c;show(n,zn k n)=(n,zn (decide (zn k n=zn true n)) n);cases k
  .rw[Gu (VK n n)]
  .rw[fFS rfl]
 refine⟨_,⟨fun e=>?_,?_⟩,j⟩
 .have hm:∀ e:Bool × Nat,Zq e∈l↔some e∈d:=fun e=>by
   rw[h.2]
   constructor
   .rintro⟨k,n,hc,c⟩
    unfold Zq at c;simp only[Gq] at c;obtain⟨f,o⟩:=c;obtain⟨g,i⟩:=Ra o;obtain⟨a,b⟩:=e;simp only at g i;rw[g,i];exact hc
   .intro hc
    exact⟨e.1,e.2,hc,rfl⟩
  constructor
  .intro c
   refine(hm e).1 ?_;rw[j];exact Hq c
  .intro hc
   have:=(hm e).2 hc;refine Iy.2 ⟨Zq e,this,?_⟩;obtain⟨a,b⟩:=e;show(decide (zn a b=zn true b),b)=(a,b);cases a
   .rw[Gu (VK b b)]
   .rw[fFS rfl]
 .have f:(l.map Prod.fst).Pairwise (fun x y=>zQ x y=true):=q
  rw[Gp] at f;rw[Gp];exact f.imp fun h=>by simpa [zQ] using h
def SpI(w:World)(v:Value)(l:List (Nat × ByteArray))(a:List (Bool × Nat))(i:Nat)(W:World):Prop :=
 ∃ c b,(Blk W w.heap.size [c] 91/\Blk W (w.heap.size+1) [b] 91/\W.ownsRow 0 9 1 c (spK (a.take i)).1.length (strs (spK (a.take i)).1)/\W.ownsRow 0 9 1 b (spK (a.take i)).2.length (strs (spK (a.take i)).2)) /\
  ((∀ k,c.ownBlock=some k->w.heap.size<=k/\b.ownBlock≠some k)/\(∀ k,b.ownBlock=some k->w.heap.size<=k))/\Fr Nil w W/\W.ownsRow 0 268 2 v l.length (Zp l)
theorem Jz(w:World)(v:Value)(l:List (Nat × ByteArray))(t:List (Bool × Nat))(B:Nat)(A:w.heap.size<=B):OwnFrom B (SpI w v l t):=by
 intro i W y row h s o;have f:=Fr.BI s;have b:Odd (fun k=>row=some k) W:=fun k e=>(o k e).2;obtain⟨x,u,⟨c,d,g,j⟩,q,r,m⟩:=h;exact⟨x,u,⟨c.fr f (c.ty.odd b),d.fr f (d.ty.odd b),ze g f (fun k a=>(zH g a).odd b),ze j f (fun k a=>(zH j a).odd b)⟩,q,r.trans' f (fun k a e=>by have:=(o k e).1;omega),ze m f (fun k a=>(zH m a).odd b)⟩
theorem LR(b:Nat)(L:DL)(M:DM)(w:World)(h:DRep w b L M)(T:List (Option (Bool × Nat)))(hd:M.dir.names=T.map ZJ)(e9:M.dir.length=T.length)(h9:(YJ T).Nodup)(hb:∀ k n,some (k,n)∈T->1<=n/\n<10^14)(c2:T.length<1000000000)
 (ht:∀ w',Fr Nil w w'->Tab w')(b5:Yg w) :
 Calls Tryz.prog 183 #[.pointer (some ⟨b,0,none⟩)] w fun e w'=>∃ v g,e=.returned v/\WZ T g/\w'.ownsRow 0 9 1 v ((spK g).1++if none∈T then [zf] else []).length (strs ((spK g).1++if none∈T then [zf] else []))/\Fr Nil w w'/\(∀ k,v.ownBlock=some k->w.heap.size<=k):=by
 have HL:=Z (fun wx (f:Fr Nil w wx)=>Wv wx b L M (h.nil f) (by omega));rw[hd,e9] at HL;have g4:=Z (fun wx (f:Fr Nil w wx)=>R8 b L M wx (h.nil f) T hd e9 h9 hb c2 (fun w' f'=>ht w' (f.trans f')) (b5.fr f id));have HN:Hid (∀ c∈T,∀ wx,Fr Nil w wx->Calls Tryz.prog 185 #[.string Y7,.string (ZJ c)] wx fun e w'=>e=.returned (.int .i64 (Vk c).2)/\Fr Nil wx w'):=fun c hc wx f =>
  (TO c (fun k n e=>hb k n (e▸hc)) wx (fun w' f'=>ht w' (f.trans f')) (b5.fr f id)).2
 have g8:Hid (∀ k n,some (k,n)∈T->1<=n):=fun k n hc=>(hb k n hc).1;clear h ht b5 hb;refine(Gl (n:=8)).1 ?_;refine Ef Tryz.func183 rfl trivial ?_ rfl;simp only[Tryz.ntmps183,GP,Iz,Ho,Nat.reduceAdd,Nat.reduceSub,GV,GW,Fv,Fc,Hh,IU]
 gi_wp2_with fail
 refine⟨trivial,?_⟩;refine(Gl.2 (g4.out _ (by exact zd))).mono ?_;rintro e w1 ⟨mb,v,l,rfl,e6,a0,d1,j3,j8,b0⟩;have e2:Fr Nil w ((w.alloc (.cells #[.slice none 0 0] 91)).alloc (.cells #[.slice none 0 0] 91)):=((U _ _).alloc _).alloc _;have bo:Blk w1 w.heap.size [.slice none 0 0] 91:=((Blk.new w [.slice none 0 0] 91).alloc _).fr b0 id;have ba:Blk w1 (w.heap.size+1) [.slice none 0 0] 91:=by
  have:=(Blk.new (w.alloc (.cells #[.slice none 0 0] 91)) [.slice none 0 0] 91).fr b0 id
  rwa [FE] at this
 have e3:=e2.trans b0;have j5:w.heap.size+2<=w1.heap.size:=by have:=b0.size;simp at this;omega
 obtain⟨g,d2,rfl⟩:=Nt d1 a0.Aa;have d8:=Z e6;have Y:Hid ((g.map Zq).length=g.length/\g.length<=T.length/\∀ i,(hi:i<g.length)->some g[i]∈T/\ZZ (g.map Zq) i=Zq g[i]):=⟨by simp,by have:=d1.1;simpa using this,fun i hi=>⟨(d2.mem _).1 (Iu hi),by simp[ZZ,List.getD_eq_getElem?_getD,hi]⟩⟩;have d6:=Z d2;clear e6 b0 d1 d2 e2
 gi_wp2_with fail
 refine⟨trivial,?_⟩;refine(Gl.2 (TK mb _)).mono ?_;rintro e w3 ⟨rfl,rfl⟩;have bM:=DH w1 211 (.pointer (some ⟨mb,0,none⟩));have f2:Fr Nil w1 (w1.alloc (.cells #[.pointer (some ⟨mb,0,none⟩)] 211)):=(U _ _).alloc _;have e1:=bo.fr f2 id;have e0:=ba.fr f2 id;have e4:=e3.trans f2;have d7:=Z (d8.out.alloc (.cells #[.pointer (some ⟨mb,0,none⟩)] 211));have f9:(w1.alloc (.cells #[.pointer (some ⟨mb,0,none⟩)] 211)).heap.size=w1.heap.size+1:=by simp
 have d5:=ze a0.own f2 (fun _ _=>id);generalize w1.alloc (.cells #[.pointer (some ⟨mb,0,none⟩)] 211)=W0 at bM e1 e0 e4 d7 f9 d5;have j4:=d8.out.lt;clear bo ba e3 a0 f2;have g9:=Z d5;have c8:Hid ((g.map Zq).length<1000000000):=by show _<_;rw[Y.out.1];have:=Y.out.2.1;omega
 clear c2 d5
 gi_wp2_with fail
 refine XR rfl (by decide) (gf:=187) (lb:=#[.pointer (some ⟨w1.heap.size,0,none⟩)]) rfl trivial (EX Tryz.func187 (by kernel_rfl) rfl)
  (g.map Zq).length (T6 (g.map Zq)) (fun _=>rfl) (SpI w v (g.map Zq) g) (Jz w v (g.map Zq) g _ (by omega))
  ⟨_,_,⟨e1,e0,IX W0 _ _ _,IX W0 _ _ _⟩,⟨fun k hk=>by simp[Value.ownBlock] at hk,fun k hk=>by simp[Value.ownBlock] at hk⟩,e4,g9.out⟩
  (fun k J W hW hJ hI hY h0=>Pg Fence.wide 7 trivial rfl (by decide) k w1.heap.size mb v (g.map Zq) J W (by have:=c8.out;omega) hJ (fun i W1 h=>by obtain⟨_,_,_,_,_,h⟩:=hI i W1 h;exact h) hY ((hW.cell (p:=⟨w1.heap.size,0,none⟩) (by simp only;omega)).trans bM.cell) ((hW.cell (p:=⟨mb,0,none⟩) (by simp only;omega)).trans (d7.out.cell 0)) h0)
  (fun i=>{tmps:=#[.pointer (some ⟨b,0,none⟩),undef,.slice none 0 0,.pointer (some ⟨w.heap.size,0,none⟩),.pointer (some ⟨w.heap.size+1,0,none⟩),undef,.string (ZZ (g.map Zq) i).2,.pointer (some ⟨b,0,none⟩),.pointer (some ⟨mb,0,none⟩),.func (.func 187) #[] #[.pointer (some ⟨w1.heap.size,0,none⟩)],.int .i64 (ZZ (g.map Zq) i).1,.string (ZZ (g.map Zq) i).2,undef,undef,undef,undef,undef,undef,undef,undef,undef,undef,undef,undef,undef,undef,undef,undef,undef],defers:=[]}) ?assign ?body ?done
 case assign =>
  intro l x W K hK;unfold T6
  gi_wp2
  exact hK
 case body =>
  rintro q i W hi ⟨G,va,⟨r,o,V,ra⟩,⟨ap,an⟩,hF,a4⟩;have f0:i<g.length:=by have:=Y.out.1;omega
  obtain⟨b3,he⟩:=Y.out.2.2 i f0;have a1:=Ns (g.take i);have d3:(g.take i).length<=i:=List.length_take_le _ _;have j0:i<1000000000:=Cz hi c8.out;have d9:=Z (HN.out _ b3 W hF);have c9:=Z (fun k n (e:g[i]=(k,n))=>g8.out k n (e▸b3));have b8:Hid (spK (g.take (i+1))=YB (spK (g.take i)) g[i]):=by
   show _=_;rw[<- KO]
   congr 1
   rw[FI,IB f0]
   rfl
  rw[he];rcases hs0:spK (g.take i) with⟨O,A⟩;rw[hs0] at V ra b8 a1;simp only at V ra a1;rcases hk0:g[i] with⟨k,n⟩;rw[hk0] at d9 c9 b8;have g7:=Z (c9.out k n rfl);clear he b3 hs0 hk0 c9;have h7:O.length<1000000000:=by omega
  have j1:A.length<1000000000:=by omega
  have c1:Hid (∀ b7 a5 O' A' W',YB (O,A) (k,n)=(O',A')->Fr (fun k=>G.ownBlock=some k\/va.ownBlock=some k\/k=w.heap.size\/k=w.heap.size+1) W W'->Blk W' w.heap.size [b7] 91->Blk W' (w.heap.size+1) [a5] 91->W'.ownsRow 0 9 1 b7 O'.length (strs O')->W'.ownsRow 0 9 1 a5 A'.length (strs A') ->
   (∀ k,b7.ownBlock=some k->(w.heap.size<=k/\a5.ownBlock≠some k))->(∀ k,a5.ownBlock=some k->w.heap.size<=k)->KeepsOthers W W'/\SpI w v (g.map Zq) g (i+1) W'):=fun b7 a5 O' A' W' g0 f b1 b2 r1 r2 s1 s2=>by
   refine⟨KeepsOthers.yY f (fun j d=>?_),b7,a5,⟨b1,b2,?_,?_⟩,⟨s1,s2⟩,hF.trans' f (fun j d e=>?_),ze a4 f (fun j d e=>?_)⟩
   .rcases d with e|e|rfl|rfl
    .exact⟨_,zH V e⟩
    .exact⟨_,zH ra e⟩
    .exact⟨_,r.ty⟩
    .exact⟨_,o.ty⟩
   .rw[b8.out,g0];exact r1
   .rw[b8.out,g0];exact r2
   .rcases e with e|e|e|e
    .have:=(ap j e).1;omega
    .have:=an j e;omega
    .omega
    .omega
   .have ht:=zH a4 d
    rcases e with e|e|rfl|rfl
    .exact absurd (ht.inj (zH V e)) (by decide)
    .exact absurd (ht.inj (zH ra e)) (by decide)
    .exact absurd (ht.inj r.ty) (by decide)
    .exact absurd (ht.inj o.ty) (by decide)
  have t:=Z (And.intro r (And.intro o (And.intro V (And.intro ra (And.intro ap (And.intro an (And.intro hF a4)))))));clear r o V ra ap an hF a4 a1 d3;unfold Zq
  gi_wp2_with fail
  refine⟨trivial,?_⟩;refine(Gl.2 d9.out).mono ?_;rintro e W2 ⟨rfl,f2⟩;have bo:=t.out.1.fr f2 id;have ba:=t.out.2.1.fr f2 id;have V:=ze t.out.2.2.1 f2 (fun _ _=>id);have ra:=ze t.out.2.2.2.1 f2 (fun _ _=>id);have f9:=(t.out.2.2.2.2.2.2.1.trans f2).size;have co:=bo.cell 0;have ca:=ba.cell 0;have zo:=bo.frozen 0;have za:=ba.frozen 0;have i3:=bo.lt;have i4:=ba.lt;have i0:va.ownBlock≠some (w.heap.size+1):=fun e=>zi ra ba (by decide) e;have f8:va.ownBlock≠some w.heap.size:=fun e=>zi ra bo (by decide) e;have f1:G.ownBlock≠some (w.heap.size+1):=fun e=>zi V ba (by decide) e;have b4:G.ownBlock≠some w.heap.size:=fun e=>zi V bo (by decide) e;have I:w.heap.size≠w.heap.size+1:=by omega
  cases k with
  | false =>
   simp only[Vk];have fa:Fr Nil W2 (W2.alloc (.cells #[.string (zn false n)] 9)):=(U _ _).alloc _
   gi_wp2_with (gi_at_builtin;go_must (refine XC rfl _ _ _ _ rfl va (.slice (some ⟨W2.heap.size,0,none⟩) 1 1) (by rfl) (by rfl) (zt 91 91 9 1 16 Fu Xe (by decide) va A.length (strs A) (ze ra fa (fun _ _=>id)) ⟨W2.heap.size,0,none⟩ 1 1 [.string (zn false n)] rfl (Yq W2 _ _ _ rfl) (by simp[Value.oneCell']) (by unfold maxLen;omega) (by omega)) ?_;intro v3 w3 a;obtain⟨y,m,rfl⟩:=zg a.own;have f3:Fr (fun k=>va.ownBlock=some k) W2 w3:=(fa.mono (S':=fun k=>va.ownBlock=some k) (fun _ _ e=>absurd e id)).trans a.fr;have o:=ba.fr f3 i0;have r:=bo.fr f3 f8;have c3:=o.cell 0;have z3:=o.frozen 0))
   have f4:Fr (fun k=>G.ownBlock=some k\/va.ownBlock=some k\/k=w.heap.size\/k=w.heap.size+1) W (w3.setCell ⟨w.heap.size+1,0,none⟩ (.slice y (A.length+1) m)) :=
    Fr.set (p:=⟨w.heap.size+1,0,none⟩) ((f2.mono (S':=fun k=>G.ownBlock=some k\/va.ownBlock=some k\/k=w.heap.size\/k=w.heap.size+1) (fun _ _ e=>absurd e id)).trans (f3.mono (fun _ _ e=>.inr (.inl e)))) (fun _=>.inr (.inr (.inr rfl))) _
   have f5:Fr (fun k=>k=w.heap.size+1) w3 (w3.setCell ⟨w.heap.size+1,0,none⟩ (.slice y (A.length+1) m)):=Fr.set (S:=fun k=>k=w.heap.size+1) (p:=⟨w.heap.size+1,0,none⟩) (U _ _) (fun _=>rfl) _;have a2:=ze V f3 (fun j d e=>(t.out.2.2.2.2.1 j d).2 e);have c0:∀ j,(Value.slice y (A.length+1) m).ownBlock=some j->va.ownBlock=some j\/j=W2.heap.size+1:=fun j d=>by
    rcases a.at_ with e|e
    .exact .inl (e▸d)
    .rw[e] at d;simp at d;exact .inr (by omega)
   have R:=c1.out G (.slice y (A.length+1) m) O (A++[zn false n]) _ rfl f4 (r.fr f5 I) (by simpa using o.set 0 (.slice y (A.length+1) m)) (ze a2 f5 (fun j d e=>f1 (e▸d))) (by have:=ze a.own f5 (fun j d e=>zi a.own o (by decide) (e▸d));simpa [strs] using this) (fun j d=>⟨(t.out.2.2.2.2.1 j d).1,fun e=>by
    rcases c0 j e with e|e
    .exact(t.out.2.2.2.2.1 j d).2 e
    .have:=(zH V d).lt;omega⟩) (fun j d=>by
    rcases c0 j d with e|e
    .exact t.out.2.2.2.2.2.1 j e
    .omega)
   exact⟨R.1,trivial,R.2⟩
  | true =>
   have i6:(0:Int)<n:=by have:=g7.out;omega
   simp only[Vk];have i8:O.length+A.length<2000000000:=by omega
   gi_wp2_with (gi_at_builtin;go_must (first
    | (refine XC rfl _ _ _ _ rfl (.slice none 0 0) (.slice (some ⟨w3.heap.size,0,none⟩) 1 1) (by rfl) (by rfl) (zt 91 91 9 1 16 Fu Xe (by decide) (.slice none 0 0) 0 [] (IX _ _ _ _) ⟨w3.heap.size,0,none⟩ 1 1 [.string (zn true n)] rfl (Yq _ _ _ _ (by simp)) (by simp[Value.oneCell']) (by unfold maxLen;omega) (by omega)) ?_;intro v5 X B;obtain⟨N,u,rfl⟩:=zg B.own;have f5:Fr Nil _ X:=((U _ _).alloc _).trans (B.fr.mono (fun _ _ e=>by simp[Value.ownBlock] at e));have h3:=h2.fr f5 id;have b9:=h1.fr f5 id;have c5:=b9.cell 0;have z5:=b9.frozen 0)
    | (refine XC rfl _ _ _ _ rfl G va (by rfl) (by rfl) (Xu 91 91 9 1 16 Fu Xe (by decide) G O.length (strs O) V va A.length (strs A) ra (Kw A) (by unfold maxLen;omega) (by omega)) ?_;intro v3 w3 a;obtain⟨y,m,rfl⟩:=zg a.own;have f3:=a.fr;have o:=ba.fr f3 f1;have r:=bo.fr f3 b4;have c3:=r.cell 0;have z3:=r.frozen 0;have i7:=o.cell 0;have j9:=o.frozen 0;have h2:=(r.set 0 (.slice y (O.length+A.length) m)).AE (b':=w.heap.size+1) I 0 (.slice none 0 0);have h1:=(o.AE (b':=w.heap.size) (Da I) 0 (.slice y (O.length+A.length) m)).set 0 (.slice none 0 0))))
   have a2:=a.own;have c0:∀ j,(Value.slice y (O.length+A.length) m).ownBlock=some j->G.ownBlock=some j\/j=W2.heap.size:=fun j d=>by
    rcases a.at_ with e|e
    .exact .inl (e▸d)
    .rw[e] at d;simp at d;exact .inr d.symm
   have j6:=f3.size;have g1:∀ j,(Value.slice N (0+1) u).ownBlock=some j->w3.heap.size<=j:=fun j d=>by
    rcases B.at_ with e|e
    .rw[e] at d;simp[Value.ownBlock] at d
    .rw[e] at d;simp at d;omega
   have f4:Fr (fun k=>k=w.heap.size\/k=w.heap.size+1) w3 ((w3.setCell ⟨w.heap.size,0,none⟩ (.slice y (O.length+A.length) m)).setCell ⟨w.heap.size+1,0,none⟩ (.slice none 0 0)) :=
    Fr.set (p:=⟨w.heap.size+1,0,none⟩) (Fr.set (p:=⟨w.heap.size,0,none⟩) (U _ _) (fun _=>.inl rfl) _) (fun _=>.inr rfl) _
   have f6:Fr (fun k=>k=w.heap.size+1) X (X.setCell ⟨w.heap.size+1,0,none⟩ (.slice N (0+1) u)):=Fr.set (S:=fun k=>k=w.heap.size+1) (p:=⟨w.heap.size+1,0,none⟩) (U _ _) (fun _=>rfl) _;have fA:Fr (fun k=>G.ownBlock=some k\/va.ownBlock=some k\/k=w.heap.size\/k=w.heap.size+1) W (X.setCell ⟨w.heap.size+1,0,none⟩ (.slice N (0+1) u)) :=
    (((f2.mono (S':=fun k=>G.ownBlock=some k\/va.ownBlock=some k\/k=w.heap.size\/k=w.heap.size+1) (fun _ _ e=>absurd e id)).trans (f3.mono (fun _ _ e=>.inl e))).trans ((f4.mono (fun _ _ e=>.inr (.inr e))).trans (f5.mono (fun _ _ e=>absurd e id)))).trans (f6.mono (fun _ _ e=>.inr (.inr (.inr e))))
   have r3:(X.setCell ⟨w.heap.size+1,0,none⟩ (.slice N (0+1) u)).ownsRow 0 9 1 (.slice y (O.length+A.length) m) (O.length+A.length) (strs O++strs A):=by
    refine ze (ze (ze a2 f4 (fun j d e=>?_)) f5 (fun _ _=>id)) f6 (fun j d e=>?_)
    .rcases e with rfl|rfl
     .exact zi a2 r (by decide) d
     .exact zi a2 o (by decide) d
    .subst e
     exact zi a2 o (by decide) d
   have r5:(X.setCell ⟨w.heap.size+1,0,none⟩ (.slice N (0+1) u)).ownsRow 0 9 1 (.slice N (0+1) u) 1 (strs [zn true n]):=by
    have:=ze B.own f6 (fun j d e=>zi B.own b9 (by decide) (e▸d))
    simpa [strs] using this
   have R:=c1.out (.slice y (O.length+A.length) m) (.slice N (0+1) u) (O++A) [zn true n] _ rfl fA (by simpa using h3.fr f6 I) (by simpa using b9.set 0 (.slice N (0+1) u)) (by rw[Il];simpa [strs] using r3) r5 (fun j d=>?_) (fun j d=>by have:=g1 j d;omega)
   .exact⟨R.1,trivial,R.2⟩
   .have hj3:j<w3.heap.size:=(zH a2 d).lt
    refine⟨?_,fun e=>by have:=g1 j e;omega⟩;rcases c0 j d with e|e
    .exact(t.out.2.2.2.2.1 j e).1
    .omega
 case done =>
  rintro D W hD ⟨G,va,⟨r,o,V,ra⟩,⟨ap,an⟩,hF,a4⟩ hK;have hc:=r.cell 0;have hz:=r.frozen 0;rw[Y.out.1,ID] at V ra;have h8:=Ns g;have j2:=Y.out.2.1;have i9:=c8.out;have g5:=Z (HL.out W hF);have t:=Z (And.intro r (And.intro V (And.intro (fun j d=>(ap j d).1:∀ j,G.ownBlock=some j->w.heap.size<=j) (And.intro hF hK))));clear r o V ra ap an hF a4
  gi_wp2_with fail
  refine⟨trivial,?_⟩;refine(Gl.2 g5.out).mono ?_;rintro e w4 ⟨v4,rfl,c4,hf,_⟩;have HC:=Z (TL v4 _ ⟨#[110,101,119]⟩ w4 (by rw[IE];exact c4));have d0:=t.out.1.fr hf id;have e8:=d0.cell 0;have g2:=d0.frozen 0;have C:=Z hf;clear c4 hf hc hz d0;have a9:(T.map ZJ).any (·==⟨#[110,101,119]⟩)=decide (none∈T):=by
   rw[CK,Do,decide_eq_true_iff]
   constructor
   .rintro⟨x,hx,he⟩
    obtain⟨c,hc,rfl⟩:=Iy.1 hx;cases c with
    | none=>exact hc
    | some e=>exact absurd (Z4.1 he) (X8 e.1 e.2)
   .intro hn
    exact⟨zf,Iy.2 ⟨none,hn,rfl⟩,by rw[Z4];rfl⟩
  rw[a9] at HC;by_cases hn:none∈T
  .rw[fFS hn] at HC
   have g6:=Z hn;clear hn a9
   gi_wp2_with fail
   refine⟨trivial,?_⟩;refine(Gl.2 HC.out).mono ?_;rintro e X ⟨rfl,hf⟩;have E:=(t.out.1.fr C.out id).fr hf id;have h6:=E.cell 0;have i2:=E.frozen 0;have F5:=t.out.2.2.2.1.trans (C.out.trans hf);have a8:=(hf.block D (by have:=(Hr.1 t.out.2.2.2.2).1;have:=C.out.size;omega) id).trans ((C.out.block D (Hr.1 t.out.2.2.2.2).1 id).trans t.out.2.2.2.2);have a3:=ze (ze t.out.2.1 C.out (fun _ _=>id)) hf (fun _ _=>id);have s:=Z (And.intro F5 (And.intro a8 (And.intro a3 E)));have h7:(spK g).1.length<1000000000:=by have:=Y.out.1;omega
   have b4:G.ownBlock≠some w.heap.size:=fun e=>zi a3 E (by decide) e;have i5:=E.lt;have fa:Fr Nil X (X.alloc (.cells #[.string zf] 9)):=(U _ _).alloc _;clear hf F5 a8 E e8 g2;unfold zf at fa
   gi_wp2_with (gi_at_builtin;go_must (refine XC rfl _ _ _ _ rfl G (.slice (some ⟨X.heap.size,0,none⟩) 1 1) (by rfl) (by rfl) (zt 91 91 9 1 16 Fu Xe (by decide) G (spK g).1.length (strs (spK g).1) (ze a3 fa (fun _ _=>id)) ⟨X.heap.size,0,none⟩ 1 1 [.string ⟨#[110,101,119]⟩] rfl (Yq X _ _ _ rfl) (by simp[Value.oneCell']) (by unfold maxLen;omega) (by omega)) ?_;intro v6 w6 a;obtain⟨a7,Q,rfl⟩:=zg a.own;have f6:Fr (fun k=>G.ownBlock=some k) X w6:=(fa.mono (S':=fun k=>G.ownBlock=some k) (fun _ _ e=>absurd e id)).trans a.fr;have b6:=s.out.2.2.2.fr f6 b4;have c6:=b6.cell 0;have z6:=b6.frozen 0))
   have f7:Fr (fun k=>k=w.heap.size) w6 (w6.setCell ⟨w.heap.size,0,none⟩ (.slice a7 ((spK g).1.length+1) Q)):=Fr.set (S:=fun k=>k=w.heap.size) (p:=⟨w.heap.size,0,none⟩) (U _ _) (fun _=>rfl) _;have h4:D≠w.heap.size:=by omega
   have i1:G.ownBlock≠some D:=fun e=>by
    have:=(zH a3 e).odd (S:=fun k=>k=D) (fun k e=>by subst e;exact⟨_,s.out.2.1,rfl⟩);exact this rfl
   have e5:=(f7.block D (by have:=(Hr.1 s.out.2.1).1;have:=f6.size;omega) h4).trans ((f6.block D (Hr.1 s.out.2.1).1 i1).trans s.out.2.1);have g3:=ze a.own f7 (fun j d e=>zi a.own b6 (by decide) (e▸d));have F7:Fr Nil w (w6.setCell ⟨w.heap.size,0,none⟩ (.slice a7 ((spK g).1.length+1) Q)):=(s.out.1.trans' f6 (fun j d e=>by have:=t.out.2.2.1 j e;omega)).trans' f7 (fun j d e=>by omega);have h5:=a.at_;have j7:=s.out.1.size;have e7:=b6.set 0 (.slice a7 ((spK g).1.length+1) Q);have c7:=e7.cell 0;have a6:=Z (And.intro e5 (And.intro g3 F7));clear e5 g3 F7 f7 f6 a b6 c6 z6 e7
   gi_wp2_with fail
   refine⟨by simp,.inl ⟨_,_,rfl,EL a6.out.1,?_⟩⟩;have fP:=Fr.BI (Dz (w6.setCell ⟨w.heap.size,0,none⟩ (.slice a7 ((spK g).1.length+1) Q)) D (.deferred none));have d4:Odd (fun k=>some D=some k) (w6.setCell ⟨w.heap.size,0,none⟩ (.slice a7 ((spK g).1.length+1) Q)):=fun k e=>by cases e;exact⟨_,a6.out.1,rfl⟩
   refine⟨_,CR rfl _ _ _,_,rfl,g,d6.out,?_,a6.out.2.2.trans' fP (fun k hk e=>by cases e;omega),fun j d=>?_⟩
   .have:=ze a6.out.2.1 fP (fun k hk=>(zH a6.out.2.1 hk).odd d4)
    simpa [strs,zf] using this
   .rcases h5 with e|e
    .exact t.out.2.2.1 j (e.symm.trans d)
    .have hj2:=e.symm.trans d
     simp at hj2;omega
  .rw[Gu hn] at HC
   have g6:=Z hn;clear hn a9
   gi_wp2_with fail
   refine⟨trivial,?_⟩;refine(Gl.2 HC.out).mono ?_;rintro e X ⟨rfl,hf⟩;have E:=(t.out.1.fr C.out id).fr hf id;have h6:=E.cell 0;have i2:=E.frozen 0;have F5:=t.out.2.2.2.1.trans (C.out.trans hf);have a8:=(hf.block D (by have:=(Hr.1 t.out.2.2.2.2).1;have:=C.out.size;omega) id).trans ((C.out.block D (Hr.1 t.out.2.2.2.2).1 id).trans t.out.2.2.2.2);have a3:=ze (ze t.out.2.1 C.out (fun _ _=>id)) hf (fun _ _=>id);have s:=Z (And.intro F5 (And.intro a8 a3));clear hf F5 a8 a3 E e8 g2
   gi_wp2_with fail
   refine⟨by simp,.inl ⟨_,_,rfl,EL s.out.2.1,?_⟩⟩;have fP:=Fr.BI (Dz X D (.deferred none));have d4:Odd (fun k=>some D=some k) X:=fun k e=>by cases e;exact⟨_,s.out.2.1,rfl⟩
   refine⟨_,CR rfl _ _ _,G,rfl,g,d6.out,?_,s.out.1.trans' fP (fun k hk e=>by cases e;omega),t.out.2.2.1⟩;exact ze s.out.2.2 fP (fun k hk=>(zH s.out.2.2 hk).odd d4)
end Go.Proofs.YtkhnggkkiefcdaaGreatDoor
namespace Go.Proofs.YtkhnggkkiefcdaaGreatDoor
open Go.RowKit
set_option maxRecDepth 100000
set_option maxHeartbeats 8000000
def DM.BO:List ByteArray->DM->Option Int × DM
 | [],M=>(none,M)
 | n::l,M=>if (M.remove n).1=0 then DM.BO l (M.remove n).2 else(zE (M.remove n).1,(M.remove n).2)
theorem OE(M:DM):M.Bg.2.2.dir=M.dir/\M.Bg.2.2.Bl=M.Bl:=by
 unfold DM.Bg;simp only;split
 .exact⟨rfl,rfl⟩
 .split
  .exact⟨rfl,rfl⟩
  .split <;> exact⟨rfl,rfl⟩
theorem My(M:DM)(n:ByteArray):(M.remove n).2.Bl.length<=M.Bl.length+1/\(M.remove n).2.dir.length<=M.dir.length:=by
 obtain⟨a,b⟩:=OE M;unfold DM.remove;split
 .exact⟨GA _,Io _⟩
 .rename_i k _
  simp only;split
  .simp only[DM.Bu,a,b,Il,Ip,Iw,Ix]
   omega
  .rw[a,b]
   omega
theorem LT(b:Nat)(L:DL)(M:DM)(l:List ByteArray)(w:World)(h:DRep w b L M)(s:M.Bl.length+l.length+1<=1000000000000)(u:M.dir.length+1<=1000000000000)
 (S:Calls Tryz.prog 183 #[.pointer (some ⟨b,0,none⟩)] w fun e x=>∃ v,e=.returned v/\x.ownsRow 0 9 1 v l.length (strs l)/\Fr Nil w x) :
 Calls Tryz.prog 144 #[.pointer (some ⟨b,0,none⟩)] w fun e x=>∃ v L',e=.returned v/\ERep x v (M.BO l).1/\DStep b L M w L' (M.BO l).2 x:=by
 have HC:=Z S;have HD:=Z h;clear S h;go_enter Tryz.func144,Tryz.ntmps144;go_wp2_with fail;refine HC.out.mono ?_;rintro e w1 ⟨v0,rfl,f,hf⟩;obtain⟨a,c,rfl⟩:=zg f;have X:=Z (DStep.look HD.out hf);have a2:l.length<1000000000000:=by omega
 have E:=Z (And.intro s u);clear hf HC s u
 go_wp2
 go_loopw [9] (fun t x=>∃ (i:Nat) (T:DL) (j:DM),i<=l.length/\t=.int .i64 (i:Int)/\DStep b L M w T j x/\M.BO l=j.BO (l.drop i)/\j.Bl.length<=M.Bl.length+i/\j.dir.length<=M.dir.length/\x.ownsRow 0 9 1 (.slice a l.length c) l.length (strs l)) (fun t _=>(l.length-intOf t).toNat)
 case atStart=>exact⟨0,L,M,II _,rfl,X.out,rfl,Io _,Io _,f⟩
 case round =>
  obtain⟨i,T,j,hi,rfl,p,d,A,B,f⟩:=hrel;by_cases O:i<l.length
  .obtain⟨g,cap',hg,_,_⟩:=zv f (by omega)
   obtain⟨rfl,rfl⟩:a=some ⟨g,0,none⟩/\c=cap':=by simpa using hg
   have hc:=own_cell? f i (.string l[i]) (by simp[strs,O]);rw[Hs O] at d;have m:=Z (And.intro p (And.intro d (And.intro A (And.intro B f))));have R:=My j l[i];have y:=Z R;have G:=Z (Qx l[i] wr b T j p.Bt (by have:=E.out;omega) (by have:=E.out;omega));clear p d A B f R;generalize l[i]=q at hc m G y;go_wp2_with fail;refine G.out.mono ?_;rintro e w2 ⟨rfl,L2,C⟩;have I:=Z C;have Q:=ze m.out.2.2.2.2 C.fr (fun k hk=>m.out.1.Bt.apart (zH m.out.2.2.2.2 hk) (by unfold DTy;decide));have a1:=Z Q;clear C Q hc;by_cases D:(j.remove q).1=0
   .have d:=m.out.2.1.trans (show DM.BO (q::l.drop (i+1)) j=DM.BO (l.drop (i+1)) (j.remove q).2 by rw[DM.BO,IC D])
    have o:=Z d;rw[D];clear d D;go_wp2_with fail;exact⟨⟨i+1,L2,(j.remove q).2,by omega,by go_num,m.out.1.trans I.out,o.out,by have:=y.out.1;have:=m.out.2.2.1;omega,by have:=y.out.2;have:=m.out.2.2.2.1;omega,a1.out⟩,by simp[intOf];omega⟩
   .have hq:((j.remove q).1==0)=false:=by simpa using D
    have d:=m.out.2.1;rw[show DM.BO (q::l.drop (i+1)) j=(zE (j.remove q).1,(j.remove q).2) by rw[DM.BO,It D]] at d;have o:=Z d;clear d D;generalize (j.remove q).1=r at hq o;go_wp2_with fail;refine(Ye _ _ _ _).mono ?_;rintro e w3 ⟨v3,rfl,hE,K⟩;have HE:=Z hE;have Y:=Z K;clear hE K;go_wp2_with fail;refine(zz _ _ _ w3 HE.out).mono ?_;rintro e w4 ⟨v4,rfl,J,N⟩;have V:=Z J;have a0:=Z N;clear J N;go_wp2_with fail;go_ret;exact⟨v4,L2,rfl,by rw[o.out];exact V.out,by rw[o.out];exact(m.out.1.trans I.out).Bn (Y.out.trans a0.out)⟩
  .have hil:i=l.length:=by omega
   subst hil;rw[EM] at d;have m:=Z (And.intro p d);clear p d A B f;go_wp2_with fail;go_ret;exact⟨.nilIface,T,rfl,by rw[m.out.2];rfl,by rw[m.out.2];exact m.out.1⟩
end Go.Proofs.YtkhnggkkiefcdaaGreatDoor
