/- larder: joined texts -/
import Derived.Test.YtkhnggkkiefcdaaGreatDoorKRAA
import Derived.Test.YtkhnggkkiefcdaaGreatDoorKRAE
import Derived.Test.YtkhnggkkiefcdaaGreatDoorKRAG
import Derived.Test.YtkhnggkkiefcdaaGreatDoorKRAH
import Derived.Test.YtkhnggkkiefcdaaGreatDoorKRAI
import Derived.Test.YtkhnggkkiefcdaaGreatDoorKRAJ
import Derived.Test.YtkhnggkkiefcdaaGreatDoorKRAK
import Derived.Lib.AtoiErrMem
import Derived.Lib.IfaceEq
import Derived.RangeFuncNested
import Derived.RangeFuncBound
import Derived.RangeFuncCalls
import Derived.RangeFuncLeaves
import Derived.Shelf.Abstract
import Derived.Shelf.RegionOpen
import Derived.WalkKit
import Derived.OwnWalkIn
import Derived.TacticsInMore
import Derived.LoopNIn
import Derived.LoopIn
import Derived.Test.YtkhnggkkiefcdaaGreatDoorChecked
namespace Go.Proofs.YtkhnggkkiefcdaaGreatDoor
open Go.RowKit
set_option maxRecDepth 100000
set_option maxHeartbeats 8000000
theorem VF:∀(l r:List UInt8)(c:Nat),Lib.decFrom c (l++r)=(Lib.decFrom c l).bind fun a=>Lib.decFrom a r
 | [],_,_=>rfl
 | b::l,r,c=>by
  simp only[GC,Lib.decFrom];cases Lib.digitVal b with
  | none=>rfl
  | some d=>exact VF l r _
theorem Th(d:Nat)(h:d<10):Lib.digitVal (UInt8.ofNat (48+d))=some d:=by
 have e:(UInt8.ofNat (48+d)).toNat=48+d:=by simp;omega
 unfold Lib.digitVal;rw[e,GA (by omega)]
 congr 1
 omega
theorem Ra(n:Nat):Lib.decFrom 0 (Lib.decDigits n)=some n:=by
 induction n using Nat.strongRecOn with
 | ind n a =>
  rw[Lib.decDigits];by_cases h:n<10
  .rw[Am h]
   simp only[Lib.decFrom,Th n h]
   congr 1
   omega
  .rw[dif_neg h,VF,a (n / 10) (by omega)]
   simp only[CE,Lib.decFrom,Th (n%10) (by omega)]
   congr 1
   omega
theorem OE(n:Nat):∃ b r,Lib.decDigits n=b::r/\48<=b.toNat/\b.toNat<=57:=by
 induction n using Nat.strongRecOn with
 | ind n d =>
  rw[Lib.decDigits];by_cases h:n<10
  .rw[Am h]
   have e:(UInt8.ofNat (48+n)).toNat=48+n:=by simp;omega
   exact⟨_,[],rfl,by rw[e];omega,by rw[e];omega⟩
  .rw[dif_neg h]
   obtain⟨b,r,e,a,c⟩:=d (n / 10) (by omega);rw[e];exact⟨b,_,rfl,a,c⟩
theorem WD:∀(k n:Nat),n<10^(k+1)->(Lib.decDigits n).length<=k+1
 | 0,n,h=>by rw[Lib.decDigits,Am (by simpa using h)];simp
 | k+1,n,h=>by
  rw[Lib.decDigits];by_cases a:n<10
  .rw[Am a];simp
  .rw[dif_neg a]
   have:=WD k (n / 10) (by rw[Ar] at h;omega);simp;omega
theorem OG(n:Nat):Lib.atoi (Lib.decDigits n)=some (n:Int):=by
 have c:=Ra n;obtain⟨b,r,e,a,g⟩:=OE n;rw[e] at c |-;have d:(b==45)=false:=by
  rw[Fl];rintro rfl;simp at a
 have f:(b==43)=false:=by
  rw[Fl];rintro rfl;simp at a
 simp only[Lib.atoi,d,f,Lib.decNat,List.isEmpty_cons,c]
 rfl
theorem WE(n:Nat):(Za n).data.toList=Lib.decDigits n:=by
 simp[Za,Lib.itoa]
theorem Sm(s p:ByteArray)(w:World) :
 Calls Tryz.prog 221 #[.string s,.string p] w fun e a=>e=.returned (.string ⟨(Lib.trimPrefix s.data.toList p.data.toList).toArray⟩)/\a=w:=Any.strings_TrimPrefix Tryz.wT s p w
theorem KI(s:ByteArray)(n:Int)(b:s.size<=18)(h:Lib.atoi s.data.toList=some n)(w:World) :
 Calls Tryz.prog 220 #[.string s] w fun e a=>e=.returned (.tuple #[.int .i64 n,.nilIface])/\Fr Nil w a:=by
 refine Ap (show Calls Tryz.prog 220 #[.string s] w _ from Any.strconv_Atoi Tryz.wV s n b h w) ?_;rintro e a ⟨rfl,t,rfl⟩;exact⟨rfl,Fr.yC (Lib.bytesWorld_below _ _ _)⟩
theorem JU(c:ByteArray)(n:Nat):Lib.trimPrefix (zx c n).data.toList c.data.toList=Lib.decDigits n:=by
 have e:(zx c n).data.toList=c.data.toList++Lib.decDigits n:=by
  simp only[zx,ER,EP,WE]
 have d:∀ (a b:List UInt8),Lib.hasPrefix (a++b) a=true:=by
  intro a b;unfold Lib.hasPrefix;simp
 unfold Lib.trimPrefix;rw[e,d];simp
theorem UH(a:ByteArray)(b:a.size<=1000)(n:Nat)(u:1<=n)(p:n<10^18)(w:World)(q:∀ i,Fr Nil w i->Tab i) :
 Calls Tryz.prog 185 #[.string a,.string (zx a n)] w fun e i=>e=.returned (.int .i64 n)/\Fr Nil w i:=by
 have t:n<1000000000000000000:=p;have h:=Z (Sm (zx a n) a w);rw[JU] at h;have o:(⟨(Lib.decDigits n).toArray⟩:ByteArray).size<=18:=WD 17 n p;have l:=Z (fun g=>KI ⟨(Lib.decDigits n).toArray⟩ n o (by simpa using OG n) g);have m:=Z (fun g (f:Fr Nil w g)=>WQ a b n (by omega) g (q g f));have r:¬(n:Int)<1:=by omega
 clear o q;generalize zx a n=s at h m |-;generalize (⟨(Lib.decDigits n).toArray⟩:ByteArray)=d at h l;go_enter Tryz.func185,Tryz.ntmps185;go_wp2_with fail;refine h.out.mono ?_;rintro e v ⟨rfl,k⟩;subst k;go_wp2_with fail;refine(l.out _).mono ?_;rintro e x ⟨rfl,c⟩;go_wp2_with fail;refine(m.out _ c).mono ?_;rintro e y ⟨rfl,j⟩;go_wp2_with fail;go_ret;exact⟨rfl,c.trans j⟩
def Yn(w:World):Prop:=4<w.heap.size/\∃ b a,w.cell? ⟨4,0,none⟩=some (.iface b a)
theorem Yn.fr{w w':World}{S:Nat->Prop}(h:Yn w)(f:Fr S w w')(e:¬S 4):Yn w':=by
 obtain⟨a,o,g,c⟩:=h;exact⟨Ff a f.size,o,g,(f.cell (p:=⟨4,0,none⟩) a e).trans c⟩
theorem T9(c s:ByteArray)(u:s.size<=1000000000)(w:World)(d:Yn w) :
 Calls Tryz.prog 246 #[.string c,.string s] w fun e g=>∃ k,e=.returned (.pointer (some ⟨k,0,none⟩))/\Fr Nil w g:=by
 have l:=Z (fun a (f:Fr Nil w a)=>show Calls Tryz.prog 125 #[.string s] a fun e g=>e=.returned (.string s)/\Fr Nil w g from
  (AnyPu.stringslite_Clone Tryz.xy s a (by omega)).mono fun e g ⟨r,o⟩=>⟨r,f.trans (Fr.yC o)⟩)
 obtain⟨t,j,i,b⟩:=d;have m:Hid (∀ a,Fr Nil w a->a.cell? ⟨4,0,none⟩=some (.iface j i)):=fun a f=>(f.cell (p:=⟨4,0,none⟩) t id).trans b;go_enter Tryz.func246,Tryz.ntmps246;go_wp2_with fail
 go_region_held3 (fun a=>a.cell? ⟨4,0,none⟩=some (.iface j i)) (first|assumption|go_keep) (first|(go_at_call 125;refine(l.out _ zd).mono ?_;rintro e v ⟨rfl,h⟩;have q:=m.out _ h))
 all_goals
  go_wp2
  go_ret;exact⟨_,rfl,zd⟩
theorem Qr(c s:ByteArray)(l:s.size<=1000000000)(w:World)(a:Yn w)(T:TypeId)(g:T=Tryz.yX.t 167) :
 Calls Tryz.prog 236 #[.string c,.string s,.int .i64 0,.int .i64 0,.iface T (.int .i64 2)] w fun e m=>∃ k,e=.returned (.iface 336 (.pointer (some ⟨k,0,none⟩)))/\Fr Nil w m:=by
 have b:T=333:=by rw[g];rfl
 subst b;clear g;have i:=Z (fun h (f:Fr Nil w h)=>T9 c s l h (a.fr f id));have j:∀ W,(binOp .eql 132 (.iface 333 (.int .i64 2)) (.iface 333 (.int .i64 2))).run Tryz.prog W=.ok (.bool true) W:=fun W=>Lib.run_eql_iface_int W 2 2 Tryz.underlying132 (by kernel_rfl) Tryz.underlying333;go_enter Tryz.func236,Tryz.ntmps236;go_wp2_with fail;refine(i.out w (U _ _)).mono ?_;rintro e o ⟨k,rfl,d⟩;go_wp2_with fail;go_ret;exact⟨k,rfl,d⟩
theorem KJ(s:ByteArray)(l:s.size<=18)(h:Lib.atoi s.data.toList=none)(w:World)(a:Yn w) :
 Calls Tryz.prog 220 #[.string s] w fun e c=>∃ k,e=.returned (.tuple #[.int .i64 0,.iface 336 (.pointer (some ⟨k,0,none⟩))])/\Fr Nil w c:=by
 have j:Hid (Calls Tryz.prog 235 #[.string s] w fun e c=>e=.returned (.tuple #[.int .i64 0,.iface 333 (.int .i64 2)])/\Fr Nil w c):=by
  refine Ap (show Calls Tryz.prog 235 #[.string s] w _ from Any.internal_strconv_Atoi_fail Tryz.wU s l h w) ?_;rintro e c ⟨rfl,rfl|⟨t,rfl⟩⟩
  .exact⟨rfl,U _ _⟩
  .exact⟨rfl,Fr.yC (Lib.bytesWorld_below _ _ _)⟩
 have i:=Z (fun g (f:Fr Nil w g)=>Qr ⟨#[65,116,111,105]⟩ s (by omega) g (a.fr f id) 333 rfl);clear a h;go_enter Tryz.func220,Tryz.ntmps220;go_wp2_with fail;refine j.out.mono ?_;rintro e m ⟨rfl,b⟩;go_wp2_with fail;refine(i.out m b).mono ?_;rintro e o ⟨k,rfl,d⟩;go_wp2_with fail;go_ret2;exact⟨k,rfl,b.trans d⟩
theorem Xc(b a:ByteArray)(j:Lib.hasPrefix a.data.toList b.data.toList=false)(m:a.size<=18)(h:Lib.atoi a.data.toList=none)(w:World)(c:Yn w) :
 Calls Tryz.prog 185 #[.string b,.string a] w fun e o=>e=.returned (.int .i64 0)/\Fr Nil w o:=by
 have g:=Z (Sm a b w);have i:(⟨(Lib.trimPrefix a.data.toList b.data.toList).toArray⟩:ByteArray)=a:=by
  unfold Lib.trimPrefix;rw[j]
  apply CK
  simp
 rw[i] at g;have l:=Z (KJ a m h w c);clear i c h j;go_enter Tryz.func185,Tryz.ntmps185;go_wp2_with fail;refine g.out.mono ?_;rintro e p ⟨rfl,f⟩;subst f;go_wp2_with fail;refine l.out.mono ?_;rintro e q ⟨k,rfl,d⟩;go_wp2_with fail;go_ret;exact⟨rfl,d⟩
end Go.Proofs.YtkhnggkkiefcdaaGreatDoor
namespace Go.Proofs.YtkhnggkkiefcdaaGreatDoor
open Go.RowKit Go.Shelf
set_option maxRecDepth 100000
set_option maxHeartbeats 8000000
attribute [local go_sem] Et
def Zt(l:List (Nat × ByteArray)):List Value:=l.flatMap fun e=>[.int .i64 e.1,.string e.2]
theorem XL(d:List (Nat × ByteArray)):(Zt d).length=d.length*2:=by
 induction d with
 | nil=>rfl
 | cons e d a=>simp only[Zt,FN,Ga,Gn,GT] at a |-;omega
theorem Xz(d:List (Nat × ByteArray)):∀ (k:Nat)(h:k<d.length),(Zt d)[k*2]?=some (.int .i64 d[k].1)/\(Zt d)[k*2+1]?=some (.string d[k].2):=by
 induction d with
 | nil=>intro k h;simp at h
 | cons e d b =>
  intro k h;cases k with
  | zero=>exact⟨rfl,rfl⟩
  | succ k =>
   have:=b k (by simpa using h);have a:(k+1)*2=k*2+2:=by omega
   simp only[Zt,FN,a] at this |-;exact this
theorem Sn(a:Nat)(w:World) :
 Calls Tryz.prog 146 #[.pointer (some ⟨a,0,none⟩)] w fun e b =>
  e=.returned (.func (.func 187) #[] #[.pointer (some ⟨w.heap.size,0,none⟩)])/\b=w.alloc (.cells #[.pointer (some ⟨a,0,none⟩)] 211):=by
 go_enter Tryz.func146,Tryz.ntmps146
 go_wp2
 go_ret;exact⟨rfl,rfl⟩
end Go.Proofs.YtkhnggkkiefcdaaGreatDoor
namespace Go.Proofs.YtkhnggkkiefcdaaGreatDoor
open Go.RowKit
set_option maxRecDepth 100000
set_option maxHeartbeats 8000000
theorem KK:((Tryz.prog.info? 268).map fun i=>(i.zero.map (·.cells.size),i.size,i.bytes))=some (some 2,2,24):=by kernel_rfl
def TA(w:World)(c:Option Nat)(n i:Nat)(h f:List Value)(e:Ending)(d:World):Prop :=
 ∃ g a,e=.returned (.slice (some ⟨g,0,none⟩) (n+1) a)/\d.ownsRow 0 268 2 (.slice (some ⟨g,0,none⟩) (n+1) a) (n+1) (Y9 2 i h f)/\Fr (fun b=>c=some b) w d/\(c=some g\/w.heap.size<=g)
theorem OH(v:Value)(n:Nat)(d f:List Value)(r:Nat)(w:World)(b:w.ownsRow 0 268 2 v n d)(t:f.length=2)(s:∀ u∈f,u.oneCell'=true)(G:Blk w r f 268)(p:(n+1)*24<=140737488355328) :
 Calls Tryz.prog 223 #[v,.int .i64 n,.slice (some ⟨r,0,none⟩) 1 1] w fun e c=>TA w v.ownBlock n n d f e c:=by
 have q:∀ ty,∃ m c,(Builtin.append_ #[261,261] ty #[v,.slice (some ⟨r,0,none⟩) 1 1]).run Tryz.prog w=.ok m c/\App w v 268 2 (n+1) (d++f) m c:=fun ty =>
  zw (P:=Tryz.prog) 261 ty 268 2 24 EV KK (by omega) v n d b ⟨r,0,none⟩ 1 1 f (by rw[t]) (fun j u E=>by rw[GY,Fh];rw[G.cell];exact E) s (by unfold maxLen;omega) p
 have k:∀ m c,App w v 268 2 (n+1) (d++f) m c->TA w v.ownBlock n n d f (.returned m) c:=by
  rintro m c ⟨y,C,o⟩;obtain⟨g,l,rfl,_,_⟩:=y.form (by omega);refine⟨g,l,rfl,?_,(Fr.ya C).mono (fun i _ h=>h),?_⟩
  .have e1:d.take (n*2)=d:=Gx (by rw[b.1];exact Gb _)
   have A:d.drop (n*2)=[]:=GX (by rw[b.1];exact Gb _);unfold Y9;rw[e1,A,GI];exact y
  .rcases o with o|o
   .left;rw[<- o];rfl
   .right;have:g=w.heap.size:=by simpa [Value.ownBlock] using o
    omega
 have D:=zL b;unfold maxLen at D;obtain⟨a,l,rfl⟩:=zg b;have x:=Z k;clear k b;generalize (Value.slice a n l).ownBlock=I at x |-;go_enter Tryz.func223,Tryz.ntmps223
 go_wp2_with (at_builtin;go_must (refine zI rfl _ _ _ _ rfl _ _ (by rfl) (by rfl) (q _) ?_);rintro m c B)
 all_goals
  go_ret;exact x.out _ _ B
theorem KL(w:World)(k m l i h f:Nat)(a g:Nat)(j c:List Value)(d:Blk w a j 268)(p:Blk w g c 268)(b:a≠g)(o:c.length≠0) :
 (callFunc 240 #[.slice (some ⟨a,k,none⟩) m l,.slice (some ⟨g,i,none⟩) h f]).run Tryz.prog w=.ok (.value (.bool false)) w:=by
 rw[Fx Tryz.func240 (by kernel_rfl) (by kernel_rfl) (by kernel_rfl) (e:=Extern.SlicesOverlaps.overlaps #[261,261] #[4]) (by kernel_rfl),
  Ct w 261 4 268 EV 2 Tryz.sizeOf268 ⟨a,k,none⟩ ⟨g,i,none⟩ m l h f b 268 268 j.length c.length d.shape p.shape o (d.frozen _) (d.frozen _)]
 rfl
theorem Qs(g n d i:Nat)(c l k:List Value)(A:Nat)(w:World)(L:Blk w g c 268)(h:c.length=d*2)(O:c.take (n*2)=l)(X:∀ u∈l,u.oneCell'=true)(hi:i<n)(a:n+1<=d)(I:d<=maxLen)
 (r:k.length=2)(K:∀ u∈k,u.oneCell'=true)(R:Blk w A k 268)(M:A≠g) :
 Calls Tryz.prog 223 #[.slice (some ⟨g,0,none⟩) n d,.int .i64 i,.slice (some ⟨A,0,none⟩) 1 1] w fun e w'=>TA w (some g) n i l k e w':=by
 have Q:=fun va vl vc bo bl bc=>KL w va vl vc bo bl bc A g k c R L M (by omega);have v:l.length=n*2:=by rw[<- O,Gd,h];exact Fi (GM _ (by omega))
 have q:(l.drop (i*2)).length=(n-i)*2:=by rw[Gk,v,CL]
 have J:∀ j u,(l.drop (i*2))[j]?=some u->c[i*2+j]?=some u:=by
  intro j u s;rw[FY] at s;have a0:=(GF.1 s).1;rw[<- O,Fq (by omega)] at s;exact s
 have p:∀ ty B T,(Builtin.copy_ #[261,261] ty #[.slice (some ⟨g,(i+1)*2,none⟩) (n-i) B,.slice (some ⟨g,i*2,none⟩) (n+1-i) T]).run Tryz.prog w.drew=_:=fun ty B T =>
  Zr 261 268 ty 2 EV (by kernel_rfl) g ((i+1)*2) (n-i) B ⟨g,i*2,none⟩ (n+1-i) T c (l.drop (i*2)) 268 L
   (by rw[q];congr 1;simp only[EW];split <;> omega) (fun j u s=>by rw[GY,show w.drew.cell? ⟨g,i*2+j,none⟩=c[i*2+j]? from L.drew.cell _];exact J j u s)
   (by rw[q,h];have:=GM 2 a;have e:(i+1)*2+(n-i)*2=(n+1)*2:=(by rw[<- Ed];congr 1;omega);omega)
   (fun u s=>X u (GB s))
 obtain⟨f,m⟩:∃ f,f=c.take ((i+1)*2)++l.drop (i*2)++c.drop ((i+1)*2+(l.drop (i*2)).length):=⟨_,rfl⟩;rw[<- m] at p;have t:Blk (w.drew.setRow g f.toArray) g f 268:=L.drew.setRow f;have D:Blk (w.drew.setRow g f.toArray) A k 268:=R.drew.of_heap (Dv _ g A _ M);have o:f.length=d*2:=by
  have:=GM 2 a;have e:(i+1)*2+(n-i)*2=(n+1)*2:=by rw[<- Ed];congr 1;omega
  rw[m];simp only[Ga,Gd,Gk,v,h];omega
 have C:Fr (fun b=>some g=some b) w (w.drew.setRow g f.toArray):=Fr.setRow (S:=fun b=>some g=some b) ((U _ w).drew) (fun _=>rfl) _;obtain⟨N,E⟩:∃ N,N=w.drew.setRow g f.toArray:=⟨_,rfl⟩;rw[<- E] at p t D C;clear E;have x:∀ ty B,(Builtin.copy_ #[261,261] ty #[.slice (some ⟨g,i*2,none⟩) (n+1-i) B,.slice (some ⟨A,0,none⟩) 1 1]).run Tryz.prog N=_:=fun ty B =>
  Zr 261 268 ty 2 EV (by kernel_rfl) g (i*2) (n+1-i) B ⟨A,0,none⟩ 1 1 f k 268 t
   (by rw[r];have:Nat.min 1 (n+1-i)=1:=(by simp only[EW];split <;> omega);rw[this]) (fun j u s=>by rw[GY,Fh,D.cell];exact s)
   (by rw[r,o];have:=GM 2 a;have e:i*2+2=(i+1)*2:=(by rw[Ed,CM]);have:=GM 2 (show i+1<=n+1 by omega);omega)
   K
 have y:TA w (some g) n i l k (.returned (.slice (some ⟨g,0,none⟩) (n+1) d)) (N.setRow g (f.take (i*2)++k++f.drop (i*2+k.length)).toArray):=by
  have e0:=GM 2 a;have e1:i*2+2=(i+1)*2:=by rw[Ed,CM]
  have e2:(i+1)*2+(n-i)*2=(n+1)*2:=by rw[<- Ed];congr 1;omega
  have e3:=GM 2 (show i<=n by omega);refine⟨g,d,rfl,Yp (t.setRow _) a I ?_ ?_,Fr.setRow (S:=fun b=>some g=some b) C (fun _=>rfl) _,.inl rfl⟩
  .rw[Ga,Ga,Gd,Gk,r,o]
   omega
  .unfold Y9
   have Y:f.take (i*2)=l.take (i*2):=by
    rw[m,<- O,GO (by rw[Ga,Gd,h];omega),GO (by rw[Gd,h];omega),EF,EF]
    congr 1
    omega
   have a2:f.drop (i*2+k.length)=l.drop (i*2)++c.drop ((n+1)*2):=by
    have e4:(c.take ((i+1)*2)).length=i*2+k.length:=by rw[Gd,h];omega
    rw[m,Gp,<- e4,EG,q,e2]
   rw[Y,a2,<- Gp,Fo (by rw[Ga,Ga,q,r,Gd,v];omega)]
 obtain⟨V,G⟩:∃ V,V=f.take (i*2)++k++f.drop (i*2+k.length):=⟨_,rfl⟩;rw[<- G] at x y;clear t D C o J L R q v X K m G O r h;unfold maxLen at I;have a3:¬(i:Int)=(n:Int):=by omega
 have a4:¬(d:Int)<(n:Int)+1:=by omega
 have a5:¬d=i:=by omega
 have a6:¬d=i+1:=by omega
 have a7:IntKind.i64.wrap ((i:Int)+1)=(i:Int)+1:=by rw[Gs];omega
 have a8:(0:Int)<=(i:Int)+1:=by omega
 have a9:((i:Int)+1).toNat=i+1:=by omega
 have b0:(i:Int)<=(n:Int)+1:=by omega
 have b1:(i:Int)<=(n:Int):=by omega
 go_enter Tryz.func223,Tryz.ntmps223
 go_wp2_with (simp only[Q])
 go_region_law (refine YA rfl _ _ 261 261 rfl _ _ (by simp[Act.eval,Act.put]) (by simp[Act.eval,Act.put]) (p _ _ _) ?_)
 go_wp2_with (at_builtin;go_must (refine Yr rfl _ _ 261 261 rfl _ _ (by rfl) (by rfl) (x _ _) ?_))
 go_ret;exact y
theorem Pq(g n i:Nat)(b m:List Value)(vb:Nat)(w:World)(hg:Blk w g b 268)(f:b.length=n*2)(h1:∀ u∈b,u.oneCell'=true)(hi:i<n)
 (q:m.length=2)(a0:∀ u∈m,u.oneCell'=true)(hv:Blk w vb m 268)(Y:(n+1)*24<=140737488355328) :
 Calls Tryz.prog 223 #[.slice (some ⟨g,0,none⟩) n n,.int .i64 i,.slice (some ⟨vb,0,none⟩) 1 1] w fun e w'=>TA w (some g) n i b m e w':=by
 obtain⟨i0,z,a4,a6,S,K,a7⟩:=Y6 KK;have s:i+(n+1-i)=n+1:=by omega
 have a:∀ ty,(Builtin.append_ #[261,3] ty #[.slice (some ⟨g,0,none⟩) i n,.int .i64 ((n+1-i:Nat):Int)]).run Tryz.prog w=_:=fun ty =>
  Cd (P:=Tryz.prog) w 261 3 ty 268 i0 z .i64 .i64 EV Ew a4 a6 (some ⟨g,0,none⟩) i n (b.take (i*2))
   (by rw[S];exact Dn (P:=Tryz.prog) w.drew 2 i ⟨g,0,none⟩ i n (b.take (i*2)) (by rw[Gd,f];omega) (fun j u t=>by
     have a8:=(GF.1 t).1;rw[GY,Fh,hg.drew.cell];rw[Gd] at a8;rw[Fq (by omega)] at t;exact t))
   (n+1-i) (by omega) (by rw[S];omega) (by omega) (by omega) (by rw[K];omega) (CX (by omega) (by rw[K,s];exact Y))
 rw[s] at a;have a2:=Ag w (n+1) n 268;have L:=Ch w (n+1) n 268 (by unfold maxLen;omega);generalize grownCap w (n+1) n 268=c at a a2 L;obtain⟨d,v⟩:∃ d:List Value,d=b.take (i*2)++(Builtin.zeroCells z.cells (n+1-i)).toList++(Builtin.zeroCells z.cells (c-(n+1))).toList:=⟨_,rfl⟩;have C:(b.take (i*2)).toArray++Builtin.zeroCells z.cells (n+1-i)++Builtin.zeroCells z.cells (c-(n+1))=d.toArray:=by rw[v];apply DP;simp
 rw[C] at a;have o:d.length=c*2:=by
  rw[v];simp only[Ga,Gd,FU,CW,a7,f];omega
 have D:d.take (i*2)=b.take (i*2):=by
  have e:(b.take (i*2)).length=i*2:=by rw[Gd,f];omega
  rw[v,Gp];exact Fo e
 have a3:=hg.lt;have a5:=hv.lt;have r:Blk (w.drew.alloc (.cells d.toArray 268)) w.heap.size d 268:=Blk.new w.drew d _;have T:Blk (w.drew.alloc (.cells d.toArray 268)) vb m 268:=hv.drew.alloc _;have Q:Blk (w.drew.alloc (.cells d.toArray 268)) g b 268:=hg.drew.alloc _;have M:Fr Nil w (w.drew.alloc (.cells d.toArray 268)):=((U _ w).drew).alloc _;obtain⟨N,hN⟩:∃ N,N=w.heap.size:=⟨_,rfl⟩;rw[<- hN] at a r a3 a5;obtain⟨I,V⟩:∃ I,I=w.drew.alloc (.cells d.toArray 268):=⟨_,rfl⟩;rw[<- V] at a r T Q M;clear V;obtain⟨k,x⟩:∃ k,k=d.take (i*2)++m++d.drop (i*2+m.length):=⟨_,rfl⟩;have p:∀ ty J,(Builtin.copy_ #[261,261] ty #[.slice (some ⟨N,i*2,none⟩) (n+1-i) J,.slice (some ⟨vb,0,none⟩) 1 1]).run Tryz.prog I=_:=fun ty J =>
  Zr 261 268 ty 2 EV (by kernel_rfl) N (i*2) (n+1-i) J ⟨vb,0,none⟩ 1 1 d m 268 r
   (by rw[q];have:Nat.min 1 (n+1-i)=1:=(by simp only[EW];split <;> omega);rw[this]) (fun j u t=>by rw[GY,Fh,T.cell];exact t)
   (by rw[q,o];omega)
   a0
 rw[<- x] at p;have l:k.length=c*2:=by
  rw[x];simp only[Ga,Gd,Gk,q,o];omega
 have E:k.take ((i+1)*2)=b.take (i*2)++m:=by
  have e:(b.take (i*2)++m).length=(i+1)*2:=by rw[Ga,Gd,f,q];omega
  rw[x,D];exact Fo e
 have B:Blk (I.setRow N k.toArray) N k 268:=r.setRow k;have R:Blk (I.setRow N k.toArray) g b 268:=Q.of_heap (Dv _ N g _ (by omega));have O:Fr Nil w (I.setRow N k.toArray):=M.setRow (fun h=>by omega) _;obtain⟨W2,X⟩:∃ W2,W2=I.setRow N k.toArray:=⟨_,rfl⟩;rw[<- X] at p B R O;clear X;have A:(b.drop (i*2)).length=(n-i)*2:=by rw[Gk,f,CL]
 obtain⟨c3,y⟩:∃ c3,c3=k.take ((i+1)*2)++b.drop (i*2)++k.drop ((i+1)*2+(b.drop (i*2)).length):=⟨_,rfl⟩;have G:∀ ty J sc,(Builtin.copy_ #[261,261] ty #[.slice (some ⟨N,(i+1)*2,none⟩) (n-i) J,.slice (some ⟨g,i*2,none⟩) (n-i) sc]).run Tryz.prog W2.drew=_:=fun ty J sc =>
  Zr 261 268 ty 2 EV (by kernel_rfl) N ((i+1)*2) (n-i) J ⟨g,i*2,none⟩ (n-i) sc k (b.drop (i*2)) 268 B.drew
   (by rw[A];congr 1;simp only[EW];split <;> omega) (fun j u t=>by rw[GY,R.drew.cell];rw[FY] at t;exact t)
   (by rw[A,l];omega)
   (fun u t=>h1 u (GB t))
 rw[<- y] at G;have a1:TA w (some g) n i b m (.returned (.slice (some ⟨N,0,none⟩) (n+1) c)) (W2.drew.setRow N c3.toArray):=by
  refine⟨N,c,rfl,Yp (B.drew.setRow _) a2 L ?_ ?_,(O.drew.setRow (fun h=>by omega) _).mono (fun _ _ h=>absurd h id),.inr (by omega)⟩
  .rw[y]
   simp only[Ga,Gd,Gk,f,l];omega
  .have e:(k.take ((i+1)*2)++b.drop (i*2)).length=(n+1)*2:=by rw[Ga,Gd,l,A];omega
   rw[y,Fo e,E]
   rfl
 clear D E C y x v r T Q M B R O A l o h1 a0 q f hv hg hN s a7 K S a6 a4;unfold maxLen at L;have a9:¬(i:Int)=(n:Int):=by omega
 have b0:¬n=i:=by omega
 have b1:¬c=i+1:=by omega
 have b2:¬c=i:=by omega
 have b3:(n:Int)+1-i=((n+1-i:Nat):Int):=by omega
 have b4:IntKind.i64.wrap ((i:Int)+1)=(i:Int)+1:=by rw[Gs];omega
 have b5:(0:Int)<=(i:Int)+1:=by omega
 have b6:((i:Int)+1).toNat=i+1:=by omega
 have b7:(i:Int)<=(n:Int)+1:=by omega
 have b8:(i:Int)<=(n:Int):=by omega
 go_enter Tryz.func223,Tryz.ntmps223
 go_wp2_with (at_builtin;go_must (first|(refine CA _ rfl _ _ _ _ rfl _ _ (by rfl) (by rfl) _ _ (a _) ?_)|(refine Yr rfl _ _ 261 261 rfl _ _ (by rfl) (by rfl) (p _ _) ?_)))
 go_region_law (refine YA rfl _ _ 261 261 rfl _ _ (by simp[Act.eval,Act.put]) (by simp[Act.eval,Act.put]) (G _ _ _) ?_)
 go_wp2
 go_ret;exact a1
theorem Qt(v:Value)(n i:Nat)(k d:List Value)(j:Nat)(w:World)(b:w.ownsRow 0 268 2 v n k)(r:∀ u∈k,u.oneCell'=true)(B:i<=n)
 (h:d.length=2)(f:∀ u∈d,u.oneCell'=true)(q:Blk w j d 268)(p:v.ownBlock≠some j)(a:(n+1)*24<=140737488355328) :
 Calls Tryz.prog 223 #[v,.int .i64 i,.slice (some ⟨j,0,none⟩) 1 1] w fun e A=>TA w v.ownBlock n i k d e A:=by
 rcases Eg i n with m|y
 .rcases Yq b with⟨_,h0,_⟩|⟨g,cap,c,rfl,hg,hn,hm,hc,ht⟩
  .omega
  .have hne':j≠g:=fun e=>p (by rw[e];rfl)
   rcases Eg n cap with t|t
   .exact Qs g n cap i c k d j w hg hc ht r m t hm h f q hne'
   .have e:cap=n:=by omega
    subst e;have o:c=k:=by rw[<- ht];exact(Gx (by omega)).symm
    subst o;exact Pq g cap i c d j w hg hc r m h f q a
 .have e:i=n:=by omega
  subst e;exact OH v i k d j w b h f q a
def zU(a b:Nat):Bool:=decide (a<b)
theorem WX:Strict zU where
 vi a:=by simp[zU]
 trans a b c h1 h2:=by simp only[zU,Gr] at *;omega
 vw a b h1 h2:=by simp only[zU,Gr,FB] at *;omega
theorem Pr{a b:Nat}:XW a b<0↔zU a b=true:=by
 unfold XW zU;rw[Gr];split
 .rename_i h;constructor <;> intro <;> omega
 .rename_i h
  split
  .constructor <;> intro <;> omega
  .constructor <;> intro <;> omega
theorem KM{a b:Nat}:XW a b=0↔(a==b)=true:=by
 unfold XW;rw[beq_iff_eq];split
 .rename_i h;constructor <;> intro <;> omega
 .rename_i h
  split
  .constructor <;> intro <;> omega
  .constructor <;> intro <;> omega
theorem Wv(a b:Nat)(v:ByteArray)(w:World) :
 Calls Tryz.prog 239 #[.agg #[.int .i64 a,.string v],.int .i64 b] w fun e d=>e=.returned (.int .i64 (XW a b))/\Fr Nil w d:=by
 go_enter Tryz.func239,Tryz.ntmps239
 go_wp2_with (go_at_call 180;refine(Sd _ _ _).mono ?_;rintro e f ⟨rfl,c⟩;subst c)
 go_ret;exact⟨rfl,(by repeat' first|exact U _ _|(with_reducible assumption)|refine Fr.drewN ?_ _|refine Fr.drew ?_|refine Fr.alloc ?_ _|refine Fr.set ?_ ?_ _|(intro _;rfl))⟩
theorem Qu(v:Value)(l:List (Nat × ByteArray))(s:Nat)(w:World)(h:w.ownsRow 0 268 2 v l.length (Zt l))(K:Asc zU (l.map Prod.fst))(a0:l.length<4611686018427387904) :
 Calls Tryz.prog 238 #[v,.int .i64 s,.func (.func 239) #[] #[]] w fun e I =>
  e=.returned (.tuple #[.int .i64 (low zU (l.map Prod.fst) s),.bool (zY zU (l.map Prod.fst) s)])/\Fr Nil w I:=by
 have hn:=zL h;unfold maxLen at hn;obtain⟨a,t,rfl⟩:=zg h;go_enter Tryz.func238,Tryz.ntmps238
 go_wp2
 go_loopw [9,10] (fun E G I=>∃ i j:Nat,i<=j/\j<=l.length/\E=.int .i64 i/\G=.int .i64 j/\(∀ k (d:k<l.length),k<i->zU l[k].1 s=true)/\(∀ k (d:k<l.length),j<=k->zU l[k].1 s=false)/\Fr Nil w I) (fun E G _=>(intOf G).toNat-(intOf E).toNat)
 case atStart=>exact⟨0,l.length,Gz _,Gb _,rfl,rfl,fun k _ d=>absurd d (Fc _),fun k d X=>absurd d (by omega),U _ _⟩
 case round =>
  obtain⟨i,j,V,J,rfl,rfl,c,u,p⟩:=hrel;by_cases Y:i<j
  .obtain⟨g,rfl⟩:∃ g,a=some ⟨g,0,none⟩:=by
    rcases h.2 with⟨c,O⟩|⟨g,t,A,c,_⟩
    .omega
    .simp at c;exact⟨g,c.1⟩
   have D:(i+j) / 2<l.length:=by omega
   have T:=own_cell? (ze h p (fun _ _=>id)) ((i+j) / 2*2) _ (Xz l _ D).1;have B:=own_cell? (ze h p (fun _ _=>id)) ((i+j) / 2*2+1) _ (Xz l _ D).2;have M:=Z c;have N:=Z u;clear c u;have Q:(i:Int)<=4611686018427387903:=by omega
   have R:(j:Int)<=4611686018427387903:=by omega
   have S:(i:Int)+j<=9223372036854775807:=by omega
   have hq:(((i:Int)+j) / 2).toNat=(i+j) / 2:=by omega
   cases hl:zU l[(i+j) / 2].1 s with
   | true =>
    have r:=Z hl;have C:XW l[(i+j) / 2].1 s<0:=Pr.2 hl;clear hl
    go_wp2_with (go_at_call 239;refine(Wv _ _ _ _).mono ?_;rintro e L ⟨rfl,m⟩)
    refine⟨⟨(i+j) / 2+1,j,by omega,J,by go_num,rfl,fun k d q=>?_,N.out,p.trans m⟩,by simp[intOf];omega⟩;by_cases e:k=(i+j) / 2
    .subst e;exact r.out
    .exact WX.trans _ _ _ (K.fst (i:=k) (j:=(i+j) / 2) (by omega) D) r.out
   | false =>
    have r:=Z hl;have C:¬XW l[(i+j) / 2].1 s<0:=by rw[Pr];simp[hl]
    clear hl
    go_wp2_with (go_at_call 239;refine(Wv _ _ _ _).mono ?_;rintro e L ⟨rfl,m⟩)
    refine⟨⟨i,(i+j) / 2,by omega,by omega,rfl,by go_num,M.out,fun k d q=>?_,p.trans m⟩,by simp[intOf];omega⟩;by_cases e:k=(i+j) / 2
    .subst e;exact r.out
    .cases hk2:zU l[k].1 s with
     | false=>rfl
     | true =>
      have:=WX.trans _ _ _ (K.fst (i:=(i+j) / 2) (j:=k) (by omega) d) hk2;rw[r.out] at this;cases this
  .have he:i=j:=by omega
   subst he;have b:low zU (l.map Prod.fst) s=i:=VA zU s _ i (by simpa using J) (fun k d q=>by simpa using c k (by simpa using d) q) (fun d=>by simpa using u i (by simpa using d) (Gb _));by_cases o:i<l.length
   .obtain⟨g,rfl⟩:∃ g,a=some ⟨g,0,none⟩:=by
     rcases h.2 with⟨c,O⟩|⟨g,t,A,c,_⟩
     .omega
     .simp at c;exact⟨g,c.1⟩
    have T:=own_cell? (ze h p (fun _ _=>id)) (i*2) _ (Xz l _ o).1;have B:=own_cell? (ze h p (fun _ _=>id)) (i*2+1) _ (Xz l _ o).2;have f:zY zU (l.map Prod.fst) s=(XW l[i].1 s==0):=by
     rw[XT o b,Ad,<- KM];simp
    have y:=Z b;have x:=Z f;clear c u b f
    go_wp2_with (go_at_call 239;refine(Wv _ _ _ _).mono ?_;rintro e L ⟨rfl,m⟩)
    go_ret2;rw[y.out,x.out];exact⟨rfl,p.trans m⟩
   .have f:zY zU (l.map Prod.fst) s=false:=WI (by rw[b];simpa using o)
    have y:=Z b;have x:=Z f;clear c u b f
    go_wp2
    go_ret2;rw[y.out,x.out];exact⟨rfl,p⟩
abbrev ZK (l:List (Nat × ByteArray)):List Nat:=l.map Prod.fst
structure WY(w:World)(v:Value)(l:List (Nat × ByteArray)):Prop where
 own:w.ownsRow 0 268 2 v l.length (Zt l)
 ym:Asc zU (ZK l)
theorem WY.fr{w w':World}{v:Value}{l:List (Nat × ByteArray)}{S:Nat->Prop}(h:WY w v l)(f:Fr S w w')(a:∀ k,v.ownBlock=some k->¬S k):WY w' v l :=
 ⟨ze h.own f a,h.ym⟩
theorem Ps(v:Value)(l:List (Nat × ByteArray))(s:Nat)(b:Nat)(w:World)(g:w.cell? ⟨b,0,none⟩=some v)(h:WY w v l)(c:l.length<4611686018427387904) :
 Calls Tryz.prog 222 #[.pointer (some ⟨b,0,none⟩),.int .i64 s] w fun e f =>
  e=.returned (.tuple #[.int .i64 (low zU (ZK l) s),.bool (zY zU (ZK l) s)])/\Fr Nil w f:=by
 have d:=Z (Qu v l s w h.own h.ym c);clear h;go_enter Tryz.func222,Tryz.ntmps222
 go_wp2_with (refine d.out.mono ?_;rintro e i ⟨rfl,a⟩)
 go_ret2;exact⟨rfl,a⟩
theorem KN(l:List (Nat × ByteArray)):∀ u∈Zt l,u.oneCell'=true:=by
 intro u a;simp only[Zt,DX] at a;obtain⟨e,b,a⟩:=a;simp at a;rcases a with rfl|rfl <;> rfl
theorem XM(a b:List (Nat × ByteArray)):Zt (a++b)=Zt a++Zt b:=by simp[Zt]
theorem Lb(l:List (Nat × ByteArray))(i:Nat):(Zt l).take (i*2)=Zt (l.take i):=by
 rcases DY i l.length with h|h
 .have e:=XM (l.take i) (l.drop i)
  rw[Gu] at e;rw[e];exact Fo (by rw[XL,Gd,Fi h])
 .rw[Gx h,Gx (by rw[XL];omega)]
theorem Lc(l:List (Nat × ByteArray))(i:Nat):(Zt l).drop (i*2)=Zt (l.drop i):=by
 rcases DY i l.length with h|h
 .have e:=XM (l.take i) (l.drop i)
  rw[Gu] at e;rw[e];exact Ae (by rw[XL,Gd,Fi h])
 .rw[GX h,GX (by rw[XL];omega)]
  rfl
def Ww(l:List (Nat × ByteArray))(s:Nat)(x:ByteArray):List (Nat × ByteArray):=l.take (low zU (ZK l) s)++[(s,x)]++l.drop (low zU (ZK l) s)
theorem JV{l:List (Nat × ByteArray)}(s:Nat)(x:ByteArray)(h:Asc zU (ZK l))(a:zY zU (ZK l) s=false):Asc zU (ZK (Ww l s x)):=by
 have:=Asc.ins WX (b:=s) h (fun c e=>by rw[UY c,e] at a;simp at a);unfold Ww
 simpa [ZK,List.map_take,List.map_drop] using this
theorem Ti{l:List (Nat × ByteArray)}{s:Nat}{x:ByteArray}:(Ww l s x).length=l.length+1:=by
 have:=Vz zU (ZK l) s;simp only[Gv] at this;simp[Ww];omega
def Hu(w:World)(b:Nat)(t:TypeId)(v:Value)(a:List Value)(l:List (Nat × ByteArray))(d:World):Prop :=
 ∃ c,Blk d b (c::a) t/\WY d c l/\Fr (fun k=>k=b\/v.ownBlock=some k) w d/\(∀ k,c.ownBlock=some k->v.ownBlock=some k\/w.heap.size<=k)
theorem Ld(v:Value)(a:List Value)(l:List (Nat × ByteArray))(s:Nat)(x:ByteArray)(b:Nat)(t:TypeId)(w:World)(E:Blk w b (v::a) t)(ht:t≠268)(h:WY w v l)
 (a1:l.length<1099511627776)(V:zY zU (ZK l) s=false) :
 Calls Tryz.prog 186 #[.pointer (some ⟨b,0,none⟩),.int .i64 s,.string x] w fun e w' =>
  e=.returned (.tuple #[])/\Hu w b t v a (Ww l s x) w':=by
 have M:w.cell? ⟨b,0,none⟩=some v:=by rw[E.cell];rfl
 have R:=Z (Ps v l s b w M h (by omega));have hn:=zL h.own;unfold maxLen at hn;have K:=Z h;have Q:=Z E;clear M h E;go_enter Tryz.func186,Tryz.ntmps186;go_wp2_with fail;refine R.out.mono ?_;rintro e j ⟨rfl,p⟩;have m:=Q.out.fr p id;have Y:j.cell? ⟨b,0,none⟩=some v:=by rw[m.cell];rfl
 have a2:=m.frozen 0;go_wp2_with fail;have L:Blk (j.alloc (.cells #[.int .i64 s,.string x] 268)) j.heap.size [.int .i64 s,.string x] 268:=Blk.new j [.int .i64 s,.string x] _;have c:=m.alloc (.cells #[.int .i64 s,.string x] 268);have d:Fr Nil w (j.alloc (.cells #[.int .i64 s,.string x] 268)):=p.alloc _;have G:∀ k,v.ownBlock=some k->k<j.heap.size:=fun k q=>Zq (K.out.fr p (fun _ _=>id)).own q;generalize j.alloc (.cells #[.int .i64 s,.string x] 268)=w2 at L c d |-;have D:=K.out.fr d (fun _ _=>id);have C:v.ownBlock≠some b:=zi D.own c ht;have A:=Vz zU (ZK l) s;simp only[Gv] at A;refine(Qt v l.length (low zU (ZK l) s) (Zt l) [.int .i64 s,.string x] j.heap.size w2 D.own (KN l) A rfl (by intro u N;simp at N;rcases N with rfl|rfl <;> rfl) L (fun e=>by have:=G _ e;omega) (by omega)).mono ?_;rintro e O ⟨g,r,rfl,I,y,B⟩;have o:=c.fr y C;have a0:O.cell? ⟨b,0,none⟩=some v:=by rw[o.cell];rfl
 have a3:=o.frozen 0;have X:b≠g:=by
  rcases B with h|h
  .intro e;exact C (by rw[h,e])
  .have:=c.lt;omega
 have f:Hu w b t v a (Ww l s x) (O.setCell ⟨b,0,none⟩ (.slice (some ⟨g,0,none⟩) (l.length+1) r)):=by
  have J:=Ti (l:=l) (s:=s) (x:=x);refine⟨.slice (some ⟨g,0,none⟩) (l.length+1) r,o.set 0 _,⟨?_,JV s _ D.ym V⟩,Fr.set ((d.mono (fun _ _ h=>absurd h id)).trans' y (fun i _ h=>.inr h)) (fun _=>.inl rfl) _,fun k q=>?_⟩
  .rw[J]
   have e:Zt (Ww l s x)=Y9 2 (low zU (ZK l) s) (Zt l) [.int .i64 s,.string x]:=by
    unfold Ww Y9;rw[XM,XM,Lb,Lc]
    rfl
   rw[e];exact ze I (Fr.set (S:=fun k=>k=b) (U _ _) (fun _=>rfl) _) (fun k q=>by simp[Value.ownBlock] at q;omega)
  .simp[Value.ownBlock] at q
   subst q;rcases B with h|h
   .exact .inl h
   .exact .inr (by have:=d.size;omega)
 have T:=Z f;clear f
 go_wp2
 exact FZ (v:=.tuple #[]) (by simp[results,go_sem]) rfl ⟨rfl,T.out⟩
end Go.Proofs.YtkhnggkkiefcdaaGreatDoor
namespace Go.Proofs.YtkhnggkkiefcdaaGreatDoor
open Go.RowKit Go.Shelf
set_option maxRecDepth 100000
set_option maxHeartbeats 8000000
attribute [local go_sem] Et
theorem Pt(v:Value)(l:List ByteArray)(s:ByteArray)(w:World)(h:w.ownsRow 0 9 1 v l.length (strs l)) :
 Calls Tryz.prog 234 #[v,.string s] w fun e A=>∃ r:Int,e=.returned (.int .i64 r)/\decide (0<=r)=l.any (·==s)/\Fr Nil w A:=by
 have E:=zL h;unfold maxLen at E;obtain⟨a,u,rfl⟩:=zg h;go_enter Tryz.func234,Tryz.ntmps234
 go_wp2
 go_loopw [8] (fun t A=>∃ k:Nat,k<=l.length/\t=.int .i64 k/\(∀ j (d:j<l.length),j<k->(l[j]==s)=false)/\Fr Nil w A) (fun t _=>l.length-(intOf t).toNat)
 case atStart=>exact⟨0,Gz _,rfl,fun j _ d=>absurd d (Fc _),U _ _⟩
 case round =>
  obtain⟨k,J,rfl,d,q⟩:=hrel;by_cases o:k<l.length
  .have hr:=ze h q (fun _ _=>id)
   obtain⟨g,i,C,_,_⟩:=zy hr (by omega);obtain⟨rfl,rfl⟩:a=some ⟨g,0,none⟩/\u=i:=by simpa using C
   have I:=own_cell? hr k (.string l[k]) (by simp[strs,o]);have p:=DD s l[k];cases hm:(s==l[k]) with
   | true =>
    have y:(s.toList==l[k].toList)=true:=by rw[<- p];exact hm
    have b:l.any (·==s)=true:=by rw[CF];exact⟨l[k],Gj o,by rw[zZ] at hm |-;exact hm.symm⟩
    have c:=Z b;clear p hm d b hr
    go_wp2
    go_ret;exact⟨_,rfl,by rw[c.out];simp,q⟩
   | false =>
    have y:(s.toList==l[k].toList)=false:=by rw[<- p];exact hm
    have m:∀ j (d:j<l.length),j<k+1->(l[j]==s)=false:=by
     intro j f D;by_cases e:j=k
     .subst e
      cases h:(l[j]==s) with
      | false=>rfl
      | true=>rw[zZ] at h;rw[<- h,zZ.2 rfl] at hm;cases hm
     .exact d j f (by omega)
    have B:=Z m;clear p hm d m hr
    go_wp2
    exact⟨⟨k+1,by omega,by go_num,B.out,q⟩,by simp[intOf];omega⟩
  .have b:l.any (·==s)=false:=by
    rw[List.any_eq_false];intro x G;obtain⟨j,f,rfl⟩:=EA G;rw[d j f (by omega)]
    decide
   have c:=Z b;clear d b
   go_wp2
   go_ret;exact⟨_,rfl,by rw[c.out];simp,q⟩
theorem So(v:Value)(l:List ByteArray)(s:ByteArray)(w:World)(h:w.ownsRow 0 9 1 v l.length (strs l)) :
 Calls Tryz.prog 218 #[v,.string s] w fun e f=>e=.returned (.bool (l.any (·==s)))/\Fr Nil w f:=by
 have b:=Z (Pt v l s w h);clear h;go_enter Tryz.func218,Tryz.ntmps218
 go_wp2_with (refine b.out.mono ?_;rintro e g ⟨r,rfl,a,d⟩;have c:=Z a;clear a)
 go_ret;exact⟨by rw[<- c.out];rfl,d⟩
end Go.Proofs.YtkhnggkkiefcdaaGreatDoor
namespace Go.Proofs.YtkhnggkkiefcdaaGreatDoor
open Go.RowKit
set_option maxRecDepth 100000
set_option maxHeartbeats 8000000
def Yc:ByteArray:=⟨#[98,97,115,101]⟩
theorem KO{l:List (Nat × ByteArray)}{s:Nat}(h:s∉ZK l):zY zU (ZK l) s=false:=by
 rcases Eg (low zU (ZK l) s) l.length with a|a
 .rw[XT a rfl,Fl]
  rintro e;exact h (by rw[<- e];exact GZ (Gj a))
 .exact WI (by simpa using a)
theorem JW{l:List (Nat × ByteArray)}{s:Nat}{x:ByteArray}{e:Nat × ByteArray}:e∈Ww l s x↔e∈l\/e=(s,x):=by
 have h:e∈l↔e∈l.take (low zU (ZK l) s)\/e∈l.drop (low zU (ZK l) s):=by
  rw[<- Gf,Gu]
 rw[h];simp only[Ww,Gf,Gg]
 constructor
 .rintro((h|h)|h)
  .exact .inl (.inl h)
  .exact .inr h
  .exact .inl (.inr h)
 .rintro((h|h)|h)
  .exact .inl (.inl h)
  .exact .inr h
  .exact .inl (.inr h)
theorem Pv(n:Nat):Lib.hasPrefix (zx zN n).data.toList Yc.data.toList=false/\Lib.atoi (zx zN n).data.toList=none:=by
 have e:(zx zN n).data.toList=108::111::103::Lib.decDigits n:=by
  simp only[zx,zN,ER,EP,WE]
  rfl
 rw[e];exact⟨rfl,rfl⟩
theorem JX(n:Nat)(a:n<10^15):(zx zN n).size<=18:=by
 have h:=WD 14 n a;have e:(zx zN n).data.toList.length=3+(Lib.decDigits n).length:=by
  simp only[zx,zN,ER,EP,WE];simp;omega
 have b:(zx zN n).size=(zx zN n).data.toList.length:=by simp
 omega
end Go.Proofs.YtkhnggkkiefcdaaGreatDoor
namespace Go.Proofs.YtkhnggkkiefcdaaGreatDoor
open Go.RowKit
theorem Ml{α:Type}(f:α->Nat):∀ (a b:List α),a.Pairwise (fun x y=>f x<f y)->b.Pairwise (fun x y=>f x<f y)->(∀ e,e∈a↔e∈b)->a=b
 | [],[],_,_,_=>rfl
 | [],y::b,_,_,h=>absurd ((h y).2 (Gh ..)) (by simp)
 | x::a,[],_,_,h=>absurd ((h x).1 (Gh ..)) (by simp)
 | x::a,y::b,d,g,h=>by
  rw[Ci] at d g;have i:x=y:=by
   rcases GH.1 ((h x).1 (Gh ..)) with e|e
   .exact e
   .rcases GH.1 ((h y).2 (Gh ..)) with e2|e2
    .exact e2.symm
    .have c:=g.1 x e
     have j:=d.1 y e2;omega
  subst i;rw[Ml f a b d.2 g.2 fun e=>?_]
  constructor
  .intro he
   rcases GH.1 ((h e).1 (Ge _ he)) with rfl|c
   .have:=d.1 e he;omega
   .exact c
  .intro he
   rcases GH.1 ((h e).2 (Ge _ he)) with rfl|c
   .have:=g.1 e he;omega
   .exact c
end Go.Proofs.YtkhnggkkiefcdaaGreatDoor
namespace Go.Proofs.YtkhnggkkiefcdaaGreatDoor
open Go.RowKit
set_option maxRecDepth 100000
set_option maxHeartbeats 8000000
def UI(l:List UInt8):Nat:=l.foldl (fun a c=>a*10+(c.toNat-48)) 0
theorem OI(l:List UInt8)(c:UInt8):UI (l++[c])=UI l*10+(c.toNat-48):=by simp[UI]
theorem Ui(u:Nat):UI (Lib.decDigits u)=u:=by
 induction u using Nat.strongRecOn with
 | _ u a =>
  rw[Lib.decDigits];by_cases h:u<10
  .rw[Am h]
   have:(UInt8.ofNat (48+u)).toNat=48+u:=by simp;omega
   simp only[UI,Fj,List.foldl_nil,this];omega
  .rw[dif_neg h,OI,a (u / 10) (by omega)]
   have:(UInt8.ofNat (48+u%10)).toNat=48+u%10:=by simp;omega
   rw[this];omega
theorem Pw{a b:Nat}(h:Za a=Za b):a=b:=by
 have c:Lib.itoa (a:Int)=Lib.itoa (b:Int):=by
  have:=FW (fun x:ByteArray=>x.data.toList) h
  simpa [Za] using this
 have e:∀ n:Nat,Lib.itoa (n:Int)=Lib.decDigits n:=by
  intro n;unfold Lib.itoa;rw[Gl (by omega)];simp
 rw[e,e] at c;rw[<- Ui a,<- Ui b,c]
theorem RJ{k:ByteArray}{a b:Nat}(h:zx k a=zx k b):a=b:=by
 refine Pw ?_;have c:(zx k a).data.toList=(zx k b).data.toList:=by rw[h]
 unfold zx at c;simp only[ER,EP,List.append_cancel_left_eq] at c;exact CK (DP c)
theorem Le(k:ByteArray)(n:Nat):(zx k n).size=k.size+(Za n).size:=by
 unfold zx;simp
theorem JY(n:Nat):zx zN n≠ByteArray.empty:=by
 intro h;have:(zx zN n).size=0:=by rw[h];rfl
 rw[Le] at this;have a:zN.size=3:=rfl;omega
def DM.yj(M:DM):Nat:=(M.dir.map fun e=>(M.file e.2).bytes.length).sum
theorem Px{n:Int}(a:0<=n)(b:n<9223372036854775808):wrap64 n=n:=by unfold wrap64;omega
theorem DM.xV(M:DM)(h:M.yj<4611686018427387904):M.used=M.yj:=by
 have b:∀ (d:Dir) (a:Nat),a+(d.map fun e=>(M.file e.2).bytes.length).sum<4611686018427387904 ->
  d.foldl (fun n e=>wrap64 (n+(M.file e.2).bytes.length)) (a:Int)=((a+(d.map fun e=>(M.file e.2).bytes.length).sum:Nat):Int):=by
  intro d
  induction d with
  | nil=>intro a _;simp
  | cons e d f =>
   intro a c;simp only[Gw,FL] at c;rw[Fj,Px (by omega) (by omega)];have:=f (a+(M.file e.2).bytes.length) (by omega);rw[show((a:Int)+((M.file e.2).bytes.length:Int))=((a+(M.file e.2).bytes.length:Nat):Int) from by push_cast;rfl,this];simp only[Gw,FL]
   congr 1
   omega
 have:=b M.dir 0 (by unfold DM.yj at h;omega);unfold DM.used DM.yV;rw[Gt];rw[show(0:Int)=((0:Nat):Int) from rfl,this];unfold DM.yj;simp
theorem RK{d:Dir}{a:ByteArray}(h:∀ e∈d,e.1≠a):d.look a=none:=by
 have c:d.find? (fun e=>e.1==a)=none:=by
  rw[Dx];intro e b x;exact h e b (zZ.1 x)
 unfold Dir.look;rw[c]
 rfl
theorem RL{f n:Nat}(size:Nat->Nat):∀ (d:Dir),(d.map (·.2)).Nodup->(d.map fun e=>if e.2=f then size e.2+n else size e.2).sum<=(d.map fun e=>size e.2).sum+n
 | [],_=>by simp
 | e::d,h=>by
  simp only[Gw,EH] at h;simp only[Gw,FL];by_cases a:e.2=f
  .rw[GA a]
   have:(d.map fun e=>if e.2=f then size e.2+n else size e.2)=d.map fun e=>size e.2:=by
    apply Ee
    intro x c;rw[Gl];intro b;exact h.1 (by rw[a,<- b];exact GZ c)
   rw[this];omega
  .rw[Gl a]
   have:=RL (f:=f) (n:=n) size d h.2;omega
structure VOk(u:Ver):Prop where
 node:Zy u.node
 nat:u.Nat
 size:u.value.size<=128
 one:1<=u.seq
 gone:u.gone=false
theorem Sp{n:Int}(h:isN n):(zk n.toNat).length<=9:=zD (by unfold isN at h;omega)
theorem Py:∀ l:List Nat,(∀ x∈l,x<9223372036854775808)->((l.map zk).flatten).length<=9*l.length
 | [],_=>by simp
 | a::l,h=>by
  have:=Py l (fun x b=>h x (Ge _ b));have c:=zD (h a (Gh ..));simp only[Gw,Ei,Ga,Gn];omega
theorem RM(l:List Nat)(a:∀ x∈l,x<9223372036854775808)(b:l.length<9223372036854775808):(X8 l).length<=9+9*l.length:=by
 unfold X8;rw[Ga];have c:=zD b;have:=Py l a;omega
theorem YX(s:ByteArray)(h:s.size<1000000000):(zW s.data.toList).length<=9+s.size:=by
 have a:s.data.toList.length=s.size:=by rw[FU];rfl
 unfold zW;rw[Ga,a];have:=zD (n:=s.size) (by omega);omega
theorem JZ{u:Ver}(h:VOk u):(ZC u).length<=200:=by
 unfold ZC;simp only[Ga];have g:=Sp h.nat.node;have i:=Sp h.nat.seq;have f:=RM [u.o0.toNat,u.o1.toNat,u.o2.toNat,u.o3.toNat] (by
  have a:=h.nat.o0;have b:=h.nat.o1;have c:=h.nat.o2;have d:=h.nat.o3;unfold isN at a b c d;intro x e;simp only[GH,Ev,Co] at e;rcases e with rfl|rfl|rfl|rfl <;> omega) (by simp only[Gn,GT];omega)
 have j:=YX u.value h.nat.size;have:=h.size;simp only[Gn,GT] at f;omega
theorem UJ(l:List Ver)(h:∀ u∈l,VOk u)(g:l.length<=5):(Zm l).length<=1009:=by
 unfold Zm;rw[Ga];have e:=zD (n:=l.length) (by omega);have b:∀ l:List Ver,(∀ u∈l,VOk u)->((l.map ZC).flatten).length<=200*l.length:=by
  intro l
  induction l with
  | nil=>intro _;simp
  | cons a l d =>
   intro h;have:=d (fun x c=>h x (Ge _ c));have f:=JZ (h a (Gh ..));simp only[Gw,Ei,Ga,Gn];omega
 have:=b l h;omega
theorem YG(l:List UInt8)(h:l.length<9223372036854775808):(zP l).length<=9+l.length:=by
 unfold zP;rw[Ga];have:=zD h;omega
theorem YY(l:List UInt8):(zt l).size=l.length:=rfl
theorem KP{n:Nat}(h:n<9223372036854775808):(zj (.inl n)).size<=2000:=by
 show(zt (XF n)).size<=2000;rw[YY];unfold XF;have b:=zD (n:=1) (by decide);have c:=zD h;have a:=YG (zk 1++zk n) (by rw[Ga];omega);rw[Ga] at a;omega
theorem YZ{a:ByteArray}{l:List Ver}(b:zz a=true)(h:∀ u∈l,VOk u)(d:l.length<=5):(zj (.inr (.inl (a,l)))).size<=2000:=by
 show(zt (XG a l)).size<=2000;rw[YY];unfold zz at b;simp only[Gr] at b;unfold XG;have e:=zD (n:=2) (by decide);have f:=YX a (by omega);have g:=UJ l h d;have c:=YG (zk 2++(zW a.data.toList++Zm l)) (by simp only[Ga];omega);simp only[Ga] at c;omega
theorem XN{b:Nat}{a:ByteArray}(h:b<9223372036854775808)(g:a.size<=64):(zj (.inr (.inr (.inl (b,a))))).size<=2000:=by
 show(zt (XS b a)).size<=2000;rw[YY];unfold XS;have d:=zD (n:=3) (by decide);have e:=YX a (by omega);have f:=zD h;have c:=YG (zk 3++(zk b++zW a.data.toList)) (by simp only[Ga];omega);simp only[Ga] at c;omega
theorem RN:(zj (.inr (.inr (.inr ())))).size<=2000:=by
 show(zt WN).size<=2000;rw[YY];unfold WN;have a:=zD (n:=4) (by decide);have b:=YG (zk 4) (by omega);omega
theorem Wo{a:ByteArray}{l:List Ver}(b:zz a=true)(h:∀ u∈l,VOk u)(c:l.length<=5):FOk (.inr (.inl (a,l))):=by
 unfold zz at b;simp only[Gr] at b;have:=UJ l h c;exact⟨fun v d=>(h v d).nat,by show l.length<_;omega,by show a.size<_;omega,by show(Zm l).length<=_;omega⟩
structure zO(S:SM):Prop where
 ym:Zz S.keys
 key:∀ e∈S.keys,YE e.2/\e.2.length<=4/\∀ u∈e.2,VOk u
 hlen:S.hints.length<=32
 names:∀ e∈S.keys,zz e.1=true
 some:∀ e∈S.keys,e.2≠[]
 text:∀ x∈S.hints,x.1<4/\x.2.size<=64
theorem Pz(K:Keys)(a:ByteArray):zr K a=[]\/∃ e∈K,e.1=a/\e.2=zr K a:=by
 cases ha:zY zh (K.map Prod.fst) a with
 | false=>exact .inl (by unfold zr;rw[ha];rfl)
 | true =>
  obtain⟨l,c,b⟩:=WU ha;refine .inr ⟨(a,l),?_,rfl,b.symm⟩;rw[c];simp
theorem zO.get{S:SM}(h:zO S)(a:ByteArray):YE (zr S.keys a)/\(zr S.keys a).length<=4/\∀ u∈zr S.keys a,VOk u:=by
 rcases Pz S.keys a with e|⟨e,d,_,c⟩
 .rw[e]
  exact⟨List.Pairwise.nil,by simp,fun u f=>absurd f (by simp)⟩
 .rw[<- c]
  exact h.key e d
theorem WZ{K:Keys}{b:ByteArray}{l:List Ver}:∀ e∈Zu K b l,e∈K\/e=(b,l):=by
 intro e a;simp only[Zu,Gf,Gg] at a;rcases a with(a|rfl)|a
 .exact .inl (GN a)
 .exact .inr rfl
 .exact .inl (GB a)
theorem V0{K:Keys}{b:ByteArray}:∀ e∈YC K b,e∈K:=by
 intro e a;unfold YC at a;split at a
 .rcases Gf.1 a with a|a
  .exact GN a
  .exact GB a
 .exact a
theorem TB{K:Keys}(a:ByteArray)(l:List Ver)(h:Zz K):Zz (Zu K a l):=by
 unfold Zz at h |-;cases ha:zY zh (K.map Prod.fst) a with
 | true =>
  obtain⟨g,f,_⟩:=WU ha;have e:(Zu K a l).map Prod.fst=K.map Prod.fst:=by
   have c:K.map Prod.fst=(K.take (low zh (K.map Prod.fst) a)++(a,g)::K.drop (low zh (K.map Prod.fst) a+1)).map Prod.fst:=FW (List.map Prod.fst) f;unfold Zu;rw[GA ha]
   conv=>rhs;rw[c]
   simp
  rw[e];exact h
 | false =>
  have:=Asc.ins Zk (b:=a) h (fun d e=>by rw[UY d,e] at ha;rw[zZ.2 rfl] at ha;cases ha);unfold Zu;simp only[ha,FI,Fk]
  simpa [List.map_take,List.map_drop] using this
theorem PA{K:Keys}(a:ByteArray)(h:Zz K):Zz (YC K a):=by
 unfold Zz at h |-;unfold YC;split
 .have:=Asc.del h (low zh (K.map Prod.fst) a)
  simpa [List.map_take,List.map_drop] using this
 .exact h
theorem PB(K:Keys)(a:ByteArray)(l:List Ver):(Zu K a l).length<=K.length+1:=by
 unfold Zu;simp only[Ga,Gd,Gk,Gi];split <;> omega
theorem PC(K:Keys)(a:ByteArray):(YC K a).length<=K.length:=by
 unfold YC;split
 .simp only[Ga,Gd,Gk];omega
 .exact Gb _
theorem zO.holds{S:SM}(h:zO S)(b:ByteArray)(f:zz b=true)(l:List Ver)(d:YE l)(i:l.length<=4)(j:∀ u∈l,VOk u):zO (S.holds b l):=by
 unfold SM.holds;split
 .exact⟨PA b h.ym,fun e a=>h.key e (V0 e a),h.hlen,fun e a=>h.names e (V0 e a),fun e a=>h.some e (V0 e a),h.text⟩
 .rename_i hne
  exact⟨TB b l h.ym,fun e a=>(WZ e a).elim (h.key e) (fun c=>by subst c;exact⟨d,i,j⟩),h.hlen,fun e a=>(WZ e a).elim (h.names e) (fun c=>by subst c;exact f),fun e a=>(WZ e a).elim (h.some e) (fun c=>by subst c;exact hne),h.text⟩
theorem KQ(S:SM)(a:ByteArray)(l:List Ver):(S.holds a l).keys.length<=S.keys.length+1:=by
 unfold SM.holds;simp only;split
 .exact FO (PC S.keys a)
 .exact PB S.keys a l
theorem zO.Ax{S:SM}(h:zO S)(n:Nat):zO {S with Ax:=n}:=⟨h.ym,h.key,h.hlen,h.names,h.some,h.text⟩
abbrev Seg:=List Fact × List UInt8
def Zp(s:Seg):List UInt8:=zF s.1++s.2
def Z6(a:List Seg):List Fact:=(a.map Prod.fst).flatten
theorem VG(a b:List Seg):Z6 (a++b)=Z6 a++Z6 b:=by simp[Z6]
def Torn(l:List UInt8):Prop:=∃ a,l<+:zP a/\l≠zP a/\a.length<9223372036854775808
theorem TC:Torn []:=⟨[],(Pp []).1,(Pp []).2,by decide⟩
def ZY(x:Fact):Prop:=FRead x/\(zn x).length<9223372036854775808
def WF(s:Seg):Prop:=(∀ x∈s.1,ZY x)/\Torn s.2
def Hv(a:List Seg):Prop:=∀ s∈a,WF s
end Go.Proofs.YtkhnggkkiefcdaaGreatDoor
