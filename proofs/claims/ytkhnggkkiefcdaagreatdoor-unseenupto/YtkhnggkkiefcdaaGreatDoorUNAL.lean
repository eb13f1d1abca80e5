/- larder: joined texts -/
import Derived.Test.YtkhnggkkiefcdaaGreatDoorUNAA
import Derived.Test.YtkhnggkkiefcdaaGreatDoorUNAE
import Derived.Test.YtkhnggkkiefcdaaGreatDoorUNAG
import Derived.Test.YtkhnggkkiefcdaaGreatDoorUNAH
import Derived.Test.YtkhnggkkiefcdaaGreatDoorUNAI
import Derived.Test.YtkhnggkkiefcdaaGreatDoorUNAJ
import Derived.Test.YtkhnggkkiefcdaaGreatDoorUNAK
import Derived.Lib.AtoiErrMem
import Derived.Lib.IfaceEq
import Derived.RangeFuncNested
import Derived.RangeFuncBound
import Derived.RangeFuncCalls
import Derived.RangeFuncLeaves
import Derived.Shelf.Abstract
import Derived.Shelf.RegionOpen
import Derived.WalkKit
import Derived.OwnWalkIn
import Derived.TacticsInMore
import Derived.LoopNIn
import Derived.LoopIn
import Derived.Test.YtkhnggkkiefcdaaGreatDoorChecked
namespace Go.Proofs.YtkhnggkkiefcdaaGreatDoor
open Go.RowKit
set_option maxRecDepth 100000
set_option maxHeartbeats 8000000
theorem Vt:∀(l r:List UInt8)(acc:Nat),Lib.decFrom acc (l++r)=(Lib.decFrom acc l).bind fun a=>Lib.decFrom a r
 | [],_,_=>rfl
 | b::l,r,acc=>by
  simp only[IU,Lib.decFrom];cases Lib.digitVal b with
  | none=>rfl
  | some d=>exact Vt l r _
theorem UK(d:Nat)(h:d<10):Lib.digitVal (UInt8.ofNat (48+d))=some d:=by
 have e:(UInt8.ofNat (48+d)).toNat=48+d:=by simp;omega
 unfold Lib.digitVal;rw[e,IC (by omega)]
 congr 1
 omega
theorem Sq(n:Nat):Lib.decFrom 0 (Lib.decDigits n)=some n:=by
 induction n using Nat.strongRecOn with
 | ind n a =>
  rw[Lib.decDigits];by_cases h:n<10
  .rw[CU h]
   simp only[Lib.decFrom,UK n h]
   congr 1
   omega
  .rw[dif_neg h,Vt,a (n / 10) (by omega)]
   simp only[Dm,Lib.decFrom,UK (n%10) (by omega)]
   congr 1
   omega
theorem Ow(n:Nat):∃ b r,Lib.decDigits n=b::r/\48<=b.toNat/\b.toNat<=57:=by
 induction n using Nat.strongRecOn with
 | ind n d =>
  rw[Lib.decDigits];by_cases h:n<10
  .rw[CU h]
   have e:(UInt8.ofNat (48+n)).toNat=48+n:=by simp;omega
   exact⟨_,[],rfl,by rw[e];omega,by rw[e];omega⟩
  .rw[dif_neg h]
   obtain⟨b,r,e,a,c⟩:=d (n / 10) (by omega);rw[e];exact⟨b,_,rfl,a,c⟩
theorem Wy:∀(k n:Nat),n<10^(k+1)->(Lib.decDigits n).length<=k+1
 | 0,n,h=>by rw[Lib.decDigits,CU (by simpa using h)];simp
 | k+1,n,h=>by
  rw[Lib.decDigits];by_cases a:n<10
  .rw[CU a];simp
  .rw[dif_neg a]
   have:=Wy k (n / 10) (by rw[CZ] at h;omega);simp;omega
theorem Ox(n:Nat):Lib.atoi (Lib.decDigits n)=some (n:Int):=by
 have c:=Sq n;obtain⟨b,r,e,a,g⟩:=Ow n;rw[e] at c |-;have d:(b==45)=false:=by
  rw[Gj];rintro rfl;simp at a
 have f:(b==43)=false:=by
  rw[Gj];rintro rfl;simp at a
 simp only[Lib.atoi,d,f,Lib.decNat,List.isEmpty_cons,c]
 rfl
theorem Wz(n:Nat):(XA n).data.toList=Lib.decDigits n:=by
 simp[XA,Lib.itoa]
theorem TJ(s p:ByteArray)(w:World) :
 Calls Tryz.prog 221 #[.string s,.string p] w fun e a=>e=.returned (.string ⟨(Lib.trimPrefix s.data.toList p.data.toList).toArray⟩)/\a=w:=Any.strings_TrimPrefix Tryz.xi s p w
theorem Ly(s:ByteArray)(n:Int)(b:s.size<=18)(h:Lib.atoi s.data.toList=some n)(w:World) :
 Calls Tryz.prog 220 #[.string s] w fun e a=>e=.returned (.tuple #[.int .i64 n,.nilIface])/\Fr Nil w a:=by
 refine CX (show Calls Tryz.prog 220 #[.string s] w _ from Any.strconv_Atoi Tryz.xj s n b h w) ?_;rintro e a ⟨rfl,t,rfl⟩;exact⟨rfl,Fr.Am (Lib.bytesWorld_below _ _ _)⟩
theorem KF(c:ByteArray)(n:Nat):Lib.trimPrefix (zu c n).data.toList c.data.toList=Lib.decDigits n:=by
 have e:(zu c n).data.toList=c.data.toList++Lib.decDigits n:=by
  simp only[zu,FV,FK,Wz]
 have d:∀ (a b:List UInt8),Lib.hasPrefix (a++b) a=true:=by
  intro a b;unfold Lib.hasPrefix;simp
 unfold Lib.trimPrefix;rw[e,d];simp
theorem Ul(a:ByteArray)(b:a.size<=1000)(n:Nat)(u:1<=n)(p:n<10^18)(w:World)(q:∀ i,Fr Nil w i->Tab i) :
 Calls Tryz.prog 185 #[.string a,.string (zu a n)] w fun e i=>e=.returned (.int .i64 n)/\Fr Nil w i:=by
 have t:n<1000000000000000000:=p;have h:=Z (TJ (zu a n) a w);rw[KF] at h;have o:(⟨(Lib.decDigits n).toArray⟩:ByteArray).size<=18:=Wy 17 n p;have l:=Z (fun g=>Ly ⟨(Lib.decDigits n).toArray⟩ n o (by simpa using Ox n) g);have m:=Z (fun g (f:Fr Nil w g)=>WK a b n (by omega) g (q g f));have r:¬(n:Int)<1:=by omega
 clear o q;generalize zu a n=s at h m |-;generalize (⟨(Lib.decDigits n).toArray⟩:ByteArray)=d at h l;go_enter Tryz.func185,Tryz.ntmps185;go_wp2_with fail;refine h.out.mono ?_;rintro e v ⟨rfl,k⟩;subst k;go_wp2_with fail;refine(l.out _).mono ?_;rintro e x ⟨rfl,c⟩;go_wp2_with fail;refine(m.out _ c).mono ?_;rintro e y ⟨rfl,j⟩;go_wp2_with fail;go_ret;exact⟨rfl,c.trans j⟩
def Yg(w:World):Prop:=4<w.heap.size/\∃ b a,w.cell? ⟨4,0,none⟩=some (.iface b a)
theorem Yg.fr{w w':World}{S:Nat->Prop}(h:Yg w)(f:Fr S w w')(e:¬S 4):Yg w':=by
 obtain⟨a,o,g,c⟩:=h;exact⟨Hu a f.size,o,g,(f.cell (p:=⟨4,0,none⟩) a e).trans c⟩
theorem UC(c s:ByteArray)(u:s.size<=1000000000)(w:World)(d:Yg w) :
 Calls Tryz.prog 246 #[.string c,.string s] w fun e g=>∃ k,e=.returned (.pointer (some ⟨k,0,none⟩))/\Fr Nil w g:=by
 have l:=Z (fun a (f:Fr Nil w a)=>show Calls Tryz.prog 125 #[.string s] a fun e g=>e=.returned (.string s)/\Fr Nil w g from
  (AnyPu.stringslite_Clone Tryz.ye s a (by omega)).mono fun e g ⟨r,o⟩=>⟨r,f.trans (Fr.Am o)⟩)
 obtain⟨t,j,i,b⟩:=d;have m:Hid (∀ a,Fr Nil w a->a.cell? ⟨4,0,none⟩=some (.iface j i)):=fun a f=>(f.cell (p:=⟨4,0,none⟩) t id).trans b;go_enter Tryz.func246,Tryz.ntmps246;go_wp2_with fail
 go_region_held3 (fun a=>a.cell? ⟨4,0,none⟩=some (.iface j i)) (first|assumption|go_keep) (first|(go_at_call 125;refine(l.out _ zd).mono ?_;rintro e v ⟨rfl,h⟩;have q:=m.out _ h))
 all_goals
  go_wp2
  go_ret;exact⟨_,rfl,zd⟩
theorem RH(c s:ByteArray)(l:s.size<=1000000000)(w:World)(a:Yg w)(T:TypeId)(g:T=Tryz.AF.t 167) :
 Calls Tryz.prog 236 #[.string c,.string s,.int .i64 0,.int .i64 0,.iface T (.int .i64 2)] w fun e m=>∃ k,e=.returned (.iface 336 (.pointer (some ⟨k,0,none⟩)))/\Fr Nil w m:=by
 have b:T=333:=by rw[g];rfl
 subst b;clear g;have i:=Z (fun h (f:Fr Nil w h)=>UC c s l h (a.fr f id));have j:∀ W,(binOp .eql 132 (.iface 333 (.int .i64 2)) (.iface 333 (.int .i64 2))).run Tryz.prog W=.ok (.bool true) W:=fun W=>Lib.run_eql_iface_int W 2 2 Tryz.underlying132 (by kernel_rfl) Tryz.underlying333;go_enter Tryz.func236,Tryz.ntmps236;go_wp2_with fail;refine(i.out w (U _ _)).mono ?_;rintro e o ⟨k,rfl,d⟩;go_wp2_with fail;go_ret;exact⟨k,rfl,d⟩
theorem Lz(s:ByteArray)(l:s.size<=18)(h:Lib.atoi s.data.toList=none)(w:World)(a:Yg w) :
 Calls Tryz.prog 220 #[.string s] w fun e c=>∃ k,e=.returned (.tuple #[.int .i64 0,.iface 336 (.pointer (some ⟨k,0,none⟩))])/\Fr Nil w c:=by
 have j:Hid (Calls Tryz.prog 235 #[.string s] w fun e c=>e=.returned (.tuple #[.int .i64 0,.iface 333 (.int .i64 2)])/\Fr Nil w c):=by
  refine CX (show Calls Tryz.prog 235 #[.string s] w _ from Any.internal_strconv_Atoi_fail Tryz.xf s l h w) ?_;rintro e c ⟨rfl,rfl|⟨t,rfl⟩⟩
  .exact⟨rfl,U _ _⟩
  .exact⟨rfl,Fr.Am (Lib.bytesWorld_below _ _ _)⟩
 have i:=Z (fun g (f:Fr Nil w g)=>RH ⟨#[65,116,111,105]⟩ s (by omega) g (a.fr f id) 333 rfl);clear a h;go_enter Tryz.func220,Tryz.ntmps220;go_wp2_with fail;refine j.out.mono ?_;rintro e m ⟨rfl,b⟩;go_wp2_with fail;refine(i.out m b).mono ?_;rintro e o ⟨k,rfl,d⟩;go_wp2_with fail;go_ret2;exact⟨k,rfl,b.trans d⟩
theorem YW(b a:ByteArray)(j:Lib.hasPrefix a.data.toList b.data.toList=false)(m:a.size<=18)(h:Lib.atoi a.data.toList=none)(w:World)(c:Yg w) :
 Calls Tryz.prog 185 #[.string b,.string a] w fun e o=>e=.returned (.int .i64 0)/\Fr Nil w o:=by
 have g:=Z (TJ a b w);have i:(⟨(Lib.trimPrefix a.data.toList b.data.toList).toArray⟩:ByteArray)=a:=by
  unfold Lib.trimPrefix;rw[j]
  apply Dv
  simp
 rw[i] at g;have l:=Z (Lz a m h w c);clear i c h j;go_enter Tryz.func185,Tryz.ntmps185;go_wp2_with fail;refine g.out.mono ?_;rintro e p ⟨rfl,f⟩;subst f;go_wp2_with fail;refine l.out.mono ?_;rintro e q ⟨k,rfl,d⟩;go_wp2_with fail;go_ret;exact⟨rfl,d⟩
end Go.Proofs.YtkhnggkkiefcdaaGreatDoor
namespace Go.Proofs.YtkhnggkkiefcdaaGreatDoor
open Go.RowKit Go.Shelf
set_option maxRecDepth 100000
set_option maxHeartbeats 8000000
attribute [local go_sem] GX
def Zp(l:List (Nat × ByteArray)):List Value:=l.flatMap fun e=>[.int .i64 e.1,.string e.2]
theorem XD(d:List (Nat × ByteArray)):(Zp d).length=d.length*2:=by
 induction d with
 | nil=>rfl
 | cons e d a=>simp only[Zp,Gt,Il,Iz,Ho] at a |-;omega
theorem Xo(d:List (Nat × ByteArray)):∀ (k:Nat)(h:k<d.length),(Zp d)[k*2]?=some (.int .i64 d[k].1)/\(Zp d)[k*2+1]?=some (.string d[k].2):=by
 induction d with
 | nil=>intro k h;simp at h
 | cons e d b =>
  intro k h;cases k with
  | zero=>exact⟨rfl,rfl⟩
  | succ k =>
   have:=b k (by simpa using h);have a:(k+1)*2=k*2+2:=by omega
   simp only[Zp,Gt,a] at this |-;exact this
theorem TK(a:Nat)(w:World) :
 Calls Tryz.prog 146 #[.pointer (some ⟨a,0,none⟩)] w fun e b =>
  e=.returned (.func (.func 187) #[] #[.pointer (some ⟨w.heap.size,0,none⟩)])/\b=w.alloc (.cells #[.pointer (some ⟨a,0,none⟩)] 211):=by
 go_enter Tryz.func146,Tryz.ntmps146
 go_wp2
 go_ret;exact⟨rfl,rfl⟩
end Go.Proofs.YtkhnggkkiefcdaaGreatDoor
namespace Go.Proofs.YtkhnggkkiefcdaaGreatDoor
open Go.RowKit
set_option maxRecDepth 100000
set_option maxHeartbeats 8000000
theorem LA:((Tryz.prog.info? 268).map fun i=>(i.zero.map (·.cells.size),i.size,i.bytes))=some (some 2,2,24):=by kernel_rfl
def UZ(w:World)(c:Option Nat)(n i:Nat)(h f:List Value)(e:Ending)(d:World):Prop :=
 ∃ g a,e=.returned (.slice (some ⟨g,0,none⟩) (n+1) a)/\d.ownsRow 0 268 2 (.slice (some ⟨g,0,none⟩) (n+1) a) (n+1) (Y3 2 i h f)/\Fr (fun b=>c=some b) w d/\(c=some g\/w.heap.size<=g)
theorem Oy(v:Value)(n:Nat)(d f:List Value)(r:Nat)(w:World)(b:w.ownsRow 0 268 2 v n d)(t:f.length=2)(s:∀ u∈f,u.oneCell'=true)(G:Blk w r f 268)(p:(n+1)*24<=140737488355328) :
 Calls Tryz.prog 223 #[v,.int .i64 n,.slice (some ⟨r,0,none⟩) 1 1] w fun e c=>UZ w v.ownBlock n n d f e c:=by
 have q:∀ ty,∃ m c,(Builtin.append_ #[261,261] ty #[v,.slice (some ⟨r,0,none⟩) 1 1]).run Tryz.prog w=.ok m c/\App w v 268 2 (n+1) (d++f) m c:=fun ty =>
  zt (P:=Tryz.prog) 261 ty 268 2 24 FF LA (by omega) v n d b ⟨r,0,none⟩ 1 1 f (by rw[t]) (fun j u E=>by rw[Hp,Hw];rw[G.cell];exact E) s (by unfold maxLen;omega) p
 have k:∀ m c,App w v 268 2 (n+1) (d++f) m c->UZ w v.ownBlock n n d f (.returned m) c:=by
  rintro m c ⟨y,C,o⟩;obtain⟨g,l,rfl,_,_⟩:=y.form (by omega);refine⟨g,l,rfl,?_,(Fr.BI C).mono (fun i _ h=>h),?_⟩
  .have e1:d.take (n*2)=d:=IH (by rw[b.1];exact Io _)
   have A:d.drop (n*2)=[]:=Hn (by rw[b.1];exact Io _);unfold Y3;rw[e1,A,IV];exact y
  .rcases o with o|o
   .left;rw[<- o];rfl
   .right;have:g=w.heap.size:=by simpa [Value.ownBlock] using o
    omega
 have D:=zG b;unfold maxLen at D;obtain⟨a,l,rfl⟩:=zg b;have x:=Z k;clear k b;generalize (Value.slice a n l).ownBlock=I at x |-;go_enter Tryz.func223,Tryz.ntmps223
 go_wp2_with (at_builtin;go_must (refine zJ rfl _ _ _ _ rfl _ _ (by rfl) (by rfl) (q _) ?_);rintro m c B)
 all_goals
  go_ret;exact x.out _ _ B
theorem LB(w:World)(k m l i h f:Nat)(a g:Nat)(j c:List Value)(d:Blk w a j 268)(p:Blk w g c 268)(b:a≠g)(o:c.length≠0) :
 (callFunc 240 #[.slice (some ⟨a,k,none⟩) m l,.slice (some ⟨g,i,none⟩) h f]).run Tryz.prog w=.ok (.value (.bool false)) w:=by
 rw[Gf Tryz.func240 (by kernel_rfl) (by kernel_rfl) (by kernel_rfl) (e:=Extern.SlicesOverlaps.overlaps #[261,261] #[4]) (by kernel_rfl),
  Dc w 261 4 268 FF 2 Tryz.sizeOf268 ⟨a,k,none⟩ ⟨g,i,none⟩ m l h f b 268 268 j.length c.length d.shape p.shape o (d.frozen _) (d.frozen _)]
 rfl
theorem RI(g n d i:Nat)(c l k:List Value)(A:Nat)(w:World)(L:Blk w g c 268)(h:c.length=d*2)(O:c.take (n*2)=l)(X:∀ u∈l,u.oneCell'=true)(hi:i<n)(a:n+1<=d)(I:d<=maxLen)
 (r:k.length=2)(K:∀ u∈k,u.oneCell'=true)(R:Blk w A k 268)(M:A≠g) :
 Calls Tryz.prog 223 #[.slice (some ⟨g,0,none⟩) n d,.int .i64 i,.slice (some ⟨A,0,none⟩) 1 1] w fun e w'=>UZ w (some g) n i l k e w':=by
 have Q:=fun va vl vc bo bl bc=>LB w va vl vc bo bl bc A g k c R L M (by omega);have v:l.length=n*2:=by rw[<- O,Ip,h];exact Hx (IZ _ (by omega))
 have q:(l.drop (i*2)).length=(n-i)*2:=by rw[Iw,v,Dx]
 have J:∀ j u,(l.drop (i*2))[j]?=some u->c[i*2+j]?=some u:=by
  intro j u s;rw[GI] at s;have a0:=(IQ.1 s).1;rw[<- O,Gc (by omega)] at s;exact s
 have p:∀ ty B T,(Builtin.copy_ #[261,261] ty #[.slice (some ⟨g,(i+1)*2,none⟩) (n-i) B,.slice (some ⟨g,i*2,none⟩) (n+1-i) T]).run Tryz.prog w.drew=_:=fun ty B T =>
  Zm 261 268 ty 2 FF (by kernel_rfl) g ((i+1)*2) (n-i) B ⟨g,i*2,none⟩ (n+1-i) T c (l.drop (i*2)) 268 L
   (by rw[q];congr 1;simp only[FG];split <;> omega) (fun j u s=>by rw[Hp,show w.drew.cell? ⟨g,i*2+j,none⟩=c[i*2+j]? from L.drew.cell _];exact J j u s)
   (by rw[q,h];have:=IZ 2 a;have e:(i+1)*2+(n-i)*2=(n+1)*2:=(by rw[<- GM];congr 1;omega);omega)
   (fun u s=>X u (IK s))
 obtain⟨f,m⟩:∃ f,f=c.take ((i+1)*2)++l.drop (i*2)++c.drop ((i+1)*2+(l.drop (i*2)).length):=⟨_,rfl⟩;rw[<- m] at p;have t:Blk (w.drew.setRow g f.toArray) g f 268:=L.drew.setRow f;have D:Blk (w.drew.setRow g f.toArray) A k 268:=R.drew.of_heap (Ek _ g A _ M);have o:f.length=d*2:=by
  have:=IZ 2 a;have e:(i+1)*2+(n-i)*2=(n+1)*2:=by rw[<- GM];congr 1;omega
  rw[m];simp only[Il,Ip,Iw,v,h];omega
 have C:Fr (fun b=>some g=some b) w (w.drew.setRow g f.toArray):=Fr.setRow (S:=fun b=>some g=some b) ((U _ w).drew) (fun _=>rfl) _;obtain⟨N,E⟩:∃ N,N=w.drew.setRow g f.toArray:=⟨_,rfl⟩;rw[<- E] at p t D C;clear E;have x:∀ ty B,(Builtin.copy_ #[261,261] ty #[.slice (some ⟨g,i*2,none⟩) (n+1-i) B,.slice (some ⟨A,0,none⟩) 1 1]).run Tryz.prog N=_:=fun ty B =>
  Zm 261 268 ty 2 FF (by kernel_rfl) g (i*2) (n+1-i) B ⟨A,0,none⟩ 1 1 f k 268 t
   (by rw[r];have:Nat.min 1 (n+1-i)=1:=(by simp only[FG];split <;> omega);rw[this]) (fun j u s=>by rw[Hp,Hw,D.cell];exact s)
   (by rw[r,o];have:=IZ 2 a;have e:i*2+2=(i+1)*2:=(by rw[GM,Dy]);have:=IZ 2 (show i+1<=n+1 by omega);omega)
   K
 have y:UZ w (some g) n i l k (.returned (.slice (some ⟨g,0,none⟩) (n+1) d)) (N.setRow g (f.take (i*2)++k++f.drop (i*2+k.length)).toArray):=by
  have e0:=IZ 2 a;have e1:i*2+2=(i+1)*2:=by rw[GM,Dy]
  have e2:(i+1)*2+(n-i)*2=(n+1)*2:=by rw[<- GM];congr 1;omega
  have e3:=IZ 2 (show i<=n by omega);refine⟨g,d,rfl,Yi (t.setRow _) a I ?_ ?_,Fr.setRow (S:=fun b=>some g=some b) C (fun _=>rfl) _,.inl rfl⟩
  .rw[Il,Il,Ip,Iw,r,o]
   omega
  .unfold Y3
   have Y:f.take (i*2)=l.take (i*2):=by
    rw[m,<- O,Ha (by rw[Il,Ip,h];omega),Ha (by rw[Ip,h];omega),Fh,Fh]
    congr 1
    omega
   have a2:f.drop (i*2+k.length)=l.drop (i*2)++c.drop ((n+1)*2):=by
    have e4:(c.take ((i+1)*2)).length=i*2+k.length:=by rw[Ip,h];omega
    rw[m,IA,<- e4,Fi,q,e2]
   rw[Y,a2,<- IA,Gb (by rw[Il,Il,q,r,Ip,v];omega)]
 obtain⟨V,G⟩:∃ V,V=f.take (i*2)++k++f.drop (i*2+k.length):=⟨_,rfl⟩;rw[<- G] at x y;clear t D C o J L R q v X K m G O r h;unfold maxLen at I;have a3:¬(i:Int)=(n:Int):=by omega
 have a4:¬(d:Int)<(n:Int)+1:=by omega
 have a5:¬d=i:=by omega
 have a6:¬d=i+1:=by omega
 have a7:IntKind.i64.wrap ((i:Int)+1)=(i:Int)+1:=by rw[Hg];omega
 have a8:(0:Int)<=(i:Int)+1:=by omega
 have a9:((i:Int)+1).toNat=i+1:=by omega
 have b0:(i:Int)<=(n:Int)+1:=by omega
 have b1:(i:Int)<=(n:Int):=by omega
 go_enter Tryz.func223,Tryz.ntmps223
 go_wp2_with (simp only[Q])
 go_region_law (refine Yu rfl _ _ 261 261 rfl _ _ (by simp[Act.eval,Act.put]) (by simp[Act.eval,Act.put]) (p _ _ _) ?_)
 go_wp2_with (at_builtin;go_must (refine Yk rfl _ _ 261 261 rfl _ _ (by rfl) (by rfl) (x _ _) ?_))
 go_ret;exact y
theorem P3(g n i:Nat)(b m:List Value)(vb:Nat)(w:World)(hg:Blk w g b 268)(f:b.length=n*2)(h1:∀ u∈b,u.oneCell'=true)(hi:i<n)
 (q:m.length=2)(a0:∀ u∈m,u.oneCell'=true)(hv:Blk w vb m 268)(Y:(n+1)*24<=140737488355328) :
 Calls Tryz.prog 223 #[.slice (some ⟨g,0,none⟩) n n,.int .i64 i,.slice (some ⟨vb,0,none⟩) 1 1] w fun e w'=>UZ w (some g) n i b m e w':=by
 obtain⟨i0,z,a4,a6,S,K,a7⟩:=Y0 LA;have s:i+(n+1-i)=n+1:=by omega
 have a:∀ ty,(Builtin.append_ #[261,3] ty #[.slice (some ⟨g,0,none⟩) i n,.int .i64 ((n+1-i:Nat):Int)]).run Tryz.prog w=_:=fun ty =>
  EP (P:=Tryz.prog) w 261 3 ty 268 i0 z .i64 .i64 FF Eh a4 a6 (some ⟨g,0,none⟩) i n (b.take (i*2))
   (by rw[S];exact Ed (P:=Tryz.prog) w.drew 2 i ⟨g,0,none⟩ i n (b.take (i*2)) (by rw[Ip,f];omega) (fun j u t=>by
     have a8:=(IQ.1 t).1;rw[Hp,Hw,hg.drew.cell];rw[Ip] at a8;rw[Gc (by omega)] at t;exact t))
   (n+1-i) (by omega) (by rw[S];omega) (by omega) (by omega) (by rw[K];omega) (DJ (by omega) (by rw[K,s];exact Y))
 rw[s] at a;have a2:=CO w (n+1) n 268;have L:=EU w (n+1) n 268 (by unfold maxLen;omega);generalize grownCap w (n+1) n 268=c at a a2 L;obtain⟨d,v⟩:∃ d:List Value,d=b.take (i*2)++(Builtin.zeroCells z.cells (n+1-i)).toList++(Builtin.zeroCells z.cells (c-(n+1))).toList:=⟨_,rfl⟩;have C:(b.take (i*2)).toArray++Builtin.zeroCells z.cells (n+1-i)++Builtin.zeroCells z.cells (c-(n+1))=d.toArray:=by rw[v];apply EA;simp
 rw[C] at a;have o:d.length=c*2:=by
  rw[v];simp only[Il,Ip,GF,DI,a7,f];omega
 have D:d.take (i*2)=b.take (i*2):=by
  have e:(b.take (i*2)).length=i*2:=by rw[Ip,f];omega
  rw[v,IA];exact Gb e
 have a3:=hg.lt;have a5:=hv.lt;have r:Blk (w.drew.alloc (.cells d.toArray 268)) w.heap.size d 268:=Blk.new w.drew d _;have T:Blk (w.drew.alloc (.cells d.toArray 268)) vb m 268:=hv.drew.alloc _;have Q:Blk (w.drew.alloc (.cells d.toArray 268)) g b 268:=hg.drew.alloc _;have M:Fr Nil w (w.drew.alloc (.cells d.toArray 268)):=((U _ w).drew).alloc _;obtain⟨N,hN⟩:∃ N,N=w.heap.size:=⟨_,rfl⟩;rw[<- hN] at a r a3 a5;obtain⟨I,V⟩:∃ I,I=w.drew.alloc (.cells d.toArray 268):=⟨_,rfl⟩;rw[<- V] at a r T Q M;clear V;obtain⟨k,x⟩:∃ k,k=d.take (i*2)++m++d.drop (i*2+m.length):=⟨_,rfl⟩;have p:∀ ty J,(Builtin.copy_ #[261,261] ty #[.slice (some ⟨N,i*2,none⟩) (n+1-i) J,.slice (some ⟨vb,0,none⟩) 1 1]).run Tryz.prog I=_:=fun ty J =>
  Zm 261 268 ty 2 FF (by kernel_rfl) N (i*2) (n+1-i) J ⟨vb,0,none⟩ 1 1 d m 268 r
   (by rw[q];have:Nat.min 1 (n+1-i)=1:=(by simp only[FG];split <;> omega);rw[this]) (fun j u t=>by rw[Hp,Hw,T.cell];exact t)
   (by rw[q,o];omega)
   a0
 rw[<- x] at p;have l:k.length=c*2:=by
  rw[x];simp only[Il,Ip,Iw,q,o];omega
 have E:k.take ((i+1)*2)=b.take (i*2)++m:=by
  have e:(b.take (i*2)++m).length=(i+1)*2:=by rw[Il,Ip,f,q];omega
  rw[x,D];exact Gb e
 have B:Blk (I.setRow N k.toArray) N k 268:=r.setRow k;have R:Blk (I.setRow N k.toArray) g b 268:=Q.of_heap (Ek _ N g _ (by omega));have O:Fr Nil w (I.setRow N k.toArray):=M.setRow (fun h=>by omega) _;obtain⟨W2,X⟩:∃ W2,W2=I.setRow N k.toArray:=⟨_,rfl⟩;rw[<- X] at p B R O;clear X;have A:(b.drop (i*2)).length=(n-i)*2:=by rw[Iw,f,Dx]
 obtain⟨c3,y⟩:∃ c3,c3=k.take ((i+1)*2)++b.drop (i*2)++k.drop ((i+1)*2+(b.drop (i*2)).length):=⟨_,rfl⟩;have G:∀ ty J sc,(Builtin.copy_ #[261,261] ty #[.slice (some ⟨N,(i+1)*2,none⟩) (n-i) J,.slice (some ⟨g,i*2,none⟩) (n-i) sc]).run Tryz.prog W2.drew=_:=fun ty J sc =>
  Zm 261 268 ty 2 FF (by kernel_rfl) N ((i+1)*2) (n-i) J ⟨g,i*2,none⟩ (n-i) sc k (b.drop (i*2)) 268 B.drew
   (by rw[A];congr 1;simp only[FG];split <;> omega) (fun j u t=>by rw[Hp,R.drew.cell];rw[GI] at t;exact t)
   (by rw[A,l];omega)
   (fun u t=>h1 u (IK t))
 rw[<- y] at G;have a1:UZ w (some g) n i b m (.returned (.slice (some ⟨N,0,none⟩) (n+1) c)) (W2.drew.setRow N c3.toArray):=by
  refine⟨N,c,rfl,Yi (B.drew.setRow _) a2 L ?_ ?_,(O.drew.setRow (fun h=>by omega) _).mono (fun _ _ h=>absurd h id),.inr (by omega)⟩
  .rw[y]
   simp only[Il,Ip,Iw,f,l];omega
  .have e:(k.take ((i+1)*2)++b.drop (i*2)).length=(n+1)*2:=by rw[Il,Ip,l,A];omega
   rw[y,Gb e,E]
   rfl
 clear D E C y x v r T Q M B R O A l o h1 a0 q f hv hg hN s a7 K S a6 a4;unfold maxLen at L;have a9:¬(i:Int)=(n:Int):=by omega
 have b0:¬n=i:=by omega
 have b1:¬c=i+1:=by omega
 have b2:¬c=i:=by omega
 have b3:(n:Int)+1-i=((n+1-i:Nat):Int):=by omega
 have b4:IntKind.i64.wrap ((i:Int)+1)=(i:Int)+1:=by rw[Hg];omega
 have b5:(0:Int)<=(i:Int)+1:=by omega
 have b6:((i:Int)+1).toNat=i+1:=by omega
 have b7:(i:Int)<=(n:Int)+1:=by omega
 have b8:(i:Int)<=(n:Int):=by omega
 go_enter Tryz.func223,Tryz.ntmps223
 go_wp2_with (at_builtin;go_must (first|(refine Dh _ rfl _ _ _ _ rfl _ _ (by rfl) (by rfl) _ _ (a _) ?_)|(refine Yk rfl _ _ 261 261 rfl _ _ (by rfl) (by rfl) (p _ _) ?_)))
 go_region_law (refine Yu rfl _ _ 261 261 rfl _ _ (by simp[Act.eval,Act.put]) (by simp[Act.eval,Act.put]) (G _ _ _) ?_)
 go_wp2
 go_ret;exact a1
theorem RJ(v:Value)(n i:Nat)(k d:List Value)(j:Nat)(w:World)(b:w.ownsRow 0 268 2 v n k)(r:∀ u∈k,u.oneCell'=true)(B:i<=n)
 (h:d.length=2)(f:∀ u∈d,u.oneCell'=true)(q:Blk w j d 268)(p:v.ownBlock≠some j)(a:(n+1)*24<=140737488355328) :
 Calls Tryz.prog 223 #[v,.int .i64 i,.slice (some ⟨j,0,none⟩) 1 1] w fun e A=>UZ w v.ownBlock n i k d e A:=by
 rcases GO i n with m|y
 .rcases Yj b with⟨_,h0,_⟩|⟨g,cap,c,rfl,hg,hn,hm,hc,ht⟩
  .omega
  .have hne':j≠g:=fun e=>p (by rw[e];rfl)
   rcases GO n cap with t|t
   .exact RI g n cap i c k d j w hg hc ht r m t hm h f q hne'
   .have e:cap=n:=by omega
    subst e;have o:c=k:=by rw[<- ht];exact(IH (by omega)).symm
    subst o;exact P3 g cap i c d j w hg hc r m h f q a
 .have e:i=n:=by omega
  subst e;exact Oy v i k d j w b h f q a
def zQ(a b:Nat):Bool:=decide (a<b)
theorem WS:Strict zQ where
 xx a:=by simp[zQ]
 trans a b c h1 h2:=by simp only[zQ,IF] at *;omega
 xK a b h1 h2:=by simp only[zQ,IF,Gn] at *;omega
theorem P4{a b:Nat}:XO a b<0↔zQ a b=true:=by
 unfold XO zQ;rw[IF];split
 .rename_i h;constructor <;> intro <;> omega
 .rename_i h
  split
  .constructor <;> intro <;> omega
  .constructor <;> intro <;> omega
theorem LC{a b:Nat}:XO a b=0↔(a==b)=true:=by
 unfold XO;rw[beq_iff_eq];split
 .rename_i h;constructor <;> intro <;> omega
 .rename_i h
  split
  .constructor <;> intro <;> omega
  .constructor <;> intro <;> omega
theorem Wo(a b:Nat)(v:ByteArray)(w:World) :
 Calls Tryz.prog 239 #[.agg #[.int .i64 a,.string v],.int .i64 b] w fun e d=>e=.returned (.int .i64 (XO a b))/\Fr Nil w d:=by
 go_enter Tryz.func239,Tryz.ntmps239
 go_wp2_with (go_at_call 180;refine(TB _ _ _).mono ?_;rintro e f ⟨rfl,c⟩;subst c)
 go_ret;exact⟨rfl,(by repeat' first|exact U _ _|(with_reducible assumption)|refine Fr.drewN ?_ _|refine Fr.drew ?_|refine Fr.alloc ?_ _|refine Fr.set ?_ ?_ _|(intro _;rfl))⟩
theorem RK(v:Value)(l:List (Nat × ByteArray))(s:Nat)(w:World)(h:w.ownsRow 0 268 2 v l.length (Zp l))(K:Asc zQ (l.map Prod.fst))(a0:l.length<4611686018427387904) :
 Calls Tryz.prog 238 #[v,.int .i64 s,.func (.func 239) #[] #[]] w fun e I =>
  e=.returned (.tuple #[.int .i64 (low zQ (l.map Prod.fst) s),.bool (zZ zQ (l.map Prod.fst) s)])/\Fr Nil w I:=by
 have hn:=zG h;unfold maxLen at hn;obtain⟨a,t,rfl⟩:=zg h;go_enter Tryz.func238,Tryz.ntmps238
 go_wp2
 go_loopw [9,10] (fun E G I=>∃ i j:Nat,i<=j/\j<=l.length/\E=.int .i64 i/\G=.int .i64 j/\(∀ k (d:k<l.length),k<i->zQ l[k].1 s=true)/\(∀ k (d:k<l.length),j<=k->zQ l[k].1 s=false)/\Fr Nil w I) (fun E G _=>(intOf G).toNat-(intOf E).toNat)
 case atStart=>exact⟨0,l.length,II _,Io _,rfl,rfl,fun k _ d=>absurd d (Hj _),fun k d X=>absurd d (by omega),U _ _⟩
 case round =>
  obtain⟨i,j,V,J,rfl,rfl,c,u,p⟩:=hrel;by_cases Y:i<j
  .obtain⟨g,rfl⟩:∃ g,a=some ⟨g,0,none⟩:=by
    rcases h.2 with⟨c,O⟩|⟨g,t,A,c,_⟩
    .omega
    .simp at c;exact⟨g,c.1⟩
   have D:(i+j) / 2<l.length:=by omega
   have T:=own_cell? (ze h p (fun _ _=>id)) ((i+j) / 2*2) _ (Xo l _ D).1;have B:=own_cell? (ze h p (fun _ _=>id)) ((i+j) / 2*2+1) _ (Xo l _ D).2;have M:=Z c;have N:=Z u;clear c u;have Q:(i:Int)<=4611686018427387903:=by omega
   have R:(j:Int)<=4611686018427387903:=by omega
   have S:(i:Int)+j<=9223372036854775807:=by omega
   have hq:(((i:Int)+j) / 2).toNat=(i+j) / 2:=by omega
   cases hl:zQ l[(i+j) / 2].1 s with
   | true =>
    have r:=Z hl;have C:XO l[(i+j) / 2].1 s<0:=P4.2 hl;clear hl
    go_wp2_with (go_at_call 239;refine(Wo _ _ _ _).mono ?_;rintro e L ⟨rfl,m⟩)
    refine⟨⟨(i+j) / 2+1,j,by omega,J,by go_num,rfl,fun k d q=>?_,N.out,p.trans m⟩,by simp[intOf];omega⟩;by_cases e:k=(i+j) / 2
    .subst e;exact r.out
    .exact WS.trans _ _ _ (K.fst (i:=k) (j:=(i+j) / 2) (by omega) D) r.out
   | false =>
    have r:=Z hl;have C:¬XO l[(i+j) / 2].1 s<0:=by rw[P4];simp[hl]
    clear hl
    go_wp2_with (go_at_call 239;refine(Wo _ _ _ _).mono ?_;rintro e L ⟨rfl,m⟩)
    refine⟨⟨i,(i+j) / 2,by omega,by omega,rfl,by go_num,M.out,fun k d q=>?_,p.trans m⟩,by simp[intOf];omega⟩;by_cases e:k=(i+j) / 2
    .subst e;exact r.out
    .cases hk2:zQ l[k].1 s with
     | false=>rfl
     | true =>
      have:=WS.trans _ _ _ (K.fst (i:=(i+j) / 2) (j:=k) (by omega) d) hk2;rw[r.out] at this;cases this
  .have he:i=j:=by omega
   subst he;have b:low zQ (l.map Prod.fst) s=i:=Vn zQ s _ i (by simpa using J) (fun k d q=>by simpa using c k (by simpa using d) q) (fun d=>by simpa using u i (by simpa using d) (Io _));by_cases o:i<l.length
   .obtain⟨g,rfl⟩:∃ g,a=some ⟨g,0,none⟩:=by
     rcases h.2 with⟨c,O⟩|⟨g,t,A,c,_⟩
     .omega
     .simp at c;exact⟨g,c.1⟩
    have T:=own_cell? (ze h p (fun _ _=>id)) (i*2) _ (Xo l _ o).1;have B:=own_cell? (ze h p (fun _ _=>id)) (i*2+1) _ (Xo l _ o).2;have f:zZ zQ (l.map Prod.fst) s=(XO l[i].1 s==0):=by
     rw[XL o b,CK,<- LC];simp
    have y:=Z b;have x:=Z f;clear c u b f
    go_wp2_with (go_at_call 239;refine(Wo _ _ _ _).mono ?_;rintro e L ⟨rfl,m⟩)
    go_ret2;rw[y.out,x.out];exact⟨rfl,p.trans m⟩
   .have f:zZ zQ (l.map Prod.fst) s=false:=WE (by rw[b];simpa using o)
    have y:=Z b;have x:=Z f;clear c u b f
    go_wp2
    go_ret2;rw[y.out,x.out];exact⟨rfl,p⟩
abbrev ZI (l:List (Nat × ByteArray)):List Nat:=l.map Prod.fst
structure WT(w:World)(v:Value)(l:List (Nat × ByteArray)):Prop where
 own:w.ownsRow 0 268 2 v l.length (Zp l)
 Aa:Asc zQ (ZI l)
theorem WT.fr{w w':World}{v:Value}{l:List (Nat × ByteArray)}{S:Nat->Prop}(h:WT w v l)(f:Fr S w w')(a:∀ k,v.ownBlock=some k->¬S k):WT w' v l :=
 ⟨ze h.own f a,h.Aa⟩
theorem P5(v:Value)(l:List (Nat × ByteArray))(s:Nat)(b:Nat)(w:World)(g:w.cell? ⟨b,0,none⟩=some v)(h:WT w v l)(c:l.length<4611686018427387904) :
 Calls Tryz.prog 222 #[.pointer (some ⟨b,0,none⟩),.int .i64 s] w fun e f =>
  e=.returned (.tuple #[.int .i64 (low zQ (ZI l) s),.bool (zZ zQ (ZI l) s)])/\Fr Nil w f:=by
 have d:=Z (RK v l s w h.own h.Aa c);clear h;go_enter Tryz.func222,Tryz.ntmps222
 go_wp2_with (refine d.out.mono ?_;rintro e i ⟨rfl,a⟩)
 go_ret2;exact⟨rfl,a⟩
theorem LE(l:List (Nat × ByteArray)):∀ u∈Zp l,u.oneCell'=true:=by
 intro u a;simp only[Zp,EI] at a;obtain⟨e,b,a⟩:=a;simp at a;rcases a with rfl|rfl <;> rfl
theorem XE(a b:List (Nat × ByteArray)):Zp (a++b)=Zp a++Zp b:=by simp[Zp]
theorem Ml(l:List (Nat × ByteArray))(i:Nat):(Zp l).take (i*2)=Zp (l.take i):=by
 rcases EJ i l.length with h|h
 .have e:=XE (l.take i) (l.drop i)
  rw[IG] at e;rw[e];exact Gb (by rw[XD,Ip,Hx h])
 .rw[IH h,IH (by rw[XD];omega)]
theorem Mm(l:List (Nat × ByteArray))(i:Nat):(Zp l).drop (i*2)=Zp (l.drop i):=by
 rcases EJ i l.length with h|h
 .have e:=XE (l.take i) (l.drop i)
  rw[IG] at e;rw[e];exact CL (by rw[XD,Ip,Hx h])
 .rw[Hn h,Hn (by rw[XD];omega)]
  rfl
def Wr(l:List (Nat × ByteArray))(s:Nat)(x:ByteArray):List (Nat × ByteArray):=l.take (low zQ (ZI l) s)++[(s,x)]++l.drop (low zQ (ZI l) s)
theorem KG{l:List (Nat × ByteArray)}(s:Nat)(x:ByteArray)(h:Asc zQ (ZI l))(a:zZ zQ (ZI l) s=false):Asc zQ (ZI (Wr l s x)):=by
 have:=Asc.ins WS (b:=s) h (fun c e=>by rw[Uw c,e] at a;simp at a);unfold Wr
 simpa [ZI,List.map_take,List.map_drop] using this
theorem UL{l:List (Nat × ByteArray)}{s:Nat}{x:ByteArray}:(Wr l s x).length=l.length+1:=by
 have:=Vm zQ (ZI l) s;simp only[IE] at this;simp[Wr];omega
def I5(w:World)(b:Nat)(t:TypeId)(v:Value)(a:List Value)(l:List (Nat × ByteArray))(d:World):Prop :=
 ∃ c,Blk d b (c::a) t/\WT d c l/\Fr (fun k=>k=b\/v.ownBlock=some k) w d/\(∀ k,c.ownBlock=some k->v.ownBlock=some k\/w.heap.size<=k)
theorem Mn(v:Value)(a:List Value)(l:List (Nat × ByteArray))(s:Nat)(x:ByteArray)(b:Nat)(t:TypeId)(w:World)(E:Blk w b (v::a) t)(ht:t≠268)(h:WT w v l)
 (a1:l.length<1099511627776)(V:zZ zQ (ZI l) s=false) :
 Calls Tryz.prog 186 #[.pointer (some ⟨b,0,none⟩),.int .i64 s,.string x] w fun e w' =>
  e=.returned (.tuple #[])/\I5 w b t v a (Wr l s x) w':=by
 have M:w.cell? ⟨b,0,none⟩=some v:=by rw[E.cell];rfl
 have R:=Z (P5 v l s b w M h (by omega));have hn:=zG h.own;unfold maxLen at hn;have K:=Z h;have Q:=Z E;clear M h E;go_enter Tryz.func186,Tryz.ntmps186;go_wp2_with fail;refine R.out.mono ?_;rintro e j ⟨rfl,p⟩;have m:=Q.out.fr p id;have Y:j.cell? ⟨b,0,none⟩=some v:=by rw[m.cell];rfl
 have a2:=m.frozen 0;go_wp2_with fail;have L:Blk (j.alloc (.cells #[.int .i64 s,.string x] 268)) j.heap.size [.int .i64 s,.string x] 268:=Blk.new j [.int .i64 s,.string x] _;have c:=m.alloc (.cells #[.int .i64 s,.string x] 268);have d:Fr Nil w (j.alloc (.cells #[.int .i64 s,.string x] 268)):=p.alloc _;have G:∀ k,v.ownBlock=some k->k<j.heap.size:=fun k q=>own_lt (K.out.fr p (fun _ _=>id)).own q;generalize j.alloc (.cells #[.int .i64 s,.string x] 268)=w2 at L c d |-;have D:=K.out.fr d (fun _ _=>id);have C:v.ownBlock≠some b:=zi D.own c ht;have A:=Vm zQ (ZI l) s;simp only[IE] at A;refine(RJ v l.length (low zQ (ZI l) s) (Zp l) [.int .i64 s,.string x] j.heap.size w2 D.own (LE l) A rfl (by intro u N;simp at N;rcases N with rfl|rfl <;> rfl) L (fun e=>by have:=G _ e;omega) (by omega)).mono ?_;rintro e O ⟨g,r,rfl,I,y,B⟩;have o:=c.fr y C;have a0:O.cell? ⟨b,0,none⟩=some v:=by rw[o.cell];rfl
 have a3:=o.frozen 0;have X:b≠g:=by
  rcases B with h|h
  .intro e;exact C (by rw[h,e])
  .have:=c.lt;omega
 have f:I5 w b t v a (Wr l s x) (O.setCell ⟨b,0,none⟩ (.slice (some ⟨g,0,none⟩) (l.length+1) r)):=by
  have J:=UL (l:=l) (s:=s) (x:=x);refine⟨.slice (some ⟨g,0,none⟩) (l.length+1) r,o.set 0 _,⟨?_,KG s _ D.Aa V⟩,Fr.set ((d.mono (fun _ _ h=>absurd h id)).trans' y (fun i _ h=>.inr h)) (fun _=>.inl rfl) _,fun k q=>?_⟩
  .rw[J]
   have e:Zp (Wr l s x)=Y3 2 (low zQ (ZI l) s) (Zp l) [.int .i64 s,.string x]:=by
    unfold Wr Y3;rw[XE,XE,Ml,Mm]
    rfl
   rw[e];exact ze I (Fr.set (S:=fun k=>k=b) (U _ _) (fun _=>rfl) _) (fun k q=>by simp[Value.ownBlock] at q;omega)
  .simp[Value.ownBlock] at q
   subst q;rcases B with h|h
   .exact .inl h
   .exact .inr (by have:=d.size;omega)
 have T:=Z f;clear f
 go_wp2
 exact GJ (v:=.tuple #[]) (by simp[results,go_sem]) rfl ⟨rfl,T.out⟩
end Go.Proofs.YtkhnggkkiefcdaaGreatDoor
namespace Go.Proofs.YtkhnggkkiefcdaaGreatDoor
open Go.RowKit Go.Shelf
set_option maxRecDepth 100000
set_option maxHeartbeats 8000000
attribute [local go_sem] GX
theorem P6(v:Value)(l:List ByteArray)(s:ByteArray)(w:World)(h:w.ownsRow 0 9 1 v l.length (strs l)) :
 Calls Tryz.prog 234 #[v,.string s] w fun e A=>∃ r:Int,e=.returned (.int .i64 r)/\decide (0<=r)=l.any (·==s)/\Fr Nil w A:=by
 have E:=zG h;unfold maxLen at E;obtain⟨a,u,rfl⟩:=zg h;go_enter Tryz.func234,Tryz.ntmps234
 go_wp2
 go_loopw [8] (fun t A=>∃ k:Nat,k<=l.length/\t=.int .i64 k/\(∀ j (d:j<l.length),j<k->(l[j]==s)=false)/\Fr Nil w A) (fun t _=>l.length-(intOf t).toNat)
 case atStart=>exact⟨0,II _,rfl,fun j _ d=>absurd d (Hj _),U _ _⟩
 case round =>
  obtain⟨k,J,rfl,d,q⟩:=hrel;by_cases o:k<l.length
  .have hr:=ze h q (fun _ _=>id)
   obtain⟨g,i,C,_,_⟩:=zv hr (by omega);obtain⟨rfl,rfl⟩:a=some ⟨g,0,none⟩/\u=i:=by simpa using C
   have I:=own_cell? hr k (.string l[k]) (by simp[strs,o]);have p:=Er s l[k];cases hm:(s==l[k]) with
   | true =>
    have y:(s.toList==l[k].toList)=true:=by rw[<- p];exact hm
    have b:l.any (·==s)=true:=by rw[Do];exact⟨l[k],Iu o,by rw[Z4] at hm |-;exact hm.symm⟩
    have c:=Z b;clear p hm d b hr
    go_wp2
    go_ret;exact⟨_,rfl,by rw[c.out];simp,q⟩
   | false =>
    have y:(s.toList==l[k].toList)=false:=by rw[<- p];exact hm
    have m:∀ j (d:j<l.length),j<k+1->(l[j]==s)=false:=by
     intro j f D;by_cases e:j=k
     .subst e
      cases h:(l[j]==s) with
      | false=>rfl
      | true=>rw[Z4] at h;rw[<- h,Z4.2 rfl] at hm;cases hm
     .exact d j f (by omega)
    have B:=Z m;clear p hm d m hr
    go_wp2
    exact⟨⟨k+1,by omega,by go_num,B.out,q⟩,by simp[intOf];omega⟩
  .have b:l.any (·==s)=false:=by
    rw[List.any_eq_false];intro x G;obtain⟨j,f,rfl⟩:=Fb G;rw[d j f (by omega)]
    decide
   have c:=Z b;clear d b
   go_wp2
   go_ret;exact⟨_,rfl,by rw[c.out];simp,q⟩
theorem TL(v:Value)(l:List ByteArray)(s:ByteArray)(w:World)(h:w.ownsRow 0 9 1 v l.length (strs l)) :
 Calls Tryz.prog 218 #[v,.string s] w fun e f=>e=.returned (.bool (l.any (·==s)))/\Fr Nil w f:=by
 have b:=Z (P6 v l s w h);clear h;go_enter Tryz.func218,Tryz.ntmps218
 go_wp2_with (refine b.out.mono ?_;rintro e g ⟨r,rfl,a,d⟩;have c:=Z a;clear a)
 go_ret;exact⟨by rw[<- c.out];rfl,d⟩
end Go.Proofs.YtkhnggkkiefcdaaGreatDoor
namespace Go.Proofs.YtkhnggkkiefcdaaGreatDoor
open Go.RowKit
set_option maxRecDepth 100000
set_option maxHeartbeats 8000000
def Y7:ByteArray:=⟨#[98,97,115,101]⟩
theorem LF{l:List (Nat × ByteArray)}{s:Nat}(h:s∉ZI l):zZ zQ (ZI l) s=false:=by
 rcases GO (low zQ (ZI l) s) l.length with a|a
 .rw[XL a rfl,Gj]
  rintro e;exact h (by rw[<- e];exact Hq (Iu a))
 .exact WE (by simpa using a)
theorem KH{l:List (Nat × ByteArray)}{s:Nat}{x:ByteArray}{e:Nat × ByteArray}:e∈Wr l s x↔e∈l\/e=(s,x):=by
 have h:e∈l↔e∈l.take (low zQ (ZI l) s)\/e∈l.drop (low zQ (ZI l) s):=by
  rw[<- Ir,IG]
 rw[h];simp only[Wr,Ir,Iv]
 constructor
 .rintro((h|h)|h)
  .exact .inl (.inl h)
  .exact .inr h
  .exact .inl (.inr h)
 .rintro((h|h)|h)
  .exact .inl (.inl h)
  .exact .inr h
  .exact .inl (.inr h)
theorem P7(n:Nat):Lib.hasPrefix (zu zL n).data.toList Y7.data.toList=false/\Lib.atoi (zu zL n).data.toList=none:=by
 have e:(zu zL n).data.toList=108::111::103::Lib.decDigits n:=by
  simp only[zu,zL,FV,FK,Wz]
  rfl
 rw[e];exact⟨rfl,rfl⟩
theorem KI(n:Nat)(a:n<10^15):(zu zL n).size<=18:=by
 have h:=Wy 14 n a;have e:(zu zL n).data.toList.length=3+(Lib.decDigits n).length:=by
  simp only[zu,zL,FV,FK,Wz];simp;omega
 have b:(zu zL n).size=(zu zL n).data.toList.length:=by simp
 omega
end Go.Proofs.YtkhnggkkiefcdaaGreatDoor
namespace Go.Proofs.YtkhnggkkiefcdaaGreatDoor
open Go.RowKit
theorem Ni{α:Type}(f:α->Nat):∀ (a b:List α),a.Pairwise (fun x y=>f x<f y)->b.Pairwise (fun x y=>f x<f y)->(∀ e,e∈a↔e∈b)->a=b
 | [],[],_,_,_=>rfl
 | [],y::b,_,_,h=>absurd ((h y).2 (Is ..)) (by simp)
 | x::a,[],_,_,h=>absurd ((h x).1 (Is ..)) (by simp)
 | x::a,y::b,d,g,h=>by
  rw[EV] at d g;have i:x=y:=by
   rcases IW.1 ((h x).1 (Is ..)) with e|e
   .exact e
   .rcases IW.1 ((h y).2 (Is ..)) with e2|e2
    .exact e2.symm
    .have c:=g.1 x e
     have j:=d.1 y e2;omega
  subst i;rw[Ni f a b d.2 g.2 fun e=>?_]
  constructor
  .intro he
   rcases IW.1 ((h e).1 (Iq _ he)) with rfl|c
   .have:=d.1 e he;omega
   .exact c
  .intro he
   rcases IW.1 ((h e).2 (Iq _ he)) with rfl|c
   .have:=g.1 e he;omega
   .exact c
end Go.Proofs.YtkhnggkkiefcdaaGreatDoor
namespace Go.Proofs.YtkhnggkkiefcdaaGreatDoor
open Go.RowKit
set_option maxRecDepth 100000
set_option maxHeartbeats 8000000
def Um(l:List UInt8):Nat:=l.foldl (fun a c=>a*10+(c.toNat-48)) 0
theorem Oz(l:List UInt8)(c:UInt8):Um (l++[c])=Um l*10+(c.toNat-48):=by simp[Um]
theorem VX(u:Nat):Um (Lib.decDigits u)=u:=by
 induction u using Nat.strongRecOn with
 | _ u a =>
  rw[Lib.decDigits];by_cases h:u<10
  .rw[CU h]
   have:(UInt8.ofNat (48+u)).toNat=48+u:=by simp;omega
   simp only[Um,Hk,List.foldl_nil,this];omega
  .rw[dif_neg h,Oz,a (u / 10) (by omega)]
   have:(UInt8.ofNat (48+u%10)).toNat=48+u%10:=by simp;omega
   rw[this];omega
theorem KJ{a b:Nat}(h:XA a=XA b):a=b:=by
 have c:Lib.itoa (a:Int)=Lib.itoa (b:Int):=by
  have:=Fg (fun x:ByteArray=>x.data.toList) h
  simpa [XA] using this
 have e:∀ n:Nat,Lib.itoa (n:Int)=Lib.decDigits n:=by
  intro n;unfold Lib.itoa;rw[It (by omega)];simp
 rw[e,e] at c;rw[<- VX a,<- VX b,c]
theorem R0{k:ByteArray}{a b:Nat}(h:zu k a=zu k b):a=b:=by
 refine KJ ?_;have c:(zu k a).data.toList=(zu k b).data.toList:=by rw[h]
 unfold zu at c;simp only[FV,FK,List.append_cancel_left_eq] at c;exact Dv (EA c)
theorem Mr(k:ByteArray)(n:Nat):(zu k n).size=k.size+(XA n).size:=by
 unfold zu;simp
theorem KK(n:Nat):zu zL n≠ByteArray.empty:=by
 intro h;have:(zu zL n).size=0:=by rw[h];rfl
 rw[Mr] at this;have a:zL.size=3:=rfl;omega
def DM.BU(M:DM):Nat:=(M.dir.map fun e=>(M.file e.2).bytes.length).sum
theorem P8{n:Int}(a:0<=n)(b:n<9223372036854775808):wrap64 n=n:=by unfold wrap64;omega
theorem DM.xl(M:DM)(h:M.BU<4611686018427387904):M.used=M.BU:=by
 have b:∀ (d:Dir) (a:Nat),a+(d.map fun e=>(M.file e.2).bytes.length).sum<4611686018427387904 ->
  d.foldl (fun n e=>wrap64 (n+(M.file e.2).bytes.length)) (a:Int)=((a+(d.map fun e=>(M.file e.2).bytes.length).sum:Nat):Int):=by
  intro d
  induction d with
  | nil=>intro a _;simp
  | cons e d f =>
   intro a c;simp only[IJ,GY] at c;rw[Hk,P8 (by omega) (by omega)];have:=f (a+(M.file e.2).bytes.length) (by omega);rw[show((a:Int)+((M.file e.2).bytes.length:Int))=((a+(M.file e.2).bytes.length:Nat):Int) from by push_cast;rfl,this];simp only[IJ,GY]
   congr 1
   omega
 have:=b M.dir 0 (by unfold DM.BU at h;omega);unfold DM.used DM.AD;rw[ID];rw[show(0:Int)=((0:Nat):Int) from rfl,this];unfold DM.BU;simp
theorem R1{d:Dir}{a:ByteArray}(h:∀ e∈d,e.1≠a):d.look a=none:=by
 have c:d.find? (fun e=>e.1==a)=none:=by
  rw[Em];intro e b x;exact h e b (Z4.1 x)
 unfold Dir.look;rw[c]
 rfl
theorem R2{f n:Nat}(size:Nat->Nat):∀ (d:Dir),(d.map (·.2)).Nodup->(d.map fun e=>if e.2=f then size e.2+n else size e.2).sum<=(d.map fun e=>size e.2).sum+n
 | [],_=>by simp
 | e::d,h=>by
  simp only[IJ,Fj] at h;simp only[IJ,GY];by_cases a:e.2=f
  .rw[IC a]
   have:(d.map fun e=>if e.2=f then size e.2+n else size e.2)=d.map fun e=>size e.2:=by
    apply GN
    intro x c;rw[It];intro b;exact h.1 (by rw[a,<- b];exact Hq c)
   rw[this];omega
  .rw[It a]
   have:=R2 (f:=f) (n:=n) size d h.2;omega
structure VOk(u:Ver):Prop where
 node:Zt u.node
 nat:u.Nat
 size:u.value.size<=128
 one:1<=u.seq
 gone:u.gone=false
theorem LG{n:Int}(h:isN n):(zk n.toNat).length<=9:=zB (by unfold isN at h;omega)
theorem P9:∀ l:List Nat,(∀ x∈l,x<9223372036854775808)->((l.map zk).flatten).length<=9*l.length
 | [],_=>by simp
 | a::l,h=>by
  have:=P9 l (fun x b=>h x (Iq _ b));have c:=zB (h a (Is ..));simp only[IJ,Ft,Il,Iz];omega
theorem LH(l:List Nat)(a:∀ x∈l,x<9223372036854775808)(b:l.length<9223372036854775808):(YT l).length<=9+9*l.length:=by
 unfold YT;rw[Il];have c:=zB b;have:=P9 l a;omega
theorem V8(s:ByteArray)(h:s.size<1000000000):(Z7 s.data.toList).length<=9+s.size:=by
 have a:s.data.toList.length=s.size:=by rw[GF];rfl
 unfold Z7;rw[Il,a];have:=zB (n:=s.size) (by omega);omega
theorem KL{u:Ver}(h:VOk u):(ZT u).length<=200:=by
 unfold ZT;simp only[Il];have g:=LG h.nat.node;have i:=LG h.nat.seq;have f:=LH [u.o0.toNat,u.o1.toNat,u.o2.toNat,u.o3.toNat] (by
  have a:=h.nat.o0;have b:=h.nat.o1;have c:=h.nat.o2;have d:=h.nat.o3;unfold isN at a b c d;intro x e;simp only[IW,Fk,Dw] at e;rcases e with rfl|rfl|rfl|rfl <;> omega) (by simp only[Iz,Ho];omega)
 have j:=V8 u.value h.nat.size;have:=h.size;simp only[Iz,Ho] at f;omega
theorem Un(l:List Ver)(h:∀ u∈l,VOk u)(g:l.length<=5):(ZG l).length<=1009:=by
 unfold ZG;rw[Il];have e:=zB (n:=l.length) (by omega);have b:∀ l:List Ver,(∀ u∈l,VOk u)->((l.map ZT).flatten).length<=200*l.length:=by
  intro l
  induction l with
  | nil=>intro _;simp
  | cons a l d =>
   intro h;have:=d (fun x c=>h x (Iq _ c));have f:=KL (h a (Is ..));simp only[IJ,Ft,Il,Iz];omega
 have:=b l h;omega
theorem XQ(l:List UInt8)(h:l.length<9223372036854775808):(zS l).length<=9+l.length:=by
 unfold zS;rw[Il];have:=zB h;omega
theorem YO(l:List UInt8):(zp l).size=l.length:=rfl
theorem LI{n:Nat}(h:n<9223372036854775808):(zj (.inl n)).size<=2000:=by
 show(zp (Xw n)).size<=2000;rw[YO];unfold Xw;have b:=zB (n:=1) (by decide);have c:=zB h;have a:=XQ (zk 1++zk n) (by rw[Il];omega);rw[Il] at a;omega
theorem YP{a:ByteArray}{l:List Ver}(b:zF a=true)(h:∀ u∈l,VOk u)(d:l.length<=5):(zj (.inr (.inl (a,l)))).size<=2000:=by
 show(zp (Xx a l)).size<=2000;rw[YO];unfold zF at b;simp only[IF] at b;unfold Xx;have e:=zB (n:=2) (by decide);have f:=V8 a (by omega);have g:=Un l h d;have c:=XQ (zk 2++(Z7 a.data.toList++ZG l)) (by simp only[Il];omega);simp only[Il] at c;omega
theorem XF{b:Nat}{a:ByteArray}(h:b<9223372036854775808)(g:a.size<=64):(zj (.inr (.inr (.inl (b,a))))).size<=2000:=by
 show(zp (XK b a)).size<=2000;rw[YO];unfold XK;have d:=zB (n:=3) (by decide);have e:=V8 a (by omega);have f:=zB h;have c:=XQ (zk 3++(zk b++Z7 a.data.toList)) (by simp only[Il];omega);simp only[Il] at c;omega
theorem R3:(zj (.inr (.inr (.inr ())))).size<=2000:=by
 show(zp WH).size<=2000;rw[YO];unfold WH;have a:=zB (n:=4) (by decide);have b:=XQ (zk 4) (by omega);omega
theorem Wi{a:ByteArray}{l:List Ver}(b:zF a=true)(h:∀ u∈l,VOk u)(c:l.length<=5):FOk (.inr (.inl (a,l))):=by
 unfold zF at b;simp only[IF] at b;have:=Un l h c;exact⟨fun v d=>(h v d).nat,by show l.length<_;omega,by show a.size<_;omega,by show(ZG l).length<=_;omega⟩
structure zK(S:SM):Prop where
 Aa:YH S.keys
 key:∀ e∈S.keys,Yx e.2/\e.2.length<=4/\∀ u∈e.2,VOk u
 hlen:S.hints.length<=32
 names:∀ e∈S.keys,zF e.1=true
 some:∀ e∈S.keys,e.2≠[]
 text:∀ x∈S.hints,x.1<4/\x.2.size<=64
theorem Pa(K:Keys)(a:ByteArray):zl K a=[]\/∃ e∈K,e.1=a/\e.2=zl K a:=by
 cases ha:zZ zh (K.map Prod.fst) a with
 | false=>exact .inl (by unfold zl;rw[ha];rfl)
 | true =>
  obtain⟨l,c,b⟩:=VC ha;refine .inr ⟨(a,l),?_,rfl,b.symm⟩;rw[c];simp
theorem zK.get{S:SM}(h:zK S)(a:ByteArray):Yx (zl S.keys a)/\(zl S.keys a).length<=4/\∀ u∈zl S.keys a,VOk u:=by
 rcases Pa S.keys a with e|⟨e,d,_,c⟩
 .rw[e]
  exact⟨List.Pairwise.nil,by simp,fun u f=>absurd f (by simp)⟩
 .rw[<- c]
  exact h.key e d
theorem WU{K:Keys}{b:ByteArray}{l:List Ver}:∀ e∈ZU K b l,e∈K\/e=(b,l):=by
 intro e a;simp only[ZU,Ir,Iv] at a;rcases a with(a|rfl)|a
 .exact .inl (He a)
 .exact .inr rfl
 .exact .inl (IK a)
theorem WV{K:Keys}{b:ByteArray}:∀ e∈YL K b,e∈K:=by
 intro e a;unfold YL at a;split at a
 .rcases Ir.1 a with a|a
  .exact He a
  .exact IK a
 .exact a
theorem Pb{K:Keys}(a:ByteArray)(l:List Ver)(h:YH K):YH (ZU K a l):=by
 unfold YH at h |-;cases ha:zZ zh (K.map Prod.fst) a with
 | true =>
  obtain⟨g,f,_⟩:=VC ha;have e:(ZU K a l).map Prod.fst=K.map Prod.fst:=by
   have c:K.map Prod.fst=(K.take (low zh (K.map Prod.fst) a)++(a,g)::K.drop (low zh (K.map Prod.fst) a+1)).map Prod.fst:=Fg (List.map Prod.fst) f;unfold ZU;rw[IC ha]
   conv=>rhs;rw[c]
   simp
  rw[e];exact h
 | false =>
  have:=Asc.ins Zi (b:=a) h (fun d e=>by rw[Uw d,e] at ha;rw[Z4.2 rfl] at ha;cases ha);unfold ZU;simp only[ha,Gx,Hy]
  simpa [List.map_take,List.map_drop] using this
theorem Pc{K:Keys}(a:ByteArray)(h:YH K):YH (YL K a):=by
 unfold YH at h |-;unfold YL;split
 .have:=Asc.del h (low zh (K.map Prod.fst) a)
  simpa [List.map_take,List.map_drop] using this
 .exact h
theorem Pd(K:Keys)(a:ByteArray)(l:List Ver):(ZU K a l).length<=K.length+1:=by
 unfold ZU;simp only[Il,Ip,Iw,Ix];split <;> omega
theorem Pe(K:Keys)(a:ByteArray):(YL K a).length<=K.length:=by
 unfold YL;split
 .simp only[Il,Ip,Iw];omega
 .exact Io _
theorem zK.holds{S:SM}(h:zK S)(b:ByteArray)(f:zF b=true)(l:List Ver)(d:Yx l)(i:l.length<=4)(j:∀ u∈l,VOk u):zK (S.holds b l):=by
 unfold SM.holds;split
 .exact⟨Pc b h.Aa,fun e a=>h.key e (WV e a),h.hlen,fun e a=>h.names e (WV e a),fun e a=>h.some e (WV e a),h.text⟩
 .rename_i hne
  exact⟨Pb b l h.Aa,fun e a=>(WU e a).elim (h.key e) (fun c=>by subst c;exact⟨d,i,j⟩),h.hlen,fun e a=>(WU e a).elim (h.names e) (fun c=>by subst c;exact f),fun e a=>(WU e a).elim (h.some e) (fun c=>by subst c;exact hne),h.text⟩
theorem LJ(S:SM)(a:ByteArray)(l:List Ver):(S.holds a l).keys.length<=S.keys.length+1:=by
 unfold SM.holds;simp only;split
 .exact Gv (Pe S.keys a)
 .exact Pd S.keys a l
theorem zK.Bh{S:SM}(h:zK S)(n:Nat):zK {S with Bh:=n}:=⟨h.Aa,h.key,h.hlen,h.names,h.some,h.text⟩
abbrev Seg:=List Fact × List UInt8
def Zv(s:Seg):List UInt8:=zD s.1++s.2
def Z5(a:List Seg):List Fact:=(a.map Prod.fst).flatten
theorem Vu(a b:List Seg):Z5 (a++b)=Z5 a++Z5 b:=by simp[Z5]
def Torn(l:List UInt8):Prop:=∃ a,l<+:zS a/\l≠zS a/\a.length<9223372036854775808
theorem T1:Torn []:=⟨[],(P2 []).1,(P2 []).2,by decide⟩
def ZW(x:Fact):Prop:=FRead x/\(zw x).length<9223372036854775808
def WA(s:Seg):Prop:=(∀ x∈s.1,ZW x)/\Torn s.2
def I6(a:List Seg):Prop:=∀ s∈a,WA s
end Go.Proofs.YtkhnggkkiefcdaaGreatDoor
