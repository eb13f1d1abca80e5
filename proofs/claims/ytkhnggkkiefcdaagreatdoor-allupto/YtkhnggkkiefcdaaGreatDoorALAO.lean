/- larder: joined texts -/
import Derived.Test.YtkhnggkkiefcdaaGreatDoorALAN
import Derived.Shelf.Strconv.AtoiFail
import Derived.Shelf.Strconv.Atoi
import Derived.Shelf.Strings.Prefix
import Derived.Lib.AtoiErrMem
import Derived.Lib.IfaceEq
namespace Go.Proofs.YtkhnggkkiefcdaaGreatDoor
open Go.RowKit Proofs.Tryz
theorem P0(a b:List Fact):zK (a++b)=zK a++zK b:=by simp[zK]
theorem WZ(f:Fact):(zj f).data.toList=Z5 (zx f):=by rw[SK];simp[zp]
theorem VP(a:List Fact)(f:Fact):zK (a++[f])=zK a++(zj f).data.toList:=by
 rw[P0,WZ];simp[zK]
theorem Ob(a:List UInt8):[]<+:Z5 a/\[]≠Z5 a :=
 ⟨List.nil_prefix,fun e=>by have:=O8 a;rw[<- e] at this;simp at this⟩
end Go.Proofs.YtkhnggkkiefcdaaGreatDoor
namespace Go.Proofs
open Go.Shelf
def Tryz.pB:Go.Shelf.Ren:=⟨fun|101=>221|208=>237|206=>250|n=>n,fun|9=>9|4=>4|3=>3|n=>n,fun|n=>n⟩
theorem Tryz.nh:Go.Proofs.Lays.n101 Tryz.prog Tryz.pB:={
 mixed:=by kernel_rfl
 f101:=Tryz.func221.trans (congrArg some (by kernel_rfl))
 f206:=Tryz.func250.trans (congrArg some (by kernel_rfl))
 f208:=Tryz.func237.trans (congrArg some (by kernel_rfl))
 t3:=Tryz.underlying3
 a3:=Tryz.isAgg3
 z3:=Tryz.sizeOf3
 v3:=Tryz.zeroValue3
 t4:=Tryz.underlying4
 a4:=Tryz.isAgg4
 z4:=Tryz.sizeOf4
 v4:=Tryz.zeroValue4
 t9:=Tryz.underlying9
 a9:=Tryz.isAgg9
 z9:=Tryz.sizeOf9
 v9:=Tryz.zeroValue9}
def Tryz.qI:Go.Shelf.Ren:=⟨fun|244=>235|247=>245|287=>252|321=>255|322=>256|n=>n,fun|9=>9|3=>3|75=>132|4=>4|5=>5|167=>333|37=>150|0=>0|85=>334|2=>2|53=>274|175=>342|46=>299|21=>21|80=>242|n=>n,fun|n=>n⟩
theorem Tryz.ni:Go.Proofs.Lays.n244 Tryz.prog Tryz.qI:={
 mixed:=by kernel_rfl
 f244:=Tryz.func235.trans (congrArg some (by kernel_rfl))
 f247:=Tryz.func245.trans (congrArg some (by kernel_rfl))
 f287:=Tryz.func252.trans (congrArg some (by kernel_rfl))
 f321:=Tryz.func255.trans (congrArg some (by kernel_rfl))
 f322:=Tryz.func256.trans (congrArg some (by kernel_rfl))
 t0:=Tryz.underlying0
 a0:=Tryz.isAgg0
 z0:=Tryz.sizeOf0
 v0:=Tryz.zeroValue0
 t2:=Tryz.underlying2
 a2:=Tryz.isAgg2
 z2:=Tryz.sizeOf2
 v2:=Tryz.zeroValue2
 t3:=Tryz.underlying3
 a3:=Tryz.isAgg3
 z3:=Tryz.sizeOf3
 v3:=Tryz.zeroValue3
 t4:=Tryz.underlying4
 a4:=Tryz.isAgg4
 z4:=Tryz.sizeOf4
 v4:=Tryz.zeroValue4
 t5:=Tryz.underlying5
 a5:=Tryz.isAgg5
 z5:=Tryz.sizeOf5
 v5:=Tryz.zeroValue5
 t9:=Tryz.underlying9
 a9:=Tryz.isAgg9
 z9:=Tryz.sizeOf9
 v9:=Tryz.zeroValue9
 t21:=Tryz.underlying21
 a21:=Tryz.isAgg21
 z21:=Tryz.sizeOf21
 v21:=Tryz.zeroValue21
 t37:=Tryz.underlying150
 a37:=Tryz.isAgg150
 z37:=Tryz.sizeOf150
 v37:=Tryz.zeroValue150
 t46:=Tryz.underlying299
 a46:=Tryz.isAgg299
 z46:=Tryz.sizeOf299
 v46:=Tryz.zeroValue299
 t53:=Tryz.underlying274
 a53:=Tryz.isAgg274
 z53:=Tryz.sizeOf274
 v53:=Tryz.zeroValue274
 t75:=Tryz.underlying132
 a75:=Tryz.isAgg132
 z75:=Tryz.sizeOf132
 v75:=Tryz.zeroValue132
 t85:=Tryz.underlying334
 a85:=Tryz.isAgg334
 z85:=Tryz.sizeOf334
 v85:=Tryz.zeroValue334
 t167:=Tryz.underlying333
 a167:=Tryz.isAgg333
 z167:=Tryz.sizeOf333
 v167:=Tryz.zeroValue333
 t175:=Tryz.underlying342
 a175:=Tryz.isAgg342
 z175:=Tryz.sizeOf342
 v175:=Tryz.zeroValue342}
def Tryz.pD:Go.Shelf.Ren:=⟨fun|172=>220|244=>235|245=>236|247=>245|279=>246|280=>247|281=>248|282=>249|287=>252|316=>125|171=>81|205=>253|321=>255|322=>256|243=>130|246=>165|283=>205|284=>206|285=>207|286=>208|129=>229|317=>228|318=>230|319=>231|320=>232|337=>242|338=>243|n=>n,fun|9=>9|3=>3|75=>132|76=>190|4=>4|5=>5|167=>333|37=>150|0=>0|85=>334|2=>2|168=>336|53=>274|175=>342|46=>299|210=>345|127=>240|145=>350|143=>348|21=>21|171=>293|173=>296|212=>322|51=>323|20=>20|213=>324|232=>340|233=>341|80=>242|n=>n,fun|15=>4|16=>5|17=>1|18=>2|19=>3|n=>n⟩
theorem Tryz.oZ:Go.Proofs.Lays.n172 Tryz.prog Tryz.pD:={
 mixed:=by kernel_rfl
 f129:=Tryz.func229.trans (congrArg some (by kernel_rfl))
 f171:=Tryz.func81.trans (congrArg some (by kernel_rfl))
 f172:=Tryz.func220.trans (congrArg some (by kernel_rfl))
 f205:=Tryz.func253.trans (congrArg some (by kernel_rfl))
 f243:=Tryz.func130.trans (congrArg some (by kernel_rfl))
 f244:=Tryz.func235.trans (congrArg some (by kernel_rfl))
 f245:=Tryz.func236.trans (congrArg some (by kernel_rfl))
 f246:=Tryz.func165.trans (congrArg some (by kernel_rfl))
 f247:=Tryz.func245.trans (congrArg some (by kernel_rfl))
 f279:=Tryz.func246.trans (congrArg some (by kernel_rfl))
 f280:=Tryz.func247.trans (congrArg some (by kernel_rfl))
 f281:=Tryz.func248.trans (congrArg some (by kernel_rfl))
 f282:=Tryz.func249.trans (congrArg some (by kernel_rfl))
 f283:=Tryz.func205.trans (congrArg some (by kernel_rfl))
 f284:=Tryz.func206.trans (congrArg some (by kernel_rfl))
 f285:=Tryz.func207.trans (congrArg some (by kernel_rfl))
 f286:=Tryz.func208.trans (congrArg some (by kernel_rfl))
 f287:=Tryz.func252.trans (congrArg some (by kernel_rfl))
 f316:=Tryz.func125.trans (congrArg some (by kernel_rfl))
 f317:=Tryz.func228.trans (congrArg some (by kernel_rfl))
 f318:=Tryz.func230.trans (congrArg some (by kernel_rfl))
 f319:=Tryz.func231.trans (congrArg some (by kernel_rfl))
 f320:=Tryz.func232.trans (congrArg some (by kernel_rfl))
 f321:=Tryz.func255.trans (congrArg some (by kernel_rfl))
 f322:=Tryz.func256.trans (congrArg some (by kernel_rfl))
 f337:=Tryz.func242.trans (congrArg some (by kernel_rfl))
 f338:=Tryz.func243.trans (congrArg some (by kernel_rfl))
 t0:=Tryz.underlying0
 a0:=Tryz.isAgg0
 z0:=Tryz.sizeOf0
 v0:=Tryz.zeroValue0
 t2:=Tryz.underlying2
 a2:=Tryz.isAgg2
 z2:=Tryz.sizeOf2
 v2:=Tryz.zeroValue2
 t3:=Tryz.underlying3
 a3:=Tryz.isAgg3
 z3:=Tryz.sizeOf3
 v3:=Tryz.zeroValue3
 t4:=Tryz.underlying4
 a4:=Tryz.isAgg4
 z4:=Tryz.sizeOf4
 v4:=Tryz.zeroValue4
 t5:=Tryz.underlying5
 a5:=Tryz.isAgg5
 z5:=Tryz.sizeOf5
 v5:=Tryz.zeroValue5
 t9:=Tryz.underlying9
 a9:=Tryz.isAgg9
 z9:=Tryz.sizeOf9
 v9:=Tryz.zeroValue9
 t20:=Tryz.underlying20
 a20:=Tryz.isAgg20
 z20:=Tryz.sizeOf20
 v20:=Tryz.zeroValue20
 t21:=Tryz.underlying21
 a21:=Tryz.isAgg21
 z21:=Tryz.sizeOf21
 v21:=Tryz.zeroValue21
 t37:=Tryz.underlying150
 a37:=Tryz.isAgg150
 z37:=Tryz.sizeOf150
 v37:=Tryz.zeroValue150
 t46:=Tryz.underlying299
 a46:=Tryz.isAgg299
 z46:=Tryz.sizeOf299
 v46:=Tryz.zeroValue299
 t51:=Tryz.underlying323
 a51:=Tryz.isAgg323
 z51:=Tryz.sizeOf323
 v51:=Tryz.zeroValue323
 t53:=Tryz.underlying274
 a53:=Tryz.isAgg274
 z53:=Tryz.sizeOf274
 v53:=Tryz.zeroValue274
 t75:=Tryz.underlying132
 a75:=Tryz.isAgg132
 z75:=Tryz.sizeOf132
 v75:=Tryz.zeroValue132
 t76:=Tryz.underlying190
 a76:=Tryz.isAgg190
 z76:=Tryz.sizeOf190
 v76:=Tryz.zeroValue190
 t85:=Tryz.underlying334
 a85:=Tryz.isAgg334
 z85:=Tryz.sizeOf334
 v85:=Tryz.zeroValue334
 t127:=Tryz.underlying240
 a127:=Tryz.isAgg240
 z127:=Tryz.sizeOf240
 v127:=Tryz.zeroValue240
 t143:=Tryz.underlying348
 a143:=Tryz.isAgg348
 z143:=Tryz.sizeOf348
 v143:=Tryz.zeroValue348
 t145:=Tryz.underlying350
 a145:=Tryz.isAgg350
 z145:=Tryz.sizeOf350
 v145:=Tryz.zeroValue350
 t167:=Tryz.underlying333
 a167:=Tryz.isAgg333
 z167:=Tryz.sizeOf333
 v167:=Tryz.zeroValue333
 t168:=Tryz.underlying336
 a168:=Tryz.isAgg336
 z168:=Tryz.sizeOf336
 v168:=Tryz.zeroValue336
 t171:=Tryz.underlying293
 a171:=Tryz.isAgg293
 z171:=Tryz.sizeOf293
 v171:=Tryz.zeroValue293
 t173:=Tryz.underlying296
 a173:=Tryz.isAgg296
 z173:=Tryz.sizeOf296
 v173:=Tryz.zeroValue296
 t175:=Tryz.underlying342
 a175:=Tryz.isAgg342
 z175:=Tryz.sizeOf342
 v175:=Tryz.zeroValue342
 t210:=Tryz.underlying345
 a210:=Tryz.isAgg345
 z210:=Tryz.sizeOf345
 v210:=Tryz.zeroValue345
 t212:=Tryz.underlying322
 a212:=Tryz.isAgg322
 z212:=Tryz.sizeOf322
 v212:=Tryz.zeroValue322
 t213:=Tryz.underlying324
 a213:=Tryz.isAgg324
 z213:=Tryz.sizeOf324
 t232:=Tryz.underlying340
 a232:=Tryz.isAgg340
 z232:=Tryz.sizeOf340
 v232:=Tryz.zeroValue340
 t233:=Tryz.underlying341
 a233:=Tryz.isAgg341
 z233:=Tryz.sizeOf341
 v233:=Tryz.zeroValue341
 g15:=by kernel_rfl
 g16:=by kernel_rfl
 g17:=by kernel_rfl
 g18:=by kernel_rfl
 g19:=by kernel_rfl}
end Go.Proofs
namespace Go.Proofs.YtkhnggkkiefcdaaGreatDoor
open Go.RowKit Proofs.Tryz
set_option maxRecDepth 100000
set_option maxHeartbeats 8000000
theorem U2:∀(l r:List UInt8)(c:Nat),Lib.decFrom c (l++r)=(Lib.decFrom c l).bind fun a=>Lib.decFrom a r
 | [],_,_=>rfl
 | b::l,r,c=>by
  simp only[CZ,Lib.decFrom];cases Lib.digitVal b with
  | none=>rfl
  | some d=>exact U2 l r _
theorem TB(d:Nat)(h:d<10):Lib.digitVal (UInt8.ofNat (48+d))=some d:=by
 have e:(UInt8.ofNat (48+d)).toNat=48+d:=by simp;omega
 unfold Lib.digitVal;rw[e,Bl V]
 congr 1
 omega
theorem RC(n:Nat):Lib.decFrom 0 (Lib.decDigits n)=some n:=by
 induction n using Nat.strongRecOn with
 | ind n a =>
  rw[Lib.decDigits];by_cases h:n<10
  .rw[uI h]
   simp only[Lib.decFrom,TB n h]
   congr 1
   omega
  .rw[dif_neg h,U2,a (n / 10) V]
   simp only[wZ,Lib.decFrom,TB (n%10) V]
   congr 1
   omega
theorem NV(n:Nat):∃ b r,Lib.decDigits n=b::r/\48<=b.toNat/\b.toNat<=57:=by
 induction n using Nat.strongRecOn with
 | ind n d =>
  rw[Lib.decDigits];by_cases h:n<10
  .rw[uI h]
   have e:(UInt8.ofNat (48+n)).toNat=48+n:=by simp;omega
   exact⟨_,[],rfl,by rw[e];omega,by rw[e];omega⟩
  .rw[dif_neg h]
   obtain⟨b,r,e,a,c⟩:=d (n / 10) V;rw[e];exact⟨b,_,rfl,a,c⟩
theorem V0:∀(k n:Nat),n<10^(k+1)->(Lib.decDigits n).length<=k+1
 | 0,n,h=>by rw[Lib.decDigits,uI aE];simp
 | k+1,n,h=>by
  rw[Lib.decDigits];by_cases a:n<10
  .rw[uI a];simp
  .rw[dif_neg a]
   have:=V0 k (n / 10) (by rw[uL] at h;omega);simp;omega
theorem NW(n:Nat):Lib.atoi (Lib.decDigits n)=some (n:Int):=by
 have c:=RC n;obtain⟨b,r,e,a,g⟩:=NV n;rw[e] at c |-;have d:(b==45)=false:=by
  rw[Ay];rintro rfl;simp at a
 have f:(b==43)=false:=by
  rw[Ay];rintro rfl;simp at a
 simp only[Lib.atoi,d,f,Lib.decNat,List.isEmpty_cons,c]
 rfl
theorem V3(n:Nat):(Wc n).data.toList=Lib.decDigits n:=by
 simp[Wc,Lib.itoa]
theorem SO(s p:ByteArray)(w:World) :
 Calls prog 221 #[.string s,.string p] w fun e a=>e=.returned (.string ⟨(Lib.trimPrefix s.data.toList p.data.toList).toArray⟩)/\a=w:=Any.strings_TrimPrefix Tryz.nh s p w
theorem G2(s:ByteArray)(n:Int)(b:s.size<=18)(h:Lib.atoi s.data.toList=some n)(w:World) :
 Calls prog 220 #[.string s] w fun e a=>e=.returned (.tuple #[I n,.nilIface])/\Fr Nil w a:=by
 refine uK (show Calls prog 220 #[.string s] w _ from Any.strconv_Atoi Tryz.oZ s n b h w) ?_;rintro e a ⟨rfl,t,rfl⟩;exact⟨rfl,Fr.rQ (Lib.bytesWorld_below _ _ _)⟩
theorem FN(c:ByteArray)(n:Nat):Lib.trimPrefix (zw c n).data.toList c.data.toList=Lib.decDigits n:=by
 have e:(zw c n).data.toList=c.data.toList++Lib.decDigits n:=by
  simp only[zw,yG,yS,V3]
 have d:∀ (a b:List UInt8),Lib.hasPrefix (a++b) a=true:=by
  intro a b;unfold Lib.hasPrefix;simp
 unfold Lib.trimPrefix;rw[e,d];simp
theorem UU(a:ByteArray)(b:a.size<=1000)(n:Nat)(u:1<=n)(p:n<10^18)(w:World)(q:∀ i,Fr Nil w i->Tab i) :
 Calls prog 185 #[.string a,.string (zw a n)] w fun e i=>e=.returned (I n)/\Fr Nil w i:=by
 have t:n<1000000000000000000:=p;have h:=Z (SO (zw a n) a w);rw[FN] at h;have o:(⟨(Lib.decDigits n).toArray⟩:ByteArray).size<=18:=V0 17 n p;have l:=Z (fun g=>G2 ⟨(Lib.decDigits n).toArray⟩ n o (by simpa using NW n) g);have m:=Z (fun g (f:Fr Nil w g)=>Ve a b n V g (q g f));have r:¬(n:Int)<1:=V
 clear o q;generalize zw a n=s at h m |-;generalize (⟨(Lib.decDigits n).toArray⟩:ByteArray)=d at h l;go_enter func185,ntmps185;go_wp2_with fail;refine h.o.mono ?_;rintro e v ⟨rfl,k⟩;subst k;go_wp2_with fail;refine(l.o _).mono ?_;rintro e x ⟨rfl,c⟩;go_wp2_with fail;refine(m.o _ c).mono ?_;rintro e y ⟨rfl,j⟩;go_wp2_with fail;go_ret;exact⟨rfl,c.trans j⟩
def YE(w:World):Prop:=4<w.heap.size/\∃ b a,w.cell? (Y 4 0)=some (.iface b a)
theorem YE.fr{w w':World}{S:Nat->Prop}(h:YE w)(f:Fr S w w')(g:¬S 4):YE w':=by
 obtain⟨c,r,o,e⟩:=h;exact⟨Bv c f.size,r,o,(f.cell (p:=⟨4,0,none⟩) c g).trans e⟩
theorem To(c s:ByteArray)(hs:s.size<=1000000000)(w:World)(d:YE w) :
 Calls prog 246 #[.string c,.string s] w fun e g=>∃ k,e=.returned (E k 0)/\Fr Nil w g:=by
 have l:=Z (fun a (f:Fr Nil w a)=>show Calls prog 125 #[.string s] a fun e g=>e=.returned (.string s)/\Fr Nil w g from
  (AnyPu.stringslite_Clone Tryz.pA s a V).mono fun e g ⟨r,o⟩=>⟨r,f.trans (Fr.rQ o)⟩)
 obtain⟨t,j,i,b⟩:=d;have m:aa (∀ a,Fr Nil w a->a.cell? (Y 4 0)=some (.iface j i)):=fun a f=>(f.cell (p:=⟨4,0,none⟩) t id).trans b;go_enter func246,ntmps246;go_wp2_with fail
 go_region_held3 (fun a=>a.cell? (Y 4 0)=some (.iface j i)) (first|assumption|go_keep) (first|(go_at_call 125;refine(l.o _ zd).mono ?_;rintro e u ⟨rfl,h⟩;have q:=m.o _ h))
 all_goals
  go_wp2
  go_ret;exact⟨_,rfl,zd⟩
theorem P1(c s:ByteArray)(hs:s.size<=1000000000)(w:World)(a:YE w)(T:TypeId)(g:T=Tryz.qI.t 167) :
 Calls prog 236 #[.string c,.string s,I 0,I 0,.iface T (I 2)] w fun e l=>∃ k,e=.returned (.iface 336 (E k 0))/\Fr Nil w l:=by
 have b:T=333:=by rw[g];rfl
 subst b;clear g;have i:=Z (fun h (f:Fr Nil w h)=>To c s hs h (a.fr f id));have j:∀ W,(binOp .eql 132 (.iface 333 (I 2)) (.iface 333 (I 2))).run prog W=.ok (.bool true) W:=fun W=>Lib.run_eql_iface_int W 2 2 underlying132 bI underlying333;go_enter func236,ntmps236;go_wp2_with fail;refine(i.o w (U _ _)).mono ?_;rintro e m ⟨k,rfl,d⟩;go_wp2_with fail;go_ret;exact⟨k,rfl,d⟩
theorem G3(s:ByteArray)(l:s.size<=18)(h:Lib.atoi s.data.toList=none)(w:World)(a:YE w) :
 Calls prog 220 #[.string s] w fun e c=>∃ k,e=.returned (.tuple #[I 0,.iface 336 (E k 0)])/\Fr Nil w c:=by
 have j:aa (Calls prog 235 #[.string s] w fun e c=>e=.returned (.tuple #[I 0,.iface 333 (I 2)])/\Fr Nil w c):=by
  refine uK (show Calls prog 235 #[.string s] w _ from Any.internal_strconv_Atoi_fail Tryz.ni s l h w) ?_;rintro e c ⟨rfl,rfl|⟨t,rfl⟩⟩
  .exact⟨rfl,U _ _⟩
  .exact⟨rfl,Fr.rQ (Lib.bytesWorld_below _ _ _)⟩
 have i:=Z (fun g (f:Fr Nil w g)=>P1 ⟨#[65,116,111,105]⟩ s V g (a.fr f id) 333 rfl);clear a h;go_enter func220,ntmps220;go_wp2_with fail;refine j.o.mono ?_;rintro e m ⟨rfl,b⟩;go_wp2_with fail;refine(i.o m b).mono ?_;rintro e o ⟨k,rfl,d⟩;go_wp2_with fail;go_ret2;exact⟨k,rfl,b.trans d⟩
theorem Xx(b a:ByteArray)(j:Lib.hasPrefix a.data.toList b.data.toList=false)(m:a.size<=18)(h:Lib.atoi a.data.toList=none)(w:World)(c:YE w) :
 Calls prog 185 #[.string b,.string a] w fun e o=>e=.returned (I 0)/\Fr Nil w o:=by
 have g:=Z (SO a b w);have i:(⟨(Lib.trimPrefix a.data.toList b.data.toList).toArray⟩:ByteArray)=a:=by
  unfold Lib.trimPrefix;rw[j]
  apply wA
  simp
 rw[i] at g;have l:=Z (G3 a m h w c);clear i c h j;go_enter func185,ntmps185;go_wp2_with fail;refine g.o.mono ?_;rintro e p ⟨rfl,f⟩;subst f;go_wp2_with fail;refine l.o.mono ?_;rintro e q ⟨k,rfl,d⟩;go_wp2_with fail;go_ret;exact⟨rfl,d⟩
end Go.Proofs.YtkhnggkkiefcdaaGreatDoor
namespace Go.Proofs.YtkhnggkkiefcdaaGreatDoor
open Go.RowKit Go.Shelf Proofs.Tryz
set_option maxRecDepth 100000
set_option maxHeartbeats 8000000
attribute [local go_sem] ye
def ZE(l:List (Nat × ByteArray)):List Value:=l.flatMap fun e=>[I e.1,.string e.2]
theorem We(d:List (Nat × ByteArray)):(ZE d).length=d.length*2:=by
 induction d with
 | nil=>rfl
 | cons e d a=>simp only[ZE,Am,CN,Bh,BU] at a |-;omega
theorem XV(d:List (Nat × ByteArray)):∀ (k:Nat)(h:k<d.length),(ZE d)[k*2]?=some (I d[k].1)/\(ZE d)[k*2+1]?=some (.string d[k].2):=by
 induction d with
 | nil=>intro k h;simp at h
 | cons e d b =>
  intro k h;cases k with
  | zero=>exact⟨rfl,rfl⟩
  | succ k =>
   have:=b k aE;have a:(k+1)*2=k*2+2:=by omega
   simp only[ZE,Am,a] at this |-;exact this
theorem SP(a:Nat)(w:World) :
 Calls prog 146 #[E a 0] w fun e b =>
  e=.returned (.func (.func 187) #[] #[E w.heap.size 0])/\b=w.alloc (.cells #[E a 0] 211):=by
 go_enter func146,ntmps146
 go_wp2
 go_ret;exact⟨rfl,rfl⟩
end Go.Proofs.YtkhnggkkiefcdaaGreatDoor
namespace Go.Proofs.YtkhnggkkiefcdaaGreatDoor
open Go.RowKit Proofs.Tryz
set_option maxRecDepth 100000
set_option maxHeartbeats 8000000
variable{l:List (Nat × ByteArray)}
theorem G4:((prog.info? 268).map fun i=>(i.zero.map (·.cells.size),i.size,i.bytes))=some (some 2,2,24):=bI
def TW(w:World)(c:Option Nat)(n i:Nat)(h f:List Value)(e:Ending)(d:World):Prop :=
 ∃ g a,e=.returned (.slice (some (Y g 0)) (n+1) a)/\d.ownsRow 0 268 2 (.slice (some (Y g 0)) (n+1) a) (n+1) (YH 2 i h f)/\Fr (fun b=>c=some b) w d/\(c=some g\/w.heap.size<=g)
theorem NX(v:Value)(n:Nat)(k d:List Value)(r:Nat)(w:World)(b:w.ownsRow 0 268 2 v n k)(t:d.length=2)(s:∀ u∈d,u.oneCell'=true)(D:Blk w r d 268)(o:(n+1)*24<=140737488355328) :
 Calls prog 223 #[v,I n,.slice (some (Y r 0)) 1 1] w fun e c=>TW w v.ownBlock n n k d e c:=by
 have q:∀ ty,∃ l c,(Builtin.append_ #[261,261] ty #[v,.slice (some (Y r 0)) 1 1]).run prog w=.ok l c/\App w v 268 2 (n+1) (k++d) l c:=fun ty =>
  zq (P:=prog) 261 ty 268 2 24 yL G4 V v n k b ⟨r,0,none⟩ 1 1 d (by rw[t]) (fun j u C=>by rw[BO,BQ];rw[D.cell];exact C) s ac o
 have f:∀ l c,App w v 268 2 (n+1) (k++d) l c->TW w v.ownBlock n n k d (.returned l) c:=by
  exact Ix
 have B:=zH b;unfold maxLen at B;obtain⟨a,m,rfl⟩:=zf b;have x:=Z f;clear f b;generalize (Value.slice a n m).ownBlock=L at x |-;go_enter func223,ntmps223
 go_wp2_with (at_builtin;go_must (refine zm rfl _ _ _ _ rfl _ _ bH bH (q _) ?_);rintro l c A)
 all_goals
  go_ret;exact x.o _ _ A
theorem G5(w:World)(k m l i h f:Nat)(a g:Nat)(j c:List Value)(d:Blk w a j 268)(p:Blk w g c 268)(b:a≠g)(o:c.length≠0) :
 (callFunc 240 #[.slice (some (Y a k)) m l,.slice (some (Y g i)) h f]).run prog w=.ok (.value (.bool false)) w:=by
 rw[Ag func240 bI bI bI (e:=Extern.SlicesOverlaps.overlaps #[261,261] #[4]) bI,
  wM w 261 4 268 yL 2 sizeOf268 ⟨a,k,none⟩ ⟨g,i,none⟩ m l h f b 268 268 j.length c.length d.pk p.pk o (d.frozen _) (d.frozen _)]
 rfl
theorem P2(g n a i:Nat)(c l k:List Value)(A:Nat)(w:World)(Q:Blk w g c 268)(m:c.length=a*2)(ht:c.take (n*2)=l)(h1:∀ u∈l,u.oneCell'=true)(hi:i<n)(d:n+1<=a)(T:a<=maxLen)
 (s:k.length=2)(N:∀ u∈k,u.oneCell'=true)(hv:Blk w A k 268)(R:A≠g) :
 Calls prog 223 #[.slice (some (Y g 0)) n a,I i,.slice (some (Y A 0)) 1 1] w fun e w'=>TW w (some g) n i l k e w':=by
 have a0:=fun va vl vc bo bl bc=>G5 w va vl vc bo bl bc A g k c hv Q R V;have B:l.length=n*2:=by rw[<- ht,CR,m];exact Ab (BG _ V)
 have r:(l.drop (i*2)).length=(n-i)*2:=by rw[Bc,B,vn]
 have M:∀ j u,(l.drop (i*2))[j]?=some u->c[i*2+j]?=some u:=by
  exact PB
 have o:∀ ty C sc,(Builtin.copy_ #[261,261] ty #[.slice (some (Y g ((i+1)*2))) (n-i) C,.slice (some (Y g (i*2))) (n+1-i) sc]).run prog w.drew=_:=fun ty C sc =>
  ZC 261 268 ty 2 yL bI g ((i+1)*2) (n-i) C ⟨g,i*2,none⟩ (n+1-i) sc c (l.drop (i*2)) 268 Q
   aI (fun j u G=>by rw[BO,show w.drew.cell? (Y g (i*2+j))=c[i*2+j]? from Q.drew.cell _];exact M j u G)
   (by rw[r,m];have:=BG 2 d;have e:(i+1)*2+(n-i)*2=(n+1)*2:=bh;omega)
   (fun u G=>h1 u (Bx G))
 obtain⟨f,t⟩:∃ f,f=c.take ((i+1)*2)++l.drop (i*2)++c.drop ((i+1)*2+(l.drop (i*2)).length):=⟨_,rfl⟩;rw[<- t] at o;have v:Blk (w.drew.setRow g f.toArray) g f 268:=Q.drew.setRow f;have D:Blk (w.drew.setRow g f.toArray) A k 268:=hv.drew.of_heap (xy _ g A _ R);have q:f.length=a*2:=by
  exact IB
 have J:Fr (fun b=>some g=some b) w (w.drew.setRow g f.toArray):=Fr.setRow (S:=fun b=>some g=some b) ((U _ w).drew) (fun _=>rfl) _;obtain⟨X,K⟩:∃ X,X=w.drew.setRow g f.toArray:=⟨_,rfl⟩;rw[<- K] at o v D J;clear K;have x:∀ ty C,(Builtin.copy_ #[261,261] ty #[.slice (some (Y g (i*2))) (n+1-i) C,.slice (some (Y A 0)) 1 1]).run prog X=_:=fun ty C =>
  ZC 261 268 ty 2 yL bI g (i*2) (n+1-i) C ⟨A,0,none⟩ 1 1 f k 268 v
   au (fun j u G=>by rw[BO,BQ,D.cell];exact G)
   (by rw[s,q];have:=BG 2 d;have e:i*2+2=(i+1)*2:=(by rw[yo,vJ]);have:=BG 2 (show i+1<=n+1 from V);omega)
   N
 have y:TW w (some g) n i l k (.returned (.slice (some (Y g 0)) (n+1) a)) (X.setRow g (f.take (i*2)++k++f.drop (i*2+k.length)).toArray):=by
  exact IA
 obtain⟨c2,L⟩:∃ c2,c2=f.take (i*2)++k++f.drop (i*2+k.length):=⟨_,rfl⟩;rw[<- L] at x y;clear v D J q M Q hv r B h1 N t L ht s m;unfold maxLen at T;have a3:¬(i:Int)=(n:Int):=V
 have a4:¬(a:Int)<(n:Int)+1:=V
 have a5:¬a=i:=V
 have a6:¬a=i+1:=V
 have a7:IntKind.i64.wrap ((i:Int)+1)=(i:Int)+1:=by rw[Bu];omega
 have a8:(0:Int)<=(i:Int)+1:=V
 have a9:((i:Int)+1).toNat=i+1:=V
 have b0:(i:Int)<=(n:Int)+1:=V
 have b1:(i:Int)<=(n:Int):=V
 go_enter func223,ntmps223
 go_wp2_with (simp only[a0])
 go_region_law (refine YT rfl _ _ 261 261 rfl _ _ aj aj (o _ _ _) ?_)
 go_wp2_with (at_builtin;go_must (refine YJ rfl _ _ 261 261 rfl _ _ bH bH (x _ _) ?_))
 go_ret;exact y
theorem Oc(g n i:Nat)(b r:List Value)(vb:Nat)(w:World)(hg:Blk w g b 268)(l:b.length=n*2)(h1:∀ u∈b,u.oneCell'=true)(hi:i<n)
 (v:r.length=2)(a6:∀ u∈r,u.oneCell'=true)(hv:Blk w vb r 268)(a5:(n+1)*24<=140737488355328) :
 Calls prog 223 #[.slice (some (Y g 0)) n n,I i,.slice (some (Y vb 0)) 1 1] w fun e w'=>TW w (some g) n i b r e w':=by
 obtain⟨i0,z,a9,b1,X,J,b3⟩:=ZK G4;have q:i+(n+1-i)=n+1:=V
 have a:∀ ty,(Builtin.append_ #[261,3] ty #[.slice (some (Y g 0)) i n,I ((n+1-i:Nat):Int)]).run prog w=_:=fun ty =>
  wt (P:=prog) w 261 3 ty 268 i0 z .i64 .i64 yL we a9 b1 (some (Y g 0)) i n (b.take (i*2))
   (by rw[X];exact xo (P:=prog) w.drew 2 i ⟨g,0,none⟩ i n (b.take (i*2)) (by rw[CR,l];omega) (fun j u s=>by
     have b4:=(BL.1 s).1;rw[BO,BQ,hg.drew.cell];rw[CR] at b4;rw[AO V] at s;exact s))
   (n+1-i) V (by rw[X];omega) V V (by rw[J];omega) (wI V (by rw[J,q];exact a5))
 rw[q] at a;have b2:=uE w (n+1) n 268;have a1:=wB w (n+1) n 268 ac;generalize grownCap w (n+1) n 268=c at a b2 a1;obtain⟨d,K⟩:∃ d:List Value,d=b.take (i*2)++(Builtin.zeroCells z.cells (n+1-i)).toList++(Builtin.zeroCells z.cells (c-(n+1))).toList:=⟨_,rfl⟩;have A:(b.take (i*2)).toArray++Builtin.zeroCells z.cells (n+1-i)++Builtin.zeroCells z.cells (c-(n+1))=d.toArray:=by rw[K];apply xQ;simp
 rw[A] at a;have t:d.length=c*2:=by
  exact Rn
 have L:d.take (i*2)=b.take (i*2):=by
  exact IE
 have a8:=hg.lt;have b0:=hv.lt;have o:Blk (w.drew.alloc (.cells d.toArray 268)) w.heap.size d 268:=Blk.new w.drew d _;have a0:Blk (w.drew.alloc (.cells d.toArray 268)) vb r 268:=hv.drew.alloc _;have S:Blk (w.drew.alloc (.cells d.toArray 268)) g b 268:=hg.drew.alloc _;have R:Fr Nil w (w.drew.alloc (.cells d.toArray 268)):=((U _ w).drew).alloc _;obtain⟨N,hN⟩:∃ N,N=w.heap.size:=⟨_,rfl⟩;rw[<- hN] at a o a8 b0;obtain⟨D,a3⟩:∃ D,D=w.drew.alloc (.cells d.toArray 268):=⟨_,rfl⟩;rw[<- a3] at a o a0 S R;clear a3;obtain⟨f,M⟩:∃ f,f=d.take (i*2)++r++d.drop (i*2+r.length):=⟨_,rfl⟩;have m:∀ ty G,(Builtin.copy_ #[261,261] ty #[.slice (some (Y N (i*2))) (n+1-i) G,.slice (some (Y vb 0)) 1 1]).run prog D=_:=fun ty G =>
  ZC 261 268 ty 2 yL bI N (i*2) (n+1-i) G ⟨vb,0,none⟩ 1 1 d r 268 o
   av (fun j u s=>by rw[BO,BQ,a0.cell];exact s)
   (by rw[v,t];omega)
   a6
 rw[<- M] at m;have k:f.length=c*2:=by
  exact Ro
 have Q:f.take ((i+1)*2)=b.take (i*2)++r:=by
  exact ID
 have y:Blk (D.setRow N f.toArray) N f 268:=o.setRow f;have T:Blk (D.setRow N f.toArray) g b 268:=S.of_heap (xy _ N g _ V);have a2:Fr Nil w (D.setRow N f.toArray):=R.setRow (fun h=>V) _;obtain⟨W2,a4⟩:∃ W2,W2=D.setRow N f.toArray:=⟨_,rfl⟩;rw[<- a4] at m y T a2;clear a4;have x:(b.drop (i*2)).length=(n-i)*2:=by rw[Bc,l,vn]
 obtain⟨c3,C⟩:∃ c3,c3=f.take ((i+1)*2)++b.drop (i*2)++f.drop ((i+1)*2+(b.drop (i*2)).length):=⟨_,rfl⟩;have B:∀ ty G sc,(Builtin.copy_ #[261,261] ty #[.slice (some (Y N ((i+1)*2))) (n-i) G,.slice (some (Y g (i*2))) (n-i) sc]).run prog W2.drew=_:=fun ty G sc =>
  ZC 261 268 ty 2 yL bI N ((i+1)*2) (n-i) G ⟨g,i*2,none⟩ (n-i) sc f (b.drop (i*2)) 268 y.drew
   aJ (fun j u s=>by rw[BO,T.drew.cell];rw[yJ] at s;exact s)
   (by rw[x,k];omega)
   (fun u s=>h1 u (Bx s))
 rw[<- C] at B;have a7:TW w (some g) n i b r (.returned (.slice (some (Y N 0)) (n+1) c)) (W2.drew.setRow N c3.toArray):=by
  exact IC
 clear L Q A C M K o a0 S R y T a2 x k t h1 a6 v l hv hg hN q b3 J X b1 a9;unfold maxLen at a1;have b5:¬(i:Int)=(n:Int):=V
 have b6:¬n=i:=V
 have b7:¬c=i+1:=V
 have b8:¬c=i:=V
 have b9:(n:Int)+1-i=((n+1-i:Nat):Int):=V
 have c0:IntKind.i64.wrap ((i:Int)+1)=(i:Int)+1:=by rw[Bu];omega
 have c4:(0:Int)<=(i:Int)+1:=V
 have c5:((i:Int)+1).toNat=i+1:=V
 have c6:(i:Int)<=(n:Int)+1:=V
 have c7:(i:Int)<=(n:Int):=V
 go_enter func223,ntmps223
 go_wp2_with (at_builtin;go_must (first|(refine wV _ rfl _ _ _ _ rfl _ _ bH bH _ _ (a _) ?_)|(refine YJ rfl _ _ 261 261 rfl _ _ bH bH (m _ _) ?_)))
 go_region_law (refine YT rfl _ _ 261 261 rfl _ _ aj aj (B _ _ _) ?_)
 go_wp2
 go_ret;exact a7
theorem P3(v:Value)(n i:Nat)(k d:List Value)(j:Nat)(w:World)(b:w.ownsRow 0 268 2 v n k)(r:∀ u∈k,u.oneCell'=true)(B:i<=n)
 (h:d.length=2)(f:∀ u∈d,u.oneCell'=true)(q:Blk w j d 268)(p:v.ownBlock≠some j)(a:(n+1)*24<=140737488355328) :
 Calls prog 223 #[v,I i,.slice (some (Y j 0)) 1 1] w fun e A=>TW w v.ownBlock n i k d e A:=by
 rcases Az i n with m|y
 .rcases YG b with⟨_,h0,_⟩|⟨g,cap,c,rfl,hg,hn,hm,hc,ht⟩
  .omega
  .have hne':j≠g:=fun e=>p bF
   rcases Az n cap with t|t
   .exact P2 g n cap i c k d j w hg hc ht r m t hm h f q hne'
   .have e:cap=n:=V
    subst e;have o:c=k:=by rw[<- ht];exact(Bn V).symm
    subst o;exact Oc g cap i c d j w hg hc r m h f q a
 .have e:i=n:=V
  subst e;exact NX v i k d j w b h f q a
def Z0(a b:Nat):Bool:=decide (a<b)
theorem Vl:Strict Z0 where
 nz a:=by simp[Z0]
 trans a b c h1 h2:=by simp only[Z0,Bi] at *;omega
 nJ a b h1 h2:=by simp only[Z0,Bi,BP] at *;omega
theorem G6{p:Prop}(h:p:=by
 split
 .rename_i h;constructor <;> intro <;> omega
 .rename_i h
  split
  .constructor <;> intro <;> omega
  .constructor <;> intro <;> omega):p:=h
theorem Od{a b:Nat}:Wo a b<0↔Z0 a b=true:=by
 unfold Wo Z0;rw[Bi];exact G6
theorem G7{a b:Nat}:Wo a b=0↔(a==b)=true:=by
 unfold Wo;rw[beq_iff_eq];exact G6
theorem WQ(a b:Nat)(v:ByteArray)(w:World) :
 Calls prog 239 #[.agg #[I a,.string v],I b] w fun e d=>e=.returned (I (Wo a b))/\Fr Nil w d:=by
 go_enter func239,ntmps239
 go_wp2_with (go_at_call 180;refine(Sy _ _ _).mono ?_;rintro e f ⟨rfl,c⟩;subst c)
 go_ret;exact⟨rfl,ab⟩
theorem P4(v:Value)(l:List (Nat × ByteArray))(s:Nat)(w:World)(h:w.ownsRow 0 268 2 v l.length (ZE l))(hs:Asc Z0 (l.map Prod.fst))(a6:l.length<4611686018427387904) :
 Calls prog 238 #[v,I s,.func (.func 239) #[] #[]] w fun e B =>
  e=.returned (.tuple #[I (low Z0 (l.map Prod.fst) s),.bool (Zb Z0 (l.map Prod.fst) s)])/\Fr Nil w B:=by
 have T:=zH h;unfold maxLen at T;obtain⟨a,G,rfl⟩:=zf h;go_enter func238,ntmps238
 go_wp2
 go_loopw [9,10] (fun M N B=>∃ i j:Nat,i<=j/\j<=l.length/\M=I i/\N=I j/\(∀ k (f:k<l.length),k<i->Z0 l[k].1 s=true)/\(∀ k (f:k<l.length),j<=k->Z0 l[k].1 s=false)/\Fr Nil w B) (fun M N _=>(intOf N).toNat-(intOf M).toNat)
 case atStart=>exact⟨0,l.length,Bg _,CP _,rfl,rfl,fun k _ f=>absurd f (BF _),fun k f a4=>absurd f V,U _ _⟩
 case round =>
  obtain⟨i,j,a3,u,rfl,rfl,y,C,o⟩:=hrel;by_cases D:i<j
  .obtain⟨g,rfl⟩:∃ g,a=some (Y g 0):=by
    exact VU
   have hm:(i+j) / 2<l.length:=V
   have hc:=own_cell? (ze h o (fun _ _=>id)) ((i+j) / 2*2) _ (XV l _ hm).1;have J:=own_cell? (ze h o (fun _ _=>id)) ((i+j) / 2*2+1) _ (XV l _ hm).2;have H1:=Z y;have H2:=Z C;clear y C;have a0:(i:Int)<=4611686018427387903:=V
   have a1:(j:Int)<=4611686018427387903:=V
   have a2:(i:Int)+j<=9223372036854775807:=V
   have hq:(((i:Int)+j) / 2).toNat=(i+j) / 2:=V
   cases hl:Z0 l[(i+j) / 2].1 s with
   | true =>
    have A:=Z hl;have K:Wo l[(i+j) / 2].1 s<0:=Od.2 hl;clear hl
    go_wp2_with (go_at_call 239;refine(WQ _ _ _ _).mono ?_;rintro e X ⟨rfl,m⟩)
    refine⟨⟨(i+j) / 2+1,j,V,u,by go_num,rfl,fun k f x=>?_,H2.o,o.trans m⟩,by simp[intOf];omega⟩;by_cases e:k=(i+j) / 2
    .subst e;exact A.o
    .exact Vl.trans _ _ _ (hs.fst (i:=k) (j:=(i+j) / 2) V hm) A.o
   | false =>
    have A:=Z hl;have K:¬Wo l[(i+j) / 2].1 s<0:=by rw[Od];simp[hl]
    clear hl
    go_wp2_with (go_at_call 239;refine(WQ _ _ _ _).mono ?_;rintro e X ⟨rfl,m⟩)
    refine⟨⟨i,(i+j) / 2,V,V,rfl,by go_num,H1.o,fun k f x=>?_,o.trans m⟩,by simp[intOf];omega⟩;by_cases e:k=(i+j) / 2
    .subst e;exact A.o
    .cases hk2:Z0 l[k].1 s with
     | false=>rfl
     | true =>
      have:=Vl.trans _ _ _ (hs.fst (i:=(i+j) / 2) (j:=k) V f) hk2;rw[A.o] at this;cases this
  .have he:i=j:=V
   subst he;have b:low Z0 (l.map Prod.fst) s=i:=VX Z0 s _ i bC (fun k f x=>by simpa using y k aG x) (fun f=>by simpa using C i aG (CP _));by_cases r:i<l.length
   .obtain⟨g,rfl⟩:∃ g,a=some (Y g 0):=by
     exact VU
    have hc:=own_cell? (ze h o (fun _ _=>id)) (i*2) _ (XV l _ r).1;have J:=own_cell? (ze h o (fun _ _=>id)) (i*2+1) _ (XV l _ r).2;have q:Zb Z0 (l.map Prod.fst) s=(Wo l[i].1 s==0):=by
     rw[Wl r b,uB,<- G7];simp
    have R:=Z b;have Q:=Z q;clear y C b q
    go_wp2_with (go_at_call 239;refine(WQ _ _ _ _).mono ?_;rintro e X ⟨rfl,m⟩)
    go_ret2;rw[R.o,Q.o];exact⟨rfl,o.trans m⟩
   .have q:Zb Z0 (l.map Prod.fst) s=false:=V7 (by rw[b];simpa using r)
    exact MT
abbrev ZW (l:List (Nat × ByteArray)):List Nat:=l.map Prod.fst
structure Vm(w:World)(v:Value)(l:List (Nat × ByteArray)):Prop where
 sL:w.ownsRow 0 268 2 v l.length (ZE l)
 rp:Asc Z0 (ZW l)
theorem Vm.fr{w w':World}{v:Value}{S:Nat->Prop}(h:Vm w v l)(f:Fr S w w')(c:∀ k,v.ownBlock=some k->¬S k):Vm w' v l :=
 ⟨ze h.sL f c,h.rp⟩
theorem Oe(v:Value)(l:List (Nat × ByteArray))(s:Nat)(b:Nat)(w:World)(g:w.cell? (Y b 0)=some v)(h:Vm w v l)(c:l.length<4611686018427387904) :
 Calls prog 222 #[E b 0,I s] w fun e f =>
  e=.returned (.tuple #[I (low Z0 (ZW l) s),.bool (Zb Z0 (ZW l) s)])/\Fr Nil w f:=by
 have d:=Z (P4 v l s w h.sL h.rp c);clear h;go_enter func222,ntmps222
 go_wp2_with (refine d.o.mono ?_;rintro e i ⟨rfl,a⟩)
 go_ret2;exact⟨rfl,a⟩
theorem G8(l:List (Nat × ByteArray)):∀ u∈ZE l,u.oneCell'=true:=by
 intro u a;simp only[ZE,xZ] at a;obtain⟨e,b,a⟩:=a;simp at a;rcases a with rfl|rfl <;> rfl
theorem Wf(a b:List (Nat × ByteArray)):ZE (a++b)=ZE a++ZE b:=by simp[ZE]
theorem J0(l:List (Nat × ByteArray))(i:Nat):(ZE l).take (i*2)=ZE (l.take i):=by
 rcases wj i l.length with h|h
 .have e:=Wf (l.take i) (l.drop i)
  rw[Bo] at e;rw[e];exact AG (by rw[We,CR,Ab h])
 .rw[Bn h,Bn (by rw[We];omega)]
theorem J5(l:List (Nat × ByteArray))(i:Nat):(ZE l).drop (i*2)=ZE (l.drop i):=by
 rcases wj i l.length with h|h
 .have e:=Wf (l.take i) (l.drop i)
  rw[Bo] at e;rw[e];exact uC (by rw[We,CR,Ab h])
 .rw[BT h,BT (by rw[We];omega)]
  rfl
def WS(l:List (Nat × ByteArray))(s:Nat)(x:ByteArray):List (Nat × ByteArray):=l.take (low Z0 (ZW l) s)++[(s,x)]++l.drop (low Z0 (ZW l) s)
theorem FO(s:Nat)(x:ByteArray)(h:Asc Z0 (ZW l))(a:Zb Z0 (ZW l) s=false):Asc Z0 (ZW (WS l s x)):=by
 have:=Asc.mf Vl (b:=s) h (fun c e=>by rw[Tb c,e] at a;simp at a);unfold WS
 simpa [ZW,List.map_take,List.map_drop] using this
theorem TC{s:Nat}{x:ByteArray}:(WS l s x).length=l.length+1:=by
 have:=VW Z0 (ZW l) s;simp only[Bm] at this;simp[WS];omega
def CA(w:World)(b:Nat)(t:TypeId)(v:Value)(rest:List Value)(l:List (Nat × ByteArray))(c:World):Prop :=
 ∃ a,Blk c b (a::rest) t/\Vm c a l/\Fr (fun k=>k=b\/v.ownBlock=some k) w c/\(∀ k,a.ownBlock=some k->v.ownBlock=some k\/w.heap.size<=k)
theorem J6(v:Value)(rest:List Value)(l:List (Nat × ByteArray))(s:Nat)(x:ByteArray)(b:Nat)(t:TypeId)(w:World)(q:Blk w b (v::rest) t)(ht:t≠268)(h:Vm w v l)
 (b4:l.length<1099511627776)(ha:Zb Z0 (ZW l) s=false) :
 Calls prog 186 #[E b 0,I s,.string x] w fun e w' =>
  e=.returned (.tuple #[])/\CA w b t v rest (WS l s x) w':=by
 have hc:w.cell? (Y b 0)=some v:=by rw[q.cell];rfl
 have HC:=Z (Oe v l s b w hc h V);have hn:=zH h.sL;unfold maxLen at hn;have HH:=Z h;have HB:=Z q;clear hc h q;go_enter func186,ntmps186;go_wp2_with fail;refine HC.o.mono ?_;rintro e o ⟨rfl,c⟩;have d:=HB.o.fr c id;have a4:o.cell? (Y b 0)=some v:=by rw[d.cell];rfl
 have b7:=d.frozen 0;go_wp2_with fail;have hN:Blk (o.alloc (.cells #[I s,.string x] 268)) o.heap.size [I s,.string x] 268:=Blk.new o [I s,.string x] _;have A:=d.alloc (.cells #[I s,.string x] 268);have J:Fr Nil w (o.alloc (.cells #[I s,.string x] 268)):=c.alloc _;have a9:∀ k,v.ownBlock=some k->k<o.heap.size:=fun k m=>zF (HH.o.fr c (fun _ _=>id)).sL m;generalize o.alloc (.cells #[I s,.string x] 268)=w2 at hN A J |-;have y:=HH.o.fr J (fun _ _=>id);have M:v.ownBlock≠some b:=zh y.sL A ht;have a2:=VW Z0 (ZW l) s;simp only[Bm] at a2;refine(P3 v l.length (low Z0 (ZW l) s) (ZE l) [I s,.string x] o.heap.size w2 y.sL (G8 l) a2 rfl ak hN (fun e=>by have:=a9 _ e;omega) V).mono ?_;rintro e w3 ⟨g,R,rfl,a1,K,a5⟩;have r:=A.fr K M;have b1:w3.cell? (Y b 0)=some v:=by rw[r.cell];rfl
 have b8:=r.frozen 0;have c0:b≠g:=by
  rcases a5 with h|h
  .intro e;exact M (by rw[h,e])
  .have:=A.lt;omega
 have j:CA w b t v rest (WS l s x) (w3.setCell (Y b 0) (.slice (some (Y g 0)) (l.length+1) R)):=by
  have X:=TC (l:=l) (s:=s) (x:=x);refine⟨.slice (some (Y g 0)) (l.length+1) R,r.set 0 _,⟨?_,FO s _ y.rp ha⟩,Fr.set ((J.mono (fun _ _ h=>absurd h id)).tk K (fun i _ h=>.inr h)) (fun _=>.inl rfl) _,fun k m=>?_⟩
  .rw[X]
   have e:ZE (WS l s x)=YH 2 (low Z0 (ZW l) s) (ZE l) [I s,.string x]:=by
    unfold WS YH;rw[Wf,Wf,J0,J5]
    rfl
   exact IK
  .exact MX
 have HF:=Z j;clear j
 go_wp2
 exact Aw (v:=.tuple #[]) af rfl ⟨rfl,HF.o⟩
end Go.Proofs.YtkhnggkkiefcdaaGreatDoor
namespace Go.Proofs.YtkhnggkkiefcdaaGreatDoor
open Go.RowKit Go.Shelf Proofs.Tryz
set_option maxRecDepth 100000
set_option maxHeartbeats 8000000
attribute [local go_sem] ye
theorem Of(v:Value)(l:List ByteArray)(s:ByteArray)(w:World)(h:w.ownsRow 0 9 1 v l.length (strs l)) :
 Calls prog 234 #[v,.string s] w fun e d=>∃ r:Int,e=.returned (I r)/\decide (0<=r)=l.any (·==s)/\Fr Nil w d:=by
 have hn:=zH h;unfold maxLen at hn;obtain⟨a,cap,rfl⟩:=zf h;go_enter func234,ntmps234
 go_wp2
 go_loopw [8] (fun t d=>∃ k:Nat,k<=l.length/\t=I k/\(∀ j (hj:j<l.length),j<k->(l[j]==s)=false)/\Fr Nil w d) (fun t _=>l.length-(intOf t).toNat)
 case atStart=>exact⟨0,Bg _,rfl,fun j _ hj=>absurd hj (BF _),U _ _⟩
 case round =>
  obtain⟨k,hk,rfl,hj,hf⟩:=hrel;by_cases a5:k<l.length
  .have hr:=ze h hf (fun _ _=>id)
   obtain⟨g,q0,hg,_,_⟩:=zl hr V;obtain⟨rfl,rfl⟩:a=some (Y g 0)/\cap=q0:=by simpa using hg
   have hc:=own_cell? hr k (.string l[k]) (by simp[strs,a5]);have hb:=yQ s l[k];cases hm:(s==l[k]) with
   | true =>
    have l7:(s.toList==l[k].toList)=true:=by rw[<- hb];exact hm
    have e3:l.any (·==s)=true:=by rw[wk];exact⟨l[k],CU a5,by rw[zY] at hm |-;exact hm.symm⟩
    have e6:=Z e3;clear hb hm hj e3 hr
    go_wp2
    go_ret;exact⟨_,rfl,by rw[e6.o];simp,hf⟩
   | false =>
    have l7:(s.toList==l[k].toList)=false:=by rw[<- hb];exact hm
    have q4:∀ j (hj:j<l.length),j<k+1->(l[j]==s)=false:=by
     intro j l5 t3;by_cases e:j=k
     .subst e
      cases h:(l[j]==s) with
      | false=>rfl
      | true=>rw[zY] at h;rw[<- h,zY.2 rfl] at hm;cases hm
     .exact hj j l5 V
    have HJ:=Z q4;clear hb hm hj q4 hr
    go_wp2
    exact⟨⟨k+1,V,by go_num,HJ.o,hf⟩,by simp[intOf];omega⟩
  .have e3:l.any (·==s)=false:=by
    exact Ll
   have e6:=Z e3;clear hj e3
   go_wp2
   go_ret;exact⟨_,rfl,by rw[e6.o];simp,hf⟩
theorem SQ(v:Value)(l:List ByteArray)(s:ByteArray)(w:World)(h:w.ownsRow 0 9 1 v l.length (strs l)) :
 Calls prog 218 #[v,.string s] w fun e f=>e=.returned (.bool (l.any (·==s)))/\Fr Nil w f:=by
 have b:=Z (Of v l s w h);clear h;go_enter func218,ntmps218
 go_wp2_with (refine b.o.mono ?_;rintro e g ⟨r,rfl,a,d⟩;have c:=Z a;clear a)
 go_ret;exact⟨by rw[<- c.o];rfl,d⟩
end Go.Proofs.YtkhnggkkiefcdaaGreatDoor
namespace Go.Proofs.YtkhnggkkiefcdaaGreatDoor
open Go.RowKit Proofs.Tryz
set_option maxRecDepth 100000
set_option maxHeartbeats 8000000
variable{l:List (Nat × ByteArray)}{s:Nat}
def Yq:ByteArray:=⟨#[98,97,115,101]⟩
theorem G9(h:s∉ZW l):Zb Z0 (ZW l) s=false:=by
 rcases Az (low Z0 (ZW l) s) l.length with a|a
 .rw[Wl a rfl,Ay]
  rintro e;exact h (by rw[<- e];exact BW (CU a))
 .exact V7 aQ
theorem FP{x:ByteArray}{e:Nat × ByteArray}:e∈WS l s x↔e∈l\/e=(s,x):=by
 have h:e∈l↔e∈l.take (low Z0 (ZW l) s)\/e∈l.drop (low Z0 (ZW l) s):=by
  rw[<- CV,Bo]
 rw[h];simp only[WS,CV,CX]
 constructor
 .rintro((h|h)|h)
  .exact .inl (.inl h)
  .exact .inr h
  .exact .inl (.inr h)
 .rintro((h|h)|h)
  .exact .inl (.inl h)
  .exact .inr h
  .exact .inl (.inr h)
theorem Og(n:Nat):Lib.hasPrefix (zw zV n).data.toList Yq.data.toList=false/\Lib.atoi (zw zV n).data.toList=none:=by
 have e:(zw zV n).data.toList=108::111::103::Lib.decDigits n:=by
  simp only[zw,zV,yG,yS,V3]
  rfl
 rw[e];exact⟨rfl,rfl⟩
theorem FQ(n:Nat)(a:n<10^15):(zw zV n).size<=18:=by
 have h:=V0 14 n a;have e:(zw zV n).data.toList.length=3+(Lib.decDigits n).length:=by
  simp only[zw,zV,yG,yS,V3];simp;omega
 have b:(zw zV n).size=(zw zV n).data.toList.length:=bG
 omega
end Go.Proofs.YtkhnggkkiefcdaaGreatDoor
namespace Go.Proofs.YtkhnggkkiefcdaaGreatDoor
open Go.RowKit Proofs.Tryz
theorem Lt{α:Type}(f:α->Nat):∀ (a b:List α),a.Pairwise (fun x y=>f x<f y)->b.Pairwise (fun x y=>f x<f y)->(∀ e,e∈a↔e∈b)->a=b
 | [],[],_,_,_=>rfl
 | [],y::b,_,_,h=>absurd ((h y).2 (CY ..)) bG
 | x::a,[],_,_,h=>absurd ((h x).1 (CY ..)) bG
 | x::a,y::b,d,g,h=>by
  rw[wC] at d g;have i:x=y:=by
   rcases BC.1 ((h x).1 (CY ..)) with e|e
   .exact e
   .rcases BC.1 ((h y).2 (CY ..)) with e2|e2
    .exact e2.symm
    .have c:=g.1 x e
     have j:=d.1 y e2;omega
  subst i;rw[Lt f a b d.2 g.2 fun e=>?_]
  constructor
  .intro he
   rcases BC.1 ((h e).1 (CT _ he)) with rfl|c
   .have:=d.1 e he;omega
   .exact c
  .intro he
   rcases BC.1 ((h e).2 (CT _ he)) with rfl|c
   .have:=g.1 e he;omega
   .exact c
end Go.Proofs.YtkhnggkkiefcdaaGreatDoor
namespace Go.Proofs.YtkhnggkkiefcdaaGreatDoor
open Go.RowKit Proofs.Tryz
set_option maxRecDepth 100000
set_option maxHeartbeats 8000000
variable{a:ByteArray}{n:Int}{p:Prop}{l:List Ver}{S:SM}{K:Keys}
def UV(l:List UInt8):Nat:=l.foldl (fun a c=>a*10+(c.toNat-48)) 0
theorem NY(l:List UInt8)(c:UInt8):UV (l++[c])=UV l*10+(c.toNat-48):=by simp[UV]
theorem Ux(u:Nat):UV (Lib.decDigits u)=u:=by
 induction u using Nat.strongRecOn with
 | _ u a =>
  rw[Lib.decDigits];by_cases h:u<10
  .rw[uI h]
   have:(UInt8.ofNat (48+u)).toNat=48+u:=by simp;omega
   simp only[UV,BX,List.foldl_nil,this];omega
  .rw[dif_neg h,NY,a (u / 10) V]
   have:(UInt8.ofNat (48+u%10)).toNat=48+u%10:=by simp;omega
   rw[this];omega
theorem FR{a b:Nat}(h:Wc a=Wc b):a=b:=by
 have c:Lib.itoa (a:Int)=Lib.itoa (b:Int):=by
  have:=AB (fun x:ByteArray=>x.data.toList) h
  simpa [Wc] using this
 have e:∀ n:Nat,Lib.itoa (n:Int)=Lib.decDigits n:=by
  intro n;unfold Lib.itoa;rw[CW V];simp
 rw[e,e] at c;rw[<- Ux a,<- Ux b,c]
theorem Qg{k:ByteArray}{a b:Nat}(h:zw k a=zw k b):a=b:=by
 refine FR ?_;have c:(zw k a).data.toList=(zw k b).data.toList:=by rw[h]
 unfold zw at c;simp only[yG,yS,List.append_cancel_left_eq] at c;exact wA (xQ c)
theorem J7(k:ByteArray)(n:Nat):(zw k n).size=k.size+(Wc n).size:=by
 unfold zw;simp
theorem FT(n:Nat):zw zV n≠ByteArray.empty:=by
 intro h;have:(zw zV n).size=0:=by rw[h];rfl
 rw[J7] at this;have a:zV.size=3:=rfl;omega
def DM.sW(M:DM):Nat:=(M.uX.map fun e=>(M.uV e.2).bytes.length).sum
theorem Oh(a:0<=n)(b:n<9223372036854775808):wrap64 n=n:=by unfold wrap64;omega
theorem DM.pP(M:DM)(h:M.sW<4611686018427387904):M.rE=M.sW:=by
 have key:∀ (d:Dir) (a:Nat),a+(d.map fun e=>(M.uV e.2).bytes.length).sum<4611686018427387904 ->
  d.foldl (fun n e=>wrap64 (n+(M.uV e.2).bytes.length)) (a:Int)=((a+(d.map fun e=>(M.uV e.2).bytes.length).sum:Nat):Int):=by
  intro d
  induction d with
  | nil=>intro a _;simp
  | cons e d c =>
   intro a b;simp only[Bw,yf] at b;rw[BX,Oh V V];have:=c (a+(M.uV e.2).bytes.length) V;rw[show((a:Int)+((M.uV e.2).bytes.length:Int))=((a+(M.uV e.2).bytes.length:Nat):Int) from by push_cast;rfl,this];simp only[Bw,yf]
   congr 1
   omega
 have:=key M.uX 0 (by unfold DM.sW at h;omega);unfold DM.rE DM.qE;rw[Bj];rw[show(0:Int)=((0:Nat):Int) from rfl,this];unfold DM.sW;simp
theorem Qh{d:Dir}(h:∀ e∈d,e.1≠a):d.sF a=none:=by
 have c:d.find? (fun e=>e.1==a)=none:=by
  rw[yY];intro e b x;exact h e b (zY.1 x)
 unfold Dir.sF;rw[c]
 rfl
theorem Qi{f n:Nat}(size:Nat->Nat):∀ (d:Dir),(d.map (·.2)).Nodup->(d.map fun e=>if e.2=f then size e.2+n else size e.2).sum<=(d.map fun e=>size e.2).sum+n
 | [],_=>bG
 | e::d,h=>by
  simp only[Bw,yv] at h;simp only[Bw,yf];by_cases a:e.2=f
  .rw[Bl a]
   have:(d.map fun e=>if e.2=f then size e.2+n else size e.2)=d.map fun e=>size e.2:=by
    apply yn
    intro x c;rw[CW];intro b;exact h.1 (by rw[a,<- b];exact BW c)
   rw[this];omega
  .rw[CW a]
   have:=Qi (f:=f) (n:=n) size d h.2;omega
structure VOk(u:Ver):Prop where
 node:zW u.node
 oR:u.Nat
 size:u.value.size<=128
 qy:1<=u.seq
 ts:u.ts=false
theorem Ga(h:isN n):(zk n.toNat).length<=9:=zL (by unfold isN at h;omega)
theorem Oi:∀ l:List Nat,(∀ x∈l,x<9223372036854775808)->((l.map zk).flatten).length<=9*l.length
 | [],_=>bG
 | a::l,h=>by
  have:=Oi l (fun x b=>h x (CT _ b));have c:=zL (h a (CY ..));simp only[Bw,yA,CN,Bh];omega
theorem Gb(l:List Nat)(a:∀ x∈l,x<9223372036854775808)(b:l.length<9223372036854775808):(Xq l).length<=9+9*l.length:=by
 unfold Xq;rw[CN];have c:=zL b;have:=Oi l a;omega
theorem UW(s:ByteArray)(h:s.size<1000000000):(Zk s.data.toList).length<=9+s.size:=by
 have hs:s.data.toList.length=s.size:=by rw[yh];rfl
 unfold Zk;rw[CN,hs];have:=zL (n:=s.size) V;omega
theorem FU{u:Ver}(h:VOk u):(Y9 u).length<=200:=by
 unfold Y9;simp only[CN];have g:=Ga h.oR.node;have i:=Ga h.oR.seq;have f:=Gb [u.o0.toNat,u.o1.toNat,u.o2.toNat,u.o3.toNat] (by
  have a:=h.oR.o0;have b:=h.oR.o1;have c:=h.oR.o2;have d:=h.oR.o3;unfold isN at a b c d;intro x e;simp only[BC,yX,ub] at e;rcases e with rfl|rfl|rfl|rfl <;> omega) (by simp only[Bh,BU];omega)
 have j:=UW u.value h.oR.size;have:=h.size;simp only[Bh,BU] at f;omega
theorem Qj(l:List Ver)(h:∀ u∈l,VOk u)(g:l.length<=5):(Y3 l).length<=1009:=by
 unfold Y3;rw[CN];have e:=zL (n:=l.length) V;have b:∀ l:List Ver,(∀ u∈l,VOk u)->((l.map Y9).flatten).length<=200*l.length:=by
  intro l
  induction l with
  | nil=>intro _;simp
  | cons a l d =>
   intro h;have:=d (fun x c=>h x (CT _ c));have f:=FU (h a (CY ..));simp only[Bw,yA,CN,Bh];omega
 have:=b l h;omega
theorem Uc(l:List UInt8)(h:l.length<9223372036854775808):(Z5 l).length<=9+l.length:=by
 unfold Z5;rw[CN];have:=zL h;omega
theorem XW(l:List UInt8):(zp l).size=l.length:=rfl
theorem Lu(h:p:=by
 have c:=Uc (zk 1++zk n) (by rw[CN];omega);rw[CN] at c;omega):p:=h
theorem Gc{n:Nat}(h:n<9223372036854775808):(zj (.inl n)).size<=2000:=by
 show(zp (W8 n)).size<=2000;rw[XW];unfold W8;have a:=zL (n:=1) O;have b:=zL h;exact Lu
theorem Gd(h:p:=by
 rw[XW];unfold zu at a;simp only[Bi] at a;unfold WB;have d:=zL (n:=2) O;have e:=UW key V;have f:=Qj l h b;have c:=Uc (zk 2++(Zk key.data.toList++Y3 l)) (by simp only[CN];omega);simp only[CN] at c;omega):p:=h
theorem Xl{key:ByteArray}(a:zu key=true)(h:∀ u∈l,VOk u)(b:l.length<=5):(zj (.inr (.inl (key,l)))).size<=2000:=by
 show(zp (WB key l)).size<=2000;exact Gd
theorem Wg{to:Nat}(h:to<9223372036854775808)(hs:a.size<=64):(zj (.inr (.inr (.inl (to,a))))).size<=2000:=by
 show(zp (Wk to a)).size<=2000;rw[XW];unfold Wk;have c:=zL (n:=3) O;have d:=UW a V;have e:=zL h;have b:=Uc (zk 3++(zk to++Zk a.data.toList)) (by simp only[CN];omega);simp only[CN] at b;omega
theorem Qk:(zj (.inr (.inr (.inr ())))).size<=2000:=by
 show(zp Va).size<=2000;rw[XW];unfold Va;have a:=zL (n:=4) O;have b:=Uc (zk 4) V;omega
theorem WH{key:ByteArray}(a:zu key=true)(h:∀ u∈l,VOk u)(b:l.length<=5):FOk (.inr (.inl (key,l))):=by
 unfold zu at a;simp only[Bi] at a;have:=Qj l h b;exact⟨fun v c=>(h v c).oR,by show l.length<_;omega,by show key.size<_;omega,by show(Y3 l).length<=_;omega⟩
structure Zc(S:SM):Prop where
 rp:ZR S.uR
 key:∀ e∈S.uR,YM e.2/\e.2.length<=4/\∀ u∈e.2,VOk u
 qT:S.uU.length<=32
 tT:∀ e∈S.uR,zu e.1=true
 some:∀ e∈S.uR,e.2≠[]
 tZ:∀ x∈S.uU,x.1<4/\x.2.size<=64
theorem Oj(K:Keys)(key:ByteArray):zn K key=[]\/∃ e∈K,e.1=key/\e.2=zn K key:=by
 cases ha:Zb zi (K.map Prod.fst) key with
 | false=>exact .inl (by unfold zn;rw[ha];rfl)
 | true =>
  obtain⟨l,hs,a⟩:=U9 ha;refine .inr ⟨(key,l),?_,rfl,a.symm⟩;rw[hs];simp
theorem Zc.get(h:Zc S)(key:ByteArray):YM (zn S.uR key)/\(zn S.uR key).length<=4/\∀ u∈zn S.uR key,VOk u:=by
 rcases Oj S.uR key with e|⟨e,d,_,c⟩
 .rw[e]
  exact⟨List.Pairwise.nil,bG,fun u f=>absurd f bG⟩
 .rw[<- c]
  exact h.key e d
theorem Vn{key:ByteArray}:∀ e∈Ya K key l,e∈K\/e=(key,l):=by
 intro e a;simp only[Ya,CV,CX] at a;rcases a with(a|rfl)|a
 .exact .inl (BN a)
 .exact .inr rfl
 .exact .inl (Bx a)
theorem Vo{key:ByteArray}:∀ e∈Xh K key,e∈K:=by
 intro e a;unfold Xh at a;exact IJ
theorem Ok(key:ByteArray)(l:List Ver)(h:ZR K):ZR (Ya K key l):=by
 unfold ZR at h |-;cases ha:Zb zi (K.map Prod.fst) key with
 | true =>
  obtain⟨d,hs,_⟩:=U9 ha;have e:(Ya K key l).map Prod.fst=K.map Prod.fst:=by
   have a:K.map Prod.fst=(K.take (low zi (K.map Prod.fst) key)++(key,d)::K.drop (low zi (K.map Prod.fst) key+1)).map Prod.fst:=AB (List.map Prod.fst) hs;unfold Ya;rw[Bl ha]
   conv=>rhs;rw[a]
   simp
  rw[e];exact h
 | false =>
  have:=Asc.mf Zp (b:=key) h (fun c e=>by rw[Tb c,e] at ha;rw[zY.2 rfl] at ha;cases ha);unfold Ya;simp only[ha,Av,Aa]
  simpa [List.map_take,List.map_drop] using this
theorem Ol(key:ByteArray)(h:ZR K):ZR (Xh K key):=by
 unfold ZR at h |-;unfold Xh;split
 .have:=Asc.mi h (low zi (K.map Prod.fst) key)
  simpa [List.map_take,List.map_drop] using this
 .exact h
theorem Om(K:Keys)(key:ByteArray)(l:List Ver):(Ya K key l).length<=K.length+1:=by
 unfold Ya;simp only[CN,CR,Bc,CQ];split <;> omega
theorem On(K:Keys)(key:ByteArray):(Xh K key).length<=K.length:=by
 unfold Xh;split
 .simp only[CN,CR,Bc];omega
 .exact CP _
theorem Zc.holds(h:Zc S)(key:ByteArray)(d:zu key=true)(l:List Ver)(c:YM l)(f:l.length<=4)(i:∀ u∈l,VOk u):Zc (S.holds key l):=by
 unfold SM.holds;split
 .exact⟨Ol key h.rp,fun e a=>h.key e (Vo e a),h.qT,fun e a=>h.tT e (Vo e a),fun e a=>h.some e (Vo e a),h.tZ⟩
 .rename_i hne
  exact⟨Ok key l h.rp,fun e a=>(Vn e a).elim (h.key e) (fun b=>by subst b;exact⟨c,f,i⟩),h.qT,fun e a=>(Vn e a).elim (h.tT e) (fun b=>by subst b;exact d),fun e a=>(Vn e a).elim (h.some e) (fun b=>by subst b;exact hne),h.tZ⟩
theorem Ge(S:SM)(key:ByteArray)(l:List Ver):(S.holds key l).uR.length<=S.uR.length+1:=by
 unfold SM.holds;simp only;split
 .exact As (On S.uR key)
 .exact Om S.uR key l
theorem Zc.tm(h:Zc S)(n:Nat):Zc {S with tm:=n}:=⟨h.rp,h.key,h.qT,h.tT,h.some,h.tZ⟩
abbrev Seg:=List Fact × List UInt8
def ZI(s:Seg):List UInt8:=zK s.1++s.2
def Zg(a:List Seg):List Fact:=(a.map Prod.fst).flatten
theorem U3(a b:List Seg):Zg (a++b)=Zg a++Zg b:=by simp[Zg]
def Torn(l:List UInt8):Prop:=∃ a,l<+:Z5 a/\l≠Z5 a/\a.length<9223372036854775808
theorem TX:Torn []:=⟨[],(Ob []).1,(Ob []).2,O⟩
def Yb(x:Fact):Prop:=FRead x/\(zx x).length<9223372036854775808
def V4(s:Seg):Prop:=(∀ x∈s.1,Yb x)/\Torn s.2
def CB(a:List Seg):Prop:=∀ s∈a,V4 s
end Go.Proofs.YtkhnggkkiefcdaaGreatDoor
