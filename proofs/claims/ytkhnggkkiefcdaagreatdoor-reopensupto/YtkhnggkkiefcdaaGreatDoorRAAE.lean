/- larder: joined texts -/
import Derived.Test.YtkhnggkkiefcdaaGreatDoorRAAD
import Derived.Shelf.Strconv.Itoa3
import Derived.Shelf.Pu.Clone
import Derived.Ground.NamesProg
import Derived.Ground.MpProg
import Derived.Test.YtkhnggkkiefcdaaGreatDoorProg
import Derived.Test.YtkhnggkkiefcdaaGreatDoorRows
import Derived.Lib.ItoaLen
import Derived.Deep.RegionHeld3
import Derived.Test.YtkhnggkkiefcdaaGreatDoorChecked
import Derived.Lib.LazyBuf
namespace Go.Proofs.YtkhnggkkiefcdaaGreatDoor
open Go.RowKit
set_option maxRecDepth 100000
set_option maxHeartbeats 8000000
def JM.syncAll(J:JM)(M:DM):Option Int × JM × DM :=
 if (J.syncLast M).1=none∧J.last≠0∧J.dirSafe=false then J.syncDir (J.syncLast M).2 else((J.syncLast M).1,J,(J.syncLast M).2)
theorem W9(jb db:Nat)(J:JM)(L:DL)(M:DM)(w:World)(hj:JRep w jb db J)(hd:DRep w db L M) :
  Calls Tryz.prog 84 #[.pointer (some ⟨jb,0,none⟩)] w fun e w'=>∃ v L',e=.returned v∧ERep w' v (J.syncAll M).1∧JStep jb db L M w (J.syncAll M).2.1 L' (J.syncAll M).2.2 w':=by
 have HC:=Z (Wl jb db J L M w hj hd)
 have HD:=Z hd
 have HJ:=Z hj
 clear hd hj
 go_enter Tryz.func84,Tryz.ntmps84
 go_wp2_with fail
 refine HC.out.mono ?_
 rintro e w1 ⟨v1,L1,rfl,hE,hst⟩
 have hjs:JStep jb db L M w J L1 (J.syncLast M).2 w1:=JStep.of_disk HJ.out HD.out hst
 have hc:=hjs.1.cell
 simp only[JM.cells] at hc
 have HJS:=Z hjs
 have HE:=Z hE
 clear hjs hst HC
 cases he:(J.syncLast M).1 with
 | some n =>
  have hp:J.syncAll M=(some n,J,(J.syncLast M).2):=by unfold JM.syncAll;rw[if_neg (by rw[he];simp),he]
  have HP:=Z hp
  rw[he] at hE HE
  obtain⟨k,hk⟩:=hE
  obtain⟨t,b,rfl⟩:=hk.form
  clear he hp hk
  go_wp2_with fail
  refine(zF _ _ (some n) w1 HE.out).mono ?_
  rintro e w2 ⟨v2,rfl,hE2,hf2⟩
  have HE2:=Z hE2
  have HF:=Z (HJS.out.andNil hf2)
  clear hE2 hf2
  go_wp2
  go_ret
  rw[HP.out]
  exact⟨_,L1,rfl,HE2.out,HF.out⟩
 | none =>
  rw[he] at hE HE
  have hv:v1=.nilIface:=hE
  subst hv
  by_cases hg:J.last≠0∧J.dirSafe=false
  ·have hp:J.syncAll M=J.syncDir (J.syncLast M).2:=by unfold JM.syncAll;rw[if_pos ⟨he,hg⟩]
   have HP:=Z hp
   have HS:=Z (UW jb db J L1 (J.syncLast M).2 w1 HJS.out.1 HJS.out.2.1)
   have hq1:0<J.last:=by omega
   have hq2:=hg.2
   rw[hq2] at hc
   clear he hp hg hE hq2
   go_wp2_with fail
   refine HS.out.mono ?_
   rintro e w2 ⟨v2,L2,rfl,hE2,hjs2⟩
   have HJ2:=Z (HJS.out.trans hjs2)
   have HE2:=Z hE2
   clear hE2 hjs2
   go_wp2_with fail
   refine(zF _ _ _ w2 HE2.out).mono ?_
   rintro e w3 ⟨v3,rfl,hE3,hf3⟩
   have HE3:=Z hE3
   have HF:=Z (HJ2.out.andNil hf3)
   clear hE3 hf3
   go_wp2
   go_ret
   rw[HP.out]
   exact⟨_,L2,rfl,HE3.out,HF.out⟩
  ·have hp:J.syncAll M=(none,J,(J.syncLast M).2):=by unfold JM.syncAll;rw[if_neg (fun h=>hg h.2),he]
   have HP:=Z hp
   have hg':J.last=0∨J.dirSafe=true:=by
    rcases Nat.eq_zero_or_pos J.last with h|h
    ·exact .inl h
    ·right
     cases hds:J.dirSafe with
     | true=>rfl
     | false=>exact absurd ⟨by omega,hds⟩ hg
   clear he hp hg hE
   by_cases hl:J.last=0
   ·have hq1:¬0<J.last:=by omega
    go_wp2_with fail
    refine(zF _ _ none w1 rfl).mono ?_
    rintro e w2 ⟨v2,rfl,hE2,hf2⟩
    have HE2:=Z hE2
    have HF:=Z (HJS.out.andNil hf2)
    clear hE2 hf2
    go_wp2
    go_ret
    rw[HP.out]
    exact⟨_,L1,rfl,HE2.out,HF.out⟩
   ·have hq1:0<J.last:=by omega
    have hq2:J.dirSafe=true:=hg'.resolve_left hl
    rw[hq2] at hc
    clear hg' hl hq2
    go_wp2_with fail
    refine(zF _ _ none w1 rfl).mono ?_
    rintro e w2 ⟨v2,rfl,hE2,hf2⟩
    have HE2:=Z hE2
    have HF:=Z (HJS.out.andNil hf2)
    clear hE2 hf2
    go_wp2
    go_ret
    rw[HP.out]
    exact⟨_,L1,rfl,HE2.out,HF.out⟩
end Go.Proofs.YtkhnggkkiefcdaaGreatDoor
namespace Go.Proofs
open Go.Shelf
def Tryz.laysM171_ren:Go.Shelf.Ren:=⟨fun|171=>81|243=>130|246=>165|283=>205|284=>206|285=>207|286=>208|129=>229|317=>228|318=>230|319=>231|320=>232|337=>242|338=>243|n=>n,fun|3=>3|9=>9|2=>2|4=>4|171=>293|0=>0|53=>274|37=>150|5=>5|173=>296|212=>322|51=>323|20=>20|213=>324|46=>299|232=>340|233=>341|n=>n,fun|17=>1|18=>2|19=>3|n=>n⟩
theorem Tryz.laysM171:Go.Proofs.LaysM.n171 Tryz.prog Tryz.laysM171_ren:={
 mixed:=by kernel_rfl
 f129:=Tryz.func229.trans (congrArg some (by kernel_rfl))
 f171:=Tryz.func81.trans (congrArg some (by kernel_rfl))
 f243:=Tryz.func130.trans (congrArg some (by kernel_rfl))
 f246:=Tryz.func165.trans (congrArg some (by kernel_rfl))
 f283:=Tryz.func205.trans (congrArg some (by kernel_rfl))
 f284:=Tryz.func206.trans (congrArg some (by kernel_rfl))
 f285:=Tryz.func207.trans (congrArg some (by kernel_rfl))
 f286:=Tryz.func208.trans (congrArg some (by kernel_rfl))
 f317:=Tryz.func228.trans (congrArg some (by kernel_rfl))
 f318:=Tryz.func230.trans (congrArg some (by kernel_rfl))
 f319:=Tryz.func231.trans (congrArg some (by kernel_rfl))
 f320:=Tryz.func232.trans (congrArg some (by kernel_rfl))
 f337:=Tryz.func242.trans (congrArg some (by kernel_rfl))
 f338:=Tryz.func243.trans (congrArg some (by kernel_rfl))
 t0:=Tryz.underlying0
 a0:=Tryz.isAgg0
 z0:=Tryz.sizeOf0
 v0:=Tryz.zeroValue0
 t2:=Tryz.underlying2
 a2:=Tryz.isAgg2
 z2:=Tryz.sizeOf2
 v2:=Tryz.zeroValue2
 t3:=Tryz.underlying3
 a3:=Tryz.isAgg3
 z3:=Tryz.sizeOf3
 v3:=Tryz.zeroValue3
 t4:=Tryz.underlying4
 a4:=Tryz.isAgg4
 z4:=Tryz.sizeOf4
 v4:=Tryz.zeroValue4
 t5:=Tryz.underlying5
 a5:=Tryz.isAgg5
 z5:=Tryz.sizeOf5
 v5:=Tryz.zeroValue5
 t9:=Tryz.underlying9
 a9:=Tryz.isAgg9
 z9:=Tryz.sizeOf9
 v9:=Tryz.zeroValue9
 t20:=Tryz.underlying20
 a20:=Tryz.isAgg20
 z20:=Tryz.sizeOf20
 v20:=Tryz.zeroValue20
 t37:=Tryz.underlying150
 a37:=Tryz.isAgg150
 z37:=Tryz.sizeOf150
 v37:=Tryz.zeroValue150
 t46:=Tryz.underlying299
 a46:=Tryz.isAgg299
 z46:=Tryz.sizeOf299
 v46:=Tryz.zeroValue299
 t51:=Tryz.underlying323
 a51:=Tryz.isAgg323
 z51:=Tryz.sizeOf323
 v51:=Tryz.zeroValue323
 t53:=Tryz.underlying274
 a53:=Tryz.isAgg274
 z53:=Tryz.sizeOf274
 v53:=Tryz.zeroValue274
 t171:=Tryz.underlying293
 a171:=Tryz.isAgg293
 z171:=Tryz.sizeOf293
 v171:=Tryz.zeroValue293
 t173:=Tryz.underlying296
 a173:=Tryz.isAgg296
 z173:=Tryz.sizeOf296
 v173:=Tryz.zeroValue296
 t212:=Tryz.underlying322
 a212:=Tryz.isAgg322
 z212:=Tryz.sizeOf322
 v212:=Tryz.zeroValue322
 t213:=Tryz.underlying324
 a213:=Tryz.isAgg324
 z213:=Tryz.sizeOf324
 t232:=Tryz.underlying340
 a232:=Tryz.isAgg340
 z232:=Tryz.sizeOf340
 v232:=Tryz.zeroValue340
 t233:=Tryz.underlying341
 a233:=Tryz.isAgg341
 z233:=Tryz.sizeOf341
 v233:=Tryz.zeroValue341
 g17:=by kernel_rfl
 g18:=by kernel_rfl
 g19:=by kernel_rfl
 i0:=by kernel_rfl
 i2:=by kernel_rfl
 i3:=by kernel_rfl
 i4:=by kernel_rfl
 i5:=by kernel_rfl
 i9:=by kernel_rfl
 i20:=by kernel_rfl
 i37:=by kernel_rfl
 i46:=by kernel_rfl
 i51:=by kernel_rfl
 i53:=by kernel_rfl
 i171:=by kernel_rfl
 i173:=by kernel_rfl
 i212:=by kernel_rfl
 i232:=by kernel_rfl
 i233:=by kernel_rfl
 m17:=by kernel_rfl
 m18:=by kernel_rfl
 m19:=by kernel_rfl}
def Tryz.laysPu25_ren:Go.Shelf.Ren:=⟨fun|25=>125|n=>n,fun|9=>9|3=>3|4=>4|37=>150|0=>0|47=>240|5=>5|n=>n,fun|n=>n⟩
theorem Tryz.laysPu25:Go.Proofs.LaysPu.n25 Tryz.prog Tryz.laysPu25_ren:={
 mixed:=by kernel_rfl
 f25:=Tryz.func125.trans (congrArg some (by kernel_rfl))
 t0:=Tryz.underlying0
 a0:=Tryz.isAgg0
 z0:=Tryz.sizeOf0
 v0:=Tryz.zeroValue0
 i0:=by kernel_rfl
 t3:=Tryz.underlying3
 a3:=Tryz.isAgg3
 z3:=Tryz.sizeOf3
 v3:=Tryz.zeroValue3
 i3:=by kernel_rfl
 t4:=Tryz.underlying4
 a4:=Tryz.isAgg4
 z4:=Tryz.sizeOf4
 v4:=Tryz.zeroValue4
 i4:=by kernel_rfl
 t5:=Tryz.underlying5
 a5:=Tryz.isAgg5
 z5:=Tryz.sizeOf5
 v5:=Tryz.zeroValue5
 i5:=by kernel_rfl
 t9:=Tryz.underlying9
 a9:=Tryz.isAgg9
 z9:=Tryz.sizeOf9
 v9:=Tryz.zeroValue9
 i9:=by kernel_rfl
 t37:=Tryz.underlying150
 a37:=Tryz.isAgg150
 z37:=Tryz.sizeOf150
 v37:=Tryz.zeroValue150
 i37:=by kernel_rfl
 t47:=Tryz.underlying240
 a47:=Tryz.isAgg240
 z47:=Tryz.sizeOf240
 v47:=Tryz.zeroValue240
 i47:=by kernel_rfl}
end Go.Proofs
namespace Go.Proofs.YtkhnggkkiefcdaaGreatDoor
open Go.RowKit
set_option maxRecDepth 100000
set_option maxHeartbeats 8000000
def YU:String:=(Rows.writesRow.laid.map (fun x=>x.1)).getD 2 ""
def Tab(w:World):Prop:=Lib.TabIs Tryz.prog w YU .u64 Lib.pow10Tab
def YJ(n:Nat):ByteArray:=⟨(Lib.itoa n).toArray⟩
theorem MO(w:World)(os:Array Obj):Fr Nil w (Sort.grow w os):=⟨rfl,rfl,rfl,by simp[Sort.grow],fun k hk _=>by simp[Sort.grow,Array.getElem?_append,hk]⟩
theorem Pt(n:Nat)(h:n<9223372036854775808)(w:World)(ht:Tab w) :
  Calls Tryz.prog 81 #[.int .i64 n] w fun e w'=>e=.returned (.string (YJ n))∧Fr Nil w w':=by
 have:=Any.strconv_Itoa Tryz.laysM171 n (by omega) (by omega) w ht
 refine Calls.mono (show Calls Tryz.prog 81 #[.int .i64 n] w _ from this) ?_
 rintro e w' ⟨rfl,k,os,rfl⟩
 exact⟨rfl,((G _ _).drewN k).trans (MO _ os)⟩
def Hnd(w:World):Prop:=w.cell? ⟨0,0,none⟩=some (.iface 309 (.agg #[.pointer (some ⟨6,132,none⟩)]))
def YK(B:Nat)(w:World):Prop:=Tab w∧(∀ g,Tryz.prog.globalNamed YU=some g→g<B)∧Hnd w∧0<B
theorem YK.fr{B:Nat}{S:Nat→Prop}{w w':World}(h:YK B w)(hB:B≤w.heap.size)(f:Fr S w w')(hS:∀ k,S k→B≤k):YK B w':=by
 refine⟨?_,h.2.1,(f.cell (by have:=h.2.2.2;show _<_;simp only;omega) (fun hs=>by have:=hS _ hs;have:=h.2.2.2;simp only at *;omega)).trans h.2.2.1,h.2.2.2⟩
 have h1:=h.1
 unfold Tab Lib.TabIs World.var? at h1 ⊢
 cases hg:Tryz.prog.globalNamed YU with
 | none=>rw[hg] at h1;simp at h1
 | some g =>
  rw[hg] at h1
  have hlt:=h.2.1 g hg
  simp only[Option.bind_some] at h1 ⊢
  rw[f.block g (by omega) (fun hs=>by have:=hS g hs;omega)]
  exact h1
def ze(kind:ByteArray)(n:Nat):ByteArray:=kind++YJ n
theorem V9(kind:ByteArray)(hkind:kind.size≤1000)(n:Nat)(h:n<9223372036854775808)(w:World)(ht:Tab w) :
  Calls Tryz.prog 173 #[.string kind,.int .i64 n] w fun e w'=>e=.returned (.string (ze kind n))∧Fr Nil w w':=by
 have HI:=Z (Pt n h w ht)
 unfold ze
 have hs:(YJ n).size≤21:=by unfold YJ;simpa [ByteArray.size] using Lib.itoa_length_le (n:Int) (by omega) (by omega)
 generalize YJ n=s at HI hs ⊢
 have hs2:(kind.size:Int)+s.size≤9223372036854775807:=by omega
 have hs3:¬(9223372036854775807:Int)<(kind.size:Int)+s.size:=by omega
 clear ht
 go_enter Tryz.func173,Tryz.ntmps173
 go_wp2_with (refine HI.out.mono ?_;rintro e w1 ⟨rfl,hf⟩)
 go_ret
 exact⟨rfl,hf⟩
def zk:ByteArray:=⟨#[108,111,103]⟩
def JM.begin(J:JM)(M:DM)(number f:Nat):Option Int × JM × DM :=
 match (J.syncLast M).1 with
 | some n=>(some n,J,(J.syncLast M).2)
 | none =>
  if ((J.syncLast M).2.create (ze zk number) f).1=0 then
   (none,{J with last:=number,name:=ze zk number,size:=0,torn:=false,dirSafe:=false},((J.syncLast M).2.create (ze zk number) f).2)
  else(some ((J.syncLast M).2.create (ze zk number) f).1,J,((J.syncLast M).2.create (ze zk number) f).2)
theorem Wa(B jb db:Nat)(J:JM)(L:DL)(M:DM)(number:Nat)(hnum:number<9223372036854775808)(w:World)(hj:JRep w jb db J)(hd:DRep w db L M)(ht:YK B w)(hB:B≤w.heap.size)(hfoot:∀ k,Foot db L M k→B≤k)
  (hb1:(J.syncLast M).2.chs.length+1≤1000000000000)(hb2:(J.syncLast M).2.dir.length+1≤1000000000000) :
  Calls Tryz.prog 210 #[.pointer (some ⟨jb,0,none⟩),.int .i64 number] w fun e w' =>
   ∃ f v L',e=.returned v∧w.heap.size≤f∧ERep w' v (J.begin M number f).1∧JStep jb db L M w (J.begin M number f).2.1 L' (J.begin M number f).2.2 w':=by
 have HC:=Z (Wl jb db J L M w hj hd)
 have HD:=Z hd
 have HJ:=Z hj
 have HT:=Z ht
 clear hd hj ht
 go_enter Tryz.func210,Tryz.ntmps210
 go_wp2_with fail
 refine HC.out.mono ?_
 rintro e w1 ⟨v1,L1,rfl,hE,hst⟩
 have hjs:JStep jb db L M w J L1 (J.syncLast M).2 w1:=JStep.of_disk HJ.out HD.out hst
 have hT1:Tab w1:=(HT.out.fr hB hst.fr hfoot).1
 have HJS:=Z hjs
 have HE:=Z hE
 have hsz:=hst.fr.size
 clear hjs hst HC
 cases he:(J.syncLast M).1 with
 | some n =>
  have hp:∀ f,J.begin M number f=(some n,J,(J.syncLast M).2):=by intro f;unfold JM.begin;rw[he]
  have HP:=Z hp
  rw[he] at hE HE
  obtain⟨k,hk⟩:=hE
  obtain⟨t,b,rfl⟩:=hk.form
  clear he hp hk
  go_wp2
  go_ret
  refine⟨w.heap.size,_,L1,rfl,Nat.le_refl _,?_,?_⟩
  ·rw[HP.out];exact HE.out
  ·rw[HP.out];exact HJS.out
 | none =>
  rw[he] at hE HE
  have hv:v1=.nilIface:=hE
  subst hv
  have hp:∀ f,J.begin M number f=if ((J.syncLast M).2.create (ze zk number) f).1=0 then
   (none,{J with last:=number,name:=ze zk number,size:=0,torn:=false,dirSafe:=false},((J.syncLast M).2.create (ze zk number) f).2)
   else(some ((J.syncLast M).2.create (ze zk number) f).1,J,((J.syncLast M).2.create (ze zk number) f).2):=by intro f;unfold JM.begin;rw[he]
  have HP:=Z hp
  clear he hp hE
  go_wp2_with fail
  refine(V9 zk (by decide) number hnum w1 hT1).mono ?_
  rintro e w2 ⟨rfl,hf2⟩
  have hjs2:=HJS.out.andNil hf2
  have hc0:w2.cell? ⟨jb,0,none⟩=some (.pointer (some ⟨db,0,none⟩)):=hjs2.1.cell 0
  have HJ2:=Z hjs2
  have hsz2:=hf2.size
  clear hjs2 hf2 hT1
  go_wp2_with fail
  refine(R1 (ze zk number) w2 db L1 (J.syncLast M).2 HJ2.out.2.1 hb1 hb2).mono ?_
  rintro e w3 ⟨f,L3,rfl,hf,hst3⟩
  have hjs3:=HJ2.out.trans (JStep.of_disk HJ2.out.1 HJ2.out.2.1 hst3)
  have hc:=hjs3.1.cell
  have hz:=hjs3.1.frozen
  simp only[JM.cells] at hc
  have HJ3:=Z hjs3
  clear hjs3 hst3 hc0
  by_cases hn:((J.syncLast M).2.create (ze zk number) f).1=0
  ·have hp2:=HP.out f
   rw[if_pos hn] at hp2
   have hq:(((J.syncLast M).2.create (ze zk number) f).1 != 0)=false:=by simp[hn]
   have HP2:=Z hp2
   clear hp2 hn
   go_wp2
   go_ret
   refine⟨f,_,L3,rfl,by omega,?_,?_⟩
   ·rw[HP2.out];rfl
   ·rw[HP2.out]
    have h3:=HJ3.out
    have s1:=JStep.set h3.1 h3.2.1 2 (.int .i64 number) (J':={J with last:=number}) rfl
    have s2:=JStep.set s1.1 s1.2.1 3 (.string (ze zk number)) (J':={J with last:=number,name:=ze zk number}) rfl
    have s3:=JStep.set s2.1 s2.2.1 4 (.int .i64 0) (J':={J with last:=number,name:=ze zk number,size:=0}) rfl
    have s4:=JStep.set s3.1 s3.2.1 5 (.bool false) (J':={J with last:=number,name:=ze zk number,size:=0,torn:=false}) rfl
    have s5:=JStep.set s4.1 s4.2.1 6 (.bool false) (J':={J with last:=number,name:=ze zk number,size:=0,torn:=false,dirSafe:=false}) rfl
    exact((((h3.trans s1).trans s2).trans s3).trans s4).trans s5
  ·have hp2:=HP.out f
   rw[if_neg hn] at hp2
   have hq:(((J.syncLast M).2.create (ze zk number) f).1 != 0)=true:=by simp[hn]
   have heo:Yo ((J.syncLast M).2.create (ze zk number) f).1=some ((J.syncLast M).2.create (ze zk number) f).1:=by unfold Yo;rw[if_neg hn]
   have HP2:=Z hp2
   have HEO:=Z heo
   clear hp2 hn heo
   go_wp2_with fail
   refine(XE _ _ _ w3).mono ?_
   rintro e w4 ⟨v4,rfl,hE4,hf4⟩
   have HE4:=Z hE4
   have HF:=Z (HJ3.out.andNil hf4)
   clear hE4 hf4
   go_wp2
   go_ret
   refine⟨f,_,L3,rfl,by omega,?_,?_⟩
   ·rw[HP2.out];have:=HE4.out;rw[HEO.out] at this;exact this
   ·rw[HP2.out];exact HF.out
def JM.fits(J:JM)(bytes:Nat):Bool:=decide (J.last≠0)&&(!J.torn&&decide (J.size+bytes≤J.limit))
def JM.makeRoom(J:JM)(M:DM)(bytes f:Nat):Option Int × JM × DM:=if J.fits bytes=true then(none,J,M) else J.begin M (J.last+1) f
theorem UX(B jb db:Nat)(J:JM)(L:DL)(M:DM)(bytes:Nat)(hby:bytes<1000000000000)(hsz:J.size<1000000000000)(hnum:J.last+1<1000000000000)(w:World)(hj:JRep w jb db J)(hd:DRep w db L M)(ht:YK B w)(hB:B≤w.heap.size)(hfoot:∀ k,Foot db L M k→B≤k)
  (hb1:(J.syncLast M).2.chs.length+1≤1000000000000)(hb2:(J.syncLast M).2.dir.length+1≤1000000000000) :
  Calls Tryz.prog 202 #[.pointer (some ⟨jb,0,none⟩),.int .i64 bytes] w fun e w' =>
   ∃ f v L',e=.returned v∧w.heap.size≤f∧ERep w' v (J.makeRoom M bytes f).1∧JStep jb db L M w (J.makeRoom M bytes f).2.1 L' (J.makeRoom M bytes f).2.2 w':=by
 have hc:=hj.cell
 simp only[JM.cells] at hc
 have HD:=Z hd
 have HJ:=Z hj
 have HT:=Z ht
 clear hd hj ht
 have hw1:IntKind.i64.wrap ((J.size:Int)+bytes)=(J.size:Int)+bytes:=by rw[IntKind.wrap_i64];omega
 have hw2:IntKind.i64.wrap ((J.last:Int)+1)=(J.last:Int)+1:=by rw[IntKind.wrap_i64];omega
 cases hfit:J.fits bytes with
 | true =>
  have hp:∀ f,J.makeRoom M bytes f=(none,J,M):=by intro f;unfold JM.makeRoom;rw[if_pos hfit]
  have HP:=Z hp
  simp only[JM.fits,Bool.and_eq_true,decide_eq_true_eq,Bool.not_eq_true'] at hfit
  obtain⟨h1,h2,h3⟩:=hfit
  have g1:decide ((0:Int)<J.last)=true:=by simp;omega
  have g1':(0:Int)<J.last:=by omega
  have g3:decide ((J.size:Int)+bytes≤J.limit)=true:=by simp;omega
  have g1n:decide (0<J.last)=true:=by simp;omega
  have g3n:decide (J.size+bytes≤J.limit)=true:=by simp;omega
  rw[h2] at hc
  clear hp h1 h2 h3
  go_enter Tryz.func202,Tryz.ntmps202
  go_wp2_with fail
  go_quiet (fail)
  go_wp2
  go_ret
  refine⟨w.heap.size,_,L,rfl,Nat.le_refl _,?_,?_⟩
  ·rw[HP.out];rfl
  ·rw[HP.out];exact JStep.nil HJ.out HD.out (by exact(by repeat' first|(with_reducible first|apply G|assumption|apply O|apply U|apply V|apply z6)|(intro _;rfl)))
 | false =>
  have hp:∀ f,J.makeRoom M bytes f=J.begin M (J.last+1) f:=by intro f;unfold JM.makeRoom;rw[if_neg (by rw[hfit];simp)]
  have HP:=Z hp
  clear hp
  by_cases h1:0<J.last
  ·have g1:decide ((0:Int)<J.last)=true:=by simp;omega
   have g1':(0:Int)<J.last:=by omega
   have g1n:decide (0<J.last)=true:=by simp;omega
   cases h2:J.torn with
   | true =>
    rw[h2] at hc
    clear hfit h1 h2
    go_enter Tryz.func202,Tryz.ntmps202
    go_wp2_with fail
    go_quiet (fail)
    go_wp2_with fail
    refine(Wa B jb db J L M (J.last+1) (by omega) _ (Blk.drewN HJ.out _) (HD.out.nil (by exact(by repeat' first|(with_reducible first|apply G|assumption|apply O|apply U|apply V|apply z6)|(intro _;rfl)))) (HT.out.fr hB (S:=Nil) (by exact(by repeat' first|(with_reducible first|apply G|assumption|apply O|apply U|apply V|apply z6)|(intro _;rfl))) (fun _ h=>absurd h id)) hB hfoot hb1 hb2).mono ?_
    rintro e w2 ⟨f,v2,L2,rfl,hf,hE,hjs⟩
    have HE:=Z hE
    have HF:Hid (JStep jb db L M w (J.begin M (J.last+1) f).2.1 L2 (J.begin M (J.last+1) f).2.2 w2):=(JStep.nil HJ.out HD.out (by exact(by repeat' first|(with_reducible first|apply G|assumption|apply O|apply U|apply V|apply z6)|(intro _;rfl)))).trans hjs
    clear hE hjs
    go_wp2_with fail
    refine(zF _ _ _ w2 HE.out).mono ?_
    rintro e w3 ⟨v3,rfl,hE3,hf3⟩
    have HE3:=Z hE3
    have HF3:=Z (HF.out.andNil hf3)
    clear hE3 hf3
    go_wp2
    go_ret
    refine⟨f,_,L2,rfl,hf,?_,?_⟩
    ·rw[HP.out];exact HE3.out
    ·rw[HP.out];exact HF3.out
   | false =>
    have g3:decide ((J.size:Int)+bytes≤J.limit)=false:=by
     simp only[JM.fits,h2,Bool.not_false,Bool.true_and,Bool.and_eq_false_iff,decide_eq_false_iff_not] at hfit
     simp
     omega
    have g3n:decide (J.size+bytes≤J.limit)=false:=by simp at g3 ⊢;omega
    rw[h2] at hc
    clear hfit h1 h2
    go_enter Tryz.func202,Tryz.ntmps202
    go_wp2_with fail
    go_quiet (fail)
    go_wp2_with fail
    refine(Wa B jb db J L M (J.last+1) (by omega) _ (Blk.drewN HJ.out _) (HD.out.nil (by exact(by repeat' first|(with_reducible first|apply G|assumption|apply O|apply U|apply V|apply z6)|(intro _;rfl)))) (HT.out.fr hB (S:=Nil) (by exact(by repeat' first|(with_reducible first|apply G|assumption|apply O|apply U|apply V|apply z6)|(intro _;rfl))) (fun _ h=>absurd h id)) hB hfoot hb1 hb2).mono ?_
    rintro e w2 ⟨f,v2,L2,rfl,hf,hE,hjs⟩
    have HE:=Z hE
    have HF:Hid (JStep jb db L M w (J.begin M (J.last+1) f).2.1 L2 (J.begin M (J.last+1) f).2.2 w2):=(JStep.nil HJ.out HD.out (by exact(by repeat' first|(with_reducible first|apply G|assumption|apply O|apply U|apply V|apply z6)|(intro _;rfl)))).trans hjs
    clear hE hjs
    go_wp2_with fail
    refine(zF _ _ _ w2 HE.out).mono ?_
    rintro e w3 ⟨v3,rfl,hE3,hf3⟩
    have HE3:=Z hE3
    have HF3:=Z (HF.out.andNil hf3)
    clear hE3 hf3
    go_wp2
    go_ret
    refine⟨f,_,L2,rfl,hf,?_,?_⟩
    ·rw[HP.out];exact HE3.out
    ·rw[HP.out];exact HF3.out
  ·have g1:decide ((0:Int)<J.last)=false:=by simp;omega
   have g1n:decide (0<J.last)=false:=by simp;omega
   clear hfit h1
   go_enter Tryz.func202,Tryz.ntmps202
   go_wp2_with fail
   go_quiet (fail)
   go_wp2_with fail
   refine(Wa B jb db J L M (J.last+1) (by omega) _ (Blk.drewN HJ.out _) (HD.out.nil (by exact(by repeat' first|(with_reducible first|apply G|assumption|apply O|apply U|apply V|apply z6)|(intro _;rfl)))) (HT.out.fr hB (S:=Nil) (by exact(by repeat' first|(with_reducible first|apply G|assumption|apply O|apply U|apply V|apply z6)|(intro _;rfl))) (fun _ h=>absurd h id)) hB hfoot hb1 hb2).mono ?_
   rintro e w2 ⟨f,v2,L2,rfl,hf,hE,hjs⟩
   have HE:=Z hE
   have HF:Hid (JStep jb db L M w (J.begin M (J.last+1) f).2.1 L2 (J.begin M (J.last+1) f).2.2 w2):=(JStep.nil HJ.out HD.out (by exact(by repeat' first|(with_reducible first|apply G|assumption|apply O|apply U|apply V|apply z6)|(intro _;rfl)))).trans hjs
   clear hE hjs
   go_wp2_with fail
   refine(zF _ _ _ w2 HE.out).mono ?_
   rintro e w3 ⟨v3,rfl,hE3,hf3⟩
   have HE3:=Z hE3
   have HF3:=Z (HF.out.andNil hf3)
   clear hE3 hf3
   go_wp2
   go_ret
   refine⟨f,_,L2,rfl,hf,?_,?_⟩
   ·rw[HP.out];exact HE3.out
   ·rw[HP.out];exact HF3.out
def JM.has(J:JM)(M:DM)(size:Nat):Bool:=((M.size J.name).2==0)&&((M.size J.name).1==(size:Int))
theorem OG(jb db:Nat)(J:JM)(L:DL)(M:DM)(size:Nat)(w:World)(hj:JRep w jb db J)(hd:DRep w db L M) :
  Calls Tryz.prog 204 #[.pointer (some ⟨jb,0,none⟩),.int .i64 size] w fun e w'=>e=.returned (.bool (J.has M size))∧Fr Nil w w':=by
 have hc0:w.cell? ⟨jb,0,none⟩=some (.pointer (some ⟨db,0,none⟩)):=hj.cell 0
 have hc3:w.cell? ⟨jb,3,none⟩=some (.string J.name):=hj.cell 3
 have HK:Hid (∀ w',Fr Nil w w'→w'.cell? ⟨jb,0,none⟩=some (.pointer (some ⟨db,0,none⟩))∧w'.cell? ⟨jb,3,none⟩=some (.string J.name)):=by
  intro w' hf
  have:=(Blk.fr hj hf id).cell
  exact⟨by rw[this];rfl,by rw[this];rfl⟩
 have HD:=Z hd
 unfold JM.has
 clear hj hd
 go_enter Tryz.func204,Tryz.ntmps204
 go_wp2_with fail
 go_region_held3 (fun w'=>w'.cell? ⟨jb,0,none⟩=some (.pointer (some ⟨db,0,none⟩))∧w'.cell? ⟨jb,3,none⟩=some (.string J.name)) (first|assumption|go_keep)
  (first
  | (go_at_call 188;refine(Ue J.name _ db L M (HD.out.nil (by repeat' first|(with_reducible first|apply G|assumption|apply O|apply U|apply V|apply z6)|(intro _;rfl)))).mono ?_;rintro e w2 ⟨rfl,hf2⟩;have hf02:Fr Nil w w2:=Fr.trans (by repeat' first|(with_reducible first|apply G|assumption|apply O|apply U|apply V|apply z6)|(intro _;rfl)) hf2;have hz2:=HK.out w2 hf02))
 generalize hga:(M.size J.name).2=a
 generalize hgb:(M.size J.name).1=b
 have HGA:=Z hga
 have HGB:=Z hgb
 clear hga hgb
 cases ha:(a==0) with
 | true =>
  have HA:=Z ha
  go_wp2
  go_ret
  rw[HGA.out,HGB.out,HA.out]
  exact⟨by simp,hf02⟩
 | false =>
  have HA:=Z ha
  go_wp2
  go_ret
  rw[HGA.out,HGB.out,HA.out]
  exact⟨by simp,hf02⟩
def JM.appendTo(J:JM)(M:DM)(rec:ByteArray):Bool × Option Int × JM × DM :=
 if (M.add J.name rec).1=0 then(true,none,{J with size:=J.size+rec.size},(M.add J.name rec).2)
 else if J.has (M.add J.name rec).2 (J.size+rec.size)=true then(true,some (M.add J.name rec).1,{J with size:=J.size+rec.size},(M.add J.name rec).2)
 else(false,some (M.add J.name rec).1,J,(M.add J.name rec).2)
def JM.append(J:JM)(M:DM)(rec:ByteArray)(f:Nat):Bool × Option Int × JM × DM :=
 match (J.makeRoom M rec.size f).1 with
 | some n=>(false,some n,(J.makeRoom M rec.size f).2.1,(J.makeRoom M rec.size f).2.2)
 | none=>(J.makeRoom M rec.size f).2.1.appendTo (J.makeRoom M rec.size f).2.2 rec
theorem Yp(B jb db:Nat)(J:JM)(L:DL)(M:DM)(rec:ByteArray)(hby:rec.size<1000000000000)(hsz:J.size<1000000000000)(hnum:J.last+1<1000000000000)(w:World)(hj:JRep w jb db J)(hd:DRep w db L M)(ht:YK B w)(hB:B≤w.heap.size)(hfoot:∀ k,Foot db L M k→B≤k)
  (hb1:(J.syncLast M).2.chs.length+1≤1000000000000)(hb2:(J.syncLast M).2.dir.length+1≤1000000000000)
  (hb3:∀ f,w.heap.size≤f→0≤(J.makeRoom M rec.size f).2.2.part∧(J.makeRoom M rec.size f).2.1.size<1000000000000∧∀ g,g∈(J.makeRoom M rec.size f).2.2.ids→((J.makeRoom M rec.size f).2.2.file g).bytes.length≤1000000000000) :
  Calls Tryz.prog 164 #[.pointer (some ⟨jb,0,none⟩),.string rec] w fun e w' =>
   ∃ f v L',e=.returned (.tuple #[.bool (J.append M rec f).1,v])∧w.heap.size≤f∧ERep w' v (J.append M rec f).2.1∧JStep jb db L M w (J.append M rec f).2.2.1 L' (J.append M rec f).2.2.2 w':=by
 have HM:=Z (UX B jb db J L M rec.size hby hsz hnum w hj hd ht hB hfoot hb1 hb2)
 have HB3:=Z hb3
 clear hd hj ht hb3
 go_enter Tryz.func164,Tryz.ntmps164
 go_wp2_with fail
 refine HM.out.mono ?_
 rintro e w1 ⟨f,v1,L1,rfl,hf,hE,hjs⟩
 have hb3:=HB3.out f hf
 have hp1:∀ n,(J.makeRoom M rec.size f).1=some n→J.append M rec f=(false,some n,(J.makeRoom M rec.size f).2.1,(J.makeRoom M rec.size f).2.2):=by intro n h;unfold JM.append;rw[h]
 have hp0:(J.makeRoom M rec.size f).1=none→J.append M rec f=(J.makeRoom M rec.size f).2.1.appendTo (J.makeRoom M rec.size f).2.2 rec:=by intro h;unfold JM.append;rw[h]
 generalize hJ1:(J.makeRoom M rec.size f).2.1=J1 at hb3 hjs hp1 hp0
 generalize hM1:(J.makeRoom M rec.size f).2.2=M1 at hb3 hjs hp1 hp0
 have HJS:=Z hjs
 have HB4:=Z hb3
 cases he:(J.makeRoom M rec.size f).1 with
 | some n =>
  rw[he] at hE
  have hp:=hp1 n he
  have HP:=Z hp
  have HE:=Z hE
  obtain⟨k,hk⟩:=hE
  obtain⟨t,b,rfl⟩:=hk.form
  clear he hp hk hjs hJ1 hM1 hb3 hp1 hp0
  go_wp2
  go_ret2
  refine⟨f,.iface t (.pointer (some ⟨b,0,none⟩)),L1,?_,hf,?_,?_⟩
  ·(rw[HP.out]) <;> rfl
  ·rw[HP.out];exact HE.out
  ·rw[HP.out];exact HJS.out
 | none =>
  rw[he] at hE
  have hp:=hp0 he
  have hv:v1=.nilIface:=hE
  subst hv
  have hc0:w1.cell? ⟨jb,0,none⟩=some (.pointer (some ⟨db,0,none⟩)):=hjs.1.cell 0
  have hc3:w1.cell? ⟨jb,3,none⟩=some (.string J1.name):=hjs.1.cell 3
  have HP:=Z hp
  have HK:Hid (∀ wx w' L',DStep db L1 M1 wx L' (M1.add J1.name rec).2 w'→Fr Nil w1 wx→w'.cell? ⟨jb,0,none⟩=some (.pointer (some ⟨db,0,none⟩))∧w'.cell? ⟨jb,3,none⟩=some (.string J1.name)):=by
   intro wx w' L' hst hf
   have:=((Blk.fr hjs.1 hf id).step (hjs.2.1.nil hf) hst (by unfold DTy;decide)).cell
   exact⟨by rw[this];rfl,by rw[this];rfl⟩
  clear he hp hE hjs hJ1 hM1 hb3 hp1 hp0
  go_wp2_with fail
  go_region_held3 (fun w'=>w'.cell? ⟨jb,0,none⟩=some (.pointer (some ⟨db,0,none⟩))∧w'.cell? ⟨jb,3,none⟩=some (.string J1.name)) (first|assumption|go_keep)
   (first
   | (go_at_call 166;refine(XE _ _ _ _).mono ?_;rintro e w3 ⟨v3,rfl,hE3,hf3⟩;have hz3:w3.cell? ⟨jb,0,none⟩=some (.pointer (some ⟨db,0,none⟩))∧w3.cell? ⟨jb,3,none⟩=some (.string J1.name):=HK.out _ _ _ (HST.out.andNil (Fr.trans (by repeat' first|(with_reducible first|apply G|assumption|apply O|apply U|apply V|apply z6)|(intro _;rfl)) hf3)) (G _ _);have HE3:=Z hE3;have HF3:Hid (Fr Nil w2 w3):=Fr.trans (by repeat' first|(with_reducible first|apply G|assumption|apply O|apply U|apply V|apply z6)|(intro _;rfl)) hf3;clear hE3 hf3)
   | (go_at_call 203;refine(R2 J1.name rec _ db L1 M1 (HJS.out.2.1.nil (by repeat' first|(with_reducible first|apply G|assumption|apply O|apply U|apply V|apply z6)|(intro _;rfl))) HB4.out.1 (by omega) HB4.out.2.2).mono ?_;rintro e w2 ⟨rfl,L2,hst⟩;have hz2:=HK.out _ _ _ hst (by repeat' first|(with_reducible first|apply G|assumption|apply O|apply U|apply V|apply z6)|(intro _;rfl));have HST:Hid (DStep db L1 M1 w1 L2 (M1.add J1.name rec).2 w2):=hst.of (by repeat' first|(with_reducible first|apply G|assumption|apply O|apply U|apply V|apply z6)|(intro _;rfl));clear hst))
  have hjs3:=HJS.out.trans ((JStep.of_disk HJS.out.1 HJS.out.2.1 HST.out).andNil HF3.out)
  have hsz1:=HB4.out.2.1
  have HJ3:=Z hjs3
  have hc:=hjs3.1.cell
  have hz:=hjs3.1.frozen
  simp only[JM.cells] at hc
  have hw1:IntKind.i64.wrap ((J1.size:Int)+rec.size)=(J1.size:Int)+rec.size:=by rw[IntKind.wrap_i64];omega
  have hset:JStep jb db L2 (M1.add J1.name rec).2 w3 {J1 with size:=J1.size+rec.size} L2 (M1.add J1.name rec).2 (w3.setCell ⟨jb,4,none⟩ (.int .i64 ((J1.size:Int)+rec.size))) :=
   JStep.set hjs3.1 hjs3.2.1 4 (.int .i64 ((J1.size:Int)+rec.size)) (J':={J1 with size:=J1.size+rec.size}) (by simp[JM.cells])
  have HSET:=Z hset
  clear hz3 hjs3 hset
  by_cases hn:(M1.add J1.name rec).1=0
  ·have hE3:=HE3.out
   unfold Yo at hE3
   rw[if_pos hn] at hE3
   have hv:v3=.nilIface:=hE3
   subst hv
   have hp2:J1.appendTo M1 rec=(true,none,{J1 with size:=J1.size+rec.size},(M1.add J1.name rec).2):=by unfold JM.appendTo;rw[if_pos hn]
   have HP2:=Z hp2
   clear hp2 hn hE3
   go_wp2_with fail
   refine(zF _ _ none _ rfl).mono ?_
   rintro e w4 ⟨v4,rfl,hE4,hf4⟩
   have HE4:=Z hE4
   have HF:=Z ((HJ3.out.trans HSET.out).andNil hf4)
   clear hE4 hf4
   go_wp2
   go_ret2
   refine⟨f,v4,L2,?_,hf,?_,?_⟩
   ·(rw[HP.out,HP2.out]) <;> rfl
   ·rw[HP.out,HP2.out];exact HE4.out
   ·rw[HP.out,HP2.out];exact HF.out
  ·have hE3:=HE3.out
   unfold Yo at hE3
   rw[if_neg hn] at hE3
   have HE5:=Z hE3
   obtain⟨k,hk⟩:∃ k,Zv w3 (M1.add J1.name rec).1 k v3:=hE3
   obtain⟨t,b,rfl⟩:=hk.form
   have HH:=Z (OG jb db J1 L2 (M1.add J1.name rec).2 (J1.size+rec.size) w3 HJ3.out.1 HJ3.out.2.1)
   have hcast:((J1.size+rec.size:Nat):Int)=(J1.size:Int)+rec.size:=by omega
   cases hh:J1.has (M1.add J1.name rec).2 (J1.size+rec.size) with
   | true =>
    have hp2:J1.appendTo M1 rec=(true,some (M1.add J1.name rec).1,{J1 with size:=J1.size+rec.size},(M1.add J1.name rec).2):=by unfold JM.appendTo;rw[if_neg hn,if_pos hh]
    have HP2:=Z hp2
    rw[hh] at HH
    rw[hcast] at HH
    clear hp2 hn hk hh hcast
    go_wp2_with fail
    refine HH.out.mono ?_
    rintro e w4 ⟨rfl,hf4⟩
    have hj4:=HJ3.out.andNil hf4
    have hc4:=hj4.1.cell
    have hz4:=hj4.1.frozen
    simp only[JM.cells] at hc4
    have hset4:JStep jb db L2 (M1.add J1.name rec).2 w4 {J1 with size:=J1.size+rec.size} L2 (M1.add J1.name rec).2 (w4.setCell ⟨jb,4,none⟩ (.int .i64 ((J1.size:Int)+rec.size))) :=
     JStep.set hj4.1 hj4.2.1 4 (.int .i64 ((J1.size:Int)+rec.size)) (J':={J1 with size:=J1.size+rec.size}) (by simp[JM.cells])
    have HE6:=Z (ERep.jstep (HE5.out.fr hf4 (YX.nil _)) hj4.1 hj4.2.1 hset4)
    have HJ4:=Z (hj4.trans hset4)
    clear hj4 hset4 hf4 hc hz
    go_wp2_with fail
    refine(zF _ _ _ _ HE6.out).mono ?_
    rintro e w5 ⟨v5,rfl,hE5,hf5⟩
    have HE7:=Z hE5
    have HF:=Z (HJ4.out.andNil hf5)
    clear hE5 hf5
    go_wp2
    go_ret2
    refine⟨f,v5,L2,?_,hf,?_,?_⟩
    ·(rw[HP.out,HP2.out]) <;> rfl
    ·rw[HP.out,HP2.out];exact HE7.out
    ·rw[HP.out,HP2.out];exact HF.out
   | false =>
    have hp2:J1.appendTo M1 rec=(false,some (M1.add J1.name rec).1,J1,(M1.add J1.name rec).2):=by unfold JM.appendTo;rw[if_neg hn,if_neg (by rw[hh];simp)]
    have HP2:=Z hp2
    rw[hh] at HH
    rw[hcast] at HH
    clear hp2 hn hk hh hcast
    go_wp2_with fail
    refine HH.out.mono ?_
    rintro e w4 ⟨rfl,hf4⟩
    have HE6:=Z (HE5.out.fr hf4 (YX.nil _))
    have HJ4:=Z (HJ3.out.andNil hf4)
    clear hf4
    go_wp2_with fail
    refine(zF _ _ _ _ HE6.out).mono ?_
    rintro e w5 ⟨v5,rfl,hE5,hf5⟩
    have HE7:=Z hE5
    have HF:=Z (HJ4.out.andNil hf5)
    clear hE5 hf5
    go_wp2
    go_ret2
    refine⟨f,v5,L2,?_,hf,?_,?_⟩
    ·(rw[HP.out,HP2.out]) <;> rfl
    ·rw[HP.out,HP2.out];exact HE7.out
    ·rw[HP.out,HP2.out];exact HF.out
theorem VX:((Tryz.prog.info? 75).map fun i=>(i.zero.map (·.cells.size),i.size,i.bytes))=some (some 2,2,24):=by kernel_rfl
theorem Va(a b:List (Nat × ByteArray)):zD (a++b)=zD a++zD b:=by simp[zD]
theorem Qo(l:List (Nat × ByteArray)):ZP 2 0 (zD l)=zD (l.drop 1):=by
 cases l with
 | nil=>rfl
 | cons e l=>simp[ZP,zD]
theorem SRep.hints{w w' w2:World}{b:Nat}{L:SL}{S:SM}{hv':Value}{hs:List (Nat × ByteArray)}(h:SRep w b L S)(f:Fr (fun k=>L.hv.ownBlock=some k) w w')(ho:w'.ownsRow 0 75 2 hv' hs.length (zD hs))
  (hn:∀ k,hv'.ownBlock=some k→L.hv.ownBlock=some k∨w.heap.size≤k)(f2:Fr Nil (w'.setCell ⟨b,1,none⟩ hv') w2):SStep w b L {S with hints:=hs} Nil w2:=by
 have hbh:∀ {k},L.hv.ownBlock=some k→k≠b:=fun hk e=>za h.hint h.blk (by decide) (by rw[hk,e])
 have hb':Blk w' b [L.kv,L.hv,.int .i64 S.leased] 161:=h.blk.fr f (fun e=>hbh e rfl)
 have hblt:=h.blk.lt
 have hne:∀ k,hv'.ownBlock=some k→k≠b:=by
  intro k hk e
  rcases hn k hk with h1|h1
  ·exact hbh h1 e
  ·omega
 have fs:Fr (fun k=>k=b) w' (w'.setCell ⟨b,1,none⟩ hv'):=Fr.set (S:=fun k=>k=b) (G _ _) (fun _=>rfl) _
 have hent:Xm w' L.kv L.ents:=h.ent.fr f (fun k hk e=>Z0 h.ent.own h.hint (by decide) hk e)
 have hpair:Pair (VRow w') L.ents S.keys:=h.pair.mono (fun a _ l hr=>VRow.fr hr f (fun k hk e=>Z0 hr h.hint (by decide) hk e))
 have hs1:SRep (w'.setCell ⟨b,1,none⟩ hv') b {L with hv:=hv'} {S with hints:=hs} :=
  ⟨hb'.set 1 _,hent.fr fs (fun k hk e=>za hent.own hb' (by decide) (by rw[hk,e])),hpair.mono (fun a _ l hr=>VRow.fr hr fs (fun k hk e=>za hr hb' (by decide) (by rw[hk,e]))),z7 ho fs hne⟩
 refine⟨{L with hv:=hv'},hs1.nil f2,?_,fun k hk=>?_,fun k hk=>.inl hk⟩
 ·refine((f.mono (fun k _ e=>.inr (.inr e))).trans' fs (fun k _ e=>.inl e)).trans (f2.mono (fun _ _ e=>absurd e id))
 ·rcases hk with hk|hk|hk
  ·exact .inl (.inl hk)
  ·exact .inl (.inr (.inl hk))
  ·rcases hn k hk with h1|h1
   ·exact .inl (.inr (.inr h1))
   ·exact .inr h1
theorem Rb(b:Nat)(L:SL)(S:SM)(w:World)(h:SRep w b L S)(hlen:S.hints.length<1000000) :
  Calls Tryz.prog 275 #[.agg #[],.pointer (some ⟨b,0,none⟩)] w fun e w'=>e=.returned (.tuple #[])∧SStep w b L {S with hints:=S.hints.drop 1} Nil w':=by
 have hf:Fr Nil w (w.alloc (.cells #[] 135)):=(G _ _).alloc _
 have h1:=h.nil hf
 obtain⟨ha,hc',hhv⟩:=z8 h.hint
 have hc:∀ k,(w.alloc (.cells #[] 135)).cell? ⟨b,k,none⟩=[L.kv,L.hv,.int .i64 S.leased][k]?:=fun k=>h1.blk.cell k
 rw[hhv] at hc
 have HH:=Z h
 have H1:=Z h1
 have HV:=Z hhv
 clear h h1 hhv
 by_cases hz:S.hints.length=0
 ·have hnil:S.hints=[]:=List.eq_nil_of_length_eq_zero hz
  have hsm:({S with hints:=S.hints.drop 1}:SM)=S:=by obtain⟨a,b,c⟩:=S;simp only at hnil;subst hnil;rfl
  rw[hsm]
  have hz0:¬(0:Int)<S.hints.length:=by omega
  clear hsm hnil hz
  go_enter Tryz.func275,Tryz.ntmps275
  go_wp2
  exact bodyPost_end (v:=.tuple #[]) (by simp[results,go_sem]) rfl ⟨rfl,L,H1.out,hf.mono (fun _ _ e=>absurd e id),fun k hk=>.inl hk,fun k hk=>.inl hk⟩
 ·have hz0:(0:Int)<S.hints.length:=by omega
  go_enter Tryz.func275,Tryz.ntmps275
  go_wp2_with fail
  have ho:=H1.out.hint
  rw[HV.out] at ho
  refine(Sh _ S.hints.length 0 (zD S.hints) _ ho (XR _) (by omega)).mono ?_
  rintro e w2 ⟨v',rfl,hv',ho2,hf2⟩
  rw[Qo] at ho2
  have hl:(S.hints.drop 1).length=S.hints.length-1:=by simp
  rw[← hl] at ho2
  rw[← HV.out] at hf2 hv'
  have hst:=fun w3 f3=>H1.out.hints (w2:=w3) hf2 ho2 (fun k hk=>.inl (by rw[← hv'];exact hk)) f3
  have hb2:=H1.out.blk.fr hf2 (fun e=>za H1.out.hint H1.out.blk (by decide) e)
  have hc2:=hb2.cell
  have hz2:=hb2.frozen
  have HS:=Z hst
  obtain⟨va,vc,rfl⟩:=z8 ho2
  clear hst ho ho2 hb2 hc
  go_wp2
  have hh:=HS.out _ (G _ _)
  rw[hl] at hh
  obtain⟨L',q1,q2,q3,q4⟩:=hh
  exact bodyPost_end (v:=.tuple #[]) (by simp[results,go_sem]) rfl ⟨rfl,L',q1,hf.mono (fun _ _ e=>absurd e id) |>.trans q2,fun k hk=>(q3 k hk).imp id (fun h=>Nat.le_trans hf.size h),q4⟩
theorem Rc(w:World)(v:Value)(n:Nat)(xs:List Value)(h:w.ownsRow 0 75 2 v n xs)(to:Nat)(text:ByteArray)(hn:n<1000000)(W0:World)(hf:Fr Nil w W0)(N:Nat)(hN:Blk W0 N [.int .i64 to,.string text] 75)(ty:TypeId) :
  ∃ v' w',(Builtin.append_ #[66,66] ty #[v,.slice (some ⟨N,0,none⟩) 1 1]).run Tryz.prog W0=.ok v' w' ∧
   (w'.ownsRow 0 75 2 v' (n+1) (xs++[.int .i64 to,.string text])∧Fr (fun k=>v.ownBlock=some k) w w'∧(∀ k,v'.ownBlock=some k→v.ownBlock=some k∨w.heap.size≤k)):=by
 have ho:=z7 h hf (fun _ _=>id)
 obtain⟨v',w',hr,h1,h2,h3⟩:=zo (P:=Tryz.prog) 66 ty 75 2 24 Tryz.underlying66 VX (by omega) v n xs ho ⟨N,0,none⟩ 1 1 [.int .i64 to,.string text] rfl
  (fun j u hu=>by rw[Addr.add_lit,Nat.zero_add,hN.cell];exact hu) (by intro u hu;simp at hu;rcases hu with rfl|rfl <;> rfl) (by unfold maxLen;omega) (by omega)
 refine⟨v',w',hr,h1,(hf.mono (fun _ _ e=>absurd e id)).trans' ((Fr.of_grown h2).mono (fun i _ h=>h)) (fun i _ h=>h),fun k hk=>?_⟩
 rcases h3 with h3|h3
 ·exact .inl (by rw[← h3];exact hk)
 ·rw[h3] at hk;simp at hk;have:=hf.size;exact .inr (by omega)
theorem Si(to:Nat)(text:ByteArray)(b:Nat)(L:SL)(S:SM)(w:World)(h:SRep w b L S)(hlen:S.hints.length<1000000) :
  Calls Tryz.prog 283 #[.agg #[.int .i64 to,.string text],.pointer (some ⟨b,0,none⟩)] w fun e w'=>e=.returned (.tuple #[])∧SStep w b L {S with hints:=S.hints++[(to,text)]} Nil w':=by
 have hf:Fr Nil w (w.alloc (.cells #[.int .i64 to,.string text] 138)):=(G _ _).alloc _
 have hbx:Blk (w.alloc (.cells #[.int .i64 to,.string text] 138)) w.heap.size [.int .i64 to,.string text] 138:=Blk.new w [.int .i64 to,.string text] _
 have h1:=h.nil hf
 obtain⟨N,hN⟩:∃ N,w.heap.size=N:=⟨_,rfl⟩
 obtain⟨ha,hc',hhv⟩:=z8 h.hint
 go_enter Tryz.func283,Tryz.ntmps283
 go_wp2_with fail
 rw[hN] at hbx
 obtain⟨w0,hw0⟩:∃ w0,w.alloc (.cells #[.int .i64 to,.string text] 138)=w0:=⟨_,rfl⟩
 rw[hw0] at hbx hf h1 ⊢
 clear hw0 hN
 have hc:∀ k,w0.cell? ⟨b,k,none⟩=[L.kv,L.hv,.int .i64 S.leased][k]?:=fun k=>h1.blk.cell k
 have hz:∀ k,w0.frozen? ⟨b,k,none⟩=false:=fun k=>h1.blk.frozen k
 have hx:∀ k,w0.cell? ⟨N,k,none⟩=[.int .i64 to,.string text][k]?:=fun k=>hbx.cell k
 have hcA:∀ (ob:Obj) k,(w0.alloc ob).cell? ⟨b,k,none⟩=[L.kv,L.hv,.int .i64 S.leased][k]?:=fun ob k=>(h1.blk.alloc ob).cell k
 have hxA:∀ (ob:Obj) k,(w0.alloc ob).cell? ⟨N,k,none⟩=[.int .i64 to,.string text][k]?:=fun ob k=>(hbx.alloc ob).cell k
 rw[hhv] at hc hcA
 have ho:=h1.hint
 rw[hhv] at ho
 have HO:=Z ho
 have HB4:Hid (∀ w4:World,Fr (fun k=>(Value.slice ha S.hints.length hc').ownBlock=some k) w0 w4→Blk w4 b [L.kv,L.hv,.int .i64 S.leased] 161):=fun w4 f=>h1.blk.fr f (za ho h1.blk (by decide))
 have H1:=Z h1
 have HH:=Z h
 have HV:=Z hhv
 clear h h1 hhv hbx ho
 go_region_law
  ((refine Z3 (by rfl) _ _ _ _ (by rfl) _ _ (by rfl) (by rfl) (Rc w0 _ _ _ HO.out to text hlen _ (by repeat' first|(with_reducible first|apply G|assumption|apply O|apply U|apply V|apply z6)|(intro _;rfl)) _ (by first|exact Blk.new _ [_,_] _|exact(Blk.new _ [_,_] _).drew) _) ?_;rintro v4 w4 ⟨ho4,hf4,hn4⟩;obtain⟨va4,vc4,hv4⟩:=z8 ho4;subst hv4;have hb4:=HB4.out _ hf4;have hc4:=hb4.cell;have hz4:=hb4.frozen;have HO4:=Z ho4;have HN4:=Z hn4;clear ho4 hn4))
 all_goals
  go_wp2
  have hl:(S.hints++[(to,text)]).length=S.hints.length+1:=by simp
  have ho5:w4.ownsRow 0 75 2 (.slice va4 (S.hints.length+1) vc4) (S.hints++[(to,text)]).length (zD (S.hints++[(to,text)])):=by
   rw[hl,Va];exact HO4.out
  rw[← HV.out] at hf4
  have hn5:=HN4.out
  rw[← HV.out] at hn5
  obtain⟨L',q1,q2,q3,q4⟩:=H1.out.hints (w2:=_) hf4 ho5 hn5 (G _ _)
  exact bodyPost_end (v:=.tuple #[]) (by simp[results,go_sem]) rfl ⟨rfl,L',q1,(hf.mono (fun _ _ e=>absurd e id)).trans q2,fun k hk=>(q3 k hk).imp id (fun h=>Nat.le_trans hf.size h),q4⟩
def SM.holds(S:SM)(key:ByteArray)(l:List Ver):SM:={S with keys:=if l=[] then Yl S.keys key else Y7 S.keys key l}
theorem SRep.kept{w w':World}{b:Nat}{L:SL}{S:SM}{ents:List (ByteArray × Value)}{keys:List (ByteArray × List Ver)}(h:SRep w b L S)(hs:Y6 w b 161 L.kv [L.hv,.int .i64 S.leased] ents w')
  (hp:Pair (VRow w') ents keys)(X:Nat→Prop)(hx:∀ k,(∃ e∈ents,e.2.ownBlock=some k)→SRead L k∨X k):SStep w b L {S with keys:=keys} X w':=by
 obtain⟨v',hb,he,hf,hn⟩:=hs
 have hbh:∀ {k},L.hv.ownBlock=some k→k≠b:=fun hk e=>za h.hint h.blk (by decide) (by rw[hk,e])
 refine⟨{L with kv:=v',ents:=ents},⟨hb,he,hp,z7 h.hint hf (fun k hk e=>?_)⟩,hf.mono (fun k _ e=>e.imp id .inl),fun k hk=>?_,fun k hk=>hx k hk⟩
 ·rcases e with e|e
  ·exact hbh hk e
  ·exact Z0 h.hint h.ent.own (by decide) hk e
 ·rcases hk with hk|hk|hk
  ·exact .inl (.inl hk)
  ·rcases hn k hk with h1|h1
   ·exact .inl (.inr (.inl h1))
   ·exact .inr h1
  ·exact .inl (.inr (.inr hk))
theorem Y6.vrow{w w':World}{b:Nat}{L:SL}{S:SM}{ents:List (ByteArray × Value)}(h:SRep w b L S)(hs:Y6 w b 161 L.kv [L.hv,.int .i64 S.leased] ents w'){v:Value}{l:List Ver}(hv:VRow w v l):VRow w' v l:=by
 obtain⟨v',hb,he,hf,hn⟩:=hs
 refine VRow.fr hv hf (fun k hk e=>?_)
 rcases e with e|e
 ·exact za hv h.blk (by decide) (by rw[hk,e])
 ·exact Z0 hv h.ent.own (by decide) hk e
theorem Y6.of{w wx w':World}{b:Nat}{t:TypeId}{v:Value}{rest:List Value}{l:List (ByteArray × Value)}(h:Y6 wx b t v rest l w')(f:Fr Nil w wx):Y6 w b t v rest l w':=by
 obtain⟨v',hb,he,hf,hn⟩:=h
 exact⟨v',hb,he,(f.mono (fun _ _ e=>absurd e id)).trans hf,fun k hk=>(hn k hk).imp id (fun h=>Nat.le_trans f.size h)⟩
theorem SStep.of{w w0 w':World}{b:Nat}{L:SL}{S:SM}{X:Nat→Prop}(h:SStep w0 b L S X w')(f:Fr Nil w w0):SStep w b L S X w':=by
 obtain⟨L',q1,q2,q3,q4⟩:=h
 exact⟨L',q1,(f.mono (fun _ _ e=>absurd e id)).trans q2,fun k hk=>(q3 k hk).imp id (fun h=>Nat.le_trans f.size h),q4⟩
theorem Rd(key:ByteArray)(lv:Value)(l:List Ver)(b:Nat)(L:SL)(S:SM)(w:World)(h:SRep w b L S)(hl:VRow w lv l)(hlen:S.keys.length<1099511627776) :
  Calls Tryz.prog 287 #[.agg #[.string key,lv],.pointer (some ⟨b,0,none⟩)] w fun e w'=>e=.returned (.tuple #[])∧SStep w b L (S.holds key l) (fun k=>lv.ownBlock=some k) w':=by
 obtain⟨la,lc,rfl⟩:=z8 hl
 have hf:Fr Nil w (w.alloc (.cells #[.string key,.slice la l.length lc] 193)):=(G _ _).alloc _
 have hbx:Blk (w.alloc (.cells #[.string key,.slice la l.length lc] 193)) w.heap.size [.string key,.slice la l.length lc] 193:=Blk.new w [.string key,.slice la l.length lc] _
 have h1:=h.nil hf
 have hl1:VRow (w.alloc (.cells #[.string key,.slice la l.length lc] 193)) (.slice la l.length lc) l:=VRow.fr hl hf (fun _ _=>id)
 have hel:L.ents.length<1099511627776:=by rw[h.pair.length];exact hlen
 by_cases hz:l=[]
 ·have hz0:((l.length:Int)==0)=true:=by rw[hz];rfl
  have hS:S.holds key l={S with keys:=Yl S.keys key}:=by simp[SM.holds,hz]
  rw[hS]
  clear hz hS
  go_enter Tryz.func287,Tryz.ntmps287
  go_wp2_with fail
  obtain⟨N,hN⟩:∃ N,w.heap.size=N:=⟨_,rfl⟩
  rw[hN] at hbx ⊢
  obtain⟨w0,hw0⟩:∃ w0,w.alloc (.cells #[.string key,.slice la l.length lc] 193)=w0:=⟨_,rfl⟩
  rw[hw0] at hbx hf h1 hl1 ⊢
  clear hw0 hN
  have hc0:w0.cell? ⟨N,0,none⟩=some (.string key):=by rw[hbx.cell];rfl
  have HB4:Hid (∀ wx w4:World,Fr Nil w0 wx→Y6 wx b 161 L.kv [L.hv,.int .i64 S.leased] (Yv L.ents key) w4→w4.cell? ⟨N,0,none⟩=some (.string key)):=by
   rintro wx w4 f ⟨v',_,_,f4,_⟩
   have h2:=h1.nil f
   have hb:=hbx.fr f id
   rw[(hb.fr f4 (fun e=>?_)).cell];rfl
   rcases e with e|e
   ·exact hb.ne h2.blk (by decide) e
   ·exact za h2.ent.own hb (by decide) e
  have H1:=Z h1
  have HH:=Z h
  clear h h1 hbx
  go_region_held3 (fun w'=>w'.cell? ⟨N,0,none⟩=some (.string key)) (first|go_keep|assumption)
   (first
   | (go_at_call 290;refine(Sg L.kv _ L.ents key b _ _ ((H1.out.nil (by repeat' first|(with_reducible first|apply G|assumption|apply O|apply U|apply V|apply z6)|(intro _;rfl))).blk) (by decide) ((H1.out.nil (by repeat' first|(with_reducible first|apply G|assumption|apply O|apply U|apply V|apply z6)|(intro _;rfl))).ent) hel).mono ?_;rintro e w4 ⟨rfl,hS4⟩;have hs4:=HB4.out _ _ (by repeat' first|(with_reducible first|apply G|assumption|apply O|apply U|apply V|apply z6)|(intro _;rfl)) hS4;have HS4:=Z (show Y6 w0 _ _ _ _ _ w4 from hS4.of (by repeat' first|(with_reducible first|apply G|assumption|apply O|apply U|apply V|apply z6)|(intro _;rfl)));clear hS4))
  have hst:SStep w0 b L {S with keys:=Yl S.keys key} (fun k=>(Value.slice la l.length lc).ownBlock=some k) w4 :=
   H1.out.kept HS4.out ((H1.out.pair.mono (fun a _ l hr=>Y6.vrow H1.out HS4.out hr)).del key) _ (fun k ⟨e,he,hk⟩=>.inl ⟨e,R8 e he,hk⟩)
  have HF:=Z (hst.of hf)
  clear hst
  go_wp2
  exact bodyPost_ret (v:=.tuple #[]) (by simp[results,go_sem]) rfl ⟨rfl,HF.out⟩
 ·have hz0:((l.length:Int)==0)=false:=by
   have:l.length≠0:=fun e=>hz (List.eq_nil_of_length_eq_zero e)
   simp;omega
  have hS:S.holds key l={S with keys:=Y7 S.keys key l}:=by simp[SM.holds,hz]
  rw[hS]
  clear hz hS
  go_enter Tryz.func287,Tryz.ntmps287
  go_wp2_with fail
  obtain⟨N,hN⟩:∃ N,w.heap.size=N:=⟨_,rfl⟩
  rw[hN] at hbx ⊢
  obtain⟨w0,hw0⟩:∃ w0,w.alloc (.cells #[.string key,.slice la l.length lc] 193)=w0:=⟨_,rfl⟩
  rw[hw0] at hbx hf h1 hl1 ⊢
  clear hw0 hN
  have hc0:w0.cell? ⟨N,0,none⟩=some (.string key):=by rw[hbx.cell];rfl
  have hc1:w0.cell? ⟨N,1,none⟩=some (.slice la l.length lc):=by rw[hbx.cell];rfl
  have HB4:Hid (∀ wx w4:World,Fr Nil w0 wx→Y6 wx b 161 L.kv [L.hv,.int .i64 S.leased] (ZS L.ents key (.slice la l.length lc)) w4→w4.cell? ⟨N,0,none⟩=some (.string key)∧w4.cell? ⟨N,1,none⟩=some (.slice la l.length lc)):=by
   rintro wx w4 f ⟨v',_,_,f4,_⟩
   have h2:=h1.nil f
   have hb:=hbx.fr f id
   have hb4:=hb.fr f4 (fun e=>by
    rcases e with e|e
    ·exact hb.ne h2.blk (by decide) e
    ·exact za h2.ent.own hb (by decide) e)
   exact⟨by rw[hb4.cell];rfl,by rw[hb4.cell];rfl⟩
  have H1:=Z h1
  have HH:=Z h
  have HL:=Z hl1
  clear h h1 hbx hl1
  go_region_held3 (fun w'=>w'.cell? ⟨N,0,none⟩=some (.string key)∧w'.cell? ⟨N,1,none⟩=some (.slice la l.length lc)) (first|go_keep|assumption)
   (first
   | (go_at_call 291;refine(Pr L.kv _ L.ents key la _ lc b _ _ ((H1.out.nil (by repeat' first|(with_reducible first|apply G|assumption|apply O|apply U|apply V|apply z6)|(intro _;rfl))).blk) (by decide) ((H1.out.nil (by repeat' first|(with_reducible first|apply G|assumption|apply O|apply U|apply V|apply z6)|(intro _;rfl))).ent) hel).mono ?_;rintro e w4 ⟨rfl,hS4⟩;have hs4:=HB4.out _ _ (by repeat' first|(with_reducible first|apply G|assumption|apply O|apply U|apply V|apply z6)|(intro _;rfl)) hS4;have HS4:=Z (show Y6 w0 _ _ _ _ _ w4 from hS4.of (by repeat' first|(with_reducible first|apply G|assumption|apply O|apply U|apply V|apply z6)|(intro _;rfl)));clear hS4))
  have hst:SStep w0 b L {S with keys:=Y7 S.keys key l} (fun k=>(Value.slice la l.length lc).ownBlock=some k) w4 :=
   H1.out.kept HS4.out ((H1.out.pair.mono (fun a _ l hr=>Y6.vrow H1.out HS4.out hr)).set key (Y6.vrow H1.out HS4.out HL.out)) _ (fun k ⟨e,he,hk⟩=>by
    rcases NT e he with h|h
    ·exact .inl ⟨e,h,hk⟩
    ·subst h;exact .inr hk)
  have HF:=Z (hst.of hf)
  clear hst
  go_wp2
  exact bodyPost_end (v:=.tuple #[]) (by simp[results,go_sem]) rfl ⟨rfl,HF.out⟩
theorem Lg:((Tryz.prog.info? 75).map fun i=>(i.zero.map (·.cells.size),i.size,i.bytes))=some (some 2,2,24):=by kernel_rfl
theorem Re(v:Value)(n:Nat)(xs:List Value)(w:World)(hown:w.ownsRow 0 75 2 v n xs)(h1:∀ u∈xs,u.oneCell'=true)(hbig:n*24≤140737488355328) :
  Calls Tryz.prog 128 #[v] w fun e w' =>
   ∃ v',e=.returned v'∧w'.ownsRow 0 75 2 v' n xs∧Fr Nil w w'∧(∀ k,v'.ownBlock=some k→w.heap.size≤k):=by
 have q22:∀ (w:World) (a:Option Addr) (n c:Nat),(binOp .eql 66 (.slice a n c) (.slice none 0 0)).run Tryz.prog w=.ok (.bool a.isNone) w:=fun w a n c=>by exact Lib.run_eql_slice_nil (h:=Tryz.underlying66) ..
 rcases ZW hown with⟨rfl,rfl,rfl⟩|⟨g,cap,c,rfl,hg,hn,hcm,hcl,ht⟩
 ·go_enter Tryz.func128,Tryz.ntmps128
  go_wp2
  go_ret
  exact⟨_,rfl,World.ownsRow_nil w 0 _ _,G _ _,fun k hk=>by simp[Value.ownBlock] at hk⟩
 ·have hl:=hown.1
  have hw0:Blk (w.alloc (.cells #[] 75)) w.heap.size [] 75:=Blk.new w [] _
  have ho0:(w.alloc (.cells #[] 75)).ownsRow 0 75 2 (.slice (some ⟨w.heap.size,0,none⟩) 0 0) 0 []:=Zj hw0 (Nat.le_refl _) (Nat.zero_le _) (by simp) (by simp)
  have hsrc:∀ j u,xs[j]?=some u→(w.alloc (.cells #[] 75)).cell? ((⟨g,0,none⟩:Addr).add j)=some u:=by
   intro j u hu
   have hlt:=(List.getElem?_eq_some_iff.1 hu).1
   rw[Addr.add_lit,Nat.zero_add,(hg.alloc _).cell]
   rw[← ht,List.getElem?_take_of_lt (by omega)] at hu
   exact hu
  have hrun:∀ ty,∃ v' w',(Builtin.append_ #[66,66] ty #[.slice (some ⟨w.heap.size,0,none⟩) 0 0,.slice (some ⟨g,0,none⟩) n cap]).run Tryz.prog (w.alloc (.cells #[] 75))=.ok v' w'∧App (w.alloc (.cells #[] 75)) (.slice (some ⟨w.heap.size,0,none⟩) 0 0) 75 2 (0+n) ([]++xs) v' w':=fun ty =>
   zo (P:=Tryz.prog) 66 ty 75 2 24 Tryz.underlying66 Lg (by omega) _ 0 [] ho0 ⟨g,0,none⟩ n cap xs hl hsrc h1 (by unfold maxLen at *;omega) (by omega)
  have hfin:∀ v' w',App (w.alloc (.cells #[] 75)) (.slice (some ⟨w.heap.size,0,none⟩) 0 0) 75 2 (0+n) ([]++xs) v' w' →
    ∃ v'',Ending.returned v'=.returned v''∧w'.ownsRow 0 75 2 v'' n xs∧Fr Nil w w'∧(∀ k,v''.ownBlock=some k→w.heap.size≤k):=by
   rintro v' w' ⟨ho,hgr,hb⟩
   refine⟨v',rfl,by simpa using ho,((G Nil w).alloc _).trans' ((Fr.of_grown hgr).mono (fun i _ h=>h)) (fun i hi h=>?_),fun k hk=>?_⟩
   ·simp[Value.ownBlock] at h;omega
   ·rcases hb with hb|hb
    ·rw[hb] at hk;simp[Value.ownBlock] at hk;omega
    ·rw[hb] at hk;simp at hk;omega
  have HF:=Z hfin
  clear hfin hsrc ho0 hw0 hown hg
  unfold maxLen at hcm
  go_enter Tryz.func128,Tryz.ntmps128
  go_wp2_with (at_builtin;go_must (refine zf rfl _ _ _ _ rfl _ _ (by rfl) (by rfl) (hrun _) ?_);rintro v' w' hA)
  go_ret
  exact HF.out _ _ hA
abbrev Fact:=Sum Nat (Sum (ByteArray × List Ver) (Sum (Nat × ByteArray) Unit))
def FRep(w:World)(fv:Value):Fact→Prop
 | .inl n=>fv=.iface 220 (.agg #[.int .i64 n])
 | .inr (.inl x)=>∃ lv,fv=.iface 193 (.agg #[.string x.1,lv])∧VRow w lv x.2
 | .inr (.inr (.inl x))=>fv=.iface 138 (.agg #[.int .i64 x.1,.string x.2])
 | .inr (.inr (.inr _))=>fv=.iface 135 (.agg #[])
def XF(fv:Value)(k:Nat):Prop :=
 match fv with
 | .iface _ (.agg cs)=>∃ v∈cs.toList,v.ownBlock=some k
 | _=>False
def SM.enter(S:SM):Fact→SM
 | .inl n=>{S with leased:=n}
 | .inr (.inl x)=>S.holds x.1 x.2
 | .inr (.inr (.inl x))=>{S with hints:=S.hints++[x]}
 | .inr (.inr (.inr _))=>{S with hints:=S.hints.drop 1}
theorem FRep.fr{S:Nat→Prop}{w w':World}{fv:Value}{f:Fact}(h:FRep w fv f)(fr:Fr S w w')(hn:∀ k,XF fv k→¬S k):FRep w' fv f:=by
 rcases f with n|x|x|x
 ·exact h
 ·obtain⟨lv,rfl,hv⟩:=h
  exact⟨lv,rfl,VRow.fr hv fr (fun k hk=>hn k ⟨lv,by simp,hk⟩)⟩
 ·exact h
 ·exact h
theorem SStep.mono{w w':World}{b:Nat}{L:SL}{S:SM}{X Y:Nat→Prop}(h:SStep w b L S X w')(f:∀ k,X k→Y k):SStep w b L S Y w':=by
 obtain⟨L',q1,q2,q3,q4⟩:=h
 exact⟨L',q1,q2,q3,fun k hk=>(q4 k hk).imp id (f k)⟩
theorem YL(f:Fact)(fv:Value)(b:Nat)(L:SL)(S:SM)(w:World)(h:SRep w b L S)(hf:FRep w fv f)(hlen:S.keys.length<1099511627776)(hlen2:S.hints.length<1000000) :
  Calls Tryz.prog 96 #[.pointer (some ⟨b,0,none⟩),fv] w fun e w'=>e=.returned (.tuple #[])∧SStep w b L (S.enter f) (XF fv) w':=by
 rcases f with n|⟨k,l⟩|⟨to,text⟩|x
 ·have hfv:fv=.iface 220 (.agg #[.int .i64 n]):=hf
  subst hfv
  have HH:=Z (Ra n b L S w h)
  clear h
  go_enter Tryz.func96,Tryz.ntmps96
  go_wp2_with fail
  refine HH.out.mono ?_
  rintro e w1 ⟨rfl,hs⟩
  have HS:=Z hs
  clear hs
  go_wp2
  exact bodyPost_end (v:=.tuple #[]) (by simp[results,go_sem]) rfl ⟨rfl,HS.out.mono (fun _ h=>absurd h id)⟩
 ·obtain⟨lv,hfv,hv⟩:∃ lv,fv=.iface 193 (.agg #[.string k,lv])∧VRow w lv l:=hf
  subst hfv
  have HH:=Z (Rd k lv l b L S w h hv hlen)
  clear h hv
  go_enter Tryz.func96,Tryz.ntmps96
  go_wp2_with fail
  refine HH.out.mono ?_
  rintro e w1 ⟨rfl,hs⟩
  have HS:=Z hs
  clear hs
  go_wp2
  exact bodyPost_end (v:=.tuple #[]) (by simp[results,go_sem]) rfl ⟨rfl,HS.out.mono (fun _ h=>⟨lv,by simp,h⟩)⟩
 ·have hfv:fv=.iface 138 (.agg #[.int .i64 to,.string text]):=hf
  subst hfv
  have HH:=Z (Si to text b L S w h hlen2)
  clear h
  go_enter Tryz.func96,Tryz.ntmps96
  go_wp2_with fail
  refine HH.out.mono ?_
  rintro e w1 ⟨rfl,hs⟩
  have HS:=Z hs
  clear hs
  go_wp2
  exact bodyPost_end (v:=.tuple #[]) (by simp[results,go_sem]) rfl ⟨rfl,HS.out.mono (fun _ h=>absurd h id)⟩
 ·have hfv:fv=.iface 135 (.agg #[]):=hf
  subst hfv
  have HH:=Z (Rb b L S w h hlen2)
  clear h
  go_enter Tryz.func96,Tryz.ntmps96
  go_wp2_with fail
  refine HH.out.mono ?_
  rintro e w1 ⟨rfl,hs⟩
  have HS:=Z hs
  clear hs
  go_wp2
  exact bodyPost_end (v:=.tuple #[]) (by simp[results,go_sem]) rfl ⟨rfl,HS.out.mono (fun _ h=>absurd h id)⟩
theorem SRep.getE{w:World}{b:Nat}{L:SL}{S:SM}(h:SRep w b L S)(s:ByteArray):VRow w (getE L.ents s) (zc S.keys s):=by
 unfold Go.Proofs.YtkhnggkkiefcdaaGreatDoor.getE zc
 have hk:zp L.ents=S.keys.map Prod.fst:=h.pair.keys
 rw[hk]
 split
 ·rename_i ha
  have ha':zX zb (zp L.ents) s=true:=by rw[hk];exact ha
  obtain⟨hl,_⟩:=Yu ha'
  rw[hk] at hl
  have hl2:low zb (S.keys.map Prod.fst) s<S.keys.length:=by rw[← h.pair.length];exact hl
  have:=h.pair.get _ hl hl2
  simpa [hl,hl2] using this
 ·exact World.ownsRow_nil w 0 _ _
theorem YV(key:ByteArray)(b:Nat)(L:SL)(S:SM)(w:World)(h:SRep w b L S)(hlen:S.keys.length<1099511627776) :
  Calls Tryz.prog 73 #[.pointer (some ⟨b,0,none⟩),.string key] w fun e w'=>e=.returned (getE L.ents key)∧Fr Nil w w':=by
 have hc:w.cell? ⟨b,0,none⟩=some L.kv:=by rw[h.blk.cell];rfl
 have HH:=Z (Pq L.kv L.ents key b w hc h.blk.lt h.ent (by rw[h.pair.length];omega))
 clear h
 go_enter Tryz.func73,Tryz.ntmps73
 go_wp2_with (refine HH.out.mono ?_;rintro e w1 ⟨rfl,hf⟩)
 go_ret
 exact⟨rfl,hf⟩
theorem Uo(b:Nat)(L:SL)(S:SM)(w:World)(h:SRep w b L S) :
  Calls Tryz.prog 88 #[.pointer (some ⟨b,0,none⟩)] w fun e w'=>e=.returned (.int .i64 S.keys.length)∧w'=w:=by
 have hc:w.cell? ⟨b,0,none⟩=some L.kv:=by rw[h.blk.cell];rfl
 have HH:=Z (Ps L.kv L.ents b w hc h.ent)
 have HL:=Z h.pair.length
 clear h
 go_enter Tryz.func88,Tryz.ntmps88
 go_wp2_with (refine HH.out.mono ?_;rintro e w1 ⟨rfl,rfl⟩)
 go_ret
 exact⟨by show Ending.returned (.int .i64 (L.ents.length:Int))=_;rw[HL.out],rfl⟩
theorem Vb(b:Nat)(L:SL)(S:SM)(w:World)(h:SRep w b L S) :
  Calls Tryz.prog 98 #[.pointer (some ⟨b,0,none⟩)] w fun e w'=>e=.returned (.int .i64 S.leased)∧w'=w:=by
 have hc:=h.blk.cell
 clear h
 go_enter Tryz.func98,Tryz.ntmps98
 go_wp2
 go_ret
 exact⟨rfl,rfl⟩
theorem Yw(b:Nat)(L:SL)(S:SM)(w:World)(h:SRep w b L S) :
  Calls Tryz.prog 78 #[.pointer (some ⟨b,0,none⟩)] w fun e w'=>e=.returned (.int .i64 S.hints.length)∧w'=w:=by
 have hc:=h.blk.cell
 obtain⟨ha,hc',hhv⟩:=z8 h.hint
 have hn:=zK h.hint
 unfold maxLen at hn
 rw[hhv] at hc
 clear h hhv
 go_enter Tryz.func78,Tryz.ntmps78
 go_wp2
 go_ret
 exact⟨rfl,rfl⟩
theorem Rf(b:Nat)(L:SL)(S:SM)(w:World)(h:SRep w b L S)(hlen:S.hints.length<1000000) :
  Calls Tryz.prog 77 #[.pointer (some ⟨b,0,none⟩)] w fun e w'=>∃ v',e=.returned v'∧w'.ownsRow 0 75 2 v' S.hints.length (zD S.hints)∧Fr Nil w w'∧(∀ k,v'.ownBlock=some k→w.heap.size≤k):=by
 have hc:w.cell? ⟨b,1,none⟩=some L.hv:=by rw[h.blk.cell];rfl
 have HH:=Z (Re L.hv S.hints.length (zD S.hints) w h.hint (XR _) (by omega))
 clear h
 go_enter Tryz.func77,Tryz.ntmps77
 go_wp2_with (refine HH.out.mono ?_;rintro e w1 ⟨v',rfl,h1,h2,h3⟩)
 go_ret
 exact⟨v',rfl,h1,h2,h3⟩
structure NM where
 self:Nat
 given:Nat
 every:Nat
 writes:Nat
 readOnly:Bool
 J:JM
 S:SM
structure NL where
 nb:Nat
 jb:Nat
 sb:Nat
 db:Nat
 mv:Value
 LS:SL
 LD:DL
def NM.cells(L:NL)(N:NM):List Value:=[.int .i64 N.self,.pointer (some ⟨L.jb,0,none⟩),.pointer (some ⟨L.sb,0,none⟩),.int .i64 N.given,.int .i64 N.every,.int .i64 N.writes,L.mv,.bool N.readOnly]
structure NRep(w:World)(L:NL)(N:NM)(M:DM):Prop where
 blk:Blk w L.nb (N.cells L) 123
 log:JRep w L.jb L.db N.J
 held:SRep w L.sb L.LS N.S
 disk:DRep w L.db L.LD M
def NFoot(L:NL)(M:DM)(k:Nat):Prop:=k=L.nb∨k=L.jb∨SFoot L.sb L.LS k∨Foot L.db L.LD M k
theorem NRep.fr{S0:Nat→Prop}{w w':World}{L:NL}{N:NM}{M:DM}(h:NRep w L N M)(f:Fr S0 w w')(h1:∀ k,NFoot L M k→¬S0 k)(h2:∀ k,SRead L.LS k→¬S0 k):NRep w' L N M :=
 ⟨h.blk.fr f (h1 _ (.inl rfl)),Blk.fr h.log f (h1 _ (.inr (.inl rfl))),h.held.fr f (fun k hk=>h1 k (.inr (.inr (.inl hk)))) h2,h.disk.fr f (fun k hk=>h1 k (.inr (.inr (.inr hk))))⟩
theorem NRep.nil{w w':World}{L:NL}{N:NM}{M:DM}(h:NRep w L N M)(f:Fr Nil w w'):NRep w' L N M:=h.fr f (fun _ _=>id) (fun _ _=>id)
structure NL.Same(L L':NL):Prop where
 nb:L'.nb=L.nb
 jb:L'.jb=L.jb
 sb:L'.sb=L.sb
 db:L'.db=L.db
structure NStep(L:NL)(M:DM)(w:World)(L':NL)(N':NM)(M':DM)(w':World):Prop where
 rep:NRep w' L' N' M'
 same:NL.Same L L'
 fr:Fr (NFoot L M) w w'
 foot:∀ k,NFoot L' M' k→NFoot L M k∨w.heap.size≤k
 read:∀ k,SRead L'.LS k→SRead L.LS k∨w.heap.size≤k
theorem NStep.trans{L1 L2 L3:NL}{N2 N3:NM}{M1 M2 M3:DM}{w1 w2 w3:World}(h:NStep L1 M1 w1 L2 N2 M2 w2)(k:NStep L2 M2 w2 L3 N3 M3 w3):NStep L1 M1 w1 L3 N3 M3 w3 where
 rep:=k.rep
 same:=⟨k.same.nb.trans h.same.nb,k.same.jb.trans h.same.jb,k.same.sb.trans h.same.sb,k.same.db.trans h.same.db⟩
 fr:=h.fr.trans' k.fr (fun i hi hf=>(h.foot i hf).resolve_right (by omega))
 foot:=fun i hi=>(k.foot i hi).elim (h.foot i) (fun h'=>.inr (Nat.le_trans h.fr.size h'))
 read:=fun i hi=>(k.read i hi).elim (h.read i) (fun h'=>.inr (Nat.le_trans h.fr.size h'))
theorem NStep.nil{L:NL}{N:NM}{M:DM}{w w':World}(h:NRep w L N M)(f:Fr Nil w w'):NStep L M w L N M w' :=
 ⟨h.nil f,⟨rfl,rfl,rfl,rfl⟩,f.mono (fun _ _ e=>absurd e id),fun _ hk=>.inl hk,fun _ hk=>.inl hk⟩
theorem NStep.andNil{L L':NL}{N':NM}{M M':DM}{w w1 w':World}(h:NStep L M w L' N' M' w1)(f:Fr Nil w1 w'):NStep L M w L' N' M' w':=h.trans (NStep.nil h.rep f)
theorem NStep.of_log{L:NL}{N:NM}{M M':DM}{J':JM}{LD':DL}{w w':World}(h:NRep w L N M)(s:JStep L.jb L.db L.LD M w J' LD' M' w'):NStep L M w {L with LD:=LD'} {N with J:=J'} M' w':=by
 have hty:∀ {k t},Ty w k t→¬DTy t→t≠197→¬(k=L.jb∨Foot L.db L.LD M k):=by
  intro k t hk hd hj hf
  rcases hf with hf|hf
  ·subst hf;exact hj (hk.inj (Blk.ty h.log))
  ·exact h.disk.apart hk hd hf
 refine⟨⟨h.blk.fr s.2.2.1 (hty h.blk.ty (by unfold DTy;decide) (by decide)),s.1,h.held.fr s.2.2.1 (fun k hk=>?_) (fun k hk=>hty (h.held.read_ty hk) (by unfold DTy;decide) (by decide)),s.2.1⟩,⟨rfl,rfl,rfl,rfl⟩,s.2.2.1.mono (fun k _ e=>?_),fun k hk=>?_,fun k hk=>.inl hk⟩
 ·rcases h.held.foot_ty hk with e|e|e
  ·exact hty e (by unfold DTy;decide) (by decide)
  ·exact hty e (by unfold DTy;decide) (by decide)
  ·exact hty e (by unfold DTy;decide) (by decide)
 ·rcases e with e|e
  ·exact .inr (.inl e)
  ·exact .inr (.inr (.inr e))
 ·rcases hk with e|e|e|e
  ·exact .inl (.inl e)
  ·exact .inl (.inr (.inl e))
  ·exact .inl (.inr (.inr (.inl e)))
  ·exact(s.2.2.2 k e).imp (fun h=>.inr (.inr (.inr h))) id
theorem NStep.held{L L1:NL}{N1:NM}{M M1:DM}{S':SM}{X:Nat→Prop}{w w1 w':World}(h:NStep L M w L1 N1 M1 w1)(s':SStep w1 L1.sb L1.LS S' X w')(hx:∀ k,X k→SRead L.LS k∨w.heap.size≤k) :
  ∃ LS',NStep L M w {L1 with LS:=LS'} {N1 with S:=S'} M1 w':=by
 obtain⟨LS',q1,q2,q3,q4⟩:=s'
 have hr:=h.rep
 have hty:∀ {k t},Ty w1 k t→t≠161→t≠239→t≠75→¬SFoot L1.sb L1.LS k:=by
  intro k t hk h1 h2 h3 hf
  rcases hr.held.foot_ty hf with e|e|e
  ·exact h1 (hk.inj e)
  ·exact h2 (hk.inj e)
  ·exact h3 (hk.inj e)
 refine⟨LS',⟨hr.blk.fr q2 (hty hr.blk.ty (by decide) (by decide) (by decide)),Blk.fr hr.log q2 (hty (Blk.ty hr.log) (by decide) (by decide) (by decide)),q1,hr.disk.fr q2 (fun k hk e=>?_)⟩,⟨h.same.nb,h.same.jb,h.same.sb,h.same.db⟩,h.fr.trans' q2 (fun k hk e=>(h.foot k (.inr (.inr (.inl e)))).resolve_right (by omega)),fun k hk=>?_,fun k hk=>?_⟩
 ·obtain⟨t,ht,hd⟩:=hr.disk.ty hk
  unfold DTy at hd
  refine hty ht ?_ ?_ ?_ e
  all_goals (rcases hd with rfl|rfl|rfl|rfl|rfl <;> decide)
 ·rcases hk with e|e|e|e
  ·exact h.foot k (.inl e)
  ·exact h.foot k (.inr (.inl e))
  ·exact(q3 k e).elim (fun e=>h.foot k (.inr (.inr (.inl e)))) (fun e=>.inr (Nat.le_trans h.fr.size e))
  ·exact h.foot k (.inr (.inr (.inr e)))
 ·exact(q4 k hk).elim (h.read k) (hx k)
theorem NRep.apart{w:World}{L:NL}{N:NM}{M:DM}(h:NRep w L N M){k:Nat}{t:TypeId}(hk:Ty w k t)(h1:t≠123)(h2:t≠197)(h3:t≠161)(h4:t≠239)(h5:t≠75)(h6:¬DTy t):¬NFoot L M k:=by
 intro hf
 rcases hf with rfl|rfl|hf|hf
 ·exact h1 (hk.inj h.blk.ty)
 ·exact h2 (hk.inj (Blk.ty h.log))
 ·rcases h.held.foot_ty hf with e|e|e
  ·exact h3 (hk.inj e)
  ·exact h4 (hk.inj e)
  ·exact h5 (hk.inj e)
 ·exact h.disk.apart hk h6 hf
theorem VRow.step{w w':World}{L L':NL}{N N':NM}{M M':DM}{v:Value}{l:List Ver}(hv:VRow w v l)(h:NRep w L N M)(s:NStep L M w L' N' M' w'):VRow w' v l :=
 VRow.fr hv s.fr (fun _ hk=>h.apart (zy hv hk) (by decide) (by decide) (by decide) (by decide) (by decide) (by unfold DTy;decide))
theorem FRep.step{w w':World}{L L':NL}{N N':NM}{M M':DM}{v:Value}{x:Fact}(hv:FRep w v x)(h:NRep w L N M)(s:NStep L M w L' N' M' w'):FRep w' v x:=by
 rcases x with n|x|x|x
 ·exact hv
 ·obtain⟨lv,e,hl⟩:=hv
  exact⟨lv,e,hl.step h s⟩
 ·exact hv
 ·exact hv
theorem ERep.nstep{w w':World}{L L':NL}{N N':NM}{M M':DM}{v:Value}{e:Option Int}(he:ERep w v e)(h:NRep w L N M)(s:NStep L M w L' N' M' w'):ERep w' v e :=
 he.fr s.fr (fun _ hk=>hk.elim (fun hk=>h.apart hk (by decide) (by decide) (by decide) (by decide) (by decide) (by unfold DTy;decide)) (fun hk=>h.apart hk (by decide) (by decide) (by decide) (by decide) (by decide) (by unfold DTy;decide)))
theorem NStep.set{L:NL}{N N':NM}{M:DM}{w:World}(h:NRep w L N M)(i:Nat)(v:Value)(hc:(N.cells L).set i v=N'.cells L)(hJ:N'.J=N.J)(hS:N'.S=N.S):NStep L M w L N' M (w.setCell ⟨L.nb,i,none⟩ v):=by
 have hf:Fr (fun k=>k=L.nb) w (w.setCell ⟨L.nb,i,none⟩ v):=Fr.set (S:=fun k=>k=L.nb) (G _ _) (fun _=>rfl) _
 have hty:∀ {k t},Ty w k t→t≠123→¬k=L.nb:=fun hk ht e=>by subst e;exact ht (hk.inj h.blk.ty)
 refine⟨⟨?_,?_,?_,h.disk.fr hf (fun k hk=>?_)⟩,⟨rfl,rfl,rfl,rfl⟩,hf.mono (fun _ _ e=>.inl e),fun k hk=>.inl hk,fun k hk=>.inl hk⟩
 ·rw[← hc];exact h.blk.set i v
 ·rw[hJ];exact Blk.fr h.log hf (hty (Blk.ty h.log) (by decide))
 ·rw[hS]
  refine h.held.fr hf (fun k hk=>?_) (fun k hk=>hty (h.held.read_ty hk) (by decide))
  rcases h.held.foot_ty hk with e|e|e
  ·exact hty e (by decide)
  ·exact hty e (by decide)
  ·exact hty e (by decide)
 ·obtain⟨t,ht,hd⟩:=h.disk.ty hk
  unfold DTy at hd
  refine hty ht ?_
  rcases hd with rfl|rfl|rfl|rfl|rfl <;> decide
end Go.Proofs.YtkhnggkkiefcdaaGreatDoor
