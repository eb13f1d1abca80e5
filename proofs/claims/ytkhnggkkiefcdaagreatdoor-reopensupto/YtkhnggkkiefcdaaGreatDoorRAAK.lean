/- larder: joined texts -/
import Derived.Test.YtkhnggkkiefcdaaGreatDoorRAAJ
namespace Go.Proofs.YtkhnggkkiefcdaaGreatDoor
open Go.RowKit
set_option maxRecDepth 100000
set_option maxHeartbeats 8000000
def zw(self:Nat)(key:ByteArray)(v:Ver):Int:=if zm key=false then 2 else if 128<v.value.size then 3 else if foreign self v=false then 5 else 0
theorem Y5{self:Nat}{v:Ver}(h:v.node<0∨4≤v.node∨v.node=self∨v.seq<1∨1000000000<v.seq∨(v.gone=true∧v.value.size≠0)):foreign self v=false:=by
 unfold foreign zt
 rcases h with h|h|h|h|h|⟨h,h'⟩
 ·simp;intros;omega
 ·simp;intros;omega
 ·simp[h]
 ·simp;intros;omega
 ·simp;intros;omega
 ·simp[h,h']
theorem PO{self:Nat}{v:Ver}(h1:¬v.node<0)(h2:¬4≤v.node)(h3:v.node≠self)(h4:¬v.seq<1)(h5:¬1000000000<v.seq)(h6:v.gone=false∨v.value.size=0):foreign self v=v.overs.all zj:=by
 unfold foreign zt
 have e1:decide (0≤v.node∧v.node<4)=true:=by simp;omega
 have e2:decide (1≤v.seq∧v.seq≤1000000000)=true:=by simp;omega
 have e3:(v.gone&&decide (v.value.size≠0))=false:=by rcases h6 with h|h <;> simp[h]
 rw[e1,e2,e3]
 simp[h3]
theorem Y2(p:Nat)(self:Nat)(kv hv:Value)(key:ByteArray)(v:Ver)(w:World)(h:Blk w p [.int .i64 self,kv,hv] 107) :
  Calls Tryz.prog 111 #[.pointer (some ⟨p,0,none⟩),.string key,.agg v.cells.toArray] w fun e w'=>e=.returned (.int .i64 (zw self key v))∧Fr Nil w w':=by
 have hA:=Blk.new w v.cells 37
 have f0:Fr Nil w (w.alloc (.cells v.cells.toArray 37)):=(G _ _).alloc _
 have hcp:(w.alloc (.cells v.cells.toArray 37)).cell? ⟨p,0,none⟩=some (.int .i64 self):=(h.fr f0 id).cell 0
 have HK:=Z (ZY key (w.alloc (.cells v.cells.toArray 37)))
 have hcell:=hA.cell
 have HF:=Z f0
 have HSZ:=Z (Y4 v.value)
 clear hA f0 h
 obtain⟨node,seq,o0,o1,o2,o3,value,gone⟩:=v
 simp only[Ver.cells] at HK HF hcp hcell HSZ ⊢
 go_enter Tryz.func111,Tryz.ntmps111
 go_wp2_with fail
 generalize w.alloc (.cells #[.int .i64 node,.int .i64 seq,.int .i64 o0,.int .i64 o1,.int .i64 o2,.int .i64 o3,.string value,.bool gone] 37)=wb at HK HF hcp hcell ⊢
 generalize w.heap.size=b at hcell ⊢
 have hcv:wb.cell? ⟨b,6,none⟩=some (.string value):=hcell 6
 cases hk:zm key with
 | false =>
  have hp:zw self key ⟨node,seq,o0,o1,o2,o3,value,gone⟩=2:=by unfold zw;rw[if_pos hk]
  have hb:zT key=2:=by unfold zT;rw[if_neg (by rw[hk];decide)]
  rw[hb] at HK
  have HP:=Z hp
  clear hk hp hb
  refine HK.out.mono ?_
  rintro e w1 ⟨rfl,hw1⟩
  subst w1
  go_wp2
  go_ret
  exact⟨by rw[HP.out];rfl,HF.out⟩
 | true =>
 have hb:zT key=0:=by unfold zT;rw[if_pos hk]
 rw[hb] at HK
 have HKK:=Z hk
 clear hk hb
 refine HK.out.mono ?_
 rintro e w1 ⟨rfl,hw1⟩
 subst w1
 by_cases hv:128<value.size
 ·have hp:zw self key ⟨node,seq,o0,o1,o2,o3,value,gone⟩=3:=by unfold zw;rw[if_neg (by rw[HKK.out];decide),if_pos hv]
  have HP:=Z hp
  have hv':(128:Int)<(value.size:Int):=by omega
  clear hp hv
  go_wp2
  go_ret
  exact⟨by rw[HP.out];rfl,HF.out⟩
 have hv':¬(128:Int)<(value.size:Int):=by omega
 have HB:Hid (∀ x,foreign self ⟨node,seq,o0,o1,o2,o3,value,gone⟩=x→zw self key ⟨node,seq,o0,o1,o2,o3,value,gone⟩=if x=false then 5 else 0):=by
  intro x hx;unfold zw;rw[if_neg (by rw[HKK.out];decide),if_neg hv,hx]
 clear hv
 go_wp2_with fail
 by_cases hn1:node<0
 ·have hp:=HB.out false (Y5 ((.inl hn1)))
  have HP:=Z hp
  have d_hn1:decide (node<0)=true:=by simp[hn1]
  clear hp hn1
  go_quiet (fail)
  go_wp2
  go_ret
  exact⟨by rw[HP.out];rfl,HF.out.drewN _⟩
 have d_hn1:decide (node<0)=false:=by simp[hn1]
 by_cases hn2:4≤node
 ·have hp:=HB.out false (Y5 ((.inr (.inl hn2))))
  have HP:=Z hp
  have d_hn2:decide (4≤node)=true:=by simp[hn2]
  clear hp hn2
  go_quiet (fail)
  go_wp2
  go_ret
  exact⟨by rw[HP.out];rfl,HF.out.drewN _⟩
 have d_hn2:decide (4≤node)=false:=by simp[hn2]
 by_cases hn3:node=self
 ·have hp:=HB.out false (Y5 ((.inr (.inr (.inl hn3)))))
  have HP:=Z hp
  have d_hn3:(node==(self:Int))=true:=by simp[hn3]
  clear hp hn3
  go_quiet (fail)
  go_wp2
  go_ret
  exact⟨by rw[HP.out];rfl,HF.out.drewN _⟩
 have d_hn3:(node==(self:Int))=false:=by simp[hn3]
 by_cases hn4:seq<1
 ·have hp:=HB.out false (Y5 ((.inr (.inr (.inr (.inl hn4))))))
  have HP:=Z hp
  have d_hn4:decide (seq<1)=true:=by simp[hn4]
  clear hp hn4
  go_quiet (fail)
  go_wp2
  go_ret
  exact⟨by rw[HP.out];rfl,HF.out.drewN _⟩
 have d_hn4:decide (seq<1)=false:=by simp[hn4]
 by_cases hn5:1000000000<seq
 ·have hp:=HB.out false (Y5 ((.inr (.inr (.inr (.inr (.inl hn5)))))))
  have HP:=Z hp
  have d_hn5:decide (1000000000<seq)=true:=by simp[hn5]
  clear hp hn5
  go_quiet (fail)
  go_wp2
  go_ret
  exact⟨by rw[HP.out];rfl,HF.out.drewN _⟩
 have d_hn5:decide (1000000000<seq)=false:=by simp[hn5]
 have HFI:Hid (gone=false∨value.size=0→foreign self ⟨node,seq,o0,o1,o2,o3,value,gone⟩=[o0,o1,o2,o3].all zj):=fun hx=>PO hn1 hn2 hn3 hn4 hn5 hx
 clear hn1 hn2 hn3 hn4 hn5
 cases gone with
 | false =>
  have HFJ:=Z (HFI.out (.inl rfl))
  go_quiet (fail)
  go_wp2_with fail
  have hcell:∀ k,(wb.drewN nq).cell? ⟨b,k,none⟩=[.int .i64 node,.int .i64 seq,.int .i64 o0,.int .i64 o1,.int .i64 o2,.int .i64 o3,.string value,.bool false][k]?:=hcell
  have HWD:Hid (wb.drewN nq=wb.drewN nq):=Z rfl
  generalize hwd:wb.drewN nq=wd at hcell ⊢
  have HFD:Hid (Fr Nil w wd):=by rw[← hwd];exact HF.out.drewN _
  clear hwd
  go_loopw [8] (fun t w'=>∃ i:Nat,i≤4∧t=.int .i64 i∧(([o0,o1,o2,o3].take i).all zj)=true∧w'=wd) (fun t _=>4-(intOf t).toNat)
  case atStart=>exact⟨0,by omega,rfl,rfl,rfl⟩
  case round =>
   obtain⟨i,hi,rfl,hall,hw⟩:=hrel
   subst hw
   have hcase:i=0∨i=1∨i=2∨i=3∨i=4:=by omega
   rcases hcase with rfl|rfl|rfl|rfl|rfl
   ·cases ho:zj o0 with
    | false =>
     have hp:=HB.out false (by rw[HFJ.out];simp[ho])
     have HP:=Z hp
     have hlt:o0<0∨(¬o0<0∧1000000000<o0):=by unfold zj at ho;simp only[decide_eq_false_iff_not] at ho;omega
     clear hp ho hall
     rcases hlt with hlt|⟨hlt,hgt⟩
     ·go_wp2
      go_ret
      exact⟨by rw[HP.out];rfl,HFD.out⟩
     ·go_wp2
      go_ret
      exact⟨by rw[HP.out];rfl,HFD.out⟩
    | true =>
     have hall2:(([o0,o1,o2,o3].take 1).all zj)=true:=by simp[ho]
     have HALL:=Z hall2
     have hlt:¬o0<0∧¬1000000000<o0:=by unfold zj at ho;simp only[decide_eq_true_eq] at ho;omega
     obtain⟨hl1,hl2⟩:=hlt
     clear hall2 ho hall
     go_wp2
     exact⟨⟨1,by omega,by go_num,HALL.out,by first|rfl|trivial⟩,by simp[intOf]⟩
   ·cases ho:zj o1 with
    | false =>
     have hp:=HB.out false (by rw[HFJ.out];simp[ho])
     have HP:=Z hp
     have hlt:o1<0∨(¬o1<0∧1000000000<o1):=by unfold zj at ho;simp only[decide_eq_false_iff_not] at ho;omega
     clear hp ho hall
     rcases hlt with hlt|⟨hlt,hgt⟩
     ·go_wp2
      go_ret
      exact⟨by rw[HP.out];rfl,HFD.out⟩
     ·go_wp2
      go_ret
      exact⟨by rw[HP.out];rfl,HFD.out⟩
    | true =>
     have hall2:(([o0,o1,o2,o3].take 2).all zj)=true:=by simp at hall;simp[ho,hall]
     have HALL:=Z hall2
     have hlt:¬o1<0∧¬1000000000<o1:=by unfold zj at ho;simp only[decide_eq_true_eq] at ho;omega
     obtain⟨hl1,hl2⟩:=hlt
     clear hall2 ho hall
     go_wp2
     exact⟨⟨2,by omega,by go_num,HALL.out,by first|rfl|trivial⟩,by simp[intOf]⟩
   ·cases ho:zj o2 with
    | false =>
     have hp:=HB.out false (by rw[HFJ.out];simp[ho])
     have HP:=Z hp
     have hlt:o2<0∨(¬o2<0∧1000000000<o2):=by unfold zj at ho;simp only[decide_eq_false_iff_not] at ho;omega
     clear hp ho hall
     rcases hlt with hlt|⟨hlt,hgt⟩
     ·go_wp2
      go_ret
      exact⟨by rw[HP.out];rfl,HFD.out⟩
     ·go_wp2
      go_ret
      exact⟨by rw[HP.out];rfl,HFD.out⟩
    | true =>
     have hall2:(([o0,o1,o2,o3].take 3).all zj)=true:=by simp at hall;simp[ho,hall]
     have HALL:=Z hall2
     have hlt:¬o2<0∧¬1000000000<o2:=by unfold zj at ho;simp only[decide_eq_true_eq] at ho;omega
     obtain⟨hl1,hl2⟩:=hlt
     clear hall2 ho hall
     go_wp2
     exact⟨⟨3,by omega,by go_num,HALL.out,by first|rfl|trivial⟩,by simp[intOf]⟩
   ·cases ho:zj o3 with
    | false =>
     have hp:=HB.out false (by rw[HFJ.out];simp[ho])
     have HP:=Z hp
     have hlt:o3<0∨(¬o3<0∧1000000000<o3):=by unfold zj at ho;simp only[decide_eq_false_iff_not] at ho;omega
     clear hp ho hall
     rcases hlt with hlt|⟨hlt,hgt⟩
     ·go_wp2
      go_ret
      exact⟨by rw[HP.out];rfl,HFD.out⟩
     ·go_wp2
      go_ret
      exact⟨by rw[HP.out];rfl,HFD.out⟩
    | true =>
     have hall2:(([o0,o1,o2,o3].take 4).all zj)=true:=by simp at hall;simp[ho,hall]
     have HALL:=Z hall2
     have hlt:¬o3<0∧¬1000000000<o3:=by unfold zj at ho;simp only[decide_eq_true_eq] at ho;omega
     obtain⟨hl1,hl2⟩:=hlt
     clear hall2 ho hall
     go_wp2
     exact⟨⟨4,by omega,by go_num,HALL.out,by first|rfl|trivial⟩,by simp[intOf]⟩
   ·have hp:=HB.out true (by rw[HFJ.out];exact hall)
    have HP:=Z hp
    clear hp hall
    go_wp2
    go_ret
    exact⟨by rw[HP.out];rfl,HFD.out⟩
 | true =>
  by_cases he:value.toList=[]
  ·have HFJ:=Z (HFI.out (.inr (by rw[HSZ.out,he];rfl)))
   have he2:value.toList.isEmpty=true:=by rw[he];rfl
   go_quiet (fail)
   go_wp2_with fail
   have hcell:∀ k,(wb.drewN nq).cell? ⟨b,k,none⟩=[.int .i64 node,.int .i64 seq,.int .i64 o0,.int .i64 o1,.int .i64 o2,.int .i64 o3,.string value,.bool true][k]?:=hcell
   have HWD:Hid (wb.drewN nq=wb.drewN nq):=Z rfl
   generalize hwd:wb.drewN nq=wd at hcell ⊢
   have HFD:Hid (Fr Nil w wd):=by rw[← hwd];exact HF.out.drewN _
   clear hwd
   go_loopw [8] (fun t w'=>∃ i:Nat,i≤4∧t=.int .i64 i∧(([o0,o1,o2,o3].take i).all zj)=true∧w'=wd) (fun t _=>4-(intOf t).toNat)
   case atStart=>exact⟨0,by omega,rfl,rfl,rfl⟩
   case round =>
    obtain⟨i,hi,rfl,hall,hw⟩:=hrel
    subst hw
    have hcase:i=0∨i=1∨i=2∨i=3∨i=4:=by omega
    rcases hcase with rfl|rfl|rfl|rfl|rfl
    ·cases ho:zj o0 with
     | false =>
      have hp:=HB.out false (by rw[HFJ.out];simp[ho])
      have HP:=Z hp
      have hlt:o0<0∨(¬o0<0∧1000000000<o0):=by unfold zj at ho;simp only[decide_eq_false_iff_not] at ho;omega
      clear hp ho hall
      rcases hlt with hlt|⟨hlt,hgt⟩
      ·go_wp2
       go_ret
       exact⟨by rw[HP.out];rfl,HFD.out⟩
      ·go_wp2
       go_ret
       exact⟨by rw[HP.out];rfl,HFD.out⟩
     | true =>
      have hall2:(([o0,o1,o2,o3].take 1).all zj)=true:=by simp[ho]
      have HALL:=Z hall2
      have hlt:¬o0<0∧¬1000000000<o0:=by unfold zj at ho;simp only[decide_eq_true_eq] at ho;omega
      obtain⟨hl1,hl2⟩:=hlt
      clear hall2 ho hall
      go_wp2
      exact⟨⟨1,by omega,by go_num,HALL.out,by first|rfl|trivial⟩,by simp[intOf]⟩
    ·cases ho:zj o1 with
     | false =>
      have hp:=HB.out false (by rw[HFJ.out];simp[ho])
      have HP:=Z hp
      have hlt:o1<0∨(¬o1<0∧1000000000<o1):=by unfold zj at ho;simp only[decide_eq_false_iff_not] at ho;omega
      clear hp ho hall
      rcases hlt with hlt|⟨hlt,hgt⟩
      ·go_wp2
       go_ret
       exact⟨by rw[HP.out];rfl,HFD.out⟩
      ·go_wp2
       go_ret
       exact⟨by rw[HP.out];rfl,HFD.out⟩
     | true =>
      have hall2:(([o0,o1,o2,o3].take 2).all zj)=true:=by simp at hall;simp[ho,hall]
      have HALL:=Z hall2
      have hlt:¬o1<0∧¬1000000000<o1:=by unfold zj at ho;simp only[decide_eq_true_eq] at ho;omega
      obtain⟨hl1,hl2⟩:=hlt
      clear hall2 ho hall
      go_wp2
      exact⟨⟨2,by omega,by go_num,HALL.out,by first|rfl|trivial⟩,by simp[intOf]⟩
    ·cases ho:zj o2 with
     | false =>
      have hp:=HB.out false (by rw[HFJ.out];simp[ho])
      have HP:=Z hp
      have hlt:o2<0∨(¬o2<0∧1000000000<o2):=by unfold zj at ho;simp only[decide_eq_false_iff_not] at ho;omega
      clear hp ho hall
      rcases hlt with hlt|⟨hlt,hgt⟩
      ·go_wp2
       go_ret
       exact⟨by rw[HP.out];rfl,HFD.out⟩
      ·go_wp2
       go_ret
       exact⟨by rw[HP.out];rfl,HFD.out⟩
     | true =>
      have hall2:(([o0,o1,o2,o3].take 3).all zj)=true:=by simp at hall;simp[ho,hall]
      have HALL:=Z hall2
      have hlt:¬o2<0∧¬1000000000<o2:=by unfold zj at ho;simp only[decide_eq_true_eq] at ho;omega
      obtain⟨hl1,hl2⟩:=hlt
      clear hall2 ho hall
      go_wp2
      exact⟨⟨3,by omega,by go_num,HALL.out,by first|rfl|trivial⟩,by simp[intOf]⟩
    ·cases ho:zj o3 with
     | false =>
      have hp:=HB.out false (by rw[HFJ.out];simp[ho])
      have HP:=Z hp
      have hlt:o3<0∨(¬o3<0∧1000000000<o3):=by unfold zj at ho;simp only[decide_eq_false_iff_not] at ho;omega
      clear hp ho hall
      rcases hlt with hlt|⟨hlt,hgt⟩
      ·go_wp2
       go_ret
       exact⟨by rw[HP.out];rfl,HFD.out⟩
      ·go_wp2
       go_ret
       exact⟨by rw[HP.out];rfl,HFD.out⟩
     | true =>
      have hall2:(([o0,o1,o2,o3].take 4).all zj)=true:=by simp at hall;simp[ho,hall]
      have HALL:=Z hall2
      have hlt:¬o3<0∧¬1000000000<o3:=by unfold zj at ho;simp only[decide_eq_true_eq] at ho;omega
      obtain⟨hl1,hl2⟩:=hlt
      clear hall2 ho hall
      go_wp2
      exact⟨⟨4,by omega,by go_num,HALL.out,by first|rfl|trivial⟩,by simp[intOf]⟩
    ·have hp:=HB.out true (by rw[HFJ.out];exact hall)
     have HP:=Z hp
     clear hp hall
     go_wp2
     go_ret
     exact⟨by rw[HP.out];rfl,HFD.out⟩
  ·have he2:value.toList.isEmpty=false:=by simpa using he
   have hp:=HB.out false (Y5 (.inr (.inr (.inr (.inr (.inr ⟨rfl,by show value.size≠0;rw[HSZ.out];simpa using he⟩))))))
   have HP:=Z hp
   clear hp
   go_quiet (fail)
   go_wp2
   go_ret
   exact⟨by rw[HP.out];rfl,HF.out.drewN _⟩
end Go.Proofs.YtkhnggkkiefcdaaGreatDoor
