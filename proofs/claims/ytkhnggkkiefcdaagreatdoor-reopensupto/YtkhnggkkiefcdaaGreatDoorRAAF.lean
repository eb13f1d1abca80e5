/- larder: joined texts -/
import Derived.Test.YtkhnggkkiefcdaaGreatDoorRAAE
import Derived.Shelf.Pu.Clone
import Derived.Ground.MpProg
import Derived.Test.YtkhnggkkiefcdaaGreatDoorChecked
import Derived.Lib.LazyBuf
import Derived.StillTailTactics
namespace Go.Proofs.YtkhnggkkiefcdaaGreatDoor
open Go.RowKit
set_option maxRecDepth 100000
set_option maxHeartbeats 8000000
def zg:Fact→ByteArray
 | .inl n=>zh (Wg n)
 | .inr (.inl x)=>zh (Wh x.1 x.2)
 | .inr (.inr (.inl x))=>zh (Xz x.1 x.2)
 | .inr (.inr (.inr _))=>zh Wi
def FOk:Fact→Prop
 | .inl n=>n<9223372036854775808
 | .inr (.inl x)=>(∀ v∈x.2,v.Nat)∧x.2.length<1000000∧x.1.size<1000000000∧(Zt x.2).length≤100000000000
 | .inr (.inr (.inl x))=>x.1<9223372036854775808∧x.2.size<1000000000
 | .inr (.inr (.inr _))=>True
structure Yi(J:JM)(M:DM)(H n:Nat):Prop where
 bytes:n<1000000000000
 size:J.size<1000000000000
 last:J.last+1<1000000000000
 chs:(J.syncLast M).2.chs.length+1≤1000000000000
 dir:(J.syncLast M).2.dir.length+1≤1000000000000
 room:∀ f,H≤f→0≤(J.makeRoom M n f).2.2.part∧(J.makeRoom M n f).2.1.size<1000000000000∧∀ g,g∈(J.makeRoom M n f).2.2.ids→((J.makeRoom M n f).2.2.file g).bytes.length≤1000000000000
def NM.write(N:NM)(M:DM)(x:Fact)(f:Nat):Option Int × NM × DM :=
 ((N.J.append M (zg x) f).2.1,{N with J:=(N.J.append M (zg x) f).2.2.1,S:=if (N.J.append M (zg x) f).1=true then N.S.enter x else N.S},(N.J.append M (zg x) f).2.2.2)
structure Env(B:Nat)(L:NL)(M:DM)(w:World):Prop where
 tab:YK B w
 le:B≤w.heap.size
 foot:∀ k,Foot L.db L.LD M k→B≤k
theorem NU(v:Value)(w:World):(method 496 220 v "Record").run Tryz.prog w=.ok (307,v) w:=by kernel_rfl
theorem NV(v:Value)(w:World):(method 496 193 v "Record").run Tryz.prog w=.ok (286,v) w:=by kernel_rfl
theorem OH(v:Value)(w:World):(method 496 138 v "Record").run Tryz.prog w=.ok (282,v) w:=by kernel_rfl
theorem NW(v:Value)(w:World):(method 496 135 v "Record").run Tryz.prog w=.ok (274,v) w:=by kernel_rfl
theorem Up(B:Nat)(L0:NL)(M0:DM)(w0:World)(L:NL)(N:NM)(M:DM)(what:ByteArray)(x:Fact)(fv:Value)(w:World)(h0:NStep L0 M0 w0 L N M w)(he:Env B L M w)(hx:FRep w fv x)(hxo:FOk x)(hfb:∀ k,XF fv k→SRead L0.LS k∨w0.heap.size≤k)
  (hlog:Yi N.J M w.heap.size (zg x).size)(hk:N.S.keys.length<1099511627776)(hh:N.S.hints.length<1000000) :
  Calls Tryz.prog 129 #[.pointer (some ⟨L.nb,0,none⟩),.string what,fv] w fun e w' =>
   ∃ f v L',e=.returned v∧w.heap.size≤f∧ERep w' v (N.write M x f).1∧NStep L0 M0 w0 L' (N.write M x f).2.1 (N.write M x f).2.2 w':=by
 have h:=h0.rep
 have HS0:=Z h0
 have hc1:w.cell? ⟨L.nb,1,none⟩=some (.pointer (some ⟨L.jb,0,none⟩)):=h.blk.cell 1
 have HK:Hid (∀ w',Fr Nil w w'→w'.cell? ⟨L.nb,1,none⟩=some (.pointer (some ⟨L.jb,0,none⟩))):=by
  intro w' hf
  exact(h.blk.fr hf id).cell 1
 have HE:=Z he
 have H:=Z h
 have HX:=Z hx
 have HXO:=Z hxo
 have HLOG:=Z hlog
 clear he h hlog h0
 rcases x with n|⟨key,l⟩|⟨to,text⟩|u
 ·have hfv:fv=.iface 220 (.agg #[.int .i64 n]):=hx
  subst hfv
  have HR:=Z (fun wx=>SV n hxo wx)
  have hw:N.write M (Sum.inl n)=fun f=>((N.J.append M (zg (Sum.inl n)) f).2.1,{N with J:=(N.J.append M (zg (Sum.inl n)) f).2.2.1,S:=if (N.J.append M (zg (Sum.inl n)) f).1=true then N.S.enter (Sum.inl n) else N.S},(N.J.append M (zg (Sum.inl n)) f).2.2.2):=rfl
  have HW:=Z hw
  generalize hrec:zg (Sum.inl n)=rec at HLOG HW
  have HRE:Hid (zh (Wg n)=rec):=hrec
  have hrs:=HLOG.out.bytes
  have hm:=NU
  generalize hxx:(Sum.inl n:Fact)=x at HX HW hfb hw
  clear hrec hw hx hxo hxx
  go_enter Tryz.func129,Tryz.ntmps129
  go_wp2_with fail
  go_region_held3 (fun w'=>w'.cell? ⟨L.nb,1,none⟩=some (.pointer (some ⟨L.jb,0,none⟩))) (first|assumption|go_keep|exact HK.out _ (by repeat' first|(with_reducible first|apply G|assumption|apply O|apply U|apply V|apply z6)|(intro _;rfl)))
   (first
   | (go_at_call 164;refine(Yp B L.jb L.db N.J L.LD M rec HLOG.out.bytes HLOG.out.size HLOG.out.last _ (Blk.fr (S:=Nil) H.out.log (hf02.trans (by repeat' first|(with_reducible first|apply G|assumption|apply O|apply U|apply V|apply z6)|(intro _;rfl))) id) (H.out.disk.nil (hf02.trans (by repeat' first|(with_reducible first|apply G|assumption|apply O|apply U|apply V|apply z6)|(intro _;rfl)))) (HE.out.tab.fr (S:=Nil) HE.out.le (hf02.trans (by repeat' first|(with_reducible first|apply G|assumption|apply O|apply U|apply V|apply z6)|(intro _;rfl))) (fun _ h=>absurd h id)) (Nat.le_trans HE.out.le (Fr.size (S:=Nil) (hf02.trans (by repeat' first|(with_reducible first|apply G|assumption|apply O|apply U|apply V|apply z6)|(intro _;rfl))))) HE.out.foot HLOG.out.chs HLOG.out.dir (fun f hf=>HLOG.out.room f (Nat.le_trans (Fr.size (S:=Nil) (hf02.trans (by repeat' first|(with_reducible first|apply G|assumption|apply O|apply U|apply V|apply z6)|(intro _;rfl)))) hf))).mono ?_;rintro e w3 ⟨f,v3,LD3,rfl,hf3,hE3,hJ3⟩;have HF3:Hid (w.heap.size≤f):=Nat.le_trans (Fr.size (S:=Nil) (hf02.trans (by repeat' first|(with_reducible first|apply G|assumption|apply O|apply U|apply V|apply z6)|(intro _;rfl)))) hf3;have HS3w:Hid (NStep L M w _ _ _ w3):=(NStep.nil H.out (hf02.trans (by repeat' first|(with_reducible first|apply G|assumption|apply O|apply U|apply V|apply z6)|(intro _;rfl)))).trans (NStep.of_log (H.out.nil (hf02.trans (by repeat' first|(with_reducible first|apply G|assumption|apply O|apply U|apply V|apply z6)|(intro _;rfl)))) hJ3);have HS3:Hid (NStep L0 M0 w0 _ _ _ w3):=(HS0.out.andNil (hf02.trans (by repeat' first|(with_reducible first|apply G|assumption|apply O|apply U|apply V|apply z6)|(intro _;rfl)))).trans (NStep.of_log (H.out.nil (hf02.trans (by repeat' first|(with_reducible first|apply G|assumption|apply O|apply U|apply V|apply z6)|(intro _;rfl)))) hJ3);have hz3:w3.cell? ⟨L.nb,1,none⟩=some (.pointer (some ⟨L.jb,0,none⟩)):=HS3.out.rep.blk.cell 1;have HE3:=Z hE3;clear hE3 hJ3 hf3)
   | (go_at_call 307;refine(HR.out _).mono ?_;rintro e w2 ⟨rfl,hf2⟩;have hf02:Fr Nil w w2:=Fr.trans (by repeat' first|(with_reducible first|apply G|assumption|apply O|apply U|apply V|apply z6)|(intro _;rfl)) hf2;have hz2:=HK.out w2 hf02;rw[HRE.out]))
  have hc2:w3.cell? ⟨L.nb,2,none⟩=some (.pointer (some ⟨L.sb,0,none⟩)):=HS3.out.rep.blk.cell 2
  cases hb:(N.J.append M rec f).1 with
  | true =>
   have HB:=Z hb
   have HT:=Z (YL x _ L.sb L.LS N.S w3 HS3.out.rep.held (HX.out.step H.out HS3w.out) hk hh)
   clear hb
   go_wp2_with fail
   refine HT.out.mono ?_
   rintro e w4 ⟨rfl,hT⟩
   obtain⟨LS4,hS4⟩:=HS3.out.held hT hfb
   have hE4:=HE3.out.fr (w':=w4) (by obtain⟨_,_,q,_⟩:=hT;exact q) (fun k hk hf=>by
    rcases HS3.out.rep.held.foot_ty hf with e|e|e <;> rcases hk with hk|hk <;> exact absurd (hk.inj e) (by decide))
   have HS4:=Z hS4
   have HE4:=Z hE4
   clear hT hS4 hE4 HT
   go_wp2_with fail
   refine(zF _ _ _ w4 HE4.out).mono ?_
   rintro e w5 ⟨v5,rfl,hE5,hf5⟩
   have HE5:=Z hE5
   have HF:=Z (HS4.out.andNil hf5)
   clear hE5 hf5
   go_wp2
   go_ret
   refine⟨f,v5,{L with LD:=LD3,LS:=LS4},rfl,HF3.out,?_,?_⟩
   ·rw[HW.out];exact HE5.out
   ·rw[HW.out];simp only[HB.out,if_true];exact HF.out
  | false =>
   have HB:=Z hb
   clear hb
   go_wp2_with fail
   refine(zF _ _ _ w3 HE3.out).mono ?_
   rintro e w5 ⟨v5,rfl,hE5,hf5⟩
   have HE5:=Z hE5
   have HF:=Z (HS3.out.andNil hf5)
   clear hE5 hf5
   go_wp2
   go_ret
   refine⟨f,v5,{L with LD:=LD3},rfl,HF3.out,?_,?_⟩
   ·rw[HW.out];exact HE5.out
   ·rw[HW.out];simp only[HB.out,Bool.false_eq_true,if_false];exact HF.out
 ·obtain⟨lv,hfv,hlv⟩:∃ lv,fv=.iface 193 (.agg #[.string key,lv])∧VRow w lv l:=id hx
  subst hfv
  have HLV:=Z hlv
  clear hlv
  have HR:=Z (fun wx (f:Fr Nil w wx)=>SW key lv l hxo.1 hxo.2.1 hxo.2.2.1 wx (VRow.fr HLV.out f (fun _ _=>id)) hxo.2.2.2)
  have hw:N.write M (Sum.inr (Sum.inl (key,l)))=fun f=>((N.J.append M (zg (Sum.inr (Sum.inl (key,l)))) f).2.1,{N with J:=(N.J.append M (zg (Sum.inr (Sum.inl (key,l)))) f).2.2.1,S:=if (N.J.append M (zg (Sum.inr (Sum.inl (key,l)))) f).1=true then N.S.enter (Sum.inr (Sum.inl (key,l))) else N.S},(N.J.append M (zg (Sum.inr (Sum.inl (key,l)))) f).2.2.2):=rfl
  have HW:=Z hw
  generalize hrec:zg (Sum.inr (Sum.inl (key,l)))=rec at HLOG HW
  have HRE:Hid (zh (Wh key l)=rec):=hrec
  have hrs:=HLOG.out.bytes
  have hm:=NV
  generalize hxx:(Sum.inr (Sum.inl (key,l)):Fact)=x at HX HW hfb hw
  clear hrec hw hx hxo hxx
  go_enter Tryz.func129,Tryz.ntmps129
  go_wp2_with fail
  go_region_held3 (fun w'=>w'.cell? ⟨L.nb,1,none⟩=some (.pointer (some ⟨L.jb,0,none⟩))) (first|assumption|go_keep|exact HK.out _ (by repeat' first|(with_reducible first|apply G|assumption|apply O|apply U|apply V|apply z6)|(intro _;rfl)))
   (first
   | (go_at_call 164;refine(Yp B L.jb L.db N.J L.LD M rec HLOG.out.bytes HLOG.out.size HLOG.out.last _ (Blk.fr (S:=Nil) H.out.log (hf02.trans (by repeat' first|(with_reducible first|apply G|assumption|apply O|apply U|apply V|apply z6)|(intro _;rfl))) id) (H.out.disk.nil (hf02.trans (by repeat' first|(with_reducible first|apply G|assumption|apply O|apply U|apply V|apply z6)|(intro _;rfl)))) (HE.out.tab.fr (S:=Nil) HE.out.le (hf02.trans (by repeat' first|(with_reducible first|apply G|assumption|apply O|apply U|apply V|apply z6)|(intro _;rfl))) (fun _ h=>absurd h id)) (Nat.le_trans HE.out.le (Fr.size (S:=Nil) (hf02.trans (by repeat' first|(with_reducible first|apply G|assumption|apply O|apply U|apply V|apply z6)|(intro _;rfl))))) HE.out.foot HLOG.out.chs HLOG.out.dir (fun f hf=>HLOG.out.room f (Nat.le_trans (Fr.size (S:=Nil) (hf02.trans (by repeat' first|(with_reducible first|apply G|assumption|apply O|apply U|apply V|apply z6)|(intro _;rfl)))) hf))).mono ?_;rintro e w3 ⟨f,v3,LD3,rfl,hf3,hE3,hJ3⟩;have HF3:Hid (w.heap.size≤f):=Nat.le_trans (Fr.size (S:=Nil) (hf02.trans (by repeat' first|(with_reducible first|apply G|assumption|apply O|apply U|apply V|apply z6)|(intro _;rfl)))) hf3;have HS3w:Hid (NStep L M w _ _ _ w3):=(NStep.nil H.out (hf02.trans (by repeat' first|(with_reducible first|apply G|assumption|apply O|apply U|apply V|apply z6)|(intro _;rfl)))).trans (NStep.of_log (H.out.nil (hf02.trans (by repeat' first|(with_reducible first|apply G|assumption|apply O|apply U|apply V|apply z6)|(intro _;rfl)))) hJ3);have HS3:Hid (NStep L0 M0 w0 _ _ _ w3):=(HS0.out.andNil (hf02.trans (by repeat' first|(with_reducible first|apply G|assumption|apply O|apply U|apply V|apply z6)|(intro _;rfl)))).trans (NStep.of_log (H.out.nil (hf02.trans (by repeat' first|(with_reducible first|apply G|assumption|apply O|apply U|apply V|apply z6)|(intro _;rfl)))) hJ3);have hz3:w3.cell? ⟨L.nb,1,none⟩=some (.pointer (some ⟨L.jb,0,none⟩)):=HS3.out.rep.blk.cell 1;have HE3:=Z hE3;clear hE3 hJ3 hf3)
   | (go_at_call 286;refine(HR.out _ (by repeat' first|(with_reducible first|apply G|assumption|apply O|apply U|apply V|apply z6)|(intro _;rfl))).mono ?_;rintro e w2 ⟨rfl,hf2⟩;have hf02:Fr Nil w w2:=Fr.trans (by repeat' first|(with_reducible first|apply G|assumption|apply O|apply U|apply V|apply z6)|(intro _;rfl)) hf2;have hz2:=HK.out w2 hf02;rw[HRE.out]))
  have hc2:w3.cell? ⟨L.nb,2,none⟩=some (.pointer (some ⟨L.sb,0,none⟩)):=HS3.out.rep.blk.cell 2
  cases hb:(N.J.append M rec f).1 with
  | true =>
   have HB:=Z hb
   have HT:=Z (YL x _ L.sb L.LS N.S w3 HS3.out.rep.held (HX.out.step H.out HS3w.out) hk hh)
   clear hb
   go_wp2_with fail
   refine HT.out.mono ?_
   rintro e w4 ⟨rfl,hT⟩
   obtain⟨LS4,hS4⟩:=HS3.out.held hT hfb
   have hE4:=HE3.out.fr (w':=w4) (by obtain⟨_,_,q,_⟩:=hT;exact q) (fun k hk hf=>by
    rcases HS3.out.rep.held.foot_ty hf with e|e|e <;> rcases hk with hk|hk <;> exact absurd (hk.inj e) (by decide))
   have HS4:=Z hS4
   have HE4:=Z hE4
   clear hT hS4 hE4 HT
   go_wp2_with fail
   refine(zF _ _ _ w4 HE4.out).mono ?_
   rintro e w5 ⟨v5,rfl,hE5,hf5⟩
   have HE5:=Z hE5
   have HF:=Z (HS4.out.andNil hf5)
   clear hE5 hf5
   go_wp2
   go_ret
   refine⟨f,v5,{L with LD:=LD3,LS:=LS4},rfl,HF3.out,?_,?_⟩
   ·rw[HW.out];exact HE5.out
   ·rw[HW.out];simp only[HB.out,if_true];exact HF.out
  | false =>
   have HB:=Z hb
   clear hb
   go_wp2_with fail
   refine(zF _ _ _ w3 HE3.out).mono ?_
   rintro e w5 ⟨v5,rfl,hE5,hf5⟩
   have HE5:=Z hE5
   have HF:=Z (HS3.out.andNil hf5)
   clear hE5 hf5
   go_wp2
   go_ret
   refine⟨f,v5,{L with LD:=LD3},rfl,HF3.out,?_,?_⟩
   ·rw[HW.out];exact HE5.out
   ·rw[HW.out];simp only[HB.out,Bool.false_eq_true,if_false];exact HF.out
 ·have hfv:fv=.iface 138 (.agg #[.int .i64 to,.string text]):=hx
  subst hfv
  have HR:=Z (fun wx=>S9 to text hxo.1 hxo.2 wx)
  have hw:N.write M (Sum.inr (Sum.inr (Sum.inl (to,text))))=fun f=>((N.J.append M (zg (Sum.inr (Sum.inr (Sum.inl (to,text))))) f).2.1,{N with J:=(N.J.append M (zg (Sum.inr (Sum.inr (Sum.inl (to,text))))) f).2.2.1,S:=if (N.J.append M (zg (Sum.inr (Sum.inr (Sum.inl (to,text))))) f).1=true then N.S.enter (Sum.inr (Sum.inr (Sum.inl (to,text)))) else N.S},(N.J.append M (zg (Sum.inr (Sum.inr (Sum.inl (to,text))))) f).2.2.2):=rfl
  have HW:=Z hw
  generalize hrec:zg (Sum.inr (Sum.inr (Sum.inl (to,text))))=rec at HLOG HW
  have HRE:Hid (zh (Xz to text)=rec):=hrec
  have hrs:=HLOG.out.bytes
  have hm:=OH
  generalize hxx:(Sum.inr (Sum.inr (Sum.inl (to,text))):Fact)=x at HX HW hfb hw
  clear hrec hw hx hxo hxx
  go_enter Tryz.func129,Tryz.ntmps129
  go_wp2_with fail
  go_region_held3 (fun w'=>w'.cell? ⟨L.nb,1,none⟩=some (.pointer (some ⟨L.jb,0,none⟩))) (first|assumption|go_keep|exact HK.out _ (by repeat' first|(with_reducible first|apply G|assumption|apply O|apply U|apply V|apply z6)|(intro _;rfl)))
   (first
   | (go_at_call 164;refine(Yp B L.jb L.db N.J L.LD M rec HLOG.out.bytes HLOG.out.size HLOG.out.last _ (Blk.fr (S:=Nil) H.out.log (hf02.trans (by repeat' first|(with_reducible first|apply G|assumption|apply O|apply U|apply V|apply z6)|(intro _;rfl))) id) (H.out.disk.nil (hf02.trans (by repeat' first|(with_reducible first|apply G|assumption|apply O|apply U|apply V|apply z6)|(intro _;rfl)))) (HE.out.tab.fr (S:=Nil) HE.out.le (hf02.trans (by repeat' first|(with_reducible first|apply G|assumption|apply O|apply U|apply V|apply z6)|(intro _;rfl))) (fun _ h=>absurd h id)) (Nat.le_trans HE.out.le (Fr.size (S:=Nil) (hf02.trans (by repeat' first|(with_reducible first|apply G|assumption|apply O|apply U|apply V|apply z6)|(intro _;rfl))))) HE.out.foot HLOG.out.chs HLOG.out.dir (fun f hf=>HLOG.out.room f (Nat.le_trans (Fr.size (S:=Nil) (hf02.trans (by repeat' first|(with_reducible first|apply G|assumption|apply O|apply U|apply V|apply z6)|(intro _;rfl)))) hf))).mono ?_;rintro e w3 ⟨f,v3,LD3,rfl,hf3,hE3,hJ3⟩;have HF3:Hid (w.heap.size≤f):=Nat.le_trans (Fr.size (S:=Nil) (hf02.trans (by repeat' first|(with_reducible first|apply G|assumption|apply O|apply U|apply V|apply z6)|(intro _;rfl)))) hf3;have HS3w:Hid (NStep L M w _ _ _ w3):=(NStep.nil H.out (hf02.trans (by repeat' first|(with_reducible first|apply G|assumption|apply O|apply U|apply V|apply z6)|(intro _;rfl)))).trans (NStep.of_log (H.out.nil (hf02.trans (by repeat' first|(with_reducible first|apply G|assumption|apply O|apply U|apply V|apply z6)|(intro _;rfl)))) hJ3);have HS3:Hid (NStep L0 M0 w0 _ _ _ w3):=(HS0.out.andNil (hf02.trans (by repeat' first|(with_reducible first|apply G|assumption|apply O|apply U|apply V|apply z6)|(intro _;rfl)))).trans (NStep.of_log (H.out.nil (hf02.trans (by repeat' first|(with_reducible first|apply G|assumption|apply O|apply U|apply V|apply z6)|(intro _;rfl)))) hJ3);have hz3:w3.cell? ⟨L.nb,1,none⟩=some (.pointer (some ⟨L.jb,0,none⟩)):=HS3.out.rep.blk.cell 1;have HE3:=Z hE3;clear hE3 hJ3 hf3)
   | (go_at_call 282;refine(HR.out _).mono ?_;rintro e w2 ⟨rfl,hf2⟩;have hf02:Fr Nil w w2:=Fr.trans (by repeat' first|(with_reducible first|apply G|assumption|apply O|apply U|apply V|apply z6)|(intro _;rfl)) hf2;have hz2:=HK.out w2 hf02;rw[HRE.out]))
  have hc2:w3.cell? ⟨L.nb,2,none⟩=some (.pointer (some ⟨L.sb,0,none⟩)):=HS3.out.rep.blk.cell 2
  cases hb:(N.J.append M rec f).1 with
  | true =>
   have HB:=Z hb
   have HT:=Z (YL x _ L.sb L.LS N.S w3 HS3.out.rep.held (HX.out.step H.out HS3w.out) hk hh)
   clear hb
   go_wp2_with fail
   refine HT.out.mono ?_
   rintro e w4 ⟨rfl,hT⟩
   obtain⟨LS4,hS4⟩:=HS3.out.held hT hfb
   have hE4:=HE3.out.fr (w':=w4) (by obtain⟨_,_,q,_⟩:=hT;exact q) (fun k hk hf=>by
    rcases HS3.out.rep.held.foot_ty hf with e|e|e <;> rcases hk with hk|hk <;> exact absurd (hk.inj e) (by decide))
   have HS4:=Z hS4
   have HE4:=Z hE4
   clear hT hS4 hE4 HT
   go_wp2_with fail
   refine(zF _ _ _ w4 HE4.out).mono ?_
   rintro e w5 ⟨v5,rfl,hE5,hf5⟩
   have HE5:=Z hE5
   have HF:=Z (HS4.out.andNil hf5)
   clear hE5 hf5
   go_wp2
   go_ret
   refine⟨f,v5,{L with LD:=LD3,LS:=LS4},rfl,HF3.out,?_,?_⟩
   ·rw[HW.out];exact HE5.out
   ·rw[HW.out];simp only[HB.out,if_true];exact HF.out
  | false =>
   have HB:=Z hb
   clear hb
   go_wp2_with fail
   refine(zF _ _ _ w3 HE3.out).mono ?_
   rintro e w5 ⟨v5,rfl,hE5,hf5⟩
   have HE5:=Z hE5
   have HF:=Z (HS3.out.andNil hf5)
   clear hE5 hf5
   go_wp2
   go_ret
   refine⟨f,v5,{L with LD:=LD3},rfl,HF3.out,?_,?_⟩
   ·rw[HW.out];exact HE5.out
   ·rw[HW.out];simp only[HB.out,Bool.false_eq_true,if_false];exact HF.out
 ·have hfv:fv=.iface 135 (.agg #[]):=hx
  subst hfv
  have HR:=Z (fun wx=>SX wx)
  have hw:N.write M (Sum.inr (Sum.inr (Sum.inr u)))=fun f=>((N.J.append M (zg (Sum.inr (Sum.inr (Sum.inr u)))) f).2.1,{N with J:=(N.J.append M (zg (Sum.inr (Sum.inr (Sum.inr u)))) f).2.2.1,S:=if (N.J.append M (zg (Sum.inr (Sum.inr (Sum.inr u)))) f).1=true then N.S.enter (Sum.inr (Sum.inr (Sum.inr u))) else N.S},(N.J.append M (zg (Sum.inr (Sum.inr (Sum.inr u)))) f).2.2.2):=rfl
  have HW:=Z hw
  generalize hrec:zg (Sum.inr (Sum.inr (Sum.inr u)))=rec at HLOG HW
  have HRE:Hid (zh Wi=rec):=hrec
  have hrs:=HLOG.out.bytes
  have hm:=NW
  generalize hxx:(Sum.inr (Sum.inr (Sum.inr u)):Fact)=x at HX HW hfb hw
  clear hrec hw hx hxo hxx
  go_enter Tryz.func129,Tryz.ntmps129
  go_wp2_with fail
  go_region_held3 (fun w'=>w'.cell? ⟨L.nb,1,none⟩=some (.pointer (some ⟨L.jb,0,none⟩))) (first|assumption|go_keep|exact HK.out _ (by repeat' first|(with_reducible first|apply G|assumption|apply O|apply U|apply V|apply z6)|(intro _;rfl)))
   (first
   | (go_at_call 164;refine(Yp B L.jb L.db N.J L.LD M rec HLOG.out.bytes HLOG.out.size HLOG.out.last _ (Blk.fr (S:=Nil) H.out.log (hf02.trans (by repeat' first|(with_reducible first|apply G|assumption|apply O|apply U|apply V|apply z6)|(intro _;rfl))) id) (H.out.disk.nil (hf02.trans (by repeat' first|(with_reducible first|apply G|assumption|apply O|apply U|apply V|apply z6)|(intro _;rfl)))) (HE.out.tab.fr (S:=Nil) HE.out.le (hf02.trans (by repeat' first|(with_reducible first|apply G|assumption|apply O|apply U|apply V|apply z6)|(intro _;rfl))) (fun _ h=>absurd h id)) (Nat.le_trans HE.out.le (Fr.size (S:=Nil) (hf02.trans (by repeat' first|(with_reducible first|apply G|assumption|apply O|apply U|apply V|apply z6)|(intro _;rfl))))) HE.out.foot HLOG.out.chs HLOG.out.dir (fun f hf=>HLOG.out.room f (Nat.le_trans (Fr.size (S:=Nil) (hf02.trans (by repeat' first|(with_reducible first|apply G|assumption|apply O|apply U|apply V|apply z6)|(intro _;rfl)))) hf))).mono ?_;rintro e w3 ⟨f,v3,LD3,rfl,hf3,hE3,hJ3⟩;have HF3:Hid (w.heap.size≤f):=Nat.le_trans (Fr.size (S:=Nil) (hf02.trans (by repeat' first|(with_reducible first|apply G|assumption|apply O|apply U|apply V|apply z6)|(intro _;rfl)))) hf3;have HS3w:Hid (NStep L M w _ _ _ w3):=(NStep.nil H.out (hf02.trans (by repeat' first|(with_reducible first|apply G|assumption|apply O|apply U|apply V|apply z6)|(intro _;rfl)))).trans (NStep.of_log (H.out.nil (hf02.trans (by repeat' first|(with_reducible first|apply G|assumption|apply O|apply U|apply V|apply z6)|(intro _;rfl)))) hJ3);have HS3:Hid (NStep L0 M0 w0 _ _ _ w3):=(HS0.out.andNil (hf02.trans (by repeat' first|(with_reducible first|apply G|assumption|apply O|apply U|apply V|apply z6)|(intro _;rfl)))).trans (NStep.of_log (H.out.nil (hf02.trans (by repeat' first|(with_reducible first|apply G|assumption|apply O|apply U|apply V|apply z6)|(intro _;rfl)))) hJ3);have hz3:w3.cell? ⟨L.nb,1,none⟩=some (.pointer (some ⟨L.jb,0,none⟩)):=HS3.out.rep.blk.cell 1;have HE3:=Z hE3;clear hE3 hJ3 hf3)
   | (go_at_call 274;refine(HR.out _).mono ?_;rintro e w2 ⟨rfl,hf2⟩;have hf02:Fr Nil w w2:=Fr.trans (by repeat' first|(with_reducible first|apply G|assumption|apply O|apply U|apply V|apply z6)|(intro _;rfl)) hf2;have hz2:=HK.out w2 hf02;rw[HRE.out]))
  have hc2:w3.cell? ⟨L.nb,2,none⟩=some (.pointer (some ⟨L.sb,0,none⟩)):=HS3.out.rep.blk.cell 2
  cases hb:(N.J.append M rec f).1 with
  | true =>
   have HB:=Z hb
   have HT:=Z (YL x _ L.sb L.LS N.S w3 HS3.out.rep.held (HX.out.step H.out HS3w.out) hk hh)
   clear hb
   go_wp2_with fail
   refine HT.out.mono ?_
   rintro e w4 ⟨rfl,hT⟩
   obtain⟨LS4,hS4⟩:=HS3.out.held hT hfb
   have hE4:=HE3.out.fr (w':=w4) (by obtain⟨_,_,q,_⟩:=hT;exact q) (fun k hk hf=>by
    rcases HS3.out.rep.held.foot_ty hf with e|e|e <;> rcases hk with hk|hk <;> exact absurd (hk.inj e) (by decide))
   have HS4:=Z hS4
   have HE4:=Z hE4
   clear hT hS4 hE4 HT
   go_wp2_with fail
   refine(zF _ _ _ w4 HE4.out).mono ?_
   rintro e w5 ⟨v5,rfl,hE5,hf5⟩
   have HE5:=Z hE5
   have HF:=Z (HS4.out.andNil hf5)
   clear hE5 hf5
   go_wp2
   go_ret
   refine⟨f,v5,{L with LD:=LD3,LS:=LS4},rfl,HF3.out,?_,?_⟩
   ·rw[HW.out];exact HE5.out
   ·rw[HW.out];simp only[HB.out,if_true];exact HF.out
  | false =>
   have HB:=Z hb
   clear hb
   go_wp2_with fail
   refine(zF _ _ _ w3 HE3.out).mono ?_
   rintro e w5 ⟨v5,rfl,hE5,hf5⟩
   have HE5:=Z hE5
   have HF:=Z (HS3.out.andNil hf5)
   clear hE5 hf5
   go_wp2
   go_ret
   refine⟨f,v5,{L with LD:=LD3},rfl,HF3.out,?_,?_⟩
   ·rw[HW.out];exact HE5.out
   ·rw[HW.out];simp only[HB.out,Bool.false_eq_true,if_false];exact HF.out
theorem Qp(B:Nat)(L:NL)(N:NM)(M:DM)(what:ByteArray)(x:Fact)(fv:Value)(w:World)(h:NRep w L N M)(he:Env B L M w)(hx:FRep w fv x)(hxo:FOk x)(hfb:∀ k,XF fv k→SRead L.LS k∨w.heap.size≤k)
  (hlog:Yi N.J M w.heap.size (zg x).size)(hk:N.S.keys.length<1099511627776)(hh:N.S.hints.length<1000000) :
  Calls Tryz.prog 129 #[.pointer (some ⟨L.nb,0,none⟩),.string what,fv] w fun e w' =>
   ∃ f v L',e=.returned v∧w.heap.size≤f∧ERep w' v (N.write M x f).1∧NStep L M w L' (N.write M x f).2.1 (N.write M x f).2.2 w' :=
 Up B L M w L N M what x fv w (NStep.nil h (G _ _)) he hx hxo hfb hlog hk hh
def NM.sync(N:NM)(M:DM):Option Int × NM × DM:=((N.J.syncAll M).1,{N with J:=(N.J.syncAll M).2.1},(N.J.syncAll M).2.2)
def NM.counted(N:NM)(M:DM):Option Int × NM × DM :=
 if N.every=0∨N.writes+1<N.every then(none,{N with writes:=N.writes+1},M) else NM.sync {N with writes:=0} M
def NM.change(N:NM)(M:DM)(x:Fact)(f:Nat):Option Int × NM × DM :=
 match (N.write M x f).1 with
 | some n=>(some n,(N.write M x f).2.1,(N.write M x f).2.2)
 | none=>(N.write M x f).2.1.counted (N.write M x f).2.2
theorem Wb(B:Nat)(L0:NL)(M0:DM)(w0:World)(L:NL)(N:NM)(M:DM)(what:ByteArray)(x:Fact)(fv:Value)(w:World)(h0:NStep L0 M0 w0 L N M w)(he:Env B L M w)(hx:FRep w fv x)(hxo:FOk x)(hfb:∀ k,XF fv k→SRead L0.LS k∨w0.heap.size≤k)
  (hlog:Yi N.J M w.heap.size (zg x).size)(hk:N.S.keys.length<1099511627776)(hh:N.S.hints.length<1000000)(hw:N.writes<1000000000000) :
  Calls Tryz.prog 80 #[.pointer (some ⟨L.nb,0,none⟩),.string what,fv] w fun e w' =>
   ∃ f v L',e=.returned v∧w.heap.size≤f∧ERep w' v (N.change M x f).1∧NStep L0 M0 w0 L' (N.change M x f).2.1 (N.change M x f).2.2 w':=by
 have HNB0:=Z h0.same.nb
 have HW:=Z (Up B L0 M0 w0 L N M what x fv w h0 he hx hxo hfb hlog hk hh)
 clear h0 he hx hxo hfb hlog hk hh
 go_enter Tryz.func80,Tryz.ntmps80
 go_wp2_with fail
 refine HW.out.mono ?_
 rintro e w1 ⟨f,v1,L1,rfl,hf,hE,hst⟩
 have hp1:∀ n,(N.write M x f).1=some n→N.change M x f=(some n,(N.write M x f).2.1,(N.write M x f).2.2):=by intro n h;unfold NM.change;rw[h]
 have hp0:(N.write M x f).1=none→N.change M x f=(N.write M x f).2.1.counted (N.write M x f).2.2:=by intro h;unfold NM.change;rw[h]
 have hwr:(N.write M x f).2.1.writes<1000000000000:=hw
 generalize hN1:(N.write M x f).2.1=N1 at hst hp1 hp0 hwr
 generalize hM1:(N.write M x f).2.2=M1 at hst hp1 hp0
 have HS:=Z hst
 have HF:=Z hf
 have hnb:L1.nb=L.nb:=hst.same.nb.trans HNB0.out.symm
 cases he:(N.write M x f).1 with
 | some n =>
  rw[he] at hE
  have HP:=Z (hp1 n he)
  have HE:=Z hE
  obtain⟨k,hk⟩:=hE
  obtain⟨t,b,rfl⟩:=hk.form
  clear he hp1 hp0 hk hst hN1 hM1 hf hnb
  go_wp2
  go_ret
  refine⟨f,.iface t (.pointer (some ⟨b,0,none⟩)),L1,rfl,HF.out,?_,?_⟩
  ·rw[HP.out];exact HE.out
  ·rw[HP.out];exact HS.out
 | none =>
  rw[he] at hE
  have HP:=Z (hp0 he)
  have hv:v1=.nilIface:=hE
  subst hv
  have hc:=hst.rep.blk.cell
  have hz:=hst.rep.blk.frozen
  simp only[NM.cells] at hc
  rw[hnb] at hc hz
  have hw1:IntKind.i64.wrap ((N1.writes:Int)+1)=(N1.writes:Int)+1:=by rw[IntKind.wrap_i64];omega
  have hset:=NStep.set HS.out.rep (N':={N1 with writes:=N1.writes+1}) 5 (.int .i64 ((N1.writes:Int)+1)) (by simp[NM.cells]) rfl rfl
  rw[hnb] at hset
  have HSET:=Z hset
  have hc1:=hset.rep.blk.cell
  simp only[NM.cells] at hc1
  rw[hnb] at hc1
  have HNB:=Z hnb
  clear he hp1 hp0 hE hst hN1 hM1 hf hset
  by_cases hg:N1.every=0∨N1.writes+1<N1.every
  ·have hp:N1.counted M1=(none,{N1 with writes:=N1.writes+1},M1):=by unfold NM.counted;rw[if_pos hg]
   have HP2:=Z hp
   clear hp
   have hend:∀ w2:World,Fr Nil (w1.setCell ⟨L.nb,5,none⟩ (.int .i64 ((N1.writes:Int)+1))) w2→NStep L0 M0 w0 L1 {N1 with writes:=N1.writes+1} M1 w2:=fun w2 f=>(HS.out.trans HSET.out).andNil f
   have HEND:=Z hend
   clear hend
   by_cases h0:N1.every=0
   ·have g1:((N1.every:Int)==0)=true:=by simp;omega
    clear hg h0 hnb
    go_wp2_with fail
    go_quiet (fail)
    go_wp2
    go_ret
    refine⟨f,_,L1,rfl,HF.out,?_,?_⟩
    ·rw[HP.out,HP2.out];rfl
    ·rw[HP.out,HP2.out];exact HEND.out _ (by exact(by repeat' first|(with_reducible first|apply G|assumption|apply O|apply U|apply V|apply z6)|(intro _;rfl)))
   ·have g1:((N1.every:Int)==0)=false:=by simp;omega
    have g2:N1.writes+1<N1.every:=hg.resolve_left h0
    have g3:decide ((N1.writes:Int)+1<N1.every)=true:=by simp;omega
    have g4:decide (N1.writes+1<N1.every)=true:=by simp;omega
    clear hg h0 hnb
    go_wp2_with fail
    go_quiet (fail)
    go_wp2
    go_ret
    refine⟨f,_,L1,rfl,HF.out,?_,?_⟩
    ·rw[HP.out,HP2.out];rfl
    ·rw[HP.out,HP2.out];exact HEND.out _ (by exact(by repeat' first|(with_reducible first|apply G|assumption|apply O|apply U|apply V|apply z6)|(intro _;rfl)))
  ·have hp:N1.counted M1=NM.sync {N1 with writes:=0} M1:=by unfold NM.counted;rw[if_neg hg]
   have HP2:=Z hp
   have g1:((N1.every:Int)==0)=false:=by simp;omega
   have g2:¬N1.writes+1<N1.every:=fun h=>hg (.inr h)
   have g3:decide ((N1.writes:Int)+1<N1.every)=false:=by simp;omega
   have g4:decide (N1.writes+1<N1.every)=false:=by simp;omega
   have hend:∀ w2:World,Fr Nil (w1.setCell ⟨L.nb,5,none⟩ (.int .i64 ((N1.writes:Int)+1))) w2→NStep L0 M0 w0 L1 {N1 with writes:=0} M1 (w2.setCell ⟨L.nb,5,none⟩ (.int .i64 0)):=by
    intro w2 f
    have h1:=(HS.out.trans HSET.out).andNil f
    have h2:=NStep.set h1.rep (N':={N1 with writes:=0}) 5 (.int .i64 0) (by simp[NM.cells]) rfl rfl
    rw[hnb] at h2
    exact h1.trans h2
   have HEND:=Z hend
   have hc:(NM.sync {N1 with writes:=0} M1)=((N1.J.syncAll M1).1,{N1 with writes:=0,J:=(N1.J.syncAll M1).2.1},(N1.J.syncAll M1).2.2):=rfl
   have HC:=Z hc
   clear hg hnb hp hend hc
   go_wp2_with fail
   go_quiet (fail)
   go_wp2_with fail
   generalize hq:World.drewN (w1.setCell ⟨L.nb,5,none⟩ (.int .i64 ((N1.writes:Int)+1))) _=w2
   have hE:=HEND.out w2 (by rw[← hq];exact(by repeat' first|(with_reducible first|apply G|assumption|apply O|apply U|apply V|apply z6)|(intro _;rfl)))
   clear hq
   have HE:=Z hE
   refine(W9 L1.jb L1.db N1.J L1.LD M1 _ hE.rep.log hE.rep.disk).mono ?_
   rintro e w3 ⟨v3,LD3,rfl,hE3,hJ3⟩
   have HS3:=Z (HE.out.trans (NStep.of_log HE.out.rep hJ3))
   have HE3:=Z hE3
   clear hE hJ3 hE3
   go_wp2_with fail
   refine(zF _ _ _ w3 HE3.out).mono ?_
   rintro e w4 ⟨v4,rfl,hE4,hf4⟩
   have HE4:=Z hE4
   have HF4:=Z (HS3.out.andNil hf4)
   clear hE4 hf4
   go_wp2
   go_ret
   refine⟨f,v4,{L1 with LD:=LD3},rfl,HF.out,?_,?_⟩
   ·rw[HP.out,HP2.out,HC.out];exact HE4.out
   ·rw[HP.out,HP2.out,HC.out];exact HF4.out
theorem Vc(B:Nat)(L:NL)(N:NM)(M:DM)(what:ByteArray)(x:Fact)(fv:Value)(w:World)(h:NRep w L N M)(he:Env B L M w)(hx:FRep w fv x)(hxo:FOk x)(hfb:∀ k,XF fv k→SRead L.LS k∨w.heap.size≤k)
  (hlog:Yi N.J M w.heap.size (zg x).size)(hk:N.S.keys.length<1099511627776)(hh:N.S.hints.length<1000000)(hw:N.writes<1000000000000) :
  Calls Tryz.prog 80 #[.pointer (some ⟨L.nb,0,none⟩),.string what,fv] w fun e w' =>
   ∃ f v L',e=.returned v∧w.heap.size≤f∧ERep w' v (N.change M x f).1∧NStep L M w L' (N.change M x f).2.1 (N.change M x f).2.2 w' :=
 Wb B L M w L N M what x fv w (NStep.nil h (G _ _)) he hx hxo hfb hlog hk hh hw
def NM.lease(N:NM)(M:DM)(f:Nat):Option Int × NM × DM :=
 match (N.write M (.inl (N.given+16)) f).1 with
 | some n=>(some n,(N.write M (.inl (N.given+16)) f).2.1,(N.write M (.inl (N.given+16)) f).2.2)
 | none=>NM.sync (N.write M (.inl (N.given+16)) f).2.1 (N.write M (.inl (N.given+16)) f).2.2
theorem Qq(B:Nat)(L:NL)(N:NM)(M:DM)(w:World)(h:NRep w L N M)(he:Env B L M w)
  (hlog:Yi N.J M w.heap.size (zg (.inl (N.given+16))).size)(hk:N.S.keys.length<1099511627776)(hh:N.S.hints.length<1000000)(hg:N.given<1000000000000) :
  Calls Tryz.prog 162 #[.pointer (some ⟨L.nb,0,none⟩)] w fun e w' =>
   ∃ f v L',e=.returned v∧w.heap.size≤f∧ERep w' v (N.lease M f).1∧NStep L M w L' (N.lease M f).2.1 (N.lease M f).2.2 w':=by
 have HW:Hid (∀ what,Calls Tryz.prog 129 #[.pointer (some ⟨L.nb,0,none⟩),.string what,.iface 220 (.agg #[.int .i64 ((N.given:Int)+16)])] w fun e w' =>
   ∃ f v L',e=.returned v∧w.heap.size≤f∧ERep w' v (N.write M (.inl (N.given+16)) f).1∧NStep L M w L' (N.write M (.inl (N.given+16)) f).2.1 (N.write M (.inl (N.given+16)) f).2.2 w'):=fun what =>
  Qp B L N M what (.inl (N.given+16)) _ w h he (show _=_ by simp) (show N.given+16<9223372036854775808 by omega) (fun k hb=>by obtain⟨v,hv,e⟩:=hb;simp at hv;subst hv;exact absurd e (by simp[Value.ownBlock])) hlog hk hh
 have hwr:IntKind.i64.wrap ((N.given:Int)+16)=(N.given:Int)+16:=by rw[IntKind.wrap_i64];omega
 have hc3:w.cell? ⟨L.nb,3,none⟩=some (.int .i64 N.given):=h.blk.cell 3
 clear h he hlog hk hh hg
 go_enter Tryz.func162,Tryz.ntmps162
 go_wp2_with fail
 refine(HW.out _).mono ?_
 rintro e w1 ⟨f,v1,L1,rfl,hf,hE,hst⟩
 have hp1:∀ n,(N.write M (.inl (N.given+16)) f).1=some n→N.lease M f=(some n,(N.write M (.inl (N.given+16)) f).2.1,(N.write M (.inl (N.given+16)) f).2.2):=by intro n h;unfold NM.lease;rw[h]
 have hp0:(N.write M (.inl (N.given+16)) f).1=none→N.lease M f=NM.sync (N.write M (.inl (N.given+16)) f).2.1 (N.write M (.inl (N.given+16)) f).2.2:=by intro h;unfold NM.lease;rw[h]
 generalize hN1:(N.write M (.inl (N.given+16)) f).2.1=N1 at hst hp1 hp0
 generalize hM1:(N.write M (.inl (N.given+16)) f).2.2=M1 at hst hp1 hp0
 have HS:=Z hst
 have HF:=Z hf
 have hnb:=hst.same.nb
 cases he:(N.write M (.inl (N.given+16)) f).1 with
 | some n =>
  rw[he] at hE
  have HP:=Z (hp1 n he)
  have HE:=Z hE
  obtain⟨k,hk⟩:=hE
  obtain⟨t,b,rfl⟩:=hk.form
  clear he hp1 hp0 hk hst hN1 hM1 hf hnb
  go_wp2
  go_ret
  refine⟨f,.iface t (.pointer (some ⟨b,0,none⟩)),L1,rfl,HF.out,?_,?_⟩
  ·rw[HP.out];exact HE.out
  ·rw[HP.out];exact HS.out
 | none =>
  rw[he] at hE
  have HP:=Z (hp0 he)
  have hv:v1=.nilIface:=hE
  subst hv
  have hc:w1.cell? ⟨L.nb,1,none⟩=some (.pointer (some ⟨L1.jb,0,none⟩)):=by rw[← hnb];exact hst.rep.blk.cell 1
  have hcc:(NM.sync N1 M1)=((N1.J.syncAll M1).1,{N1 with J:=(N1.J.syncAll M1).2.1},(N1.J.syncAll M1).2.2):=rfl
  have HC:=Z hcc
  clear he hp1 hp0 hE hst hN1 hM1 hf hcc hnb
  go_wp2_with fail
  refine(W9 L1.jb L1.db N1.J L1.LD M1 _ HS.out.rep.log HS.out.rep.disk).mono ?_
  rintro e w3 ⟨v3,LD3,rfl,hE3,hJ3⟩
  have HS3:=Z (HS.out.trans (NStep.of_log HS.out.rep hJ3))
  have HE3:=Z hE3
  clear hJ3 hE3
  go_wp2_with fail
  refine(zF _ _ _ w3 HE3.out).mono ?_
  rintro e w4 ⟨v4,rfl,hE4,hf4⟩
  have HE4:=Z hE4
  have HF4:=Z (HS3.out.andNil hf4)
  clear hE4 hf4
  go_wp2
  go_ret
  refine⟨f,v4,{L1 with LD:=LD3},rfl,HF.out,?_,?_⟩
  ·rw[HP.out,HC.out];exact HE4.out
  ·rw[HP.out,HC.out];exact HF4.out
def NM.next(N:NM)(M:DM)(f:Nat):Option Int × Nat × NM × DM :=
 if N.given<N.S.leased then(none,N.given+1,{N with given:=N.given+1},M) else
 match (N.lease M f).1 with
 | some n=>(some n,0,(N.lease M f).2.1,(N.lease M f).2.2)
 | none=>(none,N.given+1,{(N.lease M f).2.1 with given:=N.given+1},(N.lease M f).2.2)
theorem Qr(N:NM)(M:DM)(f:Nat):(N.lease M f).2.1.given=N.given:=by
 unfold NM.lease;split <;> rfl
theorem Env.nil{B:Nat}{L:NL}{M:DM}{w w':World}(h:Env B L M w)(f:Fr Nil w w'):Env B L M w' :=
 ⟨h.tab.fr (S:=Nil) h.le f (fun _ h=>absurd h id),Nat.le_trans h.le f.size,h.foot⟩
theorem Yi.mono{J:JM}{M:DM}{H H' n:Nat}(h:Yi J M H n)(hH:H≤H'):Yi J M H' n :=
 ⟨h.bytes,h.size,h.last,h.chs,h.dir,fun f hf=>h.room f (Nat.le_trans hH hf)⟩
theorem Pv(B:Nat)(L:NL)(N:NM)(M:DM)(w:World)(h:NRep w L N M)(he:Env B L M w)
  (hlog:Yi N.J M w.heap.size (zg (.inl (N.given+16))).size)(hk:N.S.keys.length<1099511627776)(hh:N.S.hints.length<1000000)(hg:N.given<1000000000000) :
  Calls Tryz.prog 123 #[.pointer (some ⟨L.nb,0,none⟩)] w fun e w' =>
   ∃ f v L',e=.returned (.tuple #[.int .i64 (N.next M f).2.1,v])∧w.heap.size≤f∧ERep w' v (N.next M f).1∧NStep L M w L' (N.next M f).2.2.1 (N.next M f).2.2.2 w':=by
 have HW:Hid (∀ w0,Fr Nil w w0→Calls Tryz.prog 162 #[.pointer (some ⟨L.nb,0,none⟩)] w0 fun e w' =>
   ∃ f v L',e=.returned v∧w0.heap.size≤f∧ERep w' v (N.lease M f).1∧NStep L M w0 L' (N.lease M f).2.1 (N.lease M f).2.2 w') :=
  fun w0 f=>Qq B L N M w0 (h.nil f) (he.nil f) (hlog.mono f.size) hk hh hg
 have hld:∀ n,Calls Tryz.prog 98 #[.pointer (some ⟨L.sb,0,none⟩)] (w.drewN n) fun e w'=>e=.returned (.int .i64 N.S.leased)∧w'=w.drewN n:=fun n=>Vb L.sb L.LS N.S (w.drewN n) (h.held.nil (by repeat' first|(with_reducible first|apply G|assumption|apply O|apply U|apply V|apply z6)|(intro _;rfl)))
 have HLD:=Z hld
 have HH:=Z h
 have hz:=h.blk.frozen
 have hc3:w.cell? ⟨L.nb,3,none⟩=some (.int .i64 N.given):=h.blk.cell 3
 have hc2:w.cell? ⟨L.nb,2,none⟩=some (.pointer (some ⟨L.sb,0,none⟩)):=h.blk.cell 2
 have hwr:IntKind.i64.wrap ((N.given:Int)+1)=(N.given:Int)+1:=by rw[IntKind.wrap_i64];omega
 have hend:∀ (N1:NM) (M1:DM) (w1:World) (L1:NL),NStep L M w L1 N1 M1 w1→∀ w2,Fr Nil w1 w2→∀ g:Nat,NStep L M w L1 {N1 with given:=g} M1 (w2.setCell ⟨L1.nb,3,none⟩ (.int .i64 g)):=by
  intro N1 M1 w1 L1 hs w2 f g
  have h1:=hs.andNil f
  exact h1.trans (NStep.set h1.rep (N':={N1 with given:=g}) 3 (.int .i64 g) (by simp[NM.cells]) rfl rfl)
 have HEND:=Z hend
 clear h he hlog hk hh hg hld hend
 by_cases hl:N.given<N.S.leased
 ·have hp:∀ f,N.next M f=(none,N.given+1,{N with given:=N.given+1},M):=by intro f;unfold NM.next;rw[if_pos hl]
  have HP:=Z hp
  have g1:decide ((N.given:Int)≥N.S.leased)=false:=by simp;omega
  have g2:decide ((N.S.leased:Int)≤N.given)=false:=by simp;omega
  have g3:decide (N.S.leased≤N.given)=false:=by simp;omega
  have g4:¬N.S.leased≤N.given:=by omega
  clear hl hp
  go_enter Tryz.func123,Tryz.ntmps123
  go_wp2_with fail
  go_quiet ((go_at_call 98;exact Calls.quiet_of_same (HLD.out _)))
  go_wp2_with fail
  have hpost:=HEND.out N M (w.drewN nq) L (NStep.nil HH.out (by repeat' first|(with_reducible first|apply G|assumption|apply O|apply U|apply V|apply z6)|(intro _;rfl))) (w.drewN nq) (G _ _) (N.given+1)
  have hcast:((N.given+1:Nat):Int)=(N.given:Int)+1:=by simp
  rw[hcast] at hpost
  go_ret2
  refine⟨w.heap.size,.nilIface,L,by rw[HP.out,hcast];rfl,Nat.le_refl _,by rw[HP.out];rfl,?_⟩
  rw[HP.out]
  exact hpost
 ·have hp1:∀ f n,(N.lease M f).1=some n→N.next M f=(some n,0,(N.lease M f).2.1,(N.lease M f).2.2):=by intro f n h;unfold NM.next;rw[if_neg hl,h]
  have hp0:∀ f,(N.lease M f).1=none→N.next M f=(none,N.given+1,{(N.lease M f).2.1 with given:=N.given+1},(N.lease M f).2.2):=by intro f h;unfold NM.next;rw[if_neg hl,h]
  have g1:decide ((N.given:Int)≥N.S.leased)=true:=by simp;omega
  have g2:decide ((N.S.leased:Int)≤N.given)=true:=by simp;omega
  have g3:decide (N.S.leased≤N.given)=true:=by simp;omega
  have g4:N.S.leased≤N.given:=by omega
  clear hl
  go_enter Tryz.func123,Tryz.ntmps123
  go_wp2_with fail
  go_quiet ((go_at_call 98;exact Calls.quiet_of_same (HLD.out _)))
  go_wp2_with fail
  generalize hq:w.drewN nq=w0
  have hf0:Fr Nil w w0:=by rw[← hq];exact(by repeat' first|(with_reducible first|apply G|assumption|apply O|apply U|apply V|apply z6)|(intro _;rfl))
  have HF0:=Z hf0
  clear hq hf0
  refine(HW.out w0 HF0.out).mono ?_
  rintro e w1 ⟨f,v1,L1,rfl,hf,hE,hst⟩
  have HS:=Z ((NStep.nil HH.out HF0.out).trans hst)
  have HF:=Z (Nat.le_trans HF0.out.size hf)
  have HP1:=Z (hp1 f)
  have HP0:=Z (hp0 f)
  have hnb:=hst.same.nb
  have hgv:=Qr N M f
  generalize hN1:(N.lease M f).2.1=N1 at hst HP1 HP0 HS hgv
  generalize hM1:(N.lease M f).2.2=M1 at hst HP1 HP0 HS
  cases he:(N.lease M f).1 with
  | some n =>
   rw[he] at hE
   have HP:=Z (HP1.out n he)
   have HE:=Z hE
   obtain⟨k,hk⟩:=hE
   obtain⟨t,b,rfl⟩:=hk.form
   clear he hp1 hp0 hk hst hN1 hM1 hf hnb hgv
   go_wp2
   go_ret2
   refine⟨f,.iface t (.pointer (some ⟨b,0,none⟩)),L1,by rw[HP.out];rfl,HF.out,?_,?_⟩
   ·rw[HP.out];exact HE.out
   ·rw[HP.out];exact HS.out
  | none =>
   rw[he] at hE
   have HP:=Z (HP0.out he)
   have hv:v1=.nilIface:=hE
   subst hv
   have hc:=hst.rep.blk.cell 3
   have hz1:=hst.rep.blk.frozen
   rw[hnb] at hc hz1
   have hc3':w1.cell? ⟨L.nb,3,none⟩=some (.int .i64 N.given):=by rw[hc,← hgv];rfl
   have hpost:=HEND.out N1 M1 w1 L1 HS.out w1 (G _ _) (N.given+1)
   have hcast:((N.given+1:Nat):Int)=(N.given:Int)+1:=by simp
   rw[hcast,hnb] at hpost
   have HPOST:=Z hpost
   have HCAST:=Z hcast
   clear he hp1 hp0 hst hN1 hM1 hf hnb hgv hc hE hpost hc3 hcast
   go_wp2_with fail
   go_ret2
   refine⟨f,.nilIface,L1,by rw[HP.out,HCAST.out];rfl,HF.out,by rw[HP.out];rfl,?_⟩
   rw[HP.out]
   exact HPOST.out
def zm(k:ByteArray):Bool:=decide (0<k.size∧k.size≤32)
theorem Y4(k:ByteArray):k.size=k.toList.length:=by
 rw[ByteArray.toList_eq,Array.length_toList];rfl
theorem YY(k:ByteArray)(w:World):Calls Tryz.prog 69 #[.string k] w fun e w'=>e=.returned (.bool (zm k))∧w'=w:=by
 have hl:=Y4 k
 by_cases h0:k.toList=[]
 ·have hp:zm k=false:=by rw[h0] at hl;simp at hl;simp[zm,hl]
  have HP:=Z hp
  clear hl hp
  go_enter Tryz.func69,Tryz.ntmps69
  go_wp2
  go_ret
  exact⟨by rw[HP.out];rfl,rfl⟩
 ·have hs:0<k.size:=by rw[hl];exact List.length_pos_iff.mpr h0
  have h1:k.toList.isEmpty=false:=by simpa using h0
  have hp:zm k=(!k.toList.isEmpty&&decide ((k.size:Int)≤32)):=by rw[h1];simp only[zm,hs,true_and,Bool.not_false,Bool.true_and];congr 1;exact propext (by omega)
  have HP:=Z hp
  clear hl hs h1 hp
  go_enter Tryz.func69,Tryz.ntmps69
  go_wp2
  go_ret
  exact⟨by rw[HP.out];rfl,rfl⟩
def zt(n:Int):Bool:=decide (0≤n∧n<4)
theorem XG(n:Int)(w:World):Calls Tryz.prog 131 #[.int .i64 n] w fun e w'=>e=.returned (.bool (zt n))∧w'=w:=by
 go_enter Tryz.func131,Tryz.ntmps131
 by_cases h0:0≤n
 ·by_cases h1:n<4
  ·go_wp2
   go_ret
   exact⟨by simp[zt,h0,h1],rfl⟩
  ·go_wp2
   go_ret
   exact⟨by simp[zt,h0,h1],rfl⟩
 ·go_wp2
  go_ret
  exact⟨by rw[zt,decide_eq_false (by omega)];rfl,rfl⟩
theorem WS(L:NL)(N:NM)(M:DM)(n:Int)(w:World)(h:NRep w L N M):Calls Tryz.prog 83 #[.pointer (some ⟨L.nb,0,none⟩),.int .i64 n] w fun e w'=>e=.returned (.bool (zt n&&decide (n≠N.self)))∧w'=w:=by
 have hc:w.cell? ⟨L.nb,0,none⟩=some (.int .i64 N.self):=h.blk.cell 0
 clear h
 go_enter Tryz.func83,Tryz.ntmps83
 cases h0:zt n with
 | false =>
  have HH:=Z (XG n w)
  rw[h0] at HH
  clear h0
  go_wp2_with (refine HH.out.mono ?_;rintro e w1 ⟨rfl,rfl⟩)
  go_ret
  exact⟨rfl,rfl⟩
 | true =>
  have HH:=Z (XG n w)
  rw[h0] at HH
  clear h0
  by_cases h1:n=N.self
  ·subst h1
   go_wp2_with (refine HH.out.mono ?_;rintro e w1 ⟨rfl,rfl⟩)
   go_ret
   exact⟨by simp,rfl⟩
  ·have h2:(n==(N.self:Int))=false:=by simpa using h1
   go_wp2_with (refine HH.out.mono ?_;rintro e w1 ⟨rfl,rfl⟩)
   go_ret
   exact⟨by simp[h1],rfl⟩
theorem Sj(n:Value)(w:World):Calls Tryz.prog 82 #[n] w fun e w'=>e=.returned (.slice none 0 0)∧w'=w:=by
 go_enter Tryz.func82,Tryz.ntmps82
 go_wp2
 go_ret
 exact⟨rfl,rfl⟩
theorem UY(p:Value)(w:World):Calls Tryz.prog 79 #[p,.nilIface] w fun e w'=>e=.returned (.int .i64 0)∧w'=w:=by
 go_enter Tryz.func79,Tryz.ntmps79
 go_wp2
 go_ret
 exact⟨rfl,rfl⟩
theorem Zm(s:ByteArray)(w:World)(h:s.size≤1000000000) :
  Calls Tryz.prog 74 #[.string s] w fun e w'=>e=.returned (.string s)∧Fr Nil w w':=by
 have HH:Hid (Calls Tryz.prog 125 #[.string s] w fun e w'=>e=.returned (.string s)∧Below w.heap.size w w'):=AnyPu.stringslite_Clone Tryz.laysPu25 s w (by omega)
 clear h
 go_enter Tryz.func74,Tryz.ntmps74
 go_wp2_with (refine HH.out.mono ?_;rintro e w1 ⟨rfl,hb⟩)
 go_ret
 exact⟨rfl,hb.os,hb.tape,hb.output,hb.size,fun k hk _=>hb.block k hk⟩
structure ZT(B:Nat)(L:NL)(M:DM)(w:World):Prop where
 tab:YK B w
 le:B≤w.heap.size
 foot:∀ k,NFoot L M k→B≤k
theorem ZT.env{B:Nat}{L:NL}{M:DM}{w:World}(h:ZT B L M w):Env B L M w:=⟨h.tab,h.le,fun k hk=>h.foot k (.inr (.inr (.inr hk)))⟩
theorem ZT.step{B:Nat}{L L':NL}{N':NM}{M M':DM}{w w':World}(h:ZT B L M w)(s:NStep L M w L' N' M' w'):ZT B L' M' w' :=
 ⟨h.tab.fr h.le s.fr (fun k hk=>h.foot k hk),Nat.le_trans h.le s.fr.size,fun k hk=>(s.foot k hk).elim (h.foot k) (fun h'=>Nat.le_trans h.le h')⟩
theorem ZT.nil{B:Nat}{L:NL}{M:DM}{w w':World}(h:ZT B L M w)(f:Fr Nil w w'):ZT B L M w' :=
 ⟨h.tab.fr (S:=Nil) h.le f (fun _ h=>absurd h id),Nat.le_trans h.le f.size,h.foot⟩
def zr:Prop:=∀(B:Nat)(w:World)(v:Value)(n:Int),YK B w→ERep w v (some n)→Calls Tryz.prog 97 #[v] w fun e w'=>e=.returned (.int .i64 n)∧Fr Nil w w'
def SJ(e:Option Int):Int:=e.getD 0
def NM.ans(N:NM)(e:Option Int):NM:={N with readOnly:=N.readOnly||e.isSome}
theorem NStep.setMv{L:NL}{N:NM}{M:DM}{w:World}(h:NRep w L N M)(v:Value):NStep L M w {L with mv:=v} N M (w.setCell ⟨L.nb,6,none⟩ v):=by
 have hf:Fr (fun k=>k=L.nb) w (w.setCell ⟨L.nb,6,none⟩ v):=Fr.set (S:=fun k=>k=L.nb) (G _ _) (fun _=>rfl) _
 have hty:∀ {k t},Ty w k t→t≠123→¬k=L.nb:=fun hk ht e=>by subst e;exact ht (hk.inj h.blk.ty)
 refine⟨⟨?_,?_,?_,h.disk.fr hf (fun k hk=>?_)⟩,⟨rfl,rfl,rfl,rfl⟩,hf.mono (fun _ _ e=>.inl e),fun k hk=>.inl hk,fun k hk=>.inl hk⟩
 ·exact h.blk.set 6 v
 ·exact Blk.fr h.log hf (hty (Blk.ty h.log) (by decide))
 ·refine h.held.fr hf (fun k hk=>?_) (fun k hk=>hty (h.held.read_ty hk) (by decide))
  rcases h.held.foot_ty hk with e|e|e
  ·exact hty e (by decide)
  ·exact hty e (by decide)
  ·exact hty e (by decide)
 ·obtain⟨t,ht,hd⟩:=h.disk.ty hk
  unfold DTy at hd
  refine hty ht ?_
  rcases hd with rfl|rfl|rfl|rfl|rfl <;> decide
theorem ZI(herr:zr)(B:Nat)(L:NL)(N:NM)(M:DM)(v:Value)(x:Option Int)(w:World)(h:NRep w L N M)(he:ZT B L M w)(hx:ERep w v x) :
  Calls Tryz.prog 79 #[.pointer (some ⟨L.nb,0,none⟩),v] w fun e w'=>∃ L',e=.returned (.int .i64 (SJ x))∧NStep L M w L' (N.ans x) M w':=by
 cases x with
 | none =>
  have hv:v=.nilIface:=hx
  subst hv
  have hN:N.ans none=N:=by simp[NM.ans]
  refine(UY _ w).mono ?_
  rintro e w' ⟨rfl,rfl⟩
  exact⟨L,rfl,by rw[hN];exact NStep.nil h (G _ _)⟩
 | some n =>
  have s1:=NStep.set h (N':=N.ans (some n)) 7 (.bool true) (by simp[NM.cells,NM.ans]) rfl rfl
  have s2:=s1.trans (NStep.setMv s1.rep (.pointer none))
  have hx2:=hx.nstep h s2
  have HC:=Z (herr B _ v n (he.step s2).tab hx2)
  have HS:=Z s2
  have hc:=h.blk.cell
  have hz:=h.blk.frozen
  obtain⟨k,hk⟩:=hx
  obtain⟨t,b,rfl⟩:=hk.form
  clear h he s1 s2 hx2 hk
  go_enter Tryz.func79,Tryz.ntmps79
  go_wp2_with fail
  refine HC.out.mono ?_
  rintro e w3 ⟨rfl,hf⟩
  have HF:=Z (HS.out.andNil hf)
  clear hf
  go_wp2
  go_ret
  exact⟨_,rfl,HF.out⟩
def NM.syncCall(N:NM)(M:DM):Int × NM × DM :=
 if N.readOnly=true then(8,N,M) else(SJ (N.sync M).1,(N.sync M).2.1.ans (N.sync M).1,(N.sync M).2.2)
theorem Wm(herr:zr)(B:Nat)(L:NL)(N:NM)(M:DM)(w:World)(h:NRep w L N M)(he:ZT B L M w) :
  Calls Tryz.prog 32 #[.pointer (some ⟨L.nb,0,none⟩)] w fun e w'=>∃ L',e=.returned (.int .i64 (N.syncCall M).1)∧NStep L M w L' (N.syncCall M).2.1 (N.syncCall M).2.2 w':=by
 have hc7:w.cell? ⟨L.nb,7,none⟩=some (.bool N.readOnly):=h.blk.cell 7
 have hc1:w.cell? ⟨L.nb,1,none⟩=some (.pointer (some ⟨L.jb,0,none⟩)):=h.blk.cell 1
 have HH:=Z h
 have HV:=Z he
 clear h he
 go_enter Tryz.func32,Tryz.ntmps32
 cases hr:N.readOnly with
 | true =>
  rw[hr] at hc7
  have hp:N.syncCall M=(8,N,M):=by unfold NM.syncCall;rw[if_pos hr]
  have HP:=Z hp
  clear hr hp
  go_wp2_with fail
  go_ret
  exact⟨L,by rw[HP.out];rfl,by rw[HP.out];exact NStep.nil HH.out (G _ _)⟩
 | false =>
  rw[hr] at hc7
  have hp:N.syncCall M=(SJ (N.sync M).1,(N.sync M).2.1.ans (N.sync M).1,(N.sync M).2.2):=by unfold NM.syncCall;rw[if_neg (by rw[hr];decide)]
  have hs:N.sync M=((N.J.syncAll M).1,{N with J:=(N.J.syncAll M).2.1},(N.J.syncAll M).2.2):=rfl
  rw[hs] at hp
  have HP:=Z hp
  clear hr hp hs
  go_wp2_with fail
  refine(W9 L.jb L.db N.J L.LD M w HH.out.log HH.out.disk).mono ?_
  rintro e w1 ⟨v1,LD1,rfl,hE,hJ⟩
  have HS:=Z (NStep.of_log HH.out hJ)
  have HE:=Z hE
  clear hE hJ
  go_wp2_with fail
  refine(ZI herr B {L with LD:=LD1} _ _ _ _ w1 HS.out.rep (HV.out.step HS.out) HE.out).mono ?_
  rintro e w2 ⟨L2,rfl,hst⟩
  have HF:=Z (HS.out.trans hst)
  clear hst
  go_wp2
  go_ret
  refine⟨L2,?_,?_⟩
  ·rw[HP.out];rfl
  ·rw[HP.out];exact HF.out
theorem Lh:((Tryz.prog.info? 37).map fun i=>(i.zero.map (·.cells.size),i.size,i.bytes))=some (some 8,8,72):=by kernel_rfl
theorem Vd(v:Value)(n:Nat)(xs:List Value)(w:World)(hown:w.ownsRow 0 37 8 v n xs)(h1:∀ u∈xs,u.oneCell'=true)(hbig:n*72≤140737488355328) :
  Calls Tryz.prog 75 #[v] w fun e w' =>
   ∃ v',e=.returned v'∧w'.ownsRow 0 37 8 v' n xs∧Fr Nil w w'∧(∀ k,v'.ownBlock=some k→w.heap.size≤k):=by
 have q22:∀ (w:World) (a:Option Addr) (n c:Nat),(binOp .eql 61 (.slice a n c) (.slice none 0 0)).run Tryz.prog w=.ok (.bool a.isNone) w:=fun w a n c=>by exact Lib.run_eql_slice_nil (h:=Tryz.underlying61) ..
 rcases ZW hown with⟨rfl,rfl,rfl⟩|⟨g,cap,c,rfl,hg,hn,hcm,hcl,ht⟩
 ·go_enter Tryz.func75,Tryz.ntmps75
  go_wp2
  go_ret
  exact⟨_,rfl,World.ownsRow_nil w 0 _ _,G _ _,fun k hk=>by simp[Value.ownBlock] at hk⟩
 ·have hl:=hown.1
  have hw0:Blk (w.alloc (.cells #[] 37)) w.heap.size [] 37:=Blk.new w [] _
  have ho0:(w.alloc (.cells #[] 37)).ownsRow 0 37 8 (.slice (some ⟨w.heap.size,0,none⟩) 0 0) 0 []:=Zj hw0 (Nat.le_refl _) (Nat.zero_le _) (by simp) (by simp)
  have hsrc:∀ j u,xs[j]?=some u→(w.alloc (.cells #[] 37)).cell? ((⟨g,0,none⟩:Addr).add j)=some u:=by
   intro j u hu
   have hlt:=(List.getElem?_eq_some_iff.1 hu).1
   rw[Addr.add_lit,Nat.zero_add,(hg.alloc _).cell]
   rw[← ht,List.getElem?_take_of_lt (by omega)] at hu
   exact hu
  have hrun:∀ ty,∃ v' w',(Builtin.append_ #[61,61] ty #[.slice (some ⟨w.heap.size,0,none⟩) 0 0,.slice (some ⟨g,0,none⟩) n cap]).run Tryz.prog (w.alloc (.cells #[] 37))=.ok v' w'∧App (w.alloc (.cells #[] 37)) (.slice (some ⟨w.heap.size,0,none⟩) 0 0) 37 8 (0+n) ([]++xs) v' w':=fun ty =>
   zo (P:=Tryz.prog) 61 ty 37 8 72 Tryz.underlying61 Lh (by omega) _ 0 [] ho0 ⟨g,0,none⟩ n cap xs hl hsrc h1 (by unfold maxLen at *;omega) (by omega)
  have hfin:∀ v' w',App (w.alloc (.cells #[] 37)) (.slice (some ⟨w.heap.size,0,none⟩) 0 0) 37 8 (0+n) ([]++xs) v' w' →
    ∃ v'',Ending.returned v'=.returned v''∧w'.ownsRow 0 37 8 v'' n xs∧Fr Nil w w'∧(∀ k,v''.ownBlock=some k→w.heap.size≤k):=by
   rintro v' w' ⟨ho,hgr,hb⟩
   refine⟨v',rfl,by simpa using ho,((G Nil w).alloc _).trans' ((Fr.of_grown hgr).mono (fun i _ h=>h)) (fun i hi h=>?_),fun k hk=>?_⟩
   ·simp[Value.ownBlock] at h;omega
   ·rcases hb with hb|hb
    ·rw[hb] at hk;simp[Value.ownBlock] at hk;omega
    ·rw[hb] at hk;simp at hk;omega
  have HF:=Z hfin
  clear hfin hsrc ho0 hw0 hown hg
  unfold maxLen at hcm
  go_enter Tryz.func75,Tryz.ntmps75
  go_wp2_with (at_builtin;go_must (refine zf rfl _ _ _ _ rfl _ _ (by rfl) (by rfl) (hrun _) ?_);rintro v' w' hA)
  go_ret
  exact HF.out _ _ hA
structure Fit(N:NM)(M:DM)(H:Nat)(x:Fact):Prop where
 ok:FOk x
 log:Yi N.J M H (zg x).size
 keys:N.S.keys.length<1099511627776
 hints:N.S.hints.length<1000000
 writes:N.writes<1000000000000
theorem Fit.mono{N:NM}{M:DM}{H H':Nat}{x:Fact}(h:Fit N M H x)(hh:H≤H'):Fit N M H' x:=⟨h.ok,h.log.mono hh,h.keys,h.hints,h.writes⟩
def NM.asked(N:NM)(M:DM)(x:Fact)(f:Nat):Int × NM × DM :=
 (SJ (N.change M x f).1,(N.change M x f).2.1.ans (N.change M x f).1,(N.change M x f).2.2)
def NM.ack(N:NM)(M:DM)(f:Nat):Int × NM × DM :=
 if N.readOnly=true then(8,N,M) else if N.S.hints.length=0 then(7,N,M) else N.asked M (.inr (.inr (.inr ()))) f
theorem TI(herr:zr)(B:Nat)(L:NL)(N:NM)(M:DM)(w:World)(h:NRep w L N M)(he:ZT B L M w)(hfit:Fit N M w.heap.size (.inr (.inr (.inr ())))) :
  Calls Tryz.prog 28 #[.pointer (some ⟨L.nb,0,none⟩)] w fun e w'=>∃ f L',e=.returned (.int .i64 (N.ack M f).1)∧w.heap.size≤f∧NStep L M w L' (N.ack M f).2.1 (N.ack M f).2.2 w':=by
 have hc7:w.cell? ⟨L.nb,7,none⟩=some (.bool N.readOnly):=h.blk.cell 7
 have hc2:w.cell? ⟨L.nb,2,none⟩=some (.pointer (some ⟨L.sb,0,none⟩)):=h.blk.cell 2
 have HH:=Z h
 have HE:=Z he
 have HT:=Z hfit
 clear h he hfit
 go_enter Tryz.func28,Tryz.ntmps28
 cases hr:N.readOnly with
 | true =>
  rw[hr] at hc7
  have hp:N.ack M w.heap.size=(8,N,M):=by unfold NM.ack;rw[if_pos hr]
  have HP:=Z hp
  clear hr hp
  go_wp2_with fail
  go_ret
  exact⟨w.heap.size,L,by rw[HP.out];rfl,Nat.le_refl _,by rw[HP.out];exact NStep.nil HH.out (G _ _)⟩
 | false =>
  rw[hr] at hc7
  have HN:=Z (Yw L.sb L.LS N.S w HH.out.held)
  by_cases h0:N.S.hints.length=0
  ·have hp:N.ack M w.heap.size=(7,N,M):=by unfold NM.ack;rw[if_neg (by rw[hr];decide),if_pos h0]
   have HP:=Z hp
   have h0':((N.S.hints.length:Int)==0)=true:=by simp[h0]
   rw[h0] at HN
   clear hr hp h0 h0'
   go_wp2_with (refine HN.out.mono ?_;rintro e w1 ⟨rfl,hw1⟩;subst w1)
   go_ret
   exact⟨w.heap.size,L,by rw[HP.out];rfl,Nat.le_refl _,by rw[HP.out];exact NStep.nil HH.out (G _ _)⟩
  ·have hp:∀ f,N.ack M f=N.asked M (.inr (.inr (.inr ()))) f:=by intro f;unfold NM.ack;rw[if_neg (by rw[hr];decide),if_neg h0]
   have HP:=Z hp
   have h0':((N.S.hints.length:Int)==0)=false:=by simpa using h0
   clear hr hp h0
   go_wp2_with (refine HN.out.mono ?_;rintro e w1 ⟨rfl,hw1⟩;subst w1)
   refine(Vc B L N M _ (.inr (.inr (.inr ()))) _ w HH.out HE.out.env (show _=_ from rfl) HT.out.ok (fun k hb=>by obtain⟨v,hv,e⟩:=hb;simp at hv) HT.out.log HT.out.keys HT.out.hints HT.out.writes).mono ?_
   rintro e w1 ⟨f,v1,L1,rfl,hf,hE,hst⟩
   have HS:=Z hst
   have HE1:=Z hE
   have HF:=Z hf
   clear hE hst hf
   go_wp2_with fail
   rw[← HS.out.same.nb]
   refine(ZI herr B L1 _ _ _ _ w1 HS.out.rep (HE.out.step HS.out) HE1.out).mono ?_
   rintro e w2 ⟨L2,rfl,hst⟩
   have HS2:=Z (HS.out.trans hst)
   clear hst
   go_wp2
   go_ret
   refine⟨f,L2,?_,HF.out,?_⟩
   ·rw[HP.out];rfl
   ·rw[HP.out];exact HS2.out
theorem VE(L:NL)(N:NM)(M:DM)(w:World)(h:NRep w L N M)(hlen:N.S.hints.length<1000000) :
  Calls Tryz.prog 27 #[.pointer (some ⟨L.nb,0,none⟩)] w fun e w'=>∃ v',e=.returned v'∧w'.ownsRow 0 75 2 v' N.S.hints.length (zD N.S.hints)∧Fr Nil w w'∧(∀ k,v'.ownBlock=some k→w.heap.size≤k):=by
 have hc2:w.cell? ⟨L.nb,2,none⟩=some (.pointer (some ⟨L.sb,0,none⟩)):=h.blk.cell 2
 have HH:=Z (Rf L.sb L.LS N.S w h.held hlen)
 clear h
 go_enter Tryz.func27,Tryz.ntmps27
 go_wp2_with (refine HH.out.mono ?_;rintro e w1 ⟨v',rfl,h1,h2,h3⟩)
 go_ret
 exact⟨v',rfl,h1,h2,h3⟩
theorem XS(L:NL)(N:NM)(M:DM)(key:ByteArray)(w:World)(h:NRep w L N M)(hk:N.S.keys.length<1099511627776)(hlen:(zc N.S.keys key).length≤1000000) :
  Calls Tryz.prog 24 #[.pointer (some ⟨L.nb,0,none⟩),.string key] w fun e w'=>∃ v',e=.returned (.tuple #[v',.int .i64 (if zm key=true then 0 else 2)])∧VRow w' v' (if zm key=true then zc N.S.keys key else [])∧Fr Nil w w'∧(∀ k,v'.ownBlock=some k→w.heap.size≤k):=by
 have hc2:w.cell? ⟨L.nb,2,none⟩=some (.pointer (some ⟨L.sb,0,none⟩)):=h.blk.cell 2
 have HK:=Z (YY key w)
 have HH:=Z h
 clear h
 go_enter Tryz.func24,Tryz.ntmps24
 cases hb:zm key with
 | false =>
  rw[hb] at HK
  clear hb
  go_wp2_with (refine HK.out.mono ?_;rintro e w1 ⟨rfl,hw1⟩;subst w1)
  go_ret2
  exact⟨_,rfl,World.ownsRow_nil w 0 _ _,G _ _,fun k hk=>absurd hk (by simp[Value.ownBlock])⟩
 | true =>
  rw[hb] at HK
  have HV:=Z (YV key L.sb L.LS N.S w HH.out.held hk)
  have HB:=Z (show(zc N.S.keys key).length*72≤140737488355328 by omega)
  clear hb hlen hk
  go_wp2_with (refine HK.out.mono ?_;rintro e w1 ⟨rfl,hw1⟩;subst w1)
  refine HV.out.mono ?_
  rintro e w1 ⟨rfl,hf1⟩
  have HF1:=Z hf1
  have hrow:VRow w1 (getE L.LS.ents key) (zc N.S.keys key):=(HH.out.held.nil hf1).getE key
  have HR:=Z hrow
  clear hf1 hrow
  generalize getE L.LS.ents key=gv at HR
  go_wp2_with fail
  refine(Vd gv _ _ w1 HR.out (Xb _) HB.out).mono ?_
  rintro e w2 ⟨v',rfl,h1,h2,h3⟩
  have HF2:=Z (HF1.out.trans h2)
  have H1:=Z h1
  have H3:Hid (∀ k,v'.ownBlock=some k→w.heap.size≤k):=fun k hk=>Nat.le_trans HF1.out.size (h3 k hk)
  clear h1 h2 h3
  go_wp2
  go_ret2
  exact⟨_,rfl,H1.out,HF2.out,H3.out⟩
def NM.hint(N:NM)(M:DM)(to:Int)(text:ByteArray)(f:Nat):Int × NM × DM :=
 if (zt to&&decide (to≠N.self))=false then(4,N,M) else
 if text.size=0∨64<text.size then(3,N,M) else
 if N.readOnly=true then(8,N,M) else
 if 32≤N.S.hints.length then(6,N,M) else
 N.asked M (.inr (.inr (.inl (to.toNat,text)))) f
theorem Xu(herr:zr)(B:Nat)(L:NL)(N:NM)(M:DM)(to:Int)(text:ByteArray)(w:World)(h:NRep w L N M)(he:ZT B L M w)(hfit:text.size≤64→zt to=true→Fit N M w.heap.size (.inr (.inr (.inl (to.toNat,text))))) :
  Calls Tryz.prog 31 #[.pointer (some ⟨L.nb,0,none⟩),.int .i64 to,.string text] w fun e w'=>∃ f L',e=.returned (.int .i64 (N.hint M to text f).1)∧w.heap.size≤f∧NStep L M w L' (N.hint M to text f).2.1 (N.hint M to text f).2.2 w':=by
 have hc7:w.cell? ⟨L.nb,7,none⟩=some (.bool N.readOnly):=h.blk.cell 7
 have hc2:w.cell? ⟨L.nb,2,none⟩=some (.pointer (some ⟨L.sb,0,none⟩)):=h.blk.cell 2
 have HO:=Z (WS L N M to w h)
 have HH:=Z h
 have HE:=Z he
 have HT:=Z hfit
 have HSZ:=Z (Y4 text)
 clear h he hfit
 go_enter Tryz.func31,Tryz.ntmps31
 cases ho:(zt to&&decide (to≠N.self)) with
 | false =>
  rw[ho] at HO
  have hp:N.hint M to text w.heap.size=(4,N,M):=by unfold NM.hint;rw[if_pos ho]
  have HP:=Z hp
  clear ho hp
  go_wp2_with (refine HO.out.mono ?_;rintro e w1 ⟨rfl,hw1⟩;subst w1)
  go_ret
  exact⟨w.heap.size,L,by rw[HP.out];rfl,Nat.le_refl _,by rw[HP.out];exact NStep.nil HH.out (G _ _)⟩
 | true =>
  rw[ho] at HO
  have HND:Hid (zt to=true):=by simp only[Bool.and_eq_true] at ho;exact ho.1
  by_cases hx:text.size=0∨64<text.size
  ·have hp:N.hint M to text w.heap.size=(3,N,M):=by unfold NM.hint;rw[if_neg (by rw[ho];decide),if_pos hx]
   have HP:=Z hp
   clear ho hp
   by_cases h0:text.toList=[]
   ·clear hx
    go_wp2_with (refine HO.out.mono ?_;rintro e w1 ⟨rfl,hw1⟩;subst w1)
    go_ret
    exact⟨w.heap.size,L,by rw[HP.out];rfl,Nat.le_refl _,by rw[HP.out];exact NStep.nil HH.out (G _ _)⟩
   ·have h1:64<text.size:=by
     rcases hx with hx|hx
     ·rw[HSZ.out] at hx;exact absurd (List.eq_nil_of_length_eq_zero hx) h0
     ·exact hx
    have h2:(64:Int)<(text.size:Int):=by omega
    have h3:text.toList.isEmpty=false:=by simpa using h0
    clear hx
    go_wp2_with (refine HO.out.mono ?_;rintro e w1 ⟨rfl,hw1⟩;subst w1)
    go_ret
    exact⟨w.heap.size,L,by rw[HP.out];rfl,Nat.le_refl _,by rw[HP.out];exact NStep.nil HH.out (G _ _)⟩
  ·have h0:¬text.toList=[]:=by
    intro h;apply hx;left;rw[HSZ.out,h];rfl
   have h1:¬64<text.size:=fun h=>hx (.inr h)
   have h2:¬(64:Int)<(text.size:Int):=by omega
   have h3:text.toList.isEmpty=false:=by simpa using h0
   cases hr:N.readOnly with
   | true =>
    rw[hr] at hc7
    have hp:N.hint M to text w.heap.size=(8,N,M):=by unfold NM.hint;rw[if_neg (by rw[ho];decide),if_neg hx,if_pos hr]
    have HP:=Z hp
    clear ho hp hx hr
    go_wp2_with (refine HO.out.mono ?_;rintro e w1 ⟨rfl,hw1⟩;subst w1)
    go_ret
    exact⟨w.heap.size,L,by rw[HP.out];rfl,Nat.le_refl _,by rw[HP.out];exact NStep.nil HH.out (G _ _)⟩
   | false =>
    rw[hr] at hc7
    have HN:=Z (Yw L.sb L.LS N.S w HH.out.held)
    by_cases hm:32≤N.S.hints.length
    ·have hp:N.hint M to text w.heap.size=(6,N,M):=by unfold NM.hint;rw[if_neg (by rw[ho];decide),if_neg hx,if_neg (by rw[hr];decide),if_pos hm]
     have HP:=Z hp
     have hm':(32:Int)≤(N.S.hints.length:Int):=by omega
     clear ho hp hx hr
     go_wp2_with (first|(refine HN.out.mono ?_;rintro e w1 ⟨rfl,hw1⟩;subst w1)|(refine HO.out.mono ?_;rintro e w1 ⟨rfl,hw1⟩;subst w1))
     go_ret
     exact⟨w.heap.size,L,by rw[HP.out];rfl,Nat.le_refl _,by rw[HP.out];exact NStep.nil HH.out (G _ _)⟩
    ·have hp:∀ f,N.hint M to text f=N.asked M (.inr (.inr (.inl (to.toNat,text)))) f:=by intro f;unfold NM.hint;rw[if_neg (by rw[ho];decide),if_neg hx,if_neg (by rw[hr];decide),if_neg hm]
     have HP:=Z hp
     have hm':¬(32:Int)≤(N.S.hints.length:Int):=by omega
     have HTO:Hid ((to.toNat:Int)=to):=by
      have:=HND.out
      unfold zt at this
      simp only[decide_eq_true_eq] at this
      exact Int.toNat_of_nonneg this.1
     have HFT:=Z (HT.out (by omega) HND.out)
     have HCL:=Z (Zm text w (by omega))
     clear ho hp hx hr
     go_wp2_with (first|(refine HN.out.mono ?_;rintro e w1 ⟨rfl,hw1⟩;subst w1)|(refine HO.out.mono ?_;rintro e w1 ⟨rfl,hw1⟩;subst w1))
     refine HCL.out.mono ?_
     rintro e w1 ⟨rfl,hf1⟩
     have HF1:=Z hf1
     have HC:Hid (∀ what w2,Fr Nil w1 w2→Calls Tryz.prog 80 #[.pointer (some ⟨L.nb,0,none⟩),.string what,.iface 138 (.agg #[.int .i64 to,.string text])] w2 fun e w' =>
       ∃ f v L',e=.returned v∧w.heap.size≤f∧ERep w' v (N.change M (.inr (.inr (.inl (to.toNat,text)))) f).1∧NStep L M w L' (N.change M (.inr (.inr (.inl (to.toNat,text)))) f).2.1 (N.change M (.inr (.inr (.inl (to.toNat,text)))) f).2.2 w'):=by
      intro what w2 f2
      have f02:=HF1.out.trans f2
      have hft:=HFT.out.mono f02.size
      refine(Vc B L N M what (.inr (.inr (.inl (to.toNat,text)))) _ w2 (HH.out.nil f02) (HE.out.nil f02).env (show _=_ by rw[HTO.out]) hft.ok (fun k hb=>by obtain⟨v,hv,e⟩:=hb;simp at hv;rcases hv with rfl|rfl <;> exact absurd e (by simp[Value.ownBlock])) hft.log hft.keys hft.hints hft.writes).mono ?_
      rintro e w' ⟨f,v,L',rfl,hf,hE,hst⟩
      exact⟨f,v,L',rfl,Nat.le_trans f02.size hf,hE,(NStep.nil HH.out f02).trans hst⟩
     clear hf1 hc7 hc2
     go_wp2_with fail
     refine(HC.out _ _ (by exact(by repeat' first|(with_reducible first|apply G|assumption|apply O|apply U|apply V|apply z6)|(intro _;rfl)))).mono ?_
     rintro e w3 ⟨f,v1,L1,rfl,hf,hE,hst⟩
     have HS:=Z hst
     have HE1:=Z hE
     have HF:=Z hf
     clear hE hst hf
     go_wp2_with fail
     rw[← HS.out.same.nb]
     refine(ZI herr B L1 _ _ _ _ w3 HS.out.rep (HE.out.step HS.out) HE1.out).mono ?_
     rintro e w4 ⟨L2,rfl,hst⟩
     have HS2:=Z (HS.out.trans hst)
     clear hst
     go_wp2
     go_ret
     refine⟨f,L2,?_,HF.out,?_⟩
     ·rw[HP.out];rfl
     ·rw[HP.out];exact HS2.out
theorem VF(L:NL)(N:NM)(M:DM)(w:World)(h:NRep w L N M) :
  Calls Tryz.prog 39 #[.pointer (some ⟨L.nb,0,none⟩)] w fun e w'=>e=.returned (.agg #[.bool N.readOnly,.int .i64 N.S.keys.length,.int .i64 N.S.hints.length])∧Fr Nil w w':=by
 have hf0:Fr Nil w (w.alloc (Obj.cells #[.bool false,.int .i64 0,.int .i64 0] 81)):=(G _ _).alloc _
 have hb:=Blk.new w [.bool false,.int .i64 0,.int .i64 0] 81
 have h1:=h.nil hf0
 have HK:=Z (fun wx (f:Fr Nil w wx)=>Uo L.sb L.LS N.S wx (h.nil f).held)
 have HN:=Z (fun wx (f:Fr Nil w wx)=>Yw L.sb L.LS N.S wx (h.nil f).held)
 have HF0:=Z hf0
 have HB:=Z hb
 have H1:=Z h1
 clear h hf0 hb h1
 go_enter Tryz.func39,Tryz.ntmps39
 go_wp2_with fail
 generalize hwa:w.alloc (Obj.cells #[.bool false,.int .i64 0,.int .i64 0] 81)=wa
 have hb:Blk wa w.heap.size [.bool false,.int .i64 0,.int .i64 0] 81:=by rw[← hwa];exact HB.out
 have h1:NRep wa L N M:=by rw[← hwa];exact H1.out
 have hf0:Fr Nil w wa:=by rw[← hwa];exact HF0.out
 have HF:=Z hf0
 have hc7:wa.cell? ⟨L.nb,7,none⟩=some (.bool N.readOnly):=h1.blk.cell 7
 have hc2:wa.cell? ⟨L.nb,2,none⟩=some (.pointer (some ⟨L.sb,0,none⟩)):=h1.blk.cell 2
 have hcb:=hb.cell
 have hzb:=hb.frozen
 have HB1:=Z hb
 have HLE:Hid (w.heap.size≤w.heap.size):=Nat.le_refl _
 clear hwa h1 hf0 HF0 HB H1 hb
 refine wp_region_still_tail 15 (by kernel_rfl) (by kernel_rfl) ?_
 simp only[List.take_succ_cons,List.take_zero,List.drop_succ_cons,List.drop_zero]
 iterate 8 still_step
 still_call (HK.out _ (HF.out.trans (by exact(by repeat' first|(with_reducible first|apply G|assumption|apply O|apply U|apply V|apply z6)|(intro _;rfl)))))
 iterate 4 still_step
 still_call (HN.out _ (HF.out.trans (by exact(by repeat' first|(with_reducible first|apply G|assumption|apply O|apply U|apply V|apply z6)|(intro _;rfl)))))
 iterate 1 still_step
 refine wpStill_nil ?_
 go_wp2_with fail
 have hb4:=((HB1.out.set 0 (.bool N.readOnly)).set 1 (.int .i64 N.S.keys.length)).set 2 (.int .i64 N.S.hints.length)
 have hf4:Fr Nil w (((wa.setCell ⟨w.heap.size,0,none⟩ (.bool N.readOnly)).setCell ⟨w.heap.size,1,none⟩ (.int .i64 N.S.keys.length)).setCell ⟨w.heap.size,2,none⟩ (.int .i64 N.S.hints.length)) :=
  Fr.set (Fr.set (Fr.set HF.out (fun h=>by simp only at h;omega) _) (fun h=>by simp only at h;omega) _) (fun h=>by simp only at h;omega) _
 have HF4:=Z hf4
 have hc4:=hb4.cell
 simp only[List.set_cons_zero,List.set_cons_succ] at hc4
 clear hcb hzb hf4 hb4
 generalize ((wa.setCell ⟨w.heap.size,0,none⟩ (.bool N.readOnly)).setCell ⟨w.heap.size,1,none⟩ (.int .i64 N.S.keys.length)).setCell ⟨w.heap.size,2,none⟩ (.int .i64 N.S.hints.length)=w4 at hc4 HF4 ⊢
 have hc5:∀ k,w4.drew.cell? ⟨w.heap.size,k,none⟩=[Value.bool N.readOnly,.int .i64 N.S.keys.length,.int .i64 N.S.hints.length][k]?:=hc4
 refine bodyPost_ret (v:=.agg #[.bool N.readOnly,.int .i64 N.S.keys.length,.int .i64 N.S.hints.length]) (by simp[results,Tryz.results39,go_sem,hc5,Tryz.isAgg81,Tryz.sizeOf81]) rfl ⟨rfl,HF4.out.drew⟩
end Go.Proofs.YtkhnggkkiefcdaaGreatDoor
