/- larder: joined texts -/
import Derived.Test.YtkhnggkkiefcdaaGreatDoorRAAV
import Derived.LaidEql
import Derived.Stop.Asserts
import Derived.RowKitTokens
namespace Go.Proofs.YtkhnggkkiefcdaaGreatDoor
open Go.RowKit Go.Extern.Stop Go.Stop Go.Extern
set_option maxRecDepth 100000
set_option maxHeartbeats 8000000
theorem RV(t:Addr)(w:World):(ReflectliteValue.unpack (.iface 227 (.pointer (some t)))).run Tryz.prog w
  = .ok (.agg #[.pointer (some ⟨6,227,none⟩),.pointer (some ⟨w.heap.size,0,none⟩),.int .u64 150]) (w.alloc (.cells #[.pointer (some t)] 227)):=by kernel_rfl
theorem Nr(a:Addr)(w:World):(ReflectliteValue.methodAny (ReflectliteValue.valueError "reflectlite.Value.Type" 0) (fun t _ _ _=>ReflectliteType.toType t) #[.agg #[.pointer (some ⟨6,227,none⟩),.pointer (some a),.int .u64 150]]).run Tryz.prog w
  = .ok (.iface 309 (.agg #[.pointer (some ⟨6,227,none⟩)])) w:=by kernel_rfl
theorem Sv(h:Value)(w:World):(Go.method 496 309 (.agg #[h]) "Kind").run Tryz.prog w=.ok (271,h) w:=by kernel_rfl
theorem Ns(w:World):((ReflectliteType.abiMethod fun t=>Functor.map (fun a:Nat=>Value.int IntKind.u8 (a:Int)) (Rtype.kind t)) #[.pointer (some ⟨6,227,none⟩)]).run Tryz.prog w=.ok (.int .u8 22) w:=by kernel_rfl
theorem Nt(w:World):((ReflectliteType.abiMethod fun t=>Functor.map (fun a:Nat=>Value.int IntKind.u8 (a:Int)) (Rtype.kind t)) #[.pointer (some ⟨6,225,none⟩)]).run Tryz.prog w=.ok (.int .u8 22) w:=by kernel_rfl
theorem UM(a:Addr)(w:World):(ReflectliteValue.parts (.agg #[.pointer (some ⟨6,227,none⟩),.pointer (some a),.int .u64 150])).run Tryz.prog w=.ok (some (227,a,150)) w:=by kernel_rfl
theorem O9(a p:Addr)(W:World)(ha:W.cell? a=some (.pointer (some p))) :
  (ReflectliteValue.method (ReflectliteValue.valueError "reflectlite.Value.IsNil" 0) ReflectliteValue.isNil #[.agg #[.pointer (some ⟨6,227,none⟩),.pointer (some a),.int .u64 150]]).run Tryz.prog W=.ok (.bool false) W:=by
 change Sem.run Tryz.prog (ReflectliteValue.parts (.agg #[.pointer (some ⟨6,227,none⟩),.pointer (some a),.int .u64 150]) >>= _) W=_
 simp only[Sem.run_bind,UM,Result.andThen]
 simp[ReflectliteValue.isNil,loadVar,isAgg,underlying,Tryz.underlying227,ha,Result.andThen]
theorem Sw(h:Value)(w:World):(Go.method 496 309 (.agg #[h]) "Elem").run Tryz.prog w=.ok (316,.agg #[h]) w:=by kernel_rfl
theorem V3(h:Value)(w:World):(Go.method 496 309 (.agg #[h]) "Implements").run Tryz.prog w=.ok (317,.agg #[h]) w:=by kernel_rfl
theorem Wt(h:Value)(w:World):(Go.method 496 309 (.agg #[h]) "AssignableTo").run Tryz.prog w=.ok (314,.agg #[h]) w:=by kernel_rfl
theorem Nu(w:World):(ReflectliteType.method ReflectliteType.elem #[.agg #[.pointer (some ⟨6,227,none⟩)]]).run Tryz.prog w=.ok (.iface 309 (.agg #[.pointer (some ⟨6,225,none⟩)])) w:=by kernel_rfl
theorem UN(w:World):(ReflectliteType.relation "Implements" ReflectliteType.implements_ #[.agg #[.pointer (some ⟨6,225,none⟩)],.iface 309 (.agg #[.pointer (some ⟨6,132,none⟩)])]).run Tryz.prog w=.ok (.bool true) w:=by kernel_rfl
theorem QR(v:Value)(w:World):(ReflectliteType.typeOf #[.iface 225 v]).run Tryz.prog w=.ok (.iface 309 (.agg #[.pointer (some ⟨6,225,none⟩)])) w:=by kernel_rfl
theorem UO(w:World):(ReflectliteType.relation "AssignableTo" ReflectliteType.assignableTo #[.agg #[.pointer (some ⟨6,225,none⟩)],.iface 309 (.agg #[.pointer (some ⟨6,225,none⟩)])]).run Tryz.prog w=.ok (.bool true) w:=by kernel_rfl
theorem RW(e:Addr)(w:World):(ReflectliteValue.unpack (.iface 225 (.pointer (some e)))).run Tryz.prog w
  = .ok (.agg #[.pointer (some ⟨6,225,none⟩),.pointer (some ⟨w.heap.size,0,none⟩),.int .u64 150]) (w.alloc (.cells #[.pointer (some e)] 225)):=by kernel_rfl
theorem QS(w:World):(Rtype.elem? 227).run Tryz.prog w=.ok (some 225) w:=by kernel_rfl
theorem MX(p:Addr)(w:World):(ReflectliteValue.mk 225 p ReflectliteValue.flagAddr).run Tryz.prog w=.ok (.agg #[.pointer (some ⟨6,225,none⟩),.pointer (some p),.int .u64 406]) w:=by kernel_rfl
theorem Oa(a p:Addr)(W:World)(ha:W.cell? a=some (.pointer (some p))) :
  (ReflectliteValue.method (ReflectliteValue.valueError "reflectlite.Value.Elem" 0) ReflectliteValue.elem #[.agg #[.pointer (some ⟨6,227,none⟩),.pointer (some a),.int .u64 150]]).run Tryz.prog W
    = .ok (.agg #[.pointer (some ⟨6,225,none⟩),.pointer (some p),.int .u64 406]) W:=by
 change Sem.run Tryz.prog (ReflectliteValue.parts (.agg #[.pointer (some ⟨6,227,none⟩),.pointer (some a),.int .u64 150]) >>= _) W=_
 simp only[Sem.run_bind,UM,Result.andThen]
 simp[ReflectliteValue.elem,loadVar,isAgg,underlying,Tryz.underlying227,ha,Result.andThen,QS,MX]
theorem QT(a:Addr)(w:World):(ReflectliteValue.parts (.agg #[.pointer (some ⟨6,225,none⟩),.pointer (some a),.int .u64 406])).run Tryz.prog w=.ok (some (225,a,406)) w:=by kernel_rfl
theorem Ob(a:Addr)(w:World):(ReflectliteValue.parts (.agg #[.pointer (some ⟨6,225,none⟩),.pointer (some a),.int .u64 150])).run Tryz.prog w=.ok (some (225,a,150)) w:=by kernel_rfl
theorem QU(w:World):(Rtype.directlyAssignable 225 225).run Tryz.prog w=.ok true w:=by kernel_rfl
theorem Mx(ta b e:Addr)(old:Value)(W:World)(hb:W.cell? b=some (.pointer (some e)))(ht:W.cell? ta=some old)(hf:W.frozen? ta=false) :
  (ReflectliteValue.set #[.agg #[.pointer (some ⟨6,225,none⟩),.pointer (some ta),.int .u64 406],.agg #[.pointer (some ⟨6,225,none⟩),.pointer (some b),.int .u64 150]]).run Tryz.prog W
    = .ok (.tuple #[]) (W.setCell ta (.pointer (some e))):=by
 change Sem.run Tryz.prog (ReflectliteValue.parts (.agg #[.pointer (some ⟨6,225,none⟩),.pointer (some ta),.int .u64 406]) >>= fun _=>ReflectliteValue.parts (.agg #[.pointer (some ⟨6,225,none⟩),.pointer (some b),.int .u64 150]) >>= _) W=_
 simp only[Sem.run_bind,QT,Ob,Result.andThen]
 simp[ReflectliteValue.flagAddr,loadVar,isAgg,underlying,Tryz.underlying225,hb,Result.andThen,QU,storeVar,Value.cells,storeCells,Addr.add]
 rw[run_store Tryz.prog W ta _ _ (by rfl)]
 simp[ht,hf]
theorem Oc(v:Value)(w:World):(ReflectliteType.typeOf #[.iface 202 v]).run Tryz.prog w=.ok (.iface 309 (.agg #[.pointer (some ⟨6,202,none⟩)])) w:=by kernel_rfl
theorem Tb(w:World):(ReflectliteType.relation "AssignableTo" ReflectliteType.assignableTo #[.agg #[.pointer (some ⟨6,202,none⟩)],.iface 309 (.agg #[.pointer (some ⟨6,225,none⟩)])]).run Tryz.prog w=.ok (.bool false) w:=by kernel_rfl
theorem My(v:Value)(xT:TypeId)(w:World):(Instr.typeAssert (.iface 202 v) xT 314 true).run Tryz.prog w=.ok (.tuple #[.nilIface,.bool false]) w :=
 run_typeAssert_lacksB Tryz.underlying314 (by kernel_rfl) (by kernel_rfl) v xT w
theorem Lq(v:Value)(xT:TypeId)(w:World):(Instr.typeAssert (.iface 202 v) xT 317 true).run Tryz.prog w=.ok (.tuple #[.iface 202 v,.bool true]) w :=
 run_typeAssert_hasB Tryz.underlying317 (by kernel_rfl) v xT w
theorem Nv(v:Value)(w:World):(Go.method 496 202 v "Unwrap").run Tryz.prog w=.ok (302,v) w:=by kernel_rfl
theorem RX(b:Nat)(what:ByteArray)(v:Value)(w:World)(h:Blk w b [.string what,v] 204)(t c:Nat)(hv:v=.iface t (.pointer (some ⟨c,0,none⟩))) :
  Calls Tryz.prog 302 #[.pointer (some ⟨b,0,none⟩)] w fun e w'=>e=.returned v∧w'=w:=by
 subst hv
 have hc:w.cell? ⟨b,1,none⟩=some (.iface t (.pointer (some ⟨c,0,none⟩))):=h.cell 1
 clear h
 go_enter Tryz.func302,Tryz.ntmps302
 go_wp2
 go_ret
 exact⟨rfl,rfl⟩
theorem Zv.unique{w:World}{n m:Int}:∀ {k j:Nat}{v:Value},Zv w n k v→Zv w m j v→k=j
 | 0,0,_,_,_=>rfl
 | 0,j+1,v,⟨b,c,f,h,hb⟩,⟨b2,c2,v2,h2,hb2,_⟩=>by
  rw[h] at h2
  exact absurd h2 (by intro x;have:=(Value.iface.inj x).1;exact absurd this (by decide))
 | k+1,0,v,⟨b2,c2,v2,h2,hb2,_⟩,⟨b,c,f,h,hb⟩=>by
  rw[h] at h2
  exact absurd h2 (by intro x;have:=(Value.iface.inj x).1;exact absurd this (by decide))
 | k+1,j+1,v,⟨b,c,v1,h,hb,hk⟩,⟨b2,c2,v2,h2,hb2,hj⟩=>by
  rw[h] at h2
  have e:=(Value.iface.inj h2).2
  have e2:b=b2:=by injection e with e;injection e with e;injection e
  subst e2
  have:=(hb.inj hb2).1
  simp at this
  obtain⟨_,rfl⟩:=this
  rw[Zv.unique hk hj]
theorem VR(n:Int):∃ D:World->Value->Nat,∀ w v k,Zv w n k v->D w v=k:=
 ⟨fun w v=>Classical.epsilon fun k=>Zv w n k v,fun w v k h=>Zv.unique (Classical.epsilon_spec (p:=fun k=>Zv w n k v) ⟨k,h⟩) h⟩
def Nw(n:Int)(t:Nat)(w w':World):Prop:=∃ e c f,w'.cell? ⟨t,0,none⟩=some (.pointer (some ⟨e,0,none⟩))∧Blk w' e [.string c,.string f,.int .i64 n] 229∧Fr (fun k=>k=t) w w'
theorem Nx(n:Int)(k:Nat)(v:Value)(t a:Nat)(w:World)(hv:Zv w n k v)(ht:Blk w t [.pointer none] 225)(ha:Blk w a [.pointer (some ⟨t,0,none⟩)] 227) :
  Calls Tryz.prog 198 #[v,.iface 227 (.pointer (some ⟨t,0,none⟩)),.agg #[.pointer (some ⟨6,227,none⟩),.pointer (some ⟨a,0,none⟩),.int .u64 150],.iface 309 (.agg #[.pointer (some ⟨6,225,none⟩)])] w fun e w'=>e=.returned (.bool true)∧Nw n t w w':=by
 have h6:=@run_callFunc_extern Tryz.prog 195 _ (fun args=>ReflectliteValue.unpack (args.getD 0 (.tuple #[]))) Tryz.func195 (by kernel_rfl) (by kernel_rfl) (by kernel_rfl) (by kernel_rfl)
 have h10:=@run_callFunc_extern Tryz.prog 224 _ ReflectliteType.typeOf Tryz.func224 (by kernel_rfl) (by kernel_rfl) (by kernel_rfl) (by kernel_rfl)
 have h35:=@run_callFunc_extern Tryz.prog 314 _ (ReflectliteType.relation "AssignableTo" ReflectliteType.assignableTo) Tryz.func314 (by kernel_rfl) (by kernel_rfl) (by kernel_rfl) (by kernel_rfl)
 have h11:=@run_callFunc_extern Tryz.prog 225 _ (ReflectliteValue.method (ReflectliteValue.valueError "reflectlite.Value.Elem" 0) ReflectliteValue.elem) Tryz.func225 (by kernel_rfl) (by kernel_rfl) (by kernel_rfl) (by kernel_rfl)
 have h12:=@run_callFunc_extern Tryz.prog 226 _ ReflectliteValue.set Tryz.func226 (by kernel_rfl) (by kernel_rfl) (by kernel_rfl) (by kernel_rfl)
 have tO:=QR
 have tD:=Oc
 have mA:=Wt
 have a25:=UO
 have aD:=Tb
 have v25:=RW
 have hL:=My
 have hH:=Lq
 have mU:=Nv
 have hbox:=Blk.new w [.pointer (some ⟨6,227,none⟩),.pointer (some ⟨a,0,none⟩),.int .u64 150] 281
 have f0:Fr Nil w (w.alloc (.cells #[.pointer (some ⟨6,227,none⟩),.pointer (some ⟨a,0,none⟩),.int .u64 150] 281)):=(G _ _).alloc _
 have HV:=Z (hv.fr f0 (YX.nil w))
 have HT:=Z (ht.fr f0 id)
 have HA:=Z (ha.fr f0 id)
 have HB:=Z hbox
 have HF:=Z f0
 have htl:=ht.lt
 clear hv ht ha hbox f0
 generalize hwb:w.alloc (.cells #[.pointer (some ⟨6,227,none⟩),.pointer (some ⟨a,0,none⟩),.int .u64 150] 281)=wb at HV HT HA HB HF
 generalize hN:w.heap.size=N at HB
 have hNlt:N<wb.heap.size:=HB.out.lt
 have HWB:=Z hwb
 have HN:=Z hN
 clear hwb hN
 go_enter Tryz.func198,Tryz.ntmps198
 go_wp2_with fail
 rw[HWB.out,HN.out]
 obtain ⟨qDD9, hDD9⟩ := VR n
 have HDD9 := Z hDD9
 clear hDD9
 go_loopw [0] (fun x w'=>∃ k,Zv w' n k x∧Fr Nil wb w') (fun x w'=>qDD9 w' x)
 case atStart=>exact⟨k,HV.out,G _ _⟩
 case round =>
  obtain⟨j,hj,hf⟩:=hrel
  have hcN:=(HB.out.fr hf id).cell
  cases j with
  | zero =>
   obtain⟨e,c,f,rfl,he⟩:=hj
   have el:=Oa ⟨a,0,none⟩ ⟨t,0,none⟩ wr ((HA.out.fr hf id).cell 0)
   have hnew:=Blk.new wr [.pointer (some ⟨e,0,none⟩)] 225
   have htw:=HT.out.fr hf id
   have htn:=htw.alloc (.cells #[.pointer (some ⟨e,0,none⟩)] 225)
   have st:=Mx ⟨t,0,none⟩ ⟨wr.heap.size,0,none⟩ ⟨e,0,none⟩ (.pointer none) (wr.alloc (.cells #[.pointer (some ⟨e,0,none⟩)] 225)) (hnew.cell 0) (htn.cell 0) (htn.frozen 0)
   have hset:=htn.set 0 (.pointer (some ⟨e,0,none⟩))
   have HC:=Z (hset.cell 0)
   have HE0:=Z ((he.alloc (.cells #[.pointer (some ⟨e,0,none⟩)] 225)).far (b':=t) (he.ne htw (by decide)) 0 (.pointer (some ⟨e,0,none⟩)))
   have HFR:Hid (Fr (fun k=>k=t) w ((wr.alloc (.cells #[.pointer (some ⟨e,0,none⟩)] 225)).setCell ⟨t,0,none⟩ (.pointer (some ⟨e,0,none⟩)))) :=
    Z (Fr.set (S:=fun k=>k=t) (p:=⟨t,0,none⟩) (((HF.out.trans hf).mono (fun _ _ h=>absurd h id)).alloc _) (fun _=>rfl) _)
   clear he hf hnew htw htn hset
   go_wp2
   go_ret
   exact⟨rfl,e,c,f,HC.out,HE0.out,HFR.out⟩
  | succ j =>
   obtain⟨e,what,v',rfl,he,hj⟩:=hj
   obtain⟨t1,b1,rfl⟩:=hj.form
   have HU:=Z (RX e what _ wr he t1 b1 rfl)
   have HD:Hid (qDD9 wr (.iface t1 (.pointer (some ⟨b1,0,none⟩)))=j∧qDD9 wr (.iface 202 (.pointer (some ⟨e,0,none⟩)))=j+1):=⟨HDD9.out _ _ _ hj,HDD9.out _ _ _ ⟨e,what,_,rfl,he,hj⟩⟩
   have HFF:=Z hf
   have HJ:=Z hj
   clear he hf hj
   go_wp2_with (refine HU.out.mono ?_;rintro e w1 ⟨rfl,hw1⟩;subst w1)
   exact⟨⟨j,HJ.out,HFF.out⟩,by rw[HD.out.1,HD.out.2];omega⟩
theorem Mz(n:Int)(v:Value)(t:Nat)(w:World)(hv:ERep w v (some n))(ht:Blk w t [.pointer none] 225)(hg:Hnd w) :
  Calls Tryz.prog 154 #[v,.iface 227 (.pointer (some ⟨t,0,none⟩))] w fun e w'=>e=.returned (.bool true)∧Nw n t w w':=by
 have h6:=@run_callFunc_extern Tryz.prog 195 _ (fun args=>ReflectliteValue.unpack (args.getD 0 (.tuple #[]))) Tryz.func195 (by kernel_rfl) (by kernel_rfl) (by kernel_rfl) (by kernel_rfl)
 have h7:=@run_callFunc_extern Tryz.prog 196 _ (ReflectliteValue.methodAny (ReflectliteValue.valueError "reflectlite.Value.Type" 0) (fun t _ _ _=>ReflectliteType.toType t)) Tryz.func196 (by kernel_rfl) (by kernel_rfl) (by kernel_rfl) (by kernel_rfl)
 have h8:=@run_callFunc_extern Tryz.prog 197 _ (ReflectliteValue.method (ReflectliteValue.valueError "reflectlite.Value.IsNil" 0) ReflectliteValue.isNil) Tryz.func197 (by kernel_rfl) (by kernel_rfl) (by kernel_rfl) (by kernel_rfl)
 have h27:=@run_callFunc_extern Tryz.prog 271 _ (ReflectliteType.abiMethod fun t=>do pure (.int .u8 (← Rtype.kind t))) Tryz.func271 (by kernel_rfl) (by kernel_rfl) (by kernel_rfl) (by kernel_rfl)
 have h37:=@run_callFunc_extern Tryz.prog 316 _ (ReflectliteType.method ReflectliteType.elem) Tryz.func316 (by kernel_rfl) (by kernel_rfl) (by kernel_rfl) (by kernel_rfl)
 have h38:=@run_callFunc_extern Tryz.prog 317 _ (ReflectliteType.relation "Implements" ReflectliteType.implements_) Tryz.func317 (by kernel_rfl) (by kernel_rfl) (by kernel_rfl) (by kernel_rfl)
 have f6:=RV
 have f7:=Nr
 have mK:=Sv
 have mE:=Sw
 have mI:=V3
 have k27:=Ns
 have k25:=Nt
 have e27:=Nu
 have i25:=UN
 obtain⟨k,hk⟩:=hv
 obtain⟨t1,b1,rfl⟩:=hk.form
 have hA:=Blk.new w [.pointer (some ⟨t,0,none⟩)] 227
 have fa:Fr Nil w (w.alloc (.cells #[.pointer (some ⟨t,0,none⟩)] 227)):=(G _ _).alloc _
 have s1:(w.alloc (.cells #[.pointer (some ⟨t,0,none⟩)] 227)).heap.size=w.heap.size+1:=Xv _ _
 generalize hwa:w.alloc (.cells #[.pointer (some ⟨t,0,none⟩)] 227)=wa at hA fa s1
 have hB:=Blk.new wa [.pointer (some ⟨6,227,none⟩),.pointer (some ⟨w.heap.size,0,none⟩),.int .u64 150] 281
 have fb:Fr Nil wa (wa.alloc (.cells #[.pointer (some ⟨6,227,none⟩),.pointer (some ⟨w.heap.size,0,none⟩),.int .u64 150] 281)):=(G _ _).alloc _
 generalize hwb:wa.alloc (.cells #[.pointer (some ⟨6,227,none⟩),.pointer (some ⟨w.heap.size,0,none⟩),.int .u64 150] 281)=wb at hB fb
 have hA2:=hA.fr fb id
 have n8:=O9 ⟨w.heap.size,0,none⟩ ⟨t,0,none⟩ wb (hA2.cell 0)
 have hcb:=hB.cell
 have hgb:wb.cell? ⟨0,0,none⟩=some (.iface 309 (.agg #[.pointer (some ⟨6,132,none⟩)])):=((fa.trans fb).cell (by have:=hg;unfold Hnd World.cell? at this;simp only;rcases Nat.lt_or_ge 0 w.heap.size with h|h;exact h;rw[Array.getElem?_eq_none h] at this;cases this) id).trans hg
 have HC:=Z (Nx n k (.iface t1 (.pointer (some ⟨b1,0,none⟩))) t w.heap.size wb (hk.fr (fa.trans fb) (YX.nil w)) (ht.fr (fa.trans fb) id) hA2)
 have HF:=Z (fa.trans fb)
 rw[s1] at hcb
 clear hA hA2 hB hk ht hg fa fb s1
 subst hwb
 subst hwa
 go_enter Tryz.func154,Tryz.ntmps154
 go_wp2_with fail
 refine HC.out.mono ?_
 rintro e w2 ⟨rfl,e1,c1,g1,h1,h2,h3⟩
 have H1:=Z h1
 have H2:=Z h2
 have H3:Hid (Fr (fun k=>k=t) w w2):=(HF.out.mono (fun _ _ h=>absurd h id)).trans h3
 clear h1 h2 h3
 go_wp2
 go_ret
 exact⟨rfl,e1,c1,g1,H1.out,H2.out,H3.out⟩
theorem Od:zr:=by
 intro B w v n ht hv
 have hA:=Blk.new w [.pointer none] 225
 have fa:Fr Nil w (w.alloc (.cells #[.pointer none] 225)):=(G _ _).alloc _
 have HC:=Z (Mz n v w.heap.size _ (hv.fr fa (YX.nil w)) hA (show Hnd _ from(fa.cell (by have:=ht.2.2.1;unfold Hnd World.cell? at this;simp only;rcases Nat.lt_or_ge 0 w.heap.size with h|h;exact h;rw[Array.getElem?_eq_none h] at this;cases this) id).trans ht.2.2.1))
 have HF:=Z fa
 have HLT:=Z (show ∀ k,k<w.heap.size→k≠w.heap.size from fun k h=>by omega)
 clear hA fa ht hv
 go_enter Tryz.func97,Tryz.ntmps97
 go_wp2_with fail
 refine HC.out.mono ?_
 rintro e w2 ⟨rfl,e1,c1,g1,h1,h2,h3⟩
 have hc2:=h2.cell 2
 have H3:Hid (Fr Nil w w2):=HF.out.trans' h3 (fun i hi e=>absurd e (HLT.out i hi))
 clear h2 h3
 go_wp2
 go_ret
 exact⟨rfl,H3.out⟩
end Go.Proofs.YtkhnggkkiefcdaaGreatDoor
namespace Go.Proofs.YtkhnggkkiefcdaaGreatDoor
open Go.RowKit
set_option maxRecDepth 100000
set_option maxHeartbeats 8000000
def UP:ByteArray:={data:=#[97]}
def YD:ByteArray:={data:=#[97,32,116,114,105,97,108]}
theorem Rest.copy{T:Nat}{W:WM}{M M':DM}{m:LM}{ss:List Seg}{t:Nat}(h:Rest T W M m ss t)(hd:DInv T M' t)(hl:Lies M' ss):Rest T W M' m ss t :=
 ⟨hd,hl,h.ok,h.few,h.held,h.keys,h.hints,h.most,h.lease,h.calls,h.nk,h.last,h.len,h.next,h.base,h.bvs,h.bvm,h.bns,h.bnm,h.bhs,h.bhm,h.node⟩
theorem Rest.short{T:Nat}{W:WM}{M:DM}{m:LM}{ss:List Seg}{t:Nat}(h:Rest T W M m ss t)(ht:t≤1000000):ss.length<1000000000:=by
 have h1:=h.disk.dir
 have h2:=h.lies.length
 omega
theorem Rest.lims{T:Nat}{W:WM}{M:DM}{m:LM}{ss:List Seg}{t:Nat}(h:Rest T W M m ss t)(ht:t≤T):∀ i,(((zl ss).take i).foldl SM.enter SM.nil).keys.length<1099511627776∧(((zl ss).take i).foldl SM.enter SM.nil).hints.length<1000000 :=
 Rest.small h.disk h.lies ht h.few
theorem UQ(herr:zr)(T:Nat)(K:Nat→Prop)(B:Nat)(L:WL)(W:WM)(LD:DL)(M:DM)(m:LM)(ss:List Seg)(t:Nat)(w:World)(h:WAt K w L W)(hd:DRep w L.db LD M)(htab:Y8 B w)(hB:B≤w.heap.size)(hr:Rest T W M m ss t)(hT:t+20≤T)(hT9:T≤900000) :
  Calls Tryz.prog 53 #[.pointer (some ⟨L.wb,0,none⟩)] w fun e w'=>e=.returned (.tuple #[])∧Fr Nil w w':=by
 have hcw:∀ wx,Fr Nil w wx→∀ k,wx.cell? ⟨L.wb,k,none⟩=(W.cells L)[k]?:=fun wx f=>(h.nil f).blk.cell
 have HCW:=Z hcw
 have hc0:=hcw w (G _ _)
 simp only[WM.cells] at hc0
 have HTAB:=Z htab
 have HCOPY:=Z (Vp hd hr.disk (by omega) hr.lies)
 have HR:=Z hr
 have HBW:=Z hB
 clear h hd hcw htab hB hr
 go_enter Tryz.func53,Tryz.ntmps53
 go_wp2_with fail
 refine HCOPY.out.mono ?_
 rintro e w1 ⟨b1,L1,M1,rfl,ho1,hM1,hs1,_,_,_⟩
 have hnew:∀ k,Foot b1 L1 M1 k→w.heap.size≤k:=ho1.new
 have hb1:w.heap.size≤b1:=hnew b1 .blk
 have HO:=Z ho1
 have HNEW:=Z hnew
 have HB1:=Z hb1
 have HR3:=Z (HR.out.copy hM1.off hs1.off)
 clear ho1 hM1 hs1 hnew hb1 hc0 HCOPY
 go_wp2_with fail
 refine(Ou 0 w1 b1 L1 M1 HO.out.rep).mono ?_
 rintro e w2 ⟨rfl,hd2,hf2⟩
 have HF2:=Z (HO.out.fr.trans' (S':=fun k=>k=b1) hf2 (fun i hi e=>by have:=HB1.out;omega))
 have HD2:=Z hd2
 clear hd2 hf2
 go_wp2_with fail
 refine(Pi 0 0 w2 b1 L1 (M1.setCut 0) HD2.out).mono ?_
 rintro e w3 ⟨rfl,hd3,hf3⟩
 have HF3:=Z (HF2.out.trans' (S':=fun k=>k=b1) hf3 (fun i hi e=>by have:=HB1.out;omega))
 have hnew3:∀ k,Foot b1 L1 ((M1.setCut 0).setFail 0 0) k→w.heap.size≤k:=HNEW.out
 generalize (M1.setCut 0).setFail 0 0=M3 at hd3 hnew3 HR3
 have HD3:=Z hd3
 have HN3:=Z hnew3
 have hc3:=HCW.out w3 HF3.out
 simp only[WM.cells] at hc3
 clear hd3 hf3 hnew3 HO HD2 HNEW
 cases hcfg:zC W.node 1000 0 with
 | false =>
  have HOP:=Z (fun wx=>RQ b1 W.node 1000 0 hcfg wx)
  clear hcfg
  go_wp2_with fail
  refine(HOP.out _).mono ?_
  rintro e w4 ⟨rfl,hf4⟩
  have HF4:=Z (HF3.out.trans hf4)
  clear hf4 hc3
  go_wp2_with fail
  exact bodyPost_end (v:=.tuple #[]) (by simp[results,go_sem]) rfl ⟨rfl,HF4.out⟩
 | true =>
  obtain⟨n,hn,hn4⟩:∃ n:Nat,W.node=n∧n<4:=by
   unfold zC zt at hcfg
   simp only[Bool.and_eq_true,decide_eq_true_eq] at hcfg
   exact⟨W.node.toNat,by omega,by omega⟩
  rw[hn] at hc3 hcfg
  have HOP:=Z (Vq B b1 L1 M3 n 1000 0 ss hcfg w3 HD3.out HR3.out.lies HR3.out.ok (HR3.out.short (by omega)) (HR3.out.lims (by omega)) (HTAB.out.fr HBW.out HF3.out (fun _ e=>absurd e id)) (Nat.le_trans HBW.out HF3.out.size) (fun k hk=>Nat.le_trans HBW.out (HN3.out k hk)))
  have HCN:Hid (∀ wx,Fr Nil w wx→wx.cell? ⟨L.wb,0,none⟩=some (.int .i64 n)):=fun wx f=>by rw[HCW.out wx f];simp only[WM.cells,hn];rfl
  have HWN:=Z hn
  clear hcfg hn
  go_wp2_with fail
  refine HOP.out.mono ?_
  rintro e w4 ⟨X4,rfl,hr4,hdb,hfoot,_,hf4⟩
  have F4:=HF3.out.trans' (S':=Foot b1 L1 M3) hf4 (fun i hi e=>by have:=HN3.out i e;omega)
  have hfoot4:∀ k,NFoot X4 M3 k→w.heap.size≤k:=fun k hk=>(hfoot k hk).elim (HN3.out k) (fun e=>Nat.le_trans HF3.out.size e)
  have he4:ZT B X4 M3 w4:=⟨(HTAB.out.fr HBW.out F4 (fun _ e=>absurd e id)).1,Nat.le_trans HBW.out F4.size,fun k hk=>Nat.le_trans HBW.out (hfoot4 k hk)⟩
  have hinv:=HR3.out.opened (W':={W with calls:=W.calls+1,broken:=false,writes:=0}) (u:=t+1) (Nat.le_refl _) n 1000 0 HWN.out rfl rfl rfl rfl rfl HR3.out.last (Nat.le_refl _) rfl rfl rfl
  have hids4:∀ g∈M3.ids,g<w4.heap.size:=fun g hg=>(hr4.disk.files g hg).lt
  have hput:=hinv.put (H0:=w4.heap.size) (by omega) hn4 hids4 UP YD (by decide) (by decide)
  have HPUT:=Z (XU herr B X4 (NM.opened n 1000 0 ss) M3 UP YD w4 hr4 he4 (fun u hu=>((hinv.held.get UP).2.2 u hu).node) (fun _ _=>hput.1 _ (Nat.le_refl _)))
  have HPL:=Z hput.2
  have HF4:=Z F4
  have HE4:=Z he4
  have HFT4:=Z hfoot4
  clear hc3 hr4 hdb hfoot hf4 F4 hfoot4 he4 hinv hids4 hput
  unfold UP YD at HPUT
  go_wp2_with fail
  refine HPUT.out.mono ?_
  rintro e w5 ⟨f,g,X5,rfl,hf5,hg5,hap5,hs5⟩
  obtain⟨-,-,-,-,hinv5⟩:=HPL.out f g hf5 hg5 hap5
  unfold UP YD at hinv5
  generalize WM.took _ _=W5 at hinv5
  generalize ((NM.opened n 1000 0 ss).put M3 {data:=#[97]} {data:=#[97,32,116,114,105,97,108]} f g).2.2.1=N5 at hs5 hinv5
  generalize ((NM.opened n 1000 0 ss).put M3 {data:=#[97]} {data:=#[97,32,116,114,105,97,108]} f g).2.2.2=M5 at hs5 hinv5
  have F5:=HF4.out.trans' (S':=NFoot X4 M3) hs5.fr (fun i hi e=>by have:=HFT4.out i e;omega)
  have hfoot5:∀ k,NFoot X5 M5 k→w.heap.size≤k:=fun k hk=>(hs5.foot k hk).elim (HFT4.out k) (fun e=>Nat.le_trans HF4.out.size e)
  have he5:ZT B X5 M5 w5:=HE4.out.step hs5
  have hnb5:=hs5.same.nb
  have HHINT:=Z (Xu herr B X5 N5 M5 (((n:Int)+1)%4) YD w5 hs5.rep he5 (fun h1 h2=>hinv5.fitH (H0:=w5.heap.size) (by omega) (fun g hg=>(hs5.rep.disk.files g hg).lt) _ _ _ (Nat.le_refl _) h1 h2))
  unfold YD at HHINT
  rw[hnb5] at HHINT
  have hcn:=HCN.out w5 F5
  have hw1:IntKind.i64.wrap ((n:Int)+1)=(n:Int)+1:=by rw[IntKind.wrap_i64];omega
  have HF5:=Z F5
  have HE5:=Z he5
  have HFT5:=Z hfoot5
  have HNB5:=Z hnb5
  clear hs5 hinv5 F5 hfoot5 he5 HPL HPUT HOP hf5 hg5 hap5 hnb5
  go_wp2_with fail
  refine HHINT.out.mono ?_
  rintro e w6 ⟨f6,X6,rfl,hf6,hs6⟩
  generalize (N5.hint M5 _ _ f6).2.1=N6 at hs6
  generalize (N5.hint M5 _ _ f6).2.2=M6 at hs6
  have F6:=HF5.out.trans' (S':=NFoot X5 M5) hs6.fr (fun i hi e=>by have:=HFT5.out i e;omega)
  have hfoot6:∀ k,NFoot X6 M6 k→w.heap.size≤k:=fun k hk=>(hs6.foot k hk).elim (HFT5.out k) (fun e=>Nat.le_trans HF5.out.size e)
  have HSYNC:=Z (Wm herr B X6 N6 M6 w6 hs6.rep (HE5.out.step hs6))
  rw[hs6.same.nb,HNB5.out] at HSYNC
  have HF6:=Z F6
  have HFT6:=Z hfoot6
  clear hs6 F6 hfoot6 hcn
  go_wp2_with fail
  refine HSYNC.out.mono ?_
  rintro e w7 ⟨X7,rfl,hs7⟩
  have HF7:=Z (HF6.out.trans' (S':=NFoot X6 M6) hs7.fr (fun i hi e=>by have:=HFT6.out i e;omega))
  clear hs7
  go_wp2_with fail
  exact bodyPost_end (v:=.tuple #[]) (by simp[results,go_sem]) rfl ⟨rfl,HF7.out⟩
theorem WAt.disk'{K:Nat→Prop}{w:World}{L:WL}{W:WM}(h:WAt K w L W)(b:Nat):WAt K (w.setCell ⟨L.wb,4,none⟩ (.pointer (some ⟨b,0,none⟩))) {L with db:=b} W∧Fr (fun k=>k=L.wb) w (w.setCell ⟨L.wb,4,none⟩ (.pointer (some ⟨b,0,none⟩))):=by
 have f:Fr (fun k=>k=L.wb) w (w.setCell ⟨L.wb,4,none⟩ (.pointer (some ⟨b,0,none⟩))):=Fr.set (S:=fun k=>k=L.wb) (p:=⟨L.wb,4,none⟩) (G _ _) (fun _=>rfl) _
 refine⟨h.own (L':={L with db:=b}) (W':=W) ?_ f rfl rfl rfl rfl rfl rfl rfl rfl rfl rfl rfl,f⟩
 have:=h.blk.set 4 (.pointer (some ⟨b,0,none⟩))
 simpa [WM.cells] using this
theorem WAt.node'{K:Nat→Prop}{w:World}{L:WL}{W:WM}(h:WAt K w L W)(v:Value):WAt K (w.setCell ⟨L.wb,5,none⟩ v) {L with nv:=v} W∧Fr (fun k=>k=L.wb) w (w.setCell ⟨L.wb,5,none⟩ v):=by
 have f:Fr (fun k=>k=L.wb) w (w.setCell ⟨L.wb,5,none⟩ v):=Fr.set (S:=fun k=>k=L.wb) (p:=⟨L.wb,5,none⟩) (G _ _) (fun _=>rfl) _
 refine⟨h.own (L':={L with nv:=v}) (W':=W) ?_ f rfl rfl rfl rfl rfl rfl rfl rfl rfl rfl rfl,f⟩
 have:=h.blk.set 5 v
 simpa [WM.cells] using this
theorem Ny(herr:zr)(T:Nat)(K:Nat→Prop)(B:Nat)(L:WL)(W:WM)(LD:DL)(M:DM)(m:LM)(ss:List Seg)(t:Nat)(nd seg syn:Int)(w:World)(h:WAt K w L W)(hd:DRep w L.db LD M)(htab:Y8 B w)(hB:B≤w.heap.size)(hlow:∀ k,WFoot L k→B≤k)(hr:Rest T W M m ss t)(hT:t+20≤T)(hT9:T≤900000)(hnd:W.node=nd)
  (hcfg:zC nd seg syn=false)(hca:W.calls<100000000) :
  Calls Tryz.prog 17 #[.pointer (some ⟨L.wb,0,none⟩),.int .i64 seg,.int .i64 syn] w fun e w'=>e=.returned (.bool true)∧∃ b2 L2 M2,WAt K w' {L with db:=b2,nv:=.pointer none} {W with calls:=W.calls+1}∧DRep w' b2 L2 M2∧(∀ k,Foot b2 L2 M2 k→w.heap.size≤k)∧DInv T M2 t∧Lies M2 ss∧Fr (WFoot L) w w':=by
 have hd':=hd
 have hcw:∀ wx,Fr Nil w wx→∀ k,wx.cell? ⟨L.wb,k,none⟩=(W.cells L)[k]?:=fun wx f=>(h.nil f).blk.cell
 have hc0:=hcw w (G _ _)
 simp only[WM.cells] at hc0
 have HCW:=Z hcw
 have HDEAD:=Z (Ud w L.db LD M hd)
 rw[hr.disk.calm.dead] at HDEAD
 have HTRI:=Z (UQ herr T K B L W LD M m ss t w h hd htab hB hr hT hT9)
 have HCOPY:=Z (fun wx (f:Fr Nil w wx)=>Vp (hd.nil f) hr.disk (by omega) hr.lies)
 have HH:=Z h
 have HTAB:=Z htab
 have HBB:=Z hB
 have HW:=Z hnd
 have HCF:=Z hcfg
 clear h hd hd' hcw htab hr hnd hcfg
 go_enter Tryz.func17,Tryz.ntmps17
 go_wp2_with (refine HDEAD.out.mono ?_;rintro e wx ⟨rfl,hwx⟩;subst wx)
 refine HTRI.out.mono ?_
 rintro e w1 ⟨rfl,f1⟩
 have hc1:=HCW.out w1 f1
 simp only[WM.cells] at hc1
 have HF1:=Z f1
 clear hc0 f1
 go_wp2_with fail
 refine(HCOPY.out w1 HF1.out).mono ?_
 rintro e w2 ⟨b2,L2,M2,rfl,ho2,hM2,hs2,hr2,hfl2,hcl2⟩
 have F2:=HF1.out.trans ho2.fr
 have hW2:=HH.out.nil F2
 obtain⟨hW3,hf3⟩:=hW2.disk' b2
 have hc2:=hW2.blk.cell
 have hz2:=hW2.blk.frozen
 simp only[WM.cells,HW.out] at hc2
 have hbw:∀ k,Foot b2 L2 M2 k→¬k=L.wb:=fun k hk e=>by subst e;have:=ho2.new _ hk;have:=HF1.out.size;have:=HH.out.blk.lt;omega
 have hD3:=ho2.rep.fr hf3 hbw
 have hnew:∀ k,Foot b2 L2 M2 k→w.heap.size≤k:=fun k hk=>Nat.le_trans HF1.out.size (ho2.new k hk)
 have hF3:Fr (WFoot L) w _:=(F2.mono (S':=WFoot L) (fun _ _ e=>absurd e id)).trans' (hf3.mono (S':=WFoot L) (fun k _ e=>.inl e)) (fun _ _ e=>e)
 have HM2:=Z (And.intro hM2 hs2)
 have HNEW:=Z hnew
 have HW3:=Z hW3
 have HF3:=Z hF3
 have HD3:=Z hD3
 have htab3:Y8 B _:=(HTAB.out.fr HBB.out F2 (fun _ e=>absurd e id)).fr (Nat.le_trans HBB.out F2.size) hf3 (fun k e=>by subst e;exact hlow _ (.inl rfl))
 have HTAB3:=Z htab3
 clear hc1 ho2 hM2 hs2 hr2 hfl2 hcl2 F2 hW2 hW3 hf3 hbw hD3 hnew hF3 htab3
 go_wp2_with fail
 have hsz:w2.heap.size=(w2.setCell ⟨L.wb,4,none⟩ (.pointer (some ⟨b2,0,none⟩))).heap.size:=by simp[World.setCell]
 generalize w2.setCell ⟨L.wb,4,none⟩ (.pointer (some ⟨b2,0,none⟩))=w3 at HW3 HF3 HD3 HTAB3 hsz ⊢
 have hbx:=Blk.newAt w3 [.int .i64 nd,.int .i64 seg,.int .i64 syn] 102 _ hsz
 have f4:Fr Nil w3 (w3.alloc (.cells #[.int .i64 nd,.int .i64 seg,.int .i64 syn] 102)):=(G _ _).alloc _
 generalize w3.alloc (.cells #[.int .i64 nd,.int .i64 seg,.int .i64 syn] 102)=w4 at hbx f4 ⊢
 have HBX:=Z hbx
 have HF4:=Z f4
 clear hc2 hz2 hbx f4 hsz
 generalize w2.heap.size=cx at HBX ⊢
 have hx4:=HBX.out.cell
 go_wp2_with fail
 refine(Vm nd seg syn w4).mono ?_
 rintro e w5 ⟨rfl,f5⟩
 have HF5:=Z (HF4.out.trans f5)
 have HBX5:=Z (HBX.out.fr f5 id)
 rw[HCF.out]
 clear hx4 f5 HBX
 go_wp2_with fail
 refine(zQ K {L with db:=b2} W L2 M2 w5 (HW3.out.nil HF5.out) (HD3.out.nil HF5.out)).mono ?_
 rintro e w6 ⟨rfl,f6⟩
 have hmx:=Blk.new w6 [.int .i64 M2.refused,.int .i64 M2.fulls] 111
 have f7:Fr Nil w6 (w6.alloc (.cells #[.int .i64 M2.refused,.int .i64 M2.fulls] 111)):=(G _ _).alloc _
 have hc7:=(HW3.out.nil ((HF5.out.trans f6).trans f7)).blk.cell
 simp only[WM.cells,HW.out] at hc7
 go_wp2_with fail
 generalize w6.alloc (.cells #[.int .i64 M2.refused,.int .i64 M2.fulls] 111)=w7 at hmx f7 hc7 ⊢
 have HF7:=Z ((HF5.out.trans f6).trans f7)
 have HBX7:=Z (HBX5.out.fr (f6.trans f7) id)
 have HMX:=Z hmx
 generalize w6.heap.size=mx at HMX ⊢
 clear f6 f7 hmx HBX5
 refine(zq w7 b2 L2 M2 (HD3.out.nil HF7.out)).mono ?_
 rintro e wx ⟨rfl,hwx⟩
 subst wx
 have HCK:Hid (∀ wx,Fr Nil w7 wx→wx.cell? ⟨L.wb,4,none⟩=some (.pointer (some ⟨b2,0,none⟩))∧wx.cell? ⟨cx,0,none⟩=some (.int .i64 nd)∧wx.cell? ⟨cx,1,none⟩=some (.int .i64 seg)∧wx.cell? ⟨cx,2,none⟩=some (.int .i64 syn)) :=
  fun wx f=>⟨(HW3.out.nil (HF7.out.trans f)).blk.cell 4,(HBX7.out.fr f id).cell 0,(HBX7.out.fr f id).cell 1,(HBX7.out.fr f id).cell 2⟩
 clear hc7
 go_wp2_with fail
 have hcc:=HCK.out w7 (G _ _)
 have HOP:=Z (fun wx=>RQ b2 nd seg syn HCF.out wx)
 go_region_held3 (fun wx=>wx.cell? ⟨L.wb,4,none⟩=some (.pointer (some ⟨b2,0,none⟩))∧wx.cell? ⟨cx,0,none⟩=some (.int .i64 nd)∧wx.cell? ⟨cx,1,none⟩=some (.int .i64 seg)∧wx.cell? ⟨cx,2,none⟩=some (.int .i64 syn)) (first|assumption|go_keep|exact HCK.out _ (by repeat' first|(with_reducible first|apply G|assumption|apply O|apply U|apply V|apply z6)|(intro _;rfl)))
  (first|(go_at_call 49;refine(HOP.out _).mono ?_;rintro e w8 ⟨rfl,hf8⟩;have hF8:Fr Nil w7 w8:=Fr.trans (by repeat' first|(with_reducible first|apply G|assumption|apply O|apply U|apply V|apply z6)|(intro _;rfl)) hf8;have hz8:=HCK.out w8 hF8;have HF8:=Z (HF7.out.trans hF8);clear hf8 hF8))
 have hW8:=HW3.out.nil HF8.out
 have hc8:=hW8.blk.cell
 have hfz8:=hW8.blk.frozen
 simp only[WM.cells] at hc8
 have hwc:IntKind.i64.wrap ((W.calls:Int)+1)=((W.calls+1:Nat):Int):=by rw[IntKind.wrap_i64];push_cast;omega
 have hS9:=WStep.set hW8 11 (.int .i64 ((W.calls+1:Nat):Int)) (L':={L with db:=b2}) (W':={W with calls:=W.calls+1}) (by simp[WM.cells]) rfl rfl rfl rfl rfl rfl rfl rfl rfl rfl rfl rfl rfl
 obtain⟨hW10,hf10⟩:=hS9.rep.node' (.pointer none)
 have F9:=hS9.fr.trans' (hf10.mono (S':=WFoot {L with db:=b2}) (fun k _ e=>.inl e)) (fun _ _ e=>e)
 have hD10:=(HD3.out.nil HF8.out).fr F9 (fun k hk hw=>hW8.disk (HD3.out.nil HF8.out) hw hk)
 have HC10:=Z (zq _ b2 L2 M2 hD10)
 have HD10:=Z hD10
 have hcq:(M2.calls==M2.calls)=true:=by simp
 have HW10:=Z hW10
 have HFF:=Z ((HF3.out.trans (HF8.out.mono (S':=WFoot L) (fun _ _ e=>absurd e id))).trans F9)
 clear hcc hz8 hW8 hS9 hW10 hf10 F9 hD10
 go_wp2_with (refine HC10.out.mono ?_;rintro e wx ⟨rfl,hwx⟩;subst wx)
 go_ret
 exact⟨rfl,b2,L2,M2,HW10.out,HD10.out,HNEW.out,HM2.out.1,HM2.out.2,HFF.out⟩
def Yd(most top:Int):List Ver→List Ver→Int→Option Int
 | [],[],n=>some n
 | a::l,u::m,n =>
  if u.seq=0 then(if a.seq≤most∨top<a.seq then none else if Z7 {a with seq:=0} u then Yd most top l m a.seq else none)
  else if Z7 a u then Yd most top l m n else none
 | _,_,_=>none
theorem WP{most top:Int}:∀ {l m:List Ver}{n:Int},l.length≠m.length→Yd most top l m n=none
 | [],[],_,h=>absurd rfl h
 | [],_::_,_,_=>rfl
 | _::_,[],_,_=>rfl
 | a::l,u::m,n,h=>by
  have hl:l.length≠m.length:=fun e=>h (by simp[e])
  unfold Yd
  rw[WP (n:=a.seq) hl,WP (n:=n) hl]
  simp
theorem VS{most top:Int}:∀ {m:List Ver}{n:Int},(∀ u∈m,u.seq≠0)→Yd most top m m n=some n
 | [],_,_=>rfl
 | u::m,n,h=>by
  unfold Yd
  rw[if_neg (h u (List.mem_cons_self ..)),if_pos ((Vn _ _).2 rfl),VS (n:=n) (fun v hv=>h v (List.mem_cons_of_mem _ hv))]
def LH(o:Option Int):Int:=o.getD 0
theorem QV(K:Nat→Prop)(L:WL)(W:WM)(v1 v2:Value)(l1 l2:List Ver)(w:World)(h:WAt K w L W)(hc:W.calls<100000000)(h1:VRow w v1 l1)(h2:VRow w v2 l2)(hl:l1.length<1000000000) :
  Calls Tryz.prog 155 #[.pointer (some ⟨L.wb,0,none⟩),v1,v2] w fun e w'=>e=.returned (.tuple #[.int .i64 (LH (Yd W.most (16*W.calls) l1 l2 0)),.bool (Yd W.most (16*W.calls) l1 l2 0).isSome])∧Fr Nil w w':=by
 unfold VRow at h1 h2
 obtain⟨a1,c1,rfl⟩:=z8 h1
 obtain⟨a2,c2,rfl⟩:=z8 h2
 have H1:=Z h1
 have H2:=Z h2
 have HCW:Hid (∀ wx,Fr Nil w wx→wx.cell? ⟨L.wb,11,none⟩=some (.int .i64 W.calls)∧wx.cell? ⟨L.wb,12,none⟩=some (.int .i64 W.most)):=fun wx f=>⟨(h.nil f).blk.cell 11,(h.nil f).blk.cell 12⟩
 have hm:IntKind.i64.wrap (16*(W.calls:Int))=16*(W.calls:Int):=by rw[IntKind.wrap_i64];omega
 generalize (W.most:Int)=mo at HCW ⊢
 clear h h1 h2
 generalize hr:Yd mo (16*W.calls) l1 l2 0=r
 by_cases hlen:l1.length=l2.length
 ·have HL:=Z hlen
  have HR:=Z hr
  generalize hn:l1.length=n at hl hlen H1 ⊢
  rw[← hlen] at H2 ⊢
  have HN:=Z hn
  clear hlen hn hr
  go_enter Tryz.func155,Tryz.ntmps155
  go_wp2_with fail
  go_loopw [8,9] (fun t8 t9 w'=>∃ (i:Nat) (s:Int),i≤n∧t8=.int .i64 s∧t9=.int .i64 i∧Yd mo (16*W.calls) (l1.drop i) (l2.drop i) s=r∧Fr Nil w w') (fun _ t9 _=>n-(intOf t9).toNat)
  case atStart=>exact⟨0,0,by omega,rfl,rfl,by rw[List.drop_zero,List.drop_zero];exact HR.out,G _ _⟩
  case round =>
   obtain⟨i,s,hi,rfl,rfl,hs,hf⟩:=hrel
   by_cases hlt:i<n
   ·have hi1:i<l1.length:=by have:=HN.out;omega
    have hi2:i<l2.length:=by have:=HL.out;omega
    obtain⟨g1,c1',e1,_,_⟩:=zi H1.out (by omega)
    obtain⟨g2,c2',e2,_,_⟩:=zi H2.out (by omega)
    simp only[Value.slice.injEq] at e1 e2
    obtain⟨rfl,-,-⟩:=e1
    obtain⟨rfl,-,-⟩:=e2
    rw[List.drop_eq_getElem_cons hi1,List.drop_eq_getElem_cons hi2] at hs
    unfold Yd at hs
    have hx1:∀ wx,Fr Nil wr wx→∀ k,k<8→wx.cell? ⟨g1,i*8+k,none⟩=l1[i].cells[k]?:=fun wx f k hk=>VRow.cells (z7 H1.out (hf.trans f) (fun _ _=>id)) i hi1 k hk
    have hx2:∀ wx,Fr Nil wr wx→wx.cell? ⟨g2,i*8+1,none⟩=l2[i].cells[1]?:=fun wx f=>VRow.cells (z7 H2.out (hf.trans f) (fun _ _=>id)) i hi2 1 (by omega)
    obtain⟨V1,hp1⟩:∃ p,p=l1[i]:=⟨_,rfl⟩
    obtain⟨V2,hp2⟩:∃ p,p=l2[i]:=⟨_,rfl⟩
    rw[← hp1] at hx1 hs
    rw[← hp2] at hx2 hs
    have HP2:=Z hp2
    have HF:=Z hf
    have hz2:∀ wx,Fr Nil wr wx→wx.cell? ⟨g2,i*8+1,none⟩=some (.int .i64 V2.seq):=fun wx f=>hx2 wx f
    obtain⟨xnode,xseq,x0,x1,x2,x3,xvalue,xgone⟩:=V1
    have y0:wr.cell? ⟨g1,i*8,none⟩=some (.int .i64 xnode):=hx1 wr (G _ _) 0 (by omega)
    have y1:wr.cell? ⟨g1,i*8+1,none⟩=some (.int .i64 xseq):=hx1 wr (G _ _) 1 (by omega)
    have y2:wr.cell? ⟨g1,i*8+2,none⟩=some (.int .i64 x0):=hx1 wr (G _ _) 2 (by omega)
    have y3:wr.cell? ⟨g1,i*8+3,none⟩=some (.int .i64 x1):=hx1 wr (G _ _) 3 (by omega)
    have y4:wr.cell? ⟨g1,i*8+4,none⟩=some (.int .i64 x2):=hx1 wr (G _ _) 4 (by omega)
    have y5:wr.cell? ⟨g1,i*8+5,none⟩=some (.int .i64 x3):=hx1 wr (G _ _) 5 (by omega)
    have y6:wr.cell? ⟨g1,i*8+6,none⟩=some (.string xvalue):=hx1 wr (G _ _) 6 (by omega)
    have y7:wr.cell? ⟨g1,i*8+7,none⟩=some (.bool xgone):=hx1 wr (G _ _) 7 (by omega)
    have HFA:=Z (HF.out.alloc (.cells #[.int .i64 xnode,.int .i64 0,.int .i64 x0,.int .i64 x1,.int .i64 x2,.int .i64 x3,.string xvalue,.bool xgone] 37))
    have hw11:=(HCW.out _ HFA.out).1
    have hw12:=(HCW.out _ HFA.out).2
    have z2:=hz2 _ ((G Nil wr).alloc (.cells #[.int .i64 xnode,.int .i64 xseq,.int .i64 x0,.int .i64 x1,.int .i64 x2,.int .i64 x3,.string xvalue,.bool xgone] 37))
    clear hp1 hp2 hx1 hx2 hz2 hf
    by_cases hz:V2.seq=0
    ·rw[if_pos hz] at hs
     rw[hz] at z2
     by_cases c1:xseq≤mo
     ·rw[if_pos (.inl c1)] at hs
      subst hs
      go_wp2_with fail
      go_ret2
      exact⟨rfl,HFA.out⟩
     by_cases c2:16*(W.calls:Int)<xseq
     ·rw[if_pos (.inr c2)] at hs
      subst hs
      go_wp2_with fail
      go_ret2
      exact⟨rfl,HFA.out⟩
     rw[if_neg (fun e=>e.elim c1 c2)] at hs
     have hbx:=Blk.new wr [.int .i64 xnode,.int .i64 0,.int .i64 x0,.int .i64 x1,.int .i64 x2,.int .i64 x3,.string xvalue,.bool xgone] 37
     have fbx:Fr Nil w (wr.alloc (.cells #[.int .i64 xnode,.int .i64 0,.int .i64 x0,.int .i64 x1,.int .i64 x2,.int .i64 x3,.string xvalue,.bool xgone] 37)):=HF.out.alloc _
     go_wp2_with fail
     generalize wr.alloc (.cells #[.int .i64 xnode,.int .i64 0,.int .i64 x0,.int .i64 x1,.int .i64 x2,.int .i64 x3,.string xvalue,.bool xgone] 37)=wb at hbx fbx ⊢
     generalize wr.heap.size=nb at hbx ⊢
     have hx2:∀ wx,Fr Nil wb wx→∀ k,k<8→wx.cell? ⟨g2,i*8+k,none⟩=V2.cells[k]?:=fun wx f k hk=>by rw[HP2.out];exact VRow.cells (z7 H2.out (fbx.trans f) (fun _ _=>id)) i hi2 k hk
     have HSV:=Z (fun wx=>Ym ⟨xnode,0,x0,x1,x2,x3,xvalue,xgone⟩ V2 wx)
     have HFB:=Z fbx
     have HBX:=Z hbx
     clear HP2 hbx fbx y0 y1 y2 y3 y4 y5 y6 y7 z2
     generalize hbb:Z7 ⟨xnode,0,x0,x1,x2,x3,xvalue,xgone⟩ V2=b at hs HSV
     clear hbb
     obtain⟨node',seq',o0',o1',o2',o3',value',gone'⟩:=V2
     simp only[Ver.cells] at hx2 HSV
     have HCC:Hid (∀ wx,Fr Nil wb wx→wx.cell? ⟨nb,0,none⟩=some (.int .i64 xnode)∧wx.cell? ⟨nb,1,none⟩=some (.int .i64 0)∧wx.cell? ⟨nb,2,none⟩=some (.int .i64 x0)∧wx.cell? ⟨nb,3,none⟩=some (.int .i64 x1)∧wx.cell? ⟨nb,4,none⟩=some (.int .i64 x2)∧wx.cell? ⟨nb,5,none⟩=some (.int .i64 x3)∧wx.cell? ⟨nb,6,none⟩=some (.string xvalue)∧wx.cell? ⟨nb,7,none⟩=some (.bool xgone)∧wx.cell? ⟨g2,i*8,none⟩=some (.int .i64 node')∧wx.cell? ⟨g2,i*8+1,none⟩=some (.int .i64 seq')∧wx.cell? ⟨g2,i*8+2,none⟩=some (.int .i64 o0')∧wx.cell? ⟨g2,i*8+3,none⟩=some (.int .i64 o1')∧wx.cell? ⟨g2,i*8+4,none⟩=some (.int .i64 o2')∧wx.cell? ⟨g2,i*8+5,none⟩=some (.int .i64 o3')∧wx.cell? ⟨g2,i*8+6,none⟩=some (.string value')∧wx.cell? ⟨g2,i*8+7,none⟩=some (.bool gone')):=fun wx f=>⟨(HBX.out.fr f id).cell 0,(HBX.out.fr f id).cell 1,(HBX.out.fr f id).cell 2,(HBX.out.fr f id).cell 3,(HBX.out.fr f id).cell 4,(HBX.out.fr f id).cell 5,(HBX.out.fr f id).cell 6,(HBX.out.fr f id).cell 7,hx2 wx f 0 (by omega),hx2 wx f 1 (by omega),hx2 wx f 2 (by omega),hx2 wx f 3 (by omega),hx2 wx f 4 (by omega),hx2 wx f 5 (by omega),hx2 wx f 6 (by omega),hx2 wx f 7 (by omega)⟩
     have hcc:=HCC.out wb (G _ _)
     have HS:=Z hs
     clear hx2 hs hz
     go_region_held3 (fun w'=>w'.cell? ⟨nb,0,none⟩=some (.int .i64 xnode)∧w'.cell? ⟨nb,1,none⟩=some (.int .i64 0)∧w'.cell? ⟨nb,2,none⟩=some (.int .i64 x0)∧w'.cell? ⟨nb,3,none⟩=some (.int .i64 x1)∧w'.cell? ⟨nb,4,none⟩=some (.int .i64 x2)∧w'.cell? ⟨nb,5,none⟩=some (.int .i64 x3)∧w'.cell? ⟨nb,6,none⟩=some (.string xvalue)∧w'.cell? ⟨nb,7,none⟩=some (.bool xgone)∧w'.cell? ⟨g2,i*8,none⟩=some (.int .i64 node')∧w'.cell? ⟨g2,i*8+1,none⟩=some (.int .i64 seq')∧w'.cell? ⟨g2,i*8+2,none⟩=some (.int .i64 o0')∧w'.cell? ⟨g2,i*8+3,none⟩=some (.int .i64 o1')∧w'.cell? ⟨g2,i*8+4,none⟩=some (.int .i64 o2')∧w'.cell? ⟨g2,i*8+5,none⟩=some (.int .i64 o3')∧w'.cell? ⟨g2,i*8+6,none⟩=some (.string value')∧w'.cell? ⟨g2,i*8+7,none⟩=some (.bool gone')) (first|assumption|go_keep|exact HCC.out _ (by repeat' first|(with_reducible first|apply G|assumption|apply O|apply U|apply V|apply z6)|(intro _;rfl)))
      (first|(go_at_call 67;refine(HSV.out _).mono ?_;rintro e w2 ⟨rfl,hf2⟩;have hF2:Fr Nil wb w2:=Fr.trans (by repeat' first|(with_reducible first|apply G|assumption|apply O|apply U|apply V|apply z6)|(intro _;rfl)) hf2;have hz2:=HCC.out w2 hF2;have HF2:=Z hF2;clear hf2 hF2))
     clear hcc hz2
     cases b with
     | true =>
      go_wp2_with fail
      exact⟨⟨i+1,xseq,by omega,rfl,by push_cast;rfl,HS.out,HFB.out.trans HF2.out⟩,by simp[intOf];omega⟩
     | false =>
      have hs':none=r:=HS.out
      subst hs'
      go_wp2_with fail
      go_ret2
      exact⟨rfl,HFB.out.trans HF2.out⟩
    ·rw[if_neg hz] at hs
     have hbx:=Blk.new wr [.int .i64 xnode,.int .i64 xseq,.int .i64 x0,.int .i64 x1,.int .i64 x2,.int .i64 x3,.string xvalue,.bool xgone] 37
     have fbx:Fr Nil w (wr.alloc (.cells #[.int .i64 xnode,.int .i64 xseq,.int .i64 x0,.int .i64 x1,.int .i64 x2,.int .i64 x3,.string xvalue,.bool xgone] 37)):=HF.out.alloc _
     go_wp2_with fail
     generalize wr.alloc (.cells #[.int .i64 xnode,.int .i64 xseq,.int .i64 x0,.int .i64 x1,.int .i64 x2,.int .i64 x3,.string xvalue,.bool xgone] 37)=wb at hbx fbx ⊢
     generalize wr.heap.size=nb at hbx ⊢
     have hx2:∀ wx,Fr Nil wb wx→∀ k,k<8→wx.cell? ⟨g2,i*8+k,none⟩=V2.cells[k]?:=fun wx f k hk=>by rw[HP2.out];exact VRow.cells (z7 H2.out (fbx.trans f) (fun _ _=>id)) i hi2 k hk
     have HSV:=Z (fun wx=>Ym ⟨xnode,xseq,x0,x1,x2,x3,xvalue,xgone⟩ V2 wx)
     have HFB:=Z fbx
     have HBX:=Z hbx
     clear HP2 hbx fbx y0 y1 y2 y3 y4 y5 y6 y7 z2
     generalize hbb:Z7 ⟨xnode,xseq,x0,x1,x2,x3,xvalue,xgone⟩ V2=b at hs HSV
     clear hbb
     obtain⟨node',seq',o0',o1',o2',o3',value',gone'⟩:=V2
     simp only[Ver.cells] at hx2 HSV
     have HCC:Hid (∀ wx,Fr Nil wb wx→wx.cell? ⟨nb,0,none⟩=some (.int .i64 xnode)∧wx.cell? ⟨nb,1,none⟩=some (.int .i64 xseq)∧wx.cell? ⟨nb,2,none⟩=some (.int .i64 x0)∧wx.cell? ⟨nb,3,none⟩=some (.int .i64 x1)∧wx.cell? ⟨nb,4,none⟩=some (.int .i64 x2)∧wx.cell? ⟨nb,5,none⟩=some (.int .i64 x3)∧wx.cell? ⟨nb,6,none⟩=some (.string xvalue)∧wx.cell? ⟨nb,7,none⟩=some (.bool xgone)∧wx.cell? ⟨g2,i*8,none⟩=some (.int .i64 node')∧wx.cell? ⟨g2,i*8+1,none⟩=some (.int .i64 seq')∧wx.cell? ⟨g2,i*8+2,none⟩=some (.int .i64 o0')∧wx.cell? ⟨g2,i*8+3,none⟩=some (.int .i64 o1')∧wx.cell? ⟨g2,i*8+4,none⟩=some (.int .i64 o2')∧wx.cell? ⟨g2,i*8+5,none⟩=some (.int .i64 o3')∧wx.cell? ⟨g2,i*8+6,none⟩=some (.string value')∧wx.cell? ⟨g2,i*8+7,none⟩=some (.bool gone')):=fun wx f=>⟨(HBX.out.fr f id).cell 0,(HBX.out.fr f id).cell 1,(HBX.out.fr f id).cell 2,(HBX.out.fr f id).cell 3,(HBX.out.fr f id).cell 4,(HBX.out.fr f id).cell 5,(HBX.out.fr f id).cell 6,(HBX.out.fr f id).cell 7,hx2 wx f 0 (by omega),hx2 wx f 1 (by omega),hx2 wx f 2 (by omega),hx2 wx f 3 (by omega),hx2 wx f 4 (by omega),hx2 wx f 5 (by omega),hx2 wx f 6 (by omega),hx2 wx f 7 (by omega)⟩
     have hcc:=HCC.out wb (G _ _)
     have HS:=Z hs
     clear hx2 hs hz
     go_region_held3 (fun w'=>w'.cell? ⟨nb,0,none⟩=some (.int .i64 xnode)∧w'.cell? ⟨nb,1,none⟩=some (.int .i64 xseq)∧w'.cell? ⟨nb,2,none⟩=some (.int .i64 x0)∧w'.cell? ⟨nb,3,none⟩=some (.int .i64 x1)∧w'.cell? ⟨nb,4,none⟩=some (.int .i64 x2)∧w'.cell? ⟨nb,5,none⟩=some (.int .i64 x3)∧w'.cell? ⟨nb,6,none⟩=some (.string xvalue)∧w'.cell? ⟨nb,7,none⟩=some (.bool xgone)∧w'.cell? ⟨g2,i*8,none⟩=some (.int .i64 node')∧w'.cell? ⟨g2,i*8+1,none⟩=some (.int .i64 seq')∧w'.cell? ⟨g2,i*8+2,none⟩=some (.int .i64 o0')∧w'.cell? ⟨g2,i*8+3,none⟩=some (.int .i64 o1')∧w'.cell? ⟨g2,i*8+4,none⟩=some (.int .i64 o2')∧w'.cell? ⟨g2,i*8+5,none⟩=some (.int .i64 o3')∧w'.cell? ⟨g2,i*8+6,none⟩=some (.string value')∧w'.cell? ⟨g2,i*8+7,none⟩=some (.bool gone')) (first|assumption|go_keep|exact HCC.out _ (by repeat' first|(with_reducible first|apply G|assumption|apply O|apply U|apply V|apply z6)|(intro _;rfl)))
      (first|(go_at_call 67;refine(HSV.out _).mono ?_;rintro e w2 ⟨rfl,hf2⟩;have hF2:Fr Nil wb w2:=Fr.trans (by repeat' first|(with_reducible first|apply G|assumption|apply O|apply U|apply V|apply z6)|(intro _;rfl)) hf2;have hz2:=HCC.out w2 hF2;have HF2:=Z hF2;clear hf2 hF2))
     clear hcc hz2
     cases b with
     | true =>
      go_wp2_with fail
      exact⟨⟨i+1,s,by omega,rfl,by push_cast;rfl,HS.out,HFB.out.trans HF2.out⟩,by simp[intOf];omega⟩
     | false =>
      have hs':none=r:=HS.out
      subst hs'
      go_wp2_with fail
      go_ret2
      exact⟨rfl,HFB.out.trans HF2.out⟩
   ·have hin:i=n:=by omega
    subst hin
    have hd1:l1.drop i=[]:=List.drop_of_length_le (by have:=HN.out;omega)
    have hd2:l2.drop i=[]:=List.drop_of_length_le (by have:=HL.out;have:=HN.out;omega)
    rw[hd1,hd2] at hs
    have hs':some s=r:=hs
    subst hs'
    have HF:=Z hf
    clear hs hf hd1 hd2
    go_wp2_with fail
    go_ret2
    exact⟨rfl,HF.out⟩
 ·rw[WP hlen] at hr
  subst hr
  have hla:((l1.length:Int) != l2.length)=true:=by simp;omega
  generalize l1.length=n1 at hlen hla H1 hl
  generalize l2.length=n2 at hlen hla H2
  go_enter Tryz.func155,Tryz.ntmps155
  go_wp2_with fail
  go_ret2
  exact⟨rfl,G _ _⟩
theorem MY{K:Keys}(h:XJ K)(i:Nat)(hi:i<K.length):zc K K[i].1=K[i].2:=by
 rw[← Rl _ h]
 refine Rt i hi (fun j hj hji=>?_) (zR.2 rfl)
 cases e:(K[j].1==K[i].1) with
 | false=>rfl
 | true=>exact absurd (zR.1 e) (ZC (Asc.fst h hji hi))
theorem Nz(K:Nat→Prop)(B:Nat)(L:WL)(W:WM)(X:NL)(N:NM)(M:DM)(q:Nat)(m:LM)(w:World)(h:Play K B w L W X N M)(hq:MRep K w q m)(hro:N.readOnly=W.broken)(hmk:m.keys=N.S.keys)(hmh:m.hints=N.S.hints)
  (hkl:N.S.keys.length<100000000)(hhl:N.S.hints.length<1000000)(hheld:Y3 N.S)(hca:W.calls<100000000) :
  Calls Tryz.prog 101 #[.pointer (some ⟨L.wb,0,none⟩),.pointer (some ⟨q,0,none⟩)] w fun e w'=>e=.returned (.tuple #[.pointer (some ⟨q,0,none⟩),.bool true])∧Fr Nil w w':=by
 have HST:=Z (fun wx (f:Fr Nil w wx)=>VF X N M wx (h.node.nil f))
 have HKE:=Z (fun wx (f:Fr Nil w wx)=>Uw X N M wx (h.node.nil f) (by omega))
 have HHI:=Z (fun wx (f:Fr Nil w wx)=>VE X N M wx (h.node.nil f) hhl)
 have HGE:=Z (fun key wx (f:Fr Nil w wx)=>XS X N M key wx (h.node.nil f) (by omega) (by have:=(hheld.get key).2.1;omega))
 have HAL:=Z (fun v1 v2 l wx (f:Fr Nil w wx) (h1:VRow wx v1 l) (h2:VRow wx v2 l) (hl:l.length<1000000000)=>QV K L W v1 v2 l l wx (h.wat.nil f) hca h1 h2 hl)
 rw[hro] at HST
 obtain⟨kv,hv,ents,ha,hKb⟩:=hq
 have hel:ents.length=N.S.keys.length:=by rw[ha.pair.length,hmk]
 have HEN:Hid (∀ i (h1:i<ents.length) (h2:i<N.S.keys.length),ents[i].1=N.S.keys[i].1∧zm N.S.keys[i].1=true∧zc N.S.keys N.S.keys[i].1=N.S.keys[i].2∧N.S.keys[i].2.length≤4∧(∀ u∈N.S.keys[i].2,u.seq≠0)∧∀ wx,Fr Nil w wx→VRow wx ents[i].2 N.S.keys[i].2):=fun i h1 h2=>by
  have hm:=List.getElem_mem h2
  have e2:i<m.keys.length:=by rw[hmk];exact h2
  have e3:m.keys[i]=N.S.keys[i]:=by simp only[hmk]
  have hk:=hheld.key _ hm
  refine⟨by rw[ha.pair.key i h1 e2,e3],hheld.names _ hm,MY hheld.asc i h2,hk.2.1,fun u hu=>by have:=(hk.2.2 u hu).one;omega,fun wx f=>?_⟩
  have:=(ha.nil f).pair.get i h1 e2
  rw[e3] at this
  exact this
 have HEF:Hid (∀ e∈ents,∃ a n c,e.2=.slice a n c):=fun e he=>by obtain⟨l,hl⟩:=ha.pair.mem e he;obtain⟨a,c,hf⟩:=z8 hl;exact⟨a,_,c,hf⟩
 obtain⟨ka,kc,rfl⟩:=z8 ha.ent
 obtain⟨ja,jc,rfl⟩:=z8 ha.hint
 have hrow:=ha.hint
 have hrowk:=ha.ent
 have HQB:=Z ha.blk
 rw[hmh] at hrow HQB
 have HRK:=Z hrowk
 have HSH:Hid (∀ (v:Value) (wx:World),Fr Nil w wx→wx.ownsRow 0 75 2 v N.S.hints.length (zD N.S.hints)→Calls Tryz.prog 121 #[v,.slice ja N.S.hints.length jc] wx fun e w'=>e=.returned (.bool true)∧Fr Nil wx w'):=fun v wx f hr=>(W7 v _ _ _ wx hr (z7 hrow f (fun _ _=>id)) (by omega)).mono (fun e w' p=>by
  obtain⟨rfl,f⟩:=p
  exact⟨by simp,f⟩)
 have HCW:Hid (∀ wx,Fr Nil w wx→∀ k,wx.cell? ⟨L.wb,k,none⟩=(W.cells L)[k]?):=fun wx f=>(h.wat.nil f).blk.cell
 have hc0:=HCW.out _ (G _ _)
 simp only[WM.cells,h.nv] at hc0
 have HNV:=Z h.nv
 have HLB:Hid (L.wb<w.heap.size):=h.wat.blk.lt
 clear h ha hKb hmk hmh hro hrow hrowk hheld
 generalize hnk:N.S.keys=nk at *
 generalize N.S.hints=nh at *
 clear hnk
 rw[hel] at HQB HRK
 obtain⟨n,hnn⟩:∃ n,nk.length=n:=⟨_,rfl⟩
 obtain⟨n2,hn2⟩:∃ n2,nh.length=n2:=⟨_,rfl⟩
 rw[hnn] at HQB HRK HST HKE hkl hel
 rw[hn2] at HQB HST HHI hhl HSH
 have HNN:=Z hnn
 clear hnn hn2
 go_enter Tryz.func101,Tryz.ntmps101
 go_wp2_with fail
 refine(HST.out _ (G _ _)).mono ?_
 rintro e w1 ⟨rfl,f1⟩
 have f2:Fr Nil w (w1.alloc (.cells #[.bool W.broken,.int .i64 n,.int .i64 n2] 81)):=f1.alloc _
 have hb2:=Blk.new w1 [.bool W.broken,.int .i64 n,.int .i64 n2] 81
 have hc2:=HCW.out _ f2
 simp only[WM.cells,HNV.out] at hc2
 have HF2:=Z f2
 have HB2:=Z hb2
 clear hc0 f1 f2 hb2
 go_wp2_with fail
 refine(HKE.out _ HF2.out).mono ?_
 rintro e w3 ⟨vk,rfl,hrk,f3,_⟩
 have hF3:=HF2.out.trans f3
 have hc3:=HCW.out _ hF3
 simp only[WM.cells,HNV.out] at hc3
 obtain⟨va,vc,rfl⟩:=z8 hrk
 have HF3:=Z hF3
 have HB3:=Z (HB2.out.fr f3 (fun e=>e))
 have HRKY:=Z hrk
 clear hc2 hF3 f3 hrk
 go_wp2_with fail
 refine(HHI.out _ HF3.out).mono ?_
 rintro e w4 ⟨vh,rfl,hrh,f4,_⟩
 have hF4:=HF3.out.trans f4
 have HF4:=Z hF4
 have HB4:=Z (HB3.out.fr f4 (fun e=>e))
 have HRK4:=Z (z7 HRKY.out f4 (fun _ _=>id))
 have HRH:=Z hrh
 have hq4:=(HQB.out.fr hF4 (fun e=>e)).cell
 clear hc3 hF4 f4 hrh HRKY
 go_wp2_with fail
 refine(HSH.out _ _ HF4.out HRH.out).mono ?_
 rintro e w5 ⟨rfl,f5⟩
 have hF5:=HF4.out.trans f5
 have hs5:∀ j k,(w5.drewN j).cell? ⟨w1.heap.size,k,none⟩=[Value.bool W.broken,.int .i64 n,.int .i64 n2][k]?:=fun j=>((HB4.out.fr f5 (fun e=>e)).drewN j).cell
 have hw5:∀ j k,(w5.drewN j).cell? ⟨L.wb,k,none⟩=(W.cells L)[k]?:=fun j=>HCW.out _ (hF5.drewN j)
 have hq5:∀ j k,(w5.drewN j).cell? ⟨q,k,none⟩=_:=fun j=>(HQB.out.fr (hF5.drewN j) (fun e=>e)).cell
 simp only[WM.cells] at hw5
 have HF5:=Z hF5
 have HRK5:=Z (z7 HRK4.out f5 (fun _ _=>id))
 clear hq4 hF5 f5 HRK4
 have hd1:decide ((n:Int)=n)=true:=by simp
 have hd2:decide ((n2:Int)=n2)=true:=by simp
 have hn1:((n:Int) != n)=false:=by simp
 have hn2:((n2:Int) != n2)=false:=by simp
 have hnb:(W.broken != W.broken)=false:=by simp
 generalize W.broken=br at *
 go_wp2_with fail
 go_quiet (fail)
 clear hs5 hw5 hq5
 go_wp2_with fail
 go_loopw [1,10] (fun t1 t10 w'=>∃ i:Nat,i≤n∧t1=.pointer (some ⟨q,0,none⟩)∧t10=.int .i64 i∧Fr Nil w5 w') (fun _ t10 _=>n-(intOf t10).toNat)
 case atStart=>exact⟨0,by omega,rfl,rfl,(G _ _).drewN _⟩
 case round =>
  obtain⟨i,hi,rfl,rfl,hf⟩:=hrel
  have hqr:=(HQB.out.fr (HF5.out.trans hf) (fun e=>e)).cell
  by_cases hlt:i<n
  ·have hie:i<ents.length:=by have:=HNN.out;omega
   have hin:i<nk.length:=by have:=HNN.out;omega
   obtain⟨g,cap',hg,_,_⟩:=zi HRK.out (by omega)
   obtain⟨rfl,rfl⟩:ka=some ⟨g,0,none⟩∧kc=cap':=by simpa using hg
   obtain⟨e1,e2,e3,e4,e5,e6⟩:=HEN.out i hie hin
   have hc0:=own_cell? (z7 HRK.out (HF5.out.trans hf) (fun _ _=>id)) (i*2) _ (zU ents i hie).1
   have hc1:=own_cell? (z7 HRK.out (HF5.out.trans hf) (fun _ _=>id)) (i*2+1) _ (zU ents i hie).2
   obtain⟨ea,en,ec,hev⟩:=HEF.out ents[i] (List.getElem_mem hie)
   rw[hev] at hc1 e6
   rw[e1] at hc0
   have hky:∀ wx,Fr Nil w5 wx→wx.cell? ⟨va.get!.block,0,none⟩=wx.cell? ⟨va.get!.block,0,none⟩:=fun _ _=>rfl
   obtain⟨gk,ck,hgk,_,_⟩:=zi HRK5.out (by omega)
   obtain⟨rfl,rfl⟩:va=some ⟨gk,0,none⟩∧vc=ck:=by simpa using hgk
   have hkc:∀ wx,Fr Nil w5 wx→wx.cell? ⟨gk,i,none⟩=some (.string nk[i].1):=fun wx f=>own_cell? (z7 HRK5.out f (fun _ _=>id)) i _ (by simp[strs,hin])
   clear hky e1 hev
   generalize nk[i].1=nm at *
   generalize nk[i].2=vl at *
   have hbx:=Blk.new wr [.string nm,.slice ea en ec] 186
   have fbx:Fr Nil w5 (wr.alloc (.cells #[.string nm,.slice ea en ec] 186)):=hf.alloc _
   have hsz:=Blk.lt hbx
   generalize hwb:wr.alloc (.cells #[.string nm,.slice ea en ec] 186)=wb at hbx fbx hsz
   have HCC:Hid (∀ wx,Fr Nil wb wx→wx.cell? ⟨wr.heap.size,0,none⟩=some (.string nm)∧wx.cell? ⟨wr.heap.size,1,none⟩=some (.slice ea en ec)∧wx.cell? ⟨L.wb,5,none⟩=some (.pointer (some ⟨X.nb,0,none⟩))∧wx.cell? ⟨gk,i,none⟩=some (.string nm)):=fun wx f=>⟨(hbx.fr f id).cell 0,(hbx.fr f id).cell 1,by rw[HCW.out wx (HF5.out.trans (fbx.trans f)) 5,← HNV.out];rfl,hkc wx (fbx.trans f)⟩
   have hcc:=HCC.out wb (G _ _)
   have HFB:=Z fbx
   have HE:=Z (And.intro e2 (And.intro e3 (And.intro e4 (And.intro e5 e6))))
   have HGE2:=Z (fun wx (f:Fr Nil wb wx)=>HGE.out nm wx (HF5.out.trans (HFB.out.trans f)))
   rw[e2,e3] at HGE2
   have HNB:=Z hsz
   clear e2 e3 e4 e5 e6 hbx fbx hf hkc hsz
   subst hwb
   go_wp2_with fail
   have HAL2:Hid (∀ (v:Value) (wx:World),Fr Nil (wr.alloc (.cells #[.string nm,.slice ea en ec] 186)) wx→VRow wx v vl→Calls Tryz.prog 155 #[.pointer (some ⟨L.wb,0,none⟩),v,.slice ea en ec] wx fun e w'=>e=.returned (.tuple #[.int .i64 0,.bool true])∧Fr Nil wx w'):=fun v wx f h1=>by
    have:=HAL.out v (.slice ea en ec) vl wx (HF5.out.trans (HFB.out.trans f)) h1 (HE.out.2.2.2.2 wx (HF5.out.trans (HFB.out.trans f))) (by have:=HE.out.2.2.1;omega)
    rw[VS HE.out.2.2.2.1] at this
    exact this
   generalize wr.alloc (.cells #[.string nm,.slice ea en ec] 186)=wb at HCC hcc HFB HGE2 HNB HAL2 ⊢
   generalize wr.heap.size=nb at HCC hcc HNB ⊢
   go_region_held3 (fun wx=>wx.cell? ⟨nb,0,none⟩=some (.string nm)∧wx.cell? ⟨nb,1,none⟩=some (.slice ea en ec)∧wx.cell? ⟨L.wb,5,none⟩=some (.pointer (some ⟨X.nb,0,none⟩))∧wx.cell? ⟨gk,i,none⟩=some (.string nm)) (first|assumption|go_keep|exact HCC.out _ (by repeat' first|(with_reducible first|apply G|assumption|apply O|apply U|apply V|apply z6)|(intro _;rfl)))
    (first|(go_at_call 24;refine(HGE2.out _ (by repeat' first|(with_reducible first|apply G|assumption|apply O|apply U|apply V|apply z6)|(intro _;rfl))).mono ?_;rintro e w6 ⟨v6,rfl,hv6,hf6,_⟩;have hF6:Fr Nil wb w6:=Fr.trans (by repeat' first|(with_reducible first|apply G|assumption|apply O|apply U|apply V|apply z6)|(intro _;rfl)) hf6;have hz6:=HCC.out w6 hF6;have HV6:=Z hv6;have HF6:=Z hF6;clear hf6 hF6 hv6))
   simp only[if_true] at HV6
   clear hcc
   go_wp2_with fail
   refine(HAL2.out v6 w6 HF6.out HV6.out).mono ?_
   rintro e w7 ⟨rfl,f7⟩
   have hz7:∀ j,(w7.drewN j).cell? ⟨nb,0,none⟩=some (.string nm)∧(w7.drewN j).cell? ⟨gk,i,none⟩=some (.string nm):=fun j=>⟨(HCC.out _ (HF6.out.trans (f7.drewN j))).1,(HCC.out _ (HF6.out.trans (f7.drewN j))).2.2.2⟩
   have hk0:∀ j,(w7.drewN j).cell? ⟨nb,0,none⟩=some (.string nm):=fun j=>(hz7 j).1
   have hk1:∀ j,(w7.drewN j).cell? ⟨gk,i,none⟩=some (.string nm):=fun j=>(hz7 j).2
   have hns:(nm.toList==nm.toList)=true:=by simp
   have HF7:=Z (HFB.out.trans (HF6.out.trans f7))
   clear hz6 hz7 f7
   go_wp2_with fail
   go_quiet (fail)
   go_wp2_with fail
   exact⟨⟨i+1,by omega,rfl,by push_cast;rfl,HF7.out.drewN _⟩,by simp[intOf];omega⟩
  ·obtain rfl:i=n:=by omega
   have HFR:=Z hf
   clear hf
   go_wp2_with fail
   go_ret2
   exact⟨rfl,HF5.out.trans HFR.out⟩
theorem NA(l:List Nat):∀ u∈ZD l,u.oneCell'=true:=by
 intro u hu
 obtain⟨p,_,rfl⟩:=List.mem_map.1 hu
 rfl
theorem Oe(w:World)(g cap:Nat)(l:List Nat)(h:w.ownsRow 0 104 1 (.slice (some ⟨g,0,none⟩) l.length cap) l.length (ZD l))(hn:l.length<1000000000)(i c:Nat)(hi:i≤l.length)(W0:World)(hf:Fr Nil w W0)(ty:TypeId) :
  ∃ v' w',(Builtin.append_ #[42,42] ty #[.slice none 0 0,.slice (some ⟨g,0,none⟩) i c]).run Tryz.prog W0=.ok v' w' ∧
   (w'.ownsRow 0 104 1 v' i (ZD (l.take i))∧Fr Nil w w'∧(∀ k,v'.ownBlock=some k→w.heap.size≤k)):=by
 have ho:=z7 h hf (fun _ _=>id)
 obtain⟨v',w',hr,h1,h2,h3⟩:=zo (P:=Tryz.prog) 42 ty 104 1 8 Tryz.underlying42 P8 (by omega) (.slice none 0 0) 0 [] (World.ownsRow_nil W0 0 _ _) ⟨g,0,none⟩ i c (ZD (l.take i)) (by simp[ZD];omega)
  (fun j u hu=>by
    rw[Addr.add_lit,Nat.zero_add]
    refine own_cell? ho j u ?_
    have hj:j<i:=by have:=(List.getElem?_eq_some_iff.1 hu).1;simp[ZD] at this;omega
    rw[← hu]
    simp[ZD,hj]) (NA _) (by unfold maxLen;omega) (by omega)
 refine⟨v',w',hr,by simpa using h1,hf.trans ((Fr.of_grown h2).mono (fun i _ h=>by simp[Value.ownBlock] at h)),fun k hk=>?_⟩
 rcases h3 with h3|h3
 ·rw[h3] at hk;simp[Value.ownBlock] at hk
 ·rw[h3] at hk;simp at hk;have:=hf.size;omega
theorem Of(K:Nat→Prop)(B:Nat)(L:WL)(W:WM)(X:NL)(N:NM)(M:DM)(w:World)(h:Play K B w L W X N M)(hp:0<L.ps.length)(hl:L.ps.length<10000000)
  (hT:∀ wx,Fr Nil w wx→Calls Tryz.prog 101 #[.pointer (some ⟨L.wb,0,none⟩),.pointer (some ⟨L.ps[L.ps.length-1],0,none⟩)] wx fun e w'=>e=.returned (.tuple #[.pointer (some ⟨L.ps[L.ps.length-1],0,none⟩),.bool true])∧Fr Nil wx w') :
  Calls Tryz.prog 59 #[.pointer (some ⟨L.wb,0,none⟩)] w fun e w'=>e=.returned (.bool true)∧∃ L',PStep K B L X M w K L' {W with fell:=false} X N M w'∧L'.ps=L.ps:=by
 have HT:=Z hT
 have hsts:=h.wat.sts
 have hple:=h.wat.ple
 obtain⟨g,c,hsv,hcap,_⟩:=zi hsts hp
 have HMO:=Z h.wat.mods
 have hc0:∀ k,w.cell? ⟨L.wb,k,none⟩=(W.cells L)[k]?:=h.wat.blk.cell
 simp only[WM.cells,hsv] at hc0
 rw[hsv] at hsts
 obtain⟨q,hqq⟩:∃ q,q=L.ps[L.ps.length-1]:=⟨_,rfl⟩
 rw[← hqq] at HT
 have hg:w.cell? ⟨g,L.ps.length-1,none⟩=some (.pointer (some ⟨q,0,none⟩)):=own_cell? hsts _ _ (by rw[hqq];simp[ZD,List.getElem?_eq_getElem (show L.ps.length-1<L.ps.length by omega)])
 have HLS:Hid (L.ps.take (L.ps.length-1)++[q]=L.ps):=by
  show _=_
  rw[hqq]
  conv=>rhs;rw[← List.take_append_drop (L.ps.length-1) L.ps,List.drop_eq_getElem_cons (by omega),List.drop_eq_nil_of_le (by omega)]
 have HH:=Z h
 have HSV:=Z hsv
 have hwr:IntKind.i64.wrap ((L.ps.length:Int)-1)=((L.ps.length-1:Nat):Int):=by rw[IntKind.wrap_i64];omega
 have HSTS:=Z hsts
 clear h hsts hsv hT hqq
 generalize hn:L.ps.length=n at hp hl hc0 hg hwr HSTS hple hcap
 have HN:=Z hn
 have HPLE:=Z hple
 clear hn hple
 obtain⟨k,rfl⟩:∃ k,n=k+1:=⟨n-1,by omega⟩
 simp only[Nat.add_sub_cancel] at hg hwr
 go_enter Tryz.func59,Tryz.ntmps59
 go_wp2_with fail
 have hle1:(k:Int)≤c:=by omega
 have hle2:¬(c:Int)<k:=by omega
 go_loopw [3] (fun t3 w'=>t3=.int .i64 (k:Nat)∧w'=w) (fun _ _=>0)
 case atStart=>exact⟨rfl,rfl⟩
 case round =>
  obtain⟨rfl,rfl⟩:=hrel
  go_wp2_with fail
  refine(HT.out _ (G _ _)).mono ?_
  rintro e w1 ⟨rfl,f1⟩
  have hc1:∀ k,w1.cell? ⟨L.wb,k,none⟩=(W.cells L)[k]?:=(HH.out.nil f1).rep.wat.blk.cell
  simp only[WM.cells,HSV.out] at hc1
  have hz1:=(HH.out.nil f1).rep.wat.blk.frozen
  have HF1:=Z f1
  have HS1:Hid (w1.ownsRow 0 104 1 (.slice (some ⟨g,0,none⟩) L.ps.length c) L.ps.length (ZD L.ps)):=by
   have:=z7 HSTS.out f1 (fun _ _=>id)
   rw[← HN.out] at this
   exact this
  have hkl:k≤L.ps.length∧L.ps.length<1000000000:=by have:=HN.out;omega
  have HB4:Hid (∀ w4:World,Fr Nil w1 w4→Blk w4 L.wb (W.cells L) 49):=fun w4 f=>(HH.out.nil HF1.out).rep.wat.blk.fr f id
  clear hc0 hg f1
  go_wp2_with (first
   | (at_builtin;(refine zf rfl _ _ _ _ rfl _ _ (by rfl) (by rfl) (P9 w4 _ _ _ HO4.out q (by omega) _ (by repeat' first|(with_reducible first|apply G|assumption|apply O|apply U|apply V|apply z6)|(intro _;rfl)) _ (by exact Blk.new _ [_] _) _) ?_;rintro v5 w5 ⟨ho5,hf5,hn5⟩;have hb5:=HB5.out _ hf5;obtain⟨va5,vc5,hv5⟩:=z8 ho5;have hc5:=hb5.cell;simp only[WM.cells] at hc5;have hz5:=hb5.frozen))
   | (at_builtin;(refine zf rfl _ _ _ _ rfl _ _ (by rfl) (by rfl) (Oe w1 g c L.ps HS1.out hkl.2 k _ hkl.1 _ (by repeat' first|(with_reducible first|apply G|assumption|apply O|apply U|apply V|apply z6)|(intro _;rfl)) _) ?_;rintro v4 w4 ⟨ho4,hf4,hn4⟩;have hb4:=HB4.out _ hf4;have hc4:=hb4.cell;simp only[WM.cells] at hc4;have hz4:=hb4.frozen;have HO4:=Z ho4;have HN4:=Z (And.intro hf4 hn4);have HB5:Hid (∀ w5:World,Fr (fun k=>v4.ownBlock=some k) w4 w5→Blk w5 L.wb (W.cells L) 49):=fun w5 f=>hb4.fr f (fun e=>by have:=hn4 _ e;have:=(HB4.out w1 (G _ _)).lt;omega))))
  have HP1:=HH.out.nil HF1.out
  have f15:Fr Nil w1 w5:=HN4.out.1.trans' hf5 (fun i hi e=>by have:=HN4.out.2 i e;omega)
  have hrow:w5.ownsRow 0 104 1 v5 L.ps.length (ZD L.ps):=by
   have e:ZD (L.ps.take k)++[.pointer (some ⟨q,0,none⟩)]=ZD L.ps:=by
    conv=>rhs;rw[← HLS.out,HN.out,Nat.add_sub_cancel]
    simp[ZD]
   rw[e] at ho5
   rw[HN.out]
   exact ho5
  have HST:=WStep.states HP1.rep.wat (v':=v5) (qs:=L.ps) (st':=W.st) (w4:=w5) hrow (f15.mono (fun _ _ e=>absurd e id)) (fun b e=>.inr (by
   rcases hn5 b e with e|e
   ·exact HN4.out.2 b e
   ·exact Nat.le_trans HN4.out.1.size e)) HP1.rep.wat.ple HP1.rep.wat.mods
  have HS2:=HST.trans (WStep.set HST.rep 7 (.bool false) (L':={L with sv:=v5,ps:=L.ps}) (W':={W with st:=W.st,fell:=false}) (by simp[WM.cells]) rfl rfl rfl rfl rfl rfl rfl rfl rfl rfl rfl rfl rfl)
  subst hv5
  go_ret
  exact⟨rfl,_,HP1.trans (HP1.rep.turn HS2),rfl⟩
end Go.Proofs.YtkhnggkkiefcdaaGreatDoor
