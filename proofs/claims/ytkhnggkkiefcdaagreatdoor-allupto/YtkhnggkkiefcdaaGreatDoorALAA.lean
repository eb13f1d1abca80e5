/- larder: joined texts -/
import Derived.WalkSpells
import Derived.WalkLawsBesides
import Derived.BigQuiet
import Derived.Deep.AppendLies
import Derived.Deep.RegionHeld3
import Derived.Deep.DrawnRows
import Derived.Lib.AppendZerosOnto
import Derived.Lib.Overlaps
import Derived.Deep.RegionLaw
import Derived.Test.YtkhnggkkiefcdaaGreatDoorChecked
import Derived.Shelf.Abstract
namespace Go.Proofs.YtkhnggkkiefcdaaGreatDoor
open Go.RowKit Proofs.Tryz
set_option maxRecDepth 100000
set_option maxHeartbeats 8000000
variable{p:Prop}{b base n k:Nat}{c d f i:List Value}{a w' h:World}{S:Nat->Prop}{row:Option Nat}{v g:Value}{rest:List Oper}{Q:Exit->Act->World->Prop}{R:Value->World->Prop}{K:Act->World->Prop}
def aa(p:Prop):Prop:=p
theorem aa.o(h:aa p):p:=h
theorem ab(h:p:=by repeat' first|exact U _ _|(with_reducible assumption)|refine Fr.drewN ?_ _|refine Fr.drew ?_|refine Fr.alloc ?_ _|refine Fr.set ?_ ?_ _|(intro _;rfl)):p:=h
theorem ac(h:p:=by unfold maxLen;omega):p:=h
theorem ae(h:p:=by unfold DTy;decide):p:=h
theorem af(h:p:=by simp[results,go_sem]):p:=h
theorem ag(h:p:=by intro e;cases e):p:=h
theorem ai(h:p:=by simp[WM.cells]):p:=h
theorem aj(h:p:=by simp[Act.eval,Act.put]):p:=h
theorem ak(h:p:=by intro u hu;simp at hu;rcases hu with rfl|rfl <;> rfl):p:=h
theorem am(h:p:=by exact Blk.new _ [_,_,_,_,_,_,_,_] _):p:=h
theorem ao(h:p:=by assumption):p:=h
theorem ar(h:p:=by simp;omega):p:=h
theorem au(h:p:=by rw[s];have:Nat.min 1 (n+1-i)=1:=(by simp only[yM];split <;> omega);rw[this]):p:=h
theorem av(h:p:=by rw[v];have:Nat.min 1 (n+1-i)=1:=(by simp only[yM];split <;> omega);rw[this]):p:=h
theorem aw(h:p:=by exact Blk.new _ [_] _):p:=h
theorem ax(h:p:=by exact Blk.qC _ [_] _ _ (by simp[World.setCell])):p:=h
theorem ay(h:p:=by simp only[yM];split <;> omega):p:=h
theorem aA(h:p:=by simp[Value.oneCell']):p:=h
theorem aB(h:p:=by simp[Value.ownBlock]):p:=h
theorem aC(h:p:=by first|exact Blk.new _ [_,_] _|exact(Blk.new _ [_,_] _).drew):p:=h
theorem aE(h:p:=by simpa using h):p:=h
theorem aF(h:p:=by unfold WM.rH;simp only;split <;> rfl):p:=h
theorem aG(h:p:=by simpa using f):p:=h
theorem aH(h:p:=by intro u hu;simp at hu;subst hu;rfl):p:=h
theorem aI(h:p:=by rw[r];congr 1;simp only[yM];split <;> omega):p:=h
theorem aJ(h:p:=by rw[x];congr 1;simp only[yM];split <;> omega):p:=h
theorem aK(h:p:=by simp[World.setCell]):p:=h
theorem aL(h:p:=by exact Blk.new _ [_,_] _):p:=h
theorem aM(h:p:=by rw[hr];decide):p:=h
theorem aN(h:p:=by rw[e];exact .td):p:=h
theorem aO(h:p:=by first|assumption|go_keep):p:=h
theorem aP(h:p:=by rw[e,g.sZ.db];exact .td):p:=h
theorem aQ(h:p:=by simpa using a):p:=h
theorem aR(h:p:=by rw[CR];omega):p:=h
theorem aS(h:p:=by rw[G];decide):p:=h
theorem aT(h:p:=by have:=D.o;omega):p:=h
theorem aU(h:p:=by simp only;omega):p:=h
theorem aV(h:p:=by rw[b.1];exact CP _):p:=h
theorem aW(h:p:=by rw[o.o];exact CP _):p:=h
theorem aX(h:p:=by simpa [zx] using h):p:=h
theorem aY(h:p:=by simpa using c):p:=h
theorem aZ(h:p:=by rw[hb];decide):p:=h
theorem be(h:p:=by rw[CN,CQ,<- e,VO];exact f):p:=h
theorem bf(h:p:=by rw[c];exact r):p:=h
theorem bg(h:p:=by rw[XP];omega):p:=h
theorem bh(h:p:=by rw[<- yo];congr 1;omega):p:=h
theorem bi(h:p:=by have:=a5.o;omega):p:=h
theorem bq(h:p:=by rw[B.o];simp[ho]):p:=h
theorem bt(h:p:=by have:=t.size;simp;omega):p:=h
theorem bu(h:p:=by cases c):p:=h
theorem bv(h:p:=by rw[CN,CQ,<- e];exact f):p:=h
theorem bw(h:p:=by simp[hb]):p:=h
theorem bx(h:p:=by rw[t.o];decide):p:=h
theorem bz(h:p:=by rw[G.o];decide):p:=h
theorem bA(h:p:=by show W.uS+1<=_;omega):p:=h
theorem bB(h:p:=by simpa using d):p:=h
theorem bC(h:p:=by simpa using u):p:=h
theorem bD(h:p:=by rw[ho];decide):p:=h
theorem bE(h:p:=by rw[q];exact D):p:=h
theorem bF(h:p:=by rw[e];rfl):p:=h
abbrev I(x:Int):Value:=.int .i64 x
abbrev E(b k:Nat):Value:=.pointer (some ⟨b,k,none⟩)
abbrev Y(b k:Nat):Addr:=⟨b,k,none⟩
theorem V(h:p:=by omega):p:=h
theorem O(h:p:=by decide):p:=h
theorem bG(h:p:=by simp):p:=h
theorem bH(h:p:=by rfl):p:=h
theorem bI(h:p:=by kernel_rfl):p:=h
abbrev CN:=@List.length_append
abbrev CO:=@Nat.le_trans
abbrev CP:=@Nat.le_refl
abbrev CQ:=@List.length_singleton
abbrev CR:=@List.length_take
abbrev CS:=@List.getElem?_eq_getElem
abbrev CT:=@List.mem_cons_of_mem
abbrev CU:=@List.getElem_mem
abbrev CV:=@List.mem_append
abbrev CW:=@if_neg
abbrev CX:=@List.mem_singleton
abbrev CY:=@List.mem_cons_self
abbrev CZ:=@List.cons_append
abbrev Ba:=@List.nil_append
abbrev Bb:=@List.mem_map
abbrev Bc:=@List.length_drop
abbrev Be:=@List.append_assoc
abbrev Bf:=@Go.World.ownsRow_nil
abbrev Bg:=@Nat.zero_le
abbrev Bh:=@List.length_cons
abbrev Bi:=@decide_eq_true_eq
abbrev Bj:=@List.take_length
abbrev Bl:=@if_pos
abbrev Bm:=@List.length_map
abbrev Bn:=@List.take_of_length_le
abbrev Bo:=@List.take_append_drop
abbrev Bp:=@List.take_succ_eq_append_getElem
abbrev Bq:=@List.map_append
abbrev Br:=@List.setIfInBounds_toArray
abbrev Bt:=@List.mem_iff_getElem
abbrev Bu:=@Go.IntKind.wrap_i64
abbrev Bv:=@Nat.lt_of_lt_of_le
abbrev Bw:=@List.map_cons
abbrev Bx:=@List.mem_of_mem_drop
abbrev Bz:=@List.append_nil
abbrev BA:=@Option.some.inj
abbrev BB:=@List.getElem_map
abbrev BC:=@List.mem_cons
abbrev BD:=@List.set_cons_zero
abbrev BE:=@List.getElem_append_left
abbrev BF:=@Nat.not_lt_zero
abbrev BG:=@Nat.mul_le_mul_right
abbrev BH:=@List.eq_nil_of_length_eq_zero
abbrev BI:=@List.set_cons_succ
abbrev BJ:=@List.drop_eq_getElem_cons
abbrev BL:=@List.getElem?_eq_some_iff
abbrev BM:=@List.foldl_append
abbrev BN:=@List.mem_of_mem_take
abbrev BO:=@Go.Addr.add_lit
abbrev BP:=@decide_eq_false_iff_not
abbrev BQ:=@Nat.zero_add
abbrev BR:=@List.take_append_of_le_length
abbrev BS:=@List.getD_eq_getElem?_getD
abbrev BT:=@List.drop_eq_nil_of_le
abbrev BU:=@List.length_nil
abbrev BV:=@List.getElem_append_right
abbrev BW:=@List.mem_map_of_mem
abbrev BX:=@List.foldl_cons
abbrev BZ:=@Option.some.injEq
abbrev Aa:=@if_false
abbrev Ab:=@Nat.min_eq_left
abbrev Ac:=@List.getElem_drop
abbrev Ad:=@if_true
abbrev Ae:=@Array.getElem?_eq_some_iff
abbrev Af:=@List.nodup_iff_pairwise_ne
abbrev Ag:=@Go.run_callFunc_extern
abbrev Ah:=@Go.Calls.quiet_of_same
abbrev Ai:=@Int.eq_ofNat_of_zero_le
abbrev Aj:=@List.map_take
abbrev Ak:=@Prod.mk.injEq
abbrev Al:=@List.map_map
abbrev Am:=@List.flatMap_cons
abbrev An:=@Go.callsIn_wide
abbrev Ao:=@List.pairwise_map
abbrev Ap:=@Go.Proofs.Tryz.underlying150
abbrev Aq:=@List.getElem?_append_left
abbrev Ar:=@Bool.and_eq_true
abbrev As:=@Nat.le_succ_of_le
abbrev At:=@Go.run_underlying
abbrev Au:=@List.drop_zero
abbrev Av:=@Bool.false_eq_true
abbrev Aw:=@Go.bodyPost_end
abbrev Ax:=@List.getElem?_cons_zero
abbrev Ay:=@beq_eq_false_iff_ne
abbrev Az:=@Nat.lt_or_ge
abbrev AA:=@List.getElem_cons_zero
abbrev AB:=@congrArg
abbrev AC:=@List.eq_nil_or_concat
abbrev AD:=@List.concat_eq_append
abbrev AE:=@List.map_nil
abbrev AF:=@List.take_succ_cons
abbrev AG:=@List.take_left'
abbrev AH:=@Go.Proofs.Tryz.underlying9
abbrev AJ:=@List.getElem?_append_right
abbrev AK:=@List.getElem?_cons_succ
abbrev AL:=@Go.Proofs.Tryz.underlying61
abbrev AM:=@Nat.add_zero
abbrev AN:=@ByteArray.size_extract
abbrev AO:=@List.getElem?_take_of_lt
abbrev AP:=@List.getElem_of_mem
abbrev AQ:=@List.size_toArray
abbrev AR:=@List.nodup_append
abbrev AU:=@Go.Proofs.Tryz.underlying140
abbrev AV:=@List.mem_of_getElem?
abbrev AW:=@List.pairwise_append
abbrev AX:=@Go.Proofs.Tryz.underlying157
abbrev AY:=@Array.replicate_succ
abbrev AZ:=@Array.replicate_zero
abbrev yc:=@Nat.le_succ
abbrev yd:=@decide_eq_false
abbrev ye:=@Go.Oper.semAt_some
abbrev yf:=@List.sum_cons
abbrev yg:=@List.drop_of_length_le
abbrev yh:=@Array.length_toList
abbrev yj:=@Int.toNat_of_nonneg
abbrev yk:=@List.drop_succ_cons
abbrev yl:=@List.length_pos_iff
abbrev ym:=@List.append_toArray
abbrev yn:=@List.map_congr_left
abbrev yo:=@Nat.add_mul
abbrev yp:=@Go.Proofs.Tryz.underlying91
abbrev yq:=@Go.Proofs.Tryz.underlying66
abbrev yr:=@List.drop_append_of_le_length
abbrev yt:=@List.mem_append_right
abbrev yu:=@Nat.lt_irrefl
abbrev yv:=@List.nodup_cons
abbrev yw:=@List.mem_append_left
abbrev yx:=@decide_true
abbrev yy:=@List.findIdx?_eq_some_iff_getElem
abbrev yz:=@List.map_drop
abbrev yA:=@List.flatten_cons
abbrev yB:=@List.drop_left
abbrev yC:=@List.take_zero
abbrev yD:=@List.push_toArray
abbrev yE:=@Nat.le_of_eq
abbrev yF:=@List.sum_append
abbrev yG:=@ByteArray.data_append
abbrev yH:=@List.perm_append_comm
abbrev yI:=@Nat.eq_zero_or_pos
abbrev yJ:=@List.getElem?_drop
abbrev yK:=@Go.World.size_alloc
abbrev yL:=@Go.Proofs.Tryz.underlying261
abbrev yM:=@Nat.min_def
abbrev yO:=@Int.le_refl
abbrev yP:=@List.take_add_one
abbrev yQ:=@Go.beq_toListBytes
abbrev yR:=@List.mem_filter
abbrev yS:=@Array.toList_append
abbrev yU:=@Array.getElem?_eq_none
abbrev yV:=@Go.Proofs.Tryz.ntmps18
abbrev yX:=@List.not_mem_nil
abbrev yY:=@List.find?_eq_none
abbrev yZ:=@decide_eq_true
abbrev xd:=@Int.tmod_eq_emod_of_nonneg
abbrev xe:=@List.nodup_nil
abbrev xf:=@Go.Proofs.Tryz.underlying26
abbrev xh:=@List.dropLast_subset
abbrev xi:=@List.replicate_succ'
abbrev xj:=@List.getElem?_set_ne
abbrev xk:=@Go.Proofs.Tryz.func18
abbrev xl:=@Go.Proofs.Tryz.ntmps203
abbrev xm:=@List.prefix_of_prefix_length_le
abbrev xo:=@Go.run_firstCells_some
abbrev xq:=@Go.RowKit.Below.heap_alloc
abbrev xt:=@List.ext_getElem
abbrev xu:=@and_self
abbrev xw:=@List.count_eq_zero_of_not_mem
abbrev xy:=@Go.setRow_other
abbrev xz:=@Go.Sem.run_bind
abbrev xA:=@List.getElem_cons_succ
abbrev xB:=@Go.Proofs.Tryz.func203
abbrev xC:=@Go.bodyPost_ret
abbrev xD:=@Nat.le_of_lt
abbrev xE:=@List.prefix_append
abbrev xF:=@List.length_set
abbrev xG:=@List.prefix_append_right_inj
abbrev xI:=@List.getElem?_eq_none
abbrev xJ:=@List.set_append_right
abbrev xK:=@List.singleton_append
abbrev xL:=@List.getElem_dropLast
abbrev xM:=@Go.Result.andThen_ok
abbrev xN:=@List.getElem_take
abbrev xO:=@List.drop_sublist
abbrev xP:=@of_decide_eq_true
abbrev xQ:=@Array.ext'
abbrev xR:=@List.take_left
abbrev xS:=@List.take_take
abbrev xU:=@List.Perm.refl
abbrev xV:=@List.dropLast_concat
abbrev xW:=@List.length_dropLast
abbrev xX:=@Go.Sem.run_pure
abbrev xY:=@List.map_toArray
abbrev xZ:=@List.mem_flatMap
abbrev we:=@Go.Proofs.Tryz.underlying3
abbrev wj:=@Nat.le_total
abbrev wk:=@List.any_eq_true
abbrev wt:=@Go.Lib.run_append_grow_zeros
abbrev wu:=@List.flatten_append
abbrev wA:=@ByteArray.ext
abbrev wB:=@Go.grownCap_le_maxLen
abbrev wC:=@List.pairwise_cons
abbrev wD:=@Nat.add_sub_cancel
abbrev wE:=@List.append_of_mem
abbrev wF:=@Go.Proofs.enters_of
abbrev wG:=@Go.World.block_lt_of_cell?
abbrev wH:=@Go.run_storeCells_at
abbrev wI:=@Go.growslice_fits
abbrev wJ:=@Ne.symm
abbrev wK:=@Int.ofNat_tmod
abbrev wL:=@List.mem_range
abbrev wM:=@Go.Lib.run_overlaps_apart
abbrev wN:=@Nat.sub_self
abbrev wO:=@Go.Value.slice.injEq
abbrev wP:=@Int.toNat_natCast
abbrev wQ:=@List.find?_cons_of_pos
abbrev wR:=@Option.map_eq_some_iff
abbrev wS:=@List.getElem_replicate
abbrev wT:=@Go.Proofs.Tryz.ntmps61
abbrev wU:=@Go.DataW.trod_struct
abbrev wV:=@Go.Lib.wpList_append_run
abbrev wW:=@List.Perm.append_left
abbrev wX:=@List.filterMap_eq_map
abbrev wY:=@Go.Proofs.Tryz.underlying5
abbrev wZ:=@Option.bind_some
abbrev vd:=@List.drop_length
abbrev ve:=@List.take_append
abbrev vf:=@List.perm_middle
abbrev vg:=@List.take_prefix
abbrev vi:=@List.cons_ne_nil
abbrev vj:=@Go.World.cell?_of_block
abbrev vn:=@Nat.sub_mul
abbrev vp:=@Go.wpStill_nil
abbrev vq:=@Go.Proofs.Tryz.func61
abbrev vt:=@List.getElem_append
abbrev vu:=@List.takeWhile_cons
abbrev vv:=@Go.ByteArray.toList_eq
abbrev vw:=@Go.Value.pointer.injEq
abbrev vx:=@Go.World.grownBy_alloc
abbrev vz:=@Nat.mul_le_mul_left
abbrev vA:=@Nat.zero_mul
abbrev vB:=@Nat.lt_trans
abbrev vC:=@Go.Proofs.Tryz.ntmps65
abbrev vE:=@Nat.mod_lt
abbrev vF:=@Go.AllReadyH.cons
abbrev vG:=@Go.IntWalk.i64_in
abbrev vH:=@List.mem_filterMap
abbrev vI:=@List.drop_take
abbrev vJ:=@Nat.one_mul
abbrev vK:=@Bool.not_eq_true'
abbrev vL:=@List.find?_append
abbrev vN:=@Go.Proofs.Tryz.func65
abbrev vO:=@List.count_append
abbrev vP:=@Function.comp_def
abbrev vQ:=@Go.Proofs.Tryz.underlying23
abbrev vR:=@Nat.add_assoc
abbrev vS:=@Go.Proofs.Tryz.ntmps209
abbrev vT:=@Go.Proofs.Tryz.ntmps189
abbrev vU:=@Go.Proofs.Tryz.ntmps211
abbrev vV:=@Go.Proofs.Tryz.ntmps212
abbrev vW:=@Bool.true_and
abbrev vX:=@Go.Addr.mk.injEq
abbrev vY:=@Go.Proofs.Tryz.ntmps129
abbrev vZ:=@Go.AllReadyH.nil
abbrev ua:=@Go.Proofs.Tryz.ntmps136
abbrev ub:=@or_false
abbrev uc:=@Nat.lt_of_not_le
abbrev ud:=@Nat.succ_le_succ
abbrev ue:=@Nat.min_le_right
abbrev uf:=@Nat.le_add_right
abbrev ug:=@Nat.min_eq_right
abbrev uh:=@List.getElem_inj
abbrev ui:=@Go.cell_one_new
abbrev uj:=@Go.Proofs.Tryz.func209
abbrev uk:=@Go.Proofs.Tryz.func189
abbrev um:=@Go.Proofs.Tryz.func211
abbrev uo:=@Go.Proofs.Tryz.func212
abbrev uq:=@Go.Proofs.Tryz.func129
abbrev ur:=@Go.Proofs.Tryz.func217
abbrev uu:=@Go.RowKit.Below.refl
abbrev uv:=@Go.Proofs.Tryz.ntmps95
abbrev uw:=@Go.wpAnyH_ready
abbrev ux:=@Go.Proofs.Tryz.ntmps64
abbrev uy:=@Go.Proofs.Tryz.func136
abbrev uz:=@List.cons.injEq
abbrev uA:=@List.range_succ
abbrev uB:=@Bool.eq_iff_iff
abbrev uC:=@List.drop_left'
abbrev uD:=@Go.Value.iface.inj
abbrev uE:=@Go.grownCap_ge
abbrev uF:=@Go.results_tmp
abbrev uG:=@Go.Proofs.Tryz.func95
abbrev uH:=@Go.Proofs.Tryz.func64
abbrev uI:=@dif_pos
abbrev uJ:=@Go.callsIn_of_wp
abbrev uK:=@Go.Calls.mono
abbrev uL:=@Nat.pow_succ
abbrev uN:=@List.sum_nil
abbrev uP:=@and_true
theorem Z(h:p):aa p:=h
def Blk(w:World)(b:Nat)(c:List Value)(t:TypeId):Prop:=w.heap[b]?=some (.cells c.toArray t (0,0))
theorem Blk.lt{w:World}{t:TypeId}(h:Blk w b c t):b<w.heap.size:=by
 rcases Az b w.heap.size with g|g
 .exact g
 .rw[Blk,yU g] at h;cases h
theorem Blk.cell{w:World}{t:TypeId}(h:Blk w b c t)(k:Nat):w.cell? (Y b k)=c[k]?:=by
 rw[Blk] at h;simp[World.cell?,h]
theorem Blk.frozen{w:World}{t:TypeId}(h:Blk w b c t)(k:Nat):w.frozen? (Y b k)=false:=by
 rw[Blk] at h;simp[World.frozen?,h]
theorem Blk.of_heap{w:World}{t:TypeId}(h:Blk w b c t)(e:a.heap[b]?=w.heap[b]?):Blk a b c t:=by
 rw[Blk,e];exact h
theorem Blk.drewN{w:World}{t:TypeId}(h:Blk w b c t)(n:Nat):Blk (w.drewN n) b c t:=h
theorem Blk.drew{w:World}{t:TypeId}(h:Blk w b c t):Blk w.drew b c t:=h
theorem Blk.set{w:World}{t:TypeId}(h:Blk w b c t)(k:Nat)(v:Value) :
 Blk (w.setCell (Y b k) v) b (c.set k v) t:=by
 rw[Blk] at h |-;simp[World.setCell,Array.getElem?_modify,h]
theorem Blk.qv{w:World}{t:TypeId}(h:Blk w b c t){b':Nat}(a:b≠b')(k:Nat)(v:Value) :
 Blk (w.setCell (Y b' k) v) b c t :=
 h.of_heap (Below.heap_setCell _ _ _ _ a)
theorem Blk.alloc{w:World}{t:TypeId}(h:Blk w b c t)(o:Obj):Blk (w.alloc o) b c t :=
 h.of_heap (xq _ _ _ h.lt)
theorem Blk.new(w:World)(c:List Value)(t:TypeId):Blk (w.alloc (.cells c.toArray t)) w.heap.size c t :=
 heap_alloc_new w _
theorem Blk.inj{w:World}{t e:TypeId}(h:Blk w b c t)(a:Blk w b d e):c=d/\t=e:=by
 rw[Blk] at h a;rw[h] at a
 simpa using a
theorem Blk.ne{w:World}{b':Nat}{t a:TypeId}(h:Blk w b c t)(f:Blk w b' d a)(g:t≠a):b≠b' :=
 fun e=>g (by subst e;exact(h.inj f).2)
structure Fr(S:Nat->Prop)(w w':World):Prop where
 os:w'.os=w.os
 tape:w'.tape=w.tape
 output:w'.output=w.output
 size:w.heap.size<=w'.heap.size
 block:∀ k,k<w.heap.size->¬S k->w'.heap[k]?=w.heap[k]?
abbrev Nil:Nat->Prop:=fun _=>False
theorem Fr.refl(S:Nat->Prop)(w:World):Fr S w w:=⟨rfl,rfl,rfl,CP _,fun _ _ _=>rfl⟩
theorem Fr.trans{b c:World}(h:Fr S a b)(k:Fr S b c):Fr S a c :=
 ⟨k.os.trans h.os,k.tape.trans h.tape,k.output.trans h.output,CO h.size k.size,
  fun i e hs=>(k.block i (Bv e h.size) hs).trans (h.block i e hs)⟩
theorem Fr.tk{S':Nat->Prop}{b c:World}(h:Fr S a b)(k:Fr S' b c)(hs:∀ i,i<a.heap.size->S' i->S i):Fr S a c :=
 ⟨k.os.trans h.os,k.tape.trans h.tape,k.output.trans h.output,CO h.size k.size,
  fun i e g=>(k.block i (Bv e h.size) (fun j=>g (hs i e j))).trans (h.block i e g)⟩
theorem Fr.mono{S':Nat->Prop}{b:World}(h:Fr S a b)(hs:∀ i,i<a.heap.size->S i->S' i):Fr S' a b :=
 ⟨h.os,h.tape,h.output,h.size,fun i c g=>h.block i c (fun e=>g (hs i c e))⟩
theorem Fr.drewN{w:World}(h:Fr S a w)(n:Nat):Fr S a (w.drewN n):=⟨h.os,h.tape,h.output,h.size,h.block⟩
theorem Fr.drew{w:World}(h:Fr S a w):Fr S a w.drew:=⟨h.os,h.tape,h.output,h.size,h.block⟩
theorem Fr.alloc{w:World}(h:Fr S a w)(o:Obj):Fr S a (w.alloc o) :=
 ⟨h.os,h.tape,h.output,CO h.size bG,fun k c e=>by
  rw[xq _ _ _ (Bv c h.size)];exact h.block k c e⟩
theorem Fr.set{w:World}(h:Fr S a w){p:Addr}(d:p.block<a.heap.size->S p.block)(v:Value):Fr S a (w.setCell p v) :=
 ⟨h.os,h.tape,h.output,by simpa [World.setCell] using h.size,fun k b c=>by
  rw[Below.heap_setCell _ _ _ _ (fun e=>c (by subst e;exact d b))];exact h.block k b c⟩
abbrev U:=@Fr.refl
abbrev z7:=@Fr.drewN
abbrev z8:=@Fr.drew
abbrev zb:=@Fr.alloc
abbrev zc:=@Fr.set
theorem zd{b:World}(h:Fr S a b:=by repeat' first|(with_reducible first|apply U|assumption|apply z7|apply z8|apply zb|apply zc)|(intro _;rfl)):Fr S a b:=h
theorem Fr.grown{w f:World}(h:Fr S a w)(b:w.grownBy f row)
 (i:∀ k,row=some k->k<a.heap.size->S k):Fr S a f :=
 ⟨b.os.trans h.os,b.tape.trans h.tape,b.output.trans h.output,CO h.size b.size,fun k c d =>
  (b.block k (Bv c h.size) (fun e=>d (i k e.symm c))).trans (h.block k c d)⟩
theorem Fr.sB{w:World}(b:w.grownBy a row):Fr (fun k=>row=some k) w a :=
 (Fr.refl _ w).grown b (fun _ h _=>h)
theorem Fr.below{w:World}(h:Fr Nil w a):Below w.heap.size w a :=
 ⟨h.os,h.tape,h.output,h.size,fun k b=>h.block k b id⟩
theorem Fr.rQ{w:World}(h:Below w.heap.size w a):Fr S w a :=
 ⟨h.os,h.tape,h.output,h.size,fun k b _=>h.block k b⟩
theorem Fr.cell{w:World}(h:Fr S w w'){p:Addr}(e:p.block<w.heap.size)(c:¬S p.block):w'.cell? p=w.cell? p :=
 vj (w:=w) (h.block p.block e c)
theorem Blk.fr{w:World}{t:TypeId}(h:Blk w b c t)(f:Fr S w w')(e:¬S b):Blk w' b c t :=
 h.of_heap (f.block b h.lt e)
theorem ze{w:World}{e:TypeId}{size:Nat}{l:List Value}
 (h:w.ownsRow base e size v n l)(f:Fr S w w')(s:∀ k,v.ownBlock=some k->¬S k):w'.ownsRow base e size v n l:=by
 refine⟨h.1,?_⟩;rcases h.2 with o|⟨g,cap,b,rfl,q,d,r⟩
 .exact .inl o
 .refine .inr ⟨g,cap,b,rfl,q,?_,r⟩
  have c:g<w.heap.size:=(Ae.1 d).1;rw[f.block g c (s g rfl)];exact d
theorem zF{w:World}{e:TypeId}{size:Nat}
 (h:w.ownsRow base e size v n c)(a:v.ownBlock=some k):k<w.heap.size:=(h.lt k a).2
theorem zh{w:World}{e:TypeId}{size:Nat}{o:List Value}
 (h:w.ownsRow base e size v n o){t:TypeId}(f:Blk w b c t)(k:t≠e):v.ownBlock≠some b:=by
 intro d;rcases h.2 with⟨rfl,_⟩|⟨g,i,j,rfl,_,a,_⟩
 .simp[Value.ownBlock] at d
 .simp[Value.ownBlock] at d
  subst d;rw[Blk] at f;rw[f] at a;simp at a;exact k a.2
theorem Zf{w:World}{a:Nat}{e c:TypeId}{size:Nat}{j:Value}{t:Nat}{u:List Value}
 (h:w.ownsRow base e size v n u)(o:w.ownsRow a c b j t i)(s:e≠c)(d:v.ownBlock=some k):j.ownBlock≠some k:=by
 intro f;rcases h.2 with⟨rfl,_⟩|⟨g,l,m,rfl,_,r,_⟩
 .simp[Value.ownBlock] at d
 .rcases o.2 with⟨rfl,_⟩|⟨g',cap',cur',rfl,_,hg',_⟩
  .simp[Value.ownBlock] at f
  .simp[Value.ownBlock] at d f
   subst d;subst f;rw[r] at hg';have q:e=c:=by simp at hg';exact hg'.2
   exact s q
theorem own_cell?{w:World}{e:TypeId}{size:Nat}{g c:Nat}
 (h:w.ownsRow base e size (.slice (some (Y g 0)) n c) n d)(j:Nat)(v:Value)(k:d[j]?=some v):w.cell? (Y g j)=some v:=by
 have f:=h.cells (g:=g) rfl j v k;have b:((Y g 0):Addr).add j=⟨g,j,none⟩:=by unfold Addr.add;split <;> simp_all
 rwa [b] at f
theorem zf{w:World}{e:TypeId}{size:Nat}{o:List Value}(h:w.ownsRow base e size v n o) :
 ∃ a cap,v=.slice a n cap:=by
 rcases h.2 with⟨rfl,l⟩|⟨g,cap,c,rfl,_⟩
 .exact⟨_,0,by rw[l]⟩
 .exact⟨_,_,rfl⟩
theorem zl{w:World}{e:TypeId}{size:Nat}(h:w.ownsRow base e size v n f)(o:0<n) :
 ∃ g cap,v=.slice (some (Y g 0)) n cap/\n<=cap/\cap<=maxLen:=by
 rcases h.2 with⟨rfl,k⟩|⟨g,cap,b,rfl,_,_,c,d,_⟩
 .omega
 .exact⟨g,cap,rfl,c,d⟩
theorem zH{w:World}{a:Nat}{e:TypeId}{size:Nat}(h:w.ownsRow a e size v n c):n<=maxLen:=by
 rcases h.2 with⟨_,d⟩|⟨g,cap,b,_,_,_,f,k,_⟩
 .omega
 .omega
def u8s(l:List UInt8):List Value:=l.map fun c=>.int .u8 c.toNat
theorem ZK{P:Program}{e:TypeId}{size bytes:Nat}(h:((P.info? e).map fun i=>(i.zero.map (·.cells.size),i.size,i.bytes))=some (some size,size,bytes)) :
 ∃ i z,P.info? e=some i/\i.zero=some z/\i.size=size/\i.bytes=bytes/\z.cells.size=size:=by
 cases hi:P.info? e with
 | none=>rw[hi] at h;simp at h
 | some i =>
  rw[hi] at h;simp at h;obtain⟨⟨z,d,a⟩,b,c⟩:=h;exact⟨i,z,rfl,d,b,c,a⟩
theorem YQ(w:World)(x:Value)(t:TypeId)(H:Nat)(a:w.heap.size=H):∀ j u,[x][j]?=some u->(w.alloc (.cells #[x] t)).cell? (((Y H 0):Addr).add j)=some u:=by
 subst a;exact ui w x t
theorem WA(w:World)(x y:Value)(t:TypeId)(H:Nat)(c:w.heap.size=H):∀ j u,[x,y][j]?=some u->(w.alloc (.cells #[x,y] t)).cell? (((Y H 0):Addr).add j)=some u:=by
 subst c;intro j u a
 match j,a with
 | 0,a=>simp at a;subst a;simp[Addr.add]
 | 1,a=>simp at a;subst a;simp[Addr.add]
structure App(w:World)(v:Value)(e:TypeId)(size n:Nat)(xs:List Value)(v':Value)(w':World):Prop where
 sL:w'.ownsRow 0 e size v' n xs
 grown:w.grownBy w' v.ownBlock
 qN:v'.ownBlock=v.ownBlock\/v'.ownBlock=some w.heap.size
theorem App.fr{w:World}{v':Value}{e:TypeId}{size:Nat}(h:App w v e size n c v' w'):Fr (fun k=>v.ownBlock=some k) w w' :=
 Fr.sB h.grown
section
variable {P:Program} {w:World}
theorem zq(t ty e:TypeId)(size o:Nat)(X:P.underlying t=some (.slice e))
 (N:((P.info? e).map fun i=>(i.zero.map (·.cells.size),i.size,i.bytes))=some (some size,size,o))(B:0<size)
 (v:Value)(n:Nat)(C:List Value)(s:w.ownsRow 0 e size v n C)
 (y:Addr)(m c:Nat)(l:List Value)(R:l.length=m*size)(r:∀ j u,l[j]?=some u->w.cell? (y.add j)=some u)(D:∀ u∈l,u.oneCell'=true)
 (A:n+m<=maxLen)(q:(n+m)*o<=140737488355328) :
 ∃ x w',(Builtin.append_ #[t,t] ty #[v,.slice (some y) m c]).run P w=.ok x w'/\App w v e size (n+m) (C++l) x w':=by
 obtain⟨i,z,Q,hz,G,J,K⟩:=ZK N;obtain⟨x,w',T,a,b,_,d⟩:=run_append_own_at (P:=P) w 0 t ty e i z size o X Q hz G J K B v n C s y m c l R r D A q (Bg _);exact⟨x,w',T,a,b,d⟩
theorem Pi(t ty e:TypeId)(size f:Nat)(l:P.underlying t=some (.slice e))
 (q:((P.info? e).map fun i=>(i.zero.map (·.cells.size),i.size,i.bytes))=some (some size,size,f))
 (v:Value)(n:Nat)(p:List Value)(b:w.ownsRow 0 e size v n p)(c:Nat) :
 ∃ m o,(Builtin.append_ #[t,t] ty #[v,.slice none 0 c]).run P w=.ok m o/\App w v e size n p m o:=by
 obtain⟨i,z,k,A,u,x,y⟩:=ZK q;refine⟨v,w,?_,b,⟨rfl,rfl,rfl,CP _,fun _ _ _=>rfl⟩,.inl rfl⟩;obtain⟨a,j,rfl⟩:=zf b;have d:n<=j:=by
  rcases b.2 with⟨h,r⟩|⟨_,_,_,h,_,_,s,_⟩
  .omega
  .simp at h;omega
 cases a with
 | none=>simp[Builtin.append_,run_underlying l,sizeOf,typeInfo,k,Builtin.lenOf,Builtin.firstCells,d]
 | some a=>simp[Builtin.append_,run_underlying l,sizeOf,typeInfo,k,Builtin.lenOf,Builtin.firstCells,d,storeCells]
theorem Xf(t ty e:TypeId)(size a:Nat)(y:P.underlying t=some (.slice e))
 (x:((P.info? e).map fun i=>(i.zero.map (·.cells.size),i.size,i.bytes))=some (some size,size,a))(s:0<size)
 (v:Value)(n:Nat)(o:List Value)(l:w.ownsRow 0 e size v n o)(A:Value)(m:Nat)(c:List Value)(h:w.ownsRow 0 e size A m c)
 (G:∀ u∈c,u.oneCell'=true)(r:n+m<=maxLen)(j:(n+m)*a<=140737488355328) :
 ∃ B C,(Builtin.append_ #[t,t] ty #[v,A]).run P w=.ok B C/\App w v e size (n+m) (o++c) B C:=by
 rcases h.2 with⟨rfl,rfl⟩|⟨g,q,D,rfl,_⟩
 .have hx:c=[]:=BH (by simpa using h.1)
  subst hx;have:=Pi (P:=P) t ty e size a y x v n o l 0
  simpa using this
 .exact zq t ty e size a y x s v n o l ⟨g,0,none⟩ m q c h.1 (h.cells (g:=g) rfl) G r j
theorem XQ(s:ByteArray):(Builtin.firstCells 1 s.size (.string s)).run P w=.ok (u8s s.data.toList).toArray w:=by
 simp only[Builtin.firstCells,xX]
 congr 1
 have hs:s.extract 0 s.size=s:=bG
 rw[hs]
 apply xQ
 simp[u8s]
theorem Yh(t u ty e:TypeId)(J:P.underlying t=some (.slice e))(K:P.underlying u=some .string)
 (hI:((P.info? e).map fun i=>(i.zero.map (·.cells.size),i.size,i.bytes))=some (some 1,1,1))
 (v:Value)(n:Nat)(m:List Value)(a:w.ownsRow 0 e 1 v n m)(s:ByteArray)
 (y:n+s.size<=maxLen)(C:n+s.size<=140737488355328) :
 ∃ v' w',(Builtin.append_ #[t,u] ty #[v,.string s]).run P w=.ok v' w'/\App w v e 1 (n+s.size) (m++u8s s.data.toList) v' w':=by
 obtain⟨i,z,D,hz,X,h3,h4⟩:=ZK hI;have G:n+s.size<=9223372036854775807:=by simp only[maxLen] at y;omega
 have o:(u8s s.data.toList).length=s.size:=by simp[u8s]
 have f:(m++u8s s.data.toList).length=(n+s.size)*1:=by rw[CN,a.1,o];omega
 have grown:∀ (old:Nat),old<n+s.size->∀ (row:Option Nat),
  (w.drew.alloc (.cells (m.toArray++(u8s s.data.toList).toArray++Builtin.zeroCells z.cells (grownCap w (n+s.size) old e-(n+s.size))) e)).ownsRow 0 e 1
    (.slice (some (Y w.heap.size 0)) (n+s.size) (grownCap w (n+s.size) old e)) (n+s.size) (m++u8s s.data.toList) /\
  w.grownBy (w.drew.alloc (.cells (m.toArray++(u8s s.data.toList).toArray++Builtin.zeroCells z.cells (grownCap w (n+s.size) old e-(n+s.size))) e)) row:=by
  intro old _ row;have S:=uE w (n+s.size) old e;have q:grownCap w (n+s.size) old e<=maxLen:=wB w (n+s.size) old e y;refine⟨⟨f,.inr ⟨w.heap.size,_,_,rfl,Bg _,heap_alloc_new w.drew _,S,q,?_,?_⟩⟩,⟨rfl,rfl,rfl,bG,fun k T _=>xq w.drew _ k T⟩⟩
  .simp only[Array.size_append,AQ,size_zeroCells,h4,a.1,o]
   omega
  .simp only[yS,Be]
   rw[<- Be,<- f];exact xR
 rcases a.2 with⟨rfl,rfl⟩|⟨g,d,l,rfl,M,hg,a1,q,N,r⟩
 .have L:m=[]:=BH (by simpa using a.1)
  subst L;by_cases hm:s.size=0
  .refine⟨.slice none 0 0,w,?_,⟨?_,⟨rfl,rfl,rfl,CP _,fun _ _ _=>rfl⟩,.inl rfl⟩⟩
   .simp[Builtin.append_,run_underlying J,run_underlying K,sizeOf,typeInfo,D,Builtin.lenOf,Builtin.firstCells,hm]
   .have:u8s s.data.toList=[]:=BH (by rw[o];exact hm)
    rw[this,hm];exact Bf w 0 e 1
  .have hr:=run_append_nil_string (P:=P) w t u ty e i z J K D hz s V V (by rw[h3];omega)
   have h:=grown 0 V (Value.ownBlock (.slice none 0 0));have he:s.data.map (fun b=>Value.int .u8 b.toNat)=(u8s s.data.toList).toArray:=by apply xQ;simp[u8s]
   rw[he] at hr;simp only[BQ,Ba,Array.empty_append] at h |-;exact⟨_,_,hr,h.1,h.2,.inr rfl⟩
 .by_cases hroom:n+s.size<=d
  .have Q:=XQ (P:=P) (w:=w) s
   have B:=wH P g n e (u8s s.data.toList) 0 l w hg (by rw[o,N];omega) (by intro x L;simp[u8s] at L;obtain⟨c,_,rfl⟩:=L;rfl);simp only[AM] at B;refine⟨.slice (some (Y g 0)) (n+s.size) d,w.setRow g (l.toList.take n++u8s s.data.toList++l.toList.drop (n+(u8s s.data.toList).length)).toArray,?_,
    ⟨⟨f,.inr ⟨g,d,_,rfl,M,setRow_heap w g l _ e _ hg,hroom,q,?_,?_⟩⟩,⟨rfl,rfl,rfl,bG,fun k _ T=>xy w g k _ (fun e=>T (by simp[Value.ownBlock,e]))⟩,.inl rfl⟩⟩
   .simp[Builtin.append_,run_underlying J,run_underlying K,sizeOf,typeInfo,D,Builtin.lenOf,hroom,X,Q,Addr.add_lit,B]
   .simp only[AQ,CN,CR,Bc,yh]
    omega
   .have:l.toList.take n=m:=by rw[<- r];simp
    rw[this,<- f];exact xR
  .have holds:∀ j u,m[j]?=some u->w.cell? (((Y g 0):Addr).add j)=some u:=a.cells (g:=g) rfl
   have hn:¬(n+s.size<=d):=hroom;have A:¬(9223372036854775807<((n:Int)+(s.size:Int))):=V
   have a0:=wI (need:=n+s.size) (old:=d) (bytes:=1) V V;have p:¬(281474976710656<Builtin.nextslicecap (n+s.size) d*1):=V
   have Q:=XQ (P:=P) (w:=w.drew) s;have R:=xo (P:=P) w.drew 1 n ⟨g,0,none⟩ n d m (by simpa using a.1) (by simpa using holds);have h:=grown d V (Value.ownBlock (.slice (some (Y g 0)) n d));refine⟨_,_,?_,h.1,h.2,.inr rfl⟩;rw[Nat.mul_one] at p;simp[Builtin.append_,run_underlying J,run_underlying K,sizeOf,typeInfo,zeroValue,D,hz,Builtin.lenOf,hn,A,p,Question.forced,Q,R,newRow,grownCap,X,h3]
   try (congr 2;apply xQ;simp[List.append_assoc])
end
theorem zm{P:Program}{w:World}{e:Array Oper}{o:Oper}{a:Act}(g:o.guard=none)(s x:Operand)(t u:TypeId)
 (r:o.op=.call {callee:=.builtin .append,args:=#[s,x],argTypes:=#[t,u]})(v i:Value)(hs:a.eval s=v)(A:a.eval x=i)
 (c:∃ v' w',(Builtin.append_ #[t,u] o.type #[v,i]).run P w=.ok v' w'/\R v' w')
 (h:∀ v' w',R v' w'->wpList P e Q rest (a.put o.dst v') w'):wpList P e Q (o::rest) a w:=by
 obtain⟨v',w',y,l⟩:=c;refine wpList_plain g fun K j=>?_;unfold Oper.wp execOp;simp only[r,resolve,invoke,builtin,xz,xX,xM,xY,Bw,AE,hs,A,y];exact j _ _ (h v' w' l)
theorem Zw{P:Program}{w:World}{d:Array Oper}{o:Oper}{a:Act}{g:Prop}(e:o.guard=none)(s x:Operand)(t u:TypeId)
 (j:o.op=.call {callee:=.builtin .append,args:=#[s,x],argTypes:=#[t,u]})(v f:Value)(hs:a.eval s=v)(q:a.eval x=f)
 (c:∃ v' b,(Builtin.append_ #[t,u] o.type #[v,f]).run P w=.ok v' b/\R v' b)
 (h:∀ v' b,R v' b->K (a.put o.dst v') b) :
 if Region.wanted o (yielded d a.tmps)=true then Oper.wp P o a w K Q else g:=by
 have l:Region.wanted o (yielded d a.tmps)=true:=by simp[Region.wanted,e]
 rw[Bl l];obtain⟨v',b,k,i⟩:=c;unfold Oper.wp execOp;simp only[j,resolve,invoke,builtin,xz,xX,xM,xY,Bw,AE,hs,q,k];exact h v' b i
theorem Blk.setRow{w:World}{g:Nat}{t:TypeId}(h:Blk w g c t)(a:List Value):Blk (w.setRow g a.toArray) g a t :=
 setRow_heap w g _ _ t _ h
theorem Blk.pk{w:World}{t:TypeId}(h:Blk w b c t):w.shape? b=some (t,c.length):=by
 rw[Blk] at h;simp[World.shape?,h]
theorem Fr.setRow{w:World}(h:Fr S a w){g:Nat}(f:g<a.heap.size->S g)(c:Array Value):Fr S a (w.setRow g c) :=
 ⟨h.os,h.tape,h.output,by simpa using h.size,fun k b d=>by
  rw[xy w g k _ (fun e=>d (by subst e;exact f b))];exact h.block k b d⟩
theorem Yw{w:World}{e:TypeId}{size g cap:Nat}(h:Blk w g c e)(b:n<=cap)(hm:cap<=maxLen)(a:c.length=cap*size)(d:c.take (n*size)=f) :
 w.ownsRow 0 e size (.slice (some (Y g 0)) n cap) n f:=by
 refine⟨?_,.inr ⟨g,cap,c.toArray,rfl,Bg _,h,b,hm,by simpa using a,by simpa using d⟩⟩;rw[<- d,CR,a,Ab (BG _ b)]
theorem YG{w:World}{e:TypeId}{size:Nat}(h:w.ownsRow 0 e size v n i) :
 (v=.slice none 0 0/\n=0/\i=[])\/∃ g a c,v=.slice (some (Y g 0)) n a/\Blk w g c e/\n<=a/\a<=maxLen/\c.length=a*size/\c.take (n*size)=i:=by
 rcases h.2 with⟨f,b⟩|⟨g,a,d,f,_,m,b,j,k,l⟩
 .refine .inl ⟨f,b,?_⟩
  have:=h.1;rw[b,vA] at this;exact BH this
 .exact .inr ⟨g,a,d.toList,f,by rw[Blk];simpa using m,b,j,by simpa using k,l⟩
def YH(k i:Nat)(a b:List Value):List Value:=a.take (i*k)++b++a.drop (i*k)
def YI(k i:Nat)(a:List Value):List Value:=a.take (i*k)++a.drop ((i+1)*k)
section
variable {P:Program} {w:World}
theorem UC(t e ty:TypeId)(size:Nat)(y:P.underlying t=some (.slice e))(hs:(P.info? e).map (·.size)=some size)
 (g n m f p:Nat)(a:Addr)(c b:List Value)(u:Blk w g c e)(d:n+m<=f)(r:c.length=f*size)(o:b.length=m*size)
 (h:∀ j v,b[j]?=some v->w.cell? (a.add j)=some v)(q:∀ v∈b,v.oneCell'=true) :
 (Builtin.append_ #[t,t] ty #[.slice (some (Y g 0)) n f,.slice (some a) m p]).run P w =
   .ok (.slice (some (Y g 0)) (n+m) f) (w.setRow g (c.take (n*size)++b++c.drop (n*size+b.length)).toArray):=by
 have s:=xo (P:=P) w size m a m p b o h;have l:n*size+b.length<=c.length:=by rw[o,r,<- yo];exact BG _ d
 have k:=wH P g (n*size) e b 0 c.toArray w u (by simpa using l) q;simp only[AM] at k;cases hq:P.info? e with
 | none=>simp[hq] at hs
 | some i =>
  have x:i.size=size:=by simpa [hq] using hs
  simp[Builtin.append_,run_underlying y,sizeOf,typeInfo,hq,x,Builtin.lenOf,d,s,Addr.add_lit,k]
theorem ZC(t e ty:TypeId)(size:Nat)(B:P.underlying t=some (.slice e))(hs:(P.info? e).map (·.size)=some size)
 (g o b h:Nat)(a:Addr)(d m:Nat)(c f:List Value)(s:TypeId)(x:Blk w g c s)(A:f.length=Nat.min d b*size)
 (l:∀ j v,f[j]?=some v->w.cell? (a.add j)=some v)(k:o+f.length<=c.length)(u:∀ v∈f,v.oneCell'=true) :
 (Builtin.copy_ #[t,t] ty #[.slice (some (Y g o)) b h,.slice (some a) d m]).run P w =
   .ok (goInt (Nat.min d b)) (w.setRow g (c.take o++f++c.drop (o+f.length)).toArray):=by
 have r:=run_loadCells_list (P:=P) w a f l;have q:=wH P g o s f 0 c.toArray w x (by simpa using k) u;cases hq:P.info? e with
 | none=>simp[hq] at hs
 | some i =>
  have y:i.size=size:=by simpa [hq] using hs
  rw[A] at r;simp[Builtin.copy_,run_underlying B,Builtin.lenOf,Builtin.firstCells,sizeOf,typeInfo,hq,y,r,q]
theorem QH(z:Array Value)(n:Nat)(h:∀ u∈z.toList,u.oneCell'=true):∀ u∈(Builtin.zeroCells z n).toList,u.oneCell'=true:=by
 intro u c;simp only[Builtin.zeroCells,Array.toList_map,Bb,Array.mem_toList_iff,Array.mem_range] at c;obtain⟨i,d,rfl⟩:=c;have e:0<z.size:=by
  rcases yI z.size with a|a
  .rw[a,Nat.mul_zero] at d;omega
  .exact a
 have b:=vE i e;rw[getElem!_pos z _ b];exact h _ bG
theorem Sc(t e ty:TypeId)(i:TypeInfo)(z:Value)(size:Nat)(k:P.underlying t=some (.slice e))(p:P.info? e=some i)(r:i.zero=some z)(d:z.cells.size=size)(f:∀ u∈z.cells.toList,u.oneCell'=true)
 (g o n l:Nat)(c:List Value)(h:TypeId)(j:Blk w g c h)(a:o+n*size<=c.length) :
 ∃ zs:List Value,zs.length=n*size/\(Builtin.clear_ #[t] ty #[.slice (some (Y g o)) n l]).run P w=.ok (.tuple #[]) (w.setRow g (c.take o++zs++c.drop (o+zs.length)).toArray):=by
 refine⟨(Builtin.zeroCells z.cells n).toList,by simp[Builtin.zeroCells,d],?_⟩;cases n with
 | zero =>
  have m:(Builtin.zeroCells z.cells 0).toList=[]:=by simp[Builtin.zeroCells]
  have hs:=setRow_self w g c.toArray h (0,0) j;simp[Builtin.clear_,run_underlying k,m,hs]
 | succ n =>
  have q:(Builtin.zeroCells z.cells (n+1)).toList.length=(n+1)*size:=by simp[Builtin.zeroCells,d]
  have b:=wH P g o h (Builtin.zeroCells z.cells (n+1)).toList 0 c.toArray w j (by rw[q];simpa using a) (QH _ _ f);simp only[AM] at b;simp[Builtin.clear_,run_underlying k,zeroValue,typeInfo,p,r,b]
theorem YJ{b:Array Oper}{o:Oper}{a:Act}(c:o.guard=none)(d s:Operand)(t e:TypeId)
 (k:o.op=.call {callee:=.builtin .copy,args:=#[d,s],argTypes:=#[t,e]})(v u:Value)(j:a.eval d=v)(hs:a.eval s=u){f:Value}{g:World}
 (l:(Builtin.copy_ #[t,e] o.type #[v,u]).run P w=.ok f g)(h:wpList P b Q rest (a.put o.dst f) g):wpList P b Q (o::rest) a w:=by
 refine wpList_plain c fun K i=>?_;unfold Oper.wp execOp;simp only[k,resolve,invoke,builtin,xz,xX,xM,xY,Bw,AE,j,hs,l];exact i _ _ h
theorem YT{b:Array Oper}{o:Oper}{a:Act}{i:Prop}
 (l:o.guard=none)(d x:Operand)(e f:TypeId)(c:o.op=Op.call {callee:=Callee.builtin Builtin.copy,args:=#[d,x],argTypes:=#[e,f]})
 (v u:Value)(k:a.eval d=v)(r:a.eval x=u)(m:(Builtin.copy_ #[e,f] o.type #[v,u]).run P w=.ok g h)(j:K (a.put o.dst g) h) :
 if Region.wanted o (yielded b a.tmps)=true then Oper.wp P o a w K Q else i:=by
 have q:Region.wanted o (yielded b a.tmps)=true:=by simp[Region.wanted,l]
 rw[Bl q];unfold Oper.wp execOp;simp only[c,resolve,invoke,builtin,xz,xX,xM,xY,Bw,AE,k,r,m];exact j
theorem RV{b:Array Oper}{o:Oper}{a:Act}{i:Prop}
 (l:o.guard=none)(d x:Operand)(e f:TypeId)(c:o.op=Op.call {callee:=Callee.builtin Builtin.append,args:=#[d,x],argTypes:=#[e,f]})
 (v u:Value)(k:a.eval d=v)(q:a.eval x=u)(m:(Builtin.append_ #[e,f] o.type #[v,u]).run P w=.ok g h)(j:K (a.put o.dst g) h) :
 if Region.wanted o (yielded b a.tmps)=true then Oper.wp P o a w K Q else i:=by
 have p:Region.wanted o (yielded b a.tmps)=true:=by simp[Region.wanted,l]
 rw[Bl p];unfold Oper.wp execOp;simp only[c,resolve,invoke,builtin,xz,xX,xM,xY,Bw,AE,k,q,m];exact j
end
def U8(W:World)(k:Nat):Prop:=∃ c f,W.heap[k]?=some (.cells c 5 f)
abbrev Still (W w:World):Prop:=Fr (U8 W) W w
theorem Still.trans{b c:World}(h:Still a b)(k:Still b c):Still a c :=
 Fr.tk h k fun i o r=>Classical.byContradiction fun e=>by
  obtain⟨x,f,g⟩:=r;rw[h.block i o e] at g;exact e ⟨x,f,g⟩
theorem Still.nE{w b:World}{j:List Value}(h:w.ownsRow 0 5 1 v n j)(f:Fr (fun k=>v.ownBlock=some k) w b):Still w b :=
 f.mono fun i _ a=>by
  rcases YG h with⟨rfl,_⟩|⟨g,d,c,rfl,e,_⟩
  .simp[Value.ownBlock] at a
  .simp[Value.ownBlock] at a
   subst a;exact⟨_,_,e⟩
theorem Still.rW{w:World}(f:Fr Nil w a):Still w a:=f.mono fun _ _ h=>absurd h id
theorem Blk.still{W w:World}{t:TypeId}(h:Blk W b c t)(d:t≠5)(f:Still W w):Blk w b c t :=
 h.fr f fun⟨x,g,a⟩=>by
  rw[Blk] at h;rw[h] at a;simp at a;exact d a.2.1
def Adds(w:World)(v:Value)(n:Nat)(d:List Value)(a:List UInt8)(b:Value)(c:World):Prop :=
 c.ownsRow 0 5 1 b (n+a.length) (d++u8s a)/\Fr (fun k=>v.ownBlock=some k) w c/\(∀ k,b.ownBlock=some k->v.ownBlock=some k\/w.heap.size<=k)
theorem Adds.refl{w:World}{a:List Value}(h:w.ownsRow 0 5 1 v n a):Adds w v n a [] v w :=
 ⟨by simpa [u8s] using h,Fr.refl _ _,fun _ b=>.inl b⟩
theorem Sd(a b:List UInt8):u8s (a++b)=u8s a++u8s b:=by simp[u8s]
theorem Adds.trans{w t w2:World}{r s:Value}{e:List Value}{a b:List UInt8}(h:Adds w v n e a r t)(k:Adds t r (n+a.length) (e++u8s a) b s w2):Adds w v n e (a++b) s w2:=by
 refine⟨?_,?_,fun i o=>?_⟩
 .rw[CN,Sd,<- vR,<- Be];exact k.1
 .refine h.2.1.tk k.2.1 fun i o c=>?_
  rcases h.2.2 i c with g|g
  .exact g
  .omega
 .rcases k.2.2 i o with c|c
  .exact h.2.2 i c
  .exact .inr (CO h.2.1.size c)
theorem Adds.next{w f g:World}{d e:Value}{m:Nat}{a b:List UInt8}(h:Adds w v n c a d f)(hm:m=n+a.length)(k:Adds f d m (c++u8s a) b e g):Adds w v n c (a++b) e g:=by
 subst hm;exact h.trans k
theorem Adds.of{w d c:World}{b:Value}{g:List Value}{a:List UInt8}(h:Adds d v n g a b c)(f:Fr Nil w d):Adds w v n g a b c :=
 ⟨h.1,(f.mono (fun _ _ h=>absurd h id)).tk h.2.1 (fun _ _ h=>h),fun k i=>(h.2.2 k i).imp id (fun h=>CO f.size h)⟩
theorem Adds.still{w b:World}{e:Value}{a:List UInt8}(h:Adds w v n c a e b)(d:w.ownsRow 0 5 1 v n c):Still w b:=Still.nE d h.2.1
theorem Pj:((prog.info? 5).map fun i=>(i.zero.map (·.cells.size),i.size,i.bytes))=some (some 1,1,1):=bI
theorem Pk(w l:World)(v:Value)(n:Nat)(g:List Value)(h:w.ownsRow 0 5 1 v n g)(c:UInt8)(x:n+1<=1099511627776)(u:Value)(f:u=.int .u8 c.toNat)(t:l=w.alloc (.cells #[u] 5))(N:Nat)(p:N=w.heap.size)(ty:TypeId) :
 ∃ b d,(Builtin.append_ #[150,150] ty #[v,.slice (some (Y N 0)) 1 1]).run prog l=.ok b d/\Adds w v n g [c] b d:=by
 subst t;subst f;subst p;have q:Blk (w.alloc (.cells #[.int .u8 c.toNat] 5)) w.heap.size [.int .u8 c.toNat] 5:=Blk.new w [.int .u8 c.toNat] _;have r:=ze h ((Fr.refl Nil w).alloc (.cells #[.int .u8 c.toNat] 5)) (fun _ _=>id);obtain⟨b,d,s,m,o,a⟩:=zq (P:=prog) 150 ty 5 1 1 Ap Pj V v n g r ⟨w.heap.size,0,none⟩ 1 1 [.int .u8 c.toNat] rfl
  (fun j u f=>by rw[BO,BQ,q.cell];exact f) aA ac V
 refine⟨b,d,s,m,((Fr.refl (fun k=>v.ownBlock=some k) w).alloc _).tk ((Fr.sB o).mono (fun i _ h=>h)) (fun i _ h=>h),fun k e=>?_⟩;rcases a with a|a
 .exact .inl (by rw[<- a];exact e)
 .rw[a] at e;simp at e;exact .inr V
def ZG(W:World)(h:Value)(b:List UInt8):Prop :=
 ∃ g c,h=.func (.func g) #[] c/\(∀ a w,(callFunc g a).run prog w=.ok (.enter g a) w)/\∀ w,Still W w->∀ v n f,w.ownsRow 0 5 1 v n f->n+b.length<=1099511627776 ->
  Calls prog g (#[v]++c) w fun e i=>∃ d,e=.returned d/\Adds w v n f b d i
theorem ZG.still{W:World}{c:Value}{b:List UInt8}(h:ZG W c b)(f:Still W a):ZG a c b:=by
 obtain⟨g,j,rfl,e,d⟩:=h;exact⟨g,j,rfl,e,fun w i=>d w (f.trans i)⟩
def zk(n:Nat):List UInt8:=if n<128 then [UInt8.ofNat n] else UInt8.ofNat (n%128+128)::zk (n / 128)
theorem Xp(h:n<128):zk n=[UInt8.ofNat n]:=by rw[zk];simp[h]
theorem XR(h:¬n<128):zk n=UInt8.ofNat (n%128+128)::zk (n / 128):=by rw[zk];simp[h]
theorem Ic:∀ m:Fin 256,bits BinOp.or IntKind.u8 ((m.val:Nat):Int) 128=((m.val%128+128:Nat):Int):=by decide +kernel
theorem or128(r:Nat):Value.int .u8 (bits BinOp.or IntKind.u8 ((r:Int)%256) 128)=.int .u8 (UInt8.ofNat (r%128+128)).toNat:=by
 have h:=Ic ⟨r%256,vE _ V⟩;have e:((r:Int)%256)=((r%256:Nat):Int):=V
 rw[e,h]
 congr 1
 simp only[UInt8.toNat_ofNat'];omega
theorem Ys(b N:Nat)(x:N<9223372036854775808)(w:World)(q:Blk w b [I N] 3)(v:Value)(n:Nat)(o:List Value)(l:w.ownsRow 0 5 1 v n o)(s:n+(zk N).length<=1099511627776) :
 Calls prog 280 #[v,E b 0] w fun e h=>∃ i,e=.returned i/\Adds w v n o (zk N) i h:=by
 have G:w.cell? (Y b 0)=some (I N):=by rw[q.cell];rfl
 have y:(N:Int)<=9223372036854775807:=V
 obtain⟨C,D,rfl⟩:=zf l;have u:=Z l;clear l q;go_enter func280,ntmps280;go_wp2_with fail
 go_loopw [0,4] (fun B m h=>∃ (pre:List UInt8) (r:Nat),zk N=pre++zk r/\r<9223372036854775808/\m=.int .u64 r/\Adds w (.slice C n D) n o pre B h) (fun _ m _=>(intOf m).toNat)
 case atStart=>exact⟨[],N,rfl,x,rfl,Adds.refl u.o⟩
 case round =>
  obtain⟨pre,r,a,J,rfl,f⟩:=hrel;obtain⟨K,L,rfl⟩:=zf f.1;have p:=Z a;have A:(zk N).length=pre.length+(zk r).length:=by rw[a,CN]
  clear a;by_cases d:r<128
  .have k:(zk r).length=1:=by rw[Xp d];rfl
   have t:Value.int .u8 (r:Int)=.int .u8 (UInt8.ofNat r).toNat:=by congr 1;simp;omega
   have c:=fun ty=>Pk wr _ _ _ _ f.1 (UInt8.ofNat r) V _ t rfl _ rfl ty;have j:=Z f;clear f t
   go_wp2_with (at_builtin;go_must (refine zm rfl _ _ _ _ rfl _ _ bH bH (c _) ?_);rintro i h g)
   go_ret;exact⟨_,rfl,by rw[p.o,Xp d];exact j.o.trans g⟩
  .have hge:(128:Int)<=r:=V
   have k:(zk r).length=(zk (r / 128)).length+1:=by rw[XR d];rfl
   have c:=fun ty=>Pk wr _ _ _ _ f.1 (UInt8.ofNat (r%128+128)) V _ (or128 r) rfl _ rfl ty;have j:=Z f;clear f
   go_wp2_with (at_builtin;go_must (refine zm rfl _ _ _ _ rfl _ _ bH bH (c _) ?_);rintro i h g)
   refine⟨⟨pre++[UInt8.ofNat (r%128+128)],r / 128,by rw[p.o,XR d];simp,V,by go_num,j.o.trans g⟩,?_⟩;simp[intOf];omega
theorem VI(W:World)(b N:Nat)(c:N<9223372036854775808)(d:Blk W b [I N] 3) :
 ZG W (.func (.func 280) #[] #[E b 0]) (zk N) :=
 ⟨_,_,rfl,wF func280 bI rfl,fun w f v n g e a=>Ys b N c w (d.still O f) v n g e a⟩
theorem QI(x:Int)(w:World) :
 Calls prog 277 #[I x] w fun e a=>e=.returned (.func (.func 280) #[] #[E w.heap.size 0])/\a=w.alloc (.cells #[I x] 3):=by
 go_enter func277,ntmps277
 go_wp2
 go_ret;exact⟨rfl,rfl⟩
theorem ZY(W:World)(x:Int)(w:World)(b:Fr Nil W w) :
 Calls prog 277 #[I x] w fun e a=>e=.returned (.func (.func 280) #[] #[E w.heap.size 0])/\Blk a w.heap.size [I x] 3/\Fr Nil W a:=by
 refine(QI x w).mono ?_;rintro e a ⟨rfl,rfl⟩;exact⟨rfl,Blk.new w [I x] _,b.alloc _⟩
def Zk(s:List UInt8):List UInt8:=zk s.length++s
theorem Ki(w:World)(v:Value)(n:Nat)(e:List Value)(h:w.ownsRow 0 5 1 v n e)(s:ByteArray)(l:n+s.size<=1099511627776)(ty:TypeId) :
 ∃ b c,(Builtin.append_ #[150,9] ty #[v,.string s]).run prog w=.ok b c/\Adds w v n e s.data.toList b c:=by
 obtain⟨b,c,j,f,g,a⟩:=Yh (P:=prog) (w:=w) 150 9 ty 5 Ap AH Pj v n e h s ac V;refine⟨b,c,j,by simpa using f,(Fr.sB g).mono (fun i _ h=>h),fun k d=>?_⟩;rcases a with a|a
 .exact .inl (by rw[<- a];exact d)
 .rw[a] at d;simp at d;exact .inr V
theorem Nn(b:Nat)(s:ByteArray)(hs:s.size<9223372036854775808)(w:World)(j:Blk w b [.string s] 9)(v:Value)(n:Nat)(r:List Value)(o:w.ownsRow 0 5 1 v n r)(a:n+(Zk s.data.toList).length<=1099511627776) :
 Calls prog 285 #[v,E b 0] w fun e p=>∃ x,e=.returned x/\Adds w v n r (Zk s.data.toList) x p:=by
 have N:w.cell? (Y b 0)=some (.string s):=by rw[j.cell];rfl
 obtain⟨G,J,rfl⟩:=zf o;have A:aa (n+(zk s.size).length+s.size<=1099511627776):=by unfold Zk at a;simp at a;unfold aa;omega
 have t:aa (∀ q,Still w q->q.cell? (Y b 0)=some (.string s)):=by
  intro q h;rw[(j.still O h).cell];rfl
 have y:=Z j;have u:=Z o;clear j o;go_enter func285,ntmps285;go_wp2_with fail
 go_region_held3 (fun p=>p.cell? (Y b 0)=some (.string s)) (first|go_keep|assumption)
  (first
  | (go_at_call 280;refine(Ys _ s.size hs _ (by first|exact g|exact g.drew) (.slice G n J) n r (ze (S:=Nil) u.o zd (fun _ _=>id)) (by unfold Zk at a;simp at a;omega)).mono ?_;rintro e L ⟨Q,rfl,f⟩;have c:Still w L:=(Still.rW zd).trans (f.still (ze (S:=Nil) u.o zd (fun _ _=>id)));have C:=t.o _ c;have d:=Z f;clear f)
  | (go_at_call 277;refine(ZY w _ _ zd).mono ?_;rintro e K ⟨rfl,g,m⟩;have B:K.cell? (Y b 0)=some (.string s):=by rw[(y.o.fr m id).cell];rfl)
  | (refine Zw bH _ _ _ _ bH _ _ bH bH (Ki _ _ _ _ (ze (S:=Nil) d.o.1 zd (fun _ _=>id)) s A.o _) ?_;intro R M l;have i:Still w M:=(c.trans (Still.rW zd)).trans (l.still (ze (S:=Nil) d.o.1 zd (fun _ _=>id)));have D:=t.o _ i;have k:=Z l;clear l))
 go_wp2
 go_ret;have e:Zk s.data.toList=zk s.size++s.data.toList:=by simp[Zk]
 rw[e];exact⟨_,rfl,(d.o.of zd).trans (k.o.of zd)⟩
theorem Np(s:ByteArray)(w:World) :
 Calls prog 284 #[.string s] w fun e a=>e=.returned (.func (.func 285) #[] #[E w.heap.size 0])/\a=w.alloc (.cells #[.string s] 9):=by
 go_enter func284,ntmps284
 go_wp2
 go_ret;exact⟨rfl,rfl⟩
theorem RW(W:World)(b:Nat)(s:ByteArray)(hs:s.size<9223372036854775808)(c:Blk W b [.string s] 9) :
 ZG W (.func (.func 285) #[] #[E b 0]) (Zk s.data.toList) :=
 ⟨_,_,rfl,wF func285 bI rfl,fun w e v n f d a=>Nn b s hs w (c.still O e) v n f d a⟩
def ZO(W:World):List Value->List (List UInt8)->Prop
 | [],[]=>True
 | p::c,b::a=>ZG W p b/\ZO W c a
 | _,_=>False
theorem ZO.still{W a:World}(f:Still W a):∀ {c:List Value}{b:List (List UInt8)},ZO W c b->ZO a c b
 | [],[],_=>trivial
 | _::_,_::_,h=>⟨h.1.still f,ZO.still f h.2⟩
theorem ZO.length{W:World}:∀ {o:List Value}{c:List (List UInt8)},ZO W o c->o.length=c.length
 | [],[],_=>rfl
 | _::o,_::c,h=>by simp[ZO.length h.2]
theorem ZO.get{W:World}:∀ {d:List Value}{c:List (List UInt8)},ZO W d c->∀ (i:Nat)(e:i<d.length)(f:i<c.length),ZG W d[i] c[i]
 | [],[],_,i,e,_=>by simp at e
 | _::d,_::c,h,0,_,_=>h.1
 | _::d,_::c,h,i+1,e,f=>ZO.get h.2 i (by simpa using e) aG
theorem V9(a:List (List UInt8))(i:Nat):(a.take i).flatten.length<=a.flatten.length:=by
 have h:=AB (fun l=>(List.flatten l).length) (Bo i a);simp only[wu,CN] at h;omega
theorem Rm(h:p:=by
 go_wp2
 refine⟨⟨i+1,V,by go_num,by rw[D.o];exact a6.o⟩,?_⟩;simp[intOf];omega):p:=h
theorem UD(b:Nat)(sv:Value)(A:List Value)(r:List (List UInt8))(w:World)(hb:Blk w b [sv] 368)(hs:w.ownsRow 0 365 1 sv A.length A)(hp:ZO w A r)
 (v:Value)(n:Nat)(Q:List Value)(ho:w.ownsRow 0 5 1 v n Q)(B:n+r.flatten.length<=1099511627776) :
 Calls prog 281 #[v,E b 0] w fun e w'=>∃ v',e=.returned v'/\Adds w v n Q r.flatten v' w':=by
 have hc:w.cell? (Y b 0)=some sv:=by rw[hb.cell];rfl
 have hn:=zH hs;unfold maxLen at hn;have b8:=hp.length;obtain⟨va,vc,rfl⟩:=zf ho;obtain⟨sa,sc,rfl⟩:=zf hs;have HO:=Z ho;have HS:=Z hs;have a9:=Z b8;clear hb ho b8;go_enter func281,ntmps281;go_wp2_with fail
 go_loopw [0,8] (fun t0 t8 w'=>∃ i:Nat,i<=A.length/\t8=I i/\Adds w (.slice va n vc) n Q (r.take i).flatten t0 w') (fun _ t8 _=>A.length-(intOf t8).toNat)
 case atStart=>exact⟨0,Bg _,rfl,Adds.refl HO.o⟩
 case round =>
  obtain⟨i,hi,rfl,s⟩:=hrel;have K:=s.still HO.o;obtain⟨m,hm⟩:∃ m,m=n+(r.take i).flatten.length:=⟨_,rfl⟩;have d:=s.1;rw[<- hm] at d;obtain⟨ta,tc,rfl⟩:=zf d;have HW:=Z d;have HM:=Z hm;clear d hm;by_cases y:i<A.length
  .obtain⟨pg,rfl⟩:∃ g,sa=some (Y g 0):=by
    rcases hs.2 with⟨C,h0⟩|⟨g,b3,c8,C,_⟩
    .omega
    .simp at C;exact⟨g,C.1⟩
   have c1:wr.ownsRow 0 365 1 (.slice (some (Y pg 0)) A.length sc) A.length A:=ze hs K (fun k hk hu=>by
    rcases YG hs with⟨C,_⟩|⟨g,b3,c,C,R,_⟩
    .cases C
    .simp at C
     simp[Value.ownBlock] at hk;obtain⟨x,f,hx⟩:=hu;rw[<- hk,C.1] at hx;rw[Blk] at R;rw[R] at hx;simp at hx)
   have b7:i<r.length:=by rw[<- a9.o];exact y
   obtain⟨g,lb,b9,eg,a3⟩:=hp.get i y b7;have c5:=own_cell? c1 i _ (CS y);rw[b9] at c5;have a:(r.take (i+1)).flatten=(r.take i).flatten++r[i]:=by rw[Bp b7,wu];simp
   have M:=V9 r (i+1);rw[a,CN] at M;have D:=Z a;have HC:=Z a3;have T:=Z s;clear c1 a a3 s b9;go_wp2_with fail;refine(HC.o wr K _ _ _ HW.o (by rw[HM.o];omega)).mono ?_;rintro e w2 ⟨v2,rfl,b5⟩;have a6:=Z (T.o.next HM.o b5);clear b5;exact Rm
  .have e:i=A.length:=V
   have q:(r.take i).flatten=r.flatten:=by rw[Bn (by rw[e,a9.o];exact CP _)]
   rw[q] at s;have T:=Z s;clear q s
   go_wp2
   go_ret;exact⟨_,rfl,T.o⟩
theorem UE(a:Option Addr)(c b:Nat)(w:World) :
 Calls prog 279 #[.slice a c b] w fun e d=>e=.returned (.func (.func 281) #[] #[E w.heap.size 0])/\d=w.alloc (.cells #[.slice a c b] 368):=by
 go_enter func279,ntmps279
 go_wp2
 go_ret;exact⟨rfl,rfl⟩
theorem U7{W w:World}{j:Value}{a:List Value}{t:TypeId}(m:t≠5)(h:W.ownsRow 0 t k j n a)(f:Still W w):w.ownsRow 0 t k j n a :=
 ze h f (fun i d o=>by
  rcases YG h with⟨rfl,_⟩|⟨g,l,c,rfl,e,_⟩
  .simp[Value.ownBlock] at d
  .simp[Value.ownBlock] at d
   obtain⟨x,f,b⟩:=o;rw[<- d] at b;rw[Blk] at e;rw[e] at b;simp at b;exact m b.2.1)
theorem Kj(W:World)(b:Nat)(f:Value)(a:List Value)(c:List (List UInt8))(g:Blk W b [f] 368)(hs:W.ownsRow 0 365 1 f a.length a)(i:ZO W a c) :
 ZG W (.func (.func 281) #[] #[E b 0]) c.flatten :=
 ⟨_,_,rfl,wF func281 bI rfl,fun w e v n j h d =>
  UD b f a c w (g.still O e) (U7 O hs e) (i.still e) v n j h d⟩
def Xq(l:List Nat):List UInt8:=zk l.length++(l.map zk).flatten
theorem Id(h:p:=by
 have h2:=HL.o;rw[<- Aj] at C;have h3:=AB List.length a;rw[HM.o];simp only[CN] at h3 |-;omega):p:=h
theorem Pm(b1 b2 g o c:Nat)(l:List Nat)(row:List Value)(t:TypeId)(ht:t≠5)(hl:∀ x∈l,x<9223372036854775808)(c6:l.length<1000000)(w:World)
 (C:Blk w b1 [.slice (some (Y g o)) l.length c] 26)(h2:Blk w b2 [.func (.func 277) #[] #[]] 366)
 (hr:Blk w g row t)(a5:∀ i (h:i<l.length),row[o+i]?=some (I (l[i]:Nat)))
 (v:Value)(n:Nat)(Q:List Value)(ho:w.ownsRow 0 5 1 v n Q)(B:n+(Xq l).length<=1099511627776) :
 Calls prog 296 #[v,E b1 0,E b2 0] w fun e w'=>∃ v',e=.returned v'/\Adds w v n Q (Xq l) v' w':=by
 have c2:w.cell? (Y b1 0)=some (.slice (some (Y g o)) l.length c):=by rw[C.cell];rfl
 obtain⟨va,vc,rfl⟩:=zf ho;have HO:=Z ho;have H1:=Z C;clear C ho;have J:n+(zk l.length).length+((l.map zk).flatten).length<=1099511627776:=by simp only[Xq,CN] at B;omega
 have HL:=Z J;clear J B;have HR:=Z hr;have H2:=Z h2;have b0:=Z a5;have a7:=Z hl;clear hr h2 a5 hl;go_enter func296,ntmps296
 go_wp2_with (first
  | (go_at_call 280;refine(Ys w.heap.size l.length V _ G (.slice va n vc) n Q (ze (S:=Nil) HO.o u (fun _ _=>id)) (by have:=HL.o;omega)).mono ?_;rintro e w3 ⟨v3,rfl,a1⟩;refine aa.o ?_)
  | (go_at_call 277;refine(ZY w _ _ (Fr.refl _ _)).mono ?_;rintro e w2 ⟨rfl,G,u⟩))
 have X:=Z (a1.of u);have L:=X.o.still HO.o;have c4:w3.cell? (Y b1 0)=some (.slice (some (Y g o)) l.length c):=by rw[(H1.o.still O L).cell];rfl
 clear a1 G u L;refine Z ?_;go_wp2_with fail
 go_loopw [0,14] (fun t0 N w'=>∃ i:Nat,i<=l.length/\N=I i/\Adds w (.slice va n vc) n Q (zk l.length++((l.take i).map zk).flatten) t0 w') (fun _ N _=>l.length-(intOf N).toNat)
 case atStart=>exact⟨0,Bg _,rfl,by simpa using X.o⟩
 case round =>
  obtain⟨i,hi,rfl,s⟩:=hrel;have K:=s.still HO.o;obtain⟨m,hm⟩:∃ m,m=n+(zk l.length++((l.take i).map zk).flatten).length:=⟨_,rfl⟩;have d:=s.1;rw[<- hm] at d;obtain⟨ta,tc,rfl⟩:=zf d;have HW:=Z d;have HM:=Z hm;clear d hm;by_cases y:i<l.length
  .have hcg:wr.cell? (Y g (o+i))=some (I (l[i]:Nat)):=by rw[(HR.o.still ht K).cell];exact b0.o i y
   have c3:wr.cell? (Y b2 0)=some (.func (.func 277) #[] #[]):=by rw[(H2.o.still O K).cell];rfl
   have hx:=a7.o l[i] (CU y);have a:zk l.length++((l.take (i+1)).map zk).flatten=(zk l.length++((l.take i).map zk).flatten)++zk l[i]:=by
    rw[Bp y,Bq,wu];simp
   have M:m+(zk l[i]).length<=1099511627776:=by
    have C:=V9 (l.map zk) (i+1);exact Id
   have D:=Z a;have T:=Z s;have a0:=Z M;clear a s M;generalize l[i]=x at hcg hx D a0
   go_wp2_with (first
    | (go_at_call 280;refine(Ys wr.heap.size x hx _ G (.slice ta m tc) m _ (ze (S:=Nil) HW.o u (fun _ _=>id)) a0.o).mono ?_;rintro e w5 ⟨v5,rfl,a2⟩;refine aa.o ?_)
    | (go_at_call 277;refine(ZY wr _ _ (Fr.refl _ _)).mono ?_;rintro e w4 ⟨rfl,G,u⟩))
   have a6:=Z (T.o.next HM.o (a2.of u));clear a2 G u;refine Z ?_;exact Rm
  .have e:i=l.length:=V
   have q:zk l.length++((l.take i).map zk).flatten=Xq l:=by rw[e,Bj];rfl
   rw[q] at s;have T:=Z s;clear q s
   go_wp2
   go_ret;exact⟨_,rfl,T.o⟩
structure Ver where
 node:Int
 seq:Int
 o0:Int
 o1:Int
 o2:Int
 o3:Int
 value:ByteArray
 ts:Bool
def Ver.cells(v:Ver):List Value:=[I v.node,I v.seq,I v.o0,I v.o1,I v.o2,I v.o3,.string v.value,.bool v.ts]
theorem Ver.sY(v:Ver):v.cells.length=8:=rfl
def isN(x:Int):Prop:=0<=x/\x<9223372036854775808
structure Ver.Nat(v:Ver):Prop where
 node:isN v.node
 seq:isN v.seq
 o0:isN v.o0
 o1:isN v.o1
 o2:isN v.o2
 o3:isN v.o3
 size:v.value.size<1000000000
def Y9(v:Ver):List UInt8:=zk v.node.toNat++(zk v.seq.toNat++(Xq [v.o0.toNat,v.o1.toNat,v.o2.toNat,v.o3.toNat]++Zk v.value.data.toList))
theorem Pn(a:Option Addr)(n c:Nat)(w:World) :
 Calls prog 293 #[.slice a n c,.func (.func 277) #[] #[]] w fun e b =>
  e=.returned (.func (.func 296) #[] #[E w.heap.size 0,E (w.heap.size+1) 0]) /\
  b=(w.alloc (.cells #[.slice a n c] 26)).alloc (.cells #[.func (.func 277) #[] #[]] 366):=by
 go_enter func293,ntmps293
 go_wp2
 go_ret;exact⟨rfl,rfl⟩
theorem Nq(W:World)(a:Option Addr)(n c:Nat)(w:World)(g:Fr Nil W w) :
 Calls prog 293 #[.slice a n c,.func (.func 277) #[] #[]] w fun e b =>
  ∃ d f,e=.returned (.func (.func 296) #[] #[E d 0,E f 0]) /\
  Blk b d [.slice a n c] 26/\Blk b f [.func (.func 277) #[] #[]] 366/\Fr Nil W b:=by
 refine(Pn a n c w).mono ?_;rintro e b ⟨rfl,rfl⟩;refine⟨_,_,rfl,(Blk.new w [.slice a n c] _).alloc _,?_,(g.alloc _).alloc _⟩;have:=Blk.new (w.alloc (.cells #[.slice a n c] 26)) [.func (.func 277) #[] #[]] 366
 simpa using this
theorem Se(W:World)(s:ByteArray)(w:World)(b:Fr Nil W w) :
 Calls prog 284 #[.string s] w fun e a=>e=.returned (.func (.func 285) #[] #[E w.heap.size 0])/\Blk a w.heap.size [.string s] 9/\Fr Nil W a:=by
 refine(Np s w).mono ?_;rintro e a ⟨rfl,rfl⟩;exact⟨rfl,Blk.new w [.string s] _,b.alloc _⟩
theorem Nr(W:World)(g n c:Nat)(a:List Value)(w:World)(f:Fr Nil W w)(hs:Blk w g a 365) :
 Calls prog 279 #[.slice (some (Y g 0)) n c] w fun e d =>
  ∃ b,e=.returned (.func (.func 281) #[] #[E b 0])/\Blk d b [.slice (some (Y g 0)) n c] 368/\Blk d g a 365/\Fr Nil W d:=by
 refine(UE _ n c w).mono ?_;rintro e d ⟨rfl,rfl⟩;exact⟨_,rfl,Blk.new w [.slice (some (Y g 0)) n c] _,hs.alloc _,f.alloc _⟩
theorem Kk(W:World)(d e g o c:Nat)(l:List Nat)(row:List Value)(t:TypeId)(k:t≠5)(q:∀ x∈l,x<9223372036854775808)(f:l.length<1000000)
 (m:Blk W d [.slice (some (Y g o)) l.length c] 26)(p:Blk W e [.func (.func 277) #[] #[]] 366)
 (s:Blk W g row t)(b:∀ i (h:i<l.length),row[o+i]?=some (I (l[i]:Nat))) :
 ZG W (.func (.func 296) #[] #[E d 0,E e 0]) (Xq l) :=
 ⟨_,_,rfl,wF func296 bI rfl,fun w j v n u r a =>
  Pm d e g o c l row t k q f w (m.still O j) (p.still O j) (s.still k j) b v n u r a⟩
theorem QJ(v:Ver)(t:v.Nat)(w:World) :
 Calls prog 289 #[.agg v.cells.toArray] w fun e g=>∃ b,e=.returned (.func (.func 281) #[] #[E b 0])/\ZG g (.func (.func 281) #[] #[E b 0]) (Y9 v)/\Fr Nil w g:=by
 have c:Blk (w.alloc (.cells v.cells.toArray 37)) w.heap.size v.cells 37:=Blk.new w v.cells _;have r:Fr Nil w (w.alloc (.cells v.cells.toArray 37)):=(Fr.refl _ _).alloc _;obtain⟨node,d,T,X,o2,o3,a,y⟩:=v;simp only[Ver.cells] at c r |-;go_enter func289,ntmps289;go_wp2_with fail;obtain⟨N,hN⟩:∃ N,w.heap.size=N:=⟨_,rfl⟩;obtain⟨q,R⟩:∃ q,w.alloc (.cells #[I node,I d,I T,I X,I o2,I o3,.string a,.bool y] 37)=q:=⟨_,rfl⟩;rw[hN] at c |-;rw[R] at c r |-;clear R hN;have a8:q.cell? (Y N 0)=some (I node):=by rw[c.cell];rfl
 have a9:q.cell? (Y N 1)=some (I d):=by rw[c.cell];rfl
 have b0:q.cell? (Y N 6)=some (.string a):=by rw[c.cell];rfl
 have u:aa (∀ g,Fr Nil q g->g.cell? (Y N 0)=some (I node)/\g.cell? (Y N 1)=some (I d)/\g.cell? (Y N 6)=some (.string a)):=by
  intro g hf;have:=(c.fr hf id).cell;exact⟨by rw[this];rfl,by rw[this];rfl,by rw[this];rfl⟩
 have HB:=Z c;clear c
 go_region_held3 (fun g=>g.cell? (Y N 0)=some (I node)/\g.cell? (Y N 1)=some (I d)/\g.cell? (Y N 6)=some (.string a)) (first|assumption|exact u.o _ zd)
  (first
  | (go_at_call 279;refine(Nr w5 _ _ _ _ _ zd (by exact Blk.new _ [_,_,_,_] _)).mono ?_;rintro e k ⟨b6,rfl,B,Q,f⟩;have h:=o.trans f;have b8:=u.o k h)
  | (go_at_call 284;refine(Se w4 _ _ zd).mono ?_;rintro e w5 ⟨rfl,a7,j⟩;have o:=m.trans j;have b7:=u.o w5 o)
  | (go_at_call 293;refine(Nq w3 _ _ _ _ zd).mono ?_;rintro e w4 ⟨b1,b2,rfl,a6,A,s⟩;have m:=l.trans s;have b5:=u.o w4 m)
  | (go_at_call 277;refine(ZY w2 _ _ zd).mono ?_;rintro e w3 ⟨rfl,a5,D⟩;have l:=C.trans D;have b4:=u.o w3 l)
  | (go_at_call 277;refine(ZY q _ _ zd).mono ?_;rintro e w2 ⟨rfl,a4,C⟩;have b3:=u.o w2 C))
 have an:isN node:=t.node;have aq:isN d:=t.seq;have a0:isN T:=t.o0;have a1:isN X:=t.o1;have a2:isN o2:=t.o2;have a3:isN o3:=t.o3;have az:a.size<1000000000:=t.size;unfold isN at an aq a0 a1 a2 a3;have J:ZG k (.func (.func 280) #[] #[E q.heap.size 0]) (zk node.toNat):=VI k _ node.toNat V (by rw[yj an.1];exact(((a4.fr D id).fr s id).fr j id).fr f id);have K:ZG k (.func (.func 280) #[] #[E w2.heap.size 0]) (zk d.toNat):=VI k _ d.toNat V (by rw[yj aq.1];exact((a5.fr s id).fr j id).fr f id);have L:ZG k (.func (.func 296) #[] #[E b1 0,E b2 0]) (Xq [T.toNat,X.toNat,o2.toNat,o3.toNat]) :=
  Kk k b1 b2 N 2 4 [T.toNat,X.toNat,o2.toNat,o3.toNat] _ 37 O (by
   intro x hx;simp only[BC,yX,ub] at hx;rcases hx with rfl|rfl|rfl|rfl <;> omega) bG ((a6.fr j id).fr f id) ((A.fr j id).fr f id) (HB.o.fr h id) (by
   intro i hi;simp only[Bh,BU] at hi;have:i=0\/i=1\/i=2\/i=3:=V
   rcases this with rfl|rfl|rfl|rfl
   .exact AB (fun z=>some (I z)) (yj a0.1).symm
   .exact AB (fun z=>some (I z)) (yj a1.1).symm
   .exact AB (fun z=>some (I z)) (yj a2.1).symm
   .exact AB (fun z=>some (I z)) (yj a3.1).symm)
 have M:ZG k (.func (.func 285) #[] #[E w4.heap.size 0]) (Zk a.data.toList):=RW k _ a V ((a7.fr f id));have p:k.ownsRow 0 365 1 (.slice (some (Y w5.heap.size 0)) 4 4) 4 _:=Yw Q (CP _) ac bH bH;have G:=Kj k _ _ _ [_,_,_,_] B p ⟨J,K,L,M,trivial⟩;have HG:=Z G;have HF:=Z (r.trans h);clear J K L M p G B Q
 go_wp2
 go_ret;refine⟨_,rfl,?_,HF.o⟩;have:=HG.o;simp only[yA,List.flatten_nil,Bz] at this;exact this
end Go.Proofs.YtkhnggkkiefcdaaGreatDoor
