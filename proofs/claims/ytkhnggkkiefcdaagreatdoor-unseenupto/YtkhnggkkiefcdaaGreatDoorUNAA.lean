/- larder: joined texts -/
import Derived.WalkKit
import Derived.WalkSpells
import Derived.WalkLawsBesides
import Derived.Deep.QuietTactic
import Derived.BigQuiet
import Derived.Deep.AppendLies
import Derived.Deep.RegionHeld3
import Derived.Deep.DrawnRows
import Derived.Maps.AppendAt
import Derived.Laws.CopyRow
import Derived.Lib.AppendZerosOnto
import Derived.Lib.Overlaps
import Derived.Laws.Externs
import Derived.Deep.RegionLaw
import Derived.Test.YtkhnggkkiefcdaaGreatDoorChecked
import Derived.Shelf.Abstract
namespace Go.Proofs.YtkhnggkkiefcdaaGreatDoor
open Go.RowKit
set_option maxRecDepth 100000
set_option maxHeartbeats 8000000
abbrev Il:=@List.length_append
abbrev Im:=@Nat.le_trans
abbrev Io:=@Nat.le_refl
abbrev Ip:=@List.length_take
abbrev Iq:=@List.mem_cons_of_mem
abbrev Ir:=@List.mem_append
abbrev Is:=@List.mem_cons_self
abbrev It:=@if_neg
abbrev Iu:=@List.getElem_mem
abbrev Iv:=@List.mem_singleton
abbrev Iw:=@List.length_drop
abbrev Ix:=@List.length_singleton
abbrev Iy:=@List.mem_map
abbrev Iz:=@List.length_cons
abbrev IA:=@List.append_assoc
abbrev IB:=@List.getElem?_eq_getElem
abbrev IC:=@if_pos
abbrev ID:=@List.take_length
abbrev IE:=@List.length_map
abbrev IF:=@decide_eq_true_eq
abbrev IG:=@List.take_append_drop
abbrev IH:=@List.take_of_length_le
abbrev II:=@Nat.zero_le
abbrev IJ:=@List.map_cons
abbrev IK:=@List.mem_of_mem_drop
abbrev IL:=@List.map_append
abbrev IM:=@List.setIfInBounds_toArray
abbrev IP:=@List.mem_iff_getElem
abbrev IQ:=@List.getElem?_eq_some_iff
abbrev IR:=@List.getElem_map
abbrev IU:=@List.cons_append
abbrev IV:=@List.append_nil
abbrev IW:=@List.mem_cons
abbrev IX:=@Go.World.ownsRow_nil
abbrev IY:=@List.eq_nil_of_length_eq_zero
abbrev IZ:=@Nat.mul_le_mul_right
abbrev Ha:=@List.take_append_of_le_length
abbrev Hb:=@Option.some.inj
abbrev Hc:=@List.take_succ_eq_append_getElem
abbrev Hd:=@List.set_cons_zero
abbrev He:=@List.mem_of_mem_take
abbrev Hf:=@List.set_cons_succ
abbrev Hg:=@Go.IntKind.wrap_i64
abbrev Hh:=@List.nil_append
abbrev Hi:=@Option.some.injEq
abbrev Hj:=@Nat.not_lt_zero
abbrev Hk:=@List.foldl_cons
abbrev Hl:=@List.getD_eq_getElem?_getD
abbrev Hm:=@List.foldl_append
abbrev Hn:=@List.drop_eq_nil_of_le
abbrev Ho:=@List.length_nil
abbrev Hp:=@Go.Addr.add_lit
abbrev Hq:=@List.mem_map_of_mem
abbrev Hr:=@Array.getElem?_eq_some_iff
abbrev Hs:=@List.drop_eq_getElem_cons
abbrev Ht:=@Int.eq_ofNat_of_zero_le
abbrev Hu:=@Nat.lt_of_lt_of_le
abbrev Hv:=@List.take_succ_cons
abbrev Hw:=@Nat.zero_add
abbrev Hx:=@Nat.min_eq_left
abbrev Hy:=@if_false
abbrev Hz:=@Bool.and_eq_true
abbrev Ga:=@List.getElem?_cons_zero
abbrev Gb:=@List.take_left'
abbrev Gc:=@List.getElem?_take_of_lt
abbrev Gd:=@List.getElem_drop
abbrev Ge:=@List.nodup_iff_pairwise_ne
abbrev Gf:=@Go.run_callFunc_extern
abbrev Gg:=@List.map_take
abbrev Gh:=@if_true
abbrev Gi:=@List.map_map
abbrev Gj:=@beq_eq_false_iff_ne
abbrev Gk:=@List.getElem_append_left
abbrev Gl:=@Go.callsIn_wide
abbrev Gm:=@List.map_nil
abbrev Gn:=@decide_eq_false_iff_not
abbrev Gp:=@List.pairwise_map
abbrev Gq:=@Prod.mk.injEq
abbrev Gr:=@List.drop_zero
abbrev Gs:=@List.take_zero
abbrev Gt:=@List.flatMap_cons
abbrev Gu:=@decide_eq_false
abbrev Gv:=@Nat.le_succ_of_le
abbrev Gw:=@Go.Proofs.Tryz.underlying150
abbrev Gx:=@Bool.false_eq_true
abbrev Gy:=@List.eq_nil_or_concat
abbrev Gz:=@List.concat_eq_append
abbrev GA:=@Nat.le_succ
abbrev GB:=@List.getElem?_cons_succ
abbrev GC:=@List.drop_succ_cons
abbrev GE:=@Go.Value.slice.injEq
abbrev GF:=@Array.length_toList
abbrev GG:=@Go.run_underlying
abbrev GH:=@List.nodup_append
abbrev GI:=@List.getElem?_drop
abbrev GJ:=@Go.bodyPost_end
abbrev GK:=@ByteArray.size_extract
abbrev GL:=@Go.Proofs.Tryz.underlying9
abbrev GM:=@Nat.add_mul
abbrev GN:=@List.map_congr_left
abbrev GO:=@Nat.lt_or_ge
abbrev GP:=@List.size_toArray
abbrev GQ:=@Go.Proofs.Tryz.underlying61
abbrev GR:=@Go.Proofs.Tryz.underlying140
abbrev GS:=@List.mem_of_getElem?
abbrev GT:=@List.pairwise_append
abbrev GU:=@Go.Proofs.Tryz.underlying157
abbrev GV:=@Array.replicate_succ
abbrev GW:=@Array.replicate_zero
abbrev GX:=@Go.Oper.semAt_some
abbrev GY:=@List.sum_cons
abbrev GZ:=@List.getElem?_append_left
abbrev Fa:=@Int.toNat_of_nonneg
abbrev Fb:=@List.getElem_of_mem
abbrev Fc:=@List.append_toArray
abbrev Fe:=@List.drop_append_of_le_length
abbrev Ff:=@List.mem_append_right
abbrev Fg:=@congrArg
abbrev Fh:=@List.take_take
abbrev Fi:=@List.drop_left
abbrev Fj:=@List.nodup_cons
abbrev Fk:=@List.not_mem_nil
abbrev Fl:=@List.mem_append_left
abbrev Fm:=@List.findIdx?_eq_some_iff_getElem
abbrev Fo:=@List.map_drop
abbrev Fs:=@Nat.add_zero
abbrev Ft:=@List.flatten_cons
abbrev Fu:=@Go.Proofs.Tryz.underlying91
abbrev Fv:=@List.push_toArray
abbrev Fw:=@Nat.le_of_eq
abbrev Fx:=@List.sum_append
abbrev Fy:=@List.perm_append_comm
abbrev Fz:=@Nat.eq_zero_or_pos
abbrev FE:=@Go.World.size_alloc
abbrev FF:=@Go.Proofs.Tryz.underlying261
abbrev FG:=@Nat.min_def
abbrev FH:=@Int.le_refl
abbrev FI:=@List.take_add_one
abbrev FJ:=@List.mem_filter
abbrev FK:=@Array.toList_append
abbrev FN:=@Array.getElem?_eq_none
abbrev FO:=@List.getElem_cons_zero
abbrev FP:=@Go.Proofs.Tryz.ntmps43
abbrev FR:=@List.getElem?_append_right
abbrev fFS:=@decide_eq_true
abbrev FT:=@Go.IntWalk.i64_in
abbrev FU:=@List.nodup_nil
abbrev FV:=@ByteArray.data_append
abbrev FW:=@List.cons.injEq
abbrev FX:=@Go.wpStill_nil
abbrev FY:=@List.dropLast_subset
abbrev FZ:=@Go.DataW.trod_struct
abbrev Ea:=@Go.Proofs.Tryz.func43
abbrev Eb:=@Go.Proofs.Tryz.ntmps203
abbrev Ec:=@List.prefix_of_prefix_length_le
abbrev Ed:=@Go.run_firstCells_some
abbrev Ee:=@List.takeWhile_cons
abbrev Eg:=@Go.RowKit.Below.heap_alloc
abbrev Eh:=@Go.Proofs.Tryz.underlying3
abbrev Ej:=@List.count_eq_zero_of_not_mem
abbrev Ek:=@Go.setRow_other
abbrev El:=@Go.Sem.run_bind
abbrev Em:=@List.find?_eq_none
abbrev En:=@List.getElem_cons_succ
abbrev Eo:=@Go.Proofs.Tryz.func203
abbrev Ep:=@List.prefix_append
abbrev Er:=@Go.beq_toListBytes
abbrev Es:=@List.prefix_append_right_inj
abbrev Eu:=@List.getElem_dropLast
abbrev Ev:=@Go.Result.andThen_ok
abbrev Ew:=@Go.Proofs.Tryz.underlying66
abbrev Ex:=@Go.Proofs.Tryz.underlying26
abbrev Ey:=@List.drop_sublist
abbrev Ez:=@of_decide_eq_true
abbrev EA:=@Array.ext'
abbrev EB:=@List.take_left
abbrev EC:=@List.mem_range
abbrev ED:=@List.Perm.refl
abbrev EE:=@List.dropLast_concat
abbrev EF:=@List.length_dropLast
abbrev EG:=@Go.Sem.run_pure
abbrev EH:=@List.map_toArray
abbrev EI:=@List.mem_flatMap
abbrev EJ:=@Nat.le_total
abbrev EK:=@Go.bodyPost_ret
abbrev EM:=@List.drop_length
abbrev EN:=@Nat.le_of_lt
abbrev EO:=@Nat.succ_le_succ
abbrev EP:=@Go.Lib.run_append_grow_zeros
abbrev ER:=@List.getElem_append_right
abbrev ES:=@List.flatten_append
abbrev ET:=@Go.Calls.quiet_of_same
abbrev EU:=@Go.grownCap_le_maxLen
abbrev EV:=@List.pairwise_cons
abbrev EW:=@List.append_of_mem
abbrev EX:=@Go.Proofs.enters_of
abbrev EY:=@Go.World.block_lt_of_cell?
abbrev EZ:=@Go.run_storeCells_at
abbrev Da:=@Ne.symm
abbrev Db:=@Int.ofNat_tmod
abbrev Dc:=@Go.Lib.run_overlaps_apart
abbrev Dd:=@List.find?_cons_of_pos
abbrev De:=@Option.map_eq_some_iff
abbrev Df:=@List.set_append_right
abbrev Dg:=@List.singleton_append
abbrev Dh:=@Go.Lib.wpList_append_run
abbrev Di:=@List.Perm.append_left
abbrev Dj:=@List.filterMap_eq_map
abbrev Dk:=@Nat.mod_lt
abbrev Dm:=@Option.bind_some
abbrev Do:=@List.any_eq_true
abbrev Dp:=@Nat.lt_of_not_le
abbrev Dq:=@List.take_append
abbrev Dr:=@List.perm_middle
abbrev Ds:=@List.take_prefix
abbrev Dt:=@List.ext_getElem
abbrev Du:=@List.cons_ne_nil
abbrev Dv:=@ByteArray.ext
abbrev Dw:=@or_false
abbrev Dx:=@Nat.sub_mul
abbrev Dy:=@Nat.one_mul
abbrev DA:=@List.getElem_append
abbrev DB:=@Go.ByteArray.toList_eq
abbrev DC:=@Go.Value.pointer.injEq
abbrev DD:=@List.length_pos_iff
abbrev DE:=@Go.World.grownBy_alloc
abbrev DG:=@List.map_eq_nil_iff
abbrev DI:=@Go.size_zeroCells
abbrev DJ:=@Go.growslice_fits
abbrev DK:=@and_true
abbrev DN:=@Go.AllReadyH.cons
abbrev DO:=@List.mem_filterMap
abbrev DP:=@List.drop_take
abbrev DQ:=@List.getElem_take
abbrev DR:=@Bool.not_eq_true'
abbrev DS:=@Go.Proofs.Tryz.underlying34
abbrev DU:=@Go.Proofs.Tryz.underlying37
abbrev DV:=@Int.toNat_natCast
abbrev DW:=@List.count_append
abbrev DX:=@Function.comp_def
abbrev DY:=@Go.Proofs.Tryz.underlying51
abbrev DZ:=@List.length_range
abbrev Ca:=@Go.Proofs.Tryz.ntmps209
abbrev Cb:=@Go.Proofs.Tryz.ntmps189
abbrev Cc:=@Go.Proofs.Tryz.ntmps211
abbrev Cd:=@Go.Proofs.Tryz.ntmps212
abbrev Ce:=@Go.Proofs.Tryz.ntmps202
abbrev Cf:=@Bool.true_and
abbrev Cg:=@Go.Addr.mk.injEq
abbrev Ch:=@Go.Proofs.Tryz.ntmps129
abbrev Ci:=@List.all_cons
abbrev Cj:=@Bool.and_true
abbrev Ck:=@Go.AllReadyH.nil
abbrev Cl:=@Go.Proofs.Tryz.ntmps136
abbrev Cn:=@Go.Proofs.Tryz.underlying5
abbrev Co:=@Nat.mod_eq_of_lt
abbrev Cp:=@Nat.min_le_right
abbrev Cq:=@Nat.le_add_right
abbrev Cr:=@Nat.min_eq_right
abbrev Cs:=@List.getElem_inj
abbrev Ct:=@Go.cell_one_new
abbrev Cu:=@Go.Proofs.Tryz.func209
abbrev Cv:=@Go.Proofs.Tryz.ntmps46
abbrev Cw:=@Go.Proofs.Tryz.func189
abbrev Cx:=@Go.Proofs.Tryz.func211
abbrev Cy:=@Go.Proofs.Tryz.func212
abbrev Cz:=@Nat.lt_trans
abbrev CA:=@Go.Proofs.Tryz.func202
abbrev CB:=@Go.Proofs.Tryz.ntmps96
abbrev CC:=@Go.Proofs.Tryz.func129
abbrev CD:=@List.all_nil
abbrev CE:=@Go.Proofs.Tryz.func217
abbrev CF:=@Go.RowKit.Below.refl
abbrev CG:=@Go.Proofs.Tryz.ntmps95
abbrev CH:=@Go.wpAnyH_ready
abbrev CI:=@Go.Proofs.Tryz.func136
abbrev CJ:=@List.range_succ
abbrev CK:=@Bool.eq_iff_iff
abbrev CL:=@List.drop_left'
abbrev CM:=@Go.Value.iface.inj
abbrev CO:=@Go.grownCap_ge
abbrev CP:=@Go.Proofs.Tryz.func46
abbrev CQ:=@Go.Proofs.Tryz.func96
abbrev CR:=@Go.results_tmp
abbrev CS:=@Go.Proofs.Tryz.func95
abbrev CT:=@Go.Proofs.Tryz.func12
abbrev CU:=@dif_pos
abbrev CV:=@Go.callsIn_of_wp
abbrev CW:=@Nat.lt_irrefl
abbrev CX:=@Go.Calls.mono
abbrev CY:=@Nat.zero_mul
abbrev CZ:=@Nat.pow_succ
abbrev Bb:=@Int.le_of_lt
abbrev Bc:=@Nat.sub_self
abbrev Be:=@List.sum_nil
theorem Z{p:Prop}(h:p):Hid p:=h
def Blk(w:World)(b:Nat)(c:List Value)(t:TypeId):Prop:=w.heap[b]?=some (.cells c.toArray t (0,0))
theorem Blk.lt{w:World}{b:Nat}{c:List Value}{t:TypeId}(h:Blk w b c t):b<w.heap.size:=by
 rcases GO b w.heap.size with a|a
 .exact a
 .rw[Blk,FN a] at h;cases h
theorem Blk.cell{w:World}{b:Nat}{c:List Value}{t:TypeId}(h:Blk w b c t)(k:Nat):w.cell? ⟨b,k,none⟩=c[k]?:=by
 rw[Blk] at h;simp[World.cell?,h]
theorem Blk.frozen{w:World}{b:Nat}{c:List Value}{t:TypeId}(h:Blk w b c t)(k:Nat):w.frozen? ⟨b,k,none⟩=false:=by
 rw[Blk] at h;simp[World.frozen?,h]
theorem Blk.of_heap{w a:World}{b:Nat}{c:List Value}{t:TypeId}(h:Blk w b c t)(e:a.heap[b]?=w.heap[b]?):Blk a b c t:=by
 rw[Blk,e];exact h
theorem Blk.drewN{w:World}{b:Nat}{c:List Value}{t:TypeId}(h:Blk w b c t)(n:Nat):Blk (w.drewN n) b c t:=h
theorem Blk.drew{w:World}{b:Nat}{c:List Value}{t:TypeId}(h:Blk w b c t):Blk w.drew b c t:=h
theorem Blk.set{w:World}{b:Nat}{c:List Value}{t:TypeId}(h:Blk w b c t)(k:Nat)(v:Value) :
 Blk (w.setCell ⟨b,k,none⟩ v) b (c.set k v) t:=by
 rw[Blk] at h |-;simp[World.setCell,Array.getElem?_modify,h]
theorem Blk.AE{w:World}{b:Nat}{c:List Value}{t:TypeId}(h:Blk w b c t){b':Nat}(a:b≠b')(k:Nat)(v:Value) :
 Blk (w.setCell ⟨b',k,none⟩ v) b c t :=
 h.of_heap (Below.heap_setCell _ _ _ _ a)
theorem Blk.alloc{w:World}{b:Nat}{c:List Value}{t:TypeId}(h:Blk w b c t)(o:Obj):Blk (w.alloc o) b c t :=
 h.of_heap (Eg _ _ _ h.lt)
theorem Blk.new(w:World)(c:List Value)(t:TypeId):Blk (w.alloc (.cells c.toArray t)) w.heap.size c t :=
 heap_alloc_new w _
theorem Blk.inj{w:World}{b:Nat}{c d:List Value}{t e:TypeId}(h:Blk w b c t)(a:Blk w b d e):c=d/\t=e:=by
 rw[Blk] at h a;rw[h] at a
 simpa using a
theorem Blk.ne{w:World}{b b':Nat}{c d:List Value}{t a:TypeId}(h:Blk w b c t)(f:Blk w b' d a)(g:t≠a):b≠b' :=
 fun e=>g (by subst e;exact(h.inj f).2)
structure Fr(S:Nat->Prop)(w w':World):Prop where
 os:w'.os=w.os
 tape:w'.tape=w.tape
 output:w'.output=w.output
 size:w.heap.size<=w'.heap.size
 block:∀ k,k<w.heap.size->¬S k->w'.heap[k]?=w.heap[k]?
abbrev Nil:Nat->Prop:=fun _=>False
theorem Fr.refl(S:Nat->Prop)(w:World):Fr S w w:=⟨rfl,rfl,rfl,Io _,fun _ _ _=>rfl⟩
theorem Fr.trans{S:Nat->Prop}{a b c:World}(h:Fr S a b)(k:Fr S b c):Fr S a c :=
 ⟨k.os.trans h.os,k.tape.trans h.tape,k.output.trans h.output,Im h.size k.size,
  fun i e g=>(k.block i (Hu e h.size) g).trans (h.block i e g)⟩
theorem Fr.trans'{S S':Nat->Prop}{a b c:World}(h:Fr S a b)(k:Fr S' b c)(o:∀ i,i<a.heap.size->S' i->S i):Fr S a c :=
 ⟨k.os.trans h.os,k.tape.trans h.tape,k.output.trans h.output,Im h.size k.size,
  fun i e g=>(k.block i (Hu e h.size) (fun j=>g (o i e j))).trans (h.block i e g)⟩
theorem Fr.mono{S S':Nat->Prop}{a b:World}(h:Fr S a b)(q:∀ i,i<a.heap.size->S i->S' i):Fr S' a b :=
 ⟨h.os,h.tape,h.output,h.size,fun i c o=>h.block i c (fun e=>o (q i c e))⟩
theorem Fr.drewN{S:Nat->Prop}{a w:World}(h:Fr S a w)(n:Nat):Fr S a (w.drewN n):=⟨h.os,h.tape,h.output,h.size,h.block⟩
theorem Fr.drew{S:Nat->Prop}{a w:World}(h:Fr S a w):Fr S a w.drew:=⟨h.os,h.tape,h.output,h.size,h.block⟩
theorem Fr.alloc{S:Nat->Prop}{a w:World}(h:Fr S a w)(o:Obj):Fr S a (w.alloc o) :=
 ⟨h.os,h.tape,h.output,Im h.size (by simp),fun k c e=>by
  rw[Eg _ _ _ (Hu c h.size)];exact h.block k c e⟩
theorem Fr.set{S:Nat->Prop}{a w:World}(h:Fr S a w){p:Addr}(d:p.block<a.heap.size->S p.block)(v:Value):Fr S a (w.setCell p v) :=
 ⟨h.os,h.tape,h.output,by simpa [World.setCell] using h.size,fun k b c=>by
  rw[Below.heap_setCell _ _ _ _ (fun e=>c (by subst e;exact d b))];exact h.block k b c⟩
abbrev U:=@Fr.refl
abbrev z7:=@Fr.drewN
abbrev z8:=@Fr.drew
abbrev zb:=@Fr.alloc
abbrev zc:=@Fr.set
theorem zd{S:Nat->Prop}{a b:World}(h:Fr S a b:=by repeat' first|(with_reducible first|apply U|assumption|apply z7|apply z8|apply zb|apply zc)|(intro _;rfl)):Fr S a b:=h
theorem Fr.grown{S:Nat->Prop}{a w f:World}{row:Option Nat}(h:Fr S a w)(b:w.grownBy f row)
 (i:∀ k,row=some k->k<a.heap.size->S k):Fr S a f :=
 ⟨b.os.trans h.os,b.tape.trans h.tape,b.output.trans h.output,Im h.size b.size,fun k c d =>
  (b.block k (Hu c h.size) (fun e=>d (i k e.symm c))).trans (h.block k c d)⟩
theorem Fr.BI{w a:World}{row:Option Nat}(b:w.grownBy a row):Fr (fun k=>row=some k) w a :=
 (Fr.refl _ w).grown b (fun _ h _=>h)
theorem Fr.below{w a:World}(h:Fr Nil w a):Below w.heap.size w a :=
 ⟨h.os,h.tape,h.output,h.size,fun k b=>h.block k b id⟩
theorem Fr.Am{S:Nat->Prop}{w a:World}(h:Below w.heap.size w a):Fr S w a :=
 ⟨h.os,h.tape,h.output,h.size,fun k b _=>h.block k b⟩
theorem Fr.cell{S:Nat->Prop}{w w':World}(h:Fr S w w'){p:Addr}(c:p.block<w.heap.size)(a:¬S p.block):w'.cell? p=w.cell? p :=
 World.cell?_of_block (w:=w) (h.block p.block c a)
theorem Blk.fr{S:Nat->Prop}{w w':World}{b:Nat}{c:List Value}{t:TypeId}(h:Blk w b c t)(f:Fr S w w')(a:¬S b):Blk w' b c t :=
 h.of_heap (f.block b h.lt a)
theorem ze{S:Nat->Prop}{w w':World}{base:Nat}{e:TypeId}{size:Nat}{v:Value}{n:Nat}{m:List Value}
 (h:w.ownsRow base e size v n m)(f:Fr S w w')(t:∀ k,v.ownBlock=some k->¬S k):w'.ownsRow base e size v n m:=by
 refine⟨h.1,?_⟩;rcases h.2 with o|⟨g,a,b,rfl,q,d,r⟩
 .exact .inl o
 .refine .inr ⟨g,a,b,rfl,q,?_,r⟩
  have c:g<w.heap.size:=(Hr.1 d).1;rw[f.block g c (t g rfl)];exact d
theorem own_lt{w:World}{base:Nat}{e:TypeId}{size:Nat}{v:Value}{n:Nat}{c:List Value}
 (h:w.ownsRow base e size v n c){k:Nat}(a:v.ownBlock=some k):k<w.heap.size:=(h.lt k a).2
theorem zi{w:World}{base:Nat}{e:TypeId}{size:Nat}{v:Value}{n:Nat}{o:List Value}
 (h:w.ownsRow base e size v n o){b:Nat}{c:List Value}{t:TypeId}(f:Blk w b c t)(k:t≠e):v.ownBlock≠some b:=by
 intro d;rcases h.2 with⟨rfl,_⟩|⟨g,i,j,rfl,_,a,_⟩
 .simp[Value.ownBlock] at d
 .simp[Value.ownBlock] at d
  subst d;rw[Blk] at f;rw[f] at a;simp at a;exact k a.2
theorem Zb{w:World}{base a:Nat}{e c:TypeId}{size b:Nat}{v j:Value}{n t:Nat}{u i:List Value}
 (h:w.ownsRow base e size v n u)(o:w.ownsRow a c b j t i)(s:e≠c){k:Nat}(d:v.ownBlock=some k):j.ownBlock≠some k:=by
 intro f;rcases h.2 with⟨rfl,_⟩|⟨g,l,m,rfl,_,r,_⟩
 .simp[Value.ownBlock] at d
 .rcases o.2 with⟨rfl,_⟩|⟨g',cap',cur',rfl,_,hg',_⟩
  .simp[Value.ownBlock] at f
  .simp[Value.ownBlock] at d f
   subst d;subst f;rw[r] at hg';have q:e=c:=by simp at hg';exact hg'.2
   exact s q
theorem own_cell?{w:World}{base:Nat}{e:TypeId}{size:Nat}{g n b:Nat}{c:List Value}
 (h:w.ownsRow base e size (.slice (some ⟨g,0,none⟩) n b) n c)(j:Nat)(v:Value)(f:c[j]?=some v):w.cell? ⟨g,j,none⟩=some v:=by
 have d:=h.cells (g:=g) rfl j v f;have a:(⟨g,0,none⟩:Addr).add j=⟨g,j,none⟩:=by unfold Addr.add;split <;> simp_all
 rwa [a] at d
theorem zg{w:World}{base:Nat}{e:TypeId}{size:Nat}{v:Value}{n:Nat}{q:List Value}(h:w.ownsRow base e size v n q) :
 ∃ a c,v=.slice a n c:=by
 rcases h.2 with⟨rfl,o⟩|⟨g,c,l,rfl,_⟩
 .exact⟨_,0,by rw[o]⟩
 .exact⟨_,_,rfl⟩
theorem zv{w:World}{base:Nat}{e:TypeId}{size:Nat}{v:Value}{n:Nat}{f:List Value}(h:w.ownsRow base e size v n f)(o:0<n) :
 ∃ g a,v=.slice (some ⟨g,0,none⟩) n a/\n<=a/\a<=maxLen:=by
 rcases h.2 with⟨rfl,k⟩|⟨g,a,b,rfl,_,_,c,d,_⟩
 .omega
 .exact⟨g,a,rfl,c,d⟩
theorem zG{w:World}{base:Nat}{e:TypeId}{size:Nat}{v:Value}{n:Nat}{c:List Value}(h:w.ownsRow base e size v n c):n<=maxLen:=by
 rcases h.2 with⟨_,d⟩|⟨g,a,b,_,_,_,f,k,_⟩
 .omega
 .omega
def u8s(l:List UInt8):List Value:=l.map fun c=>.int .u8 c.toNat
theorem Y0{P:Program}{e:TypeId}{size bytes:Nat}(h:((P.info? e).map fun i=>(i.zero.map (·.cells.size),i.size,i.bytes))=some (some size,size,bytes)) :
 ∃ i z,P.info? e=some i/\i.zero=some z/\i.size=size/\i.bytes=bytes/\z.cells.size=size:=by
 cases hi:P.info? e with
 | none=>rw[hi] at h;simp at h
 | some i =>
  rw[hi] at h;simp at h;obtain⟨⟨z,d,a⟩,b,c⟩:=h;exact⟨i,z,rfl,d,b,c,a⟩
theorem Yq(w:World)(x:Value)(t:TypeId)(H:Nat)(a:w.heap.size=H):∀ j u,[x][j]?=some u->(w.alloc (.cells #[x] t)).cell? ((⟨H,0,none⟩:Addr).add j)=some u:=by
 subst a;exact Ct w x t
theorem Wb(w:World)(x y:Value)(t:TypeId)(H:Nat)(c:w.heap.size=H):∀ j u,[x,y][j]?=some u->(w.alloc (.cells #[x,y] t)).cell? ((⟨H,0,none⟩:Addr).add j)=some u:=by
 subst c;intro j u a
 match j,a with
 | 0,a=>simp at a;subst a;simp[Addr.add]
 | 1,a=>simp at a;subst a;simp[Addr.add]
structure App(w:World)(v:Value)(e:TypeId)(size n:Nat)(xs:List Value)(v':Value)(w':World):Prop where
 own:w'.ownsRow 0 e size v' n xs
 grown:w.grownBy w' v.ownBlock
 at_:v'.ownBlock=v.ownBlock\/v'.ownBlock=some w.heap.size
theorem App.fr{w w':World}{v a:Value}{e:TypeId}{size n:Nat}{c:List Value}(h:App w v e size n c a w'):Fr (fun k=>v.ownBlock=some k) w w' :=
 Fr.BI h.grown
section
variable {P:Program} {w:World}
theorem zt(t ty e:TypeId)(size o:Nat)(Q:P.underlying t=some (.slice e))
 (J:((P.info? e).map fun i=>(i.zero.map (·.cells.size),i.size,i.bytes))=some (some size,size,o))(B:0<size)
 (v:Value)(n:Nat)(C:List Value)(s:w.ownsRow 0 e size v n C)
 (y:Addr)(m c:Nat)(l:List Value)(N:l.length=m*size)(r:∀ j u,l[j]?=some u->w.cell? (y.add j)=some u)(D:∀ u∈l,u.oneCell'=true)
 (A:n+m<=maxLen)(q:(n+m)*o<=140737488355328) :
 ∃ x w',(Builtin.append_ #[t,t] ty #[v,.slice (some y) m c]).run P w=.ok x w'/\App w v e size (n+m) (C++l) x w':=by
 obtain⟨i,z,K,R,E,G,I⟩:=Y0 J;obtain⟨x,w',O,a,b,_,d⟩:=run_append_own_at (P:=P) w 0 t ty e i z size o Q K R E G I B v n C s y m c l N r D A q (II _);exact⟨x,w',O,a,b,d⟩
theorem Qk(t ty e:TypeId)(size f:Nat)(l:P.underlying t=some (.slice e))
 (q:((P.info? e).map fun i=>(i.zero.map (·.cells.size),i.size,i.bytes))=some (some size,size,f))
 (v:Value)(n:Nat)(p:List Value)(b:w.ownsRow 0 e size v n p)(c:Nat) :
 ∃ m o,(Builtin.append_ #[t,t] ty #[v,.slice none 0 c]).run P w=.ok m o/\App w v e size n p m o:=by
 obtain⟨i,z,k,A,u,x,y⟩:=Y0 q;refine⟨v,w,?_,b,⟨rfl,rfl,rfl,Io _,fun _ _ _=>rfl⟩,.inl rfl⟩;obtain⟨a,j,rfl⟩:=zg b;have d:n<=j:=by
  rcases b.2 with⟨h,r⟩|⟨_,_,_,h,_,_,s,_⟩
  .omega
  .simp at h;omega
 cases a with
 | none=>simp[Builtin.append_,run_underlying l,sizeOf,typeInfo,k,Builtin.lenOf,Builtin.firstCells,d]
 | some a=>simp[Builtin.append_,run_underlying l,sizeOf,typeInfo,k,Builtin.lenOf,Builtin.firstCells,d,storeCells]
theorem Xu(t ty e:TypeId)(size a:Nat)(y:P.underlying t=some (.slice e))
 (x:((P.info? e).map fun i=>(i.zero.map (·.cells.size),i.size,i.bytes))=some (some size,size,a))(s:0<size)
 (v:Value)(n:Nat)(o:List Value)(l:w.ownsRow 0 e size v n o)(A:Value)(m:Nat)(c:List Value)(h:w.ownsRow 0 e size A m c)
 (E:∀ u∈c,u.oneCell'=true)(r:n+m<=maxLen)(j:(n+m)*a<=140737488355328) :
 ∃ B C,(Builtin.append_ #[t,t] ty #[v,A]).run P w=.ok B C/\App w v e size (n+m) (o++c) B C:=by
 rcases h.2 with⟨rfl,rfl⟩|⟨g,q,D,rfl,_⟩
 .have hx:c=[]:=IY (by simpa using h.1)
  subst hx;have:=Qk (P:=P) t ty e size a y x v n o l 0
  simpa using this
 .exact zt t ty e size a y x s v n o l ⟨g,0,none⟩ m q c h.1 (h.cells (g:=g) rfl) E r j
theorem Xl(s:ByteArray):(Builtin.firstCells 1 s.size (.string s)).run P w=.ok (u8s s.data.toList).toArray w:=by
 simp only[Builtin.firstCells,EG]
 congr 1
 have a:s.extract 0 s.size=s:=by simp
 rw[a]
 apply EA
 simp[u8s]
theorem Y1(t u ty e:TypeId)(G:P.underlying t=some (.slice e))(I:P.underlying u=some .string)
 (hI:((P.info? e).map fun i=>(i.zero.map (·.cells.size),i.size,i.bytes))=some (some 1,1,1))
 (v:Value)(n:Nat)(m:List Value)(a:w.ownsRow 0 e 1 v n m)(s:ByteArray)
 (y:n+s.size<=maxLen)(C:n+s.size<=140737488355328) :
 ∃ v' w',(Builtin.append_ #[t,u] ty #[v,.string s]).run P w=.ok v' w'/\App w v e 1 (n+s.size) (m++u8s s.data.toList) v' w':=by
 obtain⟨i,z,D,Y,S,T,h4⟩:=Y0 hI;have E:n+s.size<=9223372036854775807:=by simp only[maxLen] at y;omega
 have o:(u8s s.data.toList).length=s.size:=by simp[u8s]
 have f:(m++u8s s.data.toList).length=(n+s.size)*1:=by rw[Il,a.1,o];omega
 have grown:∀ (old:Nat),old<n+s.size->∀ (row:Option Nat),
  (w.drew.alloc (.cells (m.toArray++(u8s s.data.toList).toArray++Builtin.zeroCells z.cells (grownCap w (n+s.size) old e-(n+s.size))) e)).ownsRow 0 e 1
    (.slice (some ⟨w.heap.size,0,none⟩) (n+s.size) (grownCap w (n+s.size) old e)) (n+s.size) (m++u8s s.data.toList) /\
  w.grownBy (w.drew.alloc (.cells (m.toArray++(u8s s.data.toList).toArray++Builtin.zeroCells z.cells (grownCap w (n+s.size) old e-(n+s.size))) e)) row:=by
  intro old _ row;have O:=CO w (n+s.size) old e;have q:grownCap w (n+s.size) old e<=maxLen:=EU w (n+s.size) old e y;refine⟨⟨f,.inr ⟨w.heap.size,_,_,rfl,II _,heap_alloc_new w.drew _,O,q,?_,?_⟩⟩,⟨rfl,rfl,rfl,by simp,fun k Q _=>Eg w.drew _ k Q⟩⟩
  .simp only[Array.size_append,GP,DI,h4,a.1,o]
   omega
  .simp only[FK,IA]
   rw[<- IA,<- f];exact EB
 rcases a.2 with⟨rfl,rfl⟩|⟨g,d,l,rfl,K,X,a0,q,L,r⟩
 .have J:m=[]:=IY (by simpa using a.1)
  subst J;by_cases R:s.size=0
  .refine⟨.slice none 0 0,w,?_,⟨?_,⟨rfl,rfl,rfl,Io _,fun _ _ _=>rfl⟩,.inl rfl⟩⟩
   .simp[Builtin.append_,run_underlying G,run_underlying I,sizeOf,typeInfo,D,Builtin.lenOf,Builtin.firstCells,R]
   .have:u8s s.data.toList=[]:=IY (by rw[o];exact R)
    rw[this,R];exact IX w 0 e 1
  .have hr:=run_append_nil_string (P:=P) w t u ty e i z G I D Y s (by omega) (by omega) (by rw[T];omega)
   have h:=grown 0 (by omega) (Value.ownBlock (.slice none 0 0));have he:s.data.map (fun b=>Value.int .u8 b.toNat)=(u8s s.data.toList).toArray:=by apply EA;simp[u8s]
   rw[he] at hr;simp only[Hw,Hh,Array.empty_append] at h |-;exact⟨_,_,hr,h.1,h.2,.inr rfl⟩
 .by_cases hroom:n+s.size<=d
  .have M:=Xl (P:=P) (w:=w) s
   have B:=EZ P g n e (u8s s.data.toList) 0 l w X (by rw[o,L];omega) (by intro x J;simp[u8s] at J;obtain⟨c,_,rfl⟩:=J;rfl);simp only[Fs] at B;refine⟨.slice (some ⟨g,0,none⟩) (n+s.size) d,w.setRow g (l.toList.take n++u8s s.data.toList++l.toList.drop (n+(u8s s.data.toList).length)).toArray,?_,
    ⟨⟨f,.inr ⟨g,d,_,rfl,K,setRow_heap w g l _ e _ X,hroom,q,?_,?_⟩⟩,⟨rfl,rfl,rfl,by simp,fun k _ Q=>Ek w g k _ (fun e=>Q (by simp[Value.ownBlock,e]))⟩,.inl rfl⟩⟩
   .simp[Builtin.append_,run_underlying G,run_underlying I,sizeOf,typeInfo,D,Builtin.lenOf,hroom,S,M,Addr.add_lit,B]
   .simp only[GP,Il,Ip,Iw,GF]
    omega
   .have:l.toList.take n=m:=by rw[<- r];simp
    rw[this,<- f];exact EB
  .have holds:∀ j u,m[j]?=some u->w.cell? ((⟨g,0,none⟩:Addr).add j)=some u:=a.cells (g:=g) rfl
   have hn:¬(n+s.size<=d):=hroom;have A:¬(9223372036854775807<((n:Int)+(s.size:Int))):=by omega
   have V:=DJ (need:=n+s.size) (old:=d) (bytes:=1) (by omega) (by omega);have p:¬(281474976710656<Builtin.nextslicecap (n+s.size) d*1):=by omega
   have M:=Xl (P:=P) (w:=w.drew) s;have N:=Ed (P:=P) w.drew 1 n ⟨g,0,none⟩ n d m (by simpa using a.1) (by simpa using holds);have h:=grown d (by omega) (Value.ownBlock (.slice (some ⟨g,0,none⟩) n d));refine⟨_,_,?_,h.1,h.2,.inr rfl⟩;rw[Nat.mul_one] at p;simp[Builtin.append_,run_underlying G,run_underlying I,sizeOf,typeInfo,zeroValue,D,Y,Builtin.lenOf,hn,A,p,Question.forced,M,N,newRow,grownCap,S,T]
   try (congr 2;apply EA;simp[List.append_assoc])
end
theorem zJ{P:Program}{w:World}{i:Array Oper}{c:List Oper}{o:Oper}{a:Act}{Q:Exit->Act->World->Prop}{R:Value->World->Prop}(j:o.guard=none)(s x:Operand)(t u:TypeId)
 (r:o.op=.call {callee:=.builtin .append,args:=#[s,x],argTypes:=#[t,u]})(v l:Value)(A:a.eval s=v)(B:a.eval x=l)
 (g:∃ e w',(Builtin.append_ #[t,u] o.type #[v,l]).run P w=.ok e w'/\R e w')
 (h:∀ e w',R e w'->wpList P i Q c (a.put o.dst e) w'):wpList P i Q (o::c) a w:=by
 obtain⟨e,w',y,q⟩:=g;refine wpList_plain j fun K m=>?_;unfold Oper.wp execOp;simp only[r,resolve,invoke,builtin,El,EG,Ev,EH,IJ,Gm,A,B,y];exact m _ _ (h e w' q)
theorem ZS{P:Program}{w:World}{e:Array Oper}{o:Oper}{a:Act}{K:Act->World->Prop}{Q:Exit->Act->World->Prop}{E:Prop}{R:Value->World->Prop}(f:o.guard=none)(s x:Operand)(t u:TypeId)
 (j:o.op=.call {callee:=.builtin .append,args:=#[s,x],argTypes:=#[t,u]})(v g:Value)(l:a.eval s=v)(q:a.eval x=g)
 (d:∃ b c,(Builtin.append_ #[t,u] o.type #[v,g]).run P w=.ok b c/\R b c)
 (h:∀ b c,R b c->K (a.put o.dst b) c) :
 if Region.wanted o (yielded e a.tmps)=true then Oper.wp P o a w K Q else E:=by
 have m:Region.wanted o (yielded e a.tmps)=true:=by simp[Region.wanted,f]
 rw[IC m];obtain⟨b,c,k,i⟩:=d;unfold Oper.wp execOp;simp only[j,resolve,invoke,builtin,El,EG,Ev,EH,IJ,Gm,l,q,k];exact h b c i
theorem Blk.setRow{w:World}{g:Nat}{c:List Value}{t:TypeId}(h:Blk w g c t)(a:List Value):Blk (w.setRow g a.toArray) g a t :=
 setRow_heap w g _ _ t _ h
theorem Blk.shape{w:World}{b:Nat}{c:List Value}{t:TypeId}(h:Blk w b c t):w.shape? b=some (t,c.length):=by
 rw[Blk] at h;simp[World.shape?,h]
theorem Fr.setRow{S:Nat->Prop}{a w:World}(h:Fr S a w){g:Nat}(f:g<a.heap.size->S g)(c:Array Value):Fr S a (w.setRow g c) :=
 ⟨h.os,h.tape,h.output,by simpa using h.size,fun k b d=>by
  rw[Ek w g k _ (fun e=>d (by subst e;exact f b))];exact h.block k b d⟩
theorem Yi{w:World}{e:TypeId}{size g n cap:Nat}{c f:List Value}(h:Blk w g c e)(b:n<=cap)(i:cap<=maxLen)(a:c.length=cap*size)(d:c.take (n*size)=f) :
 w.ownsRow 0 e size (.slice (some ⟨g,0,none⟩) n cap) n f:=by
 refine⟨?_,.inr ⟨g,cap,c.toArray,rfl,II _,h,b,i,by simpa using a,by simpa using d⟩⟩;rw[<- d,Ip,a,Hx (IZ _ b)]
theorem Yj{w:World}{e:TypeId}{size n:Nat}{v:Value}{i:List Value}(h:w.ownsRow 0 e size v n i) :
 (v=.slice none 0 0/\n=0/\i=[])\/∃ g a c,v=.slice (some ⟨g,0,none⟩) n a/\Blk w g c e/\n<=a/\a<=maxLen/\c.length=a*size/\c.take (n*size)=i:=by
 rcases h.2 with⟨f,b⟩|⟨g,a,d,f,_,m,b,j,k,l⟩
 .refine .inl ⟨f,b,?_⟩
  have:=h.1;rw[b,CY] at this;exact IY this
 .exact .inr ⟨g,a,d.toList,f,by rw[Blk];simpa using m,b,j,by simpa using k,l⟩
def Y3(k i:Nat)(a b:List Value):List Value:=a.take (i*k)++b++a.drop (i*k)
def Ya(k i:Nat)(a:List Value):List Value:=a.take (i*k)++a.drop ((i+1)*k)
section
variable {P:Program} {w:World}
theorem U3(t e ty:TypeId)(size:Nat)(A:P.underlying t=some (.slice e))(p:(P.info? e).map (·.size)=some size)
 (g n m f q:Nat)(a:Addr)(c b:List Value)(x:Blk w g c e)(d:n+m<=f)(s:c.length=f*size)(o:b.length=m*size)
 (h:∀ j v,b[j]?=some v->w.cell? (a.add j)=some v)(r:∀ v∈b,v.oneCell'=true) :
 (Builtin.append_ #[t,t] ty #[.slice (some ⟨g,0,none⟩) n f,.slice (some a) m q]).run P w =
   .ok (.slice (some ⟨g,0,none⟩) (n+m) f) (w.setRow g (c.take (n*size)++b++c.drop (n*size+b.length)).toArray):=by
 have u:=Ed (P:=P) w size m a m q b o h;have l:n*size+b.length<=c.length:=by rw[o,s,<- GM];exact IZ _ d
 have k:=EZ P g (n*size) e b 0 c.toArray w x (by simpa using l) r;simp only[Fs] at k;cases hq:P.info? e with
 | none=>simp[hq] at p
 | some i =>
  have y:i.size=size:=by simpa [hq] using p
  simp[Builtin.append_,run_underlying A,sizeOf,typeInfo,hq,y,Builtin.lenOf,d,u,Addr.add_lit,k]
theorem Zm(t e ty:TypeId)(size:Nat)(C:P.underlying t=some (.slice e))(s:(P.info? e).map (·.size)=some size)
 (g o b h:Nat)(a:Addr)(d m:Nat)(c f:List Value)(u:TypeId)(y:Blk w g c u)(B:f.length=Nat.min d b*size)
 (l:∀ j v,f[j]?=some v->w.cell? (a.add j)=some v)(k:o+f.length<=c.length)(x:∀ v∈f,v.oneCell'=true) :
 (Builtin.copy_ #[t,t] ty #[.slice (some ⟨g,o,none⟩) b h,.slice (some a) d m]).run P w =
   .ok (goInt (Nat.min d b)) (w.setRow g (c.take o++f++c.drop (o+f.length)).toArray):=by
 have r:=run_loadCells_list (P:=P) w a f l;have q:=EZ P g o u f 0 c.toArray w y (by simpa using k) x;cases hq:P.info? e with
 | none=>simp[hq] at s
 | some i =>
  have A:i.size=size:=by simpa [hq] using s
  rw[B] at r;simp[Builtin.copy_,run_underlying C,Builtin.lenOf,Builtin.firstCells,sizeOf,typeInfo,hq,A,r,q]
theorem Rp(z:Array Value)(n:Nat)(h:∀ u∈z.toList,u.oneCell'=true):∀ u∈(Builtin.zeroCells z n).toList,u.oneCell'=true:=by
 intro u c;simp only[Builtin.zeroCells,Array.toList_map,Iy,Array.mem_toList_iff,Array.mem_range] at c;obtain⟨i,d,rfl⟩:=c;have e:0<z.size:=by
  rcases Fz z.size with a|a
  .rw[a,Nat.mul_zero] at d;omega
  .exact a
 have b:=Dk i e;rw[getElem!_pos z _ b];exact h _ (by simp)
theorem Ti(t e ty:TypeId)(i:TypeInfo)(z:Value)(size:Nat)(l:P.underlying t=some (.slice e))(q:P.info? e=some i)(v:i.zero=some z)(d:z.cells.size=size)(f:∀ u∈z.cells.toList,u.oneCell'=true)
 (g o n m:Nat)(c:List Value)(h:TypeId)(k:Blk w g c h)(a:o+n*size<=c.length) :
 ∃ j:List Value,j.length=n*size/\(Builtin.clear_ #[t] ty #[.slice (some ⟨g,o,none⟩) n m]).run P w=.ok (.tuple #[]) (w.setRow g (c.take o++j++c.drop (o+j.length)).toArray):=by
 refine⟨(Builtin.zeroCells z.cells n).toList,by simp[Builtin.zeroCells,d],?_⟩;cases n with
 | zero =>
  have p:(Builtin.zeroCells z.cells 0).toList=[]:=by simp[Builtin.zeroCells]
  have s:=setRow_self w g c.toArray h (0,0) k;simp[Builtin.clear_,run_underlying l,p,s]
 | succ n =>
  have r:(Builtin.zeroCells z.cells (n+1)).toList.length=(n+1)*size:=by simp[Builtin.zeroCells,d]
  have b:=EZ P g o h (Builtin.zeroCells z.cells (n+1)).toList 0 c.toArray w k (by rw[r];simpa using a) (Rp _ _ f);simp only[Fs] at b;simp[Builtin.clear_,run_underlying l,zeroValue,typeInfo,q,v,b]
theorem Yk{c:Array Oper}{b:List Oper}{o:Oper}{a:Act}{Q:Exit->Act->World->Prop}(e:o.guard=none)(d s:Operand)(t f:TypeId)
 (l:o.op=.call {callee:=.builtin .copy,args:=#[d,s],argTypes:=#[t,f]})(v u:Value)(k:a.eval d=v)(p:a.eval s=u){g:Value}{i:World}
 (m:(Builtin.copy_ #[t,f] o.type #[v,u]).run P w=.ok g i)(h:wpList P c Q b (a.put o.dst g) i):wpList P c Q (o::b) a w:=by
 refine wpList_plain e fun K j=>?_;unfold Oper.wp execOp;simp only[l,resolve,invoke,builtin,El,EG,Ev,EH,IJ,Gm,k,p,m];exact j _ _ h
theorem Yu{b:Array Oper}{o:Oper}{a:Act}{K:Act->World->Prop}{Q:Exit->Act->World->Prop}{E:Prop}
 (k:o.guard=none)(d x:Operand)(e f:TypeId)(c:o.op=Op.call {callee:=Callee.builtin Builtin.copy,args:=#[d,x],argTypes:=#[e,f]})
 (v u:Value)(j:a.eval d=v)(q:a.eval x=u){g:Value}{h:World}(l:(Builtin.copy_ #[e,f] o.type #[v,u]).run P w=.ok g h)(i:K (a.put o.dst g) h) :
 if Region.wanted o (yielded b a.tmps)=true then Oper.wp P o a w K Q else E:=by
 have m:Region.wanted o (yielded b a.tmps)=true:=by simp[Region.wanted,k]
 rw[IC m];unfold Oper.wp execOp;simp only[c,resolve,invoke,builtin,El,EG,Ev,EH,IJ,Gm,j,q,l];exact i
theorem SE{b:Array Oper}{o:Oper}{a:Act}{K:Act->World->Prop}{Q:Exit->Act->World->Prop}{E:Prop}
 (k:o.guard=none)(d x:Operand)(e f:TypeId)(c:o.op=Op.call {callee:=Callee.builtin Builtin.append,args:=#[d,x],argTypes:=#[e,f]})
 (v u:Value)(j:a.eval d=v)(p:a.eval x=u){g:Value}{h:World}(l:(Builtin.append_ #[e,f] o.type #[v,u]).run P w=.ok g h)(i:K (a.put o.dst g) h) :
 if Region.wanted o (yielded b a.tmps)=true then Oper.wp P o a w K Q else E:=by
 have m:Region.wanted o (yielded b a.tmps)=true:=by simp[Region.wanted,k]
 rw[IC m];unfold Oper.wp execOp;simp only[c,resolve,invoke,builtin,El,EG,Ev,EH,IJ,Gm,j,p,l];exact i
end
def U8(W:World)(k:Nat):Prop:=∃ c f,W.heap[k]?=some (.cells c 5 f)
abbrev Still (W w:World):Prop:=Fr (U8 W) W w
theorem Still.trans{a b c:World}(h:Still a b)(k:Still b c):Still a c :=
 Fr.trans' h k fun i o q=>Classical.byContradiction fun e=>by
  obtain⟨x,f,g⟩:=q;rw[h.block i o e] at g;exact e ⟨x,f,g⟩
theorem Still.xD{w b:World}{v:Value}{n:Nat}{j:List Value}(h:w.ownsRow 0 5 1 v n j)(f:Fr (fun k=>v.ownBlock=some k) w b):Still w b :=
 f.mono fun i _ a=>by
  rcases Yj h with⟨rfl,_⟩|⟨g,d,c,rfl,e,_⟩
  .simp[Value.ownBlock] at a
  .simp[Value.ownBlock] at a
   subst a;exact⟨_,_,e⟩
theorem Still.of_nil{w a:World}(f:Fr Nil w a):Still w a:=f.mono fun _ _ h=>absurd h id
theorem Blk.still{W w:World}{b:Nat}{c:List Value}{t:TypeId}(h:Blk W b c t)(d:t≠5)(f:Still W w):Blk w b c t :=
 h.fr f fun⟨x,g,a⟩=>by
  rw[Blk] at h;rw[h] at a;simp at a;exact d a.2.1
def Adds(w:World)(v:Value)(n:Nat)(d:List Value)(a:List UInt8)(b:Value)(c:World):Prop :=
 c.ownsRow 0 5 1 b (n+a.length) (d++u8s a)/\Fr (fun k=>v.ownBlock=some k) w c/\(∀ k,b.ownBlock=some k->v.ownBlock=some k\/w.heap.size<=k)
theorem Adds.refl{w:World}{v:Value}{n:Nat}{a:List Value}(h:w.ownsRow 0 5 1 v n a):Adds w v n a [] v w :=
 ⟨by simpa [u8s] using h,Fr.refl _ _,fun _ b=>.inl b⟩
theorem Tj(a b:List UInt8):u8s (a++b)=u8s a++u8s b:=by simp[u8s]
theorem Adds.trans{w s w2:World}{v q r:Value}{n:Nat}{e:List Value}{a b:List UInt8}(h:Adds w v n e a q s)(k:Adds s q (n+a.length) (e++u8s a) b r w2):Adds w v n e (a++b) r w2:=by
 refine⟨?_,?_,fun i o=>?_⟩
 .rw[Il,Tj,<- Nat.add_assoc,<- IA];exact k.1
 .refine h.2.1.trans' k.2.1 fun i o c=>?_
  rcases h.2.2 i c with g|g
  .exact g
  .omega
 .rcases k.2.2 i o with c|c
  .exact h.2.2 i c
  .exact .inr (Im h.2.1.size c)
theorem Adds.next{w f g:World}{v d e:Value}{n m:Nat}{c:List Value}{a b:List UInt8}(h:Adds w v n c a d f)(i:m=n+a.length)(k:Adds f d m (c++u8s a) b e g):Adds w v n c (a++b) e g:=by
 subst i;exact h.trans k
theorem Adds.of{w d c:World}{v b:Value}{n:Nat}{g:List Value}{a:List UInt8}(h:Adds d v n g a b c)(f:Fr Nil w d):Adds w v n g a b c :=
 ⟨h.1,(f.mono (fun _ _ h=>absurd h id)).trans' h.2.1 (fun _ _ h=>h),fun k i=>(h.2.2 k i).imp id (fun h=>Im f.size h)⟩
theorem Adds.still{w b:World}{v e:Value}{n:Nat}{c:List Value}{a:List UInt8}(h:Adds w v n c a e b)(d:w.ownsRow 0 5 1 v n c):Still w b:=Still.xD d h.2.1
theorem Ql:((Tryz.prog.info? 5).map fun i=>(i.zero.map (·.cells.size),i.size,i.bytes))=some (some 1,1,1):=by kernel_rfl
theorem Qm(w l:World)(v:Value)(n:Nat)(g:List Value)(h:w.ownsRow 0 5 1 v n g)(c:UInt8)(x:n+1<=1099511627776)(u:Value)(f:u=.int .u8 c.toNat)(t:l=w.alloc (.cells #[u] 5))(N:Nat)(p:N=w.heap.size)(ty:TypeId) :
 ∃ b d,(Builtin.append_ #[150,150] ty #[v,.slice (some ⟨N,0,none⟩) 1 1]).run Tryz.prog l=.ok b d/\Adds w v n g [c] b d:=by
 subst t;subst f;subst p;have q:Blk (w.alloc (.cells #[.int .u8 c.toNat] 5)) w.heap.size [.int .u8 c.toNat] 5:=Blk.new w [.int .u8 c.toNat] _;have r:=ze h ((Fr.refl Nil w).alloc (.cells #[.int .u8 c.toNat] 5)) (fun _ _=>id);obtain⟨b,d,s,m,o,a⟩:=zt (P:=Tryz.prog) 150 ty 5 1 1 Gw Ql (by omega) v n g r ⟨w.heap.size,0,none⟩ 1 1 [.int .u8 c.toNat] rfl
  (fun j u f=>by rw[Hp,Hw,q.cell];exact f) (by simp[Value.oneCell']) (by unfold maxLen;omega) (by omega)
 refine⟨b,d,s,m,((Fr.refl (fun k=>v.ownBlock=some k) w).alloc _).trans' ((Fr.BI o).mono (fun i _ h=>h)) (fun i _ h=>h),fun k e=>?_⟩;rcases a with a|a
 .exact .inl (by rw[<- a];exact e)
 .rw[a] at e;simp at e;exact .inr (by omega)
def Zr(W:World)(h:Value)(b:List UInt8):Prop :=
 ∃ g c,h=.func (.func g) #[] c/\(∀ a w,(callFunc g a).run Tryz.prog w=.ok (.enter g a) w)/\∀ w,Still W w->∀ v n f,w.ownsRow 0 5 1 v n f->n+b.length<=1099511627776 ->
  Calls Tryz.prog g (#[v]++c) w fun e i=>∃ d,e=.returned d/\Adds w v n f b d i
theorem Zr.still{W a:World}{c:Value}{b:List UInt8}(h:Zr W c b)(f:Still W a):Zr a c b:=by
 obtain⟨g,j,rfl,e,d⟩:=h;exact⟨g,j,rfl,e,fun w i=>d w (f.trans i)⟩
def zk(n:Nat):List UInt8:=if n<128 then [UInt8.ofNat n] else UInt8.ofNat (n%128+128)::zk (n / 128)
theorem YS{n:Nat}(h:n<128):zk n=[UInt8.ofNat n]:=by rw[zk];simp[h]
theorem Xm{n:Nat}(h:¬n<128):zk n=UInt8.ofNat (n%128+128)::zk (n / 128):=by rw[zk];simp[h]
theorem MZ:∀ m:Fin 256,bits BinOp.or IntKind.u8 ((m.val:Nat):Int) 128=((m.val%128+128:Nat):Int):=by decide +kernel
theorem or128(r:Nat):Value.int .u8 (bits BinOp.or IntKind.u8 ((r:Int)%256) 128)=.int .u8 (UInt8.ofNat (r%128+128)).toNat:=by
 have h:=MZ ⟨r%256,Dk _ (by omega)⟩;have e:((r:Int)%256)=((r%256:Nat):Int):=by omega
 rw[e,h]
 congr 1
 simp only[UInt8.toNat_ofNat'];omega
theorem Y8(b N:Nat)(x:N<9223372036854775808)(w:World)(q:Blk w b [.int .i64 N] 3)(v:Value)(n:Nat)(o:List Value)(l:w.ownsRow 0 5 1 v n o)(s:n+(zk N).length<=1099511627776) :
 Calls Tryz.prog 280 #[v,.pointer (some ⟨b,0,none⟩)] w fun e h=>∃ i,e=.returned i/\Adds w v n o (zk N) i h:=by
 have E:w.cell? ⟨b,0,none⟩=some (.int .i64 N):=by rw[q.cell];rfl
 have y:(N:Int)<=9223372036854775807:=by omega
 obtain⟨C,D,rfl⟩:=zg l;have u:=Z l;clear l q;go_enter Tryz.func280,Tryz.ntmps280;go_wp2_with fail
 go_loopw [0,4] (fun B m h=>∃ (pre:List UInt8) (r:Nat),zk N=pre++zk r/\r<9223372036854775808/\m=.int .u64 r/\Adds w (.slice C n D) n o pre B h) (fun _ m _=>(intOf m).toNat)
 case atStart=>exact⟨[],N,rfl,x,rfl,Adds.refl u.out⟩
 case round =>
  obtain⟨pre,r,a,G,rfl,f⟩:=hrel;obtain⟨I,J,rfl⟩:=zg f.1;have p:=Z a;have A:(zk N).length=pre.length+(zk r).length:=by rw[a,Il]
  clear a;by_cases d:r<128
  .have k:(zk r).length=1:=by rw[YS d];rfl
   have t:Value.int .u8 (r:Int)=.int .u8 (UInt8.ofNat r).toNat:=by congr 1;simp;omega
   have c:=fun ty=>Qm wr _ _ _ _ f.1 (UInt8.ofNat r) (by omega) _ t rfl _ rfl ty;have j:=Z f;clear f t
   go_wp2_with (at_builtin;go_must (refine zJ rfl _ _ _ _ rfl _ _ (by rfl) (by rfl) (c _) ?_);rintro i h g)
   go_ret;exact⟨_,rfl,by rw[p.out,YS d];exact j.out.trans g⟩
  .have hge:(128:Int)<=r:=by omega
   have k:(zk r).length=(zk (r / 128)).length+1:=by rw[Xm d];rfl
   have c:=fun ty=>Qm wr _ _ _ _ f.1 (UInt8.ofNat (r%128+128)) (by omega) _ (or128 r) rfl _ rfl ty;have j:=Z f;clear f
   go_wp2_with (at_builtin;go_must (refine zJ rfl _ _ _ _ rfl _ _ (by rfl) (by rfl) (c _) ?_);rintro i h g)
   refine⟨⟨pre++[UInt8.ofNat (r%128+128)],r / 128,by rw[p.out,Xm d];simp,by omega,by go_num,j.out.trans g⟩,?_⟩;simp[intOf];omega
theorem Vc(W:World)(b N:Nat)(c:N<9223372036854775808)(d:Blk W b [.int .i64 N] 3) :
 Zr W (.func (.func 280) #[] #[.pointer (some ⟨b,0,none⟩)]) (zk N) :=
 ⟨_,_,rfl,EX Tryz.func280 (by kernel_rfl) rfl,fun w f v n g e a=>Y8 b N c w (d.still (by decide) f) v n g e a⟩
theorem Rq(x:Int)(w:World) :
 Calls Tryz.prog 277 #[.int .i64 x] w fun e a=>e=.returned (.func (.func 280) #[] #[.pointer (some ⟨w.heap.size,0,none⟩)])/\a=w.alloc (.cells #[.int .i64 x] 3):=by
 go_enter Tryz.func277,Tryz.ntmps277
 go_wp2
 go_ret;exact⟨rfl,rfl⟩
theorem ZL(W:World)(x:Int)(w:World)(b:Fr Nil W w) :
 Calls Tryz.prog 277 #[.int .i64 x] w fun e a=>e=.returned (.func (.func 280) #[] #[.pointer (some ⟨w.heap.size,0,none⟩)])/\Blk a w.heap.size [.int .i64 x] 3/\Fr Nil W a:=by
 refine(Rq x w).mono ?_;rintro e a ⟨rfl,rfl⟩;exact⟨rfl,Blk.new w [.int .i64 x] _,b.alloc _⟩
def Z7(s:List UInt8):List UInt8:=zk s.length++s
theorem NC(w:World)(v:Value)(n:Nat)(e:List Value)(h:w.ownsRow 0 5 1 v n e)(s:ByteArray)(l:n+s.size<=1099511627776)(ty:TypeId) :
 ∃ b c,(Builtin.append_ #[150,9] ty #[v,.string s]).run Tryz.prog w=.ok b c/\Adds w v n e s.data.toList b c:=by
 obtain⟨b,c,j,f,g,a⟩:=Y1 (P:=Tryz.prog) (w:=w) 150 9 ty 5 Gw GL Ql v n e h s (by unfold maxLen;omega) (by omega);refine⟨b,c,j,by simpa using f,(Fr.BI g).mono (fun i _ h=>h),fun k d=>?_⟩;rcases a with a|a
 .exact .inl (by rw[<- a];exact d)
 .rw[a] at d;simp at d;exact .inr (by omega)
theorem O2(b:Nat)(s:ByteArray)(B:s.size<9223372036854775808)(w:World)(j:Blk w b [.string s] 9)(v:Value)(n:Nat)(r:List Value)(o:w.ownsRow 0 5 1 v n r)(a:n+(Z7 s.data.toList).length<=1099511627776) :
 Calls Tryz.prog 285 #[v,.pointer (some ⟨b,0,none⟩)] w fun e p=>∃ x,e=.returned x/\Adds w v n r (Z7 s.data.toList) x p:=by
 have M:w.cell? ⟨b,0,none⟩=some (.string s):=by rw[j.cell];rfl
 obtain⟨G,I,rfl⟩:=zg o;have A:Hid (n+(zk s.size).length+s.size<=1099511627776):=by unfold Z7 at a;simp at a;unfold Hid;omega
 have t:Hid (∀ q,Still w q->q.cell? ⟨b,0,none⟩=some (.string s)):=by
  intro q h;rw[(j.still (by decide) h).cell];rfl
 have y:=Z j;have u:=Z o;clear j o;go_enter Tryz.func285,Tryz.ntmps285;go_wp2_with fail
 go_region_held3 (fun p=>p.cell? ⟨b,0,none⟩=some (.string s)) (first|go_keep|assumption)
  (first
  | (go_at_call 280;refine(Y8 _ s.size B _ (by first|exact g|exact g.drew) (.slice G n I) n r (ze (S:=Nil) u.out zd (fun _ _=>id)) (by unfold Z7 at a;simp at a;omega)).mono ?_;rintro e K ⟨N,rfl,f⟩;have c:Still w K:=(Still.of_nil zd).trans (f.still (ze (S:=Nil) u.out zd (fun _ _=>id)));have D:=t.out _ c;have d:=Z f;clear f)
  | (go_at_call 277;refine(ZL w _ _ zd).mono ?_;rintro e J ⟨rfl,g,m⟩;have C:J.cell? ⟨b,0,none⟩=some (.string s):=by rw[(y.out.fr m id).cell];rfl)
  | (refine ZS (by rfl) _ _ _ _ (by rfl) _ _ (by rfl) (by rfl) (NC _ _ _ _ (ze (S:=Nil) d.out.1 zd (fun _ _=>id)) s A.out _) ?_;intro O L l;have i:Still w L:=(c.trans (Still.of_nil zd)).trans (l.still (ze (S:=Nil) d.out.1 zd (fun _ _=>id)));have E:=t.out _ i;have k:=Z l;clear l))
 go_wp2
 go_ret;have e:Z7 s.data.toList=zk s.size++s.data.toList:=by simp[Z7]
 rw[e];exact⟨_,rfl,(d.out.of zd).trans (k.out.of zd)⟩
theorem O3(s:ByteArray)(w:World) :
 Calls Tryz.prog 284 #[.string s] w fun e a=>e=.returned (.func (.func 285) #[] #[.pointer (some ⟨w.heap.size,0,none⟩)])/\a=w.alloc (.cells #[.string s] 9):=by
 go_enter Tryz.func284,Tryz.ntmps284
 go_wp2
 go_ret;exact⟨rfl,rfl⟩
theorem SF(W:World)(b:Nat)(s:ByteArray)(e:s.size<9223372036854775808)(c:Blk W b [.string s] 9) :
 Zr W (.func (.func 285) #[] #[.pointer (some ⟨b,0,none⟩)]) (Z7 s.data.toList) :=
 ⟨_,_,rfl,EX Tryz.func285 (by kernel_rfl) rfl,fun w f v n g d a=>O2 b s e w (c.still (by decide) f) v n g d a⟩
def ZC(W:World):List Value->List (List UInt8)->Prop
 | [],[]=>True
 | p::c,b::a=>Zr W p b/\ZC W c a
 | _,_=>False
theorem ZC.still{W a:World}(f:Still W a):∀ {c:List Value}{b:List (List UInt8)},ZC W c b->ZC a c b
 | [],[],_=>trivial
 | _::_,_::_,h=>⟨h.1.still f,ZC.still f h.2⟩
theorem ZC.length{W:World}:∀ {c:List Value}{a:List (List UInt8)},ZC W c a->c.length=a.length
 | [],[],_=>rfl
 | _::c,_::a,h=>by simp[ZC.length h.2]
theorem ZC.get{W:World}:∀ {c:List Value}{a:List (List UInt8)},ZC W c a->∀ (i:Nat)(d:i<c.length)(e:i<a.length),Zr W c[i] a[i]
 | [],[],_,i,d,_=>by simp at d
 | _::c,_::a,h,0,_,_=>h.1
 | _::c,_::a,h,i+1,d,e=>ZC.get h.2 i (by simpa using d) (by simpa using e)
theorem WG(a:List (List UInt8))(i:Nat):(a.take i).flatten.length<=a.flatten.length:=by
 have h:=Fg (fun l=>(List.flatten l).length) (IG i a);simp only[ES,Il] at h;omega
theorem U4(b:Nat)(Q:Value)(d:List Value)(a:List (List UInt8))(w:World)(hb:Blk w b [Q] 368)(s:w.ownsRow 0 365 1 Q d.length d)(hp:ZC w d a)
 (v:Value)(n:Nat)(V:List Value)(N:w.ownsRow 0 5 1 v n V)(a0:n+a.flatten.length<=1099511627776) :
 Calls Tryz.prog 281 #[v,.pointer (some ⟨b,0,none⟩)] w fun e T=>∃ v',e=.returned v'/\Adds w v n V a.flatten v' T:=by
 have hc:w.cell? ⟨b,0,none⟩=some Q:=by rw[hb.cell];rfl
 have hn:=zG s;unfold maxLen at hn;have B:=hp.length;obtain⟨va,vc,rfl⟩:=zg N;obtain⟨sa,sc,rfl⟩:=zg s;have Y:=Z N;have HS:=Z s;have t:=Z B;clear hb N B;go_enter Tryz.func281,Tryz.ntmps281;go_wp2_with fail
 go_loopw [0,8] (fun t0 R T=>∃ i:Nat,i<=d.length/\R=.int .i64 i/\Adds w (.slice va n vc) n V (a.take i).flatten t0 T) (fun _ R _=>d.length-(intOf R).toNat)
 case atStart=>exact⟨0,II _,rfl,Adds.refl Y.out⟩
 case round =>
  obtain⟨i,hi,rfl,q⟩:=hrel;have E:=q.still Y.out;obtain⟨m,M⟩:∃ m,m=n+(a.take i).flatten.length:=⟨_,rfl⟩;have l:=q.1;rw[<- M] at l;obtain⟨ta,tc,rfl⟩:=zg l;have HW:=Z l;have X:=Z M;clear l M;by_cases r:i<d.length
  .obtain⟨pg,rfl⟩:∃ g,sa=some ⟨g,0,none⟩:=by
    rcases s.2 with⟨o,h0⟩|⟨g,J,a1,o,_⟩
    .omega
    .simp at o;exact⟨g,o.1⟩
   have D:wr.ownsRow 0 365 1 (.slice (some ⟨pg,0,none⟩) d.length sc) d.length d:=ze s E (fun k hk hu=>by
    rcases Yj s with⟨o,_⟩|⟨g,J,c,o,hg,_⟩
    .cases o
    .simp at o
     simp[Value.ownBlock] at hk;obtain⟨x,f,O⟩:=hu;rw[<- hk,o.1] at O;rw[Blk] at hg;rw[hg] at O;simp at O)
   have A:i<a.length:=by rw[<- t.out];exact r
   obtain⟨g,lb,C,eg,h⟩:=hp.get i r A;have K:=own_cell? D i _ (IB r);rw[C] at K;have j:(a.take (i+1)).flatten=(a.take i).flatten++a[i]:=by rw[Hc A,ES];simp
   have L:=WG a (i+1);rw[j,Il] at L;have u:=Z j;have HC:=Z h;have G:=Z q;clear D j h q C;go_wp2_with fail;refine(HC.out wr E _ _ _ HW.out (by rw[X.out];omega)).mono ?_;rintro e w2 ⟨v2,rfl,y⟩;have I:=Z (G.out.next X.out y);clear y
   go_wp2
   refine⟨⟨i+1,by omega,by go_num,by rw[u.out];exact I.out⟩,?_⟩;simp[intOf];omega
  .have e:i=d.length:=by omega
   have p:(a.take i).flatten=a.flatten:=by rw[IH (by rw[e,t.out];exact Io _)]
   rw[p] at q;have G:=Z q;clear p q
   go_wp2
   go_ret;exact⟨_,rfl,G.out⟩
theorem U5(a:Option Addr)(c b:Nat)(w:World) :
 Calls Tryz.prog 279 #[.slice a c b] w fun e d=>e=.returned (.func (.func 281) #[] #[.pointer (some ⟨w.heap.size,0,none⟩)])/\d=w.alloc (.cells #[.slice a c b] 368):=by
 go_enter Tryz.func279,Tryz.ntmps279
 go_wp2
 go_ret;exact⟨rfl,rfl⟩
theorem Vz{W w:World}{j:Value}{n:Nat}{a:List Value}{t:TypeId}{k:Nat}(m:t≠5)(h:W.ownsRow 0 t k j n a)(f:Still W w):w.ownsRow 0 t k j n a :=
 ze h f (fun i d o=>by
  rcases Yj h with⟨rfl,_⟩|⟨g,l,c,rfl,e,_⟩
  .simp[Value.ownBlock] at d
  .simp[Value.ownBlock] at d
   obtain⟨x,f,b⟩:=o;rw[<- d] at b;rw[Blk] at e;rw[e] at b;simp at b;exact m b.2.1)
theorem ND(W:World)(b:Nat)(f:Value)(a:List Value)(c:List (List UInt8))(g:Blk W b [f] 368)(j:W.ownsRow 0 365 1 f a.length a)(i:ZC W a c) :
 Zr W (.func (.func 281) #[] #[.pointer (some ⟨b,0,none⟩)]) c.flatten :=
 ⟨_,_,rfl,EX Tryz.func281 (by kernel_rfl) rfl,fun w e v n k h d =>
  U4 b f a c w (g.still (by decide) e) (Vz (by decide) j e) (i.still e) v n k h d⟩
def YT(l:List Nat):List UInt8:=zk l.length++(l.map zk).flatten
theorem Qn(L T g o c:Nat)(l:List Nat)(row:List Value)(t:TypeId)(ht:t≠5)(hl:∀ x∈l,x<9223372036854775808)(a3:l.length<1000000)(w:World)
 (E:Blk w L [.slice (some ⟨g,o,none⟩) l.length c] 26)(V:Blk w T [.func (.func 277) #[] #[]] 366)
 (hr:Blk w g row t)(r:∀ i (h:i<l.length),row[o+i]?=some (.int .i64 (l[i]:Nat)))
 (v:Value)(n:Nat)(M:List Value)(Y:w.ownsRow 0 5 1 v n M)(q:n+(YT l).length<=1099511627776) :
 Calls Tryz.prog 296 #[v,.pointer (some ⟨L,0,none⟩),.pointer (some ⟨T,0,none⟩)] w fun e w'=>∃ v',e=.returned v'/\Adds w v n M (YT l) v' w':=by
 have a0:w.cell? ⟨L,0,none⟩=some (.slice (some ⟨g,o,none⟩) l.length c):=by rw[E.cell];rfl
 obtain⟨va,vc,rfl⟩:=zg Y;have R:=Z Y;have H1:=Z E;clear E Y;have p:n+(zk l.length).length+((l.map zk).flatten).length<=1099511627776:=by simp only[YT,Il] at q;omega
 have HL:=Z p;clear p q;have HR:=Z hr;have H2:=Z V;have D:=Z r;have Q:=Z hl;clear hr V r hl;go_enter Tryz.func296,Tryz.ntmps296
 go_wp2_with (first
  | (go_at_call 280;refine(Y8 w.heap.size l.length (by omega) _ b (.slice va n vc) n M (ze (S:=Nil) R.out a (fun _ _=>id)) (by have:=HL.out;omega)).mono ?_;rintro e w3 ⟨v3,rfl,G⟩;refine Hid.out ?_)
  | (go_at_call 277;refine(ZL w _ _ (Fr.refl _ _)).mono ?_;rintro e w2 ⟨rfl,b,a⟩))
 have B:=Z (G.of a);have s:=B.out.still R.out;have a2:w3.cell? ⟨L,0,none⟩=some (.slice (some ⟨g,o,none⟩) l.length c):=by rw[(H1.out.still (by decide) s).cell];rfl
 clear G b a s;refine Z ?_;go_wp2_with fail
 go_loopw [0,14] (fun t0 A w'=>∃ i:Nat,i<=l.length/\A=.int .i64 i/\Adds w (.slice va n vc) n M (zk l.length++((l.take i).map zk).flatten) t0 w') (fun _ A _=>l.length-(intOf A).toNat)
 case atStart=>exact⟨0,II _,rfl,by simpa using B.out⟩
 case round =>
  obtain⟨i,hi,rfl,u⟩:=hrel;have K:=u.still R.out;obtain⟨m,X⟩:∃ m,m=n+(zk l.length++((l.take i).map zk).flatten).length:=⟨_,rfl⟩;have f:=u.1;rw[<- X] at f;obtain⟨ta,tc,rfl⟩:=zg f;have HW:=Z f;have HM:=Z X;clear f X;by_cases y:i<l.length
  .have hcg:wr.cell? ⟨g,o+i,none⟩=some (.int .i64 (l[i]:Nat)):=by rw[(HR.out.still ht K).cell];exact D.out i y
   have a1:wr.cell? ⟨T,0,none⟩=some (.func (.func 277) #[] #[]):=by rw[(H2.out.still (by decide) K).cell];rfl
   have hx:=Q.out l[i] (Iu y);have d:zk l.length++((l.take (i+1)).map zk).flatten=(zk l.length++((l.take i).map zk).flatten)++zk l[i]:=by
    rw[Hc y,IL,ES];simp
   have J:m+(zk l[i]).length<=1099511627776:=by
    have E:=WG (l.map zk) (i+1);have V:=HL.out;rw[<- Gg] at E;have h3:=Fg List.length d;rw[HM.out];simp only[Il] at h3 |-;omega
   have j:=Z d;have N:=Z u;have C:=Z J;clear d u J;generalize l[i]=x at hcg hx j C
   go_wp2_with (first
    | (go_at_call 280;refine(Y8 wr.heap.size x hx _ b (.slice ta m tc) m _ (ze (S:=Nil) HW.out a (fun _ _=>id)) C.out).mono ?_;rintro e w5 ⟨v5,rfl,I⟩;refine Hid.out ?_)
    | (go_at_call 277;refine(ZL wr _ _ (Fr.refl _ _)).mono ?_;rintro e w4 ⟨rfl,b,a⟩))
   have O:=Z (N.out.next HM.out (I.of a));clear I b a;refine Z ?_
   go_wp2
   refine⟨⟨i+1,by omega,by go_num,by rw[j.out];exact O.out⟩,?_⟩;simp[intOf];omega
  .have e:i=l.length:=by omega
   have k:zk l.length++((l.take i).map zk).flatten=YT l:=by rw[e,ID];rfl
   rw[k] at u;have N:=Z u;clear k u
   go_wp2
   go_ret;exact⟨_,rfl,N.out⟩
structure Ver where
 node:Int
 seq:Int
 o0:Int
 o1:Int
 o2:Int
 o3:Int
 value:ByteArray
 gone:Bool
def Ver.cells(v:Ver):List Value:=[.int .i64 v.node,.int .i64 v.seq,.int .i64 v.o0,.int .i64 v.o1,.int .i64 v.o2,.int .i64 v.o3,.string v.value,.bool v.gone]
theorem Ver.BX(v:Ver):v.cells.length=8:=rfl
def isN(x:Int):Prop:=0<=x/\x<9223372036854775808
structure Ver.Nat(v:Ver):Prop where
 node:isN v.node
 seq:isN v.seq
 o0:isN v.o0
 o1:isN v.o1
 o2:isN v.o2
 o3:isN v.o3
 size:v.value.size<1000000000
def ZT(v:Ver):List UInt8:=zk v.node.toNat++(zk v.seq.toNat++(YT [v.o0.toNat,v.o1.toNat,v.o2.toNat,v.o3.toNat]++Z7 v.value.data.toList))
theorem Qo(a:Option Addr)(n c:Nat)(w:World) :
 Calls Tryz.prog 293 #[.slice a n c,.func (.func 277) #[] #[]] w fun e b =>
  e=.returned (.func (.func 296) #[] #[.pointer (some ⟨w.heap.size,0,none⟩),.pointer (some ⟨w.heap.size+1,0,none⟩)]) /\
  b=(w.alloc (.cells #[.slice a n c] 26)).alloc (.cells #[.func (.func 277) #[] #[]] 366):=by
 go_enter Tryz.func293,Tryz.ntmps293
 go_wp2
 go_ret;exact⟨rfl,rfl⟩
theorem O4(W:World)(a:Option Addr)(n c:Nat)(w:World)(g:Fr Nil W w) :
 Calls Tryz.prog 293 #[.slice a n c,.func (.func 277) #[] #[]] w fun e b =>
  ∃ d f,e=.returned (.func (.func 296) #[] #[.pointer (some ⟨d,0,none⟩),.pointer (some ⟨f,0,none⟩)]) /\
  Blk b d [.slice a n c] 26/\Blk b f [.func (.func 277) #[] #[]] 366/\Fr Nil W b:=by
 refine(Qo a n c w).mono ?_;rintro e b ⟨rfl,rfl⟩;refine⟨_,_,rfl,(Blk.new w [.slice a n c] _).alloc _,?_,(g.alloc _).alloc _⟩;have:=Blk.new (w.alloc (.cells #[.slice a n c] 26)) [.func (.func 277) #[] #[]] 366
 simpa using this
theorem Tk(W:World)(s:ByteArray)(w:World)(b:Fr Nil W w) :
 Calls Tryz.prog 284 #[.string s] w fun e a=>e=.returned (.func (.func 285) #[] #[.pointer (some ⟨w.heap.size,0,none⟩)])/\Blk a w.heap.size [.string s] 9/\Fr Nil W a:=by
 refine(O3 s w).mono ?_;rintro e a ⟨rfl,rfl⟩;exact⟨rfl,Blk.new w [.string s] _,b.alloc _⟩
theorem O5(W:World)(g n c:Nat)(a:List Value)(w:World)(f:Fr Nil W w)(h:Blk w g a 365) :
 Calls Tryz.prog 279 #[.slice (some ⟨g,0,none⟩) n c] w fun e d =>
  ∃ b,e=.returned (.func (.func 281) #[] #[.pointer (some ⟨b,0,none⟩)])/\Blk d b [.slice (some ⟨g,0,none⟩) n c] 368/\Blk d g a 365/\Fr Nil W d:=by
 refine(U5 _ n c w).mono ?_;rintro e d ⟨rfl,rfl⟩;exact⟨_,rfl,Blk.new w [.slice (some ⟨g,0,none⟩) n c] _,h.alloc _,f.alloc _⟩
theorem NE(W:World)(d e g o c:Nat)(l:List Nat)(row:List Value)(t:TypeId)(k:t≠5)(q:∀ x∈l,x<9223372036854775808)(f:l.length<1000000)
 (m:Blk W d [.slice (some ⟨g,o,none⟩) l.length c] 26)(p:Blk W e [.func (.func 277) #[] #[]] 366)
 (s:Blk W g row t)(b:∀ i (h:i<l.length),row[o+i]?=some (.int .i64 (l[i]:Nat))) :
 Zr W (.func (.func 296) #[] #[.pointer (some ⟨d,0,none⟩),.pointer (some ⟨e,0,none⟩)]) (YT l) :=
 ⟨_,_,rfl,EX Tryz.func296 (by kernel_rfl) rfl,fun w j v n u r a =>
  Qn d e g o c l row t k q f w (m.still (by decide) j) (p.still (by decide) j) (s.still k j) b v n u r a⟩
theorem Rr(v:Ver)(t:v.Nat)(w:World) :
 Calls Tryz.prog 289 #[.agg v.cells.toArray] w fun e g=>∃ b,e=.returned (.func (.func 281) #[] #[.pointer (some ⟨b,0,none⟩)])/\Zr g (.func (.func 281) #[] #[.pointer (some ⟨b,0,none⟩)]) (ZT v)/\Fr Nil w g:=by
 have c:Blk (w.alloc (.cells v.cells.toArray 37)) w.heap.size v.cells 37:=Blk.new w v.cells _;have r:Fr Nil w (w.alloc (.cells v.cells.toArray 37)):=(Fr.refl _ _).alloc _;obtain⟨node,d,O,Q,R,T,a,y⟩:=v;simp only[Ver.cells] at c r |-;go_enter Tryz.func289,Tryz.ntmps289;go_wp2_with fail;obtain⟨N,hN⟩:∃ N,w.heap.size=N:=⟨_,rfl⟩;obtain⟨q,M⟩:∃ q,w.alloc (.cells #[.int .i64 node,.int .i64 d,.int .i64 O,.int .i64 Q,.int .i64 R,.int .i64 T,.string a,.bool y] 37)=q:=⟨_,rfl⟩;rw[hN] at c |-;rw[M] at c r |-;clear M hN;have a5:q.cell? ⟨N,0,none⟩=some (.int .i64 node):=by rw[c.cell];rfl
 have a6:q.cell? ⟨N,1,none⟩=some (.int .i64 d):=by rw[c.cell];rfl
 have a7:q.cell? ⟨N,6,none⟩=some (.string a):=by rw[c.cell];rfl
 have u:Hid (∀ g,Fr Nil q g->g.cell? ⟨N,0,none⟩=some (.int .i64 node)/\g.cell? ⟨N,1,none⟩=some (.int .i64 d)/\g.cell? ⟨N,6,none⟩=some (.string a)):=by
  intro g hf;have:=(c.fr hf id).cell;exact⟨by rw[this];rfl,by rw[this];rfl,by rw[this];rfl⟩
 have HB:=Z c;clear c
 go_region_held3 (fun g=>g.cell? ⟨N,0,none⟩=some (.int .i64 node)/\g.cell? ⟨N,1,none⟩=some (.int .i64 d)/\g.cell? ⟨N,6,none⟩=some (.string a)) (first|assumption|exact u.out _ zd)
  (first
  | (go_at_call 279;refine(O5 w5 _ _ _ _ _ zd (by exact Blk.new _ [_,_,_,_] _)).mono ?_;rintro e k ⟨b6,rfl,B,L,f⟩;have h:=o.trans f;have b4:=u.out k h)
  | (go_at_call 284;refine(Tk w4 _ _ zd).mono ?_;rintro e w5 ⟨rfl,a4,j⟩;have o:=m.trans j;have b3:=u.out w5 o)
  | (go_at_call 293;refine(O4 w3 _ _ _ _ zd).mono ?_;rintro e w4 ⟨b1,b2,rfl,Y,A,s⟩;have m:=l.trans s;have b0:=u.out w4 m)
  | (go_at_call 277;refine(ZL w2 _ _ zd).mono ?_;rintro e w3 ⟨rfl,X,D⟩;have l:=C.trans D;have a9:=u.out w3 l)
  | (go_at_call 277;refine(ZL q _ _ zd).mono ?_;rintro e w2 ⟨rfl,V,C⟩;have a8:=u.out w2 C))
 have an:isN node:=t.node;have aq:isN d:=t.seq;have a0:isN O:=t.o0;have a1:isN Q:=t.o1;have a2:isN R:=t.o2;have a3:isN T:=t.o3;have az:a.size<1000000000:=t.size;unfold isN at an aq a0 a1 a2 a3;have G:Zr k (.func (.func 280) #[] #[.pointer (some ⟨q.heap.size,0,none⟩)]) (zk node.toNat):=Vc k _ node.toNat (by omega) (by rw[Fa an.1];exact(((V.fr D id).fr s id).fr j id).fr f id);have I:Zr k (.func (.func 280) #[] #[.pointer (some ⟨w2.heap.size,0,none⟩)]) (zk d.toNat):=Vc k _ d.toNat (by omega) (by rw[Fa aq.1];exact((X.fr s id).fr j id).fr f id);have J:Zr k (.func (.func 296) #[] #[.pointer (some ⟨b1,0,none⟩),.pointer (some ⟨b2,0,none⟩)]) (YT [O.toNat,Q.toNat,R.toNat,T.toNat]) :=
  NE k b1 b2 N 2 4 [O.toNat,Q.toNat,R.toNat,T.toNat] _ 37 (by decide) (by
   intro x hx;simp only[IW,Fk,Dw] at hx;rcases hx with rfl|rfl|rfl|rfl <;> omega) (by simp) ((Y.fr j id).fr f id) ((A.fr j id).fr f id) (HB.out.fr h id) (by
   intro i hi;simp only[Iz,Ho] at hi;have:i=0\/i=1\/i=2\/i=3:=by omega
   rcases this with rfl|rfl|rfl|rfl
   .exact Fg (fun z=>some (Value.int .i64 z)) (Fa a0.1).symm
   .exact Fg (fun z=>some (Value.int .i64 z)) (Fa a1.1).symm
   .exact Fg (fun z=>some (Value.int .i64 z)) (Fa a2.1).symm
   .exact Fg (fun z=>some (Value.int .i64 z)) (Fa a3.1).symm)
 have K:Zr k (.func (.func 285) #[] #[.pointer (some ⟨w4.heap.size,0,none⟩)]) (Z7 a.data.toList):=SF k _ a (by omega) ((a4.fr f id));have p:k.ownsRow 0 365 1 (.slice (some ⟨w5.heap.size,0,none⟩) 4 4) 4 _:=Yi L (Io _) (by unfold maxLen;omega) (by rfl) (by rfl);have E:=ND k _ _ _ [_,_,_,_] B p ⟨G,I,J,K,trivial⟩;have HG:=Z E;have HF:=Z (r.trans h);clear G I J K p E B L
 go_wp2
 go_ret;refine⟨_,rfl,?_,HF.out⟩;have:=HG.out;simp only[Ft,List.flatten_nil,IV] at this;exact this
end Go.Proofs.YtkhnggkkiefcdaaGreatDoor
