/- larder: joined texts -/
import Derived.WalkKit
import Derived.WalkSpells
import Derived.WalkLawsBesides
import Derived.Deep.QuietTactic
import Derived.BigQuiet
import Derived.Deep.AppendLies
import Derived.Deep.RegionHeld3
import Derived.Deep.DrawnRows
import Derived.Maps.AppendAt
import Derived.Laws.CopyRow
import Derived.Lib.AppendZerosOnto
import Derived.Lib.Overlaps
import Derived.Laws.Externs
import Derived.Deep.RegionLaw
import Derived.Test.YtkhnggkkiefcdaaGreatDoorChecked
import Derived.Shelf.Abstract
namespace Go.Proofs.YtkhnggkkiefcdaaGreatDoor
open Go.RowKit
set_option maxRecDepth 100000
set_option maxHeartbeats 8000000
abbrev IM:=@List.length_append
abbrev IP:=@Nat.le_trans
abbrev IQ:=@Nat.le_refl
abbrev IR:=@List.length_take
abbrev IU:=@List.length_singleton
abbrev IV:=@if_neg
abbrev IW:=@List.getElem?_eq_getElem
abbrev IX:=@List.getElem_mem
abbrev IY:=@List.cons_append
abbrev IZ:=@List.mem_singleton
abbrev Ha:=@decide_eq_true_eq
abbrev Hb:=@List.mem_cons_of_mem
abbrev Hc:=@Go.World.ownsRow_nil
abbrev Hd:=@List.nil_append
abbrev He:=@if_pos
abbrev Hf:=@List.mem_cons_self
abbrev Hg:=@Nat.zero_le
abbrev Hh:=@List.mem_append
abbrev Hi:=@List.length_drop
abbrev Hj:=@List.take_succ_eq_append_getElem
abbrev Hk:=@List.setIfInBounds_toArray
abbrev Hl:=@Option.some.inj
abbrev Hm:=@List.eq_nil_of_length_eq_zero
abbrev Hn:=@List.take_of_length_le
abbrev Ho:=@decide_eq_false_iff_not
abbrev Hp:=@List.getElem?_eq_some_iff
abbrev Hq:=@List.length_cons
abbrev Hr:=@Go.IntKind.wrap_i64
abbrev Hs:=@Nat.le_succ_of_le
abbrev Ht:=@List.map_cons
abbrev Hu:=@List.append_assoc
abbrev Hv:=@Nat.mul_le_mul_right
abbrev Hw:=@List.getElem_append_left
abbrev Hx:=@List.append_nil
abbrev Hy:=@List.length_map
abbrev Hz:=@List.set_cons_zero
abbrev HY:=@List.mem_cons
abbrev HZ:=@List.take_length
abbrev Ga:=@List.set_cons_succ
abbrev Gb:=@Nat.not_lt_zero
abbrev Gc:=@List.mem_map
abbrev Gd:=@Nat.lt_of_lt_of_le
abbrev Ge:=@List.take_append_drop
abbrev Gf:=@List.getElem_map
abbrev Gg:=@Nat.zero_add
abbrev Gh:=@Go.Addr.add_lit
abbrev Gi:=@if_true
abbrev Gj:=@if_false
abbrev Gk:=@List.take_append_of_le_length
abbrev Gl:=@Bool.false_eq_true
abbrev Gm:=@List.drop_eq_getElem_cons
abbrev Gn:=@List.mem_of_mem_drop
abbrev Gp:=@List.take_succ_cons
abbrev Gq:=@List.foldl_append
abbrev Gr:=@Bool.and_eq_true
abbrev Gs:=@List.map_append
abbrev Gt:=@List.length_nil
abbrev Gu:=@List.getElem_append_right
abbrev Gv:=@Nat.min_eq_left
abbrev Gw:=@List.take_left'
abbrev Gx:=@List.getElem?_take_of_lt
abbrev Gy:=@List.drop_eq_nil_of_le
abbrev Gz:=@List.getD_eq_getElem?_getD
abbrev GA:=@Go.run_callFunc_extern
abbrev GB:=@Int.eq_ofNat_of_zero_le
abbrev GC:=@Go.bodyPost_end
abbrev GD:=@List.mem_iff_getElem
abbrev GE:=@Go.Proofs.Tryz.underlying150
abbrev GF:=@List.getElem_of_mem
abbrev GG:=@beq_eq_false_iff_ne
abbrev GH:=@List.drop_succ_cons
abbrev GI:=@List.mem_map_of_mem
abbrev GJ:=@List.getElem_cons_zero
abbrev GL:=@Array.getElem?_eq_some_iff
abbrev GM:=@Go.run_underlying
abbrev GN:=@List.eq_nil_or_concat
abbrev GO:=@List.concat_eq_append
abbrev GP:=@List.getElem?_cons_succ
abbrev GQ:=@List.getElem?_cons_zero
abbrev GR:=@Array.length_toList
abbrev GS:=@List.map_congr_left
abbrev GT:=@List.foldl_cons
abbrev GU:=@List.drop_zero
abbrev GV:=@List.mem_of_mem_take
abbrev GW:=@decide_eq_false
abbrev GX:=@Go.Proofs.Tryz.underlying9
abbrev GY:=@congrArg
abbrev GZ:=@List.take_zero
abbrev Fa:=@List.getElem?_drop
abbrev Fb:=@ByteArray.size_extract
abbrev Fc:=@Go.callsIn_wide
abbrev Fe:=@Nat.add_mul
abbrev Ff:=@Go.Calls.quiet_of_same
abbrev Fg:=@Nat.lt_or_ge
abbrev Fh:=@List.flatten_cons
abbrev Fi:=@List.flatMap_cons
abbrev Fj:=@Go.Proofs.Tryz.underlying61
abbrev Fk:=@List.getElem?_append_right
abbrev Fl:=@Go.Proofs.Tryz.underlying157
abbrev Fm:=@List.sum_cons
abbrev Fo:=@List.map_nil
abbrev Fp:=@List.drop_of_length_le
abbrev Fq:=@Int.toNat_of_nonneg
abbrev Fs:=@Nat.le_succ
abbrev Ft:=@List.not_mem_nil
abbrev Fu:=@decide_true
abbrev Fv:=@List.mem_of_getElem?
abbrev Fw:=@Nat.lt_irrefl
abbrev Fx:=@Nat.add_zero
abbrev Fy:=@List.getElem_take
abbrev Fz:=@List.take_take
abbrev FA:=@Go.Proofs.Tryz.underlying66
abbrev FB:=@of_decide_eq_true
abbrev FC:=@List.flatten_append
abbrev FD:=@List.length_pos_iff
abbrev FE:=@List.getElem?_append_left
abbrev FF:=@ByteArray.data_append
abbrev FG:=@Nat.eq_zero_or_pos
abbrev FH:=@List.find?_eq_none
abbrev FI:=@Go.Proofs.Tryz.underlying261
abbrev FJ:=@List.map_take
abbrev FK:=@Nat.min_def
abbrev FL:=@Int.le_refl
abbrev FN:=@List.size_toArray
abbrev FO:=@List.nodup_append
abbrev FP:=@List.mem_filter
abbrev FQ:=@Go.Oper.semAt_some
abbrev FR:=@Array.toList_append
abbrev FT:=@Array.getElem?_eq_none
abbrev FV:=@Go.wpStill_nil
abbrev FW:=@Prod.mk.injEq
abbrev FX:=@List.prefix_append
abbrev FY:=@List.mem_range
abbrev FZ:=@List.nodup_iff_pairwise_ne
abbrev Ea:=@Go.IntWalk.i64_in
abbrev Eb:=@List.nodup_nil
abbrev Ec:=@Go.beq_toListBytes
abbrev Ed:=@List.nodup_cons
abbrev Ee:=@Go.Proofs.Tryz.underlying91
abbrev Ef:=@Array.replicate_succ
abbrev Eg:=@Array.replicate_zero
abbrev Eh:=@Go.Proofs.Tryz.underlying26
abbrev Ei:=@List.pairwise_map
abbrev Ej:=@List.map_map
abbrev Ek:=@Go.Proofs.Tryz.ntmps18
abbrev El:=@Go.Proofs.Tryz.ntmps203
abbrev Em:=@List.prefix_of_prefix_length_le
abbrev En:=@Go.run_firstCells_some
abbrev Eo:=@List.append_toArray
abbrev Ep:=@List.find?_eq_some_iff_getElem
abbrev Er:=@decide_eq_true
abbrev Et:=@List.ext_getElem
abbrev Eu:=@List.cons_ne_nil
abbrev Ev:=@and_self
abbrev Ew:=@Go.Proofs.Tryz.func18
abbrev Ex:=@Go.setRow_other
abbrev Ey:=@Go.Sem.run_bind
abbrev Ez:=@List.getElem_cons_succ
abbrev EA:=@Go.Proofs.Tryz.func203
abbrev EB:=@Go.bodyPost_ret
abbrev ED:=@List.map_drop
abbrev EE:=@List.getElem?_eq_none
abbrev EF:=@List.set_append_right
abbrev EG:=@List.contains_iff_mem
abbrev EH:=@Go.Result.andThen_ok
abbrev EI:=@Bool.not_eq_true'
abbrev EJ:=@List.find?_append
abbrev EK:=@List.push_toArray
abbrev EL:=@Go.Value.slice.injEq
abbrev EM:=@List.take_add_one
abbrev EN:=@Array.ext'
abbrev EO:=@List.drop_left
abbrev EP:=@List.mem_append_left
abbrev ER:=@Go.RowKit.Below.heap_alloc
abbrev ES:=@List.map_toArray
abbrev ET:=@Go.Proofs.Tryz.underlying3
abbrev EU:=@Nat.le_total
abbrev EV:=@Go.Proofs.Tryz.ntmps55
abbrev EW:=@List.take_prefix
abbrev EX:=@Go.Lib.run_append_grow_zeros
abbrev EY:=@ByteArray.ext
abbrev EZ:=@Option.map_some
abbrev Da:=@Go.grownCap_le_maxLen
abbrev Db:=@Go.Proofs.Tryz.underlying140
abbrev Dc:=@Go.Proofs.Tryz.func55
abbrev Dd:=@Go.Sem.run_pure
abbrev De:=@Go.run_storeCells_at
abbrev Df:=@Int.ofNat_tmod
abbrev Dg:=@List.getElem_drop
abbrev Dh:=@Go.Lib.run_overlaps_apart
abbrev Di:=@List.any_eq_false
abbrev Dj:=@Nat.sub_self
abbrev Dk:=@Nat.le_of_lt
abbrev Dl:=@Int.toNat_natCast
abbrev Dm:=@List.find?_cons_of_pos
abbrev Dn:=@Go.Proofs.Tryz.ntmps61
abbrev Do:=@Go.DataW.trod_struct
abbrev Dp:=@List.singleton_append
abbrev Dq:=@Go.Lib.wpList_append_run
abbrev Dr:=@Go.Proofs.enters_of
abbrev Ds:=@Go.Proofs.Tryz.underlying5
abbrev Dt:=@List.mem_flatMap
abbrev Du:=@Go.World.size_alloc
abbrev Dv:=@Option.bind_some
abbrev Dw:=@List.any_eq_true
abbrev Dx:=@Bool.true_and
abbrev Dy:=@or_false
abbrev Dz:=@Nat.sub_mul
abbrev DA:=@Nat.one_mul
abbrev DC:=@List.dropLast_concat
abbrev DD:=@Go.Proofs.Tryz.func61
abbrev DE:=@List.length_set
abbrev DF:=@List.sum_append
abbrev DG:=@List.getElem_append
abbrev DH:=@List.takeWhile_cons
abbrev DI:=@Go.ByteArray.toList_eq
abbrev DK:=@Nat.zero_mul
abbrev DN:=@Ne.symm
abbrev DO:=@Nat.lt_trans
abbrev DP:=@Go.Proofs.Tryz.ntmps65
abbrev DQ:=@Nat.le_of_eq
abbrev DR:=@Go.size_zeroCells
abbrev DS:=@List.take_left
abbrev DT:=@Go.growslice_fits
abbrev DU:=@Nat.mod_lt
abbrev DV:=@Go.AllReadyH.cons
abbrev DW:=@List.Perm.refl
abbrev DX:=@Go.Proofs.Tryz.func65
abbrev DY:=@List.getElem?_map
abbrev DZ:=@Go.Proofs.Tryz.underlying23
abbrev Ca:=@Go.Proofs.Tryz.underlying24
abbrev Cb:=@Go.Proofs.Tryz.ntmps209
abbrev Cc:=@Go.Proofs.Tryz.ntmps189
abbrev Cd:=@Go.Proofs.Tryz.ntmps211
abbrev Ce:=@Go.Proofs.Tryz.ntmps202
abbrev Cf:=@Go.Proofs.Tryz.ntmps129
abbrev Cg:=@List.all_cons
abbrev Ch:=@Bool.and_true
abbrev Ci:=@Go.AllReadyH.nil
abbrev Cn:=@Nat.lt_of_not_le
abbrev Co:=@List.drop_length
abbrev Cp:=@Nat.le_add_right
abbrev Cq:=@Nat.min_le_right
abbrev Cr:=@Nat.min_eq_right
abbrev Cs:=@List.prefix_refl
abbrev Ct:=@Go.Proofs.Tryz.underlying4
abbrev Cu:=@Go.Proofs.Tryz.func209
abbrev Cv:=@Go.Proofs.Tryz.ntmps46
abbrev Cw:=@Go.Proofs.Tryz.func189
abbrev Cx:=@Go.Proofs.Tryz.func211
abbrev Cy:=@Go.Proofs.Tryz.func202
abbrev Cz:=@Go.Proofs.Tryz.ntmps96
abbrev CA:=@Go.Proofs.Tryz.func129
abbrev CB:=@List.all_nil
abbrev CC:=@Go.RowKit.Below.refl
abbrev CD:=@Go.Proofs.Tryz.ntmps95
abbrev CE:=@Go.wpAnyH_ready
abbrev CF:=@List.cons.injEq
abbrev CG:=@List.drop_left'
abbrev CH:=@List.nil_prefix
abbrev CI:=@Go.Value.iface.inj
abbrev CJ:=@Go.grownCap_ge
abbrev CK:=@Go.Proofs.Tryz.func46
abbrev CL:=@Go.Proofs.Tryz.func96
abbrev CM:=@Go.Proofs.Tryz.func95
abbrev CN:=@dif_pos
abbrev CO:=@Go.Calls.mono
abbrev CP:=@beq_iff_eq
abbrev CQ:=@Go.cell_one_new
abbrev CR:=@Nat.pow_succ
abbrev CT:=@Int.le_trans
abbrev CU:=@List.sum_nil
abbrev CV:=@Int.lt_trans
theorem Z{p:Prop}(h:p):Hid p:=h
def Blk(w:World)(b:Nat)(c:List Value)(t:TypeId):Prop:=w.heap[b]?=some (.cells c.toArray t (0,0))
theorem Blk.lt{w:World}{b:Nat}{c:List Value}{t:TypeId}(h:Blk w b c t):b<w.heap.size:=by
 rcases Fg b w.heap.size with e|e
 .exact e
 .rw[Blk,FT e] at h;cases h
theorem Blk.cell{w:World}{b:Nat}{c:List Value}{t:TypeId}(h:Blk w b c t)(k:Nat):w.cell? ⟨b,k,none⟩=c[k]?:=by
 rw[Blk] at h;simp[World.cell?,h]
theorem Blk.frozen{w:World}{b:Nat}{c:List Value}{t:TypeId}(h:Blk w b c t)(k:Nat):w.frozen? ⟨b,k,none⟩=false:=by
 rw[Blk] at h;simp[World.frozen?,h]
theorem Blk.of_heap{w a:World}{b:Nat}{c:List Value}{t:TypeId}(h:Blk w b c t)(e:a.heap[b]?=w.heap[b]?):Blk a b c t:=by
 rw[Blk,e];exact h
theorem Blk.drewN{w:World}{b:Nat}{c:List Value}{t:TypeId}(h:Blk w b c t)(n:Nat):Blk (w.drewN n) b c t:=h
theorem Blk.drew{w:World}{b:Nat}{c:List Value}{t:TypeId}(h:Blk w b c t):Blk w.drew b c t:=h
theorem Blk.set{w:World}{b:Nat}{c:List Value}{t:TypeId}(h:Blk w b c t)(k:Nat)(v:Value) :
 Blk (w.setCell ⟨b,k,none⟩ v) b (c.set k v) t:=by
 rw[Blk] at h |-;simp[World.setCell,Array.getElem?_modify,h]
theorem Blk.An{w:World}{b:Nat}{c:List Value}{t:TypeId}(h:Blk w b c t){b':Nat}(a:b≠b')(k:Nat)(v:Value) :
 Blk (w.setCell ⟨b',k,none⟩ v) b c t :=
 h.of_heap (Below.heap_setCell _ _ _ _ a)
theorem Blk.alloc{w:World}{b:Nat}{c:List Value}{t:TypeId}(h:Blk w b c t)(o:Obj):Blk (w.alloc o) b c t :=
 h.of_heap (ER _ _ _ h.lt)
theorem Blk.new(w:World)(c:List Value)(t:TypeId):Blk (w.alloc (.cells c.toArray t)) w.heap.size c t :=
 heap_alloc_new w _
theorem Blk.inj{w:World}{b:Nat}{c d:List Value}{t e:TypeId}(h:Blk w b c t)(a:Blk w b d e):c=d/\t=e:=by
 rw[Blk] at h a;rw[h] at a
 simpa using a
theorem Blk.ne{w:World}{b b':Nat}{c d:List Value}{t a:TypeId}(h:Blk w b c t)(f:Blk w b' d a)(g:t≠a):b≠b' :=
 fun e=>g (by subst e;exact(h.inj f).2)
structure Fr(S:Nat->Prop)(w w':World):Prop where
 os:w'.os=w.os
 tape:w'.tape=w.tape
 output:w'.output=w.output
 size:w.heap.size<=w'.heap.size
 block:∀ k,k<w.heap.size->¬S k->w'.heap[k]?=w.heap[k]?
abbrev Nil:Nat->Prop:=fun _=>False
theorem Fr.refl(S:Nat->Prop)(w:World):Fr S w w:=⟨rfl,rfl,rfl,IQ _,fun _ _ _=>rfl⟩
theorem Fr.trans{S:Nat->Prop}{a b c:World}(h:Fr S a b)(k:Fr S b c):Fr S a c :=
 ⟨k.os.trans h.os,k.tape.trans h.tape,k.output.trans h.output,IP h.size k.size,
  fun i e hs=>(k.block i (Gd e h.size) hs).trans (h.block i e hs)⟩
theorem Fr.trans'{S S':Nat->Prop}{a b c:World}(h:Fr S a b)(k:Fr S' b c)(hs:∀ i,i<a.heap.size->S' i->S i):Fr S a c :=
 ⟨k.os.trans h.os,k.tape.trans h.tape,k.output.trans h.output,IP h.size k.size,
  fun i e g=>(k.block i (Gd e h.size) (fun j=>g (hs i e j))).trans (h.block i e g)⟩
theorem Fr.mono{S S':Nat->Prop}{a b:World}(h:Fr S a b)(hs:∀ i,i<a.heap.size->S i->S' i):Fr S' a b :=
 ⟨h.os,h.tape,h.output,h.size,fun i c g=>h.block i c (fun e=>g (hs i c e))⟩
theorem Fr.drewN{S:Nat->Prop}{a w:World}(h:Fr S a w)(n:Nat):Fr S a (w.drewN n):=⟨h.os,h.tape,h.output,h.size,h.block⟩
theorem Fr.drew{S:Nat->Prop}{a w:World}(h:Fr S a w):Fr S a w.drew:=⟨h.os,h.tape,h.output,h.size,h.block⟩
theorem Fr.alloc{S:Nat->Prop}{a w:World}(h:Fr S a w)(o:Obj):Fr S a (w.alloc o) :=
 ⟨h.os,h.tape,h.output,IP h.size (by simp),fun k c e=>by
  rw[ER _ _ _ (Gd c h.size)];exact h.block k c e⟩
theorem Fr.set{S:Nat->Prop}{a w:World}(h:Fr S a w){p:Addr}(d:p.block<a.heap.size->S p.block)(v:Value):Fr S a (w.setCell p v) :=
 ⟨h.os,h.tape,h.output,by simpa [World.setCell] using h.size,fun k b c=>by
  rw[Below.heap_setCell _ _ _ _ (fun e=>c (by subst e;exact d b))];exact h.block k b c⟩
abbrev O:=@Fr.refl
abbrev U:=@Fr.drewN
abbrev z6:=@Fr.drew
abbrev z7:=@Fr.alloc
abbrev z8:=@Fr.set
theorem za{S:Nat->Prop}{a b:World}(h:Fr S a b:=by repeat' first|(with_reducible first|apply O|assumption|apply U|apply z6|apply z7|apply z8)|(intro _;rfl)):Fr S a b:=h
theorem Fr.grown{S:Nat->Prop}{a w f:World}{row:Option Nat}(h:Fr S a w)(b:w.grownBy f row)
 (i:∀ k,row=some k->k<a.heap.size->S k):Fr S a f :=
 ⟨b.os.trans h.os,b.tape.trans h.tape,b.output.trans h.output,IP h.size b.size,fun k c d =>
  (b.block k (Gd c h.size) (fun e=>d (i k e.symm c))).trans (h.block k c d)⟩
theorem Fr.Bv{w a:World}{row:Option Nat}(b:w.grownBy a row):Fr (fun k=>row=some k) w a :=
 (Fr.refl _ w).grown b (fun _ h _=>h)
theorem Fr.below{w a:World}(h:Fr Nil w a):Below w.heap.size w a :=
 ⟨h.os,h.tape,h.output,h.size,fun k b=>h.block k b id⟩
theorem Fr.BW{S:Nat->Prop}{w a:World}(h:Below w.heap.size w a):Fr S w a :=
 ⟨h.os,h.tape,h.output,h.size,fun k b _=>h.block k b⟩
theorem Fr.cell{S:Nat->Prop}{w w':World}(h:Fr S w w'){p:Addr}(e:p.block<w.heap.size)(c:¬S p.block):w'.cell? p=w.cell? p :=
 World.cell?_of_block (w:=w) (h.block p.block e c)
theorem Blk.fr{S:Nat->Prop}{w w':World}{b:Nat}{c:List Value}{t:TypeId}(h:Blk w b c t)(f:Fr S w w')(e:¬S b):Blk w' b c t :=
 h.of_heap (f.block b h.lt e)
theorem zb{S:Nat->Prop}{w w':World}{base:Nat}{e:TypeId}{size:Nat}{v:Value}{n:Nat}{o:List Value}
 (h:w.ownsRow base e size v n o)(f:Fr S w w')(u:∀ k,v.ownBlock=some k->¬S k):w'.ownsRow base e size v n o:=by
 refine⟨h.1,?_⟩;rcases h.2 with q|⟨g,cap,b,rfl,t,d,r⟩
 .exact .inl q
 .refine .inr ⟨g,cap,b,rfl,t,?_,r⟩
  have c:g<w.heap.size:=(GL.1 d).1;rw[f.block g c (u g rfl)];exact d
theorem zC{w:World}{base:Nat}{e:TypeId}{size:Nat}{v:Value}{n:Nat}{c:List Value}
 (h:w.ownsRow base e size v n c){k:Nat}(a:v.ownBlock=some k):k<w.heap.size:=(h.lt k a).2
theorem zd{w:World}{a:Nat}{e:TypeId}{size:Nat}{v:Value}{n:Nat}{u:List Value}
 (h:w.ownsRow a e size v n u){b:Nat}{c:List Value}{t:TypeId}(j:Blk w b c t)(r:t≠e):v.ownBlock≠some b:=by
 intro f;rcases h.2 with⟨rfl,_⟩|⟨g,k,o,rfl,_,d,_⟩
 .simp[Value.ownBlock] at f
 .simp[Value.ownBlock] at f
  subst f;rw[Blk] at j;rw[j] at d;simp at d;exact r d.2
theorem Zc{w:World}{c a:Nat}{e d:TypeId}{size b:Nat}{v l:Value}{n u:Nat}{x j:List Value}
 (h:w.ownsRow c e size v n x)(q:w.ownsRow a d b l u j)(t:e≠d){k:Nat}(f:v.ownBlock=some k):l.ownBlock≠some k:=by
 intro i;rcases h.2 with⟨rfl,_⟩|⟨g,m,o,rfl,_,s,_⟩
 .simp[Value.ownBlock] at f
 .rcases q.2 with⟨rfl,_⟩|⟨g',cap',cur',rfl,_,hg',_⟩
  .simp[Value.ownBlock] at i
  .simp[Value.ownBlock] at f i
   subst f;subst i;rw[s] at hg';have r:e=d:=by simp at hg';exact hg'.2
   exact t r
theorem own_cell?{w:World}{b:Nat}{e:TypeId}{size:Nat}{g n d:Nat}{f:List Value}
 (h:w.ownsRow b e size (.slice (some ⟨g,0,none⟩) n d) n f)(j:Nat)(v:Value)(o:f[j]?=some v):w.cell? ⟨g,j,none⟩=some v:=by
 have k:=h.cells (g:=g) rfl j v o;have c:(⟨g,0,none⟩:Addr).add j=⟨g,j,none⟩:=by unfold Addr.add;split <;> simp_all
 rwa [c] at k
theorem zc{w:World}{base:Nat}{e:TypeId}{size:Nat}{v:Value}{n:Nat}{o:List Value}(h:w.ownsRow base e size v n o) :
 ∃ a cap,v=.slice a n cap:=by
 rcases h.2 with⟨rfl,l⟩|⟨g,cap,c,rfl,_⟩
 .exact⟨_,0,by rw[l]⟩
 .exact⟨_,_,rfl⟩
theorem zm{w:World}{b:Nat}{e:TypeId}{size:Nat}{v:Value}{n:Nat}{k:List Value}(h:w.ownsRow b e size v n k)(q:0<n) :
 ∃ g cap,v=.slice (some ⟨g,0,none⟩) n cap/\n<=cap/\cap<=maxLen:=by
 rcases h.2 with⟨rfl,o⟩|⟨g,cap,c,rfl,_,_,d,f,_⟩
 .omega
 .exact⟨g,cap,rfl,d,f⟩
theorem zH{w:World}{a:Nat}{e:TypeId}{size:Nat}{v:Value}{n:Nat}{c:List Value}(h:w.ownsRow a e size v n c):n<=maxLen:=by
 rcases h.2 with⟨_,d⟩|⟨g,cap,b,_,_,_,f,k,_⟩
 .omega
 .omega
def u8s(l:List UInt8):List Value:=l.map fun c=>.int .u8 c.toNat
theorem ZH{P:Program}{e:TypeId}{size bytes:Nat}(h:((P.info? e).map fun i=>(i.zero.map (·.cells.size),i.size,i.bytes))=some (some size,size,bytes)) :
 ∃ i z,P.info? e=some i/\i.zero=some z/\i.size=size/\i.bytes=bytes/\z.cells.size=size:=by
 cases hi:P.info? e with
 | none=>rw[hi] at h;simp at h
 | some i =>
  rw[hi] at h;simp at h;obtain⟨⟨z,d,a⟩,b,c⟩:=h;exact⟨i,z,rfl,d,b,c,a⟩
theorem XV(w:World)(x:Value)(t:TypeId)(H:Nat)(a:w.heap.size=H):∀ j u,[x][j]?=some u->(w.alloc (.cells #[x] t)).cell? ((⟨H,0,none⟩:Addr).add j)=some u:=by
 subst a;exact CQ w x t
theorem U0(w:World)(x y:Value)(t:TypeId)(H:Nat)(c:w.heap.size=H):∀ j u,[x,y][j]?=some u->(w.alloc (.cells #[x,y] t)).cell? ((⟨H,0,none⟩:Addr).add j)=some u:=by
 subst c;intro j u a
 match j,a with
 | 0,a=>simp at a;subst a;simp[Addr.add]
 | 1,a=>simp at a;subst a;simp[Addr.add]
structure App(w:World)(v:Value)(e:TypeId)(size n:Nat)(xs:List Value)(v':Value)(w':World):Prop where
 own:w'.ownsRow 0 e size v' n xs
 grown:w.grownBy w' v.ownBlock
 at_:v'.ownBlock=v.ownBlock\/v'.ownBlock=some w.heap.size
theorem App.fr{w w':World}{v v':Value}{e:TypeId}{size n:Nat}{c:List Value}(h:App w v e size n c v' w'):Fr (fun k=>v.ownBlock=some k) w w' :=
 Fr.Bv h.grown
section
variable {P:Program} {w:World}
theorem zt(t ty e:TypeId)(size o:Nat)(Q:P.underlying t=some (.slice e))
 (I:((P.info? e).map fun i=>(i.zero.map (·.cells.size),i.size,i.bytes))=some (some size,size,o))(B:0<size)
 (v:Value)(n:Nat)(C:List Value)(s:w.ownsRow 0 e size v n C)
 (y:Addr)(m c:Nat)(l:List Value)(K:l.length=m*size)(r:∀ j u,l[j]?=some u->w.cell? (y.add j)=some u)(D:∀ u∈l,u.oneCell'=true)
 (A:n+m<=maxLen)(q:(n+m)*o<=140737488355328) :
 ∃ x w',(Builtin.append_ #[t,t] ty #[v,.slice (some y) m c]).run P w=.ok x w'/\App w v e size (n+m) (C++l) x w':=by
 obtain⟨i,z,J,R,E,F,G⟩:=ZH I;obtain⟨x,w',N,a,b,_,d⟩:=run_append_own_at (P:=P) w 0 t ty e i z size o Q J R E F G B v n C s y m c l K r D A q (Hg _);exact⟨x,w',N,a,b,d⟩
theorem QN(t ty e:TypeId)(size f:Nat)(l:P.underlying t=some (.slice e))
 (q:((P.info? e).map fun i=>(i.zero.map (·.cells.size),i.size,i.bytes))=some (some size,size,f))
 (v:Value)(n:Nat)(p:List Value)(b:w.ownsRow 0 e size v n p)(c:Nat) :
 ∃ m o,(Builtin.append_ #[t,t] ty #[v,.slice none 0 c]).run P w=.ok m o/\App w v e size n p m o:=by
 obtain⟨i,z,k,A,u,x,y⟩:=ZH q;refine⟨v,w,?_,b,⟨rfl,rfl,rfl,IQ _,fun _ _ _=>rfl⟩,.inl rfl⟩;obtain⟨a,j,rfl⟩:=zc b;have d:n<=j:=by
  rcases b.2 with⟨h,r⟩|⟨_,_,_,h,_,_,s,_⟩
  .omega
  .simp at h;omega
 cases a with
 | none=>simp[Builtin.append_,run_underlying l,sizeOf,typeInfo,k,Builtin.lenOf,Builtin.firstCells,d]
 | some a=>simp[Builtin.append_,run_underlying l,sizeOf,typeInfo,k,Builtin.lenOf,Builtin.firstCells,d,storeCells]
theorem Xt(t ty e:TypeId)(size a:Nat)(y:P.underlying t=some (.slice e))
 (x:((P.info? e).map fun i=>(i.zero.map (·.cells.size),i.size,i.bytes))=some (some size,size,a))(s:0<size)
 (v:Value)(n:Nat)(o:List Value)(l:w.ownsRow 0 e size v n o)(z:Value)(m:Nat)(c:List Value)(h:w.ownsRow 0 e size z m c)
 (D:∀ u∈c,u.oneCell'=true)(r:n+m<=maxLen)(j:(n+m)*a<=140737488355328) :
 ∃ A B,(Builtin.append_ #[t,t] ty #[v,z]).run P w=.ok A B/\App w v e size (n+m) (o++c) A B:=by
 rcases h.2 with⟨rfl,rfl⟩|⟨g,q,C,rfl,_⟩
 .have hx:c=[]:=Hm (by simpa using h.1)
  subst hx;have:=QN (P:=P) t ty e size a y x v n o l 0
  simpa using this
 .exact zt t ty e size a y x s v n o l ⟨g,0,none⟩ m q c h.1 (h.cells (g:=g) rfl) D r j
theorem Xg(s:ByteArray):(Builtin.firstCells 1 s.size (.string s)).run P w=.ok (u8s s.data.toList).toArray w:=by
 simp only[Builtin.firstCells,Dd]
 congr 1
 have hs:s.extract 0 s.size=s:=by simp
 rw[hs]
 apply EN
 simp[u8s]
theorem Y3(t u ty e:TypeId)(F:P.underlying t=some (.slice e))(G:P.underlying u=some .string)
 (hI:((P.info? e).map fun i=>(i.zero.map (·.cells.size),i.size,i.bytes))=some (some 1,1,1))
 (v:Value)(n:Nat)(m:List Value)(a:w.ownsRow 0 e 1 v n m)(s:ByteArray)
 (y:n+s.size<=maxLen)(C:n+s.size<=140737488355328) :
 ∃ Y w',(Builtin.append_ #[t,u] ty #[v,.string s]).run P w=.ok Y w'/\App w v e 1 (n+s.size) (m++u8s s.data.toList) Y w':=by
 obtain⟨i,z,D,X,R,S,h4⟩:=ZH hI;have E:n+s.size<=9223372036854775807:=by simp only[maxLen] at y;omega
 have o:(u8s s.data.toList).length=s.size:=by simp[u8s]
 have f:(m++u8s s.data.toList).length=(n+s.size)*1:=by rw[IM,a.1,o];omega
 have grown:∀ (old:Nat),old<n+s.size->∀ (row:Option Nat),
  (w.drew.alloc (.cells (m.toArray++(u8s s.data.toList).toArray++Builtin.zeroCells z.cells (grownCap w (n+s.size) old e-(n+s.size))) e)).ownsRow 0 e 1
    (.slice (some ⟨w.heap.size,0,none⟩) (n+s.size) (grownCap w (n+s.size) old e)) (n+s.size) (m++u8s s.data.toList) /\
  w.grownBy (w.drew.alloc (.cells (m.toArray++(u8s s.data.toList).toArray++Builtin.zeroCells z.cells (grownCap w (n+s.size) old e-(n+s.size))) e)) row:=by
  intro old _ row;have N:=CJ w (n+s.size) old e;have q:grownCap w (n+s.size) old e<=maxLen:=Da w (n+s.size) old e y;refine⟨⟨f,.inr ⟨w.heap.size,_,_,rfl,Hg _,heap_alloc_new w.drew _,N,q,?_,?_⟩⟩,⟨rfl,rfl,rfl,by simp,fun k Q _=>ER w.drew _ k Q⟩⟩
  .simp only[Array.size_append,FN,DR,h4,a.1,o]
   omega
  .simp only[FR,Hu]
   rw[<- Hu,<- f];exact DS
 rcases a.2 with⟨rfl,rfl⟩|⟨g,d,l,rfl,J,V,a0,q,K,r⟩
 .have I:m=[]:=Hm (by simpa using a.1)
  subst I;by_cases hm:s.size=0
  .refine⟨.slice none 0 0,w,?_,⟨?_,⟨rfl,rfl,rfl,IQ _,fun _ _ _=>rfl⟩,.inl rfl⟩⟩
   .simp[Builtin.append_,run_underlying F,run_underlying G,sizeOf,typeInfo,D,Builtin.lenOf,Builtin.firstCells,hm]
   .have:u8s s.data.toList=[]:=Hm (by rw[o];exact hm)
    rw[this,hm];exact Hc w 0 e 1
  .have hr:=run_append_nil_string (P:=P) w t u ty e i z F G D X s (by omega) (by omega) (by rw[S];omega)
   have h:=grown 0 (by omega) (Value.ownBlock (.slice none 0 0));have he:s.data.map (fun b=>Value.int .u8 b.toNat)=(u8s s.data.toList).toArray:=by apply EN;simp[u8s]
   rw[he] at hr;simp only[Gg,Hd,Array.empty_append] at h |-;exact⟨_,_,hr,h.1,h.2,.inr rfl⟩
 .by_cases hroom:n+s.size<=d
  .have L:=Xg (P:=P) (w:=w) s
   have B:=De P g n e (u8s s.data.toList) 0 l w V (by rw[o,K];omega) (by intro x I;simp[u8s] at I;obtain⟨c,_,rfl⟩:=I;rfl);simp only[Fx] at B;refine⟨.slice (some ⟨g,0,none⟩) (n+s.size) d,w.setRow g (l.toList.take n++u8s s.data.toList++l.toList.drop (n+(u8s s.data.toList).length)).toArray,?_,
    ⟨⟨f,.inr ⟨g,d,_,rfl,J,setRow_heap w g l _ e _ V,hroom,q,?_,?_⟩⟩,⟨rfl,rfl,rfl,by simp,fun k _ Q=>Ex w g k _ (fun e=>Q (by simp[Value.ownBlock,e]))⟩,.inl rfl⟩⟩
   .simp[Builtin.append_,run_underlying F,run_underlying G,sizeOf,typeInfo,D,Builtin.lenOf,hroom,R,L,Addr.add_lit,B]
   .simp only[FN,IM,IR,Hi,GR]
    omega
   .have:l.toList.take n=m:=by rw[<- r];simp
    rw[this,<- f];exact DS
  .have holds:∀ j u,m[j]?=some u->w.cell? ((⟨g,0,none⟩:Addr).add j)=some u:=a.cells (g:=g) rfl
   have hn:¬(n+s.size<=d):=hroom;have A:¬(9223372036854775807<((n:Int)+(s.size:Int))):=by omega
   have T:=DT (need:=n+s.size) (old:=d) (bytes:=1) (by omega) (by omega);have p:¬(281474976710656<Builtin.nextslicecap (n+s.size) d*1):=by omega
   have L:=Xg (P:=P) (w:=w.drew) s;have M:=En (P:=P) w.drew 1 n ⟨g,0,none⟩ n d m (by simpa using a.1) (by simpa using holds);have h:=grown d (by omega) (Value.ownBlock (.slice (some ⟨g,0,none⟩) n d));refine⟨_,_,?_,h.1,h.2,.inr rfl⟩;rw[Nat.mul_one] at p;simp[Builtin.append_,run_underlying F,run_underlying G,sizeOf,typeInfo,zeroValue,D,X,Builtin.lenOf,hn,A,p,Question.forced,L,M,newRow,grownCap,R,S]
   try (congr 2;apply EN;simp[List.append_assoc])
end
theorem zk{P:Program}{w:World}{e:Array Oper}{rest:List Oper}{o:Oper}{a:Act}{Q:Exit->Act->World->Prop}{R:Value->World->Prop}(g:o.guard=none)(s x:Operand)(t u:TypeId)
 (y:o.op=.call {callee:=.builtin .append,args:=#[s,x],argTypes:=#[t,u]})(v j:Value)(hs:a.eval s=v)(A:a.eval x=j)
 (c:∃ v' w',(Builtin.append_ #[t,u] o.type #[v,j]).run P w=.ok v' w'/\R v' w')
 (h:∀ v' w',R v' w'->wpList P e Q rest (a.put o.dst v') w'):wpList P e Q (o::rest) a w:=by
 obtain⟨v',w',z,r⟩:=c;refine wpList_plain g fun K l=>?_;unfold Oper.wp execOp;simp only[y,resolve,invoke,builtin,Ey,Dd,EH,ES,Ht,Fo,hs,A,z];exact l _ _ (h v' w' r)
theorem Zf{P:Program}{w:World}{d:Array Oper}{o:Oper}{a:Act}{K:Act->World->Prop}{Q:Exit->Act->World->Prop}{E:Prop}{R:Value->World->Prop}(e:o.guard=none)(s x:Operand)(t u:TypeId)
 (i:o.op=.call {callee:=.builtin .append,args:=#[s,x],argTypes:=#[t,u]})(v f:Value)(hs:a.eval s=v)(l:a.eval x=f)
 (c:∃ v' b,(Builtin.append_ #[t,u] o.type #[v,f]).run P w=.ok v' b/\R v' b)
 (h:∀ v' b,R v' b->K (a.put o.dst v') b) :
 if Region.wanted o (yielded d a.tmps)=true then Oper.wp P o a w K Q else E:=by
 have k:Region.wanted o (yielded d a.tmps)=true:=by simp[Region.wanted,e]
 rw[He k];obtain⟨v',b,j,g⟩:=c;unfold Oper.wp execOp;simp only[i,resolve,invoke,builtin,Ey,Dd,EH,ES,Ht,Fo,hs,l,j];exact h v' b g
theorem Blk.setRow{w:World}{g:Nat}{c:List Value}{t:TypeId}(h:Blk w g c t)(a:List Value):Blk (w.setRow g a.toArray) g a t :=
 setRow_heap w g _ _ t _ h
theorem Blk.shape{w:World}{b:Nat}{c:List Value}{t:TypeId}(h:Blk w b c t):w.shape? b=some (t,c.length):=by
 rw[Blk] at h;simp[World.shape?,h]
theorem Fr.setRow{S:Nat->Prop}{a w:World}(h:Fr S a w){g:Nat}(f:g<a.heap.size->S g)(c:Array Value):Fr S a (w.setRow g c) :=
 ⟨h.os,h.tape,h.output,by simpa using h.size,fun k b d=>by
  rw[Ex w g k _ (fun e=>d (by subst e;exact f b))];exact h.block k b d⟩
theorem ZA{w:World}{e:TypeId}{size g n cap:Nat}{c f:List Value}(h:Blk w g c e)(b:n<=cap)(hm:cap<=maxLen)(a:c.length=cap*size)(d:c.take (n*size)=f) :
 w.ownsRow 0 e size (.slice (some ⟨g,0,none⟩) n cap) n f:=by
 refine⟨?_,.inr ⟨g,cap,c.toArray,rfl,Hg _,h,b,hm,by simpa using a,by simpa using d⟩⟩;rw[<- d,IR,a,Gv (Hv _ b)]
theorem Yn{w:World}{e:TypeId}{size n:Nat}{v:Value}{i:List Value}(h:w.ownsRow 0 e size v n i) :
 (v=.slice none 0 0/\n=0/\i=[])\/∃ g a c,v=.slice (some ⟨g,0,none⟩) n a/\Blk w g c e/\n<=a/\a<=maxLen/\c.length=a*size/\c.take (n*size)=i:=by
 rcases h.2 with⟨f,b⟩|⟨g,a,d,f,_,m,b,j,k,l⟩
 .refine .inl ⟨f,b,?_⟩
  have:=h.1;rw[b,DK] at this;exact Hm this
 .exact .inr ⟨g,a,d.toList,f,by rw[Blk];simpa using m,b,j,by simpa using k,l⟩
def Y5(k i:Nat)(a b:List Value):List Value:=a.take (i*k)++b++a.drop (i*k)
def Yg(k i:Nat)(a:List Value):List Value:=a.take (i*k)++a.drop ((i+1)*k)
section
variable {P:Program} {w:World}
theorem U1(t e ty:TypeId)(size:Nat)(y:P.underlying t=some (.slice e))(hs:(P.info? e).map (·.size)=some size)
 (g n m f p:Nat)(a:Addr)(c b:List Value)(u:Blk w g c e)(d:n+m<=f)(r:c.length=f*size)(o:b.length=m*size)
 (h:∀ j v,b[j]?=some v->w.cell? (a.add j)=some v)(q:∀ v∈b,v.oneCell'=true) :
 (Builtin.append_ #[t,t] ty #[.slice (some ⟨g,0,none⟩) n f,.slice (some a) m p]).run P w =
   .ok (.slice (some ⟨g,0,none⟩) (n+m) f) (w.setRow g (c.take (n*size)++b++c.drop (n*size+b.length)).toArray):=by
 have s:=En (P:=P) w size m a m p b o h;have l:n*size+b.length<=c.length:=by rw[o,r,<- Fe];exact Hv _ d
 have k:=De P g (n*size) e b 0 c.toArray w u (by simpa using l) q;simp only[Fx] at k;cases hq:P.info? e with
 | none=>simp[hq] at hs
 | some i =>
  have x:i.size=size:=by simpa [hq] using hs
  simp[Builtin.append_,run_underlying y,sizeOf,typeInfo,hq,x,Builtin.lenOf,d,s,Addr.add_lit,k]
theorem Zv(t e ty:TypeId)(size:Nat)(z:P.underlying t=some (.slice e))(hs:(P.info? e).map (·.size)=some size)
 (g o b h:Nat)(a:Addr)(d m:Nat)(c f:List Value)(tt:TypeId)(u:Blk w g c tt)(y:f.length=Nat.min d b*size)
 (l:∀ j v,f[j]?=some v->w.cell? (a.add j)=some v)(k:o+f.length<=c.length)(s:∀ v∈f,v.oneCell'=true) :
 (Builtin.copy_ #[t,t] ty #[.slice (some ⟨g,o,none⟩) b h,.slice (some a) d m]).run P w =
   .ok (goInt (Nat.min d b)) (w.setRow g (c.take o++f++c.drop (o+f.length)).toArray):=by
 have r:=run_loadCells_list (P:=P) w a f l;have q:=De P g o tt f 0 c.toArray w u (by simpa using k) s;cases hq:P.info? e with
 | none=>simp[hq] at hs
 | some i =>
  have x:i.size=size:=by simpa [hq] using hs
  rw[y] at r;simp[Builtin.copy_,run_underlying z,Builtin.lenOf,Builtin.firstCells,sizeOf,typeInfo,hq,x,r,q]
theorem RM(z:Array Value)(n:Nat)(h:∀ u∈z.toList,u.oneCell'=true):∀ u∈(Builtin.zeroCells z n).toList,u.oneCell'=true:=by
 intro u c;simp only[Builtin.zeroCells,Array.toList_map,Gc,Array.mem_toList_iff,Array.mem_range] at c;obtain⟨i,d,rfl⟩:=c;have e:0<z.size:=by
  rcases FG z.size with a|a
  .rw[a,Nat.mul_zero] at d;omega
  .exact a
 have b:=DU i e;rw[getElem!_pos z _ b];exact h _ (by simp)
theorem Tj(t e ty:TypeId)(i:TypeInfo)(z:Value)(size:Nat)(k:P.underlying t=some (.slice e))(p:P.info? e=some i)(r:i.zero=some z)(d:z.cells.size=size)(f:∀ u∈z.cells.toList,u.oneCell'=true)
 (g o n l:Nat)(c:List Value)(tt:TypeId)(j:Blk w g c tt)(a:o+n*size<=c.length) :
 ∃ h:List Value,h.length=n*size/\(Builtin.clear_ #[t] ty #[.slice (some ⟨g,o,none⟩) n l]).run P w=.ok (.tuple #[]) (w.setRow g (c.take o++h++c.drop (o+h.length)).toArray):=by
 refine⟨(Builtin.zeroCells z.cells n).toList,by simp[Builtin.zeroCells,d],?_⟩;cases n with
 | zero =>
  have m:(Builtin.zeroCells z.cells 0).toList=[]:=by simp[Builtin.zeroCells]
  have hs:=setRow_self w g c.toArray tt (0,0) j;simp[Builtin.clear_,run_underlying k,m,hs]
 | succ n =>
  have q:(Builtin.zeroCells z.cells (n+1)).toList.length=(n+1)*size:=by simp[Builtin.zeroCells,d]
  have b:=De P g o tt (Builtin.zeroCells z.cells (n+1)).toList 0 c.toArray w j (by rw[q];simpa using a) (RM _ _ f);simp only[Fx] at b;simp[Builtin.clear_,run_underlying k,zeroValue,typeInfo,p,r,b]
theorem Yo{b:Array Oper}{rest:List Oper}{o:Oper}{a:Act}{Q:Exit->Act->World->Prop}(c:o.guard=none)(d s:Operand)(t e:TypeId)
 (k:o.op=.call {callee:=.builtin .copy,args:=#[d,s],argTypes:=#[t,e]})(v u:Value)(j:a.eval d=v)(hs:a.eval s=u){f:Value}{g:World}
 (l:(Builtin.copy_ #[t,e] o.type #[v,u]).run P w=.ok f g)(h:wpList P b Q rest (a.put o.dst f) g):wpList P b Q (o::rest) a w:=by
 refine wpList_plain c fun K i=>?_;unfold Oper.wp execOp;simp only[k,resolve,invoke,builtin,Ey,Dd,EH,ES,Ht,Fo,j,hs,l];exact i _ _ h
theorem Yx{b:Array Oper}{o:Oper}{a:Act}{K:Act->World->Prop}{Q:Exit->Act->World->Prop}{E:Prop}
 (k:o.guard=none)(d x:Operand)(e f:TypeId)(c:o.op=Op.call {callee:=Callee.builtin Builtin.copy,args:=#[d,x],argTypes:=#[e,f]})
 (v u:Value)(j:a.eval d=v)(q:a.eval x=u){g:Value}{h:World}(l:(Builtin.copy_ #[e,f] o.type #[v,u]).run P w=.ok g h)(i:K (a.put o.dst g) h) :
 if Region.wanted o (yielded b a.tmps)=true then Oper.wp P o a w K Q else E:=by
 have m:Region.wanted o (yielded b a.tmps)=true:=by simp[Region.wanted,k]
 rw[He m];unfold Oper.wp execOp;simp only[c,resolve,invoke,builtin,Ey,Dd,EH,ES,Ht,Fo,j,q,l];exact i
theorem Rd{b:Array Oper}{o:Oper}{a:Act}{K:Act->World->Prop}{Q:Exit->Act->World->Prop}{E:Prop}
 (k:o.guard=none)(d x:Operand)(e f:TypeId)(c:o.op=Op.call {callee:=Callee.builtin Builtin.append,args:=#[d,x],argTypes:=#[e,f]})
 (v u:Value)(j:a.eval d=v)(p:a.eval x=u){g:Value}{h:World}(l:(Builtin.append_ #[e,f] o.type #[v,u]).run P w=.ok g h)(i:K (a.put o.dst g) h) :
 if Region.wanted o (yielded b a.tmps)=true then Oper.wp P o a w K Q else E:=by
 have m:Region.wanted o (yielded b a.tmps)=true:=by simp[Region.wanted,k]
 rw[He m];unfold Oper.wp execOp;simp only[c,resolve,invoke,builtin,Ey,Dd,EH,ES,Ht,Fo,j,p,l];exact i
end
def U8(W:World)(k:Nat):Prop:=∃ c f,W.heap[k]?=some (.cells c 5 f)
abbrev Still (W w:World):Prop:=Fr (U8 W) W w
theorem Still.trans{a b c:World}(h:Still a b)(k:Still b c):Still a c :=
 Fr.trans' h k fun i o r=>Classical.byContradiction fun e=>by
  obtain⟨x,f,g⟩:=r;rw[h.block i o e] at g;exact e ⟨x,f,g⟩
theorem Still.yK{w b:World}{v:Value}{n:Nat}{j:List Value}(h:w.ownsRow 0 5 1 v n j)(f:Fr (fun k=>v.ownBlock=some k) w b):Still w b :=
 f.mono fun i _ a=>by
  rcases Yn h with⟨rfl,_⟩|⟨g,d,c,rfl,e,_⟩
  .simp[Value.ownBlock] at a
  .simp[Value.ownBlock] at a
   subst a;exact⟨_,_,e⟩
theorem Still.of_nil{w a:World}(f:Fr Nil w a):Still w a:=f.mono fun _ _ h=>absurd h id
theorem Blk.still{W w:World}{b:Nat}{c:List Value}{t:TypeId}(h:Blk W b c t)(d:t≠5)(f:Still W w):Blk w b c t :=
 h.fr f fun⟨x,g,a⟩=>by
  rw[Blk] at h;rw[h] at a;simp at a;exact d a.2.1
def Adds(w:World)(v:Value)(n:Nat)(d:List Value)(a:List UInt8)(b:Value)(c:World):Prop :=
 c.ownsRow 0 5 1 b (n+a.length) (d++u8s a)/\Fr (fun k=>v.ownBlock=some k) w c/\(∀ k,b.ownBlock=some k->v.ownBlock=some k\/w.heap.size<=k)
theorem Adds.refl{w:World}{v:Value}{n:Nat}{a:List Value}(h:w.ownsRow 0 5 1 v n a):Adds w v n a [] v w :=
 ⟨by simpa [u8s] using h,Fr.refl _ _,fun _ b=>.inl b⟩
theorem Tk(a b:List UInt8):u8s (a++b)=u8s a++u8s b:=by simp[u8s]
theorem Adds.trans{w t w2:World}{v r s:Value}{n:Nat}{e:List Value}{a b:List UInt8}(h:Adds w v n e a r t)(k:Adds t r (n+a.length) (e++u8s a) b s w2):Adds w v n e (a++b) s w2:=by
 refine⟨?_,?_,fun i o=>?_⟩
 .rw[IM,Tk,<- Nat.add_assoc,<- Hu];exact k.1
 .refine h.2.1.trans' k.2.1 fun i o c=>?_
  rcases h.2.2 i c with g|g
  .exact g
  .omega
 .rcases k.2.2 i o with c|c
  .exact h.2.2 i c
  .exact .inr (IP h.2.1.size c)
theorem Adds.next{w f g:World}{v d e:Value}{n m:Nat}{c:List Value}{a b:List UInt8}(h:Adds w v n c a d f)(hm:m=n+a.length)(k:Adds f d m (c++u8s a) b e g):Adds w v n c (a++b) e g:=by
 subst hm;exact h.trans k
theorem Adds.of{w d c:World}{v b:Value}{n:Nat}{e:List Value}{a:List UInt8}(h:Adds d v n e a b c)(f:Fr Nil w d):Adds w v n e a b c :=
 ⟨h.1,(f.mono (fun _ _ h=>absurd h id)).trans' h.2.1 (fun _ _ h=>h),fun k g=>(h.2.2 k g).imp id (fun h=>IP f.size h)⟩
theorem Adds.still{w b:World}{v e:Value}{n:Nat}{c:List Value}{a:List UInt8}(h:Adds w v n c a e b)(d:w.ownsRow 0 5 1 v n c):Still w b:=Still.yK d h.2.1
theorem QO:((Tryz.prog.info? 5).map fun i=>(i.zero.map (·.cells.size),i.size,i.bytes))=some (some 1,1,1):=by kernel_rfl
theorem QP(w l:World)(v:Value)(n:Nat)(g:List Value)(h:w.ownsRow 0 5 1 v n g)(c:UInt8)(x:n+1<=1099511627776)(u:Value)(f:u=.int .u8 c.toNat)(t:l=w.alloc (.cells #[u] 5))(N:Nat)(p:N=w.heap.size)(ty:TypeId) :
 ∃ b d,(Builtin.append_ #[150,150] ty #[v,.slice (some ⟨N,0,none⟩) 1 1]).run Tryz.prog l=.ok b d/\Adds w v n g [c] b d:=by
 subst t;subst f;subst p;have q:Blk (w.alloc (.cells #[.int .u8 c.toNat] 5)) w.heap.size [.int .u8 c.toNat] 5:=Blk.new w [.int .u8 c.toNat] _;have r:=zb h ((Fr.refl Nil w).alloc (.cells #[.int .u8 c.toNat] 5)) (fun _ _=>id);obtain⟨b,d,s,m,o,a⟩:=zt (P:=Tryz.prog) 150 ty 5 1 1 GE QO (by omega) v n g r ⟨w.heap.size,0,none⟩ 1 1 [.int .u8 c.toNat] rfl
  (fun j u f=>by rw[Gh,Gg,q.cell];exact f) (by simp[Value.oneCell']) (by unfold maxLen;omega) (by omega)
 refine⟨b,d,s,m,((Fr.refl (fun k=>v.ownBlock=some k) w).alloc _).trans' ((Fr.Bv o).mono (fun i _ h=>h)) (fun i _ h=>h),fun k e=>?_⟩;rcases a with a|a
 .exact .inl (by rw[<- a];exact e)
 .rw[a] at e;simp at e;exact .inr (by omega)
def ZB(W:World)(h:Value)(b:List UInt8):Prop :=
 ∃ g c,h=.func (.func g) #[] c/\(∀ a w,(callFunc g a).run Tryz.prog w=.ok (.enter g a) w)/\∀ w,Still W w->∀ v n f,w.ownsRow 0 5 1 v n f->n+b.length<=1099511627776 ->
  Calls Tryz.prog g (#[v]++c) w fun e i=>∃ d,e=.returned d/\Adds w v n f b d i
theorem ZB.still{W a:World}{c:Value}{b:List UInt8}(h:ZB W c b)(f:Still W a):ZB a c b:=by
 obtain⟨g,j,rfl,e,d⟩:=h;exact⟨g,j,rfl,e,fun w i=>d w (f.trans i)⟩
def zi(n:Nat):List UInt8:=if n<128 then [UInt8.ofNat n] else UInt8.ofNat (n%128+128)::zi (n / 128)
theorem YP{n:Nat}(h:n<128):zi n=[UInt8.ofNat n]:=by rw[zi];simp[h]
theorem Xh{n:Nat}(h:¬n<128):zi n=UInt8.ofNat (n%128+128)::zi (n / 128):=by rw[zi];simp[h]
theorem Lu:∀ m:Fin 256,bits BinOp.or IntKind.u8 ((m.val:Nat):Int) 128=((m.val%128+128:Nat):Int):=by decide +kernel
theorem or128(r:Nat):Value.int .u8 (bits BinOp.or IntKind.u8 ((r:Int)%256) 128)=.int .u8 (UInt8.ofNat (r%128+128)).toNat:=by
 have h:=Lu ⟨r%256,DU _ (by omega)⟩;have e:((r:Int)%256)=((r%256:Nat):Int):=by omega
 rw[e,h]
 congr 1
 simp only[UInt8.toNat_ofNat'];omega
theorem Yd(b N:Nat)(y:N<9223372036854775808)(w:World)(s:Blk w b [.int .i64 N] 3)(v:Value)(n:Nat)(p:List Value)(m:w.ownsRow 0 5 1 v n p)(t:n+(zi N).length<=1099511627776) :
 Calls Tryz.prog 280 #[v,.pointer (some ⟨b,0,none⟩)] w fun e i=>∃ j,e=.returned j/\Adds w v n p (zi N) j i:=by
 have E:w.cell? ⟨b,0,none⟩=some (.int .i64 N):=by rw[s.cell];rfl
 have z:(N:Int)<=9223372036854775807:=by omega
 obtain⟨C,D,rfl⟩:=zc m;have x:=Z m;clear m s;go_enter Tryz.func280,Tryz.ntmps280;go_wp2_with fail
 go_loopw [0,4] (fun B o i=>∃ (d:List UInt8) (r:Nat),zi N=d++zi r/\r<9223372036854775808/\o=.int .u64 r/\Adds w (.slice C n D) n p d B i) (fun _ o _=>(intOf o).toNat)
 case atStart=>exact⟨[],N,rfl,y,rfl,Adds.refl x.out⟩
 case round =>
  obtain⟨d,r,a,F,rfl,g⟩:=hrel;obtain⟨G,I,rfl⟩:=zc g.1;have q:=Z a;have A:(zi N).length=d.length+(zi r).length:=by rw[a,IM]
  clear a;by_cases f:r<128
  .have l:(zi r).length=1:=by rw[YP f];rfl
   have u:Value.int .u8 (r:Int)=.int .u8 (UInt8.ofNat r).toNat:=by congr 1;simp;omega
   have c:=fun ty=>QP wr _ _ _ _ g.1 (UInt8.ofNat r) (by omega) _ u rfl _ rfl ty;have k:=Z g;clear g u
   go_wp2_with (at_builtin;go_must (refine zk rfl _ _ _ _ rfl _ _ (by rfl) (by rfl) (c _) ?_);rintro j i h)
   go_ret;exact⟨_,rfl,by rw[q.out,YP f];exact k.out.trans h⟩
  .have hge:(128:Int)<=r:=by omega
   have l:(zi r).length=(zi (r / 128)).length+1:=by rw[Xh f];rfl
   have c:=fun ty=>QP wr _ _ _ _ g.1 (UInt8.ofNat (r%128+128)) (by omega) _ (or128 r) rfl _ rfl ty;have k:=Z g;clear g
   go_wp2_with (at_builtin;go_must (refine zk rfl _ _ _ _ rfl _ _ (by rfl) (by rfl) (c _) ?_);rintro j i h)
   refine⟨⟨d++[UInt8.ofNat (r%128+128)],r / 128,by rw[q.out,Xh f];simp,by omega,by go_num,k.out.trans h⟩,?_⟩;simp[intOf];omega
theorem WW(W:World)(b N:Nat)(c:N<9223372036854775808)(d:Blk W b [.int .i64 N] 3) :
 ZB W (.func (.func 280) #[] #[.pointer (some ⟨b,0,none⟩)]) (zi N) :=
 ⟨_,_,rfl,Dr Tryz.func280 (by kernel_rfl) rfl,fun w f v n g e a=>Yd b N c w (d.still (by decide) f) v n g e a⟩
theorem RN(x:Int)(w:World) :
 Calls Tryz.prog 277 #[.int .i64 x] w fun e a=>e=.returned (.func (.func 280) #[] #[.pointer (some ⟨w.heap.size,0,none⟩)])/\a=w.alloc (.cells #[.int .i64 x] 3):=by
 go_enter Tryz.func277,Tryz.ntmps277
 go_wp2
 go_ret;exact⟨rfl,rfl⟩
theorem ZP(W:World)(x:Int)(w:World)(b:Fr Nil W w) :
 Calls Tryz.prog 277 #[.int .i64 x] w fun e a=>e=.returned (.func (.func 280) #[] #[.pointer (some ⟨w.heap.size,0,none⟩)])/\Blk a w.heap.size [.int .i64 x] 3/\Fr Nil W a:=by
 refine(RN x w).mono ?_;rintro e a ⟨rfl,rfl⟩;exact⟨rfl,Blk.new w [.int .i64 x] _,b.alloc _⟩
def Za(s:List UInt8):List UInt8:=zi s.length++s
theorem Mb(w:World)(v:Value)(n:Nat)(e:List Value)(h:w.ownsRow 0 5 1 v n e)(s:ByteArray)(l:n+s.size<=1099511627776)(ty:TypeId) :
 ∃ b c,(Builtin.append_ #[150,9] ty #[v,.string s]).run Tryz.prog w=.ok b c/\Adds w v n e s.data.toList b c:=by
 obtain⟨b,c,j,f,g,a⟩:=Y3 (P:=Tryz.prog) (w:=w) 150 9 ty 5 GE GX QO v n e h s (by unfold maxLen;omega) (by omega);refine⟨b,c,j,by simpa using f,(Fr.Bv g).mono (fun i _ h=>h),fun k d=>?_⟩;rcases a with a|a
 .exact .inl (by rw[<- a];exact d)
 .rw[a] at d;simp at d;exact .inr (by omega)
theorem OD(b:Nat)(s:ByteArray)(hs:s.size<9223372036854775808)(w:World)(j:Blk w b [.string s] 9)(v:Value)(n:Nat)(r:List Value)(o:w.ownsRow 0 5 1 v n r)(a:n+(Za s.data.toList).length<=1099511627776) :
 Calls Tryz.prog 285 #[v,.pointer (some ⟨b,0,none⟩)] w fun e p=>∃ x,e=.returned x/\Adds w v n r (Za s.data.toList) x p:=by
 have J:w.cell? ⟨b,0,none⟩=some (.string s):=by rw[j.cell];rfl
 obtain⟨D,E,rfl⟩:=zc o;have z:Hid (n+(zi s.size).length+s.size<=1099511627776):=by unfold Za at a;simp at a;unfold Hid;omega
 have t:Hid (∀ q,Still w q->q.cell? ⟨b,0,none⟩=some (.string s)):=by
  intro q h;rw[(j.still (by decide) h).cell];rfl
 have y:=Z j;have u:=Z o;clear j o;go_enter Tryz.func285,Tryz.ntmps285;go_wp2_with fail
 go_region_held3 (fun p=>p.cell? ⟨b,0,none⟩=some (.string s)) (first|go_keep|assumption)
  (first
  | (go_at_call 280;refine(Yd _ s.size hs _ (by first|exact g|exact g.drew) (.slice D n E) n r (zb (S:=Nil) u.out za (fun _ _=>id)) (by unfold Za at a;simp at a;omega)).mono ?_;rintro e G ⟨K,rfl,f⟩;have c:Still w G:=(Still.of_nil za).trans (f.still (zb (S:=Nil) u.out za (fun _ _=>id)));have B:=t.out _ c;have d:=Z f;clear f)
  | (go_at_call 277;refine(ZP w _ _ za).mono ?_;rintro e F ⟨rfl,g,m⟩;have A:F.cell? ⟨b,0,none⟩=some (.string s):=by rw[(y.out.fr m id).cell];rfl)
  | (refine Zf (by rfl) _ _ _ _ (by rfl) _ _ (by rfl) (by rfl) (Mb _ _ _ _ (zb (S:=Nil) d.out.1 za (fun _ _=>id)) s z.out _) ?_;intro L I l;have i:Still w I:=(c.trans (Still.of_nil za)).trans (l.still (zb (S:=Nil) d.out.1 za (fun _ _=>id)));have C:=t.out _ i;have k:=Z l;clear l))
 go_wp2
 go_ret;have e:Za s.data.toList=zi s.size++s.data.toList:=by simp[Za]
 rw[e];exact⟨_,rfl,(d.out.of za).trans (k.out.of za)⟩
theorem OE(s:ByteArray)(w:World) :
 Calls Tryz.prog 284 #[.string s] w fun e a=>e=.returned (.func (.func 285) #[] #[.pointer (some ⟨w.heap.size,0,none⟩)])/\a=w.alloc (.cells #[.string s] 9):=by
 go_enter Tryz.func284,Tryz.ntmps284
 go_wp2
 go_ret;exact⟨rfl,rfl⟩
theorem Re(W:World)(b:Nat)(s:ByteArray)(hs:s.size<9223372036854775808)(c:Blk W b [.string s] 9) :
 ZB W (.func (.func 285) #[] #[.pointer (some ⟨b,0,none⟩)]) (Za s.data.toList) :=
 ⟨_,_,rfl,Dr Tryz.func285 (by kernel_rfl) rfl,fun w e v n f d a=>OD b s hs w (c.still (by decide) e) v n f d a⟩
def ZI(W:World):List Value->List (List UInt8)->Prop
 | [],[]=>True
 | p::c,b::a=>ZB W p b/\ZI W c a
 | _,_=>False
theorem ZI.still{W a:World}(f:Still W a):∀ {c:List Value}{b:List (List UInt8)},ZI W c b->ZI a c b
 | [],[],_=>trivial
 | _::_,_::_,h=>⟨h.1.still f,ZI.still f h.2⟩
theorem ZI.length{W:World}:∀ {o:List Value}{c:List (List UInt8)},ZI W o c->o.length=c.length
 | [],[],_=>rfl
 | _::o,_::c,h=>by simp[ZI.length h.2]
theorem ZI.get{W:World}:∀ {d:List Value}{c:List (List UInt8)},ZI W d c->∀ (i:Nat)(e:i<d.length)(f:i<c.length),ZB W d[i] c[i]
 | [],[],_,i,e,_=>by simp at e
 | _::d,_::c,h,0,_,_=>h.1
 | _::d,_::c,h,i+1,e,f=>ZI.get h.2 i (by simpa using e) (by simpa using f)
theorem Ww(a:List (List UInt8))(i:Nat):(a.take i).flatten.length<=a.flatten.length:=by
 have h:=GY (fun l=>(List.flatten l).length) (Ge i a);simp only[FC,IM] at h;omega
theorem U2(b:Nat)(L:Value)(d:List Value)(a:List (List UInt8))(w:World)(V:Blk w b [L] 368)(hs:w.ownsRow 0 365 1 L d.length d)(hp:ZI w d a)
 (v:Value)(n:Nat)(Q:List Value)(J:w.ownsRow 0 5 1 v n Q)(a0:n+a.flatten.length<=1099511627776) :
 Calls Tryz.prog 281 #[v,.pointer (some ⟨b,0,none⟩)] w fun e N=>∃ v',e=.returned v'/\Adds w v n Q a.flatten v' N:=by
 have hc:w.cell? ⟨b,0,none⟩=some L:=by rw[V.cell];rfl
 have hn:=zH hs;unfold maxLen at hn;have z:=hp.length;obtain⟨va,vc,rfl⟩:=zc J;obtain⟨sa,sc,rfl⟩:=zc hs;have T:=Z J;have HS:=Z hs;have s:=Z z;clear V J z;go_enter Tryz.func281,Tryz.ntmps281;go_wp2_with fail
 go_loopw [0,8] (fun t0 M N=>∃ i:Nat,i<=d.length/\M=.int .i64 i/\Adds w (.slice va n vc) n Q (a.take i).flatten t0 N) (fun _ M _=>d.length-(intOf M).toNat)
 case atStart=>exact⟨0,Hg _,rfl,Adds.refl T.out⟩
 case round =>
  obtain⟨i,hi,rfl,q⟩:=hrel;have C:=q.still T.out;obtain⟨m,hm⟩:∃ m,m=n+(a.take i).flatten.length:=⟨_,rfl⟩;have l:=q.1;rw[<- hm] at l;obtain⟨ta,tc,rfl⟩:=zc l;have HW:=Z l;have R:=Z hm;clear l hm;by_cases r:i<d.length
  .obtain⟨pg,rfl⟩:∃ g,sa=some ⟨g,0,none⟩:=by
    rcases hs.2 with⟨o,h0⟩|⟨g,F,a1,o,_⟩
    .omega
    .simp at o;exact⟨g,o.1⟩
   have B:wr.ownsRow 0 365 1 (.slice (some ⟨pg,0,none⟩) d.length sc) d.length d:=zb hs C (fun k Y hu=>by
    rcases Yn hs with⟨o,_⟩|⟨g,F,c,o,X,_⟩
    .cases o
    .simp at o
     simp[Value.ownBlock] at Y;obtain⟨x,f,K⟩:=hu;rw[<- Y,o.1] at K;rw[Blk] at X;rw[X] at K;simp at K)
   have y:i<a.length:=by rw[<- s.out];exact r
   obtain⟨g,lb,A,eg,h⟩:=hp.get i r y;have G:=own_cell? B i _ (IW r);rw[A] at G;have j:(a.take (i+1)).flatten=(a.take i).flatten++a[i]:=by rw[Hj y,FC];simp
   have I:=Ww a (i+1);rw[j,IM] at I;have t:=Z j;have HC:=Z h;have D:=Z q;clear B j h q A;go_wp2_with fail;refine(HC.out wr C _ _ _ HW.out (by rw[R.out];omega)).mono ?_;rintro e w2 ⟨v2,rfl,u⟩;have E:=Z (D.out.next R.out u);clear u
   go_wp2
   refine⟨⟨i+1,by omega,by go_num,by rw[t.out];exact E.out⟩,?_⟩;simp[intOf];omega
  .have e:i=d.length:=by omega
   have p:(a.take i).flatten=a.flatten:=by rw[Hn (by rw[e,s.out];exact IQ _)]
   rw[p] at q;have D:=Z q;clear p q
   go_wp2
   go_ret;exact⟨_,rfl,D.out⟩
theorem U3(a:Option Addr)(c b:Nat)(w:World) :
 Calls Tryz.prog 279 #[.slice a c b] w fun e d=>e=.returned (.func (.func 281) #[] #[.pointer (some ⟨w.heap.size,0,none⟩)])/\d=w.alloc (.cells #[.slice a c b] 368):=by
 go_enter Tryz.func279,Tryz.ntmps279
 go_wp2
 go_ret;exact⟨rfl,rfl⟩
theorem Vp{W w:World}{j:Value}{n:Nat}{a:List Value}{t:TypeId}{k:Nat}(m:t≠5)(h:W.ownsRow 0 t k j n a)(f:Still W w):w.ownsRow 0 t k j n a :=
 zb h f (fun i d o=>by
  rcases Yn h with⟨rfl,_⟩|⟨g,l,c,rfl,e,_⟩
  .simp[Value.ownBlock] at d
  .simp[Value.ownBlock] at d
   obtain⟨x,f,b⟩:=o;rw[<- d] at b;rw[Blk] at e;rw[e] at b;simp at b;exact m b.2.1)
theorem Mc(W:World)(b:Nat)(f:Value)(a:List Value)(c:List (List UInt8))(g:Blk W b [f] 368)(hs:W.ownsRow 0 365 1 f a.length a)(i:ZI W a c) :
 ZB W (.func (.func 281) #[] #[.pointer (some ⟨b,0,none⟩)]) c.flatten :=
 ⟨_,_,rfl,Dr Tryz.func281 (by kernel_rfl) rfl,fun w e v n j h d =>
  U2 b f a c w (g.still (by decide) e) (Vp (by decide) hs e) (i.still e) v n j h d⟩
def YQ(l:List Nat):List UInt8:=zi l.length++(l.map zi).flatten
theorem QQ(J R g o c:Nat)(l:List Nat)(row:List Value)(t:TypeId)(ht:t≠5)(hl:∀ x∈l,x<9223372036854775808)(a3:l.length<1000000)(w:World)
 (D:Blk w J [.slice (some ⟨g,o,none⟩) l.length c] 26)(T:Blk w R [.func (.func 277) #[] #[]] 366)
 (hr:Blk w g row t)(r:∀ i (h:i<l.length),row[o+i]?=some (.int .i64 (l[i]:Nat)))
 (v:Value)(n:Nat)(K:List Value)(V:w.ownsRow 0 5 1 v n K)(q:n+(YQ l).length<=1099511627776) :
 Calls Tryz.prog 296 #[v,.pointer (some ⟨J,0,none⟩),.pointer (some ⟨R,0,none⟩)] w fun e X=>∃ v',e=.returned v'/\Adds w v n K (YQ l) v' X:=by
 have a0:w.cell? ⟨J,0,none⟩=some (.slice (some ⟨g,o,none⟩) l.length c):=by rw[D.cell];rfl
 obtain⟨va,vc,rfl⟩:=zc V;have Q:=Z V;have H1:=Z D;clear D V;have p:n+(zi l.length).length+((l.map zi).flatten).length<=1099511627776:=by simp only[YQ,IM] at q;omega
 have Y:=Z p;clear p q;have HR:=Z hr;have H2:=Z T;have C:=Z r;have N:=Z hl;clear hr T r hl;go_enter Tryz.func296,Tryz.ntmps296
 go_wp2_with (first
  | (go_at_call 280;refine(Yd w.heap.size l.length (by omega) _ b (.slice va n vc) n K (zb (S:=Nil) Q.out a (fun _ _=>id)) (by have:=Y.out;omega)).mono ?_;rintro e w3 ⟨v3,rfl,E⟩;refine Hid.out ?_)
  | (go_at_call 277;refine(ZP w _ _ (Fr.refl _ _)).mono ?_;rintro e w2 ⟨rfl,b,a⟩))
 have A:=Z (E.of a);have s:=A.out.still Q.out;have a2:w3.cell? ⟨J,0,none⟩=some (.slice (some ⟨g,o,none⟩) l.length c):=by rw[(H1.out.still (by decide) s).cell];rfl
 clear E b a s;refine Z ?_;go_wp2_with fail
 go_loopw [0,14] (fun t0 z X=>∃ i:Nat,i<=l.length/\z=.int .i64 i/\Adds w (.slice va n vc) n K (zi l.length++((l.take i).map zi).flatten) t0 X) (fun _ z _=>l.length-(intOf z).toNat)
 case atStart=>exact⟨0,Hg _,rfl,by simpa using A.out⟩
 case round =>
  obtain⟨i,hi,rfl,u⟩:=hrel;have I:=u.still Q.out;obtain⟨m,hm⟩:∃ m,m=n+(zi l.length++((l.take i).map zi).flatten).length:=⟨_,rfl⟩;have f:=u.1;rw[<- hm] at f;obtain⟨ta,tc,rfl⟩:=zc f;have HW:=Z f;have HM:=Z hm;clear f hm;by_cases y:i<l.length
  .have hcg:wr.cell? ⟨g,o+i,none⟩=some (.int .i64 (l[i]:Nat)):=by rw[(HR.out.still ht I).cell];exact C.out i y
   have a1:wr.cell? ⟨R,0,none⟩=some (.func (.func 277) #[] #[]):=by rw[(H2.out.still (by decide) I).cell];rfl
   have hx:=N.out l[i] (IX y);have d:zi l.length++((l.take (i+1)).map zi).flatten=(zi l.length++((l.take i).map zi).flatten)++zi l[i]:=by
    rw[Hj y,Gs,FC];simp
   have G:m+(zi l[i]).length<=1099511627776:=by
    have D:=Ww (l.map zi) (i+1);have T:=Y.out;rw[<- FJ] at D;have h3:=GY List.length d;rw[HM.out];simp only[IM] at h3 |-;omega
   have j:=Z d;have L:=Z u;have B:=Z G;clear d u G;generalize l[i]=x at hcg hx j B
   go_wp2_with (first
    | (go_at_call 280;refine(Yd wr.heap.size x hx _ b (.slice ta m tc) m _ (zb (S:=Nil) HW.out a (fun _ _=>id)) B.out).mono ?_;rintro e w5 ⟨v5,rfl,F⟩;refine Hid.out ?_)
    | (go_at_call 277;refine(ZP wr _ _ (Fr.refl _ _)).mono ?_;rintro e w4 ⟨rfl,b,a⟩))
   have M:=Z (L.out.next HM.out (F.of a));clear F b a;refine Z ?_
   go_wp2
   refine⟨⟨i+1,by omega,by go_num,by rw[j.out];exact M.out⟩,?_⟩;simp[intOf];omega
  .have e:i=l.length:=by omega
   have k:zi l.length++((l.take i).map zi).flatten=YQ l:=by rw[e,HZ];rfl
   rw[k] at u;have L:=Z u;clear k u
   go_wp2
   go_ret;exact⟨_,rfl,L.out⟩
structure Ver where
 node:Int
 seq:Int
 o0:Int
 o1:Int
 o2:Int
 o3:Int
 value:ByteArray
 gone:Bool
def Ver.cells(v:Ver):List Value:=[.int .i64 v.node,.int .i64 v.seq,.int .i64 v.o0,.int .i64 v.o1,.int .i64 v.o2,.int .i64 v.o3,.string v.value,.bool v.gone]
theorem Ver.BI(v:Ver):v.cells.length=8:=rfl
def isN(x:Int):Prop:=0<=x/\x<9223372036854775808
structure Ver.Nat(v:Ver):Prop where
 node:isN v.node
 seq:isN v.seq
 o0:isN v.o0
 o1:isN v.o1
 o2:isN v.o2
 o3:isN v.o3
 size:v.value.size<1000000000
def ZY(v:Ver):List UInt8:=zi v.node.toNat++(zi v.seq.toNat++(YQ [v.o0.toNat,v.o1.toNat,v.o2.toNat,v.o3.toNat]++Za v.value.data.toList))
theorem QR(a:Option Addr)(n c:Nat)(w:World) :
 Calls Tryz.prog 293 #[.slice a n c,.func (.func 277) #[] #[]] w fun e b =>
  e=.returned (.func (.func 296) #[] #[.pointer (some ⟨w.heap.size,0,none⟩),.pointer (some ⟨w.heap.size+1,0,none⟩)]) /\
  b=(w.alloc (.cells #[.slice a n c] 26)).alloc (.cells #[.func (.func 277) #[] #[]] 366):=by
 go_enter Tryz.func293,Tryz.ntmps293
 go_wp2
 go_ret;exact⟨rfl,rfl⟩
theorem OG(W:World)(a:Option Addr)(n c:Nat)(w:World)(g:Fr Nil W w) :
 Calls Tryz.prog 293 #[.slice a n c,.func (.func 277) #[] #[]] w fun e b =>
  ∃ d f,e=.returned (.func (.func 296) #[] #[.pointer (some ⟨d,0,none⟩),.pointer (some ⟨f,0,none⟩)]) /\
  Blk b d [.slice a n c] 26/\Blk b f [.func (.func 277) #[] #[]] 366/\Fr Nil W b:=by
 refine(QR a n c w).mono ?_;rintro e b ⟨rfl,rfl⟩;refine⟨_,_,rfl,(Blk.new w [.slice a n c] _).alloc _,?_,(g.alloc _).alloc _⟩;have:=Blk.new (w.alloc (.cells #[.slice a n c] 26)) [.func (.func 277) #[] #[]] 366
 simpa using this
theorem Tl(W:World)(s:ByteArray)(w:World)(b:Fr Nil W w) :
 Calls Tryz.prog 284 #[.string s] w fun e a=>e=.returned (.func (.func 285) #[] #[.pointer (some ⟨w.heap.size,0,none⟩)])/\Blk a w.heap.size [.string s] 9/\Fr Nil W a:=by
 refine(OE s w).mono ?_;rintro e a ⟨rfl,rfl⟩;exact⟨rfl,Blk.new w [.string s] _,b.alloc _⟩
theorem OH(W:World)(g n c:Nat)(a:List Value)(w:World)(f:Fr Nil W w)(hs:Blk w g a 365) :
 Calls Tryz.prog 279 #[.slice (some ⟨g,0,none⟩) n c] w fun e d =>
  ∃ b,e=.returned (.func (.func 281) #[] #[.pointer (some ⟨b,0,none⟩)])/\Blk d b [.slice (some ⟨g,0,none⟩) n c] 368/\Blk d g a 365/\Fr Nil W d:=by
 refine(U3 _ n c w).mono ?_;rintro e d ⟨rfl,rfl⟩;exact⟨_,rfl,Blk.new w [.slice (some ⟨g,0,none⟩) n c] _,hs.alloc _,f.alloc _⟩
theorem Md(W:World)(d e g o c:Nat)(l:List Nat)(row:List Value)(t:TypeId)(k:t≠5)(q:∀ x∈l,x<9223372036854775808)(f:l.length<1000000)
 (m:Blk W d [.slice (some ⟨g,o,none⟩) l.length c] 26)(p:Blk W e [.func (.func 277) #[] #[]] 366)
 (s:Blk W g row t)(b:∀ i (h:i<l.length),row[o+i]?=some (.int .i64 (l[i]:Nat))) :
 ZB W (.func (.func 296) #[] #[.pointer (some ⟨d,0,none⟩),.pointer (some ⟨e,0,none⟩)]) (YQ l) :=
 ⟨_,_,rfl,Dr Tryz.func296 (by kernel_rfl) rfl,fun w j v n u r a =>
  QQ d e g o c l row t k q f w (m.still (by decide) j) (p.still (by decide) j) (s.still k j) b v n u r a⟩
theorem RO(v:Ver)(t:v.Nat)(w:World) :
 Calls Tryz.prog 289 #[.agg v.cells.toArray] w fun e g=>∃ b,e=.returned (.func (.func 281) #[] #[.pointer (some ⟨b,0,none⟩)])/\ZB g (.func (.func 281) #[] #[.pointer (some ⟨b,0,none⟩)]) (ZY v)/\Fr Nil w g:=by
 have c:Blk (w.alloc (.cells v.cells.toArray 37)) w.heap.size v.cells 37:=Blk.new w v.cells _;have r:Fr Nil w (w.alloc (.cells v.cells.toArray 37)):=(Fr.refl _ _).alloc _;obtain⟨node,d,L,M,Q,R,a,gone⟩:=v;simp only[Ver.cells] at c r |-;go_enter Tryz.func289,Tryz.ntmps289;go_wp2_with fail;obtain⟨N,hN⟩:∃ N,w.heap.size=N:=⟨_,rfl⟩;obtain⟨q,K⟩:∃ q,w.alloc (.cells #[.int .i64 node,.int .i64 d,.int .i64 L,.int .i64 M,.int .i64 Q,.int .i64 R,.string a,.bool gone] 37)=q:=⟨_,rfl⟩;rw[hN] at c |-;rw[K] at c r |-;clear K hN;have a4:q.cell? ⟨N,0,none⟩=some (.int .i64 node):=by rw[c.cell];rfl
 have a5:q.cell? ⟨N,1,none⟩=some (.int .i64 d):=by rw[c.cell];rfl
 have a6:q.cell? ⟨N,6,none⟩=some (.string a):=by rw[c.cell];rfl
 have u:Hid (∀ g,Fr Nil q g->g.cell? ⟨N,0,none⟩=some (.int .i64 node)/\g.cell? ⟨N,1,none⟩=some (.int .i64 d)/\g.cell? ⟨N,6,none⟩=some (.string a)):=by
  intro g hf;have:=(c.fr hf id).cell;exact⟨by rw[this];rfl,by rw[this];rfl,by rw[this];rfl⟩
 have HB:=Z c;clear c
 go_region_held3 (fun g=>g.cell? ⟨N,0,none⟩=some (.int .i64 node)/\g.cell? ⟨N,1,none⟩=some (.int .i64 d)/\g.cell? ⟨N,6,none⟩=some (.string a)) (first|assumption|exact u.out _ za)
  (first
  | (go_at_call 279;refine(OH w5 _ _ _ _ _ za (by exact Blk.new _ [_,_,_,_] _)).mono ?_;rintro e k ⟨b6,rfl,A,J,f⟩;have h:=o.trans f;have b3:=u.out k h)
  | (go_at_call 284;refine(Tl w4 _ _ za).mono ?_;rintro e w5 ⟨rfl,Y,j⟩;have o:=m.trans j;have b0:=u.out w5 o)
  | (go_at_call 293;refine(OG w3 _ _ _ _ za).mono ?_;rintro e w4 ⟨b1,b2,rfl,X,y,s⟩;have m:=l.trans s;have a9:=u.out w4 m)
  | (go_at_call 277;refine(ZP w2 _ _ za).mono ?_;rintro e w3 ⟨rfl,V,C⟩;have l:=B.trans C;have a8:=u.out w3 l)
  | (go_at_call 277;refine(ZP q _ _ za).mono ?_;rintro e w2 ⟨rfl,T,B⟩;have a7:=u.out w2 B))
 have an:isN node:=t.node;have aq:isN d:=t.seq;have a0:isN L:=t.o0;have a1:isN M:=t.o1;have a2:isN Q:=t.o2;have a3:isN R:=t.o3;have az:a.size<1000000000:=t.size;unfold isN at an aq a0 a1 a2 a3;have E:ZB k (.func (.func 280) #[] #[.pointer (some ⟨q.heap.size,0,none⟩)]) (zi node.toNat):=WW k _ node.toNat (by omega) (by rw[Fq an.1];exact(((T.fr C id).fr s id).fr j id).fr f id);have F:ZB k (.func (.func 280) #[] #[.pointer (some ⟨w2.heap.size,0,none⟩)]) (zi d.toNat):=WW k _ d.toNat (by omega) (by rw[Fq aq.1];exact((V.fr s id).fr j id).fr f id);have G:ZB k (.func (.func 296) #[] #[.pointer (some ⟨b1,0,none⟩),.pointer (some ⟨b2,0,none⟩)]) (YQ [L.toNat,M.toNat,Q.toNat,R.toNat]) :=
  Md k b1 b2 N 2 4 [L.toNat,M.toNat,Q.toNat,R.toNat] _ 37 (by decide) (by
   intro x hx;simp only[HY,Ft,Dy] at hx;rcases hx with rfl|rfl|rfl|rfl <;> omega) (by simp) ((X.fr j id).fr f id) ((y.fr j id).fr f id) (HB.out.fr h id) (by
   intro i hi;simp only[Hq,Gt] at hi;have:i=0\/i=1\/i=2\/i=3:=by omega
   rcases this with rfl|rfl|rfl|rfl
   .exact GY (fun z=>some (Value.int .i64 z)) (Fq a0.1).symm
   .exact GY (fun z=>some (Value.int .i64 z)) (Fq a1.1).symm
   .exact GY (fun z=>some (Value.int .i64 z)) (Fq a2.1).symm
   .exact GY (fun z=>some (Value.int .i64 z)) (Fq a3.1).symm)
 have I:ZB k (.func (.func 285) #[] #[.pointer (some ⟨w4.heap.size,0,none⟩)]) (Za a.data.toList):=Re k _ a (by omega) ((Y.fr f id));have p:k.ownsRow 0 365 1 (.slice (some ⟨w5.heap.size,0,none⟩) 4 4) 4 _:=ZA J (IQ _) (by unfold maxLen;omega) (by rfl) (by rfl);have D:=Mc k _ _ _ [_,_,_,_] A p ⟨E,F,G,I,trivial⟩;have HG:=Z D;have HF:=Z (r.trans h);clear E F G I p D A J
 go_wp2
 go_ret;refine⟨_,rfl,?_,HF.out⟩;have:=HG.out;simp only[Fh,List.flatten_nil,Hx] at this;exact this
end Go.Proofs.YtkhnggkkiefcdaaGreatDoor
