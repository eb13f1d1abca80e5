/- larder: joined texts -/
import Derived.WalkKit
import Derived.WalkSpells
import Derived.WalkLawsBesides
import Derived.Deep.QuietTactic
import Derived.BigQuiet
import Derived.Deep.AppendLies
import Derived.Deep.RegionHeld3
import Derived.Deep.DrawnRows
import Derived.Test.YtkhnggkkiefcdaaGreatDoorChecked
import Derived.Maps.AppendAt
namespace Go.Proofs.YtkhnggkkiefcdaaGreatDoor
open Go.RowKit
set_option maxRecDepth 100000
set_option maxHeartbeats 8000000
abbrev NQ:=@List.length_append
abbrev NR:=@Nat.le_trans
abbrev NS:=@Nat.le_refl
abbrev NT:=@List.length_take
abbrev NU:=@List.length_singleton
abbrev NV:=@List.getElem_mem
abbrev NW:=@List.mem_singleton
abbrev NX:=@List.mem_cons_of_mem
abbrev NY:=@List.mem_cons_self
abbrev NZ:=@List.getElem?_eq_getElem
abbrev Ma:=@if_neg
abbrev Mb:=@List.setIfInBounds_toArray
abbrev Mc:=@List.mem_append
abbrev Md:=@List.getElem?_eq_some_iff
abbrev Me:=@Nat.zero_le
abbrev Mf:=@List.map_cons
abbrev Mg:=@if_pos
abbrev Mh:=@List.length_cons
abbrev Mi:=@List.eq_nil_of_length_eq_zero
abbrev Mj:=@List.take_of_length_le
abbrev Mk:=@List.set_cons_zero
abbrev Ml:=@List.set_cons_succ
abbrev Mm:=@List.append_assoc
abbrev Mn:=@List.length_drop
abbrev Mo:=@Go.World.ownsRow_nil
abbrev Mp:=@Option.some.inj
abbrev Mq:=@List.take_succ_eq_append_getElem
abbrev Mr:=@List.mem_cons
abbrev Ms:=@decide_eq_true_eq
abbrev Mt:=@List.mem_map
abbrev Mu:=@Nat.mul_le_mul_right
abbrev Mv:=@List.take_append_drop
abbrev Mw:=@List.length_map
abbrev Mx:=@Int.eq_ofNat_of_zero_le
abbrev My:=@Nat.le_succ_of_le
abbrev Mz:=@List.take_length
abbrev MA:=@Nat.not_lt_zero
abbrev MB:=@List.append_nil
abbrev MC:=@Go.IntKind.wrap_i64
abbrev MD:=@Nat.zero_add
abbrev ME:=@List.length_nil
abbrev MF:=@List.take_append_of_le_length
abbrev MG:=@List.getElem_append_left
abbrev MH:=@List.getD_eq_getElem?_getD
abbrev MI:=@beq_eq_false_iff_ne
abbrev MJ:=@List.cons_append
abbrev MK:=@Go.Addr.add_lit
abbrev ML:=@List.map_append
abbrev MM:=@Go.run_callFunc_extern
abbrev MN:=@if_false
abbrev MO:=@List.mem_of_mem_drop
abbrev MP:=@if_true
abbrev MQ:=@List.take_succ_cons
abbrev MR:=@List.mem_map_of_mem
abbrev MS:=@List.getElem?_take_of_lt
abbrev MT:=@List.getElem_map
abbrev MU:=@Nat.min_eq_left
abbrev MV:=@Array.getElem?_eq_some_iff
abbrev MW:=@Go.Proofs.Tryz.underlying150
abbrev MX:=@List.map_congr_left
abbrev MY:=@List.take_left'
abbrev La:=@List.mem_iff_getElem
abbrev Lb:=@Nat.lt_of_lt_of_le
abbrev Lc:=@Bool.false_eq_true
abbrev Ld:=@List.eq_nil_or_concat
abbrev Le:=@List.concat_eq_append
abbrev Lf:=@List.drop_succ_cons
abbrev Lh:=@Go.run_underlying
abbrev Lj:=@List.foldl_append
abbrev Lk:=@List.drop_eq_getElem_cons
abbrev Ll:=@ByteArray.size_extract
abbrev Lm:=@Go.callsIn_wide
abbrev Ln:=@Bool.and_eq_true
abbrev Lo:=@Go.bodyPost_end
abbrev Lp:=@List.flatten_cons
abbrev Lq:=@Go.Proofs.Tryz.underlying157
abbrev Lr:=@List.mem_of_mem_take
abbrev Ls:=@Nat.le_succ
abbrev Lt:=@Go.Proofs.Tryz.underlying9
abbrev Lu:=@List.drop_eq_nil_of_le
abbrev Lv:=@Int.toNat_of_nonneg
abbrev Lw:=@List.drop_zero
abbrev Lx:=@List.take_zero
abbrev Ly:=@List.sum_cons
abbrev Lz:=@Nat.lt_or_ge
abbrev LA:=@List.foldl_cons
abbrev LB:=@List.nil_append
abbrev LC:=@List.map_nil
abbrev LF:=@List.flatMap_cons
abbrev LG:=@List.getElem_cons_zero
abbrev LH:=@congrArg
abbrev LI:=@List.getElem_of_mem
abbrev LJ:=@Array.length_toList
abbrev LK:=@List.flatten_append
abbrev LL:=@List.getElem?_append_left
abbrev LN:=@List.getElem?_drop
abbrev LO:=@List.not_mem_nil
abbrev LP:=@Go.Proofs.Tryz.underlying261
abbrev LQ:=@Nat.add_mul
abbrev LR:=@List.mem_of_getElem?
abbrev LU:=@List.size_toArray
abbrev LV:=@decide_eq_false_iff_not
abbrev LW:=@Go.Oper.semAt_some
abbrev LX:=@Array.toList_append
abbrev LZ:=@List.map_map
abbrev Ka:=@List.map_take
abbrev Kc:=@Prod.mk.injEq
abbrev Kd:=@Go.Proofs.Tryz.underlying3
abbrev Ke:=@List.find?_eq_none
abbrev Kf:=@Nat.eq_zero_or_pos
abbrev Kg:=@List.take_take
abbrev Kh:=@List.prefix_append
abbrev Ki:=@List.nodup_iff_pairwise_ne
abbrev Kj:=@Go.IntWalk.i64_in
abbrev Kk:=@ByteArray.data_append
abbrev Kl:=@List.nodup_cons
abbrev Km:=@Array.replicate_succ
abbrev Kn:=@Array.replicate_zero
abbrev Ko:=@Go.wpStill_nil
abbrev Kq:=@List.pairwise_map
abbrev Kr:=@List.nodup_append
abbrev Ks:=@Go.Proofs.Tryz.ntmps203
abbrev Kt:=@List.prefix_of_prefix_length_le
abbrev Ku:=@List.append_toArray
abbrev Kw:=@List.getElem?_cons_zero
abbrev Kx:=@Int.le_refl
abbrev Ky:=@Array.getElem?_eq_none
abbrev Kz:=@Go.Sem.run_bind
abbrev KA:=@Go.Proofs.Tryz.func203
abbrev KB:=@List.getElem_cons_succ
abbrev KD:=@List.getElem?_eq_none
abbrev KE:=@Go.Result.andThen_ok
abbrev KF:=@Go.Proofs.Tryz.underlying91
abbrev KG:=@List.getElem_take
abbrev KH:=@List.push_toArray
abbrev KI:=@Go.Proofs.Tryz.underlying66
abbrev KJ:=@List.take_add_one
abbrev KK:=@Option.some.injEq
abbrev KL:=@of_decide_eq_true
abbrev KM:=@List.getElem?_append_right
abbrev KN:=@Nat.min_def
abbrev KO:=@List.mem_range
abbrev KP:=@Go.RowKit.Below.heap_alloc
abbrev KQ:=@List.map_toArray
abbrev KR:=@Go.bodyPost_ret
abbrev KS:=@List.ext_getElem
abbrev KT:=@List.cons_ne_nil
abbrev KU:=@Go.run_firstCells_some
abbrev KV:=@List.map_drop
abbrev KW:=@Go.beq_toListBytes
abbrev KX:=@Option.map_some
abbrev KY:=@Array.ext'
abbrev KZ:=@Go.Proofs.Tryz.underlying140
abbrev Ja:=@Go.Sem.run_pure
abbrev Jb:=@Go.run_storeCells_at
abbrev Jc:=@Nat.add_zero
abbrev Jd:=@Go.setRow_other
abbrev Je:=@Int.ofNat_tmod
abbrev Jf:=@List.drop_left
abbrev Jg:=@Bool.not_eq_true'
abbrev Jh:=@List.nodup_nil
abbrev Ji:=@List.set_append_right
abbrev Jj:=@Go.World.size_alloc
abbrev Jk:=@Nat.mod_lt
abbrev Jm:=@List.mem_flatMap
abbrev Jo:=@Option.bind_some
abbrev Jp:=@List.take_prefix
abbrev Jq:=@ByteArray.ext
abbrev Js:=@List.dropLast_concat
abbrev Jt:=@List.mem_append_left
abbrev Ju:=@List.cons.injEq
abbrev Jv:=@decide_eq_false
abbrev Jw:=@List.getElem_append
abbrev Jy:=@List.takeWhile_cons
abbrev Jz:=@Go.ByteArray.toList_eq
abbrev JB:=@Ne.symm
abbrev JC:=@Nat.le_total
abbrev JD:=@Nat.le_of_eq
abbrev JE:=@Go.grownCap_le_maxLen
abbrev JF:=@List.take_left
abbrev JG:=@or_false
abbrev JH:=@Go.AllReadyH.cons
abbrev JI:=@List.Perm.refl
abbrev JJ:=@Go.Proofs.Tryz.underlying61
abbrev JK:=@List.find?_append
abbrev JL:=@Go.Proofs.Tryz.underlying26
abbrev JN:=@List.getElem?_map
abbrev JO:=@Int.toNat_natCast
abbrev JP:=@Go.Proofs.Tryz.ntmps209
abbrev JQ:=@Go.Proofs.Tryz.ntmps189
abbrev JR:=@Go.Proofs.Tryz.ntmps211
abbrev JS:=@Go.Proofs.Tryz.ntmps202
abbrev JT:=@Go.Proofs.Tryz.ntmps129
abbrev JU:=@Go.AllReadyH.nil
abbrev JV:=@Go.Proofs.Tryz.underlying5
abbrev JW:=@Nat.mod_eq_of_lt
abbrev JZ:=@List.drop_length
abbrev Ia:=@Nat.min_le_right
abbrev Ib:=@Nat.min_eq_right
abbrev Ic:=@List.prefix_refl
abbrev Ie:=@Go.Proofs.Tryz.func209
abbrev Ig:=@Go.Proofs.Tryz.ntmps46
abbrev Ih:=@Go.Proofs.Tryz.func189
abbrev Ii:=@Go.Proofs.Tryz.func211
abbrev Ij:=@Go.RowKit.Below.refl
abbrev Ik:=@Go.Proofs.Tryz.func202
abbrev Il:=@Go.Proofs.Tryz.ntmps96
abbrev Im:=@Go.Proofs.Tryz.func129
abbrev Io:=@Nat.le_of_lt
abbrev Ip:=@Go.Proofs.Tryz.ntmps95
abbrev Iq:=@Go.wpAnyH_ready
abbrev Ir:=@List.nil_prefix
abbrev Is:=@List.sum_append
abbrev It:=@Go.Value.iface.inj
abbrev Iu:=@Go.Proofs.Tryz.func46
abbrev Iv:=@Go.size_zeroCells
abbrev Iw:=@Go.growslice_fits
abbrev Ix:=@Nat.sub_mul
abbrev Iy:=@Nat.one_mul
abbrev Iz:=@Go.Proofs.Tryz.func96
abbrev IA:=@Go.Proofs.Tryz.func95
abbrev IB:=@decide_eq_true
abbrev IC:=@Go.Proofs.Tryz.func13
abbrev ID:=@Bool.true_and
abbrev IE:=@Nat.lt_irrefl
abbrev IF:=@Go.Calls.mono
abbrev IG:=@Go.cell_one_new
abbrev IH:=@Nat.lt_trans
abbrev II:=@Nat.pow_succ
abbrev IK:=@dif_pos
abbrev IL:=@Nat.sub_self
theorem Z{p:Prop}(h:p):Hid p:=h
def Blk(w:World)(b:Nat)(c:List Value)(t:TypeId):Prop:=w.heap[b]?=some (.cells c.toArray t (0,0))
theorem Blk.lt{w:World}{b:Nat}{c:List Value}{t:TypeId}(h:Blk w b c t):b<w.heap.size:=by
 rcases Lz b w.heap.size with a|a
 .exact a
 .rw[Blk,Ky a] at h;cases h
theorem Blk.cell{w:World}{b:Nat}{c:List Value}{t:TypeId}(h:Blk w b c t)(k:Nat):w.cell? ⟨b,k,none⟩=c[k]?:=by
 rw[Blk] at h;simp[World.cell?,h]
theorem Blk.frozen{w:World}{b:Nat}{c:List Value}{t:TypeId}(h:Blk w b c t)(k:Nat):w.frozen? ⟨b,k,none⟩=false:=by
 rw[Blk] at h;simp[World.frozen?,h]
theorem Blk.of_heap{w a:World}{b:Nat}{c:List Value}{t:TypeId}(h:Blk w b c t)(e:a.heap[b]?=w.heap[b]?):Blk a b c t:=by
 rw[Blk,e];exact h
theorem Blk.drewN{w:World}{b:Nat}{c:List Value}{t:TypeId}(h:Blk w b c t)(n:Nat):Blk (w.drewN n) b c t:=h
theorem Blk.drew{w:World}{b:Nat}{c:List Value}{t:TypeId}(h:Blk w b c t):Blk w.drew b c t:=h
theorem Blk.set{w:World}{b:Nat}{c:List Value}{t:TypeId}(h:Blk w b c t)(k:Nat)(v:Value) :
 Blk (w.setCell ⟨b,k,none⟩ v) b (c.set k v) t:=by
 rw[Blk] at h |-;simp[World.setCell,Array.getElem?_modify,h]
theorem Blk.Gz{w:World}{b:Nat}{c:List Value}{t:TypeId}(h:Blk w b c t){b':Nat}(a:b≠b')(k:Nat)(v:Value) :
 Blk (w.setCell ⟨b',k,none⟩ v) b c t :=
 h.of_heap (Below.heap_setCell _ _ _ _ a)
theorem Blk.alloc{w:World}{b:Nat}{c:List Value}{t:TypeId}(h:Blk w b c t)(o:Obj):Blk (w.alloc o) b c t :=
 h.of_heap (KP _ _ _ h.lt)
theorem Blk.new(w:World)(c:List Value)(t:TypeId):Blk (w.alloc (.cells c.toArray t)) w.heap.size c t :=
 heap_alloc_new w _
theorem Blk.inj{w:World}{b:Nat}{c d:List Value}{t e:TypeId}(h:Blk w b c t)(a:Blk w b d e):c=d/\t=e:=by
 rw[Blk] at h a;rw[h] at a
 simpa using a
theorem Blk.ne{w:World}{b b':Nat}{c d:List Value}{t a:TypeId}(h:Blk w b c t)(f:Blk w b' d a)(g:t≠a):b≠b' :=
 fun e=>g (by subst e;exact(h.inj f).2)
structure Fr(S:Nat->Prop)(w w':World):Prop where
 os:w'.os=w.os
 tape:w'.tape=w.tape
 output:w'.output=w.output
 size:w.heap.size<=w'.heap.size
 block:∀ k,k<w.heap.size->¬S k->w'.heap[k]?=w.heap[k]?
abbrev Nil:Nat->Prop:=fun _=>False
theorem Fr.refl(S:Nat->Prop)(w:World):Fr S w w:=⟨rfl,rfl,rfl,NS _,fun _ _ _=>rfl⟩
theorem Fr.trans{S:Nat->Prop}{a b c:World}(h:Fr S a b)(k:Fr S b c):Fr S a c :=
 ⟨k.os.trans h.os,k.tape.trans h.tape,k.output.trans h.output,NR h.size k.size,
  fun i e g=>(k.block i (Lb e h.size) g).trans (h.block i e g)⟩
theorem Fr.trans'{S S':Nat->Prop}{a b c:World}(h:Fr S a b)(k:Fr S' b c)(o:∀ i,i<a.heap.size->S' i->S i):Fr S a c :=
 ⟨k.os.trans h.os,k.tape.trans h.tape,k.output.trans h.output,NR h.size k.size,
  fun i e g=>(k.block i (Lb e h.size) (fun j=>g (o i e j))).trans (h.block i e g)⟩
theorem Fr.mono{S S':Nat->Prop}{a b:World}(h:Fr S a b)(o:∀ i,i<a.heap.size->S i->S' i):Fr S' a b :=
 ⟨h.os,h.tape,h.output,h.size,fun i c g=>h.block i c (fun e=>g (o i c e))⟩
theorem Fr.drewN{S:Nat->Prop}{a w:World}(h:Fr S a w)(n:Nat):Fr S a (w.drewN n):=⟨h.os,h.tape,h.output,h.size,h.block⟩
theorem Fr.drew{S:Nat->Prop}{a w:World}(h:Fr S a w):Fr S a w.drew:=⟨h.os,h.tape,h.output,h.size,h.block⟩
theorem Fr.alloc{S:Nat->Prop}{a w:World}(h:Fr S a w)(o:Obj):Fr S a (w.alloc o) :=
 ⟨h.os,h.tape,h.output,NR h.size (by simp),fun k c e=>by
  rw[KP _ _ _ (Lb c h.size)];exact h.block k c e⟩
theorem Fr.set{S:Nat->Prop}{a w:World}(h:Fr S a w){p:Addr}(d:p.block<a.heap.size->S p.block)(v:Value):Fr S a (w.setCell p v) :=
 ⟨h.os,h.tape,h.output,by simpa [World.setCell] using h.size,fun k b c=>by
  rw[Below.heap_setCell _ _ _ _ (fun e=>c (by subst e;exact d b))];exact h.block k b c⟩
abbrev O:=@Fr.refl
abbrev U:=@Fr.drewN
abbrev z1:=@Fr.drew
abbrev z6:=@Fr.alloc
abbrev z7:=@Fr.set
theorem z8{S:Nat->Prop}{a b:World}(h:Fr S a b:=by repeat' first|(with_reducible first|apply O|assumption|apply U|apply z1|apply z6|apply z7)|(intro _;rfl)):Fr S a b:=h
theorem Fr.grown{S:Nat->Prop}{a w f:World}{row:Option Nat}(h:Fr S a w)(b:w.grownBy f row)
 (i:∀ k,row=some k->k<a.heap.size->S k):Fr S a f :=
 ⟨b.os.trans h.os,b.tape.trans h.tape,b.output.trans h.output,NR h.size b.size,fun k c d =>
  (b.block k (Lb c h.size) (fun e=>d (i k e.symm c))).trans (h.block k c d)⟩
theorem Fr.Ho{w a:World}{row:Option Nat}(b:w.grownBy a row):Fr (fun k=>row=some k) w a :=
 (Fr.refl _ w).grown b (fun _ h _=>h)
theorem Fr.below{w a:World}(h:Fr Nil w a):Below w.heap.size w a :=
 ⟨h.os,h.tape,h.output,h.size,fun k b=>h.block k b id⟩
theorem Fr.Ge{S:Nat->Prop}{w a:World}(h:Below w.heap.size w a):Fr S w a :=
 ⟨h.os,h.tape,h.output,h.size,fun k b _=>h.block k b⟩
theorem Fr.cell{S:Nat->Prop}{w w':World}(h:Fr S w w'){p:Addr}(c:p.block<w.heap.size)(a:¬S p.block):w'.cell? p=w.cell? p :=
 World.cell?_of_block (w:=w) (h.block p.block c a)
theorem Blk.fr{S:Nat->Prop}{w w':World}{b:Nat}{c:List Value}{t:TypeId}(h:Blk w b c t)(f:Fr S w w')(a:¬S b):Blk w' b c t :=
 h.of_heap (f.block b h.lt a)
theorem za{S:Nat->Prop}{w w':World}{base:Nat}{e:TypeId}{size:Nat}{v:Value}{n:Nat}{m:List Value}
 (h:w.ownsRow base e size v n m)(f:Fr S w w')(t:∀ k,v.ownBlock=some k->¬S k):w'.ownsRow base e size v n m:=by
 refine⟨h.1,?_⟩;rcases h.2 with o|⟨g,a,b,rfl,q,d,r⟩
 .exact .inl o
 .refine .inr ⟨g,a,b,rfl,q,?_,r⟩
  have c:g<w.heap.size:=(MV.1 d).1;rw[f.block g c (t g rfl)];exact d
theorem Z2{w:World}{base:Nat}{e:TypeId}{size:Nat}{v:Value}{n:Nat}{c:List Value}
 (h:w.ownsRow base e size v n c){k:Nat}(a:v.ownBlock=some k):k<w.heap.size:=(h.lt k a).2
theorem zf{w:World}{a:Nat}{e:TypeId}{size:Nat}{v:Value}{n:Nat}{q:List Value}
 (h:w.ownsRow a e size v n q){b:Nat}{c:List Value}{t:TypeId}(i:Blk w b c t)(o:t≠e):v.ownBlock≠some b:=by
 intro f;rcases h.2 with⟨rfl,_⟩|⟨g,j,k,rfl,_,d,_⟩
 .simp[Value.ownBlock] at f
 .simp[Value.ownBlock] at f
  subst f;rw[Blk] at i;rw[i] at d;simp at d;exact o d.2
theorem zN{w:World}{c a:Nat}{e d:TypeId}{size b:Nat}{v l:Value}{n u:Nat}{x j:List Value}
 (h:w.ownsRow c e size v n x)(q:w.ownsRow a d b l u j)(t:e≠d){k:Nat}(f:v.ownBlock=some k):l.ownBlock≠some k:=by
 intro i;rcases h.2 with⟨rfl,_⟩|⟨g,m,o,rfl,_,s,_⟩
 .simp[Value.ownBlock] at f
 .rcases q.2 with⟨rfl,_⟩|⟨g',cap',cur',rfl,_,hg',_⟩
  .simp[Value.ownBlock] at i
  .simp[Value.ownBlock] at f i
   subst f;subst i;rw[s] at hg';have r:e=d:=by simp at hg';exact hg'.2
   exact t r
theorem own_cell?{w:World}{a:Nat}{e:TypeId}{size:Nat}{g n c:Nat}{d:List Value}
 (h:w.ownsRow a e size (.slice (some ⟨g,0,none⟩) n c) n d)(j:Nat)(v:Value)(k:d[j]?=some v):w.cell? ⟨g,j,none⟩=some v:=by
 have f:=h.cells (g:=g) rfl j v k;have b:(⟨g,0,none⟩:Addr).add j=⟨g,j,none⟩:=by unfold Addr.add;split <;> simp_all
 rwa [b] at f
theorem zd{w:World}{base:Nat}{e:TypeId}{size:Nat}{v:Value}{n:Nat}{q:List Value}(h:w.ownsRow base e size v n q) :
 ∃ a c,v=.slice a n c:=by
 rcases h.2 with⟨rfl,o⟩|⟨g,c,l,rfl,_⟩
 .exact⟨_,0,by rw[o]⟩
 .exact⟨_,_,rfl⟩
theorem zq{w:World}{b:Nat}{e:TypeId}{size:Nat}{v:Value}{n:Nat}{i:List Value}(h:w.ownsRow b e size v n i)(k:0<n) :
 ∃ g a,v=.slice (some ⟨g,0,none⟩) n a/\n<=a/\a<=maxLen:=by
 rcases h.2 with⟨rfl,j⟩|⟨g,a,c,rfl,_,_,d,f,_⟩
 .omega
 .exact⟨g,a,rfl,d,f⟩
theorem zu{w:World}{a:Nat}{e:TypeId}{size:Nat}{v:Value}{n:Nat}{d:List Value}(h:w.ownsRow a e size v n d):n<=maxLen:=by
 rcases h.2 with⟨_,f⟩|⟨g,b,c,_,_,_,k,o,_⟩
 .omega
 .omega
def u8s(l:List UInt8):List Value:=l.map fun c=>.int .u8 c.toNat
structure FM where
 bytes:List UInt8
 safe:Nat
abbrev Dir:=List (ByteArray × Nat)
structure DM where
 dir:Dir
 safe:Dir
 IW:List Dir
 file:Nat->FM
 ids:List Nat
 room:Int
 calls:Int
 cut:Int
 fail:Int
 part:Int
 refused:Int
 IZ:Int
 dead:Bool
structure DL where
 Hm:Value
 Hf:Value
 Gm:Value
 Hj:List Value
 fV:Nat->Value
def flat(d:Dir):List Value:=d.flatMap fun e=>[.string e.1,.pointer (some ⟨e.2,0,none⟩)]
theorem ZA(d:Dir):∀ (k:Nat)(h:k<d.length),(flat d)[k*2]?=some (.string d[k].1)/\(flat d)[k*2+1]?=some (.pointer (some ⟨d[k].2,0,none⟩)):=by
 induction d with
 | nil=>intro k h;simp at h
 | cons e d b =>
  intro k h;cases k with
  | zero=>exact⟨rfl,rfl⟩
  | succ k =>
   have:=b k (by simpa using h);have a:(k+1)*2=k*2+2:=by omega
   simp only[flat,LF,a] at this |-;exact this
def zR(d:Dir)(a:ByteArray):Int :=
 match d.findIdx? (fun e=>e.1==a) with
 | some i=>i
 | none=>-1
theorem P8(d:Dir)(a:ByteArray)(k:Nat)(g:k<d.length)(c:∀ j (b:j<d.length),j<k->(d[j].1==a)=false)(f:(d[k].1==a)=true) :
 zR d a=k:=by
 have:d.findIdx? (fun e=>e.1==a)=some k:=by
  rw[List.findIdx?_eq_some_iff_getElem];exact⟨g,f,fun j b=>by have:=c j (by omega) b;simpa using this⟩
 simp[zR,this]
theorem Qh(d:Dir)(a:ByteArray)(c:∀ j (b:j<d.length),(d[j].1==a)=false):zR d a=-1:=by
 have:d.findIdx? (fun e=>e.1==a)=none:=by
  rw[List.findIdx?_eq_none_iff];intro x f;obtain⟨j,b,rfl⟩:=LI f;exact c j b
 simp[zR,this]
theorem Nt{k:IntKind}{a b:Int}(h:a=b):Ending.returned (.int k a)=.returned (.int k b):=by rw[h]
theorem Vy(v:Value)(d:Dir)(b:ByteArray)(w:World)(h:w.ownsRow 0 148 2 v d.length (flat d)) :
 Calls Tryz.prog 87 #[v,.string b] w fun e u=>e=.returned (.int .i64 (zR d b))/\Fr Nil w u:=by
 have A:=zu h;unfold maxLen at A;obtain⟨a,p,rfl⟩:=zd h;go_enter Tryz.func87,Tryz.ntmps87
 go_wp2
 go_loopw [8] (fun t u=>∃ k:Nat,k<=d.length/\t=.int .i64 k/\(∀ j (c:j<d.length),j<k->(d[j].1==b)=false)/\Fr Nil w u) (fun t _=>d.length-(intOf t).toNat)
 case atStart=>exact⟨0,Me _,rfl,fun j _ c=>absurd c (MA _),Fr.refl _ _⟩
 case round =>
  obtain⟨k,D,rfl,c,o⟩:=hrel;by_cases l:k<d.length
  .obtain⟨g,rfl⟩:∃ g,a=some ⟨g,0,none⟩:=by
    rcases h.2 with⟨q,B⟩|⟨g,p,y,q,_⟩
    .omega
    .simp at q;exact⟨g,q.1⟩
   have C:=own_cell? (za h o (fun _ _=>id)) (k*2) _ (ZA d k l).1;have m:=KW d[k].1 b;cases hm:(d[k].1==b) with
   | true =>
    have r:(d[k].1.toList==b.toList)=true:=by rw[<- m];exact hm
    clear m;have s:=P8 d b k l c hm;clear hm c
    go_wp2
    go_ret;exact⟨Nt s.symm,o⟩
   | false =>
    have r:(d[k].1.toList==b.toList)=false:=by rw[<- m];exact hm
    clear m;have i:∀ j (c:j<d.length),j<k+1->(d[j].1==b)=false:=by
     intro j f z;by_cases e:j=k
     .subst e;exact hm
     .exact c j f (by omega)
    clear hm c;have x:=Z i;clear i
    go_wp2
    exact⟨⟨k+1,by omega,by go_num,x.out,o⟩,by simp[intOf];omega⟩
  .have s:=Qh d b (fun j f=>c j f (by omega))
   clear c
   go_wp2
   go_ret;exact⟨Nt s.symm,o⟩
def DM.cells(L:DL)(M:DM):List Value :=
 [L.Hm,L.Hf,L.Gm,.int .i64 M.room,.int .i64 M.calls,.int .i64 M.cut,.int .i64 M.fail,.int .i64 M.part,.int .i64 M.refused,.int .i64 M.IZ,.bool M.dead]
structure DRep(w:World)(b:Nat)(L:DL)(M:DM):Prop where
 IR:Blk w b (M.cells L) 143
 dir:w.ownsRow 0 148 2 L.Hm M.dir.length (flat M.dir)
 safe:w.ownsRow 0 148 2 L.Hf M.safe.length (flat M.safe)
 ch:w.ownsRow 0 145 1 L.Gm M.IW.length L.Hj
 Gj:L.Hj.length=M.IW.length
 IW:∀ i (h1:i<L.Hj.length) (h2:i<M.IW.length),w.ownsRow 0 148 2 L.Hj[i] M.IW[i].length (flat M.IW[i])
 files:∀ f,f∈M.ids->Blk w f [L.fV f,.int .i64 (M.file f).safe] 152
 rows:∀ f,f∈M.ids->w.ownsRow 0 5 1 (L.fV f) (M.file f).bytes.length (u8s (M.file f).bytes)
 sep:∀ f,f∈M.ids->∀ g,g∈M.ids->f≠g->∀ k,(L.fV f).ownBlock=some k->(L.fV g).ownBlock≠some k
 le:∀ f,f∈M.ids->(M.file f).safe<=(M.file f).bytes.length
 Gc:∀ e,e∈M.dir->e.2∈M.ids
 GC:∀ e,e∈M.safe->e.2∈M.ids
 GB:∀ d,d∈M.IW->∀ e,e∈d->e.2∈M.ids
def Foot(b:Nat)(L:DL)(M:DM)(k:Nat):Prop :=
 k=b\/L.Hm.ownBlock=some k\/L.Hf.ownBlock=some k\/L.Gm.ownBlock=some k
  \/ (∃ (i:Nat) (_:i<L.Hj.length),L.Hj[i].ownBlock=some k)\/k∈M.ids\/(∃ f,f∈M.ids/\(L.fV f).ownBlock=some k)
theorem Foot.IR{b:Nat}{L:DL}{M:DM}:Foot b L M b:=.inl rfl
theorem Foot.dir{b:Nat}{L:DL}{M:DM}{k:Nat}(h:L.Hm.ownBlock=some k):Foot b L M k:=.inr (.inl h)
theorem Foot.safe{b:Nat}{L:DL}{M:DM}{k:Nat}(h:L.Hf.ownBlock=some k):Foot b L M k:=.inr (.inr (.inl h))
theorem Foot.ch{b:Nat}{L:DL}{M:DM}{k:Nat}(h:L.Gm.ownBlock=some k):Foot b L M k:=.inr (.inr (.inr (.inl h)))
theorem Foot.IW{b:Nat}{L:DL}{M:DM}{k:Nat}(i:Nat)(a:i<L.Hj.length)(h:L.Hj[i].ownBlock=some k):Foot b L M k:=.inr (.inr (.inr (.inr (.inl ⟨i,a,h⟩))))
theorem Foot.file{b:Nat}{L:DL}{M:DM}{k:Nat}(h:k∈M.ids):Foot b L M k:=.inr (.inr (.inr (.inr (.inr (.inl h)))))
theorem Foot.row{b:Nat}{L:DL}{M:DM}{k:Nat}(f:Nat)(a:f∈M.ids)(h:(L.fV f).ownBlock=some k):Foot b L M k:=.inr (.inr (.inr (.inr (.inr (.inr ⟨f,a,h⟩)))))
theorem Foot.elim{b:Nat}{L:DL}{M:DM}{motive:(k:Nat)->Foot b L M k->Prop}(blk:motive b .IR)
 (dir:∀ {k:Nat}(h:L.Hm.ownBlock=some k),motive k (.dir h))(safe:∀ {k:Nat}(h:L.Hf.ownBlock=some k),motive k (.safe h))
 (ch:∀ {k:Nat}(h:L.Gm.ownBlock=some k),motive k (.ch h))
 (chs:∀ {k:Nat}(i:Nat)(h1:i<L.Hj.length)(h:L.Hj[i].ownBlock=some k),motive k (.IW i h1 h))
 (file:∀ {k:Nat}(h:k∈M.ids),motive k (.file h))(row:∀ {k:Nat}(f:Nat)(hf:f∈M.ids)(h:(L.fV f).ownBlock=some k),motive k (.row f hf h))
 {k:Nat}(h:Foot b L M k):motive k h:=by
 rcases id h with e|e|e|e|⟨i,h1,e⟩|e|⟨f,hf,e⟩
 .subst e;exact blk
 .exact dir e
 .exact safe e
 .exact ch e
 .exact chs i h1 e
 .exact file e
 .exact row f hf e
theorem DRep.lt{w:World}{b:Nat}{L:DL}{M:DM}(h:DRep w b L M){k:Nat}(g:Foot b L M k):k<w.heap.size:=by
 cases g using Foot.elim with
 | blk=>exact h.IR.lt
 | dir e=>exact Z2 h.dir e
 | safe e=>exact Z2 h.safe e
 | ch e=>exact Z2 h.ch e
 | chs i a e=>exact Z2 (h.IW i a (by rw[<- h.Gj];exact a)) e
 | file e=>exact(h.files k e).lt
 | row f c e=>exact Z2 (h.rows f c) e
theorem DRep.fr{w w':World}{b:Nat}{L:DL}{M:DM}{S:Nat->Prop}(h:DRep w b L M)(f:Fr S w w')(a:∀ k,Foot b L M k->¬S k):DRep w' b L M where
 IR:=h.IR.fr f (a _ .IR)
 dir:=za h.dir f fun _ e=>a _ (.dir e)
 safe:=za h.safe f fun _ e=>a _ (.safe e)
 ch:=za h.ch f fun _ e=>a _ (.ch e)
 Gj:=h.Gj
 IW:=fun i j o=>za (h.IW i j o) f fun _ e=>a _ (.IW i j e)
 files:=fun g c=>(h.files g c).fr f (a _ (.file c))
 rows:=fun g c=>za (h.rows g c) f fun _ e=>a _ (.row g c e)
 sep:=h.sep
 le:=h.le
 Gc:=h.Gc
 GC:=h.GC
 GB:=h.GB
theorem DRep.own{w w':World}{b:Nat}{L:DL}{M M':DM}(h:DRep w b L M)(y:Blk w' b (M'.cells L) 143)(f:Fr (fun k=>k=b) w w')
 (q:M'.dir=M.dir)(r:M'.safe=M.safe)(m:M'.IW=M.IW)(o:M'.file=M.file)(c:M'.ids=M.ids):DRep w' b L M' where
 IR:=y
 dir:=by rw[q];exact za h.dir f fun _ e a=>by subst a;exact zf h.dir h.IR (by decide) e
 safe:=by rw[r];exact za h.safe f fun _ e a=>by subst a;exact zf h.safe h.IR (by decide) e
 ch:=by rw[m];exact za h.ch f fun _ e a=>by subst a;exact zf h.ch h.IR (by decide) e
 Gj:=by rw[m];exact h.Gj
 IW:=by
  rw[m];exact fun i t u=>za (h.IW i t u) f fun _ e a=>by subst a;exact zf (h.IW i t u) h.IR (by decide) e
 files:=by rw[o,c];exact fun g j=>(h.files g j).fr f ((h.files g j).ne h.IR (by decide))
 rows:=by rw[o,c];exact fun g j=>za (h.rows g j) f fun _ e a=>by subst a;exact zf (h.rows g j) h.IR (by decide) e
 sep:=by rw[c];exact h.sep
 le:=by rw[o,c];exact h.le
 Gc:=by rw[q,c];exact h.Gc
 GC:=by rw[r,c];exact h.GC
 GB:=by rw[m,c];exact h.GB
def DM.IP(M:DM):Bool × Int × DM :=
 let c:=wrap64 (M.calls+1)
 if M.dead=true then(false,9,{M with calls:=c,refused:=wrap64 (M.refused+1)})
 else if (c==M.cut)=true then(true,9,{M with calls:=c,refused:=wrap64 (M.refused+1),dead:=true})
 else if (c==M.fail)=true then(false,9,{M with calls:=c,refused:=wrap64 (M.refused+1)})
 else(true,0,{M with calls:=c})
theorem DM.GO(M:DM)(a:M.dead=true):M.IP=(false,9,{M with calls:=wrap64 (M.calls+1),refused:=wrap64 (M.refused+1)}):=by
 simp[DM.IP,a]
theorem DM.GU(M:DM)(b:M.dead=false)(a:(wrap64 (M.calls+1)==M.cut)=true) :
 M.IP=(true,9,{M with calls:=wrap64 (M.calls+1),refused:=wrap64 (M.refused+1),dead:=true}):=by
 simp[DM.IP,b,a]
theorem DM.GM(M:DM)(c:M.dead=false)(a:(wrap64 (M.calls+1)==M.cut)=false)(b:(wrap64 (M.calls+1)==M.fail)=true) :
 M.IP=(false,9,{M with calls:=wrap64 (M.calls+1),refused:=wrap64 (M.refused+1)}):=by
 simp[DM.IP,c,a,b]
theorem DM.Fb(M:DM)(c:M.dead=false)(a:(wrap64 (M.calls+1)==M.cut)=false)(b:(wrap64 (M.calls+1)==M.fail)=false) :
 M.IP=(true,0,{M with calls:=wrap64 (M.calls+1)}):=by
 simp[DM.IP,c,a,b]
theorem Qi(w:World)(b:Nat)(L:DL)(M:DM)(h:Blk w b (M.cells L) 143) :
 Calls Tryz.prog 209 #[.pointer (some ⟨b,0,none⟩)] w fun e f =>
  e=.returned (.tuple #[.bool M.IP.1,.int .i64 M.IP.2.1])/\Blk f b (M.IP.2.2.cells L) 143/\Fr (fun k=>k=b) w f:=by
 have d:=h.cell;have g:=h.frozen;have a:=Z h;clear h;simp only[DM.cells] at d;cases hd:M.dead with
 | true =>
  rw[hd] at d;rw[M.GO hd];have c:=Z hd;clear hd;go_enter Ie,JP
  go_wp2
  go_ret2;refine⟨rfl,?_,(by repeat' first|exact Fr.refl _ _|(with_reducible assumption)|refine Fr.drewN ?_ _|refine Fr.drew ?_|refine Fr.alloc ?_ _|refine Fr.set ?_ ?_ _|(intro _;rfl))⟩;have:=(a.out.set 4 (.int .i64 (wrap64 (M.calls+1)))).set 8 (.int .i64 (wrap64 (M.refused+1)));exact this
 | false =>
  rw[hd] at d;cases h1:(wrap64 (M.calls+1)==M.cut) with
  | true =>
   rw[M.GU hd h1];have c:=Z hd;clear hd;go_enter Ie,JP
   go_wp2
   go_quiet (fail)
   go_wp2
   go_ret2;refine⟨rfl,?_,(by repeat' first|exact Fr.refl _ _|(with_reducible assumption)|refine Fr.drewN ?_ _|refine Fr.drew ?_|refine Fr.alloc ?_ _|refine Fr.set ?_ ?_ _|(intro _;rfl))⟩;have:=((a.out.set 4 (.int .i64 (wrap64 (M.calls+1)))).set 8 (.int .i64 (wrap64 (M.refused+1)))).set 10 (.bool true);exact this
  | false =>
   cases h2:(wrap64 (M.calls+1)==M.fail) with
   | true =>
    rw[M.GM hd h1 h2];have c:=Z hd;clear hd;go_enter Ie,JP
    go_wp2
    go_quiet (fail)
    go_wp2
    go_quiet (fail)
    go_wp2
    go_ret2;refine⟨rfl,?_,(by repeat' first|exact Fr.refl _ _|(with_reducible assumption)|refine Fr.drewN ?_ _|refine Fr.drew ?_|refine Fr.alloc ?_ _|refine Fr.set ?_ ?_ _|(intro _;rfl))⟩;have:=(a.out.set 4 (.int .i64 (wrap64 (M.calls+1)))).set 8 (.int .i64 (wrap64 (M.refused+1)));exact this
   | false =>
    rw[M.Fb hd h1 h2];have c:=Z hd;clear hd;go_enter Ie,JP
    go_wp2
    go_quiet (fail)
    go_wp2
    go_quiet (fail)
    go_wp2
    go_ret2;refine⟨rfl,?_,(by repeat' first|exact Fr.refl _ _|(with_reducible assumption)|refine Fr.drewN ?_ _|refine Fr.drew ?_|refine Fr.alloc ?_ _|refine Fr.set ?_ ?_ _|(intro _;rfl))⟩;have:=a.out.set 4 (.int .i64 (wrap64 (M.calls+1)));exact this
theorem TN(w:World)(b:Nat)(L:DL)(M:DM)(h:DRep w b L M) :
 Calls Tryz.prog 209 #[.pointer (some ⟨b,0,none⟩)] w fun e a =>
  e=.returned (.tuple #[.bool M.IP.1,.int .i64 M.IP.2.1])/\DRep a b L M.IP.2.2/\Fr (fun k=>k=b) w a:=by
 refine(Qi w b L M h.IR).mono fun e a ⟨d,f,c⟩=>⟨d,?_,c⟩;refine h.own f c ?_ ?_ ?_ ?_ ?_ <;> (unfold DM.IP;dsimp only;(repeat' split) <;> rfl)
def DM.new(a:Int):DM:={dir:=[],safe:=[],IW:=[],file:=fun _=>⟨[],0⟩,ids:=[],room:=a,calls:=0,cut:=0,fail:=0,part:=0,refused:=0,IZ:=0,dead:=false}
def DL.new:DL:={Hm:=.slice none 0 0,Hf:=.slice none 0 0,Gm:=.slice none 0 0,Hj:=[],fV:=fun _=>.slice none 0 0}
theorem DRep.new{w:World}{b:Nat}{c:Int}(h:Blk w b ((DM.new c).cells DL.new) 143):DRep w b DL.new (DM.new c) where
 IR:=h
 dir:=Mo w 0 _ _
 safe:=Mo w 0 _ _
 ch:=Mo w 0 _ _
 Gj:=rfl
 IW:=fun i a=>absurd a (MA _)
 files:=fun f a=>by cases a
 rows:=fun f a=>by cases a
 sep:=fun f a=>by cases a
 le:=fun f a=>by cases a
 Gc:=fun f a=>by cases a
 GC:=fun f a=>by cases a
 GB:=fun f a=>by cases a
theorem P9(a:Int)(w:World) :
 Calls Tryz.prog 50 #[.int .i64 a] w fun e b=>e=.returned (.pointer (some ⟨w.heap.size,0,none⟩))/\DRep b w.heap.size DL.new (DM.new a)/\Fr Nil w b/\b.heap.size=w.heap.size+1:=by
 go_enter Tryz.func50,Tryz.ntmps50
 go_wp2
 go_ret;exact⟨rfl,DRep.new (Blk.new _ _ _),(by repeat' first|exact Fr.refl _ _|(with_reducible assumption)|refine Fr.drewN ?_ _|refine Fr.drew ?_|refine Fr.alloc ?_ _|refine Fr.set ?_ ?_ _|(intro _;rfl)),by simp⟩
theorem Qj(w:World)(b:Nat)(L:DL)(M:DM)(h:DRep w b L M) :
 Calls Tryz.prog 38 #[.pointer (some ⟨b,0,none⟩)] w fun e c=>e=.returned (.bool M.dead)/\c=w:=by
 have a:=h.IR.cell;simp only[DM.cells] at a;go_enter Tryz.func38,Tryz.ntmps38
 go_wp2
 go_ret;exact⟨rfl,rfl⟩
theorem YQ(w:World)(b:Nat)(L:DL)(M:DM)(h:DRep w b L M) :
 Calls Tryz.prog 47 #[.pointer (some ⟨b,0,none⟩)] w fun e c=>e=.returned (.int .i64 M.refused)/\c=w:=by
 have a:=h.IR.cell;simp only[DM.cells] at a;go_enter Tryz.func47,Tryz.ntmps47
 go_wp2
 go_ret;exact⟨rfl,rfl⟩
def DM.Hr(M:DM)(n:Int):DM:={M with cut:=if 0<n then wrap64 (M.calls+n) else 0}
theorem Us(n:Int)(w:World)(b:Nat)(L:DL)(M:DM)(h:DRep w b L M) :
 Calls Tryz.prog 37 #[.pointer (some ⟨b,0,none⟩),.int .i64 n] w fun e d =>
  e=.returned (.tuple #[])/\DRep d b L (M.Hr n)/\Fr (fun k=>k=b) w d:=by
 have f:=h.IR.cell;have g:=h.IR.frozen;simp only[DM.cells] at f;have a:=Z h;clear h;by_cases c:0<n
 .have HM:Hid (M.Hr n={M with cut:=wrap64 (M.calls+n)}):=by simp[Hid,DM.Hr,c]
  go_enter Tryz.func37,Tryz.ntmps37
  go_wp2
  go_end0
  rw[HM.out];refine⟨rfl,a.out.own ?_ (by repeat' first|exact Fr.refl _ _|(with_reducible assumption)|refine Fr.drewN ?_ _|refine Fr.drew ?_|refine Fr.alloc ?_ _|refine Fr.set ?_ ?_ _|(intro _;rfl)) rfl rfl rfl rfl rfl,(by repeat' first|exact Fr.refl _ _|(with_reducible assumption)|refine Fr.drewN ?_ _|refine Fr.drew ?_|refine Fr.alloc ?_ _|refine Fr.set ?_ ?_ _|(intro _;rfl))⟩;have:=(a.out.IR.set 5 (.int .i64 0)).set 5 (.int .i64 (wrap64 (M.calls+n)));exact this
 .have HM:Hid (M.Hr n={M with cut:=0}):=by simp[Hid,DM.Hr,c]
  go_enter Tryz.func37,Tryz.ntmps37
  go_wp2
  go_end0
  rw[HM.out];refine⟨rfl,a.out.own ?_ (by repeat' first|exact Fr.refl _ _|(with_reducible assumption)|refine Fr.drewN ?_ _|refine Fr.drew ?_|refine Fr.alloc ?_ _|refine Fr.set ?_ ?_ _|(intro _;rfl)) rfl rfl rfl rfl rfl,(by repeat' first|exact Fr.refl _ _|(with_reducible assumption)|refine Fr.drewN ?_ _|refine Fr.drew ?_|refine Fr.alloc ?_ _|refine Fr.set ?_ ?_ _|(intro _;rfl))⟩;have:=(a.out.IR.set 5 (.int .i64 0));exact this
def DM.Hi(M:DM)(n a:Int):DM:={M with fail:=if 0<n then wrap64 (M.calls+n) else 0,part:=if a<0 then wrap64 (-(wrap64 (a+1))) else a}
theorem XY(n a:Int)(w:World)(b:Nat)(L:DL)(M:DM)(h:DRep w b L M) :
 Calls Tryz.prog 46 #[.pointer (some ⟨b,0,none⟩),.int .i64 n,.int .i64 a] w fun e g =>
  e=.returned (.tuple #[])/\DRep g b L (M.Hi n a)/\Fr (fun k=>k=b) w g:=by
 have i:=h.IR.cell;have j:=h.IR.frozen;simp only[DM.cells] at i;have c:=Z h;clear h;by_cases d:0<n <;> by_cases f:a<0
 .have HM:Hid (M.Hi n a={M with fail:=wrap64 (M.calls+n),part:=wrap64 (-(wrap64 (a+1)))}):=by simp[Hid,DM.Hi,d,f]
  go_enter Iu,Ig
  go_wp2
  go_end0
  rw[HM.out];refine⟨rfl,c.out.own ?_ (by repeat' first|exact Fr.refl _ _|(with_reducible assumption)|refine Fr.drewN ?_ _|refine Fr.drew ?_|refine Fr.alloc ?_ _|refine Fr.set ?_ ?_ _|(intro _;rfl)) rfl rfl rfl rfl rfl,(by repeat' first|exact Fr.refl _ _|(with_reducible assumption)|refine Fr.drewN ?_ _|refine Fr.drew ?_|refine Fr.alloc ?_ _|refine Fr.set ?_ ?_ _|(intro _;rfl))⟩;have:=(((c.out.IR.set 6 (.int .i64 0)).set 6 (.int .i64 (wrap64 (M.calls+n)))).set 7 (.int .i64 a)).set 7 (.int .i64 (wrap64 (-(wrap64 (a+1)))));exact this
 .have HM:Hid (M.Hi n a={M with fail:=wrap64 (M.calls+n),part:=a}):=by simp[Hid,DM.Hi,d,f]
  go_enter Iu,Ig
  go_wp2
  go_end0
  rw[HM.out];refine⟨rfl,c.out.own ?_ (by repeat' first|exact Fr.refl _ _|(with_reducible assumption)|refine Fr.drewN ?_ _|refine Fr.drew ?_|refine Fr.alloc ?_ _|refine Fr.set ?_ ?_ _|(intro _;rfl)) rfl rfl rfl rfl rfl,(by repeat' first|exact Fr.refl _ _|(with_reducible assumption)|refine Fr.drewN ?_ _|refine Fr.drew ?_|refine Fr.alloc ?_ _|refine Fr.set ?_ ?_ _|(intro _;rfl))⟩;have:=(((c.out.IR.set 6 (.int .i64 0)).set 6 (.int .i64 (wrap64 (M.calls+n)))).set 7 (.int .i64 a));exact this
 .have HM:Hid (M.Hi n a={M with fail:=0,part:=wrap64 (-(wrap64 (a+1)))}):=by simp[Hid,DM.Hi,d,f]
  go_enter Iu,Ig
  go_wp2
  go_end0
  rw[HM.out];refine⟨rfl,c.out.own ?_ (by repeat' first|exact Fr.refl _ _|(with_reducible assumption)|refine Fr.drewN ?_ _|refine Fr.drew ?_|refine Fr.alloc ?_ _|refine Fr.set ?_ ?_ _|(intro _;rfl)) rfl rfl rfl rfl rfl,(by repeat' first|exact Fr.refl _ _|(with_reducible assumption)|refine Fr.drewN ?_ _|refine Fr.drew ?_|refine Fr.alloc ?_ _|refine Fr.set ?_ ?_ _|(intro _;rfl))⟩;have:=(((c.out.IR.set 6 (.int .i64 0))).set 7 (.int .i64 a)).set 7 (.int .i64 (wrap64 (-(wrap64 (a+1)))));exact this
 .have HM:Hid (M.Hi n a={M with fail:=0,part:=a}):=by simp[Hid,DM.Hi,d,f]
  go_enter Iu,Ig
  go_wp2
  go_end0
  rw[HM.out];refine⟨rfl,c.out.own ?_ (by repeat' first|exact Fr.refl _ _|(with_reducible assumption)|refine Fr.drewN ?_ _|refine Fr.drew ?_|refine Fr.alloc ?_ _|refine Fr.set ?_ ?_ _|(intro _;rfl)) rfl rfl rfl rfl rfl,(by repeat' first|exact Fr.refl _ _|(with_reducible assumption)|refine Fr.drewN ?_ _|refine Fr.drew ?_|refine Fr.alloc ?_ _|refine Fr.set ?_ ?_ _|(intro _;rfl))⟩;have:=(((c.out.IR.set 6 (.int .i64 0))).set 7 (.int .i64 a));exact this
def Dir.look(d:Dir)(a:ByteArray):Option Nat:=(d.find? fun e=>e.1==a).map (·.2)
theorem ZH(d:Dir)(a:ByteArray) :
 (zR d a=-1/\Dir.look d a=none)\/∃ k:Nat,∃ h:k<d.length,zR d a=k/\Dir.look d a=some d[k].2/\(d[k].1==a)=true:=by
 unfold zR Dir.look;cases hf:d.findIdx? (fun e=>e.1==a) with
 | none =>
  rw[List.findIdx?_eq_none_iff] at hf;refine .inl ⟨rfl,?_⟩;rw[Ke.2 (fun x l=>by simpa using hf x l)]
  rfl
 | some k =>
  rw[List.findIdx?_eq_some_iff_getElem] at hf;obtain⟨f,c,g⟩:=hf;refine .inr ⟨k,f,rfl,?_,c⟩;rw[(List.find?_eq_some_iff_getElem (xs:=d) (b:=d[k])).2 ⟨c,k,f,rfl,fun j i=>by simpa using g j i⟩]
  rfl
theorem Yg{v:Value}{d:Dir}{a:ByteArray}(c:zR d a=-1)(w:World)(h:w.ownsRow 0 148 2 v d.length (flat d)) :
 Calls Tryz.prog 87 #[v,.string a] w fun e g=>e=.returned (.int .i64 (-1))/\Fr Nil w g:=by
 have:=Vy v d a w h
 rwa [c] at this
theorem zU{v:Value}{d:Dir}{a:ByteArray}{k:Nat}(b:zR d a=k)(w:World)(h:w.ownsRow 0 148 2 v d.length (flat d)) :
 Calls Tryz.prog 87 #[v,.string a] w fun e c=>e=.returned (.int .i64 k)/\Fr Nil w c:=by
 have:=Vy v d a w h
 rwa [b] at this
def DM.size(M:DM)(a:ByteArray):Int × Int :=
 match M.dir.look a with
 | some f=>((M.file f).bytes.length,0)
 | none=>(0,11)
theorem DRep.entry{w:World}{b:Nat}{L:DL}{M:DM}(h:DRep w b L M){k:Nat}(j:k<M.dir.length) :
 ∃ g e n c,L.Hm=.slice (some ⟨g,0,none⟩) M.dir.length e/\M.dir[k].2∈M.ids/\w.cell? ⟨g,k*2,none⟩=some (.string M.dir[k].1) /\
  w.cell? ⟨g,k*2+1,none⟩=some (.pointer (some ⟨M.dir[k].2,0,none⟩)) /\
  L.fV M.dir[k].2=.slice n (M.file M.dir[k].2).bytes.length c:=by
 obtain⟨g,e,m,_⟩:=zq h.dir (by omega);have i:=h.dir;rw[m] at i;have l:=h.Gc _ (NV j);obtain⟨a,c,o⟩:=zd (h.rows _ l);exact⟨g,e,a,c,m,l,own_cell? i _ _ (ZA _ k j).1,own_cell? i _ _ (ZA _ k j).2,o⟩
theorem Vz(a:ByteArray)(w:World)(b:Nat)(L:DL)(M:DM)(h:DRep w b L M) :
 Calls Tryz.prog 188 #[.pointer (some ⟨b,0,none⟩),.string a] w fun e x =>
  e=.returned (.tuple #[.int .i64 (M.size a).1,.int .i64 (M.size a).2])/\Fr Nil w x:=by
 have i:=h.IR.cell;simp only[DM.cells] at i;have p:=Z h;have j:=zu h.dir;unfold maxLen at j;rcases ZH M.dir a with⟨d,f⟩|⟨k,v,d,f,_⟩
 .have HM:Hid (M.size a=(0,11)):=by simp[Hid,DM.size,f]
  have o:=Z d;clear h d f;go_enter Tryz.func188,Tryz.ntmps188
  go_wp2_with (go_at_call 87;refine(Yg o.out _ p.out.dir).mono ?_;rintro e y ⟨rfl,m⟩)
  go_ret2;rw[HM.out];exact⟨rfl,m⟩
 .have HM:Hid (M.size a=(((M.file M.dir[k].2).bytes.length:Int),(0:Int))):=by simp[Hid,DM.size,f]
  have o:=Z d;clear h d f;go_enter Tryz.func188,Tryz.ntmps188;go_wp2_with fail;refine(zU o.out _ p.out.dir).mono ?_;rintro e y ⟨rfl,m⟩;have l:=p.out.fr m (fun _ _=>id);clear i;have i:=l.IR.cell;simp only[DM.cells] at i;obtain⟨g,t,n,c,s,u,_,z,r⟩:=l.entry v;have q:=(l.files _ u).cell;rw[r] at q;rw[s] at i;clear r s l
  go_wp2
  go_ret2;rw[HM.out];exact⟨rfl,m⟩
def DM.Gr(M:DM)(k:Nat):Int:=(M.dir.take k).foldl (fun n e=>wrap64 (n+(M.file e.2).bytes.length)) 0
def DM.used(M:DM):Int:=M.Gr M.dir.length
theorem DM.GQ(M:DM)(k:Nat)(h:k<M.dir.length):M.Gr (k+1)=wrap64 (M.Gr k+(M.file M.dir[k].2).bytes.length):=by
 unfold DM.Gr;rw[Mq h,Lj]
 rfl
theorem Qk(w:World)(b:Nat)(L:DL)(M:DM)(h:DRep w b L M) :
 Calls Tryz.prog 41 #[.pointer (some ⟨b,0,none⟩)] w fun e p=>e=.returned (.int .i64 M.used)/\Fr Nil w p:=by
 have j:=h.IR.cell;simp only[DM.cells] at j;have d:=zu h.dir;unfold maxLen at d;obtain⟨a,u,o⟩:=zd h.dir;rw[o] at j;have q:=Z h;have s:=Z o;clear h o;go_enter Tryz.func41,Tryz.ntmps41
 go_wp2
 clear j
 go_loopw [3,11] (fun n t p=>∃ k:Nat,k<=M.dir.length/\t=.int .i64 k/\n=.int .i64 (M.Gr k)/\Fr Nil w p) (fun _ t _=>M.dir.length-(intOf t).toNat)
 case atStart=>exact⟨0,Me _,rfl,rfl,Fr.refl _ _⟩
 case round =>
  obtain⟨k,y,rfl,rfl,m⟩:=hrel;have i:=q.out.fr m (fun _ _=>id);by_cases f:k<M.dir.length
  .obtain⟨g,cap',n,c,hv',hi,he,hp,hs⟩:=i.entry f
   rw[s.out] at hv';simp at hv';obtain⟨rfl,rfl⟩:=hv';have l:=(i.files _ hi).cell;rw[hs] at l;have r:=Z (M.GQ k f);have v:=(i.files _ hi).lt;have x:=World.block_lt_of_cell? _ _ he;clear hs i
   go_wp2
   exact⟨⟨k+1,by omega,by go_num,by rw[r.out],m.alloc _⟩,by simp[intOf];omega⟩
  .go_wp2
   go_ret;have:k=M.dir.length:=by omega
   subst this;exact⟨rfl,m⟩
def zk(l:List UInt8):ByteArray:=⟨l.toArray⟩
def DM.read(M:DM)(b:ByteArray)(a n:Int):ByteArray × Int :=
 match M.dir.look b with
 | none=>(ByteArray.empty,11)
 | some f =>
  if 0<=a/\0<=n/\a<=(M.file f).bytes.length/\n<=(M.file f).bytes.length-a then
   (zk (((M.file f).bytes.drop a.toNat).take n.toNat),0)
  else(ByteArray.empty,12)
theorem Pa(a:ByteArray)(x n:Int)(w:World)(b:Nat)(L:DL)(M:DM)(h:DRep w b L M)(c:zR M.dir a=-1)(d:M.dir.look a=none) :
 Calls Tryz.prog 189 #[.pointer (some ⟨b,0,none⟩),.string a,.int .i64 x,.int .i64 n] w fun e l =>
  e=.returned (.tuple #[.string (M.read a x n).1,.int .i64 (M.read a x n).2])/\Fr Nil w l:=by
 have j:=h.IR.cell;simp only[DM.cells] at j;have g:=Z h;have i:Hid (M.read a x n=(ByteArray.empty,(11:Int))):=by simp[Hid,DM.read,d]
 have f:=Z c;clear h c d;go_enter Ih,JQ
 go_wp2_with (go_at_call 87;refine(Yg f.out _ g.out.dir).mono ?_;rintro e m ⟨rfl,k⟩)
 go_ret2;rw[i.out];exact⟨rfl,k⟩
theorem Of(a:ByteArray)(x n:Int)(w:World)(b:Nat)(L:DL)(M:DM)(h:DRep w b L M)(k:Nat)(v:k<M.dir.length)(s:zR M.dir a=k)(t:M.dir.look a=some M.dir[k].2)
 (A:¬(0<=x/\0<=n/\x<=(M.file M.dir[k].2).bytes.length/\n<=(M.file M.dir[k].2).bytes.length-x)) :
 Calls Tryz.prog 189 #[.pointer (some ⟨b,0,none⟩),.string a,.int .i64 x,.int .i64 n] w fun e G =>
  e=.returned (.tuple #[.string (M.read a x n).1,.int .i64 (M.read a x n).2])/\Fr Nil w G:=by
 have f:=h.IR.cell;simp only[DM.cells] at f;have q:=Z h;have i:=zu h.dir;have d:=zu (h.rows _ (h.Gc _ (NV v)));unfold maxLen at i d;have C:Hid (M.read a x n=(ByteArray.empty,(12:Int))):=by simp only[Hid,DM.read,t];rw[Ma A]
 have B:=Z s;clear h s t;have j:x<0\/(0<=x/\n<0)\/(0<=x/\0<=n/\((M.file M.dir[k].2).bytes.length:Int)<x)\/(0<=x/\0<=n/\x<=((M.file M.dir[k].2).bytes.length:Int)/\((M.file M.dir[k].2).bytes.length:Int)-x<n):=by omega
 clear A;rcases j with o|⟨o,r⟩|⟨o,r,D⟩|⟨o,r,D,I⟩
 all_goals
  go_enter Ih,JQ;go_wp2_with fail;refine(zU B.out _ q.out.dir).mono ?_;rintro e K ⟨rfl,u⟩;have l:=q.out.fr u (fun _ _=>id);clear f;have f:=l.IR.cell;simp only[DM.cells] at f;obtain⟨g,E,m,c,z,F,_,J,y⟩:=l.entry v;have p:=(l.files _ F).cell;rw[y] at p;rw[z] at f;clear y z l
  go_wp2
  go_ret2;rw[C.out];exact⟨rfl,u⟩
theorem TO{P:Program}{t e u:TypeId}(B:P.underlying t=some (.slice e))(y:P.underlying e=some (.int .u8))(C:P.underlying u=some .string)
 {w:World}{g n i:Nat}{d:List UInt8}(h:w.ownsRow 0 5 1 (.slice (some ⟨g,0,none⟩) n i) n (u8s d))(x m c:Nat)(E:x+m<=d.length) :
 (convert t u (.slice (some ⟨g,x,none⟩) m c)).run P w=.ok (.string (zk ((d.drop x).take m))) w:=by
 have A:(loadCells ⟨g,x,none⟩ m).run P w=.ok ((((d.drop x).take m).map fun c:UInt8=>(c.toNat:Int)).map (Value.int .u8)).toArray w:=by
  have q:=run_loadCells_list (P:=P) w ⟨g,x,none⟩ ((((d.drop x).take m).map fun c:UInt8=>(c.toNat:Int)).map (Value.int .u8)) (by
   intro j v k;have z:j<m:=by
    rcases Lz j m with p|p
    .exact p
    .rw[KD (by simp;omega)] at k;cases k
   have f:(⟨g,x,none⟩:Addr).add j=⟨g,x+j,none⟩:=by unfold Addr.add;split <;> simp_all
   rw[f];refine own_cell? h _ _ ?_;rw[<- k];simp[u8s,z,List.getElem?_drop]
   rfl)
  have s:((((d.drop x).take m).map fun c:UInt8=>(c.toNat:Int)).map (Value.int .u8)).length=m:=by simp;omega
  rw[s] at q;exact q
 rw[run_convert_bytes_string w t u e _ m c B y C,run_bytesToString w _ m c _ A]
 congr 2
 have o:∀ (l:List UInt8) (b:ByteArray),(l.map fun c:UInt8=>(c.toNat:Int)).foldl (fun r n=>r.push (UInt8.ofNat n.toNat)) b=⟨(b.data.toList++l).toArray⟩:=by
  intro l
  induction l with
  | nil=>intro b;simp
  | cons a l D =>
   intro b;simp only[Mf,LA];rw[D];simp[ByteArray.push]
 rw[o]
 rfl
theorem Pb(a:ByteArray)(x n:Nat)(w:World)(b:Nat)(L:DL)(M:DM)(h:DRep w b L M)(k:Nat)(B:k<M.dir.length)(v:zR M.dir a=k)(y:M.dir.look a=some M.dir[k].2)
 (N:x+n<=(M.file M.dir[k].2).bytes.length)(Y:0<n) :
 Calls Tryz.prog 189 #[.pointer (some ⟨b,0,none⟩),.string a,.int .i64 x,.int .i64 n] w fun e Q =>
  e=.returned (.tuple #[.string (M.read a x n).1,.int .i64 (M.read a x n).2])/\Fr Nil w Q:=by
 have i:=h.IR.cell;simp only[DM.cells] at i;have r:=Z h;have j:=zu h.dir;have d:=zu (h.rows _ (h.Gc _ (NV B)));unfold maxLen at j d;have E:Hid (M.read a x n=(zk (((M.file M.dir[k].2).bytes.drop x).take n),(0:Int))):=by simp only[Hid,DM.read,y];rw[Mg (by omega)];simp
 have D:=Z v;clear h v y;have R:¬(x:Int)<0:=by omega
 have S:¬(n:Int)<0:=by omega
 have T:¬((M.file M.dir[k].2).bytes.length:Int)<x:=by omega
 have V:¬((M.file M.dir[k].2).bytes.length:Int)-x<n:=by omega
 go_enter Ih,JQ;go_wp2_with fail;refine(zU D.out _ r.out.dir).mono ?_;rintro e w1 ⟨rfl,z⟩;have f:=r.out.fr z (fun _ _=>id);clear i;have i:=f.IR.cell;simp only[DM.cells] at i;obtain⟨g,F,m,c,C,A,_,hp,K⟩:=f.entry B;have o:=f.rows _ A;obtain⟨X,s,l,G,q⟩:=zq o (by omega);have p:=(f.files _ A).cell;rw[l] at p o;rw[C] at i;unfold maxLen at q;have J:¬s=x:=by omega
 have I:=TO (P:=Tryz.prog) (t:=150) (u:=9) MW JV Lt o x n (s-x) N;clear K C f o l
 go_wp2
 go_ret2;rw[E.out];exact⟨rfl,z⟩
theorem Pc{P:Program}{t e u:TypeId}(d:P.underlying t=some (.slice e))(b:P.underlying e=some (.int .u8))(f:P.underlying u=some .string)
 (w:World)(a:Option Addr)(c:Nat):(convert t u (.slice a 0 c)).run P w=.ok (.string ByteArray.empty) w:=by
 rw[run_convert_bytes_string w t u e _ 0 c d b f];cases a with
 | none=>rfl
 | some a=>exact run_bytesToString w a 0 c [] (by rfl)
theorem Pd(a:ByteArray)(x:Nat)(w:World)(b:Nat)(L:DL)(M:DM)(h:DRep w b L M)(k:Nat)(z:k<M.dir.length)(d:zR M.dir a=k)(p:M.dir.look a=some M.dir[k].2)
 (T:x<=(M.file M.dir[k].2).bytes.length) :
 Calls Tryz.prog 189 #[.pointer (some ⟨b,0,none⟩),.string a,.int .i64 x,.int .i64 0] w fun e I =>
  e=.returned (.tuple #[.string (M.read a x 0).1,.int .i64 (M.read a x 0).2])/\Fr Nil w I:=by
 have l:=h.IR.cell;simp only[DM.cells] at l;have s:=Z h;have o:=zu h.dir;have i:=zu (h.rows _ (h.Gc _ (NV z)));unfold maxLen at o i;have D:Hid (M.read a x 0=(ByteArray.empty,(0:Int))):=by simp only[Hid,DM.read,p];rw[Mg (by omega)];simp[zk];rfl
 have C:=Z d;clear h d p;have K:¬(x:Int)<0:=by omega
 have N:¬((M.file M.dir[k].2).bytes.length:Int)<x:=by omega
 have Q:¬((M.file M.dir[k].2).bytes.length:Int)-x<0:=by omega
 go_enter Ih,JQ;go_wp2_with fail;refine(zU C.out _ s.out.dir).mono ?_;rintro e J ⟨rfl,v⟩;have j:=s.out.fr v (fun _ _=>id);clear l;have l:=j.IR.cell;simp only[DM.cells] at l;obtain⟨g,E,m,c,B,y,_,S,q⟩:=j.entry z;have A:=j.rows _ y;have f:(M.file M.dir[k].2).bytes.length<=c/\c<=maxLen:=by
  rcases A.2 with⟨d,p⟩|⟨_,_,_,d,_,_,p,R,_⟩
  .rw[q] at d;simp at d;omega
  .rw[q] at d;simp at d;omega
 unfold maxLen at f;obtain⟨f,F⟩:=f;have r:=(j.files _ y).cell;rw[q] at r;rw[B] at l;have G:=Pc (P:=Tryz.prog) (t:=150) (u:=9) MW JV Lt J;clear q B j A
 go_wp2
 all_goals
  go_ret2;rw[D.out];exact⟨rfl,v⟩
theorem Ql(f:ByteArray)(x n:Int)(w:World)(b:Nat)(L:DL)(M:DM)(h:DRep w b L M) :
 Calls Tryz.prog 189 #[.pointer (some ⟨b,0,none⟩),.string f,.int .i64 x,.int .i64 n] w fun e m =>
  e=.returned (.tuple #[.string (M.read f x n).1,.int .i64 (M.read f x n).2])/\Fr Nil w m:=by
 rcases ZH M.dir f with⟨g,i⟩|⟨k,j,g,i,_⟩
 .exact Pa f x n w b L M h g i
 .by_cases hx:0<=x/\0<=n/\x<=(M.file M.dir[k].2).bytes.length/\n<=(M.file M.dir[k].2).bytes.length-x
  .obtain⟨a,b',c,d⟩:=hx
   obtain⟨x,rfl⟩:=Mx a;obtain⟨n,rfl⟩:=Mx b';rcases Kf n with rfl|l
   .exact Pd f x w b L M h k j g i (by omega)
   .exact Pb f x n w b L M h k j g i (by omega) l
  .exact Of f x n w b L M h k j g i hx
structure DStep(b:Nat)(L:DL)(M:DM)(w:World)(L':DL)(M':DM)(w':World):Prop where
 Hl:DRep w' b L' M'
 fr:Fr (Foot b L M) w w'
 Hw:∀ k,Foot b L' M' k->Foot b L M k\/w.heap.size<=k
theorem DStep.trans{b:Nat}{c e g:DL}{l o q:DM}{s w2 t:World}(h:DStep b c l s e o w2)(k:DStep b e o w2 g q t):DStep b c l s g q t where
 Hl:=k.Hl
 fr:=h.fr.trans' k.fr (fun i r x=>by
  rcases h.Hw i x with a|a
  .exact a
  .omega)
 Hw:=fun i r=>by
  rcases k.Hw i r with a|a
  .exact h.Hw i a
  .exact .inr (NR h.fr.size a)
theorem DStep.own{b:Nat}{L:DL}{M M':DM}{w w':World}(h:DRep w' b L M')(f:Fr (fun k=>k=b) w w')
 (a:M'.ids=M.ids):DStep b L M w L M' w' where
 Hl:=h
 fr:=f.mono (fun k _ e=>by subst e;exact .IR)
 Hw:=fun k j=>.inl (by
  cases j using Foot.elim with
  | blk=>exact .IR
  | dir e=>exact .dir e
  | safe e=>exact .safe e
  | ch e=>exact .ch e
  | chs i c e=>exact .IW i c e
  | file e=>exact .file (a▸e)
  | row f g e=>exact .row f (a▸g) e)
theorem DM.IV(M:DM):M.IP.2.2.dir=M.dir/\M.IP.2.2.safe=M.safe/\M.IP.2.2.IW=M.IW/\M.IP.2.2.file=M.file/\M.IP.2.2.ids=M.ids /\
 M.IP.2.2.room=M.room/\M.IP.2.2.part=M.part/\M.IP.2.2.IZ=M.IZ/\M.IP.2.2.cut=M.cut/\M.IP.2.2.fail=M.fail:=by
 unfold DM.IP;dsimp only;(repeat' split) <;> exact⟨rfl,rfl,rfl,rfl,rfl,rfl,rfl,rfl,rfl,rfl⟩
theorem DM.Gp(M:DM):M.IP.2.1=0\/M.IP.2.1=9:=by
 unfold DM.IP;dsimp only;(repeat' split) <;> simp
theorem zQ(w:World)(b:Nat)(L:DL)(M:DM)(h:DRep w b L M) :
 Calls Tryz.prog 209 #[.pointer (some ⟨b,0,none⟩)] w fun e w' =>
  e=.returned (.tuple #[.bool M.IP.1,.int .i64 M.IP.2.1])/\DStep b L M w L M.IP.2.2 w' :=
 (TN w b L M h).mono fun _ _ ⟨a,c,g⟩=>⟨a,.own c g M.IV.2.2.2.2.1⟩
def DM.He(M:DM):Int × DM :=
 (M.IP.2.1,if M.IP.2.1=0 then {M.IP.2.2 with safe:=M.IP.2.2.dir,IW:=[]} else M.IP.2.2)
theorem DRep.synced{w w':World}{b:Nat}{L:DL}{M:DM}(h:DRep w b L M)
 (l:Blk w' b (({M with safe:=M.dir,IW:=[]}:DM).cells {L with Hf:=L.Hm,Gm:=.slice none 0 0,Hj:=[]}) 143)(f:Fr (fun k=>k=b) w w') :
 DRep w' b {L with Hf:=L.Hm,Gm:=.slice none 0 0,Hj:=[]} {M with safe:=M.dir,IW:=[]} where
 IR:=l
 dir:=za h.dir f fun _ e c=>by subst c;exact zf h.dir h.IR (by decide) e
 safe:=za h.dir f fun _ e c=>by subst c;exact zf h.dir h.IR (by decide) e
 ch:=Mo w' 0 _ _
 Gj:=rfl
 IW:=fun i j=>absurd j (MA _)
 files:=fun g a=>(h.files g a).fr f ((h.files g a).ne h.IR (by decide))
 rows:=fun g a=>za (h.rows g a) f fun _ e c=>by subst c;exact zf (h.rows g a) h.IR (by decide) e
 sep:=h.sep
 le:=h.le
 Gc:=h.Gc
 GC:=h.Gc
 GB:=fun d m=>by cases m
theorem US(w:World)(b:Nat)(L:DL)(M:DM)(h:DRep w b L M) :
 Calls Tryz.prog 168 #[.pointer (some ⟨b,0,none⟩)] w fun e w' =>
  e=.returned (.int .i64 M.He.1)/\∃ q,DStep b L M w q M.He.2 w':=by
 have g:=Z (zQ w b L M h);have t:=Z h;clear h;rcases M.Gp with d|d
 .have HM:Hid (M.He=(0,{M.IP.2.2 with safe:=M.IP.2.2.dir,IW:=[]})):=by simp[Hid,DM.He,d]
  rw[d] at g;clear d;go_enter Tryz.func168,Tryz.ntmps168;go_wp2_with fail;refine g.out.mono ?_;rintro e o ⟨rfl,c⟩;have l:=c.Hl.IR.cell;have m:=c.Hl.IR.frozen;simp only[DM.cells] at l;obtain⟨a,r,j⟩:=zd c.Hl.dir;rw[j] at l;have p:=Z j;clear j
  go_wp2
  go_ret;rw[HM.out,<- p.out];refine⟨rfl,{L with Hf:=L.Hm,Gm:=.slice none 0 0,Hj:=[]},c.trans ⟨?_,?_,?_⟩⟩
  .have:=c.Hl.synced (w':=(o.setCell ⟨b,1,none⟩ L.Hm).setCell ⟨b,2,none⟩ (.slice none 0 0)) ((c.Hl.IR.set 1 L.Hm).set 2 (.slice none 0 0)) (by repeat' first|exact Fr.refl _ _|(with_reducible assumption)|refine Fr.drewN ?_ _|refine Fr.drew ?_|refine Fr.alloc ?_ _|refine Fr.set ?_ ?_ _|(intro _;rfl))
   exact this
  .exact Fr.set (Fr.set (Fr.refl _ _) (fun _=>.IR) _) (fun _=>.IR) _
  .intro k hk
   refine .inl ?_;cases hk using Foot.elim with
   | blk=>exact .IR
   | dir e=>exact .dir e
   | safe e=>exact .dir e
   | ch e=>simp[Value.ownBlock] at e
   | chs i s e=>exact absurd s (MA _)
   | file e=>exact .file e
   | row f m e=>exact .row f m e
 .have HM:Hid (M.He=(9,M.IP.2.2)):=by simp[Hid,DM.He,d]
  rw[d] at g;clear d;go_enter Tryz.func168,Tryz.ntmps168
  go_wp2_with (go_at_call 209;refine g.out.mono ?_;rintro e o ⟨rfl,c⟩)
  go_ret;rw[HM.out];exact⟨rfl,_,c⟩
def DM.IY(M:DM)(f:Nat)(x:FM):DM:={M with file:=fun g=>if g=f then x else M.file g}
theorem DRep.FA{w l:World}{b:Nat}{L:DL}{M:DM}(h:DRep w b L M){f:Nat}{s:Nat}(p:s<=(M.file f).bytes.length)
 (o:Blk l f [L.fV f,.int .i64 s] 152)(fr:Fr (fun k=>k=f) w l)(c:f∈M.ids) :
 DRep l b L (M.IY f {M.file f with safe:=s}) where
 IR:=h.IR.fr fr ((h.IR).ne (h.files f c) (by decide))
 dir:=za h.dir fr fun _ e a=>by subst a;exact zf h.dir (h.files _ c) (by decide) e
 safe:=za h.safe fr fun _ e a=>by subst a;exact zf h.safe (h.files _ c) (by decide) e
 ch:=za h.ch fr fun _ e a=>by subst a;exact zf h.ch (h.files _ c) (by decide) e
 Gj:=h.Gj
 IW:=fun i j m=>za (h.IW i j m) fr fun _ e a=>by subst a;exact zf (h.IW i j m) (h.files _ c) (by decide) e
 files:=fun g d=>by
  by_cases e:g=f
  .subst e;simpa [DM.IY] using o
  .have:=(h.files g d).fr fr e
   simpa [DM.IY,e] using this
 rows:=fun g d=>by
  have j:=za (h.rows g d) fr fun _ e a=>by subst a;exact zf (h.rows g d) (h.files _ c) (by decide) e
  by_cases e:g=f
  .subst e;simpa [DM.IY] using j
  .simpa [DM.IY,e] using j
 sep:=h.sep
 le:=fun g d=>by
  by_cases e:g=f
  .subst e;simpa [DM.IY] using p
  .simpa [DM.IY,e] using h.le g d
 Gc:=h.Gc
 GC:=h.GC
 GB:=h.GB
def DM.sync(M:DM)(a:ByteArray):Int × DM :=
 match M.dir.look a with
 | none=>(11,M)
 | some f=>(M.IP.2.1,if M.IP.2.1=0 then M.IP.2.2.IY f {M.IP.2.2.file f with safe:=(M.IP.2.2.file f).bytes.length} else M.IP.2.2)
theorem Qm(a:ByteArray)(w:World)(b:Nat)(L:DL)(M:DM)(h:DRep w b L M) :
 Calls Tryz.prog 167 #[.pointer (some ⟨b,0,none⟩),.string a] w fun e K =>
  e=.returned (.int .i64 (M.sync a).1)/\∃ F,DStep b L M w F (M.sync a).2 K:=by
 have s:=h.IR.cell;simp only[DM.cells] at s;have x:=zu h.dir;unfold maxLen at x;have m:=Z h;rcases ZH M.dir a with⟨l,p⟩|⟨k,q,l,p,_⟩
 .have HM:Hid (M.sync a=(11,M)):=by simp[Hid,DM.sync,p]
  have u:=Z l;clear h l p;go_enter Tryz.func167,Tryz.ntmps167
  go_wp2_with (go_at_call 87;refine(Yg u.out _ m.out.dir).mono ?_;rintro e y ⟨rfl,d⟩)
  go_ret;rw[HM.out];exact⟨rfl,_,m.out.fr d (fun _ _=>id),d.mono (fun _ _=>False.elim),fun k q=>.inl q⟩
 .rcases M.Gp with h0|h0
  .have HM:Hid (M.sync a=(0,M.IP.2.2.IY M.dir[k].2 {M.IP.2.2.file M.dir[k].2 with safe:=(M.IP.2.2.file M.dir[k].2).bytes.length})):=by simp[Hid,DM.sync,p,h0]
   have u:=Z l;have z:=Z h0;clear h l p h0;go_enter Tryz.func167,Tryz.ntmps167;go_wp2_with fail;refine(zU u.out _ m.out.dir).mono ?_;rintro e y ⟨rfl,d⟩;clear s;go_wp2_with fail;have v:=zQ y b L M (m.out.fr d (fun _ _=>id));rw[z.out] at v;refine v.mono ?_;rintro e N ⟨rfl,o⟩;have s:=o.Hl.IR.cell;simp only[DM.cells] at s;have C:k<M.IP.2.2.dir.length:=by rw[M.IV.1];exact q
   have D:M.IP.2.2.dir[k].2=M.dir[k].2:=by simp[M.IV.1]
   obtain⟨g,G,n,c,E,t,_,J,r⟩:=o.Hl.entry C;rw[D] at t J r;have B:=(o.Hl.files _ t).cell;have I:=(o.Hl.files _ t).frozen;rw[r] at B;rw[E] at s;have A:=Z o;clear o r E D;go_wp2_with fail
   go_region
   go_wp2
   go_ret;rw[HM.out];refine⟨rfl,L,DStep.trans ⟨m.out.fr d (fun _ _=>id),d.mono (fun _ _=>False.elim),fun k q=>.inl q⟩ (A.out.trans ⟨?_,?_,?_⟩)⟩
   .exact A.out.Hl.FA (NS _) (((A.out.Hl.files _ t).set 1 _).drew) (by repeat' first|exact Fr.refl _ _|(with_reducible assumption)|refine Fr.drewN ?_ _|refine Fr.drew ?_|refine Fr.alloc ?_ _|refine Fr.set ?_ ?_ _|(intro _;rfl)) t
   .exact Fr.drew (Fr.set (Fr.refl _ _) (fun _=>.file t) _)
   .intro j hj
    refine .inl ?_;cases hj using Foot.elim with
    | blk=>exact .IR
    | dir e=>exact .dir e
    | safe e=>exact .safe e
    | ch e=>exact .ch e
    | chs i l e=>exact .IW i l e
    | file e=>exact .file e
    | row f d e=>exact .row f d e
  .have HM:Hid (M.sync a=(9,M.IP.2.2)):=by simp[Hid,DM.sync,p,h0]
   have u:=Z l;have z:=Z h0;clear h l p h0;go_enter Tryz.func167,Tryz.ntmps167;go_wp2_with fail;refine(zU u.out _ m.out.dir).mono ?_;rintro e y ⟨rfl,d⟩;clear s;go_wp2_with fail;have v:=zQ y b L M (m.out.fr d (fun _ _=>id));rw[z.out] at v;refine v.mono ?_;rintro e N ⟨rfl,o⟩
   go_wp2
   go_ret;rw[HM.out];exact⟨rfl,L,DStep.trans ⟨m.out.fr d (fun _ _=>id),d.mono (fun _ _=>False.elim),fun k q=>.inl q⟩ o⟩
theorem Zr{P:Program}{e:TypeId}{size bytes:Nat}(h:((P.info? e).map fun i=>(i.zero.map (·.cells.size),i.size,i.bytes))=some (some size,size,bytes)) :
 ∃ i z,P.info? e=some i/\i.zero=some z/\i.size=size/\i.bytes=bytes/\z.cells.size=size:=by
 cases hi:P.info? e with
 | none=>rw[hi] at h;simp at h
 | some i =>
  rw[hi] at h;simp at h;obtain⟨⟨z,d,a⟩,b,c⟩:=h;exact⟨i,z,rfl,d,b,c,a⟩
theorem YH(w:World)(x:Value)(t:TypeId)(H:Nat)(a:w.heap.size=H):∀ j u,[x][j]?=some u->(w.alloc (.cells #[x] t)).cell? ((⟨H,0,none⟩:Addr).add j)=some u:=by
 subst a;exact IG w x t
theorem WA(w:World)(x y:Value)(t:TypeId)(H:Nat)(c:w.heap.size=H):∀ j u,[x,y][j]?=some u->(w.alloc (.cells #[x,y] t)).cell? ((⟨H,0,none⟩:Addr).add j)=some u:=by
 subst c;intro j u a
 match j,a with
 | 0,a=>simp at a;subst a;simp[Addr.add]
 | 1,a=>simp at a;subst a;simp[Addr.add]
structure App(w:World)(v:Value)(e:TypeId)(size n:Nat)(xs:List Value)(v':Value)(w':World):Prop where
 own:w'.ownsRow 0 e size v' n xs
 grown:w.grownBy w' v.ownBlock
 at_:v'.ownBlock=v.ownBlock\/v'.ownBlock=some w.heap.size
theorem App.fr{w w':World}{v a:Value}{e:TypeId}{size n:Nat}{c:List Value}(h:App w v e size n c a w'):Fr (fun k=>v.ownBlock=some k) w w' :=
 Fr.Ho h.grown
section
variable {P:Program} {w:World}
theorem zn(t ty e:TypeId)(size o:Nat)(Q:P.underlying t=some (.slice e))
 (I:((P.info? e).map fun i=>(i.zero.map (·.cells.size),i.size,i.bytes))=some (some size,size,o))(B:0<size)
 (v:Value)(n:Nat)(C:List Value)(s:w.ownsRow 0 e size v n C)
 (y:Addr)(m c:Nat)(l:List Value)(K:l.length=m*size)(r:∀ j u,l[j]?=some u->w.cell? (y.add j)=some u)(D:∀ u∈l,u.oneCell'=true)
 (A:n+m<=maxLen)(q:(n+m)*o<=140737488355328) :
 ∃ x w',(Builtin.append_ #[t,t] ty #[v,.slice (some y) m c]).run P w=.ok x w'/\App w v e size (n+m) (C++l) x w':=by
 obtain⟨i,z,J,R,E,F,G⟩:=Zr I;obtain⟨x,w',N,a,b,_,d⟩:=run_append_own_at (P:=P) w 0 t ty e i z size o Q J R E F G B v n C s y m c l K r D A q (Me _);exact⟨x,w',N,a,b,d⟩
theorem TP(t ty e:TypeId)(size f:Nat)(l:P.underlying t=some (.slice e))
 (q:((P.info? e).map fun i=>(i.zero.map (·.cells.size),i.size,i.bytes))=some (some size,size,f))
 (v:Value)(n:Nat)(p:List Value)(b:w.ownsRow 0 e size v n p)(c:Nat) :
 ∃ m o,(Builtin.append_ #[t,t] ty #[v,.slice none 0 c]).run P w=.ok m o/\App w v e size n p m o:=by
 obtain⟨i,z,k,A,u,x,y⟩:=Zr q;refine⟨v,w,?_,b,⟨rfl,rfl,rfl,NS _,fun _ _ _=>rfl⟩,.inl rfl⟩;obtain⟨a,j,rfl⟩:=zd b;have d:n<=j:=by
  rcases b.2 with⟨h,r⟩|⟨_,_,_,h,_,_,s,_⟩
  .omega
  .simp at h;omega
 cases a with
 | none=>simp[Builtin.append_,run_underlying l,sizeOf,typeInfo,k,Builtin.lenOf,Builtin.firstCells,d]
 | some a=>simp[Builtin.append_,run_underlying l,sizeOf,typeInfo,k,Builtin.lenOf,Builtin.firstCells,d,storeCells]
theorem Xh(t ty e:TypeId)(size a:Nat)(y:P.underlying t=some (.slice e))
 (x:((P.info? e).map fun i=>(i.zero.map (·.cells.size),i.size,i.bytes))=some (some size,size,a))(s:0<size)
 (v:Value)(n:Nat)(o:List Value)(l:w.ownsRow 0 e size v n o)(z:Value)(m:Nat)(c:List Value)(h:w.ownsRow 0 e size z m c)
 (D:∀ u∈c,u.oneCell'=true)(r:n+m<=maxLen)(j:(n+m)*a<=140737488355328) :
 ∃ A B,(Builtin.append_ #[t,t] ty #[v,z]).run P w=.ok A B/\App w v e size (n+m) (o++c) A B:=by
 rcases h.2 with⟨rfl,rfl⟩|⟨g,q,C,rfl,_⟩
 .have hx:c=[]:=Mi (by simpa using h.1)
  subst hx;have:=TP (P:=P) t ty e size a y x v n o l 0
  simpa using this
 .exact zn t ty e size a y x s v n o l ⟨g,0,none⟩ m q c h.1 (h.cells (g:=g) rfl) D r j
theorem Yh(s:ByteArray):(Builtin.firstCells 1 s.size (.string s)).run P w=.ok (u8s s.data.toList).toArray w:=by
 simp only[Builtin.firstCells,Ja]
 congr 1
 have a:s.extract 0 s.size=s:=by simp
 rw[a]
 apply KY
 simp[u8s]
theorem Zn(t u ty e:TypeId)(F:P.underlying t=some (.slice e))(G:P.underlying u=some .string)
 (hI:((P.info? e).map fun i=>(i.zero.map (·.cells.size),i.size,i.bytes))=some (some 1,1,1))
 (v:Value)(n:Nat)(m:List Value)(a:w.ownsRow 0 e 1 v n m)(s:ByteArray)
 (y:n+s.size<=maxLen)(C:n+s.size<=140737488355328) :
 ∃ v' w',(Builtin.append_ #[t,u] ty #[v,.string s]).run P w=.ok v' w'/\App w v e 1 (n+s.size) (m++u8s s.data.toList) v' w':=by
 obtain⟨i,z,D,Y,S,T,h4⟩:=Zr hI;have E:n+s.size<=9223372036854775807:=by simp only[maxLen] at y;omega
 have o:(u8s s.data.toList).length=s.size:=by simp[u8s]
 have f:(m++u8s s.data.toList).length=(n+s.size)*1:=by rw[NQ,a.1,o];omega
 have grown:∀ (old:Nat),old<n+s.size->∀ (row:Option Nat),
  (w.drew.alloc (.cells (m.toArray++(u8s s.data.toList).toArray++Builtin.zeroCells z.cells (grownCap w (n+s.size) old e-(n+s.size))) e)).ownsRow 0 e 1
    (.slice (some ⟨w.heap.size,0,none⟩) (n+s.size) (grownCap w (n+s.size) old e)) (n+s.size) (m++u8s s.data.toList) /\
  w.grownBy (w.drew.alloc (.cells (m.toArray++(u8s s.data.toList).toArray++Builtin.zeroCells z.cells (grownCap w (n+s.size) old e-(n+s.size))) e)) row:=by
  intro old _ row;have N:=grownCap_ge w (n+s.size) old e;have q:grownCap w (n+s.size) old e<=maxLen:=JE w (n+s.size) old e y;refine⟨⟨f,.inr ⟨w.heap.size,_,_,rfl,Me _,heap_alloc_new w.drew _,N,q,?_,?_⟩⟩,⟨rfl,rfl,rfl,by simp,fun k Q _=>KP w.drew _ k Q⟩⟩
  .simp only[Array.size_append,LU,Iv,h4,a.1,o]
   omega
  .simp only[LX,Mm]
   rw[<- Mm,<- f];exact JF
 rcases a.2 with⟨rfl,rfl⟩|⟨g,d,l,rfl,J,X,a0,q,K,r⟩
 .have I:m=[]:=Mi (by simpa using a.1)
  subst I;by_cases R:s.size=0
  .refine⟨.slice none 0 0,w,?_,⟨?_,⟨rfl,rfl,rfl,NS _,fun _ _ _=>rfl⟩,.inl rfl⟩⟩
   .simp[Builtin.append_,run_underlying F,run_underlying G,sizeOf,typeInfo,D,Builtin.lenOf,Builtin.firstCells,R]
   .have:u8s s.data.toList=[]:=Mi (by rw[o];exact R)
    rw[this,R];exact Mo w 0 e 1
  .have hr:=run_append_nil_string (P:=P) w t u ty e i z F G D Y s (by omega) (by omega) (by rw[T];omega)
   have h:=grown 0 (by omega) (Value.ownBlock (.slice none 0 0));have he:s.data.map (fun b=>Value.int .u8 b.toNat)=(u8s s.data.toList).toArray:=by apply KY;simp[u8s]
   rw[he] at hr;simp only[MD,LB,Array.empty_append] at h |-;exact⟨_,_,hr,h.1,h.2,.inr rfl⟩
 .by_cases hroom:n+s.size<=d
  .have L:=Yh (P:=P) (w:=w) s
   have B:=Jb P g n e (u8s s.data.toList) 0 l w X (by rw[o,K];omega) (by intro x I;simp[u8s] at I;obtain⟨c,_,rfl⟩:=I;rfl);simp only[Jc] at B;refine⟨.slice (some ⟨g,0,none⟩) (n+s.size) d,w.setRow g (l.toList.take n++u8s s.data.toList++l.toList.drop (n+(u8s s.data.toList).length)).toArray,?_,
    ⟨⟨f,.inr ⟨g,d,_,rfl,J,setRow_heap w g l _ e _ X,hroom,q,?_,?_⟩⟩,⟨rfl,rfl,rfl,by simp,fun k _ Q=>Jd w g k _ (fun e=>Q (by simp[Value.ownBlock,e]))⟩,.inl rfl⟩⟩
   .simp[Builtin.append_,run_underlying F,run_underlying G,sizeOf,typeInfo,D,Builtin.lenOf,hroom,S,L,Addr.add_lit,B]
   .simp only[LU,NQ,NT,Mn,LJ]
    omega
   .have:l.toList.take n=m:=by rw[<- r];simp
    rw[this,<- f];exact JF
  .have holds:∀ j u,m[j]?=some u->w.cell? ((⟨g,0,none⟩:Addr).add j)=some u:=a.cells (g:=g) rfl
   have hn:¬(n+s.size<=d):=hroom;have A:¬(9223372036854775807<((n:Int)+(s.size:Int))):=by omega
   have V:=Iw (need:=n+s.size) (old:=d) (bytes:=1) (by omega) (by omega);have p:¬(281474976710656<Builtin.nextslicecap (n+s.size) d*1):=by omega
   have L:=Yh (P:=P) (w:=w.drew) s;have M:=KU (P:=P) w.drew 1 n ⟨g,0,none⟩ n d m (by simpa using a.1) (by simpa using holds);have h:=grown d (by omega) (Value.ownBlock (.slice (some ⟨g,0,none⟩) n d));refine⟨_,_,?_,h.1,h.2,.inr rfl⟩;rw[Nat.mul_one] at p;simp[Builtin.append_,run_underlying F,run_underlying G,sizeOf,typeInfo,zeroValue,D,Y,Builtin.lenOf,hn,A,p,Question.forced,L,M,newRow,grownCap,S,T]
   try (congr 2;apply KY;simp[List.append_assoc])
end
theorem zL{P:Program}{w:World}{i:Array Oper}{c:List Oper}{o:Oper}{a:Act}{Q:Exit->Act->World->Prop}{R:Value->World->Prop}(j:o.guard=none)(s x:Operand)(t u:TypeId)
 (r:o.op=.call {callee:=.builtin .append,args:=#[s,x],argTypes:=#[t,u]})(v l:Value)(z:a.eval s=v)(A:a.eval x=l)
 (g:∃ e w',(Builtin.append_ #[t,u] o.type #[v,l]).run P w=.ok e w'/\R e w')
 (h:∀ e w',R e w'->wpList P i Q c (a.put o.dst e) w'):wpList P i Q (o::c) a w:=by
 obtain⟨e,w',y,q⟩:=g;refine wpList_plain j fun K m=>?_;unfold Oper.wp execOp;simp only[r,resolve,invoke,builtin,Kz,Ja,KE,KQ,Mf,LC,z,A,y];exact m _ _ (h e w' q)
theorem Zi{P:Program}{w:World}{e:Array Oper}{o:Oper}{a:Act}{K:Act->World->Prop}{Q:Exit->Act->World->Prop}{E:Prop}{R:Value->World->Prop}(f:o.guard=none)(s x:Operand)(t u:TypeId)
 (j:o.op=.call {callee:=.builtin .append,args:=#[s,x],argTypes:=#[t,u]})(v g:Value)(l:a.eval s=v)(q:a.eval x=g)
 (d:∃ b c,(Builtin.append_ #[t,u] o.type #[v,g]).run P w=.ok b c/\R b c)
 (h:∀ b c,R b c->K (a.put o.dst b) c) :
 if Region.wanted o (yielded e a.tmps)=true then Oper.wp P o a w K Q else E:=by
 have m:Region.wanted o (yielded e a.tmps)=true:=by simp[Region.wanted,f]
 rw[Mg m];obtain⟨b,c,k,i⟩:=d;unfold Oper.wp execOp;simp only[j,resolve,invoke,builtin,Kz,Ja,KE,KQ,Mf,LC,l,q,k];exact h b c i
theorem V5:((Tryz.prog.info? 145).map fun i=>(i.zero.map (·.cells.size),i.size,i.bytes))=some (some 1,1,24):=by kernel_rfl
theorem YW:((Tryz.prog.info? 148).map fun i=>(i.zero.map (·.cells.size),i.size,i.bytes))=some (some 2,2,24):=by kernel_rfl
theorem Xf:((Tryz.prog.info? 5).map fun i=>(i.zero.map (·.cells.size),i.size,i.bytes))=some (some 1,1,1):=by kernel_rfl
def DM.Hh(M:DM)(d:Dir):DM:={M with dir:=d,IW:=M.IW++[d]}
def DL.Hh(L:DL)(v a:Value):DL:={L with Hm:=v,Gm:=a,Hj:=L.Hj++[v]}
theorem DRep.Hh{w w':World}{b:Nat}{L:DL}{M:DM}(h:DRep w b L M){d:Dir}{v j:Value}
 (A:Blk w' b ((M.Hh d).cells (L.Hh v j)) 143)(u:w.ownsRow 0 148 2 v d.length (flat d))
 (p:w'.ownsRow 0 145 1 j (M.IW.length+1) (L.Hj++[v]))(f:Fr (fun k=>k=b\/L.Gm.ownBlock=some k) w w')
 (s:∀ e,e∈d->e.2∈M.ids):DRep w' b (L.Hh v j) (M.Hh d):=by
 have m:∀ {v:Value} {n:Nat} {x:List Value},w.ownsRow 0 148 2 v n x->w'.ownsRow 0 148 2 v n x:=fun t =>
  za t f fun k e l=>by
   rcases l with rfl|l
   .exact zf t h.IR (by decide) e
   .exact zN t h.ch (by decide) e l
 exact {
  IR:=A
  dir:=m u
  safe:=m h.safe
  ch:=by
   have:(M.Hh d).IW.length=M.IW.length+1:=by simp[DM.Hh]
   rw[this];exact p
  Gj:=by simp[DM.Hh,DL.Hh,h.Gj]
  IW:=fun i y z=>by
   simp only[DM.Hh,DL.Hh,NQ,Mh,ME] at y z;by_cases a:i<M.IW.length
   .have q:(L.Hh v j).Hj[i]=L.Hj[i]'(by rw[h.Gj];exact a):=by simp[DL.Hh,h.Gj,a]
    have r:(M.Hh d).IW[i]=M.IW[i]:=by simp[DM.Hh,a]
    rw[q,r];exact m (h.IW i _ a)
   .have s:i=M.IW.length:=by omega
    have q:(L.Hh v j).Hj[i]=v:=by simp[DL.Hh,List.getElem_append,h.Gj,a]
    have r:(M.Hh d).IW[i]=d:=by simp[DM.Hh,List.getElem_append,a]
    rw[q,r];exact m u
  files:=fun g o=>(h.files g o).fr f fun l=>by
   rcases l with e|l
   .exact(h.files g o).ne h.IR (by decide) e
   .exact zf h.ch (h.files g o) (by decide) l
  rows:=fun g o=>za (h.rows g o) f fun k e l=>by
   rcases l with rfl|l
   .exact zf (h.rows g o) h.IR (by decide) e
   .exact zN (h.rows g o) h.ch (by decide) e l
  sep:=h.sep
  le:=h.le
  Gc:=s
  GC:=h.GC
  GB:=fun c p=>by
   simp only[DM.Hh,Mc,NW] at p;rcases p with p|rfl
   .exact h.GB c p
   .exact s}
theorem TQ(v:Value)(d:Dir)(w:World)(b:Nat)(L:DL)(M:DM)(h:DRep w b L M)(A:w.ownsRow 0 148 2 v d.length (flat d))
 (N:∀ e,e∈d->e.2∈M.ids)(V:M.IW.length+1<=1000000000000) :
 Calls Tryz.prog 219 #[.pointer (some ⟨b,0,none⟩),v] w fun e w' =>
  e=.returned (.tuple #[])/\∃ o,DRep w' b (L.Hh v o) (M.Hh d)/\Fr (fun k=>k=b\/L.Gm.ownBlock=some k) w w'/\(o.ownBlock=L.Gm.ownBlock\/∃ k,o.ownBlock=some k/\w.heap.size<=k):=by
 have y:=h.IR.cell;have J:=h.IR.frozen;simp only[DM.cells] at y;obtain⟨a,i,C⟩:=zd A;obtain⟨T,E,l⟩:=zd h.ch;have Q:=h.IR.lt;rw[l] at y;have m:=Z h;have G:=Z A;have I:=Z C;have t:=Z l;clear h A;rw[C];have B:=(za m.out.ch (w':=(w.setCell ⟨b,0,none⟩ (.slice a d.length i)).alloc (.cells #[.slice a d.length i] 145)) (S:=fun k=>k=b) (by repeat' first|exact Fr.refl _ _|(with_reducible assumption)|refine Fr.drewN ?_ _|refine Fr.drew ?_|refine Fr.alloc ?_ _|refine Fr.set ?_ ?_ _|(intro _;rfl))
  (fun k e p=>by subst p;exact zf m.out.ch m.out.IR (by decide) e))
 rw[l] at B;clear C l;go_enter Tryz.func219,Tryz.ntmps219
 go_wp2_with (at_builtin;go_must (refine zL rfl _ _ _ _ rfl _ _ (by rfl) (by rfl) (zn (w:=_) 141 _ 145 1 24 Tryz.underlying141 V5 (by decide) _ _ _ B
  ⟨w.heap.size,0,none⟩ 1 1 [.slice a d.length i] rfl (YH _ _ _ _ (by simp)) (by intro u F;simp at F;subst F;rfl) (by unfold maxLen;omega) (by omega)) ?_))
 intro X w' c;have j:Blk w' b ((M.cells L).set 0 (.slice a d.length i)) 143 :=
  ((m.out.IR.set 0 _).alloc _).fr c.fr (by rw[<- t.out];exact zf m.out.ch m.out.IR (by decide))
 have z:=j.cell;have K:=j.frozen;simp only[DM.cells,List.set] at z;obtain⟨x,g,r⟩:=zd c.own;have s:=Z c;have D:=Z j;have R:=Z r;clear c j y J B;subst r
 go_wp2
 go_end0
 refine⟨rfl,.slice x (M.IW.length+1) g,?_⟩;have q:Fr (fun k=>k=b\/L.Gm.ownBlock=some k) w (w'.setCell ⟨b,2,none⟩ (.slice x (M.IW.length+1) g)):=by
  refine Fr.set (Fr.trans' (Fr.alloc (Fr.set (Fr.refl _ w) (fun _=>.inl rfl) _) _) s.out.fr ?_) (fun _=>.inl rfl) _;intro k _ p;rw[<- t.out] at p;exact .inr p
 rw[<- I.out] at *;refine⟨m.out.Hh ?_ G.out ?_ q N,q,?_⟩
 .have:=D.out.set 2 (.slice x (M.IW.length+1) g)
  exact this
 .have:=s.out.own
  refine za this (S:=fun k=>k=b) (by repeat' first|exact Fr.refl _ _|(with_reducible assumption)|refine Fr.drewN ?_ _|refine Fr.drew ?_|refine Fr.alloc ?_ _|refine Fr.set ?_ ?_ _|(intro _;rfl)) (fun k e p=>by subst p;exact zf this D.out (by decide) e)
 .rcases s.out.at_ with h1|h1
  .exact .inl (by rw[h1,t.out])
  .exact .inr ⟨_,h1,by simp⟩
end Go.Proofs.YtkhnggkkiefcdaaGreatDoor
