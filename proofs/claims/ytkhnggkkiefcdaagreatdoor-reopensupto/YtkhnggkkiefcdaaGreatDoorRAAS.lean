/- larder: joined texts -/
import Derived.Test.YtkhnggkkiefcdaaGreatDoorRAAR
import Derived.Deep.RegionLaw
import Derived.LaidEqlPtr
namespace Go.Proofs.YtkhnggkkiefcdaaGreatDoor
open Go.RowKit
set_option maxRecDepth 100000
theorem RR:((Tryz.prog.info? 146).map fun i=>(i.zero.map (·.cells.size),i.size,i.bytes))=some (some 1,1,8):=by kernel_rfl
def ptrs(l:List Nat):List Value:=l.map fun k=>.pointer (some ⟨k,0,none⟩)
structure Twin(w0 w:World)(bo bm:Nat)(M:DM)(os:List Nat)(ps:List (Nat × Nat))(vo vm:Value)(fV:Nat→Value):Prop where
 co:Blk w bo [vo] 168
 cm:Blk w bm [vm] 168
 ne:bo≠bm
 old:w.ownsRow 0 146 1 vo os.length (ptrs os)
 made:w.ownsRow 0 146 1 vm ps.length (ptrs (ps.map Prod.snd))
 sepo:∀ k,vo.ownBlock=some k→vm.ownBlock≠some k
 files:∀ p,p∈ps→Blk w p.2 [fV p.2,.int .i64 (M.file p.1).safe] 152
 rows:∀ p,p∈ps→w.ownsRow 0 5 1 (fV p.2) (M.file p.1).bytes.length (u8s (M.file p.1).bytes)
 sep:∀ p,p∈ps→∀ q,q∈ps→p.2≠q.2→∀ k,(fV p.2).ownBlock=some k→(fV q.2).ownBlock≠some k
 n1:os.Nodup
 n2:(ps.map Prod.snd).Nodup
 ids:∀ f,f∈os→f∈M.ids
 nbo:w0.heap.size≤bo
 nbm:w0.heap.size≤bm
 no:∀ k,vo.ownBlock=some k→w0.heap.size≤k
 nm:∀ k,vm.ownBlock=some k→w0.heap.size≤k
 nf:∀ p,p∈ps→w0.heap.size≤p.2
 nr:∀ p,p∈ps→∀ k,(fV p.2).ownBlock=some k→w0.heap.size≤k
 fr:Fr Nil w0 w
theorem Twin.keep{w0 w w':World}{bo bm:Nat}{M:DM}{os:List Nat}{ps:List (Nat × Nat)}{vo vm:Value}{fV:Nat→Value}(h:Twin w0 w bo bm M os ps vo vm fV)(f:Fr Nil w w') :
  Twin w0 w' bo bm M os ps vo vm fV :=
 {h with
  co:=h.co.fr f id
  cm:=h.cm.fr f id
  old:=z7 h.old f (fun _ _=>id)
  made:=z7 h.made f (fun _ _=>id)
  files:=fun p hp=>(h.files p hp).fr f id
  rows:=fun p hp=>z7 (h.rows p hp) f (fun _ _=>id)
  fr:=h.fr.trans f}
theorem Twin.old_push{w0 w w1 w2:World}{bo bm:Nat}{M:DM}{os:List Nat}{ps:List (Nat × Nat)}{vo vm vo':Value}{fV:Nat→Value}(h:Twin w0 w bo bm M os ps vo vm fV)(f1:Fr Nil w w1){f:Nat}
  (ha:App w1 vo 146 1 (os.length+1) (ptrs os++[.pointer (some ⟨f,0,none⟩)]) vo' w2)(hf:f∉os)(hi:f∈M.ids) :
  Twin w0 (w2.setCell ⟨bo,0,none⟩ vo') bo bm M (os++[f]) ps vo' vm fV∧Fr (fun k=>k=bo∨vo.ownBlock=some k) w (w2.setCell ⟨bo,0,none⟩ vo') ∧
   (∀ k,vo'.ownBlock=some k→vo.ownBlock=some k∨w.heap.size≤k):=by
 have h1:=h.keep f1
 have hs1:=f1.size
 have hat:∀ k,vo'.ownBlock=some k→vo.ownBlock=some k∨w1.heap.size≤k:=by
  intro k hk
  rcases ha.at_ with e|e
  ·exact .inl (by rw[← e];exact hk)
  ·rw[e] at hk;simp at hk;exact .inr (by omega)
 have hbo:Blk w2 bo [vo] 168:=h1.co.fr ha.fr (za h1.old h1.co (by decide))
 have hw2:Fr (fun k=>k=bo) w2 (w2.setCell ⟨bo,0,none⟩ vo'):=Fr.set (S:=fun k=>k=bo) (p:=⟨bo,0,none⟩) (G _ _) (fun _=>rfl) vo'
 have hfr:Fr (fun k=>k=bo∨vo.ownBlock=some k) w1 (w2.setCell ⟨bo,0,none⟩ vo') :=
  (ha.fr.mono (fun _ _=>.inr)).trans (hw2.mono (fun _ _=>.inl))
 have hfw:Fr (fun k=>k=bo∨vo.ownBlock=some k) w (w2.setCell ⟨bo,0,none⟩ vo'):=(f1.mono (fun _ _=>False.elim)).trans hfr
 have hno:∀ k,vo'.ownBlock=some k→w0.heap.size≤k:=by
  intro k hk
  rcases hat k hk with e|e
  ·exact h.no k e
  ·have:=h1.fr.size;omega
 refine⟨?_,hfw,fun k hk=>(hat k hk).imp id (fun e=>by omega)⟩
 refine {h with
  co:=hbo.set 0 vo'
  cm:=h1.cm.fr hfr (fun e=>?_)
  old:=?_
  made:=z7 h1.made hfr (fun k hk e=>?_)
  sepo:=fun k hk e=>?_
  files:=fun p hp=>(h1.files p hp).fr hfr (fun e=>?_)
  rows:=fun p hp=>z7 (h1.rows p hp) hfr (fun k hk e=>?_)
  n1:=?_
  ids:=?_
  no:=hno
  fr:=Fr.trans' h.fr hfw (fun k hk e=>?_)}
 ·rcases e with e|e
  ·exact h.ne e.symm
  ·exact za h1.old h1.cm (by decide) e
 ·have e:ptrs (os++[f])=ptrs os++[.pointer (some ⟨f,0,none⟩)]:=by simp[ptrs]
  rw[e,List.length_append]
  exact z7 ha.own hw2 (fun k hk e=>by subst e;exact za ha.own hbo (by decide) hk)
 ·rcases e with e|e
  ·subst e;exact za h1.made h1.co (by decide) hk
  ·exact h.sepo k e hk
 ·rcases hat k hk with e'|e'
  ·exact h.sepo k e' e
  ·have:=zA h1.made e;omega
 ·rcases e with e|e
  ·exact(h1.files p hp).ne h1.co (by decide) e
  ·exact za h1.old (h1.files p hp) (by decide) e
 ·rcases e with e|e
  ·subst e;exact za (h1.rows p hp) h1.co (by decide) hk
  ·exact Z0 h1.old (h1.rows p hp) (by decide) e hk
 ·rw[List.nodup_append]
  refine⟨h.n1,by simp,?_⟩
  intro a ha' b hb
  simp at hb
  subst hb
  intro e
  subst e
  exact hf ha'
 ·intro g hg
  rcases List.mem_append.1 hg with hg|hg
  ·exact h.ids g hg
  ·simp at hg;subst hg;exact hi
 ·rcases e with e|e
  ·have:=h.nbo;omega
  ·have:=h.no k e;omega
theorem Twin.made_push{w0 w w1 w2:World}{bo bm:Nat}{M:DM}{os:List Nat}{ps:List (Nat × Nat)}{vo vm vm' v8:Value}{fV:Nat→Value}(h:Twin w0 w bo bm M os ps vo vm fV)(f1:Fr Nil w w1){f nf:Nat}
  (hrow:w1.ownsRow 0 5 1 v8 (M.file f).bytes.length (u8s (M.file f).bytes))(hrn:∀ k,v8.ownBlock=some k→w.heap.size≤k)
  (hnf:Blk w1 nf [v8,.int .i64 (M.file f).safe] 152)(hnn:w.heap.size≤nf)
  (ha:App w1 vm 146 1 (ps.length+1) (ptrs (ps.map Prod.snd)++[.pointer (some ⟨nf,0,none⟩)]) vm' w2) :
  Twin w0 (w2.setCell ⟨bm,0,none⟩ vm') bo bm M os (ps++[(f,nf)]) vo vm' (fun g=>if g=nf then v8 else fV g)∧Fr (fun k=>k=bm∨vm.ownBlock=some k) w (w2.setCell ⟨bm,0,none⟩ vm') ∧
   (∀ k,vm'.ownBlock=some k→vm.ownBlock=some k∨w.heap.size≤k):=by
 have h1:=h.keep f1
 have hs1:=f1.size
 have hs0:=h.fr.size
 have hat:∀ k,vm'.ownBlock=some k→vm.ownBlock=some k∨w1.heap.size≤k:=by
  intro k hk
  rcases ha.at_ with e|e
  ·exact .inl (by rw[← e];exact hk)
  ·rw[e] at hk;simp at hk;exact .inr (by omega)
 have hbm:Blk w2 bm [vm] 168:=h1.cm.fr ha.fr (za h1.made h1.cm (by decide))
 have hw2:Fr (fun k=>k=bm) w2 (w2.setCell ⟨bm,0,none⟩ vm'):=Fr.set (S:=fun k=>k=bm) (p:=⟨bm,0,none⟩) (G _ _) (fun _=>rfl) vm'
 have hfr:Fr (fun k=>k=bm∨vm.ownBlock=some k) w1 (w2.setCell ⟨bm,0,none⟩ vm') :=
  (ha.fr.mono (fun _ _=>.inr)).trans (hw2.mono (fun _ _=>.inl))
 have hfw:Fr (fun k=>k=bm∨vm.ownBlock=some k) w (w2.setCell ⟨bm,0,none⟩ vm'):=(f1.mono (fun _ _=>False.elim)).trans hfr
 have hpn:∀ p,p∈ps→p.2≠nf:=by
  intro p hp e
  have:=(h.files p hp).lt
  omega
 have hrl:∀ p,p∈ps→∀ k,(fV p.2).ownBlock=some k→k<w.heap.size:=fun p hp k hk=>zA (h.rows p hp) hk
 have hfb:∀ {c:List Value} {g:Nat},Blk w1 g c 152→Blk (w2.setCell ⟨bm,0,none⟩ vm') g c 152:=by
  intro c g hg
  refine hg.fr hfr (fun e=>?_)
  rcases e with e|e
  ·exact hg.ne h1.cm (by decide) e
  ·exact za h1.made hg (by decide) e
 have hrb:∀ {v:Value} {n:Nat} {xs:List Value},w1.ownsRow 0 5 1 v n xs→(w2.setCell ⟨bm,0,none⟩ vm').ownsRow 0 5 1 v n xs:=by
  intro v n xs hv
  refine z7 hv hfr (fun k hk e=>?_)
  rcases e with e|e
  ·subst e;exact za hv h1.cm (by decide) hk
  ·exact Z0 h1.made hv (by decide) e hk
 refine⟨?_,hfw,fun k hk=>(hat k hk).imp id (fun e=>by omega)⟩
 refine {h with
  co:=h1.co.fr hfr (fun e=>?_)
  cm:=hbm.set 0 vm'
  old:=z7 h1.old hfr (fun k hk e=>?_)
  made:=?_
  sepo:=fun k hk e=>?_
  files:=fun p hp=>?_
  rows:=fun p hp=>?_
  sep:=fun p hp q hq hne k hk e=>?_
  n2:=?_
  nm:=fun k hk=>?_
  nf:=fun p hp=>?_
  nr:=fun p hp k hk=>?_
  fr:=Fr.trans' h.fr hfw (fun k hk e=>?_)}
 ·rcases e with e|e
  ·exact h.ne e
  ·exact za h1.made h1.co (by decide) e
 ·rcases e with e|e
  ·subst e;exact za h1.old h1.cm (by decide) hk
  ·exact h.sepo k hk e
 ·have e:ptrs ((ps++[(f,nf)]).map Prod.snd)=ptrs (ps.map Prod.snd)++[.pointer (some ⟨nf,0,none⟩)]:=by simp[ptrs]
  rw[e,List.length_append]
  exact z7 ha.own hw2 (fun k hk e=>by subst e;exact za ha.own hbm (by decide) hk)
 ·rcases hat k e with e'|e'
  ·exact h.sepo k hk e'
  ·have:=zA h1.old hk;omega
 ·rcases List.mem_append.1 hp with hp|hp
  ·simp only[hpn p hp,if_false]
   exact hfb (h1.files p hp)
  ·simp at hp;subst hp
   simp only[if_true]
   exact hfb hnf
 ·rcases List.mem_append.1 hp with hp|hp
  ·simp only[hpn p hp,if_false]
   exact hrb (h1.rows p hp)
  ·simp at hp;subst hp
   simp only[if_true]
   exact hrb hrow
 ·rcases List.mem_append.1 hp with hp|hp <;> rcases List.mem_append.1 hq with hq|hq
  ·simp only[hpn p hp,hpn q hq,if_false] at hk e
   exact h.sep p hp q hq hne k hk e
  ·simp at hq;subst hq
   simp only[hpn p hp,if_false] at hk
   simp only[if_true] at e
   have:=hrl p hp k hk
   have:=hrn k e
   omega
  ·simp at hp;subst hp
   simp only[hpn q hq,if_false] at e
   simp only[if_true] at hk
   have:=hrl q hq k e
   have:=hrn k hk
   omega
  ·simp at hp hq;subst hp;subst hq
   exact hne rfl
 ·rw[List.map_append,List.nodup_append]
  refine⟨h.n2,by simp,?_⟩
  intro a ha' b hb
  simp at hb
  subst hb
  obtain⟨p,hp,rfl⟩:=List.mem_map.1 ha'
  exact hpn p hp
 ·rcases hat k hk with e|e
  ·exact h.nm k e
  ·omega
 ·rcases List.mem_append.1 hp with hp|hp
  ·exact h.nf p hp
  ·simp at hp;subst hp;show w0.heap.size≤nf;omega
 ·rcases List.mem_append.1 hp with hp|hp
  ·simp only[hpn p hp,if_false] at hk
   exact h.nr p hp k hk
  ·simp at hp;subst hp
   simp only[if_true] at hk
   have:=hrn k hk;omega
 ·rcases e with e|e
  ·have:=h.nbm;omega
  ·have:=h.nm k e;omega
theorem S2:((Tryz.prog.info? 152).map fun i=>(i.zero.map (·.cells.size),i.size,i.bytes))=some (some 2,2,32):=by kernel_rfl
theorem Mq(w:World)(f:Nat):(binOp .neq 146 (.pointer (some ⟨f,0,none⟩)) (.pointer (some ⟨f,0,none⟩))).run Tryz.prog w=.ok (.bool false) w:=by
 obtain⟨i,z,hi,_⟩:=Zk S2
 have h:∀ d:Nat,(Op.equalIn (d+1) 146 (.pointer (some ⟨f,0,none⟩)) (.pointer (some ⟨f,0,none⟩))).run Tryz.prog w=.ok true w:=fun d=>by
  simp[Op.equalIn,run_underlying Tryz.underlying146,sizeOf,typeInfo,hi,run_sameAddr_same]
 simp only[binOp]
 simp[Op.equal,Op.maxDepth,h 9999]
theorem Ni{w:World}{f g:Nat}{c c':List Value}(hf:Blk w f c 152)(hg:Blk w g c' 152)(hne:f≠g) :
  (binOp .neq 146 (.pointer (some ⟨f,0,none⟩)) (.pointer (some ⟨g,0,none⟩))).run Tryz.prog w=.ok (.bool true) w:=by
 obtain⟨i,z,hi,_,hs,_⟩:=Zk S2
 have hsz:i.size≠0:=by omega
 have hab:(⟨f,0,none⟩:Addr)≠⟨g,0,none⟩:=fun e=>hne (congrArg Addr.block e)
 have h:∀ d:Nat,(Op.equalIn (d+1) 146 (.pointer (some ⟨f,0,none⟩)) (.pointer (some ⟨g,0,none⟩))).run Tryz.prog w=.ok false w:=fun d=>by
  simp[Op.equalIn,run_underlying Tryz.underlying146,sizeOf,typeInfo,hi,hsz,run_sameAddr_other w hab hf hg]
 simp only[binOp]
 simp[Op.equal,Op.maxDepth,h 9999]
structure ZO(w0 w:World)(bo bm:Nat)(M:DM)(ps0:List (Nat × Nat))(vo0 vm0:Value)(d:Dir)(k:Nat)(l:Value)(w':World):Prop where
 ex:∃ ps vo vm fV d',Twin w0 w' bo bm M (ps.map Prod.fst) ps vo vm fV∧(∀ p,p∈ps0→p∈ps)∧ps.length≤ps0.length+k∧d'.length=k ∧
  (∀ i (h1:i<d.length)(h2:i<d'.length),d'[i].1=d[i].1∧(d[i].2,d'[i].2)∈ps)∧w'.ownsRow 0 148 2 l k (flat d') ∧
  (∀ j,vo.ownBlock=some j→vo0.ownBlock=some j∨w.heap.size≤j)∧(∀ j,vm.ownBlock=some j→vm0.ownBlock=some j∨w.heap.size≤j)
 new:∀ j,l.ownBlock=some j→w.heap.size≤j
 fr:Fr (fun j=>j=bo∨j=bm∨vo0.ownBlock=some j∨vm0.ownBlock=some j) w w'
theorem Twin.far{w0 w w':World}{bo bm:Nat}{M:DM}{os:List Nat}{ps:List (Nat × Nat)}{vo vm l:Value}{fV:Nat→Value}{n:Nat}{xs:List Value}(h:Twin w0 w bo bm M os ps vo vm fV)
  (hl:w.ownsRow 0 148 2 l n xs)(hn:∀ k,l.ownBlock=some k→w0.heap.size≤k)(f:Fr (fun k=>l.ownBlock=some k) w w') :
  Twin w0 w' bo bm M os ps vo vm fV :=
 {h with
  co:=h.co.fr f (za hl h.co (by decide))
  cm:=h.cm.fr f (za hl h.cm (by decide))
  old:=z7 h.old f (fun _ hk e=>Z0 hl h.old (by decide) e hk)
  made:=z7 h.made f (fun _ hk e=>Z0 hl h.made (by decide) e hk)
  files:=fun p hp=>(h.files p hp).fr f (za hl (h.files p hp) (by decide))
  rows:=fun p hp=>z7 (h.rows p hp) f (fun _ hk e=>Z0 hl (h.rows p hp) (by decide) e hk)
  fr:=Fr.trans' h.fr f (fun k hlt hk=>absurd (hn k hk) (by omega))}
theorem ZO.step{w0 w W W1 W2:World}{bo bm:Nat}{M:DM}{ps0 ps:List (Nat × Nat)}{vo0 vm0 vo vm l l':Value}{fV:Nat→Value}{d d1:Dir}{k g:Nat}(hk:k<d.length)(h0:Fr Nil w0 w)
  (T:Twin w0 W bo bm M (ps.map Prod.fst) ps vo vm fV)(hsub:∀ p,p∈ps0→p∈ps)(hpl:ps.length≤ps0.length+(k+1))(hdl:d1.length=k)
  (hpw:∀ i (h1:i<d.length)(h2:i<d1.length),d1[i].1=d[i].1∧(d[i].2,d1[i].2)∈ps)(hown:W.ownsRow 0 148 2 l k (flat d1))(hnew:∀ j,l.ownBlock=some j→w.heap.size≤j)
  (hvo:∀ j,vo.ownBlock=some j→vo0.ownBlock=some j∨w.heap.size≤j)(hvm:∀ j,vm.ownBlock=some j→vm0.ownBlock=some j∨w.heap.size≤j)
  (hfr:Fr (fun j=>j=bo∨j=bm∨vo0.ownBlock=some j∨vm0.ownBlock=some j) w W)(hg:(d[k].2,g)∈ps)(f1:Fr Nil W W1)
  (ha:App W1 l 148 2 (k+1) (flat d1++[.string d[k].1,.pointer (some ⟨g,0,none⟩)]) l' W2) :
  ZO w0 w bo bm M ps0 vo0 vm0 d (k+1) l' W2:=by
 have hs0:=h0.size
 have hsw:=hfr.size
 have hs1:=f1.size
 have hn0:∀ j,l.ownBlock=some j→w0.heap.size≤j:=fun j hj=>by have:=hnew j hj;omega
 refine⟨⟨ps,vo,vm,fV,d1++[(d[k].1,g)],(T.keep f1).far (z7 hown f1 (fun _ _=>id)) hn0 ha.fr,hsub,hpl,by simp[hdl],?_,?_,hvo,hvm⟩,?_,?_⟩
 ·intro i h1 h2
  by_cases e:i<d1.length
  ·rw[List.getElem_append_left e]
   exact hpw i h1 e
  ·have e':i=k:=by simp at h2;omega
   subst e'
   rw[List.getElem_append_right (by omega)]
   simp only[hdl,Nat.sub_self,List.getElem_cons_zero]
   exact⟨trivial,hg⟩
 ·have e:flat (d1++[(d[k].1,g)])=flat d1++[.string d[k].1,.pointer (some ⟨g,0,none⟩)]:=by simp[flat]
  rw[e]
  exact ha.own
 ·intro j hj
  rcases ha.at_ with e|e
  ·exact hnew j (by rw[← e];exact hj)
  ·rw[e] at hj;simp at hj;omega
 ·refine Fr.trans' (hfr.trans (f1.mono (fun _ _=>False.elim))) ha.fr ?_
  intro j hlt hj
  have:=hnew j hj
  omega
theorem Twin.born{w0 W3 w8 w9:World}{bo bm f:Nat}{M:DM}{ps:List (Nat × Nat)}{vo vm v9:Value}{fV:Nat→Value}{a8:Option Addr}{c8:Nat}(T:Twin w0 W3 bo bm M (ps.map Prod.fst++[f]) ps vo vm fV)(hf8:Fr Nil W3 w8)
  (ha8:App W3.drew (.slice none 0 0) 5 1 (0+(M.file f).bytes.length) ([]++u8s (M.file f).bytes) (.slice a8 (0+(M.file f).bytes.length) c8) w8)
  (ha9:App ((w8.alloc (.cells #[.slice a8 (M.file f).bytes.length c8,.int .i64 (M.file f).safe] 152)).alloc (.cells #[.pointer (some ⟨w8.heap.size,0,none⟩)] 146)) vm 146 1 (ps.length+1)
    (ptrs (ps.map Prod.snd)++[.pointer (some ⟨w8.heap.size,0,none⟩)]) v9 w9) :
  Twin w0 (w9.setCell ⟨bm,0,none⟩ v9) bo bm M ((ps++[(f,w8.heap.size)]).map Prod.fst) (ps++[(f,w8.heap.size)]) vo v9 (fun g=>if g=w8.heap.size then .slice a8 (M.file f).bytes.length c8 else fV g) ∧
   Fr (fun k=>k=bm∨vm.ownBlock=some k) W3 (w9.setCell ⟨bm,0,none⟩ v9)∧(∀ k,v9.ownBlock=some k→vm.ownBlock=some k∨W3.heap.size≤k):=by
 have hown:=ha8.own
 simp only[Nat.zero_add,List.nil_append] at hown
 have hat:=ha8.at_
 simp only[Nat.zero_add] at hat
 have hnf:=(Blk.new w8 [.slice a8 (M.file f).bytes.length c8,.int .i64 (M.file f).safe] 152).alloc (.cells #[.pointer (some ⟨w8.heap.size,0,none⟩)] 146)
 have hrow:((w8.alloc (.cells #[.slice a8 (M.file f).bytes.length c8,.int .i64 (M.file f).safe] 152)).alloc (.cells #[.pointer (some ⟨w8.heap.size,0,none⟩)] 146)).ownsRow 0 5 1 (.slice a8 (M.file f).bytes.length c8) (M.file f).bytes.length (u8s (M.file f).bytes) :=
  (hown.alloc _).alloc _
 have h:=T.made_push (v8:=.slice a8 (M.file f).bytes.length c8) ((hf8.alloc _).alloc _) hrow (by
  intro k hk
  rcases hat with e|e
  ·rw[e] at hk;simp[Value.ownBlock] at hk
  ·rw[e] at hk;simp at hk;rw[← hk];exact Nat.le_refl _) hnf hf8.size ha9
 rw[List.map_append]
 exact h
theorem ZO.step_new{w0 w w1 w2 W3 W4 W5 W6:World}{bo bm nf:Nat}{M:DM}{ps0 ps:List (Nat × Nat)}{vo0 vm0 vo vm v3 v9 l l':Value}{fV':Nat→Value}{d d1:Dir}{k:Nat}(hk:k<d.length)(h0:Fr Nil w0 w)
  (hat:ZO w0 w bo bm M ps0 vo0 vm0 d k l w1)(hsub:∀ p,p∈ps0→p∈ps)(hpl:ps.length≤ps0.length+k)(hdl:d1.length=k)
  (hpw:∀ i (h1:i<d.length)(h2:i<d1.length),d1[i].1=d[i].1∧(d[i].2,d1[i].2)∈ps)
  (hvo:∀ j,vo.ownBlock=some j→vo0.ownBlock=some j∨w.heap.size≤j)(hvm:∀ j,vm.ownBlock=some j→vm0.ownBlock=some j∨w.heap.size≤j)
  (hf2:Fr Nil w1 w2)(hf3:Fr (fun j=>j=bo∨vo.ownBlock=some j) w2 W3)(hvo3:∀ j,v3.ownBlock=some j→vo.ownBlock=some j∨w2.heap.size≤j)
  (T5:Twin w0 W4 bo bm M ((ps++[(d[k].2,nf)]).map Prod.fst) (ps++[(d[k].2,nf)]) v3 v9 fV')(hf4:Fr (fun j=>j=bm∨vm.ownBlock=some j) W3 W4)(hvm4:∀ j,v9.ownBlock=some j→vm.ownBlock=some j∨W3.heap.size≤j)
  (hown4:W4.ownsRow 0 148 2 l k (flat d1))(f1:Fr Nil W4 W5)
  (ha:App W5 l 148 2 (k+1) (flat d1++[.string d[k].1,.pointer (some ⟨nf,0,none⟩)]) l' W6) :
  ZO w0 w bo bm M ps0 vo0 vm0 d (k+1) l' W6:=by
 have s1:=hat.fr.size
 have s2:=hf2.size
 have s3:=hf3.size
 refine ZO.step hk h0 T5 (fun p hp=>List.mem_append_left _ (hsub p hp)) (by simp;omega) hdl (fun i h1 h2=>⟨(hpw i h1 h2).1,List.mem_append_left _ (hpw i h1 h2).2⟩) hown4 hat.new ?_ ?_ ?_ (by simp) f1 ha
 ·intro j hj
  rcases hvo3 j hj with e|e
  ·exact hvo j e
  ·exact .inr (by omega)
 ·intro j hj
  rcases hvm4 j hj with e|e
  ·exact hvm j e
  ·exact .inr (by omega)
 ·refine Fr.trans' (Fr.trans' (hat.fr.trans (hf2.mono (fun _ _=>False.elim))) hf3 ?_) hf4 ?_
  ·intro j hlt hj
   rcases hj with e|e
   ·exact .inl e
   ·rcases hvo j e with e'|e'
    ·exact .inr (.inr (.inl e'))
    ·omega
  ·intro j hlt hj
   rcases hj with e|e
   ·exact .inr (.inl e)
   ·rcases hvm j e with e'|e'
    ·exact .inr (.inr (.inr e'))
    ·omega
theorem Mr{w0 w2 W3 W4:World}{bo bm:Nat}{M:DM}{os os':List Nat}{ps ps':List (Nat × Nat)}{vo vm vo' l:Value}{fV fV':Nat→Value}{n:Nat}{xs:List Value}(T2:Twin w0 w2 bo bm M os ps vo vm fV)
  (T3:Twin w0 W3 bo bm M os' ps' vo' vm fV')(hl:w2.ownsRow 0 148 2 l n xs)(hf3:Fr (fun j=>j=bo∨vo.ownBlock=some j) w2 W3)(hf4:Fr (fun j=>j=bm∨vm.ownBlock=some j) W3 W4) :
  W4.ownsRow 0 148 2 l n xs:=by
 have h3:W3.ownsRow 0 148 2 l n xs:=z7 hl hf3 (fun k hk e=>by
  rcases e with e|e
  ·subst e;exact za hl T2.co (by decide) hk
  ·exact Z0 T2.old hl (by decide) e hk)
 exact z7 h3 hf4 (fun k hk e=>by
  rcases e with e|e
  ·subst e;exact za h3 T3.cm (by decide) hk
  ·exact Z0 T3.made h3 (by decide) e hk)
theorem Ms{w0 W3 W4:World}{bo bm g:Nat}{M:DM}{os':List Nat}{ps':List (Nat × Nat)}{vm vo':Value}{fV':Nat→Value}{c:List Value}
  (T3:Twin w0 W3 bo bm M os' ps' vo' vm fV')(hb:Blk W3 g c 148)(hf4:Fr (fun j=>j=bm∨vm.ownBlock=some j) W3 W4):Blk W4 g c 148 :=
 hb.fr hf4 (fun e=>by
  rcases e with e|e
  ·exact hb.ne T3.cm (by decide) e
  ·exact za T3.made hb (by decide) e)
structure Own(w0 w:World)(b:Nat)(L:DL)(M:DM):Prop where
 rep:DRep w b L M
 fr:Fr Nil w0 w
 new:∀ k,Foot b L M k→w0.heap.size≤k
theorem U4:∀(l m:List Nat),l.Nodup→(∀ x,x∈l→x∈m)→l.length≤m.length
 | [],_,_,_=>by simp
 | x::l,m,hn,hs=>by
  have hx:x∈m:=hs x (List.mem_cons_self ..)
  rw[List.nodup_cons] at hn
  have:=U4 l (m.erase x) hn.2 (fun y hy=>by
   have hy':=hs y (List.mem_cons_of_mem _ hy)
   exact(List.mem_erase_of_ne (fun e:y=x=>hn.1 (by rw[← e];exact hy))).2 hy')
  have e:=List.length_erase_of_mem hx
  have hp:0<m.length:=List.length_pos_of_mem hx
  simp only[List.length_cons]
  omega
structure Rel(ps:List (Nat × Nat))(d d':Dir):Prop where
 len:d'.length=d.length
 at_:∀ i (h1:i<d.length) (h2:i<d'.length),d'[i].1=d[i].1∧(d[i].2,d'[i].2)∈ps
theorem Rel.more{ps ps':List (Nat × Nat)}{d d':Dir}(h:Rel ps d d')(hs:∀ p,p∈ps→p∈ps'):Rel ps' d d' :=
 ⟨h.len,fun i h1 h2=>⟨(h.at_ i h1 h2).1,hs _ (h.at_ i h1 h2).2⟩⟩
def second(ps:List (Nat × Nat))(f:Nat):Nat:=((ps.find? fun p=>p.1==f).map Prod.snd).getD 0
def first(ps:List (Nat × Nat))(g:Nat):Nat:=((ps.find? fun p=>p.2==g).map Prod.fst).getD 0
theorem Vo:∀{ps:List (Nat × Nat)}{f g:Nat},(ps.map Prod.fst).Nodup→(f,g)∈ps→second ps f=g
 | [],_,_,_,h=>by cases h
 | p::ps,f,g,hn,h=>by
  rw[List.map_cons,List.nodup_cons] at hn
  rcases List.mem_cons.1 h with e|h'
  ·subst e;simp[second]
  ·have hne:(p.1==f)=false:=by
    rw[beq_eq_false_iff_ne]
    intro e
    exact hn.1 (by rw[e];exact List.mem_map.2 ⟨_,h',rfl⟩)
   have:=Vo hn.2 h'
   unfold second at this ⊢
   rw[List.find?_cons,hne]
   exact this
theorem WK:∀{ps:List (Nat × Nat)}{f g:Nat},(ps.map Prod.snd).Nodup→(f,g)∈ps→first ps g=f
 | [],_,_,_,h=>by cases h
 | p::ps,f,g,hn,h=>by
  rw[List.map_cons,List.nodup_cons] at hn
  rcases List.mem_cons.1 h with e|h'
  ·subst e;simp[first]
  ·have hne:(p.2==g)=false:=by
    rw[beq_eq_false_iff_ne]
    intro e
    exact hn.1 (by rw[e];exact List.mem_map.2 ⟨_,h',rfl⟩)
   have:=WK hn.2 h'
   unfold first at this ⊢
   rw[List.find?_cons,hne]
   exact this
def Zd(ps:List (Nat × Nat))(d:Dir):Dir:=d.map fun e=>(e.1,second ps e.2)
theorem Rel.eq{ps:List (Nat × Nat)}{d d':Dir}(hn:(ps.map Prod.fst).Nodup)(h:Rel ps d d'):d'=Zd ps d:=by
 refine List.ext_getElem (by rw[h.len];simp[Zd]) ?_
 intro i h1 h2
 have h3:i<d.length:=by rw[← h.len];exact h1
 obtain⟨e1,e2⟩:=h.at_ i h3 h1
 have e3:=Vo hn e2
 simp only[Zd,List.getElem_map,e3]
 exact Prod.ext e1 rfl
theorem Rel.mem{ps:List (Nat × Nat)}{d d':Dir}(h:Rel ps d d'):∀ e,e∈d'→∃ p,p∈ps∧p.2=e.2:=by
 intro e he
 obtain⟨i,hi,rfl⟩:=List.mem_iff_getElem.1 he
 have h3:i<d.length:=by rw[← h.len];exact hi
 exact⟨_,(h.at_ i h3 hi).2,rfl⟩
def DM.twin(M:DM)(ps:List (Nat × Nat)):DM :=
 {M with dir:=Zd ps M.dir,safe:=Zd ps M.safe,chs:=M.chs.map (Zd ps),file:=fun g=>M.file (first ps g),ids:=ps.map Prod.snd}
structure zN(w0 w:World)(bo bm nb:Nat)(M:DM)(D S:Dir)(k:Nat)(ps:List (Nat × Nat))(vo vm:Value)(fV:Nat→Value)(L:DL)(d1 s1:Dir)(c1:List Dir):Prop where
 T:Twin w0 w bo bm M (ps.map Prod.fst) ps vo vm fV
 blk:Blk w nb (M.cells L) 143
 nb0:w0.heap.size≤nb
 dir:w.ownsRow 0 148 2 L.dirV d1.length (flat d1)
 safe:w.ownsRow 0 148 2 L.safeV s1.length (flat s1)
 ch:w.ownsRow 0 145 1 L.chV k L.chVs
 chl:L.chVs.length=k
 cl:c1.length=k
 chs:∀ i (h1:i<L.chVs.length) (h2:i<c1.length),w.ownsRow 0 148 2 L.chVs[i] c1[i].length (flat c1[i])
 rd:Rel ps D d1
 rs:Rel ps S s1
 rc:∀ i (h1:i<c1.length) (h2:i<M.chs.length),Rel ps M.chs[i] c1[i]
 nd:∀ j,L.dirV.ownBlock=some j→w0.heap.size≤j
 ns:∀ j,L.safeV.ownBlock=some j→w0.heap.size≤j
 nc:∀ j,L.chV.ownBlock=some j→w0.heap.size≤j
 ncs:∀ i (h1:i<L.chVs.length) j,L.chVs[i].ownBlock=some j→w0.heap.size≤j
theorem zN.keep{w0 w w':World}{bo bm nb:Nat}{M:DM}{D S:Dir}{k:Nat}{ps:List (Nat × Nat)}{vo vm:Value}{fV:Nat→Value}{L:DL}{d1 s1:Dir}{c1:List Dir}
  (h:zN w0 w bo bm nb M D S k ps vo vm fV L d1 s1 c1)(f:Fr Nil w w'):zN w0 w' bo bm nb M D S k ps vo vm fV L d1 s1 c1 :=
 {h with
  T:=h.T.keep f
  blk:=h.blk.fr f id
  dir:=z7 h.dir f (fun _ _=>id)
  safe:=z7 h.safe f (fun _ _=>id)
  ch:=z7 h.ch f (fun _ _=>id)
  chs:=fun i h1 h2=>z7 (h.chs i h1 h2) f (fun _ _=>id)}
theorem Xk{w0 w w':World}{bo bm:Nat}{M:DM}{os:List Nat}{ps:List (Nat × Nat)}{vo vm:Value}{fV:Nat→Value}{e:TypeId}{size n:Nat}{v:Value}{xs:List Value}(T:Twin w0 w bo bm M os ps vo vm fV)
  (f:Fr (fun j=>j=bo∨j=bm∨vo.ownBlock=some j∨vm.ownBlock=some j) w w')(hv:w.ownsRow 0 e size v n xs)(h1:e≠168)(h2:e≠146):w'.ownsRow 0 e size v n xs :=
 z7 hv f (fun k hk e=>by
  rcases e with e|e|e|e
  ·subst e;exact za hv T.co (Ne.symm h1) hk
  ·subst e;exact za hv T.cm (Ne.symm h1) hk
  ·exact Z0 T.old hv (Ne.symm h2) e hk
  ·exact Z0 T.made hv (Ne.symm h2) e hk)
theorem S3{w0 w w':World}{bo bm g:Nat}{M:DM}{os:List Nat}{ps:List (Nat × Nat)}{vo vm:Value}{fV:Nat→Value}{e:TypeId}{c:List Value}(T:Twin w0 w bo bm M os ps vo vm fV)
  (f:Fr (fun j=>j=bo∨j=bm∨vo.ownBlock=some j∨vm.ownBlock=some j) w w')(hv:Blk w g c e)(h1:e≠168)(h2:e≠146):Blk w' g c e :=
 hv.fr f (fun e=>by
  rcases e with e|e|e|e
  ·exact hv.ne T.co h1 e
  ·exact hv.ne T.cm h1 e
  ·exact za T.old hv h2 e
  ·exact za T.made hv h2 e)
structure Pc(w0 w w':World)(bo bm nb:Nat)(M:DM)(D S:Dir)(k:Nat)(ps:List (Nat × Nat))(L:DL)(d1 s1:Dir)(c1:List Dir)(d:Dir)(l:Value):Prop where
 ex:∃ ps' vo' vm' fV' d',zN w0 w' bo bm nb M D S k ps' vo' vm' fV' L d1 s1 c1∧(∀ p,p∈ps→p∈ps')∧Rel ps' d d'∧w'.ownsRow 0 148 2 l d'.length (flat d') ∧
   (∀ j,l.ownBlock=some j→w0.heap.size≤j)
 blk:∀ (g:Nat) (c:List Value) (e:TypeId),Blk w g c e→e≠168→e≠146→Blk w' g c e
 row:∀ (v:Value) (n size:Nat) (xs:List Value) (e:TypeId),w.ownsRow 0 e size v n xs→e≠168→e≠146→w'.ownsRow 0 e size v n xs
theorem zN.other{w0 w w':World}{bo bm nb:Nat}{M:DM}{D S:Dir}{k:Nat}{ps:List (Nat × Nat)}{vo vm l:Value}{fV:Nat→Value}{L:DL}{d1 s1 d:Dir}{c1:List Dir}
  (h:zN w0 w bo bm nb M D S k ps vo vm fV L d1 s1 c1)(o:ZO w0 w bo bm M ps vo vm d d.length l w'):Pc w0 w w' bo bm nb M D S k ps L d1 s1 c1 d l:=by
 obtain⟨ps',vo',vm',fV',d',T',hs,_,hl,hp,ho,_,_⟩:=o.ex
 have hw:=h.T.fr.size
 refine⟨⟨ps',vo',vm',fV',d',?_,hs,⟨hl,hp⟩,by rw[hl];exact ho,fun j hj=>Nat.le_trans hw (o.new j hj)⟩,fun _ _ _ hb=>S3 h.T o.fr hb,fun _ _ _ _ _ hv=>Xk h.T o.fr hv⟩
 exact {h with
  T:=T'
  blk:=S3 h.T o.fr h.blk (by decide) (by decide)
  dir:=Xk h.T o.fr h.dir (by decide) (by decide)
  safe:=Xk h.T o.fr h.safe (by decide) (by decide)
  ch:=Xk h.T o.fr h.ch (by decide) (by decide)
  chs:=fun i h1 h2=>Xk h.T o.fr (h.chs i h1 h2) (by decide) (by decide)
  rd:=h.rd.more hs
  rs:=h.rs.more hs
  rc:=fun i h1 h2=>(h.rc i h1 h2).more hs}
theorem zN.far{w0 w w':World}{bo bm nb:Nat}{M:DM}{D S D' S':Dir}{k k':Nat}{ps:List (Nat × Nat)}{vo vm:Value}{fV:Nat→Value}{L L':DL}{d1 s1 d1' s1':Dir}{c1 c1':List Dir}
  (h:zN w0 w bo bm nb M D S k ps vo vm fV L d1 s1 c1)(f:Fr (fun j=>j=nb∨L.chV.ownBlock=some j) w w')
  (blk:Blk w' nb (M.cells L') 143)
  (dir:w'.ownsRow 0 148 2 L'.dirV d1'.length (flat d1'))
  (safe:w'.ownsRow 0 148 2 L'.safeV s1'.length (flat s1'))
  (ch:w'.ownsRow 0 145 1 L'.chV k' L'.chVs)
  (chl:L'.chVs.length=k')
  (cl:c1'.length=k')
  (chs:∀ i (h1:i<L'.chVs.length)(h2:i<c1'.length),w'.ownsRow 0 148 2 L'.chVs[i] c1'[i].length (flat c1'[i]))
  (rd:Rel ps D' d1')
  (rs:Rel ps S' s1')
  (rc:∀ i (h1:i<c1'.length)(h2:i<M.chs.length),Rel ps M.chs[i] c1'[i])
  (nd:∀ j,L'.dirV.ownBlock=some j→w0.heap.size≤j)
  (ns:∀ j,L'.safeV.ownBlock=some j→w0.heap.size≤j)
  (nc:∀ j,L'.chV.ownBlock=some j→w0.heap.size≤j)
  (ncs:∀ i (h1:i<L'.chVs.length) j,L'.chVs[i].ownBlock=some j→w0.heap.size≤j):zN w0 w' bo bm nb M D' S' k' ps vo vm fV L' d1' s1' c1' where
 T:=by
  have b1:∀ {g:Nat} {c:List Value} {e:TypeId},Blk w g c e→e≠143→e≠145→Blk w' g c e:=fun hb h1 h2=>hb.fr f (fun e=>by
   rcases e with e|e
   ·exact hb.ne h.blk h1 e
   ·exact za h.ch hb h2 e)
  have b2:∀ {v:Value} {n size:Nat} {xs:List Value} {e:TypeId},w.ownsRow 0 e size v n xs→e≠143→e≠145→w'.ownsRow 0 e size v n xs:=fun hv h1 h2=>z7 hv f (fun k hk e=>by
   rcases e with e|e
   ·subst e;exact za hv h.blk (Ne.symm h1) hk
   ·exact Z0 h.ch hv (Ne.symm h2) e hk)
  exact {h.T with
   co:=b1 h.T.co (by decide) (by decide)
   cm:=b1 h.T.cm (by decide) (by decide)
   old:=b2 h.T.old (by decide) (by decide)
   made:=b2 h.T.made (by decide) (by decide)
   files:=fun p hp=>b1 (h.T.files p hp) (by decide) (by decide)
   rows:=fun p hp=>b2 (h.T.rows p hp) (by decide) (by decide)
   fr:=Fr.trans' h.T.fr f (fun j hlt hj=>by
    rcases hj with e|e
    ·have:=h.nb0;omega
    ·have:=h.nc j e;omega)}
 blk:=blk
 nb0:=h.nb0
 dir:=dir
 safe:=safe
 ch:=ch
 chl:=chl
 cl:=cl
 chs:=chs
 rd:=rd
 rs:=rs
 rc:=rc
 nd:=nd
 ns:=ns
 nc:=nc
 ncs:=ncs
theorem zN.lists{w0 w w':World}{bo bm nb:Nat}{M:DM}{D S D' S':Dir}{ps:List (Nat × Nat)}{vo vm v1 v2:Value}{fV:Nat→Value}{L:DL}{d1 s1 d2 s2:Dir}
  (h:zN w0 w bo bm nb M D S 0 ps vo vm fV L d1 s1 [])(f:Fr (fun j=>j=nb) w w')(hb:Blk w' nb (M.cells {L with dirV:=v1,safeV:=v2}) 143)
  (h1:w.ownsRow 0 148 2 v1 d2.length (flat d2))(h2:w.ownsRow 0 148 2 v2 s2.length (flat s2))(r1:Rel ps D' d2)(r2:Rel ps S' s2)
  (n1:∀ j,v1.ownBlock=some j→w0.heap.size≤j)(n2:∀ j,v2.ownBlock=some j→w0.heap.size≤j) :
  zN w0 w' bo bm nb M D' S' 0 ps vo vm fV {L with dirV:=v1,safeV:=v2} d2 s2 []:=by
 have b2:∀ {v:Value} {n size:Nat} {xs:List Value} {e:TypeId},w.ownsRow 0 e size v n xs→e≠143→w'.ownsRow 0 e size v n xs:=fun hv h1=>z7 hv f (fun k hk e=>by
  subst e;exact za hv h.blk (Ne.symm h1) hk)
 refine h.far (f.mono (fun _ _=>.inl)) hb (b2 h1 (by decide)) (b2 h2 (by decide)) (b2 h.ch (by decide)) h.chl rfl (fun i h1 h2=>absurd h2 (Nat.not_lt_zero _)) r1 r2 (fun i h1=>absurd h1 (Nat.not_lt_zero _)) n1 n2 h.nc h.ncs
theorem zN.push{w0 w w1 w2:World}{bo bm nb:Nat}{M:DM}{D S:Dir}{k:Nat}{ps:List (Nat × Nat)}{vo vm l v':Value}{fV:Nat→Value}{L:DL}{d1 s1 d':Dir}{c1:List Dir}(hk:k<M.chs.length)
  (h:zN w0 w bo bm nb M D S k ps vo vm fV L d1 s1 c1)(f1:Fr Nil w w1)(ha:App w1 L.chV 145 1 (k+1) (L.chVs++[l]) v' w2)
  (hl:w.ownsRow 0 148 2 l d'.length (flat d'))(hr:Rel ps M.chs[k] d')(hn:∀ j,l.ownBlock=some j→w0.heap.size≤j) :
  zN w0 (w2.setCell ⟨nb,2,none⟩ v') bo bm nb M D S (k+1) ps vo vm fV {L with chV:=v',chVs:=L.chVs++[l]} d1 s1 (c1++[d']):=by
 have h1:=h.keep f1
 have s1:=h1.T.fr.size
 have hb2:Blk w2 nb (M.cells L) 143:=h1.blk.fr ha.fr (za h1.ch h1.blk (by decide))
 have hw2:Fr (fun k=>k=nb) w2 (w2.setCell ⟨nb,2,none⟩ v'):=Fr.set (S:=fun k=>k=nb) (p:=⟨nb,2,none⟩) (G _ _) (fun _=>rfl) v'
 have hfr:Fr (fun k=>k=nb∨L.chV.ownBlock=some k) w1 (w2.setCell ⟨nb,2,none⟩ v') :=
  (ha.fr.mono (fun _ _=>.inr)).trans (hw2.mono (fun _ _=>.inl))
 have b2:∀ {v:Value} {n size:Nat} {xs:List Value},w1.ownsRow 0 148 size v n xs→(w2.setCell ⟨nb,2,none⟩ v').ownsRow 0 148 size v n xs:=fun hv=>z7 hv hfr (fun k hk e=>by
  rcases e with e|e
  ·subst e;exact za hv h1.blk (by decide) hk
  ·exact Z0 h1.ch hv (by decide) e hk)
 have hlen:(L.chVs++[l]).length=k+1:=by simp[h.chl]
 refine h1.far hfr (hb2.set 2 v') (b2 h1.dir) (b2 h1.safe) ?_ hlen (by simp[h.cl]) ?_ h.rd h.rs ?_ h.nd h.ns ?_ ?_
 ·exact z7 ha.own hw2 (fun k hk e=>by subst e;exact za ha.own hb2 (by decide) hk)
 ·intro i i1 i2
  simp only[List.length_append,List.length_cons,List.length_nil] at i1 i2
  by_cases e:i<k
  ·have e1:(L.chVs++[l])[i]=L.chVs[i]'(by rw[h.chl];exact e):=List.getElem_append_left _
   have e2:(c1++[d'])[i]=c1[i]'(by rw[h.cl];exact e):=List.getElem_append_left _
   simp only[e1,e2]
   exact b2 (h1.chs i _ _)
  ·have hi:i=k:=by have:=h.chl;omega
   have e1:(L.chVs++[l])[i]=l:=by simp[h.chl,hi]
   have e2:(c1++[d'])[i]=d':=by simp[h.cl,hi]
   simp only[e1,e2]
   exact b2 (z7 hl f1 (fun _ _=>id))
 ·intro i i1 i2
  simp only[List.length_append,List.length_cons,List.length_nil] at i1
  by_cases e:i<k
  ·have e2:(c1++[d'])[i]=c1[i]'(by rw[h.cl];exact e):=List.getElem_append_left _
   simp only[e2]
   exact h.rc i _ i2
  ·have hi:i=k:=by have:=h.cl;omega
   subst hi
   have e2:(c1++[d'])[i]=d':=by simp[h.cl]
   simp only[e2]
   exact hr
 ·intro j hj
  rcases ha.at_ with e|e
  ·exact h.nc j (by rw[← e];exact hj)
  ·rw[e] at hj;simp at hj;omega
 ·intro i i1 j hj
  simp only[List.length_append,List.length_cons,List.length_nil] at i1
  by_cases e:i<k
  ·have e1:(L.chVs++[l])[i]=L.chVs[i]'(by rw[h.chl];exact e):=List.getElem_append_left _
   simp only[e1] at hj
   exact h.ncs i _ j hj
  ·have hi:i=k:=by have:=h.chl;omega
   have e1:(L.chVs++[l])[i]=l:=by simp[h.chl,hi]
   simp only[e1] at hj
   exact hn j hj
theorem zN.whole{w0 w:World}{bo bm nb:Nat}{M:DM}{ps:List (Nat × Nat)}{vo vm:Value}{fV:Nat→Value}{L:DL}{d1 s1:Dir}{c1:List Dir}
  (h:zN w0 w bo bm nb M M.dir M.safe M.chs.length ps vo vm fV L d1 s1 c1)(hle:∀ f,f∈M.ids→(M.file f).safe≤(M.file f).bytes.length):Own w0 w nb {L with fV:=fV} (M.twin ps):=by
 have hd:=h.rd.eq h.T.n1
 have hs:=h.rs.eq h.T.n1
 have hc:c1=M.chs.map (Zd ps):=by
  refine List.ext_getElem (by rw[h.cl];simp) ?_
  intro i h1 h2
  rw[List.getElem_map]
  exact(h.rc i h1 (by rw[← h.cl];exact h1)).eq h.T.n1
 have hids:∀ g,g∈ps.map Prod.snd→∃ p,p∈ps∧p.2=g∧first ps g=p.1:=by
  intro g hg
  obtain⟨p,hp,rfl⟩:=List.mem_map.1 hg
  exact⟨p,hp,rfl,WK h.T.n2 hp⟩
 have hmem:∀ {d d':Dir},Rel ps d d'→∀ e,e∈d'→e.2∈ps.map Prod.snd:=fun hr e he=>by
  obtain⟨p,hp,hpe⟩:=hr.mem e he
  exact List.mem_map.2 ⟨p,hp,hpe⟩
 refine⟨?_,h.T.fr,?_⟩
 ·exact {
   blk:=h.blk
   dir:=by
    have:=h.dir
    rw[hd] at this
    exact this
   safe:=by
    have:=h.safe
    rw[hs] at this
    exact this
   ch:=by
    have e:(M.twin ps).chs.length=M.chs.length:=by simp[DM.twin]
    rw[e]
    exact h.ch
   chl:=by simp[DM.twin,h.chl]
   chs:=by
    have:=h.chs
    rw[hc] at this
    exact this
   files:=fun g hg=>by
    obtain⟨p,hp,rfl,he⟩:=hids g hg
    have:=h.T.files p hp
    simp only[DM.twin,he]
    exact this
   rows:=fun g hg=>by
    obtain⟨p,hp,rfl,he⟩:=hids g hg
    have:=h.T.rows p hp
    simp only[DM.twin,he]
    exact this
   sep:=fun f hf g hg hne k hk=>by
    obtain⟨p,hp,rfl,_⟩:=hids f hf
    obtain⟨q,hq,rfl,_⟩:=hids g hg
    exact h.T.sep p hp q hq hne k hk
   le:=fun g hg=>by
    obtain⟨p,hp,rfl,he⟩:=hids g hg
    simp only[DM.twin,he]
    exact hle _ (h.T.ids _ (List.mem_map_of_mem hp))
   inD:=fun e he=>hmem h.rd e (by rw[hd];exact he)
   inS:=fun e he=>hmem h.rs e (by rw[hs];exact he)
   inC:=fun d hdm e he=>by
    have hdm':d∈c1:=by rw[hc];exact hdm
    obtain⟨i,hi,rfl⟩:=List.mem_iff_getElem.1 hdm'
    exact hmem (h.rc i hi (by rw[← h.cl];exact hi)) e he}
 ·intro k hk
  cases hk using Foot.elim with
  | blk=>exact h.nb0
  | dir e=>exact h.nd k e
  | safe e=>exact h.ns k e
  | ch e=>exact h.nc k e
  | chs i h1 e=>exact h.ncs i h1 k e
  | file e =>
   obtain⟨p,hp,rfl⟩:=List.mem_map.1 e
   exact h.T.nf p hp
  | row f hf e =>
   obtain⟨p,hp,rfl,_⟩:=hids f hf
   exact h.T.nr p hp k e
def RS(w:World)(M:DM)(e:Ending)(w':World):Prop :=
 ∃ b' L' ps,e=.returned (.pointer (some ⟨b',0,none⟩))∧Own w w' b' L' (M.twin ps)∧(ps.map Prod.fst).Nodup∧(ps.map Prod.snd).Nodup∧(∀ p,p∈ps→p.1∈M.ids∧w.heap.size≤p.2) ∧
  (∀ e,e∈M.dir∨e∈M.safe∨(∃ d,d∈M.chs∧e∈d)→∃ g,(e.2,g)∈ps)
theorem Rel.hit{ps:List (Nat × Nat)}{d d':Dir}(h:Rel ps d d'):∀ e,e∈d→∃ g,(e.2,g)∈ps:=by
 intro e he
 obtain⟨i,hi,rfl⟩:=List.mem_iff_getElem.1 he
 have h3:i<d'.length:=by rw[h.len];exact hi
 exact⟨_,(h.at_ i hi h3).2⟩
theorem zN.said{w0 w:World}{bo bm nb:Nat}{M:DM}{ps:List (Nat × Nat)}{vo vm:Value}{fV:Nat→Value}{L:DL}{d1 s1:Dir}{c1:List Dir}
  (h:zN w0 w bo bm nb M M.dir M.safe M.chs.length ps vo vm fV L d1 s1 c1)(hle:∀ f,f∈M.ids→(M.file f).safe≤(M.file f).bytes.length):RS w0 M (.returned (.pointer (some ⟨nb,0,none⟩))) w:=by
 refine⟨nb,_,ps,rfl,h.whole hle,h.T.n1,h.T.n2,fun p hp=>⟨h.T.ids _ (List.mem_map_of_mem hp),h.T.nf p hp⟩,?_⟩
 intro e he
 rcases he with he|he|⟨d,hd,he⟩
 ·exact h.rd.hit e he
 ·exact h.rs.hit e he
 ·obtain⟨i,hi,rfl⟩:=List.mem_iff_getElem.1 hd
  exact(h.rc i (by rw[h.cl];exact hi) hi).hit e he
theorem Twin.start{w W:World}{bo bm:Nat}(M:DM)(h1:Blk W bo [.slice none 0 0] 168)(h2:Blk W bm [.slice none 0 0] 168)(hne:bo≠bm)(nbo:w.heap.size≤bo)(nbm:w.heap.size≤bm)(f:Fr Nil w W)(fV:Nat→Value) :
  Twin w W bo bm M [] [] (.slice none 0 0) (.slice none 0 0) fV where
 co:=h1
 cm:=h2
 ne:=hne
 old:=World.ownsRow_nil W 0 _ _
 made:=World.ownsRow_nil W 0 _ _
 sepo:=fun k hk=>by simp[Value.ownBlock] at hk
 files:=fun p hp=>by cases hp
 rows:=fun p hp=>by cases hp
 sep:=fun p hp=>by cases hp
 n1:=List.nodup_nil
 n2:=List.nodup_nil
 ids:=fun f hf=>by cases hf
 nbo:=nbo
 nbm:=nbm
 no:=fun k hk=>by simp[Value.ownBlock] at hk
 nm:=fun k hk=>by simp[Value.ownBlock] at hk
 nf:=fun p hp=>by cases hp
 nr:=fun p hp=>by cases hp
 fr:=f
theorem zN.start{w W:World}{bo bm nb:Nat}(M:DM)(T:Twin w W bo bm M [] [] (.slice none 0 0) (.slice none 0 0) DL.new.fV)(hb:Blk W nb (M.cells DL.new) 143)(nb0:w.heap.size≤nb) :
  zN w W bo bm nb M [] [] 0 [] (.slice none 0 0) (.slice none 0 0) DL.new.fV DL.new [] [] [] where
 T:=T
 blk:=hb
 nb0:=nb0
 dir:=World.ownsRow_nil W 0 _ _
 safe:=World.ownsRow_nil W 0 _ _
 ch:=World.ownsRow_nil W 0 _ _
 chl:=rfl
 cl:=rfl
 chs:=fun i h1=>absurd h1 (Nat.not_lt_zero _)
 rd:=⟨rfl,fun i h1=>absurd h1 (Nat.not_lt_zero _)⟩
 rs:=⟨rfl,fun i h1=>absurd h1 (Nat.not_lt_zero _)⟩
 rc:=fun i h1=>absurd h1 (Nat.not_lt_zero _)
 nd:=fun j hj=>by simp[DL.new,Value.ownBlock] at hj
 ns:=fun j hj=>by simp[DL.new,Value.ownBlock] at hj
 nc:=fun j hj=>by simp[DL.new,Value.ownBlock] at hj
 ncs:=fun i h1=>absurd h1 (Nat.not_lt_zero _)
end Go.Proofs.YtkhnggkkiefcdaaGreatDoor
