/- larder: joined texts -/
import Derived.Test.YtkhnggkkiefcdaaGreatDoorRAAB
import Derived.Deep.RegionLaw
import Derived.Test.YtkhnggkkiefcdaaGreatDoorChecked
import Derived.Laws.StructEq
namespace Go.Proofs.YtkhnggkkiefcdaaGreatDoor
open Go.RowKit
set_option maxRecDepth 100000
set_option maxHeartbeats 8000000
theorem VA:((Tryz.prog.info? 145).map fun i=>(i.zero.map (·.cells.size),i.size,i.bytes))=some (some 1,1,24):=by kernel_rfl
theorem Xs:((Tryz.prog.info? 148).map fun i=>(i.zero.map (·.cells.size),i.size,i.bytes))=some (some 2,2,24):=by kernel_rfl
theorem XA:((Tryz.prog.info? 5).map fun i=>(i.zero.map (·.cells.size),i.size,i.bytes))=some (some 1,1,1):=by kernel_rfl
def DM.turned(M:DM)(d:Dir):DM:={M with dir:=d,chs:=M.chs++[d]}
def DL.turned(L:DL)(v chV:Value):DL:={L with dirV:=v,chV:=chV,chVs:=L.chVs++[v]}
theorem DRep.turned{w w':World}{b:Nat}{L:DL}{M:DM}(h:DRep w b L M){d:Dir}{v chV:Value}
  (hb:Blk w' b ((M.turned d).cells (L.turned v chV)) 143)(hd:w.ownsRow 0 148 2 v d.length (flat d))
  (hc:w'.ownsRow 0 145 1 chV (M.chs.length+1) (L.chVs++[v]))(f:Fr (fun k=>k=b∨L.chV.ownBlock=some k) w w')
  (hi:∀ e,e∈d→e.2∈M.ids):DRep w' b (L.turned v chV) (M.turned d):=by
 have far:∀ {v:Value} {n:Nat} {xs:List Value},w.ownsRow 0 148 2 v n xs→w'.ownsRow 0 148 2 v n xs:=fun ho =>
  z7 ho f fun k e hk=>by
   rcases hk with rfl|hk
   ·exact za ho h.blk (by decide) e
   ·exact Z0 ho h.ch (by decide) e hk
 exact {
  blk:=hb
  dir:=far hd
  safe:=far h.safe
  ch:=by
   have:(M.turned d).chs.length=M.chs.length+1:=by simp[DM.turned]
   rw[this]
   exact hc
  chl:=by simp[DM.turned,DL.turned,h.chl]
  chs:=fun i h1 h2=>by
   simp only[DM.turned,DL.turned,List.length_append,List.length_cons,List.length_nil] at h1 h2
   by_cases hlt:i<M.chs.length
   ·have e1:(L.turned v chV).chVs[i]=L.chVs[i]'(by rw[h.chl];exact hlt):=by simp[DL.turned,h.chl,hlt]
    have e2:(M.turned d).chs[i]=M.chs[i]:=by simp[DM.turned,hlt]
    rw[e1,e2]
    exact far (h.chs i _ hlt)
   ·have hi:i=M.chs.length:=by omega
    have e1:(L.turned v chV).chVs[i]=v:=by simp[DL.turned,List.getElem_append,h.chl,hlt]
    have e2:(M.turned d).chs[i]=d:=by simp[DM.turned,List.getElem_append,hlt]
    rw[e1,e2]
    exact far hd
  files:=fun g hg=>(h.files g hg).fr f fun hk=>by
   rcases hk with e|hk
   ·exact(h.files g hg).ne h.blk (by decide) e
   ·exact za h.ch (h.files g hg) (by decide) hk
  rows:=fun g hg=>z7 (h.rows g hg) f fun k e hk=>by
   rcases hk with rfl|hk
   ·exact za (h.rows g hg) h.blk (by decide) e
   ·exact Z0 (h.rows g hg) h.ch (by decide) e hk
  sep:=h.sep
  le:=h.le
  inD:=hi
  inS:=h.inS
  inC:=fun c hc=>by
   simp only[DM.turned,List.mem_append,List.mem_singleton] at hc
   rcases hc with hc|rfl
   ·exact h.inC c hc
   ·exact hi}
theorem SY(v:Value)(d:Dir)(w:World)(b:Nat)(L:DL)(M:DM)(h:DRep w b L M)(hd:w.ownsRow 0 148 2 v d.length (flat d))
  (hi:∀ e,e∈d→e.2∈M.ids)(hn:M.chs.length+1≤1000000000000) :
  Calls Tryz.prog 219 #[.pointer (some ⟨b,0,none⟩),v] w fun e w' =>
   e=.returned (.tuple #[])∧∃ chV,DRep w' b (L.turned v chV) (M.turned d)∧Fr (fun k=>k=b∨L.chV.ownBlock=some k) w w'∧(chV.ownBlock=L.chV.ownBlock∨∃ k,chV.ownBlock=some k∧w.heap.size≤k):=by
 have hc:=h.blk.cell
 have hf:=h.blk.frozen
 simp only[DM.cells] at hc
 obtain⟨a,cap,hv⟩:=z8 hd
 obtain⟨ca,ccap,hcv⟩:=z8 h.ch
 have hlt:=h.blk.lt
 rw[hcv] at hc
 have HH:=Z h
 have HD:=Z hd
 have HV:=Z hv
 have HC:=Z hcv
 clear h hd
 rw[hv]
 have ho:=(z7 HH.out.ch (w':=(w.setCell ⟨b,0,none⟩ (.slice a d.length cap)).alloc (.cells #[.slice a d.length cap] 145)) (S:=fun k=>k=b) (by repeat' first|exact G _ _|(with_reducible assumption)|refine Fr.drewN ?_ _|refine Fr.drew ?_|refine Fr.alloc ?_ _|refine Fr.set ?_ ?_ _|(intro _;rfl))
  (fun k e hk=>by subst hk;exact za HH.out.ch HH.out.blk (by decide) e))
 rw[hcv] at ho
 clear hv hcv
 go_enter Tryz.func219,Tryz.ntmps219
 go_wp2_with (at_builtin;go_must (refine zf rfl _ _ _ _ rfl _ _ (by rfl) (by rfl) (zo (w:=_) 141 _ 145 1 24 Tryz.underlying141 VA (by decide) _ _ _ ho
  ⟨w.heap.size,0,none⟩ 1 1 [.slice a d.length cap] rfl (Xa _ _ _ _ (by simp)) (by intro u hu;simp at hu;subst hu;rfl) (by unfold maxLen;omega) (by omega)) ?_))
 intro v' w' happ
 have hb1:Blk w' b ((M.cells L).set 0 (.slice a d.length cap)) 143 :=
  ((HH.out.blk.set 0 _).alloc _).fr happ.fr (by rw[← HC.out];exact za HH.out.ch HH.out.blk (by decide))
 have hc':=hb1.cell
 have hf':=hb1.frozen
 simp only[DM.cells,List.set] at hc'
 obtain⟨a',cap',hv'⟩:=z8 happ.own
 have HA:=Z happ
 have HB:=Z hb1
 have HX:=Z hv'
 clear happ hb1 hc hf ho
 subst hv'
 go_wp2
 go_end0
 refine⟨rfl,.slice a' (M.chs.length+1) cap',?_⟩
 have hfr:Fr (fun k=>k=b∨L.chV.ownBlock=some k) w (w'.setCell ⟨b,2,none⟩ (.slice a' (M.chs.length+1) cap')):=by
  refine Fr.set (Fr.trans' (Fr.alloc (Fr.set (G _ w) (fun _=>.inl rfl) _) _) HA.out.fr ?_) (fun _=>.inl rfl) _
  intro k _ hk
  rw[← HC.out] at hk
  exact .inr hk
 rw[← HV.out] at *
 refine⟨HH.out.turned ?_ HD.out ?_ hfr hi,hfr,?_⟩
 ·have:=HB.out.set 2 (.slice a' (M.chs.length+1) cap')
  exact this
 ·have:=HA.out.own
  refine z7 this (S:=fun k=>k=b) (by repeat' first|exact G _ _|(with_reducible assumption)|refine Fr.drewN ?_ _|refine Fr.drew ?_|refine Fr.alloc ?_ _|refine Fr.set ?_ ?_ _|(intro _;rfl)) (fun k e hk=>by subst hk;exact za this HB.out (by decide) e)
 ·rcases HA.out.at_ with h1|h1
  ·exact .inl (by rw[h1,HC.out])
  ·exact .inr ⟨_,h1,by simp⟩
theorem NR(d:Dir):∀ u∈flat d,u.oneCell'=true:=by
 induction d with
 | nil=>intro u hu;cases hu
 | cons e d ih =>
  intro u hu
  simp only[flat,List.flatMap_cons,List.mem_append,List.mem_cons,List.not_mem_nil,or_false] at hu ih
  rcases hu with(rfl|rfl)|hu
  ·rfl
  ·rfl
  ·exact ih u hu
theorem Qg(d d':Dir):flat (d++d')=flat d++flat d':=by simp[flat]
def DM.addFile(M:DM)(f:Nat):DM:={M with ids:=f::M.ids,file:=fun g=>if g=f then⟨[],0⟩ else M.file g}
def DL.addFile(L:DL)(f:Nat):DL:={L with fV:=fun g=>if g=f then .slice none 0 0 else L.fV g}
theorem DRep.addFile{w:World}{b:Nat}{L:DL}{M:DM}(h:DRep w b L M){f:Nat}(hf:Blk w f [.slice none 0 0,.int .i64 0] 152)(hn:f∉M.ids) :
  DRep w b (L.addFile f) (M.addFile f):=by
 have ne:∀ g,g∈M.ids→g≠f:=fun g hg e=>hn (e▸hg)
 exact {
  blk:=h.blk
  dir:=h.dir
  safe:=h.safe
  ch:=h.ch
  chl:=h.chl
  chs:=h.chs
  files:=fun g hg=>by
   rcases List.mem_cons.1 hg with rfl|hg
   ·simpa [DM.addFile,DL.addFile] using hf
   ·simpa [DM.addFile,DL.addFile,ne g hg] using h.files g hg
  rows:=fun g hg=>by
   rcases List.mem_cons.1 hg with rfl|hg
   ·simpa [DM.addFile,DL.addFile,u8s] using World.ownsRow_nil w 0 5 1
   ·simpa [DM.addFile,DL.addFile,ne g hg] using h.rows g hg
  sep:=fun g hg g' hg' e k hk=>by
   rcases List.mem_cons.1 hg with rfl|hg
   ·simp[DL.addFile,Value.ownBlock] at hk
   ·rcases List.mem_cons.1 hg' with rfl|hg'
    ·simp[DL.addFile,Value.ownBlock]
    ·simp only[DL.addFile,ne g hg,ne g' hg',if_false] at hk ⊢
     exact h.sep g hg g' hg' e k hk
  le:=fun g hg=>by
   rcases List.mem_cons.1 hg with rfl|hg
   ·simp[DM.addFile]
   ·simpa [DM.addFile,ne g hg] using h.le g hg
  inD:=fun e he=>List.mem_cons_of_mem _ (h.inD e he)
  inS:=fun e he=>List.mem_cons_of_mem _ (h.inS e he)
  inC:=fun d hd e he=>List.mem_cons_of_mem _ (h.inC d hd e he)}
def DM.create(M:DM)(name:ByteArray)(f:Nat):Int × DM :=
 if name=ByteArray.empty∨(M.dir.look name).isSome=true then(11,M)
 else(M.begins.2.1,if M.begins.1=true then(M.begins.2.2.addFile f).turned (M.begins.2.2.dir++[(name,f)]) else M.begins.2.2)
theorem Qh(name:ByteArray)(w:World)(b:Nat)(L:DL)(M:DM)(h:DRep w b L M)(hn:name=ByteArray.empty∨(M.dir.look name).isSome=true) :
  Calls Tryz.prog 211 #[.pointer (some ⟨b,0,none⟩),.string name] w fun e w' =>
   e=.returned (.int .i64 11)∧Fr Nil w w':=by
 have hc:=h.blk.cell
 simp only[DM.cells] at hc
 by_cases he:name=ByteArray.empty
 ·subst he
  go_enter Tryz.func211,Tryz.ntmps211
  go_wp2
  go_ret
  exact⟨rfl,G _ _⟩
 ·have hn':(M.dir.look name).isSome=true:=by rcases hn with h|h;exact absurd h he;exact h
  rcases Yh M.dir name with⟨_,h2⟩|⟨k,hk,h1,_,_⟩
  ·rw[h2] at hn';cases hn'
  ·have HH:=Z h
   have H1:=Z h1
   have he':name.toList.isEmpty=false:=by
    cases h':name.toList.isEmpty with
    | false=>rfl
    | true=>exact absurd ((toList_nil_iff_emptyBytes name).1 (by simpa using h')) he
   clear hn hn' h h1
   go_enter Tryz.func211,Tryz.ntmps211
   go_wp2_with (go_at_call 87;refine(Zh H1.out _ HH.out.dir).mono ?_;rintro e w1 ⟨rfl,hf⟩)
   go_ret
   exact⟨rfl,hf⟩
theorem TG{name:ByteArray}(he:¬name=ByteArray.empty):name.toList.isEmpty=false:=by
 cases h':name.toList.isEmpty with
 | false=>rfl
 | true=>exact absurd ((toList_nil_iff_emptyBytes name).1 (by simpa using h')) he
theorem DStep.look{w w':World}{b:Nat}{L:DL}{M:DM}(h:DRep w b L M)(f:Fr Nil w w'):DStep b L M w L M w' :=
 ⟨h.fr f (fun _ _=>id),f.mono (fun _ _=>False.elim),fun _ hk=>.inl hk⟩
theorem Foot.of_addFile{b:Nat}{L:DL}{M:DM}{f k:Nat}(h:Foot b (L.addFile f) (M.addFile f) k):k=f∨Foot b L M k:=by
 cases h using Foot.elim with
 | blk=>exact .inr .blk
 | dir e=>exact .inr (.dir e)
 | safe e=>exact .inr (.safe e)
 | ch e=>exact .inr (.ch e)
 | chs i h1 e=>exact .inr (.chs i h1 e)
 | file e =>
  rcases List.mem_cons.1 e with e|e
  ·exact .inl e
  ·exact .inr (.file e)
 | row g hg e =>
  by_cases hgf:g=f
  ·simp[DL.addFile,hgf,Value.ownBlock] at e
  ·simp only[DL.addFile,hgf,if_false] at e
   rcases List.mem_cons.1 hg with hg|hg
   ·exact absurd hg hgf
   ·exact .inr (.row g hg e)
theorem Foot.of_turned{b:Nat}{L:DL}{M:DM}{v cv:Value}{d:Dir}{k:Nat}(h:Foot b (L.turned v cv) (M.turned d) k) :
  v.ownBlock=some k∨cv.ownBlock=some k∨Foot b L M k:=by
 cases h using Foot.elim with
 | blk=>exact .inr (.inr .blk)
 | dir e=>exact .inl e
 | safe e=>exact .inr (.inr (.safe e))
 | ch e=>exact .inr (.inl e)
 | chs i h1 e =>
  simp only[DL.turned,List.getElem_append] at e
  split at e
  ·exact .inr (.inr (.chs i _ e))
  ·simp at e;exact .inl e
 | file e=>exact .inr (.inr (.file e))
 | row g hg e=>exact .inr (.inr (.row g hg e))
theorem Pn(name:ByteArray)(w:World)(b:Nat)(L:DL)(M:DM)(h:DRep w b L M)(he:¬name=ByteArray.empty)(h1:Ze M.dir name=-1)(hd:M.begins.1=false) :
  Calls Tryz.prog 211 #[.pointer (some ⟨b,0,none⟩),.string name] w fun e w' =>
   e=.returned (.int .i64 M.begins.2.1)∧DStep b L M w L M.begins.2.2 w':=by
 have hc:=h.blk.cell
 simp only[DM.cells] at hc
 have HH:=Z h
 have H1:=Z h1
 have HD:=Z hd
 have he':=TG he
 clear h h1 hd he
 go_enter Tryz.func211,Tryz.ntmps211
 go_wp2_with fail
 refine(Yz H1.out _ HH.out.dir).mono ?_
 rintro e w1 ⟨rfl,hf⟩
 go_wp2_with fail
 have HB:=Z5 w1 b L M (HH.out.fr hf (fun _ _=>id))
 rw[HD.out] at HB
 refine HB.mono ?_
 rintro e w2 ⟨rfl,hs⟩
 go_wp2
 go_ret
 exact⟨rfl,(DStep.look HH.out hf).trans hs⟩
theorem Qi(name:ByteArray)(w:World)(b:Nat)(L:DL)(M:DM)(h:DRep w b L M)(he:¬name=ByteArray.empty)(h1:Ze M.dir name=-1)(hd:M.begins.1=true)
  (hn:M.chs.length+1≤1000000000000)(hm:M.dir.length+1≤1000000000000) :
  Calls Tryz.prog 211 #[.pointer (some ⟨b,0,none⟩),.string name] w fun e w' =>
   e=.returned (.int .i64 M.begins.2.1)∧∃ f L',w.heap.size≤f∧f<w'.heap.size∧DStep b L M w L' ((M.begins.2.2.addFile f).turned (M.begins.2.2.dir++[(name,f)])) w':=by
 have hc:=h.blk.cell
 simp only[DM.cells] at hc
 have HH:=Z h
 have H1:=Z h1
 have HD:=Z hd
 have he':=TG he
 clear h h1 hd he
 go_enter Tryz.func211,Tryz.ntmps211
 go_wp2_with fail
 refine(Yz H1.out _ HH.out.dir).mono ?_
 rintro e w1 ⟨rfl,hf⟩
 go_wp2_with fail
 have HB:=Z5 w1 b L M (HH.out.fr hf (fun _ _=>id))
 rw[HD.out] at HB
 refine HB.mono ?_
 rintro e w2 ⟨rfl,hs⟩
 clear hc
 have hc:=hs.rep.blk.cell
 simp only[DM.cells] at hc
 have hk:=M.begins_keeps
 have hlen:M.begins.2.2.dir.length+1≤1000000000000:=by rw[hk.1];exact hm
 have hlen2:M.begins.2.2.chs.length+1≤1000000000000:=by rw[hk.2.2.1];exact hn
 clear hk
 have HS:=Z hs
 clear hs
 go_wp2_with (at_builtin;go_must (refine zf rfl _ _ _ _ rfl _ _ (by rfl) (by rfl) (YF 140 _ 148 2 24 Tryz.underlying140 Xs (by decide) _ _ _ (World.ownsRow_nil _ 0 _ _) _ _ _ HS.out.rep.dir (NR _) (by unfold maxLen;omega) (by omega)) ?_))
 intro v1 w3 ha
 have HA:=Z ha
 obtain⟨a1,c1,hv1⟩:=z8 ha.own
 have hfa:Fr Nil w2 w3:=ha.fr.mono (fun _ _ h=>by simp[Value.ownBlock] at h)
 have hr3:=HS.out.rep.fr hfa (fun _ _=>id)
 have HR3:=Z hr3
 clear ha hr3 hc
 subst hv1
 have hh:b<w3.heap.size:=HR3.out.blk.lt
 -- the file's own block,the entry's,then the entry behind the others
 have hrow:((w3.alloc (.cells #[.slice none 0 0,.int .i64 0] 152)).alloc (.cells #[.string name,.pointer (some ⟨w3.heap.size,0,none⟩)] 148)).ownsRow 0 148 2
   (.slice a1 M.begins.2.2.dir.length c1) M.begins.2.2.dir.length (flat M.begins.2.2.dir):=(HA.out.own.alloc _).alloc _
 go_wp2_with (at_builtin;go_must (refine zf rfl _ _ _ _ rfl _ _ (by rfl) (by rfl) (zo 140 _ 148 2 24 Tryz.underlying140 Xs (by decide) _ _ _ hrow
  ⟨w3.heap.size+1,0,none⟩ 1 1 [.string name,.pointer (some ⟨w3.heap.size,0,none⟩)] rfl (V4 _ _ _ _ _ (by simp)) (by intro u hu;simp at hu;rcases hu with rfl|rfl <;> rfl) (by unfold maxLen;omega) (by omega)) ?_))
 intro v2 w4 ha2
 have HA2:=Z ha2
 clear ha2 hrow
 have hr4:DRep w4 b (L.addFile w3.heap.size) (M.begins.2.2.addFile w3.heap.size):=by
  have hn4:w3.heap.size∉M.begins.2.2.ids:=fun hi=>by
   have:=(HR3.out.files _ hi).lt
   omega
  have h0:=(HR3.out.fr ((G Nil w3).alloc (.cells #[.slice none 0 0,.int .i64 0] 152)) (fun _ _=>id)).addFile (f:=w3.heap.size) (Blk.new w3 [.slice none 0 0,.int .i64 0] _) hn4
  have h1:=h0.fr ((G Nil _).alloc (.cells #[.string name,.pointer (some ⟨w3.heap.size,0,none⟩)] 148)) (fun _ _=>id)
  refine h1.fr HA2.out.fr ?_
  intro k hk he
  have hb1:k=w2.heap.size:=by
   rcases HA.out.at_ with h|h
   ·rw[h] at he;simp[Value.ownBlock] at he
   ·rw[h] at he;simpa using he.symm
  have hb2:w2.heap.size<w3.heap.size:=by
   have:=zA HA.out.own (k:=k) he
   omega
  rcases hk.of_addFile with h|h
  ·omega
  ·have:=HS.out.rep.lt h
   omega
 have hv2:∀ k,v2.ownBlock=some k→w2.heap.size≤k:=by
  intro k hk
  rcases HA2.out.at_ with h|h
  ·rw[h] at hk
   rcases HA.out.at_ with h'|h'
   ·rw[h'] at hk;simp[Value.ownBlock] at hk
   ·rw[h'] at hk;simp at hk;omega
  ·rw[h] at hk
   simp at hk
   have:=hfa.size
   omega
 have hf4:Fr Nil w2 w4:=by
  refine Fr.trans' (Fr.alloc (Fr.alloc hfa _) _) HA2.out.fr ?_
  intro k hk he
  rcases HA.out.at_ with h'|h'
  ·rw[h'] at he;simp[Value.ownBlock] at he
  ·rw[h'] at he;simp at he;omega
 have hsz4:=HA2.out.fr.size
 simp only[World.size_alloc] at hsz4
 have htl:(M.begins.2.2.dir++[(name,w3.heap.size)]).length=M.begins.2.2.dir.length+1:=by simp
 have hown2:w4.ownsRow 0 148 2 v2 (M.begins.2.2.dir++[(name,w3.heap.size)]).length (flat (M.begins.2.2.dir++[(name,w3.heap.size)])):=by
  rw[htl,Qg]
  exact HA2.out.own
 have hids:∀ e,e∈M.begins.2.2.dir++[(name,w3.heap.size)]→e.2∈(M.begins.2.2.addFile w3.heap.size).ids:=by
  intro e he
  simp only[List.mem_append,List.mem_singleton] at he
  rcases he with he|rfl
  ·exact List.mem_cons_of_mem _ (HS.out.rep.inD e he)
  ·exact List.mem_cons_self ..
 have HT:=SY v2 (M.begins.2.2.dir++[(name,w3.heap.size)]) w4 b _ _ hr4 hown2 hids hlen2
 have HT':=Z HT
 have HR4:=Z hr4
 clear HT hr4 hown2 hids htl
 go_wp2_with fail
 refine HT'.out.mono ?_
 rintro e w5 ⟨rfl,cv,hr5,hf5,hcv⟩
 have HR5:=Z hr5
 have hfoot5:=fun k=>Foot.of_turned (b:=b) (L:=L.addFile w3.heap.size) (M:=M.begins.2.2.addFile w3.heap.size) (v:=v2) (cv:=cv) (d:=M.begins.2.2.dir++[(name,w3.heap.size)]) (k:=k)
 have HF5:=Z hfoot5
 have HC5:=Z hcv
 have HV2:=Z hv2
 clear hr5 hfoot5 hcv hv2
 go_wp2
 go_ret
 have hs2:=HS.out.fr.size
 have hs1:=hf.size
 have hs3:=hfa.size
 have hs5:=hf5.size
 refine⟨rfl,w3.heap.size,_,by omega,by omega,(DStep.look HH.out hf).trans (HS.out.trans ⟨HR5.out,?_,?_⟩)⟩
 ·refine Fr.trans' (hf4.mono (fun _ _=>False.elim)) hf5 ?_
  intro k _ hk
  rcases hk with rfl|hk
  ·exact .blk
  ·exact .ch hk
 ·intro k hk
  rcases HF5.out k hk with h|h|h
  ·exact .inr (HV2.out k h)
  ·rcases HC5.out with h'|⟨k',h',hle⟩
   ·rw[h'] at h;exact .inl (.ch h)
   ·rw[h'] at h;simp at h;omega
  ·rcases h.of_addFile with h|h
   ·omega
   ·exact .inl h
theorem DRep.grow{w w':World}{b:Nat}{L:DL}{M:DM}(h:DRep w b L M){f:Nat}(hf:f∈M.ids){v:Value}{bs:List UInt8}
  (hb:Blk w' f [v,.int .i64 (M.file f).safe] 152)(hv:w'.ownsRow 0 5 1 v ((M.file f).bytes++bs).length (u8s ((M.file f).bytes++bs)))
  (fr:Fr (fun k=>k=f∨(L.fV f).ownBlock=some k) w w')(hat:∀ k,v.ownBlock=some k→(L.fV f).ownBlock=some k∨w.heap.size≤k) :
  DRep w' b {L with fV:=fun g=>if g=f then v else L.fV g} (M.setFile f {M.file f with bytes:=(M.file f).bytes++bs}):=by
 have far:∀ {k:Nat} {c:List Value} {t:TypeId},Blk w k c t→t≠152→t≠5→Blk w' k c t:=fun ho h1 h2 =>
  ho.fr fr fun hk=>by
   rcases hk with e|hk
   ·exact ho.ne (h.files f hf) h1 e
   ·exact za (h.rows f hf) ho h2 hk
 have farO:∀ {e:TypeId} {sz:Nat} {v:Value} {n:Nat} {xs:List Value},w.ownsRow 0 e sz v n xs→e≠152→e≠5→w'.ownsRow 0 e sz v n xs:=fun ho h1 h2 =>
  z7 ho fr fun k e hk=>by
   rcases hk with rfl|hk
   ·exact za ho (h.files k hf) (Ne.symm h1) e
   ·exact Z0 ho (h.rows f hf) h2 e hk
 exact {
  blk:=far h.blk (by decide) (by decide)
  dir:=farO h.dir (by decide) (by decide)
  safe:=farO h.safe (by decide) (by decide)
  ch:=farO h.ch (by decide) (by decide)
  chl:=h.chl
  chs:=fun i h1 h2=>farO (h.chs i h1 h2) (by decide) (by decide)
  files:=fun g hg=>by
   by_cases e:g=f
   ·subst e;simpa [DM.setFile] using hb
   ·have:=(h.files g hg).fr fr (fun hk=>by
     rcases hk with hk|hk
     ·exact e hk
     ·exact za (h.rows f hf) (h.files g hg) (by decide) hk)
    simpa [DM.setFile,e] using this
  rows:=fun g hg=>by
   by_cases e:g=f
   ·subst e;simpa [DM.setFile] using hv
   ·have:=z7 (h.rows g hg) fr (fun k ek hk=>by
     rcases hk with rfl|hk
     ·exact za (h.rows g hg) (h.files k hf) (by decide) ek
     ·exact h.sep g hg f hf e k ek hk)
    simpa [DM.setFile,e] using this
  sep:=fun g hg g' hg' e k hk=>by
   by_cases e1:g=f
   ·subst e1
    have e2:¬g'=g:=fun h=>e h.symm
    simp only[if_true,e2,if_false] at hk ⊢
    rcases hat k hk with h1|h1
    ·exact h.sep g hg g' hg' e k h1
    ·intro h2
     have:=zA (h.rows g' hg') h2
     omega
   ·by_cases e2:g'=f
    ·subst e2
     simp only[e1,if_false,if_true] at hk ⊢
     intro h2
     rcases hat k h2 with h1|h1
     ·exact h.sep g hg g' hg' e k hk h1
     ·have:=zA (h.rows g hg) hk
      omega
    ·simp only[e1,e2,if_false] at hk ⊢
     exact h.sep g hg g' hg' e k hk
  le:=fun g hg=>by
   by_cases e:g=f
   ·subst e
    have:=h.le g hg
    simp[DM.setFile]
    omega
   ·simpa [DM.setFile,e] using h.le g hg
  inD:=h.inD
  inS:=h.inS
  inC:=h.inC}
def DM.tries(M:DM)(n:Int):Option Int :=
 if M.begins.1=true then some n
 else if M.begins.2.2.dead=false∧0<n then some (M.part.tmod n)
 else none
def DM.left(M:DM):Int:=if IntKind.i64.wrap (M.room-M.used)<0 then 0 else IntKind.i64.wrap (M.room-M.used)
theorem Qj(name data:ByteArray)(w:World)(b:Nat)(L:DL)(M:DM)(h:DRep w b L M)(h1:Ze M.dir name=-1) :
  Calls Tryz.prog 203 #[.pointer (some ⟨b,0,none⟩),.string name,.string data] w fun e w' =>
   e=.returned (.int .i64 11)∧DStep b L M w L M w':=by
 have hc:=h.blk.cell
 simp only[DM.cells] at hc
 have HH:=Z h
 have H1:=Z h1
 clear h h1
 go_enter Tryz.func203,Tryz.ntmps203
 go_wp2_with (go_at_call 87;refine(Yz H1.out _ HH.out.dir).mono ?_;rintro e w1 ⟨rfl,hf⟩)
 go_ret
 exact⟨rfl,DStep.look HH.out hf⟩
theorem Po(name data:ByteArray)(w:World)(b:Nat)(L:DL)(M:DM)(h:DRep w b L M)(k:Nat)(_hk:k<M.dir.length)(h1:Ze M.dir name=k)(hd:M.begins.1=false)(hdd:M.begins.2.2.dead=true)(_hsz:data.size≤1000000000000) :
  Calls Tryz.prog 203 #[.pointer (some ⟨b,0,none⟩),.string name,.string data] w fun e w' =>
   e=.returned (.int .i64 M.begins.2.1)∧DStep b L M w L M.begins.2.2 w':=by
 have hc:=h.blk.cell
 have hlen:=zK h.dir
 unfold maxLen at hlen
 simp only[DM.cells] at hc
 have HH:=Z h
 have H1:=Z h1
 have HD:=Z hd
 have HDD:=Z hdd
 clear h h1 hd hdd
 go_enter Tryz.func203,Tryz.ntmps203
 go_wp2_with fail
 refine(Zh H1.out _ HH.out.dir).mono ?_
 rintro e w1 ⟨rfl,hf⟩
 go_wp2_with fail
 have HB:=Z5 w1 b L M (HH.out.fr hf (fun _ _=>id))
 rw[HD.out] at HB
 refine HB.mono ?_
 rintro e w2 ⟨rfl,hs⟩
 clear hc
 have hc:=hs.rep.blk.cell
 simp only[DM.cells,HDD.out] at hc
 go_wp2
 go_ret
 exact⟨rfl,(DStep.look HH.out hf).trans hs⟩
theorem append_nil(name data:ByteArray)(w:World)(b:Nat)(L:DL)(M:DM)(h:DRep w b L M)(k:Nat)(_hk:k<M.dir.length)(h1:Ze M.dir name=k)(hd:M.begins.1=false)(hdd:M.begins.2.2.dead=false)(_hsz:data.size=0) :
  Calls Tryz.prog 203 #[.pointer (some ⟨b,0,none⟩),.string name,.string data] w fun e w' =>
   e=.returned (.int .i64 M.begins.2.1)∧DStep b L M w L M.begins.2.2 w':=by
 have hc:=h.blk.cell
 have hlen:=zK h.dir
 unfold maxLen at hlen
 simp only[DM.cells] at hc
 have HH:=Z h
 have H1:=Z h1
 have HD:=Z hd
 have HDD:=Z hdd
 clear h h1 hd hdd
 go_enter Tryz.func203,Tryz.ntmps203
 go_wp2_with fail
 refine(Zh H1.out _ HH.out.dir).mono ?_
 rintro e w1 ⟨rfl,hf⟩
 go_wp2_with fail
 have HB:=Z5 w1 b L M (HH.out.fr hf (fun _ _=>id))
 rw[HD.out] at HB
 refine HB.mono ?_
 rintro e w2 ⟨rfl,hs⟩
 clear hc
 have hc:=hs.rep.blk.cell
 simp only[DM.cells,HDD.out] at hc
 go_wp2
 go_ret
 exact⟨rfl,(DStep.look HH.out hf).trans hs⟩
theorem Xc(w:World)(b:Nat)(L:DL)(M:DM)(w0:World)(h:DRep w0 b L M)(hf:Fr Nil w0 w) :
  Calls Tryz.prog 41 #[.pointer (some ⟨b,0,none⟩)] w fun e w'=>e=.returned (.int .i64 M.used)∧w'.cell? ⟨b,3,none⟩=some (.int .i64 M.room)∧Fr Nil w0 w':=by
 refine(Uf w b L M (h.fr hf (fun _ _=>id))).mono fun e w' ⟨h1,h2⟩=>⟨h1,?_,hf.trans h2⟩
 exact((h.fr (hf.trans h2) (fun _ _=>id)).blk.cell 3)
theorem Xd{w w':World}{b:Nat}{L:DL}{M:DM}(h:DRep w b L M){f:Nat}(hf:f∈M.ids){n:Option Addr}{c m:Nat}{bs:List UInt8}{v:Value}
  (hv:L.fV f=.slice n (M.file f).bytes.length c)(hm:m=bs.length)
  (ha:App w.drew (.slice n (M.file f).bytes.length c) 5 1 ((M.file f).bytes.length+m) (u8s (M.file f).bytes++u8s bs) v w') :
  ∃ L',DStep b L M w L' (M.setFile f {M.file f with bytes:=(M.file f).bytes++bs}) (w'.setCell ⟨f,0,none⟩ v):=by
 subst hm
 have hfr:Fr (fun k=>k=f∨(L.fV f).ownBlock=some k) w (w'.setCell ⟨f,0,none⟩ v):=by
  refine Fr.set (Fr.trans' (Fr.drew (G _ w)) ha.fr ?_) (fun _=>.inl rfl) _
  intro k _ hk
  exact .inr (by rw[hv];exact hk)
 have hb0:Blk w' f [L.fV f,.int .i64 (M.file f).safe] 152:=by
  have h0:=(h.files f hf).drew
  refine h0.fr ha.fr ?_
  rw[← hv]
  exact za (h.rows f hf) (h.files f hf) (by decide)
 have hb:Blk (w'.setCell ⟨f,0,none⟩ v) f [v,.int .i64 (M.file f).safe] 152:=hb0.set 0 v
 have hat:∀ k,v.ownBlock=some k→(L.fV f).ownBlock=some k∨w.heap.size≤k:=by
  intro k hk
  rcases ha.at_ with h1|h1
  ·rw[h1] at hk;exact .inl (by rw[hv];exact hk)
  ·rw[h1] at hk;simp at hk;exact .inr (by omega)
 have hown:(w'.setCell ⟨f,0,none⟩ v).ownsRow 0 5 1 v ((M.file f).bytes++bs).length (u8s ((M.file f).bytes++bs)):=by
  have h1:=ha.own
  have e1:u8s ((M.file f).bytes++bs)=u8s (M.file f).bytes++u8s bs:=by simp[u8s]
  have e2:((M.file f).bytes++bs).length=(M.file f).bytes.length+bs.length:=by simp
  rw[e1,e2]
  exact z7 h1 (S:=fun k=>k=f) (by repeat' first|exact G _ _|(with_reducible assumption)|refine Fr.drewN ?_ _|refine Fr.drew ?_|refine Fr.alloc ?_ _|refine Fr.set ?_ ?_ _|(intro _;rfl)) (fun k e hk=>by subst hk;exact za h1 hb0 (by decide) e)
 refine⟨{L with fV:=fun g=>if g=f then v else L.fV g},⟨h.grow hf hb hown hfr hat,hfr.mono ?_,?_⟩⟩
 ·intro k _ hk
  rcases hk with rfl|hk
  ·exact .file hf
  ·exact .row f hf hk
 ·intro k hk
  cases hk using Foot.elim with
  | blk=>exact .inl .blk
  | dir e=>exact .inl (.dir e)
  | safe e=>exact .inl (.safe e)
  | ch e=>exact .inl (.ch e)
  | chs i h1 e=>exact .inl (.chs i h1 e)
  | file e=>exact .inl (.file e)
  | row g hg e =>
   by_cases hgf:g=f
   ·subst hgf
    simp only[if_true] at e
    rcases hat k e with h1|h1
    ·exact .inl (.row g hg h1)
    ·exact .inr h1
   ·simp only[hgf,if_false] at e
    exact .inl (.row g hg e)
theorem Qk(name data:ByteArray)(w:World)(b:Nat)(L:DL)(M:DM)(h:DRep w b L M)(k:Nat)(hk:k<M.dir.length)(h1:Ze M.dir name=k)(hsz:data.size≤1000000000000)(hfl:(M.file M.dir[k].2).bytes.length≤1000000000000)
  (hd:M.begins.1=true)(hleft:¬M.begins.2.2.left<data.size) :
  Calls Tryz.prog 203 #[.pointer (some ⟨b,0,none⟩),.string name,.string data] w fun e w' =>
   e=.returned (.int .i64 M.begins.2.1)∧∃ L',DStep b L M w L' ((M.begins.2.2).setFile M.dir[k].2 {M.begins.2.2.file M.dir[k].2 with bytes:=(M.begins.2.2.file M.dir[k].2).bytes++(data).data.toList}) w':=by
 have hc:=h.blk.cell
 have hlen:=zK h.dir
 unfold maxLen at hlen
 simp only[DM.cells] at hc
 have HH:=Z h
 have H1:=Z h1
 have HD:=Z hd
 have HL:=Z hleft
 clear hleft
 clear h h1 hd
 go_enter Tryz.func203,Tryz.ntmps203
 go_wp2_with fail
 refine(Zh H1.out _ HH.out.dir).mono ?_
 rintro e w1 ⟨rfl,hf⟩
 go_wp2_with fail
 have HB:=Z5 w1 b L M (HH.out.fr hf (fun _ _=>id))
 rw[HD.out] at HB
 refine HB.mono ?_
 rintro e w2 ⟨rfl,hs⟩
 clear hc HB
 have hc:=hs.rep.blk.cell
 simp only[DM.cells] at hc
 have hcr:=hs.rep.blk.cell 3
 simp only[DM.cells] at hcr
 simp at hcr
 have HS:=Z hs
 clear hs
 go_wp2_with fail
 go_region_held3 (fun w'=>w'.cell? ⟨b,3,none⟩=some (.int .i64 M.begins.2.2.room)) (first|go_keep|assumption) (first|(go_at_call 41;refine(Xc _ b L M.begins.2.2 w2 HS.out.rep (Fr.drew (G _ _))).mono ?_;rintro e w3 ⟨rfl,hr3,hf3⟩))
 have HE:Hid ((if IntKind.i64.wrap (M.begins.2.2.room-M.begins.2.2.used)<0 then 0 else IntKind.i64.wrap (M.begins.2.2.room-M.begins.2.2.used))=M.begins.2.2.left):=rfl
 rw[HE.out]
 have HL':=HL.out
 generalize M.begins.2.2.left=left at HL'
 have h3:=HS.out.rep.fr hf3 (fun _ _=>id)
 have hk2:k<M.begins.2.2.dir.length:=by rw[M.begins_keeps.1];exact hk
 have he:M.begins.2.2.dir[k].2=M.dir[k].2:=by simp[M.begins_keeps.1]
 obtain⟨g,cap,n,c,hv,hi,_,hp,hsv⟩:=h3.entry hk2
 rw[he] at hi hp hsv
 have hcf:=(h3.files _ hi).cell
 have hff:=(h3.files _ hi).frozen
 rw[hsv] at hcf
 clear hc hcr hr3
 have hc:=h3.blk.cell
 simp only[DM.cells] at hc
 rw[hv] at hc
 have H3:=Z h3
 have HSV:=Z hsv
 clear h3 hsv hv
 have hrow:=H3.out.rows _ hi
 rw[HSV.out] at hrow
 have HROW:=Z hrow
 have hfl':(M.begins.2.2.file M.dir[k].2).bytes.length≤1000000000000:=by rw[M.begins_keeps.2.2.2.1];exact hfl
 have hss:(data).size≤1000000000000:=by exact hsz
 have q1:(M.begins.2.2.file M.dir[k].2).bytes.length+(data).size≤maxLen:=by unfold maxLen;omega
 have q2:(M.begins.2.2.file M.dir[k].2).bytes.length+(data).size≤140737488355328:=by omega
 have Q1:=Z q1
 have Q2:=Z q2
 have HKP:Hid (∀ w4:World,Fr (fun j=>(Value.slice n (M.begins.2.2.file M.dir[k].2).bytes.length c).ownBlock=some j) w3.drew w4→Blk w4 M.dir[k].2 [.slice n (M.begins.2.2.file M.dir[k].2).bytes.length c,.int .i64 (M.begins.2.2.file M.dir[k].2).safe] 152):=by
  intro w4 hf4
  have h0:=H3.out.files _ hi
  rw[HSV.out] at h0
  exact(h0.drew).fr hf4 (za hrow h0 (by decide))
 clear q1 q2 hrow hss
 go_wp2_with fail
 go_region_law
  ((refine Z3 (by rfl) _ _ _ _ (by rfl) _ _ (by rfl) (by rfl) (ZF (w:=w3.drew) 150 9 _ 5 Tryz.underlying150 Tryz.underlying9 XA _ _ _ HROW.out (data) Q1.out Q2.out) ?_;intro v4 w4 ha;obtain⟨a4,c4,hv4⟩:=z8 ha.own;have hb4:=HKP.out w4 ha.fr;have hc4:=hb4.cell 0;have hf4:=hb4.frozen 0;have HA:=Z ha;clear ha;subst hv4))
 go_wp2
 go_ret
 obtain⟨L',hst⟩:=Xd H3.out hi HSV.out (by simp) HA.out
 exact⟨rfl,L',(DStep.look HH.out hf).trans (HS.out.trans ((DStep.look HS.out.rep hf3).trans hst))⟩
theorem SZ(name data:ByteArray)(w:World)(b:Nat)(L:DL)(M:DM)(h:DRep w b L M)(k:Nat)(hk:k<M.dir.length)(h1:Ze M.dir name=k)(hsz:data.size≤1000000000000)(hfl:(M.file M.dir[k].2).bytes.length≤1000000000000)
  (hd:M.begins.1=true)(he0:M.begins.2.1=9)(m:Nat)(hm:M.begins.2.2.left=m)(hleft:(m:Int)<data.size) :
  Calls Tryz.prog 203 #[.pointer (some ⟨b,0,none⟩),.string name,.string data] w fun e w' =>
   e=.returned (.int .i64 9)∧∃ L',DStep b L M w L' ((M.begins.2.2).setFile M.dir[k].2 {M.begins.2.2.file M.dir[k].2 with bytes:=(M.begins.2.2.file M.dir[k].2).bytes++(data.extract 0 m).data.toList}) w':=by
 have hc:=h.blk.cell
 have hlen:=zK h.dir
 unfold maxLen at hlen
 simp only[DM.cells] at hc
 have HH:=Z h
 have H1:=Z h1
 have HD:=Z hd
 have HL:=Z hleft
 have HE0:=Z he0
 have HM:=Z hm
 clear hleft he0 hm
 clear h h1 hd
 go_enter Tryz.func203,Tryz.ntmps203
 go_wp2_with fail
 refine(Zh H1.out _ HH.out.dir).mono ?_
 rintro e w1 ⟨rfl,hf⟩
 go_wp2_with fail
 have HB:=Z5 w1 b L M (HH.out.fr hf (fun _ _=>id))
 rw[HD.out] at HB
 rw[HE0.out] at HB
 refine HB.mono ?_
 rintro e w2 ⟨rfl,hs⟩
 clear hc HB
 have hc:=hs.rep.blk.cell
 simp only[DM.cells] at hc
 have hcr:=hs.rep.blk.cell 3
 simp only[DM.cells] at hcr
 simp at hcr
 have HS:=Z hs
 clear hs
 go_wp2_with fail
 go_region_held3 (fun w'=>w'.cell? ⟨b,3,none⟩=some (.int .i64 M.begins.2.2.room)) (first|go_keep|assumption) (first|(go_at_call 41;refine(Xc _ b L M.begins.2.2 w2 HS.out.rep (Fr.drew (G _ _))).mono ?_;rintro e w3 ⟨rfl,hr3,hf3⟩))
 have HE:Hid ((if IntKind.i64.wrap (M.begins.2.2.room-M.begins.2.2.used)<0 then 0 else IntKind.i64.wrap (M.begins.2.2.room-M.begins.2.2.used))=M.begins.2.2.left):=rfl
 rw[HE.out]
 rw[HM.out]
 have HL':=HL.out
 have hmn:m≤data.size:=by omega
 have h3:=HS.out.rep.fr hf3 (fun _ _=>id)
 have hk2:k<M.begins.2.2.dir.length:=by rw[M.begins_keeps.1];exact hk
 have he:M.begins.2.2.dir[k].2=M.dir[k].2:=by simp[M.begins_keeps.1]
 obtain⟨g,cap,n,c,hv,hi,_,hp,hsv⟩:=h3.entry hk2
 rw[he] at hi hp hsv
 have hcf:=(h3.files _ hi).cell
 have hff:=(h3.files _ hi).frozen
 rw[hsv] at hcf
 clear hc hcr hr3
 have hc:=h3.blk.cell
 simp only[DM.cells] at hc
 rw[hv] at hc
 have H3:=Z h3
 have HSV:=Z hsv
 clear h3 hsv hv
 have hrow:=H3.out.rows _ hi
 rw[HSV.out] at hrow
 have HROW:=Z hrow
 have hfl':(M.begins.2.2.file M.dir[k].2).bytes.length≤1000000000000:=by rw[M.begins_keeps.2.2.2.1];exact hfl
 have hss:(data.extract 0 m).size≤1000000000000:=by rw[ByteArray.size_extract];omega
 have q1:(M.begins.2.2.file M.dir[k].2).bytes.length+(data.extract 0 m).size≤maxLen:=by unfold maxLen;omega
 have q2:(M.begins.2.2.file M.dir[k].2).bytes.length+(data.extract 0 m).size≤140737488355328:=by omega
 have Q1:=Z q1
 have Q2:=Z q2
 have HKP:Hid (∀ w4:World,Fr (fun j=>(Value.slice n (M.begins.2.2.file M.dir[k].2).bytes.length c).ownBlock=some j) w3.drew w4→Blk w4 M.dir[k].2 [.slice n (M.begins.2.2.file M.dir[k].2).bytes.length c,.int .i64 (M.begins.2.2.file M.dir[k].2).safe] 152):=by
  intro w4 hf4
  have h0:=H3.out.files _ hi
  rw[HSV.out] at h0
  exact(h0.drew).fr hf4 (za hrow h0 (by decide))
 clear q1 q2 hrow hss
 go_wp2_with fail
 go_region_law
  ((refine Z3 (by rfl) _ _ _ _ (by rfl) _ _ (by rfl) (by rfl) (ZF (w:=w3.drew) 150 9 _ 5 Tryz.underlying150 Tryz.underlying9 XA _ _ _ HROW.out (data.extract 0 m) Q1.out Q2.out) ?_;intro v4 w4 ha;obtain⟨a4,c4,hv4⟩:=z8 ha.own;have hb4:=HKP.out w4 ha.fr;have hc4:=hb4.cell 0;have hf4:=hb4.frozen 0;have HA:=Z ha;clear ha;subst hv4))
 go_wp2
 go_ret
 obtain⟨L',hst⟩:=Xd H3.out hi HSV.out (by simp) HA.out
 have hex:(data.extract 0 m).size=m:=by rw[ByteArray.size_extract];omega
 rw[hex] at hst
 exact⟨rfl,L',(DStep.look HH.out hf).trans (HS.out.trans ((DStep.look HS.out.rep hf3).trans hst))⟩
theorem Uh(name data:ByteArray)(w:World)(b:Nat)(L:DL)(M:DM)(h:DRep w b L M)(k:Nat)(hk:k<M.dir.length)(h1:Ze M.dir name=k)(hsz:data.size≤1000000000000)(hfl:(M.file M.dir[k].2).bytes.length≤1000000000000)
  (hd:M.begins.1=false)(he0:M.begins.2.1=9)(hdd:M.begins.2.2.dead=false)(p q:Nat)(hpt:M.begins.2.2.part=p)(hq:(p:Int).tmod data.size=q)(hqs:q<data.size)(m:Nat)(hm:M.begins.2.2.left=m)(hleft:(m:Int)<q) :
  Calls Tryz.prog 203 #[.pointer (some ⟨b,0,none⟩),.string name,.string data] w fun e w' =>
   e=.returned (.int .i64 9)∧∃ L',DStep b L M w L' ((M.begins.2.2).setFile M.dir[k].2 {M.begins.2.2.file M.dir[k].2 with bytes:=(M.begins.2.2.file M.dir[k].2).bytes++(data.extract 0 m).data.toList}) w':=by
 have hc:=h.blk.cell
 have hlen:=zK h.dir
 unfold maxLen at hlen
 simp only[DM.cells] at hc
 have HH:=Z h
 have H1:=Z h1
 have HD:=Z hd
 have HE0:=Z he0
 have HDD:=Z hdd
 have HPT:=Z hpt
 have HL:=Z hleft
 have hdz:((data.size:Int)==0)=false:=by rw[beq_eq_false_iff_ne];omega
 have hdp:(0:Int)<data.size:=by omega
 clear he0 hdd hpt hleft
 have HM:=Z hm
 clear hm
 clear h h1 hd
 go_enter Tryz.func203,Tryz.ntmps203
 go_wp2_with fail
 refine(Zh H1.out _ HH.out.dir).mono ?_
 rintro e w1 ⟨rfl,hf⟩
 go_wp2_with fail
 have HB:=Z5 w1 b L M (HH.out.fr hf (fun _ _=>id))
 rw[HD.out] at HB
 rw[HE0.out] at HB
 refine HB.mono ?_
 rintro e w2 ⟨rfl,hs⟩
 clear hc HB
 have hc:=hs.rep.blk.cell
 simp only[DM.cells,HDD.out,HPT.out] at hc
 have hcr:=hs.rep.blk.cell 3
 simp only[DM.cells] at hcr
 simp at hcr
 have HS:=Z hs
 clear hs
 go_wp2_with fail
 go_region_held3 (fun w'=>w'.cell? ⟨b,3,none⟩=some (.int .i64 M.begins.2.2.room)) (first|go_keep|assumption) (first|(go_at_call 41;refine(Xc _ b L M.begins.2.2 w2 HS.out.rep (Fr.drew (G _ _))).mono ?_;rintro e w3 ⟨rfl,hr3,hf3⟩))
 have HE:Hid ((if IntKind.i64.wrap (M.begins.2.2.room-M.begins.2.2.used)<0 then 0 else IntKind.i64.wrap (M.begins.2.2.room-M.begins.2.2.used))=M.begins.2.2.left):=rfl
 rw[HE.out]
 rw[HM.out]
 have HL':=HL.out
 have hmn:m≤data.size:=by omega
 have h3:=HS.out.rep.fr hf3 (fun _ _=>id)
 have hk2:k<M.begins.2.2.dir.length:=by rw[M.begins_keeps.1];exact hk
 have he:M.begins.2.2.dir[k].2=M.dir[k].2:=by simp[M.begins_keeps.1]
 obtain⟨g,cap,n,c,hv,hi,_,hp,hsv⟩:=h3.entry hk2
 rw[he] at hi hp hsv
 have hcf:=(h3.files _ hi).cell
 have hff:=(h3.files _ hi).frozen
 rw[hsv] at hcf
 clear hc hcr hr3
 have hc:=h3.blk.cell
 simp only[DM.cells] at hc
 rw[hv] at hc
 have H3:=Z h3
 have HSV:=Z hsv
 clear h3 hsv hv
 have hrow:=H3.out.rows _ hi
 rw[HSV.out] at hrow
 have HROW:=Z hrow
 have hfl':(M.begins.2.2.file M.dir[k].2).bytes.length≤1000000000000:=by rw[M.begins_keeps.2.2.2.1];exact hfl
 have hss:(data.extract 0 m).size≤1000000000000:=by rw[ByteArray.size_extract];omega
 have q1:(M.begins.2.2.file M.dir[k].2).bytes.length+(data.extract 0 m).size≤maxLen:=by unfold maxLen;omega
 have q2:(M.begins.2.2.file M.dir[k].2).bytes.length+(data.extract 0 m).size≤140737488355328:=by omega
 have Q1:=Z q1
 have Q2:=Z q2
 have HKP:Hid (∀ w4:World,Fr (fun j=>(Value.slice n (M.begins.2.2.file M.dir[k].2).bytes.length c).ownBlock=some j) w3.drew w4→Blk w4 M.dir[k].2 [.slice n (M.begins.2.2.file M.dir[k].2).bytes.length c,.int .i64 (M.begins.2.2.file M.dir[k].2).safe] 152):=by
  intro w4 hf4
  have h0:=H3.out.files _ hi
  rw[HSV.out] at h0
  exact(h0.drew).fr hf4 (za hrow h0 (by decide))
 clear q1 q2 hrow hss
 go_wp2_with fail
 go_region_law
  ((refine Z3 (by rfl) _ _ _ _ (by rfl) _ _ (by rfl) (by rfl) (ZF (w:=w3.drew) 150 9 _ 5 Tryz.underlying150 Tryz.underlying9 XA _ _ _ HROW.out (data.extract 0 m) Q1.out Q2.out) ?_;intro v4 w4 ha;obtain⟨a4,c4,hv4⟩:=z8 ha.own;have hb4:=HKP.out w4 ha.fr;have hc4:=hb4.cell 0;have hf4:=hb4.frozen 0;have HA:=Z ha;clear ha;subst hv4))
 go_wp2
 go_ret
 obtain⟨L',hst⟩:=Xd H3.out hi HSV.out (by simp) HA.out
 have hex:(data.extract 0 m).size=m:=by rw[ByteArray.size_extract];omega
 rw[hex] at hst
 exact⟨rfl,L',(DStep.look HH.out hf).trans (HS.out.trans ((DStep.look HS.out.rep hf3).trans hst))⟩
theorem Ui(name data:ByteArray)(w:World)(b:Nat)(L:DL)(M:DM)(h:DRep w b L M)(k:Nat)(hk:k<M.dir.length)(h1:Ze M.dir name=k)(hsz:data.size≤1000000000000)(hfl:(M.file M.dir[k].2).bytes.length≤1000000000000)
  (hd:M.begins.1=false)(he0:M.begins.2.1=9)(hdd:M.begins.2.2.dead=false)(p q:Nat)(hpt:M.begins.2.2.part=p)(hq:(p:Int).tmod data.size=q)(hqs:q<data.size)(hleft:¬M.begins.2.2.left<q) :
  Calls Tryz.prog 203 #[.pointer (some ⟨b,0,none⟩),.string name,.string data] w fun e w' =>
   e=.returned (.int .i64 9)∧∃ L',DStep b L M w L' ((M.begins.2.2).setFile M.dir[k].2 {M.begins.2.2.file M.dir[k].2 with bytes:=(M.begins.2.2.file M.dir[k].2).bytes++(data.extract 0 q).data.toList}) w':=by
 have hc:=h.blk.cell
 have hlen:=zK h.dir
 unfold maxLen at hlen
 simp only[DM.cells] at hc
 have HH:=Z h
 have H1:=Z h1
 have HD:=Z hd
 have HE0:=Z he0
 have HDD:=Z hdd
 have HPT:=Z hpt
 have HL:=Z hleft
 have hdz:((data.size:Int)==0)=false:=by rw[beq_eq_false_iff_ne];omega
 have hdp:(0:Int)<data.size:=by omega
 clear he0 hdd hpt hleft
 clear h h1 hd
 go_enter Tryz.func203,Tryz.ntmps203
 go_wp2_with fail
 refine(Zh H1.out _ HH.out.dir).mono ?_
 rintro e w1 ⟨rfl,hf⟩
 go_wp2_with fail
 have HB:=Z5 w1 b L M (HH.out.fr hf (fun _ _=>id))
 rw[HD.out] at HB
 rw[HE0.out] at HB
 refine HB.mono ?_
 rintro e w2 ⟨rfl,hs⟩
 clear hc HB
 have hc:=hs.rep.blk.cell
 simp only[DM.cells,HDD.out,HPT.out] at hc
 have hcr:=hs.rep.blk.cell 3
 simp only[DM.cells] at hcr
 simp at hcr
 have HS:=Z hs
 clear hs
 go_wp2_with fail
 go_region_held3 (fun w'=>w'.cell? ⟨b,3,none⟩=some (.int .i64 M.begins.2.2.room)) (first|go_keep|assumption) (first|(go_at_call 41;refine(Xc _ b L M.begins.2.2 w2 HS.out.rep (Fr.drew (G _ _))).mono ?_;rintro e w3 ⟨rfl,hr3,hf3⟩))
 have HE:Hid ((if IntKind.i64.wrap (M.begins.2.2.room-M.begins.2.2.used)<0 then 0 else IntKind.i64.wrap (M.begins.2.2.room-M.begins.2.2.used))=M.begins.2.2.left):=rfl
 rw[HE.out]
 have HL':=HL.out
 have hmn:q≤data.size:=by omega
 generalize M.begins.2.2.left=left at HL'
 have h3:=HS.out.rep.fr hf3 (fun _ _=>id)
 have hk2:k<M.begins.2.2.dir.length:=by rw[M.begins_keeps.1];exact hk
 have he:M.begins.2.2.dir[k].2=M.dir[k].2:=by simp[M.begins_keeps.1]
 obtain⟨g,cap,n,c,hv,hi,_,hp,hsv⟩:=h3.entry hk2
 rw[he] at hi hp hsv
 have hcf:=(h3.files _ hi).cell
 have hff:=(h3.files _ hi).frozen
 rw[hsv] at hcf
 clear hc hcr hr3
 have hc:=h3.blk.cell
 simp only[DM.cells] at hc
 rw[hv] at hc
 have H3:=Z h3
 have HSV:=Z hsv
 clear h3 hsv hv
 have hrow:=H3.out.rows _ hi
 rw[HSV.out] at hrow
 have HROW:=Z hrow
 have hfl':(M.begins.2.2.file M.dir[k].2).bytes.length≤1000000000000:=by rw[M.begins_keeps.2.2.2.1];exact hfl
 have hss:(data.extract 0 q).size≤1000000000000:=by rw[ByteArray.size_extract];omega
 have q1:(M.begins.2.2.file M.dir[k].2).bytes.length+(data.extract 0 q).size≤maxLen:=by unfold maxLen;omega
 have q2:(M.begins.2.2.file M.dir[k].2).bytes.length+(data.extract 0 q).size≤140737488355328:=by omega
 have Q1:=Z q1
 have Q2:=Z q2
 have HKP:Hid (∀ w4:World,Fr (fun j=>(Value.slice n (M.begins.2.2.file M.dir[k].2).bytes.length c).ownBlock=some j) w3.drew w4→Blk w4 M.dir[k].2 [.slice n (M.begins.2.2.file M.dir[k].2).bytes.length c,.int .i64 (M.begins.2.2.file M.dir[k].2).safe] 152):=by
  intro w4 hf4
  have h0:=H3.out.files _ hi
  rw[HSV.out] at h0
  exact(h0.drew).fr hf4 (za hrow h0 (by decide))
 clear q1 q2 hrow hss
 go_wp2_with fail
 go_region_law
  ((refine Z3 (by rfl) _ _ _ _ (by rfl) _ _ (by rfl) (by rfl) (ZF (w:=w3.drew) 150 9 _ 5 Tryz.underlying150 Tryz.underlying9 XA _ _ _ HROW.out (data.extract 0 q) Q1.out Q2.out) ?_;intro v4 w4 ha;obtain⟨a4,c4,hv4⟩:=z8 ha.own;have hb4:=HKP.out w4 ha.fr;have hc4:=hb4.cell 0;have hf4:=hb4.frozen 0;have HA:=Z ha;clear ha;subst hv4))
 go_wp2
 go_ret
 obtain⟨L',hst⟩:=Xd H3.out hi HSV.out (by simp) HA.out
 have hex:(data.extract 0 q).size=q:=by rw[ByteArray.size_extract];omega
 rw[hex] at hst
 exact⟨rfl,L',(DStep.look HH.out hf).trans (HS.out.trans ((DStep.look HS.out.rep hf3).trans hst))⟩
theorem R0(name data:ByteArray)(w:World)(b:Nat)(L:DL)(M:DM)(h:DRep w b L M)(k:Nat)(hk:k<M.dir.length)(h1:Ze M.dir name=k)(hsz:data.size≤1000000000000)(hfl:(M.file M.dir[k].2).bytes.length≤1000000000000)
  (hd:M.begins.1=true)(he0:M.begins.2.1=0)(m:Nat)(hm:M.begins.2.2.left=m)(hleft:(m:Int)<data.size) :
  Calls Tryz.prog 203 #[.pointer (some ⟨b,0,none⟩),.string name,.string data] w fun e w' =>
   e=.returned (.int .i64 10)∧∃ L',DStep b L M w L' (({M.begins.2.2 with refused:=wrap64 (M.begins.2.2.refused+1),fulls:=wrap64 (M.begins.2.2.fulls+1)}:DM).setFile M.dir[k].2 {M.begins.2.2.file M.dir[k].2 with bytes:=(M.begins.2.2.file M.dir[k].2).bytes++(data.extract 0 m).data.toList}) w':=by
 have hc:=h.blk.cell
 have hlen:=zK h.dir
 unfold maxLen at hlen
 simp only[DM.cells] at hc
 have HH:=Z h
 have H1:=Z h1
 have HD:=Z hd
 have HL:=Z hleft
 have HE0:=Z he0
 have HM:=Z hm
 clear hleft he0 hm
 clear h h1 hd
 go_enter Tryz.func203,Tryz.ntmps203
 go_wp2_with fail
 refine(Zh H1.out _ HH.out.dir).mono ?_
 rintro e w1 ⟨rfl,hf⟩
 go_wp2_with fail
 have HB:=Z5 w1 b L M (HH.out.fr hf (fun _ _=>id))
 rw[HD.out] at HB
 rw[HE0.out] at HB
 refine HB.mono ?_
 rintro e w2 ⟨rfl,hs⟩
 clear hc HB
 have hc:=hs.rep.blk.cell
 simp only[DM.cells] at hc
 have hcr:=hs.rep.blk.cell 3
 simp only[DM.cells] at hcr
 simp at hcr
 have HS:=Z hs
 clear hs
 go_wp2_with fail
 go_region_held3 (fun w'=>w'.cell? ⟨b,3,none⟩=some (.int .i64 M.begins.2.2.room)) (first|go_keep|assumption) (first|(go_at_call 41;refine(Xc _ b L M.begins.2.2 w2 HS.out.rep (Fr.drew (G _ _))).mono ?_;rintro e w3 ⟨rfl,hr3,hf3⟩))
 have HE:Hid ((if IntKind.i64.wrap (M.begins.2.2.room-M.begins.2.2.used)<0 then 0 else IntKind.i64.wrap (M.begins.2.2.room-M.begins.2.2.used))=M.begins.2.2.left):=rfl
 rw[HE.out]
 rw[HM.out]
 have HL':=HL.out
 have hmn:m≤data.size:=by omega
 have h3:=HS.out.rep.fr hf3 (fun _ _=>id)
 have hc3:=h3.blk.cell
 have hf3':=h3.blk.frozen
 simp only[DM.cells] at hc3
 clear hc hcr hr3
 have hk2:k<M.begins.2.2.dir.length:=by rw[M.begins_keeps.1];exact hk
 have he:M.begins.2.2.dir[k].2=M.dir[k].2:=by simp[M.begins_keeps.1]
 have h4:DRep ((w3.setCell ⟨b,8,none⟩ (.int .i64 (wrap64 (M.begins.2.2.refused+1)))).setCell ⟨b,9,none⟩ (.int .i64 (wrap64 (M.begins.2.2.fulls+1)))) b L ({M.begins.2.2 with refused:=wrap64 (M.begins.2.2.refused+1),fulls:=wrap64 (M.begins.2.2.fulls+1)}:DM) :=
  h3.own ((h3.blk.set 8 _).set 9 _) (by repeat' first|exact G _ _|(with_reducible assumption)|refine Fr.drewN ?_ _|refine Fr.drew ?_|refine Fr.alloc ?_ _|refine Fr.set ?_ ?_ _|(intro _;rfl)) rfl rfl rfl rfl rfl
 obtain⟨g,cap,n,c,hv,hi,_,hp,hsv⟩:=h3.entry hk2
 rw[he] at hi hp hsv
 have hcf:=(h3.files _ hi).cell
 have hff:=(h3.files _ hi).frozen
 rw[hsv] at hcf
 rw[hv] at hc3
 have hne1:M.dir[k].2≠b:=(h3.files _ hi).ne h3.blk (by decide)
 have hne2:g≠b:=fun e=>za h3.dir h3.blk (by decide) (by rw[hv,← e];rfl)
 have H3:=Z h4
 have HSV:=Z hsv
 have H33:=Z h3
 clear h4 h3 hsv hv
 have hrow:=H3.out.rows _ hi
 rw[HSV.out] at hrow
 have HROW:=Z hrow
 have hfl':(M.begins.2.2.file M.dir[k].2).bytes.length≤1000000000000:=by rw[M.begins_keeps.2.2.2.1];exact hfl
 have hss:(data.extract 0 m).size≤1000000000000:=by rw[ByteArray.size_extract];omega
 have q1:(M.begins.2.2.file M.dir[k].2).bytes.length+(data.extract 0 m).size≤maxLen:=by unfold maxLen;omega
 have q2:(M.begins.2.2.file M.dir[k].2).bytes.length+(data.extract 0 m).size≤140737488355328:=by omega
 have Q1:=Z q1
 have Q2:=Z q2
 have HKP:Hid (∀ w4:World,Fr (fun j=>(Value.slice n (M.begins.2.2.file M.dir[k].2).bytes.length c).ownBlock=some j) ((w3.setCell ⟨b,8,none⟩ (.int .i64 (wrap64 (M.begins.2.2.refused+1)))).setCell ⟨b,9,none⟩ (.int .i64 (wrap64 (M.begins.2.2.fulls+1)))).drew w4→Blk w4 M.dir[k].2 [.slice n (M.begins.2.2.file M.dir[k].2).bytes.length c,.int .i64 (M.begins.2.2.file M.dir[k].2).safe] 152):=by
  intro w4 hf4
  have h0:=H3.out.files _ hi
  rw[HSV.out] at h0
  exact(h0.drew).fr hf4 (za hrow h0 (by decide))
 clear q1 q2 hrow hss
 go_wp2_with fail
 go_region_law
  ((refine Z3 (by rfl) _ _ _ _ (by rfl) _ _ (by rfl) (by rfl) (ZF (w:=((w3.setCell ⟨b,8,none⟩ (.int .i64 (wrap64 (M.begins.2.2.refused+1)))).setCell ⟨b,9,none⟩ (.int .i64 (wrap64 (M.begins.2.2.fulls+1)))).drew) 150 9 _ 5 Tryz.underlying150 Tryz.underlying9 XA _ _ _ HROW.out (data.extract 0 m) Q1.out Q2.out) ?_;intro v4 w4 ha;obtain⟨a4,c4,hv4⟩:=z8 ha.own;have hb4:=HKP.out w4 ha.fr;have hc4:=hb4.cell 0;have hf4:=hb4.frozen 0;have HA:=Z ha;clear ha;subst hv4))
 go_wp2
 go_ret
 obtain⟨L',hst⟩:=Xd H3.out hi HSV.out (by simp) HA.out
 have hex:(data.extract 0 m).size=m:=by rw[ByteArray.size_extract];omega
 rw[hex] at hst
 have hst0:DStep b L M.begins.2.2 w3 L ({M.begins.2.2 with refused:=wrap64 (M.begins.2.2.refused+1),fulls:=wrap64 (M.begins.2.2.fulls+1)}:DM) ((w3.setCell ⟨b,8,none⟩ (.int .i64 (wrap64 (M.begins.2.2.refused+1)))).setCell ⟨b,9,none⟩ (.int .i64 (wrap64 (M.begins.2.2.fulls+1)))):=by
  exact .own (H33.out.own ((H33.out.blk.set 8 _).set 9 _) (by repeat' first|exact G _ _|(with_reducible assumption)|refine Fr.drewN ?_ _|refine Fr.drew ?_|refine Fr.alloc ?_ _|refine Fr.set ?_ ?_ _|(intro _;rfl)) rfl rfl rfl rfl rfl) (by repeat' first|exact G _ _|(with_reducible assumption)|refine Fr.drewN ?_ _|refine Fr.drew ?_|refine Fr.alloc ?_ _|refine Fr.set ?_ ?_ _|(intro _;rfl)) rfl
 exact⟨rfl,L',(DStep.look HH.out hf).trans (HS.out.trans ((DStep.look HS.out.rep hf3).trans (hst0.trans hst)))⟩
theorem DM.begins_not(M:DM)(h:M.begins.1=false):M.begins.2.1=9:=by
 unfold DM.begins at h ⊢;dsimp only at h ⊢;(repeat' split at h) <;> simp_all
theorem R1(name:ByteArray)(w:World)(b:Nat)(L:DL)(M:DM)(h:DRep w b L M)(hn:M.chs.length+1≤1000000000000)(hm:M.dir.length+1≤1000000000000) :
  Calls Tryz.prog 211 #[.pointer (some ⟨b,0,none⟩),.string name] w fun e w' =>
   ∃ f L',e=.returned (.int .i64 (M.create name f).1)∧w.heap.size≤f∧DStep b L M w L' (M.create name f).2 w':=by
 by_cases h0:name=ByteArray.empty∨(M.dir.look name).isSome=true
 ·refine(Qh name w b L M h h0).mono fun e w' ⟨h1,h2⟩=>⟨w.heap.size,L,?_,Nat.le_refl _,?_⟩
  ·rw[h1];simp only[DM.create];rw[if_pos h0]
  ·simp only[DM.create];rw[if_pos h0];exact DStep.look h h2
 ·have he:¬name=ByteArray.empty:=fun e=>h0 (.inl e)
  rcases Yh M.dir name with⟨h1,h2⟩|⟨k,hk,h1,h2,_⟩
  ·cases hd:M.begins.1 with
   | false =>
    refine(Pn name w b L M h he h1 hd).mono fun e w' ⟨h3,h4⟩=>⟨w.heap.size,L,?_,Nat.le_refl _,?_⟩
    ·rw[h3];simp only[DM.create];rw[if_neg h0]
    ·simp only[DM.create];rw[if_neg h0,hd];exact h4
   | true =>
    refine(Qi name w b L M h he h1 hd hn hm).mono fun e w' ⟨h3,f,L',h4,_,h5⟩=>⟨f,L',?_,h4,?_⟩
    ·rw[h3];simp only[DM.create];rw[if_neg h0]
    ·simp only[DM.create];rw[if_neg h0,hd];exact h5
  ·exact absurd (.inr (by rw[h2];rfl)) h0
def DM.add(M:DM)(name:ByteArray)(data:ByteArray):Int × DM :=
 match M.dir.look name with
 | none=>(11,M)
 | some f =>
  match M.tries data.size with
  | none=>(M.begins.2.1,M.begins.2.2)
  | some n =>
   if M.begins.2.2.left<n then
    if M.begins.2.1=0 then
     (10,({M.begins.2.2 with refused:=wrap64 (M.begins.2.2.refused+1),fulls:=wrap64 (M.begins.2.2.fulls+1)}:DM).setFile f
       {M.begins.2.2.file f with bytes:=(M.begins.2.2.file f).bytes++(data.extract 0 M.begins.2.2.left.toNat).data.toList})
    else(M.begins.2.1,M.begins.2.2.setFile f {M.begins.2.2.file f with bytes:=(M.begins.2.2.file f).bytes++(data.extract 0 M.begins.2.2.left.toNat).data.toList})
   else(M.begins.2.1,M.begins.2.2.setFile f {M.begins.2.2.file f with bytes:=(M.begins.2.2.file f).bytes++(data.extract 0 n.toNat).data.toList})
theorem DM.left_nat(M:DM):∃ m:Nat,M.left=m:=by
 have:0≤M.left:=by unfold DM.left;split <;> omega
 exact⟨_,(Int.toNat_of_nonneg this).symm⟩
theorem R2(name data:ByteArray)(w:World)(b:Nat)(L:DL)(M:DM)(h:DRep w b L M)(hp:0≤M.part)(hsz:data.size≤1000000000000)(hfl:∀ f,f∈M.ids→(M.file f).bytes.length≤1000000000000) :
  Calls Tryz.prog 203 #[.pointer (some ⟨b,0,none⟩),.string name,.string data] w fun e w' =>
   e=.returned (.int .i64 (M.add name data).1)∧∃ L',DStep b L M w L' (M.add name data).2 w':=by
 rcases Yh M.dir name with⟨h1,h2⟩|⟨k,hk,h1,h2,_⟩
 ·refine(Qj name data w b L M h h1).mono fun e w' ⟨h3,h4⟩=>?_
  simp only[DM.add,h2]
  exact⟨h3,L,h4⟩
 ·have hf:=hfl _ (h.inD _ (List.getElem_mem hk))
  have hpt:M.begins.2.2.part=M.part:=M.begins_keeps.2.2.2.2.2.2.1
  obtain⟨m,hm⟩:=M.begins.2.2.left_nat
  cases hd:M.begins.1 with
  | false =>
   have he0:=M.begins_not hd
   cases hdd:M.begins.2.2.dead with
   | true =>
    refine(Po name data w b L M h k hk h1 hd hdd hsz).mono fun e w' ⟨h3,h4⟩=>?_
    simp only[DM.add,h2,DM.tries,hd,hdd]
    exact⟨h3,L,h4⟩
   | false =>
    by_cases hz:data.size=0
    ·refine(append_nil name data w b L M h k hk h1 hd hdd hz).mono fun e w' ⟨h3,h4⟩=>?_
     simp only[DM.add,h2,DM.tries,hd,hdd,hz]
     exact⟨h3,L,h4⟩
    ·obtain⟨p,hp'⟩:=Int.eq_ofNat_of_zero_le hp
     have hq:(p:Int).tmod data.size=(p%data.size:Nat):=by
      rw[Int.ofNat_tmod]
     have hqs:p%data.size<data.size:=Nat.mod_lt _ (by omega)
     have ht:M.tries data.size=some ((p%data.size:Nat):Int):=by
      simp only[DM.tries,hd,hdd]
      rw[if_neg (by simp),if_pos (by simp;omega),hp',hq]
     by_cases hl:M.begins.2.2.left<((p%data.size:Nat):Int)
     ·refine(Uh name data w b L M h k hk h1 hsz hf hd he0 hdd p (p%data.size) (by rw[hpt,hp']) hq hqs m hm (by omega)).mono fun e w' ⟨h3,h4⟩=>?_
      simp only[DM.add,h2,ht]
      rw[if_pos hl,if_neg (by omega),he0,hm]
      exact⟨h3,h4⟩
     ·refine(Ui name data w b L M h k hk h1 hsz hf hd he0 hdd p (p%data.size) (by rw[hpt,hp']) hq hqs hl).mono fun e w' ⟨h3,h4⟩=>?_
      simp only[DM.add,h2,ht]
      rw[if_neg hl,he0]
      exact⟨h3,h4⟩
  | true =>
   have ht:M.tries data.size=some (data.size:Int):=by simp[DM.tries,hd]
   by_cases hl:M.begins.2.2.left<data.size
   ·rcases M.begins_err with he0|he0
    ·refine(R0 name data w b L M h k hk h1 hsz hf hd he0 m hm (by omega)).mono fun e w' ⟨h3,h4⟩=>?_
     simp only[DM.add,h2,ht]
     rw[if_pos hl,if_pos he0,hm]
     exact⟨h3,h4⟩
    ·refine(SZ name data w b L M h k hk h1 hsz hf hd he0 m hm (by omega)).mono fun e w' ⟨h3,h4⟩=>?_
     simp only[DM.add,h2,ht]
     rw[if_pos hl,if_neg (by omega),he0,hm]
     exact⟨h3,h4⟩
   ·refine(Qk name data w b L M h k hk h1 hsz hf hd hl).mono fun e w' ⟨h3,h4⟩=>?_
    simp only[DM.add,h2,ht]
    rw[if_neg hl]
    have:data.extract 0 ((data.size:Int).toNat)=data:=by simp
    rw[this]
    exact⟨h3,h4⟩
theorem Wv:((Tryz.prog.info? 9).map fun i=>(i.zero.map (·.cells.size),i.size,i.bytes))=some (some 1,1,16):=by kernel_rfl
def zb(a b:ByteArray):Bool:=Op.bytesLess a.toList b.toList
def Ys:List ByteArray→ByteArray→List ByteArray
 | [],x=>[x]
 | y::r,x=>if zb x y then y::Ys r x else x::y::r
def Ya(d:Dir)(k:Nat):List ByteArray:=((d.take k).foldl (fun r e=>Ys r e.1) []).reverse
def Dir.names(d:Dir):List ByteArray:=Ya d d.length
theorem Ql(l:List ByteArray)(x:ByteArray):(Ys l x).length=l.length+1:=by
 induction l with
 | nil=>rfl
 | cons y r ih=>simp only[Ys];split <;> simp[ih]
theorem VB(d:Dir)(k:Nat)(h:k<d.length):Ya d (k+1)=(Ys (Ya d k).reverse d[k].1).reverse:=by
 unfold Ya
 rw[List.take_succ_eq_append_getElem h,List.foldl_append]
 simp
theorem Sb(d:Dir):∀ k,k≤d.length→(Ya d k).length=k:=by
 intro k
 induction k with
 | zero=>intro _;rfl
 | succ k ih =>
  intro h
  rw[VB d k h,List.length_reverse,Ql,List.length_reverse,ih (by omega)]
theorem Oz(P R:List ByteArray)(x:ByteArray)(h:∀ t∈P,zb x t=true):Ys (P++R) x=P++Ys R x:=by
 induction P with
 | nil=>rfl
 | cons y P ih =>
  have hy:=h y (List.mem_cons_self ..)
  simp only[List.cons_append,Ys,hy,if_true]
  rw[ih (fun t ht=>h t (List.mem_cons_of_mem _ ht))]
theorem R3(A:List ByteArray)(x:ByteArray)(j:Nat)(hj:j≤A.length)(h:∀ t∈A.drop j,zb x t=true)(h0:∀ i (hi:i<A.length),j=i+1→zb x A[i]=false) :
  A.take j++[x]++A.drop j=(Ys A.reverse x).reverse:=by
 have e:A.reverse=(A.drop j).reverse++(A.take j).reverse:=by rw[← List.reverse_append,List.take_append_drop]
 rw[e,Oz _ _ _ (fun t ht=>h t (by simpa using ht))]
 cases j with
 | zero=>simp[Ys]
 | succ i =>
  have hi:i<A.length:=hj
  have e2:(A.take (i+1)).reverse=A[i]::(A.take i).reverse:=by
   rw[List.take_succ_eq_append_getElem hi];simp
  rw[e2]
  have:=h0 i hi rfl
  simp only[Ys,this,Bool.false_eq_true,if_false]
  rw[← e2]
  simp
def strs(l:List ByteArray):List Value:=l.map Value.string
theorem VV(P Q:List ByteArray)(x:ByteArray):strs (P++[x]++Q)=strs P++.string x::strs Q:=by simp[strs]
theorem VC(l:List ByteArray):(strs l).length=l.length:=by simp[strs]
theorem P6(A:List ByteArray)(x:ByteArray)(i:Nat)(hi:i<A.length) :
  (strs (A.take (i+1)++[x]++A.drop (i+1)))[i+1]?=some (.string x)∧(strs (A.take (i+1)++[x]++A.drop (i+1)))[i]?=some (.string A[i]):=by
 have e3:(strs (A.take (i+1))).length=i+1:=by rw[VC];simp;omega
 rw[VV]
 constructor
 ·rw[List.getElem?_append_right (by omega),e3];simp
 ·rw[List.getElem?_append_left (by omega)];simp[strs,hi]
theorem OA(A:List ByteArray)(x:ByteArray)(i:Nat)(hi:i<A.length) :
  ((strs (A.take (i+1)++[x]++A.drop (i+1))).set (i+1) (.string A[i])).set i (.string x)=strs (A.take i++[x]++A.drop i):=by
 have e1:strs (A.take (i+1))=strs (A.take i)++[.string A[i]]:=by unfold strs;rw[List.take_succ_eq_append_getElem hi,List.map_append];rfl
 have e2:strs (A.drop i)=.string A[i]::strs (A.drop (i+1)):=by unfold strs;rw[List.drop_eq_getElem_cons hi,List.map_cons]
 have e3:(strs (A.take i)).length=i:=by rw[VC];simp;omega
 rw[VV,VV,e1,e2,List.append_assoc]
 rw[List.set_append_right _ _ (by omega),e3,List.set_append_right _ _ (by omega),e3]
 simp
theorem Zu{w:World}{base:Nat}{e:TypeId}{size:Nat}{g n cap:Nat}{xs:List Value}(h:w.ownsRow base e size (.slice (some ⟨g,0,none⟩) n cap) n xs)(j:Nat)(u:Value) :
  (w.setCell ⟨g,j,none⟩ u).ownsRow base e size (.slice (some ⟨g,0,none⟩) n cap) n (xs.set j u):=by
 rcases h.2 with⟨h1,_⟩|⟨g',cap',cur,h1,hb,hg,hn,hm,hs,ht⟩
 ·cases h1
 ·simp at h1
  obtain⟨rfl,rfl⟩:=h1
  refine⟨by rw[List.length_set];exact h.1,.inr ⟨g,cap,cur.setIfInBounds j u,rfl,hb,?_,hn,hm,by simpa using hs,?_⟩⟩
  ·simp[World.setCell,Array.getElem?_modify,hg]
  ·rw[← ht]
   simp only[Array.toList_setIfInBounds]
   rw[List.take_set]
theorem YH{w:World}{base:Nat}{e:TypeId}{size:Nat}{g n cap:Nat}{xs:List Value}(h:w.ownsRow base e size (.slice (some ⟨g,0,none⟩) n cap) n xs)(j:Nat):w.frozen? ⟨g,j,none⟩=false:=by
 rcases h.2 with⟨h1,_⟩|⟨g',cap',cur,h1,hb,hg,_⟩
 ·cases h1
 ·simp at h1
  obtain⟨rfl,_⟩:=h1
  simp[World.frozen?,hg]
theorem Uj(w:World)(b:Nat)(L:DL)(M:DM)(h:DRep w b L M)(hm:M.dir.length≤1000000000000) :
  Calls Tryz.prog 86 #[.pointer (some ⟨b,0,none⟩)] w fun e w' =>
   ∃ v,e=.returned v∧w'.ownsRow 0 9 1 v M.dir.length (strs M.dir.names)∧Fr Nil w w'∧(∀ k,v.ownBlock=some k→w.heap.size≤k):=by
 have hc:=h.blk.cell
 simp only[DM.cells] at hc
 obtain⟨a,cap,hv⟩:=z8 h.dir
 rw[hv] at hc
 obtain⟨ti,tz,ht1,ht2,ht3,ht4,ht5⟩:=Zk Wv
 have HH:=Z h
 have HV:=Z hv
 clear h hv
 go_enter Tryz.func86,Tryz.ntmps86
 go_wp2_with (at_make;go_must (refine wpList_make_own _ rfl _ _ 91 rfl 0 9 ti tz 1 Tryz.underlying91 ht1 ht2 ht3 _ _ _ M.dir.length (by rfl) (by rfl) rfl (by rw[ht4];omega) (by unfold maxLen;omega) (Nat.zero_le _) ?_))
 intro w1 hown1 hgr1
 have hf1:Fr Nil w w1:=(Fr.of_grown hgr1).mono (fun _ _ h=>by cases h)
 have h1:=HH.out.fr hf1 (fun _ _=>id)
 have hc1:=h1.blk.cell
 simp only[DM.cells] at hc1
 rw[HV.out] at hc1
 clear hc hgr1 h1
 go_wp2_with fail
 clear hc1
 go_loopw [3,18] (fun l c w'=>∃ k:Nat,k≤M.dir.length∧c=.int .i64 k∧w'.ownsRow 0 9 1 l k (strs (Ya M.dir k))∧Fr Nil w w'∧(∀ j,l.ownBlock=some j→w.heap.size≤j)) (fun _ c _=>M.dir.length-(intOf c).toNat)
 case atStart=>exact⟨0,Nat.zero_le _,rfl,hown1,hf1,fun j hj=>by simp[Value.ownBlock] at hj;omega⟩
 case round =>
  obtain⟨k,hk,rfl,hown,hfr,hnew⟩:=hrel
  have hr:=HH.out.fr hfr (fun _ _=>id)
  have HN:=Z hnew
  have HO:=Z hown
  have HNL:=Z (Sb M.dir k hk)
  obtain⟨la,lc,hlv⟩:=z8 hown
  clear hown1 hf1 hnew hown
  subst hlv
  by_cases hlt:k<M.dir.length
  ·obtain⟨g,hg⟩:∃ g,a=some ⟨g,0,none⟩:=by
    obtain⟨g,c',hv',_⟩:=zi hr.dir (by omega)
    rw[HV.out] at hv';simp at hv';exact⟨g,hv'.1⟩
   subst hg
   have hrow:=hr.dir
   rw[HV.out] at hrow
   have hp1:=own_cell? hrow _ _ (Yr M.dir k hlt).1
   have hp2:=own_cell? hrow _ _ (Yr M.dir k hlt).2
   have hgl:=World.block_lt_of_cell? _ _ hp1
   clear hrow hr
   go_wp2_with (at_builtin;go_must (refine zf rfl _ _ _ _ rfl _ _ (by rfl) (by rfl) (zo 91 _ 9 1 16 Tryz.underlying91 Wv (by decide) _ _ _ ((HO.out.alloc _).alloc _)
      ⟨wr.heap.size+1,0,none⟩ 1 1 [.string M.dir[k].1] rfl (Xa _ _ _ _ (by simp)) (by intro u hu;simp at hu;subst hu;rfl) (by unfold maxLen;omega) (by omega)) ?_))
   intro v2 w4 ha2
   obtain⟨g2,c2,hv2,_,_⟩:=zi ha2.own (by omega)
   subst hv2
   have HA2:=Z ha2
   clear ha2
   go_wp2_with fail
   generalize hA:Ya M.dir k=A at *
   generalize hx:M.dir[k].1=x at *
   have hAl:A.length=k:=HNL.out
   have HAL:=Z hAl
   have HNK:Hid (Ya M.dir (k+1)=(Ys A.reverse x).reverse):=by rw[Hid,VB M.dir k hlt,hA,hx]
   have hg2:w.heap.size≤g2:=by
    rcases HA2.out.at_ with h|h
    ·exact HN.out g2 (by rw[← h];rfl)
    ·simp[Value.ownBlock] at h;have:=hfr.size;omega
   have hf4:Fr Nil w w4:=Fr.trans' ((hfr.alloc _).alloc _) HA2.out.fr (fun j hlt hj=>by have:=HN.out j hj;omega)
   have HXA:=Z hA
   have HXX:=Z hx
   clear hA hx hAl hp1 hp2
   go_loopw [6] (fun c w'=>∃ j:Nat,j≤k∧c=.int .i64 j∧w'.ownsRow 0 9 1 (.slice (some ⟨g2,0,none⟩) (k+1) c2) (k+1) (strs (A.take j++[x]++A.drop j))∧(∀ t,t∈A.drop j→zb x t=true)∧Fr Nil w w') (fun c _=>(intOf c).toNat)
   case atStart =>
    refine⟨k,Nat.le_refl _,rfl,?_,?_,hf4⟩
    ·have e:strs (A.take k++[x]++A.drop k)=strs A++[.string x]:=by
      have hl:=HAL.out
      rw[List.take_of_length_le (by omega),List.drop_of_length_le (by omega)];simp[strs]
     rw[e];exact HA2.out.own
    ·intro t ht
     rw[List.drop_of_length_le (by have:=HAL.out;omega)] at ht;cases ht
   case round =>
    rename_i wq
    obtain⟨j,hj,rfl,hown,hless,hfq⟩:=hrel
    have HOW:=Z hown
    have HLS:=Z hless
    clear hown hless hf4
    rcases Nat.eq_zero_or_pos j with rfl|hj0
    ·have hd:decide ((0:Int)<((0:Nat):Int))=false:=by simp
     go_wp2_with fail
     go_quiet (fail)
     go_wp2
     have e3:Ya M.dir (k+1)=A.take 0++[x]++A.drop 0:=HNK.out.trans (R3 A x 0 (Nat.zero_le _) HLS.out (fun i _ h=>by omega)).symm
     exact⟨⟨k+1,by omega,by go_num,by rw[e3];exact HOW.out,hfq.drewN _,fun j hj=>by simp[Value.ownBlock] at hj;omega⟩,by simp[intOf];omega⟩
    ·obtain⟨i,rfl⟩:∃ i,j=i+1:=⟨j-1,by omega⟩
     have hil:i<A.length:=by have:=HAL.out;omega
     have hc1:=own_cell? HOW.out _ _ (P6 A x i hil).1
     have hc2:=own_cell? HOW.out _ _ (P6 A x i hil).2
     have hf1:=YH HOW.out
     have e1:(((i+1:Nat):Int))=(i:Int)+1:=by omega
     rw[e1]
     cases hls:zb x A[i] with
     | true =>
      have hls':Op.bytesLess x.toList A[i].toList=true:=hls
      go_wp2_with fail
      go_quiet (fail)
      go_wp2_with fail
      go_region
      go_wp2
      have hset:=Zu (Zu (w:=wr.drewN (nq+1)) HOW.out (i+1) (.string A[i])) i (.string x)
      rw[OA A x i hil] at hset
      have hless':∀ t,t∈A.drop i→zb x t=true:=by
       intro t ht
       rw[List.drop_eq_getElem_cons hil] at ht
       rcases List.mem_cons.1 ht with rfl|ht
       ·exact hls
       ·exact HLS.out t ht
      exact⟨⟨i,by omega,rfl,hset,hless',Fr.set (Fr.set (hfq.drewN _) (fun(h:g2<w.heap.size)=>absurd h (by omega)) _) (fun(h:g2<w.heap.size)=>absurd h (by omega)) _⟩,by simp[intOf]⟩
     | false =>
      have hls':Op.bytesLess x.toList A[i].toList=false:=hls
      go_wp2_with fail
      go_quiet (fail)
      go_wp2
      have hend:∀ i' (hi':i'<A.length),i+1=i'+1→zb x A[i']=false:=by
       intro i' hi' h
       have h':i'=i:=by omega
       subst h'
       exact hls
      have e3:Ya M.dir (k+1)=A.take (i+1)++[x]++A.drop (i+1):=HNK.out.trans (R3 A x (i+1) (by omega) HLS.out hend).symm
      exact⟨⟨k+1,by omega,by go_num,by rw[e3];exact HOW.out,hfq.drewN _,fun j hj=>by simp[Value.ownBlock] at hj;omega⟩,by simp[intOf];omega⟩
  ·go_wp2
   go_ret
   have hkl:k=M.dir.length:=by omega
   subst hkl
   exact⟨_,rfl,HO.out,hfr,HN.out⟩
def Yt(a b:ByteArray):Int:=if zb a b=true then -1 else if (a.toList==b.toList)=true then 0 else 1
theorem Pp(a b:ByteArray)(w:World) :
  Calls Tryz.prog 201 #[.string a,.string b] w fun e w'=>e=.returned (.int .i64 (Yt a b))∧w'=w:=by
 have hx:∀ x:ByteArray,(x.toList==x.toList)=true:=by intro x;simp
 by_cases h1:zb a b=true
 ·have h:Yt a b=-1:=by unfold Yt;rw[if_pos h1]
  rw[h]
  clear h
  have h1':Op.bytesLess a.toList b.toList=true:=h1
  clear h1
  go_enter Tryz.func201,Tryz.ntmps201
  go_wp2
  go_ret
  exact⟨rfl,rfl⟩
 ·have h1':Op.bytesLess a.toList b.toList=false:=by simpa [zb] using h1
  by_cases h2:(a.toList==b.toList)=true
  ·have h:Yt a b=0:=by unfold Yt;rw[if_neg h1,if_pos h2]
   rw[h]
   clear h h1
   go_enter Tryz.func201,Tryz.ntmps201
   go_wp2
   go_ret
   exact⟨rfl,rfl⟩
  ·have h:Yt a b=1:=by unfold Yt;rw[if_neg h1,if_neg h2]
   rw[h]
   clear h h1
   have h2':(a.toList==b.toList)=false:=by simpa using h2
   clear h2
   go_enter Tryz.func201,Tryz.ntmps201
   go_wp2
   go_ret
   exact⟨rfl,rfl⟩
theorem Xl(a b:ByteArray)(v:Value)(w:World) :
  Calls Tryz.prog 200 #[.agg #[.string a,v],.string b] w fun e w'=>e=.returned (.int .i64 (Yt a b))∧Fr Nil w w':=by
 go_enter Tryz.func200,Tryz.ntmps200
 go_wp2_with (go_at_call 201;refine(Pp _ _ _).mono ?_;rintro e w1 ⟨rfl,rfl⟩)
 go_ret
 exact⟨rfl,(by repeat' first|exact G _ _|(with_reducible assumption)|refine Fr.drewN ?_ _|refine Fr.drew ?_|refine Fr.alloc ?_ _|refine Fr.set ?_ ?_ _|(intro _;rfl))⟩
end Go.Proofs.YtkhnggkkiefcdaaGreatDoor
namespace Go.Proofs.YtkhnggkkiefcdaaGreatDoor
set_option maxRecDepth 100000
set_option maxHeartbeats 8000000
open Go
structure Strict{α:Type}(lt:α→α→Bool):Prop where
 irr:∀ a,lt a a=false
 trans:∀ a b c,lt a b=true→lt b c=true→lt a c=true
 tri:∀ a b,lt a b=false→a≠b→lt b a=true
theorem Strict.asym{α:Type}{lt:α→α→Bool}(h:Strict lt){a b:α}(hab:lt a b=true):lt b a=false:=by
 cases hb:lt b a with
 | false=>rfl
 | true=>have:=h.trans _ _ _ hab hb;rw[h.irr] at this;cases this
def Asc{α:Type}(lt:α→α→Bool)(l:List α):Prop:=l.Pairwise fun a b=>lt a b=true
theorem Asc.get{α:Type}{lt:α→α→Bool}{l:List α}(h:Asc lt l){i j:Nat}(hi:i<j)(hj:j<l.length):lt (l[i]'(Nat.lt_trans hi hj)) l[j]=true :=
 (List.pairwise_iff_getElem.1 h) i j (by omega) hj hi
def low{α:Type}(lt:α→α→Bool)(l:List α)(b:α):Nat:=(l.takeWhile fun a=>lt a b).length
theorem Wj{α:Type}(lt:α→α→Bool)(l:List α)(b:α):low lt l b≤l.length:=by
 induction l with
 | nil=>simp[low]
 | cons a r ih =>
  by_cases h:lt a b=true
  ·simp only[low,List.takeWhile_cons,h,if_true,List.length_cons] at ih ⊢;omega
  ·simp[low,h]
theorem V8{α:Type}(lt:α→α→Bool)(b:α):∀ (l:List α)(i:Nat),i≤l.length→(∀ k (hk:k<l.length),k<i→lt l[k] b=true)→(∀ hk:i<l.length,lt l[i] b=false)→low lt l b=i
 | [],i,hi,_,_=>by simp at hi;simp[low,hi]
 | a::r,0,_,_,h2=>by
  have:lt a b=false:=h2 (by simp)
  simp[low,this]
 | a::r,i+1,hi,h1,h2=>by
  have ha:lt a b=true:=h1 0 (by simp) (by omega)
  have:=V8 lt b r i (by simpa using hi) (fun k hk hki=>h1 (k+1) (by simp;omega) (by omega)) (fun hk=>h2 (by simp;omega))
  simp only[low,List.takeWhile_cons,ha,if_true,List.length_cons] at this ⊢
  rw[this]
theorem Uk{α:Type}{lt:α→α→Bool}{b:α}:∀ {l:List α}{k:Nat}(hk:k<l.length),k<low lt l b→lt l[k] b=true
 | [],k,hk,_=>by simp at hk
 | a::r,k,hk,h=>by
  by_cases ha:lt a b=true
  ·cases k with
   | zero=>simpa using ha
   | succ k =>
    have h':k<low lt r b:=by simp only[low,List.takeWhile_cons,ha,if_true,List.length_cons] at h ⊢;omega
    simpa using Uk (l:=r) (k:=k) (by simpa using hk) h'
  ·simp[low,ha] at h
theorem Ul{α:Type}{lt:α→α→Bool}{b:α}:∀ {l:List α}(hk:low lt l b<l.length),lt l[low lt l b] b=false
 | [],hk=>by simp at hk
 | a::r,hk=>by
  by_cases ha:lt a b=true
  ·have e:low lt (a::r) b=low lt r b+1:=by simp[low,ha]
   have h2:low lt r b<r.length:=by rw[e] at hk;simpa using hk
   have:=Ul (l:=r) h2
   simp only[e,List.getElem_cons_succ]
   exact this
  ·have e:low lt (a::r) b=0:=by simp[low,ha]
   simp only[e,List.getElem_cons_zero]
   simpa using ha
def zX{α:Type} [BEq α] (lt:α→α→Bool)(l:List α)(b:α):Bool :=
 match l[low lt l b]? with
 | some a=>a==b
 | none=>false
theorem Wk{α:Type} [BEq α] {lt:α→α→Bool}{l:List α}{b:α}(h:¬low lt l b<l.length):zX lt l b=false:=by
 have:l[low lt l b]?=none:=by rw[List.getElem?_eq_none];omega
 simp[zX,this]
theorem Vs{α:Type} [BEq α] {lt:α→α→Bool}{l:List α}{b:α}(h:low lt l b<l.length):zX lt l b=(l[low lt l b]==b):=by
 have:l[low lt l b]?=some l[low lt l b]:=List.getElem?_eq_getElem h
 simp[zX,this]
theorem Asc.fst{α β:Type}{lt:α→α→Bool}{l:List (α × β)}(h:Asc lt (l.map Prod.fst)){i j:Nat}(hi:i<j)(hj:j<l.length):lt (l[i]'(Nat.lt_trans hi hj)).1 l[j].1=true:=by
 have:=h.get (i:=i) (j:=j) hi (by simpa using hj)
 rwa [List.getElem_map,List.getElem_map] at this
theorem YT{α β:Type} [BEq α] {lt:α→α→Bool}{l:List (α × β)}{b:α}{i:Nat}(hi:i<l.length)(h:low lt (l.map Prod.fst) b=i):zX lt (l.map Prod.fst) b=(l[i].1==b):=by
 subst h
 rw[Vs (by simpa using hi),List.getElem_map]
theorem Asc.ins{α:Type}{lt:α→α→Bool}(hs:Strict lt){l:List α}{b:α}(h:Asc lt l)(hn:∀ hl:low lt l b<l.length,l[low lt l b]≠b) :
  Asc lt (l.take (low lt l b)++[b]++l.drop (low lt l b)):=by
 have hall:∀ x∈l.drop (low lt l b),lt b x=true:=by
  intro x hx
  obtain⟨j,hj,rfl⟩:=List.getElem_of_mem hx
  rw[List.length_drop] at hj
  rw[List.getElem_drop]
  have hl:low lt l b<l.length:=by omega
  have h0:lt b l[low lt l b]=true:=hs.tri _ _ (Ul hl) (hn hl)
  rcases Nat.eq_zero_or_pos j with e|e
  ·subst e;exact h0
  ·exact hs.trans _ _ _ h0 (h.get (i:=low lt l b) (j:=low lt l b+j) (by omega) (by omega))
 have hall2:∀ x∈l.take (low lt l b),lt x b=true:=by
  intro x hx
  obtain⟨j,hj,rfl⟩:=List.getElem_of_mem hx
  rw[List.length_take] at hj
  rw[List.getElem_take]
  exact Uk (by omega) (by omega)
 unfold Asc at h ⊢
 have h2:(l.take (low lt l b)++l.drop (low lt l b)).Pairwise fun a b=>lt a b=true:=by rwa [List.take_append_drop]
 rw[List.pairwise_append] at h2
 rw[List.append_assoc,List.pairwise_append,List.singleton_append,List.pairwise_cons]
 refine⟨h2.1,⟨hall,h2.2.1⟩,fun a ha c hc=>?_⟩
 rcases List.mem_cons.1 hc with rfl|hc
 ·exact hall2 a ha
 ·exact h2.2.2 a ha c hc
theorem Asc.del{α:Type}{lt:α→α→Bool}{l:List α}(h:Asc lt l)(i:Nat):Asc lt (l.take i++l.drop (i+1)):=by
 unfold Asc at h ⊢
 refine h.sublist ?_
 have:l.take i++l.drop (i+1)=l.eraseIdx i:=by rw[List.eraseIdx_eq_take_drop_succ]
 rw[this]
 exact List.eraseIdx_sublist _ _
theorem Xt{a b:ByteArray}(h:a.toList=b.toList):a=b:=by
 rw[ByteArray.toList_eq,ByteArray.toList_eq] at h
 exact ByteArray.ext (Array.ext' h)
theorem zR{a b:ByteArray}:(a==b)=true↔a=b:=by
 rw[beq_toListBytes]
 constructor
 ·intro h;exact Xt (by simpa using h)
 ·intro h;subst h;simp
theorem YI:∀(x y:List UInt8),Op.bytesLess x y=decide (x<y)
 | [],[]=>by simp[Op.bytesLess]
 | _::_,[]=>by simp[Op.bytesLess]
 | [],_::_=>by simp[Op.bytesLess]
 | a::x,b::y=>by
  rw[Op.bytesLess,YI x y]
  simp only[List.cons_lt_cons_iff]
  by_cases h1:a<b <;> by_cases h2:a=b <;> by_cases h3:x<y <;> simp[h1,h2,h3]
end Go.Proofs.YtkhnggkkiefcdaaGreatDoor
