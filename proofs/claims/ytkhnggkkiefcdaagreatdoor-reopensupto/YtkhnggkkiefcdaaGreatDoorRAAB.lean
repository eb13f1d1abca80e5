/- larder: joined texts -/
import Derived.Test.YtkhnggkkiefcdaaGreatDoorRAAA
import Derived.Test.YtkhnggkkiefcdaaGreatDoorChecked
namespace Go.Proofs.YtkhnggkkiefcdaaGreatDoor
open Go.RowKit
set_option maxRecDepth 100000
set_option maxHeartbeats 8000000
structure FM where
 bytes:List UInt8
 safe:Nat
abbrev Dir:=List (ByteArray × Nat)
structure DM where
 dir:Dir
 safe:Dir
 chs:List Dir
 file:Nat→FM
 ids:List Nat
 room:Int
 calls:Int
 cut:Int
 fail:Int
 part:Int
 refused:Int
 fulls:Int
 dead:Bool
structure DL where
 dirV:Value
 safeV:Value
 chV:Value
 chVs:List Value
 fV:Nat→Value
def flat(d:Dir):List Value:=d.flatMap fun e=>[.string e.1,.pointer (some ⟨e.2,0,none⟩)]
theorem Yr(d:Dir):∀ (k:Nat)(h:k<d.length),(flat d)[k*2]?=some (.string d[k].1)∧(flat d)[k*2+1]?=some (.pointer (some ⟨d[k].2,0,none⟩)):=by
 induction d with
 | nil=>intro k h;simp at h
 | cons e d ih =>
  intro k h
  cases k with
  | zero=>exact⟨rfl,rfl⟩
  | succ k =>
   have:=ih k (by simpa using h)
   have e1:(k+1)*2=k*2+2:=by omega
   simp only[flat,List.flatMap_cons,e1] at this ⊢
   exact this
def Ze(d:Dir)(name:ByteArray):Int :=
 match d.findIdx? (fun e=>e.1==name) with
 | some i=>i
 | none=>-1
theorem Ot(d:Dir)(name:ByteArray)(k:Nat)(hk:k<d.length)(h1:∀ j (hj:j<d.length),j<k→(d[j].1==name)=false)(h2:(d[k].1==name)=true) :
  Ze d name=k:=by
 have:d.findIdx? (fun e=>e.1==name)=some k:=by
  rw[List.findIdx?_eq_some_iff_getElem]
  exact⟨hk,h2,fun j hj=>by have:=h1 j (by omega) hj;simpa using this⟩
 simp[Ze,this]
theorem Pg(d:Dir)(name:ByteArray)(h1:∀ j (hj:j<d.length),(d[j].1==name)=false):Ze d name=-1:=by
 have:d.findIdx? (fun e=>e.1==name)=none:=by
  rw[List.findIdx?_eq_none_iff]
  intro x hx
  obtain⟨j,hj,rfl⟩:=List.getElem_of_mem hx
  exact h1 j hj
 simp[Ze,this]
theorem Lb{k:IntKind}{a b:Int}(h:a=b):Ending.returned (.int k a)=.returned (.int k b):=by rw[h]
theorem Uc(v:Value)(d:Dir)(name:ByteArray)(w:World)(h:w.ownsRow 0 148 2 v d.length (flat d)) :
  Calls Tryz.prog 87 #[v,.string name] w fun e w'=>e=.returned (.int .i64 (Ze d name))∧Fr Nil w w':=by
 have hn:=zK h
 unfold maxLen at hn
 obtain⟨a,cap,rfl⟩:=z8 h
 go_enter Tryz.func87,Tryz.ntmps87
 go_wp2
 go_loopw [8] (fun t w'=>∃ k:Nat,k≤d.length∧t=.int .i64 k∧(∀ j (hj:j<d.length),j<k→(d[j].1==name)=false)∧Fr Nil w w') (fun t _=>d.length-(intOf t).toNat)
 case atStart=>exact⟨0,Nat.zero_le _,rfl,fun j _ hj=>absurd hj (Nat.not_lt_zero _),G _ _⟩
 case round =>
  obtain⟨k,hk,rfl,hj,hf⟩:=hrel
  by_cases hlt:k<d.length
  ·obtain⟨g,rfl⟩:∃ g,a=some ⟨g,0,none⟩:=by
    rcases h.2 with⟨h1,h0⟩|⟨g,cap,cur,h1,_⟩
    ·omega
    ·simp at h1;exact⟨g,h1.1⟩
   have hc:=own_cell? (z7 h hf (fun _ _=>id)) (k*2) _ (Yr d k hlt).1
   have hb:=beq_toListBytes d[k].1 name
   cases hm:(d[k].1==name) with
   | true =>
    have hm':(d[k].1.toList==name.toList)=true:=by rw[← hb];exact hm
    clear hb
    have hr:=Ot d name k hlt hj hm
    clear hm hj
    go_wp2
    go_ret
    exact⟨Lb hr.symm,hf⟩
   | false =>
    have hm':(d[k].1.toList==name.toList)=false:=by rw[← hb];exact hm
    clear hb
    have hj':∀ j (hj:j<d.length),j<k+1→(d[j].1==name)=false:=by
     intro j hjl hjk
     by_cases e:j=k
     ·subst e;exact hm
     ·exact hj j hjl (by omega)
    clear hm hj
    have HJ:=Z hj'
    clear hj'
    go_wp2
    exact⟨⟨k+1,by omega,by go_num,HJ.out,hf⟩,by simp[intOf];omega⟩
  ·have hr:=Pg d name (fun j hjl=>hj j hjl (by omega))
   clear hj
   go_wp2
   go_ret
   exact⟨Lb hr.symm,hf⟩
def DM.cells(L:DL)(M:DM):List Value :=
 [L.dirV,L.safeV,L.chV,.int .i64 M.room,.int .i64 M.calls,.int .i64 M.cut,.int .i64 M.fail,.int .i64 M.part,.int .i64 M.refused,.int .i64 M.fulls,.bool M.dead]
structure DRep(w:World)(b:Nat)(L:DL)(M:DM):Prop where
 blk:Blk w b (M.cells L) 143
 dir:w.ownsRow 0 148 2 L.dirV M.dir.length (flat M.dir)
 safe:w.ownsRow 0 148 2 L.safeV M.safe.length (flat M.safe)
 ch:w.ownsRow 0 145 1 L.chV M.chs.length L.chVs
 chl:L.chVs.length=M.chs.length
 chs:∀ i (h1:i<L.chVs.length) (h2:i<M.chs.length),w.ownsRow 0 148 2 L.chVs[i] M.chs[i].length (flat M.chs[i])
 files:∀ f,f∈M.ids→Blk w f [L.fV f,.int .i64 (M.file f).safe] 152
 rows:∀ f,f∈M.ids→w.ownsRow 0 5 1 (L.fV f) (M.file f).bytes.length (u8s (M.file f).bytes)
 sep:∀ f,f∈M.ids→∀ g,g∈M.ids→f≠g→∀ k,(L.fV f).ownBlock=some k→(L.fV g).ownBlock≠some k
 le:∀ f,f∈M.ids→(M.file f).safe≤(M.file f).bytes.length
 inD:∀ e,e∈M.dir→e.2∈M.ids
 inS:∀ e,e∈M.safe→e.2∈M.ids
 inC:∀ d,d∈M.chs→∀ e,e∈d→e.2∈M.ids
def Foot(b:Nat)(L:DL)(M:DM)(k:Nat):Prop :=
 k=b∨L.dirV.ownBlock=some k∨L.safeV.ownBlock=some k∨L.chV.ownBlock=some k
  ∨ (∃ (i:Nat) (_:i<L.chVs.length),L.chVs[i].ownBlock=some k)∨k∈M.ids∨(∃ f,f∈M.ids∧(L.fV f).ownBlock=some k)
theorem Foot.blk{b:Nat}{L:DL}{M:DM}:Foot b L M b:=.inl rfl
theorem Foot.dir{b:Nat}{L:DL}{M:DM}{k:Nat}(h:L.dirV.ownBlock=some k):Foot b L M k:=.inr (.inl h)
theorem Foot.safe{b:Nat}{L:DL}{M:DM}{k:Nat}(h:L.safeV.ownBlock=some k):Foot b L M k:=.inr (.inr (.inl h))
theorem Foot.ch{b:Nat}{L:DL}{M:DM}{k:Nat}(h:L.chV.ownBlock=some k):Foot b L M k:=.inr (.inr (.inr (.inl h)))
theorem Foot.chs{b:Nat}{L:DL}{M:DM}{k:Nat}(i:Nat)(h1:i<L.chVs.length)(h:L.chVs[i].ownBlock=some k):Foot b L M k:=.inr (.inr (.inr (.inr (.inl ⟨i,h1,h⟩))))
theorem Foot.file{b:Nat}{L:DL}{M:DM}{k:Nat}(h:k∈M.ids):Foot b L M k:=.inr (.inr (.inr (.inr (.inr (.inl h)))))
theorem Foot.row{b:Nat}{L:DL}{M:DM}{k:Nat}(f:Nat)(hf:f∈M.ids)(h:(L.fV f).ownBlock=some k):Foot b L M k:=.inr (.inr (.inr (.inr (.inr (.inr ⟨f,hf,h⟩)))))
theorem Foot.elim{b:Nat}{L:DL}{M:DM}{motive:(k:Nat)→Foot b L M k→Prop}(blk:motive b .blk)
  (dir:∀ {k:Nat}(h:L.dirV.ownBlock=some k),motive k (.dir h))(safe:∀ {k:Nat}(h:L.safeV.ownBlock=some k),motive k (.safe h))
  (ch:∀ {k:Nat}(h:L.chV.ownBlock=some k),motive k (.ch h))
  (chs:∀ {k:Nat}(i:Nat)(h1:i<L.chVs.length)(h:L.chVs[i].ownBlock=some k),motive k (.chs i h1 h))
  (file:∀ {k:Nat}(h:k∈M.ids),motive k (.file h))(row:∀ {k:Nat}(f:Nat)(hf:f∈M.ids)(h:(L.fV f).ownBlock=some k),motive k (.row f hf h))
  {k:Nat}(h:Foot b L M k):motive k h:=by
 rcases id h with e|e|e|e|⟨i,h1,e⟩|e|⟨f,hf,e⟩
 ·subst e;exact blk
 ·exact dir e
 ·exact safe e
 ·exact ch e
 ·exact chs i h1 e
 ·exact file e
 ·exact row f hf e
theorem DRep.lt{w:World}{b:Nat}{L:DL}{M:DM}(h:DRep w b L M){k:Nat}(hk:Foot b L M k):k<w.heap.size:=by
 cases hk using Foot.elim with
 | blk=>exact h.blk.lt
 | dir e=>exact zA h.dir e
 | safe e=>exact zA h.safe e
 | ch e=>exact zA h.ch e
 | chs i h1 e=>exact zA (h.chs i h1 (by rw[← h.chl];exact h1)) e
 | file e=>exact(h.files k e).lt
 | row f hf e=>exact zA (h.rows f hf) e
theorem DRep.fr{w w':World}{b:Nat}{L:DL}{M:DM}{S:Nat→Prop}(h:DRep w b L M)(f:Fr S w w')(hn:∀ k,Foot b L M k→¬S k):DRep w' b L M where
 blk:=h.blk.fr f (hn _ .blk)
 dir:=z7 h.dir f fun _ e=>hn _ (.dir e)
 safe:=z7 h.safe f fun _ e=>hn _ (.safe e)
 ch:=z7 h.ch f fun _ e=>hn _ (.ch e)
 chl:=h.chl
 chs:=fun i h1 h2=>z7 (h.chs i h1 h2) f fun _ e=>hn _ (.chs i h1 e)
 files:=fun g hg=>(h.files g hg).fr f (hn _ (.file hg))
 rows:=fun g hg=>z7 (h.rows g hg) f fun _ e=>hn _ (.row g hg e)
 sep:=h.sep
 le:=h.le
 inD:=h.inD
 inS:=h.inS
 inC:=h.inC
theorem DRep.own{w w':World}{b:Nat}{L:DL}{M M':DM}(h:DRep w b L M)(hb:Blk w' b (M'.cells L) 143)(f:Fr (fun k=>k=b) w w')
  (e1:M'.dir=M.dir)(e2:M'.safe=M.safe)(e3:M'.chs=M.chs)(e4:M'.file=M.file)(e5:M'.ids=M.ids):DRep w' b L M' where
 blk:=hb
 dir:=by rw[e1];exact z7 h.dir f fun _ e hk=>by subst hk;exact za h.dir h.blk (by decide) e
 safe:=by rw[e2];exact z7 h.safe f fun _ e hk=>by subst hk;exact za h.safe h.blk (by decide) e
 ch:=by rw[e3];exact z7 h.ch f fun _ e hk=>by subst hk;exact za h.ch h.blk (by decide) e
 chl:=by rw[e3];exact h.chl
 chs:=by
  rw[e3]
  exact fun i h1 h2=>z7 (h.chs i h1 h2) f fun _ e hk=>by subst hk;exact za (h.chs i h1 h2) h.blk (by decide) e
 files:=by rw[e4,e5];exact fun g hg=>(h.files g hg).fr f ((h.files g hg).ne h.blk (by decide))
 rows:=by rw[e4,e5];exact fun g hg=>z7 (h.rows g hg) f fun _ e hk=>by subst hk;exact za (h.rows g hg) h.blk (by decide) e
 sep:=by rw[e5];exact h.sep
 le:=by rw[e4,e5];exact h.le
 inD:=by rw[e1,e5];exact h.inD
 inS:=by rw[e2,e5];exact h.inS
 inC:=by rw[e3,e5];exact h.inC
def DM.begins(M:DM):Bool × Int × DM :=
 let c:=wrap64 (M.calls+1)
 if M.dead=true then(false,9,{M with calls:=c,refused:=wrap64 (M.refused+1)})
 else if (c==M.cut)=true then(true,9,{M with calls:=c,refused:=wrap64 (M.refused+1),dead:=true})
 else if (c==M.fail)=true then(false,9,{M with calls:=c,refused:=wrap64 (M.refused+1)})
 else(true,0,{M with calls:=c})
theorem DM.begins_dead(M:DM)(hd:M.dead=true):M.begins=(false,9,{M with calls:=wrap64 (M.calls+1),refused:=wrap64 (M.refused+1)}):=by
 simp[DM.begins,hd]
theorem DM.begins_cut(M:DM)(hd:M.dead=false)(h1:(wrap64 (M.calls+1)==M.cut)=true) :
  M.begins=(true,9,{M with calls:=wrap64 (M.calls+1),refused:=wrap64 (M.refused+1),dead:=true}):=by
 simp[DM.begins,hd,h1]
theorem DM.begins_fail(M:DM)(hd:M.dead=false)(h1:(wrap64 (M.calls+1)==M.cut)=false)(h2:(wrap64 (M.calls+1)==M.fail)=true) :
  M.begins=(false,9,{M with calls:=wrap64 (M.calls+1),refused:=wrap64 (M.refused+1)}):=by
 simp[DM.begins,hd,h1,h2]
theorem DM.begins_ok(M:DM)(hd:M.dead=false)(h1:(wrap64 (M.calls+1)==M.cut)=false)(h2:(wrap64 (M.calls+1)==M.fail)=false) :
  M.begins=(true,0,{M with calls:=wrap64 (M.calls+1)}):=by
 simp[DM.begins,hd,h1,h2]
theorem Ph(w:World)(b:Nat)(L:DL)(M:DM)(h:Blk w b (M.cells L) 143) :
  Calls Tryz.prog 209 #[.pointer (some ⟨b,0,none⟩)] w fun e w' =>
   e=.returned (.tuple #[.bool M.begins.1,.int .i64 M.begins.2.1])∧Blk w' b (M.begins.2.2.cells L) 143∧Fr (fun k=>k=b) w w':=by
 have hc:=h.cell
 have hf:=h.frozen
 have HH:=Z h
 clear h
 simp only[DM.cells] at hc
 cases hd:M.dead with
 | true =>
  rw[hd] at hc
  rw[M.begins_dead hd]
  have HD:=Z hd
  clear hd
  go_enter Tryz.func209,Tryz.ntmps209
  go_wp2
  go_ret2
  refine⟨rfl,?_,(by repeat' first|exact G _ _|(with_reducible assumption)|refine Fr.drewN ?_ _|refine Fr.drew ?_|refine Fr.alloc ?_ _|refine Fr.set ?_ ?_ _|(intro _;rfl))⟩
  have:=(HH.out.set 4 (.int .i64 (wrap64 (M.calls+1)))).set 8 (.int .i64 (wrap64 (M.refused+1)))
  exact this
 | false =>
  rw[hd] at hc
  cases h1:(wrap64 (M.calls+1)==M.cut) with
  | true =>
   rw[M.begins_cut hd h1]
   have HD:=Z hd
   clear hd
   go_enter Tryz.func209,Tryz.ntmps209
   go_wp2
   go_quiet (fail)
   go_wp2
   go_ret2
   refine⟨rfl,?_,(by repeat' first|exact G _ _|(with_reducible assumption)|refine Fr.drewN ?_ _|refine Fr.drew ?_|refine Fr.alloc ?_ _|refine Fr.set ?_ ?_ _|(intro _;rfl))⟩
   have:=((HH.out.set 4 (.int .i64 (wrap64 (M.calls+1)))).set 8 (.int .i64 (wrap64 (M.refused+1)))).set 10 (.bool true)
   exact this
  | false =>
   cases h2:(wrap64 (M.calls+1)==M.fail) with
   | true =>
    rw[M.begins_fail hd h1 h2]
    have HD:=Z hd
    clear hd
    go_enter Tryz.func209,Tryz.ntmps209
    go_wp2
    go_quiet (fail)
    go_wp2
    go_quiet (fail)
    go_wp2
    go_ret2
    refine⟨rfl,?_,(by repeat' first|exact G _ _|(with_reducible assumption)|refine Fr.drewN ?_ _|refine Fr.drew ?_|refine Fr.alloc ?_ _|refine Fr.set ?_ ?_ _|(intro _;rfl))⟩
    have:=(HH.out.set 4 (.int .i64 (wrap64 (M.calls+1)))).set 8 (.int .i64 (wrap64 (M.refused+1)))
    exact this
   | false =>
    rw[M.begins_ok hd h1 h2]
    have HD:=Z hd
    clear hd
    go_enter Tryz.func209,Tryz.ntmps209
    go_wp2
    go_quiet (fail)
    go_wp2
    go_quiet (fail)
    go_wp2
    go_ret2
    refine⟨rfl,?_,(by repeat' first|exact G _ _|(with_reducible assumption)|refine Fr.drewN ?_ _|refine Fr.drew ?_|refine Fr.alloc ?_ _|refine Fr.set ?_ ?_ _|(intro _;rfl))⟩
    have:=HH.out.set 4 (.int .i64 (wrap64 (M.calls+1)))
    exact this
theorem SS(w:World)(b:Nat)(L:DL)(M:DM)(h:DRep w b L M) :
  Calls Tryz.prog 209 #[.pointer (some ⟨b,0,none⟩)] w fun e w' =>
   e=.returned (.tuple #[.bool M.begins.1,.int .i64 M.begins.2.1])∧DRep w' b L M.begins.2.2∧Fr (fun k=>k=b) w w':=by
 refine(Ph w b L M h.blk).mono fun e w' ⟨h1,h2,h3⟩=>⟨h1,?_,h3⟩
 refine h.own h2 h3 ?_ ?_ ?_ ?_ ?_ <;> (unfold DM.begins;dsimp only;(repeat' split) <;> rfl)
def DM.new(room:Int):DM:={dir:=[],safe:=[],chs:=[],file:=fun _=>⟨[],0⟩,ids:=[],room:=room,calls:=0,cut:=0,fail:=0,part:=0,refused:=0,fulls:=0,dead:=false}
def DL.new:DL:={dirV:=.slice none 0 0,safeV:=.slice none 0 0,chV:=.slice none 0 0,chVs:=[],fV:=fun _=>.slice none 0 0}
theorem DRep.new{w:World}{b:Nat}{room:Int}(h:Blk w b ((DM.new room).cells DL.new) 143):DRep w b DL.new (DM.new room) where
 blk:=h
 dir:=World.ownsRow_nil w 0 _ _
 safe:=World.ownsRow_nil w 0 _ _
 ch:=World.ownsRow_nil w 0 _ _
 chl:=rfl
 chs:=fun i h1=>absurd h1 (Nat.not_lt_zero _)
 files:=fun f h1=>by cases h1
 rows:=fun f h1=>by cases h1
 sep:=fun f h1=>by cases h1
 le:=fun f h1=>by cases h1
 inD:=fun f h1=>by cases h1
 inS:=fun f h1=>by cases h1
 inC:=fun f h1=>by cases h1
theorem TE(room:Int)(w:World) :
  Calls Tryz.prog 50 #[.int .i64 room] w fun e w'=>e=.returned (.pointer (some ⟨w.heap.size,0,none⟩))∧DRep w' w.heap.size DL.new (DM.new room)∧Fr Nil w w'∧w'.heap.size=w.heap.size+1:=by
 go_enter Tryz.func50,Tryz.ntmps50
 go_wp2
 go_ret
 exact⟨rfl,DRep.new (Blk.new _ _ _),(by repeat' first|exact G _ _|(with_reducible assumption)|refine Fr.drewN ?_ _|refine Fr.drew ?_|refine Fr.alloc ?_ _|refine Fr.set ?_ ?_ _|(intro _;rfl)),by simp⟩
theorem Ud(w:World)(b:Nat)(L:DL)(M:DM)(h:DRep w b L M) :
  Calls Tryz.prog 38 #[.pointer (some ⟨b,0,none⟩)] w fun e w'=>e=.returned (.bool M.dead)∧w'=w:=by
 have hc:=h.blk.cell
 simp only[DM.cells] at hc
 go_enter Tryz.func38,Tryz.ntmps38
 go_wp2
 go_ret
 exact⟨rfl,rfl⟩
theorem Yn(w:World)(b:Nat)(L:DL)(M:DM)(h:DRep w b L M) :
  Calls Tryz.prog 47 #[.pointer (some ⟨b,0,none⟩)] w fun e w'=>e=.returned (.int .i64 M.refused)∧w'=w:=by
 have hc:=h.blk.cell
 simp only[DM.cells] at hc
 go_enter Tryz.func47,Tryz.ntmps47
 go_wp2
 go_ret
 exact⟨rfl,rfl⟩
theorem Qe(w:World)(b:Nat)(L:DL)(M:DM)(h:DRep w b L M) :
  Calls Tryz.prog 100 #[.pointer (some ⟨b,0,none⟩)] w fun e w'=>e=.returned (.int .i64 M.fulls)∧w'=w:=by
 have hc:=h.blk.cell
 simp only[DM.cells] at hc
 go_enter Tryz.func100,Tryz.ntmps100
 go_wp2
 go_ret
 exact⟨rfl,rfl⟩
def DM.setCut(M:DM)(n:Int):DM:={M with cut:=if 0<n then wrap64 (M.calls+n) else 0}
theorem Ou(n:Int)(w:World)(b:Nat)(L:DL)(M:DM)(h:DRep w b L M) :
  Calls Tryz.prog 37 #[.pointer (some ⟨b,0,none⟩),.int .i64 n] w fun e w' =>
   e=.returned (.tuple #[])∧DRep w' b L (M.setCut n)∧Fr (fun k=>k=b) w w':=by
 have hc:=h.blk.cell
 have hf:=h.blk.frozen
 simp only[DM.cells] at hc
 have HH:=Z h
 clear h
 by_cases hn:0<n
 ·have HM:Hid (M.setCut n={M with cut:=wrap64 (M.calls+n)}):=by simp[Hid,DM.setCut,hn]
  go_enter Tryz.func37,Tryz.ntmps37
  go_wp2
  go_end0
  rw[HM.out]
  refine⟨rfl,HH.out.own ?_ (by repeat' first|exact G _ _|(with_reducible assumption)|refine Fr.drewN ?_ _|refine Fr.drew ?_|refine Fr.alloc ?_ _|refine Fr.set ?_ ?_ _|(intro _;rfl)) rfl rfl rfl rfl rfl,(by repeat' first|exact G _ _|(with_reducible assumption)|refine Fr.drewN ?_ _|refine Fr.drew ?_|refine Fr.alloc ?_ _|refine Fr.set ?_ ?_ _|(intro _;rfl))⟩
  have:=(HH.out.blk.set 5 (.int .i64 0)).set 5 (.int .i64 (wrap64 (M.calls+n)))
  exact this
 ·have HM:Hid (M.setCut n={M with cut:=0}):=by simp[Hid,DM.setCut,hn]
  go_enter Tryz.func37,Tryz.ntmps37
  go_wp2
  go_end0
  rw[HM.out]
  refine⟨rfl,HH.out.own ?_ (by repeat' first|exact G _ _|(with_reducible assumption)|refine Fr.drewN ?_ _|refine Fr.drew ?_|refine Fr.alloc ?_ _|refine Fr.set ?_ ?_ _|(intro _;rfl)) rfl rfl rfl rfl rfl,(by repeat' first|exact G _ _|(with_reducible assumption)|refine Fr.drewN ?_ _|refine Fr.drew ?_|refine Fr.alloc ?_ _|refine Fr.set ?_ ?_ _|(intro _;rfl))⟩
  have:=(HH.out.blk.set 5 (.int .i64 0))
  exact this
def DM.setFail(M:DM)(n part:Int):DM:={M with fail:=if 0<n then wrap64 (M.calls+n) else 0,part:=if part<0 then wrap64 (-(wrap64 (part+1))) else part}
theorem Pi(n part:Int)(w:World)(b:Nat)(L:DL)(M:DM)(h:DRep w b L M) :
  Calls Tryz.prog 46 #[.pointer (some ⟨b,0,none⟩),.int .i64 n,.int .i64 part] w fun e w' =>
   e=.returned (.tuple #[])∧DRep w' b L (M.setFail n part)∧Fr (fun k=>k=b) w w':=by
 have hc:=h.blk.cell
 have hf:=h.blk.frozen
 simp only[DM.cells] at hc
 have HH:=Z h
 clear h
 by_cases hn:0<n <;> by_cases hp:part<0
 ·have HM:Hid (M.setFail n part={M with fail:=wrap64 (M.calls+n),part:=wrap64 (-(wrap64 (part+1)))}):=by simp[Hid,DM.setFail,hn,hp]
  go_enter Tryz.func46,Tryz.ntmps46
  go_wp2
  go_end0
  rw[HM.out]
  refine⟨rfl,HH.out.own ?_ (by repeat' first|exact G _ _|(with_reducible assumption)|refine Fr.drewN ?_ _|refine Fr.drew ?_|refine Fr.alloc ?_ _|refine Fr.set ?_ ?_ _|(intro _;rfl)) rfl rfl rfl rfl rfl,(by repeat' first|exact G _ _|(with_reducible assumption)|refine Fr.drewN ?_ _|refine Fr.drew ?_|refine Fr.alloc ?_ _|refine Fr.set ?_ ?_ _|(intro _;rfl))⟩
  have:=(((HH.out.blk.set 6 (.int .i64 0)).set 6 (.int .i64 (wrap64 (M.calls+n)))).set 7 (.int .i64 part)).set 7 (.int .i64 (wrap64 (-(wrap64 (part+1)))))
  exact this
 ·have HM:Hid (M.setFail n part={M with fail:=wrap64 (M.calls+n),part:=part}):=by simp[Hid,DM.setFail,hn,hp]
  go_enter Tryz.func46,Tryz.ntmps46
  go_wp2
  go_end0
  rw[HM.out]
  refine⟨rfl,HH.out.own ?_ (by repeat' first|exact G _ _|(with_reducible assumption)|refine Fr.drewN ?_ _|refine Fr.drew ?_|refine Fr.alloc ?_ _|refine Fr.set ?_ ?_ _|(intro _;rfl)) rfl rfl rfl rfl rfl,(by repeat' first|exact G _ _|(with_reducible assumption)|refine Fr.drewN ?_ _|refine Fr.drew ?_|refine Fr.alloc ?_ _|refine Fr.set ?_ ?_ _|(intro _;rfl))⟩
  have:=(((HH.out.blk.set 6 (.int .i64 0)).set 6 (.int .i64 (wrap64 (M.calls+n)))).set 7 (.int .i64 part))
  exact this
 ·have HM:Hid (M.setFail n part={M with fail:=0,part:=wrap64 (-(wrap64 (part+1)))}):=by simp[Hid,DM.setFail,hn,hp]
  go_enter Tryz.func46,Tryz.ntmps46
  go_wp2
  go_end0
  rw[HM.out]
  refine⟨rfl,HH.out.own ?_ (by repeat' first|exact G _ _|(with_reducible assumption)|refine Fr.drewN ?_ _|refine Fr.drew ?_|refine Fr.alloc ?_ _|refine Fr.set ?_ ?_ _|(intro _;rfl)) rfl rfl rfl rfl rfl,(by repeat' first|exact G _ _|(with_reducible assumption)|refine Fr.drewN ?_ _|refine Fr.drew ?_|refine Fr.alloc ?_ _|refine Fr.set ?_ ?_ _|(intro _;rfl))⟩
  have:=(((HH.out.blk.set 6 (.int .i64 0))).set 7 (.int .i64 part)).set 7 (.int .i64 (wrap64 (-(wrap64 (part+1)))))
  exact this
 ·have HM:Hid (M.setFail n part={M with fail:=0,part:=part}):=by simp[Hid,DM.setFail,hn,hp]
  go_enter Tryz.func46,Tryz.ntmps46
  go_wp2
  go_end0
  rw[HM.out]
  refine⟨rfl,HH.out.own ?_ (by repeat' first|exact G _ _|(with_reducible assumption)|refine Fr.drewN ?_ _|refine Fr.drew ?_|refine Fr.alloc ?_ _|refine Fr.set ?_ ?_ _|(intro _;rfl)) rfl rfl rfl rfl rfl,(by repeat' first|exact G _ _|(with_reducible assumption)|refine Fr.drewN ?_ _|refine Fr.drew ?_|refine Fr.alloc ?_ _|refine Fr.set ?_ ?_ _|(intro _;rfl))⟩
  have:=(((HH.out.blk.set 6 (.int .i64 0))).set 7 (.int .i64 part))
  exact this
def Dir.look(d:Dir)(name:ByteArray):Option Nat:=(d.find? fun e=>e.1==name).map (·.2)
theorem Yh(d:Dir)(name:ByteArray) :
  (Ze d name=-1∧Dir.look d name=none)∨∃ k:Nat,∃ h:k<d.length,Ze d name=k∧Dir.look d name=some d[k].2∧(d[k].1==name)=true:=by
 unfold Ze Dir.look
 cases hf:d.findIdx? (fun e=>e.1==name) with
 | none =>
  rw[List.findIdx?_eq_none_iff] at hf
  refine .inl ⟨rfl,?_⟩
  rw[List.find?_eq_none.2 (fun x hx=>by simpa using hf x hx)]
  rfl
 | some k =>
  rw[List.findIdx?_eq_some_iff_getElem] at hf
  obtain⟨hk,h2,h3⟩:=hf
  refine .inr ⟨k,hk,rfl,?_,h2⟩
  rw[(List.find?_eq_some_iff_getElem (xs:=d) (b:=d[k])).2 ⟨h2,k,hk,rfl,fun j hj=>by simpa using h3 j hj⟩]
  rfl
theorem Yz{v:Value}{d:Dir}{name:ByteArray}(hm:Ze d name=-1)(w:World)(h:w.ownsRow 0 148 2 v d.length (flat d)) :
  Calls Tryz.prog 87 #[v,.string name] w fun e w'=>e=.returned (.int .i64 (-1))∧Fr Nil w w':=by
 have:=Uc v d name w h
 rwa [hm] at this
theorem Zh{v:Value}{d:Dir}{name:ByteArray}{k:Nat}(hm:Ze d name=k)(w:World)(h:w.ownsRow 0 148 2 v d.length (flat d)) :
  Calls Tryz.prog 87 #[v,.string name] w fun e w'=>e=.returned (.int .i64 k)∧Fr Nil w w':=by
 have:=Uc v d name w h
 rwa [hm] at this
def DM.size(M:DM)(name:ByteArray):Int × Int :=
 match M.dir.look name with
 | some f=>((M.file f).bytes.length,0)
 | none=>(0,11)
theorem DRep.entry{w:World}{b:Nat}{L:DL}{M:DM}(h:DRep w b L M){k:Nat}(hk:k<M.dir.length) :
  ∃ g cap n c,L.dirV=.slice (some ⟨g,0,none⟩) M.dir.length cap∧M.dir[k].2∈M.ids∧w.cell? ⟨g,k*2,none⟩=some (.string M.dir[k].1) ∧
   w.cell? ⟨g,k*2+1,none⟩=some (.pointer (some ⟨M.dir[k].2,0,none⟩)) ∧
   L.fV M.dir[k].2=.slice n (M.file M.dir[k].2).bytes.length c:=by
 obtain⟨g,cap,hv,_⟩:=zi h.dir (by omega)
 have hd:=h.dir
 rw[hv] at hd
 have hi:=h.inD _ (List.getElem_mem hk)
 obtain⟨a,c,hr⟩:=z8 (h.rows _ hi)
 exact⟨g,cap,a,c,hv,hi,own_cell? hd _ _ (Yr _ k hk).1,own_cell? hd _ _ (Yr _ k hk).2,hr⟩
theorem Ue(name:ByteArray)(w:World)(b:Nat)(L:DL)(M:DM)(h:DRep w b L M) :
  Calls Tryz.prog 188 #[.pointer (some ⟨b,0,none⟩),.string name] w fun e w' =>
   e=.returned (.tuple #[.int .i64 (M.size name).1,.int .i64 (M.size name).2])∧Fr Nil w w':=by
 have hc:=h.blk.cell
 simp only[DM.cells] at hc
 have HH:=Z h
 have hlen:=zK h.dir
 unfold maxLen at hlen
 rcases Yh M.dir name with⟨h1,h2⟩|⟨k,hk,h1,h2,_⟩
 ·have HM:Hid (M.size name=(0,11)):=by simp[Hid,DM.size,h2]
  have H1:=Z h1
  clear h h1 h2
  go_enter Tryz.func188,Tryz.ntmps188
  go_wp2_with (go_at_call 87;refine(Yz H1.out _ HH.out.dir).mono ?_;rintro e w1 ⟨rfl,hf⟩)
  go_ret2
  rw[HM.out]
  exact⟨rfl,hf⟩
 ·have HM:Hid (M.size name=(((M.file M.dir[k].2).bytes.length:Int),(0:Int))):=by simp[Hid,DM.size,h2]
  have H1:=Z h1
  clear h h1 h2
  go_enter Tryz.func188,Tryz.ntmps188
  go_wp2_with fail
  refine(Zh H1.out _ HH.out.dir).mono ?_
  rintro e w1 ⟨rfl,hf⟩
  have h':=HH.out.fr hf (fun _ _=>id)
  clear hc
  have hc:=h'.blk.cell
  simp only[DM.cells] at hc
  obtain⟨g,cap,n,c,hv,hi,_,hp,hs⟩:=h'.entry hk
  have hcf:=(h'.files _ hi).cell
  rw[hs] at hcf
  rw[hv] at hc
  clear hs hv h'
  go_wp2
  go_ret2
  rw[HM.out]
  exact⟨rfl,hf⟩
def DM.usedTo(M:DM)(k:Nat):Int:=(M.dir.take k).foldl (fun n e=>wrap64 (n+(M.file e.2).bytes.length)) 0
def DM.used(M:DM):Int:=M.usedTo M.dir.length
theorem DM.usedTo_succ(M:DM)(k:Nat)(h:k<M.dir.length):M.usedTo (k+1)=wrap64 (M.usedTo k+(M.file M.dir[k].2).bytes.length):=by
 unfold DM.usedTo
 rw[List.take_succ_eq_append_getElem h,List.foldl_append]
 rfl
theorem Uf(w:World)(b:Nat)(L:DL)(M:DM)(h:DRep w b L M) :
  Calls Tryz.prog 41 #[.pointer (some ⟨b,0,none⟩)] w fun e w'=>e=.returned (.int .i64 M.used)∧Fr Nil w w':=by
 have hc:=h.blk.cell
 simp only[DM.cells] at hc
 have hlen:=zK h.dir
 unfold maxLen at hlen
 obtain⟨a,cap,hv⟩:=z8 h.dir
 rw[hv] at hc
 have HH:=Z h
 have HV:=Z hv
 clear h hv
 go_enter Tryz.func41,Tryz.ntmps41
 go_wp2
 clear hc
 go_loopw [3,11] (fun n t w'=>∃ k:Nat,k≤M.dir.length∧t=.int .i64 k∧n=.int .i64 (M.usedTo k)∧Fr Nil w w') (fun _ t _=>M.dir.length-(intOf t).toNat)
 case atStart=>exact⟨0,Nat.zero_le _,rfl,rfl,G _ _⟩
 case round =>
  obtain⟨k,hk,rfl,rfl,hf⟩:=hrel
  have h':=HH.out.fr hf (fun _ _=>id)
  by_cases hlt:k<M.dir.length
  ·obtain⟨g,cap',n,c,hv',hi,he,hp,hs⟩:=h'.entry hlt
   rw[HV.out] at hv'
   simp at hv'
   obtain⟨rfl,rfl⟩:=hv'
   have hcf:=(h'.files _ hi).cell
   rw[hs] at hcf
   have HU:=Z (M.usedTo_succ k hlt)
   have hl1:=(h'.files _ hi).lt
   have hl2:=World.block_lt_of_cell? _ _ he
   clear hs h'
   go_wp2
   exact⟨⟨k+1,by omega,by go_num,by rw[HU.out],hf.alloc _⟩,by simp[intOf];omega⟩
  ·go_wp2
   go_ret
   have:k=M.dir.length:=by omega
   subst this
   exact⟨rfl,hf⟩
def zh(l:List UInt8):ByteArray:=⟨l.toArray⟩
def DM.read(M:DM)(name:ByteArray)(at_ n:Int):ByteArray × Int :=
 match M.dir.look name with
 | none=>(ByteArray.empty,11)
 | some f =>
  if 0≤at_∧0≤n∧at_≤(M.file f).bytes.length∧n≤(M.file f).bytes.length-at_ then
   (zh (((M.file f).bytes.drop at_.toNat).take n.toNat),0)
  else(ByteArray.empty,12)
theorem Ov(name:ByteArray)(x n:Int)(w:World)(b:Nat)(L:DL)(M:DM)(h:DRep w b L M)(h1:Ze M.dir name=-1)(h2:M.dir.look name=none) :
  Calls Tryz.prog 189 #[.pointer (some ⟨b,0,none⟩),.string name,.int .i64 x,.int .i64 n] w fun e w' =>
   e=.returned (.tuple #[.string (M.read name x n).1,.int .i64 (M.read name x n).2])∧Fr Nil w w':=by
 have hc:=h.blk.cell
 simp only[DM.cells] at hc
 have HH:=Z h
 have HM:Hid (M.read name x n=(ByteArray.empty,(11:Int))):=by simp[Hid,DM.read,h2]
 have H1:=Z h1
 clear h h1 h2
 go_enter Tryz.func189,Tryz.ntmps189
 go_wp2_with (go_at_call 87;refine(Yz H1.out _ HH.out.dir).mono ?_;rintro e w1 ⟨rfl,hf⟩)
 go_ret2
 rw[HM.out]
 exact⟨rfl,hf⟩
theorem NP(name:ByteArray)(x n:Int)(w:World)(b:Nat)(L:DL)(M:DM)(h:DRep w b L M)(k:Nat)(hk:k<M.dir.length)(h1:Ze M.dir name=k)(h2:M.dir.look name=some M.dir[k].2)
  (hx:¬(0≤x∧0≤n∧x≤(M.file M.dir[k].2).bytes.length∧n≤(M.file M.dir[k].2).bytes.length-x)) :
  Calls Tryz.prog 189 #[.pointer (some ⟨b,0,none⟩),.string name,.int .i64 x,.int .i64 n] w fun e w' =>
   e=.returned (.tuple #[.string (M.read name x n).1,.int .i64 (M.read name x n).2])∧Fr Nil w w':=by
 have hc:=h.blk.cell
 simp only[DM.cells] at hc
 have HH:=Z h
 have hlen:=zK h.dir
 have hlen2:=zK (h.rows _ (h.inD _ (List.getElem_mem hk)))
 unfold maxLen at hlen hlen2
 have HM:Hid (M.read name x n=(ByteArray.empty,(12:Int))):=by simp only[Hid,DM.read,h2];rw[if_neg hx]
 have H1:=Z h1
 clear h h1 h2
 have hway:x<0∨(0≤x∧n<0)∨(0≤x∧0≤n∧((M.file M.dir[k].2).bytes.length:Int)<x)∨(0≤x∧0≤n∧x≤((M.file M.dir[k].2).bytes.length:Int)∧((M.file M.dir[k].2).bytes.length:Int)-x<n):=by omega
 clear hx
 rcases hway with a1|⟨a1,a2⟩|⟨a1,a2,a3⟩|⟨a1,a2,a3,a4⟩
 all_goals
  go_enter Tryz.func189,Tryz.ntmps189
  go_wp2_with fail
  refine(Zh H1.out _ HH.out.dir).mono ?_
  rintro e w1 ⟨rfl,hf⟩
  have h':=HH.out.fr hf (fun _ _=>id)
  clear hc
  have hc:=h'.blk.cell
  simp only[DM.cells] at hc
  obtain⟨g,cap,m,c,hv,hi,_,hp,hs⟩:=h'.entry hk
  have hcf:=(h'.files _ hi).cell
  rw[hs] at hcf
  rw[hv] at hc
  clear hs hv h'
  go_wp2
  go_ret2
  rw[HM.out]
  exact⟨rfl,hf⟩
theorem VU{P:Program}{t e u:TypeId}(ht:P.underlying t=some (.slice e))(he:P.underlying e=some (.int .u8))(hu:P.underlying u=some .string)
  {w:World}{g n cap:Nat}{bs:List UInt8}(h:w.ownsRow 0 5 1 (.slice (some ⟨g,0,none⟩) n cap) n (u8s bs))(x m c:Nat)(hx:x+m≤bs.length) :
  (convert t u (.slice (some ⟨g,x,none⟩) m c)).run P w=.ok (.string (zh ((bs.drop x).take m))) w:=by
 have hl:(loadCells ⟨g,x,none⟩ m).run P w=.ok ((((bs.drop x).take m).map fun c:UInt8=>(c.toNat:Int)).map (Value.int .u8)).toArray w:=by
  have h1:=run_loadCells_list (P:=P) w ⟨g,x,none⟩ ((((bs.drop x).take m).map fun c:UInt8=>(c.toNat:Int)).map (Value.int .u8)) (by
   intro j v hv
   have hj:j<m:=by
    rcases Nat.lt_or_ge j m with h'|h'
    ·exact h'
    ·rw[List.getElem?_eq_none (by simp;omega)] at hv;cases hv
   have hadd:(⟨g,x,none⟩:Addr).add j=⟨g,x+j,none⟩:=by unfold Addr.add;split <;> simp_all
   rw[hadd]
   refine own_cell? h _ _ ?_
   rw[← hv]
   simp[u8s,hj,List.getElem?_drop]
   rfl)
  have h2:((((bs.drop x).take m).map fun c:UInt8=>(c.toNat:Int)).map (Value.int .u8)).length=m:=by simp;omega
  rw[h2] at h1
  exact h1
 rw[run_convert_bytes_string w t u e _ m c ht he hu,run_bytesToString w _ m c _ hl]
 congr 2
 have key:∀ (l:List UInt8) (acc:ByteArray),(l.map fun c:UInt8=>(c.toNat:Int)).foldl (fun r n=>r.push (UInt8.ofNat n.toNat)) acc=⟨(acc.data.toList++l).toArray⟩:=by
  intro l
  induction l with
  | nil=>intro acc;simp
  | cons a l ih =>
   intro acc
   simp only[List.map_cons,List.foldl_cons]
   rw[ih]
   simp[ByteArray.push]
 rw[key]
 rfl
theorem Ow(name:ByteArray)(x n:Nat)(w:World)(b:Nat)(L:DL)(M:DM)(h:DRep w b L M)(k:Nat)(hk:k<M.dir.length)(h1:Ze M.dir name=k)(h2:M.dir.look name=some M.dir[k].2)
  (hx:x+n≤(M.file M.dir[k].2).bytes.length)(h0:0<n) :
  Calls Tryz.prog 189 #[.pointer (some ⟨b,0,none⟩),.string name,.int .i64 x,.int .i64 n] w fun e w' =>
   e=.returned (.tuple #[.string (M.read name x n).1,.int .i64 (M.read name x n).2])∧Fr Nil w w':=by
 have hc:=h.blk.cell
 simp only[DM.cells] at hc
 have HH:=Z h
 have hlen:=zK h.dir
 have hlen2:=zK (h.rows _ (h.inD _ (List.getElem_mem hk)))
 unfold maxLen at hlen hlen2
 have HM:Hid (M.read name x n=(zh (((M.file M.dir[k].2).bytes.drop x).take n),(0:Int))):=by simp only[Hid,DM.read,h2];rw[if_pos (by omega)];simp
 have H1:=Z h1
 clear h h1 h2
 have a1:¬(x:Int)<0:=by omega
 have a2:¬(n:Int)<0:=by omega
 have a3:¬((M.file M.dir[k].2).bytes.length:Int)<x:=by omega
 have a4:¬((M.file M.dir[k].2).bytes.length:Int)-x<n:=by omega
 go_enter Tryz.func189,Tryz.ntmps189
 go_wp2_with fail
 refine(Zh H1.out _ HH.out.dir).mono ?_
 rintro e w1 ⟨rfl,hf⟩
 have h':=HH.out.fr hf (fun _ _=>id)
 clear hc
 have hc:=h'.blk.cell
 simp only[DM.cells] at hc
 obtain⟨g,cap,m,c,hv,hi,_,hp,hs⟩:=h'.entry hk
 have hr:=h'.rows _ hi
 obtain⟨gb,cb,hs',hcl,hcm⟩:=zi hr (by omega)
 have hcf:=(h'.files _ hi).cell
 rw[hs'] at hcf hr
 rw[hv] at hc
 unfold maxLen at hcm
 have hcx:¬cb=x:=by omega
 have hcv:=VU (P:=Tryz.prog) (t:=150) (u:=9) Tryz.underlying150 Tryz.underlying5 Tryz.underlying9 hr x n (cb-x) hx
 clear hs hv h' hr hs'
 go_wp2
 go_ret2
 rw[HM.out]
 exact⟨rfl,hf⟩
theorem Ox{P:Program}{t e u:TypeId}(ht:P.underlying t=some (.slice e))(he:P.underlying e=some (.int .u8))(hu:P.underlying u=some .string)
  (w:World)(a:Option Addr)(c:Nat):(convert t u (.slice a 0 c)).run P w=.ok (.string ByteArray.empty) w:=by
 rw[run_convert_bytes_string w t u e _ 0 c ht he hu]
 cases a with
 | none=>rfl
 | some a=>exact run_bytesToString w a 0 c [] (by rfl)
theorem Oy(name:ByteArray)(x:Nat)(w:World)(b:Nat)(L:DL)(M:DM)(h:DRep w b L M)(k:Nat)(hk:k<M.dir.length)(h1:Ze M.dir name=k)(h2:M.dir.look name=some M.dir[k].2)
  (hx:x≤(M.file M.dir[k].2).bytes.length) :
  Calls Tryz.prog 189 #[.pointer (some ⟨b,0,none⟩),.string name,.int .i64 x,.int .i64 0] w fun e w' =>
   e=.returned (.tuple #[.string (M.read name x 0).1,.int .i64 (M.read name x 0).2])∧Fr Nil w w':=by
 have hc:=h.blk.cell
 simp only[DM.cells] at hc
 have HH:=Z h
 have hlen:=zK h.dir
 have hlen2:=zK (h.rows _ (h.inD _ (List.getElem_mem hk)))
 unfold maxLen at hlen hlen2
 have HM:Hid (M.read name x 0=(ByteArray.empty,(0:Int))):=by simp only[Hid,DM.read,h2];rw[if_pos (by omega)];simp[zh];rfl
 have H1:=Z h1
 clear h h1 h2
 have a1:¬(x:Int)<0:=by omega
 have a3:¬((M.file M.dir[k].2).bytes.length:Int)<x:=by omega
 have a4:¬((M.file M.dir[k].2).bytes.length:Int)-x<0:=by omega
 go_enter Tryz.func189,Tryz.ntmps189
 go_wp2_with fail
 refine(Zh H1.out _ HH.out.dir).mono ?_
 rintro e w1 ⟨rfl,hf⟩
 have h':=HH.out.fr hf (fun _ _=>id)
 clear hc
 have hc:=h'.blk.cell
 simp only[DM.cells] at hc
 obtain⟨g,cap,m,c,hv,hi,_,hp,hs⟩:=h'.entry hk
 have hr:=h'.rows _ hi
 have hcl:(M.file M.dir[k].2).bytes.length≤c∧c≤maxLen:=by
  rcases hr.2 with⟨h1,h2⟩|⟨_,_,_,h1,_,_,h2,h3,_⟩
  ·rw[hs] at h1;simp at h1;omega
  ·rw[hs] at h1;simp at h1;omega
 unfold maxLen at hcl
 obtain⟨hcl,hcm⟩:=hcl
 have hcf:=(h'.files _ hi).cell
 rw[hs] at hcf
 rw[hv] at hc
 have hcv:=Ox (P:=Tryz.prog) (t:=150) (u:=9) Tryz.underlying150 Tryz.underlying5 Tryz.underlying9 w1
 clear hs hv h' hr
 go_wp2
 all_goals
  go_ret2
  rw[HM.out]
  exact⟨rfl,hf⟩
theorem Pj(name:ByteArray)(x n:Int)(w:World)(b:Nat)(L:DL)(M:DM)(h:DRep w b L M) :
  Calls Tryz.prog 189 #[.pointer (some ⟨b,0,none⟩),.string name,.int .i64 x,.int .i64 n] w fun e w' =>
   e=.returned (.tuple #[.string (M.read name x n).1,.int .i64 (M.read name x n).2])∧Fr Nil w w':=by
 rcases Yh M.dir name with⟨h1,h2⟩|⟨k,hk,h1,h2,_⟩
 ·exact Ov name x n w b L M h h1 h2
 ·by_cases hx:0≤x∧0≤n∧x≤(M.file M.dir[k].2).bytes.length∧n≤(M.file M.dir[k].2).bytes.length-x
  ·obtain⟨a,b',c,d⟩:=hx
   obtain⟨x,rfl⟩:=Int.eq_ofNat_of_zero_le a
   obtain⟨n,rfl⟩:=Int.eq_ofNat_of_zero_le b'
   rcases Nat.eq_zero_or_pos n with rfl|hn
   ·exact Oy name x w b L M h k hk h1 h2 (by omega)
   ·exact Ow name x n w b L M h k hk h1 h2 (by omega) hn
  ·exact NP name x n w b L M h k hk h1 h2 hx
theorem Zg.call1{W w:World}{g:FuncId}{p:Value}{bs:List UInt8}(h:Zg W (.func (.func g) #[] #[p]) bs)(hw:Still W w){v:Value}{n:Nat}{xs:List Value}(ho:w.ownsRow 0 5 1 v n xs)(hlim:n+bs.length≤1099511627776) :
  Calls Tryz.prog g #[v,p] w fun e w'=>∃ v',e=.returned v'∧Adds w v n xs bs v' w':=by
 obtain⟨g',lb,hpv,_,hc⟩:=h
 simp only[Value.func.injEq,Fn.func.injEq] at hpv
 obtain⟨rfl,_,rfl⟩:=hpv
 exact hc w hw v n xs ho hlim
def zM(l:List Ver):List Value:=l.flatMap Ver.cells
theorem YG(l:List Ver):(zM l).length=l.length*8:=by
 induction l with
 | nil=>rfl
 | cons e l ih=>simp only[zM,List.flatMap_cons,List.length_append,List.length_cons,Ver.cells_length] at ih ⊢;omega
theorem TF(l:List Ver):∀ (k j:Nat)(h:k<l.length)(_:j<8),(zM l)[k*8+j]?=l[k].cells[j]?:=by
 induction l with
 | nil=>intro k j h;simp at h
 | cons e l ih =>
  intro k j h hj
  cases k with
  | zero =>
   simp only[zM,List.flatMap_cons,Nat.zero_mul,Nat.zero_add,List.getElem_cons_zero]
   exact List.getElem?_append_left (by rw[Ver.cells_length];exact hj)
  | succ k =>
   have:=ih k j (by simpa using h) hj
   have e1:(k+1)*8+j=k*8+j+8:=by omega
   simp only[zM,List.flatMap_cons,e1,List.getElem_cons_succ] at this ⊢
   rw[List.getElem?_append_right (by rw[Ver.cells_length];omega),Ver.cells_length,show k*8+j+8-8=k*8+j by omega]
   exact this
theorem Xb(l:List Ver):∀ u∈zM l,u.oneCell'=true:=by
 intro u hu
 simp only[zM,List.mem_flatMap] at hu
 obtain⟨e,_,hu⟩:=hu
 simp only[Ver.cells,List.mem_cons,List.not_mem_nil,or_false] at hu
 rcases hu with rfl|rfl|rfl|rfl|rfl|rfl|rfl|rfl <;> rfl
def Zt(l:List Ver):List UInt8:=zd l.length++(l.map ZA).flatten
theorem ST(b1 b2:Nat)(lv:Value)(l:List Ver)(hl:∀ x∈l,x.Nat)(hln:l.length<1000000)(w:World)
  (h1:Blk w b1 [lv] 61)(h2:Blk w b2 [.func (.func 289) #[] #[]] 372)
  (hr:w.ownsRow 0 37 8 lv l.length (zM l))
  (v:Value)(n:Nat)(xs:List Value)(ho:w.ownsRow 0 5 1 v n xs)(hlim:n+(Zt l).length≤1099511627776) :
  Calls Tryz.prog 292 #[v,.pointer (some ⟨b1,0,none⟩),.pointer (some ⟨b2,0,none⟩)] w fun e w'=>∃ v',e=.returned v'∧Adds w v n xs (Zt l) v' w':=by
 have hc1:w.cell? ⟨b1,0,none⟩=some lv:=by rw[h1.cell];rfl
 obtain⟨va,vc,rfl⟩:=z8 ho
 obtain⟨la,lc,rfl⟩:=z8 hr
 have HO:=Z ho
 have H1:=Z h1
 clear h1 ho
 have hlen:n+(zd l.length).length+((l.map ZA).flatten).length≤1099511627776:=by simp only[Zt,List.length_append] at hlim;omega
 have HL:=Z hlen
 clear hlen hlim
 have HR:=Z hr
 have H2:=Z h2
 have HLX:=Z hl
 clear hr h2 hl
 go_enter Tryz.func292,Tryz.ntmps292
 go_wp2_with (first
  | (go_at_call 280;refine(ZN w.heap.size l.length (by omega) _ hb2 (.slice va n vc) n xs (z7 (S:=Nil) HO.out hf2 (fun _ _=>id)) (by have:=HL.out;omega)).mono ?_;rintro e w3 ⟨v3,rfl,hA3⟩;refine Hid.out ?_)
  | (go_at_call 277;refine(Zr w _ _ (G _ _)).mono ?_;rintro e w2 ⟨rfl,hb2,hf2⟩))
 have HA3:=Z (hA3.of hf2)
 have hst3:=HA3.out.still HO.out
 have hc3:w3.cell? ⟨b1,0,none⟩=some (.slice la l.length lc):=by rw[(H1.out.still (by decide) hst3).cell];rfl
 clear hA3 hb2 hf2 hst3
 refine Z ?_
 go_wp2_with fail
 go_loopw [0,14] (fun t0 t14 w'=>∃ i:Nat,i≤l.length∧t14=.int .i64 i∧Adds w (.slice va n vc) n xs (zd l.length++((l.take i).map ZA).flatten) t0 w') (fun _ t14 _=>l.length-(intOf t14).toNat)
 case atStart=>exact⟨0,Nat.zero_le _,rfl,by simpa using HA3.out⟩
 case round =>
  obtain⟨i,hi,rfl,hA⟩:=hrel
  have hst:=hA.still HO.out
  obtain⟨m,hm⟩:∃ m,m=n+(zd l.length++((l.take i).map ZA).flatten).length:=⟨_,rfl⟩
  have how:=hA.1
  rw[← hm] at how
  obtain⟨ta,tc,rfl⟩:=z8 how
  have HW:=Z how
  have HM:=Z hm
  clear how hm
  by_cases hlt:i<l.length
  ·obtain⟨g,rfl⟩:∃ g,la=some ⟨g,0,none⟩:=by
    obtain⟨g,cap,h,_⟩:=zi HR.out (by omega)
    simp at h;exact⟨g,h.1⟩
   have hr1:=Wu (by decide) HR.out hst
   have hg:=fun j hj=>own_cell? hr1 (i*8+j) _ ((TF l i j hlt hj).trans (List.getElem?_eq_getElem (by rw[Ver.cells_length];exact hj)))
   have g0:=hg 0 (by omega)
   have g1:=hg 1 (by omega)
   have g2:=hg 2 (by omega)
   have g3:=hg 3 (by omega)
   have g4:=hg 4 (by omega)
   have g5:=hg 5 (by omega)
   have g6:=hg 6 (by omega)
   have g7:=hg 7 (by omega)
   have hc2:∀ ob:Obj,(wr.alloc ob).cell? ⟨b2,0,none⟩=some (.func (.func 289) #[] #[]):=fun ob=>by rw[((H2.out.still (by decide) hst).alloc ob).cell];rfl
   have hx:=HLX.out l[i] (List.getElem_mem hlt)
   have hsum:zd l.length++((l.take (i+1)).map ZA).flatten=(zd l.length++((l.take i).map ZA).flatten)++ZA l[i]:=by
    rw[List.take_succ_eq_append_getElem hlt,List.map_append,List.flatten_append];simp
   have hle:m+(ZA l[i]).length≤1099511627776:=by
    have h1:=XC (l.map ZA) (i+1)
    have h2:=HL.out
    rw[← List.map_take] at h1
    have h3:=congrArg List.length hsum
    rw[HM.out]
    simp only[List.length_append] at h3 ⊢
    omega
   have HSUM:=Z hsum
   have HA:=Z hA
   have HLE:=Z hle
   clear hsum hA hle hr1 hg
   generalize l[i]=x at g0 g1 g2 g3 g4 g5 g6 g7 hx HSUM HLE
   obtain⟨node,seq,o0,o1,o2,o3,value,gone⟩:=x
   simp only[Ver.cells,List.getElem_cons_zero,List.getElem_cons_succ,Nat.add_zero] at g0 g1 g2 g3 g4 g5 g6 g7
   have HX:=Z hx
   clear hx
   go_wp2_with fail
   refine(S8 ⟨node,seq,o0,o1,o2,o3,value,gone⟩ HX.out _).mono ?_
   rintro e w4 ⟨pb,rfl,hp,hf4⟩
   have hf4':Fr Nil wr w4:=((G Nil wr).alloc _).trans hf4
   have HP:=Z hp
   clear hp hf4
   go_wp2_with fail
   refine(HP.out.call1 (Still.of_nil (G _ _)) (z7 (S:=Nil) HW.out hf4' (fun _ _=>id)) HLE.out).mono ?_
   rintro e w5 ⟨v5,rfl,hA5⟩
   have HB2:=Z (HA.out.next HM.out (hA5.of hf4'))
   clear hA5
   go_wp2
   refine⟨⟨i+1,by omega,by go_num,by rw[HSUM.out];exact HB2.out⟩,?_⟩
   simp[intOf]
   omega
  ·have e:i=l.length:=by omega
   have hall:zd l.length++((l.take i).map ZA).flatten=Zt l:=by rw[e,List.take_length];rfl
   rw[hall] at hA
   have HA:=Z hA
   clear hall hA
   go_wp2
   go_ret
   exact⟨_,rfl,HA.out⟩
theorem SU(a:Option Addr)(n c:Nat)(w:World) :
  Calls Tryz.prog 288 #[.slice a n c,.func (.func 289) #[] #[]] w fun e w' =>
   e=.returned (.func (.func 292) #[] #[.pointer (some ⟨w.heap.size,0,none⟩),.pointer (some ⟨w.heap.size+1,0,none⟩)]) ∧
   w'=(w.alloc (.cells #[.slice a n c] 61)).alloc (.cells #[.func (.func 289) #[] #[]] 372):=by
 go_enter Tryz.func288,Tryz.ntmps288
 go_wp2
 go_ret
 exact⟨rfl,rfl⟩
theorem Qf(W:World)(lv:Value)(l:List Ver)(hl:∀ x∈l,x.Nat)(hln:l.length<1000000)(w:World)(hf:Fr Nil W w)(hr:w.ownsRow 0 37 8 lv l.length (zM l)) :
  Calls Tryz.prog 288 #[lv,.func (.func 289) #[] #[]] w fun e w' =>
   ∃ b1 b2,e=.returned (.func (.func 292) #[] #[.pointer (some ⟨b1,0,none⟩),.pointer (some ⟨b2,0,none⟩)]) ∧
   Zg w' (.func (.func 292) #[] #[.pointer (some ⟨b1,0,none⟩),.pointer (some ⟨b2,0,none⟩)]) (Zt l)∧Fr Nil W w':=by
 obtain⟨a,c,rfl⟩:=z8 hr
 refine(SU a l.length c w).mono ?_
 rintro e w' ⟨rfl,rfl⟩
 have h2:Blk ((w.alloc (.cells #[.slice a l.length c] 61)).alloc (.cells #[.func (.func 289) #[] #[]] 372)) (w.heap.size+1) [.func (.func 289) #[] #[]] 372:=by
  have:=Blk.new (w.alloc (.cells #[.slice a l.length c] 61)) [.func (.func 289) #[] #[]] 372
  simpa using this
 have h1:=(Blk.new w [.slice a l.length c] 61).alloc (.cells #[.func (.func 289) #[] #[]] 372)
 have hr':=z7 (S:=Nil) hr (((G Nil w).alloc (.cells #[.slice a l.length c] 61)).alloc (.cells #[.func (.func 289) #[] #[]] 372)) (fun _ _=>id)
 exact⟨_,_,rfl,⟨_,_,rfl,enters_of Tryz.func292 (by kernel_rfl) rfl,fun w hw v n xs ho hlim =>
  ST _ _ _ l hl hln w (h1.still (by decide) hw) (h2.still (by decide) hw) (Wu (by decide) hr' hw) v n xs ho hlim⟩,(hf.alloc _).alloc _⟩
def Z6(body:List UInt8):List UInt8:=zd body.length++body
theorem Pk(sv:Value)(pvs:List Value)(bss:List (List UInt8))(w:World)(hs:w.ownsRow 0 365 1 sv pvs.length pvs)(hp:Zl w pvs bss)(hlim:bss.flatten.length≤500000000000)(hlim2:(zd bss.flatten.length).length≤100) :
  Calls Tryz.prog 276 #[sv] w fun e w'=>e=.returned (.string (zh (Z6 bss.flatten)))∧Fr Nil w w':=by
 obtain⟨sa,sc,rfl⟩:=z8 hs
 have HS:=Z hs
 have HP:=Z hp
 clear hs hp
 go_enter Tryz.func276,Tryz.ntmps276
 go_wp2_with fail
 refine(V7 sa _ sc w).mono ?_
 rintro e w1 ⟨rfl,hw1⟩
 have hb1:Blk w1 w.heap.size [.slice sa pvs.length sc] 368:=by rw[hw1];exact Blk.new w [.slice sa pvs.length sc] _
 have hf1:Fr Nil w w1:=by rw[hw1];exact(G _ _).alloc _
 clear hw1
 go_wp2_with fail
 refine(V6 _ _ pvs bss w1 hb1 (z7 (S:=Nil) HS.out hf1 (fun _ _=>id)) (HP.out.still (Still.of_nil hf1)) (.slice none 0 0) 0 [] (World.ownsRow_nil w1 0 _ _) (by omega)).mono ?_
 rintro e w2 ⟨v2,rfl,hA2⟩
 have ho2:w2.ownsRow 0 5 1 v2 bss.flatten.length (u8s bss.flatten):=by simpa using hA2.1
 obtain⟨va,vc,rfl⟩:=z8 ho2
 have hf2:Fr Nil w w2:=hf1.trans (hA2.2.1.mono (fun _ _ h=>by simp[Value.ownBlock] at h))
 have HO2:=Z ho2
 clear ho2 hA2
 generalize hbody:bss.flatten=body at hlim hlim2 HO2
 have HBD:=Z hbody
 clear hbody
 go_wp2_with fail
 refine(Zr w2 _ w2 (G _ _)).mono ?_
 rintro e w3 ⟨rfl,hb3,hf3⟩
 go_wp2_with fail
 refine(ZN w2.heap.size body.length (by omega) w3 hb3 (.slice none 0 0) 0 [] (World.ownsRow_nil w3 0 _ _) (by omega)).mono ?_
 rintro e w4 ⟨v4,rfl,hA4⟩
 have hf4:Fr Nil w3 w4:=hA4.2.1.mono (fun _ _ h=>by simp[Value.ownBlock] at h)
 have ho4:w4.ownsRow 0 5 1 v4 (zd body.length).length (u8s (zd body.length)):=by simpa using hA4.1
 have hs4:=z7 (S:=Nil) (z7 (S:=Nil) HO2.out hf3 (fun _ _=>id)) hf4 (fun _ _=>id)
 have hfr4:=(hf2.trans hf3).trans hf4
 have hnew:∀ k,v4.ownBlock=some k→w3.heap.size≤k:=fun k hk=>(hA4.2.2 k hk).resolve_left (by simp[Value.ownBlock])
 have hrun:=fun ty=>YF (P:=Tryz.prog) (w:=w4) 150 ty 5 1 1 Tryz.underlying150 SO (by omega) v4 _ _ ho4 _ _ _ hs4 (by intro u hu;simp[u8s] at hu;obtain⟨c,_,rfl⟩:=hu;rfl) (by unfold maxLen;omega) (by omega)
 have hfin:∀ v5 w5,App w4 v4 5 1 ((zd body.length).length+body.length) (u8s (zd body.length)++u8s body) v5 w5 →
   ∃ g cap,v5=.slice (some ⟨g,0,none⟩) ((zd body.length).length+body.length) cap∧(∀ t,(convert 150 9 (.slice (some ⟨g,0,none⟩) ((zd body.length).length+body.length) t)).run Tryz.prog w5=.ok (.string (zh (Z6 body))) w5)∧Fr Nil w w5:=by
  rintro v5 w5 ⟨h1,h2,h3⟩
  have hpos:0<(zd body.length).length:=by
   by_cases h:body.length<128
   ·rw[Yf h];simp
   ·rw[Yy h];simp
  obtain⟨g,cap,rfl,_,_⟩:=zi h1 (by omega)
  have h1':w5.ownsRow 0 5 1 (.slice (some ⟨g,0,none⟩) ((zd body.length).length+body.length) cap) ((zd body.length).length+body.length) (u8s (Z6 body)):=by
   unfold Z6;rw[Ua];exact h1
  refine⟨g,cap,rfl,fun t=>?_,?_⟩
  ·rw[VU (P:=Tryz.prog) Tryz.underlying150 Tryz.underlying5 Tryz.underlying9 h1' 0 _ t (by unfold Z6;rw[List.length_append];omega)]
   congr 3
   rw[List.drop_zero]
   exact List.take_of_length_le (by unfold Z6;rw[List.length_append];exact Nat.le_refl _)
  ·refine hfr4.trans' ((Fr.of_grown h2).mono (fun i _ h=>h)) (fun i hi h=>?_)
   have:=hnew i h
   have:=(hf2.trans hf3).size
   omega
 have HFIN:=Z hfin
 obtain⟨va4,vc4,rfl⟩:=z8 ho4
 clear hfin hA4 ho4 hs4 hnew hb3
 go_wp2_with (at_builtin;go_must (refine zf rfl _ _ _ _ rfl _ _ (by rfl) (by rfl) (hrun _) ?_);rintro v5 w5 hA5;obtain⟨g5,cap5,rfl,hcv,hfr5⟩:=HFIN.out _ _ hA5;clear hA5)
 go_ret
 rw[HBD.out]
 exact⟨rfl,hfr5⟩
theorem NQ:∀(k n:Nat),n<128^(k+1)→(zd n).length≤k+1:=by
 intro k
 induction k with
 | zero=>intro n h;rw[Yf (by omega)];simp
 | succ k ih =>
  intro n h
  by_cases hl:n<128
  ·rw[Yf hl];simp
  ·have:=ih (n / 128) (by rw[Nat.div_lt_iff_lt_mul (by omega)];rw[Nat.pow_succ] at h;exact h)
   rw[Yy hl,List.length_cons]
   omega
theorem zH{n:Nat}(h:n<9223372036854775808):(zd n).length≤9:=NQ 8 n (Nat.lt_of_lt_of_eq h (by decide))
theorem ZX(W:World)(N:Nat)(hN:N<9223372036854775808)(w:World)(hf:Fr Nil W w)(x:Int)(hx:x=N) :
  Calls Tryz.prog 277 #[.int .i64 x] w fun e w'=>∃ b,e=.returned (.func (.func 280) #[] #[.pointer (some ⟨b,0,none⟩)])∧Zg w' (.func (.func 280) #[] #[.pointer (some ⟨b,0,none⟩)]) (zd N)∧Fr Nil W w':=by
 subst hx
 refine(Zr W N w hf).mono ?_
 rintro e w' ⟨rfl,hb,hf'⟩
 exact⟨_,rfl,W8 w' _ N hN hb,hf'⟩
theorem Ug(W:World)(s:ByteArray)(hs:s.size<9223372036854775808)(w:World)(hf:Fr Nil W w) :
  Calls Tryz.prog 284 #[.string s] w fun e w'=>∃ b,e=.returned (.func (.func 285) #[] #[.pointer (some ⟨b,0,none⟩)])∧Zg w' (.func (.func 285) #[] #[.pointer (some ⟨b,0,none⟩)]) (zZ s.data.toList)∧Fr Nil W w':=by
 refine(Ub W s w hf).mono ?_
 rintro e w' ⟨rfl,hb,hf'⟩
 exact⟨_,rfl,TD w' _ s hs hb,hf'⟩
theorem XQ(W:World)(g:Nat)(pvs:List Value)(bss:List (List UInt8))(w wx:World)(hf:Fr Nil W w)(hx:Fr Nil wx w)(hb:Blk w g pvs 365)(hp:Zl wx pvs bss)(hlen:pvs.length≤1000)(hlim:bss.flatten.length≤500000000000)
  (n:Nat)(hn:n=pvs.length) :
  Calls Tryz.prog 276 #[.slice (some ⟨g,0,none⟩) n n] w fun e w'=>e=.returned (.string (zh (Z6 bss.flatten)))∧Fr Nil W w':=by
 subst hn
 refine(Pk _ pvs bss w (Zj hb (Nat.le_refl _) (by unfold maxLen;omega) (by simp) (by simp)) (hp.still (Still.of_nil hx)) hlim (by have:=zH (n:=bss.flatten.length) (by omega);omega)).mono ?_
 rintro e w' ⟨rfl,hf'⟩
 exact⟨rfl,hf.trans hf'⟩
def Wg(n:Nat):List UInt8:=Z6 (zd 1++zd n)
def Wh(key:ByteArray)(l:List Ver):List UInt8:=Z6 (zd 2++(zZ key.data.toList++Zt l))
def Xz(to:Nat)(text:ByteArray):List UInt8:=Z6 (zd 3++(zd to++zZ text.data.toList))
def Wi:List UInt8:=Z6 (zd 4)
theorem SV(n:Nat)(hn:n<9223372036854775808)(w:World) :
  Calls Tryz.prog 307 #[.agg #[.int .i64 n]] w fun e w'=>e=.returned (.string (zh (Wg n)))∧Fr Nil w w':=by
 have hb0:Blk (w.alloc (.cells #[.int .i64 n] 220)) w.heap.size [.int .i64 n] 220:=Blk.new w [.int .i64 n] _
 have hf0:Fr Nil w (w.alloc (.cells #[.int .i64 n] 220)):=(G _ _).alloc _
 have hlim:([zd 1,zd n]:List (List UInt8)).flatten.length≤500000000000:=by
  have h1:=zH hn
  have h2:=zH (n:=1) (by omega)
  simp
  omega
 go_enter Tryz.func307,Tryz.ntmps307
 go_wp2_with fail
 obtain⟨N,hN⟩:∃ N,w.heap.size=N:=⟨_,rfl⟩
 obtain⟨w0,hw0⟩:∃ w0,w.alloc (.cells #[.int .i64 n] 220)=w0:=⟨_,rfl⟩
 rw[hN] at hb0 ⊢
 rw[hw0] at hb0 hf0 ⊢
 clear hw0 hN
 have hc0:w0.cell? ⟨N,0,none⟩=some (.int .i64 n):=by rw[hb0.cell];rfl
 have HK:Hid (∀ w',Fr Nil w0 w'→w'.cell? ⟨N,0,none⟩=some (.int .i64 n)):=by
  intro w' hf
  rw[(hb0.fr hf id).cell];rfl
 clear hb0
 go_region_held3 (fun w'=>w'.cell? ⟨N,0,none⟩=some (.int .i64 n)) (first|assumption|exact HK.out _ (by repeat' first|(with_reducible first|apply G|assumption|apply O|apply U|apply V|apply z6)|(intro _;rfl)))
  (first
  | (go_at_call 276;refine(XQ w0 _ [_,_] [_,_] _ w3 (hf03.trans (by repeat' first|(with_reducible first|apply G|assumption|apply O|apply U|apply V|apply z6)|(intro _;rfl))) (by repeat' first|(with_reducible first|apply G|assumption|apply O|apply U|apply V|apply z6)|(intro _;rfl)) (by exact Blk.new _ [_,_] _) ⟨hp2.still (Still.of_nil hf3),hp3,trivial⟩ (by simp) hlim _ rfl).mono ?_;rintro e w4 ⟨rfl,hf04⟩;have hz4:=HK.out w4 hf04)
  | (go_at_call 277;refine(ZX w2 n hn _ (by repeat' first|(with_reducible first|apply G|assumption|apply O|apply U|apply V|apply z6)|(intro _;rfl)) _ rfl).mono ?_;rintro e w3 ⟨b3,rfl,hp3,hf3⟩;have hf03:=hf2.trans hf3;have hz3:=HK.out w3 hf03)
  | (go_at_call 277;refine(ZX w0 1 (by omega) _ (by repeat' first|(with_reducible first|apply G|assumption|apply O|apply U|apply V|apply z6)|(intro _;rfl)) _ rfl).mono ?_;rintro e w2 ⟨b2,rfl,hp2,hf2⟩;have hz2:=HK.out w2 hf2))
 go_wp2
 go_ret
 exact⟨by simp[Wg],hf0.trans hf04⟩
theorem SW(key:ByteArray)(lv:Value)(l:List Ver)(hl:∀ x∈l,x.Nat)(hln:l.length<1000000)(hks:key.size<1000000000)(w:World)(hr:w.ownsRow 0 37 8 lv l.length (zM l))(hlim:(Zt l).length≤100000000000) :
  Calls Tryz.prog 286 #[.agg #[.string key,lv]] w fun e w'=>e=.returned (.string (zh (Wh key l)))∧Fr Nil w w':=by
 obtain⟨la,lc,rfl⟩:=z8 hr
 have hb0:Blk (w.alloc (.cells #[.string key,.slice la l.length lc] 193)) w.heap.size [.string key,.slice la l.length lc] 193:=Blk.new w [.string key,.slice la l.length lc] _
 have hf0:Fr Nil w (w.alloc (.cells #[.string key,.slice la l.length lc] 193)):=(G _ _).alloc _
 have hlim2:([zd 2,zZ key.data.toList,Zt l]:List (List UInt8)).flatten.length≤500000000000:=by
  have h1:=zH (n:=key.size) (by omega)
  have h2:=zH (n:=2) (by omega)
  simp[zZ]
  omega
 have HR:=Z hr
 clear hr hlim
 go_enter Tryz.func286,Tryz.ntmps286
 go_wp2_with fail
 obtain⟨N,hN⟩:∃ N,w.heap.size=N:=⟨_,rfl⟩
 obtain⟨w0,hw0⟩:∃ w0,w.alloc (.cells #[.string key,.slice la l.length lc] 193)=w0:=⟨_,rfl⟩
 rw[hN] at hb0 ⊢
 rw[hw0] at hb0 hf0 ⊢
 clear hw0 hN
 have hc0:w0.cell? ⟨N,0,none⟩=some (.string key):=by rw[hb0.cell];rfl
 have hc1:w0.cell? ⟨N,1,none⟩=some (.slice la l.length lc):=by rw[hb0.cell];rfl
 have HK:Hid (∀ w',Fr Nil w0 w'→w'.cell? ⟨N,0,none⟩=some (.string key)∧w'.cell? ⟨N,1,none⟩=some (.slice la l.length lc)):=by
  intro w' hf
  have:=(hb0.fr hf id).cell
  exact⟨by rw[this];rfl,by rw[this];rfl⟩
 have HR0:Hid (∀ w',Fr Nil w0 w'→w'.ownsRow 0 37 8 (.slice la l.length lc) l.length (zM l)):=fun w' hf=>z7 (S:=Nil) HR.out (hf0.trans hf) (fun _ _=>id)
 clear hb0
 go_region_held3 (fun w'=>w'.cell? ⟨N,0,none⟩=some (.string key)∧w'.cell? ⟨N,1,none⟩=some (.slice la l.length lc)) (first|assumption|exact HK.out _ (by repeat' first|(with_reducible first|apply G|assumption|apply O|apply U|apply V|apply z6)|(intro _;rfl)))
  (first
  | (go_at_call 276;refine(XQ w0 _ [_,_,_] [_,_,_] _ w4 (hf04.trans (by repeat' first|(with_reducible first|apply G|assumption|apply O|apply U|apply V|apply z6)|(intro _;rfl))) (by repeat' first|(with_reducible first|apply G|assumption|apply O|apply U|apply V|apply z6)|(intro _;rfl)) (by exact Blk.new _ [_,_,_] _) ⟨hp2.still (Still.of_nil (hf3.trans hf4)),hp3.still (Still.of_nil hf4),hp4,trivial⟩ (by simp) hlim2 _ rfl).mono ?_;rintro e w5 ⟨rfl,hf05⟩;have hz5:=HK.out w5 hf05)
  | (go_at_call 288;refine(Qf w3 _ l hl hln _ (by repeat' first|(with_reducible first|apply G|assumption|apply O|apply U|apply V|apply z6)|(intro _;rfl)) (HR0.out _ (hf03.trans (by repeat' first|(with_reducible first|apply G|assumption|apply O|apply U|apply V|apply z6)|(intro _;rfl))))).mono ?_;rintro e w4 ⟨b4,b4',rfl,hp4,hf4⟩;have hf04:=hf03.trans hf4;have hz4:=HK.out w4 hf04)
  | (go_at_call 284;refine(Ug w2 _ (by omega) _ (by repeat' first|(with_reducible first|apply G|assumption|apply O|apply U|apply V|apply z6)|(intro _;rfl))).mono ?_;rintro e w3 ⟨b3,rfl,hp3,hf3⟩;have hf03:=hf2.trans hf3;have hz3:=HK.out w3 hf03)
  | (go_at_call 277;refine(ZX w0 2 (by omega) _ (by repeat' first|(with_reducible first|apply G|assumption|apply O|apply U|apply V|apply z6)|(intro _;rfl)) _ rfl).mono ?_;rintro e w2 ⟨b2,rfl,hp2,hf2⟩;have hz2:=HK.out w2 hf2))
 go_wp2
 go_ret
 exact⟨by simp[Wh],hf0.trans hf05⟩
theorem S9(to:Nat)(text:ByteArray)(ht:to<9223372036854775808)(hts:text.size<1000000000)(w:World) :
  Calls Tryz.prog 282 #[.agg #[.int .i64 to,.string text]] w fun e w'=>e=.returned (.string (zh (Xz to text)))∧Fr Nil w w':=by
 have hb0:Blk (w.alloc (.cells #[.int .i64 to,.string text] 138)) w.heap.size [.int .i64 to,.string text] 138:=Blk.new w [.int .i64 to,.string text] _
 have hf0:Fr Nil w (w.alloc (.cells #[.int .i64 to,.string text] 138)):=(G _ _).alloc _
 have hlim2:([zd 3,zd to,zZ text.data.toList]:List (List UInt8)).flatten.length≤500000000000:=by
  have h1:=zH (n:=text.size) (by omega)
  have h2:=zH (n:=3) (by omega)
  have h3:=zH ht
  simp[zZ]
  omega
 go_enter Tryz.func282,Tryz.ntmps282
 go_wp2_with fail
 obtain⟨N,hN⟩:∃ N,w.heap.size=N:=⟨_,rfl⟩
 obtain⟨w0,hw0⟩:∃ w0,w.alloc (.cells #[.int .i64 to,.string text] 138)=w0:=⟨_,rfl⟩
 rw[hN] at hb0 ⊢
 rw[hw0] at hb0 hf0 ⊢
 clear hw0 hN
 have hc0:w0.cell? ⟨N,0,none⟩=some (.int .i64 to):=by rw[hb0.cell];rfl
 have hc1:w0.cell? ⟨N,1,none⟩=some (.string text):=by rw[hb0.cell];rfl
 have HK:Hid (∀ w',Fr Nil w0 w'→w'.cell? ⟨N,0,none⟩=some (.int .i64 to)∧w'.cell? ⟨N,1,none⟩=some (.string text)):=by
  intro w' hf
  have:=(hb0.fr hf id).cell
  exact⟨by rw[this];rfl,by rw[this];rfl⟩
 clear hb0
 go_region_held3 (fun w'=>w'.cell? ⟨N,0,none⟩=some (.int .i64 to)∧w'.cell? ⟨N,1,none⟩=some (.string text)) (first|assumption|exact HK.out _ (by repeat' first|(with_reducible first|apply G|assumption|apply O|apply U|apply V|apply z6)|(intro _;rfl)))
  (first
  | (go_at_call 276;refine(XQ w0 _ [_,_,_] [_,_,_] _ w4 (hf04.trans (by repeat' first|(with_reducible first|apply G|assumption|apply O|apply U|apply V|apply z6)|(intro _;rfl))) (by repeat' first|(with_reducible first|apply G|assumption|apply O|apply U|apply V|apply z6)|(intro _;rfl)) (by exact Blk.new _ [_,_,_] _) ⟨hp2.still (Still.of_nil (hf3.trans hf4)),hp3.still (Still.of_nil hf4),hp4,trivial⟩ (by simp) hlim2 _ rfl).mono ?_;rintro e w5 ⟨rfl,hf05⟩;have hz5:=HK.out w5 hf05)
  | (go_at_call 284;refine(Ug w3 _ (by omega) _ (by repeat' first|(with_reducible first|apply G|assumption|apply O|apply U|apply V|apply z6)|(intro _;rfl))).mono ?_;rintro e w4 ⟨b4,rfl,hp4,hf4⟩;have hf04:=hf03.trans hf4;have hz4:=HK.out w4 hf04)
  | (go_at_call 277;refine(ZX w2 to ht _ (by repeat' first|(with_reducible first|apply G|assumption|apply O|apply U|apply V|apply z6)|(intro _;rfl)) _ rfl).mono ?_;rintro e w3 ⟨b3,rfl,hp3,hf3⟩;have hf03:=hf2.trans hf3;have hz3:=HK.out w3 hf03)
  | (go_at_call 277;refine(ZX w0 3 (by omega) _ (by repeat' first|(with_reducible first|apply G|assumption|apply O|apply U|apply V|apply z6)|(intro _;rfl)) _ rfl).mono ?_;rintro e w2 ⟨b2,rfl,hp2,hf2⟩;have hz2:=HK.out w2 hf2))
 go_wp2
 go_ret
 exact⟨by simp[Xz],hf0.trans hf05⟩
theorem SX(w:World) :
  Calls Tryz.prog 274 #[.agg #[]] w fun e w'=>e=.returned (.string (zh Wi))∧Fr Nil w w':=by
 have hf0:Fr Nil w (w.alloc (.cells #[] 135)):=(G _ _).alloc _
 have hlim2:([zd 4]:List (List UInt8)).flatten.length≤500000000000:=by
  have h2:=zH (n:=4) (by omega)
  simp
  omega
 go_enter Tryz.func274,Tryz.ntmps274
 go_wp2_with fail
 refine(ZX w 4 (by omega) _ hf0 _ rfl).mono ?_
 rintro e w2 ⟨b2,rfl,hp2,hf2⟩
 go_wp2_with fail
 refine(XQ w _ [_] [_] _ w2 (hf2.trans (by repeat' first|(with_reducible first|apply G|assumption|apply O|apply U|apply V|apply z6)|(intro _;rfl))) (by repeat' first|(with_reducible first|apply G|assumption|apply O|apply U|apply V|apply z6)|(intro _;rfl)) (by exact Blk.new _ [_] _) ⟨hp2,trivial⟩ (by simp) hlim2 _ rfl).mono ?_
 rintro e w3 ⟨rfl,hf3⟩
 go_wp2
 go_ret
 exact⟨by simp[Wi],hf3⟩
structure DStep(b:Nat)(L:DL)(M:DM)(w:World)(L':DL)(M':DM)(w':World):Prop where
 rep:DRep w' b L' M'
 fr:Fr (Foot b L M) w w'
 foot:∀ k,Foot b L' M' k→Foot b L M k∨w.heap.size≤k
theorem DStep.trans{b:Nat}{L1 L2 L3:DL}{M1 M2 M3:DM}{w1 w2 w3:World}(h:DStep b L1 M1 w1 L2 M2 w2)(k:DStep b L2 M2 w2 L3 M3 w3):DStep b L1 M1 w1 L3 M3 w3 where
 rep:=k.rep
 fr:=h.fr.trans' k.fr (fun i hi hf=>by
  rcases h.foot i hf with h'|h'
  ·exact h'
  ·omega)
 foot:=fun i hi=>by
  rcases k.foot i hi with h'|h'
  ·exact h.foot i h'
  ·exact .inr (Nat.le_trans h.fr.size h')
theorem DStep.own{b:Nat}{L:DL}{M M':DM}{w w':World}(h:DRep w' b L M')(f:Fr (fun k=>k=b) w w')
  (e1:M'.ids=M.ids):DStep b L M w L M' w' where
 rep:=h
 fr:=f.mono (fun k _ e=>by subst e;exact .blk)
 foot:=fun k hk=>.inl (by
  cases hk using Foot.elim with
  | blk=>exact .blk
  | dir e=>exact .dir e
  | safe e=>exact .safe e
  | ch e=>exact .ch e
  | chs i h1 e=>exact .chs i h1 e
  | file e=>exact .file (e1▸e)
  | row f hf e=>exact .row f (e1▸hf) e)
theorem DM.begins_keeps(M:DM):M.begins.2.2.dir=M.dir∧M.begins.2.2.safe=M.safe∧M.begins.2.2.chs=M.chs∧M.begins.2.2.file=M.file∧M.begins.2.2.ids=M.ids ∧
  M.begins.2.2.room=M.room∧M.begins.2.2.part=M.part∧M.begins.2.2.fulls=M.fulls∧M.begins.2.2.cut=M.cut∧M.begins.2.2.fail=M.fail:=by
 unfold DM.begins;dsimp only;(repeat' split) <;> exact⟨rfl,rfl,rfl,rfl,rfl,rfl,rfl,rfl,rfl,rfl⟩
theorem DM.begins_err(M:DM):M.begins.2.1=0∨M.begins.2.1=9:=by
 unfold DM.begins;dsimp only;(repeat' split) <;> simp
theorem Z5(w:World)(b:Nat)(L:DL)(M:DM)(h:DRep w b L M) :
  Calls Tryz.prog 209 #[.pointer (some ⟨b,0,none⟩)] w fun e w' =>
   e=.returned (.tuple #[.bool M.begins.1,.int .i64 M.begins.2.1])∧DStep b L M w L M.begins.2.2 w' :=
 (SS w b L M h).mono fun _ _ ⟨h1,h2,h3⟩=>⟨h1,.own h2 h3 M.begins_keeps.2.2.2.2.1⟩
def DM.syncDir(M:DM):Int × DM :=
 (M.begins.2.1,if M.begins.2.1=0 then {M.begins.2.2 with safe:=M.begins.2.2.dir,chs:=[]} else M.begins.2.2)
theorem DRep.synced{w w':World}{b:Nat}{L:DL}{M:DM}(h:DRep w b L M)
  (hb:Blk w' b (({M with safe:=M.dir,chs:=[]}:DM).cells {L with safeV:=L.dirV,chV:=.slice none 0 0,chVs:=[]}) 143)(f:Fr (fun k=>k=b) w w') :
  DRep w' b {L with safeV:=L.dirV,chV:=.slice none 0 0,chVs:=[]} {M with safe:=M.dir,chs:=[]} where
 blk:=hb
 dir:=z7 h.dir f fun _ e hk=>by subst hk;exact za h.dir h.blk (by decide) e
 safe:=z7 h.dir f fun _ e hk=>by subst hk;exact za h.dir h.blk (by decide) e
 ch:=World.ownsRow_nil w' 0 _ _
 chl:=rfl
 chs:=fun i h1=>absurd h1 (Nat.not_lt_zero _)
 files:=fun g hg=>(h.files g hg).fr f ((h.files g hg).ne h.blk (by decide))
 rows:=fun g hg=>z7 (h.rows g hg) f fun _ e hk=>by subst hk;exact za (h.rows g hg) h.blk (by decide) e
 sep:=h.sep
 le:=h.le
 inD:=h.inD
 inS:=h.inD
 inC:=fun d hd=>by cases hd
theorem Sa(w:World)(b:Nat)(L:DL)(M:DM)(h:DRep w b L M) :
  Calls Tryz.prog 168 #[.pointer (some ⟨b,0,none⟩)] w fun e w' =>
   e=.returned (.int .i64 M.syncDir.1)∧∃ L',DStep b L M w L' M.syncDir.2 w':=by
 have HB:=Z (Z5 w b L M h)
 have HH:=Z h
 clear h
 rcases M.begins_err with h0|h0
 ·have HM:Hid (M.syncDir=(0,{M.begins.2.2 with safe:=M.begins.2.2.dir,chs:=[]})):=by simp[Hid,DM.syncDir,h0]
  rw[h0] at HB
  clear h0
  go_enter Tryz.func168,Tryz.ntmps168
  go_wp2_with fail
  refine HB.out.mono ?_
  rintro e w1 ⟨rfl,hs⟩
  have hc:=hs.rep.blk.cell
  have hf:=hs.rep.blk.frozen
  simp only[DM.cells] at hc
  obtain⟨a,cap,hv⟩:=z8 hs.rep.dir
  rw[hv] at hc
  have HV:=Z hv
  clear hv
  go_wp2
  go_ret
  rw[HM.out,← HV.out]
  refine⟨rfl,{L with safeV:=L.dirV,chV:=.slice none 0 0,chVs:=[]},hs.trans ⟨?_,?_,?_⟩⟩
  ·have:=hs.rep.synced (w':=(w1.setCell ⟨b,1,none⟩ L.dirV).setCell ⟨b,2,none⟩ (.slice none 0 0)) ((hs.rep.blk.set 1 L.dirV).set 2 (.slice none 0 0)) (by repeat' first|exact G _ _|(with_reducible assumption)|refine Fr.drewN ?_ _|refine Fr.drew ?_|refine Fr.alloc ?_ _|refine Fr.set ?_ ?_ _|(intro _;rfl))
   exact this
  ·exact Fr.set (Fr.set (G _ _) (fun _=>.blk) _) (fun _=>.blk) _
  ·intro k hk
   refine .inl ?_
   cases hk using Foot.elim with
   | blk=>exact .blk
   | dir e=>exact .dir e
   | safe e=>exact .dir e
   | ch e=>simp[Value.ownBlock] at e
   | chs i h1 e=>exact absurd h1 (Nat.not_lt_zero _)
   | file e=>exact .file e
   | row f hf e=>exact .row f hf e
 ·have HM:Hid (M.syncDir=(9,M.begins.2.2)):=by simp[Hid,DM.syncDir,h0]
  rw[h0] at HB
  clear h0
  go_enter Tryz.func168,Tryz.ntmps168
  go_wp2_with (go_at_call 209;refine HB.out.mono ?_;rintro e w1 ⟨rfl,hs⟩)
  go_ret
  rw[HM.out]
  exact⟨rfl,_,hs⟩
def DM.setFile(M:DM)(f:Nat)(x:FM):DM:={M with file:=fun g=>if g=f then x else M.file g}
theorem DRep.setSafe{w w':World}{b:Nat}{L:DL}{M:DM}(h:DRep w b L M){f:Nat}{s:Nat}(hs:s≤(M.file f).bytes.length)
  (hb:Blk w' f [L.fV f,.int .i64 s] 152)(fr:Fr (fun k=>k=f) w w')(hf:f∈M.ids) :
  DRep w' b L (M.setFile f {M.file f with safe:=s}) where
 blk:=h.blk.fr fr ((h.blk).ne (h.files f hf) (by decide))
 dir:=z7 h.dir fr fun _ e hk=>by subst hk;exact za h.dir (h.files _ hf) (by decide) e
 safe:=z7 h.safe fr fun _ e hk=>by subst hk;exact za h.safe (h.files _ hf) (by decide) e
 ch:=z7 h.ch fr fun _ e hk=>by subst hk;exact za h.ch (h.files _ hf) (by decide) e
 chl:=h.chl
 chs:=fun i h1 h2=>z7 (h.chs i h1 h2) fr fun _ e hk=>by subst hk;exact za (h.chs i h1 h2) (h.files _ hf) (by decide) e
 files:=fun g hg=>by
  by_cases e:g=f
  ·subst e;simpa [DM.setFile] using hb
  ·have:=(h.files g hg).fr fr e
   simpa [DM.setFile,e] using this
 rows:=fun g hg=>by
  have h1:=z7 (h.rows g hg) fr fun _ e hk=>by subst hk;exact za (h.rows g hg) (h.files _ hf) (by decide) e
  by_cases e:g=f
  ·subst e;simpa [DM.setFile] using h1
  ·simpa [DM.setFile,e] using h1
 sep:=h.sep
 le:=fun g hg=>by
  by_cases e:g=f
  ·subst e;simpa [DM.setFile] using hs
  ·simpa [DM.setFile,e] using h.le g hg
 inD:=h.inD
 inS:=h.inS
 inC:=h.inC
def DM.sync(M:DM)(name:ByteArray):Int × DM :=
 match M.dir.look name with
 | none=>(11,M)
 | some f=>(M.begins.2.1,if M.begins.2.1=0 then M.begins.2.2.setFile f {M.begins.2.2.file f with safe:=(M.begins.2.2.file f).bytes.length} else M.begins.2.2)
theorem Pm(name:ByteArray)(w:World)(b:Nat)(L:DL)(M:DM)(h:DRep w b L M) :
  Calls Tryz.prog 167 #[.pointer (some ⟨b,0,none⟩),.string name] w fun e w' =>
   e=.returned (.int .i64 (M.sync name).1)∧∃ L',DStep b L M w L' (M.sync name).2 w':=by
 have hc:=h.blk.cell
 simp only[DM.cells] at hc
 have hlen:=zK h.dir
 unfold maxLen at hlen
 have HH:=Z h
 rcases Yh M.dir name with⟨h1,h2⟩|⟨k,hk,h1,h2,_⟩
 ·have HM:Hid (M.sync name=(11,M)):=by simp[Hid,DM.sync,h2]
  have H1:=Z h1
  clear h h1 h2
  go_enter Tryz.func167,Tryz.ntmps167
  go_wp2_with (go_at_call 87;refine(Yz H1.out _ HH.out.dir).mono ?_;rintro e w1 ⟨rfl,hf⟩)
  go_ret
  rw[HM.out]
  exact⟨rfl,_,HH.out.fr hf (fun _ _=>id),hf.mono (fun _ _=>False.elim),fun k hk=>.inl hk⟩
 ·rcases M.begins_err with h0|h0
  ·have HM:Hid (M.sync name=(0,M.begins.2.2.setFile M.dir[k].2 {M.begins.2.2.file M.dir[k].2 with safe:=(M.begins.2.2.file M.dir[k].2).bytes.length})):=by simp[Hid,DM.sync,h2,h0]
   have H1:=Z h1
   have H0:=Z h0
   clear h h1 h2 h0
   go_enter Tryz.func167,Tryz.ntmps167
   go_wp2_with fail
   refine(Zh H1.out _ HH.out.dir).mono ?_
   rintro e w1 ⟨rfl,hf⟩
   clear hc
   go_wp2_with fail
   have HB:=Z5 w1 b L M (HH.out.fr hf (fun _ _=>id))
   rw[H0.out] at HB
   refine HB.mono ?_
   rintro e w2 ⟨rfl,hs⟩
   have hc:=hs.rep.blk.cell
   simp only[DM.cells] at hc
   have hk2:k<M.begins.2.2.dir.length:=by rw[M.begins_keeps.1];exact hk
   have he:M.begins.2.2.dir[k].2=M.dir[k].2:=by simp[M.begins_keeps.1]
   obtain⟨g,cap,n,c,hv,hi,_,hp,hsv⟩:=hs.rep.entry hk2
   rw[he] at hi hp hsv
   have hcf:=(hs.rep.files _ hi).cell
   have hff:=(hs.rep.files _ hi).frozen
   rw[hsv] at hcf
   rw[hv] at hc
   have HS:=Z hs
   clear hs hsv hv he
   go_wp2_with fail
   go_region
   go_wp2
   go_ret
   rw[HM.out]
   refine⟨rfl,L,DStep.trans ⟨HH.out.fr hf (fun _ _=>id),hf.mono (fun _ _=>False.elim),fun k hk=>.inl hk⟩ (HS.out.trans ⟨?_,?_,?_⟩)⟩
   ·exact HS.out.rep.setSafe (Nat.le_refl _) (((HS.out.rep.files _ hi).set 1 _).drew) (by repeat' first|exact G _ _|(with_reducible assumption)|refine Fr.drewN ?_ _|refine Fr.drew ?_|refine Fr.alloc ?_ _|refine Fr.set ?_ ?_ _|(intro _;rfl)) hi
   ·exact Fr.drew (Fr.set (G _ _) (fun _=>.file hi) _)
   ·intro j hj
    refine .inl ?_
    cases hj using Foot.elim with
    | blk=>exact .blk
    | dir e=>exact .dir e
    | safe e=>exact .safe e
    | ch e=>exact .ch e
    | chs i h1 e=>exact .chs i h1 e
    | file e=>exact .file e
    | row f hf e=>exact .row f hf e
  ·have HM:Hid (M.sync name=(9,M.begins.2.2)):=by simp[Hid,DM.sync,h2,h0]
   have H1:=Z h1
   have H0:=Z h0
   clear h h1 h2 h0
   go_enter Tryz.func167,Tryz.ntmps167
   go_wp2_with fail
   refine(Zh H1.out _ HH.out.dir).mono ?_
   rintro e w1 ⟨rfl,hf⟩
   clear hc
   go_wp2_with fail
   have HB:=Z5 w1 b L M (HH.out.fr hf (fun _ _=>id))
   rw[H0.out] at HB
   refine HB.mono ?_
   rintro e w2 ⟨rfl,hs⟩
   go_wp2
   go_ret
   rw[HM.out]
   exact⟨rfl,L,DStep.trans ⟨HH.out.fr hf (fun _ _=>id),hf.mono (fun _ _=>False.elim),fun k hk=>.inl hk⟩ hs⟩
end Go.Proofs.YtkhnggkkiefcdaaGreatDoor
