/- larder: joined texts -/
import Derived.Test.YtkhnggkkiefcdaaGreatDoorSFAA
import Derived.Test.YtkhnggkkiefcdaaGreatDoorChecked
import Derived.Lib.EndianBits
namespace Go.Proofs.YtkhnggkkiefcdaaGreatDoor
open Go.RowKit
set_option maxRecDepth 100000
set_option maxHeartbeats 8000000
abbrev FU:=@Go.bits_join_low
abbrev EC:=@Go.wraps_u64
structure FM where
 bytes:List UInt8
 safe:Nat
abbrev Dir:=List (ByteArray × Nat)
structure DM where
 dir:Dir
 safe:Dir
 Bj:List Dir
 file:Nat->FM
 ids:List Nat
 room:Int
 calls:Int
 cut:Int
 fail:Int
 part:Int
 refused:Int
 Bb:Int
 dead:Bool
structure DL where
 BE:Value
 Bx:Value
 Aj:Value
 BB:List Value
 fV:Nat->Value
def flat(d:Dir):List Value:=d.flatMap fun e=>[.string e.1,.pointer (some ⟨e.2,0,none⟩)]
theorem Yj(d:Dir):∀ (k:Nat)(h:k<d.length),(flat d)[k*2]?=some (.string d[k].1)/\(flat d)[k*2+1]?=some (.pointer (some ⟨d[k].2,0,none⟩)):=by
 induction d with
 | nil=>intro k h;simp at h
 | cons e d b =>
  intro k h;cases k with
  | zero=>exact⟨rfl,rfl⟩
  | succ k =>
   have:=b k (by simpa using h);have a:(k+1)*2=k*2+2:=by omega
   simp only[flat,Fi,a] at this |-;exact this
def Zl(d:Dir)(a:ByteArray):Int :=
 match d.findIdx? (fun e=>e.1==a) with
 | some i=>i
 | none=>-1
theorem Lw(d:Dir)(a:ByteArray)(k:Nat)(g:k<d.length)(c:∀ j (b:j<d.length),j<k->(d[j].1==a)=false)(f:(d[k].1==a)=true) :
 Zl d a=k:=by
 have:d.findIdx? (fun e=>e.1==a)=some k:=by
  rw[List.findIdx?_eq_some_iff_getElem];exact⟨g,f,fun j b=>by have:=c j (by omega) b;simpa using this⟩
 simp[Zl,this]
theorem Me(d:Dir)(a:ByteArray)(c:∀ j (b:j<d.length),(d[j].1==a)=false):Zl d a=-1:=by
 have:d.findIdx? (fun e=>e.1==a)=none:=by
  rw[List.findIdx?_eq_none_iff];intro x f;obtain⟨j,b,rfl⟩:=GF f;exact c j b
 simp[Zl,this]
theorem Im{k:IntKind}{a b:Int}(h:a=b):Ending.returned (.int k a)=.returned (.int k b):=by rw[h]
theorem Tm(v:Value)(d:Dir)(b:ByteArray)(w:World)(h:w.ownsRow 0 148 2 v d.length (flat d)) :
 Calls Tryz.prog 87 #[v,.string b] w fun e u=>e=.returned (.int .i64 (Zl d b))/\Fr Nil w u:=by
 have A:=zH h;unfold maxLen at A;obtain⟨a,p,rfl⟩:=zc h;go_enter Tryz.func87,Tryz.ntmps87
 go_wp2
 go_loopw [8] (fun t u=>∃ k:Nat,k<=d.length/\t=.int .i64 k/\(∀ j (c:j<d.length),j<k->(d[j].1==b)=false)/\Fr Nil w u) (fun t _=>d.length-(intOf t).toNat)
 case atStart=>exact⟨0,Hg _,rfl,fun j _ c=>absurd c (Gb _),O _ _⟩
 case round =>
  obtain⟨k,D,rfl,c,o⟩:=hrel;by_cases l:k<d.length
  .obtain⟨g,rfl⟩:∃ g,a=some ⟨g,0,none⟩:=by
    rcases h.2 with⟨q,B⟩|⟨g,p,y,q,_⟩
    .omega
    .simp at q;exact⟨g,q.1⟩
   have C:=own_cell? (zb h o (fun _ _=>id)) (k*2) _ (Yj d k l).1;have m:=Ec d[k].1 b;cases hm:(d[k].1==b) with
   | true =>
    have r:(d[k].1.toList==b.toList)=true:=by rw[<- m];exact hm
    clear m;have s:=Lw d b k l c hm;clear hm c
    go_wp2
    go_ret;exact⟨Im s.symm,o⟩
   | false =>
    have r:(d[k].1.toList==b.toList)=false:=by rw[<- m];exact hm
    clear m;have i:∀ j (c:j<d.length),j<k+1->(d[j].1==b)=false:=by
     intro j f z;by_cases e:j=k
     .subst e;exact hm
     .exact c j f (by omega)
    clear hm c;have x:=Z i;clear i
    go_wp2
    exact⟨⟨k+1,by omega,by go_num,x.out,o⟩,by simp[intOf];omega⟩
  .have s:=Me d b (fun j f=>c j f (by omega))
   clear c
   go_wp2
   go_ret;exact⟨Im s.symm,o⟩
def DM.cells(L:DL)(M:DM):List Value :=
 [L.BE,L.Bx,L.Aj,.int .i64 M.room,.int .i64 M.calls,.int .i64 M.cut,.int .i64 M.fail,.int .i64 M.part,.int .i64 M.refused,.int .i64 M.Bb,.bool M.dead]
structure DRep(w:World)(b:Nat)(L:DL)(M:DM):Prop where
 CY:Blk w b (M.cells L) 143
 dir:w.ownsRow 0 148 2 L.BE M.dir.length (flat M.dir)
 safe:w.ownsRow 0 148 2 L.Bx M.safe.length (flat M.safe)
 ch:w.ownsRow 0 145 1 L.Aj M.Bj.length L.BB
 Ag:L.BB.length=M.Bj.length
 Bj:∀ i (h1:i<L.BB.length) (h2:i<M.Bj.length),w.ownsRow 0 148 2 L.BB[i] M.Bj[i].length (flat M.Bj[i])
 files:∀ f,f∈M.ids->Blk w f [L.fV f,.int .i64 (M.file f).safe] 152
 rows:∀ f,f∈M.ids->w.ownsRow 0 5 1 (L.fV f) (M.file f).bytes.length (u8s (M.file f).bytes)
 sep:∀ f,f∈M.ids->∀ g,g∈M.ids->f≠g->∀ k,(L.fV f).ownBlock=some k->(L.fV g).ownBlock≠some k
 le:∀ f,f∈M.ids->(M.file f).safe<=(M.file f).bytes.length
 BQ:∀ e,e∈M.dir->e.2∈M.ids
 AC:∀ e,e∈M.safe->e.2∈M.ids
 AD:∀ d,d∈M.Bj->∀ e,e∈d->e.2∈M.ids
def Foot(b:Nat)(L:DL)(M:DM)(k:Nat):Prop :=
 k=b\/L.BE.ownBlock=some k\/L.Bx.ownBlock=some k\/L.Aj.ownBlock=some k
  \/ (∃ (i:Nat) (_:i<L.BB.length),L.BB[i].ownBlock=some k)\/k∈M.ids\/(∃ f,f∈M.ids/\(L.fV f).ownBlock=some k)
theorem Foot.CY{b:Nat}{L:DL}{M:DM}:Foot b L M b:=.inl rfl
theorem Foot.dir{b:Nat}{L:DL}{M:DM}{k:Nat}(h:L.BE.ownBlock=some k):Foot b L M k:=.inr (.inl h)
theorem Foot.safe{b:Nat}{L:DL}{M:DM}{k:Nat}(h:L.Bx.ownBlock=some k):Foot b L M k:=.inr (.inr (.inl h))
theorem Foot.ch{b:Nat}{L:DL}{M:DM}{k:Nat}(h:L.Aj.ownBlock=some k):Foot b L M k:=.inr (.inr (.inr (.inl h)))
theorem Foot.Bj{b:Nat}{L:DL}{M:DM}{k:Nat}(i:Nat)(a:i<L.BB.length)(h:L.BB[i].ownBlock=some k):Foot b L M k:=.inr (.inr (.inr (.inr (.inl ⟨i,a,h⟩))))
theorem Foot.file{b:Nat}{L:DL}{M:DM}{k:Nat}(h:k∈M.ids):Foot b L M k:=.inr (.inr (.inr (.inr (.inr (.inl h)))))
theorem Foot.row{b:Nat}{L:DL}{M:DM}{k:Nat}(f:Nat)(a:f∈M.ids)(h:(L.fV f).ownBlock=some k):Foot b L M k:=.inr (.inr (.inr (.inr (.inr (.inr ⟨f,a,h⟩)))))
theorem Foot.elim{b:Nat}{L:DL}{M:DM}{motive:(k:Nat)->Foot b L M k->Prop}(blk:motive b .CY)
 (dir:∀ {k:Nat}(h:L.BE.ownBlock=some k),motive k (.dir h))(safe:∀ {k:Nat}(h:L.Bx.ownBlock=some k),motive k (.safe h))
 (ch:∀ {k:Nat}(h:L.Aj.ownBlock=some k),motive k (.ch h))
 (chs:∀ {k:Nat}(i:Nat)(h1:i<L.BB.length)(h:L.BB[i].ownBlock=some k),motive k (.Bj i h1 h))
 (file:∀ {k:Nat}(h:k∈M.ids),motive k (.file h))(row:∀ {k:Nat}(f:Nat)(hf:f∈M.ids)(h:(L.fV f).ownBlock=some k),motive k (.row f hf h))
 {k:Nat}(h:Foot b L M k):motive k h:=by
 rcases id h with e|e|e|e|⟨i,h1,e⟩|e|⟨f,hf,e⟩
 .subst e;exact blk
 .exact dir e
 .exact safe e
 .exact ch e
 .exact chs i h1 e
 .exact file e
 .exact row f hf e
theorem DRep.lt{w:World}{b:Nat}{L:DL}{M:DM}(h:DRep w b L M){k:Nat}(o:Foot b L M k):k<w.heap.size:=by
 cases o using Foot.elim with
 | blk=>exact h.CY.lt
 | dir e=>exact zC h.dir e
 | safe e=>exact zC h.safe e
 | ch e=>exact zC h.ch e
 | chs i c e=>exact zC (h.Bj i c (by rw[<- h.Ag];exact c)) e
 | file e=>exact(h.files k e).lt
 | row f g e=>exact zC (h.rows f g) e
theorem DRep.fr{w w':World}{b:Nat}{L:DL}{M:DM}{S:Nat->Prop}(h:DRep w b L M)(f:Fr S w w')(c:∀ k,Foot b L M k->¬S k):DRep w' b L M where
 CY:=h.CY.fr f (c _ .CY)
 dir:=zb h.dir f fun _ e=>c _ (.dir e)
 safe:=zb h.safe f fun _ e=>c _ (.safe e)
 ch:=zb h.ch f fun _ e=>c _ (.ch e)
 Ag:=h.Ag
 Bj:=fun i r y=>zb (h.Bj i r y) f fun _ e=>c _ (.Bj i r e)
 files:=fun g o=>(h.files g o).fr f (c _ (.file o))
 rows:=fun g o=>zb (h.rows g o) f fun _ e=>c _ (.row g o e)
 sep:=h.sep
 le:=h.le
 BQ:=h.BQ
 AC:=h.AC
 AD:=h.AD
theorem DRep.own{w w':World}{b:Nat}{L:DL}{M M':DM}(h:DRep w b L M)(y:Blk w' b (M'.cells L) 143)(f:Fr (fun k=>k=b) w w')
 (q:M'.dir=M.dir)(r:M'.safe=M.safe)(m:M'.Bj=M.Bj)(o:M'.file=M.file)(c:M'.ids=M.ids):DRep w' b L M' where
 CY:=y
 dir:=by rw[q];exact zb h.dir f fun _ e a=>by subst a;exact zd h.dir h.CY (by decide) e
 safe:=by rw[r];exact zb h.safe f fun _ e a=>by subst a;exact zd h.safe h.CY (by decide) e
 ch:=by rw[m];exact zb h.ch f fun _ e a=>by subst a;exact zd h.ch h.CY (by decide) e
 Ag:=by rw[m];exact h.Ag
 Bj:=by
  rw[m];exact fun i t u=>zb (h.Bj i t u) f fun _ e a=>by subst a;exact zd (h.Bj i t u) h.CY (by decide) e
 files:=by rw[o,c];exact fun g j=>(h.files g j).fr f ((h.files g j).ne h.CY (by decide))
 rows:=by rw[o,c];exact fun g j=>zb (h.rows g j) f fun _ e a=>by subst a;exact zd (h.rows g j) h.CY (by decide) e
 sep:=by rw[c];exact h.sep
 le:=by rw[o,c];exact h.le
 BQ:=by rw[q,c];exact h.BQ
 AC:=by rw[r,c];exact h.AC
 AD:=by rw[m,c];exact h.AD
def DM.CX(M:DM):Bool × Int × DM :=
 let c:=wrap64 (M.calls+1)
 if M.dead=true then(false,9,{M with calls:=c,refused:=wrap64 (M.refused+1)})
 else if (c==M.cut)=true then(true,9,{M with calls:=c,refused:=wrap64 (M.refused+1),dead:=true})
 else if (c==M.fail)=true then(false,9,{M with calls:=c,refused:=wrap64 (M.refused+1)})
 else(true,0,{M with calls:=c})
theorem DM.AU(M:DM)(a:M.dead=true):M.CX=(false,9,{M with calls:=wrap64 (M.calls+1),refused:=wrap64 (M.refused+1)}):=by
 simp[DM.CX,a]
theorem DM.AY(M:DM)(b:M.dead=false)(a:(wrap64 (M.calls+1)==M.cut)=true) :
 M.CX=(true,9,{M with calls:=wrap64 (M.calls+1),refused:=wrap64 (M.refused+1),dead:=true}):=by
 simp[DM.CX,b,a]
theorem DM.AO(M:DM)(c:M.dead=false)(a:(wrap64 (M.calls+1)==M.cut)=false)(b:(wrap64 (M.calls+1)==M.fail)=true) :
 M.CX=(false,9,{M with calls:=wrap64 (M.calls+1),refused:=wrap64 (M.refused+1)}):=by
 simp[DM.CX,c,a,b]
theorem DM.AE(M:DM)(c:M.dead=false)(a:(wrap64 (M.calls+1)==M.cut)=false)(b:(wrap64 (M.calls+1)==M.fail)=false) :
 M.CX=(true,0,{M with calls:=wrap64 (M.calls+1)}):=by
 simp[DM.CX,c,a,b]
theorem Mf(w:World)(b:Nat)(L:DL)(M:DM)(h:Blk w b (M.cells L) 143) :
 Calls Tryz.prog 209 #[.pointer (some ⟨b,0,none⟩)] w fun e f =>
  e=.returned (.tuple #[.bool M.CX.1,.int .i64 M.CX.2.1])/\Blk f b (M.CX.2.2.cells L) 143/\Fr (fun k=>k=b) w f:=by
 have d:=h.cell;have g:=h.frozen;have a:=Z h;clear h;simp only[DM.cells] at d;cases hd:M.dead with
 | true =>
  rw[hd] at d;rw[M.AU hd];have c:=Z hd;clear hd;go_enter Cu,Cb
  go_wp2
  go_ret2;refine⟨rfl,?_,(by repeat' first|exact O _ _|(with_reducible assumption)|refine Fr.drewN ?_ _|refine Fr.drew ?_|refine Fr.alloc ?_ _|refine Fr.set ?_ ?_ _|(intro _;rfl))⟩;have:=(a.out.set 4 (.int .i64 (wrap64 (M.calls+1)))).set 8 (.int .i64 (wrap64 (M.refused+1)));exact this
 | false =>
  rw[hd] at d;cases h1:(wrap64 (M.calls+1)==M.cut) with
  | true =>
   rw[M.AY hd h1];have c:=Z hd;clear hd;go_enter Cu,Cb
   go_wp2
   go_quiet (fail)
   go_wp2
   go_ret2;refine⟨rfl,?_,(by repeat' first|exact O _ _|(with_reducible assumption)|refine Fr.drewN ?_ _|refine Fr.drew ?_|refine Fr.alloc ?_ _|refine Fr.set ?_ ?_ _|(intro _;rfl))⟩;have:=((a.out.set 4 (.int .i64 (wrap64 (M.calls+1)))).set 8 (.int .i64 (wrap64 (M.refused+1)))).set 10 (.bool true);exact this
  | false =>
   cases h2:(wrap64 (M.calls+1)==M.fail) with
   | true =>
    rw[M.AO hd h1 h2];have c:=Z hd;clear hd;go_enter Cu,Cb
    go_wp2
    go_quiet (fail)
    go_wp2
    go_quiet (fail)
    go_wp2
    go_ret2;refine⟨rfl,?_,(by repeat' first|exact O _ _|(with_reducible assumption)|refine Fr.drewN ?_ _|refine Fr.drew ?_|refine Fr.alloc ?_ _|refine Fr.set ?_ ?_ _|(intro _;rfl))⟩;have:=(a.out.set 4 (.int .i64 (wrap64 (M.calls+1)))).set 8 (.int .i64 (wrap64 (M.refused+1)));exact this
   | false =>
    rw[M.AE hd h1 h2];have c:=Z hd;clear hd;go_enter Cu,Cb
    go_wp2
    go_quiet (fail)
    go_wp2
    go_quiet (fail)
    go_wp2
    go_ret2;refine⟨rfl,?_,(by repeat' first|exact O _ _|(with_reducible assumption)|refine Fr.drewN ?_ _|refine Fr.drew ?_|refine Fr.alloc ?_ _|refine Fr.set ?_ ?_ _|(intro _;rfl))⟩;have:=a.out.set 4 (.int .i64 (wrap64 (M.calls+1)));exact this
theorem QS(w:World)(b:Nat)(L:DL)(M:DM)(h:DRep w b L M) :
 Calls Tryz.prog 209 #[.pointer (some ⟨b,0,none⟩)] w fun e a =>
  e=.returned (.tuple #[.bool M.CX.1,.int .i64 M.CX.2.1])/\DRep a b L M.CX.2.2/\Fr (fun k=>k=b) w a:=by
 refine(Mf w b L M h.CY).mono fun e a ⟨d,f,c⟩=>⟨d,?_,c⟩;refine h.own f c ?_ ?_ ?_ ?_ ?_ <;> (unfold DM.CX;dsimp only;(repeat' split) <;> rfl)
def DM.new(c:Int):DM:={dir:=[],safe:=[],Bj:=[],file:=fun _=>⟨[],0⟩,ids:=[],room:=c,calls:=0,cut:=0,fail:=0,part:=0,refused:=0,Bb:=0,dead:=false}
def DL.new:DL:={BE:=.slice none 0 0,Bx:=.slice none 0 0,Aj:=.slice none 0 0,BB:=[],fV:=fun _=>.slice none 0 0}
theorem DRep.new{w:World}{b:Nat}{e:Int}(h:Blk w b ((DM.new e).cells DL.new) 143):DRep w b DL.new (DM.new e) where
 CY:=h
 dir:=Hc w 0 _ _
 safe:=Hc w 0 _ _
 ch:=Hc w 0 _ _
 Ag:=rfl
 Bj:=fun i c=>absurd c (Gb _)
 files:=fun f c=>by cases c
 rows:=fun f c=>by cases c
 sep:=fun f c=>by cases c
 le:=fun f c=>by cases c
 BQ:=fun f c=>by cases c
 AC:=fun f c=>by cases c
 AD:=fun f c=>by cases c
theorem Rf(a:Int)(w:World) :
 Calls Tryz.prog 50 #[.int .i64 a] w fun e b=>e=.returned (.pointer (some ⟨w.heap.size,0,none⟩))/\DRep b w.heap.size DL.new (DM.new a)/\Fr Nil w b/\b.heap.size=w.heap.size+1:=by
 go_enter Tryz.func50,Tryz.ntmps50
 go_wp2
 go_ret;exact⟨rfl,DRep.new (Blk.new _ _ _),(by repeat' first|exact O _ _|(with_reducible assumption)|refine Fr.drewN ?_ _|refine Fr.drew ?_|refine Fr.alloc ?_ _|refine Fr.set ?_ ?_ _|(intro _;rfl)),by simp⟩
theorem Vq(w:World)(b:Nat)(L:DL)(M:DM)(h:DRep w b L M) :
 Calls Tryz.prog 38 #[.pointer (some ⟨b,0,none⟩)] w fun e c=>e=.returned (.bool M.dead)/\c=w:=by
 have a:=h.CY.cell;simp only[DM.cells] at a;go_enter Tryz.func38,Tryz.ntmps38
 go_wp2
 go_ret;exact⟨rfl,rfl⟩
theorem ZZ(w:World)(b:Nat)(L:DL)(M:DM)(h:DRep w b L M) :
 Calls Tryz.prog 47 #[.pointer (some ⟨b,0,none⟩)] w fun e c=>e=.returned (.int .i64 M.refused)/\c=w:=by
 have a:=h.CY.cell;simp only[DM.cells] at a;go_enter Tryz.func47,Tryz.ntmps47
 go_wp2
 go_ret;exact⟨rfl,rfl⟩
theorem UD(w:World)(b:Nat)(L:DL)(M:DM)(h:DRep w b L M) :
 Calls Tryz.prog 100 #[.pointer (some ⟨b,0,none⟩)] w fun e c=>e=.returned (.int .i64 M.Bb)/\c=w:=by
 have a:=h.CY.cell;simp only[DM.cells] at a;go_enter Tryz.func100,Tryz.ntmps100
 go_wp2
 go_ret;exact⟨rfl,rfl⟩
def DM.BP(M:DM)(n:Int):DM:={M with cut:=if 0<n then wrap64 (M.calls+n) else 0}
theorem Rg(n:Int)(w:World)(b:Nat)(L:DL)(M:DM)(h:DRep w b L M) :
 Calls Tryz.prog 37 #[.pointer (some ⟨b,0,none⟩),.int .i64 n] w fun e d =>
  e=.returned (.tuple #[])/\DRep d b L (M.BP n)/\Fr (fun k=>k=b) w d:=by
 have f:=h.CY.cell;have g:=h.CY.frozen;simp only[DM.cells] at f;have a:=Z h;clear h;by_cases c:0<n
 .have HM:Hid (M.BP n={M with cut:=wrap64 (M.calls+n)}):=by simp[Hid,DM.BP,c]
  go_enter Tryz.func37,Tryz.ntmps37
  go_wp2
  go_end0
  rw[HM.out];refine⟨rfl,a.out.own ?_ (by repeat' first|exact O _ _|(with_reducible assumption)|refine Fr.drewN ?_ _|refine Fr.drew ?_|refine Fr.alloc ?_ _|refine Fr.set ?_ ?_ _|(intro _;rfl)) rfl rfl rfl rfl rfl,(by repeat' first|exact O _ _|(with_reducible assumption)|refine Fr.drewN ?_ _|refine Fr.drew ?_|refine Fr.alloc ?_ _|refine Fr.set ?_ ?_ _|(intro _;rfl))⟩;have:=(a.out.CY.set 5 (.int .i64 0)).set 5 (.int .i64 (wrap64 (M.calls+n)));exact this
 .have HM:Hid (M.BP n={M with cut:=0}):=by simp[Hid,DM.BP,c]
  go_enter Tryz.func37,Tryz.ntmps37
  go_wp2
  go_end0
  rw[HM.out];refine⟨rfl,a.out.own ?_ (by repeat' first|exact O _ _|(with_reducible assumption)|refine Fr.drewN ?_ _|refine Fr.drew ?_|refine Fr.alloc ?_ _|refine Fr.set ?_ ?_ _|(intro _;rfl)) rfl rfl rfl rfl rfl,(by repeat' first|exact O _ _|(with_reducible assumption)|refine Fr.drewN ?_ _|refine Fr.drew ?_|refine Fr.alloc ?_ _|refine Fr.set ?_ ?_ _|(intro _;rfl))⟩;have:=(a.out.CY.set 5 (.int .i64 0));exact this
def DM.BD(M:DM)(n a:Int):DM:={M with fail:=if 0<n then wrap64 (M.calls+n) else 0,part:=if a<0 then wrap64 (-(wrap64 (a+1))) else a}
theorem Tn(n a:Int)(w:World)(b:Nat)(L:DL)(M:DM)(h:DRep w b L M) :
 Calls Tryz.prog 46 #[.pointer (some ⟨b,0,none⟩),.int .i64 n,.int .i64 a] w fun e g =>
  e=.returned (.tuple #[])/\DRep g b L (M.BD n a)/\Fr (fun k=>k=b) w g:=by
 have i:=h.CY.cell;have j:=h.CY.frozen;simp only[DM.cells] at i;have c:=Z h;clear h;by_cases d:0<n <;> by_cases f:a<0
 .have HM:Hid (M.BD n a={M with fail:=wrap64 (M.calls+n),part:=wrap64 (-(wrap64 (a+1)))}):=by simp[Hid,DM.BD,d,f]
  go_enter CK,Cv
  go_wp2
  go_end0
  rw[HM.out];refine⟨rfl,c.out.own ?_ (by repeat' first|exact O _ _|(with_reducible assumption)|refine Fr.drewN ?_ _|refine Fr.drew ?_|refine Fr.alloc ?_ _|refine Fr.set ?_ ?_ _|(intro _;rfl)) rfl rfl rfl rfl rfl,(by repeat' first|exact O _ _|(with_reducible assumption)|refine Fr.drewN ?_ _|refine Fr.drew ?_|refine Fr.alloc ?_ _|refine Fr.set ?_ ?_ _|(intro _;rfl))⟩;have:=(((c.out.CY.set 6 (.int .i64 0)).set 6 (.int .i64 (wrap64 (M.calls+n)))).set 7 (.int .i64 a)).set 7 (.int .i64 (wrap64 (-(wrap64 (a+1)))));exact this
 .have HM:Hid (M.BD n a={M with fail:=wrap64 (M.calls+n),part:=a}):=by simp[Hid,DM.BD,d,f]
  go_enter CK,Cv
  go_wp2
  go_end0
  rw[HM.out];refine⟨rfl,c.out.own ?_ (by repeat' first|exact O _ _|(with_reducible assumption)|refine Fr.drewN ?_ _|refine Fr.drew ?_|refine Fr.alloc ?_ _|refine Fr.set ?_ ?_ _|(intro _;rfl)) rfl rfl rfl rfl rfl,(by repeat' first|exact O _ _|(with_reducible assumption)|refine Fr.drewN ?_ _|refine Fr.drew ?_|refine Fr.alloc ?_ _|refine Fr.set ?_ ?_ _|(intro _;rfl))⟩;have:=(((c.out.CY.set 6 (.int .i64 0)).set 6 (.int .i64 (wrap64 (M.calls+n)))).set 7 (.int .i64 a));exact this
 .have HM:Hid (M.BD n a={M with fail:=0,part:=wrap64 (-(wrap64 (a+1)))}):=by simp[Hid,DM.BD,d,f]
  go_enter CK,Cv
  go_wp2
  go_end0
  rw[HM.out];refine⟨rfl,c.out.own ?_ (by repeat' first|exact O _ _|(with_reducible assumption)|refine Fr.drewN ?_ _|refine Fr.drew ?_|refine Fr.alloc ?_ _|refine Fr.set ?_ ?_ _|(intro _;rfl)) rfl rfl rfl rfl rfl,(by repeat' first|exact O _ _|(with_reducible assumption)|refine Fr.drewN ?_ _|refine Fr.drew ?_|refine Fr.alloc ?_ _|refine Fr.set ?_ ?_ _|(intro _;rfl))⟩;have:=(((c.out.CY.set 6 (.int .i64 0))).set 7 (.int .i64 a)).set 7 (.int .i64 (wrap64 (-(wrap64 (a+1)))));exact this
 .have HM:Hid (M.BD n a={M with fail:=0,part:=a}):=by simp[Hid,DM.BD,d,f]
  go_enter CK,Cv
  go_wp2
  go_end0
  rw[HM.out];refine⟨rfl,c.out.own ?_ (by repeat' first|exact O _ _|(with_reducible assumption)|refine Fr.drewN ?_ _|refine Fr.drew ?_|refine Fr.alloc ?_ _|refine Fr.set ?_ ?_ _|(intro _;rfl)) rfl rfl rfl rfl rfl,(by repeat' first|exact O _ _|(with_reducible assumption)|refine Fr.drewN ?_ _|refine Fr.drew ?_|refine Fr.alloc ?_ _|refine Fr.set ?_ ?_ _|(intro _;rfl))⟩;have:=(((c.out.CY.set 6 (.int .i64 0))).set 7 (.int .i64 a));exact this
def Dir.look(d:Dir)(a:ByteArray):Option Nat:=(d.find? fun e=>e.1==a).map (·.2)
theorem Yy(d:Dir)(a:ByteArray) :
 (Zl d a=-1/\Dir.look d a=none)\/∃ k:Nat,∃ h:k<d.length,Zl d a=k/\Dir.look d a=some d[k].2/\(d[k].1==a)=true:=by
 unfold Zl Dir.look;cases hf:d.findIdx? (fun e=>e.1==a) with
 | none =>
  rw[List.findIdx?_eq_none_iff] at hf;refine .inl ⟨rfl,?_⟩;rw[FH.2 (fun x l=>by simpa using hf x l)]
  rfl
 | some k =>
  rw[List.findIdx?_eq_some_iff_getElem] at hf;obtain⟨f,c,g⟩:=hf;refine .inr ⟨k,f,rfl,?_,c⟩;rw[(Ep (xs:=d) (b:=d[k])).2 ⟨c,k,f,rfl,fun j i=>by simpa using g j i⟩]
  rfl
theorem Xi{v:Value}{d:Dir}{a:ByteArray}(hm:Zl d a=-1)(w:World)(h:w.ownsRow 0 148 2 v d.length (flat d)) :
 Calls Tryz.prog 87 #[v,.string a] w fun e c=>e=.returned (.int .i64 (-1))/\Fr Nil w c:=by
 have:=Tm v d a w h
 rwa [hm] at this
theorem Zn{v:Value}{d:Dir}{a:ByteArray}{k:Nat}(hm:Zl d a=k)(w:World)(h:w.ownsRow 0 148 2 v d.length (flat d)) :
 Calls Tryz.prog 87 #[v,.string a] w fun e b=>e=.returned (.int .i64 k)/\Fr Nil w b:=by
 have:=Tm v d a w h
 rwa [hm] at this
def DM.size(M:DM)(c:ByteArray):Int × Int :=
 match M.dir.look c with
 | some f=>((M.file f).bytes.length,0)
 | none=>(0,11)
theorem DRep.entry{w:World}{b:Nat}{L:DL}{M:DM}(h:DRep w b L M){k:Nat}(j:k<M.dir.length) :
 ∃ g e n c,L.BE=.slice (some ⟨g,0,none⟩) M.dir.length e/\M.dir[k].2∈M.ids/\w.cell? ⟨g,k*2,none⟩=some (.string M.dir[k].1) /\
  w.cell? ⟨g,k*2+1,none⟩=some (.pointer (some ⟨M.dir[k].2,0,none⟩)) /\
  L.fV M.dir[k].2=.slice n (M.file M.dir[k].2).bytes.length c:=by
 obtain⟨g,e,m,_⟩:=zm h.dir (by omega);have i:=h.dir;rw[m] at i;have l:=h.BQ _ (IX j);obtain⟨a,c,o⟩:=zc (h.rows _ l);exact⟨g,e,a,c,m,l,own_cell? i _ _ (Yj _ k j).1,own_cell? i _ _ (Yj _ k j).2,o⟩
theorem To(a:ByteArray)(w:World)(b:Nat)(L:DL)(M:DM)(h:DRep w b L M) :
 Calls Tryz.prog 188 #[.pointer (some ⟨b,0,none⟩),.string a] w fun e v =>
  e=.returned (.tuple #[.int .i64 (M.size a).1,.int .i64 (M.size a).2])/\Fr Nil w v:=by
 have i:=h.CY.cell;simp only[DM.cells] at i;have p:=Z h;have j:=zH h.dir;unfold maxLen at j;rcases Yy M.dir a with⟨d,f⟩|⟨k,u,d,f,_⟩
 .have HM:Hid (M.size a=(0,11)):=by simp[Hid,DM.size,f]
  have o:=Z d;clear h d f;go_enter Tryz.func188,Tryz.ntmps188
  go_wp2_with (go_at_call 87;refine(Xi o.out _ p.out.dir).mono ?_;rintro e x ⟨rfl,m⟩)
  go_ret2;rw[HM.out];exact⟨rfl,m⟩
 .have HM:Hid (M.size a=(((M.file M.dir[k].2).bytes.length:Int),(0:Int))):=by simp[Hid,DM.size,f]
  have o:=Z d;clear h d f;go_enter Tryz.func188,Tryz.ntmps188;go_wp2_with fail;refine(Zn o.out _ p.out.dir).mono ?_;rintro e x ⟨rfl,m⟩;have l:=p.out.fr m (fun _ _=>id);clear i;have i:=l.CY.cell;simp only[DM.cells] at i;obtain⟨g,s,n,c,r,t,_,y,hs⟩:=l.entry u;have q:=(l.files _ t).cell;rw[hs] at q;rw[r] at i;clear hs r l
  go_wp2
  go_ret2;rw[HM.out];exact⟨rfl,m⟩
def DM.Ar(M:DM)(k:Nat):Int:=(M.dir.take k).foldl (fun n e=>wrap64 (n+(M.file e.2).bytes.length)) 0
def DM.used(M:DM):Int:=M.Ar M.dir.length
theorem DM.AV(M:DM)(k:Nat)(h:k<M.dir.length):M.Ar (k+1)=wrap64 (M.Ar k+(M.file M.dir[k].2).bytes.length):=by
 unfold DM.Ar;rw[Hj h,Gq]
 rfl
theorem Tp(w:World)(b:Nat)(L:DL)(M:DM)(h:DRep w b L M) :
 Calls Tryz.prog 41 #[.pointer (some ⟨b,0,none⟩)] w fun e p=>e=.returned (.int .i64 M.used)/\Fr Nil w p:=by
 have j:=h.CY.cell;simp only[DM.cells] at j;have d:=zH h.dir;unfold maxLen at d;obtain⟨a,u,o⟩:=zc h.dir;rw[o] at j;have q:=Z h;have s:=Z o;clear h o;go_enter Tryz.func41,Tryz.ntmps41
 go_wp2
 clear j
 go_loopw [3,11] (fun n t p=>∃ k:Nat,k<=M.dir.length/\t=.int .i64 k/\n=.int .i64 (M.Ar k)/\Fr Nil w p) (fun _ t _=>M.dir.length-(intOf t).toNat)
 case atStart=>exact⟨0,Hg _,rfl,rfl,O _ _⟩
 case round =>
  obtain⟨k,y,rfl,rfl,m⟩:=hrel;have i:=q.out.fr m (fun _ _=>id);by_cases f:k<M.dir.length
  .obtain⟨g,cap',n,c,hv',hi,he,hp,hs⟩:=i.entry f
   rw[s.out] at hv';simp at hv';obtain⟨rfl,rfl⟩:=hv';have l:=(i.files _ hi).cell;rw[hs] at l;have r:=Z (M.AV k f);have v:=(i.files _ hi).lt;have x:=World.block_lt_of_cell? _ _ he;clear hs i
   go_wp2
   exact⟨⟨k+1,by omega,by go_num,by rw[r.out],m.alloc _⟩,by simp[intOf];omega⟩
  .go_wp2
   go_ret;have:k=M.dir.length:=by omega
   subst this;exact⟨rfl,m⟩
def zo(l:List UInt8):ByteArray:=⟨l.toArray⟩
def DM.read(M:DM)(b:ByteArray)(a n:Int):ByteArray × Int :=
 match M.dir.look b with
 | none=>(ByteArray.empty,11)
 | some f =>
  if 0<=a/\0<=n/\a<=(M.file f).bytes.length/\n<=(M.file f).bytes.length-a then
   (zo (((M.file f).bytes.drop a.toNat).take n.toNat),0)
  else(ByteArray.empty,12)
theorem Lx(a:ByteArray)(x n:Int)(w:World)(b:Nat)(L:DL)(M:DM)(h:DRep w b L M)(c:Zl M.dir a=-1)(d:M.dir.look a=none) :
 Calls Tryz.prog 189 #[.pointer (some ⟨b,0,none⟩),.string a,.int .i64 x,.int .i64 n] w fun e l =>
  e=.returned (.tuple #[.string (M.read a x n).1,.int .i64 (M.read a x n).2])/\Fr Nil w l:=by
 have j:=h.CY.cell;simp only[DM.cells] at j;have g:=Z h;have i:Hid (M.read a x n=(ByteArray.empty,(11:Int))):=by simp[Hid,DM.read,d]
 have f:=Z c;clear h c d;go_enter Cw,Cc
 go_wp2_with (go_at_call 87;refine(Xi f.out _ g.out.dir).mono ?_;rintro e m ⟨rfl,k⟩)
 go_ret2;rw[i.out];exact⟨rfl,k⟩
theorem KW(a:ByteArray)(x n:Int)(w:World)(b:Nat)(L:DL)(M:DM)(h:DRep w b L M)(k:Nat)(v:k<M.dir.length)(s:Zl M.dir a=k)(t:M.dir.look a=some M.dir[k].2)
 (z:¬(0<=x/\0<=n/\x<=(M.file M.dir[k].2).bytes.length/\n<=(M.file M.dir[k].2).bytes.length-x)) :
 Calls Tryz.prog 189 #[.pointer (some ⟨b,0,none⟩),.string a,.int .i64 x,.int .i64 n] w fun e F =>
  e=.returned (.tuple #[.string (M.read a x n).1,.int .i64 (M.read a x n).2])/\Fr Nil w F:=by
 have f:=h.CY.cell;simp only[DM.cells] at f;have q:=Z h;have i:=zH h.dir;have d:=zH (h.rows _ (h.BQ _ (IX v)));unfold maxLen at i d;have B:Hid (M.read a x n=(ByteArray.empty,(12:Int))):=by simp only[Hid,DM.read,t];rw[IV z]
 have A:=Z s;clear h s t;have j:x<0\/(0<=x/\n<0)\/(0<=x/\0<=n/\((M.file M.dir[k].2).bytes.length:Int)<x)\/(0<=x/\0<=n/\x<=((M.file M.dir[k].2).bytes.length:Int)/\((M.file M.dir[k].2).bytes.length:Int)-x<n):=by omega
 clear z;rcases j with o|⟨o,r⟩|⟨o,r,C⟩|⟨o,r,C,G⟩
 all_goals
  go_enter Cw,Cc;go_wp2_with fail;refine(Zn A.out _ q.out.dir).mono ?_;rintro e J ⟨rfl,u⟩;have l:=q.out.fr u (fun _ _=>id);clear f;have f:=l.CY.cell;simp only[DM.cells] at f;obtain⟨g,D,m,c,y,E,_,I,hs⟩:=l.entry v;have p:=(l.files _ E).cell;rw[hs] at p;rw[y] at f;clear hs y l
  go_wp2
  go_ret2;rw[B.out];exact⟨rfl,u⟩
theorem UX{P:Program}{t e u:TypeId}(z:P.underlying t=some (.slice e))(q:P.underlying e=some (.int .u8))(A:P.underlying u=some .string)
 {w:World}{g n cap:Nat}{d:List UInt8}(h:w.ownsRow 0 5 1 (.slice (some ⟨g,0,none⟩) n cap) n (u8s d))(x m c:Nat)(C:x+m<=d.length) :
 (convert t u (.slice (some ⟨g,x,none⟩) m c)).run P w=.ok (.string (zo ((d.drop x).take m))) w:=by
 have y:(loadCells ⟨g,x,none⟩ m).run P w=.ok ((((d.drop x).take m).map fun c:UInt8=>(c.toNat:Int)).map (Value.int .u8)).toArray w:=by
  have o:=run_loadCells_list (P:=P) w ⟨g,x,none⟩ ((((d.drop x).take m).map fun c:UInt8=>(c.toNat:Int)).map (Value.int .u8)) (by
   intro j v i;have s:j<m:=by
    rcases Fg j m with k|k
    .exact k
    .rw[EE (by simp;omega)] at i;cases i
   have f:(⟨g,x,none⟩:Addr).add j=⟨g,x+j,none⟩:=by unfold Addr.add;split <;> simp_all
   rw[f];refine own_cell? h _ _ ?_;rw[<- i];simp[u8s,s,List.getElem?_drop]
   rfl)
  have p:((((d.drop x).take m).map fun c:UInt8=>(c.toNat:Int)).map (Value.int .u8)).length=m:=by simp;omega
  rw[p] at o;exact o
 rw[run_convert_bytes_string w t u e _ m c z q A,run_bytesToString w _ m c _ y]
 congr 2
 have key:∀ (l:List UInt8) (b:ByteArray),(l.map fun c:UInt8=>(c.toNat:Int)).foldl (fun r n=>r.push (UInt8.ofNat n.toNat)) b=⟨(b.data.toList++l).toArray⟩:=by
  intro l
  induction l with
  | nil=>intro b;simp
  | cons a l B =>
   intro b;simp only[Ht,GT];rw[B];simp[ByteArray.push]
 rw[key]
 rfl
theorem Ly(a:ByteArray)(x n:Nat)(w:World)(b:Nat)(L:DL)(M:DM)(h:DRep w b L M)(k:Nat)(B:k<M.dir.length)(v:Zl M.dir a=k)(y:M.dir.look a=some M.dir[k].2)
 (K:x+n<=(M.file M.dir[k].2).bytes.length)(X:0<n) :
 Calls Tryz.prog 189 #[.pointer (some ⟨b,0,none⟩),.string a,.int .i64 x,.int .i64 n] w fun e N =>
  e=.returned (.tuple #[.string (M.read a x n).1,.int .i64 (M.read a x n).2])/\Fr Nil w N:=by
 have i:=h.CY.cell;simp only[DM.cells] at i;have r:=Z h;have j:=zH h.dir;have d:=zH (h.rows _ (h.BQ _ (IX B)));unfold maxLen at j d;have E:Hid (M.read a x n=(zo (((M.file M.dir[k].2).bytes.drop x).take n),(0:Int))):=by simp only[Hid,DM.read,y];rw[He (by omega)];simp
 have D:=Z v;clear h v y;have Q:¬(x:Int)<0:=by omega
 have R:¬(n:Int)<0:=by omega
 have S:¬((M.file M.dir[k].2).bytes.length:Int)<x:=by omega
 have T:¬((M.file M.dir[k].2).bytes.length:Int)-x<n:=by omega
 go_enter Cw,Cc;go_wp2_with fail;refine(Zn D.out _ r.out.dir).mono ?_;rintro e w1 ⟨rfl,z⟩;have f:=r.out.fr z (fun _ _=>id);clear i;have i:=f.CY.cell;simp only[DM.cells] at i;obtain⟨g,F,m,c,C,A,_,Y,hs⟩:=f.entry B;have o:=f.rows _ A;obtain⟨V,s,l,G,q⟩:=zm o (by omega);have p:=(f.files _ A).cell;rw[l] at p o;rw[C] at i;unfold maxLen at q;have J:¬s=x:=by omega
 have I:=UX (P:=Tryz.prog) (t:=150) (u:=9) GE Ds GX o x n (s-x) K;clear hs C f o l
 go_wp2
 go_ret2;rw[E.out];exact⟨rfl,z⟩
theorem Lz{P:Program}{t e u:TypeId}(d:P.underlying t=some (.slice e))(b:P.underlying e=some (.int .u8))(f:P.underlying u=some .string)
 (w:World)(a:Option Addr)(c:Nat):(convert t u (.slice a 0 c)).run P w=.ok (.string ByteArray.empty) w:=by
 rw[run_convert_bytes_string w t u e _ 0 c d b f];cases a with
 | none=>rfl
 | some a=>exact run_bytesToString w a 0 c [] (by rfl)
theorem LA(a:ByteArray)(x:Nat)(w:World)(b:Nat)(L:DL)(M:DM)(h:DRep w b L M)(k:Nat)(y:k<M.dir.length)(d:Zl M.dir a=k)(p:M.dir.look a=some M.dir[k].2)
 (S:x<=(M.file M.dir[k].2).bytes.length) :
 Calls Tryz.prog 189 #[.pointer (some ⟨b,0,none⟩),.string a,.int .i64 x,.int .i64 0] w fun e G =>
  e=.returned (.tuple #[.string (M.read a x 0).1,.int .i64 (M.read a x 0).2])/\Fr Nil w G:=by
 have l:=h.CY.cell;simp only[DM.cells] at l;have r:=Z h;have o:=zH h.dir;have i:=zH (h.rows _ (h.BQ _ (IX y)));unfold maxLen at o i;have C:Hid (M.read a x 0=(ByteArray.empty,(0:Int))):=by simp only[Hid,DM.read,p];rw[He (by omega)];simp[zo];rfl
 have B:=Z d;clear h d p;have J:¬(x:Int)<0:=by omega
 have K:¬((M.file M.dir[k].2).bytes.length:Int)<x:=by omega
 have N:¬((M.file M.dir[k].2).bytes.length:Int)-x<0:=by omega
 go_enter Cw,Cc;go_wp2_with fail;refine(Zn B.out _ r.out.dir).mono ?_;rintro e I ⟨rfl,s⟩;have j:=r.out.fr s (fun _ _=>id);clear l;have l:=j.CY.cell;simp only[DM.cells] at l;obtain⟨g,D,m,c,A,v,_,R,hs⟩:=j.entry y;have z:=j.rows _ v;have f:(M.file M.dir[k].2).bytes.length<=c/\c<=maxLen:=by
  rcases z.2 with⟨d,p⟩|⟨_,_,_,d,_,_,p,Q,_⟩
  .rw[hs] at d;simp at d;omega
  .rw[hs] at d;simp at d;omega
 unfold maxLen at f;obtain⟨f,E⟩:=f;have q:=(j.files _ v).cell;rw[hs] at q;rw[A] at l;have F:=Lz (P:=Tryz.prog) (t:=150) (u:=9) GE Ds GX I;clear hs A j z
 go_wp2
 all_goals
  go_ret2;rw[C.out];exact⟨rfl,s⟩
theorem Mg(f:ByteArray)(x n:Int)(w:World)(b:Nat)(L:DL)(M:DM)(h:DRep w b L M) :
 Calls Tryz.prog 189 #[.pointer (some ⟨b,0,none⟩),.string f,.int .i64 x,.int .i64 n] w fun e m =>
  e=.returned (.tuple #[.string (M.read f x n).1,.int .i64 (M.read f x n).2])/\Fr Nil w m:=by
 rcases Yy M.dir f with⟨g,i⟩|⟨k,j,g,i,_⟩
 .exact Lx f x n w b L M h g i
 .by_cases hx:0<=x/\0<=n/\x<=(M.file M.dir[k].2).bytes.length/\n<=(M.file M.dir[k].2).bytes.length-x
  .obtain⟨a,b',c,d⟩:=hx
   obtain⟨x,rfl⟩:=GB a;obtain⟨n,rfl⟩:=GB b';rcases FG n with rfl|l
   .exact LA f x w b L M h k j g i (by omega)
   .exact Ly f x n w b L M h k j g i (by omega) l
  .exact KW f x n w b L M h k j g i hx
theorem ZB.yQ{W w:World}{g:FuncId}{p:Value}{c:List UInt8}(h:ZB W (.func (.func g) #[] #[p]) c)(k:Still W w){v:Value}{n:Nat}{d:List Value}(j:w.ownsRow 0 5 1 v n d)(a:n+c.length<=1099511627776) :
 Calls Tryz.prog g #[v,p] w fun e l=>∃ f,e=.returned f/\Adds w v n d c f l:=by
 obtain⟨m,o,b,_,i⟩:=h;simp only[Value.func.injEq,Fn.func.injEq] at b;obtain⟨rfl,_,rfl⟩:=b;exact i w k v n d j a
def zU(l:List Ver):List Value:=l.flatMap Ver.cells
theorem Xu(l:List Ver):(zU l).length=l.length*8:=by
 induction l with
 | nil=>rfl
 | cons e l a=>simp only[zU,Fi,IM,Hq,Ver.BI] at a |-;omega
theorem Rh(l:List Ver):∀ (k j:Nat)(h:k<l.length)(_:j<8),(zU l)[k*8+j]?=l[k].cells[j]?:=by
 induction l with
 | nil=>intro k j h;simp at h
 | cons e l c =>
  intro k j h a;cases k with
  | zero =>
   simp only[zU,Fi,DK,Gg,GJ];exact FE (by rw[Ver.BI];exact a)
  | succ k =>
   have:=c k j (by simpa using h) a;have b:(k+1)*8+j=k*8+j+8:=by omega
   simp only[zU,Fi,b,Ez] at this |-;rw[Fk (by rw[Ver.BI];omega),Ver.BI,show k*8+j+8-8=k*8+j by omega];exact this
theorem XW(l:List Ver):∀ u∈zU l,u.oneCell'=true:=by
 intro u a;simp only[zU,Dt] at a;obtain⟨e,_,a⟩:=a;simp only[Ver.cells,HY,Ft,Dy] at a;rcases a with rfl|rfl|rfl|rfl|rfl|rfl|rfl|rfl <;> rfl
def ZN(l:List Ver):List UInt8:=zi l.length++(l.map ZY).flatten
theorem QT(K T:Nat)(lv:Value)(l:List Ver)(hl:∀ x∈l,x.Nat)(a5:l.length<1000000)(w:World)
 (B:Blk w K [lv] 61)(V:Blk w T [.func (.func 289) #[] #[]] 372)
 (Y:w.ownsRow 0 37 8 lv l.length (zU l))
 (v:Value)(n:Nat)(L:List Value)(X:w.ownsRow 0 5 1 v n L)(p:n+(ZN l).length<=1099511627776) :
 Calls Tryz.prog 292 #[v,.pointer (some ⟨K,0,none⟩),.pointer (some ⟨T,0,none⟩)] w fun e w'=>∃ v',e=.returned v'/\Adds w v n L (ZN l) v' w':=by
 have a2:w.cell? ⟨K,0,none⟩=some lv:=by rw[B.cell];rfl
 obtain⟨va,vc,rfl⟩:=zc X;obtain⟨la,lc,rfl⟩:=zc Y;have R:=Z X;have H1:=Z B;clear B X;have o:n+(zi l.length).length+((l.map ZY).flatten).length<=1099511627776:=by simp only[ZN,IM] at p;omega
 have HL:=Z o;clear o p;have HR:=Z Y;have H2:=Z V;have Q:=Z hl;clear Y V hl;go_enter Tryz.func292,Tryz.ntmps292
 go_wp2_with (first
  | (go_at_call 280;refine(Yd w.heap.size l.length (by omega) _ E (.slice va n vc) n L (zb (S:=Nil) R.out s (fun _ _=>id)) (by have:=HL.out;omega)).mono ?_;rintro e w3 ⟨v3,rfl,C⟩;refine Hid.out ?_)
  | (go_at_call 277;refine(ZP w _ _ (O _ _)).mono ?_;rintro e w2 ⟨rfl,E,s⟩))
 have z:=Z (C.of s);have q:=z.out.still R.out;have a4:w3.cell? ⟨K,0,none⟩=some (.slice la l.length lc):=by rw[(H1.out.still (by decide) q).cell];rfl
 clear C E s q;refine Z ?_;go_wp2_with fail
 go_loopw [0,14] (fun t0 u w'=>∃ i:Nat,i<=l.length/\u=.int .i64 i/\Adds w (.slice va n vc) n L (zi l.length++((l.take i).map ZY).flatten) t0 w') (fun _ u _=>l.length-(intOf u).toNat)
 case atStart=>exact⟨0,Hg _,rfl,by simpa using z.out⟩
 case round =>
  obtain⟨i,hi,rfl,r⟩:=hrel;have J:=r.still R.out;obtain⟨m,hm⟩:∃ m,m=n+(zi l.length++((l.take i).map ZY).flatten).length:=⟨_,rfl⟩;have c:=r.1;rw[<- hm] at c;obtain⟨ta,tc,rfl⟩:=zc c;have HW:=Z c;have HM:=Z hm;clear c hm;by_cases t:i<l.length
  .obtain⟨g,rfl⟩:∃ g,la=some ⟨g,0,none⟩:=by
    obtain⟨g,a1,h,_⟩:=zm HR.out (by omega);simp at h;exact⟨g,h.1⟩
   have I:=Vp (by decide) HR.out J;have b:=fun j hj=>own_cell? I (i*8+j) _ ((Rh l i j t hj).trans (IW (by rw[Ver.BI];exact hj)));have g0:=b 0 (by omega);have g1:=b 1 (by omega);have g2:=b 2 (by omega);have g3:=b 3 (by omega);have g4:=b 4 (by omega);have g5:=b 5 (by omega);have g6:=b 6 (by omega);have g7:=b 7 (by omega);have a3:∀ ob:Obj,(wr.alloc ob).cell? ⟨T,0,none⟩=some (.func (.func 289) #[] #[]):=fun ob=>by rw[((H2.out.still (by decide) J).alloc ob).cell];rfl
   have hx:=Q.out l[i] (IX t);have a:zi l.length++((l.take (i+1)).map ZY).flatten=(zi l.length++((l.take i).map ZY).flatten)++ZY l[i]:=by
    rw[Hj t,Gs,FC];simp
   have G:m+(ZY l[i]).length<=1099511627776:=by
    have B:=Ww (l.map ZY) (i+1);have V:=HL.out;rw[<- FJ] at B;have h3:=GY List.length a;rw[HM.out];simp only[IM] at h3 |-;omega
   have d:=Z a;have M:=Z r;have A:=Z G;clear a r G I b;generalize l[i]=x at g0 g1 g2 g3 g4 g5 g6 g7 hx d A;obtain⟨node,a0,o0,o1,o2,o3,y,gone⟩:=x;simp only[Ver.cells,GJ,Ez,Fx] at g0 g1 g2 g3 g4 g5 g6 g7;have HX:=Z hx;clear hx;go_wp2_with fail;refine(RO ⟨node,a0,o0,o1,o2,o3,y,gone⟩ HX.out _).mono ?_;rintro e w4 ⟨pb,rfl,hp,F⟩;have k:Fr Nil wr w4:=((O Nil wr).alloc _).trans F;have HP:=Z hp;clear hp F;go_wp2_with fail;refine(HP.out.yQ (Still.of_nil (O _ _)) (zb (S:=Nil) HW.out k (fun _ _=>id)) A.out).mono ?_;rintro e w5 ⟨v5,rfl,D⟩;have N:=Z (M.out.next HM.out (D.of k));clear D
   go_wp2
   refine⟨⟨i+1,by omega,by go_num,by rw[d.out];exact N.out⟩,?_⟩;simp[intOf];omega
  .have e:i=l.length:=by omega
   have f:zi l.length++((l.take i).map ZY).flatten=ZN l:=by rw[e,HZ];rfl
   rw[f] at r;have M:=Z r;clear f r
   go_wp2
   go_ret;exact⟨_,rfl,M.out⟩
theorem QU(a:Option Addr)(n c:Nat)(w:World) :
 Calls Tryz.prog 288 #[.slice a n c,.func (.func 289) #[] #[]] w fun e b =>
  e=.returned (.func (.func 292) #[] #[.pointer (some ⟨w.heap.size,0,none⟩),.pointer (some ⟨w.heap.size+1,0,none⟩)]) /\
  b=(w.alloc (.cells #[.slice a n c] 61)).alloc (.cells #[.func (.func 289) #[] #[]] 372):=by
 go_enter Tryz.func288,Tryz.ntmps288
 go_wp2
 go_ret;exact⟨rfl,rfl⟩
theorem OI(W:World)(m:Value)(l:List Ver)(r:∀ x∈l,x.Nat)(d:l.length<1000000)(w:World)(q:Fr Nil W w)(k:w.ownsRow 0 37 8 m l.length (zU l)) :
 Calls Tryz.prog 288 #[m,.func (.func 289) #[] #[]] w fun e h =>
  ∃ i j,e=.returned (.func (.func 292) #[] #[.pointer (some ⟨i,0,none⟩),.pointer (some ⟨j,0,none⟩)]) /\
  ZB h (.func (.func 292) #[] #[.pointer (some ⟨i,0,none⟩),.pointer (some ⟨j,0,none⟩)]) (ZN l)/\Fr Nil W h:=by
 obtain⟨a,c,rfl⟩:=zc k;refine(QU a l.length c w).mono ?_;rintro e h ⟨rfl,rfl⟩;have p:Blk ((w.alloc (.cells #[.slice a l.length c] 61)).alloc (.cells #[.func (.func 289) #[] #[]] 372)) (w.heap.size+1) [.func (.func 289) #[] #[]] 372:=by
  have:=Blk.new (w.alloc (.cells #[.slice a l.length c] 61)) [.func (.func 289) #[] #[]] 372
  simpa using this
 have o:=(Blk.new w [.slice a l.length c] 61).alloc (.cells #[.func (.func 289) #[] #[]] 372);have f:=zb (S:=Nil) k (((O Nil w).alloc (.cells #[.slice a l.length c] 61)).alloc (.cells #[.func (.func 289) #[] #[]] 372)) (fun _ _=>id);exact⟨_,_,rfl,⟨_,_,rfl,Dr Tryz.func292 (by kernel_rfl) rfl,fun w g v n t s b =>
  QT _ _ _ l r d w (o.still (by decide) g) (p.still (by decide) g) (Vp (by decide) f g) v n t s b⟩,(q.alloc _).alloc _⟩
def Z0(a:List UInt8):List UInt8:=zi a.length++a
theorem Mh(sv:Value)(d:List Value)(b:List (List UInt8))(w:World)(hs:w.ownsRow 0 365 1 sv d.length d)(hp:ZI w d b)(J:b.flatten.length<=500000000000)(s:(zi b.flatten.length).length<=100) :
 Calls Tryz.prog 276 #[sv] w fun e w'=>e=.returned (.string (zo (Z0 b.flatten)))/\Fr Nil w w':=by
 obtain⟨sa,sc,rfl⟩:=zc hs;have HS:=Z hs;have HP:=Z hp;clear hs hp;go_enter Tryz.func276,Tryz.ntmps276;go_wp2_with fail;refine(U3 sa _ sc w).mono ?_;rintro e R ⟨rfl,y⟩;have a0:Blk R w.heap.size [.slice sa d.length sc] 368:=by rw[y];exact Blk.new w [.slice sa d.length sc] _
 have q:Fr Nil w R:=by rw[y];exact(O _ _).alloc _
 clear y;go_wp2_with fail;refine(U2 _ _ d b R a0 (zb (S:=Nil) HS.out q (fun _ _=>id)) (HP.out.still (Still.of_nil q)) (.slice none 0 0) 0 [] (Hc R 0 _ _) (by omega)).mono ?_;rintro e M ⟨v2,rfl,p⟩;have v:M.ownsRow 0 5 1 v2 b.flatten.length (u8s b.flatten):=by simpa using p.1
 obtain⟨va,vc,rfl⟩:=zc v;have E:Fr Nil w M:=q.trans (p.2.1.mono (fun _ _ h=>by simp[Value.ownBlock] at h));have B:=Z v;clear v p;generalize f:b.flatten=a at J s B;have X:=Z f;clear f;go_wp2_with fail;refine(ZP M _ M (O _ _)).mono ?_;rintro e T ⟨rfl,D,r⟩;go_wp2_with fail;refine(Yd M.heap.size a.length (by omega) T D (.slice none 0 0) 0 [] (Hc T 0 _ _) (by omega)).mono ?_;rintro e V ⟨N,rfl,l⟩;have F:Fr Nil T V:=l.2.1.mono (fun _ _ h=>by simp[Value.ownBlock] at h);have x:V.ownsRow 0 5 1 N (zi a.length).length (u8s (zi a.length)):=by simpa using l.1
 have L:=zb (S:=Nil) (zb (S:=Nil) B.out r (fun _ _=>id)) F (fun _ _=>id);have G:=(E.trans r).trans F;have o:∀ k,N.ownBlock=some k->T.heap.size<=k:=fun k hk=>(l.2.2 k hk).resolve_left (by simp[Value.ownBlock]);have K:=fun ty=>Xt (P:=Tryz.prog) (w:=V) 150 ty 5 1 1 GE QO (by omega) N _ _ x _ _ _ L (by intro u hu;simp[u8s] at hu;obtain⟨c,_,rfl⟩:=hu;rfl) (by unfold maxLen;omega) (by omega);have m:∀ Q z,App V N 5 1 ((zi a.length).length+a.length) (u8s (zi a.length)++u8s a) Q z ->
  ∃ g j,Q=.slice (some ⟨g,0,none⟩) ((zi a.length).length+a.length) j/\(∀ t,(convert 150 9 (.slice (some ⟨g,0,none⟩) ((zi a.length).length+a.length) t)).run Tryz.prog z=.ok (.string (zo (Z0 a))) z)/\Fr Nil w z:=by
  rintro Q z ⟨h1,h2,h3⟩;have a2:0<(zi a.length).length:=by
   by_cases h:a.length<128
   .rw[YP h];simp
   .rw[Xh h];simp
  obtain⟨g,j,rfl,_,_⟩:=zm h1 (by omega);have Y:z.ownsRow 0 5 1 (.slice (some ⟨g,0,none⟩) ((zi a.length).length+a.length) j) ((zi a.length).length+a.length) (u8s (Z0 a)):=by
   unfold Z0;rw[Tk];exact h1
  refine⟨g,j,rfl,fun t=>?_,?_⟩
  .rw[UX (P:=Tryz.prog) GE Ds GX Y 0 _ t (by unfold Z0;rw[IM];omega)]
   congr 3
   rw[GU];exact Hn (by unfold Z0;rw[IM];exact IQ _)
  .refine G.trans' ((Fr.Bv h2).mono (fun i _ h=>h)) (fun i hi h=>?_)
   have:=o i h;have:=(E.trans r).size;omega
 have A:=Z m;obtain⟨a4,a5,rfl⟩:=zc x;clear m l x L o D
 go_wp2_with (at_builtin;go_must (refine zk rfl _ _ _ _ rfl _ _ (by rfl) (by rfl) (K _) ?_);rintro Q z C;obtain⟨g5,a1,rfl,a3,I⟩:=A.out _ _ C;clear C)
 go_ret;rw[X.out];exact⟨rfl,I⟩
theorem KX:∀(k n:Nat),n<128^(k+1)->(zi n).length<=k+1:=by
 intro k
 induction k with
 | zero=>intro n h;rw[YP (by omega)];simp
 | succ k b =>
  intro n h;by_cases a:n<128
  .rw[YP a];simp
  .have:=b (n / 128) (by rw[Nat.div_lt_iff_lt_mul (by omega)];rw[CR] at h;exact h)
   rw[Xh a,Hq];omega
theorem zG{n:Nat}(h:n<9223372036854775808):(zi n).length<=9:=KX 8 n (Nat.lt_of_lt_of_eq h (by decide))
theorem Yp(W:World)(N:Nat)(d:N<9223372036854775808)(w:World)(g:Fr Nil W w)(x:Int)(h:x=N) :
 Calls Tryz.prog 277 #[.int .i64 x] w fun e a=>∃ b,e=.returned (.func (.func 280) #[] #[.pointer (some ⟨b,0,none⟩)])/\ZB a (.func (.func 280) #[] #[.pointer (some ⟨b,0,none⟩)]) (zi N)/\Fr Nil W a:=by
 subst h;refine(ZP W N w g).mono ?_;rintro e a ⟨rfl,f,c⟩;exact⟨_,rfl,WW a _ N d f,c⟩
theorem Tq(W:World)(s:ByteArray)(hs:s.size<9223372036854775808)(w:World)(f:Fr Nil W w) :
 Calls Tryz.prog 284 #[.string s] w fun e a=>∃ b,e=.returned (.func (.func 285) #[] #[.pointer (some ⟨b,0,none⟩)])/\ZB a (.func (.func 285) #[] #[.pointer (some ⟨b,0,none⟩)]) (Za s.data.toList)/\Fr Nil W a:=by
 refine(Tl W s w f).mono ?_;rintro e a ⟨rfl,d,c⟩;exact⟨_,rfl,Re a _ s hs d,c⟩
theorem WK(W:World)(g:Nat)(b:List Value)(a:List (List UInt8))(w i:World)(k:Fr Nil W w)(o:Fr Nil i w)(j:Blk w g b 365)(m:ZI i b a)(f:b.length<=1000)(c:a.flatten.length<=500000000000)
 (n:Nat)(l:n=b.length) :
 Calls Tryz.prog 276 #[.slice (some ⟨g,0,none⟩) n n] w fun e h=>e=.returned (.string (zo (Z0 a.flatten)))/\Fr Nil W h:=by
 subst l;refine(Mh _ b a w (ZA j (IQ _) (by unfold maxLen;omega) (by simp) (by simp)) (m.still (Still.of_nil o)) c (by have:=zG (n:=a.flatten.length) (by omega);omega)).mono ?_;rintro e h ⟨rfl,d⟩;exact⟨rfl,k.trans d⟩
def XX(n:Nat):List UInt8:=Z0 (zi 1++zi n)
def XY(key:ByteArray)(l:List Ver):List UInt8:=Z0 (zi 2++(Za key.data.toList++ZN l))
def Wt(b:Nat)(a:ByteArray):List UInt8:=Z0 (zi 3++(zi b++Za a.data.toList))
def Vc:List UInt8:=Z0 (zi 4)
theorem QV(n:Nat)(p:n<9223372036854775808)(w:World) :
 Calls Tryz.prog 307 #[.agg #[.int .i64 n]] w fun e w'=>e=.returned (.string (zo (XX n)))/\Fr Nil w w':=by
 have a:Blk (w.alloc (.cells #[.int .i64 n] 220)) w.heap.size [.int .i64 n] 220:=Blk.new w [.int .i64 n] _;have f:Fr Nil w (w.alloc (.cells #[.int .i64 n] 220)):=(O _ _).alloc _;have i:([zi 1,zi n]:List (List UInt8)).flatten.length<=500000000000:=by
  have B:=zG p;have C:=zG (n:=1) (by omega);simp;omega
 go_enter Tryz.func307,Tryz.ntmps307;go_wp2_with fail;obtain⟨N,o⟩:∃ N,w.heap.size=N:=⟨_,rfl⟩;obtain⟨d,j⟩:∃ d,w.alloc (.cells #[.int .i64 n] 220)=d:=⟨_,rfl⟩;rw[o] at a |-;rw[j] at a f |-;clear j o;have s:d.cell? ⟨N,0,none⟩=some (.int .i64 n):=by rw[a.cell];rfl
 have k:Hid (∀ w',Fr Nil d w'->w'.cell? ⟨N,0,none⟩=some (.int .i64 n)):=by
  intro w' t;rw[(a.fr t id).cell];rfl
 clear a
 go_region_held3 (fun w'=>w'.cell? ⟨N,0,none⟩=some (.int .i64 n)) (first|assumption|exact k.out _ za)
  (first
  | (go_at_call 276;refine(WK d _ [_,_] [_,_] _ r (b.trans za) za (by exact Blk.new _ [_,_] _) ⟨l.still (Still.of_nil h),m,trivial⟩ (by simp) i _ rfl).mono ?_;rintro e y ⟨rfl,c⟩;have x:=k.out y c)
  | (go_at_call 277;refine(Yp q n p _ za _ rfl).mono ?_;rintro e r ⟨A,rfl,m,h⟩;have b:=g.trans h;have v:=k.out r b)
  | (go_at_call 277;refine(Yp d 1 (by omega) _ za _ rfl).mono ?_;rintro e q ⟨z,rfl,l,g⟩;have u:=k.out q g))
 go_wp2
 go_ret;exact⟨by simp[XX],f.trans c⟩
theorem QW(key:ByteArray)(C:Value)(l:List Ver)(M:∀ x∈l,x.Nat)(u:l.length<1000000)(L:key.size<1000000000)(w:World)(A:w.ownsRow 0 37 8 C l.length (zU l))(q:(ZN l).length<=100000000000) :
 Calls Tryz.prog 286 #[.agg #[.string key,C]] w fun e w'=>e=.returned (.string (zo (XY key l)))/\Fr Nil w w':=by
 obtain⟨c,d,rfl⟩:=zc A;have a:Blk (w.alloc (.cells #[.string key,.slice c l.length d] 193)) w.heap.size [.string key,.slice c l.length d] 193:=Blk.new w [.string key,.slice c l.length d] _;have i:Fr Nil w (w.alloc (.cells #[.string key,.slice c l.length d] 193)):=(O _ _).alloc _;have k:([zi 2,Za key.data.toList,ZN l]:List (List UInt8)).flatten.length<=500000000000:=by
  have h1:=zG (n:=key.size) (by omega);have h2:=zG (n:=2) (by omega);simp[Za];omega
 have G:=Z A;clear A q;go_enter Tryz.func286,Tryz.ntmps286;go_wp2_with fail;obtain⟨N,B⟩:∃ N,w.heap.size=N:=⟨_,rfl⟩;obtain⟨h,r⟩:∃ h,w.alloc (.cells #[.string key,.slice c l.length d] 193)=h:=⟨_,rfl⟩;rw[B] at a |-;rw[r] at a i |-;clear r B;have J:h.cell? ⟨N,0,none⟩=some (.string key):=by rw[a.cell];rfl
 have K:h.cell? ⟨N,1,none⟩=some (.slice c l.length d):=by rw[a.cell];rfl
 have m:Hid (∀ w',Fr Nil h w'->w'.cell? ⟨N,0,none⟩=some (.string key)/\w'.cell? ⟨N,1,none⟩=some (.slice c l.length d)):=by
  intro w' t;have:=(a.fr t id).cell;exact⟨by rw[this];rfl,by rw[this];rfl⟩
 have s:Hid (∀ w',Fr Nil h w'->w'.ownsRow 0 37 8 (.slice c l.length d) l.length (zU l)):=fun w' t=>zb (S:=Nil) G.out (i.trans t) (fun _ _=>id);clear a
 go_region_held3 (fun w'=>w'.cell? ⟨N,0,none⟩=some (.string key)/\w'.cell? ⟨N,1,none⟩=some (.slice c l.length d)) (first|assumption|exact m.out _ za)
  (first
  | (go_at_call 276;refine(WK h _ [_,_,_] [_,_,_] _ F (f.trans za) za (by exact Blk.new _ [_,_,_] _) ⟨v.still (Still.of_nil (p.trans j)),y.still (Still.of_nil j),z,trivial⟩ (by simp) k _ rfl).mono ?_;rintro e X ⟨rfl,g⟩;have V:=m.out X g)
  | (go_at_call 288;refine(OI E _ l M u _ za (s.out _ (b.trans za))).mono ?_;rintro e F ⟨b4,I,rfl,z,j⟩;have f:=b.trans j;have T:=m.out F f)
  | (go_at_call 284;refine(Tq D _ (by omega) _ za).mono ?_;rintro e E ⟨b3,rfl,y,p⟩;have b:=o.trans p;have R:=m.out E b)
  | (go_at_call 277;refine(Yp h 2 (by omega) _ za _ rfl).mono ?_;rintro e D ⟨Y,rfl,v,o⟩;have Q:=m.out D o))
 go_wp2
 go_ret;exact⟨by simp[XY],i.trans g⟩
theorem RP(c:Nat)(a:ByteArray)(u:c<9223372036854775808)(C:a.size<1000000000)(w:World) :
 Calls Tryz.prog 282 #[.agg #[.int .i64 c,.string a]] w fun e w'=>e=.returned (.string (zo (Wt c a)))/\Fr Nil w w':=by
 have b:Blk (w.alloc (.cells #[.int .i64 c,.string a] 138)) w.heap.size [.int .i64 c,.string a] 138:=Blk.new w [.int .i64 c,.string a] _;have l:Fr Nil w (w.alloc (.cells #[.int .i64 c,.string a] 138)):=(O _ _).alloc _;have i:([zi 3,zi c,Za a.data.toList]:List (List UInt8)).flatten.length<=500000000000:=by
  have M:=zG (n:=a.size) (by omega);have Q:=zG (n:=3) (by omega);have R:=zG u;simp[Za];omega
 go_enter Tryz.func282,Tryz.ntmps282;go_wp2_with fail;obtain⟨N,t⟩:∃ N,w.heap.size=N:=⟨_,rfl⟩;obtain⟨j,p⟩:∃ j,w.alloc (.cells #[.int .i64 c,.string a] 138)=j:=⟨_,rfl⟩;rw[t] at b |-;rw[p] at b l |-;clear p t;have z:j.cell? ⟨N,0,none⟩=some (.int .i64 c):=by rw[b.cell];rfl
 have A:j.cell? ⟨N,1,none⟩=some (.string a):=by rw[b.cell];rfl
 have k:Hid (∀ w',Fr Nil j w'->w'.cell? ⟨N,0,none⟩=some (.int .i64 c)/\w'.cell? ⟨N,1,none⟩=some (.string a)):=by
  intro w' B;have:=(b.fr B id).cell;exact⟨by rw[this];rfl,by rw[this];rfl⟩
 clear b
 go_region_held3 (fun w'=>w'.cell? ⟨N,0,none⟩=some (.int .i64 c)/\w'.cell? ⟨N,1,none⟩=some (.string a)) (first|assumption|exact k.out _ za)
  (first
  | (go_at_call 276;refine(WK j _ [_,_,_] [_,_,_] _ y (f.trans za) za (by exact Blk.new _ [_,_,_] _) ⟨q.still (Still.of_nil (o.trans h)),r.still (Still.of_nil h),s,trivial⟩ (by simp) i _ rfl).mono ?_;rintro e I ⟨rfl,g⟩;have G:=k.out I g)
  | (go_at_call 284;refine(Tq x _ (by omega) _ za).mono ?_;rintro e y ⟨L,rfl,s,h⟩;have f:=d.trans h;have F:=k.out y f)
  | (go_at_call 277;refine(Yp v c u _ za _ rfl).mono ?_;rintro e x ⟨K,rfl,r,o⟩;have d:=m.trans o;have E:=k.out x d)
  | (go_at_call 277;refine(Yp j 3 (by omega) _ za _ rfl).mono ?_;rintro e v ⟨J,rfl,q,m⟩;have D:=k.out v m))
 go_wp2
 go_ret;exact⟨by simp[Wt],l.trans g⟩
theorem QX(w:World) :
 Calls Tryz.prog 274 #[.agg #[]] w fun e w'=>e=.returned (.string (zo Vc))/\Fr Nil w w':=by
 have b:Fr Nil w (w.alloc (.cells #[] 135)):=(O _ _).alloc _;have a:([zi 4]:List (List UInt8)).flatten.length<=500000000000:=by
  have i:=zG (n:=4) (by omega);simp;omega
 go_enter Tryz.func274,Tryz.ntmps274;go_wp2_with fail;refine(Yp w 4 (by omega) _ b _ rfl).mono ?_;rintro e g ⟨h,rfl,f,c⟩;go_wp2_with fail;refine(WK w _ [_] [_] _ g (c.trans za) za (by exact Blk.new _ [_] _) ⟨f,trivial⟩ (by simp) a _ rfl).mono ?_;rintro e j ⟨rfl,d⟩
 go_wp2
 go_ret;exact⟨by simp[Vc],d⟩
def Src(w:World)(b:Nat)(c:List UInt8)(a:Bool):Prop:=Blk w b [.string (zo c),.bool a] 276
theorem Mi(a:List UInt8):(zo a).size=a.length:=rfl
theorem VP(a:List UInt8)(i j:Nat):(zo a).extract i j=zo ((a.drop i).take (j-i)):=by
 apply EY
 apply EN
 simp[zo]
theorem UE(b:Nat)(g:List UInt8)(c:Bool)(w:World)(h:Src w b g c) :
 Calls Tryz.prog 153 #[.pointer (some ⟨b,0,none⟩)] w fun e d=>e=.returned (.tuple #[])/\Src d b [] true/\Fr (fun k=>k=b) w d:=by
 have i:=h.cell;have j:=h.frozen;have a:Src ((w.setCell ⟨b,0,none⟩ (.string (zo []))).setCell ⟨b,1,none⟩ (.bool true)) b [] true/\Fr (fun k=>k=b) w ((w.setCell ⟨b,0,none⟩ (.string (zo []))).setCell ⟨b,1,none⟩ (.bool true)) :=
  ⟨(Blk.set h 0 _).set 1 _,Fr.set (S:=fun k=>k=b) (Fr.set (S:=fun k=>k=b) (O _ _) (fun _=>rfl) _) (fun _=>rfl) _⟩
 have f:=Z a;clear a h;go_enter Tryz.func153,Tryz.ntmps153
 go_wp2
 exact GC (v:=.tuple #[]) (by simp[results,go_sem]) rfl ⟨rfl,f.out⟩
theorem UF(b:Nat)(c:List UInt8)(a:Bool)(w:World)(h:Src w b c a) :
 Calls Tryz.prog 192 #[.pointer (some ⟨b,0,none⟩)] w fun e d=>e=.returned (.int .i64 c.length)/\Fr Nil w d:=by
 have f:=h.cell;clear h;go_enter Tryz.func192,Tryz.ntmps192
 go_wp2
 go_ret;exact⟨rfl,O _ _⟩
theorem XZ(n b:Nat)(a:List UInt8)(c:Bool)(w:World)(h:Src w b a c)(j:n<=a.length) :
 Calls Tryz.prog 193 #[.pointer (some ⟨b,0,none⟩),.int .i64 n] w fun e f=>e=.returned (.string (zo (a.take n)))/\Src f b (a.drop n) c/\Fr (fun k=>k=b) w f:=by
 have i:=h.cell;have l:=h.frozen;have hs:(zo a).size=a.length:=rfl;have d:Hid ((zo a).extract 0 n=zo (a.take n)/\(zo a).extract n a.length=zo (a.drop n)) :=
  ⟨by rw[VP];simp,by rw[VP,Hn (by simp)]⟩
 have g:Hid (Src (w.setCell ⟨b,0,none⟩ (.string (zo (a.drop n)))) b (a.drop n) c/\Fr (fun k=>k=b) w (w.setCell ⟨b,0,none⟩ (.string (zo (a.drop n))))) :=
  ⟨Blk.set h 0 _,Fr.set (S:=fun k=>k=b) (O _ _) (fun _=>rfl) _⟩
 clear h;go_enter Tryz.func193,Tryz.ntmps193;go_wp2_with fail;go_ret;rw[d.out.1,d.out.2];exact⟨rfl,g.out⟩
theorem Ri(n b:Nat)(c:List UInt8)(a:Bool)(w:World)(h:Src w b c a)(j:c.length<n) :
 Calls Tryz.prog 193 #[.pointer (some ⟨b,0,none⟩),.int .i64 n] w fun e f=>e=.returned (.string (zo []))/\Src f b [] true/\Fr (fun k=>k=b) w f:=by
 have i:=h.cell;have l:=h.frozen;have hs:(zo c).size=c.length:=rfl;have g:=Z h;clear h;go_enter Tryz.func193,Tryz.ntmps193
 go_wp2_with (refine(UE b c a w g.out).mono ?_;rintro e m ⟨rfl,d⟩)
 go_ret;exact⟨rfl,d⟩
def ZS(i a:Nat):List UInt8->Option (Nat × List UInt8)
 | []=>none
 | c::b=>if 9<=i then none else if c.toNat<128 then some (a+c.toNat*128^i,b) else ZS (i+1) (a+(c.toNat%128)*128^i) b
theorem Tr:∀ n<128,(UInt8.ofNat n).toNat=n:=by decide
theorem Mj(r:List UInt8):∀ (n i c:Nat),0<i->0<n->n*128^i<9223372036854775808->ZS i c (zi n++r)=some (c+n*128^i,r):=by
 intro n
 induction n using Nat.strongRecOn with
 | ind n j =>
  intro i c l g h;have d:¬9<=i:=by
   intro d;have:128^9<=128^i:=Nat.pow_le_pow_right (by omega) d;have k:1*128^i<=n*128^i:=Hv _ g;simp only[Nat.reducePow] at this;omega
  by_cases a:n<128
  .rw[YP a]
   simp only[IY,Hd,ZS];rw[IV d,Tr n a,He a]
  .rw[Xh a]
   have e:(UInt8.ofNat (n%128+128)).toNat=n%128+128:=by simp;omega
   simp only[IY,ZS];rw[IV d,e,IV (by omega)];have b:128^(i+1)=128^i*128:=CR ..;have f:n / 128*(128^i*128)+n%128*128^i=n*128^i:=by
    rw[Nat.mul_comm (128^i) 128,<- Nat.mul_assoc,<- Fe,Nat.mul_comm (n / 128) 128,Nat.div_add_mod]
   rw[j (n / 128) (by omega) (i+1) _ (by omega) (by omega) (by rw[b];omega),b]
   congr 2
   rw[show(n%128+128)%128=n%128 by omega];omega
theorem QY(n:Nat)(r:List UInt8)(c:n<9223372036854775808):ZS 0 0 (zi n++r)=some (n,r):=by
 by_cases a:n<128
 .rw[YP a]
  simp only[IY,Hd,ZS];rw[IV (by omega),Tr n a,He a];simp
 .rw[Xh a]
  have b:(UInt8.ofNat (n%128+128)).toNat=n%128+128:=by simp;omega
  simp only[IY,ZS];rw[IV (by omega),b,IV (by omega),Mj r (n / 128) 1 _ (by omega) (by omega) (by omega)]
  congr 2
  omega
theorem Mk:∀(n i d:Nat)(p:List UInt8),p<+:zi n->p≠zi n->ZS i d p=none:=by
 intro n
 induction n using Nat.strongRecOn with
 | ind n k =>
  intro i d p g a;rcases p with-| ⟨c,p⟩
  .rfl
  by_cases f:n<128
  .rw[YP f] at g a
   obtain⟨t,b⟩:=g;simp at b;exact absurd (by rw[b.1,b.2.1]) a
  .rw[Xh f] at g a
   obtain⟨t,b⟩:=g;simp only[IY,CF] at b;obtain⟨rfl,b⟩:=b;have j:(UInt8.ofNat (n%128+128)).toNat=n%128+128:=by simp;omega
   simp only[ZS];by_cases h:9<=i
   .rw[He h]
   .rw[IV h,j,IV (by omega)]
    exact k (n / 128) (by omega) _ _ p ⟨t,b⟩ (fun e=>a (by rw[e]))
theorem NR(i a m:Nat)(d:i<9)(b:a<128^i)(hm:m<128):bits .or .u64 (a:Int) (IntKind.u64.wrap ((m:Int)*2^(i*7)))=((a+m*128^i:Nat):Int)/\a+m*128^i<128^(i+1)/\a+m*128^i<9223372036854775808:=by
 have c:i=0\/i=1\/i=2\/i=3\/i=4\/i=5\/i=6\/i=7\/i=8:=by omega
 rcases c with rfl|rfl|rfl|rfl|rfl|rfl|rfl|rfl|rfl
 all_goals
  simp only[Nat.reducePow,Nat.reduceMul,Nat.reduceAdd,Int.reducePow] at b |-;refine⟨?_,by omega,by omega⟩;rw[EC _ (by omega) (by omega)]
 .exact(FU .u64 64 (by decide) EC 0 _ _ (by omega) (by omega) (by omega) (by omega) (by omega) (by omega)).trans (by omega)
 .exact(FU .u64 64 (by decide) EC 7 _ _ (by omega) (by omega) (by omega) (by omega) (by omega) (by omega)).trans (by omega)
 .exact(FU .u64 64 (by decide) EC 14 _ _ (by omega) (by omega) (by omega) (by omega) (by omega) (by omega)).trans (by omega)
 .exact(FU .u64 64 (by decide) EC 21 _ _ (by omega) (by omega) (by omega) (by omega) (by omega) (by omega)).trans (by omega)
 .exact(FU .u64 64 (by decide) EC 28 _ _ (by omega) (by omega) (by omega) (by omega) (by omega) (by omega)).trans (by omega)
 .exact(FU .u64 64 (by decide) EC 35 _ _ (by omega) (by omega) (by omega) (by omega) (by omega) (by omega)).trans (by omega)
 .exact(FU .u64 64 (by decide) EC 42 _ _ (by omega) (by omega) (by omega) (by omega) (by omega) (by omega)).trans (by omega)
 .exact(FU .u64 64 (by decide) EC 49 _ _ (by omega) (by omega) (by omega) (by omega) (by omega) (by omega)).trans (by omega)
 .exact(FU .u64 64 (by decide) EC 56 _ _ (by omega) (by omega) (by omega) (by omega) (by omega) (by omega)).trans (by omega)
theorem LB(i a:Nat)(c:UInt8)(f:i<9)(b:a<128^i) :
 bits .or .u64 (a:Int) (IntKind.u64.wrap (IntKind.u64.wrap (bits .and .u8 (c.toNat:Int) 127)*2^(i*7)))=((a+c.toNat%128*128^i:Nat):Int):=by
 have g:c.toNat<256:=UInt8.toNat_lt c;have e:bits .and .u8 (c.toNat:Int) 127=((c.toNat%128:Nat):Int):=(bits_mask .u8 8 (by decide) wraps_u8 7 (by decide) (c.toNat:Int) (by omega) (by omega)).trans (by omega);have d:IntKind.u64.wrap ((c.toNat%128:Nat):Int)=((c.toNat%128:Nat):Int):=EC _ (by omega) (by omega);rw[e,d];exact(NR i a (c.toNat%128) f b (by omega)).1
theorem Ml{n:Nat}(h:n<9223372036854775808):wrap64 (n:Int)=n:=by unfold wrap64;omega
def Io(R:Option (Nat × List UInt8))(b:Nat)(c:Bool)(w:World)(e:Ending)(a:World):Prop :=
 match R with
 | some (n,r)=>e=.returned (.int .i64 n)/\Src a b r c/\Fr (fun k=>k=b) w a
 | none=>e=.returned (.int .i64 0)/\Src a b [] true/\Fr (fun k=>k=b) w a
theorem Wx(b:Nat)(B:List UInt8)(f:Bool)(w:World)(h:Src w b B f)(q:f=true->B=[]) :
 Calls Tryz.prog 149 #[.pointer (some ⟨b,0,none⟩)] w fun e D=>Io (ZS 0 0 B) b f w e D:=by
 generalize m:ZS 0 0 B=R;have N:=Z m;have M:=Z h;have L:=Z q;clear m h q;go_enter Tryz.func149,Tryz.ntmps149;go_wp2_with fail
 go_loopw [3,4] (fun S G D=>∃ (i d:Nat) (l:List UInt8),S=.int .u64 d/\G=.int .i64 ((i*7:Nat):Int)/\i<=9/\d<128^i/\ZS i d l=R/\Src D b l f/\(f=true->l=[])/\Fr (fun k=>k=b) w D) (fun _ G _=>(63-intOf G).toNat)
 case atStart=>exact⟨0,0,B,rfl,rfl,by omega,by simp,N.out,M.out,L.out,O _ _⟩
 case round =>
  obtain⟨i,d,l,rfl,rfl,V,j,m,t,x,C⟩:=hrel;by_cases Q:i=9
  .subst Q
   have o:R=none:=by rw[<- m];cases l <;> simp[ZS]
   have r:=Z o;have v:=Z t;clear t x m j o
   go_wp2_with (refine(UE b l f wr v.out).mono ?_;rintro e I ⟨rfl,a⟩)
   go_ret;rw[r.out];exact⟨rfl,a.1,C.trans a.2⟩
  have z:i<9:=by omega
  rcases l with-| ⟨c,l⟩
  .have o:R=none:=by rw[<- m];simp[ZS]
   have r:=Z o;have v:=Z t;clear t x m j o
   go_wp2_with (refine(Ri 1 b [] f wr v.out (by simp)).mono ?_;rintro e I ⟨rfl,a,g⟩;have y:=a.cell;have p:=Z (And.intro a g);clear a g)
   go_ret;rw[r.out];exact⟨rfl,p.out.1,C.trans p.out.2⟩
  have E:f=false:=by cases f with|false=>rfl|true=>simp at x
  subst E;have v:=Z t;have K:=Z (LB i d c z j);have J:=Z (NR i d (c.toNat%128) z j (DU _ (by omega)));have F:0<(zo [c]).size:=by show 0<1;omega
  have T:((zo [c])[0]'F).toNat=c.toNat:=rfl;by_cases u:c.toNat<128
  .have hRs:R=some (d+c.toNat%128*128^i,l):=by rw[<- m];simp only[ZS];rw[IV (by omega),He u,Nat.mod_eq_of_lt u]
   have s:=Z hRs;clear t x m hRs
   go_wp2_with (refine(XZ 1 b (c::l) false wr v.out (by simp)).mono ?_;rintro e I ⟨rfl,a,g⟩;have y:=a.cell;have p:=Z (And.intro a g);clear a g)
   go_ret;rw[s.out];have A:=J.out.2.2;exact⟨by rw[K.out,Ml A];rfl,p.out.1,C.trans p.out.2⟩
  .have hRs:ZS (i+1) (d+c.toNat%128*128^i) l=R:=by rw[<- m];simp only[ZS];rw[IV (by omega),IV u]
   have s:=Z hRs;clear t x m hRs
   go_wp2_with (refine(XZ 1 b (c::l) false wr v.out (by simp)).mono ?_;rintro e I ⟨rfl,a,g⟩;have y:=a.cell;have p:=Z (And.intro a g);clear a g)
   refine⟨⟨i+1,d+c.toNat%128*128^i,l,by rw[K.out],by go_num,by omega,J.out.2.1,s.out,p.out.1,by simp,C.trans p.out.2⟩,?_⟩;simp[intOf];omega
end Go.Proofs.YtkhnggkkiefcdaaGreatDoor
