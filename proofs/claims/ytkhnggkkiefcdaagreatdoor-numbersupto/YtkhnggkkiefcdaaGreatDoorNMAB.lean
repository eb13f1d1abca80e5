/- larder: joined texts -/
import Derived.Test.YtkhnggkkiefcdaaGreatDoorNMAA
import Derived.Test.YtkhnggkkiefcdaaGreatDoorChecked
import Derived.Lib.EndianBits
namespace Go.Proofs.YtkhnggkkiefcdaaGreatDoor
open Go.RowKit
set_option maxRecDepth 100000
set_option maxHeartbeats 8000000
abbrev Fq:=@Go.bits_join_low
abbrev FU:=@Go.wraps_u64
structure FM where
 bytes:List UInt8
 safe:Nat
abbrev Dir:=List (ByteArray × Nat)
structure DM where
 dir:Dir
 safe:Dir
 CD:List Dir
 file:Nat->FM
 ids:List Nat
 room:Int
 calls:Int
 cut:Int
 fail:Int
 part:Int
 refused:Int
 CG:Int
 dead:Bool
structure DL where
 Be:Value
 CS:Value
 BM:Value
 CW:List Value
 fV:Nat->Value
def flat(d:Dir):List Value:=d.flatMap fun e=>[.string e.1,.pointer (some ⟨e.2,0,none⟩)]
theorem PS(d:Dir):(flat d).length=d.length*2:=by
 induction d with
 | nil=>rfl
 | cons e d a=>simp only[flat,Gb,JR,Ih,IR] at a |-;omega
theorem Zx(d:Dir):∀ (k:Nat)(h:k<d.length),(flat d)[k*2]?=some (.string d[k].1)/\(flat d)[k*2+1]?=some (.pointer (some ⟨d[k].2,0,none⟩)):=by
 induction d with
 | nil=>intro k h;simp at h
 | cons e d b =>
  intro k h;cases k with
  | zero=>exact⟨rfl,rfl⟩
  | succ k =>
   have:=b k (by simpa using h);have a:(k+1)*2=k*2+2:=by omega
   simp only[flat,Gb,a] at this |-;exact this
def zO(d:Dir)(a:ByteArray):Int :=
 match d.findIdx? (fun e=>e.1==a) with
 | some i=>i
 | none=>-1
theorem MC(d:Dir)(a:ByteArray)(k:Nat)(g:k<d.length)(c:∀ j (b:j<d.length),j<k->(d[j].1==a)=false)(f:(d[k].1==a)=true) :
 zO d a=k:=by
 have:d.findIdx? (fun e=>e.1==a)=some k:=by
  rw[GV];exact⟨g,f,fun j b=>by have:=c j (by omega) b;simpa using this⟩
 simp[zO,this]
theorem Nc(d:Dir)(a:ByteArray)(c:∀ j (b:j<d.length),(d[j].1==a)=false):zO d a=-1:=by
 have:d.findIdx? (fun e=>e.1==a)=none:=by
  rw[List.findIdx?_eq_none_iff];intro x f;obtain⟨j,b,rfl⟩:=GK f;exact c j b
 simp[zO,this]
theorem Jv{k:IntKind}{a b:Int}(h:a=b):Ending.returned (.int k a)=.returned (.int k b):=by rw[h]
theorem Ta(v:Value)(d:Dir)(b:ByteArray)(w:World)(h:w.ownsRow 0 148 2 v d.length (flat d)) :
 Calls Tryz.prog 87 #[v,.string b] w fun e u=>e=.returned (.int .i64 (zO d b))/\Fr Nil w u:=by
 have B:=zH h;unfold maxLen at B;obtain⟨a,p,rfl⟩:=zg h;go_enter Tryz.func87,Tryz.ntmps87
 go_wp2
 go_loopw [8] (fun t u=>∃ k:Nat,k<=d.length/\t=.int .i64 k/\(∀ j (c:j<d.length),j<k->(d[j].1==b)=false)/\Fr Nil w u) (fun t _=>d.length-(intOf t).toNat)
 case atStart=>exact⟨0,Iq _,rfl,fun j _ c=>absurd c (IY _),U _ _⟩
 case round =>
  obtain⟨k,E,rfl,c,o⟩:=hrel;by_cases l:k<d.length
  .obtain⟨g,rfl⟩:∃ g,a=some ⟨g,0,none⟩:=by
    rcases h.2 with⟨q,C⟩|⟨g,p,y,q,_⟩
    .omega
    .simp at q;exact⟨g,q.1⟩
   have D:=own_cell? (ze h o (fun _ _=>id)) (k*2) _ (Zx d k l).1;have m:=fFS d[k].1 b;cases hm:(d[k].1==b) with
   | true =>
    have r:(d[k].1.toList==b.toList)=true:=by rw[<- m];exact hm
    clear m;have s:=MC d b k l c hm;clear hm c
    go_wp2
    go_ret;exact⟨Jv s.symm,o⟩
   | false =>
    have r:(d[k].1.toList==b.toList)=false:=by rw[<- m];exact hm
    clear m;have i:∀ j (c:j<d.length),j<k+1->(d[j].1==b)=false:=by
     intro j f A;by_cases e:j=k
     .subst e;exact hm
     .exact c j f (by omega)
    clear hm c;have x:=Z i;clear i
    go_wp2
    exact⟨⟨k+1,by omega,by go_num,x.out,o⟩,by simp[intOf];omega⟩
  .have s:=Nc d b (fun j f=>c j f (by omega))
   clear c
   go_wp2
   go_ret;exact⟨Jv s.symm,o⟩
def DM.cells(L:DL)(M:DM):List Value :=
 [L.Be,L.CS,L.BM,.int .i64 M.room,.int .i64 M.calls,.int .i64 M.cut,.int .i64 M.fail,.int .i64 M.part,.int .i64 M.refused,.int .i64 M.CG,.bool M.dead]
structure DRep(w:World)(b:Nat)(L:DL)(M:DM):Prop where
 CB:Blk w b (M.cells L) 143
 dir:w.ownsRow 0 148 2 L.Be M.dir.length (flat M.dir)
 safe:w.ownsRow 0 148 2 L.CS M.safe.length (flat M.safe)
 ch:w.ownsRow 0 145 1 L.BM M.CD.length L.CW
 BJ:L.CW.length=M.CD.length
 CD:∀ i (h1:i<L.CW.length) (h2:i<M.CD.length),w.ownsRow 0 148 2 L.CW[i] M.CD[i].length (flat M.CD[i])
 files:∀ f,f∈M.ids->Blk w f [L.fV f,.int .i64 (M.file f).safe] 152
 rows:∀ f,f∈M.ids->w.ownsRow 0 5 1 (L.fV f) (M.file f).bytes.length (u8s (M.file f).bytes)
 sep:∀ f,f∈M.ids->∀ g,g∈M.ids->f≠g->∀ k,(L.fV f).ownBlock=some k->(L.fV g).ownBlock≠some k
 le:∀ f,f∈M.ids->(M.file f).safe<=(M.file f).bytes.length
 Bq:∀ e,e∈M.dir->e.2∈M.ids
 Ai:∀ e,e∈M.safe->e.2∈M.ids
 Aj:∀ d,d∈M.CD->∀ e,e∈d->e.2∈M.ids
def Foot(b:Nat)(L:DL)(M:DM)(k:Nat):Prop :=
 k=b\/L.Be.ownBlock=some k\/L.CS.ownBlock=some k\/L.BM.ownBlock=some k
  \/ (∃ (i:Nat) (_:i<L.CW.length),L.CW[i].ownBlock=some k)\/k∈M.ids\/(∃ f,f∈M.ids/\(L.fV f).ownBlock=some k)
theorem Foot.CB{b:Nat}{L:DL}{M:DM}:Foot b L M b:=.inl rfl
theorem Foot.dir{b:Nat}{L:DL}{M:DM}{k:Nat}(h:L.Be.ownBlock=some k):Foot b L M k:=.inr (.inl h)
theorem Foot.safe{b:Nat}{L:DL}{M:DM}{k:Nat}(h:L.CS.ownBlock=some k):Foot b L M k:=.inr (.inr (.inl h))
theorem Foot.ch{b:Nat}{L:DL}{M:DM}{k:Nat}(h:L.BM.ownBlock=some k):Foot b L M k:=.inr (.inr (.inr (.inl h)))
theorem Foot.CD{b:Nat}{L:DL}{M:DM}{k:Nat}(i:Nat)(a:i<L.CW.length)(h:L.CW[i].ownBlock=some k):Foot b L M k:=.inr (.inr (.inr (.inr (.inl ⟨i,a,h⟩))))
theorem Foot.file{b:Nat}{L:DL}{M:DM}{k:Nat}(h:k∈M.ids):Foot b L M k:=.inr (.inr (.inr (.inr (.inr (.inl h)))))
theorem Foot.row{b:Nat}{L:DL}{M:DM}{k:Nat}(f:Nat)(a:f∈M.ids)(h:(L.fV f).ownBlock=some k):Foot b L M k:=.inr (.inr (.inr (.inr (.inr (.inr ⟨f,a,h⟩)))))
theorem Foot.elim{b:Nat}{L:DL}{M:DM}{motive:(k:Nat)->Foot b L M k->Prop}(blk:motive b .CB)
 (dir:∀ {k:Nat}(h:L.Be.ownBlock=some k),motive k (.dir h))(safe:∀ {k:Nat}(h:L.CS.ownBlock=some k),motive k (.safe h))
 (ch:∀ {k:Nat}(h:L.BM.ownBlock=some k),motive k (.ch h))
 (chs:∀ {k:Nat}(i:Nat)(h1:i<L.CW.length)(h:L.CW[i].ownBlock=some k),motive k (.CD i h1 h))
 (file:∀ {k:Nat}(h:k∈M.ids),motive k (.file h))(row:∀ {k:Nat}(f:Nat)(hf:f∈M.ids)(h:(L.fV f).ownBlock=some k),motive k (.row f hf h))
 {k:Nat}(h:Foot b L M k):motive k h:=by
 rcases id h with e|e|e|e|⟨i,h1,e⟩|e|⟨f,hf,e⟩
 .subst e;exact blk
 .exact dir e
 .exact safe e
 .exact ch e
 .exact chs i h1 e
 .exact file e
 .exact row f hf e
theorem DRep.lt{w:World}{b:Nat}{L:DL}{M:DM}(h:DRep w b L M){k:Nat}(g:Foot b L M k):k<w.heap.size:=by
 cases g using Foot.elim with
 | blk=>exact h.CB.lt
 | dir e=>exact Zi h.dir e
 | safe e=>exact Zi h.safe e
 | ch e=>exact Zi h.ch e
 | chs i a e=>exact Zi (h.CD i a (by rw[<- h.BJ];exact a)) e
 | file e=>exact(h.files k e).lt
 | row f c e=>exact Zi (h.rows f c) e
theorem DRep.fr{w w':World}{b:Nat}{L:DL}{M:DM}{S:Nat->Prop}(h:DRep w b L M)(f:Fr S w w')(a:∀ k,Foot b L M k->¬S k):DRep w' b L M where
 CB:=h.CB.fr f (a _ .CB)
 dir:=ze h.dir f fun _ e=>a _ (.dir e)
 safe:=ze h.safe f fun _ e=>a _ (.safe e)
 ch:=ze h.ch f fun _ e=>a _ (.ch e)
 BJ:=h.BJ
 CD:=fun i o q=>ze (h.CD i o q) f fun _ e=>a _ (.CD i o e)
 files:=fun g c=>(h.files g c).fr f (a _ (.file c))
 rows:=fun g c=>ze (h.rows g c) f fun _ e=>a _ (.row g c e)
 sep:=h.sep
 le:=h.le
 Bq:=h.Bq
 Ai:=h.Ai
 Aj:=h.Aj
theorem DRep.own{w w':World}{b:Nat}{L:DL}{M M':DM}(h:DRep w b L M)(y:Blk w' b (M'.cells L) 143)(f:Fr (fun k=>k=b) w w')
 (q:M'.dir=M.dir)(r:M'.safe=M.safe)(m:M'.CD=M.CD)(o:M'.file=M.file)(c:M'.ids=M.ids):DRep w' b L M' where
 CB:=y
 dir:=by rw[q];exact ze h.dir f fun _ e a=>by subst a;exact zi h.dir h.CB (by decide) e
 safe:=by rw[r];exact ze h.safe f fun _ e a=>by subst a;exact zi h.safe h.CB (by decide) e
 ch:=by rw[m];exact ze h.ch f fun _ e a=>by subst a;exact zi h.ch h.CB (by decide) e
 BJ:=by rw[m];exact h.BJ
 CD:=by
  rw[m];exact fun i t u=>ze (h.CD i t u) f fun _ e a=>by subst a;exact zi (h.CD i t u) h.CB (by decide) e
 files:=by rw[o,c];exact fun g j=>(h.files g j).fr f ((h.files g j).ne h.CB (by decide))
 rows:=by rw[o,c];exact fun g j=>ze (h.rows g j) f fun _ e a=>by subst a;exact zi (h.rows g j) h.CB (by decide) e
 sep:=by rw[c];exact h.sep
 le:=by rw[o,c];exact h.le
 Bq:=by rw[q,c];exact h.Bq
 Ai:=by rw[r,c];exact h.Ai
 Aj:=by rw[m,c];exact h.Aj
def DM.Cz(M:DM):Bool × Int × DM :=
 let c:=wrap64 (M.calls+1)
 if M.dead=true then(false,9,{M with calls:=c,refused:=wrap64 (M.refused+1)})
 else if (c==M.cut)=true then(true,9,{M with calls:=c,refused:=wrap64 (M.refused+1),dead:=true})
 else if (c==M.fail)=true then(false,9,{M with calls:=c,refused:=wrap64 (M.refused+1)})
 else(true,0,{M with calls:=c})
theorem DM.Aw(M:DM)(a:M.dead=true):M.Cz=(false,9,{M with calls:=wrap64 (M.calls+1),refused:=wrap64 (M.refused+1)}):=by
 simp[DM.Cz,a]
theorem DM.AE(M:DM)(b:M.dead=false)(a:(wrap64 (M.calls+1)==M.cut)=true) :
 M.Cz=(true,9,{M with calls:=wrap64 (M.calls+1),refused:=wrap64 (M.refused+1),dead:=true}):=by
 simp[DM.Cz,b,a]
theorem DM.As(M:DM)(c:M.dead=false)(a:(wrap64 (M.calls+1)==M.cut)=false)(b:(wrap64 (M.calls+1)==M.fail)=true) :
 M.Cz=(false,9,{M with calls:=wrap64 (M.calls+1),refused:=wrap64 (M.refused+1)}):=by
 simp[DM.Cz,c,a,b]
theorem DM.AX(M:DM)(c:M.dead=false)(a:(wrap64 (M.calls+1)==M.cut)=false)(b:(wrap64 (M.calls+1)==M.fail)=false) :
 M.Cz=(true,0,{M with calls:=wrap64 (M.calls+1)}):=by
 simp[DM.Cz,c,a,b]
theorem Nd(w:World)(b:Nat)(L:DL)(M:DM)(h:Blk w b (M.cells L) 143) :
 Calls Tryz.prog 209 #[.pointer (some ⟨b,0,none⟩)] w fun e f =>
  e=.returned (.tuple #[.bool M.Cz.1,.int .i64 M.Cz.2.1])/\Blk f b (M.Cz.2.2.cells L) 143/\Fr (fun k=>k=b) w f:=by
 have d:=h.cell;have g:=h.frozen;have a:=Z h;clear h;simp only[DM.cells] at d;cases hd:M.dead with
 | true =>
  rw[hd] at d;rw[M.Aw hd];have c:=Z hd;clear hd;go_enter DN,Dp
  go_wp2
  go_ret2;refine⟨rfl,?_,(by repeat' first|exact U _ _|(with_reducible assumption)|refine Fr.drewN ?_ _|refine Fr.drew ?_|refine Fr.alloc ?_ _|refine Fr.set ?_ ?_ _|(intro _;rfl))⟩;have:=(a.out.set 4 (.int .i64 (wrap64 (M.calls+1)))).set 8 (.int .i64 (wrap64 (M.refused+1)));exact this
 | false =>
  rw[hd] at d;cases h1:(wrap64 (M.calls+1)==M.cut) with
  | true =>
   rw[M.AE hd h1];have c:=Z hd;clear hd;go_enter DN,Dp
   go_wp2
   go_quiet (fail)
   go_wp2
   go_ret2;refine⟨rfl,?_,(by repeat' first|exact U _ _|(with_reducible assumption)|refine Fr.drewN ?_ _|refine Fr.drew ?_|refine Fr.alloc ?_ _|refine Fr.set ?_ ?_ _|(intro _;rfl))⟩;have:=((a.out.set 4 (.int .i64 (wrap64 (M.calls+1)))).set 8 (.int .i64 (wrap64 (M.refused+1)))).set 10 (.bool true);exact this
  | false =>
   cases h2:(wrap64 (M.calls+1)==M.fail) with
   | true =>
    rw[M.As hd h1 h2];have c:=Z hd;clear hd;go_enter DN,Dp
    go_wp2
    go_quiet (fail)
    go_wp2
    go_quiet (fail)
    go_wp2
    go_ret2;refine⟨rfl,?_,(by repeat' first|exact U _ _|(with_reducible assumption)|refine Fr.drewN ?_ _|refine Fr.drew ?_|refine Fr.alloc ?_ _|refine Fr.set ?_ ?_ _|(intro _;rfl))⟩;have:=(a.out.set 4 (.int .i64 (wrap64 (M.calls+1)))).set 8 (.int .i64 (wrap64 (M.refused+1)));exact this
   | false =>
    rw[M.AX hd h1 h2];have c:=Z hd;clear hd;go_enter DN,Dp
    go_wp2
    go_quiet (fail)
    go_wp2
    go_quiet (fail)
    go_wp2
    go_ret2;refine⟨rfl,?_,(by repeat' first|exact U _ _|(with_reducible assumption)|refine Fr.drewN ?_ _|refine Fr.drew ?_|refine Fr.alloc ?_ _|refine Fr.set ?_ ?_ _|(intro _;rfl))⟩;have:=a.out.set 4 (.int .i64 (wrap64 (M.calls+1)));exact this
theorem Qm(w:World)(b:Nat)(L:DL)(M:DM)(h:DRep w b L M) :
 Calls Tryz.prog 209 #[.pointer (some ⟨b,0,none⟩)] w fun e a =>
  e=.returned (.tuple #[.bool M.Cz.1,.int .i64 M.Cz.2.1])/\DRep a b L M.Cz.2.2/\Fr (fun k=>k=b) w a:=by
 refine(Nd w b L M h.CB).mono fun e a ⟨d,f,c⟩=>⟨d,?_,c⟩;refine h.own f c ?_ ?_ ?_ ?_ ?_ <;> (unfold DM.Cz;dsimp only;(repeat' split) <;> rfl)
def DM.new(a:Int):DM:={dir:=[],safe:=[],CD:=[],file:=fun _=>⟨[],0⟩,ids:=[],room:=a,calls:=0,cut:=0,fail:=0,part:=0,refused:=0,CG:=0,dead:=false}
def DL.new:DL:={Be:=.slice none 0 0,CS:=.slice none 0 0,BM:=.slice none 0 0,CW:=[],fV:=fun _=>.slice none 0 0}
theorem DRep.new{w:World}{b:Nat}{c:Int}(h:Blk w b ((DM.new c).cells DL.new) 143):DRep w b DL.new (DM.new c) where
 CB:=h
 dir:=IF w 0 _ _
 safe:=IF w 0 _ _
 ch:=IF w 0 _ _
 BJ:=rfl
 CD:=fun i a=>absurd a (IY _)
 files:=fun f a=>by cases a
 rows:=fun f a=>by cases a
 sep:=fun f a=>by cases a
 le:=fun f a=>by cases a
 Bq:=fun f a=>by cases a
 Ai:=fun f a=>by cases a
 Aj:=fun f a=>by cases a
theorem MD(a:Int)(w:World) :
 Calls Tryz.prog 50 #[.int .i64 a] w fun e b=>e=.returned (.pointer (some ⟨w.heap.size,0,none⟩))/\DRep b w.heap.size DL.new (DM.new a)/\Fr Nil w b/\b.heap.size=w.heap.size+1:=by
 go_enter Tryz.func50,Tryz.ntmps50
 go_wp2
 go_ret;exact⟨rfl,DRep.new (Blk.new _ _ _),(by repeat' first|exact U _ _|(with_reducible assumption)|refine Fr.drewN ?_ _|refine Fr.drew ?_|refine Fr.alloc ?_ _|refine Fr.set ?_ ?_ _|(intro _;rfl)),by simp⟩
theorem ZQ(w:World)(b:Nat)(L:DL)(M:DM)(h:DRep w b L M) :
 Calls Tryz.prog 38 #[.pointer (some ⟨b,0,none⟩)] w fun e c=>e=.returned (.bool M.dead)/\c=w:=by
 have a:=h.CB.cell;simp only[DM.cells] at a;go_enter Tryz.func38,Tryz.ntmps38
 go_wp2
 go_ret;exact⟨rfl,rfl⟩
theorem Wb(w:World)(b:Nat)(L:DL)(M:DM)(h:DRep w b L M) :
 Calls Tryz.prog 47 #[.pointer (some ⟨b,0,none⟩)] w fun e c=>e=.returned (.int .i64 M.refused)/\c=w:=by
 have a:=h.CB.cell;simp only[DM.cells] at a;go_enter Tryz.func47,Tryz.ntmps47
 go_wp2
 go_ret;exact⟨rfl,rfl⟩
def DM.Bl(M:DM)(n:Int):DM:={M with cut:=if 0<n then wrap64 (M.calls+n) else 0}
theorem WO(n:Int)(w:World)(b:Nat)(L:DL)(M:DM)(h:DRep w b L M) :
 Calls Tryz.prog 37 #[.pointer (some ⟨b,0,none⟩),.int .i64 n] w fun e d =>
  e=.returned (.tuple #[])/\DRep d b L (M.Bl n)/\Fr (fun k=>k=b) w d:=by
 have f:=h.CB.cell;have g:=h.CB.frozen;simp only[DM.cells] at f;have a:=Z h;clear h;by_cases c:0<n
 .have HM:Hid (M.Bl n={M with cut:=wrap64 (M.calls+n)}):=by simp[Hid,DM.Bl,c]
  go_enter Tryz.func37,Tryz.ntmps37
  go_wp2
  go_end0
  rw[HM.out];refine⟨rfl,a.out.own ?_ (by repeat' first|exact U _ _|(with_reducible assumption)|refine Fr.drewN ?_ _|refine Fr.drew ?_|refine Fr.alloc ?_ _|refine Fr.set ?_ ?_ _|(intro _;rfl)) rfl rfl rfl rfl rfl,(by repeat' first|exact U _ _|(with_reducible assumption)|refine Fr.drewN ?_ _|refine Fr.drew ?_|refine Fr.alloc ?_ _|refine Fr.set ?_ ?_ _|(intro _;rfl))⟩;have:=(a.out.CB.set 5 (.int .i64 0)).set 5 (.int .i64 (wrap64 (M.calls+n)));exact this
 .have HM:Hid (M.Bl n={M with cut:=0}):=by simp[Hid,DM.Bl,c]
  go_enter Tryz.func37,Tryz.ntmps37
  go_wp2
  go_end0
  rw[HM.out];refine⟨rfl,a.out.own ?_ (by repeat' first|exact U _ _|(with_reducible assumption)|refine Fr.drewN ?_ _|refine Fr.drew ?_|refine Fr.alloc ?_ _|refine Fr.set ?_ ?_ _|(intro _;rfl)) rfl rfl rfl rfl rfl,(by repeat' first|exact U _ _|(with_reducible assumption)|refine Fr.drewN ?_ _|refine Fr.drew ?_|refine Fr.alloc ?_ _|refine Fr.set ?_ ?_ _|(intro _;rfl))⟩;have:=(a.out.CB.set 5 (.int .i64 0));exact this
def DM.CY(M:DM)(n a:Int):DM:={M with fail:=if 0<n then wrap64 (M.calls+n) else 0,part:=if a<0 then wrap64 (-(wrap64 (a+1))) else a}
theorem Wj(n a:Int)(w:World)(b:Nat)(L:DL)(M:DM)(h:DRep w b L M) :
 Calls Tryz.prog 46 #[.pointer (some ⟨b,0,none⟩),.int .i64 n,.int .i64 a] w fun e g =>
  e=.returned (.tuple #[])/\DRep g b L (M.CY n a)/\Fr (fun k=>k=b) w g:=by
 have i:=h.CB.cell;have j:=h.CB.frozen;simp only[DM.cells] at i;have c:=Z h;clear h;by_cases d:0<n <;> by_cases f:a<0
 .have HM:Hid (M.CY n a={M with fail:=wrap64 (M.calls+n),part:=wrap64 (-(wrap64 (a+1)))}):=by simp[Hid,DM.CY,d,f]
  go_enter Ci,DO
  go_wp2
  go_end0
  rw[HM.out];refine⟨rfl,c.out.own ?_ (by repeat' first|exact U _ _|(with_reducible assumption)|refine Fr.drewN ?_ _|refine Fr.drew ?_|refine Fr.alloc ?_ _|refine Fr.set ?_ ?_ _|(intro _;rfl)) rfl rfl rfl rfl rfl,(by repeat' first|exact U _ _|(with_reducible assumption)|refine Fr.drewN ?_ _|refine Fr.drew ?_|refine Fr.alloc ?_ _|refine Fr.set ?_ ?_ _|(intro _;rfl))⟩;have:=(((c.out.CB.set 6 (.int .i64 0)).set 6 (.int .i64 (wrap64 (M.calls+n)))).set 7 (.int .i64 a)).set 7 (.int .i64 (wrap64 (-(wrap64 (a+1)))));exact this
 .have HM:Hid (M.CY n a={M with fail:=wrap64 (M.calls+n),part:=a}):=by simp[Hid,DM.CY,d,f]
  go_enter Ci,DO
  go_wp2
  go_end0
  rw[HM.out];refine⟨rfl,c.out.own ?_ (by repeat' first|exact U _ _|(with_reducible assumption)|refine Fr.drewN ?_ _|refine Fr.drew ?_|refine Fr.alloc ?_ _|refine Fr.set ?_ ?_ _|(intro _;rfl)) rfl rfl rfl rfl rfl,(by repeat' first|exact U _ _|(with_reducible assumption)|refine Fr.drewN ?_ _|refine Fr.drew ?_|refine Fr.alloc ?_ _|refine Fr.set ?_ ?_ _|(intro _;rfl))⟩;have:=(((c.out.CB.set 6 (.int .i64 0)).set 6 (.int .i64 (wrap64 (M.calls+n)))).set 7 (.int .i64 a));exact this
 .have HM:Hid (M.CY n a={M with fail:=0,part:=wrap64 (-(wrap64 (a+1)))}):=by simp[Hid,DM.CY,d,f]
  go_enter Ci,DO
  go_wp2
  go_end0
  rw[HM.out];refine⟨rfl,c.out.own ?_ (by repeat' first|exact U _ _|(with_reducible assumption)|refine Fr.drewN ?_ _|refine Fr.drew ?_|refine Fr.alloc ?_ _|refine Fr.set ?_ ?_ _|(intro _;rfl)) rfl rfl rfl rfl rfl,(by repeat' first|exact U _ _|(with_reducible assumption)|refine Fr.drewN ?_ _|refine Fr.drew ?_|refine Fr.alloc ?_ _|refine Fr.set ?_ ?_ _|(intro _;rfl))⟩;have:=(((c.out.CB.set 6 (.int .i64 0))).set 7 (.int .i64 a)).set 7 (.int .i64 (wrap64 (-(wrap64 (a+1)))));exact this
 .have HM:Hid (M.CY n a={M with fail:=0,part:=a}):=by simp[Hid,DM.CY,d,f]
  go_enter Ci,DO
  go_wp2
  go_end0
  rw[HM.out];refine⟨rfl,c.out.own ?_ (by repeat' first|exact U _ _|(with_reducible assumption)|refine Fr.drewN ?_ _|refine Fr.drew ?_|refine Fr.alloc ?_ _|refine Fr.set ?_ ?_ _|(intro _;rfl)) rfl rfl rfl rfl rfl,(by repeat' first|exact U _ _|(with_reducible assumption)|refine Fr.drewN ?_ _|refine Fr.drew ?_|refine Fr.alloc ?_ _|refine Fr.set ?_ ?_ _|(intro _;rfl))⟩;have:=(((c.out.CB.set 6 (.int .i64 0))).set 7 (.int .i64 a));exact this
def Dir.look(d:Dir)(a:ByteArray):Option Nat:=(d.find? fun e=>e.1==a).map (·.2)
theorem Yq(d:Dir)(a:ByteArray) :
 (zO d a=-1/\Dir.look d a=none)\/∃ k:Nat,∃ h:k<d.length,zO d a=k/\Dir.look d a=some d[k].2/\(d[k].1==a)=true:=by
 unfold zO Dir.look;cases hf:d.findIdx? (fun e=>e.1==a) with
 | none =>
  rw[List.findIdx?_eq_none_iff] at hf;refine .inl ⟨rfl,?_⟩;rw[FN.2 (fun x l=>by simpa using hf x l)]
  rfl
 | some k =>
  rw[GV] at hf;obtain⟨f,c,g⟩:=hf;refine .inr ⟨k,f,rfl,?_,c⟩;rw[(List.find?_eq_some_iff_getElem (xs:=d) (b:=d[k])).2 ⟨c,k,f,rfl,fun j i=>by simpa using g j i⟩]
  rfl
theorem Ym{v:Value}{d:Dir}{a:ByteArray}(c:zO d a=-1)(w:World)(h:w.ownsRow 0 148 2 v d.length (flat d)) :
 Calls Tryz.prog 87 #[v,.string a] w fun e g=>e=.returned (.int .i64 (-1))/\Fr Nil w g:=by
 have:=Ta v d a w h
 rwa [c] at this
theorem zT{v:Value}{d:Dir}{a:ByteArray}{k:Nat}(b:zO d a=k)(w:World)(h:w.ownsRow 0 148 2 v d.length (flat d)) :
 Calls Tryz.prog 87 #[v,.string a] w fun e c=>e=.returned (.int .i64 k)/\Fr Nil w c:=by
 have:=Ta v d a w h
 rwa [b] at this
def DM.size(M:DM)(a:ByteArray):Int × Int :=
 match M.dir.look a with
 | some f=>((M.file f).bytes.length,0)
 | none=>(0,11)
theorem DRep.entry{w:World}{b:Nat}{L:DL}{M:DM}(h:DRep w b L M){k:Nat}(j:k<M.dir.length) :
 ∃ g e n c,L.Be=.slice (some ⟨g,0,none⟩) M.dir.length e/\M.dir[k].2∈M.ids/\w.cell? ⟨g,k*2,none⟩=some (.string M.dir[k].1) /\
  w.cell? ⟨g,k*2+1,none⟩=some (.pointer (some ⟨M.dir[k].2,0,none⟩)) /\
  L.fV M.dir[k].2=.slice n (M.file M.dir[k].2).bytes.length c:=by
 obtain⟨g,e,m,_⟩:=zz h.dir (by omega);have i:=h.dir;rw[m] at i;have l:=h.Bq _ (Ia j);obtain⟨a,c,o⟩:=zg (h.rows _ l);exact⟨g,e,a,c,m,l,own_cell? i _ _ (Zx _ k j).1,own_cell? i _ _ (Zx _ k j).2,o⟩
theorem Tb(a:ByteArray)(w:World)(b:Nat)(L:DL)(M:DM)(h:DRep w b L M) :
 Calls Tryz.prog 188 #[.pointer (some ⟨b,0,none⟩),.string a] w fun e x =>
  e=.returned (.tuple #[.int .i64 (M.size a).1,.int .i64 (M.size a).2])/\Fr Nil w x:=by
 have i:=h.CB.cell;simp only[DM.cells] at i;have p:=Z h;have j:=zH h.dir;unfold maxLen at j;rcases Yq M.dir a with⟨d,f⟩|⟨k,v,d,f,_⟩
 .have HM:Hid (M.size a=(0,11)):=by simp[Hid,DM.size,f]
  have o:=Z d;clear h d f;go_enter Tryz.func188,Tryz.ntmps188
  go_wp2_with (go_at_call 87;refine(Ym o.out _ p.out.dir).mono ?_;rintro e y ⟨rfl,m⟩)
  go_ret2;rw[HM.out];exact⟨rfl,m⟩
 .have HM:Hid (M.size a=(((M.file M.dir[k].2).bytes.length:Int),(0:Int))):=by simp[Hid,DM.size,f]
  have o:=Z d;clear h d f;go_enter Tryz.func188,Tryz.ntmps188;go_wp2_with fail;refine(zT o.out _ p.out.dir).mono ?_;rintro e y ⟨rfl,m⟩;have l:=p.out.fr m (fun _ _=>id);clear i;have i:=l.CB.cell;simp only[DM.cells] at i;obtain⟨g,t,n,c,s,u,_,A,r⟩:=l.entry v;have q:=(l.files _ u).cell;rw[r] at q;rw[s] at i;clear r s l
  go_wp2
  go_ret2;rw[HM.out];exact⟨rfl,m⟩
def DM.BX(M:DM)(k:Nat):Int:=(M.dir.take k).foldl (fun n e=>wrap64 (n+(M.file e.2).bytes.length)) 0
def DM.used(M:DM):Int:=M.BX M.dir.length
theorem DM.At(M:DM)(k:Nat)(h:k<M.dir.length):M.BX (k+1)=wrap64 (M.BX k+(M.file M.dir[k].2).bytes.length):=by
 unfold DM.BX;rw[IG h,IQ]
 rfl
theorem Nf(w:World)(b:Nat)(L:DL)(M:DM)(h:DRep w b L M) :
 Calls Tryz.prog 41 #[.pointer (some ⟨b,0,none⟩)] w fun e p=>e=.returned (.int .i64 M.used)/\Fr Nil w p:=by
 have j:=h.CB.cell;simp only[DM.cells] at j;have d:=zH h.dir;unfold maxLen at d;obtain⟨a,u,o⟩:=zg h.dir;rw[o] at j;have q:=Z h;have s:=Z o;clear h o;go_enter Tryz.func41,Tryz.ntmps41
 go_wp2
 clear j
 go_loopw [3,11] (fun n t p=>∃ k:Nat,k<=M.dir.length/\t=.int .i64 k/\n=.int .i64 (M.BX k)/\Fr Nil w p) (fun _ t _=>M.dir.length-(intOf t).toNat)
 case atStart=>exact⟨0,Iq _,rfl,rfl,U _ _⟩
 case round =>
  obtain⟨k,y,rfl,rfl,m⟩:=hrel;have i:=q.out.fr m (fun _ _=>id);by_cases f:k<M.dir.length
  .obtain⟨g,cap',n,c,hv',hi,he,hp,hs⟩:=i.entry f
   rw[s.out] at hv';simp at hv';obtain⟨rfl,rfl⟩:=hv';have l:=(i.files _ hi).cell;rw[hs] at l;have r:=Z (M.At k f);have v:=(i.files _ hi).lt;have x:=Et _ _ he;clear hs i
   go_wp2
   exact⟨⟨k+1,by omega,by go_num,by rw[r.out],m.alloc _⟩,by simp[intOf];omega⟩
  .go_wp2
   go_ret;have:k=M.dir.length:=by omega
   subst this;exact⟨rfl,m⟩
def zp(l:List UInt8):ByteArray:=⟨l.toArray⟩
def DM.read(M:DM)(b:ByteArray)(a n:Int):ByteArray × Int :=
 match M.dir.look b with
 | none=>(ByteArray.empty,11)
 | some f =>
  if 0<=a/\0<=n/\a<=(M.file f).bytes.length/\n<=(M.file f).bytes.length-a then
   (zp (((M.file f).bytes.drop a.toNat).take n.toNat),0)
  else(ByteArray.empty,12)
theorem ME(a:ByteArray)(x n:Int)(w:World)(b:Nat)(L:DL)(M:DM)(h:DRep w b L M)(c:zO M.dir a=-1)(d:M.dir.look a=none) :
 Calls Tryz.prog 189 #[.pointer (some ⟨b,0,none⟩),.string a,.int .i64 x,.int .i64 n] w fun e l =>
  e=.returned (.tuple #[.string (M.read a x n).1,.int .i64 (M.read a x n).2])/\Fr Nil w l:=by
 have j:=h.CB.cell;simp only[DM.cells] at j;have g:=Z h;have i:Hid (M.read a x n=(ByteArray.empty,(11:Int))):=by simp[Hid,DM.read,d]
 have f:=Z c;clear h c d;go_enter DP,Dq
 go_wp2_with (go_at_call 87;refine(Ym f.out _ g.out.dir).mono ?_;rintro e m ⟨rfl,k⟩)
 go_ret2;rw[i.out];exact⟨rfl,k⟩
theorem K3(a:ByteArray)(x n:Int)(w:World)(b:Nat)(L:DL)(M:DM)(h:DRep w b L M)(k:Nat)(v:k<M.dir.length)(s:zO M.dir a=k)(t:M.dir.look a=some M.dir[k].2)
 (B:¬(0<=x/\0<=n/\x<=(M.file M.dir[k].2).bytes.length/\n<=(M.file M.dir[k].2).bytes.length-x)) :
 Calls Tryz.prog 189 #[.pointer (some ⟨b,0,none⟩),.string a,.int .i64 x,.int .i64 n] w fun e J =>
  e=.returned (.tuple #[.string (M.read a x n).1,.int .i64 (M.read a x n).2])/\Fr Nil w J:=by
 have f:=h.CB.cell;simp only[DM.cells] at f;have q:=Z h;have i:=zH h.dir;have d:=zH (h.rows _ (h.Bq _ (Ia v)));unfold maxLen at i d;have D:Hid (M.read a x n=(ByteArray.empty,(12:Int))):=by simp only[Hid,DM.read,t];rw[Ie B]
 have C:=Z s;clear h s t;have j:x<0\/(0<=x/\n<0)\/(0<=x/\0<=n/\((M.file M.dir[k].2).bytes.length:Int)<x)\/(0<=x/\0<=n/\x<=((M.file M.dir[k].2).bytes.length:Int)/\((M.file M.dir[k].2).bytes.length:Int)-x<n):=by omega
 clear B;rcases j with o|⟨o,r⟩|⟨o,r,E⟩|⟨o,r,E,K⟩
 all_goals
  go_enter DP,Dq;go_wp2_with fail;refine(zT C.out _ q.out.dir).mono ?_;rintro e O ⟨rfl,u⟩;have l:=q.out.fr u (fun _ _=>id);clear f;have f:=l.CB.cell;simp only[DM.cells] at f;obtain⟨g,G,m,c,A,I,_,N,y⟩:=l.entry v;have p:=(l.files _ I).cell;rw[y] at p;rw[A] at f;clear y A l
  go_wp2
  go_ret2;rw[D.out];exact⟨rfl,u⟩
theorem Qn{P:Program}{t e u:TypeId}(C:P.underlying t=some (.slice e))(y:P.underlying e=some (.int .u8))(D:P.underlying u=some .string)
 {w:World}{g n i:Nat}{d:List UInt8}(h:w.ownsRow 0 5 1 (.slice (some ⟨g,0,none⟩) n i) n (u8s d))(x m c:Nat)(G:x+m<=d.length) :
 (convert t u (.slice (some ⟨g,x,none⟩) m c)).run P w=.ok (.string (zp ((d.drop x).take m))) w:=by
 have B:(loadCells ⟨g,x,none⟩ m).run P w=.ok ((((d.drop x).take m).map fun c:UInt8=>(c.toNat:Int)).map (Value.int .u8)).toArray w:=by
  have q:=run_loadCells_list (P:=P) w ⟨g,x,none⟩ ((((d.drop x).take m).map fun c:UInt8=>(c.toNat:Int)).map (Value.int .u8)) (by
   intro j v k;have A:j<m:=by
    rcases Gu j m with p|p
    .exact p
    .rw[List.getElem?_eq_none (by simp;omega)] at k;cases k
   have f:(⟨g,x,none⟩:Addr).add j=⟨g,x+j,none⟩:=by unfold Addr.add;split <;> simp_all
   rw[f];refine own_cell? h _ _ ?_;rw[<- k];simp[u8s,A,List.getElem?_drop]
   rfl)
  have s:((((d.drop x).take m).map fun c:UInt8=>(c.toNat:Int)).map (Value.int .u8)).length=m:=by simp;omega
  rw[s] at q;exact q
 rw[run_convert_bytes_string w t u e _ m c C y D,run_bytesToString w _ m c _ B]
 congr 2
 have o:∀ (l:List UInt8) (b:ByteArray),(l.map fun c:UInt8=>(c.toNat:Int)).foldl (fun r n=>r.push (UInt8.ofNat n.toNat)) b=⟨(b.data.toList++l).toArray⟩:=by
  intro l
  induction l with
  | nil=>intro b;simp
  | cons a l E =>
   intro b;simp only[Iw,Hd];rw[E];simp[ByteArray.push]
 rw[o]
 rfl
theorem MF(a:ByteArray)(x n:Nat)(w:World)(b:Nat)(L:DL)(M:DM)(h:DRep w b L M)(k:Nat)(C:k<M.dir.length)(v:zO M.dir a=k)(y:M.dir.look a=some M.dir[k].2)
 (Q:x+n<=(M.file M.dir[k].2).bytes.length)(h0:0<n) :
 Calls Tryz.prog 189 #[.pointer (some ⟨b,0,none⟩),.string a,.int .i64 x,.int .i64 n] w fun e R =>
  e=.returned (.tuple #[.string (M.read a x n).1,.int .i64 (M.read a x n).2])/\Fr Nil w R:=by
 have i:=h.CB.cell;simp only[DM.cells] at i;have r:=Z h;have j:=zH h.dir;have d:=zH (h.rows _ (h.Bq _ (Ia C)));unfold maxLen at j d;have G:Hid (M.read a x n=(zp (((M.file M.dir[k].2).bytes.drop x).take n),(0:Int))):=by simp only[Hid,DM.read,y];rw[Io (by omega)];simp
 have E:=Z v;clear h v y;have S:¬(x:Int)<0:=by omega
 have T:¬(n:Int)<0:=by omega
 have V:¬((M.file M.dir[k].2).bytes.length:Int)<x:=by omega
 have X:¬((M.file M.dir[k].2).bytes.length:Int)-x<n:=by omega
 go_enter DP,Dq;go_wp2_with fail;refine(zT E.out _ r.out.dir).mono ?_;rintro e w1 ⟨rfl,A⟩;have f:=r.out.fr A (fun _ _=>id);clear i;have i:=f.CB.cell;simp only[DM.cells] at i;obtain⟨g,I,m,c,D,B,_,hp,O⟩:=f.entry C;have o:=f.rows _ B;obtain⟨Y,s,l,J,q⟩:=zz o (by omega);have p:=(f.files _ B).cell;rw[l] at p o;rw[D] at i;unfold maxLen at q;have N:¬s=x:=by omega
 have K:=Qn (P:=Tryz.prog) (t:=150) (u:=9) Gd DB Gq o x n (s-x) Q;clear O D f o l
 go_wp2
 go_ret2;rw[G.out];exact⟨rfl,A⟩
theorem MG{P:Program}{t e u:TypeId}(d:P.underlying t=some (.slice e))(b:P.underlying e=some (.int .u8))(f:P.underlying u=some .string)
 (w:World)(a:Option Addr)(c:Nat):(convert t u (.slice a 0 c)).run P w=.ok (.string ByteArray.empty) w:=by
 rw[run_convert_bytes_string w t u e _ 0 c d b f];cases a with
 | none=>rfl
 | some a=>exact run_bytesToString w a 0 c [] (by rfl)
theorem MH(a:ByteArray)(x:Nat)(w:World)(b:Nat)(L:DL)(M:DM)(h:DRep w b L M)(k:Nat)(A:k<M.dir.length)(d:zO M.dir a=k)(p:M.dir.look a=some M.dir[k].2)
 (V:x<=(M.file M.dir[k].2).bytes.length) :
 Calls Tryz.prog 189 #[.pointer (some ⟨b,0,none⟩),.string a,.int .i64 x,.int .i64 0] w fun e K =>
  e=.returned (.tuple #[.string (M.read a x 0).1,.int .i64 (M.read a x 0).2])/\Fr Nil w K:=by
 have l:=h.CB.cell;simp only[DM.cells] at l;have s:=Z h;have o:=zH h.dir;have i:=zH (h.rows _ (h.Bq _ (Ia A)));unfold maxLen at o i;have E:Hid (M.read a x 0=(ByteArray.empty,(0:Int))):=by simp only[Hid,DM.read,p];rw[Io (by omega)];simp[zp];rfl
 have D:=Z d;clear h d p;have O:¬(x:Int)<0:=by omega
 have Q:¬((M.file M.dir[k].2).bytes.length:Int)<x:=by omega
 have R:¬((M.file M.dir[k].2).bytes.length:Int)-x<0:=by omega
 go_enter DP,Dq;go_wp2_with fail;refine(zT D.out _ s.out.dir).mono ?_;rintro e N ⟨rfl,v⟩;have j:=s.out.fr v (fun _ _=>id);clear l;have l:=j.CB.cell;simp only[DM.cells] at l;obtain⟨g,G,m,c,C,y,_,T,q⟩:=j.entry A;have B:=j.rows _ y;have f:(M.file M.dir[k].2).bytes.length<=c/\c<=maxLen:=by
  rcases B.2 with⟨d,p⟩|⟨_,_,_,d,_,_,p,S,_⟩
  .rw[q] at d;simp at d;omega
  .rw[q] at d;simp at d;omega
 unfold maxLen at f;obtain⟨f,I⟩:=f;have r:=(j.files _ y).cell;rw[q] at r;rw[C] at l;have J:=MG (P:=Tryz.prog) (t:=150) (u:=9) Gd DB Gq N;clear q C j B
 go_wp2
 all_goals
  go_ret2;rw[E.out];exact⟨rfl,v⟩
theorem Ng(f:ByteArray)(x n:Int)(w:World)(b:Nat)(L:DL)(M:DM)(h:DRep w b L M) :
 Calls Tryz.prog 189 #[.pointer (some ⟨b,0,none⟩),.string f,.int .i64 x,.int .i64 n] w fun e m =>
  e=.returned (.tuple #[.string (M.read f x n).1,.int .i64 (M.read f x n).2])/\Fr Nil w m:=by
 rcases Yq M.dir f with⟨g,i⟩|⟨k,j,g,i,_⟩
 .exact ME f x n w b L M h g i
 .by_cases hx:0<=x/\0<=n/\x<=(M.file M.dir[k].2).bytes.length/\n<=(M.file M.dir[k].2).bytes.length-x
  .obtain⟨a,b',c,d⟩:=hx
   obtain⟨x,rfl⟩:=IZ a;obtain⟨n,rfl⟩:=IZ b';rcases Fc n with rfl|l
   .exact MH f x w b L M h k j g i (by omega)
   .exact MF f x n w b L M h k j g i (by omega) l
  .exact K3 f x n w b L M h k j g i hx
theorem Zn.yY{W w:World}{g:FuncId}{p:Value}{c:List UInt8}(h:Zn W (.func (.func g) #[] #[p]) c)(k:Still W w){v:Value}{n:Nat}{d:List Value}(j:w.ownsRow 0 5 1 v n d)(a:n+c.length<=1099511627776) :
 Calls Tryz.prog g #[v,p] w fun e l=>∃ f,e=.returned f/\Adds w v n d c f l:=by
 obtain⟨m,o,b,_,i⟩:=h;simp only[Value.func.injEq,Fn.func.injEq] at b;obtain⟨rfl,_,rfl⟩:=b;exact i w k v n d j a
def Z2(l:List Ver):List Value:=l.flatMap Ver.cells
theorem Xs(l:List Ver):(Z2 l).length=l.length*8:=by
 induction l with
 | nil=>rfl
 | cons e l a=>simp only[Z2,Gb,JR,Ih,Ver.Bt] at a |-;omega
theorem SY(l:List Ver):∀ (k j:Nat)(h:k<l.length)(_:j<8),(Z2 l)[k*8+j]?=l[k].cells[j]?:=by
 induction l with
 | nil=>intro k j h;simp at h
 | cons e l c =>
  intro k j h a;cases k with
  | zero =>
   simp only[Z2,Gb,Cr,Hg,Fp];exact GI (by rw[Ver.Bt];exact a)
  | succ k =>
   have:=c k j (by simpa using h) a;have b:(k+1)*8+j=k*8+j+8:=by omega
   simp only[Z2,Gb,b,FO] at this |-;rw[Fs (by rw[Ver.Bt];omega),Ver.Bt,show k*8+j+8-8=k*8+j by omega];exact this
theorem XX(l:List Ver):∀ u∈Z2 l,u.oneCell'=true:=by
 intro u a;simp only[Z2,Eg] at a;obtain⟨e,_,a⟩:=a;simp only[Ver.cells,Ix,GT,EN] at a;rcases a with rfl|rfl|rfl|rfl|rfl|rfl|rfl|rfl <;> rfl
def ZA(l:List Ver):List UInt8:=zk l.length++(l.map ZM).flatten
theorem Qo(M V:Nat)(lv:Value)(l:List Ver)(hl:∀ x∈l,x.Nat)(a5:l.length<1000000)(w:World)
 (C:Blk w M [lv] 61)(X:Blk w V [.func (.func 289) #[] #[]] 372)
 (hr:w.ownsRow 0 37 8 lv l.length (Z2 l))
 (v:Value)(n:Nat)(N:List Value)(ho:w.ownsRow 0 5 1 v n N)(p:n+(ZA l).length<=1099511627776) :
 Calls Tryz.prog 292 #[v,.pointer (some ⟨M,0,none⟩),.pointer (some ⟨V,0,none⟩)] w fun e w'=>∃ v',e=.returned v'/\Adds w v n N (ZA l) v' w':=by
 have a2:w.cell? ⟨M,0,none⟩=some lv:=by rw[C.cell];rfl
 obtain⟨va,vc,rfl⟩:=zg ho;obtain⟨la,lc,rfl⟩:=zg hr;have T:=Z ho;have H1:=Z C;clear C ho;have o:n+(zk l.length).length+((l.map ZM).flatten).length<=1099511627776:=by simp only[ZA,JR] at p;omega
 have HL:=Z o;clear o p;have HR:=Z hr;have H2:=Z X;have R:=Z hl;clear hr X hl;go_enter Tryz.func292,Tryz.ntmps292
 go_wp2_with (first
  | (go_at_call 280;refine(Y2 w.heap.size l.length (by omega) _ G (.slice va n vc) n N (ze (S:=Nil) T.out s (fun _ _=>id)) (by have:=HL.out;omega)).mono ?_;rintro e w3 ⟨v3,rfl,D⟩;refine Hid.out ?_)
  | (go_at_call 277;refine(ZE w _ _ (U _ _)).mono ?_;rintro e w2 ⟨rfl,G,s⟩))
 have A:=Z (D.of s);have q:=A.out.still T.out;have a4:w3.cell? ⟨M,0,none⟩=some (.slice la l.length lc):=by rw[(H1.out.still (by decide) q).cell];rfl
 clear D G s q;refine Z ?_;go_wp2_with fail
 go_loopw [0,14] (fun t0 u w'=>∃ i:Nat,i<=l.length/\u=.int .i64 i/\Adds w (.slice va n vc) n N (zk l.length++((l.take i).map ZM).flatten) t0 w') (fun _ u _=>l.length-(intOf u).toNat)
 case atStart=>exact⟨0,Iq _,rfl,by simpa using A.out⟩
 case round =>
  obtain⟨i,hi,rfl,r⟩:=hrel;have L:=r.still T.out;obtain⟨m,Y⟩:∃ m,m=n+(zk l.length++((l.take i).map ZM).flatten).length:=⟨_,rfl⟩;have c:=r.1;rw[<- Y] at c;obtain⟨ta,tc,rfl⟩:=zg c;have HW:=Z c;have HM:=Z Y;clear c Y;by_cases t:i<l.length
  .obtain⟨g,rfl⟩:∃ g,la=some ⟨g,0,none⟩:=by
    obtain⟨g,a1,h,_⟩:=zz HR.out (by omega);simp at h;exact⟨g,h.1⟩
   have K:=Vp (by decide) HR.out L;have b:=fun j hj=>own_cell? K (i*8+j) _ ((SY l i j t hj).trans (Ii (by rw[Ver.Bt];exact hj)));have g0:=b 0 (by omega);have g1:=b 1 (by omega);have g2:=b 2 (by omega);have g3:=b 3 (by omega);have g4:=b 4 (by omega);have g5:=b 5 (by omega);have g6:=b 6 (by omega);have g7:=b 7 (by omega);have a3:∀ ob:Obj,(wr.alloc ob).cell? ⟨V,0,none⟩=some (.func (.func 289) #[] #[]):=fun ob=>by rw[((H2.out.still (by decide) L).alloc ob).cell];rfl
   have hx:=R.out l[i] (Ia t);have a:zk l.length++((l.take (i+1)).map ZM).flatten=(zk l.length++((l.take i).map ZM).flatten)++ZM l[i]:=by
    rw[IG t,Ip,Em];simp
   have J:m+(ZM l[i]).length<=1099511627776:=by
    have C:=Wx (l.map ZM) (i+1);have X:=HL.out;rw[<- Hn] at C;have h3:=GP List.length a;rw[HM.out];simp only[JR] at h3 |-;omega
   have d:=Z a;have O:=Z r;have B:=Z J;clear a r J K b;generalize l[i]=x at g0 g1 g2 g3 g4 g5 g6 g7 hx d B;obtain⟨node,a0,o0,o1,o2,o3,y,gone⟩:=x;simp only[Ver.cells,Fp,FO,Fg] at g0 g1 g2 g3 g4 g5 g6 g7;have HX:=Z hx;clear hx;go_wp2_with fail;refine(RB ⟨node,a0,o0,o1,o2,o3,y,gone⟩ HX.out _).mono ?_;rintro e w4 ⟨pb,rfl,hp,I⟩;have k:Fr Nil wr w4:=((U Nil wr).alloc _).trans I;have HP:=Z hp;clear hp I;go_wp2_with fail;refine(HP.out.yY (Still.of_nil (U _ _)) (ze (S:=Nil) HW.out k (fun _ _=>id)) B.out).mono ?_;rintro e w5 ⟨v5,rfl,E⟩;have Q:=Z (O.out.next HM.out (E.of k));clear E
   go_wp2
   refine⟨⟨i+1,by omega,by go_num,by rw[d.out];exact Q.out⟩,?_⟩;simp[intOf];omega
  .have e:i=l.length:=by omega
   have f:zk l.length++((l.take i).map ZM).flatten=ZA l:=by rw[e,Ij];rfl
   rw[f] at r;have O:=Z r;clear f r
   go_wp2
   go_ret;exact⟨_,rfl,O.out⟩
theorem Qp(a:Option Addr)(n c:Nat)(w:World) :
 Calls Tryz.prog 288 #[.slice a n c,.func (.func 289) #[] #[]] w fun e b =>
  e=.returned (.func (.func 292) #[] #[.pointer (some ⟨w.heap.size,0,none⟩),.pointer (some ⟨w.heap.size+1,0,none⟩)]) /\
  b=(w.alloc (.cells #[.slice a n c] 61)).alloc (.cells #[.func (.func 289) #[] #[]] 372):=by
 go_enter Tryz.func288,Tryz.ntmps288
 go_wp2
 go_ret;exact⟨rfl,rfl⟩
theorem PT(W:World)(m:Value)(l:List Ver)(r:∀ x∈l,x.Nat)(d:l.length<1000000)(w:World)(q:Fr Nil W w)(k:w.ownsRow 0 37 8 m l.length (Z2 l)) :
 Calls Tryz.prog 288 #[m,.func (.func 289) #[] #[]] w fun e h =>
  ∃ i j,e=.returned (.func (.func 292) #[] #[.pointer (some ⟨i,0,none⟩),.pointer (some ⟨j,0,none⟩)]) /\
  Zn h (.func (.func 292) #[] #[.pointer (some ⟨i,0,none⟩),.pointer (some ⟨j,0,none⟩)]) (ZA l)/\Fr Nil W h:=by
 obtain⟨a,c,rfl⟩:=zg k;refine(Qp a l.length c w).mono ?_;rintro e h ⟨rfl,rfl⟩;have p:Blk ((w.alloc (.cells #[.slice a l.length c] 61)).alloc (.cells #[.func (.func 289) #[] #[]] 372)) (w.heap.size+1) [.func (.func 289) #[] #[]] 372:=by
  have:=Blk.new (w.alloc (.cells #[.slice a l.length c] 61)) [.func (.func 289) #[] #[]] 372
  simpa using this
 have o:=(Blk.new w [.slice a l.length c] 61).alloc (.cells #[.func (.func 289) #[] #[]] 372);have f:=ze (S:=Nil) k (((U Nil w).alloc (.cells #[.slice a l.length c] 61)).alloc (.cells #[.func (.func 289) #[] #[]] 372)) (fun _ _=>id);exact⟨_,_,rfl,⟨_,_,rfl,Es Tryz.func292 (by kernel_rfl) rfl,fun w g v n t s b =>
  Qo _ _ _ l r d w (o.still (by decide) g) (p.still (by decide) g) (Vp (by decide) f g) v n t s b⟩,(q.alloc _).alloc _⟩
def zS(a:List UInt8):List UInt8:=zk a.length++a
theorem Nh(sv:Value)(d:List Value)(b:List (List UInt8))(w:World)(hs:w.ownsRow 0 365 1 sv d.length d)(hp:Zw w d b)(L:b.flatten.length<=500000000000)(s:(zk b.flatten.length).length<=100) :
 Calls Tryz.prog 276 #[sv] w fun e w'=>e=.returned (.string (zp (zS b.flatten)))/\Fr Nil w w':=by
 obtain⟨sa,sc,rfl⟩:=zg hs;have HS:=Z hs;have HP:=Z hp;clear hs hp;go_enter Tryz.func276,Tryz.ntmps276;go_wp2_with fail;refine(VV sa _ sc w).mono ?_;rintro e T ⟨rfl,y⟩;have a1:Blk T w.heap.size [.slice sa d.length sc] 368:=by rw[y];exact Blk.new w [.slice sa d.length sc] _
 have q:Fr Nil w T:=by rw[y];exact(U _ _).alloc _
 clear y;go_wp2_with fail;refine(VU _ _ d b T a1 (ze (S:=Nil) HS.out q (fun _ _=>id)) (HP.out.still (Still.of_nil q)) (.slice none 0 0) 0 [] (IF T 0 _ _) (by omega)).mono ?_;rintro e O ⟨v2,rfl,p⟩;have v:O.ownsRow 0 5 1 v2 b.flatten.length (u8s b.flatten):=by simpa using p.1
 obtain⟨va,vc,rfl⟩:=zg v;have G:Fr Nil w O:=q.trans (p.2.1.mono (fun _ _ h=>by simp[Value.ownBlock] at h));have C:=Z v;clear v p;generalize f:b.flatten=a at L s C;have Y:=Z f;clear f;go_wp2_with fail;refine(ZE O _ O (U _ _)).mono ?_;rintro e V ⟨rfl,E,r⟩;go_wp2_with fail;refine(Y2 O.heap.size a.length (by omega) V E (.slice none 0 0) 0 [] (IF V 0 _ _) (by omega)).mono ?_;rintro e X ⟨Q,rfl,l⟩;have I:Fr Nil V X:=l.2.1.mono (fun _ _ h=>by simp[Value.ownBlock] at h);have x:X.ownsRow 0 5 1 Q (zk a.length).length (u8s (zk a.length)):=by simpa using l.1
 have N:=ze (S:=Nil) (ze (S:=Nil) C.out r (fun _ _=>id)) I (fun _ _=>id);have J:=(G.trans r).trans I;have o:∀ k,Q.ownBlock=some k->V.heap.size<=k:=fun k hk=>(l.2.2 k hk).resolve_left (by simp[Value.ownBlock]);have M:=fun ty=>Xr (P:=Tryz.prog) (w:=X) 150 ty 5 1 1 Gd Qi (by omega) Q _ _ x _ _ _ N (by intro u hu;simp[u8s] at hu;obtain⟨c,_,rfl⟩:=hu;rfl) (by unfold maxLen;omega) (by omega);have m:∀ R A,App X Q 5 1 ((zk a.length).length+a.length) (u8s (zk a.length)++u8s a) R A ->
  ∃ g j,R=.slice (some ⟨g,0,none⟩) ((zk a.length).length+a.length) j/\(∀ t,(convert 150 9 (.slice (some ⟨g,0,none⟩) ((zk a.length).length+a.length) t)).run Tryz.prog A=.ok (.string (zp (zS a))) A)/\Fr Nil w A:=by
  rintro R A ⟨h1,h2,h3⟩;have a3:0<(zk a.length).length:=by
   by_cases h:a.length<128
   .rw[YT h];simp
   .rw[Xl h];simp
  obtain⟨g,j,rfl,_,_⟩:=zz h1 (by omega);have a0:A.ownsRow 0 5 1 (.slice (some ⟨g,0,none⟩) ((zk a.length).length+a.length) j) ((zk a.length).length+a.length) (u8s (zS a)):=by
   unfold zS;rw[T8];exact h1
  refine⟨g,j,rfl,fun t=>?_,?_⟩
  .rw[Qn (P:=Tryz.prog) Gd DB Gq a0 0 _ t (by unfold zS;rw[JR];omega)]
   congr 3
   rw[Hx];exact Il (by unfold zS;rw[JR];exact JS _)
  .refine J.trans' ((Fr.Bb h2).mono (fun i _ h=>h)) (fun i hi h=>?_)
   have:=o i h;have:=(G.trans r).size;omega
 have B:=Z m;obtain⟨a5,a6,rfl⟩:=zg x;clear m l x N o E
 go_wp2_with (at_builtin;go_must (refine zI rfl _ _ _ _ rfl _ _ (by rfl) (by rfl) (M _) ?_);rintro R A D;obtain⟨g5,a2,rfl,a4,K⟩:=B.out _ _ D;clear D)
 go_ret;rw[Y.out];exact⟨rfl,K⟩
theorem K4:∀(k n:Nat),n<128^(k+1)->(zk n).length<=k+1:=by
 intro k
 induction k with
 | zero=>intro n h;rw[YT (by omega)];simp
 | succ k b =>
  intro n h;by_cases a:n<128
  .rw[YT a];simp
  .have:=b (n / 128) (by rw[Nat.div_lt_iff_lt_mul (by omega)];rw[Cs] at h;exact h)
   rw[Xl a,Ih];omega
theorem zC{n:Nat}(h:n<9223372036854775808):(zk n).length<=9:=K4 8 n (Nat.lt_of_lt_of_eq h (by decide))
theorem Yg(W:World)(N:Nat)(d:N<9223372036854775808)(w:World)(g:Fr Nil W w)(x:Int)(h:x=N) :
 Calls Tryz.prog 277 #[.int .i64 x] w fun e a=>∃ b,e=.returned (.func (.func 280) #[] #[.pointer (some ⟨b,0,none⟩)])/\Zn a (.func (.func 280) #[] #[.pointer (some ⟨b,0,none⟩)]) (zk N)/\Fr Nil W a:=by
 subst h;refine(ZE W N w g).mono ?_;rintro e a ⟨rfl,f,c⟩;exact⟨_,rfl,V0 a _ N d f,c⟩
theorem Tc(W:World)(s:ByteArray)(g:s.size<9223372036854775808)(w:World)(f:Fr Nil W w) :
 Calls Tryz.prog 284 #[.string s] w fun e a=>∃ b,e=.returned (.func (.func 285) #[] #[.pointer (some ⟨b,0,none⟩)])/\Zn a (.func (.func 285) #[] #[.pointer (some ⟨b,0,none⟩)]) (Z1 s.data.toList)/\Fr Nil W a:=by
 refine(T9 W s w f).mono ?_;rintro e a ⟨rfl,d,c⟩;exact⟨_,rfl,SX a _ s g d,c⟩
theorem WP(W:World)(g:Nat)(b:List Value)(a:List (List UInt8))(w i:World)(k:Fr Nil W w)(o:Fr Nil i w)(j:Blk w g b 365)(m:Zw i b a)(f:b.length<=1000)(c:a.flatten.length<=500000000000)
 (n:Nat)(l:n=b.length) :
 Calls Tryz.prog 276 #[.slice (some ⟨g,0,none⟩) n n] w fun e h=>e=.returned (.string (zp (zS a.flatten)))/\Fr Nil W h:=by
 subst l;refine(Nh _ b a w (Yy j (JS _) (by unfold maxLen;omega) (by simp) (by simp)) (m.still (Still.of_nil o)) c (by have:=zC (n:=a.flatten.length) (by omega);omega)).mono ?_;rintro e h ⟨rfl,d⟩;exact⟨rfl,k.trans d⟩
def Xt(n:Nat):List UInt8:=zS (zk 1++zk n)
def Xu(a:ByteArray)(l:List Ver):List UInt8:=zS (zk 2++(Z1 a.data.toList++ZA l))
def XG(b:Nat)(a:ByteArray):List UInt8:=zS (zk 3++(zk b++Z1 a.data.toList))
def Wy:List UInt8:=zS (zk 4)
theorem VW(n:Nat)(q:n<9223372036854775808)(w:World) :
 Calls Tryz.prog 307 #[.agg #[.int .i64 n]] w fun e w'=>e=.returned (.string (zp (Xt n)))/\Fr Nil w w':=by
 have a:Blk (w.alloc (.cells #[.int .i64 n] 220)) w.heap.size [.int .i64 n] 220:=Blk.new w [.int .i64 n] _;have f:Fr Nil w (w.alloc (.cells #[.int .i64 n] 220)):=(U _ _).alloc _;have i:([zk 1,zk n]:List (List UInt8)).flatten.length<=500000000000:=by
  have D:=zC q;have E:=zC (n:=1) (by omega);simp;omega
 go_enter Tryz.func307,Tryz.ntmps307;go_wp2_with fail;obtain⟨N,o⟩:∃ N,w.heap.size=N:=⟨_,rfl⟩;obtain⟨d,j⟩:∃ d,w.alloc (.cells #[.int .i64 n] 220)=d:=⟨_,rfl⟩;rw[o] at a |-;rw[j] at a f |-;clear j o;have t:d.cell? ⟨N,0,none⟩=some (.int .i64 n):=by rw[a.cell];rfl
 have k:Hid (∀ w',Fr Nil d w'->w'.cell? ⟨N,0,none⟩=some (.int .i64 n)):=by
  intro w' u;rw[(a.fr u id).cell];rfl
 clear a
 go_region_held3 (fun w'=>w'.cell? ⟨N,0,none⟩=some (.int .i64 n)) (first|assumption|exact k.out _ zd)
  (first
  | (go_at_call 276;refine(WP d _ [_,_] [_,_] _ s (b.trans zd) zd (by exact Blk.new _ [_,_] _) ⟨l.still (Still.of_nil h),m,trivial⟩ (by simp) i _ rfl).mono ?_;rintro e A ⟨rfl,c⟩;have y:=k.out A c)
  | (go_at_call 277;refine(Yg r n q _ zd _ rfl).mono ?_;rintro e s ⟨C,rfl,m,h⟩;have b:=g.trans h;have x:=k.out s b)
  | (go_at_call 277;refine(Yg d 1 (by omega) _ zd _ rfl).mono ?_;rintro e r ⟨B,rfl,l,g⟩;have v:=k.out r g))
 go_wp2
 go_ret;exact⟨by simp[Xt],f.trans c⟩
theorem VX(a:ByteArray)(G:Value)(l:List Ver)(T:∀ x∈l,x.Nat)(y:l.length<1000000)(R:a.size<1000000000)(w:World)(D:w.ownsRow 0 37 8 G l.length (Z2 l))(s:(ZA l).length<=100000000000) :
 Calls Tryz.prog 286 #[.agg #[.string a,G]] w fun e w'=>e=.returned (.string (zp (Xu a l)))/\Fr Nil w w':=by
 obtain⟨d,f,rfl⟩:=zg D;have b:Blk (w.alloc (.cells #[.string a,.slice d l.length f] 193)) w.heap.size [.string a,.slice d l.length f] 193:=Blk.new w [.string a,.slice d l.length f] _;have j:Fr Nil w (w.alloc (.cells #[.string a,.slice d l.length f] 193)):=(U _ _).alloc _;have m:([zk 2,Z1 a.data.toList,ZA l]:List (List UInt8)).flatten.length<=500000000000:=by
  have h1:=zC (n:=a.size) (by omega);have h2:=zC (n:=2) (by omega);simp[Z1];omega
 have L:=Z D;clear D s;go_enter Tryz.func286,Tryz.ntmps286;go_wp2_with fail;obtain⟨N,E⟩:∃ N,w.heap.size=N:=⟨_,rfl⟩;obtain⟨i,t⟩:∃ i,w.alloc (.cells #[.string a,.slice d l.length f] 193)=i:=⟨_,rfl⟩;rw[E] at b |-;rw[t] at b j |-;clear t E;have O:i.cell? ⟨N,0,none⟩=some (.string a):=by rw[b.cell];rfl
 have Q:i.cell? ⟨N,1,none⟩=some (.slice d l.length f):=by rw[b.cell];rfl
 have o:Hid (∀ w',Fr Nil i w'->w'.cell? ⟨N,0,none⟩=some (.string a)/\w'.cell? ⟨N,1,none⟩=some (.slice d l.length f)):=by
  intro w' v;have:=(b.fr v id).cell;exact⟨by rw[this];rfl,by rw[this];rfl⟩
 have u:Hid (∀ w',Fr Nil i w'->w'.ownsRow 0 37 8 (.slice d l.length f) l.length (Z2 l)):=fun w' v=>ze (S:=Nil) L.out (j.trans v) (fun _ _=>id);clear b
 go_region_held3 (fun w'=>w'.cell? ⟨N,0,none⟩=some (.string a)/\w'.cell? ⟨N,1,none⟩=some (.slice d l.length f)) (first|assumption|exact o.out _ zd)
  (first
  | (go_at_call 276;refine(WP i _ [_,_,_] [_,_,_] _ K (g.trans zd) zd (by exact Blk.new _ [_,_,_] _) ⟨A.still (Still.of_nil (r.trans k)),B.still (Still.of_nil k),C,trivial⟩ (by simp) m _ rfl).mono ?_;rintro e w5 ⟨rfl,h⟩;have a0:=o.out w5 h)
  | (go_at_call 288;refine(PT J _ l T y _ zd (u.out _ (c.trans zd))).mono ?_;rintro e K ⟨b4,M,rfl,C,k⟩;have g:=c.trans k;have Y:=o.out K g)
  | (go_at_call 284;refine(Tc I _ (by omega) _ zd).mono ?_;rintro e J ⟨b3,rfl,B,r⟩;have c:=q.trans r;have X:=o.out J c)
  | (go_at_call 277;refine(Yg i 2 (by omega) _ zd _ rfl).mono ?_;rintro e I ⟨b2,rfl,A,q⟩;have V:=o.out I q))
 go_wp2
 go_ret;exact⟨by simp[Xu],j.trans h⟩
theorem VI(c:Nat)(a:ByteArray)(v:c<9223372036854775808)(E:a.size<1000000000)(w:World) :
 Calls Tryz.prog 282 #[.agg #[.int .i64 c,.string a]] w fun e w'=>e=.returned (.string (zp (XG c a)))/\Fr Nil w w':=by
 have b:Blk (w.alloc (.cells #[.int .i64 c,.string a] 138)) w.heap.size [.int .i64 c,.string a] 138:=Blk.new w [.int .i64 c,.string a] _;have l:Fr Nil w (w.alloc (.cells #[.int .i64 c,.string a] 138)):=(U _ _).alloc _;have i:([zk 3,zk c,Z1 a.data.toList]:List (List UInt8)).flatten.length<=500000000000:=by
  have R:=zC (n:=a.size) (by omega);have T:=zC (n:=3) (by omega);have V:=zC v;simp[Z1];omega
 go_enter Tryz.func282,Tryz.ntmps282;go_wp2_with fail;obtain⟨N,u⟩:∃ N,w.heap.size=N:=⟨_,rfl⟩;obtain⟨j,q⟩:∃ j,w.alloc (.cells #[.int .i64 c,.string a] 138)=j:=⟨_,rfl⟩;rw[u] at b |-;rw[q] at b l |-;clear q u;have B:j.cell? ⟨N,0,none⟩=some (.int .i64 c):=by rw[b.cell];rfl
 have C:j.cell? ⟨N,1,none⟩=some (.string a):=by rw[b.cell];rfl
 have k:Hid (∀ w',Fr Nil j w'->w'.cell? ⟨N,0,none⟩=some (.int .i64 c)/\w'.cell? ⟨N,1,none⟩=some (.string a)):=by
  intro w' D;have:=(b.fr D id).cell;exact⟨by rw[this];rfl,by rw[this];rfl⟩
 clear b
 go_region_held3 (fun w'=>w'.cell? ⟨N,0,none⟩=some (.int .i64 c)/\w'.cell? ⟨N,1,none⟩=some (.string a)) (first|assumption|exact k.out _ zd)
  (first
  | (go_at_call 276;refine(WP j _ [_,_,_] [_,_,_] _ A (f.trans zd) zd (by exact Blk.new _ [_,_,_] _) ⟨r.still (Still.of_nil (o.trans h)),s.still (Still.of_nil h),t,trivial⟩ (by simp) i _ rfl).mono ?_;rintro e L ⟨rfl,g⟩;have K:=k.out L g)
  | (go_at_call 284;refine(Tc y _ (by omega) _ zd).mono ?_;rintro e A ⟨Q,rfl,t,h⟩;have f:=d.trans h;have J:=k.out A f)
  | (go_at_call 277;refine(Yg x c v _ zd _ rfl).mono ?_;rintro e y ⟨O,rfl,s,o⟩;have d:=m.trans o;have I:=k.out y d)
  | (go_at_call 277;refine(Yg j 3 (by omega) _ zd _ rfl).mono ?_;rintro e x ⟨M,rfl,r,m⟩;have G:=k.out x m))
 go_wp2
 go_ret;exact⟨by simp[XG],l.trans g⟩
theorem VY(w:World) :
 Calls Tryz.prog 274 #[.agg #[]] w fun e w'=>e=.returned (.string (zp Wy))/\Fr Nil w w':=by
 have b:Fr Nil w (w.alloc (.cells #[] 135)):=(U _ _).alloc _;have a:([zk 4]:List (List UInt8)).flatten.length<=500000000000:=by
  have i:=zC (n:=4) (by omega);simp;omega
 go_enter Tryz.func274,Tryz.ntmps274;go_wp2_with fail;refine(Yg w 4 (by omega) _ b _ rfl).mono ?_;rintro e g ⟨h,rfl,f,c⟩;go_wp2_with fail;refine(WP w _ [_] [_] _ g (c.trans zd) zd (by exact Blk.new _ [_] _) ⟨f,trivial⟩ (by simp) a _ rfl).mono ?_;rintro e j ⟨rfl,d⟩
 go_wp2
 go_ret;exact⟨by simp[Wy],d⟩
def Src(w:World)(b:Nat)(c:List UInt8)(a:Bool):Prop:=Blk w b [.string (zp c),.bool a] 276
theorem Ni(a:List UInt8):(zp a).size=a.length:=rfl
theorem VJ(a:List UInt8)(i j:Nat):(zp a).extract i j=zp ((a.drop i).take (j-i)):=by
 apply EM
 apply FZ
 simp[zp]
theorem Ut(b:Nat)(g:List UInt8)(c:Bool)(w:World)(h:Src w b g c) :
 Calls Tryz.prog 153 #[.pointer (some ⟨b,0,none⟩)] w fun e d=>e=.returned (.tuple #[])/\Src d b [] true/\Fr (fun k=>k=b) w d:=by
 have i:=h.cell;have j:=h.frozen;have a:Src ((w.setCell ⟨b,0,none⟩ (.string (zp []))).setCell ⟨b,1,none⟩ (.bool true)) b [] true/\Fr (fun k=>k=b) w ((w.setCell ⟨b,0,none⟩ (.string (zp []))).setCell ⟨b,1,none⟩ (.bool true)) :=
  ⟨(Blk.set h 0 _).set 1 _,Fr.set (S:=fun k=>k=b) (Fr.set (S:=fun k=>k=b) (U _ _) (fun _=>rfl) _) (fun _=>rfl) _⟩
 have f:=Z a;clear a h;go_enter Tryz.func153,Tryz.ntmps153
 go_wp2
 exact Gn (v:=.tuple #[]) (by simp[results,go_sem]) rfl ⟨rfl,f.out⟩
theorem Uu(b:Nat)(c:List UInt8)(a:Bool)(w:World)(h:Src w b c a) :
 Calls Tryz.prog 192 #[.pointer (some ⟨b,0,none⟩)] w fun e d=>e=.returned (.int .i64 c.length)/\Fr Nil w d:=by
 have f:=h.cell;clear h;go_enter Tryz.func192,Tryz.ntmps192
 go_wp2
 go_ret;exact⟨rfl,U _ _⟩
theorem XY(n b:Nat)(a:List UInt8)(c:Bool)(w:World)(h:Src w b a c)(j:n<=a.length) :
 Calls Tryz.prog 193 #[.pointer (some ⟨b,0,none⟩),.int .i64 n] w fun e f=>e=.returned (.string (zp (a.take n)))/\Src f b (a.drop n) c/\Fr (fun k=>k=b) w f:=by
 have i:=h.cell;have m:=h.frozen;have l:(zp a).size=a.length:=rfl;have d:Hid ((zp a).extract 0 n=zp (a.take n)/\(zp a).extract n a.length=zp (a.drop n)) :=
  ⟨by rw[VJ];simp,by rw[VJ,Il (by simp)]⟩
 have g:Hid (Src (w.setCell ⟨b,0,none⟩ (.string (zp (a.drop n)))) b (a.drop n) c/\Fr (fun k=>k=b) w (w.setCell ⟨b,0,none⟩ (.string (zp (a.drop n))))) :=
  ⟨Blk.set h 0 _,Fr.set (S:=fun k=>k=b) (U _ _) (fun _=>rfl) _⟩
 clear h;go_enter Tryz.func193,Tryz.ntmps193;go_wp2_with fail;go_ret;rw[d.out.1,d.out.2];exact⟨rfl,g.out⟩
theorem SZ(n b:Nat)(c:List UInt8)(a:Bool)(w:World)(h:Src w b c a)(j:c.length<n) :
 Calls Tryz.prog 193 #[.pointer (some ⟨b,0,none⟩),.int .i64 n] w fun e f=>e=.returned (.string (zp []))/\Src f b [] true/\Fr (fun k=>k=b) w f:=by
 have i:=h.cell;have m:=h.frozen;have l:(zp c).size=c.length:=rfl;have g:=Z h;clear h;go_enter Tryz.func193,Tryz.ntmps193
 go_wp2_with (refine(Ut b c a w g.out).mono ?_;rintro e o ⟨rfl,d⟩)
 go_ret;exact⟨rfl,d⟩
def ZK(i a:Nat):List UInt8->Option (Nat × List UInt8)
 | []=>none
 | c::b=>if 9<=i then none else if c.toNat<128 then some (a+c.toNat*128^i,b) else ZK (i+1) (a+(c.toNat%128)*128^i) b
theorem Td:∀ n<128,(UInt8.ofNat n).toNat=n:=by decide
theorem Nj(r:List UInt8):∀ (n i c:Nat),0<i->0<n->n*128^i<9223372036854775808->ZK i c (zk n++r)=some (c+n*128^i,r):=by
 intro n
 induction n using Nat.strongRecOn with
 | ind n j =>
  intro i c l g h;have d:¬9<=i:=by
   intro d;have:128^9<=128^i:=Nat.pow_le_pow_right (by omega) d;have k:1*128^i<=n*128^i:=IC _ g;simp only[Nat.reducePow] at this;omega
  by_cases a:n<128
  .rw[YT a]
   simp only[It,IE,ZK];rw[Ie d,Td n a,Io a]
  .rw[Xl a]
   have e:(UInt8.ofNat (n%128+128)).toNat=n%128+128:=by simp;omega
   simp only[It,ZK];rw[Ie d,e,Ie (by omega)];have b:128^(i+1)=128^i*128:=Cs ..;have f:n / 128*(128^i*128)+n%128*128^i=n*128^i:=by
    rw[Nat.mul_comm (128^i) 128,<- Nat.mul_assoc,<- Gr,Nat.mul_comm (n / 128) 128,Nat.div_add_mod]
   rw[j (n / 128) (by omega) (i+1) _ (by omega) (by omega) (by rw[b];omega),b]
   congr 2
   rw[show(n%128+128)%128=n%128 by omega];omega
theorem Qq(n:Nat)(r:List UInt8)(c:n<9223372036854775808):ZK 0 0 (zk n++r)=some (n,r):=by
 by_cases a:n<128
 .rw[YT a]
  simp only[It,IE,ZK];rw[Ie (by omega),Td n a,Io a];simp
 .rw[Xl a]
  have b:(UInt8.ofNat (n%128+128)).toNat=n%128+128:=by simp;omega
  simp only[It,ZK];rw[Ie (by omega),b,Ie (by omega),Nj r (n / 128) 1 _ (by omega) (by omega) (by omega)]
  congr 2
  omega
theorem Nk:∀(n i d:Nat)(p:List UInt8),p<+:zk n->p≠zk n->ZK i d p=none:=by
 intro n
 induction n using Nat.strongRecOn with
 | ind n k =>
  intro i d p g a;rcases p with-| ⟨c,p⟩
  .rfl
  by_cases f:n<128
  .rw[YT f] at g a
   obtain⟨t,b⟩:=g;simp at b;exact absurd (by rw[b.1,b.2.1]) a
  .rw[Xl f] at g a
   obtain⟨t,b⟩:=g;simp only[It,Cc] at b;obtain⟨rfl,b⟩:=b;have j:(UInt8.ofNat (n%128+128)).toNat=n%128+128:=by simp;omega
   simp only[ZK];by_cases h:9<=i
   .rw[Io h]
   .rw[Ie h,j,Ie (by omega)]
    exact k (n / 128) (by omega) _ _ p ⟨t,b⟩ (fun e=>a (by rw[e]))
theorem OM(i a m:Nat)(d:i<9)(b:a<128^i)(e:m<128):bits .or .u64 (a:Int) (IntKind.u64.wrap ((m:Int)*2^(i*7)))=((a+m*128^i:Nat):Int)/\a+m*128^i<128^(i+1)/\a+m*128^i<9223372036854775808:=by
 have c:i=0\/i=1\/i=2\/i=3\/i=4\/i=5\/i=6\/i=7\/i=8:=by omega
 rcases c with rfl|rfl|rfl|rfl|rfl|rfl|rfl|rfl|rfl
 all_goals
  simp only[Nat.reducePow,Nat.reduceMul,Nat.reduceAdd,Int.reducePow] at b |-;refine⟨?_,by omega,by omega⟩;rw[FU _ (by omega) (by omega)]
 .exact(Fq .u64 64 (by decide) FU 0 _ _ (by omega) (by omega) (by omega) (by omega) (by omega) (by omega)).trans (by omega)
 .exact(Fq .u64 64 (by decide) FU 7 _ _ (by omega) (by omega) (by omega) (by omega) (by omega) (by omega)).trans (by omega)
 .exact(Fq .u64 64 (by decide) FU 14 _ _ (by omega) (by omega) (by omega) (by omega) (by omega) (by omega)).trans (by omega)
 .exact(Fq .u64 64 (by decide) FU 21 _ _ (by omega) (by omega) (by omega) (by omega) (by omega) (by omega)).trans (by omega)
 .exact(Fq .u64 64 (by decide) FU 28 _ _ (by omega) (by omega) (by omega) (by omega) (by omega) (by omega)).trans (by omega)
 .exact(Fq .u64 64 (by decide) FU 35 _ _ (by omega) (by omega) (by omega) (by omega) (by omega) (by omega)).trans (by omega)
 .exact(Fq .u64 64 (by decide) FU 42 _ _ (by omega) (by omega) (by omega) (by omega) (by omega) (by omega)).trans (by omega)
 .exact(Fq .u64 64 (by decide) FU 49 _ _ (by omega) (by omega) (by omega) (by omega) (by omega) (by omega)).trans (by omega)
 .exact(Fq .u64 64 (by decide) FU 56 _ _ (by omega) (by omega) (by omega) (by omega) (by omega) (by omega)).trans (by omega)
theorem MI(i a:Nat)(c:UInt8)(f:i<9)(b:a<128^i) :
 bits .or .u64 (a:Int) (IntKind.u64.wrap (IntKind.u64.wrap (bits .and .u8 (c.toNat:Int) 127)*2^(i*7)))=((a+c.toNat%128*128^i:Nat):Int):=by
 have g:c.toNat<256:=UInt8.toNat_lt c;have e:bits .and .u8 (c.toNat:Int) 127=((c.toNat%128:Nat):Int):=(bits_mask .u8 8 (by decide) wraps_u8 7 (by decide) (c.toNat:Int) (by omega) (by omega)).trans (by omega);have d:IntKind.u64.wrap ((c.toNat%128:Nat):Int)=((c.toNat%128:Nat):Int):=FU _ (by omega) (by omega);rw[e,d];exact(OM i a (c.toNat%128) f b (by omega)).1
theorem Nl{n:Nat}(h:n<9223372036854775808):wrap64 (n:Int)=n:=by unfold wrap64;omega
def Jw(R:Option (Nat × List UInt8))(b:Nat)(c:Bool)(w:World)(e:Ending)(a:World):Prop :=
 match R with
 | some (n,r)=>e=.returned (.int .i64 n)/\Src a b r c/\Fr (fun k=>k=b) w a
 | none=>e=.returned (.int .i64 0)/\Src a b [] true/\Fr (fun k=>k=b) w a
theorem Wz(b:Nat)(C:List UInt8)(f:Bool)(w:World)(h:Src w b C f)(q:f=true->C=[]) :
 Calls Tryz.prog 149 #[.pointer (some ⟨b,0,none⟩)] w fun e E=>Jw (ZK 0 0 C) b f w e E:=by
 generalize m:ZK 0 0 C=R;have Q:=Z m;have O:=Z h;have N:=Z q;clear m h q;go_enter Tryz.func149,Tryz.ntmps149;go_wp2_with fail
 go_loopw [3,4] (fun T J E=>∃ (i d:Nat) (l:List UInt8),T=.int .u64 d/\J=.int .i64 ((i*7:Nat):Int)/\i<=9/\d<128^i/\ZK i d l=R/\Src E b l f/\(f=true->l=[])/\Fr (fun k=>k=b) w E) (fun _ J _=>(63-intOf J).toNat)
 case atStart=>exact⟨0,0,C,rfl,rfl,by omega,by simp,Q.out,O.out,N.out,U _ _⟩
 case round =>
  obtain⟨i,d,l,rfl,rfl,X,j,m,t,x,D⟩:=hrel;by_cases S:i=9
  .subst S
   have o:R=none:=by rw[<- m];cases l <;> simp[ZK]
   have r:=Z o;have v:=Z t;clear t x m j o
   go_wp2_with (refine(Ut b l f wr v.out).mono ?_;rintro e K ⟨rfl,a⟩)
   go_ret;rw[r.out];exact⟨rfl,a.1,D.trans a.2⟩
  have A:i<9:=by omega
  rcases l with-| ⟨c,l⟩
  .have o:R=none:=by rw[<- m];simp[ZK]
   have r:=Z o;have v:=Z t;clear t x m j o
   go_wp2_with (refine(SZ 1 b [] f wr v.out (by simp)).mono ?_;rintro e K ⟨rfl,a,g⟩;have y:=a.cell;have p:=Z (And.intro a g);clear a g)
   go_ret;rw[r.out];exact⟨rfl,p.out.1,D.trans p.out.2⟩
  have G:f=false:=by cases f with|false=>rfl|true=>simp at x
  subst G;have v:=Z t;have M:=Z (MI i d c A j);have L:=Z (OM i d (c.toNat%128) A j (EG _ (by omega)));have I:0<(zp [c]).size:=by show 0<1;omega
  have V:((zp [c])[0]'I).toNat=c.toNat:=rfl;by_cases u:c.toNat<128
  .have hRs:R=some (d+c.toNat%128*128^i,l):=by rw[<- m];simp only[ZK];rw[Ie (by omega),Io u,DC u]
   have s:=Z hRs;clear t x m hRs
   go_wp2_with (refine(XY 1 b (c::l) false wr v.out (by simp)).mono ?_;rintro e K ⟨rfl,a,g⟩;have y:=a.cell;have p:=Z (And.intro a g);clear a g)
   go_ret;rw[s.out];have B:=L.out.2.2;exact⟨by rw[M.out,Nl B];rfl,p.out.1,D.trans p.out.2⟩
  .have hRs:ZK (i+1) (d+c.toNat%128*128^i) l=R:=by rw[<- m];simp only[ZK];rw[Ie (by omega),Ie u]
   have s:=Z hRs;clear t x m hRs
   go_wp2_with (refine(XY 1 b (c::l) false wr v.out (by simp)).mono ?_;rintro e K ⟨rfl,a,g⟩;have y:=a.cell;have p:=Z (And.intro a g);clear a g)
   refine⟨⟨i+1,d+c.toNat%128*128^i,l,by rw[M.out],by go_num,by omega,L.out.2.1,s.out,p.out.1,by simp,D.trans p.out.2⟩,?_⟩;simp[intOf];omega
end Go.Proofs.YtkhnggkkiefcdaaGreatDoor
