/- larder: joined texts -/
import Derived.Test.YtkhnggkkiefcdaaGreatDoorUNAA
import Derived.Test.YtkhnggkkiefcdaaGreatDoorChecked
import Derived.Lib.EndianBits
namespace Go.Proofs.YtkhnggkkiefcdaaGreatDoor
open Go.RowKit
set_option maxRecDepth 100000
set_option maxHeartbeats 8000000
abbrev FQ:=@Go.bits_join_low
abbrev Et:=@Go.wraps_u64
structure FM where
 bytes:List UInt8
 safe:Nat
abbrev Dir:=List (ByteArray × Nat)
structure DM where
 dir:Dir
 safe:Dir
 Bl:List Dir
 file:Nat->FM
 ids:List Nat
 room:Int
 calls:Int
 cut:Int
 fail:Int
 part:Int
 refused:Int
 Bo:Int
 dead:Bool
structure DL where
 BN:Value
 BB:Value
 Au:Value
 BH:List Value
 fV:Nat->Value
def flat(d:Dir):List Value:=d.flatMap fun e=>[.string e.1,.pointer (some ⟨e.2,0,none⟩)]
theorem O6(d:Dir):(flat d).length=d.length*2:=by
 induction d with
 | nil=>rfl
 | cons e d a=>simp only[flat,Gt,Il,Iz,Ho] at a |-;omega
theorem ZD(d:Dir):∀ (k:Nat)(h:k<d.length),(flat d)[k*2]?=some (.string d[k].1)/\(flat d)[k*2+1]?=some (.pointer (some ⟨d[k].2,0,none⟩)):=by
 induction d with
 | nil=>intro k h;simp at h
 | cons e d b =>
  intro k h;cases k with
  | zero=>exact⟨rfl,rfl⟩
  | succ k =>
   have:=b k (by simpa using h);have a:(k+1)*2=k*2+2:=by omega
   simp only[flat,Gt,a] at this |-;exact this
def zP(d:Dir)(a:ByteArray):Int :=
 match d.findIdx? (fun e=>e.1==a) with
 | some i=>i
 | none=>-1
theorem L7(d:Dir)(a:ByteArray)(k:Nat)(g:k<d.length)(c:∀ j (b:j<d.length),j<k->(d[j].1==a)=false)(f:(d[k].1==a)=true) :
 zP d a=k:=by
 have:d.findIdx? (fun e=>e.1==a)=some k:=by
  rw[Fm];exact⟨g,f,fun j b=>by have:=c j (by omega) b;simpa using this⟩
 simp[zP,this]
theorem NF(d:Dir)(a:ByteArray)(c:∀ j (b:j<d.length),(d[j].1==a)=false):zP d a=-1:=by
 have:d.findIdx? (fun e=>e.1==a)=none:=by
  rw[List.findIdx?_eq_none_iff];intro x f;obtain⟨j,b,rfl⟩:=Fb f;exact c j b
 simp[zP,this]
theorem JW{k:IntKind}{a b:Int}(h:a=b):Ending.returned (.int k a)=.returned (.int k b):=by rw[h]
theorem Tl(v:Value)(d:Dir)(b:ByteArray)(w:World)(h:w.ownsRow 0 148 2 v d.length (flat d)) :
 Calls Tryz.prog 87 #[v,.string b] w fun e u=>e=.returned (.int .i64 (zP d b))/\Fr Nil w u:=by
 have B:=zG h;unfold maxLen at B;obtain⟨a,p,rfl⟩:=zg h;go_enter Tryz.func87,Tryz.ntmps87
 go_wp2
 go_loopw [8] (fun t u=>∃ k:Nat,k<=d.length/\t=.int .i64 k/\(∀ j (c:j<d.length),j<k->(d[j].1==b)=false)/\Fr Nil w u) (fun t _=>d.length-(intOf t).toNat)
 case atStart=>exact⟨0,II _,rfl,fun j _ c=>absurd c (Hj _),U _ _⟩
 case round =>
  obtain⟨k,E,rfl,c,o⟩:=hrel;by_cases l:k<d.length
  .obtain⟨g,rfl⟩:∃ g,a=some ⟨g,0,none⟩:=by
    rcases h.2 with⟨q,C⟩|⟨g,p,y,q,_⟩
    .omega
    .simp at q;exact⟨g,q.1⟩
   have D:=own_cell? (ze h o (fun _ _=>id)) (k*2) _ (ZD d k l).1;have m:=Er d[k].1 b;cases hm:(d[k].1==b) with
   | true =>
    have r:(d[k].1.toList==b.toList)=true:=by rw[<- m];exact hm
    clear m;have s:=L7 d b k l c hm;clear hm c
    go_wp2
    go_ret;exact⟨JW s.symm,o⟩
   | false =>
    have r:(d[k].1.toList==b.toList)=false:=by rw[<- m];exact hm
    clear m;have i:∀ j (c:j<d.length),j<k+1->(d[j].1==b)=false:=by
     intro j f A;by_cases e:j=k
     .subst e;exact hm
     .exact c j f (by omega)
    clear hm c;have x:=Z i;clear i
    go_wp2
    exact⟨⟨k+1,by omega,by go_num,x.out,o⟩,by simp[intOf];omega⟩
  .have s:=NF d b (fun j f=>c j f (by omega))
   clear c
   go_wp2
   go_ret;exact⟨JW s.symm,o⟩
def DM.cells(L:DL)(M:DM):List Value :=
 [L.BN,L.BB,L.Au,.int .i64 M.room,.int .i64 M.calls,.int .i64 M.cut,.int .i64 M.fail,.int .i64 M.part,.int .i64 M.refused,.int .i64 M.Bo,.bool M.dead]
structure DRep(w:World)(b:Nat)(L:DL)(M:DM):Prop where
 Bi:Blk w b (M.cells L) 143
 dir:w.ownsRow 0 148 2 L.BN M.dir.length (flat M.dir)
 safe:w.ownsRow 0 148 2 L.BB M.safe.length (flat M.safe)
 ch:w.ownsRow 0 145 1 L.Au M.Bl.length L.BH
 Ar:L.BH.length=M.Bl.length
 Bl:∀ i (h1:i<L.BH.length) (h2:i<M.Bl.length),w.ownsRow 0 148 2 L.BH[i] M.Bl[i].length (flat M.Bl[i])
 files:∀ f,f∈M.ids->Blk w f [L.fV f,.int .i64 (M.file f).safe] 152
 rows:∀ f,f∈M.ids->w.ownsRow 0 5 1 (L.fV f) (M.file f).bytes.length (u8s (M.file f).bytes)
 sep:∀ f,f∈M.ids->∀ g,g∈M.ids->f≠g->∀ k,(L.fV f).ownBlock=some k->(L.fV g).ownBlock≠some k
 le:∀ f,f∈M.ids->(M.file f).safe<=(M.file f).bytes.length
 Ad:∀ e,e∈M.dir->e.2∈M.ids
 AW:∀ e,e∈M.safe->e.2∈M.ids
 AU:∀ d,d∈M.Bl->∀ e,e∈d->e.2∈M.ids
def Foot(b:Nat)(L:DL)(M:DM)(k:Nat):Prop :=
 k=b\/L.BN.ownBlock=some k\/L.BB.ownBlock=some k\/L.Au.ownBlock=some k
  \/ (∃ (i:Nat) (_:i<L.BH.length),L.BH[i].ownBlock=some k)\/k∈M.ids\/(∃ f,f∈M.ids/\(L.fV f).ownBlock=some k)
theorem Foot.Bi{b:Nat}{L:DL}{M:DM}:Foot b L M b:=.inl rfl
theorem Foot.dir{b:Nat}{L:DL}{M:DM}{k:Nat}(h:L.BN.ownBlock=some k):Foot b L M k:=.inr (.inl h)
theorem Foot.safe{b:Nat}{L:DL}{M:DM}{k:Nat}(h:L.BB.ownBlock=some k):Foot b L M k:=.inr (.inr (.inl h))
theorem Foot.ch{b:Nat}{L:DL}{M:DM}{k:Nat}(h:L.Au.ownBlock=some k):Foot b L M k:=.inr (.inr (.inr (.inl h)))
theorem Foot.Bl{b:Nat}{L:DL}{M:DM}{k:Nat}(i:Nat)(a:i<L.BH.length)(h:L.BH[i].ownBlock=some k):Foot b L M k:=.inr (.inr (.inr (.inr (.inl ⟨i,a,h⟩))))
theorem Foot.file{b:Nat}{L:DL}{M:DM}{k:Nat}(h:k∈M.ids):Foot b L M k:=.inr (.inr (.inr (.inr (.inr (.inl h)))))
theorem Foot.row{b:Nat}{L:DL}{M:DM}{k:Nat}(f:Nat)(a:f∈M.ids)(h:(L.fV f).ownBlock=some k):Foot b L M k:=.inr (.inr (.inr (.inr (.inr (.inr ⟨f,a,h⟩)))))
theorem Foot.elim{b:Nat}{L:DL}{M:DM}{motive:(k:Nat)->Foot b L M k->Prop}(blk:motive b .Bi)
 (dir:∀ {k:Nat}(h:L.BN.ownBlock=some k),motive k (.dir h))(safe:∀ {k:Nat}(h:L.BB.ownBlock=some k),motive k (.safe h))
 (ch:∀ {k:Nat}(h:L.Au.ownBlock=some k),motive k (.ch h))
 (chs:∀ {k:Nat}(i:Nat)(h1:i<L.BH.length)(h:L.BH[i].ownBlock=some k),motive k (.Bl i h1 h))
 (file:∀ {k:Nat}(h:k∈M.ids),motive k (.file h))(row:∀ {k:Nat}(f:Nat)(hf:f∈M.ids)(h:(L.fV f).ownBlock=some k),motive k (.row f hf h))
 {k:Nat}(h:Foot b L M k):motive k h:=by
 rcases id h with e|e|e|e|⟨i,h1,e⟩|e|⟨f,hf,e⟩
 .subst e;exact blk
 .exact dir e
 .exact safe e
 .exact ch e
 .exact chs i h1 e
 .exact file e
 .exact row f hf e
theorem DRep.lt{w:World}{b:Nat}{L:DL}{M:DM}(h:DRep w b L M){k:Nat}(o:Foot b L M k):k<w.heap.size:=by
 cases o using Foot.elim with
 | blk=>exact h.Bi.lt
 | dir e=>exact own_lt h.dir e
 | safe e=>exact own_lt h.safe e
 | ch e=>exact own_lt h.ch e
 | chs i a e=>exact own_lt (h.Bl i a (by rw[<- h.Ar];exact a)) e
 | file e=>exact(h.files k e).lt
 | row f c e=>exact own_lt (h.rows f c) e
theorem DRep.fr{w w':World}{b:Nat}{L:DL}{M:DM}{S:Nat->Prop}(h:DRep w b L M)(f:Fr S w w')(a:∀ k,Foot b L M k->¬S k):DRep w' b L M where
 Bi:=h.Bi.fr f (a _ .Bi)
 dir:=ze h.dir f fun _ e=>a _ (.dir e)
 safe:=ze h.safe f fun _ e=>a _ (.safe e)
 ch:=ze h.ch f fun _ e=>a _ (.ch e)
 Ar:=h.Ar
 Bl:=fun i o q=>ze (h.Bl i o q) f fun _ e=>a _ (.Bl i o e)
 files:=fun g c=>(h.files g c).fr f (a _ (.file c))
 rows:=fun g c=>ze (h.rows g c) f fun _ e=>a _ (.row g c e)
 sep:=h.sep
 le:=h.le
 Ad:=h.Ad
 AW:=h.AW
 AU:=h.AU
theorem DRep.own{w w':World}{b:Nat}{L:DL}{M M':DM}(h:DRep w b L M)(y:Blk w' b (M'.cells L) 143)(f:Fr (fun k=>k=b) w w')
 (q:M'.dir=M.dir)(r:M'.safe=M.safe)(m:M'.Bl=M.Bl)(o:M'.file=M.file)(c:M'.ids=M.ids):DRep w' b L M' where
 Bi:=y
 dir:=by rw[q];exact ze h.dir f fun _ e a=>by subst a;exact zi h.dir h.Bi (by decide) e
 safe:=by rw[r];exact ze h.safe f fun _ e a=>by subst a;exact zi h.safe h.Bi (by decide) e
 ch:=by rw[m];exact ze h.ch f fun _ e a=>by subst a;exact zi h.ch h.Bi (by decide) e
 Ar:=by rw[m];exact h.Ar
 Bl:=by
  rw[m];exact fun i t u=>ze (h.Bl i t u) f fun _ e a=>by subst a;exact zi (h.Bl i t u) h.Bi (by decide) e
 files:=by rw[o,c];exact fun g j=>(h.files g j).fr f ((h.files g j).ne h.Bi (by decide))
 rows:=by rw[o,c];exact fun g j=>ze (h.rows g j) f fun _ e a=>by subst a;exact zi (h.rows g j) h.Bi (by decide) e
 sep:=by rw[c];exact h.sep
 le:=by rw[o,c];exact h.le
 Ad:=by rw[q,c];exact h.Ad
 AW:=by rw[r,c];exact h.AW
 AU:=by rw[m,c];exact h.AU
def DM.Bg(M:DM):Bool × Int × DM :=
 let c:=wrap64 (M.calls+1)
 if M.dead=true then(false,9,{M with calls:=c,refused:=wrap64 (M.refused+1)})
 else if (c==M.cut)=true then(true,9,{M with calls:=c,refused:=wrap64 (M.refused+1),dead:=true})
 else if (c==M.fail)=true then(false,9,{M with calls:=c,refused:=wrap64 (M.refused+1)})
 else(true,0,{M with calls:=c})
theorem DM.yh(M:DM)(a:M.dead=true):M.Bg=(false,9,{M with calls:=wrap64 (M.calls+1),refused:=wrap64 (M.refused+1)}):=by
 simp[DM.Bg,a]
theorem DM.yw(M:DM)(b:M.dead=false)(a:(wrap64 (M.calls+1)==M.cut)=true) :
 M.Bg=(true,9,{M with calls:=wrap64 (M.calls+1),refused:=wrap64 (M.refused+1),dead:=true}):=by
 simp[DM.Bg,b,a]
theorem DM.yn(M:DM)(c:M.dead=false)(a:(wrap64 (M.calls+1)==M.cut)=false)(b:(wrap64 (M.calls+1)==M.fail)=true) :
 M.Bg=(false,9,{M with calls:=wrap64 (M.calls+1),refused:=wrap64 (M.refused+1)}):=by
 simp[DM.Bg,c,a,b]
theorem DM.yH(M:DM)(c:M.dead=false)(a:(wrap64 (M.calls+1)==M.cut)=false)(b:(wrap64 (M.calls+1)==M.fail)=false) :
 M.Bg=(true,0,{M with calls:=wrap64 (M.calls+1)}):=by
 simp[DM.Bg,c,a,b]
theorem NG(w:World)(b:Nat)(L:DL)(M:DM)(h:Blk w b (M.cells L) 143) :
 Calls Tryz.prog 209 #[.pointer (some ⟨b,0,none⟩)] w fun e f =>
  e=.returned (.tuple #[.bool M.Bg.1,.int .i64 M.Bg.2.1])/\Blk f b (M.Bg.2.2.cells L) 143/\Fr (fun k=>k=b) w f:=by
 have d:=h.cell;have g:=h.frozen;have a:=Z h;clear h;simp only[DM.cells] at d;cases hd:M.dead with
 | true =>
  rw[hd] at d;rw[M.yh hd];have c:=Z hd;clear hd;go_enter Cu,Ca
  go_wp2
  go_ret2;refine⟨rfl,?_,(by repeat' first|exact U _ _|(with_reducible assumption)|refine Fr.drewN ?_ _|refine Fr.drew ?_|refine Fr.alloc ?_ _|refine Fr.set ?_ ?_ _|(intro _;rfl))⟩;have:=(a.out.set 4 (.int .i64 (wrap64 (M.calls+1)))).set 8 (.int .i64 (wrap64 (M.refused+1)));exact this
 | false =>
  rw[hd] at d;cases h1:(wrap64 (M.calls+1)==M.cut) with
  | true =>
   rw[M.yw hd h1];have c:=Z hd;clear hd;go_enter Cu,Ca
   go_wp2
   go_quiet (fail)
   go_wp2
   go_ret2;refine⟨rfl,?_,(by repeat' first|exact U _ _|(with_reducible assumption)|refine Fr.drewN ?_ _|refine Fr.drew ?_|refine Fr.alloc ?_ _|refine Fr.set ?_ ?_ _|(intro _;rfl))⟩;have:=((a.out.set 4 (.int .i64 (wrap64 (M.calls+1)))).set 8 (.int .i64 (wrap64 (M.refused+1)))).set 10 (.bool true);exact this
  | false =>
   cases h2:(wrap64 (M.calls+1)==M.fail) with
   | true =>
    rw[M.yn hd h1 h2];have c:=Z hd;clear hd;go_enter Cu,Ca
    go_wp2
    go_quiet (fail)
    go_wp2
    go_quiet (fail)
    go_wp2
    go_ret2;refine⟨rfl,?_,(by repeat' first|exact U _ _|(with_reducible assumption)|refine Fr.drewN ?_ _|refine Fr.drew ?_|refine Fr.alloc ?_ _|refine Fr.set ?_ ?_ _|(intro _;rfl))⟩;have:=(a.out.set 4 (.int .i64 (wrap64 (M.calls+1)))).set 8 (.int .i64 (wrap64 (M.refused+1)));exact this
   | false =>
    rw[M.yH hd h1 h2];have c:=Z hd;clear hd;go_enter Cu,Ca
    go_wp2
    go_quiet (fail)
    go_wp2
    go_quiet (fail)
    go_wp2
    go_ret2;refine⟨rfl,?_,(by repeat' first|exact U _ _|(with_reducible assumption)|refine Fr.drewN ?_ _|refine Fr.drew ?_|refine Fr.alloc ?_ _|refine Fr.set ?_ ?_ _|(intro _;rfl))⟩;have:=a.out.set 4 (.int .i64 (wrap64 (M.calls+1)));exact this
theorem Qp(w:World)(b:Nat)(L:DL)(M:DM)(h:DRep w b L M) :
 Calls Tryz.prog 209 #[.pointer (some ⟨b,0,none⟩)] w fun e a =>
  e=.returned (.tuple #[.bool M.Bg.1,.int .i64 M.Bg.2.1])/\DRep a b L M.Bg.2.2/\Fr (fun k=>k=b) w a:=by
 refine(NG w b L M h.Bi).mono fun e a ⟨d,f,c⟩=>⟨d,?_,c⟩;refine h.own f c ?_ ?_ ?_ ?_ ?_ <;> (unfold DM.Bg;dsimp only;(repeat' split) <;> rfl)
def DM.new(a:Int):DM:={dir:=[],safe:=[],Bl:=[],file:=fun _=>⟨[],0⟩,ids:=[],room:=a,calls:=0,cut:=0,fail:=0,part:=0,refused:=0,Bo:=0,dead:=false}
def DL.new:DL:={BN:=.slice none 0 0,BB:=.slice none 0 0,Au:=.slice none 0 0,BH:=[],fV:=fun _=>.slice none 0 0}
theorem DRep.new{w:World}{b:Nat}{c:Int}(h:Blk w b ((DM.new c).cells DL.new) 143):DRep w b DL.new (DM.new c) where
 Bi:=h
 dir:=IX w 0 _ _
 safe:=IX w 0 _ _
 ch:=IX w 0 _ _
 Ar:=rfl
 Bl:=fun i a=>absurd a (Hj _)
 files:=fun f a=>by cases a
 rows:=fun f a=>by cases a
 sep:=fun f a=>by cases a
 le:=fun f a=>by cases a
 Ad:=fun f a=>by cases a
 AW:=fun f a=>by cases a
 AU:=fun f a=>by cases a
theorem L8(a:Int)(w:World) :
 Calls Tryz.prog 50 #[.int .i64 a] w fun e b=>e=.returned (.pointer (some ⟨w.heap.size,0,none⟩))/\DRep b w.heap.size DL.new (DM.new a)/\Fr Nil w b/\b.heap.size=w.heap.size+1:=by
 go_enter Tryz.func50,Tryz.ntmps50
 go_wp2
 go_ret;exact⟨rfl,DRep.new (Blk.new _ _ _),(by repeat' first|exact U _ _|(with_reducible assumption)|refine Fr.drewN ?_ _|refine Fr.drew ?_|refine Fr.alloc ?_ _|refine Fr.set ?_ ?_ _|(intro _;rfl)),by simp⟩
theorem NH(w:World)(b:Nat)(L:DL)(M:DM)(h:DRep w b L M) :
 Calls Tryz.prog 38 #[.pointer (some ⟨b,0,none⟩)] w fun e c=>e=.returned (.bool M.dead)/\c=w:=by
 have a:=h.Bi.cell;simp only[DM.cells] at a;go_enter Tryz.func38,Tryz.ntmps38
 go_wp2
 go_ret;exact⟨rfl,rfl⟩
theorem Wk(w:World)(b:Nat)(L:DL)(M:DM)(h:DRep w b L M) :
 Calls Tryz.prog 47 #[.pointer (some ⟨b,0,none⟩)] w fun e c=>e=.returned (.int .i64 M.refused)/\c=w:=by
 have a:=h.Bi.cell;simp only[DM.cells] at a;go_enter Tryz.func47,Tryz.ntmps47
 go_wp2
 go_ret;exact⟨rfl,rfl⟩
def DM.Ab(M:DM)(n:Int):DM:={M with cut:=if 0<n then wrap64 (M.calls+n) else 0}
theorem SG(n:Int)(w:World)(b:Nat)(L:DL)(M:DM)(h:DRep w b L M) :
 Calls Tryz.prog 37 #[.pointer (some ⟨b,0,none⟩),.int .i64 n] w fun e d =>
  e=.returned (.tuple #[])/\DRep d b L (M.Ab n)/\Fr (fun k=>k=b) w d:=by
 have f:=h.Bi.cell;have g:=h.Bi.frozen;simp only[DM.cells] at f;have a:=Z h;clear h;by_cases c:0<n
 .have HM:Hid (M.Ab n={M with cut:=wrap64 (M.calls+n)}):=by simp[Hid,DM.Ab,c]
  go_enter Tryz.func37,Tryz.ntmps37
  go_wp2
  go_end0
  rw[HM.out];refine⟨rfl,a.out.own ?_ (by repeat' first|exact U _ _|(with_reducible assumption)|refine Fr.drewN ?_ _|refine Fr.drew ?_|refine Fr.alloc ?_ _|refine Fr.set ?_ ?_ _|(intro _;rfl)) rfl rfl rfl rfl rfl,(by repeat' first|exact U _ _|(with_reducible assumption)|refine Fr.drewN ?_ _|refine Fr.drew ?_|refine Fr.alloc ?_ _|refine Fr.set ?_ ?_ _|(intro _;rfl))⟩;have:=(a.out.Bi.set 5 (.int .i64 0)).set 5 (.int .i64 (wrap64 (M.calls+n)));exact this
 .have HM:Hid (M.Ab n={M with cut:=0}):=by simp[Hid,DM.Ab,c]
  go_enter Tryz.func37,Tryz.ntmps37
  go_wp2
  go_end0
  rw[HM.out];refine⟨rfl,a.out.own ?_ (by repeat' first|exact U _ _|(with_reducible assumption)|refine Fr.drewN ?_ _|refine Fr.drew ?_|refine Fr.alloc ?_ _|refine Fr.set ?_ ?_ _|(intro _;rfl)) rfl rfl rfl rfl rfl,(by repeat' first|exact U _ _|(with_reducible assumption)|refine Fr.drewN ?_ _|refine Fr.drew ?_|refine Fr.alloc ?_ _|refine Fr.set ?_ ?_ _|(intro _;rfl))⟩;have:=(a.out.Bi.set 5 (.int .i64 0));exact this
def DM.BL(M:DM)(n a:Int):DM:={M with fail:=if 0<n then wrap64 (M.calls+n) else 0,part:=if a<0 then wrap64 (-(wrap64 (a+1))) else a}
theorem Tm(n a:Int)(w:World)(b:Nat)(L:DL)(M:DM)(h:DRep w b L M) :
 Calls Tryz.prog 46 #[.pointer (some ⟨b,0,none⟩),.int .i64 n,.int .i64 a] w fun e g =>
  e=.returned (.tuple #[])/\DRep g b L (M.BL n a)/\Fr (fun k=>k=b) w g:=by
 have i:=h.Bi.cell;have j:=h.Bi.frozen;simp only[DM.cells] at i;have c:=Z h;clear h;by_cases d:0<n <;> by_cases f:a<0
 .have HM:Hid (M.BL n a={M with fail:=wrap64 (M.calls+n),part:=wrap64 (-(wrap64 (a+1)))}):=by simp[Hid,DM.BL,d,f]
  go_enter CP,Cv
  go_wp2
  go_end0
  rw[HM.out];refine⟨rfl,c.out.own ?_ (by repeat' first|exact U _ _|(with_reducible assumption)|refine Fr.drewN ?_ _|refine Fr.drew ?_|refine Fr.alloc ?_ _|refine Fr.set ?_ ?_ _|(intro _;rfl)) rfl rfl rfl rfl rfl,(by repeat' first|exact U _ _|(with_reducible assumption)|refine Fr.drewN ?_ _|refine Fr.drew ?_|refine Fr.alloc ?_ _|refine Fr.set ?_ ?_ _|(intro _;rfl))⟩;have:=(((c.out.Bi.set 6 (.int .i64 0)).set 6 (.int .i64 (wrap64 (M.calls+n)))).set 7 (.int .i64 a)).set 7 (.int .i64 (wrap64 (-(wrap64 (a+1)))));exact this
 .have HM:Hid (M.BL n a={M with fail:=wrap64 (M.calls+n),part:=a}):=by simp[Hid,DM.BL,d,f]
  go_enter CP,Cv
  go_wp2
  go_end0
  rw[HM.out];refine⟨rfl,c.out.own ?_ (by repeat' first|exact U _ _|(with_reducible assumption)|refine Fr.drewN ?_ _|refine Fr.drew ?_|refine Fr.alloc ?_ _|refine Fr.set ?_ ?_ _|(intro _;rfl)) rfl rfl rfl rfl rfl,(by repeat' first|exact U _ _|(with_reducible assumption)|refine Fr.drewN ?_ _|refine Fr.drew ?_|refine Fr.alloc ?_ _|refine Fr.set ?_ ?_ _|(intro _;rfl))⟩;have:=(((c.out.Bi.set 6 (.int .i64 0)).set 6 (.int .i64 (wrap64 (M.calls+n)))).set 7 (.int .i64 a));exact this
 .have HM:Hid (M.BL n a={M with fail:=0,part:=wrap64 (-(wrap64 (a+1)))}):=by simp[Hid,DM.BL,d,f]
  go_enter CP,Cv
  go_wp2
  go_end0
  rw[HM.out];refine⟨rfl,c.out.own ?_ (by repeat' first|exact U _ _|(with_reducible assumption)|refine Fr.drewN ?_ _|refine Fr.drew ?_|refine Fr.alloc ?_ _|refine Fr.set ?_ ?_ _|(intro _;rfl)) rfl rfl rfl rfl rfl,(by repeat' first|exact U _ _|(with_reducible assumption)|refine Fr.drewN ?_ _|refine Fr.drew ?_|refine Fr.alloc ?_ _|refine Fr.set ?_ ?_ _|(intro _;rfl))⟩;have:=(((c.out.Bi.set 6 (.int .i64 0))).set 7 (.int .i64 a)).set 7 (.int .i64 (wrap64 (-(wrap64 (a+1)))));exact this
 .have HM:Hid (M.BL n a={M with fail:=0,part:=a}):=by simp[Hid,DM.BL,d,f]
  go_enter CP,Cv
  go_wp2
  go_end0
  rw[HM.out];refine⟨rfl,c.out.own ?_ (by repeat' first|exact U _ _|(with_reducible assumption)|refine Fr.drewN ?_ _|refine Fr.drew ?_|refine Fr.alloc ?_ _|refine Fr.set ?_ ?_ _|(intro _;rfl)) rfl rfl rfl rfl rfl,(by repeat' first|exact U _ _|(with_reducible assumption)|refine Fr.drewN ?_ _|refine Fr.drew ?_|refine Fr.alloc ?_ _|refine Fr.set ?_ ?_ _|(intro _;rfl))⟩;have:=(((c.out.Bi.set 6 (.int .i64 0))).set 7 (.int .i64 a));exact this
def Dir.look(d:Dir)(a:ByteArray):Option Nat:=(d.find? fun e=>e.1==a).map (·.2)
theorem Yv(d:Dir)(a:ByteArray) :
 (zP d a=-1/\Dir.look d a=none)\/∃ k:Nat,∃ h:k<d.length,zP d a=k/\Dir.look d a=some d[k].2/\(d[k].1==a)=true:=by
 unfold zP Dir.look;cases hf:d.findIdx? (fun e=>e.1==a) with
 | none =>
  rw[List.findIdx?_eq_none_iff] at hf;refine .inl ⟨rfl,?_⟩;rw[Em.2 (fun x l=>by simpa using hf x l)]
  rfl
 | some k =>
  rw[Fm] at hf;obtain⟨f,c,g⟩:=hf;refine .inr ⟨k,f,rfl,?_,c⟩;rw[(List.find?_eq_some_iff_getElem (xs:=d) (b:=d[k])).2 ⟨c,k,f,rfl,fun j i=>by simpa using g j i⟩]
  rfl
theorem Yr{v:Value}{d:Dir}{a:ByteArray}(c:zP d a=-1)(w:World)(h:w.ownsRow 0 148 2 v d.length (flat d)) :
 Calls Tryz.prog 87 #[v,.string a] w fun e g=>e=.returned (.int .i64 (-1))/\Fr Nil w g:=by
 have:=Tl v d a w h
 rwa [c] at this
theorem zT{v:Value}{d:Dir}{a:ByteArray}{k:Nat}(b:zP d a=k)(w:World)(h:w.ownsRow 0 148 2 v d.length (flat d)) :
 Calls Tryz.prog 87 #[v,.string a] w fun e c=>e=.returned (.int .i64 k)/\Fr Nil w c:=by
 have:=Tl v d a w h
 rwa [b] at this
def DM.size(M:DM)(a:ByteArray):Int × Int :=
 match M.dir.look a with
 | some f=>((M.file f).bytes.length,0)
 | none=>(0,11)
theorem DRep.entry{w:World}{b:Nat}{L:DL}{M:DM}(h:DRep w b L M){k:Nat}(j:k<M.dir.length) :
 ∃ g e n c,L.BN=.slice (some ⟨g,0,none⟩) M.dir.length e/\M.dir[k].2∈M.ids/\w.cell? ⟨g,k*2,none⟩=some (.string M.dir[k].1) /\
  w.cell? ⟨g,k*2+1,none⟩=some (.pointer (some ⟨M.dir[k].2,0,none⟩)) /\
  L.fV M.dir[k].2=.slice n (M.file M.dir[k].2).bytes.length c:=by
 obtain⟨g,e,m,_⟩:=zv h.dir (by omega);have i:=h.dir;rw[m] at i;have l:=h.Ad _ (Iu j);obtain⟨a,c,o⟩:=zg (h.rows _ l);exact⟨g,e,a,c,m,l,own_cell? i _ _ (ZD _ k j).1,own_cell? i _ _ (ZD _ k j).2,o⟩
theorem Tn(a:ByteArray)(w:World)(b:Nat)(L:DL)(M:DM)(h:DRep w b L M) :
 Calls Tryz.prog 188 #[.pointer (some ⟨b,0,none⟩),.string a] w fun e x =>
  e=.returned (.tuple #[.int .i64 (M.size a).1,.int .i64 (M.size a).2])/\Fr Nil w x:=by
 have i:=h.Bi.cell;simp only[DM.cells] at i;have p:=Z h;have j:=zG h.dir;unfold maxLen at j;rcases Yv M.dir a with⟨d,f⟩|⟨k,v,d,f,_⟩
 .have HM:Hid (M.size a=(0,11)):=by simp[Hid,DM.size,f]
  have o:=Z d;clear h d f;go_enter Tryz.func188,Tryz.ntmps188
  go_wp2_with (go_at_call 87;refine(Yr o.out _ p.out.dir).mono ?_;rintro e y ⟨rfl,m⟩)
  go_ret2;rw[HM.out];exact⟨rfl,m⟩
 .have HM:Hid (M.size a=(((M.file M.dir[k].2).bytes.length:Int),(0:Int))):=by simp[Hid,DM.size,f]
  have o:=Z d;clear h d f;go_enter Tryz.func188,Tryz.ntmps188;go_wp2_with fail;refine(zT o.out _ p.out.dir).mono ?_;rintro e y ⟨rfl,m⟩;have l:=p.out.fr m (fun _ _=>id);clear i;have i:=l.Bi.cell;simp only[DM.cells] at i;obtain⟨g,t,n,c,s,u,_,A,r⟩:=l.entry v;have q:=(l.files _ u).cell;rw[r] at q;rw[s] at i;clear r s l
  go_wp2
  go_ret2;rw[HM.out];exact⟨rfl,m⟩
def DM.AD(M:DM)(k:Nat):Int:=(M.dir.take k).foldl (fun n e=>wrap64 (n+(M.file e.2).bytes.length)) 0
def DM.used(M:DM):Int:=M.AD M.dir.length
theorem DM.ym(M:DM)(k:Nat)(h:k<M.dir.length):M.AD (k+1)=wrap64 (M.AD k+(M.file M.dir[k].2).bytes.length):=by
 unfold DM.AD;rw[Hc h,Hm]
 rfl
theorem NJ(w:World)(b:Nat)(L:DL)(M:DM)(h:DRep w b L M) :
 Calls Tryz.prog 41 #[.pointer (some ⟨b,0,none⟩)] w fun e p=>e=.returned (.int .i64 M.used)/\Fr Nil w p:=by
 have j:=h.Bi.cell;simp only[DM.cells] at j;have d:=zG h.dir;unfold maxLen at d;obtain⟨a,u,o⟩:=zg h.dir;rw[o] at j;have q:=Z h;have s:=Z o;clear h o;go_enter Tryz.func41,Tryz.ntmps41
 go_wp2
 clear j
 go_loopw [3,11] (fun n t p=>∃ k:Nat,k<=M.dir.length/\t=.int .i64 k/\n=.int .i64 (M.AD k)/\Fr Nil w p) (fun _ t _=>M.dir.length-(intOf t).toNat)
 case atStart=>exact⟨0,II _,rfl,rfl,U _ _⟩
 case round =>
  obtain⟨k,y,rfl,rfl,m⟩:=hrel;have i:=q.out.fr m (fun _ _=>id);by_cases f:k<M.dir.length
  .obtain⟨g,cap',n,c,hv',hi,he,hp,hs⟩:=i.entry f
   rw[s.out] at hv';simp at hv';obtain⟨rfl,rfl⟩:=hv';have l:=(i.files _ hi).cell;rw[hs] at l;have r:=Z (M.ym k f);have v:=(i.files _ hi).lt;have x:=EY _ _ he;clear hs i
   go_wp2
   exact⟨⟨k+1,by omega,by go_num,by rw[r.out],m.alloc _⟩,by simp[intOf];omega⟩
  .go_wp2
   go_ret;have:k=M.dir.length:=by omega
   subst this;exact⟨rfl,m⟩
def zp(l:List UInt8):ByteArray:=⟨l.toArray⟩
def DM.read(M:DM)(b:ByteArray)(a n:Int):ByteArray × Int :=
 match M.dir.look b with
 | none=>(ByteArray.empty,11)
 | some f =>
  if 0<=a/\0<=n/\a<=(M.file f).bytes.length/\n<=(M.file f).bytes.length-a then
   (zp (((M.file f).bytes.drop a.toNat).take n.toNat),0)
  else(ByteArray.empty,12)
theorem La(a:ByteArray)(x n:Int)(w:World)(b:Nat)(L:DL)(M:DM)(h:DRep w b L M)(c:zP M.dir a=-1)(d:M.dir.look a=none) :
 Calls Tryz.prog 189 #[.pointer (some ⟨b,0,none⟩),.string a,.int .i64 x,.int .i64 n] w fun e l =>
  e=.returned (.tuple #[.string (M.read a x n).1,.int .i64 (M.read a x n).2])/\Fr Nil w l:=by
 have j:=h.Bi.cell;simp only[DM.cells] at j;have g:=Z h;have i:Hid (M.read a x n=(ByteArray.empty,(11:Int))):=by simp[Hid,DM.read,d]
 have f:=Z c;clear h c d;go_enter Cw,Cb
 go_wp2_with (go_at_call 87;refine(Yr f.out _ g.out.dir).mono ?_;rintro e m ⟨rfl,k⟩)
 go_ret2;rw[i.out];exact⟨rfl,k⟩
theorem Kt(a:ByteArray)(x n:Int)(w:World)(b:Nat)(L:DL)(M:DM)(h:DRep w b L M)(k:Nat)(v:k<M.dir.length)(s:zP M.dir a=k)(t:M.dir.look a=some M.dir[k].2)
 (B:¬(0<=x/\0<=n/\x<=(M.file M.dir[k].2).bytes.length/\n<=(M.file M.dir[k].2).bytes.length-x)) :
 Calls Tryz.prog 189 #[.pointer (some ⟨b,0,none⟩),.string a,.int .i64 x,.int .i64 n] w fun e J =>
  e=.returned (.tuple #[.string (M.read a x n).1,.int .i64 (M.read a x n).2])/\Fr Nil w J:=by
 have f:=h.Bi.cell;simp only[DM.cells] at f;have q:=Z h;have i:=zG h.dir;have d:=zG (h.rows _ (h.Ad _ (Iu v)));unfold maxLen at i d;have D:Hid (M.read a x n=(ByteArray.empty,(12:Int))):=by simp only[Hid,DM.read,t];rw[It B]
 have C:=Z s;clear h s t;have j:x<0\/(0<=x/\n<0)\/(0<=x/\0<=n/\((M.file M.dir[k].2).bytes.length:Int)<x)\/(0<=x/\0<=n/\x<=((M.file M.dir[k].2).bytes.length:Int)/\((M.file M.dir[k].2).bytes.length:Int)-x<n):=by omega
 clear B;rcases j with o|⟨o,r⟩|⟨o,r,E⟩|⟨o,r,E,K⟩
 all_goals
  go_enter Cw,Cb;go_wp2_with fail;refine(zT C.out _ q.out.dir).mono ?_;rintro e O ⟨rfl,u⟩;have l:=q.out.fr u (fun _ _=>id);clear f;have f:=l.Bi.cell;simp only[DM.cells] at f;obtain⟨g,G,m,c,A,I,_,N,y⟩:=l.entry v;have p:=(l.files _ I).cell;rw[y] at p;rw[A] at f;clear y A l
  go_wp2
  go_ret2;rw[D.out];exact⟨rfl,u⟩
theorem Qq{P:Program}{t e u:TypeId}(B:P.underlying t=some (.slice e))(s:P.underlying e=some (.int .u8))(C:P.underlying u=some .string)
 {w:World}{g n f:Nat}{b:List UInt8}(h:w.ownsRow 0 5 1 (.slice (some ⟨g,0,none⟩) n f) n (u8s b))(x m c:Nat)(E:x+m<=b.length) :
 (convert t u (.slice (some ⟨g,x,none⟩) m c)).run P w=.ok (.string (zp ((b.drop x).take m))) w:=by
 have A:(loadCells ⟨g,x,none⟩ m).run P w=.ok ((((b.drop x).take m).map fun c:UInt8=>(c.toNat:Int)).map (Value.int .u8)).toArray w:=by
  have p:=run_loadCells_list (P:=P) w ⟨g,x,none⟩ ((((b.drop x).take m).map fun c:UInt8=>(c.toNat:Int)).map (Value.int .u8)) (by
   intro j v i;have y:j<m:=by
    rcases GO j m with o|o
    .exact o
    .rw[List.getElem?_eq_none (by simp;omega)] at i;cases i
   have d:(⟨g,x,none⟩:Addr).add j=⟨g,x+j,none⟩:=by unfold Addr.add;split <;> simp_all
   rw[d];refine own_cell? h _ _ ?_;rw[<- i];simp[u8s,y,List.getElem?_drop]
   rfl)
  have q:((((b.drop x).take m).map fun c:UInt8=>(c.toNat:Int)).map (Value.int .u8)).length=m:=by simp;omega
  rw[q] at p;exact p
 rw[run_convert_bytes_string w t u e _ m c B s C,run_bytesToString w _ m c _ A]
 congr 2
 have k:∀ (l:List UInt8) (acc:ByteArray),(l.map fun c:UInt8=>(c.toNat:Int)).foldl (fun r n=>r.push (UInt8.ofNat n.toNat)) acc=⟨(acc.data.toList++l).toArray⟩:=by
  intro l
  induction l with
  | nil=>intro acc;simp
  | cons a l D =>
   intro acc;simp only[IJ,Hk];rw[D];simp[ByteArray.push]
 rw[k]
 rfl
theorem Lb(a:ByteArray)(x n:Nat)(w:World)(b:Nat)(L:DL)(M:DM)(h:DRep w b L M)(k:Nat)(C:k<M.dir.length)(v:zP M.dir a=k)(y:M.dir.look a=some M.dir[k].2)
 (Q:x+n<=(M.file M.dir[k].2).bytes.length)(h0:0<n) :
 Calls Tryz.prog 189 #[.pointer (some ⟨b,0,none⟩),.string a,.int .i64 x,.int .i64 n] w fun e R =>
  e=.returned (.tuple #[.string (M.read a x n).1,.int .i64 (M.read a x n).2])/\Fr Nil w R:=by
 have i:=h.Bi.cell;simp only[DM.cells] at i;have r:=Z h;have j:=zG h.dir;have d:=zG (h.rows _ (h.Ad _ (Iu C)));unfold maxLen at j d;have G:Hid (M.read a x n=(zp (((M.file M.dir[k].2).bytes.drop x).take n),(0:Int))):=by simp only[Hid,DM.read,y];rw[IC (by omega)];simp
 have E:=Z v;clear h v y;have S:¬(x:Int)<0:=by omega
 have T:¬(n:Int)<0:=by omega
 have V:¬((M.file M.dir[k].2).bytes.length:Int)<x:=by omega
 have X:¬((M.file M.dir[k].2).bytes.length:Int)-x<n:=by omega
 go_enter Cw,Cb;go_wp2_with fail;refine(zT E.out _ r.out.dir).mono ?_;rintro e w1 ⟨rfl,A⟩;have f:=r.out.fr A (fun _ _=>id);clear i;have i:=f.Bi.cell;simp only[DM.cells] at i;obtain⟨g,I,m,c,D,B,_,hp,O⟩:=f.entry C;have o:=f.rows _ B;obtain⟨Y,s,l,J,q⟩:=zv o (by omega);have p:=(f.files _ B).cell;rw[l] at p o;rw[D] at i;unfold maxLen at q;have N:¬s=x:=by omega
 have K:=Qq (P:=Tryz.prog) (t:=150) (u:=9) Gw Cn GL o x n (s-x) Q;clear O D f o l
 go_wp2
 go_ret2;rw[G.out];exact⟨rfl,A⟩
theorem Lc{P:Program}{t e u:TypeId}(d:P.underlying t=some (.slice e))(b:P.underlying e=some (.int .u8))(f:P.underlying u=some .string)
 (w:World)(a:Option Addr)(c:Nat):(convert t u (.slice a 0 c)).run P w=.ok (.string ByteArray.empty) w:=by
 rw[run_convert_bytes_string w t u e _ 0 c d b f];cases a with
 | none=>rfl
 | some a=>exact run_bytesToString w a 0 c [] (by rfl)
theorem Ld(a:ByteArray)(x:Nat)(w:World)(b:Nat)(L:DL)(M:DM)(h:DRep w b L M)(k:Nat)(A:k<M.dir.length)(d:zP M.dir a=k)(p:M.dir.look a=some M.dir[k].2)
 (V:x<=(M.file M.dir[k].2).bytes.length) :
 Calls Tryz.prog 189 #[.pointer (some ⟨b,0,none⟩),.string a,.int .i64 x,.int .i64 0] w fun e K =>
  e=.returned (.tuple #[.string (M.read a x 0).1,.int .i64 (M.read a x 0).2])/\Fr Nil w K:=by
 have l:=h.Bi.cell;simp only[DM.cells] at l;have s:=Z h;have o:=zG h.dir;have i:=zG (h.rows _ (h.Ad _ (Iu A)));unfold maxLen at o i;have E:Hid (M.read a x 0=(ByteArray.empty,(0:Int))):=by simp only[Hid,DM.read,p];rw[IC (by omega)];simp[zp];rfl
 have D:=Z d;clear h d p;have O:¬(x:Int)<0:=by omega
 have Q:¬((M.file M.dir[k].2).bytes.length:Int)<x:=by omega
 have R:¬((M.file M.dir[k].2).bytes.length:Int)-x<0:=by omega
 go_enter Cw,Cb;go_wp2_with fail;refine(zT D.out _ s.out.dir).mono ?_;rintro e N ⟨rfl,v⟩;have j:=s.out.fr v (fun _ _=>id);clear l;have l:=j.Bi.cell;simp only[DM.cells] at l;obtain⟨g,G,m,c,C,y,_,T,q⟩:=j.entry A;have B:=j.rows _ y;have f:(M.file M.dir[k].2).bytes.length<=c/\c<=maxLen:=by
  rcases B.2 with⟨d,p⟩|⟨_,_,_,d,_,_,p,S,_⟩
  .rw[q] at d;simp at d;omega
  .rw[q] at d;simp at d;omega
 unfold maxLen at f;obtain⟨f,I⟩:=f;have r:=(j.files _ y).cell;rw[q] at r;rw[C] at l;have J:=Lc (P:=Tryz.prog) (t:=150) (u:=9) Gw Cn GL N;clear q C j B
 go_wp2
 all_goals
  go_ret2;rw[E.out];exact⟨rfl,v⟩
theorem NK(f:ByteArray)(x n:Int)(w:World)(b:Nat)(L:DL)(M:DM)(h:DRep w b L M) :
 Calls Tryz.prog 189 #[.pointer (some ⟨b,0,none⟩),.string f,.int .i64 x,.int .i64 n] w fun e m =>
  e=.returned (.tuple #[.string (M.read f x n).1,.int .i64 (M.read f x n).2])/\Fr Nil w m:=by
 rcases Yv M.dir f with⟨g,i⟩|⟨k,j,g,i,_⟩
 .exact La f x n w b L M h g i
 .by_cases hx:0<=x/\0<=n/\x<=(M.file M.dir[k].2).bytes.length/\n<=(M.file M.dir[k].2).bytes.length-x
  .obtain⟨a,b',c,d⟩:=hx
   obtain⟨x,rfl⟩:=Ht a;obtain⟨n,rfl⟩:=Ht b';rcases Fz n with rfl|l
   .exact Ld f x w b L M h k j g i (by omega)
   .exact Lb f x n w b L M h k j g i (by omega) l
  .exact Kt f x n w b L M h k j g i hx
theorem Zr.xV{W w:World}{g:FuncId}{p:Value}{c:List UInt8}(h:Zr W (.func (.func g) #[] #[p]) c)(k:Still W w){v:Value}{n:Nat}{d:List Value}(j:w.ownsRow 0 5 1 v n d)(a:n+c.length<=1099511627776) :
 Calls Tryz.prog g #[v,p] w fun e l=>∃ f,e=.returned f/\Adds w v n d c f l:=by
 obtain⟨m,o,b,_,i⟩:=h;simp only[Value.func.injEq,Fn.func.injEq] at b;obtain⟨rfl,_,rfl⟩:=b;exact i w k v n d j a
def zV(l:List Ver):List Value:=l.flatMap Ver.cells
theorem Xv(l:List Ver):(zV l).length=l.length*8:=by
 induction l with
 | nil=>rfl
 | cons e l a=>simp only[zV,Gt,Il,Iz,Ver.BX] at a |-;omega
theorem U6(l:List Ver):∀ (k j:Nat)(h:k<l.length)(_:j<8),(zV l)[k*8+j]?=l[k].cells[j]?:=by
 induction l with
 | nil=>intro k j h;simp at h
 | cons e l c =>
  intro k j h a;cases k with
  | zero =>
   simp only[zV,Gt,CY,Hw,FO];exact GZ (by rw[Ver.BX];exact a)
  | succ k =>
   have:=c k j (by simpa using h) a;have b:(k+1)*8+j=k*8+j+8:=by omega
   simp only[zV,Gt,b,En] at this |-;rw[FR (by rw[Ver.BX];omega),Ver.BX,show k*8+j+8-8=k*8+j by omega];exact this
theorem Wc(l:List Ver):∀ u∈zV l,u.oneCell'=true:=by
 intro u a;simp only[zV,EI] at a;obtain⟨e,_,a⟩:=a;simp only[Ver.cells,IW,Fk,Dw] at a;rcases a with rfl|rfl|rfl|rfl|rfl|rfl|rfl|rfl <;> rfl
def ZG(l:List Ver):List UInt8:=zk l.length++(l.map ZT).flatten
theorem Qr(N X:Nat)(lv:Value)(l:List Ver)(hl:∀ x∈l,x.Nat)(a5:l.length<1000000)(w:World)
 (D:Blk w N [lv] 61)(Y:Blk w X [.func (.func 289) #[] #[]] 372)
 (hr:w.ownsRow 0 37 8 lv l.length (zV l))
 (v:Value)(n:Nat)(O:List Value)(ho:w.ownsRow 0 5 1 v n O)(p:n+(ZG l).length<=1099511627776) :
 Calls Tryz.prog 292 #[v,.pointer (some ⟨N,0,none⟩),.pointer (some ⟨X,0,none⟩)] w fun e w'=>∃ v',e=.returned v'/\Adds w v n O (ZG l) v' w':=by
 have a2:w.cell? ⟨N,0,none⟩=some lv:=by rw[D.cell];rfl
 obtain⟨va,vc,rfl⟩:=zg ho;obtain⟨la,lc,rfl⟩:=zg hr;have V:=Z ho;have H1:=Z D;clear D ho;have o:n+(zk l.length).length+((l.map ZT).flatten).length<=1099511627776:=by simp only[ZG,Il] at p;omega
 have HL:=Z o;clear o p;have HR:=Z hr;have H2:=Z Y;have T:=Z hl;clear hr Y hl;go_enter Tryz.func292,Tryz.ntmps292
 go_wp2_with (first
  | (go_at_call 280;refine(Y8 w.heap.size l.length (by omega) _ I (.slice va n vc) n O (ze (S:=Nil) V.out s (fun _ _=>id)) (by have:=HL.out;omega)).mono ?_;rintro e w3 ⟨v3,rfl,E⟩;refine Hid.out ?_)
  | (go_at_call 277;refine(ZL w _ _ (U _ _)).mono ?_;rintro e w2 ⟨rfl,I,s⟩))
 have A:=Z (E.of s);have q:=A.out.still V.out;have a4:w3.cell? ⟨N,0,none⟩=some (.slice la l.length lc):=by rw[(H1.out.still (by decide) q).cell];rfl
 clear E I s q;refine Z ?_;go_wp2_with fail
 go_loopw [0,14] (fun t0 u w'=>∃ i:Nat,i<=l.length/\u=.int .i64 i/\Adds w (.slice va n vc) n O (zk l.length++((l.take i).map ZT).flatten) t0 w') (fun _ u _=>l.length-(intOf u).toNat)
 case atStart=>exact⟨0,II _,rfl,by simpa using A.out⟩
 case round =>
  obtain⟨i,hi,rfl,r⟩:=hrel;have M:=r.still V.out;obtain⟨m,hm⟩:∃ m,m=n+(zk l.length++((l.take i).map ZT).flatten).length:=⟨_,rfl⟩;have c:=r.1;rw[<- hm] at c;obtain⟨ta,tc,rfl⟩:=zg c;have HW:=Z c;have HM:=Z hm;clear c hm;by_cases t:i<l.length
  .obtain⟨g,rfl⟩:∃ g,la=some ⟨g,0,none⟩:=by
    obtain⟨g,a1,h,_⟩:=zv HR.out (by omega);simp at h;exact⟨g,h.1⟩
   have L:=Vz (by decide) HR.out M;have b:=fun j hj=>own_cell? L (i*8+j) _ ((U6 l i j t hj).trans (IB (by rw[Ver.BX];exact hj)));have g0:=b 0 (by omega);have g1:=b 1 (by omega);have g2:=b 2 (by omega);have g3:=b 3 (by omega);have g4:=b 4 (by omega);have g5:=b 5 (by omega);have g6:=b 6 (by omega);have g7:=b 7 (by omega);have a3:∀ ob:Obj,(wr.alloc ob).cell? ⟨X,0,none⟩=some (.func (.func 289) #[] #[]):=fun ob=>by rw[((H2.out.still (by decide) M).alloc ob).cell];rfl
   have hx:=T.out l[i] (Iu t);have a:zk l.length++((l.take (i+1)).map ZT).flatten=(zk l.length++((l.take i).map ZT).flatten)++ZT l[i]:=by
    rw[Hc t,IL,ES];simp
   have K:m+(ZT l[i]).length<=1099511627776:=by
    have D:=WG (l.map ZT) (i+1);have Y:=HL.out;rw[<- Gg] at D;have h3:=Fg List.length a;rw[HM.out];simp only[Il] at h3 |-;omega
   have d:=Z a;have Q:=Z r;have B:=Z K;clear a r K L b;generalize l[i]=x at g0 g1 g2 g3 g4 g5 g6 g7 hx d B;obtain⟨node,a0,o0,o1,o2,o3,y,C⟩:=x;simp only[Ver.cells,FO,En,Fs] at g0 g1 g2 g3 g4 g5 g6 g7;have HX:=Z hx;clear hx;go_wp2_with fail;refine(Rr ⟨node,a0,o0,o1,o2,o3,y,C⟩ HX.out _).mono ?_;rintro e w4 ⟨pb,rfl,hp,J⟩;have k:Fr Nil wr w4:=((U Nil wr).alloc _).trans J;have HP:=Z hp;clear hp J;go_wp2_with fail;refine(HP.out.xV (Still.of_nil (U _ _)) (ze (S:=Nil) HW.out k (fun _ _=>id)) B.out).mono ?_;rintro e w5 ⟨v5,rfl,G⟩;have R:=Z (Q.out.next HM.out (G.of k));clear G
   go_wp2
   refine⟨⟨i+1,by omega,by go_num,by rw[d.out];exact R.out⟩,?_⟩;simp[intOf];omega
  .have e:i=l.length:=by omega
   have f:zk l.length++((l.take i).map ZT).flatten=ZG l:=by rw[e,ID];rfl
   rw[f] at r;have Q:=Z r;clear f r
   go_wp2
   go_ret;exact⟨_,rfl,Q.out⟩
theorem Qs(a:Option Addr)(n c:Nat)(w:World) :
 Calls Tryz.prog 288 #[.slice a n c,.func (.func 289) #[] #[]] w fun e b =>
  e=.returned (.func (.func 292) #[] #[.pointer (some ⟨w.heap.size,0,none⟩),.pointer (some ⟨w.heap.size+1,0,none⟩)]) /\
  b=(w.alloc (.cells #[.slice a n c] 61)).alloc (.cells #[.func (.func 289) #[] #[]] 372):=by
 go_enter Tryz.func288,Tryz.ntmps288
 go_wp2
 go_ret;exact⟨rfl,rfl⟩
theorem O7(W:World)(m:Value)(l:List Ver)(r:∀ x∈l,x.Nat)(d:l.length<1000000)(w:World)(q:Fr Nil W w)(k:w.ownsRow 0 37 8 m l.length (zV l)) :
 Calls Tryz.prog 288 #[m,.func (.func 289) #[] #[]] w fun e h =>
  ∃ i j,e=.returned (.func (.func 292) #[] #[.pointer (some ⟨i,0,none⟩),.pointer (some ⟨j,0,none⟩)]) /\
  Zr h (.func (.func 292) #[] #[.pointer (some ⟨i,0,none⟩),.pointer (some ⟨j,0,none⟩)]) (ZG l)/\Fr Nil W h:=by
 obtain⟨a,c,rfl⟩:=zg k;refine(Qs a l.length c w).mono ?_;rintro e h ⟨rfl,rfl⟩;have p:Blk ((w.alloc (.cells #[.slice a l.length c] 61)).alloc (.cells #[.func (.func 289) #[] #[]] 372)) (w.heap.size+1) [.func (.func 289) #[] #[]] 372:=by
  have:=Blk.new (w.alloc (.cells #[.slice a l.length c] 61)) [.func (.func 289) #[] #[]] 372
  simpa using this
 have o:=(Blk.new w [.slice a l.length c] 61).alloc (.cells #[.func (.func 289) #[] #[]] 372);have f:=ze (S:=Nil) k (((U Nil w).alloc (.cells #[.slice a l.length c] 61)).alloc (.cells #[.func (.func 289) #[] #[]] 372)) (fun _ _=>id);exact⟨_,_,rfl,⟨_,_,rfl,EX Tryz.func292 (by kernel_rfl) rfl,fun w g v n t s b =>
  Qr _ _ _ l r d w (o.still (by decide) g) (p.still (by decide) g) (Vz (by decide) f g) v n t s b⟩,(q.alloc _).alloc _⟩
def zS(a:List UInt8):List UInt8:=zk a.length++a
theorem NN(sv:Value)(d:List Value)(b:List (List UInt8))(w:World)(hs:w.ownsRow 0 365 1 sv d.length d)(hp:ZC w d b)(L:b.flatten.length<=500000000000)(s:(zk b.flatten.length).length<=100) :
 Calls Tryz.prog 276 #[sv] w fun e w'=>e=.returned (.string (zp (zS b.flatten)))/\Fr Nil w w':=by
 obtain⟨sa,sc,rfl⟩:=zg hs;have HS:=Z hs;have HP:=Z hp;clear hs hp;go_enter Tryz.func276,Tryz.ntmps276;go_wp2_with fail;refine(U5 sa _ sc w).mono ?_;rintro e T ⟨rfl,y⟩;have a1:Blk T w.heap.size [.slice sa d.length sc] 368:=by rw[y];exact Blk.new w [.slice sa d.length sc] _
 have q:Fr Nil w T:=by rw[y];exact(U _ _).alloc _
 clear y;go_wp2_with fail;refine(U4 _ _ d b T a1 (ze (S:=Nil) HS.out q (fun _ _=>id)) (HP.out.still (Still.of_nil q)) (.slice none 0 0) 0 [] (IX T 0 _ _) (by omega)).mono ?_;rintro e O ⟨v2,rfl,p⟩;have v:O.ownsRow 0 5 1 v2 b.flatten.length (u8s b.flatten):=by simpa using p.1
 obtain⟨va,vc,rfl⟩:=zg v;have G:Fr Nil w O:=q.trans (p.2.1.mono (fun _ _ h=>by simp[Value.ownBlock] at h));have C:=Z v;clear v p;generalize f:b.flatten=a at L s C;have Y:=Z f;clear f;go_wp2_with fail;refine(ZL O _ O (U _ _)).mono ?_;rintro e V ⟨rfl,E,r⟩;go_wp2_with fail;refine(Y8 O.heap.size a.length (by omega) V E (.slice none 0 0) 0 [] (IX V 0 _ _) (by omega)).mono ?_;rintro e X ⟨Q,rfl,l⟩;have I:Fr Nil V X:=l.2.1.mono (fun _ _ h=>by simp[Value.ownBlock] at h);have x:X.ownsRow 0 5 1 Q (zk a.length).length (u8s (zk a.length)):=by simpa using l.1
 have N:=ze (S:=Nil) (ze (S:=Nil) C.out r (fun _ _=>id)) I (fun _ _=>id);have J:=(G.trans r).trans I;have o:∀ k,Q.ownBlock=some k->V.heap.size<=k:=fun k hk=>(l.2.2 k hk).resolve_left (by simp[Value.ownBlock]);have M:=fun ty=>Xu (P:=Tryz.prog) (w:=X) 150 ty 5 1 1 Gw Ql (by omega) Q _ _ x _ _ _ N (by intro u hu;simp[u8s] at hu;obtain⟨c,_,rfl⟩:=hu;rfl) (by unfold maxLen;omega) (by omega);have m:∀ R A,App X Q 5 1 ((zk a.length).length+a.length) (u8s (zk a.length)++u8s a) R A ->
  ∃ g j,R=.slice (some ⟨g,0,none⟩) ((zk a.length).length+a.length) j/\(∀ t,(convert 150 9 (.slice (some ⟨g,0,none⟩) ((zk a.length).length+a.length) t)).run Tryz.prog A=.ok (.string (zp (zS a))) A)/\Fr Nil w A:=by
  rintro R A ⟨h1,h2,h3⟩;have a3:0<(zk a.length).length:=by
   by_cases h:a.length<128
   .rw[YS h];simp
   .rw[Xm h];simp
  obtain⟨g,j,rfl,_,_⟩:=zv h1 (by omega);have a0:A.ownsRow 0 5 1 (.slice (some ⟨g,0,none⟩) ((zk a.length).length+a.length) j) ((zk a.length).length+a.length) (u8s (zS a)):=by
   unfold zS;rw[Tj];exact h1
  refine⟨g,j,rfl,fun t=>?_,?_⟩
  .rw[Qq (P:=Tryz.prog) Gw Cn GL a0 0 _ t (by unfold zS;rw[Il];omega)]
   congr 3
   rw[Gr];exact IH (by unfold zS;rw[Il];exact Io _)
  .refine J.trans' ((Fr.BI h2).mono (fun i _ h=>h)) (fun i hi h=>?_)
   have:=o i h;have:=(G.trans r).size;omega
 have B:=Z m;obtain⟨a5,a6,rfl⟩:=zg x;clear m l x N o E
 go_wp2_with (at_builtin;go_must (refine zJ rfl _ _ _ _ rfl _ _ (by rfl) (by rfl) (M _) ?_);rintro R A D;obtain⟨g5,a2,rfl,a4,K⟩:=B.out _ _ D;clear D)
 go_ret;rw[Y.out];exact⟨rfl,K⟩
theorem Ku:∀(k n:Nat),n<128^(k+1)->(zk n).length<=k+1:=by
 intro k
 induction k with
 | zero=>intro n h;rw[YS (by omega)];simp
 | succ k b =>
  intro n h;by_cases a:n<128
  .rw[YS a];simp
  .have:=b (n / 128) (by rw[Nat.div_lt_iff_lt_mul (by omega)];rw[CZ] at h;exact h)
   rw[Xm a,Iz];omega
theorem zB{n:Nat}(h:n<9223372036854775808):(zk n).length<=9:=Ku 8 n (Nat.lt_of_lt_of_eq h (by decide))
theorem Yl(W:World)(N:Nat)(d:N<9223372036854775808)(w:World)(g:Fr Nil W w)(x:Int)(h:x=N) :
 Calls Tryz.prog 277 #[.int .i64 x] w fun e a=>∃ b,e=.returned (.func (.func 280) #[] #[.pointer (some ⟨b,0,none⟩)])/\Zr a (.func (.func 280) #[] #[.pointer (some ⟨b,0,none⟩)]) (zk N)/\Fr Nil W a:=by
 subst h;refine(ZL W N w g).mono ?_;rintro e a ⟨rfl,f,c⟩;exact⟨_,rfl,Vc a _ N d f,c⟩
theorem To(W:World)(s:ByteArray)(g:s.size<9223372036854775808)(w:World)(f:Fr Nil W w) :
 Calls Tryz.prog 284 #[.string s] w fun e a=>∃ b,e=.returned (.func (.func 285) #[] #[.pointer (some ⟨b,0,none⟩)])/\Zr a (.func (.func 285) #[] #[.pointer (some ⟨b,0,none⟩)]) (Z7 s.data.toList)/\Fr Nil W a:=by
 refine(Tk W s w f).mono ?_;rintro e a ⟨rfl,d,c⟩;exact⟨_,rfl,SF a _ s g d,c⟩
theorem V3(W:World)(g:Nat)(b:List Value)(a:List (List UInt8))(w i:World)(k:Fr Nil W w)(o:Fr Nil i w)(j:Blk w g b 365)(m:ZC i b a)(f:b.length<=1000)(c:a.flatten.length<=500000000000)
 (n:Nat)(l:n=b.length) :
 Calls Tryz.prog 276 #[.slice (some ⟨g,0,none⟩) n n] w fun e h=>e=.returned (.string (zp (zS a.flatten)))/\Fr Nil W h:=by
 subst l;refine(NN _ b a w (Yi j (Io _) (by unfold maxLen;omega) (by simp) (by simp)) (m.still (Still.of_nil o)) c (by have:=zB (n:=a.flatten.length) (by omega);omega)).mono ?_;rintro e h ⟨rfl,d⟩;exact⟨rfl,k.trans d⟩
def Xw(n:Nat):List UInt8:=zS (zk 1++zk n)
def Xx(a:ByteArray)(l:List Ver):List UInt8:=zS (zk 2++(Z7 a.data.toList++ZG l))
def XK(b:Nat)(a:ByteArray):List UInt8:=zS (zk 3++(zk b++Z7 a.data.toList))
def WH:List UInt8:=zS (zk 4)
theorem U7(n:Nat)(q:n<9223372036854775808)(w:World) :
 Calls Tryz.prog 307 #[.agg #[.int .i64 n]] w fun e w'=>e=.returned (.string (zp (Xw n)))/\Fr Nil w w':=by
 have a:Blk (w.alloc (.cells #[.int .i64 n] 220)) w.heap.size [.int .i64 n] 220:=Blk.new w [.int .i64 n] _;have f:Fr Nil w (w.alloc (.cells #[.int .i64 n] 220)):=(U _ _).alloc _;have i:([zk 1,zk n]:List (List UInt8)).flatten.length<=500000000000:=by
  have D:=zB q;have E:=zB (n:=1) (by omega);simp;omega
 go_enter Tryz.func307,Tryz.ntmps307;go_wp2_with fail;obtain⟨N,o⟩:∃ N,w.heap.size=N:=⟨_,rfl⟩;obtain⟨d,j⟩:∃ d,w.alloc (.cells #[.int .i64 n] 220)=d:=⟨_,rfl⟩;rw[o] at a |-;rw[j] at a f |-;clear j o;have t:d.cell? ⟨N,0,none⟩=some (.int .i64 n):=by rw[a.cell];rfl
 have k:Hid (∀ w',Fr Nil d w'->w'.cell? ⟨N,0,none⟩=some (.int .i64 n)):=by
  intro w' u;rw[(a.fr u id).cell];rfl
 clear a
 go_region_held3 (fun w'=>w'.cell? ⟨N,0,none⟩=some (.int .i64 n)) (first|assumption|exact k.out _ zd)
  (first
  | (go_at_call 276;refine(V3 d _ [_,_] [_,_] _ s (b.trans zd) zd (by exact Blk.new _ [_,_] _) ⟨l.still (Still.of_nil h),m,trivial⟩ (by simp) i _ rfl).mono ?_;rintro e A ⟨rfl,c⟩;have y:=k.out A c)
  | (go_at_call 277;refine(Yl r n q _ zd _ rfl).mono ?_;rintro e s ⟨C,rfl,m,h⟩;have b:=g.trans h;have x:=k.out s b)
  | (go_at_call 277;refine(Yl d 1 (by omega) _ zd _ rfl).mono ?_;rintro e r ⟨B,rfl,l,g⟩;have v:=k.out r g))
 go_wp2
 go_ret;exact⟨by simp[Xw],f.trans c⟩
theorem U9(a:ByteArray)(G:Value)(l:List Ver)(T:∀ x∈l,x.Nat)(y:l.length<1000000)(R:a.size<1000000000)(w:World)(D:w.ownsRow 0 37 8 G l.length (zV l))(s:(ZG l).length<=100000000000) :
 Calls Tryz.prog 286 #[.agg #[.string a,G]] w fun e w'=>e=.returned (.string (zp (Xx a l)))/\Fr Nil w w':=by
 obtain⟨d,f,rfl⟩:=zg D;have b:Blk (w.alloc (.cells #[.string a,.slice d l.length f] 193)) w.heap.size [.string a,.slice d l.length f] 193:=Blk.new w [.string a,.slice d l.length f] _;have j:Fr Nil w (w.alloc (.cells #[.string a,.slice d l.length f] 193)):=(U _ _).alloc _;have m:([zk 2,Z7 a.data.toList,ZG l]:List (List UInt8)).flatten.length<=500000000000:=by
  have h1:=zB (n:=a.size) (by omega);have h2:=zB (n:=2) (by omega);simp[Z7];omega
 have L:=Z D;clear D s;go_enter Tryz.func286,Tryz.ntmps286;go_wp2_with fail;obtain⟨N,E⟩:∃ N,w.heap.size=N:=⟨_,rfl⟩;obtain⟨i,t⟩:∃ i,w.alloc (.cells #[.string a,.slice d l.length f] 193)=i:=⟨_,rfl⟩;rw[E] at b |-;rw[t] at b j |-;clear t E;have O:i.cell? ⟨N,0,none⟩=some (.string a):=by rw[b.cell];rfl
 have Q:i.cell? ⟨N,1,none⟩=some (.slice d l.length f):=by rw[b.cell];rfl
 have o:Hid (∀ w',Fr Nil i w'->w'.cell? ⟨N,0,none⟩=some (.string a)/\w'.cell? ⟨N,1,none⟩=some (.slice d l.length f)):=by
  intro w' v;have:=(b.fr v id).cell;exact⟨by rw[this];rfl,by rw[this];rfl⟩
 have u:Hid (∀ w',Fr Nil i w'->w'.ownsRow 0 37 8 (.slice d l.length f) l.length (zV l)):=fun w' v=>ze (S:=Nil) L.out (j.trans v) (fun _ _=>id);clear b
 go_region_held3 (fun w'=>w'.cell? ⟨N,0,none⟩=some (.string a)/\w'.cell? ⟨N,1,none⟩=some (.slice d l.length f)) (first|assumption|exact o.out _ zd)
  (first
  | (go_at_call 276;refine(V3 i _ [_,_,_] [_,_,_] _ K (g.trans zd) zd (by exact Blk.new _ [_,_,_] _) ⟨A.still (Still.of_nil (r.trans k)),B.still (Still.of_nil k),C,trivial⟩ (by simp) m _ rfl).mono ?_;rintro e w5 ⟨rfl,h⟩;have a0:=o.out w5 h)
  | (go_at_call 288;refine(O7 J _ l T y _ zd (u.out _ (c.trans zd))).mono ?_;rintro e K ⟨b4,M,rfl,C,k⟩;have g:=c.trans k;have Y:=o.out K g)
  | (go_at_call 284;refine(To I _ (by omega) _ zd).mono ?_;rintro e J ⟨b3,rfl,B,r⟩;have c:=q.trans r;have X:=o.out J c)
  | (go_at_call 277;refine(Yl i 2 (by omega) _ zd _ rfl).mono ?_;rintro e I ⟨b2,rfl,A,q⟩;have V:=o.out I q))
 go_wp2
 go_ret;exact⟨by simp[Xx],j.trans h⟩
theorem VS(c:Nat)(a:ByteArray)(v:c<9223372036854775808)(E:a.size<1000000000)(w:World) :
 Calls Tryz.prog 282 #[.agg #[.int .i64 c,.string a]] w fun e w'=>e=.returned (.string (zp (XK c a)))/\Fr Nil w w':=by
 have b:Blk (w.alloc (.cells #[.int .i64 c,.string a] 138)) w.heap.size [.int .i64 c,.string a] 138:=Blk.new w [.int .i64 c,.string a] _;have l:Fr Nil w (w.alloc (.cells #[.int .i64 c,.string a] 138)):=(U _ _).alloc _;have i:([zk 3,zk c,Z7 a.data.toList]:List (List UInt8)).flatten.length<=500000000000:=by
  have R:=zB (n:=a.size) (by omega);have T:=zB (n:=3) (by omega);have V:=zB v;simp[Z7];omega
 go_enter Tryz.func282,Tryz.ntmps282;go_wp2_with fail;obtain⟨N,u⟩:∃ N,w.heap.size=N:=⟨_,rfl⟩;obtain⟨j,q⟩:∃ j,w.alloc (.cells #[.int .i64 c,.string a] 138)=j:=⟨_,rfl⟩;rw[u] at b |-;rw[q] at b l |-;clear q u;have B:j.cell? ⟨N,0,none⟩=some (.int .i64 c):=by rw[b.cell];rfl
 have C:j.cell? ⟨N,1,none⟩=some (.string a):=by rw[b.cell];rfl
 have k:Hid (∀ w',Fr Nil j w'->w'.cell? ⟨N,0,none⟩=some (.int .i64 c)/\w'.cell? ⟨N,1,none⟩=some (.string a)):=by
  intro w' D;have:=(b.fr D id).cell;exact⟨by rw[this];rfl,by rw[this];rfl⟩
 clear b
 go_region_held3 (fun w'=>w'.cell? ⟨N,0,none⟩=some (.int .i64 c)/\w'.cell? ⟨N,1,none⟩=some (.string a)) (first|assumption|exact k.out _ zd)
  (first
  | (go_at_call 276;refine(V3 j _ [_,_,_] [_,_,_] _ A (f.trans zd) zd (by exact Blk.new _ [_,_,_] _) ⟨r.still (Still.of_nil (o.trans h)),s.still (Still.of_nil h),t,trivial⟩ (by simp) i _ rfl).mono ?_;rintro e L ⟨rfl,g⟩;have K:=k.out L g)
  | (go_at_call 284;refine(To y _ (by omega) _ zd).mono ?_;rintro e A ⟨Q,rfl,t,h⟩;have f:=d.trans h;have J:=k.out A f)
  | (go_at_call 277;refine(Yl x c v _ zd _ rfl).mono ?_;rintro e y ⟨O,rfl,s,o⟩;have d:=m.trans o;have I:=k.out y d)
  | (go_at_call 277;refine(Yl j 3 (by omega) _ zd _ rfl).mono ?_;rintro e x ⟨M,rfl,r,m⟩;have G:=k.out x m))
 go_wp2
 go_ret;exact⟨by simp[XK],l.trans g⟩
theorem Ua(w:World) :
 Calls Tryz.prog 274 #[.agg #[]] w fun e w'=>e=.returned (.string (zp WH))/\Fr Nil w w':=by
 have b:Fr Nil w (w.alloc (.cells #[] 135)):=(U _ _).alloc _;have a:([zk 4]:List (List UInt8)).flatten.length<=500000000000:=by
  have i:=zB (n:=4) (by omega);simp;omega
 go_enter Tryz.func274,Tryz.ntmps274;go_wp2_with fail;refine(Yl w 4 (by omega) _ b _ rfl).mono ?_;rintro e g ⟨h,rfl,f,c⟩;go_wp2_with fail;refine(V3 w _ [_] [_] _ g (c.trans zd) zd (by exact Blk.new _ [_] _) ⟨f,trivial⟩ (by simp) a _ rfl).mono ?_;rintro e j ⟨rfl,d⟩
 go_wp2
 go_ret;exact⟨by simp[WH],d⟩
def Src(w:World)(b:Nat)(c:List UInt8)(a:Bool):Prop:=Blk w b [.string (zp c),.bool a] 276
theorem NO(a:List UInt8):(zp a).size=a.length:=rfl
theorem VT(a:List UInt8)(i j:Nat):(zp a).extract i j=zp ((a.drop i).take (j-i)):=by
 apply Dv
 apply EA
 simp[zp]
theorem UD(b:Nat)(g:List UInt8)(c:Bool)(w:World)(h:Src w b g c) :
 Calls Tryz.prog 153 #[.pointer (some ⟨b,0,none⟩)] w fun e d=>e=.returned (.tuple #[])/\Src d b [] true/\Fr (fun k=>k=b) w d:=by
 have i:=h.cell;have j:=h.frozen;have a:Src ((w.setCell ⟨b,0,none⟩ (.string (zp []))).setCell ⟨b,1,none⟩ (.bool true)) b [] true/\Fr (fun k=>k=b) w ((w.setCell ⟨b,0,none⟩ (.string (zp []))).setCell ⟨b,1,none⟩ (.bool true)) :=
  ⟨(Blk.set h 0 _).set 1 _,Fr.set (S:=fun k=>k=b) (Fr.set (S:=fun k=>k=b) (U _ _) (fun _=>rfl) _) (fun _=>rfl) _⟩
 have f:=Z a;clear a h;go_enter Tryz.func153,Tryz.ntmps153
 go_wp2
 exact GJ (v:=.tuple #[]) (by simp[results,go_sem]) rfl ⟨rfl,f.out⟩
theorem UE(b:Nat)(c:List UInt8)(a:Bool)(w:World)(h:Src w b c a) :
 Calls Tryz.prog 192 #[.pointer (some ⟨b,0,none⟩)] w fun e d=>e=.returned (.int .i64 c.length)/\Fr Nil w d:=by
 have f:=h.cell;clear h;go_enter Tryz.func192,Tryz.ntmps192
 go_wp2
 go_ret;exact⟨rfl,U _ _⟩
theorem Wd(n b:Nat)(a:List UInt8)(c:Bool)(w:World)(h:Src w b a c)(j:n<=a.length) :
 Calls Tryz.prog 193 #[.pointer (some ⟨b,0,none⟩),.int .i64 n] w fun e f=>e=.returned (.string (zp (a.take n)))/\Src f b (a.drop n) c/\Fr (fun k=>k=b) w f:=by
 have i:=h.cell;have m:=h.frozen;have l:(zp a).size=a.length:=rfl;have d:Hid ((zp a).extract 0 n=zp (a.take n)/\(zp a).extract n a.length=zp (a.drop n)) :=
  ⟨by rw[VT];simp,by rw[VT,IH (by simp)]⟩
 have g:Hid (Src (w.setCell ⟨b,0,none⟩ (.string (zp (a.drop n)))) b (a.drop n) c/\Fr (fun k=>k=b) w (w.setCell ⟨b,0,none⟩ (.string (zp (a.drop n))))) :=
  ⟨Blk.set h 0 _,Fr.set (S:=fun k=>k=b) (U _ _) (fun _=>rfl) _⟩
 clear h;go_enter Tryz.func193,Tryz.ntmps193;go_wp2_with fail;go_ret;rw[d.out.1,d.out.2];exact⟨rfl,g.out⟩
theorem SH(n b:Nat)(c:List UInt8)(a:Bool)(w:World)(h:Src w b c a)(j:c.length<n) :
 Calls Tryz.prog 193 #[.pointer (some ⟨b,0,none⟩),.int .i64 n] w fun e f=>e=.returned (.string (zp []))/\Src f b [] true/\Fr (fun k=>k=b) w f:=by
 have i:=h.cell;have m:=h.frozen;have l:(zp c).size=c.length:=rfl;have g:=Z h;clear h;go_enter Tryz.func193,Tryz.ntmps193
 go_wp2_with (refine(UD b c a w g.out).mono ?_;rintro e o ⟨rfl,d⟩)
 go_ret;exact⟨rfl,d⟩
def ZR(i acc:Nat):List UInt8->Option (Nat × List UInt8)
 | []=>none
 | c::a=>if 9<=i then none else if c.toNat<128 then some (acc+c.toNat*128^i,a) else ZR (i+1) (acc+(c.toNat%128)*128^i) a
theorem Tp:∀ n<128,(UInt8.ofNat n).toNat=n:=by decide
theorem NP(r:List UInt8):∀ (n i acc:Nat),0<i->0<n->n*128^i<9223372036854775808->ZR i acc (zk n++r)=some (acc+n*128^i,r):=by
 intro n
 induction n using Nat.strongRecOn with
 | ind n g =>
  intro i acc k f h;have c:¬9<=i:=by
   intro c;have:128^9<=128^i:=Nat.pow_le_pow_right (by omega) c;have j:1*128^i<=n*128^i:=IZ _ f;simp only[Nat.reducePow] at this;omega
  by_cases a:n<128
  .rw[YS a]
   simp only[IU,Hh,ZR];rw[It c,Tp n a,IC a]
  .rw[Xm a]
   have d:(UInt8.ofNat (n%128+128)).toNat=n%128+128:=by simp;omega
   simp only[IU,ZR];rw[It c,d,It (by omega)];have b:128^(i+1)=128^i*128:=CZ ..;have e:n / 128*(128^i*128)+n%128*128^i=n*128^i:=by
    rw[Nat.mul_comm (128^i) 128,<- Nat.mul_assoc,<- GM,Nat.mul_comm (n / 128) 128,Nat.div_add_mod]
   rw[g (n / 128) (by omega) (i+1) _ (by omega) (by omega) (by rw[b];omega),b]
   congr 2
   rw[show(n%128+128)%128=n%128 by omega];omega
theorem Qt(n:Nat)(r:List UInt8)(c:n<9223372036854775808):ZR 0 0 (zk n++r)=some (n,r):=by
 by_cases a:n<128
 .rw[YS a]
  simp only[IU,Hh,ZR];rw[It (by omega),Tp n a,IC a];simp
 .rw[Xm a]
  have b:(UInt8.ofNat (n%128+128)).toNat=n%128+128:=by simp;omega
  simp only[IU,ZR];rw[It (by omega),b,It (by omega),NP r (n / 128) 1 _ (by omega) (by omega) (by omega)]
  congr 2
  omega
theorem NQ:∀(n i acc:Nat)(p:List UInt8),p<+:zk n->p≠zk n->ZR i acc p=none:=by
 intro n
 induction n using Nat.strongRecOn with
 | ind n j =>
  intro i acc p f a;rcases p with-| ⟨c,p⟩
  .rfl
  by_cases d:n<128
  .rw[YS d] at f a
   obtain⟨t,b⟩:=f;simp at b;exact absurd (by rw[b.1,b.2.1]) a
  .rw[Xm d] at f a
   obtain⟨t,b⟩:=f;simp only[IU,FW] at b;obtain⟨rfl,b⟩:=b;have h:(UInt8.ofNat (n%128+128)).toNat=n%128+128:=by simp;omega
   simp only[ZR];by_cases g:9<=i
   .rw[IC g]
   .rw[It g,h,It (by omega)]
    exact j (n / 128) (by omega) _ _ p ⟨t,b⟩ (fun e=>a (by rw[e]))
theorem Nc(i acc m:Nat)(c:i<9)(a:acc<128^i)(d:m<128):bits .or .u64 (acc:Int) (IntKind.u64.wrap ((m:Int)*2^(i*7)))=((acc+m*128^i:Nat):Int)/\acc+m*128^i<128^(i+1)/\acc+m*128^i<9223372036854775808:=by
 have b:i=0\/i=1\/i=2\/i=3\/i=4\/i=5\/i=6\/i=7\/i=8:=by omega
 rcases b with rfl|rfl|rfl|rfl|rfl|rfl|rfl|rfl|rfl
 all_goals
  simp only[Nat.reducePow,Nat.reduceMul,Nat.reduceAdd,Int.reducePow] at a |-;refine⟨?_,by omega,by omega⟩;rw[Et _ (by omega) (by omega)]
 .exact(FQ .u64 64 (by decide) Et 0 _ _ (by omega) (by omega) (by omega) (by omega) (by omega) (by omega)).trans (by omega)
 .exact(FQ .u64 64 (by decide) Et 7 _ _ (by omega) (by omega) (by omega) (by omega) (by omega) (by omega)).trans (by omega)
 .exact(FQ .u64 64 (by decide) Et 14 _ _ (by omega) (by omega) (by omega) (by omega) (by omega) (by omega)).trans (by omega)
 .exact(FQ .u64 64 (by decide) Et 21 _ _ (by omega) (by omega) (by omega) (by omega) (by omega) (by omega)).trans (by omega)
 .exact(FQ .u64 64 (by decide) Et 28 _ _ (by omega) (by omega) (by omega) (by omega) (by omega) (by omega)).trans (by omega)
 .exact(FQ .u64 64 (by decide) Et 35 _ _ (by omega) (by omega) (by omega) (by omega) (by omega) (by omega)).trans (by omega)
 .exact(FQ .u64 64 (by decide) Et 42 _ _ (by omega) (by omega) (by omega) (by omega) (by omega) (by omega)).trans (by omega)
 .exact(FQ .u64 64 (by decide) Et 49 _ _ (by omega) (by omega) (by omega) (by omega) (by omega) (by omega)).trans (by omega)
 .exact(FQ .u64 64 (by decide) Et 56 _ _ (by omega) (by omega) (by omega) (by omega) (by omega) (by omega)).trans (by omega)
theorem Le(i acc:Nat)(c:UInt8)(d:i<9)(a:acc<128^i) :
 bits .or .u64 (acc:Int) (IntKind.u64.wrap (IntKind.u64.wrap (bits .and .u8 (c.toNat:Int) 127)*2^(i*7)))=((acc+c.toNat%128*128^i:Nat):Int):=by
 have f:c.toNat<256:=UInt8.toNat_lt c;have e:bits .and .u8 (c.toNat:Int) 127=((c.toNat%128:Nat):Int):=(bits_mask .u8 8 (by decide) wraps_u8 7 (by decide) (c.toNat:Int) (by omega) (by omega)).trans (by omega);have b:IntKind.u64.wrap ((c.toNat%128:Nat):Int)=((c.toNat%128:Nat):Int):=Et _ (by omega) (by omega);rw[e,b];exact(Nc i acc (c.toNat%128) d a (by omega)).1
theorem NR{n:Nat}(h:n<9223372036854775808):wrap64 (n:Int)=n:=by unfold wrap64;omega
def JX(R:Option (Nat × List UInt8))(b:Nat)(c:Bool)(w:World)(e:Ending)(a:World):Prop :=
 match R with
 | some (n,r)=>e=.returned (.int .i64 n)/\Src a b r c/\Fr (fun k=>k=b) w a
 | none=>e=.returned (.int .i64 0)/\Src a b [] true/\Fr (fun k=>k=b) w a
theorem WI(b:Nat)(B:List UInt8)(d:Bool)(w:World)(h:Src w b B d)(p:d=true->B=[]) :
 Calls Tryz.prog 149 #[.pointer (some ⟨b,0,none⟩)] w fun e D=>JX (ZR 0 0 B) b d w e D:=by
 generalize l:ZR 0 0 B=R;have O:=Z l;have N:=Z h;have M:=Z p;clear l h p;go_enter Tryz.func149,Tryz.ntmps149;go_wp2_with fail
 go_loopw [3,4] (fun S I D=>∃ (i acc:Nat) (j:List UInt8),S=.int .u64 acc/\I=.int .i64 ((i*7:Nat):Int)/\i<=9/\acc<128^i/\ZR i acc j=R/\Src D b j d/\(d=true->j=[])/\Fr (fun k=>k=b) w D) (fun _ I _=>(63-intOf I).toNat)
 case atStart=>exact⟨0,0,B,rfl,rfl,by omega,by simp,O.out,N.out,M.out,U _ _⟩
 case round =>
  obtain⟨i,acc,j,rfl,rfl,V,g,l,s,v,C⟩:=hrel;by_cases Q:i=9
  .subst Q
   have m:R=none:=by rw[<- l];cases j <;> simp[ZR]
   have q:=Z m;have u:=Z s;clear s v l g m
   go_wp2_with (refine(UD b j d wr u.out).mono ?_;rintro e J ⟨rfl,a⟩)
   go_ret;rw[q.out];exact⟨rfl,a.1,C.trans a.2⟩
  have y:i<9:=by omega
  rcases j with-| ⟨c,j⟩
  .have m:R=none:=by rw[<- l];simp[ZR]
   have q:=Z m;have u:=Z s;clear s v l g m
   go_wp2_with (refine(SH 1 b [] d wr u.out (by simp)).mono ?_;rintro e J ⟨rfl,a,f⟩;have x:=a.cell;have o:=Z (And.intro a f);clear a f)
   go_ret;rw[q.out];exact⟨rfl,o.out.1,C.trans o.out.2⟩
  have E:d=false:=by cases d with|false=>rfl|true=>simp at v
  subst E;have u:=Z s;have L:=Z (Le i acc c y g);have K:=Z (Nc i acc (c.toNat%128) y g (Dk _ (by omega)));have G:0<(zp [c]).size:=by show 0<1;omega
  have T:((zp [c])[0]'G).toNat=c.toNat:=rfl;by_cases t:c.toNat<128
  .have hRs:R=some (acc+c.toNat%128*128^i,j):=by rw[<- l];simp only[ZR];rw[It (by omega),IC t,Co t]
   have r:=Z hRs;clear s v l hRs
   go_wp2_with (refine(Wd 1 b (c::j) false wr u.out (by simp)).mono ?_;rintro e J ⟨rfl,a,f⟩;have x:=a.cell;have o:=Z (And.intro a f);clear a f)
   go_ret;rw[r.out];have A:=K.out.2.2;exact⟨by rw[L.out,NR A];rfl,o.out.1,C.trans o.out.2⟩
  .have hRs:ZR (i+1) (acc+c.toNat%128*128^i) j=R:=by rw[<- l];simp only[ZR];rw[It (by omega),It t]
   have r:=Z hRs;clear s v l hRs
   go_wp2_with (refine(Wd 1 b (c::j) false wr u.out (by simp)).mono ?_;rintro e J ⟨rfl,a,f⟩;have x:=a.cell;have o:=Z (And.intro a f);clear a f)
   refine⟨⟨i+1,acc+c.toNat%128*128^i,j,by rw[L.out],by go_num,by omega,K.out.2.1,r.out,o.out.1,by simp,C.trans o.out.2⟩,?_⟩;simp[intOf];omega
end Go.Proofs.YtkhnggkkiefcdaaGreatDoor
