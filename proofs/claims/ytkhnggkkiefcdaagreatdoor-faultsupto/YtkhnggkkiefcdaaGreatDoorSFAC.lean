/- larder: joined texts -/
import Derived.Test.YtkhnggkkiefcdaaGreatDoorSFAA
import Derived.Test.YtkhnggkkiefcdaaGreatDoorSFAB
import Derived.Deep.RegionLaw
namespace Go.Proofs.YtkhnggkkiefcdaaGreatDoor
open Go.RowKit
set_option maxRecDepth 100000
set_option maxHeartbeats 8000000
structure DStep(b:Nat)(L:DL)(M:DM)(w:World)(L':DL)(M':DM)(w':World):Prop where
 CZ:DRep w' b L' M'
 fr:Fr (Foot b L M) w w'
 BA:∀ k,Foot b L' M' k->Foot b L M k\/w.heap.size<=k
theorem DStep.trans{b:Nat}{L1 e g:DL}{o r s:DM}{x w2 y:World}(h:DStep b L1 o x e r w2)(k:DStep b e r w2 g s y):DStep b L1 o x g s y where
 CZ:=k.CZ
 fr:=h.fr.trans' k.fr (fun i t z=>by
  rcases h.BA i z with c|c
  .exact c
  .omega)
 BA:=fun i t=>by
  rcases k.BA i t with c|c
  .exact h.BA i c
  .exact .inr (IP h.fr.size c)
theorem DStep.own{b:Nat}{L:DL}{M M':DM}{w w':World}(h:DRep w' b L M')(f:Fr (fun k=>k=b) w w')
 (a:M'.ids=M.ids):DStep b L M w L M' w' where
 CZ:=h
 fr:=f.mono (fun k _ e=>by subst e;exact .CY)
 BA:=fun k j=>.inl (by
  cases j using Foot.elim with
  | blk=>exact .CY
  | dir e=>exact .dir e
  | safe e=>exact .safe e
  | ch e=>exact .ch e
  | chs i c e=>exact .Bj i c e
  | file e=>exact .file (a▸e)
  | row f g e=>exact .row f (a▸g) e)
theorem DM.Bl(M:DM):M.CX.2.2.dir=M.dir/\M.CX.2.2.safe=M.safe/\M.CX.2.2.Bj=M.Bj/\M.CX.2.2.file=M.file/\M.CX.2.2.ids=M.ids /\
 M.CX.2.2.room=M.room/\M.CX.2.2.part=M.part/\M.CX.2.2.Bb=M.Bb/\M.CX.2.2.cut=M.cut/\M.CX.2.2.fail=M.fail:=by
 unfold DM.CX;dsimp only;(repeat' split) <;> exact⟨rfl,rfl,rfl,rfl,rfl,rfl,rfl,rfl,rfl,rfl⟩
theorem DM.Am(M:DM):M.CX.2.1=0\/M.CX.2.1=9:=by
 unfold DM.CX;dsimp only;(repeat' split) <;> simp
theorem Zk(w:World)(b:Nat)(L:DL)(M:DM)(h:DRep w b L M) :
 Calls Tryz.prog 209 #[.pointer (some ⟨b,0,none⟩)] w fun e w' =>
  e=.returned (.tuple #[.bool M.CX.1,.int .i64 M.CX.2.1])/\DStep b L M w L M.CX.2.2 w' :=
 (QS w b L M h).mono fun _ _ ⟨a,c,g⟩=>⟨a,.own c g M.Bl.2.2.2.2.1⟩
def DM.Bp(M:DM):Int × DM :=
 (M.CX.2.1,if M.CX.2.1=0 then {M.CX.2.2 with safe:=M.CX.2.2.dir,Bj:=[]} else M.CX.2.2)
theorem DRep.synced{w w':World}{b:Nat}{L:DL}{M:DM}(h:DRep w b L M)
 (l:Blk w' b (({M with safe:=M.dir,Bj:=[]}:DM).cells {L with Bx:=L.BE,Aj:=.slice none 0 0,BB:=[]}) 143)(f:Fr (fun k=>k=b) w w') :
 DRep w' b {L with Bx:=L.BE,Aj:=.slice none 0 0,BB:=[]} {M with safe:=M.dir,Bj:=[]} where
 CY:=l
 dir:=zb h.dir f fun _ e c=>by subst c;exact zd h.dir h.CY (by decide) e
 safe:=zb h.dir f fun _ e c=>by subst c;exact zd h.dir h.CY (by decide) e
 ch:=Hc w' 0 _ _
 Ag:=rfl
 Bj:=fun i j=>absurd j (Gb _)
 files:=fun g a=>(h.files g a).fr f ((h.files g a).ne h.CY (by decide))
 rows:=fun g a=>zb (h.rows g a) f fun _ e c=>by subst c;exact zd (h.rows g a) h.CY (by decide) e
 sep:=h.sep
 le:=h.le
 BQ:=h.BQ
 AC:=h.BQ
 AD:=fun d m=>by cases m
theorem RQ(w:World)(b:Nat)(L:DL)(M:DM)(h:DRep w b L M) :
 Calls Tryz.prog 168 #[.pointer (some ⟨b,0,none⟩)] w fun e w' =>
  e=.returned (.int .i64 M.Bp.1)/\∃ p,DStep b L M w p M.Bp.2 w':=by
 have d:=Z (Zk w b L M h);have s:=Z h;clear h;rcases M.Am with c|c
 .have HM:Hid (M.Bp=(0,{M.CX.2.2 with safe:=M.CX.2.2.dir,Bj:=[]})):=by simp[Hid,DM.Bp,c]
  rw[c] at d;clear c;go_enter Tryz.func168,Tryz.ntmps168;go_wp2_with fail;refine d.out.mono ?_;rintro e m ⟨rfl,hs⟩;have j:=hs.CZ.CY.cell;have l:=hs.CZ.CY.frozen;simp only[DM.cells] at j;obtain⟨a,q,g⟩:=zc hs.CZ.dir;rw[g] at j;have o:=Z g;clear g
  go_wp2
  go_ret;rw[HM.out,<- o.out];refine⟨rfl,{L with Bx:=L.BE,Aj:=.slice none 0 0,BB:=[]},hs.trans ⟨?_,?_,?_⟩⟩
  .have:=hs.CZ.synced (w':=(m.setCell ⟨b,1,none⟩ L.BE).setCell ⟨b,2,none⟩ (.slice none 0 0)) ((hs.CZ.CY.set 1 L.BE).set 2 (.slice none 0 0)) (by repeat' first|exact O _ _|(with_reducible assumption)|refine Fr.drewN ?_ _|refine Fr.drew ?_|refine Fr.alloc ?_ _|refine Fr.set ?_ ?_ _|(intro _;rfl))
   exact this
  .exact Fr.set (Fr.set (O _ _) (fun _=>.CY) _) (fun _=>.CY) _
  .intro k hk
   refine .inl ?_;cases hk using Foot.elim with
   | blk=>exact .CY
   | dir e=>exact .dir e
   | safe e=>exact .dir e
   | ch e=>simp[Value.ownBlock] at e
   | chs i r e=>exact absurd r (Gb _)
   | file e=>exact .file e
   | row f l e=>exact .row f l e
 .have HM:Hid (M.Bp=(9,M.CX.2.2)):=by simp[Hid,DM.Bp,c]
  rw[c] at d;clear c;go_enter Tryz.func168,Tryz.ntmps168
  go_wp2_with (go_at_call 209;refine d.out.mono ?_;rintro e m ⟨rfl,hs⟩)
  go_ret;rw[HM.out];exact⟨rfl,_,hs⟩
def DM.Bg(M:DM)(f:Nat)(x:FM):DM:={M with file:=fun g=>if g=f then x else M.file g}
theorem DRep.yB{w l:World}{b:Nat}{L:DL}{M:DM}(h:DRep w b L M){f:Nat}{s:Nat}(hs:s<=(M.file f).bytes.length)
 (o:Blk l f [L.fV f,.int .i64 s] 152)(fr:Fr (fun k=>k=f) w l)(c:f∈M.ids) :
 DRep l b L (M.Bg f {M.file f with safe:=s}) where
 CY:=h.CY.fr fr ((h.CY).ne (h.files f c) (by decide))
 dir:=zb h.dir fr fun _ e a=>by subst a;exact zd h.dir (h.files _ c) (by decide) e
 safe:=zb h.safe fr fun _ e a=>by subst a;exact zd h.safe (h.files _ c) (by decide) e
 ch:=zb h.ch fr fun _ e a=>by subst a;exact zd h.ch (h.files _ c) (by decide) e
 Ag:=h.Ag
 Bj:=fun i j m=>zb (h.Bj i j m) fr fun _ e a=>by subst a;exact zd (h.Bj i j m) (h.files _ c) (by decide) e
 files:=fun g d=>by
  by_cases e:g=f
  .subst e;simpa [DM.Bg] using o
  .have:=(h.files g d).fr fr e
   simpa [DM.Bg,e] using this
 rows:=fun g d=>by
  have j:=zb (h.rows g d) fr fun _ e a=>by subst a;exact zd (h.rows g d) (h.files _ c) (by decide) e
  by_cases e:g=f
  .subst e;simpa [DM.Bg] using j
  .simpa [DM.Bg,e] using j
 sep:=h.sep
 le:=fun g d=>by
  by_cases e:g=f
  .subst e;simpa [DM.Bg] using hs
  .simpa [DM.Bg,e] using h.le g d
 BQ:=h.BQ
 AC:=h.AC
 AD:=h.AD
def DM.sync(M:DM)(a:ByteArray):Int × DM :=
 match M.dir.look a with
 | none=>(11,M)
 | some f=>(M.CX.2.1,if M.CX.2.1=0 then M.CX.2.2.Bg f {M.CX.2.2.file f with safe:=(M.CX.2.2.file f).bytes.length} else M.CX.2.2)
theorem Mm(a:ByteArray)(w:World)(b:Nat)(L:DL)(M:DM)(h:DRep w b L M) :
 Calls Tryz.prog 167 #[.pointer (some ⟨b,0,none⟩),.string a] w fun e J =>
  e=.returned (.int .i64 (M.sync a).1)/\∃ E,DStep b L M w E (M.sync a).2 J:=by
 have r:=h.CY.cell;simp only[DM.cells] at r;have v:=zH h.dir;unfold maxLen at v;have m:=Z h;rcases Yy M.dir a with⟨l,o⟩|⟨k,p,l,o,_⟩
 .have HM:Hid (M.sync a=(11,M)):=by simp[Hid,DM.sync,o]
  have t:=Z l;clear h l o;go_enter Tryz.func167,Tryz.ntmps167
  go_wp2_with (go_at_call 87;refine(Xi t.out _ m.out.dir).mono ?_;rintro e x ⟨rfl,d⟩)
  go_ret;rw[HM.out];exact⟨rfl,_,m.out.fr d (fun _ _=>id),d.mono (fun _ _=>False.elim),fun k p=>.inl p⟩
 .rcases M.Am with h0|h0
  .have HM:Hid (M.sync a=(0,M.CX.2.2.Bg M.dir[k].2 {M.CX.2.2.file M.dir[k].2 with safe:=(M.CX.2.2.file M.dir[k].2).bytes.length})):=by simp[Hid,DM.sync,o,h0]
   have t:=Z l;have y:=Z h0;clear h l o h0;go_enter Tryz.func167,Tryz.ntmps167;go_wp2_with fail;refine(Zn t.out _ m.out.dir).mono ?_;rintro e x ⟨rfl,d⟩;clear r;go_wp2_with fail;have u:=Zk x b L M (m.out.fr d (fun _ _=>id));rw[y.out] at u;refine u.mono ?_;rintro e K ⟨rfl,hs⟩;have r:=hs.CZ.CY.cell;simp only[DM.cells] at r;have B:k<M.CX.2.2.dir.length:=by rw[M.Bl.1];exact p
   have C:M.CX.2.2.dir[k].2=M.dir[k].2:=by simp[M.Bl.1]
   obtain⟨g,F,n,c,D,s,_,I,q⟩:=hs.CZ.entry B;rw[C] at s I q;have A:=(hs.CZ.files _ s).cell;have G:=(hs.CZ.files _ s).frozen;rw[q] at A;rw[D] at r;have z:=Z hs;clear hs q D C;go_wp2_with fail
   go_region
   go_wp2
   go_ret;rw[HM.out];refine⟨rfl,L,DStep.trans ⟨m.out.fr d (fun _ _=>id),d.mono (fun _ _=>False.elim),fun k p=>.inl p⟩ (z.out.trans ⟨?_,?_,?_⟩)⟩
   .exact z.out.CZ.yB (IQ _) (((z.out.CZ.files _ s).set 1 _).drew) (by repeat' first|exact O _ _|(with_reducible assumption)|refine Fr.drewN ?_ _|refine Fr.drew ?_|refine Fr.alloc ?_ _|refine Fr.set ?_ ?_ _|(intro _;rfl)) s
   .exact Fr.drew (Fr.set (O _ _) (fun _=>.file s) _)
   .intro j hj
    refine .inl ?_;cases hj using Foot.elim with
    | blk=>exact .CY
    | dir e=>exact .dir e
    | safe e=>exact .safe e
    | ch e=>exact .ch e
    | chs i l e=>exact .Bj i l e
    | file e=>exact .file e
    | row f d e=>exact .row f d e
  .have HM:Hid (M.sync a=(9,M.CX.2.2)):=by simp[Hid,DM.sync,o,h0]
   have t:=Z l;have y:=Z h0;clear h l o h0;go_enter Tryz.func167,Tryz.ntmps167;go_wp2_with fail;refine(Zn t.out _ m.out.dir).mono ?_;rintro e x ⟨rfl,d⟩;clear r;go_wp2_with fail;have u:=Zk x b L M (m.out.fr d (fun _ _=>id));rw[y.out] at u;refine u.mono ?_;rintro e K ⟨rfl,hs⟩
   go_wp2
   go_ret;rw[HM.out];exact⟨rfl,L,DStep.trans ⟨m.out.fr d (fun _ _=>id),d.mono (fun _ _=>False.elim),fun k p=>.inl p⟩ hs⟩
theorem UG:((Tryz.prog.info? 145).map fun i=>(i.zero.map (·.cells.size),i.size,i.bytes))=some (some 1,1,24):=by kernel_rfl
theorem Wl:((Tryz.prog.info? 148).map fun i=>(i.zero.map (·.cells.size),i.size,i.bytes))=some (some 2,2,24):=by kernel_rfl
theorem Wu:((Tryz.prog.info? 5).map fun i=>(i.zero.map (·.cells.size),i.size,i.bytes))=some (some 1,1,1):=by kernel_rfl
def DM.Bk(M:DM)(d:Dir):DM:={M with dir:=d,Bj:=M.Bj++[d]}
def DL.Bk(L:DL)(v a:Value):DL:={L with BE:=v,Aj:=a,BB:=L.BB++[v]}
theorem DRep.Bk{w w':World}{b:Nat}{L:DL}{M:DM}(h:DRep w b L M){d:Dir}{v j:Value}
 (A:Blk w' b ((M.Bk d).cells (L.Bk v j)) 143)(u:w.ownsRow 0 148 2 v d.length (flat d))
 (p:w'.ownsRow 0 145 1 j (M.Bj.length+1) (L.BB++[v]))(f:Fr (fun k=>k=b\/L.Aj.ownBlock=some k) w w')
 (s:∀ e,e∈d->e.2∈M.ids):DRep w' b (L.Bk v j) (M.Bk d):=by
 have m:∀ {v:Value} {n:Nat} {x:List Value},w.ownsRow 0 148 2 v n x->w'.ownsRow 0 148 2 v n x:=fun t =>
  zb t f fun k e l=>by
   rcases l with rfl|l
   .exact zd t h.CY (by decide) e
   .exact Zc t h.ch (by decide) e l
 exact {
  CY:=A
  dir:=m u
  safe:=m h.safe
  ch:=by
   have:(M.Bk d).Bj.length=M.Bj.length+1:=by simp[DM.Bk]
   rw[this];exact p
  Ag:=by simp[DM.Bk,DL.Bk,h.Ag]
  Bj:=fun i y z=>by
   simp only[DM.Bk,DL.Bk,IM,Hq,Gt] at y z;by_cases a:i<M.Bj.length
   .have q:(L.Bk v j).BB[i]=L.BB[i]'(by rw[h.Ag];exact a):=by simp[DL.Bk,h.Ag,a]
    have r:(M.Bk d).Bj[i]=M.Bj[i]:=by simp[DM.Bk,a]
    rw[q,r];exact m (h.Bj i _ a)
   .have s:i=M.Bj.length:=by omega
    have q:(L.Bk v j).BB[i]=v:=by simp[DL.Bk,List.getElem_append,h.Ag,a]
    have r:(M.Bk d).Bj[i]=d:=by simp[DM.Bk,List.getElem_append,a]
    rw[q,r];exact m u
  files:=fun g o=>(h.files g o).fr f fun l=>by
   rcases l with e|l
   .exact(h.files g o).ne h.CY (by decide) e
   .exact zd h.ch (h.files g o) (by decide) l
  rows:=fun g o=>zb (h.rows g o) f fun k e l=>by
   rcases l with rfl|l
   .exact zd (h.rows g o) h.CY (by decide) e
   .exact Zc (h.rows g o) h.ch (by decide) e l
  sep:=h.sep
  le:=h.le
  BQ:=s
  AC:=h.AC
  AD:=fun c p=>by
   simp only[DM.Bk,Hh,IZ] at p;rcases p with p|rfl
   .exact h.AD c p
   .exact s}
theorem QZ(v:Value)(d:Dir)(w:World)(b:Nat)(L:DL)(M:DM)(h:DRep w b L M)(A:w.ownsRow 0 148 2 v d.length (flat d))
 (N:∀ e,e∈d->e.2∈M.ids)(V:M.Bj.length+1<=1000000000000) :
 Calls Tryz.prog 219 #[.pointer (some ⟨b,0,none⟩),v] w fun e w' =>
  e=.returned (.tuple #[])/\∃ o,DRep w' b (L.Bk v o) (M.Bk d)/\Fr (fun k=>k=b\/L.Aj.ownBlock=some k) w w'/\(o.ownBlock=L.Aj.ownBlock\/∃ k,o.ownBlock=some k/\w.heap.size<=k):=by
 have y:=h.CY.cell;have J:=h.CY.frozen;simp only[DM.cells] at y;obtain⟨a,i,C⟩:=zc A;obtain⟨T,E,l⟩:=zc h.ch;have Q:=h.CY.lt;rw[l] at y;have m:=Z h;have G:=Z A;have I:=Z C;have t:=Z l;clear h A;rw[C];have B:=(zb m.out.ch (w':=(w.setCell ⟨b,0,none⟩ (.slice a d.length i)).alloc (.cells #[.slice a d.length i] 145)) (S:=fun k=>k=b) (by repeat' first|exact O _ _|(with_reducible assumption)|refine Fr.drewN ?_ _|refine Fr.drew ?_|refine Fr.alloc ?_ _|refine Fr.set ?_ ?_ _|(intro _;rfl))
  (fun k e p=>by subst p;exact zd m.out.ch m.out.CY (by decide) e))
 rw[l] at B;clear C l;go_enter Tryz.func219,Tryz.ntmps219
 go_wp2_with (at_builtin;go_must (refine zk rfl _ _ _ _ rfl _ _ (by rfl) (by rfl) (zt (w:=_) 141 _ 145 1 24 Tryz.underlying141 UG (by decide) _ _ _ B
  ⟨w.heap.size,0,none⟩ 1 1 [.slice a d.length i] rfl (XV _ _ _ _ (by simp)) (by intro u F;simp at F;subst F;rfl) (by unfold maxLen;omega) (by omega)) ?_))
 intro X w' c;have j:Blk w' b ((M.cells L).set 0 (.slice a d.length i)) 143 :=
  ((m.out.CY.set 0 _).alloc _).fr c.fr (by rw[<- t.out];exact zd m.out.ch m.out.CY (by decide))
 have z:=j.cell;have K:=j.frozen;simp only[DM.cells,List.set] at z;obtain⟨x,g,r⟩:=zc c.own;have s:=Z c;have D:=Z j;have R:=Z r;clear c j y J B;subst r
 go_wp2
 go_end0
 refine⟨rfl,.slice x (M.Bj.length+1) g,?_⟩;have q:Fr (fun k=>k=b\/L.Aj.ownBlock=some k) w (w'.setCell ⟨b,2,none⟩ (.slice x (M.Bj.length+1) g)):=by
  refine Fr.set (Fr.trans' (Fr.alloc (Fr.set (O _ w) (fun _=>.inl rfl) _) _) s.out.fr ?_) (fun _=>.inl rfl) _;intro k _ p;rw[<- t.out] at p;exact .inr p
 rw[<- I.out] at *;refine⟨m.out.Bk ?_ G.out ?_ q N,q,?_⟩
 .have:=D.out.set 2 (.slice x (M.Bj.length+1) g)
  exact this
 .have:=s.out.own
  refine zb this (S:=fun k=>k=b) (by repeat' first|exact O _ _|(with_reducible assumption)|refine Fr.drewN ?_ _|refine Fr.drew ?_|refine Fr.alloc ?_ _|refine Fr.set ?_ ?_ _|(intro _;rfl)) (fun k e p=>by subst p;exact zd this D.out (by decide) e)
 .rcases s.out.at_ with h1|h1
  .exact .inl (by rw[h1,t.out])
  .exact .inr ⟨_,h1,by simp⟩
theorem KY(d:Dir):∀ u∈flat d,u.oneCell'=true:=by
 induction d with
 | nil=>intro u a;cases a
 | cons e d c =>
  intro u a;simp only[flat,Fi,Hh,HY,Ft,Dy] at a c;rcases a with(rfl|rfl)|a
  .rfl
  .rfl
  .exact c u a
theorem OJ(d a:Dir):flat (d++a)=flat d++flat a:=by simp[flat]
def DM.Bf(M:DM)(f:Nat):DM:={M with ids:=f::M.ids,file:=fun g=>if g=f then⟨[],0⟩ else M.file g}
def DL.Bf(L:DL)(f:Nat):DL:={L with fV:=fun g=>if g=f then .slice none 0 0 else L.fV g}
theorem DRep.Bf{w:World}{b:Nat}{L:DL}{M:DM}(h:DRep w b L M){f:Nat}(o:Blk w f [.slice none 0 0,.int .i64 0] 152)(p:f∉M.ids) :
 DRep w b (L.Bf f) (M.Bf f):=by
 have ne:∀ g,g∈M.ids->g≠f:=fun g a e=>p (e▸a);exact {
  CY:=h.CY
  dir:=h.dir
  safe:=h.safe
  ch:=h.ch
  Ag:=h.Ag
  Bj:=h.Bj
  files:=fun g a=>by
   rcases HY.1 a with rfl|a
   .simpa [DM.Bf,DL.Bf] using o
   .simpa [DM.Bf,DL.Bf,ne g a] using h.files g a
  rows:=fun g a=>by
   rcases HY.1 a with rfl|a
   .simpa [DM.Bf,DL.Bf,u8s] using Hc w 0 5 1
   .simpa [DM.Bf,DL.Bf,ne g a] using h.rows g a
  sep:=fun g a l c e k j=>by
   rcases HY.1 a with rfl|a
   .simp[DL.Bf,Value.ownBlock] at j
   .rcases HY.1 c with rfl|c
    .simp[DL.Bf,Value.ownBlock]
    .simp only[DL.Bf,ne g a,ne l c,Gj] at j |-
     exact h.sep g a l c e k j
  le:=fun g a=>by
   rcases HY.1 a with rfl|a
   .simp[DM.Bf]
   .simpa [DM.Bf,ne g a] using h.le g a
  BQ:=fun e i=>Hb _ (h.BQ e i)
  AC:=fun e i=>Hb _ (h.AC e i)
  AD:=fun d m e i=>Hb _ (h.AD d m e i)}
def DM.create(M:DM)(a:ByteArray)(f:Nat):Int × DM :=
 if a=ByteArray.empty\/(M.dir.look a).isSome=true then(11,M)
 else(M.CX.2.1,if M.CX.1=true then(M.CX.2.2.Bf f).Bk (M.CX.2.2.dir++[(a,f)]) else M.CX.2.2)
theorem OK(a:ByteArray)(w:World)(b:Nat)(L:DL)(M:DM)(h:DRep w b L M)(f:a=ByteArray.empty\/(M.dir.look a).isSome=true) :
 Calls Tryz.prog 211 #[.pointer (some ⟨b,0,none⟩),.string a] w fun e o =>
  e=.returned (.int .i64 11)/\Fr Nil w o:=by
 have j:=h.CY.cell;simp only[DM.cells] at j;by_cases c:a=ByteArray.empty
 .subst c
  go_enter Cx,Cd
  go_wp2
  go_ret;exact⟨rfl,O _ _⟩
 .have hn':(M.dir.look a).isSome=true:=by rcases f with h|h;exact absurd h c;exact h
  rcases Yy M.dir a with⟨_,i⟩|⟨k,p,d,_,_⟩
  .rw[i] at hn';cases hn'
  .have HH:=Z h
   have g:=Z d;have l:a.toList.isEmpty=false:=by
    cases h':a.toList.isEmpty with
    | false=>rfl
    | true=>exact absurd ((toList_nil_iff_emptyBytes a).1 (by simpa using h')) c
   clear f hn' h d;go_enter Cx,Cd
   go_wp2_with (go_at_call 87;refine(Zn g.out _ HH.out.dir).mono ?_;rintro e q ⟨rfl,m⟩)
   go_ret;exact⟨rfl,m⟩
theorem Rj{a:ByteArray}(c:¬a=ByteArray.empty):a.toList.isEmpty=false:=by
 cases h':a.toList.isEmpty with
 | false=>rfl
 | true=>exact absurd ((toList_nil_iff_emptyBytes a).1 (by simpa using h')) c
theorem DStep.look{w a:World}{b:Nat}{L:DL}{M:DM}(h:DRep w b L M)(f:Fr Nil w a):DStep b L M w L M a :=
 ⟨h.fr f (fun _ _=>id),f.mono (fun _ _=>False.elim),fun _ c=>.inl c⟩
theorem Foot.Ax{b:Nat}{L:DL}{M:DM}{f k:Nat}(h:Foot b (L.Bf f) (M.Bf f) k):k=f\/Foot b L M k:=by
 cases h using Foot.elim with
 | blk=>exact .inr .CY
 | dir e=>exact .inr (.dir e)
 | safe e=>exact .inr (.safe e)
 | ch e=>exact .inr (.ch e)
 | chs i j e=>exact .inr (.Bj i j e)
 | file e =>
  rcases HY.1 e with e|e
  .exact .inl e
  .exact .inr (.file e)
 | row g c e =>
  by_cases a:g=f
  .simp[DL.Bf,a,Value.ownBlock] at e
  .simp only[DL.Bf,a,Gj] at e
   rcases HY.1 c with c|c
   .exact absurd c a
   .exact .inr (.row g c e)
theorem Foot.yh{b:Nat}{L:DL}{M:DM}{v cv:Value}{d:Dir}{k:Nat}(h:Foot b (L.Bk v cv) (M.Bk d) k) :
 v.ownBlock=some k\/cv.ownBlock=some k\/Foot b L M k:=by
 cases h using Foot.elim with
 | blk=>exact .inr (.inr .CY)
 | dir e=>exact .inl e
 | safe e=>exact .inr (.inr (.safe e))
 | ch e=>exact .inr (.inl e)
 | chs i c e =>
  simp only[DL.Bk,DG] at e;split at e
  .exact .inr (.inr (.Bj i _ e))
  .simp at e;exact .inl e
 | file e=>exact .inr (.inr (.file e))
 | row g a e=>exact .inr (.inr (.row g a e))
theorem Mn(a:ByteArray)(w:World)(b:Nat)(L:DL)(M:DM)(h:DRep w b L M)(i:¬a=ByteArray.empty)(f:Zl M.dir a=-1)(g:M.CX.1=false) :
 Calls Tryz.prog 211 #[.pointer (some ⟨b,0,none⟩),.string a] w fun e p =>
  e=.returned (.int .i64 M.CX.2.1)/\DStep b L M w L M.CX.2.2 p:=by
 have m:=h.CY.cell;simp only[DM.cells] at m;have c:=Z h;have k:=Z f;have l:=Z g;have o:=Rj i;clear h f g i;go_enter Cx,Cd;go_wp2_with fail;refine(Xi k.out _ c.out.dir).mono ?_;rintro e q ⟨rfl,j⟩;go_wp2_with fail;have d:=Zk q b L M (c.out.fr j (fun _ _=>id));rw[l.out] at d;refine d.mono ?_;rintro e r ⟨rfl,hs⟩
 go_wp2
 go_ret;exact⟨rfl,(DStep.look c.out j).trans hs⟩
theorem OL(a:ByteArray)(w:World)(b:Nat)(L:DL)(M:DM)(h:DRep w b L M)(i:¬a=ByteArray.empty)(N:Zl M.dir a=-1)(hd:M.CX.1=true)
 (hn:M.Bj.length+1<=1000000000000)(hm:M.dir.length+1<=1000000000000) :
 Calls Tryz.prog 211 #[.pointer (some ⟨b,0,none⟩),.string a] w fun e w' =>
  e=.returned (.int .i64 M.CX.2.1)/\∃ f L',w.heap.size<=f/\f<w'.heap.size/\DStep b L M w L' ((M.CX.2.2.Bf f).Bk (M.CX.2.2.dir++[(a,f)])) w':=by
 have B:=h.CY.cell;simp only[DM.cells] at B;have X:=Z h;have H1:=Z N;have HD:=Z hd;have b0:=Rj i;clear h N hd i;go_enter Cx,Cd;go_wp2_with fail;refine(Xi H1.out _ X.out.dir).mono ?_;rintro e w1 ⟨rfl,hf⟩;go_wp2_with fail;have HB:=Zk w1 b L M (X.out.fr hf (fun _ _=>id));rw[HD.out] at HB;refine HB.mono ?_;rintro e K ⟨rfl,hs⟩;clear B;have B:=hs.CZ.CY.cell;simp only[DM.cells] at B;have g:=M.Bl;have a6:M.CX.2.2.dir.length+1<=1000000000000:=by rw[g.1];exact hm
 have t:M.CX.2.2.Bj.length+1<=1000000000000:=by rw[g.2.2.1];exact hn
 clear g;have y:=Z hs;clear hs
 go_wp2_with (at_builtin;go_must (refine zk rfl _ _ _ _ rfl _ _ (by rfl) (by rfl) (Xt 140 _ 148 2 24 Db Wl (by decide) _ _ _ (Hc _ 0 _ _) _ _ _ y.out.CZ.dir (KY _) (by unfold maxLen;omega) (by omega)) ?_))
 intro v1 c Q;have z:=Z Q;obtain⟨a1,c1,a5⟩:=zc Q.own;have p:Fr Nil K c:=Q.fr.mono (fun _ _ h=>by simp[Value.ownBlock] at h);have E:=y.out.CZ.fr p (fun _ _=>id);have s:=Z E;clear Q E B;subst a5;have hh:b<c.heap.size:=s.out.CY.lt
 -- the file's own block,the entry's,then the entry behind the others
 have r:((c.alloc (.cells #[.slice none 0 0,.int .i64 0] 152)).alloc (.cells #[.string a,.pointer (some ⟨c.heap.size,0,none⟩)] 148)).ownsRow 0 148 2
  (.slice a1 M.CX.2.2.dir.length c1) M.CX.2.2.dir.length (flat M.CX.2.2.dir):=(z.out.own.alloc _).alloc _
 go_wp2_with (at_builtin;go_must (refine zk rfl _ _ _ _ rfl _ _ (by rfl) (by rfl) (zt 140 _ 148 2 24 Db Wl (by decide) _ _ _ r
  ⟨c.heap.size+1,0,none⟩ 1 1 [.string a,.pointer (some ⟨c.heap.size,0,none⟩)] rfl (U0 _ _ _ _ _ (by simp)) (by intro u hu;simp at hu;rcases hu with rfl|rfl <;> rfl) (by unfold maxLen;omega) (by omega)) ?_))
 intro R S A;have l:=Z A;clear A r;have x:DRep S b (L.Bf c.heap.size) (M.CX.2.2.Bf c.heap.size):=by
  have a4:c.heap.size∉M.CX.2.2.ids:=fun hi=>by
   have:=(s.out.files _ hi).lt;omega
  have h0:=(s.out.fr ((O Nil c).alloc (.cells #[.slice none 0 0,.int .i64 0] 152)) (fun _ _=>id)).Bf (f:=c.heap.size) (Blk.new c [.slice none 0 0,.int .i64 0] _) a4;have N:=h0.fr ((O Nil _).alloc (.cells #[.string a,.pointer (some ⟨c.heap.size,0,none⟩)] 148)) (fun _ _=>id);refine N.fr l.out.fr ?_;intro k g i;have a8:k=K.heap.size:=by
   rcases z.out.at_ with h|h
   .rw[h] at i;simp[Value.ownBlock] at i
   .rw[h] at i;simpa using i.symm
  have a9:K.heap.size<c.heap.size:=by
   have:=zC z.out.own (k:=k) i;omega
  rcases g.Ax with h|h
  .omega
  .have:=y.out.CZ.lt h
   omega
 have J:∀ k,R.ownBlock=some k->K.heap.size<=k:=by
  intro k g;rcases l.out.at_ with h|h
  .rw[h] at g
   rcases z.out.at_ with m|m
   .rw[m] at g;simp[Value.ownBlock] at g
   .rw[m] at g;simp at g;omega
  .rw[h] at g
   simp at g;have:=p.size;omega
 have a3:Fr Nil K S:=by
  refine Fr.trans' (Fr.alloc (Fr.alloc p _) _) l.out.fr ?_;intro k g i;rcases z.out.at_ with m|m
  .rw[m] at i;simp[Value.ownBlock] at i
  .rw[m] at i;simp at i;omega
 have G:=l.out.fr.size;simp only[Du] at G;have I:(M.CX.2.2.dir++[(a,c.heap.size)]).length=M.CX.2.2.dir.length+1:=by simp
 have o:S.ownsRow 0 148 2 R (M.CX.2.2.dir++[(a,c.heap.size)]).length (flat (M.CX.2.2.dir++[(a,c.heap.size)])):=by
  rw[I,OJ];exact l.out.own
 have q:∀ e,e∈M.CX.2.2.dir++[(a,c.heap.size)]->e.2∈(M.CX.2.2.Bf c.heap.size).ids:=by
  intro e i;simp only[Hh,IZ] at i;rcases i with i|rfl
  .exact Hb _ (y.out.CZ.BQ e i)
  .exact Hf ..
 have HT:=QZ R (M.CX.2.2.dir++[(a,c.heap.size)]) S b _ _ x o q t;have a0:=Z HT;have a7:=Z x;clear HT x o q I;go_wp2_with fail;refine a0.out.mono ?_;rintro e w5 ⟨rfl,cv,F,D,C⟩;have Y:=Z F;have j:=fun k=>Foot.yh (b:=b) (L:=L.Bf c.heap.size) (M:=M.CX.2.2.Bf c.heap.size) (v:=R) (cv:=cv) (d:=M.CX.2.2.dir++[(a,c.heap.size)]) (k:=k);have V:=Z j;have T:=Z C;have a2:=Z J;clear F j C J
 go_wp2
 go_ret;have b2:=y.out.fr.size;have b1:=hf.size;have b3:=p.size;have b4:=D.size;refine⟨rfl,c.heap.size,_,by omega,by omega,(DStep.look X.out hf).trans (y.out.trans ⟨Y.out,?_,?_⟩)⟩
 .refine Fr.trans' (a3.mono (fun _ _=>False.elim)) D ?_
  intro k _ g;rcases g with rfl|g
  .exact .CY
  .exact .ch g
 .intro k g
  rcases V.out k g with h|h|h
  .exact .inr (a2.out k h)
  .rcases T.out with m|⟨k',m,hle⟩
   .rw[m] at h;exact .inl (.ch h)
   .rw[m] at h;simp at h;omega
  .rcases h.Ax with h|h
   .omega
   .exact .inl h
theorem DRep.grow{w s:World}{b:Nat}{L:DL}{M:DM}(h:DRep w b L M){f:Nat}(p:f∈M.ids){v:Value}{y:List UInt8}
 (E:Blk s f [v,.int .i64 (M.file f).safe] 152)(F:s.ownsRow 0 5 1 v ((M.file f).bytes++y).length (u8s ((M.file f).bytes++y)))
 (fr:Fr (fun k=>k=f\/(L.fV f).ownBlock=some k) w s)(u:∀ k,v.ownBlock=some k->(L.fV f).ownBlock=some k\/w.heap.size<=k) :
 DRep s b {L with fV:=fun g=>if g=f then v else L.fV g} (M.Bg f {M.file f with bytes:=(M.file f).bytes++y}):=by
 have A:∀ {k:Nat} {c:List Value} {t:TypeId},Blk w k c t->t≠152->t≠5->Blk s k c t:=fun q l m =>
  q.fr fr fun a=>by
   rcases a with e|a
   .exact q.ne (h.files f p) l e
   .exact zd (h.rows f p) q m a
 have d:∀ {e:TypeId} {C:Nat} {v:Value} {n:Nat} {D:List Value},w.ownsRow 0 e C v n D->e≠152->e≠5->s.ownsRow 0 e C v n D:=fun q l m =>
  zb q fr fun k e a=>by
   rcases a with rfl|a
   .exact zd q (h.files k p) (DN l) e
   .exact Zc q (h.rows f p) m e a
 exact {
  CY:=A h.CY (by decide) (by decide)
  dir:=d h.dir (by decide) (by decide)
  safe:=d h.safe (by decide) (by decide)
  ch:=d h.ch (by decide) (by decide)
  Ag:=h.Ag
  Bj:=fun i l m=>d (h.Bj i l m) (by decide) (by decide)
  files:=fun g j=>by
   by_cases e:g=f
   .subst e;simpa [DM.Bg] using E
   .have:=(h.files g j).fr fr (fun a=>by
     rcases a with a|a
     .exact e a
     .exact zd (h.rows f p) (h.files g j) (by decide) a)
    simpa [DM.Bg,e] using this
  rows:=fun g j=>by
   by_cases e:g=f
   .subst e;simpa [DM.Bg] using F
   .have:=zb (h.rows g j) fr (fun k B a=>by
     rcases a with rfl|a
     .exact zd (h.rows g j) (h.files k p) (by decide) B
     .exact h.sep g j f p e k B a)
    simpa [DM.Bg,e] using this
  sep:=fun g j r o e k a=>by
   by_cases z:g=f
   .subst z
    have x:¬r=g:=fun h=>e h.symm;simp only[Gi,x,Gj] at a |-;rcases u k a with l|l
    .exact h.sep g j r o e k l
    .intro m
     have:=zC (h.rows r o) m;omega
   .by_cases x:r=f
    .subst x
     simp only[z,Gj,Gi] at a |-;intro m;rcases u k m with l|l
     .exact h.sep g j r o e k a l
     .have:=zC (h.rows g j) a
      omega
    .simp only[z,x,Gj] at a |-
     exact h.sep g j r o e k a
  le:=fun g j=>by
   by_cases e:g=f
   .subst e
    have:=h.le g j;simp[DM.Bg];omega
   .simpa [DM.Bg,e] using h.le g j
  BQ:=h.BQ
  AC:=h.AC
  AD:=h.AD}
def DM.tries(M:DM)(n:Int):Option Int :=
 if M.CX.1=true then some n
 else if M.CX.2.2.dead=false/\0<n then some (M.part.tmod n)
 else none
def DM.left(M:DM):Int:=if IntKind.i64.wrap (M.room-M.used)<0 then 0 else IntKind.i64.wrap (M.room-M.used)
theorem OM(a c:ByteArray)(w:World)(b:Nat)(L:DL)(M:DM)(h:DRep w b L M)(f:Zl M.dir a=-1) :
 Calls Tryz.prog 203 #[.pointer (some ⟨b,0,none⟩),.string a,.string c] w fun e k =>
  e=.returned (.int .i64 11)/\DStep b L M w L M k:=by
 have i:=h.CY.cell;simp only[DM.cells] at i;have d:=Z h;have g:=Z f;clear h f;go_enter EA,El
 go_wp2_with (go_at_call 87;refine(Xi g.out _ d.out.dir).mono ?_;rintro e l ⟨rfl,j⟩)
 go_ret;exact⟨rfl,DStep.look d.out j⟩
theorem Mo(c a:ByteArray)(w:World)(b:Nat)(L:DL)(M:DM)(h:DRep w b L M)(k:Nat)(_:k<M.dir.length)(m:Zl M.dir c=k)(o:M.CX.1=false)(d:M.CX.2.2.dead=true)(_:a.size<=1000000000000) :
 Calls Tryz.prog 203 #[.pointer (some ⟨b,0,none⟩),.string c,.string a] w fun e s =>
  e=.returned (.int .i64 M.CX.2.1)/\DStep b L M w L M.CX.2.2 s:=by
 have g:=h.CY.cell;have f:=zH h.dir;unfold maxLen at f;simp only[DM.cells] at g;have j:=Z h;have q:=Z m;have r:=Z o;have i:=Z d;clear h m o d;go_enter EA,El;go_wp2_with fail;refine(Zn q.out _ j.out.dir).mono ?_;rintro e t ⟨rfl,p⟩;go_wp2_with fail;have l:=Zk t b L M (j.out.fr p (fun _ _=>id));rw[r.out] at l;refine l.mono ?_;rintro e u ⟨rfl,hs⟩;clear g;have g:=hs.CZ.CY.cell;simp only[DM.cells,i.out] at g
 go_wp2
 go_ret;exact⟨rfl,(DStep.look j.out p).trans hs⟩
theorem append_nil(c a:ByteArray)(w:World)(b:Nat)(L:DL)(M:DM)(h:DRep w b L M)(k:Nat)(_:k<M.dir.length)(m:Zl M.dir c=k)(o:M.CX.1=false)(d:M.CX.2.2.dead=false)(_:a.size=0) :
 Calls Tryz.prog 203 #[.pointer (some ⟨b,0,none⟩),.string c,.string a] w fun e s =>
  e=.returned (.int .i64 M.CX.2.1)/\DStep b L M w L M.CX.2.2 s:=by
 have g:=h.CY.cell;have f:=zH h.dir;unfold maxLen at f;simp only[DM.cells] at g;have j:=Z h;have q:=Z m;have r:=Z o;have i:=Z d;clear h m o d;go_enter EA,El;go_wp2_with fail;refine(Zn q.out _ j.out.dir).mono ?_;rintro e t ⟨rfl,p⟩;go_wp2_with fail;have l:=Zk t b L M (j.out.fr p (fun _ _=>id));rw[r.out] at l;refine l.mono ?_;rintro e u ⟨rfl,hs⟩;clear g;have g:=hs.CZ.CY.cell;simp only[DM.cells,i.out] at g
 go_wp2
 go_ret;exact⟨rfl,(DStep.look j.out p).trans hs⟩
theorem W7(w:World)(b:Nat)(L:DL)(M:DM)(d:World)(h:DRep d b L M)(a:Fr Nil d w) :
 Calls Tryz.prog 41 #[.pointer (some ⟨b,0,none⟩)] w fun e c=>e=.returned (.int .i64 M.used)/\c.cell? ⟨b,3,none⟩=some (.int .i64 M.room)/\Fr Nil d c:=by
 refine(Tp w b L M (h.fr a (fun _ _=>id))).mono fun e c ⟨g,f⟩=>⟨g,?_,a.trans f⟩;exact((h.fr (a.trans f) (fun _ _=>id)).CY.cell 3)
theorem W8{w o:World}{b:Nat}{L:DL}{M:DM}(h:DRep w b L M){f:Nat}(l:f∈M.ids){n:Option Addr}{c m:Nat}{j:List UInt8}{v:Value}
 (x:L.fV f=.slice n (M.file f).bytes.length c)(hm:m=j.length)
 (u:App w.drew (.slice n (M.file f).bytes.length c) 5 1 ((M.file f).bytes.length+m) (u8s (M.file f).bytes++u8s j) v o) :
 ∃ z,DStep b L M w z (M.Bg f {M.file f with bytes:=(M.file f).bytes++j}) (o.setCell ⟨f,0,none⟩ v):=by
 subst hm;have r:Fr (fun k=>k=f\/(L.fV f).ownBlock=some k) w (o.setCell ⟨f,0,none⟩ v):=by
  refine Fr.set (Fr.trans' (Fr.drew (O _ w)) u.fr ?_) (fun _=>.inl rfl) _;intro k _ a;exact .inr (by rw[x];exact a)
 have q:Blk o f [L.fV f,.int .i64 (M.file f).safe] 152:=by
  have C:=(h.files f l).drew;refine C.fr u.fr ?_;rw[<- x];exact zd (h.rows f l) (h.files f l) (by decide)
 have D:Blk (o.setCell ⟨f,0,none⟩ v) f [v,.int .i64 (M.file f).safe] 152:=q.set 0 v;have p:∀ k,v.ownBlock=some k->(L.fV f).ownBlock=some k\/w.heap.size<=k:=by
  intro k a;rcases u.at_ with d|d
  .rw[d] at a;exact .inl (by rw[x];exact a)
  .rw[d] at a;simp at a;exact .inr (by omega)
 have t:(o.setCell ⟨f,0,none⟩ v).ownsRow 0 5 1 v ((M.file f).bytes++j).length (u8s ((M.file f).bytes++j)):=by
  have d:=u.own;have A:u8s ((M.file f).bytes++j)=u8s (M.file f).bytes++u8s j:=by simp[u8s]
  have B:((M.file f).bytes++j).length=(M.file f).bytes.length+j.length:=by simp
  rw[A,B];exact zb d (S:=fun k=>k=f) (by repeat' first|exact O _ _|(with_reducible assumption)|refine Fr.drewN ?_ _|refine Fr.drew ?_|refine Fr.alloc ?_ _|refine Fr.set ?_ ?_ _|(intro _;rfl)) (fun k e a=>by subst a;exact zd d q (by decide) e)
 refine⟨{L with fV:=fun g=>if g=f then v else L.fV g},⟨h.grow l D t r p,r.mono ?_,?_⟩⟩
 .intro k _ a
  rcases a with rfl|a
  .exact .file l
  .exact .row f l a
 .intro k a
  cases a using Foot.elim with
  | blk=>exact .inl .CY
  | dir e=>exact .inl (.dir e)
  | safe e=>exact .inl (.safe e)
  | ch e=>exact .inl (.ch e)
  | chs i d e=>exact .inl (.Bj i d e)
  | file e=>exact .inl (.file e)
  | row g y e =>
   by_cases s:g=f
   .subst s
    simp only[Gi] at e;rcases p k e with d|d
    .exact .inl (.row g y d)
    .exact .inr d
   .simp only[s,Gj] at e
    exact .inl (.row g y e)
theorem ON(m a:ByteArray)(w:World)(b:Nat)(L:DL)(M:DM)(h:DRep w b L M)(k:Nat)(hk:k<M.dir.length)(Y:Zl M.dir m=k)(T:a.size<=1000000000000)(K:(M.file M.dir[k].2).bytes.length<=1000000000000)
 (hd:M.CX.1=true)(f:¬M.CX.2.2.left<a.size) :
 Calls Tryz.prog 203 #[.pointer (some ⟨b,0,none⟩),.string m,.string a] w fun e X =>
  e=.returned (.int .i64 M.CX.2.1)/\∃ G,DStep b L M w G ((M.CX.2.2).Bg M.dir[k].2 {M.CX.2.2.file M.dir[k].2 with bytes:=(M.CX.2.2.file M.dir[k].2).bytes++(a).data.toList}) X:=by
 have l:=h.CY.cell;have x:=zH h.dir;unfold maxLen at x;simp only[DM.cells] at l;have D:=Z h;have H1:=Z Y;have HD:=Z hd;have HL:=Z f;clear f;clear h Y hd;go_enter EA,El;go_wp2_with fail;refine(Zn H1.out _ D.out.dir).mono ?_;rintro e w1 ⟨rfl,hf⟩;go_wp2_with fail;have C:=Zk w1 b L M (D.out.fr hf (fun _ _=>id));rw[HD.out] at C;refine C.mono ?_;rintro e w2 ⟨rfl,hs⟩;clear l C;have l:=hs.CZ.CY.cell;simp only[DM.cells] at l;have p:=hs.CZ.CY.cell 3;simp only[DM.cells] at p;simp at p;have z:=Z hs;clear hs;go_wp2_with fail
 go_region_held3 (fun X=>X.cell? ⟨b,3,none⟩=some (.int .i64 M.CX.2.2.room)) (first|go_keep|assumption) (first|(go_at_call 41;refine(W7 _ b L M.CX.2.2 w2 z.out.CZ (Fr.drew (O _ _))).mono ?_;rintro e w3 ⟨rfl,Q,u⟩))
 have HE:Hid ((if IntKind.i64.wrap (M.CX.2.2.room-M.CX.2.2.used)<0 then 0 else IntKind.i64.wrap (M.CX.2.2.room-M.CX.2.2.used))=M.CX.2.2.left):=rfl;rw[HE.out];have F:=HL.out;generalize M.CX.2.2.left=left at F;have q:=z.out.CZ.fr u (fun _ _=>id);have N:k<M.CX.2.2.dir.length:=by rw[M.Bl.1];exact hk
 have he:M.CX.2.2.dir[k].2=M.dir[k].2:=by simp[M.Bl.1]
 obtain⟨g,a1,n,c,hv,r,_,hp,i⟩:=q.entry N;rw[he] at r hp i;have J:=(q.files _ r).cell;have a3:=(q.files _ r).frozen;rw[i] at J;clear l p Q;have l:=q.CY.cell;simp only[DM.cells] at l;rw[hv] at l;have B:=Z q;have o:=Z i;clear q i hv;have d:=B.out.rows _ r;rw[o.out] at d;have s:=Z d;have a0:(M.CX.2.2.file M.dir[k].2).bytes.length<=1000000000000:=by rw[M.Bl.2.2.2.1];exact K
 have R:(a).size<=1000000000000:=by exact T
 have q1:(M.CX.2.2.file M.dir[k].2).bytes.length+(a).size<=maxLen:=by unfold maxLen;omega
 have q2:(M.CX.2.2.file M.dir[k].2).bytes.length+(a).size<=140737488355328:=by omega
 have Q1:=Z q1;have Q2:=Z q2;have E:Hid (∀ y:World,Fr (fun j=>(Value.slice n (M.CX.2.2.file M.dir[k].2).bytes.length c).ownBlock=some j) w3.drew y->Blk y M.dir[k].2 [.slice n (M.CX.2.2.file M.dir[k].2).bytes.length c,.int .i64 (M.CX.2.2.file M.dir[k].2).safe] 152):=by
  intro y v;have I:=B.out.files _ r;rw[o.out] at I;exact(I.drew).fr v (zd d I (by decide))
 clear q1 q2 d R;go_wp2_with fail
 go_region_law
  ((refine Zf (by rfl) _ _ _ _ (by rfl) _ _ (by rfl) (by rfl) (Y3 (w:=w3.drew) 150 9 _ 5 GE GX Wu _ _ _ s.out (a) Q1.out Q2.out) ?_;intro v4 y A;obtain⟨a4,c4,V⟩:=zc A.own;have t:=E.out y A.fr;have a2:=t.cell 0;have v:=t.frozen 0;have HA:=Z A;clear A;subst V))
 go_wp2
 go_ret;obtain⟨G,S⟩:=W8 B.out r o.out (by simp) HA.out;exact⟨rfl,G,(DStep.look D.out hf).trans (z.out.trans ((DStep.look z.out.CZ u).trans S))⟩
theorem P0(o a:ByteArray)(w:World)(b:Nat)(L:DL)(M:DM)(h:DRep w b L M)(k:Nat)(hk:k<M.dir.length)(h1:Zl M.dir o=k)(a7:a.size<=1000000000000)(S:(M.file M.dir[k].2).bytes.length<=1000000000000)
 (hd:M.CX.1=true)(v:M.CX.2.1=9)(m:Nat)(hm:M.CX.2.2.left=m)(f:(m:Int)<a.size) :
 Calls Tryz.prog 203 #[.pointer (some ⟨b,0,none⟩),.string o,.string a] w fun e w' =>
  e=.returned (.int .i64 9)/\∃ K,DStep b L M w K ((M.CX.2.2).Bg M.dir[k].2 {M.CX.2.2.file M.dir[k].2 with bytes:=(M.CX.2.2.file M.dir[k].2).bytes++(a.extract 0 m).data.toList}) w':=by
 have l:=h.CY.cell;have z:=zH h.dir;unfold maxLen at z;simp only[DM.cells] at l;have I:=Z h;have H1:=Z h1;have HD:=Z hd;have HL:=Z f;have G:=Z v;have HM:=Z hm;clear f v hm;clear h h1 hd;go_enter EA,El;go_wp2_with fail;refine(Zn H1.out _ I.out.dir).mono ?_;rintro e w1 ⟨rfl,hf⟩;go_wp2_with fail;have C:=Zk w1 b L M (I.out.fr hf (fun _ _=>id));rw[HD.out] at C;rw[G.out] at C;refine C.mono ?_;rintro e w2 ⟨rfl,hs⟩;clear l C;have l:=hs.CZ.CY.cell;simp only[DM.cells] at l;have q:=hs.CZ.CY.cell 3;simp only[DM.cells] at q;simp at q;have D:=Z hs;clear hs;go_wp2_with fail
 go_region_held3 (fun w'=>w'.cell? ⟨b,3,none⟩=some (.int .i64 M.CX.2.2.room)) (first|go_keep|assumption) (first|(go_at_call 41;refine(W7 _ b L M.CX.2.2 w2 D.out.CZ (Fr.drew (O _ _))).mono ?_;rintro e w3 ⟨rfl,V,x⟩))
 have HE:Hid ((if IntKind.i64.wrap (M.CX.2.2.room-M.CX.2.2.used)<0 then 0 else IntKind.i64.wrap (M.CX.2.2.room-M.CX.2.2.used))=M.CX.2.2.left):=rfl;rw[HE.out];rw[HM.out];have a1:=HL.out;have a6:m<=a.size:=by omega
 have r:=D.out.CZ.fr x (fun _ _=>id);have T:k<M.CX.2.2.dir.length:=by rw[M.Bl.1];exact hk
 have he:M.CX.2.2.dir[k].2=M.dir[k].2:=by simp[M.Bl.1]
 obtain⟨g,a2,n,c,hv,s,_,hp,i⟩:=r.entry T;rw[he] at s hp i;have Q:=(r.files _ s).cell;have a5:=(r.files _ s).frozen;rw[i] at Q;clear l q V;have l:=r.CY.cell;simp only[DM.cells] at l;rw[hv] at l;have F:=Z r;have p:=Z i;clear r i hv;have d:=F.out.rows _ s;rw[p.out] at d;have t:=Z d;have a0:(M.CX.2.2.file M.dir[k].2).bytes.length<=1000000000000:=by rw[M.Bl.2.2.2.1];exact S
 have X:(a.extract 0 m).size<=1000000000000:=by rw[Fb];omega
 have q1:(M.CX.2.2.file M.dir[k].2).bytes.length+(a.extract 0 m).size<=maxLen:=by unfold maxLen;omega
 have q2:(M.CX.2.2.file M.dir[k].2).bytes.length+(a.extract 0 m).size<=140737488355328:=by omega
 have Q1:=Z q1;have Q2:=Z q2;have J:Hid (∀ B:World,Fr (fun j=>(Value.slice n (M.CX.2.2.file M.dir[k].2).bytes.length c).ownBlock=some j) w3.drew B->Blk B M.dir[k].2 [.slice n (M.CX.2.2.file M.dir[k].2).bytes.length c,.int .i64 (M.CX.2.2.file M.dir[k].2).safe] 152):=by
  intro B y;have N:=F.out.files _ s;rw[p.out] at N;exact(N.drew).fr y (zd d N (by decide))
 clear q1 q2 d X;go_wp2_with fail
 go_region_law
  ((refine Zf (by rfl) _ _ _ _ (by rfl) _ _ (by rfl) (by rfl) (Y3 (w:=w3.drew) 150 9 _ 5 GE GX Wu _ _ _ t.out (a.extract 0 m) Q1.out Q2.out) ?_;intro v4 B E;obtain⟨a4,c4,Y⟩:=zc E.own;have u:=J.out B E.fr;have a3:=u.cell 0;have y:=u.frozen 0;have HA:=Z E;clear E;subst Y))
 go_wp2
 go_ret;obtain⟨K,A⟩:=W8 F.out s p.out (by simp) HA.out;have R:(a.extract 0 m).size=m:=by rw[Fb];omega
 rw[R] at A;exact⟨rfl,K,(DStep.look I.out hf).trans (D.out.trans ((DStep.look D.out.CZ x).trans A))⟩
theorem Ts(o a:ByteArray)(w:World)(b:Nat)(L:DL)(M:DM)(h:DRep w b L M)(k:Nat)(hk:k<M.dir.length)(h1:Zl M.dir o=k)(b6:a.size<=1000000000000)(a1:(M.file M.dir[k].2).bytes.length<=1000000000000)
 (hd:M.CX.1=false)(z:M.CX.2.1=9)(y:M.CX.2.2.dead=false)(p q:Nat)(D:M.CX.2.2.part=p)(hq:(p:Int).tmod a.size=q)(b5:q<a.size)(m:Nat)(hm:M.CX.2.2.left=m)(f:(m:Int)<q) :
 Calls Tryz.prog 203 #[.pointer (some ⟨b,0,none⟩),.string o,.string a] w fun e w' =>
  e=.returned (.int .i64 9)/\∃ V,DStep b L M w V ((M.CX.2.2).Bg M.dir[k].2 {M.CX.2.2.file M.dir[k].2 with bytes:=(M.CX.2.2.file M.dir[k].2).bytes++(a.extract 0 m).data.toList}) w':=by
 have l:=h.CY.cell;have C:=zH h.dir;unfold maxLen at C;simp only[DM.cells] at l;have R:=Z h;have H1:=Z h1;have HD:=Z hd;have Q:=Z z;have N:=Z y;have T:=Z D;have HL:=Z f;have b2:((a.size:Int)==0)=false:=by rw[GG];omega
 have b1:(0:Int)<a.size:=by omega
 clear z y D f;have HM:=Z hm;clear hm;clear h h1 hd;go_enter EA,El;go_wp2_with fail;refine(Zn H1.out _ R.out.dir).mono ?_;rintro e w1 ⟨rfl,hf⟩;go_wp2_with fail;have G:=Zk w1 b L M (R.out.fr hf (fun _ _=>id));rw[HD.out] at G;rw[Q.out] at G;refine G.mono ?_;rintro e w2 ⟨rfl,hs⟩;clear l G;have l:=hs.CZ.CY.cell;simp only[DM.cells,N.out,T.out] at l;have s:=hs.CZ.CY.cell 3;simp only[DM.cells] at s;simp at s;have I:=Z hs;clear hs;go_wp2_with fail
 go_region_held3 (fun w'=>w'.cell? ⟨b,3,none⟩=some (.int .i64 M.CX.2.2.room)) (first|go_keep|assumption) (first|(go_at_call 41;refine(W7 _ b L M.CX.2.2 w2 I.out.CZ (Fr.drew (O _ _))).mono ?_;rintro e w3 ⟨rfl,a3,A⟩))
 have HE:Hid ((if IntKind.i64.wrap (M.CX.2.2.room-M.CX.2.2.used)<0 then 0 else IntKind.i64.wrap (M.CX.2.2.room-M.CX.2.2.used))=M.CX.2.2.left):=rfl;rw[HE.out];rw[HM.out];have a8:=HL.out;have b4:m<=a.size:=by omega
 have t:=I.out.CZ.fr A (fun _ _=>id);have a2:k<M.CX.2.2.dir.length:=by rw[M.Bl.1];exact hk
 have he:M.CX.2.2.dir[k].2=M.dir[k].2:=by simp[M.Bl.1]
 obtain⟨g,a9,n,c,hv,u,_,hp,i⟩:=t.entry a2;rw[he] at u hp i;have Y:=(t.files _ u).cell;have b3:=(t.files _ u).frozen;rw[i] at Y;clear l s a3;have l:=t.CY.cell;simp only[DM.cells] at l;rw[hv] at l;have K:=Z t;have r:=Z i;clear t i hv;have d:=K.out.rows _ u;rw[r.out] at d;have v:=Z d;have a7:(M.CX.2.2.file M.dir[k].2).bytes.length<=1000000000000:=by rw[M.Bl.2.2.2.1];exact a1
 have a5:(a.extract 0 m).size<=1000000000000:=by rw[Fb];omega
 have q1:(M.CX.2.2.file M.dir[k].2).bytes.length+(a.extract 0 m).size<=maxLen:=by unfold maxLen;omega
 have q2:(M.CX.2.2.file M.dir[k].2).bytes.length+(a.extract 0 m).size<=140737488355328:=by omega
 have Q1:=Z q1;have Q2:=Z q2;have S:Hid (∀ F:World,Fr (fun j=>(Value.slice n (M.CX.2.2.file M.dir[k].2).bytes.length c).ownBlock=some j) w3.drew F->Blk F M.dir[k].2 [.slice n (M.CX.2.2.file M.dir[k].2).bytes.length c,.int .i64 (M.CX.2.2.file M.dir[k].2).safe] 152):=by
  intro F B;have X:=K.out.files _ u;rw[r.out] at X;exact(X.drew).fr B (zd d X (by decide))
 clear q1 q2 d a5;go_wp2_with fail
 go_region_law
  ((refine Zf (by rfl) _ _ _ _ (by rfl) _ _ (by rfl) (by rfl) (Y3 (w:=w3.drew) 150 9 _ 5 GE GX Wu _ _ _ v.out (a.extract 0 m) Q1.out Q2.out) ?_;intro v4 F J;obtain⟨a4,c4,a6⟩:=zc J.own;have x:=S.out F J.fr;have b0:=x.cell 0;have B:=x.frozen 0;have HA:=Z J;clear J;subst a6))
 go_wp2
 go_ret;obtain⟨V,E⟩:=W8 K.out u r.out (by simp) HA.out;have a0:(a.extract 0 m).size=m:=by rw[Fb];omega
 rw[a0] at E;exact⟨rfl,V,(DStep.look R.out hf).trans (I.out.trans ((DStep.look I.out.CZ A).trans E))⟩
theorem Tt(m a:ByteArray)(w:World)(b:Nat)(L:DL)(M:DM)(h:DRep w b L M)(k:Nat)(hk:k<M.dir.length)(h1:Zl M.dir m=k)(b5:a.size<=1000000000000)(a1:(M.file M.dir[k].2).bytes.length<=1000000000000)
 (hd:M.CX.1=false)(y:M.CX.2.1=9)(x:M.CX.2.2.dead=false)(p q:Nat)(C:M.CX.2.2.part=p)(hq:(p:Int).tmod a.size=q)(b4:q<a.size)(f:¬M.CX.2.2.left<q) :
 Calls Tryz.prog 203 #[.pointer (some ⟨b,0,none⟩),.string m,.string a] w fun e w' =>
  e=.returned (.int .i64 9)/\∃ V,DStep b L M w V ((M.CX.2.2).Bg M.dir[k].2 {M.CX.2.2.file M.dir[k].2 with bytes:=(M.CX.2.2.file M.dir[k].2).bytes++(a.extract 0 q).data.toList}) w':=by
 have l:=h.CY.cell;have B:=zH h.dir;unfold maxLen at B;simp only[DM.cells] at l;have Q:=Z h;have H1:=Z h1;have HD:=Z hd;have N:=Z y;have K:=Z x;have T:=Z C;have HL:=Z f;have b1:((a.size:Int)==0)=false:=by rw[GG];omega
 have b0:(0:Int)<a.size:=by omega
 clear y x C f;clear h h1 hd;go_enter EA,El;go_wp2_with fail;refine(Zn H1.out _ Q.out.dir).mono ?_;rintro e w1 ⟨rfl,hf⟩;go_wp2_with fail;have F:=Zk w1 b L M (Q.out.fr hf (fun _ _=>id));rw[HD.out] at F;rw[N.out] at F;refine F.mono ?_;rintro e w2 ⟨rfl,hs⟩;clear l F;have l:=hs.CZ.CY.cell;simp only[DM.cells,K.out,T.out] at l;have r:=hs.CZ.CY.cell 3;simp only[DM.cells] at r;simp at r;have G:=Z hs;clear hs;go_wp2_with fail
 go_region_held3 (fun w'=>w'.cell? ⟨b,3,none⟩=some (.int .i64 M.CX.2.2.room)) (first|go_keep|assumption) (first|(go_at_call 41;refine(W7 _ b L M.CX.2.2 w2 G.out.CZ (Fr.drew (O _ _))).mono ?_;rintro e w3 ⟨rfl,a3,z⟩))
 have HE:Hid ((if IntKind.i64.wrap (M.CX.2.2.room-M.CX.2.2.used)<0 then 0 else IntKind.i64.wrap (M.CX.2.2.room-M.CX.2.2.used))=M.CX.2.2.left):=rfl;rw[HE.out];have S:=HL.out;have b3:q<=a.size:=by omega
 generalize M.CX.2.2.left=left at S;have s:=G.out.CZ.fr z (fun _ _=>id);have a2:k<M.CX.2.2.dir.length:=by rw[M.Bl.1];exact hk
 have he:M.CX.2.2.dir[k].2=M.dir[k].2:=by simp[M.Bl.1]
 obtain⟨g,a8,n,c,hv,t,_,hp,i⟩:=s.entry a2;rw[he] at t hp i;have Y:=(s.files _ t).cell;have b2:=(s.files _ t).frozen;rw[i] at Y;clear l r a3;have l:=s.CY.cell;simp only[DM.cells] at l;rw[hv] at l;have J:=Z s;have o:=Z i;clear s i hv;have d:=J.out.rows _ t;rw[o.out] at d;have u:=Z d;have a7:(M.CX.2.2.file M.dir[k].2).bytes.length<=1000000000000:=by rw[M.Bl.2.2.2.1];exact a1
 have a5:(a.extract 0 q).size<=1000000000000:=by rw[Fb];omega
 have q1:(M.CX.2.2.file M.dir[k].2).bytes.length+(a.extract 0 q).size<=maxLen:=by unfold maxLen;omega
 have q2:(M.CX.2.2.file M.dir[k].2).bytes.length+(a.extract 0 q).size<=140737488355328:=by omega
 have Q1:=Z q1;have Q2:=Z q2;have R:Hid (∀ E:World,Fr (fun j=>(Value.slice n (M.CX.2.2.file M.dir[k].2).bytes.length c).ownBlock=some j) w3.drew E->Blk E M.dir[k].2 [.slice n (M.CX.2.2.file M.dir[k].2).bytes.length c,.int .i64 (M.CX.2.2.file M.dir[k].2).safe] 152):=by
  intro E A;have X:=J.out.files _ t;rw[o.out] at X;exact(X.drew).fr A (zd d X (by decide))
 clear q1 q2 d a5;go_wp2_with fail
 go_region_law
  ((refine Zf (by rfl) _ _ _ _ (by rfl) _ _ (by rfl) (by rfl) (Y3 (w:=w3.drew) 150 9 _ 5 GE GX Wu _ _ _ u.out (a.extract 0 q) Q1.out Q2.out) ?_;intro v4 E I;obtain⟨a4,c4,a6⟩:=zc I.own;have v:=R.out E I.fr;have a9:=v.cell 0;have A:=v.frozen 0;have HA:=Z I;clear I;subst a6))
 go_wp2
 go_ret;obtain⟨V,D⟩:=W8 J.out t o.out (by simp) HA.out;have a0:(a.extract 0 q).size=q:=by rw[Fb];omega
 rw[a0] at D;exact⟨rfl,V,(DStep.look Q.out hf).trans (G.out.trans ((DStep.look G.out.CZ z).trans D))⟩
theorem P1(o a:ByteArray)(w:World)(b:Nat)(L:DL)(M:DM)(h:DRep w b L M)(k:Nat)(hk:k<M.dir.length)(h1:Zl M.dir o=k)(b4:a.size<=1000000000000)(Y:(M.file M.dir[k].2).bytes.length<=1000000000000)
 (hd:M.CX.1=true)(y:M.CX.2.1=0)(m:Nat)(hm:M.CX.2.2.left=m)(i:(m:Int)<a.size) :
 Calls Tryz.prog 203 #[.pointer (some ⟨b,0,none⟩),.string o,.string a] w fun e w' =>
  e=.returned (.int .i64 10)/\∃ S,DStep b L M w S (({M.CX.2.2 with refused:=wrap64 (M.CX.2.2.refused+1),Bb:=wrap64 (M.CX.2.2.Bb+1)}:DM).Bg M.dir[k].2 {M.CX.2.2.file M.dir[k].2 with bytes:=(M.CX.2.2.file M.dir[k].2).bytes++(a.extract 0 m).data.toList}) w':=by
 have v:=h.CY.cell;have B:=zH h.dir;unfold maxLen at B;simp only[DM.cells] at v;have Q:=Z h;have H1:=Z h1;have HD:=Z hd;have HL:=Z i;have N:=Z y;have HM:=Z hm;clear i y hm;clear h h1 hd;go_enter EA,El;go_wp2_with fail;refine(Zn H1.out _ Q.out.dir).mono ?_;rintro e w1 ⟨rfl,hf⟩;go_wp2_with fail;have G:=Zk w1 b L M (Q.out.fr hf (fun _ _=>id));rw[HD.out] at G;rw[N.out] at G;refine G.mono ?_;rintro e w2 ⟨rfl,hs⟩;clear v G;have v:=hs.CZ.CY.cell;simp only[DM.cells] at v;have q:=hs.CZ.CY.cell 3;simp only[DM.cells] at q;simp at q;have I:=Z hs;clear hs;go_wp2_with fail
 go_region_held3 (fun w'=>w'.cell? ⟨b,3,none⟩=some (.int .i64 M.CX.2.2.room)) (first|go_keep|assumption) (first|(go_at_call 41;refine(W7 _ b L M.CX.2.2 w2 I.out.CZ (Fr.drew (O _ _))).mono ?_;rintro e E ⟨rfl,a1,z⟩))
 have HE:Hid ((if IntKind.i64.wrap (M.CX.2.2.room-M.CX.2.2.used)<0 then 0 else IntKind.i64.wrap (M.CX.2.2.room-M.CX.2.2.used))=M.CX.2.2.left):=rfl;rw[HE.out];rw[HM.out];have a9:=HL.out;have b3:m<=a.size:=by omega
 have f:=I.out.CZ.fr z (fun _ _=>id);have x:=f.CY.cell;have a5:=f.CY.frozen;simp only[DM.cells] at x;clear v q a1;have a0:k<M.CX.2.2.dir.length:=by rw[M.Bl.1];exact hk
 have he:M.CX.2.2.dir[k].2=M.dir[k].2:=by simp[M.Bl.1]
 have h4:DRep ((E.setCell ⟨b,8,none⟩ (.int .i64 (wrap64 (M.CX.2.2.refused+1)))).setCell ⟨b,9,none⟩ (.int .i64 (wrap64 (M.CX.2.2.Bb+1)))) b L ({M.CX.2.2 with refused:=wrap64 (M.CX.2.2.refused+1),Bb:=wrap64 (M.CX.2.2.Bb+1)}:DM) :=
  f.own ((f.CY.set 8 _).set 9 _) (by repeat' first|exact O _ _|(with_reducible assumption)|refine Fr.drewN ?_ _|refine Fr.drew ?_|refine Fr.alloc ?_ _|refine Fr.set ?_ ?_ _|(intro _;rfl)) rfl rfl rfl rfl rfl
 obtain⟨g,b0,n,c,hv,r,_,hp,l⟩:=f.entry a0;rw[he] at r hp l;have V:=(f.files _ r).cell;have b2:=(f.files _ r).frozen;rw[l] at V;rw[hv] at x;have a7:M.dir[k].2≠b:=(f.files _ r).ne f.CY (by decide);have a8:g≠b:=fun e=>zd f.dir f.CY (by decide) (by rw[hv,<- e];rfl);have K:=Z h4;have p:=Z l;have s:=Z f;clear h4 f l hv;have d:=K.out.rows _ r;rw[p.out] at d;have t:=Z d;have a6:(M.CX.2.2.file M.dir[k].2).bytes.length<=1000000000000:=by rw[M.Bl.2.2.2.1];exact Y
 have a2:(a.extract 0 m).size<=1000000000000:=by rw[Fb];omega
 have q1:(M.CX.2.2.file M.dir[k].2).bytes.length+(a.extract 0 m).size<=maxLen:=by unfold maxLen;omega
 have q2:(M.CX.2.2.file M.dir[k].2).bytes.length+(a.extract 0 m).size<=140737488355328:=by omega
 have Q1:=Z q1;have Q2:=Z q2;have R:Hid (∀ F:World,Fr (fun j=>(Value.slice n (M.CX.2.2.file M.dir[k].2).bytes.length c).ownBlock=some j) ((E.setCell ⟨b,8,none⟩ (.int .i64 (wrap64 (M.CX.2.2.refused+1)))).setCell ⟨b,9,none⟩ (.int .i64 (wrap64 (M.CX.2.2.Bb+1)))).drew F->Blk F M.dir[k].2 [.slice n (M.CX.2.2.file M.dir[k].2).bytes.length c,.int .i64 (M.CX.2.2.file M.dir[k].2).safe] 152):=by
  intro F A;have T:=K.out.files _ r;rw[p.out] at T;exact(T.drew).fr A (zd d T (by decide))
 clear q1 q2 d a2;go_wp2_with fail
 go_region_law
  ((refine Zf (by rfl) _ _ _ _ (by rfl) _ _ (by rfl) (by rfl) (Y3 (w:=((E.setCell ⟨b,8,none⟩ (.int .i64 (wrap64 (M.CX.2.2.refused+1)))).setCell ⟨b,9,none⟩ (.int .i64 (wrap64 (M.CX.2.2.Bb+1)))).drew) 150 9 _ 5 GE GX Wu _ _ _ t.out (a.extract 0 m) Q1.out Q2.out) ?_;intro v4 F J;obtain⟨a4,c4,a3⟩:=zc J.own;have u:=R.out F J.fr;have b1:=u.cell 0;have A:=u.frozen 0;have HA:=Z J;clear J;subst a3))
 go_wp2
 go_ret;obtain⟨S,C⟩:=W8 K.out r p.out (by simp) HA.out;have X:(a.extract 0 m).size=m:=by rw[Fb];omega
 rw[X] at C;have D:DStep b L M.CX.2.2 E L ({M.CX.2.2 with refused:=wrap64 (M.CX.2.2.refused+1),Bb:=wrap64 (M.CX.2.2.Bb+1)}:DM) ((E.setCell ⟨b,8,none⟩ (.int .i64 (wrap64 (M.CX.2.2.refused+1)))).setCell ⟨b,9,none⟩ (.int .i64 (wrap64 (M.CX.2.2.Bb+1)))):=by
  exact .own (s.out.own ((s.out.CY.set 8 _).set 9 _) (by repeat' first|exact O _ _|(with_reducible assumption)|refine Fr.drewN ?_ _|refine Fr.drew ?_|refine Fr.alloc ?_ _|refine Fr.set ?_ ?_ _|(intro _;rfl)) rfl rfl rfl rfl rfl) (by repeat' first|exact O _ _|(with_reducible assumption)|refine Fr.drewN ?_ _|refine Fr.drew ?_|refine Fr.alloc ?_ _|refine Fr.set ?_ ?_ _|(intro _;rfl)) rfl
 exact⟨rfl,S,(DStep.look Q.out hf).trans (I.out.trans ((DStep.look I.out.CZ z).trans (D.trans C)))⟩
theorem DM.AX(M:DM)(h:M.CX.1=false):M.CX.2.1=9:=by
 unfold DM.CX at h |-;dsimp only at h |-;(repeat' split at h) <;> simp_all
theorem P2(a:ByteArray)(w:World)(b:Nat)(L:DL)(M:DM)(h:DRep w b L M)(p:M.Bj.length+1<=1000000000000)(hm:M.dir.length+1<=1000000000000) :
 Calls Tryz.prog 211 #[.pointer (some ⟨b,0,none⟩),.string a] w fun e i =>
  ∃ f j,e=.returned (.int .i64 (M.create a f).1)/\w.heap.size<=f/\DStep b L M w j (M.create a f).2 i:=by
 by_cases c:a=ByteArray.empty\/(M.dir.look a).isSome=true
 .refine(OK a w b L M h c).mono fun e i ⟨d,g⟩=>⟨w.heap.size,L,?_,IQ _,?_⟩
  .rw[d];simp only[DM.create];rw[He c]
  .simp only[DM.create];rw[He c];exact DStep.look h g
 .have he:¬a=ByteArray.empty:=fun e=>c (.inl e)
  rcases Yy M.dir a with⟨d,g⟩|⟨k,q,d,g,_⟩
  .cases hd:M.CX.1 with
   | false =>
    refine(Mn a w b L M h he d hd).mono fun e i ⟨l,m⟩=>⟨w.heap.size,L,?_,IQ _,?_⟩
    .rw[l];simp only[DM.create];rw[IV c]
    .simp only[DM.create];rw[IV c,hd];exact m
   | true =>
    refine(OL a w b L M h he d hd p hm).mono fun e i ⟨l,f,j,m,_,o⟩=>⟨f,j,?_,m,?_⟩
    .rw[l];simp only[DM.create];rw[IV c]
    .simp only[DM.create];rw[IV c,hd];exact o
  .exact absurd (.inr (by rw[g];rfl)) c
def DM.add(M:DM)(b:ByteArray)(a:ByteArray):Int × DM :=
 match M.dir.look b with
 | none=>(11,M)
 | some f =>
  match M.tries a.size with
  | none=>(M.CX.2.1,M.CX.2.2)
  | some n =>
   if M.CX.2.2.left<n then
    if M.CX.2.1=0 then
     (10,({M.CX.2.2 with refused:=wrap64 (M.CX.2.2.refused+1),Bb:=wrap64 (M.CX.2.2.Bb+1)}:DM).Bg f
       {M.CX.2.2.file f with bytes:=(M.CX.2.2.file f).bytes++(a.extract 0 M.CX.2.2.left.toNat).data.toList})
    else(M.CX.2.1,M.CX.2.2.Bg f {M.CX.2.2.file f with bytes:=(M.CX.2.2.file f).bytes++(a.extract 0 M.CX.2.2.left.toNat).data.toList})
   else(M.CX.2.1,M.CX.2.2.Bg f {M.CX.2.2.file f with bytes:=(M.CX.2.2.file f).bytes++(a.extract 0 n.toNat).data.toList})
theorem DM.AP(M:DM):∃ m:Nat,M.left=m:=by
 have:0<=M.left:=by unfold DM.left;split <;> omega
 exact⟨_,(Fq this).symm⟩
theorem P3(c a:ByteArray)(w:World)(b:Nat)(L:DL)(M:DM)(h:DRep w b L M)(B:0<=M.part)(j:a.size<=1000000000000)(x:∀ f,f∈M.ids->(M.file f).bytes.length<=1000000000000) :
 Calls Tryz.prog 203 #[.pointer (some ⟨b,0,none⟩),.string c,.string a] w fun e q =>
  e=.returned (.int .i64 (M.add c a).1)/\∃ A,DStep b L M w A (M.add c a).2 q:=by
 rcases Yy M.dir c with⟨l,o⟩|⟨k,r,l,o,_⟩
 .refine(OM c a w b L M h l).mono fun e q ⟨g,i⟩=>?_
  simp only[DM.add,o];exact⟨g,L,i⟩
 .have hf:=x _ (h.BQ _ (IX r))
  have u:M.CX.2.2.part=M.part:=M.Bl.2.2.2.2.2.2.1;obtain⟨m,hm⟩:=M.CX.2.2.AP;cases hd:M.CX.1 with
  | false =>
   have d:=M.AX hd;cases hdd:M.CX.2.2.dead with
   | true =>
    refine(Mo c a w b L M h k r l hd hdd j).mono fun e q ⟨g,i⟩=>?_;simp only[DM.add,o,DM.tries,hd,hdd];exact⟨g,L,i⟩
   | false =>
    by_cases z:a.size=0
    .refine(append_nil c a w b L M h k r l hd hdd z).mono fun e q ⟨g,i⟩=>?_
     simp only[DM.add,o,DM.tries,hd,hdd,z];exact⟨g,L,i⟩
    .obtain⟨p,hp'⟩:=GB B
     have y:(p:Int).tmod a.size=(p%a.size:Nat):=by
      rw[Df]
     have v:p%a.size<a.size:=DU _ (by omega);have t:M.tries a.size=some ((p%a.size:Nat):Int):=by
      simp only[DM.tries,hd,hdd];rw[IV (by simp),He (by simp;omega),hp',y]
     by_cases s:M.CX.2.2.left<((p%a.size:Nat):Int)
     .refine(Ts c a w b L M h k r l j hf hd d hdd p (p%a.size) (by rw[u,hp']) y v m hm (by omega)).mono fun e q ⟨g,i⟩=>?_
      simp only[DM.add,o,t];rw[He s,IV (by omega),d,hm];exact⟨g,i⟩
     .refine(Tt c a w b L M h k r l j hf hd d hdd p (p%a.size) (by rw[u,hp']) y v s).mono fun e q ⟨g,i⟩=>?_
      simp only[DM.add,o,t];rw[IV s,d];exact⟨g,i⟩
  | true =>
   have t:M.tries a.size=some (a.size:Int):=by simp[DM.tries,hd]
   by_cases s:M.CX.2.2.left<a.size
   .rcases M.Am with d|d
    .refine(P1 c a w b L M h k r l j hf hd d m hm (by omega)).mono fun e q ⟨g,i⟩=>?_
     simp only[DM.add,o,t];rw[He s,He d,hm];exact⟨g,i⟩
    .refine(P0 c a w b L M h k r l j hf hd d m hm (by omega)).mono fun e q ⟨g,i⟩=>?_
     simp only[DM.add,o,t];rw[He s,IV (by omega),d,hm];exact⟨g,i⟩
   .refine(ON c a w b L M h k r l j hf hd s).mono fun e q ⟨g,i⟩=>?_
    simp only[DM.add,o,t];rw[IV s];have:a.extract 0 ((a.size:Int).toNat)=a:=by simp
    rw[this];exact⟨g,i⟩
end Go.Proofs.YtkhnggkkiefcdaaGreatDoor
