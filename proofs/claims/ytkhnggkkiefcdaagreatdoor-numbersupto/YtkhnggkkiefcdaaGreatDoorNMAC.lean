/- larder: joined texts -/
import Derived.Test.YtkhnggkkiefcdaaGreatDoorNMAA
import Derived.Test.YtkhnggkkiefcdaaGreatDoorNMAB
import Derived.Deep.RegionLaw
namespace Go.Proofs.YtkhnggkkiefcdaaGreatDoor
open Go.RowKit
set_option maxRecDepth 100000
set_option maxHeartbeats 8000000
structure DStep(b:Nat)(L:DL)(M:DM)(w:World)(L':DL)(M':DM)(w':World):Prop where
 CK:DRep w' b L' M'
 fr:Fr (Foot b L M) w w'
 CX:∀ k,Foot b L' M' k->Foot b L M k\/w.heap.size<=k
theorem DStep.trans{b:Nat}{c e g:DL}{o M2 q:DM}{s w2 t:World}(h:DStep b c o s e M2 w2)(k:DStep b e M2 w2 g q t):DStep b c o s g q t where
 CK:=k.CK
 fr:=h.fr.trans' k.fr (fun i r x=>by
  rcases h.CX i x with a|a
  .exact a
  .omega)
 CX:=fun i r=>by
  rcases k.CX i r with a|a
  .exact h.CX i a
  .exact .inr (JT h.fr.size a)
theorem DStep.own{b:Nat}{L:DL}{M M':DM}{w w':World}(h:DRep w' b L M')(f:Fr (fun k=>k=b) w w')
 (a:M'.ids=M.ids):DStep b L M w L M' w' where
 CK:=h
 fr:=f.mono (fun k _ e=>by subst e;exact .CB)
 CX:=fun k j=>.inl (by
  cases j using Foot.elim with
  | blk=>exact .CB
  | dir e=>exact .dir e
  | safe e=>exact .safe e
  | ch e=>exact .ch e
  | chs i c e=>exact .CD i c e
  | file e=>exact .file (a▸e)
  | row f g e=>exact .row f (a▸g) e)
theorem DM.CE(M:DM):M.Cz.2.2.dir=M.dir/\M.Cz.2.2.safe=M.safe/\M.Cz.2.2.CD=M.CD/\M.Cz.2.2.file=M.file/\M.Cz.2.2.ids=M.ids /\
 M.Cz.2.2.room=M.room/\M.Cz.2.2.part=M.part/\M.Cz.2.2.CG=M.CG/\M.Cz.2.2.cut=M.cut/\M.Cz.2.2.fail=M.fail:=by
 unfold DM.Cz;dsimp only;(repeat' split) <;> exact⟨rfl,rfl,rfl,rfl,rfl,rfl,rfl,rfl,rfl,rfl⟩
theorem DM.BS(M:DM):M.Cz.2.1=0\/M.Cz.2.1=9:=by
 unfold DM.Cz;dsimp only;(repeat' split) <;> simp
theorem zQ(w:World)(b:Nat)(L:DL)(M:DM)(h:DRep w b L M) :
 Calls Tryz.prog 209 #[.pointer (some ⟨b,0,none⟩)] w fun e w' =>
  e=.returned (.tuple #[.bool M.Cz.1,.int .i64 M.Cz.2.1])/\DStep b L M w L M.Cz.2.2 w' :=
 (Qm w b L M h).mono fun _ _ ⟨a,c,g⟩=>⟨a,.own c g M.CE.2.2.2.2.1⟩
def DM.CQ(M:DM):Int × DM :=
 (M.Cz.2.1,if M.Cz.2.1=0 then {M.Cz.2.2 with safe:=M.Cz.2.2.dir,CD:=[]} else M.Cz.2.2)
theorem DRep.synced{w w':World}{b:Nat}{L:DL}{M:DM}(h:DRep w b L M)
 (l:Blk w' b (({M with safe:=M.dir,CD:=[]}:DM).cells {L with CS:=L.Be,BM:=.slice none 0 0,CW:=[]}) 143)(f:Fr (fun k=>k=b) w w') :
 DRep w' b {L with CS:=L.Be,BM:=.slice none 0 0,CW:=[]} {M with safe:=M.dir,CD:=[]} where
 CB:=l
 dir:=ze h.dir f fun _ e c=>by subst c;exact zi h.dir h.CB (by decide) e
 safe:=ze h.dir f fun _ e c=>by subst c;exact zi h.dir h.CB (by decide) e
 ch:=IF w' 0 _ _
 BJ:=rfl
 CD:=fun i j=>absurd j (IY _)
 files:=fun g a=>(h.files g a).fr f ((h.files g a).ne h.CB (by decide))
 rows:=fun g a=>ze (h.rows g a) f fun _ e c=>by subst c;exact zi (h.rows g a) h.CB (by decide) e
 sep:=h.sep
 le:=h.le
 Bq:=h.Bq
 Ai:=h.Bq
 Aj:=fun d m=>by cases m
theorem RC(w:World)(b:Nat)(L:DL)(M:DM)(h:DRep w b L M) :
 Calls Tryz.prog 168 #[.pointer (some ⟨b,0,none⟩)] w fun e w' =>
  e=.returned (.int .i64 M.CQ.1)/\∃ q,DStep b L M w q M.CQ.2 w':=by
 have g:=Z (zQ w b L M h);have t:=Z h;clear h;rcases M.BS with d|d
 .have HM:Hid (M.CQ=(0,{M.Cz.2.2 with safe:=M.Cz.2.2.dir,CD:=[]})):=by simp[Hid,DM.CQ,d]
  rw[d] at g;clear d;go_enter Tryz.func168,Tryz.ntmps168;go_wp2_with fail;refine g.out.mono ?_;rintro e o ⟨rfl,c⟩;have l:=c.CK.CB.cell;have m:=c.CK.CB.frozen;simp only[DM.cells] at l;obtain⟨a,r,j⟩:=zg c.CK.dir;rw[j] at l;have p:=Z j;clear j
  go_wp2
  go_ret;rw[HM.out,<- p.out];refine⟨rfl,{L with CS:=L.Be,BM:=.slice none 0 0,CW:=[]},c.trans ⟨?_,?_,?_⟩⟩
  .have:=c.CK.synced (w':=(o.setCell ⟨b,1,none⟩ L.Be).setCell ⟨b,2,none⟩ (.slice none 0 0)) ((c.CK.CB.set 1 L.Be).set 2 (.slice none 0 0)) (by repeat' first|exact U _ _|(with_reducible assumption)|refine Fr.drewN ?_ _|refine Fr.drew ?_|refine Fr.alloc ?_ _|refine Fr.set ?_ ?_ _|(intro _;rfl))
   exact this
  .exact Fr.set (Fr.set (U _ _) (fun _=>.CB) _) (fun _=>.CB) _
  .intro k hk
   refine .inl ?_;cases hk using Foot.elim with
   | blk=>exact .CB
   | dir e=>exact .dir e
   | safe e=>exact .dir e
   | ch e=>simp[Value.ownBlock] at e
   | chs i s e=>exact absurd s (IY _)
   | file e=>exact .file e
   | row f m e=>exact .row f m e
 .have HM:Hid (M.CQ=(9,M.Cz.2.2)):=by simp[Hid,DM.CQ,d]
  rw[d] at g;clear d;go_enter Tryz.func168,Tryz.ntmps168
  go_wp2_with (go_at_call 209;refine g.out.mono ?_;rintro e o ⟨rfl,c⟩)
  go_ret;rw[HM.out];exact⟨rfl,_,c⟩
def DM.CJ(M:DM)(f:Nat)(x:FM):DM:={M with file:=fun g=>if g=f then x else M.file g}
theorem DRep.yt{w l:World}{b:Nat}{L:DL}{M:DM}(h:DRep w b L M){f:Nat}{s:Nat}(p:s<=(M.file f).bytes.length)
 (o:Blk l f [L.fV f,.int .i64 s] 152)(fr:Fr (fun k=>k=f) w l)(c:f∈M.ids) :
 DRep l b L (M.CJ f {M.file f with safe:=s}) where
 CB:=h.CB.fr fr ((h.CB).ne (h.files f c) (by decide))
 dir:=ze h.dir fr fun _ e a=>by subst a;exact zi h.dir (h.files _ c) (by decide) e
 safe:=ze h.safe fr fun _ e a=>by subst a;exact zi h.safe (h.files _ c) (by decide) e
 ch:=ze h.ch fr fun _ e a=>by subst a;exact zi h.ch (h.files _ c) (by decide) e
 BJ:=h.BJ
 CD:=fun i j m=>ze (h.CD i j m) fr fun _ e a=>by subst a;exact zi (h.CD i j m) (h.files _ c) (by decide) e
 files:=fun g d=>by
  by_cases e:g=f
  .subst e;simpa [DM.CJ] using o
  .have:=(h.files g d).fr fr e
   simpa [DM.CJ,e] using this
 rows:=fun g d=>by
  have j:=ze (h.rows g d) fr fun _ e a=>by subst a;exact zi (h.rows g d) (h.files _ c) (by decide) e
  by_cases e:g=f
  .subst e;simpa [DM.CJ] using j
  .simpa [DM.CJ,e] using j
 sep:=h.sep
 le:=fun g d=>by
  by_cases e:g=f
  .subst e;simpa [DM.CJ] using p
  .simpa [DM.CJ,e] using h.le g d
 Bq:=h.Bq
 Ai:=h.Ai
 Aj:=h.Aj
def DM.sync(M:DM)(a:ByteArray):Int × DM :=
 match M.dir.look a with
 | none=>(11,M)
 | some f=>(M.Cz.2.1,if M.Cz.2.1=0 then M.Cz.2.2.CJ f {M.Cz.2.2.file f with safe:=(M.Cz.2.2.file f).bytes.length} else M.Cz.2.2)
theorem Te(a:ByteArray)(w:World)(b:Nat)(L:DL)(M:DM)(h:DRep w b L M) :
 Calls Tryz.prog 167 #[.pointer (some ⟨b,0,none⟩),.string a] w fun e O =>
  e=.returned (.int .i64 (M.sync a).1)/\∃ I,DStep b L M w I (M.sync a).2 O:=by
 have s:=h.CB.cell;simp only[DM.cells] at s;have x:=zH h.dir;unfold maxLen at x;have m:=Z h;rcases Yq M.dir a with⟨l,p⟩|⟨k,q,l,p,_⟩
 .have HM:Hid (M.sync a=(11,M)):=by simp[Hid,DM.sync,p]
  have u:=Z l;clear h l p;go_enter Tryz.func167,Tryz.ntmps167
  go_wp2_with (go_at_call 87;refine(Ym u.out _ m.out.dir).mono ?_;rintro e y ⟨rfl,d⟩)
  go_ret;rw[HM.out];exact⟨rfl,_,m.out.fr d (fun _ _=>id),d.mono (fun _ _=>False.elim),fun k q=>.inl q⟩
 .rcases M.BS with h0|h0
  .have HM:Hid (M.sync a=(0,M.Cz.2.2.CJ M.dir[k].2 {M.Cz.2.2.file M.dir[k].2 with safe:=(M.Cz.2.2.file M.dir[k].2).bytes.length})):=by simp[Hid,DM.sync,p,h0]
   have u:=Z l;have A:=Z h0;clear h l p h0;go_enter Tryz.func167,Tryz.ntmps167;go_wp2_with fail;refine(zT u.out _ m.out.dir).mono ?_;rintro e y ⟨rfl,d⟩;clear s;go_wp2_with fail;have v:=zQ y b L M (m.out.fr d (fun _ _=>id));rw[A.out] at v;refine v.mono ?_;rintro e Q ⟨rfl,o⟩;have s:=o.CK.CB.cell;simp only[DM.cells] at s;have D:k<M.Cz.2.2.dir.length:=by rw[M.CE.1];exact q
   have E:M.Cz.2.2.dir[k].2=M.dir[k].2:=by simp[M.CE.1]
   obtain⟨g,J,n,c,G,t,_,N,r⟩:=o.CK.entry D;rw[E] at t N r;have C:=(o.CK.files _ t).cell;have K:=(o.CK.files _ t).frozen;rw[r] at C;rw[G] at s;have B:=Z o;clear o r G E;go_wp2_with fail
   go_region
   go_wp2
   go_ret;rw[HM.out];refine⟨rfl,L,DStep.trans ⟨m.out.fr d (fun _ _=>id),d.mono (fun _ _=>False.elim),fun k q=>.inl q⟩ (B.out.trans ⟨?_,?_,?_⟩)⟩
   .exact B.out.CK.yt (JS _) (((B.out.CK.files _ t).set 1 _).drew) (by repeat' first|exact U _ _|(with_reducible assumption)|refine Fr.drewN ?_ _|refine Fr.drew ?_|refine Fr.alloc ?_ _|refine Fr.set ?_ ?_ _|(intro _;rfl)) t
   .exact Fr.drew (Fr.set (U _ _) (fun _=>.file t) _)
   .intro j hj
    refine .inl ?_;cases hj using Foot.elim with
    | blk=>exact .CB
    | dir e=>exact .dir e
    | safe e=>exact .safe e
    | ch e=>exact .ch e
    | chs i l e=>exact .CD i l e
    | file e=>exact .file e
    | row f d e=>exact .row f d e
  .have HM:Hid (M.sync a=(9,M.Cz.2.2)):=by simp[Hid,DM.sync,p,h0]
   have u:=Z l;have A:=Z h0;clear h l p h0;go_enter Tryz.func167,Tryz.ntmps167;go_wp2_with fail;refine(zT u.out _ m.out.dir).mono ?_;rintro e y ⟨rfl,d⟩;clear s;go_wp2_with fail;have v:=zQ y b L M (m.out.fr d (fun _ _=>id));rw[A.out] at v;refine v.mono ?_;rintro e Q ⟨rfl,o⟩
   go_wp2
   go_ret;rw[HM.out];exact⟨rfl,L,DStep.trans ⟨m.out.fr d (fun _ _=>id),d.mono (fun _ _=>False.elim),fun k q=>.inl q⟩ o⟩
theorem Uv:((Tryz.prog.info? 145).map fun i=>(i.zero.map (·.cells.size),i.size,i.bytes))=some (some 1,1,24):=by kernel_rfl
theorem ZR:((Tryz.prog.info? 148).map fun i=>(i.zero.map (·.cells.size),i.size,i.bytes))=some (some 2,2,24):=by kernel_rfl
theorem Wt:((Tryz.prog.info? 5).map fun i=>(i.zero.map (·.cells.size),i.size,i.bytes))=some (some 1,1,1):=by kernel_rfl
def DM.CL(M:DM)(d:Dir):DM:={M with dir:=d,CD:=M.CD++[d]}
def DL.CL(L:DL)(v a:Value):DL:={L with Be:=v,BM:=a,CW:=L.CW++[v]}
theorem DRep.CL{w w':World}{b:Nat}{L:DL}{M:DM}(h:DRep w b L M){d:Dir}{v j:Value}
 (C:Blk w' b ((M.CL d).cells (L.CL v j)) 143)(x:w.ownsRow 0 148 2 v d.length (flat d))
 (p:w'.ownsRow 0 145 1 j (M.CD.length+1) (L.CW++[v]))(f:Fr (fun k=>k=b\/L.BM.ownBlock=some k) w w')
 (s:∀ e,e∈d->e.2∈M.ids):DRep w' b (L.CL v j) (M.CL d):=by
 have m:∀ {v:Value} {n:Nat} {y:List Value},w.ownsRow 0 148 2 v n y->w'.ownsRow 0 148 2 v n y:=fun t =>
  ze t f fun k e l=>by
   rcases l with rfl|l
   .exact zi t h.CB (by decide) e
   .exact Z4 t h.ch (by decide) e l
 exact {
  CB:=C
  dir:=m x
  safe:=m h.safe
  ch:=by
   have:(M.CL d).CD.length=M.CD.length+1:=by simp[DM.CL]
   rw[this];exact p
  BJ:=by simp[DM.CL,DL.CL,h.BJ]
  CD:=fun i A B=>by
   simp only[DM.CL,DL.CL,JR,Ih,IR] at A B;by_cases a:i<M.CD.length
   .have q:(L.CL v j).CW[i]=L.CW[i]'(by rw[h.BJ];exact a):=by simp[DL.CL,h.BJ,a]
    have r:(M.CL d).CD[i]=M.CD[i]:=by simp[DM.CL,a]
    rw[q,r];exact m (h.CD i _ a)
   .have s:i=M.CD.length:=by omega
    have q:(L.CL v j).CW[i]=v:=by simp[DL.CL,List.getElem_append,h.BJ,a]
    have r:(M.CL d).CD[i]=d:=by simp[DM.CL,List.getElem_append,a]
    rw[q,r];exact m x
  files:=fun g o=>(h.files g o).fr f fun l=>by
   rcases l with e|l
   .exact(h.files g o).ne h.CB (by decide) e
   .exact zi h.ch (h.files g o) (by decide) l
  rows:=fun g o=>ze (h.rows g o) f fun k e l=>by
   rcases l with rfl|l
   .exact zi (h.rows g o) h.CB (by decide) e
   .exact Z4 (h.rows g o) h.ch (by decide) e l
  sep:=h.sep
  le:=h.le
  Bq:=s
  Ai:=h.Ai
  Aj:=fun c p=>by
   simp only[DM.CL,JW,JY] at p;rcases p with p|rfl
   .exact h.Aj c p
   .exact s}
theorem Xv(v:Value)(d:Dir)(w:World)(b:Nat)(L:DL)(M:DM)(h:DRep w b L M)(B:w.ownsRow 0 148 2 v d.length (flat d))
 (Q:∀ e,e∈d->e.2∈M.ids)(X:M.CD.length+1<=1000000000000) :
 Calls Tryz.prog 219 #[.pointer (some ⟨b,0,none⟩),v] w fun e w' =>
  e=.returned (.tuple #[])/\∃ o,DRep w' b (L.CL v o) (M.CL d)/\Fr (fun k=>k=b\/L.BM.ownBlock=some k) w w'/\(o.ownBlock=L.BM.ownBlock\/∃ k,o.ownBlock=some k/\w.heap.size<=k):=by
 have y:=h.CB.cell;have N:=h.CB.frozen;simp only[DM.cells] at y;obtain⟨a,i,D⟩:=zg B;obtain⟨V,G,l⟩:=zg h.ch;have R:=h.CB.lt;rw[l] at y;have m:=Z h;have J:=Z B;have K:=Z D;have t:=Z l;clear h B;rw[D];have C:=(ze m.out.ch (w':=(w.setCell ⟨b,0,none⟩ (.slice a d.length i)).alloc (.cells #[.slice a d.length i] 145)) (S:=fun k=>k=b) (by repeat' first|exact U _ _|(with_reducible assumption)|refine Fr.drewN ?_ _|refine Fr.drew ?_|refine Fr.alloc ?_ _|refine Fr.set ?_ ?_ _|(intro _;rfl))
  (fun k e p=>by subst p;exact zi m.out.ch m.out.CB (by decide) e))
 rw[l] at C;clear D l;go_enter Tryz.func219,Tryz.ntmps219
 go_wp2_with (at_builtin;go_must (refine zI rfl _ _ _ _ rfl _ _ (by rfl) (by rfl) (zv (w:=_) 141 _ 145 1 24 Tryz.underlying141 Uv (by decide) _ _ _ C
  ⟨w.heap.size,0,none⟩ 1 1 [.slice a d.length i] rfl (Yl _ _ _ _ (by simp)) (by intro u I;simp at I;subst I;rfl) (by unfold maxLen;omega) (by omega)) ?_))
 intro Y w' c;have j:Blk w' b ((M.cells L).set 0 (.slice a d.length i)) 143 :=
  ((m.out.CB.set 0 _).alloc _).fr c.fr (by rw[<- t.out];exact zi m.out.ch m.out.CB (by decide))
 have A:=j.cell;have O:=j.frozen;simp only[DM.cells,List.set] at A;obtain⟨x,g,r⟩:=zg c.own;have s:=Z c;have E:=Z j;have T:=Z r;clear c j y N C;subst r
 go_wp2
 go_end0
 refine⟨rfl,.slice x (M.CD.length+1) g,?_⟩;have q:Fr (fun k=>k=b\/L.BM.ownBlock=some k) w (w'.setCell ⟨b,2,none⟩ (.slice x (M.CD.length+1) g)):=by
  refine Fr.set (Fr.trans' (Fr.alloc (Fr.set (U _ w) (fun _=>.inl rfl) _) _) s.out.fr ?_) (fun _=>.inl rfl) _;intro k _ p;rw[<- t.out] at p;exact .inr p
 rw[<- K.out] at *;refine⟨m.out.CL ?_ J.out ?_ q Q,q,?_⟩
 .have:=E.out.set 2 (.slice x (M.CD.length+1) g)
  exact this
 .have:=s.out.own
  refine ze this (S:=fun k=>k=b) (by repeat' first|exact U _ _|(with_reducible assumption)|refine Fr.drewN ?_ _|refine Fr.drew ?_|refine Fr.alloc ?_ _|refine Fr.set ?_ ?_ _|(intro _;rfl)) (fun k e p=>by subst p;exact zi this E.out (by decide) e)
 .rcases s.out.at_ with h1|h1
  .exact .inl (by rw[h1,t.out])
  .exact .inr ⟨_,h1,by simp⟩
theorem UM(d:Dir):∀ u∈flat d,u.oneCell'=true:=by
 induction d with
 | nil=>intro u a;cases a
 | cons e d c =>
  intro u a;simp only[flat,Gb,JW,Ix,GT,EN] at a c;rcases a with(rfl|rfl)|a
  .rfl
  .rfl
  .exact c u a
theorem X2(d a:Dir):flat (d++a)=flat d++flat a:=by simp[flat]
def DM.CP(M:DM)(f:Nat):DM:={M with ids:=f::M.ids,file:=fun g=>if g=f then⟨[],0⟩ else M.file g}
def DL.CP(L:DL)(f:Nat):DL:={L with fV:=fun g=>if g=f then .slice none 0 0 else L.fV g}
theorem DRep.CP{w:World}{b:Nat}{L:DL}{M:DM}(h:DRep w b L M){f:Nat}(o:Blk w f [.slice none 0 0,.int .i64 0] 152)(p:f∉M.ids) :
 DRep w b (L.CP f) (M.CP f):=by
 have ne:∀ g,g∈M.ids->g≠f:=fun g a e=>p (e▸a);exact {
  CB:=h.CB
  dir:=h.dir
  safe:=h.safe
  ch:=h.ch
  BJ:=h.BJ
  CD:=h.CD
  files:=fun g a=>by
   rcases Ix.1 a with rfl|a
   .simpa [DM.CP,DL.CP] using o
   .simpa [DM.CP,DL.CP,ne g a] using h.files g a
  rows:=fun g a=>by
   rcases Ix.1 a with rfl|a
   .simpa [DM.CP,DL.CP,u8s] using IF w 0 5 1
   .simpa [DM.CP,DL.CP,ne g a] using h.rows g a
  sep:=fun g a l c e k j=>by
   rcases Ix.1 a with rfl|a
   .simp[DL.CP,Value.ownBlock] at j
   .rcases Ix.1 c with rfl|c
    .simp[DL.CP,Value.ownBlock]
    .simp only[DL.CP,ne g a,ne l c,Hf] at j |-
     exact h.sep g a l c e k j
  le:=fun g a=>by
   rcases Ix.1 a with rfl|a
   .simp[DM.CP]
   .simpa [DM.CP,ne g a] using h.le g a
  Bq:=fun e i=>JV _ (h.Bq e i)
  Ai:=fun e i=>JV _ (h.Ai e i)
  Aj:=fun d m e i=>JV _ (h.Aj d m e i)}
def DM.create(M:DM)(a:ByteArray)(f:Nat):Int × DM :=
 if a=ByteArray.empty\/(M.dir.look a).isSome=true then(11,M)
 else(M.Cz.2.1,if M.Cz.1=true then(M.Cz.2.2.CP f).CL (M.Cz.2.2.dir++[(a,f)]) else M.Cz.2.2)
theorem PU(a:ByteArray)(w:World)(b:Nat)(L:DL)(M:DM)(h:DRep w b L M)(f:a=ByteArray.empty\/(M.dir.look a).isSome=true) :
 Calls Tryz.prog 211 #[.pointer (some ⟨b,0,none⟩),.string a] w fun e o =>
  e=.returned (.int .i64 11)/\Fr Nil w o:=by
 have j:=h.CB.cell;simp only[DM.cells] at j;by_cases c:a=ByteArray.empty
 .subst c
  go_enter DQ,Dr
  go_wp2
  go_ret;exact⟨rfl,U _ _⟩
 .have hn':(M.dir.look a).isSome=true:=by rcases f with h|h;exact absurd h c;exact h
  rcases Yq M.dir a with⟨_,i⟩|⟨k,p,d,_,_⟩
  .rw[i] at hn';cases hn'
  .have HH:=Z h
   have g:=Z d;have l:a.toList.isEmpty=false:=by
    cases h':a.toList.isEmpty with
    | false=>rfl
    | true=>exact absurd ((toList_nil_iff_emptyBytes a).1 (by simpa using h')) c
   clear f hn' h d;go_enter DQ,Dr
   go_wp2_with (go_at_call 87;refine(zT g.out _ HH.out.dir).mono ?_;rintro e q ⟨rfl,m⟩)
   go_ret;exact⟨rfl,m⟩
theorem WQ{a:ByteArray}(c:¬a=ByteArray.empty):a.toList.isEmpty=false:=by
 cases h':a.toList.isEmpty with
 | false=>rfl
 | true=>exact absurd ((toList_nil_iff_emptyBytes a).1 (by simpa using h')) c
theorem DStep.look{w a:World}{b:Nat}{L:DL}{M:DM}(h:DRep w b L M)(f:Fr Nil w a):DStep b L M w L M a :=
 ⟨h.fr f (fun _ _=>id),f.mono (fun _ _=>False.elim),fun _ c=>.inl c⟩
theorem Foot.Ae{b:Nat}{L:DL}{M:DM}{f k:Nat}(h:Foot b (L.CP f) (M.CP f) k):k=f\/Foot b L M k:=by
 cases h using Foot.elim with
 | blk=>exact .inr .CB
 | dir e=>exact .inr (.dir e)
 | safe e=>exact .inr (.safe e)
 | ch e=>exact .inr (.ch e)
 | chs i j e=>exact .inr (.CD i j e)
 | file e =>
  rcases Ix.1 e with e|e
  .exact .inl e
  .exact .inr (.file e)
 | row g c e =>
  by_cases a:g=f
  .simp[DL.CP,a,Value.ownBlock] at e
  .simp only[DL.CP,a,Hf] at e
   rcases Ix.1 c with c|c
   .exact absurd c a
   .exact .inr (.row g c e)
theorem Foot.Ak{b:Nat}{L:DL}{M:DM}{v cv:Value}{d:Dir}{k:Nat}(h:Foot b (L.CL v cv) (M.CL d) k) :
 v.ownBlock=some k\/cv.ownBlock=some k\/Foot b L M k:=by
 cases h using Foot.elim with
 | blk=>exact .inr (.inr .CB)
 | dir e=>exact .inl e
 | safe e=>exact .inr (.inr (.safe e))
 | ch e=>exact .inr (.inl e)
 | chs i c e =>
  simp only[DL.CL,ES] at e;split at e
  .exact .inr (.inr (.CD i _ e))
  .simp at e;exact .inl e
 | file e=>exact .inr (.inr (.file e))
 | row g a e=>exact .inr (.inr (.row g a e))
theorem Nm(a:ByteArray)(w:World)(b:Nat)(L:DL)(M:DM)(h:DRep w b L M)(i:¬a=ByteArray.empty)(f:zO M.dir a=-1)(g:M.Cz.1=false) :
 Calls Tryz.prog 211 #[.pointer (some ⟨b,0,none⟩),.string a] w fun e q =>
  e=.returned (.int .i64 M.Cz.2.1)/\DStep b L M w L M.Cz.2.2 q:=by
 have m:=h.CB.cell;simp only[DM.cells] at m;have c:=Z h;have k:=Z f;have l:=Z g;have o:=WQ i;clear h f g i;go_enter DQ,Dr;go_wp2_with fail;refine(Ym k.out _ c.out.dir).mono ?_;rintro e r ⟨rfl,j⟩;go_wp2_with fail;have d:=zQ r b L M (c.out.fr j (fun _ _=>id));rw[l.out] at d;refine d.mono ?_;rintro e s ⟨rfl,p⟩
 go_wp2
 go_ret;exact⟨rfl,(DStep.look c.out j).trans p⟩
theorem PV(a:ByteArray)(w:World)(b:Nat)(L:DL)(M:DM)(h:DRep w b L M)(i:¬a=ByteArray.empty)(Q:zO M.dir a=-1)(hd:M.Cz.1=true)
 (hn:M.CD.length+1<=1000000000000)(hm:M.dir.length+1<=1000000000000) :
 Calls Tryz.prog 211 #[.pointer (some ⟨b,0,none⟩),.string a] w fun e w' =>
  e=.returned (.int .i64 M.Cz.2.1)/\∃ f L',w.heap.size<=f/\f<w'.heap.size/\DStep b L M w L' ((M.Cz.2.2.CP f).CL (M.Cz.2.2.dir++[(a,f)])) w':=by
 have C:=h.CB.cell;simp only[DM.cells] at C;have Y:=Z h;have H1:=Z Q;have HD:=Z hd;have b1:=WQ i;clear h Q hd i;go_enter DQ,Dr;go_wp2_with fail;refine(Ym H1.out _ Y.out.dir).mono ?_;rintro e w1 ⟨rfl,hf⟩;go_wp2_with fail;have HB:=zQ w1 b L M (Y.out.fr hf (fun _ _=>id));rw[HD.out] at HB;refine HB.mono ?_;rintro e O ⟨rfl,hs⟩;clear C;have C:=hs.CK.CB.cell;simp only[DM.cells] at C;have g:=M.CE;have a7:M.Cz.2.2.dir.length+1<=1000000000000:=by rw[g.1];exact hm
 have t:M.Cz.2.2.CD.length+1<=1000000000000:=by rw[g.2.2.1];exact hn
 clear g;have y:=Z hs;clear hs
 go_wp2_with (at_builtin;go_must (refine zI rfl _ _ _ _ rfl _ _ (by rfl) (by rfl) (Xr 140 _ 148 2 24 Gz ZR (by decide) _ _ _ (IF _ 0 _ _) _ _ _ y.out.CK.dir (UM _) (by unfold maxLen;omega) (by omega)) ?_))
 intro v1 c R;have A:=Z R;obtain⟨a1,c1,a6⟩:=zg R.own;have p:Fr Nil O c:=R.fr.mono (fun _ _ h=>by simp[Value.ownBlock] at h);have G:=y.out.CK.fr p (fun _ _=>id);have s:=Z G;clear R G C;subst a6;have hh:b<c.heap.size:=s.out.CB.lt
 -- the file's own block,the entry's,then the entry behind the others
 have r:((c.alloc (.cells #[.slice none 0 0,.int .i64 0] 152)).alloc (.cells #[.string a,.pointer (some ⟨c.heap.size,0,none⟩)] 148)).ownsRow 0 148 2
  (.slice a1 M.Cz.2.2.dir.length c1) M.Cz.2.2.dir.length (flat M.Cz.2.2.dir):=(A.out.own.alloc _).alloc _
 go_wp2_with (at_builtin;go_must (refine zI rfl _ _ _ _ rfl _ _ (by rfl) (by rfl) (zv 140 _ 148 2 24 Gz ZR (by decide) _ _ _ r
  ⟨c.heap.size+1,0,none⟩ 1 1 [.string a,.pointer (some ⟨c.heap.size,0,none⟩)] rfl (XW _ _ _ _ _ (by simp)) (by intro u hu;simp at hu;rcases hu with rfl|rfl <;> rfl) (by unfold maxLen;omega) (by omega)) ?_))
 intro S T B;have l:=Z B;clear B r;have x:DRep T b (L.CP c.heap.size) (M.Cz.2.2.CP c.heap.size):=by
  have a5:c.heap.size∉M.Cz.2.2.ids:=fun hi=>by
   have:=(s.out.files _ hi).lt;omega
  have h0:=(s.out.fr ((U Nil c).alloc (.cells #[.slice none 0 0,.int .i64 0] 152)) (fun _ _=>id)).CP (f:=c.heap.size) (Blk.new c [.slice none 0 0,.int .i64 0] _) a5;have Q:=h0.fr ((U Nil _).alloc (.cells #[.string a,.pointer (some ⟨c.heap.size,0,none⟩)] 148)) (fun _ _=>id);refine Q.fr l.out.fr ?_;intro k g i;have a9:k=O.heap.size:=by
   rcases A.out.at_ with h|h
   .rw[h] at i;simp[Value.ownBlock] at i
   .rw[h] at i;simpa using i.symm
  have b0:O.heap.size<c.heap.size:=by
   have:=Zi A.out.own (k:=k) i;omega
  rcases g.Ae with h|h
  .omega
  .have:=y.out.CK.lt h
   omega
 have N:∀ k,S.ownBlock=some k->O.heap.size<=k:=by
  intro k g;rcases l.out.at_ with h|h
  .rw[h] at g
   rcases A.out.at_ with m|m
   .rw[m] at g;simp[Value.ownBlock] at g
   .rw[m] at g;simp at g;omega
  .rw[h] at g
   simp at g;have:=p.size;omega
 have a4:Fr Nil O T:=by
  refine Fr.trans' (Fr.alloc (Fr.alloc p _) _) l.out.fr ?_;intro k g i;rcases A.out.at_ with m|m
  .rw[m] at i;simp[Value.ownBlock] at i
  .rw[m] at i;simp at i;omega
 have J:=l.out.fr.size;simp only[Fe] at J;have K:(M.Cz.2.2.dir++[(a,c.heap.size)]).length=M.Cz.2.2.dir.length+1:=by simp
 have o:T.ownsRow 0 148 2 S (M.Cz.2.2.dir++[(a,c.heap.size)]).length (flat (M.Cz.2.2.dir++[(a,c.heap.size)])):=by
  rw[K,X2];exact l.out.own
 have q:∀ e,e∈M.Cz.2.2.dir++[(a,c.heap.size)]->e.2∈(M.Cz.2.2.CP c.heap.size).ids:=by
  intro e i;simp only[JW,JY] at i;rcases i with i|rfl
  .exact JV _ (y.out.CK.Bq e i)
  .exact JX ..
 have HT:=Xv S (M.Cz.2.2.dir++[(a,c.heap.size)]) T b _ _ x o q t;have a2:=Z HT;have a8:=Z x;clear HT x o q K;go_wp2_with fail;refine a2.out.mono ?_;rintro e w5 ⟨rfl,cv,I,E,D⟩;have a0:=Z I;have j:=fun k=>Foot.Ak (b:=b) (L:=L.CP c.heap.size) (M:=M.Cz.2.2.CP c.heap.size) (v:=S) (cv:=cv) (d:=M.Cz.2.2.dir++[(a,c.heap.size)]) (k:=k);have X:=Z j;have V:=Z D;have a3:=Z N;clear I j D N
 go_wp2
 go_ret;have b3:=y.out.fr.size;have b2:=hf.size;have b4:=p.size;have b5:=E.size;refine⟨rfl,c.heap.size,_,by omega,by omega,(DStep.look Y.out hf).trans (y.out.trans ⟨a0.out,?_,?_⟩)⟩
 .refine Fr.trans' (a4.mono (fun _ _=>False.elim)) E ?_
  intro k _ g;rcases g with rfl|g
  .exact .CB
  .exact .ch g
 .intro k g
  rcases X.out k g with h|h|h
  .exact .inr (a3.out k h)
  .rcases V.out with m|⟨k',m,hle⟩
   .rw[m] at h;exact .inl (.ch h)
   .rw[m] at h;simp at h;omega
  .rcases h.Ae with h|h
   .omega
   .exact .inl h
theorem DRep.grow{w s:World}{b:Nat}{L:DL}{M:DM}(h:DRep w b L M){f:Nat}(p:f∈M.ids){v:Value}{y:List UInt8}
 (G:Blk s f [v,.int .i64 (M.file f).safe] 152)(I:s.ownsRow 0 5 1 v ((M.file f).bytes++y).length (u8s ((M.file f).bytes++y)))
 (fr:Fr (fun k=>k=f\/(L.fV f).ownBlock=some k) w s)(u:∀ k,v.ownBlock=some k->(L.fV f).ownBlock=some k\/w.heap.size<=k) :
 DRep s b {L with fV:=fun g=>if g=f then v else L.fV g} (M.CJ f {M.file f with bytes:=(M.file f).bytes++y}):=by
 have B:∀ {k:Nat} {c:List Value} {t:TypeId},Blk w k c t->t≠152->t≠5->Blk s k c t:=fun q l m =>
  q.fr fr fun a=>by
   rcases a with e|a
   .exact q.ne (h.files f p) l e
   .exact zi (h.rows f p) q m a
 have d:∀ {e:TypeId} {D:Nat} {v:Value} {n:Nat} {E:List Value},w.ownsRow 0 e D v n E->e≠152->e≠5->s.ownsRow 0 e D v n E:=fun q l m =>
  ze q fr fun k e a=>by
   rcases a with rfl|a
   .exact zi q (h.files k p) (Ev l) e
   .exact Z4 q (h.rows f p) m e a
 exact {
  CB:=B h.CB (by decide) (by decide)
  dir:=d h.dir (by decide) (by decide)
  safe:=d h.safe (by decide) (by decide)
  ch:=d h.ch (by decide) (by decide)
  BJ:=h.BJ
  CD:=fun i l m=>d (h.CD i l m) (by decide) (by decide)
  files:=fun g j=>by
   by_cases e:g=f
   .subst e;simpa [DM.CJ] using G
   .have:=(h.files g j).fr fr (fun a=>by
     rcases a with a|a
     .exact e a
     .exact zi (h.rows f p) (h.files g j) (by decide) a)
    simpa [DM.CJ,e] using this
  rows:=fun g j=>by
   by_cases e:g=f
   .subst e;simpa [DM.CJ] using I
   .have:=ze (h.rows g j) fr (fun k C a=>by
     rcases a with rfl|a
     .exact zi (h.rows g j) (h.files k p) (by decide) C
     .exact h.sep g j f p e k C a)
    simpa [DM.CJ,e] using this
  sep:=fun g j r o e k a=>by
   by_cases A:g=f
   .subst A
    have x:¬r=g:=fun h=>e h.symm;simp only[Hp,x,Hf] at a |-;rcases u k a with l|l
    .exact h.sep g j r o e k l
    .intro m
     have:=Zi (h.rows r o) m;omega
   .by_cases x:r=f
    .subst x
     simp only[A,Hf,Hp] at a |-;intro m;rcases u k m with l|l
     .exact h.sep g j r o e k a l
     .have:=Zi (h.rows g j) a
      omega
    .simp only[A,x,Hf] at a |-
     exact h.sep g j r o e k a
  le:=fun g j=>by
   by_cases e:g=f
   .subst e
    have:=h.le g j;simp[DM.CJ];omega
   .simpa [DM.CJ,e] using h.le g j
  Bq:=h.Bq
  Ai:=h.Ai
  Aj:=h.Aj}
def DM.tries(M:DM)(n:Int):Option Int :=
 if M.Cz.1=true then some n
 else if M.Cz.2.2.dead=false/\0<n then some (M.part.tmod n)
 else none
def DM.left(M:DM):Int:=if IntKind.i64.wrap (M.room-M.used)<0 then 0 else IntKind.i64.wrap (M.room-M.used)
theorem PW(a c:ByteArray)(w:World)(b:Nat)(L:DL)(M:DM)(h:DRep w b L M)(f:zO M.dir a=-1) :
 Calls Tryz.prog 203 #[.pointer (some ⟨b,0,none⟩),.string a,.string c] w fun e k =>
  e=.returned (.int .i64 11)/\DStep b L M w L M k:=by
 have i:=h.CB.cell;simp only[DM.cells] at i;have d:=Z h;have g:=Z f;clear h f;go_enter FP,Fz
 go_wp2_with (go_at_call 87;refine(Ym g.out _ d.out.dir).mono ?_;rintro e l ⟨rfl,j⟩)
 go_ret;exact⟨rfl,DStep.look d.out j⟩
theorem Nn(c a:ByteArray)(w:World)(b:Nat)(L:DL)(M:DM)(h:DRep w b L M)(k:Nat)(_:k<M.dir.length)(m:zO M.dir c=k)(o:M.Cz.1=false)(d:M.Cz.2.2.dead=true)(_:a.size<=1000000000000) :
 Calls Tryz.prog 203 #[.pointer (some ⟨b,0,none⟩),.string c,.string a] w fun e t =>
  e=.returned (.int .i64 M.Cz.2.1)/\DStep b L M w L M.Cz.2.2 t:=by
 have g:=h.CB.cell;have f:=zH h.dir;unfold maxLen at f;simp only[DM.cells] at g;have j:=Z h;have r:=Z m;have s:=Z o;have i:=Z d;clear h m o d;go_enter FP,Fz;go_wp2_with fail;refine(zT r.out _ j.out.dir).mono ?_;rintro e u ⟨rfl,p⟩;go_wp2_with fail;have l:=zQ u b L M (j.out.fr p (fun _ _=>id));rw[s.out] at l;refine l.mono ?_;rintro e v ⟨rfl,q⟩;clear g;have g:=q.CK.CB.cell;simp only[DM.cells,i.out] at g
 go_wp2
 go_ret;exact⟨rfl,(DStep.look j.out p).trans q⟩
theorem append_nil(c a:ByteArray)(w:World)(b:Nat)(L:DL)(M:DM)(h:DRep w b L M)(k:Nat)(_:k<M.dir.length)(m:zO M.dir c=k)(o:M.Cz.1=false)(d:M.Cz.2.2.dead=false)(_:a.size=0) :
 Calls Tryz.prog 203 #[.pointer (some ⟨b,0,none⟩),.string c,.string a] w fun e t =>
  e=.returned (.int .i64 M.Cz.2.1)/\DStep b L M w L M.Cz.2.2 t:=by
 have g:=h.CB.cell;have f:=zH h.dir;unfold maxLen at f;simp only[DM.cells] at g;have j:=Z h;have r:=Z m;have s:=Z o;have i:=Z d;clear h m o d;go_enter FP,Fz;go_wp2_with fail;refine(zT r.out _ j.out.dir).mono ?_;rintro e u ⟨rfl,p⟩;go_wp2_with fail;have l:=zQ u b L M (j.out.fr p (fun _ _=>id));rw[s.out] at l;refine l.mono ?_;rintro e v ⟨rfl,q⟩;clear g;have g:=q.CK.CB.cell;simp only[DM.cells,i.out] at g
 go_wp2
 go_ret;exact⟨rfl,(DStep.look j.out p).trans q⟩
theorem XZ(w:World)(b:Nat)(L:DL)(M:DM)(d:World)(h:DRep d b L M)(a:Fr Nil d w) :
 Calls Tryz.prog 41 #[.pointer (some ⟨b,0,none⟩)] w fun e c=>e=.returned (.int .i64 M.used)/\c.cell? ⟨b,3,none⟩=some (.int .i64 M.room)/\Fr Nil d c:=by
 refine(Nf w b L M (h.fr a (fun _ _=>id))).mono fun e c ⟨g,f⟩=>⟨g,?_,a.trans f⟩;exact((h.fr (a.trans f) (fun _ _=>id)).CB.cell 3)
theorem W7{w o:World}{b:Nat}{L:DL}{M:DM}(h:DRep w b L M){f:Nat}(l:f∈M.ids){n:Option Addr}{c m:Nat}{j:List UInt8}{v:Value}
 (x:L.fV f=.slice n (M.file f).bytes.length c)(G:m=j.length)
 (u:App w.drew (.slice n (M.file f).bytes.length c) 5 1 ((M.file f).bytes.length+m) (u8s (M.file f).bytes++u8s j) v o) :
 ∃ A,DStep b L M w A (M.CJ f {M.file f with bytes:=(M.file f).bytes++j}) (o.setCell ⟨f,0,none⟩ v):=by
 subst G;have r:Fr (fun k=>k=f\/(L.fV f).ownBlock=some k) w (o.setCell ⟨f,0,none⟩ v):=by
  refine Fr.set (Fr.trans' (Fr.drew (U _ w)) u.fr ?_) (fun _=>.inl rfl) _;intro k _ a;exact .inr (by rw[x];exact a)
 have q:Blk o f [L.fV f,.int .i64 (M.file f).safe] 152:=by
  have D:=(h.files f l).drew;refine D.fr u.fr ?_;rw[<- x];exact zi (h.rows f l) (h.files f l) (by decide)
 have E:Blk (o.setCell ⟨f,0,none⟩ v) f [v,.int .i64 (M.file f).safe] 152:=q.set 0 v;have p:∀ k,v.ownBlock=some k->(L.fV f).ownBlock=some k\/w.heap.size<=k:=by
  intro k a;rcases u.at_ with d|d
  .rw[d] at a;exact .inl (by rw[x];exact a)
  .rw[d] at a;simp at a;exact .inr (by omega)
 have t:(o.setCell ⟨f,0,none⟩ v).ownsRow 0 5 1 v ((M.file f).bytes++j).length (u8s ((M.file f).bytes++j)):=by
  have d:=u.own;have B:u8s ((M.file f).bytes++j)=u8s (M.file f).bytes++u8s j:=by simp[u8s]
  have C:((M.file f).bytes++j).length=(M.file f).bytes.length+j.length:=by simp
  rw[B,C];exact ze d (S:=fun k=>k=f) (by repeat' first|exact U _ _|(with_reducible assumption)|refine Fr.drewN ?_ _|refine Fr.drew ?_|refine Fr.alloc ?_ _|refine Fr.set ?_ ?_ _|(intro _;rfl)) (fun k e a=>by subst a;exact zi d q (by decide) e)
 refine⟨{L with fV:=fun g=>if g=f then v else L.fV g},⟨h.grow l E t r p,r.mono ?_,?_⟩⟩
 .intro k _ a
  rcases a with rfl|a
  .exact .file l
  .exact .row f l a
 .intro k a
  cases a using Foot.elim with
  | blk=>exact .inl .CB
  | dir e=>exact .inl (.dir e)
  | safe e=>exact .inl (.safe e)
  | ch e=>exact .inl (.ch e)
  | chs i d e=>exact .inl (.CD i d e)
  | file e=>exact .inl (.file e)
  | row g y e =>
   by_cases s:g=f
   .subst s
    simp only[Hp] at e;rcases p k e with d|d
    .exact .inl (.row g y d)
    .exact .inr d
   .simp only[s,Hf] at e
    exact .inl (.row g y e)
theorem PX(m a:ByteArray)(w:World)(b:Nat)(L:DL)(M:DM)(h:DRep w b L M)(k:Nat)(hk:k<M.dir.length)(h1:zO M.dir m=k)(X:a.size<=1000000000000)(Q:(M.file M.dir[k].2).bytes.length<=1000000000000)
 (hd:M.Cz.1=true)(f:¬M.Cz.2.2.left<a.size) :
 Calls Tryz.prog 203 #[.pointer (some ⟨b,0,none⟩),.string m,.string a] w fun e w' =>
  e=.returned (.int .i64 M.Cz.2.1)/\∃ K,DStep b L M w K ((M.Cz.2.2).CJ M.dir[k].2 {M.Cz.2.2.file M.dir[k].2 with bytes:=(M.Cz.2.2.file M.dir[k].2).bytes++(a).data.toList}) w':=by
 have l:=h.CB.cell;have x:=zH h.dir;unfold maxLen at x;simp only[DM.cells] at l;have G:=Z h;have H1:=Z h1;have HD:=Z hd;have HL:=Z f;clear f;clear h h1 hd;go_enter FP,Fz;go_wp2_with fail;refine(zT H1.out _ G.out.dir).mono ?_;rintro e w1 ⟨rfl,hf⟩;go_wp2_with fail;have E:=zQ w1 b L M (G.out.fr hf (fun _ _=>id));rw[HD.out] at E;refine E.mono ?_;rintro e w2 ⟨rfl,C⟩;clear l E;have l:=C.CK.CB.cell;simp only[DM.cells] at l;have p:=C.CK.CB.cell 3;simp only[DM.cells] at p;simp at p;have A:=Z C;clear C;go_wp2_with fail
 go_region_held3 (fun w'=>w'.cell? ⟨b,3,none⟩=some (.int .i64 M.Cz.2.2.room)) (first|go_keep|assumption) (first|(go_at_call 41;refine(XZ _ b L M.Cz.2.2 w2 A.out.CK (Fr.drew (U _ _))).mono ?_;rintro e w3 ⟨rfl,S,u⟩))
 have HE:Hid ((if IntKind.i64.wrap (M.Cz.2.2.room-M.Cz.2.2.used)<0 then 0 else IntKind.i64.wrap (M.Cz.2.2.room-M.Cz.2.2.used))=M.Cz.2.2.left):=rfl;rw[HE.out];have J:=HL.out;generalize M.Cz.2.2.left=left at J;have q:=A.out.CK.fr u (fun _ _=>id);have R:k<M.Cz.2.2.dir.length:=by rw[M.CE.1];exact hk
 have he:M.Cz.2.2.dir[k].2=M.dir[k].2:=by simp[M.CE.1]
 obtain⟨g,a1,n,c,hv,r,_,hp,i⟩:=q.entry R;rw[he] at r hp i;have O:=(q.files _ r).cell;have a3:=(q.files _ r).frozen;rw[i] at O;clear l p S;have l:=q.CB.cell;simp only[DM.cells] at l;rw[hv] at l;have D:=Z q;have o:=Z i;clear q i hv;have d:=D.out.rows _ r;rw[o.out] at d;have s:=Z d;have a0:(M.Cz.2.2.file M.dir[k].2).bytes.length<=1000000000000:=by rw[M.CE.2.2.2.1];exact Q
 have T:(a).size<=1000000000000:=by exact X
 have q1:(M.Cz.2.2.file M.dir[k].2).bytes.length+(a).size<=maxLen:=by unfold maxLen;omega
 have q2:(M.Cz.2.2.file M.dir[k].2).bytes.length+(a).size<=140737488355328:=by omega
 have Q1:=Z q1;have Q2:=Z q2;have I:Hid (∀ y:World,Fr (fun j=>(Value.slice n (M.Cz.2.2.file M.dir[k].2).bytes.length c).ownBlock=some j) w3.drew y->Blk y M.dir[k].2 [.slice n (M.Cz.2.2.file M.dir[k].2).bytes.length c,.int .i64 (M.Cz.2.2.file M.dir[k].2).safe] 152):=by
  intro y v;have N:=D.out.files _ r;rw[o.out] at N;exact(N.drew).fr v (zi d N (by decide))
 clear q1 q2 d T;go_wp2_with fail
 go_region_law
  ((refine ZL (by rfl) _ _ _ _ (by rfl) _ _ (by rfl) (by rfl) (ZW (w:=w3.drew) 150 9 _ 5 Gd Gq Wt _ _ _ s.out (a) Q1.out Q2.out) ?_;intro v4 y B;obtain⟨a4,c4,Y⟩:=zg B.own;have t:=I.out y B.fr;have a2:=t.cell 0;have v:=t.frozen 0;have HA:=Z B;clear B;subst Y))
 go_wp2
 go_ret;obtain⟨K,V⟩:=W7 D.out r o.out (by simp) HA.out;exact⟨rfl,K,(DStep.look G.out hf).trans (A.out.trans ((DStep.look A.out.CK u).trans V))⟩
theorem Qr(o a:ByteArray)(w:World)(b:Nat)(L:DL)(M:DM)(h:DRep w b L M)(k:Nat)(hk:k<M.dir.length)(h1:zO M.dir o=k)(a9:a.size<=1000000000000)(V:(M.file M.dir[k].2).bytes.length<=1000000000000)
 (hd:M.Cz.1=true)(v:M.Cz.2.1=9)(m:Nat)(hm:M.Cz.2.2.left=m)(f:(m:Int)<a.size) :
 Calls Tryz.prog 203 #[.pointer (some ⟨b,0,none⟩),.string o,.string a] w fun e w' =>
  e=.returned (.int .i64 9)/\∃ Q,DStep b L M w Q ((M.Cz.2.2).CJ M.dir[k].2 {M.Cz.2.2.file M.dir[k].2 with bytes:=(M.Cz.2.2.file M.dir[k].2).bytes++(a.extract 0 m).data.toList}) w':=by
 have l:=h.CB.cell;have A:=zH h.dir;unfold maxLen at A;simp only[DM.cells] at l;have N:=Z h;have H1:=Z h1;have HD:=Z hd;have HL:=Z f;have K:=Z v;have HM:=Z hm;clear f v hm;clear h h1 hd;go_enter FP,Fz;go_wp2_with fail;refine(zT H1.out _ N.out.dir).mono ?_;rintro e w1 ⟨rfl,hf⟩;go_wp2_with fail;have D:=zQ w1 b L M (N.out.fr hf (fun _ _=>id));rw[HD.out] at D;rw[K.out] at D;refine D.mono ?_;rintro e w2 ⟨rfl,I⟩;clear l D;have l:=I.CK.CB.cell;simp only[DM.cells] at l;have q:=I.CK.CB.cell 3;simp only[DM.cells] at q;simp at q;have E:=Z I;clear I;go_wp2_with fail
 go_region_held3 (fun w'=>w'.cell? ⟨b,3,none⟩=some (.int .i64 M.Cz.2.2.room)) (first|go_keep|assumption) (first|(go_at_call 41;refine(XZ _ b L M.Cz.2.2 w2 E.out.CK (Fr.drew (U _ _))).mono ?_;rintro e w3 ⟨rfl,Y,x⟩))
 have HE:Hid ((if IntKind.i64.wrap (M.Cz.2.2.room-M.Cz.2.2.used)<0 then 0 else IntKind.i64.wrap (M.Cz.2.2.room-M.Cz.2.2.used))=M.Cz.2.2.left):=rfl;rw[HE.out];rw[HM.out];have a3:=HL.out;have a8:m<=a.size:=by omega
 have r:=E.out.CK.fr x (fun _ _=>id);have X:k<M.Cz.2.2.dir.length:=by rw[M.CE.1];exact hk
 have he:M.Cz.2.2.dir[k].2=M.dir[k].2:=by simp[M.CE.1]
 obtain⟨g,a5,n,c,hv,s,_,hp,i⟩:=r.entry X;rw[he] at s hp i;have S:=(r.files _ s).cell;have a7:=(r.files _ s).frozen;rw[i] at S;clear l q Y;have l:=r.CB.cell;simp only[DM.cells] at l;rw[hv] at l;have J:=Z r;have p:=Z i;clear r i hv;have d:=J.out.rows _ s;rw[p.out] at d;have t:=Z d;have a2:(M.Cz.2.2.file M.dir[k].2).bytes.length<=1000000000000:=by rw[M.CE.2.2.2.1];exact V
 have a0:(a.extract 0 m).size<=1000000000000:=by rw[Gp];omega
 have q1:(M.Cz.2.2.file M.dir[k].2).bytes.length+(a.extract 0 m).size<=maxLen:=by unfold maxLen;omega
 have q2:(M.Cz.2.2.file M.dir[k].2).bytes.length+(a.extract 0 m).size<=140737488355328:=by omega
 have Q1:=Z q1;have Q2:=Z q2;have O:Hid (∀ C:World,Fr (fun j=>(Value.slice n (M.Cz.2.2.file M.dir[k].2).bytes.length c).ownBlock=some j) w3.drew C->Blk C M.dir[k].2 [.slice n (M.Cz.2.2.file M.dir[k].2).bytes.length c,.int .i64 (M.Cz.2.2.file M.dir[k].2).safe] 152):=by
  intro C y;have R:=J.out.files _ s;rw[p.out] at R;exact(R.drew).fr y (zi d R (by decide))
 clear q1 q2 d a0;go_wp2_with fail
 go_region_law
  ((refine ZL (by rfl) _ _ _ _ (by rfl) _ _ (by rfl) (by rfl) (ZW (w:=w3.drew) 150 9 _ 5 Gd Gq Wt _ _ _ t.out (a.extract 0 m) Q1.out Q2.out) ?_;intro v4 C G;obtain⟨a4,c4,a1⟩:=zg G.own;have u:=O.out C G.fr;have a6:=u.cell 0;have y:=u.frozen 0;have HA:=Z G;clear G;subst a1))
 go_wp2
 go_ret;obtain⟨Q,B⟩:=W7 J.out s p.out (by simp) HA.out;have T:(a.extract 0 m).size=m:=by rw[Gp];omega
 rw[T] at B;exact⟨rfl,Q,(DStep.look N.out hf).trans (E.out.trans ((DStep.look E.out.CK x).trans B))⟩
theorem Tf(o a:ByteArray)(w:World)(b:Nat)(L:DL)(M:DM)(h:DRep w b L M)(k:Nat)(hk:k<M.dir.length)(h1:zO M.dir o=k)(b7:a.size<=1000000000000)(a2:(M.file M.dir[k].2).bytes.length<=1000000000000)
 (hd:M.Cz.1=false)(A:M.Cz.2.1=9)(y:M.Cz.2.2.dead=false)(p q:Nat)(E:M.Cz.2.2.part=p)(hq:(p:Int).tmod a.size=q)(b6:q<a.size)(m:Nat)(hm:M.Cz.2.2.left=m)(f:(m:Int)<q) :
 Calls Tryz.prog 203 #[.pointer (some ⟨b,0,none⟩),.string o,.string a] w fun e w' =>
  e=.returned (.int .i64 9)/\∃ Y,DStep b L M w Y ((M.Cz.2.2).CJ M.dir[k].2 {M.Cz.2.2.file M.dir[k].2 with bytes:=(M.Cz.2.2.file M.dir[k].2).bytes++(a.extract 0 m).data.toList}) w':=by
 have l:=h.CB.cell;have D:=zH h.dir;unfold maxLen at D;simp only[DM.cells] at l;have T:=Z h;have H1:=Z h1;have HD:=Z hd;have S:=Z A;have R:=Z y;have X:=Z E;have HL:=Z f;have b3:((a.size:Int)==0)=false:=by rw[Hy];omega
 have b2:(0:Int)<a.size:=by omega
 clear A y E f;have HM:=Z hm;clear hm;clear h h1 hd;go_enter FP,Fz;go_wp2_with fail;refine(zT H1.out _ T.out.dir).mono ?_;rintro e w1 ⟨rfl,hf⟩;go_wp2_with fail;have J:=zQ w1 b L M (T.out.fr hf (fun _ _=>id));rw[HD.out] at J;rw[S.out] at J;refine J.mono ?_;rintro e w2 ⟨rfl,O⟩;clear l J;have l:=O.CK.CB.cell;simp only[DM.cells,R.out,X.out] at l;have s:=O.CK.CB.cell 3;simp only[DM.cells] at s;simp at s;have K:=Z O;clear O;go_wp2_with fail
 go_region_held3 (fun w'=>w'.cell? ⟨b,3,none⟩=some (.int .i64 M.Cz.2.2.room)) (first|go_keep|assumption) (first|(go_at_call 41;refine(XZ _ b L M.Cz.2.2 w2 K.out.CK (Fr.drew (U _ _))).mono ?_;rintro e w3 ⟨rfl,a5,B⟩))
 have HE:Hid ((if IntKind.i64.wrap (M.Cz.2.2.room-M.Cz.2.2.used)<0 then 0 else IntKind.i64.wrap (M.Cz.2.2.room-M.Cz.2.2.used))=M.Cz.2.2.left):=rfl;rw[HE.out];rw[HM.out];have a9:=HL.out;have b5:m<=a.size:=by omega
 have t:=K.out.CK.fr B (fun _ _=>id);have a3:k<M.Cz.2.2.dir.length:=by rw[M.CE.1];exact hk
 have he:M.Cz.2.2.dir[k].2=M.dir[k].2:=by simp[M.CE.1]
 obtain⟨g,b0,n,c,hv,u,_,hp,i⟩:=t.entry a3;rw[he] at u hp i;have a0:=(t.files _ u).cell;have b4:=(t.files _ u).frozen;rw[i] at a0;clear l s a5;have l:=t.CB.cell;simp only[DM.cells] at l;rw[hv] at l;have Q:=Z t;have r:=Z i;clear t i hv;have d:=Q.out.rows _ u;rw[r.out] at d;have v:=Z d;have a8:(M.Cz.2.2.file M.dir[k].2).bytes.length<=1000000000000:=by rw[M.CE.2.2.2.1];exact a2
 have a6:(a.extract 0 m).size<=1000000000000:=by rw[Gp];omega
 have q1:(M.Cz.2.2.file M.dir[k].2).bytes.length+(a.extract 0 m).size<=maxLen:=by unfold maxLen;omega
 have q2:(M.Cz.2.2.file M.dir[k].2).bytes.length+(a.extract 0 m).size<=140737488355328:=by omega
 have Q1:=Z q1;have Q2:=Z q2;have V:Hid (∀ I:World,Fr (fun j=>(Value.slice n (M.Cz.2.2.file M.dir[k].2).bytes.length c).ownBlock=some j) w3.drew I->Blk I M.dir[k].2 [.slice n (M.Cz.2.2.file M.dir[k].2).bytes.length c,.int .i64 (M.Cz.2.2.file M.dir[k].2).safe] 152):=by
  intro I C;have h0:=Q.out.files _ u;rw[r.out] at h0;exact(h0.drew).fr C (zi d h0 (by decide))
 clear q1 q2 d a6;go_wp2_with fail
 go_region_law
  ((refine ZL (by rfl) _ _ _ _ (by rfl) _ _ (by rfl) (by rfl) (ZW (w:=w3.drew) 150 9 _ 5 Gd Gq Wt _ _ _ v.out (a.extract 0 m) Q1.out Q2.out) ?_;intro v4 I N;obtain⟨a4,c4,a7⟩:=zg N.own;have x:=V.out I N.fr;have b1:=x.cell 0;have C:=x.frozen 0;have HA:=Z N;clear N;subst a7))
 go_wp2
 go_ret;obtain⟨Y,G⟩:=W7 Q.out u r.out (by simp) HA.out;have a1:(a.extract 0 m).size=m:=by rw[Gp];omega
 rw[a1] at G;exact⟨rfl,Y,(DStep.look T.out hf).trans (K.out.trans ((DStep.look K.out.CK B).trans G))⟩
theorem Tg(m a:ByteArray)(w:World)(b:Nat)(L:DL)(M:DM)(h:DRep w b L M)(k:Nat)(hk:k<M.dir.length)(h1:zO M.dir m=k)(b6:a.size<=1000000000000)(a2:(M.file M.dir[k].2).bytes.length<=1000000000000)
 (hd:M.Cz.1=false)(y:M.Cz.2.1=9)(x:M.Cz.2.2.dead=false)(p q:Nat)(D:M.Cz.2.2.part=p)(hq:(p:Int).tmod a.size=q)(b5:q<a.size)(f:¬M.Cz.2.2.left<q) :
 Calls Tryz.prog 203 #[.pointer (some ⟨b,0,none⟩),.string m,.string a] w fun e w' =>
  e=.returned (.int .i64 9)/\∃ Y,DStep b L M w Y ((M.Cz.2.2).CJ M.dir[k].2 {M.Cz.2.2.file M.dir[k].2 with bytes:=(M.Cz.2.2.file M.dir[k].2).bytes++(a.extract 0 q).data.toList}) w':=by
 have l:=h.CB.cell;have C:=zH h.dir;unfold maxLen at C;simp only[DM.cells] at l;have S:=Z h;have H1:=Z h1;have HD:=Z hd;have R:=Z y;have Q:=Z x;have X:=Z D;have HL:=Z f;have b2:((a.size:Int)==0)=false:=by rw[Hy];omega
 have b1:(0:Int)<a.size:=by omega
 clear y x D f;clear h h1 hd;go_enter FP,Fz;go_wp2_with fail;refine(zT H1.out _ S.out.dir).mono ?_;rintro e w1 ⟨rfl,hf⟩;go_wp2_with fail;have I:=zQ w1 b L M (S.out.fr hf (fun _ _=>id));rw[HD.out] at I;rw[R.out] at I;refine I.mono ?_;rintro e w2 ⟨rfl,N⟩;clear l I;have l:=N.CK.CB.cell;simp only[DM.cells,Q.out,X.out] at l;have r:=N.CK.CB.cell 3;simp only[DM.cells] at r;simp at r;have J:=Z N;clear N;go_wp2_with fail
 go_region_held3 (fun w'=>w'.cell? ⟨b,3,none⟩=some (.int .i64 M.Cz.2.2.room)) (first|go_keep|assumption) (first|(go_at_call 41;refine(XZ _ b L M.Cz.2.2 w2 J.out.CK (Fr.drew (U _ _))).mono ?_;rintro e w3 ⟨rfl,a5,A⟩))
 have HE:Hid ((if IntKind.i64.wrap (M.Cz.2.2.room-M.Cz.2.2.used)<0 then 0 else IntKind.i64.wrap (M.Cz.2.2.room-M.Cz.2.2.used))=M.Cz.2.2.left):=rfl;rw[HE.out];have V:=HL.out;have b4:q<=a.size:=by omega
 generalize M.Cz.2.2.left=left at V;have s:=J.out.CK.fr A (fun _ _=>id);have a3:k<M.Cz.2.2.dir.length:=by rw[M.CE.1];exact hk
 have he:M.Cz.2.2.dir[k].2=M.dir[k].2:=by simp[M.CE.1]
 obtain⟨g,a9,n,c,hv,t,_,hp,i⟩:=s.entry a3;rw[he] at t hp i;have a0:=(s.files _ t).cell;have b3:=(s.files _ t).frozen;rw[i] at a0;clear l r a5;have l:=s.CB.cell;simp only[DM.cells] at l;rw[hv] at l;have O:=Z s;have o:=Z i;clear s i hv;have d:=O.out.rows _ t;rw[o.out] at d;have u:=Z d;have a8:(M.Cz.2.2.file M.dir[k].2).bytes.length<=1000000000000:=by rw[M.CE.2.2.2.1];exact a2
 have a6:(a.extract 0 q).size<=1000000000000:=by rw[Gp];omega
 have q1:(M.Cz.2.2.file M.dir[k].2).bytes.length+(a.extract 0 q).size<=maxLen:=by unfold maxLen;omega
 have q2:(M.Cz.2.2.file M.dir[k].2).bytes.length+(a.extract 0 q).size<=140737488355328:=by omega
 have Q1:=Z q1;have Q2:=Z q2;have T:Hid (∀ G:World,Fr (fun j=>(Value.slice n (M.Cz.2.2.file M.dir[k].2).bytes.length c).ownBlock=some j) w3.drew G->Blk G M.dir[k].2 [.slice n (M.Cz.2.2.file M.dir[k].2).bytes.length c,.int .i64 (M.Cz.2.2.file M.dir[k].2).safe] 152):=by
  intro G B;have h0:=O.out.files _ t;rw[o.out] at h0;exact(h0.drew).fr B (zi d h0 (by decide))
 clear q1 q2 d a6;go_wp2_with fail
 go_region_law
  ((refine ZL (by rfl) _ _ _ _ (by rfl) _ _ (by rfl) (by rfl) (ZW (w:=w3.drew) 150 9 _ 5 Gd Gq Wt _ _ _ u.out (a.extract 0 q) Q1.out Q2.out) ?_;intro v4 G K;obtain⟨a4,c4,a7⟩:=zg K.own;have v:=T.out G K.fr;have b0:=v.cell 0;have B:=v.frozen 0;have HA:=Z K;clear K;subst a7))
 go_wp2
 go_ret;obtain⟨Y,E⟩:=W7 O.out t o.out (by simp) HA.out;have a1:(a.extract 0 q).size=q:=by rw[Gp];omega
 rw[a1] at E;exact⟨rfl,Y,(DStep.look S.out hf).trans (J.out.trans ((DStep.look J.out.CK A).trans E))⟩
theorem Qs(o a:ByteArray)(w:World)(b:Nat)(L:DL)(M:DM)(h:DRep w b L M)(k:Nat)(hk:k<M.dir.length)(h1:zO M.dir o=k)(b6:a.size<=1000000000000)(a1:(M.file M.dir[k].2).bytes.length<=1000000000000)
 (hd:M.Cz.1=true)(y:M.Cz.2.1=0)(m:Nat)(hm:M.Cz.2.2.left=m)(i:(m:Int)<a.size) :
 Calls Tryz.prog 203 #[.pointer (some ⟨b,0,none⟩),.string o,.string a] w fun e w' =>
  e=.returned (.int .i64 10)/\∃ V,DStep b L M w V (({M.Cz.2.2 with refused:=wrap64 (M.Cz.2.2.refused+1),CG:=wrap64 (M.Cz.2.2.CG+1)}:DM).CJ M.dir[k].2 {M.Cz.2.2.file M.dir[k].2 with bytes:=(M.Cz.2.2.file M.dir[k].2).bytes++(a.extract 0 m).data.toList}) w':=by
 have v:=h.CB.cell;have C:=zH h.dir;unfold maxLen at C;simp only[DM.cells] at v;have S:=Z h;have H1:=Z h1;have HD:=Z hd;have HL:=Z i;have R:=Z y;have HM:=Z hm;clear i y hm;clear h h1 hd;go_enter FP,Fz;go_wp2_with fail;refine(zT H1.out _ S.out.dir).mono ?_;rintro e w1 ⟨rfl,hf⟩;go_wp2_with fail;have J:=zQ w1 b L M (S.out.fr hf (fun _ _=>id));rw[HD.out] at J;rw[R.out] at J;refine J.mono ?_;rintro e w2 ⟨rfl,O⟩;clear v J;have v:=O.CK.CB.cell;simp only[DM.cells] at v;have q:=O.CK.CB.cell 3;simp only[DM.cells] at q;simp at q;have K:=Z O;clear O;go_wp2_with fail
 go_region_held3 (fun w'=>w'.cell? ⟨b,3,none⟩=some (.int .i64 M.Cz.2.2.room)) (first|go_keep|assumption) (first|(go_at_call 41;refine(XZ _ b L M.Cz.2.2 w2 K.out.CK (Fr.drew (U _ _))).mono ?_;rintro e G ⟨rfl,a3,A⟩))
 have HE:Hid ((if IntKind.i64.wrap (M.Cz.2.2.room-M.Cz.2.2.used)<0 then 0 else IntKind.i64.wrap (M.Cz.2.2.room-M.Cz.2.2.used))=M.Cz.2.2.left):=rfl;rw[HE.out];rw[HM.out];have b1:=HL.out;have b5:m<=a.size:=by omega
 have f:=K.out.CK.fr A (fun _ _=>id);have x:=f.CB.cell;have a7:=f.CB.frozen;simp only[DM.cells] at x;clear v q a3;have a2:k<M.Cz.2.2.dir.length:=by rw[M.CE.1];exact hk
 have he:M.Cz.2.2.dir[k].2=M.dir[k].2:=by simp[M.CE.1]
 have h4:DRep ((G.setCell ⟨b,8,none⟩ (.int .i64 (wrap64 (M.Cz.2.2.refused+1)))).setCell ⟨b,9,none⟩ (.int .i64 (wrap64 (M.Cz.2.2.CG+1)))) b L ({M.Cz.2.2 with refused:=wrap64 (M.Cz.2.2.refused+1),CG:=wrap64 (M.Cz.2.2.CG+1)}:DM) :=
  f.own ((f.CB.set 8 _).set 9 _) (by repeat' first|exact U _ _|(with_reducible assumption)|refine Fr.drewN ?_ _|refine Fr.drew ?_|refine Fr.alloc ?_ _|refine Fr.set ?_ ?_ _|(intro _;rfl)) rfl rfl rfl rfl rfl
 obtain⟨g,b2,n,c,hv,r,_,hp,l⟩:=f.entry a2;rw[he] at r hp l;have Y:=(f.files _ r).cell;have b4:=(f.files _ r).frozen;rw[l] at Y;rw[hv] at x;have a9:M.dir[k].2≠b:=(f.files _ r).ne f.CB (by decide);have b0:g≠b:=fun e=>zi f.dir f.CB (by decide) (by rw[hv,<- e];rfl);have Q:=Z h4;have p:=Z l;have s:=Z f;clear h4 f l hv;have d:=Q.out.rows _ r;rw[p.out] at d;have t:=Z d;have a8:(M.Cz.2.2.file M.dir[k].2).bytes.length<=1000000000000:=by rw[M.CE.2.2.2.1];exact a1
 have a5:(a.extract 0 m).size<=1000000000000:=by rw[Gp];omega
 have q1:(M.Cz.2.2.file M.dir[k].2).bytes.length+(a.extract 0 m).size<=maxLen:=by unfold maxLen;omega
 have q2:(M.Cz.2.2.file M.dir[k].2).bytes.length+(a.extract 0 m).size<=140737488355328:=by omega
 have Q1:=Z q1;have Q2:=Z q2;have T:Hid (∀ I:World,Fr (fun j=>(Value.slice n (M.Cz.2.2.file M.dir[k].2).bytes.length c).ownBlock=some j) ((G.setCell ⟨b,8,none⟩ (.int .i64 (wrap64 (M.Cz.2.2.refused+1)))).setCell ⟨b,9,none⟩ (.int .i64 (wrap64 (M.Cz.2.2.CG+1)))).drew I->Blk I M.dir[k].2 [.slice n (M.Cz.2.2.file M.dir[k].2).bytes.length c,.int .i64 (M.Cz.2.2.file M.dir[k].2).safe] 152):=by
  intro I B;have X:=Q.out.files _ r;rw[p.out] at X;exact(X.drew).fr B (zi d X (by decide))
 clear q1 q2 d a5;go_wp2_with fail
 go_region_law
  ((refine ZL (by rfl) _ _ _ _ (by rfl) _ _ (by rfl) (by rfl) (ZW (w:=((G.setCell ⟨b,8,none⟩ (.int .i64 (wrap64 (M.Cz.2.2.refused+1)))).setCell ⟨b,9,none⟩ (.int .i64 (wrap64 (M.Cz.2.2.CG+1)))).drew) 150 9 _ 5 Gd Gq Wt _ _ _ t.out (a.extract 0 m) Q1.out Q2.out) ?_;intro v4 I N;obtain⟨a4,c4,a6⟩:=zg N.own;have u:=T.out I N.fr;have b3:=u.cell 0;have B:=u.frozen 0;have HA:=Z N;clear N;subst a6))
 go_wp2
 go_ret;obtain⟨V,D⟩:=W7 Q.out r p.out (by simp) HA.out;have a0:(a.extract 0 m).size=m:=by rw[Gp];omega
 rw[a0] at D;have E:DStep b L M.Cz.2.2 G L ({M.Cz.2.2 with refused:=wrap64 (M.Cz.2.2.refused+1),CG:=wrap64 (M.Cz.2.2.CG+1)}:DM) ((G.setCell ⟨b,8,none⟩ (.int .i64 (wrap64 (M.Cz.2.2.refused+1)))).setCell ⟨b,9,none⟩ (.int .i64 (wrap64 (M.Cz.2.2.CG+1)))):=by
  exact .own (s.out.own ((s.out.CB.set 8 _).set 9 _) (by repeat' first|exact U _ _|(with_reducible assumption)|refine Fr.drewN ?_ _|refine Fr.drew ?_|refine Fr.alloc ?_ _|refine Fr.set ?_ ?_ _|(intro _;rfl)) rfl rfl rfl rfl rfl) (by repeat' first|exact U _ _|(with_reducible assumption)|refine Fr.drewN ?_ _|refine Fr.drew ?_|refine Fr.alloc ?_ _|refine Fr.set ?_ ?_ _|(intro _;rfl)) rfl
 exact⟨rfl,V,(DStep.look S.out hf).trans (K.out.trans ((DStep.look K.out.CK A).trans (E.trans D)))⟩
theorem DM.AG(M:DM)(h:M.Cz.1=false):M.Cz.2.1=9:=by
 unfold DM.Cz at h |-;dsimp only at h |-;(repeat' split at h) <;> simp_all
theorem VZ(a:ByteArray)(w:World)(b:Nat)(L:DL)(M:DM)(h:DRep w b L M)(q:M.CD.length+1<=1000000000000)(p:M.dir.length+1<=1000000000000) :
 Calls Tryz.prog 211 #[.pointer (some ⟨b,0,none⟩),.string a] w fun e i =>
  ∃ f j,e=.returned (.int .i64 (M.create a f).1)/\w.heap.size<=f/\DStep b L M w j (M.create a f).2 i:=by
 by_cases c:a=ByteArray.empty\/(M.dir.look a).isSome=true
 .refine(PU a w b L M h c).mono fun e i ⟨d,g⟩=>⟨w.heap.size,L,?_,JS _,?_⟩
  .rw[d];simp only[DM.create];rw[Io c]
  .simp only[DM.create];rw[Io c];exact DStep.look h g
 .have he:¬a=ByteArray.empty:=fun e=>c (.inl e)
  rcases Yq M.dir a with⟨d,g⟩|⟨k,r,d,g,_⟩
  .cases hd:M.Cz.1 with
   | false =>
    refine(Nm a w b L M h he d hd).mono fun e i ⟨l,m⟩=>⟨w.heap.size,L,?_,JS _,?_⟩
    .rw[l];simp only[DM.create];rw[Ie c]
    .simp only[DM.create];rw[Ie c,hd];exact m
   | true =>
    refine(PV a w b L M h he d hd q p).mono fun e i ⟨l,f,j,m,_,o⟩=>⟨f,j,?_,m,?_⟩
    .rw[l];simp only[DM.create];rw[Ie c]
    .simp only[DM.create];rw[Ie c,hd];exact o
  .exact absurd (.inr (by rw[g];rfl)) c
def DM.add(M:DM)(b:ByteArray)(a:ByteArray):Int × DM :=
 match M.dir.look b with
 | none=>(11,M)
 | some f =>
  match M.tries a.size with
  | none=>(M.Cz.2.1,M.Cz.2.2)
  | some n =>
   if M.Cz.2.2.left<n then
    if M.Cz.2.1=0 then
     (10,({M.Cz.2.2 with refused:=wrap64 (M.Cz.2.2.refused+1),CG:=wrap64 (M.Cz.2.2.CG+1)}:DM).CJ f
       {M.Cz.2.2.file f with bytes:=(M.Cz.2.2.file f).bytes++(a.extract 0 M.Cz.2.2.left.toNat).data.toList})
    else(M.Cz.2.1,M.Cz.2.2.CJ f {M.Cz.2.2.file f with bytes:=(M.Cz.2.2.file f).bytes++(a.extract 0 M.Cz.2.2.left.toNat).data.toList})
   else(M.Cz.2.1,M.Cz.2.2.CJ f {M.Cz.2.2.file f with bytes:=(M.Cz.2.2.file f).bytes++(a.extract 0 n.toNat).data.toList})
theorem DM.yl(M:DM):∃ m:Nat,M.left=m:=by
 have:0<=M.left:=by unfold DM.left;split <;> omega
 exact⟨_,(GJ this).symm⟩
theorem U0(c a:ByteArray)(w:World)(b:Nat)(L:DL)(M:DM)(h:DRep w b L M)(D:0<=M.part)(j:a.size<=1000000000000)(y:∀ f,f∈M.ids->(M.file f).bytes.length<=1000000000000) :
 Calls Tryz.prog 203 #[.pointer (some ⟨b,0,none⟩),.string c,.string a] w fun e q =>
  e=.returned (.int .i64 (M.add c a).1)/\∃ C,DStep b L M w C (M.add c a).2 q:=by
 rcases Yq M.dir c with⟨l,o⟩|⟨k,r,l,o,_⟩
 .refine(PW c a w b L M h l).mono fun e q ⟨g,i⟩=>?_
  simp only[DM.add,o];exact⟨g,L,i⟩
 .have hf:=y _ (h.Bq _ (Ia r))
  have v:M.Cz.2.2.part=M.part:=M.CE.2.2.2.2.2.2.1;obtain⟨m,t⟩:=M.Cz.2.2.yl;cases hd:M.Cz.1 with
  | false =>
   have d:=M.AG hd;cases hdd:M.Cz.2.2.dead with
   | true =>
    refine(Nn c a w b L M h k r l hd hdd j).mono fun e q ⟨g,i⟩=>?_;simp only[DM.add,o,DM.tries,hd,hdd];exact⟨g,L,i⟩
   | false =>
    by_cases B:a.size=0
    .refine(append_nil c a w b L M h k r l hd hdd B).mono fun e q ⟨g,i⟩=>?_
     simp only[DM.add,o,DM.tries,hd,hdd,B];exact⟨g,L,i⟩
    .obtain⟨p,hp'⟩:=IZ D
     have A:(p:Int).tmod a.size=(p%a.size:Nat):=by
      rw[Ew]
     have x:p%a.size<a.size:=EG _ (by omega);have u:M.tries a.size=some ((p%a.size:Nat):Int):=by
      simp only[DM.tries,hd,hdd];rw[Ie (by simp),Io (by simp;omega),hp',A]
     by_cases s:M.Cz.2.2.left<((p%a.size:Nat):Int)
     .refine(Tf c a w b L M h k r l j hf hd d hdd p (p%a.size) (by rw[v,hp']) A x m t (by omega)).mono fun e q ⟨g,i⟩=>?_
      simp only[DM.add,o,u];rw[Io s,Ie (by omega),d,t];exact⟨g,i⟩
     .refine(Tg c a w b L M h k r l j hf hd d hdd p (p%a.size) (by rw[v,hp']) A x s).mono fun e q ⟨g,i⟩=>?_
      simp only[DM.add,o,u];rw[Ie s,d];exact⟨g,i⟩
  | true =>
   have u:M.tries a.size=some (a.size:Int):=by simp[DM.tries,hd]
   by_cases s:M.Cz.2.2.left<a.size
   .rcases M.BS with d|d
    .refine(Qs c a w b L M h k r l j hf hd d m t (by omega)).mono fun e q ⟨g,i⟩=>?_
     simp only[DM.add,o,u];rw[Io s,Io d,t];exact⟨g,i⟩
    .refine(Qr c a w b L M h k r l j hf hd d m t (by omega)).mono fun e q ⟨g,i⟩=>?_
     simp only[DM.add,o,u];rw[Io s,Ie (by omega),d,t];exact⟨g,i⟩
   .refine(PX c a w b L M h k r l j hf hd s).mono fun e q ⟨g,i⟩=>?_
    simp only[DM.add,o,u];rw[Ie s];have:a.extract 0 ((a.size:Int).toNat)=a:=by simp
    rw[this];exact⟨g,i⟩
end Go.Proofs.YtkhnggkkiefcdaaGreatDoor
