/- larder: joined texts -/
import Derived.Test.YtkhnggkkiefcdaaGreatDoorUNAA
import Derived.Test.YtkhnggkkiefcdaaGreatDoorUNAB
import Derived.Deep.RegionLaw
namespace Go.Proofs.YtkhnggkkiefcdaaGreatDoor
open Go.RowKit
set_option maxRecDepth 100000
set_option maxHeartbeats 8000000
structure DStep(b:Nat)(L:DL)(M:DM)(w:World)(L':DL)(M':DM)(w':World):Prop where
 Bt:DRep w' b L' M'
 fr:Fr (Foot b L M) w w'
 BF:∀ k,Foot b L' M' k->Foot b L M k\/w.heap.size<=k
theorem DStep.trans{b:Nat}{c e g:DL}{o M2 q:DM}{s w2 t:World}(h:DStep b c o s e M2 w2)(k:DStep b e M2 w2 g q t):DStep b c o s g q t where
 Bt:=k.Bt
 fr:=h.fr.trans' k.fr (fun i r x=>by
  rcases h.BF i x with a|a
  .exact a
  .omega)
 BF:=fun i r=>by
  rcases k.BF i r with a|a
  .exact h.BF i a
  .exact .inr (Im h.fr.size a)
theorem DStep.own{b:Nat}{L:DL}{M M':DM}{w w':World}(h:DRep w' b L M')(f:Fr (fun k=>k=b) w w')
 (a:M'.ids=M.ids):DStep b L M w L M' w' where
 Bt:=h
 fr:=f.mono (fun k _ e=>by subst e;exact .Bi)
 BF:=fun k j=>.inl (by
  cases j using Foot.elim with
  | blk=>exact .Bi
  | dir e=>exact .dir e
  | safe e=>exact .safe e
  | ch e=>exact .ch e
  | chs i c e=>exact .Bl i c e
  | file e=>exact .file (a▸e)
  | row f g e=>exact .row f (a▸g) e)
theorem DM.Bm(M:DM):M.Bg.2.2.dir=M.dir/\M.Bg.2.2.safe=M.safe/\M.Bg.2.2.Bl=M.Bl/\M.Bg.2.2.file=M.file/\M.Bg.2.2.ids=M.ids /\
 M.Bg.2.2.room=M.room/\M.Bg.2.2.part=M.part/\M.Bg.2.2.Bo=M.Bo/\M.Bg.2.2.cut=M.cut/\M.Bg.2.2.fail=M.fail:=by
 unfold DM.Bg;dsimp only;(repeat' split) <;> exact⟨rfl,rfl,rfl,rfl,rfl,rfl,rfl,rfl,rfl,rfl⟩
theorem DM.AA(M:DM):M.Bg.2.1=0\/M.Bg.2.1=9:=by
 unfold DM.Bg;dsimp only;(repeat' split) <;> simp
theorem zR(w:World)(b:Nat)(L:DL)(M:DM)(h:DRep w b L M) :
 Calls Tryz.prog 209 #[.pointer (some ⟨b,0,none⟩)] w fun e w' =>
  e=.returned (.tuple #[.bool M.Bg.1,.int .i64 M.Bg.2.1])/\DStep b L M w L M.Bg.2.2 w' :=
 (Qp w b L M h).mono fun _ _ ⟨a,c,g⟩=>⟨a,.own c g M.Bm.2.2.2.2.1⟩
def DM.Bx(M:DM):Int × DM :=
 (M.Bg.2.1,if M.Bg.2.1=0 then {M.Bg.2.2 with safe:=M.Bg.2.2.dir,Bl:=[]} else M.Bg.2.2)
theorem DRep.synced{w w':World}{b:Nat}{L:DL}{M:DM}(h:DRep w b L M)
 (l:Blk w' b (({M with safe:=M.dir,Bl:=[]}:DM).cells {L with BB:=L.BN,Au:=.slice none 0 0,BH:=[]}) 143)(f:Fr (fun k=>k=b) w w') :
 DRep w' b {L with BB:=L.BN,Au:=.slice none 0 0,BH:=[]} {M with safe:=M.dir,Bl:=[]} where
 Bi:=l
 dir:=ze h.dir f fun _ e c=>by subst c;exact zi h.dir h.Bi (by decide) e
 safe:=ze h.dir f fun _ e c=>by subst c;exact zi h.dir h.Bi (by decide) e
 ch:=IX w' 0 _ _
 Ar:=rfl
 Bl:=fun i j=>absurd j (Hj _)
 files:=fun g a=>(h.files g a).fr f ((h.files g a).ne h.Bi (by decide))
 rows:=fun g a=>ze (h.rows g a) f fun _ e c=>by subst c;exact zi (h.rows g a) h.Bi (by decide) e
 sep:=h.sep
 le:=h.le
 Ad:=h.Ad
 AW:=h.Ad
 AU:=fun d m=>by cases m
theorem Rs(w:World)(b:Nat)(L:DL)(M:DM)(h:DRep w b L M) :
 Calls Tryz.prog 168 #[.pointer (some ⟨b,0,none⟩)] w fun e w' =>
  e=.returned (.int .i64 M.Bx.1)/\∃ q,DStep b L M w q M.Bx.2 w':=by
 have g:=Z (zR w b L M h);have t:=Z h;clear h;rcases M.AA with d|d
 .have HM:Hid (M.Bx=(0,{M.Bg.2.2 with safe:=M.Bg.2.2.dir,Bl:=[]})):=by simp[Hid,DM.Bx,d]
  rw[d] at g;clear d;go_enter Tryz.func168,Tryz.ntmps168;go_wp2_with fail;refine g.out.mono ?_;rintro e o ⟨rfl,c⟩;have l:=c.Bt.Bi.cell;have m:=c.Bt.Bi.frozen;simp only[DM.cells] at l;obtain⟨a,r,j⟩:=zg c.Bt.dir;rw[j] at l;have p:=Z j;clear j
  go_wp2
  go_ret;rw[HM.out,<- p.out];refine⟨rfl,{L with BB:=L.BN,Au:=.slice none 0 0,BH:=[]},c.trans ⟨?_,?_,?_⟩⟩
  .have:=c.Bt.synced (w':=(o.setCell ⟨b,1,none⟩ L.BN).setCell ⟨b,2,none⟩ (.slice none 0 0)) ((c.Bt.Bi.set 1 L.BN).set 2 (.slice none 0 0)) (by repeat' first|exact U _ _|(with_reducible assumption)|refine Fr.drewN ?_ _|refine Fr.drew ?_|refine Fr.alloc ?_ _|refine Fr.set ?_ ?_ _|(intro _;rfl))
   exact this
  .exact Fr.set (Fr.set (U _ _) (fun _=>.Bi) _) (fun _=>.Bi) _
  .intro k hk
   refine .inl ?_;cases hk using Foot.elim with
   | blk=>exact .Bi
   | dir e=>exact .dir e
   | safe e=>exact .dir e
   | ch e=>simp[Value.ownBlock] at e
   | chs i s e=>exact absurd s (Hj _)
   | file e=>exact .file e
   | row f m e=>exact .row f m e
 .have HM:Hid (M.Bx=(9,M.Bg.2.2)):=by simp[Hid,DM.Bx,d]
  rw[d] at g;clear d;go_enter Tryz.func168,Tryz.ntmps168
  go_wp2_with (go_at_call 209;refine g.out.mono ?_;rintro e o ⟨rfl,c⟩)
  go_ret;rw[HM.out];exact⟨rfl,_,c⟩
def DM.Br(M:DM)(f:Nat)(x:FM):DM:={M with file:=fun g=>if g=f then x else M.file g}
theorem DRep.xh{w l:World}{b:Nat}{L:DL}{M:DM}(h:DRep w b L M){f:Nat}{s:Nat}(p:s<=(M.file f).bytes.length)
 (o:Blk l f [L.fV f,.int .i64 s] 152)(fr:Fr (fun k=>k=f) w l)(c:f∈M.ids) :
 DRep l b L (M.Br f {M.file f with safe:=s}) where
 Bi:=h.Bi.fr fr ((h.Bi).ne (h.files f c) (by decide))
 dir:=ze h.dir fr fun _ e a=>by subst a;exact zi h.dir (h.files _ c) (by decide) e
 safe:=ze h.safe fr fun _ e a=>by subst a;exact zi h.safe (h.files _ c) (by decide) e
 ch:=ze h.ch fr fun _ e a=>by subst a;exact zi h.ch (h.files _ c) (by decide) e
 Ar:=h.Ar
 Bl:=fun i j m=>ze (h.Bl i j m) fr fun _ e a=>by subst a;exact zi (h.Bl i j m) (h.files _ c) (by decide) e
 files:=fun g d=>by
  by_cases e:g=f
  .subst e;simpa [DM.Br] using o
  .have:=(h.files g d).fr fr e
   simpa [DM.Br,e] using this
 rows:=fun g d=>by
  have j:=ze (h.rows g d) fr fun _ e a=>by subst a;exact zi (h.rows g d) (h.files _ c) (by decide) e
  by_cases e:g=f
  .subst e;simpa [DM.Br] using j
  .simpa [DM.Br,e] using j
 sep:=h.sep
 le:=fun g d=>by
  by_cases e:g=f
  .subst e;simpa [DM.Br] using p
  .simpa [DM.Br,e] using h.le g d
 Ad:=h.Ad
 AW:=h.AW
 AU:=h.AU
def DM.sync(M:DM)(a:ByteArray):Int × DM :=
 match M.dir.look a with
 | none=>(11,M)
 | some f=>(M.Bg.2.1,if M.Bg.2.1=0 then M.Bg.2.2.Br f {M.Bg.2.2.file f with safe:=(M.Bg.2.2.file f).bytes.length} else M.Bg.2.2)
theorem Tq(a:ByteArray)(w:World)(b:Nat)(L:DL)(M:DM)(h:DRep w b L M) :
 Calls Tryz.prog 167 #[.pointer (some ⟨b,0,none⟩),.string a] w fun e O =>
  e=.returned (.int .i64 (M.sync a).1)/\∃ I,DStep b L M w I (M.sync a).2 O:=by
 have s:=h.Bi.cell;simp only[DM.cells] at s;have x:=zG h.dir;unfold maxLen at x;have m:=Z h;rcases Yv M.dir a with⟨l,p⟩|⟨k,q,l,p,_⟩
 .have HM:Hid (M.sync a=(11,M)):=by simp[Hid,DM.sync,p]
  have u:=Z l;clear h l p;go_enter Tryz.func167,Tryz.ntmps167
  go_wp2_with (go_at_call 87;refine(Yr u.out _ m.out.dir).mono ?_;rintro e y ⟨rfl,d⟩)
  go_ret;rw[HM.out];exact⟨rfl,_,m.out.fr d (fun _ _=>id),d.mono (fun _ _=>False.elim),fun k q=>.inl q⟩
 .rcases M.AA with h0|h0
  .have HM:Hid (M.sync a=(0,M.Bg.2.2.Br M.dir[k].2 {M.Bg.2.2.file M.dir[k].2 with safe:=(M.Bg.2.2.file M.dir[k].2).bytes.length})):=by simp[Hid,DM.sync,p,h0]
   have u:=Z l;have A:=Z h0;clear h l p h0;go_enter Tryz.func167,Tryz.ntmps167;go_wp2_with fail;refine(zT u.out _ m.out.dir).mono ?_;rintro e y ⟨rfl,d⟩;clear s;go_wp2_with fail;have v:=zR y b L M (m.out.fr d (fun _ _=>id));rw[A.out] at v;refine v.mono ?_;rintro e Q ⟨rfl,o⟩;have s:=o.Bt.Bi.cell;simp only[DM.cells] at s;have D:k<M.Bg.2.2.dir.length:=by rw[M.Bm.1];exact q
   have E:M.Bg.2.2.dir[k].2=M.dir[k].2:=by simp[M.Bm.1]
   obtain⟨g,J,n,c,G,t,_,N,r⟩:=o.Bt.entry D;rw[E] at t N r;have C:=(o.Bt.files _ t).cell;have K:=(o.Bt.files _ t).frozen;rw[r] at C;rw[G] at s;have B:=Z o;clear o r G E;go_wp2_with fail
   go_region
   go_wp2
   go_ret;rw[HM.out];refine⟨rfl,L,DStep.trans ⟨m.out.fr d (fun _ _=>id),d.mono (fun _ _=>False.elim),fun k q=>.inl q⟩ (B.out.trans ⟨?_,?_,?_⟩)⟩
   .exact B.out.Bt.xh (Io _) (((B.out.Bt.files _ t).set 1 _).drew) (by repeat' first|exact U _ _|(with_reducible assumption)|refine Fr.drewN ?_ _|refine Fr.drew ?_|refine Fr.alloc ?_ _|refine Fr.set ?_ ?_ _|(intro _;rfl)) t
   .exact Fr.drew (Fr.set (U _ _) (fun _=>.file t) _)
   .intro j hj
    refine .inl ?_;cases hj using Foot.elim with
    | blk=>exact .Bi
    | dir e=>exact .dir e
    | safe e=>exact .safe e
    | ch e=>exact .ch e
    | chs i l e=>exact .Bl i l e
    | file e=>exact .file e
    | row f d e=>exact .row f d e
  .have HM:Hid (M.sync a=(9,M.Bg.2.2)):=by simp[Hid,DM.sync,p,h0]
   have u:=Z l;have A:=Z h0;clear h l p h0;go_enter Tryz.func167,Tryz.ntmps167;go_wp2_with fail;refine(zT u.out _ m.out.dir).mono ?_;rintro e y ⟨rfl,d⟩;clear s;go_wp2_with fail;have v:=zR y b L M (m.out.fr d (fun _ _=>id));rw[A.out] at v;refine v.mono ?_;rintro e Q ⟨rfl,o⟩
   go_wp2
   go_ret;rw[HM.out];exact⟨rfl,L,DStep.trans ⟨m.out.fr d (fun _ _=>id),d.mono (fun _ _=>False.elim),fun k q=>.inl q⟩ o⟩
theorem UF:((Tryz.prog.info? 145).map fun i=>(i.zero.map (·.cells.size),i.size,i.bytes))=some (some 1,1,24):=by kernel_rfl
theorem ZX:((Tryz.prog.info? 148).map fun i=>(i.zero.map (·.cells.size),i.size,i.bytes))=some (some 2,2,24):=by kernel_rfl
theorem WD:((Tryz.prog.info? 5).map fun i=>(i.zero.map (·.cells.size),i.size,i.bytes))=some (some 1,1,1):=by kernel_rfl
def DM.Bu(M:DM)(d:Dir):DM:={M with dir:=d,Bl:=M.Bl++[d]}
def DL.Bu(L:DL)(v a:Value):DL:={L with BN:=v,Au:=a,BH:=L.BH++[v]}
theorem DRep.Bu{w w':World}{b:Nat}{L:DL}{M:DM}(h:DRep w b L M){d:Dir}{v j:Value}
 (B:Blk w' b ((M.Bu d).cells (L.Bu v j)) 143)(u:w.ownsRow 0 148 2 v d.length (flat d))
 (p:w'.ownsRow 0 145 1 j (M.Bl.length+1) (L.BH++[v]))(f:Fr (fun k=>k=b\/L.Au.ownBlock=some k) w w')
 (s:∀ e,e∈d->e.2∈M.ids):DRep w' b (L.Bu v j) (M.Bu d):=by
 have m:∀ {v:Value} {n:Nat} {x:List Value},w.ownsRow 0 148 2 v n x->w'.ownsRow 0 148 2 v n x:=fun t =>
  ze t f fun k e l=>by
   rcases l with rfl|l
   .exact zi t h.Bi (by decide) e
   .exact Zb t h.ch (by decide) e l
 exact {
  Bi:=B
  dir:=m u
  safe:=m h.safe
  ch:=by
   have:(M.Bu d).Bl.length=M.Bl.length+1:=by simp[DM.Bu]
   rw[this];exact p
  Ar:=by simp[DM.Bu,DL.Bu,h.Ar]
  Bl:=fun i y A=>by
   simp only[DM.Bu,DL.Bu,Il,Iz,Ho] at y A;by_cases a:i<M.Bl.length
   .have q:(L.Bu v j).BH[i]=L.BH[i]'(by rw[h.Ar];exact a):=by simp[DL.Bu,h.Ar,a]
    have r:(M.Bu d).Bl[i]=M.Bl[i]:=by simp[DM.Bu,a]
    rw[q,r];exact m (h.Bl i _ a)
   .have s:i=M.Bl.length:=by omega
    have q:(L.Bu v j).BH[i]=v:=by simp[DL.Bu,List.getElem_append,h.Ar,a]
    have r:(M.Bu d).Bl[i]=d:=by simp[DM.Bu,List.getElem_append,a]
    rw[q,r];exact m u
  files:=fun g o=>(h.files g o).fr f fun l=>by
   rcases l with e|l
   .exact(h.files g o).ne h.Bi (by decide) e
   .exact zi h.ch (h.files g o) (by decide) l
  rows:=fun g o=>ze (h.rows g o) f fun k e l=>by
   rcases l with rfl|l
   .exact zi (h.rows g o) h.Bi (by decide) e
   .exact Zb (h.rows g o) h.ch (by decide) e l
  sep:=h.sep
  le:=h.le
  Ad:=s
  AW:=h.AW
  AU:=fun c p=>by
   simp only[DM.Bu,Ir,Iv] at p;rcases p with p|rfl
   .exact h.AU c p
   .exact s}
theorem Xy(v:Value)(d:Dir)(w:World)(b:Nat)(L:DL)(M:DM)(h:DRep w b L M)(B:w.ownsRow 0 148 2 v d.length (flat d))
 (Q:∀ e,e∈d->e.2∈M.ids)(X:M.Bl.length+1<=1000000000000) :
 Calls Tryz.prog 219 #[.pointer (some ⟨b,0,none⟩),v] w fun e w' =>
  e=.returned (.tuple #[])/\∃ o,DRep w' b (L.Bu v o) (M.Bu d)/\Fr (fun k=>k=b\/L.Au.ownBlock=some k) w w'/\(o.ownBlock=L.Au.ownBlock\/∃ k,o.ownBlock=some k/\w.heap.size<=k):=by
 have y:=h.Bi.cell;have N:=h.Bi.frozen;simp only[DM.cells] at y;obtain⟨a,i,D⟩:=zg B;obtain⟨V,G,l⟩:=zg h.ch;have R:=h.Bi.lt;rw[l] at y;have m:=Z h;have J:=Z B;have K:=Z D;have t:=Z l;clear h B;rw[D];have C:=(ze m.out.ch (w':=(w.setCell ⟨b,0,none⟩ (.slice a d.length i)).alloc (.cells #[.slice a d.length i] 145)) (S:=fun k=>k=b) (by repeat' first|exact U _ _|(with_reducible assumption)|refine Fr.drewN ?_ _|refine Fr.drew ?_|refine Fr.alloc ?_ _|refine Fr.set ?_ ?_ _|(intro _;rfl))
  (fun k e p=>by subst p;exact zi m.out.ch m.out.Bi (by decide) e))
 rw[l] at C;clear D l;go_enter Tryz.func219,Tryz.ntmps219
 go_wp2_with (at_builtin;go_must (refine zJ rfl _ _ _ _ rfl _ _ (by rfl) (by rfl) (zt (w:=_) 141 _ 145 1 24 Tryz.underlying141 UF (by decide) _ _ _ C
  ⟨w.heap.size,0,none⟩ 1 1 [.slice a d.length i] rfl (Yq _ _ _ _ (by simp)) (by intro u I;simp at I;subst I;rfl) (by unfold maxLen;omega) (by omega)) ?_))
 intro Y w' c;have j:Blk w' b ((M.cells L).set 0 (.slice a d.length i)) 143 :=
  ((m.out.Bi.set 0 _).alloc _).fr c.fr (by rw[<- t.out];exact zi m.out.ch m.out.Bi (by decide))
 have A:=j.cell;have O:=j.frozen;simp only[DM.cells,List.set] at A;obtain⟨x,g,r⟩:=zg c.own;have s:=Z c;have E:=Z j;have T:=Z r;clear c j y N C;subst r
 go_wp2
 go_end0
 refine⟨rfl,.slice x (M.Bl.length+1) g,?_⟩;have q:Fr (fun k=>k=b\/L.Au.ownBlock=some k) w (w'.setCell ⟨b,2,none⟩ (.slice x (M.Bl.length+1) g)):=by
  refine Fr.set (Fr.trans' (Fr.alloc (Fr.set (U _ w) (fun _=>.inl rfl) _) _) s.out.fr ?_) (fun _=>.inl rfl) _;intro k _ p;rw[<- t.out] at p;exact .inr p
 rw[<- K.out] at *;refine⟨m.out.Bu ?_ J.out ?_ q Q,q,?_⟩
 .have:=E.out.set 2 (.slice x (M.Bl.length+1) g)
  exact this
 .have:=s.out.own
  refine ze this (S:=fun k=>k=b) (by repeat' first|exact U _ _|(with_reducible assumption)|refine Fr.drewN ?_ _|refine Fr.drew ?_|refine Fr.alloc ?_ _|refine Fr.set ?_ ?_ _|(intro _;rfl)) (fun k e p=>by subst p;exact zi this E.out (by decide) e)
 .rcases s.out.at_ with h1|h1
  .exact .inl (by rw[h1,t.out])
  .exact .inr ⟨_,h1,by simp⟩
theorem UV(d:Dir):∀ u∈flat d,u.oneCell'=true:=by
 induction d with
 | nil=>intro u a;cases a
 | cons e d c =>
  intro u a;simp only[flat,Gt,Ir,IW,Fk,Dw] at a c;rcases a with(rfl|rfl)|a
  .rfl
  .rfl
  .exact c u a
theorem X1(d a:Dir):flat (d++a)=flat d++flat a:=by simp[flat]
def DM.Bv(M:DM)(f:Nat):DM:={M with ids:=f::M.ids,file:=fun g=>if g=f then⟨[],0⟩ else M.file g}
def DL.Bv(L:DL)(f:Nat):DL:={L with fV:=fun g=>if g=f then .slice none 0 0 else L.fV g}
theorem DRep.Bv{w:World}{b:Nat}{L:DL}{M:DM}(h:DRep w b L M){f:Nat}(o:Blk w f [.slice none 0 0,.int .i64 0] 152)(p:f∉M.ids) :
 DRep w b (L.Bv f) (M.Bv f):=by
 have ne:∀ g,g∈M.ids->g≠f:=fun g a e=>p (e▸a);exact {
  Bi:=h.Bi
  dir:=h.dir
  safe:=h.safe
  ch:=h.ch
  Ar:=h.Ar
  Bl:=h.Bl
  files:=fun g a=>by
   rcases IW.1 a with rfl|a
   .simpa [DM.Bv,DL.Bv] using o
   .simpa [DM.Bv,DL.Bv,ne g a] using h.files g a
  rows:=fun g a=>by
   rcases IW.1 a with rfl|a
   .simpa [DM.Bv,DL.Bv,u8s] using IX w 0 5 1
   .simpa [DM.Bv,DL.Bv,ne g a] using h.rows g a
  sep:=fun g a l c e k j=>by
   rcases IW.1 a with rfl|a
   .simp[DL.Bv,Value.ownBlock] at j
   .rcases IW.1 c with rfl|c
    .simp[DL.Bv,Value.ownBlock]
    .simp only[DL.Bv,ne g a,ne l c,Hy] at j |-
     exact h.sep g a l c e k j
  le:=fun g a=>by
   rcases IW.1 a with rfl|a
   .simp[DM.Bv]
   .simpa [DM.Bv,ne g a] using h.le g a
  Ad:=fun e i=>Iq _ (h.Ad e i)
  AW:=fun e i=>Iq _ (h.AW e i)
  AU:=fun d m e i=>Iq _ (h.AU d m e i)}
def DM.create(M:DM)(a:ByteArray)(f:Nat):Int × DM :=
 if a=ByteArray.empty\/(M.dir.look a).isSome=true then(11,M)
 else(M.Bg.2.1,if M.Bg.1=true then(M.Bg.2.2.Bv f).Bu (M.Bg.2.2.dir++[(a,f)]) else M.Bg.2.2)
theorem O8(a:ByteArray)(w:World)(b:Nat)(L:DL)(M:DM)(h:DRep w b L M)(f:a=ByteArray.empty\/(M.dir.look a).isSome=true) :
 Calls Tryz.prog 211 #[.pointer (some ⟨b,0,none⟩),.string a] w fun e o =>
  e=.returned (.int .i64 11)/\Fr Nil w o:=by
 have j:=h.Bi.cell;simp only[DM.cells] at j;by_cases c:a=ByteArray.empty
 .subst c
  go_enter Cx,Cc
  go_wp2
  go_ret;exact⟨rfl,U _ _⟩
 .have hn':(M.dir.look a).isSome=true:=by rcases f with h|h;exact absurd h c;exact h
  rcases Yv M.dir a with⟨_,i⟩|⟨k,p,d,_,_⟩
  .rw[i] at hn';cases hn'
  .have HH:=Z h
   have g:=Z d;have l:a.toList.isEmpty=false:=by
    cases h':a.toList.isEmpty with
    | false=>rfl
    | true=>exact absurd ((toList_nil_iff_emptyBytes a).1 (by simpa using h')) c
   clear f hn' h d;go_enter Cx,Cc
   go_wp2_with (go_at_call 87;refine(zT g.out _ HH.out.dir).mono ?_;rintro e q ⟨rfl,m⟩)
   go_ret;exact⟨rfl,m⟩
theorem V4{a:ByteArray}(c:¬a=ByteArray.empty):a.toList.isEmpty=false:=by
 cases h':a.toList.isEmpty with
 | false=>rfl
 | true=>exact absurd ((toList_nil_iff_emptyBytes a).1 (by simpa using h')) c
theorem DStep.look{w a:World}{b:Nat}{L:DL}{M:DM}(h:DRep w b L M)(f:Fr Nil w a):DStep b L M w L M a :=
 ⟨h.fr f (fun _ _=>id),f.mono (fun _ _=>False.elim),fun _ c=>.inl c⟩
theorem Foot.AN{b:Nat}{L:DL}{M:DM}{f k:Nat}(h:Foot b (L.Bv f) (M.Bv f) k):k=f\/Foot b L M k:=by
 cases h using Foot.elim with
 | blk=>exact .inr .Bi
 | dir e=>exact .inr (.dir e)
 | safe e=>exact .inr (.safe e)
 | ch e=>exact .inr (.ch e)
 | chs i j e=>exact .inr (.Bl i j e)
 | file e =>
  rcases IW.1 e with e|e
  .exact .inl e
  .exact .inr (.file e)
 | row g c e =>
  by_cases a:g=f
  .simp[DL.Bv,a,Value.ownBlock] at e
  .simp only[DL.Bv,a,Hy] at e
   rcases IW.1 c with c|c
   .exact absurd c a
   .exact .inr (.row g c e)
theorem Foot.AY{b:Nat}{L:DL}{M:DM}{v cv:Value}{d:Dir}{k:Nat}(h:Foot b (L.Bu v cv) (M.Bu d) k) :
 v.ownBlock=some k\/cv.ownBlock=some k\/Foot b L M k:=by
 cases h using Foot.elim with
 | blk=>exact .inr (.inr .Bi)
 | dir e=>exact .inl e
 | safe e=>exact .inr (.inr (.safe e))
 | ch e=>exact .inr (.inl e)
 | chs i c e =>
  simp only[DL.Bu,DA] at e;split at e
  .exact .inr (.inr (.Bl i _ e))
  .simp at e;exact .inl e
 | file e=>exact .inr (.inr (.file e))
 | row g a e=>exact .inr (.inr (.row g a e))
theorem NS(a:ByteArray)(w:World)(b:Nat)(L:DL)(M:DM)(h:DRep w b L M)(i:¬a=ByteArray.empty)(f:zP M.dir a=-1)(g:M.Bg.1=false) :
 Calls Tryz.prog 211 #[.pointer (some ⟨b,0,none⟩),.string a] w fun e q =>
  e=.returned (.int .i64 M.Bg.2.1)/\DStep b L M w L M.Bg.2.2 q:=by
 have m:=h.Bi.cell;simp only[DM.cells] at m;have c:=Z h;have k:=Z f;have l:=Z g;have o:=V4 i;clear h f g i;go_enter Cx,Cc;go_wp2_with fail;refine(Yr k.out _ c.out.dir).mono ?_;rintro e r ⟨rfl,j⟩;go_wp2_with fail;have d:=zR r b L M (c.out.fr j (fun _ _=>id));rw[l.out] at d;refine d.mono ?_;rintro e s ⟨rfl,p⟩
 go_wp2
 go_ret;exact⟨rfl,(DStep.look c.out j).trans p⟩
theorem O9(a:ByteArray)(w:World)(b:Nat)(L:DL)(M:DM)(h:DRep w b L M)(i:¬a=ByteArray.empty)(Q:zP M.dir a=-1)(hd:M.Bg.1=true)
 (hn:M.Bl.length+1<=1000000000000)(hm:M.dir.length+1<=1000000000000) :
 Calls Tryz.prog 211 #[.pointer (some ⟨b,0,none⟩),.string a] w fun e w' =>
  e=.returned (.int .i64 M.Bg.2.1)/\∃ f L',w.heap.size<=f/\f<w'.heap.size/\DStep b L M w L' ((M.Bg.2.2.Bv f).Bu (M.Bg.2.2.dir++[(a,f)])) w':=by
 have C:=h.Bi.cell;simp only[DM.cells] at C;have Y:=Z h;have H1:=Z Q;have HD:=Z hd;have b1:=V4 i;clear h Q hd i;go_enter Cx,Cc;go_wp2_with fail;refine(Yr H1.out _ Y.out.dir).mono ?_;rintro e w1 ⟨rfl,hf⟩;go_wp2_with fail;have HB:=zR w1 b L M (Y.out.fr hf (fun _ _=>id));rw[HD.out] at HB;refine HB.mono ?_;rintro e O ⟨rfl,hs⟩;clear C;have C:=hs.Bt.Bi.cell;simp only[DM.cells] at C;have g:=M.Bm;have a7:M.Bg.2.2.dir.length+1<=1000000000000:=by rw[g.1];exact hm
 have t:M.Bg.2.2.Bl.length+1<=1000000000000:=by rw[g.2.2.1];exact hn
 clear g;have y:=Z hs;clear hs
 go_wp2_with (at_builtin;go_must (refine zJ rfl _ _ _ _ rfl _ _ (by rfl) (by rfl) (Xu 140 _ 148 2 24 GR ZX (by decide) _ _ _ (IX _ 0 _ _) _ _ _ y.out.Bt.dir (UV _) (by unfold maxLen;omega) (by omega)) ?_))
 intro v1 c R;have A:=Z R;obtain⟨a1,c1,a6⟩:=zg R.own;have p:Fr Nil O c:=R.fr.mono (fun _ _ h=>by simp[Value.ownBlock] at h);have G:=y.out.Bt.fr p (fun _ _=>id);have s:=Z G;clear R G C;subst a6;have hh:b<c.heap.size:=s.out.Bi.lt
 -- the file's own block,the entry's,then the entry behind the others
 have r:((c.alloc (.cells #[.slice none 0 0,.int .i64 0] 152)).alloc (.cells #[.string a,.pointer (some ⟨c.heap.size,0,none⟩)] 148)).ownsRow 0 148 2
  (.slice a1 M.Bg.2.2.dir.length c1) M.Bg.2.2.dir.length (flat M.Bg.2.2.dir):=(A.out.own.alloc _).alloc _
 go_wp2_with (at_builtin;go_must (refine zJ rfl _ _ _ _ rfl _ _ (by rfl) (by rfl) (zt 140 _ 148 2 24 GR ZX (by decide) _ _ _ r
  ⟨c.heap.size+1,0,none⟩ 1 1 [.string a,.pointer (some ⟨c.heap.size,0,none⟩)] rfl (Wb _ _ _ _ _ (by simp)) (by intro u hu;simp at hu;rcases hu with rfl|rfl <;> rfl) (by unfold maxLen;omega) (by omega)) ?_))
 intro S T B;have l:=Z B;clear B r;have x:DRep T b (L.Bv c.heap.size) (M.Bg.2.2.Bv c.heap.size):=by
  have a5:c.heap.size∉M.Bg.2.2.ids:=fun hi=>by
   have:=(s.out.files _ hi).lt;omega
  have h0:=(s.out.fr ((U Nil c).alloc (.cells #[.slice none 0 0,.int .i64 0] 152)) (fun _ _=>id)).Bv (f:=c.heap.size) (Blk.new c [.slice none 0 0,.int .i64 0] _) a5;have Q:=h0.fr ((U Nil _).alloc (.cells #[.string a,.pointer (some ⟨c.heap.size,0,none⟩)] 148)) (fun _ _=>id);refine Q.fr l.out.fr ?_;intro k g i;have a9:k=O.heap.size:=by
   rcases A.out.at_ with h|h
   .rw[h] at i;simp[Value.ownBlock] at i
   .rw[h] at i;simpa using i.symm
  have b0:O.heap.size<c.heap.size:=by
   have:=own_lt A.out.own (k:=k) i;omega
  rcases g.AN with h|h
  .omega
  .have:=y.out.Bt.lt h
   omega
 have N:∀ k,S.ownBlock=some k->O.heap.size<=k:=by
  intro k g;rcases l.out.at_ with h|h
  .rw[h] at g
   rcases A.out.at_ with m|m
   .rw[m] at g;simp[Value.ownBlock] at g
   .rw[m] at g;simp at g;omega
  .rw[h] at g
   simp at g;have:=p.size;omega
 have a4:Fr Nil O T:=by
  refine Fr.trans' (Fr.alloc (Fr.alloc p _) _) l.out.fr ?_;intro k g i;rcases A.out.at_ with m|m
  .rw[m] at i;simp[Value.ownBlock] at i
  .rw[m] at i;simp at i;omega
 have J:=l.out.fr.size;simp only[FE] at J;have K:(M.Bg.2.2.dir++[(a,c.heap.size)]).length=M.Bg.2.2.dir.length+1:=by simp
 have o:T.ownsRow 0 148 2 S (M.Bg.2.2.dir++[(a,c.heap.size)]).length (flat (M.Bg.2.2.dir++[(a,c.heap.size)])):=by
  rw[K,X1];exact l.out.own
 have q:∀ e,e∈M.Bg.2.2.dir++[(a,c.heap.size)]->e.2∈(M.Bg.2.2.Bv c.heap.size).ids:=by
  intro e i;simp only[Ir,Iv] at i;rcases i with i|rfl
  .exact Iq _ (y.out.Bt.Ad e i)
  .exact Is ..
 have HT:=Xy S (M.Bg.2.2.dir++[(a,c.heap.size)]) T b _ _ x o q t;have a2:=Z HT;have a8:=Z x;clear HT x o q K;go_wp2_with fail;refine a2.out.mono ?_;rintro e w5 ⟨rfl,cv,I,E,D⟩;have a0:=Z I;have j:=fun k=>Foot.AY (b:=b) (L:=L.Bv c.heap.size) (M:=M.Bg.2.2.Bv c.heap.size) (v:=S) (cv:=cv) (d:=M.Bg.2.2.dir++[(a,c.heap.size)]) (k:=k);have X:=Z j;have V:=Z D;have a3:=Z N;clear I j D N
 go_wp2
 go_ret;have b3:=y.out.fr.size;have b2:=hf.size;have b4:=p.size;have b5:=E.size;refine⟨rfl,c.heap.size,_,by omega,by omega,(DStep.look Y.out hf).trans (y.out.trans ⟨a0.out,?_,?_⟩)⟩
 .refine Fr.trans' (a4.mono (fun _ _=>False.elim)) E ?_
  intro k _ g;rcases g with rfl|g
  .exact .Bi
  .exact .ch g
 .intro k g
  rcases X.out k g with h|h|h
  .exact .inr (a3.out k h)
  .rcases V.out with m|⟨k',m,hle⟩
   .rw[m] at h;exact .inl (.ch h)
   .rw[m] at h;simp at h;omega
  .rcases h.AN with h|h
   .omega
   .exact .inl h
theorem DRep.grow{w s:World}{b:Nat}{L:DL}{M:DM}(h:DRep w b L M){f:Nat}(p:f∈M.ids){v:Value}{y:List UInt8}
 (G:Blk s f [v,.int .i64 (M.file f).safe] 152)(I:s.ownsRow 0 5 1 v ((M.file f).bytes++y).length (u8s ((M.file f).bytes++y)))
 (fr:Fr (fun k=>k=f\/(L.fV f).ownBlock=some k) w s)(u:∀ k,v.ownBlock=some k->(L.fV f).ownBlock=some k\/w.heap.size<=k) :
 DRep s b {L with fV:=fun g=>if g=f then v else L.fV g} (M.Br f {M.file f with bytes:=(M.file f).bytes++y}):=by
 have B:∀ {k:Nat} {c:List Value} {t:TypeId},Blk w k c t->t≠152->t≠5->Blk s k c t:=fun q l m =>
  q.fr fr fun a=>by
   rcases a with e|a
   .exact q.ne (h.files f p) l e
   .exact zi (h.rows f p) q m a
 have d:∀ {e:TypeId} {D:Nat} {v:Value} {n:Nat} {E:List Value},w.ownsRow 0 e D v n E->e≠152->e≠5->s.ownsRow 0 e D v n E:=fun q l m =>
  ze q fr fun k e a=>by
   rcases a with rfl|a
   .exact zi q (h.files k p) (Da l) e
   .exact Zb q (h.rows f p) m e a
 exact {
  Bi:=B h.Bi (by decide) (by decide)
  dir:=d h.dir (by decide) (by decide)
  safe:=d h.safe (by decide) (by decide)
  ch:=d h.ch (by decide) (by decide)
  Ar:=h.Ar
  Bl:=fun i l m=>d (h.Bl i l m) (by decide) (by decide)
  files:=fun g j=>by
   by_cases e:g=f
   .subst e;simpa [DM.Br] using G
   .have:=(h.files g j).fr fr (fun a=>by
     rcases a with a|a
     .exact e a
     .exact zi (h.rows f p) (h.files g j) (by decide) a)
    simpa [DM.Br,e] using this
  rows:=fun g j=>by
   by_cases e:g=f
   .subst e;simpa [DM.Br] using I
   .have:=ze (h.rows g j) fr (fun k C a=>by
     rcases a with rfl|a
     .exact zi (h.rows g j) (h.files k p) (by decide) C
     .exact h.sep g j f p e k C a)
    simpa [DM.Br,e] using this
  sep:=fun g j r o e k a=>by
   by_cases A:g=f
   .subst A
    have x:¬r=g:=fun h=>e h.symm;simp only[Gh,x,Hy] at a |-;rcases u k a with l|l
    .exact h.sep g j r o e k l
    .intro m
     have:=own_lt (h.rows r o) m;omega
   .by_cases x:r=f
    .subst x
     simp only[A,Hy,Gh] at a |-;intro m;rcases u k m with l|l
     .exact h.sep g j r o e k a l
     .have:=own_lt (h.rows g j) a
      omega
    .simp only[A,x,Hy] at a |-
     exact h.sep g j r o e k a
  le:=fun g j=>by
   by_cases e:g=f
   .subst e
    have:=h.le g j;simp[DM.Br];omega
   .simpa [DM.Br,e] using h.le g j
  Ad:=h.Ad
  AW:=h.AW
  AU:=h.AU}
def DM.tries(M:DM)(n:Int):Option Int :=
 if M.Bg.1=true then some n
 else if M.Bg.2.2.dead=false/\0<n then some (M.part.tmod n)
 else none
def DM.left(M:DM):Int:=if IntKind.i64.wrap (M.room-M.used)<0 then 0 else IntKind.i64.wrap (M.room-M.used)
theorem Oa(a c:ByteArray)(w:World)(b:Nat)(L:DL)(M:DM)(h:DRep w b L M)(f:zP M.dir a=-1) :
 Calls Tryz.prog 203 #[.pointer (some ⟨b,0,none⟩),.string a,.string c] w fun e k =>
  e=.returned (.int .i64 11)/\DStep b L M w L M k:=by
 have i:=h.Bi.cell;simp only[DM.cells] at i;have d:=Z h;have g:=Z f;clear h f;go_enter Eo,Eb
 go_wp2_with (go_at_call 87;refine(Yr g.out _ d.out.dir).mono ?_;rintro e l ⟨rfl,j⟩)
 go_ret;exact⟨rfl,DStep.look d.out j⟩
theorem NT(c a:ByteArray)(w:World)(b:Nat)(L:DL)(M:DM)(h:DRep w b L M)(k:Nat)(_:k<M.dir.length)(m:zP M.dir c=k)(o:M.Bg.1=false)(d:M.Bg.2.2.dead=true)(_:a.size<=1000000000000) :
 Calls Tryz.prog 203 #[.pointer (some ⟨b,0,none⟩),.string c,.string a] w fun e t =>
  e=.returned (.int .i64 M.Bg.2.1)/\DStep b L M w L M.Bg.2.2 t:=by
 have g:=h.Bi.cell;have f:=zG h.dir;unfold maxLen at f;simp only[DM.cells] at g;have j:=Z h;have r:=Z m;have s:=Z o;have i:=Z d;clear h m o d;go_enter Eo,Eb;go_wp2_with fail;refine(zT r.out _ j.out.dir).mono ?_;rintro e u ⟨rfl,p⟩;go_wp2_with fail;have l:=zR u b L M (j.out.fr p (fun _ _=>id));rw[s.out] at l;refine l.mono ?_;rintro e v ⟨rfl,q⟩;clear g;have g:=q.Bt.Bi.cell;simp only[DM.cells,i.out] at g
 go_wp2
 go_ret;exact⟨rfl,(DStep.look j.out p).trans q⟩
theorem append_nil(c a:ByteArray)(w:World)(b:Nat)(L:DL)(M:DM)(h:DRep w b L M)(k:Nat)(_:k<M.dir.length)(m:zP M.dir c=k)(o:M.Bg.1=false)(d:M.Bg.2.2.dead=false)(_:a.size=0) :
 Calls Tryz.prog 203 #[.pointer (some ⟨b,0,none⟩),.string c,.string a] w fun e t =>
  e=.returned (.int .i64 M.Bg.2.1)/\DStep b L M w L M.Bg.2.2 t:=by
 have g:=h.Bi.cell;have f:=zG h.dir;unfold maxLen at f;simp only[DM.cells] at g;have j:=Z h;have r:=Z m;have s:=Z o;have i:=Z d;clear h m o d;go_enter Eo,Eb;go_wp2_with fail;refine(zT r.out _ j.out.dir).mono ?_;rintro e u ⟨rfl,p⟩;go_wp2_with fail;have l:=zR u b L M (j.out.fr p (fun _ _=>id));rw[s.out] at l;refine l.mono ?_;rintro e v ⟨rfl,q⟩;clear g;have g:=q.Bt.Bi.cell;simp only[DM.cells,i.out] at g
 go_wp2
 go_ret;exact⟨rfl,(DStep.look j.out p).trans q⟩
theorem We(w:World)(b:Nat)(L:DL)(M:DM)(d:World)(h:DRep d b L M)(a:Fr Nil d w) :
 Calls Tryz.prog 41 #[.pointer (some ⟨b,0,none⟩)] w fun e c=>e=.returned (.int .i64 M.used)/\c.cell? ⟨b,3,none⟩=some (.int .i64 M.room)/\Fr Nil d c:=by
 refine(NJ w b L M (h.fr a (fun _ _=>id))).mono fun e c ⟨g,f⟩=>⟨g,?_,a.trans f⟩;exact((h.fr (a.trans f) (fun _ _=>id)).Bi.cell 3)
theorem Wf{w o:World}{b:Nat}{L:DL}{M:DM}(h:DRep w b L M){f:Nat}(l:f∈M.ids){n:Option Addr}{c m:Nat}{j:List UInt8}{v:Value}
 (x:L.fV f=.slice n (M.file f).bytes.length c)(G:m=j.length)
 (u:App w.drew (.slice n (M.file f).bytes.length c) 5 1 ((M.file f).bytes.length+m) (u8s (M.file f).bytes++u8s j) v o) :
 ∃ A,DStep b L M w A (M.Br f {M.file f with bytes:=(M.file f).bytes++j}) (o.setCell ⟨f,0,none⟩ v):=by
 subst G;have r:Fr (fun k=>k=f\/(L.fV f).ownBlock=some k) w (o.setCell ⟨f,0,none⟩ v):=by
  refine Fr.set (Fr.trans' (Fr.drew (U _ w)) u.fr ?_) (fun _=>.inl rfl) _;intro k _ a;exact .inr (by rw[x];exact a)
 have q:Blk o f [L.fV f,.int .i64 (M.file f).safe] 152:=by
  have D:=(h.files f l).drew;refine D.fr u.fr ?_;rw[<- x];exact zi (h.rows f l) (h.files f l) (by decide)
 have E:Blk (o.setCell ⟨f,0,none⟩ v) f [v,.int .i64 (M.file f).safe] 152:=q.set 0 v;have p:∀ k,v.ownBlock=some k->(L.fV f).ownBlock=some k\/w.heap.size<=k:=by
  intro k a;rcases u.at_ with d|d
  .rw[d] at a;exact .inl (by rw[x];exact a)
  .rw[d] at a;simp at a;exact .inr (by omega)
 have t:(o.setCell ⟨f,0,none⟩ v).ownsRow 0 5 1 v ((M.file f).bytes++j).length (u8s ((M.file f).bytes++j)):=by
  have d:=u.own;have B:u8s ((M.file f).bytes++j)=u8s (M.file f).bytes++u8s j:=by simp[u8s]
  have C:((M.file f).bytes++j).length=(M.file f).bytes.length+j.length:=by simp
  rw[B,C];exact ze d (S:=fun k=>k=f) (by repeat' first|exact U _ _|(with_reducible assumption)|refine Fr.drewN ?_ _|refine Fr.drew ?_|refine Fr.alloc ?_ _|refine Fr.set ?_ ?_ _|(intro _;rfl)) (fun k e a=>by subst a;exact zi d q (by decide) e)
 refine⟨{L with fV:=fun g=>if g=f then v else L.fV g},⟨h.grow l E t r p,r.mono ?_,?_⟩⟩
 .intro k _ a
  rcases a with rfl|a
  .exact .file l
  .exact .row f l a
 .intro k a
  cases a using Foot.elim with
  | blk=>exact .inl .Bi
  | dir e=>exact .inl (.dir e)
  | safe e=>exact .inl (.safe e)
  | ch e=>exact .inl (.ch e)
  | chs i d e=>exact .inl (.Bl i d e)
  | file e=>exact .inl (.file e)
  | row g y e =>
   by_cases s:g=f
   .subst s
    simp only[Gh] at e;rcases p k e with d|d
    .exact .inl (.row g y d)
    .exact .inr d
   .simp only[s,Hy] at e
    exact .inl (.row g y e)
theorem Ob(m a:ByteArray)(w:World)(b:Nat)(L:DL)(M:DM)(h:DRep w b L M)(k:Nat)(hk:k<M.dir.length)(h1:zP M.dir m=k)(X:a.size<=1000000000000)(Q:(M.file M.dir[k].2).bytes.length<=1000000000000)
 (hd:M.Bg.1=true)(f:¬M.Bg.2.2.left<a.size) :
 Calls Tryz.prog 203 #[.pointer (some ⟨b,0,none⟩),.string m,.string a] w fun e w' =>
  e=.returned (.int .i64 M.Bg.2.1)/\∃ K,DStep b L M w K ((M.Bg.2.2).Br M.dir[k].2 {M.Bg.2.2.file M.dir[k].2 with bytes:=(M.Bg.2.2.file M.dir[k].2).bytes++(a).data.toList}) w':=by
 have l:=h.Bi.cell;have x:=zG h.dir;unfold maxLen at x;simp only[DM.cells] at l;have G:=Z h;have H1:=Z h1;have HD:=Z hd;have HL:=Z f;clear f;clear h h1 hd;go_enter Eo,Eb;go_wp2_with fail;refine(zT H1.out _ G.out.dir).mono ?_;rintro e w1 ⟨rfl,hf⟩;go_wp2_with fail;have E:=zR w1 b L M (G.out.fr hf (fun _ _=>id));rw[HD.out] at E;refine E.mono ?_;rintro e w2 ⟨rfl,C⟩;clear l E;have l:=C.Bt.Bi.cell;simp only[DM.cells] at l;have p:=C.Bt.Bi.cell 3;simp only[DM.cells] at p;simp at p;have A:=Z C;clear C;go_wp2_with fail
 go_region_held3 (fun w'=>w'.cell? ⟨b,3,none⟩=some (.int .i64 M.Bg.2.2.room)) (first|go_keep|assumption) (first|(go_at_call 41;refine(We _ b L M.Bg.2.2 w2 A.out.Bt (Fr.drew (U _ _))).mono ?_;rintro e w3 ⟨rfl,S,u⟩))
 have HE:Hid ((if IntKind.i64.wrap (M.Bg.2.2.room-M.Bg.2.2.used)<0 then 0 else IntKind.i64.wrap (M.Bg.2.2.room-M.Bg.2.2.used))=M.Bg.2.2.left):=rfl;rw[HE.out];have J:=HL.out;generalize M.Bg.2.2.left=left at J;have q:=A.out.Bt.fr u (fun _ _=>id);have R:k<M.Bg.2.2.dir.length:=by rw[M.Bm.1];exact hk
 have he:M.Bg.2.2.dir[k].2=M.dir[k].2:=by simp[M.Bm.1]
 obtain⟨g,a1,n,c,hv,r,_,hp,i⟩:=q.entry R;rw[he] at r hp i;have O:=(q.files _ r).cell;have a3:=(q.files _ r).frozen;rw[i] at O;clear l p S;have l:=q.Bi.cell;simp only[DM.cells] at l;rw[hv] at l;have D:=Z q;have o:=Z i;clear q i hv;have d:=D.out.rows _ r;rw[o.out] at d;have s:=Z d;have a0:(M.Bg.2.2.file M.dir[k].2).bytes.length<=1000000000000:=by rw[M.Bm.2.2.2.1];exact Q
 have T:(a).size<=1000000000000:=by exact X
 have q1:(M.Bg.2.2.file M.dir[k].2).bytes.length+(a).size<=maxLen:=by unfold maxLen;omega
 have q2:(M.Bg.2.2.file M.dir[k].2).bytes.length+(a).size<=140737488355328:=by omega
 have Q1:=Z q1;have Q2:=Z q2;have I:Hid (∀ y:World,Fr (fun j=>(Value.slice n (M.Bg.2.2.file M.dir[k].2).bytes.length c).ownBlock=some j) w3.drew y->Blk y M.dir[k].2 [.slice n (M.Bg.2.2.file M.dir[k].2).bytes.length c,.int .i64 (M.Bg.2.2.file M.dir[k].2).safe] 152):=by
  intro y v;have N:=D.out.files _ r;rw[o.out] at N;exact(N.drew).fr v (zi d N (by decide))
 clear q1 q2 d T;go_wp2_with fail
 go_region_law
  ((refine ZS (by rfl) _ _ _ _ (by rfl) _ _ (by rfl) (by rfl) (Y1 (w:=w3.drew) 150 9 _ 5 Gw GL WD _ _ _ s.out (a) Q1.out Q2.out) ?_;intro v4 y B;obtain⟨a4,c4,Y⟩:=zg B.own;have t:=I.out y B.fr;have a2:=t.cell 0;have v:=t.frozen 0;have HA:=Z B;clear B;subst Y))
 go_wp2
 go_ret;obtain⟨K,V⟩:=Wf D.out r o.out (by simp) HA.out;exact⟨rfl,K,(DStep.look G.out hf).trans (A.out.trans ((DStep.look A.out.Bt u).trans V))⟩
theorem Qu(o a:ByteArray)(w:World)(b:Nat)(L:DL)(M:DM)(h:DRep w b L M)(k:Nat)(hk:k<M.dir.length)(h1:zP M.dir o=k)(a9:a.size<=1000000000000)(V:(M.file M.dir[k].2).bytes.length<=1000000000000)
 (hd:M.Bg.1=true)(v:M.Bg.2.1=9)(m:Nat)(hm:M.Bg.2.2.left=m)(f:(m:Int)<a.size) :
 Calls Tryz.prog 203 #[.pointer (some ⟨b,0,none⟩),.string o,.string a] w fun e w' =>
  e=.returned (.int .i64 9)/\∃ Q,DStep b L M w Q ((M.Bg.2.2).Br M.dir[k].2 {M.Bg.2.2.file M.dir[k].2 with bytes:=(M.Bg.2.2.file M.dir[k].2).bytes++(a.extract 0 m).data.toList}) w':=by
 have l:=h.Bi.cell;have A:=zG h.dir;unfold maxLen at A;simp only[DM.cells] at l;have N:=Z h;have H1:=Z h1;have HD:=Z hd;have HL:=Z f;have K:=Z v;have HM:=Z hm;clear f v hm;clear h h1 hd;go_enter Eo,Eb;go_wp2_with fail;refine(zT H1.out _ N.out.dir).mono ?_;rintro e w1 ⟨rfl,hf⟩;go_wp2_with fail;have D:=zR w1 b L M (N.out.fr hf (fun _ _=>id));rw[HD.out] at D;rw[K.out] at D;refine D.mono ?_;rintro e w2 ⟨rfl,I⟩;clear l D;have l:=I.Bt.Bi.cell;simp only[DM.cells] at l;have q:=I.Bt.Bi.cell 3;simp only[DM.cells] at q;simp at q;have E:=Z I;clear I;go_wp2_with fail
 go_region_held3 (fun w'=>w'.cell? ⟨b,3,none⟩=some (.int .i64 M.Bg.2.2.room)) (first|go_keep|assumption) (first|(go_at_call 41;refine(We _ b L M.Bg.2.2 w2 E.out.Bt (Fr.drew (U _ _))).mono ?_;rintro e w3 ⟨rfl,Y,x⟩))
 have HE:Hid ((if IntKind.i64.wrap (M.Bg.2.2.room-M.Bg.2.2.used)<0 then 0 else IntKind.i64.wrap (M.Bg.2.2.room-M.Bg.2.2.used))=M.Bg.2.2.left):=rfl;rw[HE.out];rw[HM.out];have a3:=HL.out;have a8:m<=a.size:=by omega
 have r:=E.out.Bt.fr x (fun _ _=>id);have X:k<M.Bg.2.2.dir.length:=by rw[M.Bm.1];exact hk
 have he:M.Bg.2.2.dir[k].2=M.dir[k].2:=by simp[M.Bm.1]
 obtain⟨g,a5,n,c,hv,s,_,hp,i⟩:=r.entry X;rw[he] at s hp i;have S:=(r.files _ s).cell;have a7:=(r.files _ s).frozen;rw[i] at S;clear l q Y;have l:=r.Bi.cell;simp only[DM.cells] at l;rw[hv] at l;have J:=Z r;have p:=Z i;clear r i hv;have d:=J.out.rows _ s;rw[p.out] at d;have t:=Z d;have a2:(M.Bg.2.2.file M.dir[k].2).bytes.length<=1000000000000:=by rw[M.Bm.2.2.2.1];exact V
 have a0:(a.extract 0 m).size<=1000000000000:=by rw[GK];omega
 have q1:(M.Bg.2.2.file M.dir[k].2).bytes.length+(a.extract 0 m).size<=maxLen:=by unfold maxLen;omega
 have q2:(M.Bg.2.2.file M.dir[k].2).bytes.length+(a.extract 0 m).size<=140737488355328:=by omega
 have Q1:=Z q1;have Q2:=Z q2;have O:Hid (∀ C:World,Fr (fun j=>(Value.slice n (M.Bg.2.2.file M.dir[k].2).bytes.length c).ownBlock=some j) w3.drew C->Blk C M.dir[k].2 [.slice n (M.Bg.2.2.file M.dir[k].2).bytes.length c,.int .i64 (M.Bg.2.2.file M.dir[k].2).safe] 152):=by
  intro C y;have R:=J.out.files _ s;rw[p.out] at R;exact(R.drew).fr y (zi d R (by decide))
 clear q1 q2 d a0;go_wp2_with fail
 go_region_law
  ((refine ZS (by rfl) _ _ _ _ (by rfl) _ _ (by rfl) (by rfl) (Y1 (w:=w3.drew) 150 9 _ 5 Gw GL WD _ _ _ t.out (a.extract 0 m) Q1.out Q2.out) ?_;intro v4 C G;obtain⟨a4,c4,a1⟩:=zg G.own;have u:=O.out C G.fr;have a6:=u.cell 0;have y:=u.frozen 0;have HA:=Z G;clear G;subst a1))
 go_wp2
 go_ret;obtain⟨Q,B⟩:=Wf J.out s p.out (by simp) HA.out;have T:(a.extract 0 m).size=m:=by rw[GK];omega
 rw[T] at B;exact⟨rfl,Q,(DStep.look N.out hf).trans (E.out.trans ((DStep.look E.out.Bt x).trans B))⟩
theorem Tr(o a:ByteArray)(w:World)(b:Nat)(L:DL)(M:DM)(h:DRep w b L M)(k:Nat)(hk:k<M.dir.length)(h1:zP M.dir o=k)(b7:a.size<=1000000000000)(a2:(M.file M.dir[k].2).bytes.length<=1000000000000)
 (hd:M.Bg.1=false)(A:M.Bg.2.1=9)(y:M.Bg.2.2.dead=false)(p q:Nat)(E:M.Bg.2.2.part=p)(hq:(p:Int).tmod a.size=q)(b6:q<a.size)(m:Nat)(hm:M.Bg.2.2.left=m)(f:(m:Int)<q) :
 Calls Tryz.prog 203 #[.pointer (some ⟨b,0,none⟩),.string o,.string a] w fun e w' =>
  e=.returned (.int .i64 9)/\∃ Y,DStep b L M w Y ((M.Bg.2.2).Br M.dir[k].2 {M.Bg.2.2.file M.dir[k].2 with bytes:=(M.Bg.2.2.file M.dir[k].2).bytes++(a.extract 0 m).data.toList}) w':=by
 have l:=h.Bi.cell;have D:=zG h.dir;unfold maxLen at D;simp only[DM.cells] at l;have T:=Z h;have H1:=Z h1;have HD:=Z hd;have S:=Z A;have R:=Z y;have X:=Z E;have HL:=Z f;have b3:((a.size:Int)==0)=false:=by rw[Gj];omega
 have b2:(0:Int)<a.size:=by omega
 clear A y E f;have HM:=Z hm;clear hm;clear h h1 hd;go_enter Eo,Eb;go_wp2_with fail;refine(zT H1.out _ T.out.dir).mono ?_;rintro e w1 ⟨rfl,hf⟩;go_wp2_with fail;have J:=zR w1 b L M (T.out.fr hf (fun _ _=>id));rw[HD.out] at J;rw[S.out] at J;refine J.mono ?_;rintro e w2 ⟨rfl,O⟩;clear l J;have l:=O.Bt.Bi.cell;simp only[DM.cells,R.out,X.out] at l;have s:=O.Bt.Bi.cell 3;simp only[DM.cells] at s;simp at s;have K:=Z O;clear O;go_wp2_with fail
 go_region_held3 (fun w'=>w'.cell? ⟨b,3,none⟩=some (.int .i64 M.Bg.2.2.room)) (first|go_keep|assumption) (first|(go_at_call 41;refine(We _ b L M.Bg.2.2 w2 K.out.Bt (Fr.drew (U _ _))).mono ?_;rintro e w3 ⟨rfl,a5,B⟩))
 have HE:Hid ((if IntKind.i64.wrap (M.Bg.2.2.room-M.Bg.2.2.used)<0 then 0 else IntKind.i64.wrap (M.Bg.2.2.room-M.Bg.2.2.used))=M.Bg.2.2.left):=rfl;rw[HE.out];rw[HM.out];have a9:=HL.out;have b5:m<=a.size:=by omega
 have t:=K.out.Bt.fr B (fun _ _=>id);have a3:k<M.Bg.2.2.dir.length:=by rw[M.Bm.1];exact hk
 have he:M.Bg.2.2.dir[k].2=M.dir[k].2:=by simp[M.Bm.1]
 obtain⟨g,b0,n,c,hv,u,_,hp,i⟩:=t.entry a3;rw[he] at u hp i;have a0:=(t.files _ u).cell;have b4:=(t.files _ u).frozen;rw[i] at a0;clear l s a5;have l:=t.Bi.cell;simp only[DM.cells] at l;rw[hv] at l;have Q:=Z t;have r:=Z i;clear t i hv;have d:=Q.out.rows _ u;rw[r.out] at d;have v:=Z d;have a8:(M.Bg.2.2.file M.dir[k].2).bytes.length<=1000000000000:=by rw[M.Bm.2.2.2.1];exact a2
 have a6:(a.extract 0 m).size<=1000000000000:=by rw[GK];omega
 have q1:(M.Bg.2.2.file M.dir[k].2).bytes.length+(a.extract 0 m).size<=maxLen:=by unfold maxLen;omega
 have q2:(M.Bg.2.2.file M.dir[k].2).bytes.length+(a.extract 0 m).size<=140737488355328:=by omega
 have Q1:=Z q1;have Q2:=Z q2;have V:Hid (∀ I:World,Fr (fun j=>(Value.slice n (M.Bg.2.2.file M.dir[k].2).bytes.length c).ownBlock=some j) w3.drew I->Blk I M.dir[k].2 [.slice n (M.Bg.2.2.file M.dir[k].2).bytes.length c,.int .i64 (M.Bg.2.2.file M.dir[k].2).safe] 152):=by
  intro I C;have h0:=Q.out.files _ u;rw[r.out] at h0;exact(h0.drew).fr C (zi d h0 (by decide))
 clear q1 q2 d a6;go_wp2_with fail
 go_region_law
  ((refine ZS (by rfl) _ _ _ _ (by rfl) _ _ (by rfl) (by rfl) (Y1 (w:=w3.drew) 150 9 _ 5 Gw GL WD _ _ _ v.out (a.extract 0 m) Q1.out Q2.out) ?_;intro v4 I N;obtain⟨a4,c4,a7⟩:=zg N.own;have x:=V.out I N.fr;have b1:=x.cell 0;have C:=x.frozen 0;have HA:=Z N;clear N;subst a7))
 go_wp2
 go_ret;obtain⟨Y,G⟩:=Wf Q.out u r.out (by simp) HA.out;have a1:(a.extract 0 m).size=m:=by rw[GK];omega
 rw[a1] at G;exact⟨rfl,Y,(DStep.look T.out hf).trans (K.out.trans ((DStep.look K.out.Bt B).trans G))⟩
theorem Ts(m a:ByteArray)(w:World)(b:Nat)(L:DL)(M:DM)(h:DRep w b L M)(k:Nat)(hk:k<M.dir.length)(h1:zP M.dir m=k)(b6:a.size<=1000000000000)(a2:(M.file M.dir[k].2).bytes.length<=1000000000000)
 (hd:M.Bg.1=false)(y:M.Bg.2.1=9)(x:M.Bg.2.2.dead=false)(p q:Nat)(D:M.Bg.2.2.part=p)(hq:(p:Int).tmod a.size=q)(b5:q<a.size)(f:¬M.Bg.2.2.left<q) :
 Calls Tryz.prog 203 #[.pointer (some ⟨b,0,none⟩),.string m,.string a] w fun e w' =>
  e=.returned (.int .i64 9)/\∃ Y,DStep b L M w Y ((M.Bg.2.2).Br M.dir[k].2 {M.Bg.2.2.file M.dir[k].2 with bytes:=(M.Bg.2.2.file M.dir[k].2).bytes++(a.extract 0 q).data.toList}) w':=by
 have l:=h.Bi.cell;have C:=zG h.dir;unfold maxLen at C;simp only[DM.cells] at l;have S:=Z h;have H1:=Z h1;have HD:=Z hd;have R:=Z y;have Q:=Z x;have X:=Z D;have HL:=Z f;have b2:((a.size:Int)==0)=false:=by rw[Gj];omega
 have b1:(0:Int)<a.size:=by omega
 clear y x D f;clear h h1 hd;go_enter Eo,Eb;go_wp2_with fail;refine(zT H1.out _ S.out.dir).mono ?_;rintro e w1 ⟨rfl,hf⟩;go_wp2_with fail;have I:=zR w1 b L M (S.out.fr hf (fun _ _=>id));rw[HD.out] at I;rw[R.out] at I;refine I.mono ?_;rintro e w2 ⟨rfl,N⟩;clear l I;have l:=N.Bt.Bi.cell;simp only[DM.cells,Q.out,X.out] at l;have r:=N.Bt.Bi.cell 3;simp only[DM.cells] at r;simp at r;have J:=Z N;clear N;go_wp2_with fail
 go_region_held3 (fun w'=>w'.cell? ⟨b,3,none⟩=some (.int .i64 M.Bg.2.2.room)) (first|go_keep|assumption) (first|(go_at_call 41;refine(We _ b L M.Bg.2.2 w2 J.out.Bt (Fr.drew (U _ _))).mono ?_;rintro e w3 ⟨rfl,a5,A⟩))
 have HE:Hid ((if IntKind.i64.wrap (M.Bg.2.2.room-M.Bg.2.2.used)<0 then 0 else IntKind.i64.wrap (M.Bg.2.2.room-M.Bg.2.2.used))=M.Bg.2.2.left):=rfl;rw[HE.out];have V:=HL.out;have b4:q<=a.size:=by omega
 generalize M.Bg.2.2.left=left at V;have s:=J.out.Bt.fr A (fun _ _=>id);have a3:k<M.Bg.2.2.dir.length:=by rw[M.Bm.1];exact hk
 have he:M.Bg.2.2.dir[k].2=M.dir[k].2:=by simp[M.Bm.1]
 obtain⟨g,a9,n,c,hv,t,_,hp,i⟩:=s.entry a3;rw[he] at t hp i;have a0:=(s.files _ t).cell;have b3:=(s.files _ t).frozen;rw[i] at a0;clear l r a5;have l:=s.Bi.cell;simp only[DM.cells] at l;rw[hv] at l;have O:=Z s;have o:=Z i;clear s i hv;have d:=O.out.rows _ t;rw[o.out] at d;have u:=Z d;have a8:(M.Bg.2.2.file M.dir[k].2).bytes.length<=1000000000000:=by rw[M.Bm.2.2.2.1];exact a2
 have a6:(a.extract 0 q).size<=1000000000000:=by rw[GK];omega
 have q1:(M.Bg.2.2.file M.dir[k].2).bytes.length+(a.extract 0 q).size<=maxLen:=by unfold maxLen;omega
 have q2:(M.Bg.2.2.file M.dir[k].2).bytes.length+(a.extract 0 q).size<=140737488355328:=by omega
 have Q1:=Z q1;have Q2:=Z q2;have T:Hid (∀ G:World,Fr (fun j=>(Value.slice n (M.Bg.2.2.file M.dir[k].2).bytes.length c).ownBlock=some j) w3.drew G->Blk G M.dir[k].2 [.slice n (M.Bg.2.2.file M.dir[k].2).bytes.length c,.int .i64 (M.Bg.2.2.file M.dir[k].2).safe] 152):=by
  intro G B;have h0:=O.out.files _ t;rw[o.out] at h0;exact(h0.drew).fr B (zi d h0 (by decide))
 clear q1 q2 d a6;go_wp2_with fail
 go_region_law
  ((refine ZS (by rfl) _ _ _ _ (by rfl) _ _ (by rfl) (by rfl) (Y1 (w:=w3.drew) 150 9 _ 5 Gw GL WD _ _ _ u.out (a.extract 0 q) Q1.out Q2.out) ?_;intro v4 G K;obtain⟨a4,c4,a7⟩:=zg K.own;have v:=T.out G K.fr;have b0:=v.cell 0;have B:=v.frozen 0;have HA:=Z K;clear K;subst a7))
 go_wp2
 go_ret;obtain⟨Y,E⟩:=Wf O.out t o.out (by simp) HA.out;have a1:(a.extract 0 q).size=q:=by rw[GK];omega
 rw[a1] at E;exact⟨rfl,Y,(DStep.look S.out hf).trans (J.out.trans ((DStep.look J.out.Bt A).trans E))⟩
theorem Qv(o a:ByteArray)(w:World)(b:Nat)(L:DL)(M:DM)(h:DRep w b L M)(k:Nat)(hk:k<M.dir.length)(h1:zP M.dir o=k)(b6:a.size<=1000000000000)(a1:(M.file M.dir[k].2).bytes.length<=1000000000000)
 (hd:M.Bg.1=true)(y:M.Bg.2.1=0)(m:Nat)(hm:M.Bg.2.2.left=m)(i:(m:Int)<a.size) :
 Calls Tryz.prog 203 #[.pointer (some ⟨b,0,none⟩),.string o,.string a] w fun e w' =>
  e=.returned (.int .i64 10)/\∃ V,DStep b L M w V (({M.Bg.2.2 with refused:=wrap64 (M.Bg.2.2.refused+1),Bo:=wrap64 (M.Bg.2.2.Bo+1)}:DM).Br M.dir[k].2 {M.Bg.2.2.file M.dir[k].2 with bytes:=(M.Bg.2.2.file M.dir[k].2).bytes++(a.extract 0 m).data.toList}) w':=by
 have v:=h.Bi.cell;have C:=zG h.dir;unfold maxLen at C;simp only[DM.cells] at v;have S:=Z h;have H1:=Z h1;have HD:=Z hd;have HL:=Z i;have R:=Z y;have HM:=Z hm;clear i y hm;clear h h1 hd;go_enter Eo,Eb;go_wp2_with fail;refine(zT H1.out _ S.out.dir).mono ?_;rintro e w1 ⟨rfl,hf⟩;go_wp2_with fail;have J:=zR w1 b L M (S.out.fr hf (fun _ _=>id));rw[HD.out] at J;rw[R.out] at J;refine J.mono ?_;rintro e w2 ⟨rfl,O⟩;clear v J;have v:=O.Bt.Bi.cell;simp only[DM.cells] at v;have q:=O.Bt.Bi.cell 3;simp only[DM.cells] at q;simp at q;have K:=Z O;clear O;go_wp2_with fail
 go_region_held3 (fun w'=>w'.cell? ⟨b,3,none⟩=some (.int .i64 M.Bg.2.2.room)) (first|go_keep|assumption) (first|(go_at_call 41;refine(We _ b L M.Bg.2.2 w2 K.out.Bt (Fr.drew (U _ _))).mono ?_;rintro e G ⟨rfl,a3,A⟩))
 have HE:Hid ((if IntKind.i64.wrap (M.Bg.2.2.room-M.Bg.2.2.used)<0 then 0 else IntKind.i64.wrap (M.Bg.2.2.room-M.Bg.2.2.used))=M.Bg.2.2.left):=rfl;rw[HE.out];rw[HM.out];have b1:=HL.out;have b5:m<=a.size:=by omega
 have f:=K.out.Bt.fr A (fun _ _=>id);have x:=f.Bi.cell;have a7:=f.Bi.frozen;simp only[DM.cells] at x;clear v q a3;have a2:k<M.Bg.2.2.dir.length:=by rw[M.Bm.1];exact hk
 have he:M.Bg.2.2.dir[k].2=M.dir[k].2:=by simp[M.Bm.1]
 have h4:DRep ((G.setCell ⟨b,8,none⟩ (.int .i64 (wrap64 (M.Bg.2.2.refused+1)))).setCell ⟨b,9,none⟩ (.int .i64 (wrap64 (M.Bg.2.2.Bo+1)))) b L ({M.Bg.2.2 with refused:=wrap64 (M.Bg.2.2.refused+1),Bo:=wrap64 (M.Bg.2.2.Bo+1)}:DM) :=
  f.own ((f.Bi.set 8 _).set 9 _) (by repeat' first|exact U _ _|(with_reducible assumption)|refine Fr.drewN ?_ _|refine Fr.drew ?_|refine Fr.alloc ?_ _|refine Fr.set ?_ ?_ _|(intro _;rfl)) rfl rfl rfl rfl rfl
 obtain⟨g,b2,n,c,hv,r,_,hp,l⟩:=f.entry a2;rw[he] at r hp l;have Y:=(f.files _ r).cell;have b4:=(f.files _ r).frozen;rw[l] at Y;rw[hv] at x;have a9:M.dir[k].2≠b:=(f.files _ r).ne f.Bi (by decide);have b0:g≠b:=fun e=>zi f.dir f.Bi (by decide) (by rw[hv,<- e];rfl);have Q:=Z h4;have p:=Z l;have s:=Z f;clear h4 f l hv;have d:=Q.out.rows _ r;rw[p.out] at d;have t:=Z d;have a8:(M.Bg.2.2.file M.dir[k].2).bytes.length<=1000000000000:=by rw[M.Bm.2.2.2.1];exact a1
 have a5:(a.extract 0 m).size<=1000000000000:=by rw[GK];omega
 have q1:(M.Bg.2.2.file M.dir[k].2).bytes.length+(a.extract 0 m).size<=maxLen:=by unfold maxLen;omega
 have q2:(M.Bg.2.2.file M.dir[k].2).bytes.length+(a.extract 0 m).size<=140737488355328:=by omega
 have Q1:=Z q1;have Q2:=Z q2;have T:Hid (∀ I:World,Fr (fun j=>(Value.slice n (M.Bg.2.2.file M.dir[k].2).bytes.length c).ownBlock=some j) ((G.setCell ⟨b,8,none⟩ (.int .i64 (wrap64 (M.Bg.2.2.refused+1)))).setCell ⟨b,9,none⟩ (.int .i64 (wrap64 (M.Bg.2.2.Bo+1)))).drew I->Blk I M.dir[k].2 [.slice n (M.Bg.2.2.file M.dir[k].2).bytes.length c,.int .i64 (M.Bg.2.2.file M.dir[k].2).safe] 152):=by
  intro I B;have X:=Q.out.files _ r;rw[p.out] at X;exact(X.drew).fr B (zi d X (by decide))
 clear q1 q2 d a5;go_wp2_with fail
 go_region_law
  ((refine ZS (by rfl) _ _ _ _ (by rfl) _ _ (by rfl) (by rfl) (Y1 (w:=((G.setCell ⟨b,8,none⟩ (.int .i64 (wrap64 (M.Bg.2.2.refused+1)))).setCell ⟨b,9,none⟩ (.int .i64 (wrap64 (M.Bg.2.2.Bo+1)))).drew) 150 9 _ 5 Gw GL WD _ _ _ t.out (a.extract 0 m) Q1.out Q2.out) ?_;intro v4 I N;obtain⟨a4,c4,a6⟩:=zg N.own;have u:=T.out I N.fr;have b3:=u.cell 0;have B:=u.frozen 0;have HA:=Z N;clear N;subst a6))
 go_wp2
 go_ret;obtain⟨V,D⟩:=Wf Q.out r p.out (by simp) HA.out;have a0:(a.extract 0 m).size=m:=by rw[GK];omega
 rw[a0] at D;have E:DStep b L M.Bg.2.2 G L ({M.Bg.2.2 with refused:=wrap64 (M.Bg.2.2.refused+1),Bo:=wrap64 (M.Bg.2.2.Bo+1)}:DM) ((G.setCell ⟨b,8,none⟩ (.int .i64 (wrap64 (M.Bg.2.2.refused+1)))).setCell ⟨b,9,none⟩ (.int .i64 (wrap64 (M.Bg.2.2.Bo+1)))):=by
  exact .own (s.out.own ((s.out.Bi.set 8 _).set 9 _) (by repeat' first|exact U _ _|(with_reducible assumption)|refine Fr.drewN ?_ _|refine Fr.drew ?_|refine Fr.alloc ?_ _|refine Fr.set ?_ ?_ _|(intro _;rfl)) rfl rfl rfl rfl rfl) (by repeat' first|exact U _ _|(with_reducible assumption)|refine Fr.drewN ?_ _|refine Fr.drew ?_|refine Fr.alloc ?_ _|refine Fr.set ?_ ?_ _|(intro _;rfl)) rfl
 exact⟨rfl,V,(DStep.look S.out hf).trans (K.out.trans ((DStep.look K.out.Bt A).trans (E.trans D)))⟩
theorem DM.yp(M:DM)(h:M.Bg.1=false):M.Bg.2.1=9:=by
 unfold DM.Bg at h |-;dsimp only at h |-;(repeat' split at h) <;> simp_all
theorem Ub(a:ByteArray)(w:World)(b:Nat)(L:DL)(M:DM)(h:DRep w b L M)(q:M.Bl.length+1<=1000000000000)(p:M.dir.length+1<=1000000000000) :
 Calls Tryz.prog 211 #[.pointer (some ⟨b,0,none⟩),.string a] w fun e i =>
  ∃ f j,e=.returned (.int .i64 (M.create a f).1)/\w.heap.size<=f/\DStep b L M w j (M.create a f).2 i:=by
 by_cases c:a=ByteArray.empty\/(M.dir.look a).isSome=true
 .refine(O8 a w b L M h c).mono fun e i ⟨d,g⟩=>⟨w.heap.size,L,?_,Io _,?_⟩
  .rw[d];simp only[DM.create];rw[IC c]
  .simp only[DM.create];rw[IC c];exact DStep.look h g
 .have he:¬a=ByteArray.empty:=fun e=>c (.inl e)
  rcases Yv M.dir a with⟨d,g⟩|⟨k,r,d,g,_⟩
  .cases hd:M.Bg.1 with
   | false =>
    refine(NS a w b L M h he d hd).mono fun e i ⟨l,m⟩=>⟨w.heap.size,L,?_,Io _,?_⟩
    .rw[l];simp only[DM.create];rw[It c]
    .simp only[DM.create];rw[It c,hd];exact m
   | true =>
    refine(O9 a w b L M h he d hd q p).mono fun e i ⟨l,f,j,m,_,o⟩=>⟨f,j,?_,m,?_⟩
    .rw[l];simp only[DM.create];rw[It c]
    .simp only[DM.create];rw[It c,hd];exact o
  .exact absurd (.inr (by rw[g];rfl)) c
def DM.add(M:DM)(b:ByteArray)(a:ByteArray):Int × DM :=
 match M.dir.look b with
 | none=>(11,M)
 | some f =>
  match M.tries a.size with
  | none=>(M.Bg.2.1,M.Bg.2.2)
  | some n =>
   if M.Bg.2.2.left<n then
    if M.Bg.2.1=0 then
     (10,({M.Bg.2.2 with refused:=wrap64 (M.Bg.2.2.refused+1),Bo:=wrap64 (M.Bg.2.2.Bo+1)}:DM).Br f
       {M.Bg.2.2.file f with bytes:=(M.Bg.2.2.file f).bytes++(a.extract 0 M.Bg.2.2.left.toNat).data.toList})
    else(M.Bg.2.1,M.Bg.2.2.Br f {M.Bg.2.2.file f with bytes:=(M.Bg.2.2.file f).bytes++(a.extract 0 M.Bg.2.2.left.toNat).data.toList})
   else(M.Bg.2.1,M.Bg.2.2.Br f {M.Bg.2.2.file f with bytes:=(M.Bg.2.2.file f).bytes++(a.extract 0 n.toNat).data.toList})
theorem DM.yN(M:DM):∃ m:Nat,M.left=m:=by
 have:0<=M.left:=by unfold DM.left;split <;> omega
 exact⟨_,(Fa this).symm⟩
theorem Uc(c a:ByteArray)(w:World)(b:Nat)(L:DL)(M:DM)(h:DRep w b L M)(D:0<=M.part)(j:a.size<=1000000000000)(y:∀ f,f∈M.ids->(M.file f).bytes.length<=1000000000000) :
 Calls Tryz.prog 203 #[.pointer (some ⟨b,0,none⟩),.string c,.string a] w fun e q =>
  e=.returned (.int .i64 (M.add c a).1)/\∃ C,DStep b L M w C (M.add c a).2 q:=by
 rcases Yv M.dir c with⟨l,o⟩|⟨k,r,l,o,_⟩
 .refine(Oa c a w b L M h l).mono fun e q ⟨g,i⟩=>?_
  simp only[DM.add,o];exact⟨g,L,i⟩
 .have hf:=y _ (h.Ad _ (Iu r))
  have v:M.Bg.2.2.part=M.part:=M.Bm.2.2.2.2.2.2.1;obtain⟨m,t⟩:=M.Bg.2.2.yN;cases hd:M.Bg.1 with
  | false =>
   have d:=M.yp hd;cases hdd:M.Bg.2.2.dead with
   | true =>
    refine(NT c a w b L M h k r l hd hdd j).mono fun e q ⟨g,i⟩=>?_;simp only[DM.add,o,DM.tries,hd,hdd];exact⟨g,L,i⟩
   | false =>
    by_cases B:a.size=0
    .refine(append_nil c a w b L M h k r l hd hdd B).mono fun e q ⟨g,i⟩=>?_
     simp only[DM.add,o,DM.tries,hd,hdd,B];exact⟨g,L,i⟩
    .obtain⟨p,hp'⟩:=Ht D
     have A:(p:Int).tmod a.size=(p%a.size:Nat):=by
      rw[Db]
     have x:p%a.size<a.size:=Dk _ (by omega);have u:M.tries a.size=some ((p%a.size:Nat):Int):=by
      simp only[DM.tries,hd,hdd];rw[It (by simp),IC (by simp;omega),hp',A]
     by_cases s:M.Bg.2.2.left<((p%a.size:Nat):Int)
     .refine(Tr c a w b L M h k r l j hf hd d hdd p (p%a.size) (by rw[v,hp']) A x m t (by omega)).mono fun e q ⟨g,i⟩=>?_
      simp only[DM.add,o,u];rw[IC s,It (by omega),d,t];exact⟨g,i⟩
     .refine(Ts c a w b L M h k r l j hf hd d hdd p (p%a.size) (by rw[v,hp']) A x s).mono fun e q ⟨g,i⟩=>?_
      simp only[DM.add,o,u];rw[It s,d];exact⟨g,i⟩
  | true =>
   have u:M.tries a.size=some (a.size:Int):=by simp[DM.tries,hd]
   by_cases s:M.Bg.2.2.left<a.size
   .rcases M.AA with d|d
    .refine(Qv c a w b L M h k r l j hf hd d m t (by omega)).mono fun e q ⟨g,i⟩=>?_
     simp only[DM.add,o,u];rw[IC s,IC d,t];exact⟨g,i⟩
    .refine(Qu c a w b L M h k r l j hf hd d m t (by omega)).mono fun e q ⟨g,i⟩=>?_
     simp only[DM.add,o,u];rw[IC s,It (by omega),d,t];exact⟨g,i⟩
   .refine(Ob c a w b L M h k r l j hf hd s).mono fun e q ⟨g,i⟩=>?_
    simp only[DM.add,o,u];rw[It s];have:a.extract 0 ((a.size:Int).toNat)=a:=by simp
    rw[this];exact⟨g,i⟩
end Go.Proofs.YtkhnggkkiefcdaaGreatDoor
