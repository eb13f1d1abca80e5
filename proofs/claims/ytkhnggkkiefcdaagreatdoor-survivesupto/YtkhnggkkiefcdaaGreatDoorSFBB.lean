/- larder: joined texts -/
import Derived.Test.YtkhnggkkiefcdaaGreatDoorSFAI
import Derived.Test.YtkhnggkkiefcdaaGreatDoorSFAM
import Derived.Test.YtkhnggkkiefcdaaGreatDoorSFAO
import Derived.Test.YtkhnggkkiefcdaaGreatDoorSFAP
import Derived.Test.YtkhnggkkiefcdaaGreatDoorSFAT
import Derived.Test.YtkhnggkkiefcdaaGreatDoorSFAX
import Derived.Test.YtkhnggkkiefcdaaGreatDoorSFBA
import Derived.OpenShut
import Derived.Deep.Slices
import Derived.LaidSub
import Derived.Lib.LaidTab
import Derived.Stop.LaidErr
import Derived.LaidEql
import Derived.Stop.Asserts
import Derived.RowKitTokens
namespace Go.Proofs.YtkhnggkkiefcdaaGreatDoor
open Go.RowKit
set_option maxRecDepth 100000
set_option maxHeartbeats 8000000
abbrev CW:=@Go.laidMetH_iff
structure Plg(B:Nat)(w0:World)(wb t:Nat)(w:World):Prop where
 fr:Fr Nil w0 w
 st:∃ tv,Uo w0 tv/\((∃ K L W X N M,Lv K B w L W X N M t/\L.wb=wb/\L.tv=tv/\∀ k,PFoot L X M k->w0.heap.size<=k) \/
  (∃ K L W LD M,Cl K w L W LD M t/\L.wb=wb/\L.tv=tv/\∀ k,RFoot L LD M k->w0.heap.size<=k))
theorem Plg.of{B:Nat}{g:World}{u t:Nat}{w s:World}{P:Nat->Prop}{tv:Value}(f:Fr Nil g w)(r:∀ k,P k->g.heap.size<=k)(o:Uo g tv)(h:Nx B P u tv w t s):Plg B g u t s:=by
 have hs:=f.size;have j:∀ k,P k\/w.heap.size<=k->g.heap.size<=k:=fun k e=>e.elim (r k) (fun e=>IP hs e);refine⟨f.trans' h.1 (fun i z e=>by have:=r i e;omega),tv,o,?_⟩;rcases h.2 with⟨K,L,W,X,N,M,a,b,c,d⟩|⟨K,L,W,y,M,a,b,c,d,e⟩
 .exact .inl ⟨K,L,W,X,N,M,a,b,c,fun k l=>j k (d k l)⟩
 .exact .inr ⟨K,L,W,y,M,a,b,c,fun k l=>l.elim (fun x=>j k (d k x)) (fun x=>j k (e k x))⟩
theorem Lv.more{K:Nat->Prop}{B:Nat}{w:World}{L:WL}{W:WM}{X:NL}{N:NM}{M:DM}{t u:Nat}(h:Lv K B w L W X N M t)(a:t<=u):Lv K B w L W X N M u:=⟨h.Ae,h.inv.imp fun _ x=>x.imp fun _ y=>y.more a,h.ps⟩
theorem Cl.more{K:Nat->Prop}{w:World}{L:WL}{W:WM}{a:DL}{M:DM}{t u:Nat}(h:Cl K w L W a M t)(b:t<=u):Cl K w L W a M u:=⟨h.Bi,h.Bz,h.sep,h.inv.imp fun _ x=>x.imp fun _ y=>y.more b,h.ps,h.nv⟩
theorem Plg.more{B:Nat}{i:World}{j t u:Nat}{w:World}(h:Plg B i j t w)(g:t<=u):Plg B i j u w:=by
 obtain⟨f,tv,e,hs⟩:=h;refine⟨f,tv,e,?_⟩;rcases hs with⟨K,L,W,X,N,M,a,b,c,d⟩|⟨K,L,W,k,M,a,b,c,d⟩
 .exact .inl ⟨K,L,W,X,N,M,a.more g,b,c,d⟩
 .exact .inr ⟨K,L,W,k,M,a.more g,b,c,d⟩
theorem Lv.nil{K:Nat->Prop}{B:Nat}{w w':World}{L:WL}{W:WM}{X:NL}{N:NM}{M:DM}{t:Nat}(h:Lv K B w L W X N M t)(f:Fr Nil w w'):Lv K B w' L W X N M t:=⟨(h.Ae.nil f).CZ,h.inv,h.ps⟩
theorem Cl.nil{K:Nat->Prop}{w w':World}{L:WL}{W:WM}{c:DL}{M:DM}{t:Nat}(h:Cl K w L W c M t)(f:Fr Nil w w'):Cl K w' L W c M t:=⟨h.Bi.nil f,h.Bz.nil f,h.sep,h.inv,h.ps,h.nv⟩
theorem Plg.nil{B:Nat}{g:World}{o t:Nat}{w w':World}(h:Plg B g o t w)(k:Fr Nil w w'):Plg B g o t w':=by
 obtain⟨f,tv,e,hs⟩:=h;refine⟨f.trans k,tv,e,?_⟩;rcases hs with⟨K,L,W,X,N,M,a,b,c,d⟩|⟨K,L,W,r,M,a,b,c,d⟩
 .exact .inl ⟨K,L,W,X,N,M,a.nil k,b,c,d⟩
 .exact .inr ⟨K,L,W,r,M,a.nil k,b,c,d⟩
structure Zs(K:Nat->Prop)(w:World)(L:WL)(W:WM)(LD:DL)(M:DM)(t:Nat):Prop where
 Bi:WAt K w L W
 Bz:DRep w L.db LD M
 sep:∀ k,K k->¬Foot L.db LD M k
 inv:∃ F p,Sh W M F p t
 ps:L.ps≠[]
theorem Zs.nil{K:Nat->Prop}{w w':World}{L:WL}{W:WM}{c:DL}{M:DM}{t:Nat}(h:Zs K w L W c M t)(f:Fr Nil w w'):Zs K w' L W c M t:=⟨h.Bi.nil f,h.Bz.nil f,h.sep,h.inv,h.ps⟩
theorem Plg.rest{B:Nat}{m:World}{o t:Nat}{w:World}(h:Plg B m o t w):∃ K L W j M,Zs K w L W j M t/\L.wb=o/\Uo m L.tv/\∀ k,RFoot L j M k->m.heap.size<=k:=by
 obtain⟨f,tv,i,hs⟩:=h;rcases hs with⟨K,L,W,X,N,M,a,b,c,d⟩|⟨K,L,W,j,M,a,b,c,d⟩
 .refine⟨K,L,W,X.LD,M,⟨a.Ae.Bi,a.Ae.marks,fun k q e=>a.Ae.sep k q (.inr (.inr (.inr (by rw[<- a.Ae.db];exact e)))),a.inv.imp fun _ x=>x.imp fun _ y=>y.sh,a.ps⟩,b,by rw[c];exact i,fun k e=>d k (e.imp id fun e=>.inr (.inr (.inr (by rw[<- a.Ae.db];exact e))))⟩
 .exact⟨K,L,W,j,M,⟨a.Bi,a.Bz,a.sep,a.inv,a.ps⟩,b,by rw[c];exact i,d⟩
theorem Cm.yH{W:WM}{t:Nat}(h:Cm W t){b:Int}(a:InR b):Cm {W with Bu:=b} t :=
 ⟨h.Af,h.calls,h.ww,h.len,h.ne,h.next,h.base,h.yj,h.yg,h.yl,h.ye,h.yk,h.yf,a⟩
theorem Sh.Bu{W:WM}{M:DM}{F:List Fact}{p t:Nat}(h:Sh W M F p t){b:Int}(a:InR b):Sh {W with Bu:=b} M F p t:=⟨h.lg,h.cm.yH a,h.room,h.all⟩
theorem Sh.Bz{W:WM}{M M':DM}{F:List Fact}{p t:Nat}(h:Sh W M F p t)(d:∀ a,Lg M a p t->Lg M' a p t)(b:M'.room=M.room)(c:M'.dead=M.dead):Sh W M' F p t :=
 ⟨h.lg.imp fun a x=>⟨d a x.1,x.2⟩,h.cm,b.trans h.room,by rw[c];exact h.all⟩
theorem NI.Bu{W:WM}{N:NM}{M:DM}{F:List Fact}{p t:Nat}(h:NI W N M F p t){b:Int}(a:InR b):NI {W with Bu:=b} N M F p t:={h with cm:=h.cm.yH a}
theorem Play.cut{K:Nat->Prop}{B:Nat}{w w':World}{L d:WL}{W i:WM}{X:NL}{N:NM}{M M':DM}(h:Play K B w L W X N M)(s:WAt K w' d i)(v:DRep w' L.db X.LD M')(f:Fr (fun k=>k=L.wb\/k=L.db) w w')(l:d.nv=L.nv)(m:d.db=L.db)(o:∀ k,WFoot d k->WFoot L k)(j:∀ k,NFoot X M' k->NFoot X M k):Play K B w' d i X N M':=by
 have r:=h.marks;have a:∀ {k t},Ty w k t->¬DTy t->t≠49->¬(k=L.wb\/k=L.db):=by
  intro k t b p q x;rcases x with rfl|rfl
  .exact q (b.inj h.Bi.CY.ty)
  .exact r.apart b p .CY
 have u:∀ k,(k=L.wb\/k=L.db)->B<=k:=fun k e=>e.elim (fun e=>by rw[e];exact h.low _ (.inl rfl)) (fun e=>by rw[e,h.db];exact h.env.BA _ (.inr (.inr (.inr .CY))));have c:=h.node;refine⟨s,⟨c.CY.fr f (a c.CY.ty (by unfold DTy;decide) (by decide)),Blk.fr c.log f (a (Blk.ty c.log) (by unfold DTy;decide) (by decide)),c.held.fr f (fun k b=>?_) (fun k b=>a (c.held.BV b) (by unfold DTy;decide) (by decide)),by rw[<- h.db];exact v⟩,⟨h.env.tab.fr h.env.le f u,IP h.env.le f.size,fun k b=>h.env.BA k (j k b)⟩,l.trans h.nv,m.trans h.db,fun k b e=>h.sep k b (j k e),fun k b=>h.low k (o k b)⟩;rcases c.held.BH b with e|e|e
 .exact a e (by unfold DTy;decide) (by decide)
 .exact a e (by unfold DTy;decide) (by decide)
 .exact a e (by unfold DTy;decide) (by decide)
theorem Uq(b:zz){B t s:Nat}{o w:World}(h:Plg B o s t w)(c:YX B o)(p:B<=o.heap.size)(A:t<=890000)(i j:Int) :
 Calls Tryz.prog 17 #[.pointer (some ⟨s,0,none⟩),.int .i64 i,.int .i64 j] w fun e v=>e=.returned (.bool true)/\Plg B o s (t+10) v:=by
 have m:=h.fr;obtain⟨K,L,W,x,M,g,rfl,d,a⟩:=h.rest;have f:=d;obtain⟨l,u,z⟩:=d;refine(Ig b K B L W x M i j l t w g.Bi g.Bz g.sep (c.fr p m (fun _ e=>absurd e id)) (IP p m.size) (fun k q=>IP p (a k q)) g.inv A g.ps (u.fr m (fun _ _ _=>id)) (fun k r e q=>by have:=u.own k r e;have:=a k q;omega) z).mono ?_;rintro e v ⟨rfl,y⟩;exact⟨rfl,Plg.of m a f y⟩
theorem JE(D:zz){B t wb:Nat}{V w:World}(h:Plg B V wb t w)(R:YX B V)(hB:B<=V.heap.size)(ht:t<=890000)(o:OpM)(j:Wk V o)(a1:o.kind≠15) :
 Calls Tryz.prog 18 #[.pointer (some ⟨wb,0,none⟩),.agg o.cells.toArray] w fun e E=>e=.returned (.bool true)/\Plg B V wb (t+10) E:=by
 have G:=h.fr;by_cases I:o.kind=1
 .obtain⟨_,L,_,_,_,_,hwb,_,_⟩:=h.rest
  rw[<- hwb] at h |-;exact IC L o w I _ (fun y f=>Uq D (h.nil f) R hB ht o.a o.b)
 by_cases s:o.kind=12
 .obtain⟨K,L,W,v,M,hz,rfl,m,hlow⟩:=h.rest
  obtain⟨l,Y,hr⟩:=j.BN;refine Ih L o w s _ (fun y f=>?_);have u:=hz.nil f;obtain⟨F,p,Q⟩:=u.inv;obtain⟨T,hl,hs⟩:=Q.segs;refine(M8 K L W v M T p t o.a l o.BN y u.Bi u.Bz u.sep j.a.1 j.a.2 (Y.fr (G.trans f) (fun _ _ _=>id)) (fun k a2 e q=>by have:=Y.own k a2 e;have:=hlow k (.inr q);omega) hr hl (by omega)).mono ?_;rintro e E ⟨rfl,a0,A,z,r,J⟩;refine⟨rfl,Plg.of (G.trans f) hlow m ⟨r,.inr ⟨K,_,_,a0,_,⟨A,z,fun k q e=>?_,?_,hz.ps,rfl⟩,rfl,rfl,fun k e=>.inl (.inl e),fun k e=>(J k e).imp .inr id⟩⟩⟩
  .rcases J k e with e|e
   .exact hz.sep k q e
   .have:=(u.Bi.Bt k q).1;omega
  .obtain⟨F',p',h'⟩:=Q.BT o.a l
   exact⟨F',p',h'.more (by omega)⟩
 by_cases g:o.kind=13
 .obtain⟨l,Y,hr⟩:=j.BN
  obtain⟨ta,tn,tc,S⟩:=Y.form;obtain⟨tv,m,hs⟩:=h.st;rcases hs with⟨K,L,W,X,N,M,a,rfl,c,d⟩|⟨K,L,W,v,M,a,rfl,c,d⟩
  .refine VN L o w (.inl g) _ (fun y f=>?_)
   have b:=a.nil f;refine(Oe K L W X.LD M o y ta tn tc S b.Ae.Bi b.Ae.marks (fun k q e=>b.Ae.sep k q (.inr (.inr (.inr (by rw[e,b.Ae.db];exact .CY))))) g j.a.1 j.a.2).mono ?_;rintro e E ⟨rfl,n,A,z,r⟩;refine⟨rfl,Plg.of (P:=PFoot L X M) (tv:=o.BN) (G.trans f) d j.BN ⟨r.mono (fun k _ e=>e.elim (fun e=>.inl (.inl e)) (fun e=>.inr (.inr (.inr (.inr (by rw[e,b.Ae.db];exact .CY)))))),.inl ⟨K,_,_,X,N,_,⟨b.Ae.cut A z r rfl rfl (fun _ e=>e) (fun _ e=>e),?_,a.ps⟩,rfl,rfl,fun k e=>.inl e⟩⟩⟩;obtain⟨F,p,C⟩:=a.inv;exact⟨F,p,((C.Bz (M':=M.BP n) (fun T x=>x.BP n) rfl rfl rfl rfl rfl).Bu j.b).more (by omega)⟩
  .refine VN L o w (.inl g) _ (fun y f=>?_)
   have b:=a.nil f;refine(Oe K L W v M o y ta tn tc S b.Bi b.Bz (fun k q e=>b.sep k q (by rw[e];exact .CY)) g j.a.1 j.a.2).mono ?_;rintro e E ⟨rfl,n,A,z,r⟩;refine⟨rfl,Plg.of (P:=RFoot L v M) (tv:=o.BN) (G.trans f) d j.BN ⟨r.mono (fun k _ e=>e.elim (fun e=>.inl (.inl e)) (fun e=>.inr (by rw[e];exact .CY))),.inr ⟨K,_,_,v,_,⟨A,z,b.sep,?_,a.ps,a.nv⟩,rfl,rfl,fun k e=>.inl (.inl e),fun k e=>.inl (.inr e)⟩⟩⟩;obtain⟨F,p,C⟩:=a.inv;exact⟨F,p,((C.Bz (M':=M.BP n) (fun T x=>x.BP n) rfl rfl).Bu j.b).more (by omega)⟩
 by_cases i:o.kind=14
 .obtain⟨tv,m,hs⟩:=h.st
  rcases hs with⟨K,L,W,X,N,M,a,rfl,c,d⟩|⟨K,L,W,v,M,a,rfl,c,d⟩
  .refine VN L o w (.inr i) _ (fun y f=>?_)
   have b:=a.nil f;refine(RL K L W X.LD M o y b.Ae.Bi b.Ae.marks (fun k q e=>b.Ae.sep k q (.inr (.inr (.inr (by rw[e,b.Ae.db];exact .CY))))) i j.a.1 j.a.2).mono ?_;rintro e E ⟨rfl,n,A,z,r⟩;refine⟨rfl,Plg.of (P:=PFoot L X M) (tv:=L.tv) (G.trans f) d (by rw[c];exact m) ⟨r.mono (fun k _ e=>.inr (.inr (.inr (.inr (by rw[e,b.Ae.db];exact .CY))))),.inl ⟨K,_,_,X,N,_,⟨b.Ae.cut A z (r.mono (fun k _ e=>.inr e)) rfl rfl (fun _ e=>e) (fun _ e=>e),?_,a.ps⟩,rfl,rfl,fun k e=>.inl e⟩⟩⟩;obtain⟨F,p,C⟩:=a.inv;exact⟨F,p,(C.Bz (M':=M.BD n o.b) (fun T x=>x.BD n o.b j.b.1 j.b.2) rfl rfl rfl rfl rfl).more (by omega)⟩
  .refine VN L o w (.inr i) _ (fun y f=>?_)
   have b:=a.nil f;refine(RL K L W v M o y b.Bi b.Bz (fun k q e=>b.sep k q (by rw[e];exact .CY)) i j.a.1 j.a.2).mono ?_;rintro e E ⟨rfl,n,A,z,r⟩;refine⟨rfl,Plg.of (P:=RFoot L v M) (tv:=L.tv) (G.trans f) d (by rw[c];exact m) ⟨r.mono (fun k _ e=>.inr (by rw[e];exact .CY)),.inr ⟨K,_,_,v,_,⟨A,z,b.sep,?_,a.ps,a.nv⟩,rfl,rfl,fun k e=>.inl (.inl e),fun k e=>.inl (.inr e)⟩⟩⟩;obtain⟨F,p,C⟩:=a.inv;exact⟨F,p,(C.Bz (M':=M.BD n o.b) (fun T x=>x.BD n o.b j.b.1 j.b.2) rfl rfl).more (by omega)⟩
 obtain⟨tv,m,hs⟩:=h.st;rcases hs with⟨K,L,W,X,N,M,a,rfl,c,d⟩|⟨K,L,W,v,M,a,rfl,c,d⟩
 .refine(Id D a ht o I s g i a1).mono ?_
  rintro e E ⟨rfl,C⟩;exact⟨rfl,Plg.of G d (by rw[c];exact m) C⟩
 .refine(Nv K L W o w a.Bi a.nv ⟨I,s,g,i⟩).mono ?_
  rintro e E ⟨rfl,f⟩;exact⟨rfl,(h.nil f).more (by omega)⟩
def Steps(w:World)(a:Addr)(b:List OpM):Prop:=∀ i (h:i<b.length) k,k<15->w.cell? ((a.add (i*15)).add k)=b[i].cells[k]?
theorem add_zero(a:Addr):a.add 0=a:=by unfold Addr.add;simp
theorem ZL(a:Addr)(k:Nat)(h:k≠0):a.add k=⟨a.block,a.off+k,none⟩:=by unfold Addr.add;simp[h]
theorem Yw(a:Addr)(i:Nat):(a.add i).block=a.block:=by unfold Addr.add;split <;> rfl
theorem Vn{w:World}{p:Addr}{v:Value}(h:w.cell? p=some v):p.block<w.heap.size:=by
 refine Cn fun a=>?_;unfold World.cell? at h;rw[FT a] at h;cases h
theorem KI{w:World}{p:Addr}{v:Value}(h:w.cell? p=some v):p.spot=none:=by
 unfold World.cell? at h;split at h
 .split at h
  .cases h
  .rename_i hs
   simpa using hs
 .cases h
theorem ZF:Tryz.prog.cellsOf 3=1:=by kernel_rfl
theorem Ll:Tryz.prog.cellsOf 4=1:=by kernel_rfl
theorem S7:Tryz.prog.cellsOf 9=1:=by kernel_rfl
theorem Lm:Tryz.prog.cellsOf 26=1:=by kernel_rfl
theorem KJ:Tryz.prog.cellsOf 34=2:=by kernel_rfl
theorem Ln:Tryz.prog.cellsOf 35=4:=by kernel_rfl
theorem VX:Tryz.prog.cellsOf 37=8:=by kernel_rfl
theorem Oh:Tryz.prog.cellsOf 39=15:=by kernel_rfl
theorem KL:Tryz.prog.cellsOf 23=4:=by kernel_rfl
theorem YO{H:Type}(d:DataW H):1<=Rows.uptoBulk d:=by
 cases d with
 | lit l=>cases l <;> simp[Rows.uptoBulk]
 | _=>simp[Rows.uptoBulk]
theorem Tg{H:Type}(k:Nat):∀ (l:List (DataW H)),(∀ d∈l,k<=Rows.uptoBulk d)->k*l.length<=Rows.uptoBulkAll l
 | [],_=>by simp
 | d::l,h=>by
  have b:=Tg k l (fun x a=>h x (Hb _ a));have c:=h d (Hf ..);simp only[Rows.uptoBulkAll,Hq,Nat.mul_add,Nat.mul_one];omega
section
variable {H:Type} {enc:TypeId × Value->H} {W:World} {sp:Nat->Bool} {held:Bool} {n:Nat}
theorem ZM{c:Value}{x:DataW H × List MemPlace}(h:DataW.trod enc Tryz.prog W 0 sp held n 3 [c]=some x):∃ k,c=.int .i64 k/\InR k:=by
 obtain⟨k,e,_,a⟩:=DataW.trod_int ET h;refine⟨k,by simpa using e,?_⟩;unfold Lit.wf at a;simp only[Gr,Ha] at a;have b:IntKind.i64.min=-9223372036854775808:=by decide
 have d:IntKind.i64.max=9223372036854775807:=by decide
 rw[b,d] at a;exact a
theorem JF{c:Value}{x:DataW H × List MemPlace}(A:sp=fun _=>true)(h:DataW.trod enc Tryz.prog W 0 sp held n 26 [c]=some x):Uo W c:=by
 subst A;rcases Deep.open_slice1 Eh ZF h with⟨v,_⟩|⟨a,b,d,m,L,V,D,K,v,_,I,C,hm,_,l⟩
 .have:c=.slice none 0 0:=by simpa using v
  exact⟨[],.inl ⟨⟨none,0,this⟩,rfl⟩,fun x t=>by cases t⟩
 .have hcv:c=.slice (some a) b d:=by simpa using v
  have J:m=d:=by rw[hm];rfl
  have E:∀ i,i<m->∃ k,V i=.int .i64 k/\InR k:=fun i p=>ZM (l i p).2;obtain⟨f,B⟩:∃ f:Nat->Int,∀ i,i<m->V i=.int .i64 (f i)/\InR (f i):=by
   classical
   refine⟨fun i=>if p:i<m then Classical.choose (E i p) else 0,fun i p=>?_⟩;simp only[CN p];exact Classical.choose_spec (E i p)
  by_cases G:b=0
  .subst G
   exact⟨[],.inl ⟨⟨some a,d,hcv⟩,rfl⟩,fun x t=>by cases t⟩
  .have hc0:=(l 0 (by omega)).1
   rw[add_zero] at hc0;have s:=KI hc0;have r:=Vn hc0;obtain⟨g,o,F⟩:=a;simp only at s r;subst s;have z:((List.range b).map f).length=b:=by simp
   refine⟨(List.range b).map f,.inr ⟨g,o,d,by rw[z];exact hcv,r,by rw[z];omega,fun j y=>?_⟩,fun x t=>?_⟩
   .rw[z] at y
    have u:=(l j (by omega)).1;rw[(B j (by omega)).1] at u;have e:Addr.add ⟨g,o,none⟩ j=⟨g,o+j,none⟩:=by
     by_cases q:j=0
     .subst q;rw[add_zero];rfl
     .rw[ZL _ _ q]
    rw[e] at u
    simpa using u
   .obtain⟨j,y,rfl⟩:=Gc.1 t
    exact(B j (by have:=FY.1 y;omega)).2
theorem Th{c:Value}{x:DataW H × List MemPlace}(h:DataW.trod enc Tryz.prog W 0 sp held n 9 [c]=some x):∃ s,c=.string s:=by
 obtain⟨k,a,_⟩:=DataW.trod_string GX h;exact⟨k,by simpa using a⟩
theorem JG{c:Value}{x:DataW H × List MemPlace}(h:DataW.trod enc Tryz.prog W 0 sp held n 4 [c]=some x):∃ b,c=.bool b:=by
 obtain⟨k,a,_⟩:=DataW.trod_bool Ct h;exact⟨k,by simpa using a⟩
theorem ZX{α:Type}{l:List α}{i k:Nat}(b:l.length=k)(a:i<k):∃ x,l[i]?=some x:=⟨l[i]'(by omega),IW (by omega)⟩
theorem Oi{p:List Value}{x:DataW H × List MemPlace}(h:DataW.trod enc Tryz.prog W 0 sp held n 23 p=some x):∃ a b c d,p=[.int .i64 a,.int .i64 b,.int .i64 c,.int .i64 d]/\InR b:=by
 obtain⟨o,m,_,_,v,e,l⟩:=Do DZ h;rw[KL] at v
 match p,v with
 | [f,g,j,k],_ =>
  have q:DataW.trod enc Tryz.prog W 0 sp held m 3 (([f,g,j,k].drop 0).take (Tryz.prog.cellsOf 3))=o[0]?:=l 0 _ rfl;have r:DataW.trod enc Tryz.prog W 0 sp held m 3 (([f,g,j,k].drop 1).take (Tryz.prog.cellsOf 3))=o[1]?:=l 1 _ rfl;have t:DataW.trod enc Tryz.prog W 0 sp held m 3 (([f,g,j,k].drop 2).take (Tryz.prog.cellsOf 3))=o[2]?:=l 2 _ rfl;have u:DataW.trod enc Tryz.prog W 0 sp held m 3 (([f,g,j,k].drop 3).take (Tryz.prog.cellsOf 3))=o[3]?:=l 3 _ rfl;obtain⟨E,y⟩:=ZX (i:=0) e (by decide);obtain⟨F,z⟩:=ZX (i:=1) e (by decide);obtain⟨G,A⟩:=ZX (i:=2) e (by decide);obtain⟨I,B⟩:=ZX (i:=3) e (by decide);rw[y,ZF] at q;rw[z,ZF] at r;rw[A,ZF] at t;rw[B,ZF] at u;obtain⟨a,rfl,_⟩:=ZM q;obtain⟨b,rfl,D⟩:=ZM r;obtain⟨c,rfl,_⟩:=ZM t;obtain⟨d,rfl,_⟩:=ZM u;exact⟨a,b,c,d,rfl,D⟩
theorem Oj{y:List Value}{x:DataW H × List MemPlace}(h:DataW.trod enc Tryz.prog W 0 sp held n 37 y=some x):(∃ v:Ver,y=v.cells)/\5<=Rows.uptoBulk x.1:=by
 obtain⟨j,m,_,hx,G,a,t⟩:=Do Tryz.underlying37 h;rw[VX] at G;refine⟨?_,?_⟩
 .match y,G with
  | [e,f,k,l,o,p,q,r],_ =>
   have z:DataW.trod enc Tryz.prog W 0 sp held m 34 (([e,f,k,l,o,p,q,r].drop 0).take (Tryz.prog.cellsOf 34))=j[0]?:=t 0 _ rfl;have A:DataW.trod enc Tryz.prog W 0 sp held m 35 (([e,f,k,l,o,p,q,r].drop 2).take (Tryz.prog.cellsOf 35))=j[1]?:=t 1 _ rfl;have B:DataW.trod enc Tryz.prog W 0 sp held m 9 (([e,f,k,l,o,p,q,r].drop 6).take (Tryz.prog.cellsOf 9))=j[2]?:=t 2 _ rfl;have C:DataW.trod enc Tryz.prog W 0 sp held m 4 (([e,f,k,l,o,p,q,r].drop 7).take (Tryz.prog.cellsOf 4))=j[3]?:=t 3 _ rfl;obtain⟨x0,Y⟩:=ZX (i:=0) a (by decide);obtain⟨x1,e1⟩:=ZX (i:=1) a (by decide);obtain⟨x2,e2⟩:=ZX (i:=2) a (by decide);obtain⟨x3,e3⟩:=ZX (i:=3) a (by decide);rw[Y,KJ] at z;rw[e1,Ln] at A;rw[e2,S7] at B;rw[e3,Ll] at C;obtain⟨s,rfl⟩:=Th B;obtain⟨b,rfl⟩:=JG C;obtain⟨N,M,_,_,_,g,F⟩:=Do Tryz.underlying34 z;have D:DataW.trod enc Tryz.prog W 0 sp held M 3 (([e,f].drop 0).take (Tryz.prog.cellsOf 3))=N[0]?:=F 0 _ rfl;have E:DataW.trod enc Tryz.prog W 0 sp held M 3 (([e,f].drop 1).take (Tryz.prog.cellsOf 3))=N[1]?:=F 1 _ rfl;obtain⟨y0,V⟩:=ZX (i:=0) g (by decide);obtain⟨y1,X⟩:=ZX (i:=1) g (by decide);rw[V,ZF] at D;rw[X,ZF] at E;obtain⟨i0,rfl,_⟩:=ZM D;obtain⟨i1,rfl,_⟩:=ZM E;obtain⟨zs,m2,_,_,_,c,u⟩:=DataW.trod_array Tryz.underlying35 A;have I:=u 0 (by decide);have J:=u 1 (by decide);have K:=u 2 (by decide);have L:=u 3 (by decide);obtain⟨z0,Q⟩:=ZX (i:=0) c (by decide);obtain⟨z1,R⟩:=ZX (i:=1) c (by decide);obtain⟨z2,S⟩:=ZX (i:=2) c (by decide);obtain⟨z3,T⟩:=ZX (i:=3) c (by decide);rw[Q,ZF] at I;rw[R,ZF] at J;rw[S,ZF] at K;rw[T,ZF] at L;obtain⟨o0,rfl,_⟩:=ZM I;obtain⟨o1,rfl,_⟩:=ZM J;obtain⟨o2,rfl,_⟩:=ZM K;obtain⟨o3,rfl,_⟩:=ZM L;exact⟨⟨i0,i1,o0,o1,o2,o3,s,b⟩,rfl⟩
 .rw[hx]
  have:=Tg 1 (j.map (·.1)) (fun d _=>YO d);rw[Hy,a] at this;simp only[Rows.uptoBulk];exact Nat.succ_le_succ this
theorem Ii(A:sp=fun _=>true){a:List Value}{x:DataW H × List MemPlace}(h:DataW.trod enc Tryz.prog W 0 sp held n 39 a=some x):(∃ o:OpM,a=o.cells/\Wk W o)/\13<=Rows.uptoBulk x.1:=by
 obtain⟨b,m,_,K,E,D,c⟩:=Do Tryz.underlying39 h;rw[Oh] at E;have k:DataW.trod enc Tryz.prog W 0 sp held m 3 ((a.drop 0).take (Tryz.prog.cellsOf 3))=b[0]?:=c 0 _ rfl;have l:DataW.trod enc Tryz.prog W 0 sp held m 3 ((a.drop 1).take (Tryz.prog.cellsOf 3))=b[1]?:=c 1 _ rfl;have p:DataW.trod enc Tryz.prog W 0 sp held m 3 ((a.drop 2).take (Tryz.prog.cellsOf 3))=b[2]?:=c 2 _ rfl;have q:DataW.trod enc Tryz.prog W 0 sp held m 3 ((a.drop 3).take (Tryz.prog.cellsOf 3))=b[3]?:=c 3 _ rfl;have r:DataW.trod enc Tryz.prog W 0 sp held m 9 ((a.drop 4).take (Tryz.prog.cellsOf 9))=b[4]?:=c 4 _ rfl;have s:DataW.trod enc Tryz.prog W 0 sp held m 9 ((a.drop 5).take (Tryz.prog.cellsOf 9))=b[5]?:=c 5 _ rfl;have t:DataW.trod enc Tryz.prog W 0 sp held m 37 ((a.drop 6).take (Tryz.prog.cellsOf 37))=b[6]?:=c 6 _ rfl;have u:DataW.trod enc Tryz.prog W 0 sp held m 26 ((a.drop 14).take (Tryz.prog.cellsOf 26))=b[7]?:=c 7 _ rfl;have d:b.length=8:=D
 match b,d with
 | [T,V,X,Y,x4,x5,x6,x7],_ =>
  simp only[GQ,GP] at k l p q r s t u;rw[ZF] at k l p q;rw[S7] at r s;rw[VX] at t;rw[Lm] at u;obtain⟨B,hb⟩:=Oj t;refine⟨?_,?_⟩
  .match a,E with
   | [c0,c1,c2,c3,c4,c5,F,G,I,J,e,f,g,i,j],_ =>
    obtain⟨L,rfl,_⟩:=ZM k;obtain⟨M,rfl,y⟩:=ZM l;obtain⟨N,rfl,z⟩:=ZM p;obtain⟨Q,rfl,_⟩:=ZM q;obtain⟨R,rfl⟩:=Th r;obtain⟨S,rfl⟩:=Th s;obtain⟨v,B⟩:=B;have C:[F,G,I,J,e,f,g,i]=v.cells:=B;refine⟨⟨L,M,N,Q,R,S,v,j⟩,?_,y,z,JF A u⟩;unfold OpM.cells;rw[<- C]
    rfl
  .rw[K]
   simp only[Rows.uptoBulk,Ht,Fo,Rows.uptoBulkAll];have a0:=YO T.1;have a1:=YO V.1;have a2:=YO X.1;have a3:=YO Y.1;have a4:=YO x4.1;have a5:=YO x5.1;have a7:=YO x7.1;omega
end
theorem JH{w:World}{a:Addr}{n:Nat}{b:List Value}(h:w.cells? 0 a n=some b)(k:Nat)(c:k<n):w.cell? (a.add k)=b[k]?:=by
 unfold World.cells? at h;rw[He (Hg _)] at h;exact mapM_some_get h k k (by simp[c])
theorem UV{H:Type}{enc:TypeId × Value->H}{W:World}{l:Nat}{A:List Value}{x:DataW H × List MemPlace}(h:DataW.trod enc Tryz.prog W 0 (fun _=>true) true l 24 A=some x) :
 ∃ (F:Option Addr) (c:Nat) (t:List OpM),A=[.slice F t.length c]/\(t≠[]->∃ a,F=some a/\a.block<W.heap.size/\Steps W a t)/\(∀ o∈t,Wk W o)/\13*t.length<=Rows.uptoBulk x.1:=by
 rcases Deep.open_slice Ca h with⟨rfl,rfl⟩|⟨a,b,u,m,n,D,Q,rfl,R,M,E,hm,N,v⟩
 .exact⟨none,0,[],rfl,fun e=>absurd rfl e,fun o p=>by(cases p),by simp⟩
 .have hlm:b<=m:=by rw[hm];split <;> omega
  have q:∀ i,i<b->∃ o:OpM,W.cells? 0 (a.add (i*15)) 15=some o.cells/\Wk W o/\13<=Rows.uptoBulk (D i):=fun i j=>by
   obtain⟨G,B,I⟩:=v i (by omega);rw[Oh] at B;obtain⟨⟨o,rfl,p⟩,J⟩:=Ii rfl I;exact⟨o,B,p,J⟩
  obtain⟨f,y⟩:∃ f:Nat->OpM,∀ i,i<b->W.cells? 0 (a.add (i*15)) 15=some (f i).cells/\Wk W (f i)/\13<=Rows.uptoBulk (D i):=by
   classical
   refine⟨fun i=>if j:i<b then Classical.choose (q i j) else⟨0,0,0,0,ByteArray.empty,ByteArray.empty,⟨0,0,0,0,0,0,ByteArray.empty,false⟩,.bool false⟩,fun i j=>?_⟩;simp only[CN j];exact Classical.choose_spec (q i j)
  have g:((List.range b).map f).length=b:=by simp
  have r:Steps W a ((List.range b).map f):=fun i j k L=>by
   rw[g] at j;rw[JH (y i j).1 k L];simp
  refine⟨some a,u,(List.range b).map f,by rw[g],fun z=>⟨a,rfl,?_,r⟩,fun o p=>?_,?_⟩
  .have hpos:0<b:=Nat.pos_of_ne_zero fun e=>z (by rw[e];rfl)
   have:=r 0 (by rw[g];exact hpos) 0 (by decide);rw[DK,add_zero,add_zero] at this;exact Vn this
  .obtain⟨i,j,rfl⟩:=Gc.1 p
   exact(y i (FY.1 j)).2.1
  .rw[g,N]
   simp only[Rows.uptoBulk];have:=Tg 13 ((List.range b).map D) (fun d K=>by
    obtain⟨i,j,rfl⟩:=Gc.1 K;exact(y i (FY.1 j)).2.2)
   rw[Hy,List.length_range] at this;omega
structure NInv(T:Nat)(W:WM)(N:NM)(M:DM)(m:LM)(t:Nat):Prop where
 log:zI T N.J M t
 held:Zm N.S
 keys:m.keys=N.S.keys
 hints:m.hints=N.S.hints
 self:m.node=N.self
 ro:N.readOnly=false
 broken:W.broken=false
 most:W.most<=N.given
 given:N.given<=N.S.Ba
 Br:N.S.Ba<=16*W.calls
 keeps:∃ ss,Keeps N M ss True
 calls:W.calls<=t
 nw:N.writes<=t
 ww:W.writes<=t
 nk:N.S.keys.length<=t
 last:W.st[W.st.length-1]?=some m
 len:W.st.length<=t+1
 next:W.next<=t
 base:W.base<=100000
 yj:W.bk.vs.length<=4*t
 yg:W.bk.vm.length<=4*t
 yl:W.bk.ns.length<=4*t
 ye:W.bk.nm.length<=4*t
 yk:W.bk.hs.length<=4*t
 yf:W.bk.hm.length<=4*t
 node:W.node=(m.node:Int)
theorem NInv.tt{T:Nat}{W:WM}{N:NM}{M:DM}{m:LM}{t:Nat}(h:NInv T W N M m t)(a:t<=T):t<=100000000:=by have:=h.log.room;omega
theorem NInv.ver{T:Nat}{W:WM}{N:NM}{M:DM}{m:LM}{t:Nat}(h:NInv T W N M m t)(key:ByteArray):zE m.keys key=zj N.S.keys key:=by
 rw[h.keys];exact T1 key h.held.Al
structure Took(W W':WM)(m:LM):Prop where
 broken:W'.broken=W.broken
 most:W'.most=W.most
 calls:W'.calls=W.calls
 writes:W'.writes<=W.writes+1
 last:W'.st[W'.st.length-1]?=some m
 len:W'.st.length<=W.st.length+1
 next:W'.next=W.next
 base:W'.base=W.base
 bk:W'.bk=W.bk
 node:W'.node=W.node
theorem Ij(W:WM)(m:LM):Took W (W.BS m) m:=by
 unfold WM.BS;simp only;split
 .refine⟨rfl,rfl,rfl,IQ _,?_,?_,rfl,rfl,rfl,rfl⟩
  .simp only[IM,IU,Hi]
   rw[Fa];have:W.st.length+1-1+(W.st.length+1-(W.st.length+1-1)-1)=W.st.length:=by omega
   rw[this,Fk (IQ _)];simp
  .simp only[IM,IU,Hi]
   omega
 .refine⟨rfl,rfl,rfl,IQ _,?_,?_,rfl,rfl,rfl,rfl⟩
  .simp only[IM,IU]
   rw[Fk (by omega)];simp
  .simp
theorem NInv.wrote{T:Nat}{W c y:WM}{N b:NM}{M v:DM}{m s:LM}{t u:Nat}(h:NInv T W N M m t)(K:t+1<=u)(a:Took c y s)(E:c.broken=W.broken/\c.writes=W.writes/\c.st=W.st/\c.next=W.next/\c.base=W.base/\c.bk=W.bk/\c.node=W.node)
 (r:zI T b.J v u)(k:Zm b.S)(o:s.keys=b.S.keys)(g:s.hints=b.S.hints)(d:s.node=m.node)(j:b.self=N.self)(x:b.readOnly=N.readOnly)
 (p:c.most<=b.given)(f:b.given<=b.S.Ba)(i:b.S.Ba<=16*c.calls)(l:∃ I,Keeps b v I True)(e:c.calls<=u)(G:b.writes<=N.writes+1)(F:b.S.keys.length<=N.S.keys.length+1):NInv T y b v s u:=by
 obtain⟨z,J,A,B,C,q,D⟩:=E;exact⟨r,k,o,g,by rw[d,h.self,j],x.trans h.ro,by rw[a.broken,z,h.broken],by rw[a.most];exact p,f,by rw[a.calls];exact i,l,by rw[a.calls];exact e,by have:=h.nw;omega,by have:=h.ww;have:=a.writes;omega,by have:=h.nk;omega,a.last,by have:=a.len;have:=h.len;rw[A] at *;omega,by rw[a.next,B];have:=h.next;omega,by rw[a.base,C];exact h.base,
  by rw[a.bk,q];have:=h.yj;omega,by rw[a.bk,q];have:=h.yg;omega,by rw[a.bk,q];have:=h.yl;omega,by rw[a.bk,q];have:=h.ye;omega,by rw[a.bk,q];have:=h.yk;omega,by rw[a.bk,q];have:=h.yf;omega,by rw[a.node,D,h.node,d]⟩
theorem NInv.yV{T:Nat}{W:WM}{N:NM}{M:DM}{m:LM}{t:Nat}(h:NInv T W N M m t)(c:N.self<4)(l:N.given<1000000000000)(key a:ByteArray)(g:a.size<=128) :
 m.putV key a ((N.given+1:Nat):Int)=⟨N.self,((N.given+1:Nat):Int),grV (zj N.S.keys key) 0,grV (zj N.S.keys key) 1,grV (zj N.S.keys key) 2,grV (zj N.S.keys key) 3,a,false⟩/\VOk (m.putV key a ((N.given+1:Nat):Int)):=by
 have e:m.putV key a ((N.given+1:Nat):Int)=⟨N.self,((N.given+1:Nat):Int),grV (zj N.S.keys key) 0,grV (zj N.S.keys key) 1,grV (zj N.S.keys key) 2,grV (zj N.S.keys key) 3,a,false⟩:=by
  unfold LM.putV;rw[h.ver,h.self]
 refine⟨e,?_⟩;rw[e];have b:∀ u∈zj N.S.keys key,u.Nat:=fun u i=>((h.held.get key).2.2 u i).nat;have d:(0:Int)<=((N.self:Nat):Int):=by omega
 have f:((N.self:Nat):Int)<4:=by omega
 have j:(0:Int)<=((N.given+1:Nat):Int):=by omega
 have k:((N.given+1:Nat):Int)<9223372036854775808:=by omega
 exact⟨⟨d,f⟩,⟨⟨d,CV f (by decide)⟩,⟨j,k⟩,Ye _ _ b,Ye _ _ b,Ye _ _ b,Ye _ _ b,by show a.size<_;omega⟩,g,by show(1:Int)<=((N.given+1:Nat):Int);omega,rfl⟩
theorem NInv.xf{T:Nat}{W:WM}{N:NM}{M:DM}{m:LM}{t:Nat}(h:NInv T W N M m t)(b:N.self<4)(f:N.given<1000000000000)(key a:ByteArray)(g:a.size<=128) :
 ∀ c:NM,c.S.keys=N.S.keys->c.self=N.self->putV key a c (N.given+1)=[m.putV key a ((N.given+1:Nat):Int)]:=by
 intro c d e;rw[(h.yV b f key a g).1];unfold putV;rw[d,e]
theorem NInv.put{T:Nat}{W:WM}{N:NM}{M:DM}{m:LM}{t H0:Nat}(h:NInv T W N M m t)(hT:t+8<=T)(d:N.self<4)(c:∀ g∈M.ids,g<H0)(key a:ByteArray)(b:zp key=true)(k:a.size<=128) :
 (∀ H,H0<=H->Xe N M H key (putV key a))/\∀ f g,H0<=f->H0<=g->Apart2 N M f g->(N.put M key a f g).2.1=0/\(N.put M key a f g).2.2.2.refused=M.refused/\W.most<(N.put M key a f g).1/\(N.put M key a f g).1<=16*(W.calls+1) /\
   NInv T (({W with calls:=W.calls+1,most:=(N.put M key a f g).1}:WM).BS (m.put key a (N.put M key a f g).1)) (N.put M key a f g).2.2.1 (N.put M key a f g).2.2.2 (m.put key a (N.put M key a f g).1) (t+8):=by
 have R:=h.tt (by omega);have o:N.given<1000000000000:=by have:=h.given;have:=h.Br;have:=h.calls;omega
 have V:=h.yV d (by omega) key a k;have q:=h.xf d (by omega) key a k;have i:∀ u∈[m.putV key a ((N.given+1:Nat):Int)],VOk u:=by intro u G;rw[IZ] at G;subst G;exact V.2
 have j:=YL b i (by simp);refine⟨fun H y=>Kh h.log (by omega) H (fun g F=>Gd (c g F) y) key _ _ o q (Xo b i (by simp)) j (by have:=h.nk;omega) h.held.hlen (by have:=h.nw;omega),fun f g hf F E=>?_⟩;have l:f∉M.ids:=fun hm=>by have:=c f hm;omega
 have r:g∉M.ids:=fun hm=>by have:=c g hm;omega
 obtain⟨J',M',I,wr,e,X,A,B,D⟩:=PO h.log (by omega) (by omega) key (putV key a) _ f g l r E q j;obtain⟨ss,z⟩:=h.keeps;obtain⟨_,_,Y,J,_⟩:=Ui h.log (by omega) o f l;obtain⟨C,s,_⟩:=(z.mono (fun _=>trivial)).put o key a f g l r E (fun _ _=>by
  rw[J];simp only;rw[q] <;> first|rfl|exact XG b i (by simp))
 have K:N.put M key a f g=N.replace M key (putV key a) f g:=by
  unfold NM.put;rw[IV (by rw[b];decide),IV (by omega),IV (by rw[h.ro];decide)]
 rw[K,e] at s |-;have x:=s.mono (fun(_:True)=>h.ro);have y:=(h.held.Ba I).holds key b [m.putV key a ((N.given+1:Nat):Int)] (by unfold Yl Asc;simp) (by simp) i;have hc:=B h.given;have Q:=h.most;have L:=h.Br;refine⟨rfl,D.refused,by show W.most<N.given+1;omega,by show N.given+1<=16*(W.calls+1);omega,?_⟩;refine h.wrote (by omega) (Ij _ _) ⟨rfl,rfl,rfl,rfl,rfl,rfl,rfl⟩ (D.log.more (by omega)) y ?_ h.hints rfl rfl rfl (IQ _) (by show N.given+1<=(SM.holds _ _ _).Ba;rw[ZQ];exact A) (by show(SM.holds _ _ _).Ba<=16*(W.calls+1);rw[ZQ];show I<=_;omega) ⟨C,x⟩ (by have:=h.calls;show W.calls+1<=_;omega) X (Rw _ _ _);show zX m.keys key _=_;rw[h.keys,Zo key _ h.held.Al]
 rfl
structure Fresh(T:Nat)(M:DM):Prop where
 dir:M.dir=[]
 safe:M.safe=[]
 ids:M.ids=[]
 Bj:M.Bj=[]
 dead:M.dead=false
 cut:M.cut=0
 fail:M.fail=0
 part:M.part=0
 calls:M.calls=0
 room:2000*(T:Int)<=M.room/\M.room<=1152921504606846976/\T<=100000000
theorem zI.fresh{T a:Nat}{M:DM}(h:Fresh T M):zI T (JM.none a) M 0 where
 calm:=⟨h.dead,h.cut,h.fail,by rw[h.calls];decide⟩
 calls:=by rw[h.calls];decide
 room:=h.room
 part:=h.part
 last:=IQ _
 size:=IQ _
 names:=fun e b=>by rw[h.dir] at b;cases b
 cur:=fun i=>absurd rfl i
 BG:=by unfold DM.BG;rw[h.dir];exact IQ _
 Bj:=by rw[h.Bj];exact IQ _
 dir:=by rw[h.dir];exact IQ _
 ids:=fun g f=>by rw[h.ids] at f;cases f
 BQ:=fun e b=>by rw[h.dir] at b;cases b
 once:=by rw[h.dir];exact Eb
 Aq:=by rw[h.ids];exact IQ _
 Bu:=fun d c=>by rw[h.safe,h.Bj] at c;simp only[IZ] at c;rw[c];exact IQ _
theorem NInv.CX{T:Nat}{M:DM}(h:Fresh T M)(node l sync:Nat)(j s y:Int)(a:Nat)(m:a<=100000):NInv T (WM.CX node j s y a) (NM.fresh node l sync) M ⟨node,[],[]⟩ 0 where
 log:=zI.fresh h
 held:=⟨List.Pairwise.nil,fun e c=>absurd c (by intro h;cases h),Hg _,fun e c=>absurd c (by intro h;cases h)⟩
 keys:=rfl
 hints:=rfl
 self:=rfl
 ro:=rfl
 broken:=rfl
 most:=IQ _
 given:=IQ _
 Br:=Hg _
 keeps:=⟨[],⟨⟨by unfold DM.view;rw[h.dir];rfl,by rw[h.dir];exact Eb,fun e c=>by rw[h.dir] at c;cases c⟩,by rw[h.part];decide,(fun s hs=>by cases hs),rfl,(fun i=>by simp[ze,SM.nil]),fun _=>rfl⟩⟩
 calls:=IQ _
 nw:=IQ _
 ww:=IQ _
 nk:=IQ _
 last:=rfl
 len:=IQ _
 next:=IQ _
 base:=m
 yj:=IQ _
 yg:=IQ _
 yl:=IQ _
 ye:=IQ _
 yk:=IQ _
 yf:=IQ _
 node:=rfl
def S8:ByteArray:={data:=#[107]}
def QM:ByteArray:={data:=#[118]}
theorem Fresh.new{T:Nat}{c:Int}(h:2000*(T:Int)<=c/\c<=1152921504606846976/\T<=100000000):Fresh T (DM.new c):=⟨rfl,rfl,rfl,rfl,rfl,rfl,rfl,rfl,rfl,h⟩
theorem KM(m:LM)(b:m.keys=[])(key a:ByteArray)(n:Int):zE (m.put key a n).keys key=[⟨m.node,n,0,0,0,0,a,false⟩]:=by
 have e:(m.put key a n).keys=[(key,[m.putV key a n])]:=by
  unfold LM.put zX;simp only[b,List.foldl_nil]
  rfl
 rw[e];have c:m.putV key a n=⟨m.node,n,0,0,0,0,a,false⟩:=by
  unfold LM.putV;rw[b]
  rfl
 rw[c];unfold zE;rw[Dm (by simp[zT])]
theorem JI(Q:zz)(B:Nat)(w:World)(A:YX B w)(hB:B<=w.heap.size) :
 Calls Tryz.prog 15 #[] w fun e w'=>e=.returned (.bool true)/\Fr Nil w w':=by
 have x:=Z A;have j:=Z hB;clear A hB;go_enter Tryz.func15,Tryz.ntmps15;go_wp2_with fail;refine(Rf 100000 w).mono ?_;rintro e w1 ⟨rfl,E,v,a0⟩;have C:Hid (Fresh 45 (DM.new 100000)):=Fresh.new ⟨by decide,by decide,by decide⟩;generalize DM.new 100000=m at E C;have o:Hid (∀ k,Foot w.heap.size DL.new m k->w.heap.size<=k):=fun k F=>by
  cases F using Foot.elim with
  | blk=>exact IQ _
  | dir h=>simp[DL.new,Value.ownBlock] at h
  | safe h=>simp[DL.new,Value.ownBlock] at h
  | ch h=>simp[DL.new,Value.ownBlock] at h
  | chs i M h=>simp[DL.new] at M
  | file h=>rw[C.out.ids] at h;cases h
  | row f hf h=>rw[C.out.ids] at hf;cases hf
 have X:Lies m []:=⟨by unfold DM.view;rw[C.out.dir];rfl,by rw[C.out.dir];exact Eb,fun e he=>by rw[C.out.dir] at he;cases he⟩;have D:=Z (Un B w.heap.size DL.new m 2 1000 0 [] (by decide) w1 E X (fun s hs=>by cases hs) (by decide) (fun i=>by simp[ze,SM.nil]) (x.out.fr j.out v (fun _ e=>absurd e id)) (IP j.out v.size) (fun k F=>IP j.out (o.out k F)));rw[show NM.opened 2 1000 0 []=NM.fresh 2 1000 0 from rfl] at D;have J:=Z v;clear E v a0 X;go_wp2_with fail;refine D.out.mono ?_;rintro e w4 ⟨X4,rfl,G,a5,q,_,R⟩;have F4:=J.out.trans' (S':=Foot w.heap.size DL.new m) R (fun i hi e=>by have:=o.out i e;omega);have b:∀ k,NFoot X4 m k->w.heap.size<=k:=fun k F=>(q k F).elim (o.out k) (fun e=>IP J.out.size e);have N:Ym B X4 m w4:=⟨(x.out.fr j.out F4 (fun _ e=>absurd e id)).1,IP j.out F4.size,fun k F=>IP j.out (b k F)⟩;have z:=NInv.CX C.out 2 1000 0 0 0 0 0 (Hg _);have r:∀ g∈m.ids,g<w4.heap.size:=fun g hg=>(G.Bz.files g hg).lt;have t:=z.put (H0:=w4.heap.size) (by omega) (by show 2<4;omega) r S8 QM (by decide) (by decide);have p:=Z (W9 Q B X4 (NM.fresh 2 1000 0) m S8 QM w4 G N (fun u hu=>by cases hu) (fun _ _ _=>t.1 _ (IQ _)));have L:=Z t.2;have a1:=Z F4;have K:=Z b;clear G a5 q R F4 b N z r t;unfold S8 QM at p;go_wp2_with fail;refine p.out.mono ?_;rintro e w5 ⟨f,g,X5,rfl,S,V,y,l⟩;obtain⟨M,-,h2,h3,c⟩:=L.out f g S V y;have a:=c.ver S8;rw[KM _ rfl] at a;unfold S8 QM at c a M h2 h3;obtain⟨n,hn⟩:∃ n,n=((NM.fresh 2 1000 0).put m {data:=#[107]} {data:=#[118]} f g).1:=⟨_,rfl⟩;rw[<- hn] at h2 h3 a |-;rw[M];have Y:=c.nk;generalize ((NM.fresh 2 1000 0).put m {data:=#[107]} {data:=#[118]} f g).2.2.1=N5 at l a Y;generalize ((NM.fresh 2 1000 0).put m {data:=#[107]} {data:=#[118]} f g).2.2.2=M5 at l;have F5:=a1.out.trans' (S':=NFoot X4 m) l.fr (fun i hi e=>by have:=K.out i e;omega);have d:=Z (WP X5 N5 M5 {data:=#[107]} w5 l.CZ (by omega) (by rw[<- a];simp));rw[l.same.nb,show zp {data:=#[107]}=true from by decide] at d;simp only[Gi] at d;rw[<- a] at d;have a2:=Z F5;have a9:(1:Int)<=(n:Int):=by have a7:(0:Nat)<n:=h2;omega
 have b0:(n:Int)<=32:=by have a8:n<=16*(0+1):=h3;omega
 have b1:((n:Int)==n)=true:=by simp
 clear l c F5 L p D S V y M h2 h3 a hn Y;go_wp2_with fail;refine d.out.mono ?_;rintro e w6 ⟨v6,rfl,I,T,a6⟩;obtain⟨g6,c6,rfl,_,_⟩:=zm I (by simp);have hc:=VRow.cells I 0 (by simp);have c0:=hc 0 (by omega);have c1:=hc 1 (by omega);have a4:=hc 6 (by omega);simp only[Ver.cells,GJ,DK,Gg] at c0 c1 a4;have a3:=Z (a2.out.trans T);clear I T a6 hc;simp only[IU];go_wp2_with fail;go_ret;exact⟨rfl,a3.out⟩
theorem Uo.fr{w w':World}{v:Value}(h:Uo w v)(f:Fr Nil w w'):Uo w' v:=by
 obtain⟨l,c,e⟩:=h;exact⟨l,c.fr f (fun _ _ _=>id),e⟩
theorem Wk.fr{w w':World}{o:OpM}(h:Wk w o)(f:Fr Nil w w'):Wk w' o:=⟨h.a,h.b,h.BN.fr f⟩
theorem Sh.CX(node c o r:Int)(x:InR c):Sh (WM.CX node c o r 0) (DM.new (Yz c)) [] 0 0 where
 lg:=by
  refine⟨[],?_,rfl⟩;have t:0<=Yz c/\Yz c<9223372036854775808:=by
   have y:=x.2;unfold Yz;split <;> omega
  exact {
   bd:=⟨FL _,FL _,FL _,FL _,FL _,t.1,t.2,FL _,IQ _,Eb,IQ _,(fun e h=>by cases h),Eb,IQ _,(fun d u=>by rw[show DM.safe (DM.new (Yz c))::DM.Bj (DM.new (Yz c))=[[]] from rfl,IZ] at u;subst u;exact IQ _),IQ _⟩
   BC:=⟨rfl,Eb,fun e h=>by cases h⟩
   ok:=fun s hs=>by cases hs
   Ai:=fun i=>by simp[ze,SM.nil]
   pre:=fun D l=>by rw[show DM.safe (DM.new (Yz c))::DM.Bj (DM.new (Yz c))=[[]] from rfl,IZ] at l;subst l;exact CH
   le:=fun e h=>by cases h
   full:=fun e h=>by cases h
   AH:=fun D l=>Hg _}
 cm:=⟨fun m hm=>by
  have j:m∈[(⟨node,[],[]⟩:LM)]:=hm;rw[IZ] at j;subst j;exact⟨List.Pairwise.nil,IQ _,fun e h=>(by cases h),Hg _,fun e h=>(by cases h),rfl⟩,IQ _,IQ _,IQ _,Nat.zero_lt_one,IQ _,Hg _,IQ _,IQ _,IQ _,IQ _,IQ _,IQ _,⟨by show(-9223372036854775808:Int)<=0;decide,by show(0:Int)<=9223372036854775807;decide⟩⟩
 room:=rfl
 all:=.inl ⟨fun q a b=>by
  have:q=0:=Nat.le_zero.1 b;subst this;exact⟨⟨List.Pairwise.nil,fun e h=>(by cases h),Hg _,fun e h=>(by cases h)⟩,IQ _,Hg _,fun e h=>(by cases h)⟩,.inl (Hist.one ⟨node,[],[]⟩ ⟨rfl,rfl⟩)⟩
theorem Ok(q:zz)(S:List Int)(d1:(15:Int)∈S)(d2:(1:Int)∉S)(d9:S.length<1000)(B:Nat)(node d j l:Int)(Y:InR d)(sa:Option Addr)(c:Nat)(J:List OpM)(wv:Value)(w:World)(R:YX B w)(hB:B<=w.heap.size)(b4:J≠[]->∃ a,sa=some a/\a.block<w.heap.size/\Steps w a J)(b3:∀ o∈J,Wk w o)(b0:J.length<=81000)(I:w.ownsRow 0 3 1 wv S.length (S.map (.int .i64 ·))) :
 Calls Tryz.prog 14 #[.agg #[.int .i64 node,.int .i64 d,.int .i64 j,.int .i64 l],.slice sa J.length c,wv] w fun e w'=>e=.returned (.bool true)/\Fr Nil w w':=by
 have G:=Blk.new w [.int .i64 node,.int .i64 d,.int .i64 j,.int .i64 l] 23;have f1:Fr Nil w (w.alloc (.cells #[.int .i64 node,.int .i64 d,.int .i64 j,.int .i64 l] 23)):=(O _ _).alloc _;have L:=Z R;have z:=Z hB;have d8:=Z I;have c9:=Z b4;have a3:=Z (fun wx (f:Fr Nil w wx) k=>N7 wv S k wx (zb I f (fun _ _=>id)) (by omega));obtain⟨wa,wc,rfl⟩:=zc I;have c7:=Z b3;clear R hB I b4 b3;go_enter Tryz.func14,Tryz.ntmps14;go_wp2_with fail;generalize w.alloc (.cells #[.int .i64 node,.int .i64 d,.int .i64 j,.int .i64 l] 23)=w1 at G f1 |-;generalize a6:w.heap.size=bb at G |-;have c4:=Z G;have T:=Z f1;have d6:=Z a6;clear G f1 a6;refine(JI q B w1 (L.out.fr z.out T.out (fun _ e=>absurd e id)) (IP z.out T.out.size)).mono ?_;rintro e w2 ⟨rfl,f2⟩;have A:=Z (T.out.trans f2);have s:=Z (c4.out.fr f2 id);have d3:=s.out.cell;clear f2;go_wp2_with fail;refine(N8 node d j l 0 w2).mono ?_;rintro e w3 ⟨db,a8,rfl,b5,a7,f3⟩;have d7:=Z (A.out.trans f3);have c5:=Z (s.out.fr f3 id);have d4:=c5.out.cell;have m:=Z A.out;have a9:w2.heap.size<=db:=Dk a8;have M:∀ k,WFoot (WL.CX db) k->w2.heap.size<=k:=fun k t=>by
  unfold WFoot WL.CX at t;simp only[Value.ownBlock] at t;rcases t with rfl|e|e|e|e|e|e|e
  .omega
  .simp at e;omega
  all_goals (simp at e)
 have V:=Z (L.out.fr z.out A.out (fun _ e=>absurd e id));have u:=Z (IP z.out A.out.size);have p:∀ k,Foot db DL.new (DM.new (Yz d)) k->k=db:=fun k t=>by
  cases t using Foot.elim with
  | blk=>rfl
  | dir h=>simp[DL.new,Value.ownBlock] at h
  | safe h=>simp[DL.new,Value.ownBlock] at h
  | ch h=>simp[DL.new,Value.ownBlock] at h
  | chs i h1 h=>simp[DL.new] at h1
  | file h=>cases h
  | row f hf h=>cases hf
 have N:Plg B w2 (db+1) 0 w3:=⟨f3,.slice none 0 0,⟨[],.inl ⟨⟨_,_,rfl⟩,rfl⟩,fun x hx=>by cases hx⟩,.inr ⟨_,_,_,DL.new,_,⟨b5,a7,fun k t e=>by have:=p k e;omega,⟨[],0,Sh.CX node d j l Y⟩,by simp[WL.CX],rfl⟩,rfl,rfl,fun k t=>t.elim (M k) (fun e=>by have:=p k e;omega)⟩⟩;have K:=Z (Uq q N V.out u.out (by omega) j l);clear d3 a8 b5 a7 f3 M a9 p N;go_wp2_with fail;refine K.out.mono ?_;rintro e w4 ⟨rfl,Q⟩;have a4:=Z Q;clear Q d4 K;generalize b2:J.length=n at b0 |-;have C:=Z b2;clear b2;go_wp2_with fail
 go_loopw [9,10] (fun t9 a0 w'=>∃ i:Nat,i<=n/\t9=.bool true/\a0=.int .i64 i/\Plg B w2 (db+1) (10+10*i) w') (fun _ a0 _=>n-(intOf a0).toNat)
 case atStart=>exact⟨0,Hg _,rfl,rfl,a4.out⟩
 case round =>
  obtain⟨i,hi,rfl,rfl,hr⟩:=hrel;have D:=Z hr;by_cases e0:i<n
  .obtain⟨a,rfl,hab,hst⟩:=c9.out (fun e=>by have:=C.out;rw[e] at this;simp at this;omega)
   have g:∀ k,k<15->wr.cell? ((a.add (i*15)).add k)=(J[i]'(by have:=C.out;omega)).cells[k]?:=fun k t=>by
    rw[(m.out.trans hr.fr).cell (by rw[Yw,Yw];exact hab) id];exact hst i _ k t
   have X:Wk w2 (J[i]'(by have:=C.out;omega)):=(c7.out _ (IX _)).fr m.out;generalize J[i]'(by have:=C.out;omega)=o at g X;have c8:=Z X;have g0:=g 0 (by omega);rw[add_zero] at g0;obtain⟨r,oa,ob,oc,key,c1,v,a1⟩:=o;simp only[OpM.cells,Ver.cells,IY,Hd] at g0;clear hr X;go_wp2_with fail;refine(a3.out wr (m.out.trans D.out.fr) r).mono ?_;rintro e w5 ⟨rfl,F⟩;have E:=Z (D.out.nil F);cases hin:decide (r∈S) with
   | true =>
    clear hin F g0 g;go_wp2_with fail;exact⟨⟨i+1,by omega,rfl,by push_cast;rfl,E.out.more (by omega)⟩,by simp[intOf];omega⟩
   | false =>
    have b:∀ k,k<15->w5.cell? ((a.add (i*15)).add k)=_:=fun k t=>(F.cell (by rw[Yw,Yw];exact Gd hab (m.out.trans D.out.fr).size) id).trans (g k t);simp only[OpM.cells,Ver.cells,IY,Hd] at b;have q0:=b 0 (by omega);rw[add_zero] at q0;have q1:=b 1 (by omega);rw[ZL _ 1 (by decide)] at q1;have q2:=b 2 (by omega);rw[ZL _ 2 (by decide)] at q2;have q3:=b 3 (by omega);rw[ZL _ 3 (by decide)] at q3;have q4:=b 4 (by omega);rw[ZL _ 4 (by decide)] at q4;have q5:=b 5 (by omega);rw[ZL _ 5 (by decide)] at q5;have q6:=b 6 (by omega);rw[ZL _ 6 (by decide)] at q6;have q7:=b 7 (by omega);rw[ZL _ 7 (by decide)] at q7;have q8:=b 8 (by omega);rw[ZL _ 8 (by decide)] at q8;have q9:=b 9 (by omega);rw[ZL _ 9 (by decide)] at q9;have b6:=b 10 (by omega);rw[ZL _ 10 (by decide)] at b6;have b7:=b 11 (by omega);rw[ZL _ 11 (by decide)] at b7;have b8:=b 12 (by omega);rw[ZL _ 12 (by decide)] at b8;have b9:=b 13 (by omega);rw[ZL _ 13 (by decide)] at b9;have c0:=b 14 (by omega);rw[ZL _ 14 (by decide)] at c0;have b1:r≠15:=fun e=>by
     subst e;simp only[Ho] at hin;exact hin d1
    have a5:=Z (JE q E.out V.out u.out (by omega) ⟨r,oa,ob,oc,key,c1,v,a1⟩ c8.out b1);simp only[OpM.cells,Ver.cells,IY,Hd] at a5;clear F hin b b1 g g0;go_wp2_with fail;refine a5.out.mono ?_;rintro e w6 ⟨rfl,y⟩;have d0:=Z y;clear y q0 q1 q2 q3 q4 q5 q6 q7 q8 q9 b6 b7 b8 b9 c0;go_wp2_with fail;exact⟨⟨i+1,by omega,rfl,by push_cast;rfl,d0.out.more (by omega)⟩,by simp[intOf];omega⟩
  .have hin:i=n:=by omega
   subst hin;clear hr;go_wp2_with fail;have d5:wr.cell? ⟨bb,2,none⟩=some (.int .i64 j)/\wr.cell? ⟨bb,3,none⟩=some (.int .i64 l):=⟨(s.out.fr D.out.fr id).cell 2,(s.out.fr D.out.fr id).cell 3⟩;refine(a3.out wr (m.out.trans D.out.fr) 1).mono ?_;rintro e w5 ⟨rfl,F⟩;rw[show decide ((1:Int)∈S)=false by simpa using d2];have E:=Z (D.out.nil F);have b:w5.cell? ⟨bb,2,none⟩=some (.int .i64 j)/\w5.cell? ⟨bb,3,none⟩=some (.int .i64 l):=⟨((s.out.fr D.out.fr id).fr F id).cell 2,((s.out.fr D.out.fr id).fr F id).cell 3⟩;have a2:=Z (Uq q E.out V.out u.out (by omega) j l);have c2:=b.1;have c3:=b.2;clear F d5 b;go_wp2_with fail;refine a2.out.mono ?_;rintro e w6 ⟨rfl,y⟩;have c6:=Z (m.out.trans y.fr);clear y c2 c3;go_wp2_with fail;go_ret;exact⟨rfl,c6.out⟩
end Go.Proofs.YtkhnggkkiefcdaaGreatDoor
namespace Go.Proofs.YtkhnggkkiefcdaaGreatDoor
open Go.RowKit Go.ChangeShapes
set_option maxRecDepth 100000
set_option maxHeartbeats 8000000
theorem NE{W:World}(h:laidMetH Tryz.prog Rows.writesRow.laid W):Tab W:=by
 have a:=(CW.1 h).1.filter (fun x=>x.1==XI);have e:((Rows.writesRow.laid.filter fun x=>x.2.handleName?.isNone).filter fun x=>x.1==XI)=[(XI,Lib.tabData .u64 Lib.pow10Tab)]:=by kernel_rfl
 rw[e] at a;exact Lib.tabIs_of_head (rest:=[]) (g:=1) (by kernel_rfl) (t:=322) (by kernel_rfl) Tryz.underlying322 Tryz.underlying274 (by kernel_rfl) (by kernel_rfl) a
theorem S9:Tryz.prog.globalNamed XI=some 1:=by kernel_rfl
theorem Lo:Tryz.prog.globalNamed "errors.errorType"=some 0:=by kernel_rfl
theorem Lp:Tryz.prog.types.size=396:=by kernel_rfl
theorem KN:((List.range 396).filter fun t=>Tryz.prog.rowNamed t [101,114,114,111,114])=[132]:=by kernel_rfl
theorem NF{W:World}(h:laidMetH Tryz.prog Rows.writesRow.laid W):Hnd W:=by
 have c:=(CW.1 h).2;have e:(Rows.writesRow.laid.filter fun x=>x.2.handleName?.isSome)=[("errors.errorType",Rows.laid_errors_errorType)]:=by kernel_rfl
 rw[e] at c;obtain⟨a,u,ty,d,f,g,i,b⟩:=c _ (IZ.2 rfl);have j:a=[101,114,114,111,114]:=(Hl d).symm;subst j;have k:some u=some 309:=f.symm.trans (by kernel_rfl);obtain rfl:=Hl k;have hm:ty∈(List.range 396).filter fun t=>Tryz.prog.rowNamed t [101,114,114,111,114]:=FP.2 ⟨FY.2 (by rw[<- Lp];exact g),i⟩;rw[KN] at hm;obtain rfl:=IZ.1 hm;have l:typeHandle Tryz.prog 132=.pointer (some ⟨6,132,none⟩):=by kernel_rfl
 rw[l] at b;have:=World.var?_cell Lo b 0;unfold Hnd
 simpa using this
theorem Qh{W:World}(h:laidMetH Tryz.prog Rows.writesRow.laid W):Xz W.heap.size W:=by
 have a:=NE h;have b:=NF h;refine⟨a,fun g c=>?_,b,Vn b⟩;have:=Hl (S9.symm.trans c);subst this;exact Vn (a.cell S9 0 (by decide))
theorem Sa:Tryz.prog.globalNamed "strconv.ErrSyntax"=some 4:=by kernel_rfl
theorem JJ:(Tryz.prog.globals[4]?).map (·.type)=some 132:=by kernel_rfl
theorem VY{W:World}(h:laidMetH Tryz.prog Rows.writesRow.laid W):XC W:=by
 have b:=(CW.1 h).1.filter (fun x=>x.1== "strconv.ErrSyntax");have e:((Rows.writesRow.laid.filter fun x=>x.2.handleName?.isNone).filter fun x=>x.1== "strconv.ErrSyntax")=[("strconv.ErrSyntax",Rows.laid_strconv_ErrSyntax)]:=by kernel_rfl
 rw[e] at b;obtain⟨a,s,c,_⟩:=laid_sentinel b Sa JJ Tryz.underlying132 (fun u h => typeName_ptr_named (P := Tryz.prog) (nm := "errors.errorString") (by kernel_rfl) (by kernel_rfl) (by decide) u (h.trans (congrArg some (by decide)))) Tryz.underlying348 Tryz.underlying350 rfl rfl GX (by kernel_rfl) (by kernel_rfl);have:=World.var?_cell Sa c 0;exact⟨Vn (p:=⟨4,0,none⟩) (by simpa using this),_,_,by simpa using this⟩
theorem Ur{W:World}(h:laidMetH Tryz.prog Rows.writesRow.laid W):YX W.heap.size W :=
 ⟨Qh h,VY h,(VY h).1⟩
end Go.Proofs.YtkhnggkkiefcdaaGreatDoor
namespace Go.Proofs.YtkhnggkkiefcdaaGreatDoor
open Go.RowKit Go.Extern.Stop Go.Stop Go.Extern
set_option maxRecDepth 100000
set_option maxHeartbeats 8000000
theorem Om(t:Addr)(w:World):(ReflectliteValue.unpack (.iface 227 (.pointer (some t)))).run Tryz.prog w
 = .ok (.agg #[.pointer (some ⟨6,227,none⟩),.pointer (some ⟨w.heap.size,0,none⟩),.int .u64 150]) (w.alloc (.cells #[.pointer (some t)] 227)):=by kernel_rfl
theorem KO(a:Addr)(w:World):(ReflectliteValue.methodAny (ReflectliteValue.valueError "reflectlite.Value.Type" 0) (fun t _ _ _=>ReflectliteType.toType t) #[.agg #[.pointer (some ⟨6,227,none⟩),.pointer (some a),.int .u64 150]]).run Tryz.prog w
 = .ok (.iface 309 (.agg #[.pointer (some ⟨6,227,none⟩)])) w:=by kernel_rfl
theorem Qi(h:Value)(w:World):(Go.method 496 309 (.agg #[h]) "Kind").run Tryz.prog w=.ok (271,h) w:=by kernel_rfl
theorem KP(w:World):((ReflectliteType.abiMethod fun t=>Functor.map (fun a:Nat=>Value.int IntKind.u8 (a:Int)) (Rtype.kind t)) #[.pointer (some ⟨6,227,none⟩)]).run Tryz.prog w=.ok (.int .u8 22) w:=by kernel_rfl
theorem KQ(w:World):((ReflectliteType.abiMethod fun t=>Functor.map (fun a:Nat=>Value.int IntKind.u8 (a:Int)) (Rtype.kind t)) #[.pointer (some ⟨6,225,none⟩)]).run Tryz.prog w=.ok (.int .u8 22) w:=by kernel_rfl
theorem Sb(a:Addr)(w:World):(ReflectliteValue.parts (.agg #[.pointer (some ⟨6,227,none⟩),.pointer (some a),.int .u64 150])).run Tryz.prog w=.ok (some (227,a,150)) w:=by kernel_rfl
theorem Lq(a p:Addr)(W:World)(b:W.cell? a=some (.pointer (some p))) :
 (ReflectliteValue.method (ReflectliteValue.valueError "reflectlite.Value.IsNil" 0) ReflectliteValue.isNil #[.agg #[.pointer (some ⟨6,227,none⟩),.pointer (some a),.int .u64 150]]).run Tryz.prog W=.ok (.bool false) W:=by
 change Sem.run Tryz.prog (ReflectliteValue.parts (.agg #[.pointer (some ⟨6,227,none⟩),.pointer (some a),.int .u64 150]) >>= _) W=_;simp only[Ey,Sb,Result.andThen];simp[ReflectliteValue.isNil,loadVar,isAgg,underlying,Tryz.underlying227,b,Result.andThen]
theorem Qj(h:Value)(w:World):(Go.method 496 309 (.agg #[h]) "Elem").run Tryz.prog w=.ok (316,.agg #[h]) w:=by kernel_rfl
theorem VZ(h:Value)(w:World):(Go.method 496 309 (.agg #[h]) "Implements").run Tryz.prog w=.ok (317,.agg #[h]) w:=by kernel_rfl
theorem Vo(h:Value)(w:World):(Go.method 496 309 (.agg #[h]) "AssignableTo").run Tryz.prog w=.ok (314,.agg #[h]) w:=by kernel_rfl
theorem KR(w:World):(ReflectliteType.method ReflectliteType.elem #[.agg #[.pointer (some ⟨6,227,none⟩)]]).run Tryz.prog w=.ok (.iface 309 (.agg #[.pointer (some ⟨6,225,none⟩)])) w:=by kernel_rfl
theorem Sc(w:World):(ReflectliteType.relation "Implements" ReflectliteType.implements_ #[.agg #[.pointer (some ⟨6,225,none⟩)],.iface 309 (.agg #[.pointer (some ⟨6,132,none⟩)])]).run Tryz.prog w=.ok (.bool true) w:=by kernel_rfl
theorem NG(v:Value)(w:World):(ReflectliteType.typeOf #[.iface 225 v]).run Tryz.prog w=.ok (.iface 309 (.agg #[.pointer (some ⟨6,225,none⟩)])) w:=by kernel_rfl
theorem Sd(w:World):(ReflectliteType.relation "AssignableTo" ReflectliteType.assignableTo #[.agg #[.pointer (some ⟨6,225,none⟩)],.iface 309 (.agg #[.pointer (some ⟨6,225,none⟩)])]).run Tryz.prog w=.ok (.bool true) w:=by kernel_rfl
theorem On(e:Addr)(w:World):(ReflectliteValue.unpack (.iface 225 (.pointer (some e)))).run Tryz.prog w
 = .ok (.agg #[.pointer (some ⟨6,225,none⟩),.pointer (some ⟨w.heap.size,0,none⟩),.int .u64 150]) (w.alloc (.cells #[.pointer (some e)] 225)):=by kernel_rfl
theorem NH(w:World):(Rtype.elem? 227).run Tryz.prog w=.ok (some 225) w:=by kernel_rfl
theorem Il(p:Addr)(w:World):(ReflectliteValue.mk 225 p ReflectliteValue.flagAddr).run Tryz.prog w=.ok (.agg #[.pointer (some ⟨6,225,none⟩),.pointer (some p),.int .u64 406]) w:=by kernel_rfl
theorem Lr(a p:Addr)(W:World)(b:W.cell? a=some (.pointer (some p))) :
 (ReflectliteValue.method (ReflectliteValue.valueError "reflectlite.Value.Elem" 0) ReflectliteValue.elem #[.agg #[.pointer (some ⟨6,227,none⟩),.pointer (some a),.int .u64 150]]).run Tryz.prog W
   = .ok (.agg #[.pointer (some ⟨6,225,none⟩),.pointer (some p),.int .u64 406]) W:=by
 change Sem.run Tryz.prog (ReflectliteValue.parts (.agg #[.pointer (some ⟨6,227,none⟩),.pointer (some a),.int .u64 150]) >>= _) W=_;simp only[Ey,Sb,Result.andThen];simp[ReflectliteValue.elem,loadVar,isAgg,underlying,Tryz.underlying227,b,Result.andThen,NH,Il]
theorem NJ(a:Addr)(w:World):(ReflectliteValue.parts (.agg #[.pointer (some ⟨6,225,none⟩),.pointer (some a),.int .u64 406])).run Tryz.prog w=.ok (some (225,a,406)) w:=by kernel_rfl
theorem Ls(a:Addr)(w:World):(ReflectliteValue.parts (.agg #[.pointer (some ⟨6,225,none⟩),.pointer (some a),.int .u64 150])).run Tryz.prog w=.ok (some (225,a,150)) w:=by kernel_rfl
theorem NK(w:World):(Rtype.directlyAssignable 225 225).run Tryz.prog w=.ok true w:=by kernel_rfl
theorem JK(a b e:Addr)(c:Value)(W:World)(d:W.cell? b=some (.pointer (some e)))(g:W.cell? a=some c)(f:W.frozen? a=false) :
 (ReflectliteValue.set #[.agg #[.pointer (some ⟨6,225,none⟩),.pointer (some a),.int .u64 406],.agg #[.pointer (some ⟨6,225,none⟩),.pointer (some b),.int .u64 150]]).run Tryz.prog W
   = .ok (.tuple #[]) (W.setCell a (.pointer (some e))):=by
 change Sem.run Tryz.prog (ReflectliteValue.parts (.agg #[.pointer (some ⟨6,225,none⟩),.pointer (some a),.int .u64 406]) >>= fun _=>ReflectliteValue.parts (.agg #[.pointer (some ⟨6,225,none⟩),.pointer (some b),.int .u64 150]) >>= _) W=_;simp only[Ey,NJ,Ls,Result.andThen];simp[ReflectliteValue.flagAddr,loadVar,isAgg,underlying,Tryz.underlying225,d,Result.andThen,NK,storeVar,Value.cells,storeCells,Addr.add];rw[run_store Tryz.prog W a _ _ (by rfl)];simp[g,f]
theorem Lt(v:Value)(w:World):(ReflectliteType.typeOf #[.iface 202 v]).run Tryz.prog w=.ok (.iface 309 (.agg #[.pointer (some ⟨6,202,none⟩)])) w:=by kernel_rfl
theorem R0(w:World):(ReflectliteType.relation "AssignableTo" ReflectliteType.assignableTo #[.agg #[.pointer (some ⟨6,202,none⟩)],.iface 309 (.agg #[.pointer (some ⟨6,225,none⟩)])]).run Tryz.prog w=.ok (.bool false) w:=by kernel_rfl
theorem JL(v:Value)(a:TypeId)(w:World):(Instr.typeAssert (.iface 202 v) a 314 true).run Tryz.prog w=.ok (.tuple #[.nilIface,.bool false]) w :=
 run_typeAssert_lacksB Tryz.underlying314 (by kernel_rfl) (by kernel_rfl) v a w
theorem II(v:Value)(a:TypeId)(w:World):(Instr.typeAssert (.iface 202 v) a 317 true).run Tryz.prog w=.ok (.tuple #[.iface 202 v,.bool true]) w :=
 run_typeAssert_hasB Tryz.underlying317 (by kernel_rfl) v a w
theorem KS(v:Value)(w:World):(Go.method 496 202 v "Unwrap").run Tryz.prog w=.ok (302,v) w:=by kernel_rfl
theorem Oo(b:Nat)(a:ByteArray)(v:Value)(w:World)(h:Blk w b [.string a,v] 204)(t c:Nat)(d:v=.iface t (.pointer (some ⟨c,0,none⟩))) :
 Calls Tryz.prog 302 #[.pointer (some ⟨b,0,none⟩)] w fun e f=>e=.returned v/\f=w:=by
 subst d;have g:w.cell? ⟨b,1,none⟩=some (.iface t (.pointer (some ⟨c,0,none⟩))):=h.cell 1;clear h;go_enter Tryz.func302,Tryz.ntmps302
 go_wp2
 go_ret;exact⟨rfl,rfl⟩
theorem ZU.unique{w:World}{n m:Int}:∀ {k j:Nat}{v:Value},ZU w n k v->ZU w m j v->k=j
 | 0,0,_,_,_=>rfl
 | 0,j+1,v,⟨b,c,f,h,i⟩,⟨g,l,o,a,d,_⟩=>by
  rw[h] at a;exact absurd a (by intro x;have:=(CI x).1;exact absurd this (by decide))
 | k+1,0,v,⟨g,l,o,a,d,_⟩,⟨b,c,f,h,i⟩=>by
  rw[h] at a;exact absurd a (by intro x;have:=(CI x).1;exact absurd this (by decide))
 | k+1,j+1,v,⟨b,c,t,h,i,s⟩,⟨g,l,o,a,d,r⟩=>by
  rw[h] at a;have e:=(CI a).2;have q:b=g:=by injection e with e;injection e with e;injection e
  subst q;have:=(i.inj d).1;simp at this;obtain⟨_,rfl⟩:=this;rw[ZU.unique s r]
theorem UW(n:Int):∃ D:World->Value->Nat,∀ w v k,ZU w n k v->D w v=k:=
 ⟨fun w v=>Classical.epsilon fun k=>ZU w n k v,fun w v k h=>ZU.unique (Classical.epsilon_spec (p:=fun k=>ZU w n k v) ⟨k,h⟩) h⟩
def KT(n:Int)(t:Nat)(w a:World):Prop:=∃ e c f,a.cell? ⟨t,0,none⟩=some (.pointer (some ⟨e,0,none⟩))/\Blk a e [.string c,.string f,.int .i64 n] 229/\Fr (fun k=>k=t) w a
theorem KU(n:Int)(k:Nat)(v:Value)(t a:Nat)(w:World)(V:ZU w n k v)(F:Blk w t [.pointer none] 225)(T:Blk w a [.pointer (some ⟨t,0,none⟩)] 227) :
 Calls Tryz.prog 198 #[v,.iface 227 (.pointer (some ⟨t,0,none⟩)),.agg #[.pointer (some ⟨6,227,none⟩),.pointer (some ⟨a,0,none⟩),.int .u64 150],.iface 309 (.agg #[.pointer (some ⟨6,225,none⟩)])] w fun e s=>e=.returned (.bool true)/\KT n t w s:=by
 have h6:=@GA Tryz.prog 195 _ (fun u=>ReflectliteValue.unpack (u.getD 0 (.tuple #[]))) Tryz.func195 (by kernel_rfl) (by kernel_rfl) (by kernel_rfl) (by kernel_rfl);have a1:=@GA Tryz.prog 224 _ ReflectliteType.typeOf Tryz.func224 (by kernel_rfl) (by kernel_rfl) (by kernel_rfl) (by kernel_rfl);have a4:=@GA Tryz.prog 314 _ (ReflectliteType.relation "AssignableTo" ReflectliteType.assignableTo) Tryz.func314 (by kernel_rfl) (by kernel_rfl) (by kernel_rfl) (by kernel_rfl);have a2:=@GA Tryz.prog 225 _ (ReflectliteValue.method (ReflectliteValue.valueError "reflectlite.Value.Elem" 0) ReflectliteValue.elem) Tryz.func225 (by kernel_rfl) (by kernel_rfl) (by kernel_rfl) (by kernel_rfl);have a3:=@GA Tryz.prog 226 _ ReflectliteValue.set Tryz.func226 (by kernel_rfl) (by kernel_rfl) (by kernel_rfl) (by kernel_rfl);have tO:=NG;have tD:=Lt;have mA:=Vo;have a0:=Sd;have aD:=R0;have a8:=On;have hL:=JL;have hH:=II;have mU:=KS;have d:=Blk.new w [.pointer (some ⟨6,227,none⟩),.pointer (some ⟨a,0,none⟩),.int .u64 150] 281;have y:Fr Nil w (w.alloc (.cells #[.pointer (some ⟨6,227,none⟩),.pointer (some ⟨a,0,none⟩),.int .u64 150] 281)):=(O _ _).alloc _;have L:=Z (V.fr y (XM.nil w));have K:=Z (F.fr y id);have G:=Z (T.fr y id);have A:=Z d;have J:=Z y;have a6:=F.lt;clear V F T d y;generalize z:w.alloc (.cells #[.pointer (some ⟨6,227,none⟩),.pointer (some ⟨a,0,none⟩),.int .u64 150] 281)=Y at L K G A J;generalize Q:w.heap.size=N at A;have R:N<Y.heap.size:=A.out.lt;have E:=Z z;have HN:=Z Q;clear z Q;go_enter Tryz.func198,Tryz.ntmps198;go_wp2_with fail;rw[E.out,HN.out]
 obtain ⟨qDD9, hDD9⟩ := UW n
 have HDD9 := Z hDD9
 clear hDD9
 go_loopw [0] (fun x s=>∃ k,ZU s n k x/\Fr Nil Y s) (fun x s=>qDD9 s x)
 case atStart=>exact⟨k,L.out,O _ _⟩
 case round =>
  obtain⟨j,g,q⟩:=hrel;have a5:=(A.out.fr q id).cell;cases j with
  | zero =>
   obtain⟨e,c,f,rfl,o⟩:=g;have el:=Lr ⟨a,0,none⟩ ⟨t,0,none⟩ wr ((G.out.fr q id).cell 0);have i:=Blk.new wr [.pointer (some ⟨e,0,none⟩)] 225;have r:=K.out.fr q id;have b:=r.alloc (.cells #[.pointer (some ⟨e,0,none⟩)] 225);have st:=JK ⟨t,0,none⟩ ⟨wr.heap.size,0,none⟩ ⟨e,0,none⟩ (.pointer none) (wr.alloc (.cells #[.pointer (some ⟨e,0,none⟩)] 225)) (i.cell 0) (b.cell 0) (b.frozen 0);have l:=b.set 0 (.pointer (some ⟨e,0,none⟩));have HC:=Z (l.cell 0);have B:=Z ((o.alloc (.cells #[.pointer (some ⟨e,0,none⟩)] 225)).An (b':=t) (o.ne r (by decide)) 0 (.pointer (some ⟨e,0,none⟩)));have D:Hid (Fr (fun k=>k=t) w ((wr.alloc (.cells #[.pointer (some ⟨e,0,none⟩)] 225)).setCell ⟨t,0,none⟩ (.pointer (some ⟨e,0,none⟩)))) :=
    Z (Fr.set (S:=fun k=>k=t) (p:=⟨t,0,none⟩) (((J.out.trans q).mono (fun _ _ h=>absurd h id)).alloc _) (fun _=>rfl) _)
   clear o q i r b l
   go_wp2
   go_ret;exact⟨rfl,e,c,f,HC.out,B.out,D.out⟩
  | succ j =>
   obtain⟨e,m,v',rfl,o,g⟩:=g;obtain⟨X,M,rfl⟩:=g.form;have HU:=Z (Oo e m _ wr o X M rfl);have I:Hid (qDD9 wr (.iface X (.pointer (some ⟨M,0,none⟩)))=j/\qDD9 wr (.iface 202 (.pointer (some ⟨e,0,none⟩)))=j+1):=⟨HDD9.out _ _ _ g,HDD9.out _ _ _ ⟨e,m,_,rfl,o,g⟩⟩;have C:=Z q;have HJ:=Z g;clear o q g
   go_wp2_with (refine HU.out.mono ?_;rintro e w1 ⟨rfl,a7⟩;subst w1)
   exact⟨⟨j,HJ.out,C.out⟩,by rw[I.out.1,I.out.2];omega⟩
theorem JN(n:Int)(v:Value)(t:Nat)(w:World)(Q:ERep w v (some n))(y:Blk w t [.pointer none] 225)(l:Hnd w) :
 Calls Tryz.prog 154 #[v,.iface 227 (.pointer (some ⟨t,0,none⟩))] w fun e X=>e=.returned (.bool true)/\KT n t w X:=by
 have h6:=@GA Tryz.prog 195 _ (fun d=>ReflectliteValue.unpack (d.getD 0 (.tuple #[]))) Tryz.func195 (by kernel_rfl) (by kernel_rfl) (by kernel_rfl) (by kernel_rfl);have h7:=@GA Tryz.prog 196 _ (ReflectliteValue.methodAny (ReflectliteValue.valueError "reflectlite.Value.Type" 0) (fun t _ _ _=>ReflectliteType.toType t)) Tryz.func196 (by kernel_rfl) (by kernel_rfl) (by kernel_rfl) (by kernel_rfl);have h8:=@GA Tryz.prog 197 _ (ReflectliteValue.method (ReflectliteValue.valueError "reflectlite.Value.IsNil" 0) ReflectliteValue.isNil) Tryz.func197 (by kernel_rfl) (by kernel_rfl) (by kernel_rfl) (by kernel_rfl);have K:=@GA Tryz.prog 271 _ (ReflectliteType.abiMethod fun t=>do pure (.int .u8 (<- Rtype.kind t))) Tryz.func271 (by kernel_rfl) (by kernel_rfl) (by kernel_rfl) (by kernel_rfl);have L:=@GA Tryz.prog 316 _ (ReflectliteType.method ReflectliteType.elem) Tryz.func316 (by kernel_rfl) (by kernel_rfl) (by kernel_rfl) (by kernel_rfl);have M:=@GA Tryz.prog 317 _ (ReflectliteType.relation "Implements" ReflectliteType.implements_) Tryz.func317 (by kernel_rfl) (by kernel_rfl) (by kernel_rfl) (by kernel_rfl);have f6:=Om;have f7:=KO;have mK:=Qi;have mE:=Qj;have mI:=VZ;have T:=KP;have S:=KQ;have I:=KR;have R:=Sc;obtain⟨k,m⟩:=Q;obtain⟨V,E,rfl⟩:=m.form;have g:=Blk.new w [.pointer (some ⟨t,0,none⟩)] 227;have c:Fr Nil w (w.alloc (.cells #[.pointer (some ⟨t,0,none⟩)] 227)):=(O _ _).alloc _;have q:(w.alloc (.cells #[.pointer (some ⟨t,0,none⟩)] 227)).heap.size=w.heap.size+1:=YT _ _;generalize o:w.alloc (.cells #[.pointer (some ⟨t,0,none⟩)] 227)=f at g c q;have i:=Blk.new f [.pointer (some ⟨6,227,none⟩),.pointer (some ⟨w.heap.size,0,none⟩),.int .u64 150] 281;have a:Fr Nil f (f.alloc (.cells #[.pointer (some ⟨6,227,none⟩),.pointer (some ⟨w.heap.size,0,none⟩),.int .u64 150] 281)):=(O _ _).alloc _;generalize p:f.alloc (.cells #[.pointer (some ⟨6,227,none⟩),.pointer (some ⟨w.heap.size,0,none⟩),.int .u64 150] 281)=r at i a;have b:=g.fr a id;have n8:=Lq ⟨w.heap.size,0,none⟩ ⟨t,0,none⟩ r (b.cell 0);have j:=i.cell;have N:r.cell? ⟨0,0,none⟩=some (.iface 309 (.agg #[.pointer (some ⟨6,132,none⟩)])):=((c.trans a).cell (by have:=l;unfold Hnd World.cell? at this;simp only;rcases Fg 0 w.heap.size with h|h;exact h;rw[FT h] at this;cases this) id).trans l;have C:=Z (KU n k (.iface V (.pointer (some ⟨E,0,none⟩))) t w.heap.size r (m.fr (c.trans a) (XM.nil w)) (y.fr (c.trans a) id) b);have D:=Z (c.trans a);rw[q] at j;clear g b i m y l c a q;subst p;subst o;go_enter Tryz.func154,Tryz.ntmps154;go_wp2_with fail;refine C.out.mono ?_;rintro e Y ⟨rfl,G,F,J,s,u,x⟩;have z:=Z s;have A:=Z u;have B:Hid (Fr (fun k=>k=t) w Y):=(D.out.mono (fun _ _ h=>absurd h id)).trans x;clear s u x
 go_wp2
 go_ret;exact⟨rfl,G,F,J,z.out,A.out,B.out⟩
theorem Se:zz:=by
 intro B w v n c j;have g:=Blk.new w [.pointer none] 225;have a:Fr Nil w (w.alloc (.cells #[.pointer none] 225)):=(O _ _).alloc _;have m:=Z (JN n v w.heap.size _ (j.fr a (XM.nil w)) g (show Hnd _ from(a.cell (by have:=c.2.2.1;unfold Hnd World.cell? at this;simp only;rcases Fg 0 w.heap.size with h|h;exact h;rw[FT h] at this;cases this) id).trans c.2.2.1));have o:=Z a;have b:=Z (show ∀ k,k<w.heap.size->k≠w.heap.size from fun k h=>by omega);clear g a c j;go_enter Tryz.func97,Tryz.ntmps97;go_wp2_with fail;refine m.out.mono ?_;rintro e r ⟨rfl,u,t,x,y,d,f⟩;have p:=d.cell 2;have l:Hid (Fr Nil w r):=o.out.trans' f (fun i q e=>absurd e (b.out i q));clear d f
 go_wp2
 go_ret;exact⟨rfl,l.out⟩
end Go.Proofs.YtkhnggkkiefcdaaGreatDoor
