/- larder: joined texts -/
import Derived.Test.YtkhnggkkiefcdaaGreatDoorSFAK
import Derived.LaidEqlPtr
namespace Go.Proofs.YtkhnggkkiefcdaaGreatDoor
open Go.RowKit
set_option maxRecDepth 100000
set_option maxHeartbeats 8000000
structure WL where
 wb:Nat
 db:Nat
 nv:Value
 sv:Value
 tv:Value
 ps:List Nat
 vs:Value
 vm:Value
 ns:Value
 nm:Value
 hs:Value
 hm:Value
structure BK where
 vs:List Value
 vm:List Nat
 ns:List Value
 nm:List Nat
 hs:List Value
 hm:List Nat
structure WM where
 node:Int
 room:Int
 yD:Int
 sync:Int
 Ac:Bool
 broken:Bool
 every:Int
 writes:Nat
 calls:Nat
 most:Nat
 Bu:Int
 base:Nat
 next:Nat
 st:List LM
 bk:BK
def WM.cells(L:WL)(W:WM):List Value :=
 [.int .i64 W.node,.int .i64 W.room,.int .i64 W.yD,.int .i64 W.sync,.pointer (some ⟨L.db,0,none⟩),L.nv,L.sv,.bool W.Ac,.bool W.broken,.int .i64 W.every,.int .i64 W.writes,.int .i64 W.calls,.int .i64 W.most,.int .i64 W.Bu,L.tv,.int .i64 W.base,.int .i64 W.next,L.vs,L.vm,L.ns,L.nm,L.hs,L.hm]
def ZV(l:List Nat):List Value:=l.map fun p=>.pointer (some ⟨p,0,none⟩)
def Y9(l:List Nat):List Value:=l.map fun(x:Nat)=>.int .i64 (x:Int)
def Y4(m:Nat):UInt8:=UInt8.ofNat (97+m%16)
def Yb(m:Nat):ByteArray:=⟨#[35,Y4 m,Y4 (m / 16),Y4 (m / 16 / 16),Y4 (m / 16 / 16 / 16),Y4 (m / 16 / 16 / 16 / 16),Y4 (m / 16 / 16 / 16 / 16 / 16)]⟩
def YU(m:Nat):Ver:=⟨m,m,0,0,0,0,Yb m,true⟩
def WFoot(L:WL)(k:Nat):Prop:=k=L.wb\/L.sv.ownBlock=some k\/L.vs.ownBlock=some k\/L.vm.ownBlock=some k\/L.ns.ownBlock=some k\/L.nm.ownBlock=some k\/L.hs.ownBlock=some k\/L.hm.ownBlock=some k
structure BAt(w:World)(L:WL)(B:BK):Prop where
 vs:w.ownsRow 0 61 1 L.vs B.vs.length B.vs
 vm:w.ownsRow 0 3 1 L.vm B.vm.length (Y9 B.vm)
 ns:w.ownsRow 0 91 1 L.ns B.ns.length B.ns
 nm:w.ownsRow 0 3 1 L.nm B.nm.length (Y9 B.nm)
 hs:w.ownsRow 0 66 1 L.hs B.hs.length B.hs
 hm:w.ownsRow 0 3 1 L.hm B.hm.length (Y9 B.hm)
 s1:∀ k,L.vm.ownBlock=some k->L.nm.ownBlock≠some k/\L.hm.ownBlock≠some k
 s2:∀ k,L.nm.ownBlock=some k->L.hm.ownBlock≠some k
structure WAt(K:Nat->Prop)(w:World)(L:WL)(W:WM):Prop where
 CY:Blk w L.wb (W.cells L) 49
 Ab:w.ownsRow 0 104 1 L.sv L.ps.length (ZV L.ps)
 Ao:L.ps.length=W.st.length
 AB:∀ i (h1:i<L.ps.length) (h2:i<W.st.length),MRep K w L.ps[i] W.st[i]
 book:BAt w L W.bk
 Bt:∀ k,K k->k<w.heap.size/\¬WFoot L k
theorem BAt.fr{S:Nat->Prop}{w w':World}{L:WL}{B:BK}(h:BAt w L B)(f:Fr S w w')(c:∀ k,WFoot L k->¬S k):BAt w' L B where
 vs:=zb h.vs f (fun k e=>c k (.inr (.inr (.inl e))))
 vm:=zb h.vm f (fun k e=>c k (.inr (.inr (.inr (.inl e)))))
 ns:=zb h.ns f (fun k e=>c k (.inr (.inr (.inr (.inr (.inl e))))))
 nm:=zb h.nm f (fun k e=>c k (.inr (.inr (.inr (.inr (.inr (.inl e)))))))
 hs:=zb h.hs f (fun k e=>c k (.inr (.inr (.inr (.inr (.inr (.inr (.inl e))))))))
 hm:=zb h.hm f (fun k e=>c k (.inr (.inr (.inr (.inr (.inr (.inr (.inr e))))))))
 s1:=h.s1
 s2:=h.s2
theorem WAt.fr{S K:Nat->Prop}{w w':World}{L:WL}{W:WM}(h:WAt K w L W)(f:Fr S w w')(c:∀ k,WFoot L k->¬S k)(r:∀ k,K k->¬S k):WAt K w' L W where
 CY:=h.CY.fr f (c _ (.inl rfl))
 Ab:=zb h.Ab f (fun k e=>c k (.inr (.inl e)))
 Ao:=h.Ao
 AB:=fun i g o=>(h.AB i g o).Bt (zQ.BO f (fun k e=>⟨(h.Bt k e).1,r k e⟩)) (fun _ e=>e)
 book:=h.book.fr f c
 Bt:=fun k e=>⟨Gd (h.Bt k e).1 f.size,(h.Bt k e).2⟩
theorem WAt.nil{K:Nat->Prop}{w w':World}{L:WL}{W:WM}(h:WAt K w L W)(f:Fr Nil w w'):WAt K w' L W:=h.fr f (fun _ _=>id) (fun _ _=>id)
theorem WAt.lt{K:Nat->Prop}{w:World}{L:WL}{W:WM}(h:WAt K w L W):∀ k,WFoot L k->k<w.heap.size:=by
 intro k c;rcases c with rfl|e|e|e|e|e|e|e
 .exact h.CY.lt
 .exact zC h.Ab e
 .exact zC h.book.vs e
 .exact zC h.book.vm e
 .exact zC h.book.ns e
 .exact zC h.book.nm e
 .exact zC h.book.hs e
 .exact zC h.book.hm e
theorem WAt.more{K c:Nat->Prop}{w:World}{L:WL}{W:WM}(h:WAt K w L W)(e:∀ k,K k->c k)(g:∀ k,c k->k<w.heap.size/\¬WFoot L k):WAt c w L W :=
 ⟨h.CY,h.Ab,h.Ao,fun i a b=>(h.AB i a b).mono e,h.book,g⟩
theorem WAt.gr{K:Nat->Prop}{w b:World}{L:WL}{W:WM}(h:WAt K w L W)(f:Fr Nil w b):WAt (KGr K w b) b L W :=
 (h.nil f).more (fun _ e=>.inl e) (fun k e=>e.elim (fun e=>⟨Gd (h.Bt k e).1 f.size,(h.Bt k e).2⟩) (fun e=>⟨e.2,fun c=>by have:=h.lt k c;omega⟩))
def WTy(t:TypeId):Prop:=t=49\/t=104\/t=61\/t=3\/t=91\/t=66
theorem WAt.ty{K:Nat->Prop}{w:World}{L:WL}{W:WM}(h:WAt K w L W){k:Nat}(a:WFoot L k):∃ t,Ty w k t/\WTy t:=by
 rcases a with rfl|e|e|e|e|e|e|e
 .exact⟨_,h.CY.ty,.inl rfl⟩
 .exact⟨_,zD h.Ab e,.inr (.inl rfl)⟩
 .exact⟨_,zD h.book.vs e,.inr (.inr (.inl rfl))⟩
 .exact⟨_,zD h.book.vm e,.inr (.inr (.inr (.inl rfl)))⟩
 .exact⟨_,zD h.book.ns e,.inr (.inr (.inr (.inr (.inl rfl))))⟩
 .exact⟨_,zD h.book.nm e,.inr (.inr (.inr (.inl rfl)))⟩
 .exact⟨_,zD h.book.hs e,.inr (.inr (.inr (.inr (.inr rfl))))⟩
 .exact⟨_,zD h.book.hm e,.inr (.inr (.inr (.inl rfl)))⟩
theorem WAt.node{K:Nat->Prop}{w:World}{L:WL}{W:WM}(h:WAt K w L W){b:NL}{N:NM}{M:DM}(e:NRep w b N M){k:Nat}(d:WFoot L k):¬NFoot b M k:=by
 obtain⟨t,f,c⟩:=h.ty d;refine e.apart f ?_ ?_ ?_ ?_ ?_ ?_
 all_goals (unfold WTy at c;rcases c with rfl|rfl|rfl|rfl|rfl|rfl <;> (try unfold DTy) <;> decide)
theorem WAt.Bz{K:Nat->Prop}{w:World}{L:WL}{W:WM}(h:WAt K w L W){b:Nat}{a:DL}{M:DM}(e:DRep w b a M){k:Nat}(d:WFoot L k):¬Foot b a M k:=by
 obtain⟨t,f,c⟩:=h.ty d;refine e.apart f ?_;unfold WTy at c;rcases c with rfl|rfl|rfl|rfl|rfl|rfl <;> unfold DTy <;> decide
theorem WAt.step{K:Nat->Prop}{w w':World}{L:WL}{W:WM}(h:WAt K w L W){a b:NL}{g i:NM}{c d:DM}(o:NRep w a g c)(hs:NStep a c w b i d w')(f:∀ k,K k->¬NFoot a c k) :
 WAt K w' L W/\(∀ k,K k->¬NFoot b d k) :=
 ⟨h.fr hs.fr (fun _ e=>h.node o e) f,fun k e j=>(hs.BA k j).elim (f k e) (fun l=>by have:=(h.Bt k e).1;omega)⟩
theorem LV(l:List Nat)(i:Nat)(h:i<l.length):(ZV l)[i]?=some (.pointer (some ⟨l[i],0,none⟩)):=by simp[ZV,h]
theorem Zx(K:Nat->Prop)(L:WL)(W:WM)(w:World)(h:WAt K w L W)(i:0<L.ps.length)(k:L.ps.length<1000000000000) :
 Calls Tryz.prog 107 #[.pointer (some ⟨L.wb,0,none⟩)] w fun e l=>e=.returned (.pointer (some ⟨L.ps[L.ps.length-1],0,none⟩))/\∃ n,l=w.drewN n:=by
 obtain⟨g,c,a,_,_⟩:=zm h.Ab i;have b:w.cell? ⟨L.wb,6,none⟩=some (.slice (some ⟨g,0,none⟩) L.ps.length c):=by rw[<- a];exact h.CY.cell 6
 have hs:=h.Ab;rw[a] at hs;have f:=own_cell? hs (L.ps.length-1) _ (LV L.ps (L.ps.length-1) (by omega));have j:IntKind.i64.wrap ((L.ps.length:Int)-1)=((L.ps.length-1:Nat):Int):=by rw[Hr];omega
 have d:L.ps.length-1<L.ps.length:=by omega
 generalize L.ps[L.ps.length-1]=q at f |-;generalize hm:L.ps.length-1=m at f j d |-;generalize L.ps.length=n at b j d i k;clear h hs a hm;go_enter Tryz.func107,Tryz.ntmps107;go_wp2_with fail
 go_quiet (fail)
 go_wp2
 go_ret;exact⟨rfl,_,rfl⟩
theorem TI(c:Int)(w:World) :
 Calls Tryz.prog 51 #[.int .i64 c] w fun e a=>e=.returned (.int .i64 (if c<0 then 1152921504606846976 else c))/\a=w:=by
 by_cases h:c<0
 .go_enter Tryz.func51,Tryz.ntmps51
  go_wp2
  go_ret;exact⟨rfl,rfl⟩
 .go_enter Tryz.func51,Tryz.ntmps51
  go_wp2
  go_ret;exact⟨rfl,rfl⟩
theorem Pq(n s y:Int)(w:World) :
 Calls Tryz.prog 55 #[.agg #[.int .i64 n,.int .i64 s,.int .i64 y]] w fun e b=>e=.returned (.bool (zP n s y))/\Fr Nil w b:=by
 have a:Fr Nil w (w.alloc (.cells #[.int .i64 n,.int .i64 s,.int .i64 y] 102)):=(O _ _).alloc _;by_cases c:0<=n
 .by_cases h1:n<4
  .by_cases h2:1000<=s
   .by_cases h3:s<=1000000
    .by_cases h4:0<=y
     .by_cases h5:y<=100
      .have HR:=Z (show zP n s y=true by unfold zP zA;simp;omega)
       go_enter Dc,EV
       go_wp2
       go_ret;exact⟨by rw[HR.out];rfl,a⟩
      .have HR:=Z (show zP n s y=false by unfold zP zA;simp;omega)
       go_enter Dc,EV
       go_wp2
       go_ret;exact⟨by rw[HR.out];rfl,a⟩
     .have HR:=Z (show zP n s y=false by unfold zP zA;simp;omega)
      go_enter Dc,EV
      go_wp2
      go_ret;exact⟨by rw[HR.out];rfl,a⟩
    .have HR:=Z (show zP n s y=false by unfold zP zA;simp;omega)
     go_enter Dc,EV
     go_wp2
     go_ret;exact⟨by rw[HR.out];rfl,a⟩
   .have HR:=Z (show zP n s y=false by unfold zP zA;simp;omega)
    go_enter Dc,EV
    go_wp2
    go_ret;exact⟨by rw[HR.out];rfl,a⟩
  .have HR:=Z (show zP n s y=false by unfold zP zA;simp;omega)
   go_enter Dc,EV
   go_wp2
   go_ret;exact⟨by rw[HR.out];rfl,a⟩
 .have HR:=Z (show zP n s y=false by unfold zP zA;simp;omega)
  go_enter Dc,EV
  go_wp2
  go_ret;exact⟨by rw[HR.out];rfl,a⟩
theorem zB(w:World)(b:Nat)(L:DL)(M:DM)(h:DRep w b L M) :
 Calls Tryz.prog 57 #[.pointer (some ⟨b,0,none⟩)] w fun e c=>e=.returned (.int .i64 M.calls)/\c=w:=by
 have a:=h.CY.cell;simp only[DM.cells] at a;clear h;go_enter Tryz.func57,Tryz.ntmps57
 go_wp2
 go_ret;exact⟨rfl,rfl⟩
theorem Z7(K:Nat->Prop)(L:WL)(W:WM)(j:DL)(M:DM)(e b a:Int)(w:World)(h:WAt K w L W)(k:DRep w L.db j M) :
 Calls Tryz.prog 105 #[.pointer (some ⟨L.wb,0,none⟩),.int .i64 e,.int .i64 b,.int .i64 a] w fun r m=>r=.returned (.bool (decide (e=b/\M.calls=a)))/\m=w:=by
 have o:w.cell? ⟨L.wb,4,none⟩=some (.pointer (some ⟨L.db,0,none⟩)):=h.CY.cell 4;have i:=Z (zB w L.db j M k);clear h k;by_cases c:e=b
 .by_cases h2:M.calls=a
  .have e1:(e==b)=true:=by simp[c]
   have l:(M.calls==a)=true:=by simp[h2]
   have d:=Z (show decide (e=b/\M.calls=a)=true by simp[c,h2]);clear c h2;go_enter Tryz.func105,Tryz.ntmps105
   go_wp2_with (refine i.out.mono ?_;rintro x g ⟨rfl,f⟩;subst g)
   go_ret;exact⟨by rw[d.out];rfl,rfl⟩
  .have e1:(e==b)=true:=by simp[c]
   have l:(M.calls==a)=false:=by simp[h2]
   have d:=Z (show decide (e=b/\M.calls=a)=false by simp[h2]);clear c h2;go_enter Tryz.func105,Tryz.ntmps105
   go_wp2_with (refine i.out.mono ?_;rintro x g ⟨rfl,f⟩;subst g)
   go_ret;exact⟨by rw[d.out];rfl,rfl⟩
 .have e1:(e==b)=false:=by simp[c]
  have d:=Z (show decide (e=b/\M.calls=a)=false by simp[c]);clear c;go_enter Tryz.func105,Tryz.ntmps105
  go_wp2
  go_ret;exact⟨by rw[d.out];rfl,rfl⟩
structure WStep(K:Nat->Prop)(L:WL)(w:World)(L':WL)(W':WM)(w':World):Prop where
 CZ:WAt K w' L' W'
 fr:Fr (WFoot L) w w'
 BA:∀ k,WFoot L' k->WFoot L k\/w.heap.size<=k
 wb:L'.wb=L.wb
 db:L'.db=L.db
 nv:L'.nv=L.nv
 tv:L'.tv=L.tv:=by rfl
theorem WStep.nil{K:Nat->Prop}{L:WL}{W:WM}{w w':World}(h:WAt K w L W)(f:Fr Nil w w'):WStep K L w L W w':=⟨h.nil f,f.mono (fun _ _ e=>absurd e id),fun _ e=>.inl e,rfl,rfl,rfl,rfl⟩
theorem WStep.trans{K:Nat->Prop}{L1 c g:WL}{t o:WM}{r w2 s:World}(h:WStep K L1 r c t w2)(k:WStep K c w2 g o s):WStep K L1 r g o s :=
 ⟨k.CZ,h.fr.trans' k.fr (fun i x e=>(h.BA i e).resolve_right (by omega)),fun i e=>(k.BA i e).elim (h.BA i) (fun e=>.inr (IP h.fr.size e)),k.wb.trans h.wb,k.db.trans h.db,k.nv.trans h.nv,k.tv.trans h.tv⟩
theorem WAt.own{K:Nat->Prop}{w w':World}{L L':WL}{W W':WM}(h:WAt K w L W)(E:Blk w' L.wb (W'.cells L') 49)(f:Fr (fun k=>k=L.wb) w w')(m:L'.wb=L.wb)(o:L'.sv=L.sv)(q:L'.ps=L.ps)(r:L'.vs=L.vs)(u:L'.vm=L.vm)(y:L'.ns=L.ns)(z:L'.nm=L.nm)(A:L'.hs=L.hs)(B:L'.hm=L.hm)(c:W'.st=W.st)(g:W'.bk=W.bk):WAt K w' L' W':=by
 obtain⟨T,J,N,R,tv,Q,vs,vm,ns,nm,hs,hm⟩:=L';simp only at m o q r u y z A B;subst m o q r u y z A B;have a:∀ {t} {v:Value} {n s:Nat} {I:List Value},w.ownsRow 0 t s v n I->t≠49->∀ k,v.ownBlock=some k->¬k=L.wb:=fun F G k e j=>by subst j;exact zd F h.CY (fun e=>G e.symm) e
 refine⟨E,zb h.Ab f (a h.Ab (by decide)),by rw[c];exact h.Ao,fun i D C=>?_,?_,fun k e=>?_⟩
 .simp only[c] at C |-
  exact(h.AB i D C).Bt (zQ.BO f (fun k e=>⟨(h.Bt k e).1,fun j=>(h.Bt k e).2 (.inl j)⟩)) (fun _ e=>e)
 .rw[g]
  exact⟨zb h.book.vs f (a h.book.vs (by decide)),zb h.book.vm f (a h.book.vm (by decide)),zb h.book.ns f (a h.book.ns (by decide)),zb h.book.nm f (a h.book.nm (by decide)),zb h.book.hs f (a h.book.hs (by decide)),zb h.book.hm f (a h.book.hm (by decide)),h.book.s1,h.book.s2⟩
 .exact⟨Gd (h.Bt k e).1 f.size,(h.Bt k e).2⟩
theorem WStep.set{K:Nat->Prop}{w:World}{L L':WL}{W W':WM}(h:WAt K w L W)(i:Nat)(v:Value)(E:(W.cells L).set i v=W'.cells L')(b:L'.wb=L.wb)(r:L'.sv=L.sv)(D:L'.ps=L.ps)(t:L'.vs=L.vs)(u:L'.vm=L.vm)(y:L'.ns=L.ns)(z:L'.nm=L.nm)(A:L'.hs=L.hs)(B:L'.hm=L.hm)(c:W'.st=W.st)(d:W'.bk=W.bk)(g:L'.db=L.db)(j:L'.nv=L.nv)(o:L'.tv=L.tv:=by rfl) :
 WStep K L w L' W' (w.setCell ⟨L.wb,i,none⟩ v):=by
 have f:Fr (fun k=>k=L.wb) w (w.setCell ⟨L.wb,i,none⟩ v):=Fr.set (S:=fun k=>k=L.wb) (p:=⟨L.wb,i,none⟩) (O _ _) (fun _=>rfl) _;refine⟨h.own (by rw[<- E];exact h.CY.set i v) f b r D t u y z A B c d,f.mono (fun k _ e=>.inl e),fun k C=>.inl ?_,b,g,j,o⟩;unfold WFoot at C |-
 rwa [b,r,t,u,y,z,A,B] at C
theorem NT:((Tryz.prog.info? 104).map fun i=>(i.zero.map (·.cells.size),i.size,i.bytes))=some (some 1,1,8):=by kernel_rfl
theorem Uv(w:World)(v:Value)(n:Nat)(l:List Value)(h:w.ownsRow 0 104 1 v n l)(q:Nat)(x:n<1000000000)(d:World)(f:Fr Nil w d)(N:Nat)(r:Blk d N [.pointer (some ⟨q,0,none⟩)] 104)(ty:TypeId) :
 ∃ v' b,(Builtin.append_ #[42,42] ty #[v,.slice (some ⟨N,0,none⟩) 1 1]).run Tryz.prog d=.ok v' b /\
  (b.ownsRow 0 104 1 v' (n+1) (l++[.pointer (some ⟨q,0,none⟩)])/\Fr (fun k=>v.ownBlock=some k) w b/\(∀ k,v'.ownBlock=some k->v.ownBlock=some k\/w.heap.size<=k)):=by
 have s:=zb h f (fun _ _=>id);obtain⟨v',b,t,o,p,a⟩:=zt (P:=Tryz.prog) 42 ty 104 1 8 Tryz.underlying42 NT (by omega) v n l s ⟨N,0,none⟩ 1 1 [.pointer (some ⟨q,0,none⟩)] rfl
  (fun j u c=>by rw[Gh,Gg,r.cell];exact c) (by intro u c;simp at c;subst c;rfl) (by unfold maxLen;omega) (by omega)
 refine⟨v',b,t,o,(f.mono (fun _ _ e=>absurd e id)).trans' ((Fr.Bv p).mono (fun i _ h=>h)) (fun i _ h=>h),fun k g=>?_⟩;rcases a with a|a
 .exact .inl (by rw[<- a];exact g)
 .rw[a] at g;simp at g;have:=f.size;exact .inr (by omega)
theorem WStep.BZ{K:Nat->Prop}{w w4:World}{L:WL}{W:WM}(h:WAt K w L W){v':Value}{qs:List Nat}{st':List LM}(r:w4.ownsRow 0 104 1 v' qs.length (ZV qs))(l:Fr (fun b=>L.sv.ownBlock=some b) w w4)(x:∀ b,v'.ownBlock=some b->L.sv.ownBlock=some b\/w.heap.size<=b)
 (z:qs.length=st'.length)(hm:∀ i (g:i<qs.length)(j:i<st'.length),MRep K w qs[i] st'[i]) :
 WStep K L w {L with sv:=v',ps:=qs} {W with st:=st'} (w4.setCell ⟨L.wb,6,none⟩ v'):=by
 have f:∀ {t:TypeId} {k:Nat},Ty w k t->t≠104->¬L.sv.ownBlock=some k:=fun a A e=>A (a.inj (zD h.Ab e));have d:Blk w4 L.wb _ _:=h.CY.fr l (f h.CY.ty (by decide));have m:Fr (fun k=>k=L.wb) w4 (w4.setCell ⟨L.wb,6,none⟩ v'):=Fr.set (S:=fun k=>k=L.wb) (p:=⟨L.wb,6,none⟩) (O _ _) (fun _=>rfl) _;have o:Fr (WFoot L) w (w4.setCell ⟨L.wb,6,none⟩ v'):=(l.mono (fun k _ e=>.inr (.inl e))).trans' (m.mono (S':=WFoot L) (fun k _ e=>.inl e)) (fun _ _ e=>e);have c:∀ {t} {v:Value} {n s:Nat} {y:List Value},w.ownsRow 0 t s v n y->t≠104->t≠49->(w4.setCell ⟨L.wb,6,none⟩ v').ownsRow 0 t s v n y:=fun q g j =>
  zb (zb q l (fun k e=>f (zD q e) g)) m (fun k e a=>by subst a;exact zd q h.CY (fun e=>j e.symm) e)
 refine⟨⟨d.set 6 v',zb r m (fun k e a=>by subst a;exact zd r d (by decide) e),z,fun i g j=>(hm i g j).Bt (zQ.BO o (fun k e=>h.Bt k e)) (fun _ e=>e),?_,fun k e=>⟨Gd (h.Bt k e).1 o.size,fun a=>?_⟩⟩,o,fun k a=>?_,rfl,rfl,rfl,rfl⟩
 .exact⟨c h.book.vs (by decide) (by decide),c h.book.vm (by decide) (by decide),c h.book.ns (by decide) (by decide),c h.book.nm (by decide) (by decide),c h.book.hs (by decide) (by decide),c h.book.hm (by decide) (by decide),h.book.s1,h.book.s2⟩
 .have h0:=h.Bt k e
  rcases a with a|a|a
  .exact h0.2 (.inl a)
  .exact(x k a).elim (fun e=>h0.2 (.inr (.inl e))) (fun e=>by omega)
  .exact h0.2 (.inr (.inr a))
 .rcases a with a|a|a
  .exact .inl (.inl a)
  .exact(x k a).elim (fun e=>.inl (.inr (.inl e))) .inr
  .exact .inl (.inr (.inr a))
theorem Rp:((Tryz.prog.info? 107).map fun i=>(i.zero.map (·.cells.size),i.size,i.bytes))=some (some 3,3,56):=by kernel_rfl
theorem TJ{w:World}{f g:Nat}{c k:List Value}(l:Blk w f c 107)(m:Blk w g k 107)(b:f≠g) :
 (binOp .neq 104 (.pointer (some ⟨f,0,none⟩)) (.pointer (some ⟨g,0,none⟩))).run Tryz.prog w=.ok (.bool true) w/\(binOp .eql 104 (.pointer (some ⟨f,0,none⟩)) (.pointer (some ⟨g,0,none⟩))).run Tryz.prog w=.ok (.bool false) w:=by
 obtain⟨i,z,o,_,hs,_⟩:=ZH Rp;have j:i.size≠0:=by omega
 have a:(⟨f,0,none⟩:Addr)≠⟨g,0,none⟩:=fun e=>b (GY Addr.block e);have h:∀ d:Nat,(Op.equalIn (d+1) 104 (.pointer (some ⟨f,0,none⟩)) (.pointer (some ⟨g,0,none⟩))).run Tryz.prog w=.ok false w:=fun d=>by
  simp[Op.equalIn,run_underlying Tryz.underlying104,sizeOf,typeInfo,o,j,run_sameAddr_other w a l m]
 simp only[binOp];exact⟨by simp[Op.equal,Op.maxDepth,h 9999],by simp[Op.equal,Op.maxDepth,h 9999]⟩
theorem MRep.CY{K:Nat->Prop}{w:World}{p:Nat}{m:LM}(h:MRep K w p m):∃ c,Blk w p c 107:=by
 obtain⟨l,j,e,g,_⟩:=h;exact⟨_,g.CY⟩
theorem WAt.last{K:Nat->Prop}{w:World}{L:WL}{W:WM}(h:WAt K w L W)(b:0<L.ps.length):∃ a:L.ps.length-1<W.st.length,MRep K w L.ps[L.ps.length-1] W.st[L.ps.length-1] :=
 ⟨by have:=h.Ao;omega,h.AB _ (by omega) (by have:=h.Ao;omega)⟩
theorem N4(K:Nat->Prop)(L:WL)(W:WM)(q:Nat)(m:LM)(w:World)(h:WAt K w L W)(hp:0<L.ps.length)(hl:L.ps.length<100000000)(T:MRep K w q m)(D:q≠L.ps[L.ps.length-1])(hw:W.writes<1000000000000) :
 Calls Tryz.prog 158 #[.pointer (some ⟨L.wb,0,none⟩),.pointer (some ⟨q,0,none⟩)] w fun e w'=>e=.returned (.tuple #[])/\∃ L',WStep K L w L' {W with st:=W.st++[m],writes:=W.writes+1} w'/\L'.ps=L.ps++[q]:=by
 have Y:=Z (Zx K L W w h hp (by omega));obtain⟨c1,y⟩:=T.CY;obtain⟨_,d⟩:=h.last hp;obtain⟨c2,z⟩:=d.CY;have r:=Z h;have HQ:=Z T;have t:Hid (∀ n,_):=fun n=>(TJ (y.drewN n) (z.drewN n) D).1;clear h y z d T D;generalize L.ps[L.ps.length-1]=q0 at Y t;go_enter Tryz.func158,Tryz.ntmps158;go_wp2_with fail;refine Y.out.mono ?_;rintro e F ⟨rfl,n,p⟩;have N:=t.out n;rw[<- p] at N;have I:Fr Nil w F:=by rw[p];exact(O _ _).drewN n
 have g:=r.out.nil I;obtain⟨sa,sc,j⟩:=zc g.Ab;have M:F.cell? ⟨L.wb,6,none⟩=some (.slice sa L.ps.length sc):=by rw[<- j];exact g.CY.cell 6
 have a2:=g.CY.frozen;have a:=g.Ab;rw[j] at a;have l:=Z a;have s:Hid (∀ w4:World,Fr (fun k=>(Value.slice sa L.ps.length sc).ownBlock=some k) F w4->Blk w4 L.wb (W.cells L) 49):=fun w4 f=>g.CY.fr f (zd a g.CY (by decide));have X:=Z g;have u:=Z I;have C:L.ps.length<1000000000:=by omega
 have a0:IntKind.i64.wrap ((W.writes:Int)+1)=((W.writes+1:Nat):Int):=by rw[Hr];push_cast;omega
 clear g a I p;generalize o:L.ps.length=a3 at M l s C;have c:=Z o;clear o
 go_wp2_with (at_builtin;go_must (refine zk rfl _ _ _ _ rfl _ _ (by rfl) (by rfl) (Uv F _ _ _ l.out q C _ za _ (by exact Blk.new _ [_] _) _) ?_;rintro v4 w4 ⟨E,B,S⟩;have A:=s.out _ B;obtain⟨a4,a5,V⟩:=zc E;have J:=A.cell;simp only[WM.cells] at J;have a1:=A.frozen))
 have R:(L.ps++[q]).length=(W.st++[m]).length:=by simp[r.out.Ao]
 have x:=WStep.BZ X.out (v':=v4) (qs:=L.ps++[q]) (st':=W.st++[m]) (w4:=w4) (by rw[IM,IU,c.out];simpa [ZV] using E) (by rw[j,c.out];exact B) (fun b e=>by rw[j,c.out];exact S b e) R (fun i g h2=>by
  by_cases hi:i<L.ps.length
  .have h3:i<W.st.length:=by have:=r.out.Ao;omega
   rw[Hw hi,Hw h3];exact X.out.AB i hi h3
  .have hi2:i=L.ps.length:=by simp at g;omega
   have Q:i=W.st.length:=by have:=r.out.Ao;omega
   subst hi2;rw[Gu (IQ _)];simp only[Q,Gu (IQ _)];simp only[Dj,GJ];exact(HQ.out.Bt (zQ.BO u.out (fun k e=>⟨(r.out.Bt k e).1,id⟩)) (fun _ e=>e)))
 have G:=x.trans (WStep.set x.CZ 10 (.int .i64 ((W.writes:Int)+1)) (L':={L with sv:=v4,ps:=L.ps++[q]}) (W':={W with st:=W.st++[m],writes:=W.writes+1}) (by simp[WM.cells]) rfl rfl rfl rfl rfl rfl rfl rfl rfl rfl rfl rfl rfl);subst V;exact GC (v:=.tuple #[]) (by simp[results,go_sem]) rfl ⟨rfl,_,(WStep.nil r.out u.out).trans G,rfl⟩
theorem VU(K:Nat->Prop)(L:WL)(W:WM)(w:World)(h:WAt K w L W)(E:0<L.ps.length)(J:L.ps.length<100000000) :
 Calls Tryz.prog 116 #[.pointer (some ⟨L.wb,0,none⟩)] w fun e I=>e=.returned (.tuple #[])/\∃ B,WStep K L w B {W with st:=W.st.drop (W.st.length-1)} I/\B.ps=L.ps.drop (L.ps.length-1):=by
 have z:=Z (Zx K L W w h E (by omega));obtain⟨x,c⟩:=h.last E;have d:=h.Ao;have j:L.ps.drop (L.ps.length-1)=[L.ps[L.ps.length-1]]:=by
  rw[Gm (by omega),Gy (by omega)]
 have l:W.st.drop (W.st.length-1)=[W.st[L.ps.length-1]]:=by
  rw[Gm (by omega),Gy (by omega)];simp only[d]
 rw[j,l];generalize L.ps[L.ps.length-1]=q at z c |-;generalize W.st[L.ps.length-1]=m at c |-;have p:=Z h;have y:=Z c;clear h c x d j l;go_enter Tryz.func116,Tryz.ntmps116;go_wp2_with fail;refine z.out.mono ?_;rintro e g ⟨rfl,n,o⟩;have r:Fr Nil w g:=by rw[o];exact(O _ _).drewN n
 have s:=p.out.nil r;have u:=Blk.new g [.pointer (some ⟨q,0,none⟩)] 104;have C:Fr Nil g (g.alloc (.cells #[.pointer (some ⟨q,0,none⟩)] 104)):=(O _ _).alloc _;have D:=s.nil C;have f:(g.alloc (.cells #[.pointer (some ⟨q,0,none⟩)] 104)).ownsRow 0 104 1 (.slice (some ⟨g.heap.size,0,none⟩) 1 1) [q].length (ZV [q]):=ZA (cap:=1) u (IQ _) (by decide) rfl rfl;have G:=D.CY.cell;simp only[WM.cells] at G;have M:=D.CY.frozen;have A:=WStep.BZ s (v':=.slice (some ⟨g.heap.size,0,none⟩) 1 1) (qs:=[q]) (st':=[m]) f (C.mono (fun _ _ e=>absurd e id)) (fun b e=>.inr (by simp[Value.ownBlock] at e;subst e;exact IQ _)) rfl (fun i a b=>by
  have:i=0:=by simp at a;exact a
  subst this;exact y.out.Bt (zQ.BO r (fun k e=>⟨(p.out.Bt k e).1,id⟩)) (fun _ e=>e))
 have t:=Z (WStep.trans (WStep.nil p.out r) A);have F:=Z s;clear p y A r s f o;go_wp2_with fail;exact GC (v:=.tuple #[]) (by simp[results,go_sem]) rfl ⟨rfl,_,t.out,rfl⟩
theorem UM(K:Nat->Prop)(L:WL)(W:WM)(n:Nat)(w:World)(h:WAt K w L W)(j:W.calls<100000000)(d:W.most<n)(b:n<=16*W.calls) :
 Calls Tryz.prog 106 #[.pointer (some ⟨L.wb,0,none⟩),.int .i64 n] w fun e f=>e=.returned (.bool true)/\WStep K L w L {W with most:=n} f:=by
 have a:=h.CY.cell;simp only[WM.cells] at a;have k:=h.CY.frozen;have hm:IntKind.i64.wrap (16*(W.calls:Int))=16*(W.calls:Int):=by rw[Hr];omega
 have g:¬(n:Int)<=W.most:=by omega
 have i:¬16*(W.calls:Int)<n:=by omega
 have c:=Z (WStep.set h 12 (.int .i64 n) (L':=L) (W':={W with most:=n}) (by simp[WM.cells]) rfl rfl rfl rfl rfl rfl rfl rfl rfl rfl rfl rfl rfl);clear h d b;go_enter Tryz.func106,Tryz.ntmps106;go_wp2_with fail;go_ret;exact⟨rfl,c.out⟩
theorem Zd(K:Nat->Prop)(L:WL)(W:WM)(r:DL)(M:DM)(w:World)(h:WAt K w L W)(u:DRep w L.db r M) :
 Calls Tryz.prog 56 #[.pointer (some ⟨L.wb,0,none⟩)] w fun e F=>e=.returned (.agg #[.int .i64 M.refused,.int .i64 M.Bb])/\Fr Nil w F:=by
 have a:Fr Nil w (w.alloc (Obj.cells #[.int .i64 0,.int .i64 0] 111)):=(O _ _).alloc _;have c:=Blk.new w [.int .i64 0,.int .i64 0] 111;have C:=Z (fun o (f:Fr Nil w o)=>ZZ o L.db r M (u.nil f));have D:=Z (fun o (f:Fr Nil w o)=>UD o L.db r M (u.nil f));have y:=Z (h.nil a);have i:=Z a;have z:=Z c;clear h u a c;go_enter Tryz.func56,Tryz.ntmps56;go_wp2_with fail;generalize b:w.alloc (Obj.cells #[.int .i64 0,.int .i64 0] 111)=g;have c:Blk g w.heap.size [.int .i64 0,.int .i64 0] 111:=by rw[<- b];exact z.out
 have A:WAt K g L W:=by rw[<- b];exact y.out
 have a:Fr Nil w g:=by rw[<- b];exact i.out
 have q:=Z a;have E:g.cell? ⟨L.wb,4,none⟩=some (.pointer (some ⟨L.db,0,none⟩)):=A.CY.cell 4;have t:=c.cell;have x:=c.frozen;have p:=Z c;have B:Hid (w.heap.size<=w.heap.size):=IQ _;clear b A a i z y c;refine GK 11 (by kernel_rfl) (by kernel_rfl) ?_;simp only[Gp,GZ,GH,GU]
 iterate 4 still_step
 still_call (C.out _ (q.out.trans (by exact za)))
 iterate 4 still_step
 still_call (D.out _ (q.out.trans (by exact za)))
 iterate 1 still_step
 refine FV ?_;go_wp2_with fail;have l:=(p.out.set 0 (.int .i64 M.refused)).set 1 (.int .i64 M.Bb);have m:Fr Nil w ((g.setCell ⟨w.heap.size,0,none⟩ (.int .i64 M.refused)).setCell ⟨w.heap.size,1,none⟩ (.int .i64 M.Bb)) :=
  Fr.set (Fr.set q.out (fun h=>by simp only at h;omega) _) (fun h=>by simp only at h;omega) _
 have j:=Z m;have d:=l.cell;simp only[Hz,Ga] at d;clear t x m l;generalize (g.setCell ⟨w.heap.size,0,none⟩ (.int .i64 M.refused)).setCell ⟨w.heap.size,1,none⟩ (.int .i64 M.Bb)=G at d j |-;have s:∀ k,G.drew.cell? ⟨w.heap.size,k,none⟩=[Value.int .i64 M.refused,.int .i64 M.Bb][k]?:=d;refine EB (v:=.agg #[.int .i64 M.refused,.int .i64 M.Bb]) (by simp[results,Tryz.results56,go_sem,s,Tryz.isAgg111,Tryz.sizeOf111]) rfl ⟨rfl,j.out.drew⟩
theorem Zr(K:Nat->Prop)(L:WL)(W:WM)(j:DL)(M:DM)(w:World)(h:WAt K w L W)(k:DRep w L.db j M) :
 Calls Tryz.prog 104 #[.pointer (some ⟨L.wb,0,none⟩)] w fun e c=>e=.returned (.int .i64 (IntKind.i64.wrap ((if W.room<0 then 1152921504606846976 else W.room)-M.used)))/\Fr Nil w c:=by
 have i:Hid (∀ a,Fr Nil w a->a.cell? ⟨L.wb,1,none⟩=some (.int .i64 W.room)/\a.cell? ⟨L.wb,4,none⟩=some (.pointer (some ⟨L.db,0,none⟩))):=fun a f=>⟨(h.nil f).CY.cell 1,(h.nil f).CY.cell 4⟩;have s:=i.out w (O _ _);have l:=Z (fun a (f:Fr Nil w a)=>(Tp a L.db j M (k.nil f)).mono (fun e c (p:_/\Fr Nil a c)=>And.intro p.1 (f.trans p.2)));have d:=Z (fun a=>TI W.room a);generalize (if W.room<0 then 1152921504606846976 else W.room)=r at d |-;clear h k;go_enter Tryz.func104,Tryz.ntmps104;go_wp2_with fail
 go_region_held3 (fun c=>c.cell? ⟨L.wb,1,none⟩=some (.int .i64 W.room)/\c.cell? ⟨L.wb,4,none⟩=some (.pointer (some ⟨L.db,0,none⟩))) (first|assumption|go_keep)
  (first
  | (go_at_call 41;refine(l.out _ za).mono ?_;rintro e t ⟨rfl,b⟩;have o:=i.out _ b;have g:=Z b;clear b)
  | (go_at_call 51;refine(d.out _).mono ?_;rintro e q ⟨rfl,m⟩;subst q))
 go_wp2
 go_ret;exact⟨rfl,g.out⟩
def WM.due(W:WM):Bool:=decide (0<W.every)&&decide ((W.writes:Int).tmod W.every=0)
def WM.BS(W:WM)(m:LM):WM :=
 let a:={W with st:=W.st++[m],writes:=W.writes+1}
 if a.due then {a with st:=a.st.drop (a.st.length-1)} else a
theorem LW(K:Nat->Prop)(L:WL)(W:WM)(X:DL)(M:DM)(q:Nat)(m:LM)(free a:Int)(w:World)(h:WAt K w L W)(hd:DRep w L.db X M)(hp:0<L.ps.length)(hl:L.ps.length<10000000)(hq:MRep K w q m)(x:q≠L.ps[L.ps.length-1])(hw:W.writes<1000000000) :
 Calls Tryz.prog 110 #[.pointer (some ⟨L.wb,0,none⟩),.pointer (some ⟨q,0,none⟩),.int .i64 0,.agg #[.int .i64 M.refused,.int .i64 a],.int .i64 free] w fun e w'=>e=.returned (.bool true)/\∃ V,WStep K L w V (W.BS m) w'/\V.ps≠[]:=by
 have r:Fr Nil w (w.alloc (Obj.cells #[.int .i64 M.refused,.int .i64 a] 111)):=(O _ _).alloc _;have Y:=Blk.new w [.int .i64 M.refused,.int .i64 a] 111;have T:=Z (fun j (f:Fr Nil w j)=>ZZ j L.db X M (hd.nil f));have S:=Z (fun j (f:Fr Nil w j)=>N4 K L W q m j (h.nil f) hp (by omega) (hq.Bt (zQ.BO f (fun k e=>⟨(h.Bt k e).1,id⟩)) (fun _ e=>e)) x (by omega));have J:∀ n,((w.alloc (Obj.cells #[.int .i64 M.refused,.int .i64 a] 111)).drewN n).cell? ⟨L.wb,4,none⟩=some (.pointer (some ⟨L.db,0,none⟩)):=fun n=>(h.nil (r.drewN n)).CY.cell 4;have N:∀ n k,((w.alloc (Obj.cells #[.int .i64 M.refused,.int .i64 a] 111)).drewN n).cell? ⟨w.heap.size,k,none⟩=[Value.int .i64 M.refused,.int .i64 a][k]?:=fun n=>(Y.drewN n).cell;have i:=Z r;have R:=Z h;have E:Hid (L.ps.length<10000000):=hl;clear h hd r Y hq x;go_enter Tryz.func110,Tryz.ntmps110;go_wp2_with fail
 go_quiet ((go_at_call 47;exact Ff (T.out _ (i.out.trans (by exact za)))))
 go_wp2_with fail;refine(S.out _ (i.out.trans (by exact za))).mono ?_;rintro e Q ⟨rfl,g,s,l⟩;have C:=Z l;have A:Hid ((W.BS m)=(if ({W with st:=W.st++[m],writes:=W.writes+1}:WM).due then _ else _)):=(rfl:W.BS m=_);generalize G:({W with st:=W.st++[m],writes:=W.writes+1}:WM)=d at s A;have c:Hid (WStep K L w g d Q):=(WStep.nil R.out (i.out.trans (by exact za))).trans s;have I:∀ n k,(Q.drewN n).cell? ⟨L.wb,k,none⟩=(d.cells g)[k]?:=fun n=>by rw[<- c.out.wb];exact((c.out.CZ.nil ((O _ _).drewN n)).CY).cell
 simp only[WM.cells] at I;have B:Hid (g.wb=L.wb):=c.out.wb;clear s l N J G R i S T;generalize (w.alloc (Obj.cells #[Value.int IntKind.i64 M.refused,Value.int IntKind.i64 a] 111)).drewN _=j;have b:0<g.ps.length/\g.ps.length<100000000:=by rw[C.out];simp;have:=E.out;omega
 have v:=Z (fun j (f:Fr Nil Q j)=>VU K g d j (c.out.CZ.nil f) b.1 b.2);have p:Hid (g.ps≠[]/\g.ps.drop (g.ps.length-1)≠[]):=by
  refine⟨fun e=>by rw[e] at b;simp at b,fun e=>?_⟩;have:=GY List.length e;simp at this;omega
 clear b;rw[B.out] at v;by_cases z:0<d.every
 .by_cases hz:(d.writes:Int).tmod d.every=0
  .have hdy:decide (0<d.every)=true:=by simp[z]
   have u:=Z (show d.due=true by simp[WM.due,z,hz]);go_wp2_with fail
   go_quiet (fail)
   go_wp2_with (refine(v.out _ (by exact za)).mono ?_;rintro e w3 ⟨rfl,L3,y,o⟩;have F:=Z y;have D:=Z o;clear y o)
   go_ret;exact⟨rfl,L3,by rw[A.out,He u.out];exact c.out.trans ((WStep.nil c.out.CZ (by exact za)).trans F.out),by rw[D.out];exact p.out.2⟩
  .have hdy:decide (0<d.every)=true:=by simp[z]
   have t:(d.writes:Int).tmod d.every=(d.writes:Int)%d.every:=Int.tmod_eq_emod_of_nonneg (by omega);have a1:((d.writes:Int)%d.every==0)=false:=by rw[<- t];simp[hz]
   have a0:¬(d.writes:Int)%d.every=0:=by rw[<- t];exact hz
   have u:=Z (show ¬d.due=true by simp[WM.due,hz]);clear t;go_wp2_with fail
   go_quiet (fail)
   go_wp2_with fail;go_ret;exact⟨rfl,g,by rw[A.out,IV u.out];exact c.out.trans (WStep.nil c.out.CZ (by exact za)),p.out.1⟩
 .have hdy:decide (0<d.every)=false:=by simp[z]
  have u:=Z (show ¬d.due=true by simp[WM.due,z]);go_wp2_with fail
  go_quiet (fail)
  go_wp2_with fail;go_ret;exact⟨rfl,g,by rw[A.out,IV u.out];exact c.out.trans (WStep.nil c.out.CZ (by exact za)),p.out.1⟩
theorem Ty.lt{w:World}{k:Nat}{t:TypeId}(h:Ty w k t):k<w.heap.size:=by
 obtain⟨c,f,h⟩:=h;exact Cn fun e=>by rw[FT e] at h;exact absurd h (by simp)
theorem NRep.lt{w:World}{L:NL}{N:NM}{M:DM}(h:NRep w L N M){k:Nat}(c:NFoot L M k):k<w.heap.size:=by
 rcases c with rfl|rfl|c|c
 .exact h.CY.lt
 .exact Blk.lt h.log
 .rcases h.held.BH c with e|e|e <;> exact e.lt
 .obtain⟨t,ht,_⟩:=h.Bz.ty c
  exact ht.lt
theorem WAt.read{K:Nat->Prop}{w:World}{L:WL}{W:WM}(h:WAt K w L W){X:NL}{N:NM}{M:DM}(d:NRep w X N M){k:Nat}(c:SRead X.LS k):¬WFoot L k:=by
 intro b;obtain⟨t,f,a⟩:=h.ty b;have:=f.inj (d.held.BV c);subst this;unfold WTy at a;rcases a with e|e|e|e|e|e <;> exact absurd e (by decide)
structure Play(K:Nat->Prop)(B:Nat)(w:World)(L:WL)(W:WM)(X:NL)(N:NM)(M:DM):Prop where
 Bi:WAt K w L W
 node:NRep w X N M
 env:Ym B X M w
 nv:L.nv=.pointer (some ⟨X.nb,0,none⟩)
 db:L.db=X.db
 sep:∀ k,K k->¬NFoot X M k
 low:∀ k,WFoot L k->B<=k
def PFoot(L:WL)(X:NL)(M:DM)(k:Nat):Prop:=WFoot L k\/NFoot X M k
structure PStep(K:Nat->Prop)(B:Nat)(L:WL)(X:NL)(M:DM)(w:World)(K':Nat->Prop)(L':WL)(W':WM)(X':NL)(N':NM)(M':DM)(w':World):Prop where
 CZ:Play K' B w' L' W' X' N' M'
 old:∀ k,K k->K' k
 new:∀ k,K' k->K k\/w.heap.size<=k
 fr:Fr (PFoot L X M) w w'
 BA:∀ k,PFoot L' X' M' k->PFoot L X M k\/w.heap.size<=k
 wb:L'.wb=L.wb
 tv:L'.tv=L.tv:=by rfl
theorem PStep.trans{B:Nat}{c g o:Nat->Prop}{L1 r s:WL}{J A:WM}{C D E:NL}{I z:NM}{t x y:DM}{F w2 G:World}
 (h:PStep c B L1 C t F g r J D I x w2)(k:PStep g B r D x w2 o s A E z y G):PStep c B L1 C t F o s A E z y G where
 CZ:=k.CZ
 old:=fun i e=>k.old i (h.old i e)
 new:=fun i e=>(k.new i e).elim (h.new i) (fun e=>.inr (IP h.fr.size e))
 fr:=h.fr.trans' k.fr (fun i K e=>(h.BA i e).resolve_right (by omega))
 BA:=fun i e=>(k.BA i e).elim (h.BA i) (fun e=>.inr (IP h.fr.size e))
 wb:=k.wb.trans h.wb
 tv:=k.tv.trans h.tv
theorem Play.nil{K:Nat->Prop}{B:Nat}{w w':World}{L:WL}{W:WM}{X:NL}{N:NM}{M:DM}(h:Play K B w L W X N M)(f:Fr Nil w w'):PStep K B L X M w K L W X N M w' :=
 ⟨⟨h.Bi.nil f,h.node.nil f,h.env.nil f,h.nv,h.db,h.sep,h.low⟩,fun _ e=>e,fun _ e=>.inl e,f.mono (fun _ _ e=>absurd e id),fun _ e=>.inl e,rfl,rfl⟩
theorem Play.gr{K:Nat->Prop}{B:Nat}{w b:World}{L:WL}{W:WM}{X:NL}{N:NM}{M:DM}(h:Play K B w L W X N M)(f:Fr Nil w b):PStep K B L X M w (KGr K w b) L W X N M b :=
 ⟨⟨h.Bi.gr f,h.node.nil f,h.env.nil f,h.nv,h.db,fun k e c=>e.elim (fun e=>h.sep k e c) (fun e=>by have:=h.node.lt c;omega),h.low⟩,fun _ e=>.inl e,fun k e=>e.elim .inl (fun e=>.inr e.1),f.mono (fun _ _ e=>absurd e id),fun _ e=>.inl e,rfl,rfl⟩
theorem Play.call{K:Nat->Prop}{B:Nat}{w d:World}{L:WL}{W:WM}{X c:NL}{N b:NM}{M a:DM}(h:Play K B w L W X N M)(s:NStep X M w c b a d):PStep K B L X M w K L W c b a d where
 CZ:=⟨(h.Bi.step h.node s h.sep).1,s.CZ,h.env.step s,by rw[h.nv,s.same.nb],by rw[h.db,s.same.db],(h.Bi.step h.node s h.sep).2,h.low⟩
 old:=fun _ e=>e
 new:=fun _ e=>.inl e
 fr:=s.fr.mono (fun _ _ e=>.inr e)
 BA:=fun k e=>e.elim (fun e=>.inl (.inl e)) (fun e=>(s.BA k e).elim (fun e=>.inl (.inr e)) .inr)
 wb:=rfl
theorem Play.turn{K:Nat->Prop}{B:Nat}{w c:World}{L L':WL}{W W':WM}{X:NL}{N:NM}{M:DM}(h:Play K B w L W X N M)(s:WStep K L w L' W' c):PStep K B L X M w K L' W' X N M c where
 CZ:=⟨s.CZ,h.node.fr s.fr (fun k b d=>h.Bi.node h.node d b) (fun k b=>h.Bi.read h.node b),⟨h.env.tab.fr h.env.le s.fr h.low,IP h.env.le s.fr.size,h.env.BA⟩,by rw[s.nv,h.nv],by rw[s.db,h.db],h.sep,fun k e=>(s.BA k e).elim (h.low k) (fun e=>IP h.env.le e)⟩
 old:=fun _ e=>e
 new:=fun _ e=>.inl e
 fr:=s.fr.mono (fun _ _ e=>.inl e)
 BA:=fun k e=>e.elim (fun e=>(s.BA k e).elim (fun e=>.inl (.inl e)) .inr) (fun e=>.inl (.inr e))
 wb:=s.wb
 tv:=s.tv
structure OpM where
 kind:Int
 a:Int
 b:Int
 c:Int
 key:ByteArray
 text:ByteArray
 v:Ver
 BN:Value
def OpM.cells(o:OpM):List Value:=[.int .i64 o.kind,.int .i64 o.a,.int .i64 o.b,.int .i64 o.c,.string o.key,.string o.text]++o.v.cells++[o.BN]
theorem Play.lt{K:Nat->Prop}{B:Nat}{w:World}{L:WL}{W:WM}{X:NL}{N:NM}{M:DM}(h:Play K B w L W X N M){k:Nat}(c:PFoot L X M k):k<w.heap.size :=
 c.elim (h.Bi.lt k) (fun e=>h.node.lt e)
theorem Play.marks{K:Nat->Prop}{B:Nat}{w:World}{L:WL}{W:WM}{X:NL}{N:NM}{M:DM}(h:Play K B w L W X N M):DRep w L.db X.LD M:=by rw[h.db];exact h.node.Bz
structure Pre(K:Nat->Prop)(B:Nat)(L:WL)(W:WM)(X:NL)(N:NM)(M:DM)(w:World)(ops:List Value)(ob mb:Nat)(w4:World):Prop where
 st:PStep K B L X M w K L W X N M w4
 fr:Fr Nil w w4
 op:∀ {wx:World} {K':Nat->Prop} {L':WL} {W':WM} {X':NL} {N':NM} {M':DM},PStep K B L X M w4 K' L' W' X' N' M' wx->∀ k,wx.cell? ⟨ob,k,none⟩=ops[k]?
 ma:∀ {wx:World} {K':Nat->Prop} {L':WL} {W':WM} {X':NL} {N':NM} {M':DM},PStep K B L X M w4 K' L' W' X' N' M' wx->∀ k,wx.cell? ⟨mb,k,none⟩=[Value.int .i64 M.refused,.int .i64 M.Bb][k]?
theorem Pre.of{K:Nat->Prop}{B:Nat}{L:WL}{W:WM}{X:NL}{N:NM}{M:DM}{w i g w4:World}{a:List Value}(h:Play K B w L W X N M)(f:w.alloc (.cells a.toArray 39)=i)(j:Fr Nil i g)
 (l:Fr Nil (g.alloc (.cells #[.int .i64 M.refused,.int .i64 M.Bb] 111)) w4):Pre K B L W X N M w a w.heap.size g.heap.size w4:=by
 have y:Fr Nil w i:=by rw[<- f];exact(O _ _).alloc _
 have c:Blk i w.heap.size a 39:=by rw[<- f];exact Blk.new w a _
 have o:=Blk.new g [.int .i64 M.refused,.int .i64 M.Bb] 111;have b:Fr Nil w w4:=y.trans (j.trans (((O _ _).alloc _).trans l));have z:w.heap.size<g.heap.size:=by have:=c.lt;have:=j.size;omega
 have A:=h.nil b;have d:∀ {r:World} {t:Nat->Prop} {L':WL} {W':WM} {x:NL} {u:NM} {M':DM},PStep K B L X M w4 t L' W' x u M' r->Fr (fun k=>k<w.heap.size) w4 r:=fun s=>s.fr.mono (fun k _ e=>h.lt e);refine⟨A,b,fun s k=>?_,fun s k=>?_⟩
 .exact(c.fr (((j.trans (((O _ _).alloc _).trans l)).mono (S':=fun k=>k<w.heap.size) (fun _ _ e=>absurd e id)).trans' (d s) (fun _ _ e=>e)) (Fw _)).cell k
 .exact(o.fr ((l.mono (S':=fun k=>k<w.heap.size) (fun _ _ e=>absurd e id)).trans' (d s) (fun _ _ e=>e)) (by omega)).cell k
def WM.free(W:WM)(M:DM):Int:=IntKind.i64.wrap ((if W.room<0 then 1152921504606846976 else W.room)-M.used)
theorem Vt(K:Nat->Prop)(L:WL)(W:WM)(w:World)(h:WAt K w L W)(o:W.base<100000000)(p:W.next<100000000) :
 Calls Tryz.prog 161 #[.pointer (some ⟨L.wb,15,none⟩)] w fun e j=>e=.returned (.int .i64 ((W.base+W.next+1:Nat):Int))/\WStep K L w L {W with next:=W.next+1} j:=by
 have c:=h.CY.cell;simp only[WM.cells] at c;have g:=h.CY.frozen;have d:IntKind.i64.wrap ((W.next:Int)+1)=(W.next:Int)+1:=by rw[Hr];omega
 have f:IntKind.i64.wrap ((W.base:Int)+((W.next:Int)+1))=((W.base+W.next+1:Nat):Int):=by rw[Hr];push_cast;omega
 have b:=Z (WStep.set h 16 (.int .i64 ((W.next:Int)+1)) (L':=L) (W':={W with next:=W.next+1}) (by simp[WM.cells]) rfl rfl rfl rfl rfl rfl rfl rfl rfl rfl rfl rfl rfl);clear h;go_enter Tryz.func161,Tryz.ntmps161;go_wp2_with fail;generalize w.setCell ⟨L.wb,16,none⟩ (.int .i64 ((W.next:Int)+1))=l at b |-;have a:∀ n k,(l.drewN n).cell? ⟨L.wb,k,none⟩=(({W with next:=W.next+1}:WM).cells L)[k]?:=fun n=>(b.out.CZ.CY.drewN n).cell;simp only[WM.cells] at a
 push_cast at a
 clear c g
 go_quiet (fail)
 go_wp2
 go_ret;exact⟨rfl,b.out.trans (WStep.nil b.out.CZ (by exact za))⟩
def divs(m:Nat):Nat->Nat
 | 0=>m
 | k+1=>divs m k / 16
def Wo(m:Nat):Nat->ByteArray
 | 0=>⟨#[35]⟩
 | k+1=>Wo m k++zo [Y4 (divs m k)]
theorem JV(m k:Nat):divs m k<=m:=by
 induction k with
 | zero=>exact IQ _
 | succ k a=>exact IP (Nat.div_le_self _ _) a
theorem Rq(x:UInt8):(zo [x]).size=1:=rfl
theorem MI(m k:Nat):(Wo m k).size=k+1:=by
 induction k with
 | zero=>rfl
 | succ k a=>rw[Wo,ByteArray.size_append,a,Rq]
theorem Jb(m:Nat):Yb m=Wo m 6:=by
 apply EY
 simp[Yb,Wo,divs,zo,ByteArray.data_append]
theorem MJ(m:Nat):(Y4 m).toNat=97+m%16:=by
 unfold Y4;rw[UInt8.toNat_ofNat_of_lt' (show _<256 by omega)]
theorem Jc(a:World)(x:UInt8):(convert 150 9 (.slice (some ⟨a.heap.size,0,none⟩) 1 1)).run Tryz.prog (a.alloc (.cells #[.int .u8 (x.toNat:Int)] 5))=.ok (.string (zo [x])) (a.alloc (.cells #[.int .u8 (x.toNat:Int)] 5)):=by
 have b:(a.alloc (.cells #[.int .u8 (x.toNat:Int)] 5)).ownsRow 0 5 1 (.slice (some ⟨a.heap.size,0,none⟩) 1 1) 1 (u8s [x]):=ZA (cap:=1) (Blk.new a [.int .u8 (x.toNat:Int)] 5) (IQ _) (by decide) rfl rfl;exact UX GE Ds GX b 0 1 1 (by simp)
theorem Vu(m:Nat)(w:World)(hm:m<1000000000000) :
 Calls Tryz.prog 66 #[.int .i64 m] w fun e p=>e=.returned (.string (Yb m))/\Fr Nil w p:=by
 have q:=Z (Jb m);go_enter Tryz.func66,Tryz.ntmps66;go_wp2_with fail
 go_loopw [0,3,4] (fun u x o p=>∃ k:Nat,k<=6/\u=.int .i64 (divs m k)/\x=.string (Wo m k)/\o=.int .i64 k/\Fr Nil w p) (fun _ _ o _=>6-(intOf o).toNat)
 case atStart=>exact⟨0,by omega,rfl,rfl,rfl,O _ _⟩
 case round =>
  obtain⟨k,y,rfl,rfl,rfl,f⟩:=hrel;by_cases s:k<6
  .have hd:=JV m k
   have b:divs m (k+1)=divs m k / 16:=rfl;have c:Wo m (k+1)=Wo m k++zo [Y4 (divs m k)]:=rfl;have a:=Z (And.intro b c);have l:IntKind.u8.wrap (97+(divs m k:Int)%16)=((Y4 (divs m k)).toNat:Int):=by rw[MJ,IntKind.wrap_u8];push_cast;omega
   have j:IntKind.i64.wrap (97+(divs m k:Int)%16)=97+(divs m k:Int)%16:=by rw[Hr];omega
   have h:=Jc wr (Y4 (divs m k));clear b c;generalize divs m k=d at hd l j h a |-;have r:d<1000000000000:=by omega
   have t:¬9223372036854775807<(Wo m k).size+(zo [Y4 d]).size:=by rw[MI,Rq];omega
   have g:=Z f;clear f hd;go_wp2_with fail;refine⟨⟨k+1,by omega,?_,?_,?_,g.out.alloc _⟩,by simp[intOf];omega⟩
   .rw[a.out.1];rfl
   .rw[a.out.2]
   .push_cast;rfl
  .have:k=6:=by omega
   subst this;have g:=Z f;clear f;rw[<- q.out];go_wp2_with fail;go_ret;exact⟨rfl,g.out⟩
theorem WS(l:List (Nat × ByteArray)):∀ (k:Nat)(h:k<l.length),(zJ l)[k*2]?=some (.int .i64 l[k].1)/\(zJ l)[k*2+1]?=some (.string l[k].2):=by
 induction l with
 | nil=>intro k h;exact absurd h (Gb _)
 | cons a l c =>
  intro k h;cases k with
  | zero=>exact⟨rfl,rfl⟩
  | succ k =>
   have:=c k (by simpa using h);exact⟨by rw[<- (show(zJ (a::l))[(k+1)*2]?=(zJ l)[k*2]? by rw[show(k+1)*2=k*2+2 from by omega];rfl)] at this;exact this.1,by have b:=this.2;rw[<- (show(zJ (a::l))[(k+1)*2+1]?=(zJ l)[k*2+1]? by rw[show(k+1)*2+1=k*2+1+2 from by omega];rfl)] at b;exact b⟩
theorem Pr{α:Type}{a b:List α}(c:a.length=b.length)(h:∀ j (d:j<a.length)(e:j<b.length),a[j]=b[j]):a=b :=
 Et c h
theorem WT(v1 v2:Value)(d f:List (Nat × ByteArray))(w:World)(C:w.ownsRow 0 75 2 v1 d.length (zJ d))(D:w.ownsRow 0 75 2 v2 f.length (zJ f))(X:d.length<1000000000) :
 Calls Tryz.prog 121 #[v1,v2] w fun e L=>e=.returned (.bool (decide (d=f)))/\Fr Nil w L:=by
 obtain⟨a1,c1,rfl⟩:=zc C;obtain⟨a2,c2,rfl⟩:=zc D;have r:=Z C;have s:=Z D;clear C D;by_cases c:d.length=f.length
 .have HL:=Z c
  generalize Y:d.length=n at X c r |-;rw[<- c] at s |-;have N:=Z Y;clear c Y;go_enter Tryz.func121,Tryz.ntmps121;go_wp2_with fail
  go_loopw [5] (fun K L=>∃ i:Nat,i<=n/\K=.int .i64 i/\(∀ j (C:j<d.length) (D:j<f.length),j<i->d[j]=f[j])/\Fr Nil w L) (fun K _=>n-(intOf K).toNat)
  case atStart=>exact⟨0,by omega,rfl,fun j _ _ h=>absurd h (Gb _),O _ _⟩
  case round =>
   obtain⟨i,hi,rfl,hs,k⟩:=hrel;by_cases a4:i<n
   .have hi1:i<d.length:=by have:=N.out;omega
    have u:i<f.length:=by have:=HL.out;omega
    obtain⟨T,a0,Q,_,_⟩:=zm r.out (by omega);obtain⟨V,a3,R,_,_⟩:=zm s.out (by omega);simp only[EL] at Q R;obtain⟨rfl,_,_⟩:=Q;obtain⟨rfl,_,_⟩:=R;have y:∀ n,(wr.drewN n).cell? ⟨T,i*2,none⟩=some (.int .i64 d[i].1):=fun n=>own_cell? (zb r.out (k.drewN n) (fun _ _=>id)) _ _ (WS d i hi1).1;have A:∀ n,(wr.drewN n).cell? ⟨T,i*2+1,none⟩=some (.string d[i].2):=fun n=>own_cell? (zb r.out (k.drewN n) (fun _ _=>id)) _ _ (WS d i hi1).2;have z:∀ n,(wr.drewN n).cell? ⟨V,i*2,none⟩=some (.int .i64 f[i].1):=fun n=>own_cell? (zb s.out (k.drewN n) (fun _ _=>id)) _ _ (WS f i u).1;have B:∀ n,(wr.drewN n).cell? ⟨V,i*2+1,none⟩=some (.string f[i].2):=fun n=>own_cell? (zb s.out (k.drewN n) (fun _ _=>id)) _ _ (WS f i u).2;have x:¬d[i]=f[i]->decide (d=f)=false:=fun e=>by simp only[Ho];intro h;subst h;exact e rfl
    have g:=Z x;have HS:=Z hs;have t:=Z k;obtain⟨⟨F,x1⟩,o⟩:∃ p,p=d[i]:=⟨_,rfl⟩;obtain⟨⟨t2,x2⟩,q⟩:∃ p,p=f[i]:=⟨_,rfl⟩;rw[<- o] at y A;rw[<- q] at z B;have l:=Z o;have m:=Z q;simp only at y z A B;clear o q x hs k;by_cases I:F=t2
    .subst I
     have J:((F:Int)==F)=true:=by simp
     by_cases E:x1=x2
     .subst E
      go_wp2_with fail
      go_quiet (fail)
      go_wp2_with fail;refine⟨⟨i+1,by omega,by push_cast;rfl,fun j a b hj=>?_,t.out.drewN _⟩,by simp[intOf];omega⟩;by_cases e:j=i
      .subst e;rw[<- l.out,<- m.out]
      .exact HS.out j a b (by omega)
     .have hxa:(x1.toList==x2.toList)=false:=by simp only[GG,ne_eq];exact fun h=>E (Xw h)
      have G:=Z (show ¬d[i]=f[i] by rw[<- l.out,<- m.out];exact fun h=>E (GY Prod.snd h));clear E;go_wp2_with fail
      go_quiet (fail)
      go_wp2_with fail;go_ret;exact⟨by rw[g.out G.out];rfl,t.out.drewN _⟩
    .have J:((F:Int) != t2)=true:=by simp;omega
     have G:=Z (show ¬d[i]=f[i] by rw[<- l.out,<- m.out];exact fun h=>I (GY Prod.fst h));clear I;go_wp2_with fail
     go_quiet (fail)
     go_wp2_with fail;go_ret;exact⟨by rw[g.out G.out];rfl,t.out.drewN _⟩
   .have HEQ:=Z (show decide (d=f)=true by simp only[Ha];exact Pr HL.out (fun j a b=>hs j a b (by have:=N.out;omega)))
    have t:=Z k;clear hs k;go_wp2_with fail;go_ret;exact⟨by rw[HEQ.out];rfl,t.out⟩
 .have g:=Z (show decide (d=f)=false by simp only[Ho];exact fun h=>c (by rw[h]))
  have v:((d.length:Int) != f.length)=true:=by simp;omega
  generalize d.length=n1 at c v r X;generalize f.length=n2 at c v s;go_enter Tryz.func121,Tryz.ntmps121;go_wp2_with fail;go_ret;exact⟨by rw[g.out];rfl,O _ _⟩
def Zp(a b:Ver):Bool:=(decide (a.o0=b.o0)&&decide (a.o1=b.o1)&&decide (a.o2=b.o2)&&decide (a.o3=b.o3))&&(decide (a.node=b.node)&&(decide (a.seq=b.seq)&&(a.value.toList==b.value.toList&&(a.gone==b.gone))))
theorem Xl(a b:Ver):Zp a b=true↔a=b:=by
 obtain⟨n,s,d,e,f,i,x,g⟩:=a;obtain⟨c,q,j,k,o,p,y,h⟩:=b;simp only[Zp,Gr,Ha,CP,Ver.mk.injEq]
 constructor
 .rintro⟨⟨⟨⟨h0,h1⟩,h2⟩,h3⟩,h4,h5,h6,h7⟩
  exact⟨h4,h5,h0,h1,h2,h3,Xw h6,h7⟩
 .rintro⟨h4,h5,h0,h1,h2,h3,h6,h7⟩
  exact⟨⟨⟨⟨h0,h1⟩,h2⟩,h3⟩,h4,h5,by rw[h6],h7⟩
def ovs(a b c d:Int):Nat->Int
 | 0=>a
 | 1=>b
 | 2=>c
 | _=>d
theorem YW(a b:Ver)(w:World) :
 Calls Tryz.prog 67 #[.agg a.cells.toArray,.agg b.cells.toArray] w fun e w'=>e=.returned (.bool (Zp a b))/\Fr Nil w w':=by
 obtain⟨n,s,f,l,m,o,x,g⟩:=a;obtain⟨d,r,t,u,v,z,y,h⟩:=b;simp only[Ver.cells];have D:=Blk.new w [.int .i64 n,.int .i64 s,.int .i64 f,.int .i64 l,.int .i64 m,.int .i64 o,.string x,.bool g] 37;have f1:Fr Nil w (w.alloc (.cells #[.int .i64 n,.int .i64 s,.int .i64 f,.int .i64 l,.int .i64 m,.int .i64 o,.string x,.bool g] 37)):=(O _ _).alloc _;generalize T:w.alloc (.cells #[.int .i64 n,.int .i64 s,.int .i64 f,.int .i64 l,.int .i64 m,.int .i64 o,.string x,.bool g] 37)=V at D f1;have Q:=Blk.new V [.int .i64 d,.int .i64 r,.int .i64 t,.int .i64 u,.int .i64 v,.int .i64 z,.string y,.bool h] 37;have f2:Fr Nil V (V.alloc (.cells #[.int .i64 d,.int .i64 r,.int .i64 t,.int .i64 u,.int .i64 v,.int .i64 z,.string y,.bool h] 37)):=(O _ _).alloc _;have F:=D.fr f2 (fun e=>e);have N:=Z D.lt;have C:=Z (f1.trans f2);have G:=Z F;have I:=Z Q;have a2:=Z T;clear D f1 f2 F Q;go_enter Tryz.func67,Tryz.ntmps67;go_wp2_with fail;clear T;generalize V.alloc (.cells #[.int .i64 d,.int .i64 r,.int .i64 t,.int .i64 u,.int .i64 v,.int .i64 z,.string y,.bool h] 37)=wz at C G I |-;generalize w.heap.size=ba at G N |-;generalize V.heap.size=bb at I N |-
 go_loopw [5] (fun t5 w'=>∃ i:Nat,i<=4/\t5=.int .i64 i/\(∀ j,j<i->ovs f l m o j=ovs t u v z j)/\Fr Nil wz w') (fun t5 _=>4-(intOf t5).toNat)
 case atStart=>exact⟨0,by omega,rfl,fun j h=>absurd h (Gb _),O _ _⟩
 case round =>
  obtain⟨i,hi,rfl,hs,X⟩:=hrel;have R:∀ q k,(wr.drewN q).cell? ⟨ba,k,none⟩=_:=fun q=>(G.out.fr (X.drewN q) (fun e=>e)).cell;have S:∀ q k,(wr.drewN q).cell? ⟨bb,k,none⟩=_:=fun q=>(I.out.fr (X.drewN q) (fun e=>e)).cell;have E:=Z hs;have c:=Z X;clear hs X;by_cases a3:i<4
  .have hcs:i=0\/i=1\/i=2\/i=3:=by omega
   rcases hcs with rfl|rfl|rfl|rfl
   .by_cases ho:f=t
    .subst ho
     have B:(f != f)=false:=by simp
     go_wp2_with fail
     go_quiet (fail)
     go_wp2_with fail;refine⟨⟨1,by omega,rfl,fun j hj=>?_,c.out.drewN _⟩,by decide⟩;by_cases e:j=0
     .subst e;rfl
     .exact E.out j (by omega)
    .have B:(f != t)=true:=by simp[ho]
     have p:=Z (show Zp (⟨n,s,f,l,m,o,x,g⟩:Ver) (⟨d,r,t,u,v,z,y,h⟩:Ver)=false by simp[Zp,ho]);clear ho;go_wp2_with fail
     go_quiet (fail)
     go_wp2_with fail;go_ret;exact⟨by rw[p.out];rfl,C.out.trans (c.out.drewN _)⟩
   .by_cases ho:l=u
    .subst ho
     have B:(l != l)=false:=by simp
     go_wp2_with fail
     go_quiet (fail)
     go_wp2_with fail;refine⟨⟨2,by omega,rfl,fun j hj=>?_,c.out.drewN _⟩,by decide⟩;by_cases e:j=1
     .subst e;rfl
     .exact E.out j (by omega)
    .have B:(l != u)=true:=by simp[ho]
     have p:=Z (show Zp (⟨n,s,f,l,m,o,x,g⟩:Ver) (⟨d,r,t,u,v,z,y,h⟩:Ver)=false by simp[Zp,ho]);clear ho;go_wp2_with fail
     go_quiet (fail)
     go_wp2_with fail;go_ret;exact⟨by rw[p.out];rfl,C.out.trans (c.out.drewN _)⟩
   .by_cases ho:m=v
    .subst ho
     have B:(m != m)=false:=by simp
     go_wp2_with fail
     go_quiet (fail)
     go_wp2_with fail;refine⟨⟨3,by omega,rfl,fun j hj=>?_,c.out.drewN _⟩,by decide⟩;by_cases e:j=2
     .subst e;rfl
     .exact E.out j (by omega)
    .have B:(m != v)=true:=by simp[ho]
     have p:=Z (show Zp (⟨n,s,f,l,m,o,x,g⟩:Ver) (⟨d,r,t,u,v,z,y,h⟩:Ver)=false by simp[Zp,ho]);clear ho;go_wp2_with fail
     go_quiet (fail)
     go_wp2_with fail;go_ret;exact⟨by rw[p.out];rfl,C.out.trans (c.out.drewN _)⟩
   .by_cases ho:o=z
    .subst ho
     have B:(o != o)=false:=by simp
     go_wp2_with fail
     go_quiet (fail)
     go_wp2_with fail;refine⟨⟨4,by omega,rfl,fun j hj=>?_,c.out.drewN _⟩,by decide⟩;by_cases e:j=3
     .subst e;rfl
     .exact E.out j (by omega)
    .have B:(o != z)=true:=by simp[ho]
     have p:=Z (show Zp (⟨n,s,f,l,m,o,x,g⟩:Ver) (⟨d,r,t,u,v,z,y,h⟩:Ver)=false by simp[Zp,ho]);clear ho;go_wp2_with fail
     go_quiet (fail)
     go_wp2_with fail;go_ret;exact⟨by rw[p.out];rfl,C.out.trans (c.out.drewN _)⟩
  .have:i=4:=by omega
   subst this;have J:f=t:=E.out 0 (by decide);have K:l=u:=E.out 1 (by decide);have L:m=v:=E.out 2 (by decide);have M:o=z:=E.out 3 (by decide);have a0:∀ k,wr.cell? ⟨ba,k,none⟩=_:=R 0;have a1:∀ k,wr.cell? ⟨bb,k,none⟩=_:=S 0;clear R S;by_cases A:n=d
   .by_cases h2:s=r
    .by_cases h3:x.toList=y.toList
     .by_cases h4:g=h
      .have e1:(n==d)=true:=by simp[A]
       have Y:(s==r)=true:=by simp[h2]
       have e3:(x.toList==y.toList)=true:=by simp[h3]
       have e4:(g==h)=true:=by simp[h4]
       have p:=Z (show Zp (⟨n,s,f,l,m,o,x,g⟩:Ver) (⟨d,r,t,u,v,z,y,h⟩:Ver)=true by simp[Zp,J,K,L,M,A,h2,h3,h4]);clear J K L M A h2 h3 h4;go_wp2_with fail;go_ret;exact⟨by rw[p.out];rfl,C.out.trans c.out⟩
      .have e1:(n==d)=true:=by simp[A]
       have Y:(s==r)=true:=by simp[h2]
       have e3:(x.toList==y.toList)=true:=by simp[h3]
       have e4:(g==h)=false:=by simp[h4]
       have p:=Z (show Zp (⟨n,s,f,l,m,o,x,g⟩:Ver) (⟨d,r,t,u,v,z,y,h⟩:Ver)=false by simp[Zp,A,h2,h3,h4]);clear J K L M A h2 h3 h4;go_wp2_with fail;go_ret;exact⟨by rw[p.out];rfl,C.out.trans c.out⟩
     .have e1:(n==d)=true:=by simp[A]
      have Y:(s==r)=true:=by simp[h2]
      have e3:(x.toList==y.toList)=false:=by simp[h3]
      have p:=Z (show Zp (⟨n,s,f,l,m,o,x,g⟩:Ver) (⟨d,r,t,u,v,z,y,h⟩:Ver)=false by simp[Zp,A,h2,h3]);clear J K L M A h2 h3;go_wp2_with fail;go_ret;exact⟨by rw[p.out];rfl,C.out.trans c.out⟩
    .have e1:(n==d)=true:=by simp[A]
     have Y:(s==r)=false:=by simp[h2]
     have p:=Z (show Zp (⟨n,s,f,l,m,o,x,g⟩:Ver) (⟨d,r,t,u,v,z,y,h⟩:Ver)=false by simp[Zp,A,h2]);clear J K L M A h2;go_wp2_with fail;go_ret;exact⟨by rw[p.out];rfl,C.out.trans c.out⟩
   .have e1:(n==d)=false:=by simp[A]
    have p:=Z (show Zp (⟨n,s,f,l,m,o,x,g⟩:Ver) (⟨d,r,t,u,v,z,y,h⟩:Ver)=false by simp[Zp,A]);clear J K L M A;go_wp2_with fail;go_ret;exact⟨by rw[p.out];rfl,C.out.trans c.out⟩
theorem Wa(v1 v2:Value)(s y:List Ver)(w:World)(T:VRow w v1 s)(V:VRow w v2 y)(hl:s.length<1000000000) :
 Calls Tryz.prog 118 #[v1,v2] w fun e d=>∃ b:Bool,e=.returned (.bool b)/\(b=true↔s=y)/\Fr Nil w d:=by
 unfold VRow at T V;obtain⟨a1,c1,rfl⟩:=zc T;obtain⟨a2,c2,rfl⟩:=zc V;have H1:=Z T;have H2:=Z V;clear T V;by_cases m:s.length=y.length
 .have HL:=Z m
  generalize hn:s.length=n at hl m H1 |-;rw[<- m] at H2 |-;have HN:=Z hn;clear m hn;go_enter Tryz.func118,Tryz.ntmps118;go_wp2_with fail
  go_loopw [5] (fun t5 d=>∃ i:Nat,i<=n/\t5=.int .i64 i/\(∀ j (T:j<s.length) (V:j<y.length),j<i->s[j]=y[j])/\Fr Nil w d) (fun t5 _=>n-(intOf t5).toNat)
  case atStart=>exact⟨0,by omega,rfl,fun j _ _ h=>absurd h (Gb _),O _ _⟩
  case round =>
   obtain⟨i,hi,rfl,hs,Q⟩:=hrel;by_cases a5:i<n
   .have hi1:i<s.length:=by have:=HN.out;omega
    have a0:i<y.length:=by have:=HL.out;omega
    obtain⟨g,a3,e1,_,_⟩:=zm H1.out (by omega);obtain⟨l,a4,e2,_,_⟩:=zm H2.out (by omega);simp only[EL] at e1 e2;obtain⟨rfl,-,-⟩:=e1;obtain⟨rfl,-,-⟩:=e2;have o:∀ c,Fr Nil wr c->∀ k,k<8->c.cell? ⟨g,i*8+k,none⟩=s[i].cells[k]?:=fun c f k hk=>VRow.cells (zb H1.out (Q.trans f) (fun _ _=>id)) i hi1 k hk;have q:∀ c,Fr Nil wr c->∀ k,k<8->c.cell? ⟨l,i*8+k,none⟩=y[i].cells[k]?:=fun c f k hk=>VRow.cells (zb H2.out (Q.trans f) (fun _ _=>id)) i a0 k hk;have E:=Z (show ¬s[i]=y[i]->¬s=y from fun e h=>by subst h;exact e rfl);have HS:=Z hs;have HF:=Z Q;obtain⟨V1,F⟩:∃ p,p=s[i]:=⟨_,rfl⟩;obtain⟨V2,G⟩:∃ p,p=y[i]:=⟨_,rfl⟩;rw[<- F] at o;rw[<- G] at q;have R:=Z F;have S:=Z G;have B:=Z (fun c=>YW V1 V2 c);obtain⟨b,hb⟩:∃ b,b=Zp V1 V2:=⟨_,rfl⟩;rw[<- hb] at B;have HB:=Z hb;obtain⟨node,N,o0,o1,o2,o3,x,gone⟩:=V1;obtain⟨v,A,J,K,L,M,r,t⟩:=V2;simp only[Ver.cells] at o q B;clear F G hs Q hb;have C:Hid (∀ c,Fr Nil wr c->c.cell? ⟨g,i*8,none⟩=some (.int .i64 node)/\c.cell? ⟨g,i*8+1,none⟩=some (.int .i64 N)/\c.cell? ⟨g,i*8+2,none⟩=some (.int .i64 o0)/\c.cell? ⟨g,i*8+3,none⟩=some (.int .i64 o1)/\c.cell? ⟨g,i*8+4,none⟩=some (.int .i64 o2)/\c.cell? ⟨g,i*8+5,none⟩=some (.int .i64 o3)/\c.cell? ⟨g,i*8+6,none⟩=some (.string x)/\c.cell? ⟨g,i*8+7,none⟩=some (.bool gone)/\c.cell? ⟨l,i*8,none⟩=some (.int .i64 v)/\c.cell? ⟨l,i*8+1,none⟩=some (.int .i64 A)/\c.cell? ⟨l,i*8+2,none⟩=some (.int .i64 J)/\c.cell? ⟨l,i*8+3,none⟩=some (.int .i64 K)/\c.cell? ⟨l,i*8+4,none⟩=some (.int .i64 L)/\c.cell? ⟨l,i*8+5,none⟩=some (.int .i64 M)/\c.cell? ⟨l,i*8+6,none⟩=some (.string r)/\c.cell? ⟨l,i*8+7,none⟩=some (.bool t)):=fun c f=>⟨o c f 0 (by decide),o c f 1 (by decide),o c f 2 (by decide),o c f 3 (by decide),o c f 4 (by decide),o c f 5 (by decide),o c f 6 (by decide),o c f 7 (by decide),q c f 0 (by decide),q c f 1 (by decide),q c f 2 (by decide),q c f 3 (by decide),q c f 4 (by decide),q c f 5 (by decide),q c f 6 (by decide),q c f 7 (by decide)⟩;have X:=C.out wr (O _ _);clear o q;cases b with
    | true =>
     go_wp2_with fail
     go_region_held3 (fun d=>d.cell? ⟨g,i*8,none⟩=some (.int .i64 node)/\d.cell? ⟨g,i*8+1,none⟩=some (.int .i64 N)/\d.cell? ⟨g,i*8+2,none⟩=some (.int .i64 o0)/\d.cell? ⟨g,i*8+3,none⟩=some (.int .i64 o1)/\d.cell? ⟨g,i*8+4,none⟩=some (.int .i64 o2)/\d.cell? ⟨g,i*8+5,none⟩=some (.int .i64 o3)/\d.cell? ⟨g,i*8+6,none⟩=some (.string x)/\d.cell? ⟨g,i*8+7,none⟩=some (.bool gone)/\d.cell? ⟨l,i*8,none⟩=some (.int .i64 v)/\d.cell? ⟨l,i*8+1,none⟩=some (.int .i64 A)/\d.cell? ⟨l,i*8+2,none⟩=some (.int .i64 J)/\d.cell? ⟨l,i*8+3,none⟩=some (.int .i64 K)/\d.cell? ⟨l,i*8+4,none⟩=some (.int .i64 L)/\d.cell? ⟨l,i*8+5,none⟩=some (.int .i64 M)/\d.cell? ⟨l,i*8+6,none⟩=some (.string r)/\d.cell? ⟨l,i*8+7,none⟩=some (.bool t)) (first|assumption|go_keep)
      (first|(go_at_call 67;refine(B.out _).mono ?_;rintro e w2 ⟨rfl,z⟩;have u:Fr Nil wr w2:=Fr.trans za z;have I:=C.out w2 u;have D:=Z u;clear z u))
     clear X I;go_wp2_with fail;refine⟨⟨i+1,by omega,by push_cast;rfl,fun j a b hj=>?_,HF.out.trans D.out⟩,by simp[intOf];omega⟩;by_cases e:j=i
     .subst e;rw[<- R.out,<- S.out];exact(Xl _ _).1 HB.out.symm
     .exact HS.out j a b (by omega)
    | false =>
     go_wp2_with fail
     go_region_held3 (fun d=>d.cell? ⟨g,i*8,none⟩=some (.int .i64 node)/\d.cell? ⟨g,i*8+1,none⟩=some (.int .i64 N)/\d.cell? ⟨g,i*8+2,none⟩=some (.int .i64 o0)/\d.cell? ⟨g,i*8+3,none⟩=some (.int .i64 o1)/\d.cell? ⟨g,i*8+4,none⟩=some (.int .i64 o2)/\d.cell? ⟨g,i*8+5,none⟩=some (.int .i64 o3)/\d.cell? ⟨g,i*8+6,none⟩=some (.string x)/\d.cell? ⟨g,i*8+7,none⟩=some (.bool gone)/\d.cell? ⟨l,i*8,none⟩=some (.int .i64 v)/\d.cell? ⟨l,i*8+1,none⟩=some (.int .i64 A)/\d.cell? ⟨l,i*8+2,none⟩=some (.int .i64 J)/\d.cell? ⟨l,i*8+3,none⟩=some (.int .i64 K)/\d.cell? ⟨l,i*8+4,none⟩=some (.int .i64 L)/\d.cell? ⟨l,i*8+5,none⟩=some (.int .i64 M)/\d.cell? ⟨l,i*8+6,none⟩=some (.string r)/\d.cell? ⟨l,i*8+7,none⟩=some (.bool t)) (first|assumption|go_keep)
      (first|(go_at_call 67;refine(B.out _).mono ?_;rintro e w2 ⟨rfl,z⟩;have u:Fr Nil wr w2:=Fr.trans za z;have I:=C.out w2 u;have D:=Z u;clear z u))
     clear X I;go_wp2_with fail;go_ret;exact⟨false,rfl,⟨fun h=>absurd h (by decide),fun h=>absurd h (E.out (by rw[<- R.out,<- S.out];exact fun h=>by have:=(Xl _ _).2 h;rw[<- HB.out] at this;exact absurd this (by decide)))⟩,HF.out.trans D.out⟩
   .have HEQ:=Z (show s=y from Pr HL.out (fun j a b=>hs j a b (by have:=HN.out;omega)))
    have HF:=Z Q;clear hs Q;go_wp2_with fail;go_ret;exact⟨true,rfl,⟨fun _=>HEQ.out,fun _=>rfl⟩,HF.out⟩
 .have E:=Z (show ¬s=y from fun h=>m (by rw[h]))
  have Y:((s.length:Int) != y.length)=true:=by simp;omega
  generalize s.length=n1 at m Y H1 hl;generalize y.length=n2 at m Y H2;go_enter Tryz.func118,Tryz.ntmps118;go_wp2_with fail;go_ret;exact⟨false,rfl,⟨fun h=>absurd h (by decide),fun h=>absurd h E.out⟩,O _ _⟩
end Go.Proofs.YtkhnggkkiefcdaaGreatDoor
