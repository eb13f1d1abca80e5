/- larder: joined texts -/
import Derived.Test.YtkhnggkkiefcdaaGreatDoorSFAR
import Derived.Test.YtkhnggkkiefcdaaGreatDoorSFAT
import Derived.Deep.RegionLaw
import Derived.LaidEqlPtr
namespace Go.Proofs.YtkhnggkkiefcdaaGreatDoor
open Go.RowKit
set_option maxRecDepth 100000
set_option maxHeartbeats 8000000
def ZW(N:NM)(b:Int)(a:ByteArray):Option Int :=
 if Z9 N.self b a≠0 then some (Z9 N.self b a) else if N.readOnly=true then some 8 else if 32<=N.S.hints.length then some 6 else none
theorem O9(N:NM)(M:DM)(b:Int)(a:ByteArray)(f:Nat):N.hint M b a f=match ZW N b a with
 | some c=>(c,N,M)
 | none=>N.asked M (.inr (.inr (.inl (b.toNat,a)))) f:=by
 unfold ZW NM.hint Z9;by_cases d:(zA b&&decide (b≠N.self))=false
 .simp only[d];simp
 .rw[IV d,IV d]
  by_cases e:a.size=0\/64<a.size
  .simp only[e];simp
  .rw[IV e,IV e]
   cases hr:N.readOnly
   .by_cases h3:32<=N.S.hints.length
    .simp[h3]
    .simp[h3]
   .simp
def Yt(N:NM):Option Int:=if N.readOnly=true then some 8 else if N.S.hints.length=0 then some 7 else none
theorem M4(N:NM)(M:DM)(f:Nat):N.Au M f=match Yt N with
 | some c=>(c,N,M)
 | none=>N.asked M (.inr (.inr (.inr ()))) f:=by
 unfold Yt NM.Au;cases hr:N.readOnly
 .by_cases h3:N.S.hints.length=0
  .simp[h3]
  .simp[h3]
 .simp
theorem Oa(e1:zz)(K:Nat->Prop)(B:Nat)(L:WL)(W:WM)(X:NL)(N:NM)(M:DM)(o:OpM)(w:World)(h:Play K B w L W X N M)(hk:o.kind=7)(a2:N.readOnly=W.broken)(hp:0<L.ps.length)(hl:L.ps.length<1000000)
 (a9:∀ H,w.heap.size<=H->o.text.size<=64->zA o.a=true->N.readOnly=false->Fit N M H (.inr (.inr (.inl (o.a.toNat,o.text)))))
 (m:LM)(hm:W.st[L.ps.length-1]?=some m)(c5:m.node=N.self)(e7:m.hints.length=N.S.hints.length)(e5:m.hints.length<1000000)
 (Q:World->Prop)
 (J:∀ c,ZW N o.a o.text=some c->∀ X' d,PStep K B L X M w K L W X' N M d->Q d)
 (hQ:ZW N o.a o.text=none->∀ f K' X' q d,w.heap.size<=f->PStep K B L X M w K' L W X' (N.hint M o.a o.text f).2.1 (N.hint M o.a o.text f).2.2 d->MRep K' d q (m.hint o.a.toNat o.text)->q≠L.ps[L.ps.length-1] ->
   Calls Tryz.prog 110 #[.pointer (some ⟨L.wb,0,none⟩),.pointer (some ⟨q,0,none⟩),.int .i64 (N.hint M o.a o.text f).1,.agg #[.int .i64 M.refused,.int .i64 M.Bb],.int .i64 (W.free M)] d fun e i=>e=.returned (.bool true)/\Q i) :
 Calls Tryz.prog 63 #[.pointer (some ⟨L.wb,0,none⟩),.agg o.cells.toArray] w fun e i=>e=.returned (.bool true)/\Q i:=by
 have f1:Fr Nil w (w.alloc (.cells o.cells.toArray 39)):=(O _ _).alloc _;have c2:=Blk.new w o.cells 39;have HM:=Z (fun d (f:Fr Nil w d)=>Zd K L W X.LD M d (h.Bi.nil f) ((h.marks).nil f));have HF:=Z (fun d (f:Fr Nil w d)=>Zr K L W X.LD M d (h.Bi.nil f) ((h.marks).nil f));have HC:=Z (fun d (f:Fr Nil w d)=>zB d L.db X.LD M ((h.marks).nil f));obtain⟨wa,a5⟩:∃ wa,w.alloc (.cells o.cells.toArray 39)=wa:=⟨_,rfl⟩;rw[a5] at f1 c2;have d9:=c2.cell;have d7:=Z a5;simp only[OpM.cells,Ver.cells,IY,Hd,hk] at a5 d9 |-;have b3:=Z f1;have HH:=Z h;have f9:=Z a9;have c7:=Z (O9 N M o.a o.text);have F:=Z J;have HQ:=Z hQ;have d5:=Z a2;have g0:=Z e7;have d0:=Z e5;clear h f1 c2 a9 J hQ a2 e7 e5;go_enter Tryz.func63,Tryz.ntmps63;go_wp2_with fail;clear a5;refine(HM.out wa b3.out).mono ?_;rintro e w2 ⟨rfl,f2⟩;have f3:Fr Nil w (w2.alloc (.cells #[.int .i64 M.refused,.int .i64 M.Bb] 111)):=(b3.out.trans f2).alloc _;have e0:=(HH.out.nil f3).CZ.Bi.CY.cell;simp only[WM.cells] at e0;have F2:=Z f2;have F3:=Z f3;clear f2 f3 d9
 go_wp2_with (refine(HC.out _ F3.out).mono ?_;rintro e d ⟨rfl,c6⟩;subst d)
 refine(HF.out _ F3.out).mono ?_;rintro e w4 ⟨rfl,f4⟩;have l:=Z (Pre.of HH.out d7.out F2.out f4);have H4:=Z l.out.st.CZ;clear f4 e0 F2 F3 d7 HM HF HC b3;have e4:IntKind.i64.wrap ((if W.room<0 then 1152921504606846976 else W.room)-M.used)=W.free M:=rfl;rw[e4];clear e4;generalize W.free M=fr at HQ |-;have a6:=Z (fun d (f:Fr Nil w4 d)=>TE e1 B X N M o.a o.text d (H4.out.node.nil f) (H4.out.env.nil f) (fun a b c=>f9.out _ (l.out.fr.trans f).size a b c));have HK:Hid (∀ d i X' N' M',Fr Nil w4 d->NStep X M d X' N' M' i->i.cell? ⟨L.wb,5,none⟩=some (.pointer (some ⟨X.nb,0,none⟩))/\i.cell? ⟨w.heap.size,1,none⟩=some (.int .i64 o.a)/\i.cell? ⟨w.heap.size,5,none⟩=some (.string o.text)):=by
  intro d i X' N' M' f s;have hs:=(H4.out.nil f).trans ((H4.out.nil f).CZ.call s);refine⟨(hs.CZ.Bi.CY.cell 5).trans ?_,l.out.op hs 1,l.out.op hs 5⟩;show some L.nv=_;rw[HH.out.nv]
 have g1:=HK.out w4 w4 X N M (O _ _) (NStep.nil H4.out.node (O _ _));have f6:=l.out.op (H4.out.nil (O _ _));simp only[OpM.cells,Ver.cells,IY,Hd,hk] at f6;go_wp2_with fail;clear f6
 go_region_held3 (fun i=>i.cell? ⟨L.wb,5,none⟩=some (.pointer (some ⟨X.nb,0,none⟩))/\i.cell? ⟨w.heap.size,1,none⟩=some (.int .i64 o.a)/\i.cell? ⟨w.heap.size,5,none⟩=some (.string o.text)) (first|assumption|go_keep)
  (first|(go_at_call 31;refine(a6.out _ za).mono ?_;rintro e w5 ⟨f,X5,rfl,e2,c4⟩;have f7:=HK.out _ _ _ _ _ za c4;have d6:=Z (NStep.trans (NStep.nil H4.out.node (by exact za)) c4);have c9:=Z e2;clear c4 e2))
 have b9:=H4.out.call d6.out;have g:=c7.out f;have c1:=fun h K' X' q d=>HQ.out h f K' X' q d (IP l.out.fr.size c9.out);generalize N.hint M o.a o.text f=r at *;obtain⟨er,N5,M5⟩:=r;simp only at b9 c1;have t:=Z b9;have R:=Z c1;have C:=Z g;have g8:L.ps.length=W.st.length:=HH.out.Bi.Ao;have e6:W.st[L.ps.length-1]'(by omega)=m:=by rw[IW (by omega)] at hm;exact Hl hm
 have u:=(t.out.CZ.Bi.last hp).2;simp only[e6] at u;have y:=Z (fun d (f:Fr Nil w5 d)=>Zx K L _ d (t.out.CZ.Bi.nil f) hp (by omega));have a1:L.ps[L.ps.length-1]<w5.heap.size:=by obtain⟨c0,d8⟩:=u.CY;exact d8.lt
 obtain⟨q,e8⟩:∃ q,q=L.ps[L.ps.length-1]:=⟨_,rfl⟩;rw[<- e8] at u a1 y R;have b4:Hid (∀ d,Fr Nil w5 d->MRep K d q m):=fun d f=>u.Bt (zQ.BO f (fun k e=>⟨(t.out.CZ.Bi.Bt k e).1,id⟩)) (fun _ e=>e);have d1:=Z a1;have E:Hid (∀ c,ZW N o.a o.text=some c->er=c/\N5=N/\M5=M):=fun c hc=>by
  have:=C.out;rw[hc] at this;simp only[FW] at this;exact this
 have f8:Hid (∀ d,Fr Nil w5 d->Calls Tryz.prog 113 #[.pointer (some ⟨q,0,none⟩),.int .i64 o.a,.string o.text] d fun e i=>e=.returned (.int .i64 (Z9 N.self o.a o.text))/\i=d):=by
  intro d f;obtain⟨kv,hv,g7,ha,_⟩:=b4.out d f;have I:=ha.CY;rw[c5] at I;exact Q4 q N.self kv hv o.a o.text d I
 have T:Hid (∀ d,Fr Nil w5 d->d.cell? ⟨w.heap.size,1,none⟩=some (.int .i64 o.a)/\d.cell? ⟨w.heap.size,5,none⟩=some (.string o.text)):=fun d f=>⟨l.out.op (t.out.trans (t.out.CZ.nil f)) 1,l.out.op (t.out.trans (t.out.CZ.nil f)) 5⟩;have b5:=Z (fun d (f:Fr Nil w5 d)=>l.out.op (t.out.trans (t.out.CZ.nil f)));simp only[OpM.cells,Ver.cells,IY,Hd,hk] at b5;clear g1 u a1 e8 e6 HK a6 g c1 b9 c7 HQ c9 d6 f7;have f7:=T.out w5 (O _ _);go_wp2_with fail
 go_region_held3 (fun i=>i.cell? ⟨w.heap.size,1,none⟩=some (.int .i64 o.a)/\i.cell? ⟨w.heap.size,5,none⟩=some (.string o.text)) (first|assumption|go_keep)
  (first
  | (go_at_call 113;refine(f8.out _ za).mono ?_;rintro e S ⟨rfl,f5⟩;have b7:Fr Nil w5 S:=by rw[f5];exact za
     have p:=Z b7;have g5:=T.out S b7;clear b7 f5)
  | (go_at_call 107;refine(y.out _ za).mono ?_;rintro e w9 ⟨rfl,n9,g2⟩;subst w9))
 have h8:=t.out.trans (t.out.CZ.nil p.out);have j:=Z h8;have a4:=h8.CZ.Bi.CY.cell;simp only[WM.cells] at a4;have g3:=b5.out S p.out;clear h8 g5;by_cases I:Z9 N.self o.a o.text=0
 .cases hbr:W.broken with
  | true =>
   have g:ZW N o.a o.text=some 8:=by unfold ZW;rw[IV (by simp[I]),He (by rw[d5.out,hbr])]
   obtain⟨rfl,rfl,rfl⟩:=E.out _ g;have a0:=Z (fun d f=>F.out _ g X5 d (l.out.st.trans (j.out.trans (j.out.CZ.nil f))));have D:=Z (Z7 K L W X5.LD M5 8 8 M5.calls S j.out.CZ.Bi j.out.CZ.marks);simp only[Ev,Fu] at D;rw[hbr] at a4;rw[I];clear g E R C F I;go_wp2_with fail;refine D.out.mono ?_;rintro e d ⟨rfl,c6⟩;subst d;go_wp2_with fail;go_ret;exact⟨rfl,a0.out _ (O _ _)⟩
  | false =>
   have a2:N.readOnly=false:=by rw[d5.out,hbr]
   have e9:((o.a.toNat:Nat):Int)=o.a:=by
    unfold Z9 at I;cases hn:zA o.a with
    | true=>unfold zA at hn;simp only[Ha] at hn;omega
    | false=>rw[hn] at I;simp at I
   have a7:Hid (∀ d,Fr Nil S d->Calls Tryz.prog 114 #[.pointer (some ⟨q,0,none⟩)] d fun e i=>∃ pv n,e=.returned (.tuple #[.pointer pv,.int .i64 n])/\Fr Nil d i):=by
    intro d f;refine(TH K q m d (b4.out d (p.out.trans f)) d0.out).mono ?_;intro e i h;rcases h with⟨_,h,h2⟩|⟨_,nb,h,_,h2,_⟩
    .exact⟨_,_,h,h2⟩
    .exact⟨_,_,h,h2⟩
   have Y:=Z (fun d (f:Fr Nil S d)=>N0 K q m o.a.toNat o.text d (b4.out d (p.out.trans f)) d0.out);rw[e9] at Y;rw[hbr] at a4;rw[I];have c3:(32<=m.hints.length/\ZW N o.a o.text=some 6)\/(m.hints.length<32/\ZW N o.a o.text=none):=by
    unfold ZW;rw[IV (by simp[I]),IV (by rw[a2];decide),<- g0.out];by_cases h:32<=m.hints.length
    .exact .inl ⟨h,by rw[He h]⟩
    .exact .inr ⟨by omega,by rw[IV h]⟩
   clear I a2 e9;go_wp2_with fail;clear a4;refine(y.out _ p.out).mono ?_;rintro e w9 ⟨rfl,n9,g2⟩;subst w9;go_wp2_with fail;refine(a7.out _ (by exact za)).mono ?_;rintro e w9 ⟨pv,na,rfl,e3⟩;have b8:Fr Nil S w9:=Fr.trans (by exact za) e3;have v:=Z b8;have g4:=b5.out w9 (p.out.trans b8);clear g3 e3 b8;go_wp2_with fail;have h5:=T.out w9 (p.out.trans v.out);clear g4;rcases c3 with⟨b6,g⟩|⟨b6,g⟩
   .have G:Hid (∀ d,Fr Nil S d->Calls Tryz.prog 115 #[.pointer (some ⟨q,0,none⟩),.int .i64 o.a,.string o.text] d fun e i=>e=.returned (.tuple #[.pointer none,.int .i64 6])/\Fr Nil d i):=fun d f=>(Y.out d f).mono (fun e i h=>by
     rcases h with⟨_,h⟩|⟨h0,_⟩
     .exact h
     .omega)
    obtain⟨rfl,rfl,rfl⟩:=E.out _ g;have a0:=Z (fun d f=>F.out _ g X5 d (l.out.st.trans (j.out.trans (j.out.CZ.nil f))));clear g E R C F Y b6
    go_region_held3 (fun i=>i.cell? ⟨w.heap.size,1,none⟩=some (.int .i64 o.a)/\i.cell? ⟨w.heap.size,5,none⟩=some (.string o.text)) (first|assumption|go_keep)
     (first
     | (go_at_call 115;refine(G.out _ (v.out.trans (by exact za))).mono ?_;rintro e x ⟨rfl,A⟩;have z:Fr Nil S x:=(v.out.trans (by exact za)).trans A;have V:=Z z;have a3:=T.out x (p.out.trans z);clear A z)
     | (go_at_call 107;refine(y.out _ (p.out.trans (v.out.trans (by exact za)))).mono ?_;rintro e x ⟨rfl,g6,f0⟩;subst x))
    have D:=Z (fun d (f:Fr Nil x d)=>Z7 K L W X5.LD M5 6 6 M5.calls d (j.out.CZ.Bi.nil (V.out.trans f)) (j.out.CZ.marks.nil (V.out.trans f)));simp only[Ev,Fu] at D;clear a3;go_wp2_with fail;refine(D.out _ (by exact za)).mono ?_;rintro e d ⟨rfl,c6⟩;subst d;go_wp2_with fail;go_ret;exact⟨rfl,a0.out _ (V.out.trans (by exact za))⟩
   .have HQ3:=Z (R.out g)
    have G:Hid (∀ d,Fr Nil S d->Calls Tryz.prog 115 #[.pointer (some ⟨q,0,none⟩),.int .i64 o.a,.string o.text] d fun e i=>∃ nb,e=.returned (.tuple #[.pointer (some ⟨nb,0,none⟩),.int .i64 0])/\MRep (KGr K d i) i nb (m.hint o.a.toNat o.text)/\Fr Nil d i/\d.heap.size<=nb):=fun d f=>(Y.out d f).mono (fun e i h=>by
     rcases h with⟨h0,_⟩|⟨_,h⟩
     .omega
     .exact h)
    clear g E R C F Y b6
    go_region_held3 (fun i=>i.cell? ⟨w.heap.size,1,none⟩=some (.int .i64 o.a)/\i.cell? ⟨w.heap.size,5,none⟩=some (.string o.text)) (first|assumption|go_keep)
     (first
     | (go_at_call 115;refine(G.out _ (v.out.trans (by exact za))).mono ?_;rintro e x ⟨nb,rfl,b2,A,b0⟩;have z:Fr Nil S x:=(v.out.trans (by exact za)).trans A;have a3:=T.out x (p.out.trans z);have d4:=Z b2;have a8:=Z (j.out.trans ((j.out.CZ.nil (v.out.trans (by exact za))).trans ((j.out.CZ.nil (v.out.trans (by exact za))).CZ.gr A)));have d2:=Z b0;clear A z b2 b0)
     | (go_at_call 107;refine(y.out _ (p.out.trans (v.out.trans (by exact za)))).mono ?_;rintro e x ⟨rfl,g6,f0⟩;subst x))
    clear a3;have c8:=Z (HQ3.out _ X5 nb _ (l.out.st.trans a8.out) d4.out (by have h1:=d1.out;have h2:w9.heap.size<=nb:=d2.out;have h3:=p.out.size;have h4:=v.out.size;omega));have g9:=l.out.ma a8.out;clear y a7 G HQ3;go_wp2_with fail;refine c8.out.mono ?_;rintro e h6 ⟨rfl,b1⟩;have d3:=Z b1;clear b1;go_wp2_with fail;go_ret;exact⟨rfl,d3.out⟩
 .have g:ZW N o.a o.text=some (Z9 N.self o.a o.text):=by unfold ZW;rw[He I]
  obtain⟨rfl,rfl,rfl⟩:=E.out _ g;have a0:=Z (fun d f=>F.out _ g X5 d (l.out.st.trans (j.out.trans (j.out.CZ.nil f))));have d8:(Z9 N5.self o.a o.text==0)=false:=by simp[I]
  have D:=Z (Z7 K L W X5.LD M5 (Z9 N5.self o.a o.text) (Z9 N5.self o.a o.text) M5.calls S j.out.CZ.Bi j.out.CZ.marks);simp only[Ev,Fu] at D;clear g E R C F;generalize Z9 N5.self o.a o.text=bp at *;go_wp2_with fail;refine D.out.mono ?_;rintro e d ⟨rfl,c6⟩;subst d;go_wp2_with fail;go_ret;exact⟨rfl,a0.out _ (O _ _)⟩
theorem Np(c4:zz)(K:Nat->Prop)(B:Nat)(L:WL)(W:WM)(X:NL)(N:NM)(M:DM)(o:OpM)(w:World)(h:Play K B w L W X N M)(hk:o.kind=9)(s:N.readOnly=W.broken)(hp:0<L.ps.length)(hl:L.ps.length<1000000)
 (Y:∀ H,w.heap.size<=H->N.readOnly=false->Fit N M H (.inr (.inr (.inr ()))))
 (m:LM)(hm:W.st[L.ps.length-1]?=some m)(d9:m.node=N.self)(c9:m.hints.length=N.S.hints.length)(c7:m.hints.length<1000000)
 (Q:World->Prop)
 (x:∀ c,Yt N=some c->∀ X' b,PStep K B L X M w K L W X' N M b->Q b)
 (hQ:Yt N=none->∀ f K' X' q b,w.heap.size<=f->PStep K B L X M w K' L W X' (N.Au M f).2.1 (N.Au M f).2.2 b->MRep K' b q (m.Au)->q≠L.ps[L.ps.length-1] ->
   Calls Tryz.prog 110 #[.pointer (some ⟨L.wb,0,none⟩),.pointer (some ⟨q,0,none⟩),.int .i64 (N.Au M f).1,.agg #[.int .i64 M.refused,.int .i64 M.Bb],.int .i64 (W.free M)] b fun e I=>e=.returned (.bool true)/\Q I) :
 Calls Tryz.prog 63 #[.pointer (some ⟨L.wb,0,none⟩),.agg o.cells.toArray] w fun e I=>e=.returned (.bool true)/\Q I:=by
 have f1:Fr Nil w (w.alloc (.cells o.cells.toArray 39)):=(O _ _).alloc _;have a8:=Blk.new w o.cells 39;have HM:=Z (fun b (f:Fr Nil w b)=>Zd K L W X.LD M b (h.Bi.nil f) ((h.marks).nil f));have HF:=Z (fun b (f:Fr Nil w b)=>Zr K L W X.LD M b (h.Bi.nil f) ((h.marks).nil f));have HC:=Z (fun b (f:Fr Nil w b)=>zB b L.db X.LD M ((h.marks).nil f));obtain⟨wa,S⟩:∃ wa,w.alloc (.cells o.cells.toArray 39)=wa:=⟨_,rfl⟩;rw[S] at f1 a8;have c1:=a8.cell;have b9:=Z S;simp only[OpM.cells,Ver.cells,IY,Hd,hk] at S c1 |-;have a3:=Z f1;have HH:=Z h;have d5:=Z Y;have b0:=Z (M4 N M);have E:=Z x;have HQ:=Z hQ;have b7:=Z s;have b4:=Z c9;have d6:=Z c7;clear h f1 a8 Y x hQ s c9 c7;go_enter Tryz.func63,Tryz.ntmps63;go_wp2_with fail;clear S;refine(HM.out wa a3.out).mono ?_;rintro e w2 ⟨rfl,f2⟩;have f3:Fr Nil w (w2.alloc (.cells #[.int .i64 M.refused,.int .i64 M.Bb] 111)):=(a3.out.trans f2).alloc _;have c2:=(HH.out.nil f3).CZ.Bi.CY.cell;simp only[WM.cells] at c2;have F2:=Z f2;have F3:=Z f3;clear f2 f3 c1
 go_wp2_with (refine(HC.out _ F3.out).mono ?_;rintro e b ⟨rfl,d2⟩;subst b)
 refine(HF.out _ F3.out).mono ?_;rintro e w4 ⟨rfl,f4⟩;have j:=Z (Pre.of HH.out b9.out F2.out f4);have H4:=Z j.out.st.CZ;clear f4 c2 F2 F3 b9 HM HF HC a3;have c6:IntKind.i64.wrap ((if W.room<0 then 1152921504606846976 else W.room)-M.used)=W.free M:=rfl;rw[c6];clear c6;generalize W.free M=fr at HQ |-;have T:=Z (fun b (f:Fr Nil w4 b)=>LQ c4 B X N M b (H4.out.node.nil f) (H4.out.env.nil f) (fun a=>d5.out _ (j.out.fr.trans f).size a));have d4:=j.out.op (H4.out.nil (O _ _));simp only[OpM.cells,Ver.cells,IY,Hd,hk] at d4;have c3:=H4.out.Bi.CY.cell;simp only[WM.cells,HH.out.nv] at c3;go_wp2_with fail;clear d4 c3;refine(T.out _ (O _ _)).mono ?_;rintro e J ⟨f,X5,rfl,c5,d1⟩;have b8:=Z d1;have b2:=Z c5;clear d1 c5;have a6:=H4.out.call b8.out;have g:=b0.out f;have a7:=fun h K' X' q b=>HQ.out h f K' X' q b (IP j.out.fr.size b2.out);generalize N.Au M f=r at *;obtain⟨er,N5,M5⟩:=r;simp only at a6 a7;have d:=Z a6;have C:=Z a7;have u:=Z g;have e1:L.ps.length=W.st.length:=HH.out.Bi.Ao;have c8:W.st[L.ps.length-1]'(by omega)=m:=by rw[IW (by omega)] at hm;exact Hl hm
 have i:=(d.out.CZ.Bi.last hp).2;simp only[c8] at i;have v:=Z (fun b (f:Fr Nil J b)=>Zx K L _ b (d.out.CZ.Bi.nil f) hp (by omega));have G:L.ps[L.ps.length-1]<J.heap.size:=by obtain⟨c0,d8⟩:=i.CY;exact d8.lt
 obtain⟨q,d0⟩:∃ q,q=L.ps[L.ps.length-1]:=⟨_,rfl⟩;rw[<- d0] at i G v C;have d7:Hid (∀ b,Fr Nil J b->MRep K b q m):=fun b f=>i.Bt (zQ.BO f (fun k e=>⟨(d.out.CZ.Bi.Bt k e).1,id⟩)) (fun _ e=>e);have b3:=Z G;have A:Hid (∀ c,Yt N=some c->er=c/\N5=N/\M5=M):=fun c hc=>by
  have:=u.out;rw[hc] at this;simp only[FW] at this;exact this
 have a9:=j.out.op d.out;simp only[OpM.cells,Ver.cells,IY,Hd,hk] at a9;have a5:=Z (fun b (f:Fr Nil J b)=>j.out.op (d.out.trans (d.out.CZ.nil f)));simp only[OpM.cells,Ver.cells,IY,Hd,hk] at a5;have F:=d.out.CZ.Bi.CY.cell;simp only[WM.cells] at F;clear i G d0 c8 T g a7 a6 b0 HQ b2 b8;cases hbr:W.broken with
 | true =>
  have g:Yt N=some 8:=by unfold Yt;rw[He (by rw[b7.out,hbr])]
  obtain⟨rfl,rfl,rfl⟩:=A.out _ g;have a4:=Z (fun b f=>E.out _ g X5 b (j.out.st.trans (d.out.trans (d.out.CZ.nil f))));have D:=Z (Z7 K L W X5.LD M5 8 8 M5.calls J d.out.CZ.Bi d.out.CZ.marks);simp only[Ev,Fu] at D;rw[hbr] at F;clear g A C u E;go_wp2_with fail;refine D.out.mono ?_;rintro e b ⟨rfl,d2⟩;subst b;go_wp2_with fail;go_ret;exact⟨rfl,a4.out _ (O _ _)⟩
 | false =>
  have s:N.readOnly=false:=by rw[b7.out,hbr]
  have R:=Z (fun b (f:Fr Nil J b)=>TH K q m b (d7.out b f) d6.out);rw[hbr] at F;by_cases h0:m.hints=[]
  .have g:Yt N=some 7:=by unfold Yt;rw[IV (by rw[s];decide),He (by rw[<- b4.out,h0];rfl)]
   obtain⟨rfl,rfl,rfl⟩:=A.out _ g;have a4:=Z (fun b f=>E.out _ g X5 b (j.out.st.trans (d.out.trans (d.out.CZ.nil f))));have t:Hid (∀ b,Fr Nil J b->Calls Tryz.prog 114 #[.pointer (some ⟨q,0,none⟩)] b fun e I=>e=.returned (.tuple #[.pointer none,.int .i64 7])/\Fr Nil b I):=fun b f=>(R.out b f).mono (fun e I h=>by
    rcases h with⟨_,h⟩|⟨h1,_⟩
    .exact h
    .exact absurd h0 h1)
   clear g A C u E R h0 s;go_wp2_with fail;clear F;refine(v.out _ (O _ _)).mono ?_;rintro e w9 ⟨rfl,n9,e0⟩;subst w9;go_wp2_with fail;refine(t.out _ (by exact za)).mono ?_;rintro e y ⟨rfl,p⟩;have l:Fr Nil J y:=Fr.trans (by exact za) p;have z:=Z l;have d3:=a5.out y l;have D:=Z (fun b (f:Fr Nil y b)=>Z7 K L W X5.LD M5 7 7 M5.calls b (d.out.CZ.Bi.nil (z.out.trans f)) (d.out.CZ.marks.nil (z.out.trans f)));simp only[Ev,Fu] at D;clear a9 p l;go_wp2_with fail;refine(D.out _ (by exact za)).mono ?_;rintro e b ⟨rfl,d2⟩;subst b;go_wp2_with fail;go_ret;exact⟨rfl,a4.out _ (z.out.trans (by exact za))⟩
  .have g:Yt N=none:=by
    unfold Yt;rw[IV (by rw[s];decide),IV];rw[<- b4.out];exact fun e=>h0 (Hm e)
   have b6:=Z (C.out g);have t:Hid (∀ b,Fr Nil J b->Calls Tryz.prog 114 #[.pointer (some ⟨q,0,none⟩)] b fun e I=>∃ nb,e=.returned (.tuple #[.pointer (some ⟨nb,0,none⟩),.int .i64 0])/\MRep (KGr K b I) I nb m.Au/\Fr Nil b I/\b.heap.size<=nb):=fun b f=>(R.out b f).mono (fun e I h=>by
    rcases h with⟨h1,_⟩|⟨_,h⟩
    .exact absurd h1 h0
    .exact h)
   clear g A C u E R h0 s;go_wp2_with fail;clear F;refine(v.out _ (O _ _)).mono ?_;rintro e w9 ⟨rfl,n9,e0⟩;subst w9;go_wp2_with fail;refine(t.out _ (by exact za)).mono ?_;rintro e y ⟨nb,rfl,a2,p,a0⟩;have l:Fr Nil J y:=Fr.trans (by exact za) p;have d3:=a5.out y l;have V:=Z (d.out.trans ((d.out.CZ.nil (by exact za)).trans ((d.out.CZ.nil (by exact za)).CZ.gr p)));have b1:=Z (b6.out _ X5 nb _ (j.out.st.trans V.out) a2 (by have h1:=b3.out;have h2:J.heap.size<=nb:=a0;omega));have e2:=j.out.ma V.out;clear a9 p l a2 a0 v t b6;go_wp2_with fail;refine b1.out.mono ?_;rintro e e3 ⟨rfl,a1⟩;have b5:=Z a1;clear a1;go_wp2_with fail;go_ret;exact⟨rfl,b5.out⟩
theorem NI.now{W:WM}{N:NM}{M:DM}{F:List Fact}{p t:Nat}(h:NI W N M F p t):∃ m,W.st[W.st.length-1]?=some m/\Zt m N.S/\MOk W.node m t:=by
 obtain⟨m,hm,a,_⟩:=h.As.last h.kp.le;rw[<- h.kp.held] at a;exact⟨m,hm,a,h.cm.Af m (Fv hm)⟩
theorem NI.st{W:WM}{N:NM}{M:DM}{F:List Fact}{p t:Nat}(h:NI W N M F p t):Wj W.node W.calls W.most N.S:=by
 have:=h.Ab F.length h.kp.le (IQ _)
 rwa [<- h.kp.held] at this
theorem NI.nk{W:WM}{N:NM}{M:DM}{F:List Fact}{p t:Nat}(h:NI W N M F p t):N.S.keys.length<=t:=by
 obtain⟨m,_,a,hm⟩:=h.now;rw[<- a.1];exact hm.keys
theorem SW(G:List Fact)(x:Fact):atF (G++[x]) (G++[x]).length=(atF G G.length).enter x:=by
 rw[IM,IU,Xf]
theorem Ob{w k:Nat}(c:k≠0):(w+1)%k=if w%k+1<k then w%k+1 else 0:=by
 have d:=DU w (Nat.pos_of_ne_zero c);split
 .rename_i hlt
  rw[<- Nat.mod_add_mod,Nat.mod_eq_of_lt hlt]
 .rw[<- Nat.mod_add_mod,show w%k+1=k by omega,Nat.mod_self]
theorem NI.due{W:WM}{N:NM}{M:DM}{F:List Fact}{p t:Nat}(h:NI W N M F p t)(e:N.readOnly=false) :
 (({W with writes:=W.writes+1}:WM).due=true->N.due=true)/\(N.every≠0->(if N.due=true then 0 else N.writes+1)=(W.writes+1)%N.every):=by
 have i:=h.every;have f:=h.wr e;unfold WM.due NM.due;simp only[Gr,Ha,EI,Bool.or_eq_false_iff,Ho];rw[i]
 constructor
 .rintro⟨h1,h2⟩
  have d:N.every≠0:=by omega
  have g:(W.writes+1)%N.every=0:=by
   have:=Int.tmod_eq_emod_of_nonneg (a:=((W.writes+1:Nat):Int)) (b:=(N.every:Int)) (by omega);rw[this] at h2
   exact_mod_cast h2
  refine⟨d,fun c=>?_⟩;rw[f d] at c;rw[Ob d,He c] at g;omega
 .intro d
  rw[Ob d,f d];by_cases c:W.writes%N.every+1<N.every
  .rw[He c,IV (fun x=>x.2 c)]
  .rw[IV c,He ⟨d,c⟩]
theorem NI.Br{W:WM}{N:NM}{M:DM}{F A:List Fact}{p t:Nat}(h:NI W N M F p t)(e:A=[]\/A=[.inl (N.given+16)]/\¬N.given<N.S.Ba) :
 Hist W.st (F++A) p True/\Zu W.node (W.calls+1) W.most (F++A) p/\(atF (F++A) (F++A).length).keys=N.S.keys/\(atF (F++A) (F++A).length).hints=N.S.hints:=by
 have d:=h.st;have c:Zu W.node (W.calls+1) W.most F p:=fun q a b=>(h.Ab q a b).mono (Fs _) (IQ _) (h.Ab q a b).2.1;rcases e with rfl|⟨rfl,f⟩
 .rw[Hx,<- h.kp.held]
  exact⟨h.As,c,rfl,rfl⟩
 .rw[IM,IU,Xf,<- h.kp.held]
  refine⟨h.As.quiet h.kp.le _ (fun m g=>g),Zu.snoc (fun _=>c) _ ?_,rfl,rfl⟩;rw[<- h.kp.held];have i:=h.most;have j:=h.given;have k:=d.2.2.1;exact⟨d.1.Ba _,by show W.most<=N.given+16;omega,by show N.given+16<=16*(W.calls+1);omega,d.2.2.2⟩
theorem Nq{self b:Int}{S:SM}(h:XU self b S.keys)(key:ByteArray)(l:List Ver)(d:∀ u∈l,u.node=self->u.seq<=b):XU self b (S.holds key l).keys:=by
 unfold SM.holds;simp only;split
 .exact fun e a=>h e (VA e a)
 .exact fun e a=>(Vz e a).elim (h e) (fun c=>by subst c;exact d)
theorem Wj.holds{node:Int}{a e b:Nat}{S:SM}(h:Wj node a e S)(key:ByteArray)(i:zp key=true)(l:List Ver)(f:Yl l)(j:l.length<=4)(o:∀ u∈l,VOk u)(k:e<=b)(d:b<=S.Ba)(c:∀ u∈l,u.node=node->u.seq<=b):Wj node a b (S.holds key l) :=
 ⟨h.1.holds key i l f j o,by rw[ZQ];exact d,by rw[ZQ];exact h.2.2.1,Nq (h.2.2.2.mono (by omega)) key l c⟩
theorem NI.replace{W:WM}{N:NM}{M:DM}{F:List Fact}{p t:Nat}(h:NI W N M F p t)(ht:t+20<=100000000)(z:N.readOnly=false)(key:ByteArray)(i:zp key=true)(vs:NM->Nat->List Ver)(l:List Ver)(f g:Nat)(hf:f∉M.ids)(hg:g∉M.ids)(ha:Apart2 N M f g)
 (b5:∀ N1:NM,N1.S.keys=N.S.keys->N1.self=N.self->vs N1 (N.given+1)=l)(hv:∀ u∈l,VOk u)(Y:∀ u∈l,u.seq=((N.given+1:Nat):Int))(I m0:LM)(c1:MOk W.node I (t+10))(c0:MOk W.node m0 (t+10))(hrel:I.keys=zX N.S.keys key l/\I.hints=N.S.hints)
 (r:(l=[]/\m0=I)\/(∃ v,l=[{v with seq:=((N.given+1:Nat):Int)}]/\v.seq=0/\v.node=W.node/\m0.keys=zX N.S.keys key [v]/\m0.hints=N.S.hints)) :
 ∃ e N' K,N.replace M key vs f g=((if e=none then N.given+1 else 0),Zy e,N',K)/\(∀ k∈K.ids,(k=f\/k=g)\/k∈M.ids)/\(e=none\/e=some 9\/e=some 10) /\
  Aft {W with calls:=W.calls+1,most:=if e=none then N.given+1 else W.most} (if e=none then I else m0) M e N' K (t+10):=by
 have E:=h.st;have a7:N.given<100000000000:=by have:=h.given;have:=E.2.2.1;have:=h.cm.calls;omega
 have D:l.length<=4/\Yl l:=by
  rcases r with⟨e,_⟩|⟨v,e,_⟩
  .rw[e];exact⟨Hg _,by unfold Yl Asc;simp⟩
  .rw[e];exact⟨by simp,by unfold Yl Asc;simp⟩
 obtain⟨e,J',S',gv,wr,K,A,B,p',er,w,J,hA,hB,G,c2,b6,b7,b8,a6⟩:=RC (h.kp.mono (fun _=>z) (IQ _)) (by omega) a7 h.given (h.yF z) z key vs l f g hf hg ha b5 (XG i hv (by omega)) (S3 i hv (by omega));obtain⟨a1,L,a3,a4⟩:=h.Br hA;refine⟨e,_,K,er,w.ids,?_,?_⟩
 .rcases w.BX with⟨j,_⟩|⟨_,⟨j,_⟩|⟨j,_⟩⟩
  .exact .inl j
  .exact .inr (.inl j)
  .exact .inr (.inr j)
 have C:=w.kp;have s:S'=atF (F++A++B) (F++A++B).length:=C.held;have hd:=h.due z;have b2:=h.most;exact {
  body:=by
   refine⟨F++A++B,p',C,fun j b9=>?_,fun j a5=>(G j).2 (hd.1 a5),?_⟩
   .rcases hB with⟨_,a⟩|⟨_,_,_,hL⟩
    .exact absurd j a
    .exact hL
   .rcases hB with⟨rfl,a⟩|⟨rfl,V,hn1,hL⟩
    .rw[Hx] at C s |-
     refine .inr ⟨a,.inl ⟨a1.mono J id,?_⟩⟩;rw[IV a];exact fun q b c=>L q (IP J b) c
    .have hF1:Wj W.node (W.calls+1) W.most (atF (F++A) (F++A).length):=L _ (by have:=h.kp.le;rw[IM];omega) (IQ _)
     have X:=C.le;have a0:(atF (F++A) (F++A).length).Ba=S'.Ba:=by
      rw[s,SW];show _=(SM.holds _ _ _).Ba;rw[ZQ]
     have d:Zt I (atF (F++A++[.inr (.inl (key,l))]) (F++A++[(.inr (.inl (key,l)):Fact)]).length):=by
      rw[SW];refine⟨?_,?_⟩
      .rw[hrel.1,<- a3,Zo key _ hF1.1.Al]
       rfl
      .show _=(SM.holds _ _ _).hints
       rw[YC,a4];exact hrel.2
     have T:Wj W.node (W.calls+1) (N.given+1) ((atF (F++A) (F++A).length).enter (.inr (.inl (key,l)))):=hF1.holds key i l D.2 D.1 hv (by omega) (by rw[a0];exact hn1) (fun u hu _=>by rw[Y u hu];exact FL _);have o:Zu W.node (W.calls+1) (N.given+1) (F++A++[.inr (.inl (key,l))]) p':=Zu.snoc (fun _ q b c=>by
      have hq:=L q (IP J b) c;refine hq.mono (IQ _) (by omega) ?_;have:=hL q b (by rw[IM];omega);rw[Xq c] at this;omega) _ T
     have y:Hist (W.st++[I]) (F++A++[.inr (.inl (key,l))]) p' True:=Hist.push (by simp) (fun _=>a1.mono J id) X I d;cases e with
     | none=>exact .inl ⟨y,o⟩
     | some x =>
      simp only[reduceCtorEq,Gj];rcases r with⟨b0,rfl⟩|⟨v,b1,b3,b4,a9,a8⟩
      .refine .inl ⟨y,Zu.snoc (fun _ q b c=>L q (IP J b) c) _ (hF1.holds key i l D.2 D.1 hv (IQ _) hF1.2.1 (fun u hu _=>by rw[b0] at hu;cases hu))⟩
      .refine .inr ⟨by simp,.inr ⟨N.given+1,⟨F++A,.inr (.inl (key,l)),rfl,fun _=>a1.mono J id,⟨N.S.keys,key,v,E.1.Al,E.1.given,E.2.2.2,b3,b4,a9,?_,?_⟩,by show W.most<N.given+1;omega,o,fun q b c=>?_⟩,by show N.given+1<=gv;omega⟩⟩
       .rw[<- d.1,hrel.1,b1]
       .rw[<- d.2,a8,hrel.2]
       .rw[Xq c]
        exact(L q (IP J b) c).2.2.2
  ro:=rfl
  br:=by have:=h.ro;show W.broken=false;rw[<- this,z]
  BX:=w.BX
  full:=w.full
  room:=by rw[w.room];exact h.room
  cm:=⟨fun m hm=>(h.cm.Af m hm).more (by omega),by have:=h.cm.calls;show W.calls+1<=_;omega,by have:=h.cm.ww;show W.writes<=_;omega,by have:=h.cm.len;show W.st.length<=_;omega,h.cm.ne,by have:=h.cm.next;show W.next<=_;omega,h.cm.base,by have:=h.cm.yj;show W.bk.vs.length<=_;omega,by have:=h.cm.yg;show W.bk.vm.length<=_;omega,by have:=h.cm.yl;show W.bk.ns.length<=_;omega,by have:=h.cm.ye;show W.bk.nm.length<=_;omega,by have:=h.cm.yk;show W.bk.hs.length<=_;omega,by have:=h.cm.yf;show W.bk.hm.length<=_;omega,h.cm.Bu⟩
  ww:=by have:=h.cm.ww;show W.writes+1<=_;omega
  len:=by have:=h.cm.len;show W.st.length+1<=_;omega
  Af:=by split <;> assumption
  self:=h.self
  nd:=h.nd
  most:=by
   show(if e=none then N.given+1 else W.most)<=gv;split
   .rename_i j
    rcases hB with⟨_,a⟩|⟨_,V,_⟩
    .exact absurd j a
    .omega
   .omega
  given:=a6
  every:=h.every
  wr:=fun j a=>by
   show wr=_;rw[(G j).1];exact hd.2 a
  nw:=by have:=h.nw;show wr<=_;omega
  dead:=h.dead}
theorem NI.asked{W:WM}{N:NM}{M:DM}{F:List Fact}{p t:Nat}(h:NI W N M F p t)(ht:t+20<=100000000)(g:N.readOnly=false)(x:Fact)(X:ZG x)(I:(zh x).size<=2000)(s:(N.S.enter x).hints.length<=32)(f:Nat)(T:f∉M.ids)(v:LM)(E:MOk W.node v (t+10))(hrel:Zt v (N.S.enter x))(G:Wj W.node W.calls W.most (N.S.enter x))(o:(N.S.enter x).Ba=N.S.Ba) :
 ∃ e J j,N.asked M x f=(Zy e,J,j)/\(∀ k∈j.ids,k=f\/k∈M.ids)/\(e=none\/e=some 9\/e=some 10)/\Aft W v M e J j (t+10):=by
 obtain⟨e,J',y,wr,j,B,Y,L,w,r,z,i,V⟩:=I5 (h.kp.mono (fun _=>g) (IQ _)) (by omega) g x X I s f T;refine⟨e,_,j,L,w.ids,?_,?_⟩
 .rcases w.BX with⟨c,_⟩|⟨_,⟨c,_⟩|⟨c,_⟩⟩
  .exact .inl c
  .exact .inr (.inl c)
  .exact .inr (.inr c)
 have l:=w.kp.mono id (show t+5<=t+10 by omega);have K:=h.due g;have A:y.Ba=N.S.Ba:=by
  rcases z with⟨_,_,e⟩|⟨_,e⟩
  .rw[e]
  .rw[e,o]
 exact {
  body:=by
   refine⟨F++B,Y,l,fun c D=>?_,fun c C=>(i c).2 (K.1 C),?_⟩
   .have hL:=h.yF g (by rw[<- A];exact D)
    rcases z with⟨_,d,_⟩|⟨rfl,_⟩
    .exact absurd c d
    .intro q a b
     rw[IM,IU] at b;show y.Ba<=_;rw[A];by_cases s:q<=F.length
     .rw[Xq s]
      exact hL q (IP r a) s
     .have e1:q=F.length+1:=by omega
      rw[e1,Xf,<- h.kp.held,o];exact IQ _
   .rcases z with⟨rfl,d,_⟩|⟨rfl,_⟩
    .rw[Hx]
     exact .inr ⟨d,.inl ⟨h.As.mono r id,fun q a b=>h.Ab q (IP r a) b⟩⟩
    .refine .inl ⟨Hist.push (by simp) (fun _=>h.As.mono r id) l.le v ?_,Zu.snoc (fun _ q a b=>h.Ab q (IP r a) b) _ ?_⟩
     .rw[SW,<- h.kp.held]
      exact hrel
     .rw[<- h.kp.held]
      exact G
  ro:=rfl
  br:=by have:=h.ro;rw[<- this,g]
  BX:=w.BX
  full:=w.full
  room:=by rw[w.room];exact h.room
  cm:=h.cm.more (by omega)
  ww:=by have:=h.cm.ww;omega
  len:=by have:=h.cm.len;omega
  Af:=E
  self:=h.self
  nd:=h.nd
  most:=h.most
  given:=by show N.given<=y.Ba;rw[A];exact h.given
  every:=h.every
  wr:=fun c d=>by
   show wr=_;rw[(i c).1];exact K.2 d
  nw:=by have:=h.nw;show wr<=_;omega
  dead:=h.dead}
theorem MOk.with{node:Int}{m:LM}{t:Nat}(h:MOk node m t)(key:ByteArray)(l:List Ver)(y:l.length<=5)(z:∀ u∈l,u.seq=0->u.node=node):MOk node {m with keys:=zX m.keys key l} (t+10):=by
 have r:zX m.keys key l=if l=[] then YI m.keys key else Y0 m.keys key l:=Zo key l h.Al
 have o:∀ e∈zX m.keys key l,e∈m.keys\/e=(key,l):=fun e c=>by
  rw[r] at c;split at c
  .exact .inl (VA e c)
  .exact Vz e c
 refine⟨?_,?_,fun e c=>?_,h.hints,fun e c=>?_,h.node⟩
 .show Y1 (zX m.keys key l)
  rw[r];split
  .exact PK key h.Al
  .exact PJ key l h.Al
 .show(zX m.keys key l).length<=_
  have:=h.keys;rw[r];split
  .have:=PM m.keys key;omega
  .have:=PL m.keys key l;omega
 .rcases o e c with x|x
  .exact h.lens e x
  .rw[x];exact y
 .rcases o e c with x|x
  .exact h.zero e x
  .rw[x];exact z
theorem NI.yN{W:WM}{N:NM}{M:DM}{F:List Fact}{p t:Nat}(h:NI W N M F p t){m:LM}(a:Zt m N.S)(key:ByteArray):zE m.keys key=zj N.S.keys key:=by
 rw[a.1];exact T1 key h.st.1.Al
theorem NI.xh{W:WM}{N:NM}{M:DM}{F:List Fact}{p t:Nat}(h:NI W N M F p t)(s:t+20<=100000000){m:LM}(l:Zt m N.S)(hm:MOk W.node m t)(key a:ByteArray)(hs:a.size<=128) :
 (∀ b:NM,b.S.keys=N.S.keys->b.self=N.self->putV key a b (N.given+1)=[m.putV key a ((N.given+1:Nat):Int)])/\VOk (m.putV key a ((N.given+1:Nat):Int)):=by
 have e:m.putV key a ((N.given+1:Nat):Int)=⟨N.self,((N.given+1:Nat):Int),grV (zj N.S.keys key) 0,grV (zj N.S.keys key) 1,grV (zj N.S.keys key) 2,grV (zj N.S.keys key) 3,a,false⟩:=by
  unfold LM.putV;rw[h.yN l,hm.node,h.self]
 have c:∀ u∈zj N.S.keys key,u.Nat:=fun u o=>((h.st.1.get key).2.2 u o).nat;have k:=h.nd;have j:N.given<100000000000:=by have:=h.given;have:=h.st.2.2.1;have:=h.cm.calls;omega
 refine⟨fun b g i=>?_,?_⟩
 .rw[e]
  unfold putV;rw[g,i]
 .rw[e]
  have d:(0:Int)<=((N.self:Nat):Int):=by omega
  have f:((N.self:Nat):Int)<4:=by omega
  have q:(0:Int)<=((N.given+1:Nat):Int):=by omega
  have r:((N.given+1:Nat):Int)<9223372036854775808:=by omega
  exact⟨⟨d,f⟩,⟨⟨d,CV f (by decide)⟩,⟨q,r⟩,Ye _ _ c,Ye _ _ c,Ye _ _ c,Ye _ _ c,by show a.size<_;omega⟩,hs,by show(1:Int)<=((N.given+1:Nat):Int);omega,rfl⟩
theorem NI.put{W:WM}{N:NM}{M:DM}{F:List Fact}{p t H0:Nat}(h:NI W N M F p t)(y:t+20<=100000000)(i:N.readOnly=false){m:LM}(o:Zt m N.S)(hm:MOk W.node m t)(c:∀ g∈M.ids,g<H0)(key a:ByteArray)(b:zp key=true)(hs:a.size<=128) :
 (∀ H,H0<=H->Xe N M H key (putV key a))/\W.most<N.given+1/\N.given+1<=16*(W.calls+1)/\∀ f g,H0<=f->H0<=g->Apart2 N M f g->∃ e s r,N.put M key a f g=((if e=none then N.given+1 else 0),Zy e,s,r)/\(e=none\/e=some 9\/e=some 10) /\
   Aft {W with calls:=W.calls+1,most:=if e=none then N.given+1 else W.most} (m.put key a (((if e=none then N.given+1 else 0:Nat)):Int)) M e s r (t+10):=by
 obtain⟨q,E⟩:=h.xh y o hm key a hs;have k:∀ u∈[m.putV key a ((N.given+1:Nat):Int)],VOk u:=by intro u d;rw[IZ] at d;subst d;exact E
 have G:=h.st.2.2.1;have I:=h.most;have J:=h.given;have K:=h.cm.calls;have L:=h.nk;have Q:=h.nw;refine⟨fun H B=>O7 (h.kp.mono (fun _=>i) (IQ _)) (by omega) (by omega) h.given (h.yF i) H (fun g x=>Gd (c g x) B) key _ _ q (Xo b k (by simp)) (YL b k (by simp)) (by omega) (by omega),by omega,by omega,fun f g R x C=>?_⟩;obtain⟨e,s,r,z,_,D,l⟩:=h.replace y i key b (putV key a) [m.putV key a ((N.given+1:Nat):Int)] f g (fun j=>by have:=c f j;omega) (fun j=>by have:=c g j;omega) C q k (fun u d=>by rw[IZ] at d;subst d;rfl)
  (m.put key a ((N.given+1:Nat):Int)) (m.put key a 0) (hm.with key _ (by simp) (fun u d A=>by rw[IZ] at d;subst d;exact hm.node)) (hm.with key _ (by simp) (fun u d A=>by rw[IZ] at d;subst d;exact hm.node)) ⟨by show zX m.keys key _=_;rw[o.1],o.2⟩
  (.inr ⟨m.putV key a 0,rfl,rfl,hm.node,by show zX m.keys key _=_;rw[o.1],o.2⟩)
 refine⟨e,s,r,?_,D,?_⟩
 .unfold NM.put
  rw[IV (by rw[b];decide),IV (by omega),IV (by rw[i];decide)];exact z
 .cases e <;> exact l
theorem NI.delete{W:WM}{N:NM}{M:DM}{F:List Fact}{p t H0:Nat}(h:NI W N M F p t)(A:t+20<=100000000)(c:N.readOnly=false){m:LM}(s:Zt m N.S)(hm:MOk W.node m t)(b:∀ g∈M.ids,g<H0)(key:ByteArray)(a:zp key=true) :
 (∀ H,H0<=H->Xe N M H key (fun _ _=>[]))/\W.most<N.given+1/\N.given+1<=16*(W.calls+1)/\∀ f g,H0<=f->H0<=g->Apart2 N M f g->∃ e q o,N.delete M key f g=((if e=none then N.given+1 else 0),Zy e,q,o)/\(e=none\/e=some 9\/e=some 10) /\
   Aft {W with calls:=W.calls+1,most:=if e=none then N.given+1 else W.most} (m.delete key) M e q o (t+10):=by
 have i:∀ u∈([]:List Ver),VOk u:=by intro u l;cases l
 have B:=h.st.2.2.1;have C:=h.most;have D:=h.given;have E:=h.cm.calls;have G:=h.nk;have I:=h.nw;have k:MOk W.node (m.delete key) (t+10):=hm.with key [] (by simp) (fun u l=>by cases l);refine⟨fun H x=>O7 (h.kp.mono (fun _=>c) (IQ _)) (by omega) (by omega) h.given (h.yF c) H (fun g r=>Gd (b g r) x) key _ [] (fun _ _ _=>rfl) (Xo a i (by simp)) (YL a i (by simp)) (by omega) (by omega),by omega,by omega,fun f g J r y=>?_⟩;obtain⟨e,q,o,v,_,z,j⟩:=h.replace A c key a (fun _ _=>[]) [] f g (fun d=>by have:=b f d;omega) (fun d=>by have:=b g d;omega) y (fun _ _ _=>rfl) i (fun u l=>by cases l)
  (m.delete key) (m.delete key) k k ⟨by show zX m.keys key _=_;rw[s.1],s.2⟩ (.inl ⟨rfl,rfl⟩)
 refine⟨e,q,o,?_,z,?_⟩
 .unfold NM.delete
  rw[IV (by rw[a];decide),IV (by rw[c];decide)];exact v
 .cases e <;> exact j
theorem NI.accept{W:WM}{N:NM}{M:DM}{F:List Fact}{p t H0:Nat}(h:NI W N M F p t)(ht:t+20<=100000000){m:LM}(V:Zt m N.S)(hm:MOk W.node m t)(q:∀ g∈M.ids,g<H0)(key:ByteArray)(v:Ver) :
 (∀ H,H0<=H->zp key=true->v.value.size<=128->foreign N.self v=true->N.readOnly=false->(v.gone=false->(zx (zj N.S.keys key) v).length<4)->Fit N M H (.inr (.inl (key,Y2 (zj N.S.keys key) v)))) /\
   (ZR N key v=none->∀ f,H0<=f->∃ e K J,N.accept M key v f=(Zy e,K,J)/\(e=none\/e=some 9\/e=some 10)/\Aft W (m.accept key v) M e K J (t+10)):=by
 have d:=h.st;have k:=d.1.get key;have h5:=h.nk;have h6:=h.nw;refine⟨fun H hH B hs X j c=>?_,fun i f X=>?_⟩
 .have b:=TY k.2.1 k.2.2 (fun h=>TZ X hs h) c
  exact UA (h.kp.mono (fun _=>j) (IQ _)) (by omega) H (fun g k=>Gd (q g k) hH) _ (Xo B b.2 (by omega)) (YL B b.2 (by omega)) (by omega) (by omega)
 .have hout:=S4 N M key v f
  rw[i] at hout;unfold ZR at i;by_cases o:zN N.self key v=0
  .rw[IV (by simp[o])] at i
   cases j:N.readOnly with
   | true=>rw[He j] at i;cases i
   | false =>
    rw[IV (by rw[j];decide)] at i;by_cases A:Zi (zj N.S.keys key) v=0
    .rw[He A] at i;cases i
    .by_cases hw1:Zi (zj N.S.keys key) v=1
     .rw[IV A,He hw1] at i;cases i
     .have hfo:=UT o
      have l:zp key=true/\v.value.size<=128:=by
       unfold zN at o;split at o
       .cases o
       .rename_i B
        split at o
        .cases o
        .exact⟨by simpa using B,by omega⟩
      have s:(zj N.S.keys key).any v.BF=false:=by
       cases B:(zj N.S.keys key).any v.BF with
       | false=>rfl
       | true=>exact absurd (by unfold Zi;rw[He B]) A
      have c:v.gone=false->(zx (zj N.S.keys key) v).length<4:=fun k=>by
       refine Cn fun L=>hw1 ?_;unfold Zi;rw[IV (by rw[s];decide),He ⟨k,L⟩]
      have b:=TY k.2.1 k.2.2 (fun h=>TZ hfo l.2 h) c;have D:=Jr k.1 s;have z:v.node≠W.node:=by
       rw[h.self];unfold foreign at hfo;simp only[Gr,Ha] at hfo;intro e;have:=hfo.2.2.1;exact this.2 e
      have G:∀ u∈Y2 (zj N.S.keys key) v,u∈zj N.S.keys key\/u=v:=fun u a=>by
       unfold Y2 at a;split at a
       .exact .inl (FP.1 a).1
       .unfold YR at a
        simp only[Hh,IZ] at a;rcases a with(a|a)|a
        .exact .inl (FP.1 (GV a)).1
        .exact .inr a
        .exact .inl (FP.1 (Gn a)).1
      have y:∀ u∈zj N.S.keys key,∃ e∈N.S.keys,u∈e.2:=fun u a=>by
       rcases PI N.S.keys key with e|⟨e,E,_,h2⟩
       .rw[e] at a;cases a
       .exact⟨e,E,by rw[h2];exact a⟩
      have I:∀ u∈Y2 (zj N.S.keys key) v,u.node=W.node->u.seq<=(W.most:Int):=fun u a T=>by
       rcases G u a with x|x
       .obtain⟨e,E,hx⟩:=y u x
        exact d.2.2.2 e E u hx T
       .rw[x] at T;exact absurd T z
      have r:Wg (zE m.keys key) v=Y2 (zj N.S.keys key) v:=by
       rw[h.yN V];exact JT v k.1 (RG s)
      have R:MOk W.node (m.accept key v) (t+10):=by
       unfold LM.accept;rw[r];exact hm.with key _ (by omega) (fun u a h0=>by have:=(b.2 u a).one;omega)
      obtain⟨e,K,J,Y,_,E,C⟩:=h.asked ht j (.inr (.inl (key,Y2 (zj N.S.keys key) v))) (XG l.1 b.2 (by omega)) (YL l.1 b.2 (by omega)) (by show(SM.holds _ _ _).hints.length<=32;rw[YC];exact d.1.hlen) f (fun Q=>by have:=q f Q;omega) (m.accept key v) R
       ⟨by show zX m.keys key (Wg (zE m.keys key) v)=_;rw[r,V.1,Zo key _ d.1.Al];rfl,by show m.hints=(SM.holds _ _ _).hints;rw[YC];exact V.2⟩ (d.holds key l.1 _ D b.1 b.2 (IQ _) d.2.1 I) (ZQ _ _ _)
      exact⟨e,K,J,by rw[hout];exact Y,E,C⟩
  .rw[He o] at i;cases i
theorem NI.hint{W:WM}{N:NM}{M:DM}{F:List Fact}{p t H0:Nat}(h:NI W N M F p t)(E:t+20<=100000000){m:LM}(z:Zt m N.S)(hm:MOk W.node m t)(k:∀ g∈M.ids,g<H0)(i:Int)(b:ByteArray) :
 (∀ H,H0<=H->b.size<=64->zA i=true->N.readOnly=false->Fit N M H (.inr (.inr (.inl (i.toNat,b))))) /\
   (ZW N i b=none->∀ f,H0<=f->∃ e u s,N.hint M i b f=(Zy e,u,s)/\(e=none\/e=some 9\/e=some 10)/\Aft W (m.hint i.toNat b) M e u s (t+10)):=by
 have c:=h.st;have G:=h.nk;have I:=h.nw;refine⟨fun H B hs o d=>?_,fun j f J=>?_⟩
 .unfold zA at o
  simp only[Ha] at o;exact UA (h.kp.mono (fun _=>d) (IQ _)) (by omega) H (fun g D=>Gd (k g D) B) _ ⟨by show i.toNat<_;omega,by show b.size<_;omega⟩ (Wq (by omega) hs) (by omega) (by omega)
 .have hout:=O9 N M i b f
  rw[j] at hout;unfold ZW at j;by_cases l:Z9 N.self i b=0
  .rw[IV (by simp[l])] at j
   cases d:N.readOnly with
   | true=>rw[He d] at j;cases j
   | false =>
    rw[IV (by rw[d];decide)] at j;by_cases x:32<=N.S.hints.length
    .rw[He x] at j;cases j
    .have o:zA i=true/\b.size<=64:=by
      unfold Z9 at l;split at l
      .cases l
      .rename_i h1
       split at l
       .cases l
       .simp only[Bool.not_eq_false,Gr] at h1
        exact⟨h1.1,by omega⟩
     have r:=o.1;unfold zA at r;simp only[Ha] at r;obtain⟨e,u,s,A,_,C,q⟩:=h.asked E d (.inr (.inr (.inl (i.toNat,b)))) (Qd (by omega) o.2) (Wq (by omega) o.2) (by show(N.S.hints++[_]).length<=32;rw[IM,IU];omega) f (fun y=>by have:=k f y;omega) (m.hint i.toNat b)
      ⟨hm.Al,by have:=hm.keys;show m.keys.length<=_;omega,hm.lens,by show(m.hints++[_]).length<=33;rw[IM,IU,z.2];omega,hm.zero,hm.node⟩
      ⟨z.1,by show m.hints++[_]=N.S.hints++[_];rw[z.2]⟩ ⟨⟨c.1.Al,c.1.key,by show(N.S.hints++[_]).length<=32;rw[IM,IU];omega,c.1.names⟩,c.2.1,c.2.2.1,c.2.2.2⟩ rfl
     exact⟨e,u,s,by rw[hout];exact A,C,q⟩
  .rw[He l] at j;cases j
theorem NI.Au{W:WM}{N:NM}{M:DM}{F:List Fact}{p t H0:Nat}(h:NI W N M F p t)(z:t+20<=100000000){m:LM}(q:Zt m N.S)(hm:MOk W.node m t)(c:∀ g∈M.ids,g<H0) :
 (∀ H,H0<=H->N.readOnly=false->Fit N M H (.inr (.inr (.inr ())))) /\
   (Yt N=none->∀ f,H0<=f->∃ e k j,N.Au M f=(Zy e,k,j)/\(e=none\/e=some 9\/e=some 10)/\Aft W m.Au M e k j (t+10)):=by
 have a:=h.st;have A:=h.nk;have B:=h.nw;refine⟨fun H s b=>UA (h.kp.mono (fun _=>b) (IQ _)) (by omega) H (fun g v=>Gd (c g v) s) _ trivial Rv (by omega) (by omega),fun l f C=>?_⟩;have d:=M4 N M f;rw[l] at d;unfold Yt at l;cases b:N.readOnly with
 | true=>rw[He b] at l;cases l
 | false =>
  have x:=a.1.hlen;have y:=hm.hints;obtain⟨e,k,j,r,_,u,i⟩:=h.asked z b (.inr (.inr (.inr ()))) PR Rv (by show(N.S.hints.drop 1).length<=32;rw[Hi];omega) f (fun o=>by have:=c f o;omega) m.Au
   ⟨hm.Al,by have:=hm.keys;show m.keys.length<=_;omega,hm.lens,by show(m.hints.drop 1).length<=33;rw[Hi];omega,hm.zero,hm.node⟩
   ⟨q.1,by show m.hints.drop 1=N.S.hints.drop 1;rw[q.2]⟩ ⟨⟨a.1.Al,a.1.key,by show(N.S.hints.drop 1).length<=32;rw[Hi];omega,a.1.names⟩,a.2.1,a.2.2.1,a.2.2.2⟩ rfl
  exact⟨e,k,j,by rw[d];exact r,u,i⟩
theorem RH:((Tryz.prog.info? 152).map fun i=>(i.zero.map (·.cells.size),i.size,i.bytes))=some (some 2,2,32):=by kernel_rfl
theorem Js(w:World)(f:Nat):(binOp .neq 146 (.pointer (some ⟨f,0,none⟩)) (.pointer (some ⟨f,0,none⟩))).run Tryz.prog w=.ok (.bool false) w:=by
 obtain⟨i,z,a,_⟩:=ZH RH;have h:∀ d:Nat,(Op.equalIn (d+1) 146 (.pointer (some ⟨f,0,none⟩)) (.pointer (some ⟨f,0,none⟩))).run Tryz.prog w=.ok true w:=fun d=>by
  simp[Op.equalIn,run_underlying Tryz.underlying146,sizeOf,typeInfo,a,run_sameAddr_same]
 simp only[binOp];simp[Op.equal,Op.maxDepth,h 9999]
theorem KA{w:World}{f g:Nat}{c k:List Value}(l:Blk w f c 152)(m:Blk w g k 152)(b:f≠g) :
 (binOp .neq 146 (.pointer (some ⟨f,0,none⟩)) (.pointer (some ⟨g,0,none⟩))).run Tryz.prog w=.ok (.bool true) w:=by
 obtain⟨i,z,o,_,hs,_⟩:=ZH RH;have j:i.size≠0:=by omega
 have a:(⟨f,0,none⟩:Addr)≠⟨g,0,none⟩:=fun e=>b (GY Addr.block e);have h:∀ d:Nat,(Op.equalIn (d+1) 146 (.pointer (some ⟨f,0,none⟩)) (.pointer (some ⟨g,0,none⟩))).run Tryz.prog w=.ok false w:=fun d=>by
  simp[Op.equalIn,run_underlying Tryz.underlying146,sizeOf,typeInfo,o,j,run_sameAddr_other w a l m]
 simp only[binOp];simp[Op.equal,Op.maxDepth,h 9999]
structure Yf(w0 w:World)(bo bm:Nat)(M:DM)(ps0:List (Nat × Nat))(vo0 vm0:Value)(d:Dir)(k:Nat)(l:Value)(w':World):Prop where
 ex:∃ ps vo vm fV d',Twin w0 w' bo bm M (ps.map Prod.fst) ps vo vm fV/\(∀ p,p∈ps0->p∈ps)/\ps.length<=ps0.length+k/\d'.length=k /\
  (∀ i (h1:i<d.length)(h2:i<d'.length),d'[i].1=d[i].1/\(d[i].2,d'[i].2)∈ps)/\w'.ownsRow 0 148 2 l k (flat d') /\
  (∀ j,vo.ownBlock=some j->vo0.ownBlock=some j\/w.heap.size<=j)/\(∀ j,vm.ownBlock=some j->vm0.ownBlock=some j\/w.heap.size<=j)
 new:∀ j,l.ownBlock=some j->w.heap.size<=j
 fr:Fr (fun j=>j=bo\/j=bm\/vo0.ownBlock=some j\/vm0.ownBlock=some j) w w'
theorem Twin.An{d w u:World}{j g:Nat}{M:DM}{q:List Nat}{r:List (Nat × Nat)}{t vm l:Value}{o:Nat->Value}{n:Nat}{A:List Value}(h:Twin d w j g M q r t vm o)
 (b:w.ownsRow 0 148 2 l n A)(z:∀ k,l.ownBlock=some k->d.heap.size<=k)(f:Fr (fun k=>l.ownBlock=some k) w u) :
 Twin d u j g M q r t vm o :=
 {h with
  co:=h.co.fr f (zd b h.co (by decide))
  cm:=h.cm.fr f (zd b h.cm (by decide))
  old:=zb h.old f (fun _ a e=>Zc b h.old (by decide) e a)
  made:=zb h.made f (fun _ a e=>Zc b h.made (by decide) e a)
  files:=fun p c=>(h.files p c).fr f (zd b (h.files p c) (by decide))
  rows:=fun p c=>zb (h.rows p c) f (fun _ a e=>Zc b (h.rows p c) (by decide) e a)
  fr:=Fr.trans' h.fr f (fun k y a=>absurd (z k a) (by omega))}
theorem Yf.step{z w W J K:World}{B A:Nat}{M:DM}{h f:List (Nat × Nat)}{q o I vm l R:Value}{L:Nat->Value}{d b:Dir}{k g:Nat}(hk:k<d.length)(V:Fr Nil z w)
 (T:Twin z W B A M (f.map Prod.fst) f I vm L)(u:∀ p,p∈h->p∈f)(D:f.length<=h.length+(k+1))(r:b.length=k)
 (E:∀ i (N:i<d.length)(Q:i<b.length),b[i].1=d[i].1/\(d[i].2,b[i].2)∈f)(t:W.ownsRow 0 148 2 l k (flat b))(a:∀ j,l.ownBlock=some j->w.heap.size<=j)
 (G:∀ j,I.ownBlock=some j->q.ownBlock=some j\/w.heap.size<=j)(F:∀ j,vm.ownBlock=some j->o.ownBlock=some j\/w.heap.size<=j)
 (s:Fr (fun j=>j=B\/j=A\/q.ownBlock=some j\/o.ownBlock=some j) w W)(X:(d[k].2,g)∈f)(x:Fr Nil W J)
 (y:App J l 148 2 (k+1) (flat b++[.string d[k].1,.pointer (some ⟨g,0,none⟩)]) R K) :
 Yf z w B A M h q o d (k+1) R K:=by
 have a0:=V.size;have a2:=s.size;have a1:=x.size;have C:∀ j,l.ownBlock=some j->z.heap.size<=j:=fun j c=>by have:=a j c;omega
 refine⟨⟨f,I,vm,L,b++[(d[k].1,g)],(T.Bt x).An (zb t x (fun _ _=>id)) C y.fr,u,D,by simp[r],?_,?_,G,F⟩,?_,?_⟩
 .intro i N Q
  by_cases e:i<b.length
  .rw[Hw e]
   exact E i N e
  .have e':i=k:=by simp at Q;omega
   subst e';rw[Gu (by omega)];simp only[r,Dj,GJ];exact⟨trivial,X⟩
 .have e:flat (b++[(d[k].1,g)])=flat b++[.string d[k].1,.pointer (some ⟨g,0,none⟩)]:=by simp[flat]
  rw[e];exact y.own
 .intro j c
  rcases y.at_ with e|e
  .exact a j (by rw[<- e];exact c)
  .rw[e] at c;simp at c;omega
 .refine Fr.trans' (s.trans (x.mono (fun _ _=>False.elim))) y.fr ?_
  intro j Y c;have:=a j c;omega
theorem Twin.born{C l a y:World}{z m f:Nat}{M:DM}{j:List (Nat × Nat)}{B vm u:Value}{A:Nat->Value}{c:Option Addr}{i:Nat}(T:Twin C l z m M (j.map Prod.fst++[f]) j B vm A)(r:Fr Nil l a)
 (o:App l.drew (.slice none 0 0) 5 1 (0+(M.file f).bytes.length) ([]++u8s (M.file f).bytes) (.slice c (0+(M.file f).bytes.length) i) a)
 (v:App ((a.alloc (.cells #[.slice c (M.file f).bytes.length i,.int .i64 (M.file f).safe] 152)).alloc (.cells #[.pointer (some ⟨a.heap.size,0,none⟩)] 146)) vm 146 1 (j.length+1)
   (ptrs (j.map Prod.snd)++[.pointer (some ⟨a.heap.size,0,none⟩)]) u y) :
 Twin C (y.setCell ⟨m,0,none⟩ u) z m M ((j++[(f,a.heap.size)]).map Prod.fst) (j++[(f,a.heap.size)]) B u (fun g=>if g=a.heap.size then .slice c (M.file f).bytes.length i else A g) /\
  Fr (fun k=>k=m\/vm.ownBlock=some k) l (y.setCell ⟨m,0,none⟩ u)/\(∀ k,u.ownBlock=some k->vm.ownBlock=some k\/l.heap.size<=k):=by
 have b:=o.own;simp only[Gg,Hd] at b;have q:=o.at_;simp only[Gg] at q;have x:=(Blk.new a [.slice c (M.file f).bytes.length i,.int .i64 (M.file f).safe] 152).alloc (.cells #[.pointer (some ⟨a.heap.size,0,none⟩)] 146);have t:((a.alloc (.cells #[.slice c (M.file f).bytes.length i,.int .i64 (M.file f).safe] 152)).alloc (.cells #[.pointer (some ⟨a.heap.size,0,none⟩)] 146)).ownsRow 0 5 1 (.slice c (M.file f).bytes.length i) (M.file f).bytes.length (u8s (M.file f).bytes) :=
  (b.alloc _).alloc _
 have h:=T.yi (v8:=.slice c (M.file f).bytes.length i) ((r.alloc _).alloc _) t (by
  intro k s;rcases q with e|e
  .rw[e] at s;simp[Value.ownBlock] at s
  .rw[e] at s;simp at s;rw[<- s];exact IQ _) x r.size v
 rw[Gs];exact h
theorem Yf.ym{B w V L C y N Q:World}{A z J:Nat}{M:DM}{a x:List (Nat × Nat)}{g f K vm S T l R:Value}{D:Nat->Value}{d h:Dir}{k:Nat}(hk:k<d.length)(h0:Fr Nil B w)
 (b:Yf B w A z M a g f d k l V)(r:∀ p,p∈a->p∈x)(a0:x.length<=a.length+k)(G:h.length=k)
 (q:∀ i (E:i<d.length)(F:i<h.length),h[i].1=d[i].1/\(d[i].2,h[i].2)∈x)
 (u:∀ j,K.ownBlock=some j->g.ownBlock=some j\/w.heap.size<=j)(s:∀ j,vm.ownBlock=some j->f.ownBlock=some j\/w.heap.size<=j)
 (m:Fr Nil V L)(o:Fr (fun j=>j=A\/K.ownBlock=some j) L C)(v:∀ j,S.ownBlock=some j->K.ownBlock=some j\/L.heap.size<=j)
 (X:Twin B y A z M ((x++[(d[k].2,J)]).map Prod.fst) (x++[(d[k].2,J)]) S T D)(I:Fr (fun j=>j=z\/vm.ownBlock=some j) C y)(t:∀ j,T.ownBlock=some j->vm.ownBlock=some j\/C.heap.size<=j)
 (c:y.ownsRow 0 148 2 l k (flat h))(Y:Fr Nil y N)
 (ha:App N l 148 2 (k+1) (flat h++[.string d[k].1,.pointer (some ⟨J,0,none⟩)]) R Q) :
 Yf B w A z M a g f d (k+1) R Q:=by
 have s1:=b.fr.size;have s2:=m.size;have s3:=o.size;refine Yf.step hk h0 X (fun p hp=>EP _ (r p hp)) (by simp;omega) G (fun i E F=>⟨(q i E F).1,EP _ (q i E F).2⟩) c b.new ?_ ?_ ?_ (by simp) Y ha
 .intro j hj
  rcases v j hj with e|e
  .exact u j e
  .exact .inr (by omega)
 .intro j hj
  rcases t j hj with e|e
  .exact s j e
  .exact .inr (by omega)
 .refine Fr.trans' (Fr.trans' (b.fr.trans (m.mono (fun _ _=>False.elim))) o ?_) I ?_
  .intro j hlt hj
   rcases hj with e|e
   .exact .inl e
   .rcases u j e with e'|e'
    .exact .inr (.inr (.inl e'))
    .omega
  .intro j hlt hj
   rcases hj with e|e
   .exact .inr (.inl e)
   .rcases s j e with e'|e'
    .exact .inr (.inr (.inr e'))
    .omega
theorem Jt{z s b x:World}{d c:Nat}{M:DM}{B o:List Nat}{C q:List (Nat × Nat)}{y vm r l:Value}{A f:Nat->Value}{n:Nat}{t:List Value}(u:Twin z s d c M B C y vm A)
 (v:Twin z b d c M o q r vm f)(m:s.ownsRow 0 148 2 l n t)(h:Fr (fun j=>j=d\/y.ownBlock=some j) s b)(i:Fr (fun j=>j=c\/vm.ownBlock=some j) b x) :
 x.ownsRow 0 148 2 l n t:=by
 have g:b.ownsRow 0 148 2 l n t:=zb m h (fun k a e=>by
  rcases e with e|e
  .subst e;exact zd m u.co (by decide) a
  .exact Zc u.old m (by decide) e a)
 exact zb g i (fun k a e=>by
  rcases e with e|e
  .subst e;exact zd g v.cm (by decide) a
  .exact Zc v.made g (by decide) e a)
theorem Ju{r a m:World}{q o g:Nat}{M:DM}{h:List Nat}{i:List (Nat × Nat)}{vm k:Value}{b:Nat->Value}{c:List Value}
 (l:Twin r a q o M h i k vm b)(d:Blk a g c 148)(f:Fr (fun j=>j=o\/vm.ownBlock=some j) a m):Blk m g c 148 :=
 d.fr f (fun e=>by
  rcases e with e|e
  .exact d.ne l.cm (by decide) e
  .exact zd l.made d (by decide) e)
def DM.calm(dir safe:Dir)(b:List Dir)(file:Nat->FM)(c:List Nat)(a:Nat):DM :=
 {dir:=dir,safe:=safe,Bj:=b,file:=file,ids:=c,room:=10,calls:=a,cut:=0,fail:=0,part:=0,refused:=0,Bb:=0,dead:=false}
structure Own(w0 w:World)(b:Nat)(L:DL)(M:DM):Prop where
 CZ:DRep w b L M
 fr:Fr Nil w0 w
 new:∀ k,Foot b L M k->w0.heap.size<=k
theorem Own.made{w c:World}{a:Int}(g:DRep c w.heap.size DL.new (DM.new a))(b:Fr Nil w c):Own w c w.heap.size DL.new (DM.new a) where
 CZ:=g
 fr:=b
 new:=fun k h=>by
  cases h using Foot.elim with
  | blk=>exact IQ _
  | dir e=>simp[DL.new,Value.ownBlock] at e
  | safe e=>simp[DL.new,Value.ownBlock] at e
  | ch e=>simp[DL.new,Value.ownBlock] at e
  | chs i d e=>exact absurd d (Gb _)
  | file e=>cases e
  | row f b e=>cases b
end Go.Proofs.YtkhnggkkiefcdaaGreatDoor
