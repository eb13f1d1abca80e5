/- larder: joined texts -/
import Derived.Test.YtkhnggkkiefcdaaGreatDoorUNAE
import Derived.Test.YtkhnggkkiefcdaaGreatDoorUNAF
import Derived.Shelf.Pu.Clone
import Derived.Ground.MpProg
namespace Go.Proofs.YtkhnggkkiefcdaaGreatDoor
open Go.RowKit
set_option maxRecDepth 100000
set_option maxHeartbeats 8000000
def zj:Fact->ByteArray
 | .inl n=>zp (Xw n)
 | .inr (.inl x)=>zp (Xx x.1 x.2)
 | .inr (.inr (.inl x))=>zp (XK x.1 x.2)
 | .inr (.inr (.inr _))=>zp WH
def FOk:Fact->Prop
 | .inl n=>n<9223372036854775808
 | .inr (.inl x)=>(∀ v∈x.2,v.Nat)/\x.2.length<1000000/\x.1.size<1000000000/\(ZG x.2).length<=100000000000
 | .inr (.inr (.inl x))=>x.1<9223372036854775808/\x.2.size<1000000000
 | .inr (.inr (.inr _))=>True
structure YV(J:JM)(M:DM)(H n:Nat):Prop where
 bytes:n<1000000000000
 size:J.size<1000000000000
 last:J.last+1<1000000000000
 Bl:(J.Bj M).2.Bl.length+1<=1000000000000
 dir:(J.Bj M).2.dir.length+1<=1000000000000
 room:∀ f,H<=f->0<=(J.Bq M n f).2.2.part/\(J.Bq M n f).2.1.size<1000000000000/\∀ g,g∈(J.Bq M n f).2.2.ids->((J.Bq M n f).2.2.file g).bytes.length<=1000000000000
def NM.write(N:NM)(M:DM)(x:Fact)(f:Nat):Option Int × NM × DM :=
 ((N.J.append M (zj x) f).2.1,{N with J:=(N.J.append M (zj x) f).2.2.1,S:=if (N.J.append M (zj x) f).1=true then N.S.enter x else N.S},(N.J.append M (zj x) f).2.2.2)
structure Env(B:Nat)(L:NL)(M:DM)(w:World):Prop where
 tab:YU B w
 le:B<=w.heap.size
 BF:∀ k,Foot L.db L.LD M k->B<=k
theorem QM(v:Value)(w:World):(method 496 220 v "Record").run Tryz.prog w=.ok (307,v) w:=by kernel_rfl
theorem QN(v:Value)(w:World):(method 496 193 v "Record").run Tryz.prog w=.ok (286,v) w:=by kernel_rfl
theorem SQ(v:Value)(w:World):(method 496 138 v "Record").run Tryz.prog w=.ok (282,v) w:=by kernel_rfl
theorem QO(v:Value)(w:World):(method 496 135 v "Record").run Tryz.prog w=.ok (274,v) w:=by kernel_rfl
theorem Tz(B:Nat)(L0:NL)(M0:DM)(w0:World)(L:NL)(N:NM)(M:DM)(b1:ByteArray)(x:Fact)(fv:Value)(w:World)(h0:NStep L0 M0 w0 L N M w)(he:Env B L M w)(hx:FRep w fv x)(t:FOk x)(R:∀ k,WL fv k->SRead L0.LS k\/w0.heap.size<=k)
 (a6:YV N.J M w.heap.size (zj x).size)(y:N.S.keys.length<1099511627776)(hh:N.S.hints.length<1000000) :
 Calls Tryz.prog 129 #[.pointer (some ⟨L.nb,0,none⟩),.string b1,fv] w fun e w' =>
  ∃ f v L',e=.returned v/\w.heap.size<=f/\ERep w' v (N.write M x f).1/\NStep L0 M0 w0 L' (N.write M x f).2.1 (N.write M x f).2.2 w':=by
 have h:=h0.Bt;have a5:=Z h0;have b4:w.cell? ⟨L.nb,1,none⟩=some (.pointer (some ⟨L.jb,0,none⟩)):=h.Bi.cell 1;have HK:Hid (∀ w',Fr Nil w w'->w'.cell? ⟨L.nb,1,none⟩=some (.pointer (some ⟨L.jb,0,none⟩))):=by
  intro w' Q;exact(h.Bi.fr Q id).cell 1
 have T:=Z he;have H:=Z h;have HX:=Z hx;have b3:=Z t;have b:=Z a6;clear he h a6 h0;rcases x with n|⟨O,l⟩|⟨to,j⟩|u
 .have hfv:fv=.iface 220 (.agg #[.int .i64 n]):=hx
  subst hfv;have HR:=Z (fun wx=>U7 n t wx);have hw:N.write M (Sum.inl n)=fun f=>((N.J.append M (zj (Sum.inl n)) f).2.1,{N with J:=(N.J.append M (zj (Sum.inl n)) f).2.2.1,S:=if (N.J.append M (zj (Sum.inl n)) f).1=true then N.S.enter (Sum.inl n) else N.S},(N.J.append M (zj (Sum.inl n)) f).2.2.2):=rfl;have r:=Z hw;generalize i:zj (Sum.inl n)=p at b r;have a0:Hid (zp (Xw n)=p):=i;have a8:=b.out.bytes;have hm:=QM;generalize a4:(Sum.inl n:Fact)=x at HX r R hw;clear i hw hx t a4;go_enter CC,Ch;go_wp2_with fail
  go_region_held3 (fun w'=>w'.cell? ⟨L.nb,1,none⟩=some (.pointer (some ⟨L.jb,0,none⟩))) (first|assumption|go_keep|exact HK.out _ zd)
   (first
   | (go_at_call 164;refine(Xa B L.jb L.db N.J L.LD M p b.out.bytes b.out.size b.out.last _ (Blk.fr (S:=Nil) H.out.log (a.trans zd) id) (H.out.BM.nil (a.trans zd)) (T.out.tab.fr (S:=Nil) T.out.le (a.trans zd) (fun _ h=>absurd h id)) (Im T.out.le (Fr.size (S:=Nil) (a.trans zd))) T.out.BF b.out.Bl b.out.dir (fun f Q=>b.out.room f (Im (Fr.size (S:=Nil) (a.trans zd)) Q))).mono ?_;rintro e s ⟨f,v3,E,rfl,K,G,o⟩;have C:Hid (w.heap.size<=f):=Im (Fr.size (S:=Nil) (a.trans zd)) K;have D:Hid (NStep L M w _ _ _ s):=(NStep.nil H.out (a.trans zd)).trans (NStep.Aj (H.out.nil (a.trans zd)) o);have c:Hid (NStep L0 M0 w0 _ _ _ s):=(a5.out.Bn (a.trans zd)).trans (NStep.Aj (H.out.nil (a.trans zd)) o);have b0:s.cell? ⟨L.nb,1,none⟩=some (.pointer (some ⟨L.jb,0,none⟩)):=c.out.Bt.Bi.cell 1;have A:=Z G;clear G o K)
   | (go_at_call 307;refine(HR.out _).mono ?_;rintro e w2 ⟨rfl,a3⟩;have a:Fr Nil w w2:=Fr.trans zd a3;have a9:=HK.out w2 a;rw[a0.out]))
  have a7:s.cell? ⟨L.nb,2,none⟩=some (.pointer (some ⟨L.sb,0,none⟩)):=c.out.Bt.Bi.cell 2;cases hb:(N.J.append M p f).1 with
  | true =>
   have V:=Z hb;have HT:=Z (XB x _ L.sb L.LS N.S s c.out.Bt.held (HX.out.step H.out D.out) y hh);clear hb;go_wp2_with fail;refine HT.out.mono ?_;rintro e w4 ⟨rfl,hT⟩;obtain⟨a2,J⟩:=c.out.held hT R;have I:=A.out.fr (w':=w4) (by obtain⟨_,_,q,_⟩:=hT;exact q) (fun k y Q=>by
    rcases c.out.Bt.held.BJ Q with e|e|e <;> rcases y with y|y <;> exact absurd (y.inj e) (by decide))
   have a1:=Z J;have X:=Z I;clear hT J I HT;go_wp2_with fail;refine(zz _ _ _ w4 X.out).mono ?_;rintro e w5 ⟨v5,rfl,d,g⟩;have m:=Z d;have Y:=Z (a1.out.Bn g);clear d g
   go_wp2
   go_ret;refine⟨f,v5,{L with LD:=E,LS:=a2},rfl,C.out,?_,?_⟩
   .rw[r.out];exact m.out
   .rw[r.out];simp only[V.out,Gh];exact Y.out
  | false =>
   have V:=Z hb;clear hb;go_wp2_with fail;refine(zz _ _ _ s A.out).mono ?_;rintro e w5 ⟨v5,rfl,d,g⟩;have m:=Z d;have Y:=Z (c.out.Bn g);clear d g
   go_wp2
   go_ret;refine⟨f,v5,{L with LD:=E},rfl,C.out,?_,?_⟩
   .rw[r.out];exact m.out
   .rw[r.out];simp only[V.out,Gx,Hy];exact Y.out
 .obtain⟨lv,hfv,hlv⟩:∃ lv,fv=.iface 193 (.agg #[.string O,lv])/\VRow w lv l:=id hx
  subst hfv;have b2:=Z hlv;clear hlv;have HR:=Z (fun wx (f:Fr Nil w wx)=>U9 O lv l t.1 t.2.1 t.2.2.1 wx (VRow.fr b2.out f (fun _ _=>id)) t.2.2.2);have hw:N.write M (Sum.inr (Sum.inl (O,l)))=fun f=>((N.J.append M (zj (Sum.inr (Sum.inl (O,l)))) f).2.1,{N with J:=(N.J.append M (zj (Sum.inr (Sum.inl (O,l)))) f).2.2.1,S:=if (N.J.append M (zj (Sum.inr (Sum.inl (O,l)))) f).1=true then N.S.enter (Sum.inr (Sum.inl (O,l))) else N.S},(N.J.append M (zj (Sum.inr (Sum.inl (O,l)))) f).2.2.2):=rfl;have r:=Z hw;generalize i:zj (Sum.inr (Sum.inl (O,l)))=p at b r;have a0:Hid (zp (Xx O l)=p):=i;have a8:=b.out.bytes;have hm:=QN;generalize a4:(Sum.inr (Sum.inl (O,l)):Fact)=x at HX r R hw;clear i hw hx t a4;go_enter CC,Ch;go_wp2_with fail
  go_region_held3 (fun w'=>w'.cell? ⟨L.nb,1,none⟩=some (.pointer (some ⟨L.jb,0,none⟩))) (first|assumption|go_keep|exact HK.out _ zd)
   (first
   | (go_at_call 164;refine(Xa B L.jb L.db N.J L.LD M p b.out.bytes b.out.size b.out.last _ (Blk.fr (S:=Nil) H.out.log (a.trans zd) id) (H.out.BM.nil (a.trans zd)) (T.out.tab.fr (S:=Nil) T.out.le (a.trans zd) (fun _ h=>absurd h id)) (Im T.out.le (Fr.size (S:=Nil) (a.trans zd))) T.out.BF b.out.Bl b.out.dir (fun f Q=>b.out.room f (Im (Fr.size (S:=Nil) (a.trans zd)) Q))).mono ?_;rintro e s ⟨f,v3,E,rfl,K,G,o⟩;have C:Hid (w.heap.size<=f):=Im (Fr.size (S:=Nil) (a.trans zd)) K;have D:Hid (NStep L M w _ _ _ s):=(NStep.nil H.out (a.trans zd)).trans (NStep.Aj (H.out.nil (a.trans zd)) o);have c:Hid (NStep L0 M0 w0 _ _ _ s):=(a5.out.Bn (a.trans zd)).trans (NStep.Aj (H.out.nil (a.trans zd)) o);have b0:s.cell? ⟨L.nb,1,none⟩=some (.pointer (some ⟨L.jb,0,none⟩)):=c.out.Bt.Bi.cell 1;have A:=Z G;clear G o K)
   | (go_at_call 286;refine(HR.out _ zd).mono ?_;rintro e w2 ⟨rfl,a3⟩;have a:Fr Nil w w2:=Fr.trans zd a3;have a9:=HK.out w2 a;rw[a0.out]))
  have a7:s.cell? ⟨L.nb,2,none⟩=some (.pointer (some ⟨L.sb,0,none⟩)):=c.out.Bt.Bi.cell 2;cases hb:(N.J.append M p f).1 with
  | true =>
   have V:=Z hb;have HT:=Z (XB x _ L.sb L.LS N.S s c.out.Bt.held (HX.out.step H.out D.out) y hh);clear hb;go_wp2_with fail;refine HT.out.mono ?_;rintro e w4 ⟨rfl,hT⟩;obtain⟨a2,J⟩:=c.out.held hT R;have I:=A.out.fr (w':=w4) (by obtain⟨_,_,q,_⟩:=hT;exact q) (fun k y Q=>by
    rcases c.out.Bt.held.BJ Q with e|e|e <;> rcases y with y|y <;> exact absurd (y.inj e) (by decide))
   have a1:=Z J;have X:=Z I;clear hT J I HT;go_wp2_with fail;refine(zz _ _ _ w4 X.out).mono ?_;rintro e w5 ⟨v5,rfl,d,g⟩;have m:=Z d;have Y:=Z (a1.out.Bn g);clear d g
   go_wp2
   go_ret;refine⟨f,v5,{L with LD:=E,LS:=a2},rfl,C.out,?_,?_⟩
   .rw[r.out];exact m.out
   .rw[r.out];simp only[V.out,Gh];exact Y.out
  | false =>
   have V:=Z hb;clear hb;go_wp2_with fail;refine(zz _ _ _ s A.out).mono ?_;rintro e w5 ⟨v5,rfl,d,g⟩;have m:=Z d;have Y:=Z (c.out.Bn g);clear d g
   go_wp2
   go_ret;refine⟨f,v5,{L with LD:=E},rfl,C.out,?_,?_⟩
   .rw[r.out];exact m.out
   .rw[r.out];simp only[V.out,Gx,Hy];exact Y.out
 .have hfv:fv=.iface 138 (.agg #[.int .i64 to,.string j]):=hx
  subst hfv;have HR:=Z (fun wx=>VS to j t.1 t.2 wx);have hw:N.write M (Sum.inr (Sum.inr (Sum.inl (to,j))))=fun f=>((N.J.append M (zj (Sum.inr (Sum.inr (Sum.inl (to,j))))) f).2.1,{N with J:=(N.J.append M (zj (Sum.inr (Sum.inr (Sum.inl (to,j))))) f).2.2.1,S:=if (N.J.append M (zj (Sum.inr (Sum.inr (Sum.inl (to,j))))) f).1=true then N.S.enter (Sum.inr (Sum.inr (Sum.inl (to,j)))) else N.S},(N.J.append M (zj (Sum.inr (Sum.inr (Sum.inl (to,j))))) f).2.2.2):=rfl;have r:=Z hw;generalize i:zj (Sum.inr (Sum.inr (Sum.inl (to,j))))=p at b r;have a0:Hid (zp (XK to j)=p):=i;have a8:=b.out.bytes;have hm:=SQ;generalize a4:(Sum.inr (Sum.inr (Sum.inl (to,j))):Fact)=x at HX r R hw;clear i hw hx t a4;go_enter CC,Ch;go_wp2_with fail
  go_region_held3 (fun w'=>w'.cell? ⟨L.nb,1,none⟩=some (.pointer (some ⟨L.jb,0,none⟩))) (first|assumption|go_keep|exact HK.out _ zd)
   (first
   | (go_at_call 164;refine(Xa B L.jb L.db N.J L.LD M p b.out.bytes b.out.size b.out.last _ (Blk.fr (S:=Nil) H.out.log (a.trans zd) id) (H.out.BM.nil (a.trans zd)) (T.out.tab.fr (S:=Nil) T.out.le (a.trans zd) (fun _ h=>absurd h id)) (Im T.out.le (Fr.size (S:=Nil) (a.trans zd))) T.out.BF b.out.Bl b.out.dir (fun f Q=>b.out.room f (Im (Fr.size (S:=Nil) (a.trans zd)) Q))).mono ?_;rintro e s ⟨f,v3,E,rfl,K,G,o⟩;have C:Hid (w.heap.size<=f):=Im (Fr.size (S:=Nil) (a.trans zd)) K;have D:Hid (NStep L M w _ _ _ s):=(NStep.nil H.out (a.trans zd)).trans (NStep.Aj (H.out.nil (a.trans zd)) o);have c:Hid (NStep L0 M0 w0 _ _ _ s):=(a5.out.Bn (a.trans zd)).trans (NStep.Aj (H.out.nil (a.trans zd)) o);have b0:s.cell? ⟨L.nb,1,none⟩=some (.pointer (some ⟨L.jb,0,none⟩)):=c.out.Bt.Bi.cell 1;have A:=Z G;clear G o K)
   | (go_at_call 282;refine(HR.out _).mono ?_;rintro e w2 ⟨rfl,a3⟩;have a:Fr Nil w w2:=Fr.trans zd a3;have a9:=HK.out w2 a;rw[a0.out]))
  have a7:s.cell? ⟨L.nb,2,none⟩=some (.pointer (some ⟨L.sb,0,none⟩)):=c.out.Bt.Bi.cell 2;cases hb:(N.J.append M p f).1 with
  | true =>
   have V:=Z hb;have HT:=Z (XB x _ L.sb L.LS N.S s c.out.Bt.held (HX.out.step H.out D.out) y hh);clear hb;go_wp2_with fail;refine HT.out.mono ?_;rintro e w4 ⟨rfl,hT⟩;obtain⟨a2,J⟩:=c.out.held hT R;have I:=A.out.fr (w':=w4) (by obtain⟨_,_,q,_⟩:=hT;exact q) (fun k y Q=>by
    rcases c.out.Bt.held.BJ Q with e|e|e <;> rcases y with y|y <;> exact absurd (y.inj e) (by decide))
   have a1:=Z J;have X:=Z I;clear hT J I HT;go_wp2_with fail;refine(zz _ _ _ w4 X.out).mono ?_;rintro e w5 ⟨v5,rfl,d,g⟩;have m:=Z d;have Y:=Z (a1.out.Bn g);clear d g
   go_wp2
   go_ret;refine⟨f,v5,{L with LD:=E,LS:=a2},rfl,C.out,?_,?_⟩
   .rw[r.out];exact m.out
   .rw[r.out];simp only[V.out,Gh];exact Y.out
  | false =>
   have V:=Z hb;clear hb;go_wp2_with fail;refine(zz _ _ _ s A.out).mono ?_;rintro e w5 ⟨v5,rfl,d,g⟩;have m:=Z d;have Y:=Z (c.out.Bn g);clear d g
   go_wp2
   go_ret;refine⟨f,v5,{L with LD:=E},rfl,C.out,?_,?_⟩
   .rw[r.out];exact m.out
   .rw[r.out];simp only[V.out,Gx,Hy];exact Y.out
 .have hfv:fv=.iface 135 (.agg #[]):=hx
  subst hfv;have HR:=Z (fun wx=>Ua wx);have hw:N.write M (Sum.inr (Sum.inr (Sum.inr u)))=fun f=>((N.J.append M (zj (Sum.inr (Sum.inr (Sum.inr u)))) f).2.1,{N with J:=(N.J.append M (zj (Sum.inr (Sum.inr (Sum.inr u)))) f).2.2.1,S:=if (N.J.append M (zj (Sum.inr (Sum.inr (Sum.inr u)))) f).1=true then N.S.enter (Sum.inr (Sum.inr (Sum.inr u))) else N.S},(N.J.append M (zj (Sum.inr (Sum.inr (Sum.inr u)))) f).2.2.2):=rfl;have r:=Z hw;generalize i:zj (Sum.inr (Sum.inr (Sum.inr u)))=p at b r;have a0:Hid (zp WH=p):=i;have a8:=b.out.bytes;have hm:=QO;generalize a4:(Sum.inr (Sum.inr (Sum.inr u)):Fact)=x at HX r R hw;clear i hw hx t a4;go_enter CC,Ch;go_wp2_with fail
  go_region_held3 (fun w'=>w'.cell? ⟨L.nb,1,none⟩=some (.pointer (some ⟨L.jb,0,none⟩))) (first|assumption|go_keep|exact HK.out _ zd)
   (first
   | (go_at_call 164;refine(Xa B L.jb L.db N.J L.LD M p b.out.bytes b.out.size b.out.last _ (Blk.fr (S:=Nil) H.out.log (a.trans zd) id) (H.out.BM.nil (a.trans zd)) (T.out.tab.fr (S:=Nil) T.out.le (a.trans zd) (fun _ h=>absurd h id)) (Im T.out.le (Fr.size (S:=Nil) (a.trans zd))) T.out.BF b.out.Bl b.out.dir (fun f Q=>b.out.room f (Im (Fr.size (S:=Nil) (a.trans zd)) Q))).mono ?_;rintro e s ⟨f,v3,E,rfl,K,G,o⟩;have C:Hid (w.heap.size<=f):=Im (Fr.size (S:=Nil) (a.trans zd)) K;have D:Hid (NStep L M w _ _ _ s):=(NStep.nil H.out (a.trans zd)).trans (NStep.Aj (H.out.nil (a.trans zd)) o);have c:Hid (NStep L0 M0 w0 _ _ _ s):=(a5.out.Bn (a.trans zd)).trans (NStep.Aj (H.out.nil (a.trans zd)) o);have b0:s.cell? ⟨L.nb,1,none⟩=some (.pointer (some ⟨L.jb,0,none⟩)):=c.out.Bt.Bi.cell 1;have A:=Z G;clear G o K)
   | (go_at_call 274;refine(HR.out _).mono ?_;rintro e w2 ⟨rfl,a3⟩;have a:Fr Nil w w2:=Fr.trans zd a3;have a9:=HK.out w2 a;rw[a0.out]))
  have a7:s.cell? ⟨L.nb,2,none⟩=some (.pointer (some ⟨L.sb,0,none⟩)):=c.out.Bt.Bi.cell 2;cases hb:(N.J.append M p f).1 with
  | true =>
   have V:=Z hb;have HT:=Z (XB x _ L.sb L.LS N.S s c.out.Bt.held (HX.out.step H.out D.out) y hh);clear hb;go_wp2_with fail;refine HT.out.mono ?_;rintro e w4 ⟨rfl,hT⟩;obtain⟨a2,J⟩:=c.out.held hT R;have I:=A.out.fr (w':=w4) (by obtain⟨_,_,q,_⟩:=hT;exact q) (fun k y Q=>by
    rcases c.out.Bt.held.BJ Q with e|e|e <;> rcases y with y|y <;> exact absurd (y.inj e) (by decide))
   have a1:=Z J;have X:=Z I;clear hT J I HT;go_wp2_with fail;refine(zz _ _ _ w4 X.out).mono ?_;rintro e w5 ⟨v5,rfl,d,g⟩;have m:=Z d;have Y:=Z (a1.out.Bn g);clear d g
   go_wp2
   go_ret;refine⟨f,v5,{L with LD:=E,LS:=a2},rfl,C.out,?_,?_⟩
   .rw[r.out];exact m.out
   .rw[r.out];simp only[V.out,Gh];exact Y.out
  | false =>
   have V:=Z hb;clear hb;go_wp2_with fail;refine(zz _ _ _ s A.out).mono ?_;rintro e w5 ⟨v5,rfl,d,g⟩;have m:=Z d;have Y:=Z (c.out.Bn g);clear d g
   go_wp2
   go_ret;refine⟨f,v5,{L with LD:=E},rfl,C.out,?_,?_⟩
   .rw[r.out];exact m.out
   .rw[r.out];simp only[V.out,Gx,Hy];exact Y.out
theorem Ok(B:Nat)(L:NL)(N:NM)(M:DM)(a:ByteArray)(x:Fact)(c:Value)(w:World)(h:NRep w L N M)(l:Env B L M w)(p:FRep w c x)(g:FOk x)(d:∀ k,WL c k->SRead L.LS k\/w.heap.size<=k)
 (b:YV N.J M w.heap.size (zj x).size)(o:N.S.keys.length<1099511627776)(m:N.S.hints.length<1000000) :
 Calls Tryz.prog 129 #[.pointer (some ⟨L.nb,0,none⟩),.string a,c] w fun e i =>
  ∃ f v j,e=.returned v/\w.heap.size<=f/\ERep i v (N.write M x f).1/\NStep L M w j (N.write M x f).2.1 (N.write M x f).2.2 i :=
 Tz B L M w L N M a x c w (NStep.nil h (U _ _)) l p g d b o m
def NM.sync(N:NM)(M:DM):Option Int × NM × DM:=((N.J.BE M).1,{N with J:=(N.J.BE M).2.1},(N.J.BE M).2.2)
def NM.counted(N:NM)(M:DM):Option Int × NM × DM :=
 if N.every=0\/N.writes+1<N.every then(none,{N with writes:=N.writes+1},M) else NM.sync {N with writes:=0} M
def NM.change(N:NM)(M:DM)(x:Fact)(f:Nat):Option Int × NM × DM :=
 match (N.write M x f).1 with
 | some n=>(some n,(N.write M x f).2.1,(N.write M x f).2.2)
 | none=>(N.write M x f).2.1.counted (N.write M x f).2.2
theorem Vf(B:Nat)(I:NL)(O:DM)(J:World)(L:NL)(N:NM)(M:DM)(D:ByteArray)(x:Fact)(fv:Value)(w:World)(E:NStep I O J L N M w)(u:Env B L M w)(hx:FRep w fv x)(a2:FOk x)(a1:∀ k,WL fv k->SRead I.LS k\/J.heap.size<=k)
 (C:YV N.J M w.heap.size (zj x).size)(hk:N.S.keys.length<1099511627776)(hh:N.S.hints.length<1000000)(hw:N.writes<1000000000000) :
 Calls Tryz.prog 80 #[.pointer (some ⟨L.nb,0,none⟩),.string D,fv] w fun e w' =>
  ∃ f v L',e=.returned v/\w.heap.size<=f/\ERep w' v (N.change M x f).1/\NStep I O J L' (N.change M x f).2.1 (N.change M x f).2.2 w':=by
 have K:=Z E.same.nb;have HW:=Z (Tz B I O J L N M D x fv w E u hx a2 a1 C hk hh);clear E u hx a2 a1 C hk hh;go_enter Tryz.func80,Tryz.ntmps80;go_wp2_with fail;refine HW.out.mono ?_;rintro e w1 ⟨f,v1,r,rfl,hf,o,g⟩;have q:∀ n,(N.write M x f).1=some n->N.change M x f=(some n,(N.write M x f).2.1,(N.write M x f).2.2):=by intro n h;unfold NM.change;rw[h]
 have p:(N.write M x f).1=none->N.change M x f=(N.write M x f).2.1.counted (N.write M x f).2.2:=by intro h;unfold NM.change;rw[h]
 have a8:(N.write M x f).2.1.writes<1000000000000:=hw;generalize V:(N.write M x f).2.1=a at g q p a8;generalize T:(N.write M x f).2.2=m at g q p;have HS:=Z g;have HF:=Z hf;have c:r.nb=L.nb:=g.same.nb.trans K.out.symm;cases u:(N.write M x f).1 with
 | some n =>
  rw[u] at o;have s:=Z (q n u);have HE:=Z o;obtain⟨k,hk⟩:=o;obtain⟨t,b,rfl⟩:=hk.form;clear u q p hk g V T hf c
  go_wp2
  go_ret;refine⟨f,.iface t (.pointer (some ⟨b,0,none⟩)),r,rfl,HF.out,?_,?_⟩
  .rw[s.out];exact HE.out
  .rw[s.out];exact HS.out
 | none =>
  rw[u] at o;have s:=Z (p u);have hv:v1=.nilIface:=o;subst hv;have X:=g.Bt.Bi.cell;have hz:=g.Bt.Bi.frozen;simp only[NM.cells] at X;rw[c] at X hz;have b0:IntKind.i64.wrap ((a.writes:Int)+1)=(a.writes:Int)+1:=by rw[Hg];omega
  have l:=NStep.set HS.out.Bt (N':={a with writes:=a.writes+1}) 5 (.int .i64 ((a.writes:Int)+1)) (by simp[NM.cells]) rfl rfl;rw[c] at l;have A:=Z l;have Y:=l.Bt.Bi.cell;simp only[NM.cells] at Y;rw[c] at Y;have a9:=Z c;clear u q p o g V T hf l;by_cases G:a.every=0\/a.writes+1<a.every
  .have hp:a.counted m=(none,{a with writes:=a.writes+1},m):=by unfold NM.counted;rw[IC G]
   have i:=Z hp;clear hp;have d:∀ y:World,Fr Nil (w1.setCell ⟨L.nb,5,none⟩ (.int .i64 ((a.writes:Int)+1))) y->NStep I O J r {a with writes:=a.writes+1} m y:=fun y f=>(HS.out.trans A.out).Bn f;have j:=Z d;clear d;by_cases E:a.every=0
   .have g1:((a.every:Int)==0)=true:=by simp;omega
    clear G E c;go_wp2_with fail
    go_quiet (fail)
    go_wp2
    go_ret;refine⟨f,_,r,rfl,HF.out,?_,?_⟩
    .rw[s.out,i.out];rfl
    .rw[s.out,i.out];exact j.out _ (by exact zd)
   .have g1:((a.every:Int)==0)=false:=by simp;omega
    have g2:a.writes+1<a.every:=G.resolve_left E;have g3:decide ((a.writes:Int)+1<a.every)=true:=by simp;omega
    have g4:decide (a.writes+1<a.every)=true:=by simp;omega
    clear G E c;go_wp2_with fail
    go_quiet (fail)
    go_wp2
    go_ret;refine⟨f,_,r,rfl,HF.out,?_,?_⟩
    .rw[s.out,i.out];rfl
    .rw[s.out,i.out];exact j.out _ (by exact zd)
  .have hp:a.counted m=NM.sync {a with writes:=0} m:=by unfold NM.counted;rw[It G]
   have i:=Z hp;have g1:((a.every:Int)==0)=false:=by simp;omega
   have g2:¬a.writes+1<a.every:=fun h=>G (.inr h);have g3:decide ((a.writes:Int)+1<a.every)=false:=by simp;omega
   have g4:decide (a.writes+1<a.every)=false:=by simp;omega
   have d:∀ y:World,Fr Nil (w1.setCell ⟨L.nb,5,none⟩ (.int .i64 ((a.writes:Int)+1))) y->NStep I O J r {a with writes:=0} m (y.setCell ⟨L.nb,5,none⟩ (.int .i64 0)):=by
    intro y f;have h1:=(HS.out.trans A.out).Bn f;have h2:=NStep.set h1.Bt (N':={a with writes:=0}) 5 (.int .i64 0) (by simp[NM.cells]) rfl rfl;rw[c] at h2;exact h1.trans h2
   have j:=Z d;have X:(NM.sync {a with writes:=0} m)=((a.J.BE m).1,{a with writes:=0,J:=(a.J.BE m).2.1},(a.J.BE m).2.2):=rfl;have HC:=Z X;clear G c hp d X;go_wp2_with fail
   go_quiet (fail)
   go_wp2_with fail;generalize hq:World.drewN (w1.setCell ⟨L.nb,5,none⟩ (.int .i64 ((a.writes:Int)+1))) _=y;have o:=j.out y (by rw[<- hq];exact zd);clear hq;have HE:=Z o;refine(Ve r.jb r.db a.J r.LD m _ o.Bt.log o.Bt.BM).mono ?_;rintro e w3 ⟨v3,a7,rfl,Q,S⟩;have a6:=Z (HE.out.trans (NStep.Aj HE.out.Bt S));have a3:=Z Q;clear o S Q;go_wp2_with fail;refine(zz _ _ _ w3 a3.out).mono ?_;rintro e w4 ⟨v4,rfl,R,a0⟩;have a4:=Z R;have a5:=Z (a6.out.Bn a0);clear R a0
   go_wp2
   go_ret;refine⟨f,v4,{r with LD:=a7},rfl,HF.out,?_,?_⟩
   .rw[s.out,i.out,HC.out];exact a4.out
   .rw[s.out,i.out,HC.out];exact a5.out
theorem Ue(B:Nat)(L:NL)(N:NM)(M:DM)(a:ByteArray)(x:Fact)(c:Value)(w:World)(h:NRep w L N M)(l:Env B L M w)(q:FRep w c x)(g:FOk x)(d:∀ k,WL c k->SRead L.LS k\/w.heap.size<=k)
 (b:YV N.J M w.heap.size (zj x).size)(o:N.S.keys.length<1099511627776)(m:N.S.hints.length<1000000)(p:N.writes<1000000000000) :
 Calls Tryz.prog 80 #[.pointer (some ⟨L.nb,0,none⟩),.string a,c] w fun e i =>
  ∃ f v j,e=.returned v/\w.heap.size<=f/\ERep i v (N.change M x f).1/\NStep L M w j (N.change M x f).2.1 (N.change M x f).2.2 i :=
 Vf B L M w L N M a x c w (NStep.nil h (U _ _)) l q g d b o m p
def NM.BG(N:NM)(M:DM)(f:Nat):Option Int × NM × DM :=
 match (N.write M (.inl (N.given+16)) f).1 with
 | some n=>(some n,(N.write M (.inl (N.given+16)) f).2.1,(N.write M (.inl (N.given+16)) f).2.2)
 | none=>NM.sync (N.write M (.inl (N.given+16)) f).2.1 (N.write M (.inl (N.given+16)) f).2.2
theorem Ol(B:Nat)(L:NL)(N:NM)(M:DM)(w:World)(h:NRep w L N M)(i:Env B L M w)
 (j:YV N.J M w.heap.size (zj (.inl (N.given+16))).size)(G:N.S.keys.length<1099511627776)(hh:N.S.hints.length<1000000)(hg:N.given<1000000000000) :
 Calls Tryz.prog 162 #[.pointer (some ⟨L.nb,0,none⟩)] w fun e I =>
  ∃ f v S,e=.returned v/\w.heap.size<=f/\ERep I v (N.BG M f).1/\NStep L M w S (N.BG M f).2.1 (N.BG M f).2.2 I:=by
 have HW:Hid (∀ g,Calls Tryz.prog 129 #[.pointer (some ⟨L.nb,0,none⟩),.string g,.iface 220 (.agg #[.int .i64 ((N.given:Int)+16)])] w fun e I =>
  ∃ f v S,e=.returned v/\w.heap.size<=f/\ERep I v (N.write M (.inl (N.given+16)) f).1/\NStep L M w S (N.write M (.inl (N.given+16)) f).2.1 (N.write M (.inl (N.given+16)) f).2.2 I):=fun g =>
  Ok B L N M g (.inl (N.given+16)) _ w h i (show _=_ by simp) (show N.given+16<9223372036854775808 by omega) (fun k hb=>by obtain⟨v,J,e⟩:=hb;simp at J;subst J;exact absurd e (by simp[Value.ownBlock])) j G hh
 have a1:IntKind.i64.wrap ((N.given:Int)+16)=(N.given:Int)+16:=by rw[Hg];omega
 have a0:w.cell? ⟨L.nb,3,none⟩=some (.int .i64 N.given):=h.Bi.cell 3;clear h i j G hh hg;go_enter Tryz.func162,Tryz.ntmps162;go_wp2_with fail;refine(HW.out _).mono ?_;rintro e w1 ⟨f,v1,m,rfl,V,p,a⟩;have d:∀ n,(N.write M (.inl (N.given+16)) f).1=some n->N.BG M f=(some n,(N.write M (.inl (N.given+16)) f).2.1,(N.write M (.inl (N.given+16)) f).2.2):=by intro n h;unfold NM.BG;rw[h]
 have c:(N.write M (.inl (N.given+16)) f).1=none->N.BG M f=NM.sync (N.write M (.inl (N.given+16)) f).2.1 (N.write M (.inl (N.given+16)) f).2.2:=by intro h;unfold NM.BG;rw[h]
 generalize C:(N.write M (.inl (N.given+16)) f).2.1=o at a d c;generalize A:(N.write M (.inl (N.given+16)) f).2.2=s at a d c;have r:=Z a;have Y:=Z V;have l:=a.same.nb;cases i:(N.write M (.inl (N.given+16)) f).1 with
 | some n =>
  rw[i] at p;have q:=Z (d n i);have HE:=Z p;obtain⟨k,G⟩:=p;obtain⟨t,b,rfl⟩:=G.form;clear i d c G a C A V l
  go_wp2
  go_ret;refine⟨f,.iface t (.pointer (some ⟨b,0,none⟩)),m,rfl,Y.out,?_,?_⟩
  .rw[q.out];exact HE.out
  .rw[q.out];exact r.out
 | none =>
  rw[i] at p;have q:=Z (c i);have J:v1=.nilIface:=p;subst J;have hc:w1.cell? ⟨L.nb,1,none⟩=some (.pointer (some ⟨m.jb,0,none⟩)):=by rw[<- l];exact a.Bt.Bi.cell 1
  have D:(NM.sync o s)=((o.J.BE s).1,{o with J:=(o.J.BE s).2.1},(o.J.BE s).2.2):=rfl;have X:=Z D;clear i d c p a C A V D l;go_wp2_with fail;refine(Ve m.jb m.db o.J m.LD s _ r.out.Bt.log r.out.Bt.BM).mono ?_;rintro e w3 ⟨v3,T,rfl,u,y⟩;have R:=Z (r.out.trans (NStep.Aj r.out.Bt y));have K:=Z u;clear y u;go_wp2_with fail;refine(zz _ _ _ w3 K.out).mono ?_;rintro e w4 ⟨v4,rfl,x,E⟩;have O:=Z x;have Q:=Z (R.out.Bn E);clear x E
  go_wp2
  go_ret;refine⟨f,v4,{m with LD:=T},rfl,Y.out,?_,?_⟩
  .rw[q.out,X.out];exact O.out
  .rw[q.out,X.out];exact Q.out
def NM.next(N:NM)(M:DM)(f:Nat):Option Int × Nat × NM × DM :=
 if N.given<N.S.Bh then(none,N.given+1,{N with given:=N.given+1},M) else
 match (N.BG M f).1 with
 | some n=>(some n,0,(N.BG M f).2.1,(N.BG M f).2.2)
 | none=>(none,N.given+1,{(N.BG M f).2.1 with given:=N.given+1},(N.BG M f).2.2)
theorem Om(N:NM)(M:DM)(f:Nat):(N.BG M f).2.1.given=N.given:=by
 unfold NM.BG;split <;> rfl
theorem Env.nil{B:Nat}{L:NL}{M:DM}{w w':World}(h:Env B L M w)(f:Fr Nil w w'):Env B L M w' :=
 ⟨h.tab.fr (S:=Nil) h.le f (fun _ h=>absurd h id),Im h.le f.size,h.BF⟩
theorem YV.mono{J:JM}{M:DM}{H a n:Nat}(h:YV J M H n)(c:H<=a):YV J M a n :=
 ⟨h.bytes,h.size,h.last,h.Bl,h.dir,fun f e=>h.room f (Im c e)⟩
theorem M8(B:Nat)(L:NL)(N:NM)(M:DM)(w:World)(h:NRep w L N M)(j:Env B L M w)
 (s:YV N.J M w.heap.size (zj (.inl (N.given+16))).size)(T:N.S.keys.length<1099511627776)(hh:N.S.hints.length<1000000)(hg:N.given<1000000000000) :
 Calls Tryz.prog 123 #[.pointer (some ⟨L.nb,0,none⟩)] w fun e E =>
  ∃ f v L',e=.returned (.tuple #[.int .i64 (N.next M f).2.1,v])/\w.heap.size<=f/\ERep E v (N.next M f).1/\NStep L M w L' (N.next M f).2.2.1 (N.next M f).2.2.2 E:=by
 have HW:Hid (∀ o,Fr Nil w o->Calls Tryz.prog 162 #[.pointer (some ⟨L.nb,0,none⟩)] o fun e E =>
  ∃ f v L',e=.returned v/\o.heap.size<=f/\ERep E v (N.BG M f).1/\NStep L M o L' (N.BG M f).2.1 (N.BG M f).2.2 E) :=
  fun o f=>Ol B L N M o (h.nil f) (j.nil f) (s.mono f.size) T hh hg
 have X:∀ n,Calls Tryz.prog 98 #[.pointer (some ⟨L.sb,0,none⟩)] (w.drewN n) fun e E=>e=.returned (.int .i64 N.S.Bh)/\E=w.drewN n:=fun n=>Ud L.sb L.LS N.S (w.drewN n) (h.held.nil zd);have K:=Z X;have HH:=Z h;have hz:=h.Bi.frozen;have a0:w.cell? ⟨L.nb,3,none⟩=some (.int .i64 N.given):=h.Bi.cell 3;have a3:w.cell? ⟨L.nb,2,none⟩=some (.pointer (some ⟨L.sb,0,none⟩)):=h.Bi.cell 2;have a4:IntKind.i64.wrap ((N.given:Int)+1)=(N.given:Int)+1:=by rw[Hg];omega
 have r:∀ (I:NM) (O:DM) (G:World) (q:NL),NStep L M w q I O G->∀ w2,Fr Nil G w2->∀ g:Nat,NStep L M w q {I with given:=g} O (w2.setCell ⟨q.nb,3,none⟩ (.int .i64 g)):=by
  intro I O G q hs w2 f g;have h1:=hs.Bn f;exact h1.trans (NStep.set h1.Bt (N':={I with given:=g}) 3 (.int .i64 g) (by simp[NM.cells]) rfl rfl)
 have p:=Z r;clear h j s T hh hg X r;by_cases V:N.given<N.S.Bh
 .have hp:∀ f,N.next M f=(none,N.given+1,{N with given:=N.given+1},M):=by intro f;unfold NM.next;rw[IC V]
  have i:=Z hp;have g1:decide ((N.given:Int)>=N.S.Bh)=false:=by simp;omega
  have g2:decide ((N.S.Bh:Int)<=N.given)=false:=by simp;omega
  have g3:decide (N.S.Bh<=N.given)=false:=by simp;omega
  have g4:¬N.S.Bh<=N.given:=by omega
  clear V hp;go_enter Tryz.func123,Tryz.ntmps123;go_wp2_with fail
  go_quiet ((go_at_call 98;exact ET (K.out _)))
  go_wp2_with fail;have c:=p.out N M (w.drewN nq) L (NStep.nil HH.out zd) (w.drewN nq) (U _ _) (N.given+1);have a:((N.given+1:Nat):Int)=(N.given:Int)+1:=by simp
  rw[a] at c;go_ret2;refine⟨w.heap.size,.nilIface,L,by rw[i.out,a];rfl,Io _,by rw[i.out];rfl,?_⟩;rw[i.out];exact c
 .have hp1:∀ f n,(N.BG M f).1=some n->N.next M f=(some n,0,(N.BG M f).2.1,(N.BG M f).2.2):=by intro f n h;unfold NM.next;rw[It V,h]
  have D:∀ f,(N.BG M f).1=none->N.next M f=(none,N.given+1,{(N.BG M f).2.1 with given:=N.given+1},(N.BG M f).2.2):=by intro f h;unfold NM.next;rw[It V,h]
  have g1:decide ((N.given:Int)>=N.S.Bh)=true:=by simp;omega
  have g2:decide ((N.S.Bh:Int)<=N.given)=true:=by simp;omega
  have g3:decide (N.S.Bh<=N.given)=true:=by simp;omega
  have g4:N.S.Bh<=N.given:=by omega
  clear V;go_enter Tryz.func123,Tryz.ntmps123;go_wp2_with fail
  go_quiet ((go_at_call 98;exact ET (K.out _)))
  go_wp2_with fail;generalize hq:w.drewN nq=o;have S:Fr Nil w o:=by rw[<- hq];exact zd
  have x:=Z S;clear hq S;refine(HW.out o x.out).mono ?_;rintro e G ⟨f,v1,q,rfl,hf,J,d⟩;have Y:=Z ((NStep.nil HH.out x.out).trans d);have HF:=Z (Im x.out.size hf);have A:=Z (hp1 f);have y:=Z (D f);have m:=d.same.nb;have l:=Om N M f;generalize R:(N.BG M f).2.1=I at d A y Y l;generalize Q:(N.BG M f).2.2=O at d A y Y;cases j:(N.BG M f).1 with
  | some n =>
   rw[j] at J;have i:=Z (A.out n j);have HE:=Z J;obtain⟨k,T⟩:=J;obtain⟨t,b,rfl⟩:=T.form;clear j hp1 D T d R Q hf m l
   go_wp2
   go_ret2;refine⟨f,.iface t (.pointer (some ⟨b,0,none⟩)),q,by rw[i.out];rfl,HF.out,?_,?_⟩
   .rw[i.out];exact HE.out
   .rw[i.out];exact Y.out
  | none =>
   rw[j] at J;have i:=Z (y.out j);have hv:v1=.nilIface:=J;subst hv;have hc:=d.Bt.Bi.cell 3;have a1:=d.Bt.Bi.frozen;rw[m] at hc a1;have a2:G.cell? ⟨L.nb,3,none⟩=some (.int .i64 N.given):=by rw[hc,<- l];rfl
   have c:=p.out I O G q Y.out G (U _ _) (N.given+1);have a:((N.given+1:Nat):Int)=(N.given:Int)+1:=by simp
   rw[a,m] at c;have C:=Z c;have u:=Z a;clear j hp1 D d R Q hf m l hc J c a0 a;go_wp2_with fail;go_ret2;refine⟨f,.nilIface,q,by rw[i.out,u.out];rfl,HF.out,by rw[i.out];rfl,?_⟩;rw[i.out];exact C.out
def zF(k:ByteArray):Bool:=decide (0<k.size/\k.size<=32)
theorem Vg(k:ByteArray):k.size=k.toList.length:=by
 rw[DB,GF];rfl
theorem XW(k:ByteArray)(w:World):Calls Tryz.prog 69 #[.string k] w fun e g=>e=.returned (.bool (zF k))/\g=w:=by
 have a:=Vg k;by_cases d:k.toList=[]
 .have b:zF k=false:=by rw[d] at a;simp at a;simp[zF,a]
  have c:=Z b;clear a b;go_enter Tryz.func69,Tryz.ntmps69
  go_wp2
  go_ret;exact⟨by rw[c.out];rfl,rfl⟩
 .have hs:0<k.size:=by rw[a];exact DD.mpr d
  have f:k.toList.isEmpty=false:=by simpa using d
  have b:zF k=(!k.toList.isEmpty&&decide ((k.size:Int)<=32)):=by rw[f];simp only[zF,hs,true_and,Bool.not_false,Cf];congr 1;exact propext (by omega)
  have c:=Z b;clear a hs f b;go_enter Tryz.func69,Tryz.ntmps69
  go_wp2
  go_ret;exact⟨by rw[c.out];rfl,rfl⟩
def zO(n:Int):Bool:=decide (0<=n/\n<4)
theorem WN(n:Int)(w:World):Calls Tryz.prog 131 #[.int .i64 n] w fun e b=>e=.returned (.bool (zO n))/\b=w:=by
 go_enter Tryz.func131,Tryz.ntmps131;by_cases a:0<=n
 .by_cases h1:n<4
  .go_wp2
   go_ret;exact⟨by simp[zO,a,h1],rfl⟩
  .go_wp2
   go_ret;exact⟨by simp[zO,a,h1],rfl⟩
 .go_wp2
  go_ret;exact⟨by rw[zO,Gu (by omega)];rfl,rfl⟩
theorem VV(L:NL)(N:NM)(M:DM)(n:Int)(w:World)(h:NRep w L N M):Calls Tryz.prog 83 #[.pointer (some ⟨L.nb,0,none⟩),.int .i64 n] w fun e d=>e=.returned (.bool (zO n&&decide (n≠N.self)))/\d=w:=by
 have f:w.cell? ⟨L.nb,0,none⟩=some (.int .i64 N.self):=h.Bi.cell 0;clear h;go_enter Tryz.func83,Tryz.ntmps83;cases h0:zO n with
 | false =>
  have a:=Z (WN n w);rw[h0] at a;clear h0
  go_wp2_with (refine a.out.mono ?_;rintro e c ⟨rfl,rfl⟩)
  go_ret;exact⟨rfl,rfl⟩
 | true =>
  have a:=Z (WN n w);rw[h0] at a;clear h0;by_cases b:n=N.self
  .subst b
   go_wp2_with (refine a.out.mono ?_;rintro e c ⟨rfl,rfl⟩)
   go_ret;exact⟨by simp,rfl⟩
  .have h2:(n==(N.self:Int))=false:=by simpa using b
   go_wp2_with (refine a.out.mono ?_;rintro e c ⟨rfl,rfl⟩)
   go_ret;exact⟨by simp[b],rfl⟩
theorem RA(n:Value)(w:World):Calls Tryz.prog 82 #[n] w fun e a=>e=.returned (.slice none 0 0)/\a=w:=by
 go_enter Tryz.func82,Tryz.ntmps82
 go_wp2
 go_ret;exact⟨rfl,rfl⟩
theorem Si(p:Value)(w:World):Calls Tryz.prog 79 #[p,.nilIface] w fun e a=>e=.returned (.int .i64 0)/\a=w:=by
 go_enter Tryz.func79,Tryz.ntmps79
 go_wp2
 go_ret;exact⟨rfl,rfl⟩
theorem ZE(s:ByteArray)(w:World)(h:s.size<=1000000000) :
 Calls Tryz.prog 74 #[.string s] w fun e b=>e=.returned (.string s)/\Fr Nil w b:=by
 have c:Hid (Calls Tryz.prog 125 #[.string s] w fun e b=>e=.returned (.string s)/\Below w.heap.size w b):=AnyPu.stringslite_Clone Tryz.ye s w (by omega);clear h;go_enter Tryz.func74,Tryz.ntmps74
 go_wp2_with (refine c.out.mono ?_;rintro e f ⟨rfl,a⟩)
 go_ret;exact⟨rfl,a.os,a.tape,a.output,a.size,fun k d _=>a.block k d⟩
def Ver.ov(v:Ver)(n:Int):Int:=if n=0 then v.o0 else if n=1 then v.o1 else if n=2 then v.o2 else v.o3
def Ver.over(v u:Ver):Bool:=decide (u.seq<=v.ov u.node)
def Zt(n:Int):Prop:=0<=n/\n<4
theorem V6(v u:Ver)(c:Zt u.node)(w:World) :
 Calls Tryz.prog 174 #[.agg v.cells.toArray,.agg u.cells.toArray] w fun e p=>e=.returned (.bool (v.over u))/\Fr Nil w p:=by
 obtain⟨n,s,f,h,i,j,x,g⟩:=v;obtain⟨node,d,k,l,m,o,y,a⟩:=u;unfold Zt at c;simp only at c;have b:node=0\/node=1\/node=2\/node=3:=by omega
 have q:Fr Nil w ((w.alloc (.cells #[.int .i64 n,.int .i64 s,.int .i64 f,.int .i64 h,.int .i64 i,.int .i64 j,.string x,.bool g] 37)).alloc (.cells #[.int .i64 node,.int .i64 d,.int .i64 k,.int .i64 l,.int .i64 m,.int .i64 o,.string y,.bool a] 37)):=((U _ _).alloc _).alloc _;simp only[Ver.cells];clear c;rcases b with rfl|rfl|rfl|rfl
 all_goals
  go_enter Tryz.func174,Tryz.ntmps174;go_wp2_with fail
  go_quiet (fail)
  go_wp2
  go_ret;refine⟨?_,zd⟩;simp[Ver.over,Ver.ov]
theorem Ii(a b c d:Int)(w:World):(binOp .eql 34 (.agg #[.int .i64 a,.int .i64 b]) (.agg #[.int .i64 c,.int .i64 d])).run Tryz.prog w=.ok (.bool (a==c&&b==d)) w:=by
 have u3:=Eh;have i:=Tryz.isAgg3;have j:=Tryz.sizeOf3;have g:Tryz.prog.underlying 34=some (.struct (Tryz.prog.fieldsOf 34)):=by kernel_rfl
 have h:Tryz.prog.stoodInHeld 34=false:=by kernel_rfl
 rw[run_eql_struct,show(10000:Nat)=9999+1 from rfl,run_equalIn_agg w 9999 34 _ _ g h];simp only[Program.fieldsOf,DS]
 go_simp
 by_cases e:a=c <;> by_cases f:b=d <;> simp[e,f]
def Ver.BQ(v w:Ver):Bool:=(w.node==v.node&&w.seq==v.seq)||w.over v
theorem QP(v u:Ver)(o:Zt v.node)(b:Nat)(w:World)(j:Blk w b v.cells 37) :
 Calls Tryz.prog 176 #[.agg u.cells.toArray,.pointer (some ⟨b,0,none⟩)] w fun e q=>e=.returned (.bool (v.BQ u))/\Fr Nil w q:=by
 have m:=Ii u.node u.seq v.node v.seq;have a:=V6 u v o;have p:∀ (d:Obj) k,(w.alloc d).cell? ⟨b,k,none⟩=v.cells[k]?:=fun d k=>(j.alloc d).cell k;have l:Fr Nil w (w.alloc (.cells u.cells.toArray 37)):=(U _ _).alloc _;have h:=Z a;simp only[Ver.BQ];generalize u.over v=ov at h |-;obtain⟨n,s,r,t,A,B,x,g⟩:=v;obtain⟨node,f,C,D,E,G,y,i⟩:=u;simp only[Ver.cells] at *;clear j a o;cases he:(node==n&&f==s) with
 | true =>
  rw[he] at m;clear he;go_enter Tryz.func176,Tryz.ntmps176
  go_wp2
  go_ret;exact⟨rfl,l⟩
 | false =>
  rw[he] at m;clear he;go_enter Tryz.func176,Tryz.ntmps176
  go_wp2_with (refine(h.out _).mono ?_;rintro e I ⟨rfl,c⟩)
  go_ret;exact⟨rfl,l.trans c⟩
theorem VRow.cells{w:World}{g n cap:Nat}{l:List Ver}(h:w.ownsRow 0 37 8 (.slice (some ⟨g,0,none⟩) n cap) n (zV l))(i:Nat)(e:i<l.length)(j:Nat)(c:j<8) :
 w.cell? ⟨g,i*8+j,none⟩=l[i].cells[j]?:=by
 have a:j<l[i].cells.length:=by rw[Ver.BX];exact c
 rw[own_cell? h (i*8+j) _ ((U6 l i j e c).trans (IB a)),IB a]
theorem TA(Q:Value)(l:List Ver)(v:Ver)(Y:Zt v.node)(b:Nat)(w:World)(s:VRow w Q l)(O:Blk w b v.cells 37) :
 Calls Tryz.prog 213 #[Q,.func (.func 176) #[] #[.pointer (some ⟨b,0,none⟩)]] w fun e B =>
  ∃ r:Int,e=.returned (.int .i64 r)/\decide (0<=r)=l.any v.BQ/\Fr Nil w B:=by
 have X:=zG s;unfold maxLen at X;obtain⟨la,lc,rfl⟩:=zg s;have R:=Z O;have C:=Z s;clear O s;go_enter Tryz.func213,Tryz.ntmps213;go_wp2_with fail
 go_loopw [8] (fun A B=>∃ i:Nat,i<=l.length/\A=.int .i64 i/\(l.take i).any v.BQ=false/\Fr Nil w B) (fun A _=>l.length-(intOf A).toNat)
 case atStart=>exact⟨0,II _,rfl,rfl,U _ _⟩
 case round =>
  obtain⟨i,hi,rfl,a,q⟩:=hrel;by_cases k:i<l.length
  .obtain⟨g,rfl⟩:∃ g,la=some ⟨g,0,none⟩:=by
    obtain⟨g,T,h,_⟩:=zv C.out (by omega);simp at h;exact⟨g,h.1⟩
   have c:=VRow.cells (ze (S:=Nil) C.out q (fun _ _=>id)) i k;have E:=c 0 (by omega);have G:=c 1 (by omega);have I:=c 2 (by omega);have J:=c 3 (by omega);have K:=c 4 (by omega);have L:=c 5 (by omega);have M:=c 6 (by omega);have N:=c 7 (by omega);have f:(l.take (i+1)).any v.BQ=v.BQ l[i]:=by
    rw[Hc k,List.any_append,a];simp
   have d:v.BQ l[i]=true->l.any v.BQ=true:=fun h=>Do.2 ⟨l[i],Iu k,h⟩;have o:=Z (QP v l[i] Y b wr (R.out.fr q id));have u:=Z f;have t:=Z d;have D:=Z a;clear c f d a;generalize l[i]=x at E G I J K L M N o u t;obtain⟨node,y,o0,o1,o2,o3,m,p⟩:=x;simp only[Ver.cells,Fs] at E G I J K L M N o;cases hk:v.BQ ⟨node,y,o0,o1,o2,o3,m,p⟩ with
   | true =>
    rw[hk] at o t;have V:(0:Int)<=i:=by omega
    clear hk
    go_wp2_with (refine o.out.mono ?_;rintro e w1 ⟨rfl,j⟩)
    go_ret;exact⟨_,rfl,by rw[t.out (by trivial)];simp,q.trans j⟩
   | false =>
    rw[hk] at o u;clear hk
    go_wp2_with (refine o.out.mono ?_;rintro e w1 ⟨rfl,j⟩)
    exact⟨⟨i+1,by omega,by go_num,u.out,q.trans j⟩,by simp[intOf];omega⟩
  .have e:i=l.length:=by omega
   rw[e,ID] at a;have D:=Z a;clear a
   go_wp2
   go_ret;exact⟨_,rfl,by rw[D.out];simp,q⟩
theorem Uf(a:Value)(l:List Ver)(v:Ver)(i:Zt v.node)(b:Nat)(w:World)(d:VRow w a l)(c:Blk w b v.cells 37) :
 Calls Tryz.prog 175 #[a,.func (.func 176) #[] #[.pointer (some ⟨b,0,none⟩)]] w fun e j =>
  e=.returned (.bool (l.any v.BQ))/\Fr Nil w j:=by
 have f:=Z (TA a l v i b w d c);clear d c;go_enter Tryz.func175,Tryz.ntmps175
 go_wp2_with (refine f.out.mono ?_;rintro e k ⟨r,rfl,h,g⟩)
 go_ret;exact⟨by first|rfl|(show Ending.returned (.bool (decide (0<=r)))=_;rw[h]),g⟩
theorem On(b:Value)(l:List Ver)(v:Ver)(j:Zt v.node)(w:World)(i:VRow w b l) :
 Calls Tryz.prog 141 #[b,.agg v.cells.toArray] w fun e m=>e=.returned (.bool (l.any v.BQ))/\Fr Nil w m:=by
 have g:Blk (w.alloc (.cells v.cells.toArray 37)) w.heap.size v.cells 37:=Blk.new w v.cells _;have h:Fr Nil w (w.alloc (.cells v.cells.toArray 37)):=(U _ _).alloc _;have d:=Z (Uf b l v j _ _ (VRow.fr i h (fun _ _=>id)) g);clear i g;generalize l.any v.BQ=r at d |-;obtain⟨node,k,o,q,s,t,c,f⟩:=v;simp only[Ver.cells] at *;go_enter Tryz.func141,Tryz.ntmps141
 go_wp2_with (refine d.out.mono ?_;rintro e u ⟨rfl,a⟩)
 go_ret;exact⟨rfl,h.trans a⟩
theorem Ij:((Tryz.prog.info? 37).map fun i=>(i.zero.map (·.cells.size),i.size,i.bytes))=some (some 8,8,72):=by kernel_rfl
theorem YM(a b:List Ver):zV (a++b)=zV a++zV b:=by simp[zV]
theorem Ng(w:World)(v:Value)(l:List Ver)(h:VRow w v l)(x:Ver)(t:l.length<1000000)(d:World)(f:Fr Nil w d)(N:Nat)(q:Blk d N x.cells 37)(ty:TypeId) :
 ∃ b c,(Builtin.append_ #[61,61] ty #[v,.slice (some ⟨N,0,none⟩) 1 1]).run Tryz.prog d=.ok b c /\
  (VRow c b (l++[x])/\Fr (fun k=>v.ownBlock=some k) w c/\(∀ k,b.ownBlock=some k->v.ownBlock=some k\/w.heap.size<=k)):=by
 have r:=ze h f (fun _ _=>id);obtain⟨b,c,s,o,p,a⟩:=zt (P:=Tryz.prog) 61 ty 37 8 72 GQ Ij (by omega) v l.length _ r ⟨N,0,none⟩ 1 1 x.cells rfl
  (fun j u m=>by rw[Hp,Hw,q.cell];exact m) (fun u m=>Wc [x] u (by simpa [zV] using m)) (by unfold maxLen;omega) (by omega)
 refine⟨b,c,s,?_,(f.mono (fun _ _ e=>absurd e id)).trans' ((Fr.BI p).mono (fun i _ h=>h)) (fun i _ h=>h),fun k g=>?_⟩
 .unfold VRow
  rw[Il,YM];have:zV [x]=x.cells:=by simp[zV]
  rw[this];exact o
 .rcases a with a|a
  .exact .inl (by rw[<- a];exact g)
  .rw[a] at g;simp at g;have:=f.size;exact .inr (by omega)
def zC(l:List Ver)(v:Ver):List Ver:=l.filter fun u=>!v.over u
theorem Ma(lv:Value)(l:List Ver)(v:Ver)(r:∀ u∈l,Zt u.node)(a9:l.length<1000000)(w:World)(hl:VRow w lv l) :
 Calls Tryz.prog 140 #[lv,.agg v.cells.toArray] w fun e E=>∃ v',e=.returned v'/\VRow E v' (zC l v)/\Fr Nil w E/\(∀ k,v'.ownBlock=some k->w.heap.size<=k):=by
 have hn:=zG hl;unfold maxLen at hn;obtain⟨la,lc,rfl⟩:=zg hl;have hb:Blk (w.alloc (.cells v.cells.toArray 37)) w.heap.size v.cells 37:=Blk.new w v.cells _;have y:Fr Nil w (w.alloc (.cells v.cells.toArray 37)):=(U _ _).alloc _;have HL:=Z hl;have I:=Z r;clear hl r;have a2:Hid (∀ (x:Ver) (W:World),Zt x.node->Calls Tryz.prog 174 #[.agg v.cells.toArray,.agg x.cells.toArray] W fun e E=>e=.returned (.bool (v.over x))/\Fr Nil W E):=fun x W hx=>V6 v x hx W;have G:Hid (∀ i (hi:i<l.length),zC (l.take (i+1)) v=zC (l.take i) v++if v.over l[i]=true then [] else [l[i]]):=by
  intro i hi;unfold zC;rw[Hc hi,List.filter_append]
  congr 1
  cases hv:v.over l[i] <;> simp[hv]
 have V:Hid (∀ i,(zC (l.take i) v).length<1000000):=by
  intro i;have h1:=List.length_filter_le (fun u=>!v.over u) (l.take i);have h2:=List.length_take_le' i l;unfold zC;omega
 obtain⟨node,d,K,L,M,O,a,b⟩:=v;simp only[Ver.cells] at *;go_enter Tryz.func140,Tryz.ntmps140;go_wp2_with fail;obtain⟨N,hN⟩:∃ N,w.heap.size=N:=⟨_,rfl⟩;obtain⟨w0,a1⟩:∃ w0,w.alloc (.cells #[.int .i64 node,.int .i64 d,.int .i64 K,.int .i64 L,.int .i64 M,.int .i64 O,.string a,.bool b] 37)=w0:=⟨_,rfl⟩;rw[hN] at hb |-;rw[a1] at hb y |-;clear a1;have a5:=hb.lt
 go_loopw [5,10] (fun t5 Q E=>∃ i:Nat,i<=l.length/\Q=.int .i64 i/\VRow E t5 (zC (l.take i) ⟨node,d,K,L,M,O,a,b⟩)/\Fr Nil w0 E/\(∀ k,t5.ownBlock=some k->w0.heap.size<=k)) (fun _ Q _=>l.length-(intOf Q).toNat)
 case atStart=>exact⟨0,II _,rfl,IX w0 0 _ _,U _ _,fun k hk=>by simp[Value.ownBlock] at hk⟩
 case round =>
  obtain⟨i,hi,rfl,o,R,f⟩:=hrel;by_cases J:i<l.length
  .obtain⟨g,rfl⟩:∃ g,la=some ⟨g,0,none⟩:=by
    obtain⟨g,a6,h,_⟩:=zv HL.out (by omega);simp at h;exact⟨g,h.1⟩
   have t:=VRow.cells (ze (S:=Nil) HL.out (y.trans R) (fun _ _=>id)) i J;have g0:=t 0 (by omega);have g1:=t 1 (by omega);have g2:=t 2 (by omega);have g3:=t 3 (by omega);have g4:=t 4 (by omega);have g5:=t 5 (by omega);have g6:=t 6 (by omega);have g7:=t 7 (by omega);have hx:=I.out l[i] (Iu J);have a0:=G.out i J;have a8:∀ (ob:Obj) k,(wr.alloc ob).cell? ⟨N,k,none⟩=[.int .i64 node,.int .i64 d,.int .i64 K,.int .i64 L,.int .i64 M,.int .i64 O,.string a,.bool b][k]?:=fun ob k=>((hb.fr R id).alloc ob).cell k;have q:=Z a0;have c:=Z f;have s:=Z o;have HX:=Z hx;clear t a0 f hx;generalize l[i]=x at g0 g1 g2 g3 g4 g5 g6 g7 q HX;have X:=Z (a2.out x (wr.alloc (.cells x.cells.toArray 37)) HX.out);obtain⟨xn,xs,x0,x1,x2,x3,xv,xg⟩:=x;simp only[Ver.cells,Fs] at g0 g1 g2 g3 g4 g5 g6 g7 X;obtain⟨ta,tc,rfl⟩:=zg o;clear o;cases hov:Ver.over ⟨node,d,K,L,M,O,a,b⟩ ⟨xn,xs,x0,x1,x2,x3,xv,xg⟩ with
   | true =>
    rw[hov] at X q;clear hov
    go_wp2_with (refine X.out.mono ?_;rintro e T ⟨rfl,A⟩)
    have B:Fr Nil wr T:=((U Nil wr).alloc _).trans A;refine⟨⟨i+1,by omega,by go_num,?_,R.trans B,c.out⟩,by simp[intOf];omega⟩;rw[q.out]
    simpa using VRow.fr s.out B (fun _ _=>id)
   | false =>
    rw[hov] at X q;clear hov;go_wp2_with fail;refine X.out.mono ?_;rintro e T ⟨rfl,A⟩;have B:Fr Nil wr T:=((U Nil wr).alloc _).trans A;have a7:=((Blk.new wr [.int .i64 xn,.int .i64 xs,.int .i64 x0,.int .i64 x1,.int .i64 x2,.int .i64 x3,.string xv,.bool xg] 37).fr A id).cell;have D:=fun ty=>Ng wr _ _ s.out ⟨xn,xs,x0,x1,x2,x3,xv,xg⟩ (V.out i) (T.alloc (.cells #[.int .i64 xn,.int .i64 xs,.int .i64 x0,.int .i64 x1,.int .i64 x2,.int .i64 x3,.string xv,.bool xg] 37)) (B.alloc _) T.heap.size (Blk.new T [.int .i64 xn,.int .i64 xs,.int .i64 x0,.int .i64 x1,.int .i64 x2,.int .i64 x3,.string xv,.bool xg] _) ty;obtain⟨m,hm⟩:∃ m,(zC (l.take i) ⟨node,d,K,L,M,O,a,b⟩).length=m:=⟨_,rfl⟩;rw[hm] at D c |-;have HM:=Z hm;clear hm
    go_wp2_with (at_builtin;go_must (refine zJ rfl _ _ _ _ rfl _ _ (by rfl) (by rfl) (D _) ?_);rintro v' E ⟨a4,Y,a3⟩)
    refine⟨⟨i+1,by omega,by go_num,?_,?_,fun k hk=>?_⟩,by simp[intOf];omega⟩
    .rw[q.out]
     simpa using a4
    .exact R.trans' Y (fun j hj h=>absurd (c.out j h) (by omega))
    .rcases a3 k hk with h|h
     .exact c.out k h
     .have:=R.size;omega
  .have e:i=l.length:=by omega
   have C:zC (l.take i) ⟨node,d,K,L,M,O,a,b⟩=zC l ⟨node,d,K,L,M,O,a,b⟩:=by rw[e,ID]
   rw[C] at o;have s:=Z o;have c:=Z f;clear o C f
   go_wp2
   go_ret;exact⟨_,rfl,s.out,y.trans R,fun k hk=>Im y.size (c.out k hk)⟩
def grV(l:List Ver)(n:Int):Int:=l.foldl (fun m u=>if u.node=n then max m u.seq else m) 0
theorem KB(l:List Ver)(i:Nat)(h:i<l.length)(n:Int):grV (l.take (i+1)) n=if l[i].node=n then max (grV (l.take i) n) l[i].seq else grV (l.take i) n:=by
 unfold grV;rw[Hc h,Hm]
 rfl
theorem Sj(lv:Value)(l:List Ver)(B:∀ u∈l,Zt u.node)(w:World)(hl:VRow w lv l) :
 Calls Tryz.prog 72 #[lv] w fun e w'=>e=.returned (.agg #[.int .i64 (grV l 0),.int .i64 (grV l 1),.int .i64 (grV l 2),.int .i64 (grV l 3)])/\Fr Nil w w':=by
 have hn:=zG hl;unfold maxLen at hn;obtain⟨la,lc,rfl⟩:=zg hl;have HL:=Z hl;have G:=Z B;clear hl B;go_enter Tryz.func72,Tryz.ntmps72;go_wp2_with fail;obtain⟨R,hR⟩:∃ R,w.heap.size=R:=⟨_,rfl⟩;have I:Blk ((w.alloc (.cells #[.int .i64 0,.int .i64 0,.int .i64 0,.int .i64 0] 35)).alloc (.cells #[.int .i64 0,.int .i64 0,.int .i64 0,.int .i64 0] 35)) (w.heap.size+1) [.int .i64 0,.int .i64 0,.int .i64 0,.int .i64 0] 35:=by
  have:=Blk.new (w.alloc (.cells #[.int .i64 0,.int .i64 0,.int .i64 0,.int .i64 0] 35)) [.int .i64 0,.int .i64 0,.int .i64 0,.int .i64 0] 35
  simpa using this
 have L:Blk ((w.alloc (.cells #[.int .i64 0,.int .i64 0,.int .i64 0,.int .i64 0] 35)).alloc (.cells #[.int .i64 0,.int .i64 0,.int .i64 0,.int .i64 0] 35)) w.heap.size [.int .i64 0,.int .i64 0,.int .i64 0,.int .i64 0] 35:=(Blk.new w [.int .i64 0,.int .i64 0,.int .i64 0,.int .i64 0] _).alloc _;have a0:Fr Nil w ((w.alloc (.cells #[.int .i64 0,.int .i64 0,.int .i64 0,.int .i64 0] 35)).alloc (.cells #[.int .i64 0,.int .i64 0,.int .i64 0,.int .i64 0] 35)):=((U _ _).alloc _).alloc _;obtain⟨w0,a3⟩:∃ w0,(w.alloc (.cells #[.int .i64 0,.int .i64 0,.int .i64 0,.int .i64 0] 35)).alloc (.cells #[.int .i64 0,.int .i64 0,.int .i64 0,.int .i64 0] 35)=w0:=⟨_,rfl⟩;rw[a3] at I L a0 |-;have a8:w.heap.size<=R:=by omega
 rw[hR] at I L |-;clear a3 hR
 go_loopw [8] (fun t8 w'=>∃ i:Nat,i<=l.length/\t8=.int .i64 i/\Blk w' (R+1) [.int .i64 (grV (l.take i) 0),.int .i64 (grV (l.take i) 1),.int .i64 (grV (l.take i) 2),.int .i64 (grV (l.take i) 3)] 35/\Fr (fun k=>k=R+1) w0 w') (fun t8 _=>l.length-(intOf t8).toNat)
 case atStart=>exact⟨0,II _,rfl,I,U _ _⟩
 case round =>
  obtain⟨i,hi,rfl,a,N⟩:=hrel;have a2:Fr Nil w wr:=a0.trans' (N.mono (fun _ _ h=>h)) (fun k hk h=>by omega);by_cases K:i<l.length
  .obtain⟨g,rfl⟩:∃ g,la=some ⟨g,0,none⟩:=by
    obtain⟨g,cap,h,_⟩:=zv HL.out (by omega);simp at h;exact⟨g,h.1⟩
   have D:=VRow.cells (ze (S:=Nil) HL.out a2 (fun _ _=>id)) i K;have g0:=D 0 (by omega);have g1:=D 1 (by omega);have g2:=D 2 (by omega);have g3:=D 3 (by omega);have g4:=D 4 (by omega);have g5:=D 5 (by omega);have g6:=D 6 (by omega);have g7:=D 7 (by omega);have hx:=G.out l[i] (Iu K);have b:=KB l i K;have p:=Z b;have HX:=Z hx;clear D b hx;generalize l[i]=x at g0 g1 g2 g3 g4 g5 g6 g7 p HX;obtain⟨node,b1,x0,x1,x2,x3,xv,xg⟩:=x;simp only[Ver.cells,Fs] at g0 g1 g2 g3 g4 g5 g6 g7;have a6:node=0\/node=1\/node=2\/node=3:=by have:=HX.out;unfold Zt at this;simp only at this;omega
   generalize r:grV (l.take i) 0=O at a;generalize s:grV (l.take i) 1=Q at a;generalize t:grV (l.take i) 2=T at a;generalize y:grV (l.take i) 3=V at a;have d:=Z r;have f:=Z s;have j:=Z t;have o:=Z y;clear r s t y;have a9:∀ (M:Obj) k,(wr.alloc M).cell? ⟨R+1,k,none⟩=[.int .i64 O,.int .i64 Q,.int .i64 T,.int .i64 V][k]?:=fun M k=>(a.alloc M).cell k;have b0:∀ (M:Obj) k,(wr.alloc M).frozen? ⟨R+1,k,none⟩=false:=fun M k=>(a.alloc M).frozen k;have HB:=Z a;clear a;have E:∀ (m q:Int),max m q=if m<q then q else m:=by intro m q;simp only[Int.max_def];split <;> split <;> omega
   have c:=Z E;clear E;rcases a6 with rfl|rfl|rfl|rfl
   .go_wp2_with fail
    go_region
    go_wp2
    refine⟨⟨i+1,by omega,by go_num,?_,?_⟩,by simp[intOf];omega⟩
    .have b:=p.out
     simp only[b,d.out,f.out,j.out,o.out,c.out];exact((HB.out.alloc _).set 0 _).drew
    .exact(Fr.set (S:=fun k=>k=R+1) (N.alloc _) (fun _=>rfl) _).drew
   .go_wp2_with fail
    go_region
    go_wp2
    refine⟨⟨i+1,by omega,by go_num,?_,?_⟩,by simp[intOf];omega⟩
    .have b:=p.out
     simp only[b,d.out,f.out,j.out,o.out,c.out];exact((HB.out.alloc _).set 1 _).drew
    .exact(Fr.set (S:=fun k=>k=R+1) (N.alloc _) (fun _=>rfl) _).drew
   .go_wp2_with fail
    go_region
    go_wp2
    refine⟨⟨i+1,by omega,by go_num,?_,?_⟩,by simp[intOf];omega⟩
    .have b:=p.out
     simp only[b,d.out,f.out,j.out,o.out,c.out];exact((HB.out.alloc _).set 2 _).drew
    .exact(Fr.set (S:=fun k=>k=R+1) (N.alloc _) (fun _=>rfl) _).drew
   .go_wp2_with fail
    go_region
    go_wp2
    refine⟨⟨i+1,by omega,by go_num,?_,?_⟩,by simp[intOf];omega⟩
    .have b:=p.out
     simp only[b,d.out,f.out,j.out,o.out,c.out];exact((HB.out.alloc _).set 3 _).drew
    .exact(Fr.set (S:=fun k=>k=R+1) (N.alloc _) (fun _=>rfl) _).drew
  .have e:i=l.length:=by omega
   rw[e,ID] at a;have C:=L.fr N (fun e=>by omega);have A:=a.cell;have a5:=C.cell;have a7:=C.frozen;generalize r:grV l 0=O at A;generalize s:grV l 1=Q at A;generalize t:grV l 2=T at A;generalize y:grV l 3=V at A;have d:=Z r;have f:=Z s;have j:=Z t;have o:=Z y;have HF:=Z a2;have a4:=Z C;clear r s t y a C
   go_wp2
   have Y:=(((a4.out.set 0 (.int .i64 O)).set 1 (.int .i64 Q)).set 2 (.int .i64 T)).set 3 (.int .i64 V);have a1:Fr Nil w ((((wr.setCell ⟨R,0,none⟩ (.int .i64 O)).setCell ⟨R,1,none⟩ (.int .i64 Q)).setCell ⟨R,2,none⟩ (.int .i64 T)).setCell ⟨R,3,none⟩ (.int .i64 V)) :=
    Fr.set (Fr.set (Fr.set (Fr.set HF.out (fun h=>by simp only at h;omega) _) (fun h=>by simp only at h;omega) _) (fun h=>by simp only at h;omega) _) (fun h=>by simp only at h;omega) _
   have X:=Z a1;have J:=Y.cell;simp only[Hd,Hf] at J;clear A a5 a7 a1 Y;generalize (((wr.setCell ⟨R,0,none⟩ (.int .i64 O)).setCell ⟨R,1,none⟩ (.int .i64 Q)).setCell ⟨R,2,none⟩ (.int .i64 T)).setCell ⟨R,3,none⟩ (.int .i64 V)=w4 at J X |-;refine EK (v:=.agg #[.int .i64 O,.int .i64 Q,.int .i64 T,.int .i64 V]) (by simp[results,Tryz.results72,go_sem,J,Tryz.isAgg35,Tryz.sizeOf35]) rfl ⟨?_,X.out⟩;rw[d.out,f.out,j.out,o.out]
end Go.Proofs.YtkhnggkkiefcdaaGreatDoor
