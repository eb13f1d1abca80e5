/- larder: joined texts -/
import Derived.Test.YtkhnggkkiefcdaaGreatDoorUNAA
import Derived.Test.YtkhnggkkiefcdaaGreatDoorUNAB
import Derived.Test.YtkhnggkkiefcdaaGreatDoorUNAC
import Derived.Test.YtkhnggkkiefcdaaGreatDoorUNAD
import Derived.Test.YtkhnggkkiefcdaaGreatDoorChecked
import Derived.Deep.RegionHeld3
import Derived.Shelf.Strconv.Itoa3
import Derived.Shelf.Pu.Clone
import Derived.Ground.NamesProg
import Derived.Ground.MpProg
import Derived.Test.YtkhnggkkiefcdaaGreatDoorProg
import Derived.Test.YtkhnggkkiefcdaaGreatDoorRows
import Derived.Lib.ItoaLen
namespace Go.Proofs.YtkhnggkkiefcdaaGreatDoor
open Go.RowKit
set_option maxRecDepth 100000
set_option maxHeartbeats 8000000
abbrev zy (l:List (ByteArray × Value)):List ByteArray:=l.map Prod.fst
structure Wm(w:World)(v:Value)(l:List (ByteArray × Value)):Prop where
 own:w.ownsRow 0 239 2 v l.length (Ze l)
 Aa:Asc zh (zy l)
 one:∀ e∈l,e.2.oneCell'=true
theorem Wm.fr{w w':World}{v:Value}{l:List (ByteArray × Value)}{S:Nat->Prop}(h:Wm w v l)(f:Fr S w w')(a:∀ k,v.ownBlock=some k->¬S k):Wm w' v l :=
 ⟨ze h.own f a,h.Aa,h.one⟩
theorem SO{l:List (ByteArray × Value)}(h:∀ e∈l,e.2.oneCell'=true):∀ u∈Ze l,u.oneCell'=true:=by
 intro u a;simp only[Ze,EI] at a;obtain⟨e,b,a⟩:=a;simp at a;rcases a with rfl|rfl
 .rfl
 .exact h e b
theorem WJ(v:Value)(l:List (ByteArray × Value))(s:ByteArray)(b:Nat)(w:World)(g:w.cell? ⟨b,0,none⟩=some v)(h:Wm w v l)(c:l.length<4611686018427387904) :
 Calls Tryz.prog 163 #[.pointer (some ⟨b,0,none⟩),.string s] w fun e f =>
  e=.returned (.tuple #[.int .i64 (low zh (zy l) s),.bool (zZ zh (zy l) s)])/\Fr Nil w f:=by
 have d:=Z (Rt v l s w h.own h.Aa c);clear h;go_enter Tryz.func163,Tryz.ntmps163
 go_wp2_with (refine d.out.mono ?_;rintro e i ⟨rfl,a⟩)
 go_ret2;exact⟨rfl,a⟩
def getE(l:List (ByteArray × Value))(s:ByteArray):Value :=
 if zZ zh (zy l) s=true then(l.getD (low zh (zy l) s) (s,.slice none 0 0)).2 else .slice none 0 0
theorem Xg{l:List (ByteArray × Value)}{s:ByteArray}(h:zZ zh (zy l) s=true):∃ a:low zh (zy l) s<l.length,l[low zh (zy l) s].1=s:=by
 rcases GO (low zh (zy l) s) l.length with a|a
 .refine⟨a,?_⟩
  rw[XL a rfl] at h;exact Z4.1 h
 .rw[WE (by simpa using a)] at h
  cases h
theorem NX(v:Value)(l:List (ByteArray × Value))(s:ByteArray)(b:Nat)(w:World)(f:w.cell? ⟨b,0,none⟩=some v)(t:b<w.heap.size)(h:Wm w v l)(m:l.length<4611686018427387904) :
 Calls Tryz.prog 124 #[.pointer (some ⟨b,0,none⟩),.string s] w fun e B =>
  e=.returned (getE l s)/\Fr Nil w B:=by
 have o:=Z (WJ v l s b w f h m);cases ha:zZ zh (zy l) s with
 | false =>
  have c:getE l s=.slice none 0 0:=by simp[getE,ha]
  rw[c];clear c;go_enter Tryz.func124,Tryz.ntmps124
  go_wp2_with (refine o.out.mono ?_;rintro e p ⟨rfl,a⟩)
  go_ret;exact⟨rfl,a⟩
 | true =>
  obtain⟨k,x⟩:=Xg ha;have c:getE l s=l[low zh (zy l) s].2:=by simp[getE,ha,k]
  rw[c];have q:=Z h;have y:=zG h.own;unfold maxLen at y;clear c x h;go_enter Tryz.func124,Tryz.ntmps124;go_wp2_with fail;refine o.out.mono ?_;rintro e p ⟨rfl,a⟩;have u:p.cell? ⟨b,0,none⟩=some v:=(a.cell t id).trans f;have d:=q.out.fr a (fun _ _=>id);obtain⟨g,r,A,_,_⟩:=zv d.own (by omega);subst A;have j:=own_cell? d.own (low zh (zy l) s*2+1) _ (ZM l _ k).2;clear f d;generalize low zh (zy l) s=i at k j |-
  go_wp2
  go_ret;exact⟨rfl,a⟩
theorem Zs(a b:List (ByteArray × Value)):Ze (a++b)=Ze a++Ze b:=by simp[Ze]
theorem Tw(l:List (ByteArray × Value))(i:Nat):(Ze l).take (i*2)=Ze (l.take i):=by
 rcases EJ i l.length with h|h
 .have e:=Zs (l.take i) (l.drop i)
  rw[IG] at e;rw[e];exact Gb (by rw[YK,Ip,Hx h])
 .rw[IH h,IH (by rw[YK];omega)]
theorem Tx(l:List (ByteArray × Value))(i:Nat):(Ze l).drop (i*2)=Ze (l.drop i):=by
 rcases EJ i l.length with h|h
 .have e:=Zs (l.take i) (l.drop i)
  rw[IG] at e;rw[e];exact CL (by rw[YK,Ip,Hx h])
 .rw[Hn h,Hn (by rw[YK];omega)]
  rfl
def Yd(l:List (ByteArray × Value))(s:ByteArray)(x:Value):List (ByteArray × Value) :=
 l.take (low zh (zy l) s)++[(s,x)]++l.drop (if zZ zh (zy l) s=true then low zh (zy l) s+1 else low zh (zy l) s)
def Xh(l:List (ByteArray × Value))(s:ByteArray):List (ByteArray × Value) :=
 if zZ zh (zy l) s=true then l.take (low zh (zy l) s)++l.drop (low zh (zy l) s+1) else l
theorem Ln{l:List (ByteArray × Value)}{s:ByteArray}{x:Value}(h:zZ zh (zy l) s=true):zy (Yd l s x)=zy l:=by
 obtain⟨c,a⟩:=Xg h;unfold Yd;rw[IC h];generalize low zh (zy l) s=i at c a |-;have d:(l.map Prod.fst)[i]'(by simpa using c)=s:=by rw[IR];exact a
 simp only[zy,IL,IJ,Gm,Gg,Fo];rw[<- d,<- Hc,IG]
theorem QD{l:List (ByteArray × Value)}(s:ByteArray)(x:Value)(h:Asc zh (zy l)):Asc zh (zy (Yd l s x)):=by
 cases ha:zZ zh (zy l) s with
 | true=>rw[Ln ha];exact h
 | false =>
  have:=Asc.ins Zi (b:=s) h (fun a e=>by rw[Uw a,e] at ha;rw[Z4.2 rfl] at ha;cases ha);unfold Yd;simp only[ha,Gx,Hy]
  simpa [zy,List.map_take,List.map_drop] using this
theorem QE{l:List (ByteArray × Value)}{s:ByteArray}{x:Value}(h:∀ e∈l,e.2.oneCell'=true)(b:x.oneCell'=true):∀ e∈Yd l s x,e.2.oneCell'=true:=by
 intro e a;simp only[Yd,Ir,Iv] at a;rcases a with(a|rfl)|a
 .exact h e (He a)
 .exact b
 .exact h e (IK a)
theorem UH{l:List (ByteArray × Value)}{s:ByteArray}{x:Value}:(Yd l s x).length=if zZ zh (zy l) s=true then l.length else l.length+1:=by
 have:=Vm zh (zy l) s;simp only[IE] at this;split
 .rename_i h
  obtain⟨a,_⟩:=Xg h;simp only[Yd,h,Gh,Il,Ip,Iw,Ix];omega
 .rename_i h
  simp only[Yd,h,Il,Ip,Iw,Ix];simp;omega
theorem Kx{l:List (ByteArray × Value)}(s:ByteArray)(h:Asc zh (zy l)):Asc zh (zy (Xh l s)):=by
 unfold Xh;split
 .have:=Asc.del h (low zh (zy l) s)
  simpa [zy,List.map_take,List.map_drop] using this
 .exact h
theorem QF{l:List (ByteArray × Value)}{s:ByteArray}:∀ e∈Xh l s,e∈l:=by
 intro e a;unfold Xh at a;split at a
 .rcases Ir.1 a with a|a
  .exact He a
  .exact IK a
 .exact a
def YG(w:World)(b:Nat)(t:TypeId)(v:Value)(a:List Value)(l:List (ByteArray × Value))(d:World):Prop :=
 ∃ c,Blk d b (c::a) t/\Wm d c l/\Fr (fun k=>k=b\/v.ownBlock=some k) w d/\(∀ k,c.ownBlock=some k->v.ownBlock=some k\/w.heap.size<=k)
theorem NY(v:Value)(p:List Value)(l:List (ByteArray × Value))(s:ByteArray)(a:Option Addr)(d c:Nat)(b:Nat)(t:TypeId)(w:World)(J:Blk w b (v::p) t)(ht:t≠239)(h:Wm w v l)
 (a6:l.length<1099511627776) :
 Calls Tryz.prog 291 #[.pointer (some ⟨b,0,none⟩),.string s,.slice a d c] w fun e w' =>
  e=.returned (.tuple #[])/\YG w b t v p (Yd l s (.slice a d c)) w':=by
 have T:w.cell? ⟨b,0,none⟩=some v:=by rw[J.cell];rfl
 have HC:=Z (WJ v l s b w T h (by omega));have hn:=zG h.own;unfold maxLen at hn;cases ha:zZ zh (zy l) s with
 | true =>
  obtain⟨L,o⟩:=Xg ha;have G:=Z h;have R:=Z J;have HK:=Z o;clear T h J o;go_enter Tryz.func291,Tryz.ntmps291;go_wp2_with fail;refine HC.out.mono ?_;rintro e r ⟨rfl,j⟩;have f:=R.out.fr j id;have V:r.cell? ⟨b,0,none⟩=some v:=by rw[f.cell];rfl
  have C:=G.out.fr j (fun _ _=>id);obtain⟨g,y,hv,a5,_⟩:=zv C.own (by omega);subst hv;have E:=own_cell? C.own (low zh (zy l) s*2+1) _ (ZM l _ L).2;have a2:=Tt C.own (low zh (zy l) s*2+1);have Y:b≠g:=fun e=>zi C.own f ht (by rw[e];rfl);have m:YG w b t (.slice (some ⟨g,0,none⟩) l.length y) p (Yd l s (.slice a d c)) (r.setCell ⟨g,low zh (zy l) s*2+1,none⟩ (.slice a d c)):=by
   have q:=UH (l:=l) (s:=s) (x:=.slice a d c);rw[IC ha] at q;refine⟨_,f.AE Y _ _,⟨?_,QD s _ C.Aa,QE C.one rfl⟩,Fr.set (j.mono (fun _ _ h=>absurd h id)) (fun _=>.inr rfl) _,fun k o=>.inl o⟩;have:=Sf C.own (low zh (zy l) s*2+1) (.slice a d c);rw[q];refine cast (Fg (World.ownsRow _ 0 _ 2 _ l.length) ?_) this;have e:Yd l s (.slice a d c)=l.take (low zh (zy l) s)++[(s,.slice a d c)]++l.drop (low zh (zy l) s+1):=by unfold Yd;rw[IC ha]
   have e2:l=l.take (low zh (zy l) s)++[l[low zh (zy l) s]]++l.drop (low zh (zy l) s+1):=by
    rw[<- Hc L,IG]
   have o:=HK.out;rw[e];generalize low zh (zy l) s=i at L o e2 |-;have a1:(Ze (l.take i)).length=i*2:=by rw[YK,Ip,Hx (by omega)]
   conv=>lhs;rw[e2]
   rw[Zs,Zs,Zs,Zs,IA,IA,Df _ _ (by omega),a1,show i*2+1-i*2=1 by omega];simp[Ze,o]
  clear E C f;have E:=own_cell? (G.out.fr j (fun _ _=>id)).own (low zh (zy l) s*2+1) _ (ZM l _ L).2;have Q:=Z m;clear m;generalize low zh (zy l) s=i at L E a2 Q |-
  go_wp2
  exact EK (v:=.tuple #[]) (by simp[results,go_sem]) rfl ⟨rfl,Q.out⟩
 | false =>
  have G:=Z h;have R:=Z J;clear T h J;go_enter Tryz.func291,Tryz.ntmps291;go_wp2_with fail;refine HC.out.mono ?_;rintro e r ⟨rfl,j⟩;have f:=R.out.fr j id;have V:r.cell? ⟨b,0,none⟩=some v:=by rw[f.cell];rfl
  have a7:=f.frozen 0;go_wp2_with fail;have hN:Blk (r.alloc (.cells #[.string s,.slice a d c] 239)) r.heap.size [.string s,.slice a d c] 239:=Blk.new r [.string s,.slice a d c] _;have A:=f.alloc (.cells #[.string s,.slice a d c] 239);have B:Fr Nil w (r.alloc (.cells #[.string s,.slice a d c] 239)):=j.alloc _;have X:∀ k,v.ownBlock=some k->k<r.heap.size:=fun k o=>own_lt (G.out.fr j (fun _ _=>id)).own o;generalize r.alloc (.cells #[.string s,.slice a d c] 239)=w2 at hN A B |-;have I:=G.out.fr B (fun _ _=>id);have O:v.ownBlock≠some b:=zi I.own A ht;have M:=Vm zh (zy l) s;simp only[IE] at M;refine(Rv v l.length (low zh (zy l) s) (Ze l) [.string s,.slice a d c] r.heap.size w2 I.own (SO I.one) M rfl (by intro u hu;simp at hu;rcases hu with rfl|rfl <;> rfl) hN (fun e=>by have:=X _ e;omega) (by omega)).mono ?_;rintro e w3 ⟨g,y,rfl,a0,K,N⟩;have D:=A.fr K O;have a4:w3.cell? ⟨b,0,none⟩=some v:=by rw[D.cell];rfl
  have a8:=D.frozen 0;have a3:b≠g:=by
   rcases N with h|h
   .intro e;exact O (by rw[h,e])
   .have:=A.lt;omega
  have m:YG w b t v p (Yd l s (.slice a d c)) (w3.setCell ⟨b,0,none⟩ (.slice (some ⟨g,0,none⟩) (l.length+1) y)):=by
   have q:=UH (l:=l) (s:=s) (x:=.slice a d c);rw[It (by rw[ha];simp)] at q;refine⟨.slice (some ⟨g,0,none⟩) (l.length+1) y,D.set 0 _,⟨?_,QD s _ I.Aa,QE I.one rfl⟩,Fr.set ((B.mono (fun _ _ h=>absurd h id)).trans' K (fun i _ h=>.inr h)) (fun _=>.inl rfl) _,fun k o=>?_⟩
   .rw[q]
    have e:Ze (Yd l s (.slice a d c))=Y3 2 (low zh (zy l) s) (Ze l) [.string s,.slice a d c]:=by
     unfold Yd Y3;rw[It (by rw[ha];simp),Zs,Zs,Tw,Tx]
     rfl
    rw[e];exact ze a0 (Fr.set (S:=fun k=>k=b) (U _ _) (fun _=>rfl) _) (fun k o=>by simp[Value.ownBlock] at o;omega)
   .simp[Value.ownBlock] at o
    subst o;rcases N with h|h
    .exact .inl h
    .exact .inr (by have:=B.size;omega)
  have Q:=Z m;clear m
  go_wp2
  exact GJ (v:=.tuple #[]) (by simp[results,go_sem]) rfl ⟨rfl,Q.out⟩
theorem Oi{l:List (ByteArray × Value)}{s:ByteArray}(h:zZ zh (zy l) s=true):(Xh l s).length=l.length-1:=by
 obtain⟨a,_⟩:=Xg h;simp only[Xh,h,Gh,Il,Ip,Iw];omega
theorem Rx(v:Value)(c:List Value)(l:List (ByteArray × Value))(s:ByteArray)(b:Nat)(t:TypeId)(w:World)(p:Blk w b (v::c) t)(T:t≠239)(h:Wm w v l)
 (R:l.length<1099511627776) :
 Calls Tryz.prog 290 #[.pointer (some ⟨b,0,none⟩),.string s] w fun e Y =>
  e=.returned (.tuple #[])/\YG w b t v c (Xh l s) Y:=by
 have A:w.cell? ⟨b,0,none⟩=some v:=by rw[p.cell];rfl
 have D:=Z (WJ v l s b w A h (by omega));have Q:=zG h.own;unfold maxLen at Q;cases ha:zZ zh (zy l) s with
 | true =>
  obtain⟨N,j⟩:=Xg ha;have y:=Z h;have x:=Z p;clear A h p j;have O:(low zh (zy l) s:Int)+1<=9223372036854775807:=by omega
  go_enter Tryz.func290,Tryz.ntmps290;go_wp2_with fail;refine D.out.mono ?_;rintro e C ⟨rfl,a⟩;have d:=x.out.fr a id;have K:C.cell? ⟨b,0,none⟩=some v:=by rw[d.cell];rfl
  have V:=d.frozen 0;go_wp2_with fail;have o:=y.out.fr a (fun _ _=>id);have u:v.ownBlock≠some b:=zi o.own d T;refine(Rw v l.length (low zh (zy l) s) (Ze l) C o.own (SO o.one) N).mono ?_;rintro e I ⟨G,rfl,r,m,q⟩;have g:=d.fr q u;have L:I.cell? ⟨b,0,none⟩=some v:=by rw[g.cell];rfl
  have X:=g.frozen 0;have f:YG w b t v c (Xh l s) (I.setCell ⟨b,0,none⟩ G):=by
   refine⟨G,g.set 0 _,⟨?_,Kx s o.Aa,fun e M=>o.one e (QF e M)⟩,Fr.set ((a.mono (fun _ _ h=>absurd h id)).trans' q (fun i _ h=>.inr h)) (fun _=>.inl rfl) _,fun k j=>.inl (by rw[<- r];exact j)⟩;have e:Ze (Xh l s)=Ya 2 (low zh (zy l) s) (Ze l):=by
    unfold Xh Ya;rw[IC ha,Zs,Tw,Tx]
   rw[Oi ha,e];exact ze m (Fr.set (S:=fun k=>k=b) (U _ _) (fun _=>rfl) _) (fun k j e=>u (by rw[<- r,j,e]))
  have J:=Z f;obtain⟨va,vc,B⟩:=zg m;subst B;clear f m
  go_wp2
  exact GJ (v:=.tuple #[]) (by simp[results,go_sem]) rfl ⟨rfl,J.out⟩
 | false =>
  have E:Xh l s=l:=by unfold Xh;rw[It (by rw[ha];simp)]
  rw[E];have y:=Z h;have x:=Z p;clear A h p E;go_enter Tryz.func290,Tryz.ntmps290;go_wp2_with fail;refine D.out.mono ?_;rintro e C ⟨rfl,a⟩
  go_wp2
  exact GJ (v:=.tuple #[]) (by simp[results,go_sem]) rfl ⟨rfl,v,x.out.fr a id,y.out.fr a (fun _ _=>id),a.mono (fun _ _ h=>absurd h id),fun k j=>.inl j⟩
theorem NZ(v:Value)(l:List (ByteArray × Value))(b:Nat)(w:World)(g:w.cell? ⟨b,0,none⟩=some v)(h:Wm w v l) :
 Calls Tryz.prog 134 #[.pointer (some ⟨b,0,none⟩)] w fun e f=>e=.returned (.int .i64 l.length)/\f=w:=by
 have d:=zG h.own;unfold maxLen at d;obtain⟨a,c,rfl⟩:=zg h.own;go_enter Tryz.func134,Tryz.ntmps134
 go_wp2
 go_ret;exact⟨rfl,rfl⟩
theorem I0:((Tryz.prog.info? 75).map fun i=>(i.zero.map (·.cells.size),i.size,i.bytes))=some (some 2,2,24):=by kernel_rfl
theorem I1:((Tryz.prog.info? 75).map fun i=>(i.zero.map fun z=>z.cells.toList.all (·.oneCell')))=some (some true):=by kernel_rfl
theorem Ry(v:Value)(n i:Nat)(C:List Value)(w:World)(l:w.ownsRow 0 75 2 v n C)(h1:∀ u∈C,u.oneCell'=true)(hi:i<n) :
 Calls Tryz.prog 278 #[v,.int .i64 i,.int .i64 ((i:Int)+1)] w fun e w' =>
  ∃ J,e=.returned J/\J.ownBlock=v.ownBlock/\w'.ownsRow 0 75 2 J (n-1) (Ya 2 i C)/\Fr (fun b=>v.ownBlock=some b) w w':=by
 rcases Yj l with⟨_,h0,_⟩|⟨g,a,c,rfl,hg,hn,N,r,ht⟩
 .omega
 obtain⟨i0,z,G,I,a2,a1,a0⟩:=Y0 I0;have Y:∀ u∈z.cells.toList,u.oneCell'=true:=by
  have:=I1;rw[G] at this;simp only[Option.map_some,I] at this;exact List.all_eq_true.1 (Hb (Hb this))
 have X:C.length=n*2:=l.1;clear l;obtain⟨o,k⟩:∃ o,o=C.drop ((i+1)*2):=⟨_,rfl⟩;have s:o.length=(n-(i+1))*2:=by rw[k,Iw,X];omega
 have O:∀ j u,o[j]?=some u->c[(i+1)*2+j]?=some u:=by
  intro j u m;rw[k,GI] at m;have a6:=(IQ.1 m).1;rw[<- ht,Gc (by omega)] at m;exact m
 obtain⟨L,a4,V⟩:∃ L:Addr,(if a=i+1 then some (⟨g,0,none⟩:Addr) else some ⟨g,(i+1)*2,none⟩)=some L/\Hid (∀ j u,o[j]?=some u->w.drew.cell? (L.add j)=some u):=by
  by_cases h:a=i+1
  .refine⟨⟨g,0,none⟩,by simp[h],fun j u m=>?_⟩
   have:=(IQ.1 m).1;omega
  .refine⟨⟨g,(i+1)*2,none⟩,by simp[h],fun j u m=>?_⟩
   rw[Hp,hg.drew.cell];exact O j u m
 have p:∀ ty sc,(Builtin.append_ #[66,66] ty #[.slice (some ⟨g,0,none⟩) i a,.slice (some L) (n-(i+1)) sc]).run Tryz.prog w.drew=_:=fun ty sc =>
  U3 (P:=Tryz.prog) 66 75 ty 2 Ew (by kernel_rfl) g i (n-(i+1)) a sc L c o hg.drew (by omega) r s V.out (fun u m=>h1 u (by rw[k] at m;exact IK m))
 have e1:i+(n-(i+1))=n-1:=by omega
 rw[e1] at p;obtain⟨f,q⟩:∃ f,f=c.take (i*2)++o++c.drop (i*2+o.length):=⟨_,rfl⟩;rw[<- q] at p;have d:f.length=a*2:=by
  rw[q];simp only[Il,Ip,Iw,s,r];omega
 have x:f.take ((n-1)*2)=Ya 2 i C:=by
  have e:(c.take (i*2)++o).length=(n-1)*2:=by rw[Il,Ip,s,r];omega
  rw[q,Gb e];unfold Ya;rw[<- k,<- ht,Fh]
  congr 2
  omega
 have t:Blk (w.drew.setRow g f.toArray) g f 75:=hg.drew.setRow f;have E:Fr (fun b=>some g=some b) w (w.drew.setRow g f.toArray):=Fr.setRow (S:=fun b=>some g=some b) ((U _ w).drew) (fun _=>rfl) _;obtain⟨D,M⟩:∃ D,D=w.drew.setRow g f.toArray:=⟨_,rfl⟩;rw[<- M] at p t E;clear M;have B:∀ cc,∃ K:List Value,K.length=a*2/\K.take ((n-1)*2)=Ya 2 i C/\∀ ty,(Builtin.clear_ #[66] ty #[.slice (some ⟨g,(n-1)*2,none⟩) (n-(n-1)) cc]).run Tryz.prog D=.ok (.tuple #[]) (D.setRow g K.toArray):=by
  intro cc;have e2:n-(n-1)=1:=by omega
  rw[e2];obtain⟨zs,a3,T⟩:=Ti (P:=Tryz.prog) (w:=D) 66 75 75 i0 z 2 Ew G I a0 Y g ((n-1)*2) 1 cc f 75 t (by rw[d];omega);refine⟨f.take ((n-1)*2)++zs++f.drop ((n-1)*2+zs.length),?_,?_,fun ty=>T⟩
  .simp only[Il,Ip,Iw,a3,d]
   omega
  .have e:(f.take ((n-1)*2)).length=(n-1)*2:=by rw[Ip,d];omega
   rw[IA,Gb e,x]
 obtain⟨K,y,A,B⟩:=B (a-(n-1));have Q:∀ e,e=Ending.returned (.slice (some ⟨g,0,none⟩) (n-1) a)->∃ J,e=.returned J/\J.ownBlock=some g/\(D.setRow g K.toArray).ownsRow 0 75 2 J (n-1) (Ya 2 i C)/\Fr (fun b=>some g=some b) w (D.setRow g K.toArray):=by
  intro e he;exact⟨_,he,rfl,Yi (t.setRow _) (by omega) N y A,Fr.setRow (S:=fun b=>some g=some b) E (fun _=>rfl) _⟩
 clear A y x d q t E O s k hg X h1 a0 a1 a2 I G Y r ht;have R:(Value.slice (some ⟨g,0,none⟩) n a).ownBlock=some g:=rfl;rw[R];clear R;unfold maxLen at N;have a5:i<=a:=by omega
 have a7:¬(i:Int)=(i:Int)+1:=by omega
 have a8:¬a=n-1:=by omega
 have a9:IntKind.i64.wrap ((i:Int)+1)=(i:Int)+1:=by rw[Hg];omega
 have b0:(0:Int)<=(i:Int)+1:=by omega
 have b1:((i:Int)+1).toNat=i+1:=by omega
 have b2:(i:Int)<=(n:Int):=by omega
 have b3:(i:Int)+1<=(n:Int):=by omega
 go_enter Tryz.func278,Tryz.ntmps278;go_wp2_with fail
 go_region_law (refine SE rfl _ _ 66 66 rfl _ _ (by simp[Act.eval,Act.put]) (by simp[Act.eval,Act.put]) (p _ (a-(i+1))) ?_)
 go_wp2
 go_ret;exact Q _ rfl
structure SM where
 keys:List (ByteArray × List Ver)
 hints:List (Nat × ByteArray)
 Bh:Nat
structure SL where
 kv:Value
 hv:Value
 BD:List (ByteArray × Value)
def VRow(w:World)(v:Value)(l:List Ver):Prop:=w.ownsRow 0 37 8 v l.length (zV l)
def Zj(l:List (Nat × ByteArray)):List Value:=l.flatMap fun e=>[.int .i64 e.1,.string e.2]
theorem SP(l:List (Nat × ByteArray)):∀ u∈Zj l,u.oneCell'=true:=by
 intro u a;simp only[Zj,EI] at a;obtain⟨e,_,a⟩:=a;simp at a;rcases a with rfl|rfl <;> rfl
def Pair(R:Value->List Ver->Prop):List (ByteArray × Value)->List (ByteArray × List Ver)->Prop
 | [],[]=>True
 | a::d,b::c=>a.1=b.1/\R a.2 b.2/\Pair R d c
 | _,_=>False
theorem Pair.mono{R Q:Value->List Ver->Prop}:∀ {c:List (ByteArray × Value)}{e:List (ByteArray × List Ver)},Pair R c e->(∀ a,a∈c->∀ l,R a.2 l->Q a.2 l)->Pair Q c e
 | [],[],_,_=>trivial
 | a::_,_::_,h,f=>⟨h.1,f a (Is ..) _ h.2.1,Pair.mono h.2.2 fun x o=>f x (Iq _ o)⟩
theorem Pair.length{R:Value->List Ver->Prop}:∀ {c:List (ByteArray × Value)}{a:List (ByteArray × List Ver)},Pair R c a->c.length=a.length
 | [],[],_=>rfl
 | _::c,_::a,h=>by simp[Pair.length h.2.2]
theorem Pair.keys{R:Value->List Ver->Prop}:∀ {b:List (ByteArray × Value)}{a:List (ByteArray × List Ver)},Pair R b a->b.map Prod.fst=a.map Prod.fst
 | [],[],_=>rfl
 | _::b,_::a,h=>by simp[Pair.keys h.2.2,h.1]
theorem Pair.take{R:Value->List Ver->Prop}:∀ {c:List (ByteArray × Value)}{a:List (ByteArray × List Ver)}(i:Nat),Pair R c a->Pair R (c.take i) (a.take i)
 | [],[],i,_=>by simp[Pair]
 | _::c,_::a,0,_=>trivial
 | _::c,_::a,i+1,h=>⟨h.1,h.2.1,Pair.take i h.2.2⟩
theorem Pair.drop{R:Value->List Ver->Prop}:∀ {c:List (ByteArray × Value)}{a:List (ByteArray × List Ver)}(i:Nat),Pair R c a->Pair R (c.drop i) (a.drop i)
 | [],[],i,_=>by simp[Pair]
 | _::c,_::a,0,h=>h
 | _::c,_::a,i+1,h=>Pair.drop i h.2.2
theorem Pair.append{R:Value->List Ver->Prop}:∀ {d:List (ByteArray × Value)}{a:List (ByteArray × List Ver)}{b:List (ByteArray × Value)}{c:List (ByteArray × List Ver)},Pair R d a->Pair R b c->Pair R (d++b) (a++c)
 | [],[],_,_,_,k=>k
 | _::_,_::_,_,_,h,k=>⟨h.1,h.2.1,Pair.append h.2.2 k⟩
theorem Pair.get{R:Value->List Ver->Prop}:∀ {c:List (ByteArray × Value)}{a:List (ByteArray × List Ver)},Pair R c a->∀ (i:Nat)(d:i<c.length)(e:i<a.length),R c[i].2 a[i].2
 | [],[],_,i,d,_=>by simp at d
 | _::c,_::a,h,0,_,_=>h.2.1
 | _::c,_::a,h,i+1,d,e=>Pair.get h.2.2 i (by simpa using d) (by simpa using e)
structure SRep(w:World)(b:Nat)(L:SL)(S:SM):Prop where
 Bi:Blk w b [L.kv,L.hv,.int .i64 S.Bh] 161
 yo:Wm w L.kv L.BD
 pair:Pair (VRow w) L.BD S.keys
 hint:w.ownsRow 0 75 2 L.hv S.hints.length (Zj S.hints)
def SFoot(b:Nat)(L:SL)(k:Nat):Prop:=k=b\/L.kv.ownBlock=some k\/L.hv.ownBlock=some k
def SRead(L:SL)(k:Nat):Prop:=∃ e∈L.BD,e.2.ownBlock=some k
theorem VRow.fr{S:Nat->Prop}{w w':World}{v:Value}{l:List Ver}(h:VRow w v l)(f:Fr S w w')(a:∀ k,v.ownBlock=some k->¬S k):VRow w' v l:=ze h f a
theorem SRep.fr{c:Nat->Prop}{w w':World}{b:Nat}{L:SL}{S:SM}(h:SRep w b L S)(f:Fr c w w')(g:∀ k,SFoot b L k->¬c k)(o:∀ k,SRead L k->¬c k):SRep w' b L S :=
 ⟨h.Bi.fr f (g _ (.inl rfl)),h.yo.fr f (fun _ e=>g _ (.inr (.inl e))),h.pair.mono (fun a q _ y=>VRow.fr y f (fun k r=>o k ⟨a,q,r⟩)),ze h.hint f (fun _ e=>g _ (.inr (.inr e)))⟩
theorem SRep.nil{w w':World}{b:Nat}{L:SL}{S:SM}(h:SRep w b L S)(f:Fr Nil w w'):SRep w' b L S:=h.fr f (fun _ _=>id) (fun _ _=>id)
def Ty(w:World)(k:Nat)(t:TypeId):Prop:=∃ c f,w.heap[k]?=some (.cells c t f)
theorem Ty.inj{w:World}{k:Nat}{t u:TypeId}(h:Ty w k t)(a:Ty w k u):t=u:=by
 obtain⟨c,f,h⟩:=h;obtain⟨b,d,a⟩:=a;rw[h] at a;simp at a;exact a.2.1
theorem Blk.ty{w:World}{b:Nat}{c:List Value}{t:TypeId}(h:Blk w b c t):Ty w b t:=⟨_,_,h⟩
theorem zH{w:World}{e:TypeId}{size n:Nat}{v:Value}{f:List Value}(h:w.ownsRow 0 e size v n f){k:Nat}(a:v.ownBlock=some k):Ty w k e:=by
 rcases Yj h with⟨rfl,_⟩|⟨g,b,c,rfl,d,_⟩
 .simp[Value.ownBlock] at a
 .simp[Value.ownBlock] at a
  subst a;exact d.ty
theorem SRep.BJ{w:World}{b:Nat}{L:SL}{S:SM}(h:SRep w b L S){k:Nat}(a:SFoot b L k):Ty w k 161\/Ty w k 239\/Ty w k 75:=by
 rcases a with rfl|a|a
 .exact .inl h.Bi.ty
 .exact .inr (.inl (zH h.yo.own a))
 .exact .inr (.inr (zH h.hint a))
theorem Pair.mem{R:Value->List Ver->Prop}:∀ {d:List (ByteArray × Value)}{f:List (ByteArray × List Ver)},Pair R d f->∀ e∈d,∃ l,R e.2 l
 | [],[],_,e,c=>by cases c
 | a::d,b::f,h,e,c=>by
  rcases IW.1 c with rfl|c
  .exact⟨_,h.2.1⟩
  .exact Pair.mem h.2.2 e c
theorem SRep.Ag{w:World}{b:Nat}{L:SL}{S:SM}(h:SRep w b L S){k:Nat}(a:SRead L k):Ty w k 37:=by
 obtain⟨e,c,a⟩:=a;obtain⟨l,d⟩:=h.pair.mem e c;exact zH d a
def ZU{β:Type}(l:List (ByteArray × β))(s:ByteArray)(x:β):List (ByteArray × β) :=
 l.take (low zh (l.map Prod.fst) s)++[(s,x)]++l.drop (if zZ zh (l.map Prod.fst) s=true then low zh (l.map Prod.fst) s+1 else low zh (l.map Prod.fst) s)
def YL{β:Type}(l:List (ByteArray × β))(s:ByteArray):List (ByteArray × β) :=
 if zZ zh (l.map Prod.fst) s=true then l.take (low zh (l.map Prod.fst) s)++l.drop (low zh (l.map Prod.fst) s+1) else l
def zl(l:List (ByteArray × List Ver))(s:ByteArray):List Ver :=
 if zZ zh (l.map Prod.fst) s=true then(l.getD (low zh (l.map Prod.fst) s) (s,[])).2 else []
theorem Pair.set{R:Value->List Ver->Prop}{b:List (ByteArray × Value)}{a:List (ByteArray × List Ver)}(h:Pair R b a)(s:ByteArray){x:Value}{l:List Ver}(c:R x l):Pair R (Yd b s x) (ZU a s l):=by
 unfold Yd ZU;rw[show zy b=a.map Prod.fst from h.keys];exact Pair.append (Pair.append (h.take _) ⟨rfl,c,trivial⟩) (h.drop _)
theorem Pair.del{R:Value->List Ver->Prop}{b:List (ByteArray × Value)}{a:List (ByteArray × List Ver)}(h:Pair R b a)(s:ByteArray):Pair R (Xh b s) (YL a s):=by
 unfold Xh YL;rw[show zy b=a.map Prod.fst from h.keys];split
 .exact Pair.append (h.take _) (h.drop _)
 .exact h
theorem Ky{l:List (ByteArray × Value)}{s:ByteArray}{x:Value}:∀ e∈Yd l s x,e∈l\/e=(s,x):=by
 intro e a;simp only[Yd,Ir,Iv] at a;rcases a with(a|a)|a
 .exact .inl (He a)
 .exact .inr a
 .exact .inl (IK a)
def SStep(w:World)(b:Nat)(L:SL)(S:SM)(X:Nat->Prop)(c:World):Prop :=
 ∃ a,SRep c b a S/\Fr (SFoot b L) w c/\(∀ k,SFoot b a k->SFoot b L k\/w.heap.size<=k)/\(∀ k,SRead a k->SRead L k\/X k)
theorem QG(n:Nat)(b:Nat)(L:SL)(S:SM)(w:World)(h:SRep w b L S) :
 Calls Tryz.prog 308 #[.agg #[.int .i64 n],.pointer (some ⟨b,0,none⟩)] w fun e o=>e=.returned (.tuple #[])/\SStep w b L {S with Bh:=n} Nil o:=by
 have g:=h.Bi.lt;have p:=h.Bi.cell;have q:=h.Bi.frozen;have f:SStep w b L {S with Bh:=n} Nil ((w.setCell ⟨b,2,none⟩ (.int .i64 n)).alloc (.cells #[.int .i64 n] 220)):=by
  have c:Fr (fun k=>k=b) w (w.setCell ⟨b,2,none⟩ (.int .i64 n)):=Fr.set (S:=fun k=>k=b) (U _ _) (fun _=>rfl) _;have m:SRep (w.setCell ⟨b,2,none⟩ (.int .i64 n)) b L {S with Bh:=n} :=
   ⟨h.Bi.set 2 _,h.yo.fr c (fun k d e=>zi h.yo.own h.Bi (by decide) (by rw[d,e])),h.pair.mono (fun a _ l i=>VRow.fr i c (fun k d e=>zi i h.Bi (by decide) (by rw[d,e]))),ze h.hint c (fun k d e=>zi h.hint h.Bi (by decide) (by rw[d,e]))⟩
  exact⟨L,m.nil ((U _ _).alloc _),(c.mono (fun k _ e=>.inl e)).alloc _,fun k d=>.inl d,fun k d=>.inl d⟩
 clear h;have j:=Z f;clear f;go_enter Tryz.func308,Tryz.ntmps308
 go_wp2
 exact GJ (v:=.tuple #[]) (by simp[results,go_sem]) rfl ⟨rfl,j.out⟩
def Zo(w:World)(n:Int):Nat->Value->Prop
 | 0,v=>∃ b c f,v=.iface 225 (.pointer (some ⟨b,0,none⟩))/\Blk w b [.string c,.string f,.int .i64 n] 229
 | k+1,v=>∃ b a d,v=.iface 202 (.pointer (some ⟨b,0,none⟩))/\Blk w b [.string a,d] 204/\Zo w n k d
def ERep(w:World)(v:Value):Option Int->Prop
 | none=>v=.nilIface
 | some n=>∃ k,Zo w n k v
def XU(w:World)(S:Nat->Prop):Prop:=∀ k,(Ty w k 229\/Ty w k 204)->¬S k
theorem Zo.fr{S:Nat->Prop}{w w':World}{n:Int}(f:Fr S w w')(o:XU w S):∀ {k:Nat}{v:Value},Zo w n k v->Zo w' n k v
 | 0,_,⟨b,c,g,h,a⟩=>⟨b,c,g,h,a.fr f (o b (.inl a.ty))⟩
 | _+1,_,⟨b,e,r,h,a,q⟩=>⟨b,e,r,h,a.fr f (o b (.inr a.ty)),Zo.fr f o q⟩
theorem ERep.fr{S:Nat->Prop}{w w':World}{v:Value}{e:Option Int}(h:ERep w v e)(f:Fr S w w')(c:XU w S):ERep w' v e:=by
 cases e with
 | none=>exact h
 | some n=>obtain⟨k,a⟩:=h;exact⟨k,a.fr f c⟩
theorem XU.nil(w:World):XU w Nil:=fun _ _=>id
theorem Zo.form{w:World}{n:Int}:∀ {k:Nat}{v:Value},Zo w n k v->∃ t b,v=.iface t (.pointer (some ⟨b,0,none⟩))
 | 0,_,⟨b,_,_,h,_⟩=>⟨_,b,h⟩
 | _+1,_,⟨b,_,_,h,_⟩=>⟨_,b,h⟩
def zE(n:Int):Option Int:=if n=0 then none else some n
theorem Ye(c f:ByteArray)(n:Int)(w:World) :
 Calls Tryz.prog 166 #[.string c,.string f,.int .i64 n] w fun e d=>∃ v,e=.returned v/\ERep d v (zE n)/\Fr Nil w d:=by
 by_cases a:n=0
 .subst a
  go_enter Tryz.func166,Tryz.ntmps166
  go_wp2
  go_ret;exact⟨_,rfl,rfl,U _ _⟩
 .have he:zE n=some n:=by unfold zE;rw[It a]
  have b:Blk (w.alloc (.cells #[.string c,.string f,.int .i64 n] 229)) w.heap.size [.string c,.string f,.int .i64 n] 229:=Blk.new w [.string c,.string f,.int .i64 n] _;have h:(n==0)=false:=by simp[a]
  have g:=Z b;rw[he];clear he b a;go_enter Tryz.func166,Tryz.ntmps166
  go_wp2
  go_ret;exact⟨_,rfl,⟨0,_,_,_,rfl,g.out⟩,(U _ _).alloc _⟩
theorem zz(a:ByteArray)(v:Value)(e:Option Int)(w:World)(h:ERep w v e) :
 Calls Tryz.prog 90 #[.string a,v] w fun x w'=>∃ g,x=.returned g/\ERep w' g e/\Fr Nil w w':=by
 cases e with
 | none =>
  have j:v=.nilIface:=h;subst j;go_enter Tryz.func90,Tryz.ntmps90
  go_wp2
  go_ret;exact⟨_,rfl,rfl,U _ _⟩
 | some n =>
  obtain⟨k,c⟩:=h;obtain⟨t,b,rfl⟩:=c.form;have f:Fr Nil w (w.alloc (.cells #[.string a,.iface t (.pointer (some ⟨b,0,none⟩))] 204)):=(U _ _).alloc _;have d:Blk (w.alloc (.cells #[.string a,.iface t (.pointer (some ⟨b,0,none⟩))] 204)) w.heap.size [.string a,.iface t (.pointer (some ⟨b,0,none⟩))] 204:=Blk.new w [.string a,.iface t (.pointer (some ⟨b,0,none⟩))] _;have i:Hid (ERep (w.alloc (.cells #[.string a,.iface t (.pointer (some ⟨b,0,none⟩))] 204)) (.iface 202 (.pointer (some ⟨w.heap.size,0,none⟩))) (some n)):=⟨k+1,_,_,_,rfl,d,c.fr f (XU.nil w)⟩;clear d c;go_enter Tryz.func90,Tryz.ntmps90
  go_wp2
  go_ret;exact⟨_,rfl,i.out,f⟩
structure JM where
 limit:Nat
 last:Nat
 name:ByteArray
 size:Nat
 At:Bool
 Bp:Bool
def JM.cells(a:Nat)(J:JM):List Value:=[.pointer (some ⟨a,0,none⟩),.int .i64 J.limit,.int .i64 J.last,.string J.name,.int .i64 J.size,.bool J.At,.bool J.Bp]
def JRep(w:World)(b a:Nat)(J:JM):Prop:=Blk w b (J.cells a) 197
def DTy(t:TypeId):Prop:=t=143\/t=148\/t=145\/t=152\/t=5
theorem DRep.ty{w:World}{b:Nat}{L:DL}{M:DM}(h:DRep w b L M){k:Nat}(d:Foot b L M k):∃ t,Ty w k t/\DTy t:=by
 cases d using Foot.elim with
 | blk=>exact⟨_,h.Bi.ty,.inl rfl⟩
 | dir e=>exact⟨_,zH h.dir e,.inr (.inl rfl)⟩
 | safe e=>exact⟨_,zH h.safe e,.inr (.inl rfl)⟩
 | ch e=>exact⟨_,zH h.ch e,.inr (.inr (.inl rfl))⟩
 | chs i a e=>exact⟨_,zH (h.Bl i a (by rw[<- h.Ar];exact a)) e,.inr (.inl rfl)⟩
 | file e=>exact⟨_,(h.files k e).ty,.inr (.inr (.inr (.inl rfl)))⟩
 | row f c e=>exact⟨_,zH (h.rows f c) e,.inr (.inr (.inr (.inr rfl)))⟩
theorem DRep.apart{w:World}{b:Nat}{L:DL}{M:DM}(h:DRep w b L M){k:Nat}{t:TypeId}(e:Ty w k t)(a:¬DTy t):¬Foot b L M k:=fun d=>by
 obtain⟨u,f,c⟩:=h.ty d;rw[e.inj f] at a;exact a c
theorem Blk.step{w w':World}{b a:Nat}{L d:DL}{M e:DM}{c:List Value}{t:TypeId}(h:Blk w a c t)(f:DRep w b L M)(g:DStep b L M w d e w')(i:¬DTy t):Blk w' a c t :=
 h.fr g.fr (f.apart h.ty i)
theorem DStep.of{w g d:World}{b:Nat}{L a:DL}{M c:DM}(h:DStep b L M g a c d)(f:Fr Nil w g):DStep b L M w a c d :=
 ⟨h.Bt,(f.mono (fun _ _ e=>absurd e id)).trans h.fr,fun k i=>(h.BF k i).imp id (fun h=>Im f.size h)⟩
theorem DStep.Bn{w d w':World}{b:Nat}{L a:DL}{M c:DM}(h:DStep b L M w a c d)(f:Fr Nil d w'):DStep b L M w a c w' :=
 ⟨h.Bt.fr f (fun _ _=>id),h.fr.trans (f.mono (fun _ _ e=>absurd e id)),h.BF⟩
theorem DRep.nil{w w':World}{b:Nat}{L:DL}{M:DM}(h:DRep w b L M)(f:Fr Nil w w'):DRep w' b L M:=h.fr f (fun _ _=>id)
def JM.Bj(J:JM)(M:DM):Option Int × DM:=if J.last=0 then(none,M) else(zE (M.sync J.name).1,(M.sync J.name).2)
theorem Vo(c b:Nat)(J:JM)(L:DL)(M:DM)(w:World)(l:JRep w c b J)(i:DRep w b L M) :
 Calls Tryz.prog 132 #[.pointer (some ⟨c,0,none⟩)] w fun e d=>∃ v f,e=.returned v/\ERep d v (J.Bj M).1/\DStep b L M w f (J.Bj M).2 d:=by
 have k:=l.cell;simp only[JM.cells] at k;by_cases j:J.last=0
 .have hs:J.Bj M=(none,M):=by unfold JM.Bj;rw[IC j]
  rw[hs];rw[j] at k;have m:=Z i;clear hs j i l;go_enter Tryz.func132,Tryz.ntmps132
  go_wp2
  go_ret;exact⟨_,L,rfl,rfl,DStep.look m.out (U _ _)⟩
 .have hs:J.Bj M=(zE (M.sync J.name).1,(M.sync J.name).2):=by unfold JM.Bj;rw[It j]
  rw[hs];have D:((J.last:Int)==0)=false:=by simp;omega
  have y:w.cell? ⟨c,0,none⟩=some (.pointer (some ⟨b,0,none⟩)):=k 0;have A:w.cell? ⟨c,3,none⟩=some (.string J.name):=k 3;have r:Hid (∀ q d f,DStep b L M q f (M.sync J.name).2 d->Fr Nil w q->d.cell? ⟨c,0,none⟩=some (.pointer (some ⟨b,0,none⟩))/\d.cell? ⟨c,3,none⟩=some (.string J.name)):=by
   intro q d f a t;have:=((l.fr t id).step (i.nil t) a (by unfold DTy;decide)).cell;exact⟨by rw[this];rfl,by rw[this];rfl⟩
  have m:=Z i;clear hs j i l;go_enter Tryz.func132,Tryz.ntmps132;go_wp2_with fail
  go_region_held3 (fun d=>d.cell? ⟨c,0,none⟩=some (.pointer (some ⟨b,0,none⟩))/\d.cell? ⟨c,3,none⟩=some (.string J.name)) (first|assumption|go_keep)
   (first
   | (go_at_call 166;refine(Ye _ _ _ _).mono ?_;rintro e p ⟨E,rfl,s,g⟩;have C:p.cell? ⟨c,0,none⟩=some (.pointer (some ⟨b,0,none⟩))/\p.cell? ⟨c,3,none⟩=some (.string J.name):=r.out _ _ _ (h.out.Bn (Fr.trans zd g)) (U _ _);have x:=Z s;have o:Hid (Fr Nil u p):=Fr.trans zd g;clear s g)
   | (go_at_call 167;refine(Tq J.name _ b L M (m.out.nil zd)).mono ?_;rintro e u ⟨rfl,f,a⟩;have B:=r.out _ _ _ a zd;have h:Hid (DStep b L M w f (M.sync J.name).2 u):=a.of zd;clear a))
  go_wp2
  go_ret;exact⟨_,f,rfl,x.out,h.out.Bn o.out⟩
def JStep(e a:Nat)(L:DL)(M:DM)(w:World)(J':JM)(c:DL)(d:DM)(b:World):Prop :=
 JRep b e a J'/\DRep b a c d/\Fr (fun k=>k=e\/Foot a L M k) w b/\(∀ k,Foot a c d k->Foot a L M k\/w.heap.size<=k)
theorem JStep.trans{c a:Nat}{g o q:DL}{r M2 s:DM}{x w2 y:World}{A e:JM}(h:JStep c a g r x A o M2 w2)(k:JStep c a o M2 w2 e q s y):JStep c a g r x e q s y:=by
 refine⟨k.1,k.2.1,h.2.2.1.trans' k.2.2.1 (fun i t B=>?_),fun i t=>?_⟩
 .rcases B with h'|h'
  .exact .inl h'
  .rcases h.2.2.2 i h' with h2|h2
   .exact .inr h2
   .omega
 .rcases k.2.2.2 i t with h'|h'
  .exact h.2.2.2 i h'
  .exact .inr (Im h.2.2.1.size h')
theorem JStep.Al{d a:Nat}{L b:DL}{M c:DM}{w f:World}{J:JM}(i:JRep w d a J)(g:DRep w a L M)(h:DStep a L M w b c f):JStep d a L M w J b c f :=
 ⟨i.step g h (by unfold DTy;decide),h.Bt,h.fr.mono (fun _ _ e=>.inr e),h.BF⟩
theorem JStep.nil{d a:Nat}{L:DL}{M:DM}{w w':World}{J:JM}(e:JRep w d a J)(c:DRep w a L M)(f:Fr Nil w w'):JStep d a L M w J L M w' :=
 JStep.Al e c (DStep.look c f)
theorem JStep.Bn{d c:Nat}{L a:DL}{M b:DM}{w e w':World}{J':JM}(h:JStep d c L M w J' a b e)(f:Fr Nil e w'):JStep d c L M w J' a b w' :=
 h.trans (JStep.nil h.1 h.2.1 f)
theorem JStep.set{a b:Nat}{L:DL}{M:DM}{w:World}{J J':JM}(g:JRep w a b J)(d:DRep w b L M)(i:Nat)(v:Value)(h:(J.cells b).set i v=J'.cells b):JStep a b L M w J' L M (w.setCell ⟨a,i,none⟩ v):=by
 have f:Fr (fun k=>k=a) w (w.setCell ⟨a,i,none⟩ v):=Fr.set (S:=fun k=>k=a) (U _ _) (fun _=>rfl) _;refine⟨?_,d.fr f (fun k c e=>?_),f.mono (fun _ _ e=>.inl e),fun k c=>.inl c⟩
 .unfold JRep
  rw[<- h];exact Blk.set g i v
 .subst e
  exact d.apart (Blk.ty g) (by unfold DTy;decide) c
theorem ERep.yQ{w i:World}{g b:Nat}{L j:DL}{M l:DM}{J J':JM}{v:Value}{e:Option Int}(h:ERep w v e)(d:JRep w g b J)(c:DRep w b L M)(m:JStep g b L M w J' j l i):ERep i v e :=
 h.fr m.2.2.1 (fun k f a=>by
  rcases a with a|a
  .subst a
   rcases f with h|h
   .exact absurd ((Blk.ty d).inj h) (by decide)
   .exact absurd ((Blk.ty d).inj h) (by decide)
  .rcases f with h|h
   .exact c.apart h (by unfold DTy;decide) a
   .exact c.apart h (by unfold DTy;decide) a)
def JM.Bx(J:JM)(M:DM):Option Int × JM × DM:=(zE M.Bx.1,{J with Bp:=M.Bx.1==0},M.Bx.2)
theorem Vp(j h:Nat)(J:JM)(L:DL)(M:DM)(w:World)(u:JRep w j h J)(B:DRep w h L M) :
 Calls Tryz.prog 133 #[.pointer (some ⟨j,0,none⟩)] w fun e D=>∃ v l,e=.returned v/\ERep D v (J.Bx M).1/\JStep j h L M w (J.Bx M).2.1 l (J.Bx M).2.2 D:=by
 have G:w.cell? ⟨j,0,none⟩=some (.pointer (some ⟨h,0,none⟩)):=u.cell 0;have y:=Z B;have E:=Z u;simp only[JM.Bx];clear B u;go_enter Tryz.func133,Tryz.ntmps133;go_wp2_with fail;refine(Rs w h L M y.out).mono ?_;rintro e K ⟨rfl,l,p⟩;have s:=Z p;clear p;go_wp2_with fail;refine(Ye _ _ _ K).mono ?_;rintro e x ⟨C,rfl,d,o⟩;have f:JStep j h L M w J l M.Bx.2 x:=(JStep.Al E.out y.out s.out).Bn o;have N:=f.1.frozen 6;have I:x.cell? ⟨j,6,none⟩=some (.bool J.Bp):=f.1.cell 6;have c:=Z f;have A:=Z d;clear f o;by_cases i:M.Bx.1=0
 .have hv:C=.nilIface:=by unfold zE at d;rw[IC i] at d;exact d
  subst hv;have m:(M.Bx.1==0)=true:=by simp[i]
  have a:=JStep.set c.out.1 c.out.2.1 6 (.bool true) (J':={J with Bp:=true}) rfl;have r:=Z (c.out.trans a);have g:=Z (A.out.yQ c.out.1 c.out.2.1 a);have q:=Z m;clear i d a m
  go_wp2
  go_ret;rw[q.out];exact⟨_,l,rfl,g.out,r.out⟩
 .obtain⟨k,hk⟩:∃ k,Zo x M.Bx.1 k C:=by unfold zE at d;rw[It i] at d;exact d
  obtain⟨t,b,rfl⟩:=hk.form;have m:(M.Bx.1==0)=false:=by simp[i]
  have a:=JStep.set c.out.1 c.out.2.1 6 (.bool false) (J':={J with Bp:=false}) rfl;have r:=Z (c.out.trans a);have g:=Z (A.out.yQ c.out.1 c.out.2.1 a);have q:=Z m;clear i d a m hk
  go_wp2
  go_ret;rw[q.out];exact⟨_,l,rfl,g.out,r.out⟩
def JM.BE(J:JM)(M:DM):Option Int × JM × DM :=
 if (J.Bj M).1=none/\J.last≠0/\J.Bp=false then J.Bx (J.Bj M).2 else((J.Bj M).1,J,(J.Bj M).2)
theorem Ve(s q:Nat)(J:JM)(L:DL)(M:DM)(w:World)(Q:JRep w s q J)(O:DRep w q L M) :
 Calls Tryz.prog 84 #[.pointer (some ⟨s,0,none⟩)] w fun e X=>∃ v L',e=.returned v/\ERep X v (J.BE M).1/\JStep s q L M w (J.BE M).2.1 L' (J.BE M).2.2 X:=by
 have S:=Z (Vo s q J L M w Q O);have Y:=Z O;have HJ:=Z Q;clear O Q;go_enter Tryz.func84,Tryz.ntmps84;go_wp2_with fail;refine S.out.mono ?_;rintro e D ⟨v1,u,rfl,m,C⟩;have o:JStep s q L M w J u (J.Bj M).2 D:=JStep.Al HJ.out Y.out C;have N:=o.1.cell;simp only[JM.cells] at N;have f:=Z o;have G:=Z m;clear o C S;cases he:(J.Bj M).1 with
 | some n =>
  have j:J.BE M=(some n,J,(J.Bj M).2):=by unfold JM.BE;rw[It (by rw[he];simp),he]
  have p:=Z j;rw[he] at m G;obtain⟨k,T⟩:=m;obtain⟨t,b,rfl⟩:=T.form;clear he j T;go_wp2_with fail;refine(zz _ _ (some n) D G.out).mono ?_;rintro e E ⟨R,rfl,a,c⟩;have d:=Z a;have l:=Z (f.out.Bn c);clear a c
  go_wp2
  go_ret;rw[p.out];exact⟨_,u,rfl,d.out,l.out⟩
 | none =>
  rw[he] at m G;have hv:v1=.nilIface:=m;subst hv;by_cases r:J.last≠0/\J.Bp=false
  .have j:J.BE M=J.Bx (J.Bj M).2:=by unfold JM.BE;rw[IC ⟨he,r⟩]
   have p:=Z j;have HS:=Z (Vp s q J u (J.Bj M).2 D f.out.1 f.out.2.1);have B:0<J.last:=by omega
   have g:=r.2;rw[g] at N;clear he j r m g;go_wp2_with fail;refine HS.out.mono ?_;rintro e E ⟨R,L2,rfl,a,i⟩;have K:=Z (f.out.trans i);have d:=Z a;clear a i;go_wp2_with fail;refine(zz _ _ _ E d.out).mono ?_;rintro e w3 ⟨v3,rfl,x,y⟩;have I:=Z x;have l:=Z (K.out.Bn y);clear x y
   go_wp2
   go_ret;rw[p.out];exact⟨_,L2,rfl,I.out,l.out⟩
  .have j:J.BE M=(none,J,(J.Bj M).2):=by unfold JM.BE;rw[It (fun h=>r h.2),he]
   have p:=Z j;have A:J.last=0\/J.Bp=true:=by
    rcases Fz J.last with h|h
    .exact .inl h
    .right
     cases hds:J.Bp with
     | true=>rfl
     | false=>exact absurd ⟨by omega,hds⟩ r
   clear he j r m;by_cases V:J.last=0
   .have B:¬0<J.last:=by omega
    go_wp2_with fail;refine(zz _ _ none D rfl).mono ?_;rintro e E ⟨R,rfl,a,c⟩;have d:=Z a;have l:=Z (f.out.Bn c);clear a c
    go_wp2
    go_ret;rw[p.out];exact⟨_,u,rfl,d.out,l.out⟩
   .have B:0<J.last:=by omega
    have g:J.Bp=true:=A.resolve_left V;rw[g] at N;clear A V g;go_wp2_with fail;refine(zz _ _ none D rfl).mono ?_;rintro e E ⟨R,rfl,a,c⟩;have d:=Z a;have l:=Z (f.out.Bn c);clear a c
    go_wp2
    go_ret;rw[p.out];exact⟨_,u,rfl,d.out,l.out⟩
end Go.Proofs.YtkhnggkkiefcdaaGreatDoor
namespace Go.Proofs
open Go.Shelf
def Tryz.yd:Go.Shelf.Ren:=⟨fun|171=>81|243=>130|246=>165|283=>205|284=>206|285=>207|286=>208|129=>229|317=>228|318=>230|319=>231|320=>232|337=>242|338=>243|n=>n,fun|3=>3|9=>9|2=>2|4=>4|171=>293|0=>0|53=>274|37=>150|5=>5|173=>296|212=>322|51=>323|20=>20|213=>324|46=>299|232=>340|233=>341|n=>n,fun|17=>1|18=>2|19=>3|n=>n⟩
theorem Tryz.yZ:Go.Proofs.LaysM.n171 Tryz.prog Tryz.yd:={
 mixed:=by kernel_rfl
 f129:=Tryz.func229.trans (congrArg some (by kernel_rfl))
 f171:=Tryz.func81.trans (congrArg some (by kernel_rfl))
 f243:=Tryz.func130.trans (congrArg some (by kernel_rfl))
 f246:=Tryz.func165.trans (congrArg some (by kernel_rfl))
 f283:=Tryz.func205.trans (congrArg some (by kernel_rfl))
 f284:=Tryz.func206.trans (congrArg some (by kernel_rfl))
 f285:=Tryz.func207.trans (congrArg some (by kernel_rfl))
 f286:=Tryz.func208.trans (congrArg some (by kernel_rfl))
 f317:=Tryz.func228.trans (congrArg some (by kernel_rfl))
 f318:=Tryz.func230.trans (congrArg some (by kernel_rfl))
 f319:=Tryz.func231.trans (congrArg some (by kernel_rfl))
 f320:=Tryz.func232.trans (congrArg some (by kernel_rfl))
 f337:=Tryz.func242.trans (congrArg some (by kernel_rfl))
 f338:=Tryz.func243.trans (congrArg some (by kernel_rfl))
 t0:=Tryz.underlying0
 a0:=Tryz.isAgg0
 z0:=Tryz.sizeOf0
 v0:=Tryz.zeroValue0
 t2:=Tryz.underlying2
 a2:=Tryz.isAgg2
 z2:=Tryz.sizeOf2
 v2:=Tryz.zeroValue2
 t3:=Tryz.underlying3
 a3:=Tryz.isAgg3
 z3:=Tryz.sizeOf3
 v3:=Tryz.zeroValue3
 t4:=Tryz.underlying4
 a4:=Tryz.isAgg4
 z4:=Tryz.sizeOf4
 v4:=Tryz.zeroValue4
 t5:=Tryz.underlying5
 a5:=Tryz.isAgg5
 z5:=Tryz.sizeOf5
 v5:=Tryz.zeroValue5
 t9:=Tryz.underlying9
 a9:=Tryz.isAgg9
 z9:=Tryz.sizeOf9
 v9:=Tryz.zeroValue9
 t20:=Tryz.underlying20
 a20:=Tryz.isAgg20
 z20:=Tryz.sizeOf20
 v20:=Tryz.zeroValue20
 t37:=Tryz.underlying150
 a37:=Tryz.isAgg150
 z37:=Tryz.sizeOf150
 v37:=Tryz.zeroValue150
 t46:=Tryz.underlying299
 a46:=Tryz.isAgg299
 z46:=Tryz.sizeOf299
 v46:=Tryz.zeroValue299
 t51:=Tryz.underlying323
 a51:=Tryz.isAgg323
 z51:=Tryz.sizeOf323
 v51:=Tryz.zeroValue323
 t53:=Tryz.underlying274
 a53:=Tryz.isAgg274
 z53:=Tryz.sizeOf274
 v53:=Tryz.zeroValue274
 t171:=Tryz.underlying293
 a171:=Tryz.isAgg293
 z171:=Tryz.sizeOf293
 v171:=Tryz.zeroValue293
 t173:=Tryz.underlying296
 a173:=Tryz.isAgg296
 z173:=Tryz.sizeOf296
 v173:=Tryz.zeroValue296
 t212:=Tryz.underlying322
 a212:=Tryz.isAgg322
 z212:=Tryz.sizeOf322
 v212:=Tryz.zeroValue322
 t213:=Tryz.underlying324
 a213:=Tryz.isAgg324
 z213:=Tryz.sizeOf324
 t232:=Tryz.underlying340
 a232:=Tryz.isAgg340
 z232:=Tryz.sizeOf340
 v232:=Tryz.zeroValue340
 t233:=Tryz.underlying341
 a233:=Tryz.isAgg341
 z233:=Tryz.sizeOf341
 v233:=Tryz.zeroValue341
 g17:=by kernel_rfl
 g18:=by kernel_rfl
 g19:=by kernel_rfl
 i0:=by kernel_rfl
 i2:=by kernel_rfl
 i3:=by kernel_rfl
 i4:=by kernel_rfl
 i5:=by kernel_rfl
 i9:=by kernel_rfl
 i20:=by kernel_rfl
 i37:=by kernel_rfl
 i46:=by kernel_rfl
 i51:=by kernel_rfl
 i53:=by kernel_rfl
 i171:=by kernel_rfl
 i173:=by kernel_rfl
 i212:=by kernel_rfl
 i232:=by kernel_rfl
 i233:=by kernel_rfl
 m17:=by kernel_rfl
 m18:=by kernel_rfl
 m19:=by kernel_rfl}
def Tryz.yb:Go.Shelf.Ren:=⟨fun|25=>125|n=>n,fun|9=>9|3=>3|4=>4|37=>150|0=>0|47=>240|5=>5|n=>n,fun|n=>n⟩
theorem Tryz.ye:Go.Proofs.LaysPu.n25 Tryz.prog Tryz.yb:={
 mixed:=by kernel_rfl
 f25:=Tryz.func125.trans (congrArg some (by kernel_rfl))
 t0:=Tryz.underlying0
 a0:=Tryz.isAgg0
 z0:=Tryz.sizeOf0
 v0:=Tryz.zeroValue0
 i0:=by kernel_rfl
 t3:=Tryz.underlying3
 a3:=Tryz.isAgg3
 z3:=Tryz.sizeOf3
 v3:=Tryz.zeroValue3
 i3:=by kernel_rfl
 t4:=Tryz.underlying4
 a4:=Tryz.isAgg4
 z4:=Tryz.sizeOf4
 v4:=Tryz.zeroValue4
 i4:=by kernel_rfl
 t5:=Tryz.underlying5
 a5:=Tryz.isAgg5
 z5:=Tryz.sizeOf5
 v5:=Tryz.zeroValue5
 i5:=by kernel_rfl
 t9:=Tryz.underlying9
 a9:=Tryz.isAgg9
 z9:=Tryz.sizeOf9
 v9:=Tryz.zeroValue9
 i9:=by kernel_rfl
 t37:=Tryz.underlying150
 a37:=Tryz.isAgg150
 z37:=Tryz.sizeOf150
 v37:=Tryz.zeroValue150
 i37:=by kernel_rfl
 t47:=Tryz.underlying240
 a47:=Tryz.isAgg240
 z47:=Tryz.sizeOf240
 v47:=Tryz.zeroValue240
 i47:=by kernel_rfl}
end Go.Proofs
namespace Go.Proofs.YtkhnggkkiefcdaaGreatDoor
open Go.RowKit
set_option maxRecDepth 100000
set_option maxHeartbeats 8000000
def XM:String:=(Rows.writesRow.laid.map (fun x=>x.1)).getD 2 ""
def Tab(w:World):Prop:=Lib.TabIs Tryz.prog w XM .u64 Lib.pow10Tab
def XA(n:Nat):ByteArray:=⟨(Lib.itoa n).toArray⟩
theorem Jp(w:World)(b:Array Obj):Fr Nil w (Sort.grow w b):=⟨rfl,rfl,rfl,by simp[Sort.grow],fun k a _=>by simp[Sort.grow,Array.getElem?_append,a]⟩
theorem M7(n:Nat)(h:n<9223372036854775808)(w:World)(b:Tab w) :
 Calls Tryz.prog 81 #[.int .i64 n] w fun e a=>e=.returned (.string (XA n))/\Fr Nil w a:=by
 have:=Any.strconv_Itoa Tryz.yZ n (by omega) (by omega) w b;refine CX (show Calls Tryz.prog 81 #[.int .i64 n] w _ from this) ?_;rintro e a ⟨rfl,k,c,rfl⟩;exact⟨rfl,((U _ _).drewN k).trans (Jp _ c)⟩
def Hnd(w:World):Prop:=w.cell? ⟨0,0,none⟩=some (.iface 309 (.agg #[.pointer (some ⟨6,132,none⟩)]))
def YU(B:Nat)(w:World):Prop:=Tab w/\(∀ g,Tryz.prog.globalNamed XM=some g->g<B)/\Hnd w/\0<B
theorem YU.fr{B:Nat}{S:Nat->Prop}{w w':World}(h:YU B w)(q:B<=w.heap.size)(f:Fr S w w')(e:∀ k,S k->B<=k):YU B w':=by
 refine⟨?_,h.2.1,(f.cell (by have:=h.2.2.2;show _<_;simp only;omega) (fun c=>by have:=e _ c;have:=h.2.2.2;simp only at *;omega)).trans h.2.2.1,h.2.2.2⟩;have a:=h.1;unfold Tab Lib.TabIs World.var? at a |-;cases hg:Tryz.prog.globalNamed XM with
 | none=>rw[hg] at a;simp at a
 | some g =>
  rw[hg] at a;have o:=h.2.1 g hg;simp only[Dm] at a |-;rw[f.block g (by omega) (fun c=>by have:=e g c;omega)];exact a
def zu(a:ByteArray)(n:Nat):ByteArray:=a++XA n
theorem WK(a:ByteArray)(b:a.size<=1000)(n:Nat)(h:n<9223372036854775808)(w:World)(d:Tab w) :
 Calls Tryz.prog 173 #[.string a,.int .i64 n] w fun e k=>e=.returned (.string (zu a n))/\Fr Nil w k:=by
 have c:=Z (M7 n h w d);unfold zu;have g:(XA n).size<=21:=by unfold XA;simpa [ByteArray.size] using Lib.itoa_length_le (n:Int) (by omega) (by omega)
 generalize XA n=s at c g |-;have i:(a.size:Int)+s.size<=9223372036854775807:=by omega
 have j:¬(9223372036854775807:Int)<(a.size:Int)+s.size:=by omega
 clear d;go_enter Tryz.func173,Tryz.ntmps173
 go_wp2_with (refine c.out.mono ?_;rintro e l ⟨rfl,f⟩)
 go_ret;exact⟨rfl,f⟩
def zL:ByteArray:=⟨#[108,111,103]⟩
def JM.begin(J:JM)(M:DM)(a f:Nat):Option Int × JM × DM :=
 match (J.Bj M).1 with
 | some n=>(some n,J,(J.Bj M).2)
 | none =>
  if ((J.Bj M).2.create (zu zL a) f).1=0 then
   (none,{J with last:=a,name:=zu zL a,size:=0,At:=false,Bp:=false},((J.Bj M).2.create (zu zL a) f).2)
  else(some ((J.Bj M).2.create (zu zL a) f).1,J,((J.Bj M).2.create (zu zL a) f).2)
theorem XV(B r j:Nat)(J:JM)(L:DL)(M:DM)(a:Nat)(G:a<9223372036854775808)(w:World)(hj:JRep w r j J)(Y:DRep w j L M)(ht:YU B w)(hB:B<=w.heap.size)(o:∀ k,Foot j L M k->B<=k)
 (T:(J.Bj M).2.Bl.length+1<=1000000000000)(V:(J.Bj M).2.dir.length+1<=1000000000000) :
 Calls Tryz.prog 210 #[.pointer (some ⟨r,0,none⟩),.int .i64 a] w fun e w' =>
  ∃ f v L',e=.returned v/\w.heap.size<=f/\ERep w' v (J.begin M a f).1/\JStep r j L M w (J.begin M a f).2.1 L' (J.begin M a f).2.2 w':=by
 have HC:=Z (Vo r j J L M w hj Y);have HD:=Z Y;have HJ:=Z hj;have HT:=Z ht;clear Y hj ht;go_enter Tryz.func210,Tryz.ntmps210;go_wp2_with fail;refine HC.out.mono ?_;rintro e w1 ⟨v1,Q,rfl,q,i⟩;have E:JStep r j L M w J Q (J.Bj M).2 w1:=JStep.Al HJ.out HD.out i;have A:Tab w1:=(HT.out.fr hB i.fr o).1;have u:=Z E;have K:=Z q;have a1:=i.fr.size;clear E i HC;cases he:(J.Bj M).1 with
 | some n =>
  have I:∀ f,J.begin M a f=(some n,J,(J.Bj M).2):=by intro f;unfold JM.begin;rw[he]
  have x:=Z I;rw[he] at q K;obtain⟨k,hk⟩:=q;obtain⟨t,b,rfl⟩:=hk.form;clear he I hk
  go_wp2
  go_ret;refine⟨w.heap.size,_,Q,rfl,Io _,?_,?_⟩
  .rw[x.out];exact K.out
  .rw[x.out];exact u.out
 | none =>
  rw[he] at q K;have hv:v1=.nilIface:=q;subst hv;have I:∀ f,J.begin M a f=if ((J.Bj M).2.create (zu zL a) f).1=0 then
   (none,{J with last:=a,name:=zu zL a,size:=0,At:=false,Bp:=false},((J.Bj M).2.create (zu zL a) f).2)
   else(some ((J.Bj M).2.create (zu zL a) f).1,J,((J.Bj M).2.create (zu zL a) f).2):=by intro f;unfold JM.begin;rw[he]
  have x:=Z I;clear he I q;go_wp2_with fail;refine(WK zL (by decide) a G w1 A).mono ?_;rintro e w2 ⟨rfl,m⟩;have g:=u.out.Bn m;have X:w2.cell? ⟨r,0,none⟩=some (.pointer (some ⟨j,0,none⟩)):=g.1.cell 0;have h:=Z g;have a0:=m.size;clear g m A;go_wp2_with fail;refine(Ub (zu zL a) w2 j Q (J.Bj M).2 h.out.2.1 T V).mono ?_;rintro e w3 ⟨f,L3,rfl,hf,l⟩;have c:=h.out.trans (JStep.Al h.out.1 h.out.2.1 l);have hc:=c.1.cell;have hz:=c.1.frozen;simp only[JM.cells] at hc;have s:=Z c;clear c l X;by_cases p:((J.Bj M).2.create (zu zL a) f).1=0
  .have hp2:=x.out f
   rw[IC p] at hp2;have hq:(((J.Bj M).2.create (zu zL a) f).1 != 0)=false:=by simp[p]
   have d:=Z hp2;clear hp2 p
   go_wp2
   go_ret;refine⟨f,_,L3,rfl,by omega,?_,?_⟩
   .rw[d.out];rfl
   .rw[d.out]
    have R:=s.out;have s1:=JStep.set R.1 R.2.1 2 (.int .i64 a) (J':={J with last:=a}) rfl;have s2:=JStep.set s1.1 s1.2.1 3 (.string (zu zL a)) (J':={J with last:=a,name:=zu zL a}) rfl;have s3:=JStep.set s2.1 s2.2.1 4 (.int .i64 0) (J':={J with last:=a,name:=zu zL a,size:=0}) rfl;have s4:=JStep.set s3.1 s3.2.1 5 (.bool false) (J':={J with last:=a,name:=zu zL a,size:=0,At:=false}) rfl;have s5:=JStep.set s4.1 s4.2.1 6 (.bool false) (J':={J with last:=a,name:=zu zL a,size:=0,At:=false,Bp:=false}) rfl;exact((((R.trans s1).trans s2).trans s3).trans s4).trans s5
  .have hp2:=x.out f
   rw[It p] at hp2;have hq:(((J.Bj M).2.create (zu zL a) f).1 != 0)=true:=by simp[p]
   have C:zE ((J.Bj M).2.create (zu zL a) f).1=some ((J.Bj M).2.create (zu zL a) f).1:=by unfold zE;rw[It p]
   have d:=Z hp2;have O:=Z C;clear hp2 p C;go_wp2_with fail;refine(Ye _ _ _ w3).mono ?_;rintro e w4 ⟨v4,rfl,y,D⟩;have N:=Z y;have HF:=Z (s.out.Bn D);clear y D
   go_wp2
   go_ret;refine⟨f,_,L3,rfl,by omega,?_,?_⟩
   .rw[d.out];have:=N.out;rw[O.out] at this;exact this
   .rw[d.out];exact HF.out
def JM.fits(J:JM)(a:Nat):Bool:=decide (J.last≠0)&&(!J.At&&decide (J.size+a<=J.limit))
def JM.Bq(J:JM)(M:DM)(a f:Nat):Option Int × JM × DM:=if J.fits a=true then(none,J,M) else J.begin M (J.last+1) f
theorem Sg(B o l:Nat)(J:JM)(L:DL)(M:DM)(a:Nat)(a1:a<1000000000000)(a2:J.size<1000000000000)(a0:J.last+1<1000000000000)(w:World)(T:JRep w o l J)(Y:DRep w l L M)(ht:YU B w)(A:B<=w.heap.size)(g:∀ k,Foot l L M k->B<=k)
 (x:(J.Bj M).2.Bl.length+1<=1000000000000)(y:(J.Bj M).2.dir.length+1<=1000000000000) :
 Calls Tryz.prog 202 #[.pointer (some ⟨o,0,none⟩),.int .i64 a] w fun e w' =>
  ∃ f v L',e=.returned v/\w.heap.size<=f/\ERep w' v (J.Bq M a f).1/\JStep o l L M w (J.Bq M a f).2.1 L' (J.Bq M a f).2.2 w':=by
 have N:=T.cell;simp only[JM.cells] at N;have t:=Z Y;have u:=Z T;have O:=Z ht;clear Y T ht;have a3:IntKind.i64.wrap ((J.size:Int)+a)=(J.size:Int)+a:=by rw[Hg];omega
 have a4:IntKind.i64.wrap ((J.last:Int)+1)=(J.last:Int)+1:=by rw[Hg];omega
 cases hfit:J.fits a with
 | true =>
  have K:∀ f,J.Bq M a f=(none,J,M):=by intro f;unfold JM.Bq;rw[IC hfit]
  have m:=Z K;simp only[JM.fits,Hz,IF,DR] at hfit;obtain⟨G,q,h3⟩:=hfit;have V:decide ((0:Int)<J.last)=true:=by simp;omega
  have Q:(0:Int)<J.last:=by omega
  have X:decide ((J.size:Int)+a<=J.limit)=true:=by simp;omega
  have E:decide (0<J.last)=true:=by simp;omega
  have R:decide (J.size+a<=J.limit)=true:=by simp;omega
  rw[q] at N;clear K G q h3;go_enter CA,Ce;go_wp2_with fail
  go_quiet (fail)
  go_wp2
  go_ret;refine⟨w.heap.size,_,L,rfl,Io _,?_,?_⟩
  .rw[m.out];rfl
  .rw[m.out];exact JStep.nil u.out t.out (by exact zd)
 | false =>
  have K:∀ f,J.Bq M a f=J.begin M (J.last+1) f:=by intro f;unfold JM.Bq;rw[It (by rw[hfit];simp)]
  have m:=Z K;clear K;by_cases G:0<J.last
  .have V:decide ((0:Int)<J.last)=true:=by simp;omega
   have Q:(0:Int)<J.last:=by omega
   have E:decide (0<J.last)=true:=by simp;omega
   cases q:J.At with
   | true =>
    rw[q] at N;clear hfit G q;go_enter CA,Ce;go_wp2_with fail
    go_quiet (fail)
    go_wp2_with fail;refine(XV B o l J L M (J.last+1) (by omega) _ (Blk.drewN u.out _) (t.out.nil (by exact zd)) (O.out.fr A (S:=Nil) (by exact zd) (fun _ h=>absurd h id)) A g x y).mono ?_;rintro e s ⟨f,v2,p,rfl,I,r,d⟩;have C:=Z r;have D:Hid (JStep o l L M w (J.begin M (J.last+1) f).2.1 p (J.begin M (J.last+1) f).2.2 s):=(JStep.nil u.out t.out (by exact zd)).trans d;clear r d;go_wp2_with fail;refine(zz _ _ _ s C.out).mono ?_;rintro e w3 ⟨v3,rfl,b,c⟩;have i:=Z b;have j:=Z (D.out.Bn c);clear b c
    go_wp2
    go_ret;refine⟨f,_,p,rfl,I,?_,?_⟩
    .rw[m.out];exact i.out
    .rw[m.out];exact j.out
   | false =>
    have X:decide ((J.size:Int)+a<=J.limit)=false:=by
     simp only[JM.fits,q,Bool.not_false,Cf,Bool.and_eq_false_iff,Gn] at hfit;simp;omega
    have R:decide (J.size+a<=J.limit)=false:=by simp at X |-;omega
    rw[q] at N;clear hfit G q;go_enter CA,Ce;go_wp2_with fail
    go_quiet (fail)
    go_wp2_with fail;refine(XV B o l J L M (J.last+1) (by omega) _ (Blk.drewN u.out _) (t.out.nil (by exact zd)) (O.out.fr A (S:=Nil) (by exact zd) (fun _ h=>absurd h id)) A g x y).mono ?_;rintro e s ⟨f,v2,p,rfl,I,r,d⟩;have C:=Z r;have D:Hid (JStep o l L M w (J.begin M (J.last+1) f).2.1 p (J.begin M (J.last+1) f).2.2 s):=(JStep.nil u.out t.out (by exact zd)).trans d;clear r d;go_wp2_with fail;refine(zz _ _ _ s C.out).mono ?_;rintro e w3 ⟨v3,rfl,b,c⟩;have i:=Z b;have j:=Z (D.out.Bn c);clear b c
    go_wp2
    go_ret;refine⟨f,_,p,rfl,I,?_,?_⟩
    .rw[m.out];exact i.out
    .rw[m.out];exact j.out
  .have V:decide ((0:Int)<J.last)=false:=by simp;omega
   have E:decide (0<J.last)=false:=by simp;omega
   clear hfit G;go_enter CA,Ce;go_wp2_with fail
   go_quiet (fail)
   go_wp2_with fail;refine(XV B o l J L M (J.last+1) (by omega) _ (Blk.drewN u.out _) (t.out.nil (by exact zd)) (O.out.fr A (S:=Nil) (by exact zd) (fun _ h=>absurd h id)) A g x y).mono ?_;rintro e s ⟨f,v2,p,rfl,I,r,d⟩;have C:=Z r;have D:Hid (JStep o l L M w (J.begin M (J.last+1) f).2.1 p (J.begin M (J.last+1) f).2.2 s):=(JStep.nil u.out t.out (by exact zd)).trans d;clear r d;go_wp2_with fail;refine(zz _ _ _ s C.out).mono ?_;rintro e w3 ⟨v3,rfl,b,c⟩;have i:=Z b;have j:=Z (D.out.Bn c);clear b c
   go_wp2
   go_ret;refine⟨f,_,p,rfl,I,?_,?_⟩
   .rw[m.out];exact i.out
   .rw[m.out];exact j.out
end Go.Proofs.YtkhnggkkiefcdaaGreatDoor
