/- larder: joined texts -/
import Derived.Test.YtkhnggkkiefcdaaGreatDoorSFAD
import Derived.Test.YtkhnggkkiefcdaaGreatDoorSFAP
import Derived.StillTailTactics
namespace Go.Proofs.YtkhnggkkiefcdaaGreatDoor
open Go.RowKit Go.Shelf
set_option maxRecDepth 100000
set_option maxHeartbeats 8000000
attribute [local go_sem] FQ
abbrev fFS:=@Go.KeepsOthers.setCell
def Odd(S:Nat->Prop)(w:World):Prop:=∀ k,S k->∃ o:Obj,w.heap[k]?=some o/\o.isCells=false
theorem Ty.odd{w:World}{k:Nat}{t:TypeId}{S:Nat->Prop}(h:Ty w k t)(d:Odd S w):¬S k:=fun hs=>by
 obtain⟨c,f,h⟩:=h;obtain⟨o,a,b⟩:=d k hs;rw[h] at a;cases a;cases b
theorem SRep.odd{S:Nat->Prop}{w d:World}{b:Nat}{L:SL}{X:SM}(h:SRep w b L X)(f:Fr S w d)(c:Odd S w):SRep d b L X :=
 h.fr f (fun k a=>by rcases h.BH a with e|e|e <;> exact e.odd c) (fun k a=>(h.BV a).odd c)
theorem DRep.odd{S:Nat->Prop}{w a:World}{b:Nat}{L:DL}{M:DM}(h:DRep w b L M)(f:Fr S w a)(d:Odd S w):DRep a b L M :=
 h.fr f (fun k c=>by obtain⟨t,e,_⟩:=h.ty c;exact e.odd d)
theorem SRep.yv{w:World}{b c:Nat}{a:SL}{X:SM}{L:DL}{M:DM}(h:SRep w c a X)(d:DRep w b L M){k:Nat}(f:Foot b L M k):¬SFoot c a k:=fun hs=>by
 rcases h.BH hs with e|e|e
 all_goals exact d.apart e (by unfold DTy;decide) f
def ZD(a:List Seg)(i:Nat):Seg:=a.getD i ([],[])
def JM.read(a:Nat)(b:List (Nat × ByteArray))(c:List Seg):Nat->JM
 | 0=>JM.none a
 | i+1=>{Bw:=a,last:=(ZK b i).1,name:=(ZK b i).2,size:=(Ze (ZD c i)).length,Ad:=decide (0<(ZD c i).2.length),Bm:=false}
def MV(w:World)(m g b c:Nat)(e:SL)(j L:DL)(l M:DM)(v:Value)(f:List (Nat × ByteArray))(a:Nat)(h:List Seg)(i:Nat)(W:World):Prop :=
 ((Blk W (w.heap.size+3) [.pointer none] 119/\Blk W (w.heap.size+4) [.nilIface] 132/\Blk W m [.pointer (some ⟨g,0,none⟩)] 119/\JRep W g b (JM.read a f h i)) /\
 (Blk W w.heap.size [.pointer (some ⟨b,0,none⟩)] 40/\Blk W (w.heap.size+1) [.func (.func 95) #[] #[]] 166/\Blk W (w.heap.size+2) [.func (.func 96) #[.pointer (some ⟨c,0,none⟩)] #[]] 167)) /\
 ((∃ d,SRep W c d (Zj (h.take i))/\(∀ k,SFoot c d k->SFoot c e k\/w.heap.size<=k)/\(∀ k,SRead d k->SRead e k\/w.heap.size<=k)) /\
 DRep W b L M/\W.ownsRow 0 268 2 v f.length (Zz f)) /\
 w.heap.size<=W.heap.size/\Fr (fun k=>SFoot c e k\/Foot b j l k) w W
theorem Kn(w:World)(R K b N:Nat)(y:SL)(x L:DL)(z M:DM)(v:Value)(I:List (Nat × ByteArray))(c:Nat)(Q:List Seg)(B:Nat)(V:w.heap.size<=B):OwnFrom B (MV w R K b N y x L z M v I c Q):=by
 intro i W T row h J t;have f:=Fr.Bv J;have a:Odd (fun k=>row=some k) W:=fun k e=>(t k e).2;obtain⟨⟨⟨d,g,j,l⟩,m,o,q⟩,⟨⟨u,A,C,D⟩,E,r⟩,F,G⟩:=h;refine⟨⟨⟨d.fr f (d.ty.odd a),g.fr f (g.ty.odd a),j.fr f (j.ty.odd a),Blk.fr l f ((Blk.ty l).odd a)⟩,m.fr f (m.ty.odd a),o.fr f (o.ty.odd a),q.fr f (q.ty.odd a)⟩,
  ⟨⟨u,A.odd f a,C,D⟩,E.odd f a,zb r f (fun k s=>(zD r s).odd a)⟩,IP F f.size,G.trans' f (fun k s e=>?_)⟩
 have:=(t k e).1;omega
theorem Ni(a:List Seg)(i:Nat)(h:i<a.length):Zj (a.take (i+1))=(ZD a i).1.foldl SM.enter (Zj (a.take i)):=by
 unfold Zj ZD;rw[EM,IW h,zW,Gq];simp[ze,List.getD_eq_getElem?_getD,List.getElem?_eq_getElem h]
theorem Jo(A B C:List Fact)(j:Nat):(A++(B++C)).take (A.length+min j B.length)=A++B.take j:=by
 rw[List.take_append,Hn (Cp _ _),Nat.add_sub_cancel_left,Gk (Cq ..)]
 congr 1
 rcases EU j B.length with h|h
 .rw[Gv h]
 .rw[Cr h,Hn h,Hn (IQ _)]
theorem Ko(a:List Seg)(i:Nat)(h:i<a.length)(j:Nat):((ZD a i).1.take j).foldl SM.enter (Zj (a.take i))=((ze a).take ((ze (a.take i)).length+min j (ZD a i).1.length)).foldl SM.enter SM.nil:=by
 have e:ze a=ze (a.take i)++((ZD a i).1++ze (a.drop (i+1))):=by
  have b:ze a=ze (a.take i++a[i]::a.drop (i+1)):=by rw[<- Gm h,Ge]
  rw[b,zW];have c:ZD a i=a[i]:=by simp[ZD,List.getD_eq_getElem?_getD,List.getElem?_eq_getElem h]
  rw[c]
  rfl
 rw[show(ze a).take ((ze (a.take i)).length+min j (ZD a i).1.length)=ze (a.take i)++(ZD a i).1.take j by rw[e,Jo],Gq]
 rfl
theorem Nj(b:Nat) (L M2)(M:DM)(a:Nat)(B:Nat)(LS:SL)(u:List (Nat × ByteArray))(s:List Seg)(w:World)(h:DRep w b L M)(hs:SRep w B LS SM.nil)
 (j1:∀ wx,Fr Nil w wx->Calls Tryz.prog 144 #[.pointer (some ⟨b,0,none⟩)] wx fun e w'=>∃ R,e=.returned .nilIface/\DStep b L M wx R M2 w')
 (i0:∀ wx R,DRep wx b R M2->Fr (Foot b L M) w wx->Calls Tryz.prog 145 #[.pointer (some ⟨b,0,none⟩)] wx fun e w'=>∃ mb v,e=.returned (.pointer (some ⟨mb,0,none⟩))/\Blk w' mb [v] 263/\Vx w' v u/\wx.heap.size<=mb/\(∀ k,v.ownBlock=some k->wx.heap.size<=k)/\Fr Nil wx w')
 (h8:u.length=s.length)(i5:u.length<1000000000)(b7:∀ i,i<u.length->∃ f,M2.dir.look (ZK u i).2=some f/\(M2.file f).bytes=Ze (ZD s i))(i9:YZ s)
 (d1:∀ i,(((ze s).take i).foldl SM.enter SM.nil).keys.length<1099511627776/\(((ze s).take i).foldl SM.enter SM.nil).hints.length<1000000) :
 Calls Tryz.prog 94 #[.pointer (some ⟨b,0,none⟩),.int .i64 a,.func (.func 95) #[] #[],.func (.func 96) #[.pointer (some ⟨B,0,none⟩)] #[]] w fun e w' =>
  ∃ jb R d7,e=.returned (.tuple #[.pointer (some ⟨jb,0,none⟩),.nilIface])/\JRep w' jb b (JM.read a u s u.length)/\w.heap.size<=jb/\DRep w' b R M2/\(∀ k,Foot b R M2 k->Foot b L M k\/w.heap.size<=k) /\
   SRep w' B d7 (Zj s)/\(∀ k,SFoot B d7 k->SFoot B LS k\/w.heap.size<=k)/\(∀ k,SRead d7 k->SRead LS k\/w.heap.size<=k)/\Fr (fun k=>SFoot B LS k\/Foot b L M k) w w':=by
 have k4:=Z j1;have j8:=Z i0;have HD:=Z h;have HS:=Z hs;clear j1 i0 h hs;refine(Fc (n:=8)).1 ?_;refine DJ Tryz.func94 rfl trivial ?_ rfl;simp only[Tryz.ntmps94,FN,Hq,Gt,Nat.reduceAdd,Nat.reduceSub,Ef,Eg,EK,Eo,Hd,IY];have b0:=Blk.new w [.pointer (some ⟨b,0,none⟩)] 40;have f0:Fr Nil w (w.alloc (.cells #[.pointer (some ⟨b,0,none⟩)] 40)):=(O _ _).alloc _;have s0:(w.alloc (.cells #[.pointer (some ⟨b,0,none⟩)] 40)).heap.size=w.heap.size+1:=by simp
 gi_wp2_with fail
 generalize w.alloc (.cells #[.pointer (some ⟨b,0,none⟩)] 40)=wa at b0 f0 s0 |-;have f1:Fr Nil wa ((wa.alloc (.cells #[.func (.func 95) #[] #[]] 166)).alloc (.cells #[.func (.func 96) #[.pointer (some ⟨B,0,none⟩)] #[]] 167)):=((O _ _).alloc _).alloc _;have b1:=(Blk.new wa [.func (.func 95) #[] #[]] 166).alloc (.cells #[.func (.func 96) #[.pointer (some ⟨B,0,none⟩)] #[]] 167);have b2:=Blk.new (wa.alloc (.cells #[.func (.func 95) #[] #[]] 166)) [.func (.func 96) #[.pointer (some ⟨B,0,none⟩)] #[]] 167;rw[show(wa.alloc (.cells #[.func (.func 95) #[] #[]] 166)).heap.size=w.heap.size+2 by simp[s0]] at b2;rw[s0] at b1;have s1:((wa.alloc (.cells #[.func (.func 95) #[] #[]] 166)).alloc (.cells #[.func (.func 96) #[.pointer (some ⟨B,0,none⟩)] #[]] 167)).heap.size=w.heap.size+3:=by simp[s0]
 generalize (wa.alloc (.cells #[.func (.func 95) #[] #[]] 166)).alloc (.cells #[.func (.func 96) #[.pointer (some ⟨B,0,none⟩)] #[]] 167)=wb at b1 b2 f1 s1 |-;have b3:=Blk.new wb [.pointer none] 119;have b4:=Blk.new (wb.alloc (.cells #[.pointer none] 119)) [.nilIface] 132;have s3:(wb.alloc (.cells #[.pointer none] 119)).heap.size=w.heap.size+4:=by simp[s1]
 have s4:((wb.alloc (.cells #[.pointer none] 119)).alloc (.cells #[.nilIface] 132)).heap.size=w.heap.size+5:=by simp[s1]
 have f3:Fr Nil wb ((wb.alloc (.cells #[.pointer none] 119)).alloc (.cells #[.nilIface] 132)):=((O _ _).alloc _).alloc _;have b3:=b3.alloc (.cells #[.nilIface] 132);rw[s1] at b3;rw[s3] at b4;have b0:=(b0.fr f1 id).fr f3 id;have b1:=b1.fr f3 id;have b2:=b2.fr f3 id;generalize (wb.alloc (.cells #[.pointer none] 119)).alloc (.cells #[.nilIface] 132)=wc at b0 b1 b2 b3 b4 s4 f3 |-;have f:=(f0.trans f1).trans f3;rw[show w.heap.size+1+1+1=w.heap.size+3 from rfl,show w.heap.size+1+1=w.heap.size+2 from rfl,show w.heap.size+3+1=w.heap.size+4 from rfl] at *;have HX:=Z (show w.heap.size+5=wc.heap.size from s4.symm);have A:=Z (And.intro b0 (And.intro b1 (And.intro b2 (And.intro b3 b4))));have d5:=Z f;clear f0 f1 f3 s0 s1 s3 s4 b0 b1 b2 b3 b4 f;refine⟨trivial,?_⟩;refine(Fc.2 (k4.out wc d5.out)).mono ?_;rintro e m ⟨R,rfl,r⟩;have X:∀ {k c t},Blk wc k c t->¬DTy t->¬Foot b L M k:=fun hb ht=>(HD.out.nil d5.out).apart hb.ty ht;have b9:=A.out.1.fr r.fr (X A.out.1 (by unfold DTy;decide));have g1:=A.out.2.1.fr r.fr (X A.out.2.1 (by unfold DTy;decide));have g2:=A.out.2.2.1.fr r.fr (X A.out.2.2.1 (by unfold DTy;decide));have g3:=A.out.2.2.2.1.fr r.fr (X A.out.2.2.2.1 (by unfold DTy;decide));have g4:=A.out.2.2.2.2.fr r.fr (X A.out.2.2.2.2 (by unfold DTy;decide));have l9:w.heap.size+5<=m.heap.size:=by rw[HX.out];exact r.fr.size
 have F1:Fr (Foot b L M) w m:=(d5.out.mono (S':=Foot b L M) (fun _ _ e=>absurd e id)).trans r.fr;have d0:∀ k,Foot b R M2 k->Foot b L M k\/w.heap.size<=k:=fun k o=>(r.BA k o).imp id (fun e=>by have:=HX.out;omega);have d3:SRep m B LS SM.nil:=HS.out.fr F1 (fun k o hf=>HS.out.yv HD.out hf o) (fun k o=>HD.out.apart (HS.out.BV o) (by unfold DTy;decide));have e5:=r.CZ;have k5:=b9.cell 0;clear r X;have f4:Fr Nil m ((m.alloc (.cells #[.pointer (some ⟨b,0,none⟩),.int .i64 a,.int .i64 0,.string ⟨#[]⟩,.int .i64 0,.bool false,.bool false] 197)).alloc (.cells #[.pointer (some ⟨m.heap.size,0,none⟩)] 119)):=((O _ _).alloc _).alloc _;have bj:=(Blk.new m [.pointer (some ⟨b,0,none⟩),.int .i64 a,.int .i64 0,.string ⟨#[]⟩,.int .i64 0,.bool false,.bool false] 197).alloc (.cells #[.pointer (some ⟨m.heap.size,0,none⟩)] 119);have bp:=Blk.new (m.alloc (.cells #[.pointer (some ⟨b,0,none⟩),.int .i64 a,.int .i64 0,.string ⟨#[]⟩,.int .i64 0,.bool false,.bool false] 197)) [.pointer (some ⟨m.heap.size,0,none⟩)] 119;rw[show(m.alloc (.cells #[.pointer (some ⟨b,0,none⟩),.int .i64 a,.int .i64 0,.string ⟨#[]⟩,.int .i64 0,.bool false,.bool false] 197)).heap.size=m.heap.size+1 by simp] at bp;have sp:((m.alloc (.cells #[.pointer (some ⟨b,0,none⟩),.int .i64 a,.int .i64 0,.string ⟨#[]⟩,.int .i64 0,.bool false,.bool false] 197)).alloc (.cells #[.pointer (some ⟨m.heap.size,0,none⟩)] 119)).heap.size=m.heap.size+2:=by simp
 have g5:=(b9.fr f4 id).cell 0
 gi_wp2_with fail
 generalize (m.alloc (.cells #[.pointer (some ⟨b,0,none⟩),.int .i64 a,.int .i64 0,.string ⟨#[]⟩,.int .i64 0,.bool false,.bool false] 197)).alloc (.cells #[.pointer (some ⟨m.heap.size,0,none⟩)] 119)=wp at bp sp bj f4 g5 |-;have F3:Fr (Foot b L M) w wp:=F1.trans (f4.mono (S':=Foot b L M) (fun _ _ e=>absurd e id));have h7:=e5.nil f4;refine⟨trivial,?_⟩;refine(Fc.2 (j8.out wp R h7 F3)).mono ?_;rintro e w2 ⟨mb,v,rfl,e9,b6,i7,j5,e7⟩;have m0:m.heap.size+2<=w2.heap.size:=by have:=e7.size;omega
 have d2:=e9.lt
 gi_wp2_with fail
 refine⟨trivial,?_⟩;refine(Fc.2 (TO mb _)).mono ?_;rintro e w3 ⟨rfl,rfl⟩;have bM:=Cj w2 211 (.pointer (some ⟨mb,0,none⟩));have f5:Fr Nil w2 (w2.alloc (.cells #[.pointer (some ⟨mb,0,none⟩)] 211)):=(O _ _).alloc _;have s5:(w2.alloc (.cells #[.pointer (some ⟨mb,0,none⟩)] 211)).heap.size=w2.heap.size+1:=by simp
 generalize w2.alloc (.cells #[.pointer (some ⟨mb,0,none⟩)] 211)=W0 at bM f5 s5;have a8:=e7.trans f5;have F:=f4.trans a8;have i6:=e9.fr f5 id;have k3:Hid (MV w (m.heap.size+1) m.heap.size b B LS L R M M2 v u a s 0 W0) :=
  ⟨⟨⟨g3.fr F id,g4.fr F id,bp.fr a8 id,bj.fr a8 id⟩,b9.fr F id,g1.fr F id,g2.fr F id⟩,⟨⟨LS,d3.nil F,fun k o=>.inl o,fun k o=>.inl o⟩,e5.nil F,zb b6.own f5 (fun _ _=>id)⟩,by omega,(F3.mono (S':=fun k=>SFoot B LS k\/Foot b L M k) (fun _ _ e=>.inr e)).trans (a8.mono (fun _ _ e=>absurd e id))⟩
 have l5:Below W0.heap.size W0 W0:=CC _ _;have a0:=Z (And.intro d2 (And.intro (i6.cell 0) s5));clear b9 g1 g2 g3 g4 bj bp k5 g5 f4 sp F3 h7 e9 b6 i7 j5 e7 d2 f5 a8 F i6 d3 e5;have d6:=Z (And.intro h8 i5);have j9:=Z b7;have k2:=Z i9;have k1:=Z d1;have k0:=Z d0;clear h8 i5 b7 i9 d1 d0
 gi_wp2_with fail
 refine Vk rfl (by decide) (gf:=187) (lb:=#[.pointer (some ⟨w2.heap.size,0,none⟩)]) rfl trivial (Dr Tryz.func187 (by kernel_rfl) rfl)
  u.length (Td u) (fun _=>rfl) _ (Kn w (m.heap.size+1) m.heap.size b B LS L R M M2 v u a s W0.heap.size (by have:=a0.out.2.2;omega)) k3.out
  (fun k J W hW hJ hI hY h0=>PQ Fence.wide 7 trivial rfl (by decide) k w2.heap.size mb v u J W (by have:=d6.out.2;omega) hJ (fun i W1 h=>(hI i W1 h).2.1.2.2) hY ((hW.cell (p:=⟨w2.heap.size,0,none⟩) (by have:=a0.out.2.2;simp only;omega)).trans bM.cell) ((hW.cell (p:=⟨mb,0,none⟩) (by have:=a0.out;simp only;omega)).trans a0.out.2.1) h0)
  (fun i=>{tmps:=#[.pointer (some ⟨b,0,none⟩),.int .i64 a,.func (.func 95) #[] #[],.func (.func 96) #[.pointer (some ⟨B,0,none⟩)] #[],.pointer (some ⟨w.heap.size,0,none⟩),undef,.pointer (some ⟨w.heap.size+1,0,none⟩),.pointer (some ⟨w.heap.size+2,0,none⟩),.pointer (some ⟨w.heap.size+3,0,none⟩),.pointer (some ⟨w.heap.size+4,0,none⟩),.nilIface,.pointer (some ⟨m.heap.size+1,0,none⟩),.int .i64 (ZK u i).1,.string (ZK u i).2,undef,undef,undef,.pointer (some ⟨b,0,none⟩),.nilIface,.nilIface,.bool false,undef,undef,.pointer (some ⟨b,0,none⟩),.int .i64 a,.agg #[.pointer (some ⟨b,0,none⟩),.int .i64 a,.int .i64 0,.string ⟨#[]⟩,.int .i64 0,.bool false,.bool false],.pointer (some ⟨m.heap.size,0,none⟩),.pointer (some ⟨b,0,none⟩),.pointer (some ⟨mb,0,none⟩),.func (.func 187) #[] #[.pointer (some ⟨w2.heap.size,0,none⟩)],.int .i64 (ZK u i).1,.string (ZK u i).2,undef,undef,undef,undef,undef,undef,undef,undef,undef,undef,undef,undef,undef,undef,undef,undef,undef,undef,undef,undef,undef,undef,undef,undef,undef,undef,undef,undef,undef,undef,undef,undef,undef],defers:=[]}) ?assign ?body ?done
 case assign =>
  intro l x W K N;unfold Td
  gi_wp2
  exact N
 case body =>
  rintro q i W hi ⟨⟨⟨a1,a2,a3,a4⟩,a5,a6,a7⟩,⟨⟨L',c1,c2,c3⟩,c4,c5⟩,c6,c7⟩;obtain⟨f,i1,h9⟩:=j9.out i hi;have c8:i<s.length:=by have:=d6.out.1;omega
  have j0:XF (ZD s i):=by
   have:ZD s i=s[i]:=by simp[ZD,List.getD_eq_getElem?_getD,List.getElem?_eq_getElem c8]
   rw[this];exact k2.out _ (IX c8)
  obtain⟨i2,tb,j2,j3,j4⟩:=j0;have b5:=SS (ZK u i).2 f W b R M2 c4 i1;rw[h9] at b5;have T:=Z b5;have C:=Z (fun wx (fr:Fr Nil W wx)=>Py (ZD s i).1 i2 (ZD s i).2 tb j2 j3 j4 B L' (Zj (s.take i)) wx (c1.nil fr) (fun j=>by rw[Ko s i c8 j];exact k1.out _));rw[<- Ni s i c8] at C;rw[show zR (ZD s i).1++(ZD s i).2=Ze (ZD s i) from rfl] at C;have b8:Hid (JM.read a u s (i+1)={Bw:=a,last:=(ZK u i).1,name:=(ZK u i).2,size:=(Ze (ZD s i)).length,Ad:=decide (0<(ZD s i).2.length),Bm:=false}):=show _=_ from rfl;have g0:Hid (∃ l d,JRep W m.heap.size b {Bw:=a,last:=l,name:=(JM.read a u s i).name,size:=(JM.read a u s i).size,Ad:=(JM.read a u s i).Ad,Bm:=d}/\d=false):=by
   cases i with
   | zero=>exact⟨_,_,a4,rfl⟩
   | succ i=>exact⟨_,_,a4,rfl⟩
  have k6:=a5.cell 0;have Q:=Z (And.intro a1 (And.intro a2 (And.intro a3 (And.intro a5 (And.intro a6 a7)))));have I:=Z (And.intro c1 (And.intro c2 (And.intro c3 (And.intro c4 (And.intro c5 (And.intro c6 c7))))));clear a1 a2 a3 a4 a5 a6 a7 c1 c2 c3 c4 c5 c6 c7 i1 h9 b5 i2 j2 j3 j4;generalize l1:ZK u i=en at T b8 |-;generalize l2:Ze (ZD s i)=sg at T C b8;generalize l3:(ZD s i).2.length=tl at C b8;clear l2 l3 l1
  gi_wp2_with fail
  refine⟨trivial,?_⟩;refine(Fc.2 T.out).mono ?_;rintro e W2 ⟨rfl,f2⟩;have k7:=(Q.out.2.2.2.2.1.fr f2 id).cell 0;have k8:=(Q.out.2.2.2.2.2.fr f2 id).cell 0;have g:=Z f2;clear k6 f2
  gi_wp2_with fail
  refine⟨trivial,?_⟩;refine(Fc.2 (C.out W2 g.out)).mono ?_;rintro e W3 ⟨rfl,L3,r1,Y,r3,r4⟩;have d4:∀ k,SFoot B L' k->∃ t,Ty W2 k t:=fun k o=>by
   rcases (I.out.1.nil g.out).BH o with e|e|e <;> exact⟨_,e⟩
  have y:∀ {k c t},Blk W2 k c t->t≠161->t≠239->t≠75->¬SFoot B L' k:=fun hb h1 h2 h3 o=>by
   rcases (I.out.1.nil g.out).BH o with e|e|e
   .exact h1 (hb.ty.inj e)
   .exact h2 (hb.ty.inj e)
   .exact h3 (hb.ty.inj e)
  have d8:=(Q.out.1.fr g.out id).fr Y (y (Q.out.1.fr g.out id) (by decide) (by decide) (by decide));have d9:=(Q.out.2.1.fr g.out id).fr Y (y (Q.out.2.1.fr g.out id) (by decide) (by decide) (by decide));have c0:=(Q.out.2.2.1.fr g.out id).fr Y (y (Q.out.2.2.1.fr g.out id) (by decide) (by decide) (by decide));have e0:=(Q.out.2.2.2.1.fr g.out id).fr Y (y (Q.out.2.2.2.1.fr g.out id) (by decide) (by decide) (by decide));have e1:=(Q.out.2.2.2.2.1.fr g.out id).fr Y (y (Q.out.2.2.2.2.1.fr g.out id) (by decide) (by decide) (by decide));have e2:=(Q.out.2.2.2.2.2.fr g.out id).fr Y (y (Q.out.2.2.2.2.2.fr g.out id) (by decide) (by decide) (by decide));obtain⟨jl,jd,e8,rfl⟩:=g0.out;have a9:Blk W3 m.heap.size _ 197:=Blk.fr (Blk.fr e8 g.out id) Y (y (Blk.fr e8 g.out id) (by decide) (by decide) (by decide));have e6:DRep W3 b R M2:=(I.out.2.2.2.1.nil g.out).fr Y (fun k o=>(I.out.1.nil g.out).yv (I.out.2.2.2.1.nil g.out) o);have f7:W3.ownsRow 0 268 2 v u.length (Zz u):=zb (zb I.out.2.2.2.2.1 g.out (fun _ _=>id)) Y (fun k o hf=>by
   have ht:=zD (zb I.out.2.2.2.2.1 g.out (fun _ _=>id)) o;rcases (I.out.1.nil g.out).BH hf with e|e|e <;> exact absurd (ht.inj e) (by decide))
  have i4:KeepsOthers W W3:=(KeepsOthers.BO g.out (fun _ e=>absurd e id)).trans (KeepsOthers.BO Y d4);have c9:Fr (fun k=>SFoot B LS k\/Foot b L M k) w W3:=(I.out.2.2.2.2.2.2.trans (g.out.mono (fun _ _ e=>absurd e id))).trans' Y (fun k o e=>by
   rcases I.out.2.1 k e with h|h
   .exact .inl h
   .omega)
  have V:Ty W3 m.heap.size 197:=a9.ty;have z:∀ {k c t},Blk W3 k c t->t≠197->¬k=m.heap.size:=fun hb h e=>by subst e;exact h (hb.ty.inj V)
  have f8:Hid (∀ W',Fr (fun k=>k=m.heap.size) W3 W'->JRep W' m.heap.size b {Bw:=a,last:=en.1,name:=en.2,size:=sg.length,Ad:=decide (0<tl),Bm:=false}->KeepsOthers W3 W'->KeepsOthers W W'/\True/\MV w (m.heap.size+1) m.heap.size b B LS L R M M2 v u a s (i+1) W'):=fun W' fw hj ho =>
   ⟨i4.trans ho,trivial,⟨⟨d8.fr fw (z d8 (by decide)),d9.fr fw (z d9 (by decide)),c0.fr fw (z c0 (by decide)),by rw[b8.out];exact hj⟩,e0.fr fw (z e0 (by decide)),e1.fr fw (z e1 (by decide)),e2.fr fw (z e2 (by decide))⟩,
    ⟨⟨L3,r1.fr fw (fun k o e=>by subst e;rcases r1.BH o with e|e|e <;> exact absurd (e.inj V) (by decide)) (fun k o e=>by subst e;exact absurd ((r1.BV o).inj V) (by decide)),
     fun k o=>(r3 k o).elim (I.out.2.1 k) (fun e=>.inr (IP (IP I.out.2.2.2.2.2.1 g.out.size) e)),fun k o=>(r4 k o).elim (I.out.2.2.1 k) (fun e=>.inr (IP (IP I.out.2.2.2.2.2.1 g.out.size) e))⟩,
     e6.fr fw (fun k o e=>by subst e;exact e6.apart V (by unfold DTy;decide) o),zb f7 fw (fun k o e=>by subst e;exact absurd ((zD f7 o).inj V) (by decide))⟩,
    IP (IP (IP I.out.2.2.2.2.2.1 g.out.size) Y.size) fw.size,c9.trans' fw (fun k o e=>by omega)⟩
  have f9:=Z a9;have l0:=c0.cell 0;have k9:=a9.cell;have m3:=a9.frozen;have l4:m.heap.size+1≠m.heap.size:=by omega
  clear C T Q I g k7 k8 r1 Y r3 r4 d4 y d8 d9 c0 e0 e1 e2 e8 a9 e6 f7 i4 c9 V z;simp only[JM.cells] at k9 f9;generalize W3=WR at *
  gi_wp2_with fail
  refine TU (S:=fun w'=>w'.cell? ⟨m.heap.size+1,0,none⟩=some (.pointer (some ⟨m.heap.size,0,none⟩))) (by kernel_rfl) (by kernel_rfl) (by rintro⟨_,_,h⟩;exact h) l0 (fun E=>?_);refine Z4 0 (some 46) (v:=?_) rfl rfl (by kernel_rfl) (by kernel_rfl) (by kernel_rfl) (fun _ _ _ h=>h) (Or.inl ⟨by rfl,?_⟩) (by assumption) ?_
  rotate_left
  .intro w hSw;go_simp;try with_reducible rfl
  simp only[Act.put,Hk,Hz,Ga];refine Z4 1 (some 47) (v:=?_) rfl rfl (by kernel_rfl) (by kernel_rfl) (by kernel_rfl) (fun _ _ _ h=>h) (Or.inl ⟨by rfl,?_⟩) (by assumption) ?_
  rotate_left
  .intro w hSw;go_simp;try with_reducible rfl
  simp only[Act.put,Hk,Hz,Ga];refine Z4 2 (some 48) (v:=?_) rfl rfl (by kernel_rfl) (by kernel_rfl) (by kernel_rfl) (fun _ _ _ h=>h) (Or.inl ⟨by rfl,?_⟩) (by assumption) ?_
  rotate_left
  .intro w hSw;go_simp;try with_reducible rfl
  simp only[Act.put,Hk,Hz,Ga];refine Z4 3 (some 49) (v:=?_) rfl rfl (by kernel_rfl) (by kernel_rfl) (by kernel_rfl) (fun _ _ _ h=>h) (Or.inl ⟨by rfl,?_⟩) (by assumption) ?_
  rotate_left
  .intro w hSw;go_simp;try with_reducible rfl
  simp only[Act.put,Hk,Hz,Ga];refine Z4 4 (some 50) (v:=?_) rfl rfl (by kernel_rfl) (by kernel_rfl) (by kernel_rfl) (fun _ _ _ h=>h) (Or.inl ⟨by rfl,?_⟩) (by assumption) ?_
  rotate_left
  .intro w hSw;go_simp;try with_reducible rfl
  simp only[Act.put,Hk,Hz,Ga];refine Z4 5 (some 51) (v:=?_) rfl rfl (by kernel_rfl) (by kernel_rfl) (by kernel_rfl) (fun _ _ _ h=>h) (Or.inl ⟨by rfl,?_⟩) (by assumption) ?_
  rotate_left
  .intro w hSw;go_simp;try with_reducible rfl
  simp only[Act.put,Hk,Hz,Ga];refine Z4 6 (some 52) (v:=?_) rfl rfl (by kernel_rfl) (by kernel_rfl) (by kernel_rfl) (fun _ _ _ h=>h) (Or.inl ⟨by rfl,?_⟩) (by assumption) ?_
  rotate_left
  .intro w hSw;go_simp;try with_reducible rfl
  simp only[Act.put,Hk,Hz,Ga];refine Z4 7 (some 53) (v:=?_) rfl rfl (by kernel_rfl) (by kernel_rfl) (by kernel_rfl) (fun _ _ _ h=>h) (Or.inl ⟨by rfl,?_⟩) (by assumption) ?_
  rotate_left
  .intro w hSw;go_simp;try with_reducible rfl
  simp only[Act.put,Hk,Hz,Ga];refine Z4 8 (some 54) (v:=?_) rfl rfl (by kernel_rfl) (by kernel_rfl) (by kernel_rfl) (fun _ _ _ h=>h) (Or.inl ⟨by rfl,?_⟩) (by assumption) ?_
  rotate_left
  .intro w hSw;go_simp;try with_reducible rfl
  simp only[Act.put,Hk,Hz,Ga];refine Z4 9 (some 55) (v:=?_) rfl rfl (by kernel_rfl) (by kernel_rfl) (by kernel_rfl) (fun _ _ _ h=>h) (Or.inl ⟨by rfl,?_⟩) (by assumption) ?_
  rotate_left
  .intro w hSw;go_simp;try with_reducible rfl
  simp only[Act.put,Hk,Hz,Ga];refine Z4 10 (some 56) (v:=?_) rfl rfl (by kernel_rfl) (by kernel_rfl) (by kernel_rfl) (fun _ _ _ h=>h) (Or.inl ⟨by rfl,?_⟩) (by assumption) ?_
  rotate_left
  .intro w hSw;go_simp;try with_reducible rfl
  simp only[Act.put,Hk,Hz,Ga];refine Z4 11 (some 57) (v:=?_) rfl rfl (by kernel_rfl) (by kernel_rfl) (by kernel_rfl) (fun _ _ _ h=>h) (Or.inl ⟨by rfl,?_⟩) (by assumption) ?_
  rotate_left
  .intro w hSw;go_simp;try with_reducible rfl
  simp only[Act.put,Hk,Hz,Ga];refine CE (rs:=[12]) (by kernel_rfl) (by simp) (DV rfl (fun K N=>?_) Ci)
  go_simp
  refine N.out _ _ (by first|assumption|go_keep) (fun E=>?_);clear N K
  try simp only[Act.put,Hk,Hz,Ga]
  refine Z4 13 (some 58) (v:=?_) rfl rfl (by kernel_rfl) (by kernel_rfl) (by kernel_rfl) (fun _ _ _ h=>h) (Or.inl ⟨by rfl,?_⟩) (by assumption) ?_
  rotate_left
  .intro w hSw;go_simp;try with_reducible rfl
  simp only[Act.put,Hk,Hz,Ga];refine Z4 14 (some 59) (v:=?_) rfl rfl (by kernel_rfl) (by kernel_rfl) (by kernel_rfl) (fun _ _ _ h=>h) (Or.inl ⟨by rfl,?_⟩) (by assumption) ?_
  rotate_left
  .intro w hSw;go_simp;try with_reducible rfl
  simp only[Act.put,Hk,Hz,Ga];refine CE (rs:=[15]) (by kernel_rfl) (by simp) (DV rfl (fun K N=>?_) Ci)
  go_simp
  refine N.out _ _ (by first|assumption|go_keep) (fun E=>?_);clear N K
  try simp only[Act.put,Hk,Hz,Ga]
  refine Z4 16 (some 60) (v:=?_) rfl rfl (by kernel_rfl) (by kernel_rfl) (by kernel_rfl) (fun _ _ _ h=>h) (Or.inl ⟨by rfl,?_⟩) (by assumption) ?_
  rotate_left
  .intro w hSw;go_simp;try with_reducible rfl
  simp only[Act.put,Hk,Hz,Ga];refine Z4 17 (some 61) (v:=?_) rfl rfl (by kernel_rfl) (by kernel_rfl) (by kernel_rfl) (fun _ _ _ h=>h) (Or.inl ⟨by rfl,?_⟩) (by assumption) ?_
  rotate_left
  .intro w hSw;go_simp;try with_reducible rfl
  simp only[Act.put,Hk,Hz,Ga];refine CE (rs:=[18]) (by kernel_rfl) (by simp) (DV rfl (fun K N=>?_) Ci)
  go_simp
  refine N.out _ _ (by first|assumption|go_keep) (fun E=>?_);clear N K
  try simp only[Act.put,Hk,Hz,Ga]
  refine Z4 19 (some 62) (v:=?_) rfl rfl (by kernel_rfl) (by kernel_rfl) (by kernel_rfl) (fun _ _ _ h=>h) (Or.inl ⟨by rfl,?_⟩) (by assumption) ?_
  rotate_left
  .intro w hSw;go_simp;try with_reducible rfl
  simp only[Act.put,Hk,Hz,Ga];refine Z4 20 (some 63) (v:=?_) rfl rfl (by kernel_rfl) (by kernel_rfl) (by kernel_rfl) (fun _ _ _ h=>h) (Or.inl ⟨by rfl,?_⟩) (by assumption) ?_
  rotate_left
  .intro w hSw;go_simp;try with_reducible rfl
  simp only[Act.put,Hk,Hz,Ga];refine CE (rs:=[21]) (by kernel_rfl) (by simp) (DV rfl (fun K N=>?_) Ci)
  go_simp
  refine N.out _ _ (by first|assumption|go_keep) (fun E=>?_);clear N K
  try simp only[Act.put,Hk,Hz,Ga]
  refine wpAnyH_done (by kernel_rfl) ?_ _;refine f8.out _ ?_ ?_ ?_
  .exact Fr.drew (Fr.set (S:=fun k=>k=m.heap.size) (p:=⟨m.heap.size,5,none⟩) (Fr.set (S:=fun k=>k=m.heap.size) (p:=⟨m.heap.size,4,none⟩) (Fr.set (S:=fun k=>k=m.heap.size) (p:=⟨m.heap.size,3,none⟩) (Fr.set (S:=fun k=>k=m.heap.size) (p:=⟨m.heap.size,2,none⟩) (O _ _) (fun _=>rfl) _) (fun _=>rfl) _) (fun _=>rfl) _) (fun _=>rfl) _)
  .exact Blk.drew ((((f9.out.set 2 _).set 3 _).set 4 _).set 5 _)
  .exact((((fFS WR ⟨m.heap.size,2,none⟩ _).trans (fFS _ ⟨m.heap.size,3,none⟩ _)).trans (fFS _ ⟨m.heap.size,4,none⟩ _)).trans (fFS _ ⟨m.heap.size,5,none⟩ _)).trans (KeepsOthers.drew _)
 case done =>
  rintro D W hD ⟨⟨⟨h3,h4,hp,hj⟩,-,-,-⟩,⟨⟨L',c1,c2,c3⟩,c4,c5⟩,c6,c7⟩ N;rw[d6.out.1,HZ] at c1;have l8:=hp.cell 0;have m1:=h3.frozen 0;have m2:=h4.frozen 0;have l6:=h3.cell 0;have l7:=h4.cell 0;have i8:w.heap.size+3≠w.heap.size+4:=by omega
  have g6:=(h3.set 0 (.pointer (some ⟨m.heap.size,0,none⟩))).An (b':=w.heap.size+4) i8 0 .nilIface;have g7:=(h4.An (b':=w.heap.size+3) (DN i8) 0 (.pointer (some ⟨m.heap.size,0,none⟩))).set 0 .nilIface;have fE:Fr (fun k=>k=w.heap.size+3\/k=w.heap.size+4) W ((W.setCell ⟨w.heap.size+3,0,none⟩ (.pointer (some ⟨m.heap.size,0,none⟩))).setCell ⟨w.heap.size+4,0,none⟩ .nilIface) :=
   Fr.set (p:=⟨w.heap.size+4,0,none⟩) (Fr.set (p:=⟨w.heap.size+3,0,none⟩) (O _ _) (fun _=>.inl rfl) _) (fun _=>.inr rfl) _
  have g9:=((fFS W ⟨w.heap.size+3,0,none⟩ (.pointer (some ⟨m.heap.size,0,none⟩))).trans (fFS _ ⟨w.heap.size+4,0,none⟩ .nilIface)).same D _ N rfl;have G:∀ {k t},Ty W k t->t≠119->t≠132->¬(k=w.heap.size+3\/k=w.heap.size+4):=fun ht n1 n2 e=>by
   rcases e with rfl|rfl
   .exact n1 (ht.inj h3.ty)
   .exact n2 (ht.inj h4.ty)
  have i3:=Blk.fr hj fE (G (Blk.ty hj) (by decide) (by decide));have h5:=c1.fr fE (fun k o=>by rcases c1.BH o with e|e|e <;> exact G e (by decide) (by decide)) (fun k o=>G (c1.BV o) (by decide) (by decide));have h6:=c4.fr fE (fun k o=>by obtain⟨t,ht,hd⟩:=c4.ty o;unfold DTy at hd;rcases hd with rfl|rfl|rfl|rfl|rfl <;> exact G ht (by decide) (by decide));have g8:=c7.trans' fE (fun k o e=>by omega);have H3:=Z g6;have H4:=Z g7;have HJ:=Z i3;have HC:=Z h5;have j6:=Z h6;have j7:=Z g8;have HK:=Z g9;clear h3 h4 hp hj c1 c4 c5 c6 c7 g6 g7 fE g9 N G i3 h5 h6 g8
  gi_wp2_with fail
  refine⟨by simp,.inl ⟨_,_,rfl,Ck HK.out,?_⟩⟩;have e3:=(H3.out.put HK.out rfl (.deferred none)).cell 0;have e4:=(H4.out.put HK.out rfl (.deferred none)).cell 0;have fP:=Fr.Bv (grownBy_putObj' ((W.setCell ⟨w.heap.size+3,0,none⟩ (.pointer (some ⟨m.heap.size,0,none⟩))).setCell ⟨w.heap.size+4,0,none⟩ .nilIface) D (.deferred none));have f6:Odd (fun k=>some D=some k) ((W.setCell ⟨w.heap.size+3,0,none⟩ (.pointer (some ⟨m.heap.size,0,none⟩))).setCell ⟨w.heap.size+4,0,none⟩ .nilIface):=fun k e=>by cases e;exact⟨_,HK.out,rfl⟩
  refine⟨.tuple #[.pointer (some ⟨m.heap.size,0,none⟩),.nilIface],?_,m.heap.size,R,L',rfl,Blk.fr HJ.out fP ((Blk.ty HJ.out).odd f6),by omega,j6.out.odd fP f6,k0.out,HC.out.odd fP f6,c2,c3,j7.out.trans' fP (fun k o e=>by have:=a0.out.2.2;cases e;omega)⟩;simp only[Hz,GQ] at e3 e4;simp[results,Tryz.f94,go_sem,e3,e4]
end Go.Proofs.YtkhnggkkiefcdaaGreatDoor
namespace Go.Proofs.YtkhnggkkiefcdaaGreatDoor
open Go.RowKit
set_option maxRecDepth 100000
set_option maxHeartbeats 8000000
theorem Kq(r:List ByteArray)(x:ByteArray):(YD r x).Perm (x::r):=by
 induction r with
 | nil=>exact DW _
 | cons y r a =>
  unfold YD;split
  .exact(a.cons y).trans (List.Perm.swap x y r)
  .exact DW _
theorem VD(d:Dir):d.names.Perm (d.map Prod.fst):=by
 have h:∀ (e:Dir) (r:List ByteArray),(e.foldl (fun r e=>YD r e.1) r).Perm (e.map Prod.fst++r):=by
  intro e
  induction e with
  | nil=>intro r;exact DW _
  | cons x e a =>
   intro r;rw[GT,Ht,IY];exact(a _).trans ((List.Perm.append_left _ (Kq r x.1)).trans List.perm_middle)
 unfold Dir.names Yq;rw[HZ];refine(List.reverse_perm _).trans ?_;have:=h d []
 rwa [Hx] at this
theorem PS{α β:Type}(f:α->β){l m:List β}(h:l.Perm m):∀ b:List α,m=b.map f->∃ a:List α,a.Perm b/\l=a.map f:=by
 induction h with
 | nil=>intro b e;exact⟨b,DW _,e⟩
 | cons x _ q =>
  intro b e;cases b with
  | nil=>cases e
  | cons y b =>
   simp only[Ht,CF] at e;obtain⟨a,g,d⟩:=q b e.2;exact⟨y::a,g.cons y,by rw[Ht,<- e.1,<- d]⟩
 | swap x y l =>
  intro b e
  match b,e with
  | b1::k::b,e =>
   simp only[Ht,CF] at e;exact⟨k::b1::b,List.Perm.swap _ _ _,by rw[Ht,Ht,<- e.1,<- e.2.1,<- e.2.2]⟩
 | trans _ _ i j =>
  intro b e;obtain⟨a,g,d⟩:=j b e;obtain⟨c,p,o⟩:=i a d;exact⟨c,p.trans g,o⟩
theorem Kr{M:DM}{d:List Seg}(h:Lies M d):∃ b:List Nat,M.dir.names=b.map (zg zl)/\M.dir.length=b.length/\b.Nodup/\∀ n,n∈b↔1<=n/\n<=d.length:=by
 have f:=VD M.dir;rw[h.names] at f;obtain⟨a,c,e⟩:=PS (zg zl) f ((List.range d.length).map (·+1)) (by simp[Function.comp_def]);refine⟨a,e,?_,?_,fun n=>?_⟩
 .have:=c.length_eq
  rw[Hy,List.length_range] at this;rw[h.length,this]
 .refine c.nodup_iff.2 ?_
  rw[FZ,Ei];exact(FZ.1 List.nodup_range).imp fun h e=>h (by omega)
 .rw[c.mem_iff]
  simp only[Gc,FY]
  constructor
  .rintro⟨i,hi,rfl⟩;omega
  .intro hn;exact⟨n-1,by omega,by omega⟩
theorem Ks{M:DM}{b:List Seg}(h:Lies M b)(i:Nat)(c:i<b.length):∃ f,M.dir.look (zg zl (i+1))=some f/\(M.file f).bytes=Ze (ZD b i):=by
 have d:i<M.dir.length:=by rw[h.length];exact c
 have g:∀ j (k:j<M.dir.length) (a:j<b.length),M.dir[j].1=zg zl (j+1)/\(M.file M.dir[j].2).bytes=Ze b[j]:=fun j k a=>by
  have e:M.view[j]?=(Yc 0 b)[j]?:=by rw[h.view]
  rw[Tb 0 b j a] at e;unfold DM.view at e;rw[DY,IW k] at e;simp only[EZ,Option.some.injEq,FW,Gg] at e;exact e
 refine⟨M.dir[i].2,?_,by rw[(g i d c).2];simp[ZD,List.getD_eq_getElem?_getD,List.getElem?_eq_getElem c]⟩;unfold Dir.look;have:M.dir.find? (fun e=>e.1==zg zl (i+1))=some M.dir[i]:=by
  rw[Ep];refine⟨by rw[(g i d c).1,zT],i,d,rfl,fun j k=>?_⟩;have a:j<M.dir.length:=by omega
  rw[(g j a (by omega)).1,EI,<- Bool.not_eq_true,zT];intro e;have:=Wb e;omega
 rw[this]
 rfl
theorem Ry(k i:Nat)(h:i<k):ZK (segs k) i=(i+1,zg zl (i+1)):=by
 simp[ZK,segs,List.getD_eq_getElem?_getD,h]
theorem XR(k:Nat):(segs k).length=k:=by simp[segs]
theorem I1(a:Nat)(b:List Seg):JM.read a (segs b.length) b b.length=JM.at a b false:=by
 rcases GN b with rfl|⟨r,s,rfl⟩
 .rfl
 .rw[GO,JM.BJ,IM,IU]
  show({Bw:=a,last:=(ZK (segs (r.length+1)) r.length).1,name:=(ZK (segs (r.length+1)) r.length).2,size:=(Ze (ZD (r++[s]) r.length)).length,Ad:=decide (0<(ZD (r++[s]) r.length).2.length),Bm:=false}:JM)=_;rw[Ry _ _ (Nat.lt_succ_self _)];simp[ZD,List.getD_eq_getElem?_getD]
def YX(B:Nat)(w:World):Prop:=Xz B w/\XC w/\4<B
theorem YX.fr{B:Nat}{S:Nat->Prop}{w w':World}(h:YX B w)(g:B<=w.heap.size)(f:Fr S w w')(c:∀ k,S k->B<=k):YX B w' :=
 ⟨h.1.fr g f c,h.2.1.fr f (fun e=>by have:=c _ e;have:=h.2.2;omega),h.2.2⟩
theorem MW(B b:Nat)(L:DL)(M:DM)(a q:Nat)(r:SL)(j:List Seg)(w:World)(h:DRep w b L M)(hs:SRep w q r SM.nil)(F:Lies M j)(G:YZ j)(t:j.length<1000000000)
 (u:∀ i,(((ze j).take i).foldl SM.enter SM.nil).keys.length<1099511627776/\(((ze j).take i).foldl SM.enter SM.nil).hints.length<1000000)
 (c:YX B w)(s:B<=w.heap.size)(g:∀ k,Foot b L M k->B<=k) :
 Calls Tryz.prog 94 #[.pointer (some ⟨b,0,none⟩),.int .i64 a,.func (.func 95) #[] #[],.func (.func 96) #[.pointer (some ⟨q,0,none⟩)] #[]] w fun e m =>
  ∃ I A o,e=.returned (.tuple #[.pointer (some ⟨I,0,none⟩),.nilIface])/\JRep m I b (JM.at a j false)/\w.heap.size<=I/\DRep m b A M/\(∀ k,Foot b A M k->Foot b L M k\/w.heap.size<=k) /\
   SRep m q o (Zj j)/\(∀ k,SFoot q o k->SFoot q r k\/w.heap.size<=k)/\(∀ k,SRead o k->SRead r k\/w.heap.size<=k)/\Fr (fun k=>SFoot q r k\/Foot b L M k) w m:=by
 obtain⟨d,x,p,y,z⟩:=Kr F;have a0:d.length=j.length:=by rw[<- p,F.length]
 have K:∀ n∈d,1<=n/\n<10^15:=fun n Y=>by have:=(z n).1 Y;omega
 have:=Nj b L M M a q r (segs j.length) j w h hs
  (fun C f=>(Jn b C (MT b L M C (h.nil f) d x p y K (by omega) (fun m D=>(c.fr s (f.trans D) (fun _ e=>absurd e id)).1.1) (c.fr s f (fun _ e=>absurd e id)).2.1)).mono (by
    rintro e m ⟨rfl,N⟩;exact⟨L,rfl,DStep.look (h.nil f) N⟩))
  (fun C A X f=>(TR b A M C X d x p y K (by omega) (fun m D=>((c.fr s f g).fr (IP s f.size) D (fun _ e=>absurd e id)).1.1) (c.fr s f g).2.1).mono (by
    rintro e m ⟨mb,v,l,rfl,Q,J,R,S,T,V⟩;obtain rfl:=Nd R J.Al z;exact⟨mb,v,rfl,Q,J,S,T,V⟩))
  (XR _) (by rw[XR];exact t)
  (fun i E=>by rw[XR] at E;rw[Ry _ _ E];exact Ks F i E) G u
 rw[XR,I1] at this;exact this
def Z8(c:Int)(n:Nat):Nat:=(if c<0 then -(c+1) else c).toNat%(n+1)
theorem YN(c:Int)(n:Nat):Z8 c n<=n:=by
 have:=DU (if c<0 then -(c+1) else c).toNat (show 0<n+1 by omega);unfold Z8;omega
theorem YV(c:Int)(n:Nat)(w:World)(k:-9223372036854775808<=c)(l:c<=9223372036854775807)(o:n<=140737488355328) :
 Calls Tryz.prog 85 #[.int .i64 c,.int .i64 n] w fun e j=>e=.returned (.int .i64 (Z8 c n))/\j=w:=by
 by_cases d:c<0
 .obtain⟨m,hm⟩:=GB (a:=-(c+1)) (by omega)
  have b:Hid (Z8 c n=m%(n+1)):=by simp[Hid,Z8,d,hm]
  have h:(m:Int).tmod ((n:Int)+1)=((m%(n+1):Nat):Int):=by rw[show((n:Int)+1)=((n+1:Nat):Int) from rfl,Df]
  have i:(((n:Int)+1)==0)=false:=by rw[GG];omega
  have f:(m:Int)<=9223372036854775807:=by omega
  have g:((m%(n+1):Nat):Int)<=9223372036854775807:=by have:=Nat.mod_le m (n+1);omega
  obtain rfl:c=-(m:Int)-1:=by omega
  clear hm;go_enter Tryz.func85,Tryz.ntmps85
  go_wp2
  go_ret;rw[b.out];exact⟨rfl,rfl⟩
 .obtain⟨m,rfl⟩:=GB (a:=c) (by omega)
  have b:Hid (Z8 m n=m%(n+1)):=by simp only[Hid,Z8];rw[IV d];rfl
  have h:(m:Int).tmod ((n:Int)+1)=((m%(n+1):Nat):Int):=by rw[show((n:Int)+1)=((n+1:Nat):Int) from rfl,Df]
  have i:(((n:Int)+1)==0)=false:=by rw[GG];omega
  go_enter Tryz.func85,Tryz.ntmps85
  go_wp2
  go_ret;rw[b.out];exact⟨rfl,rfl⟩
def Ya(w:World)(v:Value)(l:List Int):Prop :=
 ((∃ a c,v=.slice a 0 c)/\l=[])\/∃ g b d,v=.slice (some ⟨g,b,none⟩) l.length d/\g<w.heap.size/\l.length<=maxLen/\∀ j (h:j<l.length),w.cell? ⟨g,b+j,none⟩=some (.int .i64 l[j])
theorem Ya.fr{S:Nat->Prop}{w w':World}{v:Value}{l:List Int}(h:Ya w v l)(f:Fr S w w')(z:∀ k,l≠[]->v.ownBlock=some k->¬S k):Ya w' v l:=by
 rcases h with h|⟨g,c,cap,rfl,r,hm,y⟩
 .exact .inl h
 .exact .inr ⟨g,c,cap,rfl,Gd r f.size,hm,fun j o=>by rw[f.cell (p:=⟨g,c+j,none⟩) r (z g (fun e=>by rw[e] at o;exact absurd o (Gb _)) rfl)];exact y j o⟩
def Yv(f:FM)(c:Int):FM :=
 ⟨f.bytes.take (f.safe+Z8 c (f.bytes.length-f.safe)),f.safe+Z8 c (f.bytes.length-f.safe)⟩
def zn(d:Dir)(a:List Int)(file:Nat->FM):Nat->Nat->FM
 | 0=>file
 | k+1=>match (d.names[k]?).bind (Dir.look d) with
  | some f=>fun g=>if g=f then Yv (zn d a file k f) (a.getD k 0) else zn d a file k g
  | none=>zn d a file k
def DM.BM(M:DM)(a:Int):Dir :=
 if Z8 a M.Bj.length=0 then M.safe else M.Bj.getD (Z8 a M.Bj.length-1) []
def DM.BT(M:DM)(a:Int)(b:List Int):DM :=
 {M with dir:=M.BM a,safe:=M.BM a,Bj:=[],file:=zn (M.BM a) b M.file (M.BM a).names.length,dead:=false,cut:=0,fail:=0}
theorem DRep.yw{w j:World}{b:Nat}{L:DL}{M:DM}(h:DRep w b L M){d:Dir}{v:Value}(q:w.ownsRow 0 148 2 v d.length (flat d))(s:∀ e,e∈d->e.2∈M.ids)
 (r:Blk j b (({M with dir:=d}:DM).cells {L with BE:=v}) 143)(f:Fr (fun k=>k=b) w j):DRep j b {L with BE:=v} {M with dir:=d} where
 CY:=r
 dir:=zb q f fun _ e a=>by subst a;exact zd q h.CY (by decide) e
 safe:=zb h.safe f fun _ e a=>by subst a;exact zd h.safe h.CY (by decide) e
 ch:=zb h.ch f fun _ e a=>by subst a;exact zd h.ch h.CY (by decide) e
 Ag:=h.Ag
 Bj:=fun i l o=>zb (h.Bj i l o) f fun _ e a=>by subst a;exact zd (h.Bj i l o) h.CY (by decide) e
 files:=fun g c=>(h.files g c).fr f ((h.files g c).ne h.CY (by decide))
 rows:=fun g c=>zb (h.rows g c) f fun _ e a=>by subst a;exact zd (h.rows g c) h.CY (by decide) e
 sep:=h.sep
 le:=h.le
 BQ:=s
 AC:=h.AC
 AD:=h.AD
theorem DRep.Bt{w u:World}{b:Nat}{L:DL}{M:DM}(h:DRep w b L M){f:Nat}(A:f∈M.ids){v:Value}{m:Nat}(hm:m<=(M.file f).bytes.length)
 (E:Blk u f [v,.int .i64 m] 152)(F:w.ownsRow 0 5 1 v m (u8s ((M.file f).bytes.take m)))
 (fr:Fr (fun k=>k=f) w u)(r:∀ k,v.ownBlock=some k->(L.fV f).ownBlock=some k) :
 DRep u b {L with fV:=fun g=>if g=f then v else L.fV g} (M.Bg f ⟨(M.file f).bytes.take m,m⟩):=by
 have c:∀ {e:TypeId} {C:Nat} {v:Value} {n:Nat} {D:List Value},w.ownsRow 0 e C v n D->e≠152->u.ownsRow 0 e C v n D:=fun B y =>
  zb B fr fun k e j=>by subst j;exact zd B (h.files k A) (DN y) e
 have s:((M.file f).bytes.take m).length=m:=by simp;omega
 exact {
  CY:=h.CY.fr fr (h.CY.ne (h.files f A) (by decide))
  dir:=c h.dir (by decide)
  safe:=c h.safe (by decide)
  ch:=c h.ch (by decide)
  Ag:=h.Ag
  Bj:=fun i y z=>c (h.Bj i y z) (by decide)
  files:=fun g d=>by
   by_cases e:g=f
   .subst e;simpa [DM.Bg] using E
   .have:=(h.files g d).fr fr e
    simpa [DM.Bg,e] using this
  rows:=fun g d=>by
   by_cases e:g=f
   .subst e
    have:=c F (by decide);simp only[DM.Bg,Gi,s];exact this
   .have:=c (h.rows g d) (by decide)
    simpa [DM.Bg,e] using this
  sep:=fun g d o l e k j=>by
   by_cases x:g=f
   .subst x
    have t:¬o=g:=fun h=>e h.symm;simp only[Gi,t,Gj] at j |-;exact h.sep g d o l e k (r k j)
   .by_cases t:o=f
    .subst t
     simp only[x,Gj,Gi] at j |-;intro z;exact h.sep g d o l e k j (r k z)
    .simp only[x,t,Gj] at j |-
     exact h.sep g d o l e k j
  le:=fun g d=>by
   by_cases e:g=f
   .subst e;simp[DM.Bg];omega
   .simpa [DM.Bg,e] using h.le g d
  BQ:=h.BQ
  AC:=h.AC
  AD:=h.AD}
theorem VE{w:World}{a:Nat}{e:TypeId}{g n b m:Nat}{j:List Value}(h:w.ownsRow a e 1 (.slice (some ⟨g,0,none⟩) n b) n j)(hm:m<=n) :
 w.ownsRow a e 1 (.slice (some ⟨g,0,none⟩) m b) m (j.take m):=by
 have r:=h.1;refine⟨by simp;omega,?_⟩;rcases h.2 with⟨c,_⟩|⟨q,i,d,c,k,l,s,f,hs,o⟩
 .cases c
 .simp at c
  obtain⟨rfl,rfl⟩:=c;refine .inr ⟨g,b,d,rfl,k,l,by omega,f,hs,?_⟩;rw[<- o,Fz]
  congr 1
  omega
theorem Foot.yA{b:Nat}{L:DL}{M:DM}{f k:Nat}{v:Value}{x:FM}(j:f∈M.ids)(c:∀ k,v.ownBlock=some k->(L.fV f).ownBlock=some k)
 (h:Foot b {L with fV:=fun g=>if g=f then v else L.fV g} (M.Bg f x) k):Foot b L M k:=by
 cases h using Foot.elim with
 | blk=>exact .CY
 | dir e=>exact .dir e
 | safe e=>exact .safe e
 | ch e=>exact .ch e
 | chs i d e=>exact .Bj i d e
 | file e=>exact .file e
 | row g l e =>
  by_cases a:g=f
  .simp only[a,Gi] at e;exact .row f j (c k e)
  .simp only[a,Gj] at e;exact .row g l e
structure ZE(w0:World)(b:Nat)(L0:DL)(M0:DM)(BN:List Int)(nv:Value)(i:Nat)(w:World):Prop where
 CZ:∃ L,DRep w b L {M0 with file:=zn M0.dir BN M0.file i}/\L.BE=L0.BE/\L.Bx=L0.Bx/\L.Aj=L0.Aj/\L.BB=L0.BB/\(∀ k,Foot b L {M0 with file:=zn M0.dir BN M0.file i} k->Foot b L0 M0 k)
 fr:Fr (Foot b L0 M0) w0 w
 names:w.ownsRow 0 9 1 nv M0.dir.length (strs M0.dir.names)
theorem PT(f:FM)(c:Int)(h:f.safe<=f.bytes.length):f.safe+Z8 c (f.bytes.length-f.safe)<=f.bytes.length:=by
 have:=YN c (f.bytes.length-f.safe);omega
theorem WI(d:Dir):d.names.length=d.length:=VQ d _ (IQ _)
theorem Jp(l:List ByteArray)(x y:ByteArray)(h:y∈YD l x):y=x\/y∈l:=by
 induction l with
 | nil=>simp[YD] at h;exact .inl h
 | cons a r b =>
  simp only[YD] at h;split at h
  .rcases HY.1 h with h|h
   .exact .inr (by simp[h])
   .rcases b h with h|h
    .exact .inl h
    .exact .inr (Hb _ h)
  .rcases HY.1 h with h|h
   .exact .inl h
   .exact .inr h
theorem MX(d:Dir):∀ k,k<=d.length->∀ y,y∈Yq d k->∃ e,e∈d/\e.1=y:=by
 intro k
 induction k with
 | zero=>intro _ y a;simp[Yq] at a
 | succ k b =>
  intro h y a;rw[WX d k h,List.mem_reverse] at a;rcases Jp _ _ _ a with rfl|a
  .exact⟨d[k],IX h,rfl⟩
  .exact b (by omega) y (by simpa using a)
theorem UR(d:Dir)(y:ByteArray)(h:y∈d.names):∃ k:Nat,∃ c:k<d.length,Zl d y=k/\Dir.look d y=some d[k].2:=by
 obtain⟨e,f,rfl⟩:=MX d _ (IQ _) y h;rcases Yy d e.1 with⟨b,a⟩|⟨k,c,b,a,_⟩
 .exfalso
  cases hf:d.find? (fun x=>x.1==e.1) with
  | none=>exact absurd (show(e.1==e.1)=true by rw[Ec];simp) (FH.1 hf e f)
  | some x=>simp[Dir.look,hf] at a
 .exact⟨k,c,b,a⟩
theorem IL{d:Dir}{a:ByteArray}{k:Nat}(hm:Zl d a=k)(w g:World)(b:Nat)(L:DL)(M:DM)(l:M.dir=d)(h:DRep g b L M)(c:Fr Nil g w) :
 Calls Tryz.prog 87 #[L.BE,.string a] w fun e f=>e=.returned (.int .i64 k)/\f.cell? ⟨b,0,none⟩=some L.BE/\Fr Nil g f:=by
 subst l;refine(Zn hm w (h.fr c (fun _ _=>id)).dir).mono fun e f ⟨j,i⟩=>⟨j,?_,c.trans i⟩;exact((h.fr (c.trans i) (fun _ _=>id)).CY.cell 0)
theorem V7(d:Dir)(a:List Int)(file:Nat->FM):∀ i f,(zn d a file i f).bytes.length<=(file f).bytes.length:=by
 intro i
 induction i with
 | zero=>intro f;exact IQ _
 | succ i b =>
  intro f;cases hx:(d.names[i]?).bind (Dir.look d) with
  | none=>simp only[zn,hx];exact b f
  | some g =>
   simp only[zn,hx];split
   .rename_i e
    subst e;have:=b f;simp only[Yv,IR];omega
   .exact b f
theorem Nk(d:Dir)(a:List Int)(file:Nat->FM)(i f:Nat)(b:i<d.names.length)(h:Dir.look d d.names[i]=some f) :
 zn d a file (i+1)=fun g=>if g=f then Yv (zn d a file i f) (a.getD i 0) else zn d a file i g:=by
 simp only[zn,IW b,Dv,h]
theorem Rz{d:Dir}{a:ByteArray}{k:Nat}(hm:Zl d a=k)(t:k<d.length)(w o:World)(b:Nat)(L:DL)(M:DM)(s:M.dir=d){g c:Nat}(q:L.BE=.slice (some ⟨g,0,none⟩) d.length c)(h:DRep o b L M)(l:Fr Nil o w) :
 Calls Tryz.prog 87 #[.slice (some ⟨g,0,none⟩) d.length c,.string a] w fun e f=>e=.returned (.int .i64 k)/\f.cell? ⟨b,0,none⟩=some (.slice (some ⟨g,0,none⟩) d.length c) /\
  f.cell? ⟨g,k*2+1,none⟩=some (.pointer (some ⟨d[k].2,0,none⟩))/\Fr Nil o f:=by
 subst s;have j:=(h.fr l (fun _ _=>id)).dir;rw[q] at j;refine(Zn hm w j).mono fun e f ⟨r,i⟩=>⟨r,?_,?_,l.trans i⟩
 .rw[<- q];exact((h.fr (l.trans i) (fun _ _=>id)).CY.cell 0)
 .exact own_cell? (zb j i (fun _ _=>id)) _ _ (Yj _ k t).2
theorem ZE.step{F w s:World}{b:Nat}{l j:DL}{c:DM}{a:List Int}{E v:Value}{i f m:Nat}(h:ZE F b l c a E i w)
 (C:DRep w b j {c with file:=zn c.dir a c.file i})
 (r:j.BE=l.BE/\j.Bx=l.Bx/\j.Aj=l.Aj/\j.BB=l.BB/\(∀ k,Foot b j {c with file:=zn c.dir a c.file i} k->Foot b l c k))
 (o:Fr Nil w s)(I:i<c.dir.names.length)(A:Dir.look c.dir c.dir.names[i]=some f)(d:f∈c.ids)
 (hm:m=(zn c.dir a c.file i f).safe+Z8 (a.getD i 0) ((zn c.dir a c.file i f).bytes.length-(zn c.dir a c.file i f).safe))
 (J:s.ownsRow 0 5 1 v m (u8s ((zn c.dir a c.file i f).bytes.take m)))(t:∀ k,v.ownBlock=some k->(j.fV f).ownBlock=some k) :
 ZE F b l c a E (i+1) (((s.setCell ⟨f,0,none⟩ v).setCell ⟨f,1,none⟩ (.int .i64 m)).drew):=by
 have x:=C.fr o (fun _ _=>id);have u:=x.le f d;simp only at u;have B:m<=(zn c.dir a c.file i f).bytes.length:=by
  have:=PT (zn c.dir a c.file i f) (a.getD i 0) u;omega
 have q:Fr (fun k=>k=f) s (((s.setCell ⟨f,0,none⟩ v).setCell ⟨f,1,none⟩ (.int .i64 m)).drew):=(by repeat' first|exact O _ _|(with_reducible assumption)|refine Fr.drewN ?_ _|refine Fr.drew ?_|refine Fr.alloc ?_ _|refine Fr.set ?_ ?_ _|(intro _;rfl));have G:Blk (((s.setCell ⟨f,0,none⟩ v).setCell ⟨f,1,none⟩ (.int .i64 m)).drew) f [v,.int .i64 m] 152:=(((x.files f d).set 0 v).set 1 (.int .i64 m)).drew;have z:=x.Bt d B G J q t;have D:({c with file:=zn c.dir a c.file i}:DM).Bg f ⟨(zn c.dir a c.file i f).bytes.take m,m⟩={c with file:=zn c.dir a c.file (i+1)}:=by
  rw[Nk _ _ _ _ _ I A];simp only[DM.Bg,Yv,<- hm]
 have y:Foot b j {c with file:=zn c.dir a c.file i} f:=.file d;refine⟨⟨{j with fV:=fun g=>if g=f then v else j.fV g},?_,r.1,r.2.1,r.2.2.1,r.2.2.2.1,?_⟩,?_,?_⟩
 .rw[<- D];exact z
 .intro k hkf
  rw[<- D] at hkf;exact r.2.2.2.2 k (Foot.yA d t hkf)
 .refine Fr.trans' (h.fr.trans (o.mono (fun _ _=>False.elim))) q ?_
  intro k _ e;subst e;exact r.2.2.2.2 _ y
 .have h1:=zb h.names o (fun _ _=>id)
  exact zb h1 q (fun k e z=>by subst z;exact zd h1 (x.files _ d) (by decide) e)
theorem DRep.yT{w:World}{b:Nat}{L:DL}{M:DM}{d:Dir}{F:Nat->FM}(h:DRep w b L {M with dir:=d,file:=F}) :
 DRep (((((w.setCell ⟨b,1,none⟩ L.BE).setCell ⟨b,2,none⟩ (.slice none 0 0)).setCell ⟨b,10,none⟩ (.bool false)).setCell ⟨b,5,none⟩ (.int .i64 0)).setCell ⟨b,6,none⟩ (.int .i64 0)) b
  {L with Bx:=L.BE,Aj:=.slice none 0 0,BB:=[]} {M with dir:=d,safe:=d,Bj:=[],file:=F,dead:=false,cut:=0,fail:=0}:=by
 have a:=h.synced (w':=(w.setCell ⟨b,1,none⟩ L.BE).setCell ⟨b,2,none⟩ (.slice none 0 0)) ((h.CY.set 1 L.BE).set 2 (.slice none 0 0)) za;exact a.own (M':={M with dir:=d,safe:=d,Bj:=[],file:=F,dead:=false,cut:=0,fail:=0}) (((a.CY.set 10 (.bool false)).set 5 (.int .i64 0)).set 6 (.int .i64 0)) za rfl rfl rfl rfl rfl
theorem RA{w s wr:World}{b:Nat}{L:DL}{M:DM}{d:Dir}{v F:Value}{c:Int}{a:List Int}(D:M.BM c=d)
 (h:ZE s b {L with BE:=v} {M with dir:=d} a F d.length wr)(j:Fr (fun k=>k=b) w s)
 (g:∀ k,Foot b {L with BE:=v} {M with dir:=d} k->Foot b L M k) :
 ∃ t,DStep b L M w t (M.BT c a)
  (((((wr.setCell ⟨b,1,none⟩ v).setCell ⟨b,2,none⟩ (.slice none 0 0)).setCell ⟨b,10,none⟩ (.bool false)).setCell ⟨b,5,none⟩ (.int .i64 0)).setCell ⟨b,6,none⟩ (.int .i64 0)):=by
 obtain⟨u,q,r,x,y,z,l⟩:=h.CZ;simp only at r x y z;subst r;have A:M.BT c a={M with dir:=d,safe:=d,Bj:=[],file:=zn d a M.file d.length,dead:=false,cut:=0,fail:=0}:=by
  simp only[DM.BT,D,WI]
 rw[A];have C:=q.yT;refine⟨_,C,?_,?_⟩
 .have hfr:Fr (fun k=>k=b) wr (((((wr.setCell ⟨b,1,none⟩ u.BE).setCell ⟨b,2,none⟩ (.slice none 0 0)).setCell ⟨b,10,none⟩ (.bool false)).setCell ⟨b,5,none⟩ (.int .i64 0)).setCell ⟨b,6,none⟩ (.int .i64 0)):=za
  refine Fr.trans' (Fr.trans' (j.mono (fun k _ e=>by subst e;exact .CY)) h.fr (fun k _ o=>g k o)) hfr (fun k _ e=>by subst e;exact .CY)
 .intro k o
  refine .inl (g k ?_);cases o using Foot.elim with
  | blk=>exact .CY
  | dir e=>exact .dir e
  | safe e=>exact .dir e
  | ch e=>simp[Value.ownBlock] at e
  | chs i B e=>exact absurd B (Gb _)
  | file e=>exact .file e
  | row f E e=>exact l k (.row f E e)
set_option maxRecDepth 100000 in
theorem MY(t:Int)(l:List Int)(tv:Value)(w:World)(b:Nat)(L:DL)(M:DM)(h:DRep w b L M)(e8:-9223372036854775808<=t)(e9:t<=9223372036854775807)
 (ht:Ya w tv l)(d6:∀ k,l≠[]->tv.ownBlock=some k->¬Foot b L M k)(d7:∀ x,x∈l->-9223372036854775808<=x/\x<=9223372036854775807)
 (f1:∀ f,f∈M.ids->(M.file f).bytes.length<=1000000000000)(hn:M.Bj.length+1<=1000000000000)(hm:∀ d,d∈M.safe::M.Bj->d.length<=1000000000000)(b9:Z8 t M.Bj.length=0) :
 Calls Tryz.prog 33 #[.pointer (some ⟨b,0,none⟩),.int .i64 t,tv] w fun e w' =>
  e=.returned (.tuple #[])/\∃ L',DStep b L M w L' (M.BT t l) w':=by
 have hc:=h.CY.cell;have g8:=h.CY.frozen;simp only[DM.cells] at hc;obtain⟨ca,g0,b6⟩:=zc h.ch;obtain⟨sa,g1,c1⟩:=zc h.safe;obtain⟨ta,tc,c2⟩:∃ a c,tv=.slice a l.length c:=by
  rcases ht with⟨⟨_,_,rfl⟩,rfl⟩|⟨g,a1,a4,rfl,_⟩
  .exact⟨_,_,rfl⟩
  .exact⟨_,_,rfl⟩
 have c7:M.BM t=M.safe:=by simp[DM.BM,b9]
 have d5:Blk (w.setCell ⟨b,0,none⟩ L.Bx) b (({M with dir:=M.safe}:DM).cells {L with BE:=L.Bx}) 143:=h.CY.set 0 L.Bx;have d4:=h.yw h.safe h.AC d5 (by repeat' first|exact O _ _|(with_reducible assumption)|refine Fr.drewN ?_ _|refine Fr.drew ?_|refine Fr.alloc ?_ _|refine Fr.set ?_ ?_ _|(intro _;rfl));rw[b6,c1] at hc;have HH:=Z h;have c3:=Z d4;have d8:=Z b6;have b2:=Z c1;have HT:=Z ht;have e7:=Z c2;have d9:=Z c7;have hp:=YV t M.Bj.length w e8 e9 (by omega);rw[b9] at hp;have HP:=Z hp;have f7:l.length<=maxLen:=by
  rcases ht with⟨_,rfl⟩|⟨_,_,_,_,_,h,_⟩
  .simp
  .exact h
 unfold maxLen at f7;clear h d4 b6 c1 ht d5 c7 hp b9;rw[c2];clear c2;go_enter Tryz.func33,Tryz.ntmps33
 go_wp2_with (go_at_call 85;refine HP.out.mono ?_;rintro e wx ⟨rfl,h9⟩;subst wx)
 have HL:=Z (Wm _ b _ _ c3.out (hm M.safe (Hf ..)));rw[<- b2.out];refine HL.out.mono ?_;rintro e w1 ⟨nv,rfl,a8,a6,b0⟩;obtain⟨na,nc,b1⟩:=zc a8;have d3:=zH a8;unfold maxLen at d3;have c6:ZE (w.setCell ⟨b,0,none⟩ L.Bx) b {L with BE:=L.Bx} {M with dir:=M.safe} l nv 0 w1 :=
  ⟨⟨_,c3.out.fr a6 (fun _ _=>id),rfl,rfl,rfl,rfl,fun k hk=>hk⟩,a6.mono (fun _ _=>False.elim),a8⟩
 have g4:=Z b1;have g5:=Z b0;have g2:=Z a6;clear a8 a6 b0 hc;subst b1;go_wp2_with fail
 go_loopw [44] (fun c w'=>∃ i:Nat,i<=M.safe.length/\c=.int .i64 i/\ZE (w.setCell ⟨b,0,none⟩ L.Bx) b {L with BE:=L.Bx} {M with dir:=M.safe} l (.slice na M.safe.length nc) i w') (fun c _=>M.safe.length-(intOf c).toNat)
 case atStart=>exact⟨0,Hg _,rfl,c6⟩
 case round =>
  obtain⟨i,hi,rfl,c5⟩:=hrel;have y:=Z c5;clear c5 c6;by_cases g9:i<M.safe.length
  .have hnl:M.safe.names.length=M.safe.length:=WI _
   obtain⟨ng,f2⟩:∃ g,na=some ⟨g,0,none⟩:=by
    obtain⟨g,c',h',_⟩:=zm y.out.names (by show 0<M.safe.length;omega);simp at h';exact⟨g,h'.1⟩
   subst f2;have C:i<M.safe.names.length:=by omega
   have h3:=own_cell? y.out.names i (.string M.safe.names[i]) (by simp[strs,C]);obtain⟨k,hk,b8,d1⟩:=UR M.safe M.safe.names[i] (IX C);obtain⟨Li,z,e1,e2,e3,e4,V⟩:=y.out.CZ;have R:=z.CY.cell 0;have G:=z.dir;rw[e1] at G;obtain⟨dg,a9,a5,_,f0⟩:=zm G (by show 0<M.safe.length;omega);simp only at a5;have T:Li.BE=.slice (some ⟨dg,0,none⟩) M.safe.length a9:=e1.trans a5;simp only[DM.cells,T] at R;simp at R;have h6:=own_cell? (by rw[<- a5];exact G) _ _ (Yj M.safe k hk).2;have B:=Z z;have e5:=Z b8;have e0:=Z T;have a3:=Z d1;have a2:=Z (⟨e1,e2,e3,e4,V⟩:Li.BE=_/\Li.Bx=_/\Li.Aj=_/\Li.BB=_/\_);unfold maxLen at f0;clear z b8 e1 e2 e3 e4 G V a5 T d1;go_wp2_with fail
   go_region_held3 (fun w'=>w'.cell? ⟨b,0,none⟩=some (.slice (some ⟨dg,0,none⟩) M.safe.length a9)/\w'.cell? ⟨dg,k*2+1,none⟩=some (.pointer (some ⟨M.safe[k].2,0,none⟩))) (first|go_keep|exact⟨‹_›,‹_›⟩)
    (first|(go_at_call 87;refine(Rz e5.out hk _ wr b _ _ rfl e0.out B.out (Fr.drew (O _ _))).mono ?_;rintro e w5 ⟨rfl,g6,h4,I⟩))
   have h5:=B.out.fr I (fun _ _=>id);have o:M.safe[k].2∈M.ids:=B.out.BQ _ (IX hk);have c8:(zn M.safe l M.file i M.safe[k].2).bytes.length<=1000000000000:=IP (V7 _ _ _ _ _) (f1 _ o);have X:=h5.le _ o;have b5:=(h5.files _ o).cell;have g7:=(h5.files _ o).frozen;obtain⟨fa,fc,a7⟩:=zc (h5.rows _ o);rw[a7] at b5;simp only at X b5 a7;have c4:Ya w5 tv l:=by
    have c9:Fr (fun k=>k=b\/Foot b L M k) w w5:=by
     refine Fr.trans' (Fr.set (O _ w) (p:=⟨b,0,none⟩) (fun _=>.inl rfl) L.Bx) (y.out.fr.trans (I.mono (fun _ _=>False.elim))) ?_;intro j _ E;refine .inr ?_;cases E using Foot.elim with
     | blk=>exact .CY
     | dir e=>exact .safe e
     | safe e=>exact .safe e
     | ch e=>exact .ch e
     | chs i s e=>exact .Bj i s e
     | file e=>exact .file e
     | row f hf e=>exact .row f hf e
    refine HT.out.fr c9 ?_;intro j d2 E hb;rcases hb with rfl|hb
    .exact d6 _ d2 E .CY
    .exact d6 j d2 E hb
   have r:=Z a7;have H5:=Z h5;have e6:=Z c4;have g3:=Z X;clear h5 a7 c4;generalize hF:zn M.safe l M.file i M.safe[k].2=F at b5 X c8;have A:=Z hF;clear hF;by_cases J:i<l.length
   .obtain⟨tg,toff,tcap,htv',htc⟩:∃ g a1 a4,tv=.slice (some ⟨g,a1,none⟩) l.length a4/\w5.cell? ⟨g,a1+i,none⟩=some (.int .i64 l[i]):=by
     rcases e6.out with⟨_,h0⟩|⟨g,a1,a4,hv,_,_,b4⟩
     .subst h0;simp at J
     .exact⟨g,a1,a4,hv,b4 i J⟩
    have f6:ta=some ⟨tg,toff,none⟩:=by have:=e7.out.symm.trans htv';simp at this;exact this.1
    subst f6;have d0:l.getD i 0=l[i]:=by simp[List.getD,J]
    have HG:=Z d0;have h7:=(d7 l[i] (IX J)).1;have h8:=(d7 l[i] (IX J)).2;clear d0;generalize l[i]=tx at *;obtain⟨D,S⟩:∃ D:Nat,D=F.bytes.length-F.safe:=⟨_,rfl⟩;have u:∀ wx:World,Calls Tryz.prog 85 #[.int .i64 tx,.int .i64 D] wx fun e w'=>e=.returned (.int .i64 (Z8 tx D))/\w'=wx :=
     fun wx=>YV _ _ wx (by omega) (by omega) (by omega)
    have q:=Z u;have a0:=YN tx D;clear u;generalize hP:Z8 tx D=pn at a0 q;have Q:=Z hP;clear hP;obtain⟨m,Y⟩:∃ m:Nat,m=F.safe+pn:=⟨_,rfl⟩;have f8:IntKind.i64.wrap ((F.bytes.length:Int)-(F.safe:Int))=(D:Int):=by simp (disch:=omega) only[Ea];omega
    have f9:IntKind.i64.wrap ((F.safe:Int)+(pn:Int))=(m:Int):=by simp (disch:=omega) only[Ea];omega
    have K:=Z S;have N:=Z Y;have c0:m<=F.bytes.length:=by omega
    have b4:F.bytes.length<=fc:=by
     rcases (H5.out.rows _ o).2 with⟨s,h2⟩|⟨_,_,_,s,_,_,h2,_⟩
     .simp only[A.out] at h2;omega
     .rw[r.out] at s;simp only[A.out] at s h2;simp at s;omega
    have f4:(0:Int)<=(m:Int):=by omega
    have f5:(m:Int)<=(fc:Int):=by omega
    clear S Y a0;by_cases b7:fc=0
    .have hm0:m=0:=by omega
     go_wp2_with fail;refine GK 26 (by kernel_rfl) (by kernel_rfl) ?_;simp only[Gp,GZ,GH,GU]
     iterate 21 still_step
     still_call (q.out _)
     iterate 4 still_step
     refine FV ?_
     go_wp2
     obtain rfl:m=0:=hm0;refine⟨⟨i+1,by omega,by go_num,?_⟩,by simp[intOf];omega⟩;refine ZE.step (v:=.slice fa 0 0) (m:=0) y.out B.out a2.out I C a3.out o ?_ ?_ ?_
     .show 0=(zn M.safe l M.file i M.safe[k].2).safe+Z8 (l.getD i 0) ((zn M.safe l M.file i M.safe[k].2).bytes.length-(zn M.safe l M.file i M.safe[k].2).safe)
      rw[A.out,HG.out,<- K.out,Q.out];exact N.out
     .have hr:=H5.out.rows _ o
      simp only[A.out] at hr;rw[r.out] at hr;simp only[A.out] at hr;have hz:F.bytes.length=0:=by omega
      rw[hz,b7] at hr;have b3:F.bytes=[]:=Hm hz;show w5.ownsRow 0 5 1 (.slice fa 0 0) 0 (u8s ((zn M.safe l M.file i M.safe[k].2).bytes.take 0));rw[b3] at hr
      simpa using hr
     .intro j E
      rw[r.out];cases fa with
      | none=>exact E
      | some a=>exact E
    .obtain⟨gb,hgb⟩:∃ gb,fa=some ⟨gb,0,none⟩:=by
      rcases (H5.out.rows _ o).2 with⟨s,_⟩|⟨g,_,_,s,_⟩
      .rw[r.out] at s;simp at s;omega
      .rw[r.out] at s;simp at s;exact⟨g,s.1⟩
     subst hgb;go_wp2_with fail;refine GK 26 (by kernel_rfl) (by kernel_rfl) ?_;simp only[Gp,GZ,GH,GU]
     iterate 21 still_step
     still_call (q.out _)
     iterate 4 still_step
     refine FV ?_
     go_wp2
     refine⟨⟨i+1,by omega,by go_num,?_⟩,by simp[intOf];omega⟩;refine ZE.step (v:=.slice (some ⟨gb,0,none⟩) m fc) (m:=m) y.out B.out a2.out I C a3.out o ?_ ?_ ?_
     .show m=(zn M.safe l M.file i M.safe[k].2).safe+Z8 (l.getD i 0) ((zn M.safe l M.file i M.safe[k].2).bytes.length-(zn M.safe l M.file i M.safe[k].2).safe)
      rw[A.out,HG.out,<- K.out,Q.out];exact N.out
     .have hr:=H5.out.rows _ o
      simp only[A.out] at hr;rw[r.out] at hr;simp only[A.out] at hr;show w5.ownsRow 0 5 1 (.slice (some ⟨gb,0,none⟩) m fc) m (u8s ((zn M.safe l M.file i M.safe[k].2).bytes.take m));rw[A.out];have:=VE hr c0;rw[show u8s (F.bytes.take m)=(u8s F.bytes).take m by simp[u8s]];exact this
     .intro j E
      rw[r.out];exact E
   .have HG:Hid (l.getD i 0=0):=by simp[Hid,List.getD,J]
    obtain⟨D,S⟩:∃ D:Nat,D=F.bytes.length-F.safe:=⟨_,rfl⟩;have u:∀ wx:World,Calls Tryz.prog 85 #[.int .i64 0,.int .i64 D] wx fun e w'=>e=.returned (.int .i64 (Z8 0 D))/\w'=wx :=
     fun wx=>YV _ _ wx (by omega) (by omega) (by omega)
    have q:=Z u;have a0:=YN 0 D;clear u;generalize hP:Z8 0 D=pn at a0 q;have Q:=Z hP;clear hP;obtain⟨m,Y⟩:∃ m:Nat,m=F.safe+pn:=⟨_,rfl⟩;have f8:IntKind.i64.wrap ((F.bytes.length:Int)-(F.safe:Int))=(D:Int):=by simp (disch:=omega) only[Ea];omega
    have f9:IntKind.i64.wrap ((F.safe:Int)+(pn:Int))=(m:Int):=by simp (disch:=omega) only[Ea];omega
    have K:=Z S;have N:=Z Y;have c0:m<=F.bytes.length:=by omega
    have b4:F.bytes.length<=fc:=by
     rcases (H5.out.rows _ o).2 with⟨s,h2⟩|⟨_,_,_,s,_,_,h2,_⟩
     .simp only[A.out] at h2;omega
     .rw[r.out] at s;simp only[A.out] at s h2;simp at s;omega
    have f4:(0:Int)<=(m:Int):=by omega
    have f5:(m:Int)<=(fc:Int):=by omega
    clear S Y a0;by_cases b7:fc=0
    .have hm0:m=0:=by omega
     go_wp2_with fail;refine GK 26 (by kernel_rfl) (by kernel_rfl) ?_;simp only[Gp,GZ,GH,GU]
     iterate 21 still_step
     still_call (q.out _)
     iterate 4 still_step
     refine FV ?_
     go_wp2
     obtain rfl:m=0:=hm0;refine⟨⟨i+1,by omega,by go_num,?_⟩,by simp[intOf];omega⟩;refine ZE.step (v:=.slice fa 0 0) (m:=0) y.out B.out a2.out I C a3.out o ?_ ?_ ?_
     .show 0=(zn M.safe l M.file i M.safe[k].2).safe+Z8 (l.getD i 0) ((zn M.safe l M.file i M.safe[k].2).bytes.length-(zn M.safe l M.file i M.safe[k].2).safe)
      rw[A.out,HG.out,<- K.out,Q.out];exact N.out
     .have hr:=H5.out.rows _ o
      simp only[A.out] at hr;rw[r.out] at hr;simp only[A.out] at hr;have hz:F.bytes.length=0:=by omega
      rw[hz,b7] at hr;have b3:F.bytes=[]:=Hm hz;show w5.ownsRow 0 5 1 (.slice fa 0 0) 0 (u8s ((zn M.safe l M.file i M.safe[k].2).bytes.take 0));rw[b3] at hr
      simpa using hr
     .intro j E
      rw[r.out];cases fa with
      | none=>exact E
      | some a=>exact E
    .obtain⟨gb,hgb⟩:∃ gb,fa=some ⟨gb,0,none⟩:=by
      rcases (H5.out.rows _ o).2 with⟨s,_⟩|⟨g,_,_,s,_⟩
      .rw[r.out] at s;simp at s;omega
      .rw[r.out] at s;simp at s;exact⟨g,s.1⟩
     subst hgb;go_wp2_with fail;refine GK 26 (by kernel_rfl) (by kernel_rfl) ?_;simp only[Gp,GZ,GH,GU]
     iterate 21 still_step
     still_call (q.out _)
     iterate 4 still_step
     refine FV ?_
     go_wp2
     refine⟨⟨i+1,by omega,by go_num,?_⟩,by simp[intOf];omega⟩;refine ZE.step (v:=.slice (some ⟨gb,0,none⟩) m fc) (m:=m) y.out B.out a2.out I C a3.out o ?_ ?_ ?_
     .show m=(zn M.safe l M.file i M.safe[k].2).safe+Z8 (l.getD i 0) ((zn M.safe l M.file i M.safe[k].2).bytes.length-(zn M.safe l M.file i M.safe[k].2).safe)
      rw[A.out,HG.out,<- K.out,Q.out];exact N.out
     .have hr:=H5.out.rows _ o
      simp only[A.out] at hr;rw[r.out] at hr;simp only[A.out] at hr;show w5.ownsRow 0 5 1 (.slice (some ⟨gb,0,none⟩) m fc) m (u8s ((zn M.safe l M.file i M.safe[k].2).bytes.take m));rw[A.out];have:=VE hr c0;rw[show u8s (F.bytes.take m)=(u8s F.bytes).take m by simp[u8s]];exact this
     .intro j E
      rw[r.out];exact E
  .have C:i=M.safe.length:=by omega
   subst C;obtain⟨Li,z,e1,e2,e3,e4,V⟩:=y.out.CZ;have R:=z.CY.cell;have b8:=z.CY.frozen;simp only[DM.cells,e1,e2,e3] at R;simp only[b2.out,d8.out] at R;have f3:=z;have B:=Z z;have HE:=Z (⟨e1,e2,e3,e4,V⟩:_/\_/\_/\_/\_);clear z e1 e2 e3 e4 V f3
   go_wp2
   go_end0
   refine⟨rfl,?_⟩;rw[<- b2.out];refine RA d9.out y.out (by repeat' first|exact O _ _|(with_reducible assumption)|refine Fr.drewN ?_ _|refine Fr.drew ?_|refine Fr.alloc ?_ _|refine Fr.set ?_ ?_ _|(intro _;rfl)) ?_;intro k hk;cases hk using Foot.elim with
   | blk=>exact .CY
   | dir e=>exact .safe e
   | safe e=>exact .safe e
   | ch e=>exact .ch e
   | chs i s e=>exact .Bj i s e
   | file e=>exact .file e
   | row f hf e=>exact .row f hf e
end Go.Proofs.YtkhnggkkiefcdaaGreatDoor
