/- larder: joined texts -/
import Derived.Test.YtkhnggkkiefcdaaGreatDoorUNAA
import Derived.Test.YtkhnggkkiefcdaaGreatDoorUNAE
import Derived.Deep.RegionHeld3
import Derived.Test.YtkhnggkkiefcdaaGreatDoorChecked
import Derived.Lib.LazyBuf
namespace Go.Proofs.YtkhnggkkiefcdaaGreatDoor
open Go.RowKit
set_option maxRecDepth 100000
set_option maxHeartbeats 8000000
def JM.has(J:JM)(M:DM)(size:Nat):Bool:=((M.size J.name).2==0)&&((M.size J.name).1==(size:Int))
theorem Lo(f g:Nat)(J:JM)(L:DL)(M:DM)(size:Nat)(w:World)(l:JRep w f g J)(p:DRep w g L M) :
 Calls Tryz.prog 204 #[.pointer (some ⟨f,0,none⟩),.int .i64 size] w fun e d=>e=.returned (.bool (J.has M size))/\Fr Nil w d:=by
 have t:w.cell? ⟨f,0,none⟩=some (.pointer (some ⟨g,0,none⟩)):=l.cell 0;have u:w.cell? ⟨f,3,none⟩=some (.string J.name):=l.cell 3;have s:Hid (∀ d,Fr Nil w d->d.cell? ⟨f,0,none⟩=some (.pointer (some ⟨g,0,none⟩))/\d.cell? ⟨f,3,none⟩=some (.string J.name)):=by
  intro d v;have:=(Blk.fr l v id).cell;exact⟨by rw[this];rfl,by rw[this];rfl⟩
 have r:=Z p;unfold JM.has;clear l p;go_enter Tryz.func204,Tryz.ntmps204;go_wp2_with fail
 go_region_held3 (fun d=>d.cell? ⟨f,0,none⟩=some (.pointer (some ⟨g,0,none⟩))/\d.cell? ⟨f,3,none⟩=some (.string J.name)) (first|assumption|go_keep)
  (first
  | (go_at_call 188;refine(Tn J.name _ g L M (r.out.nil zd)).mono ?_;rintro e q ⟨rfl,o⟩;have c:Fr Nil w q:=Fr.trans zd o;have x:=s.out q c))
 generalize j:(M.size J.name).2=a;generalize k:(M.size J.name).1=b;have h:=Z j;have i:=Z k;clear j k;cases ha:(a==0) with
 | true =>
  have m:=Z ha
  go_wp2
  go_ret;rw[h.out,i.out,m.out];exact⟨by simp,c⟩
 | false =>
  have m:=Z ha
  go_wp2
  go_ret;rw[h.out,i.out,m.out];exact⟨by simp,c⟩
def JM.Ah(J:JM)(M:DM)(a:ByteArray):Bool × Option Int × JM × DM :=
 if (M.add J.name a).1=0 then(true,none,{J with size:=J.size+a.size},(M.add J.name a).2)
 else if J.has (M.add J.name a).2 (J.size+a.size)=true then(true,some (M.add J.name a).1,{J with size:=J.size+a.size},(M.add J.name a).2)
 else(false,some (M.add J.name a).1,J,(M.add J.name a).2)
def JM.append(J:JM)(M:DM)(a:ByteArray)(f:Nat):Bool × Option Int × JM × DM :=
 match (J.Bq M a.size f).1 with
 | some n=>(false,some n,(J.Bq M a.size f).2.1,(J.Bq M a.size f).2.2)
 | none=>(J.Bq M a.size f).2.1.Ah (J.Bq M a.size f).2.2 a
theorem Xa(B u x:Nat)(J:JM)(L:DL)(M:DM)(a:ByteArray)(b6:a.size<1000000000000)(b8:J.size<1000000000000)(b0:J.last+1<1000000000000)(w:World)(hj:JRep w u x J)(hd:DRep w x L M)(ht:YU B w)(hB:B<=w.heap.size)(a2:∀ k,Foot x L M k->B<=k)
 (b4:(J.Bj M).2.Bl.length+1<=1000000000000)(b5:(J.Bj M).2.dir.length+1<=1000000000000)
 (q:∀ f,w.heap.size<=f->0<=(J.Bq M a.size f).2.2.part/\(J.Bq M a.size f).2.1.size<1000000000000/\∀ g,g∈(J.Bq M a.size f).2.2.ids->((J.Bq M a.size f).2.2.file g).bytes.length<=1000000000000) :
 Calls Tryz.prog 164 #[.pointer (some ⟨u,0,none⟩),.string a] w fun e w' =>
  ∃ f v L',e=.returned (.tuple #[.bool (J.append M a f).1,v])/\w.heap.size<=f/\ERep w' v (J.append M a f).2.1/\JStep u x L M w (J.append M a f).2.2.1 L' (J.append M a f).2.2.2 w':=by
 have HM:=Z (Sg B u x J L M a.size b6 b8 b0 w hj hd ht hB a2 b4 b5);have b1:=Z q;clear hd hj ht q;go_enter Tryz.func164,Tryz.ntmps164;go_wp2_with fail;refine HM.out.mono ?_;rintro e w1 ⟨f,v1,L1,rfl,Q,hE,p⟩;have q:=b1.out f Q;have K:∀ n,(J.Bq M a.size f).1=some n->J.append M a f=(false,some n,(J.Bq M a.size f).2.1,(J.Bq M a.size f).2.2):=by intro n h;unfold JM.append;rw[h]
 have I:(J.Bq M a.size f).1=none->J.append M a f=(J.Bq M a.size f).2.1.Ah (J.Bq M a.size f).2.2 a:=by intro h;unfold JM.append;rw[h]
 generalize a8:(J.Bq M a.size f).2.1=c at q p K I;generalize a9:(J.Bq M a.size f).2.2=j at q p K I;have D:=Z p;have V:=Z q;cases he:(J.Bq M a.size f).1 with
 | some n =>
  rw[he] at hE;have hp:=K n he;have A:=Z hp;have HE:=Z hE;obtain⟨k,hk⟩:=hE;obtain⟨t,b,rfl⟩:=hk.form;clear he hp hk p a8 a9 q K I
  go_wp2
  go_ret2;refine⟨f,.iface t (.pointer (some ⟨b,0,none⟩)),L1,?_,Q,?_,?_⟩
  ·(rw[A.out]) <;> rfl
  .rw[A.out];exact HE.out
  .rw[A.out];exact D.out
 | none =>
  rw[he] at hE;have hp:=I he;have hv:v1=.nilIface:=hE;subst hv;have c1:w1.cell? ⟨u,0,none⟩=some (.pointer (some ⟨x,0,none⟩)):=p.1.cell 0;have c2:w1.cell? ⟨u,3,none⟩=some (.string c.name):=p.1.cell 3;have A:=Z hp;have HK:Hid (∀ wx w' L',DStep x L1 j wx L' (j.add c.name a).2 w'->Fr Nil w1 wx->w'.cell? ⟨u,0,none⟩=some (.pointer (some ⟨x,0,none⟩))/\w'.cell? ⟨u,3,none⟩=some (.string c.name)):=by
   intro wx w' L' N Q;have:=((Blk.fr p.1 Q id).step (p.2.1.nil Q) N (by unfold DTy;decide)).cell;exact⟨by rw[this];rfl,by rw[this];rfl⟩
  clear he hp hE p a8 a9 q K I;go_wp2_with fail
  go_region_held3 (fun w'=>w'.cell? ⟨u,0,none⟩=some (.pointer (some ⟨x,0,none⟩))/\w'.cell? ⟨u,3,none⟩=some (.string c.name)) (first|assumption|go_keep)
   (first
   | (go_at_call 166;refine(Ye _ _ _ _).mono ?_;rintro e w3 ⟨v3,rfl,d,a1⟩;have b9:w3.cell? ⟨u,0,none⟩=some (.pointer (some ⟨x,0,none⟩))/\w3.cell? ⟨u,3,none⟩=some (.string c.name):=HK.out _ _ _ (a6.out.Bn (Fr.trans zd a1)) (U _ _);have a3:=Z d;have b3:Hid (Fr Nil w2 w3):=Fr.trans zd a1;clear d a1)
   | (go_at_call 203;refine(Uc c.name a _ x L1 j (D.out.2.1.nil zd) V.out.1 (by omega) V.out.2.2).mono ?_;rintro e w2 ⟨rfl,O,N⟩;have c4:=HK.out _ _ _ N zd;have a6:Hid (DStep x L1 j w1 O (j.add c.name a).2 w2):=N.of zd;clear N))
  have m:=D.out.trans ((JStep.Al D.out.1 D.out.2.1 a6.out).Bn b3.out);have c0:=V.out.2.1;have C:=Z m;have hc:=m.1.cell;have hz:=m.1.frozen;simp only[JM.cells] at hc;have c3:IntKind.i64.wrap ((c.size:Int)+a.size)=(c.size:Int)+a.size:=by rw[Hg];omega
  have T:JStep u x O (j.add c.name a).2 w3 {c with size:=c.size+a.size} O (j.add c.name a).2 (w3.setCell ⟨u,4,none⟩ (.int .i64 ((c.size:Int)+a.size))) :=
   JStep.set m.1 m.2.1 4 (.int .i64 ((c.size:Int)+a.size)) (J':={c with size:=c.size+a.size}) (by simp[JM.cells])
  have a5:=Z T;clear b9 m T;by_cases R:(j.add c.name a).1=0
  .have d:=a3.out
   unfold zE at d;rw[IC R] at d;have hv:v3=.nilIface:=d;subst hv;have s:c.Ah j a=(true,none,{c with size:=c.size+a.size},(j.add c.name a).2):=by unfold JM.Ah;rw[IC R]
   have i:=Z s;clear s R d;go_wp2_with fail;refine(zz _ _ none _ rfl).mono ?_;rintro e w4 ⟨v4,rfl,a7,l⟩;have b2:=Z a7;have HF:=Z ((C.out.trans a5.out).Bn l);clear a7 l
   go_wp2
   go_ret2;refine⟨f,v4,O,?_,Q,?_,?_⟩
   ·(rw[A.out,i.out]) <;> rfl
   .rw[A.out,i.out];exact b2.out
   .rw[A.out,i.out];exact HF.out
  .have d:=a3.out
   unfold zE at d;rw[It R] at d;have a4:=Z d;obtain⟨k,hk⟩:∃ k,Zo w3 (j.add c.name a).1 k v3:=d;obtain⟨t,b,rfl⟩:=hk.form;have HH:=Z (Lo u x c O (j.add c.name a).2 (c.size+a.size) w3 C.out.1 C.out.2.1);have o:((c.size+a.size:Nat):Int)=(c.size:Int)+a.size:=by omega
   cases hh:c.has (j.add c.name a).2 (c.size+a.size) with
   | true =>
    have s:c.Ah j a=(true,some (j.add c.name a).1,{c with size:=c.size+a.size},(j.add c.name a).2):=by unfold JM.Ah;rw[It R,IC hh]
    have i:=Z s;rw[hh] at HH;rw[o] at HH;clear s R hk hh o;go_wp2_with fail;refine HH.out.mono ?_;rintro e w4 ⟨rfl,l⟩;have r:=C.out.Bn l;have b7:=r.1.cell;have c5:=r.1.frozen;simp only[JM.cells] at b7;have y:JStep u x O (j.add c.name a).2 w4 {c with size:=c.size+a.size} O (j.add c.name a).2 (w4.setCell ⟨u,4,none⟩ (.int .i64 ((c.size:Int)+a.size))) :=
     JStep.set r.1 r.2.1 4 (.int .i64 ((c.size:Int)+a.size)) (J':={c with size:=c.size+a.size}) (by simp[JM.cells])
    have X:=Z (ERep.yQ (a4.out.fr l (XU.nil _)) r.1 r.2.1 y);have a0:=Z (r.trans y);clear r y l hc hz;go_wp2_with fail;refine(zz _ _ _ _ X.out).mono ?_;rintro e w5 ⟨v5,rfl,E,G⟩;have Y:=Z E;have HF:=Z (a0.out.Bn G);clear E G
    go_wp2
    go_ret2;refine⟨f,v5,O,?_,Q,?_,?_⟩
    ·(rw[A.out,i.out]) <;> rfl
    .rw[A.out,i.out];exact Y.out
    .rw[A.out,i.out];exact HF.out
   | false =>
    have s:c.Ah j a=(false,some (j.add c.name a).1,c,(j.add c.name a).2):=by unfold JM.Ah;rw[It R,It (by rw[hh];simp)]
    have i:=Z s;rw[hh] at HH;rw[o] at HH;clear s R hk hh o;go_wp2_with fail;refine HH.out.mono ?_;rintro e w4 ⟨rfl,l⟩;have X:=Z (a4.out.fr l (XU.nil _));have a0:=Z (C.out.Bn l);clear l;go_wp2_with fail;refine(zz _ _ _ _ X.out).mono ?_;rintro e w5 ⟨v5,rfl,E,G⟩;have Y:=Z E;have HF:=Z (a0.out.Bn G);clear E G
    go_wp2
    go_ret2;refine⟨f,v5,O,?_,Q,?_,?_⟩
    ·(rw[A.out,i.out]) <;> rfl
    .rw[A.out,i.out];exact Y.out
    .rw[A.out,i.out];exact HF.out
theorem Kz:((Tryz.prog.info? 75).map fun i=>(i.zero.map (·.cells.size),i.size,i.bytes))=some (some 2,2,24):=by kernel_rfl
theorem QH(a b:List (Nat × ByteArray)):Zj (a++b)=Zj a++Zj b:=by simp[Zj]
theorem Oj(l:List (Nat × ByteArray)):Ya 2 0 (Zj l)=Zj (l.drop 1):=by
 cases l with
 | nil=>rfl
 | cons e l=>simp[Ya,Zj]
theorem SRep.hints{w w' w2:World}{b:Nat}{L:SL}{S:SM}{d:Value}{x:List (Nat × ByteArray)}(h:SRep w b L S)(f:Fr (fun k=>L.hv.ownBlock=some k) w w')(I:w'.ownsRow 0 75 2 d x.length (Zj x))
 (D:∀ k,d.ownBlock=some k->L.hv.ownBlock=some k\/w.heap.size<=k)(B:Fr Nil (w'.setCell ⟨b,1,none⟩ d) w2):SStep w b L {S with hints:=x} Nil w2:=by
 have r:∀ {k},L.hv.ownBlock=some k->k≠b:=fun c e=>zi h.hint h.Bi (by decide) (by rw[c,e]);have j:Blk w' b [L.kv,L.hv,.int .i64 S.Bh] 161:=h.Bi.fr f (fun e=>r e rfl);have C:=h.Bi.lt;have y:∀ k,d.ownBlock=some k->k≠b:=by
  intro k c e;rcases D k c with q|q
  .exact r q e
  .omega
 have t:Fr (fun k=>k=b) w' (w'.setCell ⟨b,1,none⟩ d):=Fr.set (S:=fun k=>k=b) (U _ _) (fun _=>rfl) _;have i:Wm w' L.kv L.BD:=h.yo.fr f (fun k c e=>Zb h.yo.own h.hint (by decide) c e);have o:Pair (VRow w') L.BD S.keys:=h.pair.mono (fun a _ l s=>VRow.fr s f (fun k c e=>Zb s h.hint (by decide) c e));have A:SRep (w'.setCell ⟨b,1,none⟩ d) b {L with hv:=d} {S with hints:=x} :=
  ⟨j.set 1 _,i.fr t (fun k c e=>zi i.own j (by decide) (by rw[c,e])),o.mono (fun a _ l s=>VRow.fr s t (fun k c e=>zi s j (by decide) (by rw[c,e]))),ze I t y⟩
 refine⟨{L with hv:=d},A.nil B,?_,fun k c=>?_,fun k c=>.inl c⟩
 .refine((f.mono (fun k _ e=>.inr (.inr e))).trans' t (fun k _ e=>.inl e)).trans (B.mono (fun _ _ e=>absurd e id))
 .rcases c with c|c|c
  .exact .inl (.inl c)
  .exact .inl (.inr (.inl c))
  .rcases D k c with q|q
   .exact .inl (.inr (.inr q))
   .exact .inr q
theorem QI(b:Nat)(L:SL)(S:SM)(w:World)(h:SRep w b L S)(B:S.hints.length<1000000) :
 Calls Tryz.prog 275 #[.agg #[],.pointer (some ⟨b,0,none⟩)] w fun e R=>e=.returned (.tuple #[])/\SStep w b L {S with hints:=S.hints.drop 1} Nil R:=by
 have q:Fr Nil w (w.alloc (.cells #[] 135)):=(U _ _).alloc _;have r:=h.nil q;obtain⟨X,I,i⟩:=zg h.hint;have x:∀ k,(w.alloc (.cells #[] 135)).cell? ⟨b,k,none⟩=[L.kv,L.hv,.int .i64 S.Bh][k]?:=fun k=>r.Bi.cell k;rw[i] at x;have V:=Z h;have l:=Z r;have u:=Z i;clear h r i;by_cases C:S.hints.length=0
 .have hnil:S.hints=[]:=IY C
  have m:({S with hints:=S.hints.drop 1}:SM)=S:=by obtain⟨a,b,c⟩:=S;simp only at hnil;subst hnil;rfl
  rw[m];have t:¬(0:Int)<S.hints.length:=by omega
  clear m hnil C;go_enter Tryz.func275,Tryz.ntmps275
  go_wp2
  exact GJ (v:=.tuple #[]) (by simp[results,go_sem]) rfl ⟨rfl,L,l.out,q.mono (fun _ _ e=>absurd e id),fun k j=>.inl j,fun k j=>.inl j⟩
 .have t:(0:Int)<S.hints.length:=by omega
  go_enter Tryz.func275,Tryz.ntmps275;go_wp2_with fail;have s:=l.out.hint;rw[u.out] at s;refine(Ry _ S.hints.length 0 (Zj S.hints) _ s (SP _) (by omega)).mono ?_;rintro e w2 ⟨Y,rfl,p,d,g⟩;rw[Oj] at d;have A:(S.hints.drop 1).length=S.hints.length-1:=by simp
  rw[<- A] at d;rw[<- u.out] at g p;have o:=fun T G=>l.out.hints (w2:=T) g d (fun k j=>.inl (by rw[<- p];exact j)) G;have f:=l.out.Bi.fr g (fun e=>zi l.out.hint l.out.Bi (by decide) e);have J:=f.cell;have K:=f.frozen;have D:=Z o;obtain⟨va,vc,rfl⟩:=zg d;clear o s d f x
  go_wp2
  have y:=D.out _ (U _ _);rw[A] at y;obtain⟨E,M,N,O,Q⟩:=y;exact GJ (v:=.tuple #[]) (by simp[results,go_sem]) rfl ⟨rfl,E,M,q.mono (fun _ _ e=>absurd e id) |>.trans N,fun k j=>(O k j).imp id (fun h=>Im q.size h),Q⟩
theorem KA(w:World)(v:Value)(n:Nat)(p:List Value)(h:w.ownsRow 0 75 2 v n p)(o:Nat)(a:ByteArray)(y:n<1000000)(g:World)(l:Fr Nil w g)(N:Nat)(s:Blk g N [.int .i64 o,.string a] 75)(ty:TypeId) :
 ∃ c d,(Builtin.append_ #[66,66] ty #[v,.slice (some ⟨N,0,none⟩) 1 1]).run Tryz.prog g=.ok c d /\
  (d.ownsRow 0 75 2 c (n+1) (p++[.int .i64 o,.string a])/\Fr (fun k=>v.ownBlock=some k) w d/\(∀ k,c.ownBlock=some k->v.ownBlock=some k\/w.heap.size<=k)):=by
 have t:=ze h l (fun _ _=>id);obtain⟨c,d,x,q,r,b⟩:=zt (P:=Tryz.prog) 66 ty 75 2 24 Ew Kz (by omega) v n p t ⟨N,0,none⟩ 1 1 [.int .i64 o,.string a] rfl
  (fun j u f=>by rw[Hp,Hw,s.cell];exact f) (by intro u f;simp at f;rcases f with rfl|rfl <;> rfl) (by unfold maxLen;omega) (by omega)
 refine⟨c,d,x,q,(l.mono (fun _ _ e=>absurd e id)).trans' ((Fr.BI r).mono (fun i _ h=>h)) (fun i _ h=>h),fun k m=>?_⟩;rcases b with b|b
 .exact .inl (by rw[<- b];exact m)
 .rw[b] at m;simp at m;have:=l.size;exact .inr (by omega)
theorem Rz(c:Nat)(a:ByteArray)(b:Nat)(L:SL)(S:SM)(w:World)(h:SRep w b L S)(q:S.hints.length<1000000) :
 Calls Tryz.prog 283 #[.agg #[.int .i64 c,.string a],.pointer (some ⟨b,0,none⟩)] w fun e w'=>e=.returned (.tuple #[])/\SStep w b L {S with hints:=S.hints++[(c,a)]} Nil w':=by
 have x:Fr Nil w (w.alloc (.cells #[.int .i64 c,.string a] 138)):=(U _ _).alloc _;have d:Blk (w.alloc (.cells #[.int .i64 c,.string a] 138)) w.heap.size [.int .i64 c,.string a] 138:=Blk.new w [.int .i64 c,.string a] _;have g:=h.nil x;obtain⟨N,O⟩:∃ N,w.heap.size=N:=⟨_,rfl⟩;obtain⟨V,D,i⟩:=zg h.hint;go_enter Tryz.func283,Tryz.ntmps283;go_wp2_with fail;rw[O] at d;obtain⟨j,t⟩:∃ j,w.alloc (.cells #[.int .i64 c,.string a] 138)=j:=⟨_,rfl⟩;rw[t] at d x g |-;clear t O;have X:∀ k,j.cell? ⟨b,k,none⟩=[L.kv,L.hv,.int .i64 S.Bh][k]?:=fun k=>g.Bi.cell k;have hz:∀ k,j.frozen? ⟨b,k,none⟩=false:=fun k=>g.Bi.frozen k;have hx:∀ k,j.cell? ⟨N,k,none⟩=[.int .i64 c,.string a][k]?:=fun k=>d.cell k;have E:∀ (o:Obj) k,(j.alloc o).cell? ⟨b,k,none⟩=[L.kv,L.hv,.int .i64 S.Bh][k]?:=fun o k=>(g.Bi.alloc o).cell k;have a0:∀ (o:Obj) k,(j.alloc o).cell? ⟨N,k,none⟩=[.int .i64 c,.string a][k]?:=fun o k=>(d.alloc o).cell k;rw[i] at X E;have y:=g.hint;rw[i] at y;have R:=Z y;have A:Hid (∀ u:World,Fr (fun k=>(Value.slice V S.hints.length D).ownBlock=some k) j u->Blk u b [L.kv,L.hv,.int .i64 S.Bh] 161):=fun u f=>g.Bi.fr f (zi y g.Bi (by decide));have Q:=Z g;have HH:=Z h;have M:=Z i;clear h g i d y
 go_region_law
  ((refine ZS (by rfl) _ _ _ _ (by rfl) _ _ (by rfl) (by rfl) (KA j _ _ _ R.out c a q _ zd _ (by first|exact Blk.new _ [_,_] _|exact(Blk.new _ [_,_] _).drew) _) ?_;rintro v4 u ⟨m,l,r⟩;obtain⟨J,K,I⟩:=zg m;subst I;have p:=A.out _ l;have Y:=p.cell;have a1:=p.frozen;have C:=Z m;have B:=Z r;clear m r))
 all_goals
  go_wp2
  have hl:(S.hints++[(c,a)]).length=S.hints.length+1:=by simp
  have G:u.ownsRow 0 75 2 (.slice J (S.hints.length+1) K) (S.hints++[(c,a)]).length (Zj (S.hints++[(c,a)])):=by
   rw[hl,QH];exact C.out
  rw[<- M.out] at l;have s:=B.out;rw[<- M.out] at s;obtain⟨T,q1,q2,q3,q4⟩:=Q.out.hints (w2:=_) l G s (U _ _);exact GJ (v:=.tuple #[]) (by simp[results,go_sem]) rfl ⟨rfl,T,q1,(x.mono (fun _ _ e=>absurd e id)).trans q2,fun k hk=>(q3 k hk).imp id (fun h=>Im x.size h),q4⟩
def SM.holds(S:SM)(a:ByteArray)(l:List Ver):SM:={S with keys:=if l=[] then YL S.keys a else ZU S.keys a l}
theorem SRep.kept{w f:World}{b:Nat}{L:SL}{S:SM}{a:List (ByteArray × Value)}{keys:List (ByteArray × List Ver)}(h:SRep w b L S)(o:YG w b 161 L.kv [L.hv,.int .i64 S.Bh] a f)
 (m:Pair (VRow f) a keys)(X:Nat->Prop)(q:∀ k,(∃ e∈a,e.2.ownBlock=some k)->SRead L k\/X k):SStep w b L {S with keys:=keys} X f:=by
 obtain⟨r,i,j,g,l⟩:=o;have d:∀ {k},L.hv.ownBlock=some k->k≠b:=fun c e=>zi h.hint h.Bi (by decide) (by rw[c,e]);refine⟨{L with kv:=r,BD:=a},⟨i,j,m,ze h.hint g (fun k c e=>?_)⟩,g.mono (fun k _ e=>e.imp id .inl),fun k c=>?_,fun k c=>q k c⟩
 .rcases e with e|e
  .exact d c e
  .exact Zb h.hint h.yo.own (by decide) c e
 .rcases c with c|c|c
  .exact .inl (.inl c)
  .rcases l k c with h1|h1
   .exact .inl (.inr (.inl h1))
   .exact .inr h1
  .exact .inl (.inr (.inr c))
theorem YG.xC{w f:World}{b:Nat}{L:SL}{S:SM}{a:List (ByteArray × Value)}(h:SRep w b L S)(i:YG w b 161 L.kv [L.hv,.int .i64 S.Bh] a f){v:Value}{l:List Ver}(c:VRow w v l):VRow f v l:=by
 obtain⟨p,j,m,g,o⟩:=i;refine VRow.fr c g (fun k d e=>?_);rcases e with e|e
 .exact zi c h.Bi (by decide) (by rw[d,e])
 .exact Zb c h.yo.own (by decide) d e
theorem YG.of{w d c:World}{b:Nat}{t:TypeId}{v:Value}{a:List Value}{l:List (ByteArray × Value)}(h:YG d b t v a l c)(f:Fr Nil w d):YG w b t v a l c:=by
 obtain⟨q,g,i,j,o⟩:=h;exact⟨q,g,i,(f.mono (fun _ _ e=>absurd e id)).trans j,fun k m=>(o k m).imp id (fun h=>Im f.size h)⟩
theorem SStep.of{w c a:World}{b:Nat}{L:SL}{S:SM}{X:Nat->Prop}(h:SStep c b L S X a)(f:Fr Nil w c):SStep w b L S X a:=by
 obtain⟨d,i,j,l,m⟩:=h;exact⟨d,i,(f.mono (fun _ _ e=>absurd e id)).trans j,fun k g=>(l k g).imp id (fun h=>Im f.size h),m⟩
theorem QJ(c:ByteArray)(lv:Value)(l:List Ver)(b:Nat)(L:SL)(S:SM)(w:World)(h:SRep w b L S)(hl:VRow w lv l)(M:S.keys.length<1099511627776) :
 Calls Tryz.prog 287 #[.agg #[.string c,lv],.pointer (some ⟨b,0,none⟩)] w fun e D=>e=.returned (.tuple #[])/\SStep w b L (S.holds c l) (fun k=>lv.ownBlock=some k) D:=by
 obtain⟨i,j,rfl⟩:=zg hl;have B:Fr Nil w (w.alloc (.cells #[.string c,.slice i l.length j] 193)):=(U _ _).alloc _;have d:Blk (w.alloc (.cells #[.string c,.slice i l.length j] 193)) w.heap.size [.string c,.slice i l.length j] 193:=Blk.new w [.string c,.slice i l.length j] _;have u:=h.nil B;have t:VRow (w.alloc (.cells #[.string c,.slice i l.length j] 193)) (.slice i l.length j) l:=VRow.fr hl B (fun _ _=>id);have K:L.BD.length<1099511627776:=by rw[h.pair.length];exact M
 by_cases C:l=[]
 .have hz0:((l.length:Int)==0)=true:=by rw[C];rfl
  have I:S.holds c l={S with keys:=YL S.keys c}:=by simp[SM.holds,C]
  rw[I];clear C I;go_enter Tryz.func287,Tryz.ntmps287;go_wp2_with fail;obtain⟨N,G⟩:∃ N,w.heap.size=N:=⟨_,rfl⟩;rw[G] at d |-;obtain⟨m,s⟩:∃ m,w.alloc (.cells #[.string c,.slice i l.length j] 193)=m:=⟨_,rfl⟩;rw[s] at d B u t |-;clear s G;have T:m.cell? ⟨N,0,none⟩=some (.string c):=by rw[d.cell];rfl
  have x:Hid (∀ A o:World,Fr Nil m A->YG A b 161 L.kv [L.hv,.int .i64 S.Bh] (Xh L.BD c) o->o.cell? ⟨N,0,none⟩=some (.string c)):=by
   rintro A o f ⟨v',_,_,R,_⟩;have E:=u.nil f;have y:=d.fr f id;rw[(y.fr R (fun e=>?_)).cell];rfl;rcases e with e|e
   .exact y.ne E.Bi (by decide) e
   .exact zi E.yo.own y (by decide) e
  have q:=Z u;have HH:=Z h;clear h u d
  go_region_held3 (fun D=>D.cell? ⟨N,0,none⟩=some (.string c)) (first|go_keep|assumption)
   (first
   | (go_at_call 290;refine(Rx L.kv _ L.BD c b _ _ ((q.out.nil zd).Bi) (by decide) ((q.out.nil zd).yo) K).mono ?_;rintro e o ⟨rfl,g⟩;have Y:=x.out _ _ zd g;have p:=Z (show YG m _ _ _ _ _ o from g.of zd);clear g))
  have r:SStep m b L {S with keys:=YL S.keys c} (fun k=>(Value.slice i l.length j).ownBlock=some k) o :=
   q.out.kept p.out ((q.out.pair.mono (fun a _ l X=>YG.xC q.out p.out X)).del c) _ (fun k ⟨e,V,O⟩=>.inl ⟨e,QF e V,O⟩)
  have Q:=Z (r.of B);clear r
  go_wp2
  exact EK (v:=.tuple #[]) (by simp[results,go_sem]) rfl ⟨rfl,Q.out⟩
 .have hz0:((l.length:Int)==0)=false:=by
   have:l.length≠0:=fun e=>C (IY e);simp;omega
  have I:S.holds c l={S with keys:=ZU S.keys c l}:=by simp[SM.holds,C]
  rw[I];clear C I;go_enter Tryz.func287,Tryz.ntmps287;go_wp2_with fail;obtain⟨N,G⟩:∃ N,w.heap.size=N:=⟨_,rfl⟩;rw[G] at d |-;obtain⟨m,s⟩:∃ m,w.alloc (.cells #[.string c,.slice i l.length j] 193)=m:=⟨_,rfl⟩;rw[s] at d B u t |-;clear s G;have T:m.cell? ⟨N,0,none⟩=some (.string c):=by rw[d.cell];rfl
  have a0:m.cell? ⟨N,1,none⟩=some (.slice i l.length j):=by rw[d.cell];rfl
  have x:Hid (∀ A o:World,Fr Nil m A->YG A b 161 L.kv [L.hv,.int .i64 S.Bh] (Yd L.BD c (.slice i l.length j)) o->o.cell? ⟨N,0,none⟩=some (.string c)/\o.cell? ⟨N,1,none⟩=some (.slice i l.length j)):=by
   rintro A o f ⟨v',_,_,R,_⟩;have E:=u.nil f;have y:=d.fr f id;have J:=y.fr R (fun e=>by
    rcases e with e|e
    .exact y.ne E.Bi (by decide) e
    .exact zi E.yo.own y (by decide) e)
   exact⟨by rw[J.cell];rfl,by rw[J.cell];rfl⟩
  have q:=Z u;have HH:=Z h;have HL:=Z t;clear h u d t
  go_region_held3 (fun D=>D.cell? ⟨N,0,none⟩=some (.string c)/\D.cell? ⟨N,1,none⟩=some (.slice i l.length j)) (first|go_keep|assumption)
   (first
   | (go_at_call 291;refine(NY L.kv _ L.BD c i _ j b _ _ ((q.out.nil zd).Bi) (by decide) ((q.out.nil zd).yo) K).mono ?_;rintro e o ⟨rfl,g⟩;have Y:=x.out _ _ zd g;have p:=Z (show YG m _ _ _ _ _ o from g.of zd);clear g))
  have r:SStep m b L {S with keys:=ZU S.keys c l} (fun k=>(Value.slice i l.length j).ownBlock=some k) o :=
   q.out.kept p.out ((q.out.pair.mono (fun a _ l X=>YG.xC q.out p.out X)).set c (YG.xC q.out p.out HL.out)) _ (fun k ⟨e,V,O⟩=>by
    rcases Ky e V with h|h
    .exact .inl ⟨e,h,O⟩
    .subst h;exact .inr O)
  have Q:=Z (r.of B);clear r
  go_wp2
  exact GJ (v:=.tuple #[]) (by simp[results,go_sem]) rfl ⟨rfl,Q.out⟩
theorem I2:((Tryz.prog.info? 75).map fun i=>(i.zero.map (·.cells.size),i.size,i.bytes))=some (some 2,2,24):=by kernel_rfl
theorem QK(v:Value)(n:Nat)(o:List Value)(w:World)(d:w.ownsRow 0 75 2 v n o)(I:∀ u∈o,u.oneCell'=true)(D:n*24<=140737488355328) :
 Calls Tryz.prog 128 #[v] w fun e f =>
  ∃ b,e=.returned b/\f.ownsRow 0 75 2 b n o/\Fr Nil w f/\(∀ k,b.ownBlock=some k->w.heap.size<=k):=by
 have O:∀ (w:World) (a:Option Addr) (n c:Nat),(binOp .eql 66 (.slice a n c) (.slice none 0 0)).run Tryz.prog w=.ok (.bool a.isNone) w:=fun w a n c=>by exact Lib.run_eql_slice_nil (h:=Ew) ..
 rcases Yj d with⟨rfl,rfl,rfl⟩|⟨g,r,c,rfl,E,R,A,K,N⟩
 .go_enter Tryz.func128,Tryz.ntmps128
  go_wp2
  go_ret;exact⟨_,rfl,IX w 0 _ _,U _ _,fun k q=>by simp[Value.ownBlock] at q⟩
 .have hl:=d.1
  have y:Blk (w.alloc (.cells #[] 75)) w.heap.size [] 75:=Blk.new w [] _;have t:(w.alloc (.cells #[] 75)).ownsRow 0 75 2 (.slice (some ⟨w.heap.size,0,none⟩) 0 0) 0 []:=Yi y (Io _) (II _) (by simp) (by simp);have m:∀ j u,o[j]?=some u->(w.alloc (.cells #[] 75)).cell? ((⟨g,0,none⟩:Addr).add j)=some u:=by
   intro j u C;have L:=(IQ.1 C).1;rw[Hp,Hw,(E.alloc _).cell];rw[<- N,Gc (by omega)] at C;exact C
  have x:∀ ty,∃ b f,(Builtin.append_ #[66,66] ty #[.slice (some ⟨w.heap.size,0,none⟩) 0 0,.slice (some ⟨g,0,none⟩) n r]).run Tryz.prog (w.alloc (.cells #[] 75))=.ok b f/\App (w.alloc (.cells #[] 75)) (.slice (some ⟨w.heap.size,0,none⟩) 0 0) 75 2 (0+n) ([]++o) b f:=fun ty =>
   zt (P:=Tryz.prog) 66 ty 75 2 24 Ew I2 (by omega) _ 0 [] t ⟨g,0,none⟩ n r o hl m I (by unfold maxLen at *;omega) (by omega)
  have l:∀ b f,App (w.alloc (.cells #[] 75)) (.slice (some ⟨w.heap.size,0,none⟩) 0 0) 75 2 (0+n) ([]++o) b f ->
   ∃ p,Ending.returned b=.returned p/\f.ownsRow 0 75 2 p n o/\Fr Nil w f/\(∀ k,p.ownBlock=some k->w.heap.size<=k):=by
   rintro b f ⟨M,B,s⟩;refine⟨b,rfl,by simpa using M,((U Nil w).alloc _).trans' ((Fr.BI B).mono (fun i _ h=>h)) (fun i Q h=>?_),fun k q=>?_⟩
   .simp[Value.ownBlock] at h;omega
   .rcases s with s|s
    .rw[s] at q;simp[Value.ownBlock] at q;omega
    .rw[s] at q;simp at q;omega
  have G:=Z l;clear l m t y d E;unfold maxLen at A;go_enter Tryz.func128,Tryz.ntmps128
  go_wp2_with (at_builtin;go_must (refine zJ rfl _ _ _ _ rfl _ _ (by rfl) (by rfl) (x _) ?_);rintro b f J)
  go_ret;exact G.out _ _ J
abbrev Fact:=Sum Nat (Sum (ByteArray × List Ver) (Sum (Nat × ByteArray) Unit))
def FRep(w:World)(a:Value):Fact->Prop
 | .inl n=>a=.iface 220 (.agg #[.int .i64 n])
 | .inr (.inl x)=>∃ b,a=.iface 193 (.agg #[.string x.1,b])/\VRow w b x.2
 | .inr (.inr (.inl x))=>a=.iface 138 (.agg #[.int .i64 x.1,.string x.2])
 | .inr (.inr (.inr _))=>a=.iface 135 (.agg #[])
def WL(b:Value)(k:Nat):Prop :=
 match b with
 | .iface _ (.agg a)=>∃ v∈a.toList,v.ownBlock=some k
 | _=>False
def SM.enter(S:SM):Fact->SM
 | .inl n=>{S with Bh:=n}
 | .inr (.inl x)=>S.holds x.1 x.2
 | .inr (.inr (.inl x))=>{S with hints:=S.hints++[x]}
 | .inr (.inr (.inr _))=>{S with hints:=S.hints.drop 1}
theorem FRep.fr{S:Nat->Prop}{w w':World}{a:Value}{f:Fact}(h:FRep w a f)(fr:Fr S w w')(e:∀ k,WL a k->¬S k):FRep w' a f:=by
 rcases f with n|x|x|x
 .exact h
 .obtain⟨lv,rfl,hv⟩:=h
  exact⟨lv,rfl,VRow.fr hv fr (fun k c=>e k ⟨lv,by simp,c⟩)⟩
 .exact h
 .exact h
theorem SStep.mono{w w':World}{b:Nat}{L:SL}{S:SM}{X Y:Nat->Prop}(h:SStep w b L S X w')(f:∀ k,X k->Y k):SStep w b L S Y w':=by
 obtain⟨a,e,o,q,r⟩:=h;exact⟨a,e,o,q,fun k c=>(r k c).imp id (f k)⟩
theorem XB(f:Fact)(j:Value)(b:Nat)(L:SL)(S:SM)(w:World)(h:SRep w b L S)(p:FRep w j f)(m:S.keys.length<1099511627776)(a:S.hints.length<1000000) :
 Calls Tryz.prog 96 #[.pointer (some ⟨b,0,none⟩),j] w fun e w'=>e=.returned (.tuple #[])/\SStep w b L (S.enter f) (WL j) w':=by
 rcases f with n|⟨k,l⟩|⟨r,d⟩|x
 .have hfv:j=.iface 220 (.agg #[.int .i64 n]):=p
  subst hfv;have g:=Z (QG n b L S w h);clear h;go_enter CQ,CB;go_wp2_with fail;refine g.out.mono ?_;rintro e q ⟨rfl,c⟩;have i:=Z c;clear c
  go_wp2
  exact GJ (v:=.tuple #[]) (by simp[results,go_sem]) rfl ⟨rfl,i.out.mono (fun _ h=>absurd h id)⟩
 .obtain⟨o,hfv,hv⟩:∃ o,j=.iface 193 (.agg #[.string k,o])/\VRow w o l:=p
  subst hfv;have g:=Z (QJ k o l b L S w h hv m);clear h hv;go_enter CQ,CB;go_wp2_with fail;refine g.out.mono ?_;rintro e q ⟨rfl,c⟩;have i:=Z c;clear c
  go_wp2
  exact GJ (v:=.tuple #[]) (by simp[results,go_sem]) rfl ⟨rfl,i.out.mono (fun _ h=>⟨o,by simp,h⟩)⟩
 .have hfv:j=.iface 138 (.agg #[.int .i64 r,.string d]):=p
  subst hfv;have g:=Z (Rz r d b L S w h a);clear h;go_enter CQ,CB;go_wp2_with fail;refine g.out.mono ?_;rintro e q ⟨rfl,c⟩;have i:=Z c;clear c
  go_wp2
  exact GJ (v:=.tuple #[]) (by simp[results,go_sem]) rfl ⟨rfl,i.out.mono (fun _ h=>absurd h id)⟩
 .have hfv:j=.iface 135 (.agg #[]):=p
  subst hfv;have g:=Z (QI b L S w h a);clear h;go_enter CQ,CB;go_wp2_with fail;refine g.out.mono ?_;rintro e q ⟨rfl,c⟩;have i:=Z c;clear c
  go_wp2
  exact GJ (v:=.tuple #[]) (by simp[results,go_sem]) rfl ⟨rfl,i.out.mono (fun _ h=>absurd h id)⟩
theorem SRep.getE{w:World}{b:Nat}{L:SL}{S:SM}(h:SRep w b L S)(s:ByteArray):VRow w (getE L.BD s) (zl S.keys s):=by
 unfold Go.Proofs.YtkhnggkkiefcdaaGreatDoor.getE zl;have e:zy L.BD=S.keys.map Prod.fst:=h.pair.keys;rw[e];split
 .rename_i ha
  have d:zZ zh (zy L.BD) s=true:=by rw[e];exact ha
  obtain⟨c,_⟩:=Xg d;rw[e] at c;have a:low zh (S.keys.map Prod.fst) s<S.keys.length:=by rw[<- h.pair.length];exact c
  have:=h.pair.get _ c a
  simpa [c,a] using this
 .exact IX w 0 _ _
theorem XN(a:ByteArray)(b:Nat)(L:SL)(S:SM)(w:World)(h:SRep w b L S)(c:S.keys.length<1099511627776) :
 Calls Tryz.prog 73 #[.pointer (some ⟨b,0,none⟩),.string a] w fun e i=>e=.returned (getE L.BD a)/\Fr Nil w i:=by
 have f:w.cell? ⟨b,0,none⟩=some L.kv:=by rw[h.Bi.cell];rfl
 have d:=Z (NX L.kv L.BD a b w f h.Bi.lt h.yo (by rw[h.pair.length];omega));clear h;go_enter Tryz.func73,Tryz.ntmps73
 go_wp2_with (refine d.out.mono ?_;rintro e j ⟨rfl,g⟩)
 go_ret;exact⟨rfl,g⟩
theorem V5(b:Nat)(L:SL)(S:SM)(w:World)(h:SRep w b L S) :
 Calls Tryz.prog 88 #[.pointer (some ⟨b,0,none⟩)] w fun e f=>e=.returned (.int .i64 S.keys.length)/\f=w:=by
 have d:w.cell? ⟨b,0,none⟩=some L.kv:=by rw[h.Bi.cell];rfl
 have a:=Z (NZ L.kv L.BD b w d h.yo);have c:=Z h.pair.length;clear h;go_enter Tryz.func88,Tryz.ntmps88
 go_wp2_with (refine a.out.mono ?_;rintro e g ⟨rfl,rfl⟩)
 go_ret;exact⟨by show Ending.returned (.int .i64 (L.BD.length:Int))=_;rw[c.out],rfl⟩
theorem Ud(b:Nat)(L:SL)(S:SM)(w:World)(h:SRep w b L S) :
 Calls Tryz.prog 98 #[.pointer (some ⟨b,0,none⟩)] w fun e a=>e=.returned (.int .i64 S.Bh)/\a=w:=by
 have c:=h.Bi.cell;clear h;go_enter Tryz.func98,Tryz.ntmps98
 go_wp2
 go_ret;exact⟨rfl,rfl⟩
theorem Yw(b:Nat)(L:SL)(S:SM)(w:World)(h:SRep w b L S) :
 Calls Tryz.prog 78 #[.pointer (some ⟨b,0,none⟩)] w fun e g=>e=.returned (.int .i64 S.hints.length)/\g=w:=by
 have c:=h.Bi.cell;obtain⟨i,d,a⟩:=zg h.hint;have f:=zG h.hint;unfold maxLen at f;rw[a] at c;clear h a;go_enter Tryz.func78,Tryz.ntmps78
 go_wp2
 go_ret;exact⟨rfl,rfl⟩
theorem QL(b:Nat)(L:SL)(S:SM)(w:World)(h:SRep w b L S)(c:S.hints.length<1000000) :
 Calls Tryz.prog 77 #[.pointer (some ⟨b,0,none⟩)] w fun e d=>∃ a,e=.returned a/\d.ownsRow 0 75 2 a S.hints.length (Zj S.hints)/\Fr Nil w d/\(∀ k,a.ownBlock=some k->w.heap.size<=k):=by
 have l:w.cell? ⟨b,1,none⟩=some L.hv:=by rw[h.Bi.cell];rfl
 have f:=Z (QK L.hv S.hints.length (Zj S.hints) w h.hint (SP _) (by omega));clear h;go_enter Tryz.func77,Tryz.ntmps77
 go_wp2_with (refine f.out.mono ?_;rintro e m ⟨a,rfl,g,i,j⟩)
 go_ret;exact⟨a,rfl,g,i,j⟩
structure MgM where
 number:Nat
 done:List Fact
 left:List Fact
 calls:Nat
structure NM where
 self:Nat
 given:Nat
 every:Nat
 writes:Nat
 readOnly:Bool
 J:JM
 S:SM
 mg:Option MgM:=none
structure NL where
 nb:Nat
 jb:Nat
 sb:Nat
 db:Nat
 mv:Value
 LS:SL
 LD:DL
def NM.cells(L:NL)(N:NM):List Value:=[.int .i64 N.self,.pointer (some ⟨L.jb,0,none⟩),.pointer (some ⟨L.sb,0,none⟩),.int .i64 N.given,.int .i64 N.every,.int .i64 N.writes,L.mv,.bool N.readOnly]
def ZB(w:World)(d:Value)(l:List Fact):Prop :=
 ∃ g k b e,w.ownsRow 0 165 1 (.slice (some ⟨g,0,none⟩) (k+l.length) b) (k+l.length) e/\(l≠[]->d=.slice (some ⟨g,k,none⟩) l.length (b-k))/\(l=[]->∃ a c,d=.slice a 0 c) /\
  ∀ i (h:i<l.length),∃ u,e[k+i]?=some u/\FRep w u l[i]
def MTy(t:TypeId):Prop:=t=201\/t=250\/t=165\/t=37
def MRp(w:World)(d:Value)(e:Nat):Option MgM->Prop
 | none=>d=.pointer none
 | some g=>∃ c a b,d=.pointer (some ⟨c,0,none⟩)/\Blk w c [.pointer (some ⟨a,0,none⟩),b,.int .i64 g.calls] 201/\Blk w a [.pointer (some ⟨e,0,none⟩),.int .i64 g.number] 250/\ZB w b g.left
def NM.xN(N:NM):Option MgM:=if N.readOnly=true then none else N.mg
theorem MRp.ty{w:World}{a:Value}{f k:Nat}:∀ {g:Option MgM},MRp w a f g->a=.pointer (some ⟨k,0,none⟩)->Ty w k 201
 | none,h,e=>by rw[show a=.pointer none from h] at e;cases e
 | some _,⟨j,b,i,c,d,_,_⟩,e=>by
  rw[c] at e;simp only[DC,Hi,Cg,DK] at e;rw[<- e];exact d.ty
theorem FRep.BS{S:Nat->Prop}{w b:World}{v:Value}{x:Fact}(a:FRep w v x)(f:Fr S w b)(c:∀ k t,Ty w k t->MTy t->¬S k):FRep b v x:=by
 rcases x with n|x|x|x
 .exact a
 .obtain⟨lv,e,hl⟩:=a
  exact⟨lv,e,VRow.fr hl f (fun k d=>c k _ (zH hl d) (.inr (.inr (.inr rfl))))⟩
 .exact a
 .exact a
theorem ZB.fr{S:Nat->Prop}{w w':World}{o:Value}{l:List Fact}(h:ZB w o l)(f:Fr S w w')(e:∀ k t,Ty w k t->MTy t->¬S k):ZB w' o l:=by
 obtain⟨g,k,cap,C,c,q,r,y⟩:=h;refine⟨g,k,cap,C,ze c f (fun i a=>e i _ (zH c a) (.inr (.inr (.inl rfl)))),q,r,fun i a=>?_⟩;obtain⟨u,B,A⟩:=y i a;exact⟨u,B,A.BS f e⟩
theorem MRp.fr{S:Nat->Prop}{w w':World}{r:Value}{q:Nat}:∀ {g:Option MgM},MRp w r q g->Fr S w w'->(∀ k t,Ty w k t->MTy t->¬S k)->MRp w' r q g
 | none,h,_,_=>h
 | some _,⟨C,a,B,y,e,o,A⟩,f,c=>⟨C,a,B,y,e.fr f (c _ _ e.ty (.inl rfl)),o.fr f (c _ _ o.ty (.inr (.inl rfl))),A.fr f c⟩
structure NRep(w:World)(L:NL)(N:NM)(M:DM):Prop where
 Bi:Blk w L.nb (N.cells L) 123
 log:JRep w L.jb L.db N.J
 held:SRep w L.sb L.LS N.S
 BM:DRep w L.db L.LD M
 yJ:MRp w L.mv L.jb N.xN
def NFoot(L:NL)(M:DM)(k:Nat):Prop:=k=L.nb\/k=L.jb\/SFoot L.sb L.LS k\/Foot L.db L.LD M k\/L.mv=.pointer (some ⟨k,0,none⟩)
theorem NRep.fr{a:Nat->Prop}{w w':World}{L:NL}{N:NM}{M:DM}(h:NRep w L N M)(f:Fr a w w')(c:∀ k,NFoot L M k->¬a k)(g:∀ k,SRead L.LS k->¬a k)(o:∀ k t,Ty w k t->MTy t->¬a k):NRep w' L N M :=
 ⟨h.Bi.fr f (c _ (.inl rfl)),Blk.fr h.log f (c _ (.inr (.inl rfl))),h.held.fr f (fun k e=>c k (.inr (.inr (.inl e)))) g,h.BM.fr f (fun k e=>c k (.inr (.inr (.inr (.inl e))))),h.yJ.fr f o⟩
theorem NRep.nil{w w':World}{L:NL}{N:NM}{M:DM}(h:NRep w L N M)(f:Fr Nil w w'):NRep w' L N M:=h.fr f (fun _ _=>id) (fun _ _=>id) (fun _ _ _ _=>id)
structure NL.wA(L L':NL):Prop where
 nb:L'.nb=L.nb
 jb:L'.jb=L.jb
 sb:L'.sb=L.sb
 db:L'.db=L.db
structure NStep(L:NL)(M:DM)(w:World)(L':NL)(N':NM)(M':DM)(w':World):Prop where
 Bt:NRep w' L' N' M'
 same:NL.wA L L'
 fr:Fr (NFoot L M) w w'
 BF:∀ k,NFoot L' M' k->NFoot L M k\/w.heap.size<=k
 read:∀ k,SRead L'.LS k->SRead L.LS k\/w.heap.size<=k
theorem NStep.trans{e g o:NL}{y s:NM}{q M2 r:DM}{t w2 x:World}(h:NStep e q t g y M2 w2)(k:NStep g M2 w2 o s r x):NStep e q t o s r x where
 Bt:=k.Bt
 same:=⟨k.same.nb.trans h.same.nb,k.same.jb.trans h.same.jb,k.same.sb.trans h.same.sb,k.same.db.trans h.same.db⟩
 fr:=h.fr.trans' k.fr (fun i a A=>(h.BF i A).resolve_right (by omega))
 BF:=fun i a=>(k.BF i a).elim (h.BF i) (fun c=>.inr (Im h.fr.size c))
 read:=fun i a=>(k.read i a).elim (h.read i) (fun c=>.inr (Im h.fr.size c))
theorem NStep.nil{L:NL}{N:NM}{M:DM}{w w':World}(h:NRep w L N M)(f:Fr Nil w w'):NStep L M w L N M w' :=
 ⟨h.nil f,⟨rfl,rfl,rfl,rfl⟩,f.mono (fun _ _ e=>absurd e id),fun _ a=>.inl a,fun _ a=>.inl a⟩
theorem NStep.Bn{L a:NL}{N':NM}{M b:DM}{w c w':World}(h:NStep L M w a N' b c)(f:Fr Nil c w'):NStep L M w a N' b w':=h.trans (NStep.nil h.Bt f)
theorem NStep.Aj{L:NL}{N:NM}{M g:DM}{f:JM}{c:DL}{w w':World}(h:NRep w L N M)(s:JStep L.jb L.db L.LD M w f c g w'):NStep L M w {L with LD:=c} {N with J:=f} g w':=by
 have a:∀ {k t},Ty w k t->¬DTy t->t≠197->¬(k=L.jb\/Foot L.db L.LD M k):=by
  intro k t b j l d;rcases d with d|d
  .subst d;exact l (b.inj (Blk.ty h.log))
  .exact h.BM.apart b j d
 refine⟨⟨h.Bi.fr s.2.2.1 (a h.Bi.ty (by unfold DTy;decide) (by decide)),s.1,h.held.fr s.2.2.1 (fun k b=>?_) (fun k b=>a (h.held.Ag b) (by unfold DTy;decide) (by decide)),s.2.1,MRp.fr h.yJ s.2.2.1 (fun k t b i=>by
  unfold MTy at i;rcases i with rfl|rfl|rfl|rfl <;> exact a b (by unfold DTy;decide) (by decide))⟩,⟨rfl,rfl,rfl,rfl⟩,s.2.2.1.mono (fun k _ e=>?_),fun k b=>?_,fun k b=>.inl b⟩
 .rcases h.held.BJ b with e|e|e
  .exact a e (by unfold DTy;decide) (by decide)
  .exact a e (by unfold DTy;decide) (by decide)
  .exact a e (by unfold DTy;decide) (by decide)
 .rcases e with e|e
  .exact .inr (.inl e)
  .exact .inr (.inr (.inr (.inl e)))
 .rcases b with e|e|e|e|e
  .exact .inl (.inl e)
  .exact .inl (.inr (.inl e))
  .exact .inl (.inr (.inr (.inl e)))
  .exact(s.2.2.2 k e).imp (fun h=>.inr (.inr (.inr (.inl h)))) id
  .exact .inl (.inr (.inr (.inr (.inr e))))
theorem NStep.held{L f:NL}{q:NM}{M o:DM}{S':SM}{X:Nat->Prop}{w l w':World}(h:NStep L M w f q o l)(E:SStep l f.sb f.LS S' X w')(A:∀ k,X k->SRead L.LS k\/w.heap.size<=k) :
 ∃ d,NStep L M w {f with LS:=d} {q with S:=S'} o w':=by
 obtain⟨d,B,g,C,D⟩:=E;have c:=h.Bt;have b:∀ {k t},Ty l k t->t≠161->t≠239->t≠75->¬SFoot f.sb f.LS k:=by
  intro k t a r s x y;rcases c.held.BJ y with e|e|e
  .exact r (a.inj e)
  .exact s (a.inj e)
  .exact x (a.inj e)
 refine⟨d,⟨c.Bi.fr g (b c.Bi.ty (by decide) (by decide) (by decide)),Blk.fr c.log g (b (Blk.ty c.log) (by decide) (by decide) (by decide)),B,c.BM.fr g (fun k a e=>?_),MRp.fr c.yJ g (fun k t a j=>by
  unfold MTy at j;rcases j with rfl|rfl|rfl|rfl <;> exact b a (by decide) (by decide) (by decide))⟩,⟨h.same.nb,h.same.jb,h.same.sb,h.same.db⟩,h.fr.trans' g (fun k a e=>(h.BF k (.inr (.inr (.inl e)))).resolve_right (by omega)),fun k a=>?_,fun k a=>?_⟩
 .obtain⟨t,j,hd⟩:=c.BM.ty a
  unfold DTy at hd;refine b j ?_ ?_ ?_ e
  all_goals (rcases hd with rfl|rfl|rfl|rfl|rfl <;> decide)
 .rcases a with e|e|e|e|e
  .exact h.BF k (.inl e)
  .exact h.BF k (.inr (.inl e))
  .exact(C k e).elim (fun e=>h.BF k (.inr (.inr (.inl e)))) (fun e=>.inr (Im h.fr.size e))
  .exact h.BF k (.inr (.inr (.inr (.inl e))))
  .exact h.BF k (.inr (.inr (.inr (.inr e))))
 .exact(D k a).elim (h.read k) (A k)
theorem NRep.apart{w:World}{L:NL}{N:NM}{M:DM}(h:NRep w L N M){k:Nat}{t:TypeId}(b:Ty w k t)(c:t≠123)(d:t≠197)(f:t≠161)(g:t≠239)(i:t≠75)(j:¬DTy t)(l:t≠201):¬NFoot L M k:=by
 intro a;rcases a with rfl|rfl|a|a|a
 .exact c (b.inj h.Bi.ty)
 .exact d (b.inj (Blk.ty h.log))
 .rcases h.held.BJ a with e|e|e
  .exact f (b.inj e)
  .exact g (b.inj e)
  .exact i (b.inj e)
 .exact h.BM.apart b j a
 .exact l (b.inj (h.yJ.ty a))
theorem VRow.step{w w':World}{L b:NL}{N d:NM}{M c:DM}{v:Value}{l:List Ver}(a:VRow w v l)(h:NRep w L N M)(s:NStep L M w b d c w'):VRow w' v l :=
 VRow.fr a s.fr (fun _ e=>h.apart (zH a e) (by decide) (by decide) (by decide) (by decide) (by decide) (by unfold DTy;decide) (by decide))
theorem FRep.step{w w':World}{L b:NL}{N d:NM}{M c:DM}{v:Value}{x:Fact}(a:FRep w v x)(h:NRep w L N M)(s:NStep L M w b d c w'):FRep w' v x:=by
 rcases x with n|x|x|x
 .exact a
 .obtain⟨lv,e,hl⟩:=a
  exact⟨lv,e,hl.step h s⟩
 .exact a
 .exact a
theorem ERep.xP{w b:World}{L c:NL}{N f:NM}{M d:DM}{v:Value}{e:Option Int}(g:ERep w v e)(h:NRep w L N M)(s:NStep L M w c f d b):ERep b v e :=
 g.fr s.fr (fun _ a=>a.elim (fun a=>h.apart a (by decide) (by decide) (by decide) (by decide) (by decide) (by unfold DTy;decide) (by decide)) (fun a=>h.apart a (by decide) (by decide) (by decide) (by decide) (by decide) (by unfold DTy;decide) (by decide)))
theorem NStep.set{L:NL}{N N':NM}{M:DM}{w:World}(h:NRep w L N M)(i:Nat)(v:Value)(o:(N.cells L).set i v=N'.cells L)(g:N'.J=N.J)(j:N'.S=N.S)(f:N'.xN=N.xN:=by rfl):NStep L M w L N' M (w.setCell ⟨L.nb,i,none⟩ v):=by
 have d:Fr (fun k=>k=L.nb) w (w.setCell ⟨L.nb,i,none⟩ v):=Fr.set (S:=fun k=>k=L.nb) (U _ _) (fun _=>rfl) _;have a:∀ {k t},Ty w k t->t≠123->¬k=L.nb:=fun b c e=>by subst e;exact c (b.inj h.Bi.ty)
 refine⟨⟨?_,?_,?_,h.BM.fr d (fun k b=>?_),by rw[f];exact MRp.fr h.yJ d (fun k t b c=>by
  unfold MTy at c;rcases c with rfl|rfl|rfl|rfl <;> exact a b (by decide))⟩,⟨rfl,rfl,rfl,rfl⟩,d.mono (fun _ _ e=>.inl e),fun k b=>.inl b,fun k b=>.inl b⟩
 .rw[<- o];exact h.Bi.set i v
 .rw[g];exact Blk.fr h.log d (a (Blk.ty h.log) (by decide))
 .rw[j]
  refine h.held.fr d (fun k b=>?_) (fun k b=>a (h.held.Ag b) (by decide));rcases h.held.BJ b with e|e|e
  .exact a e (by decide)
  .exact a e (by decide)
  .exact a e (by decide)
 .obtain⟨t,c,hd⟩:=h.BM.ty b
  unfold DTy at hd;refine a c ?_;rcases hd with rfl|rfl|rfl|rfl|rfl <;> decide
theorem NStep.xo{j L:NL}{N:NM}{l M:DM}{o w:World}(s:NStep j l o L N M w)(m:N.readOnly=false)(c:Value)(mg:Option MgM)(q:MRp w c L.jb mg)(g:∀ k,c=.pointer (some ⟨k,0,none⟩)->NFoot j l k\/o.heap.size<=k) :
 NStep j l o {L with mv:=c} {N with mg:=mg} M (w.setCell ⟨L.nb,6,none⟩ c):=by
 have h:=s.Bt;have f:Fr (fun k=>k=L.nb) w (w.setCell ⟨L.nb,6,none⟩ c):=Fr.set (S:=fun k=>k=L.nb) (U _ _) (fun _=>rfl) _;have a:∀ {k t},Ty w k t->t≠123->¬k=L.nb:=fun b d e=>by subst e;exact d (b.inj h.Bi.ty)
 refine⟨⟨?_,?_,?_,h.BM.fr f (fun k b=>?_),?_⟩,⟨s.same.nb,s.same.jb,s.same.sb,s.same.db⟩,s.fr.trans' f (fun i r e=>(s.BF i (.inl e)).resolve_right (by omega)),fun k b=>?_,s.read⟩
 .exact h.Bi.set 6 c
 .exact Blk.fr h.log f (a (Blk.ty h.log) (by decide))
 .refine h.held.fr f (fun k b=>?_) (fun k b=>a (h.held.Ag b) (by decide))
  rcases h.held.BJ b with e|e|e
  .exact a e (by decide)
  .exact a e (by decide)
  .exact a e (by decide)
 .obtain⟨t,d,hd⟩:=h.BM.ty b
  unfold DTy at hd;refine a d ?_;rcases hd with rfl|rfl|rfl|rfl|rfl <;> decide
 .show MRp _ c L.jb (if N.readOnly=true then none else mg)
  rw[It (by rw[m];decide)];exact q.fr f (fun k t b d=>by
   unfold MTy at d;rcases d with rfl|rfl|rfl|rfl <;> exact a b (by decide))
 .rcases b with e|e|e|e|e
  .exact s.BF k (.inl e)
  .exact s.BF k (.inr (.inl e))
  .exact s.BF k (.inr (.inr (.inl e)))
  .exact s.BF k (.inr (.inr (.inr (.inl e))))
  .exact g k e
theorem NStep.xR{L:NL}{N:NM}{M:DM}{w:World}(h:NRep w L N M):NStep L M w {L with mv:=.pointer none} {N with readOnly:=true} M ((w.setCell ⟨L.nb,7,none⟩ (.bool true)).setCell ⟨L.nb,6,none⟩ (.pointer none)):=by
 have c:Fr (fun k=>k=L.nb) w ((w.setCell ⟨L.nb,7,none⟩ (.bool true)).setCell ⟨L.nb,6,none⟩ (.pointer none)):=Fr.set (S:=fun k=>k=L.nb) (p:=⟨L.nb,6,none⟩) (Fr.set (S:=fun k=>k=L.nb) (p:=⟨L.nb,7,none⟩) (U _ _) (fun _=>rfl) _) (fun _=>rfl) _;have a:∀ {k t},Ty w k t->t≠123->¬k=L.nb:=fun b d e=>by subst e;exact d (b.inj h.Bi.ty)
 refine⟨⟨?_,?_,?_,h.BM.fr c (fun k b=>?_),rfl⟩,⟨rfl,rfl,rfl,rfl⟩,c.mono (fun _ _ e=>.inl e),fun k b=>?_,fun k b=>.inl b⟩
 .exact(h.Bi.set 7 (.bool true)).set 6 (.pointer none)
 .exact Blk.fr h.log c (a (Blk.ty h.log) (by decide))
 .refine h.held.fr c (fun k b=>?_) (fun k b=>a (h.held.Ag b) (by decide))
  rcases h.held.BJ b with e|e|e
  .exact a e (by decide)
  .exact a e (by decide)
  .exact a e (by decide)
 .obtain⟨t,d,hd⟩:=h.BM.ty b
  unfold DTy at hd;refine a d ?_;rcases hd with rfl|rfl|rfl|rfl|rfl <;> decide
 .rcases b with e|e|e|e|e
  .exact .inl (.inl e)
  .exact .inl (.inr (.inl e))
  .exact .inl (.inr (.inr (.inl e)))
  .exact .inl (.inr (.inr (.inr (.inl e))))
  .cases e
theorem NStep.merged{L:NL}{N:NM}{M j:DM}{w i:World}{r:Nat}{c:DL}{mg:Option MgM}(h:NRep w L N M)(q:N.readOnly=false)(g:L.mv=.pointer (some ⟨r,0,none⟩))(f:Fr (fun k=>k=r\/Foot L.db L.LD M k) w i)(s:DRep i L.db c j)
 (m:∀ k,Foot L.db c j k->Foot L.db L.LD M k\/w.heap.size<=k)(x:MRp i L.mv L.jb mg):NStep L M w {L with LD:=c} {N with mg:=mg} j i:=by
 have o:=h.yJ.ty g;have a:∀ {k t},Ty w k t->¬DTy t->t≠201->¬(k=r\/Foot L.db L.LD M k):=by
  intro k t b l v d;rcases d with d|d
  .subst d;exact v (b.inj o)
  .exact h.BM.apart b l d
 refine⟨⟨h.Bi.fr f (a h.Bi.ty (by unfold DTy;decide) (by decide)),Blk.fr h.log f (a (Blk.ty h.log) (by unfold DTy;decide) (by decide)),h.held.fr f (fun k b=>?_) (fun k b=>a (h.held.Ag b) (by unfold DTy;decide) (by decide)),s,?_⟩,⟨rfl,rfl,rfl,rfl⟩,f.mono (fun k _ e=>?_),fun k b=>?_,fun k b=>.inl b⟩
 .rcases h.held.BJ b with e|e|e
  .exact a e (by unfold DTy;decide) (by decide)
  .exact a e (by unfold DTy;decide) (by decide)
  .exact a e (by unfold DTy;decide) (by decide)
 .show MRp _ L.mv L.jb (if N.readOnly=true then none else mg)
  rw[It (by rw[q];decide)];exact x
 .rcases e with e|e
  .subst e;exact .inr (.inr (.inr (.inr g)))
  .exact .inr (.inr (.inr (.inl e)))
 .rcases b with e|e|e|e|e
  .exact .inl (.inl e)
  .exact .inl (.inr (.inl e))
  .exact .inl (.inr (.inr (.inl e)))
  .exact(m k e).imp (fun h=>.inr (.inr (.inr (.inl h)))) id
  .exact .inl (.inr (.inr (.inr (.inr e))))
end Go.Proofs.YtkhnggkkiefcdaaGreatDoor
