/- larder: joined texts -/
import Derived.Test.YtkhnggkkiefcdaaGreatDoorNMAA
import Derived.Test.YtkhnggkkiefcdaaGreatDoorNMAE
import Derived.Deep.RegionHeld3
namespace Go.Proofs.YtkhnggkkiefcdaaGreatDoor
open Go.RowKit
set_option maxRecDepth 100000
set_option maxHeartbeats 8000000
def JM.has(J:JM)(M:DM)(size:Nat):Bool:=((M.size J.name).2==0)&&((M.size J.name).1==(size:Int))
theorem MQ(f g:Nat)(J:JM)(L:DL)(M:DM)(size:Nat)(w:World)(l:JRep w f g J)(p:DRep w g L M) :
 Calls Tryz.prog 204 #[.pointer (some ⟨f,0,none⟩),.int .i64 size] w fun e d=>e=.returned (.bool (J.has M size))/\Fr Nil w d:=by
 have t:w.cell? ⟨f,0,none⟩=some (.pointer (some ⟨g,0,none⟩)):=l.cell 0;have u:w.cell? ⟨f,3,none⟩=some (.string J.name):=l.cell 3;have s:Hid (∀ d,Fr Nil w d->d.cell? ⟨f,0,none⟩=some (.pointer (some ⟨g,0,none⟩))/\d.cell? ⟨f,3,none⟩=some (.string J.name)):=by
  intro d v;have:=(Blk.fr l v id).cell;exact⟨by rw[this];rfl,by rw[this];rfl⟩
 have r:=Z p;unfold JM.has;clear l p;go_enter Tryz.func204,Tryz.ntmps204;go_wp2_with fail
 go_region_held3 (fun d=>d.cell? ⟨f,0,none⟩=some (.pointer (some ⟨g,0,none⟩))/\d.cell? ⟨f,3,none⟩=some (.string J.name)) (first|assumption|go_keep)
  (first
  | (go_at_call 188;refine(Tb J.name _ g L M (r.out.nil zd)).mono ?_;rintro e q ⟨rfl,o⟩;have c:Fr Nil w q:=Fr.trans zd o;have x:=s.out q c))
 generalize j:(M.size J.name).2=a;generalize k:(M.size J.name).1=b;have h:=Z j;have i:=Z k;clear j k;cases ha:(a==0) with
 | true =>
  have m:=Z ha
  go_wp2
  go_ret;rw[h.out,i.out,m.out];exact⟨by simp,c⟩
 | false =>
  have m:=Z ha
  go_wp2
  go_ret;rw[h.out,i.out,m.out];exact⟨by simp,c⟩
def JM.BA(J:JM)(M:DM)(a:ByteArray):Bool × Option Int × JM × DM :=
 if (M.add J.name a).1=0 then(true,none,{J with size:=J.size+a.size},(M.add J.name a).2)
 else if J.has (M.add J.name a).2 (J.size+a.size)=true then(true,some (M.add J.name a).1,{J with size:=J.size+a.size},(M.add J.name a).2)
 else(false,some (M.add J.name a).1,J,(M.add J.name a).2)
def JM.append(J:JM)(M:DM)(a:ByteArray)(f:Nat):Bool × Option Int × JM × DM :=
 match (J.CI M a.size f).1 with
 | some n=>(false,some n,(J.CI M a.size f).2.1,(J.CI M a.size f).2.2)
 | none=>(J.CI M a.size f).2.1.BA (J.CI M a.size f).2.2 a
theorem X9(B u x:Nat)(J:JM)(L:DL)(M:DM)(a:ByteArray)(b6:a.size<1000000000000)(b8:J.size<1000000000000)(b0:J.last+1<1000000000000)(w:World)(hj:JRep w u x J)(hd:DRep w x L M)(ht:YV B w)(hB:B<=w.heap.size)(a2:∀ k,Foot x L M k->B<=k)
 (b4:(J.CC M).2.CD.length+1<=1000000000000)(b5:(J.CC M).2.dir.length+1<=1000000000000)
 (q:∀ f,w.heap.size<=f->0<=(J.CI M a.size f).2.2.part/\(J.CI M a.size f).2.1.size<1000000000000/\∀ g,g∈(J.CI M a.size f).2.2.ids->((J.CI M a.size f).2.2.file g).bytes.length<=1000000000000) :
 Calls Tryz.prog 164 #[.pointer (some ⟨u,0,none⟩),.string a] w fun e w' =>
  ∃ f v L',e=.returned (.tuple #[.bool (J.append M a f).1,v])/\w.heap.size<=f/\ERep w' v (J.append M a f).2.1/\JStep u x L M w (J.append M a f).2.2.1 L' (J.append M a f).2.2.2 w':=by
 have HM:=Z (S5 B u x J L M a.size b6 b8 b0 w hj hd ht hB a2 b4 b5);have b1:=Z q;clear hd hj ht q;go_enter Tryz.func164,Tryz.ntmps164;go_wp2_with fail;refine HM.out.mono ?_;rintro e w1 ⟨f,v1,L1,rfl,Q,hE,p⟩;have q:=b1.out f Q;have K:∀ n,(J.CI M a.size f).1=some n->J.append M a f=(false,some n,(J.CI M a.size f).2.1,(J.CI M a.size f).2.2):=by intro n h;unfold JM.append;rw[h]
 have I:(J.CI M a.size f).1=none->J.append M a f=(J.CI M a.size f).2.1.BA (J.CI M a.size f).2.2 a:=by intro h;unfold JM.append;rw[h]
 generalize a8:(J.CI M a.size f).2.1=c at q p K I;generalize a9:(J.CI M a.size f).2.2=j at q p K I;have D:=Z p;have V:=Z q;cases he:(J.CI M a.size f).1 with
 | some n =>
  rw[he] at hE;have hp:=K n he;have A:=Z hp;have HE:=Z hE;obtain⟨k,hk⟩:=hE;obtain⟨t,b,rfl⟩:=hk.form;clear he hp hk p a8 a9 q K I
  go_wp2
  go_ret2;refine⟨f,.iface t (.pointer (some ⟨b,0,none⟩)),L1,?_,Q,?_,?_⟩
  ·(rw[A.out]) <;> rfl
  .rw[A.out];exact HE.out
  .rw[A.out];exact D.out
 | none =>
  rw[he] at hE;have hp:=I he;have hv:v1=.nilIface:=hE;subst hv;have c1:w1.cell? ⟨u,0,none⟩=some (.pointer (some ⟨x,0,none⟩)):=p.1.cell 0;have c2:w1.cell? ⟨u,3,none⟩=some (.string c.name):=p.1.cell 3;have A:=Z hp;have HK:Hid (∀ wx w' L',DStep x L1 j wx L' (j.add c.name a).2 w'->Fr Nil w1 wx->w'.cell? ⟨u,0,none⟩=some (.pointer (some ⟨x,0,none⟩))/\w'.cell? ⟨u,3,none⟩=some (.string c.name)):=by
   intro wx w' L' N Q;have:=((Blk.fr p.1 Q id).step (p.2.1.nil Q) N (by unfold DTy;decide)).cell;exact⟨by rw[this];rfl,by rw[this];rfl⟩
  clear he hp hE p a8 a9 q K I;go_wp2_with fail
  go_region_held3 (fun w'=>w'.cell? ⟨u,0,none⟩=some (.pointer (some ⟨x,0,none⟩))/\w'.cell? ⟨u,3,none⟩=some (.string c.name)) (first|assumption|go_keep)
   (first
   | (go_at_call 166;refine(Ya _ _ _ _).mono ?_;rintro e w3 ⟨v3,rfl,d,a1⟩;have b9:w3.cell? ⟨u,0,none⟩=some (.pointer (some ⟨x,0,none⟩))/\w3.cell? ⟨u,3,none⟩=some (.string c.name):=HK.out _ _ _ (a6.out.CF (Fr.trans zd a1)) (U _ _);have a3:=Z d;have b3:Hid (Fr Nil w2 w3):=Fr.trans zd a1;clear d a1)
   | (go_at_call 203;refine(U0 c.name a _ x L1 j (D.out.2.1.nil zd) V.out.1 (by omega) V.out.2.2).mono ?_;rintro e w2 ⟨rfl,O,N⟩;have c4:=HK.out _ _ _ N zd;have a6:Hid (DStep x L1 j w1 O (j.add c.name a).2 w2):=N.of zd;clear N))
  have m:=D.out.trans ((JStep.BD D.out.1 D.out.2.1 a6.out).CF b3.out);have c0:=V.out.2.1;have C:=Z m;have hc:=m.1.cell;have hz:=m.1.frozen;simp only[JM.cells] at hc;have c3:IntKind.i64.wrap ((c.size:Int)+a.size)=(c.size:Int)+a.size:=by rw[IB];omega
  have T:JStep u x O (j.add c.name a).2 w3 {c with size:=c.size+a.size} O (j.add c.name a).2 (w3.setCell ⟨u,4,none⟩ (.int .i64 ((c.size:Int)+a.size))) :=
   JStep.set m.1 m.2.1 4 (.int .i64 ((c.size:Int)+a.size)) (J':={c with size:=c.size+a.size}) (by simp[JM.cells])
  have a5:=Z T;clear b9 m T;by_cases R:(j.add c.name a).1=0
  .have d:=a3.out
   unfold zF at d;rw[Io R] at d;have hv:v3=.nilIface:=d;subst hv;have s:c.BA j a=(true,none,{c with size:=c.size+a.size},(j.add c.name a).2):=by unfold JM.BA;rw[Io R]
   have i:=Z s;clear s R d;go_wp2_with fail;refine(zy _ _ none _ rfl).mono ?_;rintro e w4 ⟨v4,rfl,a7,l⟩;have b2:=Z a7;have HF:=Z ((C.out.trans a5.out).CF l);clear a7 l
   go_wp2
   go_ret2;refine⟨f,v4,O,?_,Q,?_,?_⟩
   ·(rw[A.out,i.out]) <;> rfl
   .rw[A.out,i.out];exact b2.out
   .rw[A.out,i.out];exact HF.out
  .have d:=a3.out
   unfold zF at d;rw[Ie R] at d;have a4:=Z d;obtain⟨k,hk⟩:∃ k,Zk w3 (j.add c.name a).1 k v3:=d;obtain⟨t,b,rfl⟩:=hk.form;have HH:=Z (MQ u x c O (j.add c.name a).2 (c.size+a.size) w3 C.out.1 C.out.2.1);have o:((c.size+a.size:Nat):Int)=(c.size:Int)+a.size:=by omega
   cases hh:c.has (j.add c.name a).2 (c.size+a.size) with
   | true =>
    have s:c.BA j a=(true,some (j.add c.name a).1,{c with size:=c.size+a.size},(j.add c.name a).2):=by unfold JM.BA;rw[Ie R,Io hh]
    have i:=Z s;rw[hh] at HH;rw[o] at HH;clear s R hk hh o;go_wp2_with fail;refine HH.out.mono ?_;rintro e w4 ⟨rfl,l⟩;have r:=C.out.CF l;have b7:=r.1.cell;have c5:=r.1.frozen;simp only[JM.cells] at b7;have y:JStep u x O (j.add c.name a).2 w4 {c with size:=c.size+a.size} O (j.add c.name a).2 (w4.setCell ⟨u,4,none⟩ (.int .i64 ((c.size:Int)+a.size))) :=
     JStep.set r.1 r.2.1 4 (.int .i64 ((c.size:Int)+a.size)) (J':={c with size:=c.size+a.size}) (by simp[JM.cells])
    have X:=Z (ERep.yp (a4.out.fr l (XO.nil _)) r.1 r.2.1 y);have a0:=Z (r.trans y);clear r y l hc hz;go_wp2_with fail;refine(zy _ _ _ _ X.out).mono ?_;rintro e w5 ⟨v5,rfl,E,G⟩;have Y:=Z E;have HF:=Z (a0.out.CF G);clear E G
    go_wp2
    go_ret2;refine⟨f,v5,O,?_,Q,?_,?_⟩
    ·(rw[A.out,i.out]) <;> rfl
    .rw[A.out,i.out];exact Y.out
    .rw[A.out,i.out];exact HF.out
   | false =>
    have s:c.BA j a=(false,some (j.add c.name a).1,c,(j.add c.name a).2):=by unfold JM.BA;rw[Ie R,Ie (by rw[hh];simp)]
    have i:=Z s;rw[hh] at HH;rw[o] at HH;clear s R hk hh o;go_wp2_with fail;refine HH.out.mono ?_;rintro e w4 ⟨rfl,l⟩;have X:=Z (a4.out.fr l (XO.nil _));have a0:=Z (C.out.CF l);clear l;go_wp2_with fail;refine(zy _ _ _ _ X.out).mono ?_;rintro e w5 ⟨v5,rfl,E,G⟩;have Y:=Z E;have HF:=Z (a0.out.CF G);clear E G
    go_wp2
    go_ret2;refine⟨f,v5,O,?_,Q,?_,?_⟩
    ·(rw[A.out,i.out]) <;> rfl
    .rw[A.out,i.out];exact Y.out
    .rw[A.out,i.out];exact HF.out
theorem K9:((Tryz.prog.info? 75).map fun i=>(i.zero.map (·.cells.size),i.size,i.bytes))=some (some 2,2,24):=by kernel_rfl
theorem QE(a b:List (Nat × ByteArray)):Zu (a++b)=Zu a++Zu b:=by simp[Zu]
theorem O5(l:List (Nat × ByteArray)):Y4 2 0 (Zu l)=Zu (l.drop 1):=by
 cases l with
 | nil=>rfl
 | cons e l=>simp[Y4,Zu]
theorem SRep.hints{w w' w2:World}{b:Nat}{L:SL}{S:SM}{d:Value}{t:List (Nat × ByteArray)}(h:SRep w b L S)(f:Fr (fun k=>L.hv.ownBlock=some k) w w')(D:w'.ownsRow 0 75 2 d t.length (Zu t))
 (C:∀ k,d.ownBlock=some k->L.hv.ownBlock=some k\/w.heap.size<=k)(A:Fr Nil (w'.setCell ⟨b,1,none⟩ d) w2):SStep w b L {S with hints:=t} Nil w2:=by
 have q:∀ {k},L.hv.ownBlock=some k->k≠b:=fun c e=>zi h.hint h.CB (by decide) (by rw[c,e]);have i:Blk w' b [L.kv,L.hv,.int .i64 S.CA] 161:=h.CB.fr f (fun e=>q e rfl);have B:=h.CB.lt;have x:∀ k,d.ownBlock=some k->k≠b:=by
  intro k c e;rcases C k c with o|o
  .exact q o e
  .omega
 have s:Fr (fun k=>k=b) w' (w'.setCell ⟨b,1,none⟩ d):=Fr.set (S:=fun k=>k=b) (U _ _) (fun _=>rfl) _;have g:Wd w' L.kv L.CU:=h.AA.fr f (fun k c e=>Z4 h.AA.own h.hint (by decide) c e);have j:Pair (VRow w') L.CU S.keys:=h.pair.mono (fun a _ l r=>VRow.fr r f (fun k c e=>Z4 r h.hint (by decide) c e));have y:SRep (w'.setCell ⟨b,1,none⟩ d) b {L with hv:=d} {S with hints:=t} :=
  ⟨i.set 1 _,g.fr s (fun k c e=>zi g.own i (by decide) (by rw[c,e])),j.mono (fun a _ l r=>VRow.fr r s (fun k c e=>zi r i (by decide) (by rw[c,e]))),ze D s x⟩
 refine⟨{L with hv:=d},y.nil A,?_,fun k c=>?_,fun k c=>.inl c⟩
 .refine((f.mono (fun k _ e=>.inr (.inr e))).trans' s (fun k _ e=>.inl e)).trans (A.mono (fun _ _ e=>absurd e id))
 .rcases c with c|c|c
  .exact .inl (.inl c)
  .exact .inl (.inr (.inl c))
  .rcases C k c with o|o
   .exact .inl (.inr (.inr o))
   .exact .inr o
theorem QF(b:Nat)(L:SL)(S:SM)(w:World)(h:SRep w b L S)(B:S.hints.length<1000000) :
 Calls Tryz.prog 275 #[.agg #[],.pointer (some ⟨b,0,none⟩)] w fun e R=>e=.returned (.tuple #[])/\SStep w b L {S with hints:=S.hints.drop 1} Nil R:=by
 have q:Fr Nil w (w.alloc (.cells #[] 135)):=(U _ _).alloc _;have r:=h.nil q;obtain⟨X,I,i⟩:=zg h.hint;have x:∀ k,(w.alloc (.cells #[] 135)).cell? ⟨b,k,none⟩=[L.kv,L.hv,.int .i64 S.CA][k]?:=fun k=>r.CB.cell k;rw[i] at x;have V:=Z h;have l:=Z r;have u:=Z i;clear h r i;by_cases C:S.hints.length=0
 .have hnil:S.hints=[]:=II C
  have m:({S with hints:=S.hints.drop 1}:SM)=S:=by obtain⟨a,b,c⟩:=S;simp only at hnil;subst hnil;rfl
  rw[m];have t:¬(0:Int)<S.hints.length:=by omega
  clear m hnil C;go_enter Tryz.func275,Tryz.ntmps275
  go_wp2
  exact Gn (v:=.tuple #[]) (by simp[results,go_sem]) rfl ⟨rfl,L,l.out,q.mono (fun _ _ e=>absurd e id),fun k j=>.inl j,fun k j=>.inl j⟩
 .have t:(0:Int)<S.hints.length:=by omega
  go_enter Tryz.func275,Tryz.ntmps275;go_wp2_with fail;have s:=l.out.hint;rw[u.out] at s;refine(RI _ S.hints.length 0 (Zu S.hints) _ s (MP _) (by omega)).mono ?_;rintro e w2 ⟨Y,rfl,p,d,g⟩;rw[O5] at d;have A:(S.hints.drop 1).length=S.hints.length-1:=by simp
  rw[<- A] at d;rw[<- u.out] at g p;have o:=fun T G=>l.out.hints (w2:=T) g d (fun k j=>.inl (by rw[<- p];exact j)) G;have f:=l.out.CB.fr g (fun e=>zi l.out.hint l.out.CB (by decide) e);have J:=f.cell;have K:=f.frozen;have D:=Z o;obtain⟨va,vc,rfl⟩:=zg d;clear o s d f x
  go_wp2
  have y:=D.out _ (U _ _);rw[A] at y;obtain⟨E,M,N,O,Q⟩:=y;exact Gn (v:=.tuple #[]) (by simp[results,go_sem]) rfl ⟨rfl,E,M,q.mono (fun _ _ e=>absurd e id) |>.trans N,fun k j=>(O k j).imp id (fun h=>JT q.size h),Q⟩
theorem Ka(w:World)(v:Value)(n:Nat)(p:List Value)(h:w.ownsRow 0 75 2 v n p)(o:Nat)(a:ByteArray)(y:n<1000000)(g:World)(l:Fr Nil w g)(N:Nat)(s:Blk g N [.int .i64 o,.string a] 75)(ty:TypeId) :
 ∃ c d,(Builtin.append_ #[66,66] ty #[v,.slice (some ⟨N,0,none⟩) 1 1]).run Tryz.prog g=.ok c d /\
  (d.ownsRow 0 75 2 c (n+1) (p++[.int .i64 o,.string a])/\Fr (fun k=>v.ownBlock=some k) w d/\(∀ k,c.ownBlock=some k->v.ownBlock=some k\/w.heap.size<=k)):=by
 have t:=ze h l (fun _ _=>id);obtain⟨c,d,x,q,r,b⟩:=zv (P:=Tryz.prog) 66 ty 75 2 24 Dg K9 (by omega) v n p t ⟨N,0,none⟩ 1 1 [.int .i64 o,.string a] rfl
  (fun j u f=>by rw[IW,Hg,s.cell];exact f) (by intro u f;simp at f;rcases f with rfl|rfl <;> rfl) (by unfold maxLen;omega) (by omega)
 refine⟨c,d,x,q,(l.mono (fun _ _ e=>absurd e id)).trans' ((Fr.Bb r).mono (fun i _ h=>h)) (fun i _ h=>h),fun k m=>?_⟩;rcases b with b|b
 .exact .inl (by rw[<- b];exact m)
 .rw[b] at m;simp at m;have:=l.size;exact .inr (by omega)
theorem RJ(c:Nat)(a:ByteArray)(b:Nat)(L:SL)(S:SM)(w:World)(h:SRep w b L S)(q:S.hints.length<1000000) :
 Calls Tryz.prog 283 #[.agg #[.int .i64 c,.string a],.pointer (some ⟨b,0,none⟩)] w fun e w'=>e=.returned (.tuple #[])/\SStep w b L {S with hints:=S.hints++[(c,a)]} Nil w':=by
 have x:Fr Nil w (w.alloc (.cells #[.int .i64 c,.string a] 138)):=(U _ _).alloc _;have d:Blk (w.alloc (.cells #[.int .i64 c,.string a] 138)) w.heap.size [.int .i64 c,.string a] 138:=Blk.new w [.int .i64 c,.string a] _;have g:=h.nil x;obtain⟨N,O⟩:∃ N,w.heap.size=N:=⟨_,rfl⟩;obtain⟨V,D,i⟩:=zg h.hint;go_enter Tryz.func283,Tryz.ntmps283;go_wp2_with fail;rw[O] at d;obtain⟨j,t⟩:∃ j,w.alloc (.cells #[.int .i64 c,.string a] 138)=j:=⟨_,rfl⟩;rw[t] at d x g |-;clear t O;have X:∀ k,j.cell? ⟨b,k,none⟩=[L.kv,L.hv,.int .i64 S.CA][k]?:=fun k=>g.CB.cell k;have hz:∀ k,j.frozen? ⟨b,k,none⟩=false:=fun k=>g.CB.frozen k;have hx:∀ k,j.cell? ⟨N,k,none⟩=[.int .i64 c,.string a][k]?:=fun k=>d.cell k;have E:∀ (o:Obj) k,(j.alloc o).cell? ⟨b,k,none⟩=[L.kv,L.hv,.int .i64 S.CA][k]?:=fun o k=>(g.CB.alloc o).cell k;have a0:∀ (o:Obj) k,(j.alloc o).cell? ⟨N,k,none⟩=[.int .i64 c,.string a][k]?:=fun o k=>(d.alloc o).cell k;rw[i] at X E;have y:=g.hint;rw[i] at y;have R:=Z y;have A:Hid (∀ u:World,Fr (fun k=>(Value.slice V S.hints.length D).ownBlock=some k) j u->Blk u b [L.kv,L.hv,.int .i64 S.CA] 161):=fun u f=>g.CB.fr f (zi y g.CB (by decide));have Q:=Z g;have HH:=Z h;have M:=Z i;clear h g i d y
 go_region_law
  ((refine ZL (by rfl) _ _ _ _ (by rfl) _ _ (by rfl) (by rfl) (Ka j _ _ _ R.out c a q _ zd _ (by first|exact Blk.new _ [_,_] _|exact(Blk.new _ [_,_] _).drew) _) ?_;rintro v4 u ⟨m,l,r⟩;obtain⟨J,K,I⟩:=zg m;subst I;have p:=A.out _ l;have Y:=p.cell;have a1:=p.frozen;have C:=Z m;have B:=Z r;clear m r))
 all_goals
  go_wp2
  have hl:(S.hints++[(c,a)]).length=S.hints.length+1:=by simp
  have G:u.ownsRow 0 75 2 (.slice J (S.hints.length+1) K) (S.hints++[(c,a)]).length (Zu (S.hints++[(c,a)])):=by
   rw[hl,QE];exact C.out
  rw[<- M.out] at l;have s:=B.out;rw[<- M.out] at s;obtain⟨T,q1,q2,q3,q4⟩:=Q.out.hints (w2:=_) l G s (U _ _);exact Gn (v:=.tuple #[]) (by simp[results,go_sem]) rfl ⟨rfl,T,q1,(x.mono (fun _ _ e=>absurd e id)).trans q2,fun k hk=>(q3 k hk).imp id (fun h=>JT x.size h),q4⟩
def SM.holds(S:SM)(a:ByteArray)(l:List Ver):SM:={S with keys:=if l=[] then YK S.keys a else Zt S.keys a l}
theorem SRep.kept{w f:World}{b:Nat}{L:SL}{S:SM}{a:List (ByteArray × Value)}{keys:List (ByteArray × List Ver)}(h:SRep w b L S)(o:YF w b 161 L.kv [L.hv,.int .i64 S.CA] a f)
 (m:Pair (VRow f) a keys)(X:Nat->Prop)(q:∀ k,(∃ e∈a,e.2.ownBlock=some k)->SRead L k\/X k):SStep w b L {S with keys:=keys} X f:=by
 obtain⟨r,i,j,g,l⟩:=o;have d:∀ {k},L.hv.ownBlock=some k->k≠b:=fun c e=>zi h.hint h.CB (by decide) (by rw[c,e]);refine⟨{L with kv:=r,CU:=a},⟨i,j,m,ze h.hint g (fun k c e=>?_)⟩,g.mono (fun k _ e=>e.imp id .inl),fun k c=>?_,fun k c=>q k c⟩
 .rcases e with e|e
  .exact d c e
  .exact Z4 h.hint h.AA.own (by decide) c e
 .rcases c with c|c|c
  .exact .inl (.inl c)
  .rcases l k c with h1|h1
   .exact .inl (.inr (.inl h1))
   .exact .inr h1
  .exact .inl (.inr (.inr c))
theorem YF.yI{w f:World}{b:Nat}{L:SL}{S:SM}{a:List (ByteArray × Value)}(h:SRep w b L S)(i:YF w b 161 L.kv [L.hv,.int .i64 S.CA] a f){v:Value}{l:List Ver}(c:VRow w v l):VRow f v l:=by
 obtain⟨p,j,m,g,o⟩:=i;refine VRow.fr c g (fun k d e=>?_);rcases e with e|e
 .exact zi c h.CB (by decide) (by rw[d,e])
 .exact Z4 c h.AA.own (by decide) d e
theorem YF.of{w d c:World}{b:Nat}{t:TypeId}{v:Value}{a:List Value}{l:List (ByteArray × Value)}(h:YF d b t v a l c)(f:Fr Nil w d):YF w b t v a l c:=by
 obtain⟨q,g,i,j,o⟩:=h;exact⟨q,g,i,(f.mono (fun _ _ e=>absurd e id)).trans j,fun k m=>(o k m).imp id (fun h=>JT f.size h)⟩
theorem SStep.of{w c a:World}{b:Nat}{L:SL}{S:SM}{X:Nat->Prop}(h:SStep c b L S X a)(f:Fr Nil w c):SStep w b L S X a:=by
 obtain⟨d,i,j,l,m⟩:=h;exact⟨d,i,(f.mono (fun _ _ e=>absurd e id)).trans j,fun k g=>(l k g).imp id (fun h=>JT f.size h),m⟩
theorem QG(c:ByteArray)(lv:Value)(l:List Ver)(b:Nat)(L:SL)(S:SM)(w:World)(h:SRep w b L S)(hl:VRow w lv l)(M:S.keys.length<1099511627776) :
 Calls Tryz.prog 287 #[.agg #[.string c,lv],.pointer (some ⟨b,0,none⟩)] w fun e D=>e=.returned (.tuple #[])/\SStep w b L (S.holds c l) (fun k=>lv.ownBlock=some k) D:=by
 obtain⟨i,j,rfl⟩:=zg hl;have B:Fr Nil w (w.alloc (.cells #[.string c,.slice i l.length j] 193)):=(U _ _).alloc _;have d:Blk (w.alloc (.cells #[.string c,.slice i l.length j] 193)) w.heap.size [.string c,.slice i l.length j] 193:=Blk.new w [.string c,.slice i l.length j] _;have u:=h.nil B;have t:VRow (w.alloc (.cells #[.string c,.slice i l.length j] 193)) (.slice i l.length j) l:=VRow.fr hl B (fun _ _=>id);have K:L.CU.length<1099511627776:=by rw[h.pair.length];exact M
 by_cases C:l=[]
 .have hz0:((l.length:Int)==0)=true:=by rw[C];rfl
  have I:S.holds c l={S with keys:=YK S.keys c}:=by simp[SM.holds,C]
  rw[I];clear C I;go_enter Tryz.func287,Tryz.ntmps287;go_wp2_with fail;obtain⟨N,G⟩:∃ N,w.heap.size=N:=⟨_,rfl⟩;rw[G] at d |-;obtain⟨m,s⟩:∃ m,w.alloc (.cells #[.string c,.slice i l.length j] 193)=m:=⟨_,rfl⟩;rw[s] at d B u t |-;clear s G;have T:m.cell? ⟨N,0,none⟩=some (.string c):=by rw[d.cell];rfl
  have x:Hid (∀ A o:World,Fr Nil m A->YF A b 161 L.kv [L.hv,.int .i64 S.CA] (Xg L.CU c) o->o.cell? ⟨N,0,none⟩=some (.string c)):=by
   rintro A o f ⟨v',_,_,R,_⟩;have E:=u.nil f;have y:=d.fr f id;rw[(y.fr R (fun e=>?_)).cell];rfl;rcases e with e|e
   .exact y.ne E.CB (by decide) e
   .exact zi E.AA.own y (by decide) e
  have q:=Z u;have HH:=Z h;clear h u d
  go_region_held3 (fun D=>D.cell? ⟨N,0,none⟩=some (.string c)) (first|go_keep|assumption)
   (first
   | (go_at_call 290;refine(RH L.kv _ L.CU c b _ _ ((q.out.nil zd).CB) (by decide) ((q.out.nil zd).AA) K).mono ?_;rintro e o ⟨rfl,g⟩;have Y:=x.out _ _ zd g;have p:=Z (show YF m _ _ _ _ _ o from g.of zd);clear g))
  have r:SStep m b L {S with keys:=YK S.keys c} (fun k=>(Value.slice i l.length j).ownBlock=some k) o :=
   q.out.kept p.out ((q.out.pair.mono (fun a _ l X=>YF.yI q.out p.out X)).del c) _ (fun k ⟨e,V,O⟩=>.inl ⟨e,QC e V,O⟩)
  have Q:=Z (r.of B);clear r
  go_wp2
  exact Ei (v:=.tuple #[]) (by simp[results,go_sem]) rfl ⟨rfl,Q.out⟩
 .have hz0:((l.length:Int)==0)=false:=by
   have:l.length≠0:=fun e=>C (II e);simp;omega
  have I:S.holds c l={S with keys:=Zt S.keys c l}:=by simp[SM.holds,C]
  rw[I];clear C I;go_enter Tryz.func287,Tryz.ntmps287;go_wp2_with fail;obtain⟨N,G⟩:∃ N,w.heap.size=N:=⟨_,rfl⟩;rw[G] at d |-;obtain⟨m,s⟩:∃ m,w.alloc (.cells #[.string c,.slice i l.length j] 193)=m:=⟨_,rfl⟩;rw[s] at d B u t |-;clear s G;have T:m.cell? ⟨N,0,none⟩=some (.string c):=by rw[d.cell];rfl
  have a0:m.cell? ⟨N,1,none⟩=some (.slice i l.length j):=by rw[d.cell];rfl
  have x:Hid (∀ A o:World,Fr Nil m A->YF A b 161 L.kv [L.hv,.int .i64 S.CA] (Y9 L.CU c (.slice i l.length j)) o->o.cell? ⟨N,0,none⟩=some (.string c)/\o.cell? ⟨N,1,none⟩=some (.slice i l.length j)):=by
   rintro A o f ⟨v',_,_,R,_⟩;have E:=u.nil f;have y:=d.fr f id;have J:=y.fr R (fun e=>by
    rcases e with e|e
    .exact y.ne E.CB (by decide) e
    .exact zi E.AA.own y (by decide) e)
   exact⟨by rw[J.cell];rfl,by rw[J.cell];rfl⟩
  have q:=Z u;have HH:=Z h;have HL:=Z t;clear h u d t
  go_region_held3 (fun D=>D.cell? ⟨N,0,none⟩=some (.string c)/\D.cell? ⟨N,1,none⟩=some (.slice i l.length j)) (first|go_keep|assumption)
   (first
   | (go_at_call 291;refine(Nu L.kv _ L.CU c i _ j b _ _ ((q.out.nil zd).CB) (by decide) ((q.out.nil zd).AA) K).mono ?_;rintro e o ⟨rfl,g⟩;have Y:=x.out _ _ zd g;have p:=Z (show YF m _ _ _ _ _ o from g.of zd);clear g))
  have r:SStep m b L {S with keys:=Zt S.keys c l} (fun k=>(Value.slice i l.length j).ownBlock=some k) o :=
   q.out.kept p.out ((q.out.pair.mono (fun a _ l X=>YF.yI q.out p.out X)).set c (YF.yI q.out p.out HL.out)) _ (fun k ⟨e,V,O⟩=>by
    rcases K8 e V with h|h
    .exact .inl ⟨e,h,O⟩
    .subst h;exact .inr O)
  have Q:=Z (r.of B);clear r
  go_wp2
  exact Gn (v:=.tuple #[]) (by simp[results,go_sem]) rfl ⟨rfl,Q.out⟩
abbrev Fact:=Sum Nat (Sum (ByteArray × List Ver) (Sum (Nat × ByteArray) Unit))
def FRep(w:World)(a:Value):Fact->Prop
 | .inl n=>a=.iface 220 (.agg #[.int .i64 n])
 | .inr (.inl x)=>∃ b,a=.iface 193 (.agg #[.string x.1,b])/\VRow w b x.2
 | .inr (.inr (.inl x))=>a=.iface 138 (.agg #[.int .i64 x.1,.string x.2])
 | .inr (.inr (.inr _))=>a=.iface 135 (.agg #[])
def WC(b:Value)(k:Nat):Prop :=
 match b with
 | .iface _ (.agg a)=>∃ v∈a.toList,v.ownBlock=some k
 | _=>False
def SM.enter(S:SM):Fact->SM
 | .inl n=>{S with CA:=n}
 | .inr (.inl x)=>S.holds x.1 x.2
 | .inr (.inr (.inl x))=>{S with hints:=S.hints++[x]}
 | .inr (.inr (.inr _))=>{S with hints:=S.hints.drop 1}
theorem FRep.fr{S:Nat->Prop}{w w':World}{a:Value}{f:Fact}(h:FRep w a f)(fr:Fr S w w')(e:∀ k,WC a k->¬S k):FRep w' a f:=by
 rcases f with n|x|x|x
 .exact h
 .obtain⟨lv,rfl,hv⟩:=h
  exact⟨lv,rfl,VRow.fr hv fr (fun k c=>e k ⟨lv,by simp,c⟩)⟩
 .exact h
 .exact h
theorem SStep.mono{w w':World}{b:Nat}{L:SL}{S:SM}{X Y:Nat->Prop}(h:SStep w b L S X w')(f:∀ k,X k->Y k):SStep w b L S Y w':=by
 obtain⟨a,e,g,o,q⟩:=h;exact⟨a,e,g,o,fun k c=>(q k c).imp id (f k)⟩
theorem Xy(f:Fact)(j:Value)(b:Nat)(L:SL)(S:SM)(w:World)(h:SRep w b L S)(p:FRep w j f)(m:S.keys.length<1099511627776)(a:S.hints.length<1000000) :
 Calls Tryz.prog 96 #[.pointer (some ⟨b,0,none⟩),j] w fun e w'=>e=.returned (.tuple #[])/\SStep w b L (S.enter f) (WC j) w':=by
 rcases f with n|⟨k,l⟩|⟨r,d⟩|x
 .have hfv:j=.iface 220 (.agg #[.int .i64 n]):=p
  subst hfv;have g:=Z (QD n b L S w h);clear h;go_enter Cj,DU;go_wp2_with fail;refine g.out.mono ?_;rintro e q ⟨rfl,c⟩;have i:=Z c;clear c
  go_wp2
  exact Gn (v:=.tuple #[]) (by simp[results,go_sem]) rfl ⟨rfl,i.out.mono (fun _ h=>absurd h id)⟩
 .obtain⟨o,hfv,hv⟩:∃ o,j=.iface 193 (.agg #[.string k,o])/\VRow w o l:=p
  subst hfv;have g:=Z (QG k o l b L S w h hv m);clear h hv;go_enter Cj,DU;go_wp2_with fail;refine g.out.mono ?_;rintro e q ⟨rfl,c⟩;have i:=Z c;clear c
  go_wp2
  exact Gn (v:=.tuple #[]) (by simp[results,go_sem]) rfl ⟨rfl,i.out.mono (fun _ h=>⟨o,by simp,h⟩)⟩
 .have hfv:j=.iface 138 (.agg #[.int .i64 r,.string d]):=p
  subst hfv;have g:=Z (RJ r d b L S w h a);clear h;go_enter Cj,DU;go_wp2_with fail;refine g.out.mono ?_;rintro e q ⟨rfl,c⟩;have i:=Z c;clear c
  go_wp2
  exact Gn (v:=.tuple #[]) (by simp[results,go_sem]) rfl ⟨rfl,i.out.mono (fun _ h=>absurd h id)⟩
 .have hfv:j=.iface 135 (.agg #[]):=p
  subst hfv;have g:=Z (QF b L S w h a);clear h;go_enter Cj,DU;go_wp2_with fail;refine g.out.mono ?_;rintro e q ⟨rfl,c⟩;have i:=Z c;clear c
  go_wp2
  exact Gn (v:=.tuple #[]) (by simp[results,go_sem]) rfl ⟨rfl,i.out.mono (fun _ h=>absurd h id)⟩
theorem SRep.getE{w:World}{b:Nat}{L:SL}{S:SM}(h:SRep w b L S)(s:ByteArray):VRow w (getE L.CU s) (zr S.keys s):=by
 unfold Go.Proofs.YtkhnggkkiefcdaaGreatDoor.getE zr;have e:zx L.CU=S.keys.map Prod.fst:=h.pair.keys;rw[e];split
 .rename_i ha
  have d:zX zh (zx L.CU) s=true:=by rw[e];exact ha
  obtain⟨c,_⟩:=Xf d;rw[e] at c;have a:low zh (S.keys.map Prod.fst) s<S.keys.length:=by rw[<- h.pair.length];exact c
  have:=h.pair.get _ c a
  simpa [c,a] using this
 .exact IF w 0 _ _
theorem XJ(a:ByteArray)(b:Nat)(L:SL)(S:SM)(w:World)(h:SRep w b L S)(c:S.keys.length<1099511627776) :
 Calls Tryz.prog 73 #[.pointer (some ⟨b,0,none⟩),.string a] w fun e i=>e=.returned (getE L.CU a)/\Fr Nil w i:=by
 have f:w.cell? ⟨b,0,none⟩=some L.kv:=by rw[h.CB.cell];rfl
 have d:=Z (Nt L.kv L.CU a b w f h.CB.lt h.AA (by rw[h.pair.length];omega));clear h;go_enter Tryz.func73,Tryz.ntmps73
 go_wp2_with (refine d.out.mono ?_;rintro e j ⟨rfl,g⟩)
 go_ret;exact⟨rfl,g⟩
theorem WS(b:Nat)(L:SL)(S:SM)(w:World)(h:SRep w b L S) :
 Calls Tryz.prog 88 #[.pointer (some ⟨b,0,none⟩)] w fun e f=>e=.returned (.int .i64 S.keys.length)/\f=w:=by
 have d:w.cell? ⟨b,0,none⟩=some L.kv:=by rw[h.CB.cell];rfl
 have a:=Z (Nv L.kv L.CU b w d h.AA);have c:=Z h.pair.length;clear h;go_enter Tryz.func88,Tryz.ntmps88
 go_wp2_with (refine a.out.mono ?_;rintro e g ⟨rfl,rfl⟩)
 go_ret;exact⟨by show Ending.returned (.int .i64 (L.CU.length:Int))=_;rw[c.out],rfl⟩
theorem U1(b:Nat)(L:SL)(S:SM)(w:World)(h:SRep w b L S) :
 Calls Tryz.prog 98 #[.pointer (some ⟨b,0,none⟩)] w fun e a=>e=.returned (.int .i64 S.CA)/\a=w:=by
 have c:=h.CB.cell;clear h;go_enter Tryz.func98,Tryz.ntmps98
 go_wp2
 go_ret;exact⟨rfl,rfl⟩
theorem Yr(b:Nat)(L:SL)(S:SM)(w:World)(h:SRep w b L S) :
 Calls Tryz.prog 78 #[.pointer (some ⟨b,0,none⟩)] w fun e g=>e=.returned (.int .i64 S.hints.length)/\g=w:=by
 have c:=h.CB.cell;obtain⟨i,d,a⟩:=zg h.hint;have f:=zH h.hint;unfold maxLen at f;rw[a] at c;clear h a;go_enter Tryz.func78,Tryz.ntmps78
 go_wp2
 go_ret;exact⟨rfl,rfl⟩
structure MgM where
 number:Nat
 done:List Fact
 left:List Fact
 calls:Nat
structure NM where
 self:Nat
 given:Nat
 every:Nat
 writes:Nat
 readOnly:Bool
 J:JM
 S:SM
 mg:Option MgM:=none
structure NL where
 nb:Nat
 jb:Nat
 sb:Nat
 db:Nat
 mv:Value
 LS:SL
 LD:DL
def NM.cells(L:NL)(N:NM):List Value:=[.int .i64 N.self,.pointer (some ⟨L.jb,0,none⟩),.pointer (some ⟨L.sb,0,none⟩),.int .i64 N.given,.int .i64 N.every,.int .i64 N.writes,L.mv,.bool N.readOnly]
def Zv(w:World)(d:Value)(l:List Fact):Prop :=
 ∃ g k b e,w.ownsRow 0 165 1 (.slice (some ⟨g,0,none⟩) (k+l.length) b) (k+l.length) e/\(l≠[]->d=.slice (some ⟨g,k,none⟩) l.length (b-k))/\(l=[]->∃ a c,d=.slice a 0 c) /\
  ∀ i (h:i<l.length),∃ u,e[k+i]?=some u/\FRep w u l[i]
def MTy(t:TypeId):Prop:=t=201\/t=250\/t=165\/t=37
def MRp(w:World)(d:Value)(e:Nat):Option MgM->Prop
 | none=>d=.pointer none
 | some g=>∃ c a b,d=.pointer (some ⟨c,0,none⟩)/\Blk w c [.pointer (some ⟨a,0,none⟩),b,.int .i64 g.calls] 201/\Blk w a [.pointer (some ⟨e,0,none⟩),.int .i64 g.number] 250/\Zv w b g.left
def NM.xl(N:NM):Option MgM:=if N.readOnly=true then none else N.mg
theorem MRp.ty{w:World}{a:Value}{f k:Nat}:∀ {g:Option MgM},MRp w a f g->a=.pointer (some ⟨k,0,none⟩)->Ty w k 201
 | none,h,e=>by rw[show a=.pointer none from h] at e;cases e
 | some _,⟨j,b,i,c,d,_,_⟩,e=>by
  rw[c] at e;simp only[EV,IM,Dv,Cy] at e;rw[<- e];exact d.ty
theorem FRep.Ba{S:Nat->Prop}{w b:World}{v:Value}{x:Fact}(a:FRep w v x)(f:Fr S w b)(c:∀ k t,Ty w k t->MTy t->¬S k):FRep b v x:=by
 rcases x with n|x|x|x
 .exact a
 .obtain⟨lv,e,hl⟩:=a
  exact⟨lv,e,VRow.fr hl f (fun k d=>c k _ (zB hl d) (.inr (.inr (.inr rfl))))⟩
 .exact a
 .exact a
theorem Zv.fr{S:Nat->Prop}{w w':World}{o:Value}{l:List Fact}(h:Zv w o l)(f:Fr S w w')(e:∀ k t,Ty w k t->MTy t->¬S k):Zv w' o l:=by
 obtain⟨g,k,cap,C,c,q,r,y⟩:=h;refine⟨g,k,cap,C,ze c f (fun i a=>e i _ (zB c a) (.inr (.inr (.inl rfl)))),q,r,fun i a=>?_⟩;obtain⟨u,B,A⟩:=y i a;exact⟨u,B,A.Ba f e⟩
theorem MRp.fr{S:Nat->Prop}{w w':World}{r:Value}{q:Nat}:∀ {g:Option MgM},MRp w r q g->Fr S w w'->(∀ k t,Ty w k t->MTy t->¬S k)->MRp w' r q g
 | none,h,_,_=>h
 | some _,⟨C,a,B,y,e,o,A⟩,f,c=>⟨C,a,B,y,e.fr f (c _ _ e.ty (.inl rfl)),o.fr f (c _ _ o.ty (.inr (.inl rfl))),A.fr f c⟩
structure NRep(w:World)(L:NL)(N:NM)(M:DM):Prop where
 CB:Blk w L.nb (N.cells L) 123
 log:JRep w L.jb L.db N.J
 held:SRep w L.sb L.LS N.S
 CN:DRep w L.db L.LD M
 yr:MRp w L.mv L.jb N.xl
def NFoot(L:NL)(M:DM)(k:Nat):Prop:=k=L.nb\/k=L.jb\/SFoot L.sb L.LS k\/Foot L.db L.LD M k\/L.mv=.pointer (some ⟨k,0,none⟩)
theorem NRep.fr{a:Nat->Prop}{w w':World}{L:NL}{N:NM}{M:DM}(h:NRep w L N M)(f:Fr a w w')(c:∀ k,NFoot L M k->¬a k)(g:∀ k,SRead L.LS k->¬a k)(o:∀ k t,Ty w k t->MTy t->¬a k):NRep w' L N M :=
 ⟨h.CB.fr f (c _ (.inl rfl)),Blk.fr h.log f (c _ (.inr (.inl rfl))),h.held.fr f (fun k e=>c k (.inr (.inr (.inl e)))) g,h.CN.fr f (fun k e=>c k (.inr (.inr (.inr (.inl e))))),h.yr.fr f o⟩
theorem NRep.nil{w w':World}{L:NL}{N:NM}{M:DM}(h:NRep w L N M)(f:Fr Nil w w'):NRep w' L N M:=h.fr f (fun _ _=>id) (fun _ _=>id) (fun _ _ _ _=>id)
structure NL.xt(L L':NL):Prop where
 nb:L'.nb=L.nb
 jb:L'.jb=L.jb
 sb:L'.sb=L.sb
 db:L'.db=L.db
structure NStep(L:NL)(M:DM)(w:World)(L':NL)(N':NM)(M':DM)(w':World):Prop where
 CK:NRep w' L' N' M'
 same:NL.xt L L'
 fr:Fr (NFoot L M) w w'
 CX:∀ k,NFoot L' M' k->NFoot L M k\/w.heap.size<=k
 read:∀ k,SRead L'.LS k->SRead L.LS k\/w.heap.size<=k
theorem NStep.trans{e g o:NL}{y s:NM}{q M2 r:DM}{t w2 x:World}(h:NStep e q t g y M2 w2)(k:NStep g M2 w2 o s r x):NStep e q t o s r x where
 CK:=k.CK
 same:=⟨k.same.nb.trans h.same.nb,k.same.jb.trans h.same.jb,k.same.sb.trans h.same.sb,k.same.db.trans h.same.db⟩
 fr:=h.fr.trans' k.fr (fun i a A=>(h.CX i A).resolve_right (by omega))
 CX:=fun i a=>(k.CX i a).elim (h.CX i) (fun c=>.inr (JT h.fr.size c))
 read:=fun i a=>(k.read i a).elim (h.read i) (fun c=>.inr (JT h.fr.size c))
theorem NStep.nil{L:NL}{N:NM}{M:DM}{w w':World}(h:NRep w L N M)(f:Fr Nil w w'):NStep L M w L N M w' :=
 ⟨h.nil f,⟨rfl,rfl,rfl,rfl⟩,f.mono (fun _ _ e=>absurd e id),fun _ a=>.inl a,fun _ a=>.inl a⟩
theorem NStep.CF{L a:NL}{N':NM}{M b:DM}{w c w':World}(h:NStep L M w a N' b c)(f:Fr Nil c w'):NStep L M w a N' b w':=h.trans (NStep.nil h.CK f)
theorem NStep.BC{L:NL}{N:NM}{M g:DM}{f:JM}{c:DL}{w w':World}(h:NRep w L N M)(s:JStep L.jb L.db L.LD M w f c g w'):NStep L M w {L with LD:=c} {N with J:=f} g w':=by
 have a:∀ {k t},Ty w k t->¬DTy t->t≠197->¬(k=L.jb\/Foot L.db L.LD M k):=by
  intro k t b j l d;rcases d with d|d
  .subst d;exact l (b.inj (Blk.ty h.log))
  .exact h.CN.apart b j d
 refine⟨⟨h.CB.fr s.2.2.1 (a h.CB.ty (by unfold DTy;decide) (by decide)),s.1,h.held.fr s.2.2.1 (fun k b=>?_) (fun k b=>a (h.held.Bx b) (by unfold DTy;decide) (by decide)),s.2.1,MRp.fr h.yr s.2.2.1 (fun k t b i=>by
  unfold MTy at i;rcases i with rfl|rfl|rfl|rfl <;> exact a b (by unfold DTy;decide) (by decide))⟩,⟨rfl,rfl,rfl,rfl⟩,s.2.2.1.mono (fun k _ e=>?_),fun k b=>?_,fun k b=>.inl b⟩
 .rcases h.held.Bc b with e|e|e
  .exact a e (by unfold DTy;decide) (by decide)
  .exact a e (by unfold DTy;decide) (by decide)
  .exact a e (by unfold DTy;decide) (by decide)
 .rcases e with e|e
  .exact .inr (.inl e)
  .exact .inr (.inr (.inr (.inl e)))
 .rcases b with e|e|e|e|e
  .exact .inl (.inl e)
  .exact .inl (.inr (.inl e))
  .exact .inl (.inr (.inr (.inl e)))
  .exact(s.2.2.2 k e).imp (fun h=>.inr (.inr (.inr (.inl h)))) id
  .exact .inl (.inr (.inr (.inr (.inr e))))
theorem NStep.held{L f:NL}{q:NM}{M o:DM}{S':SM}{X:Nat->Prop}{w l w':World}(h:NStep L M w f q o l)(E:SStep l f.sb f.LS S' X w')(A:∀ k,X k->SRead L.LS k\/w.heap.size<=k) :
 ∃ d,NStep L M w {f with LS:=d} {q with S:=S'} o w':=by
 obtain⟨d,B,g,C,D⟩:=E;have c:=h.CK;have b:∀ {k t},Ty l k t->t≠161->t≠239->t≠75->¬SFoot f.sb f.LS k:=by
  intro k t a r s x y;rcases c.held.Bc y with e|e|e
  .exact r (a.inj e)
  .exact s (a.inj e)
  .exact x (a.inj e)
 refine⟨d,⟨c.CB.fr g (b c.CB.ty (by decide) (by decide) (by decide)),Blk.fr c.log g (b (Blk.ty c.log) (by decide) (by decide) (by decide)),B,c.CN.fr g (fun k a e=>?_),MRp.fr c.yr g (fun k t a j=>by
  unfold MTy at j;rcases j with rfl|rfl|rfl|rfl <;> exact b a (by decide) (by decide) (by decide))⟩,⟨h.same.nb,h.same.jb,h.same.sb,h.same.db⟩,h.fr.trans' g (fun k a e=>(h.CX k (.inr (.inr (.inl e)))).resolve_right (by omega)),fun k a=>?_,fun k a=>?_⟩
 .obtain⟨t,j,hd⟩:=c.CN.ty a
  unfold DTy at hd;refine b j ?_ ?_ ?_ e
  all_goals (rcases hd with rfl|rfl|rfl|rfl|rfl <;> decide)
 .rcases a with e|e|e|e|e
  .exact h.CX k (.inl e)
  .exact h.CX k (.inr (.inl e))
  .exact(C k e).elim (fun e=>h.CX k (.inr (.inr (.inl e)))) (fun e=>.inr (JT h.fr.size e))
  .exact h.CX k (.inr (.inr (.inr (.inl e))))
  .exact h.CX k (.inr (.inr (.inr (.inr e))))
 .exact(D k a).elim (h.read k) (A k)
theorem NRep.apart{w:World}{L:NL}{N:NM}{M:DM}(h:NRep w L N M){k:Nat}{t:TypeId}(b:Ty w k t)(c:t≠123)(d:t≠197)(f:t≠161)(g:t≠239)(i:t≠75)(j:¬DTy t)(l:t≠201):¬NFoot L M k:=by
 intro a;rcases a with rfl|rfl|a|a|a
 .exact c (b.inj h.CB.ty)
 .exact d (b.inj (Blk.ty h.log))
 .rcases h.held.Bc a with e|e|e
  .exact f (b.inj e)
  .exact g (b.inj e)
  .exact i (b.inj e)
 .exact h.CN.apart b j a
 .exact l (b.inj (h.yr.ty a))
theorem VRow.step{w w':World}{L b:NL}{N d:NM}{M c:DM}{v:Value}{l:List Ver}(a:VRow w v l)(h:NRep w L N M)(s:NStep L M w b d c w'):VRow w' v l :=
 VRow.fr a s.fr (fun _ e=>h.apart (zB a e) (by decide) (by decide) (by decide) (by decide) (by decide) (by unfold DTy;decide) (by decide))
theorem FRep.step{w w':World}{L b:NL}{N d:NM}{M c:DM}{v:Value}{x:Fact}(a:FRep w v x)(h:NRep w L N M)(s:NStep L M w b d c w'):FRep w' v x:=by
 rcases x with n|x|x|x
 .exact a
 .obtain⟨lv,e,hl⟩:=a
  exact⟨lv,e,hl.step h s⟩
 .exact a
 .exact a
theorem ERep.xb{w b:World}{L c:NL}{N f:NM}{M d:DM}{v:Value}{e:Option Int}(g:ERep w v e)(h:NRep w L N M)(s:NStep L M w c f d b):ERep b v e :=
 g.fr s.fr (fun _ a=>a.elim (fun a=>h.apart a (by decide) (by decide) (by decide) (by decide) (by decide) (by unfold DTy;decide) (by decide)) (fun a=>h.apart a (by decide) (by decide) (by decide) (by decide) (by decide) (by unfold DTy;decide) (by decide)))
theorem NStep.set{L:NL}{N N':NM}{M:DM}{w:World}(h:NRep w L N M)(i:Nat)(v:Value)(o:(N.cells L).set i v=N'.cells L)(g:N'.J=N.J)(j:N'.S=N.S)(f:N'.xl=N.xl:=by rfl):NStep L M w L N' M (w.setCell ⟨L.nb,i,none⟩ v):=by
 have d:Fr (fun k=>k=L.nb) w (w.setCell ⟨L.nb,i,none⟩ v):=Fr.set (S:=fun k=>k=L.nb) (U _ _) (fun _=>rfl) _;have a:∀ {k t},Ty w k t->t≠123->¬k=L.nb:=fun b c e=>by subst e;exact c (b.inj h.CB.ty)
 refine⟨⟨?_,?_,?_,h.CN.fr d (fun k b=>?_),by rw[f];exact MRp.fr h.yr d (fun k t b c=>by
  unfold MTy at c;rcases c with rfl|rfl|rfl|rfl <;> exact a b (by decide))⟩,⟨rfl,rfl,rfl,rfl⟩,d.mono (fun _ _ e=>.inl e),fun k b=>.inl b,fun k b=>.inl b⟩
 .rw[<- o];exact h.CB.set i v
 .rw[g];exact Blk.fr h.log d (a (Blk.ty h.log) (by decide))
 .rw[j]
  refine h.held.fr d (fun k b=>?_) (fun k b=>a (h.held.Bx b) (by decide));rcases h.held.Bc b with e|e|e
  .exact a e (by decide)
  .exact a e (by decide)
  .exact a e (by decide)
 .obtain⟨t,c,hd⟩:=h.CN.ty b
  unfold DTy at hd;refine a c ?_;rcases hd with rfl|rfl|rfl|rfl|rfl <;> decide
theorem NStep.yG{j L:NL}{N:NM}{l M:DM}{o w:World}(s:NStep j l o L N M w)(m:N.readOnly=false)(c:Value)(mg:Option MgM)(q:MRp w c L.jb mg)(g:∀ k,c=.pointer (some ⟨k,0,none⟩)->NFoot j l k\/o.heap.size<=k) :
 NStep j l o {L with mv:=c} {N with mg:=mg} M (w.setCell ⟨L.nb,6,none⟩ c):=by
 have h:=s.CK;have f:Fr (fun k=>k=L.nb) w (w.setCell ⟨L.nb,6,none⟩ c):=Fr.set (S:=fun k=>k=L.nb) (U _ _) (fun _=>rfl) _;have a:∀ {k t},Ty w k t->t≠123->¬k=L.nb:=fun b d e=>by subst e;exact d (b.inj h.CB.ty)
 refine⟨⟨?_,?_,?_,h.CN.fr f (fun k b=>?_),?_⟩,⟨s.same.nb,s.same.jb,s.same.sb,s.same.db⟩,s.fr.trans' f (fun i r e=>(s.CX i (.inl e)).resolve_right (by omega)),fun k b=>?_,s.read⟩
 .exact h.CB.set 6 c
 .exact Blk.fr h.log f (a (Blk.ty h.log) (by decide))
 .refine h.held.fr f (fun k b=>?_) (fun k b=>a (h.held.Bx b) (by decide))
  rcases h.held.Bc b with e|e|e
  .exact a e (by decide)
  .exact a e (by decide)
  .exact a e (by decide)
 .obtain⟨t,d,hd⟩:=h.CN.ty b
  unfold DTy at hd;refine a d ?_;rcases hd with rfl|rfl|rfl|rfl|rfl <;> decide
 .show MRp _ c L.jb (if N.readOnly=true then none else mg)
  rw[Ie (by rw[m];decide)];exact q.fr f (fun k t b d=>by
   unfold MTy at d;rcases d with rfl|rfl|rfl|rfl <;> exact a b (by decide))
 .rcases b with e|e|e|e|e
  .exact s.CX k (.inl e)
  .exact s.CX k (.inr (.inl e))
  .exact s.CX k (.inr (.inr (.inl e)))
  .exact s.CX k (.inr (.inr (.inr (.inl e))))
  .exact g k e
theorem NStep.AQ{L:NL}{N:NM}{M:DM}{w:World}(h:NRep w L N M):NStep L M w {L with mv:=.pointer none} {N with readOnly:=true} M ((w.setCell ⟨L.nb,7,none⟩ (.bool true)).setCell ⟨L.nb,6,none⟩ (.pointer none)):=by
 have c:Fr (fun k=>k=L.nb) w ((w.setCell ⟨L.nb,7,none⟩ (.bool true)).setCell ⟨L.nb,6,none⟩ (.pointer none)):=Fr.set (S:=fun k=>k=L.nb) (p:=⟨L.nb,6,none⟩) (Fr.set (S:=fun k=>k=L.nb) (p:=⟨L.nb,7,none⟩) (U _ _) (fun _=>rfl) _) (fun _=>rfl) _;have a:∀ {k t},Ty w k t->t≠123->¬k=L.nb:=fun b d e=>by subst e;exact d (b.inj h.CB.ty)
 refine⟨⟨?_,?_,?_,h.CN.fr c (fun k b=>?_),rfl⟩,⟨rfl,rfl,rfl,rfl⟩,c.mono (fun _ _ e=>.inl e),fun k b=>?_,fun k b=>.inl b⟩
 .exact(h.CB.set 7 (.bool true)).set 6 (.pointer none)
 .exact Blk.fr h.log c (a (Blk.ty h.log) (by decide))
 .refine h.held.fr c (fun k b=>?_) (fun k b=>a (h.held.Bx b) (by decide))
  rcases h.held.Bc b with e|e|e
  .exact a e (by decide)
  .exact a e (by decide)
  .exact a e (by decide)
 .obtain⟨t,d,hd⟩:=h.CN.ty b
  unfold DTy at hd;refine a d ?_;rcases hd with rfl|rfl|rfl|rfl|rfl <;> decide
 .rcases b with e|e|e|e|e
  .exact .inl (.inl e)
  .exact .inl (.inr (.inl e))
  .exact .inl (.inr (.inr (.inl e)))
  .exact .inl (.inr (.inr (.inr (.inl e))))
  .cases e
theorem NStep.merged{L:NL}{N:NM}{M j:DM}{w i:World}{r:Nat}{c:DL}{mg:Option MgM}(h:NRep w L N M)(q:N.readOnly=false)(g:L.mv=.pointer (some ⟨r,0,none⟩))(f:Fr (fun k=>k=r\/Foot L.db L.LD M k) w i)(s:DRep i L.db c j)
 (m:∀ k,Foot L.db c j k->Foot L.db L.LD M k\/w.heap.size<=k)(x:MRp i L.mv L.jb mg):NStep L M w {L with LD:=c} {N with mg:=mg} j i:=by
 have o:=h.yr.ty g;have a:∀ {k t},Ty w k t->¬DTy t->t≠201->¬(k=r\/Foot L.db L.LD M k):=by
  intro k t b l v d;rcases d with d|d
  .subst d;exact v (b.inj o)
  .exact h.CN.apart b l d
 refine⟨⟨h.CB.fr f (a h.CB.ty (by unfold DTy;decide) (by decide)),Blk.fr h.log f (a (Blk.ty h.log) (by unfold DTy;decide) (by decide)),h.held.fr f (fun k b=>?_) (fun k b=>a (h.held.Bx b) (by unfold DTy;decide) (by decide)),s,?_⟩,⟨rfl,rfl,rfl,rfl⟩,f.mono (fun k _ e=>?_),fun k b=>?_,fun k b=>.inl b⟩
 .rcases h.held.Bc b with e|e|e
  .exact a e (by unfold DTy;decide) (by decide)
  .exact a e (by unfold DTy;decide) (by decide)
  .exact a e (by unfold DTy;decide) (by decide)
 .show MRp _ L.mv L.jb (if N.readOnly=true then none else mg)
  rw[Ie (by rw[q];decide)];exact x
 .rcases e with e|e
  .subst e;exact .inr (.inr (.inr (.inr g)))
  .exact .inr (.inr (.inr (.inl e)))
 .rcases b with e|e|e|e|e
  .exact .inl (.inl e)
  .exact .inl (.inr (.inl e))
  .exact .inl (.inr (.inr (.inl e)))
  .exact(m k e).imp (fun h=>.inr (.inr (.inr (.inl h)))) id
  .exact .inl (.inr (.inr (.inr (.inr e))))
end Go.Proofs.YtkhnggkkiefcdaaGreatDoor
