/- larder: joined texts -/
import Derived.Test.YtkhnggkkiefcdaaGreatDoorSFAG
import Derived.Test.YtkhnggkkiefcdaaGreatDoorSFAH
import Derived.Maps.AppendAt
namespace Go.Proofs.YtkhnggkkiefcdaaGreatDoor
open Go.RowKit
set_option maxRecDepth 100000
set_option maxHeartbeats 8000000
abbrev DB:=@Go.OwnFrom.and
abbrev DJ:=@Go.callsIn_of_wp_marks
abbrev Cj:=@Go.Boxed.new
abbrev Ck:=@Go.run_takeDeferred
abbrev CS:=@Go.Own.from
theorem LT(a:Array Value)(w:World):Sem.run Tryz.prog (callFunc 82 a) w=.ok (.enter 82 a) w:=by kernel_rfl
theorem Iv(a:Array Value)(w:World):Sem.run Tryz.prog (callFunc 71 a) w=.ok (.enter 71 a) w:=by kernel_rfl
structure Xe(N:NM)(M:DM)(H:Nat)(key:ByteArray)(vs:NM->Nat->List Ver):Prop where
 log:YG N.J M H (zh (.inl (N.given+16))).size
 keys:N.S.keys.length<1099511627776
 hints:N.S.hints.length<1000000
 given:N.given<1000000000000
 fact:∀ f,H<=f->(N.next M f).1=none->∀ H',H<=H'->(∀ i∈(N.next M f).2.2.2.ids,i<H')->Fit (N.next M f).2.2.1 (N.next M f).2.2.2 H' (.inr (.inl (key,vs (N.next M f).2.2.1 (N.next M f).2.1)))
def NM.delete(N:NM)(M:DM)(key:ByteArray)(f g:Nat):Nat × Int × NM × DM :=
 if zp key=false then(0,2,N,M) else if N.readOnly=true then(0,8,N,M) else N.replace M key (fun _ _=>[]) f g
theorem WD(o:zz)(B:Nat)(L:NL)(N:NM)(M:DM)(key:ByteArray)(w:World)(h:NRep w L N M)(t:Ym B L M w)(c:zp key=true->N.readOnly=false->Xe N M w.heap.size key (fun _ _=>[])) :
 Calls Tryz.prog 30 #[.pointer (some ⟨L.nb,0,none⟩),.string key] w fun e C=>∃ f g L',e=.returned (.tuple #[.int .i64 (N.delete M key f g).1,.int .i64 (N.delete M key f g).2.1])/\w.heap.size<=f/\w.heap.size<=g/\Apart2 N M f g/\NStep L M w L' (N.delete M key f g).2.2.1 (N.delete M key f g).2.2.2 C:=by
 have m:w.cell? ⟨L.nb,7,none⟩=some (.bool N.readOnly):=h.CY.cell 7;have l:=Z (XN key w);have r:=Z h;have u:=Z t;have z:=Z c;clear h t c;go_enter Tryz.func30,Tryz.ntmps30;cases hb:zp key with
 | false =>
  rw[hb] at l;have d:N.delete M key w.heap.size (w.heap.size+1)=(0,2,N,M):=by unfold NM.delete;rw[He hb]
  have b:=Z d;clear hb d
  go_wp2_with (refine l.out.mono ?_;rintro e j ⟨rfl,p⟩;subst j)
  go_ret2;exact⟨w.heap.size,w.heap.size+1,L,by rw[b.out];rfl,IQ _,Fs _,Xk N M (by omega),by rw[b.out];exact NStep.nil r.out (O _ _)⟩
 | true =>
  rw[hb] at l;have i:key.size<=32:=by unfold zp at hb;simp only[Ha] at hb;exact hb.2
  have s:=Z i;cases hr:N.readOnly with
  | true =>
   rw[hr] at m;have d:N.delete M key w.heap.size (w.heap.size+1)=(0,8,N,M):=by unfold NM.delete;rw[IV (by rw[hb];decide),He hr]
   have b:=Z d;clear hb d i hr
   go_wp2_with (refine l.out.mono ?_;rintro e j ⟨rfl,p⟩;subst j)
   go_ret2;exact⟨w.heap.size,w.heap.size+1,L,by rw[b.out];rfl,IQ _,Fs _,Xk N M (by omega),by rw[b.out];exact NStep.nil r.out (O _ _)⟩
  | false =>
   have a:=Z (z.out hb hr);rw[hr] at m;have d:∀ f g,N.delete M key f g=N.replace M key (fun _ _=>[]) f g:=by intro f g;unfold NM.delete;rw[IV (by rw[hb];decide),IV (by rw[hr];decide)]
   have b:=Z d;clear hb d i hr
   go_wp2_with (refine l.out.mono ?_;rintro e j ⟨rfl,p⟩;subst j)
   refine(VS o B L N M key (fun _ _=>[]) 82 #[] w r.out u.out ?_ LT (IP s.out (by decide)) a.out.log a.out.keys a.out.hints a.out.given a.out.fact).mono ?_
   .intro f0 _ L1 j _
    refine(RY (.int .i64 (N.next M f0).2.1) j).mono ?_;rintro e D ⟨rfl,rfl⟩;exact⟨_,rfl,Hc _ 0 _ _,O _ _,fun k A=>absurd A (by simp[Value.ownBlock])⟩
   .rintro e D ⟨f,g,L2,rfl,hf,hg,hap,hst⟩
    have v:=Z hf;have x:=Z hg;have q:=Z hap;have y:=Z hst;clear hf hg hap hst
    go_wp2
    go_ret2;exact⟨f,g,L2,by rw[b.out];rfl,v.out,x.out,q.out,by rw[b.out];exact y.out⟩
def putV(key a:ByteArray)(N:NM)(n:Nat):List Ver :=
 [{node:=N.self,seq:=n,o0:=grV (zj N.S.keys key) 0,o1:=grV (zj N.S.keys key) 1,o2:=grV (zj N.S.keys key) 2,o3:=grV (zj N.S.keys key) 3,value:=a,gone:=false}]
theorem MD(L:NL)(N:NM)(M:DM)(key a:ByteArray)(A B C n:Nat)(w:World)(h:NRep w L N M)(m:Blk w A [.pointer (some ⟨L.nb,0,none⟩)] 41)(o:Blk w B [.string key] 9)(p:Blk w C [.string a] 9)
 (z:N.S.keys.length<1099511627776)(d:∀ u∈zj N.S.keys key,zS u.node)(i:a.size<=1000000000) :
 Calls Tryz.prog 71 #[.int .i64 n,.pointer (some ⟨A,0,none⟩),.pointer (some ⟨B,0,none⟩),.pointer (some ⟨C,0,none⟩)] w fun e b=>∃ v,e=.returned v/\VRow b v (putV key a N n)/\Fr Nil w b/\(∀ k,v.ownBlock=some k->w.heap.size<=k):=by
 have j:Hid (∀ b,Fr Nil w b->b.cell? ⟨A,0,none⟩=some (.pointer (some ⟨L.nb,0,none⟩))/\b.cell? ⟨B,0,none⟩=some (.string key)/\b.cell? ⟨C,0,none⟩=some (.string a)/\b.cell? ⟨L.nb,0,none⟩=some (.int .i64 N.self)/\b.cell? ⟨L.nb,2,none⟩=some (.pointer (some ⟨L.sb,0,none⟩))) :=
  fun b f=>⟨(m.fr f id).cell 0,(o.fr f id).cell 0,(p.fr f id).cell 0,(h.CY.fr f id).cell 0,(h.CY.fr f id).cell 2⟩
 have K:=Z (fun b (f:Fr Nil w b)=>XJ key L.sb L.LS N.S b (h.held.nil f) z);have J:=Z (fun b (f:Fr Nil w b)=>SI (getE L.LS.BR key) (zj N.S.keys key) d b ((h.held.nil f).getE key));have G:=Z (fun b=>ZJ a b i);obtain⟨Q,R,S,T,V⟩:=j.out w (O _ _);clear h m o p z d i;go_enter Tryz.func71,Tryz.ntmps71;go_wp2_with fail
 go_region_held3 (fun b=>b.cell? ⟨A,0,none⟩=some (.pointer (some ⟨L.nb,0,none⟩))/\b.cell? ⟨B,0,none⟩=some (.string key)/\b.cell? ⟨C,0,none⟩=some (.string a)/\b.cell? ⟨L.nb,0,none⟩=some (.int .i64 N.self)/\b.cell? ⟨L.nb,2,none⟩=some (.pointer (some ⟨L.sb,0,none⟩))) (first|assumption|go_keep|exact j.out _ za)
  (first
  | (go_at_call 72;refine(J.out _ za).mono ?_;rintro e E ⟨rfl,s⟩;have t:Fr Nil w E:=Fr.trans za s;have Y:=j.out E t;clear s)
  | (go_at_call 74;refine(G.out _).mono ?_;rintro e wc ⟨rfl,r⟩;have c:Fr Nil w wc:=Fr.trans za r;have X:=j.out wc c;clear r)
  | (go_at_call 73;refine(K.out _ za).mono ?_;rintro e F ⟨rfl,x⟩;have y:Fr Nil w F:=Fr.trans za x;have a0:=j.out F y;clear x))
 have q:=Blk.new wc [.int .i64 N.self,.int .i64 n,.int .i64 (grV (zj N.S.keys key) 0),.int .i64 (grV (zj N.S.keys key) 1),.int .i64 (grV (zj N.S.keys key) 2),.int .i64 (grV (zj N.S.keys key) 3),.string a,.bool false] 37;have g:VRow _ (.slice (some ⟨wc.heap.size,0,none⟩) 1 1) (putV key a N n):=ZA (cap:=1) q (IQ _) (by decide) rfl rfl;have l:=Z g;have I:=Z (c.alloc (.cells #[.int .i64 N.self,.int .i64 n,.int .i64 (grV (zj N.S.keys key) 0),.int .i64 (grV (zj N.S.keys key) 1),.int .i64 (grV (zj N.S.keys key) 2),.int .i64 (grV (zj N.S.keys key) 3),.string a,.bool false] 37));have D:=Z c.size;clear q g
 go_wp2
 go_ret;exact⟨_,rfl,l.out,I.out,fun k z=>by simp[Value.ownBlock] at z;subst z;exact D.out⟩
theorem YT(w:World)(a:Obj):(w.alloc a).heap.size=w.heap.size+1:=Array.size_push ..
theorem Xe.mono{N:NM}{M:DM}{H e:Nat}{key:ByteArray}{vs:NM->Nat->List Ver}(h:Xe N M H key vs)(c:H<=e):Xe N M e key vs :=
 ⟨h.log.mono c,h.keys,h.hints,h.given,fun f r y g o=>h.fact f (IP c r) y g (IP c o)⟩
def NM.put(N:NM)(M:DM)(key a:ByteArray)(f g:Nat):Nat × Int × NM × DM :=
 if zp key=false then(0,2,N,M) else if 128<a.size then(0,3,N,M) else if N.readOnly=true then(0,8,N,M) else N.replace M key (putV key a) f g
theorem W9(F:zz)(B:Nat)(L:NL)(N:NM)(M:DM)(key a:ByteArray)(w:World)(h:NRep w L N M)(he:Ym B L M w)(l:∀ u∈zj N.S.keys key,zS u.node)
 (r:zp key=true->a.size<=128->N.readOnly=false->Xe N M w.heap.size key (putV key a)) :
 Calls Tryz.prog 22 #[.pointer (some ⟨L.nb,0,none⟩),.string key,.string a] w fun e w'=>∃ f g L',e=.returned (.tuple #[.int .i64 (N.put M key a f g).1,.int .i64 (N.put M key a f g).2.1])/\w.heap.size<=f/\w.heap.size<=g/\Apart2 N M f g/\NStep L M w L' (N.put M key a f g).2.2.1 (N.put M key a f g).2.2.2 w':=by
 have D:=Z h;have HE:=Z he;have HT:=Z r;have S:=Z l;clear h he r l;go_enter Tryz.func22,Tryz.ntmps22;go_wp2_with fail;have y:=Blk.new w [.pointer (some ⟨L.nb,0,none⟩)] 41;have q:=Blk.new (w.alloc (.cells #[.pointer (some ⟨L.nb,0,none⟩)] 41)) [.string key] 9;have z:=Blk.new ((w.alloc (.cells #[.pointer (some ⟨L.nb,0,none⟩)] 41)).alloc (.cells #[.string key] 9)) [.string a] 9;have p:Fr Nil (w.alloc (.cells #[.pointer (some ⟨L.nb,0,none⟩)] 41)) (((w.alloc (.cells #[.pointer (some ⟨L.nb,0,none⟩)] 41)).alloc (.cells #[.string key] 9)).alloc (.cells #[.string a] 9)):=((O _ _).alloc _).alloc _;have f2:Fr Nil ((w.alloc (.cells #[.pointer (some ⟨L.nb,0,none⟩)] 41)).alloc (.cells #[.string key] 9)) (((w.alloc (.cells #[.pointer (some ⟨L.nb,0,none⟩)] 41)).alloc (.cells #[.string key] 9)).alloc (.cells #[.string a] 9)):=(O _ _).alloc _;have J:Fr Nil w (((w.alloc (.cells #[.pointer (some ⟨L.nb,0,none⟩)] 41)).alloc (.cells #[.string key] 9)).alloc (.cells #[.string a] 9)):=((O _ _).alloc _).trans p;have s1:(w.alloc (.cells #[.pointer (some ⟨L.nb,0,none⟩)] 41)).heap.size=w.heap.size+1:=YT _ _;have s2:((w.alloc (.cells #[.pointer (some ⟨L.nb,0,none⟩)] 41)).alloc (.cells #[.string key] 9)).heap.size=w.heap.size+1+1:=by rw[YT,YT]
 have y:=y.fr p id;have q:=q.fr f2 id;rw[s1] at q;rw[s2] at z;clear p f2 s1 s2;generalize ((w.alloc (.cells #[.pointer (some ⟨L.nb,0,none⟩)] 41)).alloc (.cells #[.string key] 9)).alloc (.cells #[.string a] 9)=x at y q z J |-;have b:=Z J;have a6:x.cell? ⟨w.heap.size,0,none⟩=some (.pointer (some ⟨L.nb,0,none⟩)):=y.cell 0;have a1:x.cell? ⟨w.heap.size+1,0,none⟩=some (.string key):=q.cell 0;have a2:x.cell? ⟨w.heap.size+1+1,0,none⟩=some (.string a):=z.cell 0;generalize w.heap.size+1+1=b3 at z a2 |-;generalize w.heap.size+1=b2 at q a1 |-;have HA:=Z y;have HB:=Z q;have HC:=Z z;have T:=Z (D.out.nil J);have E:x.cell? ⟨L.nb,7,none⟩=some (.bool N.readOnly):=T.out.CY.cell 7;have I:=Z (XN key x);clear y q z J;cases hb:zp key with
 | false =>
  rw[hb] at I;have m:N.put M key a w.heap.size (w.heap.size+1)=(0,2,N,M):=by unfold NM.put;rw[He hb]
  have i:=Z m;clear hb m;refine I.out.mono ?_;rintro e A ⟨rfl,a4⟩;subst A
  go_wp2
  go_ret2;exact⟨w.heap.size,w.heap.size+1,L,by rw[i.out];rfl,IQ _,Fs _,Xk N M (by omega),by rw[i.out];exact NStep.nil D.out b.out⟩
 | true =>
  rw[hb] at I;have o:key.size<=32:=by unfold zp at hb;simp only[Ha] at hb;exact hb.2
  have R:=Z o;refine I.out.mono ?_;rintro e A ⟨rfl,a4⟩;subst A;by_cases hv:128<a.size
  .have m:N.put M key a w.heap.size (w.heap.size+1)=(0,3,N,M):=by unfold NM.put;rw[IV (by rw[hb];decide),He hv]
   have i:=Z m;have a3:(128:Int)<(a.size:Int):=by omega
   clear hb m o
   go_wp2
   go_ret2;exact⟨w.heap.size,w.heap.size+1,L,by rw[i.out];rfl,IQ _,Fs _,Xk N M (by omega),by rw[i.out];exact NStep.nil D.out b.out⟩
  .have a3:¬(128:Int)<(a.size:Int):=by omega
   cases hr:N.readOnly with
   | true =>
    rw[hr] at E;have m:N.put M key a w.heap.size (w.heap.size+1)=(0,8,N,M):=by unfold NM.put;rw[IV (by rw[hb];decide),IV hv,He hr]
    have i:=Z m;clear hb m o hr
    go_wp2
    go_ret2;exact⟨w.heap.size,w.heap.size+1,L,by rw[i.out];rfl,IQ _,Fs _,Xk N M (by omega),by rw[i.out];exact NStep.nil D.out b.out⟩
   | false =>
    rw[hr] at E;have m:∀ f g,N.put M key a f g=N.replace M key (putV key a) f g:=by intro f g;unfold NM.put;rw[IV (by rw[hb];decide),IV hv,IV (by rw[hr];decide)]
    have i:=Z m;have C:=Z (HT.out hb (by omega) hr);have V:Hid (a.size<=1000000000):=by show _<=_;omega
    clear hb m o hr;have Q:Hid (Gives L N M x 71 #[.pointer (some ⟨w.heap.size,0,none⟩),.pointer (some ⟨b2,0,none⟩),.pointer (some ⟨b3,0,none⟩)] (putV key a)):=by
     intro p a5 L1 A s;have j:=(LR N M p).1;have c:∀ {k t},Ty x k t->t≠123->t≠197->t≠161->t≠239->t≠75->¬DTy t->¬NFoot L M k:=fun hk q1 q2 q3 q4 q5 q6=>T.out.apart hk q1 q2 q3 q4 q5 q6;have X:Blk A w.heap.size [.pointer (some ⟨L1.nb,0,none⟩)] 41:=by
      rw[s.same.nb];exact HA.out.fr s.fr (c HA.out.ty (by decide) (by decide) (by decide) (by decide) (by decide) (by unfold DTy;decide))
     have Y:=HB.out.fr s.fr (c HB.out.ty (by decide) (by decide) (by decide) (by decide) (by decide) (by unfold DTy;decide));have a0:=HC.out.fr s.fr (c HC.out.ty (by decide) (by decide) (by decide) (by decide) (by decide) (by unfold DTy;decide));refine(MD L1 (N.next M p).2.2.1 (N.next M p).2.2.2 key a w.heap.size b2 b3 (N.next M p).2.1 A s.CZ X Y a0 (by rw[j];exact C.out.keys) (by rw[j];exact S.out) V.out).mono ?_;rintro e w2 ⟨v,rfl,h1,h2,h3⟩;exact⟨v,rfl,h1,h2,fun k hk=>IP s.fr.size (h3 k hk)⟩
    have d:=Z (C.out.mono b.out.size);go_wp2_with fail;refine(VS F B L N M key (putV key a) 71 _ x T.out (HE.out.nil b.out) Q.out Iv (IP R.out (by decide)) d.out.log d.out.keys d.out.hints d.out.given d.out.fact).mono ?_;rintro e w2 ⟨f,g,L2,rfl,hf,hg,c,G⟩;have K:=Z c;have HF:=Z (IP b.out.size hf);have HG:=Z (IP b.out.size hg);have HS:=Z ((NStep.nil D.out b.out).trans G);clear hf hg c G
    go_wp2
    go_ret2;exact⟨f,g,L2,by rw[i.out];rfl,HF.out,HG.out,K.out,by rw[i.out];exact HS.out⟩
def Y2(l:List Ver)(v:Ver):List Ver:=if v.gone=true then zx l v else YR (zx l v) v
def NM.accept(N:NM)(M:DM)(key:ByteArray)(v:Ver)(f:Nat):Int × NM × DM :=
 if zp key=false then(2,N,M) else
 if 128<v.value.size then(3,N,M) else
 if foreign N.self v=false then(5,N,M) else
 if N.readOnly=true then(8,N,M) else
 if (zj N.S.keys key).any v.BF=true then(0,N,M) else
 if v.gone=false/\4<=(zx (zj N.S.keys key) v).length then(6,N,M) else
 if v.gone=true/\(zx (zj N.S.keys key) v).length=(zj N.S.keys key).length then(0,N,M) else
 N.asked M (.inr (.inl (key,Y2 (zj N.S.keys key) v))) f
theorem WE{self:Nat}{v:Ver}(h:foreign self v=true):zS v.node:=by
 unfold foreign at h;simp only[Gr] at h;have:=h.2.2.1.1;unfold zA at this
 simpa [zS] using this
theorem WQ(l:List Ver)(v:Ver):(zx l v).length<=l.length:=List.length_filter_le ..
theorem Ro{l:List Ver}(h:Yl l)(v:Ver):Yl (zx l v):=by
 unfold Yl Asc zx at *;exact h.sublist (List.filter_sublist.map _)
theorem TF(B:Nat)(L:NL)(N:NM)(M:DM)(key:ByteArray)(l:List Ver)(d w:World)(h:NRep d L N M)(x:Ym B L M d)(t:Fr Nil d w)(m:Value)(j:VRow w m l)(i:∀ k,m.ownBlock=some k->d.heap.size<=k)
 (g:Fit N M d.heap.size (.inr (.inl (key,l)))) :
 ∀ b o,Fr Nil w o->Calls Tryz.prog 80 #[.pointer (some ⟨L.nb,0,none⟩),.string b,.iface 193 (.agg #[.string key,m])] o fun e r =>
  ∃ f v q,e=.returned v/\d.heap.size<=f/\ERep r v (N.change M (.inr (.inl (key,l))) f).1/\NStep L M d q (N.change M (.inr (.inl (key,l))) f).2.1 (N.change M (.inr (.inl (key,l))) f).2.2 r:=by
 intro b o s;have c:=t.trans s;have a:=g.mono c.size;refine(V0 B L M d L N M b (.inr (.inl (key,l))) _ o (NStep.nil h c) (x.nil c).env ⟨m,rfl,VRow.fr j s (fun _ _=>id)⟩ a.ok (fun k u=>?_) a.log a.keys a.hints a.writes).mono ?_
 .obtain⟨v,hv',e⟩:=u
  simp at hv';rcases hv' with rfl|rfl
  .exact absurd e (by simp[Value.ownBlock])
  .exact .inr (i k e)
 .rintro e r ⟨f,v,q,rfl,hf,hE,hst⟩
  exact⟨f,v,q,rfl,IP c.size hf,hE,hst⟩
theorem Pn(b8:zz)(B:Nat)(L:NL)(N:NM)(M:DM)(key:ByteArray)(v:Ver)(w:World)(h:NRep w L N M)(he:Ym B L M w)(a7:∀ u∈zj N.S.keys key,zS u.node)(b7:Yl (zj N.S.keys key))
 (hk:N.S.keys.length<1099511627776)(c0:(zj N.S.keys key).length<1000000)(b9:zp key=true->v.value.size<=128->foreign N.self v=true->N.readOnly=false->(v.gone=false->(zx (zj N.S.keys key) v).length<4)->Fit N M w.heap.size (.inr (.inl (key,Y2 (zj N.S.keys key) v)))) :
 Calls Tryz.prog 91 #[.pointer (some ⟨L.nb,0,none⟩),.string key,.agg v.cells.toArray] w fun e w'=>∃ f L',e=.returned (.int .i64 (N.accept M key v f).1)/\w.heap.size<=f/\NStep L M w L' (N.accept M key v f).2.1 (N.accept M key v f).2.2 w':=by
 have hA:=Blk.new w v.cells 37;have f0:Fr Nil w (w.alloc (.cells v.cells.toArray 37)):=(O _ _).alloc _;have HH:=Z h;have HE:=Z he;have HT:=Z b9;have f7:=Z a7;have e9:=Z b7;have Y:=Z c0;clear h he b9 a7 b7 c0;have f3:Hid (foreign N.self v=true->zS v.node):=fun h=>WE h;have b6:=Z (WQ (zj N.S.keys key) v);have d5:=Z (Ro e9.out v);generalize hb:w.heap.size=b at hA;have b1:=Z hb;generalize e8:w.alloc (.cells v.cells.toArray 37)=K at hA f0;have d6:=Z e8;have HA:=Z hA;have t:=Z f0;have HR:=Z (HH.out.nil f0);have f9:K.cell? ⟨L.nb,7,none⟩=some (.bool N.readOnly):=HR.out.CY.cell 7;have f8:K.cell? ⟨L.nb,2,none⟩=some (.pointer (some ⟨L.sb,0,none⟩)):=HR.out.CY.cell 2;have HI:=Z (TD L N M v K HR.out);have HV:=Z (fun j (f:Fr Nil K j)=>XJ key L.sb L.LS N.S j (HR.out.held.nil f) hk);have b2:=Z (fun j (f:Fr Nil K j)=>(HR.out.held.nil f).getE key);generalize getE L.LS.BR key=gv at HV b2;have HL:=Z (fun j (f:Fr Nil K j)=>Mv gv (zj N.S.keys key) v f7.out Y.out j (b2.out j f));have d2:=Z (fun(hn:zS v.node) j (f:Fr Nil K j)=>OV gv (zj N.S.keys key) v hn j (b2.out j f));have f4:Hid (∃ a c,gv=.slice a (zj N.S.keys key).length c):=zc (b2.out K (O _ _));have HK:=Z (XN key K);clear hA f0 hb e8;obtain⟨node,g,m,o,q,r,d,gone⟩:=v;simp only[Ver.cells] at HA d6 HI HL d2 |-;have d4:Hid (∀ j,Blk j b [.int .i64 node,.int .i64 g,.int .i64 m,.int .i64 o,.int .i64 q,.int .i64 r,.string d,.bool gone] 37->Blk (j.setCell ⟨b,6,none⟩ (.string d)) b [.int .i64 node,.int .i64 g,.int .i64 m,.int .i64 o,.int .i64 q,.int .i64 r,.string d,.bool gone] 37):=fun j h=>h.set 6 (.string d);go_enter Tryz.func91,Tryz.ntmps91;go_wp2_with fail;rw[d6.out,b1.out];cases hb0:zp key with
 | false =>
  rw[hb0] at HK;have y:N.accept M key ⟨node,g,m,o,q,r,d,gone⟩ b=(2,N,M):=by unfold NM.accept;rw[He hb0]
  have i:=Z y;clear hb0 y;refine HK.out.mono ?_;rintro e j ⟨rfl,g5⟩;subst j
  go_wp2
  go_ret;exact⟨b,L,by rw[i.out];rfl,IQ _,by rw[i.out];exact NStep.nil HH.out t.out⟩
 | true =>
 rw[hb0] at HK;have z:=Z hb0;clear hb0;refine HK.out.mono ?_;rintro e j ⟨rfl,g5⟩;subst j;have g1:K.cell? ⟨b,6,none⟩=some (.string d):=HA.out.cell 6;have g0:=HA.out.cell;by_cases hv:128<d.size
 .have y:N.accept M key ⟨node,g,m,o,q,r,d,gone⟩ b=(3,N,M):=by unfold NM.accept;rw[IV (by rw[z.out];decide),He hv]
  have i:=Z y;have g4:(128:Int)<(d.size:Int):=by omega
  clear y
  go_wp2
  go_ret;exact⟨b,L,by rw[i.out];rfl,IQ _,by rw[i.out];exact NStep.nil HH.out t.out⟩
 have g4:¬(128:Int)<(d.size:Int):=by omega
 cases hfo:foreign N.self ⟨node,g,m,o,q,r,d,gone⟩ with
 | false =>
  rw[hfo] at HI;have y:N.accept M key ⟨node,g,m,o,q,r,d,gone⟩ b=(5,N,M):=by unfold NM.accept;rw[IV (by rw[z.out];decide),IV hv,He hfo]
  have i:=Z y;clear y hfo
  go_wp2_with (refine HI.out.mono ?_;rintro e j ⟨rfl,C⟩;have R:=Z C;clear C)
  go_ret;exact⟨b,L,by rw[i.out];rfl,IQ _,by rw[i.out];exact NStep.nil HH.out (t.out.trans R.out)⟩
 | true =>
 rw[hfo] at HI;have X:=Z hfo;have a3:=Z hv;clear hfo hv;go_wp2_with fail;refine HI.out.mono ?_;rintro e j ⟨rfl,C⟩;have d9:=(HA.out.fr C id).cell;have a4:j.cell? ⟨L.nb,7,none⟩=some (.bool N.readOnly):=(HR.out.nil C).CY.cell 7;have d8:j.cell? ⟨L.nb,2,none⟩=some (.pointer (some ⟨L.sb,0,none⟩)):=(HR.out.nil C).CY.cell 2;have R:=Z C;clear C g0 g1 f9 f8;cases hr:N.readOnly with
 | true =>
  rw[hr] at a4;have y:N.accept M key ⟨node,g,m,o,q,r,d,gone⟩ b=(8,N,M):=by unfold NM.accept;rw[IV (by rw[z.out];decide),IV a3.out,IV (by rw[X.out];decide),He hr]
  have i:=Z y;clear hr y
  go_wp2
  go_ret;exact⟨b,L,by rw[i.out];rfl,IQ _,by rw[i.out];exact NStep.nil HH.out (t.out.trans R.out)⟩
 | false =>
 rw[hr] at a4;have c7:=Z hr;clear hr;go_wp2_with fail;refine(HV.out j R.out).mono ?_;rintro e w2 ⟨rfl,e3⟩;have T:Hid (Fr Nil K w2):=R.out.trans e3;have e0:=(HA.out.fr T.out id).cell;clear e3 d9 a4 d8;go_wp2_with fail;refine(HL.out w2 T.out).mono ?_;rintro e w3 ⟨hv,rfl,b0,e4,a8⟩;have c4:Hid (Fr Nil K w3):=T.out.trans e4;have e1:=(HA.out.fr c4.out id).cell;have a1:=Z b0;have d3:Hid (∀ k,hv.ownBlock=some k->w.heap.size<=k):=fun k hk=>IP (IP t.out.size T.out.size) (a8 k hk);have f6:Hid (∀ k,hv.ownBlock=some k->k≠b):=fun k hk e=>by have:=a8 k hk;have:=T.out.size;have:=HA.out.lt;omega
 obtain⟨la,lc,e6⟩:=zc b0;clear e4 e0 b0 a8;generalize hL:(zx (zj N.S.keys key) ⟨node,g,m,o,q,r,d,gone⟩)=l at a1 b6 d5 e6;have g3:l.length<1000000:=by have:=b6.out;have:=Y.out;omega
 have g9:(zj N.S.keys key).length<1000000:=Y.out;have a0:=Z hL;subst e6;clear hL;go_wp2_with fail;refine(d2.out (f3.out X.out) w3 c4.out).mono ?_;rintro e w4 ⟨rfl,d0⟩;have D:Hid (Fr Nil K w4):=c4.out.trans d0;have e2:=(HA.out.fr D.out id).cell;have a2:=Z (VRow.fr a1.out d0 (fun _ _=>id));clear d0 e1 a1;have c1:∀ f,N.accept M key ⟨node,g,m,o,q,r,d,gone⟩ f=if (zj N.S.keys key).any (Ver.BF ⟨node,g,m,o,q,r,d,gone⟩)=true then(0,N,M) else
  if gone=false/\4<=l.length then(6,N,M) else if gone=true/\l.length=(zj N.S.keys key).length then(0,N,M) else
  N.asked M (.inr (.inl (key,Y2 (zj N.S.keys key) ⟨node,g,m,o,q,r,d,gone⟩))) f:=by
  intro f;unfold NM.accept;rw[IV (by rw[z.out];decide),IV a3.out,IV (by rw[X.out];decide),IV (by rw[c7.out];decide),a0.out]
 have A:=Z c1;clear c1;cases hkn:(zj N.S.keys key).any (Ver.BF ⟨node,g,m,o,q,r,d,gone⟩) with
 | true =>
  have y:N.accept M key ⟨node,g,m,o,q,r,d,gone⟩ b=(0,N,M):=by rw[A.out,He hkn]
  have i:=Z y;clear y hkn
  go_wp2
  go_ret;exact⟨b,L,by rw[i.out];rfl,IQ _,by rw[i.out];exact NStep.nil HH.out (t.out.trans D.out)⟩
 | false =>
 have J:=Z hkn;clear hkn;obtain⟨ga,gc,g2⟩:=f4.out;subst g2;cases gone with
 | false =>
  by_cases hm:4<=l.length
  .have y:N.accept M key ⟨node,g,m,o,q,r,d,false⟩ b=(6,N,M):=by rw[A.out,IV (by rw[J.out];decide),He ⟨rfl,hm⟩]
   have i:=Z y;have b5:(4:Int)<=(l.length:Int):=by omega
   clear y
   go_wp2
   go_ret;exact⟨b,L,by rw[i.out];rfl,IQ _,by rw[i.out];exact NStep.nil HH.out (t.out.trans D.out)⟩
  .have b5:¬(4:Int)<=(l.length:Int):=by omega
   have V:Hid (Fit N M w.heap.size (.inr (.inl (key,Y2 (zj N.S.keys key) ⟨node,g,m,o,q,r,d,false⟩)))):=HT.out z.out (by have:=a3.out;omega) X.out c7.out (fun hg=>by first|(cases hg;done)|(rw[a0.out];omega));have i:Hid (∀ f,N.accept M key ⟨node,g,m,o,q,r,d,false⟩ f=N.asked M (.inr (.inl (key,Y2 (zj N.S.keys key) ⟨node,g,m,o,q,r,d,false⟩))) f):=by
    intro f;rw[A.out,IV (by rw[J.out];decide),IV (by exact fun x=>hm x.2),IV (by exact fun x=>absurd x.1 (by decide))]
   have a5:key.size<=1000000000:=by have:=z.out;unfold zp at this;simp only[Ha] at this;omega
   have c2:=Z (fun wx=>ZJ key wx a5);have f5:=Z hm;clear a5 hm b5;have e7:d.size<=1000000000:=by have:=a3.out;omega
   have f2:=Z (ZJ d w4 e7);have h0:¬(4:Int)<=(l.length:Int):=by have:=f5.out;omega
   clear e7;go_wp2_with fail;refine f2.out.mono ?_;rintro e w5 ⟨rfl,b4⟩;have b3:=HA.out.fr (D.out.trans b4) id;have f1:=Z (d4.out w5 b3);have g8:=f1.out.cell;have g6:=b3.frozen;have g7:=b3.cell;have c8:Hid (VRow (w5.setCell ⟨b,6,none⟩ (.string d)) (.slice la l.length lc) l):=VRow.fr (VRow.fr a2.out b4 (fun _ _=>id)) (S:=fun k=>k=b) (Fr.set (S:=fun k=>k=b) (p:=⟨b,6,none⟩) (O _ _) (fun _=>rfl) _) (fun k hk e=>f6.out k hk e);have d1:Hid (Fr Nil w (w5.setCell ⟨b,6,none⟩ (.string d))):=(t.out.trans (D.out.trans b4)).set (p:=⟨b,6,none⟩) (fun h=>absurd h (by simp only[b1.out];omega)) _;clear b4 b3 e2;go_wp2_with fail;have d7:=Z (Mz (.slice la l.length lc) l ⟨node,g,m,o,q,r,d,false⟩ d5.out g3 _ c8.out);simp only[Ver.cells] at d7;refine d7.out.mono ?_;rintro e w6 ⟨v6,rfl,I,e5,a9⟩;have c5:=Z (d1.out.trans e5);have F:Hid (VRow w6 v6 (Y2 (zj N.S.keys key) ⟨node,g,m,o,q,r,d,false⟩)):=by unfold Y2;rw[IV (by simp),a0.out];exact I
   have E:Hid (∀ k,v6.ownBlock=some k->w.heap.size<=k):=fun k hk=>IP d1.out.size (a9 k hk);obtain⟨a6,c6,rfl⟩:=zc I;clear I e5 a9;go_wp2_with fail;refine(c2.out _).mono ?_;rintro e w7 ⟨rfl,G⟩;have Q:=Z (TF B L N M key _ w w7 HH.out HE.out (c5.out.trans G) _ (VRow.fr F.out G (fun _ _=>id)) E.out V.out);clear G;go_wp2_with fail;refine(Q.out _ _ (by exact za)).mono ?_;rintro e w8 ⟨f,v1,L1,rfl,hf,hE,s⟩;have HS:=Z s;have c3:=Z hE;have HF:=Z hf;clear hE s hf;go_wp2_with fail;rw[<- HS.out.same.nb];refine(Y8 b8 B L1 _ _ _ _ w8 HS.out.CZ (HE.out.step HS.out) c3.out).mono ?_;rintro e w9 ⟨L2,rfl,s⟩;have c9:=Z (HS.out.trans s);clear s
   go_wp2
   go_ret;refine⟨f,L2,?_,by rw[<- b1.out];exact HF.out,?_⟩
   .rw[i.out];rfl
   .rw[i.out];exact c9.out
 | true =>
  by_cases hm:l.length=(zj N.S.keys key).length
  .have y:N.accept M key ⟨node,g,m,o,q,r,d,true⟩ b=(0,N,M):=by rw[A.out,IV (by rw[J.out];decide),IV (fun x=>absurd x.1 (by decide)),He ⟨rfl,hm⟩]
   have i:=Z y;have b5:((l.length:Int)==((zj N.S.keys key).length:Int))=true:=by simp[hm]
   clear y hm
   go_wp2
   go_ret;exact⟨b,L,by rw[i.out];rfl,IQ _,by rw[i.out];exact NStep.nil HH.out (t.out.trans D.out)⟩
  .have b5:((l.length:Int)==((zj N.S.keys key).length:Int))=false:=by simp;omega
   have V:Hid (Fit N M w.heap.size (.inr (.inl (key,Y2 (zj N.S.keys key) ⟨node,g,m,o,q,r,d,true⟩)))):=HT.out z.out (by have:=a3.out;omega) X.out c7.out (fun hg=>by first|(cases hg;done)|(rw[a0.out];omega));have i:Hid (∀ f,N.accept M key ⟨node,g,m,o,q,r,d,true⟩ f=N.asked M (.inr (.inl (key,Y2 (zj N.S.keys key) ⟨node,g,m,o,q,r,d,true⟩))) f):=by
    intro f;rw[A.out,IV (by rw[J.out];decide),IV (by exact fun x=>absurd x.1 (by decide)),IV (by exact fun x=>hm x.2)]
   have a5:key.size<=1000000000:=by have:=z.out;unfold zp at this;simp only[Ha] at this;omega
   have c2:=Z (fun wx=>ZJ key wx a5);clear a5 hm;have c5:Hid (Fr Nil w w4):=t.out.trans D.out;have F:Hid (VRow w4 (.slice la l.length lc) (Y2 (zj N.S.keys key) ⟨node,g,m,o,q,r,d,true⟩)):=by unfold Y2;rw[He rfl,a0.out];exact a2.out
   have E:=d3;go_wp2_with fail;refine(c2.out _).mono ?_;rintro e w7 ⟨rfl,G⟩;have Q:=Z (TF B L N M key _ w w7 HH.out HE.out (c5.out.trans G) _ (VRow.fr F.out G (fun _ _=>id)) E.out V.out);clear G;go_wp2_with fail;refine(Q.out _ _ (by exact za)).mono ?_;rintro e w8 ⟨f,v1,L1,rfl,hf,hE,s⟩;have HS:=Z s;have c3:=Z hE;have HF:=Z hf;clear hE s hf;go_wp2_with fail;rw[<- HS.out.same.nb];refine(Y8 b8 B L1 _ _ _ _ w8 HS.out.CZ (HE.out.step HS.out) c3.out).mono ?_;rintro e w9 ⟨L2,rfl,s⟩;have c9:=Z (HS.out.trans s);clear s
   go_wp2
   go_ret;refine⟨f,L2,?_,by rw[<- b1.out];exact HF.out,?_⟩
   .rw[i.out];rfl
   .rw[i.out];exact c9.out
end Go.Proofs.YtkhnggkkiefcdaaGreatDoor
namespace Go.Proofs.YtkhnggkkiefcdaaGreatDoor
open Go.RowKit Go.Shelf
set_option maxRecDepth 100000
set_option maxHeartbeats 8000000
attribute [local go_sem] FQ
theorem ME(b:Nat)(a:Option Addr)(n c:Nat)(w:World)(f:w.cell? ⟨b,0,none⟩=some (.slice a n c)) :
 Calls Tryz.prog 134 #[.pointer (some ⟨b,0,none⟩)] w fun e d=>e=.returned (.int .i64 n)/\d=w:=by
 go_enter Tryz.func134,Tryz.ntmps134
 go_wp2
 go_ret;exact⟨rfl,rfl⟩
theorem Po{w:World}{base:Nat}{e:TypeId}{size n:Nat}{v:Value}{c:List Value}(h:w.ownsRow base e size v n c):w.ownsRow 0 e size v n c:=by
 refine⟨h.1,?_⟩;rcases h.2 with d|⟨g,a,b,f,i,r⟩
 .exact .inl d
 .exact .inr ⟨g,a,b,f,Hg _,r⟩
theorem OX(j:Nat)(v:Value)(g:List (ByteArray × Value))(w:World)(I:w.cell? ⟨j,0,none⟩=some v)(a9:j<w.heap.size)(hv:Wf w v g)(G:∀ e∈g,∃ a m c,e.2=.slice a m c)(R:g.length<1000000000) :
 Calls Tryz.prog 143 #[.pointer (some ⟨j,0,none⟩)] w fun e w'=>∃ C,e=.returned C/\w'.ownsRow 0 9 1 C g.length (strs (zu g))/\Fr Nil w w'/\(∀ k,C.ownBlock=some k->w.heap.size<=k):=by
 obtain⟨a0,c0,b3⟩:=zc hv.own;have HL:=Z (ME j a0 g.length c0 w (by rw[I,b3]));refine(Fc (n:=8)).1 ?_;refine DJ Tryz.func143 rfl trivial ?_ rfl;simp only[Tryz.ntmps143,FN,Hq,Gt,Nat.reduceAdd,Nat.reduceSub,Ef,Eg,EK,Eo,Hd,IY];obtain⟨ti,tz,X,Y,a1,a2,b1⟩:=ZH Vr;have HV:=Z hv;have a4:=Z I;clear hv I
 gi_wp2_with (first
  | (refine⟨trivial,?_⟩;gi_at_call 134;refine(Fc.2 HL.out).mono ?_;rintro e w1 ⟨rfl,b8⟩;subst w1)
  | (gi_at_make;refine wpListIn_make_own _ rfl _ _ 91 rfl w.heap.size 9 ti tz 1 Ee X Y a1 .i64 .i64 g.length g.length rfl rfl rfl (by rw[a2];omega) (by unfold maxLen;omega) (IQ _) ?_;intro i s f))
 refine⟨trivial,?_⟩;refine(Fc.2 (MB j _)).mono ?_;rintro e w3 ⟨rfl,rfl⟩;have V:=f.size;have bO:=Cj i 91 (.slice (some ⟨w.heap.size,0,none⟩) 0 g.length);have bM:=Cj (i.alloc (.cells #[.slice (some ⟨w.heap.size,0,none⟩) 0 g.length] 91)) 236 (.pointer (some ⟨j,0,none⟩));rw[Du] at bM;have u:Below w.heap.size w ((i.alloc (.cells #[.slice (some ⟨w.heap.size,0,none⟩) 0 g.length] 91)).alloc (.cells #[.pointer (some ⟨j,0,none⟩)] 236)) :=
  ((Below.grown (CC _ w) f (IQ _) (fun k e=>by cases e)).alloc V _).alloc (by simp;omega) _
 have t:=(s.alloc (.cells #[.slice (some ⟨w.heap.size,0,none⟩) 0 g.length] 91)).alloc (.cells #[.pointer (some ⟨j,0,none⟩)] 236);generalize F:(i.alloc (.cells #[.slice (some ⟨w.heap.size,0,none⟩) 0 g.length] 91)).alloc (.cells #[.pointer (some ⟨j,0,none⟩)] 236)=W0 at u t bM;have b7:W0.heap.size=i.heap.size+2:=by rw[<- F];simp
 have a5:Boxed W0 i.heap.size 91 (.slice (some ⟨w.heap.size,0,none⟩) 0 g.length):=by rw[<- F];exact bO.alloc _
 clear F bO f s
 gi_wp2_with fail
 refine wpIn_rangeFunc_ownF rfl (by decide) (gf:=217) (lb:=#[.pointer (some ⟨i.heap.size+1,0,none⟩)]) rfl trivial (Dr Tryz.func217 (by kernel_rfl) rfl)
  (MC Fence.wide 7 trivial rfl (by decide) (i.heap.size+1) j v g (fun k=>k<w.heap.size\/k=i.heap.size+1) W0 (by omega) (fun k q=>by omega) (by omega) (by omega) (fun k q=>.inl (zC HV.out.own q)) G bM.cell ((u.cell (p:=⟨j,0,none⟩) a9).trans a4.out) (zb HV.out.own (Fr.BW (S:=Nil) u) (fun _ _=>id)))
  KpX.trans (KpX.put (fun k q=>by omega)) (CC _ _) (fun _=>rfl)
  (fun b W=>(∃ C,Boxed W i.heap.size 91 C/\W.ownsRow w.heap.size 9 1 C b.length (strs (b.map Prod.fst))/\True)/\Below w.heap.size w W/\W0.heap.size<=W.heap.size/\Boxed W (i.heap.size+1) 236 (.pointer (some ⟨j,0,none⟩)))
  (fun _ _ _=>False)
  (DB (CS (holdsRow_own w.heap.size i.heap.size 91 9 1 (fun b:List (ByteArray × Value)=>b.length) (fun b=>strs (b.map Prod.fst)) (fun _ _=>True)) _) (DB (ownFrom_below (by omega) (by omega)) (DB (fun _ A B row hs hg _=>IP hs hg.size) (CS (boxed_own _ _ _) _))))
  (fun _ _ _ _ _ hs _ _=>hs)
  ⟨⟨_,a5,t,trivial⟩,u,IQ _,bM⟩
  (fun x=>{tmps:=#[.pointer (some ⟨j,0,none⟩),undef,.slice none 0 0,.pointer (some ⟨i.heap.size,0,none⟩),.string x.1,.pointer (some ⟨j,0,none⟩),.int .i64 g.length,.slice (some ⟨w.heap.size,0,none⟩) 0 g.length,.pointer (some ⟨j,0,none⟩),.func (.func 217) #[] #[.pointer (some ⟨i.heap.size+1,0,none⟩)],.string x.1,x.2,undef,undef,undef,undef,undef],defers:=[]}) ?assign ?body ?done ?stop
 case assign =>
  intro l x W K Q
  gi_wp2
  exact Q
 case body =>
  rintro l b x W ⟨⟨C,L,d,_⟩,N,T,z⟩ R;have hc:=L.cell;have hf:=L.frozen;have a8:b.length<1000000000:=by omega
  gi_wp2_with (gi_at_builtin;go_must (refine wpListIn_append_own _ rfl _ _ 91 rfl w.heap.size 9 ti tz 1 16 Ee X Y a1 a2 b1 (by decide) _ _ _ rfl (d.alloc _) ⟨W.heap.size,0,none⟩ 1 1 [.string x.1] rfl rfl (CQ _ _ _) (by simp[Value.oneCell']) (by unfold maxLen;omega) (by omega) (by have:=N.size;simp;omega) ?_;intro v1 w1 r o _;obtain⟨g',M,rfl⟩:=ownsRow_succ r;obtain⟨a3,b2,b0,a7,y⟩:=L.appended (by decide) d N.size (by omega) r o;have b4:=o.block (i.heap.size+1) (by simp;omega) (z.not_row (by decide) d);have b5:=a3.cell;have b6:=a3.frozen))
  have E:Boxed (w1.setCell ⟨i.heap.size,0,none⟩ (.slice (some ⟨g',0,none⟩) (b.length+1) M)) (i.heap.size+1) 236 (.pointer (some ⟨j,0,none⟩)):=Boxed.other (show Boxed w1 _ _ _ from b4.trans ((z.alloc _))) (by omega) _;refine⟨a7,⟨fun k q=>?_,y.size⟩,⟨_,b2,by simpa [strs] using b0,trivial⟩,N.trans y,IP T y.size,E⟩;rcases q with q|q
  .exact y.block k q
  .subst q
   exact Eq.trans (show _=_ from E) (Eq.symm (show _=_ from z))
 case done =>
  rintro D ys W hD rfl ⟨⟨C,L,d,_⟩,N,T,z⟩ Q;have hc:=L.cell
  gi_wp2_with fail
  refine⟨by simp,.inl ⟨_,_,rfl,Ck Q,?_⟩⟩;have a6:Below w.heap.size w (W.putObj D (.deferred none)):=N.trans (belowK_b (w:=w) (IQ _) W D _ _ (by omega) Q rfl rfl);have J:=ownsRow_putObj d (.deferred none) Q rfl;refine⟨_,results_tmp rfl _ _ _,_,rfl,Po (base:=w.heap.size) ?_,Fr.BW a6,?_⟩
  .exact J
  .exact(fun k q=>(d.lt k q).1:∀ k,C.ownBlock=some k->w.heap.size<=k)
 case stop =>
  rintro D c b W _ _ h _;exact h.elim
theorem OY(b:Nat)(L:SL)(S:SM)(w:World)(h:SRep w b L S)(g:S.keys.length<1000000000) :
 Calls Tryz.prog 92 #[.pointer (some ⟨b,0,none⟩)] w fun e i=>∃ f,e=.returned f/\i.ownsRow 0 9 1 f S.keys.length (strs (S.keys.map Prod.fst))/\Fr Nil w i/\(∀ k,f.ownBlock=some k->w.heap.size<=k):=by
 have d:L.BR.length=S.keys.length:=h.pair.length;have m:=Z (OX b L.kv L.BR w (h.CY.cell 0) h.CY.lt h.Ah (fun e s=>by obtain⟨l,u⟩:=h.pair.mem e s;obtain⟨a,c,t⟩:=zc u;exact⟨a,_,c,t⟩) (by omega));have j:=Z h.pair.keys;have o:=Z d;clear h d;go_enter Tryz.func92,Tryz.ntmps92
 go_wp2_with (refine m.out.mono ?_;rintro e v ⟨f,rfl,p,q,r⟩)
 go_ret;exact⟨f,rfl,by rw[<- o.out,<- j.out];exact p,q,r⟩
theorem TG(L:NL)(N:NM)(M:DM)(w:World)(h:NRep w L N M)(b:N.S.keys.length<1000000000) :
 Calls Tryz.prog 44 #[.pointer (some ⟨L.nb,0,none⟩)] w fun e d=>∃ c,e=.returned c/\d.ownsRow 0 9 1 c N.S.keys.length (strs (N.S.keys.map Prod.fst))/\Fr Nil w d/\(∀ k,c.ownBlock=some k->w.heap.size<=k):=by
 have l:w.cell? ⟨L.nb,2,none⟩=some (.pointer (some ⟨L.sb,0,none⟩)):=h.CY.cell 2;have f:=Z (OY L.sb L.LS N.S w h.held b);clear h;go_enter Tryz.func44,Tryz.ntmps44
 go_wp2_with (refine f.out.mono ?_;rintro e m ⟨c,rfl,g,i,j⟩)
 go_ret;exact⟨c,rfl,g,i,j⟩
end Go.Proofs.YtkhnggkkiefcdaaGreatDoor
namespace Go.Proofs.YtkhnggkkiefcdaaGreatDoor
open Go.RowKit
set_option maxRecDepth 100000
set_option maxHeartbeats 8000000
theorem Pp{K:Keys}{key:ByteArray}(i:Nat)(d:i<K.length)(b:∀ j (a:j<K.length),j<i->(K[j].1==key)=false)(c:(K[i].1==key)=true):zE K key=K[i].2:=by
 unfold zE;have:K.find? (fun e=>e.1==key)=some K[i]:=by
  rw[Ep];exact⟨c,i,d,rfl,fun j a=>by simp[b j (by omega) a]⟩
 rw[this]
theorem J9{K:Keys}{key:ByteArray}(b:∀ j (a:j<K.length),(K[j].1==key)=false):zE K key=[]:=by
 unfold zE;have:K.find? (fun e=>e.1==key)=none:=by
  rw[FH];intro x c;obtain⟨j,a,rfl⟩:=GF c;simp[b j a]
 rw[this]
theorem Pair.key{R:Value->List Ver->Prop}{d:List (ByteArray × Value)}{c:Keys}(h:Pair R d c)(i:Nat)(g:i<d.length)(o:i<c.length):d[i].1=c[i].1:=by
 have:=h.keys;have e:(d.map Prod.fst)[i]'(by simpa using g)=d[i].1:=Gf ..;have f:(c.map Prod.fst)[i]'(by simpa using o)=c[i].1:=Gf ..;rw[<- e,<- f]
 congr 1
theorem Yi(p:Nat)(J r:Value)(b:List (ByteArray × Value))(m:LM)(key:ByteArray)(w:World)(h:MAt w p J r b m) :
 Calls Tryz.prog 117 #[.pointer (some ⟨p,0,none⟩),.string key] w fun e L=>∃ v,e=.returned v/\VRow w v (zE m.keys key)/\(∀ k,v.ownBlock=some k->MBlk p J r b k)/\L=w:=by
 have D:b.length=m.keys.length:=h.pair.length;have T:=zH h.Ah;unfold maxLen at T;have N:w.cell? ⟨p,1,none⟩=some J:=h.CY.cell 1;obtain⟨a,cap,rfl⟩:=zc h.Ah;have z:=Z h;have A:=Z D;clear h D;go_enter Tryz.func117,Tryz.ntmps117;go_wp2_with fail
 go_loopw [5] (fun t L=>∃ i:Nat,i<=b.length/\t=.int .i64 i/\(∀ j (q:j<m.keys.length),j<i->(m.keys[j].1==key)=false)/\L=w) (fun t _=>b.length-(intOf t).toNat)
 case atStart=>exact⟨0,Hg _,rfl,fun j _ q=>absurd q (Gb _),rfl⟩
 case round =>
  obtain⟨i,X,rfl,q,V⟩:=hrel;subst V;by_cases o:i<b.length
  .obtain⟨g,cap',hg,_,_⟩:=zm z.out.Ah (by omega)
   obtain⟨rfl,rfl⟩:a=some ⟨g,0,none⟩/\cap=cap':=by simpa using hg
   have y:i<m.keys.length:=by have:=A.out;omega
   have G:=own_cell? z.out.Ah (i*2) _ (Z3 b i o).1;have B:=own_cell? z.out.Ah (i*2+1) _ (Z3 b i o).2;have l:b[i].1=m.keys[i].1:=z.out.pair.key i o y;have d:VRow wr b[i].2 m.keys[i].2:=z.out.pair.get i o y;have f:∀ k,b[i].2.ownBlock=some k->MBlk p (.slice (some ⟨g,0,none⟩) b.length cap) r b k:=fun k e=>.inr (.inr (.inr ⟨b[i],IX o,e⟩));rw[l] at G;obtain⟨Y,rc,c⟩:=zc d;have E:=Ec m.keys[i].1 key;cases hm:(m.keys[i].1==key) with
   | true =>
    have I:(m.keys[i].1.toList==key.toList)=true:=by rw[<- E];exact hm
    have r:=Pp i y q hm;have F:=Z r;have u:=Z d;have s:=Z f;rw[c] at B u s;clear E hm q r d f l c hg
    go_wp2
    go_ret;exact⟨_,rfl,by rw[F.out];exact u.out,s.out,rfl⟩
   | false =>
    have I:(m.keys[i].1.toList==key.toList)=false:=by rw[<- E];exact hm
    have C:∀ j (q:j<m.keys.length),j<i+1->(m.keys[j].1==key)=false:=by
     intro j x Q;by_cases e:j=i
     .subst e;exact hm
     .exact q j x (by omega)
    have M:=Z C;clear E hm q C d f l c hg B
    go_wp2
    exact⟨⟨i+1,by omega,by go_num,M.out,by first|rfl|trivial⟩,by simp[intOf];omega⟩
  .have r:=J9 (K:=m.keys) (key:=key) (fun j x=>q j x (by have:=A.out;omega))
   have F:=Z r;clear q r
   go_wp2
   go_ret;exact⟨_,rfl,by rw[F.out];exact Hc _ 0 _ _,fun k R=>by simp[Value.ownBlock] at R,rfl⟩
theorem JU:((Tryz.prog.info? 186).map fun i=>(i.zero.map (·.cells.size),i.size,i.bytes))=some (some 2,2,40):=by kernel_rfl
theorem Wv(w:World)(v:Value)(n:Nat)(q:List Value)(h:w.ownsRow 0 186 2 v n q)(key:ByteArray)(a:Option Addr)(l c:Nat)(z:n<1000000000)(m:World)(o:Fr Nil w m)(N:Nat)(t:Blk m N [.string key,.slice a l c] 186)(ty:TypeId) :
 ∃ d f,(Builtin.append_ #[105,105] ty #[v,.slice (some ⟨N,0,none⟩) 1 1]).run Tryz.prog m=.ok d f /\
  (f.ownsRow 0 186 2 d (n+1) (q++[.string key,.slice a l c])/\Fr (fun k=>v.ownBlock=some k) w f/\(∀ k,d.ownBlock=some k->v.ownBlock=some k\/w.heap.size<=k)):=by
 have x:=zb h o (fun _ _=>id);obtain⟨d,f,y,r,s,b⟩:=zt (P:=Tryz.prog) 105 ty 186 2 40 Tryz.underlying105 JU (by omega) v n q x ⟨N,0,none⟩ 1 1 [.string key,.slice a l c] rfl
  (fun j u g=>by rw[Gh,Gg,t.cell];exact g) (by intro u g;simp at g;rcases g with rfl|rfl <;> rfl) (by unfold maxLen;omega) (by omega)
 refine⟨d,f,y,r,(o.mono (fun _ _ e=>absurd e id)).trans' ((Fr.Bv s).mono (fun i _ h=>h)) (fun i _ h=>h),fun k p=>?_⟩;rcases b with b|b
 .exact .inl (by rw[<- b];exact p)
 .rw[b] at p;simp at p;have:=o.size;exact .inr (by omega)
structure Ys(w w':World)(nb:Nat)(hv:Value)(node:Int)(K:Keys)(P:Nat->Prop):Prop where
 ex:∃ kv BR,Blk w' nb [.int .i64 node,kv,hv] 107/\w'.ownsRow 0 186 2 kv BR.length (Z1 BR)/\Pair (VRow w') BR K/\(∀ k,kv.ownBlock=some k->w.heap.size<=k)/\(∀ e∈BR,∀ k,e.2.ownBlock=some k->P k)
 fr:Fr Nil w w'
 le:w.heap.size<=nb
theorem MF(l:List (ByteArray × Value))(k:ByteArray)(x:Value):Z1 (l++[(k,x)])=Z1 l++[.string k,x]:=by rw[Zq];rfl
theorem Ys.app{w wr w4:World}{g:Nat}{o:Value}{node:Int}{K:Keys}{P:Nat->Prop}(F:Fr Nil w wr)(A:w.heap.size<=g){r d:Value}{c:List (ByteArray × Value)}
 (y:Blk wr g [.int .i64 node,r,o] 107)(G:wr.ownsRow 0 186 2 r c.length (Z1 c))(N:Pair (VRow wr) c K)(j:∀ k,r.ownBlock=some k->w.heap.size<=k)(J:∀ e∈c,∀ k,e.2.ownBlock=some k->P k)
 {key:ByteArray}{x:Value}{I:List Ver}(E:w4.ownsRow 0 186 2 d (c.length+1) (Z1 c++[.string key,x]))(t:Fr (fun b=>r.ownBlock=some b) wr w4)(M:∀ b,d.ownBlock=some b->r.ownBlock=some b\/wr.heap.size<=b)
 (Q:VRow wr x I)(C:∀ b,x.ownBlock=some b->P b):Ys w (w4.setCell ⟨g,1,none⟩ d) g o node (K++[(key,I)]) P:=by
 have B:r.ownBlock≠some g:=zd G y (by decide);have s:Blk w4 g _ _:=y.fr t B;have u:Fr (fun k=>k=g) w4 (w4.setCell ⟨g,1,none⟩ d):=Fr.set (S:=fun k=>k=g) (p:=⟨g,1,none⟩) (O _ _) (fun _=>rfl) _;have l:∀ v (D:List Ver),VRow wr v D->VRow (w4.setCell ⟨g,1,none⟩ d) v D:=fun v D o=>VRow.fr (VRow.fr o t (fun k j e=>Zc o G (by decide) j e)) u (fun k j e=>by subst e;exact zd o y (by decide) j);refine⟨⟨d,c++[(key,x)],s.set 1 d,?_,?_,?_,?_⟩,?_,A⟩
 .rw[MF,IM,IU]
  exact zb E u (fun k j e=>by subst e;exact zd E s (by decide) j)
 .exact Pair.append (N.mono fun a _ R z=>l _ _ z) ⟨rfl,l _ _ Q,trivial⟩
 .intro k hk'
  exact(M k hk').elim (j k) (fun h=>IP F.size h)
 .intro e f k hk'
  rcases Hh.1 f with f|f
  .exact J e f k hk'
  .simp at f;subst f;exact C k hk'
 .exact((F.trans' t (fun i L e=>by have:=j i e;omega)).trans' u (fun i L e=>by omega))
theorem OZ(p:Nat)(kv hv:Value)(j:List (ByteArray × Value))(m:LM)(key:ByteArray)(lv:Value)(l:List Ver)(w:World)(h:MAt w p kv hv j m)(hl:VRow w lv l)(g3:j.length<100000000) :
 Calls Tryz.prog 157 #[.pointer (some ⟨p,0,none⟩),.string key,lv] w fun e w' =>
  ∃ nb,e=.returned (.pointer (some ⟨nb,0,none⟩))/\Ys w w' nb hv m.node (zX m.keys key l) (fun k=>MBlk p kv hv j k\/lv.ownBlock=some k):=by
 obtain⟨la,lc,g1⟩:=zc hl;obtain⟨ka,kc,V⟩:=zc h.Ah;obtain⟨ha,hc,f5⟩:=zc h.hint;have f3:=h.CY.cell;rw[V,f5] at f3;have HH:=Z h;have HL:=Z hl;have f6:j.length=m.keys.length:=h.pair.length;have e7:=Z f6;subst g1;have hb:=Blk.new w [.int .i64 m.node,.slice none 0 0,.slice ha m.hints.length hc] 107;have f0:Fr Nil w (w.alloc (.cells #[.int .i64 m.node,.slice none 0 0,.slice ha m.hints.length hc] 107)).drew:=((O _ _).alloc _).drew;have HW:Hid (Ys w (w.alloc (.cells #[.int .i64 m.node,.slice none 0 0,.slice ha m.hints.length hc] 107)).drew w.heap.size hv m.node [] (fun k=>MBlk p kv hv j k\/(Value.slice la l.length lc).ownBlock=some k)) :=
  ⟨⟨.slice none 0 0,[],by rw[f5];exact hb.drew,Hc _ 0 _ _,trivial,fun k hk=>by simp[Value.ownBlock] at hk,fun e he=>by cases he⟩,f0,IQ _⟩
 have b5:=Z (fun wx (f:Fr Nil w wx)=>(HH.out.nil f).CY.cell 1);have f4:((l.length:Int)==0)=l.isEmpty:=by cases l with|nil=>rfl|cons a t=>simp;omega
 have e6:=Z f4;go_enter Tryz.func157,Tryz.ntmps157;go_wp2_with fail;clear h hl f6
 go_region
 have f9:=Z f0;generalize (w.alloc (.cells #[.int .i64 m.node,.slice none 0 0,.slice ha m.hints.length hc] 107)).drew=wb at HW f9 |-;generalize f7:w.heap.size=nb at HW |-;have e2:=Z f7;clear hb f0 f7 f3;go_wp2_with fail
 go_loopw [8,9] (fun t8 t9 w'=>∃ i:Nat,i<=j.length/\t9=.int .i64 i/\t8=.bool ((m.keys.take i).foldl (zw key l) ([],l.isEmpty)).2/\Ys w w' nb hv m.node ((m.keys.take i).foldl (zw key l) ([],l.isEmpty)).1 (fun k=>MBlk p kv hv j k\/(Value.slice la l.length lc).ownBlock=some k)/\((m.keys.take i).foldl (zw key l) ([],l.isEmpty)).1.length<=2*i) (fun _ t9 _=>j.length-(intOf t9).toNat)
 case atStart=>exact⟨0,Hg _,rfl,by first|rfl|(rw[<- e6.out];rfl),HW.out,by simp⟩
 case round =>
  obtain⟨i,hi,rfl,rfl,D,d4⟩:=hrel;have c2:=b5.out wr D.fr;rw[V] at c2;simp only[GP,GQ] at c2;by_cases b8:i<j.length
  .obtain⟨g,cap',hg,_,_⟩:=zm HH.out.Ah (by omega)
   have d7:i<m.keys.length:=by have:=e7.out;omega
   have e4:=HH.out.nil D.fr;rw[V] at hg;obtain⟨rfl,rfl⟩:ka=some ⟨g,0,none⟩/\kc=cap':=by simpa using hg
   have b9:=e4.Ah;rw[V] at b9;have d1:=own_cell? b9 (i*2) _ (Z3 j i b8).1;have d2:=own_cell? b9 (i*2+1) _ (Z3 j i b8).2;have d3:j[i].1=m.keys[i].1:=HH.out.pair.key i b8 d7;have c0:VRow wr j[i].2 m.keys[i].2:=e4.pair.get i b8 d7;rw[d3] at d1;obtain⟨ra,rc,b2⟩:=zc c0;rw[b2] at d2 c0;have b6:Hid (∀ k,(Value.slice ra m.keys[i].2.length rc).ownBlock=some k->MBlk p kv hv j k):=by rw[<- b2];exact fun k e=>.inr (.inr (.inr ⟨j[i],IX b8,e⟩))
   have d8:=Z c0;have d:Hid ((m.keys.take (i+1)).foldl (zw key l) ([],l.isEmpty)=zw key l ((m.keys.take i).foldl (zw key l) ([],l.isEmpty)) m.keys[i]):=by
    rw[Hj d7,Gq];rfl
   have g2:p≠nb:=fun e=>by have:=HH.out.CY.lt;have:=e2.out;omega
   have g5:g≠nb:=fun e=>by have:=HH.out.lt g (.inr (.inl (by rw[V];rfl)));have:=e2.out;omega
   have M:∀ wx,Fr Nil w wx->wx.cell? ⟨g,i*2,none⟩=some (.string m.keys[i].1):=fun wx f=>by
    have h1:=(HH.out.nil f).Ah;rw[V] at h1;have h2:=own_cell? h1 (i*2) _ (Z3 j i b8).1;rw[d3] at h2;exact h2
   have N:∀ wx,Fr Nil w wx->wx.cell? ⟨g,i*2+1,none⟩=some (.slice ra m.keys[i].2.length rc):=fun wx f=>by
    have h1:=(HH.out.nil f).Ah;rw[V] at h1;have h2:=own_cell? h1 (i*2+1) _ (Z3 j i b8).2;rw[b2] at h2;exact h2
   have S:∀ wx,Fr Nil w wx->VRow wx (.slice ra m.keys[i].2.length rc) m.keys[i].2:=fun wx f=>by
    have h1:=(HH.out.nil f).pair.get i b8 d7;rw[b2] at h1;exact h1
   have S:=Z S;have M:=Z M;have N:=Z N;clear c0 b2 d3 b9 e4;generalize (m.keys.take i).foldl (zw key l) ([],l.isEmpty)=st at D d4 d |-;generalize m.keys[i]=K at d1 d2 M N S d d8 b6;obtain⟨a0,done⟩:=st;obtain⟨X,Y⟩:=K;simp only at D d4 d1 d2 M N S d8 b6 |-;have b7:=Ec X key;cases done with
   | false =>
    cases hb:zf X key with
    | false =>
     have g0:Op.bytesLess X.toList key.toList=false:=hb;by_cases J:X=key
     .have d6:(X.toList==key.toList)=true:=by rw[J];simp
      have z:Hid (zw key l (a0,false) (X,Y)=(a0++[(key,l)],true)):=Z (by subst J;simp[zw,hb]);clear J hb b7;obtain⟨⟨d5,e1,c,q,x,I,F⟩,G,u⟩:=D;have a9:e1.length<1000000000:=by have:=x.length;omega
      obtain⟨a1,c1,b3⟩:=zc q;subst b3;have c4:=c.cell;have c6:=c.frozen;have a3:Hid (∀ E:World,Fr (fun k=>(Value.slice a1 e1.length c1).ownBlock=some k) wr E->Blk E nb [.int .i64 m.node,.slice a1 e1.length c1,hv] 107):=fun E f=>c.fr f (zd q c (by decide));have Q:=Z c;have B:=Z q;have a8:=Z x;have R:=Z I;have a4:=Z F;have o:=Z G;have A:=Z u;clear c q x I F G u
      go_wp2_with (at_builtin;go_must (refine zk rfl _ _ _ _ rfl _ _ (by rfl) (by rfl) (Wv wr _ _ _ B.out key la l.length lc a9 _ za _ (by exact Blk.new _ [_,_] _) _) ?_;rintro v4 E ⟨v,s,L⟩;obtain⟨c7,c8,b4⟩:=zc v;subst b4;have C:=a3.out _ s;have c3:=C.cell;have c5:=C.frozen;have a7:=Z v;have a6:=Z L;have a5:=Z s;have b0:=o.out.trans' s (fun k hk e=>by have:=R.out k e;omega);have T:=b5.out E b0;rw[V] at T;simp only[GP,GQ] at T;have d9:=M.out E b0;have e0:=N.out E b0;clear v L s b0))
      have r:=Ys.app o.out A.out Q.out B.out a8.out R.out a4.out a7.out a5.out a6.out (VRow.fr HL.out o.out (fun _ _=>id)) (fun b e=>.inr e);have d0:=Z r;clear r;exact⟨⟨i+1,by omega,by go_num,by rw[d.out,z.out],by rw[d.out,z.out];exact d0.out,by rw[d.out,z.out];simp only[IM,IU];omega⟩,by simp[intOf];omega⟩
     .have d6:(X.toList==key.toList)=false:=by rw[<- b7];cases h:(X==key) with|false=>rfl|true=>exact absurd (zT.1 h) J
      have z:Hid (zw key l (a0,false) (X,Y)=(a0++[(key,l)]++[(X,Y)],true)):=Z (by simp[zw,hb,J]);clear J hb b7;obtain⟨⟨d5,e1,c,q,x,I,F⟩,G,u⟩:=D;have a9:e1.length<1000000000:=by have:=x.length;omega
      obtain⟨a1,c1,b3⟩:=zc q;subst b3;have c4:=c.cell;have c6:=c.frozen;have a3:Hid (∀ E:World,Fr (fun k=>(Value.slice a1 e1.length c1).ownBlock=some k) wr E->Blk E nb [.int .i64 m.node,.slice a1 e1.length c1,hv] 107):=fun E f=>c.fr f (zd q c (by decide));have Q:=Z c;have B:=Z q;have a8:=Z x;have R:=Z I;have a4:=Z F;have o:=Z G;have A:=Z u;clear c q x I F G u
      go_wp2_with (at_builtin;go_must (refine zk rfl _ _ _ _ rfl _ _ (by rfl) (by rfl) (Wv wr _ _ _ B.out key la l.length lc a9 _ za _ (by exact Blk.new _ [_,_] _) _) ?_;rintro v4 E ⟨v,s,L⟩;obtain⟨c7,c8,b4⟩:=zc v;subst b4;have C:=a3.out _ s;have c3:=C.cell;have c5:=C.frozen;have a7:=Z v;have a6:=Z L;have a5:=Z s;have b0:=o.out.trans' s (fun k hk e=>by have:=R.out k e;omega);have T:=b5.out E b0;rw[V] at T;simp only[GP,GQ] at T;have d9:=M.out E b0;have e0:=N.out E b0;clear v L s b0))
      have r:=Ys.app o.out A.out Q.out B.out a8.out R.out a4.out a7.out a5.out a6.out (VRow.fr HL.out o.out (fun _ _=>id)) (fun b e=>.inr e);have f8:(a0++[(key,l)]).length<=2*i+1:=by simp;omega
      generalize a0++[(key,l)]=g4 at r f8 z;clear T d9 e0 c4 c6 a3 Q B a8 R a4 o A a7 a6 a5 C c3 c5 a9 c2 d1 d2;generalize E.setCell ⟨nb,1,none⟩ (.slice c7 (e1.length+1) c8)=w5 at r |-;have c2:=b5.out w5 r.fr;rw[V] at c2;simp only[GP,GQ] at c2;have d1:=M.out w5 r.fr;have d2:=N.out w5 r.fr;have D:=r;clear r;obtain⟨⟨d5,e1,c,q,x,I,F⟩,G,u⟩:=D;have a9:e1.length<1000000000:=by have:=x.length;omega
      obtain⟨a1,c1,b3⟩:=zc q;subst b3;have c4:=c.cell;have c6:=c.frozen;have a3:Hid (∀ E:World,Fr (fun k=>(Value.slice a1 e1.length c1).ownBlock=some k) w5 E->Blk E nb [.int .i64 m.node,.slice a1 e1.length c1,hv] 107):=fun E f=>c.fr f (zd q c (by decide));have Q:=Z c;have B:=Z q;have a8:=Z x;have R:=Z I;have a4:=Z F;have o:=Z G;have A:=Z u;clear c q x I F G u;have e8:∀ (y:Obj) k,(w5.alloc y).cell? ⟨nb,k,none⟩=[.int .i64 m.node,.slice a1 e1.length c1,hv][k]?:=fun y k=>(Q.out.alloc y).cell k;have f2:∀ (y:Obj),(w5.alloc y).cell? ⟨p,1,none⟩=some (.slice (some ⟨g,0,none⟩) j.length kc):=fun y=>by have:=b5.out _ (o.out.alloc y);rw[V] at this;exact this
      have e9:∀ (y:Obj),(w5.alloc y).cell? ⟨g,i*2,none⟩=some (.string X):=fun y=>M.out _ (o.out.alloc y);have f1:∀ (y:Obj),(w5.alloc y).cell? ⟨g,i*2+1,none⟩=some (.slice ra Y.length rc):=fun y=>N.out _ (o.out.alloc y);have b1:=Z (S.out _ o.out)
      go_region_law
       ((refine Zf (by rfl) _ _ _ _ (by rfl) _ _ (by rfl) (by rfl) (Wv w5 _ _ _ B.out X ra Y.length rc a9 _ za _ (by first|exact Blk.new _ [_,_] _|exact(Blk.new _ [_,_] _).drew) _) ?_;rintro v4 E ⟨v,s,L⟩;obtain⟨c7,c8,b4⟩:=zc v;subst b4;have C:=a3.out _ s;have c3:=C.cell;have c5:=C.frozen;have a7:=Z v;have a6:=Z L;have a5:=Z s;clear v L s))
      all_goals
       go_wp2
       have r:=Ys.app o.out A.out Q.out B.out a8.out R.out a4.out a7.out a5.out a6.out b1.out (fun b e=>.inl (b6.out b e));exact⟨⟨i+1,by omega,by go_num,by rw[d.out,z.out],by rw[d.out,z.out];exact r,by rw[d.out,z.out];simp only[IM,IU];omega⟩,by simp[intOf];omega⟩
    | true =>
     have g0:Op.bytesLess X.toList key.toList=true:=hb;have J:X≠key:=ZC hb;have d6:(X.toList==key.toList)=false:=by rw[<- b7];cases h:(X==key) with|false=>rfl|true=>exact absurd (zT.1 h) J
     have z:Hid (zw key l (a0,false) (X,Y)=(a0++[(X,Y)],false)):=Z (by simp[zw,hb,J]);clear J hb b7;obtain⟨⟨d5,e1,c,q,x,I,F⟩,G,u⟩:=D;have a9:e1.length<1000000000:=by have:=x.length;omega
     obtain⟨a1,c1,b3⟩:=zc q;subst b3;have c4:=c.cell;have c6:=c.frozen;have a3:Hid (∀ E:World,Fr (fun k=>(Value.slice a1 e1.length c1).ownBlock=some k) wr E->Blk E nb [.int .i64 m.node,.slice a1 e1.length c1,hv] 107):=fun E f=>c.fr f (zd q c (by decide));have Q:=Z c;have B:=Z q;have a8:=Z x;have R:=Z I;have a4:=Z F;have o:=Z G;have A:=Z u;clear c q x I F G u;go_wp2_with fail;have e8:∀ (y:Obj) k,(wr.alloc y).cell? ⟨nb,k,none⟩=[.int .i64 m.node,.slice a1 e1.length c1,hv][k]?:=fun y k=>(Q.out.alloc y).cell k;have f2:∀ (y:Obj),(wr.alloc y).cell? ⟨p,1,none⟩=some (.slice (some ⟨g,0,none⟩) j.length kc):=fun y=>by have:=b5.out _ (o.out.alloc y);rw[V] at this;exact this
     have e9:∀ (y:Obj),(wr.alloc y).cell? ⟨g,i*2,none⟩=some (.string X):=fun y=>M.out _ (o.out.alloc y);have f1:∀ (y:Obj),(wr.alloc y).cell? ⟨g,i*2+1,none⟩=some (.slice ra Y.length rc):=fun y=>N.out _ (o.out.alloc y);have b1:=Z (S.out _ o.out)
     go_region_law
      ((refine Zf (by rfl) _ _ _ _ (by rfl) _ _ (by rfl) (by rfl) (Wv wr _ _ _ B.out X ra Y.length rc a9 _ za _ (by first|exact Blk.new _ [_,_] _|exact(Blk.new _ [_,_] _).drew) _) ?_;rintro v4 E ⟨v,s,L⟩;obtain⟨c7,c8,b4⟩:=zc v;subst b4;have C:=a3.out _ s;have c3:=C.cell;have c5:=C.frozen;have a7:=Z v;have a6:=Z L;have a5:=Z s;clear v L s))
     all_goals
      go_wp2
      have r:=Ys.app o.out A.out Q.out B.out a8.out R.out a4.out a7.out a5.out a6.out b1.out (fun b e=>.inl (b6.out b e));exact⟨⟨i+1,by omega,by go_num,by rw[d.out,z.out],by rw[d.out,z.out];exact r,by rw[d.out,z.out];simp only[IM,IU];omega⟩,by simp[intOf];omega⟩
   | true =>
    by_cases J:X=key
    .have d6:(X.toList==key.toList)=true:=by rw[J];simp
     have z:Hid (zw key l (a0,true) (X,Y)=(a0,true)):=Z (by simp[zw,J]);have e3:=Z D;clear J b7 D
     go_wp2
     exact⟨⟨i+1,by omega,by go_num,by rw[d.out,z.out],by rw[d.out,z.out];exact e3.out,by rw[d.out,z.out];simp only;omega⟩,by simp[intOf];omega⟩
    .have d6:(X.toList==key.toList)=false:=by rw[<- b7];cases h:(X==key) with|false=>rfl|true=>exact absurd (zT.1 h) J
     have z:Hid (zw key l (a0,true) (X,Y)=(a0++[(X,Y)],true)):=Z (by simp[zw,J]);clear J b7;obtain⟨⟨d5,e1,c,q,x,I,F⟩,G,u⟩:=D;have a9:e1.length<1000000000:=by have:=x.length;omega
     obtain⟨a1,c1,b3⟩:=zc q;subst b3;have c4:=c.cell;have c6:=c.frozen;have a3:Hid (∀ E:World,Fr (fun k=>(Value.slice a1 e1.length c1).ownBlock=some k) wr E->Blk E nb [.int .i64 m.node,.slice a1 e1.length c1,hv] 107):=fun E f=>c.fr f (zd q c (by decide));have Q:=Z c;have B:=Z q;have a8:=Z x;have R:=Z I;have a4:=Z F;have o:=Z G;have A:=Z u;clear c q x I F G u;go_wp2_with fail;have e8:∀ (y:Obj) k,(wr.alloc y).cell? ⟨nb,k,none⟩=[.int .i64 m.node,.slice a1 e1.length c1,hv][k]?:=fun y k=>(Q.out.alloc y).cell k;have f2:∀ (y:Obj),(wr.alloc y).cell? ⟨p,1,none⟩=some (.slice (some ⟨g,0,none⟩) j.length kc):=fun y=>by have:=b5.out _ (o.out.alloc y);rw[V] at this;exact this
     have e9:∀ (y:Obj),(wr.alloc y).cell? ⟨g,i*2,none⟩=some (.string X):=fun y=>M.out _ (o.out.alloc y);have f1:∀ (y:Obj),(wr.alloc y).cell? ⟨g,i*2+1,none⟩=some (.slice ra Y.length rc):=fun y=>N.out _ (o.out.alloc y);have b1:=Z (S.out _ o.out)
     go_region_law
      ((refine Zf (by rfl) _ _ _ _ (by rfl) _ _ (by rfl) (by rfl) (Wv wr _ _ _ B.out X ra Y.length rc a9 _ za _ (by first|exact Blk.new _ [_,_] _|exact(Blk.new _ [_,_] _).drew) _) ?_;rintro v4 E ⟨v,s,L⟩;obtain⟨c7,c8,b4⟩:=zc v;subst b4;have C:=a3.out _ s;have c3:=C.cell;have c5:=C.frozen;have a7:=Z v;have a6:=Z L;have a5:=Z s;clear v L s))
     all_goals
      go_wp2
      have r:=Ys.app o.out A.out Q.out B.out a8.out R.out a4.out a7.out a5.out a6.out b1.out (fun b e=>.inl (b6.out b e));exact⟨⟨i+1,by omega,by go_num,by rw[d.out,z.out],by rw[d.out,z.out];exact r,by rw[d.out,z.out];simp only[IM,IU];omega⟩,by simp[intOf];omega⟩
  .obtain rfl:i=j.length:=by omega
   have e5:m.keys.take j.length=m.keys:=by rw[e7.out,HZ]
   rw[e5] at D d4 |-;have a2:zX m.keys key l=(m.keys.foldl (zw key l) ([],l.isEmpty)).1++if (m.keys.foldl (zw key l) ([],l.isEmpty)).2=true then [] else [(key,l)]:=rfl
   generalize m.keys.foldl (zw key l) ([],l.isEmpty)=st at D d4 a2 |-;obtain⟨a0,done⟩:=st;simp only at D d4 a2 |-;cases done with
   | true =>
    have e3:=Z D;simp only[Gi,Hx] at a2;have c9:=Z a2;clear D a2 e5
    go_wp2
    go_ret;exact⟨nb,rfl,by rw[c9.out];exact e3.out⟩
   | false =>
    simp only[Gl,Gj] at a2;have c9:=Z a2;have g2:p≠nb:=fun e=>by have:=HH.out.CY.lt;have:=e2.out;omega
    clear a2 e5;obtain⟨⟨d5,e1,c,q,x,I,F⟩,G,u⟩:=D;have a9:e1.length<1000000000:=by have:=x.length;omega
    obtain⟨a1,c1,b3⟩:=zc q;subst b3;have c4:=c.cell;have c6:=c.frozen;have a3:Hid (∀ E:World,Fr (fun k=>(Value.slice a1 e1.length c1).ownBlock=some k) wr E->Blk E nb [.int .i64 m.node,.slice a1 e1.length c1,hv] 107):=fun E f=>c.fr f (zd q c (by decide));have Q:=Z c;have B:=Z q;have a8:=Z x;have R:=Z I;have a4:=Z F;have o:=Z G;have A:=Z u;clear c q x I F G u
    go_wp2_with (at_builtin;go_must (refine zk rfl _ _ _ _ rfl _ _ (by rfl) (by rfl) (Wv wr _ _ _ B.out key la l.length lc a9 _ za _ (by exact Blk.new _ [_,_] _) _) ?_;rintro v4 E ⟨v,s,L⟩;obtain⟨c7,c8,b4⟩:=zc v;subst b4;have C:=a3.out _ s;have c3:=C.cell;have c5:=C.frozen;have a7:=Z v;have a6:=Z L;have a5:=Z s;have b0:=o.out.trans' s (fun k hk e=>by have:=R.out k e;omega);have T:=b5.out E b0;rw[V] at T;simp only[GP,GQ] at T;clear v L s b0))
    have r:=Ys.app o.out A.out Q.out B.out a8.out R.out a4.out a7.out a5.out a6.out (VRow.fr HL.out o.out (fun _ _=>id)) (fun b e=>.inr e);have d0:=Z r;clear r;go_ret;exact⟨nb,rfl,by rw[c9.out];exact d0.out⟩
end Go.Proofs.YtkhnggkkiefcdaaGreatDoor
