/- larder: joined texts -/
import Derived.Test.YtkhnggkkiefcdaaGreatDoorKRAK
import Derived.Test.YtkhnggkkiefcdaaGreatDoorKRAV
import Derived.Test.YtkhnggkkiefcdaaGreatDoorKRAX
namespace Go.Proofs.YtkhnggkkiefcdaaGreatDoor
open Go.RowKit
set_option maxRecDepth 100000
set_option maxHeartbeats 8000000
structure Wup(W W':WM)(k:Nat):Prop where
 node:W'.node=W.node
 calls:W'.calls=W.calls+k
 most:W.most<=W'.most
 room:W'.room=W.room
theorem Wup.refl(W:WM):Wup W W 0:=⟨rfl,rfl,Gb _,rfl⟩
def Now(W:WM)(N:NM)(M:DM)(t:Nat):Prop :=
 (∃ F p,NI W N M F p t)\/(N.readOnly=true/\M.dead=true/\zO N.S/\N.S.keys.length<=t/\∃ F p,Sh W M F p t)
theorem O4(W:WM)(N:NM)(m:LM):W.most<=(ZM W N m).1:=by
 unfold ZM;split
 .have:=TJ (16*W.calls) W.most N.S.keys m.keys
  show W.most<=(Z9 _ _ _ _).2.1.toNat;omega
 .exact Gb _
theorem Aft.now{W:WM}{i:LM}{M:DM}{e:Option Int}{d:NM}{g:DM}{k:Nat}(h:Aft W i M e d g k):∃ j,Now j d g k/\Wup W j 0:=by
 cases e with
 | none =>
  obtain⟨a,b,c⟩:=h.yp;refine⟨_,.inl ⟨a,b,c⟩,?_⟩;unfold WM.yp;simp only;split <;> exact⟨rfl,rfl,Gb _,rfl⟩
 | some x =>
  cases hd:g.dead with
  | true =>
   obtain⟨a,b,q⟩:=h.gone hd;exact⟨_,.inr ⟨h.ro,hd,h.held.1,h.held.2,a,b,q⟩,rfl,rfl,Gb _,rfl⟩
  | false =>
   obtain⟨l,o⟩:=h.told hd;cases hT:(ZM {W with broken:=true} d i).2 with
   | some r =>
    obtain⟨a,b,c⟩:=l r hT;exact⟨_,.inl ⟨a,b,c⟩,rfl,rfl,O4 {W with broken:=true} d i,rfl⟩
   | none =>
    have p:=h.cm.ne;obtain⟨_,a,b,c⟩:=(o hT).2 _ (Gq (by omega));exact⟨_,.inl ⟨a,b,c⟩,rfl,rfl,Gb _,rfl⟩
theorem Now.held{W:WM}{N:NM}{M:DM}{t:Nat}(h:Now W N M t):zO N.S/\N.S.keys.length<=t:=by
 rcases h with⟨F,p,h⟩|⟨_,_,a,b,_⟩
 .exact⟨h.st.1,h.nk⟩
 .exact⟨a,b⟩
theorem Now.sh{W:WM}{N:NM}{M:DM}{t:Nat}(h:Now W N M t):∃ F p,Sh W M F p t:=by
 rcases h with⟨F,p,h⟩|⟨_,_,_,_,h⟩
 .exact⟨F,p,h.sh⟩
 .exact h
theorem Now.more{W:WM}{N:NM}{M:DM}{t u:Nat}(h:Now W N M t)(a:t<=u):Now W N M u:=by
 rcases h with⟨F,p,h⟩|⟨b,c,d,e,F,p,h⟩
 .exact .inl ⟨F,p,h.more a⟩
 .exact .inr ⟨b,c,d,Gc e a,F,p,h.more a⟩
theorem Now.called{W:WM}{N:NM}{M:DM}{t:Nat}(h:Now W N M t):Now {W with calls:=W.calls+1} N M (t+10):=by
 rcases h with⟨F,p,h⟩|⟨a,b,c,d,F,p,h⟩
 .exact .inl ⟨F,p,h.called.more (by omega)⟩
 .exact .inr ⟨a,b,c,by omega,F,p,h.called.more (by omega)⟩
def Gave(W:WM)(a:Nat)(c:Int)(b:WM):Prop :=
 Wup W b 1/\(c≠0->a=0)/\(c=0->W.most<a/\a<=16*(W.calls+1)/\a<=b.most)
theorem SN{e:Option Int}(h:e=none\/e=some 9\/e=some 10):(Zh e=0↔e=none):=by
 rcases h with rfl|rfl|rfl
 .exact⟨fun _=>rfl,fun _=>rfl⟩
 .exact⟨fun h=>(by cases h),fun h=>(by cases h)⟩
 .exact⟨fun h=>(by cases h),fun h=>(by cases h)⟩
def SO(l:World)(k n a:Nat)(c:Value)(W:WM)(X:NL)(M:DM)(w:World)(t:Nat)(e:Ending)(j:World):Prop :=
 ∃ b i d g f h,e=.returned (.tuple #[.int .i64 (b:Nat),.int .i64 i])/\Kpt l j k n a c d g f/\d.nb=X.nb/\d.db=X.db/\Now h g f t/\Gave W b i h/\Fr (NFoot X M) w j
def Vh(j:World)(i n a:Nat)(b:Value)(W:WM)(X:NL)(M:DM)(w:World)(t:Nat)(e:Ending)(h:World):Prop :=
 ∃ v c f d g,e=.returned v/\Kpt j h i n a b c f d/\c.nb=X.nb/\c.db=X.db/\Now g f d t/\Wup W g 0/\Fr (NFoot X M) w h
theorem Aft.vy{W:WM}{N:NM}{o:LM}{M:DM}{a:Option Int}{g:NM}{f:DM}{i:Nat}(h:Aft {W with calls:=W.calls+1,most:=if a=none then N.given+1 else W.most} o M a g f i)(b:a=none\/a=some 9\/a=some 10)(j:W.most<N.given+1)(k:N.given+1<=16*(W.calls+1)) :
 ∃ d,Now d g f i/\Gave W (if a=none then N.given+1 else 0) (Zh a) d:=by
 obtain⟨d,l,c⟩:=h.now;refine⟨d,l,⟨c.node,by have:=c.calls;simpa using this,?_,c.room⟩,fun e=>?_,fun e=>?_⟩
 .have:=c.most
  simp only at this;split at this <;> omega
 .rw[Gl (fun x=>e ((SN b).2 x))]
 .have e0:=(SN b).1 e
  have:=c.most;simp only[e0,Ft] at this |-;exact⟨j,k,this⟩
theorem Kpt.wR(l:zl){B:Nat}{G w:World}{sb n k:Nat}{q:Value}{W:WM}{X:NL}{N:NM}{M:DM}{t:Nat}(h:Kpt G w sb n k q X N M)(L:Now W N M t)(ht:t+20<=980000)(o:zG B G)(V:B<=G.heap.size)(j i:ByteArray) :
 Calls Tryz.prog 22 #[.pointer (some ⟨X.nb,0,none⟩),.string j,.string i] w (SO G sb n k q W X M w (t+10)):=by
 by_cases r:zz j=true/\i.size<=128/\N.readOnly=false
 .obtain⟨hk,E,hro⟩:=r
  obtain⟨F,p,s⟩:∃ F p,NI W N M F p t:=L.resolve_right (fun x=>by rw[hro] at x;cases x.1);obtain⟨m0,_,S,K⟩:=s.now;have A:∀ g∈M.ids,g<w.heap.size:=fun g D=>(h.st.node.AH.files g D).lt;have C:=s.put (m:=m0) (H0:=w.heap.size) (by omega) hro S K A j i hk E;refine(Vc l B X N M j i w h.st.node (h.env o V) (fun u T=>((s.st.1.get j).2.2 u T).node) (fun _ _ _=>C.1 _ (Gb _))).mono ?_;rintro e w' ⟨f,g,I,rfl,Y,D,y,d⟩;obtain⟨er,N',M',he,Q,v⟩:=C.2.2.2 f g Y D y;obtain⟨W',O,J⟩:=v.vy Q C.2.1 C.2.2.1;rw[he] at d |-;exact⟨_,_,I,N',M',W',rfl,h.step d,d.same.nb,d.same.db,O,J,d.fr⟩
 .have hh:=L.held.1
  refine(Vc l B X N M j i w h.st.node (h.env o V) (fun u T=>((hh.get j).2.2 u T).node) (fun a b c=>absurd ⟨a,b,c⟩ r)).mono ?_;rintro e w' ⟨f,g,I,rfl,Y,D,y,d⟩;have R:∃ c:Int,c≠0/\N.put M j i f g=(0,c,N,M):=by
   unfold NM.put;cases hk:zz j with
   | false=>exact⟨2,by decide,by rw[GA rfl]⟩
   | true =>
    rw[Gl (by decide)];by_cases E:128<i.size
    .exact⟨3,by decide,by rw[GA E]⟩
    .rw[Gl E]
     cases hro:N.readOnly with
     | true=>exact⟨8,by decide,by rw[GA rfl]⟩
     | false=>exact absurd ⟨hk,by omega,hro⟩ r
  obtain⟨c,hc,R⟩:=R;rw[R] at d |-;exact⟨0,c,I,N,M,_,rfl,h.step d,d.same.nb,d.same.db,L.called,⟨⟨rfl,rfl,Gb _,rfl⟩,fun _=>rfl,fun e=>absurd e hc⟩,d.fr⟩
theorem Kpt.xE(j:zl){B:Nat}{C w:World}{S n i:Nat}{l:Value}{W:WM}{X:NL}{N:NM}{M:DM}{t:Nat}(h:Kpt C w S n i l X N M)(R:Now W N M t)(ht:t+20<=980000)(k:zG B C)(O:B<=C.heap.size)(d:ByteArray) :
 Calls Tryz.prog 30 #[.pointer (some ⟨X.nb,0,none⟩),.string d] w (SO C S n i l W X M w (t+10)):=by
 by_cases o:zz d=true/\N.readOnly=false
 .obtain⟨hk,hro⟩:=o
  obtain⟨F,p,v⟩:∃ F p,NI W N M F p t:=R.resolve_right (fun x=>by rw[hro] at x;cases x.1);obtain⟨m0,_,L,G⟩:=v.now;have s:∀ g∈M.ids,g<w.heap.size:=fun g A=>(h.st.node.AH.files g A).lt;have y:=v.delete (m:=m0) (H0:=w.heap.size) (by omega) hro L G s d hk;refine(WV j B X N M d w h.st.node (h.env k O) (fun _ _=>y.1 _ (Gb _))).mono ?_;rintro e w' ⟨f,g,D,rfl,Q,A,r,b⟩;obtain⟨er,V,T,he,J,q⟩:=y.2.2.2 f g Q A r;obtain⟨Y,I,E⟩:=q.vy J y.2.1 y.2.2.1;rw[he] at b |-;exact⟨_,_,D,V,T,Y,rfl,h.step b,b.same.nb,b.same.db,I,E,b.fr⟩
 .refine(WV j B X N M d w h.st.node (h.env k O) (fun a c=>absurd ⟨a,c⟩ o)).mono ?_
  rintro e w' ⟨f,g,D,rfl,Q,A,r,b⟩;have K:∃ c:Int,c≠0/\N.delete M d f g=(0,c,N,M):=by
   unfold NM.delete;cases hk:zz d with
   | false=>exact⟨2,by decide,by rw[GA rfl]⟩
   | true =>
    rw[Gl (by decide)];cases hro:N.readOnly with
    | true=>exact⟨8,by decide,by rw[GA rfl]⟩
    | false=>exact absurd ⟨hk,hro⟩ o
  obtain⟨c,hc,K⟩:=K;rw[K] at b |-;exact⟨0,c,D,N,M,_,rfl,h.step b,b.same.nb,b.same.db,R.called,⟨⟨rfl,rfl,Gb _,rfl⟩,fun _=>rfl,fun e=>absurd e hc⟩,b.fr⟩
theorem Kpt.xH(C:zl){B:Nat}{I w:World}{O n k:Nat}{q:Value}{W:WM}{X:NL}{N:NM}{M:DM}{t:Nat}(h:Kpt I w O n k q X N M)(G:Now W N M t)(ht:t+20<=980000)(D:zG B I)(T:B<=I.heap.size)(j:ByteArray)(v:Ver) :
 Calls Tryz.prog 91 #[.pointer (some ⟨X.nb,0,none⟩),.string j,.agg v.cells.toArray] w (Vh I O n k q W X M w (t+10)):=by
 obtain⟨hh,a0⟩:=G.held;have E:=hh.get j;have o:∀ g∈M.ids,g<w.heap.size:=fun g E=>(h.st.node.AH.files g E).lt;refine(Pg C B X N M j v w h.st.node (h.env D T) (fun u K=>(E.2.2 u K).node) E.1 (by omega) (by omega) (fun a b c d e=>?_)).mono ?_
 .obtain⟨F,p,l⟩:∃ F p,NI W N M F p t:=G.resolve_right (fun x=>by rw[d] at x;cases x.1)
  obtain⟨m0,_,s,r⟩:=l.now;exact(l.accept (by omega) s r o j v).1 _ (Gb _) a b c d e
 rintro e w' ⟨f,L,rfl,Y,i⟩;have m:=SF N M j v f;cases ho:VJ N j v with
 | some c =>
  rw[ho] at m;simp only at m;rw[m] at i |-;exact⟨_,L,N,M,W,rfl,h.step i,i.same.nb,i.same.db,G.more (by omega),Wup.refl W,i.fr⟩
 | none =>
  have y:N.readOnly=false:=by
   cases y:N.readOnly with
   | false=>rfl
   | true =>
    unfold VJ at ho;rw[y] at ho;split at ho <;> simp at ho
  obtain⟨F,p,l⟩:∃ F p,NI W N M F p t:=G.resolve_right (fun x=>by rw[y] at x;cases x.1);obtain⟨m0,_,s,r⟩:=l.now;obtain⟨er,R,Q,V,a1,A⟩:=(l.accept (by omega) s r o j v).2 ho f Y;obtain⟨S,J,K⟩:=A.now;rw[V] at i |-;exact⟨_,L,R,Q,S,rfl,h.step i,i.same.nb,i.same.db,J,K,i.fr⟩
theorem Kpt.wF(C:zl){B:Nat}{E w:World}{K n l:Nat}{r:Value}{W:WM}{X:NL}{N:NM}{M:DM}{t:Nat}(h:Kpt E w K n l r X N M)(G:Now W N M t)(ht:t+20<=980000)(D:zG B E)(R:B<=E.heap.size)(k:Int)(j:ByteArray) :
 Calls Tryz.prog 31 #[.pointer (some ⟨X.nb,0,none⟩),.int .i64 k,.string j] w (Vh E K n l r W X M w (t+10)):=by
 have q:∀ g∈M.ids,g<w.heap.size:=fun g V=>(h.st.node.AH.files g V).lt;refine(VR C B X N M k j w h.st.node (h.env D R) (fun a b d=>?_)).mono ?_
 .obtain⟨F,p,m⟩:∃ F p,NI W N M F p t:=G.resolve_right (fun x=>by rw[d] at x;cases x.1)
  obtain⟨m0,_,v,s⟩:=m.now;exact(m.hint (by omega) v s q k j).1 _ (Gb _) a b d
 rintro e w' ⟨f,J,rfl,T,i⟩;have o:=TL N M k j f;cases ho:Xg N k j with
 | some c =>
  rw[ho] at o;simp only at o;rw[o] at i |-;exact⟨_,J,N,M,W,rfl,h.step i,i.same.nb,i.same.db,G.more (by omega),Wup.refl W,i.fr⟩
 | none =>
  have y:N.readOnly=false:=by
   cases y:N.readOnly with
   | false=>rfl
   | true =>
    unfold Xg at ho;rw[y] at ho;split at ho <;> simp at ho
  obtain⟨F,p,m⟩:∃ F p,NI W N M F p t:=G.resolve_right (fun x=>by rw[y] at x;cases x.1);obtain⟨m0,_,v,s⟩:=m.now;obtain⟨er,O,L,S,Y,A⟩:=(m.hint (by omega) v s q k j).2 ho f T;obtain⟨Q,I,hu⟩:=A.now;rw[S] at i |-;exact⟨_,J,O,L,Q,rfl,h.step i,i.same.nb,i.same.db,I,hu,i.fr⟩
theorem Kpt.wL(s:zl){B:Nat}{y w:World}{E n b:Nat}{l:Value}{W:WM}{X:NL}{N:NM}{M:DM}{t:Nat}(h:Kpt y w E n b l X N M)(A:Now W N M t)(Y:t+20<=980000)(v:zG B y)(K:B<=y.heap.size) :
 Calls Tryz.prog 28 #[.pointer (some ⟨X.nb,0,none⟩)] w (Vh y E n b l W X M w (t+10)):=by
 have k:∀ g∈M.ids,g<w.heap.size:=fun g Q=>(h.st.node.AH.files g Q).lt;refine(RF s B X N M w h.st.node (h.env v K) (fun d=>?_)).mono ?_
 .obtain⟨F,p,i⟩:∃ F p,NI W N M F p t:=A.resolve_right (fun x=>by rw[d] at x;cases x.1)
  obtain⟨T,_,o,m⟩:=i.now;exact(i.yY (by omega) o m k).1 _ (Gb _) d
 rintro e w' ⟨f,D,rfl,O,a⟩;have j:=Ri N M f;cases ho:Wq N with
 | some c =>
  rw[ho] at j;simp only at j;rw[j] at a |-;exact⟨_,D,N,M,W,rfl,h.step a,a.same.nb,a.same.db,A.more (by omega),Wup.refl W,a.fr⟩
 | none =>
  have q:N.readOnly=false:=by
   cases q:N.readOnly with
   | false=>rfl
   | true =>
    unfold Wq at ho;rw[q] at ho;simp at ho
  obtain⟨F,p,i⟩:∃ F p,NI W N M F p t:=A.resolve_right (fun x=>by rw[q] at x;cases x.1);obtain⟨T,_,o,m⟩:=i.now;obtain⟨V,I,G,L,R,r⟩:=(i.yY (by omega) o m k).2 ho f O;obtain⟨J,C,S⟩:=r.now;rw[L] at a |-;exact⟨_,D,I,G,J,rfl,h.step a,a.same.nb,a.same.db,C,S,a.fr⟩
theorem Now.xW{W:WM}{N d:NM}{M b:DM}{F:List Fact}{p t e:Nat}(h:NI W N M F p t)(g:d.S=N.S)(f:d.readOnly=true)(l:t<=e)(i:∃ a c,Sh {W with broken:=true} b a c e/\(b.dead=false->NI {W with broken:=true} d b a c e)):Now {W with broken:=true} d b e:=by
 obtain⟨a,c,k,j⟩:=i;cases hd:b.dead with
 | false=>exact .inl ⟨a,c,j hd⟩
 | true=>exact .inr ⟨f,hd,by rw[g];exact h.st.1,by rw[g];exact Gc h.nk l,a,c,k⟩
theorem Kpt.sync_any(d:zl){B:Nat}{i w:World}{s n b:Nat}{c:Value}{W:WM}{X:NL}{N:NM}{M:DM}{t:Nat}(h:Kpt i w s n b c X N M)(r:Now W N M t)(E:t+20<=980000)(g:zG B i)(y:B<=i.heap.size) :
 Calls Tryz.prog 32 #[.pointer (some ⟨X.nb,0,none⟩)] w (Vh i s n b c W X M w (t+10)):=by
 refine(XY d B X N M w h.st.node (h.env g y)).mono ?_;rintro e G ⟨k,rfl,a⟩;cases hro:N.readOnly with
 | true =>
  have C:N.AJ M=(8,N,M):=by unfold NM.AJ;rw[GA hro]
  rw[C] at a |-;exact⟨_,k,N,M,W,rfl,h.step a,a.same.nb,a.same.db,r.more (by omega),Wup.refl W,a.fr⟩
 | false =>
  obtain⟨F,p,f⟩:∃ F p,NI W N M F p t:=r.resolve_right (fun x=>by rw[hro] at x;cases x.1);have q:=h.step a;rcases f.sync (by omega) hro with⟨_,_,j,m,l⟩|⟨o,_,_,j,m,l,v⟩
  .exact⟨_,k,_,_,_,rfl,q,a.same.nb,a.same.db,.inl ⟨j,m,l.more (by omega)⟩,⟨rfl,rfl,Gb _,rfl⟩,a.fr⟩
  .have hsc:(N.AJ M).1=Zh (N.sync M).1/\(N.AJ M).2.1.readOnly=(N.readOnly||(N.sync M).1.isSome)/\(N.AJ M).2.1.S=N.S:=by
    unfold NM.AJ;rw[Gl (by rw[hro];decide)];refine⟨rfl,?_,?_⟩
    .show((N.sync M).2.1.yo (N.sync M).1).readOnly=_
     rfl
    .cases (N.sync M).1 <;> rfl
   have D:(N.sync M).1≠none:=fun e=>by rw[hsc.1,e] at o;cases o
   refine⟨_,k,_,_,_,rfl,q,a.same.nb,a.same.db,Now.xW f hsc.2.2 ?_ (by omega) ⟨j,m,l.more (by omega),fun A=>(v A).more (by omega)⟩,⟨rfl,rfl,Gb _,rfl⟩,a.fr⟩;rw[hsc.2.1];cases hx:(N.sync M).1 with
   | none=>exact absurd hx D
   | some x=>simp
theorem QA(X:NL)(N:NM)(M:DM)(w:World)(h:NRep w X N M)(a:N.readOnly=true) :
 Calls Tryz.prog 40 #[.pointer (some ⟨X.nb,0,none⟩)] w fun e c=>e=.returned (.tuple #[.bool false,.int .i64 8])/\Fr Nil w c:=by
 have b:=h.Ay.cell;simp only[NM.cells] at b;rw[a] at b;clear h;go_enter Tryz.func40,Tryz.ntmps40;go_wp2_with fail;go_ret2;exact⟨rfl,U _ _⟩
theorem Kpt.we(c:zl){B:Nat}{k w:World}{y n a:Nat}{b:Value}{W:WM}{X:NL}{N:NM}{M:DM}{t:Nat}(h:Kpt k w y n a b X N M)(v:Now W N M t)(K:t+20<=980000)(i:zG B k)(G:B<=k.heap.size) :
 Calls Tryz.prog 40 #[.pointer (some ⟨X.nb,0,none⟩)] w (Vh k y n a b W X M w (t+10)):=by
 cases hro:N.readOnly with
 | true =>
  refine(QA X N M w h.st.node hro).mono ?_;rintro e L ⟨rfl,f⟩;exact⟨_,X,N,M,W,rfl,h.nil f,rfl,rfl,v.more (by omega),Wup.refl W,f.mono (fun _ _ e=>absurd e id)⟩
 | false =>
  obtain⟨F,p,g⟩:∃ F p,NI W N M F p t:=v.resolve_right (fun x=>by rw[hro] at x;cases x.1);refine(h.vk c g K i G hro).mono ?_;rintro e L ⟨C,A,o,m,l,rfl,r,q,j,s,I,J,d⟩;cases A with
  | none=>exact⟨_,o,m,l,W,rfl,r,q,j,.inl ⟨F,p,(s.yS rfl).more (by omega)⟩,Wup.refl W,d⟩
  | some x =>
   obtain⟨D,E⟩:=s.gone (by simp);exact⟨_,o,m,l,_,rfl,r,q,j,Now.xW g I (J (by simp)) (by omega) ⟨F,p,D.more (by omega),fun j=>(E j).more (by omega)⟩,⟨rfl,rfl,Gb _,rfl⟩,d⟩
def Zi(w:World)(a:Value)(b:List Nat):Prop:=w.ownsRow 0 3 1 a b.length (Yh b)
def LF(g h:Nat)(i:Value)(n c:Nat)(b:Value)(d:List Nat)(w:World)(e:Ending)(f:World):Prop :=
 ∃ a,e=.returned (.bool true)/\Blk f g (zp h i n (c+1:Nat) a) 58/\Zi f a d/\Fr (fun k=>k=g\/b.ownBlock=some k) w f/\∀ k,a.ownBlock=some k->b.ownBlock=some k\/w.heap.size<=k
theorem Rq(c f:Nat)(g:Value)(n a:Nat)(b:Value)(q:List Nat)(i:Int)(w:World)(h:Blk w c (zp f g n a b) 58)(o:Zi w b q)(v:a<1000000000)(s:i≠0) :
 Calls Tryz.prog 23 #[.pointer (some ⟨c,0,none⟩),.int .i64 (0:Nat),.int .i64 i] w (LF c f g n a b q w):=by
 have j:∀ k,w.cell? ⟨c,k,none⟩=(zp f g n a b)[k]?:=h.cell;have x:=h.frozen;simp only[zp] at j;have u:IntKind.i64.wrap ((a:Int)+1)=(a:Int)+1:=by rw[Gs];omega
 have d:b.ownBlock≠some c:=zi o h (by decide);have l:Fr (fun k=>k=c) w (w.setCell ⟨c,3,none⟩ (.int .i64 ((a:Int)+1))):=Fr.set (S:=fun k=>k=c) (p:=⟨c,3,none⟩) (U _ _) (fun _=>rfl) _;have r:Hid (LF c f g n a b q w (.returned (.bool true)) (w.setCell ⟨c,3,none⟩ (.int .i64 ((a:Int)+1)))):=⟨b,rfl,h.set 3 (.int .i64 ((a:Int)+1)),ze o l (fun k m e=>d (by rw[m,e])),l.mono (fun _ _ e=>.inl e),fun k m=>.inl m⟩;have t:¬i=0:=s;clear h o d l;go_enter Tryz.func23,Tryz.ntmps23;go_wp2_with fail;go_ret;exact r.out
theorem SP(f G:Nat)(J:Value)(n a:Nat)(j:Value)(d:List Nat)(b:Nat)(w:World)(h:Blk w f (zp G J n a j) 58)(I:Zi w j d)(hc:a<1000000000)(hl:d.length<1000000000)(h1:1<=b)(h2:b<=16*(a+1))(h3:∀ x,d.getLast?=some x->x<b) :
 Calls Tryz.prog 23 #[.pointer (some ⟨f,0,none⟩),.int .i64 b,.int .i64 0] w (LF f G J n a j (d++[b]) w):=by
 have V:∀ k,w.cell? ⟨f,k,none⟩=(zp G J n a j)[k]?:=h.cell;have hz:=h.frozen;simp only[zp] at V;have b4:IntKind.i64.wrap ((a:Int)+1)=(a:Int)+1:=by rw[Gs];omega
 have b5:IntKind.i64.wrap (16*((a:Int)+1))=16*((a:Int)+1):=by rw[Gs];omega
 have t:j.ownBlock≠some f:=zi I h (by decide);have Y:Fr (fun k=>k=f) w (w.setCell ⟨f,3,none⟩ (.int .i64 ((a:Int)+1))):=Fr.set (S:=fun k=>k=f) (p:=⟨f,3,none⟩) (U _ _) (fun _=>rfl) _;have L:=h.set 3 (.int .i64 ((a:Int)+1));have Q:=ze I Y (fun k M e=>t (by rw[M,e]));have a1:¬(16*((a:Int)+1)<(b:Int)):=by omega
 have a2:¬((b:Int)<1):=by omega
 have R:=Z L;have K:=Z Q;have HF:=Z Y;have T:=Z t;obtain⟨E,o,rfl⟩:=zg I;have v:∀ (s:Value) (l:World),l.ownsRow 0 3 1 s (d.length+1) (Yh d++[.int .i64 (b:Int)])->Fr (fun k=>(Value.slice E d.length o).ownBlock=some k) (w.setCell ⟨f,3,none⟩ (.int .i64 ((a:Int)+1))) l->(∀ k,s.ownBlock=some k->(Value.slice E d.length o).ownBlock=some k\/(w.setCell ⟨f,3,none⟩ (.int .i64 ((a:Int)+1))).heap.size<=k) ->
  (Blk l f (zp G J n ((a:Int)+1) (.slice E d.length o)) 58)/\LF f G J n a (.slice E d.length o) (d++[b]) w (.returned (.bool true)) (l.setCell ⟨f,4,none⟩ s):=fun s l q A D=>by
  have c:=R.out.fr A (fun e=>T.out e);have c:Blk l f (zp G J n ((a:Int)+1) (.slice E d.length o)) 58:=c;have f4:Fr (fun k=>k=f) l (l.setCell ⟨f,4,none⟩ s):=Fr.set (S:=fun k=>k=f) (p:=⟨f,4,none⟩) (U _ _) (fun _=>rfl) _;have O:s.ownBlock≠some f:=zi q c (by decide);have a4:(w.setCell ⟨f,3,none⟩ (.int .i64 ((a:Int)+1))).heap.size=w.heap.size:=by simp[World.setCell]
  refine⟨c,s,rfl,c.set 4 s,?_,?_,fun k M=>?_⟩
  .have:=ze q f4 (fun k M e=>O (by rw[M,e]))
   unfold Zi;rw[Ga,Gi];have e5:Yh (d++[b])=Yh d++[.int .i64 (b:Int)]:=by unfold Yh;rw[Gy];rfl
   rw[e5];exact this
  .exact((HF.out.mono (fun _ _ e=>.inl e)).trans (A.mono (fun _ _ e=>.inr e))).trans (f4.mono (fun _ _ e=>.inl e))
  .rw[<- a4];exact D k M
 have u:=Z v;have C:d=[]\/∃ g x,E=some ⟨g,0,none⟩/\w.cell? ⟨g,d.length-1,none⟩=some (.int .i64 (x:Nat))/\x<b/\0<d.length/\g≠f:=by
  rcases FG d with e|⟨r,x,e⟩
  .exact .inl e
  .rw[FH] at e
   have N:d.length=r.length+1:=by rw[e];simp
   obtain⟨g,a6,hg,_,_⟩:=zy I (by omega);simp only[DO] at hg;obtain⟨rfl,_,_⟩:=hg;refine .inr ⟨g,x,rfl,?_,h3 x (by rw[e];simp),by omega,fun e=>t (by rw[e];rfl)⟩;refine own_cell? I (d.length-1) _ ?_;unfold Yh;rw[List.getElem?_map,N,e];simp
 have a9:decide (16*((a:Int)+1)<(b:Int))=false:=Fp a1;have b0:decide ((b:Int)<1)=false:=Fp a2;clear h I t Y L Q v h1 h2 h3;go_enter Tryz.func23,Tryz.ntmps23;rcases C with y|⟨g,x,rfl,a8,hx,a7,b3⟩
 .have hz0:d.length=0:=by rw[y];rfl
  have X:decide ((0:Int)<(d.length:Int))=false:=by rw[hz0];rfl
  have b2:¬0<d.length:=by omega
  clear hz0 y
  go_wp2_with (at_builtin;go_must (refine zI rfl _ _ _ _ rfl _ _ (by rfl) (by rfl) (R5 Dh R4 (by decide) _ _ _ _ K.out (.int .i64 b) rfl hl _ zd _ (by exact Blk.newAt _ [_] _ _ (by simp[World.setCell])) _) ?_);rintro s l ⟨q,A,D⟩;obtain⟨a3,c3,rfl⟩:=zg q;obtain⟨c,i⟩:=u.out _ l q A D;have B:=c.cell;have a5:=c.frozen;simp only[zp] at B;have m:=Z i;clear i c q A D)
  go_ret;exact m.out
 .have hw3:IntKind.i64.wrap ((d.length:Int)-1)=(d.length:Int)-1:=by rw[Gs];omega
  have X:decide ((0:Int)<(d.length:Int))=true:=EN (by omega);have b1:decide ((b:Int)<=(x:Int))=false:=Fp (by omega)
  go_wp2_with (at_builtin;go_must (refine zI rfl _ _ _ _ rfl _ _ (by rfl) (by rfl) (R5 Dh R4 (by decide) _ _ _ _ K.out (.int .i64 b) rfl hl _ zd _ (by exact Blk.newAt _ [_] _ _ (by simp[World.setCell])) _) ?_);rintro s l ⟨q,A,D⟩;obtain⟨a3,c3,rfl⟩:=zg q;obtain⟨c,i⟩:=u.out _ l q A D;have B:=c.cell;have a5:=c.frozen;simp only[zp] at B;have m:=Z i;clear i c q A D)
  go_ret;exact m.out
def OpM.yb(o:OpM):List Value:=[.int .i64 o.kind,.int .i64 o.a,.int .i64 o.b,.string o.key,.string o.text]++o.v.cells++[o.yw]
structure Clk(w0 w:World)(sb db n calls:Nat)(nums:Value)(LD:DL)(M:DM):Prop where
 st:StC w sb db (.pointer none) n calls nums LD M
 fr:Fr Nil w0 w
 low:w0.heap.size<=sb
 new:∀ k,Foot db LD M k->w0.heap.size<=k
structure Ns(w0 w:World)(n calls:Nat)(nums:Value)(ns:List Nat)(W:WM)(t:Nat):Prop where
 row:Zi w nums ns
 new:∀ k,nums.ownBlock=some k->w0.heap.size<=k
 len:ns.length<=calls
 top:calls<=t
 node:W.node=(n:Int)
 room:W.room=-1
 calls:W.calls<=calls
 last:∀ x,ns.getLast?=some x->x<=W.most
def Yv(c w:World)(e n t:Nat):Prop:=∃ a b d W X N M,Ns c w n a b d W t/\Kpt c w e n a b X N M/\Now W N M t
def O5(c w:World)(g n t:Nat):Prop:=∃ a b f W e d M,Ns c w n a b f W t/\Clk c w g e n a b d M/\∃ F p,Sh W M F p t
def Str(b w:World)(a n t:Nat):Prop:=Yv b w a n t\/O5 b w a n t
theorem Ns.up{j w g:World}{n a:Nat}{b:Value}{d:List Nat}{W e:WM}{t u:Nat}(h:Ns j w n a b d W t)(k:Zi g b d)(c:Wup W e 0)(l:t<=u):Ns j g n a b d e u :=
 ⟨k,h.new,h.len,Gc h.top l,c.node.trans h.node,c.room.trans h.room,by have:=c.calls;have:=h.calls;omega,fun x m=>Gc (h.last x m) c.most⟩
theorem Zi.node{w c:World}{a:Value}{b:List Nat}(h:Zi w a b){X:NL}{N:NM}{M:DM}(e:NRep w X N M)(f:Fr (NFoot X M) w c):Zi c a b :=
 ze h f (fun k d=>e.apart (zE h d) (by decide) (by decide) (by decide) (by decide) (by decide) (by unfold DTy;decide) (by decide))
theorem Zi.nil{w w':World}{a:Value}{c:List Nat}(h:Zi w a c)(f:Fr Nil w w'):Zi w' a c:=ze h f (fun _ _=>id)
theorem Zi.AH{w w':World}{a:Value}{d:List Nat}(h:Zi w a d){c:Nat}{b:DL}{M:DM}(i:DRep w c b M)(f:Fr (Foot c b M) w w'):Zi w' a d :=
 ze h f (fun k e=>i.apart (zE h e) (by unfold DTy;decide))
theorem Zi.store{w g:World}{a:Value}{b:List Nat}(h:Zi w a b){d:Nat}{c:List Value}(i:Blk w d c 58)(f:Fr (fun k=>k=d) w g):Zi g a b :=
 ze h f (fun k j e=>zi h i (by decide) (by rw[j,e]))
theorem Kpt.xB{q w p:World}{m n g a:Nat}{b c:Value}{u:List Nat}{X:NL}{N:NM}{M:DM}(h:Kpt q w m n g b X N M)(o:Zi w b u)(j:∀ k,b.ownBlock=some k->q.heap.size<=k)
 (s:Blk p m (zp X.db (.pointer (some ⟨X.nb,0,none⟩)) n a c) 58)(f:Fr (fun k=>k=m\/b.ownBlock=some k) w p):Kpt q p m n a c X N M:=by
 have l:=h.st.Ay.ty;refine⟨⟨s,h.st.node.fr f (fun k d e=>?_) (fun k d e=>?_) (fun k t d r e=>?_)⟩,h.fr.trans' f (fun i v e=>?_),h.low,h.new,h.sep,h.wA⟩
 .rcases e with e|e
  .exact h.sep k d e
  .exact h.st.node.apart (zE o e) (by decide) (by decide) (by decide) (by decide) (by decide) (by unfold DTy;decide) (by decide) d
 .rcases e with e|e
  .exact h.wA k d e
  .have:=(zE o e).inj (h.st.node.held.yx d)
   revert this;decide
 .rcases e with e|e
  .subst e
   have:=d.inj l;subst this
   revert r;unfold MTy;decide
  .have:=d.inj (zE o e)
   subst this
   revert r;unfold MTy;decide
 .rcases e with e|e
  .have:=h.low;omega
  .have:=j i e;omega
theorem Kpt.shut{g w:World}{c n a:Nat}{b:Value}{X:NL}{N:NM}{M:DM}(h:Kpt g w c n a b X N M):Clk g (w.setCell ⟨c,1,none⟩ (.pointer none)) c X.db n a b X.LD M:=by
 have f:Fr (fun k=>k=c) w (w.setCell ⟨c,1,none⟩ (.pointer none)):=Fr.set (S:=fun k=>k=c) (p:=⟨c,1,none⟩) (U _ _) (fun _=>rfl) _;refine⟨⟨h.st.Ay.set 1 (.pointer none),h.st.node.AH.fr f (fun k d e=>h.sep k (.inr (.inr (.inr (.inl d)))) e)⟩,h.fr.trans' f (fun i j e=>by have:=h.low;omega),h.low,fun k d=>h.new k (.inr (.inr (.inr (.inl d))))⟩
theorem Yv.shut{e w:World}{c n a t u:Nat}{b:Value}{i:List Nat}{W d:WM}{X:NL}{N:NM}{M:DM}(h:Kpt e w c n a b X N M)(j:Now d N M u)(g:Ns e w n a b i W t)(m:Wup W d 0)(l:t<=u):O5 e (w.setCell ⟨c,1,none⟩ (.pointer none)) c n u:=by
 have f:Fr (fun k=>k=c) w (w.setCell ⟨c,1,none⟩ (.pointer none)):=Fr.set (S:=fun k=>k=c) (p:=⟨c,1,none⟩) (U _ _) (fun _=>rfl) _;exact⟨a,b,i,d,_,_,M,g.up (g.row.store h.st.Ay f) m l,h.shut,j.sh⟩
theorem Kpt.AL{y w w':World}{x n c:Nat}{l:Value}{X:NL}{N:NM}{M r:DM}(h:Kpt y w x n c l X N M)(A:DRep w' X.db X.LD r)(o:Fr (fun k=>k=X.db) w w')(m:∀ k,Foot X.db X.LD r k->Foot X.db X.LD M k):Kpt y w' x n c l X N r:=by
 have j:=h.st.node;have q:∀ k,NFoot X r k->NFoot X M k:=fun k a=>by
  rcases a with e|e|e|e|e
  .exact .inl e
  .exact .inr (.inl e)
  .exact .inr (.inr (.inl e))
  .exact .inr (.inr (.inr (.inl (m k e))))
  .exact .inr (.inr (.inr (.inr e)))
 have p:Ty w X.db 143:=j.AH.Ay.ty;have g:∀ k t,Ty w k t->t≠143->k≠X.db:=fun k t a s e=>by subst e;exact s (a.inj p)
 refine⟨⟨h.st.Ay.fr o (fun e=>h.sep X.db (.inr (.inr (.inr (.inl .Ay)))) e.symm),j.Ay.fr o (g _ _ j.Ay.ty (by decide)),Blk.fr j.log o (g _ _ (Blk.ty j.log) (by decide)),j.held.fr o (fun k a e=>?_) (fun k a e=>?_),A,j.wK.fr o (fun k t a s=>g k t a (fun e=>by subst e;revert s;unfold MTy;decide))⟩,h.fr.trans' o (fun i B e=>by have:=h.new X.db (.inr (.inr (.inr (.inl .Ay))));omega),h.low,fun k a=>h.new k (q k a),fun k a=>h.sep k (q k a),h.wA⟩
 .rcases j.held.yc a with e2|e2|e2 <;> exact g _ _ e2 (by decide) e
 .exact g _ _ (j.held.yx a) (by decide) e
def X3(c:World)(a n t:Nat)(e:Ending)(b:World):Prop:=e=.returned (.bool true)/\Str c b a n t
def G4(d:World)(g n t:Nat)(W:WM)(X:NL)(N:NM)(M:DM)(e:Ending)(c:World):Prop :=
 e=.returned (.bool true)/\∃ a b f,Ns d c n a b f W t/\Kpt d c g n a b X N M
theorem VK{B w:World}{m n a:Nat}{f:Value}{l:List Nat}{W C:WM}{X:NL}{N:NM}{M:DM}{t u:Nat}(h:Kpt B w m n a f X N M)(b:Ns B w n a f l W t)(g:Nat)(o:Int)(E:Gave W g o C)(S:t+1<=u)(R:t<=900000000) :
 Calls Tryz.prog 23 #[.pointer (some ⟨m,0,none⟩),.int .i64 g,.int .i64 o] w (G4 B m n u C X N M):=by
 have L:=b.top;have O:=b.len;have Q:=b.calls;have D:=h.fr.size;obtain⟨c,y,j⟩:=E;by_cases q:o=0
 .subst q
  obtain⟨I,J,K⟩:=j rfl;refine(SP m X.db _ n a f l g w h.st.Ay b.row (by omega) (by omega) (by omega) (by omega) (fun x i=>by have:=b.last x i;omega)).mono ?_;rintro e G ⟨d,rfl,p,A,r,v⟩;refine⟨rfl,a+1,d,l++[g],⟨A,fun k s=>(v k s).elim (b.new k) (fun e=>Gc D e),by rw[Ga,Gi];omega,by omega,c.node.trans b.node,c.room.trans b.room,by have:=c.calls;omega,fun x i=>?_⟩,h.xB b.row b.new p r⟩;rw[List.getLast?_append] at i;simp at i;omega
 .obtain rfl:=y q
  refine(Rq m X.db _ n a f l o w h.st.Ay b.row (by omega) q).mono ?_;rintro e G ⟨d,rfl,p,A,r,v⟩;exact⟨rfl,a+1,d,l,⟨A,fun k s=>(v k s).elim (b.new k) (fun e=>Gc D e),by omega,by omega,c.node.trans b.node,c.room.trans b.room,by have:=c.calls;omega,fun x i=>Gc (b.last x i) c.most⟩,h.xB b.row b.new p r⟩
theorem Ns.nil{e w w':World}{n a:Nat}{c:Value}{d:List Nat}{W:WM}{t:Nat}(h:Ns e w n a c d W t)(f:Fr Nil w w'):Ns e w' n a c d W t :=
 h.up (h.row.nil f) (Wup.refl W) (Gb t)
theorem Ns.wX{e w d:World}{n a:Nat}{b:Value}{c:List Nat}{W:WM}{t:Nat}(h:Ns e w n a b c W t){X:NL}{N:NM}{M:DM}(g:NRep w X N M)(f:Fr (NFoot X M) w d):Ns e d n a b c W t :=
 h.up (h.row.node g f) (Wup.refl W) (Gb t)
theorem SO.back{i j k:World}{d n a:Nat}{b:Value}{W:WM}{X:NL}{M:DM}{t:Nat}{e:Ending}{g:World}(h:SO i d n a b W X M k t e g)(f:Fr Nil j k):SO i d n a b W X M j t e g:=by
 obtain⟨c,q,p,m,l,o,r,s,v,x,y,A,B⟩:=h;exact⟨c,q,p,m,l,o,r,s,v,x,y,A,(f.mono (fun _ _ e=>absurd e id)).trans B⟩
theorem Vh.back{g i j:World}{c n a:Nat}{b:Value}{W:WM}{X:NL}{M:DM}{t:Nat}{e:Ending}{d:World}(h:Vh g c n a b W X M j t e d)(f:Fr Nil i j):Vh g c n a b W X M i t e d:=by
 obtain⟨v,o,l,k,m,p,q,r,s,x,y,A⟩:=h;exact⟨v,o,l,k,m,p,q,r,s,x,y,(f.mono (fun _ _ e=>absurd e id)).trans A⟩
theorem H9(G:zl){B:Nat}{S w:World}{A n t:Nat}(Q:zG B S)(hB:B<=S.heap.size)(h:Yv S w A n t)(o:OpM)(T:Option Addr)(Y V:Nat)(R:o.yw=.slice T Y V)(hk:o.kind=2)(ht:t+20<=980000) :
 Calls Tryz.prog 68 #[.pointer (some ⟨A,0,none⟩),.agg o.yb.toArray] w (X3 S A n (t+10)):=by
 obtain⟨a2,a9,ns,W,X,N,M,hs,K,hn⟩:=h;obtain⟨a8,a,b,c,i,d,v,a7⟩:=o;simp only at hk R;subst hk R;simp only[OpM.yb,Ver.cells,GC,GP];have f1:Fr Nil w (w.alloc (.cells #[.int .i64 2,.int .i64 a,.int .i64 b,.string i,.string d,.int .i64 v.node,.int .i64 v.seq,.int .i64 v.o0,.int .i64 v.o1,.int .i64 v.o2,.int .i64 v.o3,.string v.value,.bool v.gone,(.slice T Y V)] 89)):=(U _ _).alloc _;have x:=Blk.new w [.int .i64 2,.int .i64 a,.int .i64 b,.string i,.string d,.int .i64 v.node,.int .i64 v.seq,.int .i64 v.o0,.int .i64 v.o1,.int .i64 v.o2,.int .i64 v.o3,.string v.value,.bool v.gone,(.slice T Y V)] 89;have j:=K.nil f1;have p:=j.st.Ay.cell;have q:=x.cell;simp only[zp] at p;have HP:=Z (fun k (f:Fr Nil _ k)=>((j.nil f).wR G hn ht Q hB i d).mono (fun _ _ h=>h.back f));have E:=Z (hs.nil f1);have l:=Z j.st.node;have g:=Z x;have C:=Z j;clear f1 j K hs;go_enter ED,El;go_wp2_with fail;generalize w.alloc (.cells #[.int .i64 2,.int .i64 a,.int .i64 b,.string i,.string d,.int .i64 v.node,.int .i64 v.seq,.int .i64 v.o0,.int .i64 v.o1,.int .i64 v.o2,.int .i64 v.o3,.string v.value,.bool v.gone,(.slice T Y V)] 89)=w1 at p q HP E l g C x |-;have a4:=And.intro (p 1) (And.intro (q 3) (q 4));simp only[Dt,Em] at a4;have a0:Hid (∀ k,Fr Nil w1 k->k.cell? ⟨A,1,none⟩=some (.pointer (some ⟨X.nb,0,none⟩))/\k.cell? ⟨w.heap.size,3,none⟩=some (.string i)/\k.cell? ⟨w.heap.size,4,none⟩=some (.string d)):=fun k f=>⟨(C.out.nil f).st.Ay.cell 1,(g.out.fr f id).cell 3,(g.out.fr f id).cell 4⟩
 go_region_held3 (fun k=>k.cell? ⟨A,1,none⟩=some (.pointer (some ⟨X.nb,0,none⟩))/\k.cell? ⟨w.heap.size,3,none⟩=some (.string i)/\k.cell? ⟨w.heap.size,4,none⟩=some (.string d)) (first|assumption|go_keep|exact a0.out _ zd)
  ((go_at_call 22;refine(HP.out _ zd).mono ?_;rintro e w2 ⟨a6,er,X',N',M',W',rfl,s,a3,b1,L,I,r⟩;have b2:w2.cell? ⟨A,1,none⟩=some (.pointer (some ⟨X.nb,0,none⟩))/\w2.cell? ⟨w.heap.size,3,none⟩=some (.string i)/\w2.cell? ⟨w.heap.size,4,none⟩=some (.string d):=⟨by rw[<- a3];exact s.st.Ay.cell 1,(g.out.fr r (l.out.apart g.out.ty (by decide) (by decide) (by decide) (by decide) (by decide) (by unfold DTy;decide) (by decide))).cell 3,(g.out.fr r (l.out.apart g.out.ty (by decide) (by decide) (by decide) (by decide) (by decide) (by unfold DTy;decide) (by decide))).cell 4⟩))
 have D:=Z (VK s (E.out.wX l.out r) a6 er I (u:=t+10) (by omega) (by omega));have a1:=Z L;have b0:=s.st.Ay.cell;clear s L I r HP p q;go_wp2_with fail;refine D.out.mono ?_;rintro e w3 ⟨rfl,m,y,a5,O,J⟩;have HR:Hid (Str S w3 A n (t+10)):=.inl ⟨m,y,a5,W',X',N',M',O,J,a1.out⟩;clear O J D;go_wp2_with fail;go_ret;exact⟨rfl,HR.out⟩
theorem Ha(G:zl){B:Nat}{S w:World}{A n t:Nat}(Q:zG B S)(hB:B<=S.heap.size)(h:Yv S w A n t)(o:OpM)(T:Option Addr)(Y V:Nat)(R:o.yw=.slice T Y V)(hk:o.kind=3)(ht:t+20<=980000) :
 Calls Tryz.prog 68 #[.pointer (some ⟨A,0,none⟩),.agg o.yb.toArray] w (X3 S A n (t+10)):=by
 obtain⟨a2,a9,ns,W,X,N,M,hs,K,hn⟩:=h;obtain⟨a8,a,b,c,i,d,v,a7⟩:=o;simp only at hk R;subst hk R;simp only[OpM.yb,Ver.cells,GC,GP];have f1:Fr Nil w (w.alloc (.cells #[.int .i64 3,.int .i64 a,.int .i64 b,.string i,.string d,.int .i64 v.node,.int .i64 v.seq,.int .i64 v.o0,.int .i64 v.o1,.int .i64 v.o2,.int .i64 v.o3,.string v.value,.bool v.gone,(.slice T Y V)] 89)):=(U _ _).alloc _;have x:=Blk.new w [.int .i64 3,.int .i64 a,.int .i64 b,.string i,.string d,.int .i64 v.node,.int .i64 v.seq,.int .i64 v.o0,.int .i64 v.o1,.int .i64 v.o2,.int .i64 v.o3,.string v.value,.bool v.gone,(.slice T Y V)] 89;have j:=K.nil f1;have p:=j.st.Ay.cell;have q:=x.cell;simp only[zp] at p;have HP:=Z (fun k (f:Fr Nil _ k)=>((j.nil f).xE G hn ht Q hB i).mono (fun _ _ h=>h.back f));have E:=Z (hs.nil f1);have l:=Z j.st.node;have g:=Z x;have C:=Z j;clear f1 j K hs;go_enter ED,El;go_wp2_with fail;generalize w.alloc (.cells #[.int .i64 3,.int .i64 a,.int .i64 b,.string i,.string d,.int .i64 v.node,.int .i64 v.seq,.int .i64 v.o0,.int .i64 v.o1,.int .i64 v.o2,.int .i64 v.o3,.string v.value,.bool v.gone,(.slice T Y V)] 89)=w1 at p q HP E l g C x |-;have a4:=And.intro (p 1) (And.intro (q 3) (q 4));simp only[Dt,Em] at a4;have a0:Hid (∀ k,Fr Nil w1 k->k.cell? ⟨A,1,none⟩=some (.pointer (some ⟨X.nb,0,none⟩))/\k.cell? ⟨w.heap.size,3,none⟩=some (.string i)/\k.cell? ⟨w.heap.size,4,none⟩=some (.string d)):=fun k f=>⟨(C.out.nil f).st.Ay.cell 1,(g.out.fr f id).cell 3,(g.out.fr f id).cell 4⟩
 go_region_held3 (fun k=>k.cell? ⟨A,1,none⟩=some (.pointer (some ⟨X.nb,0,none⟩))/\k.cell? ⟨w.heap.size,3,none⟩=some (.string i)/\k.cell? ⟨w.heap.size,4,none⟩=some (.string d)) (first|assumption|go_keep|exact a0.out _ zd)
  ((go_at_call 30;refine(HP.out _ zd).mono ?_;rintro e w2 ⟨a6,er,X',N',M',W',rfl,s,a3,b1,L,I,r⟩;have b2:w2.cell? ⟨A,1,none⟩=some (.pointer (some ⟨X.nb,0,none⟩))/\w2.cell? ⟨w.heap.size,3,none⟩=some (.string i)/\w2.cell? ⟨w.heap.size,4,none⟩=some (.string d):=⟨by rw[<- a3];exact s.st.Ay.cell 1,(g.out.fr r (l.out.apart g.out.ty (by decide) (by decide) (by decide) (by decide) (by decide) (by unfold DTy;decide) (by decide))).cell 3,(g.out.fr r (l.out.apart g.out.ty (by decide) (by decide) (by decide) (by decide) (by decide) (by unfold DTy;decide) (by decide))).cell 4⟩))
 have D:=Z (VK s (E.out.wX l.out r) a6 er I (u:=t+10) (by omega) (by omega));have a1:=Z L;have b0:=s.st.Ay.cell;clear s L I r HP p q;go_wp2_with fail;refine D.out.mono ?_;rintro e w3 ⟨rfl,m,y,a5,O,J⟩;have HR:Hid (Str S w3 A n (t+10)):=.inl ⟨m,y,a5,W',X',N',M',O,J,a1.out⟩;clear O J D;go_wp2_with fail;go_ret;exact⟨rfl,HR.out⟩
theorem Hb(R:zl){B:Nat}{w0 w:World}{G n t:Nat}(V:zG B w0)(hB:B<=w0.heap.size)(h:Yv w0 w G n t)(o:OpM)(r:Option Addr)(x s:Nat)(Y:o.yw=.slice r x s)(hk:o.kind=4)(ht:t+20<=980000) :
 Calls Tryz.prog 68 #[.pointer (some ⟨G,0,none⟩),.agg o.yb.toArray] w (X3 w0 G n (t+10)):=by
 obtain⟨C,a1,ns,W,X,N,M,hs,S,hn⟩:=h;obtain⟨a8,a,b,c,g,d,v,a7⟩:=o;simp only at hk Y;subst hk Y;simp only[OpM.yb,Ver.cells,GC,GP];have f1:Fr Nil w (w.alloc (.cells #[.int .i64 4,.int .i64 a,.int .i64 b,.string g,.string d,.int .i64 v.node,.int .i64 v.seq,.int .i64 v.o0,.int .i64 v.o1,.int .i64 v.o2,.int .i64 v.o3,.string v.value,.bool v.gone,(.slice r x s)] 89)):=(U _ _).alloc _;have p:=Blk.new w [.int .i64 4,.int .i64 a,.int .i64 b,.string g,.string d,.int .i64 v.node,.int .i64 v.seq,.int .i64 v.o0,.int .i64 v.o1,.int .i64 v.o2,.int .i64 v.o3,.string v.value,.bool v.gone,(.slice r x s)] 89;have l:=S.nil f1;have q:=l.st.Ay.cell;have D:=p.cell;simp only[zp] at q;have HP:=Z (fun j (f:Fr Nil _ j)=>((l.nil f).xH R hn ht V hB g v).mono (fun _ _ h=>h.back f));have A:=Z (hs.nil f1);have y:=Z l.st.node;have m:=Z p;have K:=Z l;clear f1 l S hs;go_enter ED,El;go_wp2_with fail;generalize w.alloc (.cells #[.int .i64 4,.int .i64 a,.int .i64 b,.string g,.string d,.int .i64 v.node,.int .i64 v.seq,.int .i64 v.o0,.int .i64 v.o1,.int .i64 v.o2,.int .i64 v.o3,.string v.value,.bool v.gone,(.slice r x s)] 89)=w1 at q D HP A y m K p |-;have a5:w1.cell? ⟨G,1,none⟩=some (.pointer (some ⟨X.nb,0,none⟩))/\∀ k,w1.cell? ⟨w.heap.size,k,none⟩=[.int .i64 4,.int .i64 a,.int .i64 b,.string g,.string d,.int .i64 v.node,.int .i64 v.seq,.int .i64 v.o0,.int .i64 v.o1,.int .i64 v.o2,.int .i64 v.o3,.string v.value,.bool v.gone,(.slice r x s)][k]?:=⟨q 1,D⟩;have I:Hid (∀ j,Fr Nil w1 j->j.cell? ⟨G,1,none⟩=some (.pointer (some ⟨X.nb,0,none⟩))/\∀ k,j.cell? ⟨w.heap.size,k,none⟩=[.int .i64 4,.int .i64 a,.int .i64 b,.string g,.string d,.int .i64 v.node,.int .i64 v.seq,.int .i64 v.o0,.int .i64 v.o1,.int .i64 v.o2,.int .i64 v.o3,.string v.value,.bool v.gone,(.slice r x s)][k]?):=fun j f=>⟨(K.out.nil f).st.Ay.cell 1,(m.out.fr f id).cell⟩
 go_region_held3 (fun j=>j.cell? ⟨G,1,none⟩=some (.pointer (some ⟨X.nb,0,none⟩))/\∀ k,j.cell? ⟨w.heap.size,k,none⟩=[.int .i64 4,.int .i64 a,.int .i64 b,.string g,.string d,.int .i64 v.node,.int .i64 v.seq,.int .i64 v.o0,.int .i64 v.o1,.int .i64 v.o2,.int .i64 v.o3,.string v.value,.bool v.gone,(.slice r x s)][k]?) (first|assumption|go_keep|exact I.out _ zd)
  ((go_at_call 91;refine(HP.out _ zd).mono ?_;rintro e w2 ⟨v2,X',N',M',W',rfl,i,Q,a3,T,a0,E⟩;have a6:w2.cell? ⟨G,1,none⟩=some (.pointer (some ⟨X.nb,0,none⟩))/\∀ k,w2.cell? ⟨w.heap.size,k,none⟩=[.int .i64 4,.int .i64 a,.int .i64 b,.string g,.string d,.int .i64 v.node,.int .i64 v.seq,.int .i64 v.o0,.int .i64 v.o1,.int .i64 v.o2,.int .i64 v.o3,.string v.value,.bool v.gone,(.slice r x s)][k]?:=⟨by rw[<- Q];exact i.st.Ay.cell 1,(m.out.fr E (y.out.apart m.out.ty (by decide) (by decide) (by decide) (by decide) (by decide) (by unfold DTy;decide) (by decide))).cell⟩))
 clear a6;have O:=Z (A.out.up (A.out.row.node y.out E) a0 (u:=t+10) (by omega));have J:=Z i;have L:=Z T;have a2:=i.st.Ay.cell;have a9:=i.st.Ay.frozen;simp only[zp] at a2;have HD:=Z (Y1 w2 X'.db X'.LD M' i.st.node.AH);clear i T a0 E HP q D Q a3 I a5 p;cases hdd:M'.dead with
 | true =>
  rw[hdd] at HD
  go_wp2_with (refine HD.out.mono ?_;rintro e j ⟨rfl,a4⟩;subst j)
  go_ret;exact⟨rfl,.inr (Yv.shut J.out L.out O.out (Wup.refl _) (Gb _))⟩
 | false =>
  rw[hdd] at HD
  go_wp2_with (refine HD.out.mono ?_;rintro e j ⟨rfl,a4⟩;subst j)
  go_ret;exact⟨rfl,.inl ⟨C,a1,ns,W',X',N',M',O.out,J.out,L.out⟩⟩
theorem Hc(R:zl){B:Nat}{w0 w:World}{G n t:Nat}(V:zG B w0)(hB:B<=w0.heap.size)(h:Yv w0 w G n t)(o:OpM)(r:Option Addr)(x s:Nat)(Y:o.yw=.slice r x s)(hk:o.kind=7)(ht:t+20<=980000) :
 Calls Tryz.prog 68 #[.pointer (some ⟨G,0,none⟩),.agg o.yb.toArray] w (X3 w0 G n (t+10)):=by
 obtain⟨C,a1,ns,W,X,N,M,hs,S,hn⟩:=h;obtain⟨a8,a,b,c,g,d,v,a7⟩:=o;simp only at hk Y;subst hk Y;simp only[OpM.yb,Ver.cells,GC,GP];have f1:Fr Nil w (w.alloc (.cells #[.int .i64 7,.int .i64 a,.int .i64 b,.string g,.string d,.int .i64 v.node,.int .i64 v.seq,.int .i64 v.o0,.int .i64 v.o1,.int .i64 v.o2,.int .i64 v.o3,.string v.value,.bool v.gone,(.slice r x s)] 89)):=(U _ _).alloc _;have p:=Blk.new w [.int .i64 7,.int .i64 a,.int .i64 b,.string g,.string d,.int .i64 v.node,.int .i64 v.seq,.int .i64 v.o0,.int .i64 v.o1,.int .i64 v.o2,.int .i64 v.o3,.string v.value,.bool v.gone,(.slice r x s)] 89;have l:=S.nil f1;have q:=l.st.Ay.cell;have D:=p.cell;simp only[zp] at q;have HP:=Z (fun j (f:Fr Nil _ j)=>((l.nil f).wF R hn ht V hB a d).mono (fun _ _ h=>h.back f));have A:=Z (hs.nil f1);have y:=Z l.st.node;have m:=Z p;have K:=Z l;clear f1 l S hs;go_enter ED,El;go_wp2_with fail;generalize w.alloc (.cells #[.int .i64 7,.int .i64 a,.int .i64 b,.string g,.string d,.int .i64 v.node,.int .i64 v.seq,.int .i64 v.o0,.int .i64 v.o1,.int .i64 v.o2,.int .i64 v.o3,.string v.value,.bool v.gone,(.slice r x s)] 89)=w1 at q D HP A y m K p |-;have a5:w1.cell? ⟨G,1,none⟩=some (.pointer (some ⟨X.nb,0,none⟩))/\∀ k,w1.cell? ⟨w.heap.size,k,none⟩=[.int .i64 7,.int .i64 a,.int .i64 b,.string g,.string d,.int .i64 v.node,.int .i64 v.seq,.int .i64 v.o0,.int .i64 v.o1,.int .i64 v.o2,.int .i64 v.o3,.string v.value,.bool v.gone,(.slice r x s)][k]?:=⟨q 1,D⟩;have I:Hid (∀ j,Fr Nil w1 j->j.cell? ⟨G,1,none⟩=some (.pointer (some ⟨X.nb,0,none⟩))/\∀ k,j.cell? ⟨w.heap.size,k,none⟩=[.int .i64 7,.int .i64 a,.int .i64 b,.string g,.string d,.int .i64 v.node,.int .i64 v.seq,.int .i64 v.o0,.int .i64 v.o1,.int .i64 v.o2,.int .i64 v.o3,.string v.value,.bool v.gone,(.slice r x s)][k]?):=fun j f=>⟨(K.out.nil f).st.Ay.cell 1,(m.out.fr f id).cell⟩
 go_region_held3 (fun j=>j.cell? ⟨G,1,none⟩=some (.pointer (some ⟨X.nb,0,none⟩))/\∀ k,j.cell? ⟨w.heap.size,k,none⟩=[.int .i64 7,.int .i64 a,.int .i64 b,.string g,.string d,.int .i64 v.node,.int .i64 v.seq,.int .i64 v.o0,.int .i64 v.o1,.int .i64 v.o2,.int .i64 v.o3,.string v.value,.bool v.gone,(.slice r x s)][k]?) (first|assumption|go_keep|exact I.out _ zd)
  ((go_at_call 31;refine(HP.out _ zd).mono ?_;rintro e w2 ⟨v2,X',N',M',W',rfl,i,Q,a3,T,a0,E⟩;have a6:w2.cell? ⟨G,1,none⟩=some (.pointer (some ⟨X.nb,0,none⟩))/\∀ k,w2.cell? ⟨w.heap.size,k,none⟩=[.int .i64 7,.int .i64 a,.int .i64 b,.string g,.string d,.int .i64 v.node,.int .i64 v.seq,.int .i64 v.o0,.int .i64 v.o1,.int .i64 v.o2,.int .i64 v.o3,.string v.value,.bool v.gone,(.slice r x s)][k]?:=⟨by rw[<- Q];exact i.st.Ay.cell 1,(m.out.fr E (y.out.apart m.out.ty (by decide) (by decide) (by decide) (by decide) (by decide) (by unfold DTy;decide) (by decide))).cell⟩))
 clear a6;have O:=Z (A.out.up (A.out.row.node y.out E) a0 (u:=t+10) (by omega));have J:=Z i;have L:=Z T;have a2:=i.st.Ay.cell;have a9:=i.st.Ay.frozen;simp only[zp] at a2;have HD:=Z (Y1 w2 X'.db X'.LD M' i.st.node.AH);clear i T a0 E HP q D Q a3 I a5 p;cases hdd:M'.dead with
 | true =>
  rw[hdd] at HD
  go_wp2_with (refine HD.out.mono ?_;rintro e j ⟨rfl,a4⟩;subst j)
  go_ret;exact⟨rfl,.inr (Yv.shut J.out L.out O.out (Wup.refl _) (Gb _))⟩
 | false =>
  rw[hdd] at HD
  go_wp2_with (refine HD.out.mono ?_;rintro e j ⟨rfl,a4⟩;subst j)
  go_ret;exact⟨rfl,.inl ⟨C,a1,ns,W',X',N',M',O.out,J.out,L.out⟩⟩
theorem Hd(K:zl){B:Nat}{w0 w:World}{Y n t:Nat}(R:zG B w0)(hB:B<=w0.heap.size)(h:Yv w0 w Y n t)(o:OpM)(x:Option Addr)(A y:Nat)(S:o.yw=.slice x A y)(hk:o.kind=9)(ht:t+20<=980000) :
 Calls Tryz.prog 68 #[.pointer (some ⟨Y,0,none⟩),.agg o.yb.toArray] w (X3 w0 Y n (t+10)):=by
 obtain⟨r,V,ns,W,X,N,M,hs,O,hn⟩:=h;obtain⟨a7,a,b,c,j,d,v,a6⟩:=o;simp only at hk S;subst hk S;simp only[OpM.yb,Ver.cells,GC,GP];have f1:Fr Nil w (w.alloc (.cells #[.int .i64 9,.int .i64 a,.int .i64 b,.string j,.string d,.int .i64 v.node,.int .i64 v.seq,.int .i64 v.o0,.int .i64 v.o1,.int .i64 v.o2,.int .i64 v.o3,.string v.value,.bool v.gone,(.slice x A y)] 89)):=(U _ _).alloc _;have m:=Blk.new w [.int .i64 9,.int .i64 a,.int .i64 b,.string j,.string d,.int .i64 v.node,.int .i64 v.seq,.int .i64 v.o0,.int .i64 v.o1,.int .i64 v.o2,.int .i64 v.o3,.string v.value,.bool v.gone,(.slice x A y)] 89;have g:=O.nil f1;have p:=g.st.Ay.cell;have s:=m.cell;simp only[zp] at p;have HP:=Z (fun l (f:Fr Nil _ l)=>((g.nil f).wL K hn ht R hB).mono (fun _ _ h=>h.back f));have q:=Z (hs.nil f1);have I:=Z g.st.node;have C:=Z m;have E:=Z g;clear f1 g O hs;go_enter ED,El;go_wp2_with fail;generalize w.alloc (.cells #[.int .i64 9,.int .i64 a,.int .i64 b,.string j,.string d,.int .i64 v.node,.int .i64 v.seq,.int .i64 v.o0,.int .i64 v.o1,.int .i64 v.o2,.int .i64 v.o3,.string v.value,.bool v.gone,(.slice x A y)] 89)=w1 at p s HP q I C E m |-;have a5:w1.cell? ⟨Y,1,none⟩=some (.pointer (some ⟨X.nb,0,none⟩))/\∀ k,w1.cell? ⟨w.heap.size,k,none⟩=[.int .i64 9,.int .i64 a,.int .i64 b,.string j,.string d,.int .i64 v.node,.int .i64 v.seq,.int .i64 v.o0,.int .i64 v.o1,.int .i64 v.o2,.int .i64 v.o3,.string v.value,.bool v.gone,(.slice x A y)][k]?:=⟨p 1,s⟩;have a0:Hid (∀ l,Fr Nil w1 l->l.cell? ⟨Y,1,none⟩=some (.pointer (some ⟨X.nb,0,none⟩))/\∀ k,l.cell? ⟨w.heap.size,k,none⟩=[.int .i64 9,.int .i64 a,.int .i64 b,.string j,.string d,.int .i64 v.node,.int .i64 v.seq,.int .i64 v.o0,.int .i64 v.o1,.int .i64 v.o2,.int .i64 v.o3,.string v.value,.bool v.gone,(.slice x A y)][k]?):=fun l f=>⟨(E.out.nil f).st.Ay.cell 1,(C.out.fr f id).cell⟩;refine(HP.out _ zd).mono ?_;rintro e w2 ⟨v2,X',N',M',W',rfl,i,a1,a3,Q,T,L⟩;have J:=Z (q.out.up (q.out.row.node I.out L) T (u:=t+10) (by omega));have D:=Z i;have G:=Z Q;have a2:=i.st.Ay.cell;have a8:=i.st.Ay.frozen;simp only[zp] at a2;have HD:=Z (Y1 w2 X'.db X'.LD M' i.st.node.AH);clear i Q T L HP p s a1 a3 a0 a5 m;cases hdd:M'.dead with
 | true =>
  rw[hdd] at HD
  go_wp2_with (refine HD.out.mono ?_;rintro e l ⟨rfl,a4⟩;subst l)
  go_ret;exact⟨rfl,.inr (Yv.shut D.out G.out J.out (Wup.refl _) (Gb _))⟩
 | false =>
  rw[hdd] at HD
  go_wp2_with (refine HD.out.mono ?_;rintro e l ⟨rfl,a4⟩;subst l)
  go_ret;exact⟨rfl,.inl ⟨r,V,ns,W',X',N',M',J.out,D.out,G.out⟩⟩
theorem Ir(K:zl){B:Nat}{w0 w:World}{Y n t:Nat}(R:zG B w0)(hB:B<=w0.heap.size)(h:Yv w0 w Y n t)(o:OpM)(x:Option Addr)(A y:Nat)(S:o.yw=.slice x A y)(hk:o.kind=11)(ht:t+20<=980000) :
 Calls Tryz.prog 68 #[.pointer (some ⟨Y,0,none⟩),.agg o.yb.toArray] w (X3 w0 Y n (t+10)):=by
 obtain⟨r,V,ns,W,X,N,M,hs,O,hn⟩:=h;obtain⟨a7,a,b,c,j,d,v,a6⟩:=o;simp only at hk S;subst hk S;simp only[OpM.yb,Ver.cells,GC,GP];have f1:Fr Nil w (w.alloc (.cells #[.int .i64 11,.int .i64 a,.int .i64 b,.string j,.string d,.int .i64 v.node,.int .i64 v.seq,.int .i64 v.o0,.int .i64 v.o1,.int .i64 v.o2,.int .i64 v.o3,.string v.value,.bool v.gone,(.slice x A y)] 89)):=(U _ _).alloc _;have m:=Blk.new w [.int .i64 11,.int .i64 a,.int .i64 b,.string j,.string d,.int .i64 v.node,.int .i64 v.seq,.int .i64 v.o0,.int .i64 v.o1,.int .i64 v.o2,.int .i64 v.o3,.string v.value,.bool v.gone,(.slice x A y)] 89;have g:=O.nil f1;have p:=g.st.Ay.cell;have s:=m.cell;simp only[zp] at p;have HP:=Z (fun l (f:Fr Nil _ l)=>((g.nil f).sync_any K hn ht R hB).mono (fun _ _ h=>h.back f));have q:=Z (hs.nil f1);have I:=Z g.st.node;have C:=Z m;have E:=Z g;clear f1 g O hs;go_enter ED,El;go_wp2_with fail;generalize w.alloc (.cells #[.int .i64 11,.int .i64 a,.int .i64 b,.string j,.string d,.int .i64 v.node,.int .i64 v.seq,.int .i64 v.o0,.int .i64 v.o1,.int .i64 v.o2,.int .i64 v.o3,.string v.value,.bool v.gone,(.slice x A y)] 89)=w1 at p s HP q I C E m |-;have a5:w1.cell? ⟨Y,1,none⟩=some (.pointer (some ⟨X.nb,0,none⟩))/\∀ k,w1.cell? ⟨w.heap.size,k,none⟩=[.int .i64 11,.int .i64 a,.int .i64 b,.string j,.string d,.int .i64 v.node,.int .i64 v.seq,.int .i64 v.o0,.int .i64 v.o1,.int .i64 v.o2,.int .i64 v.o3,.string v.value,.bool v.gone,(.slice x A y)][k]?:=⟨p 1,s⟩;have a0:Hid (∀ l,Fr Nil w1 l->l.cell? ⟨Y,1,none⟩=some (.pointer (some ⟨X.nb,0,none⟩))/\∀ k,l.cell? ⟨w.heap.size,k,none⟩=[.int .i64 11,.int .i64 a,.int .i64 b,.string j,.string d,.int .i64 v.node,.int .i64 v.seq,.int .i64 v.o0,.int .i64 v.o1,.int .i64 v.o2,.int .i64 v.o3,.string v.value,.bool v.gone,(.slice x A y)][k]?):=fun l f=>⟨(E.out.nil f).st.Ay.cell 1,(C.out.fr f id).cell⟩;refine(HP.out _ zd).mono ?_;rintro e w2 ⟨v2,X',N',M',W',rfl,i,a1,a3,Q,T,L⟩;have J:=Z (q.out.up (q.out.row.node I.out L) T (u:=t+10) (by omega));have D:=Z i;have G:=Z Q;have a2:=i.st.Ay.cell;have a8:=i.st.Ay.frozen;simp only[zp] at a2;have HD:=Z (Y1 w2 X'.db X'.LD M' i.st.node.AH);clear i Q T L HP p s a1 a3 a0 a5 m;cases hdd:M'.dead with
 | true =>
  rw[hdd] at HD
  go_wp2_with (refine HD.out.mono ?_;rintro e l ⟨rfl,a4⟩;subst l)
  go_ret;exact⟨rfl,.inr (Yv.shut D.out G.out J.out (Wup.refl _) (Gb _))⟩
 | false =>
  rw[hdd] at HD
  go_wp2_with (refine HD.out.mono ?_;rintro e l ⟨rfl,a4⟩;subst l)
  go_ret;exact⟨rfl,.inl ⟨r,V,ns,W',X',N',M',J.out,D.out,G.out⟩⟩
theorem Is(K:zl){B:Nat}{w0 w:World}{Y n t:Nat}(R:zG B w0)(hB:B<=w0.heap.size)(h:Yv w0 w Y n t)(o:OpM)(x:Option Addr)(A y:Nat)(S:o.yw=.slice x A y)(hk:o.kind=15)(ht:t+20<=980000) :
 Calls Tryz.prog 68 #[.pointer (some ⟨Y,0,none⟩),.agg o.yb.toArray] w (X3 w0 Y n (t+10)):=by
 obtain⟨r,V,ns,W,X,N,M,hs,O,hn⟩:=h;obtain⟨a7,a,b,c,j,d,v,a6⟩:=o;simp only at hk S;subst hk S;simp only[OpM.yb,Ver.cells,GC,GP];have f1:Fr Nil w (w.alloc (.cells #[.int .i64 15,.int .i64 a,.int .i64 b,.string j,.string d,.int .i64 v.node,.int .i64 v.seq,.int .i64 v.o0,.int .i64 v.o1,.int .i64 v.o2,.int .i64 v.o3,.string v.value,.bool v.gone,(.slice x A y)] 89)):=(U _ _).alloc _;have m:=Blk.new w [.int .i64 15,.int .i64 a,.int .i64 b,.string j,.string d,.int .i64 v.node,.int .i64 v.seq,.int .i64 v.o0,.int .i64 v.o1,.int .i64 v.o2,.int .i64 v.o3,.string v.value,.bool v.gone,(.slice x A y)] 89;have g:=O.nil f1;have p:=g.st.Ay.cell;have s:=m.cell;simp only[zp] at p;have HP:=Z (fun l (f:Fr Nil _ l)=>((g.nil f).we K hn ht R hB).mono (fun _ _ h=>h.back f));have q:=Z (hs.nil f1);have I:=Z g.st.node;have C:=Z m;have E:=Z g;clear f1 g O hs;go_enter ED,El;go_wp2_with fail;generalize w.alloc (.cells #[.int .i64 15,.int .i64 a,.int .i64 b,.string j,.string d,.int .i64 v.node,.int .i64 v.seq,.int .i64 v.o0,.int .i64 v.o1,.int .i64 v.o2,.int .i64 v.o3,.string v.value,.bool v.gone,(.slice x A y)] 89)=w1 at p s HP q I C E m |-;have a5:w1.cell? ⟨Y,1,none⟩=some (.pointer (some ⟨X.nb,0,none⟩))/\∀ k,w1.cell? ⟨w.heap.size,k,none⟩=[.int .i64 15,.int .i64 a,.int .i64 b,.string j,.string d,.int .i64 v.node,.int .i64 v.seq,.int .i64 v.o0,.int .i64 v.o1,.int .i64 v.o2,.int .i64 v.o3,.string v.value,.bool v.gone,(.slice x A y)][k]?:=⟨p 1,s⟩;have a0:Hid (∀ l,Fr Nil w1 l->l.cell? ⟨Y,1,none⟩=some (.pointer (some ⟨X.nb,0,none⟩))/\∀ k,l.cell? ⟨w.heap.size,k,none⟩=[.int .i64 15,.int .i64 a,.int .i64 b,.string j,.string d,.int .i64 v.node,.int .i64 v.seq,.int .i64 v.o0,.int .i64 v.o1,.int .i64 v.o2,.int .i64 v.o3,.string v.value,.bool v.gone,(.slice x A y)][k]?):=fun l f=>⟨(E.out.nil f).st.Ay.cell 1,(C.out.fr f id).cell⟩;refine(HP.out _ zd).mono ?_;rintro e w2 ⟨v2,X',N',M',W',rfl,i,a1,a3,Q,T,L⟩;have J:=Z (q.out.up (q.out.row.node I.out L) T (u:=t+10) (by omega));have D:=Z i;have G:=Z Q;have a2:=i.st.Ay.cell;have a8:=i.st.Ay.frozen;simp only[zp] at a2;have HD:=Z (Y1 w2 X'.db X'.LD M' i.st.node.AH);clear i Q T L HP p s a1 a3 a0 a5 m;cases hdd:M'.dead with
 | true =>
  rw[hdd] at HD
  go_wp2_with (refine HD.out.mono ?_;rintro e l ⟨rfl,a4⟩;subst l)
  go_ret;exact⟨rfl,.inr (Yv.shut D.out G.out J.out (Wup.refl _) (Gb _))⟩
 | false =>
  rw[hdd] at HD
  go_wp2_with (refine HD.out.mono ?_;rintro e l ⟨rfl,a4⟩;subst l)
  go_ret;exact⟨rfl,.inl ⟨r,V,ns,W',X',N',M',J.out,D.out,G.out⟩⟩
def US(c w:World)(g n t:Nat):Prop:=∃ a b h W f d e M,Ns c w n a b h W t/\StC w g f d n a b e M/\Fr Nil c w/\c.heap.size<=g/\(∀ k,Foot f e M k->c.heap.size<=k)/\(∃ F p,Sh W M F p t)/\(d=.pointer none\/∃ k,d=.pointer (some ⟨k,0,none⟩))
theorem Str.any{m w:World}{l n t:Nat}(h:Str m w l n t):US m w l n t:=by
 rcases h with⟨a,c,j,W,X,N,M,g,f,o⟩|⟨a,c,j,W,r,q,M,g,d,i⟩
 .exact⟨a,c,j,W,_,_,_,M,g,f.closed,f.fr,f.low,fun k e=>f.new k (.inr (.inr (.inr (.inl e)))),o.sh,.inr ⟨_,rfl⟩⟩
 .exact⟨a,c,j,W,_,_,_,M,g,d.st,d.fr,d.low,d.new,i,.inl rfl⟩
theorem Opd.up{W:WM}{M:DM}{b:Nat}{N:NM}{d:DM}{c:WM}(h:Opd W M b N d c):Wup W c 1:=by
 obtain⟨a,i,j,m,g,_,_,_,e,rfl⟩:=h.found;have:=O4 {W with ye:=a,calls:=W.calls+1,broken:=false,every:=b,writes:=0} N m;rw[e] at this;exact⟨rfl,rfl,this,rfl⟩
theorem Ns.opened{g w f:World}{n a:Nat}{b:Value}{d:List Nat}{W e:WM}{t u:Nat}(h:Ns g w n a b d W t)(i:Zi f b d)(c:Wup W e 1)(k:t+1<=u):Ns g f n (a+1) b d e u :=
 ⟨i,h.new,by have:=h.len;omega,by have:=h.top;omega,c.node.trans h.node,c.room.trans h.room,by have:=c.calls;have:=h.calls;omega,fun x j=>Gc (h.last x j) c.most⟩
theorem LG(x:zl){B:Nat}{E w:World}{I n t:Nat}(D:zG B E)(G:B<=E.heap.size)(h:US E w I n t)(u v:Int)(A:InR u)(C:InR v)(ht:t<=890000)(R:n<4) :
 Calls Tryz.prog 76 #[.pointer (some ⟨I,0,none⟩),.int .i64 u,.int .i64 v] w (X3 E I n (t+10)):=by
 obtain⟨a,c,ns,W,db,nv,LD,M,s,m,j,g,o,a0,_⟩:=h;have a2:=s.top;refine(Q5 x B I db n a nv c W LD M u v t w m (D.fr G j (fun _ e=>absurd e id)) (Gc G j.size) (Gc G g) (fun k d=>Gc G (o k d)) a0 ht s.node R (by omega) A C).mono ?_;rintro e w' ⟨rfl,f,r⟩;have y:Fr Nil E w':=j.trans' f (fun i hi e=>by
  rcases e with e|e
  .omega
  .have:=o i e;omega)
 have q:Zi w' c ns:=ze s.row f (fun k d e=>by
  rcases e with e|e
  .exact zi s.row m.Ay (by decide) (by rw[d,e])
  .exact m.AH.apart (zE s.row d) (by unfold DTy;decide) e)
 have a3:=m.Ay.lt;have a4:=j.size;rcases r with⟨X,N,K,L,a1,⟨F,p,S⟩,T,l,Q⟩|⟨O,J,K,L,Y,V,b,l⟩
 .exact⟨rfl,.inl ⟨a+1,c,ns,L,X,N,K,s.opened q T.up (by omega),⟨a1,y,g,fun k d=>by have:=l k d;omega,fun k d e=>by have:=l k d;omega,fun k d e=>by have:=Q k d;omega⟩,.inl ⟨F,p,S⟩⟩⟩
 .exact⟨rfl,.inr ⟨a+1,c,ns,L,O,J,K,s.opened q ⟨b.node,b.calls,Ex b.most.symm,b.yF⟩ (by omega),⟨Y,y,g,fun k d=>by have:=l k d;omega⟩,V⟩⟩
theorem US.nil{s w w':World}{r n t:Nat}(h:US s w r n t)(f:Fr Nil w w'):US s w' r n t:=by
 obtain⟨a,g,B,W,y,C,x,M,A,e,m,c,d,q,o⟩:=h;exact⟨a,g,B,W,y,C,x,M,A.nil f,⟨e.Ay.fr f id,e.AH.nil f⟩,m.trans f,c,d,q,o⟩
theorem He(g:zl){B:Nat}{l w:World}{p n t:Nat}(i:zG B l)(J:B<=l.heap.size)(h:US l w p n t)(o:OpM)(q:Option Addr)(u s:Nat)(j:o.yw=.slice q u s)(C:o.kind=1)(y:InR o.a)(A:InR o.b)(L:t<=890000)(m:n<4) :
 Calls Tryz.prog 68 #[.pointer (some ⟨p,0,none⟩),.agg o.yb.toArray] w (X3 l p n (t+10)):=by
 obtain⟨E,a,b,c,k,d,v,r⟩:=o;simp only at C j y A;subst C j;simp only[OpM.yb,Ver.cells,GC,GP];have x:Fr Nil w (w.alloc (.cells #[.int .i64 1,.int .i64 a,.int .i64 b,.string k,.string d,.int .i64 v.node,.int .i64 v.seq,.int .i64 v.o0,.int .i64 v.o1,.int .i64 v.o2,.int .i64 v.o3,.string v.value,.bool v.gone,(.slice q u s)] 89)):=(U _ _).alloc _;have f:=Blk.new w [.int .i64 1,.int .i64 a,.int .i64 b,.string k,.string d,.int .i64 v.node,.int .i64 v.seq,.int .i64 v.o0,.int .i64 v.o1,.int .i64 v.o2,.int .i64 v.o3,.string v.value,.bool v.gone,(.slice q u s)] 89;have K:=f.cell;have G:=Z (LG g i J (h.nil x) a b y A L m);clear x f h;go_enter ED,El
 go_wp2_with (refine G.out.mono ?_;rintro e M ⟨rfl,D⟩;have I:=Z D;clear D)
 go_ret;exact⟨rfl,I.out⟩
theorem It{w0 w:World}{q n t:Nat}(h:US w0 w q n t)(o:OpM)(E:Option Addr)(I G:Nat)(a9:o.yw=.slice E I G)(Q:o.kind=12)(ho:Vv w0 o)(ht:t<=890000) :
 Calls Tryz.prog 68 #[.pointer (some ⟨q,0,none⟩),.agg o.yb.toArray] w (X3 w0 q n (t+10)):=by
 obtain⟨x,T,ns,W,A,nv,LD,M,hs,N,a3,a8,B,⟨F0,p0,a4⟩,_⟩:=h;obtain⟨ha,hb,l,O,hl⟩:=ho;obtain⟨b6,a,b,c,j,g,v,b5⟩:=o;simp only at Q a9 ha hb O;subst Q a9;simp only[OpM.yb,Ver.cells,GC,GP];have f1:Fr Nil w (w.alloc (.cells #[.int .i64 12,.int .i64 a,.int .i64 b,.string j,.string g,.int .i64 v.node,.int .i64 v.seq,.int .i64 v.o0,.int .i64 v.o1,.int .i64 v.o2,.int .i64 v.o3,.string v.value,.bool v.gone,(.slice E I G)] 89)):=(U _ _).alloc _;have J:=Blk.new w [.int .i64 12,.int .i64 a,.int .i64 b,.string j,.string g,.int .i64 v.node,.int .i64 v.seq,.int .i64 v.o0,.int .i64 v.o1,.int .i64 v.o2,.int .i64 v.o3,.string v.value,.bool v.gone,(.slice E I G)] 89;have K:Bd M t:=by obtain⟨y,hl,_⟩:=a4.lg;exact hl.bd
 have HP:=Z (fun m (f:Fr Nil (w.alloc (.cells #[.int .i64 12,.int .i64 a,.int .i64 b,.string j,.string g,.int .i64 v.node,.int .i64 v.seq,.int .i64 v.o0,.int .i64 v.o1,.int .i64 v.o2,.int .i64 v.o3,.string v.value,.bool v.gone,(.slice E I G)] 89)) m)=>Vs a l (.slice E I G) m A LD M (N.AH.nil (f1.trans f)) ha.1 ha.2 (O.fr ((a3.trans f1).trans f) (fun _ _ _=>id)) (fun k b2 Q e=>by have h1:=O.own k b2 Q;have h2:=B k e;omega) hl (fun f hf=>by have:=K.file hf;omega) (by have:=K.AA;omega) (fun d b1=>by have:=K.yk d b1;omega));have X:=Z J;have D:Blk (w.alloc (.cells #[.int .i64 12,.int .i64 a,.int .i64 b,.string j,.string g,.int .i64 v.node,.int .i64 v.seq,.int .i64 v.o0,.int .i64 v.o1,.int .i64 v.o2,.int .i64 v.o3,.string v.value,.bool v.gone,(.slice E I G)] 89)) q (zp A nv n x T) 58:=N.Ay.fr f1 id;have u:=Z D;have s:=Z (N.AH.nil f1);have a0:=Z (hs.nil f1);have HF:=Z (a3.trans f1);have L:=D.cell;have a1:=J.cell;simp only[zp] at L;clear N hs a3 f1 O K D;go_enter ED,El;go_wp2_with fail;generalize w.alloc (.cells #[.int .i64 12,.int .i64 a,.int .i64 b,.string j,.string g,.int .i64 v.node,.int .i64 v.seq,.int .i64 v.o0,.int .i64 v.o1,.int .i64 v.o2,.int .i64 v.o3,.string v.value,.bool v.gone,(.slice E I G)] 89)=V at L a1 HP a0 u X s HF J |-;have b3:V.cell? ⟨q,0,none⟩=some (.pointer (some ⟨A,0,none⟩))/\∀ k,V.cell? ⟨w.heap.size,k,none⟩=[.int .i64 12,.int .i64 a,.int .i64 b,.string j,.string g,.int .i64 v.node,.int .i64 v.seq,.int .i64 v.o0,.int .i64 v.o1,.int .i64 v.o2,.int .i64 v.o3,.string v.value,.bool v.gone,(.slice E I G)][k]?:=⟨L 0,a1⟩;have Y:Hid (∀ m,Fr (Foot A LD M) V m->m.cell? ⟨q,0,none⟩=some (.pointer (some ⟨A,0,none⟩))/\∀ k,m.cell? ⟨w.heap.size,k,none⟩=[.int .i64 12,.int .i64 a,.int .i64 b,.string j,.string g,.int .i64 v.node,.int .i64 v.seq,.int .i64 v.o0,.int .i64 v.o1,.int .i64 v.o2,.int .i64 v.o3,.string v.value,.bool v.gone,(.slice E I G)][k]?):=fun m f=>⟨(u.out.fr f (s.out.apart u.out.ty (by unfold DTy;decide))).cell 0,(X.out.fr f (s.out.apart X.out.ty (by unfold DTy;decide))).cell⟩;have a5:Hid (∀ m,Fr Nil V m->m.cell? ⟨q,0,none⟩=some (.pointer (some ⟨A,0,none⟩))/\∀ k,m.cell? ⟨w.heap.size,k,none⟩=[.int .i64 12,.int .i64 a,.int .i64 b,.string j,.string g,.int .i64 v.node,.int .i64 v.seq,.int .i64 v.o0,.int .i64 v.o1,.int .i64 v.o2,.int .i64 v.o3,.string v.value,.bool v.gone,(.slice E I G)][k]?):=fun m f=>Y.out m (f.mono (fun _ _ e=>absurd e id))
 go_region_held3 (fun m=>m.cell? ⟨q,0,none⟩=some (.pointer (some ⟨A,0,none⟩))/\∀ k,m.cell? ⟨w.heap.size,k,none⟩=[.int .i64 12,.int .i64 a,.int .i64 b,.string j,.string g,.int .i64 v.node,.int .i64 v.seq,.int .i64 v.o0,.int .i64 v.o1,.int .i64 v.o2,.int .i64 v.o3,.string v.value,.bool v.gone,(.slice E I G)][k]?) (first|assumption|go_keep|exact a5.out _ zd)
  ((go_at_call 33;refine(HP.out _ zd).mono ?_;rintro e w2 ⟨rfl,a6,C⟩;have F2:Fr (Foot A LD M) V w2:=(Fr.mono (S':=Foot A LD M) (show Fr Nil V _ by exact zd) (fun _ _ e=>absurd e id)).trans C.fr;have b4:=Y.out w2 F2))
 have r:=u.out.fr F2 (s.out.apart u.out.ty (by unfold DTy;decide));have b0:=r.cell;have b7:=r.frozen;simp only[zp] at b0;have f3:Fr (fun k=>k=q) w2 (w2.setCell ⟨q,1,none⟩ (.pointer none)):=Fr.set (S:=fun k=>k=q) (p:=⟨q,1,none⟩) (U _ _) (fun _=>rfl) _;have a7:=r.set 1 (.pointer none);have a2:∀ k,Foot A a6 (M.AM a l) k->w0.heap.size<=k:=fun k Q=>(C.AX k Q).elim (B k) (fun e=>Gc HF.out.size (Gc (show V.heap.size<=_ from(show Fr Nil V _ by exact zd).size) e));obtain⟨F',p',R⟩:=a4.AM a l;have HR:Hid (Str w0 (w2.setCell ⟨q,1,none⟩ (.pointer none)) q n (t+10)):=.inr ⟨x,T,ns,{W with ye:=true},A,a6,_,
  a0.out.up ((a0.out.row.AH s.out F2).store r f3) ⟨rfl,rfl,Gb _,rfl⟩ (by omega),
  ⟨⟨a7,C.AK.fr f3 (fun k Q e=>C.AK.apart r.ty (by unfold DTy;decide) (e▸Q))⟩,(HF.out.trans' F2 (fun i hi e=>by have:=B i e;omega)).trans' f3 (fun i hi e=>by omega),a8,a2⟩,F',p',R.more (by omega)⟩
 clear b3 b4 L a1 r C F2 f3 a7 J HP Y a5 a4 R;go_wp2_with fail;go_ret;exact⟨rfl,HR.out⟩
end Go.Proofs.YtkhnggkkiefcdaaGreatDoor
