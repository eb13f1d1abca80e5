/- larder: joined texts -/
import Derived.Test.YtkhnggkkiefcdaaGreatDoorKRAT
import Derived.Test.YtkhnggkkiefcdaaGreatDoorKRAZ
namespace Go.Proofs.YtkhnggkkiefcdaaGreatDoor
open Go.RowKit
set_option maxRecDepth 100000
set_option maxHeartbeats 8000000
def Y5(l:List Ver):Nat:=(l.map fun v=>80+v.value.size).sum
def YS(K:Keys):Nat:=(K.map fun e=>40+e.1.size+Y5 e.2).sum
def YT(h:List (Nat × ByteArray)):Nat:=(h.map fun x=>30+x.2.size).sum
def XR(S:SM):Nat:=200+YS S.keys+YT S.hints
theorem T7{α:Type}(f:α->List UInt8)(g:α->Nat):∀ l:List α,(∀ x∈l,(f x).length<=g x)->((l.map f).flatten).length<=(l.map g).sum
 | [],_=>by simp
 | a::l,h=>by
  have c:=h a (Gh ..);have d:=T7 f g l (fun x b=>h x (Ge _ b));simp only[Gw,Ei,Ga,FL];omega
theorem Hj{u:Ver}(h:VOk u):(ZC u).length<=80+u.value.size:=by
 unfold ZC;simp only[Ga];have g:=Sp h.nat.node;have i:=Sp h.nat.seq;have f:=RM [u.o0.toNat,u.o1.toNat,u.o2.toNat,u.o3.toNat] (by
  have a:=h.nat.o0;have b:=h.nat.o1;have c:=h.nat.o2;have d:=h.nat.o3;unfold isN at a b c d;intro x e;simp only[GH,Ev,Co] at e;rcases e with rfl|rfl|rfl|rfl <;> omega) (by simp only[Gn,GT];omega)
 have j:=YX u.value h.nat.size;simp only[Gn,GT] at f;omega
theorem Uc(l:List Ver)(h:∀ u∈l,VOk u):Y5 l<=208*l.length:=by
 unfold Y5
 induction l with
 | nil=>simp
 | cons a l c =>
  have d:=(h a (Gh ..)).size;have e:=c (fun x b=>h x (Ge _ b));simp only[Gw,FL,Gn];omega
theorem Iz{e:ByteArray × List Ver}(c:zz e.1=true)(h:∀ u∈e.2,VOk u)(o:e.2.length<=5):(zP (zn (.inr (.inl e)))).length<=40+e.1.size+Y5 e.2:=by
 unfold zz at c;simp only[Gr] at c;have f:=zD (n:=2) (by decide);have g:=YX e.1 (by omega);have i:(Zm e.2).length<=9+Y5 e.2:=by
  unfold Zm;rw[Ga];have a:=zD (n:=e.2.length) (by omega);have b:=T7 ZC (fun v=>80+v.value.size) e.2 (fun u d=>Hj (h u d));unfold Y5;omega
 have j:=Uc e.2 h;have k:(zn (.inr (.inl e))).length=(zk 2).length+((zW e.1.data.toList).length+(Zm e.2).length):=by
  show(zk 2++(zW e.1.data.toList++Zm e.2)).length=_;rw[Ga,Ga]
 have l:=YG (zn (.inr (.inl e))) (by omega);have m:(zk 2).length=1:=by rw[Yd (by decide)];rfl
 omega
theorem JD{x:Nat × ByteArray}(h:x.1<4)(f:x.2.size<=64):(zP (zn (.inr (.inr (.inl x))))).length<=30+x.2.size:=by
 have a:=YX x.2 (by omega);have b:(zn (.inr (.inr (.inl x)))).length=(zk 3).length+((zk x.1).length+(zW x.2.data.toList).length):=by
  show(zk 3++(zk x.1++zW x.2.data.toList)).length=_;rw[Ga,Ga]
 have d:(zk 3).length=1:=by rw[Yd (by decide)];rfl
 have e:(zk x.1).length=1:=by rw[Yd (by omega)];rfl
 have c:=YG (zn (.inr (.inr (.inl x)))) (by omega);omega
theorem IA{n:Nat}(h:n<9223372036854775808):(zP (zn (.inl n))).length<=200:=by
 have a:=zD (n:=1) (by decide);have b:=zD h;have c:(zn (.inl n)).length=(zk 1).length+(zk n).length:=by
  show(zk 1++zk n).length=_;rw[Ga]
 have d:=YG (zn (.inl n)) (by omega);omega
theorem ND{S:SM}(h:zO S)(c:S.Ax<9223372036854775808):(zF S.facts).length<=XR S:=by
 have d:=IA c;have f:=T7 (fun e=>zP (zn (.inr (.inl e)))) (fun e:ByteArray × List Ver=>40+e.1.size+Y5 e.2) S.keys (fun e a=>Iz (h.names e a) (h.key e a).2.2 (by have:=(h.key e a).2.1;omega));have g:=T7 (fun x=>zP (zn (.inr (.inr (.inl x))))) (fun x:Nat × ByteArray=>30+x.2.size) S.hints (fun x b=>JD (h.text x b).1 (h.text x b).2);unfold SM.facts zF;simp only[Gw,Gy,Fv,Ei,Do,Ga,Cw];unfold XR YS YT;omega
theorem SV(l:List Ver)(i:Nat)(h:i<l.length):Y5 (l.take (i+1))=Y5 (l.take i)+(80+l[i].value.size):=by
 unfold Y5;rw[Ek,Gq h,Gy,Eb];simp only[DC,Gw,Fz,FL,Cv,Eu]
theorem SW(K:Keys)(i:Nat)(h:i<K.length):YS (K.take (i+1))=YS (K.take i)+(40+K[i].1.size+Y5 K[i].2):=by
 unfold YS;rw[Ek,Gq h,Gy,Eb];simp only[DC,Gw,Fz,FL,Cv,Eu]
theorem SX(l:List (Nat × ByteArray))(i:Nat)(h:i<l.length):YT (l.take (i+1))=YT (l.take i)+(30+l[i].2.size):=by
 unfold YT;rw[Ek,Gq h,Gy,Eb];simp only[DC,Gw,Fz,FL,Cv,Eu]
theorem O9{S:SM}(h:zO S):∀ i,i<=S.keys.length->YS (S.keys.take i)<=1000*i
 | 0,_=>by simp[YS]
 | i+1,e=>by
  have f:=O9 h i (by omega);have a:=Gj (l:=S.keys) (n:=i) (by omega);have b:=h.names _ a;have c:=(h.key _ a).2.1;have d:=Uc _ (h.key _ a).2.2;unfold zz at b;simp only[Gr] at b;rw[SW S.keys i (by omega)];omega
theorem Oa{S:SM}(h:zO S):∀ i,i<=S.hints.length->YT (S.hints.take i)<=100*i
 | 0,_=>by simp[YT]
 | i+1,c=>by
  have d:=Oa h i (by omega);have a:=Gj (l:=S.hints) (n:=i) (by omega);have b:=(h.text _ a).2;rw[SX S.hints i (by omega)];omega
theorem NE(X:NL)(N:NM)(M:DM)(w:World)(h:NRep w X N M)(a:zO N.S)(b9:N.S.keys.length<=1000000) :
 Calls Tryz.prog 42 #[.pointer (some ⟨X.nb,0,none⟩)] w fun e A=>e=.returned (.int .i64 (XR N.S:Nat))/\Fr Nil w A:=by
 have a0:=Z (Si X N M w h (by omega));have T:=Z (fun p (f:Fr Nil w p)=>Vp X N M p (h.nil f) (by have:=a.hlen;omega));have b0:Hid (∀ i (r:i<N.S.keys.length) p,Fr Nil w p->Calls Tryz.prog 24 #[.pointer (some ⟨X.nb,0,none⟩),.string N.S.keys[i].1] p fun e A=>∃ v',e=.returned (.tuple #[v',.int .i64 0])/\VRow A v' N.S.keys[i].2/\Fr Nil p A):=fun i r p f=>by
  have s:=Gj r;have h1:=IW a.ym i r;have:=UE X N M N.S.keys[i].1 p (h.nil f) (by omega) (by rw[h1];have:=(a.key _ s).2.1;omega);rw[a.names _ s,GA rfl,GA rfl,h1] at this;refine this.mono ?_;rintro e A ⟨v',rfl,hv,f2,_⟩;exact⟨v',rfl,hv,f2⟩
 have a7:Hid (∀ i (r:i<N.S.keys.length),N.S.keys[i].2≠[]/\N.S.keys[i].2.length<=4/\Y5 N.S.keys[i].2<=1000/\N.S.keys[i].1.size<=32/\∀ j (hj:j<N.S.keys[i].2.length),Y5 (N.S.keys[i].2.take j)+(80+N.S.keys[i].2[j].value.size)<=1000):=fun i r=>by
  have s:=Gj r;have hk:=a.names _ s;have h2:=(a.key _ s).2.1;have h3:=Uc _ (a.key _ s).2.2;unfold zz at hk;simp only[Gr] at hk;refine⟨a.some _ s,h2,by omega,hk.2,fun j hj=>?_⟩;have h5:=Uc ((N.S.keys[i].2).take (j+1)) (fun u hu=>(a.key _ s).2.2 u (GN hu));rw[SV _ j hj] at h5;rw[Gd] at h5;omega
 have a1:=Z (fun i r=>O9 a i r);have b2:=Z (fun i r=>Oa a i r);have b6:=a.hlen;have b3:Hid (∀ i (r:i<N.S.hints.length),N.S.hints[i].2.size<=64):=fun i r=>(a.text _ (Gj r)).2;have R:Hid (200+YS N.S.keys+YT N.S.hints=XR N.S):=rfl;clear h a;generalize c0:N.S.keys=x at *;generalize b7:N.S.hints=v at *;generalize XR N.S=d5 at R |-;clear c0 b7;obtain⟨n,hn⟩:∃ n,x.length=n:=⟨_,rfl⟩;obtain⟨q,hq⟩:∃ q,v.length=q:=⟨_,rfl⟩;go_enter Tryz.func42,Tryz.ntmps42;go_wp2_with fail;refine a0.out.mono ?_;rintro e w1 ⟨kv,rfl,I,f1,-⟩;obtain⟨ka,kc,rfl⟩:=zg I;have D:=Z f1;have V:=Z I;clear f1 a0 I;go_wp2_with fail;refine(T.out _ D.out).mono ?_;rintro e w2 ⟨hv,rfl,G,f2,-⟩;obtain⟨ja,jc,rfl⟩:=zg G;have Q:=Z (D.out.trans f2);have Y:=Z (ze V.out f2 (fun _ _=>id));have S:=Z G;clear f2 G T V D;rw[hq];rw[hn] at b9;rw[hq] at b6;go_wp2_with fail
 go_loopw [5,6] (fun t5 t6 A=>∃ i:Nat,i<=n/\t6=.int .i64 i/\t5=.int .i64 (200+YS (x.take i):Nat)/\Fr Nil w2 A) (fun _ t6 _=>n-(intOf t6).toNat)
 case atStart=>exact⟨0,Gz _,rfl,by simp[YS],U _ _⟩
 case round =>
  obtain⟨i,r,rfl,rfl,O⟩:=hrel;by_cases c7:i<n
  .have hin:i<x.length:=by omega
   obtain⟨g,c5,e1,_,_⟩:=zy Y.out (by omega);simp only[DO] at e1;obtain⟨rfl,-,-⟩:=e1;have J:=a1.out i (by omega);have C:=Z (SW x i hin);obtain⟨a4,c1,d0,d1,a5⟩:=a7.out i hin;have HG:=Z (fun p (f:Fr Nil wr p)=>b0.out i hin p ((Q.out.trans O).trans f));have E:∀ p,Fr Nil wr p->p.cell? ⟨g,i,none⟩=some (.string x[i].1):=fun p f=>own_cell? (ze Y.out (O.trans f) (fun _ _=>id)) i _ (by simp[strs,hin]);have a6:=Z E;have b4:=E wr (U _ _);have HF:=Z O;generalize YS (x.take i)=o at J C |-;generalize x[i].1=k at *;generalize x[i].2=l at *;obtain⟨m,s⟩:∃ m,l.length=m:=⟨_,rfl⟩;have b1:=Z a5;have c8:0<m:=by rw[<- s];exact CS.2 a4
   rw[s] at c1;have d2:IntKind.i64.wrap ((200:Int)+o+40)=(200:Int)+o+40:=by rw[Gs];omega
   have d3:IntKind.i64.wrap ((200:Int)+o+40+k.size)=(200:Int)+o+40+k.size:=by rw[Gs];omega
   have d4:IntKind.i64.wrap ((i:Int)+1)=(i:Int)+1:=by rw[Gs];omega
   clear E O a5 hin a4;go_wp2_with fail;refine(HG.out _ (U _ _)).mono ?_;rintro e w3 ⟨vv,rfl,K,f3⟩;obtain⟨va,vc,rfl⟩:=zg K;have c6:=a6.out w3 f3;have a2:=Z K;have a8:=Z f3;rw[s];clear K f3 b4 HG;have c9:((m:Int)==0)=false:=by rw[Fl];omega
   go_wp2_with fail
   go_loopw [5,9] (fun t5 t9 A=>∃ j:Nat,j<=m/\t9=.int .i64 j/\t5=.int .i64 (200+o+40+k.size+Y5 (l.take j):Nat)/\Fr Nil w3 A) (fun _ t9 _=>m-(intOf t9).toNat)
   case atStart=>exact⟨0,Gz _,rfl,by simp[Y5],U _ _⟩
   case round =>
    obtain⟨j,hj,rfl,rfl,b⟩:=hrel;by_cases b8:j<m
    .have hjn:j<l.length:=by omega
     obtain⟨g2,a3,e2,_,_⟩:=zy a2.out (by omega);simp only[DO] at e2;obtain⟨rfl,-,-⟩:=e2;have hb:=b1.out j hjn;have t:=Z (SV l j hjn);have b5:wr.cell? ⟨g2,j*8+6,none⟩=some (.string l[j].value):=by
      have h6:=Ur l j 6 hjn (by decide);exact own_cell? (ze a2.out b (fun _ _=>id)) _ _ h6
     generalize Y5 (l.take j)=B at hb t |-;generalize l[j].value=y at *;have c2:IntKind.i64.wrap ((200:Int)+o+40+k.size+B+80)=(200:Int)+o+40+k.size+B+80:=by rw[Gs];omega
     have c3:IntKind.i64.wrap ((200:Int)+o+40+k.size+B+80+y.size)=(200:Int)+o+40+k.size+B+80+y.size:=by rw[Gs];omega
     have c4:IntKind.i64.wrap ((j:Int)+1)=(j:Int)+1:=by rw[Gs];omega
     have d:=Z b;clear b hb hjn;go_wp2_with fail;exact⟨⟨j+1,by omega,by push_cast;rfl,by rw[t.out];congr 1;push_cast;omega,d.out⟩,by simp[intOf];omega⟩
    .have hjm:j=m:=by omega
     subst hjm;have c:Y5 (l.take j)=Y5 l:=by rw[<- s,Gt]
     have d:=Z (HF.out.trans (a8.out.trans b));rw[c];generalize Y5 l=vl at *;clear b c;go_wp2_with fail;exact⟨⟨i+1,by omega,by push_cast;rfl,by rw[C.out];congr 1;push_cast;omega,d.out⟩,by simp[intOf];omega⟩
  .have hin:i=n:=by omega
   subst hin;have c:YS (x.take i)=YS x:=by rw[<- hn,Gt]
   have J:=a1.out i (by omega);rw[c] at J |-;have a9:=Z O;generalize YS x=o at *;clear O c;go_wp2_with fail
   go_loopw [5,10] (fun t5 L A=>∃ j:Nat,j<=q/\L=.int .i64 j/\t5=.int .i64 (200+o+YT (v.take j):Nat)/\Fr Nil w2 A) (fun _ L _=>q-(intOf L).toNat)
   case atStart=>exact⟨0,Gz _,rfl,by simp[YT],a9.out⟩
   case round =>
    obtain⟨j,hj,rfl,rfl,b⟩:=hrel;by_cases b8:j<q
    .have hjn:j<v.length:=by omega
     obtain⟨g2,a3,e2,_,_⟩:=zy S.out (by omega);simp only[DO] at e2;obtain⟨rfl,-,-⟩:=e2;have hb:=b2.out j (by omega);have hx:=b3.out j hjn;have t:=Z (SX v j hjn);have b5:wr.cell? ⟨g2,j*2+1,none⟩=some (.string v[j].2):=own_cell? (ze S.out b (fun _ _=>id)) _ _ (KE v j hjn).2;generalize YT (v.take j)=B at hb t |-;generalize v[j].2=y at *;have c2:IntKind.i64.wrap ((200:Int)+o+B+30)=(200:Int)+o+B+30:=by rw[Gs];omega
     have c3:IntKind.i64.wrap ((200:Int)+o+B+30+y.size)=(200:Int)+o+B+30+y.size:=by rw[Gs];omega
     have c4:IntKind.i64.wrap ((j:Int)+1)=(j:Int)+1:=by rw[Gs];omega
     have d:=Z b;clear b hb hjn hx;go_wp2_with fail;exact⟨⟨j+1,by omega,by push_cast;rfl,by rw[t.out];congr 1;push_cast;omega,d.out⟩,by simp[intOf];omega⟩
    .have hjm:j=q:=by omega
     subst hjm;have c:YT (v.take j)=YT v:=by rw[<- hq,Gt]
     have d:=Z (Q.out.trans b);rw[c];have HG:=Z R.out;generalize YT v=s2 at *;clear b c;go_wp2_with fail;go_ret;exact⟨by rw[<- HG.out];rfl,d.out⟩
structure Mid(w0 w:World)(sb n t calls:Nat)(nums:Value)(N0:NM)(M0:DM)(F:List Fact)(p nb j:Nat)(X:NL)(J:JM)(M:DM)(y:Lay)(num:Nat)(d lf:List Fact)(i f:Nat):Prop where
 kp:Kpt w0 w sb n calls nums X {N0 with J:=J,mg:=some ⟨num,d,lf,j⟩} M
 nb:X.nb=nb
 lk:Lk M y p (t+3) (j-1)
 F:y.F=F
 jl:Jl J M y
 mx:Mgx M y ⟨num,d,lf,j⟩ i f
 dl:d.length+1=j
 all:d++lf=N0.S.facts
 fresh:∃ n jj,y.G.drop i=[(n,jj,([],[]))]
 yo:Ans M0 M none
 room:M.room=M0.room
def Vy(m w:World)(l n t a:Nat)(b:Value)(g:NM)(e:DM)(F:List Fact)(p k j:Nat):Prop:=∃ X J M y c d h i f,Mid m w l n t a b g e F p k j X J M y c d h i f
theorem Vy.cell{B w:World}{o n t a:Nat}{c:Value}{r:NM}{q:DM}{F:List Fact}{p e j:Nat}(h:Vy B w o n t a c r q F p e j):w.cell? ⟨o,1,none⟩=some (.pointer (some ⟨e,0,none⟩)):=by
 obtain⟨X,J,M,y,A,d,C,i,g,h⟩:=h;have:=h.nb;subst this;exact h.kp.st.Ay.cell 1
theorem Ans.still{M b:DM}(h:Ans M b none):b.cut=M.cut/\b.fail=M.fail/\b.dead=M.dead:=by
 refine⟨h.2.cut,h.2.fail,?_⟩;rcases h.1 with⟨_,_,_,a⟩|⟨_,⟨a,_⟩|⟨a,_⟩⟩
 .exact a
 .cases a
 .cases a
theorem Rk.begin(k:zl){B:Nat}{r w:World}{C n t x a:Nat}{g:Value}{W:WM}{X:NL}{N:NM}{M:DM}{F:List Fact}{p:Nat}(h:Rk r w C n t x a g W X N M F p)(c:N.mg=none)(o:zG B r)(I:B<=r.heap.size)(T:t+20<=980000) :
 Calls Tryz.prog 40 #[.pointer (some ⟨X.nb,0,none⟩)] w fun e A=>e=.returned (.tuple #[.bool false,.int .i64 0])/\Vy r A C n t a g N M F p X.nb 1/\ZO w A:=by
 obtain⟨y,R,J,L⟩:=h.ni.kp.lg;obtain⟨O,l⟩:=L h.ro;rw[c] at l;have b:=h.yF;refine(h.kp.merge k h.ni T o I h.ro R J O (i:=0) (f:=0) (fun _=>l) (fun m e=>by rw[c] at e;cases e)).mono ?_;rintro e A ⟨G,er,E,J',V,D,y',rfl,Q,K,_,q,v,s,_,j,u⟩;obtain⟨rfl,_,_,_⟩:=q.yo.wO (n:=0) h.ni.bd (by omega) h.ni.dead h.cut h.fail b (fun e=>absurd (q.full e) (by rw[b];omega)) (by decide);obtain⟨Y,q2,q3⟩:=j rfl;rcases q3 with⟨_,rfl,rfl,i,f,q4,q5⟩|⟨m,d,lf,e,_⟩|⟨m,e,_⟩
 .refine⟨rfl,⟨E,J',D,y',_,[],N.S.facts,i,f,⟨?_,K,v,s,Y,q4,rfl,rfl,q5,q.yo,q.room⟩⟩,ZO.node h.kp.st.node u⟩
  have:=Q;rw[VS] at this;exact this
 .rw[c] at e;cases e
 .rw[c] at e;cases e
theorem Mid.call(G:zl){B:Nat}{L w w1:World}{Y n t a0 a:Nat}{o:Value}{W:WM}{X0:NL}{v:NM}{N:DM}{F:List Fact}{p V j:Nat}(s:Rk L w1 Y n t a0 a o W X0 v N F p){X:NL}{J:JM}{M:DM}{y:Lay}{l:Nat}{d D:List Fact}{i f:Nat}(h:Mid L w Y n t a o v N F p V j X J M y l d D i f)(K:zG B L)(R:B<=L.heap.size)(ht:t<=900000) :
 Calls Tryz.prog 40 #[.pointer (some ⟨V,0,none⟩)] w fun e w'=>∃ r O J' mg' q C,e=.returned (.tuple #[.bool r,.int .i64 0])/\Kpt L w' Y n a o O {v with J:=J',mg:=mg'} q/\O.nb=V/\Ans N q none/\q.room=N.room/\C.F=F/\Lg q C p (t+6)/\Jl J' q C/\Mo q C mg'/\Mst {v with J:=J,mg:=some ⟨l,d,D,j⟩} y p (t+3) (j-1) i f r mg' q C/\ZO w w':=by
 have T:=h.nb;subst T;have c:zO v.S:=s.ni.st.1;have I:v.S.Ax<9223372036854775808:=by have:=s.ni.st.2.2.1;have:=s.ni.cm.calls;omega
 have hS:v.S=y.F.foldl SM.enter SM.nil:=by rw[h.F,<- Rg];exact s.ni.kp.held
 have x:zG B w:=K.fr R h.kp.fr (fun _ e=>absurd e id);have a2:=Q7 c hS;have a3:=h.lk.fl;have E:=FW List.length h.all;rw[Ga] at E;have a1:=h.dl;obtain⟨s1,s2,s3⟩:=h.yo.still;have g:M.room=1152921504606846976:=h.room.trans s.yF;refine(Ts G B X {v with J:=J,mg:=some ⟨l,d,D,j⟩} M y p (t+3) (j-1) i f w h.kp.st.node x (Gc R h.kp.fr.size) (fun k Q=>Gc R (h.kp.new k Q)) s.ro h.lk h.jl (fun e=>by cases e) (fun m e=>?_) (fun e=>by cases e) (fun m e=>?_) hS c I (by omega)).mono ?_
 .have e:some (⟨l,d,D,j⟩:MgM)=some m:=e
  obtain rfl:=GG e;show j-1+D.length<=_;omega
 .have e:some (⟨l,d,D,j⟩:MgM)=some m:=e
  obtain rfl:=GG e;exact⟨h.mx,by show j<=d.length+1;omega⟩
 rintro e w' ⟨r,er,O,J',mg',q,C,rfl,b,A⟩;have S:Bd M (t+3+1):=(h.lk.close (by omega)).bd;obtain⟨rfl,_,_,_⟩:=A.yo.wO (n:=0) S (by omega) (s3.trans s.ni.dead) (s1.trans s.cut) (s2.trans s.fail) g (fun e=>absurd (A.full e) (by rw[g];omega)) (by decide);obtain⟨q1,q2,_,q4⟩:=A.yS rfl;have Q:=h.kp.step b;rw[VS] at Q;exact⟨r,O,J',mg',q,C,rfl,Q,b.same.nb,h.yo.trans A.yo,A.room.trans h.room,A.F.trans h.F,A.lg,q1,q2,q4,ZO.node h.kp.st.node b.fr⟩
theorem Vy.go(r:zl){B:Nat}{v w w1:World}{K n t L a:Nat}{c:Value}{W:WM}{Y:NL}{g:NM}{x:DM}{F:List Fact}{p I j:Nat}(h0:Rk v w1 K n t L a c W Y g x F p)(h:Vy v w K n t a c g x F p I j)(s:zG B v)(hB:B<=v.heap.size)(ht:t<=900000)(hj:j<g.S.keys.length+g.S.hints.length+2) :
 Calls Tryz.prog 40 #[.pointer (some ⟨I,0,none⟩)] w fun e O=>e=.returned (.tuple #[.bool false,.int .i64 0])/\Vy v O K n t a c g x F p I (j+1)/\ZO w O:=by
 obtain⟨X,J,M,y,o,d,u,i,f,h⟩:=h;refine(h.call r h0 s hB ht).mono ?_;rintro e O ⟨a0,V,R,a4,T,y',rfl,hk,hb,ha,hr,hF,a2,A,a3,G,C⟩;have k:=FW List.length h.all;have a1:=h.dl;rw[Ga,show g.S.facts.length=1+(g.S.keys.length+g.S.hints.length) by unfold SM.facts;rw[Gn,Ga,Gv,Gv];omega] at k;rcases G with⟨e,_⟩|⟨m,Q,l,e,rfl,_,rfl,D,rfl,E,b,q⟩|⟨m,e,rfl,rfl,b,q⟩
 .cases e
 .have e:some (⟨o,d,u,j⟩:MgM)=some m:=e
  obtain rfl:=GG e;have b:l.length+1=u.length:=b;have q:Q++l=d++u:=q;have h3:=FW List.length q;rw[Ga,Ga] at h3;exact⟨rfl,⟨V,R,T,y',o,Q,l,i,f,⟨hk,hb,(by rw[show j+1-1=j-1+1 by omega];exact D),hF,A,E,by omega,q.trans h.all,h.fresh,ha,hr⟩⟩,C⟩
 .exfalso
  have e:some (⟨o,d,u,j⟩:MgM)=some m:=e;obtain rfl:=GG e;rcases b with b|b
  .have b:u=[]:=b
   rw[b,GT] at k;omega
  .unfold NM.xw at b
   have b:g.S.keys.length+g.S.hints.length+4<=j+1:=FE b;omega
theorem Vy.done(q:zl){B:Nat}{C w w1:World}{sb n t A a:Nat}{g:Value}{W:WM}{X0:NL}{c:NM}{M0:DM}{F:List Fact}{p Y j:Nat}(b:Rk C w1 sb n t A a g W X0 c M0 F p)(h:Vy C w sb n t a g c M0 F p Y j)(s:zG B C)(hB:B<=C.heap.size)(ht:t<=900000)(hj:j=c.S.keys.length+c.S.hints.length+2) :
 Calls Tryz.prog 40 #[.pointer (some ⟨Y,0,none⟩)] w fun e w'=>e=.returned (.tuple #[.bool true,.int .i64 0])/\∃ D N' l,Rk C w' sb n (t+10) A a g W D N' l F p/\D.nb=Y/\N'.S=c.S/\l.yj<=XR c.S/\ZO w w':=by
 obtain⟨X,J,M,y,x,d,G,i,f,h⟩:=h;have k:zO c.S:=b.ni.st.1;have r:c.S.Ax<9223372036854775808:=by have:=b.ni.st.2.2.1;have:=b.ni.cm.calls;omega
 refine(h.call q b s hB ht).mono ?_;rintro e w' ⟨a0,D,J',mg',l,y',rfl,hk,hb,ha,hr,hF,Q,L,R,T,O⟩;have o:=FW List.length h.all;have a1:=h.dl;rw[Ga,show c.S.facts.length=1+(c.S.keys.length+c.S.hints.length) by unfold SM.facts;rw[Gn,Ga,Gv,Gv];omega] at o;rcases T with⟨e,_⟩|⟨m,d2,V,e,rfl,_,rfl,a2,rfl,a3,I,E⟩|⟨m,e,rfl,rfl,I,E⟩
 .cases e
 .have e:some (⟨x,d,G,j⟩:MgM)=some m:=e
  obtain rfl:=GG e;have I:V.length+1=G.length:=I;omega
 .have e:some (⟨x,d,G,j⟩:MgM)=some m:=e
  obtain rfl:=GG e;have E:l.yj=(zF (d++G)).length+((y.G.drop i).map fun e=>(Zp e.2.2).length).sum:=E;obtain⟨nn,jj,K⟩:=h.fresh;have hz:((y.G.drop i).map fun e=>(Zp e.2.2).length).sum=0:=by
   rw[K]
   rfl
  rw[hz,h.all] at E;have a4:=ND k r;obtain⟨s1,s2,s3⟩:=ha.still;have hm:=(b.ni.more (u:=t+3) (by omega)).merged (er:=none) (J':=J') (mg':=none) Q hF ha hr (fun e=>by cases e) (fun _=>⟨L,R⟩);have hn:=hm.yS rfl;rw[VS] at hn;exact⟨rfl,D,{c with J:=J',mg:=none},l,⟨hk,hn.more (by omega),s1.trans b.cut,s2.trans b.fail,b.ro,b.every,b.node,b.room,by have:=b.top;omega,b.ye⟩,hb,rfl,by omega,O⟩
def RkN(f w:World)(e n t c a:Nat)(b:Value)(d:Nat)(Q:NM->Prop):Prop:=∃ W X N M F p,Rk f w e n t c a b W X N M F p/\X.nb=d/\Q N
theorem RkN.nil{m w w':World}{g n t d a:Nat}{c:Value}{e:Nat}{Q:NM->Prop}(h:RkN m w g n t d a c e Q)(f:Fr Nil w w'):RkN m w' g n t d a c e Q:=by
 obtain⟨W,X,N,M,F,p,o,q,r⟩:=h;exact⟨W,X,N,M,F,p,o.nil f,q,r⟩
theorem RkN.fr{g w:World}{r n t e a:Nat}{c:Value}{q:Nat}{Q:NM->Prop}(h:RkN g w r n t e a c q Q):Fr Nil g w:=by
 obtain⟨W,X,N,M,F,p,o,y,A⟩:=h;exact o.kp.fr
theorem RkN.cell{r w:World}{o n t e a:Nat}{c:Value}{g:Nat}{Q:NM->Prop}(h:RkN r w o n t e a c g Q):w.cell? ⟨o,1,none⟩=some (.pointer (some ⟨g,0,none⟩)):=by
 obtain⟨W,X,N,M,F,p,q,rfl,y⟩:=h;exact q.kp.st.Ay.cell 1
def SY(k:ByteArray)(i:Nat)(N:NM):Prop:=N.mg=none/\(i≠0->Has N.S.keys k (Za (i-1)))
theorem RkN.put(d:zl){B:Nat}{q w:World}{y n t o a:Nat}{b:Value}{u i:Nat}{k:ByteArray}(h:RkN q w y n t o a b u (SY k i))(l:zG B q)(K:B<=q.heap.size)(V:t+20<=980000)(O:zz k=true)(hi:i<1000) :
 Calls Tryz.prog 22 #[.pointer (some ⟨u,0,none⟩),.string k,.string (Za i)] w fun e A=>∃ c:Int,e=.returned (.tuple #[.int .i64 c,.int .i64 0])/\RkN q A y n (t+10) o a b u (SY k (i+1)):=by
 obtain⟨W,X,N,M,F,p,x,rfl,J⟩:=h;refine(x.put d l K V k (Za i) O (by have:=WG (n:=i) (by omega);omega)).mono ?_;rintro e A ⟨c,rfl,m,mx,I,E,D,G,C,Y,Q,L,hm,R,s,⟨j,rfl⟩,T,r⟩;refine⟨c,rfl,G,I,E,D,C,Y,Q,L,r.trans J.1,fun _=>?_⟩;rw[<- s.1];exact Has.put (by rw[R.1];exact x.ym) k (Za i) j
theorem Rr.rkn{g w:World}{f n t c:Nat}(h:Rr g w f n t c)(k:ByteArray):∃ a b i,RkN g w f n t c a b i (SY k 0):=by
 obtain⟨a,b,j,W,X,N,M,F,p,d⟩:=h;exact⟨a,b,X.nb,W,X,N,M,F,p,d.rk,rfl,d.mg,fun e=>absurd rfl e⟩
theorem itoa19:Za 19={data:=#[49,57]}:=by decide +kernel
theorem Rk.state{g w:World}{d n t c a:Nat}{b:Value}{W:WM}{X:NL}{N:NM}{M:DM}{F:List Fact}{p:Nat}(h:Rk g w d n t c a b W X N M F p) :
 Calls Tryz.prog 39 #[.pointer (some ⟨X.nb,0,none⟩)] w fun e f=>e=.returned (.agg #[.bool false,.int .i64 N.S.keys.length,.int .i64 N.S.hints.length])/\Fr Nil w f:=by
 have:=Tg X N M w h.kp.st.node;rw[h.ro] at this;exact this
theorem Rk.wj{m w:World}{j n t c a:Nat}{b:Value}{W:WM}{X:NL}{N:NM}{M:DM}{F:List Fact}{p:Nat}(h:Rk m w j n t c a b W X N M F p)(q:t<=1000000){k d:ByteArray}(f:Has N.S.keys k d)(g:zz k=true) :
 Calls Tryz.prog 34 #[.pointer (some ⟨X.nb,0,none⟩),.string k,.string d] w fun e l=>e=.returned (.bool true)/\Fr Nil w l:=by
 have o:=(h.ni.st.1.get k).2.1;have i:=h.ni.nk;have:=UQ X N M k d w h.kp.st.node g (by omega) (by omega);rw[f.asked h.ym] at this;exact this
def Fin(i w:World)(h n t c a:Nat)(b:Value)(W:WM)(F:List Fact)(p g:Nat)(S:SM):Prop:=∃ f e d,Rk i w h n t c a b W f e d F p/\f.nb=g/\e.S=S/\d.yj<=XR S
theorem Opd.says{W u:WM}{M s:DM}{r:Nat}{N h:NM}{F B:List Fact}{p t J K:Nat}{C:DM}(o:Opd W M r N s u)(l:NI u N s F p t)(D:NI W h C B J K)(G:M.dead=false)(c:W.ye=false):ZN N.S.keys=ZN h.S.keys/\N.S.hints=h.S.hints:=by
 obtain⟨v,i,O,m,q,j,I,a,E,rfl⟩:=o.found;have k:=(j G).trans c;have a:=a.resolve_left (fun e=>by rw[k] at e;cases e);have x:=U5 E;obtain⟨A,b,y,_⟩:=l.now;have f:A=q:=by
  have b:(W.st.take i++[q])[(W.st.take i++[q]).length-1]?=some A:=b;rw[Ga,Gi,Bb,EL (Gb _),BZ] at b;exact(GG b).symm
 subst f;obtain⟨L,d,g,_⟩:=D.now;rw[show W.st.length-1=i by omega,I] at d;obtain rfl:=GG d;exact⟨by rw[<- y.1,<- g.1];exact x.1,by rw[<- y.2,<- g.2];exact x.2.1⟩
theorem NF(x:zl)(B:Nat)(node c:Int)(Y:InR node)(hc:InR c)(sa:Option Addr)(cp:Nat)(os:List OpM)(w:World)(O:zG B w)(hB:B<=w.heap.size)(g5:os≠[]->∃ a,sa=some a/\a.block<w.heap.size/\UT w a os)(g4:∀ o∈os,Vv w o)(T:os.length<=88000) :
 Calls Tryz.prog 11 #[.int .i64 node,.slice sa os.length cp,.int .i64 c] w fun e A=>e=.returned (.bool true)/\Fr Nil w A:=by
 have c3:=Z (Zl node 4 w Y.1 Y.2 (by decide) (by decide));have d0:=ZH node (n:=4) (by decide);have S:=Z (VL x B (zu node 4) d0 sa cp os w O hB g5 g4 T);have v:=Z O;have Q:=Z hB;have HC:=Z hc;have c0:Hid (∀ d,Fr Nil w d->Calls Tryz.prog 26 #[.int .i64 c] d fun e A=>e=.returned (.string (Z4 c))/\Fr Nil d A):=fun d f=>Wh c hc d (O.fr hB f (fun _ e=>absurd e id)).1.1;have a1:Hid (zz (Z4 c)=true):=Vi c;clear O hB g5 g4 hc;generalize Z4 c=k at c0 a1;generalize zu node 4=n at c3 d0 S;obtain⟨m,hm⟩:∃ m,os.length=m:=⟨_,rfl⟩;rw[hm] at S T |-;clear hm;obtain⟨t0,g8⟩:∃ t0,20+10*m=t0:=⟨_,rfl⟩;rw[g8] at S;have k0:t0<=880020:=by omega
 clear g8 T;have i1:Hid (∀ (i:Nat),i<20->∀ d,Fr Nil w d->Calls Tryz.prog 29 #[.int .i64 (i:Int)] d fun e A=>e=.returned (.string (Za i))/\Fr Nil d A):=fun i hi d f=>V5 i (by omega) d (v.out.fr Q.out f (fun _ e=>absurd e id)).1.1;go_enter Al,Tryz.ntmps11
 go_wp2_with (refine c3.out.mono ?_;rintro e d ⟨rfl,k3⟩;subst d)
 refine S.out.mono ?_;rintro e w1 ⟨K,rfl,hr⟩;obtain⟨g,y,nb,g7⟩:=hr.rkn k;have c4:=Z g7;clear hr g7 S c3;go_wp2_with fail;refine(c0.out _ c4.out.fr).mono ?_;rintro e w2 ⟨rfl,f2⟩;have e1:=Z (c4.out.nil f2);clear f2 c4 c0;go_wp2_with fail
 go_loopw [9] (fun t9 A=>∃ i:Nat,i<=20/\t9=.int .i64 i/\RkN w A K n (t0+10*i) 0 g y nb (SY k i)) (fun t9 _=>20-(intOf t9).toNat)
 case atStart=>exact⟨0,by omega,rfl,e1.out⟩
 case round =>
  obtain⟨i,hi,rfl,hr⟩:=hrel;have HR:=Z hr;clear hr e1;by_cases i9:i<20
  .have hl1:(i:Int)<20:=by omega
   have D:=HR.out.cell;have b8:Hid (∀ d,Fr Nil wr d->d.cell? ⟨K,1,none⟩=some (.pointer (some ⟨nb,0,none⟩))):=fun d f=>(HR.out.nil f).cell;have e0:=Z (fun d (f:Fr Nil wr d)=>(HR.out.nil f).put x v.out Q.out (by omega) a1.out (by omega));have HD:=Z (i1.out i i9);have k1:IntKind.i64.wrap ((i:Int)+1)=(i:Int)+1:=by rw[Gs];omega
   go_wp2_with fail
   go_region_held3 (fun d=>d.cell? ⟨K,1,none⟩=some (.pointer (some ⟨nb,0,none⟩))) (first|assumption|go_keep|exact b8.out _ zd)
    (first
      | (go_at_call 22;refine(e0.out _ c1.out).mono ?_;rintro e w6 ⟨j7,rfl,t⟩;have I:=Z t;have j4:=t.cell;clear t)
      | (go_at_call 29;refine(HD.out _ (HR.out.fr.trans zd)).mono ?_;rintro e wg ⟨rfl,fg⟩;have c1:Hid (Fr Nil wr wg):=Fr.trans zd fg;have j5:=b8.out wg c1.out;clear fg))
   clear D j5 j4 c1 e0 HD b8;go_wp2_with fail;exact⟨⟨i+1,by omega,by push_cast;rfl,by have:=I.out;rw[show t0+10*(i+1)=t0+10*i+10 by omega];exact this⟩,by simp[intOf];omega⟩
  .obtain rfl:i=20:=by omega
   obtain⟨W,X,N,M,F,p,J,j0,g2,E⟩:=HR.out;have E:=E (by decide);rw[show 20-1=19 from rfl,itoa19] at E;rw[show t0+10*20=t0+200 from rfl] at J;subst j0;have HK:=Z J;have HH:=Z (And.intro g2 E);have c6:=Z J.state;have D:wr.cell? ⟨K,1,none⟩=some (.pointer (some ⟨X.nb,0,none⟩)):=J.kp.st.Ay.cell 1;have j1:=J.ni.nk;have i8:=J.ni.st.1.hlen;obtain⟨u,a7⟩:∃ u,N.S.keys.length=u:=⟨_,rfl⟩;obtain⟨l,a6⟩:∃ l,N.S.hints.length=l:=⟨_,rfl⟩;have c2:=Z (And.intro a7 a6);rw[a7,a6] at c6;rw[a7] at j1;rw[a6] at i8;clear J g2 E HR a7 a6;go_wp2_with fail;refine c6.out.mono ?_;rintro e w3 ⟨rfl,f3⟩;have c8:=Blk.new w3 [.bool false,.int .i64 u,.int .i64 l] 81;have f4:Fr Nil wr (w3.alloc (.cells #[.bool false,.int .i64 u,.int .i64 l] 81)):=f3.alloc _;have i4:=c8.cell;have b9:=Z f4;have b7:=Z c8;have i7:(w3.alloc (.cells #[.bool false,.int .i64 u,.int .i64 l] 81)).cell? ⟨K,1,none⟩=some (.pointer (some ⟨X.nb,0,none⟩)):=(HK.out.nil f4).kp.st.Ay.cell 1;have j2:IntKind.i64.wrap ((u:Int)+l)=(u:Int)+l:=by rw[Gs];omega
   have j3:IntKind.i64.wrap ((u:Int)+l+4)=(u:Int)+l+4:=by rw[Gs];omega
   clear f4 c8 D c6;go_wp2_with fail;generalize w3.alloc (.cells #[.bool false,.int .i64 u,.int .i64 l] 81)=w4 at b9 b7 |-;generalize w3.heap.size=bx at b7 |-;clear i4 i7 j2 j3;obtain⟨t1,g9⟩:∃ t1,t0+200=t1:=⟨_,rfl⟩;rw[g9] at HK;have j6:t1<=880220:=by omega
   clear g9
   go_loopw [14,15] (fun h7 d1 A=>∃ j:Nat,d1=.int .i64 j/\ZO w4 A/\((h7=.bool false/\j<=u+l+2/\((j=0/\Fr Nil w4 A)\/(1<=j/\Vy w A K n t1 g y N M F p X.nb j)))\/(h7=.bool true/\j<=u+l+3/\Fin w A K n (t1+10) 0 g y W F p X.nb N.S))) (fun _ d1 _=>(u+l+4)-(intOf d1).toNat)
   case atStart=>exact⟨0,rfl,ZO.nil (U _ _),.inl ⟨rfl,by omega,.inl ⟨rfl,U _ _⟩⟩⟩
   case round =>
    obtain⟨j,rfl,g1,c9⟩:=hrel;have d8:=Z g1;clear g1;rcases c9 with⟨rfl,hj,V⟩|⟨rfl,hj,f0⟩
    .have hl2:(j:Int)<(u:Int)+l+4:=by omega
     have k2:IntKind.i64.wrap ((j:Int)+1)=(j:Int)+1:=by rw[Gs];omega
     have D:wr.cell? ⟨K,1,none⟩=some (.pointer (some ⟨X.nb,0,none⟩)):=by
      rcases V with⟨_,f⟩|⟨_,h⟩
      .exact(HK.out.nil (b9.out.trans f)).kp.st.Ay.cell 1
      .exact h.cell
     have d9:Hid (Calls Tryz.prog 40 #[.pointer (some ⟨X.nb,0,none⟩)] wr fun e A=>∃ b:Bool,e=.returned (.tuple #[.bool b,.int .i64 0])/\ZO wr A/\((b=false/\j+1<=u+l+2/\Vy w A K n t1 g y N M F p X.nb (j+1))\/(b=true/\j+1<=u+l+3/\Fin w A K n (t1+10) 0 g y W F p X.nb N.S))):=by
      obtain⟨f6,f1⟩:=c2.out;rcases V with⟨rfl,f⟩|⟨h1,h⟩
      .refine((HK.out.nil (b9.out.trans f)).begin x HH.out.1 v.out Q.out (by omega)).mono ?_
       rintro e A ⟨rfl,h2,h3⟩;exact⟨false,rfl,h3,.inl ⟨rfl,by omega,h2⟩⟩
      .by_cases hlast:j=u+l+2
       .refine(h.done x HK.out v.out Q.out (by omega) (by rw[f6,f1];exact hlast)).mono ?_
        rintro e A ⟨rfl,X',N',M',h2,h3,h4,h5,h6⟩;exact⟨true,rfl,h6,.inr ⟨rfl,by omega,X',N',M',h2,h3,h4,h5⟩⟩
       .refine(h.go x HK.out v.out Q.out (by omega) (by rw[f6,f1];omega)).mono ?_
        rintro e A ⟨rfl,h2,h3⟩;exact⟨false,rfl,h3,.inl ⟨rfl,by omega,h2⟩⟩
     clear V;go_wp2_with fail;refine d9.out.mono ?_;rintro e w6 ⟨b,rfl,G,h6⟩;have I:=Z (And.intro G h6);clear G h6 d9 D;go_wp2_with fail;refine⟨⟨j+1,by push_cast;rfl,d8.out.trans I.out.1,?_⟩,by simp[intOf];omega⟩;rcases I.out.2 with⟨rfl,h1,h2⟩|⟨rfl,h1,h2⟩
     .exact .inl ⟨rfl,h1,.inr ⟨by omega,h2⟩⟩
     .exact .inr ⟨rfl,h1,h2⟩
    .have hl2:(j:Int)<(u:Int)+l+4:=by omega
     obtain⟨X5,N5,M5,r,i2,a5,h0⟩:=f0;have b4:=d8.out _ _ b7.out;have R:=Z r;have i0:=Z b4;have D:∀ q,wr.cell? ⟨K,q,none⟩=(zp X5.db (.pointer (some ⟨X5.nb,0,none⟩)) n g y)[q]?:=r.kp.st.Ay.cell;simp only[zp] at D;have i3:=r.ni.bd.yj (by omega);have a3:=Z (TV wr X5.db X5.LD M5 r.kp.st.node.AH);rw[DM.xV M5 (by omega)] at a3;have a2:=Z (fun d (f:Fr Nil wr d)=>NE X5 N5 M5 d (r.nil f).kp.st.node r.ni.st.1 (by have:=r.ni.nk;omega));have a8:=Z (show Has N5.S.keys k {data:=#[49,57]} by rw[a5];exact HH.out.2);have e5:=Z (fun d (f:Fr Nil wr d)=>(r.nil f).wj (by omega) a8.out a1.out);have b1:=Z (fun d (f:Fr Nil wr d)=>(r.nil f).steady x v.out Q.out (by omega) d0 c 0 HC.out (by unfold InR;omega));have e2:=Z a5;have b6:XR N5.S=XR N.S:=by rw[a5]
     rw[b6] at a2;have g3:¬((XR N.S:Nat):Int)<((M5.yj:Nat):Int):=by omega
     generalize XR N.S=ss at a2 g3;generalize M5.yj=mt at a3 g3;clear r b4 h0 a5 b6 i3 i2;go_wp2_with fail;refine a3.out.mono ?_;rintro e w7 ⟨rfl,f7⟩;have i5:w7.cell? ⟨K,1,none⟩=some (.pointer (some ⟨X5.nb,0,none⟩)):=(R.out.nil f7).kp.st.Ay.cell 1;have d6:=Z f7;have b2:=Z (a2.out w7 f7);clear D f7 a3 a2;go_wp2_with fail;refine b2.out.mono ?_;rintro e w8 ⟨rfl,f8⟩;have a0:=Z (d6.out.trans f8);have i6:w8.cell? ⟨K,1,none⟩=some (.pointer (some ⟨X5.nb,0,none⟩)):=(R.out.nil a0.out).kp.st.Ay.cell 1;have e4:=Z (e5.out w8 a0.out);clear i5 f8 b2 d6 e5;go_wp2_with fail;refine e4.out.mono ?_;rintro e w9 ⟨rfl,f9⟩;have d7:=Z (a0.out.trans f9);have b0:=Z (b1.out w9 d7.out);clear i6 f9 e4 a0 b1;go_wp2_with fail;refine b0.out.mono ?_;rintro e d2 ⟨rfl,X6,N6,M6,W6,F6,p6,t,b5,G⟩;have L:=b5.says t.ni R.out.ni R.out.ni.dead R.out.ye;have f5:Has N6.S.keys k {data:=#[49,57]}:=a8.out.bare L.1;have g0:N6.S.keys.length=u:=by
      have h1:=FW List.length L.1;unfold ZN at h1;rw[Gv,Gv,e2.out,c2.out.1] at h1;exact h1
     have g6:N6.S.hints.length=l:=by rw[L.2,e2.out,c2.out.2]
     have d3:=Z (G _ _ (i0.out.fr d7.out id));have e3:=Z (t.wj (by omega) f5 a1.out);have c5:=Z (fun d (f:Fr Nil d2 d)=>(t.nil f).state);rw[g0,g6] at c5;have I:=Z t;have e8:d2.cell? ⟨K,1,none⟩=some (.pointer (some ⟨X6.nb,0,none⟩)):=t.kp.st.Ay.cell 1;clear t b5 G L f5 g0 g6 b0;go_wp2_with fail;refine e3.out.mono ?_;rintro e h8 ⟨rfl,a4⟩;have e9:h8.cell? ⟨K,1,none⟩=some (.pointer (some ⟨X6.nb,0,none⟩)):=(I.out.nil a4).kp.st.Ay.cell 1;have d4:=Z a4;have a9:=Z (c5.out h8 a4);clear e8 a4 e3 c5;go_wp2_with fail;refine a9.out.mono ?_;rintro e h9 ⟨rfl,e6⟩;have b3:=Blk.new h9 [.bool false,.int .i64 u,.int .i64 l] 81;have c7:Fr Nil d2 (h9.alloc (.cells #[.bool false,.int .i64 u,.int .i64 l] 81)):=(d4.out.trans e6).alloc _;have e7:=d3.out.fr c7 id;have j8:=b3.cell;have j9:=e7.cell;have d5:=Z (I.out.kp.fr.trans c7);clear e9 e6 b3 e7 c7 a9;go_wp2_with fail;go_ret;exact⟨by simp,d5.out⟩
end Go.Proofs.YtkhnggkkiefcdaaGreatDoor
