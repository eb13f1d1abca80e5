/- larder: joined texts -/
import Derived.Test.YtkhnggkkiefcdaaGreatDoorALAJ
namespace Go.Proofs.YtkhnggkkiefcdaaGreatDoor
open Go.RowKit Proofs.Tryz
set_option maxRecDepth 100000
set_option maxHeartbeats 8000000
variable{K:Nat->Prop}{p:Prop}{a:Nat}{v:Ver}
theorem MRep.fin{w W W':World}{p:Nat}{m:LM}(h:MRep (KGr K w W) W p m)(f:Fr Nil W W')(hs:w.heap.size<=W.heap.size):MRep (KGr K w W') W' p m:=(h.nil f).mono (fun _ a=>a.trans hs f.size)
def LM.sE(m:LM)(to:Nat)(b:ByteArray):LM:={m with uU:=m.uU++[(to,b)]}
def LM.qJ(m:LM):LM:={m with uU:=m.uU.drop 1}
theorem Ho(w:World)(g:Value)(l:List (Nat × ByteArray))(h:w.ownsRow 0 75 2 g l.length (zI l))(r:l.length<1000000)(e:World)(f:Fr Nil w e)(ty:TypeId) :
 ∃ b c,(Builtin.append_ #[66,66] ty #[.slice none 0 0,g]).run prog e=.ok b c /\
  (c.ownsRow 0 75 2 b l.length (zI l)/\Fr Nil w c/\(∀ k,b.ownBlock=some k->w.heap.size<=k)):=by
 have p:=ze h f (fun _ _=>id);obtain⟨b,c,q,j,o,a⟩:=Xf (P:=prog) 66 ty 75 2 24 yq TR V (.slice none 0 0) 0 [] (Bf e 0 _ _) g l.length (zI l) p (Vx l) ac V;refine⟨b,c,q,by simpa using j,f.trans ((Fr.sB o).mono (fun i _ h=>by simp[Value.ownBlock] at h)),fun k d=>?_⟩;rcases a with a|a
 .rw[a] at d;simp[Value.ownBlock] at d
 .rw[a] at d;simp at d;have:=f.size;omega
theorem FI(w:World)(g p:Nat)(l:List (Nat × ByteArray))(h:w.ownsRow 0 75 2 (.slice (some (Y g 0)) l.length p) l.length (zI l))(s:l.length<1000000)(B:0<l.length)(o:Addr)(a:o=⟨g,2,none⟩\/l.length=1)(c:Nat)(f:World)(q:Fr Nil w f)(ty:TypeId) :
 ∃ v' d,(Builtin.append_ #[66,66] ty #[.slice none 0 0,.slice (some o) (l.length-1) c]).run prog f=.ok v' d /\
  (d.ownsRow 0 75 2 v' (l.length-1) (zI (l.drop 1))/\Fr Nil w d/\(∀ k,v'.ownBlock=some k->w.heap.size<=k)):=by
 have t:=ze h q (fun _ _=>id);obtain⟨x,r,rfl⟩:∃ x r,l=x::r:=by cases l with|nil=>simp at B|cons x r=>exact⟨x,r,rfl⟩
 simp only[Bh,wD,yk,Au] at t |-;obtain⟨v',d,C,y,A,b⟩:=zq (P:=prog) 66 ty 75 2 24 yq TR V (.slice none 0 0) 0 [] (Bf f 0 _ _) o r.length c (zI r) (PG r)
  (fun j u v=>by
    rcases a with rfl|a
    case inr=>simp at a;subst a;simp[zI] at v
    rw[BO];refine own_cell? t (2+j) u ?_;rw[show zI (x::r)=[I x.1,.string x.2]++zI r from rfl,AJ bG];simpa using v) (Vx r) (by unfold maxLen;simp at s;omega) (by simp at s;omega)
 refine⟨v',d,C,by simpa using y,q.trans ((Fr.sB A).mono (fun i _ h=>by simp[Value.ownBlock] at h)),fun k e=>?_⟩;rcases b with b|b
 .rw[b] at e;simp[Value.ownBlock] at e
 .rw[b] at e;simp at e;have:=q.size;omega
theorem HintAt.th{w wr w4:World}{p c:Nat}{s T v':Value}{g:List (ByteArray × Value)}{m:LM}{hs hs':List (Nat × ByteArray)}(X:MAt w p s T g m)(u:∀ k,MBlk p s T g k->K k)
 {t:Value}(r:Blk wr c [I m.node,s,t] 107)(hf:Fr Nil w wr)(B:w.heap.size<=c)(ho:wr.ownsRow 0 75 2 t hs.length (zI hs))(x:∀ k,t.ownBlock=some k->w.heap.size<=k)
 {n:Nat}(C:n=hs'.length)(Q:w4.ownsRow 0 75 2 v' n (zI hs'))(D:Fr (fun k=>t.ownBlock=some k) wr w4)(hn:∀ k,v'.ownBlock=some k->w.heap.size<=k) :
 Blk (w4.setCell (Y c 2) v') c [I m.node,s,v'] 107/\Fr Nil w (w4.setCell (Y c 2) v')/\(w4.setCell (Y c 2) v').ownsRow 0 75 2 v' hs'.length (zI hs')/\MRep (KGr K w (w4.setCell (Y c 2) v')) (w4.setCell (Y c 2) v') c {m with uU:=hs'}:=by
 subst C;have o:Blk w4 c _ _:=r.fr D (zh ho r O);have G:Fr (fun k=>k=c) w4 (w4.setCell (Y c 2) v'):=Fr.set (S:=fun k=>k=c) (p:=⟨c,2,none⟩) (U _ _) (fun _=>rfl) _;have j:=o.set 2 v';have R:Fr Nil w (w4.setCell (Y c 2) v'):=(hf.tk D (fun i hi e=>by have:=x i e;omega)).tk G (fun i hi e=>V);have h:(w4.setCell (Y c 2) v').ownsRow 0 75 2 v' hs'.length (zI hs'):=ze Q G (fun k u e=>by subst e;exact zh Q o O u);have l:=X.nil R;refine⟨j,R,h,s,v',g,⟨j,l.qi,l.rq,h⟩,fun k A=>?_⟩;rcases A with rfl|e|e|⟨a,y,e⟩
 .exact .inr ⟨B,j.lt⟩
 .exact .inl (u k (.inr (.inl e)))
 .exact .inr ⟨hn k e,zF h e⟩
 .exact .inl (u k (.inr (.inr (.inr ⟨a,y,e⟩))))
theorem Db(h:p:=by
 have l:aa (wb.ownsRow 0 75 2 (.slice va m.uU.length vc) m.uU.length (zI m.uU)):=by have:=(R.o.nil f0).sE;rw[s] at this;exact this
 clear a4 f0 c;go_wp2_with fail
 go_region_law
  ((refine Zw bH _ _ _ _ bH _ _ bH bH (Ho wb _ m.uU l.o x _ zd _) ?_;rintro v4 w4 ⟨v,r,M⟩;obtain⟨N,Q,a6⟩:=zf v;subst a6;have C:=a8.o _ (r.mono (fun _ _ h=>absurd h id));have b3:=C.cell;have b5:=C.frozen;have T:=Z v;have J:=Z M;have S:=Z r;clear v M r))
 all_goals
  obtain⟨i,G,X,_⟩:=HintAt.th (m:=m) (hs:=[]) R.o HB.o (by rw[d];exact a1.o) A.o aW (Bf _ 0 _ _) (fun k u=>by simp[Value.ownBlock] at u) rfl T.o (S.o.mono (fun _ _ h=>absurd h id)) (fun k u=>CO A.o.size (J.o k u));have b0:aa (∀ k,(Value.slice N m.uU.length Q).ownBlock=some k->w.heap.size<=k):=fun k u=>CO A.o.size (J.o k u);clear b3 b5 C T S J c2 c4 q;generalize w4.setCell (Y y 2) (.slice N m.uU.length Q)=w5 at i G X |-;rw[d] at i;have c7:=i.cell;have d1:=i.frozen;have b6:aa (∀ w6:World,Fr (fun k=>(Value.slice N m.uU.length Q).ownBlock=some k) w5 w6->Blk w6 y [I m.node,.slice ka b.length kc,.slice N m.uU.length Q] 107):=fun w6 f=>i.fr f (zh X i O);have b7:=Z i;have b1:=Z X;have a9:=Z G;clear i X G
  go_wp2_with (at_builtin;go_must (refine zm rfl _ _ _ _ rfl _ _ bH bH (PJ w5 _ _ _ b1.o to j x _ zd _ aL _) ?_;rintro v6 w6 ⟨a5,a2,b4⟩;obtain⟨d3,d4,c3⟩:=zf a5;subst c3;have b2:=b6.o _ a2;have c8:=b2.cell;have d2:=b2.frozen;have c0:=Z a5;have b9:=Z b4;have b8:=Z a2;clear a5 b4 a2))
  obtain⟨_,G,_,hM⟩:=HintAt.th (m:=m) (hs:=m.uU) (hs':=m.uU++[(to,j)]) R.o HB.o (by rw[d];exact b7.o) a9.o aW b1.o b0.o (show m.uU.length+1=(m.uU++[(to,j)]).length from bG) (by rw[UL];exact c0.o) b8.o (fun k u=>(b9.o k u).elim (b0.o k) (fun h=>CO a9.o.size h));have HM:=Z hM;have B:=Z G;clear hM G;go_ret2;exact .inr ⟨H0.o,y,rfl,HM.o,B.o,by rw[o.o];exact CP _⟩):p:=h
theorem Dc(h:p:=by
 have l:aa (wb.ownsRow 0 75 2 (.slice (some (Y g 0)) m.uU.length vc) m.uU.length (zI m.uU)):=by have:=(R.o.nil f0).sE;rw[s] at this;exact this
 have c9:(1:Int)<=(m.uU.length:Int):=V
 clear a4 f0 c;by_cases d0:vc=1
 .have hl1:m.uU.length=1:=V
  have hd:m.uU.drop 1=[]:=BH (by rw[Bc];omega);have a7:aa (m.qJ={m with uU:=[]}):=Z (by unfold LM.qJ;rw[hd]);obtain⟨_,G,_,hM⟩:=HintAt.th (w4:=wb) (v':=.slice none 0 0) (m:=m) (hs:=[]) (hs':=[]) R.o HB.o (by rw[d];exact a1.o) A.o aW (Bf _ 0 _ _) (fun k u=>by simp[Value.ownBlock] at u) rfl (Bf _ 0 _ _) (U _ _) (fun k u=>by simp[Value.ownBlock] at u);have HM:=Z hM;have B:=Z G;clear hM G hd;go_wp2_with fail
  go_region
  all_goals
   go_wp2
   go_ret2;exact .inr ⟨H0.o,y,rfl,by rw[a7.o];exact HM.o.fin (U _ _).drew B.o.size,B.o.drew,by rw[o.o];exact CP _⟩
 .go_wp2_with fail
  go_region_law
   ((refine Zw bH _ _ _ _ bH _ _ bH bH (FI wb g vc m.uU l.o x a0 ⟨g,2,none⟩ (.inl rfl) _ _ zd _) ?_;rintro v4 w4 ⟨v,r,M⟩;obtain⟨N,Q,a6⟩:=zf v;subst a6;have C:=a8.o _ (r.mono (fun _ _ h=>absurd h id));have b3:=C.cell;have b5:=C.frozen;have T:=Z v;have J:=Z M;have S:=Z r;clear v M r))
  all_goals
   go_wp2
   obtain⟨_,G,_,hM⟩:=HintAt.th (m:=m) (hs:=[]) R.o HB.o (by rw[d];exact a1.o) A.o aW (Bf _ 0 _ _) (fun k u=>by simp[Value.ownBlock] at u) (show m.uU.length-1=(m.uU.drop 1).length from(Bc ..).symm) T.o (S.o.mono (fun _ _ h=>absurd h id)) (fun k u=>CO A.o.size (J.o k u));have HM:=Z hM;have B:=Z G;clear hM G;go_ret2;exact .inr ⟨H0.o,y,rfl,HM.o,B.o,by rw[o.o];exact CP _⟩):p:=h
theorem Lj(h:p:=by
 go_wp2_with fail
 go_region
 have c:=c.drew;generalize (w.alloc (.cells #[I m.node,.slice ka b.length kc,.slice none 0 0] 107)).drew=wb at c f0 |-;generalize a4:w.heap.size=y at c |-;have o:=Z a4;have A:=Z f0;have q:=(R.o.nil f0).td.cell;rw[s,d] at q;have c2:=c.cell;have c4:=c.frozen;have a1:=Z c;have a8:aa (∀ w4:World,Fr (fun k=>(Value.slice none 0 0).ownBlock=some k) wb w4->Blk w4 y [I m.node,.slice ka b.length kc,.slice none 0 0] 107):=fun w4 f=>c.fr f aB
 first
  | (clear c5;exact Dc)
  | exact Db):p:=h
theorem SE(K:Nat->Prop)(p:Nat)(m:LM)(w:World)(h:MRep K w p m)(x:m.uU.length<1000000) :
 Calls prog 114 #[E p 0] w fun e w' =>
  (m.uU=[]/\e=.returned (.tuple #[.pointer none,I 7])/\Fr Nil w w') \/
  (m.uU≠[]/\∃ y,e=.returned (.tuple #[E y 0,I 0])/\MRep (KGr K w w') w' y m.qJ/\Fr Nil w w'/\w.heap.size<=y):=by
 obtain⟨kv,hv,b,L,hb⟩:=h;have q:=L.td.cell;obtain⟨va,vc,s⟩:=zf L.sE;obtain⟨ka,kc,d⟩:=zf L.qi;rw[s,d] at q;have R:=Z L;have HB:=Z hb;clear L hb;by_cases D:m.uU=[]
 .have h0':((m.uU.length:Int)==0)=true:=by rw[D];rfl
  rw[D] at q;have H0:=Z D;clear D h0';go_enter func114,ntmps114
  go_wp2
  go_ret2;exact .inl ⟨H0.o,rfl,U _ _⟩
 .have h0':((m.uU.length:Int)==0)=false:=by cases h:m.uU with|nil=>exact absurd h D|cons a t=>simp;omega
  have a0:0<m.uU.length:=yl.2 D;have H0:=Z D;obtain⟨g,c1,a3,c6,_⟩:=zl R.o.sE a0;rw[s] at a3;obtain⟨rfl,rfl⟩:va=some (Y g 0)/\vc=c1:=by simpa using a3
  clear D a3;have c:=Blk.new w [I m.node,.slice ka b.length kc,.slice none 0 0] 107;have f0:Fr Nil w (w.alloc (.cells #[I m.node,.slice ka b.length kc,.slice none 0 0] 107)).drew:=((U _ _).alloc _).drew;go_enter func114,ntmps114;have c5:=0;exact Lj
theorem NS(K:Nat->Prop)(p:Nat)(m:LM)(to:Nat)(j:ByteArray)(w:World)(h:MRep K w p m)(x:m.uU.length<1000000) :
 Calls prog 115 #[E p 0,I to,.string j] w fun e w' =>
  (32<=m.uU.length/\e=.returned (.tuple #[.pointer none,I 6])/\Fr Nil w w') \/
  (m.uU.length<32/\∃ y,e=.returned (.tuple #[E y 0,I 0])/\MRep (KGr K w w') w' y (m.sE to j)/\Fr Nil w w'/\w.heap.size<=y):=by
 obtain⟨kv,hv,b,L,hb⟩:=h;have q:=L.td.cell;obtain⟨va,vc,s⟩:=zf L.sE;obtain⟨ka,kc,d⟩:=zf L.qi;rw[s,d] at q;have R:=Z L;have HB:=Z hb;clear L hb;by_cases D:32<=m.uU.length
 .have h0':(32:Int)<=(m.uU.length:Int):=V
  have H0:=Z D;clear D;go_enter func115,ntmps115
  go_wp2
  go_ret2;exact .inl ⟨H0.o,rfl,U _ _⟩
 .have h0':¬(32:Int)<=(m.uU.length:Int):=V
  have H0:aa (m.uU.length<32):=Z V;clear D;have c:=Blk.new w [I m.node,.slice ka b.length kc,.slice none 0 0] 107;have f0:Fr Nil w (w.alloc (.cells #[I m.node,.slice ka b.length kc,.slice none 0 0] 107)).drew:=((U _ _).alloc _).drew;go_enter func115,ntmps115;exact Lj
def zP(a:Nat)(key:ByteArray)(v:Ver):Int:=if zu key=false then 2 else if 128<v.value.size then 3 else if foreign a v=false then 5 else 0
theorem X9(h:v.node<0\/4<=v.node\/v.node=a\/v.seq<1\/1000000000<v.seq\/(v.ts=true/\v.value.size≠0)):foreign a v=false:=by
 unfold foreign zM;rcases h with h|h|h|h|h|⟨h,b⟩
 .simp;intros;omega
 .simp;intros;omega
 .simp[h]
 .simp;intros;omega
 .simp;intros;omega
 .simp[h,b]
theorem KS(g:¬v.node<0)(i:¬4<=v.node)(e:v.node≠a)(j:¬v.seq<1)(k:¬1000000000<v.seq)(f:v.ts=false\/v.value.size=0):foreign a v=v.qG.all zG:=by
 unfold foreign zM;have b:decide (0<=v.node/\v.node<4)=true:=by simp;omega
 have c:decide (1<=v.seq/\v.seq<=1000000000)=true:=by simp;omega
 have d:(v.ts&&decide (v.value.size≠0))=false:=by rcases f with h|h <;> simp[h]
 rw[b,c,d];simp[e]
theorem SF(h:p:=by
 clear g ho d;rcases l with l|⟨l,b3⟩
 .go_wp2
  go_ret;exact⟨by rw[r.o];rfl,N.o⟩
 .go_wp2
  go_ret;exact⟨by rw[r.o];rfl,N.o⟩):p:=h
theorem EB(h:p:=by
 have b1:aa (wb.drewN nq=wb.drewN nq):=Z rfl;generalize a7:wb.drewN nq=wd at f |-;have N:aa (Fr Nil w wd):=by rw[<- a7];exact M.o.drewN _
 clear a7
 go_loopw [8] (fun t w'=>∃ i:Nat,i<=4/\t=I i/\(([s,u,y,A].take i).all zG)=true/\w'=wd) (fun t _=>4-(intOf t).toNat)
 case atStart=>exact⟨0,V,rfl,rfl,rfl⟩
 case round =>
  obtain⟨i,hi,rfl,d,hw⟩:=hrel;subst hw;have a1:i=0\/i=1\/i=2\/i=3\/i=4:=V
  rcases a1 with rfl|rfl|rfl|rfl|rfl
  .cases ho:zG s with
   | false =>
    have g:=L.o false bq;have r:=Z g;have l:s<0\/(¬s<0/\1000000000<s):=by unfold zG at ho;simp only[BP] at ho;omega
    exact SF
   | true =>
    have c:(([s,u,y,A].take 1).all zG)=true:=by simp[ho]
    have q:=Z c;have l:¬s<0/\¬1000000000<s:=by unfold zG at ho;simp only[Bi] at ho;omega
    obtain⟨a2,a3⟩:=l;clear c ho d
    go_wp2
    exact⟨⟨1,V,by go_num,q.o,by first|rfl|trivial⟩,by simp[intOf]⟩
  .cases ho:zG u with
   | false =>
    have g:=L.o false bq;have r:=Z g;have l:u<0\/(¬u<0/\1000000000<u):=by unfold zG at ho;simp only[BP] at ho;omega
    exact SF
   | true =>
    have c:(([s,u,y,A].take 2).all zG)=true:=by simp at d;simp[ho,d]
    have q:=Z c;have l:¬u<0/\¬1000000000<u:=by unfold zG at ho;simp only[Bi] at ho;omega
    obtain⟨a2,a3⟩:=l;clear c ho d
    go_wp2
    exact⟨⟨2,V,by go_num,q.o,by first|rfl|trivial⟩,by simp[intOf]⟩
  .cases ho:zG y with
   | false =>
    have g:=L.o false bq;have r:=Z g;have l:y<0\/(¬y<0/\1000000000<y):=by unfold zG at ho;simp only[BP] at ho;omega
    exact SF
   | true =>
    have c:(([s,u,y,A].take 3).all zG)=true:=by simp at d;simp[ho,d]
    have q:=Z c;have l:¬y<0/\¬1000000000<y:=by unfold zG at ho;simp only[Bi] at ho;omega
    obtain⟨a2,a3⟩:=l;clear c ho d
    go_wp2
    exact⟨⟨3,V,by go_num,q.o,by first|rfl|trivial⟩,by simp[intOf]⟩
  .cases ho:zG A with
   | false =>
    have g:=L.o false bq;have r:=Z g;have l:A<0\/(¬A<0/\1000000000<A):=by unfold zG at ho;simp only[BP] at ho;omega
    exact SF
   | true =>
    have c:(([s,u,y,A].take 4).all zG)=true:=by simp at d;simp[ho,d]
    have q:=Z c;have l:¬A<0/\¬1000000000<A:=by unfold zG at ho;simp only[Bi] at ho;omega
    obtain⟨a2,a3⟩:=l;clear c ho d
    go_wp2
    exact⟨⟨4,V,by go_num,q.o,by first|rfl|trivial⟩,by simp[intOf]⟩
  .have g:=L.o true (by rw[B.o];exact d)
   have r:=Z g;clear g d
   go_wp2
   go_ret;exact⟨by rw[r.o];rfl,N.o⟩):p:=h
theorem TV(p:Nat)(j:Nat)(kv hv:Value)(key:ByteArray)(v:Ver)(w:World)(h:Blk w p [I j,kv,hv] 107) :
 Calls prog 111 #[E p 0,.string key,.agg v.cells.toArray] w fun e w'=>e=.returned (I (zP j key v))/\Fr Nil w w':=by
 have hA:=Blk.new w v.cells 37;have f0:Fr Nil w (w.alloc (.cells v.cells.toArray 37)):=(U _ _).alloc _;have a6:(w.alloc (.cells v.cells.toArray 37)).cell? (Y p 0)=some (I j):=(h.fr f0 id).cell 0;have HK:=Z (Ym key (w.alloc (.cells v.cells.toArray 37)));have f:=hA.cell;have M:=Z f0;have Q:=Z (X8 v.value);clear hA f0 h;obtain⟨node,m,s,u,y,A,a,o⟩:=v;simp only[Ver.cells] at HK M a6 f Q |-;go_enter func111,ntmps111;go_wp2_with fail;generalize w.alloc (.cells #[I node,I m,I s,I u,I y,I A,.string a,.bool o] 37)=wb at HK M a6 f |-;generalize w.heap.size=b at f |-;have b2:wb.cell? (Y b 6)=some (.string a):=f 6;cases hk:zu key with
 | false =>
  have g:zP j key ⟨node,m,s,u,y,A,a,o⟩=2:=by unfold zP;rw[Bl hk]
  have hb:Z2 key=2:=by unfold Z2;rw[CW (by rw[hk];decide)]
  rw[hb] at HK;have r:=Z g;clear hk g hb;refine HK.o.mono ?_;rintro e w1 ⟨rfl,b0⟩;subst w1
  go_wp2
  go_ret;exact⟨by rw[r.o];rfl,M.o⟩
 | true =>
 have hb:Z2 key=0:=by unfold Z2;rw[Bl hk]
 rw[hb] at HK;have a5:=Z hk;clear hk hb;refine HK.o.mono ?_;rintro e w1 ⟨rfl,b0⟩;subst w1;by_cases hv:128<a.size
 .have g:zP j key ⟨node,m,s,u,y,A,a,o⟩=3:=by unfold zP;rw[CW (by rw[a5.o];decide),Bl hv]
  have r:=Z g;have a9:(128:Int)<(a.size:Int):=V
  clear g hv
  go_wp2
  go_ret;exact⟨by rw[r.o];rfl,M.o⟩
 have a9:¬(128:Int)<(a.size:Int):=V
 have L:aa (∀ x,foreign j ⟨node,m,s,u,y,A,a,o⟩=x->zP j key ⟨node,m,s,u,y,A,a,o⟩=if x=false then 5 else 0):=by
  intro x hx;unfold zP;rw[CW (by rw[a5.o];decide),CW hv,hx]
 clear hv;go_wp2_with fail;by_cases C:node<0
 .have g:=L.o false (X9 ((.inl C)))
  have r:=Z g;have R:decide (node<0)=true:=by simp[C]
  clear g C
  go_quiet (fail)
  go_wp2
  go_ret;exact⟨by rw[r.o];rfl,M.o.drewN _⟩
 have R:decide (node<0)=false:=by simp[C]
 by_cases D:4<=node
 .have g:=L.o false (X9 ((.inr (.inl D))))
  have r:=Z g;have S:decide (4<=node)=true:=by simp[D]
  clear g D
  go_quiet (fail)
  go_wp2
  go_ret;exact⟨by rw[r.o];rfl,M.o.drewN _⟩
 have S:decide (4<=node)=false:=by simp[D]
 by_cases G:node=j
 .have g:=L.o false (X9 ((.inr (.inr (.inl G)))))
  have r:=Z g;have T:(node==(j:Int))=true:=by simp[G]
  clear g G
  go_quiet (fail)
  go_wp2
  go_ret;exact⟨by rw[r.o];rfl,M.o.drewN _⟩
 have T:(node==(j:Int))=false:=by simp[G]
 by_cases J:m<1
 .have g:=L.o false (X9 ((.inr (.inr (.inr (.inl J))))))
  have r:=Z g;have X:decide (m<1)=true:=by simp[J]
  clear g J
  go_quiet (fail)
  go_wp2
  go_ret;exact⟨by rw[r.o];rfl,M.o.drewN _⟩
 have X:decide (m<1)=false:=by simp[J]
 by_cases K:1000000000<m
 .have g:=L.o false (X9 ((.inr (.inr (.inr (.inr (.inl K)))))))
  have r:=Z g;have a0:decide (1000000000<m)=true:=by simp[K]
  clear g K
  go_quiet (fail)
  go_wp2
  go_ret;exact⟨by rw[r.o];rfl,M.o.drewN _⟩
 have a0:decide (1000000000<m)=false:=by simp[K]
 have a4:aa (o=false\/a.size=0->foreign j ⟨node,m,s,u,y,A,a,o⟩=[s,u,y,A].all zG):=fun hx=>KS C D G J K hx;clear C D G J K;cases o with
 | false =>
  have B:=Z (a4.o (.inl rfl))
  go_quiet (fail)
  go_wp2_with fail;have f:∀ k,(wb.drewN nq).cell? (Y b k)=[I node,I m,I s,I u,I y,I A,.string a,.bool false][k]?:=f;exact EB
 | true =>
  by_cases he:a.toList=[]
  .have B:=Z (a4.o (.inr (by rw[Q.o,he];rfl)))
   have a8:a.toList.isEmpty=true:=by rw[he];rfl
   go_quiet (fail)
   go_wp2_with fail;have f:∀ k,(wb.drewN nq).cell? (Y b k)=[I node,I m,I s,I u,I y,I A,.string a,.bool true][k]?:=f;exact EB
  .have a8:a.toList.isEmpty=false:=by simpa using he
   have g:=L.o false (X9 (.inr (.inr (.inr (.inr (.inr ⟨rfl,by show a.size≠0;rw[Q.o];simpa using he⟩))))));have r:=Z g;clear g
   go_quiet (fail)
   go_wp2
   go_ret;exact⟨by rw[r.o];rfl,M.o.drewN _⟩
end Go.Proofs.YtkhnggkkiefcdaaGreatDoor
