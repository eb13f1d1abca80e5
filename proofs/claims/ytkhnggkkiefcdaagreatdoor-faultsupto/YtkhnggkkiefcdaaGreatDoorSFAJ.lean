/- larder: joined texts -/
import Derived.Test.YtkhnggkkiefcdaaGreatDoorSFAI
namespace Go.Proofs.YtkhnggkkiefcdaaGreatDoor
open Go.RowKit
set_option maxRecDepth 100000
set_option maxHeartbeats 8000000
def KGr(K:Nat->Prop)(w a:World)(k:Nat):Prop:=K k\/(w.heap.size<=k/\k<a.heap.size)
theorem Ys.CZ{K:Nat->Prop}{w w':World}{p B:Nat}{s j:Value}{c:List (ByteArray × Value)}{m:LM}{A:Value}{u:Keys}(h:MAt w p s j c m)(z:∀ k,MBlk p s j c k->K k)(r:∀ k,A.ownBlock=some k->K k)
 (I:Ys w w' B j m.node u (fun k=>MBlk p s j c k\/A.ownBlock=some k)):MRep (KGr K w w') w' B {m with keys:=u}:=by
 obtain⟨⟨t,g,x,y,C,D,E⟩,G,o⟩:=I;refine⟨t,j,g,⟨x,y,C,zb h.hint G (fun _ _=>id)⟩,fun k l=>?_⟩;rcases l with rfl|e|e|⟨a,F,e⟩
 .exact .inr ⟨o,x.lt⟩
 .exact .inr ⟨D k e,zC y e⟩
 .exact .inl (z k (.inr (.inr (.inl e))))
 .exact .inl ((E a F k e).elim (z k) (r k))
theorem KGr.trans{K:Nat->Prop}{a b c:World}{k:Nat}(h:KGr (KGr K a b) b c k)(g:a.heap.size<=b.heap.size)(o:b.heap.size<=c.heap.size):KGr K a c k:=by
 rcases h with(h|⟨h,e⟩)|⟨h,e⟩
 .exact .inl h
 .exact .inr ⟨h,by omega⟩
 .exact .inr ⟨by omega,e⟩
theorem MRep.nil{K:Nat->Prop}{w w':World}{p:Nat}{m:LM}(h:MRep K w p m)(f:Fr Nil w w'):MRep (KGr K w w') w' p m:=by
 obtain⟨r,o,c,d,e⟩:=h;exact⟨r,o,c,d.nil f,fun k g=>.inl (e k g)⟩
theorem YY(K:Nat->Prop)(p:Nat)(m:LM)(key:ByteArray)(d:Value)(l:List Ver)(w:World)(h:MRep K w p m)(q:VRow w d l)(i:∀ k,d.ownBlock=some k->K k)(b:m.keys.length<100000000) :
 Calls Tryz.prog 157 #[.pointer (some ⟨p,0,none⟩),.string key,d] w fun e f =>
  ∃ c,e=.returned (.pointer (some ⟨c,0,none⟩))/\MRep (KGr K w f) f c {m with keys:=zX m.keys key l}/\Fr Nil w f/\w.heap.size<=c:=by
 obtain⟨s,r,a,g,o⟩:=h;refine(OZ p s r a m key d l w g q (by rw[g.pair.length];exact b)).mono ?_;rintro e f ⟨c,rfl,j⟩;exact⟨c,rfl,j.CZ g o i,j.fr,j.le⟩
def LM.delete(m:LM)(key:ByteArray):LM:={m with keys:=zX m.keys key []}
theorem VT(K:Nat->Prop)(p:Nat)(m:LM)(key:ByteArray)(w:World)(h:MRep K w p m)(a:m.keys.length<100000000) :
 Calls Tryz.prog 108 #[.pointer (some ⟨p,0,none⟩),.string key] w fun e c =>
  ∃ b,e=.returned (.pointer (some ⟨b,0,none⟩))/\MRep (KGr K w c) c b (m.delete key)/\Fr Nil w c/\w.heap.size<=b:=by
 have g:=Z (YY K p m key (.slice none 0 0) [] w h (Hc w 0 _ _) (fun k l=>by simp[Value.ownBlock] at l) a);clear h;go_enter Tryz.func108,Tryz.ntmps108
 go_wp2_with (refine g.out.mono ?_;rintro e o ⟨b,rfl,d,i,j⟩;have f:=Z d;clear d)
 go_ret;exact⟨b,rfl,f.out,i,j⟩
def LM.putV(m:LM)(key a:ByteArray)(b:Int):Ver :=
 ⟨m.node,b,grV (zE m.keys key) 0,grV (zE m.keys key) 1,grV (zE m.keys key) 2,grV (zE m.keys key) 3,a,false⟩
def LM.put(m:LM)(key a:ByteArray)(b:Int):LM:={m with keys:=zX m.keys key [m.putV key a b]}
theorem MG(K:Nat->Prop)(p:Nat)(m:LM)(key b:ByteArray)(o:Int)(w:World)(h:MRep K w p m)(a7:m.keys.length<100000000)(F:∀ u∈zE m.keys key,zS u.node) :
 Calls Tryz.prog 109 #[.pointer (some ⟨p,0,none⟩),.string key,.string b,.int .i64 o] w fun e Y =>
  ∃ s,e=.returned (.pointer (some ⟨s,0,none⟩))/\MRep (KGr K w Y) Y s (m.put key b o)/\Fr Nil w Y/\w.heap.size<=s:=by
 obtain⟨kv,hv,N,ha,hb⟩:=h;have b2:w.cell? ⟨p,0,none⟩=some (.int .i64 m.node):=ha.CY.cell 0;have I:=Blk.new w [.int .i64 m.node,.int .i64 o,.int .i64 0,.int .i64 0,.int .i64 0,.int .i64 0,.string b,.bool false] 37;have f0:Fr Nil w (w.alloc (.cells #[.int .i64 m.node,.int .i64 o,.int .i64 0,.int .i64 0,.int .i64 0,.int .i64 0,.string b,.bool false] 37)):=(O _ _).alloc _;have HA:=Z ha;have HB:=Z hb;have a5:=Z F;clear ha hb F;go_enter Tryz.func109,Tryz.ntmps109;go_wp2_with fail;generalize w.alloc (.cells #[.int .i64 m.node,.int .i64 o,.int .i64 0,.int .i64 0,.int .i64 0,.int .i64 0,.string b,.bool false] 37)=wb at I f0 |-;generalize a8:w.heap.size=s at I |-;have a4:=Z a8;clear a8;refine(Yi p kv hv N m key wb (HA.out.nil f0)).mono ?_;rintro e L ⟨v,rfl,B,Q,b4⟩;subst b4;have hn:=zH B;unfold maxLen at hn;obtain⟨va,vc,rfl⟩:=zc B;have E:=Z B;have b0:=Z f0;have M:Hid (∀ k,(Value.slice va (zE m.keys key).length vc).ownBlock=some k->k≠s):=fun k J e=>by have:=HA.out.lt k (Q k J);have:=a4.out;omega
 have HG:Hid (LM.putV m key b o=⟨m.node,o,grV (zE m.keys key) 0,grV (zE m.keys key) 1,grV (zE m.keys key) 2,grV (zE m.keys key) 3,b,false⟩):=rfl;have b6:=I.lt;generalize zE m.keys key=a at hn E a5 HG M |-;clear B Q f0 b2;go_wp2_with fail
 go_loopw [11] (fun t Y=>∃ i:Nat,i<=a.length/\t=.int .i64 i/\Blk Y s [.int .i64 m.node,.int .i64 o,.int .i64 (grV (a.take i) 0),.int .i64 (grV (a.take i) 1),.int .i64 (grV (a.take i) 2),.int .i64 (grV (a.take i) 3),.string b,.bool false] 37/\Fr (fun k=>k=s) L Y) (fun t _=>a.length-(intOf t).toNat)
 case atStart=>exact⟨0,Hg _,rfl,I,O _ _⟩
 case round =>
  obtain⟨i,hi,rfl,c,z⟩:=hrel;by_cases C:i<a.length
  .obtain⟨g,rfl⟩:∃ g,va=some ⟨g,0,none⟩:=by
    obtain⟨g,cap,h,_⟩:=zm E.out (by omega);simp at h;exact⟨g,h.1⟩
   have hc:=VRow.cells (zb E.out z (fun k J e=>M.out k J e)) i C;have g0:=hc 0 (by omega);have g1:=hc 1 (by omega);have D:=a5.out a[i] (IX C);have d:=Z (WC a i C 0);have f:=Z (WC a i C 1);have j:=Z (WC a i C 2);have l:=Z (WC a i C 3);clear hc;generalize a[i]=x at g0 g1 D d f j l;obtain⟨xn,y,x0,x1,x2,x3,xv,xg⟩:=x;simp only[Ver.cells,Fx,GQ,GP] at g0 g1 d f j l;generalize grV (a.take i) 0=a0 at c d;generalize grV (a.take i) 1=a1 at c f;generalize grV (a.take i) 2=a2 at c j;generalize grV (a.take i) 3=a3 at c l;have b1:=c.cell;have b7:=c.frozen;have b3:xn=0\/xn=1\/xn=2\/xn=3:=by unfold zS at D;simp only at D;omega
   clear D;rcases b3 with D|D|D|D
   .subst D
    by_cases X:a0<y
    .have q:=Z ((show Blk wr s _ _ from c).set 2 (.int .i64 y))
     have r:Hid (∀ n,Fr (fun k=>k=s) L ((wr.drewN n).setCell ⟨s,2,none⟩ (.int .i64 y))):=Z (fun n=>Fr.set (S:=fun k=>k=s) (p:=⟨s,2,none⟩) (z.drewN n) (fun _=>rfl) _);have A:Hid (max a0 y=y):=Z (by omega);clear c z
     go_wp2
     go_quiet (fail)
     go_wp2
     exact⟨⟨i+1,by omega,by go_num,by first|(rw[d.out,f.out,j.out,l.out];simp only[A.out,Gi,show ¬((0:Int)=1) from by decide,show ¬((0:Int)=2) from by decide,show ¬((0:Int)=3) from by decide,Gj];exact q.out),r.out _⟩,by simp[intOf];omega⟩
    .have A:Hid (max a0 y=a0):=Z (by omega)
     have q:=Z c;have r:Hid (∀ n,Fr (fun k=>k=s) L (wr.drewN n)):=Z (fun n=>z.drewN n);clear c z
     go_wp2
     go_quiet (fail)
     go_wp2
     exact⟨⟨i+1,by omega,by go_num,by first|(rw[d.out,f.out,j.out,l.out];simp only[A.out,Gi,show ¬((0:Int)=1) from by decide,show ¬((0:Int)=2) from by decide,show ¬((0:Int)=3) from by decide,Gj];exact q.out),r.out _⟩,by simp[intOf];omega⟩
   .subst D
    by_cases X:a1<y
    .have q:=Z ((show Blk wr s _ _ from c).set 3 (.int .i64 y))
     have r:Hid (∀ n,Fr (fun k=>k=s) L ((wr.drewN n).setCell ⟨s,3,none⟩ (.int .i64 y))):=Z (fun n=>Fr.set (S:=fun k=>k=s) (p:=⟨s,3,none⟩) (z.drewN n) (fun _=>rfl) _);have A:Hid (max a1 y=y):=Z (by omega);clear c z
     go_wp2
     go_quiet (fail)
     go_wp2
     exact⟨⟨i+1,by omega,by go_num,by first|(rw[d.out,f.out,j.out,l.out];simp only[A.out,Gi,show ¬((1:Int)=0) from by decide,show ¬((1:Int)=2) from by decide,show ¬((1:Int)=3) from by decide,Gj];exact q.out),r.out _⟩,by simp[intOf];omega⟩
    .have A:Hid (max a1 y=a1):=Z (by omega)
     have q:=Z c;have r:Hid (∀ n,Fr (fun k=>k=s) L (wr.drewN n)):=Z (fun n=>z.drewN n);clear c z
     go_wp2
     go_quiet (fail)
     go_wp2
     exact⟨⟨i+1,by omega,by go_num,by first|(rw[d.out,f.out,j.out,l.out];simp only[A.out,Gi,show ¬((1:Int)=0) from by decide,show ¬((1:Int)=2) from by decide,show ¬((1:Int)=3) from by decide,Gj];exact q.out),r.out _⟩,by simp[intOf];omega⟩
   .subst D
    by_cases X:a2<y
    .have q:=Z ((show Blk wr s _ _ from c).set 4 (.int .i64 y))
     have r:Hid (∀ n,Fr (fun k=>k=s) L ((wr.drewN n).setCell ⟨s,4,none⟩ (.int .i64 y))):=Z (fun n=>Fr.set (S:=fun k=>k=s) (p:=⟨s,4,none⟩) (z.drewN n) (fun _=>rfl) _);have A:Hid (max a2 y=y):=Z (by omega);clear c z
     go_wp2
     go_quiet (fail)
     go_wp2
     exact⟨⟨i+1,by omega,by go_num,by first|(rw[d.out,f.out,j.out,l.out];simp only[A.out,Gi,show ¬((2:Int)=0) from by decide,show ¬((2:Int)=1) from by decide,show ¬((2:Int)=3) from by decide,Gj];exact q.out),r.out _⟩,by simp[intOf];omega⟩
    .have A:Hid (max a2 y=a2):=Z (by omega)
     have q:=Z c;have r:Hid (∀ n,Fr (fun k=>k=s) L (wr.drewN n)):=Z (fun n=>z.drewN n);clear c z
     go_wp2
     go_quiet (fail)
     go_wp2
     exact⟨⟨i+1,by omega,by go_num,by first|(rw[d.out,f.out,j.out,l.out];simp only[A.out,Gi,show ¬((2:Int)=0) from by decide,show ¬((2:Int)=1) from by decide,show ¬((2:Int)=3) from by decide,Gj];exact q.out),r.out _⟩,by simp[intOf];omega⟩
   .subst D
    by_cases X:a3<y
    .have q:=Z ((show Blk wr s _ _ from c).set 5 (.int .i64 y))
     have r:Hid (∀ n,Fr (fun k=>k=s) L ((wr.drewN n).setCell ⟨s,5,none⟩ (.int .i64 y))):=Z (fun n=>Fr.set (S:=fun k=>k=s) (p:=⟨s,5,none⟩) (z.drewN n) (fun _=>rfl) _);have A:Hid (max a3 y=y):=Z (by omega);clear c z
     go_wp2
     go_quiet (fail)
     go_wp2
     exact⟨⟨i+1,by omega,by go_num,by first|(rw[d.out,f.out,j.out,l.out];simp only[A.out,Gi,show ¬((3:Int)=0) from by decide,show ¬((3:Int)=1) from by decide,show ¬((3:Int)=2) from by decide,Gj];exact q.out),r.out _⟩,by simp[intOf];omega⟩
    .have A:Hid (max a3 y=a3):=Z (by omega)
     have q:=Z c;have r:Hid (∀ n,Fr (fun k=>k=s) L (wr.drewN n)):=Z (fun n=>z.drewN n);clear c z
     go_wp2
     go_quiet (fail)
     go_wp2
     exact⟨⟨i+1,by omega,by go_num,by first|(rw[d.out,f.out,j.out,l.out];simp only[A.out,Gi,show ¬((3:Int)=0) from by decide,show ¬((3:Int)=1) from by decide,show ¬((3:Int)=2) from by decide,Gj];exact q.out),r.out _⟩,by simp[intOf];omega⟩
  .obtain rfl:i=a.length:=by omega
   rw[HZ] at c;have b1:=c.cell;have V:Fr Nil w wr:=b0.out.trans' z (fun k J e=>by have:=a4.out;omega);have fx:Fr Nil w (wr.alloc (.cells #[.int .i64 m.node,.int .i64 o,.int .i64 (grV a 0),.int .i64 (grV a 1),.int .i64 (grV a 2),.int .i64 (grV a 3),.string b,.bool false] 37)):=V.alloc _;have T:=Blk.new wr [.int .i64 m.node,.int .i64 o,.int .i64 (grV a 0),.int .i64 (grV a 1),.int .i64 (grV a 2),.int .i64 (grV a 3),.string b,.bool false] 37;have G:VRow (wr.alloc (.cells #[.int .i64 m.node,.int .i64 o,.int .i64 (grV a 0),.int .i64 (grV a 1),.int .i64 (grV a 2),.int .i64 (grV a 3),.string b,.bool false] 37)) (.slice (some ⟨wr.heap.size,0,none⟩) 1 1) [LM.putV m key b o]:=by rw[HG.out];exact ZA (cap:=1) T (IQ _) (by decide) rfl rfl
   have a9:=Z (YY (KGr K w (wr.alloc (.cells #[.int .i64 m.node,.int .i64 o,.int .i64 (grV a 0),.int .i64 (grV a 1),.int .i64 (grV a 2),.int .i64 (grV a 3),.string b,.bool false] 37))) p m key _ _ (wr.alloc (.cells #[.int .i64 m.node,.int .i64 o,.int .i64 (grV a 0),.int .i64 (grV a 1),.int .i64 (grV a 2),.int .i64 (grV a 3),.string b,.bool false] 37)) (MRep.nil ⟨kv,hv,N,HA.out,HB.out⟩ fx) G (fun k J=>by simp[Value.ownBlock] at J;subst J;exact .inr ⟨V.size,T.lt⟩) a7);have R:=Z fx;have a6:Hid (LM.put m key b o={m with keys:=zX m.keys key [LM.putV m key b o]}):=rfl;clear c z V fx T G;go_wp2_with fail;refine a9.out.mono ?_;rintro e w5 ⟨b5,rfl,h1,h2,h3⟩;have H1:=Z h1;have H2:=Z h2;have H3:=Z h3;clear h1 h2 h3
   go_wp2
   go_ret;exact⟨b5,rfl,by rw[a6.out];exact H1.out.mono (fun k J=>J.trans R.out.size H2.out.size),R.out.trans H2.out,IP R.out.size H3.out⟩
theorem MRep.fin{K:Nat->Prop}{w W a:World}{p:Nat}{m:LM}(h:MRep (KGr K w W) W p m)(f:Fr Nil W a)(hs:w.heap.size<=W.heap.size):MRep (KGr K w a) a p m:=(h.nil f).mono (fun _ b=>b.trans hs f.size)
def LM.hint(m:LM)(c:Nat)(b:ByteArray):LM:={m with hints:=m.hints++[(c,b)]}
def LM.Au(m:LM):LM:={m with hints:=m.hints.drop 1}
theorem LU(w:World)(g:Value)(l:List (Nat × ByteArray))(h:w.ownsRow 0 75 2 g l.length (zJ l))(r:l.length<1000000)(e:World)(f:Fr Nil w e)(ty:TypeId) :
 ∃ b c,(Builtin.append_ #[66,66] ty #[.slice none 0 0,g]).run Tryz.prog e=.ok b c /\
  (c.ownsRow 0 75 2 b l.length (zJ l)/\Fr Nil w c/\(∀ k,b.ownBlock=some k->w.heap.size<=k)):=by
 have p:=zb h f (fun _ _=>id);obtain⟨b,c,q,j,o,a⟩:=Xt (P:=Tryz.prog) 66 ty 75 2 24 FA T0 (by omega) (.slice none 0 0) 0 [] (Hc e 0 _ _) g l.length (zJ l) p (WN l) (by unfold maxLen;omega) (by omega);refine⟨b,c,q,by simpa using j,f.trans ((Fr.Bv o).mono (fun i _ h=>by simp[Value.ownBlock] at h)),fun k d=>?_⟩;rcases a with a|a
 .rw[a] at d;simp[Value.ownBlock] at d
 .rw[a] at d;simp at d;have:=f.size;omega
theorem Ja(w:World)(g p:Nat)(l:List (Nat × ByteArray))(h:w.ownsRow 0 75 2 (.slice (some ⟨g,0,none⟩) l.length p) l.length (zJ l))(s:l.length<1000000)(A:0<l.length)(o:Addr)(a:o=⟨g,2,none⟩\/l.length=1)(c:Nat)(f:World)(q:Fr Nil w f)(ty:TypeId) :
 ∃ v' d,(Builtin.append_ #[66,66] ty #[.slice none 0 0,.slice (some o) (l.length-1) c]).run Tryz.prog f=.ok v' d /\
  (d.ownsRow 0 75 2 v' (l.length-1) (zJ (l.drop 1))/\Fr Nil w d/\(∀ k,v'.ownBlock=some k->w.heap.size<=k)):=by
 have t:=zb h q (fun _ _=>id);obtain⟨x,r,rfl⟩:∃ x r,l=x::r:=by cases l with|nil=>simp at A|cons x r=>exact⟨x,r,rfl⟩
 simp only[Hq,Nat.add_sub_cancel,GH,GU] at t |-;obtain⟨v',d,B,y,z,b⟩:=zt (P:=Tryz.prog) 66 ty 75 2 24 FA T0 (by omega) (.slice none 0 0) 0 [] (Hc f 0 _ _) o r.length c (zJ r) (Pa r)
  (fun j u v=>by
    rcases a with rfl|a
    case inr=>simp at a;subst a;simp[zJ] at v
    rw[Gh];refine own_cell? t (2+j) u ?_;rw[show zJ (x::r)=[.int .i64 x.1,.string x.2]++zJ r from rfl,Fk (by simp)];simpa using v) (WN r) (by unfold maxLen;simp at s;omega) (by simp at s;omega)
 refine⟨v',d,B,by simpa using y,q.trans ((Fr.Bv z).mono (fun i _ h=>by simp[Value.ownBlock] at h)),fun k e=>?_⟩;rcases b with b|b
 .rw[b] at e;simp[Value.ownBlock] at e
 .rw[b] at e;simp at e;have:=q.size;omega
theorem HintAt.CZ{K:Nat->Prop}{w wr w4:World}{p c:Nat}{s G v':Value}{g:List (ByteArray × Value)}{m:LM}{hs hs':List (Nat × ByteArray)}(I:MAt w p s G g m)(u:∀ k,MBlk p s G g k->K k)
 {t:Value}(r:Blk wr c [.int .i64 m.node,s,t] 107)(J:Fr Nil w wr)(A:w.heap.size<=c)(R:wr.ownsRow 0 75 2 t hs.length (zJ hs))(x:∀ k,t.ownBlock=some k->w.heap.size<=k)
 {n:Nat}(B:n=hs'.length)(E:w4.ownsRow 0 75 2 v' n (zJ hs'))(C:Fr (fun k=>t.ownBlock=some k) wr w4)(Q:∀ k,v'.ownBlock=some k->w.heap.size<=k) :
 Blk (w4.setCell ⟨c,2,none⟩ v') c [.int .i64 m.node,s,v'] 107/\Fr Nil w (w4.setCell ⟨c,2,none⟩ v')/\(w4.setCell ⟨c,2,none⟩ v').ownsRow 0 75 2 v' hs'.length (zJ hs')/\MRep (KGr K w (w4.setCell ⟨c,2,none⟩ v')) (w4.setCell ⟨c,2,none⟩ v') c {m with hints:=hs'}:=by
 subst B;have o:Blk w4 c _ _:=r.fr C (zd R r (by decide));have D:Fr (fun k=>k=c) w4 (w4.setCell ⟨c,2,none⟩ v'):=Fr.set (S:=fun k=>k=c) (p:=⟨c,2,none⟩) (O _ _) (fun _=>rfl) _;have j:=o.set 2 v';have F:Fr Nil w (w4.setCell ⟨c,2,none⟩ v'):=(J.trans' C (fun i N e=>by have:=x i e;omega)).trans' D (fun i N e=>by omega);have h:(w4.setCell ⟨c,2,none⟩ v').ownsRow 0 75 2 v' hs'.length (zJ hs'):=zb E D (fun k u e=>by subst e;exact zd E o (by decide) u);have l:=I.nil F;refine⟨j,F,h,s,v',g,⟨j,l.Ah,l.pair,h⟩,fun k z=>?_⟩;rcases z with rfl|e|e|⟨a,y,e⟩
 .exact .inr ⟨A,j.lt⟩
 .exact .inl (u k (.inr (.inl e)))
 .exact .inr ⟨Q k e,zC h e⟩
 .exact .inl (u k (.inr (.inr (.inr ⟨a,y,e⟩))))
theorem TH(K:Nat->Prop)(p:Nat)(m:LM)(w:World)(h:MRep K w p m)(L:m.hints.length<1000000) :
 Calls Tryz.prog 114 #[.pointer (some ⟨p,0,none⟩)] w fun e V =>
  (m.hints=[]/\e=.returned (.tuple #[.pointer none,.int .i64 7])/\Fr Nil w V) \/
  (m.hints≠[]/\∃ A,e=.returned (.tuple #[.pointer (some ⟨A,0,none⟩),.int .i64 0])/\MRep (KGr K w V) V A m.Au/\Fr Nil w V/\w.heap.size<=A):=by
 obtain⟨kv,hv,c,I,hb⟩:=h;have j:=I.CY.cell;obtain⟨va,T,l⟩:=zc I.hint;obtain⟨R,S,o⟩:=zc I.Ah;rw[l,o] at j;have B:=Z I;have HB:=Z hb;clear I hb;by_cases q:m.hints=[]
 .have h0':((m.hints.length:Int)==0)=true:=by rw[q];rfl
  rw[q] at j;have Q:=Z q;clear q h0';go_enter Tryz.func114,Tryz.ntmps114
  go_wp2
  go_ret2;exact .inl ⟨Q.out,rfl,O _ _⟩
 .have h0':((m.hints.length:Int)==0)=false:=by cases h:m.hints with|nil=>exact absurd h q|cons a t=>simp;omega
  have r:0<m.hints.length:=FD.2 q;have Q:=Z q;obtain⟨g,a3,x,a5,_⟩:=zm B.out.hint r;rw[l] at x;obtain⟨rfl,rfl⟩:va=some ⟨g,0,none⟩/\T=a3:=by simpa using x
  clear q x;have b:=Blk.new w [.int .i64 m.node,.slice R c.length S,.slice none 0 0] 107;have E:Fr Nil w (w.alloc (.cells #[.int .i64 m.node,.slice R c.length S,.slice none 0 0] 107)).drew:=((O _ _).alloc _).drew;go_enter Tryz.func114,Tryz.ntmps114;go_wp2_with fail
  go_region
  have b:=b.drew;generalize (w.alloc (.cells #[.int .i64 m.node,.slice R c.length S,.slice none 0 0] 107)).drew=X at b E |-;generalize N:w.heap.size=A at b |-;have i:=Z N;have s:=Z E;have j:=(B.out.nil E).CY.cell;rw[l,o] at j;have a7:=b.cell;have b1:=b.frozen;have D:=Z b;have Y:Hid (∀ w4:World,Fr (fun k=>(Value.slice none 0 0).ownBlock=some k) X w4->Blk w4 A [.int .i64 m.node,.slice R c.length S,.slice none 0 0] 107):=fun w4 f=>b.fr f (by simp[Value.ownBlock]);have u:Hid (X.ownsRow 0 75 2 (.slice (some ⟨g,0,none⟩) m.hints.length T) m.hints.length (zJ m.hints)):=by have:=(B.out.nil E).hint;rw[l] at this;exact this
  have a8:(1:Int)<=(m.hints.length:Int):=by omega
  clear N E b;by_cases a9:T=1
  .have hl1:m.hints.length=1:=by omega
   have hd:m.hints.drop 1=[]:=Hm (by rw[Hi];omega);have C:Hid (m.Au={m with hints:=[]}):=Z (by unfold LM.Au;rw[hd]);obtain⟨_,F,_,G⟩:=HintAt.CZ (w4:=X) (v':=.slice none 0 0) (m:=m) (hs:=[]) (hs':=[]) B.out HB.out (by rw[o];exact D.out) s.out (by rw[i.out];exact IQ _) (Hc _ 0 _ _) (fun k y=>by simp[Value.ownBlock] at y) rfl (Hc _ 0 _ _) (O _ _) (fun k y=>by simp[Value.ownBlock] at y);have HM:=Z G;have d:=Z F;clear G F hd;go_wp2_with fail
   go_region
   all_goals
    go_wp2
    go_ret2;exact .inr ⟨Q.out,A,rfl,by rw[C.out];exact HM.out.fin (O _ _).drew d.out.size,d.out.drew,by rw[i.out];exact IQ _⟩
  .go_wp2_with fail
   go_region_law
    ((refine Zf (by rfl) _ _ _ _ (by rfl) _ _ (by rfl) (by rfl) (Ja X g T m.hints u.out L r ⟨g,2,none⟩ (.inl rfl) _ _ za _) ?_;rintro v4 w4 ⟨z,v,M⟩;obtain⟨b2,b3,a4⟩:=zc z;subst a4;have J:=Y.out _ (v.mono (fun _ _ h=>absurd h id));have a6:=J.cell;have b0:=J.frozen;have a2:=Z z;have a1:=Z M;have a0:=Z v;clear z M v))
   all_goals
    go_wp2
    obtain⟨_,F,_,G⟩:=HintAt.CZ (m:=m) (hs:=[]) B.out HB.out (by rw[o];exact D.out) s.out (by rw[i.out];exact IQ _) (Hc _ 0 _ _) (fun k y=>by simp[Value.ownBlock] at y) (show m.hints.length-1=(m.hints.drop 1).length from(Hi ..).symm) a2.out (a0.out.mono (fun _ _ h=>absurd h id)) (fun k y=>IP s.out.size (a1.out k y));have HM:=Z G;have d:=Z F;clear G F;go_ret2;exact .inr ⟨Q.out,A,rfl,HM.out,d.out,by rw[i.out];exact IQ _⟩
theorem N0(K:Nat->Prop)(p:Nat)(m:LM)(Y:Nat)(d:ByteArray)(w:World)(h:MRep K w p m)(q:m.hints.length<1000000) :
 Calls Tryz.prog 115 #[.pointer (some ⟨p,0,none⟩),.int .i64 Y,.string d] w fun e w' =>
  (32<=m.hints.length/\e=.returned (.tuple #[.pointer none,.int .i64 6])/\Fr Nil w w') \/
  (m.hints.length<32/\∃ r,e=.returned (.tuple #[.pointer (some ⟨r,0,none⟩),.int .i64 0])/\MRep (KGr K w w') w' r (m.hint Y d)/\Fr Nil w w'/\w.heap.size<=r):=by
 obtain⟨kv,hv,b,N,hb⟩:=h;have i:=N.CY.cell;obtain⟨va,vc,A⟩:=zc N.hint;obtain⟨V,X,g⟩:=zc N.Ah;rw[A,g] at i;have HA:=Z N;have HB:=Z hb;clear N hb;by_cases h0:32<=m.hints.length
 .have h0':(32:Int)<=(m.hints.length:Int):=by omega
  have H0:=Z h0;clear h0;go_enter Tryz.func115,Tryz.ntmps115
  go_wp2
  go_ret2;exact .inl ⟨H0.out,rfl,O _ _⟩
 .have h0':¬(32:Int)<=(m.hints.length:Int):=by omega
  have H0:Hid (m.hints.length<32):=Z (by omega);clear h0;have a:=Blk.new w [.int .i64 m.node,.slice V b.length X,.slice none 0 0] 107;have M:Fr Nil w (w.alloc (.cells #[.int .i64 m.node,.slice V b.length X,.slice none 0 0] 107)).drew:=((O _ _).alloc _).drew;go_enter Tryz.func115,Tryz.ntmps115;go_wp2_with fail
  go_region
  have a:=a.drew;generalize (w.alloc (.cells #[.int .i64 m.node,.slice V b.length X,.slice none 0 0] 107)).drew=wb at a M |-;generalize T:w.heap.size=r at a |-;have v:=Z T;have s:=Z M;have i:=(HA.out.nil M).CY.cell;rw[A,g] at i;have a9:=a.cell;have b3:=a.frozen;have a3:=Z a;have a0:Hid (∀ w4:World,Fr (fun k=>(Value.slice none 0 0).ownBlock=some k) wb w4->Blk w4 r [.int .i64 m.node,.slice V b.length X,.slice none 0 0] 107):=fun w4 f=>a.fr f (by simp[Value.ownBlock]);have t:Hid (wb.ownsRow 0 75 2 (.slice va m.hints.length vc) m.hints.length (zJ m.hints)):=by have:=(HA.out.nil M).hint;rw[A] at this;exact this
  clear T M a;go_wp2_with fail
  go_region_law
   ((refine Zf (by rfl) _ _ _ _ (by rfl) _ _ (by rfl) (by rfl) (LU wb _ m.hints t.out q _ za _) ?_;rintro v4 w4 ⟨C,y,R⟩;obtain⟨l,o,b0⟩:=zc C;subst b0;have x:=a0.out _ (y.mono (fun _ _ h=>absurd h id));have a8:=x.cell;have b2:=x.frozen;have J:=Z C;have u:=Z R;have F:=Z y;clear C R y))
  all_goals
   obtain⟨c,E,j,_⟩:=HintAt.CZ (m:=m) (hs:=[]) HA.out HB.out (by rw[g];exact a3.out) s.out (by rw[v.out];exact IQ _) (Hc _ 0 _ _) (fun k B=>by simp[Value.ownBlock] at B) rfl J.out (F.out.mono (fun _ _ h=>absurd h id)) (fun k B=>IP s.out.size (u.out k B));have I:Hid (∀ k,(Value.slice l m.hints.length o).ownBlock=some k->w.heap.size<=k):=fun k B=>IP s.out.size (u.out k B);clear a8 b2 x J F u a9 b3 i;generalize w4.setCell ⟨r,2,none⟩ (.slice l m.hints.length o)=w5 at c E j |-;rw[g] at c;have b4:=c.cell;have b6:=c.frozen;have a1:Hid (∀ w6:World,Fr (fun k=>(Value.slice l m.hints.length o).ownBlock=some k) w5 w6->Blk w6 r [.int .i64 m.node,.slice V b.length X,.slice l m.hints.length o] 107):=fun w6 f=>c.fr f (zd j c (by decide));have a2:=Z c;have L:=Z j;have G:=Z E;clear c j E
   go_wp2_with (at_builtin;go_must (refine zk rfl _ _ _ _ rfl _ _ (by rfl) (by rfl) (Pd w5 _ _ _ L.out Y d q _ za _ (by exact Blk.new _ [_,_] _) _) ?_;rintro v6 w6 ⟨D,z,S⟩;obtain⟨b8,b9,b1⟩:=zc D;subst b1;have Q:=a1.out _ z;have b5:=Q.cell;have b7:=Q.frozen;have a7:=Z D;have a6:=Z S;have a4:=Z z;clear D S z))
   obtain⟨_,E,_,hM⟩:=HintAt.CZ (m:=m) (hs:=m.hints) (hs':=m.hints++[(Y,d)]) HA.out HB.out (by rw[g];exact a2.out) G.out (by rw[v.out];exact IQ _) L.out I.out (show m.hints.length+1=(m.hints++[(Y,d)]).length by simp) (by rw[U6];exact a7.out) a4.out (fun k B=>(a6.out k B).elim (I.out k) (fun h=>IP G.out.size h));have HM:=Z hM;have a5:=Z E;clear hM E;go_ret2;exact .inr ⟨H0.out,r,rfl,HM.out,a5.out,by rw[v.out];exact IQ _⟩
def zN(self:Nat)(key:ByteArray)(v:Ver):Int:=if zp key=false then 2 else if 128<v.value.size then 3 else if foreign self v=false then 5 else 0
theorem YB{self:Nat}{v:Ver}(h:v.node<0\/4<=v.node\/v.node=self\/v.seq<1\/1000000000<v.seq\/(v.gone=true/\v.value.size≠0)):foreign self v=false:=by
 unfold foreign zA;rcases h with h|h|h|h|h|⟨h,a⟩
 .simp;intros;omega
 .simp;intros;omega
 .simp[h]
 .simp;intros;omega
 .simp;intros;omega
 .simp[h,a]
theorem MH{self:Nat}{v:Ver}(f:¬v.node<0)(g:¬4<=v.node)(d:v.node≠self)(i:¬v.seq<1)(j:¬1000000000<v.seq)(e:v.gone=false\/v.value.size=0):foreign self v=v.Av.all zq:=by
 unfold foreign zA;have a:decide (0<=v.node/\v.node<4)=true:=by simp;omega
 have b:decide (1<=v.seq/\v.seq<=1000000000)=true:=by simp;omega
 have c:(v.gone&&decide (v.value.size≠0))=false:=by rcases e with h|h <;> simp[h]
 rw[a,b,c];simp[d]
theorem T7(p:Nat)(self:Nat)(kv hv:Value)(key:ByteArray)(v:Ver)(w:World)(h:Blk w p [.int .i64 self,kv,hv] 107) :
 Calls Tryz.prog 111 #[.pointer (some ⟨p,0,none⟩),.string key,.agg v.cells.toArray] w fun e w'=>e=.returned (.int .i64 (zN self key v))/\Fr Nil w w':=by
 have hA:=Blk.new w v.cells 37;have f0:Fr Nil w (w.alloc (.cells v.cells.toArray 37)):=(O _ _).alloc _;have a2:(w.alloc (.cells v.cells.toArray 37)).cell? ⟨p,0,none⟩=some (.int .i64 self):=(h.fr f0 id).cell 0;have Y:=Z (Y7 key (w.alloc (.cells v.cells.toArray 37)));have m:=hA.cell;have L:=Z f0;have Q:=Z (YA v.value);clear hA f0 h;obtain⟨node,y,q,r,s,u,f,gone⟩:=v;simp only[Ver.cells] at Y L a2 m Q |-;go_enter Tryz.func111,Tryz.ntmps111;go_wp2_with fail;generalize w.alloc (.cells #[.int .i64 node,.int .i64 y,.int .i64 q,.int .i64 r,.int .i64 s,.int .i64 u,.string f,.bool gone] 37)=N at Y L a2 m |-;generalize w.heap.size=b at m |-;have a7:N.cell? ⟨b,6,none⟩=some (.string f):=m 6;cases hk:zp key with
 | false =>
  have g:zN self key ⟨node,y,q,r,s,u,f,gone⟩=2:=by unfold zN;rw[He hk]
  have hb:zZ key=2:=by unfold zZ;rw[IV (by rw[hk];decide)]
  rw[hb] at Y;have l:=Z g;clear hk g hb;refine Y.out.mono ?_;rintro e w1 ⟨rfl,a6⟩;subst w1
  go_wp2
  go_ret;exact⟨by rw[l.out];rfl,L.out⟩
 | true =>
 have hb:zZ key=0:=by unfold zZ;rw[He hk]
 rw[hb] at Y;have a1:=Z hk;clear hk hb;refine Y.out.mono ?_;rintro e w1 ⟨rfl,a6⟩;subst w1;by_cases hv:128<f.size
 .have g:zN self key ⟨node,y,q,r,s,u,f,gone⟩=3:=by unfold zN;rw[IV (by rw[a1.out];decide),He hv]
  have l:=Z g;have a5:(128:Int)<(f.size:Int):=by omega
  clear g hv
  go_wp2
  go_ret;exact⟨by rw[l.out];rfl,L.out⟩
 have a5:¬(128:Int)<(f.size:Int):=by omega
 have A:Hid (∀ x,foreign self ⟨node,y,q,r,s,u,f,gone⟩=x->zN self key ⟨node,y,q,r,s,u,f,gone⟩=if x=false then 5 else 0):=by
  intro x hx;unfold zN;rw[IV (by rw[a1.out];decide),IV hv,hx]
 clear hv;go_wp2_with fail;by_cases F:node<0
 .have g:=A.out false (YB ((.inl F)))
  have l:=Z g;have R:decide (node<0)=true:=by simp[F]
  clear g F
  go_quiet (fail)
  go_wp2
  go_ret;exact⟨by rw[l.out];rfl,L.out.drewN _⟩
 have R:decide (node<0)=false:=by simp[F]
 by_cases G:4<=node
 .have g:=A.out false (YB ((.inr (.inl G))))
  have l:=Z g;have S:decide (4<=node)=true:=by simp[G]
  clear g G
  go_quiet (fail)
  go_wp2
  go_ret;exact⟨by rw[l.out];rfl,L.out.drewN _⟩
 have S:decide (4<=node)=false:=by simp[G]
 by_cases I:node=self
 .have g:=A.out false (YB ((.inr (.inr (.inl I)))))
  have l:=Z g;have T:(node==(self:Int))=true:=by simp[I]
  clear g I
  go_quiet (fail)
  go_wp2
  go_ret;exact⟨by rw[l.out];rfl,L.out.drewN _⟩
 have T:(node==(self:Int))=false:=by simp[I]
 by_cases J:y<1
 .have g:=A.out false (YB ((.inr (.inr (.inr (.inl J))))))
  have l:=Z g;have V:decide (y<1)=true:=by simp[J]
  clear g J
  go_quiet (fail)
  go_wp2
  go_ret;exact⟨by rw[l.out];rfl,L.out.drewN _⟩
 have V:decide (y<1)=false:=by simp[J]
 by_cases K:1000000000<y
 .have g:=A.out false (YB ((.inr (.inr (.inr (.inr (.inl K)))))))
  have l:=Z g;have X:decide (1000000000<y)=true:=by simp[K]
  clear g K
  go_quiet (fail)
  go_wp2
  go_ret;exact⟨by rw[l.out];rfl,L.out.drewN _⟩
 have X:decide (1000000000<y)=false:=by simp[K]
 have a0:Hid (gone=false\/f.size=0->foreign self ⟨node,y,q,r,s,u,f,gone⟩=[q,r,s,u].all zq):=fun hx=>MH F G I J K hx;clear F G I J K;cases gone with
 | false =>
  have z:=Z (a0.out (.inl rfl))
  go_quiet (fail)
  go_wp2_with fail;have m:∀ k,(N.drewN nq).cell? ⟨b,k,none⟩=[.int .i64 node,.int .i64 y,.int .i64 q,.int .i64 r,.int .i64 s,.int .i64 u,.string f,.bool false][k]?:=m;have a3:Hid (N.drewN nq=N.drewN nq):=Z rfl;generalize M:N.drewN nq=wd at m |-;have o:Hid (Fr Nil w wd):=by rw[<- M];exact L.out.drewN _
  clear M
  go_loopw [8] (fun t w'=>∃ i:Nat,i<=4/\t=.int .i64 i/\(([q,r,s,u].take i).all zq)=true/\w'=wd) (fun t _=>4-(intOf t).toNat)
  case atStart=>exact⟨0,by omega,rfl,rfl,rfl⟩
  case round =>
   obtain⟨i,hi,rfl,a,hw⟩:=hrel;subst hw;have B:i=0\/i=1\/i=2\/i=3\/i=4:=by omega
   rcases B with rfl|rfl|rfl|rfl|rfl
   .cases ho:zq q with
    | false =>
     have g:=A.out false (by rw[z.out];simp[ho]);have l:=Z g;have d:q<0\/(¬q<0/\1000000000<q):=by unfold zq at ho;simp only[Ho] at ho;omega
     clear g ho a;rcases d with d|⟨d,C⟩
     .go_wp2
      go_ret;exact⟨by rw[l.out];rfl,o.out⟩
     .go_wp2
      go_ret;exact⟨by rw[l.out];rfl,o.out⟩
    | true =>
     have c:(([q,r,s,u].take 1).all zq)=true:=by simp[ho]
     have j:=Z c;have d:¬q<0/\¬1000000000<q:=by unfold zq at ho;simp only[Ha] at ho;omega
     obtain⟨D,E⟩:=d;clear c ho a
     go_wp2
     exact⟨⟨1,by omega,by go_num,j.out,by first|rfl|trivial⟩,by simp[intOf]⟩
   .cases ho:zq r with
    | false =>
     have g:=A.out false (by rw[z.out];simp[ho]);have l:=Z g;have d:r<0\/(¬r<0/\1000000000<r):=by unfold zq at ho;simp only[Ho] at ho;omega
     clear g ho a;rcases d with d|⟨d,C⟩
     .go_wp2
      go_ret;exact⟨by rw[l.out];rfl,o.out⟩
     .go_wp2
      go_ret;exact⟨by rw[l.out];rfl,o.out⟩
    | true =>
     have c:(([q,r,s,u].take 2).all zq)=true:=by simp at a;simp[ho,a]
     have j:=Z c;have d:¬r<0/\¬1000000000<r:=by unfold zq at ho;simp only[Ha] at ho;omega
     obtain⟨D,E⟩:=d;clear c ho a
     go_wp2
     exact⟨⟨2,by omega,by go_num,j.out,by first|rfl|trivial⟩,by simp[intOf]⟩
   .cases ho:zq s with
    | false =>
     have g:=A.out false (by rw[z.out];simp[ho]);have l:=Z g;have d:s<0\/(¬s<0/\1000000000<s):=by unfold zq at ho;simp only[Ho] at ho;omega
     clear g ho a;rcases d with d|⟨d,C⟩
     .go_wp2
      go_ret;exact⟨by rw[l.out];rfl,o.out⟩
     .go_wp2
      go_ret;exact⟨by rw[l.out];rfl,o.out⟩
    | true =>
     have c:(([q,r,s,u].take 3).all zq)=true:=by simp at a;simp[ho,a]
     have j:=Z c;have d:¬s<0/\¬1000000000<s:=by unfold zq at ho;simp only[Ha] at ho;omega
     obtain⟨D,E⟩:=d;clear c ho a
     go_wp2
     exact⟨⟨3,by omega,by go_num,j.out,by first|rfl|trivial⟩,by simp[intOf]⟩
   .cases ho:zq u with
    | false =>
     have g:=A.out false (by rw[z.out];simp[ho]);have l:=Z g;have d:u<0\/(¬u<0/\1000000000<u):=by unfold zq at ho;simp only[Ho] at ho;omega
     clear g ho a;rcases d with d|⟨d,C⟩
     .go_wp2
      go_ret;exact⟨by rw[l.out];rfl,o.out⟩
     .go_wp2
      go_ret;exact⟨by rw[l.out];rfl,o.out⟩
    | true =>
     have c:(([q,r,s,u].take 4).all zq)=true:=by simp at a;simp[ho,a]
     have j:=Z c;have d:¬u<0/\¬1000000000<u:=by unfold zq at ho;simp only[Ha] at ho;omega
     obtain⟨D,E⟩:=d;clear c ho a
     go_wp2
     exact⟨⟨4,by omega,by go_num,j.out,by first|rfl|trivial⟩,by simp[intOf]⟩
   .have g:=A.out true (by rw[z.out];exact a)
    have l:=Z g;clear g a
    go_wp2
    go_ret;exact⟨by rw[l.out];rfl,o.out⟩
 | true =>
  by_cases he:f.toList=[]
  .have z:=Z (a0.out (.inr (by rw[Q.out,he];rfl)))
   have a4:f.toList.isEmpty=true:=by rw[he];rfl
   go_quiet (fail)
   go_wp2_with fail;have m:∀ k,(N.drewN nq).cell? ⟨b,k,none⟩=[.int .i64 node,.int .i64 y,.int .i64 q,.int .i64 r,.int .i64 s,.int .i64 u,.string f,.bool true][k]?:=m;have a3:Hid (N.drewN nq=N.drewN nq):=Z rfl;generalize M:N.drewN nq=wd at m |-;have o:Hid (Fr Nil w wd):=by rw[<- M];exact L.out.drewN _
   clear M
   go_loopw [8] (fun t w'=>∃ i:Nat,i<=4/\t=.int .i64 i/\(([q,r,s,u].take i).all zq)=true/\w'=wd) (fun t _=>4-(intOf t).toNat)
   case atStart=>exact⟨0,by omega,rfl,rfl,rfl⟩
   case round =>
    obtain⟨i,hi,rfl,a,hw⟩:=hrel;subst hw;have B:i=0\/i=1\/i=2\/i=3\/i=4:=by omega
    rcases B with rfl|rfl|rfl|rfl|rfl
    .cases ho:zq q with
     | false =>
      have g:=A.out false (by rw[z.out];simp[ho]);have l:=Z g;have d:q<0\/(¬q<0/\1000000000<q):=by unfold zq at ho;simp only[Ho] at ho;omega
      clear g ho a;rcases d with d|⟨d,C⟩
      .go_wp2
       go_ret;exact⟨by rw[l.out];rfl,o.out⟩
      .go_wp2
       go_ret;exact⟨by rw[l.out];rfl,o.out⟩
     | true =>
      have c:(([q,r,s,u].take 1).all zq)=true:=by simp[ho]
      have j:=Z c;have d:¬q<0/\¬1000000000<q:=by unfold zq at ho;simp only[Ha] at ho;omega
      obtain⟨D,E⟩:=d;clear c ho a
      go_wp2
      exact⟨⟨1,by omega,by go_num,j.out,by first|rfl|trivial⟩,by simp[intOf]⟩
    .cases ho:zq r with
     | false =>
      have g:=A.out false (by rw[z.out];simp[ho]);have l:=Z g;have d:r<0\/(¬r<0/\1000000000<r):=by unfold zq at ho;simp only[Ho] at ho;omega
      clear g ho a;rcases d with d|⟨d,C⟩
      .go_wp2
       go_ret;exact⟨by rw[l.out];rfl,o.out⟩
      .go_wp2
       go_ret;exact⟨by rw[l.out];rfl,o.out⟩
     | true =>
      have c:(([q,r,s,u].take 2).all zq)=true:=by simp at a;simp[ho,a]
      have j:=Z c;have d:¬r<0/\¬1000000000<r:=by unfold zq at ho;simp only[Ha] at ho;omega
      obtain⟨D,E⟩:=d;clear c ho a
      go_wp2
      exact⟨⟨2,by omega,by go_num,j.out,by first|rfl|trivial⟩,by simp[intOf]⟩
    .cases ho:zq s with
     | false =>
      have g:=A.out false (by rw[z.out];simp[ho]);have l:=Z g;have d:s<0\/(¬s<0/\1000000000<s):=by unfold zq at ho;simp only[Ho] at ho;omega
      clear g ho a;rcases d with d|⟨d,C⟩
      .go_wp2
       go_ret;exact⟨by rw[l.out];rfl,o.out⟩
      .go_wp2
       go_ret;exact⟨by rw[l.out];rfl,o.out⟩
     | true =>
      have c:(([q,r,s,u].take 3).all zq)=true:=by simp at a;simp[ho,a]
      have j:=Z c;have d:¬s<0/\¬1000000000<s:=by unfold zq at ho;simp only[Ha] at ho;omega
      obtain⟨D,E⟩:=d;clear c ho a
      go_wp2
      exact⟨⟨3,by omega,by go_num,j.out,by first|rfl|trivial⟩,by simp[intOf]⟩
    .cases ho:zq u with
     | false =>
      have g:=A.out false (by rw[z.out];simp[ho]);have l:=Z g;have d:u<0\/(¬u<0/\1000000000<u):=by unfold zq at ho;simp only[Ho] at ho;omega
      clear g ho a;rcases d with d|⟨d,C⟩
      .go_wp2
       go_ret;exact⟨by rw[l.out];rfl,o.out⟩
      .go_wp2
       go_ret;exact⟨by rw[l.out];rfl,o.out⟩
     | true =>
      have c:(([q,r,s,u].take 4).all zq)=true:=by simp at a;simp[ho,a]
      have j:=Z c;have d:¬u<0/\¬1000000000<u:=by unfold zq at ho;simp only[Ha] at ho;omega
      obtain⟨D,E⟩:=d;clear c ho a
      go_wp2
      exact⟨⟨4,by omega,by go_num,j.out,by first|rfl|trivial⟩,by simp[intOf]⟩
    .have g:=A.out true (by rw[z.out];exact a)
     have l:=Z g;clear g a
     go_wp2
     go_ret;exact⟨by rw[l.out];rfl,o.out⟩
  .have a4:f.toList.isEmpty=false:=by simpa using he
   have g:=A.out false (YB (.inr (.inr (.inr (.inr (.inr ⟨rfl,by show f.size≠0;rw[Q.out];simpa using he⟩))))));have l:=Z g;clear g
   go_quiet (fail)
   go_wp2
   go_ret;exact⟨by rw[l.out];rfl,L.out.drewN _⟩
end Go.Proofs.YtkhnggkkiefcdaaGreatDoor
