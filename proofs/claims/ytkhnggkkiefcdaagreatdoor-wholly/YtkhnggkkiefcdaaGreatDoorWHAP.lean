/- larder: joined texts -/
import Derived.Test.YtkhnggkkiefcdaaGreatDoorWHAG
import Derived.Test.YtkhnggkkiefcdaaGreatDoorWHAO
import Derived.LaidSub
import Derived.Lib.LaidTab
import Derived.Stop.LaidErr
import Derived.LaidEql
import Derived.Stop.Asserts
import Derived.RowKitTokens
namespace Go.Proofs.YtkhnggkkiefcdaaGreatDoor
open Go.RowKit
set_option maxRecDepth 100000
set_option maxHeartbeats 8000000
abbrev IG:=@Go.laidMetH_iff
structure Kpt(w0 w:World)(sb n calls:Nat)(nums:Value)(X:NL)(N:NM)(M:DM):Prop where
 st:StO w sb n calls nums X N M
 fr:Fr Nil w0 w
 low:w0.heap.size<=sb
 new:∀ k,NFoot X M k->w0.heap.size<=k
 sep:∀ k,NFoot X M k->k≠sb
 Fu:∀ k,SRead X.LS k->k≠sb
theorem Kpt.nil{d w w':World}{c n a:Nat}{b:Value}{X:NL}{N:NM}{M:DM}(h:Kpt d w c n a b X N M)(f:Fr Nil w w'):Kpt d w' c n a b X N M :=
 ⟨⟨h.st.IJ.fr f id,h.st.node.nil f⟩,h.fr.trans f,h.low,h.new,h.sep,h.Fu⟩
theorem Kpt.step{l w w':World}{d n a:Nat}{b:Value}{X g:NL}{N N':NM}{M f:DM}(h:Kpt l w d n a b X N M)(s:NStep X M w g N' f w'):Kpt l w' d n a b g N' f:=by
 have o:=h.st.IJ.lt;have j:=h.st.IJ.fr s.fr (fun e=>h.sep d e rfl);rw[<- s.same.nb,<- s.same.db] at j;exact⟨⟨j,s.Hd⟩,h.fr.trans' s.fr (fun i q e=>by have:=h.new i e;omega),h.low,fun k c=>(s.Hn k c).elim (h.new k) (fun e=>NG h.fr.size e),
  fun k c=>(s.Hn k c).elim (h.sep k) (fun e=>by omega),fun k c=>(s.read k c).elim (h.Fu k) (fun e=>by omega)⟩
theorem Kpt.env{B:Nat}{f w:World}{i n a:Nat}{c:Value}{X:NL}{N:NM}{M:DM}(h:Kpt f w i n a c X N M)(b:ZM B f)(d:B<=f.heap.size):Y2 B X M w :=
 ⟨(b.fr d h.fr (fun _ e=>absurd e id)).1,NG d h.fr.size,fun k g=>NG d (h.new k g)⟩
theorem Kpt.closed{d w:World}{c n a:Nat}{b:Value}{X:NL}{N:NM}{M:DM}(h:Kpt d w c n a b X N M):StC w c X.db (.pointer (some ⟨X.nb,0,none⟩)) n a b X.LD M:=⟨h.st.IJ,h.st.node.Hm⟩
structure Bare(n:Nat)(W:WM)(M:DM):Prop where
 node:W.node=(n:Int)
 st:∃ m,W.st=[m]/\m.keys=[]/\m.hints=[]
 calls:W.calls=1
 most:W.most=0
 Hs:W.Hs=false
 broken:W.broken=false
 room:W.room=-1
 refused:M.refused=0
 FW:M.calls=0
 cut:M.cut=0
 fail:M.fail=0
theorem Std.bare{n C a x:Nat}{b:Value}{t:Nat}{S:Nat->Prop}{w y:World}(h:Std (WM.IH n (-1) 0 0 0) (DM.new 1152921504606846976) x C n a b t S w y) :
 ∃ X N M W,StO y C n a b X N M/\(∃ F p,NI W N M F p t)/\Bare n W M/\N.S.keys=[]/\N.S.hints=[]/\N.readOnly=false/\(∀ k,NFoot X M k->w.heap.size<=k)/\(∀ k,SRead X.LS k->w.heap.size<=k)/\Fr S w y:=by
 obtain⟨X,N,M,W,v,⟨F,p,e⟩,f,D,E,G,I,J⟩:=h;obtain⟨z,i,Q,m,A,K,o,_,c,rfl⟩:=f.found;have q:i=0:=by
  have:=(NQ.1 o).1;simp only[WM.IH,NK] at this;omega
 subst q;have L:m=⟨n,[],[]⟩:=by
  simp only[WM.IH,Kq,KE] at o;exact o.symm
 subst L;have l:=Wm c;have d:A.keys=[]:=by
  have:=l.1;unfold Zv at this;simp only[Lu,List.map_eq_nil_iff] at this;exact this
 obtain⟨B,g,u,_⟩:=e.now;have j:B=A:=by
  simp only[WM.IH,Lk,Ll,NK,Jw,Kq,KE] at g;exact g.symm
 subst j;have s:Q=0:=by
  have r:N.S.keys=[]:=by rw[<- u.1];exact d
  unfold Y7 at c;split at c
  .rw[r] at c
   simp only[zM,LV] at c;exact c.1.symm
  .simp at c
 refine⟨X,N,M,_,v,⟨F,p,e⟩,⟨rfl,⟨B,by simp[WM.IH],d,l.2.1⟩,rfl,s,rfl,rfl,rfl,f.refused,f.calls,D,E⟩,by rw[<- u.1];exact d,by rw[<- u.2];exact l.2.1,e.ro,G,I,J⟩
theorem Nj(T:zU)(B n:Nat)(w:World)(t:ZM B w)(hB:B<=w.heap.size)(a5:n<4) :
 Calls Tryz.prog 36 #[.int .i64 n,.int .i64 1152921504606846976] w fun e w'=>∃ sb X N M W,e=.returned (.pointer (some ⟨sb,0,none⟩))/\Kpt w w' sb n 1 (.slice none 0 0) X N M/\(∃ F p,NI W N M F p 10)/\Bare n W M:=by
 have J:=Z t;have o:=Z hB;clear t hB;go_enter Tryz.func36,Tryz.ntmps36;go_wp2_with fail;refine(P7 1152921504606846976 w).mono ?_;rintro e w1 ⟨rfl,R,V,m⟩;go_wp2_with fail;have g:=Blk.newAt w1 [.pointer (some ⟨w.heap.size,0,none⟩),.pointer none,.int .i64 n,.int .i64 0,.slice none 0 0] 58 (w.heap.size+1) m.symm;have f2:Fr Nil w1 (w1.alloc (.cells #[.pointer (some ⟨w.heap.size,0,none⟩),.pointer none,.int .i64 n,.int .i64 0,.slice none 0 0] 58)):=(O _ _).alloc _;have s:(w1.alloc (.cells #[.pointer (some ⟨w.heap.size,0,none⟩),.pointer none,.int .i64 n,.int .i64 0,.slice none 0 0] 58)).heap.size=w.heap.size+2:=by simp[m]
 generalize w1.alloc (.cells #[.pointer (some ⟨w.heap.size,0,none⟩),.pointer none,.int .i64 n,.int .i64 0,.slice none 0 0] 58)=w2 at g f2 s |-;have g:Blk w2 (w.heap.size+1) (zA w.heap.size (.pointer none) n (0:Nat) (.slice none 0 0)) 58:=g;have F2:=V.trans f2;have S:=R.nil f2;have a:∀ k,Foot w.heap.size DL.new (DM.new 1152921504606846976) k->k=w.heap.size:=fun k b=>by
  cases b using Foot.elim with
  | blk=>rfl
  | dir h=>simp[DL.new,Value.ownBlock] at h
  | safe h=>simp[DL.new,Value.ownBlock] at h
  | ch h=>simp[DL.new,Value.ownBlock] at h
  | chs i h1 h=>simp[DL.new] at h1
  | file h=>simp[DM.new] at h
  | row f hf h=>simp[DM.new] at hf
 have A:=Sh.IH n (-1) 0 0 ⟨by decide,by decide⟩;rw[show Y4 (-1)=1152921504606846976 from by unfold Y4;rw[Mg (by decide)]] at A;have q:=Z (WL T B (w.heap.size+1) w.heap.size n 0 (.pointer none) (.slice none 0 0) (WM.IH n (-1) 0 0 0) DL.new (DM.new 1152921504606846976) 0 0 0 w2 ⟨g,S⟩ (J.out.fr o.out F2 (fun _ e=>absurd e id)) (NG o.out F2.size) (by have:=o.out;omega) (fun k b=>by rw[a k b];exact o.out) ⟨_,_,A⟩ (by decide) rfl a5 (by decide) ⟨by decide,by decide⟩ ⟨by decide,by decide⟩);have E:=Z F2;have G:=Z a;clear R V m g f2 F2 S a A;refine q.out.mono ?_;rintro e u ⟨rfl,r⟩;obtain⟨X,N,M,W,l,Y,K,b,hh,a2,j,a1,f3⟩:=r.bare;have F3:=E.out.trans' f3 (fun i hi e=>by rcases e with e|e;omega;rw[G.out i e] at hi;omega);have hK:Kpt w u (w.heap.size+1) n 1 (.slice none 0 0) X N M:=⟨l,F3,Ly _,fun k b=>by have:=j k b;omega,fun k b e=>by have:=j k b;omega,fun k b e=>by have:=a1 k b;omega⟩;have y:=fun C (f:Fr Nil u C)=>QF X N M C (l.node.nil f) (by rw[b];decide);have d:=RB X N M u l.node;rw[b,hh,a2] at d;rw[b] at y;have I:Hid (Calls Tryz.prog 39 #[.pointer (some ⟨X.nb,0,none⟩)] u fun e w'=>e=.returned (.agg #[.bool false,.int .i64 0,.int .i64 0])/\Fr Nil u w'):=d;have a4:=Z y;have HK:=Z (And.intro hK (And.intro Y K));have v:Hid (∀ C,Fr Nil u C->C.cell? ⟨w.heap.size+1,1,none⟩=some (.pointer (some ⟨X.nb,0,none⟩))):=fun C f=>(l.IJ.fr f id).cell 1;have L:=v.out u (O _ _);generalize w.heap.size+1=sb at v L HK |-;clear d y l Y K b hh a2 j a1 f3 F3 hK r s E G q;go_wp2_with fail;refine I.out.mono ?_;rintro e w4 ⟨rfl,f4⟩;have z:=Blk.new w4 [.bool false,.int .i64 0,.int .i64 0] 81;have f5:Fr Nil u (w4.alloc (.cells #[.bool false,.int .i64 0,.int .i64 0] 81)):=f4.alloc _;have Q:=v.out _ f5;have a3:=z.cell;have x:=Z f5;have D:=Z z;clear f5 z L;go_wp2_with fail;generalize w4.alloc (.cells #[.bool false,.int .i64 0,.int .i64 0] 81)=w5 at Q a3 x D |-;refine(a4.out _ x.out).mono ?_;rintro e w6 ⟨lv,rfl,hv,f6,-⟩;obtain⟨a0,a6,rfl⟩:=zd hv;have a7:=(D.out.fr f6 id).cell;have c:=Z (And.intro (HK.out.1.nil (x.out.trans f6)) HK.out.2);clear a3 Q hv f6;simp only[Mw]
 go_wp2
 go_ret;exact⟨_,X,N,M,W,rfl,c.out.1,c.out.2.1,c.out.2.2⟩
theorem Ans.dead{M M':DM}{e:Option Int}{n t:Nat}(h:Ans M M' e)(d:Bd M t)(l:t<=100000000)(f:M.dead=false)(i:M.fail=0)(k:M.room=1152921504606846976)(a:e=some 10->M.room<M.Hr+n)(j:n<=100000)(g:e≠none):M'.dead=true:=by
 rcases h.1 with⟨b,_⟩|⟨_,⟨b,_⟩|⟨b,_⟩⟩
 .exact absurd b g
 .have h1:=h.2.bad b f
  rcases h1.2 with c|c
  .exact c.2
  .have:=d.c0
   have:=h1.1;omega
 .have h1:=a b
  have:=d.Hr;omega
theorem NI.bd'{W:WM}{N:NM}{M:DM}{F:List Fact}{p t:Nat}(h:NI W N M F p t):Bd M t:=by
 obtain⟨b,a,_⟩:=h.kp.lg;exact a.bd
theorem Aft.FK{W:WM}{j:LM}{M:DM}{e:Option Int}{b:NM}{a:DM}{t k:Nat}(h:Aft W j M e b a k)(c:Bd M t)(i:t<=100000000)(f:M.fail=0)(g:M.room=1152921504606846976)(d:e≠none):a.dead=true :=
 h.Gc.dead c i h.dead f g h.full (by decide) d
theorem UL{a b:Option Int}(c:a=none\/a=some 9\/a=some 10)(d:b=none\/b=some 9\/b=some 10)(h:zR a=zR b):a=b:=by
 rcases c with rfl|rfl|rfl <;> rcases d with rfl|rfl|rfl <;> first|rfl|cases h
theorem Kpt.put(x:zU){B:Nat}{J w:World}{sb n d:Nat}{k:Value}{W:WM}{X:NL}{N:NM}{M:DM}{F:List Fact}{p t:Nat}(h:Kpt J w sb n d k X N M)(o:NI W N M F p t)(ht:t+20<=100000000)(D:ZM B J)(hB:B<=J.heap.size)(Y:N.readOnly=false)(c b:ByteArray)(z:zL c=true)(hs:b.size<=128) :
 Calls Tryz.prog 22 #[.pointer (some ⟨X.nb,0,none⟩),.string c,.string b] w fun e w'=>∃ i q E M',e=.returned (.tuple #[.int .i64 ((if i=none then N.given+1 else 0:Nat):Int),.int .i64 (zR i)])/\Kpt J w' sb n d k q E M'/\q.nb=X.nb/\q.db=X.db /\
  W.most<N.given+1/\N.given+1<=16*(W.calls+1)/\(i=none\/i=some 9\/i=some 10)/\∀ m,zV m N.S->MOk W.node m t->Aft {W with calls:=W.calls+1,most:=if i=none then N.given+1 else W.most} (m.put c b ((if i=none then N.given+1 else 0:Nat):Int)) M i E M' (t+10):=by
 obtain⟨m0,_,V,R⟩:=o.now;have y:∀ g∈M.ids,g<w.heap.size:=fun g I=>(h.st.node.Hm.files g I).lt;have j:=fun m T Q=>o.put (m:=m) (H0:=w.heap.size) ht Y T Q y c b z hs;have G:=j m0 V R;refine(Uw x B X N M c b w h.st.node (h.env D hB) (fun u hu=>((o.st.1.get c).2.2 u hu).node) (fun _ _ _=>G.1 _ (NH _))).mono ?_;rintro e w' ⟨f,g,q,rfl,hf,I,s,a⟩;obtain⟨i,E,M',L,A,_⟩:=G.2.2.2 f g hf I s;rw[L] at a;refine⟨i,q,E,M',by rw[L],h.step a,a.same.nb,a.same.db,G.2.1,G.2.2.1,A,fun m T Q=>?_⟩;obtain⟨K,N2,M2,l,C,r⟩:=(j m T Q).2.2.2 f g hf I s;rw[L] at l;simp only[LV] at l;obtain⟨_,h3,rfl,rfl⟩:=l;obtain rfl:i=K:=UL A C h3;exact r
theorem Kpt.hint(s:zU){B:Nat}{D w:World}{V n c:Nat}{l:Value}{W:WM}{X:NL}{N:NM}{M:DM}{F:List Fact}{p t:Nat}(h:Kpt D w V n c l X N M)(x:NI W N M F p t)(ht:t+20<=100000000)(A:ZM B D)(hB:B<=D.heap.size)(d:Int)(b:ByteArray)(k:Yy N d b=none) :
 Calls Tryz.prog 31 #[.pointer (some ⟨X.nb,0,none⟩),.int .i64 d,.string b] w fun e Y=>∃ j q C M',e=.returned (.int .i64 (zR j))/\Kpt D Y V n c l q C M'/\q.nb=X.nb/\q.db=X.db /\
  (j=none\/j=some 9\/j=some 10)/\∀ m,zV m N.S->MOk W.node m t->Aft W (m.hint d.toNat b) M j C M' (t+10):=by
 obtain⟨m0,_,Q,K⟩:=x.now;have u:∀ g∈M.ids,g<w.heap.size:=fun g hg=>(h.st.node.Hm.files g hg).lt;have i:=fun m L J=>x.hint (m:=m) (H0:=w.heap.size) ht L J u d b;have R:=i m0 Q K;refine(VI s B X N M d b w h.st.node (h.env A hB) (fun h1 h2 G=>R.1 _ (NH _) h1 h2 G)).mono ?_;rintro e Y ⟨f,q,rfl,T,a⟩;obtain⟨j,C,M',I,y,_⟩:=R.2 k f T;rw[I] at a;refine⟨j,q,C,M',by rw[I],h.step a,a.same.nb,a.same.db,y,fun m L J=>?_⟩;obtain⟨E,N2,M2,o,z,r⟩:=(i m L J).2 k f T;rw[I] at o;simp only[LV] at o;obtain⟨G,rfl,rfl⟩:=o;obtain rfl:j=E:=UL y z G;exact r
theorem Kpt.sync(l:zU){B:Nat}{r w:World}{z n c:Nat}{i:Value}{W:WM}{X:NL}{N:NM}{M:DM}{F:List Fact}{p t:Nat}(h:Kpt r w z n c i X N M)(m:NI W N M F p t)(K:t+20<=100000000)(q:ZM B r)(G:B<=r.heap.size)(j:N.readOnly=false) :
 Calls Tryz.prog 32 #[.pointer (some ⟨X.nb,0,none⟩)] w fun e A=>∃ b k N' M',e=.returned (.int .i64 (zR b))/\Kpt r A z n c i k N' M'/\k.nb=X.nb/\k.db=X.db/\(b=none\/b=some 9)/\Ans M M' b/\M'.room=M.room /\
  (b=none->∃ g f,NI {W with st:=W.st.drop (W.st.length-1)} N' M' g f (t+10))/\(b≠none->∃ g f,Sh {W with broken:=true} M' g f (t+10)/\(M'.dead=false->NI {W with broken:=true} N' M' g f (t+10))):=by
 refine(XL l B X N M w h.st.node (h.env q G)).mono ?_;rintro e A ⟨k,rfl,a⟩;obtain⟨b,C,M',f,D,y,_,s,_⟩:=VT (h:=m.kp.mono (fun _=>j) (NH _)) (by omega);have x:N.IX M=(zR b,({N with J:=C}:NM).Gc b,M'):=by
  unfold NM.IX;rw[NU (by rw[j];decide),D]
 have v:=m.sync (by omega) j;rw[x] at v a |-;have o:b=none\/b=some 9:=by
  rcases y.Gc.1 with⟨d,_⟩|⟨_,⟨d,_⟩|⟨d,_⟩⟩
  .exact .inl d
  .exact .inr d
  .exact absurd d s
 refine⟨b,k,_,M',rfl,h.step a,a.same.nb,a.same.db,o,y.Gc,y.room,fun d=>?_,fun d=>?_⟩
 .subst d
  rcases v with⟨_,_,g,f,J⟩|⟨E,_⟩
  .exact⟨g,f,J.more (by omega)⟩
  .cases E
 .rcases v with⟨h0,_⟩|⟨_,_,_,g,f,h1,h2⟩
  .rcases o with rfl|rfl
   .exact absurd rfl d
   .cases h0
  .exact⟨g,f,h1.more (by omega),fun I=>(h2 I).more (by omega)⟩
end Go.Proofs.YtkhnggkkiefcdaaGreatDoor
namespace Go.Proofs.YtkhnggkkiefcdaaGreatDoor
open Go.RowKit Go.ChangeShapes
set_option maxRecDepth 100000
set_option maxHeartbeats 8000000
theorem RU{W:World}(h:laidMetH Tryz.prog Rows.writesRow.laid W):Tab W:=by
 have a:=(IG.1 h).1.filter (fun x=>x.1==Yw);have e:((Rows.writesRow.laid.filter fun x=>x.2.handleName?.isNone).filter fun x=>x.1==Yw)=[(Yw,Lib.tabData .u64 Lib.pow10Tab)]:=by kernel_rfl
 rw[e] at a;exact Lib.tabIs_of_head (rest:=[]) (g:=1) (by kernel_rfl) (t:=322) (by kernel_rfl) Tryz.underlying322 Tryz.underlying274 (by kernel_rfl) (by kernel_rfl) a
theorem VW:Tryz.prog.globalNamed Yw=some 1:=by kernel_rfl
theorem QY:Tryz.prog.globalNamed "errors.errorType"=some 0:=by kernel_rfl
theorem QZ:Tryz.prog.types.size=396:=by kernel_rfl
theorem PZ:((List.range 396).filter fun t=>Tryz.prog.rowNamed t [101,114,114,111,114])=[132]:=by kernel_rfl
theorem RV{W:World}(h:laidMetH Tryz.prog Rows.writesRow.laid W):Hnd W:=by
 have c:=(IG.1 h).2;have e:(Rows.writesRow.laid.filter fun x=>x.2.handleName?.isSome)=[("errors.errorType",Rows.laid_errors_errorType)]:=by kernel_rfl
 rw[e] at c;obtain⟨a,u,ty,f,g,i,j,b⟩:=c _ (NP.2 rfl);have k:a=[101,114,114,111,114]:=(Mm f).symm;subst k;have l:some u=some 309:=g.symm.trans (by kernel_rfl);obtain rfl:=Mm l;have d:ty∈(List.range 396).filter fun t=>Tryz.prog.rowNamed t [101,114,114,111,114]:=List.mem_filter.2 ⟨KG.2 (by rw[<- QZ];exact i),j⟩;rw[PZ] at d;obtain rfl:=NP.1 d;have m:typeHandle Tryz.prog 132=.pointer (some ⟨6,132,none⟩):=by kernel_rfl
 rw[m] at b;have:=World.var?_cell QY b 0;unfold Hnd
 simpa using this
theorem Td{W:World}(h:laidMetH Tryz.prog Rows.writesRow.laid W):Yp W.heap.size W:=by
 have a:=RU h;have b:=RV h;refine⟨a,fun g c=>?_,b,WS b⟩;have:=Mm (VW.symm.trans c);subst this;exact WS (a.cell VW 0 (by decide))
theorem VX:Tryz.prog.globalNamed "strconv.ErrSyntax"=some 4:=by kernel_rfl
theorem OO:(Tryz.prog.globals[4]?).map (·.type)=some 132:=by kernel_rfl
theorem Ws{W:World}(h:laidMetH Tryz.prog Rows.writesRow.laid W):Ys W:=by
 have b:=(IG.1 h).1.filter (fun x=>x.1== "strconv.ErrSyntax");have e:((Rows.writesRow.laid.filter fun x=>x.2.handleName?.isNone).filter fun x=>x.1== "strconv.ErrSyntax")=[("strconv.ErrSyntax",Rows.laid_strconv_ErrSyntax)]:=by kernel_rfl
 rw[e] at b;obtain⟨a,s,c,_⟩:=laid_sentinel b VX OO Tryz.underlying132 (fun u h => typeName_ptr_named (P := Tryz.prog) (nm := "errors.errorString") (by kernel_rfl) (by kernel_rfl) (by decide) u (h.trans (congrArg some (by decide)))) Tryz.underlying348 Tryz.underlying350 rfl rfl Lm (by kernel_rfl) (by kernel_rfl);have:=World.var?_cell VX c 0;exact⟨WS (p:=⟨4,0,none⟩) (by simpa using this),_,_,by simpa using this⟩
theorem R3{W:World}(h:laidMetH Tryz.prog Rows.writesRow.laid W):ZM W.heap.size W :=
 ⟨Td h,Ws h,(Ws h).1⟩
end Go.Proofs.YtkhnggkkiefcdaaGreatDoor
namespace Go.Proofs.YtkhnggkkiefcdaaGreatDoor
open Go.RowKit Go.Extern.Stop Go.Stop Go.Extern
set_option maxRecDepth 100000
set_option maxHeartbeats 8000000
theorem R4(t:Addr)(w:World):(ReflectliteValue.unpack (.iface 227 (.pointer (some t)))).run Tryz.prog w
 = .ok (.agg #[.pointer (some ⟨6,227,none⟩),.pointer (some ⟨w.heap.size,0,none⟩),.int .u64 150]) (w.alloc (.cells #[.pointer (some t)] 227)):=by kernel_rfl
theorem O0(a:Addr)(w:World):(ReflectliteValue.methodAny (ReflectliteValue.valueError "reflectlite.Value.Type" 0) (fun t _ _ _=>ReflectliteType.toType t) #[.agg #[.pointer (some ⟨6,227,none⟩),.pointer (some a),.int .u64 150]]).run Tryz.prog w
 = .ok (.iface 309 (.agg #[.pointer (some ⟨6,227,none⟩)])) w:=by kernel_rfl
theorem Te(h:Value)(w:World):(Go.method 496 309 (.agg #[h]) "Kind").run Tryz.prog w=.ok (271,h) w:=by kernel_rfl
theorem O1(w:World):((ReflectliteType.abiMethod fun t=>Functor.map (fun a:Nat=>Value.int IntKind.u8 (a:Int)) (Rtype.kind t)) #[.pointer (some ⟨6,227,none⟩)]).run Tryz.prog w=.ok (.int .u8 22) w:=by kernel_rfl
theorem O2(w:World):((ReflectliteType.abiMethod fun t=>Functor.map (fun a:Nat=>Value.int IntKind.u8 (a:Int)) (Rtype.kind t)) #[.pointer (some ⟨6,225,none⟩)]).run Tryz.prog w=.ok (.int .u8 22) w:=by kernel_rfl
theorem VY(a:Addr)(w:World):(ReflectliteValue.parts (.agg #[.pointer (some ⟨6,227,none⟩),.pointer (some a),.int .u64 150])).run Tryz.prog w=.ok (some (227,a,150)) w:=by kernel_rfl
theorem P0(a p:Addr)(W:World)(b:W.cell? a=some (.pointer (some p))) :
 (ReflectliteValue.method (ReflectliteValue.valueError "reflectlite.Value.IsNil" 0) ReflectliteValue.isNil #[.agg #[.pointer (some ⟨6,227,none⟩),.pointer (some a),.int .u64 150]]).run Tryz.prog W=.ok (.bool false) W:=by
 change Sem.run Tryz.prog (ReflectliteValue.parts (.agg #[.pointer (some ⟨6,227,none⟩),.pointer (some a),.int .u64 150]) >>= _) W=_;simp only[Kt,VY,Result.andThen];simp[ReflectliteValue.isNil,loadVar,isAgg,underlying,Tryz.underlying227,b,Result.andThen]
theorem Tf(h:Value)(w:World):(Go.method 496 309 (.agg #[h]) "Elem").run Tryz.prog w=.ok (316,.agg #[h]) w:=by kernel_rfl
theorem Wt(h:Value)(w:World):(Go.method 496 309 (.agg #[h]) "Implements").run Tryz.prog w=.ok (317,.agg #[h]) w:=by kernel_rfl
theorem XS(h:Value)(w:World):(Go.method 496 309 (.agg #[h]) "AssignableTo").run Tryz.prog w=.ok (314,.agg #[h]) w:=by kernel_rfl
theorem O3(w:World):(ReflectliteType.method ReflectliteType.elem #[.agg #[.pointer (some ⟨6,227,none⟩)]]).run Tryz.prog w=.ok (.iface 309 (.agg #[.pointer (some ⟨6,225,none⟩)])) w:=by kernel_rfl
theorem VZ(w:World):(ReflectliteType.relation "Implements" ReflectliteType.implements_ #[.agg #[.pointer (some ⟨6,225,none⟩)],.iface 309 (.agg #[.pointer (some ⟨6,132,none⟩)])]).run Tryz.prog w=.ok (.bool true) w:=by kernel_rfl
theorem RW(v:Value)(w:World):(ReflectliteType.typeOf #[.iface 225 v]).run Tryz.prog w=.ok (.iface 309 (.agg #[.pointer (some ⟨6,225,none⟩)])) w:=by kernel_rfl
theorem U0(w:World):(ReflectliteType.relation "AssignableTo" ReflectliteType.assignableTo #[.agg #[.pointer (some ⟨6,225,none⟩)],.iface 309 (.agg #[.pointer (some ⟨6,225,none⟩)])]).run Tryz.prog w=.ok (.bool true) w:=by kernel_rfl
theorem R5(e:Addr)(w:World):(ReflectliteValue.unpack (.iface 225 (.pointer (some e)))).run Tryz.prog w
 = .ok (.agg #[.pointer (some ⟨6,225,none⟩),.pointer (some ⟨w.heap.size,0,none⟩),.int .u64 150]) (w.alloc (.cells #[.pointer (some e)] 225)):=by kernel_rfl
theorem RX(w:World):(Rtype.elem? 227).run Tryz.prog w=.ok (some 225) w:=by kernel_rfl
theorem Nl(p:Addr)(w:World):(ReflectliteValue.mk 225 p ReflectliteValue.flagAddr).run Tryz.prog w=.ok (.agg #[.pointer (some ⟨6,225,none⟩),.pointer (some p),.int .u64 406]) w:=by kernel_rfl
theorem P1(a p:Addr)(W:World)(b:W.cell? a=some (.pointer (some p))) :
 (ReflectliteValue.method (ReflectliteValue.valueError "reflectlite.Value.Elem" 0) ReflectliteValue.elem #[.agg #[.pointer (some ⟨6,227,none⟩),.pointer (some a),.int .u64 150]]).run Tryz.prog W
   = .ok (.agg #[.pointer (some ⟨6,225,none⟩),.pointer (some p),.int .u64 406]) W:=by
 change Sem.run Tryz.prog (ReflectliteValue.parts (.agg #[.pointer (some ⟨6,227,none⟩),.pointer (some a),.int .u64 150]) >>= _) W=_;simp only[Kt,VY,Result.andThen];simp[ReflectliteValue.elem,loadVar,isAgg,underlying,Tryz.underlying227,b,Result.andThen,RX,Nl]
theorem RY(a:Addr)(w:World):(ReflectliteValue.parts (.agg #[.pointer (some ⟨6,225,none⟩),.pointer (some a),.int .u64 406])).run Tryz.prog w=.ok (some (225,a,406)) w:=by kernel_rfl
theorem P2(a:Addr)(w:World):(ReflectliteValue.parts (.agg #[.pointer (some ⟨6,225,none⟩),.pointer (some a),.int .u64 150])).run Tryz.prog w=.ok (some (225,a,150)) w:=by kernel_rfl
theorem RZ(w:World):(Rtype.directlyAssignable 225 225).run Tryz.prog w=.ok true w:=by kernel_rfl
theorem OP(a b e:Addr)(c:Value)(W:World)(d:W.cell? b=some (.pointer (some e)))(g:W.cell? a=some c)(f:W.frozen? a=false) :
 (ReflectliteValue.set #[.agg #[.pointer (some ⟨6,225,none⟩),.pointer (some a),.int .u64 406],.agg #[.pointer (some ⟨6,225,none⟩),.pointer (some b),.int .u64 150]]).run Tryz.prog W
   = .ok (.tuple #[]) (W.setCell a (.pointer (some e))):=by
 change Sem.run Tryz.prog (ReflectliteValue.parts (.agg #[.pointer (some ⟨6,225,none⟩),.pointer (some a),.int .u64 406]) >>= fun _=>ReflectliteValue.parts (.agg #[.pointer (some ⟨6,225,none⟩),.pointer (some b),.int .u64 150]) >>= _) W=_;simp only[Kt,RY,P2,Result.andThen];simp[ReflectliteValue.flagAddr,loadVar,isAgg,underlying,Tryz.underlying225,d,Result.andThen,RZ,storeVar,Value.cells,storeCells,Addr.add];rw[run_store Tryz.prog W a _ _ (by rfl)];simp[g,f]
theorem P3(v:Value)(w:World):(ReflectliteType.typeOf #[.iface 202 v]).run Tryz.prog w=.ok (.iface 309 (.agg #[.pointer (some ⟨6,202,none⟩)])) w:=by kernel_rfl
theorem Uj(w:World):(ReflectliteType.relation "AssignableTo" ReflectliteType.assignableTo #[.agg #[.pointer (some ⟨6,202,none⟩)],.iface 309 (.agg #[.pointer (some ⟨6,225,none⟩)])]).run Tryz.prog w=.ok (.bool false) w:=by kernel_rfl
theorem OQ(v:Value)(a:TypeId)(w:World):(Instr.typeAssert (.iface 202 v) a 314 true).run Tryz.prog w=.ok (.tuple #[.nilIface,.bool false]) w :=
 run_typeAssert_lacksB Tryz.underlying314 (by kernel_rfl) (by kernel_rfl) v a w
theorem Nz(v:Value)(a:TypeId)(w:World):(Instr.typeAssert (.iface 202 v) a 317 true).run Tryz.prog w=.ok (.tuple #[.iface 202 v,.bool true]) w :=
 run_typeAssert_hasB Tryz.underlying317 (by kernel_rfl) v a w
theorem O4(v:Value)(w:World):(Go.method 496 202 v "Unwrap").run Tryz.prog w=.ok (302,v) w:=by kernel_rfl
theorem R6(b:Nat)(a:ByteArray)(v:Value)(w:World)(h:Blk w b [.string a,v] 204)(t c:Nat)(d:v=.iface t (.pointer (some ⟨c,0,none⟩))) :
 Calls Tryz.prog 302 #[.pointer (some ⟨b,0,none⟩)] w fun e f=>e=.returned v/\f=w:=by
 subst d;have g:w.cell? ⟨b,1,none⟩=some (.iface t (.pointer (some ⟨c,0,none⟩))):=h.cell 1;clear h;go_enter Tryz.func302,Tryz.ntmps302
 go_wp2
 go_ret;exact⟨rfl,rfl⟩
theorem Zf.unique{w:World}{n m:Int}:∀ {k j:Nat}{v:Value},Zf w n k v->Zf w m j v->k=j
 | 0,0,_,_,_=>rfl
 | 0,j+1,v,⟨b,c,f,h,i⟩,⟨g,l,o,a,d,_⟩=>by
  rw[h] at a;exact absurd a (by intro x;have:=(Im x).1;exact absurd this (by decide))
 | k+1,0,v,⟨g,l,o,a,d,_⟩,⟨b,c,f,h,i⟩=>by
  rw[h] at a;exact absurd a (by intro x;have:=(Im x).1;exact absurd this (by decide))
 | k+1,j+1,v,⟨b,c,t,h,i,s⟩,⟨g,l,o,a,d,r⟩=>by
  rw[h] at a;have e:=(Im a).2;have q:b=g:=by injection e with e;injection e with e;injection e
  subst q;have:=(i.inj d).1;simp at this;obtain⟨_,rfl⟩:=this;rw[Zf.unique s r]
theorem Vb(n:Int):∃ D:World->Value->Nat,∀ w v k,Zf w n k v->D w v=k:=
 ⟨fun w v=>Classical.epsilon fun k=>Zf w n k v,fun w v k h=>Zf.unique (Classical.epsilon_spec (p:=fun k=>Zf w n k v) ⟨k,h⟩) h⟩
def O5(n:Int)(t:Nat)(w a:World):Prop:=∃ e c f,a.cell? ⟨t,0,none⟩=some (.pointer (some ⟨e,0,none⟩))/\Blk a e [.string c,.string f,.int .i64 n] 229/\Fr (fun k=>k=t) w a
theorem O6(n:Int)(k:Nat)(v:Value)(t a:Nat)(w:World)(V:Zf w n k v)(F:Blk w t [.pointer none] 225)(T:Blk w a [.pointer (some ⟨t,0,none⟩)] 227) :
 Calls Tryz.prog 198 #[v,.iface 227 (.pointer (some ⟨t,0,none⟩)),.agg #[.pointer (some ⟨6,227,none⟩),.pointer (some ⟨a,0,none⟩),.int .u64 150],.iface 309 (.agg #[.pointer (some ⟨6,225,none⟩)])] w fun e s=>e=.returned (.bool true)/\O5 n t w s:=by
 have h6:=@ME Tryz.prog 195 _ (fun u=>ReflectliteValue.unpack (u.getD 0 (.tuple #[]))) Tryz.func195 (by kernel_rfl) (by kernel_rfl) (by kernel_rfl) (by kernel_rfl);have a1:=@ME Tryz.prog 224 _ ReflectliteType.typeOf Tryz.func224 (by kernel_rfl) (by kernel_rfl) (by kernel_rfl) (by kernel_rfl);have a4:=@ME Tryz.prog 314 _ (ReflectliteType.relation "AssignableTo" ReflectliteType.assignableTo) Tryz.func314 (by kernel_rfl) (by kernel_rfl) (by kernel_rfl) (by kernel_rfl);have a2:=@ME Tryz.prog 225 _ (ReflectliteValue.method (ReflectliteValue.valueError "reflectlite.Value.Elem" 0) ReflectliteValue.elem) Tryz.func225 (by kernel_rfl) (by kernel_rfl) (by kernel_rfl) (by kernel_rfl);have a3:=@ME Tryz.prog 226 _ ReflectliteValue.set Tryz.func226 (by kernel_rfl) (by kernel_rfl) (by kernel_rfl) (by kernel_rfl);have tO:=RW;have tD:=P3;have mA:=XS;have a0:=U0;have aD:=Uj;have a8:=R5;have hL:=OQ;have hH:=Nz;have mU:=O4;have d:=Blk.new w [.pointer (some ⟨6,227,none⟩),.pointer (some ⟨a,0,none⟩),.int .u64 150] 281;have y:Fr Nil w (w.alloc (.cells #[.pointer (some ⟨6,227,none⟩),.pointer (some ⟨a,0,none⟩),.int .u64 150] 281)):=(O _ _).alloc _;have L:=Z (V.fr y (Yz.nil w));have K:=Z (F.fr y id);have G:=Z (T.fr y id);have A:=Z d;have J:=Z y;have a6:=F.lt;clear V F T d y;generalize z:w.alloc (.cells #[.pointer (some ⟨6,227,none⟩),.pointer (some ⟨a,0,none⟩),.int .u64 150] 281)=Y at L K G A J;generalize Q:w.heap.size=N at A;have R:N<Y.heap.size:=A.out.lt;have E:=Z z;have HN:=Z Q;clear z Q;go_enter Tryz.func198,Tryz.ntmps198;go_wp2_with fail;rw[E.out,HN.out]
 obtain ⟨qDD9, hDD9⟩ := Vb n
 have HDD9 := Z hDD9
 clear hDD9
 go_loopw [0] (fun x s=>∃ k,Zf s n k x/\Fr Nil Y s) (fun x s=>qDD9 s x)
 case atStart=>exact⟨k,L.out,O _ _⟩
 case round =>
  obtain⟨j,g,q⟩:=hrel;have a5:=(A.out.fr q id).cell;cases j with
  | zero =>
   obtain⟨e,c,f,rfl,o⟩:=g;have el:=P1 ⟨a,0,none⟩ ⟨t,0,none⟩ wr ((G.out.fr q id).cell 0);have i:=Blk.new wr [.pointer (some ⟨e,0,none⟩)] 225;have r:=K.out.fr q id;have b:=r.alloc (.cells #[.pointer (some ⟨e,0,none⟩)] 225);have st:=OP ⟨t,0,none⟩ ⟨wr.heap.size,0,none⟩ ⟨e,0,none⟩ (.pointer none) (wr.alloc (.cells #[.pointer (some ⟨e,0,none⟩)] 225)) (i.cell 0) (b.cell 0) (b.frozen 0);have l:=b.set 0 (.pointer (some ⟨e,0,none⟩));have HC:=Z (l.cell 0);have B:=Z ((o.alloc (.cells #[.pointer (some ⟨e,0,none⟩)] 225)).Gr (b':=t) (o.ne r (by decide)) 0 (.pointer (some ⟨e,0,none⟩)));have D:Hid (Fr (fun k=>k=t) w ((wr.alloc (.cells #[.pointer (some ⟨e,0,none⟩)] 225)).setCell ⟨t,0,none⟩ (.pointer (some ⟨e,0,none⟩)))) :=
    Z (Fr.set (S:=fun k=>k=t) (p:=⟨t,0,none⟩) (((J.out.trans q).mono (fun _ _ h=>absurd h id)).alloc _) (fun _=>rfl) _)
   clear o q i r b l
   go_wp2
   go_ret;exact⟨rfl,e,c,f,HC.out,B.out,D.out⟩
  | succ j =>
   obtain⟨e,m,v',rfl,o,g⟩:=g;obtain⟨X,M,rfl⟩:=g.form;have HU:=Z (R6 e m _ wr o X M rfl);have I:Hid (qDD9 wr (.iface X (.pointer (some ⟨M,0,none⟩)))=j/\qDD9 wr (.iface 202 (.pointer (some ⟨e,0,none⟩)))=j+1):=⟨HDD9.out _ _ _ g,HDD9.out _ _ _ ⟨e,m,_,rfl,o,g⟩⟩;have C:=Z q;have HJ:=Z g;clear o q g
   go_wp2_with (refine HU.out.mono ?_;rintro e w1 ⟨rfl,a7⟩;subst w1)
   exact⟨⟨j,HJ.out,C.out⟩,by rw[I.out.1,I.out.2];omega⟩
theorem OR(n:Int)(v:Value)(t:Nat)(w:World)(Q:ERep w v (some n))(y:Blk w t [.pointer none] 225)(l:Hnd w) :
 Calls Tryz.prog 154 #[v,.iface 227 (.pointer (some ⟨t,0,none⟩))] w fun e X=>e=.returned (.bool true)/\O5 n t w X:=by
 have h6:=@ME Tryz.prog 195 _ (fun d=>ReflectliteValue.unpack (d.getD 0 (.tuple #[]))) Tryz.func195 (by kernel_rfl) (by kernel_rfl) (by kernel_rfl) (by kernel_rfl);have h7:=@ME Tryz.prog 196 _ (ReflectliteValue.methodAny (ReflectliteValue.valueError "reflectlite.Value.Type" 0) (fun t _ _ _=>ReflectliteType.toType t)) Tryz.func196 (by kernel_rfl) (by kernel_rfl) (by kernel_rfl) (by kernel_rfl);have h8:=@ME Tryz.prog 197 _ (ReflectliteValue.method (ReflectliteValue.valueError "reflectlite.Value.IsNil" 0) ReflectliteValue.isNil) Tryz.func197 (by kernel_rfl) (by kernel_rfl) (by kernel_rfl) (by kernel_rfl);have K:=@ME Tryz.prog 271 _ (ReflectliteType.abiMethod fun t=>do pure (.int .u8 (<- Rtype.kind t))) Tryz.func271 (by kernel_rfl) (by kernel_rfl) (by kernel_rfl) (by kernel_rfl);have L:=@ME Tryz.prog 316 _ (ReflectliteType.method ReflectliteType.elem) Tryz.func316 (by kernel_rfl) (by kernel_rfl) (by kernel_rfl) (by kernel_rfl);have M:=@ME Tryz.prog 317 _ (ReflectliteType.relation "Implements" ReflectliteType.implements_) Tryz.func317 (by kernel_rfl) (by kernel_rfl) (by kernel_rfl) (by kernel_rfl);have f6:=R4;have f7:=O0;have mK:=Te;have mE:=Tf;have mI:=Wt;have T:=O1;have S:=O2;have I:=O3;have R:=VZ;obtain⟨k,m⟩:=Q;obtain⟨V,E,rfl⟩:=m.form;have g:=Blk.new w [.pointer (some ⟨t,0,none⟩)] 227;have c:Fr Nil w (w.alloc (.cells #[.pointer (some ⟨t,0,none⟩)] 227)):=(O _ _).alloc _;have q:(w.alloc (.cells #[.pointer (some ⟨t,0,none⟩)] 227)).heap.size=w.heap.size+1:=YY _ _;generalize o:w.alloc (.cells #[.pointer (some ⟨t,0,none⟩)] 227)=f at g c q;have i:=Blk.new f [.pointer (some ⟨6,227,none⟩),.pointer (some ⟨w.heap.size,0,none⟩),.int .u64 150] 281;have a:Fr Nil f (f.alloc (.cells #[.pointer (some ⟨6,227,none⟩),.pointer (some ⟨w.heap.size,0,none⟩),.int .u64 150] 281)):=(O _ _).alloc _;generalize p:f.alloc (.cells #[.pointer (some ⟨6,227,none⟩),.pointer (some ⟨w.heap.size,0,none⟩),.int .u64 150] 281)=r at i a;have b:=g.fr a id;have n8:=P0 ⟨w.heap.size,0,none⟩ ⟨t,0,none⟩ r (b.cell 0);have j:=i.cell;have N:r.cell? ⟨0,0,none⟩=some (.iface 309 (.agg #[.pointer (some ⟨6,132,none⟩)])):=((c.trans a).cell (by have:=l;unfold Hnd World.cell? at this;simp only;rcases Ls 0 w.heap.size with h|h;exact h;rw[Ks h] at this;cases this) id).trans l;have C:=Z (O6 n k (.iface V (.pointer (some ⟨E,0,none⟩))) t w.heap.size r (m.fr (c.trans a) (Yz.nil w)) (y.fr (c.trans a) id) b);have D:=Z (c.trans a);rw[q] at j;clear g b i m y l c a q;subst p;subst o;go_enter Tryz.func154,Tryz.ntmps154;go_wp2_with fail;refine C.out.mono ?_;rintro e Y ⟨rfl,G,F,J,s,u,x⟩;have z:=Z s;have A:=Z u;have B:Hid (Fr (fun k=>k=t) w Y):=(D.out.mono (fun _ _ h=>absurd h id)).trans x;clear s u x
 go_wp2
 go_ret;exact⟨rfl,G,F,J,z.out,A.out,B.out⟩
theorem P4:zU:=by
 intro B w v n c j;have g:=Blk.new w [.pointer none] 225;have a:Fr Nil w (w.alloc (.cells #[.pointer none] 225)):=(O _ _).alloc _;have m:=Z (OR n v w.heap.size _ (j.fr a (Yz.nil w)) g (show Hnd _ from(a.cell (by have:=c.2.2.1;unfold Hnd World.cell? at this;simp only;rcases Ls 0 w.heap.size with h|h;exact h;rw[Ks h] at this;cases this) id).trans c.2.2.1));have o:=Z a;have b:=Z (show ∀ k,k<w.heap.size->k≠w.heap.size from fun k h=>by omega);clear g a c j;go_enter Tryz.func97,Tryz.ntmps97;go_wp2_with fail;refine m.out.mono ?_;rintro e r ⟨rfl,u,t,x,y,d,f⟩;have p:=d.cell 2;have l:Hid (Fr Nil w r):=o.out.trans' f (fun i q e=>absurd e (b.out i q));clear d f
 go_wp2
 go_ret;exact⟨rfl,l.out⟩
end Go.Proofs.YtkhnggkkiefcdaaGreatDoor
