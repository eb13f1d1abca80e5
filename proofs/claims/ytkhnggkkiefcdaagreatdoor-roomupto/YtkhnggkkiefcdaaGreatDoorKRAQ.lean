/- larder: joined texts -/
import Derived.Test.YtkhnggkkiefcdaaGreatDoorKRAD
import Derived.Test.YtkhnggkkiefcdaaGreatDoorKRAE
import Derived.Test.YtkhnggkkiefcdaaGreatDoorKRAO
import Derived.Test.YtkhnggkkiefcdaaGreatDoorKRAP
import Derived.Deep.RegionLaw
import Derived.LaidEqlPtr
namespace Go.Proofs.YtkhnggkkiefcdaaGreatDoor
open Go.RowKit
set_option maxRecDepth 100000
set_option maxHeartbeats 8000000
def Dl.yg(G:List Ent)(z:Dl):List (Option (Bool × Nat)) :=
 z.AU.map (fun e=>some (e.1,e.2.1))++z.base.toList.map (fun b=>some (true,b.1))++((G.take z.j).drop z.i).map (fun e=>some (false,e.1))++z.new.toList.map fun _=>none
theorem Dl.names(G:List Ent)(z:Dl):(z.dir G).map Prod.fst=(z.yg G).map ZL:=by
 unfold Dl.dir Dl.yg;simp only[Gy,Fv]
 rfl
theorem Ve{a b:Option (Bool × Nat)}(h:ZL a=ZL b):a=b:=by
 match a,b with
 | none,none=>rfl
 | none,some e=>exact absurd h.symm (Xj e.1 e.2)
 | some e,none=>exact absurd h (Xj e.1 e.2)
 | some e,some f =>
  obtain⟨c,d⟩:=RU h;exact FW some (Prod.ext c d)
theorem zQ{α:Type}{o:Option α}{a:α}:a∈o.toList↔o=some a:=by cases o <;> simp[eq_comm]
theorem Tm(G:List Ent)(z:Dl):YR (z.yg G)=z.AU.map (·.2.1)++z.base.toList.map (·.1)++((G.take z.j).drop z.i).map (·.1):=by
 unfold YR Dl.yg;simp only[List.filterMap_append,List.filterMap_map];have d:∀ (l:List (Bool × Nat × Nat)),l.filterMap ((fun c:Option (Bool × Nat)=>c.map (·.2)) ∘ fun e=>some (e.1,e.2.1))=l.map (·.2.1):=fun l=>by
  rw[show((fun c:Option (Bool × Nat)=>c.map (·.2)) ∘ fun e:Bool × Nat × Nat=>some (e.1,e.2.1))=(some ∘ fun e=>e.2.1) from rfl,CC]
 have f:∀ (l:List (Nat × Nat × List Fact)),l.filterMap ((fun c:Option (Bool × Nat)=>c.map (·.2)) ∘ fun b=>some (true,b.1))=l.map (·.1):=fun l=>by
  rw[show((fun c:Option (Bool × Nat)=>c.map (·.2)) ∘ fun b:Nat × Nat × List Fact=>some (true,b.1))=(some ∘ fun b=>b.1) from rfl,CC]
 have g:∀ (l:List Ent),l.filterMap ((fun c:Option (Bool × Nat)=>c.map (·.2)) ∘ fun e=>some (false,e.1))=l.map (·.1):=fun l=>by
  rw[show((fun c:Option (Bool × Nat)=>c.map (·.2)) ∘ fun e:Ent=>some (false,e.1))=(some ∘ fun e=>e.1) from rfl,CC]
 have h:∀ (l:List Nat),l.filterMap ((fun c:Option (Bool × Nat)=>c.map (·.2)) ∘ fun _=>none)=[]:=fun l=>by
  induction l with
  | nil=>rfl
  | cons a l i=>rw[List.filterMap_cons];exact i
 rw[d,f,g,h,GI]
theorem Snd.xQ{M:DM}{y:Lay}{D:Dir}{z:Dl}(h:Snd M y D z)(i:y.G.Pairwise fun a b=>a.1<b.1):(YR (z.yg y.G)).Nodup:=by
 have e:=Tm y.G z;rw[e];have d:(((y.G.take z.j).drop z.i).map (·.1)).Nodup:=by
  rw[Fw,FD];exact(i.sublist ((DN _ _).trans (List.take_sublist _ _))).imp fun h e=>by omega
 cases hb:z.base with
 | none =>
  have s:z.AU=[]:=List.eq_nil_iff_forall_not_mem.2 fun e g=>by
   obtain⟨_,b,l,_⟩:=h.low e g;rw[hb] at l;cases l
  rw[s]
  simpa using d
 | some b =>
  have k:=h.base b hb;simp only[DC,Gw,Fz];have m:∀ n∈z.AU.map (·.2.1),n<b.1:=fun n q=>by
   obtain⟨e,g,rfl⟩:=Gm.1 q;obtain⟨_,t,j,r⟩:=h.low e g;rw[hb] at j;cases j;exact r
  have p:∀ n∈((y.G.take z.j).drop z.i).map (·.1),b.1<n:=fun n q=>by
   obtain⟨e,g,rfl⟩:=Gm.1 q;refine k.hi e ?_;rw[Ba] at g;exact GN g
  rw[FX,FX];refine⟨⟨h.nums,by simp,fun a f c o e=>by rw[Gg] at o;subst o e;have:=m _ f;omega⟩,d,fun a f c o e=>?_⟩;subst e;have u:=p _ o;rcases Gf.1 f with f|f
  .have:=m _ f;omega
  .rw[Gg] at f;omega
theorem ON{a:List (Option (Bool × Nat))}(h:(YR a).Nodup)(b:a.count none<=1):a.Nodup:=by
 induction a with
 | nil=>exact Dd
 | cons c a f =>
  rw[EH];cases c with
  | none =>
   have i:none∉a:=fun d=>by
    have:=List.count_pos_iff.2 d;rw[List.count_cons_self] at b;omega
   exact⟨i,f h (by rw[List.count_cons_self] at b;omega)⟩
  | some e =>
   have g:YR (some e::a)=e.2::YR a:=rfl;rw[g,EH] at h;refine⟨fun d=>h.1 (CZ.2 ⟨_,d,rfl⟩),f h.2 (by rw[List.count_cons] at b;omega)⟩
theorem Snd.yg{M:DM}{y:Lay}{D:Dir}{z:Dl}(h:Snd M y D z)(d:y.G.Pairwise fun a b=>a.1<b.1) :
 ∃ c,D.names=c.map ZL/\c.Perm (z.yg y.G)/\D.length=c.length/\(YR c).Nodup/\c.Nodup/\(D.map Prod.fst).Nodup:=by
 have k:=VV D;have g:(D.map Prod.fst).Perm ((z.yg y.G).map ZL):=by rw[<- Dl.names];exact h.perm.map _
 obtain⟨c,i,e⟩:=PF ZL (k.trans g) (z.yg y.G) rfl;have j:(YR c).Nodup:=(i.filterMap _).nodup_iff.2 (h.xQ d);have f:c.Nodup:=ON j (by
  rw[i.count_eq];unfold Dl.yg;rw[Bh,Bh,Bh];rw[Du,Du,Du]
  .cases z.new <;> simp
  .intro hm;obtain⟨_,_,h⟩:=Gm.1 hm;cases h
  .intro hm;obtain⟨_,_,h⟩:=Gm.1 hm;cases h
  .intro hm;obtain⟨_,_,h⟩:=Gm.1 hm;cases h)
 refine⟨c,e,i,?_,j,f,?_⟩
 .have:=k.length_eq
  rw[e,Gv,Gv] at this;exact this.symm
 .refine g.nodup_iff.2 ?_
  refine(i.map ZL).nodup_iff.1 ?_;rw[Fw,FD];exact(Fw.1 f).imp fun h e=>h (Ve e)
theorem Lk.vD{M:DM}{y:Lay}{p t k:Nat}(i:Lk M y p t k){D:Dir}{z:Dl}(h:Snd M y D z){b:Bool}{n:Nat}(g:some (b,n)∈z.yg y.G):1<=n/\n<=2*t:=by
 have a:∀ b,z.base=some b->1<=b.1/\b.1<=2*t:=fun b o=>by
  have k:=h.base b o;have r:=h.j;have q:=k.lt;have c:y.G[z.i]'(by omega)∈y.G:=Gj _;have l:=k.hi _ (GE.2 ⟨0,by rw[Gk];omega,by rw[Fu];rfl⟩:y.G[z.i]'(by omega)∈y.G.drop z.i);have m:=i.pos _ c;exact⟨k.one,by omega⟩
 unfold Dl.yg at g;simp only[Gf,Gm,zQ] at g;rcases g with((⟨e,d,c⟩|⟨e,d,c⟩)|⟨e,d,c⟩)|⟨e,_,c⟩
 .simp only[GU,FF] at c
  obtain⟨l,j,f,m⟩:=h.low e d;have:=a j f;omega
 .simp only[GU,FF] at c
  have:=a e d;omega
 .simp only[GU,FF] at c
  have:=i.pos e (GN (GB d));omega
 .cases c
theorem iIO(a:List (Bool × Nat)):(spK a).1++(spK a).2=a.map fun e=>zq e.1 e.2:=by
 have h:∀ (a:List (Bool × Nat)) (s:List ByteArray × List ByteArray),(a.foldl YK s).1++(a.foldl YK s).2=s.1++s.2++a.map fun e=>zq e.1 e.2:=by
  intro a
  induction a with
  | nil=>intro s;simp
  | cons e a b =>
   intro s;rw[Fj,b];unfold YK;split <;> simp
 have:=h a ([],[]);unfold spK;rw[this];simp
theorem PP(a:List (Bool × Nat))(h:∀ e∈a,e.1=false)(s:List ByteArray × List ByteArray):(a.foldl YK s).1=s.1:=by
 induction a generalizing s with
 | nil=>rfl
 | cons e a c =>
  rw[Fj,c (fun x b=>h x (Ge _ b))];unfold YK;rw[Gl (by rw[h e (Gh ..)];decide)]
def Lay.yG(y:Lay):List ByteArray:=y.AU.map (fun e=>zq e.1 e.2.1)++y.new.toList.map fun _=>zf
theorem Snd.vz{M:DM}{y:Lay}(h:Snd M y M.dir y.z){t:List (Option (Bool × Nat))}(v:t.Perm (y.z.yg y.G)){q:List (Bool × Nat)}(N:V4 t q) :
 ((spK q).1++if none∈t then [zf] else []).Perm y.yG:=by
 have i:∀ e,e∈q↔some e∈y.z.yg y.G:=fun e=>by rw[N.mem,v.mem_iff]
 have C:(if none∈t then [zf] else [])=y.new.toList.map fun _=>zf:=by
  have a:none∈t↔y.new≠none:=by
   rw[v.mem_iff];unfold Dl.yg;simp only[Gf,Gm,zQ]
   constructor
   .rintro(((⟨e,_,a⟩|⟨e,_,a⟩)|⟨e,_,a⟩)|⟨e,d,_⟩)
    .cases a
    .cases a
    .cases a
    .have he':y.new=some e:=d
     rw[he'];simp
   .intro s
    obtain⟨f,L⟩:=Option.ne_none_iff_exists'.1 s;exact .inr ⟨f,L,trivial⟩
  by_cases s:y.new=none
  .rw[Gl (by rw[a];exact fun x=>x s),s];rfl
  .rw[GA (a.2 s)]
   obtain⟨f,L⟩:=Option.ne_none_iff_exists'.1 s;rw[L];rfl
 have A:q.Nodup:=by
  rw[Fw];exact N.ym.imp fun h e=>by rw[e] at h;omega
 rw[C];unfold Lay.yG;refine List.Perm.append_right _ ?_;have D:y.AU.Nodup->(y.AU.map fun e=>(e.1,e.2.1)).Nodup:=fun _=>by
  have:=h.nums;rw[Fw,FD] at this |-;exact this.imp fun h e=>h (by simp only[FF] at e;exact e.2)
 have O:(y.AU.map fun e=>(e.1,e.2.1)).Nodup:=D (by
  have:=h.nums;rw[Fw,FD] at this;rw[Fw];exact this.imp fun h e=>h (by rw[e]))
 cases hb:y.base with
 | none =>
  have p:y.AU=[]:=List.eq_nil_iff_forall_not_mem.2 fun e d=>by
   obtain⟨_,b,g,_⟩:=h.low e d;have u:y.base=some b:=g;rw[hb] at u;cases u
  have E:∀ e∈q,e.1=false:=fun e d=>by
   have j:=(i e).1 d;unfold Dl.yg at j;simp only[Gf,Gm,zQ] at j;rcases j with((⟨x,k,a⟩|⟨x,k,a⟩)|⟨x,k,a⟩)|⟨x,_,a⟩
   .have hx':x∈y.AU:=k
    rw[p] at hx';cases hx'
   .have hx':y.base=some x:=k
    rw[hb] at hx';cases hx'
   .simp only[GU] at a
    rw[<- a]
   .cases a
  rw[p];unfold spK;rw[PP q E];exact DR _
 | some b =>
  have T:=h.base b hb;have K:(true,b.1)∈q:=(i _).2 (by
   unfold Dl.yg;simp only[Gf,Gm,zQ];exact .inl (.inl (.inr ⟨b,hb,rfl⟩)))
  obtain⟨G,I,rfl⟩:=Cj K;have c:=N.ym;rw[Eo,Ci] at c;have l:∀ e∈G++(true,b.1)::I,(∃ o∈y.AU,(o.1,o.2.1)=e/\e.2<b.1)\/e=(true,b.1)\/(e.1=false/\b.1<e.2):=fun e d=>by
   have j:=(i e).1 d;unfold Dl.yg at j;simp only[Gf,Gm,zQ] at j;rcases j with((⟨x,k,a⟩|⟨x,k,a⟩)|⟨x,k,a⟩)|⟨x,_,a⟩
   .simp only[GU] at a
    obtain⟨_,J,m,r⟩:=h.low x k;have g:y.base=some J:=m;rw[hb] at g;cases g;exact .inl ⟨x,k,a,by rw[<- a];exact r⟩
   .have hx':y.base=some x:=k
    rw[hb] at hx';cases hx';simp only[GU] at a;exact .inr (.inl a.symm)
   .simp only[GU] at a
    refine .inr (.inr ⟨by rw[<- a],?_⟩);rw[<- a];refine T.hi x ?_;rw[Ba] at k;exact GN k
   .cases a
  have Q:∀ e∈I,e.1=false:=fun e d=>by
   rcases l e (EE _ (Ge _ d)) with⟨_,_,_,r⟩|rfl|r
   .have:=c.2.1.1 e d;simp only at this;omega
   .have:=c.2.1.1 _ d;simp only at this;omega
   .exact r.1
  have R:(spK (G++(true,b.1)::I)).1=G.map fun e=>zq e.1 e.2:=by
   unfold spK;rw[GW,Fj,PP I Q];rw[<- iIO G]
   rfl
  rw[R];have S:y.AU.map (fun e=>zq e.1 e.2.1)=(y.AU.map fun e=>(e.1,e.2.1)).map fun e=>zq e.1 e.2:=by rw[Fv];rfl
  rw[S];refine List.Perm.map _ ?_;rw[FX] at A;refine(List.perm_ext_iff_of_nodup A.1 O).2 fun e=>?_
  constructor
  .intro d
   have B:=c.2.2 e d (true,b.1) (Gh ..);rcases l e (EI _ d) with⟨o,p,a,_⟩|rfl|r
   .exact Gm.2 ⟨o,p,a⟩
   .simp only at B;omega
   .simp only at B;omega
  .intro d
   obtain⟨o,p,rfl⟩:=Gm.1 d;obtain⟨_,J,m,r⟩:=h.low o p;have g:y.base=some J:=m;rw[hb] at g;cases g;have j:(o.1,o.2.1)∈G++(true,b.1)::I:=(i _).2 (by
    unfold Dl.yg;simp only[Gf,Gm,zQ];exact .inl (.inl (.inl ⟨o,p,rfl⟩)))
   rcases Gf.1 j with j|j
   .exact j
   .rcases GH.1 j with e|e
    .simp only[FF] at e;omega
    .have:=c.2.1.1 _ e;simp only at this;omega
def JM.yn(J:JM)(M:DM)(f g:Nat):Option Int × JM × DM :=
 match (J.begin M (J.last+2) f).1 with
 | .some n=>(some n,(J.begin M (J.last+2) f).2.1,(J.begin M (J.last+2) f).2.2)
 | .none=>(zJ ((J.begin M (J.last+2) f).2.2.create zf g).1,(J.begin M (J.last+2) f).2.1,((J.begin M (J.last+2) f).2.2.create zf g).2)
theorem OO(B d o:Nat)(J:JM)(L:DL)(M:DM)(b2:J.last+2<1000000000000)(w:World)(hj:JRep w d o J)(hd:DRep w o L M)(ht:X9 B w)(hB:B<=w.heap.size)(j:∀ k,Foot o L M k->B<=k)
 (Q:(J.Az M).2.AA.length+1<=1000000000000)(R:(J.Az M).2.dir.length+1<=1000000000000)
 (T:∀ f,w.heap.size<=f->(J.begin M (J.last+2) f).2.2.AA.length+1<=1000000000000/\(J.begin M (J.last+2) f).2.2.dir.length+1<=1000000000000) :
 Calls Tryz.prog 169 #[.pointer (some ⟨d,0,none⟩)] w fun e w' =>
  ∃ f g v pv L',e=.returned (.tuple #[pv,v])/\w.heap.size<=f/\w.heap.size<=g/\g∉(J.begin M (J.last+2) f).2.2.ids/\ERep w' v (J.yn M f g).1/\JStep d o L M w (J.yn M f g).2.1 L' (J.yn M f g).2.2 w' /\
   ((J.yn M f g).1=none->∃ u,pv=.pointer (some ⟨u,0,none⟩)/\w.heap.size<=u/\Blk w' u [.pointer (some ⟨d,0,none⟩),.int .i64 (J.last+1:Nat)] 250)/\((J.yn M f g).1≠none->pv=.pointer none):=by
 have b3:w.cell? ⟨d,2,none⟩=some (.int .i64 J.last):=hj.cell 2;have b4:IntKind.i64.wrap ((J.last:Int)+1)=(J.last:Int)+1:=by rw[Gs];omega
 have b5:IntKind.i64.wrap ((J.last:Int)+1+1)=(J.last:Int)+1+1:=by rw[Gs];omega
 have bd:=Blk.new w [.pointer (some ⟨d,0,none⟩),.int .i64 ((J.last:Int)+1)] 250;have f0:Fr Nil w (w.alloc (.cells #[.pointer (some ⟨d,0,none⟩),.int .i64 ((J.last:Int)+1)] 250)):=(U _ _).alloc _;have b1:(w.alloc (.cells #[.pointer (some ⟨d,0,none⟩),.int .i64 ((J.last:Int)+1)] 250)).heap.size=w.heap.size+1:=by simp
 have E:=Z (fun wx (f:Fr Nil w wx)=>W9 B d o J L M (J.last+2) (by omega) wx (Blk.fr hj f id) (hd.nil f) (ht.fr hB (S:=Nil) f (fun _ h=>absurd h id)) (Gc hB f.size) j Q R);have HJ:=Z hj;have HD:=Z hd;have D:=Z T;have V:=bd.cell;clear hj hd ht j Q R T;go_enter Tryz.func169,Tryz.ntmps169;go_wp2_with fail;generalize w.alloc (.cells #[.pointer (some ⟨d,0,none⟩),.int .i64 ((J.last:Int)+1)] 250)=w0 at bd f0 b1 V |-;rw[show((J.last:Int)+1+1)=((J.last+2:Nat):Int) by omega];refine(E.out w0 f0).mono ?_;rintro e w1 ⟨f,v1,L1,rfl,hf,A,x⟩;have a:Hid (JStep d o L M w (J.begin M (J.last+2) f).2.1 L1 (J.begin M (J.last+2) f).2.2 w1):=(JStep.nil HJ.out HD.out f0).trans x;have a3:¬(w.heap.size=d\/Foot o L M w.heap.size):=fun e=>by
  rcases e with e|e
  .have:=Blk.lt HJ.out;omega
  .have:=HD.out.lt e;omega
 have p:=bd.fr x.2.2.1 a3;have a4:=Z p;have HE:=Z A;have l:w.heap.size<=f:=by omega
 clear x a3 E p V bd;cases he:(J.begin M (J.last+2) f).1 with
 | some n =>
  have hp:∀ g,J.yn M f g=(some n,(J.begin M (J.last+2) f).2.1,(J.begin M (J.last+2) f).2.2):=by intro g;unfold JM.yn;rw[he]
  have I:=Z hp;rw[he] at A HE;obtain⟨k,hk⟩:=A;obtain⟨t,b,rfl⟩:=hk.form;clear he hp hk;go_wp2_with fail;refine(zB _ _ _ w1 HE.out).mono ?_;rintro e w2 ⟨v2,rfl,K,X⟩;have a5:=Z K;have HF:=Z (a.out.AC X);clear K X
  go_wp2
  go_ret2;refine⟨f,w1.heap.size,v2,.pointer none,L1,rfl,l,?_,fun hg=>?_,?_,?_,?_,?_⟩
  .have:=a.out.2.2.1.size;omega
  .have:=a.out.2.1.lt (.file hg);omega
  .rw[I.out];exact a5.out
  .rw[I.out];exact HF.out
  .intro h;rw[I.out] at h;cases h
  .intro _;rfl
 | none =>
  rw[he] at A HE;have hv:v1=.nilIface:=A;subst hv;have hp:∀ g,J.yn M f g=(zJ ((J.begin M (J.last+2) f).2.2.create zf g).1,(J.begin M (J.last+2) f).2.1,((J.begin M (J.last+2) f).2.2.create zf g).2):=by intro g;unfold JM.yn;rw[he]
  have I:=Z hp;have b0:w1.cell? ⟨d,0,none⟩=some (.pointer (some ⟨o,0,none⟩)):=a.out.1.cell 0;have G:=Z (Uv zf w1 o L1 _ a.out.2.1 (D.out f l).1 (D.out f l).2);clear he hp A HE;go_wp2_with fail;refine G.out.mono ?_;rintro e w2 ⟨g,L2,rfl,hg,y⟩;have a1:g∉(J.begin M (J.last+2) f).2.2.ids:=fun hm=>by have:=a.out.2.1.lt (.file hm);omega
  have q:=a4.out.step a.out.2.1 y (by unfold DTy;decide);have r:=a.out.trans (JStep.yB a.out.1 a.out.2.1 y);have s:=Z (And.intro r q);have a2:w.heap.size<=g:=Gc a.out.2.2.1.size hg;clear y r q b0 G;have c:=Z (I.out g);by_cases C:((J.begin M (J.last+2) f).2.2.create zf g).1=0
  .have hq:(((J.begin M (J.last+2) f).2.2.create zf g).1 != 0)=false:=by simp[C]
   have i:zJ ((J.begin M (J.last+2) f).2.2.create zf g).1=none:=by unfold zJ;rw[GA C]
   have m:=Z i;clear C i
   go_wp2
   go_ret2;refine⟨f,g,.nilIface,_,L2,rfl,l,a2,a1,?_,?_,?_,?_⟩
   .rw[c.out,m.out];rfl
   .rw[c.out];exact s.out.1
   .intro _;exact⟨_,rfl,Gb _,s.out.2⟩
   .intro h;rw[c.out,m.out] at h;exact absurd rfl h
  .have hq:(((J.begin M (J.last+2) f).2.2.create zf g).1 != 0)=true:=by simp[C]
   have i:zJ ((J.begin M (J.last+2) f).2.2.create zf g).1=some ((J.begin M (J.last+2) f).2.2.create zf g).1:=by unfold zJ;rw[Gl C]
   have m:=Z i;clear C i;go_wp2_with fail;refine(Yk _ _ _ w2).mono ?_;rintro e w3 ⟨v3,rfl,N,Y⟩;have a6:=Z N;have a8:=Z Y;clear N Y;go_wp2_with fail;refine(zB _ _ _ w3 a6.out).mono ?_;rintro e w4 ⟨v4,rfl,O,a0⟩;have a7:=Z O;have a9:=Z (s.out.1.AC (a8.out.trans a0));clear O a0
   go_wp2
   go_ret2;refine⟨f,g,v4,.pointer none,L2,rfl,l,a2,a1,?_,?_,?_,?_⟩
   .rw[c.out];exact a7.out
   .rw[c.out];exact a9.out
   .intro h;rw[c.out,m.out] at h;cases h
   .intro _;rfl
theorem Xl(b i c:Nat)(n:Nat)(J:JM)(L:DL)(M:DM)(a:ByteArray)(w:World)(q:Blk w b [.pointer (some ⟨i,0,none⟩),.int .i64 n] 250)(t:JRep w i c J)(r:DRep w c L M)
 (I:0<=M.part)(m:a.size<=1000000000000)(l:∀ f,f∈M.ids->(M.file f).bytes.length<=1000000000000) :
 Calls Tryz.prog 171 #[.pointer (some ⟨b,0,none⟩),.string a] w fun e u=>∃ v C,e=.returned v/\ERep u v (zJ (M.add zf a).1)/\DStep c L M w C (M.add zf a).2 u:=by
 have E:w.cell? ⟨i,0,none⟩=some (.pointer (some ⟨c,0,none⟩)):=t.cell 0;have G:w.cell? ⟨b,0,none⟩=some (.pointer (some ⟨i,0,none⟩)):=q.cell 0;have x:=Z (Uw zf a w c L M r I m l);clear q t r;go_enter Tryz.func171,Tryz.ntmps171;go_wp2_with fail;refine x.out.mono ?_;rintro e N ⟨rfl,D,h⟩;have B:=Z h;clear h;go_wp2_with fail;refine(Yk _ _ _ N).mono ?_;rintro e O ⟨Q,rfl,o,s⟩;have y:=Z o;have A:=Z s;clear o s;go_wp2_with fail;refine(zB _ _ _ O y.out).mono ?_;rintro e R ⟨K,rfl,d,g⟩;have j:=Z d;have k:=Z (B.out.AC (A.out.trans g));clear d g
 go_wp2
 go_ret;exact⟨K,D,rfl,j.out,k.out⟩
def JM.replace(J:JM)(M:DM)(a:ByteArray)(l:List ByteArray):Option Int × JM × DM :=
 if (M.sync zf).1≠0 then(zJ (M.sync zf).1,J,(M.sync zf).2)
 else if ((M.sync zf).2.rename zf a).1≠0 then(zJ ((M.sync zf).2.rename zf a).1,J,((M.sync zf).2.rename zf a).2)
 else match (((M.sync zf).2.rename zf a).2.yf l).1 with
  | .some n=>(some n,J,(((M.sync zf).2.rename zf a).2.yf l).2)
  | .none=>J.AO (((M.sync zf).2.rename zf a).2.yf l).2
theorem Re(y d:Nat)(J:JM)(L:DL)(M:DM)(a:ByteArray)(l:List ByteArray)(w:World)(hj:JRep w y d J)(hd:DRep w d L M)
 (K:(M.sync zf).2.AA.length+1<=1000000000000)(O:(M.sync zf).2.dir.length+1<=1000000000000)
 (T:(M.sync zf).1=0->((M.sync zf).2.rename zf a).1=0->∀ X LX,DRep X d LX ((M.sync zf).2.rename zf a).2->Fr (fun k=>k=y\/Foot d L M k) w X->(∀ k,Foot d LX ((M.sync zf).2.rename zf a).2 k->Foot d L M k\/w.heap.size<=k) ->
   Calls Tryz.prog 144 #[.pointer (some ⟨d,0,none⟩)] X fun e V=>∃ v L',e=.returned v/\ERep V v (((M.sync zf).2.rename zf a).2.yf l).1/\DStep d LX ((M.sync zf).2.rename zf a).2 X L' (((M.sync zf).2.rename zf a).2.yf l).2 V) :
 Calls Tryz.prog 172 #[.pointer (some ⟨y,0,none⟩),.string a] w fun e V=>∃ v L',e=.returned v/\ERep V v (J.replace M a l).1/\JStep y d L M w (J.replace M a l).2.1 L' (J.replace M a l).2.2 V:=by
 have a6:w.cell? ⟨y,0,none⟩=some (.pointer (some ⟨d,0,none⟩)):=hj.cell 0;have a5:=Z (TY zf w d L M hd);have HJ:=Z hj;have HD:=Z hd;have HB:=Z (And.intro K O);have E:=Z T;clear hj hd K O T;go_enter Tryz.func172,Tryz.ntmps172;go_wp2_with fail;refine a5.out.mono ?_;rintro e w1 ⟨rfl,L1,s⟩;have q:=JStep.yB HJ.out HD.out s;have g:=Z q;clear s a6;by_cases B:(M.sync zf).1=0
 .have hq1:((M.sync zf).1 != 0)=false:=by simp[B]
  have o:=Z B;have a7:w1.cell? ⟨y,0,none⟩=some (.pointer (some ⟨d,0,none⟩)):=q.1.cell 0;have a2:=Z (QV zf a w1 d L1 (M.sync zf).2 g.out.2.1 HB.out.1 HB.out.2);clear B q;go_wp2_with fail;refine a2.out.mono ?_;rintro e w2 ⟨rfl,L2,u⟩;have r:=g.out.trans (JStep.yB g.out.1 g.out.2.1 u);have c:=Z r;clear u a7;by_cases C:((M.sync zf).2.rename zf a).1=0
  .have hq2:(((M.sync zf).2.rename zf a).1 != 0)=false:=by simp[C]
   have A:=Z C;have a8:w2.cell? ⟨y,0,none⟩=some (.pointer (some ⟨d,0,none⟩)):=r.1.cell 0;have a3:=Z (E.out o.out A.out w2 L2 c.out.2.1 c.out.2.2.1 c.out.2.2.2);clear C r E;go_wp2_with fail;refine a3.out.mono ?_;rintro e w3 ⟨v3,L3,rfl,f,x⟩;have i:=c.out.trans (JStep.yB c.out.1 c.out.2.1 x);have D:=Z i;have m:=Z f;clear x a8;cases he:(((M.sync zf).2.rename zf a).2.yf l).1 with
   | some n =>
    have j:J.replace M a l=(some n,J,(((M.sync zf).2.rename zf a).2.yf l).2):=by unfold JM.replace;rw[Gl (by rw[o.out];simp),Gl (by rw[A.out];simp),he]
    have h:=Z j;rw[he] at f m;obtain⟨k,hk⟩:=f;obtain⟨t,b,rfl⟩:=hk.form;clear he j hk i
    go_wp2
    go_ret;exact⟨_,L3,rfl,by rw[h.out];exact m.out,by rw[h.out];exact D.out⟩
   | none =>
    have j:J.replace M a l=J.AO (((M.sync zf).2.rename zf a).2.yf l).2:=by unfold JM.replace;rw[Gl (by rw[o.out];simp),Gl (by rw[A.out];simp),he]
    have h:=Z j;rw[he] at f m;have hv:v3=.nilIface:=f;subst hv;have a4:=Z (VC y d J L3 _ w3 i.1 i.2.1);clear he j f m i;go_wp2_with fail;refine a4.out.mono ?_;rintro e w4 ⟨v4,L4,rfl,I,R⟩;have a0:=Z I;have a1:=Z (D.out.trans R);clear I R
    go_wp2
    go_ret;exact⟨_,L4,rfl,by rw[h.out];exact a0.out,by rw[h.out];exact a1.out⟩
  .have hq2:(((M.sync zf).2.rename zf a).1 != 0)=true:=by simp[C]
   have j:J.replace M a l=(zJ ((M.sync zf).2.rename zf a).1,J,((M.sync zf).2.rename zf a).2):=by unfold JM.replace;rw[Gl (by rw[o.out];simp),GA C]
   have h:=Z j;clear j C r;go_wp2_with fail;refine(Yk _ _ _ w2).mono ?_;rintro e w3 ⟨v3,rfl,G,Q⟩;have Y:=Z G;have HF:=Z (c.out.AC Q);clear G Q
   go_wp2
   go_ret;exact⟨_,L2,rfl,by rw[h.out];exact Y.out,by rw[h.out];exact HF.out⟩
 .have hq1:((M.sync zf).1 != 0)=true:=by simp[B]
  have j:J.replace M a l=(zJ (M.sync zf).1,J,(M.sync zf).2):=by unfold JM.replace;rw[GA B]
  have h:=Z j;clear j B q;go_wp2_with fail;refine(Yk _ _ _ w1).mono ?_;rintro e w3 ⟨v3,rfl,G,Q⟩;have Y:=Z G;have HF:=Z (g.out.AC Q);clear G Q
  go_wp2
  go_ret;exact⟨_,L1,rfl,by rw[h.out];exact Y.out,by rw[h.out];exact HF.out⟩
theorem St(a c k n:Nat)(J:JM)(L:DL)(M:DM)(l:List ByteArray)(w:World)(u:Blk w a [.pointer (some ⟨c,0,none⟩),.int .i64 n] 250)(E:JRep w c k J)(C:DRep w k L M)(hn:n<1000000000000)(R:∀ b,Fr Nil w b->Tab b)
 (Q:∀ i,Fr Nil w i->Calls Tryz.prog 172 #[.pointer (some ⟨c,0,none⟩),.string (zq true n)] i fun e b=>∃ v j,e=.returned v/\ERep b v (J.replace M (zq true n) l).1/\JStep c k L M i (J.replace M (zq true n) l).2.1 j (J.replace M (zq true n) l).2.2 b) :
 Calls Tryz.prog 138 #[.pointer (some ⟨a,0,none⟩)] w fun e b=>∃ v j,e=.returned v/\ERep b v (J.replace M (zq true n) l).1/\JStep c k L M w (J.replace M (zq true n) l).2.1 j (J.replace M (zq true n) l).2.2 b:=by
 have B:Hid (∀ b,Fr Nil w b->b.cell? ⟨a,0,none⟩=some (.pointer (some ⟨c,0,none⟩))/\b.cell? ⟨a,1,none⟩=some (.int .i64 n)):=fun b f=>⟨(u.fr f id).cell 0,(u.fr f id).cell 1⟩;have m:Hid (∀ i G j b,Fr Nil w i->JStep c k L M i (J.replace M (zq true n) l).2.1 j (J.replace M (zq true n) l).2.2 G->Fr Nil G b->b.cell? ⟨a,0,none⟩=some (.pointer (some ⟨c,0,none⟩))/\b.cell? ⟨a,1,none⟩=some (.int .i64 n)):=fun i G j b f s f2=>by
  have h:=u.fr f id;have:=Blk.fr (h.fr s.2.2.1 (fun e=>by
   rcases e with e|e
   .exact absurd (h.ty.inj (e▸(Blk.fr E f id).ty)) (by decide)
   .exact(C.nil f).apart h.ty (by unfold DTy;decide) e)) f2 id
  exact⟨this.cell 0,this.cell 1⟩
 have HR:=Z Q;have Y:=Z E;have T:=Z C;have HT:=Z R;have a0:=B.out w (U _ _);clear u E C R Q;go_enter Tryz.func138,Tryz.ntmps138;go_wp2_with fail
 go_region_held3 (fun b=>b.cell? ⟨a,0,none⟩=some (.pointer (some ⟨c,0,none⟩))/\b.cell? ⟨a,1,none⟩=some (.int .i64 n)) (first|assumption|go_keep|exact B.out _ zd)
  (first
  | (go_at_call 90;refine(zB _ _ _ _ V.out).mono ?_;rintro e K ⟨v4,rfl,q,t⟩;have a3:K.cell? ⟨a,0,none⟩=some (.pointer (some ⟨c,0,none⟩))/\K.cell? ⟨a,1,none⟩=some (.int .i64 n):=HZ.out _ zd;have x:=Z q;have y:Hid (Fr Nil I K):=Fr.trans zd t;clear q t)
  | (go_at_call 172;refine(HR.out _ zd).mono ?_;rintro e I ⟨v3,O,rfl,o,g⟩;have a2:=m.out _ _ _ _ zd g (U _ _);have HZ:Hid (∀ d,Fr Nil I d->d.cell? ⟨a,0,none⟩=some (.pointer (some ⟨c,0,none⟩))/\d.cell? ⟨a,1,none⟩=some (.int .i64 n)):=fun d f=>m.out _ _ _ d zd g f;have V:=Z o;have A:Hid (JStep c k L M w (J.replace M (zq true n) l).2.1 O (J.replace M (zq true n) l).2.2 I):=(JStep.nil Y.out T.out zd).trans g;clear o g)
  | (go_at_call 173;refine(WQ Yc (by decide) n (by omega) _ (HT.out _ zd)).mono ?_;rintro e w2 ⟨rfl,D⟩;have r:Fr Nil w w2:=Fr.trans zd D;have a1:=B.out _ r))
 have X:=Z (A.out.AC y.out)
 go_wp2
 go_ret;exact⟨v4,O,rfl,x.out,X.out⟩
def DM.turn(M:DM)(D:Dir)(r:Int)(d:Bool):DM:={M with calls:=M.calls+1,refused:=r,dead:=d,dir:=D,AA:=M.AA++[D]}
theorem Bk.turn{M:DM}{t k:Nat}(h:Bk M t k){D:Dir}(r:Int)(d:Bool)(j:M.refused<=r)(l:r<=M.refused+1)(c:D.length<=t)(f:∀ e∈D,e.2∈M.ids)(g:(D.map (·.2)).Nodup):Bk (M.turn D r d) t (k+1) where
 c0:=by have:=h.c0;show 0<=M.calls+1;omega
 calls:=by have:=h.calls;show M.calls+1<=_;omega
 f0:=h.f0
 fr:=by have:=h.fr;show M.AD<=r;omega
 rc:=by have:=h.rc;show r<=M.calls+1;omega
 r0:=h.r0
 r1:=h.r1
 part:=h.part
 yW:=h.yW
 xh:=h.xh
 yZ:=h.yZ
 yt:=f
 once:=g
 AA:=by show(M.AA++[_]).length<=_;rw[Ga,Gi];have:=h.AA;omega
 yk:=fun x i=>by
  have b:=h.yk x;have a:x∈M.safe::(M.AA++[D]):=i;simp only[GH,Gf,Ev,Co] at a b;rcases a with e|e|e
  .exact b (.inl e)
  .exact b (.inr e)
  .rw[e];exact c
 dir:=c
theorem Lp{M:DM}{t k:Nat}(h:Bk M t k)(l:t<=1000000)(j:k<=2000000){a:ByteArray}{i:Nat}(g:M.dir.idx a=some i) :
 (M.remove a=(0,M.turn (M.dir.take i++M.dir.drop (i+1)) M.refused M.dead)/\Pass M)\/(∃ d,M.remove a=(9,M.no d)/\Stop M d)\/(M.remove a=(9,M.turn (M.dir.take i++M.dir.drop (i+1)) (M.refused+1) true)/\Stop M true):=by
 unfold DM.remove;rw[g];rcases Xd h l j with⟨e,c⟩|⟨b,d,e,f,c⟩
 .refine .inl ⟨?_,c⟩
  simp only[e,Ft]
  rfl
 .cases b with
  | false =>
   refine .inr (.inl ⟨d,?_,c⟩);simp only[e]
   rfl
  | true =>
   rw[f rfl] at e c;refine .inr (.inr ⟨?_,c⟩);simp only[e,Ft]
   rfl
theorem Lq{M:DM}{t k:Nat}(h:Bk M t k)(o:t<=1000000)(m:k<=2000000){c a:ByteArray}(g:a≠ByteArray.empty){i:Nat}(l:M.dir.idx c=some i) :
 (M.rename c a=(0,M.turn (M.dir.renamed i a) M.refused M.dead)/\Pass M)\/(∃ d,M.rename c a=(9,M.no d)/\Stop M d)\/(M.rename c a=(9,M.turn (M.dir.renamed i a) (M.refused+1) true)/\Stop M true):=by
 unfold DM.rename;rw[l];simp only;rw[Gl g];rcases Xd h o m with⟨e,f⟩|⟨b,d,e,j,f⟩
 .refine .inl ⟨?_,f⟩
  simp only[e,Ft]
  rfl
 .cases b with
  | false =>
   refine .inr (.inl ⟨d,?_,f⟩);simp only[e]
   rfl
  | true =>
   rw[j rfl] at e f;refine .inr (.inr ⟨?_,f⟩);simp only[e,Ft]
   rfl
theorem I3{M:DM}{D:Dir}{r:Int}{d:Bool}{E:Dir}(h:E∈(M.turn D r d).safe::(M.turn D r d).AA):E∈M.safe::M.AA\/E=D:=by
 have a:E∈M.safe::(M.AA++[D]):=h;simp only[GH,Gf,Ev,Co] at a;rcases a with e|e|e
 .exact .inl (e▸Gh ..)
 .exact .inl (Ge _ e)
 .exact .inr e
theorem Lk.turn{M:DM}{y y':Lay}{p t k:Nat}(h:Lk M y p t k){D:Dir}(r:Int)(d:Bool)(A:M.refused<=r)(B:r<=M.refused+1)(G:D.length<=t)(q:y'.F0=y.F0)(a:y'.G=y.G)(c:∀ f,y'.new=some f->y.new=some f)(s:Snd M y' D y'.z):Lk (M.turn D r d) y' p t (k+1):=by
 have g:Snd (M.turn D r d) y' D y'.z:=s.files (fun _ _=>rfl) (fun _ v=>v);have l:y'.F=y.F:=by unfold Lay.F;rw[q,a]
 have m:∀ j,left (M.turn D r d) y' j=left M y j:=fun j=>by unfold left;rw[q,a];rfl
 exact {
  bd:=h.bd.turn r d A B G s.yt s.once
  ym:=by rw[a];exact h.ym
  pos:=by rw[a];exact h.pos
  gid:=by rw[a];exact h.gid
  yT:=by rw[a];exact h.yT
  yA:=fun e u x=>h.yA e (a▸u) (c _ x)
  bytes:=by rw[a];exact h.bytes
  ok:=by rw[a];exact h.ok
  le:=by rw[a];exact h.le
  full:=by rw[a];exact h.full
  yD:=by rw[l];exact h.yD
  fl:=by rw[l];exact h.fl
  now:=g
  yl:=fun E i=>by
   rcases I3 i with i|rfl
   .obtain⟨z,o,hp⟩:=h.yl E i
    refine⟨z,(o.lay (y':=y') q a (fun b I e=>(o.base b I).new (c _ e))).files (fun _ _=>rfl) (fun _ v=>v),by rw[m];exact hp⟩
   .refine⟨_,g,?_⟩
    rw[m];have o:y'.z.j=y.G.length:=by show y'.G.length=_;rw[a]
    rw[o];exact h.yk
  cur:=Ge _ (EE _ (Gg.2 rfl))
  live:=fun e u=>by
   obtain⟨E,i,C⟩:=h.live e (a▸u);refine⟨E,?_,C⟩;show E∈M.safe::(M.AA++[D]);rcases GH.1 i with e|e
   .rw[e];exact Gh ..
   .exact Ge _ (EI _ e)}
theorem PQ{D:Dir}(g:(D.map Prod.fst).Nodup){e:ByteArray × Nat}(d:e∈D):∃ i,∃ h:i<D.length,D.idx e.1=some i/\D[i]=e/\D.Perm (e::(D.take i++D.drop (i+1))):=by
 obtain⟨i,a,rfl⟩:=GE.1 d;have k:∀ j (b:j<D.length),j<i->D[j].1≠D[i].1:=fun j b f e=>by
  have c:(D.map Prod.fst)[j]'(by simpa using b)=(D.map Prod.fst)[i]'(by simpa using a):=by simpa using e
  have:=(BG g).1 c;omega
 refine⟨i,a,?_,rfl,?_⟩
 .unfold Dir.idx
  rw[EJ];refine⟨a,by rw[zZ],fun j b e=>?_⟩;exact k j (by omega) b (zZ.1 e)
 .conv=>lhs;rw[<- Gu i D,Fb a]
  exact CH
theorem Snd.less{M:DM}{y:Lay}{D j:Dir}{z z':Dl}{e:ByteArray × Nat}(h:Snd M y D z)(i:D.Perm (e::j))(l:(z.dir y.G).Perm (e::z'.dir y.G))(f:z'.i=z.i)(g:z'.j=z.j)(c:z'.base=z.base)(k:z'.AU.Sublist z.AU):Snd M y j z':=by
 refine⟨((i.symm.trans h.perm).trans l).cons_inv,by rw[f,g];exact h.ij,by rw[g];exact h.j,fun e d=>by rw[c];exact h.low e (k.mem d),(k.map _).nodup h.nums,fun b a=>by rw[f,g];exact h.base b (c▸a),fun a=>by rw[f];exact h.bare (c▸a),?_,fun e d=>h.yt e (i.mem_iff.2 (Ge _ d))⟩;have:=(i.map (·.2)).nodup_iff.1 h.once;rw[Gw,EH] at this;exact this.2
theorem Lk.vR{M:DM}{y:Lay}{p t k:Nat}(h:Lk M y p t k){n:ByteArray}{l:List ByteArray}(c:(n::l).Perm y.yG) :
 ∃ y' i,M.dir.idx n=some i/\y'.F0=y.F0/\y'.G=y.G/\y'.base=y.base/\y'.i=y.i/\(∀ f,y'.new=some f->y.new=some f)/\l.Perm y'.yG/\Snd M y' (M.dir.take i++M.dir.drop (i+1)) y'.z:=by
 have d:n∈y.yG:=c.mem_iff.1 (Gh ..);obtain⟨_,_,_,_,_,_,g⟩:=h.now.yg h.ym;unfold Lay.yG at d;rcases Gf.1 d with d|d
 .obtain⟨e,he,rfl⟩:=Gm.1 d
  obtain⟨j,m,r⟩:=Cj he;have q:X2 e∈M.dir:=by
   rw[h.now.perm.mem_iff];unfold Dl.dir;simp only[Gf,Gm];exact .inl (.inl (.inl ⟨e,he,rfl⟩))
  obtain⟨i,v,o,_,s⟩:=PQ g q;refine⟨{y with AU:=j++m},i,o,rfl,rfl,rfl,rfl,fun _ x=>x,?_,?_⟩
  .unfold Lay.yG at c |-
   rw[r,Gy,Gw,Gp,GC] at c;have:=(c.trans CH).cons_inv
   simpa [List.map_append,List.append_assoc] using this
  .have hs:=h.now.less (z':=({y with AU:=j++m}:Lay).z) s (by
    unfold Dl.dir;show(y.AU.map X2++_++_++_).Perm (_::((j++m).map X2++_++_++_));rw[r,Gy,Gw,Gy];simp only[Gp,GC];exact CH) rfl rfl rfl (by show(j++m).Sublist y.AU;rw[r];exact List.Sublist.append_left (List.sublist_cons_self _ _) _)
   exact hs.lay rfl rfl (fun b u=>(h.now.base b u).new)
 .obtain⟨f,hf,rfl⟩:=Gm.1 d
  have a:y.new=some f:=zQ.1 hf;have q:(zf,f)∈M.dir:=by
   rw[h.now.perm.mem_iff];unfold Dl.dir;simp only[Gf,Gm,zQ];exact .inr ⟨f,a,rfl⟩
  obtain⟨i,v,o,_,s⟩:=PQ g q;refine⟨{y with new:=none},i,o,rfl,rfl,rfl,rfl,fun _ x=>(by cases x),?_,?_⟩
  .unfold Lay.yG at c |-
   rw[a] at c;have:=(c.trans ES).cons_inv
   simpa using this
  .have hs:=h.now.less (z':=({y with new:=none}:Lay).z) s (by
    unfold Dl.dir;show(_++_++_++y.new.toList.map _).Perm (_::(_++_++_++[]));rw[a,GI];exact ES) rfl rfl rfl (List.Sublist.refl _)
   exact hs.lay rfl rfl (fun b u e=>by cases e)
theorem Ans.turn{M:DM}{D:Dir}{d:Bool}(a:Stop M d):Ans M (M.turn D (M.refused+1) d) (some 9):=Ans.no a rfl rfl
theorem PR(l:List ByteArray):∀ {M:DM}{y:Lay}{p t k:Nat},Lk M y p t k->t<=1000000->k+l.length<=2000000->l.Perm y.yG ->
 ∃ e c y',M.yf l=(e,c)/\Lk c y' p t (k+l.length)/\y'.F0=y.F0/\y'.G=y.G/\y'.base=y.base/\y'.i=y.i/\(∀ f,y'.new=some f->y.new=some f)/\Ans M c e/\c.room=M.room/\c.ids=M.ids/\c.yj<=M.yj/\e≠some 10/\(e=none->y'.AU=[]/\y'.new=none):=by
 induction l with
 | nil =>
  intro M y p t k h _ _ A;refine⟨none,M,y,rfl,h,rfl,rfl,rfl,rfl,fun _ x=>x,Ans.refl M,rfl,rfl,Gb _,(by intro e;cases e),fun _=>?_⟩;have g:=List.nil_perm.1 A;unfold Lay.yG at g;rw[List.append_eq_nil_iff,Cf,Cf] at g;refine⟨g.1,?_⟩;cases hn:y.new with
  | none=>rfl
  | some f=>rw[hn] at g;exact absurd g.2 (by simp)
 | cons n l R =>
  intro M y p t k h E Q A;rw[Gn] at Q;obtain⟨y',i,O,q,s,G,I,u,S,J⟩:=h.vR A;have o:(M.dir.take i++M.dir.drop (i+1)).length<=M.dir.length:=by rw[Ga,Gd,Gk];omega
  have j:(M.dir.take i++M.dir.drop (i+1)).length<=t:=Gc o h.bd.dir;have a:∀ r d,(M.turn (M.dir.take i++M.dir.drop (i+1)) r d).yj<=M.yj:=fun r d=>by
   show((M.dir.take i++M.dir.drop (i+1)).map fun e=>(M.file e.2).bytes.length).sum<=(M.dir.map fun e=>(M.file e.2).bytes.length).sum
   conv=>rhs;rw[<- Gu i M.dir]
   rw[Gy,Gy,Eb,Eb];have:((M.dir.drop (i+1)).map fun e=>(M.file e.2).bytes.length).sum<=((M.dir.drop i).map fun e=>(M.file e.2).bytes.length).sum:=by
    by_cases m:i<M.dir.length
    .rw[Fb m,Gw,FL];omega
    .rw[GX (by omega)];exact Gz _
   omega
  unfold DM.yf;rcases Lp h.bd E (by omega) O with⟨e,v⟩|⟨d,e,b⟩|⟨e,b⟩
  .rw[e]
   simp only[Ft];have m:=h.turn (y':=y') M.refused M.dead (Ef _) (by omega) j q s u J;obtain⟨K,M2,y2,T,V,X,Y,r4,r5,r6,r7,r8,r9,B,C,D⟩:=R m E (by omega) S;refine⟨K,M2,y2,T,?_,X.trans q,Y.trans s,r4.trans G,r5.trans I,fun f N=>u f (r6 f N),Ans.trans (M2:=M.turn (M.dir.take i++M.dir.drop (i+1)) M.refused M.dead) (Ans.ok v rfl rfl rfl) r7,r8,r9,Gc B (a _ _),C,D⟩;rw[Gn,show k+(l.length+1)=k+1+l.length by omega];exact V
  .rw[e]
   rw[Gl (fun h=>by have L:(9:Int)=0:=h;omega)];refine⟨some 9,_,y,rfl,?_,rfl,rfl,rfl,rfl,fun _ x=>x,Ans.no b rfl rfl,rfl,rfl,Gb _,(by intro e;cases e),fun e=>by cases e⟩;exact(h.no d).xR (by rw[Gn];omega)
  .rw[e]
   rw[Gl (fun h=>by have L:(9:Int)=0:=h;omega)];have m:=h.turn (y':=y') (M.refused+1) true (by omega) (by omega) j q s u J;refine⟨some 9,_,y',rfl,?_,q,s,G,I,u,Ans.turn b,rfl,rfl,a _ _,(by intro e;cases e),fun e=>by cases e⟩;exact m.xR (by rw[Gn];omega)
theorem RV:((Tryz.prog.info? 152).map fun i=>(i.zero.map (·.cells.size),i.size,i.bytes))=some (some 2,2,32):=by kernel_rfl
theorem I4(w:World)(f:Nat):(binOp .neq 146 (.pointer (some ⟨f,0,none⟩)) (.pointer (some ⟨f,0,none⟩))).run Tryz.prog w=.ok (.bool false) w:=by
 obtain⟨i,z,a,_⟩:=Y6 RV;have h:∀ d:Nat,(Op.equalIn (d+1) 146 (.pointer (some ⟨f,0,none⟩)) (.pointer (some ⟨f,0,none⟩))).run Tryz.prog w=.ok true w:=fun d=>by
  simp[Op.equalIn,run_underlying Tryz.underlying146,sizeOf,typeInfo,a,run_sameAddr_same]
 simp only[binOp];simp[Op.equal,Op.maxDepth,h 9999]
theorem KZ{w:World}{f g:Nat}{c k:List Value}(l:Blk w f c 152)(m:Blk w g k 152)(b:f≠g) :
 (binOp .neq 146 (.pointer (some ⟨f,0,none⟩)) (.pointer (some ⟨g,0,none⟩))).run Tryz.prog w=.ok (.bool true) w:=by
 obtain⟨i,z,o,_,q,_⟩:=Y6 RV;have j:i.size≠0:=by omega
 have a:(⟨f,0,none⟩:Addr)≠⟨g,0,none⟩:=fun e=>b (FW Addr.block e);have h:∀ d:Nat,(Op.equalIn (d+1) 146 (.pointer (some ⟨f,0,none⟩)) (.pointer (some ⟨g,0,none⟩))).run Tryz.prog w=.ok false w:=fun d=>by
  simp[Op.equalIn,run_underlying Tryz.underlying146,sizeOf,typeInfo,o,j,run_sameAddr_other w a l m]
 simp only[binOp];simp[Op.equal,Op.maxDepth,h 9999]
structure Yf(w0 w:World)(bo bm:Nat)(M:DM)(ps0:List (Nat × Nat))(vo0 vm0:Value)(d:Dir)(k:Nat)(l:Value)(w':World):Prop where
 ex:∃ ps vo vm fV d',Twin w0 w' bo bm M (ps.map Prod.fst) ps vo vm fV/\(∀ p,p∈ps0->p∈ps)/\ps.length<=ps0.length+k/\d'.length=k /\
  (∀ i (h1:i<d.length)(h2:i<d'.length),d'[i].1=d[i].1/\(d[i].2,d'[i].2)∈ps)/\w'.ownsRow 0 148 2 l k (flat d') /\
  (∀ j,vo.ownBlock=some j->vo0.ownBlock=some j\/w.heap.size<=j)/\(∀ j,vm.ownBlock=some j->vm0.ownBlock=some j\/w.heap.size<=j)
 new:∀ j,l.ownBlock=some j->w.heap.size<=j
 fr:Fr (fun j=>j=bo\/j=bm\/vo0.ownBlock=some j\/vm0.ownBlock=some j) w w'
theorem Twin.yU{d w t:World}{i g:Nat}{M:DM}{m:List Nat}{o:List (Nat × Nat)}{r q l:Value}{j:Nat->Value}{n:Nat}{A:List Value}(h:Twin d w i g M m o r q j)
 (b:w.ownsRow 0 148 2 l n A)(y:∀ k,l.ownBlock=some k->d.heap.size<=k)(f:Fr (fun k=>l.ownBlock=some k) w t) :
 Twin d t i g M m o r q j :=
 {h with
  co:=h.co.fr f (zi b h.co (by decide))
  cm:=h.cm.fr f (zi b h.cm (by decide))
  old:=ze h.old f (fun _ a e=>Zb b h.old (by decide) e a)
  made:=ze h.made f (fun _ a e=>Zb b h.made (by decide) e a)
  files:=fun p c=>(h.files p c).fr f (zi b (h.files p c) (by decide))
  rows:=fun p c=>ze (h.rows p c) f (fun _ a e=>Zb b (h.rows p c) (by decide) e a)
  fr:=Fr.trans' h.fr f (fun k u a=>absurd (y k a) (by omega))}
theorem Yf.step{B w W O Q:World}{D C:Nat}{M:DM}{o f:List (Nat × Nat)}{r q N L l Y:Value}{R:Nat->Value}{d b:Dir}{k g:Nat}(hk:k<d.length)(h0:Fr Nil B w)
 (T:Twin B W D C M (f.map Prod.fst) f N L R)(x:∀ p,p∈o->p∈f)(G:f.length<=o.length+(k+1))(s:b.length=k)
 (I:∀ i (V:i<d.length)(X:i<b.length),b[i].1=d[i].1/\(d[i].2,b[i].2)∈f)(u:W.ownsRow 0 148 2 l k (flat b))(a:∀ j,l.ownBlock=some j->w.heap.size<=j)
 (K:∀ j,N.ownBlock=some j->r.ownBlock=some j\/w.heap.size<=j)(J:∀ j,L.ownBlock=some j->q.ownBlock=some j\/w.heap.size<=j)
 (t:Fr (fun j=>j=D\/j=C\/r.ownBlock=some j\/q.ownBlock=some j) w W)(hg:(d[k].2,g)∈f)(y:Fr Nil W O)
 (A:App O l 148 2 (k+1) (flat b++[.string d[k].1,.pointer (some ⟨g,0,none⟩)]) Y Q) :
 Yf B w D C M o r q d (k+1) Y Q:=by
 have a1:=h0.size;have a3:=t.size;have a2:=y.size;have E:∀ j,l.ownBlock=some j->B.heap.size<=j:=fun j c=>by have:=a j c;omega
 refine⟨⟨f,N,L,R,b++[(d[k].1,g)],(T.yb y).yU (ze u y (fun _ _=>id)) E A.fr,x,G,by simp[s],?_,?_,K,J⟩,?_,?_⟩
 .intro i V X
  by_cases e:i<b.length
  .rw[Fs e]
   exact I i V e
  .have e':i=k:=by simp at X;omega
   subst e';rw[De (by omega)];simp only[s,BZ,Da];exact⟨trivial,hg⟩
 .have e:flat (b++[(d[k].1,g)])=flat b++[.string d[k].1,.pointer (some ⟨g,0,none⟩)]:=by simp[flat]
  rw[e];exact A.own
 .intro j c
  rcases A.at_ with e|e
  .exact a j (by rw[<- e];exact c)
  .rw[e] at c;simp at c;omega
 .refine Fr.trans' (t.trans (y.mono (fun _ _=>False.elim))) A.fr ?_
  intro j a0 c;have:=a j c;omega
theorem Twin.born{D j a y:World}{A l f:Nat}{M:DM}{i:List (Nat × Nat)}{C u t:Value}{B:Nat->Value}{c:Option Addr}{d:Nat}(T:Twin D j A l M (i.map Prod.fst++[f]) i C u B)(q:Fr Nil j a)
 (m:App j.drew (.slice none 0 0) 5 1 (0+(M.file f).bytes.length) ([]++u8s (M.file f).bytes) (.slice c (0+(M.file f).bytes.length) d) a)
 (v:App ((a.alloc (.cells #[.slice c (M.file f).bytes.length d,.int .i64 (M.file f).safe] 152)).alloc (.cells #[.pointer (some ⟨a.heap.size,0,none⟩)] 146)) u 146 1 (i.length+1)
   (ptrs (i.map Prod.snd)++[.pointer (some ⟨a.heap.size,0,none⟩)]) t y) :
 Twin D (y.setCell ⟨l,0,none⟩ t) A l M ((i++[(f,a.heap.size)]).map Prod.fst) (i++[(f,a.heap.size)]) C t (fun g=>if g=a.heap.size then .slice c (M.file f).bytes.length d else B g) /\
  Fr (fun k=>k=l\/u.ownBlock=some k) j (y.setCell ⟨l,0,none⟩ t)/\(∀ k,t.ownBlock=some k->u.ownBlock=some k\/j.heap.size<=k):=by
 have b:=m.own;simp only[Fh,GP] at b;have o:=m.at_;simp only[Fh] at o;have x:=(Blk.new a [.slice c (M.file f).bytes.length d,.int .i64 (M.file f).safe] 152).alloc (.cells #[.pointer (some ⟨a.heap.size,0,none⟩)] 146);have s:((a.alloc (.cells #[.slice c (M.file f).bytes.length d,.int .i64 (M.file f).safe] 152)).alloc (.cells #[.pointer (some ⟨a.heap.size,0,none⟩)] 146)).ownsRow 0 5 1 (.slice c (M.file f).bytes.length d) (M.file f).bytes.length (u8s (M.file f).bytes) :=
  (b.alloc _).alloc _
 have h:=T.xZ (v8:=.slice c (M.file f).bytes.length d) ((q.alloc _).alloc _) s (by
  intro k r;rcases o with e|e
  .rw[e] at r;simp[Value.ownBlock] at r
  .rw[e] at r;simp at r;rw[<- r];exact Gb _) x q.size v
 rw[Gy];exact h
theorem Yf.wk{C w Y Q D y R S:World}{B A L:Nat}{M:DM}{a x:List (Nat × Nat)}{g f O N V X l T:Value}{E:Nat->Value}{d h:Dir}{k:Nat}(hk:k<d.length)(h0:Fr Nil C w)
 (b:Yf C w B A M a g f d k l Y)(r:∀ p,p∈a->p∈x)(a0:x.length<=a.length+k)(J:h.length=k)
 (q:∀ i (G:i<d.length)(I:i<h.length),h[i].1=d[i].1/\(d[i].2,h[i].2)∈x)
 (u:∀ j,O.ownBlock=some j->g.ownBlock=some j\/w.heap.size<=j)(s:∀ j,N.ownBlock=some j->f.ownBlock=some j\/w.heap.size<=j)
 (m:Fr Nil Y Q)(o:Fr (fun j=>j=B\/O.ownBlock=some j) Q D)(v:∀ j,V.ownBlock=some j->O.ownBlock=some j\/Q.heap.size<=j)
 (T5:Twin C y B A M ((x++[(d[k].2,L)]).map Prod.fst) (x++[(d[k].2,L)]) V X E)(K:Fr (fun j=>j=A\/N.ownBlock=some j) D y)(t:∀ j,X.ownBlock=some j->N.ownBlock=some j\/D.heap.size<=j)
 (c:y.ownsRow 0 148 2 l k (flat h))(f1:Fr Nil y R)
 (ha:App R l 148 2 (k+1) (flat h++[.string d[k].1,.pointer (some ⟨L,0,none⟩)]) T S) :
 Yf C w B A M a g f d (k+1) T S:=by
 have s1:=b.fr.size;have s2:=m.size;have s3:=o.size;refine Yf.step hk h0 T5 (fun p hp=>EI _ (r p hp)) (by simp;omega) J (fun i G I=>⟨(q i G I).1,EI _ (q i G I).2⟩) c b.new ?_ ?_ ?_ (by simp) f1 ha
 .intro j hj
  rcases v j hj with e|e
  .exact u j e
  .exact .inr (by omega)
 .intro j hj
  rcases t j hj with e|e
  .exact s j e
  .exact .inr (by omega)
 .refine Fr.trans' (Fr.trans' (b.fr.trans (m.mono (fun _ _=>False.elim))) o ?_) K ?_
  .intro j hlt hj
   rcases hj with e|e
   .exact .inl e
   .rcases u j e with e'|e'
    .exact .inr (.inr (.inl e'))
    .omega
  .intro j hlt hj
   rcases hj with e|e
   .exact .inr (.inl e)
   .rcases s j e with e'|e'
    .exact .inr (.inr (.inr e'))
    .omega
theorem I5{B t b y:World}{d c:Nat}{M:DM}{D o:List Nat}{E q:List (Nat × Nat)}{A r s l:Value}{C f:Nat->Value}{n:Nat}{u:List Value}(v:Twin B t d c M D E A r C)
 (x:Twin B b d c M o q s r f)(m:t.ownsRow 0 148 2 l n u)(h:Fr (fun j=>j=d\/A.ownBlock=some j) t b)(i:Fr (fun j=>j=c\/r.ownBlock=some j) b y) :
 y.ownsRow 0 148 2 l n u:=by
 have g:b.ownsRow 0 148 2 l n u:=ze m h (fun k a e=>by
  rcases e with e|e
  .subst e;exact zi m v.co (by decide) a
  .exact Zb v.old m (by decide) e a)
 exact ze g i (fun k a e=>by
  rcases e with e|e
  .subst e;exact zi g x.cm (by decide) a
  .exact Zb x.made g (by decide) e a)
theorem I6{s a m:World}{r o g:Nat}{M:DM}{h:List Nat}{i:List (Nat × Nat)}{q k:Value}{b:Nat->Value}{c:List Value}
 (l:Twin s a r o M h i k q b)(d:Blk a g c 148)(f:Fr (fun j=>j=o\/q.ownBlock=some j) a m):Blk m g c 148 :=
 d.fr f (fun e=>by
  rcases e with e|e
  .exact d.ne l.cm (by decide) e
  .exact zi l.made d (by decide) e)
structure Own(w0 w:World)(b:Nat)(L:DL)(M:DM):Prop where
 AK:DRep w b L M
 fr:Fr Nil w0 w
 new:∀ k,Foot b L M k->w0.heap.size<=k
theorem TH:∀(l m:List Nat),l.Nodup->(∀ x,x∈l->x∈m)->l.length<=m.length
 | [],_,_,_=>by simp
 | x::l,m,a,c=>by
  have d:x∈m:=c x (Gh ..);rw[EH] at a;have:=TH l (m.erase x) a.2 (fun y g=>by
   have b:=c y (Ge _ g);exact(List.mem_erase_of_ne (fun e:y=x=>a.1 (by rw[<- e];exact g))).2 b)
  have e:=List.length_erase_of_mem d;have h:0<m.length:=List.length_pos_of_mem d;simp only[Gn];omega
structure Rel(ps:List (Nat × Nat))(d d':Dir):Prop where
 len:d'.length=d.length
 at_:∀ i (h1:i<d.length) (h2:i<d'.length),d'[i].1=d[i].1/\(d[i].2,d'[i].2)∈ps
theorem Rel.more{f a:List (Nat × Nat)}{d b:Dir}(h:Rel f d b)(g:∀ p,p∈f->p∈a):Rel a d b :=
 ⟨h.len,fun i c e=>⟨(h.at_ i c e).1,g _ (h.at_ i c e).2⟩⟩
def second(a:List (Nat × Nat))(f:Nat):Nat:=((a.find? fun p=>p.1==f).map Prod.snd).getD 0
def first(a:List (Nat × Nat))(g:Nat):Nat:=((a.find? fun p=>p.2==g).map Prod.fst).getD 0
theorem UO:∀{a:List (Nat × Nat)}{f g:Nat},(a.map Prod.fst).Nodup->(f,g)∈a->second a f=g
 | [],_,_,_,h=>by cases h
 | p::a,f,g,b,h=>by
  rw[Gw,EH] at b;rcases GH.1 h with e|c
  .subst e;simp[second]
  .have hne:(p.1==f)=false:=by
    rw[Fl];intro e;exact b.1 (by rw[e];exact Gm.2 ⟨_,c,rfl⟩)
   have:=UO b.2 c;unfold second at this |-;rw[List.find?_cons,hne];exact this
theorem VZ:∀{a:List (Nat × Nat)}{f g:Nat},(a.map Prod.snd).Nodup->(f,g)∈a->first a g=f
 | [],_,_,_,h=>by cases h
 | p::a,f,g,b,h=>by
  rw[Gw,EH] at b;rcases GH.1 h with e|c
  .subst e;simp[first]
  .have hne:(p.2==g)=false:=by
    rw[Fl];intro e;exact b.1 (by rw[e];exact Gm.2 ⟨_,c,rfl⟩)
   have:=VZ b.2 c;unfold first at this |-
   rw[List.find?_cons,hne];exact this
def Z7(a:List (Nat × Nat))(d:Dir):Dir:=d.map fun e=>(e.1,second a e.2)
theorem Rel.eq{a:List (Nat × Nat)}{d b:Dir}(k:(a.map Prod.fst).Nodup)(h:Rel a d b):b=Z7 a d:=by
 refine BH (by rw[h.len];simp[Z7]) ?_;intro i c l;have j:i<d.length:=by rw[<- h.len];exact c
 obtain⟨e,f⟩:=h.at_ i j c;have g:=UO k f;simp only[Z7,GJ,g];exact Prod.ext e rfl
theorem Rel.mem{c:List (Nat × Nat)}{d a:Dir}(h:Rel c d a):∀ e,e∈a->∃ p,p∈c/\p.2=e.2:=by
 intro e g;obtain⟨i,b,rfl⟩:=GE.1 g;have f:i<d.length:=by rw[<- h.len];exact b
 exact⟨_,(h.at_ i f b).2,rfl⟩
def DM.AR(M:DM)(a:List (Nat × Nat)):DM :=
 {M with dir:=Z7 a M.dir,safe:=Z7 a M.safe,AA:=M.AA.map (Z7 a),file:=fun g=>M.file (first a g),ids:=a.map Prod.snd}
structure zS(w0 w:World)(bo bm nb:Nat)(M:DM)(D S:Dir)(k:Nat)(ps:List (Nat × Nat))(vo vm:Value)(fV:Nat->Value)(L:DL)(d1 s1:Dir)(c1:List Dir):Prop where
 T:Twin w0 w bo bm M (ps.map Prod.fst) ps vo vm fV
 Ay:Blk w nb (M.cells L) 143
 vB:w0.heap.size<=nb
 dir:w.ownsRow 0 148 2 L.yd d1.length (flat d1)
 safe:w.ownsRow 0 148 2 L.AQ s1.length (flat s1)
 ch:w.ownsRow 0 145 1 L.yL k L.AZ
 yI:L.AZ.length=k
 cl:c1.length=k
 AA:∀ i (h1:i<L.AZ.length) (h2:i<c1.length),w.ownsRow 0 148 2 L.AZ[i] c1[i].length (flat c1[i])
 rd:Rel ps D d1
 rs:Rel ps S s1
 rc:∀ i (h1:i<c1.length) (h2:i<M.AA.length),Rel ps M.AA[i] c1[i]
 nd:∀ j,L.yd.ownBlock=some j->w0.heap.size<=j
 ns:∀ j,L.AQ.ownBlock=some j->w0.heap.size<=j
 nc:∀ j,L.yL.ownBlock=some j->w0.heap.size<=j
 vF:∀ i (h1:i<L.AZ.length) j,L.AZ[i].ownBlock=some j->w0.heap.size<=j
theorem zS.yb{r w q:World}{b a g:Nat}{M:DM}{D S:Dir}{k:Nat}{j:List (Nat × Nat)}{o m:Value}{e:Nat->Value}{L:DL}{d l:Dir}{c:List Dir}
 (h:zS r w b a g M D S k j o m e L d l c)(f:Fr Nil w q):zS r q b a g M D S k j o m e L d l c :=
 {h with
  T:=h.T.yb f
  Ay:=h.Ay.fr f id
  dir:=ze h.dir f (fun _ _=>id)
  safe:=ze h.safe f (fun _ _=>id)
  ch:=ze h.ch f (fun _ _=>id)
  AA:=fun i s t=>ze (h.AA i s t) f (fun _ _=>id)}
theorem Wp{s w m:World}{d c:Nat}{M:DM}{q:List Nat}{r:List (Nat × Nat)}{l i:Value}{p:Nat->Value}{e:TypeId}{size n:Nat}{v:Value}{o:List Value}(T:Twin s w d c M q r l i p)
 (f:Fr (fun j=>j=d\/j=c\/l.ownBlock=some j\/i.ownBlock=some j) w m)(a:w.ownsRow 0 e size v n o)(g:e≠168)(h:e≠146):m.ownsRow 0 e size v n o :=
 ze a f (fun k b e=>by
  rcases e with e|e|e|e
  .subst e;exact zi a T.co (Cp g) b
  .subst e;exact zi a T.cm (Cp g) b
  .exact Zb T.old a (Cp h) e b
  .exact Zb T.made a (Cp h) e b)
theorem RW{r w m:World}{d b g:Nat}{M:DM}{p:List Nat}{q:List (Nat × Nat)}{l k:Value}{o:Nat->Value}{e:TypeId}{c:List Value}(T:Twin r w d b M p q l k o)
 (f:Fr (fun j=>j=d\/j=b\/l.ownBlock=some j\/k.ownBlock=some j) w m)(a:Blk w g c e)(h:e≠168)(i:e≠146):Blk m g c e :=
 a.fr f (fun e=>by
  rcases e with e|e|e|e
  .exact a.ne T.co h e
  .exact a.ne T.cm h e
  .exact zi T.old a i e
  .exact zi T.made a i e)
structure Mv(w0 w w':World)(bo bm nb:Nat)(M:DM)(D S:Dir)(k:Nat)(ps:List (Nat × Nat))(L:DL)(d1 s1:Dir)(c1:List Dir)(d:Dir)(l:Value):Prop where
 ex:∃ ps' vo' vm' fV' d',zS w0 w' bo bm nb M D S k ps' vo' vm' fV' L d1 s1 c1/\(∀ p,p∈ps->p∈ps')/\Rel ps' d d'/\w'.ownsRow 0 148 2 l d'.length (flat d') /\
  (∀ j,l.ownBlock=some j->w0.heap.size<=j)
 Ay:∀ (g:Nat) (c:List Value) (e:TypeId),Blk w g c e->e≠168->e≠146->Blk w' g c e
 row:∀ (v:Value) (n size:Nat) (xs:List Value) (e:TypeId),w.ownsRow 0 e size v n xs->e≠168->e≠146->w'.ownsRow 0 e size v n xs
theorem zS.other{t w E:World}{c b y:Nat}{M:DM}{D S:Dir}{k:Nat}{m:List (Nat × Nat)}{C B l:Value}{J:Nat->Value}{L:DL}{v A d:Dir}{u:List Dir}
 (h:zS t w c b y M D S k m C B J L v A u)(o:Yf t w c b M m C B d d.length l E):Mv t w E c b y M D S k m L v A u d l:=by
 obtain⟨q,s,r,e,I,G,a,_,x,Q,O,_,_⟩:=o.ex;have T:=h.T.fr.size;refine⟨⟨q,s,r,e,I,?_,a,⟨x,Q⟩,by rw[x];exact O,fun j N=>Gc T (o.new j N)⟩,fun _ _ _ K=>RW h.T o.fr K,fun _ _ _ _ _ R=>Wp h.T o.fr R⟩;exact {h with
  T:=G
  Ay:=RW h.T o.fr h.Ay (by decide) (by decide)
  dir:=Wp h.T o.fr h.dir (by decide) (by decide)
  safe:=Wp h.T o.fr h.safe (by decide) (by decide)
  ch:=Wp h.T o.fr h.ch (by decide) (by decide)
  AA:=fun i f g=>Wp h.T o.fr (h.AA i f g) (by decide) (by decide)
  rd:=h.rd.more a
  rs:=h.rs.more a
  rc:=fun i f g=>(h.rc i f g).more a}
theorem zS.yU{r w o:World}{T R A:Nat}{M:DM}{D S Q S':Dir}{k y:Nat}{u:List (Nat × Nat)}{vo Y:Value}{V:Nat->Value}{L b:DL}{d1 s1 d m:Dir}{c1 a:List Dir}
 (h:zS r w T R A M D S k u vo Y V L d1 s1 c1)(f:Fr (fun j=>j=A\/L.yL.ownBlock=some j) w o)
 (E:Blk o A (M.cells b) 143)
 (dir:o.ownsRow 0 148 2 b.yd d.length (flat d))
 (safe:o.ownsRow 0 148 2 b.AQ m.length (flat m))
 (ch:o.ownsRow 0 145 1 b.yL y b.AZ)
 (G:b.AZ.length=y)
 (cl:a.length=y)
 (I:∀ i (q:i<b.AZ.length)(t:i<a.length),o.ownsRow 0 148 2 b.AZ[i] a[i].length (flat a[i]))
 (rd:Rel u Q d)
 (rs:Rel u S' m)
 (rc:∀ i (q:i<a.length)(t:i<M.AA.length),Rel u M.AA[i] a[i])
 (nd:∀ j,b.yd.ownBlock=some j->r.heap.size<=j)
 (ns:∀ j,b.AQ.ownBlock=some j->r.heap.size<=j)
 (nc:∀ j,b.yL.ownBlock=some j->r.heap.size<=j)
 (O:∀ i (q:i<b.AZ.length) j,b.AZ[i].ownBlock=some j->r.heap.size<=j):zS r o T R A M Q S' y u vo Y V b d m a where
 T:=by
  have B:∀ {g:Nat} {c:List Value} {e:TypeId},Blk w g c e->e≠143->e≠145->Blk o g c e:=fun J q t=>J.fr f (fun e=>by
   rcases e with e|e
   .exact J.ne h.Ay q e
   .exact zi h.ch J t e)
  have C:∀ {v:Value} {n size:Nat} {xs:List Value} {e:TypeId},w.ownsRow 0 e size v n xs->e≠143->e≠145->o.ownsRow 0 e size v n xs:=fun N q t=>ze N f (fun k X e=>by
   rcases e with e|e
   .subst e;exact zi N h.Ay (Cp q) X
   .exact Zb h.ch N (Cp t) e X)
  exact {h.T with
   co:=B h.T.co (by decide) (by decide)
   cm:=B h.T.cm (by decide) (by decide)
   old:=C h.T.old (by decide) (by decide)
   made:=C h.T.made (by decide) (by decide)
   files:=fun p K=>B (h.T.files p K) (by decide) (by decide)
   rows:=fun p K=>C (h.T.rows p K) (by decide) (by decide)
   fr:=Fr.trans' h.T.fr f (fun j a0 hj=>by
    rcases hj with e|e
    .have:=h.vB;omega
    .have:=h.nc j e;omega)}
 Ay:=E
 vB:=h.vB
 dir:=dir
 safe:=safe
 ch:=ch
 yI:=G
 cl:=cl
 AA:=I
 rd:=rd
 rs:=rs
 rc:=rc
 nd:=nd
 ns:=ns
 nc:=nc
 vF:=O
theorem zS.lists{q w o:World}{y x c:Nat}{M:DM}{D S t u:Dir}{d:List (Nat × Nat)}{E C l m:Value}{A:Nat->Value}{L:DL}{I T b g:Dir}
 (h:zS q w y x c M D S 0 d E C A L I T [])(f:Fr (fun j=>j=c) w o)(J:Blk o c (M.cells {L with yd:=l,AQ:=m}) 143)
 (a:w.ownsRow 0 148 2 l b.length (flat b))(s:w.ownsRow 0 148 2 m g.length (flat g))(Q:Rel d t b)(R:Rel d u g)
 (N:∀ j,l.ownBlock=some j->q.heap.size<=j)(O:∀ j,m.ownBlock=some j->q.heap.size<=j) :
 zS q o y x c M t u 0 d E C A {L with yd:=l,AQ:=m} b g []:=by
 have r:∀ {v:Value} {n size:Nat} {G:List Value} {e:TypeId},w.ownsRow 0 e size v n G->e≠143->o.ownsRow 0 e size v n G:=fun B a=>ze B f (fun k K e=>by
  subst e;exact zi B h.Ay (Cp a) K)
 refine h.yU (f.mono (fun _ _=>.inl)) J (r a (by decide)) (r s (by decide)) (r h.ch (by decide)) h.yI rfl (fun i a s=>absurd s (Fc _)) Q R (fun i a=>absurd a (Fc _)) N O h.nc h.vF
theorem zS.push{J w B o:World}{N K a:Nat}{M:DM}{D S:Dir}{k:Nat}{E:List (Nat × Nat)}{V T l f:Value}{R:Nat->Value}{L:DL}{O I b:Dir}{d:List Dir}(t:k<M.AA.length)
 (h:zS J w N K a M D S k E V T R L O I d)(Q:Fr Nil w B)(q:App B L.yL 145 1 (k+1) (L.AZ++[l]) f o)
 (Y:w.ownsRow 0 148 2 l b.length (flat b))(hr:Rel E M.AA[k] b)(hn:∀ j,l.ownBlock=some j->J.heap.size<=j) :
 zS J (o.setCell ⟨a,2,none⟩ f) N K a M D S (k+1) E V T R {L with yL:=f,AZ:=L.AZ++[l]} O I (d++[b]):=by
 have c:=h.yb Q;have I:=c.T.fr.size;have r:Blk o a (M.cells L) 143:=c.Ay.fr q.fr (zi c.ch c.Ay (by decide));have y:Fr (fun k=>k=a) o (o.setCell ⟨a,2,none⟩ f):=Fr.set (S:=fun k=>k=a) (p:=⟨a,2,none⟩) (U _ _) (fun _=>rfl) f;have s:Fr (fun k=>k=a\/L.yL.ownBlock=some k) B (o.setCell ⟨a,2,none⟩ f) :=
  (q.fr.mono (fun _ _=>.inr)).trans (y.mono (fun _ _=>.inl))
 have A:∀ {v:Value} {n size:Nat} {X:List Value},B.ownsRow 0 148 size v n X->(o.setCell ⟨a,2,none⟩ f).ownsRow 0 148 size v n X:=fun C=>ze C s (fun k t e=>by
  rcases e with e|e
  .subst e;exact zi C c.Ay (by decide) t
  .exact Zb c.ch C (by decide) e t)
 have x:(L.AZ++[l]).length=k+1:=by simp[h.yI]
 refine c.yU s (r.set 2 f) (A c.dir) (A c.safe) ?_ x (by simp[h.cl]) ?_ h.rd h.rs ?_ h.nd h.ns ?_ ?_
 .exact ze q.own y (fun k t e=>by subst e;exact zi q.own r (by decide) t)
 .intro i i1 i2
  simp only[Ga,Gn,GT] at i1 i2;by_cases e:i<k
  .have g:(L.AZ++[l])[i]=L.AZ[i]'(by rw[h.yI];exact e):=Fs _
   have m:(d++[b])[i]=d[i]'(by rw[h.cl];exact e):=Fs _;simp only[g,m];exact A (c.AA i _ _)
  .have hi:i=k:=by have:=h.yI;omega
   have g:(L.AZ++[l])[i]=l:=by simp[h.yI,hi]
   have m:(d++[b])[i]=b:=by simp[h.cl,hi]
   simp only[g,m];exact A (ze Y Q (fun _ _=>id))
 .intro i i1 i2
  simp only[Ga,Gn,GT] at i1;by_cases e:i<k
  .have m:(d++[b])[i]=d[i]'(by rw[h.cl];exact e):=Fs _
   simp only[m];exact h.rc i _ i2
  .have hi:i=k:=by have:=h.cl;omega
   subst hi;have m:(d++[b])[i]=b:=by simp[h.cl]
   simp only[m];exact hr
 .intro j hj
  rcases q.at_ with e|e
  .exact h.nc j (by rw[<- e];exact hj)
  .rw[e] at hj;simp at hj;omega
 .intro i i1 j hj
  simp only[Ga,Gn,GT] at i1;by_cases e:i<k
  .have g:(L.AZ++[l])[i]=L.AZ[i]'(by rw[h.yI];exact e):=Fs _
   simp only[g] at hj;exact h.vF i _ j hj
  .have hi:i=k:=by have:=h.yI;omega
   have g:(L.AZ++[l])[i]=l:=by simp[h.yI,hi]
   simp only[g] at hj;exact hn j hj
theorem zS.whole{K w:World}{O N J:Nat}{M:DM}{m:List (Nat × Nat)}{X V:Value}{C:Nat->Value}{L:DL}{Q T:Dir}{s:List Dir}
 (h:zS K w O N J M M.dir M.safe M.AA.length m X V C L Q T s)(x:∀ f,f∈M.ids->(M.file f).safe<=(M.file f).bytes.length):Own K w J {L with fV:=C} (M.AR m):=by
 have E:=h.rd.eq h.T.n1;have I:=h.rs.eq h.T.n1;have D:s=M.AA.map (Z7 m):=by
  refine BH (by rw[h.cl];simp) ?_;intro i r Y;rw[GJ];exact(h.rc i r (by rw[<- h.cl];exact r)).eq h.T.n1
 have a:∀ g,g∈m.map Prod.snd->∃ p,p∈m/\p.2=g/\first m g=p.1:=by
  intro g l;obtain⟨p,b,rfl⟩:=Gm.1 l;exact⟨p,b,rfl,VZ h.T.n2 b⟩
 have j:∀ {d B:Dir},Rel m d B->∀ e,e∈B->e.2∈m.map Prod.snd:=fun S e c=>by
  obtain⟨p,b,A⟩:=S.mem e c;exact Gm.2 ⟨p,b,A⟩
 refine⟨?_,h.T.fr,?_⟩
 .exact {
   Ay:=h.Ay
   dir:=by
    have:=h.dir;rw[E] at this;exact this
   safe:=by
    have:=h.safe;rw[I] at this;exact this
   ch:=by
    have e:(M.AR m).AA.length=M.AA.length:=by simp[DM.AR]
    rw[e];exact h.ch
   yI:=by simp[DM.AR,h.yI]
   AA:=by
    have:=h.AA;rw[D] at this;exact this
   files:=fun g l=>by
    obtain⟨p,b,rfl,c⟩:=a g l;have:=h.T.files p b;simp only[DM.AR,c];exact this
   rows:=fun g l=>by
    obtain⟨p,b,rfl,c⟩:=a g l;have:=h.T.rows p b;simp only[DM.AR,c];exact this
   sep:=fun f u g l y k v=>by
    obtain⟨p,b,rfl,_⟩:=a f u;obtain⟨q,R,rfl,_⟩:=a g l;exact h.T.sep p b q R y k v
   le:=fun g l=>by
    obtain⟨p,b,rfl,c⟩:=a g l;simp only[DM.AR,c];exact x _ (h.T.ids _ (GZ b))
   yt:=fun e c=>j h.rd e (by rw[E];exact c)
   xi:=fun e c=>j h.rs e (by rw[I];exact c)
   xj:=fun d t e c=>by
    have o:d∈s:=by rw[D];exact t
    obtain⟨i,G,rfl⟩:=GE.1 o;exact j (h.rc i G (by rw[<- h.cl];exact G)) e c}
 .intro k v
  cases v using Foot.elim with
  | blk=>exact h.vB
  | dir e=>exact h.nd k e
  | safe e=>exact h.ns k e
  | ch e=>exact h.nc k e
  | chs i r e=>exact h.vF i r k e
  | file e =>
   obtain⟨p,b,rfl⟩:=Gm.1 e;exact h.T.nf p b
  | row f u e =>
   obtain⟨p,b,rfl,_⟩:=a f u;exact h.T.nr p b k e
def PS(w:World)(M:DM)(e:Ending)(f:World):Prop :=
 ∃ b c a,e=.returned (.pointer (some ⟨b,0,none⟩))/\Own w f b c (M.AR a)/\(a.map Prod.fst).Nodup/\(a.map Prod.snd).Nodup/\(∀ p,p∈a->p.1∈M.ids/\w.heap.size<=p.2) /\
  (∀ e,e∈M.dir\/e∈M.safe\/(∃ d,d∈M.AA/\e∈d)->∃ g,(e.2,g)∈a)
theorem Rel.vP{c:List (Nat × Nat)}{d a:Dir}(h:Rel c d a):∀ e,e∈d->∃ g,(e.2,g)∈c:=by
 intro e j;obtain⟨i,b,rfl⟩:=GE.1 j;have f:i<a.length:=by rw[h.len];exact b
 exact⟨_,(h.at_ i b f).2⟩
theorem zS.said{k w:World}{m l c:Nat}{M:DM}{j:List (Nat × Nat)}{v u:Value}{r:Nat->Value}{L:DL}{q t:Dir}{o:List Dir}
 (h:zS k w m l c M M.dir M.safe M.AA.length j v u r L q t o)(b:∀ f,f∈M.ids->(M.file f).safe<=(M.file f).bytes.length):PS k M (.returned (.pointer (some ⟨c,0,none⟩))) w:=by
 refine⟨c,_,j,rfl,h.whole b,h.T.n1,h.T.n2,fun p g=>⟨h.T.ids _ (GZ g),h.T.nf p g⟩,?_⟩;intro e a;rcases a with a|a|⟨d,s,a⟩
 .exact h.rd.vP e a
 .exact h.rs.vP e a
 .obtain⟨i,hi,rfl⟩:=GE.1 s
  exact(h.rc i (by rw[h.cl];exact hi) hi).vP e a
theorem Twin.start{w W:World}{d c:Nat}(M:DM)(j:Blk W d [.slice none 0 0] 168)(l:Blk W c [.slice none 0 0] 168)(e:d≠c)(h:w.heap.size<=d)(g:w.heap.size<=c)(f:Fr Nil w W)(i:Nat->Value) :
 Twin w W d c M [] [] (.slice none 0 0) (.slice none 0 0) i where
 co:=j
 cm:=l
 ne:=e
 old:=GK W 0 _ _
 made:=GK W 0 _ _
 xF:=fun k b=>by simp[Value.ownBlock] at b
 files:=fun p a=>by cases a
 rows:=fun p a=>by cases a
 sep:=fun p a=>by cases a
 n1:=Dd
 n2:=Dd
 ids:=fun f m=>by cases m
 nbo:=h
 nbm:=g
 no:=fun k b=>by simp[Value.ownBlock] at b
 nm:=fun k b=>by simp[Value.ownBlock] at b
 nf:=fun p a=>by cases a
 nr:=fun p a=>by cases a
 fr:=f
theorem zS.start{w W:World}{f e c:Nat}(M:DM)(T:Twin w W f e M [] [] (.slice none 0 0) (.slice none 0 0) DL.new.fV)(g:Blk W c (M.cells DL.new) 143)(d:w.heap.size<=c) :
 zS w W f e c M [] [] 0 [] (.slice none 0 0) (.slice none 0 0) DL.new.fV DL.new [] [] [] where
 T:=T
 Ay:=g
 vB:=d
 dir:=GK W 0 _ _
 safe:=GK W 0 _ _
 ch:=GK W 0 _ _
 yI:=rfl
 cl:=rfl
 AA:=fun i a=>absurd a (Fc _)
 rd:=⟨rfl,fun i a=>absurd a (Fc _)⟩
 rs:=⟨rfl,fun i a=>absurd a (Fc _)⟩
 rc:=fun i a=>absurd a (Fc _)
 nd:=fun j b=>by simp[DL.new,Value.ownBlock] at b
 ns:=fun j b=>by simp[DL.new,Value.ownBlock] at b
 nc:=fun j b=>by simp[DL.new,Value.ownBlock] at b
 vF:=fun i a=>absurd a (Fc _)
end Go.Proofs.YtkhnggkkiefcdaaGreatDoor
