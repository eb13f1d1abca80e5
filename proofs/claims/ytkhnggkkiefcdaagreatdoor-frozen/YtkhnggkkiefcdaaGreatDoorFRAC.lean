/- larder: joined texts -/
import Derived.Test.YtkhnggkkiefcdaaGreatDoorFRAA
import Derived.Test.YtkhnggkkiefcdaaGreatDoorFRAB
import Derived.Laws.CopyRow
import Derived.Lib.AppendZerosOnto
import Derived.Lib.Overlaps
import Derived.Laws.Externs
import Derived.Deep.RegionLaw
import Derived.Test.YtkhnggkkiefcdaaGreatDoorChecked
import Derived.RangeFuncNested
import Derived.RangeFuncBound
import Derived.RangeFuncCalls
import Derived.RangeFuncLeaves
import Derived.Shelf.Abstract
import Derived.Shelf.RegionOpen
import Derived.WalkKit
import Derived.OwnWalkIn
import Derived.TacticsInMore
import Derived.LoopNIn
import Derived.LoopIn
import Derived.RangeFuncFrom
namespace Go.Proofs.YtkhnggkkiefcdaaGreatDoor
open Go.RowKit
set_option maxRecDepth 100000
set_option maxHeartbeats 8000000
abbrev Kv:=@Go.World.putObj_heap_other
def zS(l:List (ByteArray × Value)):List Value:=l.flatMap fun e=>[.string e.1,e.2]
theorem ZP(d:List (ByteArray × Value)):(zS d).length=d.length*2:=by
 induction d with
 | nil=>rfl
 | cons e d a=>simp only[zS,LF,NQ,Mh,ME] at a |-;omega
theorem Zu(d:List (ByteArray × Value)):∀ (k:Nat)(h:k<d.length),(zS d)[k*2]?=some (.string d[k].1)/\(zS d)[k*2+1]?=some d[k].2:=by
 induction d with
 | nil=>intro k h;simp at h
 | cons e d b =>
  intro k h;cases k with
  | zero=>exact⟨rfl,rfl⟩
  | succ k =>
   have:=b k (by simpa using h);have a:(k+1)*2=k*2+2:=by omega
   simp only[zS,LF,a] at this |-;exact this
theorem zW:Strict zb where
 FO a:=by simp[zb,Yp,List.lt_irrefl]
 trans a b c h1 h2:=by
  simp only[zb,Yp,Ms] at *;exact List.lt_trans h1 h2
 Ee a b h1 h2:=by
  simp only[zb,Yp,Ms,LV] at *;rcases List.le_iff_lt_or_eq.1 (List.not_lt.1 h1) with h|h
  .exact h
  .exact absurd (YY h).symm h2
theorem TZ{a b:ByteArray}:Ya a b<0↔zb a b=true:=by
 unfold Ya;split
 .rename_i h;simp[h]
 .rename_i h
  split <;> simp[h]
theorem Pg{a b:ByteArray}:Ya a b=0↔(a==b)=true:=by
 unfold Ya;have c:=KW a b;split
 .rename_i h
  constructor
  .intro h';omega
  .intro h'
   have:a=b:=zJ.1 h';subst this;rw[zW.FO] at h;cases h
 .split
  .rename_i h;rw[c];simp[h]
  .rename_i h;rw[c];simp[h]
theorem UT(v:Value)(l:List (ByteArray × Value))(s:ByteArray)(w:World)(h:w.ownsRow 0 239 2 v l.length (zS l))(I:Asc zb (l.map Prod.fst))(a0:l.length<4611686018427387904) :
 Calls Tryz.prog 199 #[v,.string s,.func (.func 200) #[] #[]] w fun e F =>
  e=.returned (.tuple #[.int .i64 (low zb (l.map Prod.fst) s),.bool (zD zb (l.map Prod.fst) s)])/\Fr Nil w F:=by
 have Y:=zu h;unfold maxLen at Y;obtain⟨a,t,rfl⟩:=zd h;go_enter Tryz.func199,Tryz.ntmps199
 go_wp2
 go_loopw [9,10] (fun D E F=>∃ i j:Nat,i<=j/\j<=l.length/\D=.int .i64 i/\E=.int .i64 j/\(∀ k (d:k<l.length),k<i->zb l[k].1 s=true)/\(∀ k (d:k<l.length),j<=k->zb l[k].1 s=false)/\Fr Nil w F) (fun D E _=>(intOf E).toNat-(intOf D).toNat)
 case atStart=>exact⟨0,l.length,Me _,NS _,rfl,rfl,fun k _ d=>absurd d (MA _),fun k d V=>absurd d (by omega),O _ _⟩
 case round =>
  obtain⟨i,j,T,G,rfl,rfl,c,u,p⟩:=hrel;by_cases X:i<j
  .obtain⟨g,rfl⟩:∃ g,a=some ⟨g,0,none⟩:=by
    rcases h.2 with⟨c,M⟩|⟨g,t,z,c,_⟩
    .omega
    .simp at c;exact⟨g,c.1⟩
   have C:(i+j) / 2<l.length:=by omega
   have S:=own_cell? (za h p (fun _ _=>id)) ((i+j) / 2*2) _ (Zu l _ C).1;have A:=own_cell? (za h p (fun _ _=>id)) ((i+j) / 2*2+1) _ (Zu l _ C).2;have K:=Z c;have L:=Z u;clear c u;have N:(i:Int)<=4611686018427387903:=by omega
   have Q:(j:Int)<=4611686018427387903:=by omega
   have R:(i:Int)+j<=9223372036854775807:=by omega
   have hq:(((i:Int)+j) / 2).toNat=(i+j) / 2:=by omega
   cases hl:zb l[(i+j) / 2].1 s with
   | true =>
    have r:=Z hl;have B:Ya l[(i+j) / 2].1 s<0:=TZ.2 hl;clear hl
    go_wp2_with (go_at_call 200;refine(YR _ _ _ _).mono ?_;rintro e J ⟨rfl,m⟩)
    refine⟨⟨(i+j) / 2+1,j,by omega,G,by go_num,rfl,fun k d q=>?_,L.out,p.trans m⟩,by simp[intOf];omega⟩;by_cases e:k=(i+j) / 2
    .subst e;exact r.out
    .exact zW.trans _ _ _ (I.fst (i:=k) (j:=(i+j) / 2) (by omega) C) r.out
   | false =>
    have r:=Z hl;have B:¬Ya l[(i+j) / 2].1 s<0:=by rw[TZ];simp[hl]
    clear hl
    go_wp2_with (go_at_call 200;refine(YR _ _ _ _).mono ?_;rintro e J ⟨rfl,m⟩)
    refine⟨⟨i,(i+j) / 2,by omega,by omega,rfl,by go_num,K.out,fun k d q=>?_,p.trans m⟩,by simp[intOf];omega⟩;by_cases e:k=(i+j) / 2
    .subst e;exact r.out
    .cases hk2:zb l[k].1 s with
     | false=>rfl
     | true =>
      have:=zW.trans _ _ _ (I.fst (i:=(i+j) / 2) (j:=k) (by omega) d) hk2;rw[r.out] at this;cases this
  .have he:i=j:=by omega
   subst he;have b:low zb (l.map Prod.fst) s=i:=TW zb s _ i (by simpa using G) (fun k d q=>by simpa using c k (by simpa using d) q) (fun d=>by simpa using u i (by simpa using d) (NS _));by_cases o:i<l.length
   .obtain⟨g,rfl⟩:∃ g,a=some ⟨g,0,none⟩:=by
     rcases h.2 with⟨c,M⟩|⟨g,t,z,c,_⟩
     .omega
     .simp at c;exact⟨g,c.1⟩
    have S:=own_cell? (za h p (fun _ _=>id)) (i*2) _ (Zu l _ o).1;have A:=own_cell? (za h p (fun _ _=>id)) (i*2+1) _ (Zu l _ o).2;have f:zD zb (l.map Prod.fst) s=(Ya l[i].1 s==0):=by
     rw[Yx o b,Bool.eq_iff_iff,<- Pg];simp
    have y:=Z b;have x:=Z f;clear c u b f
    go_wp2_with (go_at_call 200;refine(YR _ _ _ _).mono ?_;rintro e J ⟨rfl,m⟩)
    go_ret2;rw[y.out,x.out];exact⟨rfl,p.trans m⟩
   .have f:zD zb (l.map Prod.fst) s=false:=XK (by rw[b];simpa using o)
    have y:=Z b;have x:=Z f;clear c u b f
    go_wp2
    go_ret2;rw[y.out,x.out];exact⟨rfl,p⟩
theorem Blk.setRow{w:World}{g:Nat}{c:List Value}{t:TypeId}(h:Blk w g c t)(a:List Value):Blk (w.setRow g a.toArray) g a t :=
 setRow_heap w g _ _ t _ h
theorem Blk.shape{w:World}{b:Nat}{c:List Value}{t:TypeId}(h:Blk w b c t):w.shape? b=some (t,c.length):=by
 rw[Blk] at h;simp[World.shape?,h]
theorem Fr.setRow{S:Nat->Prop}{a w:World}(h:Fr S a w){g:Nat}(f:g<a.heap.size->S g)(c:Array Value):Fr S a (w.setRow g c) :=
 ⟨h.os,h.tape,h.output,by simpa using h.size,fun k b d=>by
  rw[Jd w g k _ (fun e=>d (by subst e;exact f b))];exact h.block k b d⟩
theorem ZQ{w:World}{e:TypeId}{size g n cap:Nat}{c f:List Value}(h:Blk w g c e)(b:n<=cap)(i:cap<=maxLen)(a:c.length=cap*size)(d:c.take (n*size)=f) :
 w.ownsRow 0 e size (.slice (some ⟨g,0,none⟩) n cap) n f:=by
 refine⟨?_,.inr ⟨g,cap,c.toArray,rfl,Me _,h,b,i,by simpa using a,by simpa using d⟩⟩;rw[<- d,NT,a,MU (Mu _ b)]
theorem ZK{w:World}{e:TypeId}{size n:Nat}{v:Value}{i:List Value}(h:w.ownsRow 0 e size v n i) :
 (v=.slice none 0 0/\n=0/\i=[])\/∃ g a c,v=.slice (some ⟨g,0,none⟩) n a/\Blk w g c e/\n<=a/\a<=maxLen/\c.length=a*size/\c.take (n*size)=i:=by
 rcases h.2 with⟨f,b⟩|⟨g,a,d,f,_,m,b,j,k,l⟩
 .refine .inl ⟨f,b,?_⟩
  have:=h.1;rw[b,Nat.zero_mul] at this;exact Mi this
 .exact .inr ⟨g,a,d.toList,f,by rw[Blk];simpa using m,b,j,by simpa using k,l⟩
def Y5(k i:Nat)(a b:List Value):List Value:=a.take (i*k)++b++a.drop (i*k)
def Zv(k i:Nat)(a:List Value):List Value:=a.take (i*k)++a.drop ((i+1)*k)
section
variable {P:Program} {w:World}
theorem WB(t e ty:TypeId)(size:Nat)(z:P.underlying t=some (.slice e))(p:(P.info? e).map (·.size)=some size)
 (g n m f q:Nat)(a:Addr)(c b:List Value)(x:Blk w g c e)(d:n+m<=f)(s:c.length=f*size)(o:b.length=m*size)
 (h:∀ j v,b[j]?=some v->w.cell? (a.add j)=some v)(r:∀ v∈b,v.oneCell'=true) :
 (Builtin.append_ #[t,t] ty #[.slice (some ⟨g,0,none⟩) n f,.slice (some a) m q]).run P w =
   .ok (.slice (some ⟨g,0,none⟩) (n+m) f) (w.setRow g (c.take (n*size)++b++c.drop (n*size+b.length)).toArray):=by
 have u:=KU (P:=P) w size m a m q b o h;have l:n*size+b.length<=c.length:=by rw[o,s,<- LQ];exact Mu _ d
 have k:=Jb P g (n*size) e b 0 c.toArray w x (by simpa using l) r;simp only[Jc] at k;cases hq:P.info? e with
 | none=>simp[hq] at p
 | some i =>
  have y:i.size=size:=by simpa [hq] using p
  simp[Builtin.append_,run_underlying z,sizeOf,typeInfo,hq,y,Builtin.lenOf,d,u,Addr.add_lit,k]
theorem Zw(t e ty:TypeId)(size:Nat)(B:P.underlying t=some (.slice e))(s:(P.info? e).map (·.size)=some size)
 (g o b h:Nat)(a:Addr)(d m:Nat)(c f:List Value)(u:TypeId)(y:Blk w g c u)(A:f.length=Nat.min d b*size)
 (l:∀ j v,f[j]?=some v->w.cell? (a.add j)=some v)(k:o+f.length<=c.length)(x:∀ v∈f,v.oneCell'=true) :
 (Builtin.copy_ #[t,t] ty #[.slice (some ⟨g,o,none⟩) b h,.slice (some a) d m]).run P w =
   .ok (goInt (Nat.min d b)) (w.setRow g (c.take o++f++c.drop (o+f.length)).toArray):=by
 have r:=run_loadCells_list (P:=P) w a f l;have q:=Jb P g o u f 0 c.toArray w y (by simpa using k) x;cases hq:P.info? e with
 | none=>simp[hq] at s
 | some i =>
  have z:i.size=size:=by simpa [hq] using s
  rw[A] at r;simp[Builtin.copy_,run_underlying B,Builtin.lenOf,Builtin.firstCells,sizeOf,typeInfo,hq,z,r,q]
theorem UU(z:Array Value)(n:Nat)(h:∀ u∈z.toList,u.oneCell'=true):∀ u∈(Builtin.zeroCells z n).toList,u.oneCell'=true:=by
 intro u c;simp only[Builtin.zeroCells,Array.toList_map,Mt,Array.mem_toList_iff,Array.mem_range] at c;obtain⟨i,d,rfl⟩:=c;have e:0<z.size:=by
  rcases Kf z.size with a|a
  .rw[a,Nat.mul_zero] at d;omega
  .exact a
 have b:=Jk i e;rw[getElem!_pos z _ b];exact h _ (by simp)
theorem VE(t e ty:TypeId)(i:TypeInfo)(z:Value)(size:Nat)(l:P.underlying t=some (.slice e))(q:P.info? e=some i)(v:i.zero=some z)(d:z.cells.size=size)(f:∀ u∈z.cells.toList,u.oneCell'=true)
 (g o n m:Nat)(c:List Value)(h:TypeId)(k:Blk w g c h)(a:o+n*size<=c.length) :
 ∃ j:List Value,j.length=n*size/\(Builtin.clear_ #[t] ty #[.slice (some ⟨g,o,none⟩) n m]).run P w=.ok (.tuple #[]) (w.setRow g (c.take o++j++c.drop (o+j.length)).toArray):=by
 refine⟨(Builtin.zeroCells z.cells n).toList,by simp[Builtin.zeroCells,d],?_⟩;cases n with
 | zero =>
  have p:(Builtin.zeroCells z.cells 0).toList=[]:=by simp[Builtin.zeroCells]
  have s:=setRow_self w g c.toArray h (0,0) k;simp[Builtin.clear_,run_underlying l,p,s]
 | succ n =>
  have r:(Builtin.zeroCells z.cells (n+1)).toList.length=(n+1)*size:=by simp[Builtin.zeroCells,d]
  have b:=Jb P g o h (Builtin.zeroCells z.cells (n+1)).toList 0 c.toArray w k (by rw[r];simpa using a) (UU _ _ f);simp only[Jc] at b;simp[Builtin.clear_,run_underlying l,zeroValue,typeInfo,q,v,b]
theorem Yq{c:Array Oper}{b:List Oper}{o:Oper}{a:Act}{Q:Exit->Act->World->Prop}(e:o.guard=none)(d s:Operand)(t f:TypeId)
 (l:o.op=.call {callee:=.builtin .copy,args:=#[d,s],argTypes:=#[t,f]})(v u:Value)(k:a.eval d=v)(p:a.eval s=u){g:Value}{i:World}
 (m:(Builtin.copy_ #[t,f] o.type #[v,u]).run P w=.ok g i)(h:wpList P c Q b (a.put o.dst g) i):wpList P c Q (o::b) a w:=by
 refine wpList_plain e fun K j=>?_;unfold Oper.wp execOp;simp only[l,resolve,invoke,builtin,Kz,Ja,KE,KQ,Mf,LC,k,p,m];exact j _ _ h
theorem Yr{b:Array Oper}{o:Oper}{a:Act}{K:Act->World->Prop}{Q:Exit->Act->World->Prop}{E:Prop}
 (k:o.guard=none)(d x:Operand)(e f:TypeId)(c:o.op=Op.call {callee:=Callee.builtin Builtin.copy,args:=#[d,x],argTypes:=#[e,f]})
 (v u:Value)(j:a.eval d=v)(q:a.eval x=u){g:Value}{h:World}(l:(Builtin.copy_ #[e,f] o.type #[v,u]).run P w=.ok g h)(i:K (a.put o.dst g) h) :
 if Region.wanted o (yielded b a.tmps)=true then Oper.wp P o a w K Q else E:=by
 have m:Region.wanted o (yielded b a.tmps)=true:=by simp[Region.wanted,k]
 rw[Mg m];unfold Oper.wp execOp;simp only[c,resolve,invoke,builtin,Kz,Ja,KE,KQ,Mf,LC,j,q,l];exact i
theorem Uu{b:Array Oper}{o:Oper}{a:Act}{K:Act->World->Prop}{Q:Exit->Act->World->Prop}{E:Prop}
 (k:o.guard=none)(d x:Operand)(e f:TypeId)(c:o.op=Op.call {callee:=Callee.builtin Builtin.append,args:=#[d,x],argTypes:=#[e,f]})
 (v u:Value)(j:a.eval d=v)(p:a.eval x=u){g:Value}{h:World}(l:(Builtin.append_ #[e,f] o.type #[v,u]).run P w=.ok g h)(i:K (a.put o.dst g) h) :
 if Region.wanted o (yielded b a.tmps)=true then Oper.wp P o a w K Q else E:=by
 have m:Region.wanted o (yielded b a.tmps)=true:=by simp[Region.wanted,k]
 rw[Mg m];unfold Oper.wp execOp;simp only[c,resolve,invoke,builtin,Kz,Ja,KE,KQ,Mf,LC,j,p,l];exact i
end
theorem Ph:((Tryz.prog.info? 239).map fun i=>(i.zero.map (·.cells.size),i.size,i.bytes))=some (some 2,2,40):=by kernel_rfl
def Vn(w:World)(c:Option Nat)(n i:Nat)(h f:List Value)(e:Ending)(d:World):Prop :=
 ∃ g a,e=.returned (.slice (some ⟨g,0,none⟩) (n+1) a)/\d.ownsRow 0 239 2 (.slice (some ⟨g,0,none⟩) (n+1) a) (n+1) (Y5 2 i h f)/\Fr (fun b=>c=some b) w d/\(c=some g\/w.heap.size<=g)
theorem Rs(v:Value)(n:Nat)(d f:List Value)(r:Nat)(w:World)(b:w.ownsRow 0 239 2 v n d)(t:f.length=2)(s:∀ u∈f,u.oneCell'=true)(E:Blk w r f 239)(p:(n+1)*40<=140737488355328) :
 Calls Tryz.prog 295 #[v,.int .i64 n,.slice (some ⟨r,0,none⟩) 1 1] w fun e c=>Vn w v.ownBlock n n d f e c:=by
 have q:∀ ty,∃ m c,(Builtin.append_ #[157,157] ty #[v,.slice (some ⟨r,0,none⟩) 1 1]).run Tryz.prog w=.ok m c/\App w v 239 2 (n+1) (d++f) m c:=fun ty =>
  zn (P:=Tryz.prog) 157 ty 239 2 40 Lq Ph (by omega) v n d b ⟨r,0,none⟩ 1 1 f (by rw[t]) (fun j u D=>by rw[MK,MD];rw[E.cell];exact D) s (by unfold maxLen;omega) p
 have k:∀ m c,App w v 239 2 (n+1) (d++f) m c->Vn w v.ownBlock n n d f (.returned m) c:=by
  rintro m c ⟨y,B,o⟩;obtain⟨g,l,rfl,_,_⟩:=y.form (by omega);refine⟨g,l,rfl,?_,(Fr.Ho B).mono (fun i _ h=>h),?_⟩
  .have e1:d.take (n*2)=d:=Mj (by rw[b.1];exact NS _)
   have z:d.drop (n*2)=[]:=Lu (by rw[b.1];exact NS _);unfold Y5;rw[e1,z,MB];exact y
  .rcases o with o|o
   .left;rw[<- o];rfl
   .right;have:g=w.heap.size:=by simpa [Value.ownBlock] using o
    omega
 have C:=zu b;unfold maxLen at C;obtain⟨a,l,rfl⟩:=zd b;have x:=Z k;clear k b;generalize (Value.slice a n l).ownBlock=F at x |-;go_enter Tryz.func295,Tryz.ntmps295
 go_wp2_with (at_builtin;go_must (refine zL rfl _ _ _ _ rfl _ _ (by rfl) (by rfl) (q _) ?_);rintro m c A)
 all_goals
  go_ret;exact x.out _ _ A
theorem Pi(w:World)(k m l i h f:Nat)(a g:Nat)(j c:List Value)(d:Blk w a j 239)(p:Blk w g c 239)(b:a≠g)(o:c.length≠0) :
 (callFunc 297 #[.slice (some ⟨a,k,none⟩) m l,.slice (some ⟨g,i,none⟩) h f]).run Tryz.prog w=.ok (.value (.bool false)) w:=by
 rw[MM Tryz.func297 (by kernel_rfl) (by kernel_rfl) (by kernel_rfl) (e:=Extern.SlicesOverlaps.overlaps #[157,157] #[4]) (by kernel_rfl),
  Lib.run_overlaps_apart w 157 4 239 Lq 2 Tryz.sizeOf239 ⟨a,k,none⟩ ⟨g,i,none⟩ m l h f b 239 239 j.length c.length d.shape p.shape o (d.frozen _) (d.frozen _)]
 rfl
theorem UV(g n d i:Nat)(c l k:List Value)(z:Nat)(w:World)(J:Blk w g c 239)(h:c.length=d*2)(M:c.take (n*2)=l)(V:∀ u∈l,u.oneCell'=true)(hi:i<n)(a:n+1<=d)(F:d<=maxLen)
 (r:k.length=2)(I:∀ u∈k,u.oneCell'=true)(Q:Blk w z k 239)(K:z≠g) :
 Calls Tryz.prog 295 #[.slice (some ⟨g,0,none⟩) n d,.int .i64 i,.slice (some ⟨z,0,none⟩) 1 1] w fun e w'=>Vn w (some g) n i l k e w':=by
 have N:=fun va vl vc bo bl bc=>Pi w va vl vc bo bl bc z g k c Q J K (by omega);have v:l.length=n*2:=by rw[<- M,NT,h];exact MU (Mu _ (by omega))
 have q:(l.drop (i*2)).length=(n-i)*2:=by rw[Mn,v,Ix]
 have G:∀ j u,(l.drop (i*2))[j]?=some u->c[i*2+j]?=some u:=by
  intro j u s;rw[LN] at s;have a0:=(Md.1 s).1;rw[<- M,MS (by omega)] at s;exact s
 have p:∀ ty A R,(Builtin.copy_ #[157,157] ty #[.slice (some ⟨g,(i+1)*2,none⟩) (n-i) A,.slice (some ⟨g,i*2,none⟩) (n+1-i) R]).run Tryz.prog w.drew=_:=fun ty A R =>
  Zw 157 239 ty 2 Lq (by kernel_rfl) g ((i+1)*2) (n-i) A ⟨g,i*2,none⟩ (n+1-i) R c (l.drop (i*2)) 239 J
   (by rw[q];congr 1;simp only[KN];split <;> omega) (fun j u s=>by rw[MK,show w.drew.cell? ⟨g,i*2+j,none⟩=c[i*2+j]? from J.drew.cell _];exact G j u s)
   (by rw[q,h];have:=Mu 2 a;have e:(i+1)*2+(n-i)*2=(n+1)*2:=(by rw[<- LQ];congr 1;omega);omega)
   (fun u s=>V u (MO s))
 obtain⟨f,m⟩:∃ f,f=c.take ((i+1)*2)++l.drop (i*2)++c.drop ((i+1)*2+(l.drop (i*2)).length):=⟨_,rfl⟩;rw[<- m] at p;have t:Blk (w.drew.setRow g f.toArray) g f 239:=J.drew.setRow f;have C:Blk (w.drew.setRow g f.toArray) z k 239:=Q.drew.of_heap (Jd _ g z _ K);have o:f.length=d*2:=by
  have:=Mu 2 a;have e:(i+1)*2+(n-i)*2=(n+1)*2:=by rw[<- LQ];congr 1;omega
  rw[m];simp only[NQ,NT,Mn,v,h];omega
 have B:Fr (fun b=>some g=some b) w (w.drew.setRow g f.toArray):=Fr.setRow (S:=fun b=>some g=some b) ((O _ w).drew) (fun _=>rfl) _;obtain⟨L,D⟩:∃ L,L=w.drew.setRow g f.toArray:=⟨_,rfl⟩;rw[<- D] at p t C B;clear D;have x:∀ ty A,(Builtin.copy_ #[157,157] ty #[.slice (some ⟨g,i*2,none⟩) (n+1-i) A,.slice (some ⟨z,0,none⟩) 1 1]).run Tryz.prog L=_:=fun ty A =>
  Zw 157 239 ty 2 Lq (by kernel_rfl) g (i*2) (n+1-i) A ⟨z,0,none⟩ 1 1 f k 239 t
   (by rw[r];have:Nat.min 1 (n+1-i)=1:=(by simp only[KN];split <;> omega);rw[this]) (fun j u s=>by rw[MK,MD,C.cell];exact s)
   (by rw[r,o];have:=Mu 2 a;have e:i*2+2=(i+1)*2:=(by rw[LQ,Iy]);have:=Mu 2 (show i+1<=n+1 by omega);omega)
   I
 have y:Vn w (some g) n i l k (.returned (.slice (some ⟨g,0,none⟩) (n+1) d)) (L.setRow g (f.take (i*2)++k++f.drop (i*2+k.length)).toArray):=by
  have e0:=Mu 2 a;have e1:i*2+2=(i+1)*2:=by rw[LQ,Iy]
  have e2:(i+1)*2+(n-i)*2=(n+1)*2:=by rw[<- LQ];congr 1;omega
  have e3:=Mu 2 (show i<=n by omega);refine⟨g,d,rfl,ZQ (t.setRow _) a F ?_ ?_,Fr.setRow (S:=fun b=>some g=some b) B (fun _=>rfl) _,.inl rfl⟩
  .rw[NQ,NQ,NT,Mn,r,o]
   omega
  .unfold Y5
   have X:f.take (i*2)=l.take (i*2):=by
    rw[m,<- M,MF (by rw[NQ,NT,h];omega),MF (by rw[NT,h];omega),Kg,Kg]
    congr 1
    omega
   have Y:f.drop (i*2+k.length)=l.drop (i*2)++c.drop ((n+1)*2):=by
    have e4:(c.take ((i+1)*2)).length=i*2+k.length:=by rw[NT,h];omega
    rw[m,Mm,<- e4,Jf,q,e2]
   rw[X,Y,<- Mm,MY (by rw[NQ,NQ,q,r,NT,v];omega)]
 obtain⟨T,E⟩:∃ T,T=f.take (i*2)++k++f.drop (i*2+k.length):=⟨_,rfl⟩;rw[<- E] at x y;clear t C B o G J Q q v V I m E M r h;unfold maxLen at F;have a3:¬(i:Int)=(n:Int):=by omega
 have a4:¬(d:Int)<(n:Int)+1:=by omega
 have a5:¬d=i:=by omega
 have a6:¬d=i+1:=by omega
 have a7:IntKind.i64.wrap ((i:Int)+1)=(i:Int)+1:=by rw[MC];omega
 have a8:(0:Int)<=(i:Int)+1:=by omega
 have a9:((i:Int)+1).toNat=i+1:=by omega
 have b0:(i:Int)<=(n:Int)+1:=by omega
 have b1:(i:Int)<=(n:Int):=by omega
 go_enter Tryz.func295,Tryz.ntmps295
 go_wp2_with (simp only[N])
 go_region_law (refine Yr rfl _ _ 157 157 rfl _ _ (by simp[Act.eval,Act.put]) (by simp[Act.eval,Act.put]) (p _ _ _) ?_)
 go_wp2_with (at_builtin;go_must (refine Yq rfl _ _ 157 157 rfl _ _ (by rfl) (by rfl) (x _ _) ?_))
 go_ret;exact y
theorem S3(g n i:Nat)(b m:List Value)(vb:Nat)(w:World)(hg:Blk w g b 239)(f:b.length=n*2)(h1:∀ u∈b,u.oneCell'=true)(hi:i<n)
 (q:m.length=2)(a0:∀ u∈m,u.oneCell'=true)(hv:Blk w vb m 239)(Y:(n+1)*40<=140737488355328) :
 Calls Tryz.prog 295 #[.slice (some ⟨g,0,none⟩) n n,.int .i64 i,.slice (some ⟨vb,0,none⟩) 1 1] w fun e w'=>Vn w (some g) n i b m e w':=by
 obtain⟨i0,z,a4,a6,S,J,a7⟩:=Zr Ph;have s:i+(n+1-i)=n+1:=by omega
 have a:∀ ty,(Builtin.append_ #[157,3] ty #[.slice (some ⟨g,0,none⟩) i n,.int .i64 ((n+1-i:Nat):Int)]).run Tryz.prog w=_:=fun ty =>
  Lib.run_append_grow_zeros (P:=Tryz.prog) w 157 3 ty 239 i0 z .i64 .i64 Lq Kd a4 a6 (some ⟨g,0,none⟩) i n (b.take (i*2))
   (by rw[S];exact KU (P:=Tryz.prog) w.drew 2 i ⟨g,0,none⟩ i n (b.take (i*2)) (by rw[NT,f];omega) (fun j u t=>by
     have a8:=(Md.1 t).1;rw[MK,MD,hg.drew.cell];rw[NT] at a8;rw[MS (by omega)] at t;exact t))
   (n+1-i) (by omega) (by rw[S];omega) (by omega) (by omega) (by rw[J];omega) (Iw (by omega) (by rw[J,s];exact Y))
 rw[s] at a;have a2:=grownCap_ge w (n+1) n 239;have K:=JE w (n+1) n 239 (by unfold maxLen;omega);generalize grownCap w (n+1) n 239=c at a a2 K;obtain⟨d,v⟩:∃ d:List Value,d=b.take (i*2)++(Builtin.zeroCells z.cells (n+1-i)).toList++(Builtin.zeroCells z.cells (c-(n+1))).toList:=⟨_,rfl⟩;have C:(b.take (i*2)).toArray++Builtin.zeroCells z.cells (n+1-i)++Builtin.zeroCells z.cells (c-(n+1))=d.toArray:=by rw[v];apply KY;simp
 rw[C] at a;have o:d.length=c*2:=by
  rw[v];simp only[NQ,NT,LJ,Iv,a7,f];omega
 have D:d.take (i*2)=b.take (i*2):=by
  have e:(b.take (i*2)).length=i*2:=by rw[NT,f];omega
  rw[v,Mm];exact MY e
 have a3:=hg.lt;have a5:=hv.lt;have r:Blk (w.drew.alloc (.cells d.toArray 239)) w.heap.size d 239:=Blk.new w.drew d _;have T:Blk (w.drew.alloc (.cells d.toArray 239)) vb m 239:=hv.drew.alloc _;have Q:Blk (w.drew.alloc (.cells d.toArray 239)) g b 239:=hg.drew.alloc _;have L:Fr Nil w (w.drew.alloc (.cells d.toArray 239)):=((O _ w).drew).alloc _;obtain⟨N,hN⟩:∃ N,N=w.heap.size:=⟨_,rfl⟩;rw[<- hN] at a r a3 a5;obtain⟨G,V⟩:∃ G,G=w.drew.alloc (.cells d.toArray 239):=⟨_,rfl⟩;rw[<- V] at a r T Q L;clear V;obtain⟨k,x⟩:∃ k,k=d.take (i*2)++m++d.drop (i*2+m.length):=⟨_,rfl⟩;have p:∀ ty I,(Builtin.copy_ #[157,157] ty #[.slice (some ⟨N,i*2,none⟩) (n+1-i) I,.slice (some ⟨vb,0,none⟩) 1 1]).run Tryz.prog G=_:=fun ty I =>
  Zw 157 239 ty 2 Lq (by kernel_rfl) N (i*2) (n+1-i) I ⟨vb,0,none⟩ 1 1 d m 239 r
   (by rw[q];have:Nat.min 1 (n+1-i)=1:=(by simp only[KN];split <;> omega);rw[this]) (fun j u t=>by rw[MK,MD,T.cell];exact t)
   (by rw[q,o];omega)
   a0
 rw[<- x] at p;have l:k.length=c*2:=by
  rw[x];simp only[NQ,NT,Mn,q,o];omega
 have E:k.take ((i+1)*2)=b.take (i*2)++m:=by
  have e:(b.take (i*2)++m).length=(i+1)*2:=by rw[NQ,NT,f,q];omega
  rw[x,D];exact MY e
 have B:Blk (G.setRow N k.toArray) N k 239:=r.setRow k;have R:Blk (G.setRow N k.toArray) g b 239:=Q.of_heap (Jd _ N g _ (by omega));have M:Fr Nil w (G.setRow N k.toArray):=L.setRow (fun h=>by omega) _;obtain⟨W2,X⟩:∃ W2,W2=G.setRow N k.toArray:=⟨_,rfl⟩;rw[<- X] at p B R M;clear X;have A:(b.drop (i*2)).length=(n-i)*2:=by rw[Mn,f,Ix]
 obtain⟨c3,y⟩:∃ c3,c3=k.take ((i+1)*2)++b.drop (i*2)++k.drop ((i+1)*2+(b.drop (i*2)).length):=⟨_,rfl⟩;have F:∀ ty I sc,(Builtin.copy_ #[157,157] ty #[.slice (some ⟨N,(i+1)*2,none⟩) (n-i) I,.slice (some ⟨g,i*2,none⟩) (n-i) sc]).run Tryz.prog W2.drew=_:=fun ty I sc =>
  Zw 157 239 ty 2 Lq (by kernel_rfl) N ((i+1)*2) (n-i) I ⟨g,i*2,none⟩ (n-i) sc k (b.drop (i*2)) 239 B.drew
   (by rw[A];congr 1;simp only[KN];split <;> omega) (fun j u t=>by rw[MK,R.drew.cell];rw[LN] at t;exact t)
   (by rw[A,l];omega)
   (fun u t=>h1 u (MO t))
 rw[<- y] at F;have a1:Vn w (some g) n i b m (.returned (.slice (some ⟨N,0,none⟩) (n+1) c)) (W2.drew.setRow N c3.toArray):=by
  refine⟨N,c,rfl,ZQ (B.drew.setRow _) a2 K ?_ ?_,(M.drew.setRow (fun h=>by omega) _).mono (fun _ _ h=>absurd h id),.inr (by omega)⟩
  .rw[y]
   simp only[NQ,NT,Mn,f,l];omega
  .have e:(k.take ((i+1)*2)++b.drop (i*2)).length=(n+1)*2:=by rw[NQ,NT,l,A];omega
   rw[y,MY e,E]
   rfl
 clear D E C y x v r T Q L B R M A l o h1 a0 q f hv hg hN s a7 J S a6 a4;unfold maxLen at K;have a9:¬(i:Int)=(n:Int):=by omega
 have b0:¬n=i:=by omega
 have b1:¬c=i+1:=by omega
 have b2:¬c=i:=by omega
 have b3:(n:Int)+1-i=((n+1-i:Nat):Int):=by omega
 have b4:IntKind.i64.wrap ((i:Int)+1)=(i:Int)+1:=by rw[MC];omega
 have b5:(0:Int)<=(i:Int)+1:=by omega
 have b6:((i:Int)+1).toNat=i+1:=by omega
 have b7:(i:Int)<=(n:Int)+1:=by omega
 have b8:(i:Int)<=(n:Int):=by omega
 go_enter Tryz.func295,Tryz.ntmps295
 go_wp2_with (at_builtin;go_must (first|(refine Lib.wpList_append_run _ rfl _ _ _ _ rfl _ _ (by rfl) (by rfl) _ _ (a _) ?_)|(refine Yq rfl _ _ 157 157 rfl _ _ (by rfl) (by rfl) (p _ _) ?_)))
 go_region_law (refine Yr rfl _ _ 157 157 rfl _ _ (by simp[Act.eval,Act.put]) (by simp[Act.eval,Act.put]) (F _ _ _) ?_)
 go_wp2
 go_ret;exact a1
theorem UW(v:Value)(n i:Nat)(k d:List Value)(j:Nat)(w:World)(b:w.ownsRow 0 239 2 v n k)(r:∀ u∈k,u.oneCell'=true)(A:i<=n)
 (h:d.length=2)(f:∀ u∈d,u.oneCell'=true)(q:Blk w j d 239)(p:v.ownBlock≠some j)(a:(n+1)*40<=140737488355328) :
 Calls Tryz.prog 295 #[v,.int .i64 i,.slice (some ⟨j,0,none⟩) 1 1] w fun e z=>Vn w v.ownBlock n i k d e z:=by
 rcases Lz i n with m|y
 .rcases ZK b with⟨_,h0,_⟩|⟨g,cap,c,rfl,hg,hn,hm,hc,ht⟩
  .omega
  .have hne':j≠g:=fun e=>p (by rw[e];rfl)
   rcases Lz n cap with t|t
   .exact UV g n cap i c k d j w hg hc ht r m t hm h f q hne'
   .have e:cap=n:=by omega
    subst e;have o:c=k:=by rw[<- ht];exact(Mj (by omega)).symm
    subst o;exact S3 g cap i c d j w hg hc r m h f q a
 .have e:i=n:=by omega
  subst e;exact Rs v i k d j w b h f q a
theorem Nu:((Tryz.prog.info? 239).map fun i=>(i.zero.map (·.cells.size),i.size,i.bytes))=some (some 2,2,40):=by kernel_rfl
theorem Nv:((Tryz.prog.info? 239).map fun i=>(i.zero.map fun z=>z.cells.toList.all (·.oneCell')))=some (some true):=by kernel_rfl
theorem UX(v:Value)(n i:Nat)(C:List Value)(w:World)(l:w.ownsRow 0 239 2 v n C)(h1:∀ u∈C,u.oneCell'=true)(hi:i<n) :
 Calls Tryz.prog 294 #[v,.int .i64 i,.int .i64 ((i:Int)+1)] w fun e w' =>
  ∃ I,e=.returned I/\I.ownBlock=v.ownBlock/\w'.ownsRow 0 239 2 I (n-1) (Zv 2 i C)/\Fr (fun b=>v.ownBlock=some b) w w':=by
 rcases ZK l with⟨_,h0,_⟩|⟨g,a,c,rfl,hg,hn,M,r,ht⟩
 .omega
 obtain⟨i0,z,F,G,a2,a1,a0⟩:=Zr Nu;have Y:∀ u∈z.cells.toList,u.oneCell'=true:=by
  have:=Nv;rw[F] at this;simp only[KX,G] at this;exact List.all_eq_true.1 (Mp (Mp this))
 have X:C.length=n*2:=l.1;clear l;obtain⟨o,k⟩:∃ o,o=C.drop ((i+1)*2):=⟨_,rfl⟩;have s:o.length=(n-(i+1))*2:=by rw[k,Mn,X];omega
 have N:∀ j u,o[j]?=some u->c[(i+1)*2+j]?=some u:=by
  intro j u m;rw[k,LN] at m;have a6:=(Md.1 m).1;rw[<- ht,MS (by omega)] at m;exact m
 obtain⟨K,a4,V⟩:∃ K:Addr,(if a=i+1 then some (⟨g,0,none⟩:Addr) else some ⟨g,(i+1)*2,none⟩)=some K/\Hid (∀ j u,o[j]?=some u->w.drew.cell? (K.add j)=some u):=by
  by_cases h:a=i+1
  .refine⟨⟨g,0,none⟩,by simp[h],fun j u m=>?_⟩
   have:=(Md.1 m).1;omega
  .refine⟨⟨g,(i+1)*2,none⟩,by simp[h],fun j u m=>?_⟩
   rw[MK,hg.drew.cell];exact N j u m
 have p:∀ ty sc,(Builtin.append_ #[157,157] ty #[.slice (some ⟨g,0,none⟩) i a,.slice (some K) (n-(i+1)) sc]).run Tryz.prog w.drew=_:=fun ty sc =>
  WB (P:=Tryz.prog) 157 239 ty 2 Lq (by kernel_rfl) g i (n-(i+1)) a sc K c o hg.drew (by omega) r s V.out (fun u m=>h1 u (by rw[k] at m;exact MO m))
 have e1:i+(n-(i+1))=n-1:=by omega
 rw[e1] at p;obtain⟨f,q⟩:∃ f,f=c.take (i*2)++o++c.drop (i*2+o.length):=⟨_,rfl⟩;rw[<- q] at p;have d:f.length=a*2:=by
  rw[q];simp only[NQ,NT,Mn,s,r];omega
 have x:f.take ((n-1)*2)=Zv 2 i C:=by
  have e:(c.take (i*2)++o).length=(n-1)*2:=by rw[NQ,NT,s,r];omega
  rw[q,MY e];unfold Zv;rw[<- k,<- ht,Kg]
  congr 2
  omega
 have t:Blk (w.drew.setRow g f.toArray) g f 239:=hg.drew.setRow f;have E:Fr (fun b=>some g=some b) w (w.drew.setRow g f.toArray):=Fr.setRow (S:=fun b=>some g=some b) ((O _ w).drew) (fun _=>rfl) _;obtain⟨D,L⟩:∃ D,D=w.drew.setRow g f.toArray:=⟨_,rfl⟩;rw[<- L] at p t E;clear L;have B:∀ cc,∃ J:List Value,J.length=a*2/\J.take ((n-1)*2)=Zv 2 i C/\∀ ty,(Builtin.clear_ #[157] ty #[.slice (some ⟨g,(n-1)*2,none⟩) (n-(n-1)) cc]).run Tryz.prog D=.ok (.tuple #[]) (D.setRow g J.toArray):=by
  intro cc;have e2:n-(n-1)=1:=by omega
  rw[e2];obtain⟨zs,a3,T⟩:=VE (P:=Tryz.prog) (w:=D) 157 239 239 i0 z 2 Lq F G a0 Y g ((n-1)*2) 1 cc f 239 t (by rw[d];omega);refine⟨f.take ((n-1)*2)++zs++f.drop ((n-1)*2+zs.length),?_,?_,fun ty=>T⟩
  .simp only[NQ,NT,Mn,a3,d]
   omega
  .have e:(f.take ((n-1)*2)).length=(n-1)*2:=by rw[NT,d];omega
   rw[Mm,MY e,x]
 obtain⟨J,y,A,B⟩:=B (a-(n-1));have Q:∀ e,e=Ending.returned (.slice (some ⟨g,0,none⟩) (n-1) a)->∃ I,e=.returned I/\I.ownBlock=some g/\(D.setRow g J.toArray).ownsRow 0 239 2 I (n-1) (Zv 2 i C)/\Fr (fun b=>some g=some b) w (D.setRow g J.toArray):=by
  intro e he;exact⟨_,he,rfl,ZQ (t.setRow _) (by omega) M y A,Fr.setRow (S:=fun b=>some g=some b) E (fun _=>rfl) _⟩
 clear A y x d q t E N s k hg X h1 a0 a1 a2 G F Y r ht;have R:(Value.slice (some ⟨g,0,none⟩) n a).ownBlock=some g:=rfl;rw[R];clear R;unfold maxLen at M;have a5:i<=a:=by omega
 have a7:¬(i:Int)=(i:Int)+1:=by omega
 have a8:¬a=n-1:=by omega
 have a9:IntKind.i64.wrap ((i:Int)+1)=(i:Int)+1:=by rw[MC];omega
 have b0:(0:Int)<=(i:Int)+1:=by omega
 have b1:((i:Int)+1).toNat=i+1:=by omega
 have b2:(i:Int)<=(n:Int):=by omega
 have b3:(i:Int)+1<=(n:Int):=by omega
 go_enter Tryz.func294,Tryz.ntmps294;go_wp2_with fail
 go_region_law (refine Uu rfl _ _ 157 157 rfl _ _ (by simp[Act.eval,Act.put]) (by simp[Act.eval,Act.put]) (p _ (a-(i+1))) ?_)
 go_wp2
 go_ret;exact Q _ rfl
abbrev zm (l:List (ByteArray × Value)):List ByteArray:=l.map Prod.fst
structure YS(w:World)(v:Value)(l:List (ByteArray × Value)):Prop where
 own:w.ownsRow 0 239 2 v l.length (zS l)
 Gv:Asc zb (zm l)
 one:∀ e∈l,e.2.oneCell'=true
theorem YS.fr{w w':World}{v:Value}{l:List (ByteArray × Value)}{S:Nat->Prop}(h:YS w v l)(f:Fr S w w')(a:∀ k,v.ownBlock=some k->¬S k):YS w' v l :=
 ⟨za h.own f a,h.Gv,h.one⟩
theorem Uv{l:List (ByteArray × Value)}(h:∀ e∈l,e.2.oneCell'=true):∀ u∈zS l,u.oneCell'=true:=by
 intro u a;simp only[zS,Jm] at a;obtain⟨e,b,a⟩:=a;simp at a;rcases a with rfl|rfl
 .rfl
 .exact h e b
theorem Xi(v:Value)(l:List (ByteArray × Value))(s:ByteArray)(b:Nat)(w:World)(g:w.cell? ⟨b,0,none⟩=some v)(h:YS w v l)(c:l.length<4611686018427387904) :
 Calls Tryz.prog 163 #[.pointer (some ⟨b,0,none⟩),.string s] w fun e f =>
  e=.returned (.tuple #[.int .i64 (low zb (zm l) s),.bool (zD zb (zm l) s)])/\Fr Nil w f:=by
 have d:=Z (UT v l s w h.own h.Gv c);clear h;go_enter Tryz.func163,Tryz.ntmps163
 go_wp2_with (refine d.out.mono ?_;rintro e i ⟨rfl,a⟩)
 go_ret2;exact⟨rfl,a⟩
def getE(l:List (ByteArray × Value))(s:ByteArray):Value :=
 if zD zb (zm l) s=true then(l.getD (low zb (zm l) s) (s,.slice none 0 0)).2 else .slice none 0 0
theorem Yb{l:List (ByteArray × Value)}{s:ByteArray}(h:zD zb (zm l) s=true):∃ a:low zb (zm l) s<l.length,l[low zb (zm l) s].1=s:=by
 rcases Lz (low zb (zm l) s) l.length with a|a
 .refine⟨a,?_⟩
  rw[Yx a rfl] at h;exact zJ.1 h
 .rw[XK (by simpa using a)] at h
  cases h
theorem Qq(v:Value)(l:List (ByteArray × Value))(s:ByteArray)(b:Nat)(w:World)(f:w.cell? ⟨b,0,none⟩=some v)(t:b<w.heap.size)(h:YS w v l)(m:l.length<4611686018427387904) :
 Calls Tryz.prog 124 #[.pointer (some ⟨b,0,none⟩),.string s] w fun e A =>
  e=.returned (getE l s)/\Fr Nil w A:=by
 have o:=Z (Xi v l s b w f h m);cases ha:zD zb (zm l) s with
 | false =>
  have c:getE l s=.slice none 0 0:=by simp[getE,ha]
  rw[c];clear c;go_enter Tryz.func124,Tryz.ntmps124
  go_wp2_with (refine o.out.mono ?_;rintro e p ⟨rfl,a⟩)
  go_ret;exact⟨rfl,a⟩
 | true =>
  obtain⟨k,x⟩:=Yb ha;have c:getE l s=l[low zb (zm l) s].2:=by simp[getE,ha,k]
  rw[c];have q:=Z h;have y:=zu h.own;unfold maxLen at y;clear c x h;go_enter Tryz.func124,Tryz.ntmps124;go_wp2_with fail;refine o.out.mono ?_;rintro e p ⟨rfl,a⟩;have u:p.cell? ⟨b,0,none⟩=some v:=(a.cell t id).trans f;have d:=q.out.fr a (fun _ _=>id);obtain⟨g,r,z,_,_⟩:=zq d.own (by omega);subst z;have j:=own_cell? d.own (low zb (zm l) s*2+1) _ (Zu l _ k).2;clear f d;generalize low zb (zm l) s=i at k j |-
  go_wp2
  go_ret;exact⟨rfl,a⟩
theorem Z3(a b:List (ByteArray × Value)):zS (a++b)=zS a++zS b:=by simp[zS]
theorem VF(l:List (ByteArray × Value))(i:Nat):(zS l).take (i*2)=zS (l.take i):=by
 rcases JC i l.length with h|h
 .have e:=Z3 (l.take i) (l.drop i)
  rw[Mv] at e;rw[e];exact MY (by rw[ZP,NT,MU h])
 .rw[Mj h,Mj (by rw[ZP];omega)]
theorem VG(l:List (ByteArray × Value))(i:Nat):(zS l).drop (i*2)=zS (l.drop i):=by
 rcases JC i l.length with h|h
 .have e:=Z3 (l.take i) (l.drop i)
  rw[Mv] at e;rw[e];exact List.drop_left' (by rw[ZP,NT,MU h])
 .rw[Lu h,Lu (by rw[ZP];omega)]
  rfl
def ZB(l:List (ByteArray × Value))(s:ByteArray)(x:Value):List (ByteArray × Value) :=
 l.take (low zb (zm l) s)++[(s,x)]++l.drop (if zD zb (zm l) s=true then low zb (zm l) s+1 else low zb (zm l) s)
def Yc(l:List (ByteArray × Value))(s:ByteArray):List (ByteArray × Value) :=
 if zD zb (zm l) s=true then l.take (low zb (zm l) s)++l.drop (low zb (zm l) s+1) else l
theorem Pj{l:List (ByteArray × Value)}{s:ByteArray}{x:Value}(h:zD zb (zm l) s=true):zm (ZB l s x)=zm l:=by
 obtain⟨c,a⟩:=Yb h;unfold ZB;rw[Mg h];generalize low zb (zm l) s=i at c a |-;have d:(l.map Prod.fst)[i]'(by simpa using c)=s:=by rw[MT];exact a
 simp only[zm,ML,Mf,LC,Ka,KV];rw[<- d,<- Mq,Mv]
theorem S4{l:List (ByteArray × Value)}(s:ByteArray)(x:Value)(h:Asc zb (zm l)):Asc zb (zm (ZB l s x)):=by
 cases ha:zD zb (zm l) s with
 | true=>rw[Pj ha];exact h
 | false =>
  have:=Asc.ins zW (b:=s) h (fun a e=>by rw[WY a,e] at ha;rw[zJ.2 rfl] at ha;cases ha);unfold ZB;simp only[ha,Lc,MN]
  simpa [zm,List.map_take,List.map_drop] using this
theorem S5{l:List (ByteArray × Value)}{s:ByteArray}{x:Value}(h:∀ e∈l,e.2.oneCell'=true)(b:x.oneCell'=true):∀ e∈ZB l s x,e.2.oneCell'=true:=by
 intro e a;simp only[ZB,Mc,NW] at a;rcases a with(a|rfl)|a
 .exact h e (Lr a)
 .exact b
 .exact h e (MO a)
theorem V7{l:List (ByteArray × Value)}{s:ByteArray}{x:Value}:(ZB l s x).length=if zD zb (zm l) s=true then l.length else l.length+1:=by
 have:=VD zb (zm l) s;simp only[Mw] at this;split
 .rename_i h
  obtain⟨a,_⟩:=Yb h;simp only[ZB,h,MP,NQ,NT,Mn,NU];omega
 .rename_i h
  simp only[ZB,h,NQ,NT,Mn,NU];simp;omega
theorem Oh{l:List (ByteArray × Value)}(s:ByteArray)(h:Asc zb (zm l)):Asc zb (zm (Yc l s)):=by
 unfold Yc;split
 .have:=Asc.del h (low zb (zm l) s)
  simpa [zm,List.map_take,List.map_drop] using this
 .exact h
theorem S6{l:List (ByteArray × Value)}{s:ByteArray}:∀ e∈Yc l s,e∈l:=by
 intro e a;unfold Yc at a;split at a
 .rcases Mc.1 a with a|a
  .exact Lr a
  .exact MO a
 .exact a
def ZM(w:World)(b:Nat)(t:TypeId)(v:Value)(a:List Value)(l:List (ByteArray × Value))(d:World):Prop :=
 ∃ c,Blk d b (c::a) t/\YS d c l/\Fr (fun k=>k=b\/v.ownBlock=some k) w d/\(∀ k,c.ownBlock=some k->v.ownBlock=some k\/w.heap.size<=k)
theorem Qr(v:Value)(p:List Value)(l:List (ByteArray × Value))(s:ByteArray)(a:Option Addr)(d c:Nat)(b:Nat)(t:TypeId)(w:World)(G:Blk w b (v::p) t)(ht:t≠239)(h:YS w v l)
 (a5:l.length<1099511627776) :
 Calls Tryz.prog 291 #[.pointer (some ⟨b,0,none⟩),.string s,.slice a d c] w fun e w' =>
  e=.returned (.tuple #[])/\ZM w b t v p (ZB l s (.slice a d c)) w':=by
 have R:w.cell? ⟨b,0,none⟩=some v:=by rw[G.cell];rfl
 have HC:=Z (Xi v l s b w R h (by omega));have hn:=zu h.own;unfold maxLen at hn;cases ha:zD zb (zm l) s with
 | true =>
  obtain⟨J,o⟩:=Yb ha;have E:=Z h;have Q:=Z G;have HK:=Z o;clear R h G o;go_enter Tryz.func291,Tryz.ntmps291;go_wp2_with fail;refine HC.out.mono ?_;rintro e r ⟨rfl,j⟩;have f:=Q.out.fr j id;have T:r.cell? ⟨b,0,none⟩=some v:=by rw[f.cell];rfl
  have B:=E.out.fr j (fun _ _=>id);obtain⟨g,y,hv,a4,_⟩:=zq B.own (by omega);subst hv;have D:=own_cell? B.own (low zb (zm l) s*2+1) _ (Zu l _ J).2;have a1:=VC B.own (low zb (zm l) s*2+1);have X:b≠g:=fun e=>zf B.own f ht (by rw[e];rfl);have m:ZM w b t (.slice (some ⟨g,0,none⟩) l.length y) p (ZB l s (.slice a d c)) (r.setCell ⟨g,low zb (zm l) s*2+1,none⟩ (.slice a d c)):=by
   have q:=V7 (l:=l) (s:=s) (x:=.slice a d c);rw[Mg ha] at q;refine⟨_,f.Gz X _ _,⟨?_,S4 s _ B.Gv,S5 B.one rfl⟩,Fr.set (j.mono (fun _ _ h=>absurd h id)) (fun _=>.inr rfl) _,fun k o=>.inl o⟩;have:=Ua B.own (low zb (zm l) s*2+1) (.slice a d c);rw[q];refine cast (LH (World.ownsRow _ 0 _ 2 _ l.length) ?_) this;have e:ZB l s (.slice a d c)=l.take (low zb (zm l) s)++[(s,.slice a d c)]++l.drop (low zb (zm l) s+1):=by unfold ZB;rw[Mg ha]
   have e2:l=l.take (low zb (zm l) s)++[l[low zb (zm l) s]]++l.drop (low zb (zm l) s+1):=by
    rw[<- Mq J,Mv]
   have o:=HK.out;rw[e];generalize low zb (zm l) s=i at J o e2 |-;have a0:(zS (l.take i)).length=i*2:=by rw[ZP,NT,MU (by omega)]
   conv=>lhs;rw[e2]
   rw[Z3,Z3,Z3,Z3,Mm,Mm,Ji _ _ (by omega),a0,show i*2+1-i*2=1 by omega];simp[zS,o]
  clear D B f;have D:=own_cell? (E.out.fr j (fun _ _=>id)).own (low zb (zm l) s*2+1) _ (Zu l _ J).2;have N:=Z m;clear m;generalize low zb (zm l) s=i at J D a1 N |-
  go_wp2
  exact KR (v:=.tuple #[]) (by simp[results,go_sem]) rfl ⟨rfl,N.out⟩
 | false =>
  have E:=Z h;have Q:=Z G;clear R h G;go_enter Tryz.func291,Tryz.ntmps291;go_wp2_with fail;refine HC.out.mono ?_;rintro e r ⟨rfl,j⟩;have f:=Q.out.fr j id;have T:r.cell? ⟨b,0,none⟩=some v:=by rw[f.cell];rfl
  have a6:=f.frozen 0;go_wp2_with fail;have hN:Blk (r.alloc (.cells #[.string s,.slice a d c] 239)) r.heap.size [.string s,.slice a d c] 239:=Blk.new r [.string s,.slice a d c] _;have z:=f.alloc (.cells #[.string s,.slice a d c] 239);have A:Fr Nil w (r.alloc (.cells #[.string s,.slice a d c] 239)):=j.alloc _;have V:∀ k,v.ownBlock=some k->k<r.heap.size:=fun k o=>Z2 (E.out.fr j (fun _ _=>id)).own o;generalize r.alloc (.cells #[.string s,.slice a d c] 239)=w2 at hN z A |-;have F:=E.out.fr A (fun _ _=>id);have M:v.ownBlock≠some b:=zf F.own z ht;have K:=VD zb (zm l) s;simp only[Mw] at K;refine(UW v l.length (low zb (zm l) s) (zS l) [.string s,.slice a d c] r.heap.size w2 F.own (Uv F.one) K rfl (by intro u hu;simp at hu;rcases hu with rfl|rfl <;> rfl) hN (fun e=>by have:=V _ e;omega) (by omega)).mono ?_;rintro e w3 ⟨g,y,rfl,Y,I,L⟩;have C:=z.fr I M;have a3:w3.cell? ⟨b,0,none⟩=some v:=by rw[C.cell];rfl
  have a7:=C.frozen 0;have a2:b≠g:=by
   rcases L with h|h
   .intro e;exact M (by rw[h,e])
   .have:=z.lt;omega
  have m:ZM w b t v p (ZB l s (.slice a d c)) (w3.setCell ⟨b,0,none⟩ (.slice (some ⟨g,0,none⟩) (l.length+1) y)):=by
   have q:=V7 (l:=l) (s:=s) (x:=.slice a d c);rw[Ma (by rw[ha];simp)] at q;refine⟨.slice (some ⟨g,0,none⟩) (l.length+1) y,C.set 0 _,⟨?_,S4 s _ F.Gv,S5 F.one rfl⟩,Fr.set ((A.mono (fun _ _ h=>absurd h id)).trans' I (fun i _ h=>.inr h)) (fun _=>.inl rfl) _,fun k o=>?_⟩
   .rw[q]
    have e:zS (ZB l s (.slice a d c))=Y5 2 (low zb (zm l) s) (zS l) [.string s,.slice a d c]:=by
     unfold ZB Y5;rw[Ma (by rw[ha];simp),Z3,Z3,VF,VG]
     rfl
    rw[e];exact za Y (Fr.set (S:=fun k=>k=b) (O _ _) (fun _=>rfl) _) (fun k o=>by simp[Value.ownBlock] at o;omega)
   .simp[Value.ownBlock] at o
    subst o;rcases L with h|h
    .exact .inl h
    .exact .inr (by have:=A.size;omega)
  have N:=Z m;clear m
  go_wp2
  exact Lo (v:=.tuple #[]) (by simp[results,go_sem]) rfl ⟨rfl,N.out⟩
theorem Rt{l:List (ByteArray × Value)}{s:ByteArray}(h:zD zb (zm l) s=true):(Yc l s).length=l.length-1:=by
 obtain⟨a,_⟩:=Yb h;simp only[Yc,h,MP,NQ,NT,Mn];omega
theorem UY(v:Value)(c:List Value)(l:List (ByteArray × Value))(s:ByteArray)(b:Nat)(t:TypeId)(w:World)(p:Blk w b (v::c) t)(R:t≠239)(h:YS w v l)
 (Q:l.length<1099511627776) :
 Calls Tryz.prog 290 #[.pointer (some ⟨b,0,none⟩),.string s] w fun e X =>
  e=.returned (.tuple #[])/\ZM w b t v c (Yc l s) X:=by
 have z:w.cell? ⟨b,0,none⟩=some v:=by rw[p.cell];rfl
 have C:=Z (Xi v l s b w z h (by omega));have N:=zu h.own;unfold maxLen at N;cases ha:zD zb (zm l) s with
 | true =>
  obtain⟨L,j⟩:=Yb ha;have y:=Z h;have x:=Z p;clear z h p j;have M:(low zb (zm l) s:Int)+1<=9223372036854775807:=by omega
  go_enter Tryz.func290,Tryz.ntmps290;go_wp2_with fail;refine C.out.mono ?_;rintro e B ⟨rfl,a⟩;have d:=x.out.fr a id;have I:B.cell? ⟨b,0,none⟩=some v:=by rw[d.cell];rfl
  have T:=d.frozen 0;go_wp2_with fail;have o:=y.out.fr a (fun _ _=>id);have u:v.ownBlock≠some b:=zf o.own d R;refine(UX v l.length (low zb (zm l) s) (zS l) B o.own (Uv o.one) L).mono ?_;rintro e F ⟨E,rfl,r,m,q⟩;have g:=d.fr q u;have J:F.cell? ⟨b,0,none⟩=some v:=by rw[g.cell];rfl
  have V:=g.frozen 0;have f:ZM w b t v c (Yc l s) (F.setCell ⟨b,0,none⟩ E):=by
   refine⟨E,g.set 0 _,⟨?_,Oh s o.Gv,fun e K=>o.one e (S6 e K)⟩,Fr.set ((a.mono (fun _ _ h=>absurd h id)).trans' q (fun i _ h=>.inr h)) (fun _=>.inl rfl) _,fun k j=>.inl (by rw[<- r];exact j)⟩;have e:zS (Yc l s)=Zv 2 (low zb (zm l) s) (zS l):=by
    unfold Yc Zv;rw[Mg ha,Z3,VF,VG]
   rw[Rt ha,e];exact za m (Fr.set (S:=fun k=>k=b) (O _ _) (fun _=>rfl) _) (fun k j e=>u (by rw[<- r,j,e]))
  have G:=Z f;obtain⟨Y,vc,A⟩:=zd m;subst A;clear f m
  go_wp2
  exact Lo (v:=.tuple #[]) (by simp[results,go_sem]) rfl ⟨rfl,G.out⟩
 | false =>
  have D:Yc l s=l:=by unfold Yc;rw[Ma (by rw[ha];simp)]
  rw[D];have y:=Z h;have x:=Z p;clear z h p D;go_enter Tryz.func290,Tryz.ntmps290;go_wp2_with fail;refine C.out.mono ?_;rintro e B ⟨rfl,a⟩
  go_wp2
  exact Lo (v:=.tuple #[]) (by simp[results,go_sem]) rfl ⟨rfl,v,x.out.fr a id,y.out.fr a (fun _ _=>id),a.mono (fun _ _ h=>absurd h id),fun k j=>.inl j⟩
theorem Qs(v:Value)(l:List (ByteArray × Value))(b:Nat)(w:World)(g:w.cell? ⟨b,0,none⟩=some v)(h:YS w v l) :
 Calls Tryz.prog 134 #[.pointer (some ⟨b,0,none⟩)] w fun e f=>e=.returned (.int .i64 l.length)/\f=w:=by
 have d:=zu h.own;unfold maxLen at d;obtain⟨a,c,rfl⟩:=zd h.own;go_enter Tryz.func134,Tryz.ntmps134
 go_wp2
 go_ret;exact⟨rfl,rfl⟩
end Go.Proofs.YtkhnggkkiefcdaaGreatDoor
namespace Go.Proofs.YtkhnggkkiefcdaaGreatDoor
open Go.RowKit Go.Shelf
set_option maxRecDepth 100000
set_option maxHeartbeats 8000000
attribute [local go_sem] LW
def ZO(X:Nat->Prop)(W a:World):Prop:=∀ k,X k->a.heap[k]?=W.heap[k]?
theorem ZO.refl(X:Nat->Prop)(W:World):ZO X W W:=fun _ _=>rfl
theorem ZO.trans{X:Nat->Prop}{A B C:World}(h:ZO X A B)(k:ZO X B C):ZO X A C:=fun i a=>(k i a).trans (h i a)
theorem ZO.own{X:Nat->Prop}{W i:World}{base:Nat}{e:TypeId}{size:Nat}{v:Value}{n:Nat}{m:List Value}(h:ZO X W i)(j:W.ownsRow base e size v n m)(u:∀ k,v.ownBlock=some k->X k):i.ownsRow base e size v n m:=by
 refine⟨j.1,?_⟩;rcases j.2 with o|⟨g,a,c,rfl,q,t,r⟩
 .exact .inl o
 .exact .inr ⟨g,a,c,rfl,q,by rw[h g (u g rfl)];exact t,r⟩
theorem Qt(a:Nat)(w:World) :
 Calls Tryz.prog 182 #[.pointer (some ⟨a,0,none⟩)] w fun e b =>
  e=.returned (.func (.func 217) #[] #[.pointer (some ⟨w.heap.size,0,none⟩)])/\b=w.alloc (.cells #[.pointer (some ⟨a,0,none⟩)] 236):=by
 go_enter Tryz.func182,Tryz.ntmps182
 go_wp2
 go_ret;exact⟨rfl,rfl⟩
theorem Oi(F:Fence)(n:Nat)(hF:F.fn 217)(K:F.round=none)(hn:1<=n)(l M mb:Nat)(v:Value)(b:List (ByteArray × Value))(X:Nat->Prop)(J Q:List (ByteArray × Value)->World->Prop)
 (W:World)(hl:b.length<4611686018427387904)
 (hJ:AbidesFrom W.heap.size J)(hX:∀ k,X k->k<W.heap.size)(D:∀ k,v.ownBlock=some k->X k)
 (o:∀ e∈b,∃ a m c,e.2=.slice a m c)
 (hY:∀ d x y,J d y->d.length<b.length->YieldAt F (n-1) Tryz.prog l #[.string x.1,x.2] y fun e j =>
   (e=.returned (.bool true)/\J (d++[x]) j/\ZO X y j/\y.heap.size<=j.heap.size)\/(e=.returned (.bool false)/\Q (d++[x]) j))
 (a4:W.cell? ⟨M,0,none⟩=some (.pointer (some ⟨mb,0,none⟩)))(a6:W.cell? ⟨mb,0,none⟩=some v)(hv:W.ownsRow 0 239 2 v b.length (zS b))(h0:J [] W) :
 CallsIn F n Tryz.prog 217 #[.func (.yield l) #[] #[],.pointer (some ⟨M,0,none⟩)] W fun e j=>(∃ r,e=.returned r) /\
  ((∃ ys,ys=b/\J ys j)\/(∃ d,d<+:b/\Q d j)):=by
 obtain⟨a0,B,rfl⟩:=zd hv;refine callsIn_of_wp Tryz.func217 rfl hF ?_ K;simp only[Tryz.ntmps217,LU,Mh,ME,Nat.reduceAdd,Nat.reduceSub,Km,Kn,KH,Ku,LB,MJ]
 gi_wp2
 gi_loopw [10] (fun i wr=>∃ k:Nat,k<=b.length/\i=.int .i64 k/\J (b.take k) wr/\ZO X W wr/\W.heap.size<=wr.heap.size)
  (fun i _=>b.length-(intOf i).toNat)
 case atStart=>exact⟨0,Me _,rfl,by simpa using h0,ZO.refl _ _,NS _⟩
 case round =>
  obtain⟨k,Y,rfl,f,u,a7⟩:=hrel;by_cases h:k<b.length
  .have hvr:=u.own hv D
   obtain⟨g,q,hg,_,_⟩:=zq hvr (by omega);obtain⟨rfl,rfl⟩:a0=some ⟨g,0,none⟩/\B=q:=by simpa using hg
   obtain⟨R,m1,T,G⟩:=o b[k] (NV h);have a5:=own_cell? hvr (k*2) _ (Zu b k h).1;have E:=own_cell? hvr (k*2+1) _ (Zu b k h).2;rw[G] at E;have s:J (b.take k) (wr.alloc (.cells #[.string b[k].1,.slice R m1 T] 239)):=hJ _ _ _ none f (World.grownBy_alloc ..) (fun r e=>by cases e);obtain⟨fn,a2,z,S,hy,V⟩:=hY (b.take k) b[k] _ s (by simp;omega);rw[G] at hy;have N:Hid (b.take (k+1)=b.take k++[b[k]]):=Mq h;have A:Hid (ZO X W (wr.alloc (.cells #[.string b[k].1,.slice R m1 T] 239))):=u.trans (fun k Y=>KP _ _ _ (by have:=hX k Y;omega));have a3:=Z f;have HR:=Z V;clear s f V G
   gi_wp2
   refine HR.out.mono ?_;rintro e W3 (⟨rfl,C,I,L⟩|⟨rfl,t⟩)
   .gi_wp2
    go_roundw
    case rel=>exact⟨k+1,by omega,by simp,by rw[N.out];exact C,A.out.trans I,by have:=L;simp at this;omega⟩
    case measure=>simp[intOf];omega
   .gi_wp2
    refine KR (results_none rfl _ _ _) rfl ?_;exact⟨⟨_,rfl⟩,.inr ⟨_,⟨b.drop (k+1),by rw[<- N.out,Mv]⟩,t⟩⟩
  .obtain rfl:k=b.length:=by omega
   rw[Mz] at f
   gi_wp2
   go_end0
   exact⟨⟨_,rfl⟩,.inl ⟨_,rfl,f⟩⟩
def KpX(X:Nat->Prop)(W a:World):Prop:=ZO X W a/\W.heap.size<=a.heap.size
theorem Qu(F:Fence)(n:Nat)(B:F.fn 217)(t:F.round=none)(I:1<=n)(f i:Nat)(v:Value)(b:List (ByteArray × Value))(X:Nat->Prop)
 (w:World)(G:b.length<4611686018427387904)(y:∀ k,X k->k<w.heap.size)(o:f<w.heap.size)(s:i<w.heap.size)(g:∀ k,v.ownBlock=some k->X k)
 (d:∀ e∈b,∃ a m c,e.2=.slice a m c)(q:w.cell? ⟨f,0,none⟩=some (.pointer (some ⟨i,0,none⟩)))(r:w.cell? ⟨i,0,none⟩=some v)(K:w.ownsRow 0 239 2 v b.length (zS b)) :
 SeqStopsK F n Tryz.prog 217 #[.pointer (some ⟨f,0,none⟩)] (fun x:ByteArray × Value=>#[.string x.1,x.2]) (KpX X) (fun L=>L=b) (fun u=>u<+:b) b.length w:=by
 intro l J z W j C D E A;have h:ZO X w W:=fun k h=>j.block k (y k h);exact Oi F n B t I l f i v b X J z W G C (fun k h=>Lb (y k h) j.size) g d E ((j.cell (p:=⟨f,0,none⟩) o).trans q) ((j.cell (p:=⟨i,0,none⟩) s).trans r) (h.own K g) A
theorem KpX.trans{X:Nat->Prop}{A B C:World}(h:KpX X A B)(k:KpX X B C):KpX X A C:=⟨h.1.trans k.1,NR h.2 k.2⟩
theorem KpX.put{X:Nat->Prop}{w:World}(a:∀ k,X k->k<w.heap.size)(W:World)(l:Nat)(o c:Obj)(h:w.heap.size<=l)(_:W.heap[l]?=some o)(_:o.isCells=false)(_:o.isWalk=false):KpX X W (W.putObj l c) :=
 ⟨fun k b=>Kv (fun e=>by have:=a k b;omega),by simp⟩
end Go.Proofs.YtkhnggkkiefcdaaGreatDoor
namespace Go.Proofs.YtkhnggkkiefcdaaGreatDoor
open Go.RowKit Go.Shelf
set_option maxRecDepth 100000
set_option maxHeartbeats 8000000
attribute [local go_sem] LW
def zZ(l:List (Nat × ByteArray)):List Value:=l.flatMap fun e=>[.int .i64 e.1,.string e.2]
theorem Ys(d:List (Nat × ByteArray)):(zZ d).length=d.length*2:=by
 induction d with
 | nil=>rfl
 | cons e d a=>simp only[zZ,LF,NQ,Mh,ME] at a |-;omega
theorem Yi(d:List (Nat × ByteArray)):∀ (k:Nat)(h:k<d.length),(zZ d)[k*2]?=some (.int .i64 d[k].1)/\(zZ d)[k*2+1]?=some (.string d[k].2):=by
 induction d with
 | nil=>intro k h;simp at h
 | cons e d b =>
  intro k h;cases k with
  | zero=>exact⟨rfl,rfl⟩
  | succ k =>
   have:=b k (by simpa using h);have a:(k+1)*2=k*2+2:=by omega
   simp only[zZ,LF,a] at this |-;exact this
theorem VH(a:Nat)(w:World) :
 Calls Tryz.prog 146 #[.pointer (some ⟨a,0,none⟩)] w fun e b =>
  e=.returned (.func (.func 187) #[] #[.pointer (some ⟨w.heap.size,0,none⟩)])/\b=w.alloc (.cells #[.pointer (some ⟨a,0,none⟩)] 211):=by
 go_enter Tryz.func146,Tryz.ntmps146
 go_wp2
 go_ret;exact⟨rfl,rfl⟩
end Go.Proofs.YtkhnggkkiefcdaaGreatDoor
namespace Go.Proofs.YtkhnggkkiefcdaaGreatDoor
open Go.RowKit Go.Shelf
set_option maxRecDepth 100000
set_option maxHeartbeats 8000000
attribute [local go_sem] LW
theorem XL{F:Fence}{n:Nat}{P:Program}{g:Operand}{R:Array Tmp}{assign body:Code}{Q:Exit->Act->World->Prop}{a:Act}{w:World}
 (a7:F.round=none)(h1:1<=n){gf:Nat}{lb:Array Value}(hg:a.eval g=.func (.func gf) #[] lb)(V:F.fn gf)(eg:∀ args w,(callFunc gf args).run P w=.ok (.enter gf args) w)
 (N:Nat)(b:Nat->Array Value)(a6:∀ i,(b i).size=R.size)(I:Nat->World->Prop)(s:OwnFrom w.heap.size I)(h0:I 0 w)
 (L:∀ (l:Nat)(J:Nat->World->Prop)(W:World),Below w.heap.size w W->AbidesFrom W.heap.size J->(∀ i z,J i z->I i z) ->
   (∀ i z,i<N->J i z->YieldAt F (n-1-1) P l (b i) z fun e y=>e=.returned (.bool true)/\J (i+1) y)->J 0 W ->
   CallsIn F (n-1) P gf (#[.func (.yield l) #[] #[]]++lb) W fun e y=>(∃ v,e=.returned v)/\J N y)
 (a1:Nat->Act)
 (c:∀ (l i:Nat)(W:World)(K:Act->World->Prop),K (a1 i) W ->
   assign.wpIn (F.inRound l) (n-1-1) P (Exit.then K (fun _ _ _=>False)) {tmps:=(R.zip (b i)).foldl (fun t (p,v)=>t.setIfInBounds p v) a.tmps,defers:=[]} W)
 (d:∀ (l i:Nat)(W:World),i<N->I i W->body.wpIn (F.inRound l) (n-1-1) P (ownPostK (fun _ _=>True) (fun _ y=>I (i+1) y) (fun _ (_:List Unit) _=>False) [] W) (a1 i) W)
 (f:∀ (D:Nat)(W:World),w.heap.size<=D->I N W->W.heap[D]?=some (.deferred (some []))->Q .normal {a with defers:={target:=.collected D,args:=#[]}::a.defers} W) :
 (Code.rangeFunc g R assign body).wpIn F n P Q a w:=by
 refine wpIn_rangeFunc fun fn a0=>?_;rw[a7];obtain⟨r,x⟩:∃ r:LoopState->Loop,r=fun st=>{state:=st,pending:=none,fn,tmps:=a.tmps,params:=R,assign,body,defers:=w.heap.size}:=⟨_,rfl⟩;have k:∀ st,(r st).state=st/\(r st).pending=none:=fun st=>by rw[x];exact⟨rfl,rfl⟩
 have M:∀ st m,{r st with state:=m}=r m:=fun st m=>by rw[x]
 have b1:Below w.heap.size w ((w.alloc (.deferred (some []))).alloc (.loop (r .ready))):=((Ij _ w).alloc (NS _) _).alloc (by simp) _;have i1:I 0 ((w.alloc (.deferred (some []))).alloc (.loop (r .ready))):=s.alloc _ (s.alloc _ h0);have l1:((w.alloc (.deferred (some []))).alloc (.loop (r .ready))).heap[w.heap.size+1]?=some (.loop (r .ready)):=by
  have:=World.alloc_heap_new (w.alloc (.deferred (some []))) (.loop (r .ready))
  rwa [Jj] at this
 have d1:((w.alloc (.deferred (some []))).alloc (.loop (r .ready))).heap[w.heap.size]?=some (.deferred (some [])) :=
  (KP _ _ _ (by simp)).trans (World.alloc_heap_new w _)
 have E:(Instr.enterLoop fn a.tmps R assign body none).run P w=.ok (w.heap.size+1,[{target:=.collected w.heap.size,args:=#[]}]) ((w.alloc (.deferred (some []))).alloc (.loop (r .ready))):=by
  rw[x];exact run_enterLoop_outer _ _ _ _ _
 have hz:w.heap.size+2<=((w.alloc (.deferred (some []))).alloc (.loop (r .ready))).heap.size:=by simp
 generalize (w.alloc (.deferred (some []))).alloc (.loop (r .ready))=T at b1 i1 l1 d1 E hz;refine⟨w.heap.size+1,_,T,{target:=.fn (.func gf) lb,args:=#[.func (.yield (w.heap.size+1)) #[] #[]]},T,gf,#[.func (.yield (w.heap.size+1)) #[] #[]]++lb,T,E,?_,?_,?_,fun _=>h1,?_⟩
 .simp only[resolve,hg]
  simp[go_sem]
 .intro f' hf'
  simp[Target.leads] at hf';subst hf';exact V
 .simp[invoke,go_sem,eg]
 .refine(L (w.heap.size+1) (fun i W=>I i W/\W.heap[w.heap.size+1]?=some (.loop (r .ready))/\W.heap[w.heap.size]?=some (.deferred (some []))) T b1 ?_ (fun _ _ h=>h.1) ?_ ⟨i1,l1,d1⟩).mono ?_
  .rintro i A B row ⟨h,hl,hd⟩ hgr hrow
   have hw:∀ q,row=some q->∃ o:Obj,A.heap[q]?=some o/\o.isWalk=true:=fun q e=>(hrow q e).2;exact⟨s i A B row h hgr (fun q e=>by obtain⟨hq,o,ho,a8⟩:=hrow q e;exact⟨by omega,o,ho,Obj.not_cells_of_walk a8⟩),(grownBy_keeps hgr hw hl rfl).trans hl,(grownBy_keeps hgr hw hd rfl).trans hd⟩
  .rintro i W hi ⟨h,hl,hd⟩
   have a5:w.heap.size+1<W.heap.size:=(MV.1 hl).1;have hy:=run_yield (P:=P) (args:=b i) hl (by rw[x];exact a6 i);rw[x] at hy;refine⟨fn,_,assign,body,hy,roundIn_of_wpIn a0 (c _ i W _ ⟨_,run_beginRound hl (k _).1,?_⟩)⟩;rw[M];have a4:(W.putObj (w.heap.size+1) (.loop (r .busy))).heap[w.heap.size+1]?=some (.loop (r .busy)):=World.putObj_heap_same a5;have X:(W.putObj (w.heap.size+1) (.loop (r .busy))).heap[w.heap.size]?=some (.deferred (some [])):=(Kv (by omega)).trans hd;refine wpIn_mono (d _ i _ hi (s.putObj _ h (by omega) hl rfl)) ?_;rintro e a3 W3 u;cases e with
   | normal =>
    obtain⟨G,-,a2⟩:=u;have j:=G.same _ _ a4 rfl;have Y:=G.same _ _ X rfl;have C:=run_endRound (P:=P) none j;have e2:({r .busy with state:=if (none:Option Code).isNone then .ready else .done,pending:=none}:Loop)=r .ready:=by rw[x];rfl
    rw[e2] at C;exact⟨_,_,C,rfl,s.putObj _ a2 (by omega) j rfl,World.putObj_heap_same (MV.1 j).1,(Kv (by omega)).trans Y⟩
   | ret=>exact u.2.elim
   | exit id=>exact u.2.elim
   | goto t=>exact u.2.elim
   | panic ch=>exact u.elim
   | outgrown=>exact u.elim
  .rintro e W2 ⟨⟨v,rfl⟩,h,hl,hd⟩
   have C:=run_endLoop (P:=P) hl (by rw[(k _).1];decide);rw[(k _).2] at C;exact⟨none,_,C,f _ _ (NS _) (s.putObj _ h (by omega) hl rfl) ((Kv (by omega)).trans hd)⟩
def Z9(a:List (Nat × ByteArray))(i:Nat):Nat × ByteArray:=a.getD i (0,ByteArray.empty)
def Vo(a:List (Nat × ByteArray))(i:Nat):Array Value:=#[.int .i64 (Z9 a i).1,.string (Z9 a i).2]
theorem S7(F:Fence)(n:Nat)(K:F.fn 187)(u:F.round=none)(hn:1<=n)(l x B:Nat)(v:Value)(a:List (Nat × ByteArray))(J:Nat->World->Prop)
 (W:World)(hl:a.length<4611686018427387904)
 (L:AbidesFrom W.heap.size J)(d:∀ i f,J i f->f.ownsRow 0 268 2 v a.length (zZ a))
 (M:∀ i f,i<a.length->J i f->YieldAt F (n-1) Tryz.prog l (Vo a i) f fun e q=>e=.returned (.bool true)/\J (i+1) q)
 (I:W.cell? ⟨x,0,none⟩=some (.pointer (some ⟨B,0,none⟩)))(T:W.cell? ⟨B,0,none⟩=some v)(z:J 0 W) :
 CallsIn F n Tryz.prog 187 #[.func (.yield l) #[] #[],.pointer (some ⟨x,0,none⟩)] W fun e q=>(∃ r,e=.returned r)/\J a.length q:=by
 obtain⟨G,s,rfl⟩:=zd (d 0 W z);refine callsIn_of_wp Tryz.func187 rfl K ?_ u;simp only[Tryz.ntmps187,LU,Mh,ME,Nat.reduceAdd,Nat.reduceSub,Km,Kn,KH,Ku,LB,MJ]
 gi_wp2
 gi_loopw [10] (fun i wr=>∃ k:Nat,k<=a.length/\i=.int .i64 k/\J k wr) (fun i _=>a.length-(intOf i).toNat)
 case atStart=>exact⟨0,Me _,rfl,z⟩
 case round =>
  obtain⟨k,Y,rfl,b⟩:=hrel;by_cases c:k<a.length
  .have hvr:=d _ _ b
   obtain⟨g,h,R,_,_⟩:=zq hvr (by omega);obtain⟨rfl,rfl⟩:G=some ⟨g,0,none⟩/\s=h:=by simpa using R
   have N:=own_cell? hvr (k*2) _ (Yi a k c).1;have Q:=own_cell? hvr (k*2+1) _ (Yi a k c).2;have j:J k (wr.alloc (.cells #[.int .i64 a[k].1,.string a[k].2] 268)):=L _ _ _ none b (World.grownBy_alloc ..) (fun r e=>by cases e);have m:=M k _ c j;rw[show Vo a k=#[.int .i64 a[k].1,.string a[k].2] by simp[Vo,Z9,List.getD_eq_getElem?_getD,List.getElem?_eq_getElem c]] at m;obtain⟨X,C,o,y,hy,A⟩:=m;have D:=Z b;have E:=Z A;clear j b A
   gi_wp2
   refine E.out.mono ?_;rintro e V ⟨rfl,t⟩
   gi_wp2
   go_roundw
   case rel=>exact⟨k+1,by omega,by simp,t⟩
   case measure=>simp[intOf];omega
  .obtain rfl:k=a.length:=by omega
   gi_wp2
   go_end0
   exact⟨⟨_,rfl⟩,b⟩
end Go.Proofs.YtkhnggkkiefcdaaGreatDoor
