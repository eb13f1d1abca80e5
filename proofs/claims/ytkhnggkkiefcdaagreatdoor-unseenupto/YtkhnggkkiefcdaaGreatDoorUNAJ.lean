/- larder: joined texts -/
import Derived.Test.YtkhnggkkiefcdaaGreatDoorUNAI
import Derived.Maps.AppendAt
namespace Go.Proofs.YtkhnggkkiefcdaaGreatDoor
open Go.RowKit Go.Shelf
set_option maxRecDepth 100000
set_option maxHeartbeats 8000000
attribute [local go_sem] GX
abbrev Ef:=@Go.callsIn_of_wp_marks
abbrev EL:=@Go.run_takeDeferred
abbrev DF:=@Go.wpListIn_append_own
abbrev DH:=@Go.Boxed.new
abbrev DT:=@Go.OwnFrom.and
abbrev Ba:=@Go.ownsRow_succ
theorem XC{F:Fence}{n:Nat}{P:Program}{w:World}{g:Array Oper}{b:List Oper}{o:Oper}{a:Act}{Q:Exit->Act->World->Prop}{R:Value->World->Prop}(k:o.guard=none)(s x:Operand)(t u:TypeId)
 (l:o.op=.call {callee:=.builtin .append,args:=#[s,x],argTypes:=#[t,u]})(v m:Value)(y:a.eval s=v)(A:a.eval x=m)
 (f:∃ d e,(Builtin.append_ #[t,u] o.type #[v,m]).run P w=.ok d e/\R d e)
 (h:∀ d e,R d e->wpListIn F n P g Q b (a.put o.dst d) e):wpListIn F n P g Q (o::b) a w:=by
 obtain⟨d,e,r,q⟩:=f;refine wpListIn_plain k fun K i=>?_;unfold Oper.wpIn;refine⟨?_,?_⟩
 .simp[Oper.about,l,resolve,Target.leads,Sem.run_pure]
 .rw[Oper.semAt_plain F _ _ (by rw[l];intro c j;cases j)]
  simp[execOp,l,resolve,invoke,builtin,y,A,r,Result.andThen];exact i _ _ (h d e q)
theorem Mj(b:Nat)(a:Option Addr)(n c:Nat)(w:World)(f:w.cell? ⟨b,0,none⟩=some (.slice a n c)) :
 Calls Tryz.prog 134 #[.pointer (some ⟨b,0,none⟩)] w fun e d=>e=.returned (.int .i64 n)/\d=w:=by
 go_enter Tryz.func134,Tryz.ntmps134
 go_wp2
 go_ret;exact⟨rfl,rfl⟩
theorem Uk{w:World}{base:Nat}{e:TypeId}{size n:Nat}{v:Value}{c:List Value}(h:w.ownsRow base e size v n c):w.ownsRow 0 e size v n c:=by
 refine⟨h.1,?_⟩;rcases h.2 with d|⟨g,a,b,f,i,r⟩
 .exact .inl d
 .exact .inr ⟨g,a,b,f,II _,r⟩
theorem Ot(i:Nat)(v:Value)(f:List (ByteArray × Value))(w:World)(J:w.cell? ⟨i,0,none⟩=some v)(a9:i<w.heap.size)(hv:Wm w v f)(I:∀ e∈f,∃ a m c,e.2=.slice a m c)(R:f.length<1000000000) :
 Calls Tryz.prog 143 #[.pointer (some ⟨i,0,none⟩)] w fun e w'=>∃ C,e=.returned C/\w'.ownsRow 0 9 1 C f.length (strs (zy f))/\Fr Nil w w'/\(∀ k,C.ownBlock=some k->w.heap.size<=k):=by
 obtain⟨a0,c0,b3⟩:=zg hv.own;have HL:=Z (Mj i a0 f.length c0 w (by rw[J,b3]));refine(Gl (n:=8)).1 ?_;refine Ef Tryz.func143 rfl trivial ?_ rfl;simp only[Tryz.ntmps143,GP,Iz,Ho,Nat.reduceAdd,Nat.reduceSub,GV,GW,Fv,Fc,Hh,IU];obtain⟨ti,tz,X,Y,a1,a2,b1⟩:=Y0 Xe;have HV:=Z hv;have a4:=Z J;clear hv J
 gi_wp2_with (first
  | (refine⟨trivial,?_⟩;gi_at_call 134;refine(Gl.2 HL.out).mono ?_;rintro e w1 ⟨rfl,b8⟩;subst w1)
  | (gi_at_make;refine wpListIn_make_own _ rfl _ _ 91 rfl w.heap.size 9 ti tz 1 Fu X Y a1 .i64 .i64 f.length f.length rfl rfl rfl (by rw[a2];omega) (by unfold maxLen;omega) (Io _) ?_;intro g r d))
 refine⟨trivial,?_⟩;refine(Gl.2 (TD i _)).mono ?_;rintro e w3 ⟨rfl,rfl⟩;have V:=d.size;have bO:=DH g 91 (.slice (some ⟨w.heap.size,0,none⟩) 0 f.length);have bM:=DH (g.alloc (.cells #[.slice (some ⟨w.heap.size,0,none⟩) 0 f.length] 91)) 236 (.pointer (some ⟨i,0,none⟩));rw[FE] at bM;have t:Below w.heap.size w ((g.alloc (.cells #[.slice (some ⟨w.heap.size,0,none⟩) 0 f.length] 91)).alloc (.cells #[.pointer (some ⟨i,0,none⟩)] 236)) :=
  ((Below.grown (CF _ w) d (Io _) (fun k e=>by cases e)).alloc V _).alloc (by simp;omega) _
 have s:=(r.alloc (.cells #[.slice (some ⟨w.heap.size,0,none⟩) 0 f.length] 91)).alloc (.cells #[.pointer (some ⟨i,0,none⟩)] 236);generalize G:(g.alloc (.cells #[.slice (some ⟨w.heap.size,0,none⟩) 0 f.length] 91)).alloc (.cells #[.pointer (some ⟨i,0,none⟩)] 236)=W0 at t s bM;have b7:W0.heap.size=g.heap.size+2:=by rw[<- G];simp
 have a5:Boxed W0 g.heap.size 91 (.slice (some ⟨w.heap.size,0,none⟩) 0 f.length):=by rw[<- G];exact bO.alloc _
 clear G bO d r
 gi_wp2_with fail
 refine wpIn_rangeFunc_ownF rfl (by decide) (gf:=217) (lb:=#[.pointer (some ⟨g.heap.size+1,0,none⟩)]) rfl trivial (EX CE (by kernel_rfl) rfl)
  (Mg Fence.wide 7 trivial rfl (by decide) (g.heap.size+1) i v f (fun k=>k<w.heap.size\/k=g.heap.size+1) W0 (by omega) (fun k o=>by omega) (by omega) (by omega) (fun k o=>.inl (own_lt HV.out.own o)) I bM.cell ((t.cell (p:=⟨i,0,none⟩) a9).trans a4.out) (ze HV.out.own (Fr.Am (S:=Nil) t) (fun _ _=>id)))
  KpX.trans (KpX.put (fun k o=>by omega)) (CF _ _) (fun _=>rfl)
  (fun pre W=>(∃ C,Boxed W g.heap.size 91 C/\W.ownsRow w.heap.size 9 1 C pre.length (strs (pre.map Prod.fst))/\True)/\Below w.heap.size w W/\W0.heap.size<=W.heap.size/\Boxed W (g.heap.size+1) 236 (.pointer (some ⟨i,0,none⟩)))
  (fun _ _ _=>False)
  (DT (Own.from (holdsRow_own w.heap.size g.heap.size 91 9 1 (fun pre:List (ByteArray × Value)=>pre.length) (fun pre=>strs (pre.map Prod.fst)) (fun _ _=>True)) _) (DT (ownFrom_below (by omega) (by omega)) (DT (fun _ A B row hs hg _=>Im hs hg.size) (Own.from (boxed_own _ _ _) _))))
  (fun _ _ _ _ _ hs _ _=>hs)
  ⟨⟨_,a5,s,trivial⟩,t,Io _,bM⟩
  (fun x=>{tmps:=#[.pointer (some ⟨i,0,none⟩),undef,.slice none 0 0,.pointer (some ⟨g.heap.size,0,none⟩),.string x.1,.pointer (some ⟨i,0,none⟩),.int .i64 f.length,.slice (some ⟨w.heap.size,0,none⟩) 0 f.length,.pointer (some ⟨i,0,none⟩),.func (.func 217) #[] #[.pointer (some ⟨g.heap.size+1,0,none⟩)],.string x.1,x.2,undef,undef,undef,undef,undef],defers:=[]}) ?assign ?body ?done ?stop
 case assign =>
  intro l x W K Q
  gi_wp2
  exact Q
 case body =>
  rintro l pre x W ⟨⟨C,M,b,_⟩,O,T,y⟩ R;have hc:=M.cell;have hf:=M.frozen;have a8:pre.length<1000000000:=by omega
  gi_wp2_with (gi_at_builtin;go_must (refine DF _ rfl _ _ 91 rfl w.heap.size 9 ti tz 1 16 Fu X Y a1 a2 b1 (by decide) _ _ _ rfl (b.alloc _) ⟨W.heap.size,0,none⟩ 1 1 [.string x.1] rfl rfl (Ct _ _ _) (by simp[Value.oneCell']) (by unfold maxLen;omega) (by omega) (by have:=O.size;simp;omega) ?_;intro v1 w1 q j _;obtain⟨g',N,rfl⟩:=Ba q;obtain⟨a3,b2,b0,a7,u⟩:=M.appended (by decide) b O.size (by omega) q j;have b4:=j.block (g.heap.size+1) (by simp;omega) (y.not_row (by decide) b);have b5:=a3.cell;have b6:=a3.frozen))
  have E:Boxed (w1.setCell ⟨g.heap.size,0,none⟩ (.slice (some ⟨g',0,none⟩) (pre.length+1) N)) (g.heap.size+1) 236 (.pointer (some ⟨i,0,none⟩)):=Boxed.other (show Boxed w1 _ _ _ from b4.trans ((y.alloc _))) (by omega) _;refine⟨a7,⟨fun k o=>?_,u.size⟩,⟨_,b2,by simpa [strs] using b0,trivial⟩,O.trans u,Im T u.size,E⟩;rcases o with o|o
  .exact u.block k o
  .subst o
   exact Eq.trans (show _=_ from E) (Eq.symm (show _=_ from y))
 case done =>
  rintro D ys W hD rfl ⟨⟨C,M,b,_⟩,O,T,y⟩ Q;have hc:=M.cell
  gi_wp2_with fail
  refine⟨by simp,.inl ⟨_,_,rfl,EL Q,?_⟩⟩;have a6:Below w.heap.size w (W.putObj D (.deferred none)):=O.trans (belowK_b (w:=w) (Io _) W D _ _ (by omega) Q rfl rfl);have L:=ownsRow_putObj b (.deferred none) Q rfl;refine⟨_,CR rfl _ _ _,_,rfl,Uk (base:=w.heap.size) ?_,Fr.Am a6,?_⟩
  .exact L
  .exact(fun k o=>(b.lt k o).1:∀ k,C.ownBlock=some k->w.heap.size<=k)
 case stop =>
  rintro D c pre W _ _ h _;exact h.elim
theorem Ou(b:Nat)(L:SL)(S:SM)(w:World)(h:SRep w b L S)(g:S.keys.length<1000000000) :
 Calls Tryz.prog 92 #[.pointer (some ⟨b,0,none⟩)] w fun e i=>∃ f,e=.returned f/\i.ownsRow 0 9 1 f S.keys.length (strs (S.keys.map Prod.fst))/\Fr Nil w i/\(∀ k,f.ownBlock=some k->w.heap.size<=k):=by
 have d:L.BD.length=S.keys.length:=h.pair.length;have m:=Z (Ot b L.kv L.BD w (h.Bi.cell 0) h.Bi.lt h.yo (fun e s=>by obtain⟨l,u⟩:=h.pair.mem e s;obtain⟨a,c,t⟩:=zg u;exact⟨a,_,c,t⟩) (by omega));have j:=Z h.pair.keys;have o:=Z d;clear h d;go_enter Tryz.func92,Tryz.ntmps92
 go_wp2_with (refine m.out.mono ?_;rintro e v ⟨f,rfl,p,q,r⟩)
 go_ret;exact⟨f,rfl,by rw[<- o.out,<- j.out];exact p,q,r⟩
theorem VF(L:NL)(N:NM)(M:DM)(w:World)(h:NRep w L N M)(a:N.S.keys.length<1000000000) :
 Calls Tryz.prog 44 #[.pointer (some ⟨L.nb,0,none⟩)] w fun e c=>∃ b,e=.returned b/\c.ownsRow 0 9 1 b N.S.keys.length (strs (N.S.keys.map Prod.fst))/\Fr Nil w c/\(∀ k,b.ownBlock=some k->w.heap.size<=k):=by
 have j:w.cell? ⟨L.nb,2,none⟩=some (.pointer (some ⟨L.sb,0,none⟩)):=h.Bi.cell 2;have d:=Z (Ou L.sb L.LS N.S w h.held a);clear h;go_enter Tryz.func44,Tryz.ntmps44
 go_wp2_with (refine d.out.mono ?_;rintro e l ⟨b,rfl,f,g,i⟩)
 go_ret;exact⟨b,rfl,f,g,i⟩
end Go.Proofs.YtkhnggkkiefcdaaGreatDoor
namespace Go.Proofs.YtkhnggkkiefcdaaGreatDoor
open Go.RowKit
set_option maxRecDepth 100000
set_option maxHeartbeats 8000000
theorem KE{K:Keys}{a:ByteArray}(i:Nat)(f:i<K.length)(c:∀ j (b:j<K.length),j<i->(K[j].1==a)=false)(d:(K[i].1==a)=true):ZH K a=K[i].2:=by
 unfold ZH;have:K.find? (fun e=>e.1==a)=some K[i]:=by
  rw[List.find?_eq_some_iff_getElem];exact⟨d,i,f,rfl,fun j b=>by simp[c j (by omega) b]⟩
 rw[this]
def LM.delete(m:LM)(a:ByteArray):LM:={m with keys:=zX m.keys a []}
def LM.putV(m:LM)(a b:ByteArray)(c:Int):Ver :=
 ⟨m.node,c,grV (ZH m.keys a) 0,grV (ZH m.keys a) 1,grV (ZH m.keys a) 2,grV (ZH m.keys a) 3,b,false⟩
def LM.put(m:LM)(b a:ByteArray)(c:Int):LM:={m with keys:=zX m.keys b [m.putV b a c]}
def LM.hint(m:LM)(b:Nat)(a:ByteArray):LM:={m with hints:=m.hints++[(b,a)]}
def LM.AH(m:LM):LM:={m with hints:=m.hints.drop 1}
def Z8(self:Nat)(a:ByteArray)(v:Ver):Int:=if zF a=false then 2 else if 128<v.value.size then 3 else if foreign self v=false then 5 else 0
end Go.Proofs.YtkhnggkkiefcdaaGreatDoor
