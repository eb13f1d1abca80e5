/- larder: joined texts -/
import Derived.Test.YtkhnggkkiefcdaaGreatDoorKRAU
import Derived.Test.YtkhnggkkiefcdaaGreatDoorKRAZ
import Derived.LaidSub
import Derived.Lib.LaidTab
import Derived.Stop.LaidErr
namespace Go.Proofs.YtkhnggkkiefcdaaGreatDoor
open Go.RowKit Go.ChangeShapes
set_option maxRecDepth 100000
abbrev Av:=@Go.laidMetH_iff
theorem N9{W:World}(h:laidMetH Tryz.prog Rows.writesRow.laid W):Tab W:=by
 have a:=(Av.1 h).1.filter (fun x=>x.1==XU);have e:((Rows.writesRow.laid.filter fun x=>x.2.handleName?.isNone).filter fun x=>x.1==XU)=[(XU,Lib.tabData .u64 Lib.pow10Tab)]:=by kernel_rfl
 rw[e] at a;exact Lib.tabIs_of_head (rest:=[]) (g:=1) (by kernel_rfl) (t:=322) (by kernel_rfl) Tryz.underlying322 Tryz.underlying274 (by kernel_rfl) (by kernel_rfl) a
theorem ST:Tryz.prog.globalNamed XU=some 1:=by kernel_rfl
theorem LR:Tryz.prog.globalNamed "errors.errorType"=some 0:=by kernel_rfl
theorem LT:Tryz.prog.types.size=396:=by kernel_rfl
theorem Jz:((List.range 396).filter fun t=>Tryz.prog.rowNamed t [101,114,114,111,114])=[132]:=by kernel_rfl
theorem Na{W:World}(h:laidMetH Tryz.prog Rows.writesRow.laid W):Hnd W:=by
 have c:=(Av.1 h).2;have e:(Rows.writesRow.laid.filter fun x=>x.2.handleName?.isSome)=[("errors.errorType",Rows.laid_errors_errorType)]:=by kernel_rfl
 rw[e] at c;obtain⟨a,u,ty,f,g,i,j,b⟩:=c _ (Gg.2 rfl);have k:a=[101,114,114,111,114]:=(GG f).symm;subst k;have l:some u=some 309:=g.symm.trans (by kernel_rfl);obtain rfl:=GG l;have d:ty∈(List.range 396).filter fun t=>Tryz.prog.rowNamed t [101,114,114,111,114]:=EX.2 ⟨Cs.2 (by rw[<- LT];exact i),j⟩;rw[Jz] at d;obtain rfl:=Gg.1 d;have m:typeHandle Tryz.prog 132=.pointer (some ⟨6,132,none⟩):=by kernel_rfl
 rw[m] at b;have:=World.var?_cell LR b 0;unfold Hnd
 simpa using this
theorem QB{W:World}(h:laidMetH Tryz.prog Rows.writesRow.laid W):X9 W.heap.size W:=by
 have a:=N9 h;have b:=Na h;refine⟨a,fun g c=>?_,b,VM b⟩;have:=GG (ST.symm.trans c);subst this;exact VM (a.cell ST 0 (by decide))
theorem SU:Tryz.prog.globalNamed "strconv.ErrSyntax"=some 4:=by kernel_rfl
theorem Iy:(Tryz.prog.globals[4]?).map (·.type)=some 132:=by kernel_rfl
theorem Um{W:World}(h:laidMetH Tryz.prog Rows.writesRow.laid W):Yn W:=by
 have b:=(Av.1 h).1.filter (fun x=>x.1== "strconv.ErrSyntax");have e:((Rows.writesRow.laid.filter fun x=>x.2.handleName?.isNone).filter fun x=>x.1== "strconv.ErrSyntax")=[("strconv.ErrSyntax",Rows.laid_strconv_ErrSyntax)]:=by kernel_rfl
 rw[e] at b;obtain⟨a,s,c,_⟩:=laid_sentinel b SU Iy Tryz.underlying132 (fun u h => typeName_ptr_named (P := Tryz.prog) (nm := "errors.errorString") (by kernel_rfl) (by kernel_rfl) (by decide) u (h.trans (congrArg some (by decide)))) Tryz.underlying348 Tryz.underlying350 rfl rfl Ec (by kernel_rfl) (by kernel_rfl);have:=World.var?_cell SU c 0;exact⟨VM (p:=⟨4,0,none⟩) (by simpa using this),_,_,by simpa using this⟩
theorem UW{W:World}(h:laidMetH Tryz.prog Rows.writesRow.laid W):zG W.heap.size W :=
 ⟨QB h,Um h,(Um h).1⟩
end Go.Proofs.YtkhnggkkiefcdaaGreatDoor
