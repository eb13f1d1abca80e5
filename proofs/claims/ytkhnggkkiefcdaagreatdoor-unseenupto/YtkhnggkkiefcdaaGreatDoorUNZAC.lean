/- larder: joined texts -/
import Derived.Test.YtkhnggkkiefcdaaGreatDoorUNZAA
import Derived.Test.YtkhnggkkiefcdaaGreatDoorUNAX
import Derived.BigQuiet
namespace Go.Proofs.YtkhnggkkiefcdaaGreatDoor
open Go.RowKit
set_option maxRecDepth 100000
set_option maxHeartbeats 8000000
theorem PP{w:World}{g a:Nat}{l:List Ver}(h:w.ownsRow 0 37 8 (.slice (some ⟨g,0,none⟩) l.length a) l.length (zV l))(i j:Nat)(e:i<l.length)(c:j<8):w.cell? ⟨g,i*8+j,none⟩=l[i].cells[j]?:=by
 have b:=U6 l i j e c;have d:j<l[i].cells.length:=by rw[Ver.BX];exact c
 rw[IB d] at b |-;exact own_cell? h _ _ b
theorem MW(va vb:Value)(l m:List Ver)(n:Nat)(w:World)(ha:VRow w va l)(hb:VRow w vb m)(h:zx n l m)(hl:l.length<=1000) :
 Calls Tryz.prog 45 #[va,vb,.int .i64 (n:Int)] w fun e w'=>e=.returned (.bool true)/\Fr Nil w w':=by
 obtain⟨a,ca,rfl⟩:=zg ha;obtain⟨b,cb,rfl⟩:=zg hb;have K:=h.len;obtain⟨q,hq⟩:∃ q,l.length=q:=⟨_,rfl⟩;have R:m.length=q:=by rw[<- K];exact hq
 have T:Hid (w.ownsRow 0 37 8 (.slice a l.length ca) l.length (zV l)):=ha;have V:Hid (w.ownsRow 0 37 8 (.slice b m.length cb) m.length (zV m)):=hb;have Y:=Z h;have HQ:=Z (And.intro hq R);have b0:q<=1000:=by omega
 rw[hq,R];clear ha hb h K hl hq R;go_enter Tryz.func45,Tryz.ntmps45;go_wp2_with fail
 go_loopw [7] (fun t7 w'=>∃ i:Nat,i<=q/\t7=.int .i64 i/\Fr Nil w w') (fun t7 _=>q-(intOf t7).toNat)
 case atStart=>exact⟨0,II _,rfl,U _ _⟩
 case round =>
  obtain⟨i,hi,rfl,I⟩:=hrel;by_cases a2:i<q
  .have h1:i<l.length:=by rw[HQ.out.1];exact a2
   have h2:i<m.length:=by rw[HQ.out.2];exact a2
   obtain⟨g,a5,e1,_,_⟩:=zv T.out (by rw[HQ.out.1];omega);obtain⟨g2,a6,e2,_,_⟩:=zv V.out (by rw[HQ.out.2];omega);simp only[GE] at e1 e2;obtain⟨rfl,-,-⟩:=e1;obtain⟨rfl,-,-⟩:=e2;have hv:=Y.out.get i h1 h2;have B:∀ S,Fr Nil w S->∀ j,j<8->S.cell? ⟨g,i*8+j,none⟩=l[i].cells[j]?:=fun S f j hj=>PP (ze T.out f (fun _ _=>id)) i j h1 hj;have C:∀ S,Fr Nil w S->∀ j,j<8->S.cell? ⟨g2,i*8+j,none⟩=m[i].cells[j]?:=fun S f j hj=>PP (ze V.out f (fun _ _=>id)) i j h2 hj;generalize l[i]'h1=u at hv B;generalize m[i]'h2=v at hv C;obtain⟨nd,s,o0,o1,o2,o3,b3,gn⟩:=u;obtain⟨b2,s2,p0,p1,p2,p3,a7,a8⟩:=v;obtain⟨a3,J,E,a4,-⟩:=hv;simp only at a3 J a4;subst a3 a4;have M:=E 0 (by decide) (by decide);have N:=E 1 (by decide) (by decide);have O:=E 2 (by decide) (by decide);have Q:=E 3 (by decide) (by decide);simp only[Ver.ov,Gh,show(1:Int)≠0 by decide,show(2:Int)≠0 by decide,show(2:Int)≠1 by decide,show(3:Int)≠0 by decide,show(3:Int)≠1 by decide,show(3:Int)≠2 by decide,Hy] at M N O Q;have G:=Z (And.intro M (And.intro N (And.intro O Q)));have r:=Z B;have t:=Z C;have u0:=B wr I 0 (by decide);have u1:=B wr I 1 (by decide);have u6:=B wr I 6 (by decide);have v0:=C wr I 0 (by decide);have v1:=C wr I 1 (by decide);have v6:=C wr I 6 (by decide);simp only[Ver.cells,Ga,GB,Fs] at u0 u1 u6 v0 v1 v6;have X:=Z I;have a9:(i:Int)<q:=by omega
   have b1:IntKind.i64.wrap ((i:Int)+1)=(i:Int)+1:=by rw[Hg];omega
   clear E M N O Q B C I;by_cases D:nd=(n:Int)
   case' pos =>
    have a0:(nd != (n:Int))=false:=by simp[D]
    clear J D
   case' neg =>
    have a0:(nd != (n:Int))=true:=by simp[D]
    have hs:=J D;subst hs;clear J D
   all_goals
    go_wp2_with fail
    go_quiet (fail)
    clear u0 u1 u6 v0 v1 v6 a0;go_wp2_with fail
    go_loopw [8] (fun t8 w'=>∃ k:Nat,k<=4/\t8=.int .i64 k/\Fr Nil w w') (fun t8 _=>4-(intOf t8).toNat)
    case atStart=>exact⟨0,by omega,rfl,X.out.drewN _⟩
    case round =>
     obtain⟨k,hk,rfl,a1⟩:=hrel;have hj:k=0\/k=1\/k=2\/k=3\/k=4:=by omega
     have o:=Z a1;clear a1;rcases hj with rfl|rfl|rfl|rfl|rfl
     .have c1:=r.out wr o.out 2 (by decide)
      have L:=t.out wr o.out 2 (by decide);simp only[Ver.cells,Ga,GB] at c1 L;have d:=G.out.1;clear r t G X Y T V;by_cases c:(n:Int)=0
      case' pos =>
       have y:((0:Int) != (n:Int))=false:=by simp[c]
       clear d c
      case' neg =>
       have y:((0:Int) != (n:Int))=true:=by simp;exact fun x=>c x.symm
       have A:=d (fun x=>c x.symm);subst A;clear d c
      all_goals
       go_wp2_with fail
       go_quiet (fail)
       go_wp2_with fail;exact⟨⟨1,by omega,by simp,o.out.drewN _⟩,by simp[intOf]⟩
     .have c1:=r.out wr o.out 3 (by decide)
      have L:=t.out wr o.out 3 (by decide);simp only[Ver.cells,Ga,GB] at c1 L;have d:=G.out.2.1;clear r t G X Y T V;by_cases c:(n:Int)=1
      case' pos =>
       have y:((1:Int) != (n:Int))=false:=by simp[c]
       clear d c
      case' neg =>
       have y:((1:Int) != (n:Int))=true:=by simp;exact fun x=>c x.symm
       have A:=d (fun x=>c x.symm);subst A;clear d c
      all_goals
       go_wp2_with fail
       go_quiet (fail)
       go_wp2_with fail;exact⟨⟨2,by omega,by simp,o.out.drewN _⟩,by simp[intOf]⟩
     .have c1:=r.out wr o.out 4 (by decide)
      have L:=t.out wr o.out 4 (by decide);simp only[Ver.cells,Ga,GB] at c1 L;have d:=G.out.2.2.1;clear r t G X Y T V;by_cases c:(n:Int)=2
      case' pos =>
       have y:((2:Int) != (n:Int))=false:=by simp[c]
       clear d c
      case' neg =>
       have y:((2:Int) != (n:Int))=true:=by simp;exact fun x=>c x.symm
       have A:=d (fun x=>c x.symm);subst A;clear d c
      all_goals
       go_wp2_with fail
       go_quiet (fail)
       go_wp2_with fail;exact⟨⟨3,by omega,by simp,o.out.drewN _⟩,by simp[intOf]⟩
     .have c1:=r.out wr o.out 5 (by decide)
      have L:=t.out wr o.out 5 (by decide);simp only[Ver.cells,Ga,GB] at c1 L;have d:=G.out.2.2.2;clear r t G X Y T V;by_cases c:(n:Int)=3
      case' pos =>
       have y:((3:Int) != (n:Int))=false:=by simp[c]
       clear d c
      case' neg =>
       have y:((3:Int) != (n:Int))=true:=by simp;exact fun x=>c x.symm
       have A:=d (fun x=>c x.symm);subst A;clear d c
      all_goals
       go_wp2_with fail
       go_quiet (fail)
       go_wp2_with fail;exact⟨⟨4,by omega,by simp,o.out.drewN _⟩,by simp[intOf]⟩
     .clear r t G X
      go_wp2_with fail;exact⟨⟨i+1,by omega,by push_cast;rfl,o.out⟩,by simp[intOf];omega⟩
  .have hin:i=q:=by omega
   subst hin;go_wp2_with fail;go_ret;exact⟨rfl,I⟩
end Go.Proofs.YtkhnggkkiefcdaaGreatDoor
