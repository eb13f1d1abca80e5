/- larder: joined texts -/
import Derived.Test.YtkhnggkkiefcdaaGreatDoorSFAI
import Derived.Test.YtkhnggkkiefcdaaGreatDoorSFAJ
namespace Go.Proofs.YtkhnggkkiefcdaaGreatDoor
open Go.RowKit
set_option maxRecDepth 100000
set_option maxHeartbeats 8000000
def LM.accept(m:LM)(key:ByteArray)(v:Ver):LM:={m with keys:=zX m.keys key (Wg (zE m.keys key) v)}
def zF(a:List Ver)(v x:Ver)(done b o:Bool):List Ver × Bool:=((if b=true/\done=false then a++[v] else a)++(if o=true then [] else [x]),done||b)
def Zi(a:List Ver)(v:Ver):Nat:=if a.any v.BF=true then 0 else if v.gone=false/\4<=(zx a v).length then 1 else if v.gone=true/\(zx a v).length=a.length then 0 else 2
theorem Q5(K:Nat->Prop)(p:Nat)(m:LM)(key:ByteArray)(v:Ver)(w:World)(h:MRep K w p m)(k0:m.keys.length<100000000)(j3:∀ u∈zE m.keys key,zS u.node)(hv:zS v.node)(l4:(zE m.keys key).length<100000) :
 Calls Tryz.prog 112 #[.pointer (some ⟨p,0,none⟩),.string key,.agg v.cells.toArray] w fun e d =>
  (Zi (zE m.keys key) v=0/\e=.returned (.tuple #[.pointer (some ⟨p,0,none⟩),.int .i64 0])/\Fr Nil w d) \/
  (Zi (zE m.keys key) v=1/\e=.returned (.tuple #[.pointer none,.int .i64 6])/\Fr Nil w d) \/
  (Zi (zE m.keys key) v=2/\∃ nb,e=.returned (.tuple #[.pointer (some ⟨nb,0,none⟩),.int .i64 0])/\MRep (KGr K w d) d nb (m.accept key v)/\Fr Nil w d/\w.heap.size<=nb):=by
 obtain⟨kv,k5,i6,ha,hb⟩:=h;have i8:=Blk.new w v.cells 37;have f0:Fr Nil w (w.alloc (.cells v.cells.toArray 37)):=(O _ _).alloc _;have HA:=Z ha;have HB:=Z hb;have j7:=Z j3;have HV:=Z hv;have j8:Hid (∀ (a u:Ver) (W:World),zS u.node->Calls Tryz.prog 159 #[.agg a.cells.toArray,.agg u.cells.toArray] W fun e d=>e=.returned (.bool (a.over u))/\Fr Nil W d):=fun a u W hu=>T6 a u hu W;have f8:Hid (Zi (zE m.keys key) v=if (zE m.keys key).any v.BF=true then 0 else if v.gone=false/\4<=(zx (zE m.keys key) v).length then 1 else if v.gone=true/\(zx (zE m.keys key) v).length=(zE m.keys key).length then 0 else 2):=rfl;have k8:Hid (m.accept key v={m with keys:=zX m.keys key (Wg (zE m.keys key) v)}):=rfl;have k2:Hid (∀ (l:List Ver) i (hi:i<l.length),zx (l.take (i+1)) v=zx (l.take i) v++if v.over l[i]=true then [] else [l[i]]):=by
  intro l i hi;unfold zx;rw[Hj hi,List.filter_append]
  congr 1
  cases hv:v.over l[i] <;> simp[hv]
 have k9:Hid (∀ u:Ver,v.BF u=((u.node==v.node&&u.seq==v.seq)||u.over v)):=fun u=>rfl;clear ha hb j3 hv;generalize l6:w.alloc (.cells v.cells.toArray 37)=wb at i8 f0;generalize l3:w.heap.size=b at i8;have l0:=Z l6;have i3:=Z l3;clear l6 l3;have h0:=Z i8;have e7:=Z f0;have m2:=i8.lt;clear i8 f0;obtain⟨node,r,z,A,B,C,c,gone⟩:=v;simp only[Ver.cells] at h0 l0 |-;go_enter Tryz.func112,Tryz.ntmps112;go_wp2_with fail;rw[l0.out,i3.out];refine(Yi p kv k5 i6 m key wb (HA.out.nil e7.out)).mono ?_;rintro e w1 ⟨ov,rfl,h7,l5,l8⟩;subst l8;have hn:=zH h7;unfold maxLen at hn;obtain⟨va,vc,rfl⟩:=zc h7;have d8:=Z h7;generalize h8:zE m.keys key=s at hn l4 d8 j7 f8 k8 |-;have b8:=Z h8;clear h8;clear h7 l5;go_wp2_with fail
 go_loopw [9,10] (fun t9 k6 d=>∃ i:Nat,i<=s.length/\k6=.int .i64 i/\t9=.int .i64 (zx (s.take i) ⟨node,r,z,A,B,C,c,gone⟩).length/\(∀ j (hj:j<s.length),j<i->(Ver.BF ⟨node,r,z,A,B,C,c,gone⟩) s[j]=false)/\Fr Nil w1 d) (fun _ k6 _=>s.length-(intOf k6).toNat)
 case atStart=>exact⟨0,Hg _,rfl,rfl,fun j _ hj=>absurd hj (Gb _),O _ _⟩
 case round =>
  obtain⟨i,hi,rfl,rfl,hj,hf⟩:=hrel;have S:=(h0.out.fr hf id).cell;by_cases b9:i<s.length
  .obtain⟨g,rfl⟩:∃ g,va=some ⟨g,0,none⟩:=by
    obtain⟨g,l1,h,_⟩:=zm d8.out (by omega);simp at h;exact⟨g,h.1⟩
   have I:Hid (∀ D,Fr Nil w1 D->∀ j,j<8->D.cell? ⟨g,i*8+j,none⟩=s[i].cells[j]?):=fun D f j j0=>VRow.cells (zb d8.out f (fun _ _=>id)) i b9 j j0;have N:Hid (∀ D,Fr Nil w1 D->∀ j,D.cell? ⟨b,j,none⟩=(Ver.cells ⟨node,r,z,A,B,C,c,gone⟩)[j]?):=fun D f j=>(h0.out.fr f id).cell j;have hx:=j7.out s[i] (IX b9);have e0:=Z (k2.out s i b9);have k1:Hid ((Ver.BF ⟨node,r,z,A,B,C,c,gone⟩) s[i]=false->∀ j (hj:j<s.length),j<i+1->(Ver.BF ⟨node,r,z,A,B,C,c,gone⟩) s[j]=false):=by
    intro T j k4 m4;by_cases e:j=i
    .subst e;exact T
    .exact hj j k4 (by omega)
   have h6:Hid ((Ver.BF ⟨node,r,z,A,B,C,c,gone⟩) s[i]=true->s.any (Ver.BF ⟨node,r,z,A,B,C,c,gone⟩)=true):=fun T=>Dw.2 ⟨s[i],IX b9,T⟩;have f6:=Z (k9.out s[i]);have HX:=Z hx;have J:=Z hf;have l2:(zx (s.take i) ⟨node,r,z,A,B,C,c,gone⟩).length<100000:=by have:=WQ (s.take i) ⟨node,r,z,A,B,C,c,gone⟩;have:=List.length_take_le' i s;omega
   have f7:=Z (fun W=>j8.out s[i] ⟨node,r,z,A,B,C,c,gone⟩ W HV.out);have a2:=Z (fun W=>j8.out ⟨node,r,z,A,B,C,c,gone⟩ s[i] W hx);clear hj hx hf;generalize s[i]=x at I e0 k1 h6 f6 HX f7 a2;obtain⟨X,Y,x0,x1,x2,x3,xv,xg⟩:=x;simp only[Ver.cells] at I N f7 a2 f6 S;have g0:=I.out wr J.out 0 (by omega);have g1:=I.out wr J.out 1 (by omega);have g2:=I.out wr J.out 2 (by omega);have g3:=I.out wr J.out 3 (by omega);have g4:=I.out wr J.out 4 (by omega);have g5:=I.out wr J.out 5 (by omega);have g6:=I.out wr J.out 6 (by omega);have g7:=I.out wr J.out 7 (by omega);simp only[Fx,GQ,GP] at g0 g1 g2 g3 g4 g5 g6 g7;have y:Hid (∀ D,Fr Nil w1 D->(fun d=>d.cell? ⟨b,0,none⟩=some (.int .i64 node)/\d.cell? ⟨b,1,none⟩=some (.int .i64 r)/\d.cell? ⟨b,2,none⟩=some (.int .i64 z)/\d.cell? ⟨b,3,none⟩=some (.int .i64 A)/\d.cell? ⟨b,4,none⟩=some (.int .i64 B)/\d.cell? ⟨b,5,none⟩=some (.int .i64 C)/\d.cell? ⟨b,6,none⟩=some (.string c)/\d.cell? ⟨b,7,none⟩=some (.bool gone)/\d.cell? ⟨g,i*8,none⟩=some (.int .i64 X)/\d.cell? ⟨g,i*8+1,none⟩=some (.int .i64 Y)/\d.cell? ⟨g,i*8+2,none⟩=some (.int .i64 x0)/\d.cell? ⟨g,i*8+3,none⟩=some (.int .i64 x1)/\d.cell? ⟨g,i*8+4,none⟩=some (.int .i64 x2)/\d.cell? ⟨g,i*8+5,none⟩=some (.int .i64 x3)/\d.cell? ⟨g,i*8+6,none⟩=some (.string xv)/\d.cell? ⟨g,i*8+7,none⟩=some (.bool xg)) D):=fun D f=>⟨N.out D f 0,N.out D f 1,N.out D f 2,N.out D f 3,N.out D f 4,N.out D f 5,N.out D f 6,N.out D f 7,I.out D f 0 (by omega),I.out D f 1 (by omega),I.out D f 2 (by omega),I.out D f 3 (by omega),I.out D f 4 (by omega),I.out D f 5 (by omega),I.out D f 6 (by omega),I.out D f 7 (by omega)⟩;clear g0 g1 g2 g3 g4 g5 g6 g7 S;obtain⟨b0,b1,b2,b3,b4,b5,b6,b7,g0,g1,g2,g3,g4,g5,g6,g7⟩:=y.out wr J.out;by_cases g8:X=node
   .by_cases hs1:Y=r
    .have i2:=Z (h6.out (by rw[f6.out];simp[g8,hs1]))
     have e1:(X==node)=true:=by simp[g8]
     have e2:(Y==r)=true:=by simp[hs1]
     clear g8 hs1;generalize Ver.over ⟨X,Y,x0,x1,x2,x3,xv,xg⟩ ⟨node,r,z,A,B,C,c,gone⟩=u at f7 f6;have HW:Hid (Zi s ⟨node,r,z,A,B,C,c,gone⟩=0):=Z (by rw[f8.out,He i2.out]);go_wp2_with fail
     go_quiet (fail)
     go_wp2_with fail
     go_region_held3 (fun d=>d.cell? ⟨b,0,none⟩=some (.int .i64 node)/\d.cell? ⟨b,1,none⟩=some (.int .i64 r)/\d.cell? ⟨b,2,none⟩=some (.int .i64 z)/\d.cell? ⟨b,3,none⟩=some (.int .i64 A)/\d.cell? ⟨b,4,none⟩=some (.int .i64 B)/\d.cell? ⟨b,5,none⟩=some (.int .i64 C)/\d.cell? ⟨b,6,none⟩=some (.string c)/\d.cell? ⟨b,7,none⟩=some (.bool gone)/\d.cell? ⟨g,i*8,none⟩=some (.int .i64 X)/\d.cell? ⟨g,i*8+1,none⟩=some (.int .i64 Y)/\d.cell? ⟨g,i*8+2,none⟩=some (.int .i64 x0)/\d.cell? ⟨g,i*8+3,none⟩=some (.int .i64 x1)/\d.cell? ⟨g,i*8+4,none⟩=some (.int .i64 x2)/\d.cell? ⟨g,i*8+5,none⟩=some (.int .i64 x3)/\d.cell? ⟨g,i*8+6,none⟩=some (.string xv)/\d.cell? ⟨g,i*8+7,none⟩=some (.bool xg)) (first|assumption|go_keep|exact y.out _ ((J.out.drewN _).trans za))
      (first|(go_at_call 159;refine(f7.out _).mono ?_;rintro e w2 ⟨rfl,l7⟩;have j9:Fr Nil wr w2:=Fr.trans za l7;have m5:=y.out w2 (J.out.trans j9)))
     have e8:Hid (Fr Nil w w2):=e7.out.trans (J.out.trans (Fr.trans (by exact za) j9))
     go_wp2
     go_ret2;exact .inl ⟨by rw[b8.out];exact HW.out,rfl,e8.out⟩
    .have e1:(X==node)=true:=by simp[g8]
     have e2:(Y==r)=false:=by simp[hs1]
     generalize Ver.over ⟨X,Y,x0,x1,x2,x3,xv,xg⟩ ⟨node,r,z,A,B,C,c,gone⟩=u at f7 f6;have d9:Hid (Ver.BF ⟨node,r,z,A,B,C,c,gone⟩ ⟨X,Y,x0,x1,x2,x3,xv,xg⟩=u):=Z (by rw[f6.out];simp[hs1]);clear hs1 g8;go_wp2_with fail
     go_quiet (fail)
     go_wp2_with fail
     go_region_held3 (fun d=>d.cell? ⟨b,0,none⟩=some (.int .i64 node)/\d.cell? ⟨b,1,none⟩=some (.int .i64 r)/\d.cell? ⟨b,2,none⟩=some (.int .i64 z)/\d.cell? ⟨b,3,none⟩=some (.int .i64 A)/\d.cell? ⟨b,4,none⟩=some (.int .i64 B)/\d.cell? ⟨b,5,none⟩=some (.int .i64 C)/\d.cell? ⟨b,6,none⟩=some (.string c)/\d.cell? ⟨b,7,none⟩=some (.bool gone)/\d.cell? ⟨g,i*8,none⟩=some (.int .i64 X)/\d.cell? ⟨g,i*8+1,none⟩=some (.int .i64 Y)/\d.cell? ⟨g,i*8+2,none⟩=some (.int .i64 x0)/\d.cell? ⟨g,i*8+3,none⟩=some (.int .i64 x1)/\d.cell? ⟨g,i*8+4,none⟩=some (.int .i64 x2)/\d.cell? ⟨g,i*8+5,none⟩=some (.int .i64 x3)/\d.cell? ⟨g,i*8+6,none⟩=some (.string xv)/\d.cell? ⟨g,i*8+7,none⟩=some (.bool xg)) (first|assumption|go_keep|exact y.out _ ((J.out.drewN _).trans za))
      (first|(go_at_call 159;refine(f7.out _).mono ?_;rintro e w2 ⟨rfl,Q⟩;have R:Fr Nil w1 w2:=J.out.trans (Fr.trans (by exact za) Q);have a9:=y.out w2 R))
     cases u with
     | true =>
      have i2:=Z (h6.out d9.out);have HW:Hid (Zi s ⟨node,r,z,A,B,C,c,gone⟩=0):=Z (by rw[f8.out,He i2.out]);have e8:Hid (Fr Nil w w2):=e7.out.trans R;clear a9
      go_wp2
      go_ret2;exact .inl ⟨by rw[b8.out];exact HW.out,rfl,e8.out⟩
     | false =>
      have i1:=Z (k1.out d9.out);clear g0 g1 g2 g3 g4 g5 g6 g7 b0 b1 b2 b3 b4 b5 b6 b7;obtain⟨b0,b1,b2,b3,b4,b5,b6,b7,g0,g1,g2,g3,g4,g5,g6,g7⟩:=a9;have L:=Z R;clear R Q;generalize Ver.over ⟨node,r,z,A,B,C,c,gone⟩ ⟨X,Y,x0,x1,x2,x3,xv,xg⟩=o at a2 e0;go_wp2_with fail
      go_region_held3 (fun d=>d.cell? ⟨b,0,none⟩=some (.int .i64 node)/\d.cell? ⟨b,1,none⟩=some (.int .i64 r)/\d.cell? ⟨b,2,none⟩=some (.int .i64 z)/\d.cell? ⟨b,3,none⟩=some (.int .i64 A)/\d.cell? ⟨b,4,none⟩=some (.int .i64 B)/\d.cell? ⟨b,5,none⟩=some (.int .i64 C)/\d.cell? ⟨b,6,none⟩=some (.string c)/\d.cell? ⟨b,7,none⟩=some (.bool gone)/\d.cell? ⟨g,i*8,none⟩=some (.int .i64 X)/\d.cell? ⟨g,i*8+1,none⟩=some (.int .i64 Y)/\d.cell? ⟨g,i*8+2,none⟩=some (.int .i64 x0)/\d.cell? ⟨g,i*8+3,none⟩=some (.int .i64 x1)/\d.cell? ⟨g,i*8+4,none⟩=some (.int .i64 x2)/\d.cell? ⟨g,i*8+5,none⟩=some (.int .i64 x3)/\d.cell? ⟨g,i*8+6,none⟩=some (.string xv)/\d.cell? ⟨g,i*8+7,none⟩=some (.bool xg)) (first|assumption|go_keep|exact y.out _ (L.out.trans za))
       (first|(go_at_call 159;refine(a2.out _).mono ?_;rintro e w3 ⟨rfl,e3⟩;have e4:Fr Nil w1 w3:=L.out.trans (Fr.trans (by exact za) e3);have j5:=y.out w3 e4))
      have f4:=Z e4;clear j5 e4 e3;cases o with
      | true =>
       rw[He rfl,Hx] at e0
       go_wp2
       exact⟨⟨i+1,by omega,by go_num,by rw[e0.out],i1.out,f4.out⟩,by simp[intOf];omega⟩
      | false =>
       rw[IV (by decide)] at e0
       go_wp2
       exact⟨⟨i+1,by omega,by go_num,by rw[e0.out,IM,IU];go_num,i1.out,f4.out⟩,by simp[intOf];omega⟩
   .have e1:(X==node)=false:=by simp[g8]
    generalize Ver.over ⟨X,Y,x0,x1,x2,x3,xv,xg⟩ ⟨node,r,z,A,B,C,c,gone⟩=u at f7 f6;have d9:Hid (Ver.BF ⟨node,r,z,A,B,C,c,gone⟩ ⟨X,Y,x0,x1,x2,x3,xv,xg⟩=u):=Z (by rw[f6.out];simp[g8]);clear g8;go_wp2_with fail
    go_quiet (fail)
    go_wp2_with fail
    go_region_held3 (fun d=>d.cell? ⟨b,0,none⟩=some (.int .i64 node)/\d.cell? ⟨b,1,none⟩=some (.int .i64 r)/\d.cell? ⟨b,2,none⟩=some (.int .i64 z)/\d.cell? ⟨b,3,none⟩=some (.int .i64 A)/\d.cell? ⟨b,4,none⟩=some (.int .i64 B)/\d.cell? ⟨b,5,none⟩=some (.int .i64 C)/\d.cell? ⟨b,6,none⟩=some (.string c)/\d.cell? ⟨b,7,none⟩=some (.bool gone)/\d.cell? ⟨g,i*8,none⟩=some (.int .i64 X)/\d.cell? ⟨g,i*8+1,none⟩=some (.int .i64 Y)/\d.cell? ⟨g,i*8+2,none⟩=some (.int .i64 x0)/\d.cell? ⟨g,i*8+3,none⟩=some (.int .i64 x1)/\d.cell? ⟨g,i*8+4,none⟩=some (.int .i64 x2)/\d.cell? ⟨g,i*8+5,none⟩=some (.int .i64 x3)/\d.cell? ⟨g,i*8+6,none⟩=some (.string xv)/\d.cell? ⟨g,i*8+7,none⟩=some (.bool xg)) (first|assumption|go_keep|exact y.out _ ((J.out.drewN _).trans za))
     (first|(go_at_call 159;refine(f7.out _).mono ?_;rintro e w2 ⟨rfl,Q⟩;have R:Fr Nil w1 w2:=J.out.trans (Fr.trans (by exact za) Q);have a9:=y.out w2 R))
    cases u with
    | true =>
     have i2:=Z (h6.out d9.out);have HW:Hid (Zi s ⟨node,r,z,A,B,C,c,gone⟩=0):=Z (by rw[f8.out,He i2.out]);have e8:Hid (Fr Nil w w2):=e7.out.trans R;clear a9
     go_wp2
     go_ret2;exact .inl ⟨by rw[b8.out];exact HW.out,rfl,e8.out⟩
    | false =>
     have i1:=Z (k1.out d9.out);clear g0 g1 g2 g3 g4 g5 g6 g7 b0 b1 b2 b3 b4 b5 b6 b7;obtain⟨b0,b1,b2,b3,b4,b5,b6,b7,g0,g1,g2,g3,g4,g5,g6,g7⟩:=a9;have L:=Z R;clear R Q;generalize Ver.over ⟨node,r,z,A,B,C,c,gone⟩ ⟨X,Y,x0,x1,x2,x3,xv,xg⟩=o at a2 e0;go_wp2_with fail
     go_region_held3 (fun d=>d.cell? ⟨b,0,none⟩=some (.int .i64 node)/\d.cell? ⟨b,1,none⟩=some (.int .i64 r)/\d.cell? ⟨b,2,none⟩=some (.int .i64 z)/\d.cell? ⟨b,3,none⟩=some (.int .i64 A)/\d.cell? ⟨b,4,none⟩=some (.int .i64 B)/\d.cell? ⟨b,5,none⟩=some (.int .i64 C)/\d.cell? ⟨b,6,none⟩=some (.string c)/\d.cell? ⟨b,7,none⟩=some (.bool gone)/\d.cell? ⟨g,i*8,none⟩=some (.int .i64 X)/\d.cell? ⟨g,i*8+1,none⟩=some (.int .i64 Y)/\d.cell? ⟨g,i*8+2,none⟩=some (.int .i64 x0)/\d.cell? ⟨g,i*8+3,none⟩=some (.int .i64 x1)/\d.cell? ⟨g,i*8+4,none⟩=some (.int .i64 x2)/\d.cell? ⟨g,i*8+5,none⟩=some (.int .i64 x3)/\d.cell? ⟨g,i*8+6,none⟩=some (.string xv)/\d.cell? ⟨g,i*8+7,none⟩=some (.bool xg)) (first|assumption|go_keep|exact y.out _ (L.out.trans za))
      (first|(go_at_call 159;refine(a2.out _).mono ?_;rintro e w3 ⟨rfl,e3⟩;have e4:Fr Nil w1 w3:=L.out.trans (Fr.trans (by exact za) e3);have j5:=y.out w3 e4))
     have f4:=Z e4;clear j5 e4 e3;cases o with
     | true =>
      rw[He rfl,Hx] at e0
      go_wp2
      exact⟨⟨i+1,by omega,by go_num,by rw[e0.out],i1.out,f4.out⟩,by simp[intOf];omega⟩
     | false =>
      rw[IV (by decide)] at e0
      go_wp2
      exact⟨⟨i+1,by omega,by go_num,by rw[e0.out,IM,IU];go_num,i1.out,f4.out⟩,by simp[intOf];omega⟩
  .obtain rfl:i=s.length:=by omega
   have i7:s.any (Ver.BF ⟨node,r,z,A,B,C,c,gone⟩)=false:=by
    rw[Di];intro x hx;obtain⟨j,k4,rfl⟩:=GF hx;rw[hj j k4 (by omega)]
    decide
   have i5:Hid (Zi s ⟨node,r,z,A,B,C,c,gone⟩=if gone=false/\4<=(zx s ⟨node,r,z,A,B,C,c,gone⟩).length then 1 else if gone=true/\(zx s ⟨node,r,z,A,B,C,c,gone⟩).length=s.length then 0 else 2):=Z (by rw[f8.out,IV (by rw[i7];decide)]);have m1:Hid (∀ u∈s,u.dot≠Ver.dot ⟨node,r,z,A,B,C,c,gone⟩):=by
    intro u hu he;have:=Di.1 i7 u hu;rw[k9.out] at this;simp only[Ver.dot,FW] at he;simp[he.1,he.2] at this
   rw[HZ];have l2:(zx s ⟨node,r,z,A,B,C,c,gone⟩).length<=s.length:=WQ s ⟨node,r,z,A,B,C,c,gone⟩;generalize hL:(zx s ⟨node,r,z,A,B,C,c,gone⟩).length=n at i5 l2 |-;have HL:=Z hL;have J:=Z hf;clear i7 hj hL hf;have m3:wr.cell? ⟨b,7,none⟩=some (.bool gone):=S 7;cases gone with
   | false =>
    by_cases hm:4<=n
    .have hm':(4:Int)<=(n:Int):=by omega
     have HW:Hid (Zi s ⟨node,r,z,A,B,C,c,false⟩=1):=Z (by rw[i5.out,He ⟨rfl,hm⟩]);have e8:Hid (Fr Nil w wr):=e7.out.trans J.out;clear hm
     go_wp2
     go_ret2;exact .inr (.inl ⟨by rw[b8.out];exact HW.out,rfl,e8.out⟩)
    .have hm':¬(4:Int)<=(n:Int):=by omega
     have HW:Hid (Zi s ⟨node,r,z,A,B,C,c,false⟩=2):=Z (by rw[i5.out,IV (fun x=>hm x.2),IV (fun x=>absurd x.1 (by decide))]);clear hm;go_wp2_with fail
     go_loopw [14,15,16] (fun j6 k7 h5 d=>∃ i:Nat,i<=s.length/\h5=.int .i64 i/\k7=.bool ((s.take i).foldl (zL ⟨node,r,z,A,B,C,c,false⟩) ([],false)).2/\VRow d j6 ((s.take i).foldl (zL ⟨node,r,z,A,B,C,c,false⟩) ([],false)).1/\(∀ k,j6.ownBlock=some k->w1.heap.size<=k)/\Fr Nil w1 d/\((s.take i).foldl (zL ⟨node,r,z,A,B,C,c,false⟩) ([],false)).1.length<=2*i) (fun _ _ h5 _=>s.length-(intOf h5).toNat)
     case atStart=>exact⟨0,Hg _,rfl,rfl,Hc _ 0 _ _,fun k T=>by simp[Value.ownBlock] at T,J.out,IQ _⟩
     case round =>
      obtain⟨i,hi,rfl,rfl,a0,f2,hf,e6⟩:=hrel;have S:=(h0.out.fr hf id).cell;by_cases b9:i<s.length
      .obtain⟨g,rfl⟩:∃ g,va=some ⟨g,0,none⟩:=by
        obtain⟨g,l1,h,_⟩:=zm d8.out (by omega);simp at h;exact⟨g,h.1⟩
       have I:Hid (∀ D,Fr Nil w1 D->∀ j,j<8->D.cell? ⟨g,i*8+j,none⟩=s[i].cells[j]?):=fun D f j j0=>VRow.cells (zb d8.out f (fun _ _=>id)) i b9 j j0;have N:Hid (∀ D,Fr Nil w1 D->∀ j,D.cell? ⟨b,j,none⟩=(Ver.cells ⟨node,r,z,A,B,C,c,false⟩)[j]?):=fun D f j=>(h0.out.fr f id).cell j;have hx:=j7.out s[i] (IX b9);have q:Hid ((s.take (i+1)).foldl (zL ⟨node,r,z,A,B,C,c,false⟩) ([],false)=zL ⟨node,r,z,A,B,C,c,false⟩ ((s.take i).foldl (zL ⟨node,r,z,A,B,C,c,false⟩) ([],false)) s[i]):=Z (by rw[Hj b9,Gq];rfl);have a2:=Z (fun W=>j8.out ⟨node,r,z,A,B,C,c,false⟩ s[i] W hx);generalize ((s.take i).foldl (zL ⟨node,r,z,A,B,C,c,false⟩) ([],false))=st at a0 e6 q |-;obtain⟨V,done⟩:=st;simp only at a0 e6 |-;obtain⟨ta,tc,rfl⟩:=zc a0;have e9:=Z a0;have M:=Z f2;have J:=Z hf;have a7:V.length<1000000:=by omega
       clear hx a0 f2 hf S;generalize s[i]=x at I q a2;obtain⟨X,Y,x0,x1,x2,x3,xv,xg⟩:=x;have h9:=Z (fun W=>Ue node r X Y W);simp only[Ver.cells] at I N a2;have q:Hid ((s.take (i+1)).foldl (zL ⟨node,r,z,A,B,C,c,false⟩) ([],false)=zF V ⟨node,r,z,A,B,C,c,false⟩ ⟨X,Y,x0,x1,x2,x3,xv,xg⟩ done (zy (node,r) (X,Y)) (Ver.over ⟨node,r,z,A,B,C,c,false⟩ ⟨X,Y,x0,x1,x2,x3,xv,xg⟩)):=q;have y:Hid (∀ D,Fr Nil w1 D->(fun d=>d.cell? ⟨b,0,none⟩=some (.int .i64 node)/\d.cell? ⟨b,1,none⟩=some (.int .i64 r)/\d.cell? ⟨b,2,none⟩=some (.int .i64 z)/\d.cell? ⟨b,3,none⟩=some (.int .i64 A)/\d.cell? ⟨b,4,none⟩=some (.int .i64 B)/\d.cell? ⟨b,5,none⟩=some (.int .i64 C)/\d.cell? ⟨b,6,none⟩=some (.string c)/\d.cell? ⟨b,7,none⟩=some (.bool false)/\d.cell? ⟨g,i*8,none⟩=some (.int .i64 X)/\d.cell? ⟨g,i*8+1,none⟩=some (.int .i64 Y)/\d.cell? ⟨g,i*8+2,none⟩=some (.int .i64 x0)/\d.cell? ⟨g,i*8+3,none⟩=some (.int .i64 x1)/\d.cell? ⟨g,i*8+4,none⟩=some (.int .i64 x2)/\d.cell? ⟨g,i*8+5,none⟩=some (.int .i64 x3)/\d.cell? ⟨g,i*8+6,none⟩=some (.string xv)/\d.cell? ⟨g,i*8+7,none⟩=some (.bool xg)) D):=fun D f=>⟨N.out D f 0,N.out D f 1,N.out D f 2,N.out D f 3,N.out D f 4,N.out D f 5,N.out D f 6,N.out D f 7,I.out D f 0 (by omega),I.out D f 1 (by omega),I.out D f 2 (by omega),I.out D f 3 (by omega),I.out D f 4 (by omega),I.out D f 5 (by omega),I.out D f 6 (by omega),I.out D f 7 (by omega)⟩;obtain⟨b0,b1,b2,b3,b4,b5,b6,b7,g0,g1,g2,g3,g4,g5,g6,g7⟩:=y.out wr J.out;generalize zy (node,r) (X,Y)=fb at h9 q;generalize Ver.over ⟨node,r,z,A,B,C,c,false⟩ ⟨X,Y,x0,x1,x2,x3,xv,xg⟩=o at a2 q;go_wp2_with fail
       go_region_held3 (fun d=>d.cell? ⟨b,0,none⟩=some (.int .i64 node)/\d.cell? ⟨b,1,none⟩=some (.int .i64 r)/\d.cell? ⟨b,2,none⟩=some (.int .i64 z)/\d.cell? ⟨b,3,none⟩=some (.int .i64 A)/\d.cell? ⟨b,4,none⟩=some (.int .i64 B)/\d.cell? ⟨b,5,none⟩=some (.int .i64 C)/\d.cell? ⟨b,6,none⟩=some (.string c)/\d.cell? ⟨b,7,none⟩=some (.bool false)/\d.cell? ⟨g,i*8,none⟩=some (.int .i64 X)/\d.cell? ⟨g,i*8+1,none⟩=some (.int .i64 Y)/\d.cell? ⟨g,i*8+2,none⟩=some (.int .i64 x0)/\d.cell? ⟨g,i*8+3,none⟩=some (.int .i64 x1)/\d.cell? ⟨g,i*8+4,none⟩=some (.int .i64 x2)/\d.cell? ⟨g,i*8+5,none⟩=some (.int .i64 x3)/\d.cell? ⟨g,i*8+6,none⟩=some (.string xv)/\d.cell? ⟨g,i*8+7,none⟩=some (.bool xg)) (first|assumption|go_keep|exact y.out _ (J.out.trans za))
        (first|(go_at_call 160;refine(h9.out _).mono ?_;rintro e w2 ⟨rfl,Q⟩;have R:Fr Nil w1 w2:=J.out.trans (Fr.trans (by exact za) Q);have a9:=y.out w2 R))
       have a8:=Z (VRow.fr e9.out (Fr.trans (by exact za) Q:Fr Nil wr w2) (fun _ _=>id));have L:=Z R;clear R Q b0 b1 b2 b3 b4 b5 b6 b7 g0 g1 g2 g3 g4 g5 g6 g7;obtain⟨b0,b1,b2,b3,b4,b5,b6,b7,g0,g1,g2,g3,g4,g5,g6,g7⟩:=a9;cases done with
       | true =>
        cases fb with
        | false =>
         go_wp2_with fail
         go_region_held3 (fun d=>d.cell? ⟨b,0,none⟩=some (.int .i64 node)/\d.cell? ⟨b,1,none⟩=some (.int .i64 r)/\d.cell? ⟨b,2,none⟩=some (.int .i64 z)/\d.cell? ⟨b,3,none⟩=some (.int .i64 A)/\d.cell? ⟨b,4,none⟩=some (.int .i64 B)/\d.cell? ⟨b,5,none⟩=some (.int .i64 C)/\d.cell? ⟨b,6,none⟩=some (.string c)/\d.cell? ⟨b,7,none⟩=some (.bool false)/\d.cell? ⟨g,i*8,none⟩=some (.int .i64 X)/\d.cell? ⟨g,i*8+1,none⟩=some (.int .i64 Y)/\d.cell? ⟨g,i*8+2,none⟩=some (.int .i64 x0)/\d.cell? ⟨g,i*8+3,none⟩=some (.int .i64 x1)/\d.cell? ⟨g,i*8+4,none⟩=some (.int .i64 x2)/\d.cell? ⟨g,i*8+5,none⟩=some (.int .i64 x3)/\d.cell? ⟨g,i*8+6,none⟩=some (.string xv)/\d.cell? ⟨g,i*8+7,none⟩=some (.bool xg)) (first|assumption|go_keep|exact y.out _ (L.out.trans za))
          (first|(go_at_call 159;refine(a2.out _).mono ?_;rintro e w5 ⟨rfl,t⟩;have G:Fr Nil w1 w5:=L.out.trans (Fr.trans (by exact za) t);have a1:=y.out w5 G))
         have F:=Z (VRow.fr a8.out (Fr.trans (by exact za) t:Fr Nil w2 w5) (fun _ _=>id));have E:=Z G;clear G t;obtain⟨b0,b1,b2,b3,b4,b5,b6,b7,g0,g1,g2,g3,g4,g5,g6,g7⟩:=a1;cases o with
         | true =>
          clear b0 b1 b2 b3 b4 b5 b6 b7 g0 g1 g2 g3 g4 g5 g6 g7
          go_wp2
          exact⟨⟨i+1,by omega,by go_num,by rw[q.out];simp[zF],by rw[q.out];simpa [zF] using F.out,M.out,E.out,by rw[q.out];simp[zF];omega⟩,by simp[intOf];omega⟩
         | false =>
          go_wp2_with (at_builtin;go_must (refine zk rfl _ _ _ _ rfl _ _ (by rfl) (by rfl) (Zw w5 _ _ F.out ⟨X,Y,x0,x1,x2,x3,xv,xg⟩ a7 _ za _ (by exact Blk.new _ [_,_,_,_,_,_,_,_] _) _) ?_;rintro v6 w6 ⟨a5,a3,a4⟩))
          refine⟨⟨i+1,?_,?_,?_,?_,?_,?_,?_⟩,?_⟩
          .omega
          .go_num
          .rw[q.out];simp[zF]
          .rw[q.out];simpa [zF] using a5
          .exact fun k T=>(a4 k T).elim (M.out k) (fun h=>IP E.out.size h)
          .exact E.out.trans' a3 (fun k T e=>by have:=(M.out) k e;omega)
          .rw[q.out];simp[zF];omega
          .simp[intOf];omega
        | true =>
         go_wp2_with fail
         go_region_held3 (fun d=>d.cell? ⟨b,0,none⟩=some (.int .i64 node)/\d.cell? ⟨b,1,none⟩=some (.int .i64 r)/\d.cell? ⟨b,2,none⟩=some (.int .i64 z)/\d.cell? ⟨b,3,none⟩=some (.int .i64 A)/\d.cell? ⟨b,4,none⟩=some (.int .i64 B)/\d.cell? ⟨b,5,none⟩=some (.int .i64 C)/\d.cell? ⟨b,6,none⟩=some (.string c)/\d.cell? ⟨b,7,none⟩=some (.bool false)/\d.cell? ⟨g,i*8,none⟩=some (.int .i64 X)/\d.cell? ⟨g,i*8+1,none⟩=some (.int .i64 Y)/\d.cell? ⟨g,i*8+2,none⟩=some (.int .i64 x0)/\d.cell? ⟨g,i*8+3,none⟩=some (.int .i64 x1)/\d.cell? ⟨g,i*8+4,none⟩=some (.int .i64 x2)/\d.cell? ⟨g,i*8+5,none⟩=some (.int .i64 x3)/\d.cell? ⟨g,i*8+6,none⟩=some (.string xv)/\d.cell? ⟨g,i*8+7,none⟩=some (.bool xg)) (first|assumption|go_keep|exact y.out _ (L.out.trans za))
          (first|(go_at_call 159;refine(a2.out _).mono ?_;rintro e w5 ⟨rfl,t⟩;have G:Fr Nil w1 w5:=L.out.trans (Fr.trans (by exact za) t);have a1:=y.out w5 G))
         have F:=Z (VRow.fr a8.out (Fr.trans (by exact za) t:Fr Nil w2 w5) (fun _ _=>id));have E:=Z G;clear G t;obtain⟨b0,b1,b2,b3,b4,b5,b6,b7,g0,g1,g2,g3,g4,g5,g6,g7⟩:=a1;cases o with
         | true =>
          clear b0 b1 b2 b3 b4 b5 b6 b7 g0 g1 g2 g3 g4 g5 g6 g7
          go_wp2
          exact⟨⟨i+1,by omega,by go_num,by rw[q.out];simp[zF],by rw[q.out];simpa [zF] using F.out,M.out,E.out,by rw[q.out];simp[zF];omega⟩,by simp[intOf];omega⟩
         | false =>
          go_wp2_with (at_builtin;go_must (refine zk rfl _ _ _ _ rfl _ _ (by rfl) (by rfl) (Zw w5 _ _ F.out ⟨X,Y,x0,x1,x2,x3,xv,xg⟩ a7 _ za _ (by exact Blk.new _ [_,_,_,_,_,_,_,_] _) _) ?_;rintro v6 w6 ⟨a5,a3,a4⟩))
          refine⟨⟨i+1,?_,?_,?_,?_,?_,?_,?_⟩,?_⟩
          .omega
          .go_num
          .rw[q.out];simp[zF]
          .rw[q.out];simpa [zF] using a5
          .exact fun k T=>(a4 k T).elim (M.out k) (fun h=>IP E.out.size h)
          .exact E.out.trans' a3 (fun k T e=>by have:=(M.out) k e;omega)
          .rw[q.out];simp[zF];omega
          .simp[intOf];omega
       | false =>
        cases fb with
        | false =>
         go_wp2_with fail
         go_region_held3 (fun d=>d.cell? ⟨b,0,none⟩=some (.int .i64 node)/\d.cell? ⟨b,1,none⟩=some (.int .i64 r)/\d.cell? ⟨b,2,none⟩=some (.int .i64 z)/\d.cell? ⟨b,3,none⟩=some (.int .i64 A)/\d.cell? ⟨b,4,none⟩=some (.int .i64 B)/\d.cell? ⟨b,5,none⟩=some (.int .i64 C)/\d.cell? ⟨b,6,none⟩=some (.string c)/\d.cell? ⟨b,7,none⟩=some (.bool false)/\d.cell? ⟨g,i*8,none⟩=some (.int .i64 X)/\d.cell? ⟨g,i*8+1,none⟩=some (.int .i64 Y)/\d.cell? ⟨g,i*8+2,none⟩=some (.int .i64 x0)/\d.cell? ⟨g,i*8+3,none⟩=some (.int .i64 x1)/\d.cell? ⟨g,i*8+4,none⟩=some (.int .i64 x2)/\d.cell? ⟨g,i*8+5,none⟩=some (.int .i64 x3)/\d.cell? ⟨g,i*8+6,none⟩=some (.string xv)/\d.cell? ⟨g,i*8+7,none⟩=some (.bool xg)) (first|assumption|go_keep|exact y.out _ (L.out.trans za))
          (first|(go_at_call 159;refine(a2.out _).mono ?_;rintro e w5 ⟨rfl,t⟩;have G:Fr Nil w1 w5:=L.out.trans (Fr.trans (by exact za) t);have a1:=y.out w5 G))
         have F:=Z (VRow.fr a8.out (Fr.trans (by exact za) t:Fr Nil w2 w5) (fun _ _=>id));have E:=Z G;clear G t;obtain⟨b0,b1,b2,b3,b4,b5,b6,b7,g0,g1,g2,g3,g4,g5,g6,g7⟩:=a1;cases o with
         | true =>
          clear b0 b1 b2 b3 b4 b5 b6 b7 g0 g1 g2 g3 g4 g5 g6 g7
          go_wp2
          exact⟨⟨i+1,by omega,by go_num,by rw[q.out];simp[zF],by rw[q.out];simpa [zF] using F.out,M.out,E.out,by rw[q.out];simp[zF];omega⟩,by simp[intOf];omega⟩
         | false =>
          go_wp2_with (at_builtin;go_must (refine zk rfl _ _ _ _ rfl _ _ (by rfl) (by rfl) (Zw w5 _ _ F.out ⟨X,Y,x0,x1,x2,x3,xv,xg⟩ a7 _ za _ (by exact Blk.new _ [_,_,_,_,_,_,_,_] _) _) ?_;rintro v6 w6 ⟨a5,a3,a4⟩))
          refine⟨⟨i+1,?_,?_,?_,?_,?_,?_,?_⟩,?_⟩
          .omega
          .go_num
          .rw[q.out];simp[zF]
          .rw[q.out];simpa [zF] using a5
          .exact fun k T=>(a4 k T).elim (M.out k) (fun h=>IP E.out.size h)
          .exact E.out.trans' a3 (fun k T e=>by have:=(M.out) k e;omega)
          .rw[q.out];simp[zF];omega
          .simp[intOf];omega
        | true =>
         go_wp2_with (at_builtin;go_must (refine zk rfl _ _ _ _ rfl _ _ (by rfl) (by rfl) (Zw w2 _ _ a8.out ⟨node,r,z,A,B,C,c,false⟩ a7 _ za _ (by exact Blk.new _ [_,_,_,_,_,_,_,_] _) _) ?_;rintro v4 w4 ⟨h4,i9,j2⟩))
         obtain⟨l9,m0,j4⟩:=zc (show w4.ownsRow 0 37 8 v4 (V++[(⟨node,r,z,A,B,C,c,false⟩:Ver)]).length (zU (V++[(⟨node,r,z,A,B,C,c,false⟩:Ver)])) from h4);rw[show(V++[(⟨node,r,z,A,B,C,c,false⟩:Ver)]).length=V.length+1 from by simp] at j4;have e5:Fr Nil w1 w4:=L.out.trans' i9 (fun k T e=>by have:=M.out k e;omega);have c9:Hid (∀ k,v4.ownBlock=some k->w1.heap.size<=k):=Z (fun k T=>(j2 k T).elim (M.out k) (fun h=>IP L.out.size h));have i4:=Z h4;have f5:=Z e5;obtain⟨c0,c1,c2,c3,c4,c5,c6,c7,d0,d1,d2,d3,d4,d5,d6,d7⟩:=y.out w4 e5;subst j4;clear h4 i9 j2 e5;clear b0 b1 b2 b3 b4 b5 b6 b7 g0 g1 g2 g3 g4 g5 g6 g7;go_wp2_with fail
         go_region_held3 (fun d=>d.cell? ⟨b,0,none⟩=some (.int .i64 node)/\d.cell? ⟨b,1,none⟩=some (.int .i64 r)/\d.cell? ⟨b,2,none⟩=some (.int .i64 z)/\d.cell? ⟨b,3,none⟩=some (.int .i64 A)/\d.cell? ⟨b,4,none⟩=some (.int .i64 B)/\d.cell? ⟨b,5,none⟩=some (.int .i64 C)/\d.cell? ⟨b,6,none⟩=some (.string c)/\d.cell? ⟨b,7,none⟩=some (.bool false)/\d.cell? ⟨g,i*8,none⟩=some (.int .i64 X)/\d.cell? ⟨g,i*8+1,none⟩=some (.int .i64 Y)/\d.cell? ⟨g,i*8+2,none⟩=some (.int .i64 x0)/\d.cell? ⟨g,i*8+3,none⟩=some (.int .i64 x1)/\d.cell? ⟨g,i*8+4,none⟩=some (.int .i64 x2)/\d.cell? ⟨g,i*8+5,none⟩=some (.int .i64 x3)/\d.cell? ⟨g,i*8+6,none⟩=some (.string xv)/\d.cell? ⟨g,i*8+7,none⟩=some (.bool xg)) (first|assumption|go_keep|exact y.out _ (f5.out.trans za))
          (first|(go_at_call 159;refine(a2.out _).mono ?_;rintro e w5 ⟨rfl,t⟩;have G:Fr Nil w1 w5:=f5.out.trans (Fr.trans (by exact za) t);have a1:=y.out w5 G))
         have F:=Z (VRow.fr i4.out (Fr.trans (by exact za) t:Fr Nil w4 w5) (fun _ _=>id));have E:=Z G;clear G t;obtain⟨b0,b1,b2,b3,b4,b5,b6,b7,g0,g1,g2,g3,g4,g5,g6,g7⟩:=a1;cases o with
         | true =>
          clear b0 b1 b2 b3 b4 b5 b6 b7 g0 g1 g2 g3 g4 g5 g6 g7
          go_wp2
          exact⟨⟨i+1,by omega,by go_num,by rw[q.out];simp[zF],by rw[q.out];simpa [zF] using F.out,c9.out,E.out,by rw[q.out];simp[zF];omega⟩,by simp[intOf];omega⟩
         | false =>
          go_wp2_with (at_builtin;go_must (refine zk rfl _ _ _ _ rfl _ _ (by rfl) (by rfl) (Zw w5 _ _ F.out ⟨X,Y,x0,x1,x2,x3,xv,xg⟩ (by simp;omega) _ za _ (by exact Blk.new _ [_,_,_,_,_,_,_,_] _) _) ?_;rintro v6 w6 ⟨a5,a3,a4⟩))
          refine⟨⟨i+1,?_,?_,?_,?_,?_,?_,?_⟩,?_⟩
          .omega
          .go_num
          .rw[q.out];simp[zF]
          .rw[q.out];simpa [zF] using a5
          .exact fun k T=>(a4 k T).elim (c9.out k) (fun h=>IP E.out.size h)
          .exact E.out.trans' a3 (fun k T e=>by have:=(c9.out) k e;omega)
          .rw[q.out];simp[zF];omega
          .simp[intOf];omega
      .obtain rfl:i=s.length:=by omega
       rw[HZ] at a0 e6 |-;have a6:Wg s ⟨node,r,z,A,B,C,c,false⟩=(s.foldl (zL ⟨node,r,z,A,B,C,c,false⟩) ([],false)).1++if (s.foldl (zL ⟨node,r,z,A,B,C,c,false⟩) ([],false)).2=true then [] else [⟨node,r,z,A,B,C,c,false⟩]:=rfl
       generalize s.foldl (zL ⟨node,r,z,A,B,C,c,false⟩) ([],false)=st at a0 e6 a6 |-;obtain⟨V,done⟩:=st;simp only at a0 e6 a6 |-;obtain⟨ta,tc,rfl⟩:=zc a0;have e9:=Z a0;have M:=Z f2;have J:=Z hf;have a7:V.length<1000000:=by omega
       clear a0 f2 hf;obtain⟨b0,b1,b2,b3,b4,b5,b6,b7⟩:wr.cell? ⟨b,0,none⟩=some (.int .i64 node)/\wr.cell? ⟨b,1,none⟩=some (.int .i64 r)/\wr.cell? ⟨b,2,none⟩=some (.int .i64 z)/\wr.cell? ⟨b,3,none⟩=some (.int .i64 A)/\wr.cell? ⟨b,4,none⟩=some (.int .i64 B)/\wr.cell? ⟨b,5,none⟩=some (.int .i64 C)/\wr.cell? ⟨b,6,none⟩=some (.string c)/\wr.cell? ⟨b,7,none⟩=some (.bool false):=⟨S 0,S 1,S 2,S 3,S 4,S 5,S 6,S 7⟩;clear S;have f3:Hid (∀ (D:World) (f:Fr Nil w1 D) (lv:Value) (l:List Ver),VRow D lv l->(∀ k,lv.ownBlock=some k->w1.heap.size<=k)->Calls Tryz.prog 157 #[.pointer (some ⟨p,0,none⟩),.string key,lv] D fun e d =>
        ∃ nb,e=.returned (.pointer (some ⟨nb,0,none⟩))/\MRep (KGr K w d) d nb {m with keys:=zX m.keys key l}/\Fr Nil w d/\w.heap.size<=nb):=by
        intro D f lv l hl T;have f1:=e7.out.trans f;refine(YY (KGr K w D) p m key lv l D (MRep.nil ⟨kv,k5,i6,HA.out,HB.out⟩ f1) hl (fun k j1=>.inr ⟨IP e7.out.size (T k j1),zC hl j1⟩) k0).mono ?_;rintro e d ⟨nb,rfl,h1,h2,h3⟩;exact⟨nb,rfl,h1.mono (fun k T=>T.trans f1.size h2.size),f1.trans h2,IP f1.size h3⟩
       cases done with
       | true =>
        have c8:Hid (Wg s ⟨node,r,z,A,B,C,c,false⟩=V):=Z (by rw[a6];simp);clear a6 b0 b1 b2 b3 b4 b5 b6 b7;go_wp2_with fail;refine(f3.out wr J.out _ V e9.out M.out).mono ?_;rintro e w9 ⟨nb,rfl,h1,h2,h3⟩;have H1:=Z h1;clear h1
        go_wp2
        go_ret2;exact .inr (.inr ⟨by rw[b8.out];exact HW.out,nb,rfl,by unfold LM.accept;rw[b8.out,c8.out];exact H1.out,h2,by first|exact h3|(rw[<- i3.out];exact h3)⟩)
       | false =>
        have c8:Hid (Wg s ⟨node,r,z,A,B,C,c,false⟩=V++[⟨node,r,z,A,B,C,c,false⟩]):=Z (by rw[a6];simp);clear a6
        go_wp2_with (at_builtin;go_must (refine zk rfl _ _ _ _ rfl _ _ (by rfl) (by rfl) (Zw wr _ _ e9.out ⟨node,r,z,A,B,C,c,false⟩ a7 _ za _ (by exact Blk.new _ [_,_,_,_,_,_,_,_] _) _) ?_;rintro v6 w6 ⟨a5,a3,a4⟩;have f9:Fr Nil w1 w6:=J.out.trans' a3 (fun k T e=>by have:=M.out k e;omega);have g9:=Z a5;have k3:Hid (∀ k,v6.ownBlock=some k->w1.heap.size<=k):=fun k T=>(a4 k T).elim (M.out k) (fun h=>IP J.out.size h);have i0:=Z f9;clear a5 a3 a4 f9 b0 b1 b2 b3 b4 b5 b6 b7))
        refine(f3.out w6 i0.out v6 (V++[⟨node,r,z,A,B,C,c,false⟩]) g9.out k3.out).mono ?_;rintro e w9 ⟨nb,rfl,h1,h2,h3⟩;have H1:=Z h1;clear h1
        go_wp2
        go_ret2;exact .inr (.inr ⟨by rw[b8.out];exact HW.out,nb,rfl,by unfold LM.accept;rw[b8.out,c8.out];exact H1.out,h2,by first|exact h3|(rw[<- i3.out];exact h3)⟩)
   | true =>
    by_cases hm:n=s.length
    .have hm':((n:Int)==(s.length:Int))=true:=by simp[hm]
     have HW:Hid (Zi s ⟨node,r,z,A,B,C,c,true⟩=0):=Z (by rw[i5.out,IV (fun x=>absurd x.1 (by decide)),He ⟨rfl,hm⟩]);have e8:Hid (Fr Nil w wr):=e7.out.trans J.out;clear hm
     go_wp2
     go_ret2;exact .inl ⟨by rw[b8.out];exact HW.out,rfl,e8.out⟩
    .have hm':((n:Int)==(s.length:Int))=false:=by simp;omega
     have HW:Hid (Zi s ⟨node,r,z,A,B,C,c,true⟩=2):=Z (by rw[i5.out,IV (fun x=>absurd x.1 (by decide)),IV (fun x=>hm x.2)]);clear hm;go_wp2_with fail
     go_loopw [14,15,16] (fun j6 k7 h5 d=>∃ i:Nat,i<=s.length/\h5=.int .i64 i/\k7=.bool ((s.take i).foldl (zL ⟨node,r,z,A,B,C,c,true⟩) ([],true)).2/\VRow d j6 ((s.take i).foldl (zL ⟨node,r,z,A,B,C,c,true⟩) ([],true)).1/\(∀ k,j6.ownBlock=some k->w1.heap.size<=k)/\Fr Nil w1 d/\((s.take i).foldl (zL ⟨node,r,z,A,B,C,c,true⟩) ([],true)).1.length<=2*i) (fun _ _ h5 _=>s.length-(intOf h5).toNat)
     case atStart=>exact⟨0,Hg _,rfl,rfl,Hc _ 0 _ _,fun k T=>by simp[Value.ownBlock] at T,J.out,IQ _⟩
     case round =>
      obtain⟨i,hi,rfl,rfl,a0,f2,hf,e6⟩:=hrel;have S:=(h0.out.fr hf id).cell;by_cases b9:i<s.length
      .obtain⟨g,rfl⟩:∃ g,va=some ⟨g,0,none⟩:=by
        obtain⟨g,l1,h,_⟩:=zm d8.out (by omega);simp at h;exact⟨g,h.1⟩
       have I:Hid (∀ D,Fr Nil w1 D->∀ j,j<8->D.cell? ⟨g,i*8+j,none⟩=s[i].cells[j]?):=fun D f j j0=>VRow.cells (zb d8.out f (fun _ _=>id)) i b9 j j0;have N:Hid (∀ D,Fr Nil w1 D->∀ j,D.cell? ⟨b,j,none⟩=(Ver.cells ⟨node,r,z,A,B,C,c,true⟩)[j]?):=fun D f j=>(h0.out.fr f id).cell j;have hx:=j7.out s[i] (IX b9);have q:Hid ((s.take (i+1)).foldl (zL ⟨node,r,z,A,B,C,c,true⟩) ([],true)=zL ⟨node,r,z,A,B,C,c,true⟩ ((s.take i).foldl (zL ⟨node,r,z,A,B,C,c,true⟩) ([],true)) s[i]):=Z (by rw[Hj b9,Gq];rfl);have a2:=Z (fun W=>j8.out ⟨node,r,z,A,B,C,c,true⟩ s[i] W hx);generalize ((s.take i).foldl (zL ⟨node,r,z,A,B,C,c,true⟩) ([],true))=st at a0 e6 q |-;obtain⟨V,done⟩:=st;simp only at a0 e6 |-;obtain⟨ta,tc,rfl⟩:=zc a0;have e9:=Z a0;have M:=Z f2;have J:=Z hf;have a7:V.length<1000000:=by omega
       clear hx a0 f2 hf S;generalize s[i]=x at I q a2;obtain⟨X,Y,x0,x1,x2,x3,xv,xg⟩:=x;have h9:=Z (fun W=>Ue node r X Y W);simp only[Ver.cells] at I N a2;have q:Hid ((s.take (i+1)).foldl (zL ⟨node,r,z,A,B,C,c,true⟩) ([],true)=zF V ⟨node,r,z,A,B,C,c,true⟩ ⟨X,Y,x0,x1,x2,x3,xv,xg⟩ done (zy (node,r) (X,Y)) (Ver.over ⟨node,r,z,A,B,C,c,true⟩ ⟨X,Y,x0,x1,x2,x3,xv,xg⟩)):=q;have y:Hid (∀ D,Fr Nil w1 D->(fun d=>d.cell? ⟨b,0,none⟩=some (.int .i64 node)/\d.cell? ⟨b,1,none⟩=some (.int .i64 r)/\d.cell? ⟨b,2,none⟩=some (.int .i64 z)/\d.cell? ⟨b,3,none⟩=some (.int .i64 A)/\d.cell? ⟨b,4,none⟩=some (.int .i64 B)/\d.cell? ⟨b,5,none⟩=some (.int .i64 C)/\d.cell? ⟨b,6,none⟩=some (.string c)/\d.cell? ⟨b,7,none⟩=some (.bool true)/\d.cell? ⟨g,i*8,none⟩=some (.int .i64 X)/\d.cell? ⟨g,i*8+1,none⟩=some (.int .i64 Y)/\d.cell? ⟨g,i*8+2,none⟩=some (.int .i64 x0)/\d.cell? ⟨g,i*8+3,none⟩=some (.int .i64 x1)/\d.cell? ⟨g,i*8+4,none⟩=some (.int .i64 x2)/\d.cell? ⟨g,i*8+5,none⟩=some (.int .i64 x3)/\d.cell? ⟨g,i*8+6,none⟩=some (.string xv)/\d.cell? ⟨g,i*8+7,none⟩=some (.bool xg)) D):=fun D f=>⟨N.out D f 0,N.out D f 1,N.out D f 2,N.out D f 3,N.out D f 4,N.out D f 5,N.out D f 6,N.out D f 7,I.out D f 0 (by omega),I.out D f 1 (by omega),I.out D f 2 (by omega),I.out D f 3 (by omega),I.out D f 4 (by omega),I.out D f 5 (by omega),I.out D f 6 (by omega),I.out D f 7 (by omega)⟩;obtain⟨b0,b1,b2,b3,b4,b5,b6,b7,g0,g1,g2,g3,g4,g5,g6,g7⟩:=y.out wr J.out;generalize zy (node,r) (X,Y)=fb at h9 q;generalize Ver.over ⟨node,r,z,A,B,C,c,true⟩ ⟨X,Y,x0,x1,x2,x3,xv,xg⟩=o at a2 q;go_wp2_with fail
       go_region_held3 (fun d=>d.cell? ⟨b,0,none⟩=some (.int .i64 node)/\d.cell? ⟨b,1,none⟩=some (.int .i64 r)/\d.cell? ⟨b,2,none⟩=some (.int .i64 z)/\d.cell? ⟨b,3,none⟩=some (.int .i64 A)/\d.cell? ⟨b,4,none⟩=some (.int .i64 B)/\d.cell? ⟨b,5,none⟩=some (.int .i64 C)/\d.cell? ⟨b,6,none⟩=some (.string c)/\d.cell? ⟨b,7,none⟩=some (.bool true)/\d.cell? ⟨g,i*8,none⟩=some (.int .i64 X)/\d.cell? ⟨g,i*8+1,none⟩=some (.int .i64 Y)/\d.cell? ⟨g,i*8+2,none⟩=some (.int .i64 x0)/\d.cell? ⟨g,i*8+3,none⟩=some (.int .i64 x1)/\d.cell? ⟨g,i*8+4,none⟩=some (.int .i64 x2)/\d.cell? ⟨g,i*8+5,none⟩=some (.int .i64 x3)/\d.cell? ⟨g,i*8+6,none⟩=some (.string xv)/\d.cell? ⟨g,i*8+7,none⟩=some (.bool xg)) (first|assumption|go_keep|exact y.out _ (J.out.trans za))
        (first|(go_at_call 160;refine(h9.out _).mono ?_;rintro e w2 ⟨rfl,Q⟩;have R:Fr Nil w1 w2:=J.out.trans (Fr.trans (by exact za) Q);have a9:=y.out w2 R))
       have a8:=Z (VRow.fr e9.out (Fr.trans (by exact za) Q:Fr Nil wr w2) (fun _ _=>id));have L:=Z R;clear R Q b0 b1 b2 b3 b4 b5 b6 b7 g0 g1 g2 g3 g4 g5 g6 g7;obtain⟨b0,b1,b2,b3,b4,b5,b6,b7,g0,g1,g2,g3,g4,g5,g6,g7⟩:=a9;cases done with
       | true =>
        cases fb with
        | false =>
         go_wp2_with fail
         go_region_held3 (fun d=>d.cell? ⟨b,0,none⟩=some (.int .i64 node)/\d.cell? ⟨b,1,none⟩=some (.int .i64 r)/\d.cell? ⟨b,2,none⟩=some (.int .i64 z)/\d.cell? ⟨b,3,none⟩=some (.int .i64 A)/\d.cell? ⟨b,4,none⟩=some (.int .i64 B)/\d.cell? ⟨b,5,none⟩=some (.int .i64 C)/\d.cell? ⟨b,6,none⟩=some (.string c)/\d.cell? ⟨b,7,none⟩=some (.bool true)/\d.cell? ⟨g,i*8,none⟩=some (.int .i64 X)/\d.cell? ⟨g,i*8+1,none⟩=some (.int .i64 Y)/\d.cell? ⟨g,i*8+2,none⟩=some (.int .i64 x0)/\d.cell? ⟨g,i*8+3,none⟩=some (.int .i64 x1)/\d.cell? ⟨g,i*8+4,none⟩=some (.int .i64 x2)/\d.cell? ⟨g,i*8+5,none⟩=some (.int .i64 x3)/\d.cell? ⟨g,i*8+6,none⟩=some (.string xv)/\d.cell? ⟨g,i*8+7,none⟩=some (.bool xg)) (first|assumption|go_keep|exact y.out _ (L.out.trans za))
          (first|(go_at_call 159;refine(a2.out _).mono ?_;rintro e w5 ⟨rfl,t⟩;have G:Fr Nil w1 w5:=L.out.trans (Fr.trans (by exact za) t);have a1:=y.out w5 G))
         have F:=Z (VRow.fr a8.out (Fr.trans (by exact za) t:Fr Nil w2 w5) (fun _ _=>id));have E:=Z G;clear G t;obtain⟨b0,b1,b2,b3,b4,b5,b6,b7,g0,g1,g2,g3,g4,g5,g6,g7⟩:=a1;cases o with
         | true =>
          clear b0 b1 b2 b3 b4 b5 b6 b7 g0 g1 g2 g3 g4 g5 g6 g7
          go_wp2
          exact⟨⟨i+1,by omega,by go_num,by rw[q.out];simp[zF],by rw[q.out];simpa [zF] using F.out,M.out,E.out,by rw[q.out];simp[zF];omega⟩,by simp[intOf];omega⟩
         | false =>
          go_wp2_with (at_builtin;go_must (refine zk rfl _ _ _ _ rfl _ _ (by rfl) (by rfl) (Zw w5 _ _ F.out ⟨X,Y,x0,x1,x2,x3,xv,xg⟩ a7 _ za _ (by exact Blk.new _ [_,_,_,_,_,_,_,_] _) _) ?_;rintro v6 w6 ⟨a5,a3,a4⟩))
          refine⟨⟨i+1,?_,?_,?_,?_,?_,?_,?_⟩,?_⟩
          .omega
          .go_num
          .rw[q.out];simp[zF]
          .rw[q.out];simpa [zF] using a5
          .exact fun k T=>(a4 k T).elim (M.out k) (fun h=>IP E.out.size h)
          .exact E.out.trans' a3 (fun k T e=>by have:=(M.out) k e;omega)
          .rw[q.out];simp[zF];omega
          .simp[intOf];omega
        | true =>
         go_wp2_with fail
         go_region_held3 (fun d=>d.cell? ⟨b,0,none⟩=some (.int .i64 node)/\d.cell? ⟨b,1,none⟩=some (.int .i64 r)/\d.cell? ⟨b,2,none⟩=some (.int .i64 z)/\d.cell? ⟨b,3,none⟩=some (.int .i64 A)/\d.cell? ⟨b,4,none⟩=some (.int .i64 B)/\d.cell? ⟨b,5,none⟩=some (.int .i64 C)/\d.cell? ⟨b,6,none⟩=some (.string c)/\d.cell? ⟨b,7,none⟩=some (.bool true)/\d.cell? ⟨g,i*8,none⟩=some (.int .i64 X)/\d.cell? ⟨g,i*8+1,none⟩=some (.int .i64 Y)/\d.cell? ⟨g,i*8+2,none⟩=some (.int .i64 x0)/\d.cell? ⟨g,i*8+3,none⟩=some (.int .i64 x1)/\d.cell? ⟨g,i*8+4,none⟩=some (.int .i64 x2)/\d.cell? ⟨g,i*8+5,none⟩=some (.int .i64 x3)/\d.cell? ⟨g,i*8+6,none⟩=some (.string xv)/\d.cell? ⟨g,i*8+7,none⟩=some (.bool xg)) (first|assumption|go_keep|exact y.out _ (L.out.trans za))
          (first|(go_at_call 159;refine(a2.out _).mono ?_;rintro e w5 ⟨rfl,t⟩;have G:Fr Nil w1 w5:=L.out.trans (Fr.trans (by exact za) t);have a1:=y.out w5 G))
         have F:=Z (VRow.fr a8.out (Fr.trans (by exact za) t:Fr Nil w2 w5) (fun _ _=>id));have E:=Z G;clear G t;obtain⟨b0,b1,b2,b3,b4,b5,b6,b7,g0,g1,g2,g3,g4,g5,g6,g7⟩:=a1;cases o with
         | true =>
          clear b0 b1 b2 b3 b4 b5 b6 b7 g0 g1 g2 g3 g4 g5 g6 g7
          go_wp2
          exact⟨⟨i+1,by omega,by go_num,by rw[q.out];simp[zF],by rw[q.out];simpa [zF] using F.out,M.out,E.out,by rw[q.out];simp[zF];omega⟩,by simp[intOf];omega⟩
         | false =>
          go_wp2_with (at_builtin;go_must (refine zk rfl _ _ _ _ rfl _ _ (by rfl) (by rfl) (Zw w5 _ _ F.out ⟨X,Y,x0,x1,x2,x3,xv,xg⟩ a7 _ za _ (by exact Blk.new _ [_,_,_,_,_,_,_,_] _) _) ?_;rintro v6 w6 ⟨a5,a3,a4⟩))
          refine⟨⟨i+1,?_,?_,?_,?_,?_,?_,?_⟩,?_⟩
          .omega
          .go_num
          .rw[q.out];simp[zF]
          .rw[q.out];simpa [zF] using a5
          .exact fun k T=>(a4 k T).elim (M.out k) (fun h=>IP E.out.size h)
          .exact E.out.trans' a3 (fun k T e=>by have:=(M.out) k e;omega)
          .rw[q.out];simp[zF];omega
          .simp[intOf];omega
       | false =>
        cases fb with
        | false =>
         go_wp2_with fail
         go_region_held3 (fun d=>d.cell? ⟨b,0,none⟩=some (.int .i64 node)/\d.cell? ⟨b,1,none⟩=some (.int .i64 r)/\d.cell? ⟨b,2,none⟩=some (.int .i64 z)/\d.cell? ⟨b,3,none⟩=some (.int .i64 A)/\d.cell? ⟨b,4,none⟩=some (.int .i64 B)/\d.cell? ⟨b,5,none⟩=some (.int .i64 C)/\d.cell? ⟨b,6,none⟩=some (.string c)/\d.cell? ⟨b,7,none⟩=some (.bool true)/\d.cell? ⟨g,i*8,none⟩=some (.int .i64 X)/\d.cell? ⟨g,i*8+1,none⟩=some (.int .i64 Y)/\d.cell? ⟨g,i*8+2,none⟩=some (.int .i64 x0)/\d.cell? ⟨g,i*8+3,none⟩=some (.int .i64 x1)/\d.cell? ⟨g,i*8+4,none⟩=some (.int .i64 x2)/\d.cell? ⟨g,i*8+5,none⟩=some (.int .i64 x3)/\d.cell? ⟨g,i*8+6,none⟩=some (.string xv)/\d.cell? ⟨g,i*8+7,none⟩=some (.bool xg)) (first|assumption|go_keep|exact y.out _ (L.out.trans za))
          (first|(go_at_call 159;refine(a2.out _).mono ?_;rintro e w5 ⟨rfl,t⟩;have G:Fr Nil w1 w5:=L.out.trans (Fr.trans (by exact za) t);have a1:=y.out w5 G))
         have F:=Z (VRow.fr a8.out (Fr.trans (by exact za) t:Fr Nil w2 w5) (fun _ _=>id));have E:=Z G;clear G t;obtain⟨b0,b1,b2,b3,b4,b5,b6,b7,g0,g1,g2,g3,g4,g5,g6,g7⟩:=a1;cases o with
         | true =>
          clear b0 b1 b2 b3 b4 b5 b6 b7 g0 g1 g2 g3 g4 g5 g6 g7
          go_wp2
          exact⟨⟨i+1,by omega,by go_num,by rw[q.out];simp[zF],by rw[q.out];simpa [zF] using F.out,M.out,E.out,by rw[q.out];simp[zF];omega⟩,by simp[intOf];omega⟩
         | false =>
          go_wp2_with (at_builtin;go_must (refine zk rfl _ _ _ _ rfl _ _ (by rfl) (by rfl) (Zw w5 _ _ F.out ⟨X,Y,x0,x1,x2,x3,xv,xg⟩ a7 _ za _ (by exact Blk.new _ [_,_,_,_,_,_,_,_] _) _) ?_;rintro v6 w6 ⟨a5,a3,a4⟩))
          refine⟨⟨i+1,?_,?_,?_,?_,?_,?_,?_⟩,?_⟩
          .omega
          .go_num
          .rw[q.out];simp[zF]
          .rw[q.out];simpa [zF] using a5
          .exact fun k T=>(a4 k T).elim (M.out k) (fun h=>IP E.out.size h)
          .exact E.out.trans' a3 (fun k T e=>by have:=(M.out) k e;omega)
          .rw[q.out];simp[zF];omega
          .simp[intOf];omega
        | true =>
         go_wp2_with (at_builtin;go_must (refine zk rfl _ _ _ _ rfl _ _ (by rfl) (by rfl) (Zw w2 _ _ a8.out ⟨node,r,z,A,B,C,c,true⟩ a7 _ za _ (by exact Blk.new _ [_,_,_,_,_,_,_,_] _) _) ?_;rintro v4 w4 ⟨h4,i9,j2⟩))
         obtain⟨l9,m0,j4⟩:=zc (show w4.ownsRow 0 37 8 v4 (V++[(⟨node,r,z,A,B,C,c,true⟩:Ver)]).length (zU (V++[(⟨node,r,z,A,B,C,c,true⟩:Ver)])) from h4);rw[show(V++[(⟨node,r,z,A,B,C,c,true⟩:Ver)]).length=V.length+1 from by simp] at j4;have e5:Fr Nil w1 w4:=L.out.trans' i9 (fun k T e=>by have:=M.out k e;omega);have c9:Hid (∀ k,v4.ownBlock=some k->w1.heap.size<=k):=Z (fun k T=>(j2 k T).elim (M.out k) (fun h=>IP L.out.size h));have i4:=Z h4;have f5:=Z e5;obtain⟨c0,c1,c2,c3,c4,c5,c6,c7,d0,d1,d2,d3,d4,d5,d6,d7⟩:=y.out w4 e5;subst j4;clear h4 i9 j2 e5;clear b0 b1 b2 b3 b4 b5 b6 b7 g0 g1 g2 g3 g4 g5 g6 g7;go_wp2_with fail
         go_region_held3 (fun d=>d.cell? ⟨b,0,none⟩=some (.int .i64 node)/\d.cell? ⟨b,1,none⟩=some (.int .i64 r)/\d.cell? ⟨b,2,none⟩=some (.int .i64 z)/\d.cell? ⟨b,3,none⟩=some (.int .i64 A)/\d.cell? ⟨b,4,none⟩=some (.int .i64 B)/\d.cell? ⟨b,5,none⟩=some (.int .i64 C)/\d.cell? ⟨b,6,none⟩=some (.string c)/\d.cell? ⟨b,7,none⟩=some (.bool true)/\d.cell? ⟨g,i*8,none⟩=some (.int .i64 X)/\d.cell? ⟨g,i*8+1,none⟩=some (.int .i64 Y)/\d.cell? ⟨g,i*8+2,none⟩=some (.int .i64 x0)/\d.cell? ⟨g,i*8+3,none⟩=some (.int .i64 x1)/\d.cell? ⟨g,i*8+4,none⟩=some (.int .i64 x2)/\d.cell? ⟨g,i*8+5,none⟩=some (.int .i64 x3)/\d.cell? ⟨g,i*8+6,none⟩=some (.string xv)/\d.cell? ⟨g,i*8+7,none⟩=some (.bool xg)) (first|assumption|go_keep|exact y.out _ (f5.out.trans za))
          (first|(go_at_call 159;refine(a2.out _).mono ?_;rintro e w5 ⟨rfl,t⟩;have G:Fr Nil w1 w5:=f5.out.trans (Fr.trans (by exact za) t);have a1:=y.out w5 G))
         have F:=Z (VRow.fr i4.out (Fr.trans (by exact za) t:Fr Nil w4 w5) (fun _ _=>id));have E:=Z G;clear G t;obtain⟨b0,b1,b2,b3,b4,b5,b6,b7,g0,g1,g2,g3,g4,g5,g6,g7⟩:=a1;cases o with
         | true =>
          clear b0 b1 b2 b3 b4 b5 b6 b7 g0 g1 g2 g3 g4 g5 g6 g7
          go_wp2
          exact⟨⟨i+1,by omega,by go_num,by rw[q.out];simp[zF],by rw[q.out];simpa [zF] using F.out,c9.out,E.out,by rw[q.out];simp[zF];omega⟩,by simp[intOf];omega⟩
         | false =>
          go_wp2_with (at_builtin;go_must (refine zk rfl _ _ _ _ rfl _ _ (by rfl) (by rfl) (Zw w5 _ _ F.out ⟨X,Y,x0,x1,x2,x3,xv,xg⟩ (by simp;omega) _ za _ (by exact Blk.new _ [_,_,_,_,_,_,_,_] _) _) ?_;rintro v6 w6 ⟨a5,a3,a4⟩))
          refine⟨⟨i+1,?_,?_,?_,?_,?_,?_,?_⟩,?_⟩
          .omega
          .go_num
          .rw[q.out];simp[zF]
          .rw[q.out];simpa [zF] using a5
          .exact fun k T=>(a4 k T).elim (c9.out k) (fun h=>IP E.out.size h)
          .exact E.out.trans' a3 (fun k T e=>by have:=(c9.out) k e;omega)
          .rw[q.out];simp[zF];omega
          .simp[intOf];omega
      .obtain rfl:i=s.length:=by omega
       rw[HZ] at a0 e6 |-;have a6:Wg s ⟨node,r,z,A,B,C,c,true⟩=(s.foldl (zL ⟨node,r,z,A,B,C,c,true⟩) ([],true)).1++if (s.foldl (zL ⟨node,r,z,A,B,C,c,true⟩) ([],true)).2=true then [] else [⟨node,r,z,A,B,C,c,true⟩]:=rfl
       generalize s.foldl (zL ⟨node,r,z,A,B,C,c,true⟩) ([],true)=st at a0 e6 a6 |-;obtain⟨V,done⟩:=st;simp only at a0 e6 a6 |-;obtain⟨ta,tc,rfl⟩:=zc a0;have e9:=Z a0;have M:=Z f2;have J:=Z hf;have a7:V.length<1000000:=by omega
       clear a0 f2 hf;obtain⟨b0,b1,b2,b3,b4,b5,b6,b7⟩:wr.cell? ⟨b,0,none⟩=some (.int .i64 node)/\wr.cell? ⟨b,1,none⟩=some (.int .i64 r)/\wr.cell? ⟨b,2,none⟩=some (.int .i64 z)/\wr.cell? ⟨b,3,none⟩=some (.int .i64 A)/\wr.cell? ⟨b,4,none⟩=some (.int .i64 B)/\wr.cell? ⟨b,5,none⟩=some (.int .i64 C)/\wr.cell? ⟨b,6,none⟩=some (.string c)/\wr.cell? ⟨b,7,none⟩=some (.bool true):=⟨S 0,S 1,S 2,S 3,S 4,S 5,S 6,S 7⟩;clear S;have f3:Hid (∀ (D:World) (f:Fr Nil w1 D) (lv:Value) (l:List Ver),VRow D lv l->(∀ k,lv.ownBlock=some k->w1.heap.size<=k)->Calls Tryz.prog 157 #[.pointer (some ⟨p,0,none⟩),.string key,lv] D fun e d =>
        ∃ nb,e=.returned (.pointer (some ⟨nb,0,none⟩))/\MRep (KGr K w d) d nb {m with keys:=zX m.keys key l}/\Fr Nil w d/\w.heap.size<=nb):=by
        intro D f lv l hl T;have f1:=e7.out.trans f;refine(YY (KGr K w D) p m key lv l D (MRep.nil ⟨kv,k5,i6,HA.out,HB.out⟩ f1) hl (fun k j1=>.inr ⟨IP e7.out.size (T k j1),zC hl j1⟩) k0).mono ?_;rintro e d ⟨nb,rfl,h1,h2,h3⟩;exact⟨nb,rfl,h1.mono (fun k T=>T.trans f1.size h2.size),f1.trans h2,IP f1.size h3⟩
       cases done with
       | true =>
        have c8:Hid (Wg s ⟨node,r,z,A,B,C,c,true⟩=V):=Z (by rw[a6];simp);clear a6 b0 b1 b2 b3 b4 b5 b6 b7;go_wp2_with fail;refine(f3.out wr J.out _ V e9.out M.out).mono ?_;rintro e w9 ⟨nb,rfl,h1,h2,h3⟩;have H1:=Z h1;clear h1
        go_wp2
        go_ret2;exact .inr (.inr ⟨by rw[b8.out];exact HW.out,nb,rfl,by unfold LM.accept;rw[b8.out,c8.out];exact H1.out,h2,by first|exact h3|(rw[<- i3.out];exact h3)⟩)
       | false =>
        have c8:Hid (Wg s ⟨node,r,z,A,B,C,c,true⟩=V++[⟨node,r,z,A,B,C,c,true⟩]):=Z (by rw[a6];simp);clear a6
        go_wp2_with (at_builtin;go_must (refine zk rfl _ _ _ _ rfl _ _ (by rfl) (by rfl) (Zw wr _ _ e9.out ⟨node,r,z,A,B,C,c,true⟩ a7 _ za _ (by exact Blk.new _ [_,_,_,_,_,_,_,_] _) _) ?_;rintro v6 w6 ⟨a5,a3,a4⟩;have f9:Fr Nil w1 w6:=J.out.trans' a3 (fun k T e=>by have:=M.out k e;omega);have g9:=Z a5;have k3:Hid (∀ k,v6.ownBlock=some k->w1.heap.size<=k):=fun k T=>(a4 k T).elim (M.out k) (fun h=>IP J.out.size h);have i0:=Z f9;clear a5 a3 a4 f9 b0 b1 b2 b3 b4 b5 b6 b7))
        refine(f3.out w6 i0.out v6 (V++[⟨node,r,z,A,B,C,c,true⟩]) g9.out k3.out).mono ?_;rintro e w9 ⟨nb,rfl,h1,h2,h3⟩;have H1:=Z h1;clear h1
        go_wp2
        go_ret2;exact .inr (.inr ⟨by rw[b8.out];exact HW.out,nb,rfl,by unfold LM.accept;rw[b8.out,c8.out];exact H1.out,h2,by first|exact h3|(rw[<- i3.out];exact h3)⟩)
end Go.Proofs.YtkhnggkkiefcdaaGreatDoor
