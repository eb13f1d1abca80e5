/- larder: joined texts -/
import Derived.Test.YtkhnggkkiefcdaaGreatDoorKRAI
import Derived.Test.YtkhnggkkiefcdaaGreatDoorKRAK
import Derived.Test.YtkhnggkkiefcdaaGreatDoorKRAM
import Derived.Test.YtkhnggkkiefcdaaGreatDoorKRAN
import Derived.Test.YtkhnggkkiefcdaaGreatDoorKRAO
import Derived.Test.YtkhnggkkiefcdaaGreatDoorKRAU
namespace Go.Proofs.YtkhnggkkiefcdaaGreatDoor
open Go.RowKit
set_option maxRecDepth 100000
set_option maxHeartbeats 8000000
def zu(c:Int)(n:Nat):Nat:=(if c<0 then -(c+1) else c).toNat%n
theorem ZH(c:Int){n:Nat}(a:0<n):zu c n<n:=CD _ a
theorem Zl(c:Int)(n:Nat)(w:World)(o:-9223372036854775808<=c)(p:c<=9223372036854775807)(l:0<n)(q:n<=140737488355328) :
 Calls Tryz.prog 21 #[.int .i64 c,.int .i64 n] w fun e j=>e=.returned (.int .i64 (zu c n))/\j=w:=by
 by_cases d:c<0
 .obtain⟨m,hm⟩:=Fe (a:=-(c+1)) (by omega)
  have b:Hid (zu c n=m%n):=by simp[Hid,zu,d,hm]
  have h:(m:Int).tmod (n:Int)=((m%n:Nat):Int):=Cq ..;have i:((n:Int)==0)=false:=by rw[Fl];omega
  have f:(m:Int)<=9223372036854775807:=by omega
  have g:((m%n:Nat):Int)<=9223372036854775807:=by have:=Nat.mod_le m n;omega
  obtain rfl:c=-(m:Int)-1:=by omega
  clear hm;go_enter Tryz.func21,Tryz.ntmps21
  go_wp2
  go_ret;rw[b.out];exact⟨rfl,rfl⟩
 .obtain⟨m,rfl⟩:=Fe (a:=c) (by omega)
  have b:Hid (zu m n=m%n):=by simp only[Hid,zu];rw[Gl d];rfl
  have h:(m:Int).tmod (n:Int)=((m%n:Nat):Int):=Cq ..;have i:((n:Int)==0)=false:=by rw[Fl];omega
  go_enter Tryz.func21,Tryz.ntmps21
  go_wp2
  go_ret;rw[b.out];exact⟨rfl,rfl⟩
theorem Uk(n s y:Int)(w:World)(i:-9223372036854775808<=n/\n<=9223372036854775807)(k:-9223372036854775808<=s/\s<=9223372036854775807)(l:-9223372036854775808<=y/\y<=9223372036854775807) :
 Calls Tryz.prog 127 #[.int .i64 n,.int .i64 s,.int .i64 y] w fun e g=>e=.returned (.agg #[.int .i64 (zu n 4),.int .i64 (1000+zu s 2000:Nat),.int .i64 (zu y 5)])/\Fr Nil w g:=by
 have m:Hid (∀ d,Calls Tryz.prog 21 #[.int .i64 n,.int .i64 4] d fun e g=>e=.returned (.int .i64 (zu n 4))/\g=d):=fun d=>Zl n 4 d i.1 i.2 (by decide) (by decide);have o:Hid (∀ d,Calls Tryz.prog 21 #[.int .i64 s,.int .i64 2000] d fun e g=>e=.returned (.int .i64 (zu s 2000))/\g=d):=fun d=>Zl s 2000 d k.1 k.2 (by decide) (by decide);have q:Hid (∀ d,Calls Tryz.prog 21 #[.int .i64 y,.int .i64 5] d fun e g=>e=.returned (.int .i64 (zu y 5))/\g=d):=fun d=>Zl y 5 d l.1 l.2 (by decide) (by decide);have x:=ZH s (n:=2000) (by decide);clear i k l;generalize zu n 4=a at m |-;generalize zu s 2000=b at o x |-;generalize zu y 5=c at q |-;go_enter Tryz.func127,Tryz.ntmps127;have f:=Blk.new w [.int .i64 0,.int .i64 0,.int .i64 0] 102;have r:Fr Nil w (w.alloc (.cells #[.int .i64 0,.int .i64 0,.int .i64 0] 102)):=(U _ _).alloc _;have A:=f.cell;have B:=f.frozen;have t:=Z f;have u:=Z r;clear f r;go_wp2_with fail;refine(m.out _).mono ?_;rintro e d ⟨rfl,h⟩;subst d;go_wp2_with fail;refine(o.out _).mono ?_;rintro e d ⟨rfl,h⟩;subst d;have C:IntKind.i64.wrap (1000+(b:Int))=((1000+b:Nat):Int):=by rw[Gs];push_cast;omega
 go_wp2_with fail;refine(q.out _).mono ?_;rintro e d ⟨rfl,h⟩;subst d;go_wp2_with fail;have j:=Blk.new w [.int .i64 (a:Nat),.int .i64 (1000+(b:Int)),.int .i64 (c:Nat)] 102;refine DZ (results_cell_row rfl _ _ w.heap.size _ _ _ _ rfl j Tryz.underlying102 rfl (by kernel_rfl)) rfl ⟨by push_cast;rfl,(U _ _).alloc _⟩
theorem V5(n:Nat)(h:n<9223372036854775808)(w:World)(a:Tab w) :
 Calls Tryz.prog 29 #[.int .i64 n] w fun e d=>e=.returned (.string (Za n))/\Fr Nil w d:=by
 have b:=Z (Sa n h w a);clear a;go_enter Tryz.func29,Tryz.ntmps29;go_wp2_with fail;refine b.out.mono ?_;rintro e f ⟨rfl,c⟩
 go_wp2
 go_ret;exact⟨rfl,c⟩
def WJ(l:List Ver)(a:ByteArray):Bool:=match l with
 | [v]=>decide (v.value=a)&&!v.gone
 | _=>false
theorem UQ(L:NL)(N:NM)(M:DM)(c a:ByteArray)(w:World)(h:NRep w L N M)(o:zz c=true)(r:N.S.keys.length<1099511627776)(b:(zr N.S.keys c).length<=1000000) :
 Calls Tryz.prog 34 #[.pointer (some ⟨L.nb,0,none⟩),.string c,.string a] w fun e y=>e=.returned (.bool (WJ (zr N.S.keys c) a))/\Fr Nil w y:=by
 have f:=Z (UE L N M c w h r b);rw[o] at f;simp only[Ft] at f;clear h r o;generalize zr N.S.keys c=l at f b |-;rcases l with _|⟨v,_|⟨u,l⟩⟩
 .go_enter Tryz.func34,Tryz.ntmps34
  go_wp2_with fail;refine f.out.mono ?_;rintro e p ⟨s,rfl,d,i,-⟩;clear b;obtain⟨t,k,rfl⟩:=zg d;clear d f
  go_wp2
  go_ret;exact⟨rfl,i⟩
 .have HP:Hid (WJ [v] a=(decide (v.value=a)&&!v.gone)):=rfl
  go_enter Tryz.func34,Tryz.ntmps34;go_wp2_with fail;refine f.out.mono ?_;rintro e p ⟨s,rfl,d,i,-⟩;clear b;obtain⟨g,k,rfl,_,_⟩:=zy d (by simp);have x:p.cell? ⟨g,6,none⟩=some (.string v.value):=own_cell? d 6 _ rfl;have A:p.cell? ⟨g,7,none⟩=some (.bool v.gone):=own_cell? d 7 _ rfl;clear d f;simp only[Gi];by_cases j:v.value=a
  .rw[j] at x
   rw[EN j] at HP;clear j
   go_wp2
   go_ret;rw[HP.out];exact⟨by simp,i⟩
  .rw[Fp j] at HP
   have B:¬v.value.toList=a.toList:=fun e=>j (toList_inj e);clear j
   go_wp2
   go_ret;rw[HP.out];exact⟨by simp,i⟩
 .have HP:Hid (WJ (v::u::l) a=false):=rfl
  go_enter Tryz.func34,Tryz.ntmps34;go_wp2_with fail;refine f.out.mono ?_;rintro e p ⟨s,rfl,d,i,-⟩;clear b;obtain⟨t,k,rfl⟩:=zg d;have q:(((v::u::l).length:Int)==1)=false:=by rw[Fl];simp;omega
  clear d f;generalize (v::u::l).length=m at q |-
  go_wp2
  go_ret;rw[HP.out];exact⟨rfl,i⟩
theorem Qy(L:NL)(N:NM)(M:DM)(b:ByteArray)(w:World)(h:NRep w L N M)(d:zz b=true)(k:N.S.keys.length<1099511627776)(a:(zr N.S.keys b).length<=1000000) :
 Calls Tryz.prog 35 #[.pointer (some ⟨L.nb,0,none⟩),.string b] w fun e q=>e=.returned (.bool (decide (zr N.S.keys b=[])))/\Fr Nil w q:=by
 have c:=Z (UE L N M b w h k a);rw[d] at c;simp only[Ft] at c;clear h k d;generalize zr N.S.keys b=l at c a |-;rcases l with _|⟨v,l⟩
 .go_enter Tryz.func35,Tryz.ntmps35
  go_wp2_with fail;refine c.out.mono ?_;rintro e r ⟨p,rfl,f,i,-⟩;clear a;obtain⟨o,g,rfl⟩:=zg f;clear f c
  go_wp2
  go_ret;exact⟨by simp,i⟩
 .have HP:Hid (decide ((v::l)=[])=false):=by simp[Hid]
  go_enter Tryz.func35,Tryz.ntmps35;go_wp2_with fail;refine c.out.mono ?_;rintro e r ⟨p,rfl,f,i,-⟩;clear a;obtain⟨o,g,rfl⟩:=zg f;have j:(((v::l).length:Int)==0)=false:=by rw[Fl];simp;omega
  clear f c;generalize (v::l).length=m at j |-
  go_wp2
  go_ret;rw[HP.out];exact⟨rfl,i⟩
def zp(c:Nat)(d:Value)(node a:Int)(b:Value):List Value:=[.pointer (some ⟨c,0,none⟩),d,.int .i64 node,.int .i64 a,b]
def O1:ByteArray:={data:=#[107]}
theorem Wg{n m:Nat}(h:n<m):zu (n:Int) m=n:=by
 unfold zu;rw[Gl (by omega),Bg,BA h]
theorem Ii(m:zl)(B sb db n:Nat)(nv:Value)(G:Int)(a9:Value)(LD:DL)(M:DM)(y:Lay)(p t:Nat)(w:World)(h:Blk w sb (zp db nv n G a9) 58)(d7:n<4)(hd:DRep w db LD M)(a8:zG B w)(hB:B<=w.heap.size)(hl:Lg M y p t)(hs:Sane y.held t)(ht:t<=900000) :
 Calls Tryz.prog 126 #[.pointer (some ⟨sb,0,none⟩)] w fun e w'=>e=.returned (.tuple #[])/\Fr Nil w w':=by
 have b2:∀ x,Fr Nil w x->∀ k,x.cell? ⟨sb,k,none⟩=(zp db nv n G a9)[k]?:=fun x f=>(h.fr f id).cell;have b9:=Z b2;have c9:=b2 w (U _ _);simp only[zp] at c9;have a3:=Z a8;have A:=Z (Jh hd hl (by omega));have HR:=Z hl;have e9:Hid (∀ y':Lay,y'.F=y.F->Sane y'.held t):=fun y' e=>by unfold Lay.held;rw[e];exact hs
 have r:=Z hB;clear h hd b2 a8 hB hl hs;go_enter Tryz.func126,Tryz.ntmps126;go_wp2_with fail;refine A.out.mono ?_;rintro e w1 ⟨E,L1,ps,rfl,X,d8⟩;have K:∃ y1:Lay,y1.F=y.F/\Lg (((M.AR ps).yh 0).AP 0 0) y1 p t:=⟨y.AR ps,Lay.xe ps y,((HR.out.AR d8).yh 0).AP 0 0 (by decide) (by decide)⟩;obtain⟨y1,f3,K⟩:=K;generalize M.AR ps=M1 at X K;have N:∀ k,Foot E L1 M1 k->w.heap.size<=k:=X.new;have c8:w.heap.size<=E:=N E .Ay;have HO:=Z X;have a2:=Z N;have b7:=Z c8;have c6:=Z K;clear X N c8 c9 A K d8;go_wp2_with fail;refine(V6 0 w1 E L1 M1 HO.out.AK).mono ?_;rintro e w2 ⟨rfl,d0,d1⟩;have e6:=Z (HO.out.fr.trans' (S':=fun k=>k=E) d1 (fun i hi e=>by have:=b7.out;omega));have c0:=Z d0;clear d0 d1;go_wp2_with fail;refine(Wz 0 0 w2 E L1 (M1.yh 0) c0.out).mono ?_;rintro e w3 ⟨rfl,b3,d2⟩;have s:=Z (e6.out.trans' (S':=fun k=>k=E) d2 (fun i hi e=>by have:=b7.out;omega));have l:∀ k,Foot E L1 ((M1.yh 0).AP 0 0) k->w.heap.size<=k:=a2.out;generalize (M1.yh 0).AP 0 0=M3 at b3 l c6;have e3:=Z b3;have T:=Z l;have b0:=b9.out w3 s.out;simp only[zp] at b0;clear b3 d2 l HO c0 a2;have b8:Hid (∀ x,Calls Tryz.prog 127 #[.int .i64 n,.int .i64 0,.int .i64 0] x fun e w'=>e=.returned (.agg #[.int .i64 n,.int .i64 1000,.int .i64 0])/\Fr Nil x w'):=fun x=>by
  have h0:=Uk n 0 0 x ⟨by omega,by omega⟩ ⟨by decide,by decide⟩ ⟨by decide,by decide⟩;rw[Wg d7] at h0;exact h0
 have a5:ZX n 1000 0=true:=by
  unfold ZX zR;simp only[Fm,Gr];omega
 have e2:Hid (∀ x,Fr Nil w x->x.cell? ⟨sb,2,none⟩=some (.int .i64 n)):=fun x f=>by rw[b9.out x f];rfl
 have e0:=Z a5;clear a5;go_wp2_with fail;refine(b8.out _).mono ?_;rintro e wc ⟨rfl,fc⟩;have FC:=Z fc;obtain⟨e1,M4,y4,⟨d6,c7,-,-,-,-,-,a6⟩,Y⟩:=Jg m B M3 n 1000 0 y1 p t e0.out c6.out (by omega);have Y:=Y E L1 wc (e3.out.nil FC.out) (a3.out.fr r.out (s.out.trans FC.out) (fun _ e=>absurd e id)) (Gc r.out (s.out.trans FC.out).size) (fun k V=>Gc r.out (T.out k V));have c4:=Z Y;have R:=Z (And.intro d6 (And.intro (e9.out y4 (c7.trans f3)) a6));clear Y d6 c7 a6;go_wp2_with fail;refine c4.out.mono ?_;rintro e w4 (h4|⟨n1,L4,-,rfl,a7⟩)
 rotate_left
 .have Q:=Z ((s.out.trans FC.out).trans' (S':=Foot E L1 M3) a7.fr (fun i hi e=>by have:=T.out i e;omega))
  clear a7 b0;go_wp2_with fail;exact FZ (v:=.tuple #[]) (by simp[results,go_sem]) rfl ⟨rfl,Q.out⟩
 obtain⟨f2,X4,rfl,b6,f1,I,_,d3⟩:=h4;have F4:=(s.out.trans FC.out).trans' (S':=Foot E L1 M3) d3 (fun i hi e=>by have:=T.out i e;omega);have b:∀ k,NFoot X4 M4 k->w.heap.size<=k:=fun k V=>(I k V).elim (T.out k) (fun e=>Gc (s.out.trans FC.out).size e);have b4:Yl B X4 M4 w4:=⟨(a3.out.fr r.out F4 (fun _ e=>absurd e id)).1,Gc r.out F4.size,fun k V=>Gc r.out (b k V)⟩;have J:∀ g∈M4.ids,g<w4.heap.size:=fun g hg=>(b6.AH.files g hg).lt;have O:=Lz (H0:=w4.heap.size) R.out.1 (R.out.2.2 f2) (R.out.2.1.more (FQ t)) (by omega) n d7 1000 0 J O1 XC (by decide) (by decide);have C:=Z (Vc m B X4 (NM.opened n 1000 0 y4) M4 O1 XC w4 b6 b4 (fun u hu=>((R.out.2.1.held.get O1).2.2 u hu).node) (fun _ _ _=>O.1 _ (Gb _)));have c5:=Z O.2;have Q:=Z F4;have e4:=Z b4;have a0:=Z b;clear b0 b6 f1 I d3 F4 b b4 J O;unfold O1 XC at C;go_wp2_with fail;refine C.out.mono ?_;rintro e w5 ⟨f,g,X5,rfl,d4,d5,a4,c⟩;have a:=c5.out f g d4 d5 a4;unfold O1 XC at a;generalize ((NM.opened n 1000 0 y4).put M4 {data:=#[107]} {data:=#[97,32,116,114,105,97,108]} f g).2.2.1=N5 at c a;generalize ((NM.opened n 1000 0 y4).put M4 {data:=#[107]} {data:=#[97,32,116,114,105,97,108]} f g).2.2.2=M5 at c a;have F5:=Q.out.trans' (S':=NFoot X4 M4) c.fr (fun i hi e=>by have:=a0.out i e;omega);have o:∀ k,NFoot X5 M5 k->w.heap.size<=k:=fun k V=>(c.AX k V).elim (a0.out k) (fun e=>Gc Q.out.size e);have b5:Yl B X5 M5 w5:=e4.out.step c;have L:=c.same.nb;have j:=Z (VR m B X5 N5 M5 (((n:Int)+1)%4) XC w5 c.AK b5 (fun h1 h2 h3=>a _ _ _ (fun g hg=>(c.AK.AH.files g hg).lt) h1 h2 h3));unfold XC at j;rw[L] at j;have f0:=e2.out w5 F5;have f5:IntKind.i64.wrap ((n:Int)+1)=(n:Int)+1:=by rw[Gs];omega
 have c1:=Z F5;have e5:=Z b5;have a1:=Z o;have c3:=Z L;clear c a F5 o b5 c5 C c4 d4 d5 a4 L;go_wp2_with fail;refine j.out.mono ?_;rintro e w6 ⟨f6,X6,rfl,f4,d⟩;generalize (N5.hint M5 _ _ f6).2.1=N6 at d;generalize (N5.hint M5 _ _ f6).2.2=M6 at d;have F6:=c1.out.trans' (S':=NFoot X5 M5) d.fr (fun i hi e=>by have:=a1.out i e;omega);have q:∀ k,NFoot X6 M6 k->w.heap.size<=k:=fun k V=>(d.AX k V).elim (a1.out k) (fun e=>Gc c1.out.size e);have D:=Z (XY m B X6 N6 M6 w6 d.AK (e5.out.step d));rw[d.same.nb,c3.out] at D;have e7:=Z F6;have c2:=Z q;clear d F6 q f0;go_wp2_with fail;refine D.out.mono ?_;rintro e w7 ⟨X7,rfl,d9⟩;have e8:=Z (e7.out.trans' (S':=NFoot X6 M6) d9.fr (fun i hi e=>by have:=c2.out i e;omega));clear d9;go_wp2_with fail;exact FZ (v:=.tuple #[]) (by simp[results,go_sem]) rfl ⟨rfl,e8.out⟩
theorem NI.sh{W:WM}{N:NM}{M:DM}{F:List Fact}{p t:Nat}(h:NI W N M F p t):Sh W M F p t:=by
 obtain⟨y,b,a,_⟩:=h.kp.lg;exact⟨⟨y,b,a⟩,h.cm,h.room,.inl ⟨h.xI,.inl h.yl⟩⟩
theorem Cm.ye{W:WM}{t:Nat}(h:Cm W t)(b:Bool):Cm {W with ye:=b} t :=
 ⟨h.yO,h.calls,h.ww,h.len,h.ne,h.next,h.base,h.vh,h.ve,h.vp,h.vt,h.vq,h.vf,h.yk⟩
theorem Sh.AM{W:WM}{M:DM}{F:List Fact}{p t:Nat}(h:Sh W M F p t)(f:Int)(d:List Int):∃ D N,Sh {W with ye:=true} (M.AM f d) D N t:=by
 obtain⟨y,K,I⟩:=h.lg;obtain⟨j,B,c,e⟩:=K.AM f d;rw[I] at c;refine⟨j.F,j.F.length,⟨j,B,rfl⟩,h.cm.ye true,h.room,?_⟩;rcases h.all with⟨E,k⟩|⟨_,st,m,n,o,r,x,s,A,L,l,C,g⟩
 .exact .inl ⟨E.cut c e,.inr ⟨.inl rfl,k.elim (fun k=>k.cut c e) (fun k=>k.2.cut c e)⟩⟩
 .by_cases hlen:j.F.length=F.length
  .have he:j.F=F:=c.eq_of_length hlen
   rw[he] at e |-;refine .inr ⟨.inl rfl,st,m,n,o,r,x,s,fun h=>?_,L,l,fun q a b=>C q (Gc e a) b,fun q a b=>g q (Gc e a) b⟩;rw[s,Ga,Gi] at h;omega
  .have hl3:j.F.length<=r.length:=by
    have u:=c.length_le;rw[s,Ga,Gi] at u hlen;omega
   have i:j.F<+:r:=by
    have u:r<+:F:=by rw[s];exact DA _ _
    exact Dm c u hl3
   have J:=(A (Gc e hl3)).cut i e;refine .inl ⟨fun q a b=>?_,.inr ⟨.inl rfl,?_⟩⟩
   .have h5:=C q (Gc e a) (Gc b c.length_le)
    have G:=g q (Gc e a) (Gc b hl3);rw[U3 c b];exact⟨h5.1,Gc (Cc l) h5.2.1,h5.2.2.1,G⟩
   .show Hist W.st _ _ _
    rw[o];exact J.maybe m
theorem Sh.AR{W:WM}{M:DM}{F:List Fact}{p t:Nat}(h:Sh W M F p t){a:List (Nat × Nat)}(d:Pairs M a):Sh W (M.AR a) F p t:=by
 obtain⟨y,c,b⟩:=h.lg;exact⟨⟨y.AR a,c.AR d,(Lay.xe a y).trans b⟩,h.cm,h.room,h.all⟩
theorem Zn.called{node:Int}{c d:Nat}{F:List Fact}{p:Nat}(h:Zn node c d F p):Zn node (c+1) d F p:=fun q a b=>(h q a b).mono (FQ _) (Gb _) (h q a b).2.1
theorem Sh.called{W:WM}{M:DM}{F:List Fact}{p t:Nat}(h:Sh W M F p t):Sh {W with calls:=W.calls+1} M F p (t+9):=by
 obtain⟨y,q,o⟩:=h.lg;have a:=h.cm.more (u:=t+9) (by omega);have f:=h.cm.calls;refine⟨⟨y,q.more (by omega),o⟩,⟨a.yO,(by show W.calls+1<=_;omega),a.ww,a.len,a.ne,a.next,a.base,a.vh,a.ve,a.vp,a.vt,a.vq,a.vf,a.yk⟩,h.room,?_⟩;rcases h.all with⟨f,i⟩|⟨l,st,m,n,e,g,x,j,c,r,d,k,b⟩
 .exact .inl ⟨f.called,i⟩
 .exact .inr ⟨l,st,m,n,e,g,x,j,c,r,d,k.called,b⟩
theorem Sh.found{W:WM}{M:DM}{p t:Nat}{y:Lay}(h:Sh W M y.F p t)(hl:Lg M y p t)(a7:y.new=none)(j:M.dead=false)(g b a:Nat)(a6:W.node=(g:Int))(a5:g<4)(r:WM)(hW:r={W with calls:=W.calls+1,broken:=false,every:=a,writes:=0}) :
 ∃ i m J A,r.st[i]?=some m/\ZM r (NM.opened g b a y) m=(J,some A)/\(∀ k m,i<k->r.st[k]?=some m->ZM r (NM.opened g b a y) m=(r.most,none))/\(r.ye=true\/i+1=r.st.length) /\
  NI {r with most:=J,st:=r.st.take i++[A],ye:=false} (NM.opened g b a y) M y.F p (t+9):=by
 subst hW;have f:=hl.xr;have N:Kp (NM.opened g b a y) M y.F p (t+9) ((NM.opened g b a y).readOnly=false):=(hl.opened a7 g b a _).mono id (by omega);have c:(NM.opened g b a y).S=atF y.F y.F.length:=N.held;have S:(NM.opened g b a y).readOnly=false:=rfl;have mk:∀ (i J:Nat) (A:LM),i<W.st.length->MOk W.node A (t+9)->Hist (W.st.take i++[A]) y.F p True->Zn W.node (W.calls+1) J y.F p ->
  NI {W with calls:=W.calls+1,broken:=false,every:=a,writes:=0,most:=J,st:=W.st.take i++[A],ye:=false} (NM.opened g b a y) M y.F p (t+9):=fun i J A hi B hh V=>by
  have s:=h.cm.more (u:=t+9) (by omega);have h1:=h.cm.calls;have I:=h.cm.len;have l:=V _ f (Gb _);rw[<- c] at l;exact {
   kp:=N
   cm:=⟨fun m o=>by
    rcases Gf.1 o with e|e
    .exact s.yO m (GN e)
    .rw[Gg] at e;subst e;exact B,(by show W.calls+1<=_;omega),Gz _,(by show(W.st.take i++[A]).length<=_;rw[Ga,Gd,Gi];omega),(by show 0<(W.st.take i++[A]).length;simp),s.next,s.base,s.vh,s.ve,s.vp,s.vt,s.vq,s.vf,s.yk⟩
   room:=h.room
   yl:=hh
   xI:=V
   ro:=rfl
   self:=a6
   nd:=a5
   most:=l.2.1
   given:=Gb _
   wM:=fun _ D=>absurd D (Ao _)
   every:=rfl
   wr:=fun _ _=>by show 0=0%_;rw[Nat.zero_mod]
   nw:=Gz _
   dead:=j}
 rcases h.all with⟨h1,I⟩|⟨hd,st,m,n,l,F0,x,Y,a1,X,D,V,a8⟩
 .have h1':=h1.called
  have d:=h1' _ f (Gb _);rw[<- c] at d;obtain⟨T,hh,hT⟩:∃ T:Prop,Hist W.st y.F p T/\(T\/W.ye=true):=by
   rcases I with I|⟨hd,I⟩
   .exact⟨True,I,.inl trivial⟩
   .exact⟨False,I,.inr (hd.resolve_right (by rw[j];decide))⟩
  obtain⟨i,m,B,hr,Q,a0,C⟩:=hh.found f;rw[<- c] at hr Q;have a3:=(GF.1 B).1;exact⟨i,m,W.most,m,B,Vf (W:={W with calls:=W.calls+1,broken:=false,every:=a,writes:=0}) d.1 S hr,fun k m2 hk o=>PY (W:={W with calls:=W.calls+1,broken:=false,every:=a,writes:=0}) d.1 d.2.2.2 (h.cm.yO m2 (fFS o)).zero (fun e=>Q k m2 hk o e.2),hT.elim (fun x=>.inr (C x)) .inl,
   mk i W.most m a3 ((h.cm.yO m (fFS B)).more (by omega)) a0 h1'⟩
 .have hfell:W.ye=true:=hd.resolve_right (by rw[j];decide)
  have L:=V.called;have d:=L _ f (Gb _);rw[<- c] at d X;have B:W.st[st.length]?=some m:=by rw[l];simp
  have O:(NM.opened g b a y).S.keys.length=m.keys.length:=by
   obtain⟨K,E,v,k1,k2,k3,k4,k5,k6,k7,k8⟩:=X;rw[k6,k7,Ze E _ k1,Ze E _ k1];simp only[Ds,Fk,Zu,Ga,Gi]
  have a2:m.hints=(NM.opened g b a y).S.hints:=by obtain⟨K,E,v,k1,k2,k3,k4,k5,k6,k7,k8⟩:=X;exact k8
  have q:=h.cm.yO m (fFS B);have a4:MOk W.node {m with keys:=(NM.opened g b a y).S.keys} (t+9):=⟨d.1.ym,by show(NM.opened g b a y).S.keys.length<=_;rw[O];have:=q.keys;omega,fun e he=>by have:=(d.1.key e he).2.1;omega,q.hints,d.1.given.zero,q.node⟩;have R:=Hist.push (F:=F0) (G:=[x]) (by simp) (fun hp=>a1 hp) (by rw[<- Y];exact f) {m with keys:=(NM.opened g b a y).S.keys} (by rw[<- Y,<- c];exact⟨rfl,a2⟩);rw[<- Y] at R;refine⟨st.length,m,n,_,B,Tq (W:={W with calls:=W.calls+1,broken:=false,every:=a,writes:=0}) X D (by have:=d.2.1;have:=d.2.2.1;show n<=16*(W.calls+1);omega) S,fun k m2 hk o=>?_,.inl hfell,mk st.length n _ (by rw[l];simp) a4 ?_ L⟩
  .have:=(GF.1 o).1
   have e:({W with calls:=W.calls+1,broken:=false,every:=a,writes:=0}:WM).st.length=st.length+1:=by show W.st.length=_;rw[l];simp
   omega
  .rw[l,DQ]
   exact R
theorem NI.bd{W:WM}{N:NM}{M:DM}{F:List Fact}{p t:Nat}(h:NI W N M F p t):Bd M t:=by
 obtain⟨b,a,_⟩:=h.kp.lg;exact a.bd
theorem NI.more{W:WM}{N:NM}{M:DM}{F:List Fact}{p t u:Nat}(h:NI W N M F p t)(a:t<=u):NI W N M F p u :=
 {h with kp:=h.kp.mono id a,cm:=h.cm.more a,nw:=Gc h.nw a}
theorem Sh.more{W:WM}{M:DM}{F:List Fact}{p t u:Nat}(h:Sh W M F p t)(a:t<=u):Sh W M F p u:=by
 obtain⟨d,c,b⟩:=h.lg;exact⟨⟨d,c.more a,b⟩,h.cm.more a,h.room,h.all⟩
theorem NI.called{W:WM}{N:NM}{M:DM}{F:List Fact}{p t:Nat}(h:NI W N M F p t):NI {W with calls:=W.calls+1} N M F p (t+1):=by
 have c:=h.cm.more (u:=t+1) (by omega);have a:=h.cm.calls;exact {h with
  kp:=h.kp.mono id (by omega)
  cm:=⟨c.yO,(by show W.calls+1<=_;omega),c.ww,c.len,c.ne,c.next,c.base,c.vh,c.ve,c.vp,c.vt,c.vq,c.vf,c.yk⟩
  xI:=h.xI.called
  nw:=by have:=h.nw;omega}
theorem NI.sync{W:WM}{N:NM}{M:DM}{F:List Fact}{p t:Nat}(h:NI W N M F p t)(X:t<=980000)(g:N.readOnly=false) :
 ((N.AJ M).1=0/\(N.AJ M).2.2.refused=M.refused/\∃ o i,NI {W with st:=W.st.drop (W.st.length-1)} (N.AJ M).2.1 (N.AJ M).2.2 o i (t+2)) \/
   ((N.AJ M).1=9/\(N.AJ M).2.2.refused=M.refused+1/\(N.AJ M).2.2.AD=M.AD/\∃ o i,Sh {W with broken:=true} (N.AJ M).2.2 o i (t+2)/\((N.AJ M).2.2.dead=false->NI {W with broken:=true} (N.AJ M).2.1 (N.AJ M).2.2 o i (t+2))):=by
 obtain⟨e,E,G,i,Q,w,r,A,j⟩:=Sv (h.kp.mono (fun _=>g) (Gb _)) (by omega);have C:N.AJ M=(Zh e,({N with J:=E}:NM).yo e,G):=by
  unfold NM.AJ;rw[Gl (by rw[g];decide),Q]
 rw[C];simp only;have d:G.room=W.yF:=w.room.trans h.room;have c:Zn W.node W.calls W.most F i:=fun q a b=>h.xI q (Gc r a) b;have V:=h.nw;rcases w.yo.1 with⟨rfl,v,I,S⟩|⟨v,⟨rfl,I⟩|⟨rfl,_⟩⟩
 .obtain⟨ml,hml,hrel,hpos⟩:=h.yl.last h.kp.le
  have B:=j rfl;have D:W.st.drop (W.st.length-1)=[ml]:=by
   have O:=Fb (show W.st.length-1<W.st.length by omega);rw[Gq (by omega)] at hml;rw[O,GG hml,GX (by omega)]
  have f:=w.kp;refine .inl ⟨rfl,v,F,i,?_⟩;rw[D];have l:=h.cm.yO ml (fFS hml);have J:=h.cm.len;exact {h with
   kp:=⟨f.lg.imp fun L x=>⟨x.1,x.2.1,fun _=>x.2.2 rfl⟩,f.held⟩
   cm:=(h.cm.more (u:=t+2) (by omega)).yR (W':={W with st:=[ml]}) rfl (fun m K=>by rw[Gg] at K;subst K;exact l.more (by omega)) (by show 1<=_;omega) (by show 0<1;omega) ((h.cm.more (u:=t+2) (by omega)).ww) rfl rfl rfl rfl
   room:=d
   yl:=by rw[B];exact Hist.one ml hrel
   xI:=c
   ro:=by show(N.readOnly||false)=_;rw[Bool.or_false];exact h.ro
   wM:=fun _ y q a b=>h.wM g y q (Gc r a) b
   wr:=fun _=>h.wr g
   nw:=by show N.writes<=_;omega
   dead:=S.trans h.dead}
 .refine .inr ⟨rfl,v,I,F,i,⟨w.kp.lg.imp fun L x=>⟨x.1,x.2.1⟩,(h.cm.more (u:=t+2) (by omega)).yR (W':={W with broken:=true}) rfl (h.cm.more (u:=t+2) (by omega)).yO (h.cm.more (u:=t+2) (by omega)).len h.cm.ne (h.cm.more (u:=t+2) (by omega)).ww rfl rfl rfl rfl,d,.inl ⟨c,.inl (h.yl.mono r id)⟩⟩,fun T=>?_⟩
  have f:=w.kp;have s:(({N with J:=E}:NM).yo (some 9)).readOnly=true:=by show(N.readOnly||true)=true;rw[Bool.or_true]
  exact {h with
   kp:=⟨f.lg.imp fun L x=>⟨x.1,x.2.1,fun e=>by rw[s] at e;cases e⟩,f.held⟩
   cm:=(h.cm.more (u:=t+2) (by omega)).yR (W':={W with broken:=true}) rfl (h.cm.more (u:=t+2) (by omega)).yO (h.cm.more (u:=t+2) (by omega)).len h.cm.ne (h.cm.more (u:=t+2) (by omega)).ww rfl rfl rfl rfl
   room:=d
   yl:=h.yl.mono r id
   xI:=c
   ro:=s
   wM:=fun e=>by rw[s] at e;cases e
   wr:=fun e=>by rw[s] at e;cases e
   nw:=by show N.writes<=_;omega
   dead:=T}
 .exact absurd rfl A
theorem NI.AH{W:WM}{N:NM}{M a:DM}{F:List Fact}{p t:Nat}(h:NI W N M F p t)(o:∀ b,Lg M b p t->Lg a b p t)(c:a.safe=M.safe)(d:a.dir=M.dir)(f:a.AA=M.AA)(l:∀ g,(a.file g).bytes=(M.file g).bytes)(i:a.room=M.room)(j:a.dead=M.dead):NI W N a F p t :=
 {h with
  kp:=⟨h.kp.lg.imp fun b x=>⟨o b x.1,x.2.1,fun e=>⟨by have:=(x.2.2 e).1;unfold Jl at this |-;rw[c,d,f];exact this,(x.2.2 e).2.up (Ext.refl b) (fun g _=>l g)⟩⟩,h.kp.held⟩
  room:=i.trans h.room
  dead:=j.trans h.dead}
structure StC(w:World)(sb db:Nat)(nv:Value)(n calls:Nat)(nums:Value)(LD:DL)(M:DM):Prop where
 Ay:Blk w sb (zp db nv n calls nums) 58
 AH:DRep w db LD M
structure StO(w:World)(sb n calls:Nat)(nums:Value)(X:NL)(N:NM)(M:DM):Prop where
 Ay:Blk w sb (zp X.db (.pointer (some ⟨X.nb,0,none⟩)) n calls nums) 58
 node:NRep w X N M
theorem IZ:¬DTy 58:=by unfold DTy;decide
theorem StC.sep{w:World}{e d:Nat}{f:Value}{n a:Nat}{b:Value}{c:DL}{M:DM}(h:StC w e d f n a b c M):¬Foot d c M e:=h.AH.apart h.Ay.ty IZ
structure Opd(W:WM)(M:DM)(syn:Nat)(N:NM)(M':DM)(W':WM):Prop where
 refused:M'.refused=M.refused
 AD:M'.AD=M.AD
 calls:M.calls<=M'.calls
 room:M'.room=M.room
 cut:M'.cut=M.cut\/M'.cut=0
 fail:M'.fail=M.fail\/M'.fail=0
 mg:N.mg=none
 found:∃ (ye:Bool) (i mo:Nat) (m m':LM),(M.dead=false->ye=W.ye)/\W.st[i]?=some m/\(ye=true\/i+1=W.st.length) /\
  ZM {W with ye:=ye,calls:=W.calls+1,broken:=false,every:=syn,writes:=0} N m=(mo,some m') /\
  W'={W with calls:=W.calls+1,broken:=false,every:=syn,writes:=0,most:=mo,st:=W.st.take i++[m'],ye:=false}
structure Rst(W:WM)(M:DM)(t:Nat)(ye:Bool)(M1:DM)(y:Lay)(p:Nat):Prop where
 sh:Sh {W with ye:=ye} M1 y.F p t
 lg:Lg M1 y p t
 dead:M1.dead=false
 same:M.dead=false->ye=W.ye
 refused:M1.refused=M.refused
 AD:M1.AD=M.AD
 calls:M1.calls=M.calls
 room:M1.room=M.room
 cut:M1.cut=M.cut\/M1.cut=0
 fail:M1.fail=M.fail\/M1.fail=0
theorem Sh.wB{W:WM}{M:DM}{F:List Fact}{p t:Nat}(h:Sh W M F p t):∃ y,Lg M y p t/\Sh W M y.F p t:=by
 obtain⟨y,b,a⟩:=h.lg;exact⟨y,b,by rw[a];exact h⟩
theorem Sh.wS{W:WM}{M:DM}{y:Lay}{p t:Nat}(h:Sh W M y.F p t):Sane y.held t:=by
 have:=h.vS.2;unfold atF at this;rw[Gt] at this;exact this
theorem Rst.AM{W:WM}{M:DM}{F:List Fact}{p t:Nat}(h:Sh W M F p t)(f:M.dead=true)(b:Int)(a:List Int):∃ y c,Rst W M t true (M.AM b a) y c:=by
 obtain⟨j,c,d⟩:=h.AM b a;obtain⟨y,g,i⟩:=d.wB;exact⟨y,c,i,g,rfl,(fun e=>by rw[f] at e;cases e),rfl,rfl,rfl,rfl,.inr rfl,.inr rfl⟩
theorem Rst.stay{W:WM}{M:DM}{F:List Fact}{p t:Nat}(h:Sh W M F p t)(a:M.dead=false):∃ y d,Rst W M t W.ye M y d:=by
 obtain⟨y,b,c⟩:=h.wB;exact⟨y,p,c,b,a,fun _=>rfl,rfl,rfl,rfl,rfl,.inl rfl,.inl rfl⟩
theorem Rst.AR{W:WM}{M:DM}{t:Nat}{a:Bool}{b:DM}{y:Lay}{p:Nat}(h:Rst W M t a b y p){c:List (Nat × Nat)}(d:Pairs b c):Rst W M t a (b.AR c) (y.AR c) p :=
 ⟨by rw[Lay.xe];exact h.sh.AR d,h.lg.AR d,h.dead,h.same,h.refused,h.AD,h.calls,h.room,h.cut,h.fail⟩
theorem Sh.wW{W:WM}{M c:DM}{F:List Fact}{p t u:Nat}(h:Sh W M F p t){y:Lay}(f:Lg c y p u)(e:y.F=F)(g:c.room=M.room)(d:M.dead=true->c.dead=true)(i:t<=u):Sh W c F p u:=by
 refine⟨⟨y,f,e⟩,h.cm.more i,g.trans h.room,?_⟩;rcases h.all with⟨a,b⟩|⟨a,b⟩
 .exact .inl ⟨a,b.imp id fun x=>⟨x.1.imp id d,x.2⟩⟩
 .exact .inr ⟨a.imp id d,b⟩
theorem Rst.opd{W:WM}{M:DM}{t:Nat}{b:Bool}{l:DM}{y:Lay}{p:Nat}(h:Rst W M t b l y p){f:DM}{d:Lay}(D:Lg f d p (t+1))(C:d.F=y.F)(v:d.new=none)(K:Ans l f none)(g:f.room=l.room)(k c a:Nat)(s:W.node=(k:Int))(r:k<4) :
 ∃ B,NI B (NM.opened k c a d) f d.F p (t+10)/\Opd W M a (NM.opened k c a d) f B:=by
 obtain⟨o,A⟩:=K;obtain⟨_,E,G,I⟩:=o.resolve_right (fun x=>by rcases x.2 with⟨e,_⟩|⟨e,_⟩ <;> cases e);have j:=Sh.wW h.sh D C g (fun e=>by rw[h.dead] at e;cases e) (FQ t);rw[<- C] at j;obtain⟨i,m,O,N,L,J,_,q,u⟩:=Sh.found j D v (I.trans h.dead) k c a s r _ rfl;exact⟨_,u.more (by omega),E.trans h.refused,G.trans h.AD,by rw[<- h.calls];exact A.le,g.trans h.room,by rw[A.cut];exact h.cut,by rw[A.fail];exact h.fail,rfl,b,i,O,m,N,h.same,L,q,J,rfl⟩
structure Shd(W:WM)(M:DM)(M':DM)(W':WM):Prop where
 node:W'.node=W.node
 calls:W'.calls=W.calls+1
 most:W'.most=W.most
 yF:W'.room=W.room
 room:M'.room=M.room
 vI:M.cut=0->M.fail=0->False
theorem Rst.shd{W:WM}{M:DM}{t:Nat}{d:Bool}{b:DM}{y:Lay}{p:Nat}(h:Rst W M t d b y p){c:DM}{l:Lay}(u:Lg c l p (t+1))(m:l.F=y.F){n:Int}(o:Ans b c (some n))(i:(some n:Option Int)≠some 10)(f:c.room=b.room) :
 n=9/\c.refused=b.refused+1/\∃ k,(∃ F p,Sh k c F p (t+10))/\Shd W M c k:=by
 obtain⟨g,A⟩:=o;have v:n=9/\c.refused=b.refused+1:=by
  rcases g with⟨e,_⟩|⟨a,⟨e,_⟩|⟨e,_⟩⟩
  .cases e
  .exact⟨GG e,a⟩
  .exact absurd e i
 obtain⟨rfl,x⟩:=v;have q:=A.bad rfl h.dead;have B:=h.lg.bd.c0;have j:=Sh.wW h.sh u m f (fun e=>by rw[h.dead] at e;cases e) (FQ t);refine⟨rfl,x,_,⟨_,_,(Sh.called j).more (by omega)⟩,rfl,rfl,rfl,rfl,f.trans h.room,fun C D=>?_⟩;have r:b.cut=0:=by rcases h.cut with e|e <;> omega
 have s:b.fail=0:=by rcases h.fail with e|e <;> omega
 rcases q.2 with⟨e,_⟩|⟨e,_⟩ <;> omega
structure UpK(sb db:Nat)(nv:Value)(n calls:Nat)(nums:Value)(W:WM)(LD:DL)(M:DM)(t:Nat)(w:World)(ye:Bool)(LD1:DL)(M1:DM)(y:Lay)(p:Nat)(w1:World):Prop where
 st:StC w1 sb db nv n calls nums LD1 M1
 vH:Rst W M t ye M1 y p
 fr:Fr (Foot db LD M) w w1
 AX:∀ k,Foot db LD1 M1 k->Foot db LD M k\/w.heap.size<=k
theorem Q5(d9:zl)(B c D n a:Nat)(nv b:Value)(W:WM)(V:DL)(M:DM)(l q:Int)(t:Nat)(w:World)(h:StC w c D nv n a b V M)(f3:zG B w)(hB:B<=w.heap.size)(k1:B<=c)(e0:∀ k,Foot D V M k->B<=k)
 (hr:∃ F p,Sh W M F p t)(ht:t<=890000)(g4:W.node=(n:Int))(g3:n<4)(k5:a<=10000000)(a1:-9223372036854775808<=l/\l<=9223372036854775807)(f1:-9223372036854775808<=q/\q<=9223372036854775807) :
 Calls Tryz.prog 76 #[.pointer (some ⟨c,0,none⟩),.int .i64 l,.int .i64 q] w fun e w'=>e=.returned (.bool true) /\
  Fr (fun k=>k=c\/Foot D V M k) w w'/\((∃ X N M' Y,StO w' c n (a+1) b X N M'/\(∃ F p,NI Y N M' F p (t+10))/\Opd W M (zu q 5) N M' Y/\(∀ k,NFoot X M' k->w.heap.size<=k)/\(∀ k,SRead X.LS k->w.heap.size<=k)) \/
   ∃ i1 i0 M' Y,StC w' c i1 (.pointer none) n (a+1) b i0 M'/\(∃ F p,Sh Y M' F p (t+10))/\Shd W M M' Y/\∀ k,Foot i1 i0 M' k->w.heap.size<=k):=by
 obtain⟨F0,p0,e8⟩:=hr;obtain⟨y0,j5,k3⟩:=e8.wB;have d4:=j5.bd;have g2:∀ k,w.cell? ⟨c,k,none⟩=(zp D nv n a b)[k]?:=h.Ay.cell;simp only[zp] at g2;have s:=Z (Y1 w D V M h.AH);have a8:Hid (∀ g tv,Fr Nil w g->ZZ g tv [q,l]->(∀ k,tv.ownBlock=some k->w.heap.size<=k)->Calls Tryz.prog 33 #[.pointer (some ⟨D,0,none⟩),.int .i64 l,tv] g fun e w'=>e=.returned (.tuple #[])/\∃ L',DStep D V M g L' (M.AM l [q,l]) w'):=fun g tv f l9 J =>
  Vs l [q,l] tv g D V M (h.AH.nil f) a1.1 a1.2 l9 (fun k _ e v=>by have h1:=J k e;have h2:=h.AH.lt v;omega) (fun x hx=>by simp only[GH,Ev,Co] at hx;rcases hx with rfl|rfl;exact f1;exact a1) (fun f hf=>by have:=d4.file hf;omega) (by have:=d4.AA;omega) (fun d l0=>by have:=d4.yk d l0;omega)
 have HH:=Z h;have h9:=Z f3;have g7:=Z hB;have g9:=Z e0;have k8:=Z k1;have h0:=Z k3;clear h f3 hB e0 k1 d4 j5 k3 e8;go_enter Tryz.func76,Tryz.ntmps76;cases hdd:M.dead
 case' false =>
  rw[hdd] at s
  go_wp2_with (refine s.out.mono ?_;rintro e g ⟨rfl,d6⟩;subst g)
  obtain⟨y1,p1,K⟩:=Rst.stay h0.out hdd;have c6:UpK c D nv n a b W V M t w W.ye V M y1 p1 w:=⟨HH.out,K,U _ _,fun _ e=>.inl e⟩;clear K g2 s a8 hdd;obtain⟨I,a4,M1,O,k4,L⟩:∃ I a4 M1 O,O=w/\UpK c D nv n a b W V M t w I a4 M1 y1 p1 O:=⟨_,_,_,_,rfl,c6⟩;have o:=Z L;clear c6 L;rw[<- k4];clear k4
 case' true =>
  rw[hdd] at s;have i7:=Blk.new w [.int .i64 q,.int .i64 l] 3;have f0:Fr Nil w (w.alloc (.cells #[.int .i64 q,.int .i64 l] 3)):=(U _ _).alloc _;have HC:=Z (a8.out _ (.slice (some ⟨w.heap.size,0,none⟩) 2 2) f0 (.inr ⟨w.heap.size,0,2,rfl,by simp,(by show 2<=maxLen;decide),fun j hj=>by rw[Fh,i7.cell];exact(match j,hj with|0,_=>rfl|1,_=>rfl|(j+2),hj=>absurd hj (by simp))⟩) (fun k e=>by simp only[Value.ownBlock,GU] at e;omega));have f5:=Z f0;clear i7 f0
  go_wp2_with (refine s.out.mono ?_;rintro e g ⟨rfl,d6⟩;subst g)
  refine HC.out.mono ?_;rintro e O ⟨rfl,a4,hs⟩;obtain⟨y1,p1,K⟩:=Rst.AM h0.out hdd l [q,l];have g0:Fr (Foot D V M) w O:=(f5.out.mono (S':=Foot D V M) (fun _ _ e=>absurd e id)).trans hs.fr;have c6:UpK c D nv n a b W V M t w true a4 (M.AM l [q,l]) y1 p1 O:=⟨⟨HH.out.Ay.fr g0 HH.out.sep,hs.AK⟩,K,g0,fun k e=>(hs.AX k e).imp id (fun e=>Gc f5.out.size e)⟩;clear K g2 s a8 hdd hs g0 f5 HC;go_wp2_with fail;obtain⟨I,M1,L⟩:∃ I M1,UpK c D nv n a b W V M t w I a4 M1 y1 p1 O:=⟨_,_,c6⟩;have o:=Z L;clear c6 L
 all_goals
  have b3:Hid (zG B O):=h9.out.fr g7.out o.out.fr g9.out;have a6:Hid (B<=O.heap.size):=Gc g7.out o.out.fr.size;refine(Ii d9 B c D n nv a b a4 M1 y1 p1 t O o.out.st.Ay g3 o.out.st.AH b3.out a6.out o.out.vH.lg o.out.vH.sh.wS (by omega)).mono ?_;rintro e w2 ⟨rfl,f2⟩;have i9:∀ k,w2.cell? ⟨c,k,none⟩=(zp D nv n a b)[k]?:=(o.out.st.Ay.fr f2 id).cell;simp only[zp] at i9;have f6:=Z f2;clear f2;go_wp2_with fail;refine(Jh (o.out.st.AH.nil f6.out) o.out.vH.lg (by omega)).mono ?_;rintro e w3 ⟨r,L2,ps,rfl,c1,e3⟩;have C:=o.out.vH.AR e3;generalize M1.AR ps=Q at c1 C;generalize y1.AR ps=y2 at C;have F3:=f6.out.trans c1.fr;have d2:=o.out.st.Ay.fr F3 id;have j7:c<O.heap.size:=o.out.st.Ay.lt;have J:∀ k,Foot r L2 Q k->O.heap.size<=k:=fun k v=>Gc f6.out.size (c1.new k v);have i8:∀ k,Foot r L2 Q k->¬k=c:=fun k v e=>by subst e;have:=J _ v;omega
  have d5:Fr (fun k=>k=c) w3 (w3.setCell ⟨c,0,none⟩ (.pointer (some ⟨r,0,none⟩))):=Fr.set (S:=fun k=>k=c) (p:=⟨c,0,none⟩) (U _ _) (fun _=>rfl) _;have i2:=c1.AK.fr d5 i8;have i5:=d2.set 0 (.pointer (some ⟨r,0,none⟩));have i3:Fr (fun k=>k=c) O _:=(F3.mono (S':=fun k=>k=c) (fun _ _ e=>absurd e id)).trans d5;have c5:zG B _:=(b3.out.fr a6.out F3 (fun _ e=>absurd e id)).fr (Gc a6.out F3.size) d5 (fun k e=>by subst e;exact k8.out);have j0:∀ k,w3.cell? ⟨c,k,none⟩=(zp D nv n a b)[k]?:=d2.cell;have m0:=d2.frozen;simp only[zp] at j0;have d1:=Z C;have u:=Z J;have R:=Z j7;have a2:=Z i5;have c8:=Z i3;have f4:=Z i2;have b4:=Z c5;clear i9 c1 e3 C F3 d2 i5 d5 j7 i8 i2 J i3 c5;go_wp2_with fail;generalize w3.setCell ⟨c,0,none⟩ (.pointer (some ⟨r,0,none⟩))=w4 at a2 c8 f4 b4 |-;have j1:∀ k,w4.cell? ⟨c,k,none⟩=(zp r nv n a b)[k]?:=a2.out.cell;simp only[zp] at j1;clear j0 m0;refine(Wr w4 r L2 Q f4.out).mono ?_;rintro e g ⟨rfl,d6⟩;subst g;have g6:Hid (B<=w4.heap.size):=Gc a6.out c8.out.size;have a7:=Z (fun g=>Uk n l q g ⟨by omega,by omega⟩ a1 f1);rw[Wg g3] at a7;have b7:ZX n (1000+zu l 2000:Nat) (zu q 5)=true:=by
   have h1:=ZH l (n:=2000) (by decide);have h2:=ZH q (n:=5) (by decide);unfold ZX zR;simp only[Fm,Gr];omega
  obtain⟨sg,k2⟩:∃ sg:Nat,sg=1000+zu l 2000:=⟨_,rfl⟩;obtain⟨sy,g5⟩:∃ sy:Nat,sy=zu q 5:=⟨_,rfl⟩;rw[<- k2,<- g5] at a7 b7;obtain⟨e5,G,y5,⟨j6,i4,i6,e4,-,-,e1,e2⟩,j9⟩:=Jg d9 B Q n sg sy y2 p1 t b7 d1.out.lg (by omega);have k6:Hid (∀ g,Fr Nil w4 g->Calls Tryz.prog 49 #[.pointer (some ⟨r,0,none⟩),.agg #[.int .i64 n,.int .i64 sg,.int .i64 sy]] g fun e w'=>∃ na en,e=.returned (.tuple #[.pointer na,.int .i64 en])/\Fr (Foot r L2 Q) g w' /\
   ((e5=none/\en=0/\∃ X,na=some ⟨X.nb,0,none⟩/\NRep w' X (NM.opened n sg sy y5) G/\X.db=r/\(∀ k,NFoot X G k->Foot r L2 Q k\/g.heap.size<=k)/\(∀ k,SRead X.LS k->g.heap.size<=k))\/(na=none/\e5=some en/\∃ L',DStep r L2 Q g L' G w'))):=fun g f=>by
   refine(j9 r L2 g (f4.out.nil f) (b4.out.fr g6.out f (fun _ e=>absurd e id)) (Gc g6.out f.size) (fun k v=>Gc a6.out (u.out k v))).mono ?_;rintro e w' (⟨h1,X,h2,h3,h4,h5,h6,h7⟩|⟨m,L',h1,h2,h3⟩)
   .exact⟨_,_,h2,h7,.inl ⟨h1,rfl,X,rfl,h3,h4,h5,h6⟩⟩
   .exact⟨_,_,h2,h3.fr,.inr ⟨rfl,h1,L',h3⟩⟩
  have g8:=Z (And.intro j6 (And.intro i4 (And.intro i6 (And.intro e4 (And.intro e1 e2)))));clear b7 j9 j6 i4 i6 e4 e1 e2;have h8:=Z g5;clear k2 g5;have c7:Hid (∀ g,Fr (Foot r L2 Q) w4 g->g.cell? ⟨c,0,none⟩=some (.pointer (some ⟨r,0,none⟩))/\g.cell? ⟨c,2,none⟩=some (.int .i64 (n:Nat))) :=
   fun g f=>⟨(a2.out.fr f (fun e=>by have:=u.out _ e;have:=R.out;omega)).cell 0,(a2.out.fr f (fun e=>by have:=u.out _ e;have:=R.out;omega)).cell 2⟩
  have k9:=c7.out w4 (U _ _);clear j1;go_wp2_with fail;have d7:Hid (∀ g,Fr Nil w4 g->g.cell? ⟨c,0,none⟩=some (.pointer (some ⟨r,0,none⟩))/\g.cell? ⟨c,2,none⟩=some (.int .i64 (n:Nat))):=fun g f=>c7.out g (f.mono (fun _ _ e=>absurd e id))
  go_region_held3 (fun g=>g.cell? ⟨c,0,none⟩=some (.pointer (some ⟨r,0,none⟩))/\g.cell? ⟨c,2,none⟩=some (.int .i64 (n:Nat))) (first|assumption|go_keep|exact d7.out _ zd|exact c7.out _ zd)
   (first
     | (go_at_call 49;refine(k6.out _ c9.out).mono ?_;rintro e w9 ⟨na,en,rfl,j3,c2⟩;have g1:Fr (Foot r L2 Q) w4 w9:=(c9.out.mono (S':=Foot r L2 Q) (fun _ _ e=>absurd e id)).trans j3;have m1:=c7.out w9 g1;have f7:=Z g1;have k7:=Z c2;clear c2 j3 g1)
     | (go_at_call 127;refine(a7.out _).mono ?_;rintro e wc ⟨rfl,fc⟩;have c9:Hid (Fr Nil w4 wc):=Fr.trans zd fc;have m2:=d7.out wc c9.out;clear fc))
  have c0:¬Foot r L2 Q c:=fun e=>by have:=u.out _ e;have:=R.out;omega
  have d3:=a2.out.fr f7.out c0;have j2:∀ k,w9.cell? ⟨c,k,none⟩=(zp r nv n a b)[k]?:=d3.cell;have j4:=d3.frozen;simp only[zp] at j2;have d8:=(d3.set 3 (.int .i64 ((a:Int)+1))).set 1 (.pointer na);have b9:Fr (fun k=>k=c) w9 ((w9.setCell ⟨c,3,none⟩ (.int .i64 ((a:Int)+1))).setCell ⟨c,1,none⟩ (.pointer na)) :=
   Fr.set (S:=fun k=>k=c) (p:=⟨c,1,none⟩) (Fr.set (S:=fun k=>k=c) (p:=⟨c,3,none⟩) (U _ _) (fun _=>rfl) _) (fun _=>rfl) _
  have m3:IntKind.i64.wrap ((a:Int)+1)=(a:Int)+1:=by rw[Gs];omega
  have b1:=Z d8;have a9:=Z b9;have f8:Hid (Fr (fun k=>k=c\/Foot D V M k) w ((w9.setCell ⟨c,3,none⟩ (.int .i64 ((a:Int)+1))).setCell ⟨c,1,none⟩ (.pointer na))) :=
   ((((o.out.fr.mono (fun _ _ e=>.inr e)).trans (c8.out.mono (fun _ _ e=>.inl e))).trans' f7.out (fun i hi e=>by have:=u.out i e;have:=o.out.fr.size;omega)).trans (b9.mono (fun _ _ e=>.inl e)))
  have a3:Hid (w.heap.size<=O.heap.size/\O.heap.size<=wc.heap.size):=⟨o.out.fr.size,Gc c8.out.size c9.out.size⟩;clear k9 m2 m1 d8 b9 c0 d3;go_wp2_with fail;generalize (w9.setCell ⟨c,3,none⟩ (.int .i64 ((a:Int)+1))).setCell ⟨c,1,none⟩ (.pointer na)=y at b1 a9 f8 |-;clear j2 j4;rcases k7.out with⟨a5,rfl,X,rfl,c2,b8,a0,c3⟩|⟨rfl,a5,L9,c4⟩
  .have hS:Blk y c (zp r (.pointer (some ⟨X.nb,0,none⟩)) n ((a+1:Nat):Int) b) 58:=b1.out
   have T:∀ k,NFoot X G k->O.heap.size<=k:=fun k v=>(a0 k v).elim (u.out k) (fun e=>by have:=a3.out;omega);have c0:∀ k,NFoot X G k->¬k=c:=fun k v e=>by have:=T k v;have:=R.out;omega
   have j8:∀ k,SRead X.LS k->¬k=c:=fun k v e=>by have:=c3 k v;have:=R.out;have:=a3.out;omega
   have e6:Ty w9 c 58:=(a2.out.fr f7.out (fun e=>by have:=u.out _ e;have:=R.out;omega)).ty;have b5:=c2.fr a9.out c0 j8 (fun k t v ht e=>by subst e;have:=v.inj e6;subst this;revert ht;unfold MTy;decide);have f9:Hid (StO y c n (a+1) b X (NM.opened n sg sy y5) G):=⟨by rw[b8];exact hS,b5⟩;have A:DRep y r X.LD G:=by have:=b5.AH;rw[b8] at this;exact this
   have E:Hid (G.refused=Q.refused/\∃ Y,(∃ F p,NI Y (NM.opened n sg sy y5) G F p (t+10))/\Opd W M (zu q 5) (NM.opened n sg sy y5) G Y):=by
    obtain⟨l1,l2,l3,l4,_,l6⟩:=g8.out;rw[a5] at l3;obtain⟨Y,h1,h2⟩:=d1.out.opd l1 l2 (l6 a5) l3 l4 n sg sy g4 g3;rw[h8.out] at h2;refine⟨?_,Y,⟨_,_,h1⟩,by rw[h8.out];exact h2⟩;have:=h2.refused;rw[this,d1.out.refused]
   have b6:∀ k,y.cell? ⟨c,k,none⟩=(zp r (.pointer (some ⟨X.nb,0,none⟩)) n ((a+1:Nat):Int) b)[k]?:=hS.cell;simp only[zp] at b6;have b0:=Z (Wr y r X.LD G A);rw[E.out.1] at b0;have l8:decide (Q.refused<Q.refused)=false:=by simp
   have d0:=Z (And.intro T c3);clear hS c0 j8 b5 A T c2 b8 a0 c3 e6 a5
   go_wp2_with (refine b0.out.mono ?_;rintro e g ⟨rfl,d6⟩;subst g)
   go_ret;obtain⟨_,Y,h1,h2⟩:=E.out;exact⟨rfl,f8.out,.inl ⟨X,_,G,Y,f9.out,h1,h2,fun k v=>by have:=d0.out.1 k v;have:=a3.out;omega,fun k v=>by have:=d0.out.2 k v;have:=a3.out;omega⟩⟩
  .obtain⟨l1,l2,l3,l4,l5,_⟩:=g8.out
   rw[a5] at l3 l5;obtain⟨l7,k0,Y,e7,e9⟩:=d1.out.shd l1 l2 l3 l5 l4;subst l7;have hS:Blk y c (zp r (.pointer none) n ((a+1:Nat):Int) b) 58:=b1.out;have T:∀ k,Foot r L9 G k->O.heap.size<=k:=fun k v=>(c4.AX k v).elim (u.out k) (fun e=>by have:=a3.out;omega);have A:DRep y r L9 G:=c4.AK.fr a9.out (fun k v e=>by have:=T k v;have:=R.out;omega);have f9:Hid (StC y c r (.pointer none) n (a+1) b L9 G):=⟨hS,A⟩;have b6:∀ k,y.cell? ⟨c,k,none⟩=(zp r (.pointer none) n ((a+1:Nat):Int) b)[k]?:=hS.cell;simp only[zp] at b6;have b0:=Z (Wr y r L9 G A);rw[k0] at b0;have l8:decide (Q.refused<Q.refused+1)=true:=by simp;omega
   have E:=Z (And.intro e7 e9);have d0:=Z T;clear hS A T a5 l1 l2 l3 l4 l5 k0 e7 e9 c4
   go_wp2_with (refine b0.out.mono ?_;rintro e g ⟨rfl,d6⟩;subst g)
   go_ret;exact⟨rfl,f8.out,.inr ⟨r,L9,G,Y,f9.out,E.out.1,E.out.2,fun k v=>by have:=d0.out k v;have:=a3.out;omega⟩⟩
def InR(x:Int):Prop:=-9223372036854775808<=x/\x<=9223372036854775807
def Hy(w:World)(v:Value):Prop:=∃ l,ZZ w v l/\∀ x,x∈l->InR x
structure Vv(w:World)(o:OpM):Prop where
 a:InR o.a
 b:InR o.b
 yw:Hy w o.yw
theorem ZZ.own{w:World}{v:Value}{l:List Int}(h:ZZ w v l):∀ k,l≠[]->v.ownBlock=some k->k<w.heap.size:=fun k a e=>by
 rcases h with⟨_,i⟩|⟨g,j,c,rfl,m,_⟩
 .exact absurd i a
 .simp[Value.ownBlock] at e;omega
theorem ZZ.form{w:World}{v:Value}{l:List Int}(h:ZZ w v l):∃ a n c,v=.slice a n c:=by
 rcases h with⟨⟨a,c,rfl⟩,_⟩|⟨g,d,b,rfl,_⟩
 .exact⟨_,_,_,rfl⟩
 .exact⟨_,_,_,rfl⟩
theorem Sh.Aw(node h r s:Int)(B:InR h):Sh (WM.Aw node h r s 0) (DM.new (YW h)) [] 0 0 where
 lg:=by
  refine⟨⟨[],[],none,[],none,0⟩,?_,rfl⟩;have t:0<=YW h/\YW h<9223372036854775808:=by
   have C:=B.2;unfold YW;split <;> omega
  have l:∀ D∈(DM.new (YW h)).safe::(DM.new (YW h)).AA,D=[]:=fun D p=>by
   rw[show DM.safe (DM.new (YW h))::DM.AA (DM.new (YW h))=[[]] from rfl] at p;exact Gg.1 p
  have j:Snd (DM.new (YW h)) ⟨[],[],none,[],none,0⟩ [] ⟨[],none,0,0,none⟩:=⟨DR _,Gb _,Gb _,(fun e c=>by cases c),Dd,(fun b u=>by cases u),fun _=>⟨rfl,rfl⟩,Dd,(fun e c=>by cases c)⟩;exact {
   bd:=⟨Ef _,Ef _,Ef _,Ef _,Ef _,t.1,t.2,Ef _,(fun g y=>by cases y),Dd,Gb _,(fun e c=>by cases c),Dd,Gb _,(fun d x=>by rw[l d x];exact Gb _),Gb _⟩
   ym:=List.Pairwise.nil
   pos:=fun e c=>by cases c
   gid:=Dd
   yT:=fun e c=>by cases c
   yA:=fun e c=>by cases c
   bytes:=fun e c=>by cases c
   ok:=fun e c=>by cases c
   le:=fun e c=>by cases c
   full:=fun e c=>by cases c
   yD:=fun i=>by simp[Lay.F,zv,SM.nil]
   fl:=Gb _
   now:=j
   yl:=fun D p=>by rw[l D p];exact⟨_,j,Gz _⟩
   cur:=Gh ..
   live:=fun e c=>by cases c}
 cm:=⟨fun m A=>by
  have o:m∈[(⟨node,[],[]⟩:LM)]:=A;rw[Gg] at o;subst o;exact⟨List.Pairwise.nil,Gb _,fun e c=>(by cases c),Gz _,fun e c=>(by cases c),rfl⟩,Gb _,Gb _,Gb _,Nat.zero_lt_one,Gb _,Gz _,Gb _,Gb _,Gb _,Gb _,Gb _,Gb _,⟨by show(-9223372036854775808:Int)<=0;decide,by show(0:Int)<=9223372036854775807;decide⟩⟩
 room:=rfl
 all:=.inl ⟨fun q a b=>by
  have:q=0:=Nat.le_zero.1 b;subst this;exact⟨⟨List.Pairwise.nil,fun e c=>(by cases c),Gz _,fun e c=>(by cases c),fun e c=>(by cases c),fun e c=>(by cases c)⟩,Gb _,Gz _,fun e c=>(by cases c)⟩,.inl (Hist.one ⟨node,[],[]⟩ ⟨rfl,rfl⟩)⟩
def Xn(v:Ver):Ver:={v with seq:=0}
def ZN(K:Keys):Keys:=K.map fun e=>(e.1,e.2.map Xn)
theorem Ij(n:Int)(u:List Ver):(u.map (TI n)).map Xn=u.map Xn:=by
 rw[Fv];refine Ee fun v _=>?_;show Xn (TI n v)=Xn v;unfold TI;split <;> rfl
theorem U4(c:Int):∀ (d:Int)(S M:Keys),ZN (Z9 c d S M).1=ZN M
 | _,[],[]=>rfl
 | d,(a,l)::S,(b,u)::M=>by
  unfold Z9;split
  .split
   .rfl
   .rename_i n _
    split
    .show(b,(u.map (TI n)).map Xn)::ZN (Z9 c n S M).1=(b,u.map Xn)::ZN M
     rw[Ij,U4 c n S M]
    .show(b,u.map Xn)::ZN (Z9 c d S M).1=(b,u.map Xn)::ZN M
     rw[U4 c d S M]
  .rfl
 | _,[],_::_=>rfl
 | _,_::_,[]=>rfl
theorem U5{W:WM}{N:NM}{m a:LM}{c:Nat}(h:ZM W N m=(c,some a)):ZN a.keys=ZN m.keys/\a.hints=m.hints/\a.node=m.node:=by
 unfold ZM at h;split at h
 .simp only[FF] at h
  have b:=h.2;split at b
  .obtain rfl:=GG b
   exact⟨U4 _ _ _ _,rfl,rfl⟩
  .cases b
 .simp at h
theorem Sh.calm{W:WM}{M:DM}{F:List Fact}{p t:Nat}(h:Sh W M F p t):Sh W ((M.yh 0).AP 0 0) F p t:=by
 obtain⟨y,b,a⟩:=h.lg;exact⟨⟨y,(b.yh 0).AP 0 0 (by decide) (by decide),a⟩,h.cm,h.room,h.all⟩
def Std(W:WM)(M:DM)(d g n a:Nat)(c:Value)(t:Nat)(S:Nat->Prop)(w f:World):Prop :=
 ∃ X N b e,StO f g n a c X N b/\(∃ F p,NI e N b F p t)/\Opd W ((M.yh 0).AP 0 0) d N b e/\b.cut=0/\b.fail=0/\(∀ k,NFoot X b k->w.heap.size<=k)/\(∀ k,SRead X.LS k->w.heap.size<=k)/\Fr S w f
theorem Vg(O:zl)(B d g n a:Nat)(nv b:Value)(W:WM)(u:DL)(M:DM)(l c:Int)(t:Nat)(w:World)(h:StC w d g nv n a b u M)(r:zG B w)(hB:B<=w.heap.size)(T:B<=d)(o:∀ k,Foot g u M k->B<=k)
 (hr:∃ F p,Sh W M F p t)(ht:t<=890000)(x:W.node=(n:Int))(b0:n<4)(i:a<=10000000)(V:-9223372036854775808<=l/\l<=9223372036854775807)(a1:-9223372036854775808<=c/\c<=9223372036854775807) :
 Calls Tryz.prog 25 #[.pointer (some ⟨d,0,none⟩),.int .i64 l,.int .i64 c] w fun e w'=>e=.returned (.bool true)/\Std W M (zu c 5) d n (a+1) b (t+10) (fun k=>k=d\/Foot g u M k) w w':=by
 have I:∀ k,w.cell? ⟨d,k,none⟩=(zp g nv n a b)[k]?:=h.Ay.cell;simp only[zp] at I;have Q:g≠d:=fun e=>h.sep (e▸.Ay);obtain⟨F0,p0,Y⟩:=hr;have a9:=Z Y.calm;have E:=Z r;have A:=Z hB;have a8:=Z T;have m:=Z o;have a2:=Z h.Ay;have a4:=Z h.AH;have C:=Z Q;clear h r hB T o Y Q;go_enter Tryz.func25,Tryz.ntmps25;go_wp2_with fail;refine(V6 0 w g u M a4.out).mono ?_;rintro e w1 ⟨rfl,K,f1⟩;have v:=a2.out.fr f1 (fun e=>C.out e.symm);have J:∀ k,w1.cell? ⟨d,k,none⟩=(zp g nv n a b)[k]?:=v.cell;simp only[zp] at J;have a5:=Z K;have a3:=Z v;have a6:=Z f1;clear I K v f1;go_wp2_with fail;refine(Wz 0 0 w1 g u (M.yh 0) a5.out).mono ?_;rintro e w2 ⟨rfl,L,f2⟩;have G:=a3.out.fr f2 (fun e=>C.out e.symm);have F2:=a6.out.trans f2;have f:zG B w2:=E.out.fr A.out F2 (fun k e=>by subst e;exact m.out _ .Ay);have a7:=Z (Q5 O B d g n a nv b W u ((M.yh 0).AP 0 0) l c t w2 ⟨G,L⟩ f (Gc A.out F2.size) a8.out m.out ⟨F0,p0,a9.out⟩ ht x b0 i V a1);have s:=Z F2;clear J L G f2 F2 f;go_wp2_with fail;refine a7.out.mono ?_;rintro e w3 ⟨rfl,f3,⟨X,N,M',W',y,R,j,q,S⟩|⟨_,_,_,_,_,_,a0,_⟩⟩
 rotate_left
 .exact absurd rfl (fun e=>a0.vI e rfl)
 have b1:w3.cell? ⟨d,1,none⟩=some (.pointer (some ⟨X.nb,0,none⟩)):=y.Ay.cell 1;have D:Hid (Std W M (zu c 5) d n (a+1) b (t+10) (fun k=>k=d\/Foot g u M k) w w3):=⟨X,N,M',W',y,R,j,j.cut.elim id id,j.fail.elim id id,fun k hk=>Gc s.out.size (q k hk),fun k hk=>Gc s.out.size (S k hk),(s.out.mono (fun k _ e=>by subst e;exact .inr .Ay)).trans f3⟩;clear y R j q S f3
 go_wp2
 go_ret;exact⟨rfl,D.out⟩
structure Kpt(w0 w:World)(sb n calls:Nat)(nums:Value)(X:NL)(N:NM)(M:DM):Prop where
 st:StO w sb n calls nums X N M
 fr:Fr Nil w0 w
 low:w0.heap.size<=sb
 new:∀ k,NFoot X M k->w0.heap.size<=k
 sep:∀ k,NFoot X M k->k≠sb
 wA:∀ k,SRead X.LS k->k≠sb
theorem Kpt.nil{e w w':World}{d n a:Nat}{c:Value}{X:NL}{N:NM}{M:DM}(h:Kpt e w d n a c X N M)(f:Fr Nil w w'):Kpt e w' d n a c X N M :=
 ⟨⟨h.st.Ay.fr f id,h.st.node.nil f⟩,h.fr.trans f,h.low,h.new,h.sep,h.wA⟩
theorem Kpt.step{q w w':World}{d n a:Nat}{b:Value}{X l:NL}{N j:NM}{M f:DM}(h:Kpt q w d n a b X N M)(s:NStep X M w l j f w'):Kpt q w' d n a b l j f:=by
 have r:=h.st.Ay.lt;have o:=h.st.Ay.fr s.fr (fun e=>h.sep d e rfl);rw[<- s.same.nb,<- s.same.db] at o;exact⟨⟨o,s.AK⟩,h.fr.trans' s.fr (fun i t e=>by have:=h.new i e;omega),h.low,fun k c=>(s.AX k c).elim (h.new k) (fun e=>Gc h.fr.size e),
  fun k c=>(s.AX k c).elim (h.sep k) (fun e=>by omega),fun k c=>(s.read k c).elim (h.wA k) (fun e=>by omega)⟩
theorem Kpt.env{B:Nat}{f w:World}{j n a:Nat}{c:Value}{X:NL}{N:NM}{M:DM}(h:Kpt f w j n a c X N M)(b:zG B f)(d:B<=f.heap.size):Yl B X M w :=
 ⟨(b.fr d h.fr (fun _ e=>absurd e id)).1,Gc d h.fr.size,fun k i=>Gc d (h.new k i)⟩
theorem Kpt.closed{d w:World}{c n a:Nat}{b:Value}{X:NL}{N:NM}{M:DM}(h:Kpt d w c n a b X N M):StC w c X.db (.pointer (some ⟨X.nb,0,none⟩)) n a b X.LD M:=⟨h.st.Ay,h.st.node.AH⟩
structure Bare(n:Nat)(W:WM)(M:DM):Prop where
 node:W.node=(n:Int)
 st:∃ m,W.st=[m]/\m.keys=[]/\m.hints=[]
 calls:W.calls=1
 most:W.most=0
 ye:W.ye=false
 broken:W.broken=false
 room:W.room=-1
 refused:M.refused=0
 cut:M.cut=0
 fail:M.fail=0
theorem Std.bare{n E a y:Nat}{b:Value}{t:Nat}{S:Nat->Prop}{w A:World}(h:Std (WM.Aw n (-1) 0 0 0) (DM.new 1152921504606846976) y E n a b t S w A) :
 ∃ X N M W,StO A E n a b X N M/\(∃ F p,NI W N M F p t)/\Bare n W M/\N.S.keys=[]/\N.S.hints=[]/\N.readOnly=false/\(∀ k,NFoot X M k->w.heap.size<=k)/\(∀ k,SRead X.LS k->w.heap.size<=k)/\Fr S w A:=by
 obtain⟨X,N,M,W,x,⟨F,p,f⟩,l,G,I,J,K,L⟩:=h;obtain⟨B,i,R,m,C,O,q,_,c,rfl⟩:=l.found;have r:i=0:=by
  have:=(GF.1 q).1;simp only[WM.Aw,Gi] at this;omega
 subst r;have Q:m=⟨n,[],[]⟩:=by
  simp only[WM.Aw,Em,GU] at q;exact q.symm
 subst Q;have o:=U5 c;have d:C.keys=[]:=by
  have:=o.1;unfold ZN at this;simp only[Fz,Cf] at this;exact this
 obtain⟨D,g,v,_⟩:=f.now;have j:D=C:=by
  simp only[WM.Aw,FK,GP,Gi,BZ,Em,GU] at g;exact g.symm
 subst j;have u:R=0:=by
  have s:N.S.keys=[]:=by rw[<- v.1];exact d
  unfold ZM at c;split at c
  .rw[s] at c
   simp only[Z9,FF] at c;exact c.1.symm
  .simp at c
 refine⟨X,N,M,_,x,⟨F,p,f⟩,⟨rfl,⟨D,by simp[WM.Aw],d,o.2.1⟩,rfl,u,rfl,rfl,rfl,l.refused,G,I⟩,by rw[<- v.1];exact d,by rw[<- v.2];exact o.2.1,f.ro,J,K,L⟩
theorem H6(T:zl)(B n:Nat)(w:World)(t:zG B w)(hB:B<=w.heap.size)(a5:n<4) :
 Calls Tryz.prog 36 #[.int .i64 n,.int .i64 1152921504606846976] w fun e w'=>∃ sb X N M W,e=.returned (.pointer (some ⟨sb,0,none⟩))/\Kpt w w' sb n 1 (.slice none 0 0) X N M/\(∃ F p,NI W N M F p 10)/\Bare n W M:=by
 have K:=Z t;have o:=Z hB;clear t hB;go_enter Tryz.func36,Tryz.ntmps36;go_wp2_with fail;refine(Kk 1152921504606846976 w).mono ?_;rintro e w1 ⟨rfl,R,V,m⟩;go_wp2_with fail;have g:=Blk.newAt w1 [.pointer (some ⟨w.heap.size,0,none⟩),.pointer none,.int .i64 n,.int .i64 0,.slice none 0 0] 58 (w.heap.size+1) m.symm;have f2:Fr Nil w1 (w1.alloc (.cells #[.pointer (some ⟨w.heap.size,0,none⟩),.pointer none,.int .i64 n,.int .i64 0,.slice none 0 0] 58)):=(U _ _).alloc _;have s:(w1.alloc (.cells #[.pointer (some ⟨w.heap.size,0,none⟩),.pointer none,.int .i64 n,.int .i64 0,.slice none 0 0] 58)).heap.size=w.heap.size+2:=by simp[m]
 generalize w1.alloc (.cells #[.pointer (some ⟨w.heap.size,0,none⟩),.pointer none,.int .i64 n,.int .i64 0,.slice none 0 0] 58)=w2 at g f2 s |-;have g:Blk w2 (w.heap.size+1) (zp w.heap.size (.pointer none) n (0:Nat) (.slice none 0 0)) 58:=g;have F2:=V.trans f2;have S:=R.nil f2;have a:∀ k,Foot w.heap.size DL.new (DM.new 1152921504606846976) k->k=w.heap.size:=fun k b=>by
  cases b using Foot.elim with
  | blk=>rfl
  | dir h=>simp[DL.new,Value.ownBlock] at h
  | safe h=>simp[DL.new,Value.ownBlock] at h
  | ch h=>simp[DL.new,Value.ownBlock] at h
  | chs i h1 h=>simp[DL.new] at h1
  | file h=>simp[DM.new] at h
  | row f hf h=>simp[DM.new] at hf
 have C:=Sh.Aw n (-1) 0 0 ⟨by decide,by decide⟩;rw[show YW (-1)=1152921504606846976 from by unfold YW;rw[GA (by decide)]] at C;have q:=Z (Vg T B (w.heap.size+1) w.heap.size n 0 (.pointer none) (.slice none 0 0) (WM.Aw n (-1) 0 0 0) DL.new (DM.new 1152921504606846976) 0 0 0 w2 ⟨g,S⟩ (K.out.fr o.out F2 (fun _ e=>absurd e id)) (Gc o.out F2.size) (by have:=o.out;omega) (fun k b=>by rw[a k b];exact o.out) ⟨_,_,C⟩ (by decide) rfl a5 (by decide) ⟨by decide,by decide⟩ ⟨by decide,by decide⟩);have G:=Z F2;have I:=Z a;clear R V m g f2 F2 S a C;refine q.out.mono ?_;rintro e u ⟨rfl,r⟩;obtain⟨X,N,M,W,l,Y,L,b,hh,a2,j,a1,f3⟩:=r.bare;have F3:=G.out.trans' f3 (fun i hi e=>by rcases e with e|e;omega;rw[I.out i e] at hi;omega);have hK:Kpt w u (w.heap.size+1) n 1 (.slice none 0 0) X N M:=⟨l,F3,FQ _,fun k b=>by have:=j k b;omega,fun k b e=>by have:=j k b;omega,fun k b e=>by have:=a1 k b;omega⟩;have y:=fun D (f:Fr Nil u D)=>Si X N M D (l.node.nil f) (by rw[b];decide);have d:=Tg X N M u l.node;rw[b,hh,a2] at d;rw[b] at y;have J:Hid (Calls Tryz.prog 39 #[.pointer (some ⟨X.nb,0,none⟩)] u fun e w'=>e=.returned (.agg #[.bool false,.int .i64 0,.int .i64 0])/\Fr Nil u w'):=d;have a4:=Z y;have HK:=Z (And.intro hK (And.intro Y L));have v:Hid (∀ D,Fr Nil u D->D.cell? ⟨w.heap.size+1,1,none⟩=some (.pointer (some ⟨X.nb,0,none⟩))):=fun D f=>(l.Ay.fr f id).cell 1;have O:=v.out u (U _ _);generalize w.heap.size+1=sb at v O HK |-;clear d y l Y L b hh a2 j a1 f3 F3 hK r s G I q;go_wp2_with fail;refine J.out.mono ?_;rintro e w4 ⟨rfl,f4⟩;have A:=Blk.new w4 [.bool false,.int .i64 0,.int .i64 0] 81;have f5:Fr Nil u (w4.alloc (.cells #[.bool false,.int .i64 0,.int .i64 0] 81)):=f4.alloc _;have Q:=v.out _ f5;have a3:=A.cell;have x:=Z f5;have E:=Z A;clear f5 A O;go_wp2_with fail;generalize w4.alloc (.cells #[.bool false,.int .i64 0,.int .i64 0] 81)=w5 at Q a3 x E |-;refine(a4.out _ x.out).mono ?_;rintro e w6 ⟨lv,rfl,hv,f6,-⟩;obtain⟨a0,a6,rfl⟩:=zg hv;have a7:=(E.out.fr f6 id).cell;have c:=Z (And.intro (HK.out.1.nil (x.out.trans f6)) HK.out.2);clear a3 Q hv f6;simp only[GT]
 go_wp2
 go_ret;exact⟨_,X,N,M,W,rfl,c.out.1,c.out.2.1,c.out.2.2⟩
end Go.Proofs.YtkhnggkkiefcdaaGreatDoor
