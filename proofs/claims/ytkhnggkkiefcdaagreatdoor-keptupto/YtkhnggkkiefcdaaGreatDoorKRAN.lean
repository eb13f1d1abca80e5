/- larder: joined texts -/
import Derived.Test.YtkhnggkkiefcdaaGreatDoorKRAD
import Derived.StillTailTactics
namespace Go.Proofs.YtkhnggkkiefcdaaGreatDoor
open Go.RowKit
set_option maxRecDepth 100000
set_option maxHeartbeats 8000000
def Z2(c:Int)(n:Nat):Nat:=(if c<0 then -(c+1) else c).toNat%(n+1)
theorem YH(c:Int)(n:Nat):Z2 c n<=n:=by
 have:=CD (if c<0 then -(c+1) else c).toNat (show 0<n+1 by omega);unfold Z2;omega
theorem Xe(c:Int)(n:Nat)(w:World)(k:-9223372036854775808<=c)(l:c<=9223372036854775807)(o:n<=140737488355328) :
 Calls Tryz.prog 85 #[.int .i64 c,.int .i64 n] w fun e j=>e=.returned (.int .i64 (Z2 c n))/\j=w:=by
 by_cases d:c<0
 .obtain⟨m,hm⟩:=Fe (a:=-(c+1)) (by omega)
  have b:Hid (Z2 c n=m%(n+1)):=by simp[Hid,Z2,d,hm]
  have h:(m:Int).tmod ((n:Int)+1)=((m%(n+1):Nat):Int):=by rw[show((n:Int)+1)=((n+1:Nat):Int) from rfl,Cq]
  have i:(((n:Int)+1)==0)=false:=by rw[Fl];omega
  have f:(m:Int)<=9223372036854775807:=by omega
  have g:((m%(n+1):Nat):Int)<=9223372036854775807:=by have:=Nat.mod_le m (n+1);omega
  obtain rfl:c=-(m:Int)-1:=by omega
  clear hm;go_enter Tryz.func85,Tryz.ntmps85
  go_wp2
  go_ret;rw[b.out];exact⟨rfl,rfl⟩
 .obtain⟨m,rfl⟩:=Fe (a:=c) (by omega)
  have b:Hid (Z2 m n=m%(n+1)):=by simp only[Hid,Z2];rw[Gl d];rfl
  have h:(m:Int).tmod ((n:Int)+1)=((m%(n+1):Nat):Int):=by rw[show((n:Int)+1)=((n+1:Nat):Int) from rfl,Cq]
  have i:(((n:Int)+1)==0)=false:=by rw[Fl];omega
  go_enter Tryz.func85,Tryz.ntmps85
  go_wp2
  go_ret;rw[b.out];exact⟨rfl,rfl⟩
def ZZ(w:World)(v:Value)(l:List Int):Prop :=
 ((∃ a c,v=.slice a 0 c)/\l=[])\/∃ g b d,v=.slice (some ⟨g,b,none⟩) l.length d/\g<w.heap.size/\l.length<=maxLen/\∀ j (h:j<l.length),w.cell? ⟨g,b+j,none⟩=some (.int .i64 l[j])
theorem ZZ.fr{S:Nat->Prop}{w w':World}{v:Value}{l:List Int}(h:ZZ w v l)(f:Fr S w w')(y:∀ k,l≠[]->v.ownBlock=some k->¬S k):ZZ w' v l:=by
 rcases h with h|⟨g,a,cap,rfl,o,r,q⟩
 .exact .inl h
 .exact .inr ⟨g,a,cap,rfl,Ff o f.size,r,fun j c=>by rw[f.cell (p:=⟨g,a+j,none⟩) o (y g (fun e=>by rw[e] at c;exact absurd c (Fc _)) rfl)];exact q j c⟩
def ZS(f:FM)(c:Int):FM :=
 ⟨f.bytes.take (f.safe+Z2 c (f.bytes.length-f.safe)),f.safe+Z2 c (f.bytes.length-f.safe)⟩
def zm(d:Dir)(a:List Int)(file:Nat->FM):Nat->Nat->FM
 | 0=>file
 | k+1=>match (d.names[k]?).bind (Dir.look d) with
  | some f=>fun g=>if g=f then ZS (zm d a file k f) (a.getD k 0) else zm d a file k g
  | none=>zm d a file k
def DM.yq(M:DM)(a:Int):Dir :=
 if Z2 a M.AA.length=0 then M.safe else M.AA.getD (Z2 a M.AA.length-1) []
def DM.AM(M:DM)(a:Int)(b:List Int):DM :=
 {M with dir:=M.yq a,safe:=M.yq a,AA:=[],file:=zm (M.yq a) b M.file (M.yq a).names.length,dead:=false,cut:=0,fail:=0}
theorem DRep.wI{w j:World}{b:Nat}{L:DL}{M:DM}(h:DRep w b L M){d:Dir}{v:Value}(q:w.ownsRow 0 148 2 v d.length (flat d))(s:∀ e,e∈d->e.2∈M.ids)
 (r:Blk j b (({M with dir:=d}:DM).cells {L with yd:=v}) 143)(f:Fr (fun k=>k=b) w j):DRep j b {L with yd:=v} {M with dir:=d} where
 Ay:=r
 dir:=ze q f fun _ e a=>by subst a;exact zi q h.Ay (by decide) e
 safe:=ze h.safe f fun _ e a=>by subst a;exact zi h.safe h.Ay (by decide) e
 ch:=ze h.ch f fun _ e a=>by subst a;exact zi h.ch h.Ay (by decide) e
 yI:=h.yI
 AA:=fun i l o=>ze (h.AA i l o) f fun _ e a=>by subst a;exact zi (h.AA i l o) h.Ay (by decide) e
 files:=fun g c=>(h.files g c).fr f ((h.files g c).ne h.Ay (by decide))
 rows:=fun g c=>ze (h.rows g c) f fun _ e a=>by subst a;exact zi (h.rows g c) h.Ay (by decide) e
 sep:=h.sep
 le:=h.le
 yt:=s
 xi:=h.xi
 xj:=h.xj
theorem DRep.yb{w s:World}{b:Nat}{L:DL}{M:DM}(h:DRep w b L M){f:Nat}(A:f∈M.ids){v:Value}{m:Nat}(I:m<=(M.file f).bytes.length)
 (E:Blk s f [v,.int .i64 m] 152)(G:w.ownsRow 0 5 1 v m (u8s ((M.file f).bytes.take m)))
 (fr:Fr (fun k=>k=f) w s)(o:∀ k,v.ownBlock=some k->(L.fV f).ownBlock=some k) :
 DRep s b {L with fV:=fun g=>if g=f then v else L.fV g} (M.AG f ⟨(M.file f).bytes.take m,m⟩):=by
 have a:∀ {e:TypeId} {C:Nat} {v:Value} {n:Nat} {D:List Value},w.ownsRow 0 e C v n D->e≠152->s.ownsRow 0 e C v n D:=fun B x =>
  ze B fr fun k e d=>by subst d;exact zi B (h.files k A) (Cp x) e
 have q:((M.file f).bytes.take m).length=m:=by simp;omega
 exact {
  Ay:=h.Ay.fr fr (h.Ay.ne (h.files f A) (by decide))
  dir:=a h.dir (by decide)
  safe:=a h.safe (by decide)
  ch:=a h.ch (by decide)
  yI:=h.yI
  AA:=fun i x y=>a (h.AA i x y) (by decide)
  files:=fun g c=>by
   by_cases e:g=f
   .subst e;simpa [DM.AG] using E
   .have:=(h.files g c).fr fr e
    simpa [DM.AG,e] using this
  rows:=fun g c=>by
   by_cases e:g=f
   .subst e
    have:=a G (by decide);simp only[DM.AG,Ft,q];exact this
   .have:=a (h.rows g c) (by decide)
    simpa [DM.AG,e] using this
  sep:=fun g c l j e k d=>by
   by_cases t:g=f
   .subst t
    have r:¬l=g:=fun h=>e h.symm;simp only[Ft,r,Fk] at d |-;exact h.sep g c l j e k (o k d)
   .by_cases r:l=f
    .subst r
     simp only[t,Fk,Ft] at d |-;intro y;exact h.sep g c l j e k d (o k y)
    .simp only[t,r,Fk] at d |-
     exact h.sep g c l j e k d
  le:=fun g c=>by
   by_cases e:g=f
   .subst e;simp[DM.AG];omega
   .simpa [DM.AG,e] using h.le g c
  yt:=h.yt
  xi:=h.xi
  xj:=h.xj}
theorem VW{w:World}{a:Nat}{e:TypeId}{g n b m:Nat}{j:List Value}(h:w.ownsRow a e 1 (.slice (some ⟨g,0,none⟩) n b) n j)(t:m<=n) :
 w.ownsRow a e 1 (.slice (some ⟨g,0,none⟩) m b) m (j.take m):=by
 have s:=h.1;refine⟨by simp;omega,?_⟩;rcases h.2 with⟨c,_⟩|⟨r,i,d,c,k,l,u,f,o,q⟩
 .cases c
 .simp at c
  obtain⟨rfl,rfl⟩:=c;refine .inr ⟨g,b,d,rfl,k,l,by omega,f,o,?_⟩;rw[<- q,EF]
  congr 1
  omega
theorem Foot.wP{b:Nat}{L:DL}{M:DM}{f k:Nat}{v:Value}{x:FM}(j:f∈M.ids)(c:∀ k,v.ownBlock=some k->(L.fV f).ownBlock=some k)
 (h:Foot b {L with fV:=fun g=>if g=f then v else L.fV g} (M.AG f x) k):Foot b L M k:=by
 cases h using Foot.elim with
 | blk=>exact .Ay
 | dir e=>exact .dir e
 | safe e=>exact .safe e
 | ch e=>exact .ch e
 | chs i d e=>exact .AA i d e
 | file e=>exact .file e
 | row g l e =>
  by_cases a:g=f
  .simp only[a,Ft] at e;exact .row f j (c k e)
  .simp only[a,Fk] at e;exact .row g l e
structure ZB(w0:World)(b:Nat)(L0:DL)(M0:DM)(yw:List Int)(nv:Value)(i:Nat)(w:World):Prop where
 AK:∃ L,DRep w b L {M0 with file:=zm M0.dir yw M0.file i}/\L.yd=L0.yd/\L.AQ=L0.AQ/\L.yL=L0.yL/\L.AZ=L0.AZ/\(∀ k,Foot b L {M0 with file:=zm M0.dir yw M0.file i} k->Foot b L0 M0 k)
 fr:Fr (Foot b L0 M0) w0 w
 names:w.ownsRow 0 9 1 nv M0.dir.length (strs M0.dir.names)
theorem PG(f:FM)(c:Int)(h:f.safe<=f.bytes.length):f.safe+Z2 c (f.bytes.length-f.safe)<=f.bytes.length:=by
 have:=YH c (f.bytes.length-f.safe);omega
theorem V2(d:Dir):d.names.length=d.length:=Uf d _ (Gb _)
theorem I1(l:List ByteArray)(x y:ByteArray)(h:y∈YO l x):y=x\/y∈l:=by
 induction l with
 | nil=>simp[YO] at h;exact .inl h
 | cons a r b =>
  simp only[YO] at h;split at h
  .rcases GH.1 h with h|h
   .exact .inr (by simp[h])
   .rcases b h with h|h
    .exact .inl h
    .exact .inr (Ge _ h)
  .rcases GH.1 h with h|h
   .exact .inl h
   .exact .inr h
theorem Lj(d:Dir):∀ k,k<=d.length->∀ y,y∈Yt d k->∃ e,e∈d/\e.1=y:=by
 intro k
 induction k with
 | zero=>intro _ y a;simp[Yt] at a
 | succ k b =>
  intro h y a;rw[Vk d k h,List.mem_reverse] at a;rcases I1 _ _ _ a with rfl|a
  .exact⟨d[k],Gj h,rfl⟩
  .exact b (by omega) y (by simpa using a)
theorem Tk(d:Dir)(y:ByteArray)(h:y∈d.names):∃ k:Nat,∃ c:k<d.length,zT d y=k/\Dir.look d y=some d[k].2:=by
 obtain⟨e,f,rfl⟩:=Lj d _ (Gb _) y h;rcases YB d e.1 with⟨b,a⟩|⟨k,c,b,a,_⟩
 .exfalso
  cases hf:d.find? (fun x=>x.1==e.1) with
  | none=>exact absurd (show(e.1==e.1)=true by rw[DD];simp) (Dx.1 hf e f)
  | some x=>simp[Dir.look,hf] at a
 .exact⟨k,c,b,a⟩
theorem G3{d:Dir}{a:ByteArray}{k:Nat}(m:zT d a=k)(w g:World)(b:Nat)(L:DL)(M:DM)(l:M.dir=d)(h:DRep g b L M)(c:Fr Nil g w) :
 Calls Tryz.prog 87 #[L.yd,.string a] w fun e f=>e=.returned (.int .i64 k)/\f.cell? ⟨b,0,none⟩=some L.yd/\Fr Nil g f:=by
 subst l;refine(zX m w (h.fr c (fun _ _=>id)).dir).mono fun e f ⟨j,i⟩=>⟨j,?_,c.trans i⟩;exact((h.fr (c.trans i) (fun _ _=>id)).Ay.cell 0)
theorem Vr(d:Dir)(a:List Int)(file:Nat->FM):∀ i f,(zm d a file i f).bytes.length<=(file f).bytes.length:=by
 intro i
 induction i with
 | zero=>intro f;exact Gb _
 | succ i b =>
  intro f;cases hx:(d.names[i]?).bind (Dir.look d) with
  | none=>simp only[zm,hx];exact b f
  | some g =>
   simp only[zm,hx];split
   .rename_i e
    subst e;have:=b f;simp only[ZS,Gd];omega
   .exact b f
theorem OL(d:Dir)(a:List Int)(file:Nat->FM)(i f:Nat)(b:i<d.names.length)(h:Dir.look d d.names[i]=some f) :
 zm d a file (i+1)=fun g=>if g=f then ZS (zm d a file i f) (a.getD i 0) else zm d a file i g:=by
 simp only[zm,Gq b,CE,h]
theorem RP{d:Dir}{a:ByteArray}{k:Nat}(u:zT d a=k)(t:k<d.length)(w o:World)(b:Nat)(L:DL)(M:DM)(s:M.dir=d){g c:Nat}(q:L.yd=.slice (some ⟨g,0,none⟩) d.length c)(h:DRep o b L M)(l:Fr Nil o w) :
 Calls Tryz.prog 87 #[.slice (some ⟨g,0,none⟩) d.length c,.string a] w fun e f=>e=.returned (.int .i64 k)/\f.cell? ⟨b,0,none⟩=some (.slice (some ⟨g,0,none⟩) d.length c) /\
  f.cell? ⟨g,k*2+1,none⟩=some (.pointer (some ⟨d[k].2,0,none⟩))/\Fr Nil o f:=by
 subst s;have j:=(h.fr l (fun _ _=>id)).dir;rw[q] at j;refine(zX u w j).mono fun e f ⟨r,i⟩=>⟨r,?_,?_,l.trans i⟩
 .rw[<- q];exact((h.fr (l.trans i) (fun _ _=>id)).Ay.cell 0)
 .exact own_cell? (ze j i (fun _ _=>id)) _ _ (ZF _ k t).2
theorem ZB.step{I w s:World}{b:Nat}{l j:DL}{c:DM}{a:List Int}{G v:Value}{i f m:Nat}(h:ZB I b l c a G i w)
 (D:DRep w b j {c with file:=zm c.dir a c.file i})
 (r:j.yd=l.yd/\j.AQ=l.AQ/\j.yL=l.yL/\j.AZ=l.AZ/\(∀ k,Foot b j {c with file:=zm c.dir a c.file i} k->Foot b l c k))
 (o:Fr Nil w s)(K:i<c.dir.names.length)(B:Dir.look c.dir c.dir.names[i]=some f)(d:f∈c.ids)
 (L:m=(zm c.dir a c.file i f).safe+Z2 (a.getD i 0) ((zm c.dir a c.file i f).bytes.length-(zm c.dir a c.file i f).safe))
 (M:s.ownsRow 0 5 1 v m (u8s ((zm c.dir a c.file i f).bytes.take m)))(t:∀ k,v.ownBlock=some k->(j.fV f).ownBlock=some k) :
 ZB I b l c a G (i+1) (((s.setCell ⟨f,0,none⟩ v).setCell ⟨f,1,none⟩ (.int .i64 m)).drew):=by
 have x:=D.fr o (fun _ _=>id);have u:=x.le f d;simp only at u;have C:m<=(zm c.dir a c.file i f).bytes.length:=by
  have:=PG (zm c.dir a c.file i f) (a.getD i 0) u;omega
 have q:Fr (fun k=>k=f) s (((s.setCell ⟨f,0,none⟩ v).setCell ⟨f,1,none⟩ (.int .i64 m)).drew):=(by repeat' first|exact U _ _|(with_reducible assumption)|refine Fr.drewN ?_ _|refine Fr.drew ?_|refine Fr.alloc ?_ _|refine Fr.set ?_ ?_ _|(intro _;rfl));have J:Blk (((s.setCell ⟨f,0,none⟩ v).setCell ⟨f,1,none⟩ (.int .i64 m)).drew) f [v,.int .i64 m] 152:=(((x.files f d).set 0 v).set 1 (.int .i64 m)).drew;have A:=x.yb d C J M q t;have E:({c with file:=zm c.dir a c.file i}:DM).AG f ⟨(zm c.dir a c.file i f).bytes.take m,m⟩={c with file:=zm c.dir a c.file (i+1)}:=by
  rw[OL _ _ _ _ _ K B];simp only[DM.AG,ZS,<- L]
 have y:Foot b j {c with file:=zm c.dir a c.file i} f:=.file d;refine⟨⟨{j with fV:=fun g=>if g=f then v else j.fV g},?_,r.1,r.2.1,r.2.2.1,r.2.2.2.1,?_⟩,?_,?_⟩
 .rw[<- E];exact A
 .intro k hkf
  rw[<- E] at hkf;exact r.2.2.2.2 k (Foot.wP d t hkf)
 .refine Fr.trans' (h.fr.trans (o.mono (fun _ _=>False.elim))) q ?_
  intro k _ e;subst e;exact r.2.2.2.2 _ y
 .have h1:=ze h.names o (fun _ _=>id)
  exact ze h1 q (fun k e A=>by subst A;exact zi h1 (x.files _ d) (by decide) e)
theorem DRep.vA{w:World}{b:Nat}{L:DL}{M:DM}{d:Dir}{F:Nat->FM}(h:DRep w b L {M with dir:=d,file:=F}) :
 DRep (((((w.setCell ⟨b,1,none⟩ L.yd).setCell ⟨b,2,none⟩ (.slice none 0 0)).setCell ⟨b,10,none⟩ (.bool false)).setCell ⟨b,5,none⟩ (.int .i64 0)).setCell ⟨b,6,none⟩ (.int .i64 0)) b
  {L with AQ:=L.yd,yL:=.slice none 0 0,AZ:=[]} {M with dir:=d,safe:=d,AA:=[],file:=F,dead:=false,cut:=0,fail:=0}:=by
 have a:=h.synced (w':=(w.setCell ⟨b,1,none⟩ L.yd).setCell ⟨b,2,none⟩ (.slice none 0 0)) ((h.Ay.set 1 L.yd).set 2 (.slice none 0 0)) zd;exact a.own (M':={M with dir:=d,safe:=d,AA:=[],file:=F,dead:=false,cut:=0,fail:=0}) (((a.Ay.set 10 (.bool false)).set 5 (.int .i64 0)).set 6 (.int .i64 0)) zd rfl rfl rfl rfl rfl
theorem RQ{w s wr:World}{b:Nat}{L:DL}{M:DM}{d:Dir}{v I:Value}{c:Int}{a:List Int}(E:M.yq c=d)
 (h:ZB s b {L with yd:=v} {M with dir:=d} a I d.length wr)(j:Fr (fun k=>k=b) w s)
 (g:∀ k,Foot b {L with yd:=v} {M with dir:=d} k->Foot b L M k) :
 ∃ t,DStep b L M w t (M.AM c a)
  (((((wr.setCell ⟨b,1,none⟩ v).setCell ⟨b,2,none⟩ (.slice none 0 0)).setCell ⟨b,10,none⟩ (.bool false)).setCell ⟨b,5,none⟩ (.int .i64 0)).setCell ⟨b,6,none⟩ (.int .i64 0)):=by
 obtain⟨u,q,r,x,y,A,l⟩:=h.AK;simp only at r x y A;subst r;have B:M.AM c a={M with dir:=d,safe:=d,AA:=[],file:=zm d a M.file d.length,dead:=false,cut:=0,fail:=0}:=by
  simp only[DM.AM,E,V2]
 rw[B];have D:=q.vA;refine⟨_,D,?_,?_⟩
 .have hfr:Fr (fun k=>k=b) wr (((((wr.setCell ⟨b,1,none⟩ u.yd).setCell ⟨b,2,none⟩ (.slice none 0 0)).setCell ⟨b,10,none⟩ (.bool false)).setCell ⟨b,5,none⟩ (.int .i64 0)).setCell ⟨b,6,none⟩ (.int .i64 0)):=zd
  refine Fr.trans' (Fr.trans' (j.mono (fun k _ e=>by subst e;exact .Ay)) h.fr (fun k _ o=>g k o)) hfr (fun k _ e=>by subst e;exact .Ay)
 .intro k o
  refine .inl (g k ?_);cases o using Foot.elim with
  | blk=>exact .Ay
  | dir e=>exact .dir e
  | safe e=>exact .dir e
  | ch e=>simp[Value.ownBlock] at e
  | chs i C e=>exact absurd C (Fc _)
  | file e=>exact .file e
  | row f G e=>exact l k (.row f G e)
set_option maxRecDepth 100000 in
theorem Ll(t:Int)(l:List Int)(tv:Value)(w:World)(b:Nat)(L:DL)(M:DM)(h:DRep w b L M)(e8:-9223372036854775808<=t)(e9:t<=9223372036854775807)
 (ht:ZZ w tv l)(d6:∀ k,l≠[]->tv.ownBlock=some k->¬Foot b L M k)(d7:∀ x,x∈l->-9223372036854775808<=x/\x<=9223372036854775807)
 (f1:∀ f,f∈M.ids->(M.file f).bytes.length<=1000000000000)(hn:M.AA.length+1<=1000000000000)(hm:∀ d,d∈M.safe::M.AA->d.length<=1000000000000)(b9:Z2 t M.AA.length=0) :
 Calls Tryz.prog 33 #[.pointer (some ⟨b,0,none⟩),.int .i64 t,tv] w fun e w' =>
  e=.returned (.tuple #[])/\∃ L',DStep b L M w L' (M.AM t l) w':=by
 have hc:=h.Ay.cell;have g8:=h.Ay.frozen;simp only[DM.cells] at hc;obtain⟨ca,g0,b6⟩:=zg h.ch;obtain⟨sa,g1,c1⟩:=zg h.safe;obtain⟨ta,tc,c2⟩:∃ a c,tv=.slice a l.length c:=by
  rcases ht with⟨⟨_,_,rfl⟩,rfl⟩|⟨g,a1,a4,rfl,_⟩
  .exact⟨_,_,rfl⟩
  .exact⟨_,_,rfl⟩
 have c7:M.yq t=M.safe:=by simp[DM.yq,b9]
 have d5:Blk (w.setCell ⟨b,0,none⟩ L.AQ) b (({M with dir:=M.safe}:DM).cells {L with yd:=L.AQ}) 143:=h.Ay.set 0 L.AQ;have d4:=h.wI h.safe h.xi d5 (by repeat' first|exact U _ _|(with_reducible assumption)|refine Fr.drewN ?_ _|refine Fr.drew ?_|refine Fr.alloc ?_ _|refine Fr.set ?_ ?_ _|(intro _;rfl));rw[b6,c1] at hc;have HH:=Z h;have c3:=Z d4;have d8:=Z b6;have b2:=Z c1;have HT:=Z ht;have e7:=Z c2;have d9:=Z c7;have hp:=Xe t M.AA.length w e8 e9 (by omega);rw[b9] at hp;have HP:=Z hp;have f7:l.length<=maxLen:=by
  rcases ht with⟨_,rfl⟩|⟨_,_,_,_,_,h,_⟩
  .simp
  .exact h
 unfold maxLen at f7;clear h d4 b6 c1 ht d5 c7 hp b9;rw[c2];clear c2;go_enter Tryz.func33,Tryz.ntmps33
 go_wp2_with (go_at_call 85;refine HP.out.mono ?_;rintro e wx ⟨rfl,h9⟩;subst wx)
 have HL:=Z (WA _ b _ _ c3.out (hm M.safe (Gh ..)));rw[<- b2.out];refine HL.out.mono ?_;rintro e w1 ⟨nv,rfl,a8,a6,b0⟩;obtain⟨na,nc,b1⟩:=zg a8;have d3:=zL a8;unfold maxLen at d3;have c6:ZB (w.setCell ⟨b,0,none⟩ L.AQ) b {L with yd:=L.AQ} {M with dir:=M.safe} l nv 0 w1 :=
  ⟨⟨_,c3.out.fr a6 (fun _ _=>id),rfl,rfl,rfl,rfl,fun k hk=>hk⟩,a6.mono (fun _ _=>False.elim),a8⟩
 have g4:=Z b1;have g5:=Z b0;have g2:=Z a6;clear a8 a6 b0 hc;subst b1;go_wp2_with fail
 go_loopw [44] (fun c w'=>∃ i:Nat,i<=M.safe.length/\c=.int .i64 i/\ZB (w.setCell ⟨b,0,none⟩ L.AQ) b {L with yd:=L.AQ} {M with dir:=M.safe} l (.slice na M.safe.length nc) i w') (fun c _=>M.safe.length-(intOf c).toNat)
 case atStart=>exact⟨0,Gz _,rfl,c6⟩
 case round =>
  obtain⟨i,hi,rfl,c5⟩:=hrel;have y:=Z c5;clear c5 c6;by_cases g9:i<M.safe.length
  .have hnl:M.safe.names.length=M.safe.length:=V2 _
   obtain⟨ng,f2⟩:∃ g,na=some ⟨g,0,none⟩:=by
    obtain⟨g,c',h',_⟩:=zy y.out.names (by show 0<M.safe.length;omega);simp at h';exact⟨g,h'.1⟩
   subst f2;have D:i<M.safe.names.length:=by omega
   have h3:=own_cell? y.out.names i (.string M.safe.names[i]) (by simp[strs,D]);obtain⟨k,hk,b8,d1⟩:=Tk M.safe M.safe.names[i] (Gj D);obtain⟨Li,A,e1,e2,e3,e4,V⟩:=y.out.AK;have R:=A.Ay.cell 0;have I:=A.dir;rw[e1] at I;obtain⟨dg,a9,a5,_,f0⟩:=zy I (by show 0<M.safe.length;omega);simp only at a5;have T:Li.yd=.slice (some ⟨dg,0,none⟩) M.safe.length a9:=e1.trans a5;simp only[DM.cells,T] at R;simp at R;have h6:=own_cell? (by rw[<- a5];exact I) _ _ (ZF M.safe k hk).2;have C:=Z A;have e5:=Z b8;have e0:=Z T;have a3:=Z d1;have a2:=Z (⟨e1,e2,e3,e4,V⟩:Li.yd=_/\Li.AQ=_/\Li.yL=_/\Li.AZ=_/\_);unfold maxLen at f0;clear A b8 e1 e2 e3 e4 I V a5 T d1;go_wp2_with fail
   go_region_held3 (fun w'=>w'.cell? ⟨b,0,none⟩=some (.slice (some ⟨dg,0,none⟩) M.safe.length a9)/\w'.cell? ⟨dg,k*2+1,none⟩=some (.pointer (some ⟨M.safe[k].2,0,none⟩))) (first|go_keep|exact⟨‹_›,‹_›⟩)
    (first|(go_at_call 87;refine(RP e5.out hk _ wr b _ _ rfl e0.out C.out (Fr.drew (U _ _))).mono ?_;rintro e w5 ⟨rfl,g6,h4,J⟩))
   have h5:=C.out.fr J (fun _ _=>id);have o:M.safe[k].2∈M.ids:=C.out.yt _ (Gj hk);have c8:(zm M.safe l M.file i M.safe[k].2).bytes.length<=1000000000000:=Gc (Vr _ _ _ _ _) (f1 _ o);have X:=h5.le _ o;have b5:=(h5.files _ o).cell;have g7:=(h5.files _ o).frozen;obtain⟨fa,fc,a7⟩:=zg (h5.rows _ o);rw[a7] at b5;simp only at X b5 a7;have c4:ZZ w5 tv l:=by
    have c9:Fr (fun k=>k=b\/Foot b L M k) w w5:=by
     refine Fr.trans' (Fr.set (U _ w) (p:=⟨b,0,none⟩) (fun _=>.inl rfl) L.AQ) (y.out.fr.trans (J.mono (fun _ _=>False.elim))) ?_;intro j _ G;refine .inr ?_;cases G using Foot.elim with
     | blk=>exact .Ay
     | dir e=>exact .safe e
     | safe e=>exact .safe e
     | ch e=>exact .ch e
     | chs i s e=>exact .AA i s e
     | file e=>exact .file e
     | row f hf e=>exact .row f hf e
    refine HT.out.fr c9 ?_;intro j d2 G hb;rcases hb with rfl|hb
    .exact d6 _ d2 G .Ay
    .exact d6 j d2 G hb
   have r:=Z a7;have H5:=Z h5;have e6:=Z c4;have g3:=Z X;clear h5 a7 c4;generalize hF:zm M.safe l M.file i M.safe[k].2=F at b5 X c8;have B:=Z hF;clear hF;by_cases K:i<l.length
   .obtain⟨tg,toff,tcap,htv',htc⟩:∃ g a1 a4,tv=.slice (some ⟨g,a1,none⟩) l.length a4/\w5.cell? ⟨g,a1+i,none⟩=some (.int .i64 l[i]):=by
     rcases e6.out with⟨_,h0⟩|⟨g,a1,a4,hv,_,_,b4⟩
     .subst h0;simp at K
     .exact⟨g,a1,a4,hv,b4 i K⟩
    have f6:ta=some ⟨tg,toff,none⟩:=by have:=e7.out.symm.trans htv';simp at this;exact this.1
    subst f6;have d0:l.getD i 0=l[i]:=by simp[List.getD,K]
    have HG:=Z d0;have h7:=(d7 l[i] (Gj K)).1;have h8:=(d7 l[i] (Gj K)).2;clear d0;generalize l[i]=tx at *;obtain⟨E,S⟩:∃ E:Nat,E=F.bytes.length-F.safe:=⟨_,rfl⟩;have u:∀ wx:World,Calls Tryz.prog 85 #[.int .i64 tx,.int .i64 E] wx fun e w'=>e=.returned (.int .i64 (Z2 tx E))/\w'=wx :=
     fun wx=>Xe _ _ wx (by omega) (by omega) (by omega)
    have q:=Z u;have a0:=YH tx E;clear u;generalize hP:Z2 tx E=pn at a0 q;have Q:=Z hP;clear hP;obtain⟨m,Y⟩:∃ m:Nat,m=F.safe+pn:=⟨_,rfl⟩;have f8:IntKind.i64.wrap ((F.bytes.length:Int)-(F.safe:Int))=(E:Int):=by simp (disch:=omega) only[Dc];omega
    have f9:IntKind.i64.wrap ((F.safe:Int)+(pn:Int))=(m:Int):=by simp (disch:=omega) only[Dc];omega
    have N:=Z S;have O:=Z Y;have c0:m<=F.bytes.length:=by omega
    have b4:F.bytes.length<=fc:=by
     rcases (H5.out.rows _ o).2 with⟨s,h2⟩|⟨_,_,_,s,_,_,h2,_⟩
     .simp only[B.out] at h2;omega
     .rw[r.out] at s;simp only[B.out] at s h2;simp at s;omega
    have f4:(0:Int)<=(m:Int):=by omega
    have f5:(m:Int)<=(fc:Int):=by omega
    clear S Y a0;by_cases b7:fc=0
    .have hm0:m=0:=by omega
     go_wp2_with fail;refine wp_region_still_tail 26 (by kernel_rfl) (by kernel_rfl) ?_;simp only[Fg,FK,FR,FJ]
     iterate 21 still_step
     still_call (q.out _)
     iterate 4 still_step
     refine Dg ?_
     go_wp2
     obtain rfl:m=0:=hm0;refine⟨⟨i+1,by omega,by go_num,?_⟩,by simp[intOf];omega⟩;refine ZB.step (v:=.slice fa 0 0) (m:=0) y.out C.out a2.out J D a3.out o ?_ ?_ ?_
     .show 0=(zm M.safe l M.file i M.safe[k].2).safe+Z2 (l.getD i 0) ((zm M.safe l M.file i M.safe[k].2).bytes.length-(zm M.safe l M.file i M.safe[k].2).safe)
      rw[B.out,HG.out,<- N.out,Q.out];exact O.out
     .have hr:=H5.out.rows _ o
      simp only[B.out] at hr;rw[r.out] at hr;simp only[B.out] at hr;have hz:F.bytes.length=0:=by omega
      rw[hz,b7] at hr;have b3:F.bytes=[]:=GL hz;show w5.ownsRow 0 5 1 (.slice fa 0 0) 0 (u8s ((zm M.safe l M.file i M.safe[k].2).bytes.take 0));rw[b3] at hr
      simpa using hr
     .intro j G
      rw[r.out];cases fa with
      | none=>exact G
      | some a=>exact G
    .obtain⟨gb,hgb⟩:∃ gb,fa=some ⟨gb,0,none⟩:=by
      rcases (H5.out.rows _ o).2 with⟨s,_⟩|⟨g,_,_,s,_⟩
      .rw[r.out] at s;simp at s;omega
      .rw[r.out] at s;simp at s;exact⟨g,s.1⟩
     subst hgb;go_wp2_with fail;refine wp_region_still_tail 26 (by kernel_rfl) (by kernel_rfl) ?_;simp only[Fg,FK,FR,FJ]
     iterate 21 still_step
     still_call (q.out _)
     iterate 4 still_step
     refine Dg ?_
     go_wp2
     refine⟨⟨i+1,by omega,by go_num,?_⟩,by simp[intOf];omega⟩;refine ZB.step (v:=.slice (some ⟨gb,0,none⟩) m fc) (m:=m) y.out C.out a2.out J D a3.out o ?_ ?_ ?_
     .show m=(zm M.safe l M.file i M.safe[k].2).safe+Z2 (l.getD i 0) ((zm M.safe l M.file i M.safe[k].2).bytes.length-(zm M.safe l M.file i M.safe[k].2).safe)
      rw[B.out,HG.out,<- N.out,Q.out];exact O.out
     .have hr:=H5.out.rows _ o
      simp only[B.out] at hr;rw[r.out] at hr;simp only[B.out] at hr;show w5.ownsRow 0 5 1 (.slice (some ⟨gb,0,none⟩) m fc) m (u8s ((zm M.safe l M.file i M.safe[k].2).bytes.take m));rw[B.out];have:=VW hr c0;rw[show u8s (F.bytes.take m)=(u8s F.bytes).take m by simp[u8s]];exact this
     .intro j G
      rw[r.out];exact G
   .have HG:Hid (l.getD i 0=0):=by simp[Hid,List.getD,K]
    obtain⟨E,S⟩:∃ E:Nat,E=F.bytes.length-F.safe:=⟨_,rfl⟩;have u:∀ wx:World,Calls Tryz.prog 85 #[.int .i64 0,.int .i64 E] wx fun e w'=>e=.returned (.int .i64 (Z2 0 E))/\w'=wx :=
     fun wx=>Xe _ _ wx (by omega) (by omega) (by omega)
    have q:=Z u;have a0:=YH 0 E;clear u;generalize hP:Z2 0 E=pn at a0 q;have Q:=Z hP;clear hP;obtain⟨m,Y⟩:∃ m:Nat,m=F.safe+pn:=⟨_,rfl⟩;have f8:IntKind.i64.wrap ((F.bytes.length:Int)-(F.safe:Int))=(E:Int):=by simp (disch:=omega) only[Dc];omega
    have f9:IntKind.i64.wrap ((F.safe:Int)+(pn:Int))=(m:Int):=by simp (disch:=omega) only[Dc];omega
    have N:=Z S;have O:=Z Y;have c0:m<=F.bytes.length:=by omega
    have b4:F.bytes.length<=fc:=by
     rcases (H5.out.rows _ o).2 with⟨s,h2⟩|⟨_,_,_,s,_,_,h2,_⟩
     .simp only[B.out] at h2;omega
     .rw[r.out] at s;simp only[B.out] at s h2;simp at s;omega
    have f4:(0:Int)<=(m:Int):=by omega
    have f5:(m:Int)<=(fc:Int):=by omega
    clear S Y a0;by_cases b7:fc=0
    .have hm0:m=0:=by omega
     go_wp2_with fail;refine wp_region_still_tail 26 (by kernel_rfl) (by kernel_rfl) ?_;simp only[Fg,FK,FR,FJ]
     iterate 21 still_step
     still_call (q.out _)
     iterate 4 still_step
     refine Dg ?_
     go_wp2
     obtain rfl:m=0:=hm0;refine⟨⟨i+1,by omega,by go_num,?_⟩,by simp[intOf];omega⟩;refine ZB.step (v:=.slice fa 0 0) (m:=0) y.out C.out a2.out J D a3.out o ?_ ?_ ?_
     .show 0=(zm M.safe l M.file i M.safe[k].2).safe+Z2 (l.getD i 0) ((zm M.safe l M.file i M.safe[k].2).bytes.length-(zm M.safe l M.file i M.safe[k].2).safe)
      rw[B.out,HG.out,<- N.out,Q.out];exact O.out
     .have hr:=H5.out.rows _ o
      simp only[B.out] at hr;rw[r.out] at hr;simp only[B.out] at hr;have hz:F.bytes.length=0:=by omega
      rw[hz,b7] at hr;have b3:F.bytes=[]:=GL hz;show w5.ownsRow 0 5 1 (.slice fa 0 0) 0 (u8s ((zm M.safe l M.file i M.safe[k].2).bytes.take 0));rw[b3] at hr
      simpa using hr
     .intro j G
      rw[r.out];cases fa with
      | none=>exact G
      | some a=>exact G
    .obtain⟨gb,hgb⟩:∃ gb,fa=some ⟨gb,0,none⟩:=by
      rcases (H5.out.rows _ o).2 with⟨s,_⟩|⟨g,_,_,s,_⟩
      .rw[r.out] at s;simp at s;omega
      .rw[r.out] at s;simp at s;exact⟨g,s.1⟩
     subst hgb;go_wp2_with fail;refine wp_region_still_tail 26 (by kernel_rfl) (by kernel_rfl) ?_;simp only[Fg,FK,FR,FJ]
     iterate 21 still_step
     still_call (q.out _)
     iterate 4 still_step
     refine Dg ?_
     go_wp2
     refine⟨⟨i+1,by omega,by go_num,?_⟩,by simp[intOf];omega⟩;refine ZB.step (v:=.slice (some ⟨gb,0,none⟩) m fc) (m:=m) y.out C.out a2.out J D a3.out o ?_ ?_ ?_
     .show m=(zm M.safe l M.file i M.safe[k].2).safe+Z2 (l.getD i 0) ((zm M.safe l M.file i M.safe[k].2).bytes.length-(zm M.safe l M.file i M.safe[k].2).safe)
      rw[B.out,HG.out,<- N.out,Q.out];exact O.out
     .have hr:=H5.out.rows _ o
      simp only[B.out] at hr;rw[r.out] at hr;simp only[B.out] at hr;show w5.ownsRow 0 5 1 (.slice (some ⟨gb,0,none⟩) m fc) m (u8s ((zm M.safe l M.file i M.safe[k].2).bytes.take m));rw[B.out];have:=VW hr c0;rw[show u8s (F.bytes.take m)=(u8s F.bytes).take m by simp[u8s]];exact this
     .intro j G
      rw[r.out];exact G
  .have D:i=M.safe.length:=by omega
   subst D;obtain⟨Li,A,e1,e2,e3,e4,V⟩:=y.out.AK;have R:=A.Ay.cell;have b8:=A.Ay.frozen;simp only[DM.cells,e1,e2,e3] at R;simp only[b2.out,d8.out] at R;have f3:=A;have C:=Z A;have HE:=Z (⟨e1,e2,e3,e4,V⟩:_/\_/\_/\_/\_);clear A e1 e2 e3 e4 V f3
   go_wp2
   go_end0
   refine⟨rfl,?_⟩;rw[<- b2.out];refine RQ d9.out y.out (by repeat' first|exact U _ _|(with_reducible assumption)|refine Fr.drewN ?_ _|refine Fr.drew ?_|refine Fr.alloc ?_ _|refine Fr.set ?_ ?_ _|(intro _;rfl)) ?_;intro k hk;cases hk using Foot.elim with
   | blk=>exact .Ay
   | dir e=>exact .safe e
   | safe e=>exact .safe e
   | ch e=>exact .ch e
   | chs i s e=>exact .AA i s e
   | file e=>exact .file e
   | row f hf e=>exact .row f hf e
end Go.Proofs.YtkhnggkkiefcdaaGreatDoor
