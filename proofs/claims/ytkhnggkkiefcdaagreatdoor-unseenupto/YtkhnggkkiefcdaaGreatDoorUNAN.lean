/- larder: joined texts -/
import Derived.Test.YtkhnggkkiefcdaaGreatDoorUNAD
import Derived.StillTailTactics
namespace Go.Proofs.YtkhnggkkiefcdaaGreatDoor
open Go.RowKit
set_option maxRecDepth 100000
set_option maxHeartbeats 8000000
def zY(c:Int)(n:Nat):Nat:=(if c<0 then -(c+1) else c).toNat%(n+1)
theorem Yy(c:Int)(n:Nat):zY c n<=n:=by
 have:=Dk (if c<0 then -(c+1) else c).toNat (show 0<n+1 by omega);unfold zY;omega
theorem YY(c:Int)(n:Nat)(w:World)(k:-9223372036854775808<=c)(l:c<=9223372036854775807)(o:n<=140737488355328) :
 Calls Tryz.prog 85 #[.int .i64 c,.int .i64 n] w fun e j=>e=.returned (.int .i64 (zY c n))/\j=w:=by
 by_cases d:c<0
 .obtain⟨m,hm⟩:=Ht (a:=-(c+1)) (by omega)
  have b:Hid (zY c n=m%(n+1)):=by simp[Hid,zY,d,hm]
  have h:(m:Int).tmod ((n:Int)+1)=((m%(n+1):Nat):Int):=by rw[show((n:Int)+1)=((n+1:Nat):Int) from rfl,Db]
  have i:(((n:Int)+1)==0)=false:=by rw[Gj];omega
  have f:(m:Int)<=9223372036854775807:=by omega
  have g:((m%(n+1):Nat):Int)<=9223372036854775807:=by have:=Nat.mod_le m (n+1);omega
  obtain rfl:c=-(m:Int)-1:=by omega
  clear hm;go_enter Tryz.func85,Tryz.ntmps85
  go_wp2
  go_ret;rw[b.out];exact⟨rfl,rfl⟩
 .obtain⟨m,rfl⟩:=Ht (a:=c) (by omega)
  have b:Hid (zY m n=m%(n+1)):=by simp only[Hid,zY];rw[It d];rfl
  have h:(m:Int).tmod ((n:Int)+1)=((m%(n+1):Nat):Int):=by rw[show((n:Int)+1)=((n+1:Nat):Int) from rfl,Db]
  have i:(((n:Int)+1)==0)=false:=by rw[Gj];omega
  go_enter Tryz.func85,Tryz.ntmps85
  go_wp2
  go_ret;rw[b.out];exact⟨rfl,rfl⟩
def Yo(w:World)(v:Value)(l:List Int):Prop :=
 ((∃ a c,v=.slice a 0 c)/\l=[])\/∃ g b d,v=.slice (some ⟨g,b,none⟩) l.length d/\g<w.heap.size/\l.length<=maxLen/\∀ j (h:j<l.length),w.cell? ⟨g,b+j,none⟩=some (.int .i64 l[j])
theorem Yo.fr{S:Nat->Prop}{w w':World}{v:Value}{l:List Int}(h:Yo w v l)(f:Fr S w w')(y:∀ k,l≠[]->v.ownBlock=some k->¬S k):Yo w' v l:=by
 rcases h with h|⟨g,a,cap,rfl,o,r,q⟩
 .exact .inl h
 .exact .inr ⟨g,a,cap,rfl,Hu o f.size,r,fun j c=>by rw[f.cell (p:=⟨g,a+j,none⟩) o (y g (fun e=>by rw[e] at c;exact absurd c (Hj _)) rfl)];exact q j c⟩
def ZO(f:FM)(c:Int):FM :=
 ⟨f.bytes.take (f.safe+zY c (f.bytes.length-f.safe)),f.safe+zY c (f.bytes.length-f.safe)⟩
def zm(d:Dir)(a:List Int)(file:Nat->FM):Nat->Nat->FM
 | 0=>file
 | k+1=>match (d.names[k]?).bind (Dir.look d) with
  | some f=>fun g=>if g=f then ZO (zm d a file k f) (a.getD k 0) else zm d a file k g
  | none=>zm d a file k
def DM.BZ(M:DM)(a:Int):Dir :=
 if zY a M.Bl.length=0 then M.safe else M.Bl.getD (zY a M.Bl.length-1) []
def DM.Bw(M:DM)(a:Int)(b:List Int):DM :=
 {M with dir:=M.BZ a,safe:=M.BZ a,Bl:=[],file:=zm (M.BZ a) b M.file (M.BZ a).names.length,dead:=false,cut:=0,fail:=0}
theorem DRep.yL{w j:World}{b:Nat}{L:DL}{M:DM}(h:DRep w b L M){d:Dir}{v:Value}(q:w.ownsRow 0 148 2 v d.length (flat d))(s:∀ e,e∈d->e.2∈M.ids)
 (r:Blk j b (({M with dir:=d}:DM).cells {L with BN:=v}) 143)(f:Fr (fun k=>k=b) w j):DRep j b {L with BN:=v} {M with dir:=d} where
 Bi:=r
 dir:=ze q f fun _ e a=>by subst a;exact zi q h.Bi (by decide) e
 safe:=ze h.safe f fun _ e a=>by subst a;exact zi h.safe h.Bi (by decide) e
 ch:=ze h.ch f fun _ e a=>by subst a;exact zi h.ch h.Bi (by decide) e
 Ar:=h.Ar
 Bl:=fun i l o=>ze (h.Bl i l o) f fun _ e a=>by subst a;exact zi (h.Bl i l o) h.Bi (by decide) e
 files:=fun g c=>(h.files g c).fr f ((h.files g c).ne h.Bi (by decide))
 rows:=fun g c=>ze (h.rows g c) f fun _ e a=>by subst a;exact zi (h.rows g c) h.Bi (by decide) e
 sep:=h.sep
 le:=h.le
 Ad:=s
 AW:=h.AW
 AU:=h.AU
theorem DRep.BS{w s:World}{b:Nat}{L:DL}{M:DM}(h:DRep w b L M){f:Nat}(y:f∈M.ids){v:Value}{m:Nat}(I:m<=(M.file f).bytes.length)
 (D:Blk s f [v,.int .i64 m] 152)(G:w.ownsRow 0 5 1 v m (u8s ((M.file f).bytes.take m)))
 (fr:Fr (fun k=>k=f) w s)(o:∀ k,v.ownBlock=some k->(L.fV f).ownBlock=some k) :
 DRep s b {L with fV:=fun g=>if g=f then v else L.fV g} (M.Br f ⟨(M.file f).bytes.take m,m⟩):=by
 have a:∀ {e:TypeId} {B:Nat} {v:Value} {n:Nat} {C:List Value},w.ownsRow 0 e B v n C->e≠152->s.ownsRow 0 e B v n C:=fun A u =>
  ze A fr fun k e d=>by subst d;exact zi A (h.files k y) (Da u) e
 have q:((M.file f).bytes.take m).length=m:=by simp;omega
 exact {
  Bi:=h.Bi.fr fr (h.Bi.ne (h.files f y) (by decide))
  dir:=a h.dir (by decide)
  safe:=a h.safe (by decide)
  ch:=a h.ch (by decide)
  Ar:=h.Ar
  Bl:=fun i u x=>a (h.Bl i u x) (by decide)
  files:=fun g c=>by
   by_cases e:g=f
   .subst e;simpa [DM.Br] using D
   .have:=(h.files g c).fr fr e
    simpa [DM.Br,e] using this
  rows:=fun g c=>by
   by_cases e:g=f
   .subst e
    have:=a G (by decide);simp only[DM.Br,Gh,q];exact this
   .have:=a (h.rows g c) (by decide)
    simpa [DM.Br,e] using this
  sep:=fun g c l j e k d=>by
   by_cases t:g=f
   .subst t
    have r:¬l=g:=fun h=>e h.symm;simp only[Gh,r,Hy] at d |-;exact h.sep g c l j e k (o k d)
   .by_cases r:l=f
    .subst r
     simp only[t,Hy,Gh] at d |-;intro x;exact h.sep g c l j e k d (o k x)
    .simp only[t,r,Hy] at d |-
     exact h.sep g c l j e k d
  le:=fun g c=>by
   by_cases e:g=f
   .subst e;simp[DM.Br];omega
   .simpa [DM.Br,e] using h.le g c
  Ad:=h.Ad
  AW:=h.AW
  AU:=h.AU}
theorem VI{w:World}{base:Nat}{e:TypeId}{g n a m:Nat}{i:List Value}(h:w.ownsRow base e 1 (.slice (some ⟨g,0,none⟩) n a) n i)(s:m<=n) :
 w.ownsRow base e 1 (.slice (some ⟨g,0,none⟩) m a) m (i.take m):=by
 have r:=h.1;refine⟨by simp;omega,?_⟩;rcases h.2 with⟨b,_⟩|⟨q,f,c,b,j,k,t,d,l,o⟩
 .cases b
 .simp at b
  obtain⟨rfl,rfl⟩:=b;refine .inr ⟨g,a,c,rfl,j,k,by omega,d,l,?_⟩;rw[<- o,Fh]
  congr 1
  omega
theorem Foot.xk{b:Nat}{L:DL}{M:DM}{f k:Nat}{v:Value}{x:FM}(j:f∈M.ids)(c:∀ k,v.ownBlock=some k->(L.fV f).ownBlock=some k)
 (h:Foot b {L with fV:=fun g=>if g=f then v else L.fV g} (M.Br f x) k):Foot b L M k:=by
 cases h using Foot.elim with
 | blk=>exact .Bi
 | dir e=>exact .dir e
 | safe e=>exact .safe e
 | ch e=>exact .ch e
 | chs i d e=>exact .Bl i d e
 | file e=>exact .file e
 | row g l e =>
  by_cases a:g=f
  .simp only[a,Gh] at e;exact .row f j (c k e)
  .simp only[a,Hy] at e;exact .row g l e
structure Zy(w0:World)(b:Nat)(L0:DL)(M0:DM)(Ai:List Int)(nv:Value)(i:Nat)(w:World):Prop where
 Bt:∃ L,DRep w b L {M0 with file:=zm M0.dir Ai M0.file i}/\L.BN=L0.BN/\L.BB=L0.BB/\L.Au=L0.Au/\L.BH=L0.BH/\(∀ k,Foot b L {M0 with file:=zm M0.dir Ai M0.file i} k->Foot b L0 M0 k)
 fr:Fr (Foot b L0 M0) w0 w
 names:w.ownsRow 0 9 1 nv M0.dir.length (strs M0.dir.names)
theorem Pj(f:FM)(c:Int)(h:f.safe<=f.bytes.length):f.safe+zY c (f.bytes.length-f.safe)<=f.bytes.length:=by
 have:=Yy c (f.bytes.length-f.safe);omega
theorem WX(d:Dir):d.names.length=d.length:=VU d _ (Io _)
theorem KN(l:List ByteArray)(x y:ByteArray)(h:y∈YF l x):y=x\/y∈l:=by
 induction l with
 | nil=>simp[YF] at h;exact .inl h
 | cons a r b =>
  simp only[YF] at h;split at h
  .rcases IW.1 h with h|h
   .exact .inr (by simp[h])
   .rcases b h with h|h
    .exact .inl h
    .exact .inr (Iq _ h)
  .rcases IW.1 h with h|h
   .exact .inl h
   .exact .inr h
theorem Mu(d:Dir):∀ k,k<=d.length->∀ y,y∈Ym d k->∃ e,e∈d/\e.1=y:=by
 intro k
 induction k with
 | zero=>intro _ y a;simp[Ym] at a
 | succ k b =>
  intro h y a;rw[Vd d k h,List.mem_reverse] at a;rcases KN _ _ _ a with rfl|a
  .exact⟨d[k],Iu h,rfl⟩
  .exact b (by omega) y (by simpa using a)
theorem UN(d:Dir)(y:ByteArray)(h:y∈d.names):∃ k:Nat,∃ c:k<d.length,zP d y=k/\Dir.look d y=some d[k].2:=by
 obtain⟨e,f,rfl⟩:=Mu d _ (Io _) y h;rcases Yv d e.1 with⟨b,a⟩|⟨k,c,b,a,_⟩
 .exfalso
  cases hf:d.find? (fun x=>x.1==e.1) with
  | none=>exact absurd (show(e.1==e.1)=true by rw[Er];simp) (Em.1 hf e f)
  | some x=>simp[Dir.look,hf] at a
 .exact⟨k,c,b,a⟩
theorem Ik{d:Dir}{a:ByteArray}{k:Nat}(m:zP d a=k)(w g:World)(b:Nat)(L:DL)(M:DM)(l:M.dir=d)(h:DRep g b L M)(c:Fr Nil g w) :
 Calls Tryz.prog 87 #[L.BN,.string a] w fun e f=>e=.returned (.int .i64 k)/\f.cell? ⟨b,0,none⟩=some L.BN/\Fr Nil g f:=by
 subst l;refine(zT m w (h.fr c (fun _ _=>id)).dir).mono fun e f ⟨j,i⟩=>⟨j,?_,c.trans i⟩;exact((h.fr (c.trans i) (fun _ _=>id)).Bi.cell 0)
theorem Vj(d:Dir)(a:List Int)(file:Nat->FM):∀ i f,(zm d a file i f).bytes.length<=(file f).bytes.length:=by
 intro i
 induction i with
 | zero=>intro f;exact Io _
 | succ i b =>
  intro f;cases hx:(d.names[i]?).bind (Dir.look d) with
  | none=>simp only[zm,hx];exact b f
  | some g =>
   simp only[zm,hx];split
   .rename_i e
    subst e;have:=b f;simp only[ZO,Ip];omega
   .exact b f
theorem OC(d:Dir)(a:List Int)(file:Nat->FM)(i f:Nat)(b:i<d.names.length)(h:Dir.look d d.names[i]=some f) :
 zm d a file (i+1)=fun g=>if g=f then ZO (zm d a file i f) (a.getD i 0) else zm d a file i g:=by
 simp only[zm,IB b,Dm,h]
theorem R5{d:Dir}{a:ByteArray}{k:Nat}(u:zP d a=k)(t:k<d.length)(w o:World)(b:Nat)(L:DL)(M:DM)(s:M.dir=d){g c:Nat}(q:L.BN=.slice (some ⟨g,0,none⟩) d.length c)(h:DRep o b L M)(l:Fr Nil o w) :
 Calls Tryz.prog 87 #[.slice (some ⟨g,0,none⟩) d.length c,.string a] w fun e f=>e=.returned (.int .i64 k)/\f.cell? ⟨b,0,none⟩=some (.slice (some ⟨g,0,none⟩) d.length c) /\
  f.cell? ⟨g,k*2+1,none⟩=some (.pointer (some ⟨d[k].2,0,none⟩))/\Fr Nil o f:=by
 subst s;have j:=(h.fr l (fun _ _=>id)).dir;rw[q] at j;refine(zT u w j).mono fun e f ⟨r,i⟩=>⟨r,?_,?_,l.trans i⟩
 .rw[<- q];exact((h.fr (l.trans i) (fun _ _=>id)).Bi.cell 0)
 .exact own_cell? (ze j i (fun _ _=>id)) _ _ (ZD _ k t).2
theorem Zy.step{I w s:World}{b:Nat}{l j:DL}{c:DM}{a:List Int}{G v:Value}{i f m:Nat}(h:Zy I b l c a G i w)
 (D:DRep w b j {c with file:=zm c.dir a c.file i})
 (r:j.BN=l.BN/\j.BB=l.BB/\j.Au=l.Au/\j.BH=l.BH/\(∀ k,Foot b j {c with file:=zm c.dir a c.file i} k->Foot b l c k))
 (o:Fr Nil w s)(K:i<c.dir.names.length)(B:Dir.look c.dir c.dir.names[i]=some f)(d:f∈c.ids)
 (L:m=(zm c.dir a c.file i f).safe+zY (a.getD i 0) ((zm c.dir a c.file i f).bytes.length-(zm c.dir a c.file i f).safe))
 (M:s.ownsRow 0 5 1 v m (u8s ((zm c.dir a c.file i f).bytes.take m)))(t:∀ k,v.ownBlock=some k->(j.fV f).ownBlock=some k) :
 Zy I b l c a G (i+1) (((s.setCell ⟨f,0,none⟩ v).setCell ⟨f,1,none⟩ (.int .i64 m)).drew):=by
 have x:=D.fr o (fun _ _=>id);have u:=x.le f d;simp only at u;have C:m<=(zm c.dir a c.file i f).bytes.length:=by
  have:=Pj (zm c.dir a c.file i f) (a.getD i 0) u;omega
 have q:Fr (fun k=>k=f) s (((s.setCell ⟨f,0,none⟩ v).setCell ⟨f,1,none⟩ (.int .i64 m)).drew):=(by repeat' first|exact U _ _|(with_reducible assumption)|refine Fr.drewN ?_ _|refine Fr.drew ?_|refine Fr.alloc ?_ _|refine Fr.set ?_ ?_ _|(intro _;rfl));have J:Blk (((s.setCell ⟨f,0,none⟩ v).setCell ⟨f,1,none⟩ (.int .i64 m)).drew) f [v,.int .i64 m] 152:=(((x.files f d).set 0 v).set 1 (.int .i64 m)).drew;have A:=x.BS d C J M q t;have E:({c with file:=zm c.dir a c.file i}:DM).Br f ⟨(zm c.dir a c.file i f).bytes.take m,m⟩={c with file:=zm c.dir a c.file (i+1)}:=by
  rw[OC _ _ _ _ _ K B];simp only[DM.Br,ZO,<- L]
 have y:Foot b j {c with file:=zm c.dir a c.file i} f:=.file d;refine⟨⟨{j with fV:=fun g=>if g=f then v else j.fV g},?_,r.1,r.2.1,r.2.2.1,r.2.2.2.1,?_⟩,?_,?_⟩
 .rw[<- E];exact A
 .intro k hkf
  rw[<- E] at hkf;exact r.2.2.2.2 k (Foot.xk d t hkf)
 .refine Fr.trans' (h.fr.trans (o.mono (fun _ _=>False.elim))) q ?_
  intro k _ e;subst e;exact r.2.2.2.2 _ y
 .have h1:=ze h.names o (fun _ _=>id)
  exact ze h1 q (fun k e A=>by subst A;exact zi h1 (x.files _ d) (by decide) e)
theorem DRep.xY{w:World}{b:Nat}{L:DL}{M:DM}{d:Dir}{F:Nat->FM}(h:DRep w b L {M with dir:=d,file:=F}) :
 DRep (((((w.setCell ⟨b,1,none⟩ L.BN).setCell ⟨b,2,none⟩ (.slice none 0 0)).setCell ⟨b,10,none⟩ (.bool false)).setCell ⟨b,5,none⟩ (.int .i64 0)).setCell ⟨b,6,none⟩ (.int .i64 0)) b
  {L with BB:=L.BN,Au:=.slice none 0 0,BH:=[]} {M with dir:=d,safe:=d,Bl:=[],file:=F,dead:=false,cut:=0,fail:=0}:=by
 have a:=h.synced (w':=(w.setCell ⟨b,1,none⟩ L.BN).setCell ⟨b,2,none⟩ (.slice none 0 0)) ((h.Bi.set 1 L.BN).set 2 (.slice none 0 0)) zd;exact a.own (M':={M with dir:=d,safe:=d,Bl:=[],file:=F,dead:=false,cut:=0,fail:=0}) (((a.Bi.set 10 (.bool false)).set 5 (.int .i64 0)).set 6 (.int .i64 0)) zd rfl rfl rfl rfl rfl
theorem R6{w s wr:World}{b:Nat}{L:DL}{M:DM}{d:Dir}{v I:Value}{c:Int}{a:List Int}(E:M.BZ c=d)
 (h:Zy s b {L with BN:=v} {M with dir:=d} a I d.length wr)(j:Fr (fun k=>k=b) w s)
 (g:∀ k,Foot b {L with BN:=v} {M with dir:=d} k->Foot b L M k) :
 ∃ t,DStep b L M w t (M.Bw c a)
  (((((wr.setCell ⟨b,1,none⟩ v).setCell ⟨b,2,none⟩ (.slice none 0 0)).setCell ⟨b,10,none⟩ (.bool false)).setCell ⟨b,5,none⟩ (.int .i64 0)).setCell ⟨b,6,none⟩ (.int .i64 0)):=by
 obtain⟨u,q,r,x,y,A,l⟩:=h.Bt;simp only at r x y A;subst r;have B:M.Bw c a={M with dir:=d,safe:=d,Bl:=[],file:=zm d a M.file d.length,dead:=false,cut:=0,fail:=0}:=by
  simp only[DM.Bw,E,WX]
 rw[B];have D:=q.xY;refine⟨_,D,?_,?_⟩
 .have hfr:Fr (fun k=>k=b) wr (((((wr.setCell ⟨b,1,none⟩ u.BN).setCell ⟨b,2,none⟩ (.slice none 0 0)).setCell ⟨b,10,none⟩ (.bool false)).setCell ⟨b,5,none⟩ (.int .i64 0)).setCell ⟨b,6,none⟩ (.int .i64 0)):=zd
  refine Fr.trans' (Fr.trans' (j.mono (fun k _ e=>by subst e;exact .Bi)) h.fr (fun k _ o=>g k o)) hfr (fun k _ e=>by subst e;exact .Bi)
 .intro k o
  refine .inl (g k ?_);cases o using Foot.elim with
  | blk=>exact .Bi
  | dir e=>exact .dir e
  | safe e=>exact .dir e
  | ch e=>simp[Value.ownBlock] at e
  | chs i C e=>exact absurd C (Hj _)
  | file e=>exact .file e
  | row f G e=>exact l k (.row f G e)
set_option maxRecDepth 100000 in
theorem Mv(t:Int)(l:List Int)(tv:Value)(w:World)(b:Nat)(L:DL)(M:DM)(h:DRep w b L M)(e8:-9223372036854775808<=t)(e9:t<=9223372036854775807)
 (ht:Yo w tv l)(d6:∀ k,l≠[]->tv.ownBlock=some k->¬Foot b L M k)(d7:∀ x,x∈l->-9223372036854775808<=x/\x<=9223372036854775807)
 (f1:∀ f,f∈M.ids->(M.file f).bytes.length<=1000000000000)(hn:M.Bl.length+1<=1000000000000)(hm:∀ d,d∈M.safe::M.Bl->d.length<=1000000000000)(b9:zY t M.Bl.length=0) :
 Calls Tryz.prog 33 #[.pointer (some ⟨b,0,none⟩),.int .i64 t,tv] w fun e w' =>
  e=.returned (.tuple #[])/\∃ L',DStep b L M w L' (M.Bw t l) w':=by
 have hc:=h.Bi.cell;have g8:=h.Bi.frozen;simp only[DM.cells] at hc;obtain⟨ca,g0,b6⟩:=zg h.ch;obtain⟨sa,g1,c1⟩:=zg h.safe;obtain⟨ta,tc,c2⟩:∃ a c,tv=.slice a l.length c:=by
  rcases ht with⟨⟨_,_,rfl⟩,rfl⟩|⟨g,a1,a4,rfl,_⟩
  .exact⟨_,_,rfl⟩
  .exact⟨_,_,rfl⟩
 have c7:M.BZ t=M.safe:=by simp[DM.BZ,b9]
 have d5:Blk (w.setCell ⟨b,0,none⟩ L.BB) b (({M with dir:=M.safe}:DM).cells {L with BN:=L.BB}) 143:=h.Bi.set 0 L.BB;have d4:=h.yL h.safe h.AW d5 (by repeat' first|exact U _ _|(with_reducible assumption)|refine Fr.drewN ?_ _|refine Fr.drew ?_|refine Fr.alloc ?_ _|refine Fr.set ?_ ?_ _|(intro _;rfl));rw[b6,c1] at hc;have HH:=Z h;have c3:=Z d4;have d8:=Z b6;have b2:=Z c1;have HT:=Z ht;have e7:=Z c2;have d9:=Z c7;have hp:=YY t M.Bl.length w e8 e9 (by omega);rw[b9] at hp;have HP:=Z hp;have f7:l.length<=maxLen:=by
  rcases ht with⟨_,rfl⟩|⟨_,_,_,_,_,h,_⟩
  .simp
  .exact h
 unfold maxLen at f7;clear h d4 b6 c1 ht d5 c7 hp b9;rw[c2];clear c2;go_enter Tryz.func33,Tryz.ntmps33
 go_wp2_with (go_at_call 85;refine HP.out.mono ?_;rintro e wx ⟨rfl,h9⟩;subst wx)
 have HL:=Z (Wv _ b _ _ c3.out (hm M.safe (Is ..)));rw[<- b2.out];refine HL.out.mono ?_;rintro e w1 ⟨nv,rfl,a8,a6,b0⟩;obtain⟨na,nc,b1⟩:=zg a8;have d3:=zG a8;unfold maxLen at d3;have c6:Zy (w.setCell ⟨b,0,none⟩ L.BB) b {L with BN:=L.BB} {M with dir:=M.safe} l nv 0 w1 :=
  ⟨⟨_,c3.out.fr a6 (fun _ _=>id),rfl,rfl,rfl,rfl,fun k hk=>hk⟩,a6.mono (fun _ _=>False.elim),a8⟩
 have g4:=Z b1;have g5:=Z b0;have g2:=Z a6;clear a8 a6 b0 hc;subst b1;go_wp2_with fail
 go_loopw [44] (fun c w'=>∃ i:Nat,i<=M.safe.length/\c=.int .i64 i/\Zy (w.setCell ⟨b,0,none⟩ L.BB) b {L with BN:=L.BB} {M with dir:=M.safe} l (.slice na M.safe.length nc) i w') (fun c _=>M.safe.length-(intOf c).toNat)
 case atStart=>exact⟨0,II _,rfl,c6⟩
 case round =>
  obtain⟨i,hi,rfl,c5⟩:=hrel;have y:=Z c5;clear c5 c6;by_cases g9:i<M.safe.length
  .have hnl:M.safe.names.length=M.safe.length:=WX _
   obtain⟨ng,f2⟩:∃ g,na=some ⟨g,0,none⟩:=by
    obtain⟨g,c',h',_⟩:=zv y.out.names (by show 0<M.safe.length;omega);simp at h';exact⟨g,h'.1⟩
   subst f2;have D:i<M.safe.names.length:=by omega
   have h3:=own_cell? y.out.names i (.string M.safe.names[i]) (by simp[strs,D]);obtain⟨k,hk,b8,d1⟩:=UN M.safe M.safe.names[i] (Iu D);obtain⟨Li,A,e1,e2,e3,e4,V⟩:=y.out.Bt;have R:=A.Bi.cell 0;have I:=A.dir;rw[e1] at I;obtain⟨dg,a9,a5,_,f0⟩:=zv I (by show 0<M.safe.length;omega);simp only at a5;have T:Li.BN=.slice (some ⟨dg,0,none⟩) M.safe.length a9:=e1.trans a5;simp only[DM.cells,T] at R;simp at R;have h6:=own_cell? (by rw[<- a5];exact I) _ _ (ZD M.safe k hk).2;have C:=Z A;have e5:=Z b8;have e0:=Z T;have a3:=Z d1;have a2:=Z (⟨e1,e2,e3,e4,V⟩:Li.BN=_/\Li.BB=_/\Li.Au=_/\Li.BH=_/\_);unfold maxLen at f0;clear A b8 e1 e2 e3 e4 I V a5 T d1;go_wp2_with fail
   go_region_held3 (fun w'=>w'.cell? ⟨b,0,none⟩=some (.slice (some ⟨dg,0,none⟩) M.safe.length a9)/\w'.cell? ⟨dg,k*2+1,none⟩=some (.pointer (some ⟨M.safe[k].2,0,none⟩))) (first|go_keep|exact⟨‹_›,‹_›⟩)
    (first|(go_at_call 87;refine(R5 e5.out hk _ wr b _ _ rfl e0.out C.out (Fr.drew (U _ _))).mono ?_;rintro e w5 ⟨rfl,g6,h4,J⟩))
   have h5:=C.out.fr J (fun _ _=>id);have o:M.safe[k].2∈M.ids:=C.out.Ad _ (Iu hk);have c8:(zm M.safe l M.file i M.safe[k].2).bytes.length<=1000000000000:=Im (Vj _ _ _ _ _) (f1 _ o);have X:=h5.le _ o;have b5:=(h5.files _ o).cell;have g7:=(h5.files _ o).frozen;obtain⟨fa,fc,a7⟩:=zg (h5.rows _ o);rw[a7] at b5;simp only at X b5 a7;have c4:Yo w5 tv l:=by
    have c9:Fr (fun k=>k=b\/Foot b L M k) w w5:=by
     refine Fr.trans' (Fr.set (U _ w) (p:=⟨b,0,none⟩) (fun _=>.inl rfl) L.BB) (y.out.fr.trans (J.mono (fun _ _=>False.elim))) ?_;intro j _ G;refine .inr ?_;cases G using Foot.elim with
     | blk=>exact .Bi
     | dir e=>exact .safe e
     | safe e=>exact .safe e
     | ch e=>exact .ch e
     | chs i s e=>exact .Bl i s e
     | file e=>exact .file e
     | row f hf e=>exact .row f hf e
    refine HT.out.fr c9 ?_;intro j d2 G hb;rcases hb with rfl|hb
    .exact d6 _ d2 G .Bi
    .exact d6 j d2 G hb
   have r:=Z a7;have H5:=Z h5;have e6:=Z c4;have g3:=Z X;clear h5 a7 c4;generalize hF:zm M.safe l M.file i M.safe[k].2=F at b5 X c8;have B:=Z hF;clear hF;by_cases K:i<l.length
   .obtain⟨tg,toff,tcap,htv',htc⟩:∃ g a1 a4,tv=.slice (some ⟨g,a1,none⟩) l.length a4/\w5.cell? ⟨g,a1+i,none⟩=some (.int .i64 l[i]):=by
     rcases e6.out with⟨_,h0⟩|⟨g,a1,a4,hv,_,_,b4⟩
     .subst h0;simp at K
     .exact⟨g,a1,a4,hv,b4 i K⟩
    have f6:ta=some ⟨tg,toff,none⟩:=by have:=e7.out.symm.trans htv';simp at this;exact this.1
    subst f6;have d0:l.getD i 0=l[i]:=by simp[List.getD,K]
    have HG:=Z d0;have h7:=(d7 l[i] (Iu K)).1;have h8:=(d7 l[i] (Iu K)).2;clear d0;generalize l[i]=tx at *;obtain⟨E,S⟩:∃ E:Nat,E=F.bytes.length-F.safe:=⟨_,rfl⟩;have u:∀ wx:World,Calls Tryz.prog 85 #[.int .i64 tx,.int .i64 E] wx fun e w'=>e=.returned (.int .i64 (zY tx E))/\w'=wx :=
     fun wx=>YY _ _ wx (by omega) (by omega) (by omega)
    have q:=Z u;have a0:=Yy tx E;clear u;generalize hP:zY tx E=pn at a0 q;have Q:=Z hP;clear hP;obtain⟨m,Y⟩:∃ m:Nat,m=F.safe+pn:=⟨_,rfl⟩;have f8:IntKind.i64.wrap ((F.bytes.length:Int)-(F.safe:Int))=(E:Int):=by simp (disch:=omega) only[FT];omega
    have f9:IntKind.i64.wrap ((F.safe:Int)+(pn:Int))=(m:Int):=by simp (disch:=omega) only[FT];omega
    have N:=Z S;have O:=Z Y;have c0:m<=F.bytes.length:=by omega
    have b4:F.bytes.length<=fc:=by
     rcases (H5.out.rows _ o).2 with⟨s,h2⟩|⟨_,_,_,s,_,_,h2,_⟩
     .simp only[B.out] at h2;omega
     .rw[r.out] at s;simp only[B.out] at s h2;simp at s;omega
    have f4:(0:Int)<=(m:Int):=by omega
    have f5:(m:Int)<=(fc:Int):=by omega
    clear S Y a0;by_cases b7:fc=0
    .have hm0:m=0:=by omega
     go_wp2_with fail;refine wp_region_still_tail 26 (by kernel_rfl) (by kernel_rfl) ?_;simp only[Hv,Gs,GC,Gr]
     iterate 21 still_step
     still_call (q.out _)
     iterate 4 still_step
     refine FX ?_
     go_wp2
     obtain rfl:m=0:=hm0;refine⟨⟨i+1,by omega,by go_num,?_⟩,by simp[intOf];omega⟩;refine Zy.step (v:=.slice fa 0 0) (m:=0) y.out C.out a2.out J D a3.out o ?_ ?_ ?_
     .show 0=(zm M.safe l M.file i M.safe[k].2).safe+zY (l.getD i 0) ((zm M.safe l M.file i M.safe[k].2).bytes.length-(zm M.safe l M.file i M.safe[k].2).safe)
      rw[B.out,HG.out,<- N.out,Q.out];exact O.out
     .have hr:=H5.out.rows _ o
      simp only[B.out] at hr;rw[r.out] at hr;simp only[B.out] at hr;have hz:F.bytes.length=0:=by omega
      rw[hz,b7] at hr;have b3:F.bytes=[]:=IY hz;show w5.ownsRow 0 5 1 (.slice fa 0 0) 0 (u8s ((zm M.safe l M.file i M.safe[k].2).bytes.take 0));rw[b3] at hr
      simpa using hr
     .intro j G
      rw[r.out];cases fa with
      | none=>exact G
      | some a=>exact G
    .obtain⟨gb,hgb⟩:∃ gb,fa=some ⟨gb,0,none⟩:=by
      rcases (H5.out.rows _ o).2 with⟨s,_⟩|⟨g,_,_,s,_⟩
      .rw[r.out] at s;simp at s;omega
      .rw[r.out] at s;simp at s;exact⟨g,s.1⟩
     subst hgb;go_wp2_with fail;refine wp_region_still_tail 26 (by kernel_rfl) (by kernel_rfl) ?_;simp only[Hv,Gs,GC,Gr]
     iterate 21 still_step
     still_call (q.out _)
     iterate 4 still_step
     refine FX ?_
     go_wp2
     refine⟨⟨i+1,by omega,by go_num,?_⟩,by simp[intOf];omega⟩;refine Zy.step (v:=.slice (some ⟨gb,0,none⟩) m fc) (m:=m) y.out C.out a2.out J D a3.out o ?_ ?_ ?_
     .show m=(zm M.safe l M.file i M.safe[k].2).safe+zY (l.getD i 0) ((zm M.safe l M.file i M.safe[k].2).bytes.length-(zm M.safe l M.file i M.safe[k].2).safe)
      rw[B.out,HG.out,<- N.out,Q.out];exact O.out
     .have hr:=H5.out.rows _ o
      simp only[B.out] at hr;rw[r.out] at hr;simp only[B.out] at hr;show w5.ownsRow 0 5 1 (.slice (some ⟨gb,0,none⟩) m fc) m (u8s ((zm M.safe l M.file i M.safe[k].2).bytes.take m));rw[B.out];have:=VI hr c0;rw[show u8s (F.bytes.take m)=(u8s F.bytes).take m by simp[u8s]];exact this
     .intro j G
      rw[r.out];exact G
   .have HG:Hid (l.getD i 0=0):=by simp[Hid,List.getD,K]
    obtain⟨E,S⟩:∃ E:Nat,E=F.bytes.length-F.safe:=⟨_,rfl⟩;have u:∀ wx:World,Calls Tryz.prog 85 #[.int .i64 0,.int .i64 E] wx fun e w'=>e=.returned (.int .i64 (zY 0 E))/\w'=wx :=
     fun wx=>YY _ _ wx (by omega) (by omega) (by omega)
    have q:=Z u;have a0:=Yy 0 E;clear u;generalize hP:zY 0 E=pn at a0 q;have Q:=Z hP;clear hP;obtain⟨m,Y⟩:∃ m:Nat,m=F.safe+pn:=⟨_,rfl⟩;have f8:IntKind.i64.wrap ((F.bytes.length:Int)-(F.safe:Int))=(E:Int):=by simp (disch:=omega) only[FT];omega
    have f9:IntKind.i64.wrap ((F.safe:Int)+(pn:Int))=(m:Int):=by simp (disch:=omega) only[FT];omega
    have N:=Z S;have O:=Z Y;have c0:m<=F.bytes.length:=by omega
    have b4:F.bytes.length<=fc:=by
     rcases (H5.out.rows _ o).2 with⟨s,h2⟩|⟨_,_,_,s,_,_,h2,_⟩
     .simp only[B.out] at h2;omega
     .rw[r.out] at s;simp only[B.out] at s h2;simp at s;omega
    have f4:(0:Int)<=(m:Int):=by omega
    have f5:(m:Int)<=(fc:Int):=by omega
    clear S Y a0;by_cases b7:fc=0
    .have hm0:m=0:=by omega
     go_wp2_with fail;refine wp_region_still_tail 26 (by kernel_rfl) (by kernel_rfl) ?_;simp only[Hv,Gs,GC,Gr]
     iterate 21 still_step
     still_call (q.out _)
     iterate 4 still_step
     refine FX ?_
     go_wp2
     obtain rfl:m=0:=hm0;refine⟨⟨i+1,by omega,by go_num,?_⟩,by simp[intOf];omega⟩;refine Zy.step (v:=.slice fa 0 0) (m:=0) y.out C.out a2.out J D a3.out o ?_ ?_ ?_
     .show 0=(zm M.safe l M.file i M.safe[k].2).safe+zY (l.getD i 0) ((zm M.safe l M.file i M.safe[k].2).bytes.length-(zm M.safe l M.file i M.safe[k].2).safe)
      rw[B.out,HG.out,<- N.out,Q.out];exact O.out
     .have hr:=H5.out.rows _ o
      simp only[B.out] at hr;rw[r.out] at hr;simp only[B.out] at hr;have hz:F.bytes.length=0:=by omega
      rw[hz,b7] at hr;have b3:F.bytes=[]:=IY hz;show w5.ownsRow 0 5 1 (.slice fa 0 0) 0 (u8s ((zm M.safe l M.file i M.safe[k].2).bytes.take 0));rw[b3] at hr
      simpa using hr
     .intro j G
      rw[r.out];cases fa with
      | none=>exact G
      | some a=>exact G
    .obtain⟨gb,hgb⟩:∃ gb,fa=some ⟨gb,0,none⟩:=by
      rcases (H5.out.rows _ o).2 with⟨s,_⟩|⟨g,_,_,s,_⟩
      .rw[r.out] at s;simp at s;omega
      .rw[r.out] at s;simp at s;exact⟨g,s.1⟩
     subst hgb;go_wp2_with fail;refine wp_region_still_tail 26 (by kernel_rfl) (by kernel_rfl) ?_;simp only[Hv,Gs,GC,Gr]
     iterate 21 still_step
     still_call (q.out _)
     iterate 4 still_step
     refine FX ?_
     go_wp2
     refine⟨⟨i+1,by omega,by go_num,?_⟩,by simp[intOf];omega⟩;refine Zy.step (v:=.slice (some ⟨gb,0,none⟩) m fc) (m:=m) y.out C.out a2.out J D a3.out o ?_ ?_ ?_
     .show m=(zm M.safe l M.file i M.safe[k].2).safe+zY (l.getD i 0) ((zm M.safe l M.file i M.safe[k].2).bytes.length-(zm M.safe l M.file i M.safe[k].2).safe)
      rw[B.out,HG.out,<- N.out,Q.out];exact O.out
     .have hr:=H5.out.rows _ o
      simp only[B.out] at hr;rw[r.out] at hr;simp only[B.out] at hr;show w5.ownsRow 0 5 1 (.slice (some ⟨gb,0,none⟩) m fc) m (u8s ((zm M.safe l M.file i M.safe[k].2).bytes.take m));rw[B.out];have:=VI hr c0;rw[show u8s (F.bytes.take m)=(u8s F.bytes).take m by simp[u8s]];exact this
     .intro j G
      rw[r.out];exact G
  .have D:i=M.safe.length:=by omega
   subst D;obtain⟨Li,A,e1,e2,e3,e4,V⟩:=y.out.Bt;have R:=A.Bi.cell;have b8:=A.Bi.frozen;simp only[DM.cells,e1,e2,e3] at R;simp only[b2.out,d8.out] at R;have f3:=A;have C:=Z A;have HE:=Z (⟨e1,e2,e3,e4,V⟩:_/\_/\_/\_/\_);clear A e1 e2 e3 e4 V f3
   go_wp2
   go_end0
   refine⟨rfl,?_⟩;rw[<- b2.out];refine R6 d9.out y.out (by repeat' first|exact U _ _|(with_reducible assumption)|refine Fr.drewN ?_ _|refine Fr.drew ?_|refine Fr.alloc ?_ _|refine Fr.set ?_ ?_ _|(intro _;rfl)) ?_;intro k hk;cases hk using Foot.elim with
   | blk=>exact .Bi
   | dir e=>exact .safe e
   | safe e=>exact .safe e
   | ch e=>exact .ch e
   | chs i s e=>exact .Bl i s e
   | file e=>exact .file e
   | row f hf e=>exact .row f hf e
end Go.Proofs.YtkhnggkkiefcdaaGreatDoor
