import Derived.Test.YthpclfdpbmehgaaGreatDoorA
import Derived.Test.YthpclfdpbmehgaaGreatDoorC
import Derived.Test.YthpclfdpbmehgaaGreatDoorD
open Go.Proofs.Tryz
open Go.Proofs.Tryz renaming prog→yP
open Go.Value renaming string→sV,pointer→pV,int→iV,slice→lV,bool→bV,tuple→tV,agg→gV
open Go.Ending renaming returned→rV
namespace Go.Proofs.YthpclfdpbmehgaaGreatDoor
open Go.RowKit
set_option maxRecDepth 100000
set_option maxHeartbeats 0
set_option linter.all false
def cM{w w':World}{base e a v n b}(h:w.ownsRow base e a v n b)
 (i:∀g,v.ownBlock=some g->w'.heap[g]? =w.heap[g]?):w'.ownsRow base e a v n b:=by
 refine⟨h.1,?_⟩;rcases h.2 with j|⟨g,cap,c,rfl,d,f,rest⟩
 ·exact .inl j
 ·exact .inr ⟨g,cap,c,rfl,d,by rw[i g rfl];exact f,rest⟩
def fc{w:World}{base e f v n a}(h:w.ownsRow base e f v n a){g}(c:v.ownBlock=some g)(j:Nat)(u)(d:a[j]? =some u):w.cell? ⟨g,j,none⟩=some u:=by
 have b:(⟨g,0,none⟩:Addr).add j=⟨g,j,none⟩:=by unfold Addr.add;split<;>simp_all
 rw[<-b];exact h.cells c j u d
def kZ{w:World}{base e d v n f}(h:w.ownsRow base e d v n f){g}(a:v.ownBlock=some g)(j:Nat):w.frozen? ⟨g,j,none⟩=false:=by
 rcases h.2 with⟨rfl,_⟩|⟨b,cap,i,rfl,k,c,_⟩
 ·simp[Value.ownBlock] at a
 ·simp[Value.ownBlock] at a;subst a;exact US w b j _ _ c
def tS{w:World}{base e f v n i}(h:w.ownsRow base e f v n i){g}(c:v.ownBlock=some g)(j:Nat)(u:Value):
 (w.setCell ⟨g,j,none⟩ u).ownsRow base e f v n (i.set j u):=by
 refine⟨by rw[Vh];exact h.1,?_⟩;rcases h.2 with⟨rfl,_⟩|⟨b,cap,a,rfl,k,d,m,l,hs,o⟩
 ·simp[Value.ownBlock] at c
 ·simp[Value.ownBlock] at c;subst c;refine .inr ⟨b,cap,a.setIfInBounds j u,rfl,k,?_,m,l,by simpa using hs,?_⟩
  ·rw[U7 w b j a e (0,0) u d];exact Vk w b a _ e _ d
  ·rw[Array.toList_setIfInBounds,List.take_set,o]
def dM{w:World}{base e d v n f}(h:w.ownsRow base e d v n f):
 ∃a cap,v=lV a n cap/\n<=cap/\cap<=maxLen/\(a=none/\n=0/\cap=0\/∃g,a=some ⟨g,0,none⟩):=by
 rcases h.2 with⟨rfl,rfl⟩|⟨g,cap,i,rfl,j,k,c,b,_⟩
 ·exact⟨none,0,rfl,Ug _,UD _,.inl ⟨rfl,rfl,rfl⟩⟩
 ·exact⟨_,cap,rfl,c,b,.inr ⟨g,rfl⟩⟩
def yw(a:Nat->Int):Nat->Int:=oy (nJ (nr a) 25)
def ze(i:Nat)(a:Nat->Int):Nat->Int:=cC (yw a) 0 (xo (yw a 0) (qW i))
def rB(a:Nat->Int):Nat->Nat->Int
 | 0=>a
 |k+1=>ze k (rB a k)
def wA(a:Nat->Int):Nat->Int:=rB a 24
def FU(a:Nat->Int)(t:Int)(w)(b:Nat)(H:cU w b a t)(T:aB w)(h:3<=b):
 Calls yP 56 #[.pointer (qA b)] w fun e w'=>e=.returned (.tuple #[])/\cU w' b (wA a) t/\Kept b w w':=by
 go_enter func56,ntmps56
 go_wp2_with fail
 go_loopg [2] 24 (fun g r wr=>∃k:Nat,g=24 - k/\k<=24/\r=.int .i64 k/\cU wr b (rB a k) t/\Kept b w wr)
 case atStart=>exact⟨0,rfl,by omega,rfl,H,Kept.refl b w⟩
 case round=>
  obtain⟨k,q,E,rfl,d,f⟩:=hrel;have s:yH (gk=24 - k):=q;clear q;by_cases D:k<24
  ·have z:yH (Kept b w wr):=f;have y:yH (cU wr b (rB a k) t):=d;have n:yH (aB w):=T;have A:yH (ze k (rB a k)=rB a (k+1)):=rfl;clear f d H T;generalize rB a k=vs at*;go_wp2_with fail
   refine(PX vs t _ b y.o).mono ?_;rintro e w1 ⟨rfl,i,o⟩;have v:yH (cU w1 b (nr vs) t):=i;have l:yH (Kept b w w1):=z.o.trans o;clear i o;go_wp2_with fail
   refine(PU (nr vs) t _ b v.o (n.o.kept l.o h) h).mono ?_;rintro e w2 ⟨rfl,j,p⟩;have c:yH (cU w2 b (yw vs) t):=j;have m:yH (Kept b w w2):=l.o.trans p;have c0:=c.o.at_ 0 (by omega);have f0:=c.o.free 0;have t0:=(n.o.kept m.o h).words k D;clear j p;generalize hu:yw vs 0=u at c0;have B:yH (yw vs 0=u):=hu;generalize hx:qW k=x at t0;have C:yH (qW k=x):=hx;clear hu hx;go_wp2_with fail
   go_region
   all_goals
    go_wp2_with fail
    go_roundg (24 - (k+1))
    case measure=>have:=s.o;omega
    case rel=>exact⟨k+1,rfl,by omega,by go_num,by rw[<-A.o];unfold ze;rw[B.o,C.o];exact(c.o.set 0 (xo u x) (by omega)).drew,(m.o.set _ _).drew⟩
  ·have:k=24:=by omega
   subst this;go_wp2_with fail
   go_end0
   exact⟨rfl,d,f⟩
def ny(a:Nat->Int)(t c:Nat):Nat->Int:=cC a (t / 8) (xo (a (t / 8)) (IntKind.u64.wrap (c*2 ^ (t % 8*8))))
def su(a:(Nat->Int)×Nat)(c:UInt8):(Nat->Int)×Nat:=
 if a.2+1=136 then(wA (ny a.1 a.2 c.toNat),0) else(ny a.1 a.2 c.toNat,a.2+1)
def ju(a:(Nat->Int)×Nat)(l:yL):(Nat->Int)×Nat:=l.foldl su a
def Ta(a:(Nat->Int)×Nat)(c:UInt8)(h:a.2<136):(su a c).2<136:=by
 unfold su;split
 ·exact(by decide:0<136)
 ·show a.2+1<136;omega
def Cp(l):∀(a:(Nat->Int)×Nat),a.2<136->(ju a l).2<136:=by
 induction l with
 |nil=>intro a h;exact h
 |cons c l ih=>intro a h;exact ih _ (Ta a c h)
def Km(a:(Nat->Int)×Nat)(l m):ju a (l++m)=ju (ju a l) m:=by simp[ju]
def Kl(a:(Nat->Int)×Nat)(s:yB)(k:Nat)(h:k<s.size):ju a (s.data.toList.take (k+1))=su (ju a (s.data.toList.take k)) s[k]:=by
 have e:s.data.toList.take (k+1)=s.data.toList.take k++[s[k]]:=by
  rw[Vb (by simpa using h)];rfl
 rw[e,Km];rfl
def Kk(a:(Nat->Int)×Nat)(s:yB)(hs:s.size<=maxLen)(w)(b:Nat)(H:cU w b a.1 a.2)(P:a.2<136)(T:aB w)(z:3<=b):
 Calls yP 26 #[pV (qA b),sV s] w fun e w'=>e=rV (tV #[])/\cU w' b (ju a s.data.toList).1 (ju a s.data.toList).2/\Kept b w w':=by
 unfold maxLen at hs;go_enter func26,ntmps26
 go_wp2_with fail
 go_loopg [4] s.size (fun g r wr=>∃k:Nat,g=s.size - k/\k<=s.size/\r=iV .i64 k/\cU wr b (ju a (s.data.toList.take k)).1 (ju a (s.data.toList.take k)).2/\Kept b w wr)
 case atStart=>exact⟨0,rfl,by omega,rfl,H,Kept.refl b w⟩
 case round=>
  obtain⟨k,B,Q,rfl,c,j⟩:=hrel;have o:=aa B;clear B;by_cases O:k<s.size
  ·have C:=Cp (s.data.toList.take k) a P;have v:=aa (Kl a s k O);generalize hq:ju a (s.data.toList.take k)=q at*;clear hq;obtain⟨d,t⟩:=q;simp only at C c;have I:=aa j;have F:=aa c;have J:=aa T;have c0:=c.at_ (t / 8) (by omega);have f0:=c.free (t / 8);have c1:=c.taken;have f1:=c.free 25;clear j c H T;have N:s[k].toNat<256:=s[k].toNat_lt;generalize hu:d (t / 8)=u at c0;have K:=aa hu;clear hu;have R:t / 8≠25:=by omega
   go_upto_region 3 with fail
   go_cut [] (fun D=>cU D b (ny d t s[k].toNat) t/\Kept b wr D)
   case first=>
    go_region_with (go_at_call 55;refine(Iu t _ N u _ b C (by go_simp) (by go_simp)).mono ?_;rintro e w' ⟨rfl,rfl⟩)
    all_goals (go_wp2_with fail;go_meet;exact⟨by unfold ny;rw[K.o];exact(F.o.set (t / 8) _ (by omega)).drew.drew,((Kept.refl _ _).set _ _).drew.drew⟩)
   case rest=>
    obtain⟨l,x⟩:=hcut;generalize hfl:ny d t s[k].toNat=us at*;have n:=aa hfl;have h:=aa l;have p:=aa (I.o.trans x);clear c0 f0 c1 f1 hfl l x;have c1:=h.o.taken;have f1:=h.o.free 25;by_cases A:t+1=136
    ·have M:((t:Int)+1 == 136)=true:=beq_iff_eq.2 (by omega);go_wp2_with fail
     have m:=h.o.yZ ((t:Int)+1);have i:=p.o.set 25 (iV .i64 ((t:Int)+1));refine(FU us _ _ b m (J.o.kept i z) z).mono ?_;rintro e w3 ⟨rfl,f,y⟩;have E:=aa f;have G:=aa (i.trans y);have c3:=f.taken;have f3:=f.free 25;clear m i f y;go_wp2_with fail
     go_roundg (s.size - (k+1))
     case measure=>have:=o.o;omega
     case rel=>
      refine⟨k+1,rfl,by omega,by go_num,?_,G.o.set _ _⟩;rw[v.o];unfold su;simp only;rw[Uj A,n.o];exact E.o.yZ 0
    ·have M:((t:Int)+1 == 136)=false:=Vd.2 (by omega);go_wp2_with fail
     go_roundg (s.size - (k+1))
     case measure=>have:=o.o;omega
     case rel=>
      refine⟨k+1,rfl,by omega,by go_num,?_,p.o.set _ _⟩;rw[v.o];unfold su;simp only;rw[Ui A,n.o];exact h.o.yZ _
  ·have:k=s.size:=by omega
   subst this;have L:s.data.toList.take s.size=s.data.toList:=U4 (by simp);rw[L] at c;go_wp2_with fail
   go_end0
   exact⟨rfl,c,j⟩
def tz(a:(Nat->Int)×Nat):yB:=uy (wA (ny (ny a.1 a.2 1) 135 128))
def dz(a:(Nat->Int)×Nat):(tz a).size=32:=Rk _
def tA:(Nat->Int)×Nat:=(ya,0)
def ag(s:yB):yB:=tz (ju tA s.data.toList)
def aB.below{w w'}(h:aB w)(k:yW w w'):aB w':=h.kept (Kept.iP k 3) (Ug _)
def Tu{n b w w1 w2}(h1:Below n w w1)(h:Kept b w1 w2)(c:n<=w.heap.size)(d:n<=b):Below n w w2:=
 ⟨h.os.trans h1.os,h.tape.trans h1.tape,h.output.trans h1.output,Ut h1.size h.size,fun k a=>(h.block k (Us a (Ut c h1.size)) (by omega)).trans (h1.block k a)⟩
def Tx{n w w1 w2}(h1:Below n w w1)(h:yW w1 w2)(a:n<=w.heap.size):Below n w w2:=
 h1.trans (h.mono (Ut a h1.size))
def Jz{v}{w w1 w4 w5:World}(b:w.heap.size=v)(h1:Below v w w1)(h4:Kept v w1 w4)(a:yW w4 w5):yW w w5:=by
 subst b;exact Tx (Tu h1 h4 (Ug _) (Ug _)) a (Ug _)
def It(a:Nat->Int)(t:Int)(i c:Nat)(hi:i<136)(d:c<256)(w)(b:Nat)(H:cU w b a t):
 Calls yP 55 #[pV (qA b),iV .i64 i,iV .u8 c] w fun e w'=>e=rV (tV #[])/\cU w' b (ny a i c) t/\Kept b w w':=
 (Iu i c d (a (i / 8)) w b hi (H.at_ _ (by omega)) (H.free _)).mono fun e w' ⟨he,hw⟩=>by
  subst hw
  exact⟨he,(H.set (i / 8) _ (by omega)).drew,((Kept.refl _ _).set _ _).drew⟩
def LU(c:(Nat->Int)×Nat)(w)(b:Nat)(H:cU w b c.1 c.2)(q:c.2<136)(T:aB w):
 Calls yP 27 #[pV (some ⟨b,0,none⟩)] w fun e w'=>e=rV (sV (tz c))/\Below w.heap.size w w':=by
 obtain⟨a,t⟩:=c;have h3:=T.size;have u:yH (tz (a,t)=uy (wA (ny (ny a t 1) 135 128))):=rfl;simp only at H q;go_enter func27,ntmps27
 go_wp2_with fail
 refine(So a t _ b H).mono ?_;rintro e w1 ⟨rfl,g⟩;have f:cU w1 w.heap.size a t:=by rw[g];exact⟨UG _ _⟩
 have d:Below w.heap.size w w1:=by rw[g];exact((Un _ _).alloc (Ug _) _).drew
 have p:=T.below d;have x:=aa f;have s:=aa d;have D:=aa p;have l:=aa h3;have c1:=f.taken;clear g f d p H T h3;generalize hv:w.heap.size=v at*;go_wp2_with fail
 refine(It a t t 1 q (by omega) _ v x.o).mono ?_;rintro e w2 ⟨rfl,h,m⟩;have y:=aa h;have B:=aa m;clear h m c1;go_wp2_with fail
 refine(It _ t 135 128 (by omega) (by omega) _ v y.o).mono ?_;rintro e w3 ⟨rfl,i,n⟩;have z:=aa i;have k:=aa (B.o.trans n);clear i n;go_wp2_with fail
 refine(FU _ t _ v z.o (D.o.kept k.o l.o) l.o).mono ?_;rintro e w4 ⟨rfl,j,o⟩;have A:=aa j;have C:=aa (k.o.trans o);clear j o;go_wp2_with fail
 refine(Ri _ t _ v A.o).mono ?_;rintro e w5 ⟨rfl,r⟩;go_wp2_with fail
 go_ret
 refine⟨by rw[u.o];rfl,?_⟩;have h4:=C.o;have h1:=s.o;exact Jz hv h1 h4 r
def ja(s:yB)(hs:s.size<=maxLen)(w)(T:aB w):
 Calls yP 16 #[sV s] w fun e w'=>e=rV (sV (ag s))/\Below w.heap.size w w':=by
 have h3:=T.size;have n:yH (ag s=tz (ju tA s.data.toList)):=rfl;have k:(ju tA s.data.toList).2<136:=Cp _ _ (by decide);have q:=aa k;clear k;go_enter func16,ntmps16
 go_wp2_with fail
 refine(PE _).mono ?_;rintro e w1 ⟨rfl,b⟩;have c:cU w1 w.heap.size ya 0:=by rw[b];exact⟨UG _ _⟩
 have a:Below w.heap.size w w1:=by rw[b];exact(Un _ _).alloc (Ug _) _
 have j:=T.below a;have o:=aa c;have m:=aa a;have g:=aa j;have h:=aa h3;clear b c a j T h3;generalize hv:w.heap.size=v at*;go_wp2_with fail
 refine(Kk tA s hs _ v o.o (by decide) g.o h.o).mono ?_;rintro e w2 ⟨rfl,d,i⟩;have p:=aa d;have f:=aa i;clear d i;generalize ju tA s.data.toList=st at*;go_wp2_with fail
 refine(LU st _ v p.o q.o (g.o.kept f.o h.o)).mono ?_;rintro e w5 ⟨rfl,l⟩;go_wp2_with fail
 go_ret
 refine⟨by rw[n.o];rfl,?_⟩;have h4:=f.o;have h1:=m.o;exact Jz hv h1 h4 l
def eg{w W:World}(h:yW w W){a v}(b:w.cell? a=some v):W.cell? a=some v:=
 (Uz (h.block a.block (UE w _ b))).trans b
def Q3:(yP.info? 9).map (fun i=>(i.zero,i.size,i.bytes))=some (some (sV ⟨#[]⟩),1,16):=by kernel_rfl
def Fg{w:World}{base e a g n cap k b}(h:w.ownsRow base e a (lV (qA g) n cap) n b)(i:k<=n):w.ownsRow base e a (lV (qA g) k cap) k (b.take (k*a)):=by
 have p:=h.1;have q:k*a<=n*a:=Nat.mul_le_mul_right _ i;refine⟨by rw[UN];omega,?_⟩;rcases h.2 with⟨h0,_⟩|⟨o,m,c,e1,d,f,r,j,hs,l⟩
 ·cases h0
 ·cases e1
  refine .inr ⟨g,cap,c,rfl,d,f,by omega,j,hs,?_⟩;rw[<-l,List.take_take];congr 1;omega
def fK(a:List (yB×yB)):List Value:=a.flatMap fun p=>[Value.string p.1,Value.string p.2]
def zy(a b):fK (a++b)=fK a++fK b:=by simp[fK]
def tQ:∀(a:List (yB×yB)) (k:Nat) (p:yB×yB),a[k]? =some p->(fK a)[k*2]? =some (sV p.1)/\(fK a)[k*2+1]? =some (sV p.2)
 | [],k,p,h=>by simp at h
 |q::t,0,p,h=>by simp at h;subst h;exact⟨rfl,rfl⟩
 |q::t,k+1,p,h=>by
  have:=tQ t k p (by simpa using h)
  exact⟨by rw[show(k+1)*2=k*2+2 by omega];exact this.1,by rw[show(k+1)*2+1=k*2+1+2 by omega];exact this.2⟩
def cD(a b:yB):Bool:=Op.bytesLess a.toList b.toList
def aZ:List (yB×yB)->yB->Nat
 | [],_=>0
 |p::t,h=>if cD p.1 h then aZ t h+1 else 0
def tO:∀(a) (h),aZ a h<=a.length
 | [],_=>Ug _
 |p::t,h=>by
  unfold aZ
  have:=tO t h
  simp only[UJ]
  split<;>omega
def vC(w:World)(x y t){n}(b:n=w.heap.size):∀j u,[x,y][j]? =some u->(w.alloc (.cells #[x,y] t)).cell? ((⟨n,0,none⟩:Addr).add j)=some u:=by
 subst b;intro j u c;have a:(⟨w.heap.size,0,none⟩:Addr).add j=⟨w.heap.size,j,none⟩:=by unfold Addr.add;split<;>simp_all
 rw[a,Ur _ _ j _ _ _ (UG w _)];show([x,y].toArray)[j]? =some u;rw[Vu];exact c
def others(a:List (yB×yB))(h:yB):List (yB×yB):=a.filter fun p=>!(p.1.toList == h.toList)
def OR(a:List (yB×yB))(h)(i:Nat)(p:yB×yB)(b:a[i]? =some p):others (a.take (i+1)) h=others (a.take i) h++(if(p.1.toList == h.toList) then [] else [p]):=by
 unfold others;rw[VF,b,VO];cases hb:(p.1.toList == h.toList)<;>simp[hb]
def oW(a h):(others a h).length<=a.length:=List.length_filter_le _ _
def qV(a:List (yB×yB))(h:yB):Prop:=∀(i j:Nat) (p q:yB×yB),i<=j->a[i]? =some p->a[j]? =some q->cD q.1 h=true->cD p.1 h=true
def EL:∀(a:List (yB×yB)) (h) (k:Nat),k<=a.length->(∀j p,j<k->a[j]? =some p->cD p.1 h=true)->(∀p,a[k]? =some p->cD p.1 h=false)->aZ a h=k
 | [],h,k,hk,_,_=>by simp at hk;subst hk;rfl
 |p::t,h,0,_,_,h2=>by
  have:=h2 p rfl
  unfold aZ
  rw[this];rfl
 |p::t,h,k+1,hk,h1,h2=>by
  have e:=h1 0 p (by omega) rfl
  have:=EL t h k (by simpa using hk) (fun j q c b=>h1 (j+1) q (by omega) (by simpa using b)) (fun q b=>h2 q (by simpa using b))
  unfold aZ
  rw[e,Uj rfl,this]
def ew(a:List (yB×yB))(h:yB):Bool:=match a[aZ a h]? with
 |some p=>p.1.toList == h.toList
 |none=>false
structure sF(w:World)(b c:Nat)(a:Option Addr)(cap:Nat)(ps:List (yB×yB)):Prop where
 cell:w.cell? ⟨b,c,none⟩=some (lV a ps.length cap)
 at_:∀(k:Nat) (p:yB×yB),ps[k]? =some p->∃g,a=some ⟨g,0,none⟩/\w.cell? ⟨g,k*2,none⟩=some (sV p.1)/\w.cell? ⟨g,k*2+1,none⟩=some (sV p.2)
def yV(w)(b:Nat)(h:yB)(hs:0<h.size)(a)(cap:Nat)(d)(S:sF w b (h[0]'hs).toNat a cap d)(F:qV d h)(V:d.length<4200000000000):
 yC 118 #[pV (qA b),sV h] w fun e w'=>e=rV (tV #[i6 (aZ d h),bV (ew d h)])/\∃n,w'=w.drewN n:=by
 have c0:=S.cell;have R:(h[0]'hs).toNat<256:=(h[0]'hs).toNat_lt;have x:yH (∀k (_:k<d.length),∃p g,a=some ⟨g,0,none⟩/\yc w g (k*2) (sV p)/\(∃q,d[k]? =some (p,q))):=fun k L=>by
  have i:d[k]? =some d[k]:=Uh L;obtain⟨g,e,c,_⟩:=S.at_ k _ i;exact⟨_,g,e,c,_,i⟩
 have W:(0:Int)<(h.size:Int):=by omega
 clear S;generalize hN:d.length=N at*;generalize hcc:(h[0]'hs).toNat=C at*;have T:(C:Int)<256:=by omega
 go_enter func118,ntmps118
 go_wp2
 go_region
 go_wp2
 go_loopg [7,8] N (fun g u v wr=>∃lo hi:Nat,g=hi - lo/\lo<=hi/\hi<=N/\u=i6 lo/\v=i6 hi/\yH (∀(j:Nat) (p:yB×yB),j<lo->d[j]? =some p->cD p.1 h=true)/\yH (∀(j:Nat) (p:yB×yB),hi<=j->d[j]? =some p->cD p.1 h=false)/\wr=w.drew)
 case atStart=>exact⟨0,N,by omega,by omega,by omega,rfl,rfl,fun j p o=>by omega,fun j p o i=>by have:=(Ux.1 i).1;omega,rfl⟩
 case round=>
  obtain⟨lo,hi,G,h1,h2,rfl,rfl,A,z,rfl⟩:=hrel;have y:=aa G;clear G;by_cases U:lo<hi
  ·obtain⟨M,E⟩:=yX (lo+(hi - lo) / 2)
   have Q:(lo:Int)+((hi:Int) - (lo:Int)) / 2=(M:Int):=by omega
   have K:lo<=M:=by omega
   have P:M<hi:=by omega
   obtain⟨p,g,rfl,c1,q,f⟩:=x.o M (by omega);have J:(lo:Int)<(hi:Int):=by omega
   have D:(M:Int)<(N:Int):=by omega
   cases hls:Op.bytesLess p.toList h.toList
   ·have H:yH (∀(j:Nat) (p:yB×yB),M<=j->d[j]? =some p->cD p.1 h=false):=fun j r o t=>by
     cases hx:cD r.1 h with
     |false=>rfl
     |true=>exact absurd (F M j (p,q) r o f t hx) (by unfold cD;rw[hls];decide)
    clear E f;go_wp2
    go_roundg (M - lo)
    case measure=>have:=y.o;omega
    case rel=>exact⟨lo,M,rfl,K,by omega,rfl,rfl,A,H,rfl⟩
   ·have I:yH (∀(j:Nat) (p:yB×yB),j<M+1->d[j]? =some p->cD p.1 h=true):=fun j r o t=>F j M r (p,q) (by omega) t f hls
    clear E f;go_wp2
    go_roundg (hi - (M+1))
    case measure=>have:=y.o;omega
    case rel=>exact⟨M+1,hi,rfl,by omega,h2,by go_num,rfl,I,z,rfl⟩
  ·obtain rfl:lo=hi:=by omega
   have J:¬(lo:Int)<(lo:Int):=by omega
   have m:aZ d h=lo:=EL d h lo (by omega) A.o (fun p i=>z.o lo p (Ug _) i);have B:=aa m;by_cases O:lo<N
   ·obtain⟨p,g,rfl,c1,q,f⟩:=x.o lo O;have l:ew d h=(p.toList == h.toList):=by unfold ew;rw[m,f]
    have s:=aa l;have D:(lo:Int)<(N:Int):=by omega
    clear m l f;go_wp2
    go_region
    go_wp2
    go_ret2
    exact⟨by rw[B.o,s.o];rfl,2,rfl⟩
   ·have l:ew d h=false:=by
     unfold ew;rw[m,U9 (by omega)]
    have s:=aa l;have D:¬(lo:Int)<(N:Int):=by omega
    clear m l;go_wp2
    go_region
    go_wp2
    go_ret2
    exact⟨by rw[B.o,s.o];rfl,2,rfl⟩
inductive Nd where
 |nil
 |unread (h:yL)
 |leaf (h p v:yL)
 |ext (h p:yL) (k:Nd)
 |branch (h v:yL) (ks:Nat->Nd)
def Nd.hash:Nd->yL
 | .nil=>[]
 | .unread h=>h
 | .leaf h _ _=>h
 | .ext h _ _=>h
 | .branch h _ _=>h
def Nd.path:Nd->yL
 | .leaf _ p _=>p
 | .ext _ p _=>p
 | _=>[]
def Nd.value:Nd->yL
 | .leaf _ _ v=>v
 | .branch _ v _=>v
 | _=>[]
def Nd.kind:Nd->Nat
 | .leaf _ _ _=>1
 | .ext _ _ _=>2
 | .branch _ _ _=>3
 | _=>0
def Nd.some:Nd->Prop
 | .nil=>False
 | _=>True
def Nd.read:Nd->Prop
 | .nil=>False
 | .unread _=>False
 | _=>True
def Nd.gY(h:yL):Nd->Nd
 | .nil=>.nil
 | .unread _=>.unread h
 | .leaf _ p v=>.leaf h p v
 | .ext _ p k=>.ext h p k
 | .branch _ v ks=>.branch h v ks
def fe(l:yL):yL:=(ag (ae l)).data.toList
def kE(l):(fe l).length=32:=by
 unfold fe;have:(ag (ae l)).data.toList.length=(ag (ae l)).size:=by simp
 rw[this];exact dz _
def mX(l):ae (fe l)=ag (ae l):=gA _
def ko(n:Nd)(a:Tree):Tree:=match n with
 | .nil=>ak []
 |n=>if n.hash=[] then a else ak n.hash
def Nd.item:Nd->Tree
 | .leaf _ p v=>bJ [ak (cR p true),ak v]
 | .ext _ p k=>bJ [ak (cR p false),ko k k.item]
 | .branch _ v ks=>bJ ((List.range 16).map (fun i=>ko (ks i) (ks i).item)++[ak v])
 | _=>bJ [ak (cR [] false),ak []]
def Nd.ref(n:Nd):Tree:=ko n n.item
def Nd.code(n:Nd):yL:=bu 6 n.item
def fX(c:yL):yL:=if 32<=c.length then fe c else []
def Nd.mk(n:Nd):Nd:=n.gY (fX n.code)
def QX(h)(n:Nd):(n.gY h).item=n.item:=by cases n<;>rfl
def Jd(h)(n:Nd):(n.gY h).code=n.code:=by unfold Nd.code;rw[QX]
def fG(k:Int)(h p v:yB)(a:Value)(b:Nat->Value):Array Value:=
 ([iV .i64 k,sV h,sV p,sV v,a]++(List.range 16).map b).toArray
def rK(k:Int)(h p v a b):(fG k h p v a b).size=21:=by simp[fG]
def tY(k:Int)(h p v b a)(i:Nat)(hi:i<16):(fG k h p v b a)[5+i]? =some (a i):=by
 unfold fG;rw[Vu,Vf (by simp)];simp[hi]
def cN:Value:=pV none
def ptr(b:Nat):Value:=pV (qA b)
def bU(w:World)(b:Nat)(t:Nd)(a:Value)(c:Nat->Value):Prop:=
 w.heap[b]? =some (.cells (fG t.kind (ae t.hash) (ae t.path) (ae t.value) a c) 133 (0,0))
def At(w:World):Nd->(Nat->Prop)->Value->Prop
 | .nil,_,p=>p=pV none
 | .unread h,S,p=>∃b,p=ptr b/\S b/\bU w b (.unread h) cN (fun _=>cN)
 | .leaf h q v,S,p=>∃b,p=ptr b/\S b/\bU w b (.leaf h q v) cN (fun _=>cN)
 | .ext h q k,S,p=>∃(b:Nat) (c:Value) (S':Nat->Prop),p=ptr b/\S b/\bU w b (.ext h q k) c (fun _=>cN)/\(∀x,S' x->S x/\x≠b)/\At w k S' c
 | .branch h v ks,S,p=>∃(b:Nat) (d:Nat->Value) (a:Nat->Nat->Prop),p=ptr b/\S b/\bU w b (.branch h v ks) cN d/\(∀i x,i<16->a i x->S x/\x≠b)/\
  (∀i j x,i<16->j<16->a i x->a j x->i=j)/\∀i,i<16->At w (ks i) (a i) (d i)
def At.mono{w}:∀{t S S' p},At w t S p->(∀x,S x->S' x)->At w t S' p
 | .nil,_,_,_,h,_=>h
 | .unread _,_,_,_,⟨b,e,s,k⟩,hs=>⟨b,e,hs b s,k⟩
 | .leaf _ _ _,_,_,_,⟨b,e,s,k⟩,hs=>⟨b,e,hs b s,k⟩
 | .ext _ _ _,_,_,_,⟨b,kp,S1,e,s,k,h1,h2⟩,hs=>⟨b,kp,S1,e,hs b s,k,fun x a=>⟨hs x (h1 x a).1,(h1 x a).2⟩,h2⟩
 | .branch _ _ _,_,_,_,⟨b,kps,Ss,e,s,k,h1,h2,h3⟩,hs=>⟨b,kps,Ss,e,hs b s,k,fun i x hi a=>⟨hs x (h1 i x hi a).1,(h1 i x hi a).2⟩,h2,h3⟩
def At.kept{w w':World}:∀{t S p},At w t S p->(∀x,S x->x<w.heap.size->w'.heap[x]? =w.heap[x]?)->At w' t S p:=by
 have lt:∀{b:Nat} {t:Nd} {k:Value} {ks:Nat->Value},bU w b t k ks->b<w.heap.size:=fun h=>(Um.1 h).1
 intro t;induction t with
 |nil=>intro S p h _;exact h
 |unread x=>intro S p ⟨b,e,s,k⟩ hs;exact⟨b,e,s,(hs b s (lt k)).trans k⟩
 |leaf x y z=>intro S p ⟨b,e,s,k⟩ hs;exact⟨b,e,s,(hs b s (lt k)).trans k⟩
 |ext x y z ih=>
  intro S p ⟨b,f,c,e,s,k,h1,h2⟩ hs;exact⟨b,f,c,e,s,(hs b s (lt k)).trans k,h1,ih h2 fun x a=>hs x (h1 x a).1⟩
 |branch x y z ih=>
  intro S p ⟨b,g,d,e,s,k,h1,h2,h3⟩ hs;exact⟨b,g,d,e,s,(hs b s (lt k)).trans k,h1,h2,fun i hi=>ih i (h3 i hi) fun x a=>hs x (h1 i x hi a).1⟩
def At.below{w w' t S p}(h:At w t S p)(k:yW w w'):At w' t S p:=h.kept fun x _ a=>k.block x a
def At.cut{w}:∀{t S p},At w t S p->At w t (fun x=>S x/\x<w.heap.size) p:=by
 have lt:∀{b:Nat} {t:Nd} {k:Value} {ks:Nat->Value},bU w b t k ks->b<w.heap.size:=fun h=>(Um.1 h).1
 intro t;induction t with
 |nil=>intro S p h;exact h
 |unread x=>intro S p ⟨b,e,s,k⟩;exact⟨b,e,⟨s,lt k⟩,k⟩
 |leaf x y z=>intro S p ⟨b,e,s,k⟩;exact⟨b,e,⟨s,lt k⟩,k⟩
 |ext x y z ih=>
  intro S p ⟨b,f,l,e,s,k,h1,h2⟩;exact⟨b,f,_,e,⟨s,lt k⟩,k,fun x a=>⟨⟨(h1 x a.1).1,a.2⟩,(h1 x a.1).2⟩,ih h2⟩
 |branch x y z ih=>
  intro S p ⟨b,g,c,e,s,k,h1,h2,h3⟩;exact⟨b,g,fun i x=>c i x/\x<w.heap.size,e,⟨s,lt k⟩,k,fun i x hi a=>⟨⟨(h1 i x hi a.1).1,a.2⟩,(h1 i x hi a.1).2⟩,fun i j x hi d h4 h5=>h2 i j x hi d h4.1 h5.1,fun i hi=>ih i (h3 i hi)⟩
def At.ai{w t S p}(h:At w t S p)(a:t.some):∃b kid kids,p=ptr b/\S b/\bU w b t kid kids:=by
 cases t with
 |nil=>exact a.elim
 |unread _=>let⟨b,e,s,k⟩:=h;exact⟨b,_,_,e,s,k⟩
 |leaf _ _ _=>let⟨b,e,s,k⟩:=h;exact⟨b,_,_,e,s,k⟩
 |ext _ _ _=>let⟨b,c,_,e,s,k,_⟩:=h;exact⟨b,_,_,e,s,k⟩
 |branch _ _ _=>let⟨b,d,_,e,s,k,_⟩:=h;exact⟨b,_,_,e,s,k⟩
def bU.lt{w b t a c}(h:bU w b t a c):b<w.heap.size:=(Um.1 h).1
def bU.c0{w b t a c}(h:bU w b t a c):w.cell? ⟨b,0,none⟩=some (i6 t.kind):=by rw[Ur w b 0 _ _ _ h];rfl
def bU.c1{w b t a c}(h:bU w b t a c):w.cell? ⟨b,1,none⟩=some (sV (ae t.hash)):=by rw[Ur w b 1 _ _ _ h];rfl
def bU.c2{w b t a c}(h:bU w b t a c):w.cell? ⟨b,2,none⟩=some (sV (ae t.path)):=by rw[Ur w b 2 _ _ _ h];rfl
def bU.c3{w b t a c}(h:bU w b t a c):w.cell? ⟨b,3,none⟩=some (sV (ae t.value)):=by rw[Ur w b 3 _ _ _ h];rfl
def bU.c4{w b t a c}(h:bU w b t a c):w.cell? ⟨b,4,none⟩=some a:=by rw[Ur w b 4 _ _ _ h];rfl
def bU.ck{w b t c a}(h:bU w b t c a)(i:Nat)(hi:i<16):w.cell? ⟨b,5+i,none⟩=some (a i):=by rw[Ur w b (5+i) _ _ _ h,tY _ _ _ _ _ _ i hi]
def At.ptr{w t S p}(h:At w t S p):∃u,p=pV u:=by
 cases t with
 |nil=>exact⟨_,h⟩
 |unread _=>let⟨b,e,_⟩:=h;exact⟨_,e⟩
 |leaf _ _ _=>let⟨b,e,_⟩:=h;exact⟨_,e⟩
 |ext _ _ _=>let⟨b,a,_,e,_⟩:=h;exact⟨_,e⟩
 |branch _ _ _=>let⟨b,c,_,e,_⟩:=h;exact⟨_,e⟩
def At.none{w t S p}(h:At w t S p):p=pV none↔t=.nil:=by
 constructor
 ·intro e;cases t with
  |nil=>rfl
  |unread _=>let⟨b,e1,_⟩:=h;rw[e] at e1;cases e1
  |leaf _ _ _=>let⟨b,e1,_⟩:=h;rw[e] at e1;cases e1
  |ext _ _ _=>let⟨b,a,_,e1,_⟩:=h;rw[e] at e1;cases e1
  |branch _ _ _=>let⟨b,c,_,e1,_⟩:=h;rw[e] at e1;cases e1
 ·intro e;subst e;exact h
def cz(p:Value)(r:yB)(d:Nat)(bl:Bool):Value:=gV #[p,sV r,iV .i64 (d:Int),bV bl]
def Cq{w w1:World}{x y z u T}(a:Below (w.alloc (.cells #[x,y,z,u] T)).heap.size (w.alloc (.cells #[x,y,z,u] T)) w1):
 (w1.cell? ⟨w.heap.size,0,none⟩=some x/\w1.cell? ⟨w.heap.size,1,none⟩=some y/\w1.cell? ⟨w.heap.size,2,none⟩=some z/\w1.cell? ⟨w.heap.size,3,none⟩=some u)/\(w1.frozen? ⟨w.heap.size,0,none⟩=false/\w1.frozen? ⟨w.heap.size,1,none⟩=false/\w1.frozen? ⟨w.heap.size,2,none⟩=false/\w1.frozen? ⟨w.heap.size,3,none⟩=false)/\yW w w1:=by
 obtain⟨h1,h2⟩:=sA a;refine⟨⟨?_,?_,?_,?_⟩,⟨?_,?_,?_,?_⟩,((Un w.heap.size w).alloc (Ug _) _).trans (a.mono (by simp))⟩
 ·rw[h1 _ _ (by simp)];simp
 ·rw[h1 _ _ (by simp)];simp
 ·rw[h1 _ _ (by simp)];simp
 ·rw[h1 _ _ (by simp)];simp
 ·rw[h2 _ _ (by simp)];simp
 ·rw[h2 _ _ (by simp)];simp
 ·rw[h2 _ _ (by simp)];simp
 ·rw[h2 _ _ (by simp)];simp
def Tt{n w w1}(h:Below n w w1)(a b c d):Below n w ((((w1.setCell ⟨n,0,none⟩ a).setCell ⟨n,1,none⟩ b).setCell ⟨n,2,none⟩ c).setCell ⟨n,3,none⟩ d):=
 (((h.setCell (Ug _) _).setCell (Ug _) _).setCell (Ug _) _).setCell (Ug _) _
def vJ(u:Option Addr)(s:yB)(hs:s.size<=4096)(w:World):
 yC 38 #[pV u,sV s] w fun e w'=>e=rV (cz (pV u) (ae (ch s.data.toList)) 0 false)/\yW w w':=by
 have d:=aa (ES s hs);go_enter func38,ntmps38
 go_wp2_with fail
 refine(d.o _).mono ?_;rintro e w1 ⟨rfl,a⟩;obtain⟨⟨c0,c1,c2,c3⟩,⟨f0,f1,f2,f3⟩,b⟩:=Cq a;have c:=aa b;clear a b;generalize hR:ae (ch s.data.toList)=R at*;have f:=aa hR;clear hR;go_wp2
 exact UB (v:=cz (pV u) R 0 false) (by simp[results,results38,go_sem,cz,c0,c1,c2,c3]) rfl ⟨by rw[f.o],Tt c.o _ _ _ _⟩
def Nd.at(t:Nd)(r:yL):yL:=if t.kind≠2/\r=t.path then t.value else []
def Lc(r:yB)(d:Nat)(bl:Bool)(w:World):
 yC 64 #[cz (pV none) r d bl] w fun e w'=>e=rV (sV ⟨#[]⟩)/\yW w w':=by
 unfold cz;go_enter func64,ntmps64
 go_wp2
 go_ret
 exact⟨rfl,(Un _ _).alloc (Ug _) _⟩
def Below.drewN{n w w1}(h:Below n w w1)(m:Nat):Below n w (w1.drewN m):=⟨h.os,h.tape,h.output,h.size,h.block⟩
def pX(a b):((ae a).toList == (ae b).toList)=decide (a=b):=by
 rw[ByteArray.toList_eq,ByteArray.toList_eq,eU,eU];by_cases h:a=b
 ·subst h;simp
 ·simp[h]
def ke(a):((ae a).toList.isEmpty)=decide (a=[]):=by
 rw[ByteArray.toList_eq,eU];cases a<;>simp
def Lf(b:Nat)(t n o)(r:yL)(d:Nat)(bl:Bool)(w)(B:bU w b t n o):
 yC 64 #[cz (pV (qA b)) (ae r) d bl] w fun e w'=>e=rV (sV (ae (t.at r)))/\yW w w':=by
 have c0:=B.c0;have c2:=B.c2;have c3:=B.c3;have k:=B.lt;obtain⟨V,j⟩:=yX (t.at r)
 rw[<-j];have i:=aa j;unfold cz;clear B j;have f:yW w (w.alloc (.cells #[pV (qA b),sV (ae r),i6 (d:Int),bV bl] 83)):=(Un _ _).alloc (Ug _) _;have g:=aa f;have l:=(f.cell (p:=⟨b,0,none⟩) k).trans c0;have q:=(f.cell (p:=⟨b,2,none⟩) k).trans c2;have s:=(f.cell (p:=⟨b,3,none⟩) k).trans c3;clear c0 c2 c3 f;by_cases h2:t.kind=2
 ·have c:yH (V=[]):=by show _=_;rw[i.o];unfold Nd.at;rw[Ui (fun h=>h.1 h2)]
  rw[h2] at l;have m:((((2:Nat):Int)) != 2)=false:=rfl;go_enter func64,ntmps64
  go_wp2
  go_quiet (fail)
  go_wp2
  go_ret
  exact⟨by rw[c.o];rfl,Below.drewN g.o _⟩
 ·have m:(((t.kind:Nat):Int) != 2)=true:=by simp;omega
  have hs:=pX r t.path;by_cases a:r=t.path
  ·have c:yH (V=t.value):=by show _=_;rw[i.o];unfold Nd.at;rw[Uj ⟨h2,a⟩]
   rw[Uw a] at hs;clear a;generalize t.path=P at*;generalize t.kind=K at*;generalize hvv:t.value=VV at*;generalize ae r=R at*;generalize ae P=PP at*;go_enter func64,ntmps64
   go_wp2
   go_quiet (fail)
   go_wp2
   go_ret
   exact⟨by rw[c.o];rfl,Below.drewN g.o _⟩
  ·have c:yH (V=[]):=by show _=_;rw[i.o];unfold Nd.at;rw[Ui (fun h=>a h.2)]
   rw[Uv a] at hs;clear a;generalize t.path=P at*;generalize t.kind=K at*;generalize ae r=R at*;generalize ae P=PP at*;go_enter func64,ntmps64
   go_wp2
   go_quiet (fail)
   go_wp2
   go_ret
   exact⟨by rw[c.o];rfl,Below.drewN g.o _⟩
def wN(b:Nat)(h v)(ks:Nat->Nd)(q l)(c:UInt8)(r:yL)(o:c.toNat<16)(u)(j:l c.toNat=pV u)(p:r.length<4096)(d:Nat)(x:d<4096)(bl:Bool)(w)(B:bU w b (.branch h v ks) q l):
 yC 72 #[cz (pV (qA b)) (ae (c::r)) d bl] w fun e w'=>e=rV (cz (pV u) (ae r) (d+1) false)/\yW w w':=by
 have c0:=B.c0;have s:w.cell? ⟨b,5+c.toNat,none⟩=some (pV u):=by rw[B.ck _ o,j]
 have z:=B.lt;obtain⟨R,a⟩:=yX (ae (c::r))
 have i:R.size=r.length+1:=by rw[a,aN];rfl
 have g:0<R.size:=by omega
 have h0:R[0]'g=c:=by subst a;rfl
 have k:R.extract 1 R.size=ae r:=by
  subst a;apply Go.WideShapes.bytes_inj;rw[Lib.extract_data,eU,eU];exact U4 (by rw[i];simp)
 have y:R.toList.isEmpty=false:=by rw[a,ke];simp
 have m:=aa k;have A:(0:Int)<(R.size:Int):=by omega
 have C:=g;have n:=qK c;have f:lo c=c:=by apply l9;rw[rQ];omega
 rw[f] at n;have t:(c.toNat:Int)<16:=by omega
 rw[<-a];unfold cz;clear B a i k f j p;go_enter func72,ntmps72
 go_wp2
 go_region
 all_goals
  go_wp2
  exact UB (v:=cz (pV u) (R.extract 1 R.size) (d+1) false) (by simp[results,results72,go_sem,cz]) rfl ⟨by rw[m.o];rfl,(((Un _ _).alloc (Ug _) _).alloc (by simp) _).drew⟩
def nG:Nd->Prop
 | .nil=>True
 | .unread h=>h.length=32
 | .leaf h p v=>(h=[]\/h.length=32)/\aw p/\p.length<=80/\v.length<=160
 | .ext h p k=>(h=[]\/h.length=32)/\aw p/\p.length<=80/\nG k
 | .branch h v ks=>(h=[]\/h.length=32)/\v.length<=160/\∀i,i<16->nG (ks i)
def pM(d:Nat)(w:World)(x:Tree)(e:Ending)(w':World):Prop:=
 ∃l t a m c,e=rV (gV #[bV l,sV t,lV a m c])/\bg d w' (fun b=>w.heap.size<=b) [bV l,sV t,lV a m c] x/\yW w w'
def u9(t:Nd):Prop:=∀(w:World) (S:Nat->Prop) (p:Value) (d:Nat),At w t S p->nG t->t.read->bN d t.item=true->yC 113 #[p] w (pM d w t.item)
def BN(t:Nd):Prop:=∀(w:World) (S:Nat->Prop) (p:Value) (d:Nat),At w t S p->nG t->bN d t.ref=true->yC 145 #[p] w (pM d w t.ref)
def Ng(w)(d:Nat):yC 145 #[pV none] w (pM d w (ak [])):=by
 go_enter func145,ntmps145
 go_wp2
 exact UB (v:=gV #[bV false,sV ⟨#[]⟩,lV none 0 0]) (by simp[results,results145,go_sem]) rfl ⟨false,⟨#[]⟩,none,0,0,rfl,nw d _ _ ⟨#[]⟩ _ (by decide),(Un _ _).alloc (Ug _) _⟩
def vW(w)(b:Nat)(t e f)(d:Nat)(B:bU w b t e f)(a:t.hash≠[])(h:t.hash.length<=4096):yC 145 #[pV (qA b)] w (pM d w (ak t.hash)):=by
 have c1:=B.c1;have i:=B.lt;have g:(ae t.hash).toList.isEmpty=false:=by rw[ke];simp[a]
 have c:yH (∀W S,bg d W S [bV false,sV (ae t.hash),lV none 0 0] (ak t.hash)):=fun W S=>by
  have:=nw d W S (ae t.hash) (lV none 0 0) (by rw[aN];omega);rw[eU] at this;exact this
 clear B a;generalize ae t.hash=H at*;generalize ak t.hash=X at*;go_enter func145,ntmps145
 go_wp2
 exact UB (v:=gV #[bV false,sV H,lV none 0 0]) (by simp[results,results145,go_sem]) rfl ⟨false,H,none,0,0,rfl,c.o _ _,(Un _ _).alloc (Ug _) _⟩
def zk(w)(b:Nat)(t p r)(d:Nat)(x:Tree)(B:bU w b t p r)(h:t.hash=[])
 (hi:∀W,yW w W->yC 113 #[pV (qA b)] W (pM d W x)):yC 145 #[pV (qA b)] w (pM d w x):=by
 have c1:=B.c1;have u:=B.lt;have s:(ae t.hash).toList.isEmpty=true:=by rw[ke];simp[h]
 have k:yH (yC 113 #[pV (qA b)] (w.alloc (.cells #[bV false,sV ⟨#[]⟩,lV none 0 0] 120)) (pM d (w.alloc (.cells #[bV false,sV ⟨#[]⟩,lV none 0 0] 120)) x)):=hi _ ((Un _ _).alloc (Ug _) _);clear B h hi;generalize ae t.hash=H at*;go_enter func145,ntmps145
 go_wp2_with fail
 refine k.m ?_;rintro e w1 ⟨l,t1,a,m,c,rfl,i,g⟩;obtain⟨k0,k1,k2,f0,f1,f2⟩:=iB g;have j:=aa (((Un w.heap.size w).alloc (Ug _) _).trans (g.mono (by simp)));have n:yH (∀W:World,(∀q,q≠w.heap.size->W.heap[q]? =w1.heap[q]?)->bg d W (fun q=>w.heap.size<=q) [bV l,sV t1,lV a m c] x):=fun W o=>
  bg.move (fun q f _=>⟨by have:w.heap.size+1<=q:=(by simpa using f);omega,o q (by have:w.heap.size+1<=q:=(by simpa using f);omega)⟩) d _ _ i
 clear i g;go_wp2
 exact UB (v:=gV #[bV l,sV t1,lV a m c]) (by simp[results,results145,go_sem,k0,k1,k2]) rfl ⟨l,t1,a,m,c,rfl,n.o _ (fun q f=>by simp[Uy,f]),sy j.o _ _ _⟩
def rq(t)(l:u9 t):BN t:=by
 intro w S p d g c f;cases t with
 |nil=>cases g;exact Ng w d
 |unread h=>
  obtain⟨b,rfl,_,B⟩:=g;have a:h≠[]:=fun e=>by subst e;cases c
  have e:(Nd.unread h).ref=ak h:=by unfold Nd.ref ko;exact Ui a
  rw[e];exact vW w b _ _ _ d B a (by show h.length<=4096;rw[show h.length=32 from c];omega)
 |leaf h q v=>
  obtain⟨b,rfl,hs,B⟩:=g;by_cases a:h=[]
  ·have e:(Nd.leaf h q v).ref=(Nd.leaf h q v).item:=by unfold Nd.ref ko;exact Uj a
   rw[e] at f⊢;exact zk w b _ _ _ d _ B a fun W i=>l W S _ d (At.below (t:=.leaf h q v) ⟨b,rfl,hs,B⟩ i) c trivial f
  ·have e:(Nd.leaf h q v).ref=ak h:=by unfold Nd.ref ko;exact Ui a
   rw[e];exact vW w b _ _ _ d B a (by rcases c.1 with h1|h1;exact absurd h1 a;show h.length<=4096;omega)
 |ext h q k=>
  obtain⟨b,o,m,rfl,hs,B,j⟩:=g;by_cases a:h=[]
  ·have e:(Nd.ext h q k).ref=(Nd.ext h q k).item:=by unfold Nd.ref ko;exact Uj a
   rw[e] at f⊢;exact zk w b _ _ _ d _ B a fun W i=>l W S _ d (At.below (t:=.ext h q k) ⟨b,o,m,rfl,hs,B,j⟩ i) c trivial f
  ·have e:(Nd.ext h q k).ref=ak h:=by unfold Nd.ref ko;exact Ui a
   rw[e];exact vW w b _ _ _ d B a (by rcases c.1 with h1|h1;exact absurd h1 a;show h.length<=4096;omega)
 |branch h v ks=>
  obtain⟨b,r,n,rfl,hs,B,j⟩:=g;by_cases a:h=[]
  ·have e:(Nd.branch h v ks).ref=(Nd.branch h v ks).item:=by unfold Nd.ref ko;exact Uj a
   rw[e] at f⊢;exact zk w b _ _ _ d _ B a fun W i=>l W S _ d (At.below (t:=.branch h v ks) ⟨b,r,n,rfl,hs,B,j⟩ i) c trivial f
  ·have e:(Nd.branch h v ks).ref=ak h:=by unfold Nd.ref ko;exact Ui a
   rw[e];exact vW w b _ _ _ d B a (by rcases c.1 with h1|h1;exact absurd h1 a;show h.length<=4096;omega)
def xO(W:World)(o:Obj)(g:Nat)(h:g=W.heap.size):(W.alloc o).heap[g]? =some o:=by subst h;exact UG _ _
def EZ(e:Nat)(W:World)(S:Nat->Prop)(g:Nat)(a0 a1 a2 b0 b1 b2:Value)(T:TypeId)(a:Nat×Nat)(x y:Tree)(t:yB)
 (b:W.heap[g]? =some (.cells #[a0,a1,a2,b0,b1,b2] T a)) (hs:S g) (c:bg e W S [a0,a1,a2] x) (d:bg e W S [b0,b1,b2] y):
 bg (e+1) W S [bV true,sV t,lV (qA g) 2 2] (bJ [x,y]):=by
 refine xm e W S t _ [x,y] [a0,a1,a2,b0,b1,b2] ⟨rfl,.inr ⟨g,0,2,rfl,hs,fun j f=>?_⟩⟩ (by simp) fun i hi=>?_
 ·rw[Vj,Ur W g j _ _ _ b,Vu]
 ·match i,hi with
  | 0,_=>exact c
  | 1,_=>exact d
def Ix(d:Nat)(x y:Tree)(h:bN d (bJ [x,y])=true):∃e,d=e+1/\bN e x=true/\bN e y=true:=by
 cases d with
 |zero=>rw[AW] at h;cases h
 |succ e=>
  rw[nA] at h;simp at h;exact⟨e,rfl,h.1,h.2⟩
def xk(d:Nat)(w S)(l:yL)(k)(h:l.length<=8192)(a:vg k:=by exact⟨_,_,_,rfl⟩):bg d w S [bV false,sV (ae l),k] (ak l):=by
 have:=nw d w S (ae l) k (by rw[aN];omega) a;rw[eU] at this;exact this
def QY(h q v):u9 (.leaf h q v):=by
 intro w S p d hA hS _ hf;obtain⟨b,rfl,hs,B⟩:=hA;obtain⟨_,hn,hq,hv⟩:=hS;have c0:yc w b 0 (i6 1):=B.c0;have c2:yc w b 2 (sV (ae q)):=B.c2;have c3:yc w b 3 (sV (ae v)):=B.c3;have A1:=B.lt;have HP:yH (∀W:World,yC 146 #[sV (ae q),bV true] W fun e w'=>e=rV (tV #[sV (ae (cR q true)),i6 0])/\yW W w'):=fun W=>by
  have:=Fb (ae q) true (by rw[aN];omega) (by rw[eU];exact hn) W;rw[eU] at this;exact this
 obtain⟨e,rfl,_,_⟩:=Ix d _ _ hf;have HX:yH (∀(W:World) (g:Nat) (S:Nat->Prop) (fr:Nat×Nat),W.heap[g]? =some (.cells #[bV false,sV (ae (cR q true)),lV none 0 0,bV false,sV (ae v),lV none 0 0] 120 fr)->S g->
  bg (e+1) W S [bV true,sV ⟨#[]⟩,lV (qA g) 2 2] (Nd.leaf h q v).item):=fun W g S fr hg hs=>
  EZ e W S g _ _ _ _ _ _ 120 fr _ _ _ hg hs (xk e W S _ _ (by rw[rD];omega)) (xk e W S _ _ (by omega))
 clear B hn hf;unfold ptr;generalize (Nd.leaf h q v).item=X at*;generalize hQ:ae q=Q at*;generalize hVV:ae v=V at*;generalize hPK:ae (cR q true)=PK at*;go_enter func113,ntmps113
 have A2:yH (yW w (w.alloc (.cells #[bV false,sV ⟨#[]⟩,lV none 0 0] 120))):=(Un _ _).alloc (Ug _) _;go_upto_region 9 with fail
 go_cut [5] (fun u wx=>u=sV PK/\Below (w.alloc (.cells #[bV false,sV ⟨#[]⟩,lV none 0 0] 120)).heap.size (w.alloc (.cells #[bV false,sV ⟨#[]⟩,lV none 0 0] 120)) wx)
 case first=>
  go_region_with (go_at_call 146;refine(HP.o _).mono ?_;rintro e1 w1 ⟨rfl,B1⟩)
  all_goals (have A0:yH _:=B1;clear B1;go_wp2_with fail;go_meet;exact⟨rfl,by first|exact A0.o|exact A0.o.drew|exact(Un _ _).drew.trans A0.o⟩)
 case rest=>
  obtain⟨rfl,B1⟩:=hcut;obtain⟨k0,k1,k2,f0,f1,f2⟩:=iB B1;have A0:=aa (A2.o.trans (B1.mono (by simp)));have d0:=(A0.o.cell (p:=⟨b,0,none⟩) A1).trans c0;have d3:=(A0.o.cell (p:=⟨b,3,none⟩) A1).trans c3;have hz:w.heap.size<wc.heap.size:=by have:=B1.size;simp at this;omega
  have A3:b<wc.heap.size:=by omega
  clear B1;go_wp2
  refine UB (v:=gV #[bV true,sV ⟨#[]⟩,lV (some ⟨wc.heap.size+1,0,none⟩) 2 2]) (by simp[results,results113,go_sem,k0,k1,k2,hz]) rfl ⟨true,⟨#[]⟩,_,_,_,rfl,HX.o _ _ _ (0,0) ?_ ?_,?_⟩
  ·exact xO _ _ _ (by simp)
  ·show w.heap.size<=wc.heap.size+1;omega
  ·exact(oB A0.o hz _ _ _ _).alloc (by simp;omega) _
def Q0(h q k)(ih:BN k):u9 (.ext h q k):=by
 intro w S p d hA hS _ hf;obtain⟨b,kp,S1,rfl,hs,B,A9,hK⟩:=hA;obtain⟨_,hn,hq,A3⟩:=hS;have c0:yc w b 0 (i6 2):=B.c0;have c2:yc w b 2 (sV (ae q)):=B.c2;have c3:yc w b 3 (sV ⟨#[]⟩):=B.c3;obtain⟨u,rfl⟩:=hK.ptr;have c4:yc w b 4 (pV u):=B.c4;have A2:=B.lt;have HP:yH (∀W:World,yC 146 #[sV (ae q),bV false] W fun e w'=>e=rV (tV #[sV (ae (cR q false)),i6 0])/\yW W w'):=fun W=>by
  have:=Fb (ae q) false (by rw[aN];omega) (by rw[eU];exact hn) W;rw[eU] at this;exact this
 obtain⟨e,rfl,_,A4⟩:=Ix d _ _ hf;have HK:yH (∀W,yW w W->yC 145 #[pV u] W (pM e W k.ref)):=fun W hW=>ih W S1 _ e (hK.below hW) A3 A4
 have HX:yH (∀(W:World) (g:Nat) (S:Nat->Prop) (fr:Nat×Nat) (b0 b1 b2:Value),W.heap[g]? =some (.cells #[bV false,sV (ae (cR q false)),lV none 0 0,b0,b1,b2] 120 fr)->S g->bg e W S [b0,b1,b2] k.ref->
  bg (e+1) W S [bV true,sV ⟨#[]⟩,lV (qA g) 2 2] (Nd.ext h q k).item):=fun W g S fr b0 b1 b2 hg hs hk=>
  EZ e W S g _ _ _ _ _ _ 120 fr _ _ _ hg hs (xk e W S _ _ (by rw[rD];omega)) hk
 clear B hn hf A4 hK A9 A3;unfold ptr;generalize (Nd.ext h q k).item=X at*;generalize k.ref=Y at*;generalize hQ:ae q=Q at*;generalize hPK:ae (cR q false)=PK at*;go_enter func113,ntmps113
 have A6:yH (yW w (w.alloc (.cells #[bV false,sV ⟨#[]⟩,lV none 0 0] 120))):=(Un _ _).alloc (Ug _) _;go_upto_region 9 with fail
 go_cut [5] (fun u wx=>u=sV PK/\Below (w.alloc (.cells #[bV false,sV ⟨#[]⟩,lV none 0 0] 120)).heap.size (w.alloc (.cells #[bV false,sV ⟨#[]⟩,lV none 0 0] 120)) wx)
 case first=>
  go_region_with (go_at_call 146;refine(HP.o _).mono ?_;rintro e1 w1 ⟨rfl,B1⟩)
  all_goals (have A0:yH _:=B1;clear B1;go_wp2_with fail;go_meet;exact⟨rfl,by first|exact A0.o|exact A0.o.drew|exact(Un _ _).drew.trans A0.o⟩)
 case rest=>
  obtain⟨rfl,B1⟩:=hcut;obtain⟨k0,k1,k2,f0,f1,f2⟩:=iB B1;have A0:=aa (A6.o.trans (B1.mono (by simp)));have d0:=(A0.o.cell (p:=⟨b,0,none⟩) A2).trans c0;have d3:=(A0.o.cell (p:=⟨b,3,none⟩) A2).trans c3;have d4:=(A0.o.cell (p:=⟨b,4,none⟩) A2).trans c4;have hz:w.heap.size<wc.heap.size:=by have:=B1.size;simp at this;omega
  have B2:b<wc.heap.size:=by omega
  clear B1;go_wp2_with fail
  refine(HK.o _ (A0.o.alloc (by omega) _)).mono ?_;rintro e2 w2 ⟨l,t1,a,m,c,rfl,A5,A1⟩;obtain⟨q0,q1,q2,g0,g1,g2,_⟩:=zi hz k0 k1 k2 f0 f1 f2 A1;obtain⟨r0,r1,r2,s0,s1,s2⟩:=iB A1;have A7:=aa ((A0.o.alloc (by omega) _).trans (A1.mono (by simp;omega)));have B5:wc.heap.size<w2.heap.size:=by have:=A1.size;simp at this;omega
  have B0:w.heap.size<w2.heap.size:=by omega
  have B3:wc.heap.size≠w.heap.size:=by omega
  have B4:w.heap.size≠wc.heap.size:=by omega
  have A8:yH (∀W:World,(∀q,wc.heap.size<q->q<w2.heap.size->W.heap[q]? =w2.heap[q]?)->bg e W (fun q=>w.heap.size<=q) [bV l,sV t1,lV a m c] Y):=fun W hW=>
   bg.move (fun q hq A2=>⟨by have:wc.heap.size+1<=q:=(by simpa using hq);omega,hW q (by have:wc.heap.size+1<=q:=(by simpa using hq);omega) A2⟩) e _ _ A5
  clear A5 A1 k0 k1 k2 f0 f1 f2;go_wp2
  refine UB (v:=gV #[bV true,sV ⟨#[]⟩,lV (qA w2.heap.size) 2 2]) (by simp[results,results113,go_sem,q0,q1,q2,B0]) rfl ⟨true,⟨#[]⟩,_,_,_,rfl,HX.o _ _ _ (0,0) (bV l) (sV t1) (lV a m c) ?_ ?_ ?_,?_⟩
  ·exact xO _ _ _ (by simp)
  ·show w.heap.size<=w2.heap.size;omega
  ·refine A8.o _ fun x hx hl=>?_
   rw[U6 _ _ _ (by simpa using hl)];have e1:x≠w.heap.size:=by omega
   have e2:x≠wc.heap.size:=by omega
   simp[Uy,e1,e2]
  ·exact(sy (((A7.o.setCell (show w.heap.size<=wc.heap.size by omega) _).setCell (show w.heap.size<=wc.heap.size by omega) _).setCell (show w.heap.size<=wc.heap.size by omega) _) _ _ _).alloc (by simp;omega) _
def P9(w):(Instr.makeSlice 118 (i6 0) (i6 17)).run yP w=.ok (lV (qA w.heap.size) 0 17) (w.alloc (.cells (madeCells #[bV false,sV ⟨#[]⟩,lV none 0 0] 51) 120)):=by
 let⟨i0,hi,a,b,c⟩:=Vp AD;have:=run_make (P:=yP) w 118 120 i0 _ underlying118 hi a .i64 .i64 0 17 (by omega) (by omega) (by rw[c];omega) (by omega);rw[b] at this;exact this
def ON(w:World)(base:Nat)(a:base<=w.heap.size):(w.alloc (.cells (madeCells #[bV false,sV ⟨#[]⟩,lV none 0 0] 51) 120)).ownsRow base 120 3 (lV (qA w.heap.size) 0 17) 0 []:=
 ⟨rfl,.inr ⟨w.heap.size,17,_,rfl,a,UG _ _,by omega,by unfold maxLen;omega,by rw[size_madeCells],by simp⟩⟩
def Bw(v)(ks:Nat->Nd):((List.range 16).map (fun i=>ko (ks i) (ks i).item)++[ak v]).length=17:=by simp
def oe(v:yL)(ks:Nat->Nd)(i:Nat):Tree:=if i<16 then(ks i).ref else ak v
def QJ(v)(ks:Nat->Nd)(i:Nat)(h:i<17):((List.range 16).map (fun i=>ko (ks i) (ks i).item)++[ak v]).getD i (ak [])=oe v ks i:=by
 unfold oe;by_cases h16:i<16
 ·rw[Uj h16,Up,UW (by simpa using h16),UK,List.getElem?_range h16];rfl
 ·obtain rfl:i=16:=by omega
  rw[Ui h16,Up,Vf (by simp)];rfl
def RA(d:Nat)(v)(ks:Nat->Nd)(h:bN d (bJ ((List.range 16).map (fun i=>ko (ks i) (ks i).item)++[ak v]))=true):∃e,d=e+1/\∀i,i<16->bN e (ks i).ref=true:=by
 cases d with
 |zero=>rw[AW] at h;cases h
 |succ e=>
  rw[nA] at h;simp only[Vr,Vy] at h;exact⟨e,rfl,fun i hi=>h.2 _ (UA.2 (.inl (UO.2 ⟨i,Vq.2 hi,rfl⟩)))⟩
def GR{base e i d cap g2:Nat}{w1 w2:World}{f:List Value}{T:Nat->Tree}{a b c:Value}{o:Obj}
 (m:w1.ownsRow base 120 3 (lV (qA d) i cap) i f)
 (t:∀j,j<i->bg e w1 (fun q=>base<=q/\d≠q) ((f.drop (3*j)).take 3) (T j))
 (v:bg e w1 (fun q=>base<=q/\d≠q) [a,b,c] (T i))
 (s:World.grownBy (w1.alloc o) w2 (Value.ownBlock (lV (qA d) i cap)))
 (n:Value.ownBlock (lV (qA d) i cap)=some g2\/(w1.alloc o).heap.size<=g2):
 ∀j,j<i+1->bg e w2 (fun q=>base<=q/\g2≠q) (((f++[a,b,c]).drop (3*j)).take 3) (T j):=by
 have r:∀q,q<w1.heap.size->d≠q->w2.heap[q]? =w1.heap[q]? :=fun q g k=>by
  rw[<-U6 w1 o q g];exact s.block q (by simp;omega) (fun h=>k (by simpa [Value.ownBlock] using h.symm))
 have p:∀q,q<w1.heap.size->d≠q->g2≠q:=fun q g k h=>by
  rcases n with h2|h2
  ·exact k ((by simpa [Value.ownBlock] using h2:d=g2).trans h)
  ·simp at h2;omega
 have mv:∀cs x,bg e w1 (fun q=>base<=q/\d≠q) cs x->bg e w2 (fun q=>base<=q/\g2≠q) cs x:=fun cs x h=>
  bg.move (fun q g l=>⟨⟨g.1,p q l g.2⟩,r q l g.2⟩) e cs x h
 intro j y;have w:f.length=3*i:=by have:=m.1;omega
 by_cases u:j<i
 ·have e1:((f++[a,b,c]).drop (3*j)).take 3=(f.drop (3*j)).take 3:=by
   rw[List.drop_append_of_le_length (by omega),List.take_append_of_le_length (by rw[Uu];omega)]
  rw[e1];exact mv _ _ (t j u)
 ·obtain rfl:j=i:=by omega
  have e1:((f++[a,b,c]).drop (3*j)).take 3=[a,b,c]:=by rw[<-w,List.drop_left];rfl
  rw[e1];exact mv _ _ v
def Q1(h v)(ks:Nat->Nd)(ih:∀i,i<16->BN (ks i)):u9 (.branch h v ks):=by
 intro w S p d hA hS _ hf;obtain⟨b,B4,Ss,rfl,hs,B,B8,B6,hK⟩:=hA;obtain⟨_,V,A5⟩:=hS;have c0:w.cell? ⟨b,0,none⟩=some (i6 3):=B.c0;have c3:w.cell? ⟨b,3,none⟩=some (sV (ae v)):=B.c3;have HC:yH (∀i,i<16->∃u,B4 i=pV u/\w.cell? ⟨b,5+i,none⟩=some (pV u)):=fun i hi=>by
  obtain⟨u,H⟩:=(hK i hi).ptr;exact⟨u,H,by rw[B.ck i hi,H]⟩
 have A1:=B.lt;obtain⟨e,rfl,A8⟩:=RA d v ks hf;have HK:yH (∀W i u,i<16->B4 i=pV u->yW w W->yC 145 #[pV u] W (pM e W (oe v ks i))):=fun W i u hi H D=>by
  have:=ih i hi W (Ss i) _ e ((hK i hi).below D) (A5 i hi) (A8 i hi);rw[H] at this;unfold oe;rw[Uj hi];exact this
 have B7:=P9;obtain⟨i0,A9,B1,B2,B3⟩:=Vp AD;clear B hf A8 hK B8 A5 ih B6;unfold ptr;go_enter func113,ntmps113
 go_upto_region 3 with fail
 obtain⟨f,K⟩:=yX (w.alloc (.cells #[bV false,sV ⟨#[]⟩,lV none 0 0] 120))
 have A6:yW w f:=by rw[K];exact(Un _ _).alloc (Ug _) _
 have A3:f.heap.size=w.heap.size+1:=by rw[K];simp
 have A4:=aa A3;have O:=aa A6;have HR:yH (f.heap[w.heap.size]? =some (.cells #[bV false,sV ⟨#[]⟩,lV none 0 0] 120 (0,0))):=by show _=_;rw[K];exact UG _ _
 have G:=ON f f.heap.size (Ug _);have E:yW f (f.alloc (.cells (madeCells #[bV false,sV ⟨#[]⟩,lV none 0 0] 51) 120)):=(Un _ _).alloc (Ug _) _;rw[<-K];generalize hW2:f.alloc (.cells (madeCells #[bV false,sV ⟨#[]⟩,lV none 0 0] 51) 120)=W2 at*;rw[<-A3];generalize hG1:f.heap.size=g1 at G⊢;have J:yH (W2.ownsRow f.heap.size 120 3 (lV (qA g1) 0 17) 0 []):=by rw[hG1];exact G
 have I:=aa E;clear G E A6 A3 K hW2 hG1 B7;go_wp2
 go_loopg [3,4] 16 (fun g sl r wr=>∃(i n cap:Nat) (s:List Value),g=16 - i/\i<=16/\sl=lV (qA n) i cap/\r=i6 (i:Int)/\wr.ownsRow f.heap.size 120 3 (lV (qA n) i cap) i s/\
  yH (∀j,j<i->bg e wr (fun q=>f.heap.size<=q/\n≠q) ((s.drop (3*j)).take 3) (oe v ks j))/\yW f wr)
 case atStart=>exact⟨0,g1,17,[],rfl,by omega,rfl,rfl,J.o,fun j F=>by omega,I.o⟩
 case round=>
  obtain⟨i,n,cap,s,hg,hi,rfl,rfl,G,T,E⟩:=hrel;have HG:=aa hg;have A:=aa G;have y:=aa E;have Q:=aa (O.o.trans (E.mono O.o.size));clear hg G E;by_cases h16:i<16
  ·obtain⟨u,H,A7⟩:=HC.o i h16;have hI:(i:Int)<16:=by omega
   have dk:=(Q.o.cell (p:=⟨b,5+i,none⟩) A1).trans A7;clear A7;go_wp2_with fail
   refine(HK.o _ i u h16 H Q.o).mono ?_;rintro e1 w1 ⟨l,t1,a,m,c,rfl,B0,x⟩;have A0:n<wr.heap.size:=(A.o.lt n rfl).2;have Y:=aa (rE A.o x);have B5:yH (∀j,j<i->bg e w1 (fun q=>f.heap.size<=q/\n≠q) ((s.drop (3*j)).take 3) (oe v ks j)):=fun j F=>(T.o j F).below x
   have Z:yH (bg e w1 (fun q=>f.heap.size<=q/\n≠q) [bV l,sV t1,lV a m c] (oe v ks i)):=bg.move (fun q t _=>⟨⟨Ut y.o.size t,by omega⟩,rfl⟩) e _ _ B0;have P:=aa (y.o.trans (x.mono y.o.size));clear B0 x A0 T dk;go_wp2_with (at_builtin;refine U0 _ rfl (.tmp 18) (.tmp 26) 118 rfl f.heap.size 120 i0 _ 3 48 underlying118 A9 B1 B2 B3 rfl (by decide) (lV (qA n) i cap) i s rfl (Y.o.alloc _) ⟨w1.heap.size,0,none⟩ 1 1 [bV l,sV t1,lV a m c] rfl rfl ?c1 ?c2 (by omega) ?c3 ?c4 ?c5 _ rfl ?c6)
   case c1=>exact Fc w1 _ _ _ rfl
   case c2=>intro v V;simp at V;rcases V with rfl|rfl|rfl<;>rfl
   case c3=>unfold maxLen;omega
   case c4=>omega
   case c5=>have:=P.o.size;simp;omega
   intro g2 C w2 M z L A2;have X:yH (∀j,j<i+1->bg e w2 (fun q=>f.heap.size<=q/\g2≠q) (((s++[Value.bool l,Value.string t1,Value.slice a m c]).drop (3*j)).take 3) (oe v ks j)):=GR Y.o B5.o Z.o z (L.imp id (fun h=>by rw[h];simp));have J:=aa M;have I:yH (yW f w2):=(P.o.alloc P.o.size _).grown z (by have:=P.o.size;simp;omega) (fun k hk=>(Y.o.lt k hk).1);clear M z L A2;go_wp2
   go_roundg (16 - (i+1))
   case measure=>have:=HG.o;omega
   case rel=>exact⟨i+1,g2,C,_,rfl,by omega,rfl,by go_num,J.o,X.o,I.o⟩
  ·obtain rfl:i=16:=by omega
   have hI:¬((16:Nat):Int)<16:=by omega
   have d3:=(Q.o.cell (p:=⟨b,3,none⟩) A1).trans c3;have A0:n<wr.heap.size:=(A.o.lt n rfl).2;have B9:b<wr.heap.size:=Us A1 Q.o.size;have Z:yH (bg e wr (fun q=>f.heap.size<=q/\n≠q) [bV false,sV (ae v),lV none 0 0] (oe v ks 16)):=xk e _ _ v _ (by omega);clear A0 V;go_wp2_with (at_builtin;refine U0 _ rfl (.tmp 28) (.tmp 34) 118 rfl f.heap.size 120 i0 _ 3 48 underlying118 A9 B1 B2 B3 rfl (by decide) (lV (qA n) 16 cap) 16 s rfl (A.o.alloc _) ⟨wr.heap.size,0,none⟩ 1 1 [bV false,sV (ae v),lV none 0 0] rfl rfl ?e1 ?e2 (by omega) ?e3 ?e4 ?e5 _ rfl ?e6)
   case e2=>exact⟨rfl,rfl,rfl⟩
   case e3=>unfold maxLen;omega
   case e5=>have:=y.o.size;simp;omega
   intro g2 C w2 M z L A2;have X:yH (∀j,j<17->bg e w2 (fun q=>f.heap.size<=q/\g2≠q) (((s++[Value.bool false,Value.string (ae v),Value.slice none 0 0]).drop (3*j)).take 3) (oe v ks j)):=GR A.o T.o Z.o z (L.imp id (fun h=>by rw[h];simp));have J:=aa M;have x:yW f w2:=(y.o.alloc y.o.size _).grown z (by have:=y.o.size;simp;omega) (fun k hk=>(A.o.lt k hk).1);have N:w2.heap[w.heap.size]? =some (.cells #[bV false,sV ⟨#[]⟩,lV none 0 0] 120 (0,0)):=(x.block _ (by rw[A4.o];omega)).trans HR.o;have q0:w2.cell? ⟨w.heap.size,0,none⟩=some (bV false):=by rw[Ur w2 _ 0 _ _ _ N];rfl
   have q1:w2.cell? ⟨w.heap.size,1,none⟩=some (sV ⟨#[]⟩):=by rw[Ur w2 _ 1 _ _ _ N];rfl
   have q2:w2.cell? ⟨w.heap.size,2,none⟩=some (lV none 0 0):=by rw[Ur w2 _ 2 _ _ _ N];rfl
   have R:∀o,w2.frozen? ⟨w.heap.size,o,none⟩=false:=fun o=>by simp[World.frozen?,N]
   have f0:=R 0;have f1:=R 1;have f2:=R 2;have I:=aa x;clear M z L A2 T x N R;go_wp2
   refine UB (v:=gV #[bV true,sV ⟨#[]⟩,lV (qA g2) 17 C]) (by simp[results,results113,go_sem,q0,q1,q2]) rfl ⟨true,⟨#[]⟩,_,_,_,rfl,?_,?_⟩
   ·have D:∀W:World,(∀q,q≠w.heap.size->W.heap[q]? =w2.heap[q]?)->bg (e+1) W (fun q=>w.heap.size<=q) [bV true,sV ⟨#[]⟩,lV (qA g2) 17 C] (Nd.branch h v ks).item:=fun W D=>by
     have U:∀q,f.heap.size<=q->w.heap.size<=q/\q≠w.heap.size:=fun q t=>by rw[A4.o] at t;omega
     refine xm e W _ ⟨#[]⟩ _ _ _ (by rw[Bw];exact(Fe J.o).move fun q t _=>⟨(U q t).1,D q (U q t).2⟩) (by rw[Bw];decide) fun j F=>?_
     rw[Bw] at F;rw[QJ v ks j F];exact bg.move (fun q t _=>⟨(U q t.1).1,D q (U q t.1).2⟩) e _ _ (X.o j F)
    exact D _ fun q t=>by simp[Uy,t]
   ·exact sy (O.o.trans (I.o.mono O.o.size)) _ _ _
def Q2:∀t:Nd,u9 t:=by
 intro t;induction t with
 |nil=>intro w S p d _ _ h;exact h.elim
 |unread h=>intro w S p d _ _ h;exact h.elim
 |leaf h q v=>exact QY h q v
 |ext h q k ih=>exact Q0 h q k (rq k ih)
 |branch h v ks ih=>exact Q1 h v ks fun i _=>rq (ks i) (ih i)
def mR(t:Nd):Prop:=bN 6 t.item=true/\t.code.length<=4096
def RW{t}(h:mR t):ft t.item=ae t.code:=by
 unfold ft;rw[Uj h.1,rG _ (by unfold fH;exact Uw h.2)];rfl
def xH(w t S p)(d:At w t S p)(k:nG t)(g:t.read)(f:mR t):
 yC 70 #[p] w fun e w'=>e=rV (sV (ae t.code))/\yW w w':=by
 have v:=aa (Q2 t w S p 6 d k g f.1);have u:yH (∀(W:World) (S:Nat->Prop) (l:Bool) (s:yB) (a:Option Addr) (m c:Nat),bg 6 W S [bV l,sV s,lV a m c] t.item->yC 63 #[gV #[bV l,sV s,lV a m c]] W fun e w'=>e=rV (tV #[sV (ae t.code),i6 (ff t.item)])/\yW W w'):=fun W S l s a m c h=>by
  have:=uH W S _ _ _ _ h;rw[RW f] at this;exact this
 obtain⟨b,y,z,rfl,_,_⟩:=d.ai (by cases t<;>first|exact g.elim|trivial);unfold ptr at*;clear d k g f;generalize ff t.item=E at*;generalize ae t.code=C at*;generalize t.item=X at*;go_enter func70,ntmps70
 go_wp2_with fail
 refine v.m ?_;rintro e w1 ⟨l,s,a,m,c,rfl,q,n⟩;have j:=u.o w1 _ l s a m c q;have x:=aa j;have i:=aa n;clear q n j;go_wp2_with fail
 refine x.m ?_;rintro e w2 ⟨rfl,o⟩;have r:=aa (i.o.trans (o.mono i.o.size));clear o;go_wp2
 go_ret
 exact⟨rfl,r.o⟩
def FD(k:Int)(h p v a b c):(fG k h p v b c).setIfInBounds 1 (sV a)=fG k a p v b c:=rfl
def QE(t:Nd):t.mk.kind=t.kind:=by cases t<;>rfl
def Og(t:Nd):t.mk.path=t.path:=by cases t<;>rfl
def Ld(t:Nd):t.mk.value=t.value:=by cases t<;>rfl
def uA(t:Nd)(h:t.read):t.mk.hash=fX t.code:=by cases t<;>first|exact h.elim|rfl
def AO(w t S)(b:Nat)(j k)(y:At w t S (ptr b))(B:bU w b t j k)(z:nG t)(o:t.read)(K:t.hash=[])(g:mR t)(T:aB w):
 yC 151 #[ptr b] w fun e w'=>e=rV (ptr b)/\bU w' b t.mk j k/\Kept b w w':=by
 have s:=aa (xH w t S _ y z o g);have G:yH (∀W,yW w W->yC 16 #[sV (ae t.code)] W fun e w'=>e=rV (sV (ae (fe t.code)))/\yW W w'):=fun W d=>by
  have:=ja (ae t.code) (by rw[aN];unfold maxLen;have:=g.2;omega) W (T.below d);rw[mX];exact this
 have l:=QE t;have n:=Og t;have q:=Ld t;have m:=uA t o;have L:(ae t.code).size<=4096:=by rw[aN];exact g.2
 have D:(ae t.code).size=t.code.length:=aN _;have E:yH (∀W,W.heap[b]? =w.heap[b]?->fX t.code=[]->bU W b t.mk j k):=fun W d h0=>by
  unfold bU;rw[l,n,q,m,h0,<-K];exact d.trans B
 have F:yH (∀W:World,W.heap[b]? =w.heap[b]?->fX t.code=fe t.code->bU (W.setCell ⟨b,1,none⟩ (sV (ae (fe t.code)))) b t.mk j k):=fun W d h0=>by
  unfold bU;rw[l,n,q,m,h0,Vo W b 1 _ _ _ (d.trans B),FD]
 have c1:=B.c1;have J:w.frozen? ⟨b,1,none⟩=false:=by simp[World.frozen?,show w.heap[b]? =_ from B]
 have i:=B.lt;have u:yH (32<=t.code.length->fX t.code=fe t.code):=fun h=>Uj h
 have v:yH (¬32<=t.code.length->fX t.code=[]):=fun h=>Ui h
 unfold ptr at*;clear y z o g T B l n q m;rw[<-D] at u v;clear D;generalize ae t.code=C at*;generalize fX t.code=HO at*;generalize fe t.code=HL at*;by_cases h32:32<=C.size
 ·have I:(32:Int)<=(C.size:Int):=by omega
  go_enter func151,ntmps151
  go_wp2_with fail
  refine s.m ?_;rintro e w1 ⟨rfl,a⟩;have x:=G.o w1 a;have H:=aa x;have c:=aa a;clear a x;go_wp2_with fail
  refine H.m ?_;rintro e w2 ⟨rfl,A⟩;have f:=c.o.trans (A.mono c.o.size);have d1:=(f.cell (p:=⟨b,1,none⟩) i).trans c1;have e1:=(f.frozen (p:=⟨b,1,none⟩) i).trans J;have r:=aa f;clear A f;go_wp2
  go_ret
  exact⟨rfl,F.o _ (r.o.block b i) (u.o h32),(Kept.iP r.o b).set 1 _⟩
 ·have I:¬(32:Int)<=(C.size:Int):=by omega
  go_enter func151,ntmps151
  go_wp2_with fail
  refine s.m ?_;rintro e w1 ⟨rfl,a⟩;have c:=aa a;clear a;go_wp2
  go_ret
  exact⟨rfl,E.o _ (c.o.block b i) (v.o h32),Kept.iP c.o b⟩
end Go.Proofs.YthpclfdpbmehgaaGreatDoor
