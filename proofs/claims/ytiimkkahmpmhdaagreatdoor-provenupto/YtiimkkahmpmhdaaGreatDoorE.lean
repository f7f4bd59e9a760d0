import Derived.Test.YtiimkkahmpmhdaaGreatDoorB
import Derived.Test.YtiimkkahmpmhdaaGreatDoorC
import Derived.Test.YtiimkkahmpmhdaaGreatDoorD
open Go.Proofs.Tryz
open Go.Proofs.Tryz renaming prog→yP
open Go.Value renaming string→sV,pointer→pV,int→iV,slice→lV,bool→bV,tuple→tV,agg→gV
open Go.Ending renaming returned→rV
namespace Go.Proofs.YtiimkkahmpmhdaaGreatDoor
open Go.RowKit
set_option maxRecDepth 100000
set_option maxHeartbeats 0
set_option linter.all false
theorem cK{w w':World}{base e a v n b}(h:w.ownsRow base e a v n b)
 (i:∀g,v.ownBlock=some g->w'.heap[g]? =w.heap[g]?):w'.ownsRow base e a v n b:=by
 refine⟨h.1,?_⟩;rcases h.2 with j|⟨g,cap,c,rfl,d,f,rest⟩
 ·exact .inl j
 ·exact .inr ⟨g,cap,c,rfl,d,by rw[i g rfl];exact f,rest⟩
theorem dK{w:World}{base e f v n a}(h:w.ownsRow base e f v n a){g}(c:v.ownBlock=some g)(j:Nat)(u)(d:a[j]? =some u):w.cell? ⟨g,j,none⟩=some u:=by
 have b:(⟨g,0,none⟩:Addr).add j=⟨g,j,none⟩:=by unfold Addr.add;split<;>simp_all
 rw[<-b];exact h.cells c j u d
theorem ju{w:World}{base e d v n f}(h:w.ownsRow base e d v n f){g}(a:v.ownBlock=some g)(j:Nat):w.frozen? ⟨g,j,none⟩=false:=by
 rcases h.2 with⟨rfl,_⟩|⟨b,cap,i,rfl,k,c,_⟩
 ·simp[Value.ownBlock] at a
 ·simp[Value.ownBlock] at a;subst a;exact Rx w b j _ _ c
theorem ss{w:World}{base e f v n i}(h:w.ownsRow base e f v n i){g}(c:v.ownBlock=some g)(j:Nat)(u:Value):
 (w.setCell ⟨g,j,none⟩ u).ownsRow base e f v n (i.set j u):=by
 refine⟨by rw[R3];exact h.1,?_⟩;rcases h.2 with⟨rfl,_⟩|⟨b,cap,a,rfl,k,d,m,l,o,p⟩
 ·simp[Value.ownBlock] at c
 ·simp[Value.ownBlock] at c;subst c;refine .inr ⟨b,cap,a.setIfInBounds j u,rfl,k,?_,m,l,by simpa using o,?_⟩
  ·rw[RM w b j a e (0,0) u d];exact R7 w b a _ e _ d
  ·rw[Array.toList_setIfInBounds,List.take_set,p]
theorem dr{w:World}{base e d v n f}(h:w.ownsRow base e d v n f):
 ∃a cap,v=lV a n cap/\n<=cap/\cap<=maxLen/\(a=none/\n=0/\cap=0\/∃g,a=some ⟨g,0,none⟩):=by
 rcases h.2 with⟨rfl,rfl⟩|⟨g,cap,i,rfl,j,k,c,b,_⟩
 ·exact⟨none,0,rfl,QU _,Ri _,.inl ⟨rfl,rfl,rfl⟩⟩
 ·exact⟨_,cap,rfl,c,b,.inr ⟨g,rfl⟩⟩
def wV(a:Nat->Int):Nat->Int:=nx (mI (mh a) 25)
def xI(i:Nat)(a:Nat->Int):Nat->Int:=bT (wV a) 0 (xo (wV a 0) (pT i))
def qv(a:Nat->Int):Nat->Nat->Int
 | 0=>a
 |k+1=>xI k (qv a k)
def uM(a:Nat->Int):Nat->Int:=qv a 24
theorem DA(a:Nat->Int)(t:Int)(w)(b:Nat)(H:cF w b a t)(T:az w)(h:3<=b):
 Calls yP 91 #[.pointer (qA b)] w fun e w'=>e=.returned (.tuple #[])/\cF w' b (uM a) t/\Kept b w w':=by
 go_enter func91,ntmps91
 go_wp2_with fail
 go_loopg [2] 24 (fun g r wr=>∃k:Nat,g=24 - k/\k<=24/\r=.int .i64 k/\cF wr b (qv a k) t/\Kept b w wr)
 case atStart=>exact⟨0,rfl,by omega,rfl,H,Kept.refl b w⟩
 case round=>
  obtain⟨k,p,D,rfl,d,f⟩:=hrel;have q:Hid (gk=24 - k):=p;clear p;by_cases C:k<24
  ·have y:Hid (Kept b w wr):=f;have v:Hid (cF wr b (qv a k) t):=d;have n:Hid (az w):=T;have z:Hid (xI k (qv a k)=qv a (k+1)):=rfl;clear f d H T;generalize qv a k=vs at*;go_wp2_with fail
   refine(MG vs t _ b v.out).mono ?_;rintro e w1 ⟨rfl,i,K1⟩;have s:Hid (cF w1 b (mh vs) t):=i;have l:Hid (Kept b w w1):=y.out.trans K1;clear i K1;go_wp2_with fail
   refine(MD (mh vs) t _ b s.out (n.out.kept l.out h) h).mono ?_;rintro e w2 ⟨rfl,j,o⟩;have c:Hid (cF w2 b (wV vs) t):=j;have m:Hid (Kept b w w2):=l.out.trans o;have c0:=c.out.at_ 0 (by omega);have f0:=c.out.free 0;have t0:=(n.out.kept m.out h).words k C;clear j o;generalize hu:wV vs 0=u at c0;have A:Hid (wV vs 0=u):=hu;generalize hx:pT k=x at t0;have B:Hid (pT k=x):=hx;clear hu hx;go_wp2_with fail
   go_region
   all_goals
    go_wp2_with fail
    go_roundg (24 - (k+1))
    case measure=>have:=q.out;omega
    case rel=>exact⟨k+1,rfl,by omega,by go_num,by rw[<-z.out];unfold xI;rw[A.out,B.out];exact(c.out.set 0 (xo u x) (by omega)).drew,(m.out.set _ _).drew⟩
  ·have:k=24:=by omega
   subst this;go_wp2_with fail
   go_end0
   exact⟨rfl,d,f⟩
def ml(a:Nat->Int)(t c:Nat):Nat->Int:=bT a (t / 8) (xo (a (t / 8)) (IntKind.u64.wrap (c*2 ^ (t % 8*8))))
def qZ(a:(Nat->Int)×Nat)(c:UInt8):(Nat->Int)×Nat:=
 if a.2+1=136 then(uM (ml a.1 a.2 c.toNat),0) else(ml a.1 a.2 c.toNat,a.2+1)
def iY(a:(Nat->Int)×Nat)(l:yL):(Nat->Int)×Nat:=l.foldl qZ a
theorem PH(a:(Nat->Int)×Nat)(c:UInt8)(h:a.2<136):(qZ a c).2<136:=by
 unfold qZ;split
 ·exact(by decide:0<136)
 ·show a.2+1<136;omega
theorem Aw(l):∀(a:(Nat->Int)×Nat),a.2<136->(iY a l).2<136:=by
 induction l with
 |nil=>intro a h;exact h
 |cons c l ih=>intro a h;exact ih _ (PH a c h)
theorem Hf(a:(Nat->Int)×Nat)(l m):iY a (l++m)=iY (iY a l) m:=by simp[iY]
theorem He(a:(Nat->Int)×Nat)(s:yB)(k:Nat)(h:k<s.size):iY a (s.data.toList.take (k+1))=qZ (iY a (s.data.toList.take k)) s[k]:=by
 have e:s.data.toList.take (k+1)=s.data.toList.take k++[s[k]]:=by
  rw[RU (by simpa using h)];rfl
 rw[e,Hf];rfl
theorem Hd(a:(Nat->Int)×Nat)(s:yB)(O:s.size<=maxLen)(w)(b:Nat)(H:cF w b a.1 a.2)(P:a.2<136)(T:az w)(y:3<=b):
 Calls yP 50 #[pV (qA b),sV s] w fun e w'=>e=rV (tV #[])/\cF w' b (iY a s.data.toList).1 (iY a s.data.toList).2/\Kept b w w':=by
 unfold maxLen at O;go_enter func50,ntmps50
 go_wp2_with fail
 go_loopg [4] s.size (fun g r wr=>∃k:Nat,g=s.size - k/\k<=s.size/\r=iV .i64 k/\cF wr b (iY a (s.data.toList.take k)).1 (iY a (s.data.toList.take k)).2/\Kept b w wr)
 case atStart=>exact⟨0,rfl,by omega,rfl,H,Kept.refl b w⟩
 case round=>
  obtain⟨k,A,Q,rfl,c,j⟩:=hrel;have o:=aa A;clear A;by_cases N:k<s.size
  ·have B:=Aw (s.data.toList.take k) a P;have v:=aa (He a s k N);generalize hq:iY a (s.data.toList.take k)=q at*;clear hq;obtain⟨d,t⟩:=q;simp only at B c;have G:=aa j;have E:=aa c;have I:=aa T;have c0:=c.at_ (t / 8) (by omega);have f0:=c.free (t / 8);have c1:=c.taken;have f1:=c.free 25;clear j c H T;have M:s[k].toNat<256:=s[k].toNat_lt;generalize hu:d (t / 8)=u at c0;have J:=aa hu;clear hu;have R:t / 8≠25:=by omega
   go_upto_region 3 with fail
   go_cut [] (fun C=>cF C b (ml d t s[k].toNat) t/\Kept b wr C)
   case first=>
    go_region_with (go_at_call 90;refine(Fo t _ M u _ b B (by go_simp) (by go_simp)).mono ?_;rintro e w' ⟨rfl,rfl⟩)
    all_goals (go_wp2_with fail;go_meet;exact⟨by unfold ml;rw[J.out];exact(E.out.set (t / 8) _ (by omega)).drew.drew,((Kept.refl _ _).set _ _).drew.drew⟩)
   case rest=>
    obtain⟨l,K1⟩:=hcut;generalize hfl:ml d t s[k].toNat=us at*;have n:=aa hfl;have h:=aa l;have p:=aa (G.out.trans K1);clear c0 f0 c1 f1 hfl l K1;have c1:=h.out.taken;have f1:=h.out.free 25;by_cases z:t+1=136
    ·have L:((t:Int)+1 == 136)=true:=beq_iff_eq.2 (by omega);go_wp2_with fail
     have m:=h.out.xF ((t:Int)+1);have i:=p.out.set 25 (iV .i64 ((t:Int)+1));refine(DA us _ _ b m (I.out.kept i y) y).mono ?_;rintro e w3 ⟨rfl,f,x⟩;have D:=aa f;have F:=aa (i.trans x);have c3:=f.taken;have f3:=f.free 25;clear m i f x;go_wp2_with fail
     go_roundg (s.size - (k+1))
     case measure=>have:=o.out;omega
     case rel=>
      refine⟨k+1,rfl,by omega,by go_num,?_,F.out.set _ _⟩;rw[v.out];unfold qZ;simp only;rw[QX z,n.out];exact D.out.xF 0
    ·have L:((t:Int)+1 == 136)=false:=RW.2 (by omega);go_wp2_with fail
     go_roundg (s.size - (k+1))
     case measure=>have:=o.out;omega
     case rel=>
      refine⟨k+1,rfl,by omega,by go_num,?_,p.out.set _ _⟩;rw[v.out];unfold qZ;simp only;rw[QW z,n.out];exact h.out.xF _
  ·have:k=s.size:=by omega
   subst this;have K:s.data.toList.take s.size=s.data.toList:=RI (by simp);rw[K] at c;go_wp2_with fail
   go_end0
   exact⟨rfl,c,j⟩
def wF:Nat->Int:=fun _=>0
theorem N0:(yP.info? 145).map (·.size)=some 25:=by kernel_rfl
theorem Mq(w:World):
 Calls yP 49 #[] w fun e w'=>e=rV (pV (qA w.heap.size))/\w'=w.alloc (.cells (jx wF 0) 147):=by
 go_enter func49,ntmps49
 go_wp2
 go_ret
 exact⟨rfl,rfl⟩
theorem O7(a:Nat->Int)(t:Int)(w)(b:Nat)(H:cF w b a t):
 Calls yP 92 #[pV (qA b)] w fun e w'=>e=rV (pV (qA w.heap.size))/\w'=(w.alloc (.cells (jx a t) 147)).drew:=by
 have c1:=H.taken;have g:w.rangeAt b 0 [Value.int .u64 (a 0),Value.int .u64 (a 1),Value.int .u64 (a 2),Value.int .u64 (a 3),Value.int .u64 (a 4),Value.int .u64 (a 5),Value.int .u64 (a 6),Value.int .u64 (a 7),Value.int .u64 (a 8),Value.int .u64 (a 9),Value.int .u64 (a 10),Value.int .u64 (a 11),Value.int .u64 (a 12),Value.int .u64 (a 13),Value.int .u64 (a 14),Value.int .u64 (a 15),Value.int .u64 (a 16),Value.int .u64 (a 17),Value.int .u64 (a 18),Value.int .u64 (a 19),Value.int .u64 (a 20),Value.int .u64 (a 21),Value.int .u64 (a 22),Value.int .u64 (a 23),Value.int .u64 (a 24)]:=by
  intro j v c;have d:j<25:=by have:=(Rb.1 c).1;simpa using this
  have e:[Value.int .u64 (a 0),Value.int .u64 (a 1),Value.int .u64 (a 2),Value.int .u64 (a 3),Value.int .u64 (a 4),Value.int .u64 (a 5),Value.int .u64 (a 6),Value.int .u64 (a 7),Value.int .u64 (a 8),Value.int .u64 (a 9),Value.int .u64 (a 10),Value.int .u64 (a 11),Value.int .u64 (a 12),Value.int .u64 (a 13),Value.int .u64 (a 14),Value.int .u64 (a 15),Value.int .u64 (a 16),Value.int .u64 (a 17),Value.int .u64 (a 18),Value.int .u64 (a 19),Value.int .u64 (a 20),Value.int .u64 (a 21),Value.int .u64 (a 22),Value.int .u64 (a 23),Value.int .u64 (a 24)]=(List.range 25).map (fun i=>Value.int .u64 (a i)):=rfl;rw[R5,H.at_ j d,<-c,e];simp[d]
 have l:[Value.int .u64 (a 0),Value.int .u64 (a 1),Value.int .u64 (a 2),Value.int .u64 (a 3),Value.int .u64 (a 4),Value.int .u64 (a 5),Value.int .u64 (a 6),Value.int .u64 (a 7),Value.int .u64 (a 8),Value.int .u64 (a 9),Value.int .u64 (a 10),Value.int .u64 (a 11),Value.int .u64 (a 12),Value.int .u64 (a 13),Value.int .u64 (a 14),Value.int .u64 (a 15),Value.int .u64 (a 16),Value.int .u64 (a 17),Value.int .u64 (a 18),Value.int .u64 (a 19),Value.int .u64 (a 20),Value.int .u64 (a 21),Value.int .u64 (a 22),Value.int .u64 (a 23),Value.int .u64 (a 24)].length=25:=rfl;have k:=N0;have m:∀v∈[Value.int .u64 (a 0),Value.int .u64 (a 1),Value.int .u64 (a 2),Value.int .u64 (a 3),Value.int .u64 (a 4),Value.int .u64 (a 5),Value.int .u64 (a 6),Value.int .u64 (a 7),Value.int .u64 (a 8),Value.int .u64 (a 9),Value.int .u64 (a 10),Value.int .u64 (a 11),Value.int .u64 (a 12),Value.int .u64 (a 13),Value.int .u64 (a 14),Value.int .u64 (a 15),Value.int .u64 (a 16),Value.int .u64 (a 17),Value.int .u64 (a 18),Value.int .u64 (a 19),Value.int .u64 (a 20),Value.int .u64 (a 21),Value.int .u64 (a 22),Value.int .u64 (a 23),Value.int .u64 (a 24)],v.oneCell'=true:=by
  have e:[Value.int .u64 (a 0),Value.int .u64 (a 1),Value.int .u64 (a 2),Value.int .u64 (a 3),Value.int .u64 (a 4),Value.int .u64 (a 5),Value.int .u64 (a 6),Value.int .u64 (a 7),Value.int .u64 (a 8),Value.int .u64 (a 9),Value.int .u64 (a 10),Value.int .u64 (a 11),Value.int .u64 (a 12),Value.int .u64 (a 13),Value.int .u64 (a 14),Value.int .u64 (a 15),Value.int .u64 (a 16),Value.int .u64 (a 17),Value.int .u64 (a 18),Value.int .u64 (a 19),Value.int .u64 (a 20),Value.int .u64 (a 21),Value.int .u64 (a 22),Value.int .u64 (a 23),Value.int .u64 (a 24)]=(List.range 25).map (fun i=>Value.int .u64 (a i)):=rfl;rw[e];intro v c;simp at c;obtain⟨i,_,rfl⟩:=c;rfl
 have f:=H.lt;have h:∀o,(w.alloc o).cell? ⟨b,25,none⟩=some (iV .i64 t):=fun o=>(World.cell?_alloc_lt _ _ _ f).trans c1
 have n:=fun o=>World.rangeAt_alloc g o
 clear H;have p:=underlying145;go_enter func92,ntmps92
 go_wp2
 go_region_held2 (fun w'=>w'.rangeAt b 0 [Value.int .u64 (a 0),Value.int .u64 (a 1),Value.int .u64 (a 2),Value.int .u64 (a 3),Value.int .u64 (a 4),Value.int .u64 (a 5),Value.int .u64 (a 6),Value.int .u64 (a 7),Value.int .u64 (a 8),Value.int .u64 (a 9),Value.int .u64 (a 10),Value.int .u64 (a 11),Value.int .u64 (a 12),Value.int .u64 (a 13),Value.int .u64 (a 14),Value.int .u64 (a 15),Value.int .u64 (a 16),Value.int .u64 (a 17),Value.int .u64 (a 18),Value.int .u64 (a 19),Value.int .u64 (a 20),Value.int .u64 (a 21),Value.int .u64 (a 22),Value.int .u64 (a 23),Value.int .u64 (a 24)]/\w'.cell? ⟨b,25,none⟩=some (iV .i64 t)) (first| (simp[*];done) |go_keep_ranges) (fail)
 all_goals go_wp2
 all_goals go_ret
 all_goals exact⟨rfl,rfl⟩
def sR(a:Nat->Int)(i:Nat):Int:=IntKind.u8.wrap (a (i / 8) / 2 ^ (i % 8*8))
def sQ(a:Nat->Int):yB:=strOfNums ((List.range 32).map (sR a))
theorem Od(a:Nat->Int):(sQ a).size=32:=by unfold sQ;rw[strOfNums_size];simp
def oq(a:Nat->Int)(k:Nat)(i:Nat):Int:=if i<k then sR a i else 0
def oI(f:Nat->Int):Array Value:=((List.range 32).map (fun i=>Value.int .u8 (f i))).toArray
theorem zQ(f:Nat->Int):(oI f).size=32:=by simp[oI]
theorem tz(f:Nat->Int)(j:Nat)(h:j<32):(oI f)[j]? =some (iV .u8 (f j)):=by
 unfold oI;rw[Sl];simp[h]
theorem Qr(f:Nat->Int)(i:Nat)(v:Int)(h:i<32):(oI f).setIfInBounds i (iV .u8 v)=oI (bT f i v):=by
 apply Sn;intro j;rw[R4];by_cases a:i=j
 ·subst a;rw[QX rfl,QX (by rw[zQ];omega),tz _ _ h];simp[bT]
 ·rw[QW a];by_cases b:j<32
  ·rw[tz _ _ b,tz _ _ b];simp[bT,Ne.symm a]
  ·rw[Rk (by rw[zQ];omega),Rk (by rw[zQ];omega)]
theorem Oc(a:Nat->Int)(k:Nat):bT (oq a k) k (sR a k)=oq a (k+1):=by
 funext j
 unfold bT oq;by_cases h:j=k
 ·subst h;rw[QX rfl,QX (by omega)]
 ·rw[QW h];by_cases h2:j<k
  ·rw[QX h2,QX (by omega)]
  ·rw[QW h2,QW (by omega)]
theorem MO(w):(Instr.makeSlice 143 (iV .i64 32) (iV .i64 32)).run yP w=.ok (lV (qA w.heap.size) 32 32) (w.alloc (.cells (oI fun _=>0) 5)):=by kernel_rfl
theorem Ob(a:Nat->Int)(t:Int)(w)(b:Nat)(H:cF w b a t):
 Calls yP 93 #[pV (qA b)] w fun e w'=>e=rV (sV (sQ a))/\Below w.heap.size w w':=by
 have u:=MO;have v:=H.lt;go_enter func93,ntmps93
 go_wp2_with fail
 obtain⟨g,c⟩:=yX w.heap.size
 have l:=aa c;rw[<-c];clear u;go_loopg [4] 32 (fun n r wr=>∃k:Nat,n=32 - k/\k<=32/\r=iV .i64 k/\wr.heap[g]? =some (.cells (oI (oq a k)) 5 (0,0))/\cF wr b a t/\Below g w wr)
 case atStart=>
  refine⟨0,rfl,by omega,rfl,by rw[c];exact Rl _ _,H.kept ((Kept.refl (b+1) w).alloc _) (by omega),?_⟩;rw[c];exact(Q1 _ _).alloc (QU _) _
 case round=>
  obtain⟨k,o,y,rfl,j,d,m⟩:=hrel;have q:=aa o;have f:=aa j;have s:=aa d;have h:=aa m;clear o c j m H;by_cases p:k<32
  ·have c0:=d.at_ (k / 8) (by omega);have c1:wr.cell? ⟨g,k,none⟩=some (iV .u8 (oq a k k)):=by rw[Q5 wr g k _ _ _ f.out,tz _ _ p]
   have f1:wr.frozen? ⟨g,k,none⟩=false:=Rx wr g k _ _ f.out;have A:min (k % 8*8) 64=k % 8*8:=by omega
   generalize oq a k k=z at c1;clear d;go_wp2_with fail
   go_roundg (32 - (k+1))
   case measure=>have:=q.out;omega
   case rel=>
    refine⟨k+1,rfl,by omega,by go_num,?_,s.out.kept ((Kept.refl g _).set _ _) (by have:=l.out;omega),h.out.setCell (QU _) _⟩;rw[Se _ _ _ _ _ _ f.out,<-Oc,<-Qr _ _ _ p];rfl
  ·have:k=32:=by omega
   subst this;have B:oq a 32=fun i=>if i<32 then sR a i else 0:=rfl
   have x:=St (P:=yP) wr 143 5 underlying143 underlying5 g 0 32 32 ((List.range 32).map (sR a)) (by simp) (fun i hi=>by
    rw[R5,Q5 wr g i _ _ _ f.out,tz _ _ hi];simp[oq,hi]) 9 underlying9
   clear d;go_wp2_with fail
   go_ret
   exact⟨rfl,by rw[<-l.out];exact h.out⟩
def rR(a:(Nat->Int)×Nat):yB:=sQ (uM (ml (ml a.1 a.2 1) 135 128))
theorem eL(a:(Nat->Int)×Nat):(rR a).size=32:=Od _
def rS:(Nat->Int)×Nat:=(wF,0)
def ai(s:yB):yB:=rR (iY rS s.data.toList)
theorem az.below{w w'}(h:az w)(k:yW w w'):az w':=h.kept (Kept.gj k 3) (QU _)
theorem cF.below{w w' b}{a:Nat->Int}{t:Int}(h:cF w b a t)(k:yW w w'):cF w' b a t:=h.kept (Kept.gj k (b+1)) (by omega)
theorem Qk{n b w w1 w2}(h1:Below n w w1)(h:Kept b w1 w2)(c:n<=w.heap.size)(d:n<=b):Below n w w2:=
 ⟨h.os.trans h1.os,h.tape.trans h1.tape,h.output.trans h1.output,Q7 h1.size h.size,fun k a=>(h.block k (Q6 a (Q7 c h1.size)) (by omega)).trans (h1.block k a)⟩
theorem Qm{n w w1 w2}(h1:Below n w w1)(h:yW w1 w2)(a:n<=w.heap.size):Below n w w2:=
 h1.trans (h.mono (Q7 a h1.size))
theorem Gw{v}{w w1 w4 w5:World}(b:w.heap.size=v)(h1:Below v w w1)(h4:Kept v w1 w4)(a:yW w4 w5):yW w w5:=by
 subst b;exact Qm (Qk h1 h4 (QU _) (QU _)) a (QU _)
theorem Fm(a:Nat->Int)(t:Int)(i c:Nat)(hi:i<136)(d:c<256)(w)(b:Nat)(H:cF w b a t):
 Calls yP 90 #[pV (qA b),iV .i64 i,iV .u8 c] w fun e w'=>e=rV (tV #[])/\cF w' b (ml a i c) t/\Kept b w w':=
 (Fo i c d (a (i / 8)) w b hi (H.at_ _ (by omega)) (H.free _)).mono fun e w' ⟨he,hw⟩=>by
  subst hw
  exact⟨he,(H.set (i / 8) _ (by omega)).drew,((Kept.refl _ _).set _ _).drew⟩
theorem Jh(c:(Nat->Int)×Nat)(w)(b:Nat)(H:cF w b c.1 c.2)(q:c.2<136)(T:az w):
 Calls yP 51 #[pV (some ⟨b,0,none⟩)] w fun e w'=>e=rV (sV (rR c))/\Below w.heap.size w w':=by
 obtain⟨a,t⟩:=c;have h3:=T.size;have u:Hid (rR (a,t)=sQ (uM (ml (ml a t 1) 135 128))):=rfl;simp only at H q;go_enter func51,ntmps51
 go_wp2_with fail
 refine(O7 a t _ b H).mono ?_;rintro e w1 ⟨rfl,g⟩;have f:cF w1 w.heap.size a t:=by rw[g];exact⟨Rl _ _⟩
 have d:Below w.heap.size w w1:=by rw[g];exact((Q1 _ _).alloc (QU _) _).drew
 have p:=T.below d;have x:=aa f;have s:=aa d;have D:=aa p;have l:=aa h3;have c1:=f.taken;clear g f d p H T h3;generalize hv:w.heap.size=v at*;go_wp2_with fail
 refine(Fm a t t 1 q (by omega) _ v x.out).mono ?_;rintro e w2 ⟨rfl,h,m⟩;have y:=aa h;have B:=aa m;clear h m c1;go_wp2_with fail
 refine(Fm _ t 135 128 (by omega) (by omega) _ v y.out).mono ?_;rintro e w3 ⟨rfl,i,n⟩;have z:=aa i;have k:=aa (B.out.trans n);clear i n;go_wp2_with fail
 refine(DA _ t _ v z.out (D.out.kept k.out l.out) l.out).mono ?_;rintro e w4 ⟨rfl,j,o⟩;have A:=aa j;have C:=aa (k.out.trans o);clear j o;go_wp2_with fail
 refine(Ob _ t _ v A.out).mono ?_;rintro e w5 ⟨rfl,r⟩;go_wp2_with fail
 go_ret
 refine⟨by rw[u.out];rfl,?_⟩;have h4:=C.out;have h1:=s.out;exact Gw hv h1 h4 r
theorem iE(s:yB)(r:s.size<=maxLen)(w)(T:az w):
 Calls yP 24 #[sV s] w fun e w'=>e=rV (sV (ai s))/\Below w.heap.size w w':=by
 have h3:=T.size;have n:Hid (ai s=rR (iY rS s.data.toList)):=rfl;have k:(iY rS s.data.toList).2<136:=Aw _ _ (by decide);have q:=aa k;clear k;go_enter func24,ntmps24
 go_wp2_with fail
 refine(Mq _).mono ?_;rintro e w1 ⟨rfl,b⟩;have c:cF w1 w.heap.size wF 0:=by rw[b];exact⟨Rl _ _⟩
 have a:Below w.heap.size w w1:=by rw[b];exact(Q1 _ _).alloc (QU _) _
 have j:=T.below a;have o:=aa c;have m:=aa a;have g:=aa j;have h:=aa h3;clear b c a j T h3;generalize hv:w.heap.size=v at*;go_wp2_with fail
 refine(Hd rS s r _ v o.out (by decide) g.out h.out).mono ?_;rintro e w2 ⟨rfl,d,i⟩;have p:=aa d;have f:=aa i;clear d i;generalize iY rS s.data.toList=st at*;go_wp2_with fail
 refine(Jh st _ v p.out q.out (g.out.kept f.out h.out)).mono ?_;rintro e w5 ⟨rfl,l⟩;go_wp2_with fail
 go_ret
 refine⟨by rw[n.out];rfl,?_⟩;have h4:=f.out;have h1:=m.out;exact Gw hv h1 h4 l
theorem dC{w W:World}(h:yW w W){a v}(b:w.cell? a=some v):W.cell? a=some v:=
 (Rd (h.block a.block (Rj w _ b))).trans b
theorem NX:(yP.info? 9).map (fun i=>(i.zero,i.size,i.bytes))=some (some (sV ⟨#[]⟩),1,16):=by kernel_rfl
theorem CN{w:World}{base e a g n cap k b}(h:w.ownsRow base e a (lV (qA g) n cap) n b)(i:k<=n):w.ownsRow base e a (lV (qA g) k cap) k (b.take (k*a)):=by
 have q:=h.1;have r:k*a<=n*a:=Nat.mul_le_mul_right _ i;refine⟨by rw[Rs];omega,?_⟩;rcases h.2 with⟨h0,_⟩|⟨p,o,c,e1,d,f,s,j,l,m⟩
 ·cases h0
 ·cases e1
  refine .inr ⟨g,cap,c,rfl,d,f,by omega,j,l,?_⟩;rw[<-m,List.take_take];congr 1;omega
def eW(a:List (yB×yB)):List Value:=a.flatMap fun p=>[Value.string p.1,Value.string p.2]
theorem xZ(a b):eW (a++b)=eW a++eW b:=by simp[eW]
theorem qw:∀(a:List (yB×yB)) (k:Nat) (p:yB×yB),a[k]? =some p->(eW a)[k*2]? =some (sV p.1)/\(eW a)[k*2+1]? =some (sV p.2)
 | [],k,p,h=>by simp at h
 |q::t,0,p,h=>by simp at h;subst h;exact⟨rfl,rfl⟩
 |q::t,k+1,p,h=>by
  have:=qw t k p (by simpa using h)
  exact⟨by rw[show(k+1)*2=k*2+2 by omega];exact this.1,by rw[show(k+1)*2+1=k*2+1+2 by omega];exact this.2⟩
def cC(a b:yB):Bool:=Op.bytesLess a.toList b.toList
def aZ:List (yB×yB)->yB->Nat
 | [],_=>0
 |p::t,h=>if cC p.1 h then aZ t h+1 else 0
theorem sq:∀(a) (h),aZ a h<=a.length
 | [],_=>QU _
 |p::t,h=>by
  unfold aZ
  have:=sq t h
  simp only[Ro]
  split<;>omega
theorem ud(w:World)(x y t){n}(b:n=w.heap.size):∀j u,[x,y][j]? =some u->(w.alloc (.cells #[x,y] t)).cell? ((⟨n,0,none⟩:Addr).add j)=some u:=by
 subst b;intro j u c;have a:(⟨w.heap.size,0,none⟩:Addr).add j=⟨w.heap.size,j,none⟩:=by unfold Addr.add;split<;>simp_all
 rw[a,Q5 _ _ j _ _ _ (Rl w _)];show([x,y].toArray)[j]? =some u;rw[Sl];exact c
def others(a:List (yB×yB))(h:yB):List (yB×yB):=a.filter fun p=>!(p.1.toList == h.toList)
theorem LF(a:List (yB×yB))(h)(i:Nat)(p:yB×yB)(b:a[i]? =some p):others (a.take (i+1)) h=others (a.take i) h++(if(p.1.toList == h.toList) then [] else [p]):=by
 unfold others;rw[Sx,b,SI];cases hb:(p.1.toList == h.toList)<;>simp[hb]
theorem nR(a h):(others a h).length<=a.length:=List.length_filter_le _ _
def pR(a:List (yB×yB))(h:yB):Prop:=∀(i j:Nat) (p q:yB×yB),i<=j->a[i]? =some p->a[j]? =some q->cC q.1 h=true->cC p.1 h=true
theorem Co:∀(a:List (yB×yB)) (h) (k:Nat),k<=a.length->(∀j p,j<k->a[j]? =some p->cC p.1 h=true)->(∀p,a[k]? =some p->cC p.1 h=false)->aZ a h=k
 | [],h,k,hk,_,_=>by simp at hk;subst hk;rfl
 |p::t,h,0,_,_,h2=>by
  have:=h2 p rfl
  unfold aZ
  rw[this];rfl
 |p::t,h,k+1,hk,h1,h2=>by
  have e:=h1 0 p (by omega) rfl
  have:=Co t h k (by simpa using hk) (fun j q c b=>h1 (j+1) q (by omega) (by simpa using b)) (fun q b=>h2 q (by simpa using b))
  unfold aZ
  rw[e,QX rfl,this]
def eE(a:List (yB×yB))(h:yB):Bool:=match a[aZ a h]? with
 |some p=>p.1.toList == h.toList
 |none=>false
structure ri(w:World)(b c:Nat)(a:Option Addr)(cap:Nat)(ps:List (yB×yB)):Prop where
 cell:w.cell? ⟨b,c,none⟩=some (lV a ps.length cap)
 at_:∀(k:Nat) (p:yB×yB),ps[k]? =some p->∃g,a=some ⟨g,0,none⟩/\w.cell? ⟨g,k*2,none⟩=some (sV p.1)/\w.cell? ⟨g,k*2+1,none⟩=some (sV p.2)
theorem xD(w)(b:Nat)(h:yB)(s:0<h.size)(a)(cap:Nat)(d)(S:ri w b (h[0]'s).toNat a cap d)(G:pR d h)(W:d.length<4200000000000):
 Calls yP 83 #[pV (qA b),sV h] w fun e w'=>e=rV (tV #[iV .i64 (aZ d h),bV (eE d h)])/\∃n,w'=w.drewN n:=by
 have c0:=S.cell;have T:(h[0]'s).toNat<256:=(h[0]'s).toNat_lt;have y:Hid (∀k (_:k<d.length),∃p g,a=some ⟨g,0,none⟩/\w.cell? ⟨g,k*2,none⟩=some (sV p)/\(∃q,d[k]? =some (p,q))):=fun k O=>by
  have i:d[k]? =some d[k]:=QV O;obtain⟨g,e,c,_⟩:=S.at_ k _ i;exact⟨_,g,e,c,_,i⟩
 have X:(0:Int)<(h.size:Int):=by omega
 clear S;generalize hN:d.length=N at*;generalize hcc:(h[0]'s).toNat=C at*;have U:(C:Int)<256:=by omega
 go_enter func83,ntmps83
 go_wp2_with fail
 go_region
 go_wp2_with fail
 go_loopg [7,8] N (fun g u v wr=>∃lo hi:Nat,g=hi - lo/\lo<=hi/\hi<=N/\u=iV .i64 lo/\v=iV .i64 hi/\Hid (∀(j:Nat) (p:yB×yB),j<lo->d[j]? =some p->cC p.1 h=true)/\Hid (∀(j:Nat) (p:yB×yB),hi<=j->d[j]? =some p->cC p.1 h=false)/\wr=w.drew)
 case atStart=>exact⟨0,N,by omega,by omega,by omega,rfl,rfl,fun j p o=>by omega,fun j p o i=>by have:=(Rb.1 i).1;omega,rfl⟩
 case round=>
  obtain⟨lo,hi,H,h1,h2,rfl,rfl,B,A,rfl⟩:=hrel;have z:=aa H;clear H;by_cases V:lo<hi
  ·obtain⟨M,F⟩:=yX (lo+(hi - lo) / 2)
   have R:(lo:Int)+((hi:Int) - (lo:Int)) / 2=(M:Int):=by omega
   have L:lo<=M:=by omega
   have Q:M<hi:=by omega
   obtain⟨p,g,rfl,c1,q,f⟩:=y.out M (by omega);have K:(lo:Int)<(hi:Int):=by omega
   have E:(M:Int)<(N:Int):=by omega
   cases hls:Op.bytesLess p.toList h.toList
   ·have I:Hid (∀(j:Nat) (p:yB×yB),M<=j->d[j]? =some p->cC p.1 h=false):=fun j r o x=>by
     cases hx:cC r.1 h with
     |false=>rfl
     |true=>exact absurd (G M j (p,q) r o f x hx) (by unfold cC;rw[hls];decide)
    clear F f;go_wp2_with fail
    go_roundg (M - lo)
    case measure=>have:=z.out;omega
    case rel=>exact⟨lo,M,rfl,L,by omega,rfl,rfl,B,I,rfl⟩
   ·have J:Hid (∀(j:Nat) (p:yB×yB),j<M+1->d[j]? =some p->cC p.1 h=true):=fun j r o x=>G j M r (p,q) (by omega) x f hls
    clear F f;go_wp2_with fail
    go_roundg (hi - (M+1))
    case measure=>have:=z.out;omega
    case rel=>exact⟨M+1,hi,rfl,by omega,h2,by go_num,rfl,J,A,rfl⟩
  ·obtain rfl:lo=hi:=by omega
   have K:¬(lo:Int)<(lo:Int):=by omega
   have m:aZ d h=lo:=Co d h lo (by omega) B.out (fun p i=>A.out lo p (QU _) i);have D:=aa m;by_cases P:lo<N
   ·obtain⟨p,g,rfl,c1,q,f⟩:=y.out lo P;have l:eE d h=(p.toList == h.toList):=by unfold eE;rw[m,f]
    have t:=aa l;have E:(lo:Int)<(N:Int):=by omega
    clear m l f;go_wp2_with fail
    go_region
    go_wp2_with fail
    go_ret2
    exact⟨by rw[D.out,t.out];rfl,2,rfl⟩
   ·have l:eE d h=false:=by
     unfold eE;rw[m,RP (by omega)]
    have t:=aa l;have E:¬(lo:Int)<(N:Int):=by omega
    clear m l;go_wp2_with fail
    go_region
    go_wp2_with fail
    go_ret2
    exact⟨by rw[D.out,t.out];rfl,2,rfl⟩
theorem jq{P:Program}{w:World}{b:Array Oper}{rest:List Oper}{o:Oper}{a:Act}{Q:Exit->Act->World->Prop}(g:o.guard=none)(s x:Operand)(t:TypeId)
 (i:o.op=.call {callee:=.builtin .append,args:=#[s,x],argTypes:=#[t,t]}) (d e c:Value) (w':World) (k:a.eval s=d) (l:a.eval x=e)
 (j:(Builtin.append_ #[t,t] o.type #[d,e]).run P w=.ok c w') (h:wpList P b Q rest (a.put o.dst c) w'):wpList P b Q (o::rest) a w:=by
 refine wpList_plain g fun K f=>?_
 unfold Oper.wp execOp;simp only[i,resolve,invoke,builtin,Sem.run_bind,Sem.run_pure,Result.andThen_ok,List.map_toArray,List.map_cons,List.map_nil,k,l,j];exact f _ _ h
theorem Cp:∀(a:List (yB×yB)) (m:Nat),eW (a.take m)=(eW a).take (m*2)
 | [],m=>by simp[eW]
 |q::t,0=>by simp[eW]
 |q::t,m+1=>by
  have:=Cp t m
  rw[show(m+1)*2=m*2+2 by omega]
  show [Value.string q.1,Value.string q.2]++eW (t.take m)=_
  rw[this];rfl
def eO(a:List (yB×yB))(h t:yB):List (yB×yB):=(others a h).take (aZ (others a h) h)++[(h,t)]++(others a h).drop (aZ (others a h) h)
def iL(a:Nat->Value):Array Value:=((List.range 256).map a).toArray
theorem uB(a):(iL a).size=256:=by simp[iL]
theorem lX(a)(c:Nat)(h:c<256):(iL a)[c]? =some (a c):=by
 unfold iL;rw[Sl,Rp,List.getElem?_range h];rfl
def aU(a:Nat->Value)(c:Nat)(v:Value):Nat->Value:=fun d=>if d=c then v else a d
theorem xC(d)(c:Nat)(v)(h:c<256):(iL d).setIfInBounds c v=iL (aU d c v):=by
 apply Sn;intro j;rw[R4];by_cases a:c=j
 ·subst a;rw[QX rfl,QX (by rw[uB];exact h),lX _ _ h];simp[aU]
 ·rw[QW a];by_cases b:j<256
  ·rw[lX _ _ b,lX _ _ b];simp[aU,Ne.symm a]
  ·rw[Rk (by rw[uB];omega),Rk (by rw[uB];omega)]
structure bP(base:Nat)(w:World)(b:Nat)(vs:Nat->Value)(sh:Nat->List (yB×yB)):Prop where
 ah:w.heap[b]? =some (.cells (iL vs) 71 (0,0))
 own:∀c,c<256->w.ownsRow base 135 2 (vs c) (sh c).length (eW (sh c))
 sep:∀c d g,c<256->d<256->(vs c).ownBlock=some g->(vs d).ownBlock=some g->c=d
 ff:∀c g,c<256->(vs c).ownBlock=some g->g≠b
theorem bP.kx{base w b l i}(h:bP base w b l i)(c:Nat)(d:c<256):∃a cap,l c=lV a (i c).length cap/\ri w b c a cap (i c):=by
 obtain⟨a,cap,e,_,_,f⟩:=dr (h.own c d);refine⟨a,cap,e,⟨by rw[Q5 w b c _ _ _ h.ah,lX _ _ d,e],fun k p j=>?_⟩⟩;have m:=(Rb.1 j).1;rcases f with⟨_,h0,_⟩|⟨g,rfl⟩
 ·omega
 ·obtain⟨p1,p2⟩:=qw _ k p j;exact⟨g,rfl,dK (h.own c d) (by rw[e];rfl) _ _ p1,dK (h.own c d) (by rw[e];rfl) _ _ p2⟩
theorem Cq:∀(a:List (yB×yB)) (k:Nat) (p:yB×yB),eW (a.set k p)=((eW a).set (k*2) (sV p.1)).set (k*2+1) (sV p.2)
 | [],k,p=>by simp[eW]
 |q::t,0,p=>by simp[eW]
 |q::t,k+1,p=>by
  have:=Cq t k p
  rw[show(k+1)*2=k*2+2 by omega,show k*2+2+1=k*2+1+2 by omega]
  show [Value.string q.1,Value.string q.2]++eW (t.set k p)=_
  rw[this];rfl
def eK(L:List (yB×yB))(n:Nat):Nat->List (yB×yB)
 | 0=>L
 |k+1=>(eK L n k).set (n - k) (L.getD (n - k - 1) (⟨#[]⟩,⟨#[]⟩))
theorem pX(L)(n:Nat):∀k,(eK L n k).length=L.length
 | 0=>rfl
 |k+1=>by show((eK L n k).set _ _).length=_;rw[R3,pX L n k]
theorem wQ(L)(n:Nat):∀k j,j+k<=n->(eK L n k)[j]? =L[j]?
 | 0,j,_=>rfl
 |k+1,j,h=>by
  show((eK L n k).set (n - k) _)[j]? =_
  rw[RX (by omega)]
  exact wQ L n k j (by omega)
theorem AG(L:List (yB×yB))(n:Nat)(a:L.length=n+1):∀k j,k<=n->n<j+k->j<=n->(eK L n k)[j]? =L[j - 1]?
 | 0,j,_,h,hj=>by omega
 |k+1,j,hk,h,hj=>by
  show((eK L n k).set (n - k) _)[j]? =_
  by_cases e:n - k=j
  ·subst e
   rw[List.getElem?_set_self (by rw[pX,a];omega),Q3,QV (by omega)];rfl
  ·rw[RX e]
   exact AG L n a k j (by omega) (by omega) hj
theorem N2:(yP.info? 135).map (fun i=>(i.zero,i.size,i.bytes))=some (some (gV #[sV ⟨#[]⟩,sV ⟨#[]⟩]),2,32):=by kernel_rfl
structure aN(T:Nat->Prop)(w w':World):Prop where
 os:w'.os=w.os
 tape:w'.tape=w.tape
 output:w'.output=w.output
 size:w.heap.size<=w'.heap.size
 block:∀k,k<w.heap.size->¬T k->w'.heap[k]? =w.heap[k]?
theorem aN.set{T w w'}(h:aN T w w')(a:Addr)(v)(b:T a.block\/w.heap.size<=a.block):aN T w (w'.setCell a v):=
 ⟨h.os,h.tape,h.output,by simpa using h.size,fun k d c=>by
  rw[Rq _ _ _ k (fun e=>by rcases b with b|b;exact c (by rw[e];exact b);omega)]
  exact h.block k d c⟩
def aK(a:Nat->List (yB×yB))(c:Nat)(l:List (yB×yB)):Nat->List (yB×yB):=fun d=>if d=c then l else a d
theorem bP.grown{base w b j x}(S:bP base w b j x)(c:Nat)(n:c<256)(o:Obj)(l:List (yB×yB))
 (g cap:Nat) (w1:World) (v:w1.ownsRow base 135 2 (lV (qA g) l.length cap) l.length (eW l)) (m:(w.drew.alloc o).grownBy w1 (j c).ownBlock) (t:(j c).ownBlock=some g\/g=w.heap.size+1):
 w1.heap[b]? =some (.cells (iL j) 71 (0,0))/\bP base (w1.setCell ⟨b,c,none⟩ (lV (qA g) l.length cap)) b (aU j c (lV (qA g) l.length cap)) (aK x c l)/\
  aN (fun k=>k=b\/(j c).ownBlock=some k) w (w1.setCell ⟨b,c,none⟩ (lV (qA g) l.length cap))/\g<w1.heap.size:=by
 have y:b<w.heap.size:=(Q0.1 S.ah).1;have E:=m.size;have D:(w.drew.alloc o).heap.size=w.heap.size+1:=by simp
 have s:∀k,k<w.heap.size->(w.drew.alloc o).heap[k]? =w.heap[k]? :=fun k r=>RL w.drew o k r
 have p:w1.heap[b]? =some (.cells (iL j) 71 (0,0)):=by
  rw[m.block b (by omega) (fun e=>S.ff c b n e.symm rfl),s b y];exact S.ah
 have u:g≠b:=by
  rcases t with h|h
  ·exact S.ff c g n h
  ·omega
 have z:g<w1.heap.size:=(v.lt g rfl).2;refine⟨p,⟨?_,?_,?_,?_⟩,?_,z⟩
 ·rw[RM w1 b c _ _ (0,0) _ p,R7 w1 b _ _ _ _ p,xC _ _ _ n]
 ·intro d f;by_cases e:d=c
  ·subst e;simp only[aU,aK,RJ];exact cK v fun a i=>Rq _ _ _ a (by show a≠b;simp[Value.ownBlock] at i;subst i;exact u)
  ·simp only[aU,aK,e,Ry];refine cK (S.own d f) fun a i=>?_
   have A:=((S.own d f).lt a i).2;rw[Rq _ _ _ a (by show a≠b;exact S.ff d a f i),m.block a (by omega) (fun h=>e (S.sep d c a f n i h.symm)),s a A]
 ·intro d1 d2 a h1 h2 e1 e2;have key:∀d,d<256->d≠c->(j d).ownBlock=some g->False:=fun d f C i=>by
   rcases t with h|h
   ·exact C (S.sep d c g f n i h)
   ·have:=((S.own d f).lt g i).2;omega
  by_cases q1:d1=c<;>by_cases q2:d2=c
  ·rw[q1,q2]
  ·simp only[aU,q1,RJ] at e1;simp only[aU,q2,Ry] at e2;simp[Value.ownBlock] at e1;subst e1;exact(key d2 h2 q2 e2).elim
  ·simp only[aU,q2,RJ] at e2;simp only[aU,q1,Ry] at e1;simp[Value.ownBlock] at e2;subst e2;exact(key d1 h1 q1 e1).elim
  ·simp only[aU,q1,Ry] at e1;simp only[aU,q2,Ry] at e2;exact S.sep d1 d2 a h1 h2 e1 e2
 ·intro d a f e;by_cases q:d=c
  ·simp only[aU,q,RJ] at e;simp[Value.ownBlock] at e;subst e;exact u
  ·simp only[aU,q,Ry] at e;exact S.ff d a f e
 ·exact aN.set (T:=fun k=>k=b\/(j c).ownBlock=some k) (w:=w) (w':=w1) ⟨m.os,m.tape,m.output,by omega,fun k r B=>by
   rw[m.block k (by omega) (fun h=>B (.inr h.symm)),s k r]⟩ ⟨b,c,none⟩ _ (.inl (.inl rfl))
theorem bP.put{base w b l j}(S:bP base w b l j)(c:Nat)(m:c<256)(g:Nat)(f:(l c).ownBlock=some g)(k:Nat)(p:yB×yB):
 bP base ((w.setCell ⟨g,k*2,none⟩ (sV p.1)).setCell ⟨g,k*2+1,none⟩ (sV p.2)) b l (aK j c ((j c).set k p)):=by
 have n:=S.ff c g m f;refine⟨?_,?_,S.sep,S.ff⟩
 ·rw[Rq _ _ _ b (by show b≠g;exact n.symm),Rq _ _ _ b (by show b≠g;exact n.symm)];exact S.ah
 ·intro d i;by_cases e:d=c
  ·subst e;simp only[aK,RJ];rw[Cq,R3];exact ss (ss (S.own d i) f _ _) f _ _
  ·simp only[aK,e,Ry];refine cK (S.own d i) fun a q=>?_
   have o:a≠g:=fun h=>e (S.sep d c g i m (by rw[<-h];exact q) f)
   rw[Rq _ _ _ a (by show a≠g;exact o),Rq _ _ _ a (by show a≠g;exact o)]
theorem Ke(base:Nat)(w)(b:Nat)(f)(a:Nat->List (yB×yB))(S:bP base w b f a)(c at_:Nat)(m:c<256)(B6:at_<=(a c).length)(hn:(a c).length<4000000000000)(C5:base<=w.heap.size):
 Calls yP 118 #[pV (qA b),iV .u8 c,iV .i64 at_] w fun e w'=>e=rV (tV #[])/\
  (∃l,bP base w' b (aU f c l) (aK a c (eK (a c++[(⟨#[]⟩,⟨#[]⟩)]) (a c).length ((a c).length - at_)))/\∀g,l.ownBlock=some g->(f c).ownBlock=some g\/w.heap.size<=g)/\aN (fun k=>k=b\/(f c).ownBlock=some k) w w':=by
 have B7:b<w.heap.size:=(Q0.1 S.ah).1;have c0:w.cell? ⟨b,c,none⟩=some (f c):=by rw[Q5 w b c _ _ _ S.ah];exact lX _ _ m
 have B3:(w.alloc (.cells #[sV ⟨#[]⟩,sV ⟨#[]⟩] 135)).cell? ⟨b,c,none⟩=some (f c):=by
  rw[Rd (w:=w) (RL _ _ _ B7)];exact c0
 obtain⟨i0,Y,A3,A4,A5⟩:=Sf N2;have C6:(c:Int)<256:=by omega
 have R:=aa (S.own c m);have O:Hid (∀g5 i w5,w5.ownsRow base 135 2 (lV (qA g5) ((a c).length+1) i) ((a c).length+1) (eW (a c)++[sV ⟨#[]⟩,sV ⟨#[]⟩])->(w.drew.alloc (.cells #[sV ⟨#[]⟩,sV ⟨#[]⟩] 135)).grownBy w5 (f c).ownBlock->
  ((f c).ownBlock=some g5\/g5=w.heap.size+1)->
  Hid (bP base (w5.setCell ⟨b,c,none⟩ (lV (qA g5) ((a c).length+1) i)) b (aU f c (lV (qA g5) ((a c).length+1) i)) (aK a c (a c++[(⟨#[]⟩,⟨#[]⟩)]))/\aN (fun k=>k=b\/(f c).ownBlock=some k) w (w5.setCell ⟨b,c,none⟩ (lV (qA g5) ((a c).length+1) i))/\((f c).ownBlock=some g5\/w.heap.size<=g5))/\
   w5.cell? ⟨b,c,none⟩=some (f c)/\w5.frozen? ⟨b,c,none⟩=false):=by
  intro g5 i w5 o n v;have Z:(a c++[((⟨#[]⟩:yB),(⟨#[]⟩:yB))]).length=(a c).length+1:=by simp
  have:=S.grown c m _ (a c++[(⟨#[]⟩,⟨#[]⟩)]) g5 i w5 (by rw[Z,xZ];exact o) n v;rw[Z] at this;obtain⟨h1,h2,h3,_⟩:=this;refine⟨⟨h2,h3,?_⟩,by rw[Q5 w5 b c _ _ _ h1];exact lX _ _ m,Rx w5 b c _ _ h1⟩;rcases v with v|v
  ·exact .inl v
  ·exact .inr (by omega)
 clear S;go_enter func118,ntmps118
 go_upto_region 0 with fail
 go_cut [] (fun wx=>∃g5 i,Hid (bP base wx b (aU f c (lV (qA g5) ((a c).length+1) i)) (aK a c (a c++[(⟨#[]⟩,⟨#[]⟩)])))/\Hid (aN (fun k=>k=b\/(f c).ownBlock=some k) w wx)/\Hid ((f c).ownBlock=some g5\/w.heap.size<=g5))
 case first=>
  go_region_law (refine step_append_lies _ rfl (.tmp 14) (.tmp 16) 68 rfl base 135 i0 (gV #[sV ⟨#[]⟩,sV ⟨#[]⟩]) 2 32 underlying68 Y A3 A4 A5 rfl (by decide) (f c) (a c).length (eW (a c)) (by simp[Act.eval]) (R.out.drew.alloc _) ⟨w.heap.size,0,none⟩ 1 1 [sV ⟨#[]⟩,sV ⟨#[]⟩] (by simp[Act.eval]) rfl (ud _ _ _ _ rfl) (by intro u hu;simp at hu;subst hu;rfl) (by omega) (by unfold maxLen;omega) (by omega) (by simp;omega) _ rfl ?_;intro g5 i w5 hown5 hgr5 hat5 hlt5;obtain⟨HF5,e3,g3⟩:=O.out g5 i w5 hown5 hgr5 (by simpa using hat5);clear hown5 hgr5 hat5 hlt5)
  all_goals
   go_wp2_with fail
   go_meet
   exact⟨g5,i,HF5.out.1,HF5.out.2.1,HF5.out.2.2⟩
 case rest=>
  obtain⟨g5,i,y,HW,E⟩:=hcut;clear O R c0 B3;obtain⟨N,B⟩:=yX ((a c).length)
  obtain⟨L,A⟩:=yX (a c++[((⟨#[]⟩:yB),(⟨#[]⟩:yB))])
  have T:L.length=N+1:=by rw[A,B];simp
  obtain⟨V,C⟩:=yX (aU f c (lV (qA g5) (N+1) i))
  have H:V c=lV (qA g5) (N+1) i:=by rw[C];simp[aU]
  rw[<-B,<-A,<-C] at y;have d0:wc.cell? ⟨b,c,none⟩=some (lV (qA g5) (N+1) i):=by
   rw[Q5 wc b c _ _ _ y.out.ah,lX _ _ m,H]
  have x:=aa T;have F:=aa H;have A6:Hid (∀W,bP base W b V (aK a c (eK L N (N - at_)))->∃l,bP base W b (aU f c l) (aK a c (eK (a c++[(⟨#[]⟩,⟨#[]⟩)]) (a c).length ((a c).length - at_)))/\∀g,l.ownBlock=some g->(f c).ownBlock=some g\/w.heap.size<=g):=fun W h=>by
   rw[C,A,B] at h;exact⟨_,h,fun g n=>by simp[Value.ownBlock] at n;subst n;exact E.out⟩
  have A8:Hid (∀W k,bP base W b V (aK a c (eK L N k))->W.cell? ⟨b,c,none⟩=some (lV (qA g5) (N+1) i)/\∀j p,(eK L N k)[j]? =some p->W.cell? ⟨g5,j*2,none⟩=some (sV p.1)/\W.cell? ⟨g5,j*2+1,none⟩=some (sV p.2)/\W.frozen? ⟨g5,j*2,none⟩=false/\W.frozen? ⟨g5,j*2+1,none⟩=false):=fun W k h=>by
   have o:=h.own c m;simp only[aK,RJ] at o;have D:(V c).ownBlock=some g5:=by rw[F.out];rfl
   refine⟨by rw[Q5 W b c _ _ _ h.ah,lX _ _ m,F.out],fun j p I=>?_⟩;obtain⟨p1,p2⟩:=qw _ j p I;exact⟨dK o D _ _ p1,dK o D _ _ p2,ju o D _,ju o D _⟩
  have B1:Hid (∀W k p,k<N->L[N - k - 1]? =some p->bP base W b V (aK a c (eK L N k))->bP base ((W.setCell ⟨g5,(N - k)*2,none⟩ (sV p.1)).setCell ⟨g5,(N - k)*2+1,none⟩ (sV p.2)) b V (aK a c (eK L N (k+1)))):=fun W k p hk I h=>by
   have:=h.put c m g5 (by rw[F.out];rfl) (N - k) p;have e:aK (aK a c (eK L N k)) c ((aK a c (eK L N k) c).set (N - k) p)=aK a c (eK L N (k+1)):=by
    funext d
    by_cases X:d=c
    ·simp only[aK,X,RJ];show(eK L N k).set (N - k) p=(eK L N k).set (N - k) (L.getD (N - k - 1) _);rw[Q3,I];rfl
    ·simp only[aK,X,Ry]
   rw[e] at this;exact this
  have A9:=aa y;have C4:at_<=N:=by omega
  have C2:N<4000000000000:=by omega
  clear C A B H T B6 hn y Y A3 A4 A5;go_wp2_with fail
  clear d0;go_loopg [6] (N - at_) (fun g r wr=>∃k:Nat,g=N - at_ - k/\k<=N - at_/\r=iV .i64 ((N:Int) - (k:Int))/\Hid (bP base wr b V (aK a c (eK L N k)))/\Hid (aN (fun q=>q=b\/(f c).ownBlock=some q) w wr))
  case atStart=>exact⟨0,rfl,by omega,by go_num,A9,HW⟩
  case round=>
   obtain⟨k,n,hk,rfl,s,t⟩:=hrel;have HG:=aa n;clear n;obtain⟨e0,z⟩:=A8.out wr k s.out;by_cases C7:k<N - at_
   ·obtain⟨M,G⟩:=yX (N - k)
    have B5:(N:Int) - (k:Int)=(M:Int):=by omega
    obtain⟨Q,U⟩:=yX (N - k - 1)
    have B9:(M:Int) - 1=(Q:Int):=by omega
    have J:L[N - k - 1]? =some (L[N - k - 1]'(by rw[x.out];omega)):=QV _;have A0:(eK L N k)[N - k - 1]? =L[N - k - 1]? :=wQ L N k _ (by omega);have A1:(eK L N k)[N - k]? =some ((eK L N k)[N - k]'(by rw[pX,x.out];omega)):=QV _;obtain⟨s1,s2,_,_⟩:=z _ _ (A0.trans J);obtain⟨t1,t2,t3,t4⟩:=z _ _ A1;have K:=B1.out wr.drew k _ (by omega) J ⟨s.out.ah,s.out.own,s.out.sep,s.out.ff⟩;generalize L[N - k - 1]'(by rw[x.out];omega)=p at*;generalize (eK L N k)[N - k]'(by rw[pX,x.out];omega)=pu at*;rw[<-G] at t1 t2 t3 t4 K;rw[<-U] at s1 s2;rw[B5];have B0:=aa K;have C3:(at_:Int)<(M:Int):=by omega
    have C0:(M:Int)<(N:Int)+1:=by omega
    have C1:(Q:Int)<(N:Int)+1:=by omega
    have C8:IntKind.i64.wrap (Q:Int)=(Q:Int):=by rw[RE];omega
    have C9:IntKind.i64.wrap (M:Int)=(M:Int):=by rw[RE];omega
    have A7:=aa G;have B2:Hid (aN (fun q=>q=b\/(f c).ownBlock=some q) w ((wr.drew.setCell ⟨g5,M*2,none⟩ (sV p.1)).setCell ⟨g5,M*2+1,none⟩ (sV p.2))):=
     aN.set (w':=wr.drew.setCell ⟨g5,M*2,none⟩ (sV p.1)) (aN.set (w':=wr.drew) ⟨t.out.os,t.out.tape,t.out.output,t.out.size,t.out.block⟩ ⟨g5,M*2,none⟩ _ (E.out.elim (fun h=>.inl (.inr h)) .inr)) ⟨g5,M*2+1,none⟩ _ (E.out.elim (fun h=>.inl (.inr h)) .inr)
    clear J A0 A1 K z U G;go_wp2_with fail
    go_region
    all_goals
     go_wp2_with fail
     go_roundg (N - at_ - (k+1))
     case measure=>have:=HG.out;omega
     case rel=>exact⟨k+1,rfl,by omega,by have:=A7.out;go_num,B0,B2⟩
   ·obtain rfl:k=N - at_:=by omega
    have B4:(N:Int) - ((N - at_:Nat):Int)=(at_:Int):=by omega
    rw[B4];have B8:¬(at_:Int)<(at_:Int):=by omega
    obtain⟨l,A2⟩:=A6.out wr s.out;have P:Hid ((bP base wr b (aU f c l) (aK a c (eK (a c++[(⟨#[]⟩,⟨#[]⟩)]) (a c).length ((a c).length - at_)))/\∀g,l.ownBlock=some g->(f c).ownBlock=some g\/w.heap.size<=g)/\aN (fun q=>q=b\/(f c).ownBlock=some q) w wr):=⟨A2,t.out⟩
    clear A2 z;go_wp2_with fail
    go_end0
    exact⟨rfl,⟨l,P.out.1⟩,P.out.2⟩
theorem It(a:List (yB×yB))(e q:yB×yB)(k:Nat)(f:k<=a.length):(eK (a++[e]) a.length (a.length - k)).set k q=a.take k++[q]++a.drop k:=by
 apply SK;intro j;have g:(eK (a++[e]) a.length (a.length - k)).length=a.length+1:=by rw[pX];simp
 have c:(a.take k++[q]).length=k+1:=by rw[Q4,Rs];simp;omega
 rcases Nat.lt_trichotomy j k with b|b|b
 ·rw[RX (by omega),wQ _ _ _ j (by omega),RA (by omega),Rn,RA (by rw[Rs];omega),Sm,QX b]
 ·subst b;rw[List.getElem?_set_self (by omega),RA (by omega),RY (by rw[Rs];omega)];simp[Rs,Nat.min_eq_left f]
 ·rw[RX (by omega)];by_cases d:j<=a.length
  ·rw[AG _ _ (by simp) _ j (by omega) (by omega) d,RA (by omega),RY (by omega),c,Sw];congr 1;omega
  ·rw[RP (by omega),RP (by rw[Q4,c,Q8];omega)]
def jR(a:List (yB×yB))(h t:yB):List (yB×yB):=if eE a h then a.set (aZ a h) (h,t) else a.take (aZ a h)++[(h,t)]++a.drop (aZ a h)
theorem bP.same{base}{w w':World}{b e d}(S:bP base w b e d)(a:w'.heap=w.heap):bP base w' b e d:=
 ⟨by rw[a];exact S.ah,fun c f=>cK (S.own c f) fun g _=>by rw[a],S.sep,S.ff⟩
theorem EB{a h}(b:eE a h=true):aZ a h<a.length:=by
 unfold eE at b;rcases Nat.lt_or_ge (aZ a h) a.length with c|c
 ·exact c
 ·rw[RP c] at b;cases b
theorem aN.trans{T w w1 w2}(h:aN T w w1)(k:aN T w1 w2):aN T w w2:=
 ⟨k.os.trans h.os,k.tape.trans h.tape,k.output.trans h.output,Q7 h.size k.size,fun q b a=>(k.block q (Q6 b h.size) a).trans (h.block q b a)⟩
theorem bP.last{base W b V d}(S:bP base W b V d)(c:Nat)(f:c<256)(k:Nat)(j:k<(d c).length)(p:yB×yB):
 ∃g cap u0 u1,V c=lV (qA g) (d c).length cap/\W.cell? ⟨b,c,none⟩=some (lV (qA g) (d c).length cap)/\W.cell? ⟨g,k*2,none⟩=some u0/\W.cell? ⟨g,k*2+1,none⟩=some u1/\W.frozen? ⟨g,k*2,none⟩=false/\W.frozen? ⟨g,k*2+1,none⟩=false/\
  bP base ((W.drew.setCell ⟨g,k*2,none⟩ (sV p.1)).setCell ⟨g,k*2+1,none⟩ (sV p.2)) b V (aK d c ((d c).set k p)):=by
 obtain⟨a,cap,e,i⟩:=S.kx c f;have l:(d c)[k]? =some ((d c)[k]'j):=QV j;obtain⟨g,rfl,c1,c2⟩:=i.at_ k _ l;have h:(V c).ownBlock=some g:=by rw[e];rfl
 exact⟨g,cap,_,_,e,i.cell,c1,c2,ju (S.own c f) h _,ju (S.own c f) h _,(S.same (w':=W.drew) rfl).put c f g h k p⟩
def jG(w:World)(v a:Value):Prop:=∀g,a.ownBlock=some g->v.ownBlock=some g\/w.heap.size<=g
theorem BH(base:Nat)(w)(b:Nat)(j)(f:Nat->List (yB×yB))(S:bP base w b j f)(h t:yB)(i:0<h.size)(s:pR (f (h[0]'i).toNat) h)(Z:(f (h[0]'i).toNat).length<4000000000000)(A2:base<=w.heap.size):
 Calls yP 85 #[pV (qA b),sV h,sV t] w fun e w'=>e=rV (tV #[])/\
  (∃m,bP base w' b (aU j (h[0]'i).toNat m) (aK f (h[0]'i).toNat (jR (f (h[0]'i).toNat) h t))/\jG w (j (h[0]'i).toNat) m)/\aN (fun k=>k=b\/(j (h[0]'i).toNat).ownBlock=some k) w w':=by
 have z:(h[0]'i).toNat<256:=(h[0]'i).toNat_lt;obtain⟨a,cap,Q,K⟩:=S.kx _ z;have C:=aa (xD w b h i a cap _ K s (by omega));have P:=sq (f (h[0]'i).toNat) h;have R:Hid (eE (f (h[0]'i).toNat) h=true->aZ (f (h[0]'i).toNat) h<(f (h[0]'i).toNat).length):=EB;have U:=aa S;have A4:(0:Int)<(h.size:Int):=by omega
 have H:Hid (jR (f (h[0]'i).toNat) h t=if eE (f (h[0]'i).toNat) h then(f (h[0]'i).toNat).set (aZ (f (h[0]'i).toNat) h) (h,t) else(f (h[0]'i).toNat).take (aZ (f (h[0]'i).toNat) h)++[(h,t)]++(f (h[0]'i).toNat).drop (aZ (f (h[0]'i).toNat) h)):=rfl;clear S K s;generalize jR (f (h[0]'i).toNat) h t=sp at*;generalize eE (f (h[0]'i).toNat) h=hit at*;generalize aZ (f (h[0]'i).toNat) h=k at*;generalize hcc:(h[0]'i).toNat=c at*;have A3:(c:Int)<256:=by omega
 go_enter func85,ntmps85
 go_wp2_with fail
 refine C.out.mono ?_;rintro e w1 ⟨rfl,n1,v⟩;have u:w1.heap=w.heap:=by rw[v];rfl
 have x:=U.out.same u;have A1:=aa x;have I:Hid (aN (fun q=>q=b\/(j c).ownBlock=some q) w w1):=⟨by rw[v];rfl,by rw[v];rfl,by rw[v];rfl,by rw[u];exact QU _,fun q _ _=>by rw[u]⟩
 have A:w1.heap.size=w.heap.size:=by rw[u]
 cases hit
 ·have G:=aa (Ke base w1 b j f x c k z P Z (by omega));clear x v C;go_wp2_with fail
  refine G.out.mono ?_;rintro e w2 ⟨rfl,⟨m,J,F⟩,L⟩;have O:(eK (f c++[((⟨#[]⟩:yB),(⟨#[]⟩:yB))]) (f c).length ((f c).length - k)).length=(f c).length+1:=by rw[pX];simp
  obtain⟨g,V,u0,u1,o,d0,d1,d2,f1,f2,p⟩:=J.last c z k (by simp only[aK,RJ];omega) (h,t);simp only[aK,RJ] at o d0;simp only[aU,RJ] at o;rw[O] at o d0;have y:aK (aK f c (eK (f c++[(⟨#[]⟩,⟨#[]⟩)]) (f c).length ((f c).length - k))) c ((aK f c (eK (f c++[(⟨#[]⟩,⟨#[]⟩)]) (f c).length ((f c).length - k)) c).set k (h,t))=aK f c sp:=by
   funext d
   by_cases s:d=c
   ·simp only[aK,s,RJ];rw[It _ _ _ _ P,H.out];rfl
   ·simp only[aK,s,Ry]
  rw[y] at p;have B:=aa p;have r:(j c).ownBlock=some g\/w.heap.size<=g:=by
   have:=F g (by rw[o];rfl);rw[A] at this;exact this
  have D:Hid (aN (fun q=>q=b\/(j c).ownBlock=some q) w ((w2.drew.setCell ⟨g,k*2,none⟩ (sV h)).setCell ⟨g,k*2+1,none⟩ (sV t))):=by
   have l:=I.out.trans L;exact aN.set (w':=w2.drew.setCell ⟨g,k*2,none⟩ (sV h)) (aN.set (w':=w2.drew) ⟨l.os,l.tape,l.output,l.size,l.block⟩ ⟨g,k*2,none⟩ _ (r.elim (fun h=>.inl (.inr h)) .inr)) ⟨g,k*2+1,none⟩ _ (r.elim (fun h=>.inl (.inr h)) .inr)
  have T:Hid (jG w (j c) m):=fun W E=>by
   have:=F W E;rw[A] at this;exact this
  have X:(k:Int)<((f c).length:Int)+1:=by omega
  have A0:IntKind.i64.wrap (k:Int)=(k:Int):=by rw[RE];omega
  clear J L p y F r o O G u A Q;generalize (f c).length=M at*;go_wp2_with fail
  go_region
  all_goals
   go_wp2_with fail
   go_end0
   exact⟨rfl,⟨m,B.out,T.out⟩,D.out⟩
 ·have Y:=R.out rfl;obtain⟨g,V,u0,u1,o,d0,d1,d2,f1,f2,p⟩:=x.last c z k Y (h,t);have y:aK f c ((f c).set k (h,t))=aK f c sp:=by rw[H.out];rfl
  rw[y] at p;have N:aU j c (j c)=j:=by funext d;by_cases s:d=c<;>simp[aU,s]
  have B:Hid (bP base ((w1.drew.setCell ⟨g,k*2,none⟩ (sV h)).setCell ⟨g,k*2+1,none⟩ (sV t)) b (aU j c (j c)) (aK f c sp)):=by
   show bP _ _ _ _ _;rw[N];exact p
  have r:(j c).ownBlock=some g:=by rw[o];rfl
  have D:Hid (aN (fun q=>q=b\/(j c).ownBlock=some q) w ((w1.drew.setCell ⟨g,k*2,none⟩ (sV h)).setCell ⟨g,k*2+1,none⟩ (sV t))):=by
   have l:=I.out;exact aN.set (w':=w1.drew.setCell ⟨g,k*2,none⟩ (sV h)) (aN.set (w':=w1.drew) ⟨l.os,l.tape,l.output,l.size,l.block⟩ ⟨g,k*2,none⟩ _ (.inl (.inr r))) ⟨g,k*2+1,none⟩ _ (.inl (.inr r))
  have X:(k:Int)<((f c).length:Int):=by omega
  have A0:IntKind.i64.wrap (k:Int)=(k:Int):=by rw[RE];omega
  clear x v C p y N r o u A Q;generalize (f c).length=M at*;go_wp2_with fail
  go_region
  all_goals
   go_wp2_with fail
   go_end0
   exact⟨rfl,⟨j c,B.out,fun _ E=>.inl E⟩,D.out⟩
def dL(L:List (yB×yB))(i:Nat):Nat->List (yB×yB)
 | 0=>L
 |k+1=>(dL L i k).set (i+k) (L.getD (i+k+1) (⟨#[]⟩,⟨#[]⟩))
theorem pB(L)(i:Nat):∀k,(dL L i k).length=L.length
 | 0=>rfl
 |k+1=>by show((dL L i k).set _ _).length=_;rw[R3,pB L i k]
theorem zC(L)(i:Nat):∀k j,(j<i\/i+k<=j)->(dL L i k)[j]? =L[j]?
 | 0,j,_=>rfl
 |k+1,j,h=>by
  show((dL L i k).set (i+k) _)[j]? =_
  rw[RX (by omega)]
  exact zC L i k j (by omega)
theorem FK(L:List (yB×yB))(i:Nat):∀k j,i+k<L.length->i<=j->j<i+k->(dL L i k)[j]? =L[j+1]?
 | 0,j,_,_,h=>by omega
 |k+1,j,hL,h1,h2=>by
  show((dL L i k).set (i+k) _)[j]? =_
  by_cases e:i+k=j
  ·subst e
   rw[List.getElem?_set_self (by rw[pB];omega),Q3,QV (by omega)];rfl
  ·rw[RX e]
   exact FK L i k j (by omega) h1 (by omega)
theorem OW(L:List (yB×yB))(i n:Nat)(e:yB×yB)(c:L.length=n+1)(hi:i<=n):((dL L i (n - i)).set n e).take n=L.eraseIdx i:=by
 apply SK;intro j;rw[Sm];by_cases b:j<n
 ·rw[QX b,RX (by omega),List.getElem?_eraseIdx];by_cases a:j<i
  ·rw[QX a,zC _ _ _ _ (.inl a)]
  ·rw[QW a,FK _ _ _ _ (by omega) (by omega) (by omega)]
 ·rw[QW b,RP (by rw[List.length_eraseIdx];split<;>omega)]
theorem bP.cut{base w b i h}(S:bP base w b i h)(c:Nat)(m:c<256)(g cap n:Nat)(k:i c=lV (qA g) (h c).length cap)(r:n<=(h c).length):
 bP base (w.setCell ⟨b,c,none⟩ (lV (qA g) n cap)) b (aU i c (lV (qA g) n cap)) (aK h c ((h c).take n)):=by
 have p:=S.ff c g m (by rw[k];rfl);have l:∀d,d<256->(aU i c (lV (qA g) n cap) d).ownBlock=(i d).ownBlock:=fun d _=>by
  by_cases e:d=c
  ·subst e;simp only[aU,RJ];rw[k];rfl
  ·simp only[aU,e,Ry]
 refine⟨?_,?_,?_,?_⟩
 ·rw[RM w b c _ _ (0,0) _ S.ah,R7 w b _ _ _ _ S.ah,xC _ _ _ m]
 ·intro d f;by_cases e:d=c
  ·subst e;simp only[aU,aK,RJ];have o:=S.own d f;rw[k] at o;have s:=CN o r;have q:((h d).take n).length=n:=by rw[Rs];omega
   rw[q,Cp];exact cK s fun a j=>Rq _ _ _ a (by show a≠b;simp[Value.ownBlock] at j;subst j;exact p)
  ·simp only[aU,aK,e,Ry];exact cK (S.own d f) fun a j=>Rq _ _ _ a (by show a≠b;exact S.ff d a f j)
 ·intro d1 d2 a h1 h2 e1 e2;rw[l d1 h1] at e1;rw[l d2 h2] at e2;exact S.sep d1 d2 a h1 h2 e1 e2
 ·intro d a f e;rw[l d f] at e;exact S.ff d a f e
theorem IY(base:Nat)(w)(b:Nat)(l)(f:Nat->List (yB×yB))(S:bP base w b l f)(c i:Nat)(n:c<256)(hi:i<(f c).length)(hn:(f c).length<4000000000000):
 Calls yP 84 #[pV (qA b),iV .u8 c,iV .i64 i] w fun e w'=>e=rV (tV #[])/\
  (∃v',bP base w' b (aU l c v') (aK f c ((f c).eraseIdx i))/\v'.ownBlock=(l c).ownBlock)/\aN (fun k=>k=b\/(l c).ownBlock=some k) w w':=by
 obtain⟨a,cap,s,P⟩:=S.kx c n;have X:(f c)[i]? =some ((f c)[i]'hi):=QV hi;obtain⟨g,rfl,B0,B1⟩:=P.at_ i _ X;obtain⟨L,z⟩:=yX (f c)
 obtain⟨N,A⟩:∃N,L.length=N+1:=⟨L.length - 1,by rw[z];omega⟩
 have m:(l c).ownBlock=some g:=by rw[s];rfl
 have D:(f c).length=N+1:=by rw[<-z];exact A
 rw[D] at s;have t:=aa A;have v:=aa m;have B3:=aa s;have O:Hid (bP base w b l (aK f c (dL L i 0))):=by
  show bP _ _ _ _ _;have e:aK f c (dL L i 0)=f:=by funext d;by_cases o:d=c<;>simp[aK,o,dL,z]
  rw[e];exact S
 have J:Hid (((dL L i (N - i)).set N (⟨#[]⟩,⟨#[]⟩)).take N=(f c).eraseIdx i):=by
  have:=OW L i N (⟨#[]⟩,⟨#[]⟩) A (by omega);rw[z] at this⊢;exact this
 have K:Hid (∀W k,bP base W b l (aK f c (dL L i k))->W.cell? ⟨b,c,none⟩=some (lV (qA g) (N+1) cap)/\W.frozen? ⟨b,c,none⟩=false/\∀j p,(dL L i k)[j]? =some p->W.cell? ⟨g,j*2,none⟩=some (sV p.1)/\W.cell? ⟨g,j*2+1,none⟩=some (sV p.2)/\W.frozen? ⟨g,j*2,none⟩=false/\W.frozen? ⟨g,j*2+1,none⟩=false):=fun W k h=>by
  have B:=h.own c n;simp only[aK,RJ] at B;refine⟨by rw[Q5 W b c _ _ _ h.ah,lX _ _ n,s],Rx W b c _ _ h.ah,fun j p G=>?_⟩;obtain⟨p1,p2⟩:=qw _ j p G;exact⟨dK B m _ _ p1,dK B m _ _ p2,ju B m _,ju B m _⟩
 have A3:Hid (∀W k p,L[i+k+1]? =some p->bP base W b l (aK f c (dL L i k))->bP base ((W.setCell ⟨g,(i+k)*2,none⟩ (sV p.1)).setCell ⟨g,(i+k)*2+1,none⟩ (sV p.2)) b l (aK f c (dL L i (k+1)))):=fun W k p G h=>by
  have:=h.put c n g m (i+k) p;have e:aK (aK f c (dL L i k)) c ((aK f c (dL L i k) c).set (i+k) p)=aK f c (dL L i (k+1)):=by
   funext d
   by_cases o:d=c
   ·simp only[aK,o,RJ];show(dL L i k).set (i+k) p=(dL L i k).set (i+k) (L.getD (i+k+1) _);rw[Q3,G];rfl
   ·simp only[aK,o,Ry]
  rw[e] at this;exact this
 have A0:Hid (∀W,bP base W b l (aK f c (dL L i (N - i)))->bP base (((W.setCell ⟨g,N*2,none⟩ (sV ⟨#[]⟩)).setCell ⟨g,N*2+1,none⟩ (sV ⟨#[]⟩)).setCell ⟨b,c,none⟩ (lV (qA g) N cap)) b (aU l c (lV (qA g) N cap)) (aK f c ((f c).eraseIdx i))):=fun W h=>by
  have h1:=h.put c n g m N (⟨#[]⟩,⟨#[]⟩);have V:(aK (aK f c (dL L i (N - i))) c ((aK f c (dL L i (N - i)) c).set N (⟨#[]⟩,⟨#[]⟩)) c).length=N+1:=by
   simp only[aK,RJ];rw[R3,pB];exact A
  have h2:=h1.cut c n g cap N (by rw[V];exact s) (by rw[V];omega);have e:aK (aK (aK f c (dL L i (N - i))) c ((aK f c (dL L i (N - i)) c).set N (⟨#[]⟩,⟨#[]⟩))) c ((aK (aK f c (dL L i (N - i))) c ((aK f c (dL L i (N - i)) c).set N (⟨#[]⟩,⟨#[]⟩)) c).take N)=aK f c ((f c).eraseIdx i):=by
   funext d
   by_cases o:d=c
   ·simp only[aK,o,RJ];exact J.out
   ·simp only[aK,o,Ry]
  rw[e] at h2;exact h2
 have A9:=S.ff c g n m;have B2:=aa A9;have C4:N+1<=cap:=by
  obtain⟨a',B4,e1,e2,_⟩:=dr (S.own c n);rw[s,D] at e1;cases e1
  rw[D] at e2;exact e2
 have C5:i<=N:=by omega
 have C1:N<4000000000000:=by omega
 have C3:(c:Int)<256:=by omega
 obtain⟨d0,_,_⟩:=K.out w 0 O.out;have A5:Hid (aN (fun q=>q=b\/(l c).ownBlock=some q) w w):=⟨rfl,rfl,rfl,QU _,fun _ _ _=>rfl⟩
 clear B0 B1;clear S P X z A m s D hi hn J;go_enter func84,ntmps84
 go_wp2_with fail
 clear d0;go_loopg [7] (N - i) (fun q r wr=>∃k:Nat,q=N - i - k/\k<=N - i/\r=iV .i64 ((i:Int)+(k:Int))/\Hid (bP base wr b l (aK f c (dL L i k)))/\Hid (aN (fun q=>q=b\/(l c).ownBlock=some q) w wr))
 case atStart=>exact⟨0,rfl,by omega,by go_num,O,A5⟩
 case round=>
  obtain⟨k,U,hk,rfl,E,u⟩:=hrel;have HG:=aa U;clear U;obtain⟨e0,B5,y⟩:=K.out wr k E.out;by_cases C6:k<N - i
  ·obtain⟨M,F⟩:=yX (i+k)
   obtain⟨Q,R⟩:=yX (i+k+1)
   have A8:(i:Int)+(k:Int)=(M:Int):=by omega
   have B9:(M:Int)+1=(Q:Int):=by omega
   have H:L[i+k+1]? =some (L[i+k+1]'(by rw[t.out];omega)):=QV _;have Y:(dL L i k)[i+k+1]? =L[i+k+1]? :=zC L i k _ (.inr (by omega));have C:(dL L i k)[i+k]? =some ((dL L i k)[i+k]'(by rw[pB,t.out];omega)):=QV _;obtain⟨s1,s2,_,_⟩:=y _ _ (Y.trans H);obtain⟨t1,t2,t3,t4⟩:=y _ _ C;have I:=A3.out wr.drew k _ H (E.out.same rfl);generalize L[i+k+1]'(by rw[t.out];omega)=p at*;generalize (dL L i k)[i+k]'(by rw[pB,t.out];omega)=pu at*;rw[<-F] at t1 t2 t3 t4 I;rw[<-R] at s1 s2;rw[A8];have A2:=aa I;have B7:(M:Int)<(N:Int):=by omega
   have B8:(M:Int)<(N:Int)+1:=by omega
   have C2:(Q:Int)<(N:Int)+1:=by omega
   have C7:IntKind.i64.wrap (Q:Int)=(Q:Int):=by rw[RE];omega
   have C8:IntKind.i64.wrap (M:Int)=(M:Int):=by rw[RE];omega
   have A1:=aa F;have A6:Hid (aN (fun q=>q=b\/(l c).ownBlock=some q) w ((wr.drew.setCell ⟨g,M*2,none⟩ (sV p.1)).setCell ⟨g,M*2+1,none⟩ (sV p.2))):=
    aN.set (w':=wr.drew.setCell ⟨g,M*2,none⟩ (sV p.1)) (aN.set (w':=wr.drew) ⟨u.out.os,u.out.tape,u.out.output,u.out.size,u.out.block⟩ ⟨g,M*2,none⟩ _ (.inl (.inr v.out))) ⟨g,M*2+1,none⟩ _ (.inl (.inr v.out))
   have A4:Hid (Q=i+(k+1)):=by show _=_;omega
   clear H Y C I y R F;go_wp2_with fail
   go_region
   all_goals
    go_wp2_with fail
    go_roundg (N - i - (k+1))
    case measure=>have:=HG.out;omega
    case rel=>exact⟨k+1,rfl,by omega,by have:=A1.out;have:=A4.out;go_num,A2,A6⟩
  ·obtain rfl:k=N - i:=by omega
   have A7:(i:Int)+((N - i:Nat):Int)=(N:Int):=by omega
   rw[A7];have B6:¬(N:Int)<(N:Int):=by omega
   have C:(dL L i (N - i))[N]? =some ((dL L i (N - i))[N]'(by rw[pB,t.out];omega)):=QV _;obtain⟨t1,t2,t3,t4⟩:=y _ _ C;have T:=A0.out wr E.out;have Z:=aa T;have C0:(N:Int)<(N:Int)+1:=by omega
   clear T C y;generalize (dL L i (N - i))[N]'(by rw[pB,t.out];omega)=pu at*;go_wp2_with fail
   have x:Hid (aN (fun q=>q=b\/(l c).ownBlock=some q) w (((wr.setCell ⟨g,N*2,none⟩ (sV ⟨#[]⟩)).setCell ⟨g,N*2+1,none⟩ (sV ⟨#[]⟩)).setCell ⟨b,c,none⟩ (lV (qA g) N cap))):=by
    have h2:=aN.set (w':=wr.setCell ⟨g,N*2,none⟩ (sV ⟨#[]⟩)) (aN.set (w':=wr) u.out ⟨g,N*2,none⟩ (sV ⟨#[]⟩) (.inl (.inr v.out))) ⟨g,N*2+1,none⟩ (sV ⟨#[]⟩) (.inl (.inr v.out));exact aN.set h2 ⟨b,c,none⟩ _ (.inl (.inl rfl))
   go_region
   all_goals
    go_end0
    exact⟨rfl,⟨_,Z.out.same rfl,v.out.symm⟩,x.out.os,x.out.tape,x.out.output,x.out.size,x.out.block⟩
def gM(w:World)(base:Nat)(e:TypeId)(g cap n:Nat)(a:List Value):Prop:=
 ∃cur fz,base<=g/\w.heap[g]? =some (.cells cur e fz)/\(fz=(0,0)\/cur.size<=fz.1)/\n<=cap/\cap<=maxLen/\cur.size=cap/\cur.toList.take n=a
theorem gM.cell{w base e g cap n b}(h:gM w base e g cap n b):∀j u,b[j]? =some u->w.cell? ((⟨g,0,none⟩:Addr).add j)=some u:=by
 obtain⟨c,d,_,i,_,m,_,l,k⟩:=h;intro j u a;have f:(⟨g,0,none⟩:Addr).add j=⟨g,j,none⟩:=by unfold Addr.add;split<;>simp_all
 rw[f,Q5 w g j c e d i];rw[<-k,Sm] at a;split at a
 ·simpa using a
 ·cases a
theorem gM.free{w base e g cap n d}(h:gM w base e g cap n d)(j:Nat)(k:j<cap):w.frozen? ⟨g,j,none⟩=false:=by
 obtain⟨f,b,_,c,a,l,_,i,m⟩:=h;obtain⟨lo,hi⟩:=b;simp only[World.frozen?,c,Bool.and_eq_false_iff,decide_eq_false_iff_not];rcases a with a|a
 ·cases a;right;omega
 ·left;simp only at a;omega
theorem gM.len{w base e g cap n a}(h:gM w base e g cap n a):a.length=n:=by
 obtain⟨c,d,_,j,i,k,_,f,b⟩:=h;rw[<-b,Rs,Array.length_toList];omega
theorem gM.lt{w base e g cap n c}(h:gM w base e g cap n c):base<=g/\g<w.heap.size:=by
 obtain⟨d,f,a,b,_⟩:=h;exact⟨a,(Q0.1 b).1⟩
section
variable {P : Program} (w : World)
end
theorem O9(w)(s:yB)(d:s.size<=maxLen):∃cap w1,(convert 9 143 (sV s)).run yP w=.ok (lV (qA w.heap.size) s.size cap) w1/\
 gM w1 w.heap.size 5 w.heap.size cap s.size (bI s.data.toList)/\yW w w1/\w1.heap.size=w.heap.size+1:=by
 refine⟨_,_,Lib.run_convert_string_bytes w 9 143 5 s underlying9 underlying143 underlying5,?_,?_,Lib.bytesWorld_size w 5 s⟩
 ·have a:=grownCap_ge w s.size 0 5;have f:(Lib.bytesCells w 5 s).size=grownCap w s.size 0 5:=by simp[Lib.bytesCells];omega
  refine⟨_,_,QU _,Lib.bytesWorld_at_new w 5 s,.inr (QU _),a,grownCap_le_maxLen w s.size 0 5 d,f,?_⟩;have e:s.size=(s.data.toList.map fun b=>Value.int .u8 b.toNat).length:=by simp
  unfold Lib.bytesCells;rw[Array.toList_append,Array.toList_map,List.take_append_of_le_length (by simp),RI (by simp)];rfl
 ·exact⟨rfl,rfl,rfl,by rw[Lib.bytesWorld_size];omega,fun k c=>Lib.bytesWorld_at_old w 5 s k c⟩
theorem gM.Nz{w w':World}{base e g cap n a}(h:gM w base e g cap n a)(i:w'.heap[g]? =w.heap[g]?):gM w' base e g cap n a:=by
 obtain⟨b,c,d,f,rest⟩:=h;exact⟨b,c,d,by rw[i];exact f,rest⟩
theorem gM.alloc{w base e g cap n a}(h:gM w base e g cap n a)(o:Obj):gM (w.alloc o) base e g cap n a:=h.Nz (RL _ _ _ h.lt.2)
theorem GI(g j:Nat):(⟨g,0,none⟩:Addr).add j=⟨g,j,none⟩:=by unfold Addr.add;split<;>simp_all
theorem gM.set{w base e g cap n d}(h:gM w base e g cap n d)(j:Nat)(u):gM (w.setCell ⟨g,j,none⟩ u) base e g cap n (d.set j u):=by
 obtain⟨a,b,f,c,k,m,l,i,o⟩:=h;refine⟨a.setIfInBounds j u,b,f,?_,by simpa using k,m,l,by simpa using i,?_⟩
 ·rw[RM w g j a e b u c];exact R7 w g a _ e _ c
 ·rw[Array.toList_setIfInBounds,List.take_set,o]
theorem gM.conv{w base g cap l n}(h:gM w base 5 g cap n (bI l)):(convert 143 9 (lV (qA g) n cap)).run yP w=.ok (sV (str l)) w:=by
 have a:l.length=n:=by have:=h.len;simpa [bI] using this
 have:=St (P:=yP) w 143 5 underlying143 underlying5 g 0 n cap (l.map (fun c=>(c.toNat:Int))) (by simpa using a) (fun i hi=>by
  have:=h.cell i (iV .u8 (l[i].toNat:Int)) (by unfold bI;rw[Rp,QV (by omega)];rfl);rw[GI] at this;rw[R5,this,Q3,Rp,QV (by omega)];rfl) 9 underlying9
 rw[this,nJ]
theorem PB(w:World)(x t):(w.alloc (.cells #[x] t)).cell? ⟨w.heap.size,0,none⟩=some x:=by
 rw[Q5 _ _ 0 _ _ _ (Rl w _)];rfl
def ae:List (yB×yB)->yB->Option yB
 | [],_=>none
 |p::t,h=>if(p.1.toList == h.toList) then some p.2 else ae t h
theorem MY(b:List (yB×yB))(h:yB)(i:Nat)(p:yB×yB)(a:b[i]? =some p)(c:(p.1.toList == h.toList)=true):ae (b.drop i) h=some p.2:=by
 have d:=(Rb.1 a).1;rw[RF d,(Rb.1 a).2];unfold ae;rw[QX c]
theorem MW(a:List (yB×yB))(h:yB)(i:Nat)(p:yB×yB)(b:a[i]? =some p)(c:(p.1.toList == h.toList)=false):ae (a.drop i) h=ae (a.drop (i+1)) h:=by
 have d:=(Rb.1 b).1;rw[RF d,(Rb.1 b).2];conv=>lhs;unfold ae
 rw[c];rfl
def oA(a:List (yB×yB))(h:yB):yB:=if h.size=32 then(ae a h).getD ⟨#[]⟩ else⟨#[]⟩
def jZ(a:List (yB×yB))(h:yB):Int:=if h.size=32 then(match ae a h with|some _=>0 |none=>9) else 2
theorem EY(b)(h:yB)(a:h.size≠32):oA b h=⟨#[]⟩/\jZ b h=2:=by
 unfold oA jZ;rw[QW a,QW a];exact⟨rfl,rfl⟩
theorem EW(a)(h t:yB)(b:h.size=32)(c:ae a h=some t):oA a h=t/\jZ a h=0:=by
 unfold oA jZ;rw[QX b,QX b,c];exact⟨rfl,rfl⟩
theorem EX(a)(h:yB)(b:h.size=32)(c:ae a h=none):oA a h=⟨#[]⟩/\jZ a h=9:=by
 unfold oA jZ;rw[QX b,QX b,c];exact⟨rfl,rfl⟩
def jg(a:List (yB×yB)):List Value:=a.map fun p=>sV p.1
end Go.Proofs.YtiimkkahmpmhdaaGreatDoor
