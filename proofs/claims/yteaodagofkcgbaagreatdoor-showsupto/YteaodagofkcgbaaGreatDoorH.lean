import Derived.Test.YteaodagofkcgbaaGreatDoorF
import Derived.Test.YteaodagofkcgbaaGreatDoorG
open Go.Proofs.Tryz
open Go.Proofs.Tryz renaming prog→yP
open Go.Value renaming string→sV,pointer→pV,int→iV,slice→lV,bool→bV,tuple→tV,agg→gV
open Go.Ending renaming returned→rV
namespace Go.Proofs.YteaodagofkcgbaaGreatDoor
open Go.RowKit
set_option maxRecDepth 100000
set_option maxHeartbeats 0
set_option linter.all false
def yw(a:Nat->Int):Nat->Int:=oy (nJ (nr a) 25)
def ze(i:Nat)(a:Nat->Int):Nat->Int:=cC (yw a) 0 (xo (yw a 0) (qW i))
def rB(a:Nat->Int):Nat->Nat->Int
 | 0=>a
 |k+1=>ze k (rB a k)
def wA(a:Nat->Int):Nat->Int:=rB a 24
def FU(a:Nat->Int)(t:Int)(w)(b:Nat)(H:cU w b a t)(T:aB w)(h:3<=b):Calls yP 90 #[.pointer (qA b)] w λe w'=>e=.returned (.tuple #[])/\cU w' b (wA a) t/\Kept b w w':=by
 go_enter func90,ntmps90
 go_wp2_with fail
 go_loopg [2] 24 (λg r wr=>∃k:Nat,g=24 - k/\k<=24/\r=.int .i64 k/\cU wr b (rB a k) t/\Kept b w wr)
 .exact⟨0,rfl,by omega,rfl,H,Kept.refl b w⟩
 obtain⟨k,q,E,rfl,d,f⟩:=hrel;have s:yH (gk=24 - k):=q;clear q;by_cases D:k<24
 .have z:yH (Kept b w wr):=f;have y:yH (cU wr b (rB a k) t):=d;have n:yH (aB w):=T;have A:yH (ze k (rB a k)=rB a (k+1)):=rfl;clear f d H T;generalize rB a k=vs at*;go_wp2_with fail
  refine(PX vs t _ b y.o).mono ?_;rintro e w1⟨rfl,i,o⟩;have v:yH (cU w1 b (nr vs) t):=i;have l:yH (Kept b w w1):=z.o.trans o;clear i o;go_wp2_with fail
  refine(PU (nr vs) t _ b v.o (n.o.kept l.o h) h).mono ?_;rintro e w2⟨rfl,j,p⟩;have c:yH (cU w2 b (yw vs) t):=j;have m:yH (Kept b w w2):=l.o.trans p;have c0:=c.o.at_ 0 (by omega);have f0:=c.o.free 0;have t0:=(n.o.kept m.o h).words k D;clear j p;generalize hu:yw vs 0=u at c0;have B:yH (yw vs 0=u):=hu;generalize hx:qW k=x at t0;have C:yH (qW k=x):=hx;clear hu hx;go_wp2_with fail
  go_region
  all_goals
   go_wp2_with fail
   go_roundg (24 - (k+1))
   .exact⟨k+1,rfl,by omega,by go_num,by rw[<-A.o];unfold ze;rw[B.o,C.o];exact(c.o.set 0 (xo u x) (by omega)).drew,(m.o.set _ _).drew⟩
   have:=s.o;omega
 have:k=24:=by omega
 subst this;go_wp2_with fail
 go_end0;exact⟨rfl,d,f⟩
def ny(a:Nat->Int)(t c:Nat):Nat->Int:=cC a (t / 8) (xo (a (t / 8)) (IntKind.u64.wrap (c*2 ^ (t % 8*8))))
def su(a:(Nat->Int)×Nat)(c:UInt8):(Nat->Int)×Nat:=
 if a.2+1=136 then(wA (ny a.1 a.2 c.toNat),0) else(ny a.1 a.2 c.toNat,a.2+1)
def ju(a:(Nat->Int)×Nat)(l:yL):(Nat->Int)×Nat:=l.foldl su a
def Ta(a:(Nat->Int)×Nat)(c:UInt8)(h:a.2<136):(su a c).2<136:=by
 unfold su;split
 .exact(by decide:0<136)
 show a.2+1<136;omega
def Cp(l):∀(a:(Nat->Int)×Nat),a.2<136->(ju a l).2<136:=by
 induction l with
 |nil=>intro a h;exact h
 |cons c l ih=>intro a h;exact ih _ (Ta a c h)
def Km(a:(Nat->Int)×Nat)(l m):ju a (l++m)=ju (ju a l) m:=by simp[ju]
def Kl(a:(Nat->Int)×Nat)(s:yB)(k:Nat)(h:k<s.size):ju a (s.data.toList.take (k+1))=su (ju a (s.data.toList.take k)) s[k]:=by
 have e:s.data.toList.take (k+1)=s.data.toList.take k++[s[k]]:=by
  rw[Vb (by simpa using h)];rfl
 rw[e,Km];rfl
def Kk(a:(Nat->Int)×Nat)(s:yB)(hs:s.size<=maxLen)(w)(b:Nat)(H:cU w b a.1 a.2)(P:a.2<136)(T:aB w)(z:3<=b):Calls yP 49 #[pV (qA b),sV s] w λe w'=>e=rV (tV #[])/\cU w' b (ju a s.data.toList).1 (ju a s.data.toList).2/\Kept b w w':=by
 unfold maxLen at hs;go_enter func49,ntmps49
 go_wp2_with fail
 go_loopg [4] s.size (λg r wr=>∃k:Nat,g=s.size - k/\k<=s.size/\r=iV .i64 k/\cU wr b (ju a (s.data.toList.take k)).1 (ju a (s.data.toList.take k)).2/\Kept b w wr)
 .exact⟨0,rfl,by omega,rfl,H,Kept.refl b w⟩
 obtain⟨k,B,Q,rfl,c,j⟩:=hrel;have o:=aa B;clear B;by_cases O:k<s.size
 .have C:=Cp (s.data.toList.take k) a P;have v:=aa (Kl a s k O);generalize hq:ju a (s.data.toList.take k)=q at*;clear hq;obtain⟨d,t⟩:=q;simp only at C c;have I:=aa j;have F:=aa c;have J:=aa T;have c0:=c.at_ (t / 8) (by omega);have f0:=c.free (t / 8);have c1:=c.taken;have f1:=c.free 25;clear j c H T;have N:s[k].toNat<256:=s[k].toNat_lt;generalize hu:d (t / 8)=u at c0;have K:=aa hu;clear hu;have R:t / 8≠25:=by omega
  go_upto_region 3 with fail
  go_cut [] (λD=>cU D b (ny d t s[k].toNat) t/\Kept b wr D)
  .go_region_with (go_at_call 89;refine(Iu t _ N u _ b C (by go_simp) (by go_simp)).mono ?_;rintro e w'⟨rfl,rfl⟩)
   all_goals (go_wp2_with fail;go_meet;exact⟨by unfold ny;rw[K.o];exact(F.o.set (t / 8) _ (by omega)).drew.drew,((Kept.refl _ _).set _ _).drew.drew⟩)
  obtain⟨l,x⟩:=hcut;generalize hfl:ny d t s[k].toNat=us at*;have n:=aa hfl;have h:=aa l;have p:=aa (I.o.trans x);clear c0 f0 c1 f1 hfl l x;have c1:=h.o.taken;have f1:=h.o.free 25;by_cases A:t+1=136
  .have M:((t:Int)+1 == 136)=true:=beq_iff_eq.2 (by omega);go_wp2_with fail
   have m:=h.o.yZ ((t:Int)+1);have i:=p.o.set 25 (iV .i64 ((t:Int)+1));refine(FU us _ _ b m (J.o.kept i z) z).mono ?_;rintro e w3⟨rfl,f,y⟩;have E:=aa f;have G:=aa (i.trans y);have c3:=f.taken;have f3:=f.free 25;clear m i f y;go_wp2_with fail
   go_roundg (s.size - (k+1))
   case measure=>have:=o.o;omega
   case rel=>
    refine⟨k+1,rfl,by omega,by go_num,?_,G.o.set _ _⟩;rw[v.o];unfold su;simp only;rw[Uj A,n.o];exact E.o.yZ 0
  have M:((t:Int)+1 == 136)=false:=Vd.2 (by omega);go_wp2_with fail
  go_roundg (s.size - (k+1))
  case measure=>have:=o.o;omega
  case rel=>
   refine⟨k+1,rfl,by omega,by go_num,?_,p.o.set _ _⟩;rw[v.o];unfold su;simp only;rw[Ui A,n.o];exact h.o.yZ _
 have:k=s.size:=by omega
 subst this;have L:s.data.toList.take s.size=s.data.toList:=U4 (by simp);rw[L] at c;go_wp2_with fail
 go_end0;exact⟨rfl,c,j⟩
end Go.Proofs.YteaodagofkcgbaaGreatDoor
