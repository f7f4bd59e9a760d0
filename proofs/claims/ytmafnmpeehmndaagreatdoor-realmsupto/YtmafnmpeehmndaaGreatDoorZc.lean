import Derived.Test.YtmafnmpeehmndaaGreatDoorZa
import Derived.Test.YtmafnmpeehmndaaGreatDoorZb
open Go.Proofs.Tryz
open Go.Proofs.Tryz renaming prog→yP
open Go.Value renaming string→sV,pointer→pV,int→iV,slice→lV,bool→bV,tuple→tV,agg→gV
open Go.Ending renaming returned→rV
namespace Go.Proofs.YtmafnmpeehmndaaGreatDoor
open Go.RowKit
set_option maxRecDepth 100000
set_option maxHeartbeats 0
set_option linter.all false
def Wm(A:fm)(m:Mp):GP:=fun X _=>A.k.ok->Wd A.k A.ps A.tw X m gK
def dO(m:Mp)(addr:yB)(a:Bool)(f:Ac->Ac):Mp:=if addr.size=20/\a=true then cQ m (ag addr) (f (aY m (ag addr))) else m
def kN(A:fm)(addr:yB)(a:Bool)(d:Mp)(K:Nat)(f:List Nat)(b:List (Nat×Obj))(e:Ending)(w':World):Prop:=∃c:Nat,e=rV (iV .i64 c)/\(addr.size≠20->c=2)/\(addr.size=20->a=false->c=3)/\(addr.size=20->a=true->A.k.ok->c=0)/\SC A (Wm A d) K f b w'
def we{A:fm}{X m}{addr:yB}{b}(f:Ac->Ac){K n e w}(i:A.k.ok->Wd A.k A.ps A.tw X m gK){a c}(q1:addr.size≠20->c=2)(q2:addr.size=20->b=false->c=3)(q3:addr.size=20->b=true->A.k.ok->∃l,j7 (bD (X.g A.tw) (ag addr)) a l c)(p:c≠0)(h:SC A (aj X) K n e w):kN A addr b (dO m addr b f) K n e (rV (i6 c)) w:=by
 have q:addr.size=20->b=true->A.k.ok->c=0:=fun h1 h2 d=>by
  let⟨l,r⟩:=q3 h1 h2 d;exact((i d).acc r).2.2
 refine⟨c,rfl,q1,q2,q,h.ev fun Y _ o d=>?_⟩;rw[show Y=X from o];unfold dO;rw[Ui (fun j=>p (q j.1 j.2 d))];exact i d
def zq{A:fm}{X j:Gh}{m:Mp}{addr:yB}{i:Bool}{f:Ac->Ac}{K:Nat}{s:List Nat}{o:List (Nat×Obj)}{w:World}(t:A.k.ok->Wd A.k A.ps A.tw X m gK){a a':Acc}{c l:Nat}(q3:addr.size=20->i=true->A.k.ok->∃r,j7 (bD (X.g A.tw) (ag addr)) a r c)(h20:addr.size=20)(n:i=true)(x:∀b:Ac,eo b=a->eo (f b)=a'/\(f b).ss=b.ss)(v:nH a->nH a')(p:A.k.ok->l=0/\j=dT A.tw X (ag addr) a')(h:SC A (aj j) K s o w):kN A addr i (dO m addr i f) K s o (rV (i6 l)) w:=by
 refine⟨l,rfl,fun q=>absurd h20 q,(fun _ q=>by rw[n] at q;cases q),fun _ _ e=>(p e).1,h.ev fun Y _ u e=>?_⟩;let⟨r,y⟩:=q3 h20 n e;have d:=t e;let⟨e1,_⟩:=d.acc y;let⟨f1,f2⟩:=x _ e1.symm;rw[show Y=j from u,(p e).2];unfold dO;rw[Uj ⟨h20,n⟩,<-f1];exact d.set (fun _ _=>id) (by rw[f1];exact v (by rw[e1];exact d.at_ _)) (by rw[f2];exact d.wH _) fun _=>by rw[f2];exact d.rH _
def zc{A m K f d w}(h:SC A (Wm A m) K f d w)(addr:yB)(S:addr.size<=maxLen)(v:yB)(U:v.size<=maxLen)(hN:A.N+K+500<4000000000):
 yC 67 #[pV (qA A.sp),sV addr,sV v] w fun e w'=>kN A addr (bF v) (dO m addr (bF v) (fun b=>{b with aI:=v})) (K+500) f d e w'/\True:=by
 obtain⟨X,_,j,h⟩:=h.nB;obtain⟨l,r⟩:=yX (dO m addr (bF v) (fun b=>{b with aI:=v}))
 rw[<-r];have F:=aa (vF h addr S (bF v));have O:yH (∀p a' W,p.size=32->iZ a'->SC A (aj X) (K+250) f d W->yC 102 #[pV (qA A.sp),sV p,cE a'] W fun e w'=>mO A (dT A.tw X p a') (K+500) f d e w'/\True):=fun p a' W h1 h2 j=>rm j p h1 a' h2 (by omega)
 have H:yH (∀W,yC 104 #[sV v] W fun e w'=>e=rV (bV (bF v))/\w'=W):=fun W=>tW v U W
 clear h;go_enter func67,ntmps67
 go_wp2_with fail
 refine(H.o _).mono ?_;rintro e wx ⟨rfl,V⟩;subst V;go_wp2_with fail
 refine F.m ?_;rintro e w1 ⟨⟨z,a,c,rfl,s,D,q1,q2,q3⟩,o⟩;obtain⟨n,aI,i,g⟩:=a;have x:=(o.box #[i6 n,sV aI,sV i,sV g] 103)
 have Y:=aa o.fresh;have J:yH (c≠0->kN A addr (bF v) l (K+500) f d (rV (i6 c)) (w1.alloc (.cells #[i6 n,sV aI,sV i,sV g] 103))):=fun q=>by rw[r];exact we (fun b=>{b with aI:=v}) j q1 q2 q3 q (x.unbox.mono (by omega))
 have P:yH (SC A (aj X) (K+250) f d (w1.alloc (.cells #[i6 n,sV v,sV i,sV g] 103))):=(o.box #[i6 n,sV v,sV i,sV g] 103).unbox;by_cases q:c=0
 ·subst q;obtain⟨B,C,h20,T,R⟩:=D rfl;obtain⟨Z,y⟩:=yX (dT A.tw X z ⟨n,v,i,g⟩)
  have G:yH (∀(u:Nat) t W,(A.k.ok->u=0/\t=Z)->SC A (aj t) (K+500) f d W->kN A addr (bF v) l (K+500) f d (rV (i6 u)) W):=fun u t W h1 h2=>by
   rw[r];rw[y,B] at h1;exact zq (a':=⟨n,v,i,g⟩) j q3 h20 C (fun b Q=>⟨by cases Q;rfl,rfl⟩) (fun h=>⟨h.n,C,h.root,h.code⟩) h1 h2
  have A1:=mH C;have M:yH (yC 102 #[pV (qA A.sp),sV z,gV #[i6 n,sV v,sV i,sV g]] (w1.alloc (.cells #[i6 n,sV v,sV i,sV g] 103)) fun e w'=>mO A Z (K+500) f d e w'/\True):=by rw[y];exact O.o z ⟨n,v,i,g⟩ _ (by rw[B];exact dz _) ⟨s.n,by show v.size<=_;omega,s.root,s.code⟩ P.o
  clear o x s D y r j q1 q2 q3 h20 T R B;unfold cE;go_wp2_with fail
  refine M.m ?_;rintro e w4 ⟨⟨c4,X4,rfl,h4,E⟩,_⟩;have I:=aa (G.o _ _ _ h4 E);clear E h4;go_wp2
  go_ret
  exact⟨I.o,trivial⟩
 ·have A0:((c:Int) != 0)=true:=by simp;omega
  have L:=aa (J.o q);clear o x s D q r j q1 q2 q3;unfold cE;go_wp2
  go_ret
  exact⟨L.o,trivial⟩
def zb{A m K f d w}(h:SC A (Wm A m) K f d w)(addr:yB)(R:addr.size<=maxLen)(v:yB)(T:v.size=32)(Y:A.N+K+500<4000000000):
 yC 68 #[pV (qA A.sp),sV addr,sV v] w fun e w'=>kN A addr true (dO m addr true (fun b=>{b with code:=v})) (K+500) f d e w'/\True:=by
 obtain⟨X,_,j,h⟩:=h.nB;obtain⟨l,r⟩:=yX (dO m addr true (fun b=>{b with code:=v}))
 rw[<-r];have E:=aa (vF h addr R true);have L:yH (∀p a' W,p.size=32->iZ a'->SC A (aj X) (K+250) f d W->yC 102 #[pV (qA A.sp),sV p,cE a'] W fun e w'=>mO A (dT A.tw X p a') (K+500) f d e w'/\True):=fun p a' W h1 h2 j=>rm j p h1 a' h2 (by omega)
 have A1:(v.size:Int)=32:=by omega
 clear h;go_enter func68,ntmps68
 go_wp2_with fail
 refine E.m ?_;rintro e w1 ⟨⟨z,a,c,rfl,s,C,q1,q2,q3⟩,o⟩;obtain⟨n,g,i,code⟩:=a;have x:=(o.box #[i6 n,sV g,sV i,sV code] 103)
 have U:=aa o.fresh;have H:yH (c≠0->kN A addr true l (K+500) f d (rV (i6 c)) (w1.alloc (.cells #[i6 n,sV g,sV i,sV code] 103))):=fun q=>by rw[r];exact we (fun b=>{b with code:=v}) j q1 q2 q3 q (x.unbox.mono (by omega))
 have M:yH (SC A (aj X) (K+250) f d (w1.alloc (.cells #[i6 n,sV g,sV i,sV v] 103))):=(o.box #[i6 n,sV g,sV i,sV v] 103).unbox;by_cases q:c=0
 ·subst q;obtain⟨B,Q,h20,S,P⟩:=C rfl;obtain⟨Z,y⟩:=yX (dT A.tw X z ⟨n,g,i,v⟩)
  have F:yH (∀(u:Nat) t W,(A.k.ok->u=0/\t=Z)->SC A (aj t) (K+500) f d W->kN A addr true l (K+500) f d (rV (i6 u)) W):=fun u t W h1 h2=>by
   rw[r];rw[y,B] at h1;exact zq (a':=⟨n,g,i,v⟩) j q3 h20 Q (fun b O=>⟨by cases O;rfl,rfl⟩) (fun h=>⟨h.n,h.aI,h.root,T⟩) h1 h2
  have J:yH (yC 102 #[pV (qA A.sp),sV z,gV #[i6 n,sV g,sV i,sV v]] (w1.alloc (.cells #[i6 n,sV g,sV i,sV v] 103)) fun e w'=>mO A Z (K+500) f d e w'/\True):=by rw[y];exact L.o z ⟨n,g,i,v⟩ _ (by rw[B];exact dz _) ⟨s.n,s.aI,s.root,by show v.size<=_;omega⟩ M.o
  clear o x s C y r j q1 q2 q3 h20 S P B;unfold cE;go_wp2_with fail
  refine J.m ?_;rintro e w4 ⟨⟨c4,V,rfl,h4,D⟩,_⟩;have G:=aa (F.o _ _ _ h4 D);clear D h4;go_wp2
  go_ret
  exact⟨G.o,trivial⟩
 ·have A0:((c:Int) != 0)=true:=by simp;omega
  have I:=aa (H.o q);clear o x s C q r j q1 q2 q3;unfold cE;go_wp2
  go_ret
  exact⟨I.o,trivial⟩
def MC{A m K f d w}(h:SC A (Wm A m) K f d w)(addr:yB)(T:addr.size<=maxLen)(x:Nat)(F:x<9223372036854775808)(hN:A.N+K+500<4000000000):
 yC 64 #[pV (qA A.sp),sV addr,i6 x] w fun e w'=>kN A addr true (dO m addr true (fun b=>{b with n:=x})) (K+500) f d e w'/\True:=by
 obtain⟨X,_,l,h⟩:=h.nB;obtain⟨o,s⟩:=yX (dO m addr true (fun b=>{b with n:=x}))
 rw[<-s];have G:yH (yC 101 #[pV (qA A.sp),sV addr,bV true] w fun e w'=>Cn A X (ag addr) addr true e/\SC A (aj X) (K+250) f d w'):=vF h addr T true;have O:yH (∀q a' W,q.size=32->iZ a'->SC A (aj X) (K+250) f d W->yC 102 #[pV (qA A.sp),sV q,cE a'] W fun e w'=>mO A (dT A.tw X q a') (K+500) f d e w'/\True):=fun q a' W h1 h2 l=>rm l q h1 a' h2 (by omega)
 have A1:(0:Int)<=(x:Int):=by omega
 clear h;go_enter func64,ntmps64
 go_wp2_with fail
 refine G.m ?_;rintro e w1 ⟨⟨B,a,c,rfl,t,D,q1,q2,q3⟩,p⟩;obtain⟨n,g,j,i⟩:=a;have y:=(p.box #[i6 n,sV g,sV j,sV i] 103)
 have V:yH (∀b∈d,b.1≠w1.heap.size):=p.fresh;have J:yH (c≠0->kN A addr true o (K+500) f d (rV (i6 c)) (w1.alloc (.cells #[i6 n,sV g,sV j,sV i] 103))):=fun r=>by rw[s];exact we (fun b=>{b with n:=x}) l q1 q2 q3 r (y.unbox.mono (by omega))
 have P:yH (SC A (aj X) (K+250) f d (w1.alloc (.cells #[i6 x,sV g,sV j,sV i] 103))):=(p.box #[i6 x,sV g,sV j,sV i] 103).unbox;by_cases r:c=0
 ·subst r;obtain⟨C,S,h20,U,R⟩:=D rfl;obtain⟨Z,z⟩:=yX (dT A.tw X B ⟨x,g,j,i⟩)
  have H:yH (∀(v:Nat) u W,(A.k.ok->v=0/\u=Z)->SC A (aj u) (K+500) f d W->kN A addr true o (K+500) f d (rV (i6 v)) W):=fun v u W h1 h2=>by
   rw[s];rw[z,C] at h1;exact zq (a':=⟨x,g,j,i⟩) l q3 h20 S (fun b Q=>⟨by cases Q;rfl,rfl⟩) (fun h=>⟨F,h.aI,h.root,h.code⟩) h1 h2
  have M:yH (yC 102 #[pV (qA A.sp),sV B,gV #[i6 x,sV g,sV j,sV i]] (w1.alloc (.cells #[i6 x,sV g,sV j,sV i] 103)) fun e w'=>mO A Z (K+500) f d e w'/\True):=by rw[z];exact O.o B ⟨x,g,j,i⟩ _ (by rw[C];exact dz _) ⟨F,t.aI,t.root,t.code⟩ P.o
  clear p y t D z s l q1 q2 q3 h20 U R C;unfold cE;go_wp2_with fail
  refine M.m ?_;rintro e w4 ⟨⟨c4,Y,rfl,h4,E⟩,_⟩;have I:yH (kN A addr true o (K+500) f d (rV (i6 c4)) w4):=H.o _ _ _ h4 E;clear E h4;go_wp2
  go_ret
  exact⟨I.o,trivial⟩
 ·have A0:((c:Int) != 0)=true:=by simp;omega
  have L:yH (kN A addr true o (K+500) f d (rV (i6 c)) (w1.alloc (.cells #[i6 n,sV g,sV j,sV i] 103))):=J.o r;clear p y t D r s l q1 q2 q3;unfold cE;go_wp2
  go_ret
  exact⟨L.o,trivial⟩
def MD{A m K d b w}(h:SC A (Wm A m) K d b w)(addr:yB)(t:addr.size<=maxLen)(x:Int)(z:x<0):
 yC 64 #[pV (qA A.sp),sV addr,i6 x] w fun e w'=>kN A addr false (dO m addr false id) (K+500) d b e w'/\True:=by
 obtain⟨X,_,l,h⟩:=h.nB;obtain⟨g,f⟩:=yX (dO m addr false id)
 rw[<-f];have r:=aa (vF h addr t false);have B:¬(0:Int)<=x:=by omega
 clear h;go_enter func64,ntmps64
 go_wp2_with fail
 refine r.m ?_;rintro e w1 ⟨⟨y,a,c,rfl,u,p,q1,q2,q3⟩,k⟩;have o:c≠0:=fun e=>by have:=(p e).2.1;cases this
 obtain⟨n,i,q,j⟩:=a;have s:yH (kN A addr false g (K+500) d b (rV (i6 c)) (w1.alloc (.cells #[i6 n,sV i,sV q,sV j] 103))):=by rw[f];exact we id l q1 q2 q3 o ((k.box #[i6 n,sV i,sV q,sV j] 103).unbox.mono (by omega))
 have v:((c:Int) != 0)=true:=by simp;omega
 clear k u p o f l q1 q2 q3;unfold cE;go_wp2
 go_ret
 exact⟨s.o,trivial⟩
def Kg{A X K f d w}(h:SC A (aj X) K f d w)(addr:yB)(q:addr.size<=maxLen):
 yC 51 #[pV (qA A.sp),sV addr] w fun e w'=>(j6 (fun a g c=>addr.size=20->jM A X (ag addr) a g c) e/\(addr.size≠20->∃v,e=rV (tV #[v,bV false,i6 2])))/\SC A (aj X) (K+250) f d w':=by
 have i:=h.box #[i6 0,sV ⟨#[]⟩,sV ⟨#[]⟩,sV ⟨#[]⟩] 103;obtain⟨j,l⟩:=yX (w.alloc (.cells #[i6 0,sV ⟨#[]⟩,sV ⟨#[]⟩,sV ⟨#[]⟩] 103))
 rw[<-l] at i;have o:yH (∀b∈d,b.1≠w.heap.size):=h.fresh;have J:yH (SC A (aj X) K f ((w.heap.size,.cells #[i6 0,sV ⟨#[]⟩,sV ⟨#[]⟩,sV ⟨#[]⟩] 103 (0,0))::d) j):=i;have z:yH (yC 23 #[sV addr] j fun e w'=>e=rV (sV (ag addr))/\SC A (aj X) K f ((w.heap.size,.cells #[i6 0,sV ⟨#[]⟩,sV ⟨#[]⟩,sV ⟨#[]⟩] 103 (0,0))::d) w'):=i.sum addr q;have h32:(ag addr).size=32:=dz _;have u:yH (∀W,SC A (aj X) K f ((w.heap.size,.cells #[i6 0,sV ⟨#[]⟩,sV ⟨#[]⟩,sV ⟨#[]⟩] 103 (0,0))::d) W->yC 93 #[pV (qA A.sp),sV (ag addr)] W fun e w'=>j6 (jM A X (ag addr)) e/\SC A (aj X) (K+250) f ((w.heap.size,.cells #[i6 0,sV ⟨#[]⟩,sV ⟨#[]⟩,sV ⟨#[]⟩] 103 (0,0))::d) w'):=fun W G=>uT G _ (by rw[h32];decide)
 have B:yH (SC A (aj X) (K+250) f d ((((j.setCell ⟨w.heap.size,0,none⟩ (i6 0)).setCell ⟨w.heap.size,1,none⟩ (sV ⟨#[]⟩)).setCell ⟨w.heap.size,2,none⟩ (sV ⟨#[]⟩)).setCell ⟨w.heap.size,3,none⟩ (sV ⟨#[]⟩))):=((i.cJ o.o _ _ _ _).unbox).mono (by omega);have C:yH (SC A (aj X) (K+250) f d j):=i.unbox.mono (by omega);obtain⟨⟨k0,k1,k2,k3⟩,f0,f1,f2,f3⟩:=i.iT;clear h i h32;unfold maxLen at q;generalize ag addr=HA at*;by_cases h20:addr.size=20
 ·have F:(addr.size:Int)=20:=by omega
  clear k0 k1 k2 k3 f0 f1 f2 f3;go_enter func51,ntmps51
  go_wp2_with fail
  rw[<-l];clear l;refine z.m ?_;rintro e w1 ⟨rfl,p⟩;have x:yH (SC A (aj X) K f ((w.heap.size,.cells #[i6 0,sV ⟨#[]⟩,sV ⟨#[]⟩,sV ⟨#[]⟩] 103 (0,0))::d) w1):=p;clear p;go_wp2_with fail
  refine(u.o _ x.o).mono ?_;rintro e w2 ⟨⟨a,g,c,rfl,r,t,s⟩,m⟩;have y:yH (SC A (aj X) (K+250) f ((w.heap.size,.cells #[i6 0,sV ⟨#[]⟩,sV ⟨#[]⟩,sV ⟨#[]⟩] 103 (0,0))::d) w2):=m;obtain⟨⟨k0,k1,k2,k3⟩,f0,f1,f2,f3⟩:=m.iT;have k:yH (j6 (fun a g c=>addr.size=20->jM A X HA a g c) (rV (tV #[cE a,bV g,i6 c]))):=⟨a,g,c,rfl,r,t,fun _=>s⟩
  obtain⟨n,D,I,E⟩:=a;unfold cE at k⊢;clear m r t s;go_wp2
  exact UB (v:=tV #[gV #[i6 n,sV D,sV I,sV E],bV g,i6 c]) (by simp[results,results51,go_sem,k0,k1,k2,k3]) rfl ⟨⟨k.o,fun H=>absurd h20 H⟩,(y.o.cJ o.o _ _ _ _).unbox⟩
 ·have F:¬(addr.size:Int)=20:=by omega
  have k:yH (j6 (fun a g c=>addr.size=20->jM A X HA a g c) (rV (tV #[gV #[i6 0,sV ⟨#[]⟩,sV ⟨#[]⟩,sV ⟨#[]⟩],bV false,i6 2]))):=⟨mT,false,2,rfl,vl,(fun h=>by cases h),fun h=>absurd h h20⟩
  go_enter func51,ntmps51
  go_wp2
  (try rw[<-l])
  exact UB (v:=tV #[gV #[i6 0,sV ⟨#[]⟩,sV ⟨#[]⟩,sV ⟨#[]⟩],bV false,i6 2]) (by simp[results,results51,go_sem,k0,k1,k2,k3]) rfl ⟨⟨k.o,fun _=>⟨_,rfl⟩⟩,by first|exact C.o|exact B.o⟩
def Kh(A:fm)(m:Mp)(addr:yB)(a:Acc)(b:Bool)(c:Nat):Prop:=addr.size=20->A.k.ok->a=eo (aY m (ag addr))/\b=(m (ag addr)).isSome/\c=0
def TQ{A m K g b w}(h:SC A (Wm A m) K g b w)(addr:yB)(k:addr.size<=maxLen):
 yC 51 #[pV (qA A.sp),sV addr] w fun e w'=>(j6 (Kh A m addr) e/\(addr.size≠20->∃v,e=rV (tV #[v,bV false,i6 2])))/\SC A (Wm A m) (K+250) g b w':=by
 let⟨X,_,d,h⟩:=h.nB;refine(Kg h addr k).mono ?_;rintro e w' ⟨⟨⟨a,p,c,rfl,l,o,n⟩,h2⟩,i⟩;exact⟨⟨⟨a,p,c,rfl,l,o,fun h20 f=>(d f).acc (n h20 f)⟩,h2⟩,i.ev fun Y _ j=>by rw[show Y=X from j];exact d⟩
def JQ(A:fm)(P:GP)(r:yB):Prop:=∃X,P X r/\(A.k.ok->r=cY (X.g A.tw))
def ML{A P K b a w}(h:SC A P K b a w):
 yC 55 #[pV (qA A.sp)] w fun e w'=>(∃r:yB,e=rV (sV r)/\r.size=32/\JQ A P r)/\SC A P K b a w':=by
 have g:yH (yC 37 #[pV (qA A.tw)] w fun e w'=>∃r:yB,e=rV (sV r)/\r.size=32/\JQ A P r/\SC A P K b a w'):=(h.root (.inl rfl)).mono fun e w' ⟨r,h1,h2,⟨X,s,q1,q2,q3⟩,h4⟩=>⟨r,h1,h2,⟨X,by rw[q2 rfl];exact q1,q3⟩,h4⟩
 obtain⟨c0,c1⟩:=h.cells;clear h;go_enter func55,ntmps55
 go_wp2_with fail
 refine g.m ?_;rintro e w1 ⟨r,rfl,h32,d,c⟩;have i:=aa c;have f:=aa h32;have j:=aa d;clear c h32 d;go_wp2
 go_ret
 exact⟨⟨r,rfl,f.o,j.o⟩,i.o⟩
def Kb(A:fm)(m:Mp)(addr:yB)(K:Nat)(d:List Nat)(a:List (Nat×Obj))(e:Ending)(w':World):Prop:=∃(b:Bool) (c:Nat),e=rV (tV #[bV b,iV .i64 c])/\(addr.size≠20->b=false/\c=2)/\(addr.size=20->A.k.ok->b=(m (ag addr)).isSome/\c=0)/\SC A (Wm A (dO m addr true fun _=>lP)) K d a w'
def MP{A m K d b w}(h:SC A (Wm A m) K d b w)(addr:yB)(Q:addr.size<=maxLen)(hN:A.N+K+500<4000000000):
 yC 105 #[pV (qA A.sp),sV addr] w fun e w'=>Kb A m addr (K+500) d b e w'/\True:=by
 obtain⟨X,_,g,h⟩:=h.nB;have T:yH (yC 51 #[pV (qA A.sp),sV addr] w fun e w'=>(j6 (fun a i c=>addr.size=20->jM A X (ag addr) a i c) e/\(addr.size≠20->∃v,e=rV (tV #[v,bV false,i6 2])))/\SC A (aj X) (K+250) d b w'):=Kg h addr Q;have h32:(ag addr).size=32:=dz _;have A3:yH (∀W,SC A (aj X) (K+250) d b W->yC 23 #[sV addr] W fun e w'=>e=rV (sV (ag addr))/\SC A (aj X) (K+250) d b w'):=fun W g=>g.sum addr Q
 have V:yH (∀W,SC A (aj X) (K+250) d b W->yC 123 #[] W fun e w'=>e=rV (cE gC)/\SC A (aj X) (K+250) d b w'):=fun W g=>(vK W g.bz).mono fun _ _ ⟨h1,h2⟩=>⟨h1,g.below h2⟩
 have G:yH (∀W,SC A (aj X) (K+250) d b W->yC 102 #[pV (qA A.sp),sV (ag addr),cE gC] W fun e w'=>mO A (dT A.tw X (ag addr) gC) (K+500) d b e w'/\True):=fun W g=>rm g _ h32 _ nX.1 (by omega)
 obtain⟨R,r⟩:=yX (Kb A m addr (K+500) d b)
 have U:yH (∀(a:Acc) (c:Nat) i W,(addr.size=20->jM A X (ag addr) a i c)->(addr.size≠20->c=2)->c≠0\/i=false->SC A (aj X) (K+500) d b W->R (rV (tV #[bV false,i6 c])) W):=fun a c i W q1 q2 q3 l=>by
  rw[r];have key:addr.size=20->A.k.ok->c=0/\m (ag addr)=none:=fun h20 f=>by
   obtain⟨_,e2,e3⟩:=(g f).acc (q1 h20 f);refine⟨e3,?_⟩;rcases q3 with q3|q3
   ·exact absurd e3 q3
   ·rw[q3] at e2;cases hf:m (ag addr) with
    |none=>rfl
    |some x=>rw[hf] at e2;cases e2
  refine⟨false,c,rfl,fun h=>⟨rfl,q2 h⟩,fun h20 f=>⟨by rw[(key h20 f).2];rfl,(key h20 f).1⟩,l.ev fun Y _ z f=>?_⟩;rw[show Y=X from z];unfold dO;split
  ·next h20=>
   rw[Ed (key h20.1 f).2];exact g f
  ·exact g f
 have E:yH (∀(a:Acc) (c:Nat) j W,(addr.size=20->jM A X (ag addr) a true 0)->(addr.size≠20->(0:Nat)=2)->(A.k.ok->c=0/\j=dT A.tw X (ag addr) gC)->SC A (aj j) (K+500) d b W->R (rV (tV #[bV ((c:Int) == 0),i6 c])) W):=fun a c j W q1 q2 q3 l=>by
  rw[r];have h20:addr.size=20:=Vn fun h=>by have:=q2 h;cases this
  refine⟨_,c,rfl,fun h=>absurd h20 h,fun _ f=>⟨?_,(q3 f).1⟩,l.ev fun Y _ z f=>?_⟩
  ·rw[(q3 f).1,<-((g f).acc (q1 h20 f)).2.1];rfl
  ·rw[show Y=j from z,(q3 f).2,<-zK];unfold dO;rw[Uj ⟨h20,rfl⟩];exact(g f).set (fun _ _=>id) (a:=lP) ⟨nX.1.n,rfl,nX.2.1,nX.2.2⟩ o9 fun h=>absurd ((rW _).2 zK) h
 obtain⟨Z,P⟩:=yX (dT A.tw X (ag addr) gC)
 rw[<-P] at G E;rw[<-r];clear h h32 g r P;generalize ag addr=HA at*;generalize cE gC=VN at*;go_enter func105,ntmps105
 go_wp2_with fail
 refine T.m ?_;rintro e w1 ⟨⟨⟨a,i,c,rfl,A4,hz,S⟩,h2⟩,J⟩;have h2:addr.size≠20->c=2:=fun h=>by
  obtain⟨v,e⟩:=h2 h;injection e with e;injection e with e;have e:=congrArg (fun q:Array Value=>q[2]?) e;simp at e;omega
 have p:=U.o a c i;have s:=E.o a;have I:yH (addr.size=20->jM A X HA a i c):=S;have D:yH (addr.size≠20->c=2):=h2;obtain⟨n,u,C,y⟩:=a;have H:yH (SC A (aj X) (K+250) d b (w1.alloc (.cells #[i6 n,sV u,sV C,sV y] 103))):=(J.box #[i6 n,sV u,sV C,sV y] 103).unbox;have F:yH (SC A (aj X) (K+500) d b (w1.alloc (.cells #[i6 n,sV u,sV C,sV y] 103))):=H.o.mono (by omega);have p:yH (c≠0\/i=false->∀W,SC A (aj X) (K+500) d b W->R (rV (tV #[bV false,i6 c])) W):=fun h W l=>p W I.o D.o h l
 have s:yH (c=0->i=true->∀(o:Nat) j W,(A.k.ok->o=0/\j=Z)->SC A (aj j) (K+500) d b W->R (rV (tV #[bV ((o:Int) == 0),i6 o])) W):=fun e1 e2 o j W h l=>s o j W (by rw[<-e1,<-e2];exact I.o) (by rw[<-e1];exact D.o) h l
 clear J A4 hz S h2;unfold cE;by_cases B:c=0
 ·subst B;cases i with
  |false=>
   go_wp2
   go_ret2
   exact⟨p.o (.inr (by trivial)) _ F.o,trivial⟩
  |true=>
   go_wp2_with fail
   refine(A3.o _ H.o).mono ?_;rintro e w2 ⟨rfl,L⟩;have A0:yH (SC A (aj X) (K+250) d b w2):=L;clear L;go_wp2_with fail
   refine(V.o _ A0.o).mono ?_;rintro e w3 ⟨rfl,M⟩;have A1:yH (SC A (aj X) (K+250) d b w3):=M;clear M;go_wp2_with fail
   refine(G.o _ A1.o).mono ?_;rintro e w4 ⟨⟨c4,X4,rfl,h4,O⟩,_⟩;have A2:yH (R (rV (tV #[bV ((c4:Int) == 0),i6 c4])) w4):=s.o (by trivial) (by trivial) _ _ _ h4 O;clear O h4;go_wp2
   go_ret2
   exact⟨A2.o,trivial⟩
 ·have A5:((c:Int) != 0)=true:=by simp;omega
  have t:=p.o (.inl B);have t:yH (∀W,SC A (aj X) (K+500) d b W->R (rV (tV #[bV false,i6 c])) W):=t;clear B;go_wp2
  go_ret2
  exact⟨t.o _ F.o,trivial⟩
def fP(A:fm)(b:Mp)(K:Nat)(d:List Nat)(a:List (Nat×Obj))(e:Ending)(w':World):Prop:=∃c:Nat,e=rV (iV .i64 c)/\(A.k.ok->c=0)/\SC A (Wm A b) K d a w'
def SC.lost{A:fm}{P:GP}{e:Mp}{K:Nat}{d:List Nat}{a:List (Nat×Obj)}{w:World}{c:Nat}(h:SC A P K d a w)(b:A.k.ok->c=0)(h0:c≠0):fP A e K d a (rV (i6 c)) w:=⟨c,rfl,b,h.ev fun _ _ _ ok=>absurd (b ok) h0⟩
def SC.np{A P K c b a w}(h:SC A P K (c::b) a w):SC A P K b a w:=h.drop (fun _ ht=>Ul _ ht) fun _ hb=>hb
def RM{A X m K j i w}(h:SC A (aj X) K j i w)(p:yB)(hk:p.size=32)(a:Acc)(C:iZ a)(E:a.root.size=32)(key q:yB)(R:key.size<=40)(A4:0<q.size)(Q:q.size<=160)(y:A.k.ok->Wd A.k A.ps A.tw X m gK/\a=eo (aY m p))(hN:A.N+K+800<4000000000):
 yC 106 #[pV (qA A.sp),sV p,cE a,sV key,sV q] w fun e w'=>fP A (cQ m p {aY m p with ss:=aL (aY m p).ss key q}) (K+751) j i e w'/\True:=by
 obtain⟨v,S⟩:=yX (cQ m p {aY m p with ss:=aL (aY m p).ss key q})
 obtain⟨x,T⟩:=yX ((aY m p).ss)
 rw[<-S];obtain⟨n,s,z,t⟩:=a;simp only at E;have M:=h.box #[i6 n,sV s,sV z,sV t] 103;obtain⟨H,L⟩:=yX (w.alloc (.cells #[i6 n,sV s,sV z,sV t] 103))
 rw[<-L] at M;have B2:=aa h.fresh;have C2:yH (yC 95 #[pV (qA A.sp),sV p,sV z] H fun e w'=>∃d X',e=rV (pV (qA d))/\jF X p x d X'/\d≠A.tw/\SC A (aj X') (K+1) (d::j) ((w.heap.size,.cells #[i6 n,sV s,sV z,sV t] 103 (0,0))::i) w'):=M.slotsOf p z (by omega) E (by omega) x fun u ho=>by
  obtain⟨h1,h2⟩:=y u;have:=(h1.rH p).2 ho;injection h2 with _ _ h2 _;rw[h2,T];exact this
 have B4:yH (∀d l W,SC A (aj l) (K+1) (d::j) ((w.heap.size,.cells #[i6 n,sV s,sV z,sV t] 103 (0,0))::i) W->yC 131 #[pV (qA d),sV key,sV q] W fun e w'=>∃(r:yB) (c:Nat),e=rV (tV #[sV r,i6 c])/\r.size<=32/\(c=0->r.size=32)/\(A.k.ok->c=0/\r=cY (aL (l.g d) key q))/\SC A (aj l) (K+1+250) (d::j) ((w.heap.size,.cells #[i6 n,sV s,sV z,sV t] 103 (0,0))::i) w'):=fun d l W y=>y.zf (.inr (Uk ..)) key q R A4 Q
 have C3:yH (∀d l r W,r.size<=32->SC A (aj l) (K+1+250) (d::j) i W->yC 102 #[pV (qA A.sp),sV p,gV #[i6 n,sV s,sV r,sV t]] W fun e w'=>mO A (dT A.tw l p ⟨n,s,r,t⟩) (K+1+250+250) (d::j) i e w'/\True):=fun d l r W E y=>rm y p hk ⟨n,s,r,t⟩ ⟨C.n,C.aI,E,C.code⟩ (by omega)
 have B3:yH (∀d f W,SC A (aj f) (K+1+250+250) (d::j) i W->yC 30 #[pV (qA d),sV key,sV q] W fun e w'=>∃c:Nat,e=rV (i6 c)/\(A.k.ok->c=0)/\SC A (aj ⟨aE f.g d (aL (f.g d) key q),f.o⟩) (K+751) j i w'):=fun d f W y=>(y.put (.inr (Uk ..)) key q R A4 Q).mono fun _ _ ⟨c,h1,D,h2⟩=>⟨c,h1,D,h2.np.mono (by omega)⟩
 have A8:yH (∀(d:Nat) l r f (c4 c5:Nat) W,jF X p x d l->d≠A.tw->r.size=32->(A.k.ok->r=cY (aL (l.g d) key q))->(A.k.ok->c4=0/\f=dT A.tw l p ⟨n,s,r,t⟩)->(A.k.ok->c5=0)->SC A (aj ⟨aE f.g d (aL (f.g d) key q),f.o⟩) (K+751) j i W->fP A v (K+751) j i (rV (i6 c5)) W):=fun d l r f c4 c5 W s1 s2 s3 s4 s5 s6 hS=>⟨c5,rfl,s6,hS.ev fun Y _ hY u=>by
  obtain⟨h1,h2⟩:=y u;rw[T] at s1;have h3:=(h1.open_ s1 s2).2.2;have A7:=s4 u;rw[h3] at A7;have e4:=(s5 u).2;injection h2 with g1 g2 g3 g4;rw[g1,g2,g4] at e4;have:=h1.filled s1 s2 (rM (h1.wH p) key q R Q) A7 e4;rw[show Y=_ from hY,S,this.2];exact this.1⟩
 clear h M C y S T;unfold cE;go_enter func106,ntmps106
 go_wp2_with fail
 rw[<-L];clear L;refine C2.m ?_;rintro e w1 ⟨d,l,rfl,s1,s2,A1⟩;have U:=A8.o d l;have A9:yH (∀r f (c4 c5:Nat) W,r.size=32->(A.k.ok->r=cY (aL (l.g d) key q))->(A.k.ok->c4=0/\f=dT A.tw l p ⟨n,s,r,t⟩)->(A.k.ok->c5=0)->SC A (aj ⟨aE f.g d (aL (f.g d) key q),f.o⟩) (K+751) j i W->fP A v (K+751) j i (rV (i6 c5)) W):=fun r f c4 c5 W=>U r f c4 c5 W s1 s2
 clear U s1 s2;have B5:=aa A1;clear A1;go_wp2_with fail
 refine(B4.o _ _ _ B5.o).mono ?_;rintro e w2 ⟨r,c,rfl,A5,A6,D,I⟩;have V:=aa D;clear D;have A0:=aa I;obtain⟨⟨k0,k1,k2,k3⟩,f0,f1,f2,f3⟩:=I.iT;clear I;by_cases O:c=0
 ·subst O;have A2:=A0.o.Eg B2.o (sV r) 2;have B6:=aa A2.unbox;have G:=C3.o d l r _ A5 B6.o;have B:=A9.o r;obtain⟨Z,hZ⟩:=yX (dT A.tw l p ⟨n,s,r,t⟩)
  rw[<-hZ] at G B;have B0:yH (∀f (c4 c5:Nat) W,(A.k.ok->c4=0/\f=Z)->(A.k.ok->c5=0)->SC A (aj ⟨aE f.g d (aL (f.g d) key q),f.o⟩) (K+751) j i W->fP A v (K+751) j i (rV (i6 c5)) W):=fun f c4 c5 W=>B f c4 c5 W (A6 rfl) fun u=>(V.o u).2
  clear B hZ;have C1:=aa G;clear A2 G A5 A6;go_wp2_with fail
  refine C1.m ?_;rintro e w4 ⟨⟨c4,f,rfl,q4,J⟩,_⟩;have B7:=aa J;have B8:yH (c4≠0->fP A v (K+751) j i (rV (i6 c4)) w4):=fun h0=>SC.lost (J.np.mono (by omega)) (fun u=>(q4 u).1) h0
  have B:=B0.o f c4;have B1:yH (∀(c5:Nat) W,(A.k.ok->c5=0)->SC A (aj ⟨aE f.g d (aL (f.g d) key q),f.o⟩) (K+751) j i W->fP A v (K+751) j i (rV (i6 c5)) W):=fun c5 W=>B c5 W q4
  clear B q4;clear J k0 k1 k2 k3 f0 f1 f2 f3;by_cases P:c4=0
  ·subst P;go_wp2_with fail
   refine(B3.o _ _ _ B7.o).mono ?_;rintro e w5 ⟨c5,rfl,q5,A3⟩;have B9:=aa (B1.o _ _ q5 A3);clear A3 q5;go_wp2
   go_ret
   exact⟨B9.o,trivial⟩
  ·have C4:((c4:Int) != 0)=true:=by simp;omega
   have F:=B8.o P;have F:=aa F;clear P;go_wp2
   go_ret
   exact⟨F.o,trivial⟩
 ·have C4:((c:Int) != 0)=true:=by simp;omega
  have C0:yH (fP A v (K+751) j i (rV (i6 c)) w2):=SC.lost (A0.o.unbox.np.mono (by omega)) (fun u=>(V.o u).1) O;clear O;go_wp2
  go_ret
  exact⟨C0.o,trivial⟩
def SP{A X m K i f w}(h:SC A (aj X) K i f w)(l:yB)(hk:l.size=32)(a:Acc)(D:iZ a)(V:a.root.size=32)(key:yB)(T:key.size<=40)(C:A.k.ok->Wd A.k A.ps A.tw X m gK/\a=eo (aY m l)/\(m l).isSome=true)(hN:A.N+K+1100<4000000000):
 yC 108 #[pV (qA A.sp),sV l,cE a,sV key] w fun e w'=>fP A (cQ m l {aY m l with ss:=aL (aY m l).ss key ⟨#[]⟩}) (K+1001) i f e w'/\True:=by
 obtain⟨y,U⟩:∃y,y=cQ m l {aY m l with ss:=aL (aY m l).ss key ⟨#[]⟩}:=⟨_,rfl⟩
 obtain⟨x,hx⟩:∃x,x=(aY m l).ss:=⟨_,rfl⟩
 rw[<-U];obtain⟨n,s,B,t⟩:=a;simp only at V;have hb:=h.box #[i6 n,sV s,sV B,sV t] 103;obtain⟨W0,A4⟩:∃W0,W0=w.alloc (.cells #[i6 n,sV s,sV B,sV t] 103):=⟨_,rfl⟩
 rw[<-A4] at hb;have B8:=aa h.fresh;have D1:yH (yC 95 #[pV (qA A.sp),sV l,sV B] W0 fun e w'=>∃d X',e=rV (pV (qA d))/\jF X l x d X'/\d≠A.tw/\SC A (aj X') (K+1) (d::i) ((w.heap.size,.cells #[i6 n,sV s,sV B,sV t] 103 (0,0))::f) w'):=hb.slotsOf l B (by omega) V (by omega) x fun z ho=>by
  obtain⟨h1,h2,_⟩:=C z;have:=(h1.rH l).2 ho;injection h2 with _ _ h2 _;rw[h2,hx];exact this
 have B9:yH (∀d j W,SC A (aj j) (K+1) (d::i) ((w.heap.size,.cells #[i6 n,sV s,sV B,sV t] 103 (0,0))::f) W->yC 36 #[pV (qA d),sV key] W fun e w'=>∃(v:yB) (c:Nat),e=rV (tV #[sV v,i6 c])/\v.size<=160/\(A.k.ok->c=0/\v=bD (j.g d) key)/\SC A (aj j) (K+1+250) (d::i) ((w.heap.size,.cells #[i6 n,sV s,sV B,sV t] 103 (0,0))::f) w'):=fun d j W C=>C.get (.inr (Uk ..)) key T
 have B6:yH (∀d j W,SC A (aj j) (K+1+250) (d::i) ((w.heap.size,.cells #[i6 n,sV s,sV B,sV t] 103 (0,0))::f) W->yC 34 #[pV (qA d),sV key] W fun e w'=>∃(b:Bool) (c:Nat),e=rV (tV #[bV b,i6 c])/\(A.k.ok->c=0)/\SC A (aj ⟨aE j.g d (aL (j.g d) key ⟨#[]⟩),j.o⟩) (K+1+250+250) (d::i) ((w.heap.size,.cells #[i6 n,sV s,sV B,sV t] 103 (0,0))::f) w'):=fun d j W C=>C.del (.inr (Uk ..)) key T
 have C3:yH (∀d u W,SC A (aj u) (K+1+250+250) (d::i) ((w.heap.size,.cells #[i6 n,sV s,sV B,sV t] 103 (0,0))::f) W->yC 37 #[pV (qA d)] W fun e w'=>∃r:yB,e=rV (sV r)/\r.size=32/\(A.k.ok->r=cY (u.g d))/\SC A (aj u) (K+1+250+250) (d::i) ((w.heap.size,.cells #[i6 n,sV s,sV B,sV t] 103 (0,0))::f) w'):=fun d u W C=>(C.root (.inr (Uk ..))).mono fun e w' ⟨r,h1,h2,⟨Y,_,L,_,q⟩,h3⟩=>⟨r,h1,h2,by rw[show Y=u from L] at q;exact q,h3⟩
 have D3:yH (∀d u r W,r.size<=32->SC A (aj u) (K+1+250+250) (d::i) f W->yC 102 #[pV (qA A.sp),sV l,gV #[i6 n,sV s,sV r,sV t]] W fun e w'=>mO A (dT A.tw u l ⟨n,s,r,t⟩) (K+1+250+250+250) (d::i) f e w'/\True):=fun d u r W V C=>rm C l hk ⟨n,s,r,t⟩ ⟨D.n,D.aI,V,D.code⟩ (by omega)
 have C1:yH (∀d v p W,0<v.size->v.size<=160->SC A (aj p) (K+1+250+250+250) (d::i) f W->yC 30 #[pV (qA d),sV key,sV v] W fun e w'=>∃c:Nat,e=rV (i6 c)/\SC A (aj ⟨aE p.g d (aL (p.g d) key v),p.o⟩) (K+1001) i f w'):=fun d v p W h0 E C=>(C.put (.inr (Uk ..)) key v T h0 E).mono fun _ _ ⟨c,h1,_,h2⟩=>⟨c,h1,h2.np.mono (by omega)⟩
 have A0:yH (∀(d:Nat) j (v:yB) (c:Nat) W,jF X l x d j->d≠A.tw->(A.k.ok->c=0/\v=bD (j.g d) key)->v.size=0->SC A (aj j) (K+1001) i f W->fP A y (K+1001) i f (rV (i6 c)) W):=fun d j v c W s1 s2 s3 s4 J=>⟨c,rfl,fun z=>(s3 z).1,J.ev fun Y _ L z=>by
  obtain⟨h1,_,h2⟩:=C z;rw[hx] at s1;obtain⟨o1,o2,o3⟩:=h1.open_ s1 s2;have E:=(s3 z).2;rw[o3] at E;rw[E] at s4;have e:aL (aY m l).ss key ⟨#[]⟩=(aY m l).ss:=by
   unfold aL;rw[Uj (show(⟨#[]⟩:yB).size=0 from rfl),UU];exact OS (Rf (h1.wH l) s4)
  rw[show Y=j from L,U,e];obtain⟨a,D⟩:=Option.isSome_iff_exists.1 h2;have ea:aY m l=a:=by unfold aY;rw[D];rfl
  rw[show({aY m l with ss:=(aY m l).ss}:Ac)=a from ea,ME D (h1.fit _ _ D).2.1];exact o1.full o2 o3 h2⟩
 have G:yH (∀(d:Nat) j r p (c5:Nat) W,jF X l x d j->d≠A.tw->(A.k.ok->r=cY (aE j.g d (aL (j.g d) key ⟨#[]⟩) d))->(A.k.ok->c5=0/\p=dT A.tw ⟨aE j.g d (aL (j.g d) key ⟨#[]⟩),j.o⟩ l ⟨n,s,r,t⟩)->SC A (aj p) (K+1001) i f W->fP A y (K+1001) i f (rV (i6 c5)) W):=fun d j r p c5 W s1 s2 s4 s5 J=>⟨c5,rfl,fun z=>(s5 z).1,J.ev fun Y _ L z=>by
  obtain⟨h1,h2,_⟩:=C z;rw[hx] at s1;have h3:=(h1.open_ s1 s2).2.2;have A8:=s4 z;have e4:=(s5 z).2;rw[cF] at A8;rw[h3] at A8 e4;injection h2 with g1 g2 g3 g4;rw[g1,g2,g4] at e4;have:=h1.SO s1 s2 (rM (h1.wH l) key ⟨#[]⟩ T (by decide)) A8 e4;rw[show Y=_ from L,U];exact this⟩
 clear h hb D C U hx;unfold cE;go_enter func108,ntmps108
 go_wp2_with fail
 rw[<-A4];clear A4;refine D1.m ?_;rintro e w1 ⟨d,j,rfl,s1,s2,B0⟩;have F:=A0.o d j;have A0:yH (∀(v:yB) (c:Nat) W,(A.k.ok->c=0/\v=bD (j.g d) key)->v.size=0->SC A (aj j) (K+1001) i f W->fP A y (K+1001) i f (rV (i6 c)) W):=fun v c W=>F v c W s1 s2
 have A9:=G.o d j;have G:yH (∀r p (c5:Nat) W,(A.k.ok->r=cY (aE j.g d (aL (j.g d) key ⟨#[]⟩) d))->(A.k.ok->c5=0/\p=dT A.tw ⟨aE j.g d (aL (j.g d) key ⟨#[]⟩),j.o⟩ l ⟨n,s,r,t⟩)->SC A (aj p) (K+1001) i f W->fP A y (K+1001) i f (rV (i6 c5)) W):=fun r p c5 W=>A9 r p c5 W s1 s2
 clear F A9 s1 s2;have C4:=aa B0;clear B0;go_wp2_with fail
 refine(B9.o _ _ _ C4.o).mono ?_;rintro e w2 ⟨v,c,rfl,E,hq,O⟩;have C5:=aa O;have F:=A0.o v c w2 hq;have I:yH (v.size=0->fP A y (K+1001) i f (rV (i6 c)) w2):=fun h0=>F h0 (O.unbox.np.mono (by omega))
 have D2:yH (c≠0->fP A y (K+1001) i f (rV (i6 c)) w2):=fun h0=>SC.lost (O.unbox.np.mono (by omega)) (fun z=>(hq z).1) h0
 clear O F hq;by_cases hc:c=0
 ·subst hc;by_cases M:v.size=0
  ·have hE:v.toList.isEmpty=true:=by rw[g7];exact M
   have H:=aa (I.o M);clear M;go_wp2
   go_ret
   exact⟨H.o,trivial⟩
  ·have hE:v.toList.isEmpty=false:=by rw[iv];exact M
   have HV:yH (0<v.size/\v.size<=160):=⟨by omega,E⟩
   clear E M;go_wp2_with fail
   refine(B6.o _ _ _ C5.o).mono ?_;rintro e w3 ⟨b,c3,rfl,B4,Q⟩;obtain⟨u,S⟩:∃u:Gh,u=⟨aE j.g d (aL (j.g d) key ⟨#[]⟩),j.o⟩:=⟨_,rfl⟩
   rw[<-S] at Q;have A1:=G.o;rw[<-S,show aE j.g d (aL (j.g d) key ⟨#[]⟩) d=u.g d by rw[S]] at A1;have G:=aa A1;clear A1 S;have C6:=aa Q;have I:yH (c3≠0->fP A y (K+1001) i f (rV (i6 c3)) w3):=fun h0=>SC.lost (Q.unbox.np.mono (by omega)) B4 h0
   clear Q B4;by_cases A5:c3=0
   ·subst A5;go_wp2_with fail
    refine(C3.o _ _ _ C6.o).mono ?_;rintro e w4 ⟨r,rfl,h32,B5,R⟩;have D4:=aa R;obtain⟨⟨k0,k1,k2,k3⟩,f0,f1,f2,f3⟩:=R.iT;have B1:=R.Eg B8.o (sV r) 2;have C7:=aa B1.unbox;obtain⟨Z,hZ⟩:∃Z,Z=dT A.tw u l ⟨n,s,r,t⟩:=⟨_,rfl⟩
    have A2:=G.o r;rw[<-hZ] at A2;have B7:yH (∀p (c5:Nat) W,(A.k.ok->c5=0/\p=Z)->SC A (aj p) (K+1001) i f W->fP A y (K+1001) i f (rV (i6 c5)) W):=fun p c5 W=>A2 p c5 W B5
    clear A2 B5;have D0:yH (yC 102 #[pV (qA A.sp),sV l,gV #[i6 n,sV s,sV r,sV t]] (w4.setCell ⟨w.heap.size,2,none⟩ (sV r)) fun e w'=>mO A Z (K+1+250+250+250) (d::i) f e w'/\True):=by rw[hZ];exact D3.o d u r _ (by omega) C7.o
    clear R B1 h32 hZ;go_wp2_with fail
    refine D0.m ?_;rintro e w5 ⟨⟨c5,X5,rfl,A7,A3⟩,_⟩;have C8:=aa A3;have I:=aa (B7.o X5 c5 w5 A7 (A3.np.mono (by omega)));have C2:yH (A.k.ok->c5=0):=fun z=>(A7 z).1
    clear A7;clear A3 k0 k1 k2 k3 f0 f1 f2 f3;by_cases A6:c5=0
    ·subst A6;go_wp2
     go_ret
     exact⟨I.o,trivial⟩
    ·have B3:((c5:Int) != 0)=true:=by simp;omega
     have C0:yH (∀P W,SC A P (K+1001) i f W->fP A y (K+1001) i f (rV (i6 c5)) W):=fun P W J=>SC.lost J C2.o A6
     clear A6;go_wp2_with fail
     refine(C1.o _ _ _ _ HV.o.1 HV.o.2 C8.o).mono ?_;rintro e w6 ⟨c6,rfl,B2⟩;have C9:=aa (C0.o _ _ B2);clear B2;go_wp2
     go_ret
     exact⟨C9.o,trivial⟩
   ·have B3:((c3:Int) != 0)=true:=by simp;omega
    have H:=aa (I.o A5);clear A5;go_wp2
    go_ret
    exact⟨H.o,trivial⟩
 ·have B3:((c:Int) != 0)=true:=by simp;omega
  have H:=aa (D2.o hc);clear hc;go_wp2
  go_ret
  exact⟨H.o,trivial⟩
def JM(A:fm)(m:Mp)(a b addr slot:yB)(K:Nat)(f:List Nat)(d:List (Nat×Obj))(e:Ending)(w':World):Prop:=∃(v:yB) (c:Nat),e=rV (tV #[sV v,iV .i64 c])/\v.size<=maxLen/\(addr.size=20->slot.size=32->A.k.ok->iU (bD (aY m a).ss b) v c)/\SC A (Wm A m) K f d w'
def Ml:iU ⟨#[]⟩ ⟨#[]⟩ 0:=⟨fun _=>⟨rfl,rfl⟩,fun u e h1 _=>by
 have:=(qG (mH h1)).1
 rw[<-e] at this
 exact absurd this (by decide)⟩
def TU{A m K j i w}(h:SC A (Wm A m) K j i w)(addr slot:yB)(hk:addr.size<=maxLen)(hl:slot.size<=maxLen)(hN:A.N+K+600<4000000000):
 yC 54 #[pV (qA A.sp),sV addr,sV slot] w fun e w'=>JM A m (ag addr) (ag slot) addr slot (K+501) j i e w'/\True:=by
 obtain⟨X,_,l,h⟩:=h.nB;obtain⟨x,F⟩:=yX ((aY m (ag addr)).ss)
 have h32:(ag addr).size=32:=dz _;have Q:(ag slot).size=32:=dz _;have C0:yH (yC 23 #[sV addr] w fun e w'=>e=rV (sV (ag addr))/\SC A (aj X) K j i w'):=h.sum addr hk;have A5:yH (∀W,SC A (aj X) K j i W->yC 93 #[pV (qA A.sp),sV (ag addr)] W fun e w'=>j6 (jM A X (ag addr)) e/\SC A (aj X) (K+250) j i w'):=fun W l=>uT l _ (by rw[h32];decide)
 have B6:yH (∀o W,o.size=32->(A.k.ok->o=cY x)->SC A (aj X) (K+250) j i W->yC 95 #[pV (qA A.sp),sV (ag addr),sV o] W fun e w'=>∃f b,e=rV (pV (qA f))/\jF X (ag addr) x f b/\f≠A.tw/\SC A (aj b) (K+250+1) (f::j) i w'):=fun o W hr r t=>t.slotsOf _ o (by rw[h32];decide) hr (by omega) x fun d ho=>by rw[r d,F];exact((l d).rH _).2 ho
 have B9:yH (∀f b W,SC A (aj b) (K+250+1) (f::j) i W->yC 23 #[sV slot] W fun e w'=>e=rV (sV (ag slot))/\SC A (aj b) (K+250+1) (f::j) i w'):=fun f b W l=>l.sum slot hl
 have B1:yH (∀f b W,SC A (aj b) (K+250+1) (f::j) i W->yC 36 #[pV (qA f),sV (ag slot)] W fun e w'=>∃(v:yB) (c:Nat),e=rV (tV #[sV v,i6 c])/\v.size<=160/\(A.k.ok->c=0/\v=bD (b.g f) (ag slot))/\SC A (aj b) (K+501) j i w'):=fun f b W l=>(l.get (.inr (Uk ..)) _ (by rw[Q];decide)).mono fun _ _ ⟨v,c,h1,h2,r,h3⟩=>⟨v,c,h1,h2,r,h3.np⟩
 have B8:yH (∀v b W,v.size<=160->SC A (aj b) (K+501) j i W->yC 96 #[sV v] W fun e w'=>(∃(v6:yB) (c:Nat),e=rV (tV #[sV v6,i6 c])/\v6.size<=maxLen/\iU v v6 c)/\SC A (aj b) (K+501) j i w'):=fun v b W hv l=>(DI W v (by unfold maxLen;omega)).mono fun _ _ ⟨⟨v,c,h1,h2,_,h4⟩,h3⟩=>⟨⟨v,c,h1,h2,h4⟩,l.below h3⟩
 obtain⟨R,B⟩:=yX (JM A m (ag addr) (ag slot) addr slot (K+501) j i)
 have J:yH ((addr.size=20->slot.size=32->False)->R (rV (tV #[sV ⟨#[]⟩,i6 (2:Nat)])) w):=fun q=>by
  rw[B];exact⟨_,2,rfl,by decide,fun h1 h2=>(q h1 h2).elim,(h.mono (by omega)).ev fun Y _ E=>by rw[show Y=X from E];exact l⟩
 have I:yH (∀(c:Nat) P W,(A.k.ok->c=0)->c≠0->SC A P (K+501) j i W->R (rV (tV #[sV ⟨#[]⟩,i6 c])) W):=fun c P W q h0 t=>by
  rw[B];exact⟨_,c,rfl,by decide,fun _ _ d=>absurd (q d) h0,t.ev fun _ _ _ d=>absurd (q d) h0⟩
 have A7:yH (∀W,(A.k.ok->false=(m (ag addr)).isSome)->SC A (aj X) (K+501) j i W->R (rV (tV #[sV ⟨#[]⟩,i6 (0:Nat)])) W):=fun W q t=>by
  rw[B];refine⟨_,0,rfl,by decide,fun _ _ d=>?_,t.ev fun Y _ E=>by rw[show Y=X from E];exact l⟩;have q:=q d;cases hm:m (ag addr) with
  |none=>
   unfold aY;rw[hm];exact Ml
  |some a=>rw[hm] at q;cases q
 have A8:yH (∀(f:Nat) b v v6 (c6:Nat) W,jF X (ag addr) x f b->f≠A.tw->(A.k.ok->true=(m (ag addr)).isSome)->(A.k.ok->v=bD (b.g f) (ag slot))->iU v v6 c6->v6.size<=maxLen->SC A (aj b) (K+501) j i W->R (rV (tV #[sV v6,i6 c6])) W):=fun f b v v6 c6 W s1 s2 s3 s4 s5 s6 t=>by
  rw[B];rw[F] at s1;refine⟨v6,c6,rfl,s6,fun _ _ d=>?_,t.ev fun Y _ E d=>?_⟩
  ·rw[<-((l d).open_ s1 s2).2.2,<-s4 d];exact s5
  ·obtain⟨o1,o2,o3⟩:=(l d).open_ s1 s2;rw[show Y=b from E];exact o1.full o2 o3 (s3 d).symm
 have A6:yH (∀a u c,jM A X (ag addr) a u c->A.k.ok->c=0/\a.root=cY x/\u=(m (ag addr)).isSome):=fun a u c C d=>by
  obtain⟨e1,e2,e3⟩:=(l d).acc (C d);exact⟨e3,by rw[e1,F];rfl,e2⟩
 rw[<-B];clear h h32 Q l F B;unfold maxLen at hk hl;generalize ag addr=HA at*;generalize ag slot=HT at*;by_cases h20:addr.size=20
 ·have C3:(addr.size:Int)=20:=by omega
  by_cases C6:slot.size=32
  ·have C7:(slot.size:Int)=32:=by omega
   go_enter func54,ntmps54
   go_wp2_with fail
   refine C0.m ?_;rintro e w1 ⟨rfl,S⟩;have B2:yH (SC A (aj X) K j i w1):=S;clear S;go_wp2_with fail
   refine(A5.o _ B2.o).mono ?_;rintro e w2 ⟨⟨a,u,c,rfl,C5,C,A4⟩,T⟩;have r:=A6.o a u c A4;clear A4;obtain⟨n,y,o,z⟩:=a;simp only at C r;have s:yH (A.k.ok->c=0/\o=cY x/\u=(m HA).isSome):=r;clear r;have L:yH (SC A (aj X) (K+250) j i (w2.alloc (.cells #[i6 n,sV y,sV o,sV z] 103))):=(T.box #[i6 n,sV y,sV o,sV z] 103).unbox;have O:yH (SC A (aj X) (K+501) j i (w2.alloc (.cells #[i6 n,sV y,sV o,sV z] 103))):=L.o.mono (by omega);unfold cE;clear T C5;by_cases G:c=0
   ·subst G;have A1:=(C rfl).1;clear C;cases u with
    |false=>
     have p:=A7.o _ (fun d=>(s.o d).2.2) O.o;have p:yH (R (rV (tV #[sV ⟨#[]⟩,i6 (0:Nat)])) (w2.alloc (.cells #[i6 n,sV y,sV o,sV z] 103))):=p;go_wp2
     go_ret2
     exact⟨p.o,trivial⟩
    |true=>
     have B7:yH (yC 95 #[pV (qA A.sp),sV HA,sV o] (w2.alloc (.cells #[i6 n,sV y,sV o,sV z] 103)) fun e w'=>∃f b,e=rV (pV (qA f))/\jF X HA x f b/\f≠A.tw/\SC A (aj b) (K+250+1) (f::j) i w'):=B6.o o _ A1 (fun d=>(s.o d).2.1) L.o;have C2:yH (A.k.ok->true=(m HA).isSome):=fun d=>(s.o d).2.2
     clear A1;go_wp2_with fail
     refine B7.m ?_;rintro e w3 ⟨f,b,rfl,s1,s2,U⟩;have D:=A8.o f b;have A9:yH (∀v v6 (c6:Nat) W,(A.k.ok->v=bD (b.g f) HT)->iU v v6 c6->v6.size<=maxLen->SC A (aj b) (K+501) j i W->R (rV (tV #[sV v6,i6 c6])) W):=fun v v6 c6 W=>D v v6 c6 W s1 s2 C2.o
     clear D s1 s2;have B3:yH (SC A (aj b) (K+250+1) (f::j) i w3):=U;clear U;go_wp2_with fail
     refine(B9.o _ _ _ B3.o).mono ?_;rintro e w4 ⟨rfl,V⟩;have B4:yH (SC A (aj b) (K+250+1) (f::j) i w4):=V;clear V;go_wp2_with fail
     refine(B1.o _ _ _ B4.o).mono ?_;rintro e w5 ⟨v,c,rfl,hv,r,Z⟩;have s:yH (A.k.ok->c=0/\v=bD (b.g f) HT):=r;clear r;have M:yH (SC A (aj b) (K+501) j i w5):=Z;clear Z;by_cases H:c=0
     ·subst H;have C1:yH (yC 96 #[sV v] w5 fun e w'=>(∃(v6:yB) (c:Nat),e=rV (tV #[sV v6,i6 c])/\v6.size<=maxLen/\iU v v6 c)/\SC A (aj b) (K+501) j i w'):=B8.o v b w5 hv M.o;have D:=A9.o v;have B0:yH (∀v6 (c6:Nat) W,iU v v6 c6->v6.size<=maxLen->SC A (aj b) (K+501) j i W->R (rV (tV #[sV v6,i6 c6])) W):=fun v6 c6 W=>D v6 c6 W fun d=>(s.o d).2
      clear D;go_wp2_with fail
      refine C1.m ?_;rintro e w6 ⟨⟨v6,c6,rfl,A2,A3⟩,A0⟩;have B5:yH (R (rV (tV #[sV v6,i6 c6])) w6):=B0.o _ _ _ A3 A2 A0;clear A0 A2 A3;go_wp2
      go_ret2
      exact⟨B5.o,trivial⟩
     ·have C4:((c:Int) != 0)=true:=by simp;omega
      have p:yH (R (rV (tV #[sV ⟨#[]⟩,i6 c])) w5):=I.o c _ w5 (fun d=>(s.o d).1) H M.o;clear H;go_wp2
      go_ret2
      exact⟨p.o,trivial⟩
   ·have C4:((c:Int) != 0)=true:=by simp;omega
    have p:yH (R (rV (tV #[sV ⟨#[]⟩,i6 c])) (w2.alloc (.cells #[i6 n,sV y,sV o,sV z] 103))):=I.o c _ _ (fun d=>(s.o d).1) G O.o;clear G C;go_wp2
    go_ret2
    exact⟨p.o,trivial⟩
  ·have C7:¬(slot.size:Int)=32:=by omega
   have p:yH (R (rV (tV #[sV ⟨#[]⟩,i6 (2:Nat)])) w):=J.o fun _ h=>C6 h
   go_enter func54,ntmps54
   go_wp2
   go_ret2
   exact⟨p.o,trivial⟩
 ·have C3:¬(addr.size:Int)=20:=by omega
  have p:yH (R (rV (tV #[sV ⟨#[]⟩,i6 (2:Nat)])) w):=J.o fun h _=>h20 h
  go_enter func54,ntmps54
  go_wp2
  go_ret2
  exact⟨p.o,trivial⟩
def kg(m:Mp)(a b addr slot v:yB):Mp:=if addr.size=20/\slot.size=32/\bF v=true then cQ m a {aY m a with ss:=aL (aY m a).ss b (if v.size=0 then⟨#[]⟩ else fg v)} else m
def JP(A:fm)(b:Mp)(addr slot v:yB)(K:Nat)(d:List Nat)(a:List (Nat×Obj))(e:Ending)(w':World):Prop:=∃c:Nat,e=rV (iV .i64 c)/\(addr.size≠20->c=2)/\(addr.size=20->slot.size=32->bF v=true->A.k.ok->c=0)/\SC A (Wm A b) K d a w'
def fP.mono{A b K K' d a e w}(h:fP A b K d a e w)(f:K<=K'):fP A b K' d a e w:=by
 let⟨c,h1,h2,h3⟩:=h;exact⟨c,h1,h2,h3.mono f⟩
def JO{A m K f i w}(h:SC A (Wm A m) K f i w)(addr slot v:yB)(hk:addr.size<=maxLen)(hl:slot.size<=maxLen)(V:v.size<=maxLen)(hN:A.N+K+1500<4000000000):
 yC 72 #[pV (qA A.sp),sV addr,sV slot,sV v] w fun e w'=>JP A (kg m (ag addr) (ag slot) addr slot v) addr slot v (K+1300) f i e w'/\True:=by
 obtain⟨X,_,l,h⟩:=h.nB;have h32:(ag addr).size=32:=dz _;have E5:(ag slot).size=32:=dz _;have T:yH (∀W,yC 104 #[sV v] W fun e w'=>e=rV (bV (bF v))/\w'=W):=fun W=>tW v V W
 have E1:yH (yC 23 #[sV addr] w fun e w'=>e=rV (sV (ag addr))/\SC A (aj X) K f i w'):=h.sum addr hk;have D1:yH (∀W,SC A (aj X) K f i W->yC 93 #[pV (qA A.sp),sV (ag addr)] W fun e w'=>j6 (jM A X (ag addr)) e/\SC A (aj X) (K+250) f i w'):=fun W l=>uT l _ (by rw[h32];decide)
 have C5:yH (∀g W,SC A (aj X) (K+250) f g W->yC 23 #[sV slot] W fun e w'=>e=rV (sV (ag slot))/\SC A (aj X) (K+250) f g w'):=fun g W l=>l.sum slot hl
 have D2:yH (∀g W,v.size<=32->SC A (aj X) (K+250) f g W->yC 107 #[sV v] W fun e w'=>e=rV (sV (fg v))/\SC A (aj X) (K+250) f g w'):=fun g W h32 l=>(Mg W v (by omega)).mono fun _ _ ⟨h1,h2⟩=>⟨h1,l.below h2⟩
 obtain⟨m1,A7⟩:=yX (cQ m (ag addr) {aY m (ag addr) with ss:=aL (aY m (ag addr)).ss (ag slot) (fg v)})
 obtain⟨m2,A8⟩:=yX (cQ m (ag addr) {aY m (ag addr) with ss:=aL (aY m (ag addr)).ss (ag slot) ⟨#[]⟩})
 obtain⟨m',G⟩:∃m',m'=kg m (ag addr) (ag slot) addr slot v:=⟨_,rfl⟩
 rw[<-G];have S:yH (∀g a' W,bF v=true->iZ a'->a'.root.size=32->(A.k.ok->a'=eo (aY m (ag addr)))->SC A (aj X) (K+250) f g W->yC 106 #[pV (qA A.sp),sV (ag addr),cE a',sV (ag slot),sV (fg v)] W fun e w'=>fP A m1 (K+1300) f g e w'/\True):=fun g a' W V h1 h2 hq o=>by
  obtain⟨c1,c2,_⟩:=qG (mH V);rw[A7];exact(RM o _ h32 a' h1 h2 _ _ (by omega) c1 c2 (fun j=>⟨l j,hq j⟩) (by omega)).mono fun _ _ ⟨h1,_⟩=>⟨h1.mono (by omega),trivial⟩
 have B2:yH (∀g a' W,iZ a'->a'.root.size=32->(A.k.ok->a'=eo (aY m (ag addr))/\(m (ag addr)).isSome=true)->SC A (aj X) (K+250) f g W->yC 108 #[pV (qA A.sp),sV (ag addr),cE a',sV (ag slot)] W fun e w'=>fP A m2 (K+1300) f g e w'/\True):=fun g a' W h1 h2 hq o=>by
  rw[A8];exact(SP o _ h32 a' h1 h2 _ (by omega) (fun j=>⟨l j,hq j⟩) (by omega)).mono fun _ _ ⟨h1,_⟩=>⟨h1.mono (by omega),trivial⟩
 obtain⟨R,y⟩:=yX (JP A m' addr slot v (K+1300) f i)
 have E3:yH (∀W,SC A (aj X) (K+1300) f i W->SC A (Wm A m) (K+1300) f i W):=fun W o=>o.ev fun Y _ hY=>by rw[show Y=X from hY];exact l
 have A4:yH (∀c:Nat,¬(addr.size=20/\slot.size=32/\bF v=true)->(addr.size≠20->c=2)->R (rV (i6 c)) w):=fun c q h2=>by
  rw[y];refine⟨c,rfl,h2,fun a b d=>(q ⟨a,b,d⟩).elim,?_⟩;rw[G];unfold kg;rw[Ui q];exact E3.o _ (h.mono (by omega))
 have A3:yH (∀(c:Nat) P W,addr.size=20->(A.k.ok->c=0)->c≠0->SC A P (K+1300) f i W->R (rV (i6 c)) W):=fun c P W h20 q h0 o=>by
  rw[y];exact⟨c,rfl,fun h=>absurd h20 h,fun _ _ _=>q,o.ev fun _ _ _ j=>absurd (q j) h0⟩
 have Z:yH (∀(c:Nat) W,addr.size=20->slot.size=32->bF v=true->v.size≠0->(A.k.ok->c=0)->SC A (Wm A m1) (K+1300) f i W->R (rV (i6 c)) W):=fun c W h20 h3 h4 h5 q o=>by
  rw[y];refine⟨c,rfl,fun h=>absurd h20 h,fun _ _ _=>q,?_⟩;rw[G];unfold kg;rw[Uj ⟨h20,h3,h4⟩,Ui h5,<-A7];exact o
 have A0:yH (∀(c:Nat) W,addr.size=20->slot.size=32->bF v=true->v.size=0->(A.k.ok->c=0)->SC A (Wm A m2) (K+1300) f i W->R (rV (i6 c)) W):=fun c W h20 h3 h4 h5 q o=>by
  rw[y];refine⟨c,rfl,fun h=>absurd h20 h,fun _ _ _=>q,?_⟩;rw[G];unfold kg;rw[Uj ⟨h20,h3,h4⟩,Uj h5,<-A8];exact o
 have A1:yH (∀W,addr.size=20->slot.size=32->bF v=true->v.size=0->(A.k.ok->false=(m (ag addr)).isSome)->SC A (aj X) (K+1300) f i W->R (rV (i6 (0:Nat))) W):=fun W h20 h3 h4 h5 q o=>by
  rw[y];refine⟨0,rfl,fun h=>absurd h20 h,fun _ _ _ _=>rfl,?_⟩;rw[G];unfold kg;rw[Uj ⟨h20,h3,h4⟩,Uj h5];refine o.ev fun Y _ hY j=>?_
  rw[show Y=X from hY];have q:=q j;cases hm:m (ag addr) with
  |none=>
   have e:aY m (ag addr)=lP:=by unfold aY;rw[hm];rfl
   rw[e,show({lP with ss:=aL lP.ss (ag slot) ⟨#[]⟩}:Ac)=lP from rfl,Ed hm];exact l j
  |some a=>rw[hm] at q;cases q
 have B1:yH (∀a u c,jM A X (ag addr) a u c->A.k.ok->c=0/\a=eo (aY m (ag addr))/\u=(m (ag addr)).isSome):=fun a u c L j=>by
  obtain⟨e1,e2,e3⟩:=(l j).acc (L j);exact⟨e3,e1,e2⟩
 rw[<-y];have D7:yH (bF v=true->v.size<=32):=mH;clear h h32 E5 l y G A7 A8;obtain⟨Q,C6⟩:=yX (eo (aY m (ag addr)))
 rw[<-C6] at S B2 B1;clear C6;unfold maxLen at hk hl V;generalize ag addr=HA at*;generalize ag slot=HT at*;generalize fg v=CB at*;by_cases h20:addr.size=20
 ·have E4:(addr.size:Int)=20:=by omega
  by_cases U:slot.size=32
  ·have E6:(slot.size:Int)=32:=by omega
   cases hnb:bF v with
   |false=>
    rw[hnb] at T;have x:yH (R (rV (i6 (3:Nat))) w):=A4.o 3 (fun q=>by have:=q.2.2;rw[hnb] at this;cases this) fun h=>absurd h20 h
    clear hnb;go_enter func72,ntmps72
    go_wp2_with fail
    refine(T.o _).mono ?_;rintro e wx ⟨rfl,B0⟩;subst B0;go_wp2
    go_ret
    exact⟨x.o,trivial⟩
   |true=>
    rw[hnb] at T;have C9:=D7.o hnb;have E2:yH (v.size<=32):=C9;have B7:=A3.o;have B8:=Z.o;have B9:=A0.o;have C0:=A1.o;have C1:=S.o;have A3:yH (∀(c:Nat) P W,(A.k.ok->c=0)->c≠0->SC A P (K+1300) f i W->R (rV (i6 c)) W):=fun c P W=>B7 c P W h20
    have Z:yH (v.size≠0->∀(c:Nat) W,(A.k.ok->c=0)->SC A (Wm A m1) (K+1300) f i W->R (rV (i6 c)) W):=fun h0 c W=>B8 c W h20 U hnb h0
    have A0:yH (v.size=0->∀(c:Nat) W,(A.k.ok->c=0)->SC A (Wm A m2) (K+1300) f i W->R (rV (i6 c)) W):=fun h0 c W=>B9 c W h20 U hnb h0
    have A1:yH (v.size=0->∀W,(A.k.ok->false=(m HA).isSome)->SC A (aj X) (K+1300) f i W->R (rV (i6 (0:Nat))) W):=fun h0 W=>C0 W h20 U hnb h0
    have S:yH (∀g a' W,iZ a'->a'.root.size=32->(A.k.ok->a'=Q)->SC A (aj X) (K+250) f g W->yC 106 #[pV (qA A.sp),sV HA,cE a',sV HT,sV CB] W fun e w'=>fP A m1 (K+1300) f g e w'/\True):=fun g a' W=>C1 g a' W hnb
    clear hnb C9 B7 B8 B9 C0 C1;go_enter func72,ntmps72
    go_wp2_with fail
    refine(T.o _).mono ?_;rintro e wx ⟨rfl,B0⟩;subst B0;go_wp2_with fail
    refine E1.m ?_;rintro e w1 ⟨rfl,C7⟩;have D8:yH (SC A (aj X) K f i w1):=C7;clear C7;go_wp2_with fail
    refine(D1.o _ D8.o).mono ?_;rintro e w2 ⟨⟨a,u,c,rfl,A9,L,D0⟩,C8⟩;have I:yH (A.k.ok->c=0/\a=Q/\u=(m HA).isSome):=B1.o a u c D0;clear D0;have C2:yH (c=0->∀g W,SC A (aj X) (K+250) f g W->yC 106 #[pV (qA A.sp),sV HA,cE a,sV HT,sV CB] W fun e w'=>fP A m1 (K+1300) f g e w'/\True):=fun h0 g W l=>S.o g a W A9 (L h0).1 (fun j=>(I.o j).2.1) l
    have B3:yH (c=0->u=true->∀g W,SC A (aj X) (K+250) f g W->yC 108 #[pV (qA A.sp),sV HA,cE a,sV HT] W fun e w'=>fP A m2 (K+1300) f g e w'/\True):=fun h0 ht g W l=>B2.o g a W A9 (L h0).1 (fun j=>⟨(I.o j).2.1,by rw[<-(I.o j).2.2];exact ht⟩) l
    have C3:yH (A.k.ok->c=0/\u=(m HA).isSome):=fun j=>⟨(I.o j).1,(I.o j).2.2⟩
    obtain⟨n,p,s,r⟩:=a;have F:=C8.box #[i6 n,sV p,sV s,sV r] 103;obtain⟨t,C⟩:=yX (w2.alloc (.cells #[i6 n,sV p,sV s,sV r] 103))
    rw[<-C] at F;have E7:yH (SC A (aj X) (K+250) f ((w2.heap.size,.cells #[i6 n,sV p,sV s,sV r] 103 (0,0))::i) t):=F;have C4:yH (SC A (aj X) (K+1300) f i t):=F.unbox.mono (by omega);have E0:yH (c≠0->R (rV (i6 c)) t):=fun h0=>A3.o c _ t (fun j=>(C3.o j).1) h0 C4.o
    have E:yH (SC A (aj X) (K+250) f ((w2.heap.size,.cells #[i6 n,sV p,sV s,sV r] 103 (0,0))::i) t.drew):=F.drew;obtain⟨⟨k0,k1,k2,k3⟩,_⟩:=F.iT;unfold cE at C2 B3⊢;clear C8 F A9 L;by_cases hc:c=0
    ·subst hc;have D6:yH (∀g W,SC A (aj X) (K+250) f g W->yC 106 #[pV (qA A.sp),sV HA,gV #[i6 n,sV p,sV s,sV r],sV HT,sV CB] W fun e w'=>fP A m1 (K+1300) f g e w'/\True):=C2.o rfl;have D4:yH (u=true->∀g W,SC A (aj X) (K+250) f g W->yC 108 #[pV (qA A.sp),sV HA,gV #[i6 n,sV p,sV s,sV r],sV HT] W fun e w'=>fP A m2 (K+1300) f g e w'/\True):=B3.o rfl;by_cases D:v.size=0
     ·have hE:v.toList.isEmpty=true:=by rw[g7];exact D
      have H:=A0.o D;have A2:yH (∀(c:Nat) W,(A.k.ok->c=0)->SC A (Wm A m2) (K+1300) f i W->R (rV (i6 c)) W):=H;have B5:=A1.o D;have D5:yH (∀W,(A.k.ok->false=(m HA).isSome)->SC A (aj X) (K+1300) f i W->R (rV (i6 (0:Nat))) W):=B5;clear H B5 D;cases u with
      |false=>
       have B6:=D5.o t (fun j=>(C3.o j).2) C4.o;have x:yH (R (rV (i6 (0:Nat))) t):=B6;clear B6;go_wp2
       go_ret
       (try rw[<-C])
       exact⟨x.o,trivial⟩
      |true=>
       have B4:=D4.o rfl;have D3:yH (∀g W,SC A (aj X) (K+250) f g W->yC 108 #[pV (qA A.sp),sV HA,gV #[i6 n,sV p,sV s,sV r],sV HT] W fun e w'=>fP A m2 (K+1300) f g e w'/\True):=B4;clear B4;go_upto_region 13 with fail
       rw[<-C];clear C;go_region_held3 (fun w'=>w'.cell? ⟨w2.heap.size,0,none⟩=some (i6 n)/\w'.cell? ⟨w2.heap.size,1,none⟩=some (sV p)/\w'.cell? ⟨w2.heap.size,2,none⟩=some (sV s)/\w'.cell? ⟨w2.heap.size,3,none⟩=some (sV r)) (go_keep) (first| (go_at_call 23;refine(C5.o _ _ E.o).mono ?_;rintro e wa ⟨rfl,z⟩;obtain⟨⟨n0,n1,n2,n3⟩,_⟩:=z.iT;have D9:yH (SC A (aj X) (K+250) f ((w2.heap.size,.cells #[i6 n,sV p,sV s,sV r] 103 (0,0))::i) wa):=z;clear z) | (go_at_call 108;refine(D3.o _ _ D9.o).mono ?_;rintro e O ⟨⟨J,rfl,M,B⟩,_⟩;obtain⟨⟨p0,p1,p2,p3⟩,_⟩:=B.iT;have A5:yH (R (rV (i6 J)) O):=A2.o J O M B.unbox;clear B M))
       all_goals
        go_wp2
        go_ret
        exact⟨A5.o,trivial⟩
     ·have hE:v.toList.isEmpty=false:=by rw[iv];exact D
      have H:=Z.o D;have A2:yH (∀(c:Nat) W,(A.k.ok->c=0)->SC A (Wm A m1) (K+1300) f i W->R (rV (i6 c)) W):=H;clear D H;go_upto_region 10 with fail
      rw[<-C];clear C;go_region_held3 (fun w'=>w'.cell? ⟨w2.heap.size,0,none⟩=some (i6 n)/\w'.cell? ⟨w2.heap.size,1,none⟩=some (sV p)/\w'.cell? ⟨w2.heap.size,2,none⟩=some (sV s)/\w'.cell? ⟨w2.heap.size,3,none⟩=some (sV r)) (go_keep) (first| (go_at_call 23;refine(C5.o _ _ E.o).mono ?_;rintro e wa ⟨rfl,z⟩;obtain⟨⟨n0,n1,n2,n3⟩,_⟩:=z.iT;have E:yH (SC A (aj X) (K+250) f ((w2.heap.size,.cells #[i6 n,sV p,sV s,sV r] 103 (0,0))::i) wa):=z;clear z) | (go_at_call 107;refine(D2.o _ _ E2.o E.o).mono ?_;rintro e wd ⟨rfl,A6⟩;obtain⟨⟨q0,q1,q2,q3⟩,_⟩:=A6.iT;have E:yH (SC A (aj X) (K+250) f ((w2.heap.size,.cells #[i6 n,sV p,sV s,sV r] 103 (0,0))::i) wd):=A6;clear A6) | (go_at_call 106;refine(D6.o _ _ E.o).mono ?_;rintro e O ⟨⟨J,rfl,M,B⟩,_⟩;obtain⟨⟨p0,p1,p2,p3⟩,_⟩:=B.iT;have A5:yH (R (rV (i6 J)) O):=A2.o J O M B.unbox;clear B M))
      all_goals
       go_wp2
       go_ret
       exact⟨A5.o,trivial⟩
    ·have E8:((c:Int) != 0)=true:=by simp;omega
     have x:yH (R (rV (i6 c)) t):=E0.o hc;clear hc;go_wp2
     go_ret
     (try rw[<-C])
     exact⟨x.o,trivial⟩
  ·have E6:¬(slot.size:Int)=32:=by omega
   have x:yH (R (rV (i6 (2:Nat))) w):=A4.o 2 (fun q=>U q.2.1) fun _=>rfl
   go_enter func72,ntmps72
   go_wp2
   go_ret
   exact⟨x.o,trivial⟩
 ·have E4:¬(addr.size:Int)=20:=by omega
  have x:yH (R (rV (i6 (2:Nat))) w):=A4.o 2 (fun q=>h20 q.1) fun _=>rfl
  go_enter func72,ntmps72
  go_wp2
  go_ret
  exact⟨x.o,trivial⟩
structure gO(base:Nat)(bx:List (Nat×Obj))(v:Value)(cs:List yB):Prop where
 own:∀W:World,(∀b∈bx,W.heap[b.1]? =some b.2)->W.ownsRow base 9 1 v cs.length (cs.map Value.string)
 len:cs.length<=81
 small:∀c∈cs,c.size<=4096
def MY{w:World}{base v n d}(h:w.ownsRow base 9 1 v n d):∃bx:List (Nat×Obj),(∀b∈bx,w.heap[b.1]? =some b.2/\base<=b.1)/\∀W:World,(∀b∈bx,W.heap[b.1]? =some b.2)->W.ownsRow base 9 1 v n d:=by
 have e:=h;rcases e.2 with⟨rfl,rfl⟩|⟨g,cap,c,rfl,a,j,rest⟩
 ·refine⟨[],(fun b a=>absurd a Vs),fun W _=>⟨h.1,.inl ⟨rfl,rfl⟩⟩⟩
 ·refine⟨[(g,.cells c 9 (0,0))],fun b i=>?_,fun W f=>⟨h.1,.inr ⟨g,cap,c,rfl,a,f _ (Uo.2 rfl),rest⟩⟩⟩;rw[Uo.1 i];exact⟨j,a⟩
def SC.JI{A P K n g w w2}(h:SC A P K n g w)(c:yW w w2)(L:List (Nat×Obj))(e:∀b∈L,w2.heap[b.1]? =some b.2/\w.heap.size<=b.1):SC A P K n (L++g) w2:=by
 have p:=h.size;let⟨l',o,m,h1,h2,f,h3⟩:=h;let⟨l2,i⟩:=yX (fun k=>if k<w.heap.size then l' k else nD A)
 have lo:∀k,k<w.heap.size->l2 k=l' k:=fun k d=>by rw[i];simp[d]
 have q:∀k,w.heap.size<=k->l2 k=nD A:=fun k d=>by rw[i];simp[VK.2 d]
 have l:Mv (fun _=>False) l' l2 w w2:=⟨c.os,c.tape,c.output,c.size,lo,fun k d _=>c.block k d⟩
 refine⟨l2,o,m.trans (l.mono fun _ f=>f.elim),h1,h2,f.move l id id fun _=>id,fun b a=>?_⟩;rcases UA.1 a with a|a
 ·exact⟨(e b a).1,q _ (e b a).2,Ut p (e b a).2⟩
 ·let⟨b1,b2,b3⟩:=h3 b a;have j:b.1<w.heap.size:=(Um.1 b1).1;exact⟨(c.block _ j).trans b1,(lo _ j).trans b2,b3⟩
def SC.held{A P K d a w}(h:SC A P K d a w):∀b∈a,w.heap[b.1]? =some b.2/\A.w.heap.size<=b.1:=fun b c=>by
 let⟨l',e,m,h1,h2,f,h3⟩:=h
 exact⟨(h3 b c).1,(h3 b c).2.2⟩
def sI(A:fm)(P:GP)(Z:Nat->List yB->Prop)(K:Nat)(d:List Nat)(b:List (Nat×Obj))(e:Ending)(w':World):Prop:=∃(v:Value) (c:Nat) (cs:List yB) (a:List (Nat×Obj)),e=rV (tV #[v,iV .i64 c])/\gO A.w.heap.size a v cs/\Z c cs/\SC A P K d (a++b) w'
def lU(A:fm)(X:Gh)(a:Nat)(key:yB)(c:Nat)(cs:List yB):Prop:=A.k.ok->c=0/\cT (X.g a)/\cs=(aQ bj (aR (X.g a) 1) key).map ae
def SC.mq{A X K b f w}(h:SC A (aj X) K b f w){a}(j:qT A b a)(key:yB)(o:key.size<=40):
 yC 44 #[pV (qA a),sV key] w (sI A (aj X) (lU A X a key) (K+250) b f):=by
 refine(h.prove j key o).mono ?_;rintro e w' ⟨v,c,cs,w1,m,g,k,p,h1,h2,h3⟩;have q:=g.size;let⟨d,l,i⟩:=MY p;exact⟨v,c,cs,d,m,⟨fun W n=>nj (i W n) q,h1,h2⟩,h3,g.JI k d l⟩
def vS(base:Nat):gO base [] (lV none 0 0) []:=⟨fun W _=>U8 _ _ _ _,by decide,fun c a=>absurd a Vs⟩
def x6(A:fm)(m:Mp)(a addr:yB)(c:Nat)(cs:List yB):Prop:=addr.size=20->A.k.ok->c=0/\∀L,uV m L->cs=(aQ bj (aR L 1) a).map ae
def Ei{A m K a b w}(h:SC A (Wm A m) K a b w)(addr:yB)(q:addr.size<=maxLen):
 yC 59 #[pV (qA A.sp),sV addr] w fun e w'=>sI A (Wm A m) (x6 A m (ag addr) addr) (K+250) a b e w'/\True:=by
 obtain⟨X,_,d,h⟩:=h.nB;have h32:(ag addr).size=32:=dz _;have z:=aa (h.drew.sum addr q);have t:yH (∀W,SC A (aj X) K a b W->yC 44 #[pV (qA A.tw),sV (ag addr)] W (sI A (aj X) (lU A X A.tw (ag addr)) (K+250) a b)):=fun W d=>d.mq (.inl rfl) _ (by rw[h32];decide)
 have o:yH (∀j W,SC A (aj X) (K+250) a j W->SC A (Wm A m) (K+250) a j W):=fun j W D=>D.ev fun Y _ E=>by rw[show Y=X from E];exact d
 have B:yH (∀c cs,lU A X A.tw (ag addr) c cs->x6 A m (ag addr) addr c cs):=fun c cs f _ s=>by
  obtain⟨h1,h2,h3⟩:=f s;exact⟨h1,fun L p=>by rw[h3,wm h2 p.1 (fun k=>((d s).dJ k).trans (p.2 k).symm) (by rw[h32];decide)]⟩
 have u:yH (addr.size≠20->sI A (Wm A m) (x6 A m (ag addr) addr) (K+250) a b (rV (tV #[lV none 0 0,i6 2])) w):=fun F=>⟨_,2,[],[],rfl,vS _,fun h=>absurd h F,o.o _ _ (h.mono (by omega))⟩
 obtain⟨c0,c1⟩:=h.cells;clear h h32 d;unfold maxLen at q;generalize ag addr=HA at*;by_cases h20:addr.size=20
 ·have C:(addr.size:Int)=20:=by omega
  go_enter func59,ntmps59
  go_upto_region 3 with fail
  go_region_held3 (fun w'=>w'.cell? ⟨A.sp,1,none⟩=some (pV (qA A.tw))) (go_keep) (first| (go_at_call 23;refine z.m ?_;rintro e G ⟨rfl,l⟩;obtain⟨_,c12⟩:=l.cells;have y:yH (SC A (aj X) K a b G):=l;clear l) | (go_at_call 44;refine(t.o _ y.o).mono ?_;rintro e H ⟨v,c,cs,i,rfl,r,f,n⟩;obtain⟨_,c13⟩:=n.cells;have g:yH (gO A.w.heap.size i v cs/\x6 A m HA addr c cs/\SC A (Wm A m) (K+250) a (i++b) H):=⟨r,B.o _ _ f,o.o _ _ n⟩;clear n r f))
  all_goals
   go_wp2
   go_ret2
   exact⟨⟨v,c,cs,i,rfl,g.o.1,g.o.2.1,g.o.2.2⟩,trivial⟩
 ·have C:¬(addr.size:Int)=20:=by omega
  have x:=aa (u.o h20);go_enter func59,ntmps59
  go_wp2
  go_ret2
  exact⟨x.o,trivial⟩
def sJ(A:fm)(P:GP)(Z:Nat->List yB->List yB->Prop)(K:Nat)(d:List Nat)(b:List (Nat×Obj))(e:Ending)(w':World):Prop:=∃(u v:Value) (c:Nat) (cs a:List yB) (b1 b2:List (Nat×Obj)),e=rV (tV #[u,v,iV .i64 c])/\gO A.w.heap.size b1 u cs/\gO A.w.heap.size b2 v a/\Z c cs a/\SC A P K d (b1++(b2++b)) w'
def JL(e:Ending):Prop:=∃(v:yB) (c:Nat),e=rV (tV #[sV v,iV .i64 c])/\v.size<=maxLen
def TF{t}(a:aO t)(b:t.read)(r):(t.at r).length<=160:=by
 unfold Nd.at;split
 ·cases t with
  |nil=>exact b.elim
  |unread _=>exact b.elim
  |leaf h p v=>exact a.2.2.2
  |ext h p k=>exact UD _
  |branch h v ks=>exact a.2.1
 ·exact UD _
def Kq{t r d}(e:aA t d)(b:aw r):aA (ay t r d).1 (ay t r d).2.2.1/\aw (ay t r d).2.1:=by
 have a:aA (Nd.nil) 0/\aw []:=⟨mE 0,fun _ h=>by cases h⟩
 cases t with
 |nil=>exact a
 |unread _=>exact a
 |leaf _ _ _=>exact a
 |ext h q k=>
  simp only[ay];split
  ·exact⟨fq e,da b _⟩
  ·exact a
 |branch h v ks=>
  cases r with
  |nil=>exact a
  |cons c r=>exact⟨dA e _ (b c (Uk ..)),fun y f=>b y (Ul _ f)⟩
def Rw:∀(f:Nat) (t) (r) (d:Nat) (bl:Bool) (a:List yB) (V x:yL),aA t d->aw r->V.length<=160->jo f t r d bl a V=some x->x.length<=160:=by
 intro f;induction f with
 |zero=>
  intro t r d bl a V x _ _ c h;unfold jo pE at h;split at h
  ·split at h
   ·cases h;exact c
   ·cases h
  ·cases h
 |succ f ih=>
  intro t r d bl a V x b g c h;unfold jo at h;split at h
  ·unfold pE at h;split at h
   ·cases h;exact c
   ·cases h
  ·next hn=>
   cases hs:oO t d bl a with
   |none=>rw[hs] at h;cases h
   |some y=>
    rw[hs] at h;have key:aA y.1 d/\y.1.read:=by
     unfold oO at hs;cases t with
     |unread h0=>
      cases a with
      |nil=>cases hs
      |cons p q=>
       simp only at hs;cases hrd:gS h0 p.data.toList d bl with
       |error _=>rw[hrd] at hs;cases hs
       |ok n=>rw[hrd] at hs;cases hs;exact⟨(oT hrd).1,(oT hrd).2.1⟩
     |nil=>exact absurd rfl hn
     |leaf _ _ _=>cases hs;exact⟨b,trivial⟩
     |ext _ _ _=>cases hs;exact⟨b,trivial⟩
     |branch _ _ _=>cases hs;exact⟨b,trivial⟩
    have e:=Kq key.1 g;exact ih _ _ _ _ _ _ x e.1 e.2 (TF key.1.aK key.2 r) h
def vu(a key)(b:List yB):(e8 a key b).size<=160:=by
 unfold e8;split
 ·exact UD _
 ·next h32=>
  split
  ·exact UD _
  ·unfold tj;cases hf:jo 81 (bP a.data.toList) (aD key) 0 false b [] with
   |none=>exact UD _
   |some v=>
    show(ae v).size<=160;rw[aN];have c:a.data.toList.length=a.size:=by simp
    exact Rw 81 _ _ 0 false b [] v (qZ (by omega)) (b8 key) (UD _) hf
structure nE(w:World)(v:Value)(ps:List yB):Prop where
 at_:gQ w v ps
 len:ps.length<=maxLen
 small:∀p∈ps,p.size<=maxLen
def NM{w w' v b}(h:gQ w v b)(c:yW w w'):gQ w' v b:=by
 let⟨a,cap,e,h⟩:=h;refine⟨a,cap,e,?_⟩;rcases h with h|⟨g,o,e2,h⟩
 ·exact .inl h
 ·exact .inr ⟨g,o,e2,fun i p d=>eg c (h i p d)⟩
def nE.below{w w' v a}(h:nE w v a)(b:yW w w'):nE w' v a:=⟨NM h.at_ b,h.len,h.small⟩
def vt{w v b}(h:nE w v b)(d key:yB)(j:key.size<=maxLen)(T:aB w):yC 46 #[sV d,sV key,v] w fun e w'=>(∃c:Nat,e=rV (tV #[sV (e8 d key b),i6 c]))/\yW w w':=by
 obtain⟨a,cap,rfl,_⟩:=id h.at_;refine(BK w d key a cap b h.at_ h.len h.small j T).mono ?_;rintro e w' ⟨f,g⟩;rw[yp] at f;refine⟨?_,g⟩;have:∃c:Nat,gR d key b=(c:Int):=by
  unfold gR;split
  ·exact⟨2,rfl⟩
  ·split
   ·exact⟨1,rfl⟩
   ·cases tj d key b
    ·exact⟨12,rfl⟩
    ·exact⟨0,rfl⟩
 let⟨c,i⟩:=this;exact⟨c,by rw[f,i]⟩
def Cx{w v j}(h:nE w v j)(b addr:yB)(z:addr.size<=maxLen)(T:aB w):
 yC 61 #[sV b,sV addr,v] w fun e w'=>j6 (fun _ _ _=>True) e/\yW w w':=by
 have h32:(ag addr).size=32:=dz _;have E:yH (∀W,yW w W->yC 23 #[sV addr] W fun e w'=>e=rV (sV (ag addr))/\yW W w'):=fun W g=>ja addr z W (T.below g)
 have F:yH (∀W,yW w W->yC 46 #[sV b,sV (ag addr),v] W fun e w'=>(∃c:Nat,e=rV (tV #[sV (e8 b (ag addr) j),i6 c]))/\yW W w'):=fun W g=>vt (h.below g) b _ (by rw[h32];decide) (T.below g)
 have C:yH (∀W,yW w W->yC 97 #[sV (e8 b (ag addr) j)] W (Co (e8 b (ag addr) j) W)):=fun W g=>JK W _ (Ut (vu _ _ _) (by decide)) (T.below g)
 obtain⟨a,cap,rfl,_⟩:=h.at_;have J:=h.len;clear h h32 T;unfold maxLen at z J;generalize e8 b (ag addr) j=VS at*;generalize ag addr=HA at*;generalize j.length=NP at*;obtain⟨o,i⟩:=yX (w.alloc (.cells #[i6 0,sV ⟨#[]⟩,sV ⟨#[]⟩,sV ⟨#[]⟩] 103))
 have f:yH (yW w o):=by rw[i];exact(Un _ _).alloc (Ug _) _
 have m:yH (gf o w.heap.size 103 (i6 0) (sV ⟨#[]⟩) (sV ⟨#[]⟩) (sV ⟨#[]⟩)):=by rw[i];exact gf.new _ _ _ _ _ _
 have r:yH (∀c:Nat,c≠0->j6 (fun _ _ _=>True) (rV (tV #[gV #[i6 0,sV ⟨#[]⟩,sV ⟨#[]⟩,sV ⟨#[]⟩],bV false,i6 c]))):=fun c k=>⟨mT,false,c,rfl,vl,fun h=>absurd h k,trivial⟩
 by_cases N:b.size=32
 ·have K:(b.size:Int)=32:=by omega
  by_cases h20:addr.size=20
  ·have I:(addr.size:Int)=20:=by omega
   go_enter func61,ntmps61
   go_wp2_with fail
   rw[<-i];clear i;refine(E.o _ f.o).mono ?_;rintro e w1 ⟨rfl,s⟩;have p:=aa (f.o.trans (s.mono f.o.size));have y:=aa (m.o.below s m.o.lt);clear s;go_wp2_with fail
   refine(F.o _ p.o).mono ?_;rintro e w2 ⟨⟨c,rfl⟩,t⟩;have l:=aa (p.o.trans (t.mono p.o.size));have q:=aa (y.o.below t y.o.lt);clear t;by_cases k:c=0
   ·subst k;go_wp2_with fail
    refine(C.o _ l.o).mono ?_;rintro e w3 ⟨⟨a3,x,c3,rfl,A,B,_⟩,u⟩;have D:=aa (l.o.trans (u.mono l.o.size));obtain⟨⟨k0,k1,k2,k3⟩,f0,f1,f2,f3⟩:=(q.o.below u q.o.lt).cells;have d:yH (j6 (fun _ _ _=>True) (rV (tV #[cE a3,bV x,i6 c3]))):=⟨a3,x,c3,rfl,A,B,trivial⟩
    obtain⟨n,G,L,H⟩:=a3;unfold cE at d⊢;clear u A B;go_wp2
    exact UB (v:=tV #[gV #[i6 n,sV G,sV L,sV H],bV x,i6 c3]) (by simp[results,results61,go_sem,k0,k1,k2,k3]) rfl ⟨d.o,jW D.o (Ug _) _ _ _ _⟩
   ·have M:((c:Int) != 0)=true:=by simp;omega
    obtain⟨⟨k0,k1,k2,k3⟩,f0,f1,f2,f3⟩:=q.o.cells;have d:=aa (r.o c k);clear k;go_wp2
    exact UB (v:=tV #[gV #[i6 0,sV ⟨#[]⟩,sV ⟨#[]⟩,sV ⟨#[]⟩],bV false,i6 c]) (by simp[results,results61,go_sem,k0,k1,k2,k3]) rfl ⟨d.o,jW l.o (Ug _) _ _ _ _⟩
  ·have I:¬(addr.size:Int)=20:=by omega
   obtain⟨⟨k0,k1,k2,k3⟩,f0,f1,f2,f3⟩:=m.o.cells;have d:=aa (r.o 2 (by decide));go_enter func61,ntmps61
   go_wp2
   (try rw[<-i])
   exact UB (v:=tV #[gV #[i6 0,sV ⟨#[]⟩,sV ⟨#[]⟩,sV ⟨#[]⟩],bV false,i6 2]) (by simp[results,results61,go_sem,k0,k1,k2,k3]) rfl ⟨d.o,by first|exact f.o|exact jW f.o (Ug _) _ _ _ _⟩
 ·have K:¬(b.size:Int)=32:=by omega
  obtain⟨⟨k0,k1,k2,k3⟩,f0,f1,f2,f3⟩:=m.o.cells;have d:=aa (r.o 2 (by decide));go_enter func61,ntmps61
  go_wp2
  (try rw[<-i])
  exact UB (v:=tV #[gV #[i6 0,sV ⟨#[]⟩,sV ⟨#[]⟩,sV ⟨#[]⟩],bV false,i6 2]) (by simp[results,results61,go_sem,k0,k1,k2,k3]) rfl ⟨d.o,by first|exact f.o|exact jW f.o (Ug _) _ _ _ _⟩
def La{w v u I i}(h:nE w v I)(p:nE w u i)(B addr slot:yB)(hk:addr.size<=maxLen)(F:slot.size<=maxLen)(T:aB w):
 yC 62 #[sV B,sV addr,sV slot,v,u] w fun e w'=>JL e/\yW w w':=by
 have h32:(ag slot).size=32:=dz _;have U:=aa (Cx h B addr hk T);have P:yH (∀W,yW w W->yC 23 #[sV slot] W fun e w'=>e=rV (sV (ag slot))/\yW W w'):=fun W l=>ja slot F W (T.below l)
 have V:yH (∀f W,yW w W->yC 46 #[sV f,sV (ag slot),u] W fun e w'=>(∃(c:Nat) (x:yB),e=rV (tV #[sV x,i6 c])/\x.size<=160)/\yW W w'):=fun f W l=>(vt (p.below l) f _ (by rw[h32];decide) (T.below l)).mono fun _ _ ⟨⟨c,h1⟩,h2⟩=>⟨⟨c,_,h1,vu _ _ _⟩,h2⟩
 have O:yH (∀x W,x.size<=160->yW w W->yC 96 #[sV x] W fun e w'=>JL e/\yW W w'):=fun x W q l=>(DI W x (Ut q (by decide))).mono fun _ _ ⟨⟨v,c,h1,h2,_⟩,h3⟩=>⟨⟨v,c,h1,h2⟩,h3⟩
 obtain⟨a,cap,rfl,_⟩:=h.at_;obtain⟨a',D,rfl,_⟩:=p.at_;have G:=p.len;have N:yH (∀W,yC 98 #[lV a' i.length D] W fun e w'=>e=rV (tV #[sV ⟨#[]⟩,i6 (if 0<i.length then 12 else 0)])/\w'=W):=fun W=>Pu W a' _ D G
 have M:yH (∃c:Nat,(if 0<i.length then(12:Int) else 0)=c):=by
  by_cases h0:0<i.length
  ·exact⟨12,by rw[Uj h0];rfl⟩
  ·exact⟨0,by rw[Ui h0];rfl⟩
 clear h p h32 T G;unfold maxLen at F;generalize ag slot=HT at*;generalize (if 0<i.length then(12:Int) else 0)=NC at*;generalize I.length=NP at*;generalize i.length=NQ at*;obtain⟨nc,A0⟩:=M.o;subst A0;by_cases h32:slot.size=32
 ·have Y:(slot.size:Int)=32:=by omega
  go_enter func62,ntmps62
  go_wp2_with fail
  refine U.m ?_;rintro e w2 ⟨⟨a3,th,c,rfl,A1,hz,_⟩,z⟩;obtain⟨n,t,f,y⟩:=a3;unfold cE;obtain⟨d,g⟩:=yX (w2.alloc (.cells #[i6 n,sV t,sV f,sV y] 103))
  have b:yH (yW w d):=by rw[g];exact z.alloc z.size _
  have k:yH (gf d w2.heap.size 103 (i6 n) (sV t) (sV f) (sV y)):=by rw[g];exact gf.new _ _ _ _ _ _
  obtain⟨⟨k0,k1,k2,k3⟩,_⟩:=k.o.cells;clear z A1 hz;by_cases m:c=0
  ·subst m;cases th with
   |false=>
    go_wp2_with fail
    (try rw[<-g])
    refine(N.o _).mono ?_;rintro e K ⟨rfl,A2⟩;subst A2;go_wp2
    go_ret2
    (try rw[<-g])
    exact⟨⟨⟨#[]⟩,nc,rfl,by decide⟩,b.o⟩
   |true=>
    have Q:yH (yC 23 #[sV slot] d.drew fun e w'=>e=rV (sV HT)/\yW d w'):=(P.o d.drew ⟨b.o.os,b.o.tape,b.o.output,b.o.size,b.o.block⟩).mono fun _ _ ⟨h1,h2⟩=>⟨h1,⟨h2.os,h2.tape,h2.output,h2.size,h2.block⟩⟩
    go_upto_region 8 with fail
    rw[<-g];clear g;go_cut [14,15] (fun X sv K=>∃(c:Nat) (x:yB),X=i6 c/\sv=sV x/\yH (x.size<=160)/\yH (yW w K))
    case first=>
     go_region_held3 (fun w'=>w'.cell? ⟨w2.heap.size,2,none⟩=some (sV f)) (go_keep) (first| (go_at_call 23;refine Q.m ?_;rintro e J ⟨rfl,o⟩;obtain⟨⟨n0,n1,n2,n3⟩,_⟩:=(k.o.below o k.o.lt).cells;have r:yH (yW w J):=b.o.trans (o.mono b.o.size);have C:yH (gf J w2.heap.size 103 (i6 n) (sV t) (sV f) (sV y)):=k.o.below o k.o.lt;clear o) | (go_at_call 46;refine(V.o _ _ r.o).mono ?_;rintro e wb ⟨⟨c,x,rfl,q⟩,A⟩;obtain⟨⟨p0,p1,p2,p3⟩,_⟩:=(C.o.below A C.o.lt).cells;have j:yH (yW w wb):=r.o.trans (A.mono r.o.size);have s:yH (x.size<=160):=q;clear A q))
     all_goals
      go_wp2
      go_meet
      exact⟨c,x,rfl,rfl,s,j⟩
    case rest=>
     obtain⟨c,x,rfl,rfl,s,j⟩:=hcut;by_cases m:c=0
     ·subst m;have R:=aa (O.o x wc s.o j.o);go_wp2_with fail
      refine R.m ?_;rintro e w6 ⟨⟨v6,c6,rfl,H⟩,E⟩;have L:=aa (j.o.trans (E.mono j.o.size));have S:=aa H;clear E H;go_wp2
      go_ret2
      exact⟨⟨v6,c6,rfl,S.o⟩,L.o⟩
     ·have Z:((c:Int) != 0)=true:=by simp;omega
      clear m;go_wp2
      go_ret2
      exact⟨⟨⟨#[]⟩,c,rfl,by decide⟩,j.o⟩
  ·have Z:((c:Int) != 0)=true:=by simp;omega
   clear m;go_wp2
   go_ret2
   (try rw[<-g])
   exact⟨⟨⟨#[]⟩,c,rfl,by decide⟩,b.o⟩
 ·have Y:¬(slot.size:Int)=32:=by omega
  go_enter func62,ntmps62
  go_wp2
  go_ret2
  exact⟨⟨⟨#[]⟩,2,rfl,by decide⟩,Un _ _⟩
def sJ.nil{A P a Z K d b w}(h:SC A P K d b w)(c:Nat)(f:Z c [] [])(e:∀X r,P X r->a X r):sJ A a Z K d b (rV (tV #[lV none 0 0,lV none 0 0,i6 c])) w:=⟨_,_,c,[],[],[],[],rfl,vS _,vS _,f,h.ev e⟩
def SC.o6{A P K b b1 a w}(h:SC A P K b (b1++a) w):SC A P K b a w:=h.drop (fun _ ht=>ht) fun _ hb=>UP _ hb
def JS(A:fm)(m:Mp)(a b addr slot:yB)(c:Nat)(cs d:List yB):Prop:=(addr.size≠20->c=2)/\(addr.size=20->slot.size=32->A.k.ok->c=0/\(∀L,uV m L->cs=(aQ bj (aR L 1) a).map ae)/\d=(aQ bj (aR (aY m a).ss 1) b).map ae)
def EG{A m K j l w}(h:SC A (Wm A m) K j l w)(addr slot:yB)(hk:addr.size<=maxLen)(hl:slot.size<=maxLen)(hN:A.N+K+1000<4000000000):
 yC 60 #[pV (qA A.sp),sV addr,sV slot] w fun e w'=>sJ A (Wm A m) (JS A m (ag addr) (ag slot) addr slot) (K+800) j l e w'/\True:=by
 obtain⟨X,_,p,h⟩:=h.nB;obtain⟨x,hx⟩:=yX ((aY m (ag addr)).ss)
 have h32:(ag addr).size=32:=dz _;have A4:(ag slot).size=32:=dz _;have D4:yH (yC 23 #[sV addr] w fun e w'=>e=rV (sV (ag addr))/\SC A (aj X) K j l w'):=h.sum addr hk;have B7:yH (∀W,SC A (aj X) K j l W->yC 93 #[pV (qA A.sp),sV (ag addr)] W fun e w'=>j6 (jM A X (ag addr)) e/\SC A (aj X) (K+250) j l w'):=fun W p=>uT p _ (by rw[h32];decide)
 have D1:yH (∀r W,r.size=32->(A.k.ok->r=cY x)->SC A (aj X) (K+250) j l W->yC 95 #[pV (qA A.sp),sV (ag addr),sV r] W fun e w'=>∃i b,e=rV (pV (qA i))/\jF X (ag addr) x i b/\i≠A.tw/\SC A (aj b) (K+250+1) (i::j) l w'):=fun r W U T B=>B.slotsOf _ r (by rw[h32];decide) U (by omega) x fun d ho=>by rw[T d,hx];exact((p d).rH _).2 ho
 have D3:yH (∀i b W,SC A (aj b) (K+250+1) (i::j) l W->yC 23 #[sV slot] W fun e w'=>e=rV (sV (ag slot))/\SC A (aj b) (K+250+1) (i::j) l w'):=fun i b W p=>p.sum slot hl
 have C6:yH (∀i b W,SC A (aj b) (K+250+1) (i::j) l W->yC 44 #[pV (qA i),sV (ag slot)] W (sI A (aj b) (lU A b i (ag slot)) (K+250+1+250) (i::j) l)):=fun i b W p=>p.mq (.inr (Uk ..)) _ (by rw[A4];decide)
 have A9:yH (∀A2 b W,SC A (aj b) (K+501) j A2 W->yC 44 #[pV (qA A.tw),sV (ag addr)] W (sI A (aj b) (lU A b A.tw (ag addr)) (K+501+250) j A2)):=fun A2 b W p=>p.mq (.inl rfl) _ (by rw[h32];decide)
 obtain⟨R,H⟩:=yX (sJ A (Wm A m) (JS A m (ag addr) (ag slot) addr slot) (K+800) j l)
 have B0:yH (¬(addr.size=20/\slot.size=32)->R (rV (tV #[lV none 0 0,lV none 0 0,i6 (2:Nat)])) w):=fun q=>by
  rw[H];exact sJ.nil (h.mono (by omega)) 2 ⟨fun _=>rfl,fun h1 h2=>(q ⟨h1,h2⟩).elim⟩ fun Y _ S=>by rw[show Y=X from S];exact p
 have C5:yH (∀(c:Nat) P W,addr.size=20->(A.k.ok->c=0)->c≠0->SC A P (K+800) j l W->R (rV (tV #[lV none 0 0,lV none 0 0,i6 c])) W):=fun c P W h20 q h0 B=>by
  rw[H];exact sJ.nil B c ⟨fun h=>absurd h20 h,fun _ _ d=>absurd (q d) h0⟩ fun _ _ _ d=>absurd (q d) h0
 have B9:yH (∀u cs f W,addr.size=20->(A.k.ok->false=(m (ag addr)).isSome)->lU A X A.tw (ag addr) 0 cs->gO A.w.heap.size f u cs->SC A (aj X) (K+800) j (f++([]++l)) W->R (rV (tV #[u,lV none 0 0,i6 (0:Nat)])) W):=fun u cs f W h20 q z U B=>by
  rw[H];refine⟨u,_,0,cs,[],f,[],rfl,U,vS _,⟨fun h=>absurd h20 h,fun _ _ d=>⟨rfl,fun L Q=>?_,?_⟩⟩,B.ev fun Y _ S=>by rw[show Y=X from S];exact p⟩
  ·obtain⟨_,h2,h3⟩:=z d;rw[h3,wm h2 Q.1 (fun k=>((p d).dJ k).trans (Q.2 k).symm) (by rw[h32];decide)]
  ·have q:=q d;cases hm:m (ag addr) with
   |none=>
    have e:aY m (ag addr)=lP:=by unfold aY;rw[hm];rfl
    rw[e,p8 (jV (m:=lP.ss) o9 1).all (by rw[A4];decide)];rfl
   |some a=>rw[hm] at q;cases q
 have C1:yH (∀(i:Nat) b u v cs t f s W,addr.size=20->jF X (ag addr) x i b->i≠A.tw->(A.k.ok->true=(m (ag addr)).isSome)->lU A b i (ag slot) 0 t->lU A b A.tw (ag addr) 0 cs->gO A.w.heap.size f u cs->gO A.w.heap.size s v t->SC A (aj b) (K+800) j (f++(s++l)) W->R (rV (tV #[u,v,i6 (0:Nat)])) W):=fun i b u v cs t f s W h20 s1 s2 s3 z1 z2 r1 r2 B=>by
  rw[H];rw[hx] at s1;have A3:A.k.ok->Wd A.k A.ps A.tw b m gK/\b.g i=(aY m (ag addr)).ss:=fun d=>by
   obtain⟨o1,o2,o3⟩:=(p d).open_ s1 s2;exact⟨o1.full o2 o3 (s3 d).symm,o3⟩
  refine⟨u,v,0,cs,t,f,s,rfl,r1,r2,⟨fun h=>absurd h20 h,fun _ _ d=>⟨rfl,fun L Q=>?_,?_⟩⟩,B.ev fun Y _ S d=>by rw[show Y=b from S];exact(A3 d).1⟩
  ·obtain⟨_,h2,h3⟩:=z2 d;rw[h3,wm h2 Q.1 (fun k=>((A3 d).1.dJ k).trans (Q.2 k).symm) (by rw[h32];decide)]
  ·rw[(z1 d).2.2,(A3 d).2]
 have B8:yH (∀a E c,jM A X (ag addr) a E c->A.k.ok->c=0/\a.root=cY x/\E=(m (ag addr)).isSome):=fun a E c z d=>by
  obtain⟨e1,e2,e3⟩:=(p d).acc (z d);exact⟨e3,by rw[e1,hx];rfl,e2⟩
 rw[<-H];clear h h32 A4 p hx H;unfold maxLen at hk hl;generalize ag addr=HA at*;generalize ag slot=HT at*;by_cases h20:addr.size=20
 ·have D6:(addr.size:Int)=20:=by omega
  by_cases D8:slot.size=32
  ·have D9:(slot.size:Int)=32:=by omega
   go_enter func60,ntmps60
   go_wp2_with fail
   refine D4.m ?_;rintro e w1 ⟨rfl,B1⟩;have C7:yH (SC A (aj X) K j l w1):=B1;clear B1;go_wp2_with fail
   refine(B7.o _ C7.o).mono ?_;rintro e w2 ⟨⟨a,E,c,rfl,D7,z,B6⟩,B2⟩;have T:=B8.o a E c B6;clear B6;have C:=C5.o;have Z:yH (∀(c:Nat) P W,(A.k.ok->c=0)->c≠0->SC A P (K+800) j l W->R (rV (tV #[lV none 0 0,lV none 0 0,i6 c])) W):=fun c P W=>C c P W h20
   clear C;obtain⟨n,F,r,G⟩:=a;simp only at z T;have HQ:yH (A.k.ok->c=0/\r=cY x/\E=(m HA).isSome):=T;clear T;have A1:yH (SC A (aj X) (K+250) j l (w2.alloc (.cells #[i6 n,sV F,sV r,sV G] 103))):=(B2.box #[i6 n,sV F,sV r,sV G] 103).unbox;have D0:yH (SC A (aj X) (K+800) j l (w2.alloc (.cells #[i6 n,sV F,sV r,sV G] 103))):=A1.o.mono (by omega);unfold cE;clear B2 D7;by_cases hc:c=0
   ·subst hc;have A8:=(z rfl).1;clear z;cases E with
    |false=>
     have A0:yH (SC A (aj X) (K+501) j l (w2.alloc (.cells #[i6 n,sV F,sV r,sV G] 103))):=A1.o.mono (by omega);obtain⟨d0,d1⟩:=A0.o.cells;have C:=B9.o;have C0:yH (∀u cs f W,lU A X A.tw HA 0 cs->gO A.w.heap.size f u cs->SC A (aj X) (K+800) j (f++([]++l)) W->R (rV (tV #[u,lV none 0 0,i6 (0:Nat)])) W):=fun u cs f W=>C u cs f W h20 fun d=>(HQ.o d).2.2
     clear A8 C;go_wp2_with fail
     refine(A9.o _ _ _ A0.o).mono ?_;rintro e w5 ⟨u,c,cs,f,rfl,V,y,I⟩;have M:yH (c=0->R (rV (tV #[u,lV none 0 0,i6 (0:Nat)])) w5):=fun h0=>C0.o u cs f w5 (by rw[<-h0];exact y) V (I.mono (by omega))
     have O:yH (c≠0->R (rV (tV #[lV none 0 0,lV none 0 0,i6 c])) w5):=fun h0=>Z.o c _ w5 (fun d=>(y d).1) h0 (I.o6.mono (by omega))
     clear V I y d0 d1;by_cases D:c=0
     ·subst D;have o:=M.o rfl;have o:yH (R (rV (tV #[u,lV none 0 0,i6 (0:Nat)])) w5):=o;go_wp2
      go_ret3
      exact⟨o.o,trivial⟩
     ·have A7:((c:Int) != 0)=true:=by simp;omega
      have o:=O.o D;have o:yH (R (rV (tV #[lV none 0 0,lV none 0 0,i6 c])) w5):=o;clear D;go_wp2
      go_ret3
      exact⟨o.o,trivial⟩
    |true=>
     have D2:yH (yC 95 #[pV (qA A.sp),sV HA,sV r] (w2.alloc (.cells #[i6 n,sV F,sV r,sV G] 103)) fun e w'=>∃i b,e=rV (pV (qA i))/\jF X HA x i b/\i≠A.tw/\SC A (aj b) (K+250+1) (i::j) l w'):=D1.o r _ A8 (fun d=>(HQ.o d).2.1) A1.o;have D5:yH (A.k.ok->true=(m HA).isSome):=fun d=>(HQ.o d).2.2
     clear A8;go_wp2_with fail
     refine D2.m ?_;rintro e w3 ⟨i,b,rfl,s1,s2,B3⟩;have C:=C1.o i b;have C2:yH (∀u v cs t f s W,lU A b i HT 0 t->lU A b A.tw HA 0 cs->gO A.w.heap.size f u cs->gO A.w.heap.size s v t->SC A (aj b) (K+800) j (f++(s++l)) W->R (rV (tV #[u,v,i6 (0:Nat)])) W):=fun u v cs t f s W=>C u v cs t f s W h20 s1 s2 D5.o
     clear C s1 s2;have A0:yH (SC A (aj b) (K+250+1) (i::j) l w3):=B3;clear B3;go_wp2_with fail
     refine(D3.o _ _ _ A0.o).mono ?_;rintro e w4 ⟨rfl,B4⟩;have C8:yH (SC A (aj b) (K+250+1) (i::j) l w4):=B4;clear B4;go_wp2_with fail
     refine(C6.o _ _ _ C8.o).mono ?_;rintro e w5 ⟨v,c,t,s,rfl,B5,y,I⟩;have M:yH (SC A (aj b) (K+501) j (s++l) w5):=I.np;have J:=C2.o;have C3:yH (c=0->∀u cs f W,lU A b A.tw HA 0 cs->gO A.w.heap.size f u cs->SC A (aj b) (K+800) j (f++(s++l)) W->R (rV (tV #[u,v,i6 (0:Nat)])) W):=fun h0 u cs f W z U B=>J u v cs t f s W (by rw[<-h0];exact y) z U B5 B
     have O:yH (c≠0->R (rV (tV #[lV none 0 0,lV none 0 0,i6 c])) w5):=fun h0=>Z.o c _ w5 (fun d=>(y d).1) h0 (M.o.o6.mono (by omega))
     clear B5 I y J;by_cases D:c=0
     ·subst D;have J:=C3.o rfl;have C4:yH (∀u cs f W,lU A b A.tw HA 0 cs->gO A.w.heap.size f u cs->SC A (aj b) (K+800) j (f++(s++l)) W->R (rV (tV #[u,v,i6 (0:Nat)])) W):=J;clear J;obtain⟨d0,d1⟩:=M.o.cells;go_wp2_with fail
      refine(A9.o _ _ _ M.o).mono ?_;rintro e w6 ⟨u,c,cs,f,rfl,V,y,A5⟩;have O:yH (c=0->R (rV (tV #[u,v,i6 (0:Nat)])) w6):=fun h0=>C4.o u cs f w6 (by rw[<-h0];exact y) V (A5.mono (by omega))
      have C9:yH (c≠0->R (rV (tV #[lV none 0 0,lV none 0 0,i6 c])) w6):=fun h0=>Z.o c _ w6 (fun d=>(y d).1) h0 (A5.o6.o6.mono (by omega))
      clear V A5 d0 d1 y;by_cases A6:c=0
      ·subst A6;have o:=O.o rfl;have o:yH (R (rV (tV #[u,v,i6 (0:Nat)])) w6):=o;go_wp2
       go_ret3
       exact⟨o.o,trivial⟩
      ·have A7:((c:Int) != 0)=true:=by simp;omega
       have o:=C9.o A6;have o:yH (R (rV (tV #[lV none 0 0,lV none 0 0,i6 c])) w6):=o;clear A6;go_wp2
       go_ret3
       exact⟨o.o,trivial⟩
     ·have A7:((c:Int) != 0)=true:=by simp;omega
      have o:=O.o D;have o:yH (R (rV (tV #[lV none 0 0,lV none 0 0,i6 c])) w5):=o;clear D;go_wp2
      go_ret3
      exact⟨o.o,trivial⟩
   ·have A7:((c:Int) != 0)=true:=by simp;omega
    have o:yH (R (rV (tV #[lV none 0 0,lV none 0 0,i6 c])) (w2.alloc (.cells #[i6 n,sV F,sV r,sV G] 103))):=Z.o c _ _ (fun d=>(HQ.o d).1) hc D0.o;clear hc z;go_wp2
    go_ret3
    exact⟨o.o,trivial⟩
  ·have D9:¬(slot.size:Int)=32:=by omega
   have o:yH (R (rV (tV #[lV none 0 0,lV none 0 0,i6 (2:Nat)])) w):=B0.o fun h=>D8 h.2
   go_enter func60,ntmps60
   go_wp2
   go_ret3
   exact⟨o.o,trivial⟩
 ·have D6:¬(addr.size:Int)=20:=by omega
  have o:yH (R (rV (tV #[lV none 0 0,lV none 0 0,i6 (2:Nat)])) w):=B0.o fun h=>h20 h.1
  go_enter func60,ntmps60
  go_wp2
  go_ret3
  exact⟨o.o,trivial⟩
def Ki:zeroCells98=#[pV none,pV none]++jj fun _=>lV none 0 0:=by kernel_rfl
def Mz(x y a b)(s:Array Value):((#[x,y]++s).setIfInBounds 0 a).setIfInBounds 1 b=#[a,b]++s:=by
 apply Array.ext';simp
def MM(w b d)(P:Nat->World->Prop)(f:yH (yC 11 #[pV b,sV d] w fun e w'=>∃a,e=rV (tV #[pV (qA a),i6 0])/\P a w')):
 yC 22 #[pV b,sV d] w fun e w'=>∃a w1,P a w1/\e=rV (tV #[pV (qA w1.heap.size),i6 0])/\w'=w1.alloc (.cells (#[pV b,pV (qA a)]++jj fun _=>lV none 0 0) 98):=by
 go_enter func22,ntmps22
 go_wp2_with fail
 refine f.m ?_;rintro e w1 ⟨a,rfl,c⟩;have g:=aa c;clear c;go_wp2
 go_ret2
 refine⟨a,w1,g.o,rfl,?_⟩;rw[Ki,Mz]
def zd{l w sb A v}(hs:fv w sb A v)(L:∀x,cy sb A x->l x=pr sb 0)(T:aB w)(l3:∀k,k<3->l k=0)(a:yB)(I:a.size=32)(k:Kn)(x)(h:k.ok->dI v k.B (bP a.data.toList) x):
 yC 22 #[pV (qA sb),sV a] w fun e w'=>∃sp tw l',e=rV (tV #[pV (qA sp),i6 0])/\w.heap.size<=sp/\Mv (fun _=>False) l l' w w'/\SX l' w' sp sb tw [tw] 1 A v k (fun X r=>X=⟨fun _=>x,fun _=>none⟩/\r=a):=by
 have J:ae a.data.toList=a:=by unfold ae;simp
 have s:a.data.toList.length=32:=by rw[<-I];simp
 have C:=sL w (qA sb) a.data.toList s T;rw[J] at C;refine(MM w (qA sb) a (fun b w1=>∃u,w.heap.size<=b/\fF w1 b (qA sb) u/\At w1 (bP a.data.toList) (fun x=>w.heap.size<=x/\x≠b) (pV u)/\yW w w1) (C.mono fun _ _ ⟨b,u,h1,h2,h3,h4,h5⟩=>⟨b,h1,u,h2,h3,h4,h5⟩)).mono ?_;rintro e w' ⟨b,w1,⟨u,h1,h2,h3,h4⟩,n,rfl⟩;have F:=h4.size;have N:=T.size;have D:=h2.lt;have O:sb<w.heap.size:=hs.st.eM sb (.inl rfl);have q:yW w1 (w1.alloc (.cells (#[pV (qA sb),pV (qA b)]++jj fun _=>lV none 0 0) 98)):=(Un _ _).alloc (Ug _) _;have i:=h4.trans (q.mono F);obtain⟨l',z⟩:∃l':Nat->Nat,l'=fun k=>if k<w.heap.size then l k else if k<w1.heap.size then pr w1.heap.size (b+1) else pr w1.heap.size 0:=⟨_,rfl⟩
 have lo:∀k,k<w.heap.size->l' k=l k:=fun k p=>by rw[z];simp[p]
 have G:∀k,w.heap.size<=k->k<w1.heap.size->l' k=pr w1.heap.size (b+1):=fun k h1 h2=>by rw[z];simp[VK.2 h1,h2]
 have K:∀k,w1.heap.size<=k->l' k=pr w1.heap.size 0:=fun k h1=>by rw[z];simp[VK.2 h1,show ¬k<w.heap.size by omega]
 have m:Mv (fun _=>False) l l' w (w1.alloc (.cells (#[pV (qA sb),pV (qA b)]++jj fun _=>lV none 0 0) 98)):=⟨i.os,i.tape,i.output,i.size,lo,fun k p _=>i.block k p⟩
 have H:eX (w1.alloc (.cells (#[pV (qA sb),pV (qA b)]++jj fun _=>lV none 0 0) 98)) b (qA sb) (fun x=>(w.heap.size<=x/\x≠b)/\x<w1.heap.size) (bP a.data.toList):=
  ⟨⟨u,h2.kept (q.block b D),h3.cut.below q⟩,qZ s,fun x h=>⟨by omega,h.1.2,by have:=q.size;omega⟩⟩
 refine⟨w1.heap.size,b,l',n,F,m,⟨⟨fun _=>lV none 0 0,fun _=>[],fun _=>bP a.data.toList,fun _ x=>(w.heap.size<=x/\x≠b)/\x<w1.heap.size,⟨fun _=>x,fun _=>none⟩,?_,?_,⟨fun _ _=>List.Pairwise.nil,?_,(fun c j e _ n=>by simp at n),fun M b _=>h M⟩,rfl,?_⟩,hs.kept fun x h=>i.block x (hs.st.eM x h),fun x h=>(lo x (hs.st.eM x h)).trans (L x h),T.below i,fun k p=>(lo k (by omega)).trans (l3 k p),by omega⟩⟩
 ·exact
   {ai:=⟨UG w1 _,fun _ _=>U8 _ _ _ _,fun c d g _ _ o=>by simp[Value.ownBlock] at o,fun c g _ o=>by simp[Value.ownBlock] at o⟩
    jA:=K _ (Ug _)
    jB:=fun c g _ o=>by simp[Value.ownBlock] at o
    ie:=fun c k e _ n=>by simp at n
    gI:=fun c k d j e f _ _ n=>by simp at n
    dJ:=Uo.2 rfl
    lO:=by simp
    gy:=fun x h=>by
     rw[Uo.1 h];exact⟨H,by unfold bP;split<;>trivial,G _ h1 D,fun y E=>G y E.1.1 E.2⟩}
 ·show cS (gh v) (bP a.data.toList)+1+0<=1;rw[zM];exact Ug _
 ·funext y
  show none=nU (fun _=>[]) y;unfold nU;split<;>rfl
 ·show ae (bQ (bP a.data.toList))=a;unfold bP;split
  ·next e=>rw[<-gA a,e];rfl
  ·rw[nQ (t:=.unread a.data.toList) trivial];show ae (if a.data.toList=[] then _ else a.data.toList)=a;rw[Ui (fun e=>by rw[e] at s;cases s),gA]
def zB{c:yL}{d}(b:c.length<=4096):∀x∈iO c d,x.length<=4096:=fun x a=>by
 unfold iO at a
 split at a
 ·rw[Uo.1 a];exact b
 ·cases a
def PJ:∀(t) (d:Bool),aO t->∀c∈cf t d,c.length<=4096:=by
 intro t;induction t with
 |nil=>intro d _ c a;cases a
 |unread h=>intro d _ c a;cases a
 |leaf h p v=>intro d b;exact zB (b.ow trivial).2
 |ext h p k ih=>
  intro d b c a;rcases UA.1 a with a|a
  ·exact ih false b.2.2.2.2 c a
  ·exact zB (b.ow trivial).2 c a
 |branch h v ks ih=>
  intro d b c a;rcases UA.1 a with a|a
  ·let⟨i,hi,a⟩:=List.mem_flatMap.1 a;exact ih i false (b.2.2 i (Vq.1 hi)) c a
  ·exact zB (b.ow trivial).2 c a
def Jb{l a w sb k S t p d}(n:eX w k (qA sb) S t)(q:bK t)(s:∀x,S x->l x≠a)(y:l k≠a)(hs:fv w sb p d)(j:∀x,cy sb p x->l x=a)(T:aB w)(o:Fits d (cf t true)):
 yC 38 #[pV (qA k)] w fun e w'=>e=rV (sV (ae (bQ t)))/\∃l' f,Mv (fun x=>x=a) l l' w w'/\fv w' sb f (aT d (cf t true))/\∀x,cy sb f x->l' x=a:=by
 have h3:=T.size;refine(Uc n q hs.st (fun g=>y (j _ g)) (fun x i g=>s x i (j _ g)) hs.m3 h3 (Ug _) T o).mono ?_;rintro e w' ⟨v,r⟩;let⟨l',f,m,h1,h2,h4⟩:=Du j r (hs.st.eM sb (.inl rfl));refine⟨v,l',f,m,⟨h1,o _ fun _ h=>h,fun h z b=>?_,fun x i=>?_⟩,h2⟩
 ·rcases wT (cf t true) d h with⟨h5,_⟩|⟨c,u,h5,_⟩
  ·rw[h5] at b;exact hs.sm h z b
  ·rw[h5] at b;cases b
   rw[aN];exact PJ t true n.ok.aK c u
 ·rcases h4 x i with h5|h5
  ·exact hs.m3 x h5
  ·omega
def OU{a h}(c:ah a h≠none):(others a h).length+1<=a.length:=by
 induction a with
 |nil=>exact absurd rfl c
 |cons p a ih=>
  by_cases e:p.1=h
  ·have b:(p.1.toList == h.toList)=true:=by rw[dV];exact Uw e
   unfold others;rw[List.filter_cons_of_neg (by rw[b];simp),UJ];exact Nat.succ_le_succ (List.length_filter_le _ _)
  ·have b:(p.1.toList == h.toList)=false:=by rw[dV];exact Uv e
   have d:ah a h≠none:=fun h0=>c (by unfold ah;rw[Ui (by rw[b];simp)];exact h0)
   have:=ih d;unfold others at this⊢;rw[List.filter_cons_of_pos (by rw[b];rfl),UJ,UJ];omega
def Qr(a h t):(fp a h t).length=(others a h).length+1:=by
 have h2:=tO (others a h) h;unfold fp;simp only[Uq,UN,Uu,UJ,List.length_nil];omega
def Qq(a c):(∀d,gh (fp a (ag (ae c)) (ae c)) d=true->gh a d=true)/\gh (fp a (ag (ae c)) (ae c)) c=false/\(fp a (ag (ae c)) (ae c)).length<=a.length+(if gh a c=true then 1 else 0):=by
 refine⟨fun d b=>?_,?_,?_⟩
 ·unfold gh at b⊢;rw[uf] at b;split at b
  ·cases b
  ·exact b
 ·unfold gh;rw[uf,Uj rfl];rfl
 ·rw[Qr];have h1:=oW a (ag (ae c));split
  ·omega
  ·next hn=>
   have:ah a (ag (ae c))≠none:=fun h=>hn (by unfold gh;rw[h];rfl)
   have:=OU this;omega
def uL{P Q}(h:∀d,Q d=true->P d=true):∀(l:List yL),l.countP Q<=l.countP P
 | []=>Ug _
 |c::l=>by
  have b:=uL h l
  rw[List.countP_cons,List.countP_cons]
  by_cases a:Q c=true
  ·rw[Uj a,Uj (h c a)];omega
  ·rw[Ui a];omega
def Ja{P Q}(h:∀d,Q d=true->P d=true){c}(h1:P c=true)(h2:Q c=false):∀(l:List yL),c∈l->l.countP Q+1<=l.countP P
 | [],hc=>by cases hc
 |d::l,hc=>by
  rw[List.countP_cons,List.countP_cons]
  by_cases e:d=c
  ·subst e
   have:=uL h l
   rw[Uj h1,Ui (by rw[h2];simp)];omega
  ·have f:=Ja h h1 h2 l ((UC.1 hc).resolve_left fun b=>e b.symm)
   by_cases a:Q d=true
   ·rw[Uj a,Uj (h d a)];omega
   ·rw[Ui a];omega
def gB(a:List (yB×yB))(b:Nat->Nd)(D:List Nat):Nat:=a.length+dy (gg a b) D
def wv(f:Nat->Nd)(D:List Nat)(g:Nat)(n:g∈D):∀(l:List yL) (b),(∀c∈l,c∈cf (f g) true)->gB (aT b l) f D<=gB b f D/\∀d,gh (aT b l) d=true->gh b d=true
 | [],b,_=>⟨Ug _,fun _ h=>h⟩
 |c::l,b,hl=>by
  let⟨h1,h2⟩:=wv f D g n l (fp b (ag (ae c)) (ae c)) fun d i=>hl d (Ul _ i)
  let⟨k1,k2,k3⟩:=Qq b c
  refine⟨Ut h1 ?_,fun d i=>k1 d (h2 d i)⟩
  unfold gB
  have j:∀x,gg (fp b (ag (ae c)) (ae c)) f x<=gg b f x:=fun x=>Nat.succ_le_succ (uL k1 _)
  have p:=tv j D
  by_cases k:gh b c=true
  ·rw[Uj k] at k3
   have q:gg (fp b (ag (ae c)) (ae c)) f g+1<=gg b f g:=Nat.succ_le_succ (Ja k1 k k2 _ (hl c (Uk ..)))
   have key:∀A:List Nat,g∈A->dy (gg (fp b (ag (ae c)) (ae c)) f) A+1<=dy (gg b f) A:=by
    intro A m;induction A with
    |nil=>cases m
    |cons a r ih=>
     show gg _ f a+dy _ r+1<=gg b f a+dy _ r;by_cases e:a=g
     ·subst e;have:=tv j r;omega
     ·have:=ih ((UC.1 m).resolve_left fun o=>e o.symm);have:=j a;omega
   have:=key D n;omega
  ·rw[Ui k] at k3;omega
def Oa{c D b}(d:b∈D){a}(h:gB a c D<4000000000000):Fits a (cf (c b) true):=fun l' e=>by
 have:=(wv c D b d l' a e).1
 unfold gB at this h
 omega
def Cm(l:Nat->Nat)(w:World)(g sb h:Nat)(D:List Nat)(i:Nat->Value)(f:Nat->List bH)(a:Nat->Nd)(e:Nat->Nat->Prop)(b:List (yB×yB))(A:List Nat)(w':World):Prop:=∃l' us' ps' L,ps'=aT b L/\(∀x∈A,∀c∈cf (a x) true,c∈L)/\Mv (fun x=>x=pr sb 0) l l' w w'/\jX l' w' g sb h D i f a e/\fv w' sb us' ps'/\(∀x,cy sb us' x->l' x=pr sb 0)/\aB w'/\(∀k,k<3->l' k=0)/\gB ps' a D<=gB b a D/\∀d,gh ps' d=true->gh b d=true
def Cm.one{l w w1 j sb z a D B y f s q A}(h:Cm l w j sb z D B y f s q A w1)(N:j≠sb)(n:a∈D)(Q:gB q f D<4000000000000):
 yC 38 #[pV (qA a)] w1 fun e w'=>(∃r:yB,e=rV (sV r)/\r=ae (bQ (f a)))/\Cm l w j sb z D B y f s q (a::A) w':=by
 let⟨l',R,O,L,C,E,m,t,hs,K,T,l3,H,J⟩:=h;have i:=t.gy a n;have p:∀b,pr j b≠pr sb 0:=fun b e=>N (fS e).1
 have v:=wv f D a n (cf (f a) true) O fun _ h=>h
 refine(Jb i.tr i.loose (fun x g=>by rw[i.lS x g];exact p _) (by rw[i.lt];exact p _) hs K T (Oa n (by omega))).mono ?_;rintro e w' ⟨G,l2,P,m2,I,M⟩;refine⟨⟨_,G,rfl⟩,l2,P,_,L++cf (f a) true,by rw[wX,<-C],fun x g c u=>?_,m.trans m2,t.move m2 (fun b e=>p b e),I,M,T.mv m2 (fun k o e=>by rw[l3 k o] at e;have:=iu sb 0;omega),fun k o=>(m2.bt k (by have:=T.size;omega)).trans (l3 k o),Ut v.1 H,fun d F=>J d (v.2 d F)⟩;rcases UC.1 g with rfl|g
 ·exact UP _ u
 ·exact UR _ (E x g c u)
def Cm.cells{l w w1 b sb f D n e k g j A}(h:Cm l w b sb f D n e k g j A w1):w1.cell? ⟨b,1,none⟩=some (pV (qA f))/\∀c,c<256->∃a cap,xT w1 b c a cap (e c):=by
 let⟨l',p,o,L,_,_,m,d,_⟩:=h;refine⟨by rw[Ur w1 b 1 _ _ _ d.ai.ai];exact Dw _ _ _,fun c i=>?_⟩;let⟨a,cap,_,S⟩:=d.ai.lK c i;exact⟨a,cap,S⟩
def Ub(a:Nat->List bH)(D A:List Nat)(c k:Nat):Prop:=A.Nodup/\(∀x∈A,x∈D)/\∀x∈A,∃c' k' e,(c'<c\/(c'=c/\k'<k))/\c'<256/\(a c')[k']? =some e/\e.2=some ⟨x,0,none⟩
structure oJ(sh:Nat->List bH)(D A:List Nat)(c k:Nat):Prop where
 done:Ub sh D A c k
 all:∀c' k' e x,(c'<c\/(c'=c/\k'<k))->c'<256->(sh c')[k']? =some e->e.2=some ⟨x,0,none⟩->x∈A
def MQ(w:World)(v y:Nat)(b:Nat->List bH)(C:List Nat->World->Prop)(D:List Nat)(F:World->Prop)(Q:yB->Prop)
 (N:∀c,c<256->(b c).length<4000000000)
 (O:yH (C [] w))
 (z:yH (∀A W,C A W->yc W v 1 (pV (qA y))/\∀c,c<256->∃a cap,xT W v c a cap (b c)))
 (T:yH (∀(A:List Nat) (c k:Nat) (e:bH),c<256->(b c)[k]? =some e->oJ b D A c k->∃d,e.2=some ⟨d,0,none⟩/\oJ b D (d::A) c (k+1)/\∀W,C A W->yC 38 #[pV (qA d)] W fun e w'=>(∃r:yB,e=rV (sV r))/\C (d::A) w'))
 (Y:yH (∀A W,oJ b D A 256 0->C A W->yC 38 #[pV (qA y)] W fun e w'=>(∃r:yB,e=rV (sV r)/\Q r)/\F w')):
 yC 56 #[pV (qA v)] w fun e w'=>(∃r:yB,e=rV (sV r)/\Q r)/\F w':=by
 have Z:=aa N;have S:yH (oJ b D [] 0 0):=⟨⟨List.nodup_nil,(fun x l=>absurd l Vs),fun x l=>absurd l Vs⟩,fun i k' e x h=>by omega⟩
 have A0:yH (∀A c k,oJ b D A c k->(b c).length<=k->oJ b D A (c+1) 0):=fun A c k h hl=>⟨⟨h.done.1,h.done.2.1,fun x l=>by
  obtain⟨i,k',e,hk,r⟩:=h.done.2.2 x l;exact⟨i,k',e,by omega,r⟩⟩,fun i k' e x h1 h2 h3 h4=>h.all i k' e x (by
  by_cases q:i=c
  ·subst q;have:=(Ux.1 h3).1;omega
  ·omega) h2 h3 h4⟩
 clear N;go_enter func56,ntmps56
 go_wp2
 go_loopg [3] 256 (fun g r wr=>∃c:Nat,g=256 - c/\c<=256/\r=i6 c/\∃A,yH (oJ b D A c 0)/\yH (C A wr))
 case atStart=>exact⟨0,rfl,by omega,rfl,[],S,O⟩
 case round=>
  obtain⟨c,j,hc,rfl,A,B,n⟩:=hrel;have U:=aa j;clear j;by_cases t:c<256
  ·have A3:(c:Int)<256:=by omega
   have A4:=Z.o c t;generalize wr=WR at*;generalize gk=GK at*;go_wp2
   go_loopg [4] (b c).length (fun g r wr=>∃k:Nat,g=(b c).length - k/\k<=(b c).length/\r=i6 k/\∃A,yH (oJ b D A c k)/\yH (C A wr))
   case atStart=>exact⟨0,rfl,by omega,rfl,A,B,n⟩
   case round=>
    obtain⟨k,j,hk,rfl,f,E,o⟩:=hrel;have V:=aa j;clear j;obtain⟨_,s⟩:=z.o f wr o.o;obtain⟨a,cap,m⟩:=s c t;have x0:=m.cell;by_cases M:k<(b c).length
    ·have u:(b c)[k]? =some ((b c)[k]'M):=Uh M;obtain⟨g,rfl,y0,y1⟩:=m.at_ k _ u;obtain⟨d,H,L,K⟩:=T.o f c k _ t u E.o;rw[H] at y1;have p:=aa L;have R:=aa (K wr o.o);have A1:(k:Int)<((b c).length:Int):=by omega
     clear u H L K m s y0;go_wp2_with fail
     refine R.m ?_;rintro e w3 ⟨⟨r,rfl⟩,I⟩;have P:=aa I;clear I x0 y1;go_wp2
     go_roundg ((b c).length - (k+1))
     case measure=>have:=V.o;omega
     case rel=>exact⟨k+1,rfl,by omega,by go_num,_,p,P⟩
    ·obtain rfl:k=(b c).length:=by omega
     have A1:¬((b c).length:Int)<((b c).length:Int):=by omega
     have p:=aa (A0.o f c _ E.o (Ug _));clear m s;go_wp2
     go_roundg (256 - (c+1))
     case measure=>have:=U.o;omega
     case rel=>exact⟨c+1,rfl,by omega,by go_num,f,p,o⟩
  ·obtain rfl:c=256:=by omega
   obtain⟨x1,_⟩:=z.o A wr n.o;have X:=aa (Y.o A wr B.o n.o);go_wp2_with fail
   refine X.m ?_;rintro e w3 ⟨⟨r,rfl,h32⟩,J⟩;have G:yH (Q r/\F w3):=⟨h32,J⟩
   clear h32 J;go_wp2
   go_ret
   exact⟨⟨r,rfl,G.o.1⟩,G.o.2⟩
def sO(k:Kn)(a:List (yB×yB))(b:Nat)(X:Gh)(L:List yL):Prop:=k.ok->∀tb,(tb=b\/∃h,X.o h=some tb)->∃t,aA t 0/\bK t/\dI a k.B t (X.g tb)/\∀c∈cf t true,c∈L
def kO.store{k k':Kn}{a X g D e f L}(h:kO k a X g D e f)(i:k'.B=k.B)(b:k'.ok->k.ok/\∀c,k.B c->eI (ah (aT a L)) (ae c)=false):kO k' (aT a L) X g D e f:=
 ⟨h.fB,h.o,h.tw,fun d l j=>by rw[i];exact(h.iG (b d).1 l j).laid (b d).2⟩
def SX.Sx{l w v sb f D N P a k X r}(h:SX l w v sb f D N P a k (fun Y s=>Y=X/\s=r))(Z:N<4000000000)(hn:a.length+N<4000000000000):
 yC 56 #[pV (qA v)] w fun e w'=>(∃s:yB,e=rV (sV s)/\s=r)/\∃l' G N' L,Mv (fun x=>x=pr sb 0) l l' w w'/\(∀k':Kn,k'.B=k.B->(k'.ok->k.ok/\∀c,k.B c->eI (ah (aT a L)) (ae c)=false)->SX l' w' v sb f D N' G (aT a L) k' (fun Y s=>Y=X/\s=r))/\(aT a L).length+N'<=a.length+N/\(∀d,gh (aT a L) d=true->gh a d=true)/\sO k a f X L:=by
 obtain⟨Q,H,p,K,X,i,A6,I,rfl,rfl⟩:=h.st;have O:gB a p D<4000000000000:=by unfold gB;omega
 refine MQ w v f H (Cm l w v sb f D Q H p K a) D (fun w'=>∃l' G N' L,Mv (fun x=>x=pr sb 0) l l' w w'/\(∀k':Kn,k'.B=k.B->(k'.ok->k.ok/\∀c,k.B c->eI (ah (aT a L)) (ae c)=false)->SX l' w' v sb f D N' G (aT a L) k' (fun Y s=>Y=X/\s=ae (bQ (p f))))/\(aT a L).length+N'<=a.length+N/\(∀d,gh (aT a L) d=true->gh a d=true)/\sO k a f X L) (fun s=>s=ae (bQ (p f))) (fun c E=>Nat.lt_of_le_of_lt (Ut (i.sd a c E) A6) Z) ⟨l,P,a,[],rfl,(fun x g=>absurd g Vs),Mv.refl _ _ _,i,h.jw,h.ls,h.bz,h.l3,Ug _,fun _ h=>h⟩ (fun A W C=>C.cells) ?_ ?_
 ·intro A c k e E u n;let⟨b,h1,h2⟩:=i.ie c k e E u;have A4:b∉A:=fun hm=>by
   let⟨t,k',z,A3,A0,A1,h3⟩:=n.done.2.2 b hm;have:=i.gI t k' c k z e A0 E A1 u (by rw[h3,h1]);omega
  have S:oJ H D (b::A) c (k+1):=⟨⟨List.nodup_cons.2 ⟨A4,n.done.1⟩,(fun x g=>by rcases UC.1 g with rfl|g;exact h2;exact n.done.2.1 x g),fun x g=>by
   rcases UC.1 g with rfl|g
   ·exact⟨c,k,e,.inr ⟨rfl,by omega⟩,E,u,h1⟩
   ·let⟨t,k',z,A3,r⟩:=n.done.2.2 x g;exact⟨t,k',z,by omega,r⟩⟩,fun t k' z x q1 q2 q3 q4=>by
   by_cases q:t=c/\k'=k
   ·obtain⟨rfl,rfl⟩:=q;rw[u] at q3;cases q3
    rw[h1] at q4;cases q4
    exact Uk ..
   ·exact Ul _ (n.all t k' z x (by omega) q2 q3 q4)⟩
  exact⟨b,h1,S,fun W C=>(C.one h.ne h2 O).mono fun _ _ ⟨⟨r,h1,_⟩,h2⟩=>⟨⟨r,h1⟩,h2⟩⟩
 ·intro A W n C;refine(C.one h.ne i.dJ O).mono ?_;rintro e w' ⟨u,l',G,A9,L,rfl,V,m,U,hs,ls,T,l3,A2,A8⟩;refine⟨u,l',G,dy (gg (aT a L) p) D,L,m,fun k' R A5=>⟨⟨Q,H,p,K,X,U,Ug _,I.store R A5,rfl,rfl⟩,hs,ls,T,l3,h.ne⟩,?_,A8,fun ok b A7=>?_⟩
  ·unfold gB at A2;omega
  ·have J:b∈D/\b∈f::A:=by
    rcases A7 with rfl|⟨y,F⟩
    ·exact⟨i.dJ,Uk ..⟩
    ·rw[I.o] at F;unfold nU at F;split at F
     ·next h0=>
      let⟨j,e0,a1,_,a3⟩:=zG F;let⟨t0,b1,b2⟩:=i.ie _ j e0 (y[0]'h0).toNat_lt a1;unfold mg at a3;rw[b1] at a3;have a3:=a3;subst a3;exact⟨b2,Ul _ (n.all _ j e0 _ (.inl (y[0]'h0).toNat_lt) (y[0]'h0).toNat_lt a1 b1)⟩
     ·cases F
   have M:=i.gy b J.1;exact⟨p b,M.tr.ok,M.loose,I.iG ok b J.1,V b J.2⟩
def SX.store{l l' w w' g sb j D N C i a L}{k k':Kn}{P}(h:SX l w g sb j D N C a k P)(m:Mv (fun x=>x=pr sb 0) l l' w w')(hs:fv w' sb i (aT a L))(y:∀x,cy sb i x->l' x=pr sb 0)(v:∀d,gh (aT a L) d=true->gh a d=true)(o:k'.B=k.B)(t:k'.ok->k.ok/\∀c,k.B c->eI (ah (aT a L)) (ae c)=false):SX l' w' g sb j D N i (aT a L) k' P:=by
 let⟨E,z,A,n,X,q,u,p,r⟩:=h.st;have s:∀b,pr g b≠pr sb 0:=fun b e=>h.ne (fS e).1
 have h0:∀k,k<3->l k≠pr sb 0:=fun k f e=>by rw[h.l3 k f] at e;have:=iu sb 0;omega
 exact⟨⟨E,z,A,n,X,q.move m s,Ut (tv (fun x=>Nat.succ_le_succ (uL v _)) D) u,p.store o t,r⟩,hs,y,h.bz.mv m h0,fun k f=>(m.bt k (by have:=h.bz.size;omega)).trans (h.l3 k f),h.ne⟩
structure aH where
 addr:yB
 n:Int
 aI:yB
 code:yB
 sa:Option Addr
 sc:Nat
 az:List (yB×yB)
def aH.sv(h:aH):Value:=lV h.sa h.az.length h.sc
def iR(h:aH):Value:=gV #[sV h.addr,iV .i64 h.n,sV h.aI,sV h.code,h.sv]
def g9(hs:List aH):List Value:=hs.flatMap fun h=>[sV h.addr,iV .i64 h.n,sV h.aI,sV h.code,h.sv]
structure jK(w:World)(h:aH):Prop where
 addr:h.addr.size<=1073741824
 n:Rg h.n
 aI:h.aI.size<=1073741824
 code:h.code.size<=1073741824
 at_:eH w h.sv h.az
 len:h.az.length<4000000000
 small:∀p∈h.az,p.1.size<=1073741824/\p.2.size<=1073741824
def gw(w:World)(v:Value)(hs:List aH):Prop:=w.ownsRow 3 107 5 v hs.length (g9 hs)/\∀h∈hs,jK w h
def jK.below{w w' h}(k:jK w h)(a:yW w w'):jK w' h:=⟨k.addr,k.n,k.aI,k.code,k.at_.below a,k.len,k.small⟩
def gw.below{w w' v hs}(h:gw w v hs)(a:yW w w'):gw w' v hs:=⟨cM h.1 fun g b=>a.block g (h.1.lt g b).2,fun x c=>(h.2 x c).below a⟩
def Hr(a b:List aH):g9 (a++b)=g9 a++g9 b:=by simp[g9]
def Hq:∀(hs:List aH) (k:Nat) (h:aH),hs[k]? =some h->(g9 hs)[k*5]? =some (sV h.addr)/\(g9 hs)[k*5+1]? =some (i6 h.n)/\(g9 hs)[k*5+2]? =some (sV h.aI)/\(g9 hs)[k*5+3]? =some (sV h.code)/\(g9 hs)[k*5+4]? =some h.sv
 | [],k,h,e=>by simp at e
 |q::t,0,h,e=>by simp at e;subst e;exact⟨rfl,rfl,rfl,rfl,rfl⟩
 |q::t,k+1,h,e=>by
  have:=Hq t k h (by simpa using e)
  refine⟨?_,?_,?_,?_,?_⟩
  ·rw[show(k+1)*5=k*5+5 by omega];exact this.1
  ·rw[show(k+1)*5+1=k*5+1+5 by omega];exact this.2.1
  ·rw[show(k+1)*5+2=k*5+2+5 by omega];exact this.2.2.1
  ·rw[show(k+1)*5+3=k*5+3+5 by omega];exact this.2.2.2.1
  ·rw[show(k+1)*5+4=k*5+4+5 by omega];exact this.2.2.2.2
def gw.form{w v hs}(h:gw w v hs):∃a cap,v=lV a hs.length cap:=by
 let⟨a,cap,e,_⟩:=dM h.1;exact⟨a,cap,e⟩
def gw.at_{w a n cap hs}(h:gw w (lV a n cap) hs)(k:Nat)(x:aH)(b:hs[k]? =some x):
 ∃g,a=some ⟨g,0,none⟩/\g<w.heap.size/\yc w g (k*5) (sV x.addr)/\yc w g (k*5+1) (i6 x.n)/\yc w g (k*5+2) (sV x.aI)/\yc w g (k*5+3) (sV x.code)/\yc w g (k*5+4) x.sv:=by
 let⟨a',c,e,_,_,f⟩:=dM h.1;cases e
 have d:=(Ux.1 b).1;rcases f with⟨_,h0,_⟩|⟨g,rfl⟩
 ·omega
 ·let⟨p0,p1,p2,p3,p4⟩:=Hq hs k x b;exact⟨g,rfl,(h.1.lt g rfl).2,fc h.1 rfl _ _ p0,fc h.1 rfl _ _ p1,fc h.1 rfl _ _ p2,fc h.1 rfl _ _ p3,fc h.1 rfl _ _ p4⟩
def kQ(e:Ending):Prop:=∃b:Bool,e=rV (bV b)
def Gr(t:yB)(g:t.size<=maxLen)(w):yC 66 #[sV t] w fun e w'=>e=rV (bV (bF t))/\w'=w:=by
 have b:yH (∀h:0<t.size,bF t=(decide (t.size<=32) && decide ((t[0]'h).toNat≠0))):=fun h=>by unfold bF;rw[dif_pos h]
 have c:yH (¬0<t.size->bF t=true):=fun h=>by unfold bF;rw[dif_neg h]
 generalize bF t=B at*;unfold maxLen at g;by_cases h32:t.size<=32
 ·have d:(t.size:Int)<=32:=by omega
  by_cases h0:0<t.size
  ·have f:t.toList.isEmpty=false:=by rw[iv];omega
   have i:(0:Int)<(t.size:Int):=by omega
   have a:yH (B=(((t[0]'h0).toNat:Int) != 0)):=by
    rw[b.o h0,Uw h32,Bool.true_and];by_cases e:(t[0]'h0).toNat=0
    ·rw[Uv (by simpa using e),e];rfl
    ·rw[Uw e];exact(show(((t[0]'h0).toNat:Int) != 0)=true by simpa using e).symm
   cases hz:(((t[0]'h0).toNat:Int) != 0)<;>rw[hz] at a<;>
    (go_enter func66,ntmps66;go_wp2_with fail;go_ret;exact⟨by rw[a.o];rfl,rfl⟩)
  ·have f:t.toList.isEmpty=true:=by rw[g7];omega
   have a:=aa (c.o h0);go_enter func66,ntmps66
   go_wp2
   go_ret
   exact⟨by rw[a.o];rfl,rfl⟩
 ·have d:¬(t.size:Int)<=32:=by omega
  have a:yH (B=false):=by rw[b.o (by omega),Uv h32];rfl
  go_enter func66,ntmps66
  go_wp2
  go_ret
  exact⟨by rw[a.o];rfl,rfl⟩
def jt(W:World)(n:Nat)(t:TypeId)(x0 x1 x2 x3 x4:Value):Prop:=W.heap[n]? =some (.cells #[x0,x1,x2,x3,x4] t (0,0))
def jt.new(w:World)(t x0 x1 x2 x3 x4):jt (w.alloc (.cells #[x0,x1,x2,x3,x4] t)) w.heap.size t x0 x1 x2 x3 x4:=UG w _
def jt.below{w W n m t x0 x1 x2 x3 x4}(h:jt w n t x0 x1 x2 x3 x4)(a:Below m w W)(b:n<m):jt W n t x0 x1 x2 x3 x4:=(a.block n b).trans h
def jt.cells{W n t x0 x1 x2 x3 x4}(h:jt W n t x0 x1 x2 x3 x4):(W.cell? ⟨n,0,none⟩=some x0/\W.cell? ⟨n,1,none⟩=some x1/\W.cell? ⟨n,2,none⟩=some x2/\W.cell? ⟨n,3,none⟩=some x3/\W.cell? ⟨n,4,none⟩=some x4)/\W.frozen? ⟨n,0,none⟩=false/\W.frozen? ⟨n,1,none⟩=false/\W.frozen? ⟨n,2,none⟩=false/\W.frozen? ⟨n,3,none⟩=false/\W.frozen? ⟨n,4,none⟩=false:=by
 refine⟨⟨?_,?_,?_,?_,?_⟩,US W n 0 _ _ h,US W n 1 _ _ h,US W n 2 _ _ h,US W n 3 _ _ h,US W n 4 _ _ h⟩
 ·rw[Ur W n 0 _ _ _ h];rfl
 ·rw[Ur W n 1 _ _ _ h];rfl
 ·rw[Ur W n 2 _ _ _ h];rfl
 ·rw[Ur W n 3 _ _ _ h];rfl
 ·rw[Ur W n 4 _ _ _ h];rfl
def jt.lt{W n t x0 x1 x2 x3 x4}(h:jt W n t x0 x1 x2 x3 x4):n<W.heap.size:=(Um.1 h).1
def JA{b n w w1}(h:Below b w w1)(a:b<=n)(x0 x1 x2 x3 x4):Below b w (((((w1.setCell ⟨n,0,none⟩ x0).setCell ⟨n,1,none⟩ x1).setCell ⟨n,2,none⟩ x2).setCell ⟨n,3,none⟩ x3).setCell ⟨n,4,none⟩ x4):=
 ((((h.setCell a _).setCell a _).setCell a _).setCell a _).setCell a _
def dH:List aH->yB->Option aH
 | [],_=>none
 |h::t,a=>if h.addr=a then some h else dH t a
def lz(a:yB):aH:=⟨a,0,⟨#[]⟩,cZ,none,0,[]⟩
def bT(hs:List aH)(a:yB):aH×Bool:=match dH hs a with
 |some h=>(h,true)
 |none=>(lz a,false)
def RH(hs:List aH)(a)(k:Nat)(h:aH)(b:hs[k]? =some h)(d:h.addr≠a):dH (hs.drop k) a=dH (hs.drop (k+1)) a:=by
 have c:=(Ux.1 b).1;rw[UZ c,(Ux.1 b).2];conv=>lhs;unfold dH
 rw[Ui d]
def RI(hs:List aH)(a)(k:Nat)(h:aH)(b:hs[k]? =some h)(c:h.addr=a):dH (hs.drop k) a=some h:=by
 have d:=(Ux.1 b).1;rw[UZ d,(Ux.1 b).2];unfold dH;rw[Uj c]
def GH(w v)(hs:List aH)(addr:yB)(H:gw w v hs)(X:hs.length<4000000000)(T:aB w):
 yC 52 #[v,sV addr] w fun e w'=>e=rV (tV #[iR (bT hs addr).1,bV (bT hs addr).2])/\yW w w':=by
 obtain⟨a,cap,rfl⟩:=H.form;obtain⟨b,i⟩:=yX (w.alloc (.cells #[sV ⟨#[]⟩,i6 0,sV ⟨#[]⟩,sV ⟨#[]⟩,lV none 0 0] 107))
 have f:yH (yW w b):=by rw[i];exact(Un _ _).alloc (Ug _) _
 have l:yH (jt b w.heap.size 107 (sV ⟨#[]⟩) (i6 0) (sV ⟨#[]⟩) (sV ⟨#[]⟩) (lV none 0 0)):=by rw[i];exact jt.new _ _ _ _ _ _ _
 have D:=aa (H.below f.o);have E:yH (∀W,yW w W->yC 94 #[] W fun e w'=>e=rV (sV cZ)/\yW W w'):=fun W I=>Aq W (T.below I)
 have u:yH (∀k (_:k<hs.length),∃x g,hs[k]? =some x/\a=some ⟨g,0,none⟩/\yc b g (k*5) (sV x.addr)/\yc b g (k*5+1) (i6 x.n)/\yc b g (k*5+2) (sV x.aI)/\yc b g (k*5+3) (sV x.code)/\yc b g (k*5+4) x.sv):=fun k t=>by
  have c:hs[k]? =some hs[k]:=Uh t;obtain⟨g,e,_,r⟩:=D.o.at_ k _ c;exact⟨_,g,c,e,r⟩
 have A:yH (dH hs addr=dH (hs.drop 0) addr):=rfl;have G:yH (∀x,dH hs addr=some x->bT hs addr=(x,true)):=fun x e=>by unfold bT;rw[e]
 have F:yH (dH hs addr=none->bT hs addr=(lz addr,false)):=fun e=>by unfold bT;rw[e]
 have z:yH (iR (lz addr)=gV #[sV addr,i6 0,sV ⟨#[]⟩,sV cZ,lV none 0 0]):=rfl;clear H T;generalize hN:hs.length=N at*;generalize cZ=NC at*;go_enter func52,ntmps52
 go_wp2
 rw[<-i];clear i;go_loopg [6] N (fun g r wr=>∃k:Nat,g=N - k/\k<=N/\r=i6 k/\yH (dH hs addr=dH (hs.drop k) addr)/\wr=b)
 case atStart=>exact⟨0,rfl,by omega,rfl,A,rfl⟩
 case round=>
  obtain⟨k,s,t,rfl,h,L⟩:=hrel;subst L;have C:=aa s;clear s;by_cases K:k<N
  ·obtain⟨x,g,c,rfl,c0,c1,c2,c3,c4⟩:=u.o k K;have J:(k:Int)<(N:Int):=by omega
   by_cases d:x.addr=addr
   ·have q:dH hs addr=some x:=by rw[h.o,RI hs addr k x c d]
    have j:=aa (G.o x q);have o:(x.addr.toList == addr.toList)=true:=by rw[dV];exact Uw d
    obtain⟨⟨k0,k1,k2,k3,k4⟩,f0,f1,f2,f3,f4⟩:=l.o.cells;obtain⟨M,R,O,P,S,U,Q⟩:=x;simp only[aH.sv] at c0 c1 c2 c3 c4 o;clear c d q h;have V:w.heap.size<wr.heap.size:=UE wr _ k0;go_wp2
    exact UB (v:=tV #[gV #[sV M,i6 R,sV O,sV P,lV S Q.length U],bV true]) (by simp[results,results52,go_sem,k0,k1,k2,k3,k4]) rfl ⟨by rw[j.o];rfl,JA f.o (Ug _) _ _ _ _ _⟩
   ·have B:yH (dH hs addr=dH (hs.drop (k+1)) addr):=by rw[h.o];exact RH hs addr k x c d
    have o:(x.addr.toList == addr.toList)=false:=by rw[dV];exact Uv d
    clear c d c1 c2 c3 c4;go_wp2
    go_roundg (N - (k+1))
    case measure=>have:=C.o;omega
    case rel=>exact⟨k+1,rfl,by omega,by go_num,B,rfl⟩
  ·obtain rfl:k=N:=by omega
   have J:¬(k:Int)<(k:Int):=by omega
   have p:dH hs addr=none:=by rw[h.o,<-hN,List.drop_length];rfl
   have j:=aa (F.o p);clear p;go_wp2_with fail
   refine(E.o _ f.o).mono ?_;rintro e w2 ⟨rfl,m⟩;have y:=aa (f.o.trans (m.mono f.o.size));obtain⟨⟨k0,k1,k2,k3,k4⟩,f0,f1,f2,f3,f4⟩:=(l.o.below m l.o.lt).cells;clear m;go_wp2
   exact UB (v:=tV #[gV #[sV addr,i6 0,sV ⟨#[]⟩,sV NC,lV none 0 0],bV false]) (by simp[results,results52,go_sem,k0,k1,k2,k3,k4]) rfl ⟨by rw[j.o,z.o],JA y.o (Ug _) _ _ _ _ _⟩
def Jl{l}(h:bY l l.length=false){x y}(b:x∈l)(c:y∈l)(e:ag x=ag y):x=y:=by
 let⟨i,hi⟩:=List.getElem?_of_mem b;let⟨j,a⟩:=List.getElem?_of_mem c;have d:=(Ux.1 hi).1;have f:=(Ux.1 a).1;rcases Nat.lt_trichotomy i j with q|q|q
 ·exact(Bv h j i y x f q a hi e.symm).symm
 ·subst q;rw[hi] at a;exact Option.some.inj a
 ·exact Bv h i j x y d q hi a e
def iX(a:List yB):Prop:=∀x∈a,∀y∈a,ag x=ag y->x=y
def ct(a:List (yB×yB)):List (yB×yB):=a.map fun p=>(ag p.1,fg p.2)
def dU(h:aH):Ac:=⟨h.n.toNat,h.aI,h.code,ct h.az⟩
def bG:List aH->Mp
 | [],_=>none
 |h::t,y=>if ag h.addr=y then some (dU h) else bG t y
abbrev pP(h:aH):Prop:=h.n=0/\h.aI.size=0/\h.code=cZ/\h.az.length=0
structure iz(seen:List yB)(h:aH):Prop where
 len:h.addr.size=20
 addr:h.addr∈seen
 n:0<=h.n/\h.n<9223372036854775808
 aI:bF h.aI=true
 code:h.code.size=32
 once:(h.az.map (·.1)).Nodup
 slot:∀p∈h.az,p.1.size=32/\p.1∈seen/\bF p.2=true/\p.2.size≠0
 full:cY (ct h.az)=ae bM->h.az=[]
structure iM(seen:List yB)(hs:List aH):Prop where
 each:∀h∈hs,iz seen h/\¬pP h
 once:(hs.map (·.addr)).Nodup
def iz.more{b c h}(k:iz b h)(hs:∀x∈b,x∈c):iz c h:=⟨k.len,hs _ k.addr,k.n,k.aI,k.code,k.once,fun p a=>⟨(k.slot p a).1,hs _ (k.slot p a).2.1,(k.slot p a).2.2⟩,k.full⟩
def iM.more{b c hs}(k:iM b hs)(h:∀x∈b,x∈c):iM c hs:=⟨fun x a=>⟨(k.each x a).1.more h,(k.each x a).2⟩,k.once⟩
def DL{d}(hi:iX d):∀{b:List (yB×yB)},(b.map (·.1)).Nodup->(∀p∈b,p.1∈d)->((ct b).map (·.1)).Nodup
 | [],_,_=>List.nodup_nil
 |p::t,h,hs=>by
  let⟨h1,h2⟩:=List.nodup_cons.1 h
  refine List.nodup_cons.2 ⟨fun f=>?_,DL hi h2 fun q a=>hs q (Ul _ a)⟩
  let⟨q,a,e⟩:=UO.1 f
  obtain⟨r,c,rfl⟩:=UO.1 a
  have:=hi _ (hs r (Ul _ c)) _ (hs p (Uk ..)) e
  exact h1 (UO.2 ⟨r,c,this⟩)
def DM{c}(hi:iX c){b:List (yB×yB)}(e:(b.map (·.1)).Nodup)(slot:∀p∈b,p.1.size=32/\p.1∈c/\bF p.2=true/\p.2.size≠0):cT (ct b):=by
 refine⟨DL hi e fun p a=>(slot p a).2.1,fun p a=>?_⟩;obtain⟨q,d,rfl⟩:=UO.1 a;let⟨c1,c2,_⟩:=qG (mH (slot q d).2.2.1);exact⟨by show(ag q.1).size<=40;rw[show(ag q.1).size=32 from dz _];decide,c1,c2⟩
def iz.map{a}(hi:iX a){h}(k:iz a h):cT (ct h.az):=DM hi k.once k.slot
def iz.fit{a}(hi:iX a){h}(k:iz a h):nH (eo (dU h)):=⟨by show h.n.toNat<_;have:=k.n;omega,k.aI,vT (k.map hi),k.code⟩
def iz.none{b h}(k:iz b h):mI (eo (dU h))=true↔pP h:=by
 rw[rW];constructor
 ·intro e;injection e with e1 e2 e3 e4;have c:=k.n.1;have e1:h.n.toNat=0:=e1;have e2:h.aI=⟨#[]⟩:=e2;exact⟨by omega,by rw[e2];rfl,e4,by rw[k.full e3];rfl⟩
 ·rintro ⟨h1,h2,h3,h4⟩;have hs:h.az=[]:=UH.1 h4;have a:h.aI=⟨#[]⟩:=by
   have:h.aI.data.toList=[]:=UH.1 (by simpa using h2);rw[<-gA h.aI,this];rfl
  show(⟨h.n.toNat,h.aI,cY (ct h.az),h.code⟩:Acc)=gC;rw[h1,a,h3,hs];rfl
def Hd{a}(hi:iX a){addr}(b:addr∈a):∀{hs},(∀h∈hs,h.addr∈a)->bG hs (ag addr)=(dH hs addr).map dU
 | [],_=>rfl
 |h::t,hh=>by
  show(if ag h.addr=ag addr then some (dU h) else bG t (ag addr))=(if h.addr=addr then some h else dH t addr).map dU
  rw[Hd hi b fun x c=>hh x (Ul _ c)]
  by_cases e:h.addr=addr
  ·rw[Uj e,Uj (by rw[e])];rfl
  ·rw[Ui e,Ui (fun q=>e (hi _ (hh h (Uk ..)) _ b q))]
def dv(hs:List aH)(a:yB):List aH:=hs.filter fun h=>!(h.addr.toList == a.toList)
def Hc{b}(hi:iX b){addr}(c:addr∈b)(y):∀{hs} (L:List aH),(∀h∈hs,h.addr∈b)->bG (dv hs addr++L) y=if y=ag addr then bG L y else(bG hs y).or (bG L y)
 | [],L,_=>by
  show bG L y=_
  split<;>rfl
 |h::t,L,hh=>by
  have a:=Hc hi c y (hs:=t) L fun x d=>hh x (Ul _ d)
  unfold dv at a⊢
  rw[List.filter_cons,dV]
  by_cases e:h.addr=addr
  ·rw[Uw e,Ui (by simp),a]
   split
   ·rfl
   ·next hn=>
    show _=(if ag h.addr=y then some (dU h) else bG t y).or _
    rw[Ui (fun q=>hn (by rw[<-q,e]))]
  ·rw[Uv e,Uj (by rfl)]
   show(if ag h.addr=y then some (dU h) else bG _ y)=if y=ag addr then bG L y else(if ag h.addr=y then some (dU h) else bG t y).or _
   by_cases q:ag h.addr=y
   ·rw[Uj q,Uj q,Ui (fun q2=>e (hi _ (hh h (Uk ..)) _ c (q.trans q2)))];rfl
   ·rw[Ui q,Ui q];exact a
def ng (hs:List aH) (h:aH):List aH:=dv hs h.addr++(if pP h then [] else [h])
def AE{c}(hi:iX c){hs}(k:iM c hs){x}(b:iz c x):bG (ng hs x)=cQ (bG hs) (ag x.addr) (dU x):=by
 funext y
 unfold ng;rw[Hc hi b.addr y _ fun h d=>(k.each h d).1.addr];unfold cQ;by_cases a:pP x
 ·rw[Uj a,Uj (b.none.2 a)];by_cases e:y=ag x.addr
  ·rw[Uj e,Uj e];rfl
  ·rw[Ui e,Ui e];cases bG hs y<;>rfl
 ·rw[Ui a,Ui (fun q=>a (b.none.1 q))];by_cases e:y=ag x.addr
  ·rw[Uj e,Uj e];show(if ag x.addr=y then some (dU x) else none)=_;rw[Uj e.symm]
  ·rw[Ui e,Ui e];show(bG hs y).or (if ag x.addr=y then some (dU x) else none)=_;rw[Ui (fun q=>e q.symm)];cases bG hs y<;>rfl
def iM.place{d hs}(k:iM d hs){x}(l:iz d x):iM d (ng hs x):=by
 unfold ng;have h1:∀y∈dv hs x.addr,iz d y/\¬pP y:=fun y c=>k.each y (List.mem_filter.1 c).1
 have j:(dv hs x.addr).Sublist hs:=List.filter_sublist;have h2:((dv hs x.addr).map (·.addr)).Nodup:=k.once.sublist (j.map _);by_cases f:pP x
 ·rw[Uj f,UU];exact⟨h1,h2⟩
 ·rw[Ui f];refine⟨fun y c=>?_,?_⟩
  ·rcases UA.1 c with c|c
   ·exact h1 y c
   ·rw[Uo.1 c];exact⟨l,f⟩
  ·rw[Vl,List.nodup_append];refine⟨h2,by simp,fun a i b g e=>?_⟩;simp only[List.map_cons,List.map_nil,Uo] at g;obtain⟨z,m,rfl⟩:=UO.1 i;have h:=(List.mem_filter.1 m).2;rw[dV,e,g,Uw rfl] at h;cases h
def DN{a}(hi:iX a){k}(c:k∈a):∀{b},(∀p∈b,p.1∈a)->ah (ct b) (ag k)=(ah b k).map fg
 | [],_=>rfl
 |p::t,hs=>by
  show(if((ag p.1).toList == (ag k).toList) then some (fg p.2) else ah (ct t) (ag k))=(if(p.1.toList == k.toList) then some p.2 else ah t k).map fg
  rw[dV,dV,DN hi c fun q d=>hs q (Ul _ d)]
  by_cases e:p.1=k
  ·rw[Uw e,Uw (by rw[e]),Uj rfl,Uj rfl];rfl
  ·rw[Uv e,Uv (fun q=>e (hi _ (hs p (Uk ..)) _ c q)),Ui (by simp),Ui (by simp)]
def Mk{b}(hi:iX b){h}(x:iz b h){k}(d:k∈b){v c}(hs:iU (bD (ct h.az) (ag k)) v c):v=bD h.az k/\c=0:=by
 unfold bD at hs⊢;rw[DN hi d fun p a=>(x.slot p a).2.1] at hs;cases hl:ah h.az k with
 |none=>rw[hl] at hs;exact hs.1 rfl
 |some u=>
  rw[hl] at hs;have e:∀{t:List (yB×yB)},ah t k=some u->∃p∈t,p.2=u:=by
   intro t;induction t with
   |nil=>intro h;cases h
   |cons p t ih=>
    intro h;have h:(if(p.1.toList == k.toList) then some p.2 else ah t k)=some u:=h;split at h
    ·exact⟨p,Uk ..,Option.some.inj h⟩
    ·let⟨q,h1,h2⟩:=ih h;exact⟨q,Ul _ h1,h2⟩
  obtain⟨p,a,rfl⟩:=e hl;let⟨_,_,h3,h4⟩:=x.slot p a;exact hs.2 p.2 rfl h3 h4
def Mj{b}(hi:iX b){a}(hs:∀p∈a,p.1∈b){k}(c:k∈b){v:yB}(g:v.size<=32):ct (aL a k v)=aL (ct a) (ag k) (if v.size=0 then⟨#[]⟩ else fg v):=by
 have d:others (ct a) (ag k)=ct (others a k):=by
  unfold others ct;rw[List.filter_map];congr 1;refine List.filter_congr fun p f=>?_
  show(!((ag p.1).toList == (ag k).toList))= !(p.1.toList == k.toList);rw[dV,dV];by_cases e:p.1=k
  ·rw[Uw e,Uw (by rw[e])]
  ·rw[Uv e,Uv (fun q=>e (hi _ (hs p f) _ c q))]
 unfold aL;rw[d];by_cases h0:v.size=0
 ·rw[Uj h0,Uj h0,Uj (show(⟨#[]⟩:yB).size=0 from rfl),UU,UU]
 ·rw[Ui h0,Ui h0,Ui (by have:=(qG g).1;omega)];unfold ct;rw[Vl];rfl
def KF{c:List (yB×yB)}(h:(c.map (·.1)).Nodup)(k v):((aL c k v).map (·.1)).Nodup:=by
 unfold aL;have g:(others c k).Sublist c:=List.filter_sublist;have h2:((others c k).map (·.1)).Nodup:=h.sublist (g.map _);split
 ·rw[UU];exact h2
 ·rw[Vl,List.nodup_append];refine⟨h2,by simp,fun a f b d e=>?_⟩;simp only[List.map_cons,List.map_nil,Uo] at d;obtain⟨z,i,rfl⟩:=UO.1 f;exact zE c k z i (e.trans d)
def gN(hs:List aH)(c:yL):Prop:=oE (hs.map fun h=>(ag h.addr,ir (eo (dU h)))) c\/∃h∈hs,oE (ct h.az) c
def Q9:(yP.info? 107).map (fun i=>(i.zero,i.size,i.bytes))=some (some (gV #[sV ⟨#[]⟩,i6 0,sV ⟨#[]⟩,sV ⟨#[]⟩,lV none 0 0]),5,80):=by kernel_rfl
def Fj(hs:List aH)(a):(dv hs a).length<=hs.length:=List.length_filter_le _ _
def OV(hs:List aH)(a)(k:Nat)(h:aH)(b:hs[k]? =some h):dv (hs.take (k+1)) a=dv (hs.take k) a++(if(h.addr.toList == a.toList) then [] else [h]):=by
 unfold dv;rw[VF,b,VO];cases hh:(h.addr.toList == a.toList)<;>simp[hh]
def IB(w:World)(x0 x1 x2 x3 x4 t){n}(b:n=w.heap.size):∀j u,[x0,x1,x2,x3,x4][j]? =some u->(w.alloc (.cells #[x0,x1,x2,x3,x4] t)).cell? ((⟨n,0,none⟩:Addr).add j)=some u:=by
 subst b;intro j u c;have a:(⟨w.heap.size,0,none⟩:Addr).add j=⟨w.heap.size,j,none⟩:=by unfold Addr.add;split<;>simp_all
 rw[a,Ur _ _ j _ _ _ (UG w (.cells #[x0,x1,x2,x3,x4] t))];simpa using c
def BU(w:World)(hs:List aH)(h:aH)(e:Ending)(w':World):Prop:=(∃(b:Value) (a:List aH),e=rV b/\w'.ownsRow w.heap.size 107 5 b a.length (g9 a)/\a=ng hs h)/\yW w w'
def Qz(w v)(hs:List aH)(h:aH)(H:gw w v hs)(hn:hs.length<4000000000)(hl:h.az.length<4000000000)(T:aB w):
 yC 103 #[v,iR h] w fun e w'=>BU w hs h e w'/\True:=by
 obtain⟨a,cap,rfl⟩:=H.form;obtain⟨b,d,c,f,n,o,m⟩:=h;simp only at hl;obtain⟨R,P⟩:=yX (BU w hs ⟨b,d,c,f,n,o,m⟩)
 have C2:yH ((d=0/\c.size=0/\f=cZ/\m.length=0)->∀p W,W.ownsRow w.heap.size 107 5 p (dv hs b).length (g9 (dv hs b))->yW w W->R (rV p) W):=fun q p W h1 h2=>by rw[P];exact⟨⟨p,_,rfl,h1,by unfold ng;rw[Uj (show pP ⟨b,d,c,f,n,o,m⟩ from q),UU]⟩,h2⟩
 have C4:yH (¬(d=0/\c.size=0/\f=cZ/\m.length=0)->∀p W,W.ownsRow w.heap.size 107 5 p (dv hs b++[(⟨b,d,c,f,n,o,m⟩:aH)]).length (g9 (dv hs b++[(⟨b,d,c,f,n,o,m⟩:aH)]))->yW w W->R (rV p) W):=fun q p W h1 h2=>by rw[P];exact⟨⟨p,_,rfl,h1,by unfold ng;rw[Ui (show ¬pP ⟨b,d,c,f,n,o,m⟩ from q)]⟩,h2⟩
 have B7:yH (g9 (dv hs b++[(⟨b,d,c,f,n,o,m⟩:aH)])=g9 (dv hs b)++[sV b,i6 d,sV c,sV f,lV n m.length o]):=Hr _ _;rw[<-P];clear P;unfold iR aH.sv;simp only;obtain⟨j,B⟩:=yX (w.alloc (.cells #[sV b,i6 d,sV c,sV f,lV n m.length o] 107))
 have A1:yH (yW w j):=by rw[B];exact(Un _ _).alloc (Ug _) _
 have C6:yH (j.heap.size=w.heap.size+1):=by rw[B];show _=_;simp
 have O:yH (jt j w.heap.size 107 (sV b) (i6 d) (sV c) (sV f) (lV n m.length o)):=by rw[B];exact jt.new _ _ _ _ _ _ _
 have HH:yH (gw j (lV a hs.length cap) hs):=H.below A1.o;have C0:yH (∀W,yW w W->yC 94 #[] W fun e w'=>e=rV (sV cZ)/\yW W w'):=fun W s=>Aq W (T.below s)
 have HA:yH (∀k (_:k<hs.length),∃t K G I L M J g,a=some ⟨g,0,none⟩/\(∀W,yW j W->yc W g (k*5) (sV t)/\yc W g (k*5+1) (i6 K)/\yc W g (k*5+2) (sV G)/\yc W g (k*5+3) (sV I)/\yc W g (k*5+4) (lV L J M))/\dv (hs.take (k+1)) b=dv (hs.take k) b++(if(t.toList == b.toList) then [] else [hs.getD k (lz b)])/\g9 [hs.getD k (lz b)]=[sV t,i6 K,sV G,sV I,lV L J M]):=fun k E=>by
  have hx:hs[k]? =some hs[k]:=Uh E;obtain⟨g,e,_,c0,c1,c2,c3,c4⟩:=HH.o.at_ k _ hx;have A6:hs.getD k (lz b)=hs[k]:=by rw[Up,hx];rfl
  refine⟨_,_,_,_,hs[k].sa,hs[k].sc,hs[k].az.length,g,e,fun W s=>⟨eg s c0,eg s c1,eg s c2,eg s c3,eg s c4⟩,?_,?_⟩
  ·rw[A6];exact OV hs b k _ hx
  ·rw[A6];rfl
 have HE:yH (dv (hs.take hs.length) b=dv hs b):=by show _=_;rw[VM]
 have B8:yH (∀k,(dv (hs.take k) b).length<=k):=fun k=>Ut (Fj _ _) (by rw[UN];omega)
 have B9:yH ((dv hs b).length<=hs.length):=Fj _ _;obtain⟨i0,A9,B2,B3,B4⟩:=Vp Q9;clear H T;generalize hs.length=N at*;generalize cZ=NC at*;generalize m.length=A at*;go_enter func103,ntmps103
 go_wp2
 rw[<-B];clear B;go_loopg [5,6] N (fun g v r wr=>∃i:Nat,g=N - i/\i<=N/\r=i6 i/\yH (wr.ownsRow (w.heap.size+1) 107 5 v (dv (hs.take i) b).length (g9 (dv (hs.take i) b)))/\yH (yW j wr))
 case atStart=>exact⟨0,rfl,by omega,rfl,U8 _ _ _ _,Un _ _⟩
 case round=>
  obtain⟨i,Q,hi,rfl,y,l⟩:=hrel;have HG:yH (gk=N - i):=Q;clear Q;have D4:=l.o.size;have D9:=C6.o;obtain⟨⟨k0,k1,k2,k3,k4⟩,_⟩:=(O.o.below l.o O.o.lt).cells;by_cases D1:i<N
  ·obtain⟨t,K,G,I,L,M,J,g,rfl,Z,u,A0⟩:=HA.o i D1;obtain⟨c0,c1,c2,c3,c4⟩:=Z wr l.o;have D0:(i:Int)<(N:Int):=by omega
   have D7:=B8.o i;cases hls:(t.toList == b.toList)
   ·rw[hls] at u;have X:yH (dv (hs.take (i+1)) b=dv (hs.take i) b++[hs.getD i (lz b)]):=u;have B6:yH (g9 [hs.getD i (lz b)]=[sV t,i6 K,sV G,sV I,lV L J M]):=A0;have A3:yH (wr.drew.ownsRow (w.heap.size+1) 107 5 u5 (dv (hs.take i) b).length (g9 (dv (hs.take i) b))):=y.o.drew;have S:yH (yW j wr.drew):=⟨l.o.os,l.o.tape,l.o.output,l.o.size,l.o.block⟩
    clear u A0 Z k1 k2 k3 k4;generalize dv (hs.take i) b=os at*;go_upto_region 5 with fail
    go_region
    go_wp2_with (at_builtin;refine U0 _ rfl (.tmp 22) (.tmp 27) 62 rfl (w.heap.size+1) 107 i0 (gV #[sV ⟨#[]⟩,i6 0,sV ⟨#[]⟩,sV ⟨#[]⟩,lV none 0 0]) 5 80 underlying62 A9 B2 B3 B4 rfl (by decide) _ os.length (g9 os) rfl (A3.o.alloc _) ⟨wr.heap.size,0,none⟩ 1 1 [sV t,i6 K,sV G,sV I,lV L J M] rfl rfl (IB _ _ _ _ _ _ _ rfl) ?c2 (by omega) ?c3 ?c4 ?c5 _ rfl ?c6)
    case c2=>first|exact⟨rfl,rfl,rfl,rfl,rfl⟩| (intro v F;simp at F;rcases F with rfl|rfl|rfl|rfl|rfl<;>rfl)
    case c3=>unfold maxLen;omega
    case c4=>omega
    case c5=>first|omega| (simp;omega)
    intro g2 Y w2 B0 A7 C7 D2;have z:yH (w2.ownsRow (w.heap.size+1) 107 5 (lV (qA g2) (os.length+1) Y) (dv (hs.take (i+1)) b).length (g9 (dv (hs.take (i+1)) b))):=by
     show World.ownsRow _ _ _ _ _ _ _;rw[X.o,Hr,B6.o,Uq];exact B0
    have x:yH (yW j w2):=(S.o.alloc D4 _).grown A7 (by simp;omega) (fun k E=>by have:=(A3.o.lt k E).1;omega);clear B0 A7 C7 D2;go_wp2
    go_roundg (N - (i+1))
    case measure=>have:=HG.o;omega
    case rel=>exact⟨i+1,rfl,by omega,by go_num,z,x⟩
   ·rw[hls] at u;have X:yH (dv (hs.take (i+1)) b=dv (hs.take i) b):=by rw[u];show _=_;simp
    have C1:yH (wr.drew.ownsRow (w.heap.size+1) 107 5 u5 (dv (hs.take (i+1)) b).length (g9 (dv (hs.take (i+1)) b))):=by rw[X.o];exact y.o.drew
    have S:yH (yW j wr.drew):=⟨l.o.os,l.o.tape,l.o.output,l.o.size,l.o.block⟩
    clear u A0 Z k1 k2 k3 k4;go_upto_region 5 with fail
    go_region
    go_wp2
    go_roundg (N - (i+1))
    case measure=>have:=HG.o;omega
    case rel=>exact⟨i+1,rfl,by omega,by go_num,C1,S⟩
  ·obtain rfl:i=N:=by omega
   have D0:¬(i:Int)<(i:Int):=by omega
   rw[HE.o] at y;have D8:=B9.o;have U:yH (yW w wr):=A1.o.trans (l.o.mono (by omega));generalize dv hs b=os at*;go_wp2_with fail
   refine(C0.o _ U.o).mono ?_;rintro e w2 ⟨rfl,C⟩;have x:yH (yW w w2):=U.o.trans (C.mono U.o.size);have z:yH (w2.ownsRow (w.heap.size+1) 107 5 u5 os.length (g9 os)):=cM y.o fun g Q=>C.block g (y.o.lt g Q).2
   have C3:yH ((d=0/\c.size=0/\f=NC/\A=0)->R (rV u5) w2):=fun q=>C2.o q u5 w2 (nj z.o (by omega)) x.o
   have D5:=x.o.size;have D6:w.heap.size<w2.heap.size:=by have:=C.size;omega
   obtain⟨⟨m0,m1,m2,m3,m4⟩,_⟩:=((O.o.below l.o O.o.lt).below C (by show w.heap.size<wr.heap.size;omega)).cells;clear C k0 k1 k2 k3 k4;by_cases D:d=0/\c.size=0/\f=NC/\A=0
   ·have V:yH (R (rV u5) w2):=C3.o D;obtain⟨rfl,A5,rfl,rfl⟩:=D;have hE:c.toList.isEmpty=true:=by rw[g7];exact A5
    clear A5;go_wp2
    go_ret
    exact⟨V.o,trivial⟩
   ·have C9:(d == 0)=false\/(d=0/\c.toList.isEmpty=false)\/(d=0/\c.toList.isEmpty=true/\(f.toList == NC.toList)=false)\/(d=0/\c.toList.isEmpty=true/\(f.toList == NC.toList)=true/\((A:Int) == 0)=false):=by
     by_cases h1:d=0
     ·by_cases h2:c.size=0
      ·by_cases h3:f=NC
       ·refine .inr (.inr (.inr ⟨h1,by rw[g7];exact h2,by rw[dV];exact Uw h3,?_⟩));have:A≠0:=fun h4=>D ⟨h1,h2,h3,h4⟩
        simp;omega
       ·exact .inr (.inr (.inl ⟨h1,by rw[g7];exact h2,by rw[dV];exact Uv h3⟩))
      ·exact .inr (.inl ⟨h1,by rw[iv];exact h2⟩)
     ·exact .inl (by simpa using h1)
    have A4:=C4.o D;have C5:yH (∀p W,W.ownsRow w.heap.size 107 5 p (os++[(⟨b,d,c,f,n,o,m⟩:aH)]).length (g9 (os++[(⟨b,d,c,f,n,o,m⟩:aH)]))->yW w W->R (rV p) W):=A4;clear D A4;rcases C9 with h1|⟨rfl,h1⟩|⟨rfl,h1,h2⟩|⟨rfl,h1,h2,h4⟩;all_goals
     go_wp2_with (at_builtin;refine U0 _ rfl (.tmp 51) (.tmp 53) 62 rfl (w.heap.size+1) 107 i0 (gV #[sV ⟨#[]⟩,i6 0,sV ⟨#[]⟩,sV ⟨#[]⟩,lV none 0 0]) 5 80 underlying62 A9 B2 B3 B4 rfl (by decide) _ os.length (g9 os) rfl (z.o.alloc _) ⟨w2.heap.size,0,none⟩ 1 1 [sV b,_,sV c,sV f,lV n A o] rfl rfl (IB _ _ _ _ _ _ _ rfl) (by first|exact⟨rfl,rfl,rfl,rfl,rfl⟩| (intro v F;simp at F;rcases F with rfl|rfl|rfl|rfl|rfl<;>rfl)) (by omega) (by unfold maxLen;omega) (by omega) (by first|omega| (simp;omega)) _ rfl ?_)
     intro g2 Y w3 B1 A8 C8 D3;have A2:=nj (base':=w.heap.size) B1 (by omega);have B5:yH (yW w w3):=(x.o.alloc D5 _).grown A8 (by simp;omega) (fun k E=>by have:=(z.o.lt k E).1;omega);have V:yH (R (rV (lV (qA g2) (os.length+1) Y)) w3):=C5.o _ w3 (by rw[B7.o,Uq];exact A2) B5.o;clear B1 A8 C8 D3 A2;go_wp2
     go_ret
     exact⟨V.o,trivial⟩
structure aV where
 rb:Nat
 sb:Nat
 sp:Nat
 tw:Nat
 tt:Nat
 D:List Nat
 N:Nat
 mv:Value
 m:List aH
 bv:Value
 base:List aH
 sv:Value
 seen:List yB
 yes:Bool
def oH(l:Nat->Nat)(v:Value)(hs:List aH):Prop:=(∀g,v.ownBlock=some g->l g=0)/\∀h∈hs,∀g,h.sv.ownBlock=some g->l g=0
def gw.mv{T l l' w w' v hs}(h:gw w v hs)(c:oH l v hs)(m:Mv T l l' w w')(h0:¬T 0):gw w' v hs/\oH l' v hs:=
 ⟨⟨cM h.1 fun g a=>m.kept (h.1.lt g a).2 (c.1 g a) h0,fun x b=>by
  have k:=h.2 x b
  exact⟨k.addr,k.n,k.aI,k.code,(k.at_.mv (c.2 x b) m h0).1,k.len,k.small⟩⟩,
  ⟨fun g a=>(m.bt g (h.1.lt g a).2).trans (c.1 g a),fun x b=>((h.2 x b).at_.mv (c.2 x b) m h0).2⟩⟩
structure iy(l:Nat->Nat)(w:World)(R:aV):Prop where
 ai:w.heap[R.rb]? =some (.cells #[pV (qA R.sb),pV (qA R.sp),R.mv,R.bv,R.sv,pV (qA R.tt)] 65 (0,0))
 lb:l R.rb=pr R.rb 0
 pm:gw w R.mv R.m
 lm:oH l R.mv R.m
 pb:gw w R.bv R.base
 lv:oH l R.bv R.base
 sn:w.ownsRow 3 9 1 R.sv R.seen.length (R.seen.map Value.string)
 ls:∀g,R.sv.ownBlock=some g->l g=pr R.rb 0
 sm:∀s∈R.seen,s.size<=1073741824
 tn:w.heap[R.tt]? =some (.cells #[bV R.yes] 61 (0,0))
 lt:l R.tt=pr R.tt 0
 nm:R.m.length<1000000000
 nb:R.base.length<1000000000
 ns:R.seen.length<1000000000
def iy.jm{l w R}(h:iy l w R):R.rb<w.heap.size:=(Um.1 h.ai).1
def iy.qj{l w R}(h:iy l w R):R.tt<w.heap.size:=(Um.1 h.tn).1
def iy.move{T l l' w w' R}(h:iy l w R)(m:Mv T l l' w w')(h0:¬T 0)(h1:¬T (pr R.rb 0))(h2:¬T (pr R.tt 0)):iy l' w' R:=
 {ai:=(m.kept h.jm h.lb h1).trans h.ai
  lb:=(m.bt _ h.jm).trans h.lb
  pm:=(h.pm.mv h.lm m h0).1
  lm:=(h.pm.mv h.lm m h0).2
  pb:=(h.pb.mv h.lv m h0).1
  lv:=(h.pb.mv h.lv m h0).2
  sn:=cM h.sn fun g a=>m.kept (h.sn.lt g a).2 (h.ls g a) h1
  ls:=fun g a=>(m.bt g (h.sn.lt g a).2).trans (h.ls g a)
  sm:=h.sm
  tn:=(m.kept h.qj h.lt h2).trans h.tn
  lt:=(m.bt _ h.qj).trans h.lt
  nm:=h.nm
  nb:=h.nb
  ns:=h.ns}
def iy.cells{l w R}(h:iy l w R):w.cell? ⟨R.rb,0,none⟩=some (pV (qA R.sb))/\w.cell? ⟨R.rb,1,none⟩=some (pV (qA R.sp))/\w.cell? ⟨R.rb,2,none⟩=some R.mv/\w.cell? ⟨R.rb,3,none⟩=some R.bv/\w.cell? ⟨R.rb,4,none⟩=some R.sv/\w.cell? ⟨R.rb,5,none⟩=some (pV (qA R.tt))/\w.cell? ⟨R.tt,0,none⟩=some (bV R.yes):=by
 refine⟨?_,?_,?_,?_,?_,?_,?_⟩
 ·rw[Ur w _ 0 _ _ _ h.ai];rfl
 ·rw[Ur w _ 1 _ _ _ h.ai];rfl
 ·rw[Ur w _ 2 _ _ _ h.ai];rfl
 ·rw[Ur w _ 3 _ _ _ h.ai];rfl
 ·rw[Ur w _ 4 _ _ _ h.ai];rfl
 ·rw[Ur w _ 5 _ _ _ h.ai];rfl
 ·rw[Ur w _ 0 _ _ _ h.tn];rfl
def aV.de(R:aV):Prop:=R.yes=false/\bY R.seen R.seen.length=false
def aV.kn(R:aV):Kn:=⟨R.de,gN R.base⟩
def aV.wk(R:aV)(a:List (yB×yB)):GP:=fun X _=>R.de->Wd R.kn a R.tw X (bG R.m) gK
def aV.de.inj{R:aV}(h:R.de):iX R.seen:=fun _ hx _ hy e=>Jl h.2 hx hy e
structure pK(l:Nat->Nat)(w:World)(R:aV)(us:Nat->Value)(ps:List (yB×yB))(P:GP):Prop where
 y:iy l w R
 x:SX l w R.sp R.sb R.tw R.D R.N us ps R.kn P
structure dh(l:Nat->Nat)(w:World)(R:aV)(us:Nat->Value)(ps:List (yB×yB)):Prop extends pK l w R us ps (R.wk ps) where
 k:R.de->iM R.seen R.m/\iM R.seen R.base
def pK.ne{l w R d c P}(h:pK l w R d c P):R.sp≠R.rb/\R.sp≠R.tt/\R.rb≠R.tt/\R.rb≠R.sb/\R.tt≠R.sb:=by
 let⟨j,g,i,f,X,a,_⟩:=h.x.st;have b1:=h.y.ai;have b2:=h.y.tn;have b3:=a.ai.ai;let⟨_,b,_⟩:=h.x.jw.st;have b4:=b.ai;refine⟨fun e=>?_,fun e=>?_,fun e=>?_,fun e=>?_,fun e=>?_⟩
 ·rw[e,b1] at b3;injection b3 with b3;injection b3 with _ b3;cases b3
 ·rw[e,b2] at b3;injection b3 with b3;injection b3 with _ b3;cases b3
 ·rw[e,b2] at b1;injection b1 with b1;injection b1 with _ b1;cases b1
 ·rw[e,b4] at b1;injection b1 with b1;injection b1 with _ b1;cases b1
 ·rw[e,b4] at b2;injection b2 with b2;injection b2 with _ b2;cases b2
def aV.arg(R:aV)(l:Nat->Nat)(w:World)(b:Nat->Value)(a:List (yB×yB)):fm:=⟨l,w,R.sp,R.sb,R.tw,R.D,R.N,b,a,R.kn⟩
def dh.start{l w R b a}(h:dh l w R b a):SC (R.arg l w b a) (Wm (R.arg l w b a) (bG R.m)) 0 [] [] w:=SC.start h.x
def dh.Kj{l w w' R b a P K e c}(h:dh l w R b a)(d:SC (R.arg l w b a) P K e c w'):∃l',Mv (Of R.sp) l l' w w'/\iy l' w' R:=by
 let⟨n1,n2,_⟩:=h.ne;let⟨l',f,m,_,_,g,_⟩:=d;exact⟨l',m,h.y.move m (mr _) (lN n1) (lN n2)⟩
def dh.after{l w w' R d b P K j e}(h:dh l w R d b)(f:SC (R.arg l w d b) P K j e w')(g:∀X r,P X r->R.wk b X r):∃l' c,Mv (Of R.sp) l l' w w'/\dh l' w' {R with D:=c,N:=R.N+K} d b:=by
 let⟨n1,n2,_⟩:=h.ne;let⟨l',c,m,_,_,i,_⟩:=f;have a:=h.y.move m (mr _) (lN n1) (lN n2);exact⟨l',c,m,⟨⟨⟨a.ai,a.lb,a.pm,a.lm,a.pb,a.lv,a.sn,a.ls,a.sm,a.tn,a.lt,a.nm,a.nb,a.ns⟩,i.ev g⟩,h.k⟩⟩
def dh.below{l w w' R c b}(h:dh l w R c b)(a:yW w w'):dh (gv l w.heap.size) w' R c b:=
 ⟨⟨h.y.move (Mv.below (fun _=>False) l a) id id id,h.x.below a⟩,h.k⟩
def dh.cells{l w w' R c b P K f d}(h:dh l w R c b)(e:SC (R.arg l w c b) P K f d w'):(yc w' R.rb 0 (pV (qA R.sb))/\yc w' R.rb 1 (pV (qA R.sp))/\yc w' R.rb 2 R.mv/\yc w' R.rb 3 R.bv/\yc w' R.rb 4 R.sv/\yc w' R.rb 5 (pV (qA R.tt))/\yc w' R.tt 0 (bV R.yes))/\gw w' R.mv R.m/\gw w' R.bv R.base/\gQ w' R.sv R.seen:=by
 let⟨l',m,a⟩:=h.Kj e;exact⟨a.cells,a.pm,a.pb,qd a.sn⟩
def zg{w:World}{rb i d c b}(c5:yc w rb 5 (pV (qA i)))(c4:yc w rb 4 c)(d0:yc w i 0 (bV d))(g:gQ w c b)(l:b.length<1000000000)(hs:∀s∈b,s.size<=1073741824)(T:aB w):
 yC 53 #[pV (qA rb)] w fun e w'=>e=rV (bV (d || bY b b.length))/\yW w w':=by
 have k:yH (yC 45 #[c] w fun e w'=>e=rV (bV (bY b b.length))/\yW w w'):=pk w c b g (by omega) (fun p h=>by have:=hs p h;unfold maxLen;omega) T;obtain⟨a,cap,rfl,_⟩:=g;clear T hs;generalize b.length=NS at*;generalize bY b NS=CK at*;cases d with
 |true=>
  go_enter func53,ntmps53
  go_wp2
  go_ret
  exact⟨rfl,Un _ _⟩
 |false=>
  go_enter func53,ntmps53
  go_wp2_with fail
  refine k.m ?_;rintro e w1 ⟨rfl,f⟩;have j:=aa f;clear f;go_wp2
  go_ret
  exact⟨rfl,j.o⟩
def Cb(A:fm)(e:Ending):Prop:=∃b:Bool,e=rV (bV b)/\(¬A.k.ok->b=true)
def dh.may{l w w' R b a P K f d}(h:dh l w R b a)(c:SC (R.arg l w b a) P K f d w'):yC 53 #[pV (qA R.rb)] w' fun e w2=>Cb (R.arg l w b a) e/\SC (R.arg l w b a) P K f d w2:=by
 let⟨⟨_,_,_,_,c4,c5,d0⟩,_,_,i⟩:=h.cells c;exact(zg c5 c4 d0 i h.y.ns h.y.sm c.bz).mono fun _ _ ⟨h1,h2⟩=>⟨⟨_,h1,fun g=>by
  cases hy:R.yes with
  |true=>rfl
  |false=>
   cases hc:bY R.seen R.seen.length with
   |true=>rfl
   |false=>exact absurd ⟨hy,hc⟩ g⟩,c.below h2⟩
structure xZ(A:fm)(rb tt:Nat)(mv bv sv:Value)(yes:Bool)(m base:List aH)(seen:List yB):Prop where
 cells:∀P K ts bx W,SC A P K ts bx W->(W.cell? ⟨rb,0,none⟩=some (pV (qA A.sb))/\W.cell? ⟨rb,1,none⟩=some (pV (qA A.sp))/\W.cell? ⟨rb,2,none⟩=some mv/\W.cell? ⟨rb,3,none⟩=some bv/\W.cell? ⟨rb,4,none⟩=some sv/\W.cell? ⟨rb,5,none⟩=some (pV (qA tt))/\W.cell? ⟨tt,0,none⟩=some (bV yes))/\gw W mv m/\gw W bv base/\gQ W sv seen
 may:∀P K ts bx W,SC A P K ts bx W->yC 53 #[pV (qA rb)] W fun e w2=>Cb A e/\SC A P K ts bx w2
 nm:m.length<1000000000
 nb:base.length<1000000000
def dh.facts{l w R b a}(h:dh l w R b a):xZ (R.arg l w b a) R.rb R.tt R.mv R.bv R.sv R.yes R.m R.base R.seen:=
 ⟨fun _ _ _ _ _ hS=>h.cells hS,fun _ _ _ _ _ hS=>h.may hS,h.y.nm,h.y.nb⟩
def Jw(W){a:yB}(b:a.size<=1073741824):jK W (lz a):=by
 refine⟨b,?_,?_,?_,eH.nil W,?_,fun p c=>absurd c Vs⟩
 ·show Rg 0;exact⟨by decide,by decide⟩
 ·show(⟨#[]⟩:yB).size<=_;decide
 ·show cZ.size<=_;rw[show cZ.size=32 from dz _];decide
 ·show 0<4000000000;decide
def qy{W v m}{addr:yB}(h:gw W v m)(a:addr.size<=1073741824):jK W (bT m addr).1:=by
 unfold bT;have key:∀(l:List aH) x,dH l addr=some x->x∈l:=by
  intro l;induction l with
  |nil=>intro x e;cases e
  |cons y t ih=>
   intro x e;unfold dH at e;split at e
   ·cases e;exact Uk ..
   ·exact Ul _ (ih x e)
 cases hf:dH m addr with
 |some x=>exact h.2 x (key m x hf)
 |none=>exact Jw W a
def SC.find{A P K c a W}(b:SC A P K c a W){v m}(h:gw W v m)(d:m.length<1000000000)(addr):yC 52 #[v,sV addr] W fun e w'=>e=rV (tV #[iR (bT m addr).1,bV (bT m addr).2])/\SC A P K c a w':=
 (GH W v m addr h (by omega) b.bz).mono fun _ _ ⟨h1,h2⟩=>⟨h1,b.below h2⟩
def Kf(A:fm)(M:Mp)(m:List aH)(addr slot:yB):Prop:=A.k.ok->addr.size=20->aY M (ag addr)=dU (bT m addr).1/\(M (ag addr)).isSome=(bT m addr).2/\0<=(bT m addr).1.n/\(slot.size≠0->slot.size=32/\∀v c,iU (bD (aY M (ag addr)).ss (ag slot)) v c->v=bD (bT m addr).1.az slot/\c=0)
def TG{A rb tt mv bv sv C9 m base C8 M}(F:xZ A rb tt mv bv sv C9 m base C8){K d j w}(U:SC A (Wm A M) K d j w)(addr slot:yB)(ha:addr.size<=1073741824)(D1:slot.size<=1073741824)(hP:Kf A M m addr slot)(hN:A.N+K+1000<4000000000):
 yC 24 #[pV (qA rb),sV addr,sV slot] w fun e w'=>e=rV (bV true)/\SC A (Wm A M) (K+800) d j w':=by
 have B7:yH (yC 51 #[pV (qA A.sp),sV addr] w fun e w'=>(j6 (Kh A M addr) e/\(addr.size≠20->∃v,e=rV (tV #[v,bV false,i6 2])))/\SC A (Wm A M) (K+250) d j w'):=TQ U addr (by unfold maxLen;omega);have C4:yH (∀f W,SC A (Wm A M) (K+250) d f W->yC 54 #[pV (qA A.sp),sV addr,sV slot] W fun e w'=>(∃(v:yB) (c:Nat),e=rV (tV #[sV v,i6 c])/\(addr.size=20->slot.size=32->A.k.ok->iU (bD (aY M (ag addr)).ss (ag slot)) v c))/\SC A (Wm A M) (K+800) d f w'):=fun f W o=>(TU o addr slot (by unfold maxLen;omega) (by unfold maxLen;omega) (by omega)).mono fun _ _ ⟨⟨v,c,h1,_,h3,h2⟩,_⟩=>⟨⟨v,c,h1,h3⟩,h2.mono (by omega)⟩
 have Z:yH (∀K' f W,SC A (Wm A M) K' d f W->yC 53 #[pV (qA rb)] W fun e w2=>Cb A e/\SC A (Wm A M) K' d f w2):=fun K' f W o=>F.may _ K' d f W o
 have R:yH (∀f W,SC A (Wm A M) (K+250) d f W->yC 52 #[mv,sV addr] W fun e w'=>e=rV (tV #[iR (bT m addr).1,bV (bT m addr).2])/\SC A (Wm A M) (K+250) d f w'):=fun f W o=>o.find (F.cells _ _ _ _ _ o).2.1 F.nm addr
 have Y:yH (∀K' f W,SC A (Wm A M) K' d f W->yC 35 #[(bT m addr).1.sv,sV slot] W fun e w'=>e=rV (sV (bD (bT m addr).1.az slot))/\w'=W):=fun K' f W o=>by
  have k:=qy (F.cells _ _ _ _ _ o).2.1 ha;exact og W _ _ slot k.at_ (by have:=k.len;omega)
 have Q:yH (∀K' f W,SC A (Wm A M) K' d f W->yc W rb 1 (pV (qA A.sp))/\yc W rb 2 mv):=fun K' f W o=>⟨(F.cells _ _ _ _ _ o).1.2.1,(F.cells _ _ _ _ _ o).1.2.2.1⟩
 obtain⟨c1,_⟩:=Q.o _ _ _ U;obtain⟨ma,mc,B3⟩:=(F.cells _ _ _ _ _ U).2.1.form;rw[B3] at R Q;have D0:=F.nm;have A7:yH (∀a i c,Kh A M addr a i c->addr.size=20->A.k.ok->c=0/\i=(bT m addr).2/\(a.n:Int)=(bT m addr).1.n/\a.aI=(bT m addr).1.aI/\a.code=(bT m addr).1.code):=fun a i c P h20 g=>by
  obtain⟨e1,e2,e3⟩:=P h20 g;obtain⟨p1,p2,p3,_⟩:=hP g h20;refine⟨e3,e2.trans p2,?_,?_,?_⟩
  ·rw[e1,p1];show((bT m addr).1.n.toNat:Int)=_;omega
  ·rw[e1,p1];rfl
  ·rw[e1,p1];rfl
 have A8:yH (∀v c,(addr.size=20->slot.size=32->A.k.ok->iU (bD (aY M (ag addr)).ss (ag slot)) v c)->slot.size≠0->addr.size=20->A.k.ok->c=0/\v=bD (bT m addr).1.az slot):=fun v c P h0 h20 g=>by
  obtain⟨_,_,_,p4⟩:=hP g h20;obtain⟨p5,p6⟩:=p4 h0;obtain⟨e1,e2⟩:=p6 v c (P h20 p5 g);exact⟨e2,e1⟩
 clear hP;generalize (bT m addr).2=g at*;generalize (bT m addr).1=h at*;obtain⟨E,l,p,t,x,y,xl⟩:=h;unfold iR aH.sv at R;unfold aH.sv at Y;simp only at R Y A7 A8;generalize bD xl slot=HV at*;generalize xl.length=XL at*;generalize m.length=MN at*;clear F U B3;go_enter func24,ntmps24
 go_wp2_with fail
 refine B7.m ?_;rintro e w1 ⟨⟨⟨a,i,c,rfl,C6,P,B6⟩,B4⟩,A9⟩;have z:yH (addr.size=20->A.k.ok->c=0/\i=g/\(a.n:Int)=l/\a.aI=p/\a.code=t):=A7.o a i c B6;have C0:yH (addr.size≠20->c=2/\i=false):=fun h=>by
  obtain⟨v,e⟩:=B4 h;injection e with e;injection e with e;have e1:=congrArg (fun q:Array Value=>q[2]?) e;have e2:=congrArg (fun q:Array Value=>q[1]?) e;simp at e1 e2;exact⟨by omega,e2⟩
 clear B6 B4;obtain⟨n,r,D,u⟩:=a;simp only at z;have H:=A9.box #[i6 n,sV r,sV D,sV u] 103;obtain⟨T,J⟩:=yX (w1.alloc (.cells #[i6 n,sV r,sV D,sV u] 103))
 rw[<-J] at H;have C2:yH (SC A (Wm A M) (K+250) d ((w1.heap.size,.cells #[i6 n,sV r,sV D,sV u] 103 (0,0))::j) T):=H;have C3:yH (SC A (Wm A M) (K+800) d j T):=H.unbox.mono (by omega);obtain⟨d1,d2⟩:=Q.o _ _ _ H;unfold cE;clear A9 H C6 P c1;by_cases h20:addr.size=20
 ·have C5:(addr.size:Int)=20:=by omega
  rw[J] at d1 d2;go_wp2_with fail
  rw[<-J];clear J d1 d2;refine(R.o _ _ C2.o).mono ?_;rintro e w3 ⟨rfl,B0⟩;have C:=B0.box #[sV E,i6 l,sV p,sV t,lV x XL y] 107;obtain⟨B,A3⟩:=yX (w3.alloc (.cells #[sV E,i6 l,sV p,sV t,lV x XL y] 107))
  rw[<-A3] at C;have A0:yH (SC A (Wm A M) (K+250) d ((w3.heap.size,.cells #[sV E,i6 l,sV p,sV t,lV x XL y] 107 (0,0))::(w1.heap.size,.cells #[i6 n,sV r,sV D,sV u] 103 (0,0))::j) B):=C;obtain⟨d1,d2⟩:=Q.o _ _ _ C;have B2:gf B w1.heap.size 103 (i6 n) (sV r) (sV D) (sV u):=(C.held _ (Ul _ (Uk ..))).1;have O:jt B w3.heap.size 107 (sV E) (i6 l) (sV p) (sV t) (lV x XL y):=C.at_;obtain⟨⟨k0,k1,k2,k3⟩,_⟩:=B2.cells;obtain⟨⟨p0,p1,p2,p3,p4⟩,_⟩:=O.cells;clear B0 C B2 O;go_upto_region 5 with fail
  rw[<-A3];clear A3;have z:=z.o h20;have z:yH (A.k.ok->c=0/\i=g/\(n:Int)=l/\r=p/\u=t):=z;go_cut [12] (fun v wx=>∃b:Bool,v=bV b/\yH (A.k.ok->b=true)/\wx=B)
  case first=>
   have A4:((c:Int) == 0)=false\/(((c:Int) == 0)=true/\(i == g)=false)\/(((c:Int) == 0)=true/\(i == g)=true/\((n:Int) == l)=false)\/(((c:Int) == 0)=true/\(i == g)=true/\((n:Int) == l)=true/\(r.toList == p.toList)=false)\/(((c:Int) == 0)=true/\(i == g)=true/\((n:Int) == l)=true/\(r.toList == p.toList)=true):=by
    cases ((c:Int) == 0)<;>cases (i == g)<;>cases ((n:Int) == l)<;>cases (r.toList == p.toList)<;>simp
   rcases A4 with h1|⟨h1,h2⟩|⟨h1,h2,h3⟩|⟨h1,h2,h3,h4⟩|⟨h1,h2,h3,h4⟩;all_goals
    go_wp2
    go_meet
    exact⟨_,rfl,(show A.k.ok->_=true from fun q=>by obtain⟨e1,e2,e3,e4,e5⟩:=z.o q;subst e1 e2 e3 e4 e5;first| (simp at h1;done) | (simp at h2;done) | (simp at h3;done) | (simp at h4;done) |simp),rfl⟩
  case rest=>
   obtain⟨b,rfl,A5,rfl⟩:=hcut;cases b with
   |false=>
    have G:yH (¬A.k.ok):=fun q=>by have:=A5.o q;cases this
    clear A5;go_wp2_with fail
    refine(Z.o _ _ _ A0.o).mono ?_;rintro e w5 ⟨⟨b5,rfl,B1⟩,s⟩;have B8:yH (b5=true):=B1 G.o;clear B1;have S:yH (SC A (Wm A M) (K+800) d j w5):=s.unbox.unbox.mono (by omega);clear s;go_wp2
    go_ret
    exact⟨by rw[B8.o];rfl,S.o⟩
   |true=>
    by_cases V:slot.size=0
    ·have hE:slot.toList.isEmpty=true:=by rw[g7];exact V
     have S:yH (SC A (Wm A M) (K+800) d j wc):=A0.o.unbox.unbox.mono (by omega);go_wp2
     go_ret
     exact⟨rfl,S.o⟩
    ·have hE:slot.toList.isEmpty=false:=by rw[iv];exact V
     have C1:yH (slot.size≠0):=V;clear V;go_wp2_with fail
     refine(C4.o _ _ A0.o).mono ?_;rintro e w5 ⟨⟨v5,c5,rfl,B5⟩,s⟩;have A6:yH (A.k.ok->c5=0/\v5=HV):=A8.o v5 c5 B5 C1.o h20;clear B5;have S:yH (SC A (Wm A M) (K+800) d ((w3.heap.size,.cells #[sV E,i6 l,sV p,sV t,lV x XL y] 107 (0,0))::(w1.heap.size,.cells #[i6 n,sV r,sV D,sV u] 103 (0,0))::j) w5):=s;have A1:yH (SC A (Wm A M) (K+800) d j w5):=s.unbox.unbox;have O:jt w5 w3.heap.size 107 (sV E) (i6 l) (sV p) (sV t) (lV x XL y):=s.at_;obtain⟨⟨q0,q1,q2,q3,q4⟩,_⟩:=O.cells;have B9:yH (yC 35 #[lV x XL y,sV slot] w5 fun e w'=>e=rV (sV HV)/\w'=w5):=Y.o _ _ _ s;clear s O k0 k1 k2 k3 p0 p1 p2 p3 p4 d1 d2;go_wp2_with fail
     refine B9.m ?_;rintro e wx ⟨rfl,C7⟩;subst C7;have A4:((c5:Int) == 0)=false\/(((c5:Int) == 0)=true/\(v5.toList == HV.toList)=false)\/(((c5:Int) == 0)=true/\(v5.toList == HV.toList)=true):=by
      cases ((c5:Int) == 0)<;>cases (v5.toList == HV.toList)<;>simp
     rcases A4 with h1|⟨h1,h2⟩|⟨h1,h2⟩
     ·have G:yH (¬A.k.ok):=fun q=>by obtain⟨e1,_⟩:=A6.o q;subst e1;simp at h1
      go_wp2_with fail
      refine(Z.o _ _ _ A1.o).mono ?_;rintro e w7 ⟨⟨b7,rfl,L⟩,I⟩;have X:yH (b7=true):=L G.o;clear L;have A2:yH (SC A (Wm A M) (K+800) d j w7):=I;clear I;go_wp2
      go_ret
      exact⟨by rw[X.o];rfl,A2.o⟩
     ·have G:yH (¬A.k.ok):=fun q=>by obtain⟨_,e2⟩:=A6.o q;subst e2;simp at h2
      go_wp2_with fail
      refine(Z.o _ _ _ A1.o).mono ?_;rintro e w7 ⟨⟨b7,rfl,L⟩,I⟩;have X:yH (b7=true):=L G.o;clear L;have A2:yH (SC A (Wm A M) (K+800) d j w7):=I;clear I;go_wp2
      go_ret
      exact⟨by rw[X.o];rfl,A2.o⟩
     ·go_wp2
      go_ret
      exact⟨rfl,A1.o⟩
 ·have C5:¬(addr.size:Int)=20:=by omega
  obtain⟨rfl,rfl⟩:=C0.o h20;clear d1 d2;go_wp2
  go_ret
  (try rw[<-J])
  exact⟨rfl,C3.o⟩
end Go.Proofs.YtmafnmpeehmndaaGreatDoor
