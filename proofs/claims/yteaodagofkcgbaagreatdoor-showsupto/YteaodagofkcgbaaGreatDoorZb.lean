import Derived.Test.YteaodagofkcgbaaGreatDoorZ
open Go.Proofs.Tryz
open Go.Proofs.Tryz renaming prog→yP
open Go.Value renaming string→sV,pointer→pV,int→iV,slice→lV,bool→bV,tuple→tV,agg→gV
open Go.Ending renaming returned→rV
namespace Go.Proofs.YteaodagofkcgbaaGreatDoor
open Go.RowKit
set_option maxRecDepth 100000
set_option maxHeartbeats 0
set_option linter.all false
def mO(A:fm)(Z:Gh)(K:Nat)(d:List Nat)(b:List (Nat×Obj))(e:Ending)(w':World):Prop:=∃(c:Nat)(a:Gh),e=rV (iV .i64 c)/\(A.k.ok->c=0/\a=Z)/\SC A (aj a) K d b w'
def rm{A X K l j w}(h:SC A (aj X) K l j w)(m:yB)(hk:m.size=32)(a:Acc)(L:iZ a)(hN:A.N+K+250<4000000000):yC 102 #[pV (qA A.sp),sV m,cE a] w λe w'=>mO A (dT A.tw X m a) (K+250) l j e w'/\True:=by
 obtain⟨Z,E⟩:∃Z,Z=dT A.tw X m a:=⟨_,rfl⟩
 rw[<-E];have A6:yH (∀W,yC 129 #[cE a] W λe w'=>e=rV (sV (ir a))/\yW W w'):=λW=>Nh W a L
 obtain⟨S,T,_⟩:=tJ L;obtain⟨n,d,i,f⟩:=a;obtain⟨x,J⟩:∃x:Gh,x=⟨aE X.g A.tw (aL (X.g A.tw) m (ir ⟨n,d,i,f⟩)),X.o⟩:=⟨_,rfl⟩
 obtain⟨q,I⟩:∃q:Gh,q=⟨aE X.g A.tw (aL (X.g A.tw) m ⟨#[]⟩),X.o⟩:=⟨_,rfl⟩
 obtain⟨u,H⟩:∃u:Gh,u=⟨q.g,λy=>if y=m then none else q.o y⟩:=⟨_,rfl⟩
 have A9:yH (ki n 0 d ⟨#[]⟩ i (ae bM) f cZ=false->x=Z):=λh=>by
  rw[E,J];unfold dT;rw[Ui (by show ¬ki n 0 d ⟨#[]⟩ i (ae bM) f cZ=true;rw[h];simp)]
 have A8:yH (ki n 0 d ⟨#[]⟩ i (ae bM) f cZ=true->u=Z):=λh=>by
  rw[E,H,I];unfold dT;rw[Uj (show mI ⟨n,d,i,f⟩=true from h)]
 have z:=h.box #[i6 n,sV d,sV i,sV f] 103;obtain⟨B,G⟩:∃B,B=w.alloc (.cells #[i6 n,sV d,sV i,sV f] 103):=⟨_,rfl⟩
 rw[<-G] at z;have B0:=aa z;have HO:yH (yC 123 #[] B.drew λe w'=>e=rV (gV #[i6 0,sV ⟨#[]⟩,sV (ae bM),sV cZ])/\SC A (aj X) K l ((w.heap.size,.cells #[i6 n,sV d,sV i,sV f] 103 (0,0))::j) w'):=(vK B.drew z.drew.bz).mono λe w'⟨h1,h2⟩=>⟨h1,z.drew.below h2⟩
 have A4:yH (∀W,SC A (aj X) K l ((w.heap.size,.cells #[i6 n,sV d,sV i,sV f] 103 (0,0))::j) W->yC 30 #[pV (qA A.tw),sV m,sV (ir ⟨n,d,i,f⟩)] W λe w'=>∃c:Nat,e=rV (i6 c)/\(A.k.ok->c=0)/\SC A (aj x) (K+250) l ((w.heap.size,.cells #[i6 n,sV d,sV i,sV f] 103 (0,0))::j) w'):=λW s=>by rw[J];exact s.put (.inl rfl) m _ (by omega) S T
 have A1:yH (∀W c,SC A (aj X) K l ((w.heap.size,.cells c 103 (0,0))::j) W->yC 34 #[pV (qA A.tw),sV m] W λe w'=>∃(b:Bool)(c:Nat),e=rV (tV #[bV b,i6 c])/\(A.k.ok->c=0)/\SC A (aj q) (K+250) l j w'):=λW c s=>by
  rw[I];exact(s.del (.inl rfl) m (by omega)).mono λe w'⟨b,c,h1,hq,h2⟩=>⟨b,c,h1,hq,h2.unbox⟩
 have A0:yH (∀W,SC A (aj q) (K+250) l j W->yC 130 #[pV (qA A.sp),sV m] W λe w'=>e=rV (tV #[])/\SC A (aj u) (K+250) l j w'):=λW s=>by rw[H];exact s.Bu m (by omega) (by omega)
 have A5:yH (∀W,SC A (aj X) K l ((w.heap.size,.cells #[i6 n,sV d,sV i,sV f] 103 (0,0))::j) W->yC 129 #[gV #[i6 n,sV d,sV i,sV f]] W.drew λe w'=>e=rV (sV (ir ⟨n,d,i,f⟩))/\SC A (aj X) K l ((w.heap.size,.cells #[i6 n,sV d,sV i,sV f] 103 (0,0))::j) w'):=λW s=>(A6.o W.drew).mono λe w'⟨h1,h2⟩=>⟨h1,s.drew.below h2⟩
 obtain⟨⟨k0,k1,k2,k3⟩,_⟩:=z.iT;clear J I H E S T hk;generalize ir ⟨n,d,i,f⟩=RB at*;generalize ae bM=ER at*;generalize cZ=NC at*;unfold cE;have U:∀w,(binOp .neq 103 (gV #[i6 n,sV d,sV i,sV f]) (gV #[i6 0,sV ⟨#[]⟩,sV ER,sV NC])).run yP w=.ok (bV (!ki n 0 d ⟨#[]⟩ i ER f NC)) w:=λw=>Ej w _ _ _ _ _ _ _ _
 generalize ki n 0 d ⟨#[]⟩ i ER f NC=SA at*;clear h z L;go_enter func102,ntmps102
 go_upto_region 1 with fail
 rw[<-G];clear G;go_cut [11] (λv wx=>v=bV (!SA)/\yH (SC A (aj X) K l ((w.heap.size,.cells #[i6 n,sV d,sV i,sV f] 103 (0,0))::j) wx))
 .go_region_held3 (λw'=>w'.cell? ⟨w.heap.size,0,none⟩=some (i6 n)/\w'.cell? ⟨w.heap.size,1,none⟩=some (sV d)/\w'.cell? ⟨w.heap.size,2,none⟩=some (sV i)/\w'.cell? ⟨w.heap.size,3,none⟩=some (sV f)) (go_keep) ((go_at_call 123;apply HO.m;rintro e w2⟨rfl,p⟩;obtain⟨⟨m0,m1,m2,m3⟩,_⟩:=p.iT;have t:yH (SC A (aj X) K l ((w.heap.size,.cells #[i6 n,sV d,sV i,sV f] 103 (0,0))::j) w2):=p;clear p))
  all_goals
   go_wp2;go_meet;exact⟨rfl,t⟩
 obtain⟨rfl,D⟩:=hcut;obtain⟨c0,c1⟩:=D.o.cells;cases SA with
 |false=>
  obtain⟨⟨m0,m1,m2,m3⟩,_⟩:=D.o.iT;have P:=A5.o wc D.o;have A7:=aa P;clear P U k0 k1 k2 k3;go_upto_region 2 with fail
  go_region_held3 (λw'=>w'.cell? ⟨A.sp,1,none⟩=some (pV (qA A.tw))/\w'.cell? ⟨w.heap.size,0,none⟩=some (i6 n)/\w'.cell? ⟨w.heap.size,1,none⟩=some (sV d)/\w'.cell? ⟨w.heap.size,2,none⟩=some (sV i)/\w'.cell? ⟨w.heap.size,3,none⟩=some (sV f)) (go_keep) (first| (go_at_call 129;apply A7.m;rintro e w2⟨rfl,p⟩;obtain⟨⟨n0,n1,n2,n3⟩,_⟩:=p.iT;obtain⟨_,c12⟩:=p.cells;have t:yH (SC A (aj X) K l ((w.heap.size,.cells #[i6 n,sV d,sV i,sV f] 103 (0,0))::j) w2):=p;clear p) | (go_at_call 30;refine(A4.o _ t.o).mono ?_;rintro e w3⟨c,rfl,Q,r⟩;have V:yH (A.k.ok->c=0):=Q;clear Q;obtain⟨⟨p0,p1,p2,p3⟩,_⟩:=r.iT;obtain⟨_,c13⟩:=r.cells;have F:yH (SC A (aj x) (K+250) l ((w.heap.size,.cells #[i6 n,sV d,sV i,sV f] 103 (0,0))::j) w3):=r;clear r))
  all_goals
   go_wp2;go_ret;exact⟨⟨c,x,rfl,λC=>⟨V.o C,A9.o (by trivial)⟩,F.o.unbox⟩,trivial⟩
 |true=>
  have O:=A1.o wc _ D.o;have A2:=aa O;clear O U k0 k1 k2 k3;go_wp2_with fail
  apply A2.m;rintro e w2⟨b,c,rfl,R,p⟩;have t:=aa p;have Y:=aa R;clear p R c0 c1;by_cases M:c=0
  .subst M;go_wp2_with fail
   refine(A0.o _ t.o).mono ?_;rintro e w3⟨rfl,r⟩;have F:=aa r;clear r;go_wp2;go_ret;exact⟨⟨0,u,rfl,λ_=>⟨rfl,A8.o (by trivial)⟩,F.o⟩,trivial⟩
  have B1:((c:Int) != 0)=true:=by simp;omega
  have A3:yH (A.k.ok->False):=λC=>M (Y.o C)
  clear M;go_wp2;go_ret;exact⟨⟨c,q,rfl,λC=>(A3.o C).elim,t.o⟩,trivial⟩
def Cn(A:fm)(X:Gh)(d addr:yB)(b:Bool)(e:Ending):Prop:=∃(h:yB)(a:Acc)(c:Nat),e=rV (tV #[sV h,cE a,iV .i64 c])/\iZ a/\(c=0->h=d/\b=true/\addr.size=20/\a.root.size=32/\a.code.size=32)/\(addr.size≠20->c=2)/\(addr.size=20->b=false->c=3)/\(addr.size=20->b=true->A.k.ok->∃th,j7 (bD (X.g A.tw) d) a th c)
def SC.sum{A P K b a w}(h:SC A P K b a w)(s:yB)(hs:s.size<=maxLen):yC 23 #[sV s] w λe w'=>e=rV (sV (ag s))/\SC A P K b a w':=
 (ja s hs w h.bz).mono λ_ _⟨h1,h2⟩=>⟨h1,h.below h2⟩
def vF{A X K f d w}(h:SC A (aj X) K f d w)(addr:yB)(B:addr.size<=maxLen)(i:Bool):yC 101 #[pV (qA A.sp),sV addr,bV i] w λe w'=>Cn A X (ag addr) addr i e/\SC A (aj X) (K+250) f d w':=by
 have g:=h.box #[i6 0,sV ⟨#[]⟩,sV ⟨#[]⟩,sV ⟨#[]⟩] 103;obtain⟨j,k⟩:=yX (w.alloc (.cells #[i6 0,sV ⟨#[]⟩,sV ⟨#[]⟩,sV ⟨#[]⟩] 103));rw[<-k] at g;have l:=aa h.fresh;have s:yH (SC A (aj X) K f ((w.heap.size,.cells #[i6 0,sV ⟨#[]⟩,sV ⟨#[]⟩,sV ⟨#[]⟩] 103 (0,0))::d) j):=g;have H:=aa (g.sum addr B);have h32:(ag addr).size=32:=dz _;have F:yH (∀W,SC A (aj X) K f ((w.heap.size,.cells #[i6 0,sV ⟨#[]⟩,sV ⟨#[]⟩,sV ⟨#[]⟩] 103 (0,0))::d) W->yC 93 #[pV (qA A.sp),sV (ag addr)] W λe w'=>j6 (jM A X (ag addr)) e/\SC A (aj X) (K+250) f ((w.heap.size,.cells #[i6 0,sV ⟨#[]⟩,sV ⟨#[]⟩,sV ⟨#[]⟩] 103 (0,0))::d) w'):=λW o=>uT o _ (by rw[h32];decide)
 have y:yH (∀c:Nat,c≠0->(addr.size≠20->c=2)->(addr.size=20->i=false->c=3)->(addr.size=20->i=true->False)->Cn A X (ag addr) addr i (rV (tV #[sV ⟨#[]⟩,gV #[i6 0,sV ⟨#[]⟩,sV ⟨#[]⟩,sV ⟨#[]⟩],i6 c]))):=λc M q1 q2 q3=>⟨⟨#[]⟩,mT,c,rfl,vl,λh=>absurd h M,q1,q2,λa b=>(q3 a b).elim⟩
 have u:yH (∀K',SC A (aj X) K f ((w.heap.size,.cells #[i6 0,sV ⟨#[]⟩,sV ⟨#[]⟩,sV ⟨#[]⟩] 103 (0,0))::d) K'->SC A (aj X) (K+250) f d ((((K'.setCell ⟨w.heap.size,0,none⟩ (i6 0)).setCell ⟨w.heap.size,1,none⟩ (sV ⟨#[]⟩)).setCell ⟨w.heap.size,2,none⟩ (sV ⟨#[]⟩)).setCell ⟨w.heap.size,3,none⟩ (sV ⟨#[]⟩))):=λW o=>((o.cJ l.o _ _ _ _).unbox).mono (by omega)
 have x:yH (SC A (aj X) (K+250) f d j):=g.unbox.mono (by omega);obtain⟨⟨k0,k1,k2,k3⟩,f0,f1,f2,f3⟩:=g.iT;clear h g h32;unfold maxLen at B;generalize ag addr=HA at*;by_cases h20:addr.size=20
 .have L:(addr.size:Int)=20:=by omega
  cases i with
  |false=>
   go_enter func101,ntmps101
   go_wp2;(try rw[<-k])
   exact UB (v:=tV #[sV ⟨#[]⟩,gV #[i6 0,sV ⟨#[]⟩,sV ⟨#[]⟩,sV ⟨#[]⟩],i6 3]) (by simp[results,results101,go_sem,k0,k1,k2,k3]) rfl ⟨y.o 3 (by decide) (λh=>absurd h20 h) (λ_ _=>rfl) (λ_ h=>by cases h),by first|exact x.o|exact u.o _ s.o⟩
  |true=>
   clear k0 k1 k2 k3 f0 f1 f2 f3;go_enter func101,ntmps101
   go_wp2_with fail
   rw[<-k];clear k;apply H.m;rintro e w1⟨rfl,z⟩;have G:=aa z;clear z;go_wp2_with fail
   refine(F.o _ G.o).mono ?_;rintro e w2⟨⟨a,P,c,rfl,C,E,D⟩,m⟩;have t:=aa m;obtain⟨⟨k0,k1,k2,k3⟩,f0,f1,f2,f3⟩:=m.iT;have N:w.heap.size<w2.heap.size:=UE w2 _ k0;have r:yH (Cn A X HA addr true (rV (tV #[sV HA,cE a,i6 c]))):=⟨HA,a,c,rfl,C,λh=>⟨rfl,rfl,h20,E h⟩,λh=>absurd h20 h,(λ_ h=>by cases h),λ_ _ ok=>⟨P,D ok⟩⟩
   obtain⟨n,I,O,J⟩:=a;unfold cE at r⊢;have p:yH (∀cs y0 y1 y2 y3,SC A (aj X) (K+250) f d (((((w2.alloc (.cells cs 103)).setCell ⟨w.heap.size,0,none⟩ y0).setCell ⟨w.heap.size,1,none⟩ y1).setCell ⟨w.heap.size,2,none⟩ y2).setCell ⟨w.heap.size,3,none⟩ y3)):=λcs y0 y1 y2 y3=>((t.o.below ((Un _ _).alloc (Ug _) _)).cJ l.o _ _ _ _).unbox
   have q:yH (∀cs y0 y1 y2 y3,SC A (aj X) (K+250) f d (((((w2.setCell ⟨w.heap.size,0,none⟩ y0).setCell ⟨w.heap.size,1,none⟩ y1).setCell ⟨w.heap.size,2,none⟩ y2).setCell ⟨w.heap.size,3,none⟩ y3).alloc (.cells cs 103))):=λcs y0 y1 y2 y3=>((t.o.cJ l.o y0 y1 y2 y3).unbox).below ((Un _ _).alloc (Ug _) _)
   clear m C E D;go_upto_region 7 with fail
   go_region
   all_goals
    go_wp2;exact UB (v:=tV #[sV HA,gV #[i6 n,sV I,sV O,sV J],i6 c]) (by simp[results,results101,go_sem,k0,k1,k2,k3,N]) rfl ⟨r.o,by first|exact(p.o _ _ _ _ _).drew|exact(q.o _ _ _ _ _).drew|exact p.o _ _ _ _ _ |exact q.o _ _ _ _ _⟩
 have L:¬(addr.size:Int)=20:=by omega
 go_enter func101,ntmps101
 go_wp2;(try rw[<-k])
 exact UB (v:=tV #[sV ⟨#[]⟩,gV #[i6 0,sV ⟨#[]⟩,sV ⟨#[]⟩,sV ⟨#[]⟩],i6 2]) (by simp[results,results101,go_sem,k0,k1,k2,k3]) rfl ⟨y.o 2 (by decide) (λ_=>rfl) (λh=>absurd h h20) (λh=>absurd h h20),by first|exact x.o|exact u.o _ s.o⟩
def Wm(A:fm)(m:Mp):GP:=λX _=>A.k.ok->Wd A.k A.ps A.tw X m gK
def dO(m:Mp)(addr:yB)(a:Bool)(f:Ac->Ac):Mp:=if addr.size=20/\a=true then cQ m (ag addr) (f (aY m (ag addr))) else m
def kN(A:fm)(addr:yB)(a:Bool)(d:Mp)(K:Nat)(f:List Nat)(b:List (Nat×Obj))(e:Ending)(w':World):Prop:=∃c:Nat,e=rV (iV .i64 c)/\(addr.size≠20->c=2)/\(addr.size=20->a=false->c=3)/\(addr.size=20->a=true->A.k.ok->c=0)/\SC A (Wm A d) K f b w'
def we{A:fm}{X m}{addr:yB}{b}(f:Ac->Ac){K n e w}(i:A.k.ok->Wd A.k A.ps A.tw X m gK){a c}(q1:addr.size≠20->c=2)(q2:addr.size=20->b=false->c=3)(q3:addr.size=20->b=true->A.k.ok->∃l,j7 (bD (X.g A.tw) (ag addr)) a l c)(p:c≠0)(h:SC A (aj X) K n e w):kN A addr b (dO m addr b f) K n e (rV (i6 c)) w:=by
 have q:addr.size=20->b=true->A.k.ok->c=0:=λh1 h2 d=>by
  let⟨l,r⟩:=q3 h1 h2 d;exact((i d).acc r).2.2
 refine⟨c,rfl,q1,q2,q,h.ev λY _ o d=>?_⟩;rw[show Y=X from o];unfold dO;rw[Ui (λj=>p (q j.1 j.2 d))];exact i d
def zq{A:fm}{X j:Gh}{m:Mp}{addr:yB}{i:Bool}{f:Ac->Ac}{K:Nat}{s:List Nat}{o:List (Nat×Obj)}{w:World}(t:A.k.ok->Wd A.k A.ps A.tw X m gK){a a':Acc}{c l:Nat}(q3:addr.size=20->i=true->A.k.ok->∃r,j7 (bD (X.g A.tw) (ag addr)) a r c)(h20:addr.size=20)(n:i=true)(x:∀b:Ac,eo b=a->eo (f b)=a'/\(f b).ss=b.ss)(v:nH a->nH a')(p:A.k.ok->l=0/\j=dT A.tw X (ag addr) a')(h:SC A (aj j) K s o w):kN A addr i (dO m addr i f) K s o (rV (i6 l)) w:=by
 refine⟨l,rfl,λq=>absurd h20 q,(λ_ q=>by rw[n] at q;cases q),λ_ _ e=>(p e).1,h.ev λY _ u e=>?_⟩;let⟨r,y⟩:=q3 h20 n e;have d:=t e;let⟨e1,_⟩:=d.acc y;let⟨f1,f2⟩:=x _ e1.symm;rw[show Y=j from u,(p e).2];unfold dO;rw[Uj ⟨h20,n⟩,<-f1];exact d.set (λ_ _=>id) (by rw[f1];exact v (by rw[e1];exact d.at_ _)) (by rw[f2];exact d.wH _) λ_=>by rw[f2];exact d.rH _
def zc{A m K f d w}(h:SC A (Wm A m) K f d w)(addr:yB)(S:addr.size<=maxLen)(v:yB)(U:v.size<=maxLen)(hN:A.N+K+500<4000000000):yC 67 #[pV (qA A.sp),sV addr,sV v] w λe w'=>kN A addr (bF v) (dO m addr (bF v) (λb=>{b with aI:=v})) (K+500) f d e w'/\True:=by
 obtain⟨X,_,j,h⟩:=h.nB;obtain⟨l,r⟩:=yX (dO m addr (bF v) (λb=>{b with aI:=v}));rw[<-r];have F:=aa (vF h addr S (bF v));have O:yH (∀p a' W,p.size=32->iZ a'->SC A (aj X) (K+250) f d W->yC 102 #[pV (qA A.sp),sV p,cE a'] W λe w'=>mO A (dT A.tw X p a') (K+500) f d e w'/\True):=λp a' W h1 h2 j=>rm j p h1 a' h2 (by omega)
 have H:yH (∀W,yC 104 #[sV v] W λe w'=>e=rV (bV (bF v))/\w'=W):=λW=>tW v U W
 clear h;go_enter func67,ntmps67
 go_wp2_with fail
 refine(H.o _).mono ?_;rintro e wx⟨rfl,V⟩;subst V;go_wp2_with fail
 apply F.m;rintro e w1⟨⟨z,a,c,rfl,s,D,q1,q2,q3⟩,o⟩;obtain⟨n,aI,i,g⟩:=a;have x:=(o.box #[i6 n,sV aI,sV i,sV g] 103)
 have Y:=aa o.fresh;have J:yH (c≠0->kN A addr (bF v) l (K+500) f d (rV (i6 c)) (w1.alloc (.cells #[i6 n,sV aI,sV i,sV g] 103))):=λq=>by rw[r];exact we (λb=>{b with aI:=v}) j q1 q2 q3 q (x.unbox.mono (by omega))
 have P:yH (SC A (aj X) (K+250) f d (w1.alloc (.cells #[i6 n,sV v,sV i,sV g] 103))):=(o.box #[i6 n,sV v,sV i,sV g] 103).unbox;by_cases q:c=0
 .subst q;obtain⟨B,C,h20,T,R⟩:=D rfl;obtain⟨Z,y⟩:=yX (dT A.tw X z ⟨n,v,i,g⟩);have G:yH (∀(u:Nat) t W,(A.k.ok->u=0/\t=Z)->SC A (aj t) (K+500) f d W->kN A addr (bF v) l (K+500) f d (rV (i6 u)) W):=λu t W h1 h2=>by
   rw[r];rw[y,B] at h1;exact zq (a':=⟨n,v,i,g⟩) j q3 h20 C (λb Q=>⟨by cases Q;rfl,rfl⟩) (λh=>⟨h.n,C,h.root,h.code⟩) h1 h2
  have A1:=mH C;have M:yH (yC 102 #[pV (qA A.sp),sV z,gV #[i6 n,sV v,sV i,sV g]] (w1.alloc (.cells #[i6 n,sV v,sV i,sV g] 103)) λe w'=>mO A Z (K+500) f d e w'/\True):=by rw[y];exact O.o z ⟨n,v,i,g⟩ _ (by rw[B];exact dz _) ⟨s.n,by show v.size<=_;omega,s.root,s.code⟩ P.o
  clear o x s D y r j q1 q2 q3 h20 T R B;unfold cE;go_wp2_with fail
  apply M.m;rintro e w4⟨⟨c4,X4,rfl,h4,E⟩,_⟩;have I:=aa (G.o _ _ _ h4 E);clear E h4;go_wp2;go_ret;exact⟨I.o,trivial⟩
 have A0:((c:Int) != 0)=true:=by simp;omega
 have L:=aa (J.o q);clear o x s D q r j q1 q2 q3;unfold cE;go_wp2;go_ret;exact⟨L.o,trivial⟩
def zb{A m K f d w}(h:SC A (Wm A m) K f d w)(addr:yB)(R:addr.size<=maxLen)(v:yB)(T:v.size=32)(Y:A.N+K+500<4000000000):yC 68 #[pV (qA A.sp),sV addr,sV v] w λe w'=>kN A addr true (dO m addr true (λb=>{b with code:=v})) (K+500) f d e w'/\True:=by
 obtain⟨X,_,j,h⟩:=h.nB;obtain⟨l,r⟩:=yX (dO m addr true (λb=>{b with code:=v}));rw[<-r];have E:=aa (vF h addr R true);have L:yH (∀p a' W,p.size=32->iZ a'->SC A (aj X) (K+250) f d W->yC 102 #[pV (qA A.sp),sV p,cE a'] W λe w'=>mO A (dT A.tw X p a') (K+500) f d e w'/\True):=λp a' W h1 h2 j=>rm j p h1 a' h2 (by omega)
 have A1:(v.size:Int)=32:=by omega
 clear h;go_enter func68,ntmps68
 go_wp2_with fail
 apply E.m;rintro e w1⟨⟨z,a,c,rfl,s,C,q1,q2,q3⟩,o⟩;obtain⟨n,g,i,code⟩:=a;have x:=(o.box #[i6 n,sV g,sV i,sV code] 103)
 have U:=aa o.fresh;have H:yH (c≠0->kN A addr true l (K+500) f d (rV (i6 c)) (w1.alloc (.cells #[i6 n,sV g,sV i,sV code] 103))):=λq=>by rw[r];exact we (λb=>{b with code:=v}) j q1 q2 q3 q (x.unbox.mono (by omega))
 have M:yH (SC A (aj X) (K+250) f d (w1.alloc (.cells #[i6 n,sV g,sV i,sV v] 103))):=(o.box #[i6 n,sV g,sV i,sV v] 103).unbox;by_cases q:c=0
 .subst q;obtain⟨B,Q,h20,S,P⟩:=C rfl;obtain⟨Z,y⟩:=yX (dT A.tw X z ⟨n,g,i,v⟩);have F:yH (∀(u:Nat) t W,(A.k.ok->u=0/\t=Z)->SC A (aj t) (K+500) f d W->kN A addr true l (K+500) f d (rV (i6 u)) W):=λu t W h1 h2=>by
   rw[r];rw[y,B] at h1;exact zq (a':=⟨n,g,i,v⟩) j q3 h20 Q (λb O=>⟨by cases O;rfl,rfl⟩) (λh=>⟨h.n,h.aI,h.root,T⟩) h1 h2
  have J:yH (yC 102 #[pV (qA A.sp),sV z,gV #[i6 n,sV g,sV i,sV v]] (w1.alloc (.cells #[i6 n,sV g,sV i,sV v] 103)) λe w'=>mO A Z (K+500) f d e w'/\True):=by rw[y];exact L.o z ⟨n,g,i,v⟩ _ (by rw[B];exact dz _) ⟨s.n,s.aI,s.root,by show v.size<=_;omega⟩ M.o
  clear o x s C y r j q1 q2 q3 h20 S P B;unfold cE;go_wp2_with fail
  apply J.m;rintro e w4⟨⟨c4,V,rfl,h4,D⟩,_⟩;have G:=aa (F.o _ _ _ h4 D);clear D h4;go_wp2;go_ret;exact⟨G.o,trivial⟩
 have A0:((c:Int) != 0)=true:=by simp;omega
 have I:=aa (H.o q);clear o x s C q r j q1 q2 q3;unfold cE;go_wp2;go_ret;exact⟨I.o,trivial⟩
def MC{A m K f d w}(h:SC A (Wm A m) K f d w)(addr:yB)(T:addr.size<=maxLen)(x:Nat)(F:x<9223372036854775808)(hN:A.N+K+500<4000000000):yC 64 #[pV (qA A.sp),sV addr,i6 x] w λe w'=>kN A addr true (dO m addr true (λb=>{b with n:=x})) (K+500) f d e w'/\True:=by
 obtain⟨X,_,l,h⟩:=h.nB;obtain⟨o,s⟩:=yX (dO m addr true (λb=>{b with n:=x}));rw[<-s];have G:yH (yC 101 #[pV (qA A.sp),sV addr,bV true] w λe w'=>Cn A X (ag addr) addr true e/\SC A (aj X) (K+250) f d w'):=vF h addr T true;have O:yH (∀q a' W,q.size=32->iZ a'->SC A (aj X) (K+250) f d W->yC 102 #[pV (qA A.sp),sV q,cE a'] W λe w'=>mO A (dT A.tw X q a') (K+500) f d e w'/\True):=λq a' W h1 h2 l=>rm l q h1 a' h2 (by omega)
 have A1:(0:Int)<=(x:Int):=by omega
 clear h;go_enter func64,ntmps64
 go_wp2_with fail
 apply G.m;rintro e w1⟨⟨B,a,c,rfl,t,D,q1,q2,q3⟩,p⟩;obtain⟨n,g,j,i⟩:=a;have y:=(p.box #[i6 n,sV g,sV j,sV i] 103)
 have V:yH (∀b∈d,b.1≠w1.heap.size):=p.fresh;have J:yH (c≠0->kN A addr true o (K+500) f d (rV (i6 c)) (w1.alloc (.cells #[i6 n,sV g,sV j,sV i] 103))):=λr=>by rw[s];exact we (λb=>{b with n:=x}) l q1 q2 q3 r (y.unbox.mono (by omega))
 have P:yH (SC A (aj X) (K+250) f d (w1.alloc (.cells #[i6 x,sV g,sV j,sV i] 103))):=(p.box #[i6 x,sV g,sV j,sV i] 103).unbox;by_cases r:c=0
 .subst r;obtain⟨C,S,h20,U,R⟩:=D rfl;obtain⟨Z,z⟩:=yX (dT A.tw X B ⟨x,g,j,i⟩);have H:yH (∀(v:Nat) u W,(A.k.ok->v=0/\u=Z)->SC A (aj u) (K+500) f d W->kN A addr true o (K+500) f d (rV (i6 v)) W):=λv u W h1 h2=>by
   rw[s];rw[z,C] at h1;exact zq (a':=⟨x,g,j,i⟩) l q3 h20 S (λb Q=>⟨by cases Q;rfl,rfl⟩) (λh=>⟨F,h.aI,h.root,h.code⟩) h1 h2
  have M:yH (yC 102 #[pV (qA A.sp),sV B,gV #[i6 x,sV g,sV j,sV i]] (w1.alloc (.cells #[i6 x,sV g,sV j,sV i] 103)) λe w'=>mO A Z (K+500) f d e w'/\True):=by rw[z];exact O.o B ⟨x,g,j,i⟩ _ (by rw[C];exact dz _) ⟨F,t.aI,t.root,t.code⟩ P.o
  clear p y t D z s l q1 q2 q3 h20 U R C;unfold cE;go_wp2_with fail
  apply M.m;rintro e w4⟨⟨c4,Y,rfl,h4,E⟩,_⟩;have I:yH (kN A addr true o (K+500) f d (rV (i6 c4)) w4):=H.o _ _ _ h4 E;clear E h4;go_wp2;go_ret;exact⟨I.o,trivial⟩
 have A0:((c:Int) != 0)=true:=by simp;omega
 have L:yH (kN A addr true o (K+500) f d (rV (i6 c)) (w1.alloc (.cells #[i6 n,sV g,sV j,sV i] 103))):=J.o r;clear p y t D r s l q1 q2 q3;unfold cE;go_wp2;go_ret;exact⟨L.o,trivial⟩
def MD{A m K d b w}(h:SC A (Wm A m) K d b w)(addr:yB)(t:addr.size<=maxLen)(x:Int)(z:x<0):yC 64 #[pV (qA A.sp),sV addr,i6 x] w λe w'=>kN A addr false (dO m addr false id) (K+500) d b e w'/\True:=by
 obtain⟨X,_,l,h⟩:=h.nB;obtain⟨g,f⟩:=yX (dO m addr false id);rw[<-f];have r:=aa (vF h addr t false);have B:¬(0:Int)<=x:=by omega
 clear h;go_enter func64,ntmps64
 go_wp2_with fail
 apply r.m;rintro e w1⟨⟨y,a,c,rfl,u,p,q1,q2,q3⟩,k⟩;have o:c≠0:=λe=>by have:=(p e).2.1;cases this
 obtain⟨n,i,q,j⟩:=a;have s:yH (kN A addr false g (K+500) d b (rV (i6 c)) (w1.alloc (.cells #[i6 n,sV i,sV q,sV j] 103))):=by rw[f];exact we id l q1 q2 q3 o ((k.box #[i6 n,sV i,sV q,sV j] 103).unbox.mono (by omega))
 have v:((c:Int) != 0)=true:=by simp;omega
 clear k u p o f l q1 q2 q3;unfold cE;go_wp2;go_ret;exact⟨s.o,trivial⟩
def Kg{A X K f d w}(h:SC A (aj X) K f d w)(addr:yB)(q:addr.size<=maxLen):yC 51 #[pV (qA A.sp),sV addr] w λe w'=>(j6 (λa g c=>addr.size=20->jM A X (ag addr) a g c) e/\(addr.size≠20->∃v,e=rV (tV #[v,bV false,i6 2])))/\SC A (aj X) (K+250) f d w':=by
 have i:=h.box #[i6 0,sV ⟨#[]⟩,sV ⟨#[]⟩,sV ⟨#[]⟩] 103;obtain⟨j,l⟩:=yX (w.alloc (.cells #[i6 0,sV ⟨#[]⟩,sV ⟨#[]⟩,sV ⟨#[]⟩] 103));rw[<-l] at i;have o:yH (∀b∈d,b.1≠w.heap.size):=h.fresh;have J:=aa i;have z:=aa (i.sum addr q);have h32:(ag addr).size=32:=dz _;have u:yH (∀W,SC A (aj X) K f ((w.heap.size,.cells #[i6 0,sV ⟨#[]⟩,sV ⟨#[]⟩,sV ⟨#[]⟩] 103 (0,0))::d) W->yC 93 #[pV (qA A.sp),sV (ag addr)] W λe w'=>j6 (jM A X (ag addr)) e/\SC A (aj X) (K+250) f ((w.heap.size,.cells #[i6 0,sV ⟨#[]⟩,sV ⟨#[]⟩,sV ⟨#[]⟩] 103 (0,0))::d) w'):=λW G=>uT G _ (by rw[h32];decide)
 have B:yH (SC A (aj X) (K+250) f d ((((j.setCell ⟨w.heap.size,0,none⟩ (i6 0)).setCell ⟨w.heap.size,1,none⟩ (sV ⟨#[]⟩)).setCell ⟨w.heap.size,2,none⟩ (sV ⟨#[]⟩)).setCell ⟨w.heap.size,3,none⟩ (sV ⟨#[]⟩))):=((i.cJ o.o _ _ _ _).unbox).mono (by omega);have C:yH (SC A (aj X) (K+250) f d j):=i.unbox.mono (by omega);obtain⟨⟨k0,k1,k2,k3⟩,f0,f1,f2,f3⟩:=i.iT;clear h i h32;unfold maxLen at q;generalize ag addr=HA at*;by_cases h20:addr.size=20
 .have F:(addr.size:Int)=20:=by omega
  clear k0 k1 k2 k3 f0 f1 f2 f3;go_enter func51,ntmps51
  go_wp2_with fail
  rw[<-l];clear l;apply z.m;rintro e w1⟨rfl,p⟩;have x:=aa p;clear p;go_wp2_with fail
  refine(u.o _ x.o).mono ?_;rintro e w2⟨⟨a,g,c,rfl,r,t,s⟩,m⟩;have y:=aa m;obtain⟨⟨k0,k1,k2,k3⟩,f0,f1,f2,f3⟩:=m.iT;have k:yH (j6 (λa g c=>addr.size=20->jM A X HA a g c) (rV (tV #[cE a,bV g,i6 c]))):=⟨a,g,c,rfl,r,t,λ_=>s⟩
  obtain⟨n,D,I,E⟩:=a;unfold cE at k⊢;clear m r t s;go_wp2;exact UB (v:=tV #[gV #[i6 n,sV D,sV I,sV E],bV g,i6 c]) (by simp[results,results51,go_sem,k0,k1,k2,k3]) rfl ⟨⟨k.o,λH=>absurd h20 H⟩,(y.o.cJ o.o _ _ _ _).unbox⟩
 have F:¬(addr.size:Int)=20:=by omega
 have k:yH (j6 (λa g c=>addr.size=20->jM A X HA a g c) (rV (tV #[gV #[i6 0,sV ⟨#[]⟩,sV ⟨#[]⟩,sV ⟨#[]⟩],bV false,i6 2]))):=⟨mT,false,2,rfl,vl,(λh=>by cases h),λh=>absurd h h20⟩
 go_enter func51,ntmps51
 go_wp2;(try rw[<-l])
 exact UB (v:=tV #[gV #[i6 0,sV ⟨#[]⟩,sV ⟨#[]⟩,sV ⟨#[]⟩],bV false,i6 2]) (by simp[results,results51,go_sem,k0,k1,k2,k3]) rfl ⟨⟨k.o,λ_=>⟨_,rfl⟩⟩,by first|exact C.o|exact B.o⟩
def Kh(A:fm)(m:Mp)(addr:yB)(a:Acc)(b:Bool)(c:Nat):Prop:=addr.size=20->A.k.ok->a=eo (aY m (ag addr))/\b=(m (ag addr)).isSome/\c=0
def TQ{A m K g b w}(h:SC A (Wm A m) K g b w)(addr:yB)(k:addr.size<=maxLen):yC 51 #[pV (qA A.sp),sV addr] w λe w'=>(j6 (Kh A m addr) e/\(addr.size≠20->∃v,e=rV (tV #[v,bV false,i6 2])))/\SC A (Wm A m) (K+250) g b w':=by
 let⟨X,_,d,h⟩:=h.nB;refine(Kg h addr k).mono ?_;rintro e w'⟨⟨⟨a,p,c,rfl,l,o,n⟩,h2⟩,i⟩;exact⟨⟨⟨a,p,c,rfl,l,o,λh20 f=>(d f).acc (n h20 f)⟩,h2⟩,i.ev λY _ j=>by rwa[show Y=X from j]⟩
def JQ(A:fm)(P:GP)(r:yB):Prop:=∃X t,P X t/\r=ae (bQ t)/\(A.k.ok->r=cY (X.g A.tw)/\cT (X.g A.tw))
def ML{A P K b a w}(h:SC A P K b a w):yC 55 #[pV (qA A.sp)] w λe w'=>(∃r:yB,e=rV (sV r)/\r.size=32/\JQ A P r)/\SC A P K b a w':=by
 have g:yH (yC 37 #[pV (qA A.tw)] w λe w'=>∃r:yB,e=rV (sV r)/\r.size=32/\JQ A P r/\SC A P K b a w'):=(h.root (.inl rfl)).mono λe w'⟨r,h1,h2,⟨X,s,q1,q2,q3⟩,h4⟩=>⟨r,h1,h2,⟨X,s,q1,q2 rfl,q3⟩,h4⟩
 obtain⟨c0,c1⟩:=h.cells;clear h;go_enter func55,ntmps55
 go_wp2_with fail
 apply g.m;rintro e w1⟨r,rfl,h32,d,c⟩;have i:=aa c;have f:=aa h32;have j:=aa d;clear c h32 d;go_wp2;go_ret;exact⟨⟨r,rfl,f.o,j.o⟩,i.o⟩
def Kb(A:fm)(m:Mp)(addr:yB)(K:Nat)(d:List Nat)(a:List (Nat×Obj))(e:Ending)(w':World):Prop:=∃(b:Bool)(c:Nat),e=rV (tV #[bV b,iV .i64 c])/\(addr.size≠20->b=false/\c=2)/\(addr.size=20->A.k.ok->b=(m (ag addr)).isSome/\c=0)/\SC A (Wm A (dO m addr true λ_=>lP)) K d a w'
def MP{A m K d b w}(h:SC A (Wm A m) K d b w)(addr:yB)(Q:addr.size<=maxLen)(hN:A.N+K+500<4000000000):yC 105 #[pV (qA A.sp),sV addr] w λe w'=>Kb A m addr (K+500) d b e w'/\True:=by
 obtain⟨X,_,g,h⟩:=h.nB;have T:yH (yC 51 #[pV (qA A.sp),sV addr] w λe w'=>(j6 (λa i c=>addr.size=20->jM A X (ag addr) a i c) e/\(addr.size≠20->∃v,e=rV (tV #[v,bV false,i6 2])))/\SC A (aj X) (K+250) d b w'):=Kg h addr Q;have h32:(ag addr).size=32:=dz _;have A3:yH (∀W,SC A (aj X) (K+250) d b W->yC 23 #[sV addr] W λe w'=>e=rV (sV (ag addr))/\SC A (aj X) (K+250) d b w'):=λW g=>g.sum addr Q
 have V:yH (∀W,SC A (aj X) (K+250) d b W->yC 123 #[] W λe w'=>e=rV (cE gC)/\SC A (aj X) (K+250) d b w'):=λW g=>(vK W g.bz).mono λ_ _⟨h1,h2⟩=>⟨h1,g.below h2⟩
 have G:yH (∀W,SC A (aj X) (K+250) d b W->yC 102 #[pV (qA A.sp),sV (ag addr),cE gC] W λe w'=>mO A (dT A.tw X (ag addr) gC) (K+500) d b e w'/\True):=λW g=>rm g _ h32 _ nX.1 (by omega)
 obtain⟨R,r⟩:=yX (Kb A m addr (K+500) d b);have U:yH (∀(a:Acc) (c:Nat) i W,(addr.size=20->jM A X (ag addr) a i c)->(addr.size≠20->c=2)->c≠0\/i=false->SC A (aj X) (K+500) d b W->R (rV (tV #[bV false,i6 c])) W):=λa c i W q1 q2 q3 l=>by
  rw[r];have key:addr.size=20->A.k.ok->c=0/\m (ag addr)=none:=λh20 f=>by
   obtain⟨_,e2,e3⟩:=(g f).acc (q1 h20 f);refine⟨e3,?_⟩;rcases q3 with q3|q3
   .exact absurd e3 q3
   rw[q3] at e2;cases hf:m (ag addr) with
   |none=>rfl
   |some x=>rw[hf] at e2;cases e2
  refine⟨false,c,rfl,λh=>⟨rfl,q2 h⟩,λh20 f=>⟨by rw[(key h20 f).2];rfl,(key h20 f).1⟩,l.ev λY _ z f=>?_⟩;rw[show Y=X from z];unfold dO;split
  .next h20=>
   rw[Ed (key h20.1 f).2];exact g f
  exact g f
 have E:yH (∀(a:Acc) (c:Nat) j W,(addr.size=20->jM A X (ag addr) a true 0)->(addr.size≠20->(0:Nat)=2)->(A.k.ok->c=0/\j=dT A.tw X (ag addr) gC)->SC A (aj j) (K+500) d b W->R (rV (tV #[bV ((c:Int) == 0),i6 c])) W):=λa c j W q1 q2 q3 l=>by
  rw[r];have h20:addr.size=20:=Vn λh=>by have:=q2 h;cases this
  refine⟨_,c,rfl,λh=>absurd h20 h,λ_ f=>⟨?_,(q3 f).1⟩,l.ev λY _ z f=>?_⟩
  .rw[(q3 f).1,<-((g f).acc (q1 h20 f)).2.1];rfl
  rw[show Y=j from z,(q3 f).2,<-zK];unfold dO;rw[Uj ⟨h20,rfl⟩];exact(g f).set (λ_ _=>id) (a:=lP) ⟨nX.1.n,rfl,nX.2.1,nX.2.2⟩ o9 λh=>absurd ((rW _).2 zK) h
 obtain⟨Z,P⟩:=yX (dT A.tw X (ag addr) gC);rw[<-P] at G E;rw[<-r];clear h h32 g r P;generalize ag addr=HA at*;generalize cE gC=VN at*;go_enter func105,ntmps105
 go_wp2_with fail
 apply T.m;rintro e w1⟨⟨⟨a,i,c,rfl,A4,hz,S⟩,h2⟩,J⟩;have h2:addr.size≠20->c=2:=λh=>by
  obtain⟨v,e⟩:=h2 h;injection e with e;injection e with e;have e:=congrArg (λq:Array Value=>q[2]?) e;simp at e;omega
 have p:=U.o a c i;have s:=E.o a;have I:yH (addr.size=20->jM A X HA a i c):=S;have D:yH (addr.size≠20->c=2):=h2;obtain⟨n,u,C,y⟩:=a;have H:yH (SC A (aj X) (K+250) d b (w1.alloc (.cells #[i6 n,sV u,sV C,sV y] 103))):=(J.box #[i6 n,sV u,sV C,sV y] 103).unbox;have F:yH (SC A (aj X) (K+500) d b (w1.alloc (.cells #[i6 n,sV u,sV C,sV y] 103))):=H.o.mono (by omega);have p:yH (c≠0\/i=false->∀W,SC A (aj X) (K+500) d b W->R (rV (tV #[bV false,i6 c])) W):=λh W l=>p W I.o D.o h l
 have s:yH (c=0->i=true->∀(o:Nat) j W,(A.k.ok->o=0/\j=Z)->SC A (aj j) (K+500) d b W->R (rV (tV #[bV ((o:Int) == 0),i6 o])) W):=λe1 e2 o j W h l=>s o j W (by rw[<-e1,<-e2];exact I.o) (by rw[<-e1];exact D.o) h l
 clear J A4 hz S h2;unfold cE;by_cases B:c=0
 .subst B;cases i with
  |false=>go_wp2;go_ret2;exact⟨p.o (.inr (by trivial)) _ F.o,trivial⟩
  |true=>
   go_wp2_with fail
   refine(A3.o _ H.o).mono ?_;rintro e w2⟨rfl,L⟩;have A0:yH (SC A (aj X) (K+250) d b w2):=L;clear L;go_wp2_with fail
   refine(V.o _ A0.o).mono ?_;rintro e w3⟨rfl,M⟩;have A1:yH (SC A (aj X) (K+250) d b w3):=M;clear M;go_wp2_with fail
   refine(G.o _ A1.o).mono ?_;rintro e w4⟨⟨c4,X4,rfl,h4,O⟩,_⟩;have A2:yH (R (rV (tV #[bV ((c4:Int) == 0),i6 c4])) w4):=s.o (by trivial) (by trivial) _ _ _ h4 O;clear O h4;go_wp2;go_ret2;exact⟨A2.o,trivial⟩
 have A5:((c:Int) != 0)=true:=by simp;omega
 have t:=p.o (.inl B);have t:yH (∀W,SC A (aj X) (K+500) d b W->R (rV (tV #[bV false,i6 c])) W):=t;clear B;go_wp2;go_ret2;exact⟨t.o _ F.o,trivial⟩
def fP(A:fm)(b:Mp)(K:Nat)(d:List Nat)(a:List (Nat×Obj))(e:Ending)(w':World):Prop:=∃c:Nat,e=rV (iV .i64 c)/\(A.k.ok->c=0)/\SC A (Wm A b) K d a w'
def SC.lost{A:fm}{P:GP}{e:Mp}{K:Nat}{d:List Nat}{a:List (Nat×Obj)}{w:World}{c:Nat}(h:SC A P K d a w)(b:A.k.ok->c=0)(h0:c≠0):fP A e K d a (rV (i6 c)) w:=⟨c,rfl,b,h.ev λ_ _ _ ok=>absurd (b ok) h0⟩
def SC.np{A P K c b a w}(h:SC A P K (c::b) a w):SC A P K b a w:=h.drop (λ_ ht=>Ul _ ht) λ_ hb=>hb
def RM{A X m K j i w}(h:SC A (aj X) K j i w)(p:yB)(hk:p.size=32)(a:Acc)(C:iZ a)(E:a.root.size=32)(key q:yB)(R:key.size<=40)(A4:0<q.size)(Q:q.size<=160)(y:A.k.ok->Wd A.k A.ps A.tw X m gK/\a=eo (aY m p))(hN:A.N+K+800<4000000000):yC 106 #[pV (qA A.sp),sV p,cE a,sV key,sV q] w λe w'=>fP A (cQ m p {aY m p with ss:=aL (aY m p).ss key q}) (K+751) j i e w'/\True:=by
 obtain⟨v,S⟩:=yX (cQ m p {aY m p with ss:=aL (aY m p).ss key q});obtain⟨x,T⟩:=yX ((aY m p).ss);rw[<-S];obtain⟨n,s,z,t⟩:=a;simp only at E;have M:=h.box #[i6 n,sV s,sV z,sV t] 103;obtain⟨H,L⟩:=yX (w.alloc (.cells #[i6 n,sV s,sV z,sV t] 103));rw[<-L] at M;have B2:=aa h.fresh;have C2:yH (yC 95 #[pV (qA A.sp),sV p,sV z] H λe w'=>∃d X',e=rV (pV (qA d))/\jF X p x d X'/\d≠A.tw/\SC A (aj X') (K+1) (d::j) ((w.heap.size,.cells #[i6 n,sV s,sV z,sV t] 103 (0,0))::i) w'):=M.slotsOf p z (by omega) E (by omega) x λu ho=>by
  obtain⟨h1,h2⟩:=y u;have:=(h1.rH p).2 ho;injection h2 with _ _ h2 _;rw[h2,T];exact this
 have B4:yH (∀d l W,SC A (aj l) (K+1) (d::j) ((w.heap.size,.cells #[i6 n,sV s,sV z,sV t] 103 (0,0))::i) W->yC 131 #[pV (qA d),sV key,sV q] W λe w'=>∃(r:yB)(c:Nat),e=rV (tV #[sV r,i6 c])/\r.size<=32/\(c=0->r.size=32)/\(A.k.ok->c=0/\r=cY (aL (l.g d) key q))/\SC A (aj l) (K+1+250) (d::j) ((w.heap.size,.cells #[i6 n,sV s,sV z,sV t] 103 (0,0))::i) w'):=λd l W y=>y.zf (.inr (Uk ..)) key q R A4 Q
 have C3:yH (∀d l r W,r.size<=32->SC A (aj l) (K+1+250) (d::j) i W->yC 102 #[pV (qA A.sp),sV p,gV #[i6 n,sV s,sV r,sV t]] W λe w'=>mO A (dT A.tw l p ⟨n,s,r,t⟩) (K+1+250+250) (d::j) i e w'/\True):=λd l r W E y=>rm y p hk ⟨n,s,r,t⟩ ⟨C.n,C.aI,E,C.code⟩ (by omega)
 have B3:yH (∀d f W,SC A (aj f) (K+1+250+250) (d::j) i W->yC 30 #[pV (qA d),sV key,sV q] W λe w'=>∃c:Nat,e=rV (i6 c)/\(A.k.ok->c=0)/\SC A (aj ⟨aE f.g d (aL (f.g d) key q),f.o⟩) (K+751) j i w'):=λd f W y=>(y.put (.inr (Uk ..)) key q R A4 Q).mono λ_ _⟨c,h1,D,h2⟩=>⟨c,h1,D,h2.np.mono (by omega)⟩
 have A8:yH (∀(d:Nat) l r f (c4 c5:Nat) W,jF X p x d l->d≠A.tw->r.size=32->(A.k.ok->r=cY (aL (l.g d) key q))->(A.k.ok->c4=0/\f=dT A.tw l p ⟨n,s,r,t⟩)->(A.k.ok->c5=0)->SC A (aj ⟨aE f.g d (aL (f.g d) key q),f.o⟩) (K+751) j i W->fP A v (K+751) j i (rV (i6 c5)) W):=λd l r f c4 c5 W s1 s2 s3 s4 s5 s6 hS=>⟨c5,rfl,s6,hS.ev λY _ hY u=>by
  obtain⟨h1,h2⟩:=y u;rw[T] at s1;have h3:=(h1.open_ s1 s2).2.2;have A7:=s4 u;rw[h3] at A7;have e4:=(s5 u).2;injection h2 with g1 g2 g3 g4;rw[g1,g2,g4] at e4;have:=h1.filled s1 s2 (rM (h1.wH p) key q R Q) A7 e4;rw[show Y=_ from hY,S,this.2];exact this.1⟩
 clear h M C y S T;unfold cE;go_enter func106,ntmps106
 go_wp2_with fail
 rw[<-L];clear L;apply C2.m;rintro e w1⟨d,l,rfl,s1,s2,A1⟩;have U:=A8.o d l;have A9:yH (∀r f (c4 c5:Nat) W,r.size=32->(A.k.ok->r=cY (aL (l.g d) key q))->(A.k.ok->c4=0/\f=dT A.tw l p ⟨n,s,r,t⟩)->(A.k.ok->c5=0)->SC A (aj ⟨aE f.g d (aL (f.g d) key q),f.o⟩) (K+751) j i W->fP A v (K+751) j i (rV (i6 c5)) W):=λr f c4 c5 W=>U r f c4 c5 W s1 s2
 clear U s1 s2;have B5:=aa A1;clear A1;go_wp2_with fail
 refine(B4.o _ _ _ B5.o).mono ?_;rintro e w2⟨r,c,rfl,A5,A6,D,I⟩;have V:=aa D;clear D;have A0:=aa I;obtain⟨⟨k0,k1,k2,k3⟩,f0,f1,f2,f3⟩:=I.iT;clear I;by_cases O:c=0
 .subst O;have A2:=A0.o.Eg B2.o (sV r) 2;have B6:=aa A2.unbox;have G:=C3.o d l r _ A5 B6.o;have B:=A9.o r;obtain⟨Z,hZ⟩:=yX (dT A.tw l p ⟨n,s,r,t⟩);rw[<-hZ] at G B;have B0:yH (∀f (c4 c5:Nat) W,(A.k.ok->c4=0/\f=Z)->(A.k.ok->c5=0)->SC A (aj ⟨aE f.g d (aL (f.g d) key q),f.o⟩) (K+751) j i W->fP A v (K+751) j i (rV (i6 c5)) W):=λf c4 c5 W=>B f c4 c5 W (A6 rfl) λu=>(V.o u).2
  clear B hZ;have C1:=aa G;clear A2 G A5 A6;go_wp2_with fail
  apply C1.m;rintro e w4⟨⟨c4,f,rfl,q4,J⟩,_⟩;have B7:=aa J;have B8:yH (c4≠0->fP A v (K+751) j i (rV (i6 c4)) w4):=λh0=>SC.lost (J.np.mono (by omega)) (λu=>(q4 u).1) h0
  have B:=B0.o f c4;have B1:yH (∀(c5:Nat) W,(A.k.ok->c5=0)->SC A (aj ⟨aE f.g d (aL (f.g d) key q),f.o⟩) (K+751) j i W->fP A v (K+751) j i (rV (i6 c5)) W):=λc5 W=>B c5 W q4
  clear B q4;clear J k0 k1 k2 k3 f0 f1 f2 f3;by_cases P:c4=0
  .subst P;go_wp2_with fail
   refine(B3.o _ _ _ B7.o).mono ?_;rintro e w5⟨c5,rfl,q5,A3⟩;have B9:=aa (B1.o _ _ q5 A3);clear A3 q5;go_wp2;go_ret;exact⟨B9.o,trivial⟩
  have C4:((c4:Int) != 0)=true:=by simp;omega
  have F:=B8.o P;have F:=aa F;clear P;go_wp2;go_ret;exact⟨F.o,trivial⟩
 have C4:((c:Int) != 0)=true:=by simp;omega
 have C0:yH (fP A v (K+751) j i (rV (i6 c)) w2):=SC.lost (A0.o.unbox.np.mono (by omega)) (λu=>(V.o u).1) O;clear O;go_wp2;go_ret;exact⟨C0.o,trivial⟩
def SP{A X m K i f w}(h:SC A (aj X) K i f w)(l:yB)(hk:l.size=32)(a:Acc)(D:iZ a)(V:a.root.size=32)(key:yB)(T:key.size<=40)(C:A.k.ok->Wd A.k A.ps A.tw X m gK/\a=eo (aY m l)/\(m l).isSome=true)(hN:A.N+K+1100<4000000000):yC 108 #[pV (qA A.sp),sV l,cE a,sV key] w λe w'=>fP A (cQ m l {aY m l with ss:=aL (aY m l).ss key ⟨#[]⟩}) (K+1001) i f e w'/\True:=by
 obtain⟨z,U⟩:∃z,z=cQ m l {aY m l with ss:=aL (aY m l).ss key ⟨#[]⟩}:=⟨_,rfl⟩
 obtain⟨x,hx⟩:∃x,x=(aY m l).ss:=⟨_,rfl⟩
 rw[<-U];obtain⟨n,s,B,t⟩:=a;simp only at V;have hb:=h.box #[i6 n,sV s,sV B,sV t] 103;obtain⟨W0,A4⟩:∃W0,W0=w.alloc (.cells #[i6 n,sV s,sV B,sV t] 103):=⟨_,rfl⟩
 rw[<-A4] at hb;have B8:=aa h.fresh;have D1:yH (yC 95 #[pV (qA A.sp),sV l,sV B] W0 λe w'=>∃d X',e=rV (pV (qA d))/\jF X l x d X'/\d≠A.tw/\SC A (aj X') (K+1) (d::i) ((w.heap.size,.cells #[i6 n,sV s,sV B,sV t] 103 (0,0))::f) w'):=hb.slotsOf l B (by omega) V (by omega) x λy ho=>by
  obtain⟨h1,h2,_⟩:=C y;have:=(h1.rH l).2 ho;injection h2 with _ _ h2 _;rw[h2,hx];exact this
 have B9:yH (∀d j W,SC A (aj j) (K+1) (d::i) ((w.heap.size,.cells #[i6 n,sV s,sV B,sV t] 103 (0,0))::f) W->yC 36 #[pV (qA d),sV key] W λe w'=>∃(v:yB)(c:Nat),e=rV (tV #[sV v,i6 c])/\v.size<=160/\(A.k.ok->c=0/\v=bD (j.g d) key)/\SC A (aj j) (K+1+250) (d::i) ((w.heap.size,.cells #[i6 n,sV s,sV B,sV t] 103 (0,0))::f) w'):=λd j W C=>C.get (.inr (Uk ..)) key T
 have B6:yH (∀d j W,SC A (aj j) (K+1+250) (d::i) ((w.heap.size,.cells #[i6 n,sV s,sV B,sV t] 103 (0,0))::f) W->yC 34 #[pV (qA d),sV key] W λe w'=>∃(b:Bool)(c:Nat),e=rV (tV #[bV b,i6 c])/\(A.k.ok->c=0)/\SC A (aj ⟨aE j.g d (aL (j.g d) key ⟨#[]⟩),j.o⟩) (K+1+250+250) (d::i) ((w.heap.size,.cells #[i6 n,sV s,sV B,sV t] 103 (0,0))::f) w'):=λd j W C=>C.del (.inr (Uk ..)) key T
 have C3:yH (∀d u W,SC A (aj u) (K+1+250+250) (d::i) ((w.heap.size,.cells #[i6 n,sV s,sV B,sV t] 103 (0,0))::f) W->yC 37 #[pV (qA d)] W λe w'=>∃r:yB,e=rV (sV r)/\r.size=32/\(A.k.ok->r=cY (u.g d))/\SC A (aj u) (K+1+250+250) (d::i) ((w.heap.size,.cells #[i6 n,sV s,sV B,sV t] 103 (0,0))::f) w'):=λd u W C=>(C.root (.inr (Uk ..))).mono λe w'⟨r,h1,h2,⟨Y,_,L,_,q⟩,h3⟩=>⟨r,h1,h2,by rw[show Y=u from L] at q;exact λy=>(q y).1,h3⟩
 have D3:yH (∀d u r W,r.size<=32->SC A (aj u) (K+1+250+250) (d::i) f W->yC 102 #[pV (qA A.sp),sV l,gV #[i6 n,sV s,sV r,sV t]] W λe w'=>mO A (dT A.tw u l ⟨n,s,r,t⟩) (K+1+250+250+250) (d::i) f e w'/\True):=λd u r W V C=>rm C l hk ⟨n,s,r,t⟩ ⟨D.n,D.aI,V,D.code⟩ (by omega)
 have C1:yH (∀d v p W,0<v.size->v.size<=160->SC A (aj p) (K+1+250+250+250) (d::i) f W->yC 30 #[pV (qA d),sV key,sV v] W λe w'=>∃c:Nat,e=rV (i6 c)/\SC A (aj ⟨aE p.g d (aL (p.g d) key v),p.o⟩) (K+1001) i f w'):=λd v p W h0 E C=>(C.put (.inr (Uk ..)) key v T h0 E).mono λ_ _⟨c,h1,_,h2⟩=>⟨c,h1,h2.np.mono (by omega)⟩
 have A0:yH (∀(d:Nat) j (v:yB) (c:Nat) W,jF X l x d j->d≠A.tw->(A.k.ok->c=0/\v=bD (j.g d) key)->v.size=0->SC A (aj j) (K+1001) i f W->fP A z (K+1001) i f (rV (i6 c)) W):=λd j v c W s1 s2 s3 s4 J=>⟨c,rfl,λy=>(s3 y).1,J.ev λY _ L y=>by
  obtain⟨h1,_,h2⟩:=C y;rw[hx] at s1;obtain⟨o1,o2,o3⟩:=h1.open_ s1 s2;have E:=(s3 y).2;rw[o3] at E;rw[E] at s4;have e:aL (aY m l).ss key ⟨#[]⟩=(aY m l).ss:=by
   unfold aL;rw[Uj (show(⟨#[]⟩:yB).size=0 from rfl),UU];exact OS (Rf (h1.wH l) s4)
  rw[show Y=j from L,U,e];obtain⟨a,D⟩:=Option.isSome_iff_exists.1 h2;have ea:aY m l=a:=by unfold aY;rw[D];rfl
  rw[show({aY m l with ss:=(aY m l).ss}:Ac)=a from ea,ME D (h1.fit _ _ D).2.1];exact o1.full o2 o3 h2⟩
 have G:yH (∀(d:Nat) j r p (c5:Nat) W,jF X l x d j->d≠A.tw->(A.k.ok->r=cY (aE j.g d (aL (j.g d) key ⟨#[]⟩) d))->(A.k.ok->c5=0/\p=dT A.tw ⟨aE j.g d (aL (j.g d) key ⟨#[]⟩),j.o⟩ l ⟨n,s,r,t⟩)->SC A (aj p) (K+1001) i f W->fP A z (K+1001) i f (rV (i6 c5)) W):=λd j r p c5 W s1 s2 s4 s5 J=>⟨c5,rfl,λy=>(s5 y).1,J.ev λY _ L y=>by
  obtain⟨h1,h2,_⟩:=C y;rw[hx] at s1;have h3:=(h1.open_ s1 s2).2.2;have A8:=s4 y;have e4:=(s5 y).2;rw[cF] at A8;rw[h3] at A8 e4;injection h2 with g1 g2 g3 g4;rw[g1,g2,g4] at e4;have:=h1.SO s1 s2 (rM (h1.wH l) key ⟨#[]⟩ T (by decide)) A8 e4;rw[show Y=_ from L,U];exact this⟩
 clear h hb D C U hx;unfold cE;go_enter func108,ntmps108
 go_wp2_with fail
 rw[<-A4];clear A4;apply D1.m;rintro e w1⟨d,j,rfl,s1,s2,B0⟩;have F:=A0.o d j;have A0:yH (∀(v:yB) (c:Nat) W,(A.k.ok->c=0/\v=bD (j.g d) key)->v.size=0->SC A (aj j) (K+1001) i f W->fP A z (K+1001) i f (rV (i6 c)) W):=λv c W=>F v c W s1 s2
 have A9:=G.o d j;have G:yH (∀r p (c5:Nat) W,(A.k.ok->r=cY (aE j.g d (aL (j.g d) key ⟨#[]⟩) d))->(A.k.ok->c5=0/\p=dT A.tw ⟨aE j.g d (aL (j.g d) key ⟨#[]⟩),j.o⟩ l ⟨n,s,r,t⟩)->SC A (aj p) (K+1001) i f W->fP A z (K+1001) i f (rV (i6 c5)) W):=λr p c5 W=>A9 r p c5 W s1 s2
 clear F A9 s1 s2;have C4:=aa B0;clear B0;go_wp2_with fail
 refine(B9.o _ _ _ C4.o).mono ?_;rintro e w2⟨v,c,rfl,E,hq,O⟩;have C5:=aa O;have F:=A0.o v c w2 hq;have I:yH (v.size=0->fP A z (K+1001) i f (rV (i6 c)) w2):=λh0=>F h0 (O.unbox.np.mono (by omega))
 have D2:yH (c≠0->fP A z (K+1001) i f (rV (i6 c)) w2):=λh0=>SC.lost (O.unbox.np.mono (by omega)) (λy=>(hq y).1) h0
 clear O F hq;by_cases hc:c=0
 .subst hc;by_cases M:v.size=0
  .have hE:v.toList.isEmpty=true:=by rw[g7];exact M
   have H:=aa (I.o M);clear M;go_wp2;go_ret;exact⟨H.o,trivial⟩
  have hE:v.toList.isEmpty=false:=by rw[iv];exact M
  have HV:yH (0<v.size/\v.size<=160):=⟨by omega,E⟩
  clear E M;go_wp2_with fail
  refine(B6.o _ _ _ C5.o).mono ?_;rintro e w3⟨b,c3,rfl,B4,Q⟩;obtain⟨u,S⟩:∃u:Gh,u=⟨aE j.g d (aL (j.g d) key ⟨#[]⟩),j.o⟩:=⟨_,rfl⟩
  rw[<-S] at Q;have A1:=G.o;rw[<-S,show aE j.g d (aL (j.g d) key ⟨#[]⟩) d=u.g d by rw[S]] at A1;have G:=aa A1;clear A1 S;have C6:=aa Q;have I:yH (c3≠0->fP A z (K+1001) i f (rV (i6 c3)) w3):=λh0=>SC.lost (Q.unbox.np.mono (by omega)) B4 h0
  clear Q B4;by_cases A5:c3=0
  .subst A5;go_wp2_with fail
   refine(C3.o _ _ _ C6.o).mono ?_;rintro e w4⟨r,rfl,h32,B5,R⟩;have D4:=aa R;obtain⟨⟨k0,k1,k2,k3⟩,f0,f1,f2,f3⟩:=R.iT;have B1:=R.Eg B8.o (sV r) 2;have C7:=aa B1.unbox;obtain⟨Z,hZ⟩:∃Z,Z=dT A.tw u l ⟨n,s,r,t⟩:=⟨_,rfl⟩
   have A2:=G.o r;rw[<-hZ] at A2;have B7:yH (∀p (c5:Nat) W,(A.k.ok->c5=0/\p=Z)->SC A (aj p) (K+1001) i f W->fP A z (K+1001) i f (rV (i6 c5)) W):=λp c5 W=>A2 p c5 W B5
   clear A2 B5;have D0:yH (yC 102 #[pV (qA A.sp),sV l,gV #[i6 n,sV s,sV r,sV t]] (w4.setCell ⟨w.heap.size,2,none⟩ (sV r)) λe w'=>mO A Z (K+1+250+250+250) (d::i) f e w'/\True):=by rw[hZ];exact D3.o d u r _ (by omega) C7.o
   clear R B1 h32 hZ;go_wp2_with fail
   apply D0.m;rintro e w5⟨⟨c5,X5,rfl,A7,A3⟩,_⟩;have C8:=aa A3;have I:=aa (B7.o X5 c5 w5 A7 (A3.np.mono (by omega)));have C2:yH (A.k.ok->c5=0):=λy=>(A7 y).1
   clear A7;clear A3 k0 k1 k2 k3 f0 f1 f2 f3;by_cases A6:c5=0
   .subst A6;go_wp2;go_ret;exact⟨I.o,trivial⟩
   have B3:((c5:Int) != 0)=true:=by simp;omega
   have C0:yH (∀P W,SC A P (K+1001) i f W->fP A z (K+1001) i f (rV (i6 c5)) W):=λP W J=>SC.lost J C2.o A6
   clear A6;go_wp2_with fail
   refine(C1.o _ _ _ _ HV.o.1 HV.o.2 C8.o).mono ?_;rintro e w6⟨c6,rfl,B2⟩;have C9:=aa (C0.o _ _ B2);clear B2;go_wp2;go_ret;exact⟨C9.o,trivial⟩
  have B3:((c3:Int) != 0)=true:=by simp;omega
  have H:=aa (I.o A5);clear A5;go_wp2;go_ret;exact⟨H.o,trivial⟩
 have B3:((c:Int) != 0)=true:=by simp;omega
 have H:=aa (D2.o hc);clear hc;go_wp2;go_ret;exact⟨H.o,trivial⟩
def JM(A:fm)(m:Mp)(a b addr slot:yB)(K:Nat)(f:List Nat)(d:List (Nat×Obj))(e:Ending)(w':World):Prop:=∃(v:yB)(c:Nat),e=rV (tV #[sV v,iV .i64 c])/\v.size<=maxLen/\(addr.size=20->slot.size=32->A.k.ok->iU (bD (aY m a).ss b) v c)/\SC A (Wm A m) K f d w'
def Ml:iU ⟨#[]⟩ ⟨#[]⟩ 0:=⟨λ_=>⟨rfl,rfl⟩,λu e h1 _=>by
 have:=(qG (mH h1)).1
 rw[<-e] at this
 exact absurd this (by decide)⟩
def TU{A m K j i w}(h:SC A (Wm A m) K j i w)(addr slot:yB)(hk:addr.size<=maxLen)(hl:slot.size<=maxLen)(hN:A.N+K+600<4000000000):yC 54 #[pV (qA A.sp),sV addr,sV slot] w λe w'=>JM A m (ag addr) (ag slot) addr slot (K+501) j i e w'/\True:=by
 obtain⟨X,_,l,h⟩:=h.nB;obtain⟨x,F⟩:=yX ((aY m (ag addr)).ss);have h32:(ag addr).size=32:=dz _;have Q:(ag slot).size=32:=dz _;have C0:yH (yC 23 #[sV addr] w λe w'=>e=rV (sV (ag addr))/\SC A (aj X) K j i w'):=h.sum addr hk;have A5:yH (∀W,SC A (aj X) K j i W->yC 93 #[pV (qA A.sp),sV (ag addr)] W λe w'=>j6 (jM A X (ag addr)) e/\SC A (aj X) (K+250) j i w'):=λW l=>uT l _ (by rw[h32];decide)
 have B6:yH (∀o W,o.size=32->(A.k.ok->o=cY x)->SC A (aj X) (K+250) j i W->yC 95 #[pV (qA A.sp),sV (ag addr),sV o] W λe w'=>∃f b,e=rV (pV (qA f))/\jF X (ag addr) x f b/\f≠A.tw/\SC A (aj b) (K+250+1) (f::j) i w'):=λo W hr r t=>t.slotsOf _ o (by rw[h32];decide) hr (by omega) x λd ho=>by rw[r d,F];exact((l d).rH _).2 ho
 have B9:yH (∀f b W,SC A (aj b) (K+250+1) (f::j) i W->yC 23 #[sV slot] W λe w'=>e=rV (sV (ag slot))/\SC A (aj b) (K+250+1) (f::j) i w'):=λf b W l=>l.sum slot hl
 have B1:yH (∀f b W,SC A (aj b) (K+250+1) (f::j) i W->yC 36 #[pV (qA f),sV (ag slot)] W λe w'=>∃(v:yB)(c:Nat),e=rV (tV #[sV v,i6 c])/\v.size<=160/\(A.k.ok->c=0/\v=bD (b.g f) (ag slot))/\SC A (aj b) (K+501) j i w'):=λf b W l=>(l.get (.inr (Uk ..)) _ (by rw[Q];decide)).mono λ_ _⟨v,c,h1,h2,r,h3⟩=>⟨v,c,h1,h2,r,h3.np⟩
 have B8:yH (∀v b W,v.size<=160->SC A (aj b) (K+501) j i W->yC 96 #[sV v] W λe w'=>(∃(v6:yB)(c:Nat),e=rV (tV #[sV v6,i6 c])/\v6.size<=maxLen/\iU v v6 c)/\SC A (aj b) (K+501) j i w'):=λv b W hv l=>(DI W v (by unfold maxLen;omega)).mono λ_ _⟨⟨v,c,h1,h2,_,h4⟩,h3⟩=>⟨⟨v,c,h1,h2,h4⟩,l.below h3⟩
 obtain⟨R,B⟩:=yX (JM A m (ag addr) (ag slot) addr slot (K+501) j i);have J:yH ((addr.size=20->slot.size=32->False)->R (rV (tV #[sV ⟨#[]⟩,i6 (2:Nat)])) w):=λq=>by
  rw[B];exact⟨_,2,rfl,by decide,λh1 h2=>(q h1 h2).elim,(h.mono (by omega)).ev λY _ E=>by rw[show Y=X from E];exact l⟩
 have I:yH (∀(c:Nat) P W,(A.k.ok->c=0)->c≠0->SC A P (K+501) j i W->R (rV (tV #[sV ⟨#[]⟩,i6 c])) W):=λc P W q h0 t=>by
  rw[B];exact⟨_,c,rfl,by decide,λ_ _ d=>absurd (q d) h0,t.ev λ_ _ _ d=>absurd (q d) h0⟩
 have A7:yH (∀W,(A.k.ok->false=(m (ag addr)).isSome)->SC A (aj X) (K+501) j i W->R (rV (tV #[sV ⟨#[]⟩,i6 (0:Nat)])) W):=λW q t=>by
  rw[B];refine⟨_,0,rfl,by decide,λ_ _ d=>?_,t.ev λY _ E=>by rw[show Y=X from E];exact l⟩;have q:=q d;cases hm:m (ag addr) with
  |none=>unfold aY;rw[hm];exact Ml
  |some a=>rw[hm] at q;cases q
 have A8:yH (∀(f:Nat) b v v6 (c6:Nat) W,jF X (ag addr) x f b->f≠A.tw->(A.k.ok->true=(m (ag addr)).isSome)->(A.k.ok->v=bD (b.g f) (ag slot))->iU v v6 c6->v6.size<=maxLen->SC A (aj b) (K+501) j i W->R (rV (tV #[sV v6,i6 c6])) W):=λf b v v6 c6 W s1 s2 s3 s4 s5 s6 t=>by
  rw[B];rw[F] at s1;refine⟨v6,c6,rfl,s6,λ_ _ d=>?_,t.ev λY _ E d=>?_⟩
  .rw[<-((l d).open_ s1 s2).2.2,<-s4 d];exact s5
  obtain⟨o1,o2,o3⟩:=(l d).open_ s1 s2;rw[show Y=b from E];exact o1.full o2 o3 (s3 d).symm
 have A6:yH (∀a u c,jM A X (ag addr) a u c->A.k.ok->c=0/\a.root=cY x/\u=(m (ag addr)).isSome):=λa u c C d=>by
  obtain⟨e1,e2,e3⟩:=(l d).acc (C d);exact⟨e3,by rw[e1,F];rfl,e2⟩
 rw[<-B];clear h h32 Q l F B;unfold maxLen at hk hl;generalize ag addr=HA at*;generalize ag slot=HT at*;by_cases h20:addr.size=20
 .have C3:(addr.size:Int)=20:=by omega
  by_cases C6:slot.size=32
  .have C7:(slot.size:Int)=32:=by omega
   go_enter func54,ntmps54
   go_wp2_with fail
   apply C0.m;rintro e w1⟨rfl,S⟩;have B2:yH (SC A (aj X) K j i w1):=S;clear S;go_wp2_with fail
   refine(A5.o _ B2.o).mono ?_;rintro e w2⟨⟨a,u,c,rfl,C5,C,A4⟩,T⟩;have r:=A6.o a u c A4;clear A4;obtain⟨n,y,o,z⟩:=a;simp only at C r;have s:yH (A.k.ok->c=0/\o=cY x/\u=(m HA).isSome):=r;clear r;have L:yH (SC A (aj X) (K+250) j i (w2.alloc (.cells #[i6 n,sV y,sV o,sV z] 103))):=(T.box #[i6 n,sV y,sV o,sV z] 103).unbox;have O:yH (SC A (aj X) (K+501) j i (w2.alloc (.cells #[i6 n,sV y,sV o,sV z] 103))):=L.o.mono (by omega);unfold cE;clear T C5;by_cases G:c=0
   .subst G;have A1:=(C rfl).1;clear C;cases u with
    |false=>have p:=A7.o _ (λd=>(s.o d).2.2) O.o;have p:yH (R (rV (tV #[sV ⟨#[]⟩,i6 (0:Nat)])) (w2.alloc (.cells #[i6 n,sV y,sV o,sV z] 103))):=p;go_wp2;go_ret2;exact⟨p.o,trivial⟩
    |true=>
     have B7:yH (yC 95 #[pV (qA A.sp),sV HA,sV o] (w2.alloc (.cells #[i6 n,sV y,sV o,sV z] 103)) λe w'=>∃f b,e=rV (pV (qA f))/\jF X HA x f b/\f≠A.tw/\SC A (aj b) (K+250+1) (f::j) i w'):=B6.o o _ A1 (λd=>(s.o d).2.1) L.o;have C2:yH (A.k.ok->true=(m HA).isSome):=λd=>(s.o d).2.2
     clear A1;go_wp2_with fail
     apply B7.m;rintro e w3⟨f,b,rfl,s1,s2,U⟩;have D:=A8.o f b;have A9:yH (∀v v6 (c6:Nat) W,(A.k.ok->v=bD (b.g f) HT)->iU v v6 c6->v6.size<=maxLen->SC A (aj b) (K+501) j i W->R (rV (tV #[sV v6,i6 c6])) W):=λv v6 c6 W=>D v v6 c6 W s1 s2 C2.o
     clear D s1 s2;have B3:yH (SC A (aj b) (K+250+1) (f::j) i w3):=U;clear U;go_wp2_with fail
     refine(B9.o _ _ _ B3.o).mono ?_;rintro e w4⟨rfl,V⟩;have B4:yH (SC A (aj b) (K+250+1) (f::j) i w4):=V;clear V;go_wp2_with fail
     refine(B1.o _ _ _ B4.o).mono ?_;rintro e w5⟨v,c,rfl,hv,r,Z⟩;have s:yH (A.k.ok->c=0/\v=bD (b.g f) HT):=r;clear r;have M:yH (SC A (aj b) (K+501) j i w5):=Z;clear Z;by_cases H:c=0
     .subst H;have C1:yH (yC 96 #[sV v] w5 λe w'=>(∃(v6:yB)(c:Nat),e=rV (tV #[sV v6,i6 c])/\v6.size<=maxLen/\iU v v6 c)/\SC A (aj b) (K+501) j i w'):=B8.o v b w5 hv M.o;have D:=A9.o v;have B0:yH (∀v6 (c6:Nat) W,iU v v6 c6->v6.size<=maxLen->SC A (aj b) (K+501) j i W->R (rV (tV #[sV v6,i6 c6])) W):=λv6 c6 W=>D v6 c6 W λd=>(s.o d).2
      clear D;go_wp2_with fail
      apply C1.m;rintro e w6⟨⟨v6,c6,rfl,A2,A3⟩,A0⟩;have B5:yH (R (rV (tV #[sV v6,i6 c6])) w6):=B0.o _ _ _ A3 A2 A0;clear A0 A2 A3;go_wp2;go_ret2;exact⟨B5.o,trivial⟩
     have C4:((c:Int) != 0)=true:=by simp;omega
     have p:yH (R (rV (tV #[sV ⟨#[]⟩,i6 c])) w5):=I.o c _ w5 (λd=>(s.o d).1) H M.o;clear H;go_wp2;go_ret2;exact⟨p.o,trivial⟩
   have C4:((c:Int) != 0)=true:=by simp;omega
   have p:yH (R (rV (tV #[sV ⟨#[]⟩,i6 c])) (w2.alloc (.cells #[i6 n,sV y,sV o,sV z] 103))):=I.o c _ _ (λd=>(s.o d).1) G O.o;clear G C;go_wp2;go_ret2;exact⟨p.o,trivial⟩
  have C7:¬(slot.size:Int)=32:=by omega
  have p:yH (R (rV (tV #[sV ⟨#[]⟩,i6 (2:Nat)])) w):=J.o λ_ h=>C6 h
  go_enter func54,ntmps54
  go_wp2;go_ret2;exact⟨p.o,trivial⟩
 have C3:¬(addr.size:Int)=20:=by omega
 have p:yH (R (rV (tV #[sV ⟨#[]⟩,i6 (2:Nat)])) w):=J.o λh _=>h20 h
 go_enter func54,ntmps54
 go_wp2;go_ret2;exact⟨p.o,trivial⟩
def kg(m:Mp)(a b addr slot v:yB):Mp:=if addr.size=20/\slot.size=32/\bF v=true then cQ m a {aY m a with ss:=aL (aY m a).ss b (if v.size=0 then⟨#[]⟩ else fg v)} else m
def JP(A:fm)(b:Mp)(addr slot v:yB)(K:Nat)(d:List Nat)(a:List (Nat×Obj))(e:Ending)(w':World):Prop:=∃c:Nat,e=rV (iV .i64 c)/\(addr.size≠20->c=2)/\(addr.size=20->slot.size=32->bF v=true->A.k.ok->c=0)/\SC A (Wm A b) K d a w'
def fP.mono{A b K K' d a e w}(h:fP A b K d a e w)(f:K<=K'):fP A b K' d a e w:=by
 let⟨c,h1,h2,h3⟩:=h;exact⟨c,h1,h2,h3.mono f⟩
def JO{A m K f i w}(h:SC A (Wm A m) K f i w)(addr slot v:yB)(hk:addr.size<=maxLen)(hl:slot.size<=maxLen)(V:v.size<=maxLen)(hN:A.N+K+1500<4000000000):yC 72 #[pV (qA A.sp),sV addr,sV slot,sV v] w λe w'=>JP A (kg m (ag addr) (ag slot) addr slot v) addr slot v (K+1300) f i e w'/\True:=by
 obtain⟨X,_,l,h⟩:=h.nB;have h32:(ag addr).size=32:=dz _;have E5:(ag slot).size=32:=dz _;have T:yH (∀W,yC 104 #[sV v] W λe w'=>e=rV (bV (bF v))/\w'=W):=λW=>tW v V W
 have E1:=aa (h.sum addr hk);have D1:yH (∀W,SC A (aj X) K f i W->yC 93 #[pV (qA A.sp),sV (ag addr)] W λe w'=>j6 (jM A X (ag addr)) e/\SC A (aj X) (K+250) f i w'):=λW l=>uT l _ (by rw[h32];decide)
 have C5:yH (∀g W,SC A (aj X) (K+250) f g W->yC 23 #[sV slot] W λe w'=>e=rV (sV (ag slot))/\SC A (aj X) (K+250) f g w'):=λg W l=>l.sum slot hl
 have D2:yH (∀g W,v.size<=32->SC A (aj X) (K+250) f g W->yC 107 #[sV v] W λe w'=>e=rV (sV (fg v))/\SC A (aj X) (K+250) f g w'):=λg W h32 l=>(Mg W v (by omega)).mono λ_ _⟨h1,h2⟩=>⟨h1,l.below h2⟩
 obtain⟨m1,A7⟩:=yX (cQ m (ag addr) {aY m (ag addr) with ss:=aL (aY m (ag addr)).ss (ag slot) (fg v)});obtain⟨m2,A8⟩:=yX (cQ m (ag addr) {aY m (ag addr) with ss:=aL (aY m (ag addr)).ss (ag slot) ⟨#[]⟩});obtain⟨m',G⟩:∃m',m'=kg m (ag addr) (ag slot) addr slot v:=⟨_,rfl⟩
 rw[<-G];have S:yH (∀g a' W,bF v=true->iZ a'->a'.root.size=32->(A.k.ok->a'=eo (aY m (ag addr)))->SC A (aj X) (K+250) f g W->yC 106 #[pV (qA A.sp),sV (ag addr),cE a',sV (ag slot),sV (fg v)] W λe w'=>fP A m1 (K+1300) f g e w'/\True):=λg a' W V h1 h2 hq o=>by
  obtain⟨c1,c2,_⟩:=qG (mH V);rw[A7];exact(RM o _ h32 a' h1 h2 _ _ (by omega) c1 c2 (λj=>⟨l j,hq j⟩) (by omega)).mono λ_ _⟨h1,_⟩=>⟨h1.mono (by omega),trivial⟩
 have B2:yH (∀g a' W,iZ a'->a'.root.size=32->(A.k.ok->a'=eo (aY m (ag addr))/\(m (ag addr)).isSome=true)->SC A (aj X) (K+250) f g W->yC 108 #[pV (qA A.sp),sV (ag addr),cE a',sV (ag slot)] W λe w'=>fP A m2 (K+1300) f g e w'/\True):=λg a' W h1 h2 hq o=>by
  rw[A8];exact(SP o _ h32 a' h1 h2 _ (by omega) (λj=>⟨l j,hq j⟩) (by omega)).mono λ_ _⟨h1,_⟩=>⟨h1.mono (by omega),trivial⟩
 obtain⟨R,y⟩:=yX (JP A m' addr slot v (K+1300) f i);have E3:yH (∀W,SC A (aj X) (K+1300) f i W->SC A (Wm A m) (K+1300) f i W):=λW o=>o.ev λY _ hY=>by rw[show Y=X from hY];exact l
 have A4:yH (∀c:Nat,¬(addr.size=20/\slot.size=32/\bF v=true)->(addr.size≠20->c=2)->R (rV (i6 c)) w):=λc q h2=>by
  rw[y];refine⟨c,rfl,h2,λa b d=>(q ⟨a,b,d⟩).elim,?_⟩;rw[G];unfold kg;rw[Ui q];exact E3.o _ (h.mono (by omega))
 have A3:yH (∀(c:Nat) P W,addr.size=20->(A.k.ok->c=0)->c≠0->SC A P (K+1300) f i W->R (rV (i6 c)) W):=λc P W h20 q h0 o=>by
  rw[y];exact⟨c,rfl,λh=>absurd h20 h,λ_ _ _=>q,o.ev λ_ _ _ j=>absurd (q j) h0⟩
 have Z:yH (∀(c:Nat) W,addr.size=20->slot.size=32->bF v=true->v.size≠0->(A.k.ok->c=0)->SC A (Wm A m1) (K+1300) f i W->R (rV (i6 c)) W):=λc W h20 h3 h4 h5 q o=>by
  rw[y];refine⟨c,rfl,λh=>absurd h20 h,λ_ _ _=>q,?_⟩;rw[G];unfold kg;rw[Uj ⟨h20,h3,h4⟩,Ui h5,<-A7];exact o
 have A0:yH (∀(c:Nat) W,addr.size=20->slot.size=32->bF v=true->v.size=0->(A.k.ok->c=0)->SC A (Wm A m2) (K+1300) f i W->R (rV (i6 c)) W):=λc W h20 h3 h4 h5 q o=>by
  rw[y];refine⟨c,rfl,λh=>absurd h20 h,λ_ _ _=>q,?_⟩;rw[G];unfold kg;rw[Uj ⟨h20,h3,h4⟩,Uj h5,<-A8];exact o
 have A1:yH (∀W,addr.size=20->slot.size=32->bF v=true->v.size=0->(A.k.ok->false=(m (ag addr)).isSome)->SC A (aj X) (K+1300) f i W->R (rV (i6 (0:Nat))) W):=λW h20 h3 h4 h5 q o=>by
  rw[y];refine⟨0,rfl,λh=>absurd h20 h,λ_ _ _ _=>rfl,?_⟩;rw[G];unfold kg;rw[Uj ⟨h20,h3,h4⟩,Uj h5];refine o.ev λY _ hY j=>?_
  rw[show Y=X from hY];have q:=q j;cases hm:m (ag addr) with
  |none=>
   have e:aY m (ag addr)=lP:=by unfold aY;rw[hm];rfl
   rw[e,show({lP with ss:=aL lP.ss (ag slot) ⟨#[]⟩}:Ac)=lP from rfl,Ed hm];exact l j
  |some a=>rw[hm] at q;cases q
 have B1:yH (∀a u c,jM A X (ag addr) a u c->A.k.ok->c=0/\a=eo (aY m (ag addr))/\u=(m (ag addr)).isSome):=λa u c L j=>by
  obtain⟨e1,e2,e3⟩:=(l j).acc (L j);exact⟨e3,e1,e2⟩
 rw[<-y];have D7:yH (bF v=true->v.size<=32):=mH;clear h h32 E5 l y G A7 A8;obtain⟨Q,C6⟩:=yX (eo (aY m (ag addr)));rw[<-C6] at S B2 B1;clear C6;unfold maxLen at hk hl V;generalize ag addr=HA at*;generalize ag slot=HT at*;generalize fg v=CB at*;by_cases h20:addr.size=20
 .have E4:(addr.size:Int)=20:=by omega
  by_cases U:slot.size=32
  .have E6:(slot.size:Int)=32:=by omega
   cases hnb:bF v with
   |false=>
    rw[hnb] at T;have x:yH (R (rV (i6 (3:Nat))) w):=A4.o 3 (λq=>by have:=q.2.2;rw[hnb] at this;cases this) λh=>absurd h20 h
    clear hnb;go_enter func72,ntmps72
    go_wp2_with fail
    refine(T.o _).mono ?_;rintro e wx⟨rfl,B0⟩;subst B0;go_wp2;go_ret;exact⟨x.o,trivial⟩
   |true=>
    rw[hnb] at T;have C9:=D7.o hnb;have E2:=aa C9;have B7:=A3.o;have B8:=Z.o;have B9:=A0.o;have C0:=A1.o;have C1:=S.o;have A3:yH (∀(c:Nat) P W,(A.k.ok->c=0)->c≠0->SC A P (K+1300) f i W->R (rV (i6 c)) W):=λc P W=>B7 c P W h20
    have Z:yH (v.size≠0->∀(c:Nat) W,(A.k.ok->c=0)->SC A (Wm A m1) (K+1300) f i W->R (rV (i6 c)) W):=λh0 c W=>B8 c W h20 U hnb h0
    have A0:yH (v.size=0->∀(c:Nat) W,(A.k.ok->c=0)->SC A (Wm A m2) (K+1300) f i W->R (rV (i6 c)) W):=λh0 c W=>B9 c W h20 U hnb h0
    have A1:yH (v.size=0->∀W,(A.k.ok->false=(m HA).isSome)->SC A (aj X) (K+1300) f i W->R (rV (i6 (0:Nat))) W):=λh0 W=>C0 W h20 U hnb h0
    have S:yH (∀g a' W,iZ a'->a'.root.size=32->(A.k.ok->a'=Q)->SC A (aj X) (K+250) f g W->yC 106 #[pV (qA A.sp),sV HA,cE a',sV HT,sV CB] W λe w'=>fP A m1 (K+1300) f g e w'/\True):=λg a' W=>C1 g a' W hnb
    clear hnb C9 B7 B8 B9 C0 C1;go_enter func72,ntmps72
    go_wp2_with fail
    refine(T.o _).mono ?_;rintro e wx⟨rfl,B0⟩;subst B0;go_wp2_with fail
    apply E1.m;rintro e w1⟨rfl,C7⟩;have D8:=aa C7;clear C7;go_wp2_with fail
    refine(D1.o _ D8.o).mono ?_;rintro e w2⟨⟨a,u,c,rfl,A9,L,D0⟩,C8⟩;have I:=aa (B1.o a u c D0);clear D0;have C2:yH (c=0->∀g W,SC A (aj X) (K+250) f g W->yC 106 #[pV (qA A.sp),sV HA,cE a,sV HT,sV CB] W λe w'=>fP A m1 (K+1300) f g e w'/\True):=λh0 g W l=>S.o g a W A9 (L h0).1 (λj=>(I.o j).2.1) l
    have B3:yH (c=0->u=true->∀g W,SC A (aj X) (K+250) f g W->yC 108 #[pV (qA A.sp),sV HA,cE a,sV HT] W λe w'=>fP A m2 (K+1300) f g e w'/\True):=λh0 ht g W l=>B2.o g a W A9 (L h0).1 (λj=>⟨(I.o j).2.1,by rw[<-(I.o j).2.2];exact ht⟩) l
    have C3:yH (A.k.ok->c=0/\u=(m HA).isSome):=λj=>⟨(I.o j).1,(I.o j).2.2⟩
    obtain⟨n,p,s,r⟩:=a;have F:=C8.box #[i6 n,sV p,sV s,sV r] 103;obtain⟨t,C⟩:=yX (w2.alloc (.cells #[i6 n,sV p,sV s,sV r] 103));rw[<-C] at F;have E7:=aa F;have C4:yH (SC A (aj X) (K+1300) f i t):=F.unbox.mono (by omega);have E0:yH (c≠0->R (rV (i6 c)) t):=λh0=>A3.o c _ t (λj=>(C3.o j).1) h0 C4.o
    have E:=aa F.drew;obtain⟨⟨k0,k1,k2,k3⟩,_⟩:=F.iT;unfold cE at C2 B3⊢;clear C8 F A9 L;by_cases hc:c=0
    .subst hc;have D6:yH (∀g W,SC A (aj X) (K+250) f g W->yC 106 #[pV (qA A.sp),sV HA,gV #[i6 n,sV p,sV s,sV r],sV HT,sV CB] W λe w'=>fP A m1 (K+1300) f g e w'/\True):=C2.o rfl;have D4:yH (u=true->∀g W,SC A (aj X) (K+250) f g W->yC 108 #[pV (qA A.sp),sV HA,gV #[i6 n,sV p,sV s,sV r],sV HT] W λe w'=>fP A m2 (K+1300) f g e w'/\True):=B3.o rfl;by_cases D:v.size=0
     .have hE:v.toList.isEmpty=true:=by rw[g7];exact D
      have H:=A0.o D;have A2:=aa H;have B5:=A1.o D;have D5:=aa B5;clear H B5 D;cases u with
      |false=>
       have B6:=D5.o t (λj=>(C3.o j).2) C4.o;have x:=aa B6;clear B6;go_wp2;go_ret;(try rw[<-C])
       exact⟨x.o,trivial⟩
      |true=>
       have B4:=D4.o rfl;have D3:=aa B4;clear B4;go_upto_region 13 with fail
       rw[<-C];clear C;go_region_held3 (λw'=>w'.cell? ⟨w2.heap.size,0,none⟩=some (i6 n)/\w'.cell? ⟨w2.heap.size,1,none⟩=some (sV p)/\w'.cell? ⟨w2.heap.size,2,none⟩=some (sV s)/\w'.cell? ⟨w2.heap.size,3,none⟩=some (sV r)) (go_keep) (first| (go_at_call 23;refine(C5.o _ _ E.o).mono ?_;rintro e wa⟨rfl,z⟩;obtain⟨⟨n0,n1,n2,n3⟩,_⟩:=z.iT;have D9:yH (SC A (aj X) (K+250) f ((w2.heap.size,.cells #[i6 n,sV p,sV s,sV r] 103 (0,0))::i) wa):=z;clear z) | (go_at_call 108;refine(D3.o _ _ D9.o).mono ?_;rintro e O⟨⟨J,rfl,M,B⟩,_⟩;obtain⟨⟨p0,p1,p2,p3⟩,_⟩:=B.iT;have A5:yH (R (rV (i6 J)) O):=A2.o J O M B.unbox;clear B M))
       all_goals
        go_wp2;go_ret;exact⟨A5.o,trivial⟩
     have hE:v.toList.isEmpty=false:=by rw[iv];exact D
     have H:=Z.o D;have A2:=aa H;clear D H;go_upto_region 10 with fail
     rw[<-C];clear C;go_region_held3 (λw'=>w'.cell? ⟨w2.heap.size,0,none⟩=some (i6 n)/\w'.cell? ⟨w2.heap.size,1,none⟩=some (sV p)/\w'.cell? ⟨w2.heap.size,2,none⟩=some (sV s)/\w'.cell? ⟨w2.heap.size,3,none⟩=some (sV r)) (go_keep) (first| (go_at_call 23;refine(C5.o _ _ E.o).mono ?_;rintro e wa⟨rfl,z⟩;obtain⟨⟨n0,n1,n2,n3⟩,_⟩:=z.iT;have E:yH (SC A (aj X) (K+250) f ((w2.heap.size,.cells #[i6 n,sV p,sV s,sV r] 103 (0,0))::i) wa):=z;clear z) | (go_at_call 107;refine(D2.o _ _ E2.o E.o).mono ?_;rintro e wd⟨rfl,A6⟩;obtain⟨⟨q0,q1,q2,q3⟩,_⟩:=A6.iT;have E:yH (SC A (aj X) (K+250) f ((w2.heap.size,.cells #[i6 n,sV p,sV s,sV r] 103 (0,0))::i) wd):=A6;clear A6) | (go_at_call 106;refine(D6.o _ _ E.o).mono ?_;rintro e O⟨⟨J,rfl,M,B⟩,_⟩;obtain⟨⟨p0,p1,p2,p3⟩,_⟩:=B.iT;have A5:yH (R (rV (i6 J)) O):=A2.o J O M B.unbox;clear B M))
     all_goals
      go_wp2;go_ret;exact⟨A5.o,trivial⟩
    have E8:((c:Int) != 0)=true:=by simp;omega
    have x:=aa (E0.o hc);clear hc;go_wp2;go_ret;(try rw[<-C])
    exact⟨x.o,trivial⟩
  have E6:¬(slot.size:Int)=32:=by omega
  have x:yH (R (rV (i6 (2:Nat))) w):=A4.o 2 (λq=>U q.2.1) λ_=>rfl
  go_enter func72,ntmps72
  go_wp2;go_ret;exact⟨x.o,trivial⟩
 have E4:¬(addr.size:Int)=20:=by omega
 have x:yH (R (rV (i6 (2:Nat))) w):=A4.o 2 (λq=>h20 q.1) λ_=>rfl
 go_enter func72,ntmps72
 go_wp2;go_ret;exact⟨x.o,trivial⟩
end Go.Proofs.YteaodagofkcgbaaGreatDoor
