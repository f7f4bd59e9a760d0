import Derived.Test.YtmafnmpeehmndaaGreatDoorZ
open Go.Proofs.Tryz
open Go.Proofs.Tryz renaming prog→yP
open Go.Value renaming string→sV,pointer→pV,int→iV,slice→lV,bool→bV,tuple→tV,agg→gV
open Go.Ending renaming returned→rV
namespace Go.Proofs.YtmafnmpeehmndaaGreatDoor
open Go.RowKit
set_option maxRecDepth 100000
set_option maxHeartbeats 0
set_option linter.all false
def mO(A:fm)(Z:Gh)(K:Nat)(d:List Nat)(b:List (Nat×Obj))(e:Ending)(w':World):Prop:=∃(c:Nat) (a:Gh),e=rV (iV .i64 c)/\(A.k.ok->c=0/\a=Z)/\SC A (aj a) K d b w'
def rm{A X K l j w}(h:SC A (aj X) K l j w)(m:yB)(hk:m.size=32)(a:Acc)(L:iZ a)(hN:A.N+K+250<4000000000):
 yC 102 #[pV (qA A.sp),sV m,cE a] w fun e w'=>mO A (dT A.tw X m a) (K+250) l j e w'/\True:=by
 obtain⟨Z,E⟩:∃Z,Z=dT A.tw X m a:=⟨_,rfl⟩
 rw[<-E];have A6:yH (∀W,yC 129 #[cE a] W fun e w'=>e=rV (sV (ir a))/\yW W w'):=fun W=>Nh W a L
 obtain⟨S,T,_⟩:=tJ L;obtain⟨n,d,i,f⟩:=a;obtain⟨x,J⟩:∃x:Gh,x=⟨aE X.g A.tw (aL (X.g A.tw) m (ir ⟨n,d,i,f⟩)),X.o⟩:=⟨_,rfl⟩
 obtain⟨q,I⟩:∃q:Gh,q=⟨aE X.g A.tw (aL (X.g A.tw) m ⟨#[]⟩),X.o⟩:=⟨_,rfl⟩
 obtain⟨u,H⟩:∃u:Gh,u=⟨q.g,fun y=>if y=m then none else q.o y⟩:=⟨_,rfl⟩
 have A9:yH (ki n 0 d ⟨#[]⟩ i (ae bM) f cZ=false->x=Z):=fun h=>by
  rw[E,J];unfold dT;rw[Ui (by show ¬ki n 0 d ⟨#[]⟩ i (ae bM) f cZ=true;rw[h];simp)]
 have A8:yH (ki n 0 d ⟨#[]⟩ i (ae bM) f cZ=true->u=Z):=fun h=>by
  rw[E,H,I];unfold dT;rw[Uj (show mI ⟨n,d,i,f⟩=true from h)]
 have z:=h.box #[i6 n,sV d,sV i,sV f] 103;obtain⟨B,G⟩:∃B,B=w.alloc (.cells #[i6 n,sV d,sV i,sV f] 103):=⟨_,rfl⟩
 rw[<-G] at z;have B0:=aa z;have HO:yH (yC 123 #[] B.drew fun e w'=>e=rV (gV #[i6 0,sV ⟨#[]⟩,sV (ae bM),sV cZ])/\SC A (aj X) K l ((w.heap.size,.cells #[i6 n,sV d,sV i,sV f] 103 (0,0))::j) w'):=(vK B.drew z.drew.bz).mono fun e w' ⟨h1,h2⟩=>⟨h1,z.drew.below h2⟩
 have A4:yH (∀W,SC A (aj X) K l ((w.heap.size,.cells #[i6 n,sV d,sV i,sV f] 103 (0,0))::j) W->yC 30 #[pV (qA A.tw),sV m,sV (ir ⟨n,d,i,f⟩)] W fun e w'=>∃c:Nat,e=rV (i6 c)/\(A.k.ok->c=0)/\SC A (aj x) (K+250) l ((w.heap.size,.cells #[i6 n,sV d,sV i,sV f] 103 (0,0))::j) w'):=fun W s=>by rw[J];exact s.put (.inl rfl) m _ (by omega) S T
 have A1:yH (∀W c,SC A (aj X) K l ((w.heap.size,.cells c 103 (0,0))::j) W->yC 34 #[pV (qA A.tw),sV m] W fun e w'=>∃(b:Bool) (c:Nat),e=rV (tV #[bV b,i6 c])/\(A.k.ok->c=0)/\SC A (aj q) (K+250) l j w'):=fun W c s=>by
  rw[I];exact(s.del (.inl rfl) m (by omega)).mono fun e w' ⟨b,c,h1,hq,h2⟩=>⟨b,c,h1,hq,h2.unbox⟩
 have A0:yH (∀W,SC A (aj q) (K+250) l j W->yC 130 #[pV (qA A.sp),sV m] W fun e w'=>e=rV (tV #[])/\SC A (aj u) (K+250) l j w'):=fun W s=>by rw[H];exact s.Bu m (by omega) (by omega)
 have A5:yH (∀W,SC A (aj X) K l ((w.heap.size,.cells #[i6 n,sV d,sV i,sV f] 103 (0,0))::j) W->yC 129 #[gV #[i6 n,sV d,sV i,sV f]] W.drew fun e w'=>e=rV (sV (ir ⟨n,d,i,f⟩))/\SC A (aj X) K l ((w.heap.size,.cells #[i6 n,sV d,sV i,sV f] 103 (0,0))::j) w'):=fun W s=>(A6.o W.drew).mono fun e w' ⟨h1,h2⟩=>⟨h1,s.drew.below h2⟩
 obtain⟨⟨k0,k1,k2,k3⟩,_⟩:=z.iT;clear J I H E S T hk;generalize ir ⟨n,d,i,f⟩=RB at*;generalize ae bM=ER at*;generalize cZ=NC at*;unfold cE;have U:∀w,(binOp .neq 103 (gV #[i6 n,sV d,sV i,sV f]) (gV #[i6 0,sV ⟨#[]⟩,sV ER,sV NC])).run yP w=.ok (bV (!ki n 0 d ⟨#[]⟩ i ER f NC)) w:=fun w=>Ej w _ _ _ _ _ _ _ _
 generalize ki n 0 d ⟨#[]⟩ i ER f NC=SA at*;clear h z L;go_enter func102,ntmps102
 go_upto_region 1 with fail
 rw[<-G];clear G;go_cut [11] (fun v wx=>v=bV (!SA)/\yH (SC A (aj X) K l ((w.heap.size,.cells #[i6 n,sV d,sV i,sV f] 103 (0,0))::j) wx))
 case first=>
  go_region_held3 (fun w'=>w'.cell? ⟨w.heap.size,0,none⟩=some (i6 n)/\w'.cell? ⟨w.heap.size,1,none⟩=some (sV d)/\w'.cell? ⟨w.heap.size,2,none⟩=some (sV i)/\w'.cell? ⟨w.heap.size,3,none⟩=some (sV f)) (go_keep) ((go_at_call 123;refine HO.m ?_;rintro e w2 ⟨rfl,p⟩;obtain⟨⟨m0,m1,m2,m3⟩,_⟩:=p.iT;have t:yH (SC A (aj X) K l ((w.heap.size,.cells #[i6 n,sV d,sV i,sV f] 103 (0,0))::j) w2):=p;clear p))
  all_goals
   go_wp2
   go_meet
   exact⟨rfl,t⟩
 case rest=>
  obtain⟨rfl,D⟩:=hcut;obtain⟨c0,c1⟩:=D.o.cells;cases SA with
  |false=>
   obtain⟨⟨m0,m1,m2,m3⟩,_⟩:=D.o.iT;have P:=A5.o wc D.o;have A7:=aa P;clear P U k0 k1 k2 k3;go_upto_region 2 with fail
   go_region_held3 (fun w'=>w'.cell? ⟨A.sp,1,none⟩=some (pV (qA A.tw))/\w'.cell? ⟨w.heap.size,0,none⟩=some (i6 n)/\w'.cell? ⟨w.heap.size,1,none⟩=some (sV d)/\w'.cell? ⟨w.heap.size,2,none⟩=some (sV i)/\w'.cell? ⟨w.heap.size,3,none⟩=some (sV f)) (go_keep) (first| (go_at_call 129;refine A7.m ?_;rintro e w2 ⟨rfl,p⟩;obtain⟨⟨n0,n1,n2,n3⟩,_⟩:=p.iT;obtain⟨_,c12⟩:=p.cells;have t:yH (SC A (aj X) K l ((w.heap.size,.cells #[i6 n,sV d,sV i,sV f] 103 (0,0))::j) w2):=p;clear p) | (go_at_call 30;refine(A4.o _ t.o).mono ?_;rintro e w3 ⟨c,rfl,Q,r⟩;have V:yH (A.k.ok->c=0):=Q;clear Q;obtain⟨⟨p0,p1,p2,p3⟩,_⟩:=r.iT;obtain⟨_,c13⟩:=r.cells;have F:yH (SC A (aj x) (K+250) l ((w.heap.size,.cells #[i6 n,sV d,sV i,sV f] 103 (0,0))::j) w3):=r;clear r))
   all_goals
    go_wp2
    go_ret
    exact⟨⟨c,x,rfl,fun C=>⟨V.o C,A9.o (by trivial)⟩,F.o.unbox⟩,trivial⟩
  |true=>
   have O:=A1.o wc _ D.o;have A2:=aa O;clear O U k0 k1 k2 k3;go_wp2_with fail
   refine A2.m ?_;rintro e w2 ⟨b,c,rfl,R,p⟩;have t:=aa p;have Y:=aa R;clear p R c0 c1;by_cases M:c=0
   ·subst M;go_wp2_with fail
    refine(A0.o _ t.o).mono ?_;rintro e w3 ⟨rfl,r⟩;have F:=aa r;clear r;go_wp2
    go_ret
    exact⟨⟨0,u,rfl,fun _=>⟨rfl,A8.o (by trivial)⟩,F.o⟩,trivial⟩
   ·have B1:((c:Int) != 0)=true:=by simp;omega
    have A3:yH (A.k.ok->False):=fun C=>M (Y.o C)
    clear M;go_wp2
    go_ret
    exact⟨⟨c,q,rfl,fun C=>(A3.o C).elim,t.o⟩,trivial⟩
def Cn(A:fm)(X:Gh)(d addr:yB)(b:Bool)(e:Ending):Prop:=∃(h:yB) (a:Acc) (c:Nat),e=rV (tV #[sV h,cE a,iV .i64 c])/\iZ a/\(c=0->h=d/\b=true/\addr.size=20/\a.root.size=32/\a.code.size=32)/\(addr.size≠20->c=2)/\(addr.size=20->b=false->c=3)/\(addr.size=20->b=true->A.k.ok->∃th,j7 (bD (X.g A.tw) d) a th c)
def SC.sum{A P K b a w}(h:SC A P K b a w)(s:yB)(hs:s.size<=maxLen):yC 23 #[sV s] w fun e w'=>e=rV (sV (ag s))/\SC A P K b a w':=
 (ja s hs w h.bz).mono fun _ _ ⟨h1,h2⟩=>⟨h1,h.below h2⟩
def vF{A X K f d w}(h:SC A (aj X) K f d w)(addr:yB)(B:addr.size<=maxLen)(i:Bool):
 yC 101 #[pV (qA A.sp),sV addr,bV i] w fun e w'=>Cn A X (ag addr) addr i e/\SC A (aj X) (K+250) f d w':=by
 have g:=h.box #[i6 0,sV ⟨#[]⟩,sV ⟨#[]⟩,sV ⟨#[]⟩] 103;obtain⟨j,k⟩:=yX (w.alloc (.cells #[i6 0,sV ⟨#[]⟩,sV ⟨#[]⟩,sV ⟨#[]⟩] 103))
 rw[<-k] at g;have l:yH (∀b∈d,b.1≠w.heap.size):=h.fresh;have s:yH (SC A (aj X) K f ((w.heap.size,.cells #[i6 0,sV ⟨#[]⟩,sV ⟨#[]⟩,sV ⟨#[]⟩] 103 (0,0))::d) j):=g;have H:yH (yC 23 #[sV addr] j fun e w'=>e=rV (sV (ag addr))/\SC A (aj X) K f ((w.heap.size,.cells #[i6 0,sV ⟨#[]⟩,sV ⟨#[]⟩,sV ⟨#[]⟩] 103 (0,0))::d) w'):=g.sum addr B;have h32:(ag addr).size=32:=dz _;have F:yH (∀W,SC A (aj X) K f ((w.heap.size,.cells #[i6 0,sV ⟨#[]⟩,sV ⟨#[]⟩,sV ⟨#[]⟩] 103 (0,0))::d) W->yC 93 #[pV (qA A.sp),sV (ag addr)] W fun e w'=>j6 (jM A X (ag addr)) e/\SC A (aj X) (K+250) f ((w.heap.size,.cells #[i6 0,sV ⟨#[]⟩,sV ⟨#[]⟩,sV ⟨#[]⟩] 103 (0,0))::d) w'):=fun W o=>uT o _ (by rw[h32];decide)
 have y:yH (∀c:Nat,c≠0->(addr.size≠20->c=2)->(addr.size=20->i=false->c=3)->(addr.size=20->i=true->False)->Cn A X (ag addr) addr i (rV (tV #[sV ⟨#[]⟩,gV #[i6 0,sV ⟨#[]⟩,sV ⟨#[]⟩,sV ⟨#[]⟩],i6 c]))):=fun c M q1 q2 q3=>⟨⟨#[]⟩,mT,c,rfl,vl,fun h=>absurd h M,q1,q2,fun a b=>(q3 a b).elim⟩
 have u:yH (∀K',SC A (aj X) K f ((w.heap.size,.cells #[i6 0,sV ⟨#[]⟩,sV ⟨#[]⟩,sV ⟨#[]⟩] 103 (0,0))::d) K'->SC A (aj X) (K+250) f d ((((K'.setCell ⟨w.heap.size,0,none⟩ (i6 0)).setCell ⟨w.heap.size,1,none⟩ (sV ⟨#[]⟩)).setCell ⟨w.heap.size,2,none⟩ (sV ⟨#[]⟩)).setCell ⟨w.heap.size,3,none⟩ (sV ⟨#[]⟩))):=fun W o=>((o.cJ l.o _ _ _ _).unbox).mono (by omega)
 have x:yH (SC A (aj X) (K+250) f d j):=g.unbox.mono (by omega);obtain⟨⟨k0,k1,k2,k3⟩,f0,f1,f2,f3⟩:=g.iT;clear h g h32;unfold maxLen at B;generalize ag addr=HA at*;by_cases h20:addr.size=20
 ·have L:(addr.size:Int)=20:=by omega
  cases i with
  |false=>
   go_enter func101,ntmps101
   go_wp2
   (try rw[<-k])
   exact UB (v:=tV #[sV ⟨#[]⟩,gV #[i6 0,sV ⟨#[]⟩,sV ⟨#[]⟩,sV ⟨#[]⟩],i6 3]) (by simp[results,results101,go_sem,k0,k1,k2,k3]) rfl ⟨y.o 3 (by decide) (fun h=>absurd h20 h) (fun _ _=>rfl) (fun _ h=>by cases h),by first|exact x.o|exact u.o _ s.o⟩
  |true=>
   clear k0 k1 k2 k3 f0 f1 f2 f3;go_enter func101,ntmps101
   go_wp2_with fail
   rw[<-k];clear k;refine H.m ?_;rintro e w1 ⟨rfl,z⟩;have G:yH (SC A (aj X) K f ((w.heap.size,.cells #[i6 0,sV ⟨#[]⟩,sV ⟨#[]⟩,sV ⟨#[]⟩] 103 (0,0))::d) w1):=z;clear z;go_wp2_with fail
   refine(F.o _ G.o).mono ?_;rintro e w2 ⟨⟨a,P,c,rfl,C,E,D⟩,m⟩;have t:yH (SC A (aj X) (K+250) f ((w.heap.size,.cells #[i6 0,sV ⟨#[]⟩,sV ⟨#[]⟩,sV ⟨#[]⟩] 103 (0,0))::d) w2):=m;obtain⟨⟨k0,k1,k2,k3⟩,f0,f1,f2,f3⟩:=m.iT;have N:w.heap.size<w2.heap.size:=UE w2 _ k0;have r:yH (Cn A X HA addr true (rV (tV #[sV HA,cE a,i6 c]))):=⟨HA,a,c,rfl,C,fun h=>⟨rfl,rfl,h20,E h⟩,fun h=>absurd h20 h,(fun _ h=>by cases h),fun _ _ ok=>⟨P,D ok⟩⟩
   obtain⟨n,I,O,J⟩:=a;unfold cE at r⊢;have p:yH (∀cs y0 y1 y2 y3,SC A (aj X) (K+250) f d (((((w2.alloc (.cells cs 103)).setCell ⟨w.heap.size,0,none⟩ y0).setCell ⟨w.heap.size,1,none⟩ y1).setCell ⟨w.heap.size,2,none⟩ y2).setCell ⟨w.heap.size,3,none⟩ y3)):=fun cs y0 y1 y2 y3=>((t.o.below ((Un _ _).alloc (Ug _) _)).cJ l.o _ _ _ _).unbox
   have q:yH (∀cs y0 y1 y2 y3,SC A (aj X) (K+250) f d (((((w2.setCell ⟨w.heap.size,0,none⟩ y0).setCell ⟨w.heap.size,1,none⟩ y1).setCell ⟨w.heap.size,2,none⟩ y2).setCell ⟨w.heap.size,3,none⟩ y3).alloc (.cells cs 103))):=fun cs y0 y1 y2 y3=>((t.o.cJ l.o y0 y1 y2 y3).unbox).below ((Un _ _).alloc (Ug _) _)
   clear m C E D;go_upto_region 7 with fail
   go_region
   all_goals
    go_wp2
    exact UB (v:=tV #[sV HA,gV #[i6 n,sV I,sV O,sV J],i6 c]) (by simp[results,results101,go_sem,k0,k1,k2,k3,N]) rfl ⟨r.o,by first|exact(p.o _ _ _ _ _).drew|exact(q.o _ _ _ _ _).drew|exact p.o _ _ _ _ _ |exact q.o _ _ _ _ _⟩
 ·have L:¬(addr.size:Int)=20:=by omega
  go_enter func101,ntmps101
  go_wp2
  (try rw[<-k])
  exact UB (v:=tV #[sV ⟨#[]⟩,gV #[i6 0,sV ⟨#[]⟩,sV ⟨#[]⟩,sV ⟨#[]⟩],i6 2]) (by simp[results,results101,go_sem,k0,k1,k2,k3]) rfl ⟨y.o 2 (by decide) (fun _=>rfl) (fun h=>absurd h h20) (fun h=>absurd h h20),by first|exact x.o|exact u.o _ s.o⟩
end Go.Proofs.YtmafnmpeehmndaaGreatDoor
