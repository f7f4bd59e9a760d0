import Derived.Test.YteaodagofkcgbaaGreatDoorZc
open Go.Proofs.Tryz
open Go.Proofs.Tryz renaming prog→yP
open Go.Value renaming string→sV,pointer→pV,int→iV,slice→lV,bool→bV,tuple→tV,agg→gV
open Go.Ending renaming returned→rV
namespace Go.Proofs.YteaodagofkcgbaaGreatDoor
open Go.RowKit
set_option maxRecDepth 100000
set_option maxHeartbeats 0
set_option linter.all false
def MT{l w R L G}(h:dh l w R L G)(k x y z:Int)(kq:yH (k=31\/k=32))(hy:Rg y)(s t:yB)(hs:s.size<=1073741824)(ht:t.size<=1073741824)(hN:R.N+9000<4000000000)(hm:bA R.m+2<1000000000)(A1:s∈R.seen)(C1:ag t∈R.seen):yC 28 #[pV (some ⟨R.rb,0,none⟩),jb k x y z s t] w λe w'=>e=rV (bV true)/\eY l w R L G 5000 w':=by
 have J:=h.start.box #[i6 k,i6 x,i6 y,i6 z,sV s,sV t] 33;obtain⟨C,A7⟩:=yX (w.alloc (.cells #[i6 k,i6 x,i6 y,i6 z,sV s,sV t] 33));rw[<-A7] at J;obtain⟨A,H⟩:=yX (R.arg l w L G);have A2:A.sp=R.sp:=by rw[H];rfl
 have E0:A.N=R.N:=by rw[H];rfl
 have C2:A.w=w:=by rw[H];rfl
 rw[<-H] at J;obtain⟨E,Q⟩:=yX (Wm A (bG R.m));rw[<-Q] at J;have G0:yH (SC A E 0 [] [(w.heap.size,.cells #[i6 k,i6 x,i6 y,i6 z,sV s,sV t] 33 (0,0))] C):=J;have D8:yH (SC A E 0 [] [(w.heap.size,.cells #[i6 k,i6 x,i6 y,i6 z,sV s,sV t] 33 (0,0))] C.drew):=J.drew;have D5:yH (SC A E 0 [] [(C.heap.size,.cells #[sV ⟨#[]⟩,i6 0,sV ⟨#[]⟩,sV ⟨#[]⟩,lV none 0 0] 107 (0,0)),(w.heap.size,.cells #[i6 k,i6 x,i6 y,i6 z,sV s,sV t] 33 (0,0))] (C.alloc (.cells #[sV ⟨#[]⟩,i6 0,sV ⟨#[]⟩,sV ⟨#[]⟩,lV none 0 0] 107)).drew):=(J.box _ _).drew;have C9:C.heap.size=w.heap.size+1:=by rw[A7];simp
 have C0:yH (C.heap.size=w.heap.size+1):=C9;clear C9;have Z:xZ A R.rb R.tt R.mv R.bv R.sv R.yes R.m R.base R.seen:=by rw[H];exact h.facts
 have V:yH (∀P K M W,SC A P K [] M W->yC 52 #[R.mv,sV s] W λe w'=>e=rV (tV #[iR (bT R.m s).1,bV (bT R.m s).2])/\SC A P K [] M w'):=λP K M W q=>q.find (Z.cells _ _ _ _ _ q).2.1 Z.nm s
 obtain⟨⟨_,_,c2,_⟩,C4,_⟩:=Z.cells _ _ _ _ _ J;obtain⟨ma,mc,C8⟩:=C4.form;have A8:sY C w.heap.size 33 (i6 k) (i6 x) (i6 y) (i6 z) (sV s) (sV t):=J.at_;obtain⟨o0,o1,o2,o3,o4,o5⟩:=A8.cells;have E4:w.heap.size<C.heap.size:=UE C _ o0;have E3:R.rb<C.heap.size:=UE C _ c2;rw[C8] at c2 V;have G2:yH (iR (bT R.m s).1=iR (bT R.m s).1):=rfl;obtain⟨F,I⟩:=yX ((bT R.m s).1);rw[<-I] at V;obtain⟨f,D,B,r,j,o,u⟩:=F;unfold iR aH.sv at V;simp only at V;have B6:=Ik (m:=R.m) (a:=s);rw[<-I] at B6;have T:f=s:=B6;have B5:=Ii (a:=s) h.y.lm;rw[<-I] at B5;have B0:=II (m:=R.m) (a:=s);rw[<-I] at B0;simp only at B0;have A9:∀P K M W,SC A P K [] M W->jK W ⟨f,D,B,r,j,o,u⟩:=λP K M W q=>by
  have:=qy (addr:=s) (Z.cells _ _ _ _ _ q).2.1 hs;rw[<-I] at this;exact this
 have B8:yH (∀P (er d n':Int) (b' c':yB) p W,Rg n'->b'.size<=1073741824->c'.size<=1073741824->lC R G P er d ⟨f,n',b',c',j,o,u⟩->SC A P 500 [] p W->yC 65 #[pV (some ⟨R.rb,0,none⟩),i6 er,i6 d,gV #[sV f,i6 n',sV b',sV c',lV j u.length o]] W λe w'=>e=rV (bV true)/\eY l w R L G 5000 w'):=λP er d n' b' c' p W h1 h2 h3 hQ q=>by
  have k0:=A9 _ _ _ _ q;rw[H] at q;refine(vV h q er d ⟨f,n',b',c',j,o,u⟩ ⟨k0.addr,h1,h2,h3,k0.at_,k0.len,k0.small⟩ (λg hg=>.inl ⟨?_,B5 g hg⟩) ?_ (by show f∈_;rw[T];exact A1) hQ (by omega) hm).mono λ_ _⟨h1,h2⟩=>⟨h1,h2.mono (by omega)⟩
  .have k1:=qy (addr:=s) h.y.pm hs;rw[<-I] at k1;exact(k1.at_.lt g hg).2
  show u.length<=(bT R.m f).1.az.length+1;rw[T,<-I];show u.length<=u.length+1;omega
 have A4:R.de->s.size=20->iz R.seen ⟨f,D,B,r,j,o,u⟩/\dU ⟨f,D,B,r,j,o,u⟩=aY (bG R.m) (ag s):=λU h20=>by
  have:=Ij h U h20 A1;rw[<-I] at this;exact this
 obtain⟨Y,C5⟩:=yX (Wm A (dO (bG R.m) s (decide (0<=y)) λb=>{b with n:=y.toNat}));obtain⟨P2,C6⟩:=yX (Wm A (dO (bG R.m) s (bF t) λb=>{b with aI:=t}));obtain⟨P3,C7⟩:=yX (Wm A (dO (bG R.m) s true λb=>{b with code:=ag t}));have D2:yH (∀p W,SC A E 0 [] p W->yC 64 #[pV (some ⟨R.sp,0,none⟩),sV s,i6 y] W λe w'=>(∃c:Nat,e=rV (i6 c)/\∀d:Int,(s.size≠20->d=2)->(s.size=20->¬0<=y->d=3)->(s.size=20->0<=y->d=0)->lC R G Y c d ⟨f,y,B,r,j,o,u⟩)/\SC A Y 500 [] p w'):=λp W q=>by
  rw[Q] at q;rw[C5];have:=za q s (by unfold maxLen;omega) y hy (by omega);rw[A2] at this;apply this.mono;rintro e w'⟨⟨c,h1,q1,q2,q3,h4⟩,_⟩;refine⟨⟨c,h1,λd w1 w2 w3=>?_⟩,h4⟩;rw[H] at q3⊢;exact rT h T q1 q2 q3 w1 (λa b=>w2 a (of_decide_eq_false b)) (λa b=>w3 a (of_decide_eq_true b)) λh20 hg U=>by
   obtain⟨k1,k2⟩:=A4 U h20;refine⟨⟨k1.len,k1.addr,⟨of_decide_eq_true hg,by have:=hy.2;show y<_;omega⟩,k1.aI,k1.code,k1.once,k1.slot,k1.full⟩,?_⟩;rw[<-k2];rfl
 have D3:yH (∀p W,SC A E 0 [] p W->yC 67 #[pV (some ⟨R.sp,0,none⟩),sV s,sV t] W λe w'=>(∃c:Nat,e=rV (i6 c)/\∀d:Int,(s.size≠20->d=2)->(s.size=20->bF t=false->d=3)->(s.size=20->bF t=true->d=0)->lC R G P2 c d ⟨f,D,t,r,j,o,u⟩)/\SC A P2 500 [] p w'):=λp W q=>by
  rw[Q] at q;rw[C6];have:=zc q s (by unfold maxLen;omega) t (by unfold maxLen;omega) (by omega);rw[A2] at this;apply this.mono;rintro e w'⟨⟨c,h1,q1,q2,q3,h4⟩,_⟩;refine⟨⟨c,h1,λd w1 w2 w3=>?_⟩,h4⟩;rw[H] at q3⊢;exact rT h T q1 q2 q3 w1 w2 w3 λh20 hg U=>by
   obtain⟨k1,k2⟩:=A4 U h20;refine⟨⟨k1.len,k1.addr,k1.n,hg,k1.code,k1.once,k1.slot,k1.full⟩,?_⟩;rw[<-k2];rfl
 have F6:yH (∀p W,SC A E 0 [] p W->yC 68 #[pV (some ⟨R.sp,0,none⟩),sV s,sV (ag t)] W λe w'=>(∃c:Nat,e=rV (i6 c)/\∀d:Int,(s.size≠20->d=2)->(s.size=20->d=0)->lC R G P3 c d ⟨f,D,B,ag t,j,o,u⟩)/\SC A P3 500 [] p w'):=λp W q=>by
  rw[Q] at q;rw[C7];have:=zb q s (by unfold maxLen;omega) (ag t) (dz _) (by omega);rw[A2] at this;apply this.mono;rintro e w'⟨⟨c,h1,q1,q2,q3,h4⟩,_⟩;refine⟨⟨c,h1,λd w1 w3=>?_⟩,h4⟩;rw[H] at q3⊢;exact rT h T q1 q2 q3 w1 (λ_ b=>by cases b) (λa _=>w3 a) λh20 _ U=>by
   obtain⟨k1,k2⟩:=A4 U h20;refine⟨⟨k1.len,k1.addr,k1.n,k1.aI,dz _,k1.once,k1.slot,k1.full⟩,?_⟩;rw[<-k2];rfl
 have D1:yH (∀W,yC 66 #[sV t] W λe w'=>e=rV (bV (bF t))/\w'=W):=λW=>Gr t (by unfold maxLen;omega) W
 have G1:yH (∀P K p W,SC A P K [] p W->yC 23 #[sV t] W λe w'=>e=rV (sV (ag t))/\SC A P K [] p w'):=λP K p W q=>q.sum t (by unfold maxLen;omega)
 have F4:yH ((ag t).size<=1073741824):=by rw[show(ag t).size=32 from dz _];show _<=_;decide
 have F3:yH (∀(d:Int) p W,(s.size≠20->d=2)->(s.size=20->d=0)->SC A E 0 [] p W->yC 69 #[pV (some ⟨R.rb,0,none⟩),sV s,i6 d] W λe w'=>e=rV (bV true)/\eY l w R L G 5000 w'):=λd p W w1 w2 q=>by
  rw[Q,H] at q;exact(Eo h q s hs d w2 w1 A1 (by omega) hm).mono λ_ _⟨h1,h2⟩=>⟨h1,h2.mono (by omega)⟩
 have D0:yH (∀P K p W,SC A P K [] p W->yc W R.rb 1 (pV (some ⟨R.sp,0,none⟩))):=λP K p W q=>by
  have:=(Z.cells _ _ _ _ _ q).1.2.1;rw[A2] at this;exact this
 have A6:yH (Rg D/\B.size<=1073741824/\r.size<=1073741824):=by have k0:=A9 _ _ _ _ J;exact⟨k0.n,k0.aI,k0.code⟩
 have B2:yH (f=s/\(bT R.m s).1=⟨f,D,B,r,j,o,u⟩/\u.length<=bA R.m):=⟨T,I.symm,B0⟩
 unfold jb;have F2:yH (R.de->s.size=20->iz R.seen ⟨f,D,B,r,j,o,u⟩/\dU ⟨f,D,B,r,j,o,u⟩=aY (bG R.m) (ag s)):=A4;have F9:yH (E=Wm A (bG R.m)):=Q;have E9:yH (s∈R.seen/\ag t∈R.seen):=⟨A1,C1⟩
 clear T B6 I B0 A4 Q C5 C6 C7 A1 C1;generalize hXL:u.length=XL at*;generalize hMN:R.m.length=MN at*;have F1:yH (f=s/\(bT R.m s).1=⟨f,D,B,r,j,o,u⟩/\u.length=XL/\u.length<=bA R.m):=⟨B2.o.1,B2.o.2.1,hXL,by rw[hXL];exact B2.o.2.2⟩
 clear hXL hMN;go_enter func28,ntmps28
 go_upto_region 1 with fail
 rw[<-A7];clear A7;go_cut [5] (λv wx=>∃i:Nat,v=pV (some ⟨i,0,none⟩)/\yH (SC A E 0 [] [(i,.cells #[sV f,i6 D,sV B,sV r,lV j XL o] 107 (0,0)),(w.heap.size,.cells #[i6 k,i6 x,i6 y,i6 z,sV s,sV t] 33 (0,0))] wx)/\yH (w.heap.size≠i))
 .go_region_with (first| (go_at_call 52;refine(V.o _ _ _ _ D8.o).mono ?_;rintro e w2⟨rfl,S⟩;have B7:yH (∃i:Nat,i=w2.heap.size/\SC A E 0 [] [(i,.cells #[sV f,i6 D,sV B,sV r,lV j XL o] 107 (0,0)),(w.heap.size,.cells #[i6 k,i6 x,i6 y,i6 z,sV s,sV t] 33 (0,0))] (w2.alloc (.cells #[sV f,i6 D,sV B,sV r,lV j XL o] 107))/\w.heap.size≠i):=⟨_,rfl,S.box _ _,S.fresh _ (Uk ..)⟩;clear S) | (go_at_call 52;refine(V.o _ _ _ _ D5.o).mono ?_;rintro e w2⟨rfl,S⟩;have C3:jt w2 C.heap.size 107 (sV ⟨#[]⟩) (i6 0) (sV ⟨#[]⟩) (sV ⟨#[]⟩) (lV none 0 0):=S.at_;obtain⟨⟨z0,z1,z2,z3,z4⟩,f0,f1,f2,f3,f4⟩:=C3.cells;have B7:yH (∃i:Nat,i=C.heap.size/\SC A E 0 [] [(i,.cells #[sV f,i6 D,sV B,sV r,lV j XL o] 107 (0,0)),(w.heap.size,.cells #[i6 k,i6 x,i6 y,i6 z,sV s,sV t] 33 (0,0))] (((((w2.setCell ⟨C.heap.size,0,none⟩ (sV f)).setCell ⟨C.heap.size,1,none⟩ (i6 D)).setCell ⟨C.heap.size,2,none⟩ (sV B)).setCell ⟨C.heap.size,3,none⟩ (sV r)).setCell ⟨C.heap.size,4,none⟩ (lV j XL o))/\w.heap.size≠i):=⟨_,rfl,SC.Ef S (by have:=C0.o;omega),by have:=C0.o;omega⟩;clear S C3))
  all_goals
   go_wp2;go_meet;obtain⟨i,rfl,q1,q2⟩:=B7.o;exact⟨_,rfl,q1,q2⟩
 obtain⟨i,rfl,X,B9⟩:=hcut;have B1:∀b∈[((w.heap.size,Obj.cells #[i6 k,i6 x,i6 y,i6 z,sV s,sV t] 33 (0,0)):Nat×Obj)],b.1≠i:=λb E1=>by rw[Uo.1 E1];exact B9.o
 have O:jt wc i 107 (sV f) (i6 D) (sV B) (sV r) (lV j XL o):=X.o.at_;have A8:sY wc w.heap.size 33 (i6 k) (i6 x) (i6 y) (i6 z) (sV s) (sV t):=(X.o.held _ (Ul _ (Uk ..))).1;obtain⟨⟨q0,q1,q2,q3,q4⟩,g0,g1,g2,g3,g4⟩:=O.cells;obtain⟨p0,p1,p2,p3,p4,p5⟩:=A8.cells;have d1:=D0.o _ _ _ _ X.o;have G3:w.heap.size≠i:=B9.o;have E2:w.heap.size<=i:=by have:=(X.o.held _ (Uk ..)).2;rw[C2] at this;exact this
 have E5:=h.y.jm;have G4:R.rb≠i:=by omega
 have F7:yH (∀b∈[((w.heap.size,Obj.cells #[i6 k,i6 x,i6 y,i6 z,sV s,sV t] 33 (0,0)):Nat×Obj)],b.1≠i):=B1;have D7:yH (SC A E 0 [] [(i,.cells #[sV f,i6 y,sV B,sV r,lV j XL o] 107 (0,0)),(w.heap.size,.cells #[i6 k,i6 x,i6 y,i6 z,sV s,sV t] 33 (0,0))] (wc.setCell ⟨i,1,none⟩ (i6 y)).drew):=(X.o.mh B1 (i6 y) 1).drew;have D6:yH (SC A E 0 [] [(i,.cells #[sV f,i6 D,sV t,sV r,lV j XL o] 107 (0,0)),(w.heap.size,.cells #[i6 k,i6 x,i6 y,i6 z,sV s,sV t] 33 (0,0))] (wc.setCell ⟨i,2,none⟩ (sV t)).drew):=(X.o.mh B1 (sV t) 2).drew;have F5:yH (dh l w R L G):=h;have F0:yH (A=R.arg l w L G):=H;have D4:yH (Rg y):=hy;have F8:yH (∀P K M W,SC A P K [] M W->jK W ⟨f,D,B,r,j,o,u⟩):=A9;clear o0 o1 o2 o3 o4 o5 c2 E4 E3 O A8 B1 E2 E5 h H B5 A9 Z C4 C8 J A2 E0 C2 hy;by_cases q31:k=31
 .have k31:yH (k=31):=q31;clear q31;have E8:(k == 31)=true:=by simpa using k31.o
  have B4:((s.size:Int)=20/\y<0)\/((s.size:Int)=20/\¬y<0)\/(¬(s.size:Int)=20):=by omega
  rcases B4 with⟨h20,E7⟩|⟨h20,E7⟩|h20;all_goals
   go_upto_region 10 with fail
   go_region_with (go_at_call 64;refine(D2.o _ _ D7.o).mono ?_;rintro e w3⟨⟨c3,rfl,A5⟩,A3⟩;have B3:yH (∀d:Int,(s.size≠20->d=2)->(s.size=20->¬0<=y->d=3)->(s.size=20->0<=y->d=0)->lC R G Y c3 d ⟨f,y,B,r,j,o,u⟩):=A5;clear A5;have A0:yH (SC A Y 500 [] [(i,.cells #[sV f,i6 y,sV B,sV r,lV j XL o] 107 (0,0)),(w.heap.size,.cells #[i6 k,i6 x,i6 y,i6 z,sV s,sV t] 33 (0,0))] w3):=A3;clear A3)
   all_goals
    have O:jt w3 i 107 (sV f) (i6 y) (sV B) (sV r) (lV j XL o):=A0.o.at_;obtain⟨⟨r0,r1,r2,r3,r4⟩,_⟩:=O.cells;clear O;go_wp2_with fail
    refine(B8.o _ _ _ _ _ _ _ _ D4.o A6.o.2.1 A6.o.2.2 (B3.o _ (by omega) (by omega) (by omega)) A0.o).mono ?_;rintro e w5⟨rfl,hR⟩;have HR:yH (eY l w R L G 5000 w5):=hR;clear hR;go_wp2;go_ret;exact⟨rfl,HR.o⟩
 have k32:yH (k=32):=kq.o.resolve_left q31;clear q31;have E8:(k == 31)=false:=by rw[k32.o];rfl
 have G5:(k == 32)=true:=by simpa using k32.o
 have D9:yH (t.size<=1073741824):=ht;generalize bF t=GB at*;have B4:((s.size:Int)=20)\/(¬(s.size:Int)=20):=by omega
 rcases B4 with h20|h20;all_goals
  go_wp2_with fail
  refine(D1.o _).mono ?_;rintro e wx⟨rfl,E6⟩;subst E6;cases GB
  all_goals
   go_upto_region 17 with fail
   go_region_with (go_at_call 67;refine(D3.o _ _ D6.o).mono ?_;rintro e w3⟨⟨c3,rfl,A5⟩,A3⟩;have B3:=A5;clear A5;have A0:yH (SC A P2 500 [] [(i,.cells #[sV f,i6 D,sV t,sV r,lV j XL o] 107 (0,0)),(w.heap.size,.cells #[i6 k,i6 x,i6 y,i6 z,sV s,sV t] 33 (0,0))] w3):=A3;clear A3)
   all_goals
    have O:jt w3 i 107 (sV f) (i6 D) (sV t) (sV r) (lV j XL o):=A0.o.at_;obtain⟨⟨r0,r1,r2,r3,r4⟩,_⟩:=O.cells;clear O;go_wp2_with fail
    refine(B8.o _ _ _ _ _ _ _ _ A6.o.1 D9.o A6.o.2.2 (B3 _ (by omega) (by intros;first|rfl|contradiction|omega) (by intros;first|rfl|contradiction|omega)) A0.o).mono ?_;rintro e w5⟨rfl,hR⟩;have HR:yH (eY l w R L G 5000 w5):=hR;clear hR;go_wp2;go_ret;exact⟨rfl,HR.o⟩
end Go.Proofs.YteaodagofkcgbaaGreatDoor
