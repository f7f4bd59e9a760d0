import Derived.Test.YteaodagofkcgbaaGreatDoorZc
open Go.Proofs.Tryz
open Go.Proofs.Tryz renaming prog→yP
open Go.Value renaming string→sV,pointer→pV,int→iV,slice→lV,bool→bV,tuple→tV,agg→gV
open Go.Ending renaming returned→rV
namespace Go.Proofs.YteaodagofkcgbaaGreatDoor
open Go.RowKit
set_option maxRecDepth 100000
set_option maxHeartbeats 0
set_option linter.all false
def MS{l w R U M}(h:dh l w R U M)(k x y z:Int)(kq:yH (k≠31/\k≠32))(hy:Rg y)(s t:yB)(hs:s.size<=1073741824)(ht:t.size<=1073741824)(hN:R.N+9000<4000000000)(hm:bA R.m+2<1000000000)(B7:s∈R.seen)(F9:ag t∈R.seen):yC 28 #[pV (some ⟨R.rb,0,none⟩),jb k x y z s t] w λe w'=>e=rV (bV true)/\eY l w R U M 5000 w':=by
 have A3:=h.start.box #[i6 k,i6 x,i6 y,i6 z,sV s,sV t] 33;obtain⟨V,C6⟩:=yX (w.alloc (.cells #[i6 k,i6 x,i6 y,i6 z,sV s,sV t] 33));rw[<-C6] at A3;obtain⟨A,hA⟩:=yX (R.arg l w U M);have B8:A.sp=R.sp:=by rw[hA];rfl
 have L4:A.N=R.N:=by rw[hA];rfl
 have G0:A.w=w:=by rw[hA];rfl
 rw[<-hA] at A3;obtain⟨O,A9⟩:=yX (Wm A (bG R.m));rw[<-A9] at A3;have N7:yH (SC A O 0 [] [(w.heap.size,.cells #[i6 k,i6 x,i6 y,i6 z,sV s,sV t] 33 (0,0))] V):=A3;have K7:yH (SC A O 0 [] [(w.heap.size,.cells #[i6 k,i6 x,i6 y,i6 z,sV s,sV t] 33 (0,0))] V.drew):=A3.drew;have K5:yH (SC A O 0 [] [(V.heap.size,.cells #[sV ⟨#[]⟩,i6 0,sV ⟨#[]⟩,sV ⟨#[]⟩,lV none 0 0] 107 (0,0)),(w.heap.size,.cells #[i6 k,i6 x,i6 y,i6 z,sV s,sV t] 33 (0,0))] (V.alloc (.cells #[sV ⟨#[]⟩,i6 0,sV ⟨#[]⟩,sV ⟨#[]⟩,lV none 0 0] 107)).drew):=(A3.box _ _).drew;have I3:V.heap.size=w.heap.size+1:=by rw[C6];simp
 have F8:yH (V.heap.size=w.heap.size+1):=I3;clear I3;have B2:xZ A R.rb R.tt R.mv R.bv R.sv R.yes R.m R.base R.seen:=by rw[hA];exact h.facts
 have B1:yH (∀P K bx W,SC A P K [] bx W->yC 52 #[R.mv,sV s] W λe w'=>e=rV (tV #[iR (bT R.m s).1,bV (bT R.m s).2])/\SC A P K [] bx w'):=λP K bx W L=>L.find (B2.cells _ _ _ _ _ L).2.1 B2.nm s
 obtain⟨⟨_,_,c2,_⟩,G2,_⟩:=B2.cells _ _ _ _ _ A3;obtain⟨ma,mc,H7⟩:=G2.form;have A1:sY V w.heap.size 33 (i6 k) (i6 x) (i6 y) (i6 z) (sV s) (sV t):=A3.at_;obtain⟨o0,o1,o2,o3,o4,o5⟩:=A1.cells;have M2:w.heap.size<V.heap.size:=UE V _ o0;have M1:R.rb<V.heap.size:=UE V _ c2;rw[H7] at c2 B1;have O1:yH (iR (bT R.m s).1=iR (bT R.m s).1):=rfl;obtain⟨F,hF⟩:=yX ((bT R.m s).1);rw[<-hF] at B1;obtain⟨d,j,i,q,H,I,J⟩:=F;unfold iR aH.sv at B1;simp only at B1;have E0:=Ik (m:=R.m) (a:=s);rw[<-hF] at E0;have A6:d=s:=E0;have D9:=Ii (a:=s) h.y.lm;rw[<-hF] at D9;have C8:=II (m:=R.m) (a:=s);rw[<-hF] at C8;simp only at C8;have C7:∀P K bx W,SC A P K [] bx W->jK W ⟨d,j,i,q,H,I,J⟩:=λP K bx W L=>by
  have:=qy (addr:=s) (B2.cells _ _ _ _ _ L).2.1 hs;rw[<-hF] at this;exact this
 have J3:yH (∀P (er G n':Int) (b' c':yB) S W,Rg n'->b'.size<=1073741824->c'.size<=1073741824->lC R M P er G ⟨d,n',b',c',H,I,J⟩->SC A P 500 [] S W->yC 65 #[pV (some ⟨R.rb,0,none⟩),i6 er,i6 G,gV #[sV d,i6 n',sV b',sV c',lV H J.length I]] W λe w'=>e=rV (bV true)/\eY l w R U M 5000 w'):=λP er G n' b' c' S W h1 h2 h3 hQ L=>by
  have k0:=C7 _ _ _ _ L;rw[hA] at L;refine(vV h L er G ⟨d,n',b',c',H,I,J⟩ ⟨k0.addr,h1,h2,h3,k0.at_,k0.len,k0.small⟩ (λg hg=>.inl ⟨?_,D9 g hg⟩) ?_ (by show d∈_;rw[A6];exact B7) hQ (by omega) hm).mono λ_ _⟨h1,h2⟩=>⟨h1,h2.mono (by omega)⟩
  .have k1:=qy (addr:=s) h.y.pm hs;rw[<-hF] at k1;exact(k1.at_.lt g hg).2
  show J.length<=(bT R.m d).1.az.length+1;rw[A6,<-hF];show J.length<=J.length+1;omega
 have C1:R.de->s.size=20->iz R.seen ⟨d,j,i,q,H,I,J⟩/\dU ⟨d,j,i,q,H,I,J⟩=aY (bG R.m) (ag s):=λok h20=>by
  have:=Ij h ok h20 B7;rw[<-hF] at this;exact this
 obtain⟨P1,G4⟩:=yX (Wm A (dO (bG R.m) s (decide (0<=y)) λb=>{b with n:=y.toNat}));obtain⟨P2,G5⟩:=yX (Wm A (dO (bG R.m) s (bF t) λb=>{b with aI:=t}));obtain⟨P3,G6⟩:=yX (Wm A (dO (bG R.m) s true λb=>{b with code:=ag t}));have N5:yH (∀S W,SC A O 0 [] S W->yC 64 #[pV (some ⟨R.sp,0,none⟩),sV s,i6 y] W λe w'=>(∃c:Nat,e=rV (i6 c)/\∀G:Int,(s.size≠20->G=2)->(s.size=20->¬0<=y->G=3)->(s.size=20->0<=y->G=0)->lC R M P1 c G ⟨d,y,i,q,H,I,J⟩)/\SC A P1 500 [] S w'):=λS W L=>by
  rw[A9] at L;rw[G4];have:=za L s (by unfold maxLen;omega) y hy (by omega);rw[B8] at this;apply this.mono;rintro e w'⟨⟨c,h1,q1,q2,q3,h4⟩,_⟩;refine⟨⟨c,h1,λG w1 w2 w3=>?_⟩,h4⟩;rw[hA] at q3⊢;exact rT h A6 q1 q2 q3 w1 (λa b=>w2 a (of_decide_eq_false b)) (λa b=>w3 a (of_decide_eq_true b)) λh20 hg ok=>by
   obtain⟨k1,k2⟩:=C1 ok h20;refine⟨⟨k1.len,k1.addr,⟨of_decide_eq_true hg,by have:=hy.2;show y<_;omega⟩,k1.aI,k1.code,k1.once,k1.slot,k1.full⟩,?_⟩;rw[<-k2];rfl
 have N6:yH (∀S W,SC A O 0 [] S W->yC 67 #[pV (some ⟨R.sp,0,none⟩),sV s,sV t] W λe w'=>(∃c:Nat,e=rV (i6 c)/\∀G:Int,(s.size≠20->G=2)->(s.size=20->bF t=false->G=3)->(s.size=20->bF t=true->G=0)->lC R M P2 c G ⟨d,j,t,q,H,I,J⟩)/\SC A P2 500 [] S w'):=λS W L=>by
  rw[A9] at L;rw[G5];have:=zc L s (by unfold maxLen;omega) t (by unfold maxLen;omega) (by omega);rw[B8] at this;apply this.mono;rintro e w'⟨⟨c,h1,q1,q2,q3,h4⟩,_⟩;refine⟨⟨c,h1,λG w1 w2 w3=>?_⟩,h4⟩;rw[hA] at q3⊢;exact rT h A6 q1 q2 q3 w1 w2 w3 λh20 hg ok=>by
   obtain⟨k1,k2⟩:=C1 ok h20;refine⟨⟨k1.len,k1.addr,k1.n,hg,k1.code,k1.once,k1.slot,k1.full⟩,?_⟩;rw[<-k2];rfl
 have J9:yH (∀S W,SC A O 0 [] S W->yC 68 #[pV (some ⟨R.sp,0,none⟩),sV s,sV (ag t)] W λe w'=>(∃c:Nat,e=rV (i6 c)/\∀G:Int,(s.size≠20->G=2)->(s.size=20->G=0)->lC R M P3 c G ⟨d,j,i,ag t,H,I,J⟩)/\SC A P3 500 [] S w'):=λS W L=>by
  rw[A9] at L;rw[G6];have:=zb L s (by unfold maxLen;omega) (ag t) (dz _) (by omega);rw[B8] at this;apply this.mono;rintro e w'⟨⟨c,h1,q1,q2,q3,h4⟩,_⟩;refine⟨⟨c,h1,λG w1 w3=>?_⟩,h4⟩;rw[hA] at q3⊢;exact rT h A6 q1 q2 q3 w1 (λ_ b=>by cases b) (λa _=>w3 a) λh20 _ ok=>by
   obtain⟨k1,k2⟩:=C1 ok h20;refine⟨⟨k1.len,k1.addr,k1.n,k1.aI,dz _,k1.once,k1.slot,k1.full⟩,?_⟩;rw[<-k2];rfl
 have N4:yH (∀W,yC 66 #[sV t] W λe w'=>e=rV (bV (bF t))/\w'=W):=λW=>Gr t (by unfold maxLen;omega) W
 have F5:yH (∀P K S W,SC A P K [] S W->yC 23 #[sV t] W λe w'=>e=rV (sV (ag t))/\SC A P K [] S w'):=λP K S W L=>L.sum t (by unfold maxLen;omega)
 have C3:yH ((ag t).size<=1073741824):=by rw[show(ag t).size=32 from dz _];show _<=_;decide
 have J0:yH (∀(G:Int) S W,(s.size≠20->G=2)->(s.size=20->G=0)->SC A O 0 [] S W->yC 69 #[pV (some ⟨R.rb,0,none⟩),sV s,i6 G] W λe w'=>e=rV (bV true)/\eY l w R U M 5000 w'):=λG S W w1 w2 L=>by
  rw[A9,hA] at L;exact(Eo h L s hs G w2 w1 B7 (by omega) hm).mono λ_ _⟨h1,h2⟩=>⟨h1,h2.mono (by omega)⟩
 have E6:yH (∀P K S W,SC A P K [] S W->yc W R.rb 1 (pV (some ⟨R.sp,0,none⟩))):=λP K S W L=>by
  have:=(B2.cells _ _ _ _ _ L).1.2.1;rw[B8] at this;exact this
 have F1:yH (Rg j/\i.size<=1073741824/\q.size<=1073741824):=by have k0:=C7 _ _ _ _ A3;exact⟨k0.n,k0.aI,k0.code⟩
 have D2:yH (d=s/\(bT R.m s).1=⟨d,j,i,q,H,I,J⟩/\J.length<=bA R.m):=⟨A6,hF.symm,C8⟩
 unfold jb;have I9:yH (R.de->s.size=20->iz R.seen ⟨d,j,i,q,H,I,J⟩/\dU ⟨d,j,i,q,H,I,J⟩=aY (bG R.m) (ag s)):=C1;have K2:yH (O=Wm A (bG R.m)):=A9;have B5:yH (s∈R.seen/\ag t∈R.seen):=⟨B7,F9⟩
 clear A6 E0 hF C8 C1 A9 G4 G5 G6 B7 F9;generalize hXL:J.length=XL at*;generalize hMN:R.m.length=MN at*;have A7:yH (d=s/\(bT R.m s).1=⟨d,j,i,q,H,I,J⟩/\J.length=XL/\J.length<=bA R.m):=⟨D2.o.1,D2.o.2.1,hXL,by rw[hXL];exact D2.o.2.2⟩
 clear hXL hMN;go_enter func28,ntmps28
 go_upto_region 1 with fail
 rw[<-C6];clear C6;go_cut [5] (λv wx=>∃f:Nat,v=pV (some ⟨f,0,none⟩)/\yH (SC A O 0 [] [(f,.cells #[sV d,i6 j,sV i,sV q,lV H XL I] 107 (0,0)),(w.heap.size,.cells #[i6 k,i6 x,i6 y,i6 z,sV s,sV t] 33 (0,0))] wx)/\yH (w.heap.size≠f))
 .go_region_with (first| (go_at_call 52;refine(B1.o _ _ _ _ K7.o).mono ?_;rintro e w2⟨rfl,A0⟩;have E7:yH (∃f:Nat,f=w2.heap.size/\SC A O 0 [] [(f,.cells #[sV d,i6 j,sV i,sV q,lV H XL I] 107 (0,0)),(w.heap.size,.cells #[i6 k,i6 x,i6 y,i6 z,sV s,sV t] 33 (0,0))] (w2.alloc (.cells #[sV d,i6 j,sV i,sV q,lV H XL I] 107))/\w.heap.size≠f):=⟨_,rfl,A0.box _ _,A0.fresh _ (Uk ..)⟩;clear A0) | (go_at_call 52;refine(B1.o _ _ _ _ K5.o).mono ?_;rintro e w2⟨rfl,A0⟩;have G1:jt w2 V.heap.size 107 (sV ⟨#[]⟩) (i6 0) (sV ⟨#[]⟩) (sV ⟨#[]⟩) (lV none 0 0):=A0.at_;obtain⟨⟨z0,z1,z2,z3,z4⟩,f0,f1,f2,f3,f4⟩:=G1.cells;have E7:yH (∃f:Nat,f=V.heap.size/\SC A O 0 [] [(f,.cells #[sV d,i6 j,sV i,sV q,lV H XL I] 107 (0,0)),(w.heap.size,.cells #[i6 k,i6 x,i6 y,i6 z,sV s,sV t] 33 (0,0))] (((((w2.setCell ⟨V.heap.size,0,none⟩ (sV d)).setCell ⟨V.heap.size,1,none⟩ (i6 j)).setCell ⟨V.heap.size,2,none⟩ (sV i)).setCell ⟨V.heap.size,3,none⟩ (sV q)).setCell ⟨V.heap.size,4,none⟩ (lV H XL I))/\w.heap.size≠f):=⟨_,rfl,SC.Ef A0 (by have:=F8.o;omega),by have:=F8.o;omega⟩;clear A0 G1))
  all_goals
   go_wp2;go_meet;obtain⟨f,rfl,q1,q2⟩:=E7.o;exact⟨_,rfl,q1,q2⟩
 obtain⟨f,rfl,A4,F0⟩:=hcut;have C9:∀b∈[((w.heap.size,Obj.cells #[i6 k,i6 x,i6 y,i6 z,sV s,sV t] 33 (0,0)):Nat×Obj)],b.1≠f:=λb Z=>by rw[Uo.1 Z];exact F0.o
 have Y:jt wc f 107 (sV d) (i6 j) (sV i) (sV q) (lV H XL I):=A4.o.at_;have A1:sY wc w.heap.size 33 (i6 k) (i6 x) (i6 y) (i6 z) (sV s) (sV t):=(A4.o.held _ (Ul _ (Uk ..))).1;obtain⟨⟨q0,q1,q2,q3,q4⟩,g0,g1,g2,g3,g4⟩:=Y.cells;obtain⟨p0,p1,p2,p3,p4,p5⟩:=A1.cells;have d1:=E6.o _ _ _ _ A4.o;have M3:w.heap.size≠f:=F0.o;have H2:w.heap.size<=f:=by have:=(A4.o.held _ (Uk ..)).2;rw[G0] at this;exact this
 have M4:=h.y.jm;have O2:R.rb≠f:=by omega
 have K0:yH (∀b∈[((w.heap.size,Obj.cells #[i6 k,i6 x,i6 y,i6 z,sV s,sV t] 33 (0,0)):Nat×Obj)],b.1≠f):=C9;have O0:yH (SC A O 0 [] [(f,.cells #[sV d,i6 y,sV i,sV q,lV H XL I] 107 (0,0)),(w.heap.size,.cells #[i6 k,i6 x,i6 y,i6 z,sV s,sV t] 33 (0,0))] (wc.setCell ⟨f,1,none⟩ (i6 y)).drew):=(A4.o.mh C9 (i6 y) 1).drew;have N9:yH (SC A O 0 [] [(f,.cells #[sV d,i6 j,sV t,sV q,lV H XL I] 107 (0,0)),(w.heap.size,.cells #[i6 k,i6 x,i6 y,i6 z,sV s,sV t] 33 (0,0))] (wc.setCell ⟨f,2,none⟩ (sV t)).drew):=(A4.o.mh C9 (sV t) 2).drew;have E8:yH (dh l w R U M):=h;have E5:yH (A=R.arg l w U M):=hA;have F2:yH (Rg y):=hy;have D3:yH (∀P K bx W,SC A P K [] bx W->jK W ⟨d,j,i,q,H,I,J⟩):=C7;clear o0 o1 o2 o3 o4 o5 c2 M2 M1 Y A1 C9 H2 M4 h hA D9 C7 B2 G2 H7 A3 B8 L4 G0 hy;by_cases q33:k=33
 .have k33:yH (k=33):=q33;clear q33;have I4:(k == 31)=false:=by rw[k33.o];rfl
  have I5:(k == 32)=false:=by rw[k33.o];rfl
  have I6:(k == 33)=true:=by simpa using k33.o
  generalize ag t=HT at*;have C0:((s.size:Int)=20)\/(¬(s.size:Int)=20):=by omega
  rcases C0 with h20|h20;all_goals
   go_wp2_with fail
   refine(F5.o _ _ _ _ A4.o).mono ?_;rintro e w2⟨rfl,A0⟩;have Y:jt w2 f 107 (sV d) (i6 j) (sV i) (sV q) (lV H XL I):=A0.at_;have A1:sY w2 w.heap.size 33 (i6 k) (i6 x) (i6 y) (i6 z) (sV s) (sV t):=(A0.held _ (Ul _ (Uk ..))).1;obtain⟨⟨m0,m1,m2,m3,m4⟩,n0,n1,n2,n3,n4⟩:=Y.cells;obtain⟨v0,v1,v2,v3,v4,v5⟩:=A1.cells;have d2:=E6.o _ _ _ _ A0;have K6:yH (SC A O 0 [] [(f,.cells #[sV d,i6 j,sV i,sV HT,lV H XL I] 107 (0,0)),(w.heap.size,.cells #[i6 k,i6 x,i6 y,i6 z,sV s,sV t] 33 (0,0))] (w2.setCell ⟨f,3,none⟩ (sV HT)).drew):=(A0.mh K0.o (sV HT) 3).drew;clear A0 Y A1 q0 q1 q2 q3 q4 g0 g1 g2 g3 g4 p0 p1 p2 p3 p4 p5 d1;go_upto_region 22 with fail
   go_region_with (go_at_call 68;refine(J9.o _ _ K6.o).mono ?_;rintro e w3⟨⟨c3,rfl,H3⟩,B9⟩;have J5:yH (∀G:Int,(s.size≠20->G=2)->(s.size=20->G=0)->lC R M P3 c3 G ⟨d,j,i,HT,H,I,J⟩):=H3;clear H3;have A8:yH (SC A P3 500 [] [(f,.cells #[sV d,i6 j,sV i,sV HT,lV H XL I] 107 (0,0)),(w.heap.size,.cells #[i6 k,i6 x,i6 y,i6 z,sV s,sV t] 33 (0,0))] w3):=B9;clear B9)
   all_goals
    have Y:jt w3 f 107 (sV d) (i6 j) (sV i) (sV HT) (lV H XL I):=A8.o.at_;obtain⟨⟨r0,r1,r2,r3,r4⟩,_⟩:=Y.cells;clear Y;go_wp2_with fail
    refine(J3.o _ _ _ _ _ _ _ _ F1.o.1 F1.o.2.1 C3.o (J5.o _ (by omega) (by omega)) A8.o).mono ?_;rintro e w5⟨rfl,hR⟩;have HR:yH (eY l w R U M 5000 w5):=hR;clear hR;go_wp2;go_ret;exact⟨rfl,HR.o⟩
 by_cases q35:k=35
 .have k35:yH (k=35):=q35;clear q33 q35;have I4:(k == 31)=false:=by rw[k35.o];rfl
  have I5:(k == 32)=false:=by rw[k35.o];rfl
  have I6:(k == 33)=false:=by rw[k35.o];rfl
  have N2:(k == 35)=true:=by simpa using k35.o
  have C0:((s.size:Int)=20)\/(¬(s.size:Int)=20):=by omega
  rcases C0 with h20|h20;all_goals
   go_wp2_with fail
   refine(J0.o _ _ _ (by omega) (by omega) A4.o).mono ?_;rintro e w5⟨rfl,hR⟩;have HR:yH (eY l w R U M 5000 w5):=hR;clear hR;go_wp2;go_ret;exact⟨rfl,HR.o⟩
 have kk:yH (k≠31/\k≠32/\k≠33/\k≠35):=⟨kq.o.1,kq.o.2,q33,q35⟩
 clear q33 q35;have I4:(k == 31)=false:=by simpa using kk.o.1
 have I5:(k == 32)=false:=by simpa using kk.o.2.1
 have I6:(k == 33)=false:=by simpa using kk.o.2.2.1
 have N2:(k == 35)=false:=by simpa using kk.o.2.2.2
 have F4:yH (s.size<=1073741824):=hs;have K1:yH (∀S W,SC A O 0 [] S W->yC 70 #[i6 y] W λe w'=>(∃v:yB,e=rV (sV v)/\v.size<=8/\(0<=y->bF v=true))/\SC A O 0 [] S w'):=λS W L=>(Gx W y F2.o).mono λ_ _⟨⟨v,h1,h3,h4⟩,h2⟩=>⟨⟨v,h1,h3,λh0=>by
  have:=(IV (n:=y.toNat) (by have:=F2.o.2;omega)).1;rw[<-h4 h0] at this;unfold dZ at this;simp only[Vr] at this;exact this.1.1⟩,L.below h2⟩
 have C5:yH ((ag t).size=32):=dz _;generalize hHT:ag t=HT at*;clear hHT;have L0:yH (∀(v:yB) W,SC A O 0 [] [(f,.cells #[sV d,i6 j,sV i,sV q,lV H XL I] 107 (0,0)),(w.heap.size,.cells #[i6 k,i6 x,i6 y,i6 z,sV s,sV t] 33 (0,0))] W->v.size<=8->yC 33 #[lV H XL I,sV HT,sV v] W λe w'=>∃(C:Option Addr)(Q E:Nat),e=rV (lV C Q E)/\yH (∃B T,B=aL J HT v/\Q=B.length/\(∀W',(∀b∈T,W'.heap[b.1]? =some b.2)->eH W' (lV C Q E) B)/\(∀g,(Value.slice C Q E).ownBlock=some g->∃o,(g,o)∈T)/\(∀b∈T,b.1≠f)/\SC A O 0 [] ((f,.cells #[sV d,i6 j,sV i,sV q,lV H XL I] 107 (0,0))::(w.heap.size,.cells #[i6 k,i6 x,i6 y,i6 z,sV s,sV t] 33 (0,0))::T) w')):=λv W L hv=>by
  obtain⟨_,_,E4,_⟩:=A7.o;have k0:=D3.o _ _ _ _ L;have E3:eH W (lV H XL I) J:=by have:=k0.at_;unfold aH.sv at this;rw[<-E4];exact this
  have M0:=k0.len;have h3:=L.bz.size;refine(An W _ J HT v E3 (by show J.length<_;have:J.length<4000000000:=M0;omega)).mono ?_;rintro e w'⟨⟨v',he,ho⟩,L6⟩;obtain⟨C,E,M7,_⟩:=dM ho;subst M7;obtain⟨T,G9,B3,A5⟩:=MX ho;have H2:f<W.heap.size:=(Um.1 L.at_).1;refine⟨C,_,E,he,aL J HT v,T,rfl,rfl,λW' L5=>nj (A5 W' L5) h3,B3,λb Z=>by have:=(G9 b Z).2;omega,?_⟩;exact(L.JI L6 T G9).drop (λ_ ht=>ht) λb Z=>by
   rcases UC.1 Z with rfl|Z
   .exact UP _ (Uk ..)
   rcases UC.1 Z with rfl|Z
   .exact UP _ (Ul _ (Uk ..))
   exact UR _ Z
 have J7:yH (∀(v:yB) C Q E B T w5,B=aL J HT v->Q=B.length->v.size<=8->(∀W',(∀b∈T,W'.heap[b.1]? =some b.2)->eH W' (lV C Q E) B)->(∀g,(Value.slice C Q E).ownBlock=some g->∃o,(g,o)∈T)->SC A O 0 [] ((f,.cells #[sV d,i6 j,sV i,sV q,lV C Q E] 107 (0,0))::(w.heap.size,.cells #[i6 k,i6 x,i6 y,i6 z,sV s,sV t] 33 (0,0))::T) w5->bF v=true->∀A2,sU B A2->xV l w R U M ⟨d,j,i,q,C,E,B⟩ f w.heap.size (.cells #[i6 k,i6 x,i6 y,i6 z,sV s,sV t] 33 (0,0)) w5/\(A2=false->pJ l w R U M ⟨d,j,i,q,C,E,B⟩ f w.heap.size (.cells #[i6 k,i6 x,i6 y,i6 z,sV s,sV t] 33 (0,0)) HT v w5)):=λv C Q E B T w5 e1 e2 hv A5 B3 hS C2 A2 D0=>by
  have k0:=D3.o _ _ _ _ hS;have B4:=hS.held;rw[E5.o] at hS;obtain⟨l6,D6,m6,I2,E1⟩:=E8.o.JG hS;have N0:dh l6 w5 {R with D:=D6,N:=R.N+0} U M:=⟨⟨I2.y,I2.x.ev λX r hX=>by rw[K2.o,E5.o] at hX;exact hX⟩,E8.o.k⟩
  have M5:A2=false->BM {R with D:=D6,N:=R.N+0} ⟨d,j,i,q,C,E,B⟩ HT v:=λD8 ok h20=>by
   have ok:R.de:=ok;have h20:d.size=20:=h20;have B0:=A7.o.1;rw[B0] at h20;obtain⟨k1,k2⟩:=I9.o ok h20;have I0:(B.map (·.1)).Nodup:=by rw[e1];exact KF k1.once HT v
   have I1:∀p∈B,p.1.size=32/\p.1∈R.seen/\bF p.2=true/\p.2.size≠0:=λp hp=>by
    rw[e1] at hp;unfold aL at hp;rcases UA.1 hp with hp|hp
    .exact k1.slot p (List.mem_filter.1 hp).1
    split at hp
    .cases hp
    next h0=>rw[Uo.1 hp];exact⟨C5.o,B5.o.2,C2,h0⟩
   refine⟨⟨k1.len,k1.addr,k1.n,k1.aI,k1.code,I0,I1,D0 (DM ok.inj I0 I1) D8⟩,?_⟩;show dU _= {aY (bG R.m) (ag d) with ss:=aL (aY (bG R.m) (ag d)).ss (ag HT) (if v.size=0 then⟨#[]⟩ else fg v)};rw[B0,<-k2];show(⟨j.toNat,i,q,ct B⟩:Ac)=⟨j.toNat,i,q,aL (ct J) (ag HT) _⟩;rw[e1,Mj ok.inj (λp hp=>(k1.slot p hp).2.1) B5.o.2 (mH C2)]
  have E2:∀b∈T,b∈((f,.cells #[sV d,i6 j,sV i,sV q,lV C Q E] 107 (0,0))::(w.heap.size,.cells #[i6 k,i6 x,i6 y,i6 z,sV s,sV t] 33 (0,0))::T):=λb Z=>Ul _ (Ul _ Z)
  have M6:∀p∈aL J HT v,p.1.size<=1073741824/\p.2.size<=1073741824:=Cv k0.small C3.o (by omega);have M9:=ym J HT v;obtain⟨_,_,E4,N1⟩:=A7.o;have H6:xW l w R U M ⟨d,j,i,q,C,E,B⟩ f w.heap.size (.cells #[i6 k,i6 x,i6 y,i6 z,sV s,sV t] 33 (0,0)) l6 {R with D:=D6,N:=R.N+0} w5:=by
   refine⟨m6.mono λx hx=>.inl hx,N0,⟨rfl,rfl,rfl,rfl,rfl,rfl,rfl,id⟩,rfl,rfl,⟨k0.addr,k0.n,k0.aI,k0.code,?_,?_,?_⟩,λg hg=>?_,?_,E1 _ (Uk ..),(B4 _ (Ul _ (Uk ..))).1,E1 _ (Ul _ (Uk ..))⟩
   .show eH w5 (lV C B.length E) B;rw[<-e2];exact A5 w5 λb Z=>(B4 b (E2 b Z)).1
   .show B.length<4000000000;rw[e1];omega
   .show ∀p∈B,_;rw[e1];exact M6
   .have L9:(Value.slice C Q E).ownBlock=some g:=by rw[e2];exact hg
    obtain⟨o,ho⟩:=B3 g L9;exact⟨(Um.1 (B4 _ (E2 _ ho)).1).1,E1 _ (E2 _ ho)⟩
   show w5.heap[f]? =some (.cells #[sV d,i6 j,sV i,sV q,lV C B.length E] 107 (0,0));rw[<-e2];exact(B4 _ (Uk ..)).1
  exact⟨⟨l6,_,H6⟩,λD8=>⟨l6,_,H6,M5 D8⟩⟩
 have J1:yH (∀(v:yB) C Q E B T w4,B=aL J HT v->v.size<=8->(∀W',(∀b∈T,W'.heap[b.1]? =some b.2)->eH W' (lV C Q E) B)->SC A O 0 [] ((f,.cells #[sV d,i6 j,sV i,sV q,lV C Q E] 107 (0,0))::(w.heap.size,.cells #[i6 k,i6 x,i6 y,i6 z,sV s,sV t] 33 (0,0))::T) w4->yC 71 #[lV C Q E] w4 λe w'=>JZ B e/\SC A O 0 [] ((f,.cells #[sV d,i6 j,sV i,sV q,lV C Q E] 107 (0,0))::(w.heap.size,.cells #[i6 k,i6 x,i6 y,i6 z,sV s,sV t] 33 (0,0))::T) w'):=λv C Q E B T w4 e1 hv A5 hS=>by
  have k0:=D3.o _ _ _ _ hS;have M9:=ym J HT v;obtain⟨_,_,E4,N1⟩:=A7.o;have B4:=hS.held;have E3:=A5 w4 λb Z=>(B4 b (Ul _ (Ul _ Z))).1
  exact(QK w4 _ B E3 (by rw[e1];omega) (by rw[e1];exact Cv k0.small C3.o (by omega)) hS.bz).mono λ_ _⟨h1,h2⟩=>⟨h1,hS.below h2⟩
 have L2:yH (∀(v:yB) B,B=aL J HT v->B.length<=(bT R.m d).1.az.length+1):=λv B e1=>by
  obtain⟨A6,L8,_,_⟩:=A7.o;rw[A6,L8,e1];exact ym J HT v
 generalize wc=WC at*;go_upto_if 31 with fail
 go_cut [7] (λv wx=>∃G:Int,v=i6 G/\yH ((s.size≠20->G=2)/\(s.size=20->G=0))/\wx=WC)
 .have C0:((s.size:Int)=20)\/(¬(s.size:Int)=20):=by omega
  rcases C0 with h20|h20;all_goals
   go_wp2;go_meet;exact⟨_,rfl,(show(s.size≠20->_=_)/\(s.size=20->_=_) from⟨by omega,by omega⟩),rfl⟩
 obtain⟨G,rfl,F7,M8⟩:=hcut;subst M8;go_wp2_with fail
 refine(F5.o _ _ _ _ A4.o).mono ?_;rintro e w2⟨rfl,A0⟩;have F3:yH (SC A O 0 [] [(f,.cells #[sV d,i6 j,sV i,sV q,lV H XL I] 107 (0,0)),(w.heap.size,.cells #[i6 k,i6 x,i6 y,i6 z,sV s,sV t] 33 (0,0))] w2):=A0;have Y:jt w2 f 107 (sV d) (i6 j) (sV i) (sV q) (lV H XL I):=A0.at_;have A1:sY w2 w.heap.size 33 (i6 k) (i6 x) (i6 y) (i6 z) (sV s) (sV t):=(A0.held _ (Ul _ (Uk ..))).1;obtain⟨v0,v1,v2,v3,v4,v5⟩:=A1.cells;clear A0 Y A1 q0 q1 q2 q3 q4 g0 g1 g2 g3 g4 p0 p1 p2 p3 p4 p5 d1;go_upto_if 120 with fail
 go_cut [14] (λu wx=>∃v:yB,u=sV v/\v.size<=8/\yH (bF v=true)/\yH (SC A O 0 [] [(f,.cells #[sV d,i6 j,sV i,sV q,lV H XL I] 107 (0,0)),(w.heap.size,.cells #[i6 k,i6 x,i6 y,i6 z,sV s,sV t] 33 (0,0))] wx))
 .by_cases O3:0<y
  .go_wp2_with fail
   refine(K1.o _ _ F3.o).mono ?_;rintro e w3⟨⟨v,rfl,hv,C2⟩,B9⟩;have B6:yH (bF v=true):=C2 (by omega);clear C2;have A8:yH (SC A O 0 [] [(f,.cells #[sV d,i6 j,sV i,sV q,lV H XL I] 107 (0,0)),(w.heap.size,.cells #[i6 k,i6 x,i6 y,i6 z,sV s,sV t] 33 (0,0))] w3):=B9;clear B9;go_wp2;go_meet;exact⟨v,rfl,hv,B6,A8⟩
  go_wp2;go_meet;exact⟨⟨#[]⟩,rfl,by decide,(show bF ⟨#[]⟩=true from rfl),F3⟩
 obtain⟨v,rfl,hv,B6,A8⟩:=hcut;have K9:yH (v.size<=1073741824):=by show _<=_;omega
 have Y:jt wc f 107 (sV d) (i6 j) (sV i) (sV q) (lV H XL I):=A8.o.at_;obtain⟨⟨q0,q1,q2,q3,q4⟩,_⟩:=Y.cells;clear Y v0 v1 v2 v3 v4 v5;go_wp2_with fail
 refine(L0.o v _ A8.o hv).mono ?_;rintro e w4⟨C,Q,E,rfl,F6⟩;obtain⟨B,T,e1,e2,A5,B3,H0,D5⟩:=F6.o;have K8:yH (v.size<=8):=hv;have L1:yH (B.length<=(bT R.m d).1.az.length+1):=L2.o v B e1;have H8:∀b∈((w.heap.size,Obj.cells #[i6 k,i6 x,i6 y,i6 z,sV s,sV t] 33 (0,0))::T:List (Nat×Obj)),b.1≠f:=λb Z=>by
  rcases UC.1 Z with rfl|Z
  .exact M3
  exact H0 b Z
 have D7:=D5.mh H8 (lV C Q E) 4;have N8:yH (SC A O 0 [] ((f,.cells #[sV d,i6 j,sV i,sV q,lV C Q E] 107 (0,0))::(w.heap.size,.cells #[i6 k,i6 x,i6 y,i6 z,sV s,sV t] 33 (0,0))::T) (w4.setCell ⟨f,4,none⟩ (lV C Q E))):=D7;have J2:yH (yC 71 #[lV C Q E] (w4.setCell ⟨f,4,none⟩ (lV C Q E)) λe w'=>JZ B e/\SC A O 0 [] ((f,.cells #[sV d,i6 j,sV i,sV q,lV C Q E] 107 (0,0))::(w.heap.size,.cells #[i6 k,i6 x,i6 y,i6 z,sV s,sV t] 33 (0,0))::T) w'):=J1.o v C Q E B T _ e1 hv A5 D7;have J8:yH (∀w5,SC A O 0 [] ((f,.cells #[sV d,i6 j,sV i,sV q,lV C Q E] 107 (0,0))::(w.heap.size,.cells #[i6 k,i6 x,i6 y,i6 z,sV s,sV t] 33 (0,0))::T) w5->∀A2,sU B A2->xV l w R U M ⟨d,j,i,q,C,E,B⟩ f w.heap.size (.cells #[i6 k,i6 x,i6 y,i6 z,sV s,sV t] 33 (0,0)) w5/\(A2=false->pJ l w R U M ⟨d,j,i,q,C,E,B⟩ f w.heap.size (.cells #[i6 k,i6 x,i6 y,i6 z,sV s,sV t] 33 (0,0)) HT v w5)):=λw5 h5=>J7.o v C Q E B T w5 e1 e2 K8.o A5 B3 h5 B6.o
 have Y:jt w4 f 107 (sV d) (i6 j) (sV i) (sV q) (lV H XL I):=D5.at_;obtain⟨⟨m0,m1,m2,m3,m4⟩,n0,n1,n2,n3,n4⟩:=Y.cells;have N3:yH (Q=B.length):=e2;clear D5 D7 A5 B3 H0 H8 e1 e2 Y q0 q1 q2 q3 q4 hv F6;go_wp2_with fail
 apply J2.m;rintro e w6⟨⟨A2,rfl,D0⟩,G8⟩;obtain⟨H4,H5⟩:=J8.o w6 G8 A2 D0;have J6:yH (A2=false->pJ l w R U M ⟨d,j,i,q,C,E,B⟩ f w.heap.size (.cells #[i6 k,i6 x,i6 y,i6 z,sV s,sV t] 33 (0,0)) HT v w6):=H5;obtain⟨y1,y2,⟨yb,y3⟩,y4⟩:=H4.yes HT v;have L3:yH (pJ l w R U M ⟨d,j,i,q,C,E,B⟩ f w.heap.size (.cells #[i6 k,i6 x,i6 y,i6 z,sV s,sV t] 33 (0,0)) HT v (w6.setCell ⟨R.tt,0,none⟩ (bV true))):=y1;clear G8 H4 H5 D0 y1 m0 m1 m2 m3 m4 n0 n1 n2 n3 n4;go_upto_if 133 with fail
 go_cut [] (λwx=>yH (pJ l w R U M ⟨d,j,i,q,C,E,B⟩ f w.heap.size (.cells #[i6 k,i6 x,i6 y,i6 z,sV s,sV t] 33 (0,0)) HT v wx))
 .cases A2
  .go_wp2;go_meet;exact J6.o (by trivial)
  go_wp2;go_meet;exact L3
 have E9:yH (pJ l w R U M ⟨d,j,i,q,C,E,B⟩ f w.heap.size (.cells #[i6 k,i6 x,i6 y,i6 z,sV s,sV t] 33 (0,0)) HT v wc):=hcut;obtain⟨e1,e2,e3⟩:=E9.o.cells;have A1:sY wc w.heap.size 33 (i6 k) (i6 x) (i6 y) (i6 z) (sV s) (sV t):=e3;obtain⟨a0,a1,a2,a3,a4,a5⟩:=A1.cells;have I8:yH (yC 72 #[pV (some ⟨R.sp,0,none⟩),sV s,sV HT,sV v] wc.drew λe w'=>∃c:Nat,e=rV (i6 c)/\(s.size≠20->c=2)/\qP l w R U M ⟨d,j,i,q,C,E,B⟩ f w.heap.size (.cells #[i6 k,i6 x,i6 y,i6 z,sV s,sV t] 33 (0,0)) HT v c w'):=E9.o.call s A7.o.1 F4.o C5.o B6.o K9.o hN;clear e2 e3 A1 hcut y2 y3 y4;go_upto_region 34 with fail
 go_cut [16] (λcv wx=>∃c:Nat,cv=i6 c/\yH (s.size≠20->c=2)/\yH (qP l w R U M ⟨d,j,i,q,C,E,B⟩ f w.heap.size (.cells #[i6 k,i6 x,i6 y,i6 z,sV s,sV t] 33 (0,0)) HT v c wx))
 .go_region_with (go_at_call 72;apply I8.m;rintro e w7⟨c7,rfl,H1,G3⟩;have D1:yH (s.size≠20->c7=2):=H1;have C4:yH (qP l w R U M ⟨d,j,i,q,C,E,B⟩ f w.heap.size (.cells #[i6 k,i6 x,i6 y,i6 z,sV s,sV t] 33 (0,0)) HT v c7 w7):=G3;clear G3 H1)
  all_goals
   go_wp2;go_meet;exact⟨c7,rfl,D1,C4⟩
 obtain⟨c7,rfl,D1,C4⟩:=hcut;obtain⟨e2,e3⟩:=C4.o.cells;have Y:jt wc f 107 (sV d) (i6 j) (sV i) (sV q) (lV C B.length E):=e2;obtain⟨⟨b0,b1,b2,b3,b4⟩,_⟩:=Y.cells;have J4:yH (yC 65 #[pV (some ⟨R.rb,0,none⟩),i6 c7,i6 G,gV #[sV d,i6 j,sV i,sV q,lV C B.length E]] wc λe w'=>e=rV (bV true)/\eY l w R U M 3000 w'/\w'.heap[w.heap.size]? =some (.cells #[i6 k,i6 x,i6 y,i6 z,sV s,sV t] 33 (0,0))):=by
  have B0:=A7.o.1;exact C4.o.kept G C5.o B6.o (by show d.size≠20->_;rw[B0];exact D1.o) (by show d.size≠20->_;rw[B0];exact F7.o.1) (by show d.size=20->_;rw[B0];exact F7.o.2) (by show d∈_;rw[B0];exact B5.o.1) L1.o hN hm
 generalize B.length=WL at*;clear e2 e3 Y a0 a1 a2 a3 a4 a5 e1;go_wp2_with fail
 apply J4.m;rintro e w8⟨rfl,D4,H9⟩;have K4:yH (eY l w R U M 5000 w8):=D4.mono (by omega);have I7:yH (yC 24 #[pV (some ⟨R.rb,0,none⟩),sV s,sV HT] w8 λe w'=>e=rV (bV true)/\eY l w R U M 5000 w'):=(D4.asks s HT F4.o C3.o B5.o.1 (.inr ⟨C5.o,B5.o.2⟩) (by omega)).mono λ_ _⟨h1,h2⟩=>⟨h1,h2.mono (by omega)⟩
 have A1:sY w8 w.heap.size 33 (i6 k) (i6 x) (i6 y) (i6 z) (sV s) (sV t):=H9;obtain⟨a0,a1,a2,a3,a4,a5⟩:=A1.cells;clear D4 H9 A1 b0 b1 b2 b3 b4;have L7:(G != 0)=true\/(G != 0)=false:=by cases (G != 0)<;>simp
 rcases L7 with h1|h1
 .go_wp2;go_ret;exact⟨rfl,K4.o⟩
 go_wp2_with fail
 apply I7.m;rintro e w9⟨rfl,G7⟩;have K3:yH (eY l w R U M 5000 w9):=G7;clear G7;go_wp2;go_ret;exact⟨rfl,K3.o⟩
end Go.Proofs.YteaodagofkcgbaaGreatDoor
