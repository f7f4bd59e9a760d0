import Derived.Test.YtiimkkahmpmhdaaGreatDoorV
open Go.Proofs.Tryz
open Go.Proofs.Tryz renaming prog→yP
open Go.Value renaming string→sV,pointer→pV,int→iV,slice→lV,bool→bV,tuple→tV,agg→gV
open Go.Ending renaming returned→rV
namespace Go.Proofs.YtiimkkahmpmhdaaGreatDoor
open Go.RowKit
set_option maxRecDepth 100000
set_option maxHeartbeats 0
set_option linter.all false
theorem rwrite2{l w R O M}(h:bS l w R O M)(k x y z:Int)(kq:Hid (k≠31/\k≠32))(hy:Rg y)(s t:yB)(hs:s.size<=1073741824)(ht:t.size<=1073741824)(hN:R.N+9000<4000000000)(hm:aR R.m+2<1000000000):
 Calls yP 29 #[pV (some ⟨R.rb,0,none⟩),fX k x y z s t] w fun e w'=>bE e/\dE l w R O M 5000 w':=by
 have A0:=h.start.box #[iV .i64 k,iV .i64 x,iV .i64 y,iV .i64 z,sV s,sV t] 33;obtain⟨P,B6⟩:=yX (w.alloc (.cells #[iV .i64 k,iV .i64 x,iV .i64 y,iV .i64 z,sV s,sV t] 33))
 rw[<-B6] at A0;obtain⟨A,Z⟩:=yX (R.arg l w O M)
 have B0:A.sp=R.sp:=by rw[Z];rfl
 have J3:A.N=R.N:=by rw[Z];rfl
 have G0:A.w=w:=by rw[Z];rfl
 rw[<-Z] at A0;have I2:Hid (SC A 0 [] [(w.heap.size,.cells #[iV .i64 k,iV .i64 x,iV .i64 y,iV .i64 z,sV s,sV t] 33 (0,0))] P):=A0;have F7:Hid (SC A 0 [] [(w.heap.size,.cells #[iV .i64 k,iV .i64 x,iV .i64 y,iV .i64 z,sV s,sV t] 33 (0,0))] P.drew):=A0.drew;have F5:Hid (SC A 0 [] [(P.heap.size,.cells #[sV ⟨#[]⟩,iV .i64 0,sV ⟨#[]⟩,sV ⟨#[]⟩,lV none 0 0] 107 (0,0)),(w.heap.size,.cells #[iV .i64 k,iV .i64 x,iV .i64 y,iV .i64 z,sV s,sV t] 33 (0,0))] (P.alloc (.cells #[sV ⟨#[]⟩,iV .i64 0,sV ⟨#[]⟩,sV ⟨#[]⟩,lV none 0 0] 107)).drew):=(A0.box _ _).drew;have H2:P.heap.size=w.heap.size+1:=by rw[B6];simp
 have F9:Hid (P.heap.size=w.heap.size+1):=H2;clear H2;have A5:pN A R.rb R.tt R.mv R.bv R.sv R.yes R.m R.base R.seen:=by rw[Z];exact h.facts
 have A2:Hid (∀K bx W,SC A K [] bx W->Calls yP 53 #[R.mv,sV s] W fun e w'=>e=rV (tV #[eC (bz R.m s).1,bV (bz R.m s).2])/\SC A K [] bx w'):=fun K bx W G=>G.find (A5.cells _ _ _ _ G).2.1 A5.nm s
 obtain⟨⟨_,_,c2,_⟩,G2,_⟩:=A5.cells _ _ _ _ A0;obtain⟨ma,mc,G9⟩:=G2.form;have U:nH P w.heap.size 33 (iV .i64 k) (iV .i64 x) (iV .i64 y) (iV .i64 z) (sV s) (sV t):=A0.at_;obtain⟨o0,o1,o2,o3,o4,o5⟩:=U.cells;have K1:w.heap.size<P.heap.size:=Rj P _ o0;have K0:R.rb<P.heap.size:=Rj P _ c2;rw[G9] at c2 A2;have J0:Hid (eC (bz R.m s).1=eC (bz R.m s).1):=rfl;obtain⟨F,hF⟩:=yX ((bz R.m s).1)
 rw[<-hF] at A2;obtain⟨f,j,i,B,H,I,L⟩:=F;unfold eC a6.sv at A2;simp only at A2;have D7:=sU (m:=R.m) (a:=s);rw[<-hF] at D7;have B3:f=s:=D7;have D5:=sT (a:=s) h.y.lm;rw[<-hF] at D5;have B8:=te (m:=R.m) (a:=s);rw[<-hF] at B8;simp only at B8;have B7:∀K bx W,SC A K [] bx W->iA W ⟨f,j,i,B,H,I,L⟩:=fun K bx W G=>by
  have:=kI (addr:=s) (A5.cells _ _ _ _ G).2.1 hs;rw[<-hF] at this;exact this
 have C3:Hid (∀(er V n':Int) (b' c':yB) E W,Rg n'->b'.size<=1073741824->c'.size<=1073741824->SC A 500 [] E W->Calls yP 66 #[pV (some ⟨R.rb,0,none⟩),iV .i64 er,iV .i64 V,gV #[sV f,iV .i64 n',sV b',sV c',lV H L.length I]] W fun e w'=>bE e/\dE l w R O M 5000 w'):=fun er V n' b' c' E W h1 h2 h3 G=>by
  have k0:=B7 _ _ _ G;rw[Z] at G;refine(oW h G er V ⟨f,n',b',c',H,I,L⟩ ⟨k0.addr,h1,h2,h3,k0.at_,k0.len,k0.small⟩ (fun g hg=>.inl ⟨?_,D5 g hg⟩) ?_ (by omega) hm).mono fun _ _ ⟨h1,h2⟩=>⟨h1,h2.mono (by omega)⟩
  ·have k1:=kI (addr:=s) h.y.pm hs;rw[<-hF] at k1;exact(k1.at_.lt g hg).2
  ·show L.length<=(bz R.m f).1.aS.length+1;rw[B3,<-hF];show L.length<=L.length+1;omega
 have C5:Hid (∀E W,SC A 0 [] E W->Calls yP 65 #[pV (some ⟨R.sp,0,none⟩),sV s,iV .i64 y] W fun e w'=>dc e/\SC A 500 [] E w'):=fun E W G=>by
  have:=qe G s (by unfold maxLen;omega) y hy (by omega);rw[B0] at this;exact this
 have C6:Hid (∀E W,SC A 0 [] E W->Calls yP 68 #[pV (some ⟨R.sp,0,none⟩),sV s,sV t] W fun e w'=>dc e/\SC A 500 [] E w'):=fun E W G=>by
  have:=qh G s (by unfold maxLen;omega) t (by unfold maxLen;omega) (by omega);rw[B0] at this;exact this
 have C7:Hid (∀E W,SC A 0 [] E W->Calls yP 69 #[pV (some ⟨R.sp,0,none⟩),sV s,sV (ai t)] W fun e w'=>dc e/\SC A 500 [] E w'):=fun E W G=>by
  have:=qf G s (by unfold maxLen;omega) (ai t) (by omega);rw[B0] at this;exact this
 have C4:Hid (∀W,Calls yP 67 #[sV t] W fun e w'=>bE e/\w'=W):=fun W=>sL t (by unfold maxLen;omega) W
 have D1:Hid (∀K E W,SC A K [] E W->Calls yP 24 #[sV t] W fun e w'=>e=rV (sV (ai t))/\SC A K [] E w'):=fun K E W G=>G.sum t (by unfold maxLen;omega)
 have A8:Hid ((ai t).size<=1073741824):=by rw[show(ai t).size=32 from eL _];show _<=_;decide
 have C1:Hid (∀(V:Int) E W,SC A 0 [] E W->Calls yP 70 #[pV (some ⟨R.rb,0,none⟩),sV s,iV .i64 V] W fun e w'=>bE e/\dE l w R O M 5000 w'):=fun V E W G=>by
  rw[Z] at G;exact(sf h G s hs V (by omega) hm).mono fun _ _ ⟨h1,h2⟩=>⟨h1,h2.mono (by omega)⟩
 have E4:Hid (∀K E W,SC A K [] E W->W.cell? ⟨R.rb,1,none⟩=some (pV (some ⟨R.sp,0,none⟩))):=fun K E W G=>by
  have:=(A5.cells _ _ _ _ G).1.2.1;rw[B0] at this;exact this
 have F3:Hid (Rg j/\i.size<=1073741824/\B.size<=1073741824):=by have k0:=B7 _ _ _ A0;exact⟨k0.n,k0.aj,k0.code⟩
 have B4:Hid (f=s/\(bz R.m s).1=⟨f,j,i,B,H,I,L⟩/\L.length<=aR R.m):=⟨B3,hF.symm,B8⟩
 unfold fX;clear J0 B3 D7 hF B8;generalize hXL:L.length=XL at*;generalize hMN:R.m.length=MN at*;have A4:Hid (f=s/\(bz R.m s).1=⟨f,j,i,B,H,I,L⟩/\L.length=XL/\L.length<=aR R.m):=⟨B4.out.1,B4.out.2.1,hXL,by rw[hXL];exact B4.out.2.2⟩
 clear B4 hXL hMN;go_enter func29,ntmps29
 go_upto_region 1 with fail
 rw[<-B6];clear B6;go_cut [5] (fun v wx=>∃d:Nat,v=pV (some ⟨d,0,none⟩)/\Hid (SC A 0 [] [(d,.cells #[sV f,iV .i64 j,sV i,sV B,lV H XL I] 107 (0,0)),(w.heap.size,.cells #[iV .i64 k,iV .i64 x,iV .i64 y,iV .i64 z,sV s,sV t] 33 (0,0))] wx)/\Hid (w.heap.size≠d))
 case first=>
  go_region_with (first| (go_at_call 53;refine(A2.out _ _ _ F7.out).mono ?_;rintro e w2 ⟨rfl,T⟩;have E5:Hid (∃d:Nat,d=w2.heap.size/\SC A 0 [] [(d,.cells #[sV f,iV .i64 j,sV i,sV B,lV H XL I] 107 (0,0)),(w.heap.size,.cells #[iV .i64 k,iV .i64 x,iV .i64 y,iV .i64 z,sV s,sV t] 33 (0,0))] (w2.alloc (.cells #[sV f,iV .i64 j,sV i,sV B,lV H XL I] 107))/\w.heap.size≠d):=⟨_,rfl,T.box _ _,T.fresh _ (QY ..)⟩;clear T) | (go_at_call 53;refine(A2.out _ _ _ F5.out).mono ?_;rintro e w2 ⟨rfl,T⟩;have G1:g6 w2 P.heap.size 107 (sV ⟨#[]⟩) (iV .i64 0) (sV ⟨#[]⟩) (sV ⟨#[]⟩) (lV none 0 0):=T.at_;obtain⟨⟨z0,z1,z2,z3,z4⟩,f0,f1,f2,f3,f4⟩:=G1.cells;have E5:Hid (∃d:Nat,d=P.heap.size/\SC A 0 [] [(d,.cells #[sV f,iV .i64 j,sV i,sV B,lV H XL I] 107 (0,0)),(w.heap.size,.cells #[iV .i64 k,iV .i64 x,iV .i64 y,iV .i64 z,sV s,sV t] 33 (0,0))] (((((w2.setCell ⟨P.heap.size,0,none⟩ (sV f)).setCell ⟨P.heap.size,1,none⟩ (iV .i64 j)).setCell ⟨P.heap.size,2,none⟩ (sV i)).setCell ⟨P.heap.size,3,none⟩ (sV B)).setCell ⟨P.heap.size,4,none⟩ (lV H XL I))/\w.heap.size≠d):=⟨_,rfl,SC.rZ T (by have:=F9.out;omega),by have:=F9.out;omega⟩;clear T G1))
  all_goals
   go_wp2_with fail
   go_meet
   obtain⟨d,rfl,q1,q2⟩:=E5.out;exact⟨_,rfl,q1,q2⟩
 case rest=>
  obtain⟨d,rfl,Y,F1⟩:=hcut;have B9:∀b∈[((w.heap.size,Obj.cells #[iV .i64 k,iV .i64 x,iV .i64 y,iV .i64 z,sV s,sV t] 33 (0,0)):Nat×Obj)],b.1≠d:=fun b S=>by rw[Q2.1 S];exact F1.out
  have Q:g6 wc d 107 (sV f) (iV .i64 j) (sV i) (sV B) (lV H XL I):=Y.out.at_;have U:nH wc w.heap.size 33 (iV .i64 k) (iV .i64 x) (iV .i64 y) (iV .i64 z) (sV s) (sV t):=(Y.out.held _ (QZ _ (QY ..))).1;obtain⟨⟨q0,q1,q2,q3,q4⟩,g0,g1,g2,g3,g4⟩:=Q.cells;obtain⟨p0,p1,p2,p3,p4,p5⟩:=U.cells;have d1:=E4.out _ _ _ Y.out;have K2:w.heap.size≠d:=F1.out;have G8:w.heap.size<=d:=by have:=(Y.out.held _ (QY ..)).2;rw[G0] at this;exact this
  have K3:=h.y.ij;have L2:R.rb≠d:=by omega
  have F0:Hid (∀b∈[((w.heap.size,Obj.cells #[iV .i64 k,iV .i64 x,iV .i64 y,iV .i64 z,sV s,sV t] 33 (0,0)):Nat×Obj)],b.1≠d):=B9;have D0:Hid (SC A 0 [] [(d,.cells #[sV f,iV .i64 y,sV i,sV B,lV H XL I] 107 (0,0)),(w.heap.size,.cells #[iV .i64 k,iV .i64 x,iV .i64 y,iV .i64 z,sV s,sV t] 33 (0,0))] (wc.setCell ⟨d,1,none⟩ (iV .i64 y)).drew):=(Y.out.iM B9 (iV .i64 y) 1).drew;have C9:Hid (SC A 0 [] [(d,.cells #[sV f,iV .i64 j,sV t,sV B,lV H XL I] 107 (0,0)),(w.heap.size,.cells #[iV .i64 k,iV .i64 x,iV .i64 y,iV .i64 z,sV s,sV t] 33 (0,0))] (wc.setCell ⟨d,2,none⟩ (sV t)).drew):=(Y.out.iM B9 (sV t) 2).drew;have C2:Hid (bS l w R O M):=h;have C0:Hid (A=R.arg l w O M):=Z;have C8:Hid (Rg y):=hy;have A9:Hid (∀K bx W,SC A K [] bx W->iA W ⟨f,j,i,B,H,I,L⟩):=B7;clear o0 o1 o2 o3 o4 o5 c2 K1 K0 A2 F7 F5 I2 Q U B9 G8 K3 h Z D5 B7 A5 G2 G9 A0 B0 J3 G0 hy;by_cases q33:k=33
  ·have k33:Hid (k=33):=q33;clear A9 q33 kq;have H3:(k == 31)=false:=by rw[k33.out];rfl
   have H4:(k == 32)=false:=by rw[k33.out];rfl
   have H5:(k == 33)=true:=by simpa using k33.out
   clear k33 D0 C9 C5 C6 C4 C1 C2 C0 A4 C8;generalize ai t=HT at*;have B2:((s.size:Int)=20)\/(¬(s.size:Int)=20):=by omega
   rcases B2 with h20|h20;all_goals
    go_wp2_with fail
    refine(D1.out _ _ _ Y.out).mono ?_;rintro e w2 ⟨rfl,T⟩;have Q:g6 w2 d 107 (sV f) (iV .i64 j) (sV i) (sV B) (lV H XL I):=T.at_;have U:nH w2 w.heap.size 33 (iV .i64 k) (iV .i64 x) (iV .i64 y) (iV .i64 z) (sV s) (sV t):=(T.held _ (QZ _ (QY ..))).1;obtain⟨⟨m0,m1,m2,m3,m4⟩,n0,n1,n2,n3,n4⟩:=Q.cells;obtain⟨v0,v1,v2,v3,v4,v5⟩:=U.cells;have d2:=E4.out _ _ _ T;have I4:Hid (SC A 0 [] [(d,.cells #[sV f,iV .i64 j,sV i,sV HT,lV H XL I] 107 (0,0)),(w.heap.size,.cells #[iV .i64 k,iV .i64 x,iV .i64 y,iV .i64 z,sV s,sV t] 33 (0,0))] (w2.setCell ⟨d,3,none⟩ (sV HT)).drew):=(T.iM F0.out (sV HT) 3).drew;clear T Q U q0 q1 q2 q3 q4 g0 g1 g2 g3 g4 p0 p1 p2 p3 p4 p5 d1;go_upto_region 22 with fail
    go_region_with (go_at_call 69;refine(C7.out _ _ I4.out).mono ?_;rintro e w3 ⟨⟨c3,rfl⟩,B1⟩;have A3:Hid (SC A 500 [] [(d,.cells #[sV f,iV .i64 j,sV i,sV HT,lV H XL I] 107 (0,0)),(w.heap.size,.cells #[iV .i64 k,iV .i64 x,iV .i64 y,iV .i64 z,sV s,sV t] 33 (0,0))] w3):=B1;clear B1)
    all_goals
     have Q:g6 w3 d 107 (sV f) (iV .i64 j) (sV i) (sV HT) (lV H XL I):=A3.out.at_;obtain⟨⟨r0,r1,r2,r3,r4⟩,_⟩:=Q.cells;clear Q;go_wp2_with fail
     refine(C3.out _ _ _ _ _ _ _ F3.out.1 F3.out.2.1 A8.out A3.out).mono ?_;rintro e w5 ⟨⟨b5,rfl⟩,hR⟩;have HR:Hid (dE l w R O M 5000 w5):=hR;clear hR;go_wp2_with fail
     go_ret
     exact⟨⟨b5,rfl⟩,HR.out⟩
  by_cases q35:k=35
  ·have k35:Hid (k=35):=q35;clear A9 q33 q35 kq;have H3:(k == 31)=false:=by rw[k35.out];rfl
   have H4:(k == 32)=false:=by rw[k35.out];rfl
   have H5:(k == 33)=false:=by rw[k35.out];rfl
   have L0:(k == 35)=true:=by simpa using k35.out
   clear k35 D0 C9 C5 C6 C7 C4 D1 C2 C0 A4 C8 C3 F0;have B2:((s.size:Int)=20)\/(¬(s.size:Int)=20):=by omega
   rcases B2 with h20|h20;all_goals
    go_wp2_with fail
    refine(C1.out _ _ _ Y.out).mono ?_;rintro e w5 ⟨⟨b5,rfl⟩,hR⟩;have HR:Hid (dE l w R O M 5000 w5):=hR;clear hR;go_wp2_with fail
    go_ret
    exact⟨⟨b5,rfl⟩,HR.out⟩
  have kk:Hid (k≠31/\k≠32/\k≠33/\k≠35):=⟨kq.out.1,kq.out.2,q33,q35⟩
  clear kq q33 q35;have H3:(k == 31)=false:=by simpa using kk.out.1
  have H4:(k == 32)=false:=by simpa using kk.out.2.1
  have H5:(k == 33)=false:=by simpa using kk.out.2.2.1
  have L0:(k == 35)=false:=by simpa using kk.out.2.2.2
  have F6:Hid (s.size<=1073741824):=hs;have I0:Hid (∀E W,SC A 0 [] E W->Calls yP 71 #[iV .i64 y] W fun e w'=>(∃v:yB,e=rV (sV v)/\v.size<=8)/\SC A 0 [] E w'):=fun E W G=>(Nm W y C8.out).mono fun _ _ ⟨h1,h2⟩=>⟨h1,G.below h2⟩
  clear kk D0 C9 C5 C6 C7 C4 C1 C3;generalize hHT:ai t=HT at*;clear hHT;have I7:Hid (∀(v:yB) W,SC A 0 [] [(d,.cells #[sV f,iV .i64 j,sV i,sV B,lV H XL I] 107 (0,0)),(w.heap.size,.cells #[iV .i64 k,iV .i64 x,iV .i64 y,iV .i64 z,sV s,sV t] 33 (0,0))] W->v.size<=8->Calls yP 34 #[lV H XL I,sV HT,sV v] W fun e w'=>∃(q:Option Addr) (D r:Nat),e=rV (lV q D r)/\Hid (∃C J,C=cz L HT v/\D=C.length/\(∀X,(∀b∈J,X.heap[b.1]? =some b.2)->dP X (lV q D r) C)/\(∀g,(Value.slice q D r).ownBlock=some g->∃o,(g,o)∈J)/\(∀b∈J,b.1≠d)/\SC A 0 [] ((d,.cells #[sV f,iV .i64 j,sV i,sV B,lV H XL I] 107 (0,0))::(w.heap.size,.cells #[iV .i64 k,iV .i64 x,iV .i64 y,iV .i64 z,sV s,sV t] 33 (0,0))::J) w')):=fun v W G hv=>by
   obtain⟨_,_,E2,_⟩:=A4.out;have k0:=A9.out _ _ _ G;have E1:dP W (lV H XL I) L:=by have:=k0.at_;unfold a6.sv at this;rw[<-E2];exact this
   have J9:=k0.len;have h3:=G.bt.size;refine(yI W _ L HT v E1 (by show L.length<_;have:L.length<4000000000:=J9;omega)).mono ?_;rintro e w' ⟨⟨v',he,ho⟩,J5⟩;obtain⟨q,r,K5,_⟩:=dr ho;subst K5;obtain⟨J,G6,A6,A1⟩:=Ka ho;have G8:d<W.heap.size:=(Q0.1 G.at_).1;refine⟨q,_,r,he,cz L HT v,J,rfl,rfl,fun X J4=>l9 (A1 X J4) h3,A6,fun b S=>by have:=(G6 b S).2;omega,?_⟩;exact(G.GH J5 J G6).drop (fun _ ht=>ht) fun b S=>by
    rcases Rh.1 S with rfl|S
    ·exact Ru _ (QY ..)
    ·rcases Rh.1 S with rfl|S
     ·exact Ru _ (QZ _ (QY ..))
     ·exact Rw _ S
  have H9:Hid (∀(v:yB) q D r C J w5,C=cz L HT v->D=C.length->v.size<=8->(∀X,(∀b∈J,X.heap[b.1]? =some b.2)->dP X (lV q D r) C)->(∀g,(Value.slice q D r).ownBlock=some g->∃o,(g,o)∈J)->SC A 0 [] ((d,.cells #[sV f,iV .i64 j,sV i,sV B,lV q D r] 107 (0,0))::(w.heap.size,.cells #[iV .i64 k,iV .i64 x,iV .i64 y,iV .i64 z,sV s,sV t] 33 (0,0))::J) w5->mB l w R O M ⟨f,j,i,B,q,r,C⟩ d w.heap.size (.cells #[iV .i64 k,iV .i64 x,iV .i64 y,iV .i64 z,sV s,sV t] 33 (0,0)) w5):=fun v q D r C J w5 e1 e2 hv A1 A6 hS=>by
   have k0:=A9.out _ _ _ hS;have A7:=hS.held;rw[C0.out] at hS;obtain⟨l6,D6,m6,K8,D8⟩:=C2.out.GG hS;have E0:∀b∈J,b∈((d,.cells #[sV f,iV .i64 j,sV i,sV B,lV q D r] 107 (0,0))::(w.heap.size,.cells #[iV .i64 k,iV .i64 x,iV .i64 y,iV .i64 z,sV s,sV t] 33 (0,0))::J):=fun b S=>QZ _ (QZ _ S)
   have K4:∀p∈cz L HT v,p.1.size<=1073741824/\p.2.size<=1073741824:=AD k0.small A8.out (by omega);have K7:=wN L HT v;obtain⟨_,_,E2,K9⟩:=A4.out;refine⟨l6,_,⟨m6.mono fun x hx=>.inl hx,K8,⟨rfl,rfl,rfl,rfl,rfl,rfl,rfl⟩,rfl,rfl,⟨k0.addr,k0.n,k0.aj,k0.code,?_,?_,?_⟩,fun g hg=>?_,?_,D8 _ (QY ..),(A7 _ (QZ _ (QY ..))).1,D8 _ (QZ _ (QY ..))⟩⟩
   ·show dP w5 (lV q C.length r) C;rw[<-e2];exact A1 w5 fun b S=>(A7 b (E0 b S)).1
   ·show C.length<4000000000;rw[e1];omega
   ·show ∀p∈C,_;rw[e1];exact K4
   ·have J8:(Value.slice q D r).ownBlock=some g:=by rw[e2];exact hg
    obtain⟨o,ho⟩:=A6 g J8;exact⟨(Q0.1 (A7 _ (E0 _ ho)).1).1,D8 _ (E0 _ ho)⟩
   ·show w5.heap[d]? =some (.cells #[sV f,iV .i64 j,sV i,sV B,lV q C.length r] 107 (0,0));rw[<-e2];exact(A7 _ (QY ..)).1
  have H7:Hid (∀(v:yB) q D r C J w4,C=cz L HT v->v.size<=8->(∀X,(∀b∈J,X.heap[b.1]? =some b.2)->dP X (lV q D r) C)->SC A 0 [] ((d,.cells #[sV f,iV .i64 j,sV i,sV B,lV q D r] 107 (0,0))::(w.heap.size,.cells #[iV .i64 k,iV .i64 x,iV .i64 y,iV .i64 z,sV s,sV t] 33 (0,0))::J) w4->Calls yP 72 #[lV q D r] w4 fun e w'=>bE e/\SC A 0 [] ((d,.cells #[sV f,iV .i64 j,sV i,sV B,lV q D r] 107 (0,0))::(w.heap.size,.cells #[iV .i64 k,iV .i64 x,iV .i64 y,iV .i64 z,sV s,sV t] 33 (0,0))::J) w'):=fun v q D r C J w4 e1 hv A1 hS=>by
   have k0:=A9.out _ _ _ hS;have K7:=wN L HT v;obtain⟨_,_,E2,K9⟩:=A4.out;have A7:=hS.held;have E1:=A1 w4 fun b S=>(A7 b (QZ _ (QZ _ S))).1
   exact(Nv w4 _ C E1 (by rw[e1];omega) (by rw[e1];exact AD k0.small A8.out (by omega)) hS.bt).mono fun _ _ ⟨h1,h2⟩=>⟨h1,hS.below h2⟩
  have I9:Hid (∀(v:yB) C,C=cz L HT v->C.length<=(bz R.m f).1.aS.length+1):=fun v C e1=>by
   obtain⟨B3,J7,_,_⟩:=A4.out;rw[B3,J7,e1];exact wN L HT v
  generalize wc=WC at*;go_upto_if 31 with fail
  go_cut [7] (fun v wx=>∃V:Int,v=iV .i64 V/\wx=WC)
  case first=>
   have B2:((s.size:Int)=20)\/(¬(s.size:Int)=20):=by omega
   rcases B2 with h20|h20;all_goals
    go_wp2_with fail
    go_meet
    exact⟨_,rfl,rfl⟩
  case rest=>
   obtain⟨V,rfl,K6⟩:=hcut;subst K6;go_wp2_with fail
   refine(D1.out _ _ _ Y.out).mono ?_;rintro e w2 ⟨rfl,T⟩;have F4:Hid (SC A 0 [] [(d,.cells #[sV f,iV .i64 j,sV i,sV B,lV H XL I] 107 (0,0)),(w.heap.size,.cells #[iV .i64 k,iV .i64 x,iV .i64 y,iV .i64 z,sV s,sV t] 33 (0,0))] w2):=T;have Q:g6 w2 d 107 (sV f) (iV .i64 j) (sV i) (sV B) (lV H XL I):=T.at_;have U:nH w2 w.heap.size 33 (iV .i64 k) (iV .i64 x) (iV .i64 y) (iV .i64 z) (sV s) (sV t):=(T.held _ (QZ _ (QY ..))).1;obtain⟨v0,v1,v2,v3,v4,v5⟩:=U.cells;clear T Q U q0 q1 q2 q3 q4 g0 g1 g2 g3 g4 p0 p1 p2 p3 p4 p5 d1;go_upto_if 120 with fail
   go_cut [14] (fun u wx=>∃v:yB,u=sV v/\v.size<=8/\Hid (SC A 0 [] [(d,.cells #[sV f,iV .i64 j,sV i,sV B,lV H XL I] 107 (0,0)),(w.heap.size,.cells #[iV .i64 k,iV .i64 x,iV .i64 y,iV .i64 z,sV s,sV t] 33 (0,0))] wx))
   case first=>
    by_cases L3:0<y
    ·go_wp2_with fail
     refine(I0.out _ _ F4.out).mono ?_;rintro e w3 ⟨⟨v,rfl,hv⟩,B1⟩;have A3:Hid (SC A 0 [] [(d,.cells #[sV f,iV .i64 j,sV i,sV B,lV H XL I] 107 (0,0)),(w.heap.size,.cells #[iV .i64 k,iV .i64 x,iV .i64 y,iV .i64 z,sV s,sV t] 33 (0,0))] w3):=B1;clear B1;go_wp2_with fail
     go_meet
     exact⟨v,rfl,hv,A3⟩
    ·go_wp2_with fail
     go_meet
     exact⟨⟨#[]⟩,rfl,by decide,F4⟩
   case rest=>
    obtain⟨v,rfl,hv,A3⟩:=hcut;have I6:Hid (v.size<=1073741824):=by show _<=_;omega
    have Q:g6 wc d 107 (sV f) (iV .i64 j) (sV i) (sV B) (lV H XL I):=A3.out.at_;obtain⟨⟨q0,q1,q2,q3,q4⟩,_⟩:=Q.cells;clear Q v0 v1 v2 v3 v4 v5;go_wp2_with fail
    refine(I7.out v _ A3.out hv).mono ?_;rintro e w4 ⟨q,D,r,rfl,F8⟩;obtain⟨C,J,e1,e2,A1,A6,G7,D3⟩:=F8.out;have I5:Hid (v.size<=8):=hv;have I8:Hid (C.length<=(bz R.m f).1.aS.length+1):=I9.out v C e1;have H0:∀b∈((w.heap.size,Obj.cells #[iV .i64 k,iV .i64 x,iV .i64 y,iV .i64 z,sV s,sV t] 33 (0,0))::J:List (Nat×Obj)),b.1≠d:=fun b S=>by
     rcases Rh.1 S with rfl|S
     ·exact K2
     ·exact G7 b S
    have D4:=D3.iM H0 (lV q D r) 4;have I3:Hid (SC A 0 [] ((d,.cells #[sV f,iV .i64 j,sV i,sV B,lV q D r] 107 (0,0))::(w.heap.size,.cells #[iV .i64 k,iV .i64 x,iV .i64 y,iV .i64 z,sV s,sV t] 33 (0,0))::J) (w4.setCell ⟨d,4,none⟩ (lV q D r))):=D4;have E6:Hid (Calls yP 72 #[lV q D r] (w4.setCell ⟨d,4,none⟩ (lV q D r)) fun e w'=>bE e/\SC A 0 [] ((d,.cells #[sV f,iV .i64 j,sV i,sV B,lV q D r] 107 (0,0))::(w.heap.size,.cells #[iV .i64 k,iV .i64 x,iV .i64 y,iV .i64 z,sV s,sV t] 33 (0,0))::J) w'):=H7.out v q D r C J _ e1 hv A1 D4;have E9:Hid (∀w5,SC A 0 [] ((d,.cells #[sV f,iV .i64 j,sV i,sV B,lV q D r] 107 (0,0))::(w.heap.size,.cells #[iV .i64 k,iV .i64 x,iV .i64 y,iV .i64 z,sV s,sV t] 33 (0,0))::J) w5->mB l w R O M ⟨f,j,i,B,q,r,C⟩ d w.heap.size (.cells #[iV .i64 k,iV .i64 x,iV .i64 y,iV .i64 z,sV s,sV t] 33 (0,0)) w5):=fun w5 h5=>H9.out v q D r C J w5 e1 e2 I5.out A1 A6 h5
    have Q:g6 w4 d 107 (sV f) (iV .i64 j) (sV i) (sV B) (lV H XL I):=D3.at_;obtain⟨⟨m0,m1,m2,m3,m4⟩,n0,n1,n2,n3,n4⟩:=Q.cells;have L1:Hid (D=C.length):=e2;clear D3 D4 A1 A6 G7 H0 e1 e2 Q q0 q1 q2 q3 q4 hv F8;go_wp2_with fail
    refine E6.out.mono ?_;rintro e w6 ⟨⟨J2,rfl⟩,G5⟩;have D9:=E9.out w6 G5;have H8:Hid (mB l w R O M ⟨f,j,i,B,q,r,C⟩ d w.heap.size (.cells #[iV .i64 k,iV .i64 x,iV .i64 y,iV .i64 z,sV s,sV t] 33 (0,0)) w6):=D9;obtain⟨y1,y2,⟨yb,y3⟩,y4⟩:=D9.yes;have J1:Hid (mB l w R O M ⟨f,j,i,B,q,r,C⟩ d w.heap.size (.cells #[iV .i64 k,iV .i64 x,iV .i64 y,iV .i64 z,sV s,sV t] 33 (0,0)) (w6.setCell ⟨R.tt,0,none⟩ (bV true))):=y1;clear G5 D9 y1 m0 m1 m2 m3 m4 n0 n1 n2 n3 n4 I3 E6 E9;go_upto_if 133 with fail
    go_cut [] (fun wx=>Hid (mB l w R O M ⟨f,j,i,B,q,r,C⟩ d w.heap.size (.cells #[iV .i64 k,iV .i64 x,iV .i64 y,iV .i64 z,sV s,sV t] 33 (0,0)) wx))
    case first=>
     cases J2
     ·go_wp2_with fail
      go_meet
      exact H8
     ·go_wp2_with fail
      go_meet
      exact J1
    case rest=>
     have E8:Hid (mB l w R O M ⟨f,j,i,B,q,r,C⟩ d w.heap.size (.cells #[iV .i64 k,iV .i64 x,iV .i64 y,iV .i64 z,sV s,sV t] 33 (0,0)) wc):=hcut;obtain⟨e1,e2,e3⟩:=E8.out.cells;have U:nH wc w.heap.size 33 (iV .i64 k) (iV .i64 x) (iV .i64 y) (iV .i64 z) (sV s) (sV t):=e3;obtain⟨a0,a1,a2,a3,a4,a5⟩:=U.cells;have E3:Hid (Calls yP 73 #[pV (some ⟨R.sp,0,none⟩),sV s,sV HT,sV v] wc.drew fun e w'=>dc e/\pL l w R O M ⟨f,j,i,B,q,r,C⟩ d w.heap.size (.cells #[iV .i64 k,iV .i64 x,iV .i64 y,iV .i64 z,sV s,sV t] 33 (0,0)) w'):=E8.out.call s HT v F6.out A8.out I6.out hN;clear e2 e3 U hcut y2 y3 y4;go_upto_region 34 with fail
     go_cut [16] (fun cv wx=>∃c:Nat,cv=iV .i64 c/\Hid (pL l w R O M ⟨f,j,i,B,q,r,C⟩ d w.heap.size (.cells #[iV .i64 k,iV .i64 x,iV .i64 y,iV .i64 z,sV s,sV t] 33 (0,0)) wx))
     case first=>
      go_region_with (go_at_call 73;refine E3.out.mono ?_;rintro e w7 ⟨⟨c7,rfl⟩,G3⟩;have B5:Hid (pL l w R O M ⟨f,j,i,B,q,r,C⟩ d w.heap.size (.cells #[iV .i64 k,iV .i64 x,iV .i64 y,iV .i64 z,sV s,sV t] 33 (0,0)) w7):=G3;clear G3)
      all_goals
       go_wp2_with fail
       go_meet
       exact⟨c7,rfl,B5⟩
     case rest=>
      obtain⟨c7,rfl,B5⟩:=hcut;obtain⟨e2,e3⟩:=B5.out.cells;have Q:g6 wc d 107 (sV f) (iV .i64 j) (sV i) (sV B) (lV q C.length r):=e2;obtain⟨⟨b0,b1,b2,b3,b4⟩,_⟩:=Q.cells;have E7:Hid (Calls yP 66 #[pV (some ⟨R.rb,0,none⟩),iV .i64 c7,iV .i64 V,gV #[sV f,iV .i64 j,sV i,sV B,lV q C.length r]] wc fun e w'=>bE e/\dE l w R O M 3000 w'/\w'.heap[w.heap.size]? =some (.cells #[iV .i64 k,iV .i64 x,iV .i64 y,iV .i64 z,sV s,sV t] 33 (0,0))):=B5.out.kept c7 V I8.out hN hm;generalize C.length=WL at*;clear e2 e3 Q a0 a1 a2 a3 a4 a5 e1 E3;go_wp2_with fail
      refine E7.out.mono ?_;rintro e w8 ⟨⟨b8,rfl⟩,D2,H1⟩;have F2:Hid (dE l w R O M 5000 w8):=D2.mono (by omega);have H6:Hid (Calls yP 25 #[pV (some ⟨R.rb,0,none⟩),sV s,sV HT] w8 fun e w'=>bE e/\dE l w R O M 5000 w'):=(D2.asks s HT F6.out A8.out (by omega)).mono fun _ _ ⟨h1,h2⟩=>⟨h1,h2.mono (by omega)⟩
      have U:nH w8 w.heap.size 33 (iV .i64 k) (iV .i64 x) (iV .i64 y) (iV .i64 z) (sV s) (sV t):=H1;obtain⟨a0,a1,a2,a3,a4,a5⟩:=U.cells;clear D2 H1 U b0 b1 b2 b3 b4 E7;have J6:b8=false\/(b8=true/\(V != 0)=true)\/(b8=true/\(V != 0)=false):=by
       cases b8<;>cases (V != 0)<;>simp
      rcases J6 with rfl|⟨rfl,h1⟩|⟨rfl,h1⟩
      ·go_wp2_with fail
       go_ret
       exact⟨⟨_,rfl⟩,F2.out⟩
      ·go_wp2_with fail
       go_ret
       exact⟨⟨_,rfl⟩,F2.out⟩
      ·go_wp2_with fail
       refine H6.out.mono ?_;rintro e w9 ⟨⟨b9,rfl⟩,G4⟩;have I1:Hid (dE l w R O M 5000 w9):=G4;clear G4;go_wp2_with fail
       go_ret
       exact⟨⟨b9,rfl⟩,I1.out⟩
end Go.Proofs.YtiimkkahmpmhdaaGreatDoor
