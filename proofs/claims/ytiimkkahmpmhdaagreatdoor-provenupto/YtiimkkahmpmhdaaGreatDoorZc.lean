import Derived.Test.YtiimkkahmpmhdaaGreatDoorV
open Go.Proofs.Tryz
open Go.Proofs.Tryz renaming prog→yP
open Go.Value renaming string→sV,pointer→pV,int→iV,slice→lV,bool→bV,tuple→tV,agg→gV
open Go.Ending renaming returned→rV
namespace Go.Proofs.YtiimkkahmpmhdaaGreatDoor
open Go.RowKit
set_option maxRecDepth 100000
set_option maxHeartbeats 0
set_option linter.all false
theorem rwrite1{l w R H G}(h:bS l w R H G)(k x y z:Int)(kq:Hid (k=31\/k=32))(hy:Rg y)(s t:yB)(hs:s.size<=1073741824)(ht:t.size<=1073741824)(hN:R.N+9000<4000000000)(hm:aR R.m+2<1000000000):
 Calls yP 29 #[pV (some ⟨R.rb,0,none⟩),fX k x y z s t] w fun e w'=>bE e/\dE l w R H G 5000 w':=by
 have E:=h.start.box #[iV .i64 k,iV .i64 x,iV .i64 y,iV .i64 z,sV s,sV t] 33;obtain⟨j,A0⟩:=yX (w.alloc (.cells #[iV .i64 k,iV .i64 x,iV .i64 y,iV .i64 z,sV s,sV t] 33))
 rw[<-A0] at E;obtain⟨A,C⟩:=yX (R.arg l w H G)
 have T:A.sp=R.sp:=by rw[C];rfl
 have D9:A.N=R.N:=by rw[C];rfl
 have D0:A.w=w:=by rw[C];rfl
 rw[<-C] at E;have D6:Hid (SC A 0 [] [(w.heap.size,.cells #[iV .i64 k,iV .i64 x,iV .i64 y,iV .i64 z,sV s,sV t] 33 (0,0))] j):=E;have C8:Hid (SC A 0 [] [(w.heap.size,.cells #[iV .i64 k,iV .i64 x,iV .i64 y,iV .i64 z,sV s,sV t] 33 (0,0))] j.drew):=E.drew;have C4:Hid (SC A 0 [] [(j.heap.size,.cells #[sV ⟨#[]⟩,iV .i64 0,sV ⟨#[]⟩,sV ⟨#[]⟩,lV none 0 0] 107 (0,0)),(w.heap.size,.cells #[iV .i64 k,iV .i64 x,iV .i64 y,iV .i64 z,sV s,sV t] 33 (0,0))] (j.alloc (.cells #[sV ⟨#[]⟩,iV .i64 0,sV ⟨#[]⟩,sV ⟨#[]⟩,lV none 0 0] 107)).drew):=(E.box _ _).drew;have D4:j.heap.size=w.heap.size+1:=by rw[A0];simp
 have C9:Hid (j.heap.size=w.heap.size+1):=D4;clear D4;have Q:pN A R.rb R.tt R.mv R.bv R.sv R.yes R.m R.base R.seen:=by rw[C];exact h.facts
 have L:Hid (∀K I W,SC A K [] I W->Calls yP 53 #[R.mv,sV s] W fun e w'=>e=rV (tV #[eC (bz R.m s).1,bV (bz R.m s).2])/\SC A K [] I w'):=fun K I W i=>i.find (Q.cells _ _ _ _ i).2.1 Q.nm s
 obtain⟨⟨_,_,c2,_⟩,D2,_⟩:=Q.cells _ _ _ _ E;obtain⟨ma,mc,D3⟩:=D2.form;have A1:nH j w.heap.size 33 (iV .i64 k) (iV .i64 x) (iV .i64 y) (iV .i64 z) (sV s) (sV t):=E.at_;obtain⟨o0,o1,o2,o3,o4,o5⟩:=A1.cells;have E3:w.heap.size<j.heap.size:=Rj j _ o0;have E2:R.rb<j.heap.size:=Rj j _ c2;rw[D3] at c2 L;have D8:Hid (eC (bz R.m s).1=eC (bz R.m s).1):=rfl;obtain⟨F,D⟩:=yX ((bz R.m s).1)
 rw[<-D] at L;obtain⟨f,u,r,q,o,p,B⟩:=F;unfold eC a6.sv at L;simp only at L;have A7:=sU (m:=R.m) (a:=s);rw[<-D] at A7;have A8:f=s:=A7;have A6:=sT (a:=s) h.y.lm;rw[<-D] at A6;have A3:=te (m:=R.m) (a:=s);rw[<-D] at A3;simp only at A3;have A2:∀K I W,SC A K [] I W->iA W ⟨f,u,r,q,o,p,B⟩:=fun K I W i=>by
  have:=kI (addr:=s) (Q.cells _ _ _ _ i).2.1 hs;rw[<-D] at this;exact this
 have B5:Hid (∀(er O n':Int) (Z c':yB) d W,Rg n'->Z.size<=1073741824->c'.size<=1073741824->SC A 500 [] d W->Calls yP 66 #[pV (some ⟨R.rb,0,none⟩),iV .i64 er,iV .i64 O,gV #[sV f,iV .i64 n',sV Z,sV c',lV o B.length p]] W fun e w'=>bE e/\dE l w R H G 5000 w'):=fun er O n' Z c' d W h1 h2 h3 i=>by
  have k0:=A2 _ _ _ i;rw[C] at i;refine(oW h i er O ⟨f,n',Z,c',o,p,B⟩ ⟨k0.addr,h1,h2,h3,k0.at_,k0.len,k0.small⟩ (fun g hg=>.inl ⟨?_,A6 g hg⟩) ?_ (by omega) hm).mono fun _ _ ⟨h1,h2⟩=>⟨h1,h2.mono (by omega)⟩
  ·have k1:=kI (addr:=s) h.y.pm hs;rw[<-D] at k1;exact(k1.at_.lt g hg).2
  ·show B.length<=(bz R.m f).1.aS.length+1;rw[A8,<-D];show B.length<=B.length+1;omega
 have B7:Hid (∀d W,SC A 0 [] d W->Calls yP 65 #[pV (some ⟨R.sp,0,none⟩),sV s,iV .i64 y] W fun e w'=>dc e/\SC A 500 [] d w'):=fun d W i=>by
  have:=qe i s (by unfold maxLen;omega) y hy (by omega);rw[T] at this;exact this
 have B8:Hid (∀d W,SC A 0 [] d W->Calls yP 68 #[pV (some ⟨R.sp,0,none⟩),sV s,sV t] W fun e w'=>dc e/\SC A 500 [] d w'):=fun d W i=>by
  have:=qh i s (by unfold maxLen;omega) t (by unfold maxLen;omega) (by omega);rw[T] at this;exact this
 have B9:Hid (∀d W,SC A 0 [] d W->Calls yP 69 #[pV (some ⟨R.sp,0,none⟩),sV s,sV (ai t)] W fun e w'=>dc e/\SC A 500 [] d w'):=fun d W i=>by
  have:=qf i s (by unfold maxLen;omega) (ai t) (by omega);rw[T] at this;exact this
 have B6:Hid (∀W,Calls yP 67 #[sV t] W fun e w'=>bE e/\w'=W):=fun W=>sL t (by unfold maxLen;omega) W
 have C7:Hid (∀K d W,SC A K [] d W->Calls yP 24 #[sV t] W fun e w'=>e=rV (sV (ai t))/\SC A K [] d w'):=fun K d W i=>i.sum t (by unfold maxLen;omega)
 have B3:Hid ((ai t).size<=1073741824):=by rw[show(ai t).size=32 from eL _];show _<=_;decide
 have B2:Hid (∀(O:Int) d W,SC A 0 [] d W->Calls yP 70 #[pV (some ⟨R.rb,0,none⟩),sV s,iV .i64 O] W fun e w'=>bE e/\dE l w R H G 5000 w'):=fun O d W i=>by
  rw[C] at i;exact(sf h i s hs O (by omega) hm).mono fun _ _ ⟨h1,h2⟩=>⟨h1,h2.mono (by omega)⟩
 have D5:Hid (∀K d W,SC A K [] d W->W.cell? ⟨R.rb,1,none⟩=some (pV (some ⟨R.sp,0,none⟩))):=fun K d W i=>by
  have:=(Q.cells _ _ _ _ i).1.2.1;rw[T] at this;exact this
 have Y:Hid (Rg u/\r.size<=1073741824/\q.size<=1073741824):=by have k0:=A2 _ _ _ E;exact⟨k0.n,k0.aj,k0.code⟩
 have X:Hid (f=s/\(bz R.m s).1=⟨f,u,r,q,o,p,B⟩/\B.length<=aR R.m):=⟨A8,D.symm,A3⟩
 unfold fX;clear D8 A8 A7 D A3;generalize hXL:B.length=XL at*;generalize hMN:R.m.length=MN at*;have B0:Hid (f=s/\(bz R.m s).1=⟨f,u,r,q,o,p,B⟩/\B.length=XL/\B.length<=aR R.m):=⟨X.out.1,X.out.2.1,hXL,by rw[hXL];exact X.out.2.2⟩
 clear X hXL hMN;go_enter func29,ntmps29
 go_upto_region 1 with fail
 rw[<-A0];clear A0;go_cut [5] (fun v wx=>∃c:Nat,v=pV (some ⟨c,0,none⟩)/\Hid (SC A 0 [] [(c,.cells #[sV f,iV .i64 u,sV r,sV q,lV o XL p] 107 (0,0)),(w.heap.size,.cells #[iV .i64 k,iV .i64 x,iV .i64 y,iV .i64 z,sV s,sV t] 33 (0,0))] wx)/\Hid (w.heap.size≠c))
 case first=>
  go_region_with (first| (go_at_call 53;refine(L.out _ _ _ C8.out).mono ?_;rintro e w2 ⟨rfl,M⟩;have B1:Hid (∃c:Nat,c=w2.heap.size/\SC A 0 [] [(c,.cells #[sV f,iV .i64 u,sV r,sV q,lV o XL p] 107 (0,0)),(w.heap.size,.cells #[iV .i64 k,iV .i64 x,iV .i64 y,iV .i64 z,sV s,sV t] 33 (0,0))] (w2.alloc (.cells #[sV f,iV .i64 u,sV r,sV q,lV o XL p] 107))/\w.heap.size≠c):=⟨_,rfl,M.box _ _,M.fresh _ (QY ..)⟩;clear M) | (go_at_call 53;refine(L.out _ _ _ C4.out).mono ?_;rintro e w2 ⟨rfl,M⟩;have D1:g6 w2 j.heap.size 107 (sV ⟨#[]⟩) (iV .i64 0) (sV ⟨#[]⟩) (sV ⟨#[]⟩) (lV none 0 0):=M.at_;obtain⟨⟨z0,z1,z2,z3,z4⟩,f0,f1,f2,f3,f4⟩:=D1.cells;have B1:Hid (∃c:Nat,c=j.heap.size/\SC A 0 [] [(c,.cells #[sV f,iV .i64 u,sV r,sV q,lV o XL p] 107 (0,0)),(w.heap.size,.cells #[iV .i64 k,iV .i64 x,iV .i64 y,iV .i64 z,sV s,sV t] 33 (0,0))] (((((w2.setCell ⟨j.heap.size,0,none⟩ (sV f)).setCell ⟨j.heap.size,1,none⟩ (iV .i64 u)).setCell ⟨j.heap.size,2,none⟩ (sV r)).setCell ⟨j.heap.size,3,none⟩ (sV q)).setCell ⟨j.heap.size,4,none⟩ (lV o XL p))/\w.heap.size≠c):=⟨_,rfl,SC.rZ M (by have:=C9.out;omega),by have:=C9.out;omega⟩;clear M D1))
  all_goals
   go_wp2_with fail
   go_meet
   obtain⟨c,rfl,q1,q2⟩:=B1.out;exact⟨_,rfl,q1,q2⟩
 case rest=>
  obtain⟨c,rfl,P,C1⟩:=hcut;have A4:∀b∈[((w.heap.size,Obj.cells #[iV .i64 k,iV .i64 x,iV .i64 y,iV .i64 z,sV s,sV t] 33 (0,0)):Nat×Obj)],b.1≠c:=fun b E0=>by rw[Q2.1 E0];exact C1.out
  have J:g6 wc c 107 (sV f) (iV .i64 u) (sV r) (sV q) (lV o XL p):=P.out.at_;have A1:nH wc w.heap.size 33 (iV .i64 k) (iV .i64 x) (iV .i64 y) (iV .i64 z) (sV s) (sV t):=(P.out.held _ (QZ _ (QY ..))).1;obtain⟨⟨q0,q1,q2,q3,q4⟩,g0,g1,g2,g3,g4⟩:=J.cells;obtain⟨p0,p1,p2,p3,p4,p5⟩:=A1.cells;have d1:=D5.out _ _ _ P.out;have E8:w.heap.size≠c:=C1.out;have E1:w.heap.size<=c:=by have:=(P.out.held _ (QY ..)).2;rw[D0] at this;exact this
  have E4:=h.y.ij;have E9:R.rb≠c:=by omega
  have C0:Hid (∀b∈[((w.heap.size,Obj.cells #[iV .i64 k,iV .i64 x,iV .i64 y,iV .i64 z,sV s,sV t] 33 (0,0)):Nat×Obj)],b.1≠c):=A4;have C6:Hid (SC A 0 [] [(c,.cells #[sV f,iV .i64 y,sV r,sV q,lV o XL p] 107 (0,0)),(w.heap.size,.cells #[iV .i64 k,iV .i64 x,iV .i64 y,iV .i64 z,sV s,sV t] 33 (0,0))] (wc.setCell ⟨c,1,none⟩ (iV .i64 y)).drew):=(P.out.iM A4 (iV .i64 y) 1).drew;have C5:Hid (SC A 0 [] [(c,.cells #[sV f,iV .i64 u,sV t,sV q,lV o XL p] 107 (0,0)),(w.heap.size,.cells #[iV .i64 k,iV .i64 x,iV .i64 y,iV .i64 z,sV s,sV t] 33 (0,0))] (wc.setCell ⟨c,2,none⟩ (sV t)).drew):=(P.out.iM A4 (sV t) 2).drew;have B4:Hid (bS l w R H G):=h;have A9:Hid (A=R.arg l w H G):=C;have C3:Hid (Rg y):=hy;have C2:Hid (∀K I W,SC A K [] I W->iA W ⟨f,u,r,q,o,p,B⟩):=A2;clear o0 o1 o2 o3 o4 o5 c2 E3 E2 L C8 C4 D6 J A1 A4 E1 E4 h C A6 A2 Q D2 D3 E T D9 D0 hy;by_cases q31:k=31
  ·have k31:Hid (k=31):=q31;clear C2 q31 kq;have E7:(k == 31)=true:=by simpa using k31.out
   clear k31 C5 B8 B9 B6 C7 B2 B4 A9 B0 B3 C0;have A5:((s.size:Int)=20/\y<0)\/((s.size:Int)=20/\¬y<0)\/(¬(s.size:Int)=20):=by omega
   rcases A5 with⟨h20,E6⟩|⟨h20,E6⟩|h20;all_goals
    go_upto_region 10 with fail
    go_region_with (go_at_call 65;refine(B7.out _ _ C6.out).mono ?_;rintro e w3 ⟨⟨c3,rfl⟩,V⟩;have S:Hid (SC A 500 [] [(c,.cells #[sV f,iV .i64 y,sV r,sV q,lV o XL p] 107 (0,0)),(w.heap.size,.cells #[iV .i64 k,iV .i64 x,iV .i64 y,iV .i64 z,sV s,sV t] 33 (0,0))] w3):=V;clear V)
    all_goals
     have J:g6 w3 c 107 (sV f) (iV .i64 y) (sV r) (sV q) (lV o XL p):=S.out.at_;obtain⟨⟨r0,r1,r2,r3,r4⟩,_⟩:=J.cells;clear J;go_wp2_with fail
     refine(B5.out _ _ _ _ _ _ _ C3.out Y.out.2.1 Y.out.2.2 S.out).mono ?_;rintro e w5 ⟨⟨b5,rfl⟩,U⟩;have HR:Hid (dE l w R H G 5000 w5):=U;clear U;go_wp2_with fail
     go_ret
     exact⟨⟨b5,rfl⟩,HR.out⟩
  have k32:Hid (k=32):=kq.out.resolve_left q31;clear C2 q31 kq;have E7:(k == 31)=false:=by rw[k32.out];rfl
  have F0:(k == 32)=true:=by simpa using k32.out
  have D7:Hid (t.size<=1073741824):=ht;clear k32 C6 B7 B9 C7 B2 B4 A9 B0 B3 C0 C3;have A5:((s.size:Int)=20)\/(¬(s.size:Int)=20):=by omega
  rcases A5 with h20|h20;all_goals
   go_wp2_with fail
   refine(B6.out _).mono ?_;rintro e wx ⟨⟨bl,rfl⟩,E5⟩;subst E5;cases bl
   all_goals
    go_upto_region 17 with fail
    go_region_with (go_at_call 68;refine(B8.out _ _ C5.out).mono ?_;rintro e w3 ⟨⟨c3,rfl⟩,V⟩;have S:Hid (SC A 500 [] [(c,.cells #[sV f,iV .i64 u,sV t,sV q,lV o XL p] 107 (0,0)),(w.heap.size,.cells #[iV .i64 k,iV .i64 x,iV .i64 y,iV .i64 z,sV s,sV t] 33 (0,0))] w3):=V;clear V)
    all_goals
     have J:g6 w3 c 107 (sV f) (iV .i64 u) (sV t) (sV q) (lV o XL p):=S.out.at_;obtain⟨⟨r0,r1,r2,r3,r4⟩,_⟩:=J.cells;clear J;go_wp2_with fail
     refine(B5.out _ _ _ _ _ _ _ Y.out.1 D7.out Y.out.2.2 S.out).mono ?_;rintro e w5 ⟨⟨b5,rfl⟩,U⟩;have HR:Hid (dE l w R H G 5000 w5):=U;clear U;go_wp2_with fail
     go_ret
     exact⟨⟨b5,rfl⟩,HR.out⟩
end Go.Proofs.YtiimkkahmpmhdaaGreatDoor
