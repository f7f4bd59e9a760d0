import Derived.Test.YteaodagofkcgbaaGreatDoorE
open Go.Proofs.Tryz
open Go.Proofs.Tryz renaming prog→yP
open Go.Value renaming string→sV,pointer→pV,int→iV,slice→lV,bool→bV,tuple→tV,agg→gV
open Go.Ending renaming returned→rV
namespace Go.Proofs.YteaodagofkcgbaaGreatDoor
open Go.RowKit
set_option maxRecDepth 100000
set_option maxHeartbeats 0
set_option linter.all false
def di(a:Nat->Int)(k:Nat):Nat->Int:=λj=>if j<k then nr a j else a j
def PV(a:Nat->Int)(k:Nat)(c0 c1 c2 c3 c4 u0 u1 u2 u3 u4:Int)(h5:k % 5=0)(c:iS a 0=c0/\iS a 1=c1/\iS a 2=c2/\iS a 3=c3/\iS a 4=c4)(e0:di a k k=u0) (e1:di a k (k+1)=u1) (e2:di a k (k+2)=u2) (e3:di a k (k+3)=u3) (e4:di a k (k+4)=u4) (j:Nat):cC (cC (cC (cC (cC (di a k) k (xo u0 (xo c4 (fs c1 1)))) (k+1) (xo u1 (xo c0 (fs c2 1)))) (k+2) (xo u2 (xo c1 (fs c3 1)))) (k+3) (xo u3 (xo c2 (fs c4 1)))) (k+4) (xo u4 (xo c3 (fs c0 1))) j=di a (k+5) j:=by
 obtain⟨rfl,rfl,rfl,rfl,rfl⟩:=c;subst e0 e1 e2 e3 e4;have n0:di a k k=a k:=by simp[di]
 have n1:di a k (k+1)=a (k+1):=by unfold di;rw[Ui (by omega)]
 have n2:di a k (k+2)=a (k+2):=by unfold di;rw[Ui (by omega)]
 have n3:di a k (k+3)=a (k+3):=by unfold di;rw[Ui (by omega)]
 have n4:di a k (k+4)=a (k+4):=by unfold di;rw[Ui (by omega)]
 rw[n0,n1,n2,n3,n4];unfold cC;by_cases j4:j=k+4
 .subst j4;rw[Uj rfl];simp only[di,Uj (show k+4<k+5 by omega),nr,show(k+4+4) % 5=3 by omega,show(k+4+1) % 5=0 by omega]
 rw[Ui j4];by_cases j3:j=k+3
 .subst j3;rw[Uj rfl];simp only[di,Uj (show k+3<k+5 by omega),nr,show(k+3+4) % 5=2 by omega,show(k+3+1) % 5=4 by omega]
 rw[Ui j3];by_cases j2:j=k+2
 .subst j2;rw[Uj rfl];simp only[di,Uj (show k+2<k+5 by omega),nr,show(k+2+4) % 5=1 by omega,show(k+2+1) % 5=3 by omega]
 rw[Ui j2];by_cases j1:j=k+1
 .subst j1;rw[Uj rfl];simp only[di,Uj (show k+1<k+5 by omega),nr,show(k+1+4) % 5=0 by omega,show(k+1+1) % 5=2 by omega]
 rw[Ui j1];by_cases j0:j=k
 .subst j0;rw[Uj rfl];simp only[di,Uj (show j<j+5 by omega),nr,show(j+4) % 5=4 by omega,show(j+1) % 5=1 by omega]
 rw[Ui j0];unfold di;by_cases b:j<k
 .rw[Uj b,Uj (by omega)]
 rw[Ui b,Ui (by omega)]
def PW(a:Nat->Int)(j:Nat)(h:j<25):di a 25 j=nr a j:=by simp[di,h]
def PX(a:Nat->Int)(t:Int)(w)(b:Nat)(H:cU w b a t):Calls yP 120 #[pV (qA b)] w λe w'=>e=rV (tV #[])/\cU w' b (nr a) t/\Kept b w w':=by
 go_enter func120,ntmps120
 go_wp2_with fail
 refine(uM 0 (by omega) a t _ b H).mono ?_;rintro e w1⟨rfl,n1,rfl⟩;go_wp2_with fail
 refine(uM 1 (by omega) a t _ b (H.drewN _)).mono ?_;rintro e w1⟨rfl,n2,rfl⟩;go_wp2_with fail
 refine(uM 2 (by omega) a t _ b (H.drewN _)).mono ?_;rintro e w1⟨rfl,n3,rfl⟩;go_wp2_with fail
 refine(uM 3 (by omega) a t _ b (H.drewN _)).mono ?_;rintro e w1⟨rfl,n4,rfl⟩;go_wp2_with fail
 refine(uM 4 (by omega) a t _ b (H.drewN _)).mono ?_;rintro e w1⟨rfl,n5,rfl⟩;go_wp2_with fail
 generalize hc0:iS a 0=c0;generalize hc1:iS a 1=c1;generalize hc2:iS a 2=c2;generalize hc3:iS a 3=c3;generalize hc4:iS a 4=c4;have y:yH (iS a 0=c0/\iS a 1=c1/\iS a 2=c2/\iS a 3=c3/\iS a 4=c4):=⟨hc0,hc1,hc2,hc3,hc4⟩
 clear hc0 hc1 hc2 hc3 hc4;go_loopg [7] 5 (λg r wr=>∃k:Nat,g=5 - k / 5/\k<=25/\yH (k % 5=0)/\r=iV .i64 k/\cU wr b (di a k) t/\Kept b w wr)
 .exact⟨0,rfl,by omega,rfl,rfl,(H.drewN _).congr (λj _=>by simp[di]),(Kept.refl b w).drewN _⟩
 obtain⟨k,x,R,h5,rfl,m,n⟩:=hrel;have z:=aa x;clear x;by_cases S:k<25
 .have h20:k<=20:=by have:=h5.o;omega
  have L:=aa n;clear n H;have d:=m;clear m;have g0:=d.at_ k (by omega);have f0:=d.free k;have A:=aa d;clear d;generalize hv:di a k k=u0 at g0;have M:=aa hv;clear hv;go_upto_region 8 with fail
  go_cut [] (λc=>cU c b (cC (di a k) k (xo u0 (xo c4 (fs c1 1)))) t/\Kept b wr c)
  .go_region_with (go_at_call 141;refine(qY _ 1 (by omega) _).mono ?_;rintro e w'⟨rfl,rfl⟩)
   all_goals (go_wp2_with fail;go_meet;exact⟨(A.o.set _ _ (by omega)).drew,((Kept.refl _ _).set _ _).drew⟩)
  obtain⟨f,q⟩:=hcut;have G:=aa q;clear q g0 f0;generalize wc=w1 at*;have g1:=f.at_ (k+1) (by omega);have f1:=f.free (k+1);have B:=aa f;clear f;rw[show(cC (di a k) k (xo u0 (xo c4 (fs c1 1)))) (k+1)=di a k (k+1) by simp[cC]] at g1;generalize hv:di a k (k+1)=u1 at g1;have N:=aa hv;clear hv;have A5:IntKind.i64.wrap ((k:Int)+1)=(k:Int)+1:=by rw[UY];omega
  have T:(k:Int)+1<25:=by omega
  have X:(0:Int)<=(k:Int)+1:=by omega
  have A1:((k:Int)+1).toNat=k+1:=by omega
  go_upto_region 9 with fail
  go_cut [] (λc=>cU c b (cC (cC (di a k) k (xo u0 (xo c4 (fs c1 1)))) (k+1) (xo u1 (xo c0 (fs c2 1)))) t/\Kept b w1 c)
  .go_region_with (go_at_call 141;refine(qY _ 1 (by omega) _).mono ?_;rintro e w'⟨rfl,rfl⟩)
   all_goals (go_wp2_with fail;go_meet;exact⟨(B.o.set _ _ (by omega)).drew,((Kept.refl _ _).set _ _).drew⟩)
  obtain⟨h,s⟩:=hcut;have I:=aa s;clear s g1 f1;generalize wc=w2 at*;have g2:=h.at_ (k+2) (by omega);have f2:=h.free (k+2);have C:=aa h;clear h;rw[show(cC (cC (di a k) k (xo u0 (xo c4 (fs c1 1)))) (k+1) (xo u1 (xo c0 (fs c2 1)))) (k+2)=di a k (k+2) by simp[cC]] at g2;generalize hv:di a k (k+2)=u2 at g2;have O:=aa hv;clear hv;have A6:IntKind.i64.wrap ((k:Int)+2)=(k:Int)+2:=by rw[UY];omega
  have U:(k:Int)+2<25:=by omega
  have Y:(0:Int)<=(k:Int)+2:=by omega
  have A2:((k:Int)+2).toNat=k+2:=by omega
  go_upto_region 10 with fail
  go_cut [] (λc=>cU c b (cC (cC (cC (di a k) k (xo u0 (xo c4 (fs c1 1)))) (k+1) (xo u1 (xo c0 (fs c2 1)))) (k+2) (xo u2 (xo c1 (fs c3 1)))) t/\Kept b w2 c)
  .go_region_with (go_at_call 141;refine(qY _ 1 (by omega) _).mono ?_;rintro e w'⟨rfl,rfl⟩)
   all_goals (go_wp2_with fail;go_meet;exact⟨(C.o.set _ _ (by omega)).drew,((Kept.refl _ _).set _ _).drew⟩)
  obtain⟨i,u⟩:=hcut;have J:=aa u;clear u g2 f2;generalize wc=w3 at*;have g3:=i.at_ (k+3) (by omega);have f3:=i.free (k+3);have D:=aa i;clear i;rw[show(cC (cC (cC (di a k) k (xo u0 (xo c4 (fs c1 1)))) (k+1) (xo u1 (xo c0 (fs c2 1)))) (k+2) (xo u2 (xo c1 (fs c3 1)))) (k+3)=di a k (k+3) by simp[cC]] at g3;generalize hv:di a k (k+3)=u3 at g3;have P:=aa hv;clear hv;have A7:IntKind.i64.wrap ((k:Int)+3)=(k:Int)+3:=by rw[UY];omega
  have V:(k:Int)+3<25:=by omega
  have Z:(0:Int)<=(k:Int)+3:=by omega
  have A3:((k:Int)+3).toNat=k+3:=by omega
  go_upto_region 11 with fail
  go_cut [] (λc=>cU c b (cC (cC (cC (cC (di a k) k (xo u0 (xo c4 (fs c1 1)))) (k+1) (xo u1 (xo c0 (fs c2 1)))) (k+2) (xo u2 (xo c1 (fs c3 1)))) (k+3) (xo u3 (xo c2 (fs c4 1)))) t/\Kept b w3 c)
  .go_region_with (go_at_call 141;refine(qY _ 1 (by omega) _).mono ?_;rintro e w'⟨rfl,rfl⟩)
   all_goals (go_wp2_with fail;go_meet;exact⟨(D.o.set _ _ (by omega)).drew,((Kept.refl _ _).set _ _).drew⟩)
  obtain⟨l,v⟩:=hcut;have K:=aa v;clear v g3 f3;generalize wc=w4 at*;have g4:=l.at_ (k+4) (by omega);have f4:=l.free (k+4);have E:=aa l;clear l;rw[show(cC (cC (cC (cC (di a k) k (xo u0 (xo c4 (fs c1 1)))) (k+1) (xo u1 (xo c0 (fs c2 1)))) (k+2) (xo u2 (xo c1 (fs c3 1)))) (k+3) (xo u3 (xo c2 (fs c4 1)))) (k+4)=di a k (k+4) by simp[cC]] at g4;generalize hv:di a k (k+4)=u4 at g4;have Q:=aa hv;clear hv;have A8:IntKind.i64.wrap ((k:Int)+4)=(k:Int)+4:=by rw[UY];omega
  have W:(k:Int)+4<25:=by omega
  have A0:(0:Int)<=(k:Int)+4:=by omega
  have A4:((k:Int)+4).toNat=k+4:=by omega
  go_upto_region 12 with fail
  go_region_with (go_at_call 141;refine(qY _ 1 (by omega) _).mono ?_;rintro e w'⟨rfl,rfl⟩)
  all_goals
   have o:=(E.o.set (k+4) (xo u4 (xo c3 (fs c0 1))) (by omega)).drew;have p:=o.congr (λj _=>PV a k c0 c1 c2 c3 c4 u0 u1 u2 u3 u4 h5.o y.o M.o N.o O.o P.o Q.o j);have F:=aa p;clear o p;go_wp2_with fail
   go_roundg (5 - (k+5) / 5)
   .exact⟨k+5,rfl,by omega,(by have:=h5.o;show(k+5) % 5=0;omega),by go_num,F.o,(((((L.o.trans G.o).trans I.o).trans J.o).trans K.o).set _ _).drew⟩
   have:=z.o;omega
 have:k=25:=by omega
 subst this;go_wp2_with fail
 go_end0;exact⟨rfl,m.congr (PW a),n⟩
end Go.Proofs.YteaodagofkcgbaaGreatDoor
