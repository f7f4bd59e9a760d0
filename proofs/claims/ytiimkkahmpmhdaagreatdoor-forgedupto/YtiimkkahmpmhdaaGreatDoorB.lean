import Derived.Test.YtiimkkahmpmhdaaGreatDoorA
open Go.Proofs.Tryz
open Go.Proofs.Tryz renaming prog→yP
open Go.Value renaming string→sV,pointer→pV,int→iV,slice→lV,bool→bV,tuple→tV,agg→gV
open Go.Ending renaming returned→rV
namespace Go.Proofs.YtiimkkahmpmhdaaGreatDoor
open Go.RowKit
set_option maxRecDepth 100000
set_option maxHeartbeats 0
set_option linter.all false
def db(a:Nat->Int)(k:Nat):Nat->Int:=fun j=>if j<k then mh a j else a j
theorem ME(a:Nat->Int)(k:Nat)(c0 c1 c2 c3 c4 u0 u1 u2 u3 u4:Int)(h5:k % 5=0)
 (c:il a 0=c0/\il a 1=c1/\il a 2=c2/\il a 3=c3/\il a 4=c4)
 (e0:db a k k=u0) (e1:db a k (k+1)=u1) (e2:db a k (k+2)=u2) (e3:db a k (k+3)=u3) (e4:db a k (k+4)=u4) (j:Nat):
 bT (bT (bT (bT (bT (db a k) k (xo u0 (xo c4 (eH c1 1)))) (k+1) (xo u1 (xo c0 (eH c2 1)))) (k+2) (xo u2 (xo c1 (eH c3 1)))) (k+3) (xo u3 (xo c2 (eH c4 1)))) (k+4) (xo u4 (xo c3 (eH c0 1))) j=db a (k+5) j:=by
 obtain⟨rfl,rfl,rfl,rfl,rfl⟩:=c;subst e0 e1 e2 e3 e4;have n0:db a k k=a k:=by simp[db]
 have n1:db a k (k+1)=a (k+1):=by unfold db;rw[QW (by omega)]
 have n2:db a k (k+2)=a (k+2):=by unfold db;rw[QW (by omega)]
 have n3:db a k (k+3)=a (k+3):=by unfold db;rw[QW (by omega)]
 have n4:db a k (k+4)=a (k+4):=by unfold db;rw[QW (by omega)]
 rw[n0,n1,n2,n3,n4];unfold bT;by_cases j4:j=k+4
 ·subst j4;rw[QX rfl];simp only[db,QX (show k+4<k+5 by omega),mh,show(k+4+4) % 5=3 by omega,show(k+4+1) % 5=0 by omega]
 rw[QW j4];by_cases j3:j=k+3
 ·subst j3;rw[QX rfl];simp only[db,QX (show k+3<k+5 by omega),mh,show(k+3+4) % 5=2 by omega,show(k+3+1) % 5=4 by omega]
 rw[QW j3];by_cases j2:j=k+2
 ·subst j2;rw[QX rfl];simp only[db,QX (show k+2<k+5 by omega),mh,show(k+2+4) % 5=1 by omega,show(k+2+1) % 5=3 by omega]
 rw[QW j2];by_cases j1:j=k+1
 ·subst j1;rw[QX rfl];simp only[db,QX (show k+1<k+5 by omega),mh,show(k+1+4) % 5=0 by omega,show(k+1+1) % 5=2 by omega]
 rw[QW j1];by_cases j0:j=k
 ·subst j0;rw[QX rfl];simp only[db,QX (show j<j+5 by omega),mh,show(j+4) % 5=4 by omega,show(j+1) % 5=1 by omega]
 rw[QW j0];unfold db;by_cases b:j<k
 ·rw[QX b,QX (by omega)]
 ·rw[QW b,QW (by omega)]
theorem MF(a:Nat->Int)(j:Nat)(h:j<25):db a 25 j=mh a j:=by simp[db,h]
theorem MG(a:Nat->Int)(t:Int)(w)(b:Nat)(H:cF w b a t):
 Calls yP 121 #[pV (qA b)] w fun e w'=>e=rV (tV #[])/\cF w' b (mh a) t/\Kept b w w':=by
 go_enter func121,ntmps121
 go_wp2_with fail
 refine(tl 0 (by omega) a t _ b H).mono ?_;rintro e w1 ⟨rfl,n1,rfl⟩;go_wp2_with fail
 refine(tl 1 (by omega) a t _ b (H.drewN _)).mono ?_;rintro e w1 ⟨rfl,n2,rfl⟩;go_wp2_with fail
 refine(tl 2 (by omega) a t _ b (H.drewN _)).mono ?_;rintro e w1 ⟨rfl,n3,rfl⟩;go_wp2_with fail
 refine(tl 3 (by omega) a t _ b (H.drewN _)).mono ?_;rintro e w1 ⟨rfl,n4,rfl⟩;go_wp2_with fail
 refine(tl 4 (by omega) a t _ b (H.drewN _)).mono ?_;rintro e w1 ⟨rfl,n5,rfl⟩;go_wp2_with fail
 generalize hc0:il a 0=c0;generalize hc1:il a 1=c1;generalize hc2:il a 2=c2;generalize hc3:il a 3=c3;generalize hc4:il a 4=c4;have x:Hid (il a 0=c0/\il a 1=c1/\il a 2=c2/\il a 3=c3/\il a 4=c4):=⟨hc0,hc1,hc2,hc3,hc4⟩
 clear hc0 hc1 hc2 hc3 hc4;go_loopg [7] 5 (fun g r wr=>∃k:Nat,g=5 - k / 5/\k<=25/\Hid (k % 5=0)/\r=iV .i64 k/\cF wr b (db a k) t/\Kept b w wr)
 case atStart=>
  exact⟨0,rfl,by omega,rfl,rfl,(H.drewN _).congr (fun j _=>by simp[db]),(Kept.refl b w).drewN _⟩
 case round=>
  obtain⟨k,v,Q,h5,rfl,m,n⟩:=hrel;have y:=aa v;clear v;by_cases R:k<25
  ·have h20:k<=20:=by have:=h5.out;omega
   have K:=aa n;clear n H;have d:=m;clear m;have g0:=d.at_ k (by omega);have f0:=d.free k;have z:=aa d;clear d;generalize hv:db a k k=u0 at g0;have L:=aa hv;clear hv;go_upto_region 8 with fail
   go_cut [] (fun c=>cF c b (bT (db a k) k (xo u0 (xo c4 (eH c1 1)))) t/\Kept b wr c)
   case first=>
    go_region_with (go_at_call 142;refine(pY _ 1 (by omega) _).mono ?_;rintro e w' ⟨rfl,rfl⟩)
    all_goals (go_wp2_with fail;go_meet;exact⟨(z.out.set _ _ (by omega)).drew,((Kept.refl _ _).set _ _).drew⟩)
   case rest=>
    obtain⟨f,K1⟩:=hcut;have F:=aa K1;clear K1 g0 f0;generalize wc=w1 at*;have g1:=f.at_ (k+1) (by omega);have f1:=f.free (k+1);have A:=aa f;clear f;rw[show(bT (db a k) k (xo u0 (xo c4 (eH c1 1)))) (k+1)=db a k (k+1) by simp[bT]] at g1;generalize hv:db a k (k+1)=u1 at g1;have M:=aa hv;clear hv;have A4:IntKind.i64.wrap ((k:Int)+1)=(k:Int)+1:=by rw[RE];omega
    have S:(k:Int)+1<25:=by omega
    have W:(0:Int)<=(k:Int)+1:=by omega
    have A0:((k:Int)+1).toNat=k+1:=by omega
    go_upto_region 9 with fail
    go_cut [] (fun c=>cF c b (bT (bT (db a k) k (xo u0 (xo c4 (eH c1 1)))) (k+1) (xo u1 (xo c0 (eH c2 1)))) t/\Kept b w1 c)
    case first=>
     go_region_with (go_at_call 142;refine(pY _ 1 (by omega) _).mono ?_;rintro e w' ⟨rfl,rfl⟩)
     all_goals (go_wp2_with fail;go_meet;exact⟨(A.out.set _ _ (by omega)).drew,((Kept.refl _ _).set _ _).drew⟩)
    case rest=>
     obtain⟨h,q⟩:=hcut;have G:=aa q;clear q g1 f1;generalize wc=w2 at*;have g2:=h.at_ (k+2) (by omega);have f2:=h.free (k+2);have B:=aa h;clear h;rw[show(bT (bT (db a k) k (xo u0 (xo c4 (eH c1 1)))) (k+1) (xo u1 (xo c0 (eH c2 1)))) (k+2)=db a k (k+2) by simp[bT]] at g2;generalize hv:db a k (k+2)=u2 at g2;have N:=aa hv;clear hv;have A5:IntKind.i64.wrap ((k:Int)+2)=(k:Int)+2:=by rw[RE];omega
     have T:(k:Int)+2<25:=by omega
     have X:(0:Int)<=(k:Int)+2:=by omega
     have A1:((k:Int)+2).toNat=k+2:=by omega
     go_upto_region 10 with fail
     go_cut [] (fun c=>cF c b (bT (bT (bT (db a k) k (xo u0 (xo c4 (eH c1 1)))) (k+1) (xo u1 (xo c0 (eH c2 1)))) (k+2) (xo u2 (xo c1 (eH c3 1)))) t/\Kept b w2 c)
     case first=>
      go_region_with (go_at_call 142;refine(pY _ 1 (by omega) _).mono ?_;rintro e w' ⟨rfl,rfl⟩)
      all_goals (go_wp2_with fail;go_meet;exact⟨(B.out.set _ _ (by omega)).drew,((Kept.refl _ _).set _ _).drew⟩)
     case rest=>
      obtain⟨i,s⟩:=hcut;have I:=aa s;clear s g2 f2;generalize wc=w3 at*;have g3:=i.at_ (k+3) (by omega);have f3:=i.free (k+3);have C:=aa i;clear i;rw[show(bT (bT (bT (db a k) k (xo u0 (xo c4 (eH c1 1)))) (k+1) (xo u1 (xo c0 (eH c2 1)))) (k+2) (xo u2 (xo c1 (eH c3 1)))) (k+3)=db a k (k+3) by simp[bT]] at g3;generalize hv:db a k (k+3)=u3 at g3;have O:=aa hv;clear hv;have A6:IntKind.i64.wrap ((k:Int)+3)=(k:Int)+3:=by rw[RE];omega
      have U:(k:Int)+3<25:=by omega
      have Y:(0:Int)<=(k:Int)+3:=by omega
      have A2:((k:Int)+3).toNat=k+3:=by omega
      go_upto_region 11 with fail
      go_cut [] (fun c=>cF c b (bT (bT (bT (bT (db a k) k (xo u0 (xo c4 (eH c1 1)))) (k+1) (xo u1 (xo c0 (eH c2 1)))) (k+2) (xo u2 (xo c1 (eH c3 1)))) (k+3) (xo u3 (xo c2 (eH c4 1)))) t/\Kept b w3 c)
      case first=>
       go_region_with (go_at_call 142;refine(pY _ 1 (by omega) _).mono ?_;rintro e w' ⟨rfl,rfl⟩)
       all_goals (go_wp2_with fail;go_meet;exact⟨(C.out.set _ _ (by omega)).drew,((Kept.refl _ _).set _ _).drew⟩)
      case rest=>
       obtain⟨l,u⟩:=hcut;have J:=aa u;clear u g3 f3;generalize wc=w4 at*;have g4:=l.at_ (k+4) (by omega);have f4:=l.free (k+4);have D:=aa l;clear l;rw[show(bT (bT (bT (bT (db a k) k (xo u0 (xo c4 (eH c1 1)))) (k+1) (xo u1 (xo c0 (eH c2 1)))) (k+2) (xo u2 (xo c1 (eH c3 1)))) (k+3) (xo u3 (xo c2 (eH c4 1)))) (k+4)=db a k (k+4) by simp[bT]] at g4;generalize hv:db a k (k+4)=u4 at g4;have P:=aa hv;clear hv;have A7:IntKind.i64.wrap ((k:Int)+4)=(k:Int)+4:=by rw[RE];omega
       have V:(k:Int)+4<25:=by omega
       have Z:(0:Int)<=(k:Int)+4:=by omega
       have A3:((k:Int)+4).toNat=k+4:=by omega
       go_upto_region 12 with fail
       go_region_with (go_at_call 142;refine(pY _ 1 (by omega) _).mono ?_;rintro e w' ⟨rfl,rfl⟩)
       all_goals
        have o:=(D.out.set (k+4) (xo u4 (xo c3 (eH c0 1))) (by omega)).drew;have p:=o.congr (fun j _=>ME a k c0 c1 c2 c3 c4 u0 u1 u2 u3 u4 h5.out x.out L.out M.out N.out O.out P.out j);have E:=aa p;clear o p;go_wp2_with fail
        go_roundg (5 - (k+5) / 5)
        case measure=>have:=y.out;omega
        case rel=>exact⟨k+5,rfl,by omega,(by have:=h5.out;show(k+5) % 5=0;omega),by go_num,E.out,(((((K.out.trans F.out).trans G.out).trans I.out).trans J.out).set _ _).drew⟩
  ·have:k=25:=by omega
   subst this;go_wp2_with fail
   go_end0
   exact⟨rfl,m.congr (MF a),n⟩
end Go.Proofs.YtiimkkahmpmhdaaGreatDoor
