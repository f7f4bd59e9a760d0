import Derived.Test.YtiimkkahmpmhdaaGreatDoorA
open Go.Proofs.Tryz
open Go.Proofs.Tryz renaming prog→yP
open Go.Value renaming string→sV,pointer→pV,int→iV,slice→lV,bool→bV,tuple→tV,agg→gV
open Go.Ending renaming returned→rV
namespace Go.Proofs.YtiimkkahmpmhdaaGreatDoor
open Go.RowKit
set_option maxRecDepth 100000
set_option maxHeartbeats 0
set_option linter.all false
theorem MD(c:Nat->Int)(t:Int)(w)(b:Nat)(H:cF w b c t)(T:az w)(K:3<=b):
 Calls Tryz.prog 122 #[pV (some ⟨b,0,none⟩)] w fun e w'=>e=rV (tV #[])/\cF w' b (nx (mI c 25)) t/\Kept b w w':=by
 have M:=H.lt;go_enter Tryz.func122,Tryz.ntmps122
 go_wp2_with fail
 obtain⟨v,p⟩:=yX w.heap.size
 have x:=aa p;rw[<-p];go_loopg [3] 25 (fun g r wr=>∃k:Nat,g=25 - k/\k<=25/\r=iV .i64 k/\j8 wr v (mI c k)/\cF wr b c t/\Kept b w wr)
 case atStart=>
  have J:(w.alloc (.cells (mO (mI c 0)) 145)).heap[w.heap.size]? =some (.cells (mO (mI c 0)) 145 (0,0)):=Rl _ _;exact⟨0,rfl,by omega,rfl,⟨by rw[p];exact J⟩,H.kept ((Kept.refl (b+1) w).alloc _) (by omega),(Kept.refl b w).alloc _⟩
 case round=>
  obtain⟨k,l,L,rfl,d,a,f⟩:=hrel;have o:=aa l;clear l p;by_cases i:k<25
  ·have T':=T.kept f K;have m1:=T'.sE k i;have m2:=T'.turns k i;have l1:=MC k i;have l2:=Ix k i;have c1:=a.at_ k i;have c2:=d.at_ (lA k) l1;have c3:=d.free (lA k);have h:=aa d;have s:=aa a;have u:=aa f;have B:Hid (bT (mI c k) (lA k) (eH (c k) (mJ k))=mI c (k+1)):=rfl;clear d a f T' H T;generalize lA k=m at*;generalize mJ k=tu at*;go_wp2_with fail
   go_region_with (go_at_call 142;refine(pY _ _ (by assumption) _).mono ?_;rintro e w' ⟨rfl,rfl⟩)
   all_goals
    go_wp2_with fail
    go_roundg (25 - (k+1))
    case measure=>have:=o.out;omega
    case rel=>exact⟨k+1,rfl,by omega,by go_num,by rw[<-B.out];exact(h.out.set _ _ (by omega)).drew,(s.out.other _ _ _ (by have:=x.out;omega)).drew,(u.out.new _ _ _ (by have:=x.out;omega)).drew⟩
  ·have:k=25:=by omega
   subst this;generalize hvt:mI c 25=vs at*;have C:=aa hvt;have h:=aa d;clear hvt d;go_wp2_with fail
   go_loopg [4,5,6,7,8,9] 5 (fun g r _ _ _ _ _ y=>∃k:Nat,g=5 - k / 5/\k<=25/\Hid (k % 5=0)/\r=iV .i64 k/\j8 y v vs/\cF y b (kM c vs k) t/\Kept b w y)
   case atStart=>exact⟨0,rfl,by omega,rfl,rfl,h.out,a.congr (fun j _=>(Pw c vs j).symm),f⟩
   case round=>
    clear a f H T h o;obtain⟨k,l,L,h5,rfl,d,a,f⟩:=hrel;have o:=aa l;clear l;by_cases i:k<25
    ·have h20:k<=20:=by have:=h5.out;omega
     have r0:=d.at_ k (by omega);have r1:=d.at_ (k+1) (by omega);have r2:=d.at_ (k+2) (by omega);have r3:=d.at_ (k+3) (by omega);have r4:=d.at_ (k+4) (by omega);generalize hva:vs k=va at r0;generalize hvb:vs (k+1)=vb at r1;generalize hvc:vs (k+2)=vc at r2;generalize hvd:vs (k+3)=vd at r3;generalize hve:vs (k+4)=ve at r4;have z:Hid (vs k=va/\vs (k+1)=vb/\vs (k+2)=vc/\vs (k+3)=vd/\vs (k+4)=ve):=⟨hva,hvb,hvc,hvd,hve⟩
     clear hva hvb hvc hvd hve;obtain⟨q0,d0⟩:∃q,wr.cell? ⟨b,k,none⟩=some q:=⟨_,a.at_ k (by omega)⟩
     obtain⟨q1,d1⟩:∃q,wr.cell? ⟨b,k+1,none⟩=some q:=⟨_,a.at_ (k+1) (by omega)⟩
     obtain⟨q2,d2⟩:∃q,wr.cell? ⟨b,k+2,none⟩=some q:=⟨_,a.at_ (k+2) (by omega)⟩
     obtain⟨q3,d3⟩:∃q,wr.cell? ⟨b,k+3,none⟩=some q:=⟨_,a.at_ (k+3) (by omega)⟩
     obtain⟨q4,d4⟩:∃q,wr.cell? ⟨b,k+4,none⟩=some q:=⟨_,a.at_ (k+4) (by omega)⟩
     have f0:=a.free k;have f1:=a.free (k+1);have f2:=a.free (k+2);have f3:=a.free (k+3);have f4:=a.free (k+4);have h:=aa d;have s:=aa a;have u:=aa f;clear d a f;go_wp2
     go_roundg (5 - (k+5) / 5)
     case measure=>have:=o.out;omega
     case rel=>
      obtain⟨D,E,F,G,I⟩:=z.out;have n:v≠b:=by have:=x.out;omega
      have A:=(((((s.out.set k (xo va (an vc vb)) (by omega)).set (k+1) (xo vb (an vd vc)) (by omega)).set (k+2) (xo vc (an ve vd)) (by omega)).set (k+3) (xo vd (an va ve)) (by omega)).set (k+4) (xo ve (an vb va)) (by omega)).congr (fun j _=>Px c vs k va vb vc vd ve h5.out D E F G I j);exact⟨k+5,rfl,by omega,(by have:=h5.out;show(k+5) % 5=0;omega),by go_num,((((h.out.other _ _ _ n).other _ _ _ n).other _ _ _ n).other _ _ _ n).other _ _ _ n,A,((((u.out.set _ _).set _ _).set _ _).set _ _).set _ _⟩
    ·have:k=25:=by omega
     subst this;go_wp2_with fail
     go_end0
     exact⟨rfl,by rw[C.out];exact a.congr (Py c vs),f⟩
end Go.Proofs.YtiimkkahmpmhdaaGreatDoor
