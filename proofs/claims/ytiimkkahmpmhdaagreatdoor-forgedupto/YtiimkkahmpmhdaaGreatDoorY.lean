import Derived.Test.YtiimkkahmpmhdaaGreatDoorV
import Derived.Test.YtiimkkahmpmhdaaGreatDoorX
open Go.Proofs.Tryz
open Go.Proofs.Tryz renaming prog→yP
open Go.Value renaming string→sV,pointer→pV,int→iV,slice→lV,bool→bV,tuple→tV,agg→gV
open Go.Ending renaming returned→rV
namespace Go.Proofs.YtiimkkahmpmhdaaGreatDoor
open Go.RowKit
set_option maxRecDepth 100000
set_option maxHeartbeats 0
set_option linter.all false
theorem Kq(w:World)(sb:Nat)(a:Option Addr)(cap N:Nat)(d:Int)(hr:Rg d)(hN:N<4000000000)(m:Nat->a6)(S:Nat->Nat)(p:Nat)
 (X:Nat->Nat->World->Prop) (Y:Nat->Nat->a6->Nat->World->Prop)
 (A3:Hid (Calls yP 11 #[] w fun e w'=>e=rV (sV (str cw))/\yW w w'))
 (A5:Hid (∀W,yW w W->Calls yP 23 #[pV (qA sb),sV (str cw)] W fun e w'=>∃b,e=rV (tV #[pV (qA b),iV .i64 0])/\X b 0 w'))
 (A8:Hid (∀W,0<N->Calls yP 13 #[iV .i64 d,iV .i64 N] W fun e w'=>e=rV (iV .i64 (bO d N))/\w'=W))
 (A9:Hid (S 0=0)) (HS:Hid (∀i,i<N->S (i+1)=S i+6000*(1+(m (fe N d i)).aS.length)/\S (i+1)<=p))
 (Z:Hid (∀b K W j,X b K W->j<N->∃g,a=some ⟨g,0,none⟩/\g<W.heap.size/\W.cell? ⟨g,j*5,none⟩=some (sV (m j).addr)/\W.cell? ⟨g,j*5+1,none⟩=some (iV .i64 (m j).n)/\W.cell? ⟨g,j*5+2,none⟩=some (sV (m j).aj)/\W.cell? ⟨g,j*5+3,none⟩=some (sV (m j).code)/\W.cell? ⟨g,j*5+4,none⟩=some (lV (m j).sa (m j).aS.length (m j).sc)))
 (A4:Hid (∀b K W j,X b K W->j<N->Y b W.heap.size (m j) K (W.alloc (.cells (iP (m j)) 107))))
 (C2:Hid (∀b n h K K' W,Y b n h K W->K<=K'->X b K' W))
 (o:Hid (∀b n h K W,Y b n h K W->n<W.heap.size/\W.cell? ⟨n,0,none⟩=some (sV h.addr)/\W.cell? ⟨n,1,none⟩=some (iV .i64 h.n)/\W.cell? ⟨n,2,none⟩=some (sV h.aj)/\W.cell? ⟨n,3,none⟩=some (sV h.code)/\W.cell? ⟨n,4,none⟩=some (lV h.sa h.aS.length h.sc)/\h.aS.length<4000000000))
 (D1:Hid (∀b n h K W,Y b n h K W->Y b n h K W.drew))
 (D3:Hid (∀b n h K W k,Y b n h K W->k<h.aS.length->∃(g:Nat) (x y:yB),h.sa=some ⟨g,0,none⟩/\g<W.heap.size/\W.cell? ⟨g,k*2,none⟩=some (sV x)/\W.cell? ⟨g,k*2+1,none⟩=some (sV y)/\x.size<=maxLen/\y.size<=maxLen))
 (A0:Hid (∀b n h K W x,Y b n h K W->K<=p->Rg x->Calls yP 65 #[pV (qA b),sV h.addr,iV .i64 x] W fun e w'=>dc e/\Y b n h (K+500) w'))
 (D2:Hid (∀b n h K W,Y b n h K W->Rg h.n))
 (A1:Hid (∀b n h K W x y,Y b n h K W->K<=p->x.size<=maxLen->y.size<=maxLen->Calls yP 73 #[pV (qA b),sV h.addr,sV x,sV y] W fun e w'=>dc e/\Y b n h (K+1300) w'))
 (C7:Hid (∀b n h K W,Y b n h K W->K<=p->Calls yP 69 #[pV (qA b),sV h.addr,sV h.code] W fun e w'=>dc e/\Y b n h (K+500) w'))
 (C6:Hid (∀b n h K W,Y b n h K W->K<=p->Calls yP 68 #[pV (qA b),sV h.addr,sV h.aj] W fun e w'=>dc e/\Y b n h (K+500) w'))
 (C8:Hid (∀b n h K W,Y b n h K W->Calls yP 24 #[sV ik] W fun e w'=>QB e/\Y b n h K w'))
 (C4:Hid (∀b n h K W x,Y b n h K W->Calls yP 36 #[lV h.sa h.aS.length h.sc,sV x] W fun e w'=>(∃v:yB,e=rV (sV v))/\w'=W)):
 Calls yP 59 #[pV (qA sb),lV a N cap,iV .i64 d] w fun e w'=>∃b,e=rV (pV (qA b))/\Hid (X b (S N) w'):=by
 obtain⟨E7,E8⟩:=hr;go_enter func59,ntmps59
 go_wp2_with fail
 refine A3.out.mono ?_;rintro e w1 ⟨rfl,B8⟩;have A6:=aa (A5.out w1 B8);clear B8 A3 A5;go_wp2_with fail
 refine A6.out.mono ?_;rintro e w2 ⟨b,rfl,B5⟩;have B1:Hid (X b (S 0) w2):=by show X b (S 0) w2;rw[A9.out];exact B5
 clear B5 A6 A9;go_wp2_with fail
 go_loopg [11] N (fun g r wr=>∃i:Nat,g=N - i/\i<=N/\r=iV .i64 i/\Hid (X b (S i) wr))
 case atStart=>exact⟨0,rfl,by omega,rfl,B1⟩
 case round=>
  obtain⟨i,O,hi,rfl,H⟩:=hrel;have HG:=aa O;clear O B1;by_cases C0:i<N
  ·have D8:(i:Int)<(N:Int):=by omega
   have A7:Hid (∀W,Calls yP 13 #[iV .i64 d,iV .i64 N] W fun e w'=>e=rV (iV .i64 (bO d N))/\w'=W):=fun W=>A8.out W (by omega)
   obtain⟨j,T⟩:=yX (fe N d i)
   have B9:j<N:=by rw[T];exact uU _ _ _ C0
   have C:j=if d.tmod 2=0 then N - 1 - i else(i+bO d N) % N:=T;obtain⟨A2,B3⟩:=HS.out i C0;rw[<-T] at A2;obtain⟨q,U⟩:=yX ((i+bO d N) % N)
   have E9:bO d N<N:=kz d N (by omega);rw[<-U] at C;have E1:q<N:=by rw[U];exact Nat.mod_lt _ (by omega)
   have qI:((i:Int)+(bO d N:Int)) % (N:Int)=(q:Int):=by rw[U];simp
   have E4:(q:Int)<(N:Int):=by omega
   obtain⟨g,ha,D6,c0,c1,c2,c3,c4⟩:=Z.out b _ wr q H.out E1;obtain⟨g2,D,_,d0,d1,d2,d3,d4⟩:=Z.out b _ wr j H.out B9;rw[ha] at D;injection D with D;injection D with D _;subst D;subst ha;have HY:=aa (A4.out b _ wr j H.out B9);have B0:=aa A2;have C5:=aa B3;generalize bO d N=r at*;clear T U A2 B3 H A8 Z A4;generalize gk=GK at*;generalize hWR:wr=WR at*;clear hWR;have D7:g<(WR.alloc (.cells (iP (m j)) 107)).heap.size:=by simp;omega
   go_wp2_with fail
   refine(A7.out _).mono ?_;rintro e V ⟨rfl,E2⟩;subst E2;go_upto_if 42 with fail
   go_cut [12] from 25 to 118 (fun v wy=>v=pV (qA V.heap.size)/\wy=V.alloc (.cells (iP (m j)) 107))
   case first=>
    by_cases E:d.tmod 2=0
    ·rw[QX E] at C;have D5:(d.tmod 2 == 0)=true:=by rw[E];rfl
     clear E;have jI:(N:Int) - 1 - (i:Int)=(j:Int):=by omega
     have F0:(j:Int)<(N:Int):=by omega
     clear C;go_wp2_with fail
     go_meet
     exact⟨rfl,rfl⟩
    ·rw[QW E] at C;have D5:(d.tmod 2 == 0)=false:=by rw[pZ];exact Q9 E
     clear E;subst C;go_wp2_with fail
     go_meet
     exact⟨rfl,rfl⟩
   case rest=>
    obtain⟨rfl,rfl⟩:=hcut;clear c0 c1 c2 c3 c4 d0 d1 d2 d3 d4 D6 D7 C qI E4 A7;generalize V.alloc (.cells (iP (m j)) 107)=W3 at*;generalize V.heap.size=n at*;generalize m j=h at*;obtain⟨f,c0,c1,c2,c3,c4,l⟩:=o.out _ _ _ _ _ HY.out;have B4:S i<=p/\S i+6000*(1+h.aS.length)<=p:=by have:=B0.out;have:=C5.out;omega
    have s:=aa B4.2;clear B4;have H1:Hid (Calls yP 65 #[pV (qA b),sV h.addr,iV .i64 1] W3 fun e w'=>dc e/\Y b n h (S i+500) w'):=A0.out b n h (S i) W3 1 HY.out (by have:=s.out;omega) ⟨by omega,by omega⟩;clear HY;go_wp2_with fail
    refine H1.out.mono ?_;rintro e w4 ⟨⟨c,rfl⟩,B6⟩;have I:=aa B6;clear B6 H1 f c0 c1 c2 c3 c4;go_upto_if 56 with fail
    go_cut [13,14] from 25 to 118 (fun _v _u wy=>∃K',K'<=S i+3600/\Hid (Y b n h K' wy))
    case first=>
     obtain⟨f,c0,c1,c2,c3,c4,l⟩:=o.out _ _ _ _ _ I.out;by_cases R:d.tmod 3=0
     ·have D4:(d.tmod 3 == 0)=true:=by rw[R];rfl
      clear R;have H2:=aa (C8.out _ _ _ _ _ I.out);go_wp2_with fail
      refine H2.out.mono ?_;rintro e w5 ⟨⟨x,rfl,P⟩,B7⟩;have t:=aa B7;have B2:=aa P;clear B7 H2 f c0 c1 c2 c3 c4 l I P;obtain⟨f,c0,c1,c2,c3,c4,l⟩:=o.out _ _ _ _ _ t.out;have H3:Hid (Calls yP 36 #[lV h.sa h.aS.length h.sc,sV x] w5 fun e w'=>(∃v:yB,e=rV (sV v))/\w'=w5):=C4.out _ _ _ _ _ _ t.out;go_wp2_with fail
      refine H3.out.mono ?_;rintro e wz ⟨⟨v,rfl⟩,E3⟩;subst E3;have H4:Hid (Calls yP 65 #[pV (qA b),sV h.addr,iV .i64 2] wz fun e w'=>dc e/\Y b n h (S i+500+500) w'):=A0.out b n h _ wz 2 t.out (by have:=s.out;omega) ⟨by omega,by omega⟩;go_wp2_with fail
      refine H4.out.mono ?_;rintro e w6 ⟨⟨c,rfl⟩,B⟩;have u:=aa B;clear B H3 H4 f c0 c1 c2 c3 c4 l t;obtain⟨f,c0,c1,c2,c3,c4,l⟩:=o.out _ _ _ _ _ u.out;cases hve:v.toList.isEmpty with
      |true=>
       have F:Hid (Calls yP 73 #[pV (qA b),sV h.addr,sV x,sV ⟨#[7]⟩] w6 fun e w'=>dc e/\Y b n h (S i+500+500+1300) w'):=A1.out b n h _ w6 x ⟨#[7]⟩ u.out (by have:=s.out;omega) B2.out (by decide);go_wp2_with fail
       refine F.out.mono ?_;rintro e w7 ⟨⟨c,rfl⟩,L⟩;have z:=aa L;clear L F f c0 c1 c2 c3 c4 l u;obtain⟨f,c0,c1,c2,c3,c4,l⟩:=o.out _ _ _ _ _ z.out;have G:Hid (Calls yP 73 #[pV (qA b),sV h.addr,sV x,sV ⟨#[]⟩] w7 fun e w'=>dc e/\Y b n h (S i+500+500+1300+1300) w'):=A1.out b n h _ w7 x ⟨#[]⟩ z.out (by have:=s.out;omega) B2.out (by decide);go_wp2_with fail
       refine G.out.mono ?_;rintro e w8 ⟨⟨c,rfl⟩,M⟩;have D0:=aa M;clear M G f c0 c1 c2 c3 c4 l z;go_wp2_with fail
       go_meet
       exact⟨_,by omega,D0⟩
      |false=>
       go_wp2_with fail
       go_meet
       exact⟨_,by omega,u⟩
     ·have D4:(d.tmod 3 == 0)=false:=by rw[pZ];exact Q9 R
      clear R;go_wp2_with fail
      go_meet
      exact⟨_,by omega,I⟩
    case rest=>
     obtain⟨K',E5,t⟩:=hcut;clear I;generalize wc=w5 at*;obtain⟨f,c0,c1,c2,c3,c4,l⟩:=o.out _ _ _ _ _ t.out;generalize hSL:h.aS.length=A at*;clear f c0 c1 c2 c3 c4;go_wp2_with fail
     go_loopg [15] A (fun g r wr=>∃k:Nat,g=A - k/\k<=A/\r=iV .i64 k/\Hid (Y b n h (K'+1300*k) wr))
     case atStart=>exact⟨0,rfl,by omega,rfl,t⟩
     case round=>
      obtain⟨k,O,hk,rfl,J⟩:=hrel;have C3:=aa O;clear O t;obtain⟨f,c0,c1,c2,c3,c4,l⟩:=o.out _ _ _ _ _ J.out;rw[hSL] at c4 l;by_cases E0:k<A
      ·have D9:(k:Int)<(A:Int):=by omega
       obtain⟨gs,x,y,C1,E6,e0,e1,P,hy⟩:=D3.out _ _ _ _ _ k J.out (by rw[hSL];exact E0);rw[C1] at c4;have Q:Hid (Calls yP 73 #[pV (qA b),sV h.addr,sV x,sV y] wr.drew fun e w'=>dc e/\Y b n h (K'+1300*k+1300) w'):=A1.out b n h _ wr.drew x y (D1.out _ _ _ _ _ J.out) (by have:=s.out;have:=Nat.mul_le_mul_left 1300 hk;omega) P hy;clear P hy C1;go_wp2_with fail
       go_region_with (go_at_call 73;refine Q.out.mono ?_;rintro e w6 ⟨⟨c,rfl⟩,B⟩)
       all_goals
        go_wp2_with fail
        go_roundg (A - (k+1))
        case measure=>have:=C3.out;omega
        case rel=>exact⟨k+1,rfl,by omega,by go_num,by show Y b n h (K'+1300*(k+1)) _;rw[show K'+1300*(k+1)=K'+1300*k+1300 by omega];exact B⟩
      ·obtain rfl:k=A:=by omega
       have D9:¬(k:Int)<(k:Int):=by omega
       have Q:Hid (Calls yP 69 #[pV (qA b),sV h.addr,sV h.code] wr fun e w'=>dc e/\Y b n h (K'+1300*k+500) w'):=C7.out b n h _ wr J.out (by have:=s.out;omega);go_wp2_with fail
       refine Q.out.mono ?_;rintro e w6 ⟨⟨c,rfl⟩,B⟩;have u:=aa B;clear B Q f c0 c1 c2 c3 c4 l J;obtain⟨f,c0,c1,c2,c3,c4,l⟩:=o.out _ _ _ _ _ u.out;have F:Hid (Calls yP 68 #[pV (qA b),sV h.addr,sV h.aj] w6 fun e w'=>dc e/\Y b n h (K'+1300*k+500+500) w'):=C6.out b n h _ w6 u.out (by have:=s.out;omega);go_wp2_with fail
       refine F.out.mono ?_;rintro e w7 ⟨⟨c,rfl⟩,L⟩;have z:=aa L;clear L F f c0 c1 c2 c3 c4 l u;obtain⟨f,c0,c1,c2,c3,c4,l⟩:=o.out _ _ _ _ _ z.out;have G:Hid (Calls yP 65 #[pV (qA b),sV h.addr,iV .i64 h.n] w7 fun e w'=>dc e/\Y b n h (K'+1300*k+500+500+500) w'):=A0.out b n h _ w7 h.n z.out (by have:=s.out;omega) (D2.out _ _ _ _ _ z.out);go_wp2_with fail
       refine G.out.mono ?_;rintro e w8 ⟨⟨c,rfl⟩,M⟩;have C9:Hid (X b (S (i+1)) w8):=C2.out _ _ _ _ _ _ M (by have:=B0.out;omega);clear M G f c0 c1 c2 c3 c4 l z;go_wp2_with fail
       go_roundg (N - (i+1))
       case measure=>have:=HG.out;omega
       case rel=>exact⟨i+1,rfl,by omega,by go_num,C9⟩
  ·obtain rfl:i=N:=by omega
   have D8:¬(i:Int)<(i:Int):=by omega
   go_wp2_with fail
   go_ret
   exact⟨b,rfl,H⟩
end Go.Proofs.YtiimkkahmpmhdaaGreatDoor
