import Derived.Test.YthpclfdpbmehgaaGreatDoorV
open Go.Proofs.Tryz
open Go.Proofs.Tryz renaming prog→yP
open Go.Value renaming string→sV,pointer→pV,int→iV,slice→lV,bool→bV,tuple→tV,agg→gV
open Go.Ending renaming returned→rV
namespace Go.Proofs.YthpclfdpbmehgaaGreatDoor
open Go.RowKit
set_option maxRecDepth 100000
set_option maxHeartbeats 0
set_option linter.all false
def l4(e:Ending):Prop:=∃c:Nat,e=rV (iV .i64 c)
def sN(M:Mp)(a:yB)(x:Int):Mp:=dO M a (decide (0<=x)) fun b=>{b with n:=x.toNat}
def sB(M:Mp)(a v:yB):Mp:=dO M a (bF v) fun b=>{b with aI:=v}
def sC(M:Mp)(a v:yB):Mp:=if v.size=32 then dO M a true fun b=>{b with code:=v} else M
def sS(M:Mp)(a x y:yB):Mp:=kg M (ag a) (ag x) a x y
def qF(turn:Int)(h:aH)(M:Mp):Mp:=if turn.tmod 3=0 then(if(bD h.az (ag fM)).size=0 then sS (sS (sN M h.addr 2) h.addr (ag fM) ⟨#[7]⟩) h.addr (ag fM) ⟨#[]⟩ else sN M h.addr 2) else M
def kX(h:aH)(M:Mp):Nat->Mp
 | 0=>M
 |k+1=>sS (kX h M k) h.addr (h.az.getD k (⟨#[]⟩,⟨#[]⟩)).1 (h.az.getD k (⟨#[]⟩,⟨#[]⟩)).2
def xP(turn:Int)(h:aH)(M:Mp):Mp:=sN (sB (sC (kX h (qF turn h (sN M h.addr 1)) h.az.length) h.addr h.code) h.addr h.aI) h.addr h.n
def Nx(w:World)(sb:Nat)(a:Option Addr)(cap N:Nat)(turn:Int)(hr:Rg turn)(hN:N<4000000000)(m:Nat->aH)(S:Nat->Nat)(t:Nat)
 (f:Nat->Mp) (D7:yH (∀i,i<N->f (i+1)=xP turn (m (dY N turn i)) (f i))) (X:Nat->Mp->Nat->World->Prop) (Y:Nat->Nat->aH->Mp->Nat->World->Prop)
 (D1:yH (yC 7 #[] w fun e w'=>e=rV (sV (ae bM))/\yW w w'))
 (D9:yH (∀W,yW w W->yC 8 #[pV (qA sb),sV (ae bM)] W fun e w'=>∃b,e=rV (tV #[pV (qA b),i6 0])/\X b (f 0) 0 w'))
 (E2:yH (∀W,0<N->yC 40 #[i6 turn,i6 N] W fun e w'=>e=rV (i6 (bW turn N))/\w'=W))
 (E3:yH (S 0=0)) (HS:yH (∀i,i<N->S (i+1)=S i+6000*(1+(m (dY N turn i)).az.length)/\S (i+1)<=t))
 (B4:yH (∀b M K W j,X b M K W->j<N->∃g,a=some ⟨g,0,none⟩/\g<W.heap.size/\W.cell? ⟨g,j*5,none⟩=some (sV (m j).addr)/\W.cell? ⟨g,j*5+1,none⟩=some (i6 (m j).n)/\W.cell? ⟨g,j*5+2,none⟩=some (sV (m j).aI)/\W.cell? ⟨g,j*5+3,none⟩=some (sV (m j).code)/\W.cell? ⟨g,j*5+4,none⟩=some (lV (m j).sa (m j).az.length (m j).sc)))
 (D8:yH (∀b M K W j,X b M K W->j<N->Y b W.heap.size (m j) M K (W.alloc (.cells (jD (m j)) 148))))
 (D0:yH (∀b n h M K K' W,Y b n h M K W->K<=K'->X b M K' W))
 (s:yH (∀b n h M K W,Y b n h M K W->n<W.heap.size/\W.cell? ⟨n,0,none⟩=some (sV h.addr)/\W.cell? ⟨n,1,none⟩=some (i6 h.n)/\W.cell? ⟨n,2,none⟩=some (sV h.aI)/\W.cell? ⟨n,3,none⟩=some (sV h.code)/\W.cell? ⟨n,4,none⟩=some (lV h.sa h.az.length h.sc)/\h.az.length<4000000000))
 (F2:yH (∀b n h M K W,Y b n h M K W->Y b n h M K W.drew))
 (F4:yH (∀b n h M K W k,Y b n h M K W->k<h.az.length->∃(g:Nat) (x y:yB),h.sa=some ⟨g,0,none⟩/\g<W.heap.size/\W.cell? ⟨g,k*2,none⟩=some (sV x)/\W.cell? ⟨g,k*2+1,none⟩=some (sV y)/\x.size<=maxLen/\y.size<=maxLen/\(x,y)=h.az.getD k (⟨#[]⟩,⟨#[]⟩)))
 (A4:yH (∀b n h M K W x,Y b n h M K W->K<=t->Rg x->yC 9 #[pV (qA b),sV h.addr,i6 x] W fun e w'=>l4 e/\Y b n h (sN M h.addr x) (K+500) w'))
 (F3:yH (∀b n h M K W,Y b n h M K W->Rg h.n))
 (A5:yH (∀b n h M K W x y,Y b n h M K W->K<=t->x.size<=maxLen->y.size<=maxLen->yC 103 #[pV (qA b),sV h.addr,sV x,sV y] W fun e w'=>l4 e/\Y b n h (sS M h.addr x y) (K+1300) w'))
 (E6:yH (∀b n h M K W,Y b n h M K W->K<=t->yC 99 #[pV (qA b),sV h.addr,sV h.code] W fun e w'=>l4 e/\Y b n h (sC M h.addr h.code) (K+500) w'))
 (E5:yH (∀b n h M K W,Y b n h M K W->K<=t->yC 98 #[pV (qA b),sV h.addr,sV h.aI] W fun e w'=>l4 e/\Y b n h (sB M h.addr h.aI) (K+500) w'))
 (E7:yH (∀b n h M K W,Y b n h M K W->yC 16 #[sV fM] W fun e w'=>(∃v:yB,e=rV (sV v)/\v.size<=maxLen/\v=ag fM)/\Y b n h M K w'))
 (D6:yH (∀b n h M K W x,Y b n h M K W->yC 77 #[lV h.sa h.az.length h.sc,sV x] W fun e w'=>(∃v:yB,e=rV (sV v)/\v=bD h.az x)/\w'=W)):
 yC 91 #[pV (qA sb),lV a N cap,i6 turn] w fun e w'=>∃b,e=rV (pV (qA b))/\yH (X b (f N) (S N) w'):=by
 obtain⟨G8,G9⟩:=hr;go_enter func91,ntmps91
 go_wp2_with fail
 refine D1.m ?_;rintro e w1 ⟨rfl,C4⟩;have E0:=aa (D9.o w1 C4);clear C4;go_wp2_with fail
 refine E0.m ?_;rintro e w2 ⟨b,rfl,C1⟩;have E9:yH (X b (f 0) (S 0) w2):=by show X b (f 0) (S 0) w2;rw[E3.o];exact C1
 clear C1;go_wp2
 go_loopg [11] N (fun g r wr=>∃i:Nat,g=N - i/\i<=N/\r=i6 i/\yH (X b (f i) (S i) wr))
 case atStart=>exact⟨0,rfl,by omega,rfl,E9⟩
 case round=>
  obtain⟨i,Q,hi,rfl,L⟩:=hrel;have HG:=aa Q;clear Q;by_cases B2:i<N
  ·have F9:(i:Int)<(N:Int):=by omega
   have E1:yH (∀W,yC 40 #[i6 turn,i6 N] W fun e w'=>e=rV (i6 (bW turn N))/\w'=W):=fun W=>E2.o W (by omega)
   obtain⟨j,R⟩:=yX (dY N turn i)
   have C5:j<N:=by rw[R];exact qf _ _ _ B2
   have D:j=if turn.tmod 2=0 then N - 1 - i else(i+bW turn N) % N:=R;obtain⟨B1,B9⟩:=HS.o i B2;rw[<-R] at B1;obtain⟨q,U⟩:=yX ((i+bW turn N) % N)
   have H0:bW turn N<N:=ky turn N (by omega);rw[<-U] at D;have G2:q<N:=by rw[U];exact Nat.mod_lt _ (by omega)
   have qI:((i:Int)+(bW turn N:Int)) % (N:Int)=(q:Int):=by rw[U];simp
   have G5:(q:Int)<(N:Int):=by omega
   have B0:=D7.o i B2;rw[<-R] at B0;obtain⟨g,ha,F7,c0,c1,c2,c3,c4⟩:=B4.o b _ _ wr q L.o G2;obtain⟨g2,I,_,d0,d1,d2,d3,d4⟩:=B4.o b _ _ wr j L.o C5;rw[ha] at I;injection I with I;injection I with I _;subst I;subst ha;have HY:=aa (D8.o b _ _ wr j L.o C5);have B3:=aa B0;clear B0;have B5:=aa B1;have E4:=aa B9;generalize bW turn N=r at*;clear R U B1 B9 L;generalize gk=GK at*;generalize hWR:wr=WR at*;clear hWR;have F8:g<(WR.alloc (.cells (jD (m j)) 148)).heap.size:=by simp;omega
   go_wp2_with fail
   refine(E1.o _).mono ?_;rintro e V ⟨rfl,G3⟩;subst G3;go_upto_if 42 with fail
   go_cut [12] from 25 to 118 (fun v wy=>v=pV (qA V.heap.size)/\wy=V.alloc (.cells (jD (m j)) 148))
   case first=>
    by_cases J:turn.tmod 2=0
    ·rw[Uj J] at D;have F6:(turn.tmod 2 == 0)=true:=by rw[J];rfl
     clear J;have jI:(N:Int) - 1 - (i:Int)=(j:Int):=by omega
     have H5:(j:Int)<(N:Int):=by omega
     clear D;go_wp2
     go_meet
     exact⟨rfl,rfl⟩
    ·rw[Ui J] at D;have F6:(turn.tmod 2 == 0)=false:=by rw[q8];exact Uv J
     clear J;subst D;go_wp2
     go_meet
     exact⟨rfl,rfl⟩
   case rest=>
    obtain⟨rfl,rfl⟩:=hcut;clear c0 c1 c2 c3 c4 d0 d1 d2 d3 d4 F7 F8 D qI G5;generalize V.alloc (.cells (jD (m j)) 148)=W3 at*;generalize V.heap.size=n at*;generalize m j=h at*;obtain⟨M0,B7⟩:=yX (f i)
    rw[<-B7] at HY B3;clear B7;obtain⟨p,A8⟩:=yX (sN M0 h.addr 1)
    obtain⟨d,A9⟩:=yX (qF turn h p)
    obtain⟨l,c0,c1,c2,c3,c4,o⟩:=s.o _ _ _ _ _ _ HY.o;have C0:S i<=t/\S i+6000*(1+h.az.length)<=t:=by have:=B5.o;have:=E4.o;omega
    have u:=aa C0.2;clear C0;have H1:yH (yC 9 #[pV (qA b),sV h.addr,i6 1] W3 fun e w'=>l4 e/\Y b n h p (S i+500) w'):=by rw[A8];exact A4.o b n h _ (S i) W3 1 HY.o (by have:=u.o;omega) ⟨by omega,by omega⟩
    have D4:yH (f (i+1)=sN (sB (sC (kX h d h.az.length) h.addr h.code) h.addr h.aI) h.addr h.n):=by show _=_;rw[B3.o,A9,A8];rfl
    have A2:=aa A9;clear A8 A9;go_wp2_with fail
    refine H1.m ?_;rintro e w4 ⟨⟨c,rfl⟩,C2⟩;have A6:=aa C2;clear C2 l c0 c1 c2 c3 c4;go_upto_if 56 with fail
    go_cut [13,14] from 25 to 118 (fun _v _u wy=>∃K',K'<=S i+3600/\yH (Y b n h d K' wy))
    case first=>
     obtain⟨l,c0,c1,c2,c3,c4,o⟩:=s.o _ _ _ _ _ _ A6.o;by_cases B:turn.tmod 3=0
     ·have F5:(turn.tmod 3 == 0)=true:=by rw[B];rfl
      have A0:yH ((bD h.az (ag fM)).size=0->sS (sS (sN p h.addr 2) h.addr (ag fM) ⟨#[7]⟩) h.addr (ag fM) ⟨#[]⟩=d):=fun h0=>by rw[A2.o];unfold qF;rw[Uj B,Uj h0]
      have A1:yH ((bD h.az (ag fM)).size≠0->sN p h.addr 2=d):=fun h0=>by rw[A2.o];unfold qF;rw[Uj B,Ui h0]
      clear B;have H2:=aa (E7.o _ _ _ _ _ _ A6.o);go_wp2_with fail
      refine H2.m ?_;rintro e w5 ⟨⟨x,rfl,T,C8⟩,C3⟩;rw[<-C8] at A0 A1;clear C8;have E:=aa C3;have B6:=aa T;clear C3 l c0 c1 c2 c3 c4 o T;obtain⟨l,c0,c1,c2,c3,c4,o⟩:=s.o _ _ _ _ _ _ E.o;have H3:yH (yC 77 #[lV h.sa h.az.length h.sc,sV x] w5 fun e w'=>(∃v:yB,e=rV (sV v)/\v=bD h.az x)/\w'=w5):=D6.o _ _ _ _ _ _ _ E.o;go_wp2_with fail
      refine H3.m ?_;rintro e wz ⟨⟨v,rfl,C7⟩,G4⟩;rw[<-C7] at A0 A1;clear C7;subst G4;have H4:yH (yC 9 #[pV (qA b),sV h.addr,i6 2] wz fun e w'=>l4 e/\Y b n h (sN p h.addr 2) (S i+500+500) w'):=A4.o b n h _ _ wz 2 E.o (by have:=u.o;omega) ⟨by omega,by omega⟩;go_wp2_with fail
      refine H4.m ?_;rintro e w6 ⟨⟨c,rfl⟩,C⟩;have F:=aa C;clear C l c0 c1 c2 c3 c4 o;obtain⟨l,c0,c1,c2,c3,c4,o⟩:=s.o _ _ _ _ _ _ F.o;cases hve:v.toList.isEmpty with
      |true=>
       have H7:yH (yC 103 #[pV (qA b),sV h.addr,sV x,sV ⟨#[7]⟩] w6 fun e w'=>l4 e/\Y b n h (sS (sN p h.addr 2) h.addr x ⟨#[7]⟩) (S i+500+500+1300) w'):=A5.o b n h _ _ w6 x ⟨#[7]⟩ F.o (by have:=u.o;omega) B6.o (by decide);go_wp2_with fail
       refine H7.m ?_;rintro e w7 ⟨⟨c,rfl⟩,O⟩;have G:=aa O;clear O l c0 c1 c2 c3 c4 o;obtain⟨l,c0,c1,c2,c3,c4,o⟩:=s.o _ _ _ _ _ _ G.o;have H8:yH (yC 103 #[pV (qA b),sV h.addr,sV x,sV ⟨#[]⟩] w7 fun e w'=>l4 e/\Y b n h (sS (sS (sN p h.addr 2) h.addr x ⟨#[7]⟩) h.addr x ⟨#[]⟩) (S i+500+500+1300+1300) w'):=A5.o b n h _ _ w7 x ⟨#[]⟩ G.o (by have:=u.o;omega) B6.o (by decide);go_wp2_with fail
       refine H8.m ?_;rintro e w8 ⟨⟨c,rfl⟩,P⟩;have F1:yH (Y b n h d (S i+500+500+1300+1300) w8):=by rw[<-A0.o (by rw[g7] at hve;exact hve)];exact P
       clear P l c0 c1 c2 c3 c4 o;go_wp2
       go_meet
       exact⟨_,by omega,F1⟩
      |false=>
       have A7:yH (Y b n h d (S i+500+500) w6):=by rw[<-A1.o (by rw[iv] at hve;exact hve)];exact F.o
       go_wp2
       go_meet
       exact⟨_,by omega,A7⟩
     ·have F5:(turn.tmod 3 == 0)=false:=by rw[q8];exact Uv B
      have A7:yH (Y b n h d (S i+500) w4):=by rw[A2.o];unfold qF;rw[Ui B];exact A6.o
      clear B;go_wp2
      go_meet
      exact⟨_,by omega,A7⟩
    case rest=>
     obtain⟨K',G6,E⟩:=hcut;generalize wc=w5 at*;have D2:yH (∀k,k=h.az.length->f (i+1)=sN (sB (sC (kX h d k) h.addr h.code) h.addr h.aI) h.addr h.n):=fun k e=>by rw[e];exact D4.o
     obtain⟨l,c0,c1,c2,c3,c4,o⟩:=s.o _ _ _ _ _ _ E.o;generalize hSL:h.az.length=z at*;clear l c0 c1 c2 c3 c4;go_wp2
     go_loopg [15] z (fun g r wr=>∃k:Nat,g=z - k/\k<=z/\r=i6 k/\yH (Y b n h (kX h d k) (K'+1300*k) wr))
     case atStart=>exact⟨0,rfl,by omega,rfl,E⟩
     case round=>
      obtain⟨k,Q,hk,rfl,H⟩:=hrel;have D5:=aa Q;clear Q;obtain⟨l,c0,c1,c2,c3,c4,o⟩:=s.o _ _ _ _ _ _ H.o;rw[hSL] at c4 o;by_cases G1:k<z
      ·have G0:(k:Int)<(z:Int):=by omega
       obtain⟨gs,x,y,C6,G7,e0,e1,T,hy,C9⟩:=F4.o _ _ _ _ _ _ k H.o (by rw[hSL];exact G1);have E8:yH (sS (kX h d k) h.addr x y=kX h d (k+1)):=by
        show _=sS (kX h d k) h.addr (h.az.getD k (⟨#[]⟩,⟨#[]⟩)).1 (h.az.getD k (⟨#[]⟩,⟨#[]⟩)).2;rw[<-C9]
       clear C9;rw[C6] at c4;have Z:yH (yC 103 #[pV (qA b),sV h.addr,sV x,sV y] wr.drew fun e w'=>l4 e/\Y b n h (kX h d (k+1)) (K'+1300*k+1300) w'):=by
        rw[<-E8.o];exact A5.o b n h _ _ wr.drew x y (F2.o _ _ _ _ _ _ H.o) (by have:=u.o;have:=Nat.mul_le_mul_left 1300 hk;omega) T hy
       clear T hy C6;go_wp2_with fail
       go_region_with (go_at_call 103;refine Z.m ?_;rintro e w6 ⟨⟨c,rfl⟩,C⟩)
       all_goals
        go_wp2
        go_roundg (z - (k+1))
        case measure=>have:=D5.o;omega
        case rel=>exact⟨k+1,rfl,by omega,by go_num,by show Y b n h (kX h d (k+1)) (K'+1300*(k+1)) _;rw[show K'+1300*(k+1)=K'+1300*k+1300 by omega];exact C⟩
      ·obtain rfl:k=z:=by omega
       have G0:¬(k:Int)<(k:Int):=by omega
       have A3:=D2.o k (by first|rfl|exact hSL.symm);obtain⟨A,B8⟩:=yX (kX h d k)
       rw[<-B8] at H A3;have D3:=aa A3;clear B8 A3;have Z:=aa (E6.o b n h _ _ wr H.o (by have:=u.o;omega));go_wp2_with fail
       refine Z.m ?_;rintro e w6 ⟨⟨c,rfl⟩,C⟩;have F:=aa C;clear C l c0 c1 c2 c3 c4 o H;obtain⟨l,c0,c1,c2,c3,c4,o⟩:=s.o _ _ _ _ _ _ F.o;have H7:=aa (E5.o b n h _ _ w6 F.o (by have:=u.o;omega));go_wp2_with fail
       refine H7.m ?_;rintro e w7 ⟨⟨c,rfl⟩,O⟩;have G:=aa O;clear O l c0 c1 c2 c3 c4 o;obtain⟨l,c0,c1,c2,c3,c4,o⟩:=s.o _ _ _ _ _ _ G.o;have H8:yH (yC 9 #[pV (qA b),sV h.addr,i6 h.n] w7 fun e w'=>l4 e/\Y b n h (f (i+1)) (K'+1300*k+500+500+500) w'):=by
        rw[D3.o];exact A4.o b n h _ _ w7 h.n G.o (by have:=u.o;omega) (F3.o _ _ _ _ _ _ G.o)
       go_wp2_with fail
       refine H8.m ?_;rintro e w8 ⟨⟨c,rfl⟩,P⟩;have F0:yH (X b (f (i+1)) (S (i+1)) w8):=D0.o _ _ _ _ _ _ _ P (by have:=B5.o;omega);clear P l c0 c1 c2 c3 c4 o;go_wp2
       go_roundg (N - (i+1))
       case measure=>have:=HG.o;omega
       case rel=>exact⟨i+1,rfl,by omega,by go_num,F0⟩
  ·obtain rfl:i=N:=by omega
   have F9:¬(i:Int)<(i:Int):=by omega
   go_wp2
   go_ret
   exact⟨b,rfl,L⟩
end Go.Proofs.YthpclfdpbmehgaaGreatDoor
