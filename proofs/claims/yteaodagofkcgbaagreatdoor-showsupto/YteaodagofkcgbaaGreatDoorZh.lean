import Derived.Test.YteaodagofkcgbaaGreatDoorZf
open Go.Proofs.Tryz
open Go.Proofs.Tryz renaming prog→yP
open Go.Value renaming string→sV,pointer→pV,int→iV,slice→lV,bool→bV,tuple→tV,agg→gV
open Go.Ending renaming returned→rV
namespace Go.Proofs.YteaodagofkcgbaaGreatDoor
open Go.RowKit
set_option maxRecDepth 100000
set_option maxHeartbeats 0
set_option linter.all false
def l4(e:Ending):Prop:=∃c:Nat,e=rV (iV .i64 c)
def sN(M:Mp)(a:yB)(x:Int):Mp:=dO M a (decide (0<=x)) λb=>{b with n:=x.toNat}
def sB(M:Mp)(a v:yB):Mp:=dO M a (bF v) λb=>{b with aI:=v}
def sC(M:Mp)(a v:yB):Mp:=if v.size=32 then dO M a true λb=>{b with code:=v} else M
def sS(M:Mp)(a x y:yB):Mp:=kg M (ag a) (ag x) a x y
def qF(a:Int)(h:aH)(M:Mp):Mp:=if a.tmod 3=0 then(if(bD h.az (ag fM)).size=0 then sS (sS (sN M h.addr 2) h.addr (ag fM) ⟨#[7]⟩) h.addr (ag fM) ⟨#[]⟩ else sN M h.addr 2) else M
def kX(h:aH)(M:Mp):Nat->Mp
 | 0=>M
 |k+1=>sS (kX h M k) h.addr (h.az.getD k (⟨#[]⟩,⟨#[]⟩)).1 (h.az.getD k (⟨#[]⟩,⟨#[]⟩)).2
def xP(a:Int)(h:aH)(M:Mp):Mp:=sN (sB (sC (kX h (qF a h (sN M h.addr 1)) h.az.length) h.addr h.code) h.addr h.aI) h.addr h.n
def Nx(w:World)(sb:Nat)(a:Option Addr)(cap N:Nat)(d:Int)(hr:Rg d)(hN:N<4000000000)(m:Nat->aH)(S:Nat->Nat)(u:Nat)(l:Nat->Mp) (D7:yH (∀i,i<N->l (i+1)=xP d (m (dY N d i)) (l i))) (X:Nat->Mp->Nat->World->Prop) (Y:Nat->Nat->aH->Mp->Nat->World->Prop)(D1:yH (yC 10 #[] w λe w'=>e=rV (sV (ae bM))/\yW w w'))(D9:yH (∀W,yW w W->yC 22 #[pV (qA sb),sV (ae bM)] W λe w'=>∃b,e=rV (tV #[pV (qA b),i6 0])/\X b (l 0) 0 w'))(E2:yH (∀W,0<N->yC 12 #[i6 d,i6 N] W λe w'=>e=rV (i6 (bW d N))/\w'=W))(E3:yH (S 0=0)) (HS:yH (∀i,i<N->S (i+1)=S i+6000*(1+(m (dY N d i)).az.length)/\S (i+1)<=u))(B4:yH (∀b M K W j,X b M K W->j<N->∃g,a=some ⟨g,0,none⟩/\g<W.heap.size/\W.cell? ⟨g,j*5,none⟩=some (sV (m j).addr)/\W.cell? ⟨g,j*5+1,none⟩=some (i6 (m j).n)/\W.cell? ⟨g,j*5+2,none⟩=some (sV (m j).aI)/\W.cell? ⟨g,j*5+3,none⟩=some (sV (m j).code)/\W.cell? ⟨g,j*5+4,none⟩=some (lV (m j).sa (m j).az.length (m j).sc)))(D8:yH (∀b M K W j,X b M K W->j<N->Y b W.heap.size (m j) M K (W.alloc (.cells (jD (m j)) 107))))(D0:yH (∀b n h M K K' W,Y b n h M K W->K<=K'->X b M K' W))(t:yH (∀b n h M K W,Y b n h M K W->n<W.heap.size/\W.cell? ⟨n,0,none⟩=some (sV h.addr)/\W.cell? ⟨n,1,none⟩=some (i6 h.n)/\W.cell? ⟨n,2,none⟩=some (sV h.aI)/\W.cell? ⟨n,3,none⟩=some (sV h.code)/\W.cell? ⟨n,4,none⟩=some (lV h.sa h.az.length h.sc)/\h.az.length<4000000000))(F2:yH (∀b n h M K W,Y b n h M K W->Y b n h M K W.drew))(F4:yH (∀b n h M K W k,Y b n h M K W->k<h.az.length->∃(g:Nat)(x y:yB),h.sa=some ⟨g,0,none⟩/\g<W.heap.size/\W.cell? ⟨g,k*2,none⟩=some (sV x)/\W.cell? ⟨g,k*2+1,none⟩=some (sV y)/\x.size<=maxLen/\y.size<=maxLen/\(x,y)=h.az.getD k (⟨#[]⟩,⟨#[]⟩)))(A4:yH (∀b n h M K W x,Y b n h M K W->K<=u->Rg x->yC 64 #[pV (qA b),sV h.addr,i6 x] W λe w'=>l4 e/\Y b n h (sN M h.addr x) (K+500) w'))(F3:yH (∀b n h M K W,Y b n h M K W->Rg h.n))(A5:yH (∀b n h M K W x y,Y b n h M K W->K<=u->x.size<=maxLen->y.size<=maxLen->yC 72 #[pV (qA b),sV h.addr,sV x,sV y] W λe w'=>l4 e/\Y b n h (sS M h.addr x y) (K+1300) w'))(E6:yH (∀b n h M K W,Y b n h M K W->K<=u->yC 68 #[pV (qA b),sV h.addr,sV h.code] W λe w'=>l4 e/\Y b n h (sC M h.addr h.code) (K+500) w'))(E5:yH (∀b n h M K W,Y b n h M K W->K<=u->yC 67 #[pV (qA b),sV h.addr,sV h.aI] W λe w'=>l4 e/\Y b n h (sB M h.addr h.aI) (K+500) w'))(E7:yH (∀b n h M K W,Y b n h M K W->yC 23 #[sV fM] W λe w'=>(∃v:yB,e=rV (sV v)/\v.size<=maxLen/\v=ag fM)/\Y b n h M K w'))(D6:yH (∀b n h M K W x,Y b n h M K W->yC 35 #[lV h.sa h.az.length h.sc,sV x] W λe w'=>(∃v:yB,e=rV (sV v)/\v=bD h.az x)/\w'=W)):yC 58 #[pV (qA sb),lV a N cap,i6 d] w λe w'=>∃b,e=rV (pV (qA b))/\yH (X b (l N) (S N) w'):=by
 obtain⟨G8,G9⟩:=hr;go_enter func58,ntmps58
 go_wp2_with fail
 apply D1.m;rintro e w1⟨rfl,C4⟩;have E0:=aa (D9.o w1 C4);clear C4;go_wp2_with fail
 apply E0.m;rintro e w2⟨b,rfl,C1⟩;have E9:yH (X b (l 0) (S 0) w2):=by show X b (l 0) (S 0) w2;rw[E3.o];exact C1
 clear C1;go_wp2;go_loopg [11] N (λg r wr=>∃i:Nat,g=N - i/\i<=N/\r=i6 i/\yH (X b (l i) (S i) wr))
 .exact⟨0,rfl,by omega,rfl,E9⟩
 obtain⟨i,R,hi,rfl,O⟩:=hrel;have HG:=aa R;clear R;by_cases B2:i<N
 .have F9:(i:Int)<(N:Int):=by omega
  have E1:yH (∀W,yC 12 #[i6 d,i6 N] W λe w'=>e=rV (i6 (bW d N))/\w'=W):=λW=>E2.o W (by omega)
  obtain⟨j,T⟩:=yX (dY N d i);have C5:j<N:=by rw[T];exact qf _ _ _ B2
  have E:j=if d.tmod 2=0 then N - 1 - i else(i+bW d N) % N:=T;obtain⟨B1,B9⟩:=HS.o i B2;rw[<-T] at B1;obtain⟨q,V⟩:=yX ((i+bW d N) % N)
  have H0:bW d N<N:=ky d N (by omega);rw[<-V] at E;have G2:q<N:=by rw[V];exact Nat.mod_lt _ (by omega)
  have qI:((i:Int)+(bW d N:Int)) % (N:Int)=(q:Int):=by rw[V];simp
  have G5:(q:Int)<(N:Int):=by omega
  have B0:=D7.o i B2;rw[<-T] at B0;obtain⟨g,ha,F7,c0,c1,c2,c3,c4⟩:=B4.o b _ _ wr q O.o G2;obtain⟨g2,J,_,d0,d1,d2,d3,d4⟩:=B4.o b _ _ wr j O.o C5;rw[ha] at J;injection J with J;injection J with J _;subst J;subst ha;have HY:=aa (D8.o b _ _ wr j O.o C5);have B3:=aa B0;clear B0;have B5:=aa B1;have E4:=aa B9;generalize bW d N=r at*;clear T V B1 B9 O;generalize gk=GK at*;generalize hWR:wr=WR at*;clear hWR;have F8:g<(WR.alloc (.cells (jD (m j)) 107)).heap.size:=by simp;omega
  go_wp2_with fail
  refine(E1.o _).mono ?_;rintro e Z⟨rfl,G3⟩;subst G3;go_upto_if 42 with fail
  go_cut [12] from 25 to 118 (λv wy=>v=pV (qA Z.heap.size)/\wy=Z.alloc (.cells (jD (m j)) 107))
  .by_cases L:d.tmod 2=0
   .rw[Uj L] at E;have F6:(d.tmod 2 == 0)=true:=by rw[L];rfl
    clear L;have jI:(N:Int) - 1 - (i:Int)=(j:Int):=by omega
    have H5:(j:Int)<(N:Int):=by omega
    clear E;go_wp2;go_meet;exact⟨rfl,rfl⟩
   rw[Ui L] at E;have F6:(d.tmod 2 == 0)=false:=by rw[q8];exact Uv L
   clear L;subst E;go_wp2;go_meet;exact⟨rfl,rfl⟩
  obtain⟨rfl,rfl⟩:=hcut;clear c0 c1 c2 c3 c4 d0 d1 d2 d3 d4 F7 F8 E qI G5;generalize Z.alloc (.cells (jD (m j)) 107)=W3 at*;generalize Z.heap.size=n at*;generalize m j=h at*;obtain⟨M0,B7⟩:=yX (l i);rw[<-B7] at HY B3;clear B7;obtain⟨s,A8⟩:=yX (sN M0 h.addr 1);obtain⟨f,A9⟩:=yX (qF d h s);obtain⟨o,c0,c1,c2,c3,c4,p⟩:=t.o _ _ _ _ _ _ HY.o;have C0:S i<=u/\S i+6000*(1+h.az.length)<=u:=by have:=B5.o;have:=E4.o;omega
  have z:=aa C0.2;clear C0;have H1:yH (yC 64 #[pV (qA b),sV h.addr,i6 1] W3 λe w'=>l4 e/\Y b n h s (S i+500) w'):=by rw[A8];exact A4.o b n h _ (S i) W3 1 HY.o (by have:=z.o;omega) ⟨by omega,by omega⟩
  have D4:yH (l (i+1)=sN (sB (sC (kX h f h.az.length) h.addr h.code) h.addr h.aI) h.addr h.n):=by show _=_;rw[B3.o,A9,A8];rfl
  have A2:=aa A9;clear A8 A9;go_wp2_with fail
  apply H1.m;rintro e w4⟨⟨c,rfl⟩,C2⟩;have A6:=aa C2;clear C2 o c0 c1 c2 c3 c4;go_upto_if 56 with fail
  go_cut [13,14] from 25 to 118 (λ_v _u wy=>∃K',K'<=S i+3600/\yH (Y b n h f K' wy))
  .obtain⟨o,c0,c1,c2,c3,c4,p⟩:=t.o _ _ _ _ _ _ A6.o;by_cases C:d.tmod 3=0
   .have F5:(d.tmod 3 == 0)=true:=by rw[C];rfl
    have A0:yH ((bD h.az (ag fM)).size=0->sS (sS (sN s h.addr 2) h.addr (ag fM) ⟨#[7]⟩) h.addr (ag fM) ⟨#[]⟩=f):=λh0=>by rw[A2.o];unfold qF;rw[Uj C,Uj h0]
    have A1:yH ((bD h.az (ag fM)).size≠0->sN s h.addr 2=f):=λh0=>by rw[A2.o];unfold qF;rw[Uj C,Ui h0]
    clear C;have H2:=aa (E7.o _ _ _ _ _ _ A6.o);go_wp2_with fail
    apply H2.m;rintro e w5⟨⟨x,rfl,U,C8⟩,C3⟩;rw[<-C8] at A0 A1;clear C8;have F:=aa C3;have B6:=aa U;clear C3 o c0 c1 c2 c3 c4 p U;obtain⟨o,c0,c1,c2,c3,c4,p⟩:=t.o _ _ _ _ _ _ F.o;have H3:yH (yC 35 #[lV h.sa h.az.length h.sc,sV x] w5 λe w'=>(∃v:yB,e=rV (sV v)/\v=bD h.az x)/\w'=w5):=D6.o _ _ _ _ _ _ _ F.o;go_wp2_with fail
    apply H3.m;rintro e wz⟨⟨v,rfl,C7⟩,G4⟩;rw[<-C7] at A0 A1;clear C7;subst G4;have H4:yH (yC 64 #[pV (qA b),sV h.addr,i6 2] wz λe w'=>l4 e/\Y b n h (sN s h.addr 2) (S i+500+500) w'):=A4.o b n h _ _ wz 2 F.o (by have:=z.o;omega) ⟨by omega,by omega⟩;go_wp2_with fail
    apply H4.m;rintro e w6⟨⟨c,rfl⟩,D⟩;have G:=aa D;clear D o c0 c1 c2 c3 c4 p;obtain⟨o,c0,c1,c2,c3,c4,p⟩:=t.o _ _ _ _ _ _ G.o;cases hve:v.toList.isEmpty with
    |true=>
     have H7:yH (yC 72 #[pV (qA b),sV h.addr,sV x,sV ⟨#[7]⟩] w6 λe w'=>l4 e/\Y b n h (sS (sN s h.addr 2) h.addr x ⟨#[7]⟩) (S i+500+500+1300) w'):=A5.o b n h _ _ w6 x ⟨#[7]⟩ G.o (by have:=z.o;omega) B6.o (by decide);go_wp2_with fail
     apply H7.m;rintro e w7⟨⟨c,rfl⟩,P⟩;have H:=aa P;clear P o c0 c1 c2 c3 c4 p;obtain⟨o,c0,c1,c2,c3,c4,p⟩:=t.o _ _ _ _ _ _ H.o;have H8:yH (yC 72 #[pV (qA b),sV h.addr,sV x,sV ⟨#[]⟩] w7 λe w'=>l4 e/\Y b n h (sS (sS (sN s h.addr 2) h.addr x ⟨#[7]⟩) h.addr x ⟨#[]⟩) (S i+500+500+1300+1300) w'):=A5.o b n h _ _ w7 x ⟨#[]⟩ H.o (by have:=z.o;omega) B6.o (by decide);go_wp2_with fail
     apply H8.m;rintro e w8⟨⟨c,rfl⟩,Q⟩;have F1:yH (Y b n h f (S i+500+500+1300+1300) w8):=by rw[<-A0.o (by rw[g7] at hve;exact hve)];exact Q
     clear Q o c0 c1 c2 c3 c4 p;go_wp2;go_meet;exact⟨_,by omega,F1⟩
    |false=>
     have A7:yH (Y b n h f (S i+500+500) w6):=by rw[<-A1.o (by rw[iv] at hve;exact hve)];exact G.o
     go_wp2;go_meet;exact⟨_,by omega,A7⟩
   have F5:(d.tmod 3 == 0)=false:=by rw[q8];exact Uv C
   have A7:yH (Y b n h f (S i+500) w4):=by rw[A2.o];unfold qF;rw[Ui C];exact A6.o
   clear C;go_wp2;go_meet;exact⟨_,by omega,A7⟩
  obtain⟨K',G6,F⟩:=hcut;generalize wc=w5 at*;have D2:yH (∀k,k=h.az.length->l (i+1)=sN (sB (sC (kX h f k) h.addr h.code) h.addr h.aI) h.addr h.n):=λk e=>by rw[e];exact D4.o
  obtain⟨o,c0,c1,c2,c3,c4,p⟩:=t.o _ _ _ _ _ _ F.o;generalize hSL:h.az.length=A at*;clear o c0 c1 c2 c3 c4;go_wp2;go_loopg [15] A (λg r wr=>∃k:Nat,g=A - k/\k<=A/\r=i6 k/\yH (Y b n h (kX h f k) (K'+1300*k) wr))
  .exact⟨0,rfl,by omega,rfl,F⟩
  obtain⟨k,R,hk,rfl,I⟩:=hrel;have D5:=aa R;clear R;obtain⟨o,c0,c1,c2,c3,c4,p⟩:=t.o _ _ _ _ _ _ I.o;rw[hSL] at c4 p;by_cases G1:k<A
  .have G0:(k:Int)<(A:Int):=by omega
   obtain⟨gs,x,y,C6,G7,e0,e1,U,hy,C9⟩:=F4.o _ _ _ _ _ _ k I.o (by rw[hSL];exact G1);have E8:yH (sS (kX h f k) h.addr x y=kX h f (k+1)):=by
    show _=sS (kX h f k) h.addr (h.az.getD k (⟨#[]⟩,⟨#[]⟩)).1 (h.az.getD k (⟨#[]⟩,⟨#[]⟩)).2;rw[<-C9]
   clear C9;rw[C6] at c4;have H6:yH (yC 72 #[pV (qA b),sV h.addr,sV x,sV y] wr.drew λe w'=>l4 e/\Y b n h (kX h f (k+1)) (K'+1300*k+1300) w'):=by
    rw[<-E8.o];exact A5.o b n h _ _ wr.drew x y (F2.o _ _ _ _ _ _ I.o) (by have:=z.o;have:=Nat.mul_le_mul_left 1300 hk;omega) U hy
   clear U hy C6;go_wp2_with fail
   go_region_with (go_at_call 72;apply H6.m;rintro e w6⟨⟨c,rfl⟩,D⟩)
   all_goals
    go_wp2;go_roundg (A - (k+1))
    .exact⟨k+1,rfl,by omega,by go_num,by show Y b n h (kX h f (k+1)) (K'+1300*(k+1)) _;rw[show K'+1300*(k+1)=K'+1300*k+1300 by omega];exact D⟩
    have:=D5.o;omega
  obtain rfl:k=A:=by omega
  have G0:¬(k:Int)<(k:Int):=by omega
  have A3:=D2.o k (by first|rfl|exact hSL.symm);obtain⟨B,B8⟩:=yX (kX h f k);rw[<-B8] at I A3;have D3:=aa A3;clear B8 A3;have H6:=aa (E6.o b n h _ _ wr I.o (by have:=z.o;omega));go_wp2_with fail
  apply H6.m;rintro e w6⟨⟨c,rfl⟩,D⟩;have G:=aa D;clear D o c0 c1 c2 c3 c4 p I;obtain⟨o,c0,c1,c2,c3,c4,p⟩:=t.o _ _ _ _ _ _ G.o;have H7:=aa (E5.o b n h _ _ w6 G.o (by have:=z.o;omega));go_wp2_with fail
  apply H7.m;rintro e w7⟨⟨c,rfl⟩,P⟩;have H:=aa P;clear P o c0 c1 c2 c3 c4 p;obtain⟨o,c0,c1,c2,c3,c4,p⟩:=t.o _ _ _ _ _ _ H.o;have H8:yH (yC 64 #[pV (qA b),sV h.addr,i6 h.n] w7 λe w'=>l4 e/\Y b n h (l (i+1)) (K'+1300*k+500+500+500) w'):=by
   rw[D3.o];exact A4.o b n h _ _ w7 h.n H.o (by have:=z.o;omega) (F3.o _ _ _ _ _ _ H.o)
  go_wp2_with fail
  apply H8.m;rintro e w8⟨⟨c,rfl⟩,Q⟩;have F0:yH (X b (l (i+1)) (S (i+1)) w8):=D0.o _ _ _ _ _ _ _ Q (by have:=B5.o;omega);clear Q o c0 c1 c2 c3 c4 p;go_wp2;go_roundg (N - (i+1))
  .exact⟨i+1,rfl,by omega,by go_num,F0⟩
  have:=HG.o;omega
 obtain rfl:i=N:=by omega
 have F9:¬(i:Int)<(i:Int):=by omega
 go_wp2;go_ret;exact⟨b,rfl,O⟩
end Go.Proofs.YteaodagofkcgbaaGreatDoor
