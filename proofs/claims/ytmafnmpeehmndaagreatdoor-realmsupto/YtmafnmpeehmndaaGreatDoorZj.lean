import Derived.Test.YtmafnmpeehmndaaGreatDoorZg
open Go.Proofs.Tryz
open Go.Proofs.Tryz renaming prog→yP
open Go.Value renaming string→sV,pointer→pV,int→iV,slice→lV,bool→bV,tuple→tV,agg→gV
open Go.Ending renaming returned→rV
namespace Go.Proofs.YtmafnmpeehmndaaGreatDoor
open Go.RowKit
set_option maxRecDepth 100000
set_option maxHeartbeats 0
set_option linter.all false
def EI(v:Value):Prop:=∃b:Bool,v=bV b
def KY(w:World)(G s C a N U:Nat)(K:Option Addr)(Z:N<4000000000)(p f x u:Nat->Nat)(q:Nat->Option Addr)(F:World->Prop)
 (Q:yH (F w))
 (D:yH (∀W,F W->∃t,(yc W G 0 (lV K N U)/\G<W.heap.size)/\(yc W s 0 (pV (qA C))/\yc W s 4 (pV (qA a))/\s<W.heap.size)/\yc W a 1 (bV t)/\W.frozen? ⟨a,1,none⟩=false/\a<W.heap.size))
 (J:yH (∀W i,F W->i<N->∃g,K=some ⟨g,0,none⟩/\g<W.heap.size/\yc W g i (pV (some ⟨p i,0,none⟩))/\p i<W.heap.size/\yc W (p i) 4 (pV (some ⟨f i,0,none⟩))/\yc W (p i) 3 (lV (q i) (x i) (u i))))
 (h:yH (∀W n,F W->F (W.drewN n)))
 (M:yH (∀W i,F W->i<N->f i=a->yC 42 #[pV (qA C),lV (q i) (x i) (u i)] W fun e w'=>∃b,e=rV (bV b)/\F w'))
 (S:yH (∀W i,F W->i<N->f i≠a->(binOp BinOp.eql 42 (pV (some ⟨f i,0,none⟩)) (pV (qA a))).run yP W=.ok (bV false) W))
 (T:yH (∀W,F W->F (W.setCell ⟨a,1,none⟩ (bV true)))):
 yC 18 #[pV (qA G),pV (qA s)] w fun e w'=>e=rV (tV #[])/\yH (F w'):=by
 go_enter func18,ntmps18
 go_wp2
 go_loopg [4] N (fun g r wr=>∃i:Nat,g=N - i/\i<=N/\r=i6 i/\yH (F wr))
 case atStart=>exact⟨0,rfl,by omega,rfl,Q⟩
 case round=>
  obtain⟨i,L,hi,rfl,c⟩:=hrel;have E:=aa L;clear L;generalize gk=GK at*;obtain⟨t,⟨c0,m⟩,⟨b0,b4,j⟩,d1,f1,l⟩:=D.o _ c.o;by_cases B:i<N
  ·have X:(i:Int)<(N:Int):=by omega
   obtain⟨g,rfl,A,e0,y,e4,e3⟩:=J.o _ _ c.o B;by_cases z:f i=a
   ·have P:yH (∀n,yC 42 #[pV (qA C),lV (q i) (x i) (u i)] (wr.drewN n).drew fun e w'=>∃b,e=rV (bV b)/\F w'):=fun n=>M.o _ _ (h.o _ 1 (h.o _ n c.o)) B z
    rw[z] at e4;have A1:(binOp BinOp.eql 42 (pV (qA a)) (pV (qA a))).run yP wr.drew=.ok (bV true) wr.drew:=NI a _;go_upto_region 3 with fail
    go_cut [29] from 6 to 51 (fun v o=>v=bV true/\∃n,o=wr.drewN n)
    case first=>
     clear c;go_region
     all_goals
      go_wp2
      go_meet
      exact⟨by first|rfl|simp,_,rfl⟩
    case rest=>
     obtain⟨rfl,d,rfl⟩:=hcut;have O:=aa (P.o d);have H:=aa (h.o _ d c.o);clear c c0 m b0 b4 j d1 f1 l e0 y e4 e3 A;generalize wr.drewN d=W2 at*;obtain⟨t,⟨c0,m⟩,⟨b0,b4,j⟩,d1,f1,l⟩:=D.o _ H.o;obtain⟨Y,k,A,e0,y,e4,e3⟩:=J.o _ _ H.o B;injection k with k;injection k with k _;subst k;go_upto_region 4 with fail
     go_cut [5] from 6 to 51 (fun v o=>EI v/\yH (F o))
     case first=>
      go_region_with (go_at_call 42;refine O.m ?_;rintro e w6 ⟨b,rfl,V⟩)
      all_goals
       go_wp2
       go_meet
       exact⟨⟨_,rfl⟩,V⟩
     case rest=>
      obtain⟨⟨b,rfl⟩,I⟩:=hcut;clear c0 m b0 b4 j d1 f1 l e0 y e4 e3 A;generalize wc=W3 at*;obtain⟨t,⟨c0,m⟩,⟨b0,b4,j⟩,d1,f1,l⟩:=D.o _ I.o;cases b with
      |true=>
       have R:=aa (T.o _ I.o);go_wp2
       go_roundg (N - (i+1))
       case measure=>have:=E.o;omega
       case rel=>exact⟨i+1,rfl,by omega,by go_num,by assumption⟩
      |false=>
       go_wp2
       go_roundg (N - (i+1))
       case measure=>have:=E.o;omega
       case rel=>exact⟨i+1,rfl,by omega,by go_num,by assumption⟩
   ·have A0:(binOp BinOp.eql 42 (pV (some ⟨f i,0,none⟩)) (pV (qA a))).run yP wr.drew=.ok (bV false) wr.drew:=S.o _ i (h.o _ 1 c.o) B z;go_upto_region 3 with fail
    go_cut [29] from 6 to 51 (fun v o=>v=bV false/\∃n,o=wr.drewN n)
    case first=>
     clear c;go_region
     all_goals
      go_wp2
      go_meet
      exact⟨by first|rfl| (simp[z]),_,rfl⟩
    case rest=>
     obtain⟨rfl,d,rfl⟩:=hcut;have R:=aa (h.o _ d c.o);clear c c0 m b0 b4 j d1 f1 l e0 y e4 e3 A;generalize wr.drewN d=W2 at*;go_wp2
     go_roundg (N - (i+1))
     case measure=>have:=E.o;omega
     case rel=>exact⟨i+1,rfl,by omega,by go_num,by assumption⟩
  ·obtain rfl:i=N:=by omega
   have X:¬(i:Int)<(i:Int):=by omega
   go_wp2
   go_end0
   exact⟨rfl,c⟩
def x7(W:World)(b o:Nat)(t0 t1 t2 t3:yB):Prop:=b<W.heap.size/\W.cell? ⟨b,o+1,none⟩=some (sV t0)/\W.cell? ⟨b,o+3+1,none⟩=some (sV t1)/\W.cell? ⟨b,o+6+1,none⟩=some (sV t2)/\W.cell? ⟨b,o+9+1,none⟩=some (sV t3)
def x7.below{w w' b o t0 t1 t2 t3}(h:x7 w b o t0 t1 t2 t3)(a:yW w w'):x7 w' b o t0 t1 t2 t3:=
 ⟨Us h.1 a.size,eg a h.2.1,eg a h.2.2.1,eg a h.2.2.2.1,eg a h.2.2.2.2⟩
def pN(W:World)(n:Nat)(h:aH):Prop:=W.heap[n]? =some (.cells (jD h) 107 (0,0))
def pN.below{w w' n h}(k:pN w n h)(a:yW w w'):pN w' n h:=(a.block n (Um.1 k).1).trans k
def pN.cells{w n h}(k:pN w n h):n<w.heap.size/\w.cell? ⟨n,0,none⟩=some (sV h.addr)/\w.cell? ⟨n,1,none⟩=some (i6 h.n)/\w.cell? ⟨n,2,none⟩=some (sV h.aI)/\w.cell? ⟨n,3,none⟩=some (sV h.code)/\w.cell? ⟨n,4,none⟩=some (lV h.sa h.az.length h.sc):=by
 refine⟨(Um.1 k).1,?_,?_,?_,?_,?_⟩
 ·rw[Ur w _ 0 _ _ _ k];rfl
 ·rw[Ur w _ 1 _ _ _ k];rfl
 ·rw[Ur w _ 2 _ _ _ k];rfl
 ·rw[Ur w _ 3 _ _ _ k];rfl
 ·rw[Ur w _ 4 _ _ _ k];rfl
def Kc(e:Ending)(w':World):Prop:=∃(l:Bool) (t:yB) (a:Option Addr) (n c d:Nat),e=rV (tV #[gV #[bV l,sV t,lV a n c],iV .i64 d])/\(d=0->l=true->n=4->∃b o t0 t1 t2 t3,a=some ⟨b,o,none⟩/\x7 w' b o t0 t1 t2 t3)
def Sh(W)(s:yB)(hs:s.size<=maxLen):yC 99 #[sV s] W fun e w'=>Kc e w'/\yW W w':=by
 refine(xE W s hs).mono ?_;rintro e w' ⟨d,k⟩;refine⟨?_,k⟩;cases hr:dC s.data.toList with
 |error c=>
  rw[hr] at d;obtain⟨rfl,n⟩:=d;exact⟨false,_,_,_,_,c,rfl,fun h=>absurd h n⟩
 |ok x=>
  rw[hr] at d;obtain⟨l,t,a,m,j,rfl,hi⟩:=d;refine⟨l,t,a,m,j,0,rfl,fun _ hl h4=>?_⟩;rcases lp hi with⟨r,h1,h2,_,y⟩|⟨v,r,ks,z,_,h1,h2,_,i,_,p⟩
  ·cases h1;cases hl
  ·cases h1
   let⟨a',u,q⟩:=i.slice;cases q
   let⟨b,o,c,g,w,f⟩:=GC i h4 p;rw[h4] at g;cases g
   let⟨_,t0,_,k0,_⟩:=f 0 (by decide);let⟨_,t1,_,k1,_⟩:=f 1 (by decide);let⟨_,t2,_,k2,_⟩:=f 2 (by decide);let⟨_,t3,_,k3,_⟩:=f 3 (by decide);exact⟨b,o,t0,t1,t2,t3,rfl,UE _ _ k0,k0,k1,k2,k3⟩
def sR(W:World)(n:Nat)(l:Bool)(t:yB)(a:Option Addr)(k c:Nat):Prop:=W.heap[n]? =some (.cells #[bV l,sV t,lV a k c] 155 (0,0))
def sR.below{W b n l t a k c}(h:sR W n l t a k c)(d:yW W b):sR b n l t a k c:=(d.block n (Um.1 h).1).trans h
def sR.cells{W n l t a k c}(h:sR W n l t a k c):n<W.heap.size/\W.cell? ⟨n,2,none⟩=some (lV a k c):=⟨(Um.1 h).1,by rw[Ur W _ 2 _ _ _ h];rfl⟩
def Ly(w:World)(B9 slot:yB)(h:aH)(A0:Bool)(R Q:Option Addr)(U nv T Z:Nat)(P:World->Prop)(B8:slot.size<=1073741824)(B0:h.addr.size<=1073741824)(F0:h.az.length<4000000000)
 (D3:yH (P (w.alloc (.cells (jD h) 107))))
 (c:yH (∀W W',P W->yW W W'->P W'))
 (A:yH (∀W,P W->pN W w.heap.size h))
 (A1:yH (∀W x,P W->x.size<=1073741824->yC 23 #[sV x] W fun e w'=>uX e/\yW W w'))
 (D7:yH (∀W r k,P W->k.size=32->yC 46 #[sV r,sV k,lV R nv U] W fun e w'=>BL e/\yW W w'))
 (D6:yH (∀W r k,P W->k.size=32->yC 46 #[sV r,sV k,lV Q Z T] W fun e w'=>BL e/\yW W w'))
 (C8:yH (∀W x,P W->x.size<=160->yC 99 #[sV x] W fun e w'=>Kc e w'/\yW W w'))
 (C5:yH (∀W,P W->yC 70 #[i6 h.n] W fun e w'=>uW e/\yW W w'))
 (C7:yH (∀W,P W->yC 10 #[] W fun e w'=>uW e/\yW W w'))
 (C4:yH (∀W,P W->yC 35 #[lV h.sa h.az.length h.sc,sV slot] W fun e w'=>TS e/\w'=W))
 (C6:yH (∀W x,P W->x.size<=1073741824->yC 100 #[sV x] W fun e w'=>uW e/\yW W w')):
 yC 63 #[sV B9,gV #[sV h.addr,i6 h.n,sV h.aI,sV h.code,lV h.sa h.az.length h.sc],bV A0,sV slot,lV R nv U,lV Q Z T] w fun e w'=>kQ e/\yH (P w'):=by
 obtain⟨i,B⟩:=yX (w.alloc (.cells (jD h) 107))
 have M:yH (P i):=by rw[B];exact D3
 have E0:w.heap.size<i.heap.size:=by rw[B];simp
 obtain⟨_,b0,b1,b2,b3,b4⟩:=(A.o _ M.o).cells;have HA:=aa B0;have D5:=aa B8;clear B0 B8;unfold jD at B;have L:=aa (A1.o _ _ M.o HA.o);go_enter func63,ntmps63
 go_wp2_with fail
 rw[<-B];clear B;refine L.m ?_;rintro e w1 ⟨⟨k,rfl,hk⟩,B1⟩;have A6:=aa (c.o _ _ M.o B1);have C0:yH (yC 46 #[sV B9,sV k,lV R nv U] w1 fun e w'=>BL e/\yW w1 w'):=D7.o _ _ _ A6.o hk;clear B1 hk E0 b0 b1 b2 b3 b4;go_wp2_with fail
 refine C0.m ?_;rintro e w2 ⟨⟨t,f,rfl,ht⟩,B3⟩;have g:=aa (c.o _ _ A6.o B3);have C3:=aa (C8.o _ _ g.o ht);clear B3 ht;by_cases B5:f=0
 ·subst B5;cases hte:t.toList.isEmpty with
  |true=>
   cases A0 with
   |true=>
    go_wp2
    go_ret
    exact⟨⟨false,rfl⟩,g⟩
   |false=>
    go_wp2
    go_ret
    exact⟨⟨_,rfl⟩,g⟩
  |false=>
   cases A0 with
   |false=>
    go_wp2
    go_ret
    exact⟨⟨false,rfl⟩,g⟩
   |true=>
    go_wp2_with fail
    refine C3.m ?_;rintro e w3 ⟨⟨l,q,a,D,s,f,rfl,Y⟩,F⟩;obtain⟨d,p⟩:=yX (w3.alloc (.cells #[bV l,sV q,lV a D s] 155))
    have G:yW w3 d:=by rw[p];exact(Un _ _).alloc (Ug _) _
    have N:=aa (c.o _ _ (c.o _ _ g.o F) G);have D0:yH (sR d w3.heap.size l q a D s):=by rw[p];exact UG w3 _
    by_cases X:f=0/\l=true/\D=4
    ·obtain⟨rfl,rfl,rfl⟩:=X;obtain⟨b,o,t0,t1,t2,t3,rfl,A9⟩:=Y rfl rfl rfl;have D1:=aa (A9.below G);have C1:=aa (C5.o _ N.o);obtain⟨n4,_,e1,e2,e3,e4⟩:=(A.o _ (c.o _ _ g.o F)).cells;have E1:w.heap.size≠w3.heap.size:=by omega
     clear Y F G A9;go_wp2_with fail
     rw[<-p];clear p;refine C1.m ?_;rintro e w5 ⟨⟨x,rfl⟩,H⟩;have j:=aa (c.o _ _ N.o H);have A4:=aa (D1.o.below H);have A2:=aa (D0.o.below H);clear H e1 e2 e3 e4 n4 E1;generalize w3.heap.size=ni at*;obtain⟨n5,e0,e1,e2,e3,e4⟩:=(A.o _ j.o).cells;obtain⟨E6,i2⟩:=A2.o.cells;obtain⟨E3,k0,k1,k2,k3⟩:=A4.o;have C:(t0.toList == x.toList)=false\/((t0.toList == x.toList)=true/\(t1.toList == h.aI.toList)=false)\/((t0.toList == x.toList)=true/\(t1.toList == h.aI.toList)=true/\(t3.toList == h.code.toList)=false)\/((t0.toList == x.toList)=true/\(t1.toList == h.aI.toList)=true/\(t3.toList == h.code.toList)=true):=by
      cases (t0.toList == x.toList)<;>cases (t1.toList == h.aI.toList)<;>cases (t3.toList == h.code.toList)<;>simp
     go_upto_region 11 with fail
     go_cut [93] (fun v wx=>vi v/\∃n,wx=w5.drewN n)
     case first=>
      rcases C with h1|⟨h1,h2⟩|⟨h1,h2,h3⟩|⟨h1,h2,h3⟩;all_goals
       go_region
       all_goals
        go_wp2
        go_meet
        exact⟨⟨_,rfl⟩,_,rfl⟩
     case rest=>
      obtain⟨⟨S,rfl⟩,u,rfl⟩:=hcut;have K:yW w5 (w5.drewN u):=ig (Un _ _) u;have O:=aa (c.o _ _ j.o K);have D2:=aa (A4.o.below K);have C9:=aa (A2.o.below K);clear K C n5 e0 e1 e2 e3 e4 E6 i2 E3 k0 k1 k2 k3;generalize w5.drewN u=w6 at*;have C2:=aa (C7.o _ O.o);cases S with
      |true=>
       go_wp2
       go_ret
       exact⟨⟨false,rfl⟩,O⟩
      |false=>
       go_wp2_with fail
       refine C2.m ?_;rintro e w7 ⟨⟨y,rfl⟩,I⟩;have E:=aa (c.o _ _ O.o I);have A5:=aa (D2.o.below I);have A3:=aa (C9.o.below I);clear I;obtain⟨n7,e0,e1,e2,e3,e4⟩:=(A.o _ E.o).cells;obtain⟨E7,i2⟩:=A3.o.cells;obtain⟨E4,k0,k1,k2,k3⟩:=A5.o;have C:(h.az.length=0/\(t2.toList == y.toList)=false)\/(h.az.length=0/\(t2.toList == y.toList)=true)\/0<h.az.length:=by
        rcases Nat.eq_zero_or_pos h.az.length with h0|h0
        ·cases (t2.toList == y.toList)<;>simp[h0]
        ·exact .inr (.inr h0)
       go_upto_region 14 with fail
       go_cut [107] (fun v wx=>vi v/\wx=w7)
       case first=>
        rcases C with⟨h1,h2⟩|⟨h1,h2⟩|h1
        ·have A8:((h.az.length:Int) == 0)=true:=by rw[h1];rfl
         have D8:(t2.toList != y.toList)=true:=by rw[bne,h2];rfl
         clear h1;go_wp2
         go_meet
         exact⟨⟨_,rfl⟩,rfl⟩
        ·have A8:((h.az.length:Int) == 0)=true:=by rw[h1];rfl
         have D8:(t2.toList != y.toList)=false:=by rw[bne,h2];rfl
         clear h1;go_wp2
         go_meet
         exact⟨⟨_,rfl⟩,rfl⟩
        ·have A8:((h.az.length:Int) == 0)=false:=by rw[Vd];omega
         go_wp2
         go_meet
         exact⟨⟨_,rfl⟩,rfl⟩
       case rest=>
        obtain⟨⟨S,rfl⟩,rfl⟩:=hcut;clear C;cases S with
        |true=>
         go_wp2
         go_ret
         exact⟨⟨false,rfl⟩,E⟩
        |false=>
         have L:=aa (A1.o _ _ E.o D5.o);clear n7 e0 e1 e2 e3 e4 E7 i2 E4 k0 k1 k2 k3;go_wp2_with fail
         refine L.m ?_;rintro e w8 ⟨⟨sk,rfl,B7⟩,J⟩;have A7:=aa (c.o _ _ E.o J);obtain⟨E8,i2⟩:=(A3.o.below J).cells;obtain⟨E5,k0,k1,k2,k3⟩:=A5.o.below J;have CV:yH (yC 46 #[sV t2,sV sk,lV Q Z T] w8 fun e w'=>BL e/\yW w8 w'):=D6.o _ _ _ A7.o B7;clear J B7;go_wp2_with fail
         refine CV.m ?_;rintro e w9 ⟨⟨z,V,rfl,hz⟩,B4⟩;have m:=aa (c.o _ _ A7.o B4);obtain⟨n9,e0,e1,e2,e3,e4⟩:=(A.o _ m.o).cells;have CH:=aa (C4.o _ m.o);clear B4 hz E8 i2 E5 k0 k1 k2 k3;go_wp2_with fail
         refine CH.m ?_;rintro e wz ⟨⟨wt,rfl,bA⟩,E2⟩;subst E2;have CC:=aa (C6.o _ _ m.o bA);clear n9 e0 e1 e2 e3 e4 bA;by_cases B6:V=0
         ·subst B6;cases hwe:wt.toList.isEmpty with
          |true=>
           go_wp2
           go_ret
           exact⟨⟨_,rfl⟩,m⟩
          |false=>
           go_wp2_with fail
           refine CC.m ?_;rintro e w10 ⟨⟨y,rfl⟩,B2⟩;have D4:=aa (c.o _ _ m.o B2);clear B2;go_wp2
           go_ret
           exact⟨⟨_,rfl⟩,D4⟩
         ·have F1:((V:Int) != 0)=true:=by simp;omega
          have F2:((V:Int) == 0)=false:=by simp;omega
          clear B6;go_wp2
          go_ret
          exact⟨⟨_,rfl⟩,m⟩
    ·have j:yH (P (w3.alloc (.cells #[bV l,sV q,lV a D s] 155))):=by rw[<-p];exact N
     have D9:((f:Int) != 0)=true\/(f=0/\l=false)\/(f=0/\l=true/\((D:Int) != 4)=true):=by
      by_cases h0:f=0
      ·cases l with
       |false=>exact .inr (.inl ⟨h0,rfl⟩)
       |true=>exact .inr (.inr ⟨h0,rfl,by simp;exact fun h4=>X ⟨h0,rfl,by omega⟩⟩)
      ·exact .inl (by simp;omega)
     clear Y F G X p;rcases D9 with h1|⟨rfl,rfl⟩|⟨rfl,rfl,h1⟩
     ·go_wp2
      go_ret
      exact⟨⟨false,rfl⟩,j⟩
     ·go_wp2
      go_ret
      exact⟨⟨false,rfl⟩,j⟩
     ·go_wp2
      go_ret
      exact⟨⟨false,rfl⟩,j⟩
 ·have E9:((f:Int) != 0)=true:=by simp;omega
  clear B5;go_wp2
  go_ret
  exact⟨⟨false,rfl⟩,g⟩
end Go.Proofs.YtmafnmpeehmndaaGreatDoor
