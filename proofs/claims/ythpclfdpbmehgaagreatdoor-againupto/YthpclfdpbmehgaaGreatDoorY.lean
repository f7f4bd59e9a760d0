import Derived.Test.YthpclfdpbmehgaaGreatDoorV
open Go.Proofs.Tryz
open Go.Proofs.Tryz renaming prog→yP
open Go.Value renaming string→sV,pointer→pV,int→iV,slice→lV,bool→bV,tuple→tV,agg→gV
open Go.Ending renaming returned→rV
namespace Go.Proofs.YthpclfdpbmehgaaGreatDoor
open Go.RowKit
set_option maxRecDepth 100000
set_option maxHeartbeats 0
set_option linter.all false
def x7(W:World)(b o:Nat)(t0 t1 t2 t3:yB):Prop:=b<W.heap.size/\W.cell? ⟨b,o+1,none⟩=some (sV t0)/\W.cell? ⟨b,o+3+1,none⟩=some (sV t1)/\W.cell? ⟨b,o+6+1,none⟩=some (sV t2)/\W.cell? ⟨b,o+9+1,none⟩=some (sV t3)
def x7.below{w w' b o t0 t1 t2 t3}(h:x7 w b o t0 t1 t2 t3)(a:yW w w'):x7 w' b o t0 t1 t2 t3:=
 ⟨Us h.1 a.size,eg a h.2.1,eg a h.2.2.1,eg a h.2.2.2.1,eg a h.2.2.2.2⟩
def pN(W:World)(n:Nat)(h:aH):Prop:=W.heap[n]? =some (.cells (jD h) 148 (0,0))
def pN.below{w w' n h}(k:pN w n h)(a:yW w w'):pN w' n h:=(a.block n (Um.1 k).1).trans k
def pN.cells{w n h}(k:pN w n h):n<w.heap.size/\w.cell? ⟨n,0,none⟩=some (sV h.addr)/\w.cell? ⟨n,1,none⟩=some (i6 h.n)/\w.cell? ⟨n,2,none⟩=some (sV h.aI)/\w.cell? ⟨n,3,none⟩=some (sV h.code)/\w.cell? ⟨n,4,none⟩=some (lV h.sa h.az.length h.sc):=by
 refine⟨(Um.1 k).1,?_,?_,?_,?_,?_⟩
 ·rw[Ur w _ 0 _ _ _ k];rfl
 ·rw[Ur w _ 1 _ _ _ k];rfl
 ·rw[Ur w _ 2 _ _ _ k];rfl
 ·rw[Ur w _ 3 _ _ _ k];rfl
 ·rw[Ur w _ 4 _ _ _ k];rfl
def Kc(e:Ending)(w':World):Prop:=∃(l:Bool) (t:yB) (a:Option Addr) (n c d:Nat),e=rV (tV #[gV #[bV l,sV t,lV a n c],iV .i64 d])/\(d=0->l=true->n=4->∃b o t0 t1 t2 t3,a=some ⟨b,o,none⟩/\x7 w' b o t0 t1 t2 t3)
def Sh(W)(s:yB)(hs:s.size<=maxLen):yC 111 #[sV s] W fun e w'=>Kc e w'/\yW W w':=by
 refine(xE W s hs).mono ?_;rintro e w' ⟨d,k⟩;refine⟨?_,k⟩;cases hr:dC s.data.toList with
 |error c=>
  rw[hr] at d;obtain⟨rfl,n⟩:=d;exact⟨false,_,_,_,_,c,rfl,fun h=>absurd h n⟩
 |ok x=>
  rw[hr] at d;obtain⟨l,t,a,m,j,rfl,hi⟩:=d;refine⟨l,t,a,m,j,0,rfl,fun _ hl h4=>?_⟩;rcases lp hi with⟨r,h1,h2,_,y⟩|⟨v,r,ks,z,_,h1,h2,_,i,_,p⟩
  ·cases h1;cases hl
  ·cases h1
   let⟨a',u,q⟩:=i.slice;cases q
   let⟨b,o,c,g,w,f⟩:=GC i h4 p;rw[h4] at g;cases g
   let⟨_,t0,_,k0,_⟩:=f 0 (by decide);let⟨_,t1,_,k1,_⟩:=f 1 (by decide);let⟨_,t2,_,k2,_⟩:=f 2 (by decide);let⟨_,t3,_,k3,_⟩:=f 3 (by decide);exact⟨b,o,t0,t1,t2,t3,rfl,UE _ _ k0,k0,k1,k2,k3⟩
def sR(W:World)(n:Nat)(l:Bool)(t:yB)(a:Option Addr)(k c:Nat):Prop:=W.heap[n]? =some (.cells #[bV l,sV t,lV a k c] 120 (0,0))
def sR.below{W b n l t a k c}(h:sR W n l t a k c)(d:yW W b):sR b n l t a k c:=(d.block n (Um.1 h).1).trans h
def sR.cells{W n l t a k c}(h:sR W n l t a k c):n<W.heap.size/\W.cell? ⟨n,2,none⟩=some (lV a k c):=⟨(Um.1 h).1,by rw[Ur W _ 2 _ _ _ h];rfl⟩
def Ly(w:World)(B9 slot:yB)(h:aH)(A0:Bool)(R Q:Option Addr)(U nv T Z:Nat)(P:World->Prop)(B8:slot.size<=1073741824)(B0:h.addr.size<=1073741824)(F0:h.az.length<4000000000)
 (D3:yH (P (w.alloc (.cells (jD h) 148))))
 (c:yH (∀W W',P W->yW W W'->P W'))
 (A:yH (∀W,P W->pN W w.heap.size h))
 (A1:yH (∀W x,P W->x.size<=1073741824->yC 16 #[sV x] W fun e w'=>uX e/\yW W w'))
 (D7:yH (∀W r k,P W->k.size=32->yC 84 #[sV r,sV k,lV R nv U] W fun e w'=>BL e/\yW W w'))
 (D6:yH (∀W r k,P W->k.size=32->yC 84 #[sV r,sV k,lV Q Z T] W fun e w'=>BL e/\yW W w'))
 (C8:yH (∀W x,P W->x.size<=160->yC 111 #[sV x] W fun e w'=>Kc e w'/\yW W w'))
 (C5:yH (∀W,P W->yC 101 #[i6 h.n] W fun e w'=>uW e/\yW W w'))
 (C7:yH (∀W,P W->yC 7 #[] W fun e w'=>uW e/\yW W w'))
 (C4:yH (∀W,P W->yC 77 #[lV h.sa h.az.length h.sc,sV slot] W fun e w'=>TS e/\w'=W))
 (C6:yH (∀W x,P W->x.size<=1073741824->yC 128 #[sV x] W fun e w'=>uW e/\yW W w')):
 yC 95 #[sV B9,gV #[sV h.addr,i6 h.n,sV h.aI,sV h.code,lV h.sa h.az.length h.sc],bV A0,sV slot,lV R nv U,lV Q Z T] w fun e w'=>kQ e/\yH (P w'):=by
 obtain⟨i,B⟩:=yX (w.alloc (.cells (jD h) 148))
 have M:yH (P i):=by rw[B];exact D3
 have E0:w.heap.size<i.heap.size:=by rw[B];simp
 obtain⟨_,b0,b1,b2,b3,b4⟩:=(A.o _ M.o).cells;have HA:=aa B0;have D5:=aa B8;clear B0 B8;unfold jD at B;have L:=aa (A1.o _ _ M.o HA.o);go_enter func95,ntmps95
 go_wp2_with fail
 rw[<-B];clear B;refine L.m ?_;rintro e w1 ⟨⟨k,rfl,hk⟩,B1⟩;have A6:=aa (c.o _ _ M.o B1);have C0:yH (yC 84 #[sV B9,sV k,lV R nv U] w1 fun e w'=>BL e/\yW w1 w'):=D7.o _ _ _ A6.o hk;clear B1 hk E0 b0 b1 b2 b3 b4;go_wp2_with fail
 refine C0.m ?_;rintro e w2 ⟨⟨t,f,rfl,ht⟩,B3⟩;have g:=aa (c.o _ _ A6.o B3);have C3:=aa (C8.o _ _ g.o ht);clear B3 ht;by_cases B5:f=0
 ·subst B5;cases hte:t.toList.isEmpty with
  |true=>
   cases A0 with
   |true=>
    go_wp2
    go_ret
    exact⟨⟨false,rfl⟩,g⟩
   |false=>
    go_wp2
    go_ret
    exact⟨⟨_,rfl⟩,g⟩
  |false=>
   cases A0 with
   |false=>
    go_wp2
    go_ret
    exact⟨⟨false,rfl⟩,g⟩
   |true=>
    go_wp2_with fail
    refine C3.m ?_;rintro e w3 ⟨⟨l,q,a,D,s,f,rfl,Y⟩,F⟩;obtain⟨d,p⟩:=yX (w3.alloc (.cells #[bV l,sV q,lV a D s] 120))
    have G:yW w3 d:=by rw[p];exact(Un _ _).alloc (Ug _) _
    have N:=aa (c.o _ _ (c.o _ _ g.o F) G);have D0:yH (sR d w3.heap.size l q a D s):=by rw[p];exact UG w3 _
    by_cases X:f=0/\l=true/\D=4
    ·obtain⟨rfl,rfl,rfl⟩:=X;obtain⟨b,o,t0,t1,t2,t3,rfl,A9⟩:=Y rfl rfl rfl;have D1:=aa (A9.below G);have C1:=aa (C5.o _ N.o);obtain⟨n4,_,e1,e2,e3,e4⟩:=(A.o _ (c.o _ _ g.o F)).cells;have E1:w.heap.size≠w3.heap.size:=by omega
     clear Y F G A9;go_wp2_with fail
     rw[<-p];clear p;refine C1.m ?_;rintro e w5 ⟨⟨x,rfl⟩,H⟩;have j:=aa (c.o _ _ N.o H);have A4:=aa (D1.o.below H);have A2:=aa (D0.o.below H);clear H e1 e2 e3 e4 n4 E1;generalize w3.heap.size=ni at*;obtain⟨n5,e0,e1,e2,e3,e4⟩:=(A.o _ j.o).cells;obtain⟨E6,i2⟩:=A2.o.cells;obtain⟨E3,k0,k1,k2,k3⟩:=A4.o;have C:(t0.toList == x.toList)=false\/((t0.toList == x.toList)=true/\(t1.toList == h.aI.toList)=false)\/((t0.toList == x.toList)=true/\(t1.toList == h.aI.toList)=true/\(t3.toList == h.code.toList)=false)\/((t0.toList == x.toList)=true/\(t1.toList == h.aI.toList)=true/\(t3.toList == h.code.toList)=true):=by
      cases (t0.toList == x.toList)<;>cases (t1.toList == h.aI.toList)<;>cases (t3.toList == h.code.toList)<;>simp
     go_upto_region 11 with fail
     go_cut [93] (fun v wx=>vi v/\∃n,wx=w5.drewN n)
     case first=>
      rcases C with h1|⟨h1,h2⟩|⟨h1,h2,h3⟩|⟨h1,h2,h3⟩;all_goals
       go_region
       all_goals
        go_wp2
        go_meet
        exact⟨⟨_,rfl⟩,_,rfl⟩
     case rest=>
      obtain⟨⟨S,rfl⟩,u,rfl⟩:=hcut;have K:yW w5 (w5.drewN u):=ig (Un _ _) u;have O:=aa (c.o _ _ j.o K);have D2:=aa (A4.o.below K);have C9:=aa (A2.o.below K);clear K C n5 e0 e1 e2 e3 e4 E6 i2 E3 k0 k1 k2 k3;generalize w5.drewN u=w6 at*;have C2:=aa (C7.o _ O.o);cases S with
      |true=>
       go_wp2
       go_ret
       exact⟨⟨false,rfl⟩,O⟩
      |false=>
       go_wp2_with fail
       refine C2.m ?_;rintro e w7 ⟨⟨y,rfl⟩,I⟩;have E:=aa (c.o _ _ O.o I);have A5:=aa (D2.o.below I);have A3:=aa (C9.o.below I);clear I;obtain⟨n7,e0,e1,e2,e3,e4⟩:=(A.o _ E.o).cells;obtain⟨E7,i2⟩:=A3.o.cells;obtain⟨E4,k0,k1,k2,k3⟩:=A5.o;have C:(h.az.length=0/\(t2.toList == y.toList)=false)\/(h.az.length=0/\(t2.toList == y.toList)=true)\/0<h.az.length:=by
        rcases Nat.eq_zero_or_pos h.az.length with h0|h0
        ·cases (t2.toList == y.toList)<;>simp[h0]
        ·exact .inr (.inr h0)
       go_upto_region 14 with fail
       go_cut [107] (fun v wx=>vi v/\wx=w7)
       case first=>
        rcases C with⟨h1,h2⟩|⟨h1,h2⟩|h1
        ·have A8:((h.az.length:Int) == 0)=true:=by rw[h1];rfl
         have D8:(t2.toList != y.toList)=true:=by rw[bne,h2];rfl
         clear h1;go_wp2
         go_meet
         exact⟨⟨_,rfl⟩,rfl⟩
        ·have A8:((h.az.length:Int) == 0)=true:=by rw[h1];rfl
         have D8:(t2.toList != y.toList)=false:=by rw[bne,h2];rfl
         clear h1;go_wp2
         go_meet
         exact⟨⟨_,rfl⟩,rfl⟩
        ·have A8:((h.az.length:Int) == 0)=false:=by rw[Vd];omega
         go_wp2
         go_meet
         exact⟨⟨_,rfl⟩,rfl⟩
       case rest=>
        obtain⟨⟨S,rfl⟩,rfl⟩:=hcut;clear C;cases S with
        |true=>
         go_wp2
         go_ret
         exact⟨⟨false,rfl⟩,E⟩
        |false=>
         have L:=aa (A1.o _ _ E.o D5.o);clear n7 e0 e1 e2 e3 e4 E7 i2 E4 k0 k1 k2 k3;go_wp2_with fail
         refine L.m ?_;rintro e w8 ⟨⟨sk,rfl,B7⟩,J⟩;have A7:=aa (c.o _ _ E.o J);obtain⟨E8,i2⟩:=(A3.o.below J).cells;obtain⟨E5,k0,k1,k2,k3⟩:=A5.o.below J;have CV:yH (yC 84 #[sV t2,sV sk,lV Q Z T] w8 fun e w'=>BL e/\yW w8 w'):=D6.o _ _ _ A7.o B7;clear J B7;go_wp2_with fail
         refine CV.m ?_;rintro e w9 ⟨⟨z,V,rfl,hz⟩,B4⟩;have m:=aa (c.o _ _ A7.o B4);obtain⟨n9,e0,e1,e2,e3,e4⟩:=(A.o _ m.o).cells;have CH:=aa (C4.o _ m.o);clear B4 hz E8 i2 E5 k0 k1 k2 k3;go_wp2_with fail
         refine CH.m ?_;rintro e wz ⟨⟨wt,rfl,bA⟩,E2⟩;subst E2;have CC:=aa (C6.o _ _ m.o bA);clear n9 e0 e1 e2 e3 e4 bA;by_cases B6:V=0
         ·subst B6;cases hwe:wt.toList.isEmpty with
          |true=>
           go_wp2
           go_ret
           exact⟨⟨_,rfl⟩,m⟩
          |false=>
           go_wp2_with fail
           refine CC.m ?_;rintro e w10 ⟨⟨y,rfl⟩,B2⟩;have D4:=aa (c.o _ _ m.o B2);clear B2;go_wp2
           go_ret
           exact⟨⟨_,rfl⟩,D4⟩
         ·have F1:((V:Int) != 0)=true:=by simp;omega
          have F2:((V:Int) == 0)=false:=by simp;omega
          clear B6;go_wp2
          go_ret
          exact⟨⟨_,rfl⟩,m⟩
    ·have j:yH (P (w3.alloc (.cells #[bV l,sV q,lV a D s] 120))):=by rw[<-p];exact N
     have D9:((f:Int) != 0)=true\/(f=0/\l=false)\/(f=0/\l=true/\((D:Int) != 4)=true):=by
      by_cases h0:f=0
      ·cases l with
       |false=>exact .inr (.inl ⟨h0,rfl⟩)
       |true=>exact .inr (.inr ⟨h0,rfl,by simp;exact fun h4=>X ⟨h0,rfl,by omega⟩⟩)
      ·exact .inl (by simp;omega)
     clear Y F G X p;rcases D9 with h1|⟨rfl,rfl⟩|⟨rfl,rfl,h1⟩
     ·go_wp2
      go_ret
      exact⟨⟨false,rfl⟩,j⟩
     ·go_wp2
      go_ret
      exact⟨⟨false,rfl⟩,j⟩
     ·go_wp2
      go_ret
      exact⟨⟨false,rfl⟩,j⟩
 ·have E9:((f:Int) != 0)=true:=by simp;omega
  clear B5;go_wp2
  go_ret
  exact⟨⟨false,rfl⟩,g⟩
def oI(w0:World)(v:Value)(cs:List yB)(W:World):Prop:=W.ownsRow w0.heap.size 9 1 v cs.length (cs.map Value.string)/\yW w0 W
def oI.nil(w0):oI w0 (lV none 0 0) [] w0:=⟨U8 _ _ _ _,Un _ _⟩
def oI.alloc{w0 v cs W}(h:oI w0 v cs W)(o:Obj):oI w0 v cs (W.alloc o):=⟨h.1.alloc _,h.2.alloc h.2.size _⟩
def oI.append{w0 v cs W}(h:oI w0 v cs W)(b:Nat)(c)(q:List yB)(g:dE b W c q)(h63:cs.length+q.length<=4200000000000):
 ∃a' a w',(Builtin.append_ #[40,40] 40 #[v,c]).run yP W=.ok (lV a' (cs++q).length a) w'/\oI w0 (lV a' (cs++q).length a) (cs++q) w':=by
 let⟨j,w',i,d,e,_⟩:=uR W w0.heap.size v cs h.1 b c q g h63 h.2.size;obtain⟨a',a,rfl,_⟩:=dM d;exact⟨a',a,w',i,d,h.2.grown e h.2.size fun k f=>(h.1.lt k f).1⟩
structure xU where
 a1:Option Addr
 c1:Nat
 ps:List yB
 a2:Option Addr
 c2:Nat
 qs:List yB
 a3:Option Addr
 c3:Nat
 os:List yB
def td(W:World)(n:Nat)(x:Int)(b r c:yB):Prop:=W.heap[n]? =some (.cells #[iV .i64 x,sV b,sV r,sV c] 37 (0,0))
def td.below{W a n}{x:Int}{b r c}(h:td W n x b r c)(d:yW W a):td a n x b r c:=(d.block n (Um.1 h).1).trans h
def td.cells{W n}{x:Int}{b r c}(h:td W n x b r c):n<W.heap.size/\W.cell? ⟨n,0,none⟩=some (i6 x)/\W.cell? ⟨n,1,none⟩=some (sV b)/\W.cell? ⟨n,3,none⟩=some (sV c):=
 ⟨(Um.1 h).1,by rw[Ur W _ 0 _ _ _ h];rfl,by rw[Ur W _ 1 _ _ _ h];rfl,by rw[Ur W _ 3 _ _ _ h];rfl⟩
def Mo(w:World)(rb z:Nat)(I:Option Addr)(N K:Nat)(addr slot:yB)(E:World->Prop)(X Y:xU->World->Prop)(q:aH->Prop)
 (G2:yH (w.cell? ⟨rb,1,none⟩=some (pV (qA z))/\rb<w.heap.size))
 (R:yH (∀W,E W->W.cell? ⟨rb,1,none⟩=some (pV (qA z))/\W.cell? ⟨rb,2,none⟩=some (lV I N K)/\rb<W.heap.size))
 (B5:yH (∀W m,E W->yW W m->E m))
 (I4:yH (∀s W m,Y s W->yW W m->Y s m))
 (I2:yH (∀s W,X s W->E W)) (B9:yH (∀s W,Y s W->E W))
 (I5:yH (∀s W,Y s W->oM W s.a1 s.ps/\oM W s.a3 s.os/\(∃b,dE b W (lV s.a1 s.ps.length s.c1) s.ps)/\(∃b,dE b W (lV s.a2 s.qs.length s.c2) s.qs)/\fh 81 s.ps/\fh 81 s.qs))
 (F2:yH (yC 92 #[pV (qA z),sV addr,sV slot] w fun e w'=>∃(s:xU) (c:Nat),e=rV (tV #[lV s.a1 s.ps.length s.c1,lV s.a2 s.qs.length s.c2,i6 c])/\X s w'))
 (F1:yH (∀s W,X s W->yC 12 #[pV (qA z),sV addr] W fun e w'=>∃(a3:Option Addr) (c3:Nat) (os:List yB) (c:Nat),e=rV (tV #[lV a3 os.length c3,i6 c])/\Y {s with a3:=a3,c3:=c3,os:=os} w'))
 (F0:yH (∀s W,Y s W->yC 11 #[pV (qA z)] W fun e w'=>uX e/\yW W w'))
 (E9:yH (∀s W,Y s W->yC 86 #[lV I N K,sV addr] W fun e w'=>(∃h i,e=rV (tV #[gV #[sV h.addr,i6 h.n,sV h.aI,sV h.code,lV h.sa h.az.length h.sc],bV i])/\q h)/\yW W w'))
 (F3:yH (∀s W r,Y s W->yC 93 #[sV r,sV addr,lV s.a1 s.ps.length s.c1] W fun e w'=>(∃(x:Int) (b r c:yB) (B:Bool) (d:Nat),e=rV (tV #[gV #[i6 x,sV b,sV r,sV c],bV B,i6 d]))/\yW W w'))
 (F4:yH (∀s W r,Y s W->yC 94 #[sV r,sV addr,sV slot,lV s.a1 s.ps.length s.c1,lV s.a2 s.qs.length s.c2] W fun e w'=>(∃(x:yB) (c:Nat),e=rV (tV #[sV x,i6 c]))/\yW W w'))
 (E7:yH (∀s W h,Y s W->q h->yC 77 #[lV h.sa h.az.length h.sc,sV slot] W fun e w'=>uW e/\w'=W))
 (F5:yH (∀s W r h i,Y s W->q h->yC 95 #[sV r,gV #[sV h.addr,i6 h.n,sV h.aI,sV h.code,lV h.sa h.az.length h.sc],bV i,sV slot,lV s.a1 s.ps.length s.c1,lV s.a2 s.qs.length s.c2] W fun e w'=>kQ e/\yW W w'))
 (E8:yH (∀s W v cs b,Y s W->dE b W v cs->fh 200 cs->yC 13 #[v] W fun e w'=>kQ e/\yW W w'))
 (B3:yH (∀W,E W->yC 87 #[pV (qA rb)] W fun e w'=>kQ e/\yW W w')):
 yC 53 #[pV (qA rb),sV addr,sV slot] w fun e w'=>kQ e/\yH (E w'):=by
 obtain⟨d1,u⟩:=G2.o;go_enter func53,ntmps53
 go_wp2_with fail
 refine F2.m ?_;rintro e w1 ⟨s,d,rfl,A2⟩;have I1:=aa A2;have G:=aa (I2.o _ _ A2);obtain⟨a1,c1,a,a2,c2,f,_,_,_⟩:=s;clear A2 d1 u;obtain⟨r1,r2,u⟩:=R.o _ G.o;by_cases h20:addr.size=20
 ·have I7:(addr.size:Int)=20:=by omega
  clear h20;by_cases D2:d=0
  ·subst D2;have B2:=F1.o _ _ I1.o;have G8:=aa B2;clear B2;go_wp2_with fail
   refine G8.m ?_;rintro e w2 ⟨a3,c3,os,d,rfl,A3⟩;have I3:=aa A3;have B4:=aa (B9.o _ _ A3);clear A3 r1 r2 u;by_cases A8:d=0/\os.length=a.length
   ·obtain⟨rfl,D6⟩:=A8;have B7:=aa D6;have J5:((os.length:Int) != (a.length:Int))=false:=by simp;omega
    clear D6;obtain⟨Z,k⟩:=yX (Y ⟨a1,c1,a,a2,c2,f,a3,c3,os⟩)
    have l:yH (∀W m,Z W->yW W m->Z m):=by rw[k];exact fun W m=>I4.o _ W m
    have D:yH (∀W,Z W->E W):=by rw[k];exact fun W=>B9.o _ W
    have Q:yH (∀W,Z W->oM W a1 a/\oM W a3 os/\(∃b,dE b W (lV a1 a.length c1) a)/\(∃b,dE b W (lV a2 f.length c2) f)/\fh 81 a/\fh 81 f):=by rw[k];exact fun W=>I5.o _ W
    have E3:yH (∀W,Z W->yC 11 #[pV (qA z)] W fun e w'=>uX e/\yW W w'):=by rw[k];exact fun W=>F0.o _ W
    have E2:yH (∀W,Z W->yC 86 #[lV I N K,sV addr] W fun e w'=>(∃h i,e=rV (tV #[gV #[sV h.addr,i6 h.n,sV h.aI,sV h.code,lV h.sa h.az.length h.sc],bV i])/\q h)/\yW W w'):=by rw[k];exact fun W=>E9.o _ W
    have E4:yH (∀W r,Z W->yC 93 #[sV r,sV addr,lV a1 a.length c1] W fun e w'=>(∃(x:Int) (b r c:yB) (B:Bool) (d:Nat),e=rV (tV #[gV #[i6 x,sV b,sV r,sV c],bV B,i6 d]))/\yW W w'):=by rw[k];exact fun W r=>F3.o _ W r
    have E5:yH (∀W r,Z W->yC 94 #[sV r,sV addr,sV slot,lV a1 a.length c1,lV a2 f.length c2] W fun e w'=>(∃(x:yB) (c:Nat),e=rV (tV #[sV x,i6 c]))/\yW W w'):=by rw[k];exact fun W r=>F4.o _ W r
    have E0:yH (∀W h,Z W->q h->yC 77 #[lV h.sa h.az.length h.sc,sV slot] W fun e w'=>uW e/\w'=W):=by rw[k];exact fun W h=>E7.o _ W h
    have E6:yH (∀W r h i,Z W->q h->yC 95 #[sV r,gV #[sV h.addr,i6 h.n,sV h.aI,sV h.code,lV h.sa h.az.length h.sc],bV i,sV slot,lV a1 a.length c1,lV a2 f.length c2] W fun e w'=>kQ e/\yW W w'):=by rw[k];exact fun W r h i=>F5.o _ W r h i
    have E1:yH (∀W v cs b,Z W->dE b W v cs->fh 200 cs->yC 13 #[v] W fun e w'=>kQ e/\yW W w'):=by rw[k];exact fun W v cs b=>E8.o _ W v cs b
    have C0:yH (Z w2):=by rw[k];exact I3
    clear k;obtain⟨_,_,_,_,A9,D7⟩:=Q.o _ C0.o;have T:=aa A9;have B8:=aa D7;have J7:=A9.1;have J6:os.length<=81:=by have:=B7.o;omega
    clear A9 D7;generalize hPL:a.length=o at*;generalize hOL:os.length=OL at*;have H7:=aa hPL;have H6:=aa hOL;clear hPL hOL;go_wp2
    go_loopg [11] o (fun g r wr=>∃j:Nat,g=o - j/\j<=o/\r=i6 j/\yH (Z wr))
    case atStart=>exact⟨0,rfl,by omega,rfl,C0⟩
    case round=>
     obtain⟨j,hg,hj,rfl,t⟩:=hrel;have HG:=aa hg;clear hg;generalize gk=GK at*;by_cases J1:j<o
     ·have J0:(j:Int)<(o:Int):=by omega
      have J4:(j:Int)<(OL:Int):=by have:=B7.o;omega
      have D5:j<OL:=by omega
      obtain⟨t1,t3,_⟩:=Q.o _ t.o;obtain⟨x,hx⟩:∃x,a[j]? =some x:=⟨_,Uh (by rw[H7.o];exact J1)⟩
      obtain⟨y,hy⟩:∃y,os[j]? =some y:=⟨_,Uh (by rw[H6.o];exact D5)⟩
      obtain⟨g1,rfl,I8,k1⟩:=t1 j x hx;obtain⟨g3,rfl,I9,k3⟩:=t3 j y hy;clear hx hy t1 t3 D5;have A1:=aa (l.o _ _ t.o (ig (Un _ _) 1));go_upto_region 12 with fail
      go_cut [76] from 62 to 76 (fun v F=>vi v/\∃n,F=wr.drewN n)
      case first=>
       go_region
       all_goals
        go_wp2
        go_meet
        exact⟨⟨_,rfl⟩,_,rfl⟩
      case rest=>
       obtain⟨⟨cb,rfl⟩,P,rfl⟩:=hcut;have C3:=aa (l.o _ _ t.o (ig (Un _ _) P));have H5:=aa (D.o _ C3.o);clear t k1 k3 I8 I9;generalize wr.drewN P=W3 at*;cases cb with
       |true=>
        go_wp2
        go_ret
        exact⟨⟨false,rfl⟩,H5⟩
       |false=>
        go_wp2
        go_roundg (o - (j+1))
        case measure=>have:=HG.o;omega
        case rel=>exact⟨j+1,rfl,by omega,by go_num,C3⟩
     ·obtain rfl:j=o:=by omega
      have J0:¬(j:Int)<(j:Int):=by omega
      obtain⟨r1,r2,u⟩:=R.o _ (D.o _ t.o);have B1:=E3.o _ t.o;have G7:=aa B1;clear B1;go_wp2_with fail
      refine G7.m ?_;rintro e w3 ⟨⟨B0,rfl,_⟩,C6⟩;have U:=aa (l.o _ _ t.o C6);clear C6 t r1 r2 u;obtain⟨r1,r2,u⟩:=R.o _ (D.o _ U.o);have G5:=aa (E2.o _ U.o);go_wp2_with fail
      refine G5.m ?_;rintro e w4 ⟨⟨h,i,rfl,hh⟩,C7⟩;have B6:=aa hh;obtain⟨A,L⟩:=yX (w4.alloc (.cells #[sV h.addr,i6 h.n,sV h.aI,sV h.code,lV h.sa h.az.length h.sc] 148))
      have F8:yH (pN A w4.heap.size h):=by rw[L];exact UG w4 _
      have C1:yH (Z A):=l.o _ _ (l.o _ _ U.o C7) (by rw[L];exact(Un _ _).alloc (Ug _) _);have G9:yH (yC 93 #[sV B0,sV addr,lV a1 j c1] A fun e w'=>(∃(x:Int) (b r c:yB) (B:Bool) (d:Nat),e=rV (tV #[gV #[i6 x,sV b,sV r,sV c],bV B,i6 d]))/\yW A w'):=E4.o _ _ C1.o;clear C7 hh r1 r2 u;go_wp2_with fail
      rw[<-L];clear L;generalize w4.heap.size=nh at*;refine G9.m ?_;rintro e w6 ⟨⟨J,H,ar,ac,B,d,rfl⟩,A4⟩;have I6:=aa (l.o _ _ C1.o A4);obtain⟨p,M⟩:=yX (w6.alloc (.cells #[i6 J,sV H,sV ar,sV ac] 37))
      have A5:yW w6 p:=by rw[M];exact(Un _ _).alloc (Ug _) _
      have F6:yH (td p w6.heap.size J H ar ac):=by rw[M];exact UG w6 _
      have F9:=aa ((F8.o.below A4).below A5);have C2:=aa (l.o _ _ I6.o A5);have H0:yH (yC 94 #[sV B0,sV addr,sV slot,lV a1 j c1,lV a2 f.length c2] p fun e w'=>(∃(x:yB) (c:Nat),e=rV (tV #[sV x,i6 c]))/\yW p w'):=E5.o _ _ C2.o;clear A4 A5;go_wp2_with fail
      rw[<-M];clear M;generalize w6.heap.size=na at*;refine H0.m ?_;rintro e w8 ⟨⟨vx,vf,rfl⟩,O⟩;have V:=aa (l.o _ _ C2.o O);have F7:=aa (F6.o.below O);have G0:=aa (F9.o.below O);clear O;obtain⟨n8,e0,e1,e2,e3,e4⟩:=G0.o.cells;obtain⟨m8,f0,f1,f3⟩:=F7.o.cells;have G3:=aa (E0.o _ _ V.o B6.o);go_wp2_with fail
      refine G3.m ?_;rintro e wz ⟨⟨wt,rfl⟩,J2⟩;subst J2;go_upto_region 19 with fail
      go_cut [20] (fun v F=>vi v/\F=wz)
      case first=>
       cases hq1:(B == i) with
       |false=>
        go_wp2
        go_meet
        exact⟨⟨_,rfl⟩,rfl⟩
       |true=>
        cases hq2:(J == h.n) with
        |false=>
         go_wp2
         go_meet
         exact⟨⟨_,rfl⟩,rfl⟩
        |true=>
         cases hq3:(H.toList == h.aI.toList) with
         |false=>
          go_wp2
          go_meet
          exact⟨⟨_,rfl⟩,rfl⟩
         |true=>
          go_wp2
          go_meet
          exact⟨⟨_,rfl⟩,rfl⟩
      case rest=>
       obtain⟨⟨sm,rfl⟩,rfl⟩:=hcut;have H1:yH (yC 95 #[sV B0,gV #[sV h.addr,i6 h.n,sV h.aI,sV h.code,lV h.sa h.az.length h.sc],bV i,sV slot,lV a1 j c1,lV a2 f.length c2] wc fun e w'=>kQ e/\yW wc w'):=E6.o _ _ _ _ V.o B6.o;clear f0 f1 f3 m8;go_wp2_with fail
       refine H1.m ?_;rintro e w9 ⟨⟨tb,rfl⟩,C8⟩;have A0:=aa (l.o _ _ V.o C8);clear C8 e0 e1 e2 e3 e4 n8;go_upto_region 21 with fail
       go_cut [159] (fun v F=>vi v/\F=w9)
       case first=>
        by_cases D0:d=0
        ·subst D0;by_cases D1:vf=0
         ·subst D1;cases sm with
          |false=>
           go_wp2
           go_meet
           exact⟨⟨_,rfl⟩,rfl⟩
          |true=>
           cases hq3:(vx.toList == wt.toList) with
           |false=>
            go_wp2
            go_meet
            exact⟨⟨_,rfl⟩,rfl⟩
           |true=>
            go_wp2
            go_meet
            exact⟨⟨_,rfl⟩,rfl⟩
         ·have C9:((vf:Int) == 0)=false:=by simp;omega
          clear D1;go_wp2
          go_meet
          exact⟨⟨_,rfl⟩,rfl⟩
        ·have C9:((d:Int) == 0)=false:=by simp;omega
         clear D0;go_wp2
         go_meet
         exact⟨⟨_,rfl⟩,rfl⟩
       case rest=>
        obtain⟨⟨cb,rfl⟩,rfl⟩:=hcut;have H4:=aa (D.o _ A0.o);cases cb with
        |true=>
         go_wp2
         go_ret
         exact⟨⟨true,rfl⟩,H4⟩
        |false=>
         obtain⟨_,_,⟨bp,D3⟩,⟨bq,D4⟩,_,_⟩:=Q.o _ A0.o;obtain⟨x1,y1,wa,ra,ha⟩:=((oI.nil wc).alloc (.cells #[sV bf] 9)).append 0 (lV (qA wc.heap.size) 1 1) [bf] (dE.one wc bf) (by simp);obtain⟨x2,y2,wb,D8,A6⟩:=ha.append _ _ _ (D3.below ha.2) (by have:=T.o.1;simp;omega);obtain⟨x3,y3,C,rd,A7⟩:=A6.append _ _ _ (D4.below A6.2) (by have:=T.o.1;have:=B8.o.1;simp;omega);have H8:=aa ra;have H9:=aa D8;have I0:=aa rd;have A1:=aa (l.o _ _ A0.o A7.2);have G4:yH (yC 13 #[lV x3 ([]++[bf]++a++f).length y3] C fun e w'=>kQ e/\yW C w'):=E1.o _ _ _ _ A1.o (nS A7.1) (((((fh.one (x:=bf) (by decide)).append T.o).append B8.o)).mono (by omega));clear ra D8 rd ha A6 A7 D3 D4;generalize ([]++[bf]++a++f).length=L3 at*;generalize ([]++[bf]++a).length=L2 at*;go_wp2_with (at_builtin;first| (refine jN rfl (.tmp 160) (.tmp 161) 40 rfl _ _ (lV x1 1 y1) wa rfl rfl H8.o ?_) | (refine jN rfl (.tmp 163) (.tmp 164) 40 rfl _ _ (lV x2 L2 y2) wb rfl rfl H9.o ?_) | (refine jN rfl (.tmp 166) (.tmp 167) 40 rfl _ _ (lV x3 L3 y3) C rfl rfl I0.o ?_))
         refine G4.m ?_;rintro e w10 ⟨⟨b,rfl⟩,C4⟩;have S:=aa (D.o _ (l.o _ _ A1.o C4));have G6:=aa (B3.o _ S.o);clear C4;cases b with
         |true=>
          go_wp2
          go_ret
          exact⟨⟨true,rfl⟩,S⟩
         |false=>
          go_wp2_with fail
          refine G6.m ?_;rintro e w11 ⟨⟨b,rfl⟩,C5⟩;have H2:=aa (B5.o _ _ S.o C5);clear C5;go_wp2
          go_ret
          exact⟨⟨b,rfl⟩,H2⟩
   ·have G1:((d:Int) != 0)=true\/(d=0/\((os.length:Int) != (a.length:Int))=true):=by
     by_cases h0:d=0
     ·exact .inr ⟨h0,by simp;exact fun h=>A8 ⟨h0,by omega⟩⟩
     ·exact .inl (by simp;omega)
    clear A8;rcases G1 with h1|⟨rfl,h1⟩
    ·go_wp2
     go_ret
     exact⟨⟨false,rfl⟩,B4⟩
    ·go_wp2
     go_ret
     exact⟨⟨false,rfl⟩,B4⟩
  ·have C9:((d:Int) != 0)=true:=by simp;omega
   have D9:=aa (B3.o _ G.o);clear D2;go_wp2_with fail
   refine D9.m ?_;rintro e w3 ⟨⟨b,rfl⟩,hb⟩;have H3:=aa (B5.o _ _ G.o hb);clear hb r1 r2 u;go_wp2
   go_ret
   exact⟨⟨b,rfl⟩,H3⟩
 ·have I7:¬(addr.size:Int)=20:=by omega
  have J3:((addr.size:Int) != 20)=true:=by simp;omega
  clear h20;go_wp2
  go_ret
  exact⟨⟨_,rfl⟩,G⟩
end Go.Proofs.YthpclfdpbmehgaaGreatDoor
