import Derived.Test.YtiimkkahmpmhdaaGreatDoorX
open Go.Proofs.Tryz
open Go.Proofs.Tryz renaming prog→yP
open Go.Value renaming string→sV,pointer→pV,int→iV,slice→lV,bool→bV,tuple→tV,agg→gV
open Go.Ending renaming returned→rV
namespace Go.Proofs.YtiimkkahmpmhdaaGreatDoor
open Go.RowKit
set_option maxRecDepth 100000
set_option maxHeartbeats 0
set_option linter.all false
def wB(W:World)(b o:Nat)(t0 t1 t2 t3:yB):Prop:=b<W.heap.size/\W.cell? ⟨b,o+1,none⟩=some (sV t0)/\W.cell? ⟨b,o+3+1,none⟩=some (sV t1)/\W.cell? ⟨b,o+6+1,none⟩=some (sV t2)/\W.cell? ⟨b,o+9+1,none⟩=some (sV t3)
theorem wB.below{w w' b o t0 t1 t2 t3}(h:wB w b o t0 t1 t2 t3)(a:yW w w'):wB w' b o t0 t1 t2 t3:=
 ⟨Q6 h.1 a.size,dC a h.2.1,dC a h.2.2.1,dC a h.2.2.2.1,dC a h.2.2.2.2⟩
def oN(W:World)(n:Nat)(h:a6):Prop:=W.heap[n]? =some (.cells (iP h) 107 (0,0))
theorem oN.below{w w' n h}(k:oN w n h)(a:yW w w'):oN w' n h:=(a.block n (Q0.1 k).1).trans k
theorem oN.cells{w n h}(k:oN w n h):n<w.heap.size/\w.cell? ⟨n,0,none⟩=some (sV h.addr)/\w.cell? ⟨n,1,none⟩=some (iV .i64 h.n)/\w.cell? ⟨n,2,none⟩=some (sV h.aj)/\w.cell? ⟨n,3,none⟩=some (sV h.code)/\w.cell? ⟨n,4,none⟩=some (lV h.sa h.aS.length h.sc):=by
 refine⟨(Q0.1 k).1,?_,?_,?_,?_,?_⟩
 ·rw[Q5 w _ 0 _ _ _ k];rfl
 ·rw[Q5 w _ 1 _ _ _ k];rfl
 ·rw[Q5 w _ 2 _ _ _ k];rfl
 ·rw[Q5 w _ 3 _ _ _ k];rfl
 ·rw[Q5 w _ 4 _ _ _ k];rfl
def GY(e:Ending)(w':World):Prop:=∃(l:Bool) (t:yB) (a:Option Addr) (n c d:Nat),e=rV (tV #[gV #[bV l,sV t,lV a n c],iV .i64 d])/\(d=0->l=true->n=4->∃b o t0 t1 t2 t3,a=some ⟨b,o,none⟩/\wB w' b o t0 t1 t2 t3)
theorem O0(W)(s:yB)(q:s.size<=maxLen):Calls yP 100 #[sV s] W fun e w'=>GY e w'/\yW W w':=by
 refine(vT W s q).mono ?_;rintro e w' ⟨d,k⟩;refine⟨?_,k⟩;cases hr:fL s.data.toList with
 |error c=>
  rw[hr] at d;obtain⟨rfl,n⟩:=d;exact⟨false,_,_,_,_,c,rfl,fun h=>absurd h n⟩
 |ok x=>
  rw[hr] at d;obtain⟨l,t,a,m,j,rfl,hi⟩:=d;refine⟨l,t,a,m,j,0,rfl,fun _ hl h4=>?_⟩;rcases kG hi with⟨u,h1,h2,_,A⟩|⟨y,u,ks,B,_,h1,h2,_,i,_,p⟩
  ·cases h1;cases hl
  ·cases h1
   obtain⟨v,w,r⟩:=i.slice;cases r
   obtain⟨b,o,c,g,z,f⟩:=Eg i h4 p;rw[h4] at g;cases g
   obtain⟨_,t0,_,k0,_⟩:=f 0 (by decide);obtain⟨_,t1,_,k1,_⟩:=f 1 (by decide);obtain⟨_,t2,_,k2,_⟩:=f 2 (by decide);obtain⟨_,t3,_,k3,_⟩:=f 3 (by decide);exact⟨b,o,t0,t1,t2,t3,rfl,Rj _ _ k0,k0,k1,k2,k3⟩
def ry(W:World)(n:Nat)(l:Bool)(t:yB)(a:Option Addr)(k c:Nat):Prop:=W.heap[n]? =some (.cells #[bV l,sV t,lV a k c] 155 (0,0))
theorem ry.below{W b n l t a k c}(h:ry W n l t a k c)(d:yW W b):ry b n l t a k c:=(d.block n (Q0.1 h).1).trans h
theorem ry.cells{W n l t a k c}(h:ry W n l t a k c):n<W.heap.size/\W.cell? ⟨n,2,none⟩=some (lV a k c):=⟨(Q0.1 h).1,by rw[Q5 W _ 2 _ _ _ h];rfl⟩
theorem IN(w:World)(C8 C:yB)(h:a6)(A7:Bool)(av au:Option Addr)(cv nv cu nu:Nat)(P:World->Prop)(C7:C.size<=1073741824)(B9:h.addr.size<=1073741824)(E4:h.aS.length<4000000000)
 (B5:Hid (P (w.alloc (.cells (iP h) 107))))
 (c:Hid (∀W W',P W->yW W W'->P W'))
 (j:Hid (∀W,P W->oN W w.heap.size h))
 (I:Hid (∀W x,P W->x.size<=1073741824->Calls yP 24 #[sV x] W fun e w'=>lO e/\yW W w'))
 (B6:Hid (∀W r k,P W->k.size=32->Calls yP 47 #[sV r,sV k,lV av nv cv] W fun e w'=>GL e/\yW W w'))
 (A4:Hid (∀W r k,P W->k.size=32->Calls yP 47 #[sV r,sV k,lV au nu cu] W fun e w'=>GL e/\yW W w'))
 (B1:Hid (∀W x,P W->x.size<=160->Calls yP 100 #[sV x] W fun e w'=>GY e w'/\yW W w'))
 (C9:Hid (∀W,P W->Calls yP 71 #[iV .i64 h.n] W fun e w'=>tG e/\yW W w'))
 (A0:Hid (∀W,P W->Calls yP 11 #[] W fun e w'=>tG e/\yW W w'))
 (Y:Hid (∀W,P W->Calls yP 36 #[lV h.sa h.aS.length h.sc,sV C] W fun e w'=>QC e/\w'=W))
 (Z:Hid (∀W x,P W->x.size<=1073741824->Calls yP 101 #[sV x] W fun e w'=>tG e/\yW W w')):
 Calls yP 64 #[sV C8,gV #[sV h.addr,iV .i64 h.n,sV h.aj,sV h.code,lV h.sa h.aS.length h.sc],bV A7,sV C,lV av nv cv,lV au nu cu] w fun e w'=>bE e/\Hid (P w'):=by
 obtain⟨m,F⟩:=yX (w.alloc (.cells (iP h) 107))
 have N:Hid (P m):=by rw[F];exact B5
 have D4:w.heap.size<m.heap.size:=by rw[F];simp
 obtain⟨_,b0,b1,b2,b3,b4⟩:=(j.out _ N.out).cells;have HA:=aa B9;have D1:=aa C7;clear B9 C7 B5;unfold iP at F;have D:=aa (I.out _ _ N.out HA.out);go_enter func64,ntmps64
 go_wp2_with fail
 rw[<-F];clear F;refine D.out.mono ?_;rintro e w1 ⟨⟨k,rfl,hk⟩,C0⟩;have A2:=aa (c.out _ _ N.out C0);have A8:Hid (Calls yP 47 #[sV C8,sV k,lV av nv cv] w1 fun e w'=>GL e/\yW w1 w'):=B6.out _ _ _ A2.out hk;clear C0 N D hk D4 b0 b1 b2 b3 b4 B6;go_wp2_with fail
 refine A8.out.mono ?_;rintro e w2 ⟨⟨t,i,rfl,ht⟩,C2⟩;have d:=aa (c.out _ _ A2.out C2);have X:=aa (B1.out _ _ d.out ht);clear C2 A2 A8 ht B1;by_cases C4:i=0
 ·subst C4;cases hte:t.toList.isEmpty with
  |true=>
   cases A7 with
   |true=>
    go_wp2_with fail
    go_ret
    exact⟨⟨false,rfl⟩,d⟩
   |false=>
    go_wp2_with fail
    go_ret
    exact⟨⟨_,rfl⟩,d⟩
  |false=>
   cases A7 with
   |false=>
    go_wp2_with fail
    go_ret
    exact⟨⟨false,rfl⟩,d⟩
   |true=>
    go_wp2_with fail
    refine X.out.mono ?_;rintro e w3 ⟨⟨l,u,a,H,A,i,rfl,A6⟩,Q⟩;obtain⟨f,s⟩:=yX (w3.alloc (.cells #[bV l,sV u,lV a H A] 155))
    have R:yW w3 f:=by rw[s];exact(Q1 _ _).alloc (QU _) _
    have E:=aa (c.out _ _ (c.out _ _ d.out Q) R);have A1:Hid (ry f w3.heap.size l u a H A):=by rw[s];exact Rl w3 _
    by_cases A5:i=0/\l=true/\H=4
    ·obtain⟨rfl,rfl,rfl⟩:=A5;obtain⟨b,o,t0,t1,t2,t3,rfl,B8⟩:=A6 rfl rfl rfl;have B3:=aa (B8.below R);have A9:=aa (C9.out _ E.out);obtain⟨n4,_,e1,e2,e3,e4⟩:=(j.out _ (c.out _ _ d.out Q)).cells;have D5:w.heap.size≠w3.heap.size:=by omega
     clear A6 Q R d X B8;go_wp2_with fail
     rw[<-s];clear s;refine A9.out.mono ?_;rintro e w5 ⟨⟨x,rfl⟩,S⟩;have g:=aa (c.out _ _ E.out S);have L:=aa (B3.out.below S);have J:=aa (A1.out.below S);clear S A9 E B3 A1 e1 e2 e3 e4 n4 D5;generalize w3.heap.size=ni at*;obtain⟨n5,e0,e1,e2,e3,e4⟩:=(j.out _ g.out).cells;obtain⟨E0,i2⟩:=J.out.cells;obtain⟨D7,k0,k1,k2,k3⟩:=L.out;have G:(t0.toList == x.toList)=false\/((t0.toList == x.toList)=true/\(t1.toList == h.aj.toList)=false)\/((t0.toList == x.toList)=true/\(t1.toList == h.aj.toList)=true/\(t3.toList == h.code.toList)=false)\/((t0.toList == x.toList)=true/\(t1.toList == h.aj.toList)=true/\(t3.toList == h.code.toList)=true):=by
      cases (t0.toList == x.toList)<;>cases (t1.toList == h.aj.toList)<;>cases (t3.toList == h.code.toList)<;>simp
     go_upto_region 11 with fail
     go_cut [93] (fun v wx=>rD v/\∃n,wx=w5.drewN n)
     case first=>
      clear g L J I A4 A0 Y Z c j;rcases G with h1|⟨h1,h2⟩|⟨h1,h2,h3⟩|⟨h1,h2,h3⟩;all_goals
       go_region
       all_goals
        go_wp2_with fail
        go_meet
        exact⟨⟨_,rfl⟩,_,rfl⟩
     case rest=>
      obtain⟨⟨cb,rfl⟩,B,rfl⟩:=hcut;have V:yW w5 (w5.drewN B):=gB (Q1 _ _) B;have O:=aa (c.out _ _ g.out V);have B4:=aa (L.out.below V);have B2:=aa (J.out.below V);clear V g L J G n5 e0 e1 e2 e3 e4 E0 i2 D7 k0 k1 k2 k3;generalize w5.drewN B=w6 at*;have B0:=aa (A0.out _ O.out);clear A0;cases cb with
      |true=>
       go_wp2_with fail
       go_ret
       exact⟨⟨false,rfl⟩,O⟩
      |false=>
       go_wp2_with fail
       refine B0.out.mono ?_;rintro e w7 ⟨⟨y,rfl⟩,T⟩;have p:=aa (c.out _ _ O.out T);have M:=aa (B4.out.below T);have K:=aa (B2.out.below T);clear T O B4 B2 B0;obtain⟨n7,e0,e1,e2,e3,e4⟩:=(j.out _ p.out).cells;obtain⟨E1,i2⟩:=K.out.cells;obtain⟨D8,k0,k1,k2,k3⟩:=M.out;have G:(h.aS.length=0/\(t2.toList == y.toList)=false)\/(h.aS.length=0/\(t2.toList == y.toList)=true)\/0<h.aS.length:=by
        rcases Nat.eq_zero_or_pos h.aS.length with h0|h0
        ·cases (t2.toList == y.toList)<;>simp[h0]
        ·exact .inr (.inr h0)
       go_upto_region 14 with fail
       go_cut [107] (fun v wx=>rD v/\wx=w7)
       case first=>
        clear p M K I A4 Y Z c j;rcases G with⟨h1,h2⟩|⟨h1,h2⟩|h1
        ·have B7:((h.aS.length:Int) == 0)=true:=by rw[h1];rfl
         have D2:(t2.toList != y.toList)=true:=by rw[bne,h2];rfl
         clear h1;go_wp2_with fail
         go_meet
         exact⟨⟨_,rfl⟩,rfl⟩
        ·have B7:((h.aS.length:Int) == 0)=true:=by rw[h1];rfl
         have D2:(t2.toList != y.toList)=false:=by rw[bne,h2];rfl
         clear h1;go_wp2_with fail
         go_meet
         exact⟨⟨_,rfl⟩,rfl⟩
        ·have B7:((h.aS.length:Int) == 0)=false:=by rw[RW];omega
         go_wp2_with fail
         go_meet
         exact⟨⟨_,rfl⟩,rfl⟩
       case rest=>
        obtain⟨⟨cb,rfl⟩,rfl⟩:=hcut;clear G;cases cb with
        |true=>
         go_wp2_with fail
         go_ret
         exact⟨⟨false,rfl⟩,p⟩
        |false=>
         have D:=aa (I.out _ _ p.out D1.out);clear n7 e0 e1 e2 e3 e4 E1 i2 D8 k0 k1 k2 k3;go_wp2_with fail
         refine D.out.mono ?_;rintro e w8 ⟨⟨sk,rfl,C6⟩,U⟩;have A3:=aa (c.out _ _ p.out U);obtain⟨E2,i2⟩:=(K.out.below U).cells;obtain⟨D9,k0,k1,k2,k3⟩:=M.out.below U;have CV:Hid (Calls yP 47 #[sV t2,sV sk,lV au nu cu] w8 fun e w'=>GL e/\yW w8 w'):=A4.out _ _ _ A3.out C6;clear U p M K D C6;go_wp2_with fail
         refine CV.out.mono ?_;rintro e w9 ⟨⟨z,ez,rfl,hz⟩,C3⟩;have q:=aa (c.out _ _ A3.out C3);obtain⟨n9,e0,e1,e2,e3,e4⟩:=(j.out _ q.out).cells;have CH:=aa (Y.out _ q.out);clear C3 A3 CV hz E2 i2 D9 k0 k1 k2 k3;go_wp2_with fail
         refine CH.out.mono ?_;rintro e wz ⟨⟨wt,rfl,aR⟩,D6⟩;subst D6;have CC:=aa (Z.out _ _ q.out aR);clear n9 e0 e1 e2 e3 e4 CH aR;by_cases C5:ez=0
         ·subst C5;cases hwe:wt.toList.isEmpty with
          |true=>
           go_wp2_with fail
           go_ret
           exact⟨⟨_,rfl⟩,q⟩
          |false=>
           go_wp2_with fail
           refine CC.out.mono ?_;rintro e w10 ⟨⟨y,rfl⟩,C1⟩;have D0:=aa (c.out _ _ q.out C1);clear C1;go_wp2_with fail
           go_ret
           exact⟨⟨_,rfl⟩,D0⟩
         ·have E5:((ez:Int) != 0)=true:=by simp;omega
          have E6:((ez:Int) == 0)=false:=by simp;omega
          clear C5;go_wp2_with fail
          go_ret
          exact⟨⟨_,rfl⟩,q⟩
    ·have g:Hid (P (w3.alloc (.cells #[bV l,sV u,lV a H A] 155))):=by rw[<-s];exact E
     have D3:((i:Int) != 0)=true\/(i=0/\l=false)\/(i=0/\l=true/\((H:Int) != 4)=true):=by
      by_cases h0:i=0
      ·cases l with
       |false=>exact .inr (.inl ⟨h0,rfl⟩)
       |true=>exact .inr (.inr ⟨h0,rfl,by simp;exact fun h4=>A5 ⟨h0,rfl,by omega⟩⟩)
      ·exact .inl (by simp;omega)
     clear A6 Q R d X E A1 A5 s;rcases D3 with h1|⟨rfl,rfl⟩|⟨rfl,rfl,h1⟩
     ·go_wp2_with fail
      go_ret
      exact⟨⟨false,rfl⟩,g⟩
     ·go_wp2_with fail
      go_ret
      exact⟨⟨false,rfl⟩,g⟩
     ·go_wp2_with fail
      go_ret
      exact⟨⟨false,rfl⟩,g⟩
 ·have E3:((i:Int) != 0)=true:=by simp;omega
  clear C4;go_wp2_with fail
  go_ret
  exact⟨⟨false,rfl⟩,d⟩
def nD(w0:World)(v:Value)(cs:List yB)(W:World):Prop:=W.ownsRow w0.heap.size 9 1 v cs.length (cs.map Value.string)/\yW w0 W
theorem nD.nil(w0):nD w0 (lV none 0 0) [] w0:=⟨RO _ _ _ _,Q1 _ _⟩
theorem nD.alloc{w0 v cs W}(h:nD w0 v cs W)(o:Obj):nD w0 v cs (W.alloc o):=⟨h.1.alloc _,h.2.alloc h.2.size _⟩
theorem nD.append{w0 v cs W}(h:nD w0 v cs W)(b:Nat)(d)(q:List yB)(i:du b W d q)(h63:cs.length+q.length<=4200000000000):
 ∃a c w',(Builtin.append_ #[63,63] 63 #[v,d]).run yP W=.ok (lV a (cs++q).length c) w'/\nD w0 (lV a (cs++q).length c) (cs++q) w':=by
 obtain⟨l,w',j,e,f,_⟩:=tA W w0.heap.size v cs h.1 b d q i h63 h.2.size;obtain⟨a,c,rfl,_⟩:=dr e;exact⟨a,c,w',j,e,h.2.grown f h.2.size fun k g=>(h.1.lt k g).1⟩
structure wu where
 a1:Option Addr
 c1:Nat
 ps:List yB
 a2:Option Addr
 c2:Nat
 qs:List yB
 a3:Option Addr
 c3:Nat
 os:List yB
def rG(W:World)(n:Nat)(x:Int)(b r c:yB):Prop:=W.heap[n]? =some (.cells #[iV .i64 x,sV b,sV r,sV c] 103 (0,0))
theorem rG.below{W a n}{x:Int}{b r c}(h:rG W n x b r c)(d:yW W a):rG a n x b r c:=(d.block n (Q0.1 h).1).trans h
theorem rG.cells{W n}{x:Int}{b r c}(h:rG W n x b r c):n<W.heap.size/\W.cell? ⟨n,0,none⟩=some (iV .i64 x)/\W.cell? ⟨n,1,none⟩=some (sV b)/\W.cell? ⟨n,3,none⟩=some (sV c):=
 ⟨(Q0.1 h).1,by rw[Q5 W _ 0 _ _ _ h];rfl,by rw[Q5 W _ 1 _ _ _ h];rfl,by rw[Q5 W _ 3 _ _ _ h];rfl⟩
theorem Jx(w:World)(rb B:Nat)(am:Option Addr)(N cm:Nat)(addr m:yB)(E:World->Prop)(X Y:wu->World->Prop)(u:a6->Prop)
 (D9:Hid (w.cell? ⟨rb,1,none⟩=some (pV (qA B))/\rb<w.heap.size))
 (G:Hid (∀W,E W->W.cell? ⟨rb,1,none⟩=some (pV (qA B))/\W.cell? ⟨rb,2,none⟩=some (lV am N cm)/\rb<W.heap.size))
 (L:Hid (∀W o,E W->yW W o->E o))
 (F7:Hid (∀s W o,Y s W->yW W o->Y s o))
 (F5:Hid (∀s W,X s W->E W)) (B2:Hid (∀s W,Y s W->E W))
 (F8:Hid (∀s W,Y s W->mG W s.a1 s.ps/\mG W s.a3 s.os/\(∃b,du b W (lV s.a1 s.ps.length s.c1) s.ps)/\(∃b,du b W (lV s.a2 s.qs.length s.c2) s.qs)/\dO 81 s.ps/\dO 81 s.qs))
 (D2:Hid (Calls yP 61 #[pV (qA B),sV addr,sV m] w fun e w'=>∃(s:wu) (c:Nat),e=rV (tV #[lV s.a1 s.ps.length s.c1,lV s.a2 s.qs.length s.c2,iV .i64 c])/\X s w'))
 (D1:Hid (∀s W,X s W->Calls yP 60 #[pV (qA B),sV addr] W fun e w'=>∃(a3:Option Addr) (c3:Nat) (os:List yB) (c:Nat),e=rV (tV #[lV a3 os.length c3,iV .i64 c])/\Y {s with a3:=a3,c3:=c3,os:=os} w'))
 (D0:Hid (∀s W,Y s W->Calls yP 56 #[pV (qA B)] W fun e w'=>lO e/\yW W w'))
 (C9:Hid (∀s W,Y s W->Calls yP 53 #[lV am N cm,sV addr] W fun e w'=>(∃h k,e=rV (tV #[gV #[sV h.addr,iV .i64 h.n,sV h.aj,sV h.code,lV h.sa h.aS.length h.sc],bV k])/\u h)/\yW W w'))
 (D3:Hid (∀s W r,Y s W->Calls yP 62 #[sV r,sV addr,lV s.a1 s.ps.length s.c1] W fun e w'=>(∃(x:Int) (b r c:yB) (D:Bool) (d:Nat),e=rV (tV #[gV #[iV .i64 x,sV b,sV r,sV c],bV D,iV .i64 d]))/\yW W w'))
 (D4:Hid (∀s W r,Y s W->Calls yP 63 #[sV r,sV addr,sV m,lV s.a1 s.ps.length s.c1,lV s.a2 s.qs.length s.c2] W fun e w'=>(∃(x:yB) (c:Nat),e=rV (tV #[sV x,iV .i64 c]))/\yW W w'))
 (C7:Hid (∀s W h,Y s W->u h->Calls yP 36 #[lV h.sa h.aS.length h.sc,sV m] W fun e w'=>tG e/\w'=W))
 (D5:Hid (∀s W r h k,Y s W->u h->Calls yP 64 #[sV r,gV #[sV h.addr,iV .i64 h.n,sV h.aj,sV h.code,lV h.sa h.aS.length h.sc],bV k,sV m,lV s.a1 s.ps.length s.c1,lV s.a2 s.qs.length s.c2] W fun e w'=>bE e/\yW W w'))
 (C8:Hid (∀s W v cs b,Y s W->du b W v cs->dO 200 cs->Calls yP 46 #[v] W fun e w'=>bE e/\yW W w'))
 (J:Hid (∀W,E W->Calls yP 54 #[pV (qA rb)] W fun e w'=>bE e/\yW W w')):
 Calls yP 28 #[pV (qA rb),sV addr,sV m] w fun e w'=>bE e/\Hid (E w'):=by
 obtain⟨d1,A⟩:=D9.out;clear D9;go_enter func28,ntmps28
 go_wp2_with fail
 refine D2.out.mono ?_;rintro e w1 ⟨s,d,rfl,B6⟩;have F4:=aa B6;have K:=aa (F5.out _ _ B6);obtain⟨a1,c1,a,a2,c2,f,_,_,_⟩:=s;clear B6 D2 d1 A;obtain⟨r1,r2,A⟩:=G.out _ K.out;by_cases h20:addr.size=20
 ·have I3:(addr.size:Int)=20:=by omega
  clear h20;by_cases G9:d=0
  ·subst G9;have C6:=D1.out _ _ F4.out;have E5:=aa C6;clear C6 F4 D1;go_wp2_with fail
   refine E5.out.mono ?_;rintro e w2 ⟨a3,c3,os,d,rfl,B7⟩;have F6:=aa B7;have B1:=aa (B2.out _ _ B7);clear B7 E5 K r1 r2 A F5;by_cases C2:d=0/\os.length=a.length
   ·obtain⟨rfl,H3⟩:=C2;have F0:=aa H3;have J1:((os.length:Int) != (a.length:Int))=false:=by simp;omega
    clear H3;obtain⟨Z,l⟩:=yX (Y ⟨a1,c1,a,a2,c2,f,a3,c3,os⟩)
    have i:Hid (∀W o,Z W->yW W o->Z o):=by rw[l];exact fun W o=>F7.out _ W o
    have t:Hid (∀W,Z W->E W):=by rw[l];exact fun W=>B2.out _ W
    have F:Hid (∀W,Z W->mG W a1 a/\mG W a3 os/\(∃b,du b W (lV a1 a.length c1) a)/\(∃b,du b W (lV a2 f.length c2) f)/\dO 81 a/\dO 81 f):=by rw[l];exact fun W=>F8.out _ W
    have A5:Hid (∀W,Z W->Calls yP 56 #[pV (qA B)] W fun e w'=>lO e/\yW W w'):=by rw[l];exact fun W=>D0.out _ W
    have A4:Hid (∀W,Z W->Calls yP 53 #[lV am N cm,sV addr] W fun e w'=>(∃h k,e=rV (tV #[gV #[sV h.addr,iV .i64 h.n,sV h.aj,sV h.code,lV h.sa h.aS.length h.sc],bV k])/\u h)/\yW W w'):=by rw[l];exact fun W=>C9.out _ W
    have A6:Hid (∀W r,Z W->Calls yP 62 #[sV r,sV addr,lV a1 a.length c1] W fun e w'=>(∃(x:Int) (b r c:yB) (D:Bool) (d:Nat),e=rV (tV #[gV #[iV .i64 x,sV b,sV r,sV c],bV D,iV .i64 d]))/\yW W w'):=by rw[l];exact fun W r=>D3.out _ W r
    have A7:Hid (∀W r,Z W->Calls yP 63 #[sV r,sV addr,sV m,lV a1 a.length c1,lV a2 f.length c2] W fun e w'=>(∃(x:yB) (c:Nat),e=rV (tV #[sV x,iV .i64 c]))/\yW W w'):=by rw[l];exact fun W r=>D4.out _ W r
    have A3:Hid (∀W h,Z W->u h->Calls yP 36 #[lV h.sa h.aS.length h.sc,sV m] W fun e w'=>tG e/\w'=W):=by rw[l];exact fun W h=>C7.out _ W h
    have S:Hid (∀W r h k,Z W->u h->Calls yP 64 #[sV r,gV #[sV h.addr,iV .i64 h.n,sV h.aj,sV h.code,lV h.sa h.aS.length h.sc],bV k,sV m,lV a1 a.length c1,lV a2 f.length c2] W fun e w'=>bE e/\yW W w'):=by rw[l];exact fun W r h k=>D5.out _ W r h k
    have I:Hid (∀W v cs b,Z W->du b W v cs->dO 200 cs->Calls yP 46 #[v] W fun e w'=>bE e/\yW W w'):=by rw[l];exact fun W v cs b=>C8.out _ W v cs b
    have B3:Hid (Z w2):=by rw[l];exact F6
    clear l F7 B2 F8 D0 C9 D3 D4 C7 D5 C8 F6 B1;obtain⟨_,_,_,_,C3,H4⟩:=F.out _ B3.out;have M:=aa C3;have U:=aa H4;have J3:=C3.1;have J2:os.length<=81:=by have:=F0.out;omega
    clear C3 H4;generalize hPL:a.length=p at*;generalize hOL:os.length=OL at*;have I2:=aa hPL;have I1:=aa hOL;clear hPL hOL;go_wp2_with fail
    go_loopg [11] p (fun g r wr=>∃j:Nat,g=p - j/\j<=p/\r=iV .i64 j/\Hid (Z wr))
    case atStart=>exact⟨0,rfl,by omega,rfl,B3⟩
    case round=>
     obtain⟨j,hg,hj,rfl,z⟩:=hrel;have HG:=aa hg;clear hg B3;generalize gk=GK at*;by_cases I7:j<p
     ·have I6:(j:Int)<(p:Int):=by omega
      have J0:(j:Int)<(OL:Int):=by have:=F0.out;omega
      have H2:j<OL:=by omega
      obtain⟨t1,t3,_⟩:=F.out _ z.out;obtain⟨x,hx⟩:∃x,a[j]? =some x:=⟨_,QV (by rw[I2.out];exact I7)⟩
      obtain⟨y,hy⟩:∃y,os[j]? =some y:=⟨_,QV (by rw[I1.out];exact H2)⟩
      obtain⟨g1,rfl,I4,k1⟩:=t1 j x hx;obtain⟨g3,rfl,I5,k3⟩:=t3 j y hy;clear hx hy t1 t3 H2;have Q:=aa (i.out _ _ z.out (gB (Q1 _ _) 1));go_upto_region 12 with fail
      go_cut [76] from 62 to 76 (fun v R=>rD v/\∃n,R=wr.drewN n)
      case first=>
       clear i t F A5 A4 A6 A7 A3 S I G L J;go_region
       all_goals
        go_wp2_with fail
        go_meet
        exact⟨⟨_,rfl⟩,_,rfl⟩
      case rest=>
       obtain⟨⟨cb,rfl⟩,nd,rfl⟩:=hcut;have G0:=aa (i.out _ _ z.out (gB (Q1 _ _) nd));have I0:=aa (t.out _ G0.out);clear z Q k1 k3 I4 I5;generalize wr.drewN nd=W3 at*;cases cb with
       |true=>
        go_wp2_with fail
        go_ret
        exact⟨⟨false,rfl⟩,I0⟩
       |false=>
        go_wp2_with fail
        go_roundg (p - (j+1))
        case measure=>have:=HG.out;omega
        case rel=>exact⟨j+1,rfl,by omega,by go_num,G0⟩
     ·obtain rfl:j=p:=by omega
      have I6:¬(j:Int)<(j:Int):=by omega
      obtain⟨r1,r2,A⟩:=G.out _ (t.out _ z.out);have C5:=A5.out _ z.out;have E4:=aa C5;clear C5 A5;go_wp2_with fail
      refine E4.out.mono ?_;rintro e w3 ⟨⟨C4,rfl,_⟩,G3⟩;have V:=aa (i.out _ _ z.out G3);clear G3 z E4 r1 r2 A;obtain⟨r1,r2,A⟩:=G.out _ (t.out _ V.out);have E2:=aa (A4.out _ V.out);clear A4;go_wp2_with fail
      refine E2.out.mono ?_;rintro e w4 ⟨⟨h,k,rfl,hh⟩,G4⟩;have T:=aa hh;obtain⟨C,A0⟩:=yX (w4.alloc (.cells #[sV h.addr,iV .i64 h.n,sV h.aj,sV h.code,lV h.sa h.aS.length h.sc] 107))
      have D7:Hid (oN C w4.heap.size h):=by rw[A0];exact Rl w4 _
      have B4:Hid (Z C):=i.out _ _ (i.out _ _ V.out G4) (by rw[A0];exact(Q1 _ _).alloc (QU _) _);have E6:Hid (Calls yP 62 #[sV C4,sV addr,lV a1 j c1] C fun e w'=>(∃(x:Int) (b r c:yB) (D:Bool) (d:Nat),e=rV (tV #[gV #[iV .i64 x,sV b,sV r,sV c],bV D,iV .i64 d]))/\yW C w'):=A6.out _ _ B4.out;clear G4 hh E2 r1 r2 A V A6;go_wp2_with fail
      rw[<-A0];clear A0;generalize w4.heap.size=nh at*;refine E6.out.mono ?_;rintro e w6 ⟨⟨ax,ab,ar,ac,D,d,rfl⟩,B8⟩;have F9:=aa (i.out _ _ B4.out B8);obtain⟨q,A1⟩:=yX (w6.alloc (.cells #[iV .i64 ax,sV ab,sV ar,sV ac] 103))
      have B9:yW w6 q:=by rw[A1];exact(Q1 _ _).alloc (QU _) _
      have D6:Hid (rG q w6.heap.size ax ab ar ac):=by rw[A1];exact Rl w6 _
      have D8:=aa ((D7.out.below B8).below B9);have B5:=aa (i.out _ _ F9.out B9);have E7:Hid (Calls yP 63 #[sV C4,sV addr,sV m,lV a1 j c1,lV a2 f.length c2] q fun e w'=>(∃(x:yB) (c:Nat),e=rV (tV #[sV x,iV .i64 c]))/\yW q w'):=A7.out _ _ B5.out;clear B8 B9 D7 B4 F9 E6 A7;go_wp2_with fail
      rw[<-A1];clear A1;generalize w6.heap.size=na at*;refine E7.out.mono ?_;rintro e w8 ⟨⟨vx,vf,rfl⟩,A2⟩;have O:=aa (i.out _ _ B5.out A2);have A8:=aa (D6.out.below A2);have A9:=aa (D8.out.below A2);clear A2 B5 D6 D8 E7;obtain⟨n8,e0,e1,e2,e3,e4⟩:=A9.out.cells;obtain⟨m8,f0,f1,f3⟩:=A8.out.cells;have E0:=aa (A3.out _ _ O.out T.out);clear A3;go_wp2_with fail
      refine E0.out.mono ?_;rintro e wz ⟨⟨wt,rfl⟩,I8⟩;subst I8;clear E0;go_upto_region 19 with fail
      go_cut [20] (fun v R=>rD v/\R=wz)
      case first=>
       clear i t F S I G L J O A8 A9 T M U;cases hq1:(D == k) with
       |false=>
        go_wp2_with fail
        go_meet
        exact⟨⟨_,rfl⟩,rfl⟩
       |true=>
        cases hq2:(ax == h.n) with
        |false=>
         go_wp2_with fail
         go_meet
         exact⟨⟨_,rfl⟩,rfl⟩
        |true=>
         cases hq3:(ab.toList == h.aj.toList) with
         |false=>
          go_wp2_with fail
          go_meet
          exact⟨⟨_,rfl⟩,rfl⟩
         |true=>
          go_wp2_with fail
          go_meet
          exact⟨⟨_,rfl⟩,rfl⟩
      case rest=>
       obtain⟨⟨sm,rfl⟩,rfl⟩:=hcut;have E8:Hid (Calls yP 64 #[sV C4,gV #[sV h.addr,iV .i64 h.n,sV h.aj,sV h.code,lV h.sa h.aS.length h.sc],bV k,sV m,lV a1 j c1,lV a2 f.length c2] wc fun e w'=>bE e/\yW wc w'):=S.out _ _ _ _ O.out T.out;clear S f0 f1 f3 m8 A8;go_wp2_with fail
       refine E8.out.mono ?_;rintro e w9 ⟨⟨tb,rfl⟩,G5⟩;have P:=aa (i.out _ _ O.out G5);clear G5 E8 O A9 e0 e1 e2 e3 e4 n8 T;go_upto_region 21 with fail
       go_cut [159] (fun v R=>rD v/\R=w9)
       case first=>
        clear i t F I G L J P M U;by_cases G7:d=0
        ·subst G7;by_cases G8:vf=0
         ·subst G8;cases sm with
          |false=>
           go_wp2_with fail
           go_meet
           exact⟨⟨_,rfl⟩,rfl⟩
          |true=>
           cases hq3:(vx.toList == wt.toList) with
           |false=>
            go_wp2_with fail
            go_meet
            exact⟨⟨_,rfl⟩,rfl⟩
           |true=>
            go_wp2_with fail
            go_meet
            exact⟨⟨_,rfl⟩,rfl⟩
         ·have G6:((vf:Int) == 0)=false:=by simp;omega
          clear G8;go_wp2_with fail
          go_meet
          exact⟨⟨_,rfl⟩,rfl⟩
        ·have G6:((d:Int) == 0)=false:=by simp;omega
         clear G7;go_wp2_with fail
         go_meet
         exact⟨⟨_,rfl⟩,rfl⟩
       case rest=>
        obtain⟨⟨cb,rfl⟩,rfl⟩:=hcut;have E9:=aa (t.out _ P.out);cases cb with
        |true=>
         go_wp2_with fail
         go_ret
         exact⟨⟨true,rfl⟩,E9⟩
        |false=>
         obtain⟨_,_,⟨bp,H0⟩,⟨bq,H1⟩,_,_⟩:=F.out _ P.out;obtain⟨x1,y1,wa,ra,ha⟩:=((nD.nil wc).alloc (.cells #[sV aX] 9)).append 0 (lV (qA wc.heap.size) 1 1) [aX] (du.one wc aX) (by simp);obtain⟨x2,y2,wb,H5,C0⟩:=ha.append _ _ _ (H0.below ha.2) (by have:=M.out.1;simp;omega);obtain⟨x3,y3,H,rd,C1⟩:=C0.append _ _ _ (H1.below C0.2) (by have:=M.out.1;have:=U.out.1;simp;omega);have F1:=aa ra;have F2:=aa H5;have F3:=aa rd;have Q:=aa (i.out _ _ P.out C1.2);have E1:Hid (Calls yP 46 #[lV x3 ([]++[aX]++a++f).length y3] H fun e w'=>bE e/\yW H w'):=I.out _ _ _ _ Q.out (mP C1.1) (((((dO.one (x:=aX) (by decide)).append M.out).append U.out)).mono (by omega));clear ra H5 rd ha C0 C1 H0 H1 I P;generalize ([]++[aX]++a++f).length=L3 at*;generalize ([]++[aX]++a).length=L2 at*;go_wp2_with (at_builtin;first| (refine jq rfl (.tmp 160) (.tmp 161) 63 rfl _ _ (lV x1 1 y1) wa rfl rfl F1.out ?_) | (refine jq rfl (.tmp 163) (.tmp 164) 63 rfl _ _ (lV x2 L2 y2) wb rfl rfl F2.out ?_) | (refine jq rfl (.tmp 166) (.tmp 167) 63 rfl _ _ (lV x3 L3 y3) H rfl rfl F3.out ?_))
         refine E1.out.mono ?_;rintro e w10 ⟨⟨b,rfl⟩,G1⟩;have B0:=aa (t.out _ (i.out _ _ Q.out G1));have E3:=aa (J.out _ B0.out);clear G1 Q E1 F1 F2 F3 E9;cases b with
         |true=>
          go_wp2_with fail
          go_ret
          exact⟨⟨true,rfl⟩,B0⟩
         |false=>
          go_wp2_with fail
          refine E3.out.mono ?_;rintro e w11 ⟨⟨b,rfl⟩,G2⟩;have H8:=aa (L.out _ _ B0.out G2);clear G2 E3;go_wp2_with fail
          go_ret
          exact⟨⟨b,rfl⟩,H8⟩
   ·have H7:((d:Int) != 0)=true\/(d=0/\((os.length:Int) != (a.length:Int))=true):=by
     by_cases h0:d=0
     ·exact .inr ⟨h0,by simp;exact fun h=>C2 ⟨h0,by omega⟩⟩
     ·exact .inl (by simp;omega)
    clear C2;rcases H7 with h1|⟨rfl,h1⟩
    ·go_wp2_with fail
     go_ret
     exact⟨⟨false,rfl⟩,B1⟩
    ·go_wp2_with fail
     go_ret
     exact⟨⟨false,rfl⟩,B1⟩
  ·have G6:((d:Int) != 0)=true:=by simp;omega
   have H6:=aa (J.out _ K.out);clear G9;go_wp2_with fail
   refine H6.out.mono ?_;rintro e w3 ⟨⟨b,rfl⟩,hb⟩;have H9:=aa (L.out _ _ K.out hb);clear hb r1 r2 A;go_wp2_with fail
   go_ret
   exact⟨⟨b,rfl⟩,H9⟩
 ·have I3:¬(addr.size:Int)=20:=by omega
  have I9:((addr.size:Int) != 20)=true:=by simp;omega
  clear h20;go_wp2_with fail
  go_ret
  exact⟨⟨_,rfl⟩,K⟩
end Go.Proofs.YtiimkkahmpmhdaaGreatDoor
