import Derived.Test.YteaodagofkcgbaaGreatDoorZf
open Go.Proofs.Tryz
open Go.Proofs.Tryz renaming prog→yP
open Go.Value renaming string→sV,pointer→pV,int→iV,slice→lV,bool→bV,tuple→tV,agg→gV
open Go.Ending renaming returned→rV
namespace Go.Proofs.YteaodagofkcgbaaGreatDoor
open Go.RowKit
set_option maxRecDepth 100000
set_option maxHeartbeats 0
set_option linter.all false
def EI(v:Value):Prop:=∃b:Bool,v=bV b
def KY(w:World)(G s C a N U:Nat)(K:Option Addr)(Z:N<4000000000)(p f x u:Nat->Nat)(q:Nat->Option Addr)(F:World->Prop)(Q:yH (F w))(D:yH (∀W,F W->∃t,(yc W G 0 (lV K N U)/\G<W.heap.size)/\(yc W s 0 (pV (qA C))/\yc W s 4 (pV (qA a))/\s<W.heap.size)/\yc W a 1 (bV t)/\W.frozen? ⟨a,1,none⟩=false/\a<W.heap.size))(J:yH (∀W i,F W->i<N->∃g,K=some ⟨g,0,none⟩/\g<W.heap.size/\yc W g i (pV (some ⟨p i,0,none⟩))/\p i<W.heap.size/\yc W (p i) 4 (pV (some ⟨f i,0,none⟩))/\yc W (p i) 3 (lV (q i) (x i) (u i))))(h:yH (∀W n,F W->F (W.drewN n)))(M:yH (∀W i,F W->i<N->f i=a->yC 42 #[pV (qA C),lV (q i) (x i) (u i)] W λe w'=>∃b,e=rV (bV b)/\F w'))(S:yH (∀W i,F W->i<N->f i≠a->(binOp BinOp.eql 42 (pV (some ⟨f i,0,none⟩)) (pV (qA a))).run yP W=.ok (bV false) W))(T:yH (∀W,F W->F (W.setCell ⟨a,1,none⟩ (bV true)))):yC 18 #[pV (qA G),pV (qA s)] w λe w'=>e=rV (tV #[])/\yH (F w'):=by
 go_enter func18,ntmps18
 go_wp2;go_loopg [4] N (λg r wr=>∃i:Nat,g=N - i/\i<=N/\r=i6 i/\yH (F wr))
 .exact⟨0,rfl,by omega,rfl,Q⟩
 obtain⟨i,L,hi,rfl,c⟩:=hrel;have E:=aa L;clear L;generalize gk=GK at*;obtain⟨t,⟨c0,m⟩,⟨b0,b4,j⟩,d1,f1,l⟩:=D.o _ c.o;by_cases B:i<N
 .have X:(i:Int)<(N:Int):=by omega
  obtain⟨g,rfl,A,e0,y,e4,e3⟩:=J.o _ _ c.o B;by_cases z:f i=a
  .have P:yH (∀n,yC 42 #[pV (qA C),lV (q i) (x i) (u i)] (wr.drewN n).drew λe w'=>∃b,e=rV (bV b)/\F w'):=λn=>M.o _ _ (h.o _ 1 (h.o _ n c.o)) B z
   rw[z] at e4;have A1:(binOp BinOp.eql 42 (pV (qA a)) (pV (qA a))).run yP wr.drew=.ok (bV true) wr.drew:=NI a _;go_upto_region 3 with fail
   go_cut [29] from 6 to 51 (λv o=>v=bV true/\∃n,o=wr.drewN n)
   .clear c;go_region
    all_goals
     go_wp2;go_meet;exact⟨by first|rfl|simp,_,rfl⟩
   obtain⟨rfl,d,rfl⟩:=hcut;have O:=aa (P.o d);have H:=aa (h.o _ d c.o);clear c c0 m b0 b4 j d1 f1 l e0 y e4 e3 A;generalize wr.drewN d=W2 at*;obtain⟨t,⟨c0,m⟩,⟨b0,b4,j⟩,d1,f1,l⟩:=D.o _ H.o;obtain⟨Y,k,A,e0,y,e4,e3⟩:=J.o _ _ H.o B;injection k with k;injection k with k _;subst k;go_upto_region 4 with fail
   go_cut [5] from 6 to 51 (λv o=>EI v/\yH (F o))
   .go_region_with (go_at_call 42;apply O.m;rintro e w6⟨b,rfl,V⟩)
    all_goals
     go_wp2;go_meet;exact⟨⟨_,rfl⟩,V⟩
   obtain⟨⟨b,rfl⟩,I⟩:=hcut;clear c0 m b0 b4 j d1 f1 l e0 y e4 e3 A;generalize wc=W3 at*;obtain⟨t,⟨c0,m⟩,⟨b0,b4,j⟩,d1,f1,l⟩:=D.o _ I.o;cases b with
   |true=>
    have R:=aa (T.o _ I.o);go_wp2;go_roundg (N - (i+1))
    .exact⟨i+1,rfl,by omega,by go_num,by assumption⟩
    have:=E.o;omega
   |false=>
    go_wp2;go_roundg (N - (i+1))
    .exact⟨i+1,rfl,by omega,by go_num,by assumption⟩
    have:=E.o;omega
  have A0:(binOp BinOp.eql 42 (pV (some ⟨f i,0,none⟩)) (pV (qA a))).run yP wr.drew=.ok (bV false) wr.drew:=S.o _ i (h.o _ 1 c.o) B z;go_upto_region 3 with fail
  go_cut [29] from 6 to 51 (λv o=>v=bV false/\∃n,o=wr.drewN n)
  .clear c;go_region
   all_goals
    go_wp2;go_meet;exact⟨by first|rfl| (simp[z]),_,rfl⟩
  obtain⟨rfl,d,rfl⟩:=hcut;have R:=aa (h.o _ d c.o);clear c c0 m b0 b4 j d1 f1 l e0 y e4 e3 A;generalize wr.drewN d=W2 at*;go_wp2;go_roundg (N - (i+1))
  .exact⟨i+1,rfl,by omega,by go_num,by assumption⟩
  have:=E.o;omega
 obtain rfl:i=N:=by omega
 have X:¬(i:Int)<(i:Int):=by omega
 go_wp2;go_end0;exact⟨rfl,c⟩
def x7(W:World)(b o:Nat)(t0 t1 t2 t3:yB):Prop:=b<W.heap.size/\W.cell? ⟨b,o+1,none⟩=some (sV t0)/\W.cell? ⟨b,o+3+1,none⟩=some (sV t1)/\W.cell? ⟨b,o+6+1,none⟩=some (sV t2)/\W.cell? ⟨b,o+9+1,none⟩=some (sV t3)
def x7.below{w w' b o t0 t1 t2 t3}(h:x7 w b o t0 t1 t2 t3)(a:yW w w'):x7 w' b o t0 t1 t2 t3:=
 ⟨Us h.1 a.size,eg a h.2.1,eg a h.2.2.1,eg a h.2.2.2.1,eg a h.2.2.2.2⟩
def pN(W:World)(n:Nat)(h:aH):Prop:=W.heap[n]? =some (.cells (jD h) 107 (0,0))
def pN.below{w w' n h}(k:pN w n h)(a:yW w w'):pN w' n h:=(a.block n (Um.1 k).1).trans k
def pN.cells{w n h}(k:pN w n h):n<w.heap.size/\w.cell? ⟨n,0,none⟩=some (sV h.addr)/\w.cell? ⟨n,1,none⟩=some (i6 h.n)/\w.cell? ⟨n,2,none⟩=some (sV h.aI)/\w.cell? ⟨n,3,none⟩=some (sV h.code)/\w.cell? ⟨n,4,none⟩=some (lV h.sa h.az.length h.sc):=by
 refine⟨(Um.1 k).1,?_,?_,?_,?_,?_⟩
 .rw[Ur w _ 0 _ _ _ k];rfl
 .rw[Ur w _ 1 _ _ _ k];rfl
 .rw[Ur w _ 2 _ _ _ k];rfl
 .rw[Ur w _ 3 _ _ _ k];rfl
 rw[Ur w _ 4 _ _ _ k];rfl
def Kc(G:Prop)(f g h i:yB)(e:Ending)(w':World):Prop:=∃(l:Bool)(t:yB)(a:Option Addr)(n c d:Nat),e=rV (tV #[gV #[bV l,sV t,lV a n c],iV .i64 d])/\(d=0->l=true->n=4->∃b o t0 t1 t2 t3,a=some ⟨b,o,none⟩/\x7 w' b o t0 t1 t2 t3/\(G->t0=f/\t1=g/\t2=h/\t3=i))/\(G->d=0/\l=true/\n=4)
def Wj(G:Prop)(v:Value):Prop:=∃b:Bool,v=bV b/\(G->b=false)
def Sh(W)(s:yB)(hs:s.size<=maxLen)(G:Prop)(x0 x1 x2 x3)(d:G->dC s.data.toList=.ok (bJ [ak x0,ak x1,ak x2,ak x3])):yC 99 #[sV s] W λe w'=>Kc G (ae x0) (ae x1) (ae x2) (ae x3) e w'/\yW W w':=by
 refine(xE W s hs).mono ?_;rintro e w'⟨f,r⟩;refine⟨?_,r⟩;cases hr:dC s.data.toList with
 |error c=>rw[hr] at f d;obtain⟨rfl,u⟩:=f;exact⟨false,_,_,_,_,c,rfl,λh=>absurd h u,λg=>by cases d g⟩
 |ok x=>
  rw[hr] at f d;obtain⟨l,t,a,m,q,rfl,hi⟩:=f;rcases lp hi with⟨y,h1,h2,j,C⟩|⟨A,y,ks,D,_,h1,h2,j,p,_,v⟩
  .cases h1;refine⟨false,t,a,m,q,0,rfl,(λ_ hl=>by cases hl),λg=>?_⟩;have:=d g;rw[j] at this;cases this
  cases h1;let⟨a',z,w⟩:=p.slice;cases w;have k:G->ks=[ak x0,ak x1,ak x2,ak x3]:=λg=>by
   have:=d g;rw[j] at this;cases this;rfl
  refine⟨true,t,_,_,_,0,rfl,λ_ _ h4=>?_,λg=>⟨rfl,rfl,by rw[k g];rfl⟩⟩;let⟨b,o,c,n,B,i⟩:=GC p h4 v;rw[h4] at n;cases n;let⟨_,t0,_,k0,_,u0⟩:=i 0 (by decide);let⟨_,t1,_,k1,_,u1⟩:=i 1 (by decide);let⟨_,t2,_,k2,_,u2⟩:=i 2 (by decide);let⟨_,t3,_,k3,_,u3⟩:=i 3 (by decide);exact⟨b,o,t0,t1,t2,t3,rfl,⟨UE _ _ k0,k0,k1,k2,k3⟩,λg=>by
   have e:=k g;exact⟨(u0 x0 (by rw[e];rfl)).2,(u1 x1 (by rw[e];rfl)).2,(u2 x2 (by rw[e];rfl)).2,(u3 x3 (by rw[e];rfl)).2⟩⟩
def sR(W:World)(n:Nat)(l:Bool)(t:yB)(a:Option Addr)(k c:Nat):Prop:=W.heap[n]? =some (.cells #[bV l,sV t,lV a k c] 155 (0,0))
def sR.below{W b n l t a k c}(h:sR W n l t a k c)(d:yW W b):sR b n l t a k c:=(d.block n (Um.1 h).1).trans h
def sR.cells{W n l t a k c}(h:sR W n l t a k c):n<W.heap.size/\W.cell? ⟨n,2,none⟩=some (lV a k c):=⟨(Um.1 h).1,by rw[Ur W _ 2 _ _ _ h];rfl⟩
def Ly(w:World)(B7 slot:yB)(h:aH)(H:Bool)(av au:Option Addr)(cv nv cu T:Nat)(P:World->Prop)(H0:h.az.length<4000000000)(G m:Prop)(Y Z y M s f j U:yB)(I:Int)(p:yB->yB)(L:yB->Int)(F1:yH (P (w.alloc (.cells (jD h) 107))))(d:yH (∀W W',P W->yW W W'->P W'))(J:yH (∀W,P W->pN W w.heap.size h))(F3:yH (∀W,P W->yC 23 #[sV h.addr] W λe w'=>e=rV (sV Y)/\yW W w'))(F4:yH (∀W,P W->yC 23 #[sV slot] W λe w'=>e=rV (sV Z)/\yW W w'))(F7:yH (∀W,P W->yC 46 #[sV B7,sV Y,lV av nv cv] W λe w'=>e=rV (tV #[sV y,i6 I])/\yW W w'))(F6:yH (∀W r,P W->yC 46 #[sV r,sV Z,lV au T cu] W λe w'=>e=rV (tV #[sV (p r),i6 (L r)])/\yW W w'))(E3:yH (∀W,P W->yC 99 #[sV y] W λe w'=>Kc (m/\G) M h.aI s h.code e w'/\yW W w'))(E0:yH (∀W,P W->yC 70 #[i6 h.n] W λe w'=>(∃x,e=rV (sV x)/\(m->G->x=M))/\yW W w'))(E2:yH (∀W,P W->yC 10 #[] W λe w'=>e=rV (sV f)/\yW W w'))(D9:yH (∀W,P W->yC 35 #[lV h.sa h.az.length h.sc,sV slot] W λe w'=>e=rV (sV j)/\w'=W))(E1:yH (∀W,P W->yC 100 #[sV j] W λe w'=>e=rV (sV U)/\yW W w'))(V:yH (G->I=0/\y.toList.isEmpty= !H/\(H=false->T=0))) (F5:yH (H=true->m)) (B8:yH (m->G->(h.az.length=0->s=f)/\L s=0/\(j.toList.isEmpty=true->(p s).toList.isEmpty=true)/\(j.toList.isEmpty=false->p s=U))):yC 63 #[sV B7,gV #[sV h.addr,i6 h.n,sV h.aI,sV h.code,lV h.sa h.az.length h.sc],bV H,sV slot,lV av nv cv,lV au T cu] w λe w'=>kS (λb=>G->b=true) e/\yH (P w'):=by
 obtain⟨q,O⟩:=yX (w.alloc (.cells (jD h) 107));have B1:yH (P q):=by rw[O];exact F1
 have G0:w.heap.size<q.heap.size:=by rw[O];simp
 obtain⟨_,b0,b1,b2,b3,b4⟩:=(J.o _ B1.o).cells;unfold jD at O;have A8:yH (yC 23 #[sV h.addr] q λe w'=>e=rV (sV Y)/\yW q w'):=F3.o _ B1.o;go_enter func63,ntmps63
 go_wp2_with fail
 rw[<-O];clear O;apply A8.m;rintro e w1⟨rfl,C8⟩;have C4:=aa (d.o _ _ B1.o C8);have D5:=aa (F7.o _ C4.o);clear C8 G0 b0 b1 b2 b3 b4;go_wp2_with fail
 apply D5.m;rintro e w2⟨rfl,D0⟩;have k:=aa (d.o _ _ C4.o D0);have D8:=aa (E3.o _ k.o);clear D0;by_cases A6:I=0
 .subst A6;cases hte:y.toList.isEmpty with
  |true=>
   cases H with
   |true=>
    have c:yH (¬G):=λg=>by have:=(V.o g).2.1;rw[hte] at this;cases this
    go_wp2;go_ret;exact⟨⟨false,rfl,λg=>(c.o g).elim⟩,k⟩
   |false=>
    have F0:yH (G->T=0):=λg=>(V.o g).2.2 rfl
    go_wp2;go_ret;exact⟨⟨_,rfl,λg=>by rw[F0.o g];rfl⟩,k⟩
  |false=>
   cases H with
   |false=>
    have c:yH (¬G):=λg=>by have:=(V.o g).2.1;rw[hte] at this;cases this
    go_wp2;go_ret;exact⟨⟨false,rfl,λg=>(c.o g).elim⟩,k⟩
   |true=>
    have K:yH m:=F5.o rfl;go_wp2_with fail
    apply D8.m;rintro e w3⟨⟨l,C,a,E,D,A,rfl,B6,D2⟩,A0⟩;have E4:yH (G->A=0/\l=true/\E=4):=λg=>D2 ⟨K.o,g⟩
    clear D2;obtain⟨i,B⟩:=yX (w3.alloc (.cells #[bV l,sV C,lV a E D] 155));have A1:yW w3 i:=by rw[B];exact(Un _ _).alloc (Ug _) _
    have B2:=aa (d.o _ _ (d.o _ _ k.o A0) A1);have E7:yH (sR i w3.heap.size l C a E D):=by rw[B];exact UG w3 _
    by_cases A7:A=0/\l=true/\E=4
    .obtain⟨rfl,rfl,rfl⟩:=A7;obtain⟨b,o,t0,t1,t2,t3,rfl,C7,D4⟩:=B6 rfl rfl rfl;have B4:yH (G->t0=M/\t1=h.aI/\t2=s/\t3=h.code):=λg=>D4 ⟨K.o,g⟩
     clear D4;have E8:=aa (C7.below A1);have D6:=aa (E0.o _ B2.o);obtain⟨n4,_,e1,e2,e3,e4⟩:=(J.o _ (d.o _ _ k.o A0)).cells;have G1:w.heap.size≠w3.heap.size:=by omega
     clear B6 A0 A1 C7;go_wp2_with fail
     rw[<-B];clear B;apply D6.m;rintro e w5⟨⟨x,rfl,D3⟩,A2⟩;have E5:yH (G->(t0.toList == x.toList)=true/\(t1.toList == h.aI.toList)=true/\(t3.toList == h.code.toList)=true):=λg=>by
      obtain⟨g0,g1,_,g3⟩:=B4.o g;rw[g0,g1,g3,D3 K.o g];simp
     clear D3;have t:=aa (d.o _ _ B2.o A2);have C2:=aa (E8.o.below A2);have C0:yH (sR w5 w3.heap.size true C (some ⟨b,o,none⟩) 4 D):=E7.o.below A2;clear A2 e1 e2 e3 e4 n4 G1;generalize w3.heap.size=ni at*;obtain⟨n5,e0,e1,e2,e3,e4⟩:=(J.o _ t.o).cells;obtain⟨G6,i2⟩:=C0.o.cells;obtain⟨G3,k0,k1,k2,k3⟩:=C2.o;have R:(t0.toList == x.toList)=false\/((t0.toList == x.toList)=true/\(t1.toList == h.aI.toList)=false)\/((t0.toList == x.toList)=true/\(t1.toList == h.aI.toList)=true/\(t3.toList == h.code.toList)=false)\/((t0.toList == x.toList)=true/\(t1.toList == h.aI.toList)=true/\(t3.toList == h.code.toList)=true):=by
      cases (t0.toList == x.toList)<;>cases (t1.toList == h.aI.toList)<;>cases (t3.toList == h.code.toList)<;>simp
     go_upto_region 11 with fail
     go_cut [93] (λv wx=>Wj G v/\∃n,wx=w5.drewN n)
     .rcases R with h1|⟨h1,h2⟩|⟨h1,h2,h3⟩|⟨h1,h2,h3⟩;all_goals
       go_region
       all_goals
        go_wp2;go_meet;exact⟨⟨_,rfl,λg=>by have:=E5.o g;simp_all⟩,_,rfl⟩
     obtain⟨⟨N,rfl,Q⟩,F,rfl⟩:=hcut;have A9:=aa Q;clear Q;have A5:yW w5 (w5.drewN F):=ig (Un _ _) F;have B3:=aa (d.o _ _ t.o A5);have E9:=aa (C2.o.below A5);have E6:=aa (C0.o.below A5);clear A5 R n5 e0 e1 e2 e3 e4 G6 i2 G3 k0 k1 k2 k3;generalize w5.drewN F=w6 at*;have D7:=aa (E2.o _ B3.o);cases N with
     |true=>go_wp2;go_ret;exact⟨⟨false,rfl,λg=>by have:=A9.o g;cases this⟩,B3⟩
     |false=>
      go_wp2_with fail
      apply D7.m;rintro e w7⟨rfl,A3⟩;have B9:yH (G->h.az.length=0->(t2.toList == f.toList)=true):=λg h0=>by rw[(B4.o g).2.2.1,(B8.o K.o g).1 h0];simp
      have X:=aa (d.o _ _ B3.o A3);have C3:=aa (E9.o.below A3);have C1:=aa (E6.o.below A3);clear A3;obtain⟨n7,e0,e1,e2,e3,e4⟩:=(J.o _ X.o).cells;obtain⟨G7,i2⟩:=C1.o.cells;obtain⟨G4,k0,k1,k2,k3⟩:=C3.o;have R:(h.az.length=0/\(t2.toList == f.toList)=false)\/(h.az.length=0/\(t2.toList == f.toList)=true)\/0<h.az.length:=by
       rcases Nat.eq_zero_or_pos h.az.length with h0|h0
       .cases (t2.toList == f.toList)<;>simp[h0]
       exact .inr (.inr h0)
      go_upto_region 14 with fail
      go_cut [107] (λv wx=>Wj G v/\wx=w7)
      .rcases R with⟨h1,h2⟩|⟨h1,h2⟩|h1
       .have C6:((h.az.length:Int) == 0)=true:=by rw[h1];rfl
        have F8:(t2.toList != f.toList)=true:=by rw[bne,h2];rfl
        have B0:yH (G->(t2.toList == f.toList)=true):=λg=>B9.o g h1
        clear h1;go_wp2;go_meet;exact⟨⟨_,rfl,λg=>by have:=B0.o g;simp_all⟩,rfl⟩
       .have C6:((h.az.length:Int) == 0)=true:=by rw[h1];rfl
        have F8:(t2.toList != f.toList)=false:=by rw[bne,h2];rfl
        have B0:yH (G->(t2.toList == f.toList)=true):=λg=>B9.o g h1
        clear h1;go_wp2;go_meet;exact⟨⟨_,rfl,λg=>by have:=B0.o g;simp_all⟩,rfl⟩
       have C6:((h.az.length:Int) == 0)=false:=by rw[Vd];omega
       go_wp2;go_meet;exact⟨⟨_,rfl,λ_=>rfl⟩,rfl⟩
      obtain⟨⟨N,rfl,Q⟩,rfl⟩:=hcut;have A9:=aa Q;clear R Q;cases N with
      |true=>go_wp2;go_ret;exact⟨⟨false,rfl,λg=>by have:=A9.o g;cases this⟩,X⟩
      |false=>
       have A8:yH (yC 23 #[sV slot] wc λe w'=>e=rV (sV Z)/\yW wc w'):=F4.o _ X.o;clear n7 e0 e1 e2 e3 e4 G7 i2 G4 k0 k1 k2 k3;go_wp2_with fail
       apply A8.m;rintro e w8⟨rfl,A4⟩;have B5:yH (G->L t2=0/\(j.toList.isEmpty=true->(p t2).toList.isEmpty=true)/\(j.toList.isEmpty=false->p t2=U)):=λg=>by rw[(B4.o g).2.2.1];exact(B8.o K.o g).2
       have C5:=aa (d.o _ _ X.o A4);obtain⟨G8,i2⟩:=(C1.o.below A4).cells;obtain⟨G5,k0,k1,k2,k3⟩:=C3.o.below A4;have CV:yH (yC 46 #[sV t2,sV Z,lV au T cu] w8 λe w'=>e=rV (tV #[sV (p t2),i6 (L t2)])/\yW w8 w'):=F6.o _ _ C5.o;clear A4;go_wp2_with fail
       apply CV.m;rintro e w9⟨rfl,D1⟩;generalize p t2=z at*;generalize L t2=ez at*;have u:=aa (d.o _ _ C5.o D1);obtain⟨n9,e0,e1,e2,e3,e4⟩:=(J.o _ u.o).cells;have CH:=aa (D9.o _ u.o);clear D1 G8 i2 G5 k0 k1 k2 k3;go_wp2_with fail
       apply CH.m;rintro e wz⟨rfl,G2⟩;subst G2;have CC:=aa (E1.o _ u.o);clear n9 e0 e1 e2 e3 e4;by_cases S:ez=0
       .subst S;cases hwe:j.toList.isEmpty with
        |true=>go_wp2;go_ret;exact⟨⟨_,rfl,λg=>by have:=(B5.o g).2.1 hwe;simp_all⟩,u⟩
        |false=>
         go_wp2_with fail
         apply CC.m;rintro e w10⟨rfl,C9⟩;have F2:=aa (d.o _ _ u.o C9);clear C9;go_wp2;go_ret;exact⟨⟨_,rfl,λg=>by rw[(B5.o g).2.2 hwe];simp⟩,F2⟩
       have H1:(ez != 0)=true:=by simpa using S
       have c:yH (¬G):=λg=>S (B5.o g).1
       have H2:(ez == 0)=false:=by simpa using S
       clear S;go_wp2;go_ret;exact⟨⟨_,rfl,λg=>(c.o g).elim⟩,u⟩
    have t:yH (P (w3.alloc (.cells #[bV l,sV C,lV a E D] 155))):=by rw[<-B];exact B2
    have F9:((A:Int) != 0)=true\/(A=0/\l=false)\/(A=0/\l=true/\((E:Int) != 4)=true):=by
     by_cases h0:A=0
     .cases l with
      |false=>exact .inr (.inl ⟨h0,rfl⟩)
      |true=>exact .inr (.inr ⟨h0,rfl,by simp;exact λh4=>A7 ⟨h0,rfl,by omega⟩⟩)
     exact .inl (by simp;omega)
    have c:yH (¬G):=λg=>A7 (E4.o g)
    clear B6 A0 A1 A7 B;rcases F9 with h1|⟨rfl,rfl⟩|⟨rfl,rfl,h1⟩
    .go_wp2;go_ret;exact⟨⟨false,rfl,λg=>(c.o g).elim⟩,t⟩
    .go_wp2;go_ret;exact⟨⟨false,rfl,λg=>(c.o g).elim⟩,t⟩
    go_wp2;go_ret;exact⟨⟨false,rfl,λg=>(c.o g).elim⟩,t⟩
 have G9:(I != 0)=true:=by simpa using A6
 have c:yH (¬G):=λg=>A6 (V.o g).1
 clear A6;go_wp2;go_ret;exact⟨⟨false,rfl,λg=>(c.o g).elim⟩,k⟩
end Go.Proofs.YteaodagofkcgbaaGreatDoor
