import Derived.Test.YteaodagofkcgbaaGreatDoorS
open Go.Proofs.Tryz
open Go.Proofs.Tryz renaming prog→yP
open Go.Value renaming string→sV,pointer→pV,int→iV,slice→lV,bool→bV,tuple→tV,agg→gV
open Go.Ending renaming returned→rV
namespace Go.Proofs.YteaodagofkcgbaaGreatDoor
open Go.RowKit
set_option maxRecDepth 100000
set_option maxHeartbeats 0
set_option linter.all false
def Kx(h v:yL)(ks:Nat->Nd)(c:Nat)(k':Nd)(M:Nat->Prop)(w l p g:World)(f b:Nat)(I u0 u1:Option Addr)(G:yB->Option yB)(S:Nat->Prop)(U:Nat->Option Addr)(d:Nat->Nat->Prop)(dep:Nat)(B:c<16) (K:fF w f I u0) (D:aA (.branch h v ks) dep) (m:Kids w ks (λx=>S x/\x≠b) U d) (A0:aA k' (dep+1)) (A3:(ks c).some) (hd:dep<=80) (Q:j5 M w I G) (hs:∀k t,G k=some t->t.size<=maxLen) (J:∀x,M x->x<w.heap.size) (T:aB w) (q:∀x,S x->3<=x/\x≠f/\¬M x/\x<w.heap.size)(A:yW w l) (P:At p k' (λx=>d c x\/l.heap.size<=x) (pV u1)) (E:bO (d c) l p) (A2:k'=.nil->yW l p) (r:yW p g) (A1:cd G (aJ ks c k') v dep≠.ok .nil):yC 113 #[pV (qA f),gU (gx U c u1),sV (ae v),i6 (dep:Int)] g λe w'=>∃u z,e=rV (tV #[pV u,i6 z])/\yH (oG w S (cd G (aJ ks c k') v dep) (rV (tV #[pV u,i6 z])) w'):=by
 have N:=A.size;have A6:=E.size;have A7:=r.size;have H:∀x,x<w.heap.size->¬d c x->g.heap[x]? =w.heap[x]? :=λx a F=>(r.block x (by omega)).trans ((E.block x (by omega) F).trans (A.block x a))
 have C:∀x,d c x->S x/\x≠b:=λx a=>m.sub c x B a
 have A4:g.heap[f]? =w.heap[f]? :=H f K.lt λa=>(q f (C f a).1).2.1 rfl
 have V:bO (d c) w g:=((bO.iP A).trans E λx a=>.inl a).kU r;have R:Kids g (aJ ks c k') (λx=>S x\/w.heap.size<=x) (gx U c u1) (fQ d c (λx=>d c x\/l.heap.size<=x)):=by
  refine⟨λi hi=>?_,λi x hi a=>?_,λi j x hi s h1 h2=>?_⟩
  .by_cases e:i=c
   .subst e;simp only[aJ,gx,fQ,U5];exact P.below r
   simp only[aJ,gx,fQ,e,UT];exact(m.at_ i hi).kept λx a hl=>H x hl λy=>e (m.jf i c x hi B a y)
  .by_cases e:i=c
   .subst e;simp only[fQ,U5] at a;exact a.imp (λh=>(C x h).1) (λh=>Ut N h)
   simp only[fQ,e,UT] at a;exact .inl (m.sub i x hi a).1
  have key:∀j,j<16->j≠c->d j x->(d c x\/l.heap.size<=x)->False:=λj s Z h1 h2=>by
   rcases h2 with h2|h2
   .exact Z (m.jf j c x s B h1 h2)
   have:=(q x (m.sub j x s h1).1).2.2.2;omega
  by_cases e1:i=c
  .by_cases e2:j=c
   .rw[e1,e2]
   simp only[fQ,e1,U5] at h1;simp only[fQ,e2,UT] at h2;exact(key j s e2 h2 h1).elim
  by_cases e2:j=c
  .simp only[fQ,e2,U5] at h2;simp only[fQ,e1,UT] at h1;exact(key i hi e1 h1 h2).elim
  simp only[fQ,e1,UT] at h1;simp only[fQ,e2,UT] at h2;exact m.jf i j x hi s h1 h2
 have L:bO S w g:=V.mono λx a=>(C x a).1
 refine(DO M g f I u0 G (aJ ks c k') (λx=>S x\/w.heap.size<=x) (gx U c u1) _ v dep (K.kept A4) R (λi hi=>?_) D.aK.2.1 (λO h Y a=>Q O h Y λx y=>(a x y).trans (H x (J x y) λA5=>(q x (C x A5).1).2.2.1 y)) hs (λx a=>by have:=J x a;omega) (by omega) (T.nL L λx a=>(q x a).1) (λx a=>?_)).mono λe w' o=>?_
 .by_cases e:i=c
  .subst e;rwa[dK]
  rw[e9 _ _ _ _ e];exact dA D i hi
 .rcases a with a|a
  .exact(q x a).1
  have:=T.size;omega
 let⟨u,z,X⟩:=o.tuple;subst X;refine⟨u,z,rfl,?_,λF=>absurd F A1⟩;cases hX:cd G (aJ ks c k') v dep with
 |error e=>rw[hX] at o;have W:=(A.trans ((A2 (Mn B D.full.1 A3 hX)).mono N)).trans (r.mono (by omega));exact⟨o.1,W.trans (o.2.mono (by omega))⟩
 |ok n=>rw[hX] at o;let⟨u',e1,e2,e3⟩:=o;exact⟨u',e1,e2.mono λx a=>a.elim id λh=>.inr (by omega),L.trans e3 λx a=>a.imp id id⟩
def Kz(h v:yL)(ks:Nat->Nd)(c:UInt8)(r:yL)(ih:uU (ks c.toNat))(M:Nat->Prop)(w:World)(s:Nat)(st u0:Option Addr)(G:yB->Option yB)(S:Nat->Prop)(u:Option Addr)(dep:Nat)(bl:Bool)(hT:fF w s st u0) (hA:At w (.branch h v ks) S (pV u)) (Z:aA (.branch h v ks) dep) (hL:bK (.branch h v ks)) (ho:dD (ks c.toNat) r) (I:jL (ks c.toNat) r) (hn:aw (c::r)) (hd:dep+(r.length+1)<=80) (hG:j5 M w st G) (hs:∀k t,G k=some t->t.size<=maxLen) (hM:∀x,M x->x<w.heap.size) (T:aB w) (hS:∀x,S x->3<=x/\x≠s/\¬M x/\x<w.heap.size)(A5:bI G (.branch h v ks) (c::r) dep≠.ok .nil):yC 78 #[pV (qA s),gV #[pV u,sV (ae (c::r)),i6 (dep:Int),bV bl]] w (oG w S (bI G (.branch h v ks) (c::r) dep)):=by
 obtain⟨b,U,z,hu,D5,B,K⟩:=hA.kids;subst hu;have g:c.toNat<16:=hn c (Uk ..);have A6:aw r:=λy hy=>hn y (Ul _ hy)
 have A3:∀i,i<16->cW (ks i):=hL;have HN:yH (∀W,yW w W->yC 112 #[gV #[pV (qA b),sV (ae (c::r)),i6 (dep:Int),bV bl]] W λe w'=>e=rV (gV #[pV (U c.toNat),sV (ae r),i6 ((dep+1:Nat):Int),bV false])/\yW W w'):=λW m=>
  wN b h v ks _ _ c r g (U c.toNat) rfl (by omega) dep (by omega) bl W ((m.block b B.lt).trans B)
 have hR:bI G (.branch h v ks) (c::r) dep=pU (λk=>cd G (aJ ks c.toNat k) v dep) (bI G (ks c.toNat) r (dep+1)):=rfl;have X:yH (∀W,yW w W->yC 78 #[pV (qA s),gV #[pV (U c.toNat),sV (ae r),i6 ((dep+1:Nat):Int),bV false]] W (oG W (z c.toNat) (bI G (ks c.toNat) r (dep+1)))):=λW m=>
  ih M W s st u0 G (z c.toNat) (U c.toNat) r (dep+1) false (hT.kept (m.block s hT.lt)) ((K.at_ c.toNat g).below m) (dA Z _ g) (A3 _ g).loose ho I A6 (by omega) (λW' h I C=>hG W' h I λx C2=>(C x C2).trans (m.block x (hM x C2))) hs (λx C=>Us (hM x C) m.size) (T.below m) (λx C=>by
   obtain⟨a1,a2,a3,a4⟩:=hS x (K.sub _ x g C).1;exact⟨a1,a2,a3,Us a4 m.size⟩)
 have C1:(ks c.toNat).some:=by
  cases hkc:ks c.toNat with
  |nil=>rw[hkc] at I;exact I.elim
  | _=>trivial
 have D1:yH (∀d a u1 k',bI G (ks c.toNat) r (dep+1)=.ok k'->yW w d->At a k' (λx=>z c.toNat x\/d.heap.size<=x) (pV u1)->bO (z c.toNat) d a->(k'=.nil->yW d a)->∀o,yW a o->yC 113 #[pV (qA s),gU (gx U c.toNat u1),sV (ae v),i6 (dep:Int)] o λe w'=>∃u f,e=rV (tV #[pV u,i6 f])/\yH (oG w S (cd G (aJ ks c.toNat k') v dep) (rV (tV #[pV u,i6 f])) w')):=λd a u1 k' hr D6 Y q A1 o D7=>
  Kx h v ks c.toNat k' M w d a o s b st u0 u1 G S U z dep g hT Z K (lk G (ks c.toNat) r (dep+1) k' (dA Z _ g) (A3 _ g).loose ho I A6 (by omega) hr).1.ok C1 (by omega) hG hs hM T hS D6 Y q A1 D7 (by
   rw[hR,hr] at A5;exact A5)
 have C8:yH (∀W a,yW w W->bO (z c.toNat) W a->a.heap[b]? =w.heap[b]?):=λW a m q=>
  (q.block b (Us B.lt m.size) λC=>(K.sub _ b g C).2 rfl).trans (m.block b B.lt)
 have D3:yH (∀d a,w.heap.size<d.heap.size->bO (z c.toNat) d a->a.heap[w.heap.size]? =d.heap[w.heap.size]?):=λd a hl q=>q.block _ hl λC=>by
  have:=(hS _ (K.sub _ _ g C).1).2.2.2;omega
 have c0:w.cell? ⟨b,0,none⟩=some (i6 3):=B.c0;have E5:=B.lt;have HB:=aa B;have A4:∀f,bI G (ks c.toNat) r (dep+1)=.error f->((f:Int) != 0)=true:=λf h=>by
  have:=Ag G _ _ _ _ h;simp;omega
 obtain⟨j,N⟩:∃R,R=ae (c::r):=⟨_,rfl⟩
 have D9:j.size=r.length+1:=by rw[N,aN];rfl
 have hp:0<j.size:=by omega
 have h0:j[0]'hp=c:=by subst N;rfl
 have D8:j.toList.isEmpty=false:=by rw[N,ke];simp
 have E6:(0:Int)<(j.size:Int):=by omega
 have ha:=sD c g;have E1:(c.toNat:Int)<16:=by omega
 have A8:=aa g;rw[<-N] at HN⊢;rw[hR];clear hT hA Z hL ho I hn hd hG hs hM T hS D5 B K A6 A3 C1 N D9 hR A5 ih;generalize ae r=RR at*;obtain⟨E,O⟩:=yX (w.alloc (.cells #[pV (qA b),sV j,i6 (dep:Int),bV bl] 127));have J:yH (yW w E):=by show Below _ _ _;rw[O];exact(Un _ _).alloc (Ug _) _
 have D4:yH (E.heap.size=w.heap.size+1):=by show _=_;rw[O];simp
 have C9:yH (E.heap[w.heap.size]? =some (.cells #[pV (qA b),sV j,i6 (dep:Int),bV bl] 127 (0,0))):=by show _=_;rw[O];exact UG w _
 have B3:=aa O;clear O;cases hX:bI G (ks c.toNat) r (dep+1) with
 |error f=>
  rw[hX] at X;have E2:=A4 f hX;clear A4 hX;go_enter func78,ntmps78
  go_wp2_with fail
  rw[<-B3.o];refine(HN.o _ J.o).mono ?_;rintro e w1⟨rfl,F⟩;have D:=aa (J.o.trans (F.mono J.o.size));clear F;go_wp2_with fail
  refine(X.o _ D.o).mono ?_;rintro e w2⟨⟨rfl,Q⟩,_⟩;have C5:=aa (D.o.trans (Q.mono D.o.size));clear Q;go_wp2;go_ret2;exact⟨⟨rfl,C5.o⟩,λh=>by cases h⟩
 |ok k'=>
  rw[hX] at X;have B0:=λd a u1=>D1.o d a u1 k' hX
  have D0:=aa B0;clear B0 A4 hX;show Calls _ _ _ _ (oG w S (cd G (aJ ks c.toNat k') v dep));generalize cd G (aJ ks c.toNat k') v dep=R at*;go_enter func78,ntmps78
  go_wp2_with fail
  rw[<-B3.o];refine(HN.o _ J.o).mono ?_;rintro e w1⟨rfl,F⟩;have D:=aa (J.o.trans (F.mono J.o.size));have A9:yH (w1.heap[w.heap.size]? =some (.cells #[pV (qA b),sV j,i6 (dep:Int),bV bl] 127 (0,0))/\w.heap.size<w1.heap.size):=by
   have hl:w.heap.size<E.heap.size:=by have:=D4.o;omega
   exact⟨by rw[F.block _ hl];exact C9.o,Us hl F.size⟩
  clear F;go_wp2_with fail
  refine(X.o _ D.o).mono ?_;rintro e w2⟨⟨u2,rfl,Y,q⟩,A1⟩;have Q:w2.heap[b]? =w.heap[b]? :=C8.o w1 w2 D.o q;have L:bU w2 b (.branch h v ks) cN (λi=>pV (U i)):=Q.trans HB.o;obtain⟨k0,k1,k2,k3,k4,k5,k6,k7,k8,k9,k10,k11,k12,k13,k14,k15⟩:=L.all;have d0:w2.cell? ⟨b,0,none⟩=some (i6 3):=L.c0;have d3:w2.cell? ⟨b,3,none⟩=some (sV (ae v)):=L.c3;have B9:=L.lt;have A2:w2.heap[w.heap.size]? =some (.cells #[pV (qA b),sV j,i6 (dep:Int),bV bl] 127 (0,0)):=(D3.o w1 w2 A9.o.2 q).trans A9.o.1;have e1:w2.cell? ⟨w.heap.size,1,none⟩=some (sV j):=by rw[Ur w2 _ 1 _ _ _ A2];rfl
  have e2:w2.cell? ⟨w.heap.size,2,none⟩=some (i6 (dep:Int)):=by rw[Ur w2 _ 2 _ _ _ A2];rfl
  have A7:=(Um.1 A2).1;have B1:yH (∀o,yW w2 o->yC 113 #[pV (qA s),gU (gx U c.toNat u2),sV (ae v),i6 (dep:Int)] o λe w'=>∃u f,e=rV (tV #[pV u,i6 f])/\yH (oG w S R (rV (tV #[pV u,i6 f])) w')):=D0.o w1 w2 u2 D.o Y q (λe=>A1 (by rw[e]));clear Y q A1 Q L A2 c0;generalize ae v=V at*;obtain⟨l,A0⟩:=yX (w2.alloc (.cells #[pV (U 0),pV (U 1),pV (U 2),pV (U 3),pV (U 4),pV (U 5),pV (U 6),pV (U 7),pV (U 8),pV (U 9),pV (U 10),pV (U 11),pV (U 12),pV (U 13),pV (U 14),pV (U 15)] 165));have P:eZ l w2.heap.size U:=by rw[A0];exact eZ.made w2 U
  have H:yW w2 l:=by rw[A0];exact(Un _ _).alloc (Ug _) _
  have a1:=(H.cell (p:=⟨w.heap.size,1,none⟩) A7).trans e1;have a2:=(H.cell (p:=⟨w.heap.size,2,none⟩) A7).trans e2;have a3:=(H.cell (p:=⟨b,3,none⟩) B9).trans d3;have ac:=P.cell c.toNat A8.o;have af:=P.free c.toNat;have C0:b<l.heap.size:=Us B9 H.size;have C3:w.heap.size<l.heap.size:=Us A7 H.size;have B6:w2.heap.size<l.heap.size:=P.lt;have B7:b≠w2.heap.size:=by omega
  have B8:w.heap.size≠w2.heap.size:=by omega
  have C4:=aa P;have C6:=aa H;have D2:=aa A0;clear P H A0;go_upto_region 12 with fail
  rw[<-D2.o];clear k0 k1 k2 k3 k4 k5 k6 k7 k8 k9 k10 k11 k12 k13 k14 k15 d0 d3 e1 e2;go_upto_region 13 with fail
  obtain⟨n,A⟩:=yX (l.setCell ⟨w2.heap.size,c.toNat,none⟩ (pV u2));have B4:eZ n w2.heap.size (gx U c.toNat u2):=by rw[A];exact C4.o.set c.toNat u2 A8.o
  have B5:yW w2 n:=by rw[A];exact C6.o.setCell (Ug _) _
  have b2:n.cell? ⟨w.heap.size,2,none⟩=some (i6 (dep:Int)):=by rw[A];exact(Uz (Uy _ _ _ _ B8)).trans a2
  have b3:n.cell? ⟨b,3,none⟩=some (sV V):=by rw[A];exact(Uz (Uy _ _ _ _ B7)).trans a3
  have E4:b<n.heap.size:=by rw[A];simpa using C0
  have E7:w.heap.size<n.heap.size:=by rw[A];simpa using C3
  have E3:w2.heap.size<n.heap.size:=by rw[A];simpa using B6
  obtain⟨m0,m1,m2,m3,m4,m5,m6,m7,m8,m9,m10,m11,m12,m13,m14,m15⟩:=B4.all;have C7:=aa B5;generalize gx U c.toNat u2=U2 at*;unfold gU at B1;rw[<-A];clear A B4 B5 a1 a2 a3 ac af C0 C3 B6 B7 B8 D8 h0 ha;go_region_with (go_at_call 113;refine(B1.o _ C7.o.drew).mono ?_;rintro e3 w3⟨u3,E0,rfl,HF⟩)
  all_goals
   go_wp2;go_ret2;exact HF.o
def KC(t):uU t:=by
 induction t with
 |nil=>intro M w d b u0 G S u r dep bl _ _ _ _ _ a;exact a.elim
 |unread _=>intro M w d b u0 G S u r dep bl _ _ _ _ _ a;exact a.elim
 |leaf h q v=>exact Ky h q v
 |ext h q k ih=>exact KB h q k ih
 |branch h v ks ih=>
  intro M w d b u0 G S u r dep bl o i f l x a p g j hs m T n;have s:bI G (.branch h v ks) r dep≠.ok .nil:=λe=>(uo f l x a p g (.inr rfl) e)
  cases r with
  |nil=>exact(KA h v ks M w d b u0 G S u dep bl o i f (by simpa using g) j hs m T n).mono λe w' y=>⟨y,λh=>absurd h s⟩
  |cons c r=>exact Kz h v ks c r (ih _) M w d b u0 G S u dep bl o i f l x a p (by simpa using g) j hs m T n s
def IS(T:Nd):Except Nat Nd->Nd×Bool×Nat
 | .error e=>(T,false,e)
 | .ok t'=>(t',true,0)
def bC(G:yB->Option yB)(t:Nd)(key:yB):Nd×Bool×Nat:=if 40<key.size then(t,false,1) else if(aG G t key).2≠0 then((aG G t key).1,false,(aG G t key).2) else if aM (aG G t key).1 (aD key)=[] then((aG G t key).1,false,0) else IS (aG G t key).1 (bI G (aG G t key).1 (aD key) 0)
def oY(G:yB->Option yB)(t key)(h:aA t 0)(a:bK t):bK (aG G t key).1:=(OX G 81 t (aD key) 0 false h (b8 key)).1 a
def Qj{w w1 W w':World}{b o S S'}{t1 l:Nd}{u:Option Addr}(d:eX w1 b o S' t1)(n:∀x,S' x->S x\/w.heap.size<=x)(m:bO (λx=>S x\/x=b) w w1)(j:yW w1 W)(p:At w' l (λx=>S' x\/W.heap.size<=x) (pV u)) (i:bO S' W w') (f:aA l 0) (h3:3<=w.heap.size):gF w b o S l (w'.setCell ⟨b,1,none⟩ (pV u)):=by
 let⟨u0,q1,q2⟩:=d.at_;have t:=m.size;have v:=j.size;have y:=i.size;have s:=q1.lt;have g:∀x,(S' x\/W.heap.size<=x)->3<=x/\x≠b:=λx a=>by
  rcases a with a|a
  .exact⟨(d.own x a).1,(d.own x a).2.1⟩
  exact⟨by omega,by omega⟩
 have r:w'.heap[b]? =w1.heap[b]? :=(i.block b (by omega) λh=>(d.own b h).2.1 rfl).trans (j.block b s);have c:bO (λx=>S x\/x=b) w w':=(m.kU j).trans i λx a=>(n x a).imp .inl id
 exact⟨⟨λx=>(S' x\/W.heap.size<=x)/\x<w'.heap.size,⟨⟨u,(q1.kept r).set u,p.cut.kept λx a _=>Uy _ _ _ _ (g x a.1).2⟩,f,λx a=>⟨(g x a.1).1,(g x a.1).2,by simpa using a.2⟩⟩,λx a=>a.1.elim (n x) λh=>.inr (by omega)⟩,
  ⟨c.os,c.tape,c.output,by simpa using c.size,λk q f=>by rw[Uy _ _ _ _ (λe=>f (.inr e))];exact c.block k q f⟩⟩
def Ck{M w a g S t G}(l:eX w a g S t)(Y:bK t)(i:lX M w g G S)(B0:¬M a)(key:yB)(C1:key.size<=maxLen):yC 34 #[pV (qA a),sV key] w λe w'=>e=rV (tV #[bV (bC G t key).2.1,i6 ((bC G t key).2.2:Int)])/\gF w a g S (bC G t key).1 w':=by
 unfold maxLen at C1;by_cases I:40<key.size
 .have B:yH (bC G t key=(t,false,1)):=by show _=_;unfold bC;rw[Uj I]
  have HT:yH (eX w a g S t):=l;have C0:(40:Int)<(key.size:Int):=by omega
  clear l i I;generalize bC G t key=X at*;go_enter func34,ntmps34
  go_wp2;go_ret2;rw[B.o];exact⟨rfl,HT.o.now (Un _ _)⟩
 have T:key.size<=40:=by omega
 have U:=tg l i key T;have f:bC G t key=if(aG G t key).2≠0 then((aG G t key).1,false,(aG G t key).2) else if aM (aG G t key).1 (aD key)=[] then((aG G t key).1,false,0) else IS (aG G t key).1 (bI G (aG G t key).1 (aD key) 0):=by unfold bC;rw[Ui I]
 have N:yH (yC 76 #[pV (qA a),sV key] w λe w'=>gF w a g S (aG G t key).1 w'/\(∃(y:Option Addr)(s:yL)(j:Nat)(bl:Bool),e=rV (tV #[gV #[pV y,sV (ae s),i6 (j:Int),bV bl],i6 ((aG G t key).2:Int)])/\((aG G t key).2=0->sM w' w'.heap.size y s (aM (aG G t key).1 (aD key))))):=U;have C0:decide ((40:Int)<(key.size:Int))=false:=by simp;omega
 have O:=jk G t key l.ok;have P:=oY G t key l.ok Y;have Q:=b8 key;have A2:(aD key).length<=80:=by rw[g6];omega
 have B9:=i.bz.size;have B7:yH (∀w1,bO (λx=>S x\/x=a) w w1->aB w1):=λw1 h=>i.bz.nL h λx c=>by
  rcases c with c|c
  .exact(l.own x c).1
  rw[c];obtain⟨u,h1,_⟩:=l.at_;exact i.bz.mU h1
 have H:yH (∀x,M x->¬(S x\/x=a)/\x<w.heap.size):=λx c=>⟨λh=>h.elim (λh=>i.apart x h c) λh=>B0 (h▸c),i.lt x c⟩
 have A5:yH (j5 M w g G/\∀k t,G k=some t->t.size<=maxLen):=⟨i.rZ,i.small⟩
 by_cases h0:(aG G t key).2=0
 .rw[Ui (λh=>h h0)] at f;have A9:(ae (aM (aG G t key).1 (aD key))).toList.isEmpty=decide (aM (aG G t key).1 (aD key)=[]):=ke _;have Z:=kA G t key l.ok T h0;rw[h0] at N;by_cases E:aM (aG G t key).1 (aD key)=[]
  .rw[Uj E] at f;rw[Uw E] at A9;have B:yH (bC G t key=((aG G t key).1,false,0)):=f;clear l i I T U f O P Q A2 h0 E Z Y;generalize bC G t key=X at*;generalize aM (aG G t key).1 (aD key)=F at*;generalize (aG G t key).1=T1 at*;go_enter func34,ntmps34
   go_wp2_with fail
   apply N.m;rintro e w1⟨q,y,s,j,bl,rfl,o⟩;have K:yH (gF w a g S T1 w1):=q;have L:yH (∀W,yW w1 W->yC 77 #[gV #[pV y,sV (ae s),i6 (j:Int),bV bl]] W λe w'=>e=rV (sV (ae F))/\yW W w'):=λW b=>tk (o (by first|trivial|rfl)) j bl W b
   clear q o;generalize ae F=FF at*;go_wp2_with fail
   refine(L.o _ ((Un _ _).alloc (Ug _) _)).mono ?_;rintro e w2⟨rfl,z⟩;have r:yH (yW w1 w2):=((Un w1.heap.size w1).alloc (Ug _) _).trans (z.mono (by simp));clear z;go_wp2;go_ret2;rw[B.o];exact⟨rfl,K.o.below r.o⟩
  rw[Ui E] at f;rw[Uv E] at A9;have A4:=px _ _ E;have V:yH (∀w1 S' u1,eX w1 a g S' (aG G t key).1->(∀x,S' x->S x\/w.heap.size<=x)->bO (λx=>S x\/x=a) w w1->fF w1 a g u1->At w1 (aG G t key).1 S' (pV u1)->∀W,yW w1 W->yC 78 #[pV (qA a),gV #[pV u1,sV (ae (aD key)),i6 0,bV false]] W (oG W S' (bI G (aG G t key).1 (aD key) 0))):=λw1 S' u1 m A n d D W b=>by
   have C2:∀x,M x->W.heap[x]? =w.heap[x]? :=λx c=>(b.block x (Us (H.o x c).2 n.size)).trans (n.block x (H.o x c).2 (H.o x c).1)
   refine KC (aG G t key).1 M W a g u1 G S' u1 (aD key) 0 false (d.kept (b.block a d.lt)) (D.below b) O P Z A4 Q (by omega) (λW' h hh c=>A5.o.1 W' h hh λx B1=>(c x B1).trans (C2 x B1)) A5.o.2 (λx c=>by have:=(H.o x c).2;have:=n.size;have:=b.size;omega) ((B7.o w1 n).below b) (λx c=>?_);obtain⟨a1,a2,a3⟩:=m.own x c;refine⟨a1,a2,λhm=>?_,Us a3 b.size⟩;rcases A x c with h|h
   .exact(H.o x hm).1 (.inl h)
   have:=(H.o x hm).2;omega
  have A6:yH (∀(u1:Option Addr) (W:World),yC 79 #[pV u1,sV key] W λe w'=>e=rV (gV #[pV u1,sV (ae (aD key)),i6 0,bV false])/\yW W w'):=λu1 W=>vJ u1 key (by omega) W
  have B6:yH (∀v,bI G (aG G t key).1 (aD key) 0=.ok v->aA v 0):=λv h=>(lk G _ _ 0 v O P Z A4 Q (by omega) h).1.ok
  have B3:yH (∀C,bI G (aG G t key).1 (aD key) 0=.error C->((C:Int) != 0)=true):=λC h=>by
   have:=Ag G _ _ _ _ h;simp;omega
  clear l i I T U O P Q A2 h0 E Z Y A4 B0;generalize ae (aD key)=KP at*;generalize bC G t key=X at*;generalize aM (aG G t key).1 (aD key)=F at*;cases hlp:bI G (aG G t key).1 (aD key) 0 with
  |error C=>
   have C5:=B3.o C hlp;rw[hlp] at f V;have B:yH (X=((aG G t key).1,false,C)):=f;clear hlp f;generalize (aG G t key).1=T1 at*;go_enter func34,ntmps34
   go_wp2_with fail
   apply N.m;rintro e w1⟨q,y,s,j,bl,rfl,o⟩;have L:yH (∀W,yW w1 W->yC 77 #[gV #[pV y,sV (ae s),i6 (j:Int),bV bl]] W λe w'=>e=rV (sV (ae F))/\yW W w'):=λW b=>tk (o (by first|trivial|rfl)) j bl W b
   have K:yH (gF w a g S T1 w1):=q;obtain⟨⟨S',m,A⟩,n⟩:=q;obtain⟨u1,d,D⟩:=m.at_;have A1:yH (∀W,yW w1 W->yC 78 #[pV (qA a),gV #[pV u1,sV KP,i6 0,bV false]] W λe w'=>e=rV (tV #[pV none,i6 (C:Int)])/\yW W w'):=λW b=>(V.o w1 S' u1 m A n d D W b).mono λe w' hq=>hq.1
   have A8:∀W,yW w1 W->yc W a 1 (pV u1)/\a<W.heap.size:=λW b=>⟨(b.cell (p:=⟨a,1,none⟩) d.lt).trans d.c1,Us d.lt b.size⟩
   have A0:yH (∀W,yW w1 W->yc W a 1 (pV u1)/\a<W.heap.size):=A8;clear o m A n d D A8;generalize ae F=FF at*;go_wp2_with fail
   refine(L.o _ ((Un _ _).alloc (Ug _) _)).mono ?_;rintro e w2⟨rfl,z⟩;have r:yH (yW w1 w2):=((Un w1.heap.size w1).alloc (Ug _) _).trans (z.mono (by simp));obtain⟨d1,B8⟩:=A0.o w2 r.o;clear z;go_wp2_with fail
   refine(A6.o _ _).mono ?_;rintro e w3⟨rfl,R⟩;have J:yH (yW w1 w3):=r.o.trans (R.mono r.o.size);clear R;go_wp2_with fail
   refine(A1.o _ J.o).mono ?_;rintro e w4⟨rfl,A7⟩;have B2:yH (yW w1 w4):=J.o.trans (A7.mono J.o.size);clear A7;go_wp2;go_ret2;rw[B.o];exact⟨rfl,K.o.below B2.o⟩
  |ok v=>
   have B5:yH (aA v 0):=B6.o v hlp;rw[hlp] at f V;have B:yH (X=(v,true,0)):=f;clear hlp f;generalize (aG G t key).1=T1 at*;go_enter func34,ntmps34
   go_wp2_with fail
   apply N.m;rintro e w1⟨q,y,s,j,bl,rfl,o⟩;have L:yH (∀W,yW w1 W->yC 77 #[gV #[pV y,sV (ae s),i6 (j:Int),bV bl]] W λe w'=>e=rV (sV (ae F))/\yW W w'):=λW b=>tk (o (by first|trivial|rfl)) j bl W b
   obtain⟨⟨S',m,A⟩,n⟩:=q;obtain⟨u1,d,D⟩:=m.at_;have A1:yH (∀W,yW w1 W->yC 78 #[pV (qA a),gV #[pV u1,sV KP,i6 0,bV false]] W λe w'=>∃u,e=rV (tV #[pV u,i6 0])/\(yc w' a 1 (pV u1)/\w'.frozen? ⟨a,1,none⟩=false/\a<w'.heap.size)/\yH (gF w a g S v (w'.setCell ⟨a,1,none⟩ (pV u)))):=λW b=>(V.o w1 S' u1 m A n d D W b).mono λe w' hq=>by
    obtain⟨⟨u,e1,e2,e3⟩,_⟩:=hq;have C3:w'.heap[a]? =w1.heap[a]? :=(e3.block a (Us d.lt b.size) λh=>(m.own a h).2.1 rfl).trans (b.block a d.lt);have A3:=d.kept C3;exact⟨u,e1,⟨A3.c1,A3.free 1,A3.lt⟩,Qj m A n b e2 e3 B5.o B9⟩
   have A0:yH (∀W,yW w1 W->yc W a 1 (pV u1)/\a<W.heap.size):=λW b=>⟨(b.cell (p:=⟨a,1,none⟩) d.lt).trans d.c1,Us d.lt b.size⟩
   clear o m A n d D;generalize ae F=FF at*;go_wp2_with fail
   refine(L.o _ ((Un _ _).alloc (Ug _) _)).mono ?_;rintro e w2⟨rfl,z⟩;have r:yH (yW w1 w2):=((Un w1.heap.size w1).alloc (Ug _) _).trans (z.mono (by simp));obtain⟨d1,B8⟩:=A0.o w2 r.o;clear z;go_wp2_with fail
   refine(A6.o _ _).mono ?_;rintro e w3⟨rfl,R⟩;have J:yH (yW w1 w3):=r.o.trans (R.mono r.o.size);clear R;go_wp2_with fail
   refine(A1.o _ J.o).mono ?_;rintro e w4⟨u4,rfl,⟨d4,f4,C6⟩,HF⟩;go_wp2;go_ret2;rw[B.o];exact⟨rfl,HF.o⟩
 have C4:(((aG G t key).2:Int) != 0)=true:=by simp;omega
 rw[Uj h0] at f;have B4:yH (bC G t key=((aG G t key).1,false,(aG G t key).2)):=f;clear l i I T U f O P Q A2 h0 Y;generalize bC G t key=X at*;generalize aM (aG G t key).1 (aD key)=F at*;generalize (aG G t key).1=T1 at*;generalize (aG G t key).2=E1 at*;go_enter func34,ntmps34
 go_wp2_with fail
 apply N.m;rintro e w1⟨q,y,s,j,bl,rfl,o⟩;have K:yH (gF w a g S T1 w1):=q;clear q o;go_wp2;go_ret2;rw[B4.o];exact⟨rfl,K.o.below ((Un _ _).alloc (Ug _) _)⟩
end Go.Proofs.YteaodagofkcgbaaGreatDoor
