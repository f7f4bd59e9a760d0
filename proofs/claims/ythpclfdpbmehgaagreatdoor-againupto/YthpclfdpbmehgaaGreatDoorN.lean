import Derived.Test.YthpclfdpbmehgaaGreatDoorM
open Go.Proofs.Tryz
open Go.Proofs.Tryz renaming prog→yP
open Go.Value renaming string→sV,pointer→pV,int→iV,slice→lV,bool→bV,tuple→tV,agg→gV
open Go.Ending renaming returned→rV
namespace Go.Proofs.YthpclfdpbmehgaaGreatDoor
open Go.RowKit
set_option maxRecDepth 100000
set_option maxHeartbeats 0
set_option linter.all false
def Kx(h v:yL)(ks:Nat->Nd)(c:Nat)(k':Nd)(M:Nat->Prop)(w l p g:World)(f b:Nat)(I u0 u1:Option Addr)(G:yB->Option yB)(S:Nat->Prop)(U:Nat->Option Addr)(d:Nat->Nat->Prop)(dep:Nat)
 (B:c<16) (K:fF w f I u0) (D:aA (.branch h v ks) dep) (m:Kids w ks (fun x=>S x/\x≠b) U d) (A0:aA k' (dep+1)) (A3:(ks c).some) (hd:dep<=80) (Q:j5 M w I G) (hs:∀k t,G k=some t->t.size<=maxLen) (J:∀x,M x->x<w.heap.size) (T:aB w) (q:∀x,S x->3<=x/\x≠f/\¬M x/\x<w.heap.size)
 (A:yW w l) (P:At p k' (fun x=>d c x\/l.heap.size<=x) (pV u1)) (E:bO (d c) l p) (A2:k'=.nil->yW l p) (r:yW p g) (A1:cd G (aJ ks c k') v dep≠.ok .nil):
 yC 109 #[pV (qA f),gU (gx U c u1),sV (ae v),i6 (dep:Int)] g fun e w'=>∃u z,e=rV (tV #[pV u,i6 z])/\yH (oG w S (cd G (aJ ks c k') v dep) (rV (tV #[pV u,i6 z])) w'):=by
 have N:=A.size;have A6:=E.size;have A7:=r.size;have H:∀x,x<w.heap.size->¬d c x->g.heap[x]? =w.heap[x]? :=fun x a F=>(r.block x (by omega)).trans ((E.block x (by omega) F).trans (A.block x a))
 have C:∀x,d c x->S x/\x≠b:=fun x a=>m.sub c x B a
 have A4:g.heap[f]? =w.heap[f]? :=H f K.lt fun a=>(q f (C f a).1).2.1 rfl
 have V:bO (d c) w g:=((bO.iP A).trans E fun x a=>.inl a).kU r;have R:Kids g (aJ ks c k') (fun x=>S x\/w.heap.size<=x) (gx U c u1) (fQ d c (fun x=>d c x\/l.heap.size<=x)):=by
  refine⟨fun i hi=>?_,fun i x hi a=>?_,fun i j x hi s h1 h2=>?_⟩
  ·by_cases e:i=c
   ·subst e;simp only[aJ,gx,fQ,U5];exact P.below r
   ·simp only[aJ,gx,fQ,e,UT];exact(m.at_ i hi).kept fun x a hl=>H x hl fun y=>e (m.jf i c x hi B a y)
  ·by_cases e:i=c
   ·subst e;simp only[fQ,U5] at a;exact a.imp (fun h=>(C x h).1) (fun h=>Ut N h)
   ·simp only[fQ,e,UT] at a;exact .inl (m.sub i x hi a).1
  ·have key:∀j,j<16->j≠c->d j x->(d c x\/l.heap.size<=x)->False:=fun j s Z h1 h2=>by
    rcases h2 with h2|h2
    ·exact Z (m.jf j c x s B h1 h2)
    ·have:=(q x (m.sub j x s h1).1).2.2.2;omega
   by_cases e1:i=c
   ·by_cases e2:j=c
    ·rw[e1,e2]
    ·simp only[fQ,e1,U5] at h1;simp only[fQ,e2,UT] at h2;exact(key j s e2 h2 h1).elim
   ·by_cases e2:j=c
    ·simp only[fQ,e2,U5] at h2;simp only[fQ,e1,UT] at h1;exact(key i hi e1 h1 h2).elim
    ·simp only[fQ,e1,UT] at h1;simp only[fQ,e2,UT] at h2;exact m.jf i j x hi s h1 h2
 have L:bO S w g:=V.mono fun x a=>(C x a).1
 refine(DO M g f I u0 G (aJ ks c k') (fun x=>S x\/w.heap.size<=x) (gx U c u1) _ v dep (K.kept A4) R (fun i hi=>?_) D.aK.2.1 (fun O h Y a=>Q O h Y fun x y=>(a x y).trans (H x (J x y) fun A5=>(q x (C x A5).1).2.2.1 y)) hs (fun x a=>by have:=J x a;omega) (by omega) (T.nL L fun x a=>(q x a).1) (fun x a=>?_)).mono fun e w' o=>?_
 ·by_cases e:i=c
  ·subst e;rw[dK];exact A0
  ·rw[e9 _ _ _ _ e];exact dA D i hi
 ·rcases a with a|a
  ·exact(q x a).1
  ·have:=T.size;omega
 ·let⟨u,z,X⟩:=o.tuple;subst X;refine⟨u,z,rfl,?_,fun F=>absurd F A1⟩;cases hX:cd G (aJ ks c k') v dep with
  |error e=>
   rw[hX] at o;have W:=(A.trans ((A2 (Mn B D.full.1 A3 hX)).mono N)).trans (r.mono (by omega));exact⟨o.1,W.trans (o.2.mono (by omega))⟩
  |ok n=>
   rw[hX] at o;let⟨u',e1,e2,e3⟩:=o;exact⟨u',e1,e2.mono fun x a=>a.elim id fun h=>.inr (by omega),L.trans e3 fun x a=>a.imp id id⟩
def Kz(h v:yL)(ks:Nat->Nd)(c:UInt8)(r:yL)(ih:uU (ks c.toNat))(M:Nat->Prop)(w:World)(s:Nat)(st u0:Option Addr)(G:yB->Option yB)(S:Nat->Prop)(u:Option Addr)(dep:Nat)(bl:Bool)
 (hT:fF w s st u0) (hA:At w (.branch h v ks) S (pV u)) (Z:aA (.branch h v ks) dep) (hL:bK (.branch h v ks)) (ho:dD (ks c.toNat) r) (I:jL (ks c.toNat) r) (hn:aw (c::r)) (hd:dep+(r.length+1)<=80) (hG:j5 M w st G) (hs:∀k t,G k=some t->t.size<=maxLen) (hM:∀x,M x->x<w.heap.size) (T:aB w) (hS:∀x,S x->3<=x/\x≠s/\¬M x/\x<w.heap.size)
 (A5:bI G (.branch h v ks) (c::r) dep≠.ok .nil):
 yC 65 #[pV (qA s),gV #[pV u,sV (ae (c::r)),i6 (dep:Int),bV bl]] w (oG w S (bI G (.branch h v ks) (c::r) dep)):=by
 obtain⟨b,U,z,hu,D5,B,K⟩:=hA.kids;subst hu;have g:c.toNat<16:=hn c (Uk ..);have A6:aw r:=fun y hy=>hn y (Ul _ hy)
 have A3:∀i,i<16->cW (ks i):=hL;have HN:yH (∀W,yW w W->yC 72 #[gV #[pV (qA b),sV (ae (c::r)),i6 (dep:Int),bV bl]] W fun e w'=>e=rV (gV #[pV (U c.toNat),sV (ae r),i6 ((dep+1:Nat):Int),bV false])/\yW W w'):=fun W m=>
  wN b h v ks _ _ c r g (U c.toNat) rfl (by omega) dep (by omega) bl W ((m.block b B.lt).trans B)
 have hR:bI G (.branch h v ks) (c::r) dep=pU (fun k=>cd G (aJ ks c.toNat k) v dep) (bI G (ks c.toNat) r (dep+1)):=rfl;have X:yH (∀W,yW w W->yC 65 #[pV (qA s),gV #[pV (U c.toNat),sV (ae r),i6 ((dep+1:Nat):Int),bV false]] W (oG W (z c.toNat) (bI G (ks c.toNat) r (dep+1)))):=fun W m=>
  ih M W s st u0 G (z c.toNat) (U c.toNat) r (dep+1) false (hT.kept (m.block s hT.lt)) ((K.at_ c.toNat g).below m) (dA Z _ g) (A3 _ g).loose ho I A6 (by omega) (fun W' h I C=>hG W' h I fun x C2=>(C x C2).trans (m.block x (hM x C2))) hs (fun x C=>Us (hM x C) m.size) (T.below m) (fun x C=>by
   obtain⟨a1,a2,a3,a4⟩:=hS x (K.sub _ x g C).1;exact⟨a1,a2,a3,Us a4 m.size⟩)
 have C1:(ks c.toNat).some:=by
  cases hkc:ks c.toNat with
  |nil=>rw[hkc] at I;exact I.elim
  | _=>trivial
 have D1:yH (∀d a u1 k',bI G (ks c.toNat) r (dep+1)=.ok k'->yW w d->At a k' (fun x=>z c.toNat x\/d.heap.size<=x) (pV u1)->bO (z c.toNat) d a->(k'=.nil->yW d a)->∀o,yW a o->yC 109 #[pV (qA s),gU (gx U c.toNat u1),sV (ae v),i6 (dep:Int)] o fun e w'=>∃u f,e=rV (tV #[pV u,i6 f])/\yH (oG w S (cd G (aJ ks c.toNat k') v dep) (rV (tV #[pV u,i6 f])) w')):=fun d a u1 k' hr D6 Y q A1 o D7=>
  Kx h v ks c.toNat k' M w d a o s b st u0 u1 G S U z dep g hT Z K (lk G (ks c.toNat) r (dep+1) k' (dA Z _ g) (A3 _ g).loose ho I A6 (by omega) hr).1.ok C1 (by omega) hG hs hM T hS D6 Y q A1 D7 (by
   rw[hR,hr] at A5;exact A5)
 have C8:yH (∀W a,yW w W->bO (z c.toNat) W a->a.heap[b]? =w.heap[b]?):=fun W a m q=>
  (q.block b (Us B.lt m.size) fun C=>(K.sub _ b g C).2 rfl).trans (m.block b B.lt)
 have D3:yH (∀d a,w.heap.size<d.heap.size->bO (z c.toNat) d a->a.heap[w.heap.size]? =d.heap[w.heap.size]?):=fun d a hl q=>q.block _ hl fun C=>by
  have:=(hS _ (K.sub _ _ g C).1).2.2.2;omega
 have c0:w.cell? ⟨b,0,none⟩=some (i6 3):=B.c0;have E5:=B.lt;have HB:=aa B;have A4:∀f,bI G (ks c.toNat) r (dep+1)=.error f->((f:Int) != 0)=true:=fun f h=>by
  have:=Ag G _ _ _ _ h;simp;omega
 obtain⟨j,N⟩:∃R,R=ae (c::r):=⟨_,rfl⟩
 have D9:j.size=r.length+1:=by rw[N,aN];rfl
 have hp:0<j.size:=by omega
 have h0:j[0]'hp=c:=by subst N;rfl
 have D8:j.toList.isEmpty=false:=by rw[N,ke];simp
 have E6:(0:Int)<(j.size:Int):=by omega
 have ha:=sD c g;have E1:(c.toNat:Int)<16:=by omega
 have A8:=aa g;rw[<-N] at HN⊢;rw[hR];clear hT hA Z hL ho I hn hd hG hs hM T hS D5 B K A6 A3 C1 N D9 hR A5 ih;generalize ae r=RR at*;obtain⟨E,O⟩:=yX (w.alloc (.cells #[pV (qA b),sV j,i6 (dep:Int),bV bl] 83))
 have J:yH (yW w E):=by show Below _ _ _;rw[O];exact(Un _ _).alloc (Ug _) _
 have D4:yH (E.heap.size=w.heap.size+1):=by show _=_;rw[O];simp
 have C9:yH (E.heap[w.heap.size]? =some (.cells #[pV (qA b),sV j,i6 (dep:Int),bV bl] 83 (0,0))):=by show _=_;rw[O];exact UG w _
 have B3:=aa O;clear O;cases hX:bI G (ks c.toNat) r (dep+1) with
 |error f=>
  rw[hX] at X;have E2:=A4 f hX;clear A4 hX;go_enter func65,ntmps65
  go_wp2_with fail
  rw[<-B3.o];refine(HN.o _ J.o).mono ?_;rintro e w1 ⟨rfl,F⟩;have D:=aa (J.o.trans (F.mono J.o.size));clear F;go_wp2_with fail
  refine(X.o _ D.o).mono ?_;rintro e w2 ⟨⟨rfl,Q⟩,_⟩;have C5:=aa (D.o.trans (Q.mono D.o.size));clear Q;go_wp2
  go_ret2
  exact⟨⟨rfl,C5.o⟩,fun h=>by cases h⟩
 |ok k'=>
  rw[hX] at X;have B0:=fun d a u1=>D1.o d a u1 k' hX
  have D0:=aa B0;clear B0 A4 hX;show Calls _ _ _ _ (oG w S (cd G (aJ ks c.toNat k') v dep));generalize cd G (aJ ks c.toNat k') v dep=R at*;go_enter func65,ntmps65
  go_wp2_with fail
  rw[<-B3.o];refine(HN.o _ J.o).mono ?_;rintro e w1 ⟨rfl,F⟩;have D:=aa (J.o.trans (F.mono J.o.size));have A9:yH (w1.heap[w.heap.size]? =some (.cells #[pV (qA b),sV j,i6 (dep:Int),bV bl] 83 (0,0))/\w.heap.size<w1.heap.size):=by
   have hl:w.heap.size<E.heap.size:=by have:=D4.o;omega
   exact⟨by rw[F.block _ hl];exact C9.o,Us hl F.size⟩
  clear F;go_wp2_with fail
  refine(X.o _ D.o).mono ?_;rintro e w2 ⟨⟨u2,rfl,Y,q⟩,A1⟩;have Q:w2.heap[b]? =w.heap[b]? :=C8.o w1 w2 D.o q;have L:bU w2 b (.branch h v ks) cN (fun i=>pV (U i)):=Q.trans HB.o;obtain⟨k0,k1,k2,k3,k4,k5,k6,k7,k8,k9,k10,k11,k12,k13,k14,k15⟩:=L.all;have d0:w2.cell? ⟨b,0,none⟩=some (i6 3):=L.c0;have d3:w2.cell? ⟨b,3,none⟩=some (sV (ae v)):=L.c3;have B9:=L.lt;have A2:w2.heap[w.heap.size]? =some (.cells #[pV (qA b),sV j,i6 (dep:Int),bV bl] 83 (0,0)):=(D3.o w1 w2 A9.o.2 q).trans A9.o.1;have e1:w2.cell? ⟨w.heap.size,1,none⟩=some (sV j):=by rw[Ur w2 _ 1 _ _ _ A2];rfl
  have e2:w2.cell? ⟨w.heap.size,2,none⟩=some (i6 (dep:Int)):=by rw[Ur w2 _ 2 _ _ _ A2];rfl
  have A7:=(Um.1 A2).1;have B1:yH (∀o,yW w2 o->yC 109 #[pV (qA s),gU (gx U c.toNat u2),sV (ae v),i6 (dep:Int)] o fun e w'=>∃u f,e=rV (tV #[pV u,i6 f])/\yH (oG w S R (rV (tV #[pV u,i6 f])) w')):=D0.o w1 w2 u2 D.o Y q (fun e=>A1 (by rw[e]));clear Y q A1 Q L A2 c0;generalize ae v=V at*;obtain⟨l,A0⟩:=yX (w2.alloc (.cells #[pV (U 0),pV (U 1),pV (U 2),pV (U 3),pV (U 4),pV (U 5),pV (U 6),pV (U 7),pV (U 8),pV (U 9),pV (U 10),pV (U 11),pV (U 12),pV (U 13),pV (U 14),pV (U 15)] 131))
  have P:eZ l w2.heap.size U:=by rw[A0];exact eZ.made w2 U
  have H:yW w2 l:=by rw[A0];exact(Un _ _).alloc (Ug _) _
  have a1:=(H.cell (p:=⟨w.heap.size,1,none⟩) A7).trans e1;have a2:=(H.cell (p:=⟨w.heap.size,2,none⟩) A7).trans e2;have a3:=(H.cell (p:=⟨b,3,none⟩) B9).trans d3;have ac:=P.cell c.toNat A8.o;have af:=P.free c.toNat;have C0:b<l.heap.size:=Us B9 H.size;have C3:w.heap.size<l.heap.size:=Us A7 H.size;have B6:w2.heap.size<l.heap.size:=P.lt;have B7:b≠w2.heap.size:=by omega
  have B8:w.heap.size≠w2.heap.size:=by omega
  have C4:=aa P;have C6:=aa H;have D2:=aa A0;clear P H A0;go_upto_region 12 with fail
  rw[<-D2.o];clear k0 k1 k2 k3 k4 k5 k6 k7 k8 k9 k10 k11 k12 k13 k14 k15 d0 d3 e1 e2;go_upto_region 13 with fail
  obtain⟨n,A⟩:=yX (l.setCell ⟨w2.heap.size,c.toNat,none⟩ (pV u2))
  have B4:eZ n w2.heap.size (gx U c.toNat u2):=by rw[A];exact C4.o.set c.toNat u2 A8.o
  have B5:yW w2 n:=by rw[A];exact C6.o.setCell (Ug _) _
  have b2:n.cell? ⟨w.heap.size,2,none⟩=some (i6 (dep:Int)):=by rw[A];exact(Uz (Uy _ _ _ _ B8)).trans a2
  have b3:n.cell? ⟨b,3,none⟩=some (sV V):=by rw[A];exact(Uz (Uy _ _ _ _ B7)).trans a3
  have E4:b<n.heap.size:=by rw[A];simpa using C0
  have E7:w.heap.size<n.heap.size:=by rw[A];simpa using C3
  have E3:w2.heap.size<n.heap.size:=by rw[A];simpa using B6
  obtain⟨m0,m1,m2,m3,m4,m5,m6,m7,m8,m9,m10,m11,m12,m13,m14,m15⟩:=B4.all;have C7:=aa B5;generalize gx U c.toNat u2=U2 at*;unfold gU at B1;rw[<-A];clear A B4 B5 a1 a2 a3 ac af C0 C3 B6 B7 B8 D8 h0 ha;go_region_with (go_at_call 109;refine(B1.o _ C7.o.drew).mono ?_;rintro e3 w3 ⟨u3,E0,rfl,HF⟩)
  all_goals
   go_wp2
   go_ret2
   exact HF.o
def KC(t):uU t:=by
 induction t with
 |nil=>intro M w d b u0 G S u r dep bl _ _ _ _ _ a;exact a.elim
 |unread _=>intro M w d b u0 G S u r dep bl _ _ _ _ _ a;exact a.elim
 |leaf h q v=>exact Ky h q v
 |ext h q k ih=>exact KB h q k ih
 |branch h v ks ih=>
  intro M w d b u0 G S u r dep bl o i f l x a p g j hs m T n;have s:bI G (.branch h v ks) r dep≠.ok .nil:=fun e=>(uo f l x a p g (.inr rfl) e)
  cases r with
  |nil=>exact(KA h v ks M w d b u0 G S u dep bl o i f (by simpa using g) j hs m T n).mono fun e w' y=>⟨y,fun h=>absurd h s⟩
  |cons c r=>exact Kz h v ks c r (ih _) M w d b u0 G S u dep bl o i f l x a p (by simpa using g) j hs m T n s
end Go.Proofs.YthpclfdpbmehgaaGreatDoor
