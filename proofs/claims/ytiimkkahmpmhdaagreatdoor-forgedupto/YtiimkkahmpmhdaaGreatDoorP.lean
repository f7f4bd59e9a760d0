import Derived.Test.YtiimkkahmpmhdaaGreatDoorO
open Go.Proofs.Tryz
open Go.Proofs.Tryz renaming prog→yP
open Go.Value renaming string→sV,pointer→pV,int→iV,slice→lV,bool→bV,tuple→tV,agg→gV
open Go.Ending renaming returned→rV
namespace Go.Proofs.YtiimkkahmpmhdaaGreatDoor
open Go.RowKit
set_option maxRecDepth 100000
set_option maxHeartbeats 0
set_option linter.all false
theorem Ho(h v:yL)(ks:Nat->Nd)(c:Nat)(l:Nd)(M:Nat->Prop)(w m q g:World)(f b:Nat)(J u0 u1:Option Addr)(G:yB->Option yB)(S:Nat->Prop)(U:Nat->Option Addr)(d:Nat->Nat->Prop)(dep:Nat)
 (C:c<16) (L:eU w f J u0) (E:aw (.branch h v ks) dep) (o:Kids w ks (fun x=>S x/\x≠b) U d) (A1:aw l (dep+1)) (A4:(ks c).some) (hd:dep<=80) (R:jJ M w J G) (hs:∀k t,G k=some t->t.size<=maxLen) (K:∀x,M x->x<w.heap.size) (T:az w) (r:∀x,S x->3<=x/\x≠f/\¬M x/\x<w.heap.size)
 (B:yW w m) (Q:At q l (fun x=>d c x\/m.heap.size<=x) (pV u1)) (F:bG (d c) m q) (A3:l=.nil->yW m q) (s:yW q g) (A2:bR G (aD ks c l) v dep≠.ok .nil):
 Calls yP 114 #[pV (qA f),fP (fM U c u1),sV (str v),iV .i64 (dep:Int)] g fun e w'=>∃u A,e=rV (tV #[pV u,iV .i64 A])/\Hid (nC w S (bR G (aD ks c l) v dep) (rV (tV #[pV u,iV .i64 A])) w'):=by
 have O:=B.size;have A7:=F.size;have A8:=s.size;have I:∀x,x<w.heap.size->¬d c x->g.heap[x]? =w.heap[x]? :=fun x a H=>(s.block x (by omega)).trans ((F.block x (by omega) H).trans (B.block x a))
 have D:∀x,d c x->S x/\x≠b:=fun x a=>o.sub c x C a
 have A5:g.heap[f]? =w.heap[f]? :=I f L.lt fun a=>(r f (D f a).1).2.1 rfl
 have W:bG (d c) w g:=((bG.gj B).trans F fun x a=>.inl a).ki s;have V:Kids g (aD ks c l) (fun x=>S x\/w.heap.size<=x) (fM U c u1) (fm d c (fun x=>d c x\/m.heap.size<=x)):=by
  refine⟨fun i hi=>?_,fun i x hi a=>?_,fun i j x hi y h1 h2=>?_⟩
  ·by_cases e:i=c
   ·subst e;simp only[aD,fM,fm,RJ];exact Q.below s
   ·simp only[aD,fM,fm,e,Ry];exact(o.at_ i hi).kept fun x a hl=>I x hl fun z=>e (o.iH i c x hi C a z)
  ·by_cases e:i=c
   ·subst e;simp only[fm,RJ] at a;exact a.imp (fun h=>(D x h).1) (fun h=>Q7 O h)
   ·simp only[fm,e,Ry] at a;exact .inl (o.sub i x hi a).1
  ·have key:∀j,j<16->j≠c->d j x->(d c x\/m.heap.size<=x)->False:=fun j y A0 h1 h2=>by
    rcases h2 with h2|h2
    ·exact A0 (o.iH j c x y C h1 h2)
    ·have:=(r x (o.sub j x y h1).1).2.2.2;omega
   by_cases e1:i=c
   ·by_cases e2:j=c
    ·rw[e1,e2]
    ·simp only[fm,e1,RJ] at h1;simp only[fm,e2,Ry] at h2;exact(key j y e2 h2 h1).elim
   ·by_cases e2:j=c
    ·simp only[fm,e2,RJ] at h2;simp only[fm,e1,Ry] at h1;exact(key i hi e1 h1 h2).elim
    ·simp only[fm,e1,Ry] at h1;simp only[fm,e2,Ry] at h2;exact o.iH i j x hi y h1 h2
 have N:bG S w g:=W.mono fun x a=>(D x a).1
 refine(Bw M g f J u0 G (aD ks c l) (fun x=>S x\/w.heap.size<=x) (fM U c u1) _ v dep (L.kept A5) V (fun i hi=>?_) E.aJ.2.1 (fun P h Z a=>R P h Z fun x z=>(a x z).trans (I x (K x z) fun A6=>(r x (D x A6).1).2.2.1 z)) hs (fun x a=>by have:=K x a;omega) (by omega) (T.mK N fun x a=>(r x a).1) (fun x a=>?_)).mono fun e w' p=>?_
 ·by_cases e:i=c
  ·subst e;rw[df];exact A1
  ·rw[dJ _ _ _ _ e];exact di E i hi
 ·rcases a with a|a
  ·exact(r x a).1
  ·have:=T.size;omega
 ·obtain⟨u,A,Y⟩:=p.tuple;subst Y;refine⟨u,A,rfl,?_,fun H=>absurd H A2⟩;cases hX:bR G (aD ks c l) v dep with
  |error e=>
   rw[hX] at p;have X:=(B.trans ((A3 (Jw C E.full.1 A4 hX)).mono O)).trans (s.mono (by omega));exact⟨p.1,X.trans (p.2.mono (by omega))⟩
  |ok n=>
   rw[hX] at p;obtain⟨u',e1,e2,e3⟩:=p;exact⟨u',e1,e2.mono fun x a=>a.elim id fun h=>.inr (by omega),N.trans e3 fun x a=>a.imp id id⟩
theorem Hq(h v:yL)(ks:Nat->Nd)(c:UInt8)(r:yL)(ih:tD (ks c.toNat))(M:Nat->Prop)(w:World)(z:Nat)(st u0:Option Addr)(G:yB->Option yB)(S:Nat->Prop)(u:Option Addr)(dep:Nat)(bl:Bool)
 (hT:eU w z st u0) (hA:At w (.branch h v ks) S (pV u)) (hK:aw (.branch h v ks) dep) (hL:bD (.branch h v ks)) (ho:dw (ks c.toNat) r) (K:jo (ks c.toNat) r) (hn:ak (c::r)) (hd:dep+(r.length+1)<=80) (hG:jJ M w st G) (hs:∀k t,G k=some t->t.size<=maxLen) (hM:∀x,M x->x<w.heap.size) (T:az w) (hS:∀x,S x->3<=x/\x≠z/\¬M x/\x<w.heap.size)
 (B4:aV G (.branch h v ks) (c::r) dep≠.ok .nil):
 Calls yP 79 #[pV (qA z),gV #[pV u,sV (str (c::r)),iV .i64 (dep:Int),bV bl]] w (nC w S (aV G (.branch h v ks) (c::r) dep)):=by
 obtain⟨b,U,A,hu,D6,B,N⟩:=hA.kids;subst hu;have j:c.toNat<16:=hn c (QY ..);have B5:ak r:=fun y hy=>hn y (QZ _ hy)
 have B1:∀i,i<16->cR (ks i):=hL;have P:Hid (∀W,yW w W->Calls yP 113 #[gV #[pV (qA b),sV (str (c::r)),iV .i64 (dep:Int),bV bl]] W fun e w'=>e=rV (gV #[pV (U c.toNat),sV (str r),iV .i64 ((dep+1:Nat):Int),bV false])/\yW W w'):=fun W n=>
  u7 b h v ks _ _ c r j (U c.toNat) rfl (by omega) dep (by omega) bl W ((n.block b B.lt).trans B)
 have hR:aV G (.branch h v ks) (c::r) dep=lU (fun k=>bR G (aD ks c.toNat k) v dep) (aV G (ks c.toNat) r (dep+1)):=rfl;have L:Hid (∀W,yW w W->Calls yP 79 #[pV (qA z),gV #[pV (U c.toNat),sV (str r),iV .i64 ((dep+1:Nat):Int),bV false]] W (nC W (A c.toNat) (aV G (ks c.toNat) r (dep+1)))):=fun W n=>
  ih M W z st u0 G (A c.toNat) (U c.toNat) r (dep+1) false (hT.kept (n.block z hT.lt)) ((N.at_ c.toNat j).below n) (di hK _ j) (B1 _ j).loose ho K B5 (by omega) (fun W' h K D=>hG W' h K fun x D2=>(D x D2).trans (n.block x (hM x D2))) hs (fun x D=>Q6 (hM x D) n.size) (T.below n) (fun x D=>by
   obtain⟨a1,a2,a3,a4⟩:=hS x (N.sub _ x j D).1;exact⟨a1,a2,a3,Q6 a4 n.size⟩)
 have D1:(ks c.toNat).some:=by
  cases hkc:ks c.toNat with
  |nil=>rw[hkc] at K;exact K.elim
  | _=>trivial
 have A8:Hid (∀d a u1 g,aV G (ks c.toNat) r (dep+1)=.ok g->yW w d->At a g (fun x=>A c.toNat x\/d.heap.size<=x) (pV u1)->bG (A c.toNat) d a->(g=.nil->yW d a)->∀q,yW a q->Calls yP 114 #[pV (qA z),fP (fM U c.toNat u1),sV (str v),iV .i64 (dep:Int)] q fun e w'=>∃u f,e=rV (tV #[pV u,iV .i64 f])/\Hid (nC w S (bR G (aD ks c.toNat g) v dep) (rV (tV #[pV u,iV .i64 f])) w')):=fun d a u1 g hr D7 A0 s A2 q D8=>
  Ho h v ks c.toNat g M w d a q z b st u0 u1 G S U A dep j hT hK N (kD G (ks c.toNat) r (dep+1) g (di hK _ j) (B1 _ j).loose ho K B5 (by omega) hr).1.ok D1 (by omega) hG hs hM T hS D7 A0 s A2 D8 (by
   rw[hR,hr] at B4;exact B4)
 have A5:Hid (∀W a,yW w W->bG (A c.toNat) W a->a.heap[b]? =w.heap[b]?):=fun W a n s=>
  (s.block b (Q6 B.lt n.size) fun D=>(N.sub _ b j D).2 rfl).trans (n.block b B.lt)
 have B0:Hid (∀d a,w.heap.size<d.heap.size->bG (A c.toNat) d a->a.heap[w.heap.size]? =d.heap[w.heap.size]?):=fun d a hl s=>s.block _ hl fun D=>by
  have:=(hS _ (N.sub _ _ j D).1).2.2.2;omega
 have c0:w.cell? ⟨b,0,none⟩=some (iV .i64 3):=B.c0;have E6:=B.lt;have HB:=aa B;have B3:∀f,aV G (ks c.toNat) r (dep+1)=.error f->((f:Int) != 0)=true:=fun f h=>by
  have:=yz G _ _ _ _ h;simp;omega
 obtain⟨l,Q⟩:∃R,R=str (c::r):=⟨_,rfl⟩
 have E0:l.size=r.length+1:=by rw[Q,aH];rfl
 have hp:0<l.size:=by omega
 have h0:l[0]'hp=c:=by subst Q;rfl
 have D9:l.toList.isEmpty=false:=by rw[Q,jP];simp
 have E7:(0:Int)<(l.size:Int):=by omega
 have ha:=rh c j;have E2:(c.toNat:Int)<16:=by omega
 have A4:=aa j;rw[<-Q] at P⊢;rw[hR];clear hT hA hK hL ho K hn hd hG hs hM T hS D6 B N B5 B1 D1 Q E0 hR B4 ih;generalize str r=RR at*;obtain⟨H,X⟩:=yX (w.alloc (.cells #[pV (qA b),sV l,iV .i64 (dep:Int),bV bl] 127))
 have F:Hid (yW w H):=by show Below _ _ _;rw[X];exact(Q1 _ _).alloc (QU _) _
 have C3:Hid (H.heap.size=w.heap.size+1):=by show _=_;rw[X];simp
 have A6:Hid (H.heap[w.heap.size]? =some (.cells #[pV (qA b),sV l,iV .i64 (dep:Int),bV bl] 127 (0,0))):=by show _=_;rw[X];exact Rl w _
 have A9:=aa X;clear X;cases hX:aV G (ks c.toNat) r (dep+1) with
 |error f=>
  rw[hX] at L;have E3:=B3 f hX;clear A8 A5 B3 hX B0 A6 HB A4;go_enter func79,ntmps79
  go_wp2_with fail
  rw[<-A9.out];refine(P.out _ F.out).mono ?_;rintro e w1 ⟨rfl,I⟩;have E:=aa (F.out.trans (I.mono F.out.size));clear I P;go_wp2_with fail
  refine(L.out _ E.out).mono ?_;rintro e w2 ⟨⟨rfl,Z⟩,_⟩;have D4:=aa (E.out.trans (Z.mono E.out.size));clear Z L;go_wp2_with fail
  go_ret2
  exact⟨⟨rfl,D4.out⟩,fun h=>by cases h⟩
 |ok g=>
  rw[hX] at L;have B9:=fun d a u1=>A8.out d a u1 g hX
  have C0:=aa B9;clear A8 B9 B3 hX;show Calls _ _ _ _ (nC w S (bR G (aD ks c.toNat g) v dep));generalize bR G (aD ks c.toNat g) v dep=R at*;go_enter func79,ntmps79
  go_wp2_with fail
  rw[<-A9.out];refine(P.out _ F.out).mono ?_;rintro e w1 ⟨rfl,I⟩;have E:=aa (F.out.trans (I.mono F.out.size));have A7:Hid (w1.heap[w.heap.size]? =some (.cells #[pV (qA b),sV l,iV .i64 (dep:Int),bV bl] 127 (0,0))/\w.heap.size<w1.heap.size):=by
   have hl:w.heap.size<H.heap.size:=by have:=C3.out;omega
   exact⟨by rw[I.block _ hl];exact A6.out,Q6 hl I.size⟩
  clear I P A6 A9 C3 F;go_wp2_with fail
  refine(L.out _ E.out).mono ?_;rintro e w2 ⟨⟨u2,rfl,A0,s⟩,A2⟩;have Z:w2.heap[b]? =w.heap[b]? :=A5.out w1 w2 E.out s;have O:bL w2 b (.branch h v ks) cL (fun i=>pV (U i)):=Z.trans HB.out;obtain⟨k0,k1,k2,k3,k4,k5,k6,k7,k8,k9,k10,k11,k12,k13,k14,k15⟩:=O.all;have d0:w2.cell? ⟨b,0,none⟩=some (iV .i64 3):=O.c0;have d3:w2.cell? ⟨b,3,none⟩=some (sV (str v)):=O.c3;have C9:=O.lt;have A3:w2.heap[w.heap.size]? =some (.cells #[pV (qA b),sV l,iV .i64 (dep:Int),bV bl] 127 (0,0)):=(B0.out w1 w2 A7.out.2 s).trans A7.out.1;have e1:w2.cell? ⟨w.heap.size,1,none⟩=some (sV l):=by rw[Q5 w2 _ 1 _ _ _ A3];rfl
  have e2:w2.cell? ⟨w.heap.size,2,none⟩=some (iV .i64 (dep:Int)):=by rw[Q5 w2 _ 2 _ _ _ A3];rfl
  have B6:=(Q0.1 A3).1;have C1:Hid (∀q,yW w2 q->Calls yP 114 #[pV (qA z),fP (fM U c.toNat u2),sV (str v),iV .i64 (dep:Int)] q fun e w'=>∃u f,e=rV (tV #[pV u,iV .i64 f])/\Hid (nC w S R (rV (tV #[pV u,iV .i64 f])) w')):=C0.out w1 w2 u2 E.out A0 s (fun e=>A2 (by rw[e]));clear A0 s A2 Z O A3 C0 L A5 B0 A7 E HB c0;generalize str v=V at*;obtain⟨m,A1⟩:=yX (w2.alloc (.cells #[pV (U 0),pV (U 1),pV (U 2),pV (U 3),pV (U 4),pV (U 5),pV (U 6),pV (U 7),pV (U 8),pV (U 9),pV (U 10),pV (U 11),pV (U 12),pV (U 13),pV (U 14),pV (U 15)] 165))
  have Y:dF m w2.heap.size U:=by rw[A1];exact dF.made w2 U
  have J:yW w2 m:=by rw[A1];exact(Q1 _ _).alloc (QU _) _
  have a1:=(J.cell (p:=⟨w.heap.size,1,none⟩) B6).trans e1;have a2:=(J.cell (p:=⟨w.heap.size,2,none⟩) B6).trans e2;have a3:=(J.cell (p:=⟨b,3,none⟩) C9).trans d3;have ac:=Y.cell c.toNat A4.out;have af:=Y.free c.toNat;have D0:b<m.heap.size:=Q6 C9 J.size;have D3:w.heap.size<m.heap.size:=Q6 B6 J.size;have C6:w2.heap.size<m.heap.size:=Y.lt;have C7:b≠w2.heap.size:=by omega
  have C8:w.heap.size≠w2.heap.size:=by omega
  have B7:=aa Y;have B8:=aa J;have C2:=aa A1;clear Y J A1;go_upto_region 12 with fail
  rw[<-C2.out];clear C2 k0 k1 k2 k3 k4 k5 k6 k7 k8 k9 k10 k11 k12 k13 k14 k15 d0 d3 e1 e2;go_upto_region 13 with fail
  obtain⟨o,C⟩:=yX (m.setCell ⟨w2.heap.size,c.toNat,none⟩ (pV u2))
  have C4:dF o w2.heap.size (fM U c.toNat u2):=by rw[C];exact B7.out.set c.toNat u2 A4.out
  have C5:yW w2 o:=by rw[C];exact B8.out.setCell (QU _) _
  have b2:o.cell? ⟨w.heap.size,2,none⟩=some (iV .i64 (dep:Int)):=by rw[C];exact(Rd (Rc _ _ _ _ C8)).trans a2
  have b3:o.cell? ⟨b,3,none⟩=some (sV V):=by rw[C];exact(Rd (Rc _ _ _ _ C7)).trans a3
  have E5:b<o.heap.size:=by rw[C];simpa using D0
  have E8:w.heap.size<o.heap.size:=by rw[C];simpa using D3
  have E4:w2.heap.size<o.heap.size:=by rw[C];simpa using C6
  obtain⟨m0,m1,m2,m3,m4,m5,m6,m7,m8,m9,m10,m11,m12,m13,m14,m15⟩:=C4.all;have D5:=aa C5;generalize fM U c.toNat u2=U2 at*;unfold fP at C1;rw[<-C];clear C C4 C5 B7 B8 a1 a2 a3 ac af D0 D3 C6 C7 C8 D9 h0 ha;go_region_with (go_at_call 114;refine(C1.out _ D5.out.drew).mono ?_;rintro e3 w3 ⟨u3,E1,rfl,HF⟩)
  all_goals
   go_wp2_with fail
   go_ret2
   exact HF.out
theorem Ht(t):tD t:=by
 induction t with
 |nil=>intro M w d b u0 G S u r dep bl _ _ _ _ _ a;exact a.elim
 |unread _=>intro M w d b u0 G S u r dep bl _ _ _ _ _ a;exact a.elim
 |leaf h q v=>exact Hp h q v
 |ext h q k ih=>exact Hs h q k ih
 |branch h v ks ih=>
  intro M w d b u0 G S u r dep bl o i f l x a p g j y m T n;have s:aV G (.branch h v ks) r dep≠.ok .nil:=fun e=>(yy f l x a p g (.inr rfl) e)
  cases r with
  |nil=>exact(Hr h v ks M w d b u0 G S u dep bl o i f (by simpa using g) j y m T n).mono fun e w' z=>⟨z,fun h=>absurd h s⟩
  |cons c r=>exact Hq h v ks c r (ih _) M w d b u0 G S u dep bl o i f l x a p (by simpa using g) j y m T n s
end Go.Proofs.YtiimkkahmpmhdaaGreatDoor
