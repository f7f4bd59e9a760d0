import Derived.Test.YteaodagofkcgbaaGreatDoorL
open Go.Proofs.Tryz
open Go.Proofs.Tryz renaming prog→yP
open Go.Value renaming string→sV,pointer→pV,int→iV,slice→lV,bool→bV,tuple→tV,agg→gV
open Go.Ending renaming returned→rV
namespace Go.Proofs.YteaodagofkcgbaaGreatDoor
open Go.RowKit
set_option maxRecDepth 100000
set_option maxHeartbeats 0
set_option linter.all false
def Md(w)(t:Nd)(path v:yL)(s:Nat)(S u)(q:t.kind=1\/t.kind=2)(A:aw path)(l:path.length<=80)(H:v.length<=160)(Z:aO t)(hA:At w t S (pV u))(T:aB w)(D2:s<t.path.length/\s<path.length\/s<t.path.length/\s=path.length\/s=t.path.length/\s<path.length) (E:aw t.path) (B8:t.path.length<=80):yC 136 #[pV u,sV (ae path),sV (ae v),i6 (s:Int)] w (Made w S (gi t path v s)):=by
 obtain⟨b,D8,D9,hu,hs,B⟩:=hA.ai (by cases t<;>first|trivial| (rcases q with h|h<;>cases h));cases hu;have c2:=B.c2;have c3:=B.c3;have C7:=B.lt;have D3:(ae t.path).size<=80:=by rw[aN];exact B8
 have D4:(ae path).size<=80:=by rw[aN];exact l
 have D5:s<=(ae path).size:=by rw[aN];omega
 have D7:s<=80:=by omega
 have r1:IntKind.i64.wrap ((s:Int)+1)=(s:Int)+1:=by rw[UY];omega
 have r2:((s:Int)+1).toNat=s+1:=by omega
 have r3:(0:Int)<=(s:Int)+1:=by omega
 have r4:¬((s:Int)+1<0):=by omega
 have D6:(s:Int)<=((ae path).size:Int):=by omega
 have A2:=IE (s:=s) q A l H Z E B8;have A3:=DA (path:=path) (s:=s) H Z;have HB:yH (∀W u Ss,Kids W (dF t path v s) (λx=>(S x\/w.heap.size<=x)/\x≠w.heap.size) u Ss->yW w W->yC 137 #[gU u,sV (ae (fy t path v s))] W (Made w S (dN (dF t path v s) (fy t path v s)))):=λW u Ss hK c=>
  (wO W _ _ _ u Ss hK ⟨.inl rfl,A3,λi hi=>(A2 i).lL⟩ (sq _ _ _ A3 λi _=>A2 i) (T.below c)).mono λe w' h=>by
   obtain⟨u1,h1,h2,h3⟩:=h;exact⟨u1,h1,h2.mono λx d=>d.elim (λh=>h.1) (λh=>.inr (Ut c.size h)),c.trans (h3.mono c.size)⟩
 have HJ:yH (∀W u,At W (dN (dF t path v s) (fy t path v s)) (λx=>S x\/w.heap.size<=x) (pV u)->yW w W->yC 114 #[sV ((ae path).extract 0 s),pV u] W (Made w S (gi t path v s))):=λW u hK c=>by
  rw[LY];refine(xj W (path.take s) (dN (dF t path v s) (fy t path v s)) _ u (Fx A s) (by show(path.take s).length+0<=80;rw[UN];omega) trivial (r6 A3 λi _=>A2 i) hK (T.below c)).mono λe w' h=>?_
  obtain⟨u1,h1,h2,h3⟩:=h;exact⟨u1,h1,h2.mono λx d=>d.elim id (λh=>.inr (Ut c.size h)),c.trans (h3.mono c.size)⟩
 obtain⟨a,A1⟩:=yX (w.alloc (.cells #[pV none,pV none,pV none,pV none,pV none,pV none,pV none,pV none,pV none,pV none,pV none,pV none,pV none,pV none,pV none,pV none] 165));have B6:eZ a w.heap.size (λ_=>none):=by rw[A1];exact eZ.made w (λ_=>none)
 have B7:yW w a:=by rw[A1];exact(Un _ _).alloc (Ug _) _
 have B9:a.heap.size=w.heap.size+1:=by rw[A1];simp
 have C:=aa B9;have J:=aa B6;have r:=aa B7;have C3:=aa A1;rcases D2 with⟨G,F⟩|⟨G,F⟩|⟨G,F⟩
 .have hP:s<(ae t.path).size:=by rw[aN];exact G
  have C5:(s:Int)<((ae t.path).size:Int):=by omega
  have C8:s+1<=(ae t.path).size:=by omega
  have C9:(s:Int)+1<=((ae t.path).size:Int):=by omega
  have a1:=vI t.path s hP;have b1:=sD _ (kB E s);have l1:=kB E s;have HT:yH (∀W,yW w W->yC 149 #[pV (qA b),sV ((ae t.path).extract (s+1) (ae t.path).size)] W (Made W (λx=>S x/\x<w.heap.size) (gJ t (t.path.drop (s+1))))):=λW c=>by
   rw[rf];exact Dj W t _ _ _ q (da E _) (by rw[Uu];omega) Z (hA.cut.below c) (T.below c)
  have hQ:s<(ae path).size:=by rw[aN];exact F
  have C6:(s:Int)<((ae path).size:Int):=by omega
  have D0:s+1<=(ae path).size:=by omega
  have D1:(s:Int)+1<=((ae path).size:Int):=by omega
  have a2:=vI path s hQ;have b2:=sD _ (kB A s);have l2:=kB A s;have HL:yH (∀W,yW w W->yC 132 #[sV ((ae path).extract (s+1) (ae path).size),sV (ae v)] W (Made W (λ_=>False) (dw (path.drop (s+1)) v))):=λW c=>by
   rw[rf];have B5:(path.drop (s+1)).length<=80:=by rw[Uu];omega
   exact qh W _ _ ⟨.inl rfl,da A _,B5,H⟩ (ov _ _ _ B5 H) (T.below c)
  have HO:yH (fy t path v s=[]):=by show _=_;unfold fy;rw[Uj F,Uj G]
  have A7:yH (dX t s=aJ (λ_=>.nil) (t.path.getD s 0).toNat (gJ t (t.path.drop (s+1)))):=by show _=_;unfold dX;rw[Uj G]
  have A8:yH (dF t path v s=aJ (dX t s) (path.getD s 0).toNat (dw (path.drop (s+1)) v)):=by show _=_;unfold dF;rw[Uj F]
  clear B A2 A3 Z hA T q A E H B6 B7 B9 A1;generalize gi t path v s=R at*;generalize dN (dF t path v s) (fy t path v s)=RB at*;generalize hq0:t.path.getD s 0=q0 at*;generalize hp0:path.getD s 0=p0 at*;go_enter func136,ntmps136
  have d2:=(r.o.cell (p:=⟨b,2,none⟩) C7).trans c2;go_upto_region 4 with fail
  rw[<-C3.o];go_cut [] (λk=>∃x1,eZ k w.heap.size (gx (λ_=>none) q0.toNat x1)/\At k (gJ t (t.path.drop (s+1))) (λx=>(S x\/w.heap.size<=x)/\x≠w.heap.size) (pV x1)/\yW w k)
  .go_region_with (go_at_call 149;refine(HT.o _ (by first|exact r.o|exact r.o.drew)).mono ?_;rintro e1 w1⟨x1,rfl,A9,n⟩;have ca:yc w1 w.heap.size q0.toNat (pV none):=(n.cell (p:=⟨w.heap.size,q0.toNat,none⟩) (show w.heap.size<a.heap.size by rw[C.o];omega)).trans (J.o.cell _ l1);have fa:w1.frozen? ⟨w.heap.size,q0.toNat,none⟩=false:=(n.frozen (p:=⟨w.heap.size,q0.toNat,none⟩) (show w.heap.size<a.heap.size by rw[C.o];omega)).trans (J.o.free _);have cb:yc w1 b 2 (sV (ae t.path)):=(n.cell (p:=⟨b,2,none⟩) (show b<a.heap.size by rw[C.o];omega)).trans d2;have C0:yH (At w1 (gJ t (t.path.drop (s+1))) (λx=>(S x\/w.heap.size<=x)/\x≠w.heap.size) (pV x1)/\eZ w1 w.heap.size (λ_=>none)/\yW w w1):=⟨A9.mono (λx d=>d.elim (λh=>⟨.inl h.1,by omega⟩) (λh=>by have h2:a.heap.size<=x:=h;rw[C.o] at h2;exact⟨.inr (by omega),by omega⟩)),J.o.kept (n.block _ (show w.heap.size<a.heap.size by rw[C.o];omega)),r.o.drew.trans (n.mono r.o.size)⟩;clear A9 n)
   all_goals
    go_wp2;go_meet;obtain⟨g1,g2,g3⟩:=C0.o;exact⟨x1,g2.set q0.toNat x1 l1,g1.kept (λx d _=>Uy _ _ _ _ d.2),g3.setCell (Ug _) _⟩
  obtain⟨x1,m,B1,B2⟩:=hcut;have A0:=(Kids.put (Kids.none wc (λx=>(S x\/w.heap.size<=x)/\x≠w.heap.size)) (λ_ _ _=>rfl) q0.toNat _ x1 _ B1 (λy I=>⟨I,λ_ _ _ h=>h⟩)).cut;rw[<-A7.o] at A0;have A4:yH (∃f g,eZ wc w.heap.size f/\Kids wc (dX t s) (λx=>(S x\/w.heap.size<=x)/\x≠w.heap.size) f g/\∀i y,g i y->y<wc.heap.size):=⟨_,_,m,A0,λi y I=>I.2⟩
  have z:=aa B2;have V:=m.lt;clear m B1 B2 A0 d2;obtain⟨f,g,m,B3,B4⟩:=A4.o;have X:=aa m;have Y:=aa B3;have C2:=aa B4;clear m B3 B4;go_upto_region 7 with fail
  go_cut [] (λk=>∃j D,eZ k w.heap.size j/\Kids k (dF t path v s) (λx=>(S x\/w.heap.size<=x)/\x≠w.heap.size) j D/\yW w k)
  .go_region_with (go_at_call 132;refine(HL.o _ (by first|exact z.o|exact z.o.drew)).mono ?_;rintro e1 w1⟨x2,rfl,B0,o⟩;have ca:yc w1 w.heap.size p0.toNat (pV (f p0.toNat)):=(o.cell (p:=⟨w.heap.size,p0.toNat,none⟩) V).trans (X.o.cell _ l2);have fa:w1.frozen? ⟨w.heap.size,p0.toNat,none⟩=false:=(o.frozen (p:=⟨w.heap.size,p0.toNat,none⟩) V).trans (X.o.free _);have C1:yH (At w1 (dw (path.drop (s+1)) v) (λx=>wc.heap.size<=x) (pV x2)/\eZ w1 w.heap.size f/\Kids w1 (dX t s) (λx=>(S x\/w.heap.size<=x)/\x≠w.heap.size) f g/\yW w w1):=⟨B0.mono (λx d=>d.elim (λh=>h.elim) id),X.o.kept (o.block _ V),⟨λi hi=>(Y.o.at_ i hi).kept (λx d l=>o.block x l),Y.o.sub,Y.o.jf⟩,z.o.drew.trans (o.mono z.o.size)⟩;clear B0 o)
   all_goals
    go_wp2;go_meet;obtain⟨g1,g2,g3,g4⟩:=C1.o;refine⟨gx f p0.toNat x2,fQ g p0.toNat (λx=>wc.heap.size<=x),g2.set p0.toNat x2 l2,?_,g4.setCell (Ug _) _⟩;rw[A8.o];exact g3.put (λx d _=>Uy _ _ _ _ d.2) p0.toNat _ x2 _ (g1.kept λx d _=>Uy _ _ _ _ (show x≠w.heap.size by omega)) (λy I=>⟨⟨.inr (by omega),by omega⟩,λi _ _ h=>by have:=C2.o i y h;omega⟩)
  obtain⟨j,D,O,U,Q⟩:=hcut;obtain⟨k0,k1,k2,k3,k4,k5,k6,k7,k8,k9,k10,k11,k12,k13,k14,k15⟩:=O.all;have K:yH (∀W,yW w W->(∀x,x<wc.heap.size->W.heap[x]? =wc.heap[x]?)->yC 137 #[gU j,sV (⟨#[]⟩)] W (Made w S RB)):=λW c q=>by
   have:=HB.o W j D (U.kept λx _ l=>q x l) c;rw[HO.o] at this;exact this
  have A5:=aa Q;unfold gU at K;clear O U Q;go_wp2_with fail
  go_region_with (first| (go_at_call 137;refine(K.o wc.drew A5.o.drew (λx _=>rfl)).mono ?_;rintro e1 w1⟨ub,rfl,M,P⟩;have L:yH (At w1 RB (λx=>S x\/w.heap.size<=x) (pV ub)/\yW w w1):=⟨M,P⟩;clear M P) | (go_at_call 114;refine(HJ.o _ _ L.o.1 L.o.2).mono ?_;rintro e2 w2⟨uj,rfl,N⟩;have A6:yH _:=N;clear N))
  all_goals
   go_wp2;go_ret;exact⟨uj,rfl,A6.o⟩
 .have hP:s<(ae t.path).size:=by rw[aN];exact G
  have C5:(s:Int)<((ae t.path).size:Int):=by omega
  have C8:s+1<=(ae t.path).size:=by omega
  have C9:(s:Int)+1<=((ae t.path).size:Int):=by omega
  have a1:=vI t.path s hP;have b1:=sD _ (kB E s);have l1:=kB E s;have HT:yH (∀W,yW w W->yC 149 #[pV (qA b),sV ((ae t.path).extract (s+1) (ae t.path).size)] W (Made W (λx=>S x/\x<w.heap.size) (gJ t (t.path.drop (s+1))))):=λW c=>by
   rw[rf];exact Dj W t _ _ _ q (da E _) (by rw[Uu];omega) Z (hA.cut.below c) (T.below c)
  have C6:¬(s:Int)<((ae path).size:Int):=by rw[aN];omega
  have HO:yH (fy t path v s=v):=by show _=_;unfold fy;rw[Ui (by omega)]
  have A7:yH (dX t s=aJ (λ_=>.nil) (t.path.getD s 0).toNat (gJ t (t.path.drop (s+1)))):=by show _=_;unfold dX;rw[Uj G]
  have A8:yH (dF t path v s=dX t s):=by show _=_;unfold dF;rw[Ui (by omega)]
  clear B A2 A3 Z hA T q A E H B6 B7 B9 A1 G F l B8;generalize gi t path v s=R at*;generalize dN (dF t path v s) (fy t path v s)=RB at*;generalize hq0:t.path.getD s 0=q0 at*;go_enter func136,ntmps136
  have d2:=(r.o.cell (p:=⟨b,2,none⟩) C7).trans c2;go_upto_region 4 with fail
  rw[<-C3.o];go_cut [] (λk=>∃x1,eZ k w.heap.size (gx (λ_=>none) q0.toNat x1)/\At k (gJ t (t.path.drop (s+1))) (λx=>(S x\/w.heap.size<=x)/\x≠w.heap.size) (pV x1)/\yW w k)
  .go_region_with (go_at_call 149;refine(HT.o _ (by first|exact r.o|exact r.o.drew)).mono ?_;rintro e1 w1⟨x1,rfl,A9,n⟩;have ca:yc w1 w.heap.size q0.toNat (pV none):=(n.cell (p:=⟨w.heap.size,q0.toNat,none⟩) (show w.heap.size<a.heap.size by rw[C.o];omega)).trans (J.o.cell _ l1);have fa:w1.frozen? ⟨w.heap.size,q0.toNat,none⟩=false:=(n.frozen (p:=⟨w.heap.size,q0.toNat,none⟩) (show w.heap.size<a.heap.size by rw[C.o];omega)).trans (J.o.free _);have cb:yc w1 b 2 (sV (ae t.path)):=(n.cell (p:=⟨b,2,none⟩) (show b<a.heap.size by rw[C.o];omega)).trans d2;have C0:yH (At w1 (gJ t (t.path.drop (s+1))) (λx=>(S x\/w.heap.size<=x)/\x≠w.heap.size) (pV x1)/\eZ w1 w.heap.size (λ_=>none)/\yW w w1):=⟨A9.mono (λx d=>d.elim (λh=>⟨.inl h.1,by omega⟩) (λh=>by have h2:a.heap.size<=x:=h;rw[C.o] at h2;exact⟨.inr (by omega),by omega⟩)),J.o.kept (n.block _ (show w.heap.size<a.heap.size by rw[C.o];omega)),r.o.drew.trans (n.mono r.o.size)⟩;clear A9 n)
   all_goals
    go_wp2;go_meet;obtain⟨g1,g2,g3⟩:=C0.o;exact⟨x1,g2.set q0.toNat x1 l1,g1.kept (λx d _=>Uy _ _ _ _ d.2),g3.setCell (Ug _) _⟩
  obtain⟨x1,m,B1,B2⟩:=hcut;have A0:=(Kids.put (Kids.none wc (λx=>(S x\/w.heap.size<=x)/\x≠w.heap.size)) (λ_ _ _=>rfl) q0.toNat _ x1 _ B1 (λy I=>⟨I,λ_ _ _ h=>h⟩)).cut;rw[<-A7.o] at A0;have A4:yH (∃f g,eZ wc w.heap.size f/\Kids wc (dX t s) (λx=>(S x\/w.heap.size<=x)/\x≠w.heap.size) f g/\∀i y,g i y->y<wc.heap.size):=⟨_,_,m,A0,λi y I=>I.2⟩
  have z:=aa B2;have V:=m.lt;clear m B1 B2 A0 d2;obtain⟨j,D,O,C4,_⟩:=A4.o;have U:Kids wc (dF t path v s) (λx=>(S x\/w.heap.size<=x)/\x≠w.heap.size) j D:=by rw[A8.o];exact C4
  have Q:=z.o;clear C4;obtain⟨k0,k1,k2,k3,k4,k5,k6,k7,k8,k9,k10,k11,k12,k13,k14,k15⟩:=O.all;have K:yH (∀W,yW w W->(∀x,x<wc.heap.size->W.heap[x]? =wc.heap[x]?)->yC 137 #[gU j,sV (ae v)] W (Made w S RB)):=λW c q=>by
   have:=HB.o W j D (U.kept λx _ l=>q x l) c;rw[HO.o] at this;exact this
  have A5:=aa Q;unfold gU at K;clear O U Q;go_wp2_with fail
  go_region_with (first| (go_at_call 137;refine(K.o wc.drew A5.o.drew (λx _=>rfl)).mono ?_;rintro e1 w1⟨ub,rfl,M,P⟩;have L:yH (At w1 RB (λx=>S x\/w.heap.size<=x) (pV ub)/\yW w w1):=⟨M,P⟩;clear M P) | (go_at_call 114;refine(HJ.o _ _ L.o.1 L.o.2).mono ?_;rintro e2 w2⟨uj,rfl,N⟩;have A6:yH _:=N;clear N))
  all_goals
   go_wp2;go_ret;exact⟨uj,rfl,A6.o⟩
 have C5:¬(s:Int)<((ae t.path).size:Int):=by rw[aN];omega
 have hQ:s<(ae path).size:=by rw[aN];exact F
 have C6:(s:Int)<((ae path).size:Int):=by omega
 have D0:s+1<=(ae path).size:=by omega
 have D1:(s:Int)+1<=((ae path).size:Int):=by omega
 have a2:=vI path s hQ;have b2:=sD _ (kB A s);have l2:=kB A s;have HL:yH (∀W,yW w W->yC 132 #[sV ((ae path).extract (s+1) (ae path).size),sV (ae v)] W (Made W (λ_=>False) (dw (path.drop (s+1)) v))):=λW c=>by
  rw[rf];have B5:(path.drop (s+1)).length<=80:=by rw[Uu];omega
  exact qh W _ _ ⟨.inl rfl,da A _,B5,H⟩ (ov _ _ _ B5 H) (T.below c)
 have HO:yH (fy t path v s=t.value):=by show _=_;unfold fy;rw[Uj F,Ui (by omega)]
 have A7:yH (dX t s=λ_=>.nil):=by show _=_;unfold dX;rw[Ui (by omega)]
 have A8:yH (dF t path v s=aJ (dX t s) (path.getD s 0).toNat (dw (path.drop (s+1)) v)):=by show _=_;unfold dF;rw[Uj F]
 clear B A2 A3 Z hA T q A E H B6 B7 B9 A1 G F l B8;generalize gi t path v s=R at*;generalize dN (dF t path v s) (fy t path v s)=RB at*;generalize hp0:path.getD s 0=p0 at*;go_enter func136,ntmps136
 have A4:yH (∃f g,eZ a w.heap.size f/\Kids a (dX t s) (λx=>(S x\/w.heap.size<=x)/\x≠w.heap.size) f g/\∀i y,g i y->y<a.heap.size):=⟨_,λ_ _=>False,J.o,by rw[A7.o];exact Kids.none _ _,λ_ _ h=>False.elim h⟩
 have z:=aa r.o;have V:=J.o.lt;obtain⟨f,g,m,B3,B4⟩:=A4.o;have X:=aa m;have Y:=aa B3;have C2:=aa B4;clear m B3 B4;go_upto_region 7 with fail
 rw[<-C3.o];go_cut [] (λk=>∃j D,eZ k w.heap.size j/\Kids k (dF t path v s) (λx=>(S x\/w.heap.size<=x)/\x≠w.heap.size) j D/\yW w k)
 .go_region_with (go_at_call 132;refine(HL.o _ (by first|exact z.o|exact z.o.drew)).mono ?_;rintro e1 w1⟨x2,rfl,B0,o⟩;have ca:yc w1 w.heap.size p0.toNat (pV (f p0.toNat)):=(o.cell (p:=⟨w.heap.size,p0.toNat,none⟩) V).trans (X.o.cell _ l2);have fa:w1.frozen? ⟨w.heap.size,p0.toNat,none⟩=false:=(o.frozen (p:=⟨w.heap.size,p0.toNat,none⟩) V).trans (X.o.free _);have C1:yH (At w1 (dw (path.drop (s+1)) v) (λx=>a.heap.size<=x) (pV x2)/\eZ w1 w.heap.size f/\Kids w1 (dX t s) (λx=>(S x\/w.heap.size<=x)/\x≠w.heap.size) f g/\yW w w1):=⟨B0.mono (λx d=>d.elim (λh=>h.elim) id),X.o.kept (o.block _ V),⟨λi hi=>(Y.o.at_ i hi).kept (λx d l=>o.block x l),Y.o.sub,Y.o.jf⟩,z.o.drew.trans (o.mono z.o.size)⟩;clear B0 o)
  all_goals
   go_wp2;go_meet;obtain⟨g1,g2,g3,g4⟩:=C1.o;refine⟨gx f p0.toNat x2,fQ g p0.toNat (λx=>a.heap.size<=x),g2.set p0.toNat x2 l2,?_,g4.setCell (Ug _) _⟩;rw[A8.o];exact g3.put (λx d _=>Uy _ _ _ _ d.2) p0.toNat _ x2 _ (g1.kept λx d _=>Uy _ _ _ _ (show x≠w.heap.size by omega)) (λy I=>⟨⟨.inr (by omega),by omega⟩,λi _ _ h=>by have:=C2.o i y h;omega⟩)
 obtain⟨j,D,O,U,Q⟩:=hcut;obtain⟨k0,k1,k2,k3,k4,k5,k6,k7,k8,k9,k10,k11,k12,k13,k14,k15⟩:=O.all;have K:yH (∀W,yW w W->(∀x,x<wc.heap.size->W.heap[x]? =wc.heap[x]?)->yC 137 #[gU j,sV (ae t.value)] W (Made w S RB)):=λW c q=>by
  have:=HB.o W j D (U.kept λx _ l=>q x l) c;rw[HO.o] at this;exact this
 have A5:=aa Q;unfold gU at K;clear O U Q;go_wp2_with fail
 go_region_with (first| (go_at_call 137;refine(K.o wc.drew A5.o.drew (λx _=>rfl)).mono ?_;rintro e1 w1⟨ub,rfl,M,P⟩;have L:yH (At w1 RB (λx=>S x\/w.heap.size<=x) (pV ub)/\yW w w1):=⟨M,P⟩;clear M P) | (go_at_call 114;refine(HJ.o _ _ L.o.1 L.o.2).mono ?_;rintro e2 w2⟨uj,rfl,N⟩;have A6:yH _:=N;clear N))
 all_goals
  go_wp2;go_ret;exact⟨uj,rfl,A6.o⟩
end Go.Proofs.YteaodagofkcgbaaGreatDoor
