import Derived.Test.YtiimkkahmpmhdaaGreatDoorH
open Go.Proofs.Tryz
open Go.Proofs.Tryz renaming prog→yP
open Go.Value renaming string→sV,pointer→pV,int→iV,slice→lV,bool→bV,tuple→tV,agg→gV
open Go.Ending renaming returned→rV
namespace Go.Proofs.YtiimkkahmpmhdaaGreatDoor
open Go.RowKit
set_option maxRecDepth 100000
set_option maxHeartbeats 0
set_option linter.all false
theorem split_x(w)(t:Nd)(path v:yL)(s:Nat)(S u)(r:t.kind=1\/t.kind=2)(C:ak path)(l:path.length<=80)(I:v.length<=160)(hF:aI t)(hA:At w t S (pV u))(T:az w)
 (D1:s<t.path.length/\s<path.length\/s<t.path.length/\s=path.length\/s=t.path.length/\s<path.length) (F:ak t.path) (B8:t.path.length<=80):
 Calls yP 137 #[pV u,sV (str path),sV (str v),iV .i64 (s:Int)] w (Made w S (eM t path v s)):=by
 obtain⟨b,D7,D8,hu,hs,B⟩:=hA.ah (by cases t<;>first|trivial| (rcases r with h|h<;>cases h));cases hu
 have c2:=B.c2;have c3:=B.c3;have C6:=B.lt;have D2:(str t.path).size<=80:=by rw[aH];exact B8
 have D3:(str path).size<=80:=by rw[aH];exact l
 have D4:s<=(str path).size:=by rw[aH];omega
 have D6:s<=80:=by omega
 have r1:IntKind.i64.wrap ((s:Int)+1)=(s:Int)+1:=by rw[RE];omega
 have r2:((s:Int)+1).toNat=s+1:=by omega
 have r3:(0:Int)<=(s:Int)+1:=by omega
 have r4:¬((s:Int)+1<0):=by omega
 have D5:(s:Int)<=((str path).size:Int):=by omega
 have A4:=vO (s:=s) r C l I hF F B8;have A5:=uq (path:=path) (s:=s) I hF;have HB:Hid (∀W u Ss,Kids W (cM t path v s) (fun x=>(S x\/w.heap.size<=x)/\x≠w.heap.size) u Ss->yW w W->Calls yP 138 #[fP u,sV (str (dy t path v s))] W (Made w S (cP (cM t path v s) (dy t path v s)))):=fun W u Ss hK c=>
  (qE W _ _ _ u Ss hK ⟨.inl rfl,A5,fun i hi=>(A4 i).jS⟩ (oG _ _ _ A5 fun i _=>A4 i) (T.below c)).mono fun e w' h=>by
   obtain⟨u1,h1,h2,h3⟩:=h;exact⟨u1,h1,h2.mono fun x d=>d.elim (fun h=>h.1) (fun h=>.inr (Q7 c.size h)),c.trans (h3.mono c.size)⟩
 have HJ:Hid (∀W u,At W (cP (cM t path v s) (dy t path v s)) (fun x=>S x\/w.heap.size<=x) (pV u)->yW w W->Calls yP 115 #[sV ((str path).extract 0 s),pV u] W (Made w S (eM t path v s))):=fun W u hK c=>by
  rw[xr];refine(qO W (path.take s) (cP (cM t path v s) (dy t path v s)) _ u (uY C s) (by show(path.take s).length+0<=80;rw[Rs];omega) trivial (oC A5 fun i _=>A4 i) hK (T.below c)).mono fun e w' h=>?_
  obtain⟨u1,h1,h2,h3⟩:=h;exact⟨u1,h1,h2.mono fun x d=>d.elim id (fun h=>.inr (Q7 c.size h)),c.trans (h3.mono c.size)⟩
 obtain⟨a,A3⟩:=yX (w.alloc (.cells #[pV none,pV none,pV none,pV none,pV none,pV none,pV none,pV none,pV none,pV none,pV none,pV none,pV none,pV none,pV none,pV none] 165))
 have B6:dF a w.heap.size (fun _=>none):=by rw[A3];exact dF.made w (fun _=>none)
 have B7:yW w a:=by rw[A3];exact(Q1 _ _).alloc (QU _) _
 have B9:a.heap.size=w.heap.size+1:=by rw[A3];simp
 have A:=aa B9;have D:=aa B6;have m:=aa B7;have A8:=aa A3;rcases D1 with⟨H,G⟩|⟨H,G⟩|⟨H,G⟩
 ·have hP:s<(str t.path).size:=by rw[aH];exact H
  have C4:(s:Int)<((str t.path).size:Int):=by omega
  have C7:s+1<=(str t.path).size:=by omega
  have C8:(s:Int)+1<=((str t.path).size:Int):=by omega
  have a1:=um t.path s hP;have b1:=rh _ (jU F s);have l1:=jU F s;have HT:Hid (∀W,yW w W->Calls yP 150 #[pV (qA b),sV ((str t.path).extract (s+1) (str t.path).size)] W (Made W (fun x=>S x/\x<w.heap.size) (fU t (t.path.drop (s+1))))):=fun W c=>by
   rw[p9];exact Ba W t _ _ _ r (cS F _) (by rw[Q8];omega) hF (hA.cut.below c) (T.below c)
  have hQ:s<(str path).size:=by rw[aH];exact G
  have C5:(s:Int)<((str path).size:Int):=by omega
  have C9:s+1<=(str path).size:=by omega
  have D0:(s:Int)+1<=((str path).size:Int):=by omega
  have a2:=um path s hQ;have b2:=rh _ (jU C s);have l2:=jU C s;have HL:Hid (∀W,yW w W->Calls yP 133 #[sV ((str path).extract (s+1) (str path).size),sV (str v)] W (Made W (fun _=>False) (da (path.drop (s+1)) v))):=fun W c=>by
   rw[p9];have B5:(path.drop (s+1)).length<=80:=by rw[Q8];omega
   exact pe W _ _ ⟨.inl rfl,cS C _,B5,I⟩ (nt _ _ _ B5 I) (T.below c)
  have N:Hid (dy t path v s=[]):=by show _=_;unfold dy;rw[QX G,QX H]
  have O:Hid (dG t s=aD (fun _=>.nil) (t.path.getD s 0).toNat (fU t (t.path.drop (s+1)))):=by show _=_;unfold dG;rw[QX H]
  have P:Hid (cM t path v s=aD (dG t s) (path.getD s 0).toNat (da (path.drop (s+1)) v)):=by show _=_;unfold cM;rw[QX G]
  clear B A4 A5 hF hA T r C F I B6 B7 B9 A3;generalize eM t path v s=R at*;generalize cP (cM t path v s) (dy t path v s)=RB at*;generalize hq0:t.path.getD s 0=q0 at*;generalize hp0:path.getD s 0=p0 at*;go_enter func137,ntmps137
  have d2:=(m.out.cell (p:=⟨b,2,none⟩) C6).trans c2;go_upto_region 4 with fail
  rw[<-A8.out];go_cut [] (fun k=>∃x1,dF k w.heap.size (fM (fun _=>none) q0.toNat x1)/\At k (fU t (t.path.drop (s+1))) (fun x=>(S x\/w.heap.size<=x)/\x≠w.heap.size) (pV x1)/\yW w k)
  case first=>
   go_region_with (go_at_call 150;refine(HT.out _ (by first|exact m.out|exact m.out.drew)).mono ?_;rintro e1 w1 ⟨x1,rfl,A9,o⟩;have ca:w1.cell? ⟨w.heap.size,q0.toNat,none⟩=some (pV none):=(o.cell (p:=⟨w.heap.size,q0.toNat,none⟩) (show w.heap.size<a.heap.size by rw[A.out];omega)).trans (D.out.cell _ l1);have fa:w1.frozen? ⟨w.heap.size,q0.toNat,none⟩=false:=(o.frozen (p:=⟨w.heap.size,q0.toNat,none⟩) (show w.heap.size<a.heap.size by rw[A.out];omega)).trans (D.out.free _);have cb:w1.cell? ⟨b,2,none⟩=some (sV (str t.path)):=(o.cell (p:=⟨b,2,none⟩) (show b<a.heap.size by rw[A.out];omega)).trans d2;have C0:Hid (At w1 (fU t (t.path.drop (s+1))) (fun x=>(S x\/w.heap.size<=x)/\x≠w.heap.size) (pV x1)/\dF w1 w.heap.size (fun _=>none)/\yW w w1):=⟨A9.mono (fun x d=>d.elim (fun h=>⟨.inl h.1,by omega⟩) (fun h=>by have h2:a.heap.size<=x:=h;rw[A.out] at h2;exact⟨.inr (by omega),by omega⟩)),D.out.kept (o.block _ (show w.heap.size<a.heap.size by rw[A.out];omega)),m.out.drew.trans (o.mono m.out.size)⟩;clear A9 o)
   all_goals
    go_wp2_with fail
    go_meet
    obtain⟨g1,g2,g3⟩:=C0.out;exact⟨x1,g2.set q0.toNat x1 l1,g1.kept (fun x d _=>Rc _ _ _ _ d.2),g3.setCell (QU _) _⟩
  case rest=>
   obtain⟨x1,n,B1,B2⟩:=hcut;have A2:=(Kids.put (Kids.none wc (fun x=>(S x\/w.heap.size<=x)/\x≠w.heap.size)) (fun _ _ _=>rfl) q0.toNat _ x1 _ B1 (fun y J=>⟨J,fun _ _ _ h=>h⟩)).cut;rw[<-O.out] at A2;have K:Hid (∃f g,dF wc w.heap.size f/\Kids wc (dG t s) (fun x=>(S x\/w.heap.size<=x)/\x≠w.heap.size) f g/\∀i y,g i y->y<wc.heap.size):=⟨_,_,n,A2,fun i y J=>J.2⟩
   have z:=aa B2;have hz:=n.lt;clear n B1 B2 A2 D m A8 A d2;obtain⟨f,g,n,B3,B4⟩:=K.out;have A0:=aa n;have A1:=aa B3;have C2:=aa B4;clear n B3 B4 K;go_upto_region 7 with fail
   go_cut [] (fun k=>∃j E,dF k w.heap.size j/\Kids k (cM t path v s) (fun x=>(S x\/w.heap.size<=x)/\x≠w.heap.size) j E/\yW w k)
   case first=>
    go_region_with (go_at_call 133;refine(HL.out _ (by first|exact z.out|exact z.out.drew)).mono ?_;rintro e1 w1 ⟨x2,rfl,B0,q⟩;have ca:w1.cell? ⟨w.heap.size,p0.toNat,none⟩=some (pV (f p0.toNat)):=(q.cell (p:=⟨w.heap.size,p0.toNat,none⟩) hz).trans (A0.out.cell _ l2);have fa:w1.frozen? ⟨w.heap.size,p0.toNat,none⟩=false:=(q.frozen (p:=⟨w.heap.size,p0.toNat,none⟩) hz).trans (A0.out.free _);have C1:Hid (At w1 (da (path.drop (s+1)) v) (fun x=>wc.heap.size<=x) (pV x2)/\dF w1 w.heap.size f/\Kids w1 (dG t s) (fun x=>(S x\/w.heap.size<=x)/\x≠w.heap.size) f g/\yW w w1):=⟨B0.mono (fun x d=>d.elim (fun h=>h.elim) id),A0.out.kept (q.block _ hz),⟨fun i hi=>(A1.out.at_ i hi).kept (fun x d l=>q.block x l),A1.out.sub,A1.out.iH⟩,z.out.drew.trans (q.mono z.out.size)⟩;clear B0 q)
    all_goals
     go_wp2_with fail
     go_meet
     obtain⟨g1,g2,g3,g4⟩:=C1.out;refine⟨fM f p0.toNat x2,fm g p0.toNat (fun x=>wc.heap.size<=x),g2.set p0.toNat x2 l2,?_,g4.setCell (QU _) _⟩;rw[P.out];exact g3.put (fun x d _=>Rc _ _ _ _ d.2) p0.toNat _ x2 _ (g1.kept fun x d _=>Rc _ _ _ _ (show x≠w.heap.size by omega)) (fun y J=>⟨⟨.inr (by omega),by omega⟩,fun i _ _ h=>by have:=C2.out i y h;omega⟩)
   case rest=>
    obtain⟨j,E,V,Z,Y⟩:=hcut;obtain⟨k0,k1,k2,k3,k4,k5,k6,k7,k8,k9,k10,k11,k12,k13,k14,k15⟩:=V.all;have L:Hid (∀W,yW w W->(∀x,x<wc.heap.size->W.heap[x]? =wc.heap[x]?)->Calls yP 138 #[fP j,sV (⟨#[]⟩)] W (Made w S RB)):=fun W c r=>by
     have:=HB.out W j E (Z.kept fun x _ l=>r x l) c;rw[N.out] at this;exact this
    have A6:=aa Y;unfold fP at L;clear V Z Y HB O P N;go_wp2_with fail
    go_region_with (first| (go_at_call 138;refine(L.out wc.drew A6.out.drew (fun x _=>rfl)).mono ?_;rintro e1 w1 ⟨ub,rfl,Q,X⟩;have M:Hid (At w1 RB (fun x=>S x\/w.heap.size<=x) (pV ub)/\yW w w1):=⟨Q,X⟩;clear Q X) | (go_at_call 115;refine(HJ.out _ _ M.out.1 M.out.2).mono ?_;rintro e2 w2 ⟨uj,rfl,U⟩;have A7:Hid _:=U;clear U))
    all_goals
     go_wp2_with fail
     go_ret
     exact⟨uj,rfl,A7.out⟩
 ·have hP:s<(str t.path).size:=by rw[aH];exact H
  have C4:(s:Int)<((str t.path).size:Int):=by omega
  have C7:s+1<=(str t.path).size:=by omega
  have C8:(s:Int)+1<=((str t.path).size:Int):=by omega
  have a1:=um t.path s hP;have b1:=rh _ (jU F s);have l1:=jU F s;have HT:Hid (∀W,yW w W->Calls yP 150 #[pV (qA b),sV ((str t.path).extract (s+1) (str t.path).size)] W (Made W (fun x=>S x/\x<w.heap.size) (fU t (t.path.drop (s+1))))):=fun W c=>by
   rw[p9];exact Ba W t _ _ _ r (cS F _) (by rw[Q8];omega) hF (hA.cut.below c) (T.below c)
  have C5:¬(s:Int)<((str path).size:Int):=by rw[aH];omega
  have N:Hid (dy t path v s=v):=by show _=_;unfold dy;rw[QW (by omega)]
  have O:Hid (dG t s=aD (fun _=>.nil) (t.path.getD s 0).toNat (fU t (t.path.drop (s+1)))):=by show _=_;unfold dG;rw[QX H]
  have P:Hid (cM t path v s=dG t s):=by show _=_;unfold cM;rw[QW (by omega)]
  clear B A4 A5 hF hA T r C F I B6 B7 B9 A3 H G l B8;generalize eM t path v s=R at*;generalize cP (cM t path v s) (dy t path v s)=RB at*;generalize hq0:t.path.getD s 0=q0 at*;go_enter func137,ntmps137
  have d2:=(m.out.cell (p:=⟨b,2,none⟩) C6).trans c2;go_upto_region 4 with fail
  rw[<-A8.out];go_cut [] (fun k=>∃x1,dF k w.heap.size (fM (fun _=>none) q0.toNat x1)/\At k (fU t (t.path.drop (s+1))) (fun x=>(S x\/w.heap.size<=x)/\x≠w.heap.size) (pV x1)/\yW w k)
  case first=>
   go_region_with (go_at_call 150;refine(HT.out _ (by first|exact m.out|exact m.out.drew)).mono ?_;rintro e1 w1 ⟨x1,rfl,A9,o⟩;have ca:w1.cell? ⟨w.heap.size,q0.toNat,none⟩=some (pV none):=(o.cell (p:=⟨w.heap.size,q0.toNat,none⟩) (show w.heap.size<a.heap.size by rw[A.out];omega)).trans (D.out.cell _ l1);have fa:w1.frozen? ⟨w.heap.size,q0.toNat,none⟩=false:=(o.frozen (p:=⟨w.heap.size,q0.toNat,none⟩) (show w.heap.size<a.heap.size by rw[A.out];omega)).trans (D.out.free _);have cb:w1.cell? ⟨b,2,none⟩=some (sV (str t.path)):=(o.cell (p:=⟨b,2,none⟩) (show b<a.heap.size by rw[A.out];omega)).trans d2;have C0:Hid (At w1 (fU t (t.path.drop (s+1))) (fun x=>(S x\/w.heap.size<=x)/\x≠w.heap.size) (pV x1)/\dF w1 w.heap.size (fun _=>none)/\yW w w1):=⟨A9.mono (fun x d=>d.elim (fun h=>⟨.inl h.1,by omega⟩) (fun h=>by have h2:a.heap.size<=x:=h;rw[A.out] at h2;exact⟨.inr (by omega),by omega⟩)),D.out.kept (o.block _ (show w.heap.size<a.heap.size by rw[A.out];omega)),m.out.drew.trans (o.mono m.out.size)⟩;clear A9 o)
   all_goals
    go_wp2_with fail
    go_meet
    obtain⟨g1,g2,g3⟩:=C0.out;exact⟨x1,g2.set q0.toNat x1 l1,g1.kept (fun x d _=>Rc _ _ _ _ d.2),g3.setCell (QU _) _⟩
  case rest=>
   obtain⟨x1,n,B1,B2⟩:=hcut;have A2:=(Kids.put (Kids.none wc (fun x=>(S x\/w.heap.size<=x)/\x≠w.heap.size)) (fun _ _ _=>rfl) q0.toNat _ x1 _ B1 (fun y J=>⟨J,fun _ _ _ h=>h⟩)).cut;rw[<-O.out] at A2;have K:Hid (∃f g,dF wc w.heap.size f/\Kids wc (dG t s) (fun x=>(S x\/w.heap.size<=x)/\x≠w.heap.size) f g/\∀i y,g i y->y<wc.heap.size):=⟨_,_,n,A2,fun i y J=>J.2⟩
   have z:=aa B2;have hz:=n.lt;clear n B1 B2 A2 D m A8 A d2;obtain⟨j,E,V,C3,_⟩:=K.out;have Z:Kids wc (cM t path v s) (fun x=>(S x\/w.heap.size<=x)/\x≠w.heap.size) j E:=by rw[P.out];exact C3
   have Y:=z.out;clear C3 K z;obtain⟨k0,k1,k2,k3,k4,k5,k6,k7,k8,k9,k10,k11,k12,k13,k14,k15⟩:=V.all;have L:Hid (∀W,yW w W->(∀x,x<wc.heap.size->W.heap[x]? =wc.heap[x]?)->Calls yP 138 #[fP j,sV (str v)] W (Made w S RB)):=fun W c r=>by
    have:=HB.out W j E (Z.kept fun x _ l=>r x l) c;rw[N.out] at this;exact this
   have A6:=aa Y;unfold fP at L;clear V Z Y HB O P N;go_wp2_with fail
   go_region_with (first| (go_at_call 138;refine(L.out wc.drew A6.out.drew (fun x _=>rfl)).mono ?_;rintro e1 w1 ⟨ub,rfl,Q,X⟩;have M:Hid (At w1 RB (fun x=>S x\/w.heap.size<=x) (pV ub)/\yW w w1):=⟨Q,X⟩;clear Q X) | (go_at_call 115;refine(HJ.out _ _ M.out.1 M.out.2).mono ?_;rintro e2 w2 ⟨uj,rfl,U⟩;have A7:Hid _:=U;clear U))
   all_goals
    go_wp2_with fail
    go_ret
    exact⟨uj,rfl,A7.out⟩
 ·have C4:¬(s:Int)<((str t.path).size:Int):=by rw[aH];omega
  have hQ:s<(str path).size:=by rw[aH];exact G
  have C5:(s:Int)<((str path).size:Int):=by omega
  have C9:s+1<=(str path).size:=by omega
  have D0:(s:Int)+1<=((str path).size:Int):=by omega
  have a2:=um path s hQ;have b2:=rh _ (jU C s);have l2:=jU C s;have HL:Hid (∀W,yW w W->Calls yP 133 #[sV ((str path).extract (s+1) (str path).size),sV (str v)] W (Made W (fun _=>False) (da (path.drop (s+1)) v))):=fun W c=>by
   rw[p9];have B5:(path.drop (s+1)).length<=80:=by rw[Q8];omega
   exact pe W _ _ ⟨.inl rfl,cS C _,B5,I⟩ (nt _ _ _ B5 I) (T.below c)
  have N:Hid (dy t path v s=t.value):=by show _=_;unfold dy;rw[QX G,QW (by omega)]
  have O:Hid (dG t s=fun _=>.nil):=by show _=_;unfold dG;rw[QW (by omega)]
  have P:Hid (cM t path v s=aD (dG t s) (path.getD s 0).toNat (da (path.drop (s+1)) v)):=by show _=_;unfold cM;rw[QX G]
  clear B A4 A5 hF hA T r C F I B6 B7 B9 A3 H G l B8;generalize eM t path v s=R at*;generalize cP (cM t path v s) (dy t path v s)=RB at*;generalize hp0:path.getD s 0=p0 at*;go_enter func137,ntmps137
  have K:Hid (∃f g,dF a w.heap.size f/\Kids a (dG t s) (fun x=>(S x\/w.heap.size<=x)/\x≠w.heap.size) f g/\∀i y,g i y->y<a.heap.size):=⟨_,fun _ _=>False,D.out,by rw[O.out];exact Kids.none _ _,fun _ _ h=>False.elim h⟩
  have z:=aa m.out;have hz:=D.out.lt;obtain⟨f,g,n,B3,B4⟩:=K.out;have A0:=aa n;have A1:=aa B3;have C2:=aa B4;clear n B3 B4 K;go_upto_region 7 with fail
  rw[<-A8.out];go_cut [] (fun k=>∃j E,dF k w.heap.size j/\Kids k (cM t path v s) (fun x=>(S x\/w.heap.size<=x)/\x≠w.heap.size) j E/\yW w k)
  case first=>
   go_region_with (go_at_call 133;refine(HL.out _ (by first|exact z.out|exact z.out.drew)).mono ?_;rintro e1 w1 ⟨x2,rfl,B0,q⟩;have ca:w1.cell? ⟨w.heap.size,p0.toNat,none⟩=some (pV (f p0.toNat)):=(q.cell (p:=⟨w.heap.size,p0.toNat,none⟩) hz).trans (A0.out.cell _ l2);have fa:w1.frozen? ⟨w.heap.size,p0.toNat,none⟩=false:=(q.frozen (p:=⟨w.heap.size,p0.toNat,none⟩) hz).trans (A0.out.free _);have C1:Hid (At w1 (da (path.drop (s+1)) v) (fun x=>a.heap.size<=x) (pV x2)/\dF w1 w.heap.size f/\Kids w1 (dG t s) (fun x=>(S x\/w.heap.size<=x)/\x≠w.heap.size) f g/\yW w w1):=⟨B0.mono (fun x d=>d.elim (fun h=>h.elim) id),A0.out.kept (q.block _ hz),⟨fun i hi=>(A1.out.at_ i hi).kept (fun x d l=>q.block x l),A1.out.sub,A1.out.iH⟩,z.out.drew.trans (q.mono z.out.size)⟩;clear B0 q)
   all_goals
    go_wp2_with fail
    go_meet
    obtain⟨g1,g2,g3,g4⟩:=C1.out;refine⟨fM f p0.toNat x2,fm g p0.toNat (fun x=>a.heap.size<=x),g2.set p0.toNat x2 l2,?_,g4.setCell (QU _) _⟩;rw[P.out];exact g3.put (fun x d _=>Rc _ _ _ _ d.2) p0.toNat _ x2 _ (g1.kept fun x d _=>Rc _ _ _ _ (show x≠w.heap.size by omega)) (fun y J=>⟨⟨.inr (by omega),by omega⟩,fun i _ _ h=>by have:=C2.out i y h;omega⟩)
  case rest=>
   obtain⟨j,E,V,Z,Y⟩:=hcut;obtain⟨k0,k1,k2,k3,k4,k5,k6,k7,k8,k9,k10,k11,k12,k13,k14,k15⟩:=V.all;have L:Hid (∀W,yW w W->(∀x,x<wc.heap.size->W.heap[x]? =wc.heap[x]?)->Calls yP 138 #[fP j,sV (str t.value)] W (Made w S RB)):=fun W c r=>by
    have:=HB.out W j E (Z.kept fun x _ l=>r x l) c;rw[N.out] at this;exact this
   have A6:=aa Y;unfold fP at L;clear V Z Y HB O P N;go_wp2_with fail
   go_region_with (first| (go_at_call 138;refine(L.out wc.drew A6.out.drew (fun x _=>rfl)).mono ?_;rintro e1 w1 ⟨ub,rfl,Q,X⟩;have M:Hid (At w1 RB (fun x=>S x\/w.heap.size<=x) (pV ub)/\yW w w1):=⟨Q,X⟩;clear Q X) | (go_at_call 115;refine(HJ.out _ _ M.out.1 M.out.2).mono ?_;rintro e2 w2 ⟨uj,rfl,U⟩;have A7:Hid _:=U;clear U))
   all_goals
    go_wp2_with fail
    go_ret
    exact⟨uj,rfl,A7.out⟩
end Go.Proofs.YtiimkkahmpmhdaaGreatDoor
