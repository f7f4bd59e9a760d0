import Derived.Test.YtiimkkahmpmhdaaGreatDoorN
open Go.Proofs.Tryz
open Go.Proofs.Tryz renaming prog→yP
open Go.Value renaming string→sV,pointer→pV,int→iV,slice→lV,bool→bV,tuple→tV,agg→gV
open Go.Ending renaming returned→rV
namespace Go.Proofs.YtiimkkahmpmhdaaGreatDoor
open Go.RowKit
set_option maxRecDepth 100000
set_option maxHeartbeats 0
set_option linter.all false
def qB:Option yL->Value
 |none=>tV #[sV ⟨#[]⟩,iV .i64 12]
 |some v=>tV #[sV (str v),iV .i64 0]
theorem fD.at_{w a n cap c}(h:fD w (lV a n cap) c)(i:Nat)(p)(b:c[i]? =some p):∃g o,a=some ⟨g,o,none⟩/\w.cell? ⟨g,o+i,none⟩=some (sV p):=by
 obtain⟨d,e,h1,h2⟩:=h;injection h1 with e1 e2 e3;subst e1;rcases h2 with h2|⟨g,o,h3,h4⟩
 ·rw[h2] at b;cases b
 ·exact⟨g,o,h3,h4 i p b⟩
theorem Ou(w u t S r)(a:Option Addr)(cap:Nat)(f:List yB)(hA:At w t S (pV u))(hK:aw t 0)(hn:ak r)(hd:r.length<=80)(T:az w)(hS:∀x,S x->3<=x)
 (hP:∀W,bG S w W->fD W (lV a f.length cap) f) (hs:∀p∈f,p.size<=maxLen) (G3:f.length<=96):
 Calls yP 89 #[gV #[pV u,sV (str r),iV .i64 0,bV false],lV a f.length cap] w fun e w'=>e=rV (qB (iR 81 t r 0 false f []))/\bG S w w':=by
 obtain⟨R,hR⟩:=yX (iR 81 t r 0 false f [])
 rw[<-hR];have HA:=aa hA.cut;have HR:=aa hR;have HK:Hid (aw t 0/\ak r/\r.length<=80):=⟨hK,hn,hd⟩
 have HT:=aa T;have HS:=aa hS;have HP:=aa hP;have HZ:=aa hs;have D1:Hid (∀W,bG (fun x=>S x/\x<w.heap.size) w W->bG S w W):=fun W h=>h.mono fun x C=>C.1
 clear hA hR hK hn hd T hS hP hs;obtain⟨l,B9⟩:=yX f.length
 have H:=aa B9;rw[<-B9] at HP G3⊢;clear B9;go_enter func89,ntmps89
 go_wp2_with fail
 go_loopg [7,8] 81 (fun g us ee wr=>∃i Sc uc r d bl n U Q K J V,us=iV .i64 (n:Nat)/\n<=l/\Hid (rB w (fun x=>S x/\x<w.heap.size) w.heap.size (w.heap.size+1) f R g wr i Sc uc r d bl n U Q K J V))
 case atStart=>
  have D8:yW w (w.alloc (.cells #[pV u,sV (str r),iV .i64 0,bV false] 127)):=(Q1 _ _).alloc (QU _) _;have A1:yW w ((w.alloc (.cells #[pV u,sV (str r),iV .i64 0,bV false] 127)).alloc (.cells #[pV u,sV (str r),iV .i64 0,bV false] 127)):=D8.alloc D8.size _;refine⟨t,_,u,r,0,false,0,u,r,0,false,[],rfl,by omega,⟨?_,?_,HA.out.below A1,fun x C=>⟨.inl C,by simp;omega,by omega,by omega⟩,HK.out.1,HK.out.2.1,by have:=HK.out.2.2;omega,fun _=>by have:=HK.out.2.2;omega,Ri _,by rw[HR.out];rfl,?_,bG.gj A1⟩⟩
  ·unfold cU;rw[RL _ _ _ (by simp)];exact Rl _ _
  ·exact wh _ _ _ (by simp)
  ·intro h;subst h;have h1:=HA.out;injection h1 with h2;exact .inl ⟨h2,rfl⟩
 case round=>
  obtain⟨i,Sc,uc,r2,d,bl,n,U,Q,K,J,V,rfl,E2,HW⟩:=hrel;have j:=HW.out;have G:=aa (D1.out wr j.wrote);have C3:=j.here.lt;have C4:=j.last.lt;obtain⟨a0,a1,a2,a3⟩:=j.here.cells;obtain⟨b0,b1,b2,b3⟩:=j.last.cells;by_cases E:i=.nil
  ·subst E;have O:=j.at_;cases O
   have A9:R=oF (f.drop n) V:=by rw[j.res,Oq]
   by_cases E3:n<l
   ·have A0:Hid (R=none):=by
     show _=_;rw[A9];unfold oF;rw[QW];intro e;have:=congrArg List.length e;rw[Q8,<-H.out] at this;simp at this;omega
    have E1:(n:Int)<(l:Int):=by omega
    clear j A9 b0 b1 b2 b3;go_wp2_with fail
    go_ret2
    rw[A0.out];exact⟨rfl,G.out⟩
   ·obtain rfl:n=l:=by omega
    have E9:Hid (R=some V):=by
     show _=_;rw[A9];unfold oF;rw[QX];apply List.eq_nil_of_length_eq_zero;rw[Q8,<-H.out];omega
    have E1:¬(n:Int)<(n:Int):=by omega
    have D2:Hid (Calls yP 78 #[gV #[pV U,sV (str Q),iV .i64 (K:Int),bV J]] wr fun e w'=>e=rV (sV (str V))/\yW wr w'):=by
     have hL:rp wr wr.heap.size U Q V:=by
      rcases j.val rfl with h|⟨b,t,E6,E7,h1,h2,_,_,_,h3,h4⟩
      ·exact .inl h
      ·exact .inr ⟨b,t,E6,E7,h1,h2,h3,h4⟩
     exact rL hL K J wr (Q1 _ _)
    clear j A9;go_wp2_with fail
    refine D2.out.mono ?_;rintro e w2 ⟨rfl,A1⟩;have E8:=aa (G.out.ki A1);clear A1 D2;go_wp2_with fail
    go_ret2
    rw[E9.out];exact⟨rfl,E8.out⟩
  ·have B2:i.some:=by cases i<;>first|exact absurd rfl E|trivial
   obtain⟨b,E6,E7,O,N,B⟩:=j.at_.ah B2;have G6:=O;injection G6 with hu3;subst hu3;obtain⟨v,A2⟩:∃v,gk=v+1:=⟨gk - 1,by have:=j.fuel E;omega⟩
   have A7:=aa A2;have c0:=B.c0;have G8:=B.lt;have C9:=aa E;have C2:=j.deep;obtain⟨B5,B6,B7,B8⟩:=j.last.free;have C7:=j.sub b N;have Z:Hid (∀(t1:Nd) (n1:Nat) (w2:World),n1<=l->nK i d bl (f.drop n)=some (t1,f.drop n1)->t1.read->aw t1 d->At w2 t1 (fun x=>Sc x\/wr.heap.size<=x) (ptr b)->bG Sc wr w2->
    (cU w2 w.heap.size (qA b) (str r2) d bl/\cU w2 (w.heap.size+1) U (str Q) K J)/\
    Calls yP 113 #[gV #[pV (qA b),sV (str r2),iV .i64 (d:Int),bV bl]] (cH w2 (w.heap.size+1) (qA b) r2 d bl) fun e w4=>∃k S',e=rV (gV #[pV k,sV (str (aA t1 r2 d).2.1),iV .i64 ((aA t1 r2 d).2.2.1:Int),bV (aA t1 r2 d).2.2.2])/\cU w4 w.heap.size (qA b) (str r2) d bl/\Hid (rB w (fun x=>S x/\x<w.heap.size) w.heap.size (w.heap.size+1) f R v (cH w4 w.heap.size k (aA t1 r2 d).2.1 (aA t1 r2 d).2.2.1 (aA t1 r2 d).2.2.2) (aA t1 r2 d).1 S' k (aA t1 r2 d).2.1 (aA t1 r2 d).2.2.1 (aA t1 r2 d).2.2.2 n1 (qA b) r2 d bl (t1.at r2))):=by
    intro t1 n1 w2 G2 G5 E5 F6 D3 C0;have y:=HW.out;rw[A7.out] at y;have k1:w2.heap[w.heap.size]? =wr.heap[w.heap.size]? :=C0.block _ C3 fun h=>(y.sub _ h).2.2.1 rfl
    have k2:w2.heap[w.heap.size+1]? =wr.heap[w.heap.size+1]? :=C0.block _ C4 fun h=>(y.sub _ h).2.2.2 rfl
    refine⟨⟨y.here.kept k1,y.last.kept k2⟩,?_⟩;refine(Om _ (j6 wr w2 Sc) t1 b r2 d bl (Fl y D3) F6 E5 y.lz y.deep).mono ?_;rintro e w4 ⟨k,S',rfl,hN,F5⟩;obtain⟨s,F9⟩:=Ov y C9.out (by omega) (QU _) (by omega) (by rw[<-H.out];exact G2) G5 E5 D3 C0 hN F5;exact⟨k,S',rfl,s,F9⟩
   by_cases A:i.read
   ·have A8:((i.kind:Int) == 0)=false:=by cases i<;>first|exact A.elim|rfl
    obtain⟨⟨A4,P⟩,A3⟩:=Z.out i n wr E2 (by cases i<;>first|exact A.elim|rfl) A j.ok (j.at_.mono fun x C=>.inl C) (bG.refl _ _);have F:=aa A3;generalize aA i r2 d=WP at*;generalize (i.kind:Int)=KD at*;clear j Z A4 P A3 A2 E B2 O N B A C2 C7;unfold cH at F;go_wp2_with fail
    refine F.out.mono ?_;rintro e w4 ⟨k,S',rfl,s,Y⟩;obtain⟨x0,x1,x2,x3⟩:=s.cells;obtain⟨y0,y1,y2,y3⟩:=s.free;have G7:=s.lt;clear s F a0 a1 a2 a3 b0 b1 b2 b3 B5 B6 B7 B8 C3 C4;go_wp2_with fail
    go_roundg v
    case measure=>have:=A7.out;omega
    case rel=>exact⟨_,S',k,_,_,_,n,_,_,_,_,_,rfl,E2,Y⟩
   ·obtain⟨h0,rfl⟩:∃h0,i=.unread h0:=by
     cases i with
     |nil=>exact absurd rfl E
     |unread h0=>exact⟨h0,rfl⟩
     |leaf _ _ _=>exact absurd trivial A
     |ext _ _ _=>exact absurd trivial A
     |branch _ _ _=>exact absurd trivial A
    have A8:(((Nd.unread h0).kind:Nat):Int)=0:=rfl;rw[A8] at c0;have C5:(Nd.unread h0).isNil≠true:=fun h=>by cases h
    have B1:R=wW (fun t1 q=>iR v (aA t1 r2 d).1 (aA t1 r2 d).2.1 (aA t1 r2 d).2.2.1 (aA t1 r2 d).2.2.2 q (t1.at r2)) (nK (.unread h0) d bl (f.drop n)):=by
     rw[j.res,A2];show(if(Nd.unread h0).isNil=true then _ else _)=_;rw[QW C5]
    by_cases E3:n<l
    ·have C6:n<f.length:=by rw[<-H.out];exact E3
     obtain⟨p,hp⟩:∃p,f[n]? =some p:=⟨f[n],QV C6⟩
     have E0:f.drop n=p::f.drop (n+1):=by
      rw[RF C6];congr 1;exact Option.some.inj ((QV C6).symm.trans hp)
     obtain⟨g,o,rfl,C1⟩:=(HP.out wr G.out).at_ n p hp;have H0:g<wr.heap.size:=Rj wr _ C1;have E4:p.size<=maxLen:=HZ.out p (Rv hp);have D7:=HT.out.mK G.out HS.out;have B0:bL wr b (.unread h0) cL (fun _=>cL):=by
      obtain⟨b',e,_,B'⟩:=j.at_;cases e;exact B'
     obtain⟨X,M⟩:=yX (gh h0 p.data.toList d bl)
     have B4:=aa M;have D0:Hid (Calls yP 120 #[pV (qA b),sV p,iV .i64 (d:Int),bV bl] wr.drew fun e w'=>∃z:Int,e=rV (iV .i64 z)/\Hid (pJ wr b X (rV (iV .i64 z)) w')):=(BW wr.drew h0 b p d bl B0 E4 (by omega) (D7.below ((Q1 _ _).drew))).mono fun e w' hq=>by
      rw[<-M] at hq;cases X with
      |error c=>obtain⟨h1,h2⟩:=hq;exact⟨c,h1,rfl,⟨h2.os,h2.tape,h2.output,h2.size,h2.block⟩⟩
      |ok m=>obtain⟨h1,h2,h3⟩:=hq;exact⟨0,h1,rfl,h2,⟨h3.os,h3.tape,h3.output,h3.size,h3.block⟩⟩
     have B3:nK (.unread h0) d bl (f.drop n)=(match gh h0 p.data.toList d bl with| .error _=>none| .ok n2=>some (n2,f.drop (n+1))):=by rw[E0];rfl
     have H2:((n:Int) == (l:Int))=false:=by rw[RW];omega
     have E1:(n:Int)<(l:Int):=by omega
     rw[<-M] at B3;have A6:Hid (∀L,X=.error L->R=none/\((L:Int) != 0)=true):=fun L hX=>by
      refine⟨by rw[B1,B3,hX];rfl,?_⟩;have:=BZ (M.symm.trans hX);simp;omega
     have A5:Hid (∀n2,X=.ok n2->∀w2,At w2 n2 (fun x=>x=b\/wr.heap.size<=x) (ptr b)->Kept b wr w2->(cU w2 w.heap.size (qA b) (str r2) d bl/\cU w2 (w.heap.size+1) U (str Q) K J)/\
      Calls yP 113 #[gV #[pV (qA b),sV (str r2),iV .i64 (d:Int),bV bl]] (cH w2 (w.heap.size+1) (qA b) r2 d bl) fun e w4=>∃k S',e=rV (gV #[pV k,sV (str (aA n2 r2 d).2.1),iV .i64 ((aA n2 r2 d).2.2.1:Int),bV (aA n2 r2 d).2.2.2])/\cU w4 w.heap.size (qA b) (str r2) d bl/\Hid (rB w (fun x=>S x/\x<w.heap.size) w.heap.size (w.heap.size+1) f R v (cH w4 w.heap.size k (aA n2 r2 d).2.1 (aA n2 r2 d).2.2.1 (aA n2 r2 d).2.2.2) (aA n2 r2 d).1 S' k (aA n2 r2 d).2.1 (aA n2 r2 d).2.2.1 (aA n2 r2 d).2.2.2 (n+1) (qA b) r2 d bl (n2.at r2))):=fun n2 hX w2 F4 F8=>by
      obtain⟨F7,G4,_⟩:=nP (M.symm.trans hX);exact Z.out n2 (n+1) w2 (by omega) (by rw[B3,hX]) G4 F7 (F4.mono fun x C=>C.imp (fun e=>by rw[e];exact N) id) ((bG.CY F8).mono fun x C=>by rw[C];exact N)
     clear j B1 Z B3 E0 hp E4 D7 B0 B O N E B2 A A8 C5 A2 C2 C7 b0 b1 b2 b3 B5 B6 B7 B8 HZ M;go_upto_region 7 with fail
     go_cut [8] from 10 to 40 (fun rr wx=>∃z:Int,rr=iV .i64 z/\Hid (pJ wr b X (rV (iV .i64 z)) wx))
     case first=>
      clear A5 A6 B4 HW A7 G HA HR HK HT HS HP D1 H C9;go_region_with (go_at_call 120;refine D0.out.mono ?_;rintro e2 w2 ⟨z2,rfl,I⟩)
      all_goals
       go_wp2_with fail
       go_meet
       exact⟨z2,rfl,I⟩
     case rest=>
      obtain⟨z,rfl,I⟩:=hcut;clear D0;cases X with
      |error L=>
       obtain⟨D,D9⟩:=I.out;have C8:z=(L:Int):=by injection D with D;injection D
       subst C8;obtain⟨D6,G9⟩:=A6.out L rfl;have A0:=aa D6;have Y:=aa (G.out.ki D9);clear D6 D D9 I A5 A6 a0 a1 a2 a3 c0 C1 B4;go_wp2_with fail
       go_ret2
       rw[A0.out];exact⟨rfl,Y.out⟩
      |ok n2=>
       obtain⟨D,D4,D5⟩:=I.out;have C8:z=0:=by injection D with D;injection D
       subst C8;obtain⟨⟨A4,P⟩,A3⟩:=A5.out n2 rfl wc D4 D5;clear D D4 D5 I A5 A6 B4;generalize aA n2 r2 d=WP at*;have F:=aa A3;obtain⟨e0,e1,e2,e3⟩:=A4.cells;obtain⟨f0,f1,f2,f3⟩:=P.cells;obtain⟨F0,F1,F2,F3⟩:=P.free;have G0:=A4.lt;have G1:=P.lt;have H1:(n:Int)<1000:=by omega
       clear A4 P A3 a0 a1 a2 a3 c0 C1 C3 C4;unfold cH at F;go_wp2_with fail
       refine F.out.mono ?_;rintro e w4 ⟨k,S',rfl,s,Y⟩;obtain⟨x0,x1,x2,x3⟩:=s.cells;obtain⟨y0,y1,y2,y3⟩:=s.free;have G7:=s.lt;clear s F e0 e1 e2 e3 f0 f1 f2 f3 F0 F1 F2 F3 G0 G1;go_wp2_with fail
       go_roundg v
       case measure=>have:=A7.out;omega
       case rel=>exact⟨_,S',k,_,_,_,n+1,_,_,_,_,_,by go_num,by omega,Y⟩
    ·obtain rfl:n=l:=by omega
     have A0:Hid (R=none):=by
      show _=_;rw[B1];have:f.drop n=[]:=List.eq_nil_of_length_eq_zero (by rw[Q8,<-H.out];omega);rw[this];rfl
     clear j B1 Z B O N E B2 A A8 C5 A2 C2 C7 b0 b1 b2 b3 B5 B6 B7 B8 HZ;go_wp2_with fail
     go_ret2
     rw[A0.out];exact⟨rfl,G.out⟩
end Go.Proofs.YtiimkkahmpmhdaaGreatDoor
