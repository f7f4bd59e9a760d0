import Derived.Test.YtiimkkahmpmhdaaGreatDoorM
import Derived.Test.YtiimkkahmpmhdaaGreatDoorN
open Go.Proofs.Tryz
open Go.Proofs.Tryz renaming prog→yP
open Go.Value renaming string→sV,pointer→pV,int→iV,slice→lV,bool→bV,tuple→tV,agg→gV
open Go.Ending renaming returned→rV
namespace Go.Proofs.YtiimkkahmpmhdaaGreatDoor
open Go.RowKit
set_option maxRecDepth 100000
set_option maxHeartbeats 0
set_option linter.all false
theorem Hg(i:Nat)(h:i<16):IntKind.u8.wrap (i:Int)=(i:Int):=by
 have:∀k:Fin 16,IntKind.u8.wrap (k.val:Int)=(k.val:Int):=by decide
 exact this ⟨i,h⟩
def iy(w:World)(S:Nat->Prop)(r:Except Nat Nd)(e:Ending)(w':World):Prop:=match r with
 | .error c=>e=rV (tV #[pV none,iV .i64 (c:Int)])/\yW w w'
 | .ok n=>∃u,e=rV (tV #[pV u,iV .i64 0])/\At w' n (fun x=>S x\/w.heap.size<=x) (pV u)/\bG S w w'
theorem Made.less{w S n v w'}(h:Made w S n (rV v) w'):iy w S (.ok n) (rV (tV #[v,iV .i64 0])) w':=by
 obtain⟨u,e,h1,h2⟩:=h;cases e
 exact⟨u,rfl,h1,bG.gj h2⟩
theorem iy.after{w w0:World}{S r e w'}(a:yW w w0)(h:iy w0 S r e w'):iy w S r e w':=by
 cases r with
 |error c=>exact⟨h.1,a.trans (h.2.mono a.size)⟩
 |ok n=>
  obtain⟨u,h1,h2,h3⟩:=h;exact⟨u,h1,h2.mono fun x b=>b.imp id (Q7 a.size),(bG.gj a).trans h3 fun x b=>.inl b⟩
theorem Bw(M:Nat->Prop)(w:World)(D:Nat)(st u0:Option Addr)(G:yB->Option yB)(ks:Nat->Nd)(S:Nat->Prop)(U:Nat->Option Addr)(q:Nat->Nat->Prop)(v:yL)(dep:Nat)
 (hT:eU w D st u0) (y:Kids w ks S U q) (A2:∀i,i<16->aw (ks i) (dep+1)) (L:v.length<=160) (hG:jJ M w st G) (hs:∀k t,G k=some t->t.size<=maxLen) (hM:∀x,M x->x<w.heap.size) (D6:dep<=100) (T:az w) (C3:∀x,S x->3<=x):
 Calls yP 114 #[pV (qA D),fP U,sV (str v),iV .i64 (dep:Int)] w (iy w S (bR G ks v dep)):=by
 have Y:Hid (∀i,i<16->((ks i).isNil=true/\U i=none)\/((ks i).isNil=false/\∃b,U i=some ⟨b,0,none⟩)):=fun i hi=>by
  have h:=y.at_ i hi;cases o:(ks i).isNil with
  |true=>
   left;have e:ks i=.nil:=by cases hk:ks i<;>first|rfl| (rw[hk] at o;cases o)
   rw[e] at h;have h2:=h;injection h2 with h3;exact⟨rfl,h3⟩
  |false=>
   right;obtain⟨b,_,_,e,_⟩:=h.ah ((gn _).1 o);have h2:=e;injection h2 with h3;exact⟨rfl,b,h3⟩
 have B8:Hid (∀i,i<16->((ks i).isNil=true->bU ks (i+1)=bU ks i/\cD ks (i+1)=cD ks i)/\((ks i).isNil=false->bU ks (i+1)=bU ks i+1/\cD ks (i+1)=i)):=fun i _=>by
  constructor
  ·intro h;simp only[bU,cD,QX h];exact⟨rfl,trivial⟩
  ·intro h;simp only[bU,cD,h];exact⟨rfl,rfl⟩
 have B6:Hid (∀i,i<=16->bU ks i<=i/\cD ks i<=i):=fun i _=>by
  have:∀n,bU ks n<=n/\cD ks n<=n:=fun n=>by
   induction n with
   |zero=>exact⟨QU _,QU _⟩
   |succ n ih=>simp only[bU,cD];constructor<;>split<;>omega
  exact this i
 have HL:Hid (∀W,yW w W->Calls yP 133 #[sV ⟨#[]⟩,sV (str v)] W (Made w S (da [] v))):=fun W f=>
  (pe W [] v ⟨.inl rfl,(fun _ h=>by cases h),Ri _,L⟩ (nt _ _ _ (Ri _) L) (T.below f)).mono fun e w' h=>(h.mono fun x g=>g.elim).after f
 have O:Hid (∀W,yW w W->Calls yP 138 #[fP U,sV (str v)] W (Made w S (cP ks v))):=fun W f=>
  (qE W v ks S U q ⟨fun i hi=>(y.at_ i hi).below f,y.sub,y.iH⟩ ⟨.inl rfl,L,fun i hi=>(A2 i hi).aJ.jS⟩ (oG _ _ _ L fun i hi=>(A2 i hi).aJ) (T.below f)).mono fun e w' h=>h.after f
 have HR:Hid (∀(i b:Nat),i<16->U i=some ⟨b,0,none⟩->∀W,yW w W->Calls yP 112 #[pV (qA D),pV (qA b),iV .i64 ((dep+1:Nat):Int),bV false] W (fun e w'=>tI W (q i) b (cf G (ks i) (dep+1) false) e w'/\∃z:Int,e=rV (iV .i64 z))):=fun i b hi p W f=>by
  have hA:=y.at_ i hi;rw[p] at hA;refine(BX M W D b st u0 G (ks i) (q i) (dep+1) false (hT.kept (f.block D hT.lt)) (hA.below f) (A2 i hi) (fun W' h hh g=>hG W' h hh fun x C6=>(g x C6).trans (f.block x (hM x C6))) hs (by omega) (T.below f)).mono fun e w' h=>⟨h,?_⟩
  cases K:cf G (ks i) (dep+1) false with
  |error c=>rw[K] at h;exact⟨_,h.1⟩
  |ok n=>rw[K] at h;exact⟨_,h.1⟩
 have P:Hid (∀(i b:Nat) (k:Nd),i<16->(ks i).isNil=false->cf G (ks i) (dep+1) false=.ok k->∀W I,yW w W->At I k (fun x=>q i x\/W.heap.size<=x) (ptr b)->bG (q i) W I->∀s,yW I s->Calls yP 115 #[sV (str [UInt8.ofNat i]),pV (qA b)] s fun e w'=>∃u,e=rV (pV u)/\iy w S (.ok (aQ [UInt8.ofNat i] k)) (rV (tV #[pV u,iV .i64 0])) w'):=fun i b k hi o K W I f C8 A9 s J=>by
  obtain⟨A3,_,D1,_,_⟩:=l4 (A2 i hi) K;have B2:k.some:=(gn k).1 (by rw[D1];exact o);have hp:=zE k _ A3.deep B2;have hd:=vS k (dep+1) B2 A3.full A3.deep;have T2:az I:=(T.below f).mK A9 fun x g=>C3 x (y.sub i x hi g)
  refine(qO s [UInt8.ofNat i] k (fun x=>q i x\/W.heap.size<=x) _ (sA hi) (by simp;omega) B2 A3.aJ (C8.below J) (T2.below J)).mono fun e w' h=>?_
  obtain⟨u,e1,e2,e3⟩:=h;have C9:=(A9.ki J).ki e3;refine⟨u,e1,u,rfl,e2.mono fun x g=>?_,((bG.gj f).trans C9 fun x g=>.inl g).mono fun x g=>y.sub i x hi g⟩;rcases g with(g|g) |g
  ·exact .inl (y.sub i x hi g)
  ·exact .inr (Q7 f.size g)
  ·exact .inr (by have:=f.size;have:=A9.size;have:=J.size;omega)
 have E1:(str v).size<=160:=by rw[aH];exact L
 have A7:(str v).toList.isEmpty=decide (v=[]):=jP _;have C:Hid ((bU ks 16=0->bR G ks v dep=.ok (da [] v))/\(bU ks 16≠0->(1<bU ks 16\/v≠[])->bR G ks v dep=.ok (cP ks v))/\(bU ks 16≠0->¬(1<bU ks 16\/v≠[])->bR G ks v dep=iD [UInt8.ofNat (cD ks 16)] (cf G (ks (cD ks 16)) (dep+1) false))):=by
  refine⟨fun h=>?_,fun h h2=>?_,fun h h2=>?_⟩
  ·unfold bR;rw[QX h]
  ·unfold bR;rw[QW h,QX h2]
  ·unfold bR;rw[QW h,QW h2]
 have F:Hid (bU ks 16≠0->cD ks 16<16/\(ks (cD ks 16)).isNil=false):=fun h=>by
  obtain⟨h1,h2⟩:=lC ks 16 (by omega);exact⟨h1,(gn _).2 h2⟩
 obtain⟨d,A0⟩:=yX (w.alloc (.cells #[pV (U 0),pV (U 1),pV (U 2),pV (U 3),pV (U 4),pV (U 5),pV (U 6),pV (U 7),pV (U 8),pV (U 9),pV (U 10),pV (U 11),pV (U 12),pV (U 13),pV (U 14),pV (U 15)] 165))
 have B0:dF d w.heap.size U:=by rw[A0];exact dF.made w U
 have C7:d.heap.size=w.heap.size+1:=by rw[A0];simp
 have C4:yW w d:=by rw[A0];exact(Q1 _ _).alloc (QU _) _
 have HZ:=aa C7;have N:=aa B0;have E:=aa C4;have B9:=aa A0;obtain⟨y0,y1,y2,y3,y4,y5,y6,y7,y8,y9,y10,y11,y12,y13,y14,y15⟩:=B0.all;have D3:w.heap.size<d.heap.size:=by omega
 clear hT y A2 L hG hs hM T C3 A0 C4 C7 B0;generalize bR G ks v dep=R at*;unfold fP at O⊢;go_enter func114,ntmps114
 go_upto_region 1 with fail
 rw[<-B9.out];clear B9;go_wp2_with fail
 go_loopg [10,11,12] 16 (fun gk c l r wr=>∃(i:Nat),gk=16 - i/\i<=16/\r=iV .i64 i/\c=iV .i64 (bU ks i:Int)/\l=iV .i64 (cD ks i:Int)/\d=wr)
 case atStart=>exact⟨0,rfl,by omega,rfl,rfl,rfl,rfl⟩
 case round=>
  obtain⟨i,hg,hi,rfl,rfl,rfl,rfl⟩:=hrel;have HG:=aa hg;clear hg;have B1:=B6.out i hi;by_cases A5:i<16
  ·have ci:=N.out.cell i A5;have A6:=B8.out i A5;have D8:(i:Int)<16:=by omega
   rcases Y.out i A5 with⟨o,p⟩|⟨o,b,p⟩
   ·obtain⟨h1,h2⟩:=A6.1 o;have X:Hid (bU ks (i+1)=bU ks i/\cD ks (i+1)=cD ks i):=⟨h1,h2⟩
    rw[p] at ci;clear A6 o p h1 h2 y0 y1 y2 y3 y4 y5 y6 y7 y8 y9 y10 y11 y12 y13 y14 y15;generalize bU ks i=j at*;generalize cD ks i=a at*;go_wp2_with fail
    go_roundg (16 - (i+1))
    case measure=>have:=HG.out;omega
    case rel=>exact⟨i+1,rfl,by omega,by go_num,by rw[X.out.1],by rw[X.out.2],rfl⟩
   ·obtain⟨h1,h2⟩:=A6.2 o;have X:Hid (bU ks (i+1)=bU ks i+1/\cD ks (i+1)=i):=⟨h1,h2⟩
    rw[p] at ci;clear A6 o p h1 h2 y0 y1 y2 y3 y4 y5 y6 y7 y8 y9 y10 y11 y12 y13 y14 y15;generalize bU ks i=j at*;generalize cD ks i=a at*;go_wp2_with fail
    go_roundg (16 - (i+1))
    case measure=>have:=HG.out;omega
    case rel=>exact⟨i+1,rfl,by omega,by go_num,by rw[X.out.1];go_num,by rw[X.out.2],rfl⟩
  ·obtain rfl:i=16:=by omega
   clear B8 B6 HG;obtain⟨j,C2⟩:=yX (bU ks 16)
   obtain⟨a,C1⟩:=yX (cD ks 16)
   rw[<-C2] at C F B1⊢;rw[<-C1] at C F B1⊢;clear C2 C1 A5 hi;by_cases h0:j=0
   ·subst h0;have B:Hid (R=.ok (da [] v)):=C.out.1 rfl;have B5:Hid (Calls yP 133 #[sV ⟨#[]⟩,sV (str v)] d fun e w'=>∃u,e=rV (pV u)/\Hid (iy w S (.ok (da [] v)) (rV (tV #[pV u,iV .i64 0])) w')):=(HL.out d E.out).mono fun e w' m=>by
     obtain⟨u,e1,e2,e3⟩:=m;exact⟨u,e1,u,rfl,e2,bG.gj e3⟩
    clear HL O HR P C F Y N HZ y0 y1 y2 y3 y4 y5 y6 y7 y8 y9 y10 y11 y12 y13 y14 y15;generalize str v=V at*;go_wp2_with fail
    refine B5.out.mono ?_;rintro e w1 ⟨u,rfl,A⟩;clear B5;go_wp2_with fail
    go_ret2
    rw[B.out];exact A.out
   ·have q0:((j:Int) == 0)=false:=by rw[RW];omega
    by_cases m:1<j\/v≠[]
    ·have B:=aa (C.out.2.1 h0 m);have B4:Hid (Calls yP 138 #[gV #[pV (U 0),pV (U 1),pV (U 2),pV (U 3),pV (U 4),pV (U 5),pV (U 6),pV (U 7),pV (U 8),pV (U 9),pV (U 10),pV (U 11),pV (U 12),pV (U 13),pV (U 14),pV (U 15)],sV (str v)] d fun e w'=>∃u,e=rV (pV u)/\Hid (iy w S (.ok (cP ks v)) (rV (tV #[pV u,iV .i64 0])) w')):=(O.out d E.out).mono fun e w' m=>by
      obtain⟨u,e1,e2,e3⟩:=m;exact⟨u,e1,u,rfl,e2,bG.gj e3⟩
     have D2:(decide ((1:Int)<(j:Int))=true)\/(decide ((1:Int)<(j:Int))=false/\(str v).toList.isEmpty=false):=by
      by_cases h1:1<j
      ·exact .inl (Ra (by omega))
      ·refine .inr ⟨Q9 (by omega),?_⟩;rw[A7];exact Q9 (m.resolve_left h1)
     clear HL O HR P C F Y N HZ m h0 A7;generalize str v=V at*;rcases D2 with q1|⟨q1,q2⟩;all_goals
      go_wp2_with fail
      refine B4.out.mono ?_;rintro e w1 ⟨u,rfl,A⟩;clear B4;go_wp2_with fail
      go_ret2
      rw[B.out];exact A.out
    ·have C5:v=[]:=Sb fun h=>m (.inr h)
     obtain rfl:j=1:=by
      have:¬1<j:=fun h=>m (.inl h)
      omega
     obtain⟨A1,A4⟩:=F.out h0;have B:=aa (C.out.2.2 h0 m);have E0:(str v).toList.isEmpty=true:=by rw[A7];exact Ra C5
     obtain⟨b,p⟩:∃b,U a=some ⟨b,0,none⟩:=by
      rcases Y.out a A1 with⟨h1,_⟩|⟨_,b,h2⟩
      ·rw[h1] at A4;cases A4
      ·exact⟨b,h2⟩
     have ck:=N.out.cell a A1;rw[p] at ck;have D9:(a:Int)<16:=by omega
     have E2:=Hg a A1;have H:Hid (Calls yP 112 #[pV (qA D),pV (qA b),iV .i64 ((dep:Int)+1),bV false] d (fun e w'=>tI d (q a) b (cf G (ks a) (dep+1) false) e w')):=(HR.out a b A1 p d E.out).mono fun e w' h=>h.1
     have A8:=fun k K=>P.out a b k A1 A4 K d
     have D5:(dep:Int)<=100:=by omega
     clear HL O HR C F Y N HZ m h0 A7 C5 B1 q0 y0 y1 y2 y3 y4 y5 y6 y7 y8 y9 y10 y11 y12 y13 y14 y15 A4;cases hrd:cf G (ks a) (dep+1) false with
     |error Z=>
      rw[hrd] at B H;have D0:=uG hrd;have D7:((Z:Int) != 0)=true:=by simp;omega
      have Q:Hid (Calls yP 112 #[pV (qA D),pV (qA b),iV .i64 ((dep:Int)+1),bV false] d (fun e w'=>e=rV (iV .i64 (Z:Int))/\Hid (yW w w'))):=H.out.mono fun e w' h=>⟨h.1,E.out.trans (h.2.mono E.out.size)⟩
      clear H P A8 hrd D0;generalize str v=V at*;go_wp2_with fail
      refine Q.out.mono ?_;rintro e w1 ⟨rfl,A⟩;clear Q;go_wp2_with fail
      go_ret2
      rw[B.out];exact⟨rfl,A.out⟩
     |ok k=>
      have C0:=A8 k hrd;rw[hrd] at B H;have Q:Hid (Calls yP 112 #[pV (qA D),pV (qA b),iV .i64 ((dep:Int)+1),bV false] d (fun e w'=>e=rV (iV .i64 0)/\Hid (∀s,Below w'.heap.size w' s->Calls yP 115 #[sV (strOfNums [(a:Int)]),pV (qA b)] s fun e B3=>∃u,e=rV (pV u)/\iy w S (.ok (aQ [UInt8.ofNat a] k)) (rV (tV #[pV u,iV .i64 0])) B3))):=H.out.mono fun e w' h=>⟨h.1,fun s J=>by
       rw[sx a (by omega)];exact C0 w' E.out h.2.1 h.2.2 s J⟩
      clear H P A8 hrd C0;generalize str v=V at*;go_wp2_with fail
      refine Q.out.mono ?_;rintro e w1 ⟨rfl,A⟩;have D4:=vU w1 (a:Int);have B7:Hid (Calls yP 115 #[sV (strOfNums [(a:Int)]),pV (qA b)] (w1.alloc (.cells #[iV .u8 (a:Int)] 5)) fun e B3=>∃u,e=rV (pV u)/\Hid (iy w S (.ok (aQ [UInt8.ofNat a] k)) (rV (tV #[pV u,iV .i64 0])) B3)):=A.out _ ((Q1 _ _).alloc (QU _) _);clear Q A;go_wp2_with fail
      refine B7.out.mono ?_;rintro e w2 ⟨u,rfl,HF⟩;clear B7;go_wp2_with fail
      go_ret2
      rw[B.out];exact HF.out
theorem iy.mono{w S S' r e w'}(h:iy w S r e w')(a:∀x,S x->S' x):iy w S' r e w':=by
 cases r with
 |error c=>exact h
 |ok n=>
  obtain⟨u,h1,h2,h3⟩:=h;exact⟨u,h1,h2.mono fun x b=>b.imp (a x) id,h3.mono a⟩
theorem iy.tuple{w S r e w'}(h:iy w S r e w'):∃u ec,e=rV (tV #[pV u,iV .i64 ec]):=by
 cases r with
 |error c=>exact⟨none,c,h.1⟩
 |ok n=>obtain⟨u,h1,_⟩:=h;exact⟨u,0,h1⟩
def nC(w:World)(S:Nat->Prop)(r:Except Nat Nd)(e:Ending)(w':World):Prop:=iy w S r e w'/\(r=.ok .nil->yW w w')
theorem BA{G ks v dep c}(h:bR G ks v dep=.error c):c=9\/c=10\/c=11:=by
 unfold bR at h;split at h
 ·cases h
 ·split at h
  ·cases h
  ·cases hr:cf G (ks (cD ks 16)) (dep+1) false with
   |error e=>rw[hr] at h;cases h;exact uG hr
   |ok k=>rw[hr] at h;cases h
theorem yz(G:yB->Option yB):∀(t) (p) (dep c:Nat),aV G t p dep=.error c->c=9\/c=10\/c=11:=by
 intro t;induction t with
 |nil=>intro p dep c h;cases h
 |unread _=>intro p dep c h;cases h
 |leaf _ _ _=>intro p dep c h;cases h
 |ext h0 q k ih=>
  intro p dep c h;have h':iD q (aV G k (p.drop q.length) (dep+q.length))=.error c:=h;cases hk:aV G k (p.drop q.length) (dep+q.length) with
  |error e=>rw[hk] at h';cases h';exact ih _ _ _ hk
  |ok k'=>rw[hk] at h';cases h'
 |branch h0 v ks ih=>
  intro p dep c h;cases p with
  |nil=>exact BA (v:=[]) h
  |cons a r=>
   have h':lU (fun k=>bR G (aD ks a.toNat k) v dep) (aV G (ks a.toNat) r (dep+1))=.error c:=h;cases hk:aV G (ks a.toNat) r (dep+1) with
   |error e=>rw[hk] at h';cases h';exact ih _ _ _ _ hk
   |ok k'=>rw[hk] at h';exact BA h'
theorem Ir(ks:Nat->Nd)(c:Nat)(a b):aD (aD ks c a) c b=aD ks c b:=by
 funext i
 unfold aD;split<;>rfl
theorem Jw{G ks v dep e c k}(b:c<16)(d:2<=cW v ks 16)(g:(ks c).some)(h:bR G (aD ks c k) v dep=.error e):k=.nil:=by
 cases hk:k.isNil with
 |true=>cases k<;>first|rfl|cases hk
 |false=>
  exfalso;have f:(aD ks c k c).some:=by rw[df];exact(gn _).1 hk
  have h1:=mZ v ks c g 16 b;have h2:=mZ v (aD ks c k) c f 16 b;rw[Ir] at h2;rw[lD] at h2 d h1;rw[lD v (aD ks c .nil)] at h1 h2;unfold bR at h;split at h
  ·cases h
  ·split at h
   ·cases h
   ·next hn=>
    have a:v=[]:=Sb fun a=>hn (.inr a)
    have h3:¬1<bU (aD ks c k) 16:=fun h=>hn (.inl h)
    rw[QX a] at h2 d h1;omega
theorem yy{G t p dep t'}(hk:aw t dep)(hL:bD t)(ho:dw t p)(hh:jo t p)(hn:ak p)(hd:dep+p.length<=80)(h2:t.kind=2\/t.kind=3)(h:aV G t p dep=.ok t'):t'.some:=by
 rcases h2 with h2|h2
 ·cases t with
  |ext h0 q k=>
   obtain⟨e,A0⟩:=hh;have A2:=(g9 q p).2;rw[e] at A2;have h':iD q (aV G k (p.drop q.length) (dep+q.length))=.ok t':=h;cases hk':aV G k (p.drop q.length) (dep+q.length) with
   |error c=>rw[hk'] at h';cases h'
   |ok k'=>
    rw[hk'] at h';cases h';have A1:k.kind=3:=by
     have hf:=hk.bu.2.1;have A3:=ho e;cases k<;>first|exact hf.elim|exact A3.elim|rfl
    exact nf _ _ ((kD G k _ _ k' (dY hk) hL.loose (ho e) A0 (cS hn _) (by rw[Q8];omega) hk').2 A1)
  | _=>cases h2
 ·exact(kD G t p dep t' hk hL ho hh hn hd h).2 h2
def tD(t:Nd):Prop:=∀(M:Nat->Prop) (w:World) (a:Nat) (b u0:Option Addr) (G:yB->Option yB) (S:Nat->Prop) (u:Option Addr) (r:yL) (dep:Nat) (bl:Bool),
 eU w a b u0->At w t S (pV u)->aw t dep->bD t->dw t r->jo t r->ak r->dep+r.length<=80->jJ M w b G->(∀k t,G k=some t->t.size<=maxLen)->(∀x,M x->x<w.heap.size)->az w->(∀x,S x->3<=x/\x≠a/\¬M x/\x<w.heap.size)->
 Calls yP 79 #[pV (qA a),gV #[pV u,sV (str r),iV .i64 (dep:Int),bV bl]] w (nC w S (aV G t r dep))
theorem Hp(h q v):tD (.leaf h q v):=by
 intro M w y x u0 G S u r dep bl k a d f o m n l c p g T i;obtain⟨b,U,t,e,j,B⟩:=a.ah trivial;have h2:=e;injection h2 with h3;subst h3;have c0:=B.c0;have s:b<w.heap.size:=Rj w _ c0;show Calls _ _ _ _ (nC w S (.ok .nil));clear a B j e k d f o m n l c p g T i;generalize str r=R at*;go_enter func79,ntmps79
 go_wp2_with fail
 go_ret2
 exact⟨⟨none,rfl,rfl,bG.gj ((Q1 _ _).alloc (QU _) _)⟩,fun _=>(Q1 _ _).alloc (QU _) _⟩
theorem Hr(h v:yL)(ks:Nat->Nd)(M:Nat->Prop)(w:World)(f:Nat)(p u0:Option Addr)(G:yB->Option yB)(S:Nat->Prop)(u:Option Addr)(dep:Nat)(bl:Bool)
 (n:eU w f p u0) (s:At w (.branch h v ks) S (pV u)) (A:aw (.branch h v ks) dep) (O:dep<=80) (y:jJ M w p G) (F:∀k t,G k=some t->t.size<=maxLen) (m:∀x,M x->x<w.heap.size) (T:az w) (C:∀x,S x->3<=x/\x≠f/\¬M x/\x<w.heap.size):
 Calls yP 79 #[pV (qA f),gV #[pV u,sV ⟨#[]⟩,iV .i64 (dep:Int),bV bl]] w (iy w S (bR G ks [] dep)):=by
 obtain⟨b,U,K,X,N,B,l⟩:=s.kids;subst X;have q:Hid (∀W,yW w W->Calls yP 114 #[pV (qA f),fP U,sV ⟨#[]⟩,iV .i64 (dep:Int)] W fun e w'=>∃u j,e=rV (tV #[pV u,iV .i64 j])/\Hid (iy w S (bR G ks [] dep) (rV (tV #[pV u,iV .i64 j])) w')):=fun W d=>
  (Bw M W f p u0 G ks (fun x=>S x/\x≠b) U K [] dep (n.kept (d.block f n.lt)) ⟨fun i hi=>(l.at_ i hi).below d,l.sub,l.iH⟩ (fun i hi=>di A i hi) (Ri _) (fun L h Q c=>y L h Q fun x H=>(c x H).trans (d.block x (m x H))) F (fun x c=>Q6 (m x c) d.size) (by omega) (T.below d) (fun x c=>(C x c.1).1)).mono fun e w' E=>by
   obtain⟨u,j,P⟩:=E.tuple;subst P;exact⟨u,j,rfl,(E.mono fun x c=>c.1).after d⟩
 obtain⟨k0,k1,k2,k3,k4,k5,k6,k7,k8,k9,k10,k11,k12,k13,k14,k15⟩:=B.all;have c0:=B.c0;have V:=B.lt;generalize bR G ks [] dep=R at*;clear n s A O y F m T C N B l;obtain⟨a,g⟩:=yX (w.alloc (.cells #[pV (qA b),sV ⟨#[]⟩,iV .i64 (dep:Int),bV bl] 127))
 have o:yW w a:=by rw[g];exact(Q1 _ _).alloc (QU _) _
 have Y:a.heap.size=w.heap.size+1:=by rw[g];simp
 have D:a.heap[w.heap.size]? =some (.cells #[pV (qA b),sV ⟨#[]⟩,iV .i64 (dep:Int),bV bl] 127 (0,0)):=by rw[g];exact Rl w _
 have y2:a.cell? ⟨w.heap.size,2,none⟩=some (iV .i64 (dep:Int)):=by rw[Q5 a _ 2 _ _ _ D];rfl
 have A0:b<a.heap.size:=by omega
 have A1:w.heap.size<a.heap.size:=by omega
 have z:∀i,a.cell? ⟨b,i,none⟩=w.cell? ⟨b,i,none⟩:=fun i=>Rd (o.block b V)
 have z0:=(z 5).trans k0;have z1:=(z 6).trans k1;have z2:=(z 7).trans k2;have z3:=(z 8).trans k3;have z4:=(z 9).trans k4;have z5:=(z 10).trans k5;have z6:=(z 11).trans k6;have z7:=(z 12).trans k7;have z8:=(z 13).trans k8;have z9:=(z 14).trans k9;have z10:=(z 15).trans k10;have z11:=(z 16).trans k11;have z12:=(z 17).trans k12;have z13:=(z 18).trans k13;have z14:=(z 19).trans k14;have z15:=(z 20).trans k15;have I:=aa o;have r:=aa g;clear o Y D g z k0 k1 k2 k3 k4 k5 k6 k7 k8 k9 k10 k11 k12 k13 k14 k15;unfold fP at q;go_enter func79,ntmps79
 go_upto_region 5 with fail
 rw[<-r.out];clear r c0;go_region_with (go_at_call 114;refine(q.out _ I.out.drew).mono ?_;rintro e1 w1 ⟨u1,Z,rfl,J⟩)
 all_goals
  go_wp2_with fail
  go_ret2
  exact J.out
theorem Hs(h q:yL)(k:Nd)(ih:tD k):tD (.ext h q k):=by
 intro M w V st u0 G S u r dep bl O hA m C v E F hd hG hs L T N;have p:∀U,aV G (.ext h q k) r dep=.ok U->U.some:=fun U ht=>yy m C v E F hd (.inl rfl) ht
 obtain⟨o,R⟩:=E;have A1:=(g9 q r).2;rw[o] at A1;obtain⟨b,kp,j,hu,A7,B,s,K⟩:=hA;have h2:Value.pointer u=pV (qA b):=hu;injection h2 with h3;subst h3;obtain⟨y,rfl⟩:=K.ptr;have A9:=m.aJ.2.2.1;have e':aF r q=q.length:=by rw[nL];exact o
 have z:Hid (∀W,yW w W->Calls yP 113 #[gV #[pV (qA b),sV (str r),iV .i64 (dep:Int),bV bl]] W fun e w'=>e=rV (gV #[pV y,sV (str (r.drop q.length)),iV .i64 ((dep+q.length:Nat):Int),bV true])/\yW W w'):=fun W d=>
  uZ b h q k y _ r (by omega) (by omega) e' dep (by omega) bl W ((d.block b B.lt).trans B)
 have hR:aV G (.ext h q k) r dep=iD q (aV G k (r.drop q.length) (dep+q.length)):=rfl;have A0:k.kind=3:=by
  have hf:=m.bu.2.1;have A8:=v o;cases k<;>first|exact hf.elim|exact A8.elim|rfl
 have n:Hid (∀W,yW w W->Calls yP 79 #[pV (qA V),gV #[pV y,sV (str (r.drop q.length)),iV .i64 ((dep+q.length:Nat):Int),bV true]] W (iy W j (aV G k (r.drop q.length) (dep+q.length)))):=fun W d=>
  (ih M W V st u0 G j y (r.drop q.length) (dep+q.length) true (O.kept (d.block V O.lt)) (K.below d) (dY m) C.loose (v o) R (cS F _) (by rw[Q8];omega) (fun W' h E c=>hG W' h E fun x A3=>(c x A3).trans (d.block x (L x A3))) hs (fun x c=>Q6 (L x c) d.size) (T.below d) (fun x c=>by
   obtain⟨a1,a2,a3,a4⟩:=N x (s x c).1;exact⟨a1,a2,a3,Q6 a4 d.size⟩)).mono fun e w' hq=>hq.1
 have I:Hid (∀W a u1 f,aV G k (r.drop q.length) (dep+q.length)=.ok f->yW w W->At a f (fun x=>j x\/W.heap.size<=x) (pV u1)->bG j W a->Calls yP 115 #[sV (str q),pV u1] a fun e w'=>∃u,e=rV (pV u)/\iy w S (.ok (aQ q f)) (rV (tV #[pV u,iV .i64 0])) w'):=fun W a u1 f hr d A g=>by
  obtain⟨h1,h2⟩:=kD G k _ _ f (dY m) C.loose (v o) R (cS F _) (by rw[Q8];omega) hr;have A2:=h2 A0;have hp:=zE f _ h1.ok.deep A2;have T2:az a:=(T.below d).mK g fun x c=>(N x (s x c).1).1
  refine(qO a q f _ u1 m.aJ.2.1 (by omega) A2 h1.ok.aJ A T2).mono fun e w' hm=>?_
  obtain⟨u,e1,e2,e3⟩:=hm;refine⟨u,e1,u,rfl,e2.mono fun x c=>?_,((bG.gj d).trans (g.ki e3) fun x c=>.inl c).mono fun x c=>(s x c).1⟩;rcases c with(c|c) |c
  ·exact .inl (s x c).1
  ·exact .inr (Q7 d.size c)
  ·exact .inr (by have:=d.size;have:=g.size;omega)
 have J:Hid (∀W a,yW w W->bG j W a->a.cell? ⟨b,0,none⟩=some (iV .i64 2)/\a.cell? ⟨b,2,none⟩=some (sV (str q))/\b<a.heap.size):=fun W a d g=>by
  have D:a.heap[b]? =w.heap[b]? :=(g.block b (Q6 B.lt d.size) fun c=>(s b c).2 rfl).trans (d.block b B.lt);have H:bL a b (.ext h q k) (pV y) (fun _=>cL):=D.trans B;exact⟨H.c0,H.c2,H.lt⟩
 have c0:w.cell? ⟨b,0,none⟩=some (iV .i64 2):=B.c0;have B3:=B.lt;have P:∀l,aV G k (r.drop q.length) (dep+q.length)=.error l->((l:Int) != 0)=true:=fun l h=>by
  have:=yz G _ _ _ _ h;simp;omega
 rw[hR] at p⊢;clear hu O m C v R F hd hG hs L T N A7 B s K o A1 A9 e' hR A0;generalize str (r.drop q.length)=RD at*;generalize str r=RR at*;generalize ((dep+q.length:Nat):Int)=DD at*;cases hX:aV G k (r.drop q.length) (dep+q.length) with
 |error l=>
  rw[hX] at n p;have B0:=P l hX;have A5:Hid (iD q (Except.error l)=.error l):=rfl;clear I J P p hX;go_enter func79,ntmps79
  go_wp2_with fail
  refine(z.out _ ((Q1 _ _).alloc (QU _) _)).mono ?_;rintro e w1 ⟨rfl,t⟩;have i:Hid (yW w w1):=((Q1 w.heap.size w).alloc (QU _) _).trans (t.mono (by simp));clear t z;go_wp2_with fail
  refine(n.out _ i.out).mono ?_;rintro e w2 ⟨rfl,D⟩;have A4:Hid (yW w w2):=i.out.trans (D.mono i.out.size);clear D n;go_wp2_with fail
  go_ret2
  exact⟨⟨rfl,A4.out⟩,fun h=>by cases h⟩
 |ok f=>
  rw[hX] at n p;have X:=fun W a u1=>I.out W a u1 f hX
  have Y:Hid (∀W a u1,yW w W->At a f (fun x=>j x\/W.heap.size<=x) (pV u1)->bG j W a->Calls yP 115 #[sV (str q),pV u1] a fun e w'=>∃u,e=rV (pV u)/\iy w S (.ok (aQ q f)) (rV (tV #[pV u,iV .i64 0])) w'):=X;have A6:Hid (iD q (Except.ok f)≠.ok .nil):=fun e=>by
   have h1:=p _ e;exact h1
  have A5:Hid (iD q (Except.ok f)=.ok (aQ q f)):=rfl;clear I X P p hX;go_enter func79,ntmps79
  go_wp2_with fail
  refine(z.out _ ((Q1 _ _).alloc (QU _) _)).mono ?_;rintro e w1 ⟨rfl,t⟩;have i:Hid (yW w w1):=((Q1 w.heap.size w).alloc (QU _) _).trans (t.mono (by simp));clear t z;go_wp2_with fail
  refine(n.out _ i.out).mono ?_;rintro e w2 ⟨u2,rfl,A,g⟩;obtain⟨d0,d2,B1⟩:=J.out w1 w2 i.out g;have Z:Hid (Calls yP 115 #[sV (str q),pV u2] w2 fun e w'=>∃u,e=rV (pV u)/\Hid (iy w S (.ok (aQ q f)) (rV (tV #[pV u,iV .i64 0])) w')):=Y.out w1 w2 u2 i.out A g;clear A g n Y J c0;generalize str q=Q at*;go_wp2_with fail
  refine Z.out.mono ?_;rintro e w3 ⟨u3,rfl,HF⟩;clear Z;go_wp2_with fail
  go_ret2
  exact⟨HF.out,fun h=>absurd h A6.out⟩
theorem uy:∀(q r),aF q (q++r)=q.length
 | [],r=>by cases r<;>rfl
 |x::q,r=>by simp[aF,uy q r]
theorem BD(q p)(h:aF q p=q.length):p=q++p.drop q.length:=by
 induction q generalizing p with
 |nil=>rfl
 |cons x q ih=>
  cases p with
  |nil=>simp[aF] at h
  |cons y p=>
   simp only[aF] at h;by_cases e:x=y
   ·rw[QX e] at h;have:=ih p (by simpa using h);rw[e];simpa using this
   ·rw[QW e] at h;simp at h
theorem Jz(q p):aF q p=q.length↔∃r,p=q++r:=⟨fun h=>⟨_,BD q p h⟩,fun⟨r,h⟩=>by rw[h];exact uy q r⟩
theorem kJ(h q v p):aG (.leaf h q v) p=if p=q then v else []:=by
 show(if(Nd.leaf h q v).kind≠2/\p=q then v else [])=_;by_cases e:p=q
 ·rw[QX ⟨fun h=>(by cases h),e⟩,QX e]
 ·rw[QW fun h=>e h.2,QW e]
theorem kK(h q k r):aG (.ext h q k) (q++r)=aG k r:=by
 show(if aF q (q++r)=q.length then aG k ((q++r).drop q.length) else [])=_;rw[QX (uy q r),List.drop_left]
theorem oE(h q k p)(a:∀r,p≠q++r):aG (.ext h q k) p=[]:=by
 show(if aF q p=q.length then _ else [])=_;rw[QW fun h=>let ⟨r,e⟩:=(Jz q p).1 h;a r e]
theorem zt(h)(t:Nd)(p):aG (t.gy h) p=aG t p:=by
 cases t<;>first|rfl| (cases p<;>rfl)
theorem zu(q v p):aG (da q v) p=if p=q then v else []:=by
 show aG ((Nd.leaf [] q v).gy _) p=_;rw[zt,kJ]
theorem pz(q k p):aG (fq q k) p=aG (.ext [] q k) p:=by
 show aG ((Nd.ext [] q k).gy _) p=_;exact zt _ _ _
theorem Oz(ks:Nat->Nd)(v p):aG (cP ks v) p=aG (.branch [] v ks) p:=by
 show aG ((Nd.branch [] v ks).gy _) p=_;exact zt _ _ _
theorem FD(q)(t:Nd)(a:t.some)(r):aG (aQ q t) (q++r)=aG t r:=by
 by_cases b:q=[]
 ·subst b;rw[lF];rfl
 ·cases t with
  |nil=>exact a.elim
  |unread h=>
   have e:aQ q (.unread h)=fq q (.unread h):=by simp only[aQ];rw[QW b]
   rw[e,pz,kK]
  |leaf h p v=>
   have e:aQ q (.leaf h p v)=da (q++p) v:=by simp only[aQ];rw[QW b]
   rw[e,zu,kJ];by_cases e2:r=p
   ·rw[QX (by rw[e2]),QX e2]
   ·rw[QW fun h=>e2 (RZ h),QW e2]
  |ext h p k=>
   have e:aQ q (.ext h p k)=fq (q++p) k:=by simp only[aQ];rw[QW b]
   rw[e,pz];by_cases c:∃s,r=p++s
   ·obtain⟨s,rfl⟩:=c;rw[<-Rn,kK,kK]
   ·rw[oE _ p k r fun s a=>c ⟨s,a⟩,oE];intro s a;rw[Rn] at a;exact c ⟨s,RZ a⟩
  |branch h v ks=>
   have e:aQ q (.branch h v ks)=fq q (.branch h v ks):=by simp only[aQ];rw[QW b]
   rw[e,pz,kK]
theorem zv(q t p)(a:∀r,p≠q++r):aG (aQ q t) p=[]:=by
 have b:q≠[]:=fun e=>a p (by rw[e];rfl)
 cases t with
 |nil=>
  have e:aQ q .nil=fq q .nil:=by simp only[aQ];rw[QW b]
  rw[e,pz];exact oE _ _ _ _ a
 |unread h=>
  have e:aQ q (.unread h)=fq q (.unread h):=by simp only[aQ];rw[QW b]
  rw[e,pz];exact oE _ _ _ _ a
 |leaf h p' v=>
  have e:aQ q (.leaf h p' v)=da (q++p') v:=by simp only[aQ];rw[QW b]
  rw[e,zu,QW fun h=>a p' h]
 |ext h p' k=>
  have e:aQ q (.ext h p' k)=fq (q++p') k:=by simp only[aQ];rw[QW b]
  rw[e,pz];exact oE _ _ _ _ fun r h=>a (p'++r) (by rw[h,Rn])
 |branch h v ks=>
  have e:aQ q (.branch h v ks)=fq q (.branch h v ks):=by simp only[aQ];rw[QW b]
  rw[e,pz];exact oE _ _ _ _ a
theorem IQ{a b:UInt8}(h:a.toNat=b.toNat):a=b:=UInt8.toNat_inj.1 h
theorem DF:∀(t) (p a v),lP t->ak p->v≠[]->((⟨a++p,false,v⟩:En)∈bB t a↔aG t p=v):=by
 intro t;induction t with
 |nil=>intro p a v _ _ hv;exact⟨(fun h=>by cases h),(fun h=>absurd h.symm hv)⟩
 |unread h=>
  intro p a v _ _ hv;refine⟨fun h=>?_,fun h=>absurd h.symm hv⟩;have:=congrArg En.stub (Q2.1 h);cases this
 |leaf h q x=>
  intro p a v _ _ hv;have hf:aG (.leaf h q x) p=if p=q then x else []:=by
   show(if(Nd.leaf h q x).kind≠2/\p=(Nd.leaf h q x).path then(Nd.leaf h q x).value else [])=_;by_cases e:p=q
   ·rw[QX e,QX ⟨by show(1:Nat)≠2;omega,e⟩];rfl
   ·rw[QW e,QW fun h=>e h.2]
  rw[hf];constructor
  ·intro h1;have h2:=Q2.1 h1;have h3:a++p=a++q:=congrArg En.p h2;have h4:v=x:=congrArg En.t h2;rw[QX (RZ h3),h4]
  ·intro h1;by_cases e:p=q
   ·rw[QX e] at h1;subst e h1;exact Q2.2 rfl
   ·rw[QW e] at h1;exact absurd h1.symm hv
 |ext x y k ih=>
  intro p a v hn hp hv;simp only[aG];by_cases e:aF y p=y.length
  ·rw[QX e];have:=ih (p.drop y.length) (a++y) v hn.2.2 (cS hp _) hv;rw[Rn,xw y p e] at this;exact this
  ·rw[QW e];refine⟨fun h=>?_,fun h=>absurd h.symm hv⟩;obtain⟨r,hr⟩:=lI k (a++y) _ h;have h1:a++p=a++y++r:=hr;rw[Rn] at h1;have h2:=RZ h1;exact absurd (by rw[h2];exact rU y r) e
 |branch x w ks ih=>
  intro p a v hn hp hv;rw[iN];cases p with
  |nil=>
   rw[Rz];show _↔w=v;constructor
   ·rintro (⟨_,h⟩|⟨i,hi,h⟩)
    ·exact(congrArg En.t h).symm
    ·obtain⟨r,hr⟩:=lI _ _ _ h;have:=congrArg List.length hr;simp at this
   ·intro h;subst h;exact .inl ⟨hv,rfl⟩
  |cons c r=>
   have hc:c.toNat<16:=hp c (QY ..);have:=ih c.toNat r (a++[c]) v (hn _ hc) (fun z hz=>hp z (QZ _ hz)) hv;have A0:a++[c]++r=a++c::r:=by simp
   rw[A0] at this;show _↔aG (ks c.toNat) r=v;rw[<-this];constructor
   ·rintro (⟨_,h⟩|⟨i,hi,h⟩)
    ·have:=congrArg (fun e=>e.p.length) h;simp at this
    ·obtain⟨s,hs⟩:=lI _ _ _ h;have h1:a++c::r=a++[UInt8.ofNat i]++s:=hs;rw[Rn] at h1;have h2:=RZ h1;have h3:c=UInt8.ofNat i:=by simpa using(List.cons.inj h2).1
     rw[<-h3] at h;rwa [show i=c.toNat by rw[h3,RH];omega] at h
   ·intro h;exact .inr ⟨c.toNat,hc,by rw[kB];exact h⟩
theorem FA{t p v}(g:aI t)(a:lP t)(j:dw t p)(k:ak p)(c:v≠[])(i:lP (bF t p v))(x)(d:ak x):aG (bF t p v) x=if x=p then v else aG t x:=by
 have key:∀y,y≠[]->(aG (bF t p v) x=y↔(x=p/\y=v)\/(aG t x=y/\x≠p)):=fun y f=>by
  rw[<-DF (bF t p v) x [] y i d f,MH t p v [] _ g a j k c,SF,SF,<-DF t x [] y a d f,SF];constructor
  ·rintro (h|⟨h1,h2⟩)
   ·exact .inl ⟨congrArg En.p h,congrArg En.t h⟩
   ·exact .inr ⟨h1,h2.resolve_left fun h=>by cases h⟩
  ·rintro (⟨rfl,rfl⟩|⟨h1,h2⟩)
   ·exact .inl rfl
   ·exact .inr ⟨h1,.inr h2⟩
 by_cases e:x=p
 ·rw[QX e];exact(key v c).2 (.inl ⟨e,rfl⟩)
 ·rw[QW e];by_cases h0:aG t x=[]
  ·rw[h0];refine Sb fun b=>?_
   rcases(key _ b).1 rfl with⟨h1,_⟩|⟨h1,_⟩
   ·exact e h1
   ·exact b (h1.symm.trans h0)
  ·exact(key _ h0).2 (.inr ⟨rfl,e⟩)
def bA:Nd->Prop
 | .unread _=>False
 | .ext _ _ k=>bA k
 | .branch _ _ ks=>∀i,i<16->bA (ks i)
 | _=>True
theorem qp{G t d bl}(h:bA t):cf G t d bl=.ok t:=by
 cases t<;>first|exact h.elim|rfl
theorem o8:∀{t p},bA t->ak p->dw t p:=by
 intro t;induction t with
 |nil=>intro p _ _;trivial
 |unread _=>intro p h _;exact h.elim
 |leaf _ _ _=>intro p _ _;trivial
 |ext h q k ih=>intro p b a _;exact ih b (cS a _)
 |branch h v ks ih=>
  intro p b a;cases p with
  |nil=>trivial
  |cons c r=>exact ih _ (b _ (a c (QY ..))) fun y d=>a y (QZ _ d)
theorem oD{h v ks}(c:UInt8)(r):aG (.branch h v ks) (c::r)=aG (ks c.toNat) r:=rfl
theorem FB{G ks v dep b}(f:∀i,i<16->bA (ks i))(h:bR G ks v dep=.ok b)(x)(a:ak x):aG b x=aG (.branch [] v ks) x:=by
 unfold bR at h;by_cases h0:bU ks 16=0
 ·rw[QX h0] at h;cases h;rw[zu];cases x with
  |nil=>rw[QX rfl];rfl
  |cons c r=>
   rw[QW (fun h=>by cases h),oD,vC ks 16 h0 _ (a c (QY ..))];rfl
 ·rw[QW h0] at h;by_cases h2:1<bU ks 16\/v≠[]
  ·rw[QX h2] at h;cases h;exact Oz ks v x
  ·rw[QW h2] at h;obtain⟨j,k⟩:=lC ks 16 (by omega);rw[qp (f _ j)] at h;cases h
   have l:v=[]:=Sb fun h=>h2 (.inr h)
   have h1:bU ks 16=1:=by
    have:¬1<bU ks 16:=fun h=>h2 (.inl h)
    omega
   cases x with
   |nil=>
    rw[zv _ _ _ (fun r h=>by cases h)];exact l.symm
   |cons c r=>
    have g:=a c (QY ..);rw[oD];by_cases e:c.toNat=cD ks 16
    ·have e2:c=UInt8.ofNat (cD ks 16):=by rw[<-e];simp
     have e3:c::r=[UInt8.ofNat (cD ks 16)]++r:=by rw[<-e2];rfl
     rw[e3,FD _ _ k,e]
    ·rw[Z9 ks 16 h1 _ g e,zv]
     ·rfl
     ·intro m d;have e4:=(List.cons.inj d).1;apply e;rw[e4,RH];omega
theorem np(G:yB->Option yB):∀(t) (p) (dep:Nat) (t'),aw t dep->bD t->bA t->jo t p->ak p->dep+p.length<=80->aV G t p dep=.ok t'->∀x,ak x->aG t' x=if x=p then [] else aG t x:=by
 intro t;induction t with
 |nil=>intro p dep t' _ _ _ hh;exact hh.elim
 |unread _=>intro p dep t' _ _ _ hh;exact hh.elim
 |leaf h q v=>
  intro p dep t' _ _ _ hh _ _ hl x _;cases hl
  have B0:q=p:=hh;rw[kJ];show([]:yL)=_;by_cases e:x=p
  ·rw[QX e]
  ·rw[QW e,QW (by rw[B0];exact e)]
 |ext h q k ih=>
  intro p dep t' hK hL ha hh hp hd hl x hx;have ho:dw (.ext h q k) p:=o8 ha hp;have B1:=yy hK hL ho hh hp hd (.inl rfl) hl;obtain⟨he,A2⟩:=hh;have A3:=BD q p he;have A0:iD q (aV G k (p.drop q.length) (dep+q.length))=.ok t':=hl;cases hk:aV G k (p.drop q.length) (dep+q.length) with
  |error c=>rw[hk] at A0;cases A0
  |ok k'=>
   rw[hk] at A0;cases A0;have A8:=(g9 q p).2;rw[he] at A8;have A6:k.kind=3:=by
    have hf:=hK.bu.2.1;have A9:=ho he;cases k<;>first|exact hf.elim|exact A9.elim|rfl
   have A7:=(kD G k _ _ k' (dY hK) hL.loose (ho he) A2 (cS hp _) (by rw[Q8];omega) hk).2 A6;have IH:=ih (p.drop q.length) (dep+q.length) k' (dY hK) hL.loose ha A2 (cS hp _) (by rw[Q8];omega) hk;by_cases A1:∃r,x=q++r
   ·obtain⟨r,rfl⟩:=A1;have hr:ak r:=fun y hy=>hx y (Ru _ hy)
    rw[FD _ _ A7,kK,IH r hr];by_cases e:r=p.drop q.length
    ·rw[QX e,QX (by rw[e];exact A3.symm)]
    ·rw[QW e,QW];intro e2;apply e;rw[A3] at e2;rw[RZ e2]
   ·rw[zv _ _ _ fun r hr=>A1 ⟨r,hr⟩,oE _ _ _ _ fun r hr=>A1 ⟨r,hr⟩];by_cases e:x=p
    ·rw[QX e]
    ·rw[QW e]
 |branch h v ks ih=>
  intro p dep t' hK hL ha hh hp hd hl x hx;cases p with
  |nil=>
   rw[FB (v:=[]) ha hl x hx];cases x with
   |nil=>rw[QX rfl];rfl
   |cons c r=>rw[QW (fun h=>by cases h)];rfl
  |cons c r=>
   have hc:=hp c (QY ..);have hr:ak r:=fun y hy=>hp y (QZ _ hy)
   have A0:lU (fun k=>bR G (aD ks c.toNat k) v dep) (aV G (ks c.toNat) r (dep+1))=.ok t':=hl;cases hk:aV G (ks c.toNat) r (dep+1) with
   |error e=>rw[hk] at A0;cases A0
   |ok k'=>
    rw[hk] at A0;have A4:∀i,i<16->cR (ks i):=hL;have IH:=ih c.toNat r (dep+1) k' (di hK _ hc) (A4 _ hc).loose (ha _ hc) hh hr (by simp at hd;omega) hk;have A5:∀i,i<16->bA (aD ks c.toNat k' i):=fun i hi=>by
     by_cases e:i=c.toNat
     ·subst e;rw[df];exact less_all G _ _ _ _ (ha _ hc) hk
     ·rw[dJ _ _ _ _ e];exact ha i hi
    rw[FB A5 A0 x hx];cases x with
    |nil=>rw[QW (fun h=>by cases h)];rfl
    |cons d y=>
     rw[oD,oD];by_cases e:d.toNat=c.toNat
     ·have e2:d=c:=IQ e;subst e2;rw[df,IH y fun z hz=>hx z (QZ _ hz)];by_cases e3:y=r
      ·rw[QX e3,QX (by rw[e3])]
      ·rw[QW e3,QW fun h=>e3 (List.cons.inj h).2]
     ·rw[dJ _ _ _ _ e,QW fun h=>e (by rw[(List.cons.inj h).1])]
 where
  join_all {q:yL} {k:Nd} (h:bA k):bA (aQ q k):=by
   by_cases hq:q=[]
   ·rw[hq,lF];exact h
   ·cases k with
    |nil=>simp only[aQ];rw[QW hq];exact h
    |unread _=>exact h.elim
    |leaf _ _ _=>simp only[aQ];rw[QW hq];trivial
    |ext _ _ k=>simp only[aQ];rw[QW hq];exact h
    |branch _ _ ks=>simp only[aQ];rw[QW hq];exact h
  shrink_all (G:yB->Option yB) (ks:Nat->Nd) (v:yL) (dep:Nat) (t':Nd) (ha:∀i,i<16->bA (ks i)) (h:bR G ks v dep=.ok t'):bA t':=by
   unfold bR at h;split at h
   ·cases h;trivial
   ·split at h
    ·cases h;exact ha
    ·next h0 _=>
     obtain⟨hl,_⟩:=lC ks 16 (by omega);rw[qp (ha _ hl)] at h;cases h
     exact join_all (ha _ hl)
  less_all (G:yB->Option yB):∀(t:Nd) (p:yL) (dep:Nat) (t':Nd),bA t->aV G t p dep=.ok t'->bA t':=by
   intro t;induction t with
   |nil=>intro p dep t' _ h;cases h;trivial
   |unread _=>intro p dep t' h;exact h.elim
   |leaf _ _ _=>intro p dep t' _ h;cases h;trivial
   |ext h q k ih=>
    intro p dep t' ha hl;have A0:iD q (aV G k (p.drop q.length) (dep+q.length))=.ok t':=hl;cases hk:aV G k (p.drop q.length) (dep+q.length) with
    |error c=>rw[hk] at A0;cases A0
    |ok k'=>rw[hk] at A0;cases A0;exact join_all (ih _ _ _ ha hk)
   |branch h v ks ih=>
    intro p dep t' ha hl;cases p with
    |nil=>exact shrink_all G ks [] dep t' ha hl
    |cons c r=>
     have A0:lU (fun k=>bR G (aD ks c.toNat k) v dep) (aV G (ks c.toNat) r (dep+1))=.ok t':=hl;cases hk:aV G (ks c.toNat) r (dep+1) with
     |error e=>rw[hk] at A0;cases A0
     |ok k'=>
      rw[hk] at A0;refine shrink_all G _ v dep t' (fun i hi=>?_) A0;by_cases e:i=c.toNat
      ·subst e;rw[df];exact ih _ _ _ _ (ha _ hi) hk
      ·rw[dJ _ _ _ _ e];exact ha i hi
def gw(Q:yL->Prop):Nd->Prop
 | .leaf h p v=>h≠[]->Q (Nd.leaf h p v).code
 | .ext h p k=>(h≠[]->Q (Nd.ext h p k).code)/\gw Q k
 | .branch h v ks=>(h≠[]->Q (Nd.branch h v ks).code)/\∀i,i<16->gw Q (ks i)
 | _=>True
def Part(Q:yL->Prop):Nd->Nd->Prop
 | .nil,F=>F=.nil
 | .unread h,F=>F.read/\h=dS F.code/\Q F.code/\gw Q F
 | .leaf _ p v,F=>∃h,F=.leaf h p v
 | .ext _ p k,F=>∃h kF,F=.ext h p kF/\Part Q k kF/\k.hash=kF.hash
 | .branch _ v ks,F=>∃h kFs,F=.branch h v kFs/\∀i,i<16->Part Q (ks i) (kFs i)/\(ks i).hash=(kFs i).hash
theorem gw.mono{Q d}(b:∀c,Q c->d c):∀{t},gw Q t->gw d t:=by
 intro t;induction t with
 |nil=>exact id
 |unread _=>exact id
 |leaf h p v=>exact fun h a=>b _ (h a)
 |ext h p k ih=>exact fun h=>⟨fun a=>b _ (h.1 a),ih h.2⟩
 |branch h v ks ih=>exact fun h=>⟨fun a=>b _ (h.1 a),fun i hi=>ih i (h.2 i hi)⟩
theorem Part.mono{Q b}(d:∀c,Q c->b c):∀{t F},Part Q t F->Part b t F:=by
 intro t;induction t with
 |nil=>exact id
 |unread _=>exact fun h=>⟨h.1,h.2.1,d _ h.2.2.1,h.2.2.2.mono d⟩
 |leaf h p v=>exact id
 |ext h p k ih=>rintro F ⟨a,f,e,h1,h2⟩;exact⟨a,f,e,ih h1,h2⟩
 |branch h v ks ih=>rintro F ⟨a,g,e,h1⟩;exact⟨a,g,e,fun i hi=>⟨ih i (h1 i hi).1,(h1 i hi).2⟩⟩
theorem Part.nil{Q t F}(h:Part Q t F):t.isNil=F.isNil:=by
 cases t with
 |nil=>rw[show F=.nil from h]
 |unread _=>have:=h.1;cases F<;>first|exact this.elim|rfl
 |leaf _ _ _=>obtain⟨a,rfl⟩:=h;rfl
 |ext _ _ _=>obtain⟨a,b,rfl,_⟩:=h;rfl
 |branch _ _ _=>obtain⟨a,b,rfl,_⟩:=h;rfl
theorem Part.same{Q t F}(h:Part Q t F):t.some↔F.some:=by
 rw[<-gn,<-gn,h.nil]
theorem Part.read{Q t F}(h:Part Q t F)(b:t.some):F.read:=by
 cases t with
 |nil=>exact b.elim
 |unread _=>exact h.1
 |leaf _ _ _=>obtain⟨a,rfl⟩:=h;trivial
 |ext _ _ _=>obtain⟨a,c,rfl,_⟩:=h;trivial
 |branch _ _ _=>obtain⟨a,c,rfl,_⟩:=h;trivial
theorem Part.qo{Q k c}(e:aI k)(h:Part Q k c)(d:k.hash=c.hash)(hi:k.read->k.item=c.item):k.ref=c.ref:=by
 by_cases b:k.some
 ·have f:=h.same.1 b;by_cases a:k.hash=[]
  ·have g:k.read:=by
    cases k with
    |nil=>exact b.elim
    |unread x=>rw[show x=[] from a] at e;cases e
    | _=>trivial
   rw[lu b a,lu f (d▸a),hi g]
  ·rw[js b a,js f (d▸a),d]
 ·have e1:k=.nil:=by cases k<;>first|rfl|exact absurd trivial b
  subst e1;rw[show c=.nil from h]
theorem Part.item{Q}:∀{t F},aI t->Part Q t F->t.read->t.item=F.item:=by
 intro t;induction t with
 |nil=>intro F _ _ h;exact h.elim
 |unread _=>intro F _ _ h;exact h.elim
 |leaf _ _ _=>rintro F _ ⟨b,rfl⟩ _;rfl
 |ext h p k ih=>
  rintro F a ⟨b,c,rfl,h1,h2⟩ _;show bH [_,k.ref]=bH [_,c.ref];rw[h1.qo a.2.2.2.2 h2 (ih a.2.2.2.2 h1)]
 |branch h v ks ih=>
  rintro F a ⟨b,d,rfl,h1⟩ _;show bH ((List.range 16).map (fun i=>(ks i).ref)++[ay v])=bH ((List.range 16).map (fun i=>(d i).ref)++[ay v]);congr 2;refine Sq fun i hi=>?_
  have hi:=Sg.1 hi;exact(h1 i hi).1.qo (a.2.2 i hi) (h1 i hi).2 (ih i (a.2.2 i hi) (h1 i hi).1)
theorem Part.code{Q t F}(a:aI t)(h:Part Q t F)(b:t.read):t.code=F.code:=by
 unfold Nd.code;rw[h.item a b]
theorem Part.ref{Q k a}(b:aI k)(h:Part Q k a)(c:k.hash=a.hash):k.ref=a.ref:=h.qo b c (h.item b)
theorem Part.root{Q t F}(a:aI t)(g:aI F)(h:Part Q t F):bM t=bM F:=by
 have d:∀n:Nd,aI n->n.read->bM n=dS n.code:=fun n f c=>by
  have b:n.some:=by cases n<;>first|exact c.elim|trivial
  have i:iW n:=by
   cases n with
   |nil=>exact c.elim
   |unread _=>exact c.elim
   |leaf _ _ _=>exact f.1
   |ext _ _ _=>exact f.1
   |branch _ _ _=>exact f.1
  rw[nN b];by_cases e:n.hash=[]
  ·rw[QX e]
  ·rw[QW e];rcases i with h|h
   ·unfold fv at h;split at h
    ·exact h
    ·exact absurd h e
   ·exact h
 by_cases b:t.some
 ·have c:=h.read b;rw[d F g c];cases t with
  |nil=>exact b.elim
  |unread x=>
   have j:(Nd.unread x).hash≠[]:=fun e=>by rw[show x=[] from e] at a;cases a
   rw[nN b,QW j];exact h.2.1
  |leaf _ _ _=>rw[d _ a trivial,h.code a trivial]
  |ext _ _ _=>rw[d _ a trivial,h.code a trivial]
  |branch _ _ _=>rw[d _ a trivial,h.code a trivial]
 ·have e1:t=.nil:=by cases t<;>first|rfl|exact absurd trivial b
  subst e1;rw[show F=.nil from h]
theorem Part.find{Q}:∀{t F p},Part Q t F->dw t p->ak p->aG t p=aG F p:=by
 intro t;induction t with
 |nil=>intro F p h _ _;rw[show F=.nil from h]
 |unread _=>intro F p _ h _;exact h.elim
 |leaf _ _ _=>rintro F p ⟨d,rfl⟩ _ _;rw[kJ,kJ]
 |ext h q k ih=>
  rintro F p ⟨d,g,rfl,h1,h2⟩ b a;show(if aF q p=q.length then aG k (p.drop q.length) else [])=(if aF q p=q.length then aG g (p.drop q.length) else []);by_cases e:aF q p=q.length
  ·rw[QX e,QX e];exact ih h1 (b e) (cS a _)
  ·rw[QW e,QW e]
 |branch h v ks ih=>
  rintro F p ⟨d,i,rfl,h1⟩ b a;cases p with
  |nil=>rfl
  |cons c r=>
   show aG (ks c.toNat) r=aG (i c.toNat) r;exact ih c.toNat (h1 _ (a c (QY ..))).1 b fun y f=>a y (QZ _ f)
theorem Part.refl{Q}:∀{t},bA t->Part Q t t:=by
 intro t;induction t with
 |nil=>intro _;rfl
 |unread _=>intro h;exact h.elim
 |leaf h p v=>intro _;exact⟨h,rfl⟩
 |ext h p k ih=>intro a;exact⟨h,k,rfl,ih a,rfl⟩
 |branch h v ks ih=>intro a;exact⟨h,ks,rfl,fun i hi=>⟨ih i (a i hi),rfl⟩⟩
theorem Part.dY{Q h q k F}(a:Part Q (.ext h q k) F):∃h' kF,F=.ext h' q kF/\Part Q k kF/\k.hash=kF.hash:=a
theorem Part.di{Q h v ks F}(a:Part Q (.branch h v ks) F):∃h' kFs,F=.branch h' v kFs/\∀i,i<16->Part Q (ks i) (kFs i)/\(ks i).hash=(kFs i).hash:=a
def gD(Q:yL->Prop)(t F:Nd):Prop:=Part Q t F/\t.hash=F.hash
theorem qx{Q}(p v):gD Q (da p v) (da p v):=⟨⟨_,rfl⟩,rfl⟩
theorem uP{Q q k a}(b:aI k)(h:gD Q k a):gD Q (fq q k) (fq q a):=by
 refine⟨⟨_,a,rfl,h.1,h.2⟩,?_⟩;show(Nd.ext [] q k).mk.hash=(Nd.ext [] q a).mk.hash;rw[sS (.ext [] q k) trivial,sS (.ext [] q a) trivial];unfold Nd.code;have:(Nd.ext [] q k).item=(Nd.ext [] q a).item:=by
  show bH [_,k.ref]=bH [_,a.ref];rw[h.1.ref b h.2]
 rw[this]
theorem uQ{Q v ks a}(b:∀i,i<16->aI (ks i))(h:∀i,i<16->gD Q (ks i) (a i)):gD Q (cP ks v) (cP a v):=by
 refine⟨⟨_,a,rfl,h⟩,?_⟩;show(Nd.branch [] v ks).mk.hash=(Nd.branch [] v a).mk.hash;rw[sS (.branch [] v ks) trivial,sS (.branch [] v a) trivial];unfold Nd.code;have:(Nd.branch [] v ks).item=(Nd.branch [] v a).item:=by
  show bH ((List.range 16).map (fun i=>(ks i).ref)++[ay v])=bH ((List.range 16).map (fun i=>(a i).ref)++[ay v]);congr 2;refine Sq fun i hi=>?_
  have hi:=Sg.1 hi;exact(h i hi).1.ref (b i hi) (h i hi).2
 rw[this]
theorem uO{Q q k b}(c:aI k)(h:gD Q k b)(g:k.some)(i:∀x,k=.unread x->q≠[]->b.fw):gD Q (aQ q k) (aQ q b):=by
 by_cases a:q=[]
 ·subst a;rw[lF,lF];exact h
 ·cases k with
  |nil=>exact g.elim
  |unread x=>
   have d:=i x rfl a;have f:=h.1.read trivial;cases b with
   |branch x' v ks=>simp only[aQ,QW a];exact uP c h
   |unread _=>exact f.elim
   |nil=>exact d.elim
   |leaf _ _ _=>exact d.elim
   |ext _ _ _=>exact d.elim
  |leaf x p v=>
   obtain⟨⟨e,rfl⟩,_⟩:=h;simp only[aQ,QW a];exact qx _ _
  |ext x p k2=>
   obtain⟨⟨e,j,rfl,h1,h2⟩,_⟩:=h;simp only[aQ,QW a];exact uP c.2.2.2.2 ⟨h1,h2⟩
  |branch x v ks=>
   obtain⟨e,l,rfl,_⟩:=h.1;simp only[aQ,QW a];exact uP c h
theorem uN{Q ks b k a c}(h:∀i,i<16->gD Q (ks i) (b i))(d:gD Q k a):∀i,i<16->gD Q (aD ks c k i) (aD b c a i):=fun i hi=>by
 by_cases e:i=c
 ·subst e;rw[df,df];exact d
 ·rw[dJ _ _ _ _ e,dJ _ _ _ _ e];exact h i hi
theorem vN{ks k c}(h:∀i,i<16->aI (ks i))(a:aI k):∀i,i<16->aI (aD ks c k i):=fun i hi=>by
 by_cases e:i=c
 ·subst e;rw[df];exact a
 ·rw[dJ _ _ _ _ e];exact h i hi
theorem Cy{Q}{n a:Nd}{p v:yL}{s}(c:n.kind=1\/n.kind=2)(b:aI n)(o:aI a)(h:Part Q n a)(z:ak p)(C:p.length<=80)(m:v.length<=160):gD Q (eM n p v s) (eM a p v s):=by
 have e:n.path=a.path/\n.value=a.value:=by
  cases n with
  |leaf _ _ _=>obtain⟨d,rfl⟩:=h;exact⟨rfl,rfl⟩
  |ext _ _ _=>obtain⟨d,B,rfl,_⟩:=h;exact⟨rfl,rfl⟩
  | _=>rcases c with h|h<;>cases h
 have x:ak n.path/\n.path.length<=80:=by
  cases n with
  |leaf _ _ _=>exact⟨b.2.1,b.2.2.1⟩
  |ext _ _ _=>exact⟨b.2.1,b.2.2.1⟩
  | _=>rcases c with h|h<;>cases h
 have A:∀q,gD Q (fU n q) (fU a q):=fun q=>by
  cases n with
  |leaf _ _ _=>obtain⟨d,rfl⟩:=h;exact qx _ _
  |ext _ _ k=>
   obtain⟨d,B,rfl,h1,h2⟩:=h;exact uO b.2.2.2.2 ⟨h1,h2⟩ (nk b.2.2.2.1) fun _ _ _=>o.2.2.2.1
  | _=>rcases c with h|h<;>cases h
 have w:∀q,ak q->q.length<=80->aI (fU n q):=fun q h1 h2=>Fy c h1 h2 b
 have l:∀i,i<16->gD Q .nil .nil:=fun _ _=>⟨rfl,rfl⟩
 have f:∀i,i<16->gD Q (dG n s i) (dG a s i):=by
  unfold dG;rw[<-e.1];split
  ·exact uN l (A _)
  ·exact l
 have g:∀i,i<16->aI (dG n s i):=by
  unfold dG;split
  ·exact vN (fun _ _=>trivial) (w _ (cS x.1 _) (by rw[Q8];omega))
  ·exact fun _ _=>trivial
 have r:∀i,i<16->gD Q (cM n p v s i) (cM a p v s i):=by
  unfold cM;split
  ·exact uN f (qx _ _)
  ·exact f
 have j:∀i,i<16->aI (cM n p v s i):=by
  unfold cM;split
  ·exact vN g (oB (cS z _) (by rw[Q8];omega) m)
  ·exact g
 have t:dy n p v s=dy a p v s:=by unfold dy;rw[e.1,e.2]
 have y:n.value.length<=160:=by
  cases n with
  |leaf _ _ _=>exact b.2.2.2
  |ext _ _ _=>exact Ri _
  | _=>rcases c with h|h<;>cases h
 have u:(dy n p v s).length<=160:=by
  unfold dy;split
  ·split
   ·exact Ri _
   ·exact y
  ·exact m
 unfold eM;rw[<-t];exact uO (oC u j) (uQ j r) trivial fun _ h=>by cases h
theorem Lj{Q}:∀{t F} {p v:yL},aI t->aI F->Part Q t F->dw t p->ak p->p.length<=80->v.length<=160->gD Q (bF t p v) (bF F p v):=by
 intro t;induction t with
 |nil=>intro F p v _ _ h _ _ _ _;rw[show F=.nil from h];exact qx _ _
 |unread _=>intro F p v _ _ _ h;exact h.elim
 |leaf h q x=>
  intro F p v a g f _ b i d;obtain⟨n,e⟩:=id f;have m:=Cy (s:=aF q p) (.inl rfl) a g f b i d;subst e;simp only[bF];split
  ·exact qx _ _
  ·exact m
 |ext h q k ih=>
  intro F p v a g f j b i d;obtain⟨n,A,e,h1,h2⟩:=id f;have m:=Cy (s:=aF q p) (.inr rfl) a g f b i d;subst e;simp only[bF];split
  ·next e=>
   have o:(p.drop q.length).length<=80:=by rw[Q8];omega
   exact uP (s6 a.2.2.2.2 (j e) (cS b _) o d) (ih a.2.2.2.2 g.2.2.2.2 h1 (j e) (cS b _) o d)
  ·exact m
 |branch h x ks ih=>
  intro F p v a g f j b i d;obtain⟨n,B,rfl,h1⟩:=f;cases p with
  |nil=>exact uQ a.2.2 h1
  |cons c r=>
   have l:=b c (QY ..);have u:ak r:=fun y z=>b y (QZ _ z)
   have w:r.length<=80:=by simp at i;omega
   exact uQ (vN a.2.2 (s6 (a.2.2 _ l) j u w d)) (uN h1 (ih _ (a.2.2 _ l) (g.2.2 _ l) (h1 _ l).1 j u w d))
theorem gw.own{Q t}(h:gw Q t)(b:t.read)(a:t.hash≠[]):Q t.code:=by
 cases t with
 |nil=>exact b.elim
 |unread _=>exact b.elim
 |leaf _ _ _=>exact h a
 |ext _ _ _=>exact h.1 a
 |branch _ _ _=>exact h.1 a
theorem EU{c}(h:fv c≠[]):fv c=dS c/\32<=c.length:=by
 unfold fv at h⊢;split
 ·next e=>exact⟨rfl,e⟩
 ·next e=>rw[QW e] at h;exact absurd rfl h
theorem cR.Dy{t}(h:cR t)(b:t.read)(a:t.hash≠[]):t.hash=dS t.code/\32<=t.code.length:=by
 have h1:=h.named b;rw[h1] at a⊢;exact EU a
theorem aI.ET{t}(h:aI t)(a:t.read):iW t:=by
 cases t with
 |nil=>exact a.elim
 |unread _=>exact a.elim
 |leaf _ _ _=>exact h.1
 |ext _ _ _=>exact h.1
 |branch _ _ _=>exact h.1
theorem bA.read{t}(h:bA t)(a:t.some):t.read:=by
 cases t<;>first|exact a.elim|exact h.elim|trivial
def Tx:Nd->Nd->Prop
 | .nil,F=>F=.nil
 | .unread h,F=>F.some/\h=F.hash/\h≠[]
 | .leaf _ p v,F=>∃h,F=.leaf h p v
 | .ext _ p k,F=>∃h kF,F=.ext h p kF/\Tx k kF/\k.hash=kF.hash/\(k.read->k.hash=[])
 | .branch _ v ks,F=>∃h kFs,F=.branch h v kFs/\∀i,i<16->Tx (ks i) (kFs i)/\(ks i).hash=(kFs i).hash/\((ks i).read->(ks i).hash=[])
def SY(k a:Nd):Prop:=Tx k a/\k.hash=a.hash/\(k.read->k.hash=[])
theorem Tx.nil{t F}(h:Tx t F):t.isNil=F.isNil:=by
 cases t with
 |nil=>rw[show F=.nil from h]
 |unread _=>exact((gn F).2 h.1).symm
 |leaf _ _ _=>obtain⟨a,rfl⟩:=h;rfl
 |ext _ _ _=>obtain⟨a,b,rfl,_⟩:=h;rfl
 |branch _ _ _=>obtain⟨a,b,rfl,_⟩:=h;rfl
def SZ(d:Nat):Prop:=∀(F:Nd) (dep:Nat) (bl:Bool),bK d F.item=true->aw F dep->F.read->(bl=true->F.fw)->
 ∃m,aT d F.item dep bl=some m/\Tx m F/\m.hash=[]
theorem S4{d}(ih:SZ d)(k:Nd)(dep:Nat)(bl:Bool)(hf:bK d k.ref=true)(hK:aw k dep)(hb:bl=true->k.fw):
 ∃k',jk (aT d) k.ref dep bl=some k'/\SY k' k:=by
 by_cases hs:k.some
 ·by_cases he:k.hash=[]
  ·have hr:k.read:=by
    cases k with
    |nil=>exact hs.elim
    |unread x=>
     have h2:x.length=32:=hK.aJ;rw[show x=[] from he] at h2;cases h2
    | _=>trivial
   have A2:=(hK.aJ.ET hr).short he;have h6:bK 6 k.item=true:=(hK.aJ.nw hr).1;rw[lu hs he] at hf⊢;have A1:∀t,k.item≠ay t:=fun t e=>by
    obtain⟨ks,e2⟩:=yS k;rw[e2] at e;cases e
   obtain⟨m,h1,h2,h3⟩:=ih k dep bl hf hK hr hb;refine⟨m,?_,h2,by rw[h3,he],fun _=>h3⟩;rw[vB _ _ _ _ A1];have hc:(bm 6 k.item).length<32:=A2;have A0:fg (bm 6 k.item)=true:=by unfold fg;exact Ra (by omega)
   rw[QW]
   ·exact h1
   ·rintro (h|h)
    ·apply h;unfold eg;rw[QX h6,QX A0]
    ·unfold fy at h;rw[QX h6,su _ A0,aH] at h;omega
  ·have hl:k.hash.length=32:=by
    cases k with
    |nil=>exact hs.elim
    |unread x=>exact hK.aJ
    |leaf _ _ _=>exact hK.aJ.1.two.resolve_left he
    |ext _ _ _=>exact hK.aJ.1.two.resolve_left he
    |branch _ _ _=>exact hK.aJ.1.two.resolve_left he
   have A3:=vS k dep hs hK.full hK.deep;rw[js hs he,vz,QW he,QW (by rintro (h|h);exact h hl;omega)];exact⟨_,rfl,⟨hs,rfl,he⟩,rfl,fun h=>h.elim⟩
 ·have e1:k=.nil:=by cases k<;>first|rfl|exact absurd trivial hs
  subst e1;exact⟨.nil,rfl,rfl,rfl,fun h=>h.elim⟩
theorem S5:∀d,d<=6->SZ d:=by
 intro d;induction d with
 |zero=>
  intro _ F dep bl hf;obtain⟨ks,e⟩:=yS F;rw[e] at hf;cases hf
 |succ d ih=>
  intro hd F dep bl hf hK hr hb;have ih:=ih (by omega);cases F with
  |nil=>exact hr.elim
  |unread _=>exact hr.elim
  |leaf h p v=>
   have A1:bl=false:=by cases bl with|false=>rfl|true=>exact(hb rfl).elim
   subst A1;obtain⟨f1,f2,f3⟩:=CD p true hK.aJ.2.1;refine⟨.leaf [] p v,?_,⟨h,rfl⟩,rfl⟩;show je (aT d) (ay (cN p true)) (ay v) dep=_;show(if mj (cN p true)=false\/80<dep+(bd (cN p true)).length then none else if ft (cN p true)=true then(if v=[]\/160<v.length then none else some (Nd.leaf [] (bd (cN p true)) v)) else _)=_;rw[(sW _).2 f1,f2,f3];have h1:dep+p.length<=80:=hK.deep;have h2:v≠[]:=hK.bu;have h3:v.length<=160:=hK.aJ.2.2.2;rw[QW (by rintro (h|h);cases h;omega),QX rfl,QW (by rintro (h|h);exact h2 h;omega)]
  |ext h p k=>
   have A1:bl=false:=by cases bl with|false=>rfl|true=>exact(hb rfl).elim
   subst A1;obtain⟨f1,f2,f3⟩:=CD p false hK.aJ.2.1;have A2:bK d k.ref=true:=by
    have:bK (d+1) (bH [ay (cN p false),k.ref])=true:=hf;rw[mq,Sh] at this;exact Sp.1 this.2 _ (by simp)
   obtain⟨k',h1,h2⟩:=S4 ih k (dep+p.length) true A2 (dY hK) fun _=>hK.bu.2.1
   have hs:k'.isNil=false:=by rw[h2.1.nil];exact(gn _).2 (nk hK.bu.2.1)
   refine⟨.ext [] p k',?_,⟨h,k,rfl,h2⟩,rfl⟩;show je (aT d) (ay (cN p false)) k.ref dep=_;show(if mj (cN p false)=false\/80<dep+(bd (cN p false)).length then none else if ft (cN p false)=true then _ else match jk (aT d) k.ref (dep+(bd (cN p false)).length) true with
    |some k=>if k.isNil=true\/bd (cN p false)=[] then none else some (Nd.ext [] (bd (cN p false)) k)
    |none=>none)=_
   rw[(sW _).2 f1,f2,f3,h1];have h3:dep+p.length<=80:=hK.deep.1;rw[QW (by rintro (h|h);cases h;omega),QW (by decide)];show(if k'.isNil=true\/p=[] then none else some (Nd.ext [] p k'))=_;rw[QW (by rintro (h|h);rw[hs] at h;cases h;exact hK.bu.1 h)]
  |branch h v ks=>
   have A4:bK (d+1) (bH ((List.range 16).map (fun i=>(ks i).ref)++[ay v]))=true:=hf;rw[mq,Sh] at A4;have A2:∀i,i<16->bK d (ks i).ref=true:=fun i hi=>Sp.1 A4.2 _ (Rw _ (Rt.2 ⟨i,Sg.2 hi,rfl⟩))
   have A6:∀i,i<16->((List.range 16).map (fun i=>(ks i).ref)++[ay v]).getD i (ay [])=(ks i).ref:=fun i hi=>by
    rw[Q3,RA (by simp;exact hi),Rp,List.getElem?_range hi];rfl
   have A0:∀i,i<16->∃k',gm (aT d) ((List.range 16).map (fun i=>(ks i).ref)++[ay v]) dep i=some k'/\SY k' (ks i):=fun i hi=>by
    obtain⟨k',h1,h2⟩:=S4 ih (ks i) (dep+1) false (A2 i hi) (di hK i hi) fun h=>by cases h
    exact⟨k',by unfold gm;rw[A6 i hi];exact h1,h2⟩
   generalize hks:(List.range 16).map (fun i=>(ks i).ref)++[ay v]=L at*;have A3:L.length=17:=by rw[<-hks];simp
   have h16:L.getD 16 (ay [])=ay v:=by rw[<-hks];rfl
   have A7:∀n,n<=16->jW (aT d) L dep n=true:=fun n=>by
    induction n with
    |zero=>intro _;rfl
    |succ n ihn=>
     intro hn;obtain⟨k',h1,_⟩:=A0 n (by omega);simp only[jW,ihn (by omega),h1];rfl
   have A5:∀n,n<=16->cW v (fun i=>(gm (aT d) L dep i).getD .nil) n=cW v ks n:=fun n=>by
    induction n with
    |zero=>intro _;rfl
    |succ n ihn=>
     intro hn;obtain⟨k',h1,h2⟩:=A0 n (by omega);simp only[cW,ihn (by omega),h1,Option.getD_some,h2.1.nil]
   refine⟨.branch [] v (fun i=>(gm (aT d) L dep i).getD .nil),?_,⟨h,ks,rfl,fun i hi=>?_⟩,rfl⟩
   ·show aT (d+1) (bH ((List.range 16).map (fun i=>(ks i).ref)++[ay v])) dep bl=_;rw[hks];show(if L.length=2/\bl=false then _ else if L.length=17 then gW (aT d) L dep else none)=_;rw[QW (by rw[A3];rintro ⟨h,_⟩;cases h),QX A3];unfold gW;rw[h16];show(if 160<v.length then none else if jW (aT d) L dep 16=true/\2<=gS (aT d) L dep v 16 then _ else none)=_;have:=hK.aJ.2.1;rw[QW (by omega),QX ⟨A7 16 (QU _),by rw[yO,A5 16 (QU _)];exact hK.full.1⟩]
   ·obtain⟨k',h1,h2⟩:=A0 i hi;simp only[h1,Option.getD_some];exact h2
theorem Ty{Q}:∀(m F),Tx m F->bA F->bD F->(∀h,m=.unread h->cR F)->gw Q F->Part Q m F:=by
 intro m;induction m with
 |nil=>exact fun F h _ _ _ _=>h
 |unread x=>
  intro F h c _ l a;obtain⟨h1,h2,h3⟩:=h;have e:=c.read h1;have f:F.hash≠[]:=by rw[<-h2];exact h3
  exact⟨e,by rw[h2];exact((l x rfl).Dy e f).1,a.own e f,a⟩
 |leaf _ _ _=>exact fun F h _ _ _ _=>h
 |ext _ p k ih=>
  rintro F ⟨d,g,rfl,h1,h2,_⟩ c b _ a;exact⟨d,g,rfl,ih g h1 c b.loose (fun _ _=>b) a.2,h2⟩
 |branch _ v ks ih=>
  rintro F ⟨d,j,rfl,h1⟩ c b _ a;exact⟨d,j,rfl,fun i hi=>⟨ih i (j i) (h1 i hi).1 (c i hi) (b i hi).loose (fun _ _=>b i hi) (a.2 i hi),(h1 i hi).2.1⟩⟩
theorem Lg{Q F dep bl}(b:aw F dep)(d:bD F)(f:bA F)(a:F.read)(k:gw Q F)(g:bl=true->F.fw)(j:0<dep->32<=F.code.length):
 ∃m,gh (dS F.code) F.code dep bl=.ok m/\Part Q m F/\m.hash=dS F.code:=by
 obtain⟨h6,i⟩:=b.aJ.nw a;obtain⟨m,h1,h0,h3⟩:=S5 6 (QU _) F dep bl h6 b a g;have h2:Part Q m F:=Ty m F h0 f d (fun x e=>by subst e;exact absurd h3 h0.2.2) k;have c:m.some:=h2.same.2 (by cases F<;>first|exact a.elim|trivial);refine⟨m.gy (dS F.code),?_,?_,zj _ m c⟩
 ·unfold gh;rw[QW (fun h=>h rfl),QW (by rintro ⟨h,l⟩;have:=j h;omega)];have:=O1 F.item h6 i;show wX _ dep bl (fL (bm 6 F.item))=_;rw[this];show AR _ (aT 6 F.item dep bl)=_;rw[h1];rfl
 ·cases m with
  |nil=>exact c.elim
  |unread x=>rw[show x=[] from h3] at h2;have:=h2.2.1;have h4:=jY F.code;rw[<-this] at h4;cases h4
  |leaf _ _ _=>exact h2
  |ext _ _ _=>exact h2
  |branch _ _ _=>exact h2
def pK(G:yB->Option yB)(a:Prop)(Q:yL->Prop):Prop:=∀c,Q c->G (ai (str c))=some (str c)\/(a/\(G (ai (str c))=none\/∃u,G (ai (str c))=some u/\ai u≠ai (str c)))
def rC(a:Prop)(e:Nat):Prop:=e=0\/(a/\(e=9\/e=10))
theorem FV(l):(str l).data.toList=l:=by unfold str;simp
theorem Cv{G}{i:Prop}{Q}(n:pK G i Q){t F dep bl}(b:Part Q t F)(j:aw F dep)(k:bD F)(o:bA F)(p:bl=true->t.some->F.fw)(a:0<dep->t.hash=F.hash/\cR F)(f:aI t):
 (∃m,cf G t dep bl=.ok m/\Part Q m F/\(0<dep->m.hash=F.hash)/\(m=.nil\/m.read))\/(i/\∃e,cf G t dep bl=.error e/\(e=9\/e=10)):=by
 cases t with
 |nil=>exact .inl ⟨_,rfl,b,fun h=>(a h).1,.inl rfl⟩
 |leaf _ _ _=>exact .inl ⟨_,rfl,b,fun h=>(a h).1,.inr trivial⟩
 |ext _ _ _=>exact .inl ⟨_,rfl,b,fun h=>(a h).1,.inr trivial⟩
 |branch _ _ _=>exact .inl ⟨_,rfl,b,fun h=>(a h).1,.inr trivial⟩
 |unread x=>
  obtain⟨d,e,r,s⟩:=b;have v:F.some:=by cases F<;>first|exact d.elim|trivial
  have c:str x=ai (str F.code):=by rw[e,lW]
  have l:cf G (.unread x) dep bl=gO G x dep bl:=rfl;rw[l];unfold gO;rcases n _ r with h|⟨g,h|⟨u,h,q⟩⟩
  ·rw[c,h];left;have h32:0<dep->32<=F.code.length:=fun h0=>by
    obtain⟨h1,h2⟩:=a h0;refine(h2.Dy d ?_).2;rw[<-h1];intro e3;rw[show x=[] from e3] at f;cases f
   obtain⟨m,h1,h2,h3⟩:=Lg j k o d s (fun h=>p h trivial) h32;refine⟨m,?_,h2,fun h0=>?_,.inr ?_⟩
   ·show gh x (str F.code).data.toList dep bl=_;rw[FV,e];exact h1
   ·rw[h3,<-(a h0).1];exact e.symm
   ·exact(nP h1).2.1
  ·rw[c,h];exact .inr ⟨g,9,rfl,.inl rfl⟩
  ·rw[c,h];refine .inr ⟨g,10,?_,.inr rfl⟩;show gh x u.data.toList dep bl=_;unfold gh;rw[QX];intro h2;apply q;have h3:str (dS u.data.toList)=str x:=by rw[h2]
   rw[lW,jc,c] at h3;exact h3
theorem Lh{G}{u:Prop}{Q}(D:pK G u Q):∀(f:Nat) (t F) (p) (dep:Nat) (bl:Bool),Part Q t F->aw t dep->aw F dep->bD F->bA F->(bl=true->t.some->F.fw)->(0<dep->t.hash=F.hash/\cR F)->ak p->
 Part Q (cV G f t p dep bl).1 F/\(0<dep->(cV G f t p dep bl).1.hash=F.hash)/\rC u (cV G f t p dep bl).2:=by
 intro f;induction f with
 |zero=>intro t F p dep bl j x d g l C n o;exact⟨j,fun h=>(n h).1,.inl rfl⟩
 |succ f ih=>
  intro t F p dep bl j x d g l C n o;show Part Q (kS t _ (cf G t dep bl)).1 F/\(0<dep->(kS t _ (cf G t dep bl)).1.hash=F.hash)/\rC u (kS t _ (cf G t dep bl)).2;rcases Cv D j d g l C n x.aJ with⟨m,h1,h2,h3,h4⟩|⟨z,e,h1,h2⟩
  ·obtain⟨w,_⟩:=l4 x h1;rw[h1];show Part Q (fJ (cV G f) m p dep).1 F/\(0<dep->(fJ (cV G f) m p dep).1.hash=F.hash)/\rC u (fJ (cV G f) m p dep).2;cases m with
   |nil=>exact⟨h2,h3,.inl rfl⟩
   |unread _=>exact⟨h2,h3,.inl rfl⟩
   |leaf _ _ _=>exact⟨h2,h3,.inl rfl⟩
   |ext h q k=>
    obtain⟨b,A,rfl,g1,g2⟩:=h2;simp only[fJ];by_cases e:aF q p=q.length
    ·rw[QX e];have H:=Sj.2 w.bu.1;obtain⟨a1,a2,a3⟩:=ih k A (p.drop q.length) (dep+q.length) true g1 (dY w) (dY d) g.loose l (fun _ _=>d.bu.2.1) (fun _=>⟨g2,g⟩) (cS o _);exact⟨⟨b,A,rfl,a1,a2 (by omega)⟩,h3,a3⟩
    ·rw[QW e];exact⟨⟨b,A,rfl,g1,g2⟩,h3,.inl rfl⟩
   |branch h v ks=>
    obtain⟨b,s,rfl,g1⟩:=h2;cases p with
    |nil=>exact⟨⟨b,s,rfl,g1⟩,h3,.inl rfl⟩
    |cons c r=>
     have a:=o c (QY ..);have E:ak r:=fun y z=>o y (QZ _ z)
     have B:=g;obtain⟨a1,a2,a3⟩:=ih (ks c.toNat) (s c.toNat) r (dep+1) false (g1 _ a).1 (di w _ a) (di d _ a) (B _ a).loose (l _ a) (fun h=>by cases h) (fun _=>⟨(g1 _ a).2,B _ a⟩) E;refine⟨⟨b,s,rfl,fun i hi=>?_⟩,h3,a3⟩;by_cases e:i=c.toNat
     ·subst e;rw[df];exact⟨a1,a2 (by omega)⟩
     ·rw[dJ _ _ _ _ e];exact g1 i hi
  ·rw[h1];exact⟨j,fun h=>(n h).1,.inr ⟨z,h2⟩⟩
def gR:yB->Option yB:=fun _=>none
theorem Ei{Q ks a}(h:∀i,i<16->gD Q (ks i) (a i)):∀n,n<=16->bU ks n=bU a n/\cD ks n=cD a n
 | 0,_=>⟨rfl,rfl⟩
 |n+1,hn=>by
  obtain⟨h1,h2⟩:=Ei h n (by omega)
  simp only[bU,cD,h1,h2,(h n (by omega)).1.nil]
  exact⟨trivial,trivial⟩
theorem Cu{G}{k:Prop}{Q}(p:pK G k Q){ks c}{v:yL}{dep}(h:∀i,i<16->gD Q (ks i) (c i))(b:∀i,i<16->aI (ks i))(l:∀i,i<16->aw (c i) (dep+1))(f:∀i,i<16->cR (c i))(g:∀i,i<16->bA (c i)):
 (∃t' F',bR G ks v dep=.ok t'/\bR gR c v dep=.ok F'/\gD Q t' F')\/(k/\∃e,bR G ks v dep=.error e/\(e=9\/e=10)):=by
 obtain⟨o,n⟩:=Ei h 16 (QU _);unfold bR;rw[<-o,<-n];by_cases h0:bU ks 16=0
 ·rw[QX h0,QX h0];exact .inl ⟨_,_,rfl,rfl,qx _ _⟩
 ·rw[QW h0,QW h0];by_cases h2:1<bU ks 16\/v≠[]
  ·rw[QX h2,QX h2];exact .inl ⟨_,_,rfl,rfl,uQ b h⟩
  ·rw[QW h2,QW h2];obtain⟨a,r⟩:=lC ks 16 (by omega);rw[qp (g _ a)];rcases Cv (bl:=false) p (h _ a).1 (l _ a) (f _ a).loose (g _ a) (fun h=>by cases h) (fun _=>⟨(h _ a).2,f _ a⟩) (b _ a) with⟨m,h1,h3,h4,h5⟩|⟨s,e,h1,h3⟩
   ·left;have d:m.some:=h3.same.2 ((h _ a).1.same.1 r);have j:m.read:=h5.resolve_left fun e=>by rw[e] at d;exact d.elim
    have q:aI m:=by
     cases hk:ks (cD ks 16) with
     |unread x=>
      rw[hk] at h1;have:gO G x (dep+1) false=.ok m:=h1;unfold gO at this;split at this
      ·cases this
      ·exact(nP this).1.aJ
     |nil=>rw[hk] at h1;cases h1;trivial
     |leaf _ _ _=>have:=b _ a;rw[hk] at h1 this;cases h1;exact this
     |ext _ _ _=>have:=b _ a;rw[hk] at h1 this;cases h1;exact this
     |branch _ _ _=>have:=b _ a;rw[hk] at h1 this;cases h1;exact this
    rw[h1];exact⟨_,_,rfl,rfl,uO q ⟨h3,h4 (by omega)⟩ d fun x e _=>by rw[e] at j;exact j.elim⟩
   ·right;rw[h1];exact⟨s,e,rfl,h3⟩
theorem EV{Q}:∀{t F p},Part Q t F->dw t p->ak p->jo t p->jo F p:=by
 intro t;induction t with
 |nil=>intro F p _ _ _ h;exact h.elim
 |unread _=>intro F p _ _ _ h;exact h.elim
 |leaf _ _ _=>rintro F p ⟨f,rfl⟩ _ _ h;exact h
 |ext h q k ih=>rintro F p ⟨f,l,rfl,h1,_⟩ d b ⟨e,a⟩;exact⟨e,ih h1 (d e) (cS b _) a⟩
 |branch h v ks ih=>
  rintro F p ⟨f,j,rfl,h1⟩ d b a;cases p with
  |nil=>exact a
  |cons c r=>
   have g:=b c (QY ..);have h2:=d;have h3:=a;exact ih c.toNat (F:=j c.toNat) (p:=r) (h1 _ g).1 h2 (fun y i=>b y (QZ _ i)) h3
theorem NH{q}(a:q≠[])(t):(aQ q t).read:=by
 cases t<;>(simp only[aQ,QW a];trivial)
theorem By{G ks v dep a}(h:bR G ks v dep=.ok a):a.read:=by
 unfold bR at h;split at h
 ·cases h;trivial
 ·split at h
  ·cases h;trivial
  ·cases hr:cf G (ks (cD ks 16)) (dep+1) false with
   |error c=>rw[hr] at h;cases h
   |ok k=>rw[hr] at h;cases h;exact NH (fun h=>by cases h) k
theorem M3{G}{k:Nd}{p dep t'}(hk:k.kind=3)(h:aV G k p dep=.ok t'):t'.read:=by
 cases k with
 |branch h0 v ks=>
  cases p with
  |nil=>exact By (v:=[]) h
  |cons c r=>
   have h':lU (fun k=>bR G (aD ks c.toNat k) v dep) (aV G (ks c.toNat) r (dep+1))=.ok t':=h;cases hr:aV G (ks c.toNat) r (dep+1) with
   |error c=>rw[hr] at h';cases h'
   |ok k=>rw[hr] at h';exact By h'
 | _=>cases hk
theorem Cx{G}{L:Prop}{Q}(E:pK G L Q):∀(t F) (p) (dep:Nat),Part Q t F->aw t dep->aw F dep->bD t->bD F->bA F->dw t p->jo t p->ak p->dep+p.length<=80->
 (∃f g,aV G t p dep=.ok f/\aV gR F p dep=.ok g/\gD Q f g)\/(L/\∃e,aV G t p dep=.error e/\(e=9\/e=10)):=by
 intro t;induction t with
 |nil=>intro F p dep _ _ _ _ _ _ _ h;exact h.elim
 |unread _=>intro F p dep _ _ _ _ _ _ _ h;exact h.elim
 |leaf h q v=>
  rintro F p dep ⟨B,rfl⟩ _ _ _ _ _ _ _ _ _;exact .inl ⟨.nil,.nil,rfl,rfl,rfl,rfl⟩
 |ext h q k ih=>
  rintro F p dep ⟨B,K,rfl,h1,h2⟩ b m A C j l o s H;obtain⟨e,I⟩:=o;have R:=(g9 q p).2;rw[e] at R;have n:dep+q.length+(p.drop q.length).length<=80:=by rw[Q8];omega
  rcases ih K (p.drop q.length) (dep+q.length) h1 (dY b) (dY m) A.loose C.loose j (l e) I (cS s _) n with⟨f,g,g1,g2,g3⟩|⟨w,c,g1,g2⟩
  ·left;have J:k.kind=3:=by
    have O:=b.bu.2.1;have S:=l e;cases k<;>first|exact O.elim|exact S.elim|rfl
   obtain⟨l1,l2⟩:=kD G k _ _ f (dY b) A.loose (l e) I (cS s _) n g1;refine⟨aQ q f,aQ q g,?_,?_,uO l1.ok.aJ g3 (l2 J) ?_⟩
   ·show iD q (aV G k (p.drop q.length) (dep+q.length))=_;rw[g1];rfl
   ·show iD q (aV gR K (p.drop q.length) (dep+q.length))=_;rw[g2];rfl
   ·intro x M _;subst M;exact(M3 J g1).elim
  ·right;refine⟨w,c,?_,g2⟩;show iD q (aV G k (p.drop q.length) (dep+q.length))=_;rw[g1];rfl
 |branch h v ks ih=>
  rintro F p dep ⟨B,d,rfl,h1⟩ b m A C j l o s H;have D:=A;have z:=C;cases p with
  |nil=>exact Cu (v:=[]) E h1 (fun i hi=>(di b i hi).aJ) (fun i hi=>di m i hi) z j
  |cons c r=>
   have a:=s c (QY ..);have u:ak r:=fun y w=>s y (QZ _ w)
   have n:dep+1+r.length<=80:=by simp at H;omega
   rcases ih c.toNat (d c.toNat) r (dep+1) (h1 _ a).1 (di b _ a) (di m _ a) (D _ a).loose (z _ a).loose (j _ a) l o u n with⟨f,g,g1,g2,g3⟩|⟨w,e,g1,g2⟩
   ·obtain⟨l1,_⟩:=kD G (ks c.toNat) _ _ f (di b _ a) (D _ a).loose l o u n g1;have P:jo (d c.toNat) r:=EV (h1 _ a).1 l u o;obtain⟨l2,_⟩:=kD gR (d c.toNat) _ _ g (di m _ a) (z _ a).loose (o8 (j _ a) u) P u n g2;have N:=np.less_all gR _ _ _ _ (j _ a) g2;have T:=Cu (v:=v) (dep:=dep) E (uN (c:=c.toNat) h1 g3) (vN (fun i hi=>(di b i hi).aJ) l1.ok.aJ) (fun i hi=>by
     by_cases e:i=c.toNat
     ·subst e;rw[df];exact l2.ok
     ·rw[dJ _ _ _ _ e];exact di m i hi) (fun i hi=>by
     by_cases e:i=c.toNat
     ·subst e;rw[df];exact l2.tight
     ·rw[dJ _ _ _ _ e];exact z i hi) (fun i hi=>by
     by_cases e:i=c.toNat
     ·subst e;rw[df];exact N
     ·rw[dJ _ _ _ _ e];exact j i hi)
    have e1:aV G (.branch h v ks) (c::r) dep=bR G (aD ks c.toNat f) v dep:=by
     show lU (fun k=>bR G (aD ks c.toNat k) v dep) (aV G (ks c.toNat) r (dep+1))=_;rw[g1];rfl
    have e2:aV gR (.branch B v d) (c::r) dep=bR gR (aD d c.toNat g) v dep:=by
     show lU (fun k=>bR gR (aD d c.toNat k) v dep) (aV gR (d c.toNat) r (dep+1))=_;rw[g2];rfl
    rw[e1,e2];exact T
   ·right;refine⟨w,e,?_,g2⟩;show lU (fun k=>bR G (aD ks c.toNat k) v dep) (aV G (ks c.toNat) r (dep+1))=_;rw[g1];rfl
theorem tW{ks k c}(h:∀i,i<16->bA (ks i))(a:bA k):∀i,i<16->bA (aD ks c k i):=fun i hi=>by
 by_cases e:i=c
 ·subst e;rw[df];exact a
 ·rw[dJ _ _ _ _ e];exact h i hi
theorem Bo{n:Nd}{p v s}(b:n.kind=1\/n.kind=2)(h:bA n):bA (eM n p v s):=by
 have c:∀q,bA (fU n q):=fun q=>by
  cases n with
  |leaf _ _ _=>trivial
  |ext _ _ _=>exact np.join_all h
  | _=>rcases b with h|h<;>cases h
 have a:∀i,i<16->bA (dG n s i):=by
  unfold dG;split
  ·exact tW (fun _ _=>trivial) (c _)
  ·exact fun _ _=>trivial
 refine np.join_all (show ∀i,i<16->bA (cM n p v s i) from ?_);unfold cM;split
 ·exact tW a trivial
 ·exact a
theorem wL:∀{t p v},bA t->ak p->bA (bF t p v):=by
 intro t;induction t with
 |nil=>intro p v _ _;trivial
 |unread _=>intro p v h;exact h.elim
 |leaf h q x=>
  intro p v a _;simp only[bF];split
  ·trivial
  ·exact Bo (.inl rfl) a
 |ext h q k ih=>
  intro p v a b;simp only[bF];split
  ·exact ih (v:=v) a (cS b _)
  ·exact Bo (.inr rfl) a
 |branch h x ks ih=>
  intro p v a b;cases p with
  |nil=>exact a
  |cons c r=>exact tW a (ih c.toNat (a _ (b c (QY ..))) fun y d=>b y (QZ _ d))
theorem qd:∀(t) (dep:Nat),aw t dep->bA t->t.some->∃x,ak x/\aG t x≠[]:=by
 intro t;induction t with
 |nil=>intro dep _ _ h;exact h.elim
 |unread _=>intro dep _ h;exact h.elim
 |leaf h p v=>intro dep a _ _;exact⟨p,a.aJ.2.1,by rw[kJ,QX rfl];exact a.bu⟩
 |ext h p k ih=>
  intro dep a b _;obtain⟨x,h1,h2⟩:=ih _ (dY a) b (nk a.bu.2.1);exact⟨p++x,kC a.aJ.2.1 h1,by rw[kK];exact h2⟩
 |branch h v ks ih=>
  intro dep a b _;by_cases d:v=[]
  ·obtain⟨i,hi,c⟩:=vE v ks 16 a.full.1;obtain⟨x,h1,h2⟩:=ih i _ (di a i hi) (b i hi) c;refine⟨UInt8.ofNat i::x,kC (sA hi) h1,?_⟩;rw[oD,RH,Sz (by omega)];exact h2
  ·exact⟨[],(fun _ h=>by cases h),d⟩
theorem ua{h v ks dep}(f:aw (.branch h v ks) dep)(n:bA (.branch h v ks)):∃x y,ak x/\ak y/\aG (.branch h v ks) x≠[]/\aG (.branch h v ks) y≠[]/\x.head?≠y.head? :=by
 have m:∀i,i<16->(ks i).some->∃x,ak (UInt8.ofNat i::x)/\aG (.branch h v ks) (UInt8.ofNat i::x)≠[]:=fun i hi d=>by
  obtain⟨x,h1,h2⟩:=qd (ks i) _ (di f i hi) (n i hi) d;refine⟨x,kC (sA hi) h1,?_⟩;rw[oD,RH,Sz (by omega)];exact h2
 obtain⟨i,hi,d⟩:=vE v ks 16 f.full.1;obtain⟨x,h1,h2⟩:=m i hi d;by_cases l:v=[]
 ·have g:=f.full.1;rw[mZ v ks i d 16 hi] at g;have h3:∃j,j<16/\(aD ks i .nil j).some:=by
   have h0:1<=bU (aD ks i .nil) 16:=by
    rw[lD,QX l] at g;omega
   obtain⟨a,b⟩:=lC _ 16 h0;exact⟨_,a,b⟩
  obtain⟨j,o,c⟩:=h3;have k:j≠i:=fun e=>by rw[e,df] at c;exact c
  rw[dJ _ _ _ _ k] at c;obtain⟨y,h4,h5⟩:=m j o c;refine⟨_,_,h1,h4,h2,h5,fun e=>k ?_⟩;have e2:=Option.some.inj e;have e3:=congrArg UInt8.toNat e2;rw[RH,RH,Sz (by omega),Sz (by omega)] at e3;exact e3.symm
 ·exact⟨[],_,(fun _ h=>by cases h),h1,l,h2,fun e=>by cases e⟩
def Aa(p:yL)(t:Nd):Prop:=∀x,ak x->aG t x≠[]->∃r,x=p++r
theorem Cl{p h v ks dep}(b:aw (.branch h v ks) dep)(d:bA (.branch h v ks))(a:Aa p (.branch h v ks)):p=[]:=by
 obtain⟨x,y,h1,h2,h3,h4,h5⟩:=ua b d;obtain⟨r,e1⟩:=a x h1 h3;obtain⟨s,e2⟩:=a y h2 h4;cases p with
 |nil=>rfl
 |cons c p=>rw[e1,e2] at h5;exact absurd rfl h5
theorem uK{p h k}:Aa p (.ext h p k):=fun x _ b=>by
 refine Sb fun a=>b ?_
 exact oE _ _ _ _ fun r e=>a ⟨r,e⟩
theorem Fh{k:Nd}(b:k.fw)(a:bA k):∃h v ks,k=.branch h v ks:=by
 cases k with
 |branch h v ks=>exact⟨h,v,ks,rfl⟩
 |unread _=>exact a.elim
 | _=>exact b.elim
theorem Ck{q p h k dep}(d:aw (.ext h p k) dep)(e:bA (.ext h p k))(g:Aa q (.ext h p k)):∃r,p=q++r:=by
 obtain⟨i,v,ks,rfl⟩:=Fh d.bu.2.1 e;obtain⟨x,y,h1,h2,h3,h4,h5⟩:=ua (dY d) e;obtain⟨r,e1⟩:=g (p++x) (kC d.aJ.2.1 h1) (by rw[kK];exact h3);obtain⟨s,e2⟩:=g (p++y) (kC d.aJ.2.1 h2) (by rw[kK];exact h4);rcases List.append_eq_append_iff.1 e1 with⟨a,b,f⟩|⟨a,b,f⟩
 ·cases a with
  |nil=>exact⟨[],by rw[Rz] at b;rw[b,Rz]⟩
  |cons c a=>
   rw[b,Rn] at e2;have e3:=RZ e2;rw[f,e3] at h5;exact absurd rfl h5
 ·exact⟨a,b⟩
theorem FC{Q k b}(d:aI k)(h:Part Q k b)(c:bA k)(h1:cR k)(h2:cR b):k.hash=b.hash:=by
 by_cases a:k.some
 ·rw[h1.named (c.read a),h2.named (h.read a),h.code d (c.read a)]
 ·have e1:k=.nil:=by cases k<;>first|rfl|exact absurd trivial a
  subst e1;rw[show b=.nil from h]
theorem Iz(Q:yL->Prop):∀(t b) (dep:Nat),aw t dep->aw b dep->bD t->bD b->bA t->bA b->(∀x,ak x->aG t x=aG b x)->Part Q t b:=by
 have z:∀(t:Nd) (dep:Nat),aw t dep->bA t->(∀x,ak x->aG t x=[])->t=.nil:=fun t dep a d h=>by
  by_cases D:t.some
  ·obtain⟨x,h1,h2⟩:=qd t dep a d D;exact absurd (h x h1) h2
  ·cases t<;>first|rfl|exact absurd trivial D
 have u:∀(h p v:yL) (b:Nd) (dep:Nat),v≠[]->ak p->aw b dep->bA b->(∀x,ak x->aG (.leaf h p v) x=aG b x)->∃h',b=.leaf h' p v:=fun h p v b dep H m a d f=>by
  have A:∀x,ak x->aG b x≠[]->x=p:=fun x c j=>by
   rw[<-f x c,kJ] at j;exact Sb fun G=>j (by rw[QW G])
  have E:∀x y:yL,ak x->ak y->aG b x≠[]->aG b y≠[]->x=y:=fun x y h1 h2 h3 h4=>(A x h1 h3).trans (A y h2 h4).symm
  cases b with
  |nil=>have:=f p m;rw[kJ,QX rfl] at this;exact absurd this H
  |unread _=>exact d.elim
  |leaf h' q w=>
   have h1:aG (.leaf h' q w) q≠[]:=by rw[kJ,QX rfl];exact a.bu
   have e:=A q a.aJ.2.1 h1;subst e;have:=f q m;rw[kJ,kJ,QX rfl,QX rfl] at this;rw[this];exact⟨h',rfl⟩
  |ext h' q k=>
   obtain⟨h2,w,ks,rfl⟩:=Fh a.bu.2.1 d;obtain⟨x,y,g1,g2,g3,g4,g5⟩:=ua (dY a) d;have:=E (q++x) (q++y) (kC a.aJ.2.1 g1) (kC a.aJ.2.1 g2) (by rw[kK];exact g3) (by rw[kK];exact g4);rw[RZ this] at g5;exact absurd rfl g5
  |branch h' w ks=>
   obtain⟨x,y,g1,g2,g3,g4,g5⟩:=ua a d;rw[E x y g1 g2 g3 g4] at g5;exact absurd rfl g5
 intro t;induction t with
 |nil=>intro b dep _ a _ _ _ d f;exact z b dep a d fun x c=>(f x c).symm
 |unread _=>intro b dep _ _ _ _ d;exact d.elim
 |leaf h p v=>intro b dep a g _ _ _ l f;exact u h p v b dep a.bu a.aJ.2.1 g l f
 |ext h p k ih=>
  intro b dep a g n o d l f;cases b with
  |nil=>cases z _ dep a d f
  |unread _=>exact l.elim
  |leaf h' q w=>obtain⟨_,e⟩:=u h' q w _ dep g.bu g.aJ.2.1 a d fun x c=>(f x c).symm;cases e
  |ext h' q k'=>
   obtain⟨r,e1⟩:=Ck a d (q:=q) fun x c j=>uK (h:=h') (k:=k') x c (by rw[<-f x c];exact j)
   obtain⟨s,e2⟩:=Ck g l (q:=p) fun x c j=>uK (h:=h) (k:=k) x c (by rw[f x c];exact j)
   have e:p=q:=by
    have F:r.length=0:=by
     have h1:=congrArg List.length e1;have h2:=congrArg List.length e2;rw[Q4] at h1 h2;omega
    rw[e1,Rm.1 F,Rz]
   subst e;have m:=ih k' _ (dY a) (dY g) n.loose o.loose d l fun x c=>by
    have:=f (p++x) (kC a.aJ.2.1 c);rw[kK,kK] at this;exact this
   exact⟨h',k',rfl,m,FC (dY a).aJ m d n o⟩
  |branch h' w ks=>
   have:=Cl g l (p:=p) fun x c j=>uK (h:=h) (k:=k) x c (by rw[f x c];exact j)
   exact absurd this a.bu.1
 |branch h v ks ih=>
  intro b dep a g n o d l f;cases b with
  |nil=>cases z _ dep a d f
  |unread _=>exact l.elim
  |leaf h' q w=>obtain⟨_,e⟩:=u h' q w _ dep g.bu g.aJ.2.1 a d fun x c=>(f x c).symm;cases e
  |ext h' q k'=>
   have:=Cl a d (p:=q) fun x c j=>uK (h:=h') (k:=k') x c (by rw[<-f x c];exact j)
   exact absurd this g.bu.1
  |branch h' w ks'=>
   have e:v=w:=f [] (fun _ h=>by cases h);subst e;have B:=n;have C:=o;refine⟨h',ks',rfl,fun i hi=>?_⟩;have m:=ih i (ks' i) _ (di a i hi) (di g i hi) (B i hi).loose (C i hi).loose (d i hi) (l i hi) fun x c=>by
    have:=f (UInt8.ofNat i::x) (kC (sA hi) c);rw[oD,oD,RH,Sz (by omega)] at this;exact this
   exact⟨m,FC (di a i hi).aJ m (d i hi) (B i hi) (C i hi)⟩
theorem Part.texts{Q R}:∀{t a},aI t->Part Q t a->bA t->t.hash=a.hash->gw R t->gw R a:=by
 intro t;induction t with
 |nil=>intro a _ h _ _ _;rw[show a=.nil from h];trivial
 |unread _=>intro a _ _ h;exact h.elim
 |leaf h p v=>
  rintro a c ⟨d,rfl⟩ _ j b g;have e:=j;subst e;exact b g
 |ext h p k ih=>
  intro a c f l j b;have m:=f.code c trivial;obtain⟨d,n,rfl,h1,h2⟩:=f;have e:=j;subst e;exact⟨fun g=>by rw[<-m];exact b.1 g,ih c.2.2.2.2 h1 l h2 b.2⟩
 |branch h v ks ih=>
  intro a c f l j b;have m:=f.code c trivial;obtain⟨d,o,rfl,h1⟩:=f;have e:=j;subst e;exact⟨fun g=>by rw[<-m];exact b.1 g,fun i hi=>ih i (c.2.2 i hi) (h1 i hi).1 (l i hi) (h1 i hi).2 (b.2 i hi)⟩
theorem Part.trans{Q R}:∀{t F a},aI F->Part Q t F->bA F->Part R F a->(∀h,t=.unread h->F.hash=a.hash)->Part Q t a:=by
 intro t;induction t with
 |nil=>intro F a _ h _ c _;rw[show F=.nil from h] at c;exact c
 |unread x=>
  rintro F a b ⟨j,e,m,n⟩ d f l;have g:=f.code b j;refine⟨f.read (by cases F<;>first|exact j.elim|trivial),by rw[<-g];exact e,by rw[<-g];exact m,f.texts b d (l x rfl) n⟩
 |leaf h p v=>rintro F a _ ⟨c,rfl⟩ _ ⟨h2,e⟩ _;exact⟨h2,e⟩
 |ext h p k ih=>
  rintro F a b ⟨c,r,rfl,h1,h2⟩ d ⟨h3,o,rfl,h4,h5⟩ _;exact⟨h3,o,rfl,ih b.2.2.2.2 h1 d h4 (fun _ _=>h5),h2.trans h5⟩
 |branch h v ks ih=>
  rintro F a b ⟨c,s,rfl,h1⟩ d ⟨h3,q,rfl,h4⟩ _;exact⟨h3,q,rfl,fun i hi=>⟨ih i (b.2.2 i hi) (h1 i hi).1 (d i hi) (h4 i hi).1 (fun _ _=>(h4 i hi).2),(h1 i hi).2.trans (h4 i hi).2⟩⟩
end Go.Proofs.YtiimkkahmpmhdaaGreatDoor
