import Derived.Test.YtkfdmlcjpomfgaaGreatDoorZco
import Derived.Test.YtkfdmlcjpomfgaaGreatDoorZd
import Derived.Test.YtkfdmlcjpomfgaaGreatDoorZe
open Go.Proofs.Tryz
open Go.Proofs.Tryz renaming prog→yP
open Go.Value renaming string→sV,pointer→pV,int→iV,slice→lV,bool→bV,tuple→tV,agg→gV
open Go.Ending renaming returned→rV
namespace Go.Proofs.YtkfdmlcjpomfgaaGreatDoor
open Go.RowKit
set_option maxRecDepth 100000
set_option maxHeartbeats 0
set_option linter.all false
theorem kj{l:List yB}{n i j x y}(hi:i<n)(b:j<i)(d:l[i]? =some x)(e:l[j]? =some y)(a:ai x=ai y)(c:x≠y):cQ l n=true:=by
 cases h:cQ l n with
 |true=>rfl
 |false=>exact absurd (Pt h i j x y hi b d e a) c
theorem Tw{m F}(h:gv m F)(hm:kh m)(A0:m≠[]):F.some:=by
 cases m with
 |nil=>exact absurd rfl A0
 |cons p m=>
  have h1:=h.find _ (ch p.1);rw[MZ hm (QY ..)] at h1;have h2:p.2.data.toList.length=p.2.size:=by simp
  have h3:=(hm.size p (QY ..)).2.1;cases F with
  |nil=>
   rw[<-h1] at h2;have h4:(0:Nat)=p.2.size:=h2;omega
  | _=>trivial
theorem SM{F:Nd}(a:F.read):aX≠str F.code:=fun e=>Pk a (by
 have h:=congrArg (fun b:yB=>b.data.toList) e
 simp only[FV] at h
 exact h.symm)
theorem SN{F}(hF:aI F)(hr:F.read)(he:bM F=cw)(l:List yB):cQ (str F.code::l++[aX]) (str F.code::l++[aX]).length=true:=by
 refine kj (i:=l.length+1) (j:=0) (x:=aX) (y:=str F.code) (by simp) (by omega) (by simp) rfl ?_ (SM hr);rw[Kc hF hr] at he;have e2:dS F.code=dS [128]:=he;refine Eq.symm ?_;rw[<-lW,e2,lW];rfl
theorem SO{t:Nd}(a:t.some)(r)(f:Nat):eG (f+1) t r 0=t.code::eG f (aA t r 0).1 (aA t r 0).2.1 (aA t r 0).2.2.1:=by
 show(if t.isNil=true then [] else dZ t 0++_)=_;rw[QW (by rw[(gn _).2 a];simp)];unfold dZ;rw[QX (.inl rfl)];rfl
theorem SP{m}(c:kh m){e t}(a:Int)(h:e=true\/bM t=bM (aP m a)):ya e t m a=true:=by
 unfold ya;by_cases h0:m≠[]/\bM (aP m a)=cw
 ·rw[QX h0];have b:=tq c a;have d:=Tw b c h0.1;have f:(m.getD 0 (⟨#[]⟩,⟨#[]⟩)).1.size<=40:=by
   cases m with
   |nil=>exact absurd rfl h0.1
   |cons p m=>exact(c.size p (QY ..)).1
  rw[Cj (zK m a) f,SO d _ 80,List.map_cons];exact SN b.ok.aJ (b.all.read d) h0.2 _
 ·rw[QW h0];split
  ·rfl
  ·next hn=>exact h.resolve_right hn
theorem fC.order{G}{e:Prop}{t m base Q F}(h:fC G e t m base Q F)(c:aw t 0)(d:kh m)(b:Int):bM t=bM (aP m b):=by
 have a:=tq d b;rw[h.part.root c.aJ h.tree.ok.aJ,(h.tree.one a fun _=>True).root h.tree.ok.aJ a.ok.aJ]
def Tu:yB:=⟨#[97]⟩
def Tv:yB:=⟨#[49]⟩
def SQ:Nd:=bC bJ .nil Tu Tv
theorem SR:gv (cz [] Tu Tv) SQ:=IA IB Tu Tv (by decide) (by decide) (by decide)
theorem SS:bX bJ .nil Tu Tv=0:=by
 unfold bX;rw[QW (by decide),QW (by decide),kX Tu (show bA .nil from trivial)]
theorem SU:iQ bJ SQ Tu=Tv:=by
 have h:=SR;unfold iQ;rw[QW (by decide),kX Tu h.all,QX rfl];show str (aG SQ (aC Tu))=Tv;rw[h.find _ (ch Tu),sH,QX rfl];unfold str;simp
theorem Tt:cE bJ SQ Tu=0:=by
 unfold cE;rw[QW (by decide),kX Tu SR.all]
theorem SV(h:bM SQ=cw):cQ ((bj bJ SQ Tu).map str++[aX]) ((bj bJ SQ Tu).map str++[aX]).length=true:=by
 have a:=SR;have b:=Tw a (DH DI Tu Tv (by decide) (by decide)) (by decide);rw[Cj a.all (by decide),SO b _ 80,List.map_cons];exact SN a.ok.aJ (a.all.read b) h _
theorem SW(w)(T:az w):Calls yP 11 #[] w fun e w'=>e=rV (bV true)/\yW w w':=by
 have h3:=T.size;have E:Hid (Calls yP 15 #[] w fun e w'=>e=rV (pV (qA w.heap.size))/\Hid (fR 3 w' w.heap.size (fun _=>lV none 0 0) [])/\Hid (yW w w')/\w.heap.size<w'.heap.size):=(so 3 w).mono fun e w' ⟨h1,h2,h3⟩=>⟨h1,h2,h3,h2.dQ _ (.inl rfl)⟩
 have C:Hid (∀W,yW w W->Calls yP 16 #[] W fun e w'=>e=rV (sV (str cw))/\yW W w'):=fun W b=>og W (T.below b)
 have L:Hid (∀W,yW w W->Calls yP 17 #[pV (qA w.heap.size),sV (str cw)] W fun e w'=>∃a u,e=rV (tV #[pV (qA a),iV .i64 0])/\W.heap.size<=a/\eU w' a (qA w.heap.size) u/\At w' .nil (fun x=>W.heap.size<=x/\x≠a) (pV u)/\yW W w'):=fun W b=>by
  have:=rn W (qA w.heap.size) cw (jY _) (T.below b);have e:cl cw=.nil:=by unfold cl;rw[QX rfl]
  rw[e] at this;exact this
 have O:Hid (∀sb a W,Own (fun x=>x<w.heap.size) W sb a .nil->yW w W->Calls yP 18 #[pV (qA a),sV Tu,sV Tv] W fun e w'=>e=rV (iV .i64 0)/\Own (fun x=>x<w.heap.size) w' sb a SQ/\yW w w'):=fun sb a W d b=>
  (d.put (T.below b) Tu Tv (by decide) (by decide)).mono fun e w' ⟨h1,h2,h3⟩=>⟨by rw[h1,show bX (ae []) .nil Tu Tv=0 from SS];rfl,h2,b.trans (h3.below b.size)⟩
 have D:Hid (∀sb a W,Own (fun x=>x<w.heap.size) W sb a SQ->yW w W->Calls yP 19 #[pV (qA a),sV Tu] W fun e w'=>e=rV (tV #[sV Tv,iV .i64 0])/\Own (fun x=>x<w.heap.size) w' sb a SQ/\yW w w'):=fun sb a W d b=>
  (d.get (T.below b) Tu (by decide)).mono fun e w' ⟨h1,h2,h3⟩=>⟨by rw[h1,show iQ (ae []) SQ Tu=Tv from SU,show cE (ae []) SQ Tu=0 from Tt];rfl,by rw[show bg (ae []) SQ Tu=SQ from Ol Tu SR.all] at h2;exact h2,b.trans (h3.below b.size)⟩
 have P:Hid (∀sb a W,Own (fun x=>x<w.heap.size) W sb a SQ->yW w W->Calls yP 20 #[pV (qA a)] W fun e w'=>e=rV (sV (str (bM SQ)))/\Own (fun x=>x<w.heap.size) w' sb a SQ/\yW w w'):=fun sb a W d b=>
  (d.root (T.below b)).mono fun e w' ⟨h1,h2,h3⟩=>⟨h1,h2,b.trans (h3.mono b.size)⟩
 have N:Hid (∀sb a W,Own (fun x=>x<w.heap.size) W sb a SQ->yW w W->Calls yP 21 #[pV (qA a),sV Tu] W fun e w'=>∃u c,e=rV (tV #[u,iV .i64 c])/\w'.ownsRow W.heap.size 9 1 u ((bj bJ SQ Tu).map str).length (((bj bJ SQ Tu).map str).map Value.string)/\yW w w'/\W.heap.size<=w'.heap.size):=fun sb a W d b=>
  (d.prove (T.below b) Tu (by decide)).mono fun e w' ⟨⟨u,e1,e2⟩,e3,e4⟩=>⟨u,_,e1,by rw[Rr,<-tZ];exact e2,b.trans (e4.below b.size),e4.size⟩
 have A:Hid (∀W u l,yW w W->fD W u l->l.length<=4200000000000->(∀p∈l,p.size<=maxLen)->Calls yP 22 #[u] W fun e w'=>e=rV (bV (cQ l l.length))/\yW W w'):=fun W u l b hu hl hs=>oh W u l hu hl hs (T.below b)
 obtain⟨Y,Z⟩:=xU SR.ok SR.all Tu;have B:Hid (∀p∈(bj bJ SQ Tu).map str++[aX],p.size<=maxLen):=fun p f=>by
  rcases Re.1 f with f|f
  ·obtain⟨c,hc,rfl⟩:=Rt.1 f;have:=Z c hc;rw[aH];unfold maxLen;omega
  ·rw[Q2.1 f];decide
 have K:=aa SV;have C3:((str (bM SQ)).size:Int)=32:=by rw[aH,oV SR.ok.aJ];rfl
 have B4:((str (bM SQ)).toList == (str cw).toList)=decide (bM SQ=cw):=oT _ _;have C1:((bj bJ SQ Tu).map str).length<=81:=by rw[Rr];exact Y
 obtain⟨i0,B2,B7,B8,B9⟩:=Sf ng;have C2:Tv.toList=[49]:=by rw[ByteArray.toList_eq];rfl
 clear T Z Y;generalize (bj bJ SQ Tu).map str=CS at*;generalize bM SQ=RB at*;generalize SQ=OT at*;go_enter func11,ntmps11
 go_wp2_with fail
 refine E.out.mono ?_;rintro e w1 ⟨rfl,j,g,B5⟩;clear E;go_wp2_with fail
 refine(C.out w1 g.out).mono ?_;rintro e w2 ⟨rfl,i⟩;have h:=aa (g.out.trans (i.mono g.out.size));have M:Hid (fR 3 w2 w.heap.size (fun _=>lV none 0 0) []):=j.out.kept fun k q=>i.block k (j.out.dQ k q)
 have A9:w.heap.size<w2.heap.size:=by have:=i.size;omega
 clear i C j;go_wp2_with fail
 refine(L.out w2 h.out).mono ?_;rintro e w3 ⟨a,u,rfl,h1,h2,h4,n⟩;have s:=aa (h.out.trans (n.mono h.out.size));have F:=aa (CP h3 M.out A9 h1 h2 h4 n);clear h1 h2 h4 n L M g B5 A9 h;go_wp2_with fail
 refine(O.out _ _ _ F.out s.out).mono ?_;rintro e w4 ⟨rfl,U,A1⟩;have G:=aa U;have t:=aa A1;clear U A1 F s O;go_wp2_with fail
 refine(D.out _ _ _ G.out t.out).mono ?_;rintro e w5 ⟨rfl,V,A2⟩;have H:=aa V;have y:=aa A2;clear V A2 G t D;go_wp2_with fail
 refine(P.out _ _ _ H.out y.out).mono ?_;rintro e w6 ⟨rfl,X,A3⟩;have I:=aa X;have z:=aa A3;clear X A3 H y P;go_wp2_with fail
 refine(N.out _ _ _ I.out z.out).mono ?_;rintro e w7 ⟨u7,c7,rfl,r,A4,C4⟩;have m:=aa A4;have J:=aa r;obtain⟨a7,C0,B6,_⟩:=dr r;subst B6;clear r A4 N I;go_wp2_with (at_builtin;refine RG _ rfl (.tmp 56) (.tmp 57) 45 rfl w6.heap.size 9 i0 (sV ⟨#[]⟩) 1 16 underlying45 B2 B7 B8 B9 rfl (by decide) _ CS.length (CS.map Value.string) rfl (J.out.alloc _) ⟨w7.heap.size,0,none⟩ 1 1 [sV aX] rfl rfl (So _ _ _) ?f2 (by omega) ?f3 ?f4 ?f5 _ rfl ?f6)
 case f2=>first|rfl| (intro v hv;simp at hv;subst hv;rfl)
 case f3=>unfold maxLen;omega
 case f4=>omega
 case f5=>first|omega| (simp;omega)
 intro g5 S w8 A8 A6 B1 B3;have o:yW w w8:=(m.out.alloc m.out.size _).grown A6 (by have:=m.out.size;simp;omega) (fun k q=>by have:=(J.out.lt k q).1;have:=z.out.size;omega);have A0:fD w8 (lV (qA g5) (CS.length+1) S) (CS++[aX]):=oZ (base:=w6.heap.size) (by rw[Q4,R9];exact A8);have B0:Hid (Calls yP 22 #[lV (qA g5) (CS.length+1) S] w8 fun e w'=>e=rV (bV (cQ (CS++[aX]) (CS++[aX]).length))/\yW w8 w'):=
  A.out w8 _ _ o A0 (by rw[Q4,Sa];omega) B.out
 have Q:=aa o;clear A8 A6 B1 B3 o A0 A B;generalize cQ (CS++[aX]) (CS++[aX]).length=CK at*;go_wp2_with fail
 refine B0.out.mono ?_;rintro e w9 ⟨rfl,A5⟩;have R:=aa (Q.out.trans (A5.mono Q.out.size));clear A5;cases CK with
 |true=>
  go_wp2_with fail
  go_ret
  exact⟨rfl,R.out⟩
 |false=>
  have A7:¬RB=cw:=fun e=>by have:=K.out e;cases this
  rw[Q9 A7] at B4;clear A7 K;go_wp2_with fail
  go_ret
  exact⟨rfl,R.out⟩
theorem JS{l w R i g}(h:bS l w R i g)(k x y z:Int)(f:Rg y)(s t:yB)(c:s.size<=1073741824)(d:t.size<=1073741824)(a:R.N+9000<4000000000)(b:aR R.m+2<1000000000):
 Calls yP 55 #[pV (qA R.rb),fX k x y z s t] w fun e w'=>bE e/\dE l w R i g 5000 w':=by
 by_cases q:k=31\/k=32
 ·exact rwrite1 h k x y z q f s t c d a b
 ·exact rwrite2 h k x y z ⟨fun e=>q (.inl e),fun e=>q (.inr e)⟩ f s t c d a b
def rz(a:Nat)(d:Dt)(n0:Nat)(k x y z:Int)(s t:yB)(W:World):Prop:=∃l,Inv a l W d/\gY W n0 k x y z s t/\l n0=0
theorem rz.idle{e d n0}{k x y z:Int}{s t W a}(h:rz e d n0 k x y z s t W)(c:yW W a):rz e d n0 k x y z s t a:=by
 obtain⟨l,f,b,g⟩:=h;exact⟨_,f.idle (Mv.below (dT []) l c),b.below c,(j5 b.lt).trans g⟩
structure GP(wb:Nat)(d:Dt)(L a b s:Nat)(R:bN)(n0:Nat)(k x y z:Int)(st tt:yB)(W:World)(l:Nat->Nat)(d1:Dt)(R1:bN):Prop where
 inv:Inv wb l W d1
 cn:fG L a b s d1
 same:gL d d1
 mem:R1∈d1.aB
 rb:R1.rb=R.rb
 bx:gY W n0 k x y z st tt
 lb:l n0=0
theorem yr{T l l' W a n}{k x y z:Int}{s t}(h:gY W n k x y z s t)(b:l n=0)(m:Mv T l l' W a)(h0:¬T 0):gY a n k x y z s t/\l' n=0:=⟨h.mv b m h0,(m.aM n h.lt).trans b⟩
theorem Inv.after{g l w w' d}(h:Inv g l w d){R}(e:R∈d.aB){L a b s K}(f:fG L a b s d)(k:dE l w R (d.us R.sb) (d.ps R.sb) K w'):∃l' d',Inv g l' w' d'/\fG L (a+K) (b+2) s d'/\gL d d':=by
 obtain⟨l',i,m,p,c,j,o⟩:=k;have n:=(f.hw R e).2;exact⟨l',_,h.oX e c.iI m p,(f.put h e c.iI j o (by rw[c.base];exact n) (by rw[c.seen];exact QU _:i.seen.length<=R.seen.length+0)),⟨rfl,rfl,rfl,rfl,fun _ _=>rfl⟩⟩
theorem Kl{G l w d}(h:Inv G l w d){L a b s}(S:fG L a b s d)(ha:a+9000<4000000000)(hb:b+2<=500000)(hL:L+1<1000000)(C8:s+2<1000000)(k x y z:Int)(M:Rg x)(hy:Rg y)(F u:yB)(h1:F.size<=1073741824)(h2:u.size<=1073741824):
 Calls yP 29 #[pV (qA G),fX k x y z F u] w fun e w'=>bE e/\∃l' r,Inv G l' w' r/\fG (L+1) (a+6000) (b+2) (s+2) r/\gL d r:=by
 obtain⟨ar,cr,A2⟩:=h.BR;have C7:=S.len;obtain⟨R,hR⟩:∃R:bN,R=d.aB.getD (bO x d.aB.length) ⟨0,0,0,0,0,[],0,lV none 0 0,[],lV none 0 0,[],lV none 0 0,[],false⟩:=⟨_,rfl⟩
 have B7:0<d.aB.length->d.aB[bO x d.aB.length]? =some R:=fun h0=>by
  rw[hR,Q3,QV (kz x _ h0)];rfl
 have J:0<d.aB.length->R∈d.aB:=fun h0=>Rv (B7 h0)
 obtain⟨Y,cs,A3⟩:∃Y cs,0<d.aB.length->R.sv=lV Y R.seen.length cs:=by
  by_cases h0:0<d.aB.length
  ·obtain⟨Y,cs,A3,_⟩:=dr (h.rl R (J h0)).y.sn;exact⟨Y,cs,fun _=>A3⟩
  ·exact⟨none,0,fun h1=>absurd h1 h0⟩
 have q:∀W,(∃l' r,Inv G l' W r/\fG (L+1) (a+6000) (b+2) (s+2) r/\gL d r)=(∃l' r,Inv G l' W r/\fG (L+1) (a+6000) (b+2) (s+2) r/\gL d r):=fun _=>rfl
 have hcut:∀{l:Nat->Nat} {W W':World},yW W W'->Mv (fun _=>False) l (fA l W.heap.size) W W':=fun hb=>Mv.below _ _ hb
 unfold fX;refine(Kk w G R.rb d.aB.length cr R.seen.length cs ar Y k x y z F u (str cw) (ai u) (by omega)
  (rz G d w.heap.size k x y z F u) (fun W=>∃l d1 o,GP G d L a b (s+2) R w.heap.size k x y z F u W l d1 o) (fun W=>∃l' r,Inv G l' W r/\fG (L+1) (a+6000) (b+2) (s+2) r/\gL d r)
  (fun A W=>∃l0 w0,Inv G l0 w0 d/\A=w0.heap.size/\yW w0 W/\eI W A (fun _=>lV none 0 0) [])
  (fun A n W=>∃l T,Inv G l W d/\SX l W n A T [T] 1 (fun _=>lV none 0 0) []/\(∀C∈d.ao,C.sb≠A)/\(∀Q∈d.aB,Q.sb≠A/\Q.sp≠n))
  (fun a1 n1 c1 W=>∃l d1 o,GP G d L a b (s+1) R w.heap.size k x y z F u W l d1 o/\o.sv=lV a1 n1 c1)
  ?_ ?_ ?_ ?_ ?_ ?_ ?_ ?_ ?_ ?_ ?_ ?_ ?_ ?_ ?_ ?_ ?_ ?_ ?_ ?_ ?_ ?_ ?_).mono ?_
 ·have C1:yW w (w.alloc (.cells #[iV .i64 k,iV .i64 x,iV .i64 y,iV .i64 z,sV F,sV u] 34)):=(Q1 _ _).alloc (QU _) _;exact⟨_,h.idle (Mv.below (dT []) l C1),gY.new w k x y z F u,nr (QU _)⟩
 ·obtain⟨_,k1,kw,_⟩:=h.pU;rw[A2] at k1;exact⟨k1,kw⟩
 ·rintro W ⟨l,p,f,_⟩;obtain⟨_,k1,kw,_⟩:=p.pU;rw[A2] at k1;obtain⟨b0,b1,_,_,b4,b5⟩:=f.cells;exact⟨⟨k1,kw⟩,b0,b1,b4,b5,f.lt⟩
 ·intro W n p;exact p.idle (gB (Q1 _ _) n)
 ·rintro W ⟨l,p,_,_⟩;refine(so 3 W).mono ?_;rintro e w1 ⟨v,hP,E⟩;exact⟨_,v,l,W,p,rfl,E,yn p.bt.size hP⟩
 ·rintro A W ⟨l0,w0,p,e1,E,hs⟩;refine(og W (p.bt.below E)).mono ?_;rintro e w' ⟨v,O⟩;exact⟨v,l0,w0,p,e1,E.trans (O.mono E.size),hs.below O⟩
 ·rintro A W ⟨l0,w0,p,e1,E,hs⟩;have hm:∀x,bW A (fun _=>Value.slice none 0 0) x->x=A:=fun x M=>by
   rcases M with h|⟨c,_,h⟩
   ·exact h
   ·simp[Value.ownBlock] at h
  have m1:Mv (fun _=>False) l0 (fun x=>if x<w0.heap.size then l0 x else if x=A then pr A 0 else 0) w0 W:=⟨E.os,E.tape,E.output,E.size,fun k hk=>QX hk,fun k hk _=>E.block k hk⟩
  refine(xH hs (l:=fun x=>if x<w0.heap.size then l0 x else if x=A then pr A 0 else 0) (fun x M=>by rw[hm x M,e1];simp) (p.bt.below E) (fun k hk=>by
   have:=p.bt.size;rw[QX (by omega)];exact p.l3 k hk) _ (by rw[aH];exact jY _)).mono ?_
  rintro e w' ⟨n,T,l',v,hn,m,A4⟩;refine⟨n,v,l',T,p.idle ((m1.trans m).jb _),A4,fun C hC e=>?_,fun Q q=>⟨fun e=>?_,fun e=>?_⟩⟩
  ·have:=kQ (p.gK hC).2.2.1;omega
  ·have:=kQ (p.ky q).2.2.2;omega
  ·have:=kQ (p.ky q).2.2.1;have:=E.size;omega
 ·rintro A n W ⟨l,T,p,_⟩;obtain⟨_,k1,kw,_⟩:=p.pU;rw[A2] at k1;exact⟨k1,kw⟩
 ·rintro A n W ⟨l,T,p,hX,B6,A8⟩;obtain⟨X,A7⟩:∃X,X=W.alloc (.cells #[bV false] 100):=⟨_,rfl⟩
  have z1:X.heap.size=W.heap.size+1:=by rw[A7];exact mM W _
  have m1:Mv (fun _=>False) l (eN l W.heap.size (pr W.heap.size 0)) W X:=by rw[A7];exact Mv.pH l W _ _
  have B5:=p.idle (m1.jb _);have C0:=hX.move m1 id id fun _=>id
  obtain⟨t,D⟩:∃t:bN,t=⟨X.heap.size,A,n,T,W.heap.size,[T],1,lV none 0 0,[],lV none 0 0,[],lV none 0 0,[],false⟩:=⟨_,rfl⟩
  have C3:Af (eN l W.heap.size (pr W.heap.size 0)) X t (fun _=>lV none 0 0) []:=by
   rw[D];exact⟨C0,⟨RO _ _ _ _,fun _ h=>by cases h⟩,⟨(fun g hg=>by cases hg),fun _ h=>by cases h⟩,RO _ _ _ _,(fun _ h=>by cases h),(by show 0<_;decide),(by show 0<_;decide),⟨rfl,rfl⟩⟩
  obtain⟨U,V,w',I,C6,A1,l',mA,Z⟩:=Dj B5 C3 (by rw[D]) (by rw[D];exact fun g hg=>by cases hg) (by rw[D,A7];exact py W _) (by rw[D];exact nM (QU _)) (by omega) (by rw[D];exact fun Q q=>(A8 Q q).2) ⟨by rw[D];exact B6,by rw[D];exact fun Q q e=>absurd e (A8 Q q).1⟩;rw[D] at I;simp only at I;rw[A2,A7] at I;have H:w'.heap[G]? =some (.cells #[d.bv,d.rv] 31 (0,0)):=A1.trans B5.wo.ah;rw[show(W.alloc (.cells #[bV false] 100)).heap.size=W.heap.size+1 from mM W _] at I;refine⟨U,_,V,w',_,I,⟨by rw[Q5 w' G 1 _ _ _ H];rfl,Rx w' G 1 _ _ H,(Q0.1 H).1⟩,l',_,Z,?_,?_⟩
  ·have B3:∀Q∈d.aB++[t],Q∈d.aB\/Q=t:=fun Q q=>by
    rcases Re.1 q with h1|h1
    ·exact .inl h1
    ·exact .inr (Q2.1 h1)
   refine⟨by show(d.aB++[t]).length<=_;rw[Q4,Sa];omega,fun Q q=>?_,fun Q q=>?_,fun Q q=>?_⟩
   ·show(bf d.ps t.sb [] Q.sb).length+dm Q.sb (d.aB++[t])<=_;rw[xm];have h1:dm Q.sb [t]<=1:=by
     show(if t.sb=Q.sb then t.N else 0)+0<=1;have:t.N=1:=by rw[D]
     rw[this];split<;>omega
    rcases B3 Q q with q|e
    ·have C2:Q.sb≠t.sb:=by rw[D];exact(A8 Q q).1
     rw[cZ _ _ C2];have:=S.fN Q q;omega
    ·rw[e] at h1⊢;rw[de];have h5:dm t.sb d.aB=0:=by
      have h6:∀rs:List bN,(∀Q∈rs,Q.sb≠t.sb)->dm t.sb rs=0:=by
       intro rs B9;induction rs with
       |nil=>rfl
       |cons P rs ih=>
        show(if P.sb=t.sb then P.N else 0)+dm t.sb rs=0;rw[QW (B9 P (QY ..)),ih fun Q q=>B9 Q (QZ _ q)]
      exact h6 d.aB fun Q q=>by rw[D];exact(A8 Q q).1
     show 0+(dm t.sb d.aB+dm t.sb [t])<=_;omega
   ·rcases B3 Q q with q|e
    ·have:=S.hw Q q;exact⟨by omega,by omega⟩
    ·rw[e,D];exact⟨Ri _,Ri _⟩
   ·rcases B3 Q q with q|e
    ·have:=S.sn Q q;omega
    ·rw[e,D];exact Ri _
  ·exact⟨rfl,rfl,rfl,rfl,fun B f=>cZ _ _ (by rw[D];exact B6 B f)⟩
 ·rintro W ⟨l,p,_,_⟩ _;exact⟨l,d,p,S.mono (by omega) (by omega) (by omega) (by omega),gL.refl d⟩
 ·intro W h0;exact pk x _ M h0 (by omega) W
 ·rintro W ⟨l,p,_,_⟩ h0;exact p.Cd A2 (B7 h0)
 ·rintro W ⟨l,p,f,hl⟩;refine(iE u (by unfold maxLen;omega) W p.bt).mono ?_;rintro e w' ⟨v,B1⟩;exact⟨v,rz.idle ⟨l,p,f,hl⟩ B1⟩
 ·rintro W ⟨l,p,_,_⟩ h0;obtain⟨_,_,_,_,c4,_⟩:=(p.rl R (J h0)).y.cells;rw[A3 h0] at c4;exact⟨c4,(p.rl R (J h0)).y.ij⟩
 ·rintro W ⟨l,p,f,hl⟩ h0;have mD:Mv (fun _=>False) l l W W.drew:=Mv.tg l W 1 _;have B0:=p.idle (mD.jb _);have A5:=B0.rl R (J h0);have C4:=S.sn R (J h0);obtain⟨U,n',V,w',l',I,m,A1,mm,A4⟩:=A5.Ch F h1 (by omega);rw[A3 h0] at I;have A6:¬((0:Nat)=pr R.rb 0):=fun e=>by have:=ie R.rb 0;omega
  have B4:gY W.drew w.heap.size k x y z F u:=f;have E:=yr B4 hl m A6;have O:=yr B4 hl mm A6;have H:w'.heap[R.rb]? =_:=A1.trans A5.y.ah;have A0:kg R {R with sv:=lV U n' V,seen:=R.seen++[F]}:=⟨rfl,rfl,rfl,rfl⟩
  have Z:=B0.oX (J h0) A0 (mm.mono fun x M=>.inr (.inl M)) A4;have B2:=S.put B0 (J h0) A0 (K:=0) (j:=0) (i:=1) (QU _) (QU _) (S.hw R (J h0)).2 (by show(R.seen++[F]).length<=_;simp);refine⟨U,n',V,w',I,⟨⟨?_,?_⟩,Rx w' R.rb 4 _ _ H,(Q0.1 H).1⟩,l',_,_,⟨Z,B2,⟨rfl,rfl,rfl,rfl,fun _ _=>rfl⟩,Rt.2 ⟨R,J h0,rfl⟩,?_,O.1,O.2⟩,?_⟩
  ·rw[Q5 w' R.rb 4 _ _ _ H,A3 h0];rfl
  ·exact E.1.cells.2.2.2.2.1
  ·unfold fc;rw[QX rfl]
  ·unfold fc;rw[QX rfl]
 ·rintro a1 n1 c1 W ⟨l,d1,o,f,e⟩;have A9:=f.inv.rl o f.mem;obtain⟨_,_,_,_,c4,_⟩:=A9.y.cells;have B8:=A9.y.ij;rw[f.rb] at c4 B8;rw[e] at c4;exact⟨c4,B8⟩
 ·rintro a1 n1 c1 W ⟨l,d1,o,f,e⟩;have A5:=f.inv.rl o f.mem;have C4:=f.cn.sn o f.mem;obtain⟨U,n',V,w',l',I,m,A1,mm,A4⟩:=A5.Ch (ai u) (by have:(ai u).size=32:=eL _;omega) (by omega);rw[e] at I;have A6:¬((0:Nat)=pr o.rb 0):=fun e=>by have:=ie o.rb 0;omega
  have O:=yr f.bx f.lb mm A6;have H:w'.heap[o.rb]? =_:=A1.trans A5.y.ah;have A0:kg o {o with sv:=lV U n' V,seen:=o.seen++[ai u]}:=⟨rfl,rfl,rfl,rfl⟩
  have Z:=f.inv.oX f.mem A0 (mm.mono fun x M=>.inr (.inl M)) A4;have B2:=f.cn.put f.inv f.mem A0 (K:=0) (j:=0) (i:=1) (QU _) (QU _) (f.cn.hw o f.mem).2 (by show(o.seen++[ai u]).length<=_;simp);rw[<-f.rb];refine⟨U,n',V,w',_,I,⟨by rw[Q5 w' o.rb 4 _ _ _ H];rfl,Rx w' o.rb 4 _ _ H,(Q0.1 H).1⟩,l',_,_,⟨Z,B2,f.same.trans ⟨rfl,rfl,rfl,rfl,fun _ _=>rfl⟩,Rt.2 ⟨o,f.mem,rfl⟩,?_,O.1,O.2⟩⟩;unfold fc;rw[QX rfl];exact f.rb
 ·rintro W ⟨l,d1,o,f⟩;obtain⟨b0,b1,b2,b3,b4,b5⟩:=f.bx.cells;exact⟨b0,b1,b2,b3,b4,b5,f.bx.lt⟩
 ·rintro W ⟨l,d1,o,f⟩ _;have A9:=f.inv.rl o f.mem;have hN:=(f.cn.N f.mem).1;have hm:oL l W o (d1.us o.sb) (d1.ps o.sb) 0 W:=⟨l,o,Mv.refl _ _ _,A9,ke.refl o,QU _,by omega⟩
  have:=hm.asks F (ai u) h1 (by have:(ai u).size=32:=eL _;omega) (by omega);rw[f.rb] at this;refine this.mono ?_;rintro e w' ⟨v,hT⟩;obtain⟨l',r,h3,h4,h5⟩:=f.inv.after f.mem f.cn hT;exact⟨v,l',r,h3,h4.mono (by omega) (by omega) (QU _) (QU _),f.same.trans h5⟩
 ·rintro W ⟨l,d1,o,f⟩ _;have:=Pq f.inv f.mem f.cn (by omega) (by omega) (by omega);rw[f.rb] at this;refine this.mono ?_;rintro e w' ⟨v,l',r,h3,h4,h5⟩;exact⟨v,l',r,h3,h4.mono (QU _) (by omega) (by omega) (QU _),f.same.trans h5⟩
 ·rintro W ⟨l,d1,o,f⟩ _;have:=QA (f.inv.rl o f.mem) (by have:=(f.cn.hw o f.mem).1;omega) y hy;rw[f.rb] at this;refine this.mono ?_;rintro e w' ⟨v,B1⟩;exact⟨v,_,d1,f.inv.idle ((hcut B1).jb _),f.cn.mono (by omega) (by omega) (by omega) (QU _),f.same⟩
 ·rintro W ⟨l,d1,o,f⟩ _;have hN:=(f.cn.N f.mem).1;have:=Jy (f.inv.rl o f.mem) F (ai u) h1 (by have:(ai u).size=32:=eL _;omega) (by omega) (by have:=(f.cn.hw o f.mem).1;omega);rw[f.rb] at this;refine this.mono ?_;rintro e w' ⟨v,hT⟩;obtain⟨l',r,h3,h4,h5⟩:=f.inv.after f.mem f.cn hT;exact⟨v,l',r,h3,h4.mono (by omega) (by omega) (QU _) (QU _),f.same.trans h5⟩
 ·rintro W ⟨l,d1,o,f⟩;have hN:=(f.cn.N f.mem).1;have C5:=(f.cn.hw o f.mem).1;have:=JS (f.inv.rl o f.mem) k x y z hy F u h1 h2 (by omega) (by omega);rw[f.rb] at this;refine this.mono ?_;rintro e w' ⟨v,hT⟩;obtain⟨l',r,h3,h4,h5⟩:=f.inv.after f.mem f.cn hT;exact⟨v,l',r,h3,h4.mono (by omega) (by omega) (QU _) (QU _),f.same.trans h5⟩
 ·rintro e w' ⟨h3,h4⟩;exact⟨h3,h4.out⟩
def BQ(a:Nat)(d:Dt)(n c:Nat)(W:World):Prop:=∃l' d',Inv a l' W d'/\fS n c d'/\Sem d'/\RS d d'
theorem Inv.tv{g l w w' d}(h:Inv g l w d){B}(f:B∈d.ao){n c e a}(p:fS n c d)(i:Sem d)(h1:n<=e)(h2:c<=a){t m mv}(j:e8 l (eP B) w {B with t:=t,m:=m,mv:=mv} w')(q:m.length<=e)(r:cO iT t<=12*a)(k:d.ag B.hb=true\/jE (ae (d.ps B.sb)) (d.yes B.hb=true) t m B.base):BQ g d e a w':=by
 obtain⟨l',S',s,o⟩:=j;have b:rF B {B with t:=t,m:=m,mv:=mv}:=⟨rfl,rfl,rfl,rfl⟩
 exact⟨l',_,h.book f b s o,p.put h1 h2 f b q rfl r,i.put b k,⟨rfl,rfl,fun _ _=>rfl⟩⟩
theorem Sem.cases{d}(h:Sem d){B}(a:B∈d.ao):d.ag B.hb=true\/∃Q F,fC (ae (d.ps B.sb)) (d.yes B.hb=true) B.t B.m B.base Q F:=h B a
theorem MR{u l w d}(h:Inv u l w d){B}(g:B∈d.ao)(i:Sem d)(k y:Int)(s r){d1}(b:d1=d.cI B.sb B.hb (d.yes B.hb || decide (d.ps B.sb≠[])) (d.ag B.hb) r (jj (d.ps B.sb) k y s)):Sem (d1.cI B.sb B.hb (d1.yes B.hb) (pW d1 B) (d1.us B.sb) (d1.ps B.sb)):=by
 have q1:d1.ao=d.ao:=by rw[b];rfl
 have q2:d1.ag B.hb=d.ag B.hb:=by rw[b];exact de _ _ _
 have q3:d1.yes B.hb=(d.yes B.hb || decide (d.ps B.sb≠[])):=by rw[b];exact de _ _ _
 have q4:d1.ps B.sb=jj (d.ps B.sb) k y s:=by rw[b];exact de _ _ _
 have q5:∀C:dI,C.hb≠B.hb->d1.ag C.hb=d.ag C.hb/\d1.yes C.hb=d.yes C.hb:=fun C e=>by rw[b];exact⟨cZ _ _ e,cZ _ _ e⟩
 have q6:∀C:dI,C.sb≠B.sb->d1.ps C.sb=d.ps C.sb:=fun C e=>by rw[b];exact cZ _ _ e
 intro C n;have f:C∈d.ao:=by rw[<-q1];exact n
 show bf d1.ag B.hb _ C.hb=true\/jE (ae (bf d1.ps B.sb _ C.sb)) (bf d1.yes B.hb _ C.hb=true) C.t C.m C.base;rw[jN,jN];by_cases e:C.hb=B.hb
 ·have e2:=(h.hs C f B g).1 e;rw[e,de];cases hw:pW d1 B with
  |true=>exact .inl rfl
  |false=>
   right;obtain⟨f1,f2⟩:=AE hw;rw[q2] at f1;rcases i.cases f with k1|⟨Q,F,a⟩
   ·rw[e,f1] at k1;cases k1
   ·have p:=f2 C (by rw[q1];exact f) e;rw[e2,q3];rw[e,e2] at a;by_cases j:d.ps B.sb=[]
    ·have q:jj (d.ps B.sb) k y s=d.ps B.sb:=by rw[j];unfold jj;simp
     rw[q4,q];refine⟨Q,F,a.tree,a.part,fun c o=>?_,a.mH⟩;rcases a.sure c o with k2|⟨k2,k3⟩
     ·exact .inl k2
     ·exact .inr ⟨by rw[k2];rfl,k3⟩
    ·exact⟨Q,F,a.N9 p (by rw[Ra j,Bool.or_true])⟩
 ·have e2:C.sb≠B.sb:=fun k=>e ((h.hs C f B g).2 k)
  rw[cZ _ _ e,(q5 C e).1,(q5 C e).2,q6 C e2];exact i C f
theorem PY{p l W d}(g:Inv p l W d){B}(f:B∈d.ao){n c}(h:fS n c d)(j:Sem d)(s t:yB)(w:c+(7+s.size+t.size)<=1048576)(y:n+1<200000):
 Calls yP 42 #[pV (qA B.bb),sV s,sV t] W fun e w'=>∃b,e=rV (bV b)/\BQ p d (n+1) (c+(7+s.size+t.size)) w':=by
 have o:s.size<=maxLen/\t.size<=maxLen/\s.size<=1048576/\t.size<=1048576:=by unfold maxLen;omega
 have v:∀{a:Nat},a<=12*c+(12*s.size+84)->a<=12*(c+(7+s.size+t.size)):=fun x=>by omega
 obtain⟨S,k⟩:=g.bk B f;have i:=k.tr.ok;refine(Nh k (g.cI B f) (g.od f) g.bt g.l3 s t o.1 o.2.1 (by have:=(h.mm B f).1;omega)).mono ?_;rintro e w' ⟨u,mv,r⟩;have key:d.ag B.hb=true\/jE (ae (d.ps B.sb)) (d.yes B.hb=true) (l7 (ae (d.ps B.sb)) B.t s t) (l5 (ae (d.ps B.sb)) B.t B.m s t) B.base:=by
  rcases j.cases f with k1|⟨Q,F,q⟩
  ·exact .inl k1
  ·exact .inr (q.Ks i s t)
 refine⟨_,u,g.tv f h j (by omega) (by omega) r ?_ (v ?_) key⟩
 ·have h1:=(h.mm B f).1;have h2:=tS B.m s t;unfold l5;split<;>omega
 ·have h1:=h.nm B f;have h2:=Mi iT (ae (d.ps B.sb)) B.t s t i;have h3:=qD iT (ae (d.ps B.sb)) _ s (Kv (G:=ae (d.ps B.sb)) (key:=s) (value:=t) i);unfold l7;split<;>omega
theorem Qq{p l W d}(g:Inv p l W d){B}(f:B∈d.ao){n c}(i:fS n c d)(o:Sem d)(s t:yB)(x:c+(7+s.size+t.size)<=1048576)(z:n+1<200000):
 Calls yP 43 #[pV (qA B.bb),sV s] W fun e w'=>∃b,e=rV (bV b)/\BQ p d (n+1) (c+(7+s.size+t.size)) w':=by
 have w:s.size<=maxLen/\t.size<=maxLen/\s.size<=1048576/\t.size<=1048576:=by unfold maxLen;omega
 have v:∀{a:Nat},a<=12*c+(12*s.size+84)->a<=12*(c+(7+s.size+t.size)):=fun y=>by omega
 obtain⟨S,h⟩:=g.bk B f;have j:=h.tr.ok;refine(NA h (g.cI B f) (g.od f) g.bt g.l3 s w.1 (by have:=(i.mm B f).1;omega)).mono ?_;rintro e w' ⟨u,mv,r⟩;have k:=OS (G:=ae (d.ps B.sb)) (key:=s) j h.loose;have key:d.ag B.hb=true\/jE (ae (d.ps B.sb)) (d.yes B.hb=true) (lK (ae (d.ps B.sb)) B.t B.m s) (lJ (ae (d.ps B.sb)) B.t B.m s) B.base:=by
  rcases o.cases f with k1|⟨Q,F,q⟩
  ·exact .inl k1
  ·exact .inr (q.OY j h.loose k)
 refine⟨_,u,g.tv f i o (by omega) (by omega) r ?_ (v ?_) key⟩
 ·have h1:=(i.mm B f).1;have h2:=tS B.m s ⟨#[]⟩;unfold lJ;split<;>omega
 ·have h1:=i.nm B f;have h2:=Mk iT (ae (d.ps B.sb)) B.t s j;have h3:=qD iT (ae (d.ps B.sb)) _ s k;unfold lK;split<;>omega
theorem PU{o l W d}(g:Inv o l W d){B}(f:B∈d.ao){n c}(h:fS n c d)(j:Sem d)(s t:yB)(w:c+(7+s.size+t.size)<=1048576):
 Calls yP 44 #[pV (qA B.bb),sV s] W fun e w'=>∃b,e=rV (bV b)/\BQ o d (n+1) (c+(7+s.size+t.size)) w':=by
 have v:s.size<=maxLen/\t.size<=maxLen/\s.size<=1048576/\t.size<=1048576:=by unfold maxLen;omega
 have u:∀{a:Nat},a<=12*c+(12*s.size+84)->a<=12*(c+(7+s.size+t.size)):=fun x=>by omega
 obtain⟨S,k⟩:=g.bk B f;have i:=k.tr.ok;refine(yK k (g.cI B f) (g.od f) g.bt s v.1).mono ?_;rintro e w' ⟨r,q⟩;have key:d.ag B.hb=true\/jE (ae (d.ps B.sb)) (d.yes B.hb=true) (bg (ae (d.ps B.sb)) B.t s) B.m B.base:=by
  rcases j.cases f with k1|⟨Q,F,p⟩
  ·exact .inl k1
  ·exact .inr ⟨Q,F,p.ox i s⟩
 refine⟨_,r,g.tv f h j (by omega) (by omega) (m:=B.m) (mv:=B.mv) q (by have:=(h.mm B f).1;omega) (u ?_) key⟩;have h1:=h.nm B f;have h3:=qD iT (ae (d.ps B.sb)) B.t s i;omega
theorem PZ{o l W d}(g:Inv o l W d){B}(f:B∈d.ao){n c}(h:fS n c d)(j:Sem d)(s t:yB)(w:c+(7+s.size+t.size)<=1048576):
 Calls yP 49 #[pV (qA B.bb),sV s] W fun e w'=>∃b,e=rV (bV b)/\BQ o d (n+1) (c+(7+s.size+t.size)) w':=by
 have v:s.size<=maxLen/\t.size<=maxLen/\s.size<=1048576/\t.size<=1048576:=by unfold maxLen;omega
 have u:∀{a:Nat},a<=12*c+(12*s.size+84)->a<=12*(c+(7+s.size+t.size)):=fun x=>by omega
 obtain⟨S,k⟩:=g.bk B f;have i:=k.tr.ok;refine(Ed k (g.cI B f) (g.od f) g.bt g.l3 s v.1).mono ?_;rintro e w' ⟨r,q⟩;refine⟨_,r,g.tv f h j (by omega) (by omega) (m:=B.m) (mv:=B.mv) q (by have:=(h.mm B f).1;omega) (u ?_) ?_⟩
 ·have h1:=h.nm B f;have h3:=qD iT (ae (d.ps B.sb)) B.t s i;omega
 ·rcases j.cases f with k1|⟨Q,F,p⟩
  ·exact .inl k1
  ·exact .inr ⟨Q,F,p.ox i s⟩
theorem Qi{u l W d}(g:Inv u l W d){B}(f:B∈d.ao){n c}(i:fS n c d)(p:Sem d)(s t:yB)(G:c+(7+s.size+t.size)<=1048576)(k x y z:Int)(D:Rg y)(E:Rg z):
 Calls yP 50 #[pV (qA B.bb),fX k x y z s t] W fun e w'=>∃b,e=rV (bV b)/\BQ u d (n+1) (c+(7+s.size+t.size)) w':=by
 have C:s.size<=maxLen/\t.size<=maxLen/\s.size<=1048576/\t.size<=1048576:=by unfold maxLen;omega
 have A:∀{a:Nat},a<=12*c+(12*s.size+84)->a<=12*(c+(7+s.size+t.size)):=fun H=>by omega
 obtain⟨S,r⟩:=g.bk B f;have h:=r.tr.ok;refine(Nx r (g.cI B f) (g.od f) g.bt g.l3 k x y z s t C.1 (by omega) D E).mono ?_;rintro e w' ⟨q,w,v⟩;have o:=EZ (ae (d.ps B.sb)) h s;refine⟨_,w,g.tv f i p (by omega) (by omega) (m:=B.m) (mv:=B.mv) v (by have:=(i.mm B f).1;omega) (A ?_) ?_⟩
 ·have h1:=i.nm B f;have h3:=qD iT (ae (d.ps B.sb)) B.t s h;have h4:=qD iT (ae (d.ps B.sb)) _ s o;unfold sX;split<;>omega
 ·rcases p.cases f with k1|⟨Q,F,j⟩
  ·exact .inl k1
  ·refine .inr ⟨Q,F,?_⟩;unfold sX;split
   ·exact(j.ox h s).ox o s
   ·exact j.ox h s
theorem Qh{j l W d}(A:Inv j l W d){n c z}(q:fS n c d)(P:Sem d)(S:c<=z)(A4:n+1<200000){G H}(Q:d.bv=lV G d.ao.length H){i r}(F:eI W i (fun _=>lV none 0 0) [])(Y:l i=pr i 0)(J:dH W r (qA i) (fun _=>False) .nil)(X:l r=pr r 0)(y:∀C∈d.ao,C.sb≠i/\C.tb≠r)(K:∀R∈d.aB,i≠R.sb):
 ∃u m' c1 w' v,(Builtin.append_ #[28,28] 28 #[lV G d.ao.length H,lV (some ⟨W.heap.size+2,0,none⟩) 1 1]).run yP (((W.alloc (.cells #[bV false,bV false] 86)).alloc (.cells #[pV (qA i),pV (qA r),lV none 0 0,lV none 0 0,pV (qA W.heap.size)] 89)).alloc (.cells #[pV (some ⟨W.heap.size+1,0,none⟩)] 83))=.ok (lV u m' c1) w'/\(w'.cell? ⟨j,0,none⟩=some v/\w'.frozen? ⟨j,0,none⟩=false/\j<w'.heap.size)/\BQ j d (n+1) z (w'.setCell ⟨j,0,none⟩ (lV u m' c1)):=by
 have A3:=q.len;have E:fS (n+1) z d:=q.mono (by omega) S;obtain⟨k,w⟩:∃k,k=W.alloc (.cells #[bV false,bV false] 86):=⟨_,rfl⟩
 have z1:k.heap.size=W.heap.size+1:=by rw[w];exact mM W _
 have m1:Mv (fun _=>False) l (eN l W.heap.size (pr W.heap.size 0)) W k:=by rw[w];exact Mv.pH l W _ _
 have I:=A.idle (m1.jb _);obtain⟨a,b⟩:∃a:dI,a=⟨k.heap.size,i,r,W.heap.size,lV none 0 0,lV none 0 0,.nil,[],[]⟩:=⟨_,rfl⟩
 have N:Ag (eN l W.heap.size (pr W.heap.size 0)) k a (fun _=>False):=by
  rw[b];refine⟨J.same m1.size fun x _ V=>m1.ah x V id,trivial,(fun x p=>p.elim),(mN J.lt).trans X,RO _ _ _ _,(fun g T=>by cases T),DI,(by show 0<_;decide),⟨rfl,rfl⟩⟩
 have hm:∀x,bW i (fun _=>Value.slice none 0 0) x->x=i:=fun x p=>by
  rcases p with h|⟨c,_,h⟩
  ·exact h
  ·simp[Value.ownBlock] at h
 have A1:i<W.heap.size:=F.st.dQ i (.inl rfl);have L:cG (eN l W.heap.size (pr W.heap.size 0)) (eP a) k a.sb a.hb false false (fun _=>lV none 0 0) []:=by
  rw[b];refine⟨by show k.heap[W.heap.size]? =_;rw[w];exact py W _,nM (QU _),F.kept fun x p=>m1.ah x (F.st.dQ x p) id,fun x p=>?_⟩;rw[hm x p];exact(mN A1).trans Y
 obtain⟨u,c1,w',s,A2,U,l',mA,M⟩:=Dl I N L (by rw[b]) (by omega) (by rw[b];exact fun C f=>(y C f).2) ⟨by
  rw[b];intro C f;have Z:=kQ (A.gK f).2.2.2;have o:C.hb≠W.heap.size:=by omega
  exact⟨⟨fun e=>absurd e o,fun e=>absurd e (y C f).1⟩,fun e=>absurd e o⟩,by rw[b];exact K⟩
 rw[b] at s;simp only at s;rw[Q,w] at s;have B:=U.trans I.wo.ah;rw[show(W.alloc (.cells #[bV false,bV false] 86)).heap.size=W.heap.size+1 from mM W _] at s;refine⟨u,_,c1,w',_,s,⟨by rw[Q5 w' j 0 _ _ _ B];rfl,Rx w' j 0 _ _ B,(Q0.1 B).1⟩,l',_,M,?_,?_,?_⟩
 ·have D:∀C∈d.ao++[a],C∈d.ao\/C=a:=fun C f=>by
   rcases Re.1 f with h1|h1
   ·exact .inl h1
   ·exact .inr (Q2.1 h1)
  refine⟨by show(d.ao++[a]).length<=_;rw[Q4,Sa];omega,fun C f=>?_,fun C f=>?_,fun C f=>?_⟩
  ·rcases D C f with h1|e
   ·exact E.mm C h1
   ·rw[e,b];exact⟨Ri _,Ri _⟩
  ·rcases D C f with h1|e
   ·exact E.nm C h1
   ·rw[e,b];exact Ri _
  ·show(bf d.ps a.sb [] C.sb).length<=_;rcases D C f with h1|e
   ·have o:C.sb≠a.sb:=by rw[b];exact(y C h1).1
    rw[cZ _ _ o];exact E.ps C h1
   ·rw[e,de];exact Ri _
 ·intro C f;show bf d.ag a.hb false C.hb=true\/jE (ae (bf d.ps a.sb [] C.sb)) (bf d.yes a.hb false C.hb=true) C.t C.m C.base;rcases Re.1 (show C∈d.ao++[a] from f) with h1|h1
  ·have Z:=kQ (A.gK h1).2.2.2;have o:C.hb≠a.hb:=by rw[b];show C.hb≠W.heap.size;omega
   have A0:C.sb≠a.sb:=by rw[b];exact(y C h1).1
   rw[cZ _ _ o,cZ _ _ o,cZ _ _ A0];exact P C h1
  ·rw[Q2.1 h1,b];exact .inr ⟨fun _=>False,.nil,⟨IB,rfl,(fun c q=>q.elim),fun c q=>q.elim⟩⟩
 ·refine⟨rfl,rfl,fun R O=>?_⟩;show bf d.ps a.sb [] R.sb=_;rw[cZ _ _ (by rw[b];exact fun e=>K R O e.symm)]
theorem Qg{A l w d}(h:Inv A l w d){n c}(q:fS n c d)(p:Sem d)(k x y z:Int)(V:Rg x)(X:Rg y)(hz:Rg z)(s t:yB)(N:c+(7+s.size+t.size)<=1048576)(P:n+1<200000):
 Calls yP 28 #[pV (qA A),fX k x y z s t] w fun e w'=>∃b,e=rV (bV b)/\BQ A d (n+1) (c+(7+s.size+t.size)) w'/\(k=8->b=true):=by
 obtain⟨ar,cr,M⟩:=h.zN;have B4:=q.len;have B7:s.size<=maxLen/\t.size<=maxLen/\s.size<=1048576/\t.size<=1048576:=by unfold maxLen;omega
 obtain⟨B,hB⟩:=yX (d.ao.getD (bO x d.ao.length) ll)
 have A0:0<d.ao.length->d.ao[bO x d.ao.length]? =some B:=fun h0=>by
  rw[hB,Q3,QV (kz x _ h0)];rfl
 have G:0<d.ao.length->B∈d.ao:=fun h0=>Rv (A0 h0)
 have B5:∀{a:Nat},a<=12*c+(12*s.size+84)->a<=12*(c+(7+s.size+t.size)):=fun hh=>by omega
 have J:fS (n+1) (c+(7+s.size+t.size)) d:=q.mono (by omega) (by omega);unfold fX;refine(Qf w A B.bb d.ao.length cr ar k x y z s t (str cw) (by omega)
  (rz A d w.heap.size k x y z s t)
  (fun W=>∃l Y d1,d1=d.cI B.sb B.hb (d.yes B.hb || decide (d.ps B.sb≠[])) (d.ag B.hb) Y (jj (d.ps B.sb) k y s)/\Inv A l W d1/\B∈d.ao/\(k=6\/k=7))
  (fun b W=>BQ A d (n+1) (c+(7+s.size+t.size)) W/\(k=8->b=true))
  (fun i W=>∃l0 w0,Inv A l0 w0 d/\i=w0.heap.size/\yW w0 W/\eI W i (fun _=>lV none 0 0) [])
  (fun i K W=>∃l,Inv A l W d/\eI W i (fun _=>lV none 0 0) []/\l i=pr i 0/\dH W K (qA i) (fun _=>False) .nil/\l K=pr K 0/\(∀C∈d.ao,C.sb≠i/\C.tb≠K)/\(∀R∈d.aB,i≠R.sb))
  ?_ ?_ ?_ ?_ ?_ ?_ ?_ ?_ ?_ ?_ ?_ ?_ ?_ ?_ ?_ ?_ ?_ ?_ ?_ ?_ ?_ ?_).mono ?_
 ·have A6:yW w (w.alloc (.cells #[iV .i64 k,iV .i64 x,iV .i64 y,iV .i64 z,sV s,sV t] 34)):=(Q1 _ _).alloc (QU _) _;exact⟨_,h.idle (Mv.below (dT []) l A6),gY.new w k x y z s t,nr (QU _)⟩
 ·obtain⟨k0,kw,_⟩:=h.rI;rw[M] at k0;exact⟨k0,kw⟩
 ·rintro W ⟨l,f,Z,_⟩;obtain⟨k0,kw,_⟩:=f.rI;rw[M] at k0;obtain⟨b0,b1,b2,b3,b4,b5⟩:=Z.cells;exact⟨⟨k0,kw⟩,b0,b1,b2,b3,b4,b5,Z.lt⟩
 ·intro W n f;exact f.idle (gB (Q1 _ _) n)
 ·rintro W ⟨l,f,_,_⟩ _;refine(so 3 W).mono ?_;rintro e w1 ⟨o,hP,r⟩;exact⟨_,o,l,W,f,rfl,r,yn f.bt.size hP⟩
 ·rintro i W ⟨l0,w0,f,e1,r,T⟩;refine(og W (f.bt.below r)).mono ?_;rintro e w' ⟨o,E⟩;exact⟨o,l0,w0,f,e1,r.trans (E.mono r.size),T.below E⟩
 ·rintro i W ⟨l0,w0,f,e1,r,T⟩;have B9:=r.size;have B6:i<W.heap.size:=T.st.dQ i (.inl rfl);have B2:cl cw=.nil:=by unfold cl;rw[QX rfl]
  have hO:=rn W (qA i) cw (jY _) (f.bt.below r);rw[B2] at hO;refine hO.mono ?_;rintro e w' ⟨tb,u,o,B8,A5,hA,O⟩;have E:=r.trans (O.mono r.size);have m1:Mv (fun _=>False) l0 (fun x=>if x<w0.heap.size then l0 x else pr x 0) w0 w':=⟨E.os,E.tape,E.output,E.size,fun k g=>QX g,fun k g _=>E.block k g⟩
  have h3:=f.bt.size;refine⟨tb,o,_,f.idle (m1.jb _),T.below O,QW (by omega),⟨⟨u,A5,?_⟩,lB 0,fun x V=>V.elim⟩,QW (by omega),fun C D=>⟨fun e=>?_,fun e=>?_⟩,fun R U e=>?_⟩
  ·have A2:=hA;exact A2
  ·have:=kQ (f.gK D).2.2.1;omega
  ·have:=kQ (f.gK D).2.1;omega
  ·have:=kQ (f.ky U).2.2.2;omega
 ·rintro i K W ⟨l,f,_⟩;obtain⟨k0,kw,_⟩:=f.rI;rw[M] at k0;exact⟨k0,kw⟩
 ·rintro i K W ⟨l,f,B1,B0,hT,A9,A7,A8⟩;obtain⟨a',m',c1,w',v,h1,h2,h3⟩:=Qh f q p (by omega:c<=c+(7+s.size+t.size)) P M B1 B0 hT A9 A7 A8;exact⟨a',m',c1,w',v,h1,h2,h3,fun _=>rfl⟩
 ·rintro W ⟨l,f,_,_⟩ _;exact⟨⟨l,d,f,J,p,RS.refl d⟩,fun _=>rfl⟩
 ·intro W h0;exact pk x _ V h0 (by omega) W
 ·rintro W ⟨l,f,_,_⟩ h0;exact f.rf M (A0 h0)
 ·rintro W ⟨l,f,_,_⟩ h0 g;exact(PY f (G h0) q p s t N P).mono fun e w' ⟨b,h1,h2⟩=>⟨b,h1,h2,fun h5=>by rw[g] at h5;cases h5⟩
 ·rintro W ⟨l,f,_,_⟩ h0 g;exact(Qq f (G h0) q p s t N P).mono fun e w' ⟨b,h1,h2⟩=>⟨b,h1,h2,fun h5=>by rw[g] at h5;cases h5⟩
 ·rintro W ⟨l,f,_,_⟩ h0 g;exact(PU f (G h0) q p s t N).mono fun e w' ⟨b,h1,h2⟩=>⟨b,h1,h2,fun h5=>by rw[g] at h5;cases h5⟩
 ·rintro W ⟨l,f,_,_⟩ h0 _;refine(NG f (G h0) q (by omega) P p).mono ?_;rintro e w' ⟨o,l',d',h1,h2,h3,h4⟩;exact⟨true,o,⟨l',d',h1,h2.mono (QU _) (by omega),h3,h4⟩,fun _=>rfl⟩
 ·rintro W ⟨l,f,_,_⟩ h0 _;have j:=G h0;obtain⟨S,H⟩:=f.bk B j;refine(Nk H (f.cI B j) f.bt y X).mono ?_;rintro e w' ⟨o,O⟩;exact⟨_,o,⟨_,d,f.idle (Mv.below (dT []) l O),J,p,RS.refl d⟩,fun _=>SP H.om y ((p B j).imp id fun⟨Q,F,hF⟩=>hF.order H.tr.ok H.om y)⟩
 ·rintro W ⟨l,f,_,_⟩ h0 g;exact(PZ f (G h0) q p s t N).mono fun e w' ⟨b,h1,h2⟩=>⟨b,h1,h2,fun h5=>by rw[g] at h5;cases h5⟩
 ·rintro W ⟨l,f,_,_⟩ h0 g;exact(Qi f (G h0) q p s t N k x y z X hz).mono fun e w' ⟨b,h1,h2⟩=>⟨b,h1,h2,fun h5=>by rw[g] at h5;cases h5⟩
 ·rintro W ⟨l,f,_,_⟩ h0 g;have j:=G h0;obtain⟨S,H⟩:=f.bk B j;refine(Nn H (f.cI B j) (f.od j) f.bt k x y z s t X (by have:=q.ps B j;omega)).mono ?_;rintro e w' ⟨o,l',B3,m,hf⟩;exact⟨o,l',B3,_,rfl,f.family j m hf,j,g⟩
 ·rintro W ⟨l,Y,d1,I,f,j,g⟩;have q1:d1.ao=d.ao:=by rw[I];rfl
  have A3:B∈d1.ao:=by rw[q1];exact j
  have q4:d1.ps B.sb=jj (d.ps B.sb) k y s:=by rw[I];exact de _ _ _
  have q6:∀x,x≠B.sb->d1.ps x=d.ps x:=fun x e=>by rw[I];exact cZ _ _ e
  refine(Ea f A3 (by rw[q1];omega)).mono ?_;rintro e w' ⟨o,l',A4⟩;have A1:∀x,bf d1.ps B.sb (d1.ps B.sb) x=d1.ps x:=fun x=>by rw[jN]
  refine⟨o,⟨l',_,A4,?_,MR h j p k y s Y I,⟨by show d1.w0=_;rw[I];rfl,by show d1.aB=_;rw[I];rfl,fun R U=>?_⟩⟩,fun h5=>by rcases g with g|g<;>rw[g] at h5<;>cases h5⟩
  ·refine⟨by show d1.ao.length<=_;rw[q1];omega,fun C D=>?_,fun C D=>?_,fun C D=>?_⟩
   ·have L:C∈d.ao:=by rw[<-q1];exact D
    exact J.mm C L
   ·have L:C∈d.ao:=by rw[<-q1];exact D
    exact J.nm C L
   ·have L:C∈d.ao:=by rw[<-q1];exact D
    show(bf d1.ps B.sb (d1.ps B.sb) C.sb).length<=_;rw[A1];by_cases e:C.sb=B.sb
    ·rw[e,q4];have h1:=MS (d.ps B.sb) k y s;have h2:=q.ps B j;omega
    ·rw[q6 _ e];exact J.ps C L
  ·show bf d1.ps B.sb (d1.ps B.sb) R.sb=_;rw[A1];exact q6 _ fun e=>h.br B j R U e.symm
 ·rintro W ⟨l,f,_,_⟩ _;exact⟨⟨l,d,f,J,p,RS.refl d⟩,fun _=>rfl⟩
 ·rintro e w' ⟨b,o,hQ⟩;exact⟨b,o,hQ.out⟩
def MI(w0:World)(a n c:Nat)(W:World):Prop:=∃l d,d.w0=w0/\Inv a l W d/\fG n (6000*n) (2*n) (2*n) d/\fS n c d/\Sem d
theorem MI.below{w0 b n c W a}(h:MI w0 b n c W)(e:yW W a):MI w0 b n c a:=by
 obtain⟨l,d,h0,h1,h2,h3,h4⟩:=h;exact⟨_,d,h0,h1.idle (Mv.below (dT []) l e),h2,h3,h4⟩
theorem MI.KQ{w0 a n c W}(h:MI w0 a n c W):yW w0 W:=by
 obtain⟨l,d,h0,h1,_⟩:=h;rw[<-h0];exact h1.pins.dD
theorem Jn(w:World)(d:Nat)(k x y z:Int)(s t:yB)(Q:Bool->World->Prop)
 (f:Hid (1<=k->k<=10->Calls yP 28 #[pV (qA d),gV #[iV .i64 k,iV .i64 x,iV .i64 y,iV .i64 z,sV s,sV t]] (w.alloc (.cells #[iV .i64 k,iV .i64 x,iV .i64 y,iV .i64 z,sV s,sV t] 34)) fun e w'=>∃b,e=rV (bV b)/\Q b w'))
 (g:Hid (30<=k->k<=39->Calls yP 29 #[pV (qA d),gV #[iV .i64 k,iV .i64 x,iV .i64 y,iV .i64 z,sV s,sV t]] (w.alloc (.cells #[iV .i64 k,iV .i64 x,iV .i64 y,iV .i64 z,sV s,sV t] 34)) fun e w'=>∃b,e=rV (bV b)/\Q b w'))
 (a:Hid (Q true (w.alloc (.cells #[iV .i64 k,iV .i64 x,iV .i64 y,iV .i64 z,sV s,sV t] 34)))):
 Calls yP 14 #[pV (qA d),gV #[iV .i64 k,iV .i64 x,iV .i64 y,iV .i64 z,sV s,sV t]] w fun e w'=>∃b,e=rV (bV b)/\Hid (Q b w'):=by
 by_cases h1:1<=k/\k<=10
 ·have i:=f.out h1.1 h1.2;have l:=aa i;obtain⟨n,o⟩:=h1;clear i f g a;go_enter func14,ntmps14
  go_wp2_with fail
  refine l.out.mono ?_;rintro e w1 ⟨b,rfl,c⟩;have h:=aa c;clear c l;go_wp2_with fail
  go_ret
  exact⟨b,rfl,h⟩
 ·by_cases h2:30<=k/\k<=39
  ·have j:=g.out h2.1 h2.2;have m:=aa j;obtain⟨n,o⟩:=h2;have p:(1:Int)<=k:=by omega
   have q:¬k<=(10:Int):=by omega
   clear j f g a h1;go_enter func14,ntmps14
   go_wp2_with fail
   refine m.out.mono ?_;rintro e w1 ⟨b,rfl,c⟩;have h:=aa c;clear c m;go_wp2_with fail
   go_ret
   exact⟨b,rfl,h⟩
  ·clear f g;by_cases n:1<=k
   ·have o:¬k<=(10:Int):=by omega
    by_cases p:30<=k
    ·have q:¬k<=(39:Int):=by omega
     clear h1 h2;go_enter func14,ntmps14
     go_wp2_with fail
     go_ret
     exact .inr ⟨rfl,a⟩
    ·clear h1 h2;go_enter func14,ntmps14
     go_wp2_with fail
     go_ret
     exact .inr ⟨rfl,a⟩
   ·have p:¬(30:Int)<=k:=by omega
    clear h1 h2;go_enter func14,ntmps14
    go_wp2_with fail
    go_ret
    exact .inr ⟨rfl,a⟩
theorem Nc{w0 f n c w}(h:MI w0 f n c w)(k x y z:Int)(m:Rg x)(o:Rg y)(v:Rg z)(s t:yB)(r:c+(7+s.size+t.size)<=1048576)(u:n+1<200000):
 Calls yP 14 #[pV (qA f),fX k x y z s t] w fun e w'=>∃b,e=rV (bV b)/\MI w0 f (n+1) (c+(7+s.size+t.size)) w'/\(k=8->b=true):=by
 have q:yW w (w.alloc (.cells #[iV .i64 k,iV .i64 x,iV .i64 y,iV .i64 z,sV s,sV t] 34)):=(Q1 _ _).alloc (QU _) _;obtain⟨l,d,h0,h1,h2,h3,h4⟩:=h;have i:=h1.idle (Mv.below (dT []) l q);unfold fX;refine(Jn w f k x y z s t (fun b W=>MI w0 f (n+1) (c+(7+s.size+t.size)) W/\(k=8->b=true)) (fun _ _=>?_) (fun A _=>?_) ?_).mono ?_
 ·refine(Qg i h3 h4 k x y z m o v s t r u).mono ?_;rintro e w' ⟨b,a,⟨l',g,q1,q2,q3,q4⟩,p⟩;exact⟨b,a,⟨l',g,q4.w0.trans h0,q1,(h2.rs q4).mono (by omega) (by omega) (by omega) (by omega),q2,q3⟩,p⟩
 ·refine(Kl i h2 (by omega) (by omega) (by omega) (by omega) k x y z m o s t (by omega) (by omega)).mono ?_;rintro e w' ⟨⟨b,a⟩,l',g,q1,q2,q3⟩;exact⟨b,a,⟨l',g,q3.w0.trans h0,q1,q2.mono (QU _) (by omega) (by omega) (by omega),(h3.ds q3).mono (by omega) (by omega),h4.ds q3⟩,fun h5=>by omega⟩
 ·exact⟨⟨_,d,h0,i,h2.mono (by omega) (by omega) (by omega) (by omega),h3.mono (by omega) (by omega),h4⟩,fun _=>rfl⟩
 ·rintro e w' ⟨b,a,j⟩;exact⟨b,a,j.out.1,j.out.2⟩
theorem MI.start(w)(T:az w):MI w w.heap.size 0 0 (w.alloc (.cells #[lV none 0 0,lV none 0 0] 31)):=by
 have d:yW w (w.alloc (.cells #[lV none 0 0,lV none 0 0] 31)):=(Q1 _ _).alloc (QU _) _;have h3:=T.size;refine⟨fun x=>if x=w.heap.size then pr w.heap.size 0 else 0,⟨[],[],lV none 0 0,lV none 0 0,fun _=>false,fun _=>false,fun _ _=>lV none 0 0,fun _=>[],w⟩,rfl,⟨⟨py w _,QX rfl,RO _ _ _ _,(fun g c=>by cases c),RO _ _ _ _,(fun g c=>by cases c)⟩,(fun B b=>by cases b),(fun B b=>by cases b),(fun R a=>by cases a),List.nodup_nil,List.nodup_nil,List.nodup_nil,List.nodup_nil,(fun B b=>by cases b),(fun B b=>by cases b),T.below d,⟨fun k e=>QW (by omega),fun k e=>QW (Nat.ne_of_lt e),d⟩⟩,⟨QU _,(fun R a=>by cases a),(fun R a=>by cases a),fun R a=>by cases a⟩,⟨QU _,(fun R a=>by cases a),(fun R a=>by cases a),fun R a=>by cases a⟩,fun B b=>by cases b⟩
structure gE where
 k:Int
 x:Int
 y:Int
 z:Int
 s:yB
 t:yB
structure ru(w:World)(g o:Nat)(p:gE):Prop where
 c0:w.cell? ⟨g,o,none⟩=some (iV .i64 p.k)
 c1:w.cell? ⟨g,o+1,none⟩=some (iV .i64 p.x)
 c2:w.cell? ⟨g,o+2,none⟩=some (iV .i64 p.y)
 c3:w.cell? ⟨g,o+3,none⟩=some (iV .i64 p.z)
 c4:w.cell? ⟨g,o+4,none⟩=some (sV p.s)
 c5:w.cell? ⟨g,o+5,none⟩=some (sV p.t)
theorem ru.below{w W g o p}(h:ru w g o p){B}(a:g<B)(k:Below B w W):ru W g o p:=
 ⟨(Rd (k.block g a)).trans h.c0,(Rd (k.block g a)).trans h.c1,(Rd (k.block g a)).trans h.c2,(Rd (k.block g a)).trans h.c3,(Rd (k.block g a)).trans h.c4,(Rd (k.block g a)).trans h.c5⟩
def kw(p:gE):Nat:=7+p.s.size+p.t.size
def fK(a:List gE)(i:Nat):Nat:=((a.take i).map kw).sum
theorem yJ(a:List gE)(i:Nat)(p:gE)(h:a[i]? =some p):fK a (i+1)=fK a i+(7+p.s.size+p.t.size):=by
 unfold fK;rw[Sx,h];simp[kw]
theorem vu(a:List gE)(i:Nat)(hi:i<=a.length):fK a i+7*(a.length - i)<=fK a a.length:=by
 obtain⟨d,c⟩:∃d,i+d=a.length:=⟨a.length - i,by omega⟩
 induction d generalizing i with
 |zero=>rw[show i=a.length by omega];omega
 |succ d ih=>
  have b:a[i]? =some (a[i]'(by omega)):=QV (by omega);have:=yJ a i _ b;have:=ih (i+1) (by omega) (by omega);omega
theorem Eb(a:List gE):fK a 0=0:=by simp[fK]
structure pP(w:World)(a:Option Addr)(ops:List gE):Prop where
 rN:fK ops ops.length<=1048576
 at_:∀(i:Nat) (p:gE),ops[i]? =some p->∃g o,a=some ⟨g,o,none⟩/\g<w.heap.size/\ru w g (o+i*6) p
 rg:∀(i:Nat) (p:gE),ops[i]? =some p->Rg p.x/\Rg p.y/\Rg p.z
theorem pP.below{w W a c}(h:pP w a c)(k:yW w W):pP W a c:=
 ⟨h.rN,fun i p f=>by
  obtain⟨g,o,e,b,d⟩:=h.at_ i p f
  exact⟨g,o,e,Q6 b k.size,d.below b k⟩,h.rg⟩
theorem Nf(a)(cap:Nat)(b:List gE)(w)(H:pP w a b):
 Calls yP 13 #[lV a b.length cap] w fun e w'=>e=rV (bV true)/\∃n,w'=w.drewN n:=by
 have m:Hid (∀i (_:i<b.length),∃p,b[i]? =some p/\∃g o,a=some ⟨g,o,none⟩/\ru w g (o+i*6) p/\fK b (i+1)=fK b i+(7+p.s.size+p.t.size)/\fK b (i+1)<=1048576):=by
  intro i hi;have c:b[i]? =some (b[i]'hi):=QV hi;obtain⟨g,o,e,_,h⟩:=H.at_ i _ c;have:=vu b (i+1) hi;exact⟨_,c,g,o,e,h,yJ b i _ c,by have:=H.rN;omega⟩
 have C:=aa (Eb b);have D:b.length<=1048576:=by have:=vu b 0 (Ri _);have:=H.rN;omega
 clear H;generalize hN:b.length=N at*;have F:¬(1073741824:Int)<(N:Int):=by omega
 go_enter func13,ntmps13
 go_wp2_with fail
 go_loopg [3,4] N (fun g u r wr=>∃i n T:Nat,g=N - i/\i<=N/\r=iV .i64 i/\u=iV .i64 T/\T<=2*1048576/\Hid (T<=N+fK b i)/\wr=w.drewN n)
 case atStart=>exact⟨0,0,N,rfl,by omega,rfl,rfl,by omega,by show _<=_;omega,rfl⟩
 case round=>
  obtain⟨i,n,T,k,hi,rfl,rfl,E,f,l⟩:=hrel;have q:=aa k;have d:=aa l;clear k l;by_cases A:i<N
  ·obtain⟨p,c,g,o,rfl,j,B,z⟩:=m.out i A;have r4:wr.cell? ⟨g,o+i*6+4,none⟩=some (sV p.s):=by rw[d.out];exact j.c4
   have r5:wr.cell? ⟨g,o+i*6+5,none⟩=some (sV p.t):=by rw[d.out];exact j.c5
   have x:T+p.s.size+p.t.size<=2*1048576:=by have:=f.out;omega
   have v:Hid (T+p.s.size+p.t.size<=N+fK b (i+1)):=by show _<=_;have:=f.out;omega
   clear j c B z f;generalize p.s=s at*;generalize p.t=t at*;have y:(i:Int)<(N:Int):=by omega
   have w1:IntKind.i64.wrap ((T:Int)+(s.size:Int))=(T:Int)+(s.size:Int):=by rw[RE];omega
   have w2:IntKind.i64.wrap ((T:Int)+(s.size:Int)+(t.size:Int))=(T:Int)+(s.size:Int)+(t.size:Int):=by rw[RE];omega
   have G:¬(1073741824:Int)<(T:Int)+(s.size:Int)+(t.size:Int):=by omega
   go_wp2_with fail
   go_region
   go_wp2_with fail
   go_roundg (N - (i+1))
   case measure=>have:=q.out;omega
   case rel=>exact⟨i+1,n+1,T+s.size+t.size,rfl,by omega,by go_num,by go_num,x,v,by rw[d.out];rfl⟩
  ·obtain rfl:i=N:=by omega
   have y:¬(i:Int)<(i:Int):=by omega
   go_wp2_with fail
   go_ret
   exact⟨rfl,n,d.out⟩
theorem Ni(a)(cap:Nat)(d:List gE)(w)(H:pP w a d)(T:az w)
 (A:Nat) (A3:w.cell? ⟨A,0,none⟩=some (iV .i64 8)):
 Calls yP 10 #[lV a d.length cap,lV (qA A) 1 1] w fun e w'=>e=rV (bV true)/\Hid (yW w w'):=by
 have A1:=aa (Nf a cap d w H);have A2:Hid (∀n,MI (w.drewN n) w.heap.size 0 (fK d 0) ((w.drewN n).alloc (.cells #[lV none 0 0,lV none 0 0] 31))):=fun n=>by
  rw[Eb];exact MI.start (w.drewN n) (T.below (below_drewN (Q1 _ w) n))
 have Z:Hid (∀n m c W,MI (w.drewN n) w.heap.size m c W->yW w W):=fun n m c W h=>(below_drewN (Q1 _ w) n).trans h.KQ
 have O:Hid (∀i (_:i<d.length),∃p:gE,d[i]? =some p/\(∃g o,a=some ⟨g,o,none⟩/\∀W,yW w W->ru W g (o+i*6) p)/\(Rg p.x/\Rg p.y/\Rg p.z)/\fK d (i+1)=fK d i+(7+p.s.size+p.t.size)/\fK d (i+1)<=1048576):=by
  intro i hi;have l:d[i]? =some (d[i]'hi):=QV hi;obtain⟨g,o,e,G,h⟩:=H.at_ i _ l;have:=vu d (i+1) hi;exact⟨_,l,⟨g,o,e,fun W u=>h.below G u⟩,H.rg i _ l,yJ d i _ l,by have:=H.rN;omega⟩
 have A9:d.length<=149796:=by have:=vu d 0 (Ri _);have:=H.rN;omega
 have V:Hid (∀W,yW w W->W.cell? ⟨A,0,none⟩=some (iV .i64 8)):=fun W u=>dC u A3
 clear H T A3;generalize hN:d.length=N at*;clear hN;go_enter func10,ntmps10
 go_wp2_with fail
 refine A1.out.mono ?_;rintro e w1 ⟨rfl,n1,I⟩;have hz:w1.heap.size=w.heap.size:=by rw[I];rfl
 have A0:Hid (MI (w.drewN n1) w.heap.size 0 (fK d 0) (w1.alloc (.cells #[lV none 0 0,lV none 0 0] 31))):=by rw[I];exact A2.out n1
 have D:=aa (Z.out n1);clear A1 A2 Z I;go_wp2_with fail
 go_loopg [7] N (fun g r wr=>∃i:Nat,g=N - i/\i<=N/\r=iV .i64 i/\Hid (MI (w.drewN n1) w.heap.size i (fK d i) wr))
 case atStart=>exact⟨0,rfl,by omega,rfl,A0⟩
 case round=>
  obtain⟨i,v,hi,rfl,C⟩:=hrel;have R:=aa v;clear v A0;by_cases G:i<N
  ·obtain⟨⟨k,x,y,z,s,t⟩,l,⟨g,o,rfl,F⟩,⟨K,L,M⟩,J,A8⟩:=O.out i G;simp only at K L M J;have P:Hid (∀W,yW w W->W.cell? ⟨g,o+i*6,none⟩=some (iV .i64 k)):=fun W u=>(F W u).c0
   obtain⟨r0,r1,r2,r3,r4,r5⟩:=F wr (D.out _ _ _ C.out);simp only at r0 r1 r2 r3 r4 r5;have B:=Nc C.out k x y z K L M s t (by omega) (by omega);rw[show fK d i+(7+s.size+t.size)=fK d (i+1) from J.symm] at B;unfold fX at B;have Q:=aa B;clear B K L M J A8 l F C O;have A6:(i:Int)<(N:Int):=by omega
   go_wp2_with fail
   refine Q.out.mono ?_;rintro e w2 ⟨b,rfl,E,f⟩;have HB:=aa f;have X:Hid (∀n,MI (w.drewN n1) w.heap.size (i+1) (fK d (i+1)) (w2.drewN n)):=fun n=>E.below (below_drewN (Q1 _ w2) n)
   have p0:w2.cell? ⟨g,o+i*6,none⟩=some (iV .i64 k):=P.out w2 (D.out _ _ _ E);have A5:=aa (V.out w2 (D.out _ _ _ E));clear r0 r1 r2 r3 r4 r5 Q f E P V;go_wp2_with fail
   go_loopg [9,10] 1 (fun g hv r wq=>∃(j n:Nat) (f:Bool),g=1 - j/\j<=1/\hv=bV f/\r=iV .i64 j/\Hid (f=true->k=8)/\wq=w2.drewN n)
   case atStart=>exact⟨0,0,false,rfl,by omega,rfl,rfl,(fun h=>by cases h),rfl⟩
   case round=>
    obtain⟨j,n,f,v,hj,rfl,rfl,U,A4⟩:=hrel;have S:=aa v;have q:=aa A4;clear v A4;by_cases B0:j<1
    ·have e0:wr.cell? ⟨g,o+i*6,none⟩=some (iV .i64 k):=by rw[q.out];exact p0
     have e1:wr.cell? ⟨A,j,none⟩=some (iV .i64 8):=by rw[q.out,show j=0 by omega];exact A5.out
     clear p0;have A7:(j:Int)<(1:Int):=by omega
     cases f
     ·go_wp2_with fail
      go_quiet (fail)
      go_wp2_with fail
      go_roundg (1 - (j+1))
      case measure=>have:=S.out;omega
      case rel=>exact⟨j+1,n+nq,_,rfl,by omega,rfl,by go_num,(fun h=>(of_decide_eq_true h).symm),by rw[q.out];exact World.drewN_drewN ..⟩
     ·go_wp2_with fail
      go_quiet (fail)
      go_wp2_with fail
      go_roundg (1 - (j+1))
      case measure=>have:=S.out;omega
      case rel=>exact⟨j+1,n+nq,_,rfl,by omega,rfl,by go_num,(fun _=>U.out trivial),by rw[q.out];exact World.drewN_drewN ..⟩
    ·obtain rfl:j=1:=by omega
     have A7:¬(1:Int)<(1:Int):=by omega
     have Y:Hid (MI (w.drewN n1) w.heap.size (i+1) (fK d (i+1)) wr):=by rw[q.out];exact X.out n
     clear X;cases f
     ·go_wp2_with fail
      go_roundg (N - (i+1))
      case measure=>have:=R.out;omega
      case rel=>exact⟨i+1,rfl,by omega,by go_num,Y⟩
     ·obtain rfl:b=true:=HB.out (U.out rfl);go_wp2_with fail
      go_roundg (N - (i+1))
      case measure=>have:=R.out;omega
      case rel=>exact⟨i+1,rfl,by omega,by go_num,Y⟩
  ·obtain rfl:i=N:=by omega
   have A6:¬(i:Int)<(i:Int):=by omega
   go_wp2_with fail
   go_ret
   exact⟨rfl,D.out _ _ _ C.out⟩
theorem orders_calls(a)(cap:Nat)(b:List gE)(w)(H:pP w a b)(T:az w):
 Calls yP 4 #[lV a b.length cap] w fun e w'=>e=rV (bV true)/\yW w w':=by
 have k:=aa (SW w T);have l:Hid (∀W,yW w W->Calls yP 10 #[lV a b.length cap,lV (qA W.heap.size) 1 1] (W.alloc (.cells #[iV .i64 8] 3)) fun e w'=>e=rV (bV true)/\yW w w'):=fun W g=>
  have c:yW w (W.alloc (.cells #[iV .i64 8] 3)):=g.alloc g.size _;(Ni a cap b _ (H.below c) (T.below c) W.heap.size (So _ _ _ 0 _ rfl)).mono fun e w' h=>⟨h.1,c.trans (h.2.out.mono c.size)⟩
 clear H T;generalize b.length=N at*;go_enter func4,ntmps4
 go_wp2_with fail
 refine k.out.mono ?_;rintro e w1 ⟨rfl,d⟩;have i:=aa d;clear d;go_wp2_with fail
 refine(l.out w1 i.out).mono ?_;rintro e w2 ⟨rfl,f⟩;have j:=aa f;clear f;go_wp2_with fail
 go_ret
 exact⟨rfl,j.out⟩
end Go.Proofs.YtkfdmlcjpomfgaaGreatDoor
