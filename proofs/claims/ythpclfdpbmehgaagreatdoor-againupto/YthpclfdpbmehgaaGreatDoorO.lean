import Derived.Test.YthpclfdpbmehgaaGreatDoorM
open Go.Proofs.Tryz
open Go.Proofs.Tryz renaming prog→yP
open Go.Value renaming string→sV,pointer→pV,int→iV,slice→lV,bool→bV,tuple→tV,agg→gV
open Go.Ending renaming returned→rV
namespace Go.Proofs.YthpclfdpbmehgaaGreatDoor
open Go.RowKit
set_option maxRecDepth 100000
set_option maxHeartbeats 0
set_option linter.all false
def Fits(a:List (yB×yB))(l:List yL):Prop:=∀l',(∀c∈l',c∈l)->(aT a l').length<4000000000000
def Fits.next{d l a b}(h:Fits d l)(e:∀c∈a,c∈l)(f:∀c∈b,c∈l):Fits (aT d a) b:=fun l' i=>by
 rw[<-wX]
 exact h _ fun c g=>(UA.1 g).elim (e c) fun h=>f c (i c h)
def Ji{t}(a:aO t)(b:t.read):mR t:=by
 cases t with
 |nil=>exact b.elim
 |unread _=>exact b.elim
 |leaf h p v=>exact ov h p v a.2.2.1 a.2.2.2
 |ext h p k=>exact uN h p k a.2.2.1 a.2.2.2.2
 |branch h v ks=>exact sq h v ks a.2.1 a.2.2
def qR(t:Nd):Prop:=∀(base:Nat) (w:World) (d sb:Nat) (u0 u:Option Addr) (a:Nat->Value) (c:List (yB×yB)) (S:Nat->Prop) (b:Bool),
 fF w d (qA sb) u0->At w t S (pV u)->aO t->bK t->(b=false->cW t)->gG base w sb a c->¬cy sb a d->(∀x,S x->¬cy sb a x)->(∀k,cy sb a k->3<=k)->base<=w.heap.size->3<=base->aB w->Fits c (cf t b)->
 yC 117 #[pV (qA d),pV u,bV b] w fun e w'=>e=rV (tV #[])/\dP base w w' sb a (aT c (cf t b))
def uq:qR .nil:=by
 intro base w g sb u0 u f d S e _ a _ _ _ b _ _ _ _ _ _ _;have h2:=a;injection h2 with h3;subst h3;have c:=aa (dP.refl b);clear a b;go_enter func117,ntmps117
 go_wp2
 (try simp only[Exit.inBlock,Exit.then])
 refine UB (results_none rfl _ _ _) rfl ?_;exact⟨rfl,c.o⟩
def Qo(h):qR (.unread h):=by
 intro base w j sb u0 u i f S g _ d _ _ _ a _ _ _ _ _ _ _;obtain⟨b,e,hs,B⟩:=d;have h2:=e;injection h2 with h3;subst h3;have c:=aa (dP.refl a);have c0:=B.c0;clear a B e hs;go_enter func117,ntmps117
 go_wp2
 (try simp only[Exit.inBlock,Exit.then])
 refine UB (results_none rfl _ _ _) rfl ?_;exact⟨rfl,c.o⟩
def Dk{base w w' b d f}(T:aB w)(h:dP base w w' b d f)(h3:∀k,cy b d k->3<=k):aB w':=by
 let⟨_,_,_,k⟩:=h;have hs:=T.size;have c:∀x,x<3->w'.heap[x]? =w.heap[x]? :=fun x g=>k.block x (by omega) fun e=>by have:=h3 x e;omega
 exact⟨Ut hs k.size,fun j a=>(Uz (w:=w) (c 0 (by omega))).trans (T.words j a),fun j a=>(Uz (w:=w) (c 1 (by omega))).trans (T.turns j a),fun j a=>(Uz (w:=w) (c 2 (by omega))).trans (T.ud j a)⟩
def Gq{k}(D:qR k){base:Nat}{w w1:World}{a sb:Nat}{u0 i:Option Addr}{f:Nat->Value}{g:List (yB×yB)}{S j:Nat->Prop}
 (l:fF w a (qA sb) u0) (t:At w k j (pV i)) (n:∀x,j x->S x) (v:aO k) (o:cW k) (r:¬cy sb f a) (m:∀x,S x->¬cy sb f x) (h3:∀q,cy sb f q->3<=q) (y:3<=base) (F:base<=w.heap.size) (T:aB w)
 (b:dP base w w1 sb f g) (B:Fits g (cf k false)):
 yC 117 #[pV (qA a),pV i,bV false] w1 fun e w'=>e=rV (tV #[])/\dP base w w' sb f (aT g (cf k false)):=by
 have s:=Dk T b h3;have A:=b.kept a l.lt r;have u:At w1 k (fun x=>j x/\x<w.heap.size) (pV i):=t.cut.kept fun x d _=>b.kept x d.2 (m x (n x d.1))
 have G:=b.size;let⟨E,q1,q2,q3⟩:=b;refine(D base w1 a sb u0 i E g _ false (l.kept A) u v o.loose (fun _=>o) q1 (Fs q2 l.lt r) (fun x d=>Fs q2 d.2 (m x (n x d.1))) (fun q C=>?_) (by omega) y s B).mono fun e w' ⟨h1,h2⟩=>⟨h1,dP.trans q1 q2 q3 h2⟩
 rcases C with rfl|⟨c,p,z⟩
 ·exact h3 q (.inl rfl)
 ·rcases q2 c p q z with h|h
  ·exact h3 q (.inr ⟨c,p,h⟩)
  ·omega
def Ak(t:Nd)(n:t.read)(C4:qR t.pg)(C5:∀i,i<16->qR (t.qt i)):qR t:=by
 intro base w s sb u0 u m q S l I hA D hL A3 hP Q H h3 A6 A5 T R;obtain⟨b,W,U,S0,Ss,rfl,B6,B,C2,C3,B4,B5⟩:=hA.Tv n;have A1:aO t.pg/\cW t.pg:=by
  cases t with
  |ext h p k=>exact⟨D.2.2.2.2,hL⟩
  | _=>exact⟨trivial,trivial⟩
 have A2:∀i,i<16->aO (t.qt i)/\cW (t.qt i):=fun i hi=>by
  cases t with
  |branch h v ks=>exact⟨D.2.2 i hi,hL i hi⟩
  | _=>exact⟨trivial,trivial⟩
 obtain⟨f,E⟩:=yX (fun i=>cf t.pg false++(List.range i).flatMap (fun i=>cf (t.qt i) false))
 have N:∀i,f (i+1)=f i++cf (t.qt i) false:=fun i=>by rw[E];simp only[List.range_succ,List.flatMap_append,List.flatMap_cons,List.flatMap_nil,UU,UI]
 have A7:=PM n l;have B7:aT q (cf t l)=aT (aT q (f 16)) (iO t.code l):=by rw[A7,wX,E]
 have J:∀d j,j+d=16->∀c∈f j,c∈cf t l:=fun d=>by
  induction d with
  |zero=>intro j hj c z;rw[A7];obtain rfl:j=16:=Nat.le_antisymm (by omega) (by omega);rw[E] at z;exact UR _ z
  |succ d ih=>intro j hj c z;exact ih (j+1) (by omega) c (by rw[N];exact UR _ z)
 have C8:yH (yC 117 #[pV (qA s),pV W,bV false] w fun e w'=>e=rV (tV #[])/\yH (dP base w w' sb m (aT q (f 0)))):=by
  have:=Gq C4 I B4 C2 A1.1 A1.2 Q H h3 A5 A6 T (dP.refl hP) (R.next (a:=[]) (fun _ h=>by cases h) fun c z=>J 16 0 rfl c (by rw[show f 0=cf t.pg false by rw[E];simp];exact z));refine this.mono fun e w' ⟨h1,h2⟩=>⟨h1,?_⟩
  have h0:f 0=cf t.pg false:=by rw[E];simp
  rw[h0];exact h2
 have D0:yH (∀i,i<16->∀w1,dP base w w1 sb m (aT q (f i))->yC 117 #[pV (qA s),pV (U i),bV false] w1 fun e w'=>e=rV (tV #[])/\yH (dP base w w' sb m (aT q (f (i+1))))):=fun i hi w1 o=>by
  have:=Gq (C5 i hi) I (B5 i hi) (fun x V=>C3 i x hi V) (A2 i hi).1 (A2 i hi).2 Q H h3 A5 A6 T o (R.next (J (16 - i) i (by omega)) fun c z=>J (15 - i) (i+1) (by omega) c (by rw[N];exact UP _ z));refine this.mono fun e w' ⟨h1,h2⟩=>⟨h1,?_⟩
  rw[N,wX];exact h2
 have X:yH (∀w1 F,dP base w w1 sb m F->(w1.heap[b]? =w.heap[b]?/\w1.heap[s]? =w.heap[s]?)/\b<w1.heap.size):=fun w1 F o=>⟨⟨o.kept b B.lt (H b B6),o.kept s I.lt Q⟩,Us B.lt o.size⟩
 have C7:yH (∀w1 F,dP base w w1 sb m F->yC 70 #[pV (qA b)] w1 fun e w'=>e=rV (sV (ae t.code))/\yH (dP base w w' sb m F)):=fun w1 F o=>by
  have D3:At w1 t (fun x=>S x/\x<w.heap.size) (pV (qA b)):=hA.cut.kept fun x V _=>o.kept x V.2 (H x V.1)
  exact(xH w1 t _ _ D3 D.lL n (Ji D n)).mono fun e w' ⟨h1,h2⟩=>⟨h1,o.below h2⟩
 have D4:t.code.length<=4096:=(Ji D n).2;have B2:yH (∀w1,dP base w w1 sb m (aT q (f 16))->yC 148 #[pV (qA sb),sV (ae t.code)] w1 fun e w'=>(∃x y,e=rV (tV #[x,y]))/\yH (dP base w w' sb m (aT (aT q (f 16)) [t.code]))):=fun w1 o=>by
  have T1:=Dk T o h3;have hz:=o.size;obtain⟨D7,q1,q2,q3⟩:=o;refine(NT base w1 sb D7 _ q1 T1 (ae t.code) (R _ (J 0 16 rfl)) (by omega)).mono fun e w' hq=>?_
  rcases hq with⟨h1,_⟩|⟨_,h1,h2⟩
  ·rw[aN] at h1;omega
  ·exact⟨⟨_,_,h1⟩,dP.trans q1 q2 q3 h2⟩
 have c0:yc w b 0 (i6 t.kind):=B.c0;have c4:yc w b 4 (pV W):=B.c4;have E0:=B.lt;have D8:((t.kind:Int) == 0)=false:=by
  cases t with
  |nil=>exact n.elim
  |unread _=>exact n.elim
  |leaf _ _ _=>rfl
  |ext _ _ _=>rfl
  |branch _ _ _=>rfl
 have C6:yH (bU w b t (pV W) (fun i=>pV (U i))):=B;have A0:yH (fF w s (qA sb) u0):=I;have B8:(ae t.hash).toList.isEmpty=decide (t.hash=[]):=ke _;have C0:(l=true\/t.hash≠[])->iO t.code l=[t.code]:=fun h=>by
  unfold iO;by_cases ht:l=true
  ·rw[Uj (.inl ht)]
  ·have O:l=false:=by simpa using ht
   have h1:=(A3 O)
   have h2:t.hash=fX t.code:=by
    cases t with
    |nil=>exact n.elim
    |unread _=>exact n.elim
    |leaf _ _ _=>exact h1
    |ext _ _ _=>exact h1.1
    |branch _ _ _=>exact h1.1
   have h4:t.hash≠[]:=h.resolve_left ht;rw[h2] at h4;unfold fX at h4;split at h4
   ·next h5=>rw[Uj (.inr h5)]
   ·exact absurd rfl h4
 have C1:l=false->t.hash=[]->iO t.code l=[]:=fun O h4=>by
  have h1:=(A3 O)
  have h2:t.hash=fX t.code:=by
   cases t with
   |nil=>exact n.elim
   |unread _=>exact n.elim
   |leaf _ _ _=>exact h1
   |ext _ _ _=>exact h1.1
   |branch _ _ _=>exact h1.1
  unfold iO;rw[Ui];rintro (h|h)
  ·rw[O] at h;cases h
  ·rw[h2] at h4;unfold fX at h4;rw[Uj h] at h4;have:=kE t.code;rw[h4] at this;cases this
 rw[B7];clear I hA D hL A3 hP Q H h3 A6 A5 T R B6 B C2 C3 B4 B5 A1 A2 E N A7 B7 J D4 C4 C5 n;generalize hHH:t.hash=HH at*;generalize hKD:(t.kind:Int)=KD at*;generalize hCC:t.code=CC at*;go_enter func117,ntmps117
 go_wp2_with fail
 refine C8.m ?_;rintro e w1 ⟨rfl,D2⟩;clear c4 c0;go_wp2
 go_loopg [6] 16 (fun g r wr=>∃i:Nat,g=16 - i/\i<=16/\r=i6 i/\yH (dP base w wr sb m (aT q (f i))))
 case atStart=>exact⟨0,rfl,by omega,rfl,D2⟩
 case round=>
  obtain⟨i,hg,hi,rfl,M⟩:=hrel;have HG:yH (gk=16 - i):=hg;clear hg;obtain⟨⟨A4,A8⟩,D9⟩:=X.o wr _ M.o;have L:bU wr b t (pV W) (fun i=>pV (U i)):=A4.trans C6.o;have B3:fF wr s (qA sb) u0:=A0.o.kept A8;by_cases B9:i<16
  ·have ck:yc wr b (5+i) (pV (U i)):=L.ck i B9;have D5:(i:Int)<16:=by omega
   have C9:yH (yC 117 #[pV (qA s),pV (U i),bV false] wr fun e w'=>e=rV (tV #[])/\yH (dP base w w' sb m (aT q (f (i+1))))):=D0.o i B9 wr M.o;clear L B3 A4 A8;go_wp2_with fail
   refine C9.m ?_;rintro e w2 ⟨rfl,A⟩;go_wp2
   go_roundg (16 - (i+1))
   case measure=>have:=HG.o;omega
   case rel=>exact⟨i+1,rfl,by omega,by go_num,A⟩
  ·obtain rfl:i=16:=by omega
   have c1:yc wr b 1 (sV (ae HH)):=by rw[<-hHH];exact L.c1
   have A9:yH (yC 70 #[pV (qA b)] wr fun e w'=>e=rV (sV (ae CC))/\yH (dP base w w' sb m (aT q (f 16)))):=C7.o wr _ M.o;have D5:¬(16:Int)<16:=by omega
   clear L B3 A4 A8;have D1:yH (l=false->HH=[]->iO CC l=[]):=C1;have B0:yH ((l=true\/HH≠[])->iO CC l=[CC]):=C0;clear C0 C1;cases l with
   |true=>
    have G:yH (iO CC true=[CC]):=B0.o (.inl rfl);go_wp2_with fail
    refine A9.m ?_;rintro e w2 ⟨rfl,A⟩;obtain⟨⟨_,K⟩,_⟩:=X.o w2 _ A.o;have C:fF w2 s (qA sb) u0:=A0.o.kept K;have t0:=C.c0;have D6:=C.lt;have Y:yH (yC 148 #[pV (qA sb),sV (ae CC)] w2 fun e w'=>(∃x y,e=rV (tV #[x,y]))/\yH (dP base w w' sb m (aT (aT q (f 16)) [CC]))):=B2.o w2 A.o;clear C K;go_wp2_with fail
    refine Y.m ?_;rintro e w3 ⟨⟨x,y,rfl⟩,Z⟩;go_wp2
    go_end0
    rw[G.o];exact⟨rfl,Z.o⟩
   |false=>
    by_cases P:HH=[]
    ·have G:yH (iO CC false=[]):=D1.o rfl P;rw[Uw P] at B8;generalize ae HH=HS at*;go_wp2
     go_end0
     rw[G.o];exact⟨rfl,M.o⟩
    ·have G:yH (iO CC false=[CC]):=B0.o (.inr P);rw[Uv P] at B8;generalize ae HH=HS at*;go_wp2_with fail
     refine A9.m ?_;rintro e w2 ⟨rfl,A⟩;obtain⟨⟨_,K⟩,_⟩:=X.o w2 _ A.o;have C:fF w2 s (qA sb) u0:=A0.o.kept K;have t0:=C.c0;have D6:=C.lt;have Y:yH (yC 148 #[pV (qA sb),sV (ae CC)] w2 fun e w'=>(∃x y,e=rV (tV #[x,y]))/\yH (dP base w w' sb m (aT (aT q (f 16)) [CC]))):=B2.o w2 A.o;clear C K;go_wp2_with fail
     refine Y.m ?_;rintro e w3 ⟨⟨x,y,rfl⟩,Z⟩;go_wp2
     go_end0
     rw[G.o];exact⟨rfl,Z.o⟩
def Qp(t):qR t:=by
 induction t with
 |nil=>exact uq
 |unread h=>exact Qo h
 |leaf h q v=>exact Ak _ trivial uq fun _ _=>uq
 |ext h q k ih=>exact Ak _ trivial ih fun _ _=>uq
 |branch h v ks ih=>exact Ak _ trivial uq fun i _=>ih i
def Uc{base w a sb S t d f}(E:eX w a (qA sb) S t)(n:bK t)(g:gG base w sb d f)(v:¬cy sb d a)(o:∀x,S x->¬cy sb d x)(h3:∀k,cy sb d k->3<=k)(s:base<=w.heap.size)(r:3<=base)(T:aB w)(y:Fits f (cf t true)):
 yC 78 #[pV (qA a)] w fun e w'=>e=rV (sV (ae (bQ t)))/\dP base w w' sb d (aT f (cf t true)):=by
 obtain⟨⟨u,c,i⟩,j,F⟩:=E;have D:=aa (qQ w a _ u t S c i j.aK T);have C:yH (∀W,yW w W->yC 117 #[pV (qA a),pV u,bV true] W fun e w'=>e=rV (tV #[])/\yH (dP base w w' sb d (aT f (cf t true)))):=fun W b=>
  (Qp t base W a sb u u d f S true (c.kept (b.block a c.lt)) (i.below b) j.aK n (fun h=>by cases h) (g.kept fun q m=>b.block q (g.eM q m)) v o h3 (Ut s b.size) r (T.below b) y).mono fun e w' ⟨h1,h2⟩=>⟨h1,dP.trans (g.kept fun q m=>b.block q (g.eM q m)) (fun _ _ _ hg=>.inl hg) (aU.iP b) h2⟩
 have A:yH (∀W,yW w W->yc W a 1 (pV u)/\a<W.heap.size):=fun W b=>⟨(b.cell (p:=⟨a,1,none⟩) c.lt).trans c.c1,Us c.lt b.size⟩
 clear c i j F n g v o h3 s r T y;generalize aT f (cf t true)=PS at*;generalize ae (bQ t)=R at*;go_enter func78,ntmps78
 go_wp2_with fail
 refine D.m ?_;rintro e w1 ⟨rfl,l⟩;have z:=aa l;obtain⟨d1,G⟩:=A.o w1 l;clear l;go_wp2_with fail
 refine(C.o _ z.o).mono ?_;rintro e w2 ⟨rfl,B⟩;go_wp2
 go_ret
 exact⟨rfl,B.o⟩
def vN:∀(q r),aF q (q++r)=q.length
 | [],r=>by cases r<;>rfl
 |x::q,r=>by simp[aF,vN q r]
def DW(q p)(h:aF q p=q.length):p=q++p.drop q.length:=by
 induction q generalizing p with
 |nil=>rfl
 |cons x q ih=>
  cases p with
  |nil=>simp[aF] at h
  |cons y p=>
   simp only[aF] at h;by_cases e:x=y
   ·rw[Uj e] at h;have:=ih p (by simpa using h);rw[e];simpa using this
   ·rw[Ui e] at h;simp at h
def Mr(q p):aF q p=q.length↔∃r,p=q++r:=⟨fun h=>⟨_,DW q p h⟩,fun⟨r,h⟩=>by rw[h];exact vN q r⟩
def lr(h q v p):aM (.leaf h q v) p=if p=q then v else []:=by
 show(if(Nd.leaf h q v).kind≠2/\p=q then v else [])=_;by_cases e:p=q
 ·rw[Uj ⟨fun h=>(by cases h),e⟩,Uj e]
 ·rw[Ui fun h=>e h.2,Ui e]
def lu(h q k r):aM (.ext h q k) (q++r)=aM k r:=by
 show(if aF q (q++r)=q.length then aM k ((q++r).drop q.length) else [])=_;rw[Uj (vN q r),List.drop_left]
def pC(h q k p)(a:∀r,p≠q++r):aM (.ext h q k) p=[]:=by
 show(if aF q p=q.length then _ else [])=_;rw[Ui fun h=>let ⟨r,e⟩:=(Mr q p).1 h;a r e]
def Bb(h)(t:Nd)(p):aM (t.gY h) p=aM t p:=by
 cases t<;>first|rfl| (cases p<;>rfl)
def Bc(q v p):aM (dw q v) p=if p=q then v else []:=by
 show aM ((Nd.leaf [] q v).gY _) p=_;rw[Bb,lr]
def qz(q k p):aM (gm q k) p=aM (.ext [] q k) p:=by
 show aM ((Nd.ext [] q k).gY _) p=_;exact Bb _ _ _
def RE(ks:Nat->Nd)(v p):aM (dN ks v) p=aM (.branch [] v ks) p:=by
 show aM ((Nd.branch [] v ks).gY _) p=_;exact Bb _ _ _
def IL(q)(t:Nd)(hs:t.some)(r):aM (aX q t) (q++r)=aM t r:=by
 by_cases a:q=[]
 ·subst a;rw[mG];rfl
 ·cases t with
  |nil=>exact hs.elim
  |unread h=>
   have e:aX q (.unread h)=gm q (.unread h):=by simp only[aX];rw[Ui a]
   rw[e,qz,lu]
  |leaf h p v=>
   have e:aX q (.leaf h p v)=dw (q++p) v:=by simp only[aX];rw[Ui a]
   rw[e,Bc,lr];by_cases e2:r=p
   ·rw[Uj (by rw[e2]),Uj e2]
   ·rw[Ui fun h=>e2 (Vg h),Ui e2]
  |ext h p k=>
   have e:aX q (.ext h p k)=gm (q++p) k:=by simp only[aX];rw[Ui a]
   rw[e,qz];by_cases b:∃s,r=p++s
   ·obtain⟨s,rfl⟩:=b;rw[<-UI,lu,lu]
   ·rw[pC _ p k r fun s hs=>b ⟨s,hs⟩,pC];intro s hs;rw[UI] at hs;exact b ⟨s,Vg hs⟩
  |branch h v ks=>
   have e:aX q (.branch h v ks)=gm q (.branch h v ks):=by simp only[aX];rw[Ui a]
   rw[e,qz,lu]
def Bd(q t p)(a:∀r,p≠q++r):aM (aX q t) p=[]:=by
 have b:q≠[]:=fun e=>a p (by rw[e];rfl)
 cases t with
 |nil=>
  have e:aX q .nil=gm q .nil:=by simp only[aX];rw[Ui b]
  rw[e,qz];exact pC _ _ _ _ a
 |unread h=>
  have e:aX q (.unread h)=gm q (.unread h):=by simp only[aX];rw[Ui b]
  rw[e,qz];exact pC _ _ _ _ a
 |leaf h p' v=>
  have e:aX q (.leaf h p' v)=dw (q++p') v:=by simp only[aX];rw[Ui b]
  rw[e,Bc,Ui fun h=>a p' h]
 |ext h p' k=>
  have e:aX q (.ext h p' k)=gm (q++p') k:=by simp only[aX];rw[Ui b]
  rw[e,qz];exact pC _ _ _ _ fun r h=>a (p'++r) (by rw[h,UI])
 |branch h v ks=>
  have e:aX q (.branch h v ks)=gm q (.branch h v ks):=by simp only[aX];rw[Ui b]
  rw[e,qz];exact pC _ _ _ _ a
def LA{a b:UInt8}(h:a.toNat=b.toNat):a=b:=UInt8.toNat_inj.1 h
def En(n:Nd)(p v)(hk:n.kind=1\/n.kind=2)(he:n.kind=2->aF n.path p≠n.path.length)(x):aM (gi n p v (aF n.path p)) x=if x=p then v else aM n x:=by
 obtain⟨q,hq⟩:=yX n.path
 rw[<-hq] at he⊢;obtain⟨B4,B3⟩:=iN q p;have A6:=yO q p;have hd:=yQ q p;generalize aF q p=s at*;have A3:=VB s q;have A2:=VB s p;have A8:∀r,(n.kind=1->r≠q)->(n.kind=2->∀y,r≠q++y)->aM n r=[]:=fun r h1 h2=>by
  cases n with
  |leaf h q' y=>rw[lr,Ui];intro e;exact h1 rfl (by rw[hq];exact e)
  |ext h q' k=>exact pC _ _ _ _ fun y=>by have:=h2 rfl y;rw[hq] at this;exact this
  | _=>rcases hk with h|h<;>cases h
 have A4:∀r,(∀y,r≠q++y)->aM n r=[]:=fun r hr=>A8 r (fun _ e=>hr [] (by rw[UU];exact e)) fun _=>hr
 by_cases hx:∃r,x=p.take s++r
 ·obtain⟨r,rfl⟩:=hx;unfold gi;rw[IL _ (dN _ _) trivial,RE];have A0:p.take s++r=p↔r=p.drop s:=⟨fun e=>Vg (e.trans A2.symm),fun e=>by rw[e];exact A2⟩
  have A5:∀y,p.take s++r=q++y↔r=q.drop s++y:=fun y=>by
   rw[<-A6];constructor
   ·intro e;have h1:q.take s++r=q.take s++(q.drop s++y):=by rw[<-UI,A3];exact e
    exact Vg h1
   ·intro e;rw[e,<-UI,A3]
  cases r with
  |nil=>
   show fy n p v s=_;unfold fy;by_cases h1:s<p.length
   ·rw[Uj h1,Ui (show ¬p.take s++[]=p from fun e=>by have:=congrArg List.length (A0.1 e);rw[Uu] at this;simp at this;omega),<-hq];by_cases h2:s<q.length
    ·rw[Uj h2,A4 _ fun y e=>by have:=congrArg List.length ((A5 y).1 e);rw[Uq,Uu] at this;simp at this;omega]
    ·have h3:s=q.length:=by omega
     rw[Ui h2];cases n with
     |leaf h q' y=>
      have e:p.take s++[]=q':=by rw[UU,<-A6,h3,VM,hq];rfl
      rw[e,lr,Uj rfl];rfl
     |ext h q' k=>exact absurd h3 (he rfl)
     | _=>rcases hk with h|h<;>cases h
   ·rw[Ui h1,Uj (A0.2 (by rw[List.drop_eq_nil_of_le (by omega)]))]
  |cons d r=>
   show aM (dF n p v s d.toNat) r=_;have B0:s<p.length->p.drop s=p.getD s 0::p.drop (s+1):=fun h=>by rw[UZ h,Up,Uh h];rfl
   have B1:s<q.length->q.drop s=q.getD s 0::q.drop (s+1):=fun h=>by rw[UZ h,Up,Uh h];rfl
   have A9:¬(s<q.length/\d=q.getD s 0)->aM n (p.take s++d::r)=[]:=fun h=>by
    by_cases h2:s<q.length
    ·refine A4 _ fun y e=>h ⟨h2,?_⟩
     have h1:=(A5 y).1 e;rw[B1 h2] at h1;exact(List.cons.inj h1).1
    ·refine A8 _ (fun _ e=>?_) fun h3=>absurd (by omega:s=q.length) (he h3)
     have:=congrArg List.length e;simp at this;omega
   have hA:¬(s<p.length/\d=p.getD s 0)->aM (dX n s d.toNat) r=if p.take s++d::r=p then v else aM n (p.take s++d::r):=fun B2=>by
    rw[Ui (show ¬p.take s++d::r=p from fun e=>by
     have h1:=A0.1 e;have h2:s<p.length:=by have:=congrArg List.length h1;rw[Uu] at this;simp at this;omega
     rw[B0 h2] at h1;exact B2 ⟨h2,(List.cons.inj h1).1⟩)]
    by_cases h3:s<q.length/\d=q.getD s 0
    ·unfold dX;obtain⟨h2,h3⟩:=h3;rw[<-hq,Uj h2,h3,dK];have A1:∀y,p.take s++q.getD s 0::r=q++y↔r=q.drop (s+1)++y:=fun y=>by
      have:=A5 y;rw[h3,B1 h2] at this;rw[this];exact⟨fun e=>(List.cons.inj e).2,fun e=>by rw[e];rfl⟩
     cases n with
     |leaf h q' y=>
      show aM (dw _ _) _=_;have e1:q=q':=hq;have:=A1 [];rw[UU,UU,e1] at this;rw[Bc,lr,e1];by_cases e:r=q'.drop (s+1)
      ·rw[Uj e,Uj (this.2 e)]
      ·rw[Ui e,Ui (fun q=>e (this.1 q))]
     |ext h q' k=>
      show aM (aX _ k) _=_;have e1:q=q':=hq;rw[e1] at A1⊢;by_cases e:∃y,r=q'.drop (s+1)++y
      ·obtain⟨y,hy⟩:=e;rw[(A1 y).2 hy,lu,hy];cases k with
       |nil=>
        by_cases h0:q'.drop (s+1)=[]
        ·rw[h0,mG];rfl
        ·simp only[aX,Ui h0,qz,lu]
       | _=>exact IL _ _ (by trivial) _
      ·rw[Bd _ _ _ fun y hy=>e ⟨y,hy⟩,pC _ _ _ _ fun y hy=>e ⟨y,(A1 y).1 hy⟩]
     | _=>rcases hk with h|h<;>cases h
    ·rw[A9 h3];unfold dX;rw[<-hq];by_cases h2:s<q.length
     ·rw[Uj h2,e9 _ _ _ _ (fun e=>h3 ⟨h2,LA e⟩)];rfl
     ·rw[Ui h2];rfl
   unfold dF;by_cases h1:s<p.length
   ·rw[Uj h1];by_cases h2:d=p.getD s 0
    ·have hz:=A9 fun h=>hd h.1 h1 (h.2.symm.trans h2)
     rw[B0 h1,h2] at A0;rw[h2] at hz⊢;rw[dK,Bc,hz];by_cases h3:r=p.drop (s+1)
     ·rw[Uj h3,Uj (A0.2 (by rw[h3]))]
     ·rw[Ui h3,Ui fun e=>h3 (List.cons.inj (A0.1 e)).2]
    ·rw[e9 _ _ _ _ (fun e=>h2 (LA e))];exact hA fun h=>h2 h.2
   ·rw[Ui h1];exact hA fun h=>h1 h.1
 ·have A7:∀r,x≠p.take s++r:=fun r e=>hx ⟨r,e⟩
  unfold gi;rw[Bd _ _ _ A7,Ui (fun e=>A7 (p.drop s) (by rw[e,A2])),A4];intro y e;exact A7 (q.drop s++y) (by rw[<-A6,<-UI,A3];exact e)
def IG:∀{t p v},dD t p->∀x,aM (bR t p v) x=if x=p then v else aM t x:=by
 intro t;induction t with
 |nil=>intro p v _ x;exact Bc p v x
 |unread h=>intro p v h;exact h.elim
 |leaf h q y=>
  intro p v _ x;show aM (if q=p then dw p v else gi (.leaf h q y) p v (aF q p)) x=_;by_cases e:q=p
  ·rw[Uj e,Bc,lr,e];split<;>rfl
  ·rw[Ui e];exact En (.leaf h q y) p v (.inl rfl) (fun h=>by cases h) x
 |ext h q k ih=>
  intro p v b x;show aM (if aF q p=q.length then gm q (bR k (p.drop q.length) v) else gi (.ext h q k) p v (aF q p)) x=_;by_cases e:aF q p=q.length
  ·rw[Uj e,qz];have f:=DW q p e;by_cases a:∃r,x=q++r
   ·obtain⟨r,rfl⟩:=a;rw[lu,lu,ih (b e)];by_cases h2:r=p.drop q.length
    ·rw[Uj h2,Uj (by rw[h2];exact f.symm)]
    ·rw[Ui h2,Ui fun h=>h2 (Vg (h.trans f))]
   ·rw[pC _ _ _ _ fun r h=>a ⟨r,h⟩,pC _ _ _ _ fun r h=>a ⟨r,h⟩,Ui fun h=>a ⟨_,h.trans f⟩]
  ·rw[Ui e];exact En (.ext h q k) p v (.inr rfl) (fun _=>e) x
 |branch h y ks ih=>
  intro p v b x;cases p with
  |nil=>
   show aM (dN ks v) x=_;rw[RE];cases x with
   |nil=>rfl
   |cons d r=>rw[Ui (fun h=>by cases h)];rfl
  |cons c r=>
   show aM (dN (aJ ks c.toNat (bR (ks c.toNat) r v)) y) x=_;rw[RE];cases x with
   |nil=>rw[Ui (fun h=>by cases h)];rfl
   |cons d z=>
    show aM (aJ ks c.toNat _ d.toNat) z=if d::z=c::r then v else aM (ks d.toNat) z;by_cases e:d=c
    ·rw[e,dK,ih c.toNat b z];by_cases h2:z=r
     ·rw[Uj h2,Uj (by rw[h2])]
     ·rw[Ui h2,Ui fun h=>h2 (List.cons.inj h).2]
    ·rw[e9 _ _ _ _ (fun h=>e (LA h)),Ui fun h=>e (List.cons.inj h).1]
def bL:Nd->Prop
 | .unread _=>False
 | .ext _ _ k=>bL k
 | .branch _ _ ks=>∀i,i<16->bL (ks i)
 | _=>True
def ru{G t d bl}(h:bL t):dG G t d bl=.ok t:=by
 cases t<;>first|exact h.elim|rfl
def nT:∀{t p},bL t->aw p->dD t p:=by
 intro t;induction t with
 |nil=>intro p _ _;trivial
 |unread _=>intro p h _;exact h.elim
 |leaf _ _ _=>intro p _ _;trivial
 |ext h q k ih=>intro p b a _;exact ih b (da a _)
 |branch h v ks ih=>
  intro p b a;cases p with
  |nil=>trivial
  |cons c r=>exact ih _ (b _ (a c (Uk ..))) fun y d=>a y (Ul _ d)
def pB{h v ks}(c:UInt8)(r):aM (.branch h v ks) (c::r)=aM (ks c.toNat) r:=rfl
def IJ{G ks v dep b}(f:∀i,i<16->bL (ks i))(h:cd G ks v dep=.ok b)(x)(a:aw x):aM b x=aM (.branch [] v ks) x:=by
 unfold cd at h;by_cases h0:cO ks 16=0
 ·rw[Uj h0] at h;cases h;rw[Bc];cases x with
  |nil=>rw[Uj rfl];rfl
  |cons c r=>
   rw[Ui (fun h=>by cases h),pB,Av ks 16 h0 _ (a c (Uk ..))];rfl
 ·rw[Ui h0] at h;by_cases h2:1<cO ks 16\/v≠[]
  ·rw[Uj h2] at h;cases h;exact RE ks v x
  ·rw[Ui h2] at h;let⟨j,hs⟩:=nt ks 16 (by omega);rw[ru (f _ j)] at h;cases h
   have k:v=[]:=Vn fun h=>h2 (.inr h)
   have h1:cO ks 16=1:=by
    have:¬1<cO ks 16:=fun h=>h2 (.inl h)
    omega
   cases x with
   |nil=>
    rw[Bd _ _ _ (fun r h=>by cases h)];exact k.symm
   |cons c r=>
    have g:=a c (Uk ..);rw[pB];by_cases e:c.toNat=dx ks 16
    ·have e2:c=UInt8.ofNat (dx ks 16):=by rw[<-e];simp
     have e3:c::r=[UInt8.ofNat (dx ks 16)]++r:=by rw[<-e2];rfl
     rw[e3,IL _ _ hs,e]
    ·rw[GG ks 16 h1 _ g e,Bd]
     ·rfl
     ·intro l d;have e4:=(List.cons.inj d).1;apply e;rw[e4,U3];omega
def ot(G:yB->Option yB):∀(t) (p) (dep:Nat) (a),aA t dep->bK t->bL t->jL t p->aw p->dep+p.length<=80->bI G t p dep=.ok a->∀x,aw x->aM a x=if x=p then [] else aM t x:=by
 intro t;induction t with
 |nil=>intro p dep a _ _ _ j;exact j.elim
 |unread _=>intro p dep a _ _ _ j;exact j.elim
 |leaf h q v=>
  intro p dep a _ _ _ j _ _ g x _;cases g
  have Q:q=p:=j;rw[lr];show([]:yL)=_;by_cases e:x=p
  ·rw[Uj e]
  ·rw[Ui e,Ui (by rw[Q];exact e)]
 |ext h q k ih=>
  intro p dep a n o f j l C g x u;have D:dD (.ext h q k) p:=nT f l;have S:=uo n o D j l C (.inl rfl) g;let⟨A,H⟩:=j;have I:=DW q p A;have b:lH q (bI G k (p.drop q.length) (dep+q.length))=.ok a:=g;cases hk:bI G k (p.drop q.length) (dep+q.length) with
  |error c=>rw[hk] at b;cases b
  |ok k'=>
   rw[hk] at b;cases b;have O:=(iN q p).2;rw[A] at O;have M:k.kind=3:=by
    have L:=n.bB.2.1;have P:=D A;cases k<;>first|exact L.elim|exact P.elim|rfl
   have N:=(lk G k _ _ k' (fq n) o.loose (D A) H (da l _) (by rw[Uu];omega) hk).2 M;have B:=ih (p.drop q.length) (dep+q.length) k' (fq n) o.loose f H (da l _) (by rw[Uu];omega) hk;by_cases E:∃r,x=q++r
   ·obtain⟨r,rfl⟩:=E;have m:aw r:=fun y F=>u y (UP _ F)
    rw[IL _ _ N,lu,B r m];by_cases e:r=p.drop q.length
    ·rw[Uj e,Uj (by rw[e];exact I.symm)]
    ·rw[Ui e,Ui];intro e2;apply e;rw[I] at e2;rw[Vg e2]
   ·rw[Bd _ _ _ fun r m=>E ⟨r,m⟩,pC _ _ _ _ fun r m=>E ⟨r,m⟩];by_cases e:x=p
    ·rw[Uj e]
    ·rw[Ui e]
 |branch h v ks ih=>
  intro p dep a n o f j l C g x u;cases p with
  |nil=>
   rw[IJ (v:=[]) f g x u];cases x with
   |nil=>rw[Uj rfl];rfl
   |cons c r=>rw[Ui (fun h=>by cases h)];rfl
  |cons c r=>
   have w:=l c (Uk ..);have m:aw r:=fun y F=>l y (Ul _ F)
   have b:pU (fun k=>cd G (aJ ks c.toNat k) v dep) (bI G (ks c.toNat) r (dep+1))=.ok a:=g;cases hk:bI G (ks c.toNat) r (dep+1) with
   |error e=>rw[hk] at b;cases b
   |ok k'=>
    rw[hk] at b;have J:∀i,i<16->cW (ks i):=o;have B:=ih c.toNat r (dep+1) k' (dA n _ w) (J _ w).loose (f _ w) j m (by simp at C;omega) hk;have K:∀i,i<16->bL (aJ ks c.toNat k' i):=fun i hi=>by
     by_cases e:i=c.toNat
     ·subst e;rw[dK];exact less_all G _ _ _ _ (f _ w) hk
     ·rw[e9 _ _ _ _ e];exact f i hi
    rw[IJ K b x u];cases x with
    |nil=>rw[Ui (fun h=>by cases h)];rfl
    |cons d y=>
     rw[pB,pB];by_cases e:d.toNat=c.toNat
     ·have e2:d=c:=LA e;subst e2;rw[dK,B y fun z R=>u z (Ul _ R)];by_cases e3:y=r
      ·rw[Uj e3,Uj (by rw[e3])]
      ·rw[Ui e3,Ui fun h=>e3 (List.cons.inj h).2]
     ·rw[e9 _ _ _ _ e,Ui fun h=>e (by rw[(List.cons.inj h).1])]
 where
  join_all {q:yL} {k:Nd} (h:bL k):bL (aX q k):=by
   by_cases s:q=[]
   ·rw[s,mG];exact h
   ·cases k with
    |nil=>simp only[aX];rw[Ui s];exact h
    |unread _=>exact h.elim
    |leaf _ _ _=>simp only[aX];rw[Ui s];trivial
    |ext _ _ k=>simp only[aX];rw[Ui s];exact h
    |branch _ _ ks=>simp only[aX];rw[Ui s];exact h
  shrink_all (G:yB->Option yB) (ks:Nat->Nd) (v:yL) (dep:Nat) (a:Nd) (f:∀i,i<16->bL (ks i)) (h:cd G ks v dep=.ok a):bL a:=by
   unfold cd at h;split at h
   ·cases h;trivial
   ·split at h
    ·cases h;exact f
    ·next h0 _=>
     let⟨g,_⟩:=nt ks 16 (by omega);rw[ru (f _ g)] at h;cases h
     exact join_all (f _ g)
  less_all (G:yB->Option yB):∀(t:Nd) (p:yL) (dep:Nat) (a:Nd),bL t->bI G t p dep=.ok a->bL a:=by
   intro t;induction t with
   |nil=>intro p dep a _ h;cases h;trivial
   |unread _=>intro p dep a h;exact h.elim
   |leaf _ _ _=>intro p dep a _ h;cases h;trivial
   |ext h q k ih=>
    intro p dep a f g;have b:lH q (bI G k (p.drop q.length) (dep+q.length))=.ok a:=g;cases hk:bI G k (p.drop q.length) (dep+q.length) with
    |error c=>rw[hk] at b;cases b
    |ok k'=>rw[hk] at b;cases b;exact join_all (ih _ _ _ f hk)
   |branch h v ks ih=>
    intro p dep a f g;cases p with
    |nil=>exact shrink_all G ks [] dep a f g
    |cons c r=>
     have b:pU (fun k=>cd G (aJ ks c.toNat k) v dep) (bI G (ks c.toNat) r (dep+1))=.ok a:=g;cases hk:bI G (ks c.toNat) r (dep+1) with
     |error e=>rw[hk] at b;cases b
     |ok k'=>
      rw[hk] at b;refine shrink_all G _ v dep a (fun i hi=>?_) b;by_cases e:i=c.toNat
      ·subst e;rw[dK];exact ih _ _ _ _ (f _ hi) hk
      ·rw[e9 _ _ _ _ e];exact f i hi
def gX(Q:yL->Prop):Nd->Prop
 | .leaf h p v=>h≠[]->Q (Nd.leaf h p v).code
 | .ext h p k=>(h≠[]->Q (Nd.ext h p k).code)/\gX Q k
 | .branch h v ks=>(h≠[]->Q (Nd.branch h v ks).code)/\∀i,i<16->gX Q (ks i)
 | _=>True
def Part(Q:yL->Prop):Nd->Nd->Prop
 | .nil,F=>F=.nil
 | .unread h,F=>F.read/\h=fe F.code/\Q F.code/\gX Q F
 | .leaf _ p v,F=>∃h,F=.leaf h p v
 | .ext _ p k,F=>∃h kF,F=.ext h p kF/\Part Q k kF/\k.hash=kF.hash
 | .branch _ v ks,F=>∃h kFs,F=.branch h v kFs/\∀i,i<16->Part Q (ks i) (kFs i)/\(ks i).hash=(kFs i).hash
def gX.mono{Q d}(b:∀c,Q c->d c):∀{t},gX Q t->gX d t:=by
 intro t;induction t with
 |nil=>exact id
 |unread _=>exact id
 |leaf h p v=>exact fun h a=>b _ (h a)
 |ext h p k ih=>exact fun h=>⟨fun a=>b _ (h.1 a),ih h.2⟩
 |branch h v ks ih=>exact fun h=>⟨fun a=>b _ (h.1 a),fun i hi=>ih i (h.2 i hi)⟩
def Part.mono{Q b}(d:∀c,Q c->b c):∀{t F},Part Q t F->Part b t F:=by
 intro t;induction t with
 |nil=>exact id
 |unread _=>exact fun h=>⟨h.1,h.2.1,d _ h.2.2.1,h.2.2.2.mono d⟩
 |leaf h p v=>exact id
 |ext h p k ih=>rintro F ⟨a,f,e,h1,h2⟩;exact⟨a,f,e,ih h1,h2⟩
 |branch h v ks ih=>rintro F ⟨a,g,e,h1⟩;exact⟨a,g,e,fun i hi=>⟨ih i (h1 i hi).1,(h1 i hi).2⟩⟩
def Part.nil{Q t F}(h:Part Q t F):t.isNil=F.isNil:=by
 cases t with
 |nil=>rw[show F=.nil from h]
 |unread _=>have:=h.1;cases F<;>first|exact this.elim|rfl
 |leaf _ _ _=>obtain⟨a,rfl⟩:=h;rfl
 |ext _ _ _=>obtain⟨a,b,rfl,_⟩:=h;rfl
 |branch _ _ _=>obtain⟨a,b,rfl,_⟩:=h;rfl
def Part.same{Q t F}(h:Part Q t F):t.some↔F.some:=by
 rw[<-gM,<-gM,h.nil]
def Part.read{Q t F}(h:Part Q t F)(hs:t.some):F.read:=by
 cases t with
 |nil=>exact hs.elim
 |unread _=>exact h.1
 |leaf _ _ _=>obtain⟨a,rfl⟩:=h;trivial
 |ext _ _ _=>obtain⟨a,b,rfl,_⟩:=h;trivial
 |branch _ _ _=>obtain⟨a,b,rfl,_⟩:=h;trivial
def Part.rq{Q k b}(d:aO k)(h:Part Q k b)(c:k.hash=b.hash)(hi:k.read->k.item=b.item):k.ref=b.ref:=by
 by_cases hs:k.some
 ·have e:=h.same.1 hs;by_cases a:k.hash=[]
  ·have f:k.read:=by
    cases k with
    |nil=>exact hs.elim
    |unread x=>rw[show x=[] from a] at d;cases d
    | _=>trivial
   rw[ml hs a,ml e (c▸a),hi f]
  ·rw[jQ hs a,jQ e (c▸a),c]
 ·have e1:k=.nil:=by cases k<;>first|rfl|exact absurd trivial hs
  subst e1;rw[show b=.nil from h]
def Part.item{Q}:∀{t F},aO t->Part Q t F->t.read->t.item=F.item:=by
 intro t;induction t with
 |nil=>intro F _ _ h;exact h.elim
 |unread _=>intro F _ _ h;exact h.elim
 |leaf _ _ _=>rintro F _ ⟨b,rfl⟩ _;rfl
 |ext h p k ih=>
  rintro F a ⟨b,c,rfl,h1,h2⟩ _;show bJ [_,k.ref]=bJ [_,c.ref];rw[h1.rq a.2.2.2.2 h2 (ih a.2.2.2.2 h1)]
 |branch h v ks ih=>
  rintro F a ⟨b,d,rfl,h1⟩ _;show bJ ((List.range 16).map (fun i=>(ks i).ref)++[ak v])=bJ ((List.range 16).map (fun i=>(d i).ref)++[ak v]);congr 2;refine Vz fun i hi=>?_
  have hi:=Vq.1 hi;exact(h1 i hi).1.rq (a.2.2 i hi) (h1 i hi).2 (ih i (a.2.2 i hi) (h1 i hi).1)
def Part.code{Q t F}(a:aO t)(h:Part Q t F)(b:t.read):t.code=F.code:=by
 unfold Nd.code;rw[h.item a b]
def Part.ref{Q k a}(b:aO k)(h:Part Q k a)(c:k.hash=a.hash):k.ref=a.ref:=h.rq b c (h.item b)
def Part.root{Q t F}(a:aO t)(f:aO F)(h:Part Q t F):bQ t=bQ F:=by
 have c:∀n:Nd,aO n->n.read->bQ n=fe n.code:=fun n d b=>by
  have hs:n.some:=by cases n<;>first|exact b.elim|trivial
  have g:js n:=by
   cases n with
   |nil=>exact b.elim
   |unread _=>exact b.elim
   |leaf _ _ _=>exact d.1
   |ext _ _ _=>exact d.1
   |branch _ _ _=>exact d.1
  rw[nQ hs];by_cases e:n.hash=[]
  ·rw[Uj e]
  ·rw[Ui e];rcases g with h|h
   ·unfold fX at h;split at h
    ·exact h
    ·exact absurd h e
   ·exact h
 by_cases hs:t.some
 ·have b:=h.read hs;rw[c F f b];cases t with
  |nil=>exact hs.elim
  |unread x=>
   have i:(Nd.unread x).hash≠[]:=fun e=>by rw[show x=[] from e] at a;cases a
   rw[nQ hs,Ui i];exact h.2.1
  |leaf _ _ _=>rw[c _ a trivial,h.code a trivial]
  |ext _ _ _=>rw[c _ a trivial,h.code a trivial]
  |branch _ _ _=>rw[c _ a trivial,h.code a trivial]
 ·have e1:t=.nil:=by cases t<;>first|rfl|exact absurd trivial hs
  subst e1;rw[show F=.nil from h]
def Part.find{Q}:∀{t F p},Part Q t F->dD t p->aw p->aM t p=aM F p:=by
 intro t;induction t with
 |nil=>intro F p h _ _;rw[show F=.nil from h]
 |unread _=>intro F p _ h _;exact h.elim
 |leaf _ _ _=>rintro F p ⟨d,rfl⟩ _ _;rw[lr,lr]
 |ext h q k ih=>
  rintro F p ⟨d,g,rfl,h1,h2⟩ b a;show(if aF q p=q.length then aM k (p.drop q.length) else [])=(if aF q p=q.length then aM g (p.drop q.length) else []);by_cases e:aF q p=q.length
  ·rw[Uj e,Uj e];exact ih h1 (b e) (da a _)
  ·rw[Ui e,Ui e]
 |branch h v ks ih=>
  rintro F p ⟨d,i,rfl,h1⟩ b a;cases p with
  |nil=>rfl
  |cons c r=>
   show aM (ks c.toNat) r=aM (i c.toNat) r;exact ih c.toNat (h1 _ (a c (Uk ..))).1 b fun y f=>a y (Ul _ f)
def Part.refl{Q}:∀{t},bL t->Part Q t t:=by
 intro t;induction t with
 |nil=>intro _;rfl
 |unread _=>intro h;exact h.elim
 |leaf h p v=>intro _;exact⟨h,rfl⟩
 |ext h p k ih=>intro a;exact⟨h,k,rfl,ih a,rfl⟩
 |branch h v ks ih=>intro a;exact⟨h,ks,rfl,fun i hi=>⟨ih i (a i hi),rfl⟩⟩
def il(Q:yL->Prop)(t F:Nd):Prop:=Part Q t F/\t.hash=F.hash
def rC{Q}(p v):il Q (dw p v) (dw p v):=⟨⟨_,rfl⟩,rfl⟩
def wD{Q q k a}(b:aO k)(h:il Q k a):il Q (gm q k) (gm q a):=by
 refine⟨⟨_,a,rfl,h.1,h.2⟩,?_⟩;show(Nd.ext [] q k).mk.hash=(Nd.ext [] q a).mk.hash;rw[uA (.ext [] q k) trivial,uA (.ext [] q a) trivial];unfold Nd.code;have:(Nd.ext [] q k).item=(Nd.ext [] q a).item:=by
  show bJ [_,k.ref]=bJ [_,a.ref];rw[h.1.ref b h.2]
 rw[this]
def wE{Q v ks a}(b:∀i,i<16->aO (ks i))(h:∀i,i<16->il Q (ks i) (a i)):il Q (dN ks v) (dN a v):=by
 refine⟨⟨_,a,rfl,h⟩,?_⟩;show(Nd.branch [] v ks).mk.hash=(Nd.branch [] v a).mk.hash;rw[uA (.branch [] v ks) trivial,uA (.branch [] v a) trivial];unfold Nd.code;have:(Nd.branch [] v ks).item=(Nd.branch [] v a).item:=by
  show bJ ((List.range 16).map (fun i=>(ks i).ref)++[ak v])=bJ ((List.range 16).map (fun i=>(a i).ref)++[ak v]);congr 2;refine Vz fun i hi=>?_
  have hi:=Vq.1 hi;exact(h i hi).1.ref (b i hi) (h i hi).2
 rw[this]
def wC{Q q k b}(c:aO k)(h:il Q k b)(hs:k.some)(g:∀x,k=.unread x->q≠[]->b.fY):il Q (aX q k) (aX q b):=by
 by_cases a:q=[]
 ·subst a;rw[mG,mG];exact h
 ·cases k with
  |nil=>exact hs.elim
  |unread x=>
   have d:=g x rfl a;have f:=h.1.read trivial;cases b with
   |branch x' v ks=>simp only[aX,Ui a];exact wD c h
   |unread _=>exact f.elim
   |nil=>exact d.elim
   |leaf _ _ _=>exact d.elim
   |ext _ _ _=>exact d.elim
  |leaf x p v=>
   obtain⟨⟨e,rfl⟩,_⟩:=h;simp only[aX,Ui a];exact rC _ _
  |ext x p k2=>
   obtain⟨⟨e,i,rfl,h1,h2⟩,_⟩:=h;simp only[aX,Ui a];exact wD c.2.2.2.2 ⟨h1,h2⟩
  |branch x v ks=>
   obtain⟨e,j,rfl,_⟩:=h.1;simp only[aX,Ui a];exact wD c h
def wB{Q ks b k a c}(h:∀i,i<16->il Q (ks i) (b i))(d:il Q k a):∀i,i<16->il Q (aJ ks c k i) (aJ b c a i):=fun i hi=>by
 by_cases e:i=c
 ·subst e;rw[dK,dK];exact d
 ·rw[e9 _ _ _ _ e,e9 _ _ _ _ e];exact h i hi
def xA{ks k c}(h:∀i,i<16->aO (ks i))(a:aO k):∀i,i<16->aO (aJ ks c k i):=fun i hi=>by
 by_cases e:i=c
 ·subst e;rw[dK];exact a
 ·rw[e9 _ _ _ _ e];exact h i hi
def EX{Q}{n a:Nd}{p v:yL}{s}(c:n.kind=1\/n.kind=2)(b:aO n)(o:aO a)(h:Part Q n a)(z:aw p)(C:p.length<=80)(m:v.length<=160):il Q (gi n p v s) (gi a p v s):=by
 have e:n.path=a.path/\n.value=a.value:=by
  cases n with
  |leaf _ _ _=>obtain⟨d,rfl⟩:=h;exact⟨rfl,rfl⟩
  |ext _ _ _=>obtain⟨d,B,rfl,_⟩:=h;exact⟨rfl,rfl⟩
  | _=>rcases c with h|h<;>cases h
 have x:aw n.path/\n.path.length<=80:=by
  cases n with
  |leaf _ _ _=>exact⟨b.2.1,b.2.2.1⟩
  |ext _ _ _=>exact⟨b.2.1,b.2.2.1⟩
  | _=>rcases c with h|h<;>cases h
 have A:∀q,il Q (gJ n q) (gJ a q):=fun q=>by
  cases n with
  |leaf _ _ _=>obtain⟨d,rfl⟩:=h;exact rC _ _
  |ext _ _ k=>
   obtain⟨d,B,rfl,h1,h2⟩:=h;exact wC b.2.2.2.2 ⟨h1,h2⟩ (oq b.2.2.2.1) fun _ _ _=>o.2.2.2.1
  | _=>rcases c with h|h<;>cases h
 have w:∀q,aw q->q.length<=80->aO (gJ n q):=fun q h1 h2=>ID c h1 h2 b
 have l:∀i,i<16->il Q .nil .nil:=fun _ _=>⟨rfl,rfl⟩
 have f:∀i,i<16->il Q (dX n s i) (dX a s i):=by
  unfold dX;rw[<-e.1];split
  ·exact wB l (A _)
  ·exact l
 have g:∀i,i<16->aO (dX n s i):=by
  unfold dX;split
  ·exact xA (fun _ _=>trivial) (w _ (da x.1 _) (by rw[Uu];omega))
  ·exact fun _ _=>trivial
 have r:∀i,i<16->il Q (dF n p v s i) (dF a p v s i):=by
  unfold dF;split
  ·exact wB f (rC _ _)
  ·exact f
 have j:∀i,i<16->aO (dF n p v s i):=by
  unfold dF;split
  ·exact xA g (pA (da z _) (by rw[Uu];omega) m)
  ·exact g
 have t:fy n p v s=fy a p v s:=by unfold fy;rw[e.1,e.2]
 have y:n.value.length<=160:=by
  cases n with
  |leaf _ _ _=>exact b.2.2.2
  |ext _ _ _=>exact UD _
  | _=>rcases c with h|h<;>cases h
 have u:(fy n p v s).length<=160:=by
  unfold fy;split
  ·split
   ·exact UD _
   ·exact y
  ·exact m
 unfold gi;rw[<-t];exact wC (r6 u j) (wE j r) trivial fun _ h=>by cases h
def Ow{Q}:∀{t F} {p v:yL},aO t->aO F->Part Q t F->dD t p->aw p->p.length<=80->v.length<=160->il Q (bR t p v) (bR F p v):=by
 intro t;induction t with
 |nil=>intro F p v _ _ h _ _ _ _;rw[show F=.nil from h];exact rC _ _
 |unread _=>intro F p v _ _ _ h;exact h.elim
 |leaf h q x=>
  intro F p v a g f _ b i d;let⟨m,e⟩:=id f;have hs:=EX (s:=aF q p) (.inl rfl) a g f b i d;subst e;simp only[bR];split
  ·exact rC _ _
  ·exact hs
 |ext h q k ih=>
  intro F p v a g f j b i d;let⟨m,z,e,h1,h2⟩:=id f;have hs:=EX (s:=aF q p) (.inr rfl) a g f b i d;subst e;simp only[bR];split
  ·next e=>
   have n:(p.drop q.length).length<=80:=by rw[Uu];omega
   exact wD (uF a.2.2.2.2 (j e) (da b _) n d) (ih a.2.2.2.2 g.2.2.2.2 h1 (j e) (da b _) n d)
  ·exact hs
 |branch h x ks ih=>
  intro F p v a g f j b i d;obtain⟨m,A,rfl,h1⟩:=f;cases p with
  |nil=>exact wE a.2.2 h1
  |cons c r=>
   have l:=b c (Uk ..);have o:aw r:=fun y w=>b y (Ul _ w)
   have u:r.length<=80:=by simp at i;omega
   exact wE (xA a.2.2 (uF (a.2.2 _ l) j o u d)) (wB h1 (ih _ (a.2.2 _ l) (g.2.2 _ l) (h1 _ l).1 j o u d))
def gX.own{Q t}(h:gX Q t)(b:t.read)(a:t.hash≠[]):Q t.code:=by
 cases t with
 |nil=>exact b.elim
 |unread _=>exact b.elim
 |leaf _ _ _=>exact h a
 |ext _ _ _=>exact h.1 a
 |branch _ _ _=>exact h.1 a
def Hv{c}(h:fX c≠[]):fX c=fe c/\32<=c.length:=by
 unfold fX at h⊢;split
 ·next e=>exact⟨rfl,e⟩
 ·next e=>rw[Ui e] at h;exact absurd rfl h
def cW.FQ{t}(h:cW t)(b:t.read)(a:t.hash≠[]):t.hash=fe t.code/\32<=t.code.length:=by
 have h1:=h.named b;rw[h1] at a⊢;exact Hv a
def aO.Hu{t}(h:aO t)(a:t.read):js t:=by
 cases t with
 |nil=>exact a.elim
 |unread _=>exact a.elim
 |leaf _ _ _=>exact h.1
 |ext _ _ _=>exact h.1
 |branch _ _ _=>exact h.1
def bL.read{t}(h:bL t)(hs:t.some):t.read:=by
 cases t<;>first|exact hs.elim|exact h.elim|trivial
def JW(Q:yL->Prop)(d:Nat):Prop:=∀(F:Nd) (dep:Nat) (bl:Bool),bN d F.item=true->aA F dep->bK F->bL F->F.read->gX Q F->(bl=true->F.fY)->
 ∃m,a6 d F.item dep bl=some m/\Part Q m F/\m.hash=[]
def GD{Q d}(ih:JW Q d)(k:Nd)(dep:Nat)(bl:Bool)(hf:bN d k.ref=true)(hK:aA k dep)(hT:cW k)(ha:bL k)(hx:gX Q k)(hb:bl=true->k.fY):
 ∃k',jC (a6 d) k.ref dep bl=some k'/\il Q k' k:=by
 by_cases hs:k.some
 ·have hr:=ha.read hs;have A1:=hK.aK.Hu hr;by_cases he:k.hash=[]
  ·have A3:=A1.short he;have h6:bN 6 k.item=true:=(hK.aK.ow hr).1;rw[ml hs he] at hf⊢;have A2:∀t,k.item≠ak t:=fun t e=>by
    let⟨ks,e2⟩:=Ay k;rw[e2] at e;cases e
   let⟨m,h1,h2,h3⟩:=ih k dep bl hf hK hT.loose ha hr hx hb;refine⟨m,?_,h2,by rw[h3,he]⟩;rw[xg _ _ _ _ A2];have hc:(bu 6 k.item).length<32:=A3;have A0:fH (bu 6 k.item)=true:=by unfold fH;exact Uw (by omega)
   rw[Ui]
   ·exact h1
   ·rintro (h|h)
    ·apply h;unfold ff;rw[Uj h6,Uj A0]
    ·unfold ft at h;rw[Uj h6,rG _ A0,aN] at h;omega
  ·let⟨h1,h2⟩:=hT.FQ hr he;have hl:=A1.two.resolve_left he;have A4:=xD k dep hs hK.full hK.deep;rw[jQ hs he,xe,Ui he,Ui (by rintro (h|h);exact h hl;omega)];exact⟨_,rfl,⟨hr,h1,hx.own hr he,hx⟩,rfl⟩
 ·have e1:k=.nil:=by cases k<;>first|rfl|exact absurd trivial hs
  subst e1;exact⟨.nil,rfl,rfl,rfl⟩
def Pr(Q:yL->Prop):∀d,d<=6->JW Q d:=by
 intro d;induction d with
 |zero=>
  intro _ F dep bl hf;let⟨ks,e⟩:=Ay F;rw[e] at hf;cases hf
 |succ d ih=>
  intro hd F dep bl hf hK hL ha hr hx hb;have ih:=ih (by omega);cases F with
  |nil=>exact hr.elim
  |unread _=>exact hr.elim
  |leaf h p v=>
   have A1:bl=false:=by cases bl with|false=>rfl|true=>exact(hb rfl).elim
   subst A1;let⟨f1,f2,f3⟩:=Fa p true hK.aK.2.1;refine⟨.leaf [] p v,?_,⟨h,rfl⟩,rfl⟩;show jy (a6 d) (ak (cR p true)) (ak v) dep=_;show(if nx (cR p true)=false\/80<dep+(bm (cR p true)).length then none else if fT (cR p true)=true then(if v=[]\/160<v.length then none else some (Nd.leaf [] (bm (cR p true)) v)) else _)=_;rw[(uC _).2 f1,f2,f3];have h1:dep+p.length<=80:=hK.deep;have h2:v≠[]:=hK.bB;have h3:v.length<=160:=hK.aK.2.2.2;rw[Ui (by rintro (h|h);cases h;omega),Uj rfl,Ui (by rintro (h|h);exact h2 h;omega)]
  |ext h p k=>
   have A1:bl=false:=by cases bl with|false=>rfl|true=>exact(hb rfl).elim
   subst A1;let⟨f1,f2,f3⟩:=Fa p false hK.aK.2.1;have A2:bN d k.ref=true:=by
    have:bN (d+1) (bJ [ak (cR p false),k.ref])=true:=hf;rw[nA,Vr] at this;exact Vy.1 this.2 _ (by simp)
   let⟨k',h1,h2⟩:=GD ih k (dep+p.length) true A2 (fq hK) hL ha hx.2 fun _=>hK.bB.2.1
   have hs:k'.isNil=false:=by rw[h2.1.nil];exact(gM _).2 (oq hK.bB.2.1)
   refine⟨.ext [] p k',?_,⟨h,k,rfl,h2.1,h2.2⟩,rfl⟩;show jy (a6 d) (ak (cR p false)) k.ref dep=_;show(if nx (cR p false)=false\/80<dep+(bm (cR p false)).length then none else if fT (cR p false)=true then _ else match jC (a6 d) k.ref (dep+(bm (cR p false)).length) true with
    |some k=>if k.isNil=true\/bm (cR p false)=[] then none else some (Nd.ext [] (bm (cR p false)) k)
    |none=>none)=_
   rw[(uC _).2 f1,f2,f3,h1];have h3:dep+p.length<=80:=hK.deep.1;rw[Ui (by rintro (h|h);cases h;omega),Ui (by decide)];show(if k'.isNil=true\/p=[] then none else some (Nd.ext [] p k'))=_;rw[Ui (by rintro (h|h);rw[hs] at h;cases h;exact hK.bB.1 h)]
  |branch h v ks=>
   have A4:bN (d+1) (bJ ((List.range 16).map (fun i=>(ks i).ref)++[ak v]))=true:=hf;rw[nA,Vr] at A4;have A2:∀i,i<16->bN d (ks i).ref=true:=fun i hi=>Vy.1 A4.2 _ (UR _ (UO.2 ⟨i,Vq.2 hi,rfl⟩))
   have A5:∀i,i<16->cW (ks i):=hL;have A7:∀i,i<16->((List.range 16).map (fun i=>(ks i).ref)++[ak v]).getD i (ak [])=(ks i).ref:=fun i hi=>by
    rw[Up,UW (by simp;exact hi),UK,List.getElem?_range hi];rfl
   have A0:∀i,i<16->∃k',gW (a6 d) ((List.range 16).map (fun i=>(ks i).ref)++[ak v]) dep i=some k'/\il Q k' (ks i):=fun i hi=>by
    let⟨k',h1,h2⟩:=GD ih (ks i) (dep+1) false (A2 i hi) (dA hK i hi) (A5 i hi) (ha i hi) (hx.2 i hi) fun h=>by cases h
    exact⟨k',by unfold gW;rw[A7 i hi];exact h1,h2⟩
   generalize hks:(List.range 16).map (fun i=>(ks i).ref)++[ak v]=L at*;have A3:L.length=17:=by rw[<-hks];simp
   have h16:L.getD 16 (ak [])=ak v:=by rw[<-hks];rfl
   have A8:∀n,n<=16->kD (a6 d) L dep n=true:=fun n=>by
    induction n with
    |zero=>intro _;rfl
    |succ n ihn=>
     intro hn;let⟨k',h1,_⟩:=A0 n (by omega);simp only[kD,ihn (by omega),h1];rfl
   have A6:∀n,n<=16->dj v (fun i=>(gW (a6 d) L dep i).getD .nil) n=dj v ks n:=fun n=>by
    induction n with
    |zero=>intro _;rfl
    |succ n ihn=>
     intro hn;let⟨k',h1,h2⟩:=A0 n (by omega);simp only[dj,ihn (by omega),h1,Option.getD_some,h2.1.nil]
   refine⟨.branch [] v (fun i=>(gW (a6 d) L dep i).getD .nil),?_,⟨h,ks,rfl,fun i hi=>?_⟩,rfl⟩
   ·show a6 (d+1) (bJ ((List.range 16).map (fun i=>(ks i).ref)++[ak v])) dep bl=_;rw[hks];show(if L.length=2/\bl=false then _ else if L.length=17 then iI (a6 d) L dep else none)=_;rw[Ui (by rw[A3];rintro ⟨h,_⟩;cases h),Uj A3];unfold iI;rw[h16];show(if 160<v.length then none else if kD (a6 d) L dep 16=true/\2<=iH (a6 d) L dep v 16 then _ else none)=_;have:=hK.aK.2.1;rw[Ui (by omega),Uj ⟨A8 16 (Ug _),by rw[Au,A6 16 (Ug _)];exact hK.full.1⟩]
   ·let⟨k',h1,h2⟩:=A0 i hi;simp only[h1,Option.getD_some];exact h2
def Ot{Q F dep bl}(b:aA F dep)(d:bK F)(e:bL F)(a:F.read)(j:gX Q F)(f:bl=true->F.fY)(i:0<dep->32<=F.code.length):
 ∃m,gS (fe F.code) F.code dep bl=.ok m/\Part Q m F/\m.hash=fe F.code:=by
 let⟨h6,g⟩:=b.aK.ow a;let⟨m,h1,h2,h3⟩:=Pr Q 6 (Ug _) F dep bl h6 b d e a j f;have c:m.some:=h2.same.2 (by cases F<;>first|exact a.elim|trivial);refine⟨m.gY (fe F.code),?_,?_,AP _ m c⟩
 ·unfold gS;rw[Ui (fun h=>h rfl),Ui (by rintro ⟨h,k⟩;have:=i h;omega)];have:=IX F.item h6 g;show yy _ dep bl (dC (bu 6 F.item))=_;rw[this];show CY _ (a6 6 F.item dep bl)=_;rw[h1];rfl
 ·cases m with
  |nil=>exact c.elim
  |unread x=>rw[show x=[] from h3] at h2;have:=h2.2.1;have h4:=kE F.code;rw[<-this] at h4;cases h4
  |leaf _ _ _=>exact h2
  |ext _ _ _=>exact h2
  |branch _ _ _=>exact h2
def sE(G:yB->Option yB)(a:Prop)(Q:yL->Prop):Prop:=∀c,Q c->G (ag (ae c))=some (ae c)\/(a/\(G (ag (ae c))=none\/∃u,G (ag (ae c))=some u/\ag u≠ag (ae c)))
def Cj(a:Prop)(e:Nat):Prop:=e=0\/(a/\(e=9\/e=10))
def nC(l):(ae l).data.toList=l:=by unfold ae;simp
def EU{G}{i:Prop}{Q}(n:sE G i Q){t F dep bl}(b:Part Q t F)(j:aA F dep)(k:bK F)(o:bL F)(p:bl=true->t.some->F.fY)(a:0<dep->t.hash=F.hash/\cW F)(f:aO t):
 (∃m,dG G t dep bl=.ok m/\Part Q m F/\(0<dep->m.hash=F.hash)/\(m=.nil\/m.read))\/(i/\∃e,dG G t dep bl=.error e/\(e=9\/e=10)):=by
 cases t with
 |nil=>exact .inl ⟨_,rfl,b,fun h=>(a h).1,.inl rfl⟩
 |leaf _ _ _=>exact .inl ⟨_,rfl,b,fun h=>(a h).1,.inr trivial⟩
 |ext _ _ _=>exact .inl ⟨_,rfl,b,fun h=>(a h).1,.inr trivial⟩
 |branch _ _ _=>exact .inl ⟨_,rfl,b,fun h=>(a h).1,.inr trivial⟩
 |unread x=>
  let⟨d,e,r,s⟩:=b;have v:F.some:=by cases F<;>first|exact d.elim|trivial
  have c:ae x=ag (ae F.code):=by rw[e,mX]
  have l:dG G (.unread x) dep bl=iC G x dep bl:=rfl;rw[l];unfold iC;rcases n _ r with h|⟨g,h|⟨u,h,q⟩⟩
  ·rw[c,h];left;have h32:0<dep->32<=F.code.length:=fun h0=>by
    let⟨h1,h2⟩:=a h0;refine(h2.FQ d ?_).2;rw[<-h1];intro e3;rw[show x=[] from e3] at f;cases f
   let⟨m,h1,h2,h3⟩:=Ot j k o d s (fun h=>p h trivial) h32;refine⟨m,?_,h2,fun h0=>?_,.inr ((oT h1).2.1)⟩
   ·show gS x (ae F.code).data.toList dep bl=_;rw[nC,e];exact h1
   ·rw[h3,<-(a h0).1];exact e.symm
  ·rw[c,h];exact .inr ⟨g,9,rfl,.inl rfl⟩
  ·rw[c,h];refine .inr ⟨g,10,?_,.inr rfl⟩;show gS x u.data.toList dep bl=_;unfold gS;rw[Uj];intro h2;apply q;have h3:ae (fe u.data.toList)=ae x:=by rw[h2]
   rw[mX,gA,c] at h3;exact h3
def Ou{G}{u:Prop}{Q}(D:sE G u Q):∀(f:Nat) (t F) (p) (dep:Nat) (bl:Bool),Part Q t F->aA t dep->aA F dep->bK F->bL F->(bl=true->t.some->F.fY)->(0<dep->t.hash=F.hash/\cW F)->aw p->
 Part Q (dc G f t p dep bl).1 F/\(0<dep->(dc G f t p dep bl).1.hash=F.hash)/\Cj u (dc G f t p dep bl).2:=by
 intro f;induction f with
 |zero=>intro t F p dep bl j x d g l C n o;exact⟨j,fun h=>(n h).1,.inl rfl⟩
 |succ f ih=>
  intro t F p dep bl j x d g l C n o;show Part Q (lG t _ (dG G t dep bl)).1 F/\(0<dep->(lG t _ (dG G t dep bl)).1.hash=F.hash)/\Cj u (lG t _ (dG G t dep bl)).2;rcases EU D j d g l C n x.aK with⟨m,h1,h2,h3,h4⟩|⟨z,e,h1,h2⟩
  ·let⟨w,_⟩:=nf x h1;rw[h1];show Part Q (gj (dc G f) m p dep).1 F/\(0<dep->(gj (dc G f) m p dep).1.hash=F.hash)/\Cj u (gj (dc G f) m p dep).2;cases m with
   |nil=>exact⟨h2,h3,.inl rfl⟩
   |unread _=>exact⟨h2,h3,.inl rfl⟩
   |leaf _ _ _=>exact⟨h2,h3,.inl rfl⟩
   |ext h q k=>
    obtain⟨b,A,rfl,g1,g2⟩:=h2;simp only[gj];by_cases e:aF q p=q.length
    ·rw[Uj e];have H:=Vt.2 w.bB.1;let⟨a1,a2,a3⟩:=ih k A (p.drop q.length) (dep+q.length) true g1 (fq w) (fq d) g.loose l (fun _ _=>d.bB.2.1) (fun _=>⟨g2,g⟩) (da o _);exact⟨⟨b,A,rfl,a1,a2 (by omega)⟩,h3,a3⟩
    ·rw[Ui e];exact⟨⟨b,A,rfl,g1,g2⟩,h3,.inl rfl⟩
   |branch h v ks=>
    obtain⟨b,s,rfl,g1⟩:=h2;cases p with
    |nil=>exact⟨⟨b,s,rfl,g1⟩,h3,.inl rfl⟩
    |cons c r=>
     have a:=o c (Uk ..);have E:aw r:=fun y z=>o y (Ul _ z)
     have B:=g;let⟨a1,a2,a3⟩:=ih (ks c.toNat) (s c.toNat) r (dep+1) false (g1 _ a).1 (dA w _ a) (dA d _ a) (B _ a).loose (l _ a) (fun h=>by cases h) (fun _=>⟨(g1 _ a).2,B _ a⟩) E;refine⟨⟨b,s,rfl,fun i hi=>?_⟩,h3,a3⟩;by_cases e:i=c.toNat
     ·subst e;rw[dK];exact⟨a1,a2 (by omega)⟩
     ·rw[e9 _ _ _ _ e];exact g1 i hi
  ·rw[h1];exact⟨j,fun h=>(n h).1,.inr ⟨z,h2⟩⟩
def iF:yB->Option yB:=fun _=>none
def GF{Q ks a}(h:∀i,i<16->il Q (ks i) (a i)):∀n,n<=16->cO ks n=cO a n/\dx ks n=dx a n
 | 0,_=>⟨rfl,rfl⟩
 |n+1,hn=>by
  let⟨h1,h2⟩:=GF h n (by omega)
  simp only[cO,dx,h1,h2,(h n (by omega)).1.nil]
  exact⟨trivial,trivial⟩
def ET{G}{k:Prop}{Q}(p:sE G k Q){ks c}{v:yL}{dep}(h:∀i,i<16->il Q (ks i) (c i))(b:∀i,i<16->aO (ks i))(l:∀i,i<16->aA (c i) (dep+1))(f:∀i,i<16->cW (c i))(g:∀i,i<16->bL (c i)):
 (∃t' F',cd G ks v dep=.ok t'/\cd iF c v dep=.ok F'/\il Q t' F')\/(k/\∃e,cd G ks v dep=.error e/\(e=9\/e=10)):=by
 let⟨o,n⟩:=GF h 16 (Ug _);unfold cd;rw[<-o,<-n];by_cases h0:cO ks 16=0
 ·rw[Uj h0,Uj h0];exact .inl ⟨_,_,rfl,rfl,rC _ _⟩
 ·rw[Ui h0,Ui h0];by_cases h2:1<cO ks 16\/v≠[]
  ·rw[Uj h2,Uj h2];exact .inl ⟨_,_,rfl,rfl,wE b h⟩
  ·rw[Ui h2,Ui h2];let⟨a,hs⟩:=nt ks 16 (by omega);rw[ru (g _ a)];rcases EU (bl:=false) p (h _ a).1 (l _ a) (f _ a).loose (g _ a) (fun h=>by cases h) (fun _=>⟨(h _ a).2,f _ a⟩) (b _ a) with⟨m,h1,h3,h4,h5⟩|⟨q,e,h1,h3⟩
   ·left;have d:m.some:=h3.same.2 ((h _ a).1.same.1 hs);have j:m.read:=h5.resolve_left fun e=>by rw[e] at d;exact d.elim
    have bG:aO m:=by
     cases hk:ks (dx ks 16) with
     |unread x=>
      rw[hk] at h1;have:iC G x (dep+1) false=.ok m:=h1;unfold iC at this;split at this
      ·cases this
      ·exact(oT this).1.aK
     |nil=>rw[hk] at h1;cases h1;trivial
     |leaf _ _ _=>have:=b _ a;rw[hk] at h1 this;cases h1;exact this
     |ext _ _ _=>have:=b _ a;rw[hk] at h1 this;cases h1;exact this
     |branch _ _ _=>have:=b _ a;rw[hk] at h1 this;cases h1;exact this
    rw[h1];exact⟨_,_,rfl,rfl,wC bG ⟨h3,h4 (by omega)⟩ d fun x e _=>by rw[e] at j;exact j.elim⟩
   ·right;rw[h1];exact⟨q,e,rfl,h3⟩
def Hw{Q}:∀{t F p},Part Q t F->dD t p->aw p->jL t p->jL F p:=by
 intro t;induction t with
 |nil=>intro F p _ _ _ h;exact h.elim
 |unread _=>intro F p _ _ _ h;exact h.elim
 |leaf _ _ _=>rintro F p ⟨f,rfl⟩ _ _ h;exact h
 |ext h q k ih=>rintro F p ⟨f,l,rfl,h1,_⟩ d b ⟨e,a⟩;exact⟨e,ih h1 (d e) (da b _) a⟩
 |branch h v ks ih=>
  rintro F p ⟨f,j,rfl,h1⟩ d b a;cases p with
  |nil=>exact a
  |cons c r=>
   have g:=b c (Uk ..);have h2:=d;have h3:=a;exact ih c.toNat (F:=j c.toNat) (p:=r) (h1 _ g).1 h2 (fun y i=>b y (Ul _ i)) h3
def QS{q}(a:q≠[])(t):(aX q t).read:=by
 cases t<;>(simp only[aX,Ui a];trivial)
def DQ{G ks v dep a}(h:cd G ks v dep=.ok a):a.read:=by
 unfold cd at h;split at h
 ·cases h;trivial
 ·split at h
  ·cases h;trivial
  ·cases hr:dG G (ks (dx ks 16)) (dep+1) false with
   |error c=>rw[hr] at h;cases h
   |ok k=>rw[hr] at h;cases h;exact QS (fun h=>by cases h) k
def Qk{G}{k:Nd}{p dep t'}(hk:k.kind=3)(h:bI G k p dep=.ok t'):t'.read:=by
 cases k with
 |branch h0 v ks=>
  cases p with
  |nil=>exact DQ (v:=[]) h
  |cons c r=>
   have h':pU (fun k=>cd G (aJ ks c.toNat k) v dep) (bI G (ks c.toNat) r (dep+1))=.ok t':=h;cases hr:bI G (ks c.toNat) r (dep+1) with
   |error c=>rw[hr] at h';cases h'
   |ok k=>rw[hr] at h';exact DQ h'
 | _=>cases hk
def EW{G}{L:Prop}{Q}(E:sE G L Q):∀(t F) (p) (dep:Nat),Part Q t F->aA t dep->aA F dep->bK t->bK F->bL F->dD t p->jL t p->aw p->dep+p.length<=80->
 (∃f g,bI G t p dep=.ok f/\bI iF F p dep=.ok g/\il Q f g)\/(L/\∃e,bI G t p dep=.error e/\(e=9\/e=10)):=by
 intro t;induction t with
 |nil=>intro F p dep _ _ _ _ _ _ _ h;exact h.elim
 |unread _=>intro F p dep _ _ _ _ _ _ _ h;exact h.elim
 |leaf h q v=>
  rintro F p dep ⟨B,rfl⟩ _ _ _ _ _ _ _ _ _;exact .inl ⟨.nil,.nil,rfl,rfl,rfl,rfl⟩
 |ext h q k ih=>
  rintro F p dep ⟨B,K,rfl,h1,h2⟩ b m A C j l o s H;let⟨e,I⟩:=o;have R:=(iN q p).2;rw[e] at R;have n:dep+q.length+(p.drop q.length).length<=80:=by rw[Uu];omega
  rcases ih K (p.drop q.length) (dep+q.length) h1 (fq b) (fq m) A.loose C.loose j (l e) I (da s _) n with⟨f,g,g1,g2,g3⟩|⟨w,c,g1,g2⟩
  ·left;have J:k.kind=3:=by
    have O:=b.bB.2.1;have S:=l e;cases k<;>first|exact O.elim|exact S.elim|rfl
   let⟨l1,l2⟩:=lk G k _ _ f (fq b) A.loose (l e) I (da s _) n g1;refine⟨aX q f,aX q g,?_,?_,wC l1.ok.aK g3 (l2 J) ?_⟩
   ·show lH q (bI G k (p.drop q.length) (dep+q.length))=_;rw[g1];rfl
   ·show lH q (bI iF K (p.drop q.length) (dep+q.length))=_;rw[g2];rfl
   ·intro x M _;subst M;exact(Qk J g1).elim
  ·right;refine⟨w,c,?_,g2⟩;show lH q (bI G k (p.drop q.length) (dep+q.length))=_;rw[g1];rfl
 |branch h v ks ih=>
  rintro F p dep ⟨B,d,rfl,h1⟩ b m A C j l o s H;have D:=A;have z:=C;cases p with
  |nil=>exact ET (v:=[]) E h1 (fun i hi=>(dA b i hi).aK) (fun i hi=>dA m i hi) z j
  |cons c r=>
   have a:=s c (Uk ..);have u:aw r:=fun y w=>s y (Ul _ w)
   have n:dep+1+r.length<=80:=by simp at H;omega
   rcases ih c.toNat (d c.toNat) r (dep+1) (h1 _ a).1 (dA b _ a) (dA m _ a) (D _ a).loose (z _ a).loose (j _ a) l o u n with⟨f,g,g1,g2,g3⟩|⟨w,e,g1,g2⟩
   ·let⟨l1,_⟩:=lk G (ks c.toNat) _ _ f (dA b _ a) (D _ a).loose l o u n g1;have P:jL (d c.toNat) r:=Hw (h1 _ a).1 l u o;let⟨l2,_⟩:=lk iF (d c.toNat) _ _ g (dA m _ a) (z _ a).loose (nT (j _ a) u) P u n g2;have N:=ot.less_all iF _ _ _ _ (j _ a) g2;have hs:=ET (v:=v) (dep:=dep) E (wB (c:=c.toNat) h1 g3) (xA (fun i hi=>(dA b i hi).aK) l1.ok.aK) (fun i hi=>by
     by_cases e:i=c.toNat
     ·subst e;rw[dK];exact l2.ok
     ·rw[e9 _ _ _ _ e];exact dA m i hi) (fun i hi=>by
     by_cases e:i=c.toNat
     ·subst e;rw[dK];exact l2.tight
     ·rw[e9 _ _ _ _ e];exact z i hi) (fun i hi=>by
     by_cases e:i=c.toNat
     ·subst e;rw[dK];exact N
     ·rw[e9 _ _ _ _ e];exact j i hi)
    have e1:bI G (.branch h v ks) (c::r) dep=cd G (aJ ks c.toNat f) v dep:=by
     show pU (fun k=>cd G (aJ ks c.toNat k) v dep) (bI G (ks c.toNat) r (dep+1))=_;rw[g1];rfl
    have e2:bI iF (.branch B v d) (c::r) dep=cd iF (aJ d c.toNat g) v dep:=by
     show pU (fun k=>cd iF (aJ d c.toNat k) v dep) (bI iF (d c.toNat) r (dep+1))=_;rw[g2];rfl
    rw[e1,e2];exact hs
   ·right;refine⟨w,e,?_,g2⟩;show pU (fun k=>cd G (aJ ks c.toNat k) v dep) (bI G (ks c.toNat) r (dep+1))=_;rw[g1];rfl
def vw{ks k c}(h:∀i,i<16->bL (ks i))(a:bL k):∀i,i<16->bL (aJ ks c k i):=fun i hi=>by
 by_cases e:i=c
 ·subst e;rw[dK];exact a
 ·rw[e9 _ _ _ _ e];exact h i hi
def Dz{n:Nd}{p v s}(b:n.kind=1\/n.kind=2)(h:bL n):bL (gi n p v s):=by
 have c:∀q,bL (gJ n q):=fun q=>by
  cases n with
  |leaf _ _ _=>trivial
  |ext _ _ _=>exact ot.join_all h
  | _=>rcases b with h|h<;>cases h
 have a:∀i,i<16->bL (dX n s i):=by
  unfold dX;split
  ·exact vw (fun _ _=>trivial) (c _)
  ·exact fun _ _=>trivial
 refine ot.join_all (show ∀i,i<16->bL (dF n p v s i) from ?_);unfold dF;split
 ·exact vw a trivial
 ·exact a
def yk:∀{t p v},bL t->aw p->bL (bR t p v):=by
 intro t;induction t with
 |nil=>intro p v _ _;trivial
 |unread _=>intro p v h;exact h.elim
 |leaf h q x=>
  intro p v a _;simp only[bR];split
  ·trivial
  ·exact Dz (.inl rfl) a
 |ext h q k ih=>
  intro p v a b;simp only[bR];split
  ·exact ih (v:=v) a (da b _)
  ·exact Dz (.inr rfl) a
 |branch h x ks ih=>
  intro p v a b;cases p with
  |nil=>exact a
  |cons c r=>exact vw a (ih c.toNat (a _ (b c (Uk ..))) fun y d=>b y (Ul _ d))
def ri:∀(t) (dep:Nat),aA t dep->bL t->t.some->∃x,aw x/\aM t x≠[]:=by
 intro t;induction t with
 |nil=>intro dep _ _ h;exact h.elim
 |unread _=>intro dep _ h;exact h.elim
 |leaf h p v=>intro dep a _ _;exact⟨p,a.aK.2.1,by rw[lr,Uj rfl];exact a.bB⟩
 |ext h p k ih=>
  intro dep a b _;let⟨x,h1,h2⟩:=ih _ (fq a) b (oq a.bB.2.1);exact⟨p++x,lg a.aK.2.1 h1,by rw[lu];exact h2⟩
 |branch h v ks ih=>
  intro dep a b _;by_cases c:v=[]
  ·let⟨i,hi,hs⟩:=xi v ks 16 a.full.1;let⟨x,h1,h2⟩:=ih i _ (dA a i hi) (b i hi) hs;refine⟨UInt8.ofNat i::x,lg (tX hi) h1,?_⟩;rw[pB,U3,VH (by omega)];exact h2
  ·exact⟨[],(fun _ h=>by cases h),c⟩
def vB{h v ks dep}(d:aA (.branch h v ks) dep)(m:bL (.branch h v ks)):∃x y,aw x/\aw y/\aM (.branch h v ks) x≠[]/\aM (.branch h v ks) y≠[]/\x.head?≠y.head? :=by
 have l:∀i,i<16->(ks i).some->∃x,aw (UInt8.ofNat i::x)/\aM (.branch h v ks) (UInt8.ofNat i::x)≠[]:=fun i hi hs=>by
  let⟨x,h1,h2⟩:=ri (ks i) _ (dA d i hi) (m i hi) hs;refine⟨x,lg (tX hi) h1,?_⟩;rw[pB,U3,VH (by omega)];exact h2
 let⟨i,hi,hs⟩:=xi v ks 16 d.full.1;let⟨x,h1,h2⟩:=l i hi hs;by_cases k:v=[]
 ·have f:=d.full.1;rw[pj v ks i hs 16 hi] at f;have h3:∃j,j<16/\(aJ ks i .nil j).some:=by
   have h0:1<=cO (aJ ks i .nil) 16:=by
    rw[oh,Uj k] at f;omega
   let⟨a,b⟩:=nt _ 16 h0;exact⟨_,a,b⟩
  let⟨j,n,c⟩:=h3;have g:j≠i:=fun e=>by rw[e,dK] at c;exact c
  rw[e9 _ _ _ _ g] at c;let⟨y,h4,h5⟩:=l j n c;refine⟨_,_,h1,h4,h2,h5,fun e=>g ?_⟩;have e2:=Option.some.inj e;have e3:=congrArg UInt8.toNat e2;rw[U3,U3,VH (by omega),VH (by omega)] at e3;exact e3.symm
 ·exact⟨[],_,(fun _ h=>by cases h),h1,k,h2,fun e=>by cases e⟩
def BS(p:yL)(t:Nd):Prop:=∀x,aw x->aM t x≠[]->∃r,x=p++r
def EJ{p h v ks dep}(b:aA (.branch h v ks) dep)(d:bL (.branch h v ks))(a:BS p (.branch h v ks)):p=[]:=by
 let⟨x,y,h1,h2,h3,h4,h5⟩:=vB b d;let⟨r,e1⟩:=a x h1 h3;let⟨s,e2⟩:=a y h2 h4;cases p with
 |nil=>rfl
 |cons c p=>rw[e1,e2] at h5;exact absurd rfl h5
def wu{p h k}:BS p (.ext h p k):=fun x _ b=>by
 refine Vn fun a=>b ?_
 exact pC _ _ _ _ fun r e=>a ⟨r,e⟩
def Io{k:Nd}(b:k.fY)(a:bL k):∃h v ks,k=.branch h v ks:=by
 cases k with
 |branch h v ks=>exact⟨h,v,ks,rfl⟩
 |unread _=>exact a.elim
 | _=>exact b.elim
def EH{q p h k dep}(d:aA (.ext h p k) dep)(e:bL (.ext h p k))(g:BS q (.ext h p k)):∃r,p=q++r:=by
 obtain⟨i,v,ks,rfl⟩:=Io d.bB.2.1 e;let⟨x,y,h1,h2,h3,h4,h5⟩:=vB (fq d) e;let⟨r,e1⟩:=g (p++x) (lg d.aK.2.1 h1) (by rw[lu];exact h3);let⟨s,e2⟩:=g (p++y) (lg d.aK.2.1 h2) (by rw[lu];exact h4);rcases List.append_eq_append_iff.1 e1 with⟨a,b,f⟩|⟨a,b,f⟩
 ·cases a with
  |nil=>exact⟨[],by rw[UU] at b;rw[b,UU]⟩
  |cons c a=>
   rw[b,UI] at e2;have e3:=Vg e2;rw[f,e3] at h5;exact absurd rfl h5
 ·exact⟨a,b⟩
def IK{Q k k'}(b:aO k)(h:Part Q k k')(a:bL k)(h1:cW k)(h2:cW k'):k.hash=k'.hash:=by
 by_cases hs:k.some
 ·rw[h1.named (a.read hs),h2.named (h.read hs),h.code b (a.read hs)]
 ·have e1:k=.nil:=by cases k<;>first|rfl|exact absurd trivial hs
  subst e1;rw[show k'=.nil from h]
def Lo(Q:yL->Prop):∀(t b) (dep:Nat),aA t dep->aA b dep->bK t->bK b->bL t->bL b->(∀x,aw x->aM t x=aM b x)->Part Q t b:=by
 have z:∀(t:Nd) (dep:Nat),aA t dep->bL t->(∀x,aw x->aM t x=[])->t=.nil:=fun t dep a d h=>by
  by_cases hs:t.some
  ·let⟨x,h1,h2⟩:=ri t dep a d hs;exact absurd (h x h1) h2
  ·cases t<;>first|rfl|exact absurd trivial hs
 have u:∀(h p v:yL) (b:Nd) (dep:Nat),v≠[]->aw p->aA b dep->bL b->(∀x,aw x->aM (.leaf h p v) x=aM b x)->∃h',b=.leaf h' p v:=fun h p v b dep G m a d f=>by
  have A:∀x,aw x->aM b x≠[]->x=p:=fun x c j=>by
   rw[<-f x c,lr] at j;exact Vn fun F=>j (by rw[Ui F])
  have D:∀x y:yL,aw x->aw y->aM b x≠[]->aM b y≠[]->x=y:=fun x y h1 h2 h3 h4=>(A x h1 h3).trans (A y h2 h4).symm
  cases b with
  |nil=>have:=f p m;rw[lr,Uj rfl] at this;exact absurd this G
  |unread _=>exact d.elim
  |leaf h' q w=>
   have h1:aM (.leaf h' q w) q≠[]:=by rw[lr,Uj rfl];exact a.bB
   have e:=A q a.aK.2.1 h1;subst e;have:=f q m;rw[lr,lr,Uj rfl,Uj rfl] at this;rw[this];exact⟨h',rfl⟩
  |ext h' q k=>
   obtain⟨h2,w,ks,rfl⟩:=Io a.bB.2.1 d;let⟨x,y,g1,g2,g3,g4,g5⟩:=vB (fq a) d;have:=D (q++x) (q++y) (lg a.aK.2.1 g1) (lg a.aK.2.1 g2) (by rw[lu];exact g3) (by rw[lu];exact g4);rw[Vg this] at g5;exact absurd rfl g5
  |branch h' w ks=>
   let⟨x,y,g1,g2,g3,g4,g5⟩:=vB a d;rw[D x y g1 g2 g3 g4] at g5;exact absurd rfl g5
 intro t;induction t with
 |nil=>intro b dep _ a _ _ _ d f;exact z b dep a d fun x c=>(f x c).symm
 |unread _=>intro b dep _ _ _ _ d;exact d.elim
 |leaf h p v=>intro b dep a g _ _ _ l f;exact u h p v b dep a.bB a.aK.2.1 g l f
 |ext h p k ih=>
  intro b dep a g n o d l f;cases b with
  |nil=>cases z _ dep a d f
  |unread _=>exact l.elim
  |leaf h' q w=>let⟨_,e⟩:=u h' q w _ dep g.bB g.aK.2.1 a d fun x c=>(f x c).symm;cases e
  |ext h' q k'=>
   let⟨r,e1⟩:=EH a d (q:=q) fun x c j=>wu (h:=h') (k:=k') x c (by rw[<-f x c];exact j)
   let⟨s,e2⟩:=EH g l (q:=p) fun x c j=>wu (h:=h) (k:=k) x c (by rw[f x c];exact j)
   have e:p=q:=by
    have E:r.length=0:=by
     have h1:=congrArg List.length e1;have h2:=congrArg List.length e2;rw[Uq] at h1 h2;omega
    rw[e1,UH.1 E,UU]
   subst e;have m:=ih k' _ (fq a) (fq g) n.loose o.loose d l fun x c=>by
    have:=f (p++x) (lg a.aK.2.1 c);rw[lu,lu] at this;exact this
   exact⟨h',k',rfl,m,IK (fq a).aK m d n o⟩
  |branch h' w ks=>
   have:=EJ g l (p:=p) fun x c j=>wu (h:=h) (k:=k) x c (by rw[f x c];exact j)
   exact absurd this a.bB.1
 |branch h v ks ih=>
  intro b dep a g n o d l f;cases b with
  |nil=>cases z _ dep a d f
  |unread _=>exact l.elim
  |leaf h' q w=>let⟨_,e⟩:=u h' q w _ dep g.bB g.aK.2.1 a d fun x c=>(f x c).symm;cases e
  |ext h' q k'=>
   have:=EJ a d (p:=q) fun x c j=>wu (h:=h') (k:=k') x c (by rw[<-f x c];exact j)
   exact absurd this g.bB.1
  |branch h' w ks'=>
   have e:v=w:=f [] (fun _ h=>by cases h);subst e;have B:=n;have C:=o;refine⟨h',ks',rfl,fun i hi=>?_⟩;have m:=ih i (ks' i) _ (dA a i hi) (dA g i hi) (B i hi).loose (C i hi).loose (d i hi) (l i hi) fun x c=>by
    have:=f (UInt8.ofNat i::x) (lg (tX hi) c);rw[pB,pB,U3,VH (by omega)] at this;exact this
   exact⟨m,IK (dA a i hi).aK m (d i hi) (B i hi) (C i hi)⟩
def Part.texts{Q R}:∀{t a},aO t->Part Q t a->bL t->t.hash=a.hash->gX R t->gX R a:=by
 intro t;induction t with
 |nil=>intro a _ h _ _ _;rw[show a=.nil from h];trivial
 |unread _=>intro a _ _ h;exact h.elim
 |leaf h p v=>
  rintro a c ⟨d,rfl⟩ _ j b g;have e:=j;subst e;exact b g
 |ext h p k ih=>
  intro a c f l j b;have m:=f.code c trivial;obtain⟨d,n,rfl,h1,h2⟩:=f;have e:=j;subst e;exact⟨fun g=>by rw[<-m];exact b.1 g,ih c.2.2.2.2 h1 l h2 b.2⟩
 |branch h v ks ih=>
  intro a c f l j b;have m:=f.code c trivial;obtain⟨d,o,rfl,h1⟩:=f;have e:=j;subst e;exact⟨fun g=>by rw[<-m];exact b.1 g,fun i hi=>ih i (c.2.2 i hi) (h1 i hi).1 (l i hi) (h1 i hi).2 (b.2 i hi)⟩
def Rg(x:Int):Prop:=-9223372036854775808<=x/\x<=9223372036854775807
def bW(x:Int)(n:Nat):Nat:=(if x<0 then(-(x+1)).toNat else x.toNat) % n
def ky(x:Int)(n:Nat)(h:0<n):bW x n<n:=Nat.mod_lt _ h
def qq(x:Int)(n:Nat)(a:Rg x)(c:0<n)(b:n<9223372036854775808)(w:World):
 yC 40 #[i6 x,i6 n] w fun e w'=>e=rV (i6 (bW x n))/\w'=w:=by
 have d:(n:Int)≠0:=by omega
 obtain⟨f,g⟩:=a;by_cases h0:x<0
 ·have e1:IntKind.i64.wrap (x+1)=x+1:=by rw[UY];omega
  have e2:IntKind.i64.wrap (-(x+1))= -(x+1):=by rw[UY];omega
  have e0:((bW x n:Nat):Int)=(-(x+1)) % n:=by
   unfold bW;rw[Uj h0,Int.natCast_emod,Int.toNat_of_nonneg (by omega)]
  have e3:-((x+1).tmod n)=(bW x n:Int):=by
   rw[e0,<-Int.neg_tmod,Int.tmod_eq_emod_of_nonneg (by omega)]
  clear e0;generalize bW x n=r at*;go_enter func40,ntmps40
  go_wp2
  go_ret
  exact⟨by simp,rfl⟩
 ·have e0:((bW x n:Nat):Int)=x % n:=by
   unfold bW;rw[Ui h0,Int.natCast_emod,Int.toNat_of_nonneg (by omega)]
  have e3:=e0.symm;clear e0;generalize bW x n=r at*;go_enter func40,ntmps40
  go_wp2
  go_ret
  exact⟨by simp,rfl⟩
def mB(key value:yB):Bool:=decide (40<key.size\/160<value.size)
def wZ(key value:yB)(d:key.size<=maxLen)(f:value.size<=maxLen)(w:World):
 yC 74 #[sV key,sV value] w fun e w'=>e=rV (bV (mB key value))/\w'=w:=by
 unfold maxLen at d f;by_cases h1:40<key.size
 ·have a:yH (mB key value=true):=Uw (.inl h1);have b:(40:Int)<(key.size:Int):=by omega
  generalize mB key value=R at*;go_enter func74,ntmps74
  go_wp2
  go_ret
  exact⟨by rw[a.o];rfl,rfl⟩
 ·by_cases h2:160<value.size
  ·have a:yH (mB key value=true):=Uw (.inr h2);have b:¬(40:Int)<(key.size:Int):=by omega
   have c:(160:Int)<(value.size:Int):=by omega
   generalize mB key value=R at*;go_enter func74,ntmps74
   go_wp2
   go_ret
   exact⟨by rw[a.o];rfl,rfl⟩
  ·have a:yH (mB key value=false):=Uv (by rintro (h|h);exact h1 h;exact h2 h);have b:¬(40:Int)<(key.size:Int):=by omega
   have c:¬(160:Int)<(value.size:Int):=by omega
   generalize mB key value=R at*;go_enter func74,ntmps74
   go_wp2
   go_ret
   exact⟨by rw[a.o];rfl,rfl⟩
def ph(w)(T:aB w):yC 7 #[] w fun e w'=>e=rV (sV (ae bM))/\yW w w':=by
 have c:yH (yC 16 #[sV ⟨#[128]⟩] w fun e w'=>e=rV (sV (ae bM))/\yW w w'):=by
  have h:=ja ⟨#[128]⟩ (by decide) w T;have e:ae bM=ag ⟨#[128]⟩:=by unfold bM;rw[mX];rfl
  rw[e];exact h
 clear T;generalize ae bM=R at*;go_enter func7,ntmps7
 go_wp2_with fail
 refine c.m ?_;rintro e w1 ⟨rfl,a⟩;have b:=aa a;clear a;go_wp2
 go_ret
 exact⟨rfl,b.o⟩
def cZ:yB:=ag ⟨#[]⟩
def Aq(w)(T:aB w):yC 124 #[] w fun e w'=>e=rV (sV cZ)/\yW w w':=by
 have c:yH (yC 16 #[sV ⟨#[]⟩] w fun e w'=>e=rV (sV cZ)/\yW w w'):=ja ⟨#[]⟩ (by decide) w T;clear T;generalize cZ=R at*;go_enter func124,ntmps124
 go_wp2_with fail
 refine c.m ?_;rintro e w1 ⟨rfl,a⟩;have b:=aa a;clear a;go_wp2
 go_ret
 exact⟨rfl,b.o⟩
def eH(w:World)(v:Value)(a:List (yB×yB)):Prop:=w.ownsRow 3 144 2 v a.length (fK a)
def eH.at_{w a n cap b}(h:eH w (lV a n cap) b)(k:Nat)(p:yB×yB)(c:b[k]? =some p):
 ∃g,a=some ⟨g,0,none⟩/\g<w.heap.size/\yc w g (k*2) (sV p.1)/\yc w g (k*2+1) (sV p.2):=by
 let⟨a',d,e,_,_,f⟩:=dM h;cases e
 have i:=(Ux.1 c).1;rcases f with⟨_,h0,_⟩|⟨g,rfl⟩
 ·omega
 ·let⟨p1,p2⟩:=tQ b k p c;exact⟨g,rfl,(h.lt g rfl).2,fc h rfl _ _ p1,fc h rfl _ _ p2⟩
def eH.form{w v b}(h:eH w v b):∃a cap,v=lV a b.length cap:=by
 let⟨a,cap,e,_⟩:=dM h;exact⟨a,cap,e⟩
def eH.below{w w' v a}(h:eH w v a)(k:yW w w'):eH w' v a:=cM h fun g b=>k.block g (h.lt g b).2
def eH.nil(w):eH w (lV none 0 0) []:=U8 _ _ _ _
def bD(m:List (yB×yB))(key:yB):yB:=(ah m key).getD ⟨#[]⟩
def og(w v m)(key:yB)(n:eH w v m)(G:m.length<4200000000000):
 yC 77 #[v,sV key] w fun e w'=>e=rV (sV (bD m key))/\w'=w:=by
 obtain⟨a,cap,rfl⟩:=n.form;have x:yH (∀k (_:k<m.length),∃p q g,(a=some ⟨g,0,none⟩/\yc w g (k*2) (sV p)/\yc w g (k*2+1) (sV q))/\((p.toList == key.toList)=true->ah (m.drop k) key=some q)/\((p.toList == key.toList)=false->ah (m.drop k) key=ah (m.drop (k+1)) key)):=fun k E=>by
  have o:m[k]? =some m[k]:=Uh E;obtain⟨g,e,_,c,d⟩:=n.at_ k _ o;exact⟨_,_,g,⟨e,c,d⟩,Qi m key k _ o,Qg m key k _ o⟩
 have y:yH (ah (m.drop m.length) key=none):=by show _=_;rw[List.drop_length];rfl
 have u:yH (ah m key=ah (m.drop 0) key):=by show _=_;simp
 have C:yH (∀t,ah m key=some t->bD m key=t):=fun t h=>by unfold bD;rw[h];rfl
 have A:yH (ah m key=none->bD m key=⟨#[]⟩):=fun h=>by unfold bD;rw[h];rfl
 clear n;generalize m.length=N at*;generalize bD m key=R at*;go_enter func77,ntmps77
 go_wp2
 go_loopg [5] N (fun g r wr=>∃i:Nat,g=N - i/\i<=N/\r=i6 i/\yH (ah m key=ah (m.drop i) key)/\wr=w)
 case atStart=>exact⟨0,rfl,by omega,rfl,u,rfl⟩
 case round=>
  obtain⟨i,s,hi,rfl,f,rfl⟩:=hrel;have z:=aa s;clear s;by_cases F:i<N
  ·obtain⟨p,q,g,⟨rfl,c1,c2⟩,j,l⟩:=x.o i F;have D:(i:Int)<(N:Int):=by omega
   cases hls:(p.toList == key.toList)
   ·have B:=aa (f.o.trans (l hls));clear j l;go_wp2
    go_roundg (N - (i+1))
    case measure=>have:=z.o;omega
    case rel=>exact⟨i+1,rfl,by omega,by go_num,B,rfl⟩
   ·have b:=aa (C.o q (f.o.trans (j hls)));clear j l;go_wp2
    go_ret
    exact⟨by rw[b.o];rfl,rfl⟩
  ·obtain rfl:i=N:=by omega
   have D:¬(i:Int)<(i:Int):=by omega
   have b:=aa (A.o (f.o.trans y.o));go_wp2
   go_ret
   exact⟨by rw[b.o];rfl,rfl⟩
def Ra:(yP.info? 144).map (fun i=>(i.zero,i.size,i.bytes))=some (some (gV #[sV ⟨#[]⟩,sV ⟨#[]⟩]),2,32):=by kernel_rfl
def aL(m:List (yB×yB))(key value:yB):List (yB×yB):=others m key++(if value.size=0 then [] else [(key,value)])
def An(w v m)(key value:yB)(B:eH w v m)(X:m.length<4000000000000):
 yC 76 #[v,sV key,sV value] w fun e w'=>(∃v',e=rV v'/\w'.ownsRow w.heap.size 144 2 v' (aL m key value).length (fK (aL m key value)))/\yW w w':=by
 obtain⟨a,cap,rfl⟩:=B.form;have M:yH (∀k (_:k<m.length),∃p q g,(a=some ⟨g,0,none⟩/\yc w g (k*2) (sV p)/\yc w g (k*2+1) (sV q))/\others (m.take (k+1)) key=others (m.take k) key++(if(p.toList == key.toList) then [] else [(p,q)])):=fun k l=>by
  have H:m[k]? =some m[k]:=Uh l;obtain⟨g,e,_,c,d⟩:=B.at_ k _ H;exact⟨_,_,g,⟨e,c,d⟩,OR m key k _ H⟩
 have O:yH (others (m.take m.length) key=others m key):=by show _=_;rw[VM]
 have P:yH (∀k,(others (m.take k) key).length<=k):=fun k=>Ut (oW _ _) (by rw[UN];omega)
 have Q:yH ((others m key).length<=m.length):=oW _ _;have E:yH (aL m key value=others m key++(if value.size=0 then [] else [(key,value)])):=rfl;obtain⟨i0,G,J,K,L⟩:=Vp Ra;clear B;generalize m.length=N at*;generalize aL m key value=R at*;go_enter func76,ntmps76
 go_wp2
 go_loopg [7,8] N (fun g v r wr=>∃i:Nat,g=N - i/\i<=N/\r=i6 i/\yH (wr.ownsRow w.heap.size 144 2 v (others (m.take i) key).length (fK (others (m.take i) key)))/\yH (yW w wr))
 case atStart=>exact⟨0,rfl,by omega,rfl,U8 _ _ _ _,Un _ _⟩
 case round=>
  obtain⟨i,F,hi,rfl,f,b⟩:=hrel;have D:=aa F;clear F;by_cases U:i<N
  ·obtain⟨p,q,g,⟨rfl,c1,c2⟩,h⟩:=M.o i U;have r1:=eg b.o c1;have r2:=eg b.o c2;have T:(i:Int)<(N:Int):=by omega
   have V:=P.o i;have C:=b.o.size;cases hls:(p.toList == key.toList)
   ·rw[hls] at h;have x:=aa h;clear h c1 c2;generalize others (m.take i) key=os at*;go_wp2_with (at_builtin;refine U0 _ rfl (.tmp 22) (.tmp 27) 92 rfl w.heap.size 144 i0 (gV #[sV ⟨#[]⟩,sV ⟨#[]⟩]) 2 32 underlying92 G J K L rfl (by decide) _ os.length (fK os) rfl (f.o.alloc _) ⟨wr.heap.size,0,none⟩ 1 1 [sV p,sV q] rfl rfl (vC _ _ _ _ rfl) ?c2 (by omega) ?c3 ?c4 ?c5 _ rfl ?c6)
    case c2=>intro v I;simp at I;rcases I with rfl|rfl<;>rfl
    case c3=>unfold maxLen;omega
    case c4=>omega
    case c5=>simp;omega
    intro g2 y w2 n j z A;have t:yH (w2.ownsRow w.heap.size 144 2 (lV (qA g2) (os.length+1) y) (others (m.take (i+1)) key).length (fK (others (m.take (i+1)) key))):=by
     show World.ownsRow _ _ _ _ _ _ _;rw[x.o,zy,Uq];exact n
    have s:yH (yW w w2):=(b.o.alloc C _).grown j (by simp;omega) (fun k l=>(f.o.lt k l).1);clear n j z A;go_wp2
    go_roundg (N - (i+1))
    case measure=>have:=D.o;omega
    case rel=>exact⟨i+1,rfl,by omega,by go_num,t,s⟩
   ·rw[hls] at h;have x:yH (others (m.take (i+1)) key=others (m.take i) key):=by rw[h];show _=_;simp
    clear h c1 c2;go_wp2
    go_roundg (N - (i+1))
    case measure=>have:=D.o;omega
    case rel=>exact⟨i+1,rfl,by omega,by go_num,by rw[x.o];exact f,b⟩
  ·obtain rfl:i=N:=by omega
   have T:¬(i:Int)<(i:Int):=by omega
   rw[O.o] at f;have W:=Q.o;have C:=b.o.size;generalize others m key=os at*;by_cases o:value.size=0
   ·have S:value.toList.isEmpty=true:=by rw[g7];exact o
    have u:yH (R=os):=by rw[E.o,Uj o];show _=_;simp
    clear o;go_wp2
    go_ret
    exact⟨⟨_,rfl,by rw[u.o];exact f.o⟩,b.o⟩
   ·have S:value.toList.isEmpty=false:=by rw[iv];omega
    have u:yH (R=os++[(key,value)]):=by rw[E.o,Ui o];rfl
    clear o;go_wp2_with (at_builtin;refine U0 _ rfl (.tmp 31) (.tmp 35) 92 rfl w.heap.size 144 i0 (gV #[sV ⟨#[]⟩,sV ⟨#[]⟩]) 2 32 underlying92 G J K L rfl (by decide) _ os.length (fK os) rfl (f.o.alloc _) ⟨wr.heap.size,0,none⟩ 1 1 [sV key,sV value] rfl rfl (vC _ _ _ _ rfl) ?kk2 (by omega) ?kk3 ?kk4 ?kk5 _ rfl ?kk6)
    case kk2=>exact⟨rfl,rfl⟩
    case kk3=>unfold maxLen;omega
    case kk4=>omega
    case kk5=>omega
    intro g2 y w2 n j z A;have t:yH (w2.ownsRow w.heap.size 144 2 (lV (qA g2) (os.length+1) y) R.length (fK R)):=by
     show World.ownsRow _ _ _ _ _ _ _;rw[u.o,zy,Uq];exact n
    have s:yH (yW w w2):=(b.o.alloc C _).grown j (by simp;omega) (fun k l=>(f.o.lt k l).1);clear n j z A;go_wp2
    go_ret
    exact⟨⟨_,rfl,t.o⟩,s.o⟩
def ig{B w w'}(h:Below B w w')(n:Nat):Below B w (w'.drewN n):=⟨h.os,h.tape,h.output,h.size,h.block⟩
def gE(l:List yB)(x:yB)(n:Nat):Bool:=(l.take n).any fun y=>((ag x).toList == (ag y).toList) && !(x.toList == y.toList)
def bY(l:List yB):Nat->Bool
 | 0=>false
 |n+1=>bY l n || (match l[n]? with|some x=>gE l x n|none=>false)
def SQ(l:List yB)(x y)(n:Nat)(h:l[n]? =some y):gE l x (n+1)=(gE l x n || (((ag x).toList == (ag y).toList) && !(x.toList == y.toList))):=by
 unfold gE;rw[VF,h,List.any_append];simp
def SR(l:List yB)(x)(m n:Nat)(a:m<=n)(h:gE l x m=true):gE l x n=true:=by
 unfold gE at h⊢;rw[List.any_eq_true] at h⊢;let⟨y,h1,h2⟩:=h;exact⟨y,(List.take_sublist_take_left a).subset h1,h2⟩
def Jn (l : List ByteArray) : ∀ (m n : Nat), m ≤ n → bY l m = true → bY l n = true
  | m, 0, h, hc => by have : m = 0 := by omega
                      subst this; exact hc
  | m, n + 1, h, hc => by
    by_cases e : m = n + 1
    · subst e; exact hc
    · simp only [bY, Jn l m n (by omega) hc, Bool.true_or]
def pk(w v)(l:List yB)(t:gQ w v l)(hn:l.length<=4200000000000)(hs:∀p∈l,p.size<=maxLen)(T:aB w):
 yC 13 #[v] w fun e w'=>e=rV (bV (bY l l.length))/\yW w w':=by
 obtain⟨a,cap,rfl,t⟩:=t;have F:yH (∀k (_:k<l.length),∃p g o,l[k]? =some p/\a=some ⟨g,o,none⟩/\(∀W,yW w W->yc W g (o+k) (sV p))/\(∀W,yW w W->yC 16 #[sV p] W fun e w'=>e=rV (sV (ag p))/\yW W w')/\((ag p).size:Int)=32):=fun k c=>by
  have O:l[k]? =some l[k]:=Uh c;rcases t with rfl|⟨g,o,e,h⟩
  ·cases c
  ·refine⟨_,g,o,O,e,fun W A=>eg A (h k _ O),fun W A=>ja _ (hs _ (Vc c)) W (T.below A),?_⟩;have:(ag l[k]).size=32:=dz _;omega
 have HN:yH (∀k x,l[k]? =some x->bY l (k+1)=(bY l k || gE l x k)):=fun k x u=>by simp only[bY,u]
 have Y:yH (∀k,k<=l.length->bY l k=true->bY l l.length=true):=fun k c h=>Jn l k _ c h
 have A0:yH (∀x y k,l[k]? =some y->gE l x (k+1)=(gE l x k || (((ag x).toList == (ag y).toList) && !(x.toList == y.toList)))):=fun x y k h=>SQ l x y k h
 have Z:yH (∀x m n,m<=n->gE l x m=true->gE l x n=true):=fun x m n h=>SR l x m n h
 clear t hs T;generalize l.length=N at*;go_enter func13,ntmps13
 go_wp2
 go_loopg [3] N (fun g r wr=>∃i:Nat,g=N - i/\i<=N/\r=i6 i/\yH (bY l i=false)/\yH (yW w wr))
 case atStart=>exact⟨0,rfl,by omega,rfl,rfl,Un _ _⟩
 case round=>
  obtain⟨i,s,hi,rfl,G,d⟩:=hrel;have X:=aa s;clear s;by_cases A8:i<N
  ·obtain⟨x,g,o,u,rfl,D,P,B1⟩:=F.o i A8;have c1:=D wr d.o;have K:=P wr d.o;have A3:=aa D;have HX:=aa K;have J:yH (bY l (i+1)=gE l x i):=by rw[HN.o i x u,G.o];exact Bool.false_or _
   have A6:(i:Int)<(N:Int):=by omega
   have A1:yH (∀y k,l[k]? =some y->gE l x (k+1)=(gE l x k || (((ag x).toList == (ag y).toList) && !(x.toList == y.toList)))):=fun y k h=>A0.o x y k h
   have A2:yH (∀k,k<=i->gE l x k=true->bY l N=true):=fun k c h=>Y.o (i+1) (by omega) (by rw[J.o];exact Z.o x k i c h)
   generalize ag x=hx' at*;clear P D K;go_wp2_with fail
   refine HX.m ?_;rintro e w1 ⟨rfl,L⟩;have U:=aa (d.o.trans (L.mono d.o.size));clear L c1 u;generalize wr=WR at*;generalize gk=GK at*;go_wp2
   go_loopg [5] i (fun g r wr=>∃j:Nat,g=i - j/\j<=i/\r=i6 j/\yH (gE l x j=false)/\yH (yW w wr))
   case atStart=>exact⟨0,rfl,by omega,rfl,by show gE l x 0=false;unfold gE;simp,U⟩
   case round=>
    obtain⟨j,s,hj,rfl,H,q⟩:=hrel;have I:=aa s;clear s;by_cases B0:j<i
    ·obtain⟨y,g',o',R,B,E,S,_⟩:=F.o j (by omega);injection B with B;injection B with e1 e2;subst e1 e2;have c2:=E wr q.o;have HY:=aa (S wr q.o);have z:yH (gE l x (j+1)=((hx'.toList == (ag y).toList) && !(x.toList == y.toList))):=by rw[A1.o y j R,H.o];exact Bool.false_or _
     have A4:=aa E;have A7:(j:Int)<(i:Int):=by omega
     generalize ag y=hy' at*;clear S E R;go_wp2_with fail
     refine HY.m ?_;rintro e w2 ⟨rfl,M⟩;have f:=aa (q.o.trans (M.mono q.o.size));have d1:=A3.o w2 f.o;have d2:=A4.o w2 f.o;clear M c2;by_cases C:(hx'.toList == hy'.toList)=true
     ·by_cases Q:(x.toList == y.toList)=true
      ·have b:yH (gE l x (j+1)=false):=by rw[z.o,C,Q];rfl
       go_upto_region 9 with fail
       go_quiet (fail)
       go_wp2
       go_roundg (i - (j+1))
       case measure=>have:=I.o;omega
       case rel=>exact⟨j+1,rfl,by omega,by go_num,b,ig f.o _⟩
      ·have A9:(x.toList == y.toList)=false:=by simpa using Q
       have b:yH (gE l x (j+1)=true):=by rw[z.o,C,A9];rfl
       have V:yH (bY l N=true):=A2.o (j+1) (by omega) b.o;go_upto_region 9 with fail
       go_quiet (fail)
       go_wp2
       go_ret
       exact⟨by rw[V.o];rfl,ig f.o _⟩
     ·have A5:(hx'.toList == hy'.toList)=false:=by simpa using C
      have b:yH (gE l x (j+1)=false):=by rw[z.o,A5];rfl
      go_upto_region 9 with fail
      go_quiet (fail)
      go_wp2
      go_roundg (i - (j+1))
      case measure=>have:=I.o;omega
      case rel=>exact⟨j+1,rfl,by omega,by go_num,b,ig f.o _⟩
    ·obtain rfl:j=i:=by omega
     have A7:¬(j:Int)<(j:Int):=by omega
     have b:yH (bY l (j+1)=false):=by rw[J.o];exact H.o
     go_wp2
     go_roundg (N - (j+1))
     case measure=>have:=X.o;omega
     case rel=>exact⟨j+1,rfl,by omega,by go_num,b,q⟩
  ·obtain rfl:i=N:=by omega
   have A6:¬(i:Int)<(i:Int):=by omega
   have HR:=aa G;go_wp2
   go_ret
   exact⟨by rw[HR.o];rfl,d.o⟩
def eI(G:yB->Option yB)(t:yB):Bool:=match G (ag t) with
 |none=>false
 |some u=>!(u.toList == t.toList) && ((ag u).toList == (ag t).toList)
def Lu(w)(c:Option Addr)(t h)(f:yH (yC 16 #[sV t] w fun e w'=>e=rV (sV h)/\yW w w'))
 (d:yH (∀W,yW w W->yC 114 #[pV c,sV h] W fun e w'=>e=rV (tV #[sV ⟨#[]⟩,i6 9])/\∃n,w'=W.drewN n)):
 yC 121 #[pV c,sV t] w fun e w'=>e=rV (bV false)/\yW w w':=by
 go_enter func121,ntmps121
 go_wp2_with fail
 refine f.m ?_;rintro e w1 ⟨rfl,b⟩;have a:=aa b;clear b;go_wp2_with fail
 refine(d.o w1 a.o).mono ?_;rintro e w2 ⟨rfl,n,rfl⟩;go_wp2
 go_ret
 exact⟨rfl,ig a.o _⟩
def Ls(w)(c:Option Addr)(t h u:yB)(f:yH (yC 16 #[sV t] w fun e w'=>e=rV (sV h)/\yW w w'))
 (d:yH (∀W,yW w W->yC 114 #[pV c,sV h] W fun e w'=>e=rV (tV #[sV u,i6 0])/\∃n,w'=W.drewN n)) (g:(u.toList == t.toList)=true):
 yC 121 #[pV c,sV t] w fun e w'=>e=rV (bV false)/\yW w w':=by
 go_enter func121,ntmps121
 go_wp2_with fail
 refine f.m ?_;rintro e w1 ⟨rfl,b⟩;have a:=aa b;clear b;go_wp2_with fail
 refine(d.o w1 a.o).mono ?_;rintro e w2 ⟨rfl,n,rfl⟩;go_wp2
 go_ret
 exact⟨rfl,ig a.o _⟩
def Lt(w)(l:Option Addr)(t h u k:yB)(i:yH (yC 16 #[sV t] w fun e w'=>e=rV (sV h)/\yW w w'))
 (g:yH (∀W,yW w W->yC 114 #[pV l,sV h] W fun e w'=>e=rV (tV #[sV u,i6 0])/\∃n,w'=W.drewN n)) (o:(u.toList == t.toList)=false)
 (j:yH (∀W,yW w W->yC 16 #[sV u] W fun e w'=>e=rV (sV k)/\yW W w')) (h32:(h.size:Int)=32):
 yC 121 #[pV l,sV t] w fun e w'=>e=rV (bV (k.toList == h.toList))/\yW w w':=by
 by_cases f:(k.toList == h.toList)=true
 ·rw[f];go_enter func121,ntmps121
  go_wp2_with fail
  refine i.m ?_;rintro e w1 ⟨rfl,b⟩;have a:=aa b;clear b;go_wp2_with fail
  refine(g.o w1 a.o).mono ?_;rintro e w2 ⟨rfl,n,rfl⟩;go_wp2_with fail
  refine(j.o _ (ig a.o n)).mono ?_;rintro e w3 ⟨rfl,c⟩;have d:=aa ((ig a.o n).trans (c.mono a.o.size));clear c;go_wp2
  go_ret
  exact⟨rfl,d.o⟩
 ·have m:(k.toList == h.toList)=false:=by simpa using f
  clear f;rw[m];go_enter func121,ntmps121
  go_wp2_with fail
  refine i.m ?_;rintro e w1 ⟨rfl,b⟩;have a:=aa b;clear b;go_wp2_with fail
  refine(g.o w1 a.o).mono ?_;rintro e w2 ⟨rfl,n,rfl⟩;go_wp2_with fail
  refine(j.o _ (ig a.o n)).mono ?_;rintro e w3 ⟨rfl,c⟩;have d:=aa ((ig a.o n).trans (c.mono a.o.size));clear c;go_wp2
  go_ret
  exact⟨rfl,d.o⟩
def Gv{M w a G}(f:j5 M w a G)(g:∀x,M x->x<w.heap.size)(h:∀k t,G k=some t->t.size<=maxLen)(t:yB)(i:t.size<=maxLen)(T:aB w):
 yC 121 #[pV a,sV t] w fun e w'=>e=rV (bV (eI G t))/\yW w w':=by
 have c:=aa (ja t i w T);have h32:(ag t).size=32:=dz _;have b:yH (∀W,yW w W->yC 114 #[pV a,sV (ag t)] W fun e w'=>e=rV (tV #[sV ((G (ag t)).getD ⟨#[]⟩),i6 (if(G (ag t)).isSome=true then 0 else 9)])/\∃n,w'=W.drewN n):=fun W d=>f W (ag t) h32 fun x j=>d.block x (g x j)
 unfold eI;cases hg:G (ag t) with
 |none=>rw[hg] at b;exact Lu w a t _ c b
 |some u=>
  rw[hg] at b;simp only;cases hut:(u.toList == t.toList) with
  |true=>exact Ls w a t _ u c b hut
  |false=>
   rw[Bool.not_false,Bool.true_and];exact Lt w a t _ u (ag u) c b hut (fun W d=>ja u (h _ _ hg) W (T.below d)) (by rw[h32];rfl)
structure Ch(w:World)(S:Nat->Prop)(t:Nd)(r:yL)(d b:Nat)(u:Option Addr)(S':Nat->Prop):Prop where
 at_:At w (ay t r d).1 S' (pV u)
 sub:∀x,S' x->S x/\x≠b
 ok:aA (ay t r d).1 (ay t r d).2.2.1
 mx:aw (ay t r d).2.1
 deep:(ay t r d).2.2.1+(ay t r d).2.1.length<=80
 less:(ay t r d).1≠.nil->(ay t r d).2.1.length+1<=r.length
def Ua(W:World)(S:Nat->Prop)(t:Nd)(r:yL)(d b:Nat)(e:Ending)(w':World):Prop:=
 ∃u S',e=rV (cz (pV u) (ae (ay t r d).2.1) (ay t r d).2.2.1 (ay t r d).2.2.2)/\Ch W S t r d b u S'/\yW W w'
def AU{W S t r d b}(h:ay t r d=(.nil,[],0,false)):Ch W S t r d b none (fun _=>False):=by
 constructor<;>(try rw[h])
 ·rfl
 ·exact fun _ h=>h.elim
 ·exact mE 0
 ·exact fun _ h=>(Vs h).elim
 ·decide
 ·exact fun h=>absurd rfl h
def Rs(W S t)(b:Nat)(r)(d:Nat)(bl:Bool)(f:At W t S (pV (qA b)))(i:aA t d)(E:t.read)(n:aw r)(C:d+r.length<=80):
 yC 72 #[cz (pV (qA b)) (ae r) d bl] W (Ua W S t r d b):=by
 have p:=i.aK;cases t with
 |nil=>have h:Value.pointer (qA b)=pV none:=f;cases h
 |unread _=>exact E.elim
 |leaf h q v=>
  let⟨l,a,_,B⟩:=f;cases a
  exact(zP b h q v _ _ r (by have:=p.2.2.1;omega) d bl W B).mono fun e w' ⟨h1,h2⟩=>⟨none,_,h1,AU rfl,h2⟩
 |ext h q k=>
  let⟨l,L,z,a,A,B,F,s⟩:=f;cases a
  obtain⟨w,rfl⟩:=s.ptr;have K:=p.2.2.1;by_cases e:aF q r=q.length
  ·have m:aF r q=q.length:=by rw[oP];exact e
   have D:=(iN q r).2;rw[e] at D;have J:=Vt.2 i.bB.1;have g:ay (.ext h q k) r d=(k,r.drop q.length,d+q.length,true):=by simp only[ay,Uj e]
   refine(wM b h q k w _ r (by omega) (by omega) m d (by omega) bl W B).mono fun en w' ⟨h1,h2⟩=>⟨w,z,by rw[g];exact h1,?_,h2⟩
   constructor<;>(try rw[g])
   ·exact s
   ·exact F
   ·exact fq i
   ·exact da n _
   ·show d+q.length+(r.drop q.length).length<=80;rw[Uu];omega
   ·intro _;show(r.drop q.length).length+1<=r.length;rw[Uu];omega
  ·have m:aF r q≠q.length:=by rw[oP];exact e
   have g:ay (.ext h q k) r d=(.nil,[],0,false):=by simp only[ay,Ui e]
   exact(zQ b h q k _ _ r (by omega) (by omega) m d bl W B).mono fun en w' ⟨h1,h2⟩=>⟨none,_,by rw[g];exact h1,AU g,h2⟩
 |branch h v ks=>
  cases r with
  |nil=>
   let⟨l,M,o,a,_,B,_⟩:=f;cases a
   exact(zR b h v ks _ _ d bl W B).mono fun en w' ⟨h1,h2⟩=>⟨none,_,h1,AU rfl,h2⟩
  |cons c r=>
   let⟨l,U,o,a,A,B,u⟩:=f.kids;cases a
   have j:=n c (Uk ..);have I:r.length+1+d<=80:=by simp at C;omega
   refine(wN b h v ks _ _ c r j (U c.toNat) rfl (by omega) d (by omega) bl W B).mono fun en w' ⟨h1,h2⟩=>⟨U c.toNat,o c.toNat,h1,⟨u.at_ _ j,fun x G=>u.sub _ x j G,dA i _ j,fun y H=>n y (Ul _ H),?_,?_⟩,h2⟩
   ·show d+1+r.length<=80;omega
   ·intro _;simp[ay]
def pE(a:List yB)(V:yL):Option yL:=if a=[] then some V else none
def oO(t:Nd)(d:Nat)(bl:Bool)(a:List yB):Option (Nd×List yB):=match t with
 | .unread h=>match a with
  | []=>none
  |p::q=>match gS h p.data.toList d bl with
   | .error _=>none
   | .ok n=>some (n,q)
 |t=>some (t,a)
def yx(f:Nd->List yB->Option yL):Option (Nd×List yB)->Option yL
 |none=>none
 |some x=>f x.1 x.2
def jo:Nat->Nd->yL->Nat->Bool->List yB->yL->Option yL
 | 0,t,_,_,_,ps,V=>if t.isNil=true then pE ps V else none
 |f+1,t,r,d,bl,ps,V=>if t.isNil=true then pE ps V else yx (fun t1 q=>jo f (ay t1 r d).1 (ay t1 r d).2.1 (ay t1 r d).2.2.1 (ay t1 r d).2.2.2 q (t1.at r)) (oO t d bl ps)
def Rv(f:Nat)(r)(d:Nat)(bl:Bool)(a:List yB)(V):jo f .nil r d bl a V=pE a V:=by cases f<;>rfl
structure sX(w0:World)(S0:Nat->Prop)(ga gl:Nat)(all:List yB)(R:Option yL)(g:Nat)(wr:World)(t:Nd)(Sc:Nat->Prop)(u:Option Addr)(r:yL)(d:Nat)(bl:Bool)(n:Nat)(ul:Option Addr)(rl:yL)(dl:Nat)(bll:Bool)(V:yL):Prop where
 here:db wr ga u (ae r) d bl
 last:db wr gl ul (ae rl) dl bll
 at_:At wr t Sc (pV u)
 sub:∀x,Sc x->(S0 x\/w0.heap.size<=x)/\x<wr.heap.size/\x≠ga/\x≠gl
 ok:aA t d
 mx:aw r
 deep:d+r.length<=80
 fuel:t≠.nil->r.length+1<=g
 used:n<=all.length
 res:R=jo g t r d bl (all.drop n) V
 val:t=.nil->(ul=none/\V=[])\/∃b t kid kids,ul=some ⟨b,0,none⟩/\b<wr.heap.size/\¬Sc b/\b≠ga/\b≠gl/\bU wr b t kid kids/\t.at rl=V
 wrote:bO S0 w0 wr
def Is{w0:World}{f:Nat->Prop}{j c:Nat}{all:List yB}{R:Option yL}{g:Nat}{wr:World}{t:Nd}{a:Nat->Prop}{b:Nat}{r:yL}{d:Nat}{bl:Bool}{n:Nat}{o:Option Addr}{m:yL}{i:Nat}{h:Bool}{V:yL}
 (e:sX w0 f j c all R g wr t a (qA b) r d bl n o m i h V) {t1:Nd} {w2:World} (k:At w2 t1 (fun x=>a x\/wr.heap.size<=x) (ptr b)):
 At (cJ w2 c (qA b) r d bl) t1 (kJ wr w2 a) (ptr b):=by
 have p:=e.last.lt;refine(k.cut.mono (S':=kJ wr w2 a) ?_).kept ?_
 ·rintro x ⟨h1|h1,h2⟩
  ·exact .inl h1
  ·exact .inr ⟨h1,h2⟩
 ·rintro x l _;refine mZ _ _ _ _ _ _ _ ?_;rcases l with h1|⟨h1,_⟩
  ·exact(e.sub x h1).2.2.2
  ·omega
def Ry{w0:World}{o:Nat->Prop}{c a:Nat}{all:List yB}{R:Option yL}{g:Nat}{wr:World}{t:Nd}{j:Nat->Prop}{b:Nat}{r:yL}{d:Nat}{bl:Bool}{n:Nat}{S:Option Addr}{Q:yL}{w:Nat}{v:Bool}{V:yL}
 (e:sX w0 o c a all R (g+1) wr t j (qA b) r d bl n S Q w v V) (l:t≠.nil) (h1:c≠a) (p1:w0.heap.size<=c) (p2:w0.heap.size<=a) {t1:Nd} {n1:Nat} (E:n1<=all.length) (J:oO t d bl (all.drop n)=some (t1,all.drop n1)) (G:t1.read)
 {w2:World} (y:At w2 t1 (fun x=>j x\/wr.heap.size<=x) (ptr b)) (p:bO j wr w2)
 {w4:World} {m:Option Addr} {S':Nat->Prop} (i:Ch (cJ w2 a (qA b) r d bl) (kJ wr w2 j) t1 r d b m S') (k:Below (cJ w2 a (qA b) r d bl).heap.size (cJ w2 a (qA b) r d bl) w4):
 db w4 c (qA b) (ae r) d bl/\sX w0 o c a all R g (cJ w4 c m (ay t1 r d).2.1 (ay t1 r d).2.2.1 (ay t1 r d).2.2.2) (ay t1 r d).1 S' m (ay t1 r d).2.1 (ay t1 r d).2.2.1 (ay t1 r d).2.2.2 n1 (qA b) r d bl (t1.at r):=by
 have A:=e.here.lt;have C:=e.last.lt;have W:=p.size;have X:=tG w2 a (qA b) r d bl;have Y:=k.size;have Z:=tG w4 c m (ay t1 r d).2.1 (ay t1 r d).2.2.1 (ay t1 r d).2.2.2;have q:∀x,kJ wr w2 j x->(o x\/w0.heap.size<=x)/\x<w2.heap.size/\x≠c/\x≠a:=fun x f=>by
  rcases f with f|⟨f,L⟩
  ·have:=e.sub x f;exact⟨this.1,by omega,this.2.2⟩
  ·have:=e.wrote.size;exact⟨.inr (by omega),L,by omega,by omega⟩
 have b24:∀x,x<w2.heap.size->x≠a->w4.heap[x]? =w2.heap[x]? :=fun x f l=>(k.block x (by omega)).trans (mZ _ _ _ _ _ _ _ l)
 have b45:∀x,x≠c->(cJ w4 c m (ay t1 r d).2.1 (ay t1 r d).2.2.1 (ay t1 r d).2.2.2).heap[x]? =w4.heap[x]? :=fun x l=>mZ _ _ _ _ _ _ _ l
 have O:¬j c:=fun h=>(e.sub c h).2.2.1 rfl
 have P:¬j a:=fun h=>(e.sub a h).2.2.2 rfl
 have u:db w4 c (qA b) (ae r) d bl:=(e.here.kept (p.block c A O)).kept (b24 c (by omega) h1);have T:db w4 a (qA b) (ae r) d bl:=by
  have:db (cJ w2 a (qA b) r d bl) a (qA b) (ae r) d bl:=(e.last.kept (p.block a C P)).set _ _ _ _;exact this.kept (k.block a (by omega))
 refine⟨u,?_⟩;have H:t1.some:=by cases t1<;>first|exact G.elim|trivial
 let⟨U,M,N,K,I,B⟩:=(Is e y).ai H;cases K
 have s:=q b I;have z:(cJ w4 c m (ay t1 r d).2.1 (ay t1 r d).2.2.1 (ay t1 r d).2.2.2).heap[b]? =(cJ w2 a (qA b) r d bl).heap[b]? :=by
  rw[b45 b s.2.2.1];exact k.block b (by omega)
 refine⟨u.set _ _ _ _,T.kept (b45 a (Ne.symm h1)),i.at_.kept fun x f _=>?_,fun x f=>?_,i.ok,i.mx,i.deep,fun D=>?_,E,?_,fun _=>.inr ⟨b,t1,M,N,rfl,by omega,fun h=>(i.sub b h).2 rfl,s.2.2.1,s.2.2.2,z.trans B,rfl⟩,?_⟩
 ·have:=q x (i.sub x f).1;rw[b45 x this.2.2.1];exact k.block x (by omega)
 ·have:=q x (i.sub x f).1;exact⟨this.1,by omega,this.2.2⟩
 ·have:=i.less D;have:=e.fuel l;omega
 ·rw[e.res];have F:t.isNil≠true:=by cases t<;>first|exact absurd rfl l| (intro h;cases h)
  show(if t.isNil=true then _ else yx _ (oO t d bl (all.drop n)))=_;rw[Ui F,J];rfl
 ·have h5:bO o w0 w2:=e.wrote.trans p fun x f=>(e.sub x f).1
  have h6:bO o w0 (cJ w2 a (qA b) r d bl):=h5.cJ a p2 _ _ _ _;exact(h6.kU k).cJ c p1 _ _ _ _
def rF:Option yL->Value
 |none=>tV #[sV ⟨#[]⟩,iV .i64 12]
 |some v=>tV #[sV (ae v),iV .i64 0]
def gQ.at_{w a n cap c}(h:gQ w (lV a n cap) c)(i:Nat)(p)(b:c[i]? =some p):∃g o,a=some ⟨g,o,none⟩/\yc w g (o+i) (sV p):=by
 let⟨a',d,h1,h2⟩:=h;injection h1 with e1 e2 e3;subst e1;rcases h2 with h2|⟨g,o,h3,h4⟩
 ·rw[h2] at b;cases b
 ·exact⟨g,o,h3,h4 i p b⟩
def Rx(w u t S r)(a:Option Addr)(cap:Nat)(f:List yB)(hA:At w t S (pV u))(hK:aA t 0)(hn:aw r)(hd:r.length<=80)(T:aB w)(hS:∀x,S x->3<=x)
 (hP:∀W,bO S w W->gQ W (lV a f.length cap) f) (hs:∀p∈f,p.size<=maxLen) (G2:f.length<=96):
 yC 123 #[gV #[pV u,sV (ae r),i6 0,bV false],lV a f.length cap] w fun e w'=>e=rV (rF (jo 81 t r 0 false f []))/\bO S w w':=by
 obtain⟨R,hR⟩:=yX (jo 81 t r 0 false f [])
 rw[<-hR];have HA:=aa hA.cut;have HR:=aa hR;have HK:yH (aA t 0/\aw r/\r.length<=80):=⟨hK,hn,hd⟩
 have HT:=aa T;have HS:=aa hS;have HP:=aa hP;have HZ:=aa hs;have E7:yH (∀W,bO (fun x=>S x/\x<w.heap.size) w W->bO S w W):=fun W h=>h.mono fun x C=>C.1
 clear hA hR hK hn hd T hS hP hs;obtain⟨l,B5⟩:=yX f.length
 have U:=aa B5;rw[<-B5] at HP G2⊢;clear B5;go_enter func123,ntmps123
 go_wp2
 go_loopg [7,8] 81 (fun g us ee wr=>∃i Sc uc r d bl n P O I H V,us=i6 (n:Nat)/\n<=l/\yH (sX w (fun x=>S x/\x<w.heap.size) w.heap.size (w.heap.size+1) f R g wr i Sc uc r d bl n P O I H V))
 case atStart=>
  have D1:yW w (w.alloc (.cells #[pV u,sV (ae r),i6 0,bV false] 83)):=(Un _ _).alloc (Ug _) _;have A0:yW w ((w.alloc (.cells #[pV u,sV (ae r),i6 0,bV false] 83)).alloc (.cells #[pV u,sV (ae r),i6 0,bV false] 83)):=D1.alloc D1.size _;refine⟨t,_,u,r,0,false,0,u,r,0,false,[],rfl,by omega,⟨?_,?_,HA.o.below A0,fun x C=>⟨.inl C,by simp;omega,by omega,by omega⟩,HK.o.1,HK.o.2.1,by have:=HK.o.2.2;omega,fun _=>by have:=HK.o.2.2;omega,UD _,by rw[HR.o];rfl,?_,bO.iP A0⟩⟩
  ·unfold db;rw[U6 _ _ _ (by simp)];exact UG _ _
  ·exact xO _ _ _ (by simp)
  ·intro h;subst h;have h1:=HA.o;injection h1 with h2;exact .inl ⟨h2,rfl⟩
 case round=>
  obtain⟨i,Sc,uc,r2,d,bl,n,P,O,I,H,V,rfl,D5,HW⟩:=hrel;have j:=HW.o;have G:=aa (E7.o wr j.wrote);have B9:=j.here.lt;have C0:=j.last.lt;obtain⟨a0,a1,a2,a3⟩:=j.here.cells;obtain⟨b0,b1,b2,b3⟩:=j.last.cells;by_cases E:i=.nil
  ·subst E;have M:=j.at_;cases M
   have A5:R=pE (f.drop n) V:=by rw[j.res,Rv]
   by_cases D6:n<l
   ·have Z:yH (R=none):=by
     show _=_;rw[A5];unfold pE;rw[Ui];intro e;have:=congrArg List.length e;rw[Uu,<-U.o] at this;simp at this;omega
    have D4:(n:Int)<(l:Int):=by omega
    clear j A5 b0 b1 b2 b3;go_wp2
    go_ret2
    rw[Z.o];exact⟨rfl,G.o⟩
   ·obtain rfl:n=l:=by omega
    have E6:yH (R=some V):=by
     show _=_;rw[A5];unfold pE;rw[Uj];apply List.eq_nil_of_length_eq_zero;rw[Uu,<-U.o];omega
    have D4:¬(n:Int)<(n:Int):=by omega
    have E8:yH (yC 64 #[gV #[pV P,sV (ae O),i6 (I:Int),bV H]] wr fun e w'=>e=rV (sV (ae V))/\yW wr w'):=by
     have hL:sM wr wr.heap.size P O V:=by
      rcases j.val rfl with h|⟨b,t,D9,E0,h1,h2,_,_,_,h3,h4⟩
      ·exact .inl h
      ·exact .inr ⟨b,t,D9,E0,h1,h2,h3,h4⟩
     exact tk hL I H wr (Un _ _)
    clear j A5;go_wp2_with fail
    refine E8.m ?_;rintro e w2 ⟨rfl,A0⟩;have E1:=aa (G.o.kU A0);clear A0;go_wp2
    go_ret2
    rw[E6.o];exact⟨rfl,E1.o⟩
  ·have A7:i.some:=by cases i<;>first|exact absurd rfl E|trivial
   obtain⟨b,D9,E0,M,L,B⟩:=j.at_.ai A7;have G5:=M;injection G5 with hu3;subst hu3;obtain⟨v,A1⟩:∃v,gk=v+1:=⟨gk - 1,by have:=j.fuel E;omega⟩
   have A9:=aa A1;have c0:=B.c0;have G8:=B.lt;have E4:=aa E;have B8:=j.deep;obtain⟨B1,B2,B3,B4⟩:=j.last.free;have C3:=j.sub b L;have C5:yH (∀(t1:Nd) (n1:Nat) (w2:World),n1<=l->oO i d bl (f.drop n)=some (t1,f.drop n1)->t1.read->aA t1 d->At w2 t1 (fun x=>Sc x\/wr.heap.size<=x) (ptr b)->bO Sc wr w2->
    (db w2 w.heap.size (qA b) (ae r2) d bl/\db w2 (w.heap.size+1) P (ae O) I H)/\
    yC 72 #[gV #[pV (qA b),sV (ae r2),i6 (d:Int),bV bl]] (cJ w2 (w.heap.size+1) (qA b) r2 d bl) fun e w4=>∃k S',e=rV (gV #[pV k,sV (ae (ay t1 r2 d).2.1),i6 ((ay t1 r2 d).2.2.1:Int),bV (ay t1 r2 d).2.2.2])/\db w4 w.heap.size (qA b) (ae r2) d bl/\yH (sX w (fun x=>S x/\x<w.heap.size) w.heap.size (w.heap.size+1) f R v (cJ w4 w.heap.size k (ay t1 r2 d).2.1 (ay t1 r2 d).2.2.1 (ay t1 r2 d).2.2.2) (ay t1 r2 d).1 S' k (ay t1 r2 d).2.1 (ay t1 r2 d).2.2.1 (ay t1 r2 d).2.2.2 n1 (qA b) r2 d bl (t1.at r2))):=by
    intro t1 n1 w2 G1 G4 D8 F5 C6 B6;have y:=HW.o;rw[A9.o] at y;have k1:w2.heap[w.heap.size]? =wr.heap[w.heap.size]? :=B6.block _ B9 fun h=>(y.sub _ h).2.2.1 rfl
    have k2:w2.heap[w.heap.size+1]? =wr.heap[w.heap.size+1]? :=B6.block _ C0 fun h=>(y.sub _ h).2.2.2 rfl
    refine⟨⟨y.here.kept k1,y.last.kept k2⟩,?_⟩;refine(Rs _ (kJ wr w2 Sc) t1 b r2 d bl (Is y C6) F5 D8 y.mx y.deep).mono ?_;rintro e w4 ⟨k,S',rfl,hN,F4⟩;obtain⟨s,F8⟩:=Ry y E4.o (by omega) (Ug _) (by omega) (by rw[<-U.o];exact G1) G4 D8 C6 B6 hN F4;exact⟨k,S',rfl,s,F8⟩
   by_cases A:i.read
   ·have A4:((i.kind:Int) == 0)=false:=by cases i<;>first|exact A.elim|rfl
    obtain⟨⟨A3,N⟩,A2⟩:=C5.o i n wr D5 (by cases i<;>first|exact A.elim|rfl) A j.ok (j.at_.mono fun x C=>.inl C) (bO.refl _ _);have Y:=aa A2;generalize ay i r2 d=WP at*;generalize (i.kind:Int)=KD at*;clear j A3 N A2 A1 E A7 M L B A B8 C3;unfold cJ at Y;go_wp2_with fail
    refine Y.m ?_;rintro e w4 ⟨k,S',rfl,s,Q⟩;obtain⟨x0,x1,x2,x3⟩:=s.cells;obtain⟨y0,y1,y2,y3⟩:=s.free;have G6:=s.lt;clear s a0 a1 a2 a3 b0 b1 b2 b3 B1 B2 B3 B4 B9 C0;go_wp2
    go_roundg v
    case measure=>have:=A9.o;omega
    case rel=>exact⟨_,S',k,_,_,_,n,_,_,_,_,_,rfl,D5,Q⟩
   ·obtain⟨h0,rfl⟩:∃h0,i=.unread h0:=by
     cases i with
     |nil=>exact absurd rfl E
     |unread h0=>exact⟨h0,rfl⟩
     |leaf _ _ _=>exact absurd trivial A
     |ext _ _ _=>exact absurd trivial A
     |branch _ _ _=>exact absurd trivial A
    have A4:(((Nd.unread h0).kind:Nat):Int)=0:=rfl;rw[A4] at c0;have C1:(Nd.unread h0).isNil≠true:=fun h=>by cases h
    have A6:R=yx (fun t1 q=>jo v (ay t1 r2 d).1 (ay t1 r2 d).2.1 (ay t1 r2 d).2.2.1 (ay t1 r2 d).2.2.2 q (t1.at r2)) (oO (.unread h0) d bl (f.drop n)):=by
     rw[j.res,A1];show(if(Nd.unread h0).isNil=true then _ else _)=_;rw[Ui C1]
    by_cases D6:n<l
    ·have C2:n<f.length:=by rw[<-U.o];exact D6
     obtain⟨p,hp⟩:∃p,f[n]? =some p:=⟨f[n],Uh C2⟩
     have D3:f.drop n=p::f.drop (n+1):=by
      rw[UZ C2];congr 1;exact Option.some.inj ((Uh C2).symm.trans hp)
     obtain⟨g,o,rfl,B7⟩:=(HP.o wr G.o).at_ n p hp;have H0:g<wr.heap.size:=UE wr _ B7;have D7:p.size<=maxLen:=HZ.o p (UQ hp);have D0:=HT.o.nL G.o HS.o;have B0:bU wr b (.unread h0) cN (fun _=>cN):=by
      obtain⟨b',e,_,B'⟩:=j.at_;cases e;exact B'
     obtain⟨X,K⟩:=yX (gS h0 p.data.toList d bl)
     have G7:=aa K;have E5:yH (yC 115 #[pV (qA b),sV p,i6 (d:Int),bV bl] wr.drew fun e w'=>∃z:Int,e=rV (i6 z)/\yH (qO wr b X (rV (i6 z)) w')):=(Eu wr.drew h0 b p d bl B0 D7 (by omega) (D0.below ((Un _ _).drew))).mono fun e w' hq=>by
      rw[<-K] at hq;cases X with
      |error c=>obtain⟨h1,h2⟩:=hq;exact⟨c,h1,rfl,⟨h2.os,h2.tape,h2.output,h2.size,h2.block⟩⟩
      |ok m=>obtain⟨h1,h2,h3⟩:=hq;exact⟨0,h1,rfl,h2,⟨h3.os,h3.tape,h3.output,h3.size,h3.block⟩⟩
     have A8:oO (.unread h0) d bl (f.drop n)=(match gS h0 p.data.toList d bl with| .error _=>none| .ok n2=>some (n2,f.drop (n+1))):=by rw[D3];rfl
     have H2:((n:Int) == (l:Int))=false:=by rw[Vd];omega
     have D4:(n:Int)<(l:Int):=by omega
     rw[<-K] at A8;have E3:yH (∀J,X=.error J->R=none/\((J:Int) != 0)=true):=fun J hX=>by
      refine⟨by rw[A6,A8,hX];rfl,?_⟩;have:=Ex (K.symm.trans hX);simp;omega
     have E2:yH (∀n2,X=.ok n2->∀w2,At w2 n2 (fun x=>x=b\/wr.heap.size<=x) (ptr b)->Kept b wr w2->(db w2 w.heap.size (qA b) (ae r2) d bl/\db w2 (w.heap.size+1) P (ae O) I H)/\
      yC 72 #[gV #[pV (qA b),sV (ae r2),i6 (d:Int),bV bl]] (cJ w2 (w.heap.size+1) (qA b) r2 d bl) fun e w4=>∃k S',e=rV (gV #[pV k,sV (ae (ay n2 r2 d).2.1),i6 ((ay n2 r2 d).2.2.1:Int),bV (ay n2 r2 d).2.2.2])/\db w4 w.heap.size (qA b) (ae r2) d bl/\yH (sX w (fun x=>S x/\x<w.heap.size) w.heap.size (w.heap.size+1) f R v (cJ w4 w.heap.size k (ay n2 r2 d).2.1 (ay n2 r2 d).2.2.1 (ay n2 r2 d).2.2.2) (ay n2 r2 d).1 S' k (ay n2 r2 d).2.1 (ay n2 r2 d).2.2.1 (ay n2 r2 d).2.2.2 (n+1) (qA b) r2 d bl (n2.at r2))):=fun n2 hX w2 F3 F7=>by
      obtain⟨F6,G3,_⟩:=oT (K.symm.trans hX);exact C5.o n2 (n+1) w2 (by omega) (by rw[A8,hX]) G3 F6 (F3.mono fun x C=>C.imp (fun e=>by rw[e];exact L) id) ((bO.Fl F7).mono fun x C=>by rw[C];exact L)
     clear j A6 A8 D3 hp D7 D0 B0 B M L E A7 A A4 C1 A1 B8 C3 b0 b1 b2 b3 B1 B2 B3 B4 K;go_upto_region 7 with fail
     go_cut [8] from 10 to 40 (fun rr wx=>∃z:Int,rr=i6 z/\yH (qO wr b X (rV (i6 z)) wx))
     case first=>
      clear HW;go_region_with (go_at_call 115;refine E5.m ?_;rintro e2 w2 ⟨z2,rfl,F⟩)
      all_goals
       go_wp2
       go_meet
       exact⟨z2,rfl,F⟩
     case rest=>
      obtain⟨z,rfl,F⟩:=hcut;cases X with
      |error J=>
       obtain⟨D,D2⟩:=F.o;have C4:z=(J:Int):=by injection D with D;injection D
       subst C4;obtain⟨C9,G9⟩:=E3.o J rfl;have Z:=aa C9;have Q:=aa (G.o.kU D2);clear C9 D D2 F a0 a1 a2 a3 c0 B7;go_wp2
       go_ret2
       rw[Z.o];exact⟨rfl,Q.o⟩
      |ok n2=>
       obtain⟨D,C7,C8⟩:=F.o;have C4:z=0:=by injection D with D;injection D
       subst C4;obtain⟨⟨A3,N⟩,A2⟩:=E2.o n2 rfl wc C7 C8;clear D C7 C8 F;generalize ay n2 r2 d=WP at*;have Y:=aa A2;obtain⟨e0,e1,e2,e3⟩:=A3.cells;obtain⟨f0,f1,f2,f3⟩:=N.cells;obtain⟨E9,F0,F1,F2⟩:=N.free;have F9:=A3.lt;have G0:=N.lt;have H1:(n:Int)<1000:=by omega
       clear A3 N A2 a0 a1 a2 a3 c0 B7 B9 C0;unfold cJ at Y;go_wp2_with fail
       refine Y.m ?_;rintro e w4 ⟨k,S',rfl,s,Q⟩;obtain⟨x0,x1,x2,x3⟩:=s.cells;obtain⟨y0,y1,y2,y3⟩:=s.free;have G6:=s.lt;clear s e0 e1 e2 e3 f0 f1 f2 f3 E9 F0 F1 F2 F9 G0;go_wp2
       go_roundg v
       case measure=>have:=A9.o;omega
       case rel=>exact⟨_,S',k,_,_,_,n+1,_,_,_,_,_,by go_num,by omega,Q⟩
    ·obtain rfl:n=l:=by omega
     have Z:yH (R=none):=by
      show _=_;rw[A6];have:f.drop n=[]:=List.eq_nil_of_length_eq_zero (by rw[Uu,<-U.o];omega);rw[this];rfl
     clear j A6 B M L E A7 A A4 C1 A1 B8 C3 b0 b1 b2 b3 B1 B2 B3 B4;go_wp2
     go_ret2
     rw[Z.o];exact⟨rfl,G.o⟩
def jO(b key:yB)(a:List yB):Value:=
 if b.size≠32 then tV #[sV ⟨#[]⟩,iV .i64 2]
 else if 40<key.size\/kC a=true then tV #[sV ⟨#[]⟩,iV .i64 1]
 else rF (jo 81 (bP b.data.toList) (aD key) 0 false a [])
def qZ{r:yL}(h:r.length=32):aA (bP r) 0:=by
 unfold bP;split
 ·exact mE 0
 ·exact⟨trivial,trivial,by show 0<=80;omega,h⟩
def OQ(x:Option yL):∃s c,rF x=tV #[sV s,i6 c]:=by
 cases x with
 |none=>exact⟨_,_,rfl⟩
 |some v=>exact⟨_,_,rfl⟩
def BK(w)(d key:yB)(a)(cap:Nat)(b:List yB)(k:gQ w (lV a b.length cap) b)(q:b.length<=maxLen)(hs:∀p∈b,p.size<=maxLen)(R:key.size<=maxLen)(T:aB w):
 yC 84 #[sV d,sV key,lV a b.length cap] w fun e w'=>e=rV (jO d key b)/\yW w w':=by
 unfold maxLen at R;by_cases h32:d.size=32
 ·by_cases h40:40<key.size
  ·have j:yH (jO d key b=tV #[sV ⟨#[]⟩,i6 1]):=by show _=_;unfold jO;rw[Ui (by omega),Uj (.inl h40)]
   have F:((d.size:Int) != 32)=false:=by rw[h32];rfl
   have S:(40:Int)<(key.size:Int):=by omega
   clear k q hs T h32 h40;generalize jO d key b=X at*;generalize b.length=N at*;go_enter func84,ntmps84
   go_wp2
   go_ret2
   rw[j.o];exact⟨rfl,Un _ _⟩
  ·have r:=aa (Lx w _ b k q hs);have F:((d.size:Int) != 32)=false:=by rw[h32];rfl
   have S:decide ((40:Int)<(key.size:Int))=false:=by simp;omega
   cases hlb:kC b with
   |true=>
    rw[hlb] at r;have j:yH (jO d key b=tV #[sV ⟨#[]⟩,i6 1]):=by show _=_;unfold jO;rw[Ui (by omega),Uj (.inr hlb)]
    clear k q hs T h32 h40 hlb;generalize jO d key b=X at*;generalize b.length=N at*;go_enter func84,ntmps84
    go_wp2_with fail
    refine r.m ?_;rintro e w1 ⟨rfl,z⟩;subst z;go_wp2
    go_ret2
    rw[j.o];exact⟨rfl,Un _ _⟩
   |false=>
    rw[hlb] at r;have h96:b.length<=96:=by
     unfold kC at hlb;have:decide (96<b.length)=false:=by
      cases hd:decide (96<b.length) with
      |true=>rw[hd] at hlb;cases hlb
      |false=>rfl
     simpa using this
    have E:d.data.toList.length=32:=by simpa using h32
    have L:yH (yC 28 #[sV d] w (Made w (fun _=>False) (bP d.data.toList))):=by
     have:=CQ w d.data.toList T;rw[gA] at this;exact this
    have K:yH (∀(u:Option Addr) (W:World),yC 38 #[pV u,sV key] W fun e w'=>e=rV (gV #[pV u,sV (ae (aD key)),i6 0,bV false])/\yW W w'):=fun u W=>vJ u key (by omega) W
    have J:yH (∀n u,At n (bP d.data.toList) (fun x=>False\/w.heap.size<=x) (pV u)->yW w n->yC 123 #[gV #[pV u,sV (ae (aD key)),i6 0,bV false],lV a b.length cap] n fun e w'=>∃s c,e=rV (tV #[sV s,i6 c])/\yH (tV #[sV s,i6 c]=rF (jo 81 (bP d.data.toList) (aD key) 0 false b [])/\yW w w')):=fun n u O f=>by
     refine(Rx n u (bP d.data.toList) _ (aD key) a cap b O (qZ E) (b8 key) (by rw[g6];omega) (T.below f) (fun x m=>?_) (fun W P=>?_) hs h96).mono fun e w' l=>?_
     ·have:=T.size;rcases m with h|h
      ·exact h.elim
      ·omega
     ·obtain⟨a',M,h1,h2⟩:=k;refine⟨a',M,h1,h2.imp id fun⟨g,o,h3,h4⟩=>⟨g,o,h3,fun i p U=>?_⟩⟩;have D:=h4 i p U;have y:=UE w _ D;have Q:W.heap[g]? =w.heap[g]? :=(P.block g (Us y f.size) fun m=>by
       rcases m with h|h
       ·exact h.elim
       ·exact absurd y (VK.2 h)).trans (f.block g y)
      exact(Uz (a:=⟨g,o+i,none⟩) Q).trans D
     ·obtain⟨s,c,G⟩:=OQ (jo 81 (bP d.data.toList) (aD key) 0 false b []);refine⟨s,c,by rw[l.1,G],G.symm,⟨l.2.os.trans f.os,l.2.tape.trans f.tape,l.2.output.trans f.output,Ut f.size l.2.size,fun x m=>?_⟩⟩;rw[l.2.block x (Us m f.size) fun h=>?_]
      ·exact f.block x m
      ·rcases h with h|h
       ·exact h.elim
       ·omega
    have j:yH (jO d key b=rF (jo 81 (bP d.data.toList) (aD key) 0 false b [])):=by
     show _=_;unfold jO;rw[Ui (by omega),Ui];rintro (h|h)
     ·exact h40 h
     ·rw[hlb] at h;cases h
    clear k q hs T h32 h40 hlb h96 E;generalize jO d key b=X at*;generalize jo 81 (bP d.data.toList) (aD key) 0 false b []=FO at*;generalize bP d.data.toList=TP at*;generalize ae (aD key)=KP at*;generalize b.length=N at*;go_enter func84,ntmps84
    go_wp2_with fail
    refine r.m ?_;rintro e w1 ⟨rfl,z⟩;subst z;go_wp2_with fail
    refine L.m ?_;rintro e w2 ⟨u2,rfl,B,C⟩;have v:yH (At w2 TP (fun x=>False\/w1.heap.size<=x) (pV u2)/\yW w1 w2):=⟨B,C⟩
    clear B C;go_wp2_with fail
    refine(K.o u2 _).mono ?_;rintro e w3 ⟨rfl,t⟩;have H:=v.o.2.size;have I:yH (∀o,yC 123 #[gV #[pV u2,sV KP,i6 0,bV false],lV a N cap] (w3.alloc o) fun e w'=>∃s c,e=rV (tV #[sV s,i6 c])/\yH (tV #[sV s,i6 c]=rF FO/\yW w1 w')):=fun o=>J.o _ u2 ((v.o.1.below t).below ((Un _ _).alloc (Ug _) _)) ((v.o.2.trans (t.mono H)).alloc (by have:=t.size;omega) _)
    clear t H;go_wp2_with fail
    refine(I.o _).mono ?_;rintro e w4 ⟨s4,c4,rfl,A⟩;go_wp2
    go_ret2
    rw[j.o,<-A.o.1];exact⟨rfl,A.o.2⟩
 ·have j:yH (jO d key b=tV #[sV ⟨#[]⟩,i6 2]):=by show _=_;unfold jO;rw[Uj h32]
  have F:((d.size:Int) != 32)=true:=by simp;omega
  clear k q hs T h32;generalize jO d key b=X at*;generalize b.length=N at*;go_enter func84,ntmps84
  go_wp2
  go_ret2
  rw[j.o];exact⟨rfl,Un _ _⟩
end Go.Proofs.YthpclfdpbmehgaaGreatDoor
