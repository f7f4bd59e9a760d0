import Derived.Test.YteaodagofkcgbaaGreatDoorS
open Go.Proofs.Tryz
open Go.Proofs.Tryz renaming prog→yP
open Go.Value renaming string→sV,pointer→pV,int→iV,slice→lV,bool→bV,tuple→tV,agg→gV
open Go.Ending renaming returned→rV
namespace Go.Proofs.YteaodagofkcgbaaGreatDoor
open Go.RowKit
set_option maxRecDepth 100000
set_option maxHeartbeats 0
set_option linter.all false
def zV(P:yL->Bool)(t)(a b:Bool):(aW t a).countP P<=(aW t b).countP P+1:=by
 cases t with
 |nil=>exact UD _
 |unread _=>exact UD _
 |leaf h p v=>exact Ut (qe P _ _) (Nat.le_add_left _ _)
 |ext h p k=>have h1:=nZ P h p k a;have h2:=nZ P h p k b;omega
 |branch h v ks=>
  have h1:∀c,(aW (.branch h v ks) c).countP P=((List.range 16).flatMap λi=>aW (ks i) false).countP P+(iD (Nd.branch h v ks).code c).countP P:=λc=>by
   show((List.range 16).flatMap (λi=>aW (ks i) false)++iD (Nd.branch h v ks).code c).countP P=_;rw[VP]
  have:=h1 a;have:=h1 b;have:=qe P (Nd.branch h v ks).code a;omega
def tZ(P:yL->Bool)(q k)(a:Bool):(aW (gm q k) a).countP P<=(aW k false).countP P+1:=(nZ P _ q k a).2
def rL(P:yL->Bool)(q v)(a:Bool):(aW (dw q v) a).countP P<=1:=qe P _ _
def ua(P:yL->Bool)(ks:Nat->Nd)(v)(a:Bool):(aW (dN ks v) a).countP P<=((List.range 16).flatMap λi=>aW (ks i) false).countP P+1:=by
 have h1:(aW (dN ks v) a).countP P=((List.range 16).flatMap λi=>aW (ks i) false).countP P+(iD (dN ks v).code a).countP P:=by
  show((List.range 16).flatMap (λi=>aW (ks i) false)++iD (dN ks v).code a).countP P=_;rw[VP]
 have:=qe P (dN ks v).code a;omega
def zW(P:yL->Bool)(h v)(ks:Nat->Nd)(a:Bool):((List.range 16).flatMap λi=>aW (ks i) false).countP P<=(aW (.branch h v ks) a).countP P:=by
 show _<=((List.range 16).flatMap (λi=>aW (ks i) false)++iD (Nd.branch h v ks).code a).countP P;rw[VP];omega
def wP(P:yL->Bool)(p k)(b:Bool):(aW (aX p k) b).countP P<=(aW k false).countP P+1:=by
 by_cases a:p=[]
 .subst a;rw[mG];exact zV P k b false
 cases k with
 |nil=>simp only[aX,Ui a];exact tZ P p .nil b
 |unread h=>simp only[aX,Ui a];exact tZ P p (.unread h) b
 |leaf h q v=>simp only[aX,Ui a];exact Ut (rL P _ _ _) (Nat.le_add_left _ _)
 |ext h q k=>simp only[aX,Ui a];have h1:=tZ P (p++q) k b;have h2:=nZ P h q k false;omega
 |branch h v ks=>simp only[aX,Ui a];exact tZ P p (.branch h v ks) b
def PI(P:yL->Bool)(n p):(aW (gJ n p) false).countP P<=(aW n false).countP P+1:=by
 cases n with
 |leaf h q v=>exact Ut (rL P _ _ _) (Nat.le_add_left _ _)
 |ext h q k=>have h1:=wP P p k false;have h2:=nZ P h q k false;show(aW (aX p k) false).countP P<=_;omega
 | _=>exact Nat.le_succ _
def Iw(P:yL->Bool)(ks:Nat->Nd)(c:Nat)(k):((List.range 16).flatMap λi=>aW (aJ ks c k i) false).countP P<=((List.range 16).flatMap λi=>aW (ks i) false).countP P+(aW k false).countP P:=by
 have h:=uD P ks c k 16;by_cases a:c<16
 .rw[Uj a,Uj a] at h;omega
 rw[Ui a,Ui a] at h;omega
def FH(P:yL->Bool)(n p v)(s:Nat)(a:Bool):(aW (gi n p v s) a).countP P<=(aW n false).countP P+4:=by
 have b:((List.range 16).flatMap λi=>aW (dX n s i) false).countP P<=(aW n false).countP P+1:=by
  unfold dX;have d:((List.range 16).flatMap λ_=>aW Nd.nil false).countP P=0:=congrArg (List.countP P) (AX (f:=λ_=>aW Nd.nil false) 16 λ_ _=>rfl);split
  .have h1:=Iw P (λ_=>.nil) (n.path.getD s 0).toNat (gJ n (n.path.drop (s+1)));have h2:=PI P n (n.path.drop (s+1));omega
  show((List.range 16).flatMap λ_=>aW Nd.nil false).countP P<=_;omega
 have c:((List.range 16).flatMap λi=>aW (dF n p v s i) false).countP P<=(aW n false).countP P+2:=by
  unfold dF;split
  .have h1:=Iw P (dX n s) (p.getD s 0).toNat (dw (p.drop (s+1)) v);have h2:=rL P (p.drop (s+1)) v false;omega
  omega
 have h1:=wP P (p.take s) (dN (dF n p v s) (fy n p v s)) a;have h2:=ua P (dF n p v s) (fy n p v s) false;show(aW (aX _ _) a).countP P<=_;omega
def FG(P:yL->Bool):∀(t) (p v) (a:Bool),mP t->aw p->(aW (bR t p v) a).countP P<=(aW t a).countP P+p.length+5:=by
 intro t;induction t with
 |nil=>intro p v a _ _;have:=rL P p v a;show(aW (dw p v) a).countP P<=_;omega
 |unread h=>intro p v a _ _;show(aW (.unread h) a).countP P<=_;omega
 |leaf h q x=>
  intro p v a _ _;simp only[bR];split
  .have:=rL P p v a;omega
  have h1:=FH P (.leaf h q x) p v (aF q p) a;have h2:=zV P (.leaf h q x) false a;omega
 |ext h q k ih=>
  intro p v a b d;simp only[bR];split
  .next hs=>
   have f:=(iN q p).2;rw[hs] at f;have i:q.length≠0:=λh=>b.1 (UH.1 h)
   have h1:=ih (p.drop q.length) v false b.2.2 (da d _);have h2:=tZ P q (bR k (p.drop q.length) v) a;have h3:=nZ P h q k a;rw[Uu] at h1;omega
  have h1:=FH P (.ext h q k) p v (aF q p) a;have h2:=zV P (.ext h q k) false a;omega
 |branch h x ks ih=>
  intro p v a b d;cases p with
  |nil=>have h1:=ua P ks v a;have h2:=zW P h x ks a;show(aW (dN ks v) a).countP P<=_;omega
  |cons c r=>
   have e:=d c (Uk ..);have h1:=ih c.toNat r v false (b _ e) λy g=>d y (Ul _ g)
   have h2:=ua P (aJ ks c.toNat (bR (ks c.toNat) r v)) x a;have h3:=uD P ks c.toNat (bR (ks c.toNat) r v) 16;rw[Uj e,Uj e] at h3;have h4:=zW P h x ks a;show(aW (dN (aJ ks c.toNat (bR (ks c.toNat) r v)) x) a).countP P<=_;simp only[UJ];omega
def Iy(P:yL->Bool)(ks:Nat->Nd)(i:Nat):∀n,i<n->(aW (ks i) false).countP P<=((List.range n).flatMap λi=>aW (ks i) false).countP P
 | 0,h=>by omega
 |n+1,h=>by
  simp only[List.range_succ,List.flatMap_append,VP,List.flatMap_cons,List.flatMap_nil,UU]
  by_cases e:i=n
  .subst e;omega
  have:=Iy P ks i n (by omega);omega
def FI(P:yL->Bool){G ks v dep b}(h:cd G ks v dep=.ok b)(a:Bool):(aW b a).countP P<=((List.range 16).flatMap λi=>aW (ks i) false).countP P+2:=by
 unfold cd at h;split at h
 .cases h;have:=rL P [] v a;omega
 next h0=>
 split at h
 .cases h;have:=ua P ks v a;omega
 have d:=(nt ks 16 (by omega)).1;cases hr:dG G (ks (dx ks 16)) (dep+1) false with
 |error c=>rw[hr] at h;cases h
 |ok n=>rw[hr] at h;cases h;have h1:=wP P [UInt8.ofNat (dx ks 16)] n a;have h2:=FJ P hr false;have h3:=Iy P ks (dx ks 16) 16 d;omega
def FN(P:yL->Bool)(G:yB->Option yB):∀(t) (p) (dep:Nat) (b:Bool) (a),aA t dep->bK t->dD t p->jL t p->aw p->dep+p.length<=80->bI G t p dep=.ok a->(aW a b).countP P<=(aW t b).countP P+p.length+4:=by
 intro t;induction t with
 |nil=>intro p dep b a _ _ _ h;exact h.elim
 |unread _=>intro p dep b a _ _ _ h;exact h.elim
 |leaf h0 q v=>intro p dep b a _ _ _ _ _ _ h;cases h;exact UD _
 |ext h0 q k ih=>
  intro p dep b a e j o i n s h;let⟨w,i⟩:=i;have d:lH q (bI G k (p.drop q.length) (dep+q.length))=.ok a:=h;have E:=(iN q p).2;rw[w] at E;have J:q.length≠0:=λh=>e.bB.1 (UH.1 h)
  cases hk:bI G k (p.drop q.length) (dep+q.length) with
  |error c=>rw[hk] at d;cases d
  |ok k'=>rw[hk] at d;cases d;have h1:=ih _ _ false k' (fq e) (cW.loose j) (o w) i (da n _) (by rw[Uu];omega) hk;have h2:=wP P q k' b;have h3:=nZ P h0 q k b;rw[Uu] at h1;omega
 |branch h0 v ks ih=>
  intro p dep b a e j o i n s h;have I:=zW P h0 v ks b;cases p with
  |nil=>have h1:=FI P (show cd G ks [] dep=.ok a from h) b;omega
  |cons c r=>
   have f:c.toNat<16:=n c (Uk ..);have u:aw r:=λy H=>n y (Ul _ H)
   have g:jL (ks c.toNat) r:=i;have d:pU (λk=>cd G (aJ ks c.toNat k) v dep) (bI G (ks c.toNat) r (dep+1))=.ok a:=h;simp only[UJ] at s⊢;cases hk:bI G (ks c.toNat) r (dep+1) with
   |error c=>rw[hk] at d;cases d
   |ok k'=>
    rw[hk] at d;have h1:=ih _ r (dep+1) false k' (dA e _ f) (j _ f).loose o g u (by omega) hk;have h3:=uD P ks c.toNat k' 16;rw[Uj f,Uj f] at h3;by_cases m:(ks c.toNat).kind=1
    .have B:k'=.nil:=by
      cases hkc:ks c.toNat with
      |leaf x q y=>rw[hkc] at hk;cases hk;rfl
      | _=>rw[hkc] at m;cases m
     subst B;have h2:=FI P (show cd G (aJ ks c.toNat .nil) v dep=.ok a from d) b;have h4:(aW Nd.nil false).countP P=0:=rfl;omega
    have hs:(ks c.toNat).some:=by
     cases hkc:ks c.toNat with
     |nil=>rw[hkc] at g;exact g.elim
     | _=>trivial
    have C:(ks c.toNat).kind=2\/(ks c.toNat).kind=3:=by
     cases hkc:ks c.toNat<;>rw[hkc] at g m<;>first|exact g.elim|exact absurd rfl m|exact .inl rfl|exact .inr rfl
    have D:=uo (dA e _ f) (j _ f).loose o g u (by omega) C hk;have A:=e.full.1;have l:2<=dj v (aJ ks c.toNat k') 16:=by
     rw[xh v ks c.toNat k' (by rw[(gM _).2 D,(gM _).2 hs])];exact A
    rw[oh] at l;have F:a=dN (aJ ks c.toNat k') v:=by
     have h5:cd G (aJ ks c.toNat k') v dep=.ok a:=d;unfold cd at h5;rw[Ui (λh=>by rw[h] at l;split at l<;>omega),Uj] at h5
     .cases h5;rfl
     by_cases z:v=[]
     .rw[Uj z] at l;exact .inl (by omega)
     exact .inr z
    have h2:=ua P (aJ ks c.toNat k') v b;rw[F];omega
def Fits(a:List (yB×yB))(l:List yL):Prop:=∀l',(∀c∈l',c∈l)->(aT a l').length<4000000000000
def Fits.next{d l a b}(h:Fits d l)(e:∀c∈a,c∈l)(f:∀c∈b,c∈l):Fits (aT d a) b:=λl' i=>by
 rw[<-wX]
 exact h _ λc g=>(UA.1 g).elim (e c) λh=>f c (i c h)
def Ji{t}(a:aO t)(b:t.read):mR t:=by
 cases t with
 |nil=>exact b.elim
 |unread _=>exact b.elim
 |leaf h p v=>exact ov h p v a.2.2.1 a.2.2.2
 |ext h p k=>exact uN h p k a.2.2.1 a.2.2.2.2
 |branch h v ks=>exact sq h v ks a.2.1 a.2.2
def qR(t:Nd):Prop:=∀(base:Nat) (w:World) (d sb:Nat) (u0 u:Option Addr) (a:Nat->Value) (c:List (yB×yB)) (S:Nat->Prop) (b:Bool),
 fF w d (qA sb) u0->At w t S (pV u)->aO t->bK t->(b=false->cW t)->gG base w sb a c->¬cy sb a d->(∀x,S x->¬cy sb a x)->(∀k,cy sb a k->3<=k)->base<=w.heap.size->3<=base->aB w->Fits c (cf t b)->
 yC 81 #[pV (qA d),pV u,bV b] w λe w'=>e=rV (tV #[])/\dP base w w' sb a (aT c (cf t b))
def uq:qR .nil:=by
 intro base w g sb u0 u f d S e _ a _ _ _ b _ _ _ _ _ _ _;have h2:=a;injection h2 with h3;subst h3;have c:=aa (dP.refl b);clear a b;go_enter func81,ntmps81
 go_wp2;(try simp only[Exit.inBlock,Exit.then])
 refine UB (results_none rfl _ _ _) rfl ?_;exact⟨rfl,c.o⟩
def Qo(h):qR (.unread h):=by
 intro base w j sb u0 u i f S g _ d _ _ _ a _ _ _ _ _ _ _;obtain⟨b,e,hs,B⟩:=d;have h2:=e;injection h2 with h3;subst h3;have c:=aa (dP.refl a);have c0:=B.c0;clear a B e hs;go_enter func81,ntmps81
 go_wp2;(try simp only[Exit.inBlock,Exit.then])
 refine UB (results_none rfl _ _ _) rfl ?_;exact⟨rfl,c.o⟩
def Dk{base w w' b d f}(T:aB w)(h:dP base w w' b d f)(h3:∀k,cy b d k->3<=k):aB w':=by
 let⟨_,_,_,k⟩:=h;have hs:=T.size;have c:∀x,x<3->w'.heap[x]? =w.heap[x]? :=λx g=>k.block x (by omega) λe=>by have:=h3 x e;omega
 exact⟨Ut hs k.size,λj a=>(Uz (w:=w) (c 0 (by omega))).trans (T.words j a),λj a=>(Uz (w:=w) (c 1 (by omega))).trans (T.turns j a),λj a=>(Uz (w:=w) (c 2 (by omega))).trans (T.ud j a)⟩
def Gq{k}(D:qR k){base:Nat}{w w1:World}{a sb:Nat}{u0 i:Option Addr}{f:Nat->Value}{g:List (yB×yB)}{S j:Nat->Prop}(l:fF w a (qA sb) u0) (t:At w k j (pV i)) (n:∀x,j x->S x) (v:aO k) (o:cW k) (r:¬cy sb f a) (m:∀x,S x->¬cy sb f x) (h3:∀q,cy sb f q->3<=q) (y:3<=base) (F:base<=w.heap.size) (T:aB w)(b:dP base w w1 sb f g) (B:Fits g (cf k false)):yC 81 #[pV (qA a),pV i,bV false] w1 λe w'=>e=rV (tV #[])/\dP base w w' sb f (aT g (cf k false)):=by
 have s:=Dk T b h3;have A:=b.kept a l.lt r;have u:At w1 k (λx=>j x/\x<w.heap.size) (pV i):=t.cut.kept λx d _=>b.kept x d.2 (m x (n x d.1))
 have G:=b.size;let⟨E,q1,q2,q3⟩:=b;refine(D base w1 a sb u0 i E g _ false (l.kept A) u v o.loose (λ_=>o) q1 (Fs q2 l.lt r) (λx d=>Fs q2 d.2 (m x (n x d.1))) (λq C=>?_) (by omega) y s B).mono λe w'⟨h1,h2⟩=>⟨h1,dP.trans q1 q2 q3 h2⟩
 rcases C with rfl|⟨c,p,z⟩
 .exact h3 q (.inl rfl)
 rcases q2 c p q z with h|h
 .exact h3 q (.inr ⟨c,p,h⟩)
 omega
def Ak(t:Nd)(n:t.read)(C4:qR t.pg)(C5:∀i,i<16->qR (t.qt i)):qR t:=by
 intro base w s sb u0 u m q S l I hA D hL A3 hP Q H h3 A6 A5 T R;obtain⟨b,W,U,S0,Ss,rfl,B6,B,C2,C3,B4,B5⟩:=hA.Tv n;have A1:aO t.pg/\cW t.pg:=by
  cases t with
  |ext h p k=>exact⟨D.2.2.2.2,hL⟩
  | _=>exact⟨trivial,trivial⟩
 have A2:∀i,i<16->aO (t.qt i)/\cW (t.qt i):=λi hi=>by
  cases t with
  |branch h v ks=>exact⟨D.2.2 i hi,hL i hi⟩
  | _=>exact⟨trivial,trivial⟩
 obtain⟨f,E⟩:=yX (λi=>cf t.pg false++(List.range i).flatMap (λi=>cf (t.qt i) false));have N:∀i,f (i+1)=f i++cf (t.qt i) false:=λi=>by rw[E];simp only[List.range_succ,List.flatMap_append,List.flatMap_cons,List.flatMap_nil,UU,UI]
 have A7:=PM n l;have B7:aT q (cf t l)=aT (aT q (f 16)) (iO t.code l):=by rw[A7,wX,E]
 have J:∀d j,j+d=16->∀c∈f j,c∈cf t l:=λd=>by
  induction d with
  |zero=>intro j hj c z;rw[A7];obtain rfl:j=16:=Nat.le_antisymm (by omega) (by omega);rw[E] at z;exact UR _ z
  |succ d ih=>intro j hj c z;exact ih (j+1) (by omega) c (by rw[N];exact UR _ z)
 have C8:yH (yC 81 #[pV (qA s),pV W,bV false] w λe w'=>e=rV (tV #[])/\yH (dP base w w' sb m (aT q (f 0)))):=by
  have:=Gq C4 I B4 C2 A1.1 A1.2 Q H h3 A5 A6 T (dP.refl hP) (R.next (a:=[]) (λ_ h=>by cases h) λc z=>J 16 0 rfl c (by rw[show f 0=cf t.pg false by rw[E];simp];exact z));refine this.mono λe w'⟨h1,h2⟩=>⟨h1,?_⟩
  have h0:f 0=cf t.pg false:=by rw[E];simp
  rw[h0];exact h2
 have D0:yH (∀i,i<16->∀w1,dP base w w1 sb m (aT q (f i))->yC 81 #[pV (qA s),pV (U i),bV false] w1 λe w'=>e=rV (tV #[])/\yH (dP base w w' sb m (aT q (f (i+1))))):=λi hi w1 o=>by
  have:=Gq (C5 i hi) I (B5 i hi) (λx V=>C3 i x hi V) (A2 i hi).1 (A2 i hi).2 Q H h3 A5 A6 T o (R.next (J (16 - i) i (by omega)) λc z=>J (15 - i) (i+1) (by omega) c (by rw[N];exact UP _ z));refine this.mono λe w'⟨h1,h2⟩=>⟨h1,?_⟩
  rw[N,wX];exact h2
 have X:yH (∀w1 F,dP base w w1 sb m F->(w1.heap[b]? =w.heap[b]?/\w1.heap[s]? =w.heap[s]?)/\b<w1.heap.size):=λw1 F o=>⟨⟨o.kept b B.lt (H b B6),o.kept s I.lt Q⟩,Us B.lt o.size⟩
 have C7:yH (∀w1 F,dP base w w1 sb m F->yC 115 #[pV (qA b)] w1 λe w'=>e=rV (sV (ae t.code))/\yH (dP base w w' sb m F)):=λw1 F o=>by
  have D3:At w1 t (λx=>S x/\x<w.heap.size) (pV (qA b)):=hA.cut.kept λx V _=>o.kept x V.2 (H x V.1)
  exact(xH w1 t _ _ D3 D.lL n (Ji D n)).mono λe w'⟨h1,h2⟩=>⟨h1,o.below h2⟩
 have D4:t.code.length<=4096:=(Ji D n).2;have B2:yH (∀w1,dP base w w1 sb m (aT q (f 16))->yC 116 #[pV (qA sb),sV (ae t.code)] w1 λe w'=>(∃x y,e=rV (tV #[x,y]))/\yH (dP base w w' sb m (aT (aT q (f 16)) [t.code]))):=λw1 o=>by
  have T1:=Dk T o h3;have hz:=o.size;obtain⟨D7,q1,q2,q3⟩:=o;refine(NT base w1 sb D7 _ q1 T1 (ae t.code) (R _ (J 0 16 rfl)) (by omega)).mono λe w' hq=>?_
  rcases hq with⟨h1,_⟩|⟨_,h1,h2⟩
  .rw[aN] at h1;omega
  exact⟨⟨_,_,h1⟩,dP.trans q1 q2 q3 h2⟩
 have c0:yc w b 0 (i6 t.kind):=B.c0;have c4:yc w b 4 (pV W):=B.c4;have E0:=B.lt;have D8:((t.kind:Int) == 0)=false:=by
  cases t with
  |nil=>exact n.elim
  |unread _=>exact n.elim
  |leaf _ _ _=>rfl
  |ext _ _ _=>rfl
  |branch _ _ _=>rfl
 have C6:yH (bU w b t (pV W) (λi=>pV (U i))):=B;have A0:yH (fF w s (qA sb) u0):=I;have B8:(ae t.hash).toList.isEmpty=decide (t.hash=[]):=ke _;have C0:(l=true\/t.hash≠[])->iO t.code l=[t.code]:=λh=>by
  unfold iO;by_cases ht:l=true
  .rw[Uj (.inl ht)]
  have O:l=false:=by simpa using ht
  have h1:=(A3 O)
  have h2:t.hash=fX t.code:=by
   cases t with
   |nil=>exact n.elim
   |unread _=>exact n.elim
   |leaf _ _ _=>exact h1
   |ext _ _ _=>exact h1.1
   |branch _ _ _=>exact h1.1
  have h4:t.hash≠[]:=h.resolve_left ht;rw[h2] at h4;unfold fX at h4;split at h4
  .next h5=>rw[Uj (.inr h5)]
  exact absurd rfl h4
 have C1:l=false->t.hash=[]->iO t.code l=[]:=λO h4=>by
  have h1:=(A3 O)
  have h2:t.hash=fX t.code:=by
   cases t with
   |nil=>exact n.elim
   |unread _=>exact n.elim
   |leaf _ _ _=>exact h1
   |ext _ _ _=>exact h1.1
   |branch _ _ _=>exact h1.1
  unfold iO;rw[Ui];rintro (h|h)
  .rw[O] at h;cases h
  rw[h2] at h4;unfold fX at h4;rw[Uj h] at h4;have:=kE t.code;rw[h4] at this;cases this
 rw[B7];clear I hA D hL A3 hP Q H h3 A6 A5 T R B6 B C2 C3 B4 B5 A1 A2 E N A7 B7 J D4 C4 C5 n;generalize hHH:t.hash=HH at*;generalize hKD:(t.kind:Int)=KD at*;generalize hCC:t.code=CC at*;go_enter func81,ntmps81
 go_wp2_with fail
 apply C8.m;rintro e w1⟨rfl,D2⟩;clear c4 c0;go_wp2;go_loopg [6] 16 (λg r wr=>∃i:Nat,g=16 - i/\i<=16/\r=i6 i/\yH (dP base w wr sb m (aT q (f i))))
 .exact⟨0,rfl,by omega,rfl,D2⟩
 obtain⟨i,hg,hi,rfl,M⟩:=hrel;have HG:yH (gk=16 - i):=hg;clear hg;obtain⟨⟨A4,A8⟩,D9⟩:=X.o wr _ M.o;have L:bU wr b t (pV W) (λi=>pV (U i)):=A4.trans C6.o;have B3:fF wr s (qA sb) u0:=A0.o.kept A8;by_cases B9:i<16
 .have ck:yc wr b (5+i) (pV (U i)):=L.ck i B9;have D5:(i:Int)<16:=by omega
  have C9:yH (yC 81 #[pV (qA s),pV (U i),bV false] wr λe w'=>e=rV (tV #[])/\yH (dP base w w' sb m (aT q (f (i+1))))):=D0.o i B9 wr M.o;clear L B3 A4 A8;go_wp2_with fail
  apply C9.m;rintro e w2⟨rfl,A⟩;go_wp2;go_roundg (16 - (i+1))
  .exact⟨i+1,rfl,by omega,by go_num,A⟩
  have:=HG.o;omega
 obtain rfl:i=16:=by omega
 have c1:yc wr b 1 (sV (ae HH)):=by rw[<-hHH];exact L.c1
 have A9:yH (yC 115 #[pV (qA b)] wr λe w'=>e=rV (sV (ae CC))/\yH (dP base w w' sb m (aT q (f 16)))):=C7.o wr _ M.o;have D5:¬(16:Int)<16:=by omega
 clear L B3 A4 A8;have D1:yH (l=false->HH=[]->iO CC l=[]):=C1;have B0:yH ((l=true\/HH≠[])->iO CC l=[CC]):=C0;clear C0 C1;cases l with
 |true=>
  have G:yH (iO CC true=[CC]):=B0.o (.inl rfl);go_wp2_with fail
  apply A9.m;rintro e w2⟨rfl,A⟩;obtain⟨⟨_,K⟩,_⟩:=X.o w2 _ A.o;have C:fF w2 s (qA sb) u0:=A0.o.kept K;have t0:=C.c0;have D6:=C.lt;have Y:yH (yC 116 #[pV (qA sb),sV (ae CC)] w2 λe w'=>(∃x y,e=rV (tV #[x,y]))/\yH (dP base w w' sb m (aT (aT q (f 16)) [CC]))):=B2.o w2 A.o;clear C K;go_wp2_with fail
  apply Y.m;rintro e w3⟨⟨x,y,rfl⟩,Z⟩;go_wp2;go_end0;rw[G.o];exact⟨rfl,Z.o⟩
 |false=>
  by_cases P:HH=[]
  .have G:yH (iO CC false=[]):=D1.o rfl P;rw[Uw P] at B8;generalize ae HH=HS at*;go_wp2;go_end0;rw[G.o];exact⟨rfl,M.o⟩
  have G:yH (iO CC false=[CC]):=B0.o (.inr P);rw[Uv P] at B8;generalize ae HH=HS at*;go_wp2_with fail
  apply A9.m;rintro e w2⟨rfl,A⟩;obtain⟨⟨_,K⟩,_⟩:=X.o w2 _ A.o;have C:fF w2 s (qA sb) u0:=A0.o.kept K;have t0:=C.c0;have D6:=C.lt;have Y:yH (yC 116 #[pV (qA sb),sV (ae CC)] w2 λe w'=>(∃x y,e=rV (tV #[x,y]))/\yH (dP base w w' sb m (aT (aT q (f 16)) [CC]))):=B2.o w2 A.o;clear C K;go_wp2_with fail
  apply Y.m;rintro e w3⟨⟨x,y,rfl⟩,Z⟩;go_wp2;go_end0;rw[G.o];exact⟨rfl,Z.o⟩
def Qp(t):qR t:=by
 induction t with
 |nil=>exact uq
 |unread h=>exact Qo h
 |leaf h q v=>exact Ak _ trivial uq λ_ _=>uq
 |ext h q k ih=>exact Ak _ trivial ih λ_ _=>uq
 |branch h v ks ih=>exact Ak _ trivial uq λi _=>ih i
def Uc{base w a sb S t d f}(E:eX w a (qA sb) S t)(n:bK t)(g:gG base w sb d f)(v:¬cy sb d a)(o:∀x,S x->¬cy sb d x)(h3:∀k,cy sb d k->3<=k)(s:base<=w.heap.size)(r:3<=base)(T:aB w)(y:Fits f (cf t true)):yC 38 #[pV (qA a)] w λe w'=>e=rV (sV (ae (bQ t)))/\dP base w w' sb d (aT f (cf t true)):=by
 obtain⟨⟨u,c,i⟩,j,F⟩:=E;have D:=aa (qQ w a _ u t S c i j.aK T);have C:yH (∀W,yW w W->yC 81 #[pV (qA a),pV u,bV true] W λe w'=>e=rV (tV #[])/\yH (dP base w w' sb d (aT f (cf t true)))):=λW b=>
  (Qp t base W a sb u u d f S true (c.kept (b.block a c.lt)) (i.below b) j.aK n (λh=>by cases h) (g.kept λq m=>b.block q (g.eM q m)) v o h3 (Ut s b.size) r (T.below b) y).mono λe w'⟨h1,h2⟩=>⟨h1,dP.trans (g.kept λq m=>b.block q (g.eM q m)) (λ_ _ _ hg=>.inl hg) (aU.iP b) h2⟩
 have A:yH (∀W,yW w W->yc W a 1 (pV u)/\a<W.heap.size):=λW b=>⟨(b.cell (p:=⟨a,1,none⟩) c.lt).trans c.c1,Us c.lt b.size⟩
 clear c i j F n g v o h3 s r T y;generalize aT f (cf t true)=PS at*;generalize ae (bQ t)=R at*;go_enter func38,ntmps38
 go_wp2_with fail
 apply D.m;rintro e w1⟨rfl,l⟩;have z:=aa l;obtain⟨d1,G⟩:=A.o w1 l;clear l;go_wp2_with fail
 refine(C.o _ z.o).mono ?_;rintro e w2⟨rfl,B⟩;go_wp2;go_ret;exact⟨rfl,B.o⟩
def Rg(x:Int):Prop:=-9223372036854775808<=x/\x<=9223372036854775807
def bW(x:Int)(n:Nat):Nat:=(if x<0 then(-(x+1)).toNat else x.toNat) % n
def ky(x:Int)(n:Nat)(h:0<n):bW x n<n:=Nat.mod_lt _ h
def qq(x:Int)(n:Nat)(a:Rg x)(c:0<n)(b:n<9223372036854775808)(w:World):yC 12 #[i6 x,i6 n] w λe w'=>e=rV (i6 (bW x n))/\w'=w:=by
 have d:(n:Int)≠0:=by omega
 obtain⟨f,g⟩:=a;by_cases h0:x<0
 .have e1:IntKind.i64.wrap (x+1)=x+1:=by rw[UY];omega
  have e2:IntKind.i64.wrap (-(x+1))= -(x+1):=by rw[UY];omega
  have e0:((bW x n:Nat):Int)=(-(x+1)) % n:=by
   unfold bW;rw[Uj h0,Int.natCast_emod,Int.toNat_of_nonneg (by omega)]
  have e3:-((x+1).tmod n)=(bW x n:Int):=by
   rw[e0,<-Int.neg_tmod,Int.tmod_eq_emod_of_nonneg (by omega)]
  clear e0;generalize bW x n=r at*;go_enter func12,ntmps12
  go_wp2;go_ret;exact⟨by simp,rfl⟩
 have e0:((bW x n:Nat):Int)=x % n:=by
  unfold bW;rw[Ui h0,Int.natCast_emod,Int.toNat_of_nonneg (by omega)]
 have e3:=e0.symm;clear e0;generalize bW x n=r at*;go_enter func12,ntmps12
 go_wp2;go_ret;exact⟨by simp,rfl⟩
def mB(key value:yB):Bool:=decide (40<key.size\/160<value.size)
def wZ(key value:yB)(d:key.size<=maxLen)(f:value.size<=maxLen)(w:World):yC 31 #[sV key,sV value] w λe w'=>e=rV (bV (mB key value))/\w'=w:=by
 unfold maxLen at d f;by_cases h1:40<key.size
 .have a:yH (mB key value=true):=Uw (.inl h1);have b:(40:Int)<(key.size:Int):=by omega
  generalize mB key value=R at*;go_enter func31,ntmps31
  go_wp2;go_ret;exact⟨by rw[a.o];rfl,rfl⟩
 by_cases h2:160<value.size
 .have a:yH (mB key value=true):=Uw (.inr h2);have b:¬(40:Int)<(key.size:Int):=by omega
  have c:(160:Int)<(value.size:Int):=by omega
  generalize mB key value=R at*;go_enter func31,ntmps31
  go_wp2;go_ret;exact⟨by rw[a.o];rfl,rfl⟩
 have a:yH (mB key value=false):=Uv (by rintro (h|h);exact h1 h;exact h2 h);have b:¬(40:Int)<(key.size:Int):=by omega
 have c:¬(160:Int)<(value.size:Int):=by omega
 generalize mB key value=R at*;go_enter func31,ntmps31
 go_wp2;go_ret;exact⟨by rw[a.o];rfl,rfl⟩
def ph(w)(T:aB w):yC 10 #[] w λe w'=>e=rV (sV (ae bM))/\yW w w':=by
 have c:yH (yC 23 #[sV ⟨#[128]⟩] w λe w'=>e=rV (sV (ae bM))/\yW w w'):=by
  have h:=ja ⟨#[128]⟩ (by decide) w T;have e:ae bM=ag ⟨#[128]⟩:=by unfold bM;rw[mX];rfl
  rw[e];exact h
 clear T;generalize ae bM=R at*;go_enter func10,ntmps10
 go_wp2_with fail
 apply c.m;rintro e w1⟨rfl,a⟩;have b:=aa a;clear a;go_wp2;go_ret;exact⟨rfl,b.o⟩
def cZ:yB:=ag ⟨#[]⟩
def Aq(w)(T:aB w):yC 94 #[] w λe w'=>e=rV (sV cZ)/\yW w w':=by
 have c:yH (yC 23 #[sV ⟨#[]⟩] w λe w'=>e=rV (sV cZ)/\yW w w'):=ja ⟨#[]⟩ (by decide) w T;clear T;generalize cZ=R at*;go_enter func94,ntmps94
 go_wp2_with fail
 apply c.m;rintro e w1⟨rfl,a⟩;have b:=aa a;clear a;go_wp2;go_ret;exact⟨rfl,b.o⟩
def eH(w:World)(v:Value)(a:List (yB×yB)):Prop:=w.ownsRow 3 91 2 v a.length (fK a)
def eH.at_{w a n cap b}(h:eH w (lV a n cap) b)(k:Nat)(p:yB×yB)(c:b[k]? =some p):∃g,a=some ⟨g,0,none⟩/\g<w.heap.size/\yc w g (k*2) (sV p.1)/\yc w g (k*2+1) (sV p.2):=by
 let⟨a',d,e,_,_,f⟩:=dM h;cases e;have i:=(Ux.1 c).1;rcases f with⟨_,h0,_⟩|⟨g,rfl⟩
 .omega
 let⟨p1,p2⟩:=tQ b k p c;exact⟨g,rfl,(h.lt g rfl).2,fc h rfl _ _ p1,fc h rfl _ _ p2⟩
def eH.form{w v b}(h:eH w v b):∃a cap,v=lV a b.length cap:=by
 let⟨a,cap,e,_⟩:=dM h;exact⟨a,cap,e⟩
def eH.below{w w' v a}(h:eH w v a)(k:yW w w'):eH w' v a:=cM h λg b=>k.block g (h.lt g b).2
def eH.nil(w):eH w (lV none 0 0) []:=U8 _ _ _ _
def bD(m:List (yB×yB))(key:yB):yB:=(ah m key).getD ⟨#[]⟩
def og(w v m)(key:yB)(n:eH w v m)(G:m.length<4200000000000):yC 35 #[v,sV key] w λe w'=>e=rV (sV (bD m key))/\w'=w:=by
 obtain⟨a,cap,rfl⟩:=n.form;have x:yH (∀k (_:k<m.length),∃p q g,(a=some ⟨g,0,none⟩/\yc w g (k*2) (sV p)/\yc w g (k*2+1) (sV q))/\((p.toList == key.toList)=true->ah (m.drop k) key=some q)/\((p.toList == key.toList)=false->ah (m.drop k) key=ah (m.drop (k+1)) key)):=λk E=>by
  have o:m[k]? =some m[k]:=Uh E;obtain⟨g,e,_,c,d⟩:=n.at_ k _ o;exact⟨_,_,g,⟨e,c,d⟩,Qi m key k _ o,Qg m key k _ o⟩
 have y:yH (ah (m.drop m.length) key=none):=by show _=_;rw[List.drop_length];rfl
 have u:yH (ah m key=ah (m.drop 0) key):=by show _=_;simp
 have C:yH (∀t,ah m key=some t->bD m key=t):=λt h=>by unfold bD;rw[h];rfl
 have A:yH (ah m key=none->bD m key=⟨#[]⟩):=λh=>by unfold bD;rw[h];rfl
 clear n;generalize m.length=N at*;generalize bD m key=R at*;go_enter func35,ntmps35
 go_wp2;go_loopg [5] N (λg r wr=>∃i:Nat,g=N - i/\i<=N/\r=i6 i/\yH (ah m key=ah (m.drop i) key)/\wr=w)
 .exact⟨0,rfl,by omega,rfl,u,rfl⟩
 obtain⟨i,s,hi,rfl,f,rfl⟩:=hrel;have z:=aa s;clear s;by_cases F:i<N
 .obtain⟨p,q,g,⟨rfl,c1,c2⟩,j,l⟩:=x.o i F;have D:(i:Int)<(N:Int):=by omega
  cases hls:(p.toList == key.toList)
  .have B:=aa (f.o.trans (l hls));clear j l;go_wp2;go_roundg (N - (i+1))
   .exact⟨i+1,rfl,by omega,by go_num,B,rfl⟩
   have:=z.o;omega
  have b:=aa (C.o q (f.o.trans (j hls)));clear j l;go_wp2;go_ret;exact⟨by rw[b.o];rfl,rfl⟩
 obtain rfl:i=N:=by omega
 have D:¬(i:Int)<(i:Int):=by omega
 have b:=aa (A.o (f.o.trans y.o));go_wp2;go_ret;exact⟨by rw[b.o];rfl,rfl⟩
def Ra:(yP.info? 91).map (λi=>(i.zero,i.size,i.bytes))=some (some (gV #[sV ⟨#[]⟩,sV ⟨#[]⟩]),2,32):=by kernel_rfl
def aL(m:List (yB×yB))(key value:yB):List (yB×yB):=others m key++(if value.size=0 then [] else [(key,value)])
def An(w v m)(key value:yB)(B:eH w v m)(X:m.length<4000000000000):yC 33 #[v,sV key,sV value] w λe w'=>(∃v',e=rV v'/\w'.ownsRow w.heap.size 91 2 v' (aL m key value).length (fK (aL m key value)))/\yW w w':=by
 obtain⟨a,cap,rfl⟩:=B.form;have M:yH (∀k (_:k<m.length),∃p q g,(a=some ⟨g,0,none⟩/\yc w g (k*2) (sV p)/\yc w g (k*2+1) (sV q))/\others (m.take (k+1)) key=others (m.take k) key++(if(p.toList == key.toList) then [] else [(p,q)])):=λk l=>by
  have H:m[k]? =some m[k]:=Uh l;obtain⟨g,e,_,c,d⟩:=B.at_ k _ H;exact⟨_,_,g,⟨e,c,d⟩,OR m key k _ H⟩
 have O:yH (others (m.take m.length) key=others m key):=by show _=_;rw[VM]
 have P:yH (∀k,(others (m.take k) key).length<=k):=λk=>Ut (oW _ _) (by rw[UN];omega)
 have Q:yH ((others m key).length<=m.length):=oW _ _;have E:yH (aL m key value=others m key++(if value.size=0 then [] else [(key,value)])):=rfl;obtain⟨i0,G,J,K,L⟩:=Vp Ra;clear B;generalize m.length=N at*;generalize aL m key value=R at*;go_enter func33,ntmps33
 go_wp2;go_loopg [7,8] N (λg v r wr=>∃i:Nat,g=N - i/\i<=N/\r=i6 i/\yH (wr.ownsRow w.heap.size 91 2 v (others (m.take i) key).length (fK (others (m.take i) key)))/\yH (yW w wr))
 .exact⟨0,rfl,by omega,rfl,U8 _ _ _ _,Un _ _⟩
 obtain⟨i,F,hi,rfl,f,b⟩:=hrel;have D:=aa F;clear F;by_cases U:i<N
 .obtain⟨p,q,g,⟨rfl,c1,c2⟩,h⟩:=M.o i U;have r1:=eg b.o c1;have r2:=eg b.o c2;have T:(i:Int)<(N:Int):=by omega
  have V:=P.o i;have C:=b.o.size;cases hls:(p.toList == key.toList)
  .rw[hls] at h;have x:=aa h;clear h c1 c2;generalize others (m.take i) key=os at*;go_wp2_with (at_builtin;refine U0 _ rfl (.tmp 22) (.tmp 27) 45 rfl w.heap.size 91 i0 (gV #[sV ⟨#[]⟩,sV ⟨#[]⟩]) 2 32 underlying45 G J K L rfl (by decide) _ os.length (fK os) rfl (f.o.alloc _) ⟨wr.heap.size,0,none⟩ 1 1 [sV p,sV q] rfl rfl (vC _ _ _ _ rfl) ?c2 (by omega) ?c3 ?c4 ?c5 _ rfl ?c6)
   case c2=>intro v I;simp at I;rcases I with rfl|rfl<;>rfl
   case c3=>unfold maxLen;omega
   case c4=>omega
   case c5=>simp;omega
   intro g2 y w2 n j z A;have t:yH (w2.ownsRow w.heap.size 91 2 (lV (qA g2) (os.length+1) y) (others (m.take (i+1)) key).length (fK (others (m.take (i+1)) key))):=by
    show World.ownsRow _ _ _ _ _ _ _;rw[x.o,zy,Uq];exact n
   have s:yH (yW w w2):=(b.o.alloc C _).grown j (by simp;omega) (λk l=>(f.o.lt k l).1);clear n j z A;go_wp2;go_roundg (N - (i+1))
   .exact⟨i+1,rfl,by omega,by go_num,t,s⟩
   have:=D.o;omega
  rw[hls] at h;have x:yH (others (m.take (i+1)) key=others (m.take i) key):=by rw[h];show _=_;simp
  clear h c1 c2;go_wp2;go_roundg (N - (i+1))
  .exact⟨i+1,rfl,by omega,by go_num,by rw[x.o];exact f,b⟩
  have:=D.o;omega
 obtain rfl:i=N:=by omega
 have T:¬(i:Int)<(i:Int):=by omega
 rw[O.o] at f;have W:=Q.o;have C:=b.o.size;generalize others m key=os at*;by_cases o:value.size=0
 .have S:value.toList.isEmpty=true:=by rw[g7];exact o
  have u:yH (R=os):=by rw[E.o,Uj o];show _=_;simp
  clear o;go_wp2;go_ret;exact⟨⟨_,rfl,by rw[u.o];exact f.o⟩,b.o⟩
 have S:value.toList.isEmpty=false:=by rw[iv];omega
 have u:yH (R=os++[(key,value)]):=by rw[E.o,Ui o];rfl
 clear o;go_wp2_with (at_builtin;refine U0 _ rfl (.tmp 31) (.tmp 35) 45 rfl w.heap.size 91 i0 (gV #[sV ⟨#[]⟩,sV ⟨#[]⟩]) 2 32 underlying45 G J K L rfl (by decide) _ os.length (fK os) rfl (f.o.alloc _) ⟨wr.heap.size,0,none⟩ 1 1 [sV key,sV value] rfl rfl (vC _ _ _ _ rfl) ?kk2 (by omega) ?kk3 ?kk4 ?kk5 _ rfl ?kk6)
 case kk2=>exact⟨rfl,rfl⟩
 case kk3=>unfold maxLen;omega
 case kk4=>omega
 case kk5=>omega
 intro g2 y w2 n j z A;have t:yH (w2.ownsRow w.heap.size 91 2 (lV (qA g2) (os.length+1) y) R.length (fK R)):=by
  show World.ownsRow _ _ _ _ _ _ _;rw[u.o,zy,Uq];exact n
 have s:yH (yW w w2):=(b.o.alloc C _).grown j (by simp;omega) (λk l=>(f.o.lt k l).1);clear n j z A;go_wp2;go_ret;exact⟨⟨_,rfl,t.o⟩,s.o⟩
def ig{B w w'}(h:Below B w w')(n:Nat):Below B w (w'.drewN n):=⟨h.os,h.tape,h.output,h.size,h.block⟩
def gE(l:List yB)(x:yB)(n:Nat):Bool:=(l.take n).any λy=>((ag x).toList == (ag y).toList) && !(x.toList == y.toList)
def bY(l:List yB):Nat->Bool
 | 0=>false
 |n+1=>bY l n || (match l[n]? with|some x=>gE l x n|none=>false)
def SQ(l:List yB)(x y)(n:Nat)(h:l[n]? =some y):gE l x (n+1)=(gE l x n || (((ag x).toList == (ag y).toList) && !(x.toList == y.toList))):=by
 unfold gE;rw[VF,h,List.any_append];simp
def SR(l:List yB)(x)(m n:Nat)(a:m<=n)(h:gE l x m=true):gE l x n=true:=by
 unfold gE at h⊢;rw[List.any_eq_true] at h⊢;let⟨y,h1,h2⟩:=h;exact⟨y,(List.take_sublist_take_left a).subset h1,h2⟩
def Jn (l : List ByteArray) : ∀ (m n : Nat), m ≤ n → bY l m = true → bY l n = true
  | m, 0, h, hc => by have : m = 0 := by omega
                      subst this; exact hc
  | m, n + 1, h, hc => by
    by_cases e : m = n + 1
    · subst e; exact hc
    · simp only [bY, Jn l m n (by omega) hc, Bool.true_or]
def pk(w v)(l:List yB)(t:gQ w v l)(hn:l.length<=4200000000000)(hs:∀p∈l,p.size<=maxLen)(T:aB w):yC 45 #[v] w λe w'=>e=rV (bV (bY l l.length))/\yW w w':=by
 obtain⟨a,cap,rfl,t⟩:=t;have F:yH (∀k (_:k<l.length),∃p g o,l[k]? =some p/\a=some ⟨g,o,none⟩/\(∀W,yW w W->yc W g (o+k) (sV p))/\(∀W,yW w W->yC 23 #[sV p] W λe w'=>e=rV (sV (ag p))/\yW W w')/\((ag p).size:Int)=32):=λk c=>by
  have O:l[k]? =some l[k]:=Uh c;rcases t with rfl|⟨g,o,e,h⟩
  .cases c
  refine⟨_,g,o,O,e,λW A=>eg A (h k _ O),λW A=>ja _ (hs _ (Vc c)) W (T.below A),?_⟩;have:(ag l[k]).size=32:=dz _;omega
 have HN:yH (∀k x,l[k]? =some x->bY l (k+1)=(bY l k || gE l x k)):=λk x u=>by simp only[bY,u]
 have Y:yH (∀k,k<=l.length->bY l k=true->bY l l.length=true):=λk c h=>Jn l k _ c h
 have A0:yH (∀x y k,l[k]? =some y->gE l x (k+1)=(gE l x k || (((ag x).toList == (ag y).toList) && !(x.toList == y.toList)))):=λx y k h=>SQ l x y k h
 have Z:yH (∀x m n,m<=n->gE l x m=true->gE l x n=true):=λx m n h=>SR l x m n h
 clear t hs T;generalize l.length=N at*;go_enter func45,ntmps45
 go_wp2;go_loopg [3] N (λg r wr=>∃i:Nat,g=N - i/\i<=N/\r=i6 i/\yH (bY l i=false)/\yH (yW w wr))
 .exact⟨0,rfl,by omega,rfl,rfl,Un _ _⟩
 obtain⟨i,s,hi,rfl,G,d⟩:=hrel;have X:=aa s;clear s;by_cases A8:i<N
 .obtain⟨x,g,o,u,rfl,D,P,B1⟩:=F.o i A8;have c1:=D wr d.o;have K:=P wr d.o;have A3:=aa D;have HX:=aa K;have J:yH (bY l (i+1)=gE l x i):=by rw[HN.o i x u,G.o];exact Bool.false_or _
  have A6:(i:Int)<(N:Int):=by omega
  have A1:yH (∀y k,l[k]? =some y->gE l x (k+1)=(gE l x k || (((ag x).toList == (ag y).toList) && !(x.toList == y.toList)))):=λy k h=>A0.o x y k h
  have A2:yH (∀k,k<=i->gE l x k=true->bY l N=true):=λk c h=>Y.o (i+1) (by omega) (by rw[J.o];exact Z.o x k i c h)
  generalize ag x=hx' at*;clear P D K;go_wp2_with fail
  apply HX.m;rintro e w1⟨rfl,L⟩;have U:=aa (d.o.trans (L.mono d.o.size));clear L c1 u;generalize wr=WR at*;generalize gk=GK at*;go_wp2;go_loopg [5] i (λg r wr=>∃j:Nat,g=i - j/\j<=i/\r=i6 j/\yH (gE l x j=false)/\yH (yW w wr))
  .exact⟨0,rfl,by omega,rfl,by show gE l x 0=false;unfold gE;simp,U⟩
  obtain⟨j,s,hj,rfl,H,q⟩:=hrel;have I:=aa s;clear s;by_cases B0:j<i
  .obtain⟨y,g',o',R,B,E,S,_⟩:=F.o j (by omega);injection B with B;injection B with e1 e2;subst e1 e2;have c2:=E wr q.o;have HY:=aa (S wr q.o);have z:yH (gE l x (j+1)=((hx'.toList == (ag y).toList) && !(x.toList == y.toList))):=by rw[A1.o y j R,H.o];exact Bool.false_or _
   have A4:=aa E;have A7:(j:Int)<(i:Int):=by omega
   generalize ag y=hy' at*;clear S E R;go_wp2_with fail
   apply HY.m;rintro e w2⟨rfl,M⟩;have f:=aa (q.o.trans (M.mono q.o.size));have d1:=A3.o w2 f.o;have d2:=A4.o w2 f.o;clear M c2;by_cases C:(hx'.toList == hy'.toList)=true
   .by_cases Q:(x.toList == y.toList)=true
    .have b:yH (gE l x (j+1)=false):=by rw[z.o,C,Q];rfl
     go_upto_region 9 with fail
     go_quiet (fail)
     go_wp2;go_roundg (i - (j+1))
     .exact⟨j+1,rfl,by omega,by go_num,b,ig f.o _⟩
     have:=I.o;omega
    have A9:(x.toList == y.toList)=false:=by simpa using Q
    have b:yH (gE l x (j+1)=true):=by rw[z.o,C,A9];rfl
    have V:yH (bY l N=true):=A2.o (j+1) (by omega) b.o;go_upto_region 9 with fail
    go_quiet (fail)
    go_wp2;go_ret;exact⟨by rw[V.o];rfl,ig f.o _⟩
   have A5:(hx'.toList == hy'.toList)=false:=by simpa using C
   have b:yH (gE l x (j+1)=false):=by rw[z.o,A5];rfl
   go_upto_region 9 with fail
   go_quiet (fail)
   go_wp2;go_roundg (i - (j+1))
   .exact⟨j+1,rfl,by omega,by go_num,b,ig f.o _⟩
   have:=I.o;omega
  obtain rfl:j=i:=by omega
  have A7:¬(j:Int)<(j:Int):=by omega
  have b:yH (bY l (j+1)=false):=by rw[J.o];exact H.o
  go_wp2;go_roundg (N - (j+1))
  .exact⟨j+1,rfl,by omega,by go_num,b,q⟩
  have:=X.o;omega
 obtain rfl:i=N:=by omega
 have A6:¬(i:Int)<(i:Int):=by omega
 have HR:=aa G;go_wp2;go_ret;exact⟨by rw[HR.o];rfl,d.o⟩
def eI(G:yB->Option yB)(t:yB):Bool:=match G (ag t) with
 |none=>false
 |some u=>!(u.toList == t.toList) && ((ag u).toList == (ag t).toList)
def Lu(w)(c:Option Addr)(t h)(f:yH (yC 23 #[sV t] w λe w'=>e=rV (sV h)/\yW w w'))(d:yH (∀W,yW w W->yC 118 #[pV c,sV h] W λe w'=>e=rV (tV #[sV ⟨#[]⟩,i6 9])/\∃n,w'=W.drewN n)):yC 85 #[pV c,sV t] w λe w'=>e=rV (bV false)/\yW w w':=by
 go_enter func85,ntmps85
 go_wp2_with fail
 apply f.m;rintro e w1⟨rfl,b⟩;have a:=aa b;clear b;go_wp2_with fail
 refine(d.o w1 a.o).mono ?_;rintro e w2⟨rfl,n,rfl⟩;go_wp2;go_ret;exact⟨rfl,ig a.o _⟩
def Ls(w)(c:Option Addr)(t h u:yB)(f:yH (yC 23 #[sV t] w λe w'=>e=rV (sV h)/\yW w w'))(d:yH (∀W,yW w W->yC 118 #[pV c,sV h] W λe w'=>e=rV (tV #[sV u,i6 0])/\∃n,w'=W.drewN n)) (g:(u.toList == t.toList)=true):yC 85 #[pV c,sV t] w λe w'=>e=rV (bV false)/\yW w w':=by
 go_enter func85,ntmps85
 go_wp2_with fail
 apply f.m;rintro e w1⟨rfl,b⟩;have a:=aa b;clear b;go_wp2_with fail
 refine(d.o w1 a.o).mono ?_;rintro e w2⟨rfl,n,rfl⟩;go_wp2;go_ret;exact⟨rfl,ig a.o _⟩
def Lt(w)(l:Option Addr)(t h u k:yB)(i:yH (yC 23 #[sV t] w λe w'=>e=rV (sV h)/\yW w w'))(g:yH (∀W,yW w W->yC 118 #[pV l,sV h] W λe w'=>e=rV (tV #[sV u,i6 0])/\∃n,w'=W.drewN n)) (o:(u.toList == t.toList)=false)(j:yH (∀W,yW w W->yC 23 #[sV u] W λe w'=>e=rV (sV k)/\yW W w')) (h32:(h.size:Int)=32):yC 85 #[pV l,sV t] w λe w'=>e=rV (bV (k.toList == h.toList))/\yW w w':=by
 by_cases f:(k.toList == h.toList)=true
 .rw[f];go_enter func85,ntmps85
  go_wp2_with fail
  apply i.m;rintro e w1⟨rfl,b⟩;have a:=aa b;clear b;go_wp2_with fail
  refine(g.o w1 a.o).mono ?_;rintro e w2⟨rfl,n,rfl⟩;go_wp2_with fail
  refine(j.o _ (ig a.o n)).mono ?_;rintro e w3⟨rfl,c⟩;have d:=aa ((ig a.o n).trans (c.mono a.o.size));clear c;go_wp2;go_ret;exact⟨rfl,d.o⟩
 have m:(k.toList == h.toList)=false:=by simpa using f
 clear f;rw[m];go_enter func85,ntmps85
 go_wp2_with fail
 apply i.m;rintro e w1⟨rfl,b⟩;have a:=aa b;clear b;go_wp2_with fail
 refine(g.o w1 a.o).mono ?_;rintro e w2⟨rfl,n,rfl⟩;go_wp2_with fail
 refine(j.o _ (ig a.o n)).mono ?_;rintro e w3⟨rfl,c⟩;have d:=aa ((ig a.o n).trans (c.mono a.o.size));clear c;go_wp2;go_ret;exact⟨rfl,d.o⟩
def Gv{M w a G}(f:j5 M w a G)(g:∀x,M x->x<w.heap.size)(h:∀k t,G k=some t->t.size<=maxLen)(t:yB)(i:t.size<=maxLen)(T:aB w):yC 85 #[pV a,sV t] w λe w'=>e=rV (bV (eI G t))/\yW w w':=by
 have c:=aa (ja t i w T);have h32:(ag t).size=32:=dz _;have b:yH (∀W,yW w W->yC 118 #[pV a,sV (ag t)] W λe w'=>e=rV (tV #[sV ((G (ag t)).getD ⟨#[]⟩),i6 (if(G (ag t)).isSome=true then 0 else 9)])/\∃n,w'=W.drewN n):=λW d=>f W (ag t) h32 λx j=>d.block x (g x j)
 unfold eI;cases hg:G (ag t) with
 |none=>rw[hg] at b;exact Lu w a t _ c b
 |some u=>
  rw[hg] at b;simp only;cases hut:(u.toList == t.toList) with
  |true=>exact Ls w a t _ u c b hut
  |false=>rw[Bool.not_false,Bool.true_and];exact Lt w a t _ u (ag u) c b hut (λW d=>ja u (h _ _ hg) W (T.below d)) (by rw[h32];rfl)
structure Ch(w:World)(S:Nat->Prop)(t:Nd)(r:yL)(d b:Nat)(u:Option Addr)(S':Nat->Prop):Prop where
 at_:At w (ay t r d).1 S' (pV u)
 sub:∀x,S' x->S x/\x≠b
 ok:aA (ay t r d).1 (ay t r d).2.2.1
 mx:aw (ay t r d).2.1
 deep:(ay t r d).2.2.1+(ay t r d).2.1.length<=80
 less:(ay t r d).1≠.nil->(ay t r d).2.1.length+1<=r.length
def Ua(W:World)(S:Nat->Prop)(t:Nd)(r:yL)(d b:Nat)(e:Ending)(w':World):Prop:=
 ∃u S',e=rV (cz (pV u) (ae (ay t r d).2.1) (ay t r d).2.2.1 (ay t r d).2.2.2)/\Ch W S t r d b u S'/\yW W w'
def AU{W S t r d b}(h:ay t r d=(.nil,[],0,false)):Ch W S t r d b none (λ_=>False):=by
 constructor<;>(try rw[h])
 .rfl
 .exact λ_ h=>h.elim
 .exact mE 0
 .exact λ_ h=>(Vs h).elim
 .decide
 exact λh=>absurd rfl h
def Rs(W S t)(b:Nat)(r)(d:Nat)(bl:Bool)(f:At W t S (pV (qA b)))(i:aA t d)(E:t.read)(n:aw r)(C:d+r.length<=80):yC 112 #[cz (pV (qA b)) (ae r) d bl] W (Ua W S t r d b):=by
 have p:=i.aK;cases t with
 |nil=>have h:Value.pointer (qA b)=pV none:=f;cases h
 |unread _=>exact E.elim
 |leaf h q v=>let⟨l,a,_,B⟩:=f;cases a;exact(zP b h q v _ _ r (by have:=p.2.2.1;omega) d bl W B).mono λe w'⟨h1,h2⟩=>⟨none,_,h1,AU rfl,h2⟩
 |ext h q k=>
  let⟨l,L,z,a,A,B,F,s⟩:=f;cases a;obtain⟨w,rfl⟩:=s.ptr;have K:=p.2.2.1;by_cases e:aF q r=q.length
  .have m:aF r q=q.length:=by rwa[oP]
   have D:=(iN q r).2;rw[e] at D;have J:=Vt.2 i.bB.1;have g:ay (.ext h q k) r d=(k,r.drop q.length,d+q.length,true):=by simp only[ay,Uj e]
   refine(wM b h q k w _ r (by omega) (by omega) m d (by omega) bl W B).mono λen w'⟨h1,h2⟩=>⟨w,z,by rwa[g],?_,h2⟩
   constructor<;>(try rw[g])
   .exact s
   .exact F
   .exact fq i
   .exact da n _
   .show d+q.length+(r.drop q.length).length<=80;rw[Uu];omega
   intro _;show(r.drop q.length).length+1<=r.length;rw[Uu];omega
  have m:aF r q≠q.length:=by rwa[oP]
  have g:ay (.ext h q k) r d=(.nil,[],0,false):=by simp only[ay,Ui e]
  exact(zQ b h q k _ _ r (by omega) (by omega) m d bl W B).mono λen w'⟨h1,h2⟩=>⟨none,_,by rwa[g],AU g,h2⟩
 |branch h v ks=>
  cases r with
  |nil=>let⟨l,M,o,a,_,B,_⟩:=f;cases a;exact(zR b h v ks _ _ d bl W B).mono λen w'⟨h1,h2⟩=>⟨none,_,h1,AU rfl,h2⟩
  |cons c r=>
   let⟨l,U,o,a,A,B,u⟩:=f.kids;cases a;have j:=n c (Uk ..);have I:r.length+1+d<=80:=by simp at C;omega
   refine(wN b h v ks _ _ c r j (U c.toNat) rfl (by omega) d (by omega) bl W B).mono λen w'⟨h1,h2⟩=>⟨U c.toNat,o c.toNat,h1,⟨u.at_ _ j,λx G=>u.sub _ x j G,dA i _ j,λy H=>n y (Ul _ H),?_,?_⟩,h2⟩
   .show d+1+r.length<=80;omega
   intro _;simp[ay]
def pE(a:List yB)(V:yL):Option yL:=if a=[] then some V else none
def oO(t:Nd)(d:Nat)(bl:Bool)(a:List yB):Option (Nd×List yB):=match t with
 | .unread h=>match a with
  | []=>none
  |p::q=>match gS h p.data.toList d bl with
   | .error _=>none
   | .ok n=>some (n,q)
 |t=>some (t,a)
def yx(f:Nd->List yB->Option yL):Option (Nd×List yB)->Option yL
 |none=>none
 |some x=>f x.1 x.2
def jo:Nat->Nd->yL->Nat->Bool->List yB->yL->Option yL
 | 0,t,_,_,_,ps,V=>if t.isNil=true then pE ps V else none
 |f+1,t,r,d,bl,ps,V=>if t.isNil=true then pE ps V else yx (λt1 q=>jo f (ay t1 r d).1 (ay t1 r d).2.1 (ay t1 r d).2.2.1 (ay t1 r d).2.2.2 q (t1.at r)) (oO t d bl ps)
def Rv(f:Nat)(r)(d:Nat)(bl:Bool)(a:List yB)(V):jo f .nil r d bl a V=pE a V:=by cases f<;>rfl
structure sX(w0:World)(S0:Nat->Prop)(ga gl:Nat)(all:List yB)(R:Option yL)(g:Nat)(wr:World)(t:Nd)(Sc:Nat->Prop)(u:Option Addr)(r:yL)(d:Nat)(bl:Bool)(n:Nat)(ul:Option Addr)(rl:yL)(dl:Nat)(bll:Bool)(V:yL):Prop where
 here:db wr ga u (ae r) d bl
 last:db wr gl ul (ae rl) dl bll
 at_:At wr t Sc (pV u)
 sub:∀x,Sc x->(S0 x\/w0.heap.size<=x)/\x<wr.heap.size/\x≠ga/\x≠gl
 ok:aA t d
 mx:aw r
 deep:d+r.length<=80
 fuel:t≠.nil->r.length+1<=g
 used:n<=all.length
 res:R=jo g t r d bl (all.drop n) V
 val:t=.nil->(ul=none/\V=[])\/∃b t kid kids,ul=some ⟨b,0,none⟩/\b<wr.heap.size/\¬Sc b/\b≠ga/\b≠gl/\bU wr b t kid kids/\t.at rl=V
 wrote:bO S0 w0 wr
def Is{w0:World}{f:Nat->Prop}{j c:Nat}{all:List yB}{R:Option yL}{g:Nat}{wr:World}{t:Nd}{a:Nat->Prop}{b:Nat}{r:yL}{d:Nat}{bl:Bool}{n:Nat}{o:Option Addr}{m:yL}{i:Nat}{h:Bool}{V:yL}(e:sX w0 f j c all R g wr t a (qA b) r d bl n o m i h V) {t1:Nd} {w2:World} (k:At w2 t1 (λx=>a x\/wr.heap.size<=x) (ptr b)):At (cJ w2 c (qA b) r d bl) t1 (kJ wr w2 a) (ptr b):=by
 have p:=e.last.lt;refine(k.cut.mono (S':=kJ wr w2 a) ?_).kept ?_
 .rintro x⟨h1|h1,h2⟩
  .exact .inl h1
  exact .inr ⟨h1,h2⟩
 rintro x l _;refine mZ _ _ _ _ _ _ _ ?_;rcases l with h1|⟨h1,_⟩
 .exact(e.sub x h1).2.2.2
 omega
def Ry{w0:World}{o:Nat->Prop}{c a:Nat}{all:List yB}{R:Option yL}{g:Nat}{wr:World}{t:Nd}{j:Nat->Prop}{b:Nat}{r:yL}{d:Nat}{bl:Bool}{n:Nat}{S:Option Addr}{Q:yL}{w:Nat}{v:Bool}{V:yL}(e:sX w0 o c a all R (g+1) wr t j (qA b) r d bl n S Q w v V) (l:t≠.nil) (h1:c≠a) (p1:w0.heap.size<=c) (p2:w0.heap.size<=a) {t1:Nd} {n1:Nat} (E:n1<=all.length) (J:oO t d bl (all.drop n)=some (t1,all.drop n1)) (G:t1.read){w2:World} (y:At w2 t1 (λx=>j x\/wr.heap.size<=x) (ptr b)) (p:bO j wr w2){w4:World} {m:Option Addr} {S':Nat->Prop} (i:Ch (cJ w2 a (qA b) r d bl) (kJ wr w2 j) t1 r d b m S') (k:Below (cJ w2 a (qA b) r d bl).heap.size (cJ w2 a (qA b) r d bl) w4):db w4 c (qA b) (ae r) d bl/\sX w0 o c a all R g (cJ w4 c m (ay t1 r d).2.1 (ay t1 r d).2.2.1 (ay t1 r d).2.2.2) (ay t1 r d).1 S' m (ay t1 r d).2.1 (ay t1 r d).2.2.1 (ay t1 r d).2.2.2 n1 (qA b) r d bl (t1.at r):=by
 have A:=e.here.lt;have C:=e.last.lt;have W:=p.size;have X:=tG w2 a (qA b) r d bl;have Y:=k.size;have Z:=tG w4 c m (ay t1 r d).2.1 (ay t1 r d).2.2.1 (ay t1 r d).2.2.2;have q:∀x,kJ wr w2 j x->(o x\/w0.heap.size<=x)/\x<w2.heap.size/\x≠c/\x≠a:=λx f=>by
  rcases f with f|⟨f,L⟩
  .have:=e.sub x f;exact⟨this.1,by omega,this.2.2⟩
  have:=e.wrote.size;exact⟨.inr (by omega),L,by omega,by omega⟩
 have b24:∀x,x<w2.heap.size->x≠a->w4.heap[x]? =w2.heap[x]? :=λx f l=>(k.block x (by omega)).trans (mZ _ _ _ _ _ _ _ l)
 have b45:∀x,x≠c->(cJ w4 c m (ay t1 r d).2.1 (ay t1 r d).2.2.1 (ay t1 r d).2.2.2).heap[x]? =w4.heap[x]? :=λx l=>mZ _ _ _ _ _ _ _ l
 have O:¬j c:=λh=>(e.sub c h).2.2.1 rfl
 have P:¬j a:=λh=>(e.sub a h).2.2.2 rfl
 have u:db w4 c (qA b) (ae r) d bl:=(e.here.kept (p.block c A O)).kept (b24 c (by omega) h1);have T:db w4 a (qA b) (ae r) d bl:=by
  have:db (cJ w2 a (qA b) r d bl) a (qA b) (ae r) d bl:=(e.last.kept (p.block a C P)).set _ _ _ _;exact this.kept (k.block a (by omega))
 refine⟨u,?_⟩;have H:t1.some:=by cases t1<;>first|exact G.elim|trivial
 let⟨U,M,N,K,I,B⟩:=(Is e y).ai H;cases K;have s:=q b I;have z:(cJ w4 c m (ay t1 r d).2.1 (ay t1 r d).2.2.1 (ay t1 r d).2.2.2).heap[b]? =(cJ w2 a (qA b) r d bl).heap[b]? :=by
  rw[b45 b s.2.2.1];exact k.block b (by omega)
 refine⟨u.set _ _ _ _,T.kept (b45 a (Ne.symm h1)),i.at_.kept λx f _=>?_,λx f=>?_,i.ok,i.mx,i.deep,λD=>?_,E,?_,λ_=>.inr ⟨b,t1,M,N,rfl,by omega,λh=>(i.sub b h).2 rfl,s.2.2.1,s.2.2.2,z.trans B,rfl⟩,?_⟩
 .have:=q x (i.sub x f).1;rw[b45 x this.2.2.1];exact k.block x (by omega)
 .have:=q x (i.sub x f).1;exact⟨this.1,by omega,this.2.2⟩
 .have:=i.less D;have:=e.fuel l;omega
 .rw[e.res];have F:t.isNil≠true:=by cases t<;>first|exact absurd rfl l| (intro h;cases h)
  show(if t.isNil=true then _ else yx _ (oO t d bl (all.drop n)))=_;rw[Ui F,J];rfl
 have h5:bO o w0 w2:=e.wrote.trans p λx f=>(e.sub x f).1
 have h6:bO o w0 (cJ w2 a (qA b) r d bl):=h5.cJ a p2 _ _ _ _;exact(h6.kU k).cJ c p1 _ _ _ _
def rF:Option yL->Value
 |none=>tV #[sV ⟨#[]⟩,iV .i64 12]
 |some v=>tV #[sV (ae v),iV .i64 0]
def gQ.at_{w a n cap c}(h:gQ w (lV a n cap) c)(i:Nat)(p)(b:c[i]? =some p):∃g o,a=some ⟨g,o,none⟩/\yc w g (o+i) (sV p):=by
 let⟨a',d,h1,h2⟩:=h;injection h1 with e1 e2 e3;subst e1;rcases h2 with h2|⟨g,o,h3,h4⟩
 .rw[h2] at b;cases b
 exact⟨g,o,h3,h4 i p b⟩
def Rx(w u t S r)(a:Option Addr)(cap:Nat)(f:List yB)(hA:At w t S (pV u))(hK:aA t 0)(hn:aw r)(hd:r.length<=80)(T:aB w)(hS:∀x,S x->3<=x)(hP:∀W,bO S w W->gQ W (lV a f.length cap) f) (hs:∀p∈f,p.size<=maxLen) (G2:f.length<=96):yC 88 #[gV #[pV u,sV (ae r),i6 0,bV false],lV a f.length cap] w λe w'=>e=rV (rF (jo 81 t r 0 false f []))/\bO S w w':=by
 obtain⟨R,hR⟩:=yX (jo 81 t r 0 false f []);rw[<-hR];have HA:=aa hA.cut;have HR:=aa hR;have HK:yH (aA t 0/\aw r/\r.length<=80):=⟨hK,hn,hd⟩
 have HT:=aa T;have HS:=aa hS;have HP:=aa hP;have HZ:=aa hs;have E7:yH (∀W,bO (λx=>S x/\x<w.heap.size) w W->bO S w W):=λW h=>h.mono λx C=>C.1
 clear hA hR hK hn hd T hS hP hs;obtain⟨l,B5⟩:=yX f.length;have U:=aa B5;rw[<-B5] at HP G2⊢;clear B5;go_enter func88,ntmps88
 go_wp2;go_loopg [7,8] 81 (λg us ee wr=>∃i Sc uc r d bl n P O I H V,us=i6 (n:Nat)/\n<=l/\yH (sX w (λx=>S x/\x<w.heap.size) w.heap.size (w.heap.size+1) f R g wr i Sc uc r d bl n P O I H V))
 .have D1:yW w (w.alloc (.cells #[pV u,sV (ae r),i6 0,bV false] 127)):=(Un _ _).alloc (Ug _) _;have A0:yW w ((w.alloc (.cells #[pV u,sV (ae r),i6 0,bV false] 127)).alloc (.cells #[pV u,sV (ae r),i6 0,bV false] 127)):=D1.alloc D1.size _;refine⟨t,_,u,r,0,false,0,u,r,0,false,[],rfl,by omega,⟨?_,?_,HA.o.below A0,λx C=>⟨.inl C,by simp;omega,by omega,by omega⟩,HK.o.1,HK.o.2.1,by have:=HK.o.2.2;omega,λ_=>by have:=HK.o.2.2;omega,UD _,by rw[HR.o];rfl,?_,bO.iP A0⟩⟩
  .unfold db;rw[U6 _ _ _ (by simp)];exact UG _ _
  .exact xO _ _ _ (by simp)
  intro h;subst h;have h1:=HA.o;injection h1 with h2;exact .inl ⟨h2,rfl⟩
 obtain⟨i,Sc,uc,r2,d,bl,n,P,O,I,H,V,rfl,D5,HW⟩:=hrel;have j:=HW.o;have G:=aa (E7.o wr j.wrote);have B9:=j.here.lt;have C0:=j.last.lt;obtain⟨a0,a1,a2,a3⟩:=j.here.cells;obtain⟨b0,b1,b2,b3⟩:=j.last.cells;by_cases E:i=.nil
 .subst E;have M:=j.at_;cases M;have A5:R=pE (f.drop n) V:=by rw[j.res,Rv]
  by_cases D6:n<l
  .have Z:yH (R=none):=by
    show _=_;rw[A5];unfold pE;rw[Ui];intro e;have:=congrArg List.length e;rw[Uu,<-U.o] at this;simp at this;omega
   have D4:(n:Int)<(l:Int):=by omega
   clear j A5 b0 b1 b2 b3;go_wp2;go_ret2;rw[Z.o];exact⟨rfl,G.o⟩
  obtain rfl:n=l:=by omega
  have E6:yH (R=some V):=by
   show _=_;rw[A5];unfold pE;rw[Uj];apply List.eq_nil_of_length_eq_zero;rw[Uu,<-U.o];omega
  have D4:¬(n:Int)<(n:Int):=by omega
  have E8:yH (yC 77 #[gV #[pV P,sV (ae O),i6 (I:Int),bV H]] wr λe w'=>e=rV (sV (ae V))/\yW wr w'):=by
   have hL:sM wr wr.heap.size P O V:=by
    rcases j.val rfl with h|⟨b,t,D9,E0,h1,h2,_,_,_,h3,h4⟩
    .exact .inl h
    exact .inr ⟨b,t,D9,E0,h1,h2,h3,h4⟩
   exact tk hL I H wr (Un _ _)
  clear j A5;go_wp2_with fail
  apply E8.m;rintro e w2⟨rfl,A0⟩;have E1:=aa (G.o.kU A0);clear A0;go_wp2;go_ret2;rw[E6.o];exact⟨rfl,E1.o⟩
 have A7:i.some:=by cases i<;>first|exact absurd rfl E|trivial
 obtain⟨b,D9,E0,M,L,B⟩:=j.at_.ai A7;have G5:=M;injection G5 with hu3;subst hu3;obtain⟨v,A1⟩:∃v,gk=v+1:=⟨gk - 1,by have:=j.fuel E;omega⟩
 have A9:=aa A1;have c0:=B.c0;have G8:=B.lt;have E4:=aa E;have B8:=j.deep;obtain⟨B1,B2,B3,B4⟩:=j.last.free;have C3:=j.sub b L;have C5:yH (∀(t1:Nd) (n1:Nat) (w2:World),n1<=l->oO i d bl (f.drop n)=some (t1,f.drop n1)->t1.read->aA t1 d->At w2 t1 (λx=>Sc x\/wr.heap.size<=x) (ptr b)->bO Sc wr w2->
  (db w2 w.heap.size (qA b) (ae r2) d bl/\db w2 (w.heap.size+1) P (ae O) I H)/\
  yC 112 #[gV #[pV (qA b),sV (ae r2),i6 (d:Int),bV bl]] (cJ w2 (w.heap.size+1) (qA b) r2 d bl) λe w4=>∃k S',e=rV (gV #[pV k,sV (ae (ay t1 r2 d).2.1),i6 ((ay t1 r2 d).2.2.1:Int),bV (ay t1 r2 d).2.2.2])/\db w4 w.heap.size (qA b) (ae r2) d bl/\yH (sX w (λx=>S x/\x<w.heap.size) w.heap.size (w.heap.size+1) f R v (cJ w4 w.heap.size k (ay t1 r2 d).2.1 (ay t1 r2 d).2.2.1 (ay t1 r2 d).2.2.2) (ay t1 r2 d).1 S' k (ay t1 r2 d).2.1 (ay t1 r2 d).2.2.1 (ay t1 r2 d).2.2.2 n1 (qA b) r2 d bl (t1.at r2))):=by
  intro t1 n1 w2 G1 G4 D8 F5 C6 B6;have y:=HW.o;rw[A9.o] at y;have k1:w2.heap[w.heap.size]? =wr.heap[w.heap.size]? :=B6.block _ B9 λh=>(y.sub _ h).2.2.1 rfl
  have k2:w2.heap[w.heap.size+1]? =wr.heap[w.heap.size+1]? :=B6.block _ C0 λh=>(y.sub _ h).2.2.2 rfl
  refine⟨⟨y.here.kept k1,y.last.kept k2⟩,?_⟩;refine(Rs _ (kJ wr w2 Sc) t1 b r2 d bl (Is y C6) F5 D8 y.mx y.deep).mono ?_;rintro e w4⟨k,S',rfl,hN,F4⟩;obtain⟨s,F8⟩:=Ry y E4.o (by omega) (Ug _) (by omega) (by rw[<-U.o];exact G1) G4 D8 C6 B6 hN F4;exact⟨k,S',rfl,s,F8⟩
 by_cases A:i.read
 .have A4:((i.kind:Int) == 0)=false:=by cases i<;>first|exact A.elim|rfl
  obtain⟨⟨A3,N⟩,A2⟩:=C5.o i n wr D5 (by cases i<;>first|exact A.elim|rfl) A j.ok (j.at_.mono λx C=>.inl C) (bO.refl _ _);have Y:=aa A2;generalize ay i r2 d=WP at*;generalize (i.kind:Int)=KD at*;clear j A3 N A2 A1 E A7 M L B A B8 C3;unfold cJ at Y;go_wp2_with fail
  apply Y.m;rintro e w4⟨k,S',rfl,s,Q⟩;obtain⟨x0,x1,x2,x3⟩:=s.cells;obtain⟨y0,y1,y2,y3⟩:=s.free;have G6:=s.lt;clear s a0 a1 a2 a3 b0 b1 b2 b3 B1 B2 B3 B4 B9 C0;go_wp2;go_roundg v
  .exact⟨_,S',k,_,_,_,n,_,_,_,_,_,rfl,D5,Q⟩
  have:=A9.o;omega
 obtain⟨h0,rfl⟩:∃h0,i=.unread h0:=by
  cases i with
  |nil=>exact absurd rfl E
  |unread h0=>exact⟨h0,rfl⟩
  |leaf _ _ _=>exact absurd trivial A
  |ext _ _ _=>exact absurd trivial A
  |branch _ _ _=>exact absurd trivial A
 have A4:(((Nd.unread h0).kind:Nat):Int)=0:=rfl;rw[A4] at c0;have C1:(Nd.unread h0).isNil≠true:=λh=>by cases h
 have A6:R=yx (λt1 q=>jo v (ay t1 r2 d).1 (ay t1 r2 d).2.1 (ay t1 r2 d).2.2.1 (ay t1 r2 d).2.2.2 q (t1.at r2)) (oO (.unread h0) d bl (f.drop n)):=by
  rw[j.res,A1];show(if(Nd.unread h0).isNil=true then _ else _)=_;rw[Ui C1]
 by_cases D6:n<l
 .have C2:n<f.length:=by rw[<-U.o];exact D6
  obtain⟨p,hp⟩:∃p,f[n]? =some p:=⟨f[n],Uh C2⟩
  have D3:f.drop n=p::f.drop (n+1):=by
   rw[UZ C2];congr 1;exact Option.some.inj ((Uh C2).symm.trans hp)
  obtain⟨g,o,rfl,B7⟩:=(HP.o wr G.o).at_ n p hp;have H0:g<wr.heap.size:=UE wr _ B7;have D7:p.size<=maxLen:=HZ.o p (UQ hp);have D0:=HT.o.nL G.o HS.o;have B0:bU wr b (.unread h0) cN (λ_=>cN):=by
   obtain⟨b',e,_,B'⟩:=j.at_;cases e;exact B'
  obtain⟨X,K⟩:=yX (gS h0 p.data.toList d bl);have G7:=aa K;have E5:yH (yC 119 #[pV (qA b),sV p,i6 (d:Int),bV bl] wr.drew λe w'=>∃z:Int,e=rV (i6 z)/\yH (qO wr b X (rV (i6 z)) w')):=(Eu wr.drew h0 b p d bl B0 D7 (by omega) (D0.below ((Un _ _).drew))).mono λe w' hq=>by
   rw[<-K] at hq;cases X with
   |error c=>obtain⟨h1,h2⟩:=hq;exact⟨c,h1,rfl,⟨h2.os,h2.tape,h2.output,h2.size,h2.block⟩⟩
   |ok m=>obtain⟨h1,h2,h3⟩:=hq;exact⟨0,h1,rfl,h2,⟨h3.os,h3.tape,h3.output,h3.size,h3.block⟩⟩
  have A8:oO (.unread h0) d bl (f.drop n)=(match gS h0 p.data.toList d bl with| .error _=>none| .ok n2=>some (n2,f.drop (n+1))):=by rw[D3];rfl
  have H2:((n:Int) == (l:Int))=false:=by rw[Vd];omega
  have D4:(n:Int)<(l:Int):=by omega
  rw[<-K] at A8;have E3:yH (∀J,X=.error J->R=none/\((J:Int) != 0)=true):=λJ hX=>by
   refine⟨by rw[A6,A8,hX];rfl,?_⟩;have:=Ex (K.symm.trans hX);simp;omega
  have E2:yH (∀n2,X=.ok n2->∀w2,At w2 n2 (λx=>x=b\/wr.heap.size<=x) (ptr b)->Kept b wr w2->(db w2 w.heap.size (qA b) (ae r2) d bl/\db w2 (w.heap.size+1) P (ae O) I H)/\
   yC 112 #[gV #[pV (qA b),sV (ae r2),i6 (d:Int),bV bl]] (cJ w2 (w.heap.size+1) (qA b) r2 d bl) λe w4=>∃k S',e=rV (gV #[pV k,sV (ae (ay n2 r2 d).2.1),i6 ((ay n2 r2 d).2.2.1:Int),bV (ay n2 r2 d).2.2.2])/\db w4 w.heap.size (qA b) (ae r2) d bl/\yH (sX w (λx=>S x/\x<w.heap.size) w.heap.size (w.heap.size+1) f R v (cJ w4 w.heap.size k (ay n2 r2 d).2.1 (ay n2 r2 d).2.2.1 (ay n2 r2 d).2.2.2) (ay n2 r2 d).1 S' k (ay n2 r2 d).2.1 (ay n2 r2 d).2.2.1 (ay n2 r2 d).2.2.2 (n+1) (qA b) r2 d bl (n2.at r2))):=λn2 hX w2 F3 F7=>by
   obtain⟨F6,G3,_⟩:=oT (K.symm.trans hX);exact C5.o n2 (n+1) w2 (by omega) (by rw[A8,hX]) G3 F6 (F3.mono λx C=>C.imp (λe=>by rw[e];exact L) id) ((bO.Fl F7).mono λx C=>by rw[C];exact L)
  clear j A6 A8 D3 hp D7 D0 B0 B M L E A7 A A4 C1 A1 B8 C3 b0 b1 b2 b3 B1 B2 B3 B4 K;go_upto_region 7 with fail
  go_cut [8] from 10 to 40 (λrr wx=>∃z:Int,rr=i6 z/\yH (qO wr b X (rV (i6 z)) wx))
  .clear HW;go_region_with (go_at_call 119;apply E5.m;rintro e2 w2⟨z2,rfl,F⟩)
   all_goals
    go_wp2;go_meet;exact⟨z2,rfl,F⟩
  obtain⟨z,rfl,F⟩:=hcut;cases X with
  |error J=>
   obtain⟨D,D2⟩:=F.o;have C4:z=(J:Int):=by injection D with D;injection D
   subst C4;obtain⟨C9,G9⟩:=E3.o J rfl;have Z:=aa C9;have Q:=aa (G.o.kU D2);clear C9 D D2 F a0 a1 a2 a3 c0 B7;go_wp2;go_ret2;rw[Z.o];exact⟨rfl,Q.o⟩
  |ok n2=>
   obtain⟨D,C7,C8⟩:=F.o;have C4:z=0:=by injection D with D;injection D
   subst C4;obtain⟨⟨A3,N⟩,A2⟩:=E2.o n2 rfl wc C7 C8;clear D C7 C8 F;generalize ay n2 r2 d=WP at*;have Y:=aa A2;obtain⟨e0,e1,e2,e3⟩:=A3.cells;obtain⟨f0,f1,f2,f3⟩:=N.cells;obtain⟨E9,F0,F1,F2⟩:=N.free;have F9:=A3.lt;have G0:=N.lt;have H1:(n:Int)<1000:=by omega
   clear A3 N A2 a0 a1 a2 a3 c0 B7 B9 C0;unfold cJ at Y;go_wp2_with fail
   apply Y.m;rintro e w4⟨k,S',rfl,s,Q⟩;obtain⟨x0,x1,x2,x3⟩:=s.cells;obtain⟨y0,y1,y2,y3⟩:=s.free;have G6:=s.lt;clear s e0 e1 e2 e3 f0 f1 f2 f3 E9 F0 F1 F2 F9 G0;go_wp2;go_roundg v
   .exact⟨_,S',k,_,_,_,n+1,_,_,_,_,_,by go_num,by omega,Q⟩
   have:=A9.o;omega
 obtain rfl:n=l:=by omega
 have Z:yH (R=none):=by
  show _=_;rw[A6];have:f.drop n=[]:=List.eq_nil_of_length_eq_zero (by rw[Uu,<-U.o];omega);rw[this];rfl
 clear j A6 B M L E A7 A A4 C1 A1 B8 C3 b0 b1 b2 b3 B1 B2 B3 B4;go_wp2;go_ret2;rw[Z.o];exact⟨rfl,G.o⟩
end Go.Proofs.YteaodagofkcgbaaGreatDoor
