import Derived.Test.YteaodagofkcgbaaGreatDoorR
open Go.Proofs.Tryz
open Go.Proofs.Tryz renaming prog→yP
open Go.Value renaming string→sV,pointer→pV,int→iV,slice→lV,bool→bV,tuple→tV,agg→gV
open Go.Ending renaming returned→rV
namespace Go.Proofs.YteaodagofkcgbaaGreatDoor
open Go.RowKit
set_option maxRecDepth 100000
set_option maxHeartbeats 0
set_option linter.all false
def cO(ks:Nat->Nd):Nat->Nat
 | 0=>0
 |i+1=>cO ks i+(if(ks i).isNil=true then 0 else 1)
def dx(ks:Nat->Nd):Nat->Nat
 | 0=>0
 |i+1=>if(ks i).isNil=true then dx ks i else i
def lH(q:yL):Except Nat Nd->Except Nat Nd
 | .error c=>.error c
 | .ok k=>.ok (aX q k)
def pU(f:Nd->Except Nat Nd):Except Nat Nd->Except Nat Nd
 | .error c=>.error c
 | .ok k=>f k
def cd(G:yB->Option yB)(ks:Nat->Nd)(v:yL)(dep:Nat):Except Nat Nd:=
 if cO ks 16=0 then .ok (dw [] v)
 else if 1<cO ks 16\/v≠[] then .ok (dN ks v)
 else lH [UInt8.ofNat (dx ks 16)] (dG G (ks (dx ks 16)) (dep+1) false)
def bI(G:yB->Option yB):Nd->yL->Nat->Except Nat Nd
 | .ext _ q k,p,dep=>lH q (bI G k (p.drop q.length) (dep+q.length))
 | .branch _ v ks,p,dep=>match p with
  | []=>cd G ks [] dep
  |c::r=>pU (λk=>cd G (aJ ks c.toNat k) v dep) (bI G (ks c.toNat) r (dep+1))
 | _,_,_=>.ok .nil
def oh(v)(ks:Nat->Nd):∀n,dj v ks n=cO ks n+(if v=[] then 0 else 1)
 | 0=>by simp[dj,cO]
 |n+1=>by simp only[dj,cO,oh v ks n];omega
def nt(ks:Nat->Nd):∀n,0<cO ks n->dx ks n<n/\(ks (dx ks n)).some
 | 0,h=>by cases h
 |n+1,h=>by
  simp only[cO,dx] at h⊢
  by_cases e:(ks n).isNil=true
  .rw[Uj e] at h⊢
   have:=nt ks n (by omega)
   exact⟨by omega,this.2⟩
  rw[Ui e]
  exact⟨by omega,(gM _).1 (by simpa using e)⟩
def Av(ks:Nat->Nd):∀n,cO ks n=0->∀i,i<n->ks i=.nil
 | 0,_,i,h=>by omega
 |n+1,h,i,hi=>by
  simp only[cO] at h
  by_cases e:(ks n).isNil=true
  .by_cases e2:i=n
   .subst e2;cases hk:ks i<;>first|rfl| (rw[hk] at e;cases e)
   rw[Uj e] at h;exact Av ks n (by omega) i (by omega)
  rw[Ui e] at h;omega
def GG(ks:Nat->Nd):∀n,cO ks n=1->∀i,i<n->i≠dx ks n->ks i=.nil
 | 0,_,i,h=>by omega
 |n+1,h,i,hi=>by
  simp only[cO,dx] at h⊢
  by_cases e:(ks n).isNil=true
  .rw[Uj e] at h⊢
   intro a
   by_cases e2:i=n
   .subst e2;cases hk:ks i<;>first|rfl| (rw[hk] at e;cases e)
   exact GG ks n (by omega) i (by omega) a
  rw[Ui e] at h⊢
  intro a
  exact Av ks n (by omega) i (by omega)
def jL:Nd->yL->Prop
 | .leaf _ q _,p=>q=p
 | .ext _ q k,p=>aF q p=q.length/\jL k (p.drop q.length)
 | .branch _ v ks,p=>match p with
  | []=>v≠[]
  |c::r=>jL (ks c.toNat) r
 | _,_=>False
def px:∀(t) (p),aM t p≠[]->jL t p:=by
 intro t;induction t with
 |nil=>intro p h;exact h rfl
 |unread _=>intro p h;exact h rfl
 |leaf h0 q v=>
  intro p h;have h':(if(Nd.leaf h0 q v).kind≠2/\p=(Nd.leaf h0 q v).path then(Nd.leaf h0 q v).value else [])≠[]:=h;split at h'
  .next hh=>exact hh.2.symm
  exact absurd rfl h'
 |ext h0 q k ih=>
  intro p h;simp only[aM] at h;split at h
  .next e=>exact⟨e,ih _ h⟩
  exact absurd rfl h
 |branch h0 v ks ih=>
  intro p h;cases p with
  |nil=>exact h
  |cons c r=>exact ih _ r h
def DZ{t dep}(h:aA t dep):iW t dep:=⟨h.bB,h.full,h.deep⟩
def Bq:∀(t) (dep:Nat),pO dep t->t.some->t.path.length<=80 - dep
 | .leaf _ _ _,_,h,_=>by have:_+_<=80:=h;simp only[Nd.path];omega
 | .ext _ _ _,_,h,_=>by have:_+_<=80:=h.1;simp only[Nd.path];omega
 | .nil,_,_,_=>UD _
 | .unread _,_,_,_=>UD _
 | .branch _ _ _,_,_,_=>UD _
def GO{q}{k:Nd}{dep}(c:aw q)(hs:k.some)(a:aA k (dep+q.length))(d:dep+q.length<=80):aA (aX q k) dep:=by
 have b:=yT hs (DZ a);have:=Bq k _ a.deep hs;exact⟨b.1,b.2,b.3,Ba c (by omega) hs a.aK⟩
structure JY(t':Nd)(dep:Nat):Prop where
 ok:aA t' dep
 tight:cW t'
def tX{i}(h:i<16):aw [UInt8.ofNat i]:=λx a=>by
 obtain rfl:=Uo.1 a
 rw[U3];omega
def DS{G ks}{v:yL}{dep j}(b:∀i,i<16->aA (ks i) (dep+1))(l:∀i,i<16->cW (ks i))(m:v.length<=160)(h1:1<=dj v ks 16)(o:dep<=80)(h:cd G ks v dep=.ok j):JY j dep/\j.some:=by
 rw[oh] at h1;unfold cd at h;by_cases h0:cO ks 16=0
 .rw[Uj h0] at h;cases h;have r:v≠[]:=λe=>by rw[h0,Uj e] at h1;omega
  exact⟨⟨⟨r,trivial,o,pA (λ_ h=>by cases h) (UD _) m⟩,q9 _ _⟩,trivial⟩
 rw[Ui h0] at h;by_cases h2:1<cO ks 16\/v≠[]
 .rw[Uj h2] at h;cases h;have n:2<=dj v ks 16:=by
   rw[oh];rcases h2 with h2|h2
   .omega
   rw[Ui h2];omega
  have a:iW (dN ks v) dep:=vP n λi hi=>DZ (b i hi)
  exact⟨⟨⟨a.1,a.2,a.3,r6 m λi hi=>(b i hi).aK⟩,vH l⟩,trivial⟩
 rw[Ui h2] at h;let⟨f,hs⟩:=nt ks 16 (by omega);cases hr:dG G (ks (dx ks 16)) (dep+1) false with
 |error c=>rw[hr] at h;cases h
 |ok k=>rw[hr] at h;cases h;let⟨d,_,q,_,_⟩:=nf (b _ f) hr;have g:k.some:=(gM k).1 (by rw[q];exact(gM _).2 hs);have p:=xD k (dep+1) g d.full d.deep;exact⟨⟨GO (tX f) g d p,vG ((Ey hr).2 (by omega) (l _ f))⟩,qu _ _ g⟩
def lk(G:yB->Option yB):∀(t) (p) (dep:Nat) (b),aA t dep->bK t->dD t p->jL t p->aw p->dep+p.length<=80->bI G t p dep=.ok b->JY b dep/\(t.kind=3->b.some):=by
 intro t;induction t with
 |nil=>intro p dep b _ _ _ h;exact h.elim
 |unread _=>intro p dep b _ _ _ h;exact h.elim
 |leaf h0 q v=>intro p dep b _ _ _ _ _ _ h;cases h;exact⟨⟨⟨trivial,trivial,trivial,trivial⟩,trivial⟩,λh=>by cases h⟩
 |ext h0 q k ih=>
  intro p dep b a m l f j s h;let⟨e,f⟩:=f;have w:=(iN q p).2;rw[e] at w;have d:lH q (bI G k (p.drop q.length) (dep+q.length))=.ok b:=h;cases hk:bI G k (p.drop q.length) (dep+q.length) with
  |error c=>rw[hk] at d;cases d
  |ok k'=>
   rw[hk] at d;cases d;have z:k.kind=3:=by
    have x:=a.bB.2.1;have B:=l e;cases k<;>first|exact x.elim|exact B.elim|rfl
   let⟨h1,h2⟩:=ih _ _ k' (fq a) m.loose (l e) f (da j _) (by rw[Uu];omega) hk;exact⟨⟨GO a.aK.2.1 (h2 z) h1.ok (by omega),vG h1.tight⟩,λh=>by cases h⟩
 |branch h0 v ks ih=>
  intro p dep b a m l f j s h;have o:∀i,i<16->cW (ks i):=m;cases p with
  |nil=>have g:=a.full.1;have D:v≠[]:=f;let⟨h1,h2⟩:=DS (λi hi=>dA a i hi) o (UD _) (by rw[oh] at g⊢;rw[Ui D] at g;rw[Uj rfl];omega) (by simpa using s) h;exact⟨h1,λ_=>h2⟩
  |cons c r=>
   have g:c.toNat<16:=j c (Uk ..);have C:aw r:=λy E=>j y (Ul _ E)
   have A:dep+1+r.length<=80:=by simp at s;omega
   have d:pU (λk=>cd G (aJ ks c.toNat k) v dep) (bI G (ks c.toNat) r (dep+1))=.ok b:=h;cases hk:bI G (ks c.toNat) r (dep+1) with
   |error c=>rw[hk] at d;cases d
   |ok k'=>
    rw[hk] at d;let⟨h1,_⟩:=ih _ r (dep+1) k' (dA a _ g) (o _ g).loose l f C A hk;have hs:(ks c.toNat).some:=by
     have u:jL (ks c.toNat) r:=f;cases hkc:ks c.toNat with
     |nil=>rw[hkc] at u;exact u.elim
     | _=>trivial
    have F:=pj v ks c.toNat hs 16 g;have H:=a.full.1;have w:dj v (aJ ks c.toNat .nil) 16<=dj v (aJ ks c.toNat k') 16:=kcount_nil_le v ks c.toNat k' 16;let⟨h3,h4⟩:=DS (λi hi=>by
     by_cases e:i=c.toNat
     .subst e;rw[dK];exact h1.ok
     .rw[e9 _ _ _ _ e];exact dA a i hi) (λi hi=>by
     by_cases e:i=c.toNat
     .subst e;rw[dK];exact h1.tight
     rw[e9 _ _ _ _ e];exact o i hi) a.aK.2.1 (by omega) (by omega) d
    exact⟨h3,λ_=>h4⟩
 where
  kcount_nil_le (v:yL) (ks:Nat->Nd) (c:Nat) (k:Nd):∀n,dj v (aJ ks c .nil) n<=dj v (aJ ks c k) n
   | 0=>Ug _
   |n+1=>by
    have:=kcount_nil_le v ks c k n;simp only[dj];by_cases e:n=c
    .subst e;rw[dK,dK];simp[Nd.isNil];omega
    rw[e9 _ _ _ _ e,e9 _ _ _ _ e];omega
def iD(c:yL)(a:Bool):List yL:=if a=true\/32<=c.length then [c] else []
def aW:Nd->Bool->List yL
 | .leaf h p v,top=>iD (Nd.leaf h p v).code top
 | .ext h p k,top=>aW k false++iD (Nd.ext h p k).code top
 | .branch h v ks,top=>(List.range 16).flatMap (λi=>aW (ks i) false)++iD (Nd.branch h v ks).code top
 | _,_=>[]
def OO(c)(a:Bool):(iD c a).length<=1:=by unfold iD;split<;>simp
def qe(P:yL->Bool)(c)(a:Bool):(iD c a).countP P<=1:=Ut List.countP_le_length (OO c a)
def QI(a:Tree->Nat->Bool->Option Nd)(H:sH a)(i:∀x dep bl n,bN 6 x=true->a x dep bl=some n->∀top,aW n top=iD n.code top)(x:Tree)(dep:Nat)(bl:Bool)(k)(h:jC a x dep bl=some k):aW k false=[]:=by
 let⟨h1,h2,_⟩:=xf a H x dep bl k h;by_cases g:∃t,x=ak t
 .obtain⟨t,rfl⟩:=g;rw[xe] at h;split at h
  .cases h;rfl
  split at h
  .cases h
  cases h;rfl
 rw[xg a x dep bl (λt e=>g ⟨t,e⟩)] at h;split at h
 .cases h
 next hb=>
 have h0:ff x=0:=Va λh=>hb (.inl h)
 have c:bN 6 x=true:=by
  unfold ff at h0;by_cases b:bN 6 x=true
  .exact b
  rw[Ui b] at h0;cases h0
 have d:=(H x dep bl k c h).2.1;have f:=d.read;have j:js k:=by
  have:=h2.aK;cases k with
  |nil=>exact f.elim
  |unread _=>exact f.elim
  |leaf _ _ _=>exact this.1
  |ext _ _ _=>exact this.1
  |branch _ _ _=>exact this.1
 have hs:=j.short d.hash;rw[i x dep bl k c h false];unfold iD;rw[Ui];rintro (h|h)
 .cases h
 omega
def AX{f:Nat->List yL}:∀n,(∀i,i<n->f i=[])->(List.range n).flatMap f=[]
 | 0,_=>rfl
 |n+1,h=>by
  rw[List.range_succ,List.flatMap_append,AX n λi hi=>h i (by omega)]
  simp[h n (by omega)]
def Pt:∀(d:Nat) (x:Tree) (dep:Nat) (bl:Bool) (n),bN 6 x=true->a6 d x dep bl=some n->∀b,aW n b=iD n.code b:=by
 intro d;induction d with
 |zero=>intro x dep bl n _ h;cases h
 |succ d ih=>
  intro x dep bl n f h;have c:=QI (a6 d) (wK d) ih;cases x with
  |slice ks es=>
   have e:a6 (d+1) (.slice ks es) dep bl=if ks.length=2/\bl=false then jy (a6 d) (ks.getD 0 (ak [])) (ks.getD 1 (ak [])) dep else if ks.length=17 then iI (a6 d) ks dep else none:=rfl;rw[e] at h;split at h
   .unfold jy at h;split at h
    .split at h
     .cases h
     split at h
     .split at h
      .split at h
       .cases h
       cases h;exact λ_=>rfl
      cases h
     split at h
     .next k a=>
      split at h
      .cases h
      cases h;intro b;simp only[aW];rw[c _ _ _ k a,VL]
     cases h
    cases h
   split at h
   .unfold iI at h;split at h
    .split at h
     .cases h
     split at h
     .next hc=>
      cases h;intro b;simp only[aW];rw[AX 16 (λi hi=>by
       let⟨k,a⟩:=xd (a6 d) ks dep 16 hc.1 i hi;simp only[a,Option.getD_some];exact c _ _ _ k a),VL]
     cases h
    cases h
   cases h
  | _=>cases h
def PN(h)(t:Nd)(b:Bool)(a:t.read):aW (t.gY h) b=aW t b:=by
 cases t with
 |nil=>exact a.elim
 |unread _=>exact a.elim
 | _=>rfl
def FJ(P:yL->Bool){G t t1 dep bl}(h:dG G t dep bl=.ok t1)(A1:Bool):(aW t1 A1).countP P<=(aW t A1).countP P+1:=by
 cases t with
 |unread h0=>
  have h':iC G h0 dep bl=.ok t1:=h;unfold iC at h';split at h'
  .cases h'
  next x _=>
  let⟨_,A2,hh,hc,ht,_⟩:=oT h';unfold gS at h';rw[Ui (λh=>h ht)] at h';split at h'
  .cases h'
  cases hd:dC x.data.toList with
  |error c=>rw[hd] at h';cases h'
  |ok y=>
   rw[hd] at h';let⟨_,hf,_⟩:=Br _ y hd;have A0:CY h0 (a6 6 y dep bl)=.ok t1:=h';cases hn:a6 6 y dep bl with
   |none=>rw[hn] at A0;cases A0
   |some m=>rw[hn] at A0;cases A0;rw[PN h0 m A1 (wK 6 y dep bl m hf hn).2.1.read,Pt 6 y dep bl m hf hn A1];exact Ut (qe P _ _) (Nat.le_add_left _ _)
 | _=>cases h;exact Nat.le_succ _
def uD(P:yL->Bool)(ks:Nat->Nd)(c:Nat)(k):∀n,((List.range n).flatMap λi=>aW (aJ ks c k i) false).countP P+(if c<n then(aW (ks c) false).countP P else 0)=((List.range n).flatMap λi=>aW (ks i) false).countP P+(if c<n then(aW k false).countP P else 0)
 | 0=>by simp
 |n+1=>by
  have a:=uD P ks c k n
  simp only[List.range_succ,List.flatMap_append,VP,List.flatMap_cons,List.flatMap_nil,UU]
  by_cases e:n=c
  .subst e
   rw[dK]
   rw[Ui (Nat.lt_irrefl _),Ui (Nat.lt_irrefl _)] at a
   rw[Uj (Nat.lt_succ_self _),Uj (Nat.lt_succ_self _)]
   omega
  rw[e9 _ _ _ _ e]
  by_cases h:c<n
  .rw[Uj h,Uj h] at a
   rw[Uj (by omega),Uj (by omega)]
   omega
  rw[Ui h,Ui h] at a
  rw[Ui (by omega),Ui (by omega)]
  omega
def nZ(P:yL->Bool)(h q k)(a:Bool):(aW k false).countP P<=(aW (.ext h q k) a).countP P/\(aW (.ext h q k) a).countP P<=(aW k false).countP P+1:=by
 have h1:(aW (.ext h q k) a).countP P=(aW k false).countP P+(iD (Nd.ext h q k).code a).countP P:=by
  show(aW k false++iD (Nd.ext h q k).code a).countP P=_;rw[VP]
 have:=qe P (Nd.ext h q k).code a;omega
def PH(P:yL->Bool)(h b v d)(ks:Nat->Nd)(c:Nat)(e:c<16)(k)(a:Bool):(aW (.branch h v (aJ ks c k)) a).countP P+(aW (ks c) false).countP P<=(aW (.branch b d ks) a).countP P+(aW k false).countP P+1:=by
 have h1:(aW (.branch h v (aJ ks c k)) a).countP P=((List.range 16).flatMap λi=>aW (aJ ks c k i) false).countP P+(iD (Nd.branch h v (aJ ks c k)).code a).countP P:=by
  show((List.range 16).flatMap (λi=>aW (aJ ks c k i) false)++iD (Nd.branch h v (aJ ks c k)).code a).countP P=_;rw[VP]
 have h2:(aW (.branch b d ks) a).countP P=((List.range 16).flatMap λi=>aW (ks i) false).countP P+(iD (Nd.branch b d ks).code a).countP P:=by
  show((List.range 16).flatMap (λi=>aW (ks i) false)++iD (Nd.branch b d ks).code a).countP P=_;rw[VP]
 have h3:=uD P ks c k 16;rw[Uj e,Uj e] at h3;have:=qe P (Nd.branch h v (aJ ks c k)).code a;omega
def FK(P:yL->Bool)(G:yB->Option yB):∀(f:Nat) (t) (p) (dep:Nat) (bl a:Bool),mP t->aw p->aA t dep->(aW (dc G f t p dep bl).1 a).countP P<=(aW t a).countP P+2*(p.length+1):=by
 intro f;induction f with
 |zero=>intro t p dep bl a _ _ _;exact Nat.le_add_right _ _
 |succ f ih=>
  intro t p dep bl a m e g;simp only[dc];cases hr:dG G t dep bl with
  |error c=>exact Nat.le_add_right _ _
  |ok t1=>
   have h1:=FJ P hr a;have b:=(nf g hr).1;simp only[lG];cases t1 with
   |ext h q k=>
    simp only[gj];split
    .next hs=>
     have i:=(iN q p).2;rw[hs] at i;have j:=b.bB.1;have n:q.length≠0:=λh=>j (UH.1 h)
     have h2:=ih k (p.drop q.length) (dep+q.length) true false b.bB.2.2 (da e _) (fq b);have h3:=nZ P h q k a;have h4:=nZ P h q (dc G f k (p.drop q.length) (dep+q.length) true).1 a;rw[Uu] at h2;show(aW (.ext h q _) a).countP P<=_;omega
    show(aW (.ext h q k) a).countP P<=_;omega
   |branch h v ks=>
    cases p with
    |nil=>simp only[gj];omega
    |cons c r=>simp only[gj];have d:=e c (Uk ..);have h2:=ih (ks c.toNat) r (dep+1) false false (b.bB _ d) (λy l=>e y (Ul _ l)) (dA b _ d);have h3:=PH P h h v v ks c.toNat d (dc G f (ks c.toNat) r (dep+1) false).1 a;simp only[UJ];omega
   | _=>simp only[gj];omega
def ay(t:Nd)(r:yL)(d:Nat):Nd×yL×Nat×Bool:=match t with
 | .ext _ q k=>if aF q r=q.length then(k,r.drop q.length,d+q.length,true) else(.nil,[],0,false)
 | .branch _ _ ks=>match r with
  | []=>(.nil,[],0,false)
  |c::r=>(ks c.toNat,r,d+1,false)
 | _=>(.nil,[],0,false)
def dm(t:Nd)(d:Nat):List yL:=if d=0\/t.hash≠[] then [t.code] else []
def dS:Nat->Nd->yL->Nat->List yL
 | 0,_,_,_=>[]
 |f+1,t,r,d=>if t.isNil=true then [] else dm t d++dS f (ay t r d).1 (ay t r d).2.1 (ay t r d).2.2.1
structure BV(w:World)(S:Nat->Prop)(t:Nd)(r:yL)(d:Nat)(u:Option Addr)(S':Nat->Prop):Prop where
 at_:At w (ay t r d).1 S' (pV u)
 sub:∀x,S' x->S x
 opened:dD (ay t r d).1 (ay t r d).2.1
 ok:aA (ay t r d).1 (ay t r d).2.2.1
 mx:aw (ay t r d).2.1
 deep:(ay t r d).2.2.1+(ay t r d).2.1.length<=80
 less:(ay t r d).1≠.nil->(ay t r d).2.1.length+1<=r.length
def JT(W:World)(S:Nat->Prop)(t:Nd)(r:yL)(d:Nat)(e:Ending)(w':World):Prop:=
 ∃u S',e=rV (cz (pV u) (ae (ay t r d).2.1) (ay t r d).2.2.1 (ay t r d).2.2.2)/\BV W S t r d u S'/\yW W w'
def zu{W S t r d}(h:ay t r d=(.nil,[],0,false)):BV W S t r d none (λ_=>False):=by
 constructor<;>(try rw[h])
 .rfl
 .exact λ_ h=>h.elim
 .trivial
 .exact mE 0
 .exact λ_ h=>(Vs h).elim
 .decide
 exact λh=>absurd rfl h
def Kr(W S t)(b:Nat)(r)(d:Nat)(bl:Bool)(f:At W t S (pV (qA b)))(i:aA t d)(o:dD t r)(n:aw r)(E:d+r.length<=80):yC 112 #[cz (pV (qA b)) (ae r) d bl] W (JT W S t r d):=by
 have u:=i.aK;cases t with
 |nil=>have h:Value.pointer (qA b)=pV none:=f;cases h
 |unread _=>exact o.elim
 |leaf h q v=>let⟨l,a,_,B⟩:=f;cases a;exact(zP b h q v _ _ r (by have:=u.2.2.1;omega) d bl W B).mono λe w'⟨h1,h2⟩=>⟨none,_,h1,zu rfl,h2⟩
 |ext h q k=>
  let⟨l,L,C,a,D,B,G,w⟩:=f;cases a;obtain⟨A,rfl⟩:=w.ptr;have K:=u.2.2.1;by_cases e:aF q r=q.length
  .have m:aF r q=q.length:=by rwa[oP]
   have F:=(iN q r).2;rw[e] at F;have J:=Vt.2 i.bB.1;have g:ay (.ext h q k) r d=(k,r.drop q.length,d+q.length,true):=by simp only[ay,Uj e]
   refine(wM b h q k A _ r (by omega) (by omega) m d (by omega) bl W B).mono λen w'⟨h1,h2⟩=>⟨A,C,by rwa[g],?_,h2⟩
   constructor<;>(try rw[g])
   .exact w
   .exact λx p=>(G x p).1
   .exact o e
   .exact fq i
   .exact da n _
   .show d+q.length+(r.drop q.length).length<=80;rw[Uu];omega
   intro _;show(r.drop q.length).length+1<=r.length;rw[Uu];omega
  have m:aF r q≠q.length:=by rwa[oP]
  have g:ay (.ext h q k) r d=(.nil,[],0,false):=by simp only[ay,Ui e]
  exact(zQ b h q k _ _ r (by omega) (by omega) m d bl W B).mono λen w'⟨h1,h2⟩=>⟨none,_,by rwa[g],zu g,h2⟩
 |branch h v ks=>
  cases r with
  |nil=>let⟨l,M,s,a,_,B,_⟩:=f;cases a;exact(zR b h v ks _ _ d bl W B).mono λen w'⟨h1,h2⟩=>⟨none,_,h1,zu rfl,h2⟩
  |cons c r=>
   let⟨l,U,s,a,D,B,z⟩:=f.kids;cases a;have j:=n c (Uk ..);have I:r.length+1+d<=80:=by simp at E;omega
   refine(wN b h v ks _ _ c r j (U c.toNat) rfl (by omega) d (by omega) bl W B).mono λen w'⟨h1,h2⟩=>⟨U c.toNat,s c.toNat,h1,⟨z.at_ _ j,λx p=>(z.sub _ x j p).1,o,dA i _ j,λy H=>n y (Ul _ H),?_,?_⟩,h2⟩
   .show d+1+r.length<=80;omega
   intro _;simp[ay]
def oo:(yP.info? 9).map (λi=>(i.zero,i.size,i.bytes))=some (some (sV ⟨#[]⟩),1,16):=by kernel_rfl
def kT(l:List yL):List Value:=l.map λx=>sV (ae x)
structure xQ(w:World)(ga:Nat)(C:List yL)(g:Nat)(wr:World)(done:List yL)(t:Nd)(S:Nat->Prop)(u:Option Addr)(r:yL)(d:Nat)(bl:Bool):Prop where
 here:db wr ga u (ae r) d bl
 at_:At w t S (pV u)
 lt:∀x,S x->x<w.heap.size
 opened:dD t r
 ok:aA t d
 mx:aw r
 deep:d+r.length<=80
 fuel:t≠.nil->r.length+1<=g
 all:C=done++dS g t r d
 sd:done.length+g<=81
 eG:yW w wr
def Sy(w:World)(u:Option Addr)(t:Nd)(S:Nat->Prop)(r:yL)(hA:At w t S (pV u))(hK:aA t 0)(ho:dD t r)(hn:aw r)(hd:r.length<=80):yC 86 #[cz (pV u) (ae r) 0 false] w λe w'=>∃v,e=rV v/\w'.ownsRow (w.heap.size+1) 9 1 v (dS 81 t r 0).length (kT (dS 81 t r 0))/\yW w w':=by
 have HA:=aa hA.cut;have HP:yH (aA t 0/\dD t r/\aw r/\r.length<=80):=⟨hK,ho,hn,hd⟩
 obtain⟨C,X⟩:=yX (dS 81 t r 0);rw[<-X];have HC:=aa X;obtain⟨i0,C4,C8,C9,D0⟩:=Vp oo;clear hA hK ho hn hd X;unfold cz;go_enter func86,ntmps86
 go_wp2;go_loopg [3] 81 (λg sl wr=>∃done c A K r d bl,xQ w w.heap.size C g wr done c A K r d bl/\wr.ownsRow (w.heap.size+1) 9 1 sl done.length (kT done))
 .obtain⟨h1,h2,h3,h4⟩:=HP.o;refine⟨[],t,_,u,r,0,false,⟨UG _ _,HA.o,λx I=>I.2,h2,h1,h3,by omega,λ_=>by omega,HC.o,by simp,(Un _ _).alloc (Ug _) _⟩,U8 _ _ _ _⟩
 obtain⟨i,c,A,K,r,d,bl,f,A1⟩:=hrel;have D:=aa f;have P:=aa A1;obtain⟨a0,a1,a2,a3⟩:=f.here.cells;obtain⟨A8,A9,B0,B1⟩:=f.here.free;have z:=f.here.lt;by_cases hs:c.some
 .obtain⟨b,D1,D2,hu,C7,B⟩:=f.at_.ai hs;cases hu;have A0:c≠.nil:=λe=>by rw[e] at hs;exact hs
  obtain⟨o,Z⟩:∃o,gk=o+1:=⟨gk - 1,by have:=f.fuel A0;omega⟩
  have A2:c.read:=by
   have:=f.opened;cases c<;>first|exact hs.elim|exact this.elim|trivial
  have L:bU wr b c D1 D2:=(f.eG.block b B.lt).trans B;have c1:=L.c1;have B6:yH (∀W,yW w W->yC 115 #[pV (qA b)] W λe w'=>e=rV (sV (ae c.code))/\yW W w'):=λW Y=>xH W c A _ (f.at_.below Y) f.ok.aK.lL A2 (f.ok.aK.ow A2)
  have A4:yH (∀W,yW w W->yC 112 #[gV #[pV (qA b),sV (ae r),i6 (d:Int),bV bl]] W (JT W A c r d)):=λW Y=>Kr W A c b r d bl (f.at_.below Y) f.ok f.opened f.mx f.deep
  have M:yH (C=i++(dm c d++dS o (ay c r d).1 (ay c r d).2.1 (ay c r d).2.2.1)):=by
   show _=_;rw[f.all,Z];simp only[dS];rw[Ui (by rw[(gM c).2 hs];simp)]
  have A3:=aa Z;have n:=aa f.eG;have D5:i.length<=81:=by have:=f.sd;omega
  have H:=ke c.hash;have A5:yH (∀(V j:World) (l:Option Addr) (S':Nat->Prop),yW w V->BV V A c r d l S'->db j w.heap.size l (ae (ay c r d).2.1) (ay c r d).2.2.1 (ay c r d).2.2.2->yW w j->xQ w w.heap.size C o j (i++dm c d) (ay c r d).1 S' l (ay c r d).2.1 (ay c r d).2.2.1 (ay c r d).2.2.2):=λV j l S' h1 h2 h3 h4=>by
   refine⟨h3,h2.at_.kept λx I _=>(h1.block x (D.o.lt x (h2.sub x I))).symm,λx I=>D.o.lt x (h2.sub x I),h2.opened,h2.ok,h2.mx,h2.deep,λhk=>?_,by rw[UI];exact M.o,?_,h4⟩
   .have:=h2.less hk;have:=D.o.fuel A0;omega
   have:=D.o.sd;have hl:(dm c d).length<=1:=by unfold dm;split<;>simp
   rw[Uq];omega
  have D3:b<wr.heap.size:=L.lt;clear f A1 A0 A2 B L C7 Z;by_cases E:d=0\/c.hash≠[]
  .have O:yH (dm c d=[c.code]):=by show _=_;unfold dm;rw[Uj E]
   have C0:((d:Int) == 0)=true\/(((d:Int) == 0)=false/\(ae c.hash).toList.isEmpty=false):=by
    by_cases h0:d=0
    .left;simp[h0]
    right;exact⟨by simp;omega,by rw[H];simp;exact E.resolve_left h0⟩
   generalize c.code=CO at*;clear E H;go_upto_region 3 with fail
   go_cut [17] (λv wx=>v=bV true/\wx=wr)
   .rcases C0 with B2|⟨B2,H⟩;all_goals
     go_wp2;go_meet;exact⟨rfl,rfl⟩
   obtain⟨rfl,rfl⟩:=hcut;go_wp2_with fail
   refine(B6.o _ n.o).mono ?_;rintro e w1⟨rfl,q⟩;have B5:=aa (n.o.trans (q.mono n.o.size));have Q:=aa (rE P.o q);have e0:=(q.cell (p:=⟨w.heap.size,0,none⟩) z).trans a0;have e1:=(q.cell (p:=⟨w.heap.size,1,none⟩) z).trans a1;have e2:=(q.cell (p:=⟨w.heap.size,2,none⟩) z).trans a2;have e3:=(q.cell (p:=⟨w.heap.size,3,none⟩) z).trans a3;have B4:db w1 w.heap.size (qA b) (ae r) d bl:=D.o.here.kept (q.block _ z);have B8:=aa B4;have C1:w.heap.size<w1.heap.size:=Us z q.size;clear q B4;go_wp2_with (at_builtin;refine U0 _ rfl (.tmp 18) (.tmp 22) 63 rfl (w.heap.size+1) 9 i0 (sV ⟨#[]⟩) 1 16 underlying63 C4 C8 C9 D0 rfl (by decide) _ i.length (kT i) rfl (Q.o.alloc _) ⟨w1.heap.size,0,none⟩ 1 1 [sV (ae CO)] rfl rfl (Vx _ _ _) ?c2 (by omega) ?c3 ?c4 ?c5 _ rfl ?c6)
   case c2=>intro v hv;simp at hv;subst hv;rfl
   case c3=>unfold maxLen;omega
   case c4=>omega
   case c5=>simp;omega
   intro g2 A7 w2 B3 J B9 C5;have B7:=aa B3;have F:yH (yW w w2):=(B5.o.alloc (by omega) _).grown J (by simp;omega) (λk hk=>by have:=(Q.o.lt k hk).1;omega);have C2:w.heap.size<w2.heap.size:=by have:=F.o.size;have:=J.size;simp at this;omega
   have A6:yH (db w2 w.heap.size (qA b) (ae r) d bl):=by
    show db _ _ _ _ _ _;refine B8.o.kept ?_;rw[J.block w.heap.size (by simp;omega) (λh=>by have:=(Q.o.lt _ h.symm).1;omega)];exact U6 _ _ _ C1
   obtain⟨f0,f1,f2,f3⟩:=A6.o.cells;clear B3 J B9 C5 e0 e1 e2 e3 a0 a1 a2 a3 A8 A9 B0 B1;go_wp2_with fail
   refine(A4.o _ F.o).mono ?_;rintro e w4⟨l,S',rfl,G,s⟩;have m:db w4 w.heap.size (qA b) (ae r) d bl:=A6.o.kept (s.block _ C2);obtain⟨x0,x1,x2,x3⟩:=m.cells;obtain⟨y0,y1,y2,y3⟩:=m.free;have C3:=m.lt;have N:=aa (F.o.trans (s.mono F.o.size));have R:yH (w4.ownsRow (w.heap.size+1) 9 1 (lV (qA g2) (i.length+1) A7) (i++dm c d).length (kT (i++dm c d))):=by
    have:=rE B7.o s;show World.ownsRow _ _ _ _ _ _ _;rw[O.o];unfold kT at this⊢;rw[Uq,Vl];exact this
   have T:yH (∀j,db j w.heap.size l (ae (ay c r d).2.1) (ay c r d).2.2.1 (ay c r d).2.2.2->yW w j->xQ w w.heap.size C o j (i++dm c d) (ay c r d).1 S' l (ay c r d).2.1 (ay c r d).2.2.1 (ay c r d).2.2.2):=λj h1 h2=>A5.o w2 j l S' F.o G h1 h2
   have U:=aa m;clear G s m f0 f1 f2 f3;unfold cz;go_wp2;go_roundg o
   case measure=>have:=A3.o;omega
   case rel=>
    refine⟨_,_,S',l,_,_,_,T.o _ (U.o.set _ _ _ _) (sx N.o (Ug _) _ _ _ _),?_⟩;have y:w.heap.size<w.heap.size+1:=by omega
    exact VG (VG (VG (VG R.o (a:=⟨w.heap.size,0,none⟩) y _) (a:=⟨w.heap.size,1,none⟩) y _) (a:=⟨w.heap.size,2,none⟩) y _) (a:=⟨w.heap.size,3,none⟩) y _
  have O:yH (dm c d=[]):=by show _=_;unfold dm;rw[Ui E]
  have B2:((d:Int) == 0)=false:=by simp;omega
  have D4:(ae c.hash).toList.isEmpty=true:=by rw[H];simp;exact Va λh=>E (.inr h)
  clear E H;go_wp2_with fail
  refine(A4.o _ n.o).mono ?_;rintro e w4⟨l,S',rfl,G,s⟩;have m:db w4 w.heap.size (qA b) (ae r) d bl:=D.o.here.kept (s.block _ z);obtain⟨x0,x1,x2,x3⟩:=m.cells;obtain⟨y0,y1,y2,y3⟩:=m.free;have C3:=m.lt;have N:=aa (n.o.trans (s.mono n.o.size));have R:yH (w4.ownsRow (w.heap.size+1) 9 1 u3 (i++dm c d).length (kT (i++dm c d))):=by
   have:=rE P.o s;show World.ownsRow _ _ _ _ _ _ _;rw[O.o];rw[UU];exact this
  have T:yH (∀j,db j w.heap.size l (ae (ay c r d).2.1) (ay c r d).2.2.1 (ay c r d).2.2.2->yW w j->xQ w w.heap.size C o j (i++dm c d) (ay c r d).1 S' l (ay c r d).2.1 (ay c r d).2.2.1 (ay c r d).2.2.2):=λj h1 h2=>A5.o wr j l S' n.o G h1 h2
  have U:=aa m;clear G s m a0 a1 a2 a3 A8 A9 B0 B1 z;unfold cz;go_wp2;go_roundg o
  case measure=>have:=A3.o;omega
  case rel=>
   refine⟨_,_,S',l,_,_,_,T.o _ (U.o.set _ _ _ _) (sx N.o (Ug _) _ _ _ _),?_⟩;have y:w.heap.size<w.heap.size+1:=by omega
   exact VG (VG (VG (VG R.o (a:=⟨w.heap.size,0,none⟩) y _) (a:=⟨w.heap.size,1,none⟩) y _) (a:=⟨w.heap.size,2,none⟩) y _) (a:=⟨w.heap.size,3,none⟩) y _
 have C6:c=.nil:=by cases c<;>first|rfl|exact absurd trivial hs
 subst C6;have hu:Value.pointer K=pV none:=f.at_;cases hu;have M:yH (C=i):=by
  show _=_;rw[f.all];cases gk<;>simp[dS,Nd.isNil]
 have n:=aa f.eG;clear f A1;go_wp2;go_ret;rw[M.o];exact⟨u3,rfl,P.o,n.o⟩
def aQ(G:yB->Option yB)(t:Nd)(key:yB):List yL:=if 40<key.size then [] else if(aG G t key).2=0 then dS 81 (aG G t key).1 (aD key) 0 else []
def nj{w:World}{base base' e a v n b}(h:w.ownsRow base e a v n b)(d:base'<=base):w.ownsRow base' e a v n b:=by
 refine⟨h.1,?_⟩;rcases h.2 with h0|⟨g,cap,c,j,f,i⟩
 .exact .inl h0
 exact .inr ⟨g,cap,c,j,Ut d f,i⟩
def BR{M w b d S t G}(c:eX w b d S t)(n:lX M w d G S)(key:yB)(Q:key.size<=maxLen):yC 44 #[pV (qA b),sV key] w λe w'=>∃v w1,e=rV (tV #[v,i6 (cK G t key:Int)])/\gF w b d S (bE G t key) w1/\yW w1 w'/\w'.ownsRow w1.heap.size 9 1 v (aQ G t key).length (kT (aQ G t key))/\(cK G t key≠0->v=lV none 0 0):=by
 unfold maxLen at Q;by_cases a:40<key.size
 .have f:yH (aQ G t key=[]/\cK G t key=1/\bE G t key=t):=by unfold aQ cK bE;rw[Uj a,Uj a,Uj a];exact⟨rfl,rfl,rfl⟩
  have N:=aa c;have P:(40:Int)<(key.size:Int):=by omega
  clear c n a;generalize aQ G t key=V at*;generalize cK G t key=E at*;generalize bE G t key=T at*;go_enter func44,ntmps44
  go_wp2_with fail
  go_ret2;obtain⟨h1,h2,h3⟩:=f.o;rw[h1,h2,h3];exact⟨_,w,rfl,N.o.now (Un _ _),Un _ _,U8 _ _ _ _,λ_=>rfl⟩
 have o:key.size<=40:=by omega
 have r:=tg c n key o;have f:yH (cK G t key=(aG G t key).2/\bE G t key=(aG G t key).1/\aQ G t key=if(aG G t key).2=0 then dS 81 (aG G t key).1 (aD key) 0 else []):=by unfold aQ cK bE;rw[Ui a,Ui a,Ui a];exact⟨rfl,rfl,rfl⟩
 have g:yH (yC 76 #[pV (qA b),sV key] w λe w'=>gF w b d S (aG G t key).1 w'/\(∃(l:Option Addr)(k:yL)(i:Nat)(bl:Bool),e=rV (tV #[gV #[pV l,sV (ae k),i6 (i:Int),bV bl],i6 ((aG G t key).2:Int)]))):=
  r.mono λe w'⟨h1,l,k,i,bl,h2,_⟩=>⟨h1,l,k,i,bl,h2⟩
 have P:decide ((40:Int)<(key.size:Int))=false:=by simp;omega
 by_cases h0:(aG G t key).2=0
 .have z:yH (aA (aG G t key).1 0/\dD (aG G t key).1 (aD key)):=⟨jk G t key c.ok,kA G t key c.ok o h0⟩
  have p:yH (cK G t key=0/\bE G t key=(aG G t key).1/\aQ G t key=dS 81 (aG G t key).1 (aD key) 0):=by
   obtain⟨h1,h2,h3⟩:=f.o;rw[Uj h0] at h3;exact⟨h1.trans h0,h2,h3⟩
  have A:yH (∀(u:Option Addr) (W:World),yC 79 #[pV u,sV key] W λe w'=>e=rV (gV #[pV u,sV (ae (aD key)),i6 0,bV false])/\yW W w'):=λu W=>vJ u key (by omega) W
  have J:yH ((aD key).length<=80):=by show _<=80;rw[g6];omega
  have K:=aa (b8 key);rw[h0] at g;clear c n a o r f h0;generalize aQ G t key=V at*;generalize cK G t key=E at*;generalize bE G t key=T at*;generalize (aG G t key).1=T1 at*;generalize aD key=KP at*;go_enter func44,ntmps44
  go_wp2_with fail
  apply g.m;rintro e w1⟨j,l,k,i,bl,rfl⟩;have q:=aa j;obtain⟨⟨S',C,_⟩,D⟩:=j;obtain⟨u,s,B⟩:=C.at_;have d1:=s.c1;have U:=s.lt;have X:=D.size;have y:yH (∀W,yW w1 W->yC 86 #[gV #[pV u,sV (ae KP),i6 0,bV false]] W λe w'=>∃v,e=rV v/\w'.ownsRow (W.heap.size+1) 9 1 v (dS 81 T1 KP 0).length (kT (dS 81 T1 KP 0))/\yW W w'):=λW O=>Sy W u T1 S' KP (B.below O) z.o.1 z.o.2 K.o J.o
  clear C D s B g;go_wp2_with fail
  refine(A.o u _).mono ?_;rintro e w2⟨rfl,x⟩;have m:=aa (((Un w1.heap.size w1).alloc (Ug _) _).trans (x.mono (by simp)));have Y:w1.heap.size<w2.heap.size:=by have:=x.size;simp at this;omega
  clear x A;go_wp2_with fail
  refine(y.o _ (m.o.alloc m.o.size _)).mono ?_;rintro e w3⟨v,rfl,H,F⟩;have I:yH (yW w1 w3):=(m.o.alloc m.o.size _).trans (F.mono (by simp;omega));have L:yH (w3.ownsRow w1.heap.size 9 1 v (dS 81 T1 KP 0).length (kT (dS 81 T1 KP 0))):=nj H (by simp;omega);clear H F y;go_wp2_with fail
  go_ret2;obtain⟨h1,h2,h3⟩:=p.o;rw[h1,h2,h3];exact⟨v,w1,rfl,q.o,I.o,L.o,λh=>absurd rfl h⟩
 have R:(((aG G t key).2:Int) != 0)=true:=by simp;omega
 have p:yH (cK G t key=(aG G t key).2/\bE G t key=(aG G t key).1/\aQ G t key=[]):=by
  obtain⟨h1,h2,h3⟩:=f.o;rw[Ui h0] at h3;exact⟨h1,h2,h3⟩
 clear c n a o r f h0;generalize aQ G t key=V at*;generalize cK G t key=E at*;generalize bE G t key=T at*;generalize (aG G t key).1=T1 at*;generalize (aG G t key).2=E1 at*;go_enter func44,ntmps44
 go_wp2_with fail
 apply g.m;rintro e w1⟨j,l,k,i,bl,rfl⟩;have q:=aa j;clear j g;go_wp2_with fail
 go_ret2;obtain⟨h1,h2,h3⟩:=p.o;rw[h1,h2,h3];exact⟨_,w1,rfl,q.o,(Un _ _).alloc (Ug _) _,U8 _ _ _ _,λ_=>rfl⟩
def T9{M w b a S t G}(d:eX w b a S t)(c:lX M w a G S)(key:yB)(f:key.size<=maxLen):yC 44 #[pV (qA b),sV key] w λe w'=>(∃v,e=rV (tV #[v,i6 (cK G t key:Int)])/\w'.ownsRow w.heap.size 9 1 v (aQ G t key).length (kT (aQ G t key)))/\gF w b a S (bE G t key) w':=
 (BR d c key f).mono λ_ _⟨v,_,h1,h2,h3,h4,_⟩=>⟨⟨v,h1,nj h4 h2.2.size⟩,h2.below h3⟩
def gQ(w:World)(v:Value)(b:List yB):Prop:=∃(a:Option Addr)(cap:Nat),v=lV a b.length cap/\(b=[]\/∃g o,a=some ⟨g,o,none⟩/\∀i p,b[i]? =some p->w.cell? ⟨g,o+i,none⟩=some (sV p))
def kC(a:List yB):Bool:=decide (96<a.length) || a.any λp=>decide (4096<p.size)
def Lx(w v)(b:List yB)(J:gQ w v b)(z:b.length<=maxLen)(hs:∀p∈b,p.size<=maxLen):yC 87 #[v] w λe w'=>e=rV (bV (kC b))/\w'=w:=by
 obtain⟨a,cap,rfl,l⟩:=J;unfold maxLen at z hs;by_cases h96:96<b.length
 .have F:yH (kC b=true):=by show _=_;unfold kC;rw[Uw h96];rfl
  have u:(96:Int)<(b.length:Int):=by omega
  clear l hs;generalize kC b=B at*;generalize b.length=N at*;go_enter func87,ntmps87
  go_wp2;go_ret;rw[F.o];exact⟨rfl,rfl⟩
 have f:kC b=b.any λp=>decide (4096<p.size):=by unfold kC;rw[Uv h96];rfl
 have n:yH (∀i,i<b.length->∃g o p,a=some ⟨g,o,none⟩/\yc w g (o+i) (sV p)/\b[i]? =some p/\p.size<=9223372036854775807):=λi hi=>by
  rcases l with h|⟨g,o,h1,h2⟩
  .rw[h] at hi;simp at hi
  have c:b[i]? =some b[i]:=Uh hi;exact⟨g,o,b[i],h1,h2 i _ c,c,hs _ (Vc hi)⟩
 have H:yH (∀(i:Nat) (p:yB),b[i]? =some p->4096<p.size->kC b=true):=λi p c d=>by
  rw[f];exact List.any_eq_true.2 ⟨p,UQ c,by simpa using d⟩
 have D:yH ((∀(i:Nat) (p:yB),b[i]? =some p->¬4096<p.size)->kC b=false):=λh=>by
  rw[f,List.any_eq_false];intro p c;obtain⟨i,hi⟩:=List.getElem?_of_mem c;simpa using h i p hi
 have u:¬(96:Int)<(b.length:Int):=by omega
 have I:b.length<=96:=by omega
 clear l hs f z h96;generalize kC b=B at*;obtain⟨N,j⟩:=yX b.length;have G:=aa j;rw[<-j] at u I n⊢;clear j;go_enter func87,ntmps87
 go_wp2;go_loopg [3] N (λg r wr=>∃i:Nat,g=N - i/\i<=N/\r=i6 (i:Int)/\wr=w/\yH (∀(k:Nat) (p:yB),k<i->b[k]? =some p->¬4096<p.size))
 .exact⟨0,rfl,by omega,rfl,rfl,λk _ y=>absurd y (by omega)⟩
 obtain⟨i,x,hi,rfl,rfl,s⟩:=hrel;have E:=aa x;clear x;by_cases M:i<N
 .obtain⟨g,o,p,rfl,c0,c,P⟩:=n.o i M;have t:=aa c;have L:(i:Int)<(N:Int):=by omega
  have O:(p.size:Int)<=9223372036854775807:=by omega
  clear c;by_cases d:4096<p.size
  .have K:(4096:Int)<(p.size:Int):=by omega
   go_wp2;go_ret;rw[H.o i p t.o d];exact⟨rfl,rfl⟩
  have K:¬(4096:Int)<(p.size:Int):=by omega
  have A:=aa d;clear d;go_wp2;go_roundg (N - (i+1))
  case measure=>have:=E.o;omega
  case rel=>
   refine⟨i+1,rfl,by omega,by go_num,rfl,λk q y m=>?_⟩;by_cases e:k=i
   .subst e;rw[t.o] at m;cases m;exact A.o
   exact s.o k q (by omega) m
 obtain rfl:i=N:=by omega
 have L:¬(i:Int)<(i:Int):=by omega
 have C:yH (B=false):=D.o λk p c=>s.o k p (by rw[G.o];exact(Ux.1 c).1) c
 go_wp2;go_ret;rw[C.o];exact⟨rfl,rfl⟩
def Ko(i:Nat)(h:i<16):IntKind.u8.wrap (i:Int)=(i:Int):=by
 have:∀k:Fin 16,IntKind.u8.wrap (k.val:Int)=(k.val:Int):=by decide
 exact this ⟨i,h⟩
def jg(w:World)(S:Nat->Prop)(r:Except Nat Nd)(e:Ending)(w':World):Prop:=match r with
 | .error c=>e=rV (tV #[pV none,iV .i64 (c:Int)])/\yW w w'
 | .ok n=>∃u,e=rV (tV #[pV u,iV .i64 0])/\At w' n (λx=>S x\/w.heap.size<=x) (pV u)/\bO S w w'
def jg.after{w w0:World}{S r e w'}(a:yW w w0)(h:jg w0 S r e w'):jg w S r e w':=by
 cases r with
 |error c=>exact⟨h.1,a.trans (h.2.mono a.size)⟩
 |ok n=>let⟨u,h1,h2,h3⟩:=h;exact⟨u,h1,h2.mono λx b=>b.imp id (Ut a.size),(bO.iP a).trans h3 λx b=>.inl b⟩
def DO(M:Nat->Prop)(w:World)(C:Nat)(st u0:Option Addr)(G:yB->Option yB)(ks:Nat->Nd)(S:Nat->Prop)(U:Nat->Option Addr)(q:Nat->Nat->Prop)(v:yL)(dep:Nat)(hT:fF w C st u0) (y:Kids w ks S U q) (P:∀i,i<16->aA (ks i) (dep+1)) (I:v.length<=160) (hG:j5 M w st G) (hs:∀k t,G k=some t->t.size<=maxLen) (hM:∀x,M x->x<w.heap.size) (D3:dep<=100) (T:aB w) (B4:∀x,S x->3<=x):yC 113 #[pV (qA C),gU U,sV (ae v),i6 (dep:Int)] w (jg w S (cd G ks v dep)):=by
 have HU:yH (∀i,i<16->((ks i).isNil=true/\U i=none)\/((ks i).isNil=false/\∃b,U i=some ⟨b,0,none⟩)):=λi hi=>by
  have h:=y.at_ i hi;cases o:(ks i).isNil with
  |true=>
   left;have e:ks i=.nil:=by cases hk:ks i<;>first|rfl| (rw[hk] at o;cases o)
   rw[e] at h;have h2:=h;injection h2 with h3;exact⟨rfl,h3⟩
  |false=>right;obtain⟨b,_,_,e,_⟩:=h.ai ((gM _).1 o);have h2:=e;injection h2 with h3;exact⟨rfl,b,h3⟩
 have C3:yH (∀i,i<16->((ks i).isNil=true->cO ks (i+1)=cO ks i/\dx ks (i+1)=dx ks i)/\((ks i).isNil=false->cO ks (i+1)=cO ks i+1/\dx ks (i+1)=i)):=λi _=>by
  constructor
  .intro h;simp only[cO,dx,Uj h];exact⟨rfl,trivial⟩
  intro h;simp only[cO,dx,h];exact⟨rfl,rfl⟩
 have C1:yH (∀i,i<=16->cO ks i<=i/\dx ks i<=i):=λi _=>by
  have:∀n,cO ks n<=n/\dx ks n<=n:=λn=>by
   induction n with
   |zero=>exact⟨Ug _,Ug _⟩
   |succ n ih=>simp only[cO,dx];constructor<;>split<;>omega
  exact this i
 have HL:yH (∀W,yW w W->yC 132 #[sV ⟨#[]⟩,sV (ae v)] W (Made w S (dw [] v))):=λW f=>
  (qh W [] v ⟨.inl rfl,(λ_ h=>by cases h),UD _,I⟩ (ov _ _ _ (UD _) I) (T.below f)).mono λe w' h=>(h.mono λx g=>g.elim).after f
 have HB:yH (∀W,yW w W->yC 137 #[gU U,sV (ae v)] W (Made w S (dN ks v))):=λW f=>
  (wO W v ks S U q ⟨λi hi=>(y.at_ i hi).below f,y.sub,y.jf⟩ ⟨.inl rfl,I,λi hi=>(P i hi).aK.lL⟩ (sq _ _ _ I λi hi=>(P i hi).aK) (T.below f)).mono λe w' h=>h.after f
 have HR:yH (∀(i b:Nat),i<16->U i=some ⟨b,0,none⟩->∀W,yW w W->yC 111 #[pV (qA C),pV (qA b),i6 ((dep+1:Nat):Int),bV false] W (λe w'=>xY W (q i) b (dG G (ks i) (dep+1) false) e w'/\∃z:Int,e=rV (i6 z))):=λi b hi p W f=>by
  have hA:=y.at_ i hi;rw[p] at hA;refine(Ev M W C b st u0 G (ks i) (q i) (dep+1) false (hT.kept (f.block C hT.lt)) (hA.below f) (P i hi) (λW' h hh g=>hG W' h hh λx B7=>(g x B7).trans (f.block x (hM x B7))) hs (by omega) (T.below f)).mono λe w' h=>⟨h,?_⟩
  cases H:dG G (ks i) (dep+1) false with
  |error c=>rw[H] at h;exact⟨_,h.1⟩
  |ok n=>rw[H] at h;exact⟨_,h.1⟩
 have HJ:yH (∀(i b:Nat) (k:Nd),i<16->(ks i).isNil=false->dG G (ks i) (dep+1) false=.ok k->∀W E,yW w W->At E k (λx=>q i x\/W.heap.size<=x) (ptr b)->bO (q i) W E->∀s,yW E s->yC 114 #[sV (ae [UInt8.ofNat i]),pV (qA b)] s λe w'=>∃u,e=rV (pV u)/\jg w S (.ok (aX [UInt8.ofNat i] k)) (rV (tV #[pV u,i6 0])) w'):=λi b k hi o H W E f C5 A5 s F=>by
  obtain⟨X,_,C8,_,_⟩:=nf (P i hi) H;have A8:k.some:=(gM k).1 (by rw[C8];exact o);have hp:=Bq k _ X.deep A8;have hd:=xD k (dep+1) A8 X.full X.deep;have T2:aB E:=(T.below f).nL A5 λx g=>B4 x (y.sub i x hi g)
  refine(xj s [UInt8.ofNat i] k (λx=>q i x\/W.heap.size<=x) _ (tX hi) (by simp;omega) A8 X.aK (C5.below F) (T2.below F)).mono λe w' h=>?_
  obtain⟨u,e1,e2,e3⟩:=h;have C6:=(A5.kU F).kU e3;refine⟨u,e1,u,rfl,e2.mono λx g=>?_,((bO.iP f).trans C6 λx g=>.inl g).mono λx g=>y.sub i x hi g⟩;rcases g with(g|g) |g
  .exact .inl (y.sub i x hi g)
  .exact .inr (Ut f.size g)
  exact .inr (by have:=f.size;have:=A5.size;have:=F.size;omega)
 have D8:(ae v).size<=160:=by rw[aN];exact I
 have A1:(ae v).toList.isEmpty=decide (v=[]):=ke _;have J:yH ((cO ks 16=0->cd G ks v dep=.ok (dw [] v))/\(cO ks 16≠0->(1<cO ks 16\/v≠[])->cd G ks v dep=.ok (dN ks v))/\(cO ks 16≠0->¬(1<cO ks 16\/v≠[])->cd G ks v dep=lH [UInt8.ofNat (dx ks 16)] (dG G (ks (dx ks 16)) (dep+1) false))):=by
  refine⟨λh=>?_,λh h2=>?_,λh h2=>?_⟩
  .unfold cd;rw[Uj h]
  .unfold cd;rw[Ui h,Uj h2]
  unfold cd;rw[Ui h,Ui h2]
 have A3:yH (cO ks 16≠0->dx ks 16<16/\(ks (dx ks 16)).isNil=false):=λh=>by
  obtain⟨h1,h2⟩:=nt ks 16 (by omega);exact⟨h1,(gM _).2 h2⟩
 obtain⟨d,N⟩:=yX (w.alloc (.cells #[pV (U 0),pV (U 1),pV (U 2),pV (U 3),pV (U 4),pV (U 5),pV (U 6),pV (U 7),pV (U 8),pV (U 9),pV (U 10),pV (U 11),pV (U 12),pV (U 13),pV (U 14),pV (U 15)] 165));have A6:eZ d w.heap.size U:=by rw[N];exact eZ.made w U
 have B8:d.heap.size=w.heap.size+1:=by rw[N];simp
 have B5:yW w d:=by rw[N];exact(Un _ _).alloc (Ug _) _
 have HZ:=aa B8;have B0:=aa A6;have D:=aa B5;have C4:=aa N;obtain⟨y0,y1,y2,y3,y4,y5,y6,y7,y8,y9,y10,y11,y12,y13,y14,y15⟩:=A6.all;have D0:w.heap.size<d.heap.size:=by omega
 clear hT y P I hG hs hM T B4 N B5 B8 A6;generalize cd G ks v dep=R at*;unfold gU at HB⊢;go_enter func113,ntmps113
 go_upto_region 1 with fail
 rw[<-C4.o];go_wp2;go_loopg [10,11,12] 16 (λgk c l r wr=>∃(i:Nat),gk=16 - i/\i<=16/\r=i6 i/\c=i6 (cO ks i:Int)/\l=i6 (dx ks i:Int)/\d=wr)
 .exact⟨0,rfl,by omega,rfl,rfl,rfl,rfl⟩
 obtain⟨i,hg,hi,rfl,rfl,rfl,rfl⟩:=hrel;have HG:=aa hg;clear hg;have A7:=C1.o i hi;by_cases Z:i<16
 .have ci:=B0.o.cell i Z;have A0:=C3.o i Z;have D5:(i:Int)<16:=by omega
  rcases HU.o i Z with⟨o,p⟩|⟨o,b,p⟩
  .obtain⟨h1,h2⟩:=A0.1 o;have K:yH (cO ks (i+1)=cO ks i/\dx ks (i+1)=dx ks i):=⟨h1,h2⟩
   rw[p] at ci;clear A0 o p h1 h2 y0 y1 y2 y3 y4 y5 y6 y7 y8 y9 y10 y11 y12 y13 y14 y15;generalize cO ks i=j at*;generalize dx ks i=a at*;go_wp2;go_roundg (16 - (i+1))
   .exact⟨i+1,rfl,by omega,by go_num,by rw[K.o.1],by rw[K.o.2],rfl⟩
   have:=HG.o;omega
  obtain⟨h1,h2⟩:=A0.2 o;have K:yH (cO ks (i+1)=cO ks i+1/\dx ks (i+1)=i):=⟨h1,h2⟩
  rw[p] at ci;clear A0 o p h1 h2 y0 y1 y2 y3 y4 y5 y6 y7 y8 y9 y10 y11 y12 y13 y14 y15;generalize cO ks i=j at*;generalize dx ks i=a at*;go_wp2;go_roundg (16 - (i+1))
  .exact⟨i+1,rfl,by omega,by go_num,by rw[K.o.1];go_num,by rw[K.o.2],rfl⟩
  have:=HG.o;omega
 obtain rfl:i=16:=by omega
 obtain⟨j,B3⟩:=yX (cO ks 16);obtain⟨a,B2⟩:=yX (dx ks 16);rw[<-B3] at J A3 A7⊢;rw[<-B2] at J A3 A7⊢;clear B3 B2 Z hi;by_cases h0:j=0
 .subst h0;have B:yH (R=.ok (dw [] v)):=J.o.1 rfl;have C0:yH (yC 132 #[sV ⟨#[]⟩,sV (ae v)] d λe w'=>∃u,e=rV (pV u)/\yH (jg w S (.ok (dw [] v)) (rV (tV #[pV u,i6 0])) w')):=(HL.o d D.o).mono λe w' m=>by
   obtain⟨u,e1,e2,e3⟩:=m;exact⟨u,e1,u,rfl,e2,bO.iP e3⟩
  clear y0 y1 y2 y3 y4 y5 y6 y7 y8 y9 y10 y11 y12 y13 y14 y15;generalize ae v=V at*;go_wp2_with fail
  apply C0.m;rintro e w1⟨u,rfl,A⟩;go_wp2;go_ret2;rw[B.o];exact A.o
 have q0:((j:Int) == 0)=false:=by rw[Vd];omega
 by_cases m:1<j\/v≠[]
 .have B:=aa (J.o.2.1 h0 m);have B9:yH (yC 137 #[gV #[pV (U 0),pV (U 1),pV (U 2),pV (U 3),pV (U 4),pV (U 5),pV (U 6),pV (U 7),pV (U 8),pV (U 9),pV (U 10),pV (U 11),pV (U 12),pV (U 13),pV (U 14),pV (U 15)],sV (ae v)] d λe w'=>∃u,e=rV (pV u)/\yH (jg w S (.ok (dN ks v)) (rV (tV #[pV u,i6 0])) w')):=(HB.o d D.o).mono λe w' m=>by
   obtain⟨u,e1,e2,e3⟩:=m;exact⟨u,e1,u,rfl,e2,bO.iP e3⟩
  have C9:(decide ((1:Int)<(j:Int))=true)\/(decide ((1:Int)<(j:Int))=false/\(ae v).toList.isEmpty=false):=by
   by_cases h1:1<j
   .exact .inl (Uw (by omega))
   refine .inr ⟨Uv (by omega),?_⟩;rw[A1];exact Uv (m.resolve_left h1)
  clear m h0 A1;generalize ae v=V at*;rcases C9 with q1|⟨q1,q2⟩;all_goals
   go_wp2_with fail
   apply B9.m;rintro e w1⟨u,rfl,A⟩;go_wp2;go_ret2;rw[B.o];exact A.o
 have B6:v=[]:=Vn λh=>m (.inr h)
 obtain rfl:j=1:=by
  have:¬1<j:=λh=>m (.inl h)
  omega
 obtain⟨O,Y⟩:=A3.o h0;have B:=aa (J.o.2.2 h0 m);have D7:(ae v).toList.isEmpty=true:=by rw[A1];exact Uw B6
 obtain⟨b,p⟩:∃b,U a=some ⟨b,0,none⟩:=by
  rcases HU.o a O with⟨h1,_⟩|⟨_,b,h2⟩
  .rw[h1] at Y;cases Y
  exact⟨b,h2⟩
 have ck:=B0.o.cell a O;rw[p] at ck;have D6:(a:Int)<16:=by omega
 have D9:=Ko a O;have Q:yH (yC 111 #[pV (qA C),pV (qA b),i6 ((dep:Int)+1),bV false] d (λe w'=>xY d (q a) b (dG G (ks a) (dep+1) false) e w')):=(HR.o a b O p d D.o).mono λe w' h=>h.1
 have A2:=λk H=>HJ.o a b k O Y H d
 have D2:(dep:Int)<=100:=by omega
 clear m h0 A1 B6 A7 q0 y0 y1 y2 y3 y4 y5 y6 y7 y8 y9 y10 y11 y12 y13 y14 y15 Y;cases hrd:dG G (ks a) (dep+1) false with
 |error L=>
  rw[hrd] at B Q;have C7:=vX hrd;have D4:((L:Int) != 0)=true:=by simp;omega
  have A4:yH (yC 111 #[pV (qA C),pV (qA b),i6 ((dep:Int)+1),bV false] d (λe w'=>e=rV (i6 (L:Int))/\yH (yW w w'))):=Q.m λe w' h=>⟨h.1,D.o.trans (h.2.mono D.o.size)⟩
  clear A2 hrd C7;generalize ae v=V at*;go_wp2_with fail
  apply A4.m;rintro e w1⟨rfl,A⟩;go_wp2;go_ret2;rw[B.o];exact⟨rfl,A.o⟩
 |ok k=>
  have B1:=A2 k hrd;rw[hrd] at B Q;have A4:yH (yC 111 #[pV (qA C),pV (qA b),i6 ((dep:Int)+1),bV false] d (λe w'=>e=rV (i6 0)/\yH (∀s,Below w'.heap.size w' s->yC 114 #[sV (strOfNums [(a:Int)]),pV (qA b)] s λe A9=>∃u,e=rV (pV u)/\jg w S (.ok (aX [UInt8.ofNat a] k)) (rV (tV #[pV u,i6 0])) A9))):=Q.m λe w' h=>⟨h.1,λs F=>by
   rw[tU a (by omega)];exact B1 w' D.o h.2.1 h.2.2 s F⟩
  clear A2 hrd B1;generalize ae v=V at*;go_wp2_with fail
  apply A4.m;rintro e w1⟨rfl,A⟩;have D1:=xF w1 (a:Int);have C2:yH (yC 114 #[sV (strOfNums [(a:Int)]),pV (qA b)] (w1.alloc (.cells #[iV .u8 (a:Int)] 5)) λe A9=>∃u,e=rV (pV u)/\yH (jg w S (.ok (aX [UInt8.ofNat a] k)) (rV (tV #[pV u,i6 0])) A9)):=A.o _ ((Un _ _).alloc (Ug _) _);clear A;go_wp2_with fail
  apply C2.m;rintro e w2⟨u,rfl,HF⟩;go_wp2;go_ret2;rw[B.o];exact HF.o
def jg.mono{w S S' r e w'}(h:jg w S r e w')(hs:∀x,S x->S' x):jg w S' r e w':=by
 cases r with
 |error c=>exact h
 |ok n=>let⟨u,h1,h2,h3⟩:=h;exact⟨u,h1,h2.mono λx a=>a.imp (hs x) id,h3.mono hs⟩
def jg.tuple{w S r e w'}(h:jg w S r e w'):∃u ec,e=rV (tV #[pV u,i6 ec]):=by
 cases r with
 |error c=>exact⟨none,c,h.1⟩
 |ok n=>let⟨u,h1,_⟩:=h;exact⟨u,0,h1⟩
def oG(w:World)(S:Nat->Prop)(r:Except Nat Nd)(e:Ending)(w':World):Prop:=jg w S r e w'/\(r=.ok .nil->yW w w')
def DT{G ks v dep c}(h:cd G ks v dep=.error c):c=9\/c=10\/c=11:=by
 unfold cd at h;split at h
 .cases h
 split at h
 .cases h
 cases hr:dG G (ks (dx ks 16)) (dep+1) false with
 |error e=>rw[hr] at h;cases h;exact vX hr
 |ok k=>rw[hr] at h;cases h
def Ag(G:yB->Option yB):∀(t) (p) (dep c:Nat),bI G t p dep=.error c->c=9\/c=10\/c=11:=by
 intro t;induction t with
 |nil=>intro p dep c h;cases h
 |unread _=>intro p dep c h;cases h
 |leaf _ _ _=>intro p dep c h;cases h
 |ext h0 q k ih=>
  intro p dep c h;have h':lH q (bI G k (p.drop q.length) (dep+q.length))=.error c:=h;cases hk:bI G k (p.drop q.length) (dep+q.length) with
  |error e=>rw[hk] at h';cases h';exact ih _ _ _ hk
  |ok k'=>rw[hk] at h';cases h'
 |branch h0 v ks ih=>
  intro p dep c h;cases p with
  |nil=>exact DT (v:=[]) h
  |cons a r=>
   have h':pU (λk=>cd G (aJ ks a.toNat k) v dep) (bI G (ks a.toNat) r (dep+1))=.error c:=h;cases hk:bI G (ks a.toNat) r (dep+1) with
   |error e=>rw[hk] at h';cases h';exact ih _ _ _ _ hk
   |ok k'=>rw[hk] at h';exact DT h'
def Lg(ks:Nat->Nd)(c:Nat)(a b):aJ (aJ ks c a) c b=aJ ks c b:=by
 funext i
 unfold aJ;split<;>rfl
def Mn{G ks v dep e c k}(b:c<16)(d:2<=dj v ks 16)(hs:(ks c).some)(h:cd G (aJ ks c k) v dep=.error e):k=.nil:=by
 cases hk:k.isNil with
 |true=>cases k<;>first|rfl|cases hk
 |false=>
  exfalso;have f:(aJ ks c k c).some:=by rw[dK];exact(gM _).1 hk
  have h1:=pj v ks c hs 16 b;have h2:=pj v (aJ ks c k) c f 16 b;rw[Lg] at h2;rw[oh] at h2 d h1;rw[oh v (aJ ks c .nil)] at h1 h2;unfold cd at h;split at h
  .cases h
  split at h
  .cases h
  next hn=>
  have a:v=[]:=Vn λa=>hn (.inr a)
  have h3:¬1<cO (aJ ks c k) 16:=λh=>hn (.inl h)
  rw[Uj a] at h2 d h1;omega
def uo{G t p dep t'}(hk:aA t dep)(hL:bK t)(ho:dD t p)(hh:jL t p)(hn:aw p)(hd:dep+p.length<=80)(h2:t.kind=2\/t.kind=3)(h:bI G t p dep=.ok t'):t'.some:=by
 rcases h2 with h2|h2
 .cases t with
  |ext h0 q k=>
   let⟨e,A0⟩:=hh;have A2:=(iN q p).2;rw[e] at A2;have h':lH q (bI G k (p.drop q.length) (dep+q.length))=.ok t':=h;cases hk':bI G k (p.drop q.length) (dep+q.length) with
   |error c=>rw[hk'] at h';cases h'
   |ok k'=>
    rw[hk'] at h';cases h';have A1:k.kind=3:=by
     have hf:=hk.bB.2.1;have A3:=ho e;cases k<;>first|exact hf.elim|exact A3.elim|rfl
    exact qu _ _ ((lk G k _ _ k' (fq hk) hL.loose (ho e) A0 (da hn _) (by rw[Uu];omega) hk').2 A1)
  | _=>cases h2
 exact(lk G t p dep t' hk hL ho hh hn hd h).2 h2
def uU(t:Nd):Prop:=∀(M:Nat->Prop) (w:World) (a:Nat) (b u0:Option Addr) (G:yB->Option yB) (S:Nat->Prop) (u:Option Addr) (r:yL) (dep:Nat) (bl:Bool),
 fF w a b u0->At w t S (pV u)->aA t dep->bK t->dD t r->jL t r->aw r->dep+r.length<=80->j5 M w b G->(∀k t,G k=some t->t.size<=maxLen)->(∀x,M x->x<w.heap.size)->aB w->(∀x,S x->3<=x/\x≠a/\¬M x/\x<w.heap.size)->
 yC 78 #[pV (qA a),gV #[pV u,sV (ae r),iV .i64 (dep:Int),bV bl]] w (oG w S (bI G t r dep))
def Ky(h q v):uU (.leaf h q v):=by
 intro M w x t u0 G S u r dep bl k a d f o m n l c hs g T i;obtain⟨b,U,s,e,j,B⟩:=a.ai trivial;have h2:=e;injection h2 with h3;subst h3;have c0:=B.c0;have p:b<w.heap.size:=UE w _ c0;show Calls _ _ _ _ (oG w S (.ok .nil));clear a B j e k d f o m n l c hs g T i;generalize ae r=R at*;go_enter func78,ntmps78
 go_wp2;go_ret2;exact⟨⟨none,rfl,rfl,bO.iP ((Un _ _).alloc (Ug _) _)⟩,λ_=>(Un _ _).alloc (Ug _) _⟩
def KA(h v:yL)(ks:Nat->Nd)(M:Nat->Prop)(w:World)(f:Nat)(p u0:Option Addr)(G:yB->Option yB)(S:Nat->Prop)(u:Option Addr)(dep:Nat)(bl:Bool)(n:fF w f p u0) (r:At w (.branch h v ks) S (pV u)) (y:aA (.branch h v ks) dep) (N:dep<=80) (s:j5 M w p G) (hs:∀k t,G k=some t->t.size<=maxLen) (m:∀x,M x->x<w.heap.size) (T:aB w) (A:∀x,S x->3<=x/\x≠f/\¬M x/\x<w.heap.size):yC 78 #[pV (qA f),gV #[pV u,sV ⟨#[]⟩,i6 (dep:Int),bV bl]] w (jg w S (cd G ks [] dep)):=by
 obtain⟨b,U,J,V,L,B,l⟩:=r.kids;subst V;have q:yH (∀W,yW w W->yC 113 #[pV (qA f),gU U,sV ⟨#[]⟩,i6 (dep:Int)] W λe w'=>∃u j,e=rV (tV #[pV u,i6 j])/\yH (jg w S (cd G ks [] dep) (rV (tV #[pV u,i6 j])) w')):=λW d=>
  (DO M W f p u0 G ks (λx=>S x/\x≠b) U J [] dep (n.kept (d.block f n.lt)) ⟨λi hi=>(l.at_ i hi).below d,l.sub,l.jf⟩ (λi hi=>dA y i hi) (UD _) (λK h P c=>s K h P λx E=>(c x E).trans (d.block x (m x E))) hs (λx c=>Us (m x c) d.size) (by omega) (T.below d) (λx c=>(A x c.1).1)).mono λe w' D=>by
   obtain⟨u,j,O⟩:=D.tuple;subst O;exact⟨u,j,rfl,(D.mono λx c=>c.1).after d⟩
 obtain⟨k0,k1,k2,k3,k4,k5,k6,k7,k8,k9,k10,k11,k12,k13,k14,k15⟩:=B.all;have c0:=B.c0;have Q:=B.lt;generalize cd G ks [] dep=R at*;clear n r y N s hs m T A L B l;obtain⟨a,g⟩:=yX (w.alloc (.cells #[pV (qA b),sV ⟨#[]⟩,i6 (dep:Int),bV bl] 127));have o:yW w a:=by rw[g];exact(Un _ _).alloc (Ug _) _
 have X:a.heap.size=w.heap.size+1:=by rw[g];simp
 have C:a.heap[w.heap.size]? =some (.cells #[pV (qA b),sV ⟨#[]⟩,i6 (dep:Int),bV bl] 127 (0,0)):=by rw[g];exact UG w _
 have y2:a.cell? ⟨w.heap.size,2,none⟩=some (i6 (dep:Int)):=by rw[Ur a _ 2 _ _ _ C];rfl
 have Z:b<a.heap.size:=by omega
 have A0:w.heap.size<a.heap.size:=by omega
 have z:∀i,a.cell? ⟨b,i,none⟩=w.cell? ⟨b,i,none⟩:=λi=>Uz (o.block b Q)
 have z0:=(z 5).trans k0;have z1:=(z 6).trans k1;have z2:=(z 7).trans k2;have z3:=(z 8).trans k3;have z4:=(z 9).trans k4;have z5:=(z 10).trans k5;have z6:=(z 11).trans k6;have z7:=(z 12).trans k7;have z8:=(z 13).trans k8;have z9:=(z 14).trans k9;have z10:=(z 15).trans k10;have z11:=(z 16).trans k11;have z12:=(z 17).trans k12;have z13:=(z 18).trans k13;have z14:=(z 19).trans k14;have z15:=(z 20).trans k15;have F:=aa o;have I:=aa g;clear o X C g z k0 k1 k2 k3 k4 k5 k6 k7 k8 k9 k10 k11 k12 k13 k14 k15;unfold gU at q;go_enter func78,ntmps78
 go_upto_region 5 with fail
 rw[<-I.o];clear c0;go_region_with (go_at_call 113;refine(q.o _ F.o.drew).mono ?_;rintro e1 w1⟨u1,Y,rfl,H⟩)
 all_goals
  go_wp2;go_ret2;exact H.o
def KB(h q k)(ih:uU k):uU (.ext h q k):=by
 intro M w O st u0 G S u r dep bl J hA l z s C D Y V hs H T I;have n:∀N,bI G (.ext h q k) r dep=.ok N->N.some:=λN ht=>uo l z s C D Y (.inl rfl) ht
 obtain⟨m,L⟩:=C;have A0:=(iN q r).2;rw[m] at A0;obtain⟨b,kp,i,hu,A9,B,o,F⟩:=hA;have h2:Value.pointer u=pV (qA b):=hu;injection h2 with h3;subst h3;obtain⟨t,rfl⟩:=F.ptr;have B1:=l.aK.2.2.1;have U:aF r q=q.length:=by rw[oP];exact m
 have R:yH (∀W,yW w W->yC 112 #[gV #[pV (qA b),sV (ae r),i6 (dep:Int),bV bl]] W λe w'=>e=rV (gV #[pV t,sV (ae (r.drop q.length)),i6 ((dep+q.length:Nat):Int),bV true])/\yW W w'):=λW d=>
  wM b h q k t _ r (by omega) (by omega) U dep (by omega) bl W ((d.block b B.lt).trans B)
 have X:bI G (.ext h q k) r dep=lH q (bI G k (r.drop q.length) (dep+q.length)):=rfl;have Z:k.kind=3:=by
  have hf:=l.bB.2.1;have B0:=s m;cases k<;>first|exact hf.elim|exact B0.elim|rfl
 have v:yH (∀W,yW w W->yC 78 #[pV (qA O),gV #[pV t,sV (ae (r.drop q.length)),i6 ((dep+q.length:Nat):Int),bV true]] W (jg W i (bI G k (r.drop q.length) (dep+q.length)))):=λW d=>
  (ih M W O st u0 G i t (r.drop q.length) (dep+q.length) true (J.kept (d.block O J.lt)) (F.below d) (fq l) z.loose (s m) L (da D _) (by rw[Uu];omega) (λW' h C c=>V W' h C λx A2=>(c x A2).trans (d.block x (H x A2))) hs (λx c=>Us (H x c) d.size) (T.below d) (λx c=>by
   obtain⟨a1,a2,a3,a4⟩:=I x (o x c).1;exact⟨a1,a2,a3,Us a4 d.size⟩)).mono λe w' hq=>hq.1
 have HJ:yH (∀W a u1 k',bI G k (r.drop q.length) (dep+q.length)=.ok k'->yW w W->At a k' (λx=>i x\/W.heap.size<=x) (pV u1)->bO i W a->yC 114 #[sV (ae q),pV u1] a λe w'=>∃u,e=rV (pV u)/\jg w S (.ok (aX q k')) (rV (tV #[pV u,i6 0])) w'):=λW a u1 k' hr d y f=>by
  obtain⟨h1,h2⟩:=lk G k _ _ k' (fq l) z.loose (s m) L (da D _) (by rw[Uu];omega) hr;have A1:=h2 Z;have hp:=Bq k' _ h1.ok.deep A1;have T2:aB a:=(T.below d).nL f λx c=>(I x (o x c).1).1
  refine(xj a q k' _ u1 l.aK.2.1 (by omega) A1 h1.ok.aK y T2).mono λe w' hm=>?_
  obtain⟨u,e1,e2,e3⟩:=hm;refine⟨u,e1,u,rfl,e2.mono λx c=>?_,((bO.iP d).trans (f.kU e3) λx c=>.inl c).mono λx c=>(o x c).1⟩;rcases c with(c|c) |c
  .exact .inl (o x c).1
  .exact .inr (Ut d.size c)
  exact .inr (by have:=d.size;have:=f.size;omega)
 have A7:yH (∀W a,yW w W->bO i W a->yc a b 0 (i6 2)/\yc a b 2 (sV (ae q))/\b<a.heap.size):=λW a d f=>by
  have A:a.heap[b]? =w.heap[b]? :=(f.block b (Us B.lt d.size) λc=>(o b c).2 rfl).trans (d.block b B.lt);have E:bU a b (.ext h q k) (pV t) (λ_=>cN):=A.trans B;exact⟨E.c0,E.c2,E.lt⟩
 have c0:yc w b 0 (i6 2):=B.c0;have B5:=B.lt;have K:∀j,bI G k (r.drop q.length) (dep+q.length)=.error j->((j:Int) != 0)=true:=λj h=>by
  have:=Ag G _ _ _ _ h;simp;omega
 rw[X] at n⊢;clear hu J l z s L D Y V hs H T I A9 B o F m A0 B1 U X Z;generalize ae (r.drop q.length)=RD at*;generalize ae r=RR at*;generalize ((dep+q.length:Nat):Int)=DD at*;cases hX:bI G k (r.drop q.length) (dep+q.length) with
 |error j=>
  rw[hX] at v n;have B3:=K j hX;have A4:yH (lH q (Except.error j)=.error j):=rfl;clear K n hX;go_enter func78,ntmps78
  go_wp2_with fail
  refine(R.o _ ((Un _ _).alloc (Ug _) _)).mono ?_;rintro e w1⟨rfl,p⟩;have g:yH (yW w w1):=((Un w.heap.size w).alloc (Ug _) _).trans (p.mono (by simp));clear p;go_wp2_with fail
  refine(v.o _ g.o).mono ?_;rintro e w2⟨rfl,A⟩;have A3:yH (yW w w2):=g.o.trans (A.mono g.o.size);clear A;go_wp2;go_ret2;exact⟨⟨rfl,A3.o⟩,λh=>by cases h⟩
 |ok k'=>
  rw[hX] at v n;have P:=λW a u1=>HJ.o W a u1 k' hX
  have A5:yH (∀W a u1,yW w W->At a k' (λx=>i x\/W.heap.size<=x) (pV u1)->bO i W a->yC 114 #[sV (ae q),pV u1] a λe w'=>∃u,e=rV (pV u)/\jg w S (.ok (aX q k')) (rV (tV #[pV u,i6 0])) w'):=P;have A8:yH (lH q (Except.ok k')≠.ok .nil):=λe=>by
   have h1:=n _ e;exact h1
  have A4:yH (lH q (Except.ok k')=.ok (aX q k')):=rfl;clear P K n hX;go_enter func78,ntmps78
  go_wp2_with fail
  refine(R.o _ ((Un _ _).alloc (Ug _) _)).mono ?_;rintro e w1⟨rfl,p⟩;have g:yH (yW w w1):=((Un w.heap.size w).alloc (Ug _) _).trans (p.mono (by simp));clear p;go_wp2_with fail
  refine(v.o _ g.o).mono ?_;rintro e w2⟨u2,rfl,y,f⟩;obtain⟨d0,d2,B4⟩:=A7.o w1 w2 g.o f;have A6:yH (yC 114 #[sV (ae q),pV u2] w2 λe w'=>∃u,e=rV (pV u)/\yH (jg w S (.ok (aX q k')) (rV (tV #[pV u,i6 0])) w')):=A5.o w1 w2 u2 g.o y f;clear y f c0;generalize ae q=Q at*;go_wp2_with fail
  apply A6.m;rintro e w3⟨u3,rfl,HF⟩;go_wp2;go_ret2;exact⟨HF.o,λh=>absurd h A8.o⟩
end Go.Proofs.YteaodagofkcgbaaGreatDoor
