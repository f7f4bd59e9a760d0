import Derived.Test.YteaodagofkcgbaaGreatDoorT
import Derived.Test.YteaodagofkcgbaaGreatDoorV
open Go.Proofs.Tryz
open Go.Proofs.Tryz renaming prog→yP
open Go.Value renaming string→sV,pointer→pV,int→iV,slice→lV,bool→bV,tuple→tV,agg→gV
open Go.Ending renaming returned→rV
namespace Go.Proofs.YteaodagofkcgbaaGreatDoor
open Go.RowKit
set_option maxRecDepth 100000
set_option maxHeartbeats 0
set_option linter.all false
def vN:∀(q r),aF q (q++r)=q.length
 | [],r=>by cases r<;>rfl
 |x::q,r=>by simp[aF,vN q r]
def DW(q p)(h:aF q p=q.length):p=q++p.drop q.length:=by
 induction q generalizing p with
 |nil=>rfl
 |cons x q ih=>
  cases p with
  |nil=>simp[aF] at h
  |cons y p=>
   simp only[aF] at h;by_cases e:x=y
   .rw[Uj e] at h;have:=ih p (by simpa using h);rw[e];simpa using this
   rw[Ui e] at h;simp at h
def Mr(q p):aF q p=q.length↔∃r,p=q++r:=⟨λh=>⟨_,DW q p h⟩,λ⟨r,h⟩=>by rw[h];exact vN q r⟩
def lr(h q v p):aM (.leaf h q v) p=if p=q then v else []:=by
 show(if(Nd.leaf h q v).kind≠2/\p=q then v else [])=_;by_cases e:p=q
 .rw[Uj ⟨λh=>(by cases h),e⟩,Uj e]
 rw[Ui λh=>e h.2,Ui e]
def lu(h q k r):aM (.ext h q k) (q++r)=aM k r:=by
 show(if aF q (q++r)=q.length then aM k ((q++r).drop q.length) else [])=_;rw[Uj (vN q r),List.drop_left]
def pC(h q k p)(a:∀r,p≠q++r):aM (.ext h q k) p=[]:=by
 show(if aF q p=q.length then _ else [])=_;rw[Ui λh=>let ⟨r,e⟩:=(Mr q p).1 h;a r e]
def Bb(h)(t:Nd)(p):aM (t.gY h) p=aM t p:=by
 cases t<;>first|rfl| (cases p<;>rfl)
def Bc(q v p):aM (dw q v) p=if p=q then v else []:=by
 show aM ((Nd.leaf [] q v).gY _) p=_;rw[Bb,lr]
def qz(q k p):aM (gm q k) p=aM (.ext [] q k) p:=by
 show aM ((Nd.ext [] q k).gY _) p=_;exact Bb _ _ _
def RE(ks:Nat->Nd)(v p):aM (dN ks v) p=aM (.branch [] v ks) p:=by
 show aM ((Nd.branch [] v ks).gY _) p=_;exact Bb _ _ _
def IL(q)(t:Nd)(hs:t.some)(r):aM (aX q t) (q++r)=aM t r:=by
 by_cases a:q=[]
 .subst a;rw[mG];rfl
 cases t with
 |nil=>exact hs.elim
 |unread h=>
  have e:aX q (.unread h)=gm q (.unread h):=by simp only[aX];rw[Ui a]
  rw[e,qz,lu]
 |leaf h p v=>
  have e:aX q (.leaf h p v)=dw (q++p) v:=by simp only[aX];rw[Ui a]
  rw[e,Bc,lr];by_cases e2:r=p
  .rw[Uj (by rw[e2]),Uj e2]
  rw[Ui λh=>e2 (Vg h),Ui e2]
 |ext h p k=>
  have e:aX q (.ext h p k)=gm (q++p) k:=by simp only[aX];rw[Ui a]
  rw[e,qz];by_cases b:∃s,r=p++s
  .obtain⟨s,rfl⟩:=b;rw[<-UI,lu,lu]
  rw[pC _ p k r λs hs=>b ⟨s,hs⟩,pC];intro s hs;rw[UI] at hs;exact b ⟨s,Vg hs⟩
 |branch h v ks=>
  have e:aX q (.branch h v ks)=gm q (.branch h v ks):=by simp only[aX];rw[Ui a]
  rw[e,qz,lu]
def Bd(q t p)(a:∀r,p≠q++r):aM (aX q t) p=[]:=by
 have b:q≠[]:=λe=>a p (by rw[e];rfl)
 cases t with
 |nil=>
  have e:aX q .nil=gm q .nil:=by simp only[aX];rw[Ui b]
  rw[e,qz];exact pC _ _ _ _ a
 |unread h=>
  have e:aX q (.unread h)=gm q (.unread h):=by simp only[aX];rw[Ui b]
  rw[e,qz];exact pC _ _ _ _ a
 |leaf h p' v=>
  have e:aX q (.leaf h p' v)=dw (q++p') v:=by simp only[aX];rw[Ui b]
  rw[e,Bc,Ui λh=>a p' h]
 |ext h p' k=>
  have e:aX q (.ext h p' k)=gm (q++p') k:=by simp only[aX];rw[Ui b]
  rw[e,qz];exact pC _ _ _ _ λr h=>a (p'++r) (by rw[h,UI])
 |branch h v ks=>
  have e:aX q (.branch h v ks)=gm q (.branch h v ks):=by simp only[aX];rw[Ui b]
  rw[e,qz];exact pC _ _ _ _ a
def LA{a b:UInt8}(h:a.toNat=b.toNat):a=b:=UInt8.toNat_inj.1 h
def PO:∀(t) (a:Bool),aW t a=cf t a:=by
 intro t;induction t with
 |nil=>intro a;rfl
 |unread h=>intro a;rfl
 |leaf h p v=>intro a;rfl
 |ext h p k ih=>intro a;simp only[aW,cf,ih];rfl
 |branch h v ks ih=>intro a;simp only[aW,cf,ih];rfl
def cS(P:yL->Bool)(t:Nd):Nat:=(cf t true).countP P
def lQ(P:yL->Bool)(t):(aW t true).countP P=cS P t:=by unfold cS;rw[PO]
def wL(P:yL->Bool)(G:yB->Option yB)(t)(key:yB)(a:aA t 0)(b:key.size<=40):cS P (aG G t key).1<=cS P t+162:=by
 have:=FK P G 81 t (aD key) 0 false true a.bB (b8 key) a;rw[lQ,lQ,g6] at this;unfold aG;omega
def Fw(P:yL->Bool)(G:yB->Option yB)(t key)(a:aA t 0):cS P (bE G t key)<=cS P t+162:=by
 unfold bE;split
 .omega
 exact wL P G t key a (by omega)
def Fv(P:yL->Bool)(G:yB->Option yB)(t key value)(a:aA t 0):cS P (fR G t key value)<=cS P t+162:=by
 unfold fR;split
 .omega
 split
 .omega
 exact wL P G t key a (by omega)
def Pw(P:yL->Bool)(G:yB->Option yB)(t key value)(a:aA t 0):cS P (b6 G t key value)<=cS P t+247:=by
 unfold b6;split
 .next h=>
  let⟨h1,_,_,_,_⟩:=tK h;have c:=wL P G t key a h1;have b:=FG P (aG G t key).1 (aD key) value.data.toList true (jk G t key a).bB (b8 key);rw[lQ,lQ,g6] at b;unfold jx;omega
 have:=Fv P G t key value a;omega
def Py(P:yL->Bool)(G:yB->Option yB)(t key)(a:aA t 0)(c:bK t):cS P (bC G t key).1<=cS P t+246:=by
 unfold bC;split
 .show cS P t<=_;omega
 next h40=>
 have d:=wL P G t key a (by omega);split
 .show cS P (aG G t key).1<=_;omega
 next h0=>
 split
 .show cS P (aG G t key).1<=_;omega
 next hf=>
 have b:=Va h0;cases hl:bI G (aG G t key).1 (aD key) 0 with
 |error e=>show cS P (aG G t key).1<=_;omega
 |ok t'=>have:=FN P G _ _ 0 true t' (jk G t key a) (oY G t key a c) (kA G t key a (by omega) b) (px _ _ hf) (b8 key) (by rw[g6];omega) hl;show cS P t'<=_;rw[lQ,lQ,g6] at this;omega
def zN(P:yL->Bool)(G:yB->Option yB)(t key)(a:aA t 0):cS P (aG G t key).1<=cS P t+(4*key.size+2):=by
 have:=FK P G 81 t (aD key) 0 false true a.bB (b8 key) a;rw[lQ,lQ,g6] at this;unfold aG;omega
def rJ(P:yL->Bool)(G:yB->Option yB)(t key)(a:aA t 0):cS P (bE G t key)<=cS P t+(4*key.size+2):=by
 unfold bE;split
 .omega
 exact zN P G t key a
def Pv(P:yL->Bool)(G:yB->Option yB)(t key value)(a:aA t 0):cS P (b6 G t key value)<=cS P t+(6*key.size+7):=by
 have c:=zN P G t key a;unfold b6;split
 .next h=>
  have b:=FG P (aG G t key).1 (aD key) value.data.toList true (jk G t key a).bB (b8 key);rw[lQ,lQ,g6] at b;unfold jx;omega
 unfold fR;split
 .omega
 split
 .omega
 omega
def Px(P:yL->Bool)(G:yB->Option yB)(t key)(a:aA t 0)(c:bK t):cS P (bC G t key).1<=cS P t+(6*key.size+6):=by
 have d:=zN P G t key a;unfold bC;split
 .show cS P t<=_;omega
 next h40=>
 split
 .show cS P (aG G t key).1<=_;omega
 next h0=>
 split
 .show cS P (aG G t key).1<=_;omega
 next hf=>
 have b:=Va h0;cases hl:bI G (aG G t key).1 (aD key) 0 with
 |error e=>show cS P (aG G t key).1<=_;omega
 |ok t'=>have:=FN P G _ _ 0 true t' (jk G t key a) (oY G t key a c) (kA G t key a (by omega) b) (px _ _ hf) (b8 key) (by rw[g6];omega) hl;show cS P t'<=_;rw[lQ,lQ,g6] at this;omega
def zM(P:yL->Bool)(r):cS P (bP r)=0:=by unfold bP cS;split<;>rfl
def RF:∀(t) (p),aO t->aw p->(aM t p).length<=160:=by
 intro t;induction t with
 |nil=>intro p _ _;exact UD _
 |unread h=>intro p _ _;exact UD _
 |leaf h q v=>intro p a _;rw[lr];split;exact a.2.2.2;exact UD _
 |ext h q k ih=>
  intro p a b;unfold aM;split
  .exact ih _ a.2.2.2.2 (da b _)
  exact UD _
 |branch h v ks ih=>
  intro p a b;cases p with
  |nil=>exact a.2.1
  |cons c r=>exact ih _ r (a.2.2 _ (b c (Uk ..))) λy d=>b y (Ul _ d)
def Rp(G:yB->Option yB)(t key)(a:aA t 0):(jn G t key).size<=160:=by
 unfold jn;split
 .exact UD _
 split
 .rw[aN];exact RF _ _ (jk G t key a).aK (b8 key)
 exact UD _
def En(n:Nd)(p v)(hk:n.kind=1\/n.kind=2)(he:n.kind=2->aF n.path p≠n.path.length)(x):aM (gi n p v (aF n.path p)) x=if x=p then v else aM n x:=by
 obtain⟨q,hq⟩:=yX n.path;rw[<-hq] at he⊢;obtain⟨B4,B3⟩:=iN q p;have A6:=yO q p;have hd:=yQ q p;generalize aF q p=s at*;have A3:=VB s q;have A2:=VB s p;have A8:∀r,(n.kind=1->r≠q)->(n.kind=2->∀y,r≠q++y)->aM n r=[]:=λr h1 h2=>by
  cases n with
  |leaf h q' y=>rw[lr,Ui];intro e;exact h1 rfl (by rwa[hq])
  |ext h q' k=>exact pC _ _ _ _ λy=>by have:=h2 rfl y;rwa[hq] at this
  | _=>rcases hk with h|h<;>cases h
 have A4:∀r,(∀y,r≠q++y)->aM n r=[]:=λr hr=>A8 r (λ_ e=>hr [] (by rwa[UU])) λ_=>hr
 by_cases hx:∃r,x=p.take s++r
 .obtain⟨r,rfl⟩:=hx;unfold gi;rw[IL _ (dN _ _) trivial,RE];have A0:p.take s++r=p↔r=p.drop s:=⟨λe=>Vg (e.trans A2.symm),λe=>by rwa[e]⟩
  have A5:∀y,p.take s++r=q++y↔r=q.drop s++y:=λy=>by
   rw[<-A6];constructor
   .intro e;have h1:q.take s++r=q.take s++(q.drop s++y):=by rwa[<-UI,A3]
    exact Vg h1
   intro e;rw[e,<-UI,A3]
  cases r with
  |nil=>
   show fy n p v s=_;unfold fy;by_cases h1:s<p.length
   .rw[Uj h1,Ui (show ¬p.take s++[]=p from λe=>by have:=congrArg List.length (A0.1 e);rw[Uu] at this;simp at this;omega),<-hq];by_cases h2:s<q.length
    .rw[Uj h2,A4 _ λy e=>by have:=congrArg List.length ((A5 y).1 e);rw[Uq,Uu] at this;simp at this;omega]
    have h3:s=q.length:=by omega
    rw[Ui h2];cases n with
    |leaf h q' y=>
     have e:p.take s++[]=q':=by rw[UU,<-A6,h3,VM,hq];rfl
     rw[e,lr,Uj rfl];rfl
    |ext h q' k=>exact absurd h3 (he rfl)
    | _=>rcases hk with h|h<;>cases h
   rw[Ui h1,Uj (A0.2 (by rw[List.drop_eq_nil_of_le (by omega)]))]
  |cons d r=>
   show aM (dF n p v s d.toNat) r=_;have B0:s<p.length->p.drop s=p.getD s 0::p.drop (s+1):=λh=>by rw[UZ h,Up,Uh h];rfl
   have B1:s<q.length->q.drop s=q.getD s 0::q.drop (s+1):=λh=>by rw[UZ h,Up,Uh h];rfl
   have A9:¬(s<q.length/\d=q.getD s 0)->aM n (p.take s++d::r)=[]:=λh=>by
    by_cases h2:s<q.length
    .refine A4 _ λy e=>h ⟨h2,?_⟩
     have h1:=(A5 y).1 e;rw[B1 h2] at h1;exact(List.cons.inj h1).1
    refine A8 _ (λ_ e=>?_) λh3=>absurd (by omega:s=q.length) (he h3)
    have:=congrArg List.length e;simp at this;omega
   have hA:¬(s<p.length/\d=p.getD s 0)->aM (dX n s d.toNat) r=if p.take s++d::r=p then v else aM n (p.take s++d::r):=λB2=>by
    rw[Ui (show ¬p.take s++d::r=p from λe=>by
     have h1:=A0.1 e;have h2:s<p.length:=by have:=congrArg List.length h1;rw[Uu] at this;simp at this;omega
     rw[B0 h2] at h1;exact B2 ⟨h2,(List.cons.inj h1).1⟩)]
    by_cases h3:s<q.length/\d=q.getD s 0
    .unfold dX;obtain⟨h2,h3⟩:=h3;rw[<-hq,Uj h2,h3,dK];have A1:∀y,p.take s++q.getD s 0::r=q++y↔r=q.drop (s+1)++y:=λy=>by
      have:=A5 y;rw[h3,B1 h2] at this;rw[this];exact⟨λe=>(List.cons.inj e).2,λe=>by rw[e];rfl⟩
     cases n with
     |leaf h q' y=>
      show aM (dw _ _) _=_;have e1:q=q':=hq;have:=A1 [];rw[UU,UU,e1] at this;rw[Bc,lr,e1];by_cases e:r=q'.drop (s+1)
      .rw[Uj e,Uj (this.2 e)]
      rw[Ui e,Ui (λq=>e (this.1 q))]
     |ext h q' k=>
      show aM (aX _ k) _=_;have e1:q=q':=hq;rw[e1] at A1⊢;by_cases e:∃y,r=q'.drop (s+1)++y
      .obtain⟨y,hy⟩:=e;rw[(A1 y).2 hy,lu,hy];cases k with
       |nil=>
        by_cases h0:q'.drop (s+1)=[]
        .rw[h0,mG];rfl
        simp only[aX,Ui h0,qz,lu]
       | _=>exact IL _ _ (by trivial) _
      rw[Bd _ _ _ λy hy=>e ⟨y,hy⟩,pC _ _ _ _ λy hy=>e ⟨y,(A1 y).1 hy⟩]
     | _=>rcases hk with h|h<;>cases h
    rw[A9 h3];unfold dX;rw[<-hq];by_cases h2:s<q.length
    .rw[Uj h2,e9 _ _ _ _ (λe=>h3 ⟨h2,LA e⟩)];rfl
    rw[Ui h2];rfl
   unfold dF;by_cases h1:s<p.length
   .rw[Uj h1];by_cases h2:d=p.getD s 0
    .have hz:=A9 λh=>hd h.1 h1 (h.2.symm.trans h2)
     rw[B0 h1,h2] at A0;rw[h2] at hz⊢;rw[dK,Bc,hz];by_cases h3:r=p.drop (s+1)
     .rw[Uj h3,Uj (A0.2 (by rw[h3]))]
     rw[Ui h3,Ui λe=>h3 (List.cons.inj (A0.1 e)).2]
    rw[e9 _ _ _ _ (λe=>h2 (LA e))];exact hA λh=>h2 h.2
   rw[Ui h1];exact hA λh=>h1 h.1
 have A7:∀r,x≠p.take s++r:=λr e=>hx ⟨r,e⟩
 unfold gi;rw[Bd _ _ _ A7,Ui (λe=>A7 (p.drop s) (by rw[e,A2])),A4];intro y e;exact A7 (q.drop s++y) (by rwa[<-A6,<-UI,A3])
def IG:∀{t p v},dD t p->∀x,aM (bR t p v) x=if x=p then v else aM t x:=by
 intro t;induction t with
 |nil=>intro p v _ x;exact Bc p v x
 |unread h=>intro p v h;exact h.elim
 |leaf h q y=>
  intro p v _ x;show aM (if q=p then dw p v else gi (.leaf h q y) p v (aF q p)) x=_;by_cases e:q=p
  .rw[Uj e,Bc,lr,e];split<;>rfl
  rw[Ui e];exact En (.leaf h q y) p v (.inl rfl) (λh=>by cases h) x
 |ext h q k ih=>
  intro p v b x;show aM (if aF q p=q.length then gm q (bR k (p.drop q.length) v) else gi (.ext h q k) p v (aF q p)) x=_;by_cases e:aF q p=q.length
  .rw[Uj e,qz];have f:=DW q p e;by_cases a:∃r,x=q++r
   .obtain⟨r,rfl⟩:=a;rw[lu,lu,ih (b e)];by_cases h2:r=p.drop q.length
    .rw[Uj h2,Uj (by rw[h2];exact f.symm)]
    rw[Ui h2,Ui λh=>h2 (Vg (h.trans f))]
   rw[pC _ _ _ _ λr h=>a ⟨r,h⟩,pC _ _ _ _ λr h=>a ⟨r,h⟩,Ui λh=>a ⟨_,h.trans f⟩]
  rw[Ui e];exact En (.ext h q k) p v (.inr rfl) (λ_=>e) x
 |branch h y ks ih=>
  intro p v b x;cases p with
  |nil=>
   show aM (dN ks v) x=_;rw[RE];cases x with
   |nil=>rfl
   |cons d r=>rw[Ui (λh=>by cases h)];rfl
  |cons c r=>
   show aM (dN (aJ ks c.toNat (bR (ks c.toNat) r v)) y) x=_;rw[RE];cases x with
   |nil=>rw[Ui (λh=>by cases h)];rfl
   |cons d z=>
    show aM (aJ ks c.toNat _ d.toNat) z=if d::z=c::r then v else aM (ks d.toNat) z;by_cases e:d=c
    .rw[e,dK,ih c.toNat b z];by_cases h2:z=r
     .rw[Uj h2,Uj (by rw[h2])]
     rw[Ui h2,Ui λh=>h2 (List.cons.inj h).2]
    rw[e9 _ _ _ _ (λh=>e (LA h)),Ui λh=>e (List.cons.inj h).1]
def bL:Nd->Prop
 | .unread _=>False
 | .ext _ _ k=>bL k
 | .branch _ _ ks=>∀i,i<16->bL (ks i)
 | _=>True
def ru{G t d bl}(h:bL t):dG G t d bl=.ok t:=by
 cases t<;>first|exact h.elim|rfl
def nT:∀{t p},bL t->aw p->dD t p:=by
 intro t;induction t with
 |nil=>intro p _ _;trivial
 |unread _=>intro p h _;exact h.elim
 |leaf _ _ _=>intro p _ _;trivial
 |ext h q k ih=>intro p b a _;exact ih b (da a _)
 |branch h v ks ih=>
  intro p b a;cases p with
  |nil=>trivial
  |cons c r=>exact ih _ (b _ (a c (Uk ..))) λy d=>a y (Ul _ d)
def pB{h v ks}(c:UInt8)(r):aM (.branch h v ks) (c::r)=aM (ks c.toNat) r:=rfl
def IJ{G ks v dep b}(f:∀i,i<16->bL (ks i))(h:cd G ks v dep=.ok b)(x)(a:aw x):aM b x=aM (.branch [] v ks) x:=by
 unfold cd at h;by_cases h0:cO ks 16=0
 .rw[Uj h0] at h;cases h;rw[Bc];cases x with
  |nil=>rw[Uj rfl];rfl
  |cons c r=>rw[Ui (λh=>by cases h),pB,Av ks 16 h0 _ (a c (Uk ..))];rfl
 rw[Ui h0] at h;by_cases h2:1<cO ks 16\/v≠[]
 .rw[Uj h2] at h;cases h;exact RE ks v x
 rw[Ui h2] at h;let⟨j,hs⟩:=nt ks 16 (by omega);rw[ru (f _ j)] at h;cases h;have k:v=[]:=Vn λh=>h2 (.inr h)
 have h1:cO ks 16=1:=by
  have:¬1<cO ks 16:=λh=>h2 (.inl h)
  omega
 cases x with
 |nil=>rw[Bd _ _ _ (λr h=>by cases h)];exact k.symm
 |cons c r=>
  have g:=a c (Uk ..);rw[pB];by_cases e:c.toNat=dx ks 16
  .have e2:c=UInt8.ofNat (dx ks 16):=by rw[<-e];simp
   have e3:c::r=[UInt8.ofNat (dx ks 16)]++r:=by rw[<-e2];rfl
   rw[e3,IL _ _ hs,e]
  rw[GG ks 16 h1 _ g e,Bd]
  .rfl
  intro l d;have e4:=(List.cons.inj d).1;apply e;rw[e4,U3];omega
def ot(G:yB->Option yB):∀(t) (p) (dep:Nat) (a),aA t dep->bK t->bL t->jL t p->aw p->dep+p.length<=80->bI G t p dep=.ok a->∀x,aw x->aM a x=if x=p then [] else aM t x:=by
 intro t;induction t with
 |nil=>intro p dep a _ _ _ j;exact j.elim
 |unread _=>intro p dep a _ _ _ j;exact j.elim
 |leaf h q v=>
  intro p dep a _ _ _ j _ _ g x _;cases g;have Q:q=p:=j;rw[lr];show([]:yL)=_;by_cases e:x=p
  .rw[Uj e]
  .rw[Ui e,Ui (by rw[Q];exact e)]
 |ext h q k ih=>
  intro p dep a n o f j l C g x u;have D:dD (.ext h q k) p:=nT f l;have S:=uo n o D j l C (.inl rfl) g;let⟨A,H⟩:=j;have I:=DW q p A;have b:lH q (bI G k (p.drop q.length) (dep+q.length))=.ok a:=g;cases hk:bI G k (p.drop q.length) (dep+q.length) with
  |error c=>rw[hk] at b;cases b
  |ok k'=>
   rw[hk] at b;cases b;have O:=(iN q p).2;rw[A] at O;have M:k.kind=3:=by
    have L:=n.bB.2.1;have P:=D A;cases k<;>first|exact L.elim|exact P.elim|rfl
   have N:=(lk G k _ _ k' (fq n) o.loose (D A) H (da l _) (by rw[Uu];omega) hk).2 M;have B:=ih (p.drop q.length) (dep+q.length) k' (fq n) o.loose f H (da l _) (by rw[Uu];omega) hk;by_cases E:∃r,x=q++r
   .obtain⟨r,rfl⟩:=E;have m:aw r:=λy F=>u y (UP _ F)
    rw[IL _ _ N,lu,B r m];by_cases e:r=p.drop q.length
    .rw[Uj e,Uj (by rw[e];exact I.symm)]
    .rw[Ui e,Ui];intro e2;apply e;rw[I] at e2;rw[Vg e2]
   .rw[Bd _ _ _ λr m=>E ⟨r,m⟩,pC _ _ _ _ λr m=>E ⟨r,m⟩];by_cases e:x=p
    .rw[Uj e]
    .rw[Ui e]
 |branch h v ks ih=>
  intro p dep a n o f j l C g x u;cases p with
  |nil=>
   rw[IJ (v:=[]) f g x u];cases x with
   |nil=>rw[Uj rfl];rfl
   |cons c r=>rw[Ui (λh=>by cases h)];rfl
  |cons c r=>
   have w:=l c (Uk ..);have m:aw r:=λy F=>l y (Ul _ F)
   have b:pU (λk=>cd G (aJ ks c.toNat k) v dep) (bI G (ks c.toNat) r (dep+1))=.ok a:=g;cases hk:bI G (ks c.toNat) r (dep+1) with
   |error e=>rw[hk] at b;cases b
   |ok k'=>
    rw[hk] at b;have J:∀i,i<16->cW (ks i):=o;have B:=ih c.toNat r (dep+1) k' (dA n _ w) (J _ w).loose (f _ w) j m (by simp at C;omega) hk;have K:∀i,i<16->bL (aJ ks c.toNat k' i):=λi hi=>by
     by_cases e:i=c.toNat
     .subst e;rw[dK];exact less_all G _ _ _ _ (f _ w) hk
     .rw[e9 _ _ _ _ e];exact f i hi
    rw[IJ K b x u];cases x with
    |nil=>rw[Ui (λh=>by cases h)];rfl
    |cons d y=>
     rw[pB,pB];by_cases e:d.toNat=c.toNat
     .have e2:d=c:=LA e;subst e2;rw[dK,B y λz R=>u z (Ul _ R)];by_cases e3:y=r
      .rw[Uj e3,Uj (by rw[e3])]
      .rw[Ui e3,Ui λh=>e3 (List.cons.inj h).2]
     .rw[e9 _ _ _ _ e,Ui λh=>e (by rw[(List.cons.inj h).1])]
 where
  join_all {q:yL} {k:Nd} (h:bL k):bL (aX q k):=by
   by_cases s:q=[]
   .rw[s,mG];exact h
   .cases k with
    |nil=>simp only[aX];rw[Ui s];exact h
    |unread _=>exact h.elim
    |leaf _ _ _=>simp only[aX];rw[Ui s];trivial
    |ext _ _ k=>simp only[aX];rw[Ui s];exact h
    |branch _ _ ks=>simp only[aX];rw[Ui s];exact h
  shrink_all (G:yB->Option yB) (ks:Nat->Nd) (v:yL) (dep:Nat) (a:Nd) (f:∀i,i<16->bL (ks i)) (h:cd G ks v dep=.ok a):bL a:=by
   unfold cd at h;split at h
   .cases h;trivial
   .split at h
    .cases h;exact f
    .next h0 _=>
     let⟨g,_⟩:=nt ks 16 (by omega);rw[ru (f _ g)] at h;cases h;exact join_all (f _ g)
  less_all (G:yB->Option yB):∀(t:Nd) (p:yL) (dep:Nat) (a:Nd),bL t->bI G t p dep=.ok a->bL a:=by
   intro t;induction t with
   |nil=>intro p dep a _ h;cases h;trivial
   |unread _=>intro p dep a h;exact h.elim
   |leaf _ _ _=>intro p dep a _ h;cases h;trivial
   |ext h q k ih=>
    intro p dep a f g;have b:lH q (bI G k (p.drop q.length) (dep+q.length))=.ok a:=g;cases hk:bI G k (p.drop q.length) (dep+q.length) with
    |error c=>rw[hk] at b;cases b
    |ok k'=>rw[hk] at b;cases b;exact join_all (ih _ _ _ f hk)
   |branch h v ks ih=>
    intro p dep a f g;cases p with
    |nil=>exact shrink_all G ks [] dep a f g
    |cons c r=>
     have b:pU (λk=>cd G (aJ ks c.toNat k) v dep) (bI G (ks c.toNat) r (dep+1))=.ok a:=g;cases hk:bI G (ks c.toNat) r (dep+1) with
     |error e=>rw[hk] at b;cases b
     |ok k'=>
      rw[hk] at b;refine shrink_all G _ v dep a (λi hi=>?_) b;by_cases e:i=c.toNat
      .subst e;rw[dK];exact ih _ _ _ _ (f _ hi) hk
      .rw[e9 _ _ _ _ e];exact f i hi
def gX(Q:yL->Prop):Nd->Prop
 | .leaf h p v=>h≠[]->Q (Nd.leaf h p v).code
 | .ext h p k=>(h≠[]->Q (Nd.ext h p k).code)/\gX Q k
 | .branch h v ks=>(h≠[]->Q (Nd.branch h v ks).code)/\∀i,i<16->gX Q (ks i)
 | _=>True
def Part(Q:yL->Prop):Nd->Nd->Prop
 | .nil,F=>F=.nil
 | .unread h,F=>F.read/\h=fe F.code/\Q F.code/\gX Q F
 | .leaf _ p v,F=>∃h,F=.leaf h p v
 | .ext _ p k,F=>∃h kF,F=.ext h p kF/\Part Q k kF/\k.hash=kF.hash
 | .branch _ v ks,F=>∃h kFs,F=.branch h v kFs/\∀i,i<16->Part Q (ks i) (kFs i)/\(ks i).hash=(kFs i).hash
def gX.mono{Q d}(b:∀c,Q c->d c):∀{t},gX Q t->gX d t:=by
 intro t;induction t with
 |nil=>exact id
 |unread _=>exact id
 |leaf h p v=>exact λh a=>b _ (h a)
 |ext h p k ih=>exact λh=>⟨λa=>b _ (h.1 a),ih h.2⟩
 |branch h v ks ih=>exact λh=>⟨λa=>b _ (h.1 a),λi hi=>ih i (h.2 i hi)⟩
def Part.mono{Q b}(d:∀c,Q c->b c):∀{t F},Part Q t F->Part b t F:=by
 intro t;induction t with
 |nil=>exact id
 |unread _=>exact λh=>⟨h.1,h.2.1,d _ h.2.2.1,h.2.2.2.mono d⟩
 |leaf h p v=>exact id
 |ext h p k ih=>rintro F⟨a,f,e,h1,h2⟩;exact⟨a,f,e,ih h1,h2⟩
 |branch h v ks ih=>rintro F⟨a,g,e,h1⟩;exact⟨a,g,e,λi hi=>⟨ih i (h1 i hi).1,(h1 i hi).2⟩⟩
def Part.nil{Q t F}(h:Part Q t F):t.isNil=F.isNil:=by
 cases t with
 |nil=>rw[show F=.nil from h]
 |unread _=>have:=h.1;cases F<;>first|exact this.elim|rfl
 |leaf _ _ _=>obtain⟨a,rfl⟩:=h;rfl
 |ext _ _ _=>obtain⟨a,b,rfl,_⟩:=h;rfl
 |branch _ _ _=>obtain⟨a,b,rfl,_⟩:=h;rfl
def Part.same{Q t F}(h:Part Q t F):t.some↔F.some:=by
 rw[<-gM,<-gM,h.nil]
def Part.read{Q t F}(h:Part Q t F)(hs:t.some):F.read:=by
 cases t with
 |nil=>exact hs.elim
 |unread _=>exact h.1
 |leaf _ _ _=>obtain⟨a,rfl⟩:=h;trivial
 |ext _ _ _=>obtain⟨a,b,rfl,_⟩:=h;trivial
 |branch _ _ _=>obtain⟨a,b,rfl,_⟩:=h;trivial
def Part.rq{Q k b}(d:aO k)(h:Part Q k b)(c:k.hash=b.hash)(hi:k.read->k.item=b.item):k.ref=b.ref:=by
 by_cases hs:k.some
 .have e:=h.same.1 hs;by_cases a:k.hash=[]
  .have f:k.read:=by
    cases k with
    |nil=>exact hs.elim
    |unread x=>rw[show x=[] from a] at d;cases d
    | _=>trivial
   rw[ml hs a,ml e (c▸a),hi f]
  rw[jQ hs a,jQ e (c▸a),c]
 have e1:k=.nil:=by cases k<;>first|rfl|exact absurd trivial hs
 subst e1;rw[show b=.nil from h]
def Part.item{Q}:∀{t F},aO t->Part Q t F->t.read->t.item=F.item:=by
 intro t;induction t with
 |nil=>intro F _ _ h;exact h.elim
 |unread _=>intro F _ _ h;exact h.elim
 |leaf _ _ _=>rintro F _⟨b,rfl⟩ _;rfl
 |ext h p k ih=>rintro F a⟨b,c,rfl,h1,h2⟩ _;show bJ [_,k.ref]=bJ [_,c.ref];rw[h1.rq a.2.2.2.2 h2 (ih a.2.2.2.2 h1)]
 |branch h v ks ih=>
  rintro F a⟨b,d,rfl,h1⟩ _;show bJ ((List.range 16).map (λi=>(ks i).ref)++[ak v])=bJ ((List.range 16).map (λi=>(d i).ref)++[ak v]);congr 2;refine Vz λi hi=>?_
  have hi:=Vq.1 hi;exact(h1 i hi).1.rq (a.2.2 i hi) (h1 i hi).2 (ih i (a.2.2 i hi) (h1 i hi).1)
def Part.code{Q t F}(a:aO t)(h:Part Q t F)(b:t.read):t.code=F.code:=by
 unfold Nd.code;rw[h.item a b]
def Part.ref{Q k a}(b:aO k)(h:Part Q k a)(c:k.hash=a.hash):k.ref=a.ref:=h.rq b c (h.item b)
def Part.root{Q t F}(a:aO t)(f:aO F)(h:Part Q t F):bQ t=bQ F:=by
 have c:∀n:Nd,aO n->n.read->bQ n=fe n.code:=λn d b=>by
  have hs:n.some:=by cases n<;>first|exact b.elim|trivial
  have g:js n:=by
   cases n with
   |nil=>exact b.elim
   |unread _=>exact b.elim
   |leaf _ _ _=>exact d.1
   |ext _ _ _=>exact d.1
   |branch _ _ _=>exact d.1
  rw[nQ hs];by_cases e:n.hash=[]
  .rw[Uj e]
  rw[Ui e];rcases g with h|h
  .unfold fX at h;split at h
   .exact h
   exact absurd h e
  exact h
 by_cases hs:t.some
 .have b:=h.read hs;rw[c F f b];cases t with
  |nil=>exact hs.elim
  |unread x=>
   have i:(Nd.unread x).hash≠[]:=λe=>by rw[show x=[] from e] at a;cases a
   rw[nQ hs,Ui i];exact h.2.1
  |leaf _ _ _=>rw[c _ a trivial,h.code a trivial]
  |ext _ _ _=>rw[c _ a trivial,h.code a trivial]
  |branch _ _ _=>rw[c _ a trivial,h.code a trivial]
 have e1:t=.nil:=by cases t<;>first|rfl|exact absurd trivial hs
 subst e1;rw[show F=.nil from h]
def Part.find{Q}:∀{t F p},Part Q t F->dD t p->aw p->aM t p=aM F p:=by
 intro t;induction t with
 |nil=>intro F p h _ _;rw[show F=.nil from h]
 |unread _=>intro F p _ h _;exact h.elim
 |leaf _ _ _=>rintro F p⟨d,rfl⟩ _ _;rw[lr,lr]
 |ext h q k ih=>
  rintro F p⟨d,g,rfl,h1,h2⟩ b a;show(if aF q p=q.length then aM k (p.drop q.length) else [])=(if aF q p=q.length then aM g (p.drop q.length) else []);by_cases e:aF q p=q.length
  .rw[Uj e,Uj e];exact ih h1 (b e) (da a _)
  rw[Ui e,Ui e]
 |branch h v ks ih=>
  rintro F p⟨d,i,rfl,h1⟩ b a;cases p with
  |nil=>rfl
  |cons c r=>show aM (ks c.toNat) r=aM (i c.toNat) r;exact ih c.toNat (h1 _ (a c (Uk ..))).1 b λy f=>a y (Ul _ f)
def Part.refl{Q}:∀{t},bL t->Part Q t t:=by
 intro t;induction t with
 |nil=>intro _;rfl
 |unread _=>intro h;exact h.elim
 |leaf h p v=>intro _;exact⟨h,rfl⟩
 |ext h p k ih=>intro a;exact⟨h,k,rfl,ih a,rfl⟩
 |branch h v ks ih=>intro a;exact⟨h,ks,rfl,λi hi=>⟨ih i (a i hi),rfl⟩⟩
def il(Q:yL->Prop)(t F:Nd):Prop:=Part Q t F/\t.hash=F.hash
def rC{Q}(p v):il Q (dw p v) (dw p v):=⟨⟨_,rfl⟩,rfl⟩
def wD{Q q k a}(b:aO k)(h:il Q k a):il Q (gm q k) (gm q a):=by
 refine⟨⟨_,a,rfl,h.1,h.2⟩,?_⟩;show(Nd.ext [] q k).mk.hash=(Nd.ext [] q a).mk.hash;rw[uA (.ext [] q k) trivial,uA (.ext [] q a) trivial];unfold Nd.code;have:(Nd.ext [] q k).item=(Nd.ext [] q a).item:=by
  show bJ [_,k.ref]=bJ [_,a.ref];rw[h.1.ref b h.2]
 rw[this]
def wE{Q v ks a}(b:∀i,i<16->aO (ks i))(h:∀i,i<16->il Q (ks i) (a i)):il Q (dN ks v) (dN a v):=by
 refine⟨⟨_,a,rfl,h⟩,?_⟩;show(Nd.branch [] v ks).mk.hash=(Nd.branch [] v a).mk.hash;rw[uA (.branch [] v ks) trivial,uA (.branch [] v a) trivial];unfold Nd.code;have:(Nd.branch [] v ks).item=(Nd.branch [] v a).item:=by
  show bJ ((List.range 16).map (λi=>(ks i).ref)++[ak v])=bJ ((List.range 16).map (λi=>(a i).ref)++[ak v]);congr 2;refine Vz λi hi=>?_
  have hi:=Vq.1 hi;exact(h i hi).1.ref (b i hi) (h i hi).2
 rw[this]
def wC{Q q k b}(c:aO k)(h:il Q k b)(hs:k.some)(g:∀x,k=.unread x->q≠[]->b.fY):il Q (aX q k) (aX q b):=by
 by_cases a:q=[]
 .subst a;rwa[mG,mG]
 cases k with
 |nil=>exact hs.elim
 |unread x=>
  have d:=g x rfl a;have f:=h.1.read trivial;cases b with
  |branch x' v ks=>simp only[aX,Ui a];exact wD c h
  |unread _=>exact f.elim
  |nil=>exact d.elim
  |leaf _ _ _=>exact d.elim
  |ext _ _ _=>exact d.elim
 |leaf x p v=>obtain⟨⟨e,rfl⟩,_⟩:=h;simp only[aX,Ui a];exact rC _ _
 |ext x p k2=>obtain⟨⟨e,i,rfl,h1,h2⟩,_⟩:=h;simp only[aX,Ui a];exact wD c.2.2.2.2 ⟨h1,h2⟩
 |branch x v ks=>obtain⟨e,j,rfl,_⟩:=h.1;simp only[aX,Ui a];exact wD c h
def wB{Q ks b k a c}(h:∀i,i<16->il Q (ks i) (b i))(d:il Q k a):∀i,i<16->il Q (aJ ks c k i) (aJ b c a i):=λi hi=>by
 by_cases e:i=c
 .subst e;rwa[dK,dK]
 rw[e9 _ _ _ _ e,e9 _ _ _ _ e];exact h i hi
def xA{ks k c}(h:∀i,i<16->aO (ks i))(a:aO k):∀i,i<16->aO (aJ ks c k i):=λi hi=>by
 by_cases e:i=c
 .subst e;rwa[dK]
 rw[e9 _ _ _ _ e];exact h i hi
def EX{Q}{n a:Nd}{p v:yL}{s}(c:n.kind=1\/n.kind=2)(b:aO n)(o:aO a)(h:Part Q n a)(z:aw p)(C:p.length<=80)(m:v.length<=160):il Q (gi n p v s) (gi a p v s):=by
 have e:n.path=a.path/\n.value=a.value:=by
  cases n with
  |leaf _ _ _=>obtain⟨d,rfl⟩:=h;exact⟨rfl,rfl⟩
  |ext _ _ _=>obtain⟨d,B,rfl,_⟩:=h;exact⟨rfl,rfl⟩
  | _=>rcases c with h|h<;>cases h
 have x:aw n.path/\n.path.length<=80:=by
  cases n with
  |leaf _ _ _=>exact⟨b.2.1,b.2.2.1⟩
  |ext _ _ _=>exact⟨b.2.1,b.2.2.1⟩
  | _=>rcases c with h|h<;>cases h
 have A:∀q,il Q (gJ n q) (gJ a q):=λq=>by
  cases n with
  |leaf _ _ _=>obtain⟨d,rfl⟩:=h;exact rC _ _
  |ext _ _ k=>obtain⟨d,B,rfl,h1,h2⟩:=h;exact wC b.2.2.2.2 ⟨h1,h2⟩ (oq b.2.2.2.1) λ_ _ _=>o.2.2.2.1
  | _=>rcases c with h|h<;>cases h
 have w:∀q,aw q->q.length<=80->aO (gJ n q):=λq h1 h2=>ID c h1 h2 b
 have l:∀i,i<16->il Q .nil .nil:=λ_ _=>⟨rfl,rfl⟩
 have f:∀i,i<16->il Q (dX n s i) (dX a s i):=by
  unfold dX;rw[<-e.1];split
  .exact wB l (A _)
  exact l
 have g:∀i,i<16->aO (dX n s i):=by
  unfold dX;split
  .exact xA (λ_ _=>trivial) (w _ (da x.1 _) (by rw[Uu];omega))
  exact λ_ _=>trivial
 have r:∀i,i<16->il Q (dF n p v s i) (dF a p v s i):=by
  unfold dF;split
  .exact wB f (rC _ _)
  exact f
 have j:∀i,i<16->aO (dF n p v s i):=by
  unfold dF;split
  .exact xA g (pA (da z _) (by rw[Uu];omega) m)
  exact g
 have t:fy n p v s=fy a p v s:=by unfold fy;rw[e.1,e.2]
 have y:n.value.length<=160:=by
  cases n with
  |leaf _ _ _=>exact b.2.2.2
  |ext _ _ _=>exact UD _
  | _=>rcases c with h|h<;>cases h
 have u:(fy n p v s).length<=160:=by
  unfold fy;split
  .split
   .exact UD _
   exact y
  exact m
 unfold gi;rw[<-t];exact wC (r6 u j) (wE j r) trivial λ_ h=>by cases h
def Ow{Q}:∀{t F} {p v:yL},aO t->aO F->Part Q t F->dD t p->aw p->p.length<=80->v.length<=160->il Q (bR t p v) (bR F p v):=by
 intro t;induction t with
 |nil=>intro F p v _ _ h _ _ _ _;rw[show F=.nil from h];exact rC _ _
 |unread _=>intro F p v _ _ _ h;exact h.elim
 |leaf h q x=>
  intro F p v a g f _ b i d;let⟨m,e⟩:=id f;have hs:=EX (s:=aF q p) (.inl rfl) a g f b i d;subst e;simp only[bR];split
  .exact rC _ _
  exact hs
 |ext h q k ih=>
  intro F p v a g f j b i d;let⟨m,z,e,h1,h2⟩:=id f;have hs:=EX (s:=aF q p) (.inr rfl) a g f b i d;subst e;simp only[bR];split
  .next e=>
   have n:(p.drop q.length).length<=80:=by rw[Uu];omega
   exact wD (uF a.2.2.2.2 (j e) (da b _) n d) (ih a.2.2.2.2 g.2.2.2.2 h1 (j e) (da b _) n d)
  exact hs
 |branch h x ks ih=>
  intro F p v a g f j b i d;obtain⟨m,A,rfl,h1⟩:=f;cases p with
  |nil=>exact wE a.2.2 h1
  |cons c r=>
   have l:=b c (Uk ..);have o:aw r:=λy w=>b y (Ul _ w)
   have u:r.length<=80:=by simp at i;omega
   exact wE (xA a.2.2 (uF (a.2.2 _ l) j o u d)) (wB h1 (ih _ (a.2.2 _ l) (g.2.2 _ l) (h1 _ l).1 j o u d))
def gX.own{Q t}(h:gX Q t)(b:t.read)(a:t.hash≠[]):Q t.code:=by
 cases t with
 |nil=>exact b.elim
 |unread _=>exact b.elim
 |leaf _ _ _=>exact h a
 |ext _ _ _=>exact h.1 a
 |branch _ _ _=>exact h.1 a
def Hv{c}(h:fX c≠[]):fX c=fe c/\32<=c.length:=by
 unfold fX at h⊢;split
 .next e=>exact⟨rfl,e⟩
 next e=>rw[Ui e] at h;exact absurd rfl h
def cW.FQ{t}(h:cW t)(b:t.read)(a:t.hash≠[]):t.hash=fe t.code/\32<=t.code.length:=by
 have h1:=h.named b;rw[h1] at a⊢;exact Hv a
def aO.Hu{t}(h:aO t)(a:t.read):js t:=by
 cases t with
 |nil=>exact a.elim
 |unread _=>exact a.elim
 |leaf _ _ _=>exact h.1
 |ext _ _ _=>exact h.1
 |branch _ _ _=>exact h.1
def bL.read{t}(h:bL t)(hs:t.some):t.read:=by
 cases t<;>first|exact hs.elim|exact h.elim|trivial
def JW(Q:yL->Prop)(d:Nat):Prop:=∀(F:Nd) (dep:Nat) (bl:Bool),bN d F.item=true->aA F dep->bK F->bL F->F.read->gX Q F->(bl=true->F.fY)->
 ∃m,a6 d F.item dep bl=some m/\Part Q m F/\m.hash=[]
def GD{Q d}(ih:JW Q d)(k:Nd)(dep:Nat)(bl:Bool)(hf:bN d k.ref=true)(hK:aA k dep)(hT:cW k)(ha:bL k)(hx:gX Q k)(hb:bl=true->k.fY):∃k',jC (a6 d) k.ref dep bl=some k'/\il Q k' k:=by
 by_cases hs:k.some
 .have hr:=ha.read hs;have A1:=hK.aK.Hu hr;by_cases he:k.hash=[]
  .have A3:=A1.short he;have h6:bN 6 k.item=true:=(hK.aK.ow hr).1;rw[ml hs he] at hf⊢;have A2:∀t,k.item≠ak t:=λt e=>by
    let⟨ks,e2⟩:=Ay k;rw[e2] at e;cases e
   let⟨m,h1,h2,h3⟩:=ih k dep bl hf hK hT.loose ha hr hx hb;refine⟨m,?_,h2,by rw[h3,he]⟩;rw[xg _ _ _ _ A2];have hc:(bu 6 k.item).length<32:=A3;have A0:fH (bu 6 k.item)=true:=by unfold fH;exact Uw (by omega)
   rw[Ui]
   .exact h1
   rintro (h|h)
   .apply h;unfold ff;rw[Uj h6,Uj A0]
   unfold ft at h;rw[Uj h6,rG _ A0,aN] at h;omega
  let⟨h1,h2⟩:=hT.FQ hr he;have hl:=A1.two.resolve_left he;have A4:=xD k dep hs hK.full hK.deep;rw[jQ hs he,xe,Ui he,Ui (by rintro (h|h);exact h hl;omega)];exact⟨_,rfl,⟨hr,h1,hx.own hr he,hx⟩,rfl⟩
 have e1:k=.nil:=by cases k<;>first|rfl|exact absurd trivial hs
 subst e1;exact⟨.nil,rfl,rfl,rfl⟩
def Pr(Q:yL->Prop):∀d,d<=6->JW Q d:=by
 intro d;induction d with
 |zero=>intro _ F dep bl hf;let⟨ks,e⟩:=Ay F;rw[e] at hf;cases hf
 |succ d ih=>
  intro hd F dep bl hf hK hL ha hr hx hb;have ih:=ih (by omega);cases F with
  |nil=>exact hr.elim
  |unread _=>exact hr.elim
  |leaf h p v=>
   have A1:bl=false:=by cases bl with|false=>rfl|true=>exact(hb rfl).elim
   subst A1;let⟨f1,f2,f3⟩:=Fa p true hK.aK.2.1;refine⟨.leaf [] p v,?_,⟨h,rfl⟩,rfl⟩;show jy (a6 d) (ak (cR p true)) (ak v) dep=_;show(if nx (cR p true)=false\/80<dep+(bm (cR p true)).length then none else if fT (cR p true)=true then(if v=[]\/160<v.length then none else some (Nd.leaf [] (bm (cR p true)) v)) else _)=_;rw[(uC _).2 f1,f2,f3];have h1:dep+p.length<=80:=hK.deep;have h2:v≠[]:=hK.bB;have h3:v.length<=160:=hK.aK.2.2.2;rw[Ui (by rintro (h|h);cases h;omega),Uj rfl,Ui (by rintro (h|h);exact h2 h;omega)]
  |ext h p k=>
   have A1:bl=false:=by cases bl with|false=>rfl|true=>exact(hb rfl).elim
   subst A1;let⟨f1,f2,f3⟩:=Fa p false hK.aK.2.1;have A2:bN d k.ref=true:=by
    have:bN (d+1) (bJ [ak (cR p false),k.ref])=true:=hf;rw[nA,Vr] at this;exact Vy.1 this.2 _ (by simp)
   let⟨k',h1,h2⟩:=GD ih k (dep+p.length) true A2 (fq hK) hL ha hx.2 λ_=>hK.bB.2.1
   have hs:k'.isNil=false:=by rw[h2.1.nil];exact(gM _).2 (oq hK.bB.2.1)
   refine⟨.ext [] p k',?_,⟨h,k,rfl,h2.1,h2.2⟩,rfl⟩;show jy (a6 d) (ak (cR p false)) k.ref dep=_;show(if nx (cR p false)=false\/80<dep+(bm (cR p false)).length then none else if fT (cR p false)=true then _ else match jC (a6 d) k.ref (dep+(bm (cR p false)).length) true with
    |some k=>if k.isNil=true\/bm (cR p false)=[] then none else some (Nd.ext [] (bm (cR p false)) k)
    |none=>none)=_
   rw[(uC _).2 f1,f2,f3,h1];have h3:dep+p.length<=80:=hK.deep.1;rw[Ui (by rintro (h|h);cases h;omega),Ui (by decide)];show(if k'.isNil=true\/p=[] then none else some (Nd.ext [] p k'))=_;rw[Ui (by rintro (h|h);rw[hs] at h;cases h;exact hK.bB.1 h)]
  |branch h v ks=>
   have A4:bN (d+1) (bJ ((List.range 16).map (λi=>(ks i).ref)++[ak v]))=true:=hf;rw[nA,Vr] at A4;have A2:∀i,i<16->bN d (ks i).ref=true:=λi hi=>Vy.1 A4.2 _ (UR _ (UO.2 ⟨i,Vq.2 hi,rfl⟩))
   have A5:∀i,i<16->cW (ks i):=hL;have A7:∀i,i<16->((List.range 16).map (λi=>(ks i).ref)++[ak v]).getD i (ak [])=(ks i).ref:=λi hi=>by
    rw[Up,UW (by simp;exact hi),UK,List.getElem?_range hi];rfl
   have A0:∀i,i<16->∃k',gW (a6 d) ((List.range 16).map (λi=>(ks i).ref)++[ak v]) dep i=some k'/\il Q k' (ks i):=λi hi=>by
    let⟨k',h1,h2⟩:=GD ih (ks i) (dep+1) false (A2 i hi) (dA hK i hi) (A5 i hi) (ha i hi) (hx.2 i hi) λh=>by cases h
    exact⟨k',by unfold gW;rwa[A7 i hi],h2⟩
   generalize hks:(List.range 16).map (λi=>(ks i).ref)++[ak v]=L at*;have A3:L.length=17:=by rw[<-hks];simp
   have h16:L.getD 16 (ak [])=ak v:=by rw[<-hks];rfl
   have A8:∀n,n<=16->kD (a6 d) L dep n=true:=λn=>by
    induction n with
    |zero=>intro _;rfl
    |succ n ihn=>intro hn;let⟨k',h1,_⟩:=A0 n (by omega);simp only[kD,ihn (by omega),h1];rfl
   have A6:∀n,n<=16->dj v (λi=>(gW (a6 d) L dep i).getD .nil) n=dj v ks n:=λn=>by
    induction n with
    |zero=>intro _;rfl
    |succ n ihn=>intro hn;let⟨k',h1,h2⟩:=A0 n (by omega);simp only[dj,ihn (by omega),h1,Option.getD_some,h2.1.nil]
   refine⟨.branch [] v (λi=>(gW (a6 d) L dep i).getD .nil),?_,⟨h,ks,rfl,λi hi=>?_⟩,rfl⟩
   .show a6 (d+1) (bJ ((List.range 16).map (λi=>(ks i).ref)++[ak v])) dep bl=_;rw[hks];show(if L.length=2/\bl=false then _ else if L.length=17 then iI (a6 d) L dep else none)=_;rw[Ui (by rw[A3];rintro ⟨h,_⟩;cases h),Uj A3];unfold iI;rw[h16];show(if 160<v.length then none else if kD (a6 d) L dep 16=true/\2<=iH (a6 d) L dep v 16 then _ else none)=_;have:=hK.aK.2.1;rw[Ui (by omega),Uj ⟨A8 16 (Ug _),by rw[Au,A6 16 (Ug _)];exact hK.full.1⟩]
   let⟨k',h1,h2⟩:=A0 i hi;simp only[h1,Option.getD_some];exact h2
def Ot{Q F dep bl}(b:aA F dep)(d:bK F)(e:bL F)(a:F.read)(j:gX Q F)(f:bl=true->F.fY)(i:0<dep->32<=F.code.length):∃m,gS (fe F.code) F.code dep bl=.ok m/\Part Q m F/\m.hash=fe F.code:=by
 let⟨h6,g⟩:=b.aK.ow a;let⟨m,h1,h2,h3⟩:=Pr Q 6 (Ug _) F dep bl h6 b d e a j f;have c:m.some:=h2.same.2 (by cases F<;>first|exact a.elim|trivial);refine⟨m.gY (fe F.code),?_,?_,AP _ m c⟩
 .unfold gS;rw[Ui (λh=>h rfl),Ui (by rintro ⟨h,k⟩;have:=i h;omega)];have:=IX F.item h6 g;show yy _ dep bl (dC (bu 6 F.item))=_;rw[this];show CY _ (a6 6 F.item dep bl)=_;rw[h1];rfl
 cases m with
 |nil=>exact c.elim
 |unread x=>rw[show x=[] from h3] at h2;have:=h2.2.1;have h4:=kE F.code;rw[<-this] at h4;cases h4
 |leaf _ _ _=>exact h2
 |ext _ _ _=>exact h2
 |branch _ _ _=>exact h2
def sE(G:yB->Option yB)(a:Prop)(Q:yL->Prop):Prop:=∀c,Q c->G (ag (ae c))=some (ae c)\/(a/\(G (ag (ae c))=none\/∃u,G (ag (ae c))=some u/\ag u≠ag (ae c)))
def Cj(a:Prop)(e:Nat):Prop:=e=0\/(a/\(e=9\/e=10))
def nC(l):(ae l).data.toList=l:=by unfold ae;simp
def EU{G}{i:Prop}{Q}(n:sE G i Q){t F dep bl}(b:Part Q t F)(j:aA F dep)(k:bK F)(o:bL F)(p:bl=true->t.some->F.fY)(a:0<dep->t.hash=F.hash/\cW F)(f:aO t):(∃m,dG G t dep bl=.ok m/\Part Q m F/\(0<dep->m.hash=F.hash)/\(m=.nil\/m.read))\/(i/\∃e,dG G t dep bl=.error e/\(e=9\/e=10)):=by
 cases t with
 |nil=>exact .inl ⟨_,rfl,b,λh=>(a h).1,.inl rfl⟩
 |leaf _ _ _=>exact .inl ⟨_,rfl,b,λh=>(a h).1,.inr trivial⟩
 |ext _ _ _=>exact .inl ⟨_,rfl,b,λh=>(a h).1,.inr trivial⟩
 |branch _ _ _=>exact .inl ⟨_,rfl,b,λh=>(a h).1,.inr trivial⟩
 |unread x=>
  let⟨d,e,r,s⟩:=b;have v:F.some:=by cases F<;>first|exact d.elim|trivial
  have c:ae x=ag (ae F.code):=by rw[e,mX]
  have l:dG G (.unread x) dep bl=iC G x dep bl:=rfl;rw[l];unfold iC;rcases n _ r with h|⟨g,h|⟨u,h,q⟩⟩
  .rw[c,h];left;have h32:0<dep->32<=F.code.length:=λh0=>by
    let⟨h1,h2⟩:=a h0;refine(h2.FQ d ?_).2;rw[<-h1];intro e3;rw[show x=[] from e3] at f;cases f
   let⟨m,h1,h2,h3⟩:=Ot j k o d s (λh=>p h trivial) h32;refine⟨m,?_,h2,λh0=>?_,.inr ((oT h1).2.1)⟩
   .show gS x (ae F.code).data.toList dep bl=_;rwa[nC,e]
   rw[h3,<-(a h0).1];exact e.symm
  .rw[c,h];exact .inr ⟨g,9,rfl,.inl rfl⟩
  rw[c,h];refine .inr ⟨g,10,?_,.inr rfl⟩;show gS x u.data.toList dep bl=_;unfold gS;rw[Uj];intro h2;apply q;have h3:ae (fe u.data.toList)=ae x:=by rw[h2]
  rwa[mX,gA,c] at h3
def Ou{G}{u:Prop}{Q}(D:sE G u Q):∀(f:Nat) (t F) (p) (dep:Nat) (bl:Bool),Part Q t F->aA t dep->aA F dep->bK F->bL F->(bl=true->t.some->F.fY)->(0<dep->t.hash=F.hash/\cW F)->aw p->
 Part Q (dc G f t p dep bl).1 F/\(0<dep->(dc G f t p dep bl).1.hash=F.hash)/\Cj u (dc G f t p dep bl).2:=by
 intro f;induction f with
 |zero=>intro t F p dep bl j x d g l C n o;exact⟨j,λh=>(n h).1,.inl rfl⟩
 |succ f ih=>
  intro t F p dep bl j x d g l C n o;show Part Q (lG t _ (dG G t dep bl)).1 F/\(0<dep->(lG t _ (dG G t dep bl)).1.hash=F.hash)/\Cj u (lG t _ (dG G t dep bl)).2;rcases EU D j d g l C n x.aK with⟨m,h1,h2,h3,h4⟩|⟨z,e,h1,h2⟩
  .let⟨w,_⟩:=nf x h1;rw[h1];show Part Q (gj (dc G f) m p dep).1 F/\(0<dep->(gj (dc G f) m p dep).1.hash=F.hash)/\Cj u (gj (dc G f) m p dep).2;cases m with
   |nil=>exact⟨h2,h3,.inl rfl⟩
   |unread _=>exact⟨h2,h3,.inl rfl⟩
   |leaf _ _ _=>exact⟨h2,h3,.inl rfl⟩
   |ext h q k=>
    obtain⟨b,A,rfl,g1,g2⟩:=h2;simp only[gj];by_cases e:aF q p=q.length
    .rw[Uj e];have H:=Vt.2 w.bB.1;let⟨a1,a2,a3⟩:=ih k A (p.drop q.length) (dep+q.length) true g1 (fq w) (fq d) g.loose l (λ_ _=>d.bB.2.1) (λ_=>⟨g2,g⟩) (da o _);exact⟨⟨b,A,rfl,a1,a2 (by omega)⟩,h3,a3⟩
    rw[Ui e];exact⟨⟨b,A,rfl,g1,g2⟩,h3,.inl rfl⟩
   |branch h v ks=>
    obtain⟨b,s,rfl,g1⟩:=h2;cases p with
    |nil=>exact⟨⟨b,s,rfl,g1⟩,h3,.inl rfl⟩
    |cons c r=>
     have a:=o c (Uk ..);have E:aw r:=λy z=>o y (Ul _ z)
     have B:=g;let⟨a1,a2,a3⟩:=ih (ks c.toNat) (s c.toNat) r (dep+1) false (g1 _ a).1 (dA w _ a) (dA d _ a) (B _ a).loose (l _ a) (λh=>by cases h) (λ_=>⟨(g1 _ a).2,B _ a⟩) E;refine⟨⟨b,s,rfl,λi hi=>?_⟩,h3,a3⟩;by_cases e:i=c.toNat
     .subst e;rw[dK];exact⟨a1,a2 (by omega)⟩
     rw[e9 _ _ _ _ e];exact g1 i hi
  rw[h1];exact⟨j,λh=>(n h).1,.inr ⟨z,h2⟩⟩
def iF:yB->Option yB:=λ_=>none
def GF{Q ks a}(h:∀i,i<16->il Q (ks i) (a i)):∀n,n<=16->cO ks n=cO a n/\dx ks n=dx a n
 | 0,_=>⟨rfl,rfl⟩
 |n+1,hn=>by
  let⟨h1,h2⟩:=GF h n (by omega)
  simp only[cO,dx,h1,h2,(h n (by omega)).1.nil]
  exact⟨trivial,trivial⟩
def ET{G}{k:Prop}{Q}(p:sE G k Q){ks c}{v:yL}{dep}(h:∀i,i<16->il Q (ks i) (c i))(b:∀i,i<16->aO (ks i))(l:∀i,i<16->aA (c i) (dep+1))(f:∀i,i<16->cW (c i))(g:∀i,i<16->bL (c i)):(∃t' F',cd G ks v dep=.ok t'/\cd iF c v dep=.ok F'/\il Q t' F')\/(k/\∃e,cd G ks v dep=.error e/\(e=9\/e=10)):=by
 let⟨o,n⟩:=GF h 16 (Ug _);unfold cd;rw[<-o,<-n];by_cases h0:cO ks 16=0
 .rw[Uj h0,Uj h0];exact .inl ⟨_,_,rfl,rfl,rC _ _⟩
 rw[Ui h0,Ui h0];by_cases h2:1<cO ks 16\/v≠[]
 .rw[Uj h2,Uj h2];exact .inl ⟨_,_,rfl,rfl,wE b h⟩
 rw[Ui h2,Ui h2];let⟨a,hs⟩:=nt ks 16 (by omega);rw[ru (g _ a)];rcases EU (bl:=false) p (h _ a).1 (l _ a) (f _ a).loose (g _ a) (λh=>by cases h) (λ_=>⟨(h _ a).2,f _ a⟩) (b _ a) with⟨m,h1,h3,h4,h5⟩|⟨q,e,h1,h3⟩
 .left;have d:m.some:=h3.same.2 ((h _ a).1.same.1 hs);have j:m.read:=h5.resolve_left λe=>by rw[e] at d;exact d.elim
  have bG:aO m:=by
   cases hk:ks (dx ks 16) with
   |unread x=>
    rw[hk] at h1;have:iC G x (dep+1) false=.ok m:=h1;unfold iC at this;split at this
    .cases this
    exact(oT this).1.aK
   |nil=>rw[hk] at h1;cases h1;trivial
   |leaf _ _ _=>have:=b _ a;rw[hk] at h1 this;cases h1;exact this
   |ext _ _ _=>have:=b _ a;rw[hk] at h1 this;cases h1;exact this
   |branch _ _ _=>have:=b _ a;rw[hk] at h1 this;cases h1;exact this
  rw[h1];exact⟨_,_,rfl,rfl,wC bG ⟨h3,h4 (by omega)⟩ d λx e _=>by rw[e] at j;exact j.elim⟩
 right;rw[h1];exact⟨q,e,rfl,h3⟩
def Hw{Q}:∀{t F p},Part Q t F->dD t p->aw p->jL t p->jL F p:=by
 intro t;induction t with
 |nil=>intro F p _ _ _ h;exact h.elim
 |unread _=>intro F p _ _ _ h;exact h.elim
 |leaf _ _ _=>rintro F p⟨f,rfl⟩ _ _ h;exact h
 |ext h q k ih=>rintro F p⟨f,l,rfl,h1,_⟩ d b ⟨e,a⟩;exact⟨e,ih h1 (d e) (da b _) a⟩
 |branch h v ks ih=>
  rintro F p⟨f,j,rfl,h1⟩ d b a;cases p with
  |nil=>exact a
  |cons c r=>have g:=b c (Uk ..);have h2:=d;have h3:=a;exact ih c.toNat (F:=j c.toNat) (p:=r) (h1 _ g).1 h2 (λy i=>b y (Ul _ i)) h3
def QS{q}(a:q≠[])(t):(aX q t).read:=by
 cases t<;>(simp only[aX,Ui a];trivial)
def DQ{G ks v dep a}(h:cd G ks v dep=.ok a):a.read:=by
 unfold cd at h;split at h
 .cases h;trivial
 split at h
 .cases h;trivial
 cases hr:dG G (ks (dx ks 16)) (dep+1) false with
 |error c=>rw[hr] at h;cases h
 |ok k=>rw[hr] at h;cases h;exact QS (λh=>by cases h) k
def Qk{G}{k:Nd}{p dep t'}(hk:k.kind=3)(h:bI G k p dep=.ok t'):t'.read:=by
 cases k with
 |branch h0 v ks=>
  cases p with
  |nil=>exact DQ (v:=[]) h
  |cons c r=>
   have h':pU (λk=>cd G (aJ ks c.toNat k) v dep) (bI G (ks c.toNat) r (dep+1))=.ok t':=h;cases hr:bI G (ks c.toNat) r (dep+1) with
   |error c=>rw[hr] at h';cases h'
   |ok k=>rw[hr] at h';exact DQ h'
 | _=>cases hk
def EW{G}{L:Prop}{Q}(E:sE G L Q):∀(t F) (p) (dep:Nat),Part Q t F->aA t dep->aA F dep->bK t->bK F->bL F->dD t p->jL t p->aw p->dep+p.length<=80->
 (∃f g,bI G t p dep=.ok f/\bI iF F p dep=.ok g/\il Q f g)\/(L/\∃e,bI G t p dep=.error e/\(e=9\/e=10)):=by
 intro t;induction t with
 |nil=>intro F p dep _ _ _ _ _ _ _ h;exact h.elim
 |unread _=>intro F p dep _ _ _ _ _ _ _ h;exact h.elim
 |leaf h q v=>rintro F p dep⟨B,rfl⟩ _ _ _ _ _ _ _ _ _;exact .inl ⟨.nil,.nil,rfl,rfl,rfl,rfl⟩
 |ext h q k ih=>
  rintro F p dep⟨B,K,rfl,h1,h2⟩ b m A C j l o s H;let⟨e,I⟩:=o;have R:=(iN q p).2;rw[e] at R;have n:dep+q.length+(p.drop q.length).length<=80:=by rw[Uu];omega
  rcases ih K (p.drop q.length) (dep+q.length) h1 (fq b) (fq m) A.loose C.loose j (l e) I (da s _) n with⟨f,g,g1,g2,g3⟩|⟨w,c,g1,g2⟩
  .left;have J:k.kind=3:=by
    have O:=b.bB.2.1;have S:=l e;cases k<;>first|exact O.elim|exact S.elim|rfl
   let⟨l1,l2⟩:=lk G k _ _ f (fq b) A.loose (l e) I (da s _) n g1;refine⟨aX q f,aX q g,?_,?_,wC l1.ok.aK g3 (l2 J) ?_⟩
   .show lH q (bI G k (p.drop q.length) (dep+q.length))=_;rw[g1];rfl
   .show lH q (bI iF K (p.drop q.length) (dep+q.length))=_;rw[g2];rfl
   intro x M _;subst M;exact(Qk J g1).elim
  right;refine⟨w,c,?_,g2⟩;show lH q (bI G k (p.drop q.length) (dep+q.length))=_;rw[g1];rfl
 |branch h v ks ih=>
  rintro F p dep⟨B,d,rfl,h1⟩ b m A C j l o s H;have D:=A;have z:=C;cases p with
  |nil=>exact ET (v:=[]) E h1 (λi hi=>(dA b i hi).aK) (λi hi=>dA m i hi) z j
  |cons c r=>
   have a:=s c (Uk ..);have u:aw r:=λy w=>s y (Ul _ w)
   have n:dep+1+r.length<=80:=by simp at H;omega
   rcases ih c.toNat (d c.toNat) r (dep+1) (h1 _ a).1 (dA b _ a) (dA m _ a) (D _ a).loose (z _ a).loose (j _ a) l o u n with⟨f,g,g1,g2,g3⟩|⟨w,e,g1,g2⟩
   .let⟨l1,_⟩:=lk G (ks c.toNat) _ _ f (dA b _ a) (D _ a).loose l o u n g1;have P:jL (d c.toNat) r:=Hw (h1 _ a).1 l u o;let⟨l2,_⟩:=lk iF (d c.toNat) _ _ g (dA m _ a) (z _ a).loose (nT (j _ a) u) P u n g2;have N:=ot.less_all iF _ _ _ _ (j _ a) g2;have hs:=ET (v:=v) (dep:=dep) E (wB (c:=c.toNat) h1 g3) (xA (λi hi=>(dA b i hi).aK) l1.ok.aK) (λi hi=>by
     by_cases e:i=c.toNat
     .subst e;rw[dK];exact l2.ok
     .rw[e9 _ _ _ _ e];exact dA m i hi) (λi hi=>by
     by_cases e:i=c.toNat
     .subst e;rw[dK];exact l2.tight
     .rw[e9 _ _ _ _ e];exact z i hi) (λi hi=>by
     by_cases e:i=c.toNat
     .subst e;rwa[dK]
     rw[e9 _ _ _ _ e];exact j i hi)
    have e1:bI G (.branch h v ks) (c::r) dep=cd G (aJ ks c.toNat f) v dep:=by
     show pU (λk=>cd G (aJ ks c.toNat k) v dep) (bI G (ks c.toNat) r (dep+1))=_;rw[g1];rfl
    have e2:bI iF (.branch B v d) (c::r) dep=cd iF (aJ d c.toNat g) v dep:=by
     show pU (λk=>cd iF (aJ d c.toNat k) v dep) (bI iF (d c.toNat) r (dep+1))=_;rw[g2];rfl
    rwa[e1,e2]
   right;refine⟨w,e,?_,g2⟩;show pU (λk=>cd G (aJ ks c.toNat k) v dep) (bI G (ks c.toNat) r (dep+1))=_;rw[g1];rfl
def vw{ks k c}(h:∀i,i<16->bL (ks i))(a:bL k):∀i,i<16->bL (aJ ks c k i):=λi hi=>by
 by_cases e:i=c
 .subst e;rwa[dK]
 rw[e9 _ _ _ _ e];exact h i hi
def Dz{n:Nd}{p v s}(b:n.kind=1\/n.kind=2)(h:bL n):bL (gi n p v s):=by
 have c:∀q,bL (gJ n q):=λq=>by
  cases n with
  |leaf _ _ _=>trivial
  |ext _ _ _=>exact ot.join_all h
  | _=>rcases b with h|h<;>cases h
 have a:∀i,i<16->bL (dX n s i):=by
  unfold dX;split
  .exact vw (λ_ _=>trivial) (c _)
  exact λ_ _=>trivial
 refine ot.join_all (show ∀i,i<16->bL (dF n p v s i) from ?_);unfold dF;split
 .exact vw a trivial
 exact a
def yk:∀{t p v},bL t->aw p->bL (bR t p v):=by
 intro t;induction t with
 |nil=>intro p v _ _;trivial
 |unread _=>intro p v h;exact h.elim
 |leaf h q x=>
  intro p v a _;simp only[bR];split
  .trivial
  exact Dz (.inl rfl) a
 |ext h q k ih=>
  intro p v a b;simp only[bR];split
  .exact ih (v:=v) a (da b _)
  exact Dz (.inr rfl) a
 |branch h x ks ih=>
  intro p v a b;cases p with
  |nil=>exact a
  |cons c r=>exact vw a (ih c.toNat (a _ (b c (Uk ..))) λy d=>b y (Ul _ d))
def ri:∀(t) (dep:Nat),aA t dep->bL t->t.some->∃x,aw x/\aM t x≠[]:=by
 intro t;induction t with
 |nil=>intro dep _ _ h;exact h.elim
 |unread _=>intro dep _ h;exact h.elim
 |leaf h p v=>intro dep a _ _;exact⟨p,a.aK.2.1,by rw[lr,Uj rfl];exact a.bB⟩
 |ext h p k ih=>intro dep a b _;let⟨x,h1,h2⟩:=ih _ (fq a) b (oq a.bB.2.1);exact⟨p++x,lg a.aK.2.1 h1,by rwa[lu]⟩
 |branch h v ks ih=>
  intro dep a b _;by_cases c:v=[]
  .let⟨i,hi,hs⟩:=xi v ks 16 a.full.1;let⟨x,h1,h2⟩:=ih i _ (dA a i hi) (b i hi) hs;refine⟨UInt8.ofNat i::x,lg (tX hi) h1,?_⟩;rwa[pB,U3,VH (by omega)]
  exact⟨[],(λ_ h=>by cases h),c⟩
def vB{h v ks dep}(d:aA (.branch h v ks) dep)(m:bL (.branch h v ks)):∃x y,aw x/\aw y/\aM (.branch h v ks) x≠[]/\aM (.branch h v ks) y≠[]/\x.head?≠y.head? :=by
 have l:∀i,i<16->(ks i).some->∃x,aw (UInt8.ofNat i::x)/\aM (.branch h v ks) (UInt8.ofNat i::x)≠[]:=λi hi hs=>by
  let⟨x,h1,h2⟩:=ri (ks i) _ (dA d i hi) (m i hi) hs;refine⟨x,lg (tX hi) h1,?_⟩;rwa[pB,U3,VH (by omega)]
 let⟨i,hi,hs⟩:=xi v ks 16 d.full.1;let⟨x,h1,h2⟩:=l i hi hs;by_cases k:v=[]
 .have f:=d.full.1;rw[pj v ks i hs 16 hi] at f;have h3:∃j,j<16/\(aJ ks i .nil j).some:=by
   have h0:1<=cO (aJ ks i .nil) 16:=by
    rw[oh,Uj k] at f;omega
   let⟨a,b⟩:=nt _ 16 h0;exact⟨_,a,b⟩
  let⟨j,n,c⟩:=h3;have g:j≠i:=λe=>by rwa[e,dK] at c
  rw[e9 _ _ _ _ g] at c;let⟨y,h4,h5⟩:=l j n c;refine⟨_,_,h1,h4,h2,h5,λe=>g ?_⟩;have e2:=Option.some.inj e;have e3:=congrArg UInt8.toNat e2;rw[U3,U3,VH (by omega),VH (by omega)] at e3;exact e3.symm
 exact⟨[],_,(λ_ h=>by cases h),h1,k,h2,λe=>by cases e⟩
def BS(p:yL)(t:Nd):Prop:=∀x,aw x->aM t x≠[]->∃r,x=p++r
def EJ{p h v ks dep}(b:aA (.branch h v ks) dep)(d:bL (.branch h v ks))(a:BS p (.branch h v ks)):p=[]:=by
 let⟨x,y,h1,h2,h3,h4,h5⟩:=vB b d;let⟨r,e1⟩:=a x h1 h3;let⟨s,e2⟩:=a y h2 h4;cases p with
 |nil=>rfl
 |cons c p=>rw[e1,e2] at h5;exact absurd rfl h5
def wu{p h k}:BS p (.ext h p k):=λx _ b=>by
 refine Vn λa=>b ?_
 exact pC _ _ _ _ λr e=>a ⟨r,e⟩
def Io{k:Nd}(b:k.fY)(a:bL k):∃h v ks,k=.branch h v ks:=by
 cases k with
 |branch h v ks=>exact⟨h,v,ks,rfl⟩
 |unread _=>exact a.elim
 | _=>exact b.elim
def EH{q p h k dep}(d:aA (.ext h p k) dep)(e:bL (.ext h p k))(g:BS q (.ext h p k)):∃r,p=q++r:=by
 obtain⟨i,v,ks,rfl⟩:=Io d.bB.2.1 e;let⟨x,y,h1,h2,h3,h4,h5⟩:=vB (fq d) e;let⟨r,e1⟩:=g (p++x) (lg d.aK.2.1 h1) (by rwa[lu]);let⟨s,e2⟩:=g (p++y) (lg d.aK.2.1 h2) (by rwa[lu]);rcases List.append_eq_append_iff.1 e1 with⟨a,b,f⟩|⟨a,b,f⟩
 .cases a with
  |nil=>exact⟨[],by rw[UU] at b;rw[b,UU]⟩
  |cons c a=>rw[b,UI] at e2;have e3:=Vg e2;rw[f,e3] at h5;exact absurd rfl h5
 exact⟨a,b⟩
def IK{Q k k'}(b:aO k)(h:Part Q k k')(a:bL k)(h1:cW k)(h2:cW k'):k.hash=k'.hash:=by
 by_cases hs:k.some
 .rw[h1.named (a.read hs),h2.named (h.read hs),h.code b (a.read hs)]
 have e1:k=.nil:=by cases k<;>first|rfl|exact absurd trivial hs
 subst e1;rw[show k'=.nil from h]
def Lo(Q:yL->Prop):∀(t b) (dep:Nat),aA t dep->aA b dep->bK t->bK b->bL t->bL b->(∀x,aw x->aM t x=aM b x)->Part Q t b:=by
 have z:∀(t:Nd) (dep:Nat),aA t dep->bL t->(∀x,aw x->aM t x=[])->t=.nil:=λt dep a d h=>by
  by_cases hs:t.some
  .let⟨x,h1,h2⟩:=ri t dep a d hs;exact absurd (h x h1) h2
  cases t<;>first|rfl|exact absurd trivial hs
 have u:∀(h p v:yL) (b:Nd) (dep:Nat),v≠[]->aw p->aA b dep->bL b->(∀x,aw x->aM (.leaf h p v) x=aM b x)->∃h',b=.leaf h' p v:=λh p v b dep G m a d f=>by
  have A:∀x,aw x->aM b x≠[]->x=p:=λx c j=>by
   rw[<-f x c,lr] at j;exact Vn λF=>j (by rw[Ui F])
  have D:∀x y:yL,aw x->aw y->aM b x≠[]->aM b y≠[]->x=y:=λx y h1 h2 h3 h4=>(A x h1 h3).trans (A y h2 h4).symm
  cases b with
  |nil=>have:=f p m;rw[lr,Uj rfl] at this;exact absurd this G
  |unread _=>exact d.elim
  |leaf h' q w=>
   have h1:aM (.leaf h' q w) q≠[]:=by rw[lr,Uj rfl];exact a.bB
   have e:=A q a.aK.2.1 h1;subst e;have:=f q m;rw[lr,lr,Uj rfl,Uj rfl] at this;rw[this];exact⟨h',rfl⟩
  |ext h' q k=>obtain⟨h2,w,ks,rfl⟩:=Io a.bB.2.1 d;let⟨x,y,g1,g2,g3,g4,g5⟩:=vB (fq a) d;have:=D (q++x) (q++y) (lg a.aK.2.1 g1) (lg a.aK.2.1 g2) (by rwa[lu]) (by rwa[lu]);rw[Vg this] at g5;exact absurd rfl g5
  |branch h' w ks=>let⟨x,y,g1,g2,g3,g4,g5⟩:=vB a d;rw[D x y g1 g2 g3 g4] at g5;exact absurd rfl g5
 intro t;induction t with
 |nil=>intro b dep _ a _ _ _ d f;exact z b dep a d λx c=>(f x c).symm
 |unread _=>intro b dep _ _ _ _ d;exact d.elim
 |leaf h p v=>intro b dep a g _ _ _ l f;exact u h p v b dep a.bB a.aK.2.1 g l f
 |ext h p k ih=>
  intro b dep a g n o d l f;cases b with
  |nil=>cases z _ dep a d f
  |unread _=>exact l.elim
  |leaf h' q w=>let⟨_,e⟩:=u h' q w _ dep g.bB g.aK.2.1 a d λx c=>(f x c).symm;cases e
  |ext h' q k'=>
   let⟨r,e1⟩:=EH a d (q:=q) λx c j=>wu (h:=h') (k:=k') x c (by rwa[<-f x c])
   let⟨s,e2⟩:=EH g l (q:=p) λx c j=>wu (h:=h) (k:=k) x c (by rwa[f x c])
   have e:p=q:=by
    have E:r.length=0:=by
     have h1:=congrArg List.length e1;have h2:=congrArg List.length e2;rw[Uq] at h1 h2;omega
    rw[e1,UH.1 E,UU]
   subst e;have m:=ih k' _ (fq a) (fq g) n.loose o.loose d l λx c=>by
    have:=f (p++x) (lg a.aK.2.1 c);rwa[lu,lu] at this
   exact⟨h',k',rfl,m,IK (fq a).aK m d n o⟩
  |branch h' w ks=>
   have:=EJ g l (p:=p) λx c j=>wu (h:=h) (k:=k) x c (by rwa[f x c])
   exact absurd this a.bB.1
 |branch h v ks ih=>
  intro b dep a g n o d l f;cases b with
  |nil=>cases z _ dep a d f
  |unread _=>exact l.elim
  |leaf h' q w=>let⟨_,e⟩:=u h' q w _ dep g.bB g.aK.2.1 a d λx c=>(f x c).symm;cases e
  |ext h' q k'=>
   have:=EJ a d (p:=q) λx c j=>wu (h:=h') (k:=k') x c (by rwa[<-f x c])
   exact absurd this g.bB.1
  |branch h' w ks'=>
   have e:v=w:=f [] (λ_ h=>by cases h);subst e;have B:=n;have C:=o;refine⟨h',ks',rfl,λi hi=>?_⟩;have m:=ih i (ks' i) _ (dA a i hi) (dA g i hi) (B i hi).loose (C i hi).loose (d i hi) (l i hi) λx c=>by
    have:=f (UInt8.ofNat i::x) (lg (tX hi) c);rwa[pB,pB,U3,VH (by omega)] at this
   exact⟨m,IK (dA a i hi).aK m (d i hi) (B i hi) (C i hi)⟩
def Part.texts{Q R}:∀{t a},aO t->Part Q t a->bL t->t.hash=a.hash->gX R t->gX R a:=by
 intro t;induction t with
 |nil=>intro a _ h _ _ _;rw[show a=.nil from h];trivial
 |unread _=>intro a _ _ h;exact h.elim
 |leaf h p v=>rintro a c⟨d,rfl⟩ _ j b g;have e:=j;subst e;exact b g
 |ext h p k ih=>intro a c f l j b;have m:=f.code c trivial;obtain⟨d,n,rfl,h1,h2⟩:=f;have e:=j;subst e;exact⟨λg=>by rw[<-m];exact b.1 g,ih c.2.2.2.2 h1 l h2 b.2⟩
 |branch h v ks ih=>intro a c f l j b;have m:=f.code c trivial;obtain⟨d,o,rfl,h1⟩:=f;have e:=j;subst e;exact⟨λg=>by rw[<-m];exact b.1 g,λi hi=>ih i (c.2.2 i hi) (h1 i hi).1 (l i hi) (h1 i hi).2 (b.2 i hi)⟩
structure fv(w:World)(sb:Nat)(vs:Nat->Value)(ps:List (yB×yB)):Prop where
 st:gG 3 w sb vs ps
 n:ps.length<4000000000000
 sm:∀h t,ah ps h=some t->t.size<=4096
 m3:∀x,cy sb vs x->3<=x
def fv.kept{w w':World}{sb a b}(h:fv w sb a b)(k:∀x,cy sb a x->w'.heap[x]? =w.heap[x]?):fv w' sb a b:=⟨h.st.kept k,h.n,h.sm,h.m3⟩
def fv.below{w w' sb b a}(h:fv w sb b a)(k:yW w w'):fv w' sb b a:=h.kept λx c=>k.block x (h.st.eM x c)
def fv.rZ{w sb b a}(h:fv w sb b a):j5 (cy sb b) w (qA sb) (ah a):=λW k c d=>by
 refine(Oc 3 W sb b a (h.st.kept d) k h.n).mono ?_
 rintro e w'⟨rfl,f⟩
 refine⟨?_,f⟩
 unfold pz kG
 rw[Uj c,Uj c]
 cases ah a k<;>rfl
def fv.over{w sb a b S}(h:fv w sb a b)(T:aB w)(c:∀x,S x->¬cy sb a x):lX (cy sb a) w (qA sb) (ah b) S:=
 ⟨h.rZ,λk t d=>Ut (h.sm k t d) (by decide),h.st.eM,c,T⟩
def uB{G t key}(b:aA t 0)(a:bK t):bK (bE G t key):=by
 unfold bE;split
 .exact a
 exact oY G t key b a
def zn{G t key value}(b:aA t 0)(a:bK t):bK (b6 G t key value):=by
 unfold b6;split
 .next h=>
  let⟨h1,_,_,h4,_⟩:=tK h;exact(yv (oY G t key b a) (kA G t key b h1 h4)).loose
 unfold fR;split
 .exact a
 split
 .exact a
 exact oY G t key b a
def Bi{G t key}(a:aA t 0)(b:bK t):bK (bC G t key).1:=by
 have h1:=oY G t key a b;unfold bC;split
 .exact b
 next h40=>
 split
 .exact h1
 next h0=>
 split
 .exact h1
 next hf=>
 have c:=Va h0;cases hl:bI G (aG G t key).1 (aD key) 0 with
 |error e=>exact h1
 |ok t'=>exact(lk G _ _ 0 t' (jk G t key a) h1 (kA G t key a (by omega) c) (px _ _ hf) (b8 key) (by rw[g6];omega) hl).1.tight.loose
def Own(K:Nat->Prop)(w:World)(sb a:Nat)(t:Nd):Prop:=∃S vs,eX w a (qA sb) S t/\bK t/\fv w sb vs []/\(∀x,S x->¬K x/\¬cy sb vs x)/\¬K a/\¬cy sb vs a/\(∀x,cy sb vs x->¬K x)/\∀x,K x->x<w.heap.size
def jH(K:Nat->Prop)(w w':World):Prop:=bO (λx=>¬K x) w w'
def jH.less{K K' w w1}(h:jH K w w1)(c:∀x,K' x->K x):jH K' w w1:=⟨h.os,h.tape,h.output,h.size,λx e d=>h.block x e λb=>d λa=>b (c x a)⟩
def jH.below{w w' b}(h:jH (λx=>x<b) w w')(d:b<=w.heap.size):Below b w w':=⟨h.os,h.tape,h.output,h.size,λx a=>h.block x (Us a d) λc=>c a⟩
def jH.at_{K w w'}(h:jH K w w')(x:Nat)(c:K x)(b:x<w.heap.size):w'.heap[x]? =w.heap[x]? :=h.block x b λa=>a c
def jH.cell{K w w'}(h:jH K w w'){x o v}(c:K x)(b:x<w.heap.size)(a:yc w x o v):yc w' x o v:=(Uz (w:=w) (h.at_ x c b)).trans a
def Own.lt{K w sb a t}(h:Own K w sb a t):∀x,K x->x<w.heap.size:=by
 let⟨S,b,_,_,_,_,_,_,_,h⟩:=h;exact h
def Own.below{K w w' sb b t}(h:Own K w sb b t)(k:yW w w'):Own K w' sb b t:=by
 let⟨S,d,⟨⟨u,h1,h2⟩,h3,h4⟩,h5,h6,h7,h8,h9,h10,h11⟩:=h;have c:=k.size;exact⟨S,d,⟨⟨u,h1.kept (k.block b h1.lt),h2.below k⟩,h3,λx a=>by have:=h4 x a;exact⟨this.1,this.2.1,by omega⟩⟩,h5,h6.below k,h7,h8,h9,h10,λx a=>Us (h11 x a) c⟩
def Own.more{K w w' sb c t}(h:Own K w sb c t)(k:yW w w'):Own (λx=>K x\/(w.heap.size<=x/\x<w'.heap.size)) w' sb c t:=by
 let⟨S,e,⟨⟨u,h1,h2⟩,h3,h4⟩,h5,h6,h7,h8,h9,h10,h11⟩:=h;have d:=k.size;have f:=h1.lt;exact⟨S,e,⟨⟨u,h1.kept (k.block c h1.lt),h2.below k⟩,h3,λx b=>by have:=h4 x b;exact⟨this.1,this.2.1,by omega⟩⟩,h5,h6.below k,λx b=>⟨λa=>by have:=h4 x b;rcases a with a|a;exact(h7 x b).1 a;omega,(h7 x b).2⟩,λa=>by rcases a with a|a;exact h8 a;omega,h9,λx b a=>by have:=h6.st.eM x b;rcases a with a|a;exact h10 x b a;omega,λx b=>by rcases b with b|b;exact Us (h11 x b) d;exact b.2⟩
def Own.less{K K' w sb d t}(h:Own K w sb d t)(c:∀x,K' x->K x):Own K' w sb d t:=by
 let⟨S,e,h1,h5,h6,h7,h8,h9,h10,h11⟩:=h;exact⟨S,e,h1,h5,h6,λx a=>⟨λb=>(h7 x a).1 (c x b),(h7 x a).2⟩,λb=>h8 (c _ b),h9,λx a b=>h10 x a (c x b),λx a=>h11 x (c x a)⟩
def Own.now{K}{w w':World}{sb d}{g:Nd}{S b}(h6:fv w sb b [])(h7:∀x,S x->¬K x/\¬cy sb b x)(h8:¬K d)(h9:¬cy sb b d)(h10:∀x,cy sb b x->¬K x)(h11:∀x,K x->x<w.heap.size)(j:gF w d (qA sb) S g w') (i:bK g):Own K w' sb d g/\jH K w w':=by
 let⟨⟨S',h1,h2⟩,h3⟩:=j;have f:∀x,cy sb b x->w'.heap[x]? =w.heap[x]? :=λx a=>h3.block x (h6.st.eM x a) λc=>c.elim (λh=>(h7 x h).2 a) λe=>h9 (e▸a)
 refine⟨⟨S',b,h1,i,h6.kept f,λx a=>?_,h8,h9,h10,λx a=>Us (h11 x a) h3.size⟩,⟨h3.os,h3.tape,h3.output,h3.size,λk f m=>h3.block k f λc=>?_⟩⟩
 .rcases h2 x a with h|h
  .exact h7 x h
  exact⟨λc=>by have:=h11 x c;omega,λl=>by have:=h6.st.eM x l;omega⟩
 apply m;rcases c with h|h
 .exact(h7 k h).1
 rwa[h]
def Own.put{K w sb c t}(h:Own K w sb c t)(T:aB w)(key value:yB)(g:key.size<=maxLen)(i:value.size<=maxLen):yC 30 #[pV (qA c),sV key,sV value] w λe w'=>e=rV (i6 (cH (ah []) t key value:Int))/\Own K w' sb c (b6 (ah []) t key value)/\jH K w w':=by
 let⟨S,k,h1,h5,h6,h7,h8,h9,h10,h11⟩:=h;refine(BP h1 (h6.over T λx j=>(h7 x j).2) key value g i).mono ?_;rintro e w'⟨f,d⟩;let⟨a,b⟩:=Own.now h6 h7 h8 h9 h10 h11 d (zn h1.ok h5);exact⟨f,a,b⟩
def Own.del{K w sb c t}(h:Own K w sb c t)(T:aB w)(key:yB)(g:key.size<=maxLen):yC 34 #[pV (qA c),sV key] w λe w'=>e=rV (tV #[bV (bC (ah []) t key).2.1,i6 ((bC (ah []) t key).2.2:Int)])/\Own K w' sb c (bC (ah []) t key).1/\jH K w w':=by
 let⟨S,j,h1,h5,h6,h7,h8,h9,h10,h11⟩:=h;refine(Ck h1 h5 (h6.over T λx i=>(h7 x i).2) h9 key g).mono ?_;rintro e w'⟨f,d⟩;let⟨a,b⟩:=Own.now h6 h7 h8 h9 h10 h11 d (Bi h1.ok h5);exact⟨f,a,b⟩
def Own.prove{K w sb c t}(h:Own K w sb c t)(T:aB w)(key:yB)(g:key.size<=maxLen):yC 44 #[pV (qA c),sV key] w λe w'=>(∃v,e=rV (tV #[v,i6 (cK (ah []) t key:Int)])/\w'.ownsRow w.heap.size 9 1 v (aQ (ah []) t key).length (kT (aQ (ah []) t key)))/\Own K w' sb c (bE (ah []) t key)/\jH K w w':=by
 let⟨S,j,h1,h5,h6,h7,h8,h9,h10,h11⟩:=h;refine(T9 h1 (h6.over T λx i=>(h7 x i).2) key g).mono ?_;rintro e w'⟨f,d⟩;let⟨a,b⟩:=Own.now h6 h7 h8 h9 h10 h11 d (uB h1.ok h5);exact⟨f,a,b⟩
def Own.root{K w sb a t}(h:Own K w sb a t)(T:aB w):yC 37 #[pV (qA a)] w λe w'=>e=rV (sV (ae (bQ t)))/\Own K w' sb a t/\yW w w':=by
 have c:=h;let⟨S,f,⟨⟨u,h1,h2⟩,h3,h4⟩,_⟩:=h;refine(qQ w a _ u t S h1 h2 h3.aK T).mono ?_;rintro e w'⟨d,b⟩;exact⟨d,c.below b,b⟩
def Fh{w w1 w2:World}{b:Nat}{u:Option Addr}(h3:3<=w.heap.size)(i:gG 3 w1 w.heap.size (λ_=>lV none 0 0) [])(l:w.heap.size<w1.heap.size)(h1:w1.heap.size<=b) (h2:fF w2 b (qA w.heap.size) u) (h4:At w2 .nil (λx=>w1.heap.size<=x/\x≠b) (pV u)) (f:yW w1 w2):Own (λx=>x<w.heap.size) w2 w.heap.size b .nil:=by
 have d:∀x,cy w.heap.size (λ_=>Value.slice none 0 0) x->x=w.heap.size:=λx a=>by
  rcases a with h|⟨c,_,h⟩
  .exact h
  simp[Value.ownBlock] at h
 have m:=f.size;refine⟨λ_=>False,λ_=>lV none 0 0,⟨⟨u,h2,?_⟩,mE 0,λx a=>a.elim⟩,trivial,⟨i.kept λk j=>f.block k (by rwa[d k j]),by decide,(λh t e=>by cases e),λx a=>by rwa[d x a]⟩,λx a=>a.elim,by omega,λh=>by have:=d b h;omega,λx a=>by rw[d x a];omega,λx a=>by omega⟩;have g:=h4;exact g
def fM:yB:=⟨#[100,101,116,111,117,114]⟩
def xB:yB:=⟨#[120]⟩
def bj:yB->Option yB:=ah []
def dY(n:Nat)(a:Int)(i:Nat):Nat:=if a.tmod 2=0 then n - 1 - i else(i+bW a n) % n
def mV(t:Nd)(key:yB):Nd:=(bC bj (b6 bj t key xB) key).1
def ly(a:Int)(t:Nd)(p:yB×yB):Nd:=b6 bj (if a.tmod 3=0 then mV t p.1 else t) p.1 p.2
def eE(m:List (yB×yB))(a:Int):Nat->Nd
 | 0=>.nil
 |i+1=>ly a (eE m a i) (m.getD (dY m.length a i) (⟨#[]⟩,⟨#[]⟩))
def aR(m:List (yB×yB))(a:Int):Nd:=
 if a.tmod 5=0/\(bD m fM).size=0 then mV (eE m a m.length) fM else eE m a m.length
def qf(n:Nat)(a:Int)(i:Nat)(h:i<n):dY n a i<n:=by
 unfold dY;split
 .omega
 exact Nat.mod_lt _ (by omega)
def Own.Jq{w:World}{g o v}(h:w.cell? ⟨g,o,none⟩=some v):g<w.heap.size:=by
 rcases Nat.lt_or_ge g w.heap.size with b|a
 .exact b
 unfold World.cell? at h;rw[show(⟨g,o,none⟩:Addr).block=g from rfl,UF a] at h;cases h
structure jJ(w:World)(sb tb:Nat)(t:Nd)(bx:Nat)(k v:yB)(w':World):Prop where
 own:Own (fun x=>x<w.heap.size\/x=bx) w' sb tb t
 c0:w'.cell? ⟨bx,0,none⟩=some (sV k)
 c1:w'.cell? ⟨bx,1,none⟩=some (sV v)
 below:yW w w'
def Ha{w W:World}{sb d t}(k v)(h:Own (λx=>x<w.heap.size) W sb d t)(c:Below w.heap.size w W):jJ w sb d t W.heap.size k v (W.alloc (.cells #[sV k,sV v] 91)):=by
 have b:Below W.heap.size W (W.alloc (.cells #[sV k,sV v] 91)):=(Un _ _).alloc (Ug _) _;refine⟨(h.more b).less λx a=>?_,?_,?_,c.trans (b.mono c.size)⟩
 .rcases a with a|a
  .exact .inl a
  exact .inr ⟨by omega,by simp;omega⟩
 .rw[Ur _ _ 0 _ _ _ (UG W _)];rfl
 rw[Ur _ _ 1 _ _ _ (UG W _)];rfl
def jJ.lt{w w' sb b t a k v}(h:jJ w sb b t a k v w'):a<w'.heap.size:=h.own.lt a (.inr rfl)
def jJ.step{w w1 w2 sb c t d a k v}(h:jJ w sb c t a k v w1)(e:Own (λx=>x<w.heap.size\/x=a) w2 sb c d)(b:jH (λx=>x<w.heap.size\/x=a) w1 w2):jJ w sb c d a k v w2:=
 ⟨e,b.cell (.inr rfl) h.lt h.c0,b.cell (.inr rfl) h.lt h.c1,h.below.trans ((b.less λ_ hx=>.inl hx).below h.below.size)⟩
def jJ.put{w w1 sb a t b k v}(h:jJ w sb a t b k v w1)(T:aB w1)(key value:yB)(d:key.size<=maxLen)(f:value.size<=maxLen):yC 30 #[pV (qA a),sV key,sV value] w1 λe w'=>(∃c,e=rV (i6 c))/\jJ w sb a (b6 bj t key value) b k v w':=
 (h.own.put T key value d f).mono λ_ _⟨h1,h2,h3⟩=>⟨⟨_,h1⟩,h.step h2 h3⟩
def jJ.del{w w1 sb a t d k v}(h:jJ w sb a t d k v w1)(T:aB w1)(key:yB)(f:key.size<=maxLen):yC 34 #[pV (qA a),sV key] w1 λe w'=>(∃b c,e=rV (tV #[bV b,i6 c]))/\jJ w sb a (bC bj t key).1 d k v w':=
 (h.own.del T key f).mono λ_ _⟨h1,h2,h3⟩=>⟨⟨_,_,h1⟩,h.step h2 h3⟩
def q8(a:Int)(k:Int):(a.tmod k == 0)=decide (a.tmod k=0):=by
 by_cases h:a.tmod k=0<;>simp[h]
def Ax(w v m)(f:Int)(hm:eH w v m)(hn:m.length<4200000000000)(hr:Rg f)(C1:∀p∈m,p.1.size<=maxLen/\p.2.size<=maxLen)(T:aB w):yC 43 #[v,i6 f] w λe w'=>∃sb l,e=rV (pV (qA l))/\Own (λx=>x<w.heap.size) w' sb l (aR m f)/\yW w w':=by
 have h3:=T.size;obtain⟨a,cap,rfl⟩:=hm.form;have HT:yH (∀W,yW w W->aB W):=λW n=>T.below n
 have D1:yH (yC 9 #[] w λe w'=>e=rV (pV (qA w.heap.size))/\yH (gG 3 w' w.heap.size (λ_=>lV none 0 0) [])/\yH (yW w w')/\w.heap.size<w'.heap.size):=(tN 3 w).mono λe w'⟨h1,h2,h3⟩=>⟨h1,h2,h3,h2.eM _ (.inl rfl)⟩
 have C7:yH (∀W,yW w W->yC 10 #[] W λe w'=>e=rV (sV (ae bM))/\yW W w'):=λW n=>ph W (T.below n)
 have D6:yH (∀W,yW w W->yC 11 #[pV (qA w.heap.size),sV (ae bM)] W λe w'=>∃l u,e=rV (tV #[pV (qA l),i6 0])/\W.heap.size<=l/\fF w' l (qA w.heap.size) u/\At w' .nil (λx=>W.heap.size<=x/\x≠l) (pV u)/\yW W w'):=λW n=>by
  have:=sL W (qA w.heap.size) bM (kE _) (T.below n);have e:bP bM=.nil:=by unfold bP;rw[Uj rfl]
  rw[e] at this;exact this
 have HA:yH (∀k (_:k<m.length),∃p q g,m.getD k (⟨#[]⟩,⟨#[]⟩)=(p,q)/\a=some ⟨g,0,none⟩/\(∀W,yW w W->yc W g (k*2) (sV p)/\yc W g (k*2+1) (sV q))/\p.size<=maxLen/\q.size<=maxLen):=λk y=>by
  have hp:m[k]? =some m[k]:=Uh y;obtain⟨g,e,_,c,d⟩:=hm.at_ k _ hp;obtain⟨s1,s2⟩:=C1 _ (Vc y);exact⟨_,_,g,by rw[Up,hp];rfl,e,λW n=>⟨eg n c,eg n d⟩,s1,s2⟩
 have C9:yH (∀W,yW w W->yC 35 #[lV a m.length cap,sV fM] W λe w'=>e=rV (sV (bD m fM))/\w'=W):=λW n=>og W _ m fM (hm.below n) hn
 have D8:yH (∀W,0<m.length->yC 12 #[i6 f,i6 m.length] W λe w'=>e=rV (i6 (bW f m.length))/\w'=W):=λW h0=>qq f _ hr h0 (by omega) W
 have D2:yH (∀i,eE m f (i+1)=ly f (eE m f i) (m.getD (dY m.length f i) (⟨#[]⟩,⟨#[]⟩))):=λi=>rfl
 have D0:yH (∀i,i<m.length->dY m.length f i<m.length):=λi h=>qf _ _ _ h
 have C8:yH (∀i,dY m.length f i=if f.tmod 2=0 then m.length - 1 - i else(i+bW f m.length) % m.length):=λi=>rfl
 have A4:yH (aR m f=if f.tmod 5=0/\(bD m fM).size=0 then mV (eE m f m.length) fM else eE m f m.length):=rfl;have M:yH (∀sb l t K k v W key value,jJ w sb l t K k v W->key.size<=maxLen->value.size<=maxLen->yC 30 #[pV (qA l),sV key,sV value] W λe w'=>(∃c,e=rV (i6 c))/\jJ w sb l (b6 bj t key value) K k v w'):=λsb l t K k v W key value D y hv=>D.put (T.below D.below) key value y hv
 have B0:yH (∀sb l t K k v W key,jJ w sb l t K k v W->key.size<=maxLen->yC 34 #[pV (qA l),sV key] W λe w'=>(∃b c,e=rV (tV #[bV b,i6 c]))/\jJ w sb l (bC bj t key).1 K k v w'):=λsb l t K k v W key D y=>D.del (T.below D.below) key y
 have D9:yH (∀sb l t W key value,Own (λx=>x<w.heap.size) W sb l t->yW w W->key.size<=maxLen->value.size<=maxLen->yC 30 #[pV (qA l),sV key,sV value] W λe w'=>(∃c,e=rV (i6 c))/\Own (λx=>x<w.heap.size) w' sb l (b6 bj t key value)/\yW w w'):=λsb l t W key value D n y hv=>
  (D.put (T.below n) key value y hv).mono λe w'⟨h1,h2,h3⟩=>⟨⟨_,h1⟩,h2,n.trans (h3.below n.size)⟩
 have C6:yH (∀sb l t W key,Own (λx=>x<w.heap.size) W sb l t->yW w W->key.size<=maxLen->yC 34 #[pV (qA l),sV key] W λe w'=>(∃b c,e=rV (tV #[bV b,i6 c]))/\Own (λx=>x<w.heap.size) w' sb l (bC bj t key).1/\yW w w'):=λsb l t W key D n y=>
  (D.del (T.below n) key y).mono λe w'⟨h1,h2,h3⟩=>⟨⟨_,_,h1⟩,h2,n.trans (h3.below n.size)⟩
 clear hm C1 T;obtain⟨E9,F0⟩:=hr;generalize m.length=N at*;generalize bD m fM=HD at*;generalize aR m f=R at*;go_enter func43,ntmps43
 go_wp2_with fail
 apply D1.m;rintro e w1⟨rfl,A3,V,E7⟩;go_wp2_with fail
 refine(C7.o w1 V.o).mono ?_;rintro e w2⟨rfl,Z⟩;have A1:=aa (V.o.trans (Z.mono V.o.size));have D7:yH (gG 3 w2 w.heap.size (λ_=>lV none 0 0) []):=A3.o.kept λk y=>Z.block k (A3.o.eM k y)
 have C0:w.heap.size<w2.heap.size:=by have:=Z.size;omega
 clear Z A3;go_wp2_with fail
 refine(D6.o w2 A1.o).mono ?_;rintro e w3⟨l,u,rfl,h1,h2,h4,A7⟩;have C3:=aa (A1.o.trans (A7.mono A1.o.size));have D3:=aa (Fh h3 D7.o C0 h1 h2 h4 A7);clear h1 h2 h4 A7 V E7 C0;go_wp2;go_loopg [10] N (λg r wr=>∃i:Nat,g=N - i/\i<=N/\r=i6 i/\yH (Own (λx=>x<w.heap.size) wr w.heap.size l (eE m f i))/\yH (yW w wr))
 .exact⟨0,rfl,by omega,rfl,D3,C3⟩
 obtain⟨i,hg,hi,rfl,F,A⟩:=hrel;have X:=aa hg;clear hg;by_cases E5:i<N
 .have E4:(i:Int)<(N:Int):=by omega
  have B1:yH (∀W,yC 12 #[i6 f,i6 N] W λe w'=>e=rV (i6 (bW f N))/\w'=W):=λW=>D8.o W (by omega)
  obtain⟨j,hj⟩:=yX (dY N f i);have B8:=D0.o i E5;have L:=C8.o i;have A2:=D2.o i;rw[<-hj] at B8 L A2;obtain⟨q,hq⟩:=yX ((i+bW f N) % N);have F1:bW f N<N:=ky f N (by omega);rw[<-hq] at L;have E6:q<N:=by rw[hq];exact Nat.mod_lt _ (by omega)
  have qI:((i:Int)+(bW f N:Int)) % (N:Int)=(q:Int):=by rw[hq];simp
  have F2:(q:Int)<(N:Int):=by omega
  obtain⟨p1,v1,g,_,rfl,B6,_,_⟩:=HA.o q E6;obtain⟨p2,v2,g2,B7,S,A8,B9,C2⟩:=HA.o j B8;injection S with S;injection S with S _;subst S;obtain⟨c1,c2⟩:=B6 wr A.o;obtain⟨d1,d2⟩:=A8 wr A.o;have E8:=aa A8;have Y:yH (eE m f (i+1)=ly f (eE m f i) (p2,v2)):=by rw[A2,B7];rfl
  have s:yH (p2.size<=maxLen/\v2.size<=maxLen):=⟨B9,C2⟩
  have hz:=A.o.size;generalize bW f N=r at*;clear B6 A8 A2 B7 hj hq B9 C2;generalize wr=WR at*;generalize gk=GK at*;by_cases A0:f.tmod 2=0
  .rw[Uj A0] at L;have E2:(f.tmod 2 == 0)=true:=by rw[A0];rfl
   have E3:=Own.Jq d1;subst L;go_wp2_with fail
   refine(B1.o _).mono ?_;rintro e B⟨rfl,U⟩;subst U;have Q:=aa (Ha p2 v2 F.o A.o);clear F;by_cases C:f.tmod 3=0
   .have A6:(f.tmod 3 == 0)=true:=by rw[C];rfl
    have H:yH (eE m f (i+1)=b6 bj (bC bj (b6 bj (eE m f i) p2 xB) p2).1 p2 v2):=by rw[Y.o];show _=_;unfold ly mV;rw[Uj C]
    go_wp2_with fail
    refine(M.o _ _ _ _ _ _ _ p2 xB Q.o s.o.1 (by decide)).mono ?_;rintro e w4⟨⟨c,rfl⟩,E⟩;have d0:=E.c0;have hl:=E.lt;have A5:=aa E;clear E;go_wp2_with fail
    refine(B0.o _ _ _ _ _ _ _ p2 A5.o s.o.1).mono ?_;rintro e w5⟨⟨b,c,rfl⟩,z⟩;have e0:=z.c0;have e1:=z.c1;have A9:=z.lt;have J:=aa z;clear z d0 hl;go_wp2_with fail
    refine(M.o _ _ _ _ _ _ _ p2 v2 J.o s.o.1 s.o.2).mono ?_;rintro e w6⟨⟨c,rfl⟩,o⟩;have I:yH (Own (λx=>x<w.heap.size) w6 w.heap.size l (eE m f (i+1))):=by rw[H.o];exact o.own.less λ_ h=>.inl h
    have G:=aa o.below;clear o e0 e1 A9;go_wp2;go_roundg (N - (i+1))
    .exact⟨i+1,rfl,by omega,by go_num,I,G⟩
    have:=X.o;omega
   have A6:(f.tmod 3 == 0)=false:=by rw[q8];exact Uv C
   have H:yH (eE m f (i+1)=b6 bj (eE m f i) p2 v2):=by rw[Y.o];show _=_;unfold ly;rw[Ui C]
   have J:=Q;go_wp2_with fail
   refine(M.o _ _ _ _ _ _ _ p2 v2 J.o s.o.1 s.o.2).mono ?_;rintro e w6⟨⟨c,rfl⟩,o⟩;have I:yH (Own (λx=>x<w.heap.size) w6 w.heap.size l (eE m f (i+1))):=by rw[H.o];exact o.own.less λ_ h=>.inl h
   have G:=aa o.below;clear o;go_wp2;go_roundg (N - (i+1))
   .exact⟨i+1,rfl,by omega,by go_num,I,G⟩
   have:=X.o;omega
  rw[Ui A0] at L;have E2:(f.tmod 2 == 0)=false:=by rw[q8];exact Uv A0
  have E3:=Own.Jq d1;subst L;have e1:p1=p2:=by have:=c1.symm.trans d1;injection this with this;injection this
  have e2:v1=v2:=by have:=c2.symm.trans d2;injection this with this;injection this
  subst e1 e2;go_wp2_with fail
  refine(B1.o _).mono ?_;rintro e B⟨rfl,U⟩;subst U;have Q:=aa (Ha p1 v1 F.o A.o);clear F;by_cases C:f.tmod 3=0
  .have A6:(f.tmod 3 == 0)=true:=by rw[C];rfl
   have H:yH (eE m f (i+1)=b6 bj (bC bj (b6 bj (eE m f i) p1 xB) p1).1 p1 v1):=by rw[Y.o];show _=_;unfold ly mV;rw[Uj C]
   go_wp2_with fail
   refine(M.o _ _ _ _ _ _ _ p1 xB Q.o s.o.1 (by decide)).mono ?_;rintro e w4⟨⟨c,rfl⟩,E⟩;have d0:=E.c0;have hl:=E.lt;have A5:=aa E;clear E;go_wp2_with fail
   refine(B0.o _ _ _ _ _ _ _ p1 A5.o s.o.1).mono ?_;rintro e w5⟨⟨b,c,rfl⟩,z⟩;have e0:=z.c0;have e1:=z.c1;have A9:=z.lt;have J:=aa z;clear z d0 hl;go_wp2_with fail
   refine(M.o _ _ _ _ _ _ _ p1 v1 J.o s.o.1 s.o.2).mono ?_;rintro e w6⟨⟨c,rfl⟩,o⟩;have I:yH (Own (λx=>x<w.heap.size) w6 w.heap.size l (eE m f (i+1))):=by rw[H.o];exact o.own.less λ_ h=>.inl h
   have G:=aa o.below;clear o e0 e1 A9;go_wp2;go_roundg (N - (i+1))
   .exact⟨i+1,rfl,by omega,by go_num,I,G⟩
   have:=X.o;omega
  have A6:(f.tmod 3 == 0)=false:=by rw[q8];exact Uv C
  have H:yH (eE m f (i+1)=b6 bj (eE m f i) p1 v1):=by rw[Y.o];show _=_;unfold ly;rw[Ui C]
  have J:=Q;go_wp2_with fail
  refine(M.o _ _ _ _ _ _ _ p1 v1 J.o s.o.1 s.o.2).mono ?_;rintro e w6⟨⟨c,rfl⟩,o⟩;have I:yH (Own (λx=>x<w.heap.size) w6 w.heap.size l (eE m f (i+1))):=by rw[H.o];exact o.own.less λ_ h=>.inl h
  have G:=aa o.below;clear o;go_wp2;go_roundg (N - (i+1))
  .exact⟨i+1,rfl,by omega,by go_num,I,G⟩
  have:=X.o;omega
 obtain rfl:i=N:=by omega
 have E4:¬(i:Int)<(i:Int):=by omega
 by_cases h5:f.tmod 5=0
 .have E0:(f.tmod 5 == 0)=true:=by rw[h5];rfl
  go_wp2_with fail
  refine(C9.o _ A.o).mono ?_;rintro e B⟨rfl,U⟩;subst U;by_cases O:HD.size=0
  .have E1:HD.toList.isEmpty=true:=by rw[g7];exact O
   have P:yH (R=mV (eE m f i) fM):=by rw[A4.o,Uj ⟨h5,O⟩];rfl
   clear O;go_wp2_with fail
   refine(D9.o _ _ _ _ fM xB F.o A.o (by decide) (by decide)).mono ?_;rintro e w4⟨⟨c,rfl⟩,B4,B2⟩;have D4:=aa B4;have C4:=aa B2;clear B4 B2 F A;go_wp2_with fail
   refine(C6.o _ _ _ _ fM D4.o C4.o (by decide)).mono ?_;rintro e w5⟨⟨b,c,rfl⟩,B5,B3⟩;have D5:=aa B5;have C5:=aa B3;clear B5 B3;go_wp2;go_ret;exact⟨_,_,rfl,by rw[P.o];exact D5.o,C5.o⟩
  have E1:HD.toList.isEmpty=false:=by rw[iv];exact O
  have P:yH (R=eE m f i):=by rw[A4.o,Ui (λh=>O h.2)];rfl
  clear O;go_wp2;go_ret;exact⟨_,_,rfl,by rw[P.o];exact F.o,A.o⟩
 have E0:(f.tmod 5 == 0)=false:=by rw[q8];exact Uv h5
 have P:yH (R=eE m f i):=by rw[A4.o,Ui (λh=>h5 h.1)];rfl
 go_wp2;go_ret;exact⟨_,_,rfl,by rw[P.o];exact F.o,A.o⟩
def Lh(ks:Nat->Nd)(c:Nat):aJ ks c (ks c)=ks:=by
 funext i
 by_cases e:i=c
 .subst e;exact dK _ _ _
 exact e9 _ _ _ _ e
def O9(G:yB->Option yB):∀(f:Nat) (t) (p) (dep:Nat) (bl:Bool),bL t->aw p->dc G f t p dep bl=(t,0):=by
 intro f;induction f with
 |zero=>intro t p dep bl _ _;rfl
 |succ f ih=>
  intro t p dep bl a b;show lG t (λt1=>gj (dc G f) t1 p dep) (dG G t dep bl)=_;rw[ru a];show gj (dc G f) t p dep=_;cases t with
  |nil=>rfl
  |unread _=>exact a.elim
  |leaf _ _ _=>rfl
  |ext h q k=>simp only[gj];rw[ih k (p.drop q.length) (dep+q.length) true a (da b _)];split<;>rfl
  |branch h v ks=>
   cases p with
   |nil=>rfl
   |cons c r=>simp only[gj];rw[ih (ks c.toNat) r (dep+1) false (a _ (b c (Uk ..))) λy d=>b y (Ul _ d),Lh]
def lM{G t}(key)(a:bL t):aG G t key=(t,0):=O9 G 81 t (aD key) 0 false a (b8 key)
def Rr{G t}(key)(a:bL t):bE G t key=t:=by
 unfold bE;split
 .rfl
 rw[lM key a]
def p8{G t}{key:yB}(a:bL t)(b:key.size<=40):aQ G t key=dS 81 t (aD key) 0:=by
 unfold aQ;rw[Ui (by omega),lM key a,Uj rfl]
def vZ{G t}(key value)(a:bL t):bL (b6 G t key value):=by
 unfold b6;split
 .unfold jx;rw[lM key a];exact yk a (b8 key)
 unfold fR;split
 .exact a
 split
 .exact a
 rwa[lM key a]
def IQ{G t}(key)(a:bL t):bL (bC G t key).1:=by
 unfold bC;rw[lM key a];split
 .exact a
 split
 .exact a
 split
 .exact a
 cases hl:bI G t (aD key) 0 with
 |error e=>exact a
 |ok t'=>exact ot.less_all G _ _ _ _ a hl
def sw(m)(a:Int):∀i,bL (eE m a i)
 | 0=>trivial
 |i+1=>by
  show bL (ly a (eE m a i) _)
  have b:=sw m a i
  unfold ly mV
  split
  .exact vZ _ _ (IQ _ (vZ _ _ b))
  exact vZ _ _ b
def xJ(m)(a:Int):bL (aR m a):=by
 unfold aR mV;split
 .exact IQ _ (vZ _ _ (sw m a _))
 exact sw m a _
def KT:∀(f:Nat) (t) (r) (d:Nat),aA t d->bL t->aw r->(dS f t r d).length<=f/\∀c∈dS f t r d,c.length<=4096:=by
 intro f;induction f with
 |zero=>intro t r d _ _ _;exact⟨Ug _,λc h=>by cases h⟩
 |succ f ih=>
  intro t r d e g l;by_cases i:t.isNil=true
  .simp only[dS,Uj i];exact⟨UD _,λc h=>by cases h⟩
  have hs:t.some:=(gM t).1 (by simpa using i);have n:=g.read hs;have j:aA (ay t r d).1 (ay t r d).2.2.1/\bL (ay t r d).1/\aw (ay t r d).2.1:=by
   have b:aA (Nd.nil) 0/\bL .nil/\aw []:=⟨mE 0,trivial,λ_ h=>by cases h⟩
   cases t with
   |nil=>exact b
   |unread _=>exact b
   |leaf _ _ _=>exact b
   |ext h q k=>
    simp only[ay];split
    .exact⟨fq e,g,da l _⟩
    exact b
   |branch h v ks=>
    cases r with
    |nil=>exact b
    |cons c r=>have a:=l c (Uk ..);exact⟨dA e _ a,g _ a,λy o=>l y (Ul _ o)⟩
  let⟨i1,i2⟩:=ih _ _ _ j.1 j.2.1 j.2.2;simp only[dS,Ui i];have m:(dm t d).length<=1/\∀c∈dm t d,c.length<=4096:=by
   unfold dm;split
   .exact⟨Ug _,λc a=>by rw[Uo.1 a];exact(e.aK.ow n).2⟩
   exact⟨UD _,λc h=>by cases h⟩
  exact⟨by rw[Uq];omega,λc a=>(UA.1 a).elim (m.2 c) (i2 c)⟩
def Aw{a b}(h:aD a=aD b):a=b:=by
 unfold aD at h;have:=congrArg gT h;rw[tR,tR] at this;exact Go.WideShapes.bytes_inj this
def dV(a b:yB):(a.toList == b.toList)=decide (a=b):=by
 rw[ByteArray.toList_eq,ByteArray.toList_eq];by_cases h:a=b
 .subst h;simp
 rw[Uv h,Vd];exact λe=>h (Go.WideShapes.bytes_inj e)
def gn:List (yB×yB)->yL->yL
 | [],_=>[]
 |p::m,x=>if aD p.1=x then p.2.data.toList else gn m x
def ql:∀(m) (key),gn m (aD key)=(bD m key).data.toList
 | [],key=>rfl
 |p::m,key=>by
  have a:=ql m key
  unfold bD at a⊢
  simp only[gn,ah,dV]
  by_cases e:p.1=key
  .rw[Uj (by rw[e]),Uj (Uw e)];rfl
  rw[Ui λh=>e (Aw h),Ui (by rw[Uv e];exact Bool.false_ne_true),a]
def wW:∀(a b) (x),(∀p∈a,aD p.1≠x)->gn (a++b) x=gn b x
 | [],b,x,_=>rfl
 |p::a,b,x,h=>by
  show(if aD p.1=x then _ else gn (a++b) x)=_
  rw[Ui (h p (Uk ..)),wW a b x λq c=>h q (Ul _ c)]
def Ge:∀(m) (key) (b) (x),x≠aD key->(∀p∈b,aD p.1≠x)->gn (others m key++b) x=gn m x
 | [],key,b,x,_,hb=>by have:=wW b [] x hb;simpa [others,gn] using this
 |p::m,key,b,x,hx,hb=>by
  have a:=Ge m key b x hx hb
  unfold others at a⊢
  by_cases e:p.1=key
  .have:(!(p.1.toList == key.toList))=false:=by rw[dV,Uw e];rfl
   rw[List.filter_cons_of_neg (by simp[this]),a]
   simp only[gn]
   rw[Ui (by rw[e];exact λh=>hx h.symm)]
  have:(!(p.1.toList == key.toList))=true:=by rw[dV,Uv e];rfl
  rw[List.filter_cons_of_pos (by simp[this])]
  simp only[List.cons_append,gn,a]
def zE(m key):∀p∈others m key,p.1≠key:=λp a e=>by
 unfold others at a
 have:=(List.mem_filter.1 a).2
 rw[dV,Uw e] at this
 cases this
def ui(m key value x):gn (aL m key value) x=if x=aD key then value.data.toList else gn m x:=by
 unfold aL;by_cases e:x=aD key
 .rw[Uj e,wW _ _ _ λp a h=>zE m key p a (Aw (h.trans e))];split
  .next h0=>
   have:value.data.toList=[]:=UH.1 (by simpa using h0);rw[this];rfl
  simp only[gn];rw[Uj e.symm]
 rw[Ui e];refine Ge m key _ x e ?_;split
 .exact λp h=>by cases h
 intro p a;rw[Uo.1 a];exact λh=>e h.symm
structure fu(m:List (yB×yB))(F:Nd):Prop where
 ok:aA F 0
 loose:bK F
 all:bL F
 find:∀x,aw x->aM F x=gn m x
def fu.congr{m b F}(h:fu m F)(c:∀x,aw x->gn m x=gn b x):fu b F:=⟨h.ok,h.loose,h.all,λx a=>(h.find x a).trans (c x a)⟩
def vE:fu [] .nil:=⟨mE 0,trivial,trivial,λ_ _=>rfl⟩
def CL{m F}(h:fu m F)(key value:yB)(g:key.size<=40)(h0:0<value.size)(i:value.size<=160):fu (aL m key value) (bR F (aD key) value.data.toList):=by
 have b:value.data.toList.length=value.size:=by simp
 have d:value.data.toList≠[]:=λe=>by rw[e] at b;simp at b;omega
 have a:=nT h.all (b8 key);have c:=yj h.ok a (b8 key) (by rw[g6];omega) d (by omega);refine⟨c,(yv h.loose a).loose,yk h.all (b8 key),λx f=>?_⟩;rw[IG a x,ui,h.find x f]
def Gj{F p dep}(d:aA F dep)(e:bK F)(a:bL F)(j:jL F p)(f:aw p)(i:dep+p.length<=80):∃b,bI iF F p dep=.ok b:=by
 have g:sE iF False (λ_=>False):=λc h=>h.elim
 rcases EW g F F p dep (Part.refl a) d d e e a (nT a f) j f i with⟨k,b,h1,_⟩|⟨h,_⟩
 .exact⟨k,h1⟩
 exact h.elim
def CN{m F a}(h:fu m F)(key:yB)(g:key.size<=40)(d:jL F (aD key))(b:bI iF F (aD key) 0=.ok a):fu (aL m key ⟨#[]⟩) a:=by
 have f:=nT h.all (b8 key);have c:0+(aD key).length<=80:=by rw[g6];omega
 let⟨h1,_⟩:=lk iF F (aD key) 0 a h.ok h.loose f d (b8 key) c b;refine⟨h1.ok,h1.tight.loose,ot.less_all iF _ _ _ _ h.all b,λx e=>?_⟩;rw[ot iF F (aD key) 0 a h.ok h.loose h.all d (b8 key) c b x e,ui,h.find x e]
def CM{m F}(h:fu m F)(key)(h0:aM F (aD key)=[]):fu (aL m key ⟨#[]⟩) F:=by
 refine h.congr λx a=>?_
 rw[ui];by_cases e:x=aD key
 .rw[Uj e,e,<-h.find _ (b8 key),h0]
 rw[Ui e]
def CG{G m F}(h:fu m F)(key value:yB)(a:key.size<=40)(h0:0<value.size)(b:value.size<=160):fu (aL m key value) (b6 G F key value):=by
 have e:cH G F key value=0:=by unfold cH;rw[Ui (by omega),Ui (by omega),lM key h.all]
 unfold b6;rw[Uj e];unfold jx;rw[lM key h.all];exact CL h key value a h0 b
def Gk(G b:yB->Option yB):∀(F) (p) (dep:Nat),bL F->aw p->bI G F p dep=bI b F p dep:=by
 have hs:∀(ks:Nat->Nd) (v:yL) (dep:Nat),(∀i,i<16->bL (ks i))->cd G ks v dep=cd b ks v dep:=λks v dep a=>by
  unfold cd;by_cases h0:cO ks 16=0
  .rw[Uj h0,Uj h0]
  let⟨g,_⟩:=nt ks 16 (by omega);rw[ru (a _ g),ru (a _ g)]
 intro F;induction F with
 |nil=>intro p dep _ _;rfl
 |unread _=>intro p dep h;exact h.elim
 |leaf _ _ _=>intro p dep _ _;rfl
 |ext h q k ih=>intro p dep a d;show lH q (bI G k _ _)=lH q (bI b k _ _);rw[ih _ _ a (da d _)]
 |branch h v ks ih=>
  intro p dep a d;cases p with
  |nil=>exact hs ks [] dep a
  |cons c r=>
   show pU (λk=>cd G (aJ ks c.toNat k) v dep) (bI G (ks c.toNat) r (dep+1))=pU (λk=>cd b (aJ ks c.toNat k) v dep) (bI b (ks c.toNat) r (dep+1));have f:=d c (Uk ..);rw[ih c.toNat r (dep+1) (a _ f) λy j=>d y (Ul _ j)];cases hk:bI b (ks c.toNat) r (dep+1) with
   |error e=>rfl
   |ok k=>exact hs _ v dep (vw a (ot.less_all b _ _ _ _ (a _ f) hk))
def Lq{G m F}(h:fu m F)(key:yB)(d:key.size<=40):fu (aL m key ⟨#[]⟩) (bC G F key).1/\(bC G F key).2.2=0/\(bC G F key).2.1=decide ((bD m key).size≠0):=by
 have a:aM F (aD key)=(bD m key).data.toList:=(h.find _ (b8 key)).trans (ql m key);have c:(bD m key).data.toList.length=(bD m key).size:=by simp
 unfold bC;rw[Ui (by omega),lM key h.all,Ui (by simp)];by_cases h0:aM F (aD key)=[]
 .rw[Uj h0];refine⟨CM h key h0,rfl,?_⟩;rw[a] at h0;rw[h0] at c;simp at c;exact(Uv (by omega)).symm
 rw[Ui h0];have b:=px _ _ h0;let⟨f,e⟩:=Gj h.ok h.loose h.all b (b8 key) (by rw[g6];omega);rw[Gk G iF F _ 0 h.all (b8 key),e];refine⟨CN h key d b e,rfl,?_⟩;rw[a] at h0;refine(Uw ?_).symm;intro e2;exact h0 (UH.1 (by omega))
structure cT(m:List (yB×yB)):Prop where
 once:(m.map (·.1)).Nodup
 size:∀p∈m,p.1.size<=40/\0<p.2.size/\p.2.size<=160
def o9:cT []:=⟨List.nodup_nil,λp h=>by cases h⟩
def rM{m}(h:cT m)(key value:yB)(g:key.size<=40)(i:value.size<=160):cT (aL m key value):=by
 have d:(others m key).Sublist m:=List.filter_sublist;have h1:((others m key).map (·.1)).Nodup:=(d.map _).nodup h.once;unfold aL;split
 .rw[UU];exact⟨h1,λp c=>h.size p (d.subset c)⟩
 next h0=>
 refine⟨?_,λp c=>?_⟩
 .rw[Vl,List.nodup_append];refine⟨h1,by simp,λa f b e=>?_⟩;obtain⟨p,c,rfl⟩:=UO.1 f;simp at e;rw[e];exact zE m key p c
 rcases UA.1 c with c|c
 .exact h.size p (d.subset c)
 rw[Uo.1 c];exact⟨g,Nat.pos_of_ne_zero h0,i⟩
def Gf{m}(h:cT m){p}(a:p∈m):gn m (aD p.1)=p.2.data.toList:=by
 have b:=h.once;clear h;induction m with
 |nil=>cases a
 |cons q m ih=>
  simp only[List.map_cons,List.nodup_cons] at b;rcases UC.1 a with rfl|a
  .show(if aD p.1=aD p.1 then _ else _)=_;rw[Uj rfl]
  simp only[gn];rw[Ui,ih a b.2];intro e;apply b.1;rw[Aw e];exact UO.2 ⟨p,a,rfl⟩
def wV{m x}(h:∀p∈m,aD p.1≠x):gn m x=[]:=by
 have:=wW m [] x h;rwa[UU] at this
def CX{m F}(h:fu m F)(key:yB)(a:key.size<=40)(x):fu (aL (aL m key xB) key ⟨#[]⟩) (mV F key)/\gn (aL (aL m key xB) key ⟨#[]⟩) x=if x=aD key then [] else gn m x:=by
 refine⟨(Lq (CG h key xB a (by decide) (by decide)) key a).1,?_⟩;rw[ui,ui];split<;>rfl
open Classical in
def Ti{m}(u:cT m)(a:Int):∀i,i<=m.length->aA (eE m a i) 0/\bK (eE m a i)/\∀x,aw x->aM (eE m a i) x=if(∃k p,k<i/\m[dY m.length a k]? =some p/\aD p.1=x) then gn m x else []:=by
 intro i;induction i with
 |zero=>intro _;refine⟨mE 0,trivial,λx _=>?_⟩;rw[Ui (by rintro ⟨k,_,h,_⟩;omega)];rfl
 |succ i ih=>
  intro hi;let⟨h1,h2,h3⟩:=ih (by omega);have D:=qf m.length a i (by omega);obtain⟨p,d⟩:∃p,m[dY m.length a i]? =some p:=⟨_,Uh D⟩
  have B:m.getD (dY m.length a i) (⟨#[]⟩,⟨#[]⟩)=p:=by rw[Up,d];rfl
  have w:=UQ d;let⟨s1,s2,s3⟩:=u.size p w;have key:∀(F:Nd) (f:yL->yL),aA F 0->bK F->bL F->(∀x,aw x->aM F x=f x)->∀(k v:yB),k.size<=40->0<v.size->v.size<=160->aA (b6 bj F k v) 0/\bK (b6 bj F k v)/\bL (b6 bj F k v)/\∀x,aw x->aM (b6 bj F k v) x=if x=aD k then v.data.toList else f x:=λF f g1 g2 g3 g4 k v k1 k2 k3=>by
   have t:v.data.toList.length=v.size:=by simp
   have c:v.data.toList≠[]:=λe=>by rw[e] at t;simp at t;omega
   have e:cH bj F k v=0:=by unfold cH;rw[Ui (by omega),Ui (by omega),lM k g3]
   have e2:b6 bj F k v=bR F (aD k) v.data.toList:=by unfold b6;rw[Uj e];unfold jx;rw[lM k g3]
   have n:=nT g3 (b8 k);have A:=yj g1 n (b8 k) (by rw[g6];omega) c (by omega);rw[e2];refine⟨A,(yv g2 n).loose,yk g3 (b8 k),λx b=>?_⟩;rw[IG n x,g4 x b]
  have y:∀(F:Nd) (f:yL->yL),aA F 0->bK F->bL F->(∀x,aw x->aM F x=f x)->∀(k:yB),k.size<=40->f (aD k)≠[]->aA (bC bj F k).1 0/\bK (bC bj F k).1/\bL (bC bj F k).1/\∀x,aw x->aM (bC bj F k).1 x=if x=aD k then [] else f x:=λF f g1 g2 g3 g4 k k1 s=>by
   have l:=px F (aD k) (by rw[g4 _ (b8 k)];exact s);have j:0+(aD k).length<=80:=by rw[g6];omega
   let⟨g,e⟩:=Gj g1 g2 g3 l (b8 k) j;have e2:(bC bj F k).1=g:=by
    unfold bC;rw[Ui (by omega),lM k g3,Ui (by simp),Ui (by rw[g4 _ (b8 k)];exact s),Gk bj iF F _ 0 g3 (b8 k),e];rfl
   rw[e2];let⟨l1,_⟩:=lk iF F (aD k) 0 g g1 g2 (nT g3 (b8 k)) l (b8 k) j e;refine⟨l1.ok,l1.tight.loose,ot.less_all iF _ _ _ _ g3 e,λx b=>?_⟩;rw[ot iF F (aD k) 0 g g1 g2 g3 l (b8 k) j e x b,g4 x b]
  have C:=Gf u w;have o:∀(F:Nd) (f:yL->yL),aA F 0->bK F->bL F->(∀x,aw x->aM F x=f x)->(∀x,aw x->x≠aD p.1->f x=aM (eE m a i) x)->aA (b6 bj F p.1 p.2) 0/\bK (b6 bj F p.1 p.2)/\∀x,aw x->aM (b6 bj F p.1 p.2) x=if(∃k q,k<i+1/\m[dY m.length a k]? =some q/\aD q.1=x) then gn m x else []:=λF f g1 g2 g3 g4 g5=>by
   let⟨a1,a2,_,a4⟩:=key F f g1 g2 g3 g4 p.1 p.2 s1 s2 s3;refine⟨a1,a2,λx b=>?_⟩;rw[a4 x b];by_cases e:x=aD p.1
   .rw[Uj e,Uj ⟨i,p,by omega,d,e.symm⟩,e,C]
   rw[Ui e,g5 x b e,h3 x b];by_cases e2:∃k q,k<i/\m[dY m.length a k]? =some q/\aD q.1=x
   .let⟨k,q,b1,b2,b3⟩:=e2;rw[Uj ⟨k,q,b1,b2,b3⟩,Uj ⟨k,q,by omega,b2,b3⟩]
   rw[Ui e2,Ui];rintro ⟨k,q,b1,b2,b3⟩;by_cases z:k=i
   .subst z;rw[d] at b2;cases b2;exact e b3.symm
   exact e2 ⟨k,q,by omega,b2,b3⟩
  show aA (ly a (eE m a i) (m.getD (dY m.length a i) (⟨#[]⟩,⟨#[]⟩))) 0/\bK (ly a (eE m a i) (m.getD (dY m.length a i) (⟨#[]⟩,⟨#[]⟩)))/\∀x,aw x->aM (ly a (eE m a i) (m.getD (dY m.length a i) (⟨#[]⟩,⟨#[]⟩))) x=_;rw[B];unfold ly;by_cases r:a.tmod 3=0
  .rw[Uj r];unfold mV;let⟨a1,a2,a3,a4⟩:=key (eE m a i) _ h1 h2 (sw m a i) (λx _=>rfl) p.1 xB s1 (by decide) (by decide);let⟨b1,b2,b3,b4⟩:=y _ _ a1 a2 a3 a4 p.1 s1 (by rw[Uj rfl];decide);refine o _ _ b1 b2 b3 b4 λx b c=>?_
   rw[Ui c,Ui c]
  rw[Ui r];exact o _ _ h1 h2 (sw m a i) (λx _=>rfl) λx _ _=>rfl
def Pm(n:Nat)(a:Int)(j:Nat)(h:j<n):∃k,k<n/\dY n a k=j:=by
 unfold dY;split
 .exact⟨n - 1 - j,by omega,by omega⟩
 have b:bW a n<n:=ky a n (by omega);generalize bW a n=r at*;by_cases e:r<=j
 .exact⟨j - r,by omega,by rw[show j - r+r=j by omega];exact VH h⟩
 exact⟨j+n - r,by omega,by rw[show j+n - r+r=j+n by omega,Nat.add_mod_right];exact VH h⟩
open Classical in
def jV{m}(o:cT m)(a:Int):fu m (aR m a):=by
 let⟨h1,h2,h3⟩:=Ti o a m.length (Ug _);have b:fu m (eE m a m.length):=by
  refine⟨h1,h2,sw m a _,λx d=>?_⟩;rw[h3 x d];by_cases e:∃k p,k<m.length/\m[dY m.length a k]? =some p/\aD p.1=x
  .rw[Uj e]
  rw[Ui e];refine(wV λp q i=>e ?_).symm;let⟨j,c,g⟩:=List.mem_iff_getElem.1 q;let⟨k,l,n⟩:=Pm m.length a j c;exact⟨k,p,l,by rw[n,Uh c,g],i⟩
 unfold aR;split
 .next h=>
  have f:=(CX b fM (by decide) []).1;refine f.congr λx d=>?_
  rw[(CX b fM (by decide) x).2];by_cases e:x=aD fM
  .rw[Uj e,e,ql];have r:(bD m fM).data.toList.length=(bD m fM).size:=by simp
   exact(UH.1 (by omega)).symm
  rw[Ui e]
 exact b
def fu.one{m F b}(h:fu m F)(a:fu m b)(Q:yL->Prop):Part Q F b:=Lo Q F b 0 h.ok a.ok h.loose a.loose h.all a.all λx c=>(h.find x c).trans (a.find x c).symm
def bf:yB:=⟨#[128]⟩
def dd{P f a w}{R:World->Prop}(h:∀Q:Ending->World->Prop,yH (∀b w',R w'->Q (rV (bV b)) w')->Calls P f a w (λe w'=>Q e w'/\True)):Calls P f a w (λe w'=>∃b,e=rV (bV b)/\R w'):=
 (h (λe w'=>∃b,e=rV (bV b)/\R w') λb _ c=>⟨b,rfl,c⟩).mono λ_ _ h=>h.1
def qd{w:World}{base v}{l:List yB}(h:w.ownsRow base 9 1 v l.length (l.map Value.string)):gQ w v l:=by
 obtain⟨a,cap,rfl,_,_,f⟩:=dM h;refine⟨a,cap,rfl,?_⟩;rcases f with⟨_,h0,_⟩|⟨g,rfl⟩
 .exact .inl (UH.1 h0)
 refine .inr ⟨g,0,rfl,λi p b=>?_⟩;rw[Vj];exact fc h rfl i _ (by rw[UK,b];rfl)
def vA(l:List yL):kT l=(l.map ae).map Value.string:=by unfold kT;rw[List.map_map];rfl
def zt{t}(b:aA t 0)(a:bL t)(key):(aQ bj t key).length<=81/\∀c∈aQ bj t key,c.length<=4096:=by
 unfold aQ;split
 .exact⟨UD _,λc h=>by cases h⟩
 rw[lM key a,Uj rfl];exact KT 81 t (aD key) 0 b a (b8 key)
def Own.others{K}{w w':World}{sb c t}(h:Own K w sb c t)(e:w.heap.size<=w'.heap.size)(k:∀x,x<w.heap.size->¬K x->w'.heap[x]? =w.heap[x]?):Own (λx=>K x\/(w.heap.size<=x/\x<w'.heap.size)) w' sb c t:=by
 let⟨S,f,⟨⟨u,h1,h2⟩,h3,h4⟩,h5,h6,h7,h8,h9,h10,h11⟩:=h;have g:=h1.lt;exact⟨S,f,⟨⟨u,h1.kept (k c h1.lt h8),h2.kept λx a d=>k x d (h7 x a).1⟩,h3,λx a=>by have:=h4 x a;exact⟨this.1,this.2.1,by omega⟩⟩,h5,h6.kept λx a=>k x (h6.st.eM x a) (h10 x a),λx a=>⟨λb=>by have:=h4 x a;rcases b with b|b;exact(h7 x a).1 b;omega,(h7 x a).2⟩,λb=>by rcases b with b|b;exact h8 b;omega,h9,λx a b=>by have:=h6.st.eM x a;rcases b with b|b;exact h10 x a b;omega,λx a=>by rcases a with a|a;exact Us (h11 x a) e;exact a.2⟩
structure nI(w:World)(sb tb:Nat)(t:Nd)(l:List yB)(v:Value)(wr:World):Prop where
 own:Own (fun x=>x<w.heap.size\/v.ownBlock=some x) wr sb tb t
 row:wr.ownsRow w.heap.size 9 1 v l.length (l.map Value.string)
 below:yW w wr
def nI.kept{w wr w' sb a t l v}(h:nI w sb a t l v wr)(d:Own (λx=>x<w.heap.size\/v.ownBlock=some x) w' sb a t)(c:jH (λx=>x<w.heap.size\/v.ownBlock=some x) wr w'):nI w sb a t l v w':=
 ⟨d,cM h.row λg b=>c.at_ g (.inr b) (h.row.lt g b).2,h.below.trans ((c.less λ_ hx=>.inl hx).below h.below.size)⟩
def nI.more{w wr w' sb b t l v}(h:nI w sb b t l v wr)(a:yW wr w'):nI w sb b t l v w':=
 ⟨h.own.below a,cM h.row λg c=>a.block g (h.row.lt g c).2,h.below.trans (a.mono h.below.size)⟩
def IM{w wr W w':World}{sb c t}{l l':List yB}{v:Value}{g cap n:Nat}(j:Own (λx=>x<w.heap.size\/v.ownBlock=some x) wr sb c t)(f:yW w wr)(y:wr.ownsRow w.heap.size 9 1 v l.length (l.map Value.string))(d:yW wr W)(b:W.grownBy w' v.ownBlock) (p:v.ownBlock=some g\/g=W.heap.size) (r:g<w'.heap.size) (u:w'.ownsRow w.heap.size 9 1 (lV (qA g) n cap) l'.length (l'.map Value.string)):nI w sb c t l' (lV (qA g) n cap) w':=by
 have m:=j.below d;have i:=f.trans (d.mono f.size);have o:=(m.others (w':=w') b.size λx a s=>b.block x a λe=>s (.inr e.symm))
 refine⟨o.less λx a=>?_,u,i.grown b i.size λk q=>(y.lt k q).1⟩;rcases a with a|a
 .exact .inl (.inl a)
 have e:g=x:=by simpa [Value.ownBlock] using a
 subst e;rcases p with h|h
 .exact .inl (.inr h)
 exact .inr ⟨by omega,r⟩
def QN{M w P G}(hG:j5 M w P G)(V:∀x,M x->x<w.heap.size)(C1:∀k t,G k=some t->t.size<=maxLen)(v m)(J:eH w v m)(hn:m.length<4200000000000)(Y:cT m)(T:aB w):yC 42 #[pV P,v] w λe w'=>∃b,e=rV (bV b)/\yW w w':=by
 refine dd λQ HQ=>?_
 obtain⟨a,cap,rfl⟩:=J.form;have h3:=T.size;have A7:=jV Y 1;have X:=xJ m 1;have Z:∀p∈m,p.1.size<=maxLen/\p.2.size<=maxLen:=λp n=>by have:=Y.size p n;unfold maxLen;omega
 have C7:yH (yC 43 #[lV a m.length cap,i6 1] w λe w'=>∃sb d,e=rV (pV (qA d))/\Own (λx=>x<w.heap.size) w' sb d (aR m 1)/\yW w w'):=Ax w _ m 1 J hn ⟨by decide,by decide⟩ Z T;have HA:yH (∀k (_:k<m.length),∃key g,a=some ⟨g,0,none⟩/\(∀W,yW w W->yc W g (k*2) (sV key))/\key.size<=maxLen):=λk q=>by
  have n:m[k]? =some m[k]:=Uh q;obtain⟨g,e,_,c,_⟩:=J.at_ k _ n;exact⟨_,g,e,λW j=>eg j c,(Z _ (Vc q)).1⟩
 have D6:yH (∀K sb d W key,Own K W sb d (aR m 1)->yW w W->key.size<=maxLen->yC 44 #[pV (qA d),sV key] W λe w'=>∃u,e=rV (tV #[u,i6 (cK bj (aR m 1) key:Int)])/\w'.ownsRow W.heap.size 9 1 u ((aQ bj (aR m 1) key).map ae).length (((aQ bj (aR m 1) key).map ae).map Value.string)/\Own K w' sb d (aR m 1)/\jH K W w'):=λK sb d W key hO j q=>
  (hO.prove (T.below j) key q).mono λe w'⟨⟨u,e1,e2⟩,e3,e4⟩=>⟨u,e1,by rw[UM,<-vA];exact e2,by rw[Rr key X] at e3;exact e3,e4⟩
 have D9:yH (∀W c,yW w W->c.length<=4096->yC 85 #[pV P,sV (ae c)] W λe w'=>e=rV (bV (eI G (ae c)))/\yW W w'):=λW c j hc=>
  Gv (M:=M) (G:=G) (λW' h hh q=>hG W' h hh λx A=>(q x A).trans (j.block x (V x A))) (λx A=>Us (V x A) j.size) C1 (ae c) (by rw[aN];unfold maxLen;omega) (T.below j)
 have C8:yH (∀W u l,yW w W->gQ W u l->l.length<=4200000000000->(∀p∈l,p.size<=maxLen)->yC 45 #[u] W λe w'=>e=rV (bV (bY l l.length))/\yW W w'):=λW u l j hu hl hs=>pk W u l hu hl hs (T.below j)
 have D7:yH (∀key,(aQ bj (aR m 1) key).length<=81/\∀c∈aQ bj (aR m 1) key,c.length<=4096):=λkey=>zt A7.ok X key
 obtain⟨i0,B2,C2,C3,C4⟩:=Vp oo;clear J Y A7 X Z T hG V C1;generalize m.length=N at*;generalize aR m 1=t at*;go_enter func42,ntmps42
 go_wp2_with fail
 apply C7.m;rintro e w1⟨sb,d,rfl,A4,U⟩;have D4:=aa A4;have C5:=aa U;have hz:=U.size;clear A4 U;go_wp2_with (at_builtin;refine U0 _ rfl (.tmp 14) (.tmp 15) 63 rfl w.heap.size 9 i0 (sV ⟨#[]⟩) 1 16 underlying63 B2 C2 C3 C4 rfl (by decide) _ 0 [] rfl (U8 _ _ _ _) ⟨w1.heap.size,0,none⟩ 1 1 [sV bf] rfl rfl (Vx _ _ _) ?c2 (by omega) ?c3 ?c4 ?c5 _ rfl ?c6)
 case c2=>intro v H;simp at H;subst H;rfl
 case c3=>decide
 case c4=>omega
 case c5=>simp;omega
 intro g0 E1 w2 B6 B0 A8 B4;have D0:yH (nI w sb d t [bf] (lV (qA g0) 1 E1) w2):=IM (W:=w1.alloc (.cells #[sV bf] 9)) (l:=[]) (v:=lV none 0 0) (D4.o.less λx A=>A.elim id λh=>by simp[Value.ownBlock] at h) C5.o (U8 _ _ _ _) ((Un _ _).alloc (Ug _) _) B0 (by simpa using A8) B4 B6;clear B6 B0 A8 B4 hz;go_wp2;go_loopg [6,7] N (λg v r wr=>∃(i:Nat)(l:List yB),g=N - i/\i<=N/\r=i6 i/\yH (l.length<=i+1/\∀p∈l,p.size<=maxLen)/\yH (nI w sb d t l v wr))
 .exact⟨0,_,rfl,by omega,rfl,⟨Ug _,λp n=>by rw[Uo.1 n];decide⟩,D0⟩
 obtain⟨i,l,F,hi,rfl,B,s⟩:=hrel;have HG:=aa F;clear F;by_cases E9:i<N
 .obtain⟨key,g,rfl,B8,B9⟩:=HA.o i E9;have c1:=B8 wr s.o.below;have A3:=D6.o _ sb d wr key s.o.own s.o.below B9;have E4:(i:Int)<(N:Int):=by omega
  obtain⟨F1,A6⟩:=D7.o key;generalize aQ bj t key=C at*;generalize (cK bj t key:Int)=E at*;have D5:=aa A3;have C9:=aa A6;clear B8 B9 A3 A6;go_wp2_with fail
  apply D5.m;rintro e w3⟨u,rfl,O,A5,B3⟩;obtain⟨a3,E2,rfl,_⟩:=dM O;have A2:=aa (s.o.kept A5 B3);have S:=aa O;rw[UM] at O S;clear O A5 B3 s c1;rw[UM];generalize wr=WR at*;generalize gk=GK at*;generalize u6=V6 at*;have A1:yH (∀k (_:k<C.length),∃c g,a3=some ⟨g,0,none⟩/\(∀W,yW w3 W->yc W g k (sV (ae c)))/\c.length<=4096):=λk q=>by
   have n:C[k]? =some C[k]:=Uh q;obtain⟨a4,F0,e4,_,_,f⟩:=dM S.o;cases e4;rcases f with⟨_,h0,_⟩|⟨g,rfl⟩
   .omega
   exact⟨_,g,rfl,λW j=>eg j (fc S.o rfl k _ (by rw[UK,UK,n];rfl)),C9.o _ (Vc q)⟩
  generalize hL:C.length=L at*;go_wp2;go_loopg [10] L (λg r wr=>∃k:Nat,g=L - k/\k<=L/\r=i6 k/\yH (yW w3 wr))
  .exact⟨0,rfl,by omega,rfl,Un _ _⟩
  obtain⟨k,F,q,rfl,y⟩:=hrel;have D2:=aa F;clear F;by_cases E7:k<L
  .obtain⟨c,g3,rfl,D,I⟩:=A1.o k E7;have d1:=D wr y.o;have o:=aa (A2.o.more y.o);have E0:=aa (D9.o wr c o.o.below I);have E6:(k:Int)<(L:Int):=by omega
   generalize ae c=C' at*;generalize eI G C'=TK at*;clear D I;go_wp2_with fail
   apply E0.m;rintro e w4⟨rfl,z⟩;have C6:=aa (y.o.trans (z.mono y.o.size));have R:yH (∀b,Q (rV (bV b)) w4):=λb=>HQ.o b _ (o.o.below.trans (z.mono o.o.below.size))
   clear z;cases TK with
   |true=>go_wp2;go_ret;exact⟨R.o _,trivial⟩
   |false=>
    go_wp2;go_roundg (L - (k+1))
    .exact⟨k+1,rfl,by omega,by go_num,C6⟩
    have:=D2.o;omega
  obtain rfl:k=L:=by omega
  have E6:¬(k:Int)<(k:Int):=by omega
  have o:=aa (A2.o.more y.o);have E8:=B.o.1;by_cases E5:0<k
  .obtain⟨c,g3,rfl,D,I⟩:=A1.o 0 E5;have d1:=D wr y.o;have F2:(0:Int)<(k:Int):=by omega
   have D3:yH ((l++[ae c]).length<=i+1+1/\∀p∈l++[ae c],p.size<=maxLen):=⟨by rw[Uq,Vm];omega,λp n=>(UA.1 n).elim (B.o.2 p) λn=>by rw[Uo.1 n,aN];unfold maxLen;omega⟩
   have C0:=o.o.row;have F3:=o.o.below.size;generalize ae c=C' at*;clear D I;go_wp2_with (at_builtin;refine U0 _ rfl (.tmp 49) (.tmp 53) 63 rfl w.heap.size 9 i0 (sV ⟨#[]⟩) 1 16 underlying63 B2 C2 C3 C4 rfl (by decide) _ l.length (l.map Value.string) rfl (C0.alloc _) ⟨wr.heap.size,0,none⟩ 1 1 [sV C'] rfl rfl (Vx _ _ _) ?f2 (by omega) ?f3 ?f4 ?f5 _ rfl ?f6)
   case f2=>first|rfl| (intro v H;simp at H;subst H;rfl)
   case f3=>unfold maxLen;omega
   case f4=>omega
   case f5=>first|omega| (simp;omega)
   intro g5 E3 w5 B7 B1 A9 B5;have D1:yH (nI w sb d t (l++[C']) (lV (qA g5) (l.length+1) E3) w5):=IM (W:=wr.alloc (.cells #[sV C'] 9)) o.o.own o.o.below o.o.row ((Un _ _).alloc (Ug _) _) B1 (by simpa using A9) B5 (by rw[Uq,Vl];exact B7);clear B7 B1 A9 B5 C0;go_wp2;go_roundg (N - (i+1))
   .exact⟨i+1,_,rfl,by omega,by go_num,D3,D1⟩
   have:=HG.o;omega
  obtain rfl:k=0:=by omega
  go_wp2;go_roundg (N - (i+1))
  .exact⟨i+1,_,rfl,by omega,by go_num,⟨by omega,B.o.2⟩,o⟩
  have:=HG.o;omega
 obtain rfl:i=N:=by omega
 have E4:¬(i:Int)<(i:Int):=by omega
 have E8:=B.o.1;have D8:=aa (C8.o wr u6 _ s.o.below (qd s.o.row) (by omega) B.o.2);have A0:=aa s.o.below;go_wp2_with fail
 apply D8.m;rintro e w4⟨rfl,z⟩;have R:yH (∀b,Q (rV (bV b)) w4):=λb=>HQ.o b _ (A0.o.trans (z.mono A0.o.size))
 clear z;go_wp2;go_ret;exact⟨R.o _,trivial⟩
end Go.Proofs.YteaodagofkcgbaaGreatDoor
