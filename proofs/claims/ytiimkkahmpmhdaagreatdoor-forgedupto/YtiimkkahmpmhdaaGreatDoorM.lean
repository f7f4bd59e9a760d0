import Derived.Test.YtiimkkahmpmhdaaGreatDoorL
open Go.Proofs.Tryz
open Go.Proofs.Tryz renaming prog→yP
open Go.Value renaming string→sV,pointer→pV,int→iV,slice→lV,bool→bV,tuple→tV,agg→gV
open Go.Ending renaming returned→rV
namespace Go.Proofs.YtiimkkahmpmhdaaGreatDoor
open Go.RowKit
set_option maxRecDepth 100000
set_option maxHeartbeats 0
set_option linter.all false
def cR:Nd->Prop
 | .nil=>True
 | .unread _=>True
 | .leaf h p v=>h=fv (Nd.leaf h p v).code
 | .ext h p k=>h=fv (Nd.ext h p k).code/\cR k
 | .branch h v ks=>h=fv (Nd.branch h v ks).code/\∀i,i<16->cR (ks i)
def bD:Nd->Prop
 | .ext _ _ k=>cR k
 | .branch _ _ ks=>∀i,i<16->cR (ks i)
 | _=>True
theorem cR.loose{t}(h:cR t):bD t:=by
 cases t with
 |ext _ _ _=>exact h.2
 |branch _ _ _=>exact h.2
 | _=>trivial
theorem AP{t}(a:bD t)(h:t.read->t.hash=fv t.code):cR t:=by
 cases t with
 |nil=>trivial
 |unread _=>trivial
 |leaf _ _ _=>exact h trivial
 |ext _ _ _=>exact⟨h trivial,a⟩
 |branch _ _ _=>exact⟨h trivial,a⟩
theorem cR.named{t}(h:cR t)(a:t.read):t.hash=fv t.code:=by
 cases t with
 |nil=>exact a.elim
 |unread _=>exact a.elim
 |leaf _ _ _=>exact h
 |ext _ _ _=>exact h.1
 |branch _ _ _=>exact h.1
theorem p7(p v):cR (da p v):=rfl
theorem rP{p k}(h:cR k):cR (fq p k):=⟨rfl,h⟩
theorem uh{ks v}(h:∀i,i<16->cR (ks i)):cR (cP ks v):=⟨rfl,h⟩
theorem ug{p t}(h:cR t):cR (aQ p t):=by
 by_cases a:p=[]
 ·subst a;rw[lF];exact h
 ·cases t with
  |nil=>simp only[aQ,QW a];exact rP trivial
  |leaf _ _ _=>simp only[aQ,QW a];exact p7 _ _
  |ext _ _ _=>simp only[aQ,QW a];exact rP h.2
  |unread _=>simp only[aQ,QW a];exact rP trivial
  |branch _ _ _=>simp only[aQ,QW a];exact rP h
theorem AO{n:Nd}{p v s}(b:n.kind=1\/n.kind=2)(h:bD n):cR (eM n p v s):=by
 have c:∀q,cR (fU n q):=fun q=>by
  cases n with
  |leaf _ _ _=>exact p7 _ _
  |ext _ _ _=>exact ug h
  | _=>rcases b with h|h<;>cases h
 have a:∀i,cR (dG n s i):=fun i=>by
  unfold dG;split
  ·unfold aD;split
   ·exact c _
   ·trivial
  ·trivial
 refine ug (uh fun i _=>?_);unfold cM;split
 ·unfold aD;split
  ·exact p7 _ _
  ·exact a i
 ·exact a i
theorem wU:∀{t p v},bD t->dw t p->cR (bF t p v):=by
 intro t;induction t with
 |nil=>intro p v _ _;exact p7 _ _
 |unread _=>intro p v _ h;exact h.elim
 |leaf h q x=>
  intro p v a _;simp only[bF];split
  ·exact p7 _ _
  ·exact AO (.inl rfl) a
 |ext h q k ih=>
  intro p v a b;simp only[bF];split
  ·next e=>exact rP (ih a.loose (b e))
  ·exact AO (.inr rfl) a
 |branch h x ks ih=>
  intro p v a b;cases p with
  |nil=>exact uh a
  |cons c r=>
   have d:=a;refine uh fun i hi=>?_
   unfold aD;split
   ·next e=>subst e;exact ih _ (d _ hi).loose b
   ·exact d i hi
theorem Nr(a:Tree->Nat->Bool->Option Nd)(H:rk a)(i:∀x dep bl n,bK 6 x=true->a x dep bl=some n->bD n)(x:Tree)(dep:Nat)(bl:Bool)(k)(h:jk a x dep bl=some k):cR k:=by
 obtain⟨h1,h2,_⟩:=vA a H x dep bl k h;by_cases g:∃t,x=ay t
 ·obtain⟨t,rfl⟩:=g;rw[vz] at h;split at h
  ·cases h;trivial
  ·split at h
   ·cases h
   ·cases h;trivial
 ·rw[vB a x dep bl (fun t e=>g ⟨t,e⟩)] at h;split at h
  ·cases h
  ·next hb=>
   have h0:eg x=0:=RQ fun h=>hb (.inl h)
   have c:bK 6 x=true:=by
    unfold eg at h0;by_cases b:bK 6 x=true
    ·exact b
    ·rw[QW b] at h0;cases h0
   have d:=(H x dep bl k c h).2.1;refine AP (i x dep bl k c h) fun f=>?_
   have j:iW k:=by
    have:=h2.aJ;cases k with
    |nil=>exact f.elim
    |unread _=>exact f.elim
    |leaf _ _ _=>exact this.1
    |ext _ _ _=>exact this.1
    |branch _ _ _=>exact this.1
   have:=j.short d.hash;unfold fv;rw[QW (by omega),d.hash]
theorem Mf:∀(d:Nat) (x:Tree) (dep:Nat) (bl:Bool) (n),bK 6 x=true->aT d x dep bl=some n->bD n:=by
 intro d;induction d with
 |zero=>intro x dep bl n _ h;cases h
 |succ d ih=>
  intro x dep bl n e h;have b:=Nr (aT d) (uW d) ih;cases x with
  |slice ks es=>
   have c:aT (d+1) (.slice ks es) dep bl=if ks.length=2/\bl=false then je (aT d) (ks.getD 0 (ay [])) (ks.getD 1 (ay [])) dep else if ks.length=17 then gW (aT d) ks dep else none:=rfl;rw[c] at h;split at h
   ·unfold je at h;split at h
    ·split at h
     ·cases h
     ·split at h
      ·split at h
       ·split at h
        ·cases h
        ·cases h;trivial
       ·cases h
      ·split at h
       ·next k a=>
        split at h
        ·cases h
        ·cases h;exact b _ _ _ k a
       ·cases h
    ·cases h
   ·split at h
    ·unfold gW at h;split at h
     ·split at h
      ·cases h
      ·split at h
       ·next hc=>
        cases h
        intro i hi;obtain⟨k,a⟩:=vy (aT d) ks dep 16 hc.1 i hi;simp only[a,Option.getD_some];exact b _ _ _ k a
       ·cases h
     ·cases h
    ·cases h
  | _=>cases h
theorem MU(h){t}(a:bD t):bD (t.gy h):=by cases t<;>exact a
theorem Kn{h t dep bl n}(hr:gh h t dep bl=.ok n):bD n/\(0<dep->cR n):=by
 obtain⟨_,A1,hh,hc,ht,_⟩:=nP hr;unfold gh at hr;rw[QW (fun h=>h ht)] at hr;by_cases h2:0<dep/\t.length<32
 ·rw[QX h2] at hr;cases hr
 ·rw[QW h2] at hr;cases hd:fL t with
  |error c=>rw[hd] at hr;cases hr
  |ok x=>
   rw[hd] at hr;obtain⟨_,hf,_⟩:=zF t x hd;have A0:AR h (aT 6 x dep bl)=.ok n:=hr;cases hn:aT 6 x dep bl with
   |none=>rw[hn] at A0;cases A0
   |some m=>
    rw[hn] at A0;cases A0
    have hl:=MU h (Mf 6 x dep bl m hf hn);refine⟨hl,fun hd=>AP hl fun _=>?_⟩;rw[hh,hc];unfold fv;rw[QX (by omega),ht]
theorem Ca{G t t1 dep bl}(h:cf G t dep bl=.ok t1):(bD t->bD t1)/\(0<dep->cR t->cR t1):=by
 cases t with
 |unread h0=>
  have h':gO G h0 dep bl=.ok t1:=h;unfold gO at h';split at h'
  ·cases h'
  ·obtain⟨h1,h2⟩:=Kn h';exact⟨fun _=>h1,fun hd _=>h2 hd⟩
 | _=>cases h;exact⟨id,fun _=>id⟩
theorem LL(G:yB->Option yB):∀(f:Nat) (t) (p) (dep:Nat) (bl:Bool),aw t dep->ak p->(bD t->bD (cV G f t p dep bl).1)/\(0<dep->cR t->cR (cV G f t p dep bl).1):=by
 intro f;induction f with
 |zero=>intro t p dep bl _ _;exact⟨id,fun _=>id⟩
 |succ f ih=>
  intro t p dep bl hK hp;show(bD t->bD (kS t _ (cf G t dep bl)).1)/\(0<dep->cR t->cR (kS t _ (cf G t dep bl)).1)
  cases hr:cf G t dep bl with
  |error c=>exact⟨id,fun _=>id⟩
  |ok t1=>
   obtain⟨h1,_⟩:=l4 hK hr;obtain⟨hl,ht⟩:=Ca hr;suffices hs:(bD t1->bD (fJ (cV G f) t1 p dep).1)/\(0<dep->cR t1->cR (fJ (cV G f) t1 p dep).1) from⟨fun h=>hs.1 (hl h),fun hd h=>hs.2 hd (ht hd h)⟩
   cases t1 with
   |nil=>exact⟨id,fun _=>id⟩
   |unread _=>exact⟨id,fun _=>id⟩
   |leaf _ _ _=>exact⟨id,fun _=>id⟩
   |ext h q k=>
    simp only[fJ];by_cases e:aF q p=q.length
    ·rw[QX e];have hq:=Sj.2 h1.bu.1;have hi:=(ih k (p.drop q.length) (dep+q.length) true (dY h1) (cS hp _)).2 (by omega);have ho:=uS G f k (p.drop q.length) (dep+q.length) true (dY h1) (cS hp _);refine⟨fun hl=>hi hl,fun _ ht=>⟨?_,hi ht.2⟩⟩;unfold Nd.code;rw[yT h q k _ ho.ref];exact ht.1
    ·rw[QW e];exact⟨id,fun _=>id⟩
   |branch h v ks=>
    cases p with
    |nil=>exact⟨id,fun _=>id⟩
    |cons c r=>
     have hc:=hp c (QY ..);have A1:ak r:=fun y hy=>hp y (QZ _ hy)
     have hi:=(ih (ks c.toNat) r (dep+1) false (di h1 _ hc) A1).2 (by omega);have ho:=uS G f (ks c.toNat) r (dep+1) false (di h1 _ hc) A1;have A0:(∀i,i<16->cR (ks i))->∀i,i<16->cR (aD ks c.toNat (cV G f (ks c.toNat) r (dep+1) false).1 i):=fun hl i A2=>by
      by_cases e:i=c.toNat
      ·subst e;rw[df];exact hi (hl _ hc)
      ·rw[dJ _ _ _ _ e];exact hl i A2
     refine⟨fun hl=>A0 hl,fun _ ht=>⟨?_,A0 ht.2⟩⟩;unfold Nd.code;rw[yU h v ks _ _ ho.ref];exact ht.1
def bU(ks:Nat->Nd):Nat->Nat
 | 0=>0
 |i+1=>bU ks i+(if(ks i).isNil=true then 0 else 1)
def cD(ks:Nat->Nd):Nat->Nat
 | 0=>0
 |i+1=>if(ks i).isNil=true then cD ks i else i
def iD(q:yL):Except Nat Nd->Except Nat Nd
 | .error c=>.error c
 | .ok k=>.ok (aQ q k)
def lU(f:Nd->Except Nat Nd):Except Nat Nd->Except Nat Nd
 | .error c=>.error c
 | .ok k=>f k
def bR(G:yB->Option yB)(ks:Nat->Nd)(v:yL)(dep:Nat):Except Nat Nd:=
 if bU ks 16=0 then .ok (da [] v)
 else if 1<bU ks 16\/v≠[] then .ok (cP ks v)
 else iD [UInt8.ofNat (cD ks 16)] (cf G (ks (cD ks 16)) (dep+1) false)
def aV(G:yB->Option yB):Nd->yL->Nat->Except Nat Nd
 | .ext _ q k,p,dep=>iD q (aV G k (p.drop q.length) (dep+q.length))
 | .branch _ v ks,p,dep=>match p with
  | []=>bR G ks [] dep
  |c::r=>lU (fun k=>bR G (aD ks c.toNat k) v dep) (aV G (ks c.toNat) r (dep+1))
 | _,_,_=>.ok .nil
theorem lD(v)(ks:Nat->Nd):∀n,cW v ks n=bU ks n+(if v=[] then 0 else 1)
 | 0=>by simp[cW,bU]
 |n+1=>by simp only[cW,bU,lD v ks n];omega
theorem lC(ks:Nat->Nd):∀n,0<bU ks n->cD ks n<n/\(ks (cD ks n)).some
 | 0,h=>by cases h
 |n+1,h=>by
  simp only[bU,cD] at h⊢
  by_cases e:(ks n).isNil=true
  ·rw[QX e] at h⊢
   have:=lC ks n (by omega)
   exact⟨by omega,this.2⟩
  ·rw[QW e]
   exact⟨by omega,(gn _).1 (by simpa using e)⟩
theorem vC(ks:Nat->Nd):∀n,bU ks n=0->∀i,i<n->ks i=.nil
 | 0,_,i,h=>by omega
 |n+1,h,i,hi=>by
  simp only[bU] at h
  by_cases e:(ks n).isNil=true
  ·by_cases e2:i=n
   ·subst e2;cases hk:ks i<;>first|rfl| (rw[hk] at e;cases e)
   ·rw[QX e] at h;exact vC ks n (by omega) i (by omega)
  ·rw[QW e] at h;omega
theorem Z9(ks:Nat->Nd):∀n,bU ks n=1->∀i,i<n->i≠cD ks n->ks i=.nil
 | 0,_,i,h=>by omega
 |n+1,h,i,hi=>by
  simp only[bU,cD] at h⊢
  by_cases e:(ks n).isNil=true
  ·rw[QX e] at h⊢
   intro a
   by_cases e2:i=n
   ·subst e2;cases hk:ks i<;>first|rfl| (rw[hk] at e;cases e)
   ·exact Z9 ks n (by omega) i (by omega) a
  ·rw[QW e] at h⊢
   intro a
   exact vC ks n (by omega) i (by omega)
def jo:Nd->yL->Prop
 | .leaf _ q _,p=>q=p
 | .ext _ q k,p=>aF q p=q.length/\jo k (p.drop q.length)
 | .branch _ v ks,p=>match p with
  | []=>v≠[]
  |c::r=>jo (ks c.toNat) r
 | _,_=>False
theorem ov:∀(t) (p),aG t p≠[]->jo t p:=by
 intro t;induction t with
 |nil=>intro p h;exact h rfl
 |unread _=>intro p h;exact h rfl
 |leaf h0 q v=>
  intro p h;have h':(if(Nd.leaf h0 q v).kind≠2/\p=(Nd.leaf h0 q v).path then(Nd.leaf h0 q v).value else [])≠[]:=h;split at h'
  ·next hh=>exact hh.2.symm
  ·exact absurd rfl h'
 |ext h0 q k ih=>
  intro p h;simp only[aG] at h;split at h
  ·next e=>exact⟨e,ih _ h⟩
  ·exact absurd rfl h
 |branch h0 v ks ih=>
  intro p h;cases p with
  |nil=>exact h
  |cons c r=>exact ih _ r h
theorem BG{t dep}(h:aw t dep):iv t dep:=⟨h.bu,h.full,h.deep⟩
theorem zE:∀(t) (dep:Nat),oO dep t->t.some->t.path.length<=80 - dep
 | .leaf _ _ _,_,h,_=>by have:_+_<=80:=h;simp only[Nd.path];omega
 | .ext _ _ _,_,h,_=>by have:_+_<=80:=h.1;simp only[Nd.path];omega
 | .nil,_,_,_=>Ri _
 | .unread _,_,_,_=>Ri _
 | .branch _ _ _,_,_,_=>Ri _
theorem Er{q}{k:Nd}{dep}(d:ak q)(c:k.some)(a:aw k (dep+q.length))(e:dep+q.length<=80):aw (aQ q k) dep:=by
 have b:=xA c (BG a);have:=zE k _ a.deep c;exact⟨b.1,b.2,b.3,zs d (by omega) c a.aJ⟩
structure GW(t':Nd)(dep:Nat):Prop where
 ok:aw t' dep
 tight:cR t'
theorem sA{i}(h:i<16):ak [UInt8.ofNat i]:=fun x a=>by
 obtain rfl:=Q2.1 a
 rw[RH];omega
theorem Bz{G ks}{v:yL}{dep j}(b:∀i,i<16->aw (ks i) (dep+1))(l:∀i,i<16->cR (ks i))(m:v.length<=160)(h1:1<=cW v ks 16)(o:dep<=80)(h:bR G ks v dep=.ok j):GW j dep/\j.some:=by
 rw[lD] at h1;unfold bR at h;by_cases h0:bU ks 16=0
 ·rw[QX h0] at h;cases h;have s:v≠[]:=fun e=>by rw[h0,QX e] at h1;omega
  exact⟨⟨⟨s,trivial,o,oB (fun _ h=>by cases h) (Ri _) m⟩,p7 _ _⟩,trivial⟩
 ·rw[QW h0] at h;by_cases h2:1<bU ks 16\/v≠[]
  ·rw[QX h2] at h;cases h;have n:2<=cW v ks 16:=by
    rw[lD];rcases h2 with h2|h2
    ·omega
    ·rw[QW h2];omega
   have a:iv (cP ks v) dep:=uA n fun i hi=>BG (b i hi)
   exact⟨⟨⟨a.1,a.2,a.3,oC m fun i hi=>(b i hi).aJ⟩,uh l⟩,trivial⟩
  ·rw[QW h2] at h;obtain⟨f,r⟩:=lC ks 16 (by omega);cases hr:cf G (ks (cD ks 16)) (dep+1) false with
   |error c=>rw[hr] at h;cases h
   |ok k=>
    rw[hr] at h;cases h;obtain⟨d,_,q,_,_⟩:=l4 (b _ f) hr;have g:k.some:=(gn k).1 (by rw[q];exact(gn _).2 r);have p:=vS k (dep+1) g d.full d.deep;exact⟨⟨Er (sA f) g d p,ug ((Ca hr).2 (by omega) (l _ f))⟩,nf _ _ g⟩
theorem kD(G:yB->Option yB):∀(t) (p) (dep:Nat) (t'),aw t dep->bD t->dw t p->jo t p->ak p->dep+p.length<=80->aV G t p dep=.ok t'->GW t' dep/\(t.kind=3->t'.some):=by
 intro t;induction t with
 |nil=>intro p dep t' _ _ _ h;exact h.elim
 |unread _=>intro p dep t' _ _ _ h;exact h.elim
 |leaf h0 q v=>intro p dep t' _ _ _ _ _ _ h;cases h;exact⟨⟨⟨trivial,trivial,trivial,trivial⟩,trivial⟩,fun h=>by cases h⟩
 |ext h0 q k ih=>
  intro p dep t' hK hL ho hh hn hd h;obtain⟨e,hh⟩:=hh;have A2:=(g9 q p).2;rw[e] at A2;have h':iD q (aV G k (p.drop q.length) (dep+q.length))=.ok t':=h;cases hk:aV G k (p.drop q.length) (dep+q.length) with
  |error c=>rw[hk] at h';cases h'
  |ok k'=>
   rw[hk] at h';cases h';have A3:k.kind=3:=by
    have hf:=hK.bu.2.1;have A4:=ho e;cases k<;>first|exact hf.elim|exact A4.elim|rfl
   obtain⟨h1,h2⟩:=ih _ _ k' (dY hK) hL.loose (ho e) hh (cS hn _) (by rw[Q8];omega) hk;exact⟨⟨Er hK.aJ.2.1 (h2 A3) h1.ok (by omega),ug h1.tight⟩,fun h=>by cases h⟩
 |branch h0 v ks ih=>
  intro p dep t' hK hL ho hh hn hd h;have A0:∀i,i<16->cR (ks i):=hL;cases p with
  |nil=>
   have hc:=hK.full.1;have hv:v≠[]:=hh;obtain⟨h1,h2⟩:=Bz (fun i hi=>di hK i hi) A0 (Ri _) (by rw[lD] at hc⊢;rw[QW hv] at hc;rw[QX rfl];omega) (by simpa using hd) h;exact⟨h1,fun _=>h2⟩
  |cons c r=>
   have hc:c.toNat<16:=hn c (QY ..);have hr:ak r:=fun y hy=>hn y (QZ _ hy)
   have hl:dep+1+r.length<=80:=by simp at hd;omega
   have h':lU (fun k=>bR G (aD ks c.toNat k) v dep) (aV G (ks c.toNat) r (dep+1))=.ok t':=h;cases hk:aV G (ks c.toNat) r (dep+1) with
   |error c=>rw[hk] at h';cases h'
   |ok k'=>
    rw[hk] at h';obtain⟨h1,_⟩:=ih _ r (dep+1) k' (di hK _ hc) (A0 _ hc).loose ho hh hr hl hk;have hs:(ks c.toNat).some:=by
     have A1:jo (ks c.toNat) r:=hh;cases hkc:ks c.toNat with
     |nil=>rw[hkc] at A1;exact A1.elim
     | _=>trivial
    have A5:=mZ v ks c.toNat hs 16 hc;have A6:=hK.full.1;have A2:cW v (aD ks c.toNat .nil) 16<=cW v (aD ks c.toNat k') 16:=kcount_nil_le v ks c.toNat k' 16;obtain⟨h3,h4⟩:=Bz (fun i hi=>by
     by_cases e:i=c.toNat
     ·subst e;rw[df];exact h1.ok
     ·rw[dJ _ _ _ _ e];exact di hK i hi) (fun i hi=>by
     by_cases e:i=c.toNat
     ·subst e;rw[df];exact h1.tight
     ·rw[dJ _ _ _ _ e];exact A0 i hi) hK.aJ.2.1 (by omega) (by omega) h'
    exact⟨h3,fun _=>h4⟩
 where
  kcount_nil_le (v:yL) (ks:Nat->Nd) (c:Nat) (k:Nd):∀n,cW v (aD ks c .nil) n<=cW v (aD ks c k) n
   | 0=>QU _
   |n+1=>by
    have:=kcount_nil_le v ks c k n;simp only[cW];by_cases e:n=c
    ·subst e;rw[df,df];simp[Nd.isNil];omega
    ·rw[dJ _ _ _ _ e,dJ _ _ _ _ e];omega
def kY(ks:Nat->Nd)(v:yL):Option (yL×yL):=if v=[]/\bU ks 16=1 then(match ks (cD ks 16) with| .unread h=>some ([UInt8.ofNat (cD ks 16)],h) | _=>none) else none
def mV:Nd->yL->Option (yL×yL)
 | .ext _ q k,p=>(mV k (p.drop q.length)).map fun x=>(q++x.1,x.2)
 | .branch _ v ks,p=>match p with
  | []=>kY ks []
  |c::r=>if(ks c.toNat).kind=1 then kY (aD ks c.toNat .nil) v else(mV (ks c.toNat) r).map fun x=>(c::x.1,x.2)
 | _,_=>none
def oK(G:yB->Option yB)(r:Except Nat Nd)(o:Option (yL×yL))(dep:Nat)(a:yL)(E:En->Prop):Prop:=match o with
 |none=>∃t',r=.ok t'/\t'.some/\∀e,e∈bB t' a↔E e
 |some (q,h)=>match cf G (.unread h) (dep+q.length) false with
  | .error c=>r=.error c
  | .ok n=>∃t',r=.ok t'/\t'.some/\∀e,e∈bB t' a↔(E e/\e≠⟨a++q,true,h⟩)\/e∈bB n (a++q)
theorem oK.congr{G r o dep a E F}(h:oK G r o dep a E)(b:∀e,E e↔F e):oK G r o dep a F:=by
 have:E=F:=funext fun e=>propext (b e)
 rw[<-this];exact h
theorem ML(h0 a){ks}(h1:bU ks 16=1)(e:En):e∈bB (.branch h0 [] ks) a↔e∈bB (ks (cD ks 16)) (a++[UInt8.ofNat (cD ks 16)]):=by
 rw[iN];constructor
 ·rintro (⟨h,_⟩|⟨i,hi,b⟩)
  ·exact absurd rfl h
  ·by_cases e2:i=cD ks 16
   ·rw[<-e2];exact b
   ·rw[Z9 ks 16 h1 i hi e2] at b;cases b
 ·exact fun b=>.inr ⟨_,(lC ks 16 (by omega)).1,b⟩
theorem Ko(G:yB->Option yB){t}(h:∀x,t≠.unread x)(dep:Nat)(bl:Bool):cf G t dep bl=.ok t:=by
 cases t with
 |unread x=>exact absurd rfl (h x)
 | _=>rfl
theorem Bx(G:yB->Option yB)(ks:Nat->Nd)(v)(dep:Nat)(a h0)(p:∀i,i<16->aw (ks i) (dep+1))(h1:1<=cW v ks 16):oK G (bR G ks v dep) (kY ks v) dep a fun e=>e∈bB (.branch h0 v ks) a:=by
 rw[lD] at h1;have b:bR G ks v dep=if bU ks 16=0 then .ok (da [] v) else if 1<bU ks 16\/v≠[] then .ok (cP ks v) else iD [UInt8.ofNat (cD ks 16)] (cf G (ks (cD ks 16)) (dep+1) false):=rfl;by_cases j:bU ks 16=0
 ·have g:v≠[]:=fun e=>by rw[j,QX e] at h1;omega
  rw[QX j] at b;have d:kY ks v=none:=by unfold kY;rw[QW (fun h=>g h.1)]
  rw[d,b];refine⟨_,rfl,trivial,fun e=>?_⟩;show _↔e∈bB (.branch h0 v ks) a;rw[iN];have f:bB (da [] v) a=[⟨a++[],false,v⟩]:=rfl;rw[f,Rz,Q2];constructor
  ·exact fun h=>.inl ⟨g,h⟩
  ·rintro (⟨_,h⟩|⟨i,hi,h⟩)
   ·exact h
   ·rw[vC ks 16 j i hi] at h;cases h
 ·rw[QW j] at b;by_cases h2:1<bU ks 16\/v≠[]
  ·rw[QX h2] at b;have d:kY ks v=none:=by
    unfold kY;rw[QW];rintro ⟨h3,h4⟩;rcases h2 with h2|h2
    ·omega
    ·exact h2 h3
   rw[d,b];exact⟨_,rfl,trivial,fun e=>Iff.rfl⟩
  ·rw[QW h2] at b;have g:v=[]:=Sb fun h=>h2 (.inr h)
   have k:bU ks 16=1:=by
    have:¬1<bU ks 16:=fun h=>h2 (.inl h)
    omega
   subst g;obtain⟨q,l⟩:=lC ks 16 (by omega);have f:=fun e=>ML h0 a k e
   cases hu:ks (cD ks 16) with
   |unread x=>
    have d:kY ks []=some ([UInt8.ofNat (cD ks 16)],x):=by
     unfold kY;rw[QX ⟨rfl,k⟩,hu]
    rw[hu] at b;rw[d,b];show match cf G (.unread x) (dep+1) false with
     | .error c=>iD _ (cf G (.unread x) (dep+1) false)=.error c
     | .ok n=>∃t',iD _ (cf G (.unread x) (dep+1) false)=.ok t'/\t'.some/\∀e,e∈bB t' a↔(e∈bB (.branch h0 [] ks) a/\e≠⟨a++[UInt8.ofNat (cD ks 16)],true,x⟩)\/e∈bB n (a++[UInt8.ofNat (cD ks 16)])
    cases hr:cf G (.unread x) (dep+1) false with
    |error c=>rfl
    |ok n=>
     have m:=p _ q;rw[hu] at m;obtain⟨_,_,r,_⟩:=l4 m hr;have o:n.some:=(gn n).1 (by rw[r];rfl);refine⟨_,rfl,nf _ _ o,fun e=>?_⟩;rw[qW _ _ _ o,f,hu];constructor
     ·exact .inr
     ·rintro (⟨h3,h4⟩|h3)
      ·exact absurd (Q2.1 h3) h4
      ·exact h3
   | _=>
    have d:kY ks []=none:=by
     unfold kY;rw[QX ⟨rfl,k⟩,hu]
    rw[hu] at b f l;rw[d,b,Ko G (fun x=>Nd.noConfusion)];exact⟨_,rfl,nf _ _ l,fun e=>by rw[qW _ _ _ l];exact(f e).symm⟩
theorem vi(h0 v a)(ks:Nat->Nd)(c:UInt8)(g:c.toNat<16)(k)(e:En):e∈bB (.branch h0 v (aD ks c.toNat k)) a↔(e∈bB (.branch h0 v ks) a/\¬∃s,e.p=a++c::s)\/e∈bB k (a++[c]):=by
 rw[iN,iN];have j:∀i,i<16->e∈bB (ks i) (a++[UInt8.ofNat i])->(∃s,e.p=a++c::s)->i=c.toNat:=fun i hi b ⟨s,hs⟩=>by
  obtain⟨q,f⟩:=lI _ _ e b;rw[hs,Rn] at f;have h1:=RZ f;have h2:c=UInt8.ofNat i:=by simpa using(List.cons.inj h1).1
  rw[h2,RH];omega
 constructor
 ·rintro (⟨h1,rfl⟩|⟨i,hi,b⟩)
  ·refine .inl ⟨.inl ⟨h1,rfl⟩,fun⟨s,hs⟩=>?_⟩;have:=congrArg List.length hs;simp at this
  ·by_cases d:i=c.toNat
   ·subst d;rw[df,kB] at b;exact .inr b
   ·rw[dJ _ _ _ _ d] at b;exact .inl ⟨.inr ⟨i,hi,b⟩,fun h=>d (j i hi b h)⟩
 ·rintro (⟨⟨h1,rfl⟩|⟨i,hi,b⟩,h2⟩|b)
  ·exact .inl ⟨h1,rfl⟩
  ·by_cases d:i=c.toNat
   ·subst d;obtain⟨q,f⟩:=lI _ _ e b;rw[kB] at f;exact absurd ⟨q,by rw[f];simp⟩ h2
   ·exact .inr ⟨i,hi,by rw[dJ _ _ _ _ d];exact b⟩
  ·exact .inr ⟨c.toNat,g,by rw[df,kB];exact b⟩
theorem sF(h0 v a)(ks:Nat->Nd)(c:UInt8)(d:c.toNat<16)(e:En)(s)(g:e.p=a++c::s):e∈bB (.branch h0 v ks) a↔e∈bB (ks c.toNat) (a++[c]):=by
 have:=vi h0 v a ks c d (ks c.toNat) e;have f:aD ks c.toNat (ks c.toNat)=ks:=by
  funext i
  by_cases b:i=c.toNat
  ·subst b;rw[df]
  ·rw[dJ _ _ _ _ b]
 rw[f] at this;rw[this];constructor
 ·rintro (⟨_,h⟩|h)
  ·exact absurd ⟨s,g⟩ h
  ·exact h
 ·exact .inr
theorem M1(G:yB->Option yB):∀(t) (p) (dep:Nat) (a),aw t dep->dw t p->jo t p->ak p->t.kind≠1->oK G (aV G t p dep) (mV t p) dep a fun e=>e∈bB t a/\e.p≠a++p:=by
 intro t;induction t with
 |nil=>intro p dep a _ _ h;exact h.elim
 |unread _=>intro p dep a _ _ h;exact h.elim
 |leaf h0 q v=>intro p dep a _ _ _ _ h;exact absurd rfl h
 |ext h0 q k ih=>
  intro p dep a hK ho hh hn _;obtain⟨A6,hh⟩:=hh;have hp:=xw q p A6;have A7:k.kind≠1:=by
   have hf:=hK.bu.2.1;cases k<;>first|exact hf.elim| (intro h;cases h)
  have hI:=ih (p.drop q.length) (dep+q.length) (a++q) (dY hK) (ho A6) hh (cS hn _) A7;have hL:aV G (.ext h0 q k) p dep=iD q (aV G k (p.drop q.length) (dep+q.length)):=rfl;have hU:mV (.ext h0 q k) p=(mV k (p.drop q.length)).map fun x=>(q++x.1,x.2):=rfl
  have hE:bB (.ext h0 q k) a=bB k (a++q):=rfl;rw[hL,hU,hE];rw[Rn,hp] at hI;cases hlu:mV k (p.drop q.length) with
  |none=>
   rw[hlu] at hI;obtain⟨t',h1,h2,h3⟩:=hI;rw[h1];exact⟨_,rfl,nf _ _ h2,fun e=>by rw[qW _ _ _ h2];exact h3 e⟩
  |some x=>
   obtain⟨y,h⟩:=x;rw[hlu] at hI;have hI:match cf G (.unread h) (dep+q.length+y.length) false with
    | .error c=>aV G k (p.drop q.length) (dep+q.length)=.error c
    | .ok n=>∃t',aV G k (p.drop q.length) (dep+q.length)=.ok t'/\t'.some/\∀e,e∈bB t' (a++q)↔((e∈bB k (a++q)/\e.p≠a++p)/\e≠⟨a++q++y,true,h⟩)\/e∈bB n (a++q++y):=hI
   show match cf G (.unread h) (dep+(q++y).length) false with
    | .error c=>iD q (aV G k (p.drop q.length) (dep+q.length))=.error c
    | .ok n=>∃t',iD q (aV G k (p.drop q.length) (dep+q.length))=.ok t'/\t'.some/\∀e,e∈bB t' a↔((e∈bB k (a++q)/\e.p≠a++p)/\e≠⟨a++(q++y),true,h⟩)\/e∈bB n (a++(q++y))
   rw[Q4,<-Nat.add_assoc,<-Rn];cases hr:cf G (.unread h) (dep+q.length+y.length) false with
   |error c=>rw[hr] at hI;simp only at hI⊢;rw[hI];rfl
   |ok n=>
    rw[hr] at hI;obtain⟨t',h1,h2,h3⟩:=hI;rw[h1];exact⟨_,rfl,nf _ _ h2,fun e=>by rw[qW _ _ _ h2];exact h3 e⟩
 |branch h0 v ks ih=>
  intro p dep a hK ho hh hn _;have A3:=hK.full.1;cases p with
  |nil=>
   have hv:v≠[]:=hh;have hS:=Bx G ks [] dep a h0 (fun i hi=>di hK i hi) (by rw[lD] at A3⊢;rw[QW hv] at A3;rw[QX rfl];omega);refine oK.congr hS fun e=>?_
   rw[iN,iN,Rz];constructor
   ·rintro (⟨h,_⟩|⟨i,hi,he⟩)
    ·exact absurd rfl h
    ·refine⟨.inr ⟨i,hi,he⟩,fun h=>?_⟩;obtain⟨q,hq⟩:=lI _ _ e he;rw[h] at hq;have:=congrArg List.length hq;simp at this
   ·rintro ⟨⟨_,rfl⟩|h,h2⟩
    ·exact absurd rfl h2
    ·exact .inr h
  |cons c r=>
   have hc:c.toNat<16:=hn c (QY ..);have hr:ak r:=fun y hy=>hn y (QZ _ hy)
   have A0:jo (ks c.toNat) r:=hh;have hs:(ks c.toNat).some:=by
    cases hkc:ks c.toNat with
    |nil=>rw[hkc] at A0;exact A0.elim
    | _=>trivial
   have hL:aV G (.branch h0 v ks) (c::r) dep=lU (fun k=>bR G (aD ks c.toNat k) v dep) (aV G (ks c.toNat) r (dep+1)):=rfl;have hU:mV (.branch h0 v ks) (c::r)=if(ks c.toNat).kind=1 then kY (aD ks c.toNat .nil) v else(mV (ks c.toNat) r).map fun x=>(c::x.1,x.2):=rfl
   have A4:a++c::r=a++[c]++r:=by simp
   by_cases A1:(ks c.toNat).kind=1
   ·rw[hL,hU,QX A1];cases hkc:ks c.toNat with
    |leaf x q y=>
     rw[hkc] at A0;have hq:q=r:=A0;subst hq;have A8:aV G (.leaf x q y) q (dep+1)=.ok .nil:=rfl;rw[A8];have A9:=mZ v ks c.toNat hs 16 hc;have hS:=Bx G (aD ks c.toNat .nil) v dep a h0 (fun i hi=>by
      by_cases e:i=c.toNat
      ·subst e;rw[df];exact⟨trivial,trivial,trivial,trivial⟩
      ·rw[dJ _ _ _ _ e];exact di hK i hi) (by omega)
     refine oK.congr hS fun e=>?_
     rw[vi h0 v a ks c hc];constructor
     ·rintro (⟨h1,h2⟩|h1)
      ·exact⟨h1,fun h=>h2 ⟨_,h⟩⟩
      ·cases h1
     ·rintro ⟨h1,h2⟩;refine .inl ⟨h1,fun⟨s,hs'⟩=>h2 ?_⟩;have h3:=(sF h0 v a ks c hc e s hs').1 h1;rw[hkc] at h3;have h4:e=⟨a++[c]++q,false,y⟩:=Q2.1 h3;rw[h4,A4]
    | _=>rw[hkc] at A1;cases A1
   ·rw[hL,hU,QW A1];have hI:=ih c.toNat r (dep+1) (a++[c]) (di hK _ hc) ho A0 hr A1;rw[<-A4] at hI;have A5:∀t1:Nd,t1.some->bR G (aD ks c.toNat t1) v dep=.ok (cP (aD ks c.toNat t1) v):=fun t1 h1=>by
     have A2:2<=cW v (aD ks c.toNat t1) 16:=by
      rw[vD v ks c.toNat t1 (by rw[(gn _).2 h1,(gn _).2 hs])];exact A3
     rw[lD] at A2;unfold bR;rw[QW (fun h=>by rw[h] at A2;split at A2<;>omega),QX];by_cases hv:v=[]
     ·rw[QX hv] at A2;exact .inl (by omega)
     ·exact .inr hv
    cases hlu:mV (ks c.toNat) r with
    |none=>
     rw[hlu] at hI;obtain⟨t1,h1,h2,h3⟩:=hI;rw[h1];refine⟨_,A5 t1 h2,trivial,fun e=>?_⟩;show e∈bB (.branch h0 v (aD ks c.toNat t1)) a↔_;rw[vi h0 v a ks c hc,h3];constructor
     ·rintro (⟨h4,h5⟩|⟨h4,h5⟩)
      ·exact⟨h4,fun h=>h5 ⟨_,h⟩⟩
      ·obtain⟨q,hq⟩:=lI _ _ e h4;exact⟨(sF h0 v a ks c hc e q (by rw[hq];simp)).2 h4,h5⟩
     ·rintro ⟨h4,h5⟩;by_cases h6:∃s,e.p=a++c::s
      ·obtain⟨s,h6⟩:=h6;exact .inr ⟨(sF h0 v a ks c hc e s h6).1 h4,h5⟩
      ·exact .inl ⟨h4,h6⟩
    |some x=>
     obtain⟨y,h⟩:=x;rw[hlu] at hI;have hI:match cf G (.unread h) (dep+1+y.length) false with
      | .error c'=>aV G (ks c.toNat) r (dep+1)=.error c'
      | .ok n=>∃t',aV G (ks c.toNat) r (dep+1)=.ok t'/\t'.some/\∀e,e∈bB t' (a++[c])↔((e∈bB (ks c.toNat) (a++[c])/\e.p≠a++c::r)/\e≠⟨a++[c]++y,true,h⟩)\/e∈bB n (a++[c]++y):=hI
     show match cf G (.unread h) (dep+(c::y).length) false with
      | .error c'=>lU (fun k=>bR G (aD ks c.toNat k) v dep) (aV G (ks c.toNat) r (dep+1))=.error c'
      | .ok n=>∃t',lU (fun k=>bR G (aD ks c.toNat k) v dep) (aV G (ks c.toNat) r (dep+1))=.ok t'/\t'.some/\∀e,e∈bB t' a↔((e∈bB (.branch h0 v ks) a/\e.p≠a++c::r)/\e≠⟨a++c::y,true,h⟩)\/e∈bB n (a++c::y)
     have hy:a++c::y=a++[c]++y:=by simp
     have hd:dep+(c::y).length=dep+1+y.length:=by simp only[Ro];omega
     rw[hd,hy];cases hr:cf G (.unread h) (dep+1+y.length) false with
     |error c'=>rw[hr] at hI;simp only at hI⊢;rw[hI];rfl
     |ok n=>
      rw[hr] at hI;obtain⟨t1,h1,h2,h3⟩:=hI;rw[h1];refine⟨_,A5 t1 h2,trivial,fun e=>?_⟩;show e∈bB (.branch h0 v (aD ks c.toNat t1)) a↔_;rw[vi h0 v a ks c hc,h3];constructor
      ·rintro (⟨h4,h5⟩|⟨⟨h4,h5⟩,h6⟩|h4)
       ·exact .inl ⟨⟨h4,fun h=>h5 ⟨_,h⟩⟩,fun h6=>h5 ⟨y,by rw[h6];simp⟩⟩
       ·obtain⟨q,hq⟩:=lI _ _ e h4;exact .inl ⟨⟨(sF h0 v a ks c hc e q (by rw[hq];simp)).2 h4,h5⟩,h6⟩
       ·exact .inr h4
      ·rintro (⟨⟨h4,h5⟩,h6⟩|h4)
       ·by_cases h7:∃s,e.p=a++c::s
        ·obtain⟨s,h7⟩:=h7;exact .inr (.inl ⟨⟨(sF h0 v a ks c hc e s h7).1 h4,h5⟩,h6⟩)
        ·exact .inl ⟨h4,h7⟩
       ·exact .inr (.inr h4)
theorem sP{b h}(a:eE b h=true):∃p,b[aZ b h]? =some p/\(p.1.toList == h.toList)=true:=by
 unfold eE at a;cases hp:b[aZ b h]? with
 |none=>rw[hp] at a;cases a
 |some p=>rw[hp] at a;exact⟨p,rfl,a⟩
theorem Lt(w:World)(b:Nat)(h:yB)(a:h.size≠32):
 Calls yP 119 #[pV (qA b),sV h] w fun e w'=>e=rV (tV #[sV ⟨#[]⟩,iV .i64 2])/\w'=w:=by
 have c:¬(h.size:Int)=32:=by omega
 clear a;go_enter func119,ntmps119
 go_wp2_with fail
 go_ret2
 exact⟨rfl,rfl⟩
theorem Lu(base:Nat)(w)(b:Nat)(vs)(sh:Nat->List (yB×yB))(S:bP base w b vs sh)(h:yB)(h32:h.size=32)(hs:0<h.size)(hd:pR (sh (h[0]'hs).toNat) h)(hn:(sh (h[0]'hs).toNat).length<4000000000000):
 Calls yP 119 #[pV (qA b),sV h] w fun e w'=>
  ((eE (sh (h[0]'hs).toNat) h=false/\e=rV (tV #[sV ⟨#[]⟩,iV .i64 9]))\/(eE (sh (h[0]'hs).toNat) h=true/\∃p,(sh (h[0]'hs).toNat)[aZ (sh (h[0]'hs).toNat) h]? =some p/\e=rV (tV #[sV p.2,iV .i64 0])))/\∃n,w'=w.drewN n:=by
 have hc:(h[0]'hs).toNat<256:=(h[0]'hs).toNat_lt;obtain⟨a,cap,A4,SH⟩:=S.kx _ hc;have A0:=aa (xD w b h hs a cap _ SH hd (by omega));have A3:Hid (eE (sh (h[0]'hs).toNat) h=true->∃p,(sh (h[0]'hs).toNat)[aZ (sh (h[0]'hs).toNat) h]? =some p/\(p.1.toList == h.toList)=true):=sP;have A1:=aa SH;have A8:(h.size:Int)=32:=by omega
 have A9:(0:Int)<(h.size:Int):=by omega
 clear S SH hd A4 h32;generalize eE (sh (h[0]'hs).toNat) h=hit at*;generalize aZ (sh (h[0]'hs).toNat) h=k at*;generalize hcc:(h[0]'hs).toNat=c at*;have A5:(c:Int)<256:=by omega
 go_enter func119,ntmps119
 go_wp2_with fail
 refine A0.out.mono ?_;rintro e w1 ⟨rfl,n1,rfl⟩;cases hit
 ·clear A0;go_wp2_with fail
  go_ret2
  exact⟨rfl,n1,rfl⟩
 ·obtain⟨p,hp,_⟩:=A3.out rfl;have A7:=(Rb.1 hp).1;obtain⟨g,rfl,c1,c2⟩:=A1.out.at_ k p hp;have d0:(w.drewN n1).cell? ⟨b,c,none⟩=_:=A1.out.cell;have d2:(w.drewN n1).cell? ⟨g,k*2+1,none⟩=some (sV p.2):=c2;have HP:=aa hp;have A6:(k:Int)<((sh c).length:Int):=by omega
  have A2:Hid (∃n,(w.drewN n1).drew=w.drewN n):=⟨n1+1,rfl⟩
  clear hp c1 c2 A0;generalize (sh c).length=M at*;generalize w.drewN n1=w1 at*;go_wp2_with fail
  go_region
  all_goals
   go_wp2_with fail
   go_ret2
   exact⟨⟨p.1,p.2,HP.out,rfl⟩,A2.out⟩
theorem Ln(w:World)(b:Nat)(h:yB)(a:h.size≠32):
 Calls yP 41 #[pV (qA b),sV h] w fun e w'=>e=rV (iV .i64 2)/\w'=w:=by
 have c:¬(h.size:Int)=32:=by omega
 clear a;go_enter func41,ntmps41
 go_wp2_with fail
 go_ret
 exact⟨rfl,rfl⟩
theorem aN.LU{T}(w)(n:Nat):aN T w (w.drewN n):=⟨rfl,rfl,rfl,QU _,fun _ _ _=>rfl⟩
theorem Lo(base:Nat)(w)(b:Nat)(g)(f:Nat->List (yB×yB))(S:bP base w b g f)(h:yB)(h32:h.size=32)(d:0<h.size)(o:pR (f (h[0]'d).toNat) h)(y:(f (h[0]'d).toNat).length<4000000000000):
 Calls yP 41 #[pV (qA b),sV h] w fun e w'=>
  (eE (f (h[0]'d).toNat) h=false/\e=rV (iV .i64 9)/\∃n,w'=w.drewN n)\/(eE (f (h[0]'d).toNat) h=true/\e=rV (iV .i64 0)/\
   (∃v',bP base w' b (aU g (h[0]'d).toNat v') (aK f (h[0]'d).toNat ((f (h[0]'d).toNat).eraseIdx (aZ (f (h[0]'d).toNat) h)))/\v'.ownBlock=(g (h[0]'d).toNat).ownBlock)/\aN (fun k=>k=b\/(g (h[0]'d).toNat).ownBlock=some k) w w'):=by
 have m:(h[0]'d).toNat<256:=(h[0]'d).toNat_lt;obtain⟨a,cap,z,l⟩:=S.kx _ m;have i:=aa (xD w b h d a cap _ l o (by omega));have t:Hid (eE (f (h[0]'d).toNat) h=true->aZ (f (h[0]'d).toNat) h<(f (h[0]'d).toNat).length):=EB;have u:=aa S;have B:(h.size:Int)=32:=by omega
 have C:(0:Int)<(h.size:Int):=by omega
 clear S l o z h32;generalize eE (f (h[0]'d).toNat) h=hit at*;generalize aZ (f (h[0]'d).toNat) h=k at*;generalize hcc:(h[0]'d).toNat=c at*;have A:(c:Int)<256:=by omega
 go_enter func41,ntmps41
 go_wp2_with fail
 refine i.out.mono ?_;rintro e w1 ⟨rfl,n1,rfl⟩;cases hit
 ·clear i;go_wp2_with fail
  go_ret
  exact⟨rfl,n1,rfl⟩
 ·have x:=t.out rfl;have j:Hid (Calls yP 84 #[pV (qA b),iV .u8 c,iV .i64 k] (w.drewN n1) fun e w'=>e=rV (tV #[])/\(∃v',bP base w' b (aU g c v') (aK f c ((f c).eraseIdx k))/\v'.ownBlock=(g c).ownBlock)/\aN (fun q=>q=b\/(g c).ownBlock=some q) (w.drewN n1) w'):=IY base (w.drewN n1) b g f (u.out.same (w':=w.drewN n1) rfl) c k m x y;have v:Hid (aN (fun q=>q=b\/(g c).ownBlock=some q) w (w.drewN n1)):=aN.LU w n1;clear i;generalize w.drewN n1=w1 at*;go_wp2_with fail
  refine j.out.mono ?_;rintro e w2 ⟨rfl,p,r⟩;have s:Hid ((∃v',bP base w2 b (aU g c v') (aK f c ((f c).eraseIdx k))/\v'.ownBlock=(g c).ownBlock)/\aN (fun q=>q=b\/(g c).ownBlock=some q) w w2):=⟨p,v.out.trans r⟩
  clear p r j;go_wp2_with fail
  go_ret
  exact⟨rfl,s.out⟩
theorem Lr(base:Nat)(w)(b:Nat)(d)(f:Nat->List (yB×yB))(S:bP base w b d f)(h t:yB)(h32:h.size=32)(a:0<h.size)(q:t.size<=4096)(g:pR (f (h[0]'a).toNat) h)(i:(f (h[0]'a).toNat).length<4000000000000)(o:base<=w.heap.size):
 Calls yP 42 #[pV (qA b),sV h,sV t] w fun e w'=>e=rV (iV .i64 0)/\
  (∃v',bP base w' b (aU d (h[0]'a).toNat v') (aK f (h[0]'a).toNat (jR (f (h[0]'a).toNat) h t))/\jG w (d (h[0]'a).toNat) v')/\aN (fun k=>k=b\/(d (h[0]'a).toNat).ownBlock=some k) w w':=by
 have n:Hid (Calls yP 85 #[pV (qA b),sV h,sV t] w fun e w'=>e=rV (tV #[])/\
  (∃v',bP base w' b (aU d (h[0]'a).toNat v') (aK f (h[0]'a).toNat (jR (f (h[0]'a).toNat) h t))/\jG w (d (h[0]'a).toNat) v')/\aN (fun k=>k=b\/(d (h[0]'a).toNat).ownBlock=some k) w w'):=BH base w b d f S h t a g i o
 have p:(h.size:Int)=32:=by omega
 have r:¬(4096:Int)<(t.size:Int):=by omega
 clear S g i h32;generalize (h[0]'a).toNat=c at*;go_enter func42,ntmps42
 go_wp2_with fail
 refine n.out.mono ?_;rintro e w1 ⟨rfl,j,l⟩;have m:Hid ((∃v',bP base w1 b (aU d c v') (aK f c (jR (f c) h t))/\jG w (d c) v')/\aN (fun k=>k=b\/(d c).ownBlock=some k) w w1):=⟨j,l⟩
 clear j l;go_wp2_with fail
 go_ret
 exact⟨rfl,m.out⟩
theorem Lq(w:World)(b:Nat)(h t:yB)(a:h.size≠32):
 Calls yP 42 #[pV (qA b),sV h,sV t] w fun e w'=>e=rV (iV .i64 2)/\w'=w:=by
 have c:¬(h.size:Int)=32:=by omega
 clear a;go_enter func42,ntmps42
 go_wp2_with fail
 go_ret
 exact⟨rfl,rfl⟩
theorem Lp(w:World)(b:Nat)(h t:yB)(a:h.size=32)(d:4096<t.size):
 Calls yP 42 #[pV (qA b),sV h,sV t] w fun e w'=>e=rV (iV .i64 1)/\w'=w:=by
 have c:(h.size:Int)=32:=by omega
 have f:(4096:Int)<(t.size:Int):=by omega
 clear a;go_enter func42,ntmps42
 go_wp2_with fail
 go_ret
 exact⟨rfl,rfl⟩
theorem bP.below{base w w' b e d}(S:bP base w b e d)(h:yW w w'):bP base w' b e d:=
 ⟨(h.block b (Q0.1 S.ah).1).trans S.ah,fun c a=>cK (S.own c a) fun g f=>h.block g ((S.own c a).lt g f).2,S.sep,S.ff⟩
theorem aN.gj{T}{w w':World}(h:yW w w'):aN T w w':=⟨h.os,h.tape,h.output,h.size,fun q a _=>h.block q a⟩
theorem Oi(t):(ai t).size=32:=eL _
theorem jy(t):0<(ai t).size:=by rw[Oi];decide
theorem Lk(w:World)(b:Nat)(t:yB)(a:4096<t.size):
 Calls yP 117 #[pV (qA b),sV t] w fun e w'=>e=rV (tV #[sV ⟨#[]⟩,iV .i64 1])/\w'=w:=by
 have c:(4096:Int)<(t.size:Int):=by omega
 go_enter func117,ntmps117
 go_wp2_with fail
 go_ret2
 exact⟨rfl,rfl⟩
theorem Ll(base:Nat)(w)(b:Nat)(a)(d:Nat->List (yB×yB))(S:bP base w b a d)(T:az w)(t:yB)(v:t.size<=4096)(m:pR (d ((ai t)[0]'(jy t)).toNat) (ai t))(n:(d ((ai t)[0]'(jy t)).toNat).length<4000000000000)(s:base<=w.heap.size):
 Calls yP 117 #[pV (qA b),sV t] w fun e w'=>e=rV (tV #[sV (ai t),iV .i64 0])/\
  (∃v',bP base w' b (aU a ((ai t)[0]'(jy t)).toNat v') (aK d ((ai t)[0]'(jy t)).toNat (jR (d ((ai t)[0]'(jy t)).toNat) (ai t) t))/\jG w (a ((ai t)[0]'(jy t)).toNat) v')/\aN (fun k=>k=b\/(a ((ai t)[0]'(jy t)).toNat).ownBlock=some k) w w':=by
 have r:Hid (Calls yP 24 #[sV t] w fun e w'=>e=rV (sV (ai t))/\yW w w'):=iE t (by unfold maxLen;omega) w T;have i:Hid (∀W,yW w W->Calls yP 85 #[pV (qA b),sV (ai t),sV t] W fun e w'=>e=rV (tV #[])/\
  (∃v',bP base w' b (aU a ((ai t)[0]'(jy t)).toNat v') (aK d ((ai t)[0]'(jy t)).toNat (jR (d ((ai t)[0]'(jy t)).toNat) (ai t) t))/\jG w (a ((ai t)[0]'(jy t)).toNat) v')/\aN (fun k=>k=b\/(a ((ai t)[0]'(jy t)).toNat).ownBlock=some k) w w'):=fun W f=>
  (BH base W b a d (S.below f) (ai t) t (jy t) m n (Q7 s f.size)).mono fun e w' ⟨h1,⟨v',h2,h4⟩,h3⟩=>⟨h1,⟨v',h2,fun g u=>(h4 g u).imp id (Q7 f.size)⟩,(aN.gj f).trans h3⟩
 have x:¬(4096:Int)<(t.size:Int):=by omega
 clear S m n T;generalize ((ai t)[0]'(jy t)).toNat=c at*;generalize ai t=hh at*;go_enter func117,ntmps117
 go_wp2_with fail
 refine r.out.mono ?_;rintro e w1 ⟨rfl,h⟩;have j:=i.out w1 h;have l:=aa j;clear h j i;go_wp2_with fail
 refine l.out.mono ?_;rintro e w2 ⟨rfl,o,p⟩;have q:Hid ((∃v',bP base w2 b (aU a c v') (aK d c (jR (d c) hh t))/\jG w (a c) v')/\aN (fun k=>k=b\/(a c).ownBlock=some k) w w2):=⟨o,p⟩
 clear o p l;go_wp2_with fail
 go_ret2
 exact⟨rfl,q.out⟩
def kE(a:Nat->List (yB×yB)):Nat->Nat
 | 0=>0
 |c+1=>kE a c+(a c).length
theorem yC (sh : Nat → List (ByteArray × ByteArray)) : ∀ c d, c ≤ d → kE sh c ≤ kE sh d
  | c, 0, h => by obtain rfl : c = 0 := by omega
                  exact Nat.le_refl _
  | c, d + 1, h => by
    by_cases e : c = d + 1
    · rw [e]; exact Nat.le_refl _
    · have := yC sh c d (by omega)
      show _ ≤ kE sh d + (sh d).length
      omega
theorem Lm(w):Calls yP 10 #[] w fun e w'=>e=rV (pV (qA w.heap.size))/\w'=w.alloc (.cells (iL fun _=>lV none 0 0) 71):=by
 go_enter func10,ntmps10
 go_wp2_with fail
 go_ret
 exact⟨rfl,rfl⟩
def cY(a:Nat->List (yB×yB)):Nat->List (yB×yB)
 | 0=>[]
 |c+1=>cY a c++a c
theorem zS(a:Nat->List (yB×yB)):∀c,(cY a c).length=kE a c
 | 0=>rfl
 |c+1=>by show(cY a c++a c).length=kE a c+_;rw[Q4,zS a c]
theorem ri.below{w W b c a cap d}(S:ri w b c a cap d)(h:yW w W):ri W b c a cap d:=
 ⟨dC h S.cell,fun k p f=>by obtain⟨g,e,c1,c2⟩:=S.at_ k p f;exact⟨g,e,dC h c1,dC h c2⟩⟩
theorem Ls(base:Nat)(w)(b:Nat)(vs)(d:Nat->List (yB×yB))(S:bP base w b vs d)(D:kE d 256<4000000000000):
 Calls yP 40 #[pV (qA b)] w fun e w'=>(∃v,e=rV v/\w'.ownsRow w.heap.size 9 1 v (kE d 256) (jg (cY d 256)))/\yW w w':=by
 have J:Hid (∀c,c<256->∃a cap,(∀W,yW w W->ri W b c a cap (d c))/\kE d c+(d c).length<4000000000000):=fun c hc=>by
  obtain⟨a,cap,_,Y⟩:=S.kx c hc;have:=yC d (c+1) 256 (by omega);exact⟨a,cap,fun W h=>Y.below h,Nat.lt_of_le_of_lt this D⟩
 have U:Hid (∀c j p,(d c)[j]? =some p->jg (cY d c++(d c).take (j+1))=jg (cY d c++(d c).take j)++[sV p.1]):=fun c j p o=>by
  rw[Sx,o];show List.map _ (cY d c++((d c).take j++[p]))=_;rw[<-Rn,R9];rfl
 have X:Hid (∀c,jg (cY d c++(d c).take 0)=jg (cY d c)):=fun c=>by rw[List.take_zero,Rz]
 have L:Hid (∀c,jg (cY d c++(d c).take (d c).length)=jg (cY d (c+1))):=fun c=>by rw[SG];rfl
 obtain⟨i0,A1,A5,A6,A7⟩:=Sf NX;clear S D;go_enter func40,ntmps40
 go_wp2_with fail
 go_loopg [3,4] 256 (fun g v r wr=>∃i n:Nat,g=256 - i/\i<=256/\r=iV .i64 i/\Hid (n=kE d i)/\Hid (wr.ownsRow w.heap.size 9 1 v n (jg (cY d i)))/\Hid (yW w wr))
 case atStart=>exact⟨0,0,rfl,by omega,rfl,rfl,RO _ _ _ _,Q1 _ _⟩
 case round=>
  obtain⟨i,n,l,hi,rfl,q,s,y⟩:=hrel;have O:=aa l;clear l;by_cases A3:i<256
  ·obtain⟨a,cap,x,C⟩:=J.out i A3;have A9:n+(d i).length<4000000000000:=by rw[q.out];exact C
   have R:Hid (n+(d i).length=kE d (i+1)):=by show _=_;rw[q.out];rfl
   have z:=X.out i;rw[<-z] at s;have N:=aa (L.out i);have K:Hid (∀W,yW w W->W.cell? ⟨b,i,none⟩=some (lV a (d i).length cap)):=fun W h=>(x W h).cell
   have Q:Hid (∀j,j<(d i).length->∃p g,(a=some ⟨g,0,none⟩/\∀W,yW w W->W.cell? ⟨g,j*2,none⟩=some (sV p))/\jg (cY d i++(d i).take (j+1))=jg (cY d i++(d i).take j)++[sV p]):=fun j t=>by
    have o:(d i)[j]? =some ((d i)[j]'t):=QV t;obtain⟨g,e,c1,_⟩:=(x w (Q1 _ _)).at_ j _ o;exact⟨_,g,⟨e,fun W h=>dC h c1⟩,U.out i j _ o⟩
   have A8:(i:Int)<256:=by omega
   clear x C z;generalize (d i).length=M at*;go_wp2_with fail
   go_loopg [3,5] M (fun g v r H=>∃j:Nat,g=M - j/\j<=M/\r=iV .i64 j/\Hid (H.ownsRow w.heap.size 9 1 v (n+j) (jg (cY d i++(d i).take j)))/\Hid (yW w H))
   case atStart=>exact⟨0,rfl,by omega,rfl,s,y⟩
   case round=>
    obtain⟨j,l,t,rfl,m,f⟩:=hrel;have P:=aa l;have d0:=K.out wr f.out;clear l;by_cases u:j<M
    ·obtain⟨p,g,⟨rfl,A⟩,F⟩:=Q.out j u;have r1:=A wr f.out;have A2:(j:Int)<(M:Int):=by omega
     have A4:=f.out.size;have V:=aa F;clear F A;go_wp2_with (at_builtin;refine RG _ rfl (.tmp 21) (.tmp 32) 63 rfl w.heap.size 9 i0 (sV ⟨#[]⟩) 1 16 underlying63 A1 A5 A6 A7 rfl (by decide) _ (n+j) (jg (cY d i++(d i).take j)) rfl (m.out.alloc _) ⟨wr.heap.size,0,none⟩ 1 1 [sV p] rfl rfl (So _ _ _) ?c2 (by omega) ?c3 ?c4 ?c5 _ rfl ?c6)
     case c2=>intro v G;simp at G;subst G;rfl
     case c3=>unfold maxLen;omega
     case c4=>omega
     case c5=>simp;omega
     intro g2 Z w2 E B A0 u;have T:Hid (w2.ownsRow w.heap.size 9 1 (lV (qA g2) (n+j+1) Z) (n+(j+1)) (jg (cY d i++(d i).take (j+1)))):=by
      show World.ownsRow _ _ _ _ _ _ _;rw[V.out];exact E
     have I:Hid (yW w w2):=(f.out.alloc A4 _).grown B (by simp;omega) (fun k hk=>(m.out.lt k hk).1);clear E B A0 u;go_wp2_with fail
     go_roundg (M - (j+1))
     case measure=>have:=P.out;omega
     case rel=>exact⟨j+1,rfl,by omega,by go_num,T,I⟩
    ·obtain rfl:j=M:=by omega
     have A2:¬(j:Int)<(j:Int):=by omega
     rw[N.out] at m;go_wp2_with fail
     go_roundg (256 - (i+1))
     case measure=>have:=O.out;omega
     case rel=>exact⟨i+1,n+j,rfl,by omega,by go_num,R,m,f⟩
  ·obtain rfl:i=256:=by omega
   go_wp2_with fail
   go_ret
   exact⟨⟨_,rfl,by rw[<-q.out];exact s.out⟩,y.out⟩
theorem vY:∀a:yL,Op.bytesLess a a=false
 | []=>rfl
 |a::x=>by
  unfold Op.bytesLess
  simp[vY x]
theorem Gu:∀a b c:yL,Op.bytesLess a b=true->Op.bytesLess b c=true->Op.bytesLess a c=true
 | _,_,[],_,h=>by unfold Op.bytesLess at h;cases h
 | _,[],_::_,h,_=>by unfold Op.bytesLess at h;cases h
 | [],_::_,_::_,_,_=>rfl
 |a::x,b::y,c::z,h1,h2=>by
  unfold Op.bytesLess at h1 h2⊢
  simp only[Bool.or_eq_true,SD,Sh,beq_iff_eq] at h1 h2⊢
  rcases h1 with h1|⟨rfl,h1⟩
  ·rcases h2 with h2|⟨rfl,_⟩
   ·exact .inl (UInt8.lt_trans h1 h2)
   ·exact .inl h1
  ·rcases h2 with h2|⟨rfl,h2⟩
   ·exact .inl h2
   ·exact .inr ⟨rfl,Gu x y z h1 h2⟩
theorem Gv:∀a b:yL,Op.bytesLess a b=false->Op.bytesLess b a=false->a=b
 | [],[],_,_=>rfl
 | [],_::_,h,_=>by unfold Op.bytesLess at h;cases h
 | _::_,[],_,h=>by unfold Op.bytesLess at h;cases h
 |a::x,b::y,h1,h2=>by
  unfold Op.bytesLess at h1 h2
  simp only[Bool.or_eq_false_iff,decide_eq_false_iff_not] at h1 h2
  have e:=UInt8.le_antisymm (UInt8.not_lt.1 h2.1) (UInt8.not_lt.1 h1.1)
  subst e
  simp only[BEq.rfl,Bool.true_and] at h1 h2
  rw[Gv x y h1.2 h2.2]
theorem M4(a):cC a a=false:=vY _
theorem yA{a b c}(h1:cC a b=true)(h2:cC b c=true):cC a c=true:=Gu _ _ _ h1 h2
theorem ph{a b}(h:cC a b=true):(a.toList == b.toList)=false:=by
 cases e:(a.toList == b.toList) with
 |false=>rfl
 |true=>
  have e1:=eq_of_beq e;unfold cC at h;rw[e1,vY] at h;cases h
theorem qM{a b}(h:cC a b=true):(b.toList == a.toList)=false:=by
 cases e:(b.toList == a.toList) with
 |false=>rfl
 |true=>
  have e1:=eq_of_beq e;unfold cC at h;rw[e1,vY] at h;cases h
theorem DU{a b}(h:cC a b=true):cC b a=false:=by
 cases e:cC b a with
 |false=>rfl
 |true=>have:=yA h e;rw[M4] at this;cases this
def fh(a:List (yB×yB)):Prop:=a.Pairwise fun p q=>cC p.1 q.1=true
theorem fh.down{d}(h:fh d)(x):pR d x:=by
 intro i j p q g c a b;by_cases e:i=j
 ·subst e;rw[c] at a;cases a;exact b
 ·obtain⟨hi,rfl⟩:=Rb.1 c;obtain⟨f,rfl⟩:=Rb.1 a;exact yA (List.pairwise_iff_getElem.1 h i j hi f (by omega)) b
theorem xX:∀(A B) (h),(∀p∈A,cC p.1 h=true)->aZ (A++B) h=A.length+aZ B h
 | [],B,h,_=>by simp
 |p::A,B,h,ha=>by
  show(if cC p.1 h then aZ (A++B) h+1 else 0)=_
  rw[QX (ha p (QY ..)),xX A B h fun q a=>ha q (QZ _ a)]
  simp;omega
theorem xW:∀(A B) (h),(∀p∈B,cC p.1 h=false)->aZ (A++B) h=aZ A h
 | [],[],h,_=>rfl
 | [],p::B,h,hb=>by
  show aZ (p::B) h=0
  unfold aZ
  rw[hb p (QY ..)];rfl
 |p::A,B,h,hb=>by
  show aZ (p::(A++B)) h=aZ (p::A) h
  unfold aZ
  rw[xW A B h hb]
theorem o7:∀(A) (h:yB),(∀p∈A,(p.1.toList == h.toList)=false)->others A h=A:=fun A h a=>by
 unfold others
 rw[List.filter_eq_self]
 intro p b
 rw[a p b];rfl
theorem Na(A S B h t)(d:∀p∈A,cC p.1 h=true)(e:∀p∈B,cC h p.1=true):eO (A++S++B) h t=A++eO S h t++B:=by
 have e1:others (A++S++B) h=A++others S h++B:=by
  have b:=o7 A h fun p a=>ph (d p a)
  have c:=o7 B h fun p a=>qM (e p a)
  unfold others at b c⊢;rw[SI,SI,b,c]
 have e2:aZ (A++others S h++B) h=A.length+aZ (others S h) h:=by
  rw[xW _ B h fun p a=>DU (e p a),xX A _ h d]
 have f:=sq (others S h) h;unfold eO;rw[e1,e2];generalize aZ (others S h) h=k at*;generalize others S h=O at*;rw[Rn A O B,List.take_length_add_append,List.drop_length_add_append,List.take_append_of_le_length f,List.drop_append_of_le_length f];simp
theorem LH(A S B h)(d:∀p∈A,cC p.1 h=true)(e:∀p∈B,cC h p.1=true):others (A++S++B) h=A++others S h++B:=by
 have b:=o7 A h fun p a=>ph (d p a)
 have c:=o7 B h fun p a=>qM (e p a)
 unfold others at b c⊢;rw[SI,SI,b,c]
theorem oY:∀(S:List (yB×yB)) (h) (p:yB×yB),p∈S.take (aZ S h)->cC p.1 h=true
 | [],h,p,a=>by simp at a
 |q::S,h,p,a=>by
  rw[show aZ (q::S) h=if cC q.1 h then aZ S h+1 else 0 from rfl] at a
  cases e:cC q.1 h with
  |false=>rw[e] at a;simp at a
  |true=>
   rw[e,QX rfl,List.take_succ_cons] at a
   rcases Rh.1 a with rfl|a
   ·exact e
   ·exact oY S h p a
theorem Cn:∀(S:List (yB×yB)) (h) (p:yB×yB),S[aZ S h]? =some p->cC p.1 h=false
 | [],h,p,hp=>by simp at hp
 |q::S,h,p,hp=>by
  rw[show aZ (q::S) h=if cC q.1 h then aZ S h+1 else 0 from rfl] at hp
  cases e:cC q.1 h with
  |false=>rw[e] at hp;simp at hp;rw[<-hp];exact e
  |true=>
   rw[e,QX rfl,List.getElem?_cons_succ] at hp
   exact Cn S h p hp
theorem fh.after{S}(r:fh S){k q p}(d:S[k]? =some q)(c:p∈S.drop (k+1)):cC q.1 p.1=true:=by
 obtain⟨b,rfl⟩:=Rb.1 d;obtain⟨j,a,rfl⟩:=List.mem_iff_getElem.1 c;rw[List.getElem_drop];rw[Q8] at a;exact List.pairwise_iff_getElem.1 r k (k+1+j) b (by omega) (by omega)
theorem fh.high{S}(r:fh S){h}(c:eE S h=false){p}(b:p∈S.drop (aZ S h)):cC h p.1=true:=by
 rcases Nat.lt_or_ge (aZ S h) S.length with a|a
 ·have d:S[aZ S h]? =some (S[aZ S h]'a):=QV a;have h1:=Cn S h _ d;have h2:((S[aZ S h]'a).1.toList == h.toList)=false:=by unfold eE at c;rw[d] at c;exact c
  have h3:cC h (S[aZ S h]'a).1=true:=by
   cases e:cC h (S[aZ S h]'a).1 with
   |true=>rfl
   |false=>
    have:=Gv _ _ h1 e;rw[this] at h2;simp at h2
  rw[RF a] at b;rcases Rh.1 b with rfl|b
  ·exact h3
  ·exact yA h3 (r.after d b)
 ·rw[List.drop_eq_nil_of_le a] at b;cases b
theorem fh.ED{S}(r:fh S){h}(a:eE S h=true){p}(b:p∈S.drop (aZ S h+1)):cC h p.1=true:=by
 obtain⟨q,c,e⟩:=sP a;have:=r.after c b;unfold cC at this⊢;rw[<-eq_of_beq e];exact this
theorem yY{S h}(b:eE S h=true):∃q,S=S.take (aZ S h)++[q]++S.drop (aZ S h+1)/\S[aZ S h]? =some q/\(q.1.toList == h.toList)=true:=by
 obtain⟨q,a,e⟩:=sP b;obtain⟨c,rfl⟩:=Rb.1 a;refine⟨_,?_,a,e⟩;rw[Rn,List.singleton_append,<-RF c,Su]
theorem fh.CT{S}(r:fh S){h}(f:eE S h=true):others S h=S.take (aZ S h)++S.drop (aZ S h+1):=by
 obtain⟨q,g,_,e⟩:=yY f;have b:=o7 (S.take (aZ S h)) h fun p a=>ph (oY S h p a)
 have c:=o7 (S.drop (aZ S h+1)) h fun p a=>qM (r.ED f a)
 have d:others [q] h=[]:=by unfold others;simp[eq_of_beq e]
 have:others S h=others (S.take (aZ S h)++[q]++S.drop (aZ S h+1)) h:=by rw[<-g]
 rw[this];unfold others at b c d⊢;rw[SI,SI,b,c,d,Rz]
theorem fh.LG{S}(r:fh S){h}(b:eE S h=false):others S h=S:=o7 S h fun p a=>by
 rw[<-Su (aZ S h) S] at a
 rcases Re.1 a with a|a
 ·exact ph (oY S h p a)
 ·exact qM (r.high b a)
theorem fh.BJ{S}(r:fh S)(h t):jR S h t=eO S h t:=by
 cases hh:eE S h with
 |false=>
  unfold jR eO;rw[r.LG hh,hh];rfl
 |true=>
  obtain⟨q,e,d,_⟩:=yY hh;have c:=(Rb.1 d).1;have a:(S.take (aZ S h)).length=aZ S h:=by rw[Rs];omega
  have e2:aZ (S.take (aZ S h)++S.drop (aZ S h+1)) h=aZ S h:=by
   rw[xX _ _ h fun p b=>oY S h p b,a];have:=xW [] (S.drop (aZ S h+1)) h fun p b=>DU (r.ED hh b)
   rw[SF] at this;rw[this];rfl
  unfold jR eO;rw[r.CT hh,e2,hh,QX rfl];have e3:(S.take (aZ S h)++S.drop (aZ S h+1)).take (aZ S h)=S.take (aZ S h):=List.take_left' a;have e4:(S.take (aZ S h)++S.drop (aZ S h+1)).drop (aZ S h)=S.drop (aZ S h+1):=List.drop_left' a;rw[e3,e4,List.set_eq_take_append_cons_drop,QX c];simp
theorem fh.FG{S}(r:fh S){h}(a:eE S h=true):S.eraseIdx (aZ S h)=others S h:=by
 rw[r.CT a,List.eraseIdx_eq_take_drop_succ]
theorem sG:∀(A B) (h:yB),(∀p∈A,(p.1.toList == h.toList)=false)->ae (A++B) h=ae B h
 | [],_,_,_=>rfl
 |p::A,B,h,ha=>by
  show(if(p.1.toList == h.toList) then some p.2 else ae (A++B) h)=_
  rw[ha p (QY ..)]
  exact sG A B h fun q a=>ha q (QZ _ a)
theorem DM(A)(h:yB)(a:∀p∈A,(p.1.toList == h.toList)=false):ae A h=none:=by
 have:=sG A [] h a;rw[Rz] at this;exact this
theorem DL:∀(A B) (h t),ae A h=some t->ae (A++B) h=some t
 | [],_,_,_,e=>by cases e
 |p::A,B,h,t,e=>by
  show(if(p.1.toList == h.toList) then some p.2 else ae (A++B) h)=_
  have e':(if(p.1.toList == h.toList) then some p.2 else ae A h)=some t:=e
  cases c:(p.1.toList == h.toList) with
  |true=>rw[c] at e';exact e'
  |false=>rw[c] at e';exact DL A B h t e'
theorem fh.DK{S}(_:fh S){h}(c:eE S h=true){q}(f:S[aZ S h]? =some q):ae S h=some q.2:=by
 obtain⟨g,b,a,e⟩:=yY c;rw[f] at a;cases a;have:ae S h=ae (S.take (aZ S h)++([q]++S.drop (aZ S h+1))) h:=by rw[<-Rn,<-b]
 rw[this,sG _ _ h fun p d=>ph (oY S h p d)];show(if(q.1.toList == h.toList) then some q.2 else _)=_;rw[e];rfl
theorem fh.DJ{S}(r:fh S){h}(b:eE S h=false):ae S h=none:=DM S h fun p a=>by
 rw[<-Su (aZ S h) S] at a
 rcases Re.1 a with a|a
 ·exact ph (oY S h p a)
 ·exact qM (r.high b a)
theorem MX(A S B h)(ha:∀p∈A,cC p.1 h=true)(hb:∀p∈B,cC h p.1=true):ae (A++S++B) h=ae S h:=by
 rw[Rn,sG A _ h fun p hp=>ph (ha p hp)];cases e:ae S h with
 |some t=>exact DL S B h t e
 |none=>
  have hn:∀(S:List (yB×yB)),ae S h=none->∀p∈S,(p.1.toList == h.toList)=false:=by
   intro S;induction S with
   |nil=>intro _ p hp;cases hp
   |cons q S ih=>
    intro e p hp;have e':(if(q.1.toList == h.toList) then some q.2 else ae S h)=none:=e;cases c:(q.1.toList == h.toList) with
    |true=>rw[c] at e';cases e'
    |false=>
     rw[c] at e';rcases Rh.1 hp with rfl|hp
     ·exact c
     ·exact ih e' p hp
  rw[sG S B h (hn S e)];exact DM B h fun p hp=>qM (hb p hp)
theorem fh.others{S}(r:fh S)(h):fh (others S h):=List.Pairwise.filter _ r
theorem fh.laid{S}(r:fh S)(h t):fh (eO S h t):=by
 have c:=r.others h;have i:∀p∈Go.Proofs.YtiimkkahmpmhdaaGreatDoor.others S h,(p.1.toList == h.toList)=false:=fun p a=>by
  unfold Go.Proofs.YtiimkkahmpmhdaaGreatDoor.others at a;simpa using(List.mem_filter.1 a).2
 unfold eO;generalize Go.Proofs.YtiimkkahmpmhdaaGreatDoor.others S h=O at*;have d:eE O h=false:=by
  cases e:eE O h with
  |false=>rfl
  |true=>
   obtain⟨q,b,e2⟩:=sP e;have:=i q (Rv b);rw[e2] at this;cases this
 have g:=oY O h;have f:=fun p a=>c.high (p:=p) d a
 have rs:=c;rw[<-Su (aZ O h) O] at rs;generalize aZ O h=k at*;unfold fh at rs⊢;rw[List.pairwise_append] at rs;rw[List.pairwise_append,List.pairwise_append];refine⟨⟨rs.1,List.pairwise_singleton _ _,fun p a q b=>?_⟩,rs.2.1,fun p a q b=>?_⟩
 ·simp at b;subst b;exact g p a
 ·rcases Re.1 a with a|a
  ·exact rs.2.2 p a q b
  ·simp at a;subst a;exact f q b
theorem DT{a b:yB}(ha:0<a.size)(hb:0<b.size)(h:(a[0]'ha).toNat<(b[0]'hb).toNat):cC a b=true:=by
 unfold cC;rw[Lib.toList_data,Lib.toList_data];obtain⟨⟨x⟩⟩:=a;obtain⟨⟨y⟩⟩:=b;cases x with
 |nil=>exact absurd ha (by decide)
 |cons u x=>
  cases y with
  |nil=>exact absurd hb (by decide)
  |cons v y=>
   show Op.bytesLess (u::x) (v::y)=true;have h':u<v:=UInt8.lt_iff_toNat_lt.2 h;unfold Op.bytesLess;simp[h']
structure iJ(sh:Nat->List (yB×yB)):Prop where
 jd:∀c,fh (sh c)
 key:∀c p,p∈sh c->∃hs:0<p.1.size,(p.1[0]'hs).toNat=c
def kH(a:Nat->List (yB×yB))(d:Nat):Nat->List (yB×yB)
 | 0=>[]
 |n+1=>kH a d n++a (d+n)
theorem tB(a:Nat->List (yB×yB))(c:Nat):∀n,cY a (c+1+n)=cY a c++a c++kH a (c+1) n
 | 0=>by show cY a c++a c=_;simp[kH]
 |n+1=>by
  show cY a (c+1+n)++a (c+1+n)=_++(kH a (c+1) n++a (c+1+n))
  rw[tB a c n,Rn (cY a c++a c)]
theorem GF{a b}:∀n,(∀d,d<n->a d=b d)->cY a n=cY b n
 | 0,_=>rfl
 |n+1,h=>by
  show cY a n++a n=cY b n++b n
  rw[GF n fun d c=>h d (by omega),h n (by omega)]
theorem Fe{a b}(d:Nat):∀n,(∀e,d<=e->a e=b e)->kH a d n=kH b d n
 | 0,_=>rfl
 |n+1,h=>by
  show kH a d n++a (d+n)=kH b d n++b (d+n)
  rw[Fe d n h,h (d+n) (by omega)]
theorem GC(a:Nat->List (yB×yB))(c n:Nat)(S):cY (aK a c S) (c+1+n)=cY a c++S++kH a (c+1) n:=by
 rw[tB];have e1:cY (aK a c S) c=cY a c:=GF c fun d b=>by simp[aK,Nat.ne_of_lt b]
 have e2:kH (aK a c S) (c+1) n=kH a (c+1) n:=Fe _ n fun e f=>by
  have:e≠c:=by omega
  simp[aK,this]
 have e3:aK a c S c=S:=by simp[aK]
 rw[e1,e2,e3]
theorem DG{a p}:∀n,p∈cY a n->∃d,d<n/\p∈a d
 | 0,h=>by cases h
 |n+1,h=>by
  rcases Re.1 h with h|h
  ·obtain⟨d,c,b⟩:=DG n h
   exact⟨d,by omega,b⟩
  ·exact⟨n,by omega,h⟩
theorem DE{a p}(d:Nat):∀n,p∈kH a d n->∃e,d<=e/\p∈a e
 | 0,h=>by cases h
 |n+1,h=>by
  rcases Re.1 h with h|h
  ·exact DE d n h
  ·exact⟨d+n,by omega,h⟩
theorem iJ.low{c}(K:iJ c){h:yB}(b:0<h.size){p}(a:p∈cY c (h[0]'b).toNat):cC p.1 h=true:=by
 obtain⟨d,g,a⟩:=DG _ a;obtain⟨f,e⟩:=K.key d p a;exact DT f b (by omega)
theorem iJ.high{c}(K:iJ c){h:yB}(b:0<h.size){n p}(a:p∈kH c ((h[0]'b).toNat+1) n):cC h p.1=true:=by
 obtain⟨d,g,a⟩:=DE _ _ a;obtain⟨f,e⟩:=K.key d p a;exact DT b f (by omega)
theorem zr(h:yB)(a:0<h.size):∃n,256=(h[0]'a).toNat+1+n:=⟨255 - (h[0]'a).toNat,by have:=(h[0]'a).toNat_lt;omega⟩
theorem iJ.BI{b}(K:iJ b)(h t:yB)(a:0<h.size):cY (aK b (h[0]'a).toNat (jR (b (h[0]'a).toNat) h t)) 256=eO (cY b 256) h t:=by
 obtain⟨n,d⟩:=zr h a;rw[d,GC,tB,Na _ _ _ _ _ (fun p c=>K.low a c) (fun p c=>K.high a c),(K.jd _).BJ]
theorem iJ.OK{b}(K:iJ b)(h:yB)(a:0<h.size)(d:eE (b (h[0]'a).toNat) h=true):cY (aK b (h[0]'a).toNat ((b (h[0]'a).toNat).eraseIdx (aZ (b (h[0]'a).toNat) h))) 256=others (cY b 256) h:=by
 obtain⟨n,e⟩:=zr h a;rw[e,GC,tB,LH _ _ _ _ (fun p c=>K.low a c) (fun p c=>K.high a c),(K.jd _).FG d]
theorem iJ.vo{c}(K:iJ c)(h:yB)(a:0<h.size):ae (cY c 256) h=ae (c (h[0]'a).toNat) h:=by
 obtain⟨n,d⟩:=zr h a;rw[d,tB,MX _ _ _ _ (fun p b=>K.low a b) (fun p b=>K.high a b)]
theorem MM{S h t p}(a:p∈eO S h t):p=(h,t)\/p∈S:=by
 unfold eO at a;rcases Re.1 a with a|a
 ·rcases Re.1 a with a|a
  ·exact .inr (List.mem_filter.1 (List.mem_of_mem_take a)).1
  ·exact .inl (by simpa using a)
 ·exact .inr (List.mem_filter.1 (List.mem_of_mem_drop a)).1
theorem iJ.set{d}(K:iJ d)(h t:yB)(b:0<h.size):iJ (aK d (h[0]'b).toNat (jR (d (h[0]'b).toNat) h t)):=by
 rw[(K.jd _).BJ];refine⟨fun c=>?_,fun c p a=>?_⟩
 ·by_cases e:c=(h[0]'b).toNat
  ·simp only[aK,e,RJ];exact(K.jd _).laid h t
  ·simp only[aK,e,Ry];exact K.jd c
 ·by_cases e:c=(h[0]'b).toNat
  ·simp only[aK,e,RJ] at a;rcases MM a with rfl|a
   ·exact⟨b,e.symm⟩
   ·obtain⟨f,e2⟩:=K.key _ p a;exact⟨f,e2.trans e.symm⟩
  ·simp only[aK,e,Ry] at a;exact K.key c p a
theorem iJ.erase{b}(K:iJ b)(h:yB)(a:0<h.size)(f:eE (b (h[0]'a).toNat) h=true):iJ (aK b (h[0]'a).toNat ((b (h[0]'a).toNat).eraseIdx (aZ (b (h[0]'a).toNat) h))):=by
 rw[(K.jd _).FG f];refine⟨fun c=>?_,fun c p d=>?_⟩
 ·by_cases e:c=(h[0]'a).toNat
  ·simp only[aK,e,RJ];exact(K.jd _).others h
  ·simp only[aK,e,Ry];exact K.jd c
 ·by_cases e:c=(h[0]'a).toNat
  ·simp only[aK,e,RJ] at d;obtain⟨g,e2⟩:=K.key _ p (List.mem_filter.1 d).1;exact⟨g,e2.trans e.symm⟩
  ·simp only[aK,e,Ry] at d;exact K.key c p d
def bW(b:Nat)(a:Nat->Value)(k:Nat):Prop:=k=b\/∃c,c<256/\(a c).ownBlock=some k
def fR(base:Nat)(w:World)(b:Nat)(c:Nat->Value)(a:List (yB×yB)):Prop:=∃sh,bP base w b c sh/\iJ sh/\cY sh 256=a
def dv(base:Nat)(w w':World)(b:Nat)(a:Nat->Value)(d:List (yB×yB)):Prop:=
 ∃vs',fR base w' b vs' d/\(∀c,c<256->jG w (a c) (vs' c))/\aN (bW b a) w w'
theorem aN.weaken{T T' w w'}(h:aN T w w')(c:∀k,T k->T' k):aN T' w w':=
 ⟨h.os,h.tape,h.output,h.size,fun q b a=>h.block q b fun d=>a (c q d)⟩
theorem ys(b:Nat)(a)(c:Nat)(d:c<256)(k:Nat)(h:k=b\/(a c).ownBlock=some k):bW b a k:=h.imp id fun e=>⟨c,d,e⟩
theorem xE(w a)(c:Nat)(b)(h:jG w (a c) b):∀d,d<256->jG w (a d) (aU a c b d):=fun d _=>by
 by_cases e:d=c
 ·subst e;simp only[aU,RJ];exact h
 ·simp only[aU,e,Ry];exact fun g f=>.inl f
theorem ux(a:Nat->List (yB×yB))(c:Nat)(b:c<256):(a c).length<=(cY a 256).length:=by
 rw[zS];have:kE a c+(a c).length<=kE a 256:=yC a (c+1) 256 (by omega);omega
theorem KT(base:Nat)(w)(b:Nat)(g c)(S:fR base w b g c)(h:yB)(k:c.length<4000000000000):
 Calls yP 119 #[pV (qA b),sV h] w fun e w'=>e=rV (tV #[sV (oA c h),iV .i64 (jZ c h)])/\∃n,w'=w.drewN n:=by
 by_cases h32:h.size=32
 ·obtain⟨d,P,K,rfl⟩:=S;have a:0<h.size:=by omega
  have i:(h[0]'a).toNat<256:=(h[0]'a).toNat_lt;refine(Lu base w b g d P h h32 a ((K.jd _).down h) (Nat.lt_of_le_of_lt (ux d _ i) k)).mono ?_;rintro e w' ⟨j,m⟩;refine⟨?_,m⟩;rcases j with⟨f,rfl⟩|⟨f,p,l,rfl⟩
  ·obtain⟨e1,e2⟩:=EX (cY d 256) h h32 ((K.vo h a).trans ((K.jd _).DJ f));rw[e1,e2]
  ·obtain⟨e1,e2⟩:=EW (cY d 256) h p.2 h32 ((K.vo h a).trans ((K.jd _).DK f l));rw[e1,e2]
 ·obtain⟨e1,e2⟩:=EY c h h32;rw[e1,e2];exact(Lt w b h h32).mono fun e w' ⟨h1,h2⟩=>⟨h1,0,h2⟩
theorem KI(base:Nat)(w)(b:Nat)(f c)(S:fR base w b f c)(h:yB)(m:c.length<4000000000000):
 Calls yP 41 #[pV (qA b),sV h] w fun e w'=>e=rV (iV .i64 (jZ c h))/\((jZ c h≠0/\∃n,w'=w.drewN n)\/(jZ c h=0/\dv base w w' b f (others c h))):=by
 by_cases h32:h.size=32
 ·obtain⟨i,P,K,rfl⟩:=S;have a:0<h.size:=by omega
  have k:(h[0]'a).toNat<256:=(h[0]'a).toNat_lt;refine(Lo base w b f i P h h32 a ((K.jd _).down h) (Nat.lt_of_le_of_lt (ux i _ k) m)).mono ?_;rintro e w' (⟨d,rfl,j⟩|⟨d,rfl,⟨s,o,r⟩,j⟩)
  ·obtain⟨_,e2⟩:=EX (cY i 256) h h32 ((K.vo h a).trans ((K.jd _).DJ d));rw[e2];exact⟨rfl,.inl ⟨by decide,j⟩⟩
  ·obtain⟨p,q,_⟩:=sP d;obtain⟨_,e2⟩:=EW (cY i 256) h p.2 h32 ((K.vo h a).trans ((K.jd _).DK d q));rw[e2];exact⟨rfl,.inr ⟨rfl,_,⟨_,o,K.erase h a d,K.OK h a d⟩,xE w f _ s (fun g l=>.inl (r▸l)),j.weaken (ys b f _ k)⟩⟩
 ·obtain⟨_,e2⟩:=EY c h h32;rw[e2];exact(Ln w b h h32).mono fun e w' ⟨h1,h2⟩=>⟨h1,.inl ⟨by decide,0,h2⟩⟩
theorem KJ(base:Nat)(w)(b:Nat)(c d)(S:fR base w b c d)(h t:yB)(l:d.length<4000000000000)(j:base<=w.heap.size):
 Calls yP 42 #[pV (qA b),sV h,sV t] w fun e w'=>
  (h.size≠32/\e=rV (iV .i64 2)/\w'=w)\/(h.size=32/\4096<t.size/\e=rV (iV .i64 1)/\w'=w)\/(h.size=32/\t.size<=4096/\e=rV (iV .i64 0)/\dv base w w' b c (eO d h t)):=by
 by_cases h32:h.size=32
 ·by_cases g:4096<t.size
  ·exact(Lp w b h t h32 g).mono fun e w' ⟨h1,h2⟩=>.inr (.inl ⟨h32,g,h1,h2⟩)
  ·obtain⟨i,P,K,rfl⟩:=S;have a:0<h.size:=by omega
   have f:(h[0]'a).toNat<256:=(h[0]'a).toNat_lt;refine(Lr base w b c i P h t h32 a (by omega) ((K.jd _).down h) (Nat.lt_of_le_of_lt (ux i _ f) l) j).mono ?_;rintro e w' ⟨k,⟨p,m,n⟩,o⟩;exact .inr (.inr ⟨h32,by omega,k,_,⟨_,m,K.set h t a,K.BI h t a⟩,xE w c _ p n,o.weaken (ys b c _ f)⟩)
 ·exact(Lq w b h t h32).mono fun e w' ⟨h1,h2⟩=>.inl ⟨h32,h1,h2⟩
theorem KG(base:Nat)(w)(b:Nat)(a d)(S:fR base w b a d)(T:az w)(t:yB)(k:d.length<4000000000000)(i:base<=w.heap.size):
 Calls yP 117 #[pV (qA b),sV t] w fun e w'=>
  (4096<t.size/\e=rV (tV #[sV ⟨#[]⟩,iV .i64 1])/\w'=w)\/(t.size<=4096/\e=rV (tV #[sV (ai t),iV .i64 0])/\dv base w w' b a (eO d (ai t) t)):=by
 by_cases g:4096<t.size
 ·exact(Lk w b t g).mono fun e w' ⟨h1,h2⟩=>.inl ⟨g,h1,h2⟩
 ·obtain⟨h,P,K,rfl⟩:=S;have c:=jy t;have f:((ai t)[0]'c).toNat<256:=((ai t)[0]'c).toNat_lt;refine(Ll base w b a h P T t (by omega) ((K.jd _).down _) (Nat.lt_of_le_of_lt (ux h _ f) k) i).mono ?_;rintro e w' ⟨j,⟨o,l,m⟩,n⟩;exact .inr ⟨by omega,j,_,⟨_,l,K.set _ t c,K.BI _ t c⟩,xE w a _ o m,n.weaken (ys b a _ f)⟩
theorem KS(base:Nat)(w)(b:Nat)(d a)(S:fR base w b d a)(c:a.length<4000000000000):
 Calls yP 40 #[pV (qA b)] w fun e w'=>(∃v,e=rV v/\w'.ownsRow w.heap.size 9 1 v a.length (jg a))/\yW w w':=by
 obtain⟨f,P,K,rfl⟩:=S;rw[zS] at c⊢;exact Ls base w b d f P c
theorem GD:∀n,cY (fun _=>[]) n=[]
 | 0=>rfl
 |n+1=>by show cY (fun _=>[]) n++[]=[];rw[GD n];rfl
theorem Nq:iJ (fun _=>[]):=⟨fun _=>List.Pairwise.nil,fun _ _ h=>by cases h⟩
theorem KF(base:Nat)(w:World):fR base (w.alloc (.cells (iL fun _=>lV none 0 0) 71)) w.heap.size (fun _=>lV none 0 0) []:=
 ⟨fun _=>[],⟨Rl w _,fun _ _=>RO _ _ _ _,fun _ _ _ _ _ h _=>by simp[Value.ownBlock] at h,fun _ _ _ h=>by simp[Value.ownBlock] at h⟩,Nq,GD 256⟩
theorem so(base:Nat)(w):Calls yP 10 #[] w fun e w'=>e=rV (pV (qA w.heap.size))/\fR base w' w.heap.size (fun _=>lV none 0 0) []/\yW w w':=
 (Lm w).mono fun e w' ⟨h1,h2⟩=>⟨h1,by rw[h2];exact KF base w,by rw[h2];exact(Q1 _ _).alloc (QU _) _⟩
theorem fR.kept{base}{w w':World}{b a f}(S:fR base w b a f)(h:∀k,bW b a k->w'.heap[k]? =w.heap[k]?):fR base w' b a f:=by
 obtain⟨j,P,K,e⟩:=S;exact⟨j,⟨(h b (.inl rfl)).trans P.ah,fun c d=>cK (P.own c d) fun g i=>h g (.inr ⟨c,d,i⟩),P.sep,P.ff⟩,K,e⟩
theorem fR.dQ{base w b a e}(S:fR base w b a e)(k:Nat)(h:bW b a k):k<w.heap.size:=by
 obtain⟨f,P,_,_⟩:=S;rcases h with rfl|⟨c,d,h⟩
 ·exact(Q0.1 P.ah).1
 ·exact((P.own c d).lt k h).2
theorem dv.refl{base w b a c}(h:fR base w b a c):dv base w w b a c:=⟨a,h,fun _ _ _ hg=>.inl hg,⟨rfl,rfl,rfl,QU _,fun _ _ _=>rfl⟩⟩
theorem dv.kept{base w w' b a e}(h:dv base w w' b a e)(x:Nat)(d:x<w.heap.size)(c:¬bW b a x):w'.heap[x]? =w.heap[x]? :=by
 obtain⟨_,_,_,h3⟩:=h;exact h3.block x d c
theorem dv.size{base w w' b c a}(h:dv base w w' b c a):w.heap.size<=w'.heap.size:=by
 obtain⟨_,_,_,h3⟩:=h;exact h3.size
theorem dv.trans{base w w1 w2 b f i n l}(h1:fR base w1 b i n)(h2:∀c,c<256->jG w (f c) (i c))(h3:aN (bW b f) w w1)(k:dv base w1 w2 b i l):dv base w w2 b f l:=by
 obtain⟨o,k1,k2,k3⟩:=k;refine⟨o,k1,fun c a g d=>?_,⟨k3.os.trans h3.os,k3.tape.trans h3.tape,k3.output.trans h3.output,Q7 h3.size k3.size,fun x j e=>?_⟩⟩
 ·rcases k2 c a g d with h|h
  ·exact h2 c a g h
  ·exact .inr (Q7 h3.size h)
 ·rw[k3.block x (Q6 j h3.size) fun m=>?_,h3.block x j e];rcases m with rfl|⟨c,a,d⟩
  ·exact e (.inl rfl)
  ·rcases h2 c a x d with h|h
   ·exact e (.inr ⟨c,a,h⟩)
   ·omega
theorem dv.below{base w w1 w2 b c a}(h:dv base w w1 b c a)(k:yW w1 w2):dv base w w2 b c a:=by
 obtain⟨e,h1,h2,h3⟩:=h;exact dv.trans h1 h2 h3 ⟨e,h1.kept fun q d=>k.block q (h1.dQ q d),fun _ _ _ hg=>.inl hg,aN.gj k⟩
theorem Dd{w b e f}(h2:∀c,c<256->jG w (e c) (f c)){x}(j:x<w.heap.size)(d:¬bW b e x):¬bW b f x:=fun i=>by
 rcases i with rfl|⟨c,a,g⟩
 ·exact d (.inl rfl)
 ·rcases h2 c a x g with h|h
  ·exact d (.inr ⟨c,a,h⟩)
  ·omega
def ig(c:yL)(a:Bool):List yL:=if a=true\/32<=c.length then [c] else []
def Nd.oe:Nd->Nd
 | .ext _ _ k=>k
 | _=>.nil
def Nd.po:Nd->Nat->Nd
 | .branch _ _ ks=>ks
 | _=>fun _=>.nil
def bY:Nd->Bool->List yL
 | .leaf h p v,top=>ig (Nd.leaf h p v).code top
 | .ext h p k,top=>bY k false++ig (Nd.ext h p k).code top
 | .branch h v ks,top=>(List.range 16).flatMap (fun i=>bY (ks i) false)++ig (Nd.branch h v ks).code top
 | _,_=>[]
def dt(a:List (yB×yB))(l:List yL):List (yB×yB):=l.foldl (fun a c=>eO a (ai (str c)) (str c)) a
theorem yG(c)(a b:List yL):dt c (a++b)=dt (dt c a) b:=List.foldl_append
theorem yF(a h t):(eO a h t).length<=a.length+1:=by
 unfold eO;have h1:=nR a h;have h2:=sq (others a h) h;simp only[Q4,Rs,Q8,Ro,List.length_nil];omega
theorem DZ:∀(l:List yL) (a),(dt a l).length<=a.length+l.length
 | [],a=>QU _
 |c::l,a=>by
  have h1:=DZ l (eO a (ai (str c)) (str c))
  have h2:=yF a (ai (str c)) (str c)
  show(dt _ l).length<=_
  simp only[Ro]
  omega
theorem Dv(n:Nat):(List.range n).flatMap (fun _=>bY .nil false)=[]:=by
 induction n with
 |zero=>rfl
 |succ n ih=>rw[List.range_succ,List.flatMap_append,ih];rfl
theorem My{t:Nd}(b:t.read)(a:Bool):bY t a=(bY t.oe false++(List.range 16).flatMap (fun i=>bY (t.po i) false))++ig t.code a:=by
 cases t with
 |nil=>exact b.elim
 |unread _=>exact b.elim
 |leaf h p v=>
  show ig _ a=([]++(List.range 16).flatMap (fun _=>bY .nil false))++_;rw[Dv];rfl
 |ext h p k=>
  show bY k false++ig _ a=(bY k false++(List.range 16).flatMap (fun _=>bY .nil false))++_;rw[Dv,Rz]
 |branch h v ks=>rfl
theorem At.Ql{w t S p}(f:At w t S (pV p))(m:t.read):
 ∃(b:Nat) (d:Option Addr) (U:Nat->Option Addr) (j:Nat->Prop) (c:Nat->Nat->Prop),p=some ⟨b,0,Option.none⟩/\S b/\bL w b t (pV d) (fun i=>pV (U i))/\(∀x,j x->S x)/\(∀i x,i<16->c i x->S x)/\At w t.oe j (pV d)/\∀i,i<16->At w (t.po i) (c i) (pV (U i)):=by
 cases t with
 |nil=>exact m.elim
 |unread _=>exact m.elim
 |leaf h q v=>
  obtain⟨b,e,s,B⟩:=f;have a:=e;injection a with a;exact⟨b,Option.none,fun _=>Option.none,fun _=>False,fun _ _=>False,a,s,B,fun _ h=>h.elim,fun _ _ _ h=>h.elim,rfl,fun _ _=>rfl⟩
 |ext h q k=>
  obtain⟨b,n,S',e,s,B,h1,h2⟩:=f;have a:=e;injection a with a;obtain⟨d,rfl⟩:=h2.ptr;exact⟨b,d,fun _=>Option.none,S',fun _ _=>False,a,s,B,fun x g=>(h1 x g).1,fun _ _ _ h=>h.elim,h2,fun _ _=>rfl⟩
 |branch h v ks=>
  obtain⟨b,U,c,e,s,B,l⟩:=f.kids;exact⟨b,Option.none,U,fun _=>False,c,e,s,B,fun _ h=>h.elim,fun i x hi g=>(l.sub i x hi g).1,rfl,fun i hi=>l.at_ i hi⟩
def Fits(a:List (yB×yB))(l:List yL):Prop:=∀l',(∀c∈l',c∈l)->(dt a l').length<4000000000000
theorem Fits.next{d l a b}(h:Fits d l)(e:∀c∈a,c∈l)(f:∀c∈b,c∈l):Fits (dt d a) b:=fun l' i=>by
 rw[<-yG]
 exact h _ fun c g=>(Re.1 g).elim (e c) fun h=>f c (i c h)
theorem Gh{t}(a:aI t)(b:t.read):lR t:=by
 cases t with
 |nil=>exact b.elim
 |unread _=>exact b.elim
 |leaf h p v=>exact nt h p v a.2.2.1 a.2.2.2
 |ext h p k=>exact tm h p k a.2.2.1 a.2.2.2.2
 |branch h v ks=>exact oG h v ks a.2.1 a.2.2
def pO(t:Nd):Prop:=∀(base:Nat) (w:World) (d sb:Nat) (u0 u:Option Addr) (a:Nat->Value) (c:List (yB×yB)) (S:Nat->Prop) (b:Bool),
 eU w d (qA sb) u0->At w t S (pV u)->aI t->bD t->(b=false->cR t)->fR base w sb a c->¬bW sb a d->(∀x,S x->¬bW sb a x)->(∀k,bW sb a k->3<=k)->base<=w.heap.size->3<=base->az w->Fits c (bY t b)->
 Calls yP 82 #[pV (qA d),pV u,bV b] w fun e w'=>e=rV (tV #[])/\dv base w w' sb a (dt c (bY t b))
theorem sK:pO .nil:=by
 intro base w g sb u0 u f d S e _ a _ _ _ b _ _ _ _ _ _ _;have h2:=a;injection h2 with h3;subst h3;have c:=aa (dv.refl b);clear a b;go_enter func82,ntmps82
 go_wp2_with fail
 (try simp only[Exit.inBlock,Exit.then])
 refine Rf (results_none rfl _ _ _) rfl ?_;exact⟨rfl,c.out⟩
theorem M6(h):pO (.unread h):=by
 intro base w k sb u0 u j g S i _ d _ _ _ a _ _ _ _ _ _ _;obtain⟨b,e,f,B⟩:=d;have h2:=e;injection h2 with h3;subst h3;have c:=aa (dv.refl a);have c0:=B.c0;clear a B e f;go_enter func82,ntmps82
 go_wp2_with fail
 (try simp only[Exit.inBlock,Exit.then])
 refine Rf (results_none rfl _ _ _) rfl ?_;exact⟨rfl,c.out⟩
theorem Bb{base w w' b d g}(T:az w)(h:dv base w w' b d g)(h3:∀k,bW b d k->3<=k):az w':=by
 obtain⟨_,_,_,k⟩:=h;have f:=T.size;have c:∀x,x<3->w'.heap[x]? =w.heap[x]? :=fun x i=>k.block x (by omega) fun e=>by have:=h3 x e;omega
 exact⟨Q7 f k.size,fun j a=>(Rd (w:=w) (c 0 (by omega))).trans (T.words j a),fun j a=>(Rd (w:=w) (c 1 (by omega))).trans (T.turns j a),fun j a=>(Rd (w:=w) (c 2 (by omega))).trans (T.sE j a)⟩
theorem DY{k}(D:pO k){base:Nat}{w w1:World}{a sb:Nat}{u0 i:Option Addr}{f:Nat->Value}{g:List (yB×yB)}{S j:Nat->Prop}
 (l:eU w a (qA sb) u0) (t:At w k j (pV i)) (n:∀x,j x->S x) (v:aI k) (o:cR k) (r:¬bW sb f a) (m:∀x,S x->¬bW sb f x) (h3:∀q,bW sb f q->3<=q) (y:3<=base) (F:base<=w.heap.size) (T:az w)
 (b:dv base w w1 sb f g) (B:Fits g (bY k false)):
 Calls yP 82 #[pV (qA a),pV i,bV false] w1 fun e w'=>e=rV (tV #[])/\dv base w w' sb f (dt g (bY k false)):=by
 have s:=Bb T b h3;have A:=b.kept a l.lt r;have u:At w1 k (fun x=>j x/\x<w.heap.size) (pV i):=t.cut.kept fun x d _=>b.kept x d.2 (m x (n x d.1))
 have G:=b.size;obtain⟨E,q1,q2,q3⟩:=b;refine(D base w1 a sb u0 i E g _ false (l.kept A) u v o.loose (fun _=>o) q1 (Dd q2 l.lt r) (fun x d=>Dd q2 d.2 (m x (n x d.1))) (fun q C=>?_) (by omega) y s B).mono fun e w' ⟨h1,h2⟩=>⟨h1,dv.trans q1 q2 q3 h2⟩
 rcases C with rfl|⟨c,p,z⟩
 ·exact h3 q (.inl rfl)
 ·rcases q2 c p q z with h|h
  ·exact h3 q (.inr ⟨c,p,h⟩)
  ·omega
theorem yE (t : Nd) (hr : t.read) (ih0 : pO t.oe) (ihs : ∀ i, i < 16 → pO (t.po i)) : pO t := by
  intro base w tb sb u0 u vs ps S top hT hA hF hL hTg hP hm hS h3 hbs hb3 T hn
  obtain ⟨b, uk, U, S0, Ss, rfl, hSb, B, hs0, hss, hA0, hAs⟩ := hA.Ql hr
  have hF0 : aI t.oe ∧ cR t.oe := by
    cases t with
    | ext h p k => exact ⟨hF.2.2.2.2, hL⟩
    | _ => exact ⟨trivial, trivial⟩
  have hFs : ∀ i, i < 16 → aI (t.po i) ∧ cR (t.po i) := fun i hi => by
    cases t with
    | branch h v ks => exact ⟨hF.2.2 i hi, hL i hi⟩
    | _ => exact ⟨trivial, trivial⟩
  obtain ⟨NK, hNK⟩ : ∃ NK : Nat → List (List UInt8), NK = fun i => bY t.oe false ++ (List.range i).flatMap (fun i => bY (t.po i) false) := ⟨_, rfl⟩
  have hNKs : ∀ i, NK (i + 1) = NK i ++ bY (t.po i) false := fun i => by rw [hNK]; simp only [List.range_succ, List.flatMap_append, List.flatMap_cons, List.flatMap_nil, List.append_nil, List.append_assoc]
  have hparts := My hr top
  have hfin : dt ps (bY t top) = dt (dt ps (NK 16)) (ig t.code top) := by rw [hparts, yG, hNK]
  have hsub : ∀ d j, j + d = 16 → ∀ c ∈ NK j, c ∈ bY t top := fun d => by
    induction d with
    | zero => intro j hj c hc; rw [hparts]; have : j = 16 := by omega
              subst this; rw [hNK] at hc; exact List.mem_append_left _ hc
    | succ d ih => intro j hj c hc; exact ih (j + 1) (by omega) c (by rw [hNKs]; exact List.mem_append_left _ hc)
  have HK0 : Hid (Calls Tryz.prog 82 #[.pointer (some ⟨tb, 0, none⟩), .pointer uk, .bool false] w fun e w' => e = .returned (.tuple #[]) ∧ Hid (dv base w w' sb vs (dt ps (NK 0)))) := by
    have := DY ih0 hT hA0 hs0 hF0.1 hF0.2 hm hS h3 hb3 hbs T (dv.refl hP) (hn.next (a := []) (fun _ h => by cases h) fun c hc => hsub 16 0 rfl c (by rw [show NK 0 = bY t.oe false by rw [hNK]; simp]; exact hc))
    refine this.mono fun e w' ⟨h1, h2⟩ => ⟨h1, ?_⟩
    have h0 : NK 0 = bY t.oe false := by rw [hNK]; simp
    rw [h0]; exact h2
  have HKS : Hid (∀ i, i < 16 → ∀ w1, dv base w w1 sb vs (dt ps (NK i)) → Calls Tryz.prog 82 #[.pointer (some ⟨tb, 0, none⟩), .pointer (U i), .bool false] w1 fun e w' => e = .returned (.tuple #[]) ∧ Hid (dv base w w' sb vs (dt ps (NK (i + 1))))) := fun i hi w1 hw1 => by
    have := DY (ihs i hi) hT (hAs i hi) (fun x hx => hss i x hi hx) (hFs i hi).1 (hFs i hi).2 hm hS h3 hb3 hbs T hw1 (hn.next (hsub (16 - i) i (by omega)) fun c hc => hsub (15 - i) (i + 1) (by omega) c (by rw [hNKs]; exact List.mem_append_right _ hc))
    refine this.mono fun e w' ⟨h1, h2⟩ => ⟨h1, ?_⟩
    rw [hNKs, yG]; exact h2
  have HCL : Hid (∀ w1 ps1, dv base w w1 sb vs ps1 → (w1.heap[b]? = w.heap[b]? ∧ w1.heap[tb]? = w.heap[tb]?) ∧ b < w1.heap.size) := fun w1 ps1 hw1 => ⟨⟨hw1.kept b B.lt (hS b hSb), hw1.kept tb hT.lt hm⟩, Nat.lt_of_lt_of_le B.lt hw1.size⟩
  have HCD : Hid (∀ w1 ps1, dv base w w1 sb vs ps1 → Calls Tryz.prog 116 #[.pointer (some ⟨b, 0, none⟩)] w1 fun e w' => e = .returned (.string (str t.code)) ∧ Hid (dv base w w' sb vs ps1)) := fun w1 ps1 hw1 => by
    have hA1 : At w1 t (fun x => S x ∧ x < w.heap.size) (.pointer (some ⟨b, 0, none⟩)) := hA.cut.kept fun x hx _ => hw1.kept x hx.2 (hS x hx.1)
    exact (vW w1 t _ _ hA1 hF.jS hr (Gh hF hr)).mono fun e w' ⟨h1, h2⟩ => ⟨h1, hw1.below h2⟩
  have hcl : t.code.length ≤ 4096 := (Gh hF hr).2
  have HPT : Hid (∀ w1, dv base w w1 sb vs (dt ps (NK 16)) → Calls Tryz.prog 117 #[.pointer (some ⟨sb, 0, none⟩), .string (str t.code)] w1 fun e w' => (∃ x y, e = .returned (.tuple #[x, y])) ∧ Hid (dv base w w' sb vs (dt (dt ps (NK 16)) [t.code]))) := fun w1 hw1 => by
    have T1 := Bb T hw1 h3
    have hz := hw1.size
    obtain ⟨vs1, q1, q2, q3⟩ := hw1
    refine (KG base w1 sb vs1 _ q1 T1 (str t.code) (hn _ (hsub 0 16 rfl)) (by omega)).mono fun e w' hq => ?_
    rcases hq with ⟨h1, _⟩ | ⟨_, h1, h2⟩
    · rw [aH] at h1; omega
    · exact ⟨⟨_, _, h1⟩, dv.trans q1 q2 q3 h2⟩
  have c0 : w.cell? ⟨b, 0, none⟩ = some (.int .i64 t.kind) := B.c0
  have c4 : w.cell? ⟨b, 4, none⟩ = some (.pointer uk) := B.c4
  have hlt := B.lt
  have hkd : ((t.kind : Int) == 0) = false := by
    cases t with
    | nil => exact hr.elim
    | unread _ => exact hr.elim
    | leaf _ _ _ => rfl
    | ext _ _ _ => rfl
    | branch _ _ _ => rfl
  have HBL : Hid (bL w b t (.pointer uk) (fun i => .pointer (U i))) := B
  have HTA : Hid (eU w tb (some ⟨sb, 0, none⟩) u0) := hT
  have hhash : (str t.hash).toList.isEmpty = decide (t.hash = []) := jP _
  have hown : (top = true ∨ t.hash ≠ []) → ig t.code top = [t.code] := fun h => by
    unfold ig
    by_cases ht : top = true
    · rw [if_pos (.inl ht)]
    · have hf : top = false := by simpa using ht
      have h1 := (hTg hf)
      have h2 : t.hash = fv t.code := by
        cases t with
        | nil => exact hr.elim
        | unread _ => exact hr.elim
        | leaf _ _ _ => exact h1
        | ext _ _ _ => exact h1.1
        | branch _ _ _ => exact h1.1
      have h4 : t.hash ≠ [] := h.resolve_left ht
      rw [h2] at h4
      unfold fv at h4
      split at h4
      · next h5 => rw [if_pos (.inr h5)]
      · exact absurd rfl h4
  have hownN : top = false → t.hash = [] → ig t.code top = [] := fun hf h4 => by
    have h1 := (hTg hf)
    have h2 : t.hash = fv t.code := by
      cases t with
      | nil => exact hr.elim
      | unread _ => exact hr.elim
      | leaf _ _ _ => exact h1
      | ext _ _ _ => exact h1.1
      | branch _ _ _ => exact h1.1
    unfold ig
    rw [if_neg]
    rintro (h | h)
    · rw [hf] at h; cases h
    · rw [h2] at h4
      unfold fv at h4
      rw [if_pos h] at h4
      have := jY t.code
      rw [h4] at this; cases this
  rw [hfin]
  clear hT hA hF hL hTg hP hm hS h3 hbs hb3 T hn hSb B hs0 hss hA0 hAs hF0 hFs hNK hNKs hparts hfin hsub hcl ih0 ihs hr
  generalize hHH : t.hash = HH at *
  generalize hKD : (t.kind : Int) = KD at *
  generalize hCC : t.code = CC at *
  go_enter Tryz.func82, Tryz.ntmps82
  go_wp2_with fail
  refine HK0.out.mono ?_
  rintro e w1 ⟨rfl, HS1⟩
  clear HK0 c4 c0
  go_wp2_with fail
  go_loopg [6] 16 (fun g r wr => ∃ i : Nat, g = 16 - i ∧ i ≤ 16 ∧ r = .int .i64 i ∧ Hid (dv base w wr sb vs (dt ps (NK i))))
  case atStart => exact ⟨0, rfl, by omega, rfl, HS1⟩
  case round =>
    obtain ⟨i, hg, hi, rfl, HSI⟩ := hrel
    have HG : Hid (gk = 16 - i) := hg
    clear hg
    obtain ⟨⟨hb1, htb1⟩, hl1⟩ := HCL.out wr _ HSI.out
    have B1 : bL wr b t (.pointer uk) (fun i => .pointer (U i)) := hb1.trans HBL.out
    have TA1 : eU wr tb (some ⟨sb, 0, none⟩) u0 := HTA.out.kept htb1
    by_cases hlt2 : i < 16
    · have ck : wr.cell? ⟨b, 5 + i, none⟩ = some (.pointer (U i)) := B1.ck i hlt2
      have hiI : (i : Int) < 16 := by omega
      have HK1 : Hid (Calls Tryz.prog 82 #[.pointer (some ⟨tb, 0, none⟩), .pointer (U i), .bool false] wr fun e w' => e = .returned (.tuple #[]) ∧ Hid (dv base w w' sb vs (dt ps (NK (i + 1))))) := HKS.out i hlt2 wr HSI.out
      clear B1 TA1 hb1 htb1
      go_wp2_with fail
      refine HK1.out.mono ?_
      rintro e w2 ⟨rfl, HS2⟩
      clear HK1
      go_wp2_with fail
      go_roundg (16 - (i + 1))
      case measure => have := HG.out; omega
      case rel => exact ⟨i + 1, rfl, by omega, by go_num, HS2⟩
    · obtain rfl : i = 16 := by omega
      have c1 : wr.cell? ⟨b, 1, none⟩ = some (.string (str HH)) := by rw [← hHH]; exact B1.c1
      have HC2 : Hid (Calls Tryz.prog 116 #[.pointer (some ⟨b, 0, none⟩)] wr fun e w' => e = .returned (.string (str CC)) ∧ Hid (dv base w w' sb vs (dt ps (NK 16)))) := HCD.out wr _ HSI.out
      have hiI : ¬ (16 : Int) < 16 := by omega
      clear B1 TA1 hb1 htb1 HKS HG
      have HNN : Hid (top = false → HH = [] → ig CC top = []) := hownN
      have HNO : Hid ((top = true ∨ HH ≠ []) → ig CC top = [CC]) := hown
      clear hown hownN
      cases top with
      | true =>
        have HE : Hid (ig CC true = [CC]) := HNO.out (.inl rfl)
        go_wp2_with fail
        refine HC2.out.mono ?_
        rintro e w2 ⟨rfl, HS2⟩
        obtain ⟨⟨_, htb2⟩, _⟩ := HCL.out w2 _ HS2.out
        have TA2 : eU w2 tb (some ⟨sb, 0, none⟩) u0 := HTA.out.kept htb2
        have t0 := TA2.c0
        have htl := TA2.lt
        have HP2 : Hid (Calls Tryz.prog 117 #[.pointer (some ⟨sb, 0, none⟩), .string (str CC)] w2 fun e w' => (∃ x y, e = .returned (.tuple #[x, y])) ∧ Hid (dv base w w' sb vs (dt (dt ps (NK 16)) [CC]))) := HPT.out w2 HS2.out
        clear HC2 TA2 htb2
        go_wp2_with fail
        refine HP2.out.mono ?_
        rintro e w3 ⟨⟨x, y, rfl⟩, HS3⟩
        clear HP2
        go_wp2_with fail
        go_end0
        rw [HE.out]
        exact ⟨rfl, HS3.out⟩
      | false =>
        by_cases hh0 : HH = []
        · have HE : Hid (ig CC false = []) := HNN.out rfl hh0
          rw [decide_eq_true hh0] at hhash
          clear HC2 HNN HNO
          generalize str HH = HS at *
          go_wp2_with fail
          go_end0
          rw [HE.out]
          exact ⟨rfl, HSI.out⟩
        · have HE : Hid (ig CC false = [CC]) := HNO.out (.inr hh0)
          rw [decide_eq_false hh0] at hhash
          clear HNN HNO
          generalize str HH = HS at *
          go_wp2_with fail
          refine HC2.out.mono ?_
          rintro e w2 ⟨rfl, HS2⟩
          obtain ⟨⟨_, htb2⟩, _⟩ := HCL.out w2 _ HS2.out
          have TA2 : eU w2 tb (some ⟨sb, 0, none⟩) u0 := HTA.out.kept htb2
          have t0 := TA2.c0
          have htl := TA2.lt
          have HP2 : Hid (Calls Tryz.prog 117 #[.pointer (some ⟨sb, 0, none⟩), .string (str CC)] w2 fun e w' => (∃ x y, e = .returned (.tuple #[x, y])) ∧ Hid (dv base w w' sb vs (dt (dt ps (NK 16)) [CC]))) := HPT.out w2 HS2.out
          clear HC2 TA2 htb2
          go_wp2_with fail
          refine HP2.out.mono ?_
          rintro e w3 ⟨⟨x, y, rfl⟩, HS3⟩
          clear HP2
          go_wp2_with fail
          go_end0
          rw [HE.out]
          exact ⟨rfl, HS3.out⟩
theorem M7(t):pO t:=by
 induction t with
 |nil=>exact sK
 |unread h=>exact M6 h
 |leaf h q v=>exact yE _ trivial sK fun _ _=>sK
 |ext h q k ih=>exact yE _ trivial ih fun _ _=>sK
 |branch h v ks ih=>exact yE _ trivial sK fun i _=>ih i
theorem QQ{base w a sb S t d f}(E:dH w a (qA sb) S t)(s:bD t)(g:fR base w sb d f)(A:¬bW sb d a)(v:∀x,S x->¬bW sb d x)(h3:∀k,bW sb d k->3<=k)(z:base<=w.heap.size)(y:3<=base)(T:az w)(B:Fits f (bY t true)):
 Calls yP 39 #[pV (qA a)] w fun e w'=>e=rV (sV (str (bM t)))/\dv base w w' sb d (dt f (bY t true)):=by
 obtain⟨⟨u,c,i⟩,j,F⟩:=E;have r:=aa (pM w a _ u t S c i j.aJ T);have o:Hid (∀W,yW w W->Calls yP 82 #[pV (qA a),pV u,bV true] W fun e w'=>e=rV (tV #[])/\Hid (dv base w w' sb d (dt f (bY t true)))):=fun W b=>
  (M7 t base W a sb u u d f S true (c.kept (b.block a c.lt)) (i.below b) j.aJ s (fun h=>by cases h) (g.kept fun q m=>b.block q (g.dQ q m)) A v h3 (Q7 z b.size) y (T.below b) B).mono fun e w' ⟨h1,h2⟩=>⟨h1,dv.trans (g.kept fun q m=>b.block q (g.dQ q m)) (fun _ _ _ hg=>.inl hg) (aN.gj b) h2⟩
 have n:Hid (∀W,yW w W->W.cell? ⟨a,1,none⟩=some (pV u)/\a<W.heap.size):=fun W b=>⟨(b.cell (p:=⟨a,1,none⟩) c.lt).trans c.c1,Q6 c.lt b.size⟩
 clear c i j F s g A v h3 z y T B;generalize dt f (bY t true)=PS at*;generalize str (bM t)=R at*;go_enter func39,ntmps39
 go_wp2_with fail
 refine r.out.mono ?_;rintro e w1 ⟨rfl,l⟩;have C:=aa l;obtain⟨d1,G⟩:=n.out w1 l;clear l r n;go_wp2_with fail
 refine(o.out _ C.out).mono ?_;rintro e w2 ⟨rfl,D⟩;clear o;go_wp2_with fail
 go_ret
 exact⟨rfl,D.out⟩
theorem dH.step{base w w' a sb d S t c i}(h:dH w a d S t)(k:dv base w w' sb c i)(g:¬bW sb c a)(e:∀x,S x->¬bW sb c x):dH w' a d S t:=by
 obtain⟨⟨u,h1,h2⟩,h3,h4⟩:=h;have j:=k.size;exact⟨⟨u,h1.kept (k.kept a h1.lt g),h2.kept fun x b f=>k.kept x f (e x b)⟩,h3,fun x b=>by have:=h4 x b;exact⟨this.1,this.2.1,by omega⟩⟩
end Go.Proofs.YtiimkkahmpmhdaaGreatDoor
