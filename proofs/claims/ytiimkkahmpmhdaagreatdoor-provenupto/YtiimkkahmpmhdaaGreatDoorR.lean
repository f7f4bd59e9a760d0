import Derived.Test.YtiimkkahmpmhdaaGreatDoorP
import Derived.Test.YtiimkkahmpmhdaaGreatDoorQ
open Go.Proofs.Tryz
open Go.Proofs.Tryz renaming prog→yP
open Go.Value renaming string→sV,pointer→pV,int→iV,slice→lV,bool→bV,tuple→tV,agg→gV
open Go.Ending renaming returned→rV
namespace Go.Proofs.YtiimkkahmpmhdaaGreatDoor
open Go.RowKit
set_option maxRecDepth 100000
set_option maxHeartbeats 0
set_option linter.all false
def gP(c:yL)(a:Bool):List yL:=if a=true\/32<=c.length then [c] else []
def aO:Nd->Bool->List yL
 | .leaf h p v,top=>gP (Nd.leaf h p v).code top
 | .ext h p k,top=>aO k false++gP (Nd.ext h p k).code top
 | .branch h v ks,top=>(List.range 16).flatMap (fun i=>aO (ks i) false)++gP (Nd.branch h v ks).code top
 | _,_=>[]
theorem LA(c)(a:Bool):(gP c a).length<=1:=by unfold gP;split<;>simp
theorem o6(P:yL->Bool)(c)(a:Bool):(gP c a).countP P<=1:=Q7 List.countP_le_length (LA c a)
theorem Nt(a:Tree->Nat->Bool->Option Nd)(H:rk a)(i:∀x dep bl n,bK 6 x=true->a x dep bl=some n->∀top,aO n top=gP n.code top)(x:Tree)(dep:Nat)(bl:Bool)(k)(h:jk a x dep bl=some k):aO k false=[]:=by
 obtain⟨h1,h2,_⟩:=vA a H x dep bl k h;by_cases g:∃t,x=ay t
 ·obtain⟨t,rfl⟩:=g;rw[vz] at h;split at h
  ·cases h;rfl
  ·split at h
   ·cases h
   ·cases h;rfl
 ·rw[vB a x dep bl (fun t e=>g ⟨t,e⟩)] at h;split at h
  ·cases h
  ·next hb=>
   have h0:eg x=0:=RQ fun h=>hb (.inl h)
   have c:bK 6 x=true:=by
    unfold eg at h0;by_cases b:bK 6 x=true
    ·exact b
    ·rw[QW b] at h0;cases h0
   have d:=(H x dep bl k c h).2.1;have f:=d.read;have j:iW k:=by
    have:=h2.aJ;cases k with
    |nil=>exact f.elim
    |unread _=>exact f.elim
    |leaf _ _ _=>exact this.1
    |ext _ _ _=>exact this.1
    |branch _ _ _=>exact this.1
   have l:=j.short d.hash;rw[i x dep bl k c h false];unfold gP;rw[QW];rintro (h|h)
   ·cases h
   ·omega
theorem zp{f:Nat->List yL}:∀n,(∀i,i<n->f i=[])->(List.range n).flatMap f=[]
 | 0,_=>rfl
 |n+1,h=>by
  rw[List.range_succ,List.flatMap_append,zp n fun i hi=>h i (by omega)]
  simp[h n (by omega)]
theorem Mg:∀(d:Nat) (x:Tree) (dep:Nat) (bl:Bool) (n),bK 6 x=true->aT d x dep bl=some n->∀b,aO n b=gP n.code b:=by
 intro d;induction d with
 |zero=>intro x dep bl n _ h;cases h
 |succ d ih=>
  intro x dep bl n f h;have c:=Nt (aT d) (uW d) ih;cases x with
  |slice ks es=>
   have e:aT (d+1) (.slice ks es) dep bl=if ks.length=2/\bl=false then je (aT d) (ks.getD 0 (ay [])) (ks.getD 1 (ay [])) dep else if ks.length=17 then gW (aT d) ks dep else none:=rfl;rw[e] at h;split at h
   ·unfold je at h;split at h
    ·split at h
     ·cases h
     ·split at h
      ·split at h
       ·split at h
        ·cases h
        ·cases h;exact fun _=>rfl
       ·cases h
      ·split at h
       ·next k a=>
        split at h
        ·cases h
        ·cases h
         intro b;simp only[aO];rw[c _ _ _ k a,SF]
       ·cases h
    ·cases h
   ·split at h
    ·unfold gW at h;split at h
     ·split at h
      ·cases h
      ·split at h
       ·next hc=>
        cases h
        intro b;simp only[aO];rw[zp 16 (fun i hi=>by
         obtain⟨k,a⟩:=vy (aT d) ks dep 16 hc.1 i hi;simp only[a,Option.getD_some];exact c _ _ _ k a),SF]
       ·cases h
     ·cases h
    ·cases h
  | _=>cases h
theorem Mz(h)(t:Nd)(b:Bool)(a:t.read):aO (t.gy h) b=aO t b:=by
 cases t with
 |nil=>exact a.elim
 |unread _=>exact a.elim
 | _=>rfl
theorem Ds(P:yL->Bool){G t t1 dep bl}(h:cf G t dep bl=.ok t1)(A1:Bool):(aO t1 A1).countP P<=(aO t A1).countP P+1:=by
 cases t with
 |unread h0=>
  have h':gO G h0 dep bl=.ok t1:=h;unfold gO at h';split at h'
  ·cases h'
  ·next x _=>
   obtain⟨_,A2,hh,hc,ht,_⟩:=nP h';unfold gh at h';rw[QW (fun h=>h ht)] at h';split at h'
   ·cases h'
   ·cases hd:fL x.data.toList with
    |error c=>rw[hd] at h';cases h'
    |ok y=>
     rw[hd] at h';obtain⟨_,hf,_⟩:=zF _ y hd;have A0:AR h0 (aT 6 y dep bl)=.ok t1:=h';cases hn:aT 6 y dep bl with
     |none=>rw[hn] at A0;cases A0
     |some m=>
      rw[hn] at A0;cases A0
      rw[Mz h0 m A1 (uW 6 y dep bl m hf hn).2.1.read,Mg 6 y dep bl m hf hn A1];exact Q7 (o6 P _ _) (Nat.le_add_left _ _)
 | _=>cases h;exact Nat.le_succ _
theorem sY(P:yL->Bool)(ks:Nat->Nd)(c:Nat)(k):∀n,((List.range n).flatMap fun i=>aO (aD ks c k i) false).countP P+(if c<n then(aO (ks c) false).countP P else 0)=((List.range n).flatMap fun i=>aO (ks i) false).countP P+(if c<n then(aO k false).countP P else 0)
 | 0=>by simp
 |n+1=>by
  have a:=sY P ks c k n
  simp only[List.range_succ,List.flatMap_append,SJ,List.flatMap_cons,List.flatMap_nil,Rz]
  by_cases e:n=c
  ·subst e
   rw[df]
   rw[QW (Nat.lt_irrefl _),QW (Nat.lt_irrefl _)] at a
   rw[QX (Nat.lt_succ_self _),QX (Nat.lt_succ_self _)]
   omega
  ·rw[dJ _ _ _ _ e]
   by_cases h:c<n
   ·rw[QX h,QX h] at a
    rw[QX (by omega),QX (by omega)]
    omega
   ·rw[QW h,QW h] at a
    rw[QW (by omega),QW (by omega)]
    omega
theorem mS(P:yL->Bool)(h q k)(a:Bool):(aO k false).countP P<=(aO (.ext h q k) a).countP P/\(aO (.ext h q k) a).countP P<=(aO k false).countP P+1:=by
 have h1:(aO (.ext h q k) a).countP P=(aO k false).countP P+(gP (Nd.ext h q k).code a).countP P:=by
  show(aO k false++gP (Nd.ext h q k).code a).countP P=_;rw[SJ]
 have:=o6 P (Nd.ext h q k).code a;omega
theorem Mt(P:yL->Bool)(h b v d)(ks:Nat->Nd)(c:Nat)(e:c<16)(k)(a:Bool):(aO (.branch h v (aD ks c k)) a).countP P+(aO (ks c) false).countP P<=(aO (.branch b d ks) a).countP P+(aO k false).countP P+1:=by
 have h1:(aO (.branch h v (aD ks c k)) a).countP P=((List.range 16).flatMap fun i=>aO (aD ks c k i) false).countP P+(gP (Nd.branch h v (aD ks c k)).code a).countP P:=by
  show((List.range 16).flatMap (fun i=>aO (aD ks c k i) false)++gP (Nd.branch h v (aD ks c k)).code a).countP P=_;rw[SJ]
 have h2:(aO (.branch b d ks) a).countP P=((List.range 16).flatMap fun i=>aO (ks i) false).countP P+(gP (Nd.branch b d ks).code a).countP P:=by
  show((List.range 16).flatMap (fun i=>aO (ks i) false)++gP (Nd.branch b d ks).code a).countP P=_;rw[SJ]
 have h3:=sY P ks c k 16;rw[QX e,QX e] at h3;have:=o6 P (Nd.branch h v (aD ks c k)).code a;omega
theorem Du(P:yL->Bool)(G:yB->Option yB):∀(f:Nat) (t) (p) (dep:Nat) (bl a:Bool),lP t->ak p->aw t dep->(aO (cV G f t p dep bl).1 a).countP P<=(aO t a).countP P+2*(p.length+1):=by
 intro f;induction f with
 |zero=>intro t p dep bl a _ _ _;exact Nat.le_add_right _ _
 |succ f ih=>
  intro t p dep bl a m e g;simp only[cV];cases hr:cf G t dep bl with
  |error c=>exact Nat.le_add_right _ _
  |ok t1=>
   have h1:=Ds P hr a;have b:=(l4 g hr).1;simp only[kS];cases t1 with
   |ext h q k=>
    simp only[fJ];split
    ·next hs=>
     have i:=(g9 q p).2;rw[hs] at i;have j:=b.bu.1;have n:q.length≠0:=fun h=>j (Rm.1 h)
     have h2:=ih k (p.drop q.length) (dep+q.length) true false b.bu.2.2 (cS e _) (dY b);have h3:=mS P h q k a;have h4:=mS P h q (cV G f k (p.drop q.length) (dep+q.length) true).1 a;rw[Q8] at h2;show(aO (.ext h q _) a).countP P<=_;omega
    ·show(aO (.ext h q k) a).countP P<=_;omega
   |branch h v ks=>
    cases p with
    |nil=>simp only[fJ];omega
    |cons c r=>
     simp only[fJ];have d:=e c (QY ..);have h2:=ih (ks c.toNat) r (dep+1) false false (b.bu _ d) (fun y l=>e y (QZ _ l)) (di b _ d);have h3:=Mt P h h v v ks c.toNat d (cV G f (ks c.toNat) r (dep+1) false).1 a;simp only[Ro];omega
   | _=>simp only[fJ];omega
theorem yp(P:yL->Bool)(t)(a b:Bool):(aO t a).countP P<=(aO t b).countP P+1:=by
 cases t with
 |nil=>exact Ri _
 |unread _=>exact Ri _
 |leaf h p v=>exact Q7 (o6 P _ _) (Nat.le_add_left _ _)
 |ext h p k=>have h1:=mS P h p k a;have h2:=mS P h p k b;omega
 |branch h v ks=>
  have h1:∀c,(aO (.branch h v ks) c).countP P=((List.range 16).flatMap fun i=>aO (ks i) false).countP P+(gP (Nd.branch h v ks).code c).countP P:=fun c=>by
   show((List.range 16).flatMap (fun i=>aO (ks i) false)++gP (Nd.branch h v ks).code c).countP P=_;rw[SJ]
  have:=h1 a;have:=h1 b;have:=o6 P (Nd.branch h v ks).code a;omega
theorem sC(P:yL->Bool)(q k)(a:Bool):(aO (fq q k) a).countP P<=(aO k false).countP P+1:=(mS P _ q k a).2
theorem qG(P:yL->Bool)(q v)(a:Bool):(aO (da q v) a).countP P<=1:=o6 P _ _
theorem sD(P:yL->Bool)(ks:Nat->Nd)(v)(a:Bool):(aO (cP ks v) a).countP P<=((List.range 16).flatMap fun i=>aO (ks i) false).countP P+1:=by
 have h1:(aO (cP ks v) a).countP P=((List.range 16).flatMap fun i=>aO (ks i) false).countP P+(gP (cP ks v).code a).countP P:=by
  show((List.range 16).flatMap (fun i=>aO (ks i) false)++gP (cP ks v).code a).countP P=_;rw[SJ]
 have:=o6 P (cP ks v).code a;omega
theorem yq(P:yL->Bool)(h v)(ks:Nat->Nd)(a:Bool):((List.range 16).flatMap fun i=>aO (ks i) false).countP P<=(aO (.branch h v ks) a).countP P:=by
 show _<=((List.range 16).flatMap (fun i=>aO (ks i) false)++gP (Nd.branch h v ks).code a).countP P;rw[SJ];omega
theorem vg(P:yL->Bool)(p k)(b:Bool):(aO (aQ p k) b).countP P<=(aO k false).countP P+1:=by
 by_cases a:p=[]
 ·subst a;rw[lF];exact yp P k b false
 ·cases k with
  |nil=>simp only[aQ,QW a];exact sC P p .nil b
  |unread h=>simp only[aQ,QW a];exact sC P p (.unread h) b
  |leaf h q v=>simp only[aQ,QW a];exact Q7 (qG P _ _ _) (Nat.le_add_left _ _)
  |ext h q k=>
   simp only[aQ,QW a];have h1:=sC P (p++q) k b;have h2:=mS P h q k false;omega
  |branch h v ks=>simp only[aQ,QW a];exact sC P p (.branch h v ks) b
theorem Mu(P:yL->Bool)(n p):(aO (fU n p) false).countP P<=(aO n false).countP P+1:=by
 cases n with
 |leaf h q v=>exact Q7 (qG P _ _ _) (Nat.le_add_left _ _)
 |ext h q k=>
  have h1:=vg P p k false;have h2:=mS P h q k false;show(aO (aQ p k) false).countP P<=_;omega
 | _=>exact Nat.le_succ _
theorem Fq(P:yL->Bool)(ks:Nat->Nd)(c:Nat)(k):((List.range 16).flatMap fun i=>aO (aD ks c k i) false).countP P<=((List.range 16).flatMap fun i=>aO (ks i) false).countP P+(aO k false).countP P:=by
 have h:=sY P ks c k 16;by_cases a:c<16
 ·rw[QX a,QX a] at h;omega
 ·rw[QW a,QW a] at h;omega
theorem Dq(P:yL->Bool)(n p v)(s:Nat)(a:Bool):(aO (eM n p v s) a).countP P<=(aO n false).countP P+4:=by
 have b:((List.range 16).flatMap fun i=>aO (dG n s i) false).countP P<=(aO n false).countP P+1:=by
  unfold dG;have d:((List.range 16).flatMap fun _=>aO Nd.nil false).countP P=0:=congrArg (List.countP P) (zp (f:=fun _=>aO Nd.nil false) 16 fun _ _=>rfl);split
  ·have h1:=Fq P (fun _=>.nil) (n.path.getD s 0).toNat (fU n (n.path.drop (s+1)));have h2:=Mu P n (n.path.drop (s+1));omega
  ·show((List.range 16).flatMap fun _=>aO Nd.nil false).countP P<=_;omega
 have c:((List.range 16).flatMap fun i=>aO (cM n p v s i) false).countP P<=(aO n false).countP P+2:=by
  unfold cM;split
  ·have h1:=Fq P (dG n s) (p.getD s 0).toNat (da (p.drop (s+1)) v);have h2:=qG P (p.drop (s+1)) v false;omega
  ·omega
 have h1:=vg P (p.take s) (cP (cM n p v s) (dy n p v s)) a;have h2:=sD P (cM n p v s) (dy n p v s) false;show(aO (aQ _ _) a).countP P<=_;omega
theorem Dp(P:yL->Bool):∀(t) (p v) (a:Bool),lP t->ak p->(aO (bF t p v) a).countP P<=(aO t a).countP P+p.length+5:=by
 intro t;induction t with
 |nil=>intro p v a _ _;have:=qG P p v a;show(aO (da p v) a).countP P<=_;omega
 |unread h=>intro p v a _ _;show(aO (.unread h) a).countP P<=_;omega
 |leaf h q x=>
  intro p v a _ _;simp only[bF];split
  ·have:=qG P p v a;omega
  ·have h1:=Dq P (.leaf h q x) p v (aF q p) a;have h2:=yp P (.leaf h q x) false a;omega
 |ext h q k ih=>
  intro p v a b d;simp only[bF];split
  ·next hs=>
   have f:=(g9 q p).2;rw[hs] at f;have i:q.length≠0:=fun h=>b.1 (Rm.1 h)
   have h1:=ih (p.drop q.length) v false b.2.2 (cS d _);have h2:=sC P q (bF k (p.drop q.length) v) a;have h3:=mS P h q k a;rw[Q8] at h1;omega
  ·have h1:=Dq P (.ext h q k) p v (aF q p) a;have h2:=yp P (.ext h q k) false a;omega
 |branch h x ks ih=>
  intro p v a b d;cases p with
  |nil=>
   have h1:=sD P ks v a;have h2:=yq P h x ks a;show(aO (cP ks v) a).countP P<=_;omega
  |cons c r=>
   have e:=d c (QY ..);have h1:=ih c.toNat r v false (b _ e) fun y g=>d y (QZ _ g)
   have h2:=sD P (aD ks c.toNat (bF (ks c.toNat) r v)) x a;have h3:=sY P ks c.toNat (bF (ks c.toNat) r v) 16;rw[QX e,QX e] at h3;have h4:=yq P h x ks a;show(aO (cP (aD ks c.toNat (bF (ks c.toNat) r v)) x) a).countP P<=_;simp only[Ro];omega
theorem Ft(P:yL->Bool)(ks:Nat->Nd)(i:Nat):∀n,i<n->(aO (ks i) false).countP P<=((List.range n).flatMap fun i=>aO (ks i) false).countP P
 | 0,h=>by omega
 |n+1,h=>by
  simp only[List.range_succ,List.flatMap_append,SJ,List.flatMap_cons,List.flatMap_nil,Rz]
  by_cases e:i=n
  ·subst e;omega
  ·have:=Ft P ks i n (by omega);omega
theorem Dr(P:yL->Bool){G ks v dep b}(h:bR G ks v dep=.ok b)(a:Bool):(aO b a).countP P<=((List.range 16).flatMap fun i=>aO (ks i) false).countP P+2:=by
 unfold bR at h;split at h
 ·cases h
  have:=qG P [] v a;omega
 ·next h0=>
  split at h
  ·cases h
   have:=sD P ks v a;omega
  ·have d:=(lC ks 16 (by omega)).1;cases hr:cf G (ks (cD ks 16)) (dep+1) false with
   |error c=>rw[hr] at h;cases h
   |ok n=>
    rw[hr] at h;cases h
    have h1:=vg P [UInt8.ofNat (cD ks 16)] n a;have h2:=Ds P hr false;have h3:=Ft P ks (cD ks 16) 16 d;omega
theorem Dw(P:yL->Bool)(G:yB->Option yB):∀(t) (p) (dep:Nat) (A0:Bool) (t'),aw t dep->dw t p->jo t p->ak p->aV G t p dep=.ok t'->(aO t' A0).countP P<=(aO t A0).countP P+p.length+4:=by
 intro t;induction t with
 |nil=>intro p dep A0 t' _ _ h;exact h.elim
 |unread _=>intro p dep A0 t' _ _ h;exact h.elim
 |leaf h0 q v=>intro p dep A0 t' _ _ _ _ h;cases h;exact Ri _
 |ext h0 q k ih=>
  intro p dep A0 t' hK ho hh hn h;obtain⟨A4,hh⟩:=hh;have h':iD q (aV G k (p.drop q.length) (dep+q.length))=.ok t':=h;have A8:=(g9 q p).2;rw[A4] at A8;have A9:q.length≠0:=fun h=>hK.bu.1 (Rm.1 h)
  cases hk:aV G k (p.drop q.length) (dep+q.length) with
  |error c=>rw[hk] at h';cases h'
  |ok k'=>
   rw[hk] at h';cases h'
   have h1:=ih _ _ false k' (dY hK) (ho A4) hh (cS hn _) hk;have h2:=vg P q k' A0;have h3:=mS P h0 q k A0;rw[Q8] at h1;omega
 |branch h0 v ks ih=>
  intro p dep A0 t' hK ho hh hn h;have hb:=yq P h0 v ks A0;cases p with
  |nil=>
   have h1:=Dr P (show bR G ks [] dep=.ok t' from h) A0;omega
  |cons c r=>
   have hc:c.toNat<16:=hn c (QY ..);have hr:ak r:=fun y hy=>hn y (QZ _ hy)
   have A1:jo (ks c.toNat) r:=hh;have h':lU (fun k=>bR G (aD ks c.toNat k) v dep) (aV G (ks c.toNat) r (dep+1))=.ok t':=h;simp only[Ro];cases hk:aV G (ks c.toNat) r (dep+1) with
   |error c=>rw[hk] at h';cases h'
   |ok k'=>
    rw[hk] at h';have h1:=ih _ r (dep+1) false k' (di hK _ hc) ho A1 hr hk;have h3:=sY P ks c.toNat k' 16;rw[QX hc,QX hc] at h3;by_cases A3:(ks c.toNat).kind=1
    ·have A6:k'=.nil:=by
      cases hkc:ks c.toNat with
      |leaf x q y=>rw[hkc] at hk;cases hk;rfl
      | _=>rw[hkc] at A3;cases A3
     subst A6;have h2:=Dr P (show bR G (aD ks c.toNat .nil) v dep=.ok t' from h') A0;have h4:(aO Nd.nil false).countP P=0:=rfl;omega
    ·have hs:(ks c.toNat).some:=by
      cases hkc:ks c.toNat with
      |nil=>rw[hkc] at A1;exact A1.elim
      | _=>trivial
     have A7:k'.some:=by
      have hS:=M1 G (ks c.toNat) r (dep+1) [] (di hK _ hc) ho A1 hr A3;unfold oK at hS;split at hS
      ·obtain⟨t2,e1,e2,_⟩:=hS;rw[hk] at e1;cases e1;exact e2
      ·split at hS
       ·rw[hk] at hS;cases hS
       ·obtain⟨t2,e1,e2,_⟩:=hS;rw[hk] at e1;cases e1;exact e2
     have A5:=hK.full.1;have A2:2<=cW v (aD ks c.toNat k') 16:=by
      rw[vD v ks c.toNat k' (by rw[(gn _).2 A7,(gn _).2 hs])];exact A5
     rw[lD] at A2;have hm:t'=cP (aD ks c.toNat k') v:=by
      have h5:bR G (aD ks c.toNat k') v dep=.ok t':=h';unfold bR at h5;rw[QW (fun h=>by rw[h] at A2;split at A2<;>omega),QX] at h5
      ·cases h5;rfl
      ·by_cases hv:v=[]
       ·rw[QX hv] at A2;exact .inl (by omega)
       ·exact .inr hv
     have h2:=sD P (aD ks c.toNat k') v A0;rw[hm];omega
def FI(T:Nd):Except Nat Nd->Nd×Bool×Nat
 | .error e=>(T,false,e)
 | .ok t'=>(t',true,0)
def aW(G:yB->Option yB)(t:Nd)(key:yB):Nd×Bool×Nat:=if 40<key.size then(t,false,1) else if(aE G t key).2≠0 then((aE G t key).1,false,(aE G t key).2) else if aG (aE G t key).1 (aC key)=[] then((aE G t key).1,false,0) else FI (aE G t key).1 (aV G (aE G t key).1 (aC key) 0)
theorem nS(G:yB->Option yB)(t key)(h:aw t 0)(a:bD t):bD (aE G t key).1:=(LL G 81 t (aC key) 0 false h (ch key)).1 a
theorem M0{w w1 W w':World}{b o S S'}{t1 l:Nd}{u:Option Addr}(d:dH w1 b o S' t1)(n:∀x,S' x->S x\/w.heap.size<=x)(m:bG (fun x=>S x\/x=b) w w1)(j:yW w1 W)
 (p:At w' l (fun x=>S' x\/W.heap.size<=x) (pV u)) (i:bG S' W w') (f:aw l 0) (h3:3<=w.heap.size):fQ w b o S l (w'.setCell ⟨b,1,none⟩ (pV u)):=by
 obtain⟨u0,q1,q2⟩:=d.at_;have t:=m.size;have v:=j.size;have y:=i.size;have s:=q1.lt;have g:∀x,(S' x\/W.heap.size<=x)->3<=x/\x≠b:=fun x a=>by
  rcases a with a|a
  ·exact⟨(d.own x a).1,(d.own x a).2.1⟩
  ·exact⟨by omega,by omega⟩
 have r:w'.heap[b]? =w1.heap[b]? :=(i.block b (by omega) fun h=>(d.own b h).2.1 rfl).trans (j.block b s);have c:bG (fun x=>S x\/x=b) w w':=(m.ki j).trans i fun x a=>(n x a).imp .inl id
 exact⟨⟨fun x=>(S' x\/W.heap.size<=x)/\x<w'.heap.size,⟨⟨u,(q1.kept r).set u,p.cut.kept fun x a _=>Rc _ _ _ _ (g x a.1).2⟩,f,fun x a=>⟨(g x a.1).1,(g x a.1).2,by simpa using a.2⟩⟩,fun x a=>a.1.elim (n x) fun h=>.inr (by omega)⟩,
  ⟨c.os,c.tape,c.output,by simpa using c.size,fun k q f=>by rw[Rc _ _ _ _ (fun e=>f (.inr e))];exact c.block k q f⟩⟩
theorem Ap{M w tb st S t G}(hT:dH w tb st S t)(hL:bD t)(hO:lp M w st G S)(D0:¬M tb)(key:yB)(D8:key.size<=maxLen):
 Calls yP 35 #[.pointer (some ⟨tb,0,none⟩),.string key] w fun e w'=>e=.returned (.tuple #[.bool (aW G t key).2.1,.int .i64 ((aW G t key).2.2:Int)])/\fQ w tb st S (aW G t key).1 w':=by
 unfold maxLen at D8;by_cases hk:40<key.size
 ·have HE:Hid (aW G t key=(t,false,1)):=by show _=_;unfold aW;rw[QX hk]
  have HT:Hid (dH w tb st S t):=hT;have D7:(40:Int)<(key.size:Int):=by omega
  clear hT hO hk;generalize aW G t key=X at*;go_enter func35,ntmps35
  go_wp2_with fail
  go_ret2
  rw[HE.out];exact⟨rfl,HT.out.now (Q1 _ _)⟩
 ·have B6:key.size<=40:=by omega
  have B9:=rJ hT hO key B6;have hX:aW G t key=if(aE G t key).2≠0 then((aE G t key).1,false,(aE G t key).2) else if aG (aE G t key).1 (aC key)=[] then((aE G t key).1,false,0) else FI (aE G t key).1 (aV G (aE G t key).1 (aC key) 0):=by unfold aW;rw[QW hk]
  have HW:Hid (Calls yP 77 #[.pointer (some ⟨tb,0,none⟩),.string key] w fun e w'=>fQ w tb st S (aE G t key).1 w'/\(∃(ul:Option Addr) (rl:yL) (dl:Nat) (bl:Bool),e=.returned (.tuple #[.agg #[.pointer ul,.string (str rl),.int .i64 (dl:Int),.bool bl],.int .i64 ((aE G t key).2:Int)])/\((aE G t key).2=0->rp w' w'.heap.size ul rl (aG (aE G t key).1 (aC key))))):=B9;have D7:decide ((40:Int)<(key.size:Int))=false:=by simp;omega
  have B2:=jf G t key hT.ok;have B3:=nS G t key hT.ok hL;have B4:=ch key;have C4:(aC key).length<=80:=by rw[gA];omega
  have D6:=hO.bt.size;have B8:Hid (∀w1,bG (fun x=>S x\/x=tb) w w1->az w1):=fun w1 h=>hO.bt.mK h fun x hx=>by
   rcases hx with hx|hx
   ·exact(hT.own x hx).1
   ·rw[hx];obtain⟨u,h1,_⟩:=hT.at_;exact hO.bt.nI h1
  have A5:Hid (∀x,M x->¬(S x\/x=tb)/\x<w.heap.size):=fun x hx=>⟨fun h=>h.elim (fun h=>hO.apart x h hx) fun h=>D0 (h▸hx),hO.lt x hx⟩
  have B0:Hid (jJ M w st G/\∀k t,G k=some t->t.size<=maxLen):=⟨hO.oy,hO.small⟩
  by_cases h0:(aE G t key).2=0
  ·rw[QW (fun h=>h h0)] at hX;have C9:(str (aG (aE G t key).1 (aC key))).toList.isEmpty=decide (aG (aE G t key).1 (aC key)=[]):=jP _;have C0:=kA G t key hT.ok B6 h0;rw[h0] at HW;by_cases hf:aG (aE G t key).1 (aC key)=[]
   ·rw[QX hf] at hX;rw[Ra hf] at C9;have HE:Hid (aW G t key=((aE G t key).1,false,0)):=hX;clear hT hO hk B6 B9 hX B2 B3 B4 C4 h0 hf C0 hL B8 A5 B0;generalize aW G t key=X at*;generalize aG (aE G t key).1 (aC key)=F at*;generalize (aE G t key).1=T1 at*;go_enter func35,ntmps35
    go_wp2_with fail
    refine HW.out.mono ?_;rintro e w1 ⟨hN,ul,rl,dl,bl,rfl,A3⟩;have HN:Hid (fQ w tb st S T1 w1):=hN;have HV:Hid (∀W,Below w1.heap.size w1 W->Calls yP 78 #[.agg #[.pointer ul,.string (str rl),.int .i64 (dl:Int),.bool bl]] W fun e w'=>e=.returned (.string (str F))/\Below W.heap.size W w'):=fun W hW=>rL (A3 (by first|trivial|rfl)) dl bl W hW
    clear hN A3 HW;generalize str F=FF at*;go_wp2_with fail
    refine(HV.out _ ((Q1 _ _).alloc (QU _) _)).mono ?_;rintro e w2 ⟨rfl,A6⟩;have A4:Hid (Below w1.heap.size w1 w2):=((Q1 w1.heap.size w1).alloc (QU _) _).trans (A6.mono (by simp));clear A6 HV;go_wp2_with fail
    go_ret2
    rw[HE.out];exact⟨rfl,HN.out.below A4.out⟩
   ·rw[QW hf] at hX;rw[Q9 hf] at C9;have C6:=ov _ _ hf;have A8:Hid (∀w1 S' u1,dH w1 tb st S' (aE G t key).1->(∀x,S' x->S x\/w.heap.size<=x)->bG (fun x=>S x\/x=tb) w w1->eU w1 tb st u1->At w1 (aE G t key).1 S' (.pointer u1)->∀W,Below w1.heap.size w1 W->Calls yP 79 #[.pointer (some ⟨tb,0,none⟩),.agg #[.pointer u1,.string (str (aC key)),.int .i64 0,.bool false]] W (nC W S' (aV G (aE G t key).1 (aC key) 0))):=fun w1 S' u1 A1 A7 A2 A0 hA W hW=>by
     have D9:∀x,M x->W.heap[x]? =w.heap[x]? :=fun x hx=>(hW.block x (Q6 (A5.out x hx).2 A2.size)).trans (A2.block x (A5.out x hx).2 (A5.out x hx).1)
     refine Ht (aE G t key).1 M W tb st u1 G S' u1 (aC key) 0 false (A0.kept (hW.block tb A0.lt)) (hA.below hW) B2 B3 C0 C6 B4 (by omega) (fun W' h hh hx=>B0.out.1 W' h hh fun x D1=>(hx x D1).trans (D9 x D1)) B0.out.2 (fun x hx=>by have:=(A5.out x hx).2;have:=A2.size;have:=hW.size;omega) ((B8.out w1 A2).below hW) (fun x hx=>?_);obtain⟨a1,a2,a3⟩:=A1.own x hx;refine⟨a1,a2,fun hm=>?_,Q6 a3 hW.size⟩;rcases A7 x hx with h|h
     ·exact(A5.out x hm).1 (.inl h)
     ·have:=(A5.out x hm).2;omega
    have B7:Hid (∀(u1:Option Addr) (W:World),Calls yP 80 #[.pointer u1,.string key] W fun e w'=>e=.returned (.agg #[.pointer u1,.string (str (aC key)),.int .i64 0,.bool false])/\Below W.heap.size W w'):=fun u1 W=>uo u1 key (by omega) W
    have C3:Hid (∀t',aV G (aE G t key).1 (aC key) 0=.ok t'->aw t' 0):=fun t' h=>(kD G _ _ 0 t' B2 B3 C0 C6 B4 (by omega) h).1.ok
    have C2:Hid (∀ec,aV G (aE G t key).1 (aC key) 0=.error ec->((ec:Int) != 0)=true):=fun ec h=>by
     have:=yz G _ _ _ _ h;simp;omega
    clear hT hO hk B6 B9 B2 B3 B4 C4 h0 hf C0 hL B8 A5 B0 C6 D0;generalize str (aC key)=KP at*;generalize aW G t key=X at*;generalize aG (aE G t key).1 (aC key)=F at*;cases hlp:aV G (aE G t key).1 (aC key) 0 with
    |error ec=>
     have E3:=C2.out ec hlp;rw[hlp] at hX A8;have HE:Hid (X=((aE G t key).1,false,ec)):=hX;clear C3 C2 hlp hX;generalize (aE G t key).1=T1 at*;go_enter func35,ntmps35
     go_wp2_with fail
     refine HW.out.mono ?_;rintro e w1 ⟨hN,ul,rl,dl,bl,rfl,A3⟩;have HV:Hid (∀W,Below w1.heap.size w1 W->Calls yP 78 #[.agg #[.pointer ul,.string (str rl),.int .i64 (dl:Int),.bool bl]] W fun e w'=>e=.returned (.string (str F))/\Below W.heap.size W w'):=fun W hW=>rL (A3 (by first|trivial|rfl)) dl bl W hW
     have HN:Hid (fQ w tb st S T1 w1):=hN;obtain⟨⟨S',A1,A7⟩,A2⟩:=hN;obtain⟨u1,A0,hA⟩:=A1.at_;have B1:Hid (∀W,Below w1.heap.size w1 W->Calls yP 79 #[.pointer (some ⟨tb,0,none⟩),.agg #[.pointer u1,.string KP,.int .i64 0,.bool false]] W fun e w'=>e=.returned (.tuple #[.pointer none,.int .i64 (ec:Int)])/\Below W.heap.size W w'):=fun W hW=>(A8.out w1 S' u1 A1 A7 A2 A0 hA W hW).mono fun e w' hq=>hq.1
     have C8:∀W,Below w1.heap.size w1 W->W.cell? ⟨tb,1,none⟩=some (.pointer u1)/\tb<W.heap.size:=fun W hW=>⟨(hW.cell (p:=⟨tb,1,none⟩) A0.lt).trans A0.c1,Q6 A0.lt hW.size⟩
     have C1:Hid (∀W,Below w1.heap.size w1 W->W.cell? ⟨tb,1,none⟩=some (.pointer u1)/\tb<W.heap.size):=C8;clear A3 HW A8 A1 A7 A2 A0 hA C8;generalize str F=FF at*;go_wp2_with fail
     refine(HV.out _ ((Q1 _ _).alloc (QU _) _)).mono ?_;rintro e w2 ⟨rfl,A6⟩;have A4:Hid (Below w1.heap.size w1 w2):=((Q1 w1.heap.size w1).alloc (QU _) _).trans (A6.mono (by simp));obtain⟨d1,D5⟩:=C1.out w2 A4.out;clear A6 HV;go_wp2_with fail
     refine(B7.out _ _).mono ?_;rintro e w3 ⟨rfl,B5⟩;have A9:Hid (Below w1.heap.size w1 w3):=A4.out.trans (B5.mono A4.out.size);clear B5 B7;go_wp2_with fail
     refine(B1.out _ A9.out).mono ?_;rintro e w4 ⟨rfl,C7⟩;have D2:Hid (Below w1.heap.size w1 w4):=A9.out.trans (C7.mono A9.out.size);clear C7 B1;go_wp2_with fail
     go_ret2
     rw[HE.out];exact⟨rfl,HN.out.below D2.out⟩
    |ok t'=>
     have D4:Hid (aw t' 0):=C3.out t' hlp;rw[hlp] at hX A8;have HE:Hid (X=(t',true,0)):=hX;clear C3 C2 hlp hX;generalize (aE G t key).1=T1 at*;go_enter func35,ntmps35
     go_wp2_with fail
     refine HW.out.mono ?_;rintro e w1 ⟨hN,ul,rl,dl,bl,rfl,A3⟩;have HV:Hid (∀W,Below w1.heap.size w1 W->Calls yP 78 #[.agg #[.pointer ul,.string (str rl),.int .i64 (dl:Int),.bool bl]] W fun e w'=>e=.returned (.string (str F))/\Below W.heap.size W w'):=fun W hW=>rL (A3 (by first|trivial|rfl)) dl bl W hW
     obtain⟨⟨S',A1,A7⟩,A2⟩:=hN;obtain⟨u1,A0,hA⟩:=A1.at_;have B1:Hid (∀W,Below w1.heap.size w1 W->Calls yP 79 #[.pointer (some ⟨tb,0,none⟩),.agg #[.pointer u1,.string KP,.int .i64 0,.bool false]] W fun e w'=>∃u,e=.returned (.tuple #[.pointer u,.int .i64 0])/\(w'.cell? ⟨tb,1,none⟩=some (.pointer u1)/\w'.frozen? ⟨tb,1,none⟩=false/\tb<w'.heap.size)/\Hid (fQ w tb st S t' (w'.setCell ⟨tb,1,none⟩ (.pointer u)))):=fun W hW=>(A8.out w1 S' u1 A1 A7 A2 A0 hA W hW).mono fun e w' hq=>by
      obtain⟨⟨u,e1,e2,e3⟩,_⟩:=hq;have E0:w'.heap[tb]? =w1.heap[tb]? :=(e3.block tb (Q6 A0.lt hW.size) fun h=>(A1.own tb h).2.1 rfl).trans (hW.block tb A0.lt);have C5:=A0.kept E0;exact⟨u,e1,⟨C5.c1,C5.free 1,C5.lt⟩,M0 A1 A7 A2 hW e2 e3 D4.out D6⟩
     have C1:Hid (∀W,Below w1.heap.size w1 W->W.cell? ⟨tb,1,none⟩=some (.pointer u1)/\tb<W.heap.size):=fun W hW=>⟨(hW.cell (p:=⟨tb,1,none⟩) A0.lt).trans A0.c1,Q6 A0.lt hW.size⟩
     clear A3 HW A8 A1 A7 A2 A0 hA;generalize str F=FF at*;go_wp2_with fail
     refine(HV.out _ ((Q1 _ _).alloc (QU _) _)).mono ?_;rintro e w2 ⟨rfl,A6⟩;have A4:Hid (Below w1.heap.size w1 w2):=((Q1 w1.heap.size w1).alloc (QU _) _).trans (A6.mono (by simp));obtain⟨d1,D5⟩:=C1.out w2 A4.out;clear A6 HV;go_wp2_with fail
     refine(B7.out _ _).mono ?_;rintro e w3 ⟨rfl,B5⟩;have A9:Hid (Below w1.heap.size w1 w3):=A4.out.trans (B5.mono A4.out.size);clear B5 B7;go_wp2_with fail
     refine(B1.out _ A9.out).mono ?_;rintro e w4 ⟨u4,rfl,⟨d4,f4,E4⟩,HF⟩;clear B1;go_wp2_with fail
     go_ret2
     rw[HE.out];exact⟨rfl,HF.out⟩
  ·have E2:(((aE G t key).2:Int) != 0)=true:=by simp;omega
   rw[QX h0] at hX;have D3:Hid (aW G t key=((aE G t key).1,false,(aE G t key).2)):=hX;clear hT hO hk B6 B9 hX B2 B3 B4 C4 h0 hL B8 A5 B0;generalize aW G t key=X at*;generalize aG (aE G t key).1 (aC key)=F at*;generalize (aE G t key).1=T1 at*;generalize (aE G t key).2=E1 at*;go_enter func35,ntmps35
   go_wp2_with fail
   refine HW.out.mono ?_;rintro e w1 ⟨hN,ul,rl,dl,bl,rfl,A3⟩;have HN:Hid (fQ w tb st S T1 w1):=hN;clear hN A3 HW;go_wp2_with fail
   go_ret2
   rw[D3.out];exact⟨rfl,HN.out.below ((Q1 _ _).alloc (QU _) _)⟩
theorem MA:∀(t) (a:Bool),aO t a=bY t a:=by
 intro t;induction t with
 |nil=>intro a;rfl
 |unread h=>intro a;rfl
 |leaf h p v=>intro a;rfl
 |ext h p k ih=>intro a;simp only[aO,bY,ih];rfl
 |branch h v ks ih=>intro a;simp only[aO,bY,ih];rfl
def cO(P:yL->Bool)(t:Nd):Nat:=(bY t true).countP P
theorem ld(P:yL->Bool)(t):(aO t true).countP P=cO P t:=by unfold cO;rw[MA]
theorem uX(P:yL->Bool)(G:yB->Option yB)(t)(key:yB)(a:aw t 0)(b:key.size<=40):cO P (aE G t key).1<=cO P t+162:=by
 have:=Du P G 81 t (aC key) 0 false true a.bu (ch key) a;rw[ld,ld,gA] at this;unfold aE;omega
theorem Dh(P:yL->Bool)(G:yB->Option yB)(t key)(a:aw t 0):cO P (bg G t key)<=cO P t+162:=by
 unfold bg;split
 ·omega
 ·exact uX P G t key a (by omega)
theorem Dg(P:yL->Bool)(G:yB->Option yB)(t key value)(a:aw t 0):cO P (fb G t key value)<=cO P t+162:=by
 unfold fb;split
 ·omega
 ·split
  ·omega
  ·exact uX P G t key a (by omega)
theorem Mj(P:yL->Bool)(G:yB->Option yB)(t key value)(a:aw t 0):cO P (bC G t key value)<=cO P t+247:=by
 unfold bC;split
 ·next h=>
  obtain⟨h1,_,_,_,_⟩:=sg h;have c:=uX P G t key a h1;have b:=Dp P (aE G t key).1 (aC key) value.data.toList true (jf G t key a).bu (ch key);rw[ld,ld,gA] at b;unfold jt;omega
 ·have:=Dg P G t key value a;omega
theorem Ml(P:yL->Bool)(G:yB->Option yB)(t key)(a:aw t 0):cO P (aW G t key).1<=cO P t+246:=by
 unfold aW;split
 ·show cO P t<=_;omega
 ·next h40=>
  have c:=uX P G t key a (by omega);split
  ·show cO P (aE G t key).1<=_;omega
  ·next h0=>
   split
   ·show cO P (aE G t key).1<=_;omega
   ·next hf=>
    have b:=RQ h0;cases hl:aV G (aE G t key).1 (aC key) 0 with
    |error e=>show cO P (aE G t key).1<=_;omega
    |ok t'=>
     have:=Dw P G _ _ 0 true t' (jf G t key a) (kA G t key a (by omega) b) (ov _ _ hf) (ch key) hl;show cO P t'<=_;rw[ld,ld,gA] at this;omega
theorem yh(P:yL->Bool)(G:yB->Option yB)(t key)(a:aw t 0):cO P (aE G t key).1<=cO P t+(4*key.size+2):=by
 have:=Du P G 81 t (aC key) 0 false true a.bu (ch key) a;rw[ld,ld,gA] at this;unfold aE;omega
theorem qD(P:yL->Bool)(G:yB->Option yB)(t key)(a:aw t 0):cO P (bg G t key)<=cO P t+(4*key.size+2):=by
 unfold bg;split
 ·omega
 ·exact yh P G t key a
theorem Mi(P:yL->Bool)(G:yB->Option yB)(t key value)(a:aw t 0):cO P (bC G t key value)<=cO P t+(6*key.size+7):=by
 have c:=yh P G t key a;unfold bC;split
 ·next h=>
  have b:=Dp P (aE G t key).1 (aC key) value.data.toList true (jf G t key a).bu (ch key);rw[ld,ld,gA] at b;unfold jt;omega
 ·unfold fb;split
  ·omega
  ·split
   ·omega
   ·omega
theorem Mk(P:yL->Bool)(G:yB->Option yB)(t key)(a:aw t 0):cO P (aW G t key).1<=cO P t+(6*key.size+6):=by
 have c:=yh P G t key a;unfold aW;split
 ·show cO P t<=_;omega
 ·next h40=>
  split
  ·show cO P (aE G t key).1<=_;omega
  ·next h0=>
   split
   ·show cO P (aE G t key).1<=_;omega
   ·next hf=>
    have b:=RQ h0;cases hl:aV G (aE G t key).1 (aC key) 0 with
    |error e=>show cO P (aE G t key).1<=_;omega
    |ok t'=>
     have:=Dw P G _ _ 0 true t' (jf G t key a) (kA G t key a (by omega) b) (ov _ _ hf) (ch key) hl;show cO P t'<=_;rw[ld,ld,gA] at this;omega
theorem yg(P:yL->Bool)(r):cO P (cl r)=0:=by unfold cl cO;split<;>rfl
theorem OA:∀(t) (p),aI t->ak p->(aG t p).length<=160:=by
 intro t;induction t with
 |nil=>intro p _ _;exact Ri _
 |unread h=>intro p _ _;exact Ri _
 |leaf h q v=>intro p a _;rw[kJ];split;exact a.2.2.2;exact Ri _
 |ext h q k ih=>
  intro p a b;unfold aG;split
  ·exact ih _ a.2.2.2.2 (cS b _)
  ·exact Ri _
 |branch h v ks ih=>
  intro p a b;cases p with
  |nil=>exact a.2.1
  |cons c r=>exact ih _ r (a.2.2 _ (b c (QY ..))) fun y d=>b y (QZ _ d)
theorem Oj(G:yB->Option yB)(t key)(a:aw t 0):(iQ G t key).size<=160:=by
 unfold iQ;split
 ·exact Ri _
 ·split
  ·rw[aH];exact OA _ _ (jf G t key a).aJ (ch key)
  ·exact Ri _
structure eI(w:World)(sb:Nat)(vs:Nat->Value)(ps:List (yB×yB)):Prop where
 st:fR 3 w sb vs ps
 n:ps.length<4000000000000
 sm:∀h t,ae ps h=some t->t.size<=4096
 m3:∀x,bW sb vs x->3<=x
theorem eI.kept{w w':World}{sb a b}(h:eI w sb a b)(k:∀x,bW sb a x->w'.heap[x]? =w.heap[x]?):eI w' sb a b:=⟨h.st.kept k,h.n,h.sm,h.m3⟩
theorem eI.below{w w' sb b a}(h:eI w sb b a)(k:yW w w'):eI w' sb b a:=h.kept fun x c=>k.block x (h.st.dQ x c)
theorem eI.oy{w sb b a}(h:eI w sb b a):jJ (bW sb b) w (qA sb) (ae a):=fun W k c d=>by
 refine(KT 3 W sb b a (h.st.kept d) k h.n).mono ?_
 rintro e w' ⟨rfl,f⟩
 refine⟨?_,f⟩
 unfold oA jZ
 rw[QX c,QX c]
 cases ae a k<;>rfl
theorem eI.over{w sb a b S}(h:eI w sb a b)(T:az w)(c:∀x,S x->¬bW sb a x):lp (bW sb a) w (qA sb) (ae b) S:=
 ⟨h.oy,fun k t d=>Q7 (h.sm k t d) (by decide),h.st.dQ,c,T⟩
theorem qS{G t key}(b:aw t 0)(a:bD t):bD (bg G t key):=by
 unfold bg;split
 ·exact a
 ·exact nS G t key b a
theorem xR{G t key value}(b:aw t 0)(a:bD t):bD (bC G t key value):=by
 unfold bC;split
 ·next h=>
  obtain⟨h1,_,_,h4,_⟩:=sg h;exact(wU (nS G t key b a) (kA G t key b h1 h4)).loose
 ·unfold fb;split
  ·exact a
  ·split
   ·exact a
   ·exact nS G t key b a
theorem zB{G t key}(a:aw t 0)(b:bD t):bD (aW G t key).1:=by
 have h1:=nS G t key a b;unfold aW;split
 ·exact b
 ·next h40=>
  split
  ·exact h1
  ·next h0=>
   split
   ·exact h1
   ·next hf=>
    have c:=RQ h0;cases hl:aV G (aE G t key).1 (aC key) 0 with
    |error e=>exact h1
    |ok t'=>
     exact(kD G _ _ 0 t' (jf G t key a) h1 (kA G t key a (by omega) c) (ov _ _ hf) (ch key) (by rw[gA];omega) hl).1.tight.loose
def Own(K:Nat->Prop)(w:World)(sb a:Nat)(t:Nd):Prop:=∃S vs,dH w a (qA sb) S t/\bD t/\eI w sb vs []/\(∀x,S x->¬K x/\¬bW sb vs x)/\¬K a/\¬bW sb vs a/\(∀x,bW sb vs x->¬K x)/\∀x,K x->x<w.heap.size
def gx(K:Nat->Prop)(w w':World):Prop:=bG (fun x=>¬K x) w w'
theorem gx.trans{K w w1 w2}(h:gx K w w1)(k:gx K w1 w2):gx K w w2:=
 ⟨k.os.trans h.os,k.tape.trans h.tape,k.output.trans h.output,Q7 h.size k.size,fun x b a=>(k.block x (Q6 b h.size) a).trans (h.block x b a)⟩
theorem gx.less{K K' w w1}(h:gx K w w1)(c:∀x,K' x->K x):gx K' w w1:=⟨h.os,h.tape,h.output,h.size,fun x e d=>h.block x e fun b=>d fun a=>b (c x a)⟩
theorem gx.below{w w' b}(h:gx (fun x=>x<b) w w')(d:b<=w.heap.size):Below b w w':=⟨h.os,h.tape,h.output,h.size,fun x a=>h.block x (Q6 a d) fun c=>c a⟩
theorem gx.gj{K w w' b}(h:Below b w w')(a:∀x,K x->x<b):gx K w w':=⟨h.os,h.tape,h.output,h.size,fun x _ c=>h.block x (a x (Sb c))⟩
theorem gx.at_{K w w'}(h:gx K w w')(x:Nat)(c:K x)(b:x<w.heap.size):w'.heap[x]? =w.heap[x]? :=h.block x b fun a=>a c
theorem gx.cell{K w w'}(h:gx K w w'){x o v}(c:K x)(b:x<w.heap.size)(a:w.cell? ⟨x,o,none⟩=some v):w'.cell? ⟨x,o,none⟩=some v:=(Rd (w:=w) (h.at_ x c b)).trans a
theorem Own.lt{K w sb a t}(h:Own K w sb a t):∀x,K x->x<w.heap.size:=by
 obtain⟨S,b,_,_,_,_,_,_,_,h⟩:=h;exact h
theorem Own.below{K w w' sb b t}(h:Own K w sb b t)(k:yW w w'):Own K w' sb b t:=by
 obtain⟨S,d,⟨⟨u,h1,h2⟩,h3,h4⟩,h5,h6,h7,h8,h9,h10,h11⟩:=h;have c:=k.size;exact⟨S,d,⟨⟨u,h1.kept (k.block b h1.lt),h2.below k⟩,h3,fun x a=>by have:=h4 x a;exact⟨this.1,this.2.1,by omega⟩⟩,h5,h6.below k,h7,h8,h9,h10,fun x a=>Q6 (h11 x a) c⟩
theorem Own.more{K w w' sb c t}(h:Own K w sb c t)(k:yW w w'):Own (fun x=>K x\/(w.heap.size<=x/\x<w'.heap.size)) w' sb c t:=by
 obtain⟨S,e,⟨⟨u,h1,h2⟩,h3,h4⟩,h5,h6,h7,h8,h9,h10,h11⟩:=h;have d:=k.size;have f:=h1.lt;exact⟨S,e,⟨⟨u,h1.kept (k.block c h1.lt),h2.below k⟩,h3,fun x b=>by have:=h4 x b;exact⟨this.1,this.2.1,by omega⟩⟩,h5,h6.below k,fun x b=>⟨fun a=>by have:=h4 x b;rcases a with a|a;exact(h7 x b).1 a;omega,(h7 x b).2⟩,fun a=>by rcases a with a|a;exact h8 a;omega,h9,fun x b a=>by have:=h6.st.dQ x b;rcases a with a|a;exact h10 x b a;omega,fun x b=>by rcases b with b|b;exact Q6 (h11 x b) d;exact b.2⟩
theorem Own.less{K K' w sb d t}(h:Own K w sb d t)(c:∀x,K' x->K x):Own K' w sb d t:=by
 obtain⟨S,e,h1,h5,h6,h7,h8,h9,h10,h11⟩:=h;exact⟨S,e,h1,h5,h6,fun x a=>⟨fun b=>(h7 x a).1 (c x b),(h7 x a).2⟩,fun b=>h8 (c _ b),h9,fun x a b=>h10 x a (c x b),fun x a=>h11 x (c x a)⟩
theorem Own.now{K}{w w':World}{sb d}{g:Nd}{S b}(h6:eI w sb b [])(h7:∀x,S x->¬K x/\¬bW sb b x)(h8:¬K d)(h9:¬bW sb b d)(h10:∀x,bW sb b x->¬K x)(h11:∀x,K x->x<w.heap.size)
 (j:fQ w d (qA sb) S g w') (i:bD g):Own K w' sb d g/\gx K w w':=by
 obtain⟨⟨S',h1,h2⟩,h3⟩:=j;have f:∀x,bW sb b x->w'.heap[x]? =w.heap[x]? :=fun x a=>h3.block x (h6.st.dQ x a) fun c=>c.elim (fun h=>(h7 x h).2 a) fun e=>h9 (e▸a)
 refine⟨⟨S',b,h1,i,h6.kept f,fun x a=>?_,h8,h9,h10,fun x a=>Q6 (h11 x a) h3.size⟩,⟨h3.os,h3.tape,h3.output,h3.size,fun k f m=>h3.block k f fun c=>?_⟩⟩
 ·rcases h2 x a with h|h
  ·exact h7 x h
  ·exact⟨fun c=>by have:=h11 x c;omega,fun l=>by have:=h6.st.dQ x l;omega⟩
 ·apply m;rcases c with h|h
  ·exact(h7 k h).1
  ·rw[h];exact h8
theorem Own.put{K w sb c t}(h:Own K w sb c t)(T:az w)(key value:yB)(g:key.size<=maxLen)(i:value.size<=maxLen):
 Calls yP 31 #[pV (qA c),sV key,sV value] w fun e w'=>e=rV (iV .i64 (bX (ae []) t key value:Int))/\Own K w' sb c (bC (ae []) t key value)/\gx K w w':=by
 obtain⟨S,k,h1,h5,h6,h7,h8,h9,h10,h11⟩:=h;refine(zY h1 (h6.over T fun x j=>(h7 x j).2) key value g i).mono ?_;rintro e w' ⟨f,d⟩;obtain⟨a,b⟩:=Own.now h6 h7 h8 h9 h10 h11 d (xR h1.ok h5);exact⟨f,a,b⟩
theorem Own.del{K w sb c t}(h:Own K w sb c t)(T:az w)(key:yB)(g:key.size<=maxLen):
 Calls yP 35 #[pV (qA c),sV key] w fun e w'=>e=rV (tV #[bV (aW (ae []) t key).2.1,iV .i64 ((aW (ae []) t key).2.2:Int)])/\Own K w' sb c (aW (ae []) t key).1/\gx K w w':=by
 obtain⟨S,j,h1,h5,h6,h7,h8,h9,h10,h11⟩:=h;refine(Ap h1 h5 (h6.over T fun x i=>(h7 x i).2) h9 key g).mono ?_;rintro e w' ⟨f,d⟩;obtain⟨a,b⟩:=Own.now h6 h7 h8 h9 h10 h11 d (zB h1.ok h5);exact⟨f,a,b⟩
theorem Own.get{K w sb c t}(h:Own K w sb c t)(T:az w)(key:yB)(g:key.size<=maxLen):
 Calls yP 37 #[pV (qA c),sV key] w fun e w'=>e=rV (tV #[sV (iQ (ae []) t key),iV .i64 (cE (ae []) t key:Int)])/\Own K w' sb c (bg (ae []) t key)/\gx K w w':=by
 obtain⟨S,j,h1,h5,h6,h7,h8,h9,h10,h11⟩:=h;refine(Al h1 (h6.over T fun x i=>(h7 x i).2) key g).mono ?_;rintro e w' ⟨f,d⟩;obtain⟨a,b⟩:=Own.now h6 h7 h8 h9 h10 h11 d (qS h1.ok h5);exact⟨f,a,b⟩
theorem Own.prove{K w sb c t}(h:Own K w sb c t)(T:az w)(key:yB)(g:key.size<=maxLen):
 Calls yP 45 #[pV (qA c),sV key] w fun e w'=>(∃v,e=rV (tV #[v,iV .i64 (cE (ae []) t key:Int)])/\w'.ownsRow w.heap.size 9 1 v (bj (ae []) t key).length (jO (bj (ae []) t key)))/\Own K w' sb c (bg (ae []) t key)/\gx K w w':=by
 obtain⟨S,j,h1,h5,h6,h7,h8,h9,h10,h11⟩:=h;refine(QL h1 (h6.over T fun x i=>(h7 x i).2) key g).mono ?_;rintro e w' ⟨f,d⟩;obtain⟨a,b⟩:=Own.now h6 h7 h8 h9 h10 h11 d (qS h1.ok h5);exact⟨f,a,b⟩
theorem Own.root{K w sb a t}(h:Own K w sb a t)(T:az w):
 Calls yP 38 #[pV (qA a)] w fun e w'=>e=rV (sV (str (bM t)))/\Own K w' sb a t/\yW w w':=by
 have c:=h;obtain⟨S,f,⟨⟨u,h1,h2⟩,h3,h4⟩,_⟩:=h;refine(pM w a _ u t S h1 h2 h3.aJ T).mono ?_;rintro e w' ⟨d,b⟩;exact⟨d,c.below b,b⟩
theorem CP{w w1 w2:World}{b:Nat}{u:Option Addr}(h3:3<=w.heap.size)(i:fR 3 w1 w.heap.size (fun _=>lV none 0 0) [])(l:w.heap.size<w1.heap.size)
 (h1:w1.heap.size<=b) (h2:eU w2 b (qA w.heap.size) u) (h4:At w2 .nil (fun x=>w1.heap.size<=x/\x≠b) (pV u)) (f:yW w1 w2):Own (fun x=>x<w.heap.size) w2 w.heap.size b .nil:=by
 have d:∀x,bW w.heap.size (fun _=>Value.slice none 0 0) x->x=w.heap.size:=fun x a=>by
  rcases a with h|⟨c,_,h⟩
  ·exact h
  ·simp[Value.ownBlock] at h
 have m:=f.size;refine⟨fun _=>False,fun _=>lV none 0 0,⟨⟨u,h2,?_⟩,lB 0,fun x a=>a.elim⟩,trivial,⟨i.kept fun k j=>f.block k (by rw[d k j];exact l),by decide,(fun h t e=>by cases e),fun x a=>by rw[d x a];exact h3⟩,fun x a=>a.elim,by omega,fun h=>by have:=d b h;omega,fun x a=>by rw[d x a];omega,fun x a=>by omega⟩;have g:=h4;exact g
def ik:yB:=⟨#[100,101,116,111,117,114]⟩
def xB:yB:=⟨#[120]⟩
def bJ:yB->Option yB:=ae []
def fe(n:Nat)(a:Int)(i:Nat):Nat:=if a.tmod 2=0 then n - 1 - i else(i+bO a n) % n
def lT(t:Nd)(key:yB):Nd:=(aW bJ (bC bJ t key xB) key).1
def kN(a:Int)(t:Nd)(p:yB×yB):Nd:=bC bJ (if a.tmod 3=0 then lT t p.1 else t) p.1 p.2
def dN(m:List (yB×yB))(a:Int):Nat->Nd
 | 0=>.nil
 |i+1=>kN a (dN m a i) (m.getD (fe m.length a i) (⟨#[]⟩,⟨#[]⟩))
def aP(m:List (yB×yB))(a:Int):Nd:=
 if a.tmod 5=0/\(dj m ik).size=0 then lT (dN m a m.length) ik else dN m a m.length
theorem uU(n:Nat)(a:Int)(i:Nat)(h:i<n):fe n a i<n:=by
 unfold fe;split
 ·omega
 ·exact Nat.mod_lt _ (by omega)
theorem Own.Gl{w:World}{g o v}(h:w.cell? ⟨g,o,none⟩=some v):g<w.heap.size:=by
 rcases Nat.lt_or_ge g w.heap.size with b|a
 ·exact b
 ·unfold World.cell? at h;rw[show(⟨g,o,none⟩:Addr).block=g from rfl,Rk a] at h;cases h
structure jn(w:World)(sb tb:Nat)(t:Nd)(bx:Nat)(k v:yB)(w':World):Prop where
 own:Own (fun x=>x<w.heap.size\/x=bx) w' sb tb t
 c0:w'.cell? ⟨bx,0,none⟩=some (sV k)
 c1:w'.cell? ⟨bx,1,none⟩=some (sV v)
 below:yW w w'
theorem EA{w W:World}{sb d t}(k v)(h:Own (fun x=>x<w.heap.size) W sb d t)(c:yW w W):jn w sb d t W.heap.size k v (W.alloc (.cells #[sV k,sV v] 91)):=by
 have b:yW W (W.alloc (.cells #[sV k,sV v] 91)):=(Q1 _ _).alloc (QU _) _;refine⟨(h.more b).less fun x a=>?_,?_,?_,c.trans (b.mono c.size)⟩
 ·rcases a with a|a
  ·exact .inl a
  ·exact .inr ⟨by omega,by simp;omega⟩
 ·rw[Q5 _ _ 0 _ _ _ (Rl W _)];rfl
 ·rw[Q5 _ _ 1 _ _ _ (Rl W _)];rfl
theorem jn.lt{w w' sb b t a k v}(h:jn w sb b t a k v w'):a<w'.heap.size:=h.own.lt a (.inr rfl)
theorem jn.step{w w1 w2 sb c t d a k v}(h:jn w sb c t a k v w1)(e:Own (fun x=>x<w.heap.size\/x=a) w2 sb c d)(b:gx (fun x=>x<w.heap.size\/x=a) w1 w2):jn w sb c d a k v w2:=
 ⟨e,b.cell (.inr rfl) h.lt h.c0,b.cell (.inr rfl) h.lt h.c1,h.below.trans ((b.less fun _ hx=>.inl hx).below h.below.size)⟩
theorem jn.put{w w1 sb a t b k v}(h:jn w sb a t b k v w1)(T:az w1)(key value:yB)(d:key.size<=maxLen)(f:value.size<=maxLen):
 Calls yP 31 #[pV (qA a),sV key,sV value] w1 fun e w'=>(∃c,e=rV (iV .i64 c))/\jn w sb a (bC bJ t key value) b k v w':=
 (h.own.put T key value d f).mono fun _ _ ⟨h1,h2,h3⟩=>⟨⟨_,h1⟩,h.step h2 h3⟩
theorem jn.del{w w1 sb a t d k v}(h:jn w sb a t d k v w1)(T:az w1)(key:yB)(f:key.size<=maxLen):
 Calls yP 35 #[pV (qA a),sV key] w1 fun e w'=>(∃b c,e=rV (tV #[bV b,iV .i64 c]))/\jn w sb a (aW bJ t key).1 d k v w':=
 (h.own.del T key f).mono fun _ _ ⟨h1,h2,h3⟩=>⟨⟨_,_,h1⟩,h.step h2 h3⟩
theorem pZ(a:Int)(k:Int):(a.tmod k == 0)=decide (a.tmod k=0):=by
 by_cases h:a.tmod k=0<;>simp[h]
theorem yR(w v m)(f:Int)(hm:dP w v m)(hn:m.length<4200000000000)(hr:Rg f)(D2:∀p∈m,p.1.size<=maxLen/\p.2.size<=maxLen)(T:az w):
 Calls yP 44 #[v,iV .i64 f] w fun e w'=>∃sb l,e=rV (pV (qA l))/\Own (fun x=>x<w.heap.size) w' sb l (aP m f)/\yW w w':=by
 have h3:=T.size;obtain⟨a,cap,rfl⟩:=hm.form;have HT:Hid (∀W,yW w W->az W):=fun W n=>T.below n
 have B9:Hid (Calls yP 10 #[] w fun e w'=>e=rV (pV (qA w.heap.size))/\Hid (fR 3 w' w.heap.size (fun _=>lV none 0 0) [])/\Hid (yW w w')/\w.heap.size<w'.heap.size):=(so 3 w).mono fun e w' ⟨h1,h2,h3⟩=>⟨h1,h2,h3,h2.dQ _ (.inl rfl)⟩
 have B8:Hid (∀W,yW w W->Calls yP 11 #[] W fun e w'=>e=rV (sV (str cw))/\yW W w'):=fun W n=>og W (T.below n)
 have C1:Hid (∀W,yW w W->Calls yP 12 #[pV (qA w.heap.size),sV (str cw)] W fun e w'=>∃l u,e=rV (tV #[pV (qA l),iV .i64 0])/\W.heap.size<=l/\eU w' l (qA w.heap.size) u/\At w' .nil (fun x=>W.heap.size<=x/\x≠l) (pV u)/\yW W w'):=fun W n=>by
  have:=rn W (qA w.heap.size) cw (jY _) (T.below n);have e:cl cw=.nil:=by unfold cl;rw[QX rfl]
  rw[e] at this;exact this
 have X:Hid (∀k (_:k<m.length),∃p q g,m.getD k (⟨#[]⟩,⟨#[]⟩)=(p,q)/\a=some ⟨g,0,none⟩/\(∀W,yW w W->W.cell? ⟨g,k*2,none⟩=some (sV p)/\W.cell? ⟨g,k*2+1,none⟩=some (sV q))/\p.size<=maxLen/\q.size<=maxLen):=fun k y=>by
  have hp:m[k]? =some m[k]:=QV y;obtain⟨g,e,_,c,d⟩:=hm.at_ k _ hp;obtain⟨s1,s2⟩:=D2 _ (RV y);exact⟨_,_,g,by rw[Q3,hp];rfl,e,fun W n=>⟨dC n c,dC n d⟩,s1,s2⟩
 have D7:Hid (∀W,yW w W->Calls yP 36 #[lV a m.length cap,sV ik] W fun e w'=>e=rV (sV (dj m ik))/\w'=W):=fun W n=>mY W _ m ik (hm.below n) hn
 have B0:Hid (∀W,0<m.length->Calls yP 13 #[iV .i64 f,iV .i64 m.length] W fun e w'=>e=rV (iV .i64 (bO f m.length))/\w'=W):=fun W h0=>pk f _ hr h0 (by omega) W
 have A8:Hid (∀i,dN m f (i+1)=kN f (dN m f i) (m.getD (fe m.length f i) (⟨#[]⟩,⟨#[]⟩))):=fun i=>rfl
 have A6:Hid (∀i,i<m.length->fe m.length f i<m.length):=fun i h=>uU _ _ _ h
 have A5:Hid (∀i,fe m.length f i=if f.tmod 2=0 then m.length - 1 - i else(i+bO f m.length) % m.length):=fun i=>rfl
 have B1:Hid (aP m f=if f.tmod 5=0/\(dj m ik).size=0 then lT (dN m f m.length) ik else dN m f m.length):=rfl;have O:Hid (∀sb l t L k v W key value,jn w sb l t L k v W->key.size<=maxLen->value.size<=maxLen->Calls yP 31 #[pV (qA l),sV key,sV value] W fun e w'=>(∃c,e=rV (iV .i64 c))/\jn w sb l (bC bJ t key value) L k v w'):=fun sb l t L k v W key value E y hv=>E.put (T.below E.below) key value y hv
 have B7:Hid (∀sb l t L k v W key,jn w sb l t L k v W->key.size<=maxLen->Calls yP 35 #[pV (qA l),sV key] W fun e w'=>(∃b c,e=rV (tV #[bV b,iV .i64 c]))/\jn w sb l (aW bJ t key).1 L k v w'):=fun sb l t L k v W key E y=>E.del (T.below E.below) key y
 have E0:Hid (∀sb l t W key value,Own (fun x=>x<w.heap.size) W sb l t->yW w W->key.size<=maxLen->value.size<=maxLen->Calls yP 31 #[pV (qA l),sV key,sV value] W fun e w'=>(∃c,e=rV (iV .i64 c))/\Own (fun x=>x<w.heap.size) w' sb l (bC bJ t key value)/\yW w w'):=fun sb l t W key value E n y hv=>
  (E.put (T.below n) key value y hv).mono fun e w' ⟨h1,h2,h3⟩=>⟨⟨_,h1⟩,h2,n.trans (h3.below n.size)⟩
 have D6:Hid (∀sb l t W key,Own (fun x=>x<w.heap.size) W sb l t->yW w W->key.size<=maxLen->Calls yP 35 #[pV (qA l),sV key] W fun e w'=>(∃b c,e=rV (tV #[bV b,iV .i64 c]))/\Own (fun x=>x<w.heap.size) w' sb l (aW bJ t key).1/\yW w w'):=fun sb l t W key E n y=>
  (E.del (T.below n) key y).mono fun e w' ⟨h1,h2,h3⟩=>⟨⟨_,_,h1⟩,h2,n.trans (h3.below n.size)⟩
 clear hm D2 T;obtain⟨F0,F1⟩:=hr;generalize m.length=N at*;generalize dj m ik=HD at*;generalize aP m f=R at*;go_enter func44,ntmps44
 go_wp2_with fail
 refine B9.out.mono ?_;rintro e w1 ⟨rfl,A9,Y,E8⟩;clear B9;go_wp2_with fail
 refine(B8.out w1 Y.out).mono ?_;rintro e w2 ⟨rfl,A2⟩;have A4:=aa (Y.out.trans (A2.mono Y.out.size));have C2:Hid (fR 3 w2 w.heap.size (fun _=>lV none 0 0) []):=A9.out.kept fun k y=>A2.block k (A9.out.dQ k y)
 have D1:w.heap.size<w2.heap.size:=by have:=A2.size;omega
 clear A2 B8 A9;go_wp2_with fail
 refine(C1.out w2 A4.out).mono ?_;rintro e w3 ⟨l,u,rfl,h1,h2,h4,B3⟩;have D4:=aa (A4.out.trans (B3.mono A4.out.size));have D8:=aa (CP h3 C2.out D1 h1 h2 h4 B3);clear h1 h2 h4 B3 C1 C2 Y E8 D1;go_wp2_with fail
 go_loopg [10] N (fun g r wr=>∃i:Nat,g=N - i/\i<=N/\r=iV .i64 i/\Hid (Own (fun x=>x<w.heap.size) wr w.heap.size l (dN m f i))/\Hid (yW w wr))
 case atStart=>exact⟨0,rfl,by omega,rfl,D8,D4⟩
 case round=>
  obtain⟨i,hg,hi,rfl,G,B⟩:=hrel;have Z:=aa hg;clear hg;by_cases E6:i<N
  ·have E5:(i:Int)<(N:Int):=by omega
   have A0:Hid (∀W,Calls yP 13 #[iV .i64 f,iV .i64 N] W fun e w'=>e=rV (iV .i64 (bO f N))/\w'=W):=fun W=>B0.out W (by omega)
   obtain⟨j,hj⟩:=yX (fe N f i)
   have C9:=A6.out i E6;have M:=A5.out i;have A7:=A8.out i;rw[<-hj] at C9 M A7;obtain⟨q,hq⟩:=yX ((i+bO f N) % N)
   have F2:bO f N<N:=kz f N (by omega);rw[<-hq] at M;have E7:q<N:=by rw[hq];exact Nat.mod_lt _ (by omega)
   have qI:((i:Int)+(bO f N:Int)) % (N:Int)=(q:Int):=by rw[hq];simp
   have F3:(q:Int)<(N:Int):=by omega
   obtain⟨p1,v1,g,_,rfl,C7,_,_⟩:=X.out q E7;obtain⟨p2,v2,g2,C8,U,B4,D0,D3⟩:=X.out j C9;injection U with U;injection U with U _;subst U;obtain⟨c1,c2⟩:=C7 wr B.out;obtain⟨d1,d2⟩:=B4 wr B.out;have E9:=aa B4;have A1:Hid (dN m f (i+1)=kN f (dN m f i) (p2,v2)):=by rw[A7,C8];rfl
   have s:Hid (p2.size<=maxLen/\v2.size<=maxLen):=⟨D0,D3⟩
   have hz:=B.out.size;generalize bO f N=r at*;clear C7 B4 A7 C8 hj hq D0 D3 B0 A8 A6 A5 X;generalize wr=WR at*;generalize gk=GK at*;by_cases A3:f.tmod 2=0
   ·rw[QX A3] at M;have E3:(f.tmod 2 == 0)=true:=by rw[A3];rfl
    have E4:=Own.Gl d1;subst M;go_wp2_with fail
    refine(A0.out _).mono ?_;rintro e C ⟨rfl,V⟩;subst V;have K:=aa (EA p2 v2 G.out B.out);clear G A0;by_cases D:f.tmod 3=0
    ·have B2:(f.tmod 3 == 0)=true:=by rw[D];rfl
     have I:Hid (dN m f (i+1)=bC bJ (aW bJ (bC bJ (dN m f i) p2 xB) p2).1 p2 v2):=by rw[A1.out];show _=_;unfold kN lT;rw[QX D]
     go_wp2_with fail
     refine(O.out _ _ _ _ _ _ _ p2 xB K.out s.out.1 (by decide)).mono ?_;rintro e w4 ⟨⟨c,rfl⟩,F⟩;have d0:=F.c0;have hl:=F.lt;have S:=aa F;clear F;go_wp2_with fail
     refine(B7.out _ _ _ _ _ _ _ p2 S.out s.out.1).mono ?_;rintro e w5 ⟨⟨b,c,rfl⟩,A⟩;have e0:=A.c0;have e1:=A.c1;have B5:=A.lt;have z:=aa A;clear A d0 hl S;go_wp2_with fail
     refine(O.out _ _ _ _ _ _ _ p2 v2 z.out s.out.1 s.out.2).mono ?_;rintro e w6 ⟨⟨c,rfl⟩,o⟩;have J:Hid (Own (fun x=>x<w.heap.size) w6 w.heap.size l (dN m f (i+1))):=by rw[I.out];exact o.own.less fun _ h=>.inl h
     have H:=aa o.below;clear o z e0 e1 B5;go_wp2_with fail
     go_roundg (N - (i+1))
     case measure=>have:=Z.out;omega
     case rel=>exact⟨i+1,rfl,by omega,by go_num,J,H⟩
    ·have B2:(f.tmod 3 == 0)=false:=by rw[pZ];exact Q9 D
     have I:Hid (dN m f (i+1)=bC bJ (dN m f i) p2 v2):=by rw[A1.out];show _=_;unfold kN;rw[QW D]
     have z:=K;go_wp2_with fail
     refine(O.out _ _ _ _ _ _ _ p2 v2 z.out s.out.1 s.out.2).mono ?_;rintro e w6 ⟨⟨c,rfl⟩,o⟩;have J:Hid (Own (fun x=>x<w.heap.size) w6 w.heap.size l (dN m f (i+1))):=by rw[I.out];exact o.own.less fun _ h=>.inl h
     have H:=aa o.below;clear o z K;go_wp2_with fail
     go_roundg (N - (i+1))
     case measure=>have:=Z.out;omega
     case rel=>exact⟨i+1,rfl,by omega,by go_num,J,H⟩
   ·rw[QW A3] at M;have E3:(f.tmod 2 == 0)=false:=by rw[pZ];exact Q9 A3
    have E4:=Own.Gl d1;subst M;have e1:p1=p2:=by have:=c1.symm.trans d1;injection this with this;injection this
    have e2:v1=v2:=by have:=c2.symm.trans d2;injection this with this;injection this
    subst e1 e2;go_wp2_with fail
    refine(A0.out _).mono ?_;rintro e C ⟨rfl,V⟩;subst V;have K:=aa (EA p1 v1 G.out B.out);clear G A0;by_cases D:f.tmod 3=0
    ·have B2:(f.tmod 3 == 0)=true:=by rw[D];rfl
     have I:Hid (dN m f (i+1)=bC bJ (aW bJ (bC bJ (dN m f i) p1 xB) p1).1 p1 v1):=by rw[A1.out];show _=_;unfold kN lT;rw[QX D]
     go_wp2_with fail
     refine(O.out _ _ _ _ _ _ _ p1 xB K.out s.out.1 (by decide)).mono ?_;rintro e w4 ⟨⟨c,rfl⟩,F⟩;have d0:=F.c0;have hl:=F.lt;have S:=aa F;clear F;go_wp2_with fail
     refine(B7.out _ _ _ _ _ _ _ p1 S.out s.out.1).mono ?_;rintro e w5 ⟨⟨b,c,rfl⟩,A⟩;have e0:=A.c0;have e1:=A.c1;have B5:=A.lt;have z:=aa A;clear A d0 hl S;go_wp2_with fail
     refine(O.out _ _ _ _ _ _ _ p1 v1 z.out s.out.1 s.out.2).mono ?_;rintro e w6 ⟨⟨c,rfl⟩,o⟩;have J:Hid (Own (fun x=>x<w.heap.size) w6 w.heap.size l (dN m f (i+1))):=by rw[I.out];exact o.own.less fun _ h=>.inl h
     have H:=aa o.below;clear o z e0 e1 B5;go_wp2_with fail
     go_roundg (N - (i+1))
     case measure=>have:=Z.out;omega
     case rel=>exact⟨i+1,rfl,by omega,by go_num,J,H⟩
    ·have B2:(f.tmod 3 == 0)=false:=by rw[pZ];exact Q9 D
     have I:Hid (dN m f (i+1)=bC bJ (dN m f i) p1 v1):=by rw[A1.out];show _=_;unfold kN;rw[QW D]
     have z:=K;go_wp2_with fail
     refine(O.out _ _ _ _ _ _ _ p1 v1 z.out s.out.1 s.out.2).mono ?_;rintro e w6 ⟨⟨c,rfl⟩,o⟩;have J:Hid (Own (fun x=>x<w.heap.size) w6 w.heap.size l (dN m f (i+1))):=by rw[I.out];exact o.own.less fun _ h=>.inl h
     have H:=aa o.below;clear o z K;go_wp2_with fail
     go_roundg (N - (i+1))
     case measure=>have:=Z.out;omega
     case rel=>exact⟨i+1,rfl,by omega,by go_num,J,H⟩
  ·obtain rfl:i=N:=by omega
   have E5:¬(i:Int)<(i:Int):=by omega
   clear X B0 A8 A6 A5;by_cases h5:f.tmod 5=0
   ·have E1:(f.tmod 5 == 0)=true:=by rw[h5];rfl
    go_wp2_with fail
    refine(D7.out _ B.out).mono ?_;rintro e C ⟨rfl,V⟩;subst V;by_cases P:HD.size=0
    ·have E2:HD.toList.isEmpty=true:=by rw[gH];exact P
     have Q:Hid (R=lT (dN m f i) ik):=by rw[B1.out,QX ⟨h5,P⟩];rfl
     clear P;go_wp2_with fail
     refine(E0.out _ _ _ _ ik xB G.out B.out (by decide) (by decide)).mono ?_;rintro e w4 ⟨⟨c,rfl⟩,C5,C3⟩;have C0:=aa C5;have B6:=aa C3;clear C5 C3 G B;go_wp2_with fail
     refine(D6.out _ _ _ _ ik C0.out B6.out (by decide)).mono ?_;rintro e w5 ⟨⟨b,c,rfl⟩,C6,C4⟩;have D9:=aa C6;have D5:=aa C4;clear C6 C4 C0 B6;go_wp2_with fail
     go_ret
     exact⟨_,_,rfl,by rw[Q.out];exact D9.out,D5.out⟩
    ·have E2:HD.toList.isEmpty=false:=by rw[gT];exact P
     have Q:Hid (R=dN m f i):=by rw[B1.out,QW (fun h=>P h.2)];rfl
     clear P;go_wp2_with fail
     go_ret
     exact⟨_,_,rfl,by rw[Q.out];exact G.out,B.out⟩
   ·have E1:(f.tmod 5 == 0)=false:=by rw[pZ];exact Q9 h5
    have Q:Hid (R=dN m f i):=by rw[B1.out,QW (fun h=>h5 h.1)];rfl
    go_wp2_with fail
    go_ret
    exact⟨_,_,rfl,by rw[Q.out];exact G.out,B.out⟩
theorem Is(ks:Nat->Nd)(c:Nat):aD ks c (ks c)=ks:=by
 funext i
 by_cases e:i=c
 ·subst e;exact df _ _ _
 ·exact dJ _ _ _ _ e
theorem LQ(G:yB->Option yB):∀(f:Nat) (t) (p) (dep:Nat) (bl:Bool),bA t->ak p->cV G f t p dep bl=(t,0):=by
 intro f;induction f with
 |zero=>intro t p dep bl _ _;rfl
 |succ f ih=>
  intro t p dep bl a b;show kS t (fun t1=>fJ (cV G f) t1 p dep) (cf G t dep bl)=_;rw[qp a];show fJ (cV G f) t p dep=_;cases t with
  |nil=>rfl
  |unread _=>exact a.elim
  |leaf _ _ _=>rfl
  |ext h q k=>
   simp only[fJ];rw[ih k (p.drop q.length) (dep+q.length) true a (cS b _)];split<;>rfl
  |branch h v ks=>
   cases p with
   |nil=>rfl
   |cons c r=>
    simp only[fJ];rw[ih (ks c.toNat) r (dep+1) false (a _ (b c (QY ..))) fun y d=>b y (QZ _ d),Is]
theorem kX{G t}(key)(a:bA t):aE G t key=(t,0):=LQ G 81 t (aC key) 0 false a (ch key)
theorem Ol{G t}(key)(a:bA t):bg G t key=t:=by
 unfold bg;split
 ·rfl
 ·rw[kX key a]
theorem Cj{G t}{key:yB}(a:bA t)(b:key.size<=40):bj G t key=eG 81 t (aC key) 0:=by
 unfold bj;rw[QW (by omega),kX key a,QX rfl]
theorem uI{G t}(key value)(a:bA t):bA (bC G t key value):=by
 unfold bC;split
 ·unfold jt;rw[kX key a];exact wL a (ch key)
 ·unfold fb;split
  ·exact a
  ·split
   ·exact a
   ·rw[kX key a];exact a
theorem FH{G t}(key)(a:bA t):bA (aW G t key).1:=by
 unfold aW;rw[kX key a];split
 ·exact a
 ·split
  ·exact a
  ·split
   ·exact a
   ·cases hl:aV G t (aC key) 0 with
    |error e=>exact a
    |ok t'=>exact np.less_all G _ _ _ _ a hl
theorem q8(m)(a:Int):∀i,bA (dN m a i)
 | 0=>trivial
 |i+1=>by
  show bA (kN a (dN m a i) _)
  have b:=q8 m a i
  unfold kN lT
  split
  ·exact uI _ _ (FH _ (uI _ _ b))
  ·exact uI _ _ b
theorem zK(m)(a:Int):bA (aP m a):=by
 unfold aP lT;split
 ·exact FH _ (uI _ _ (q8 m a _))
 ·exact q8 m a _
theorem Ig:∀(f:Nat) (t) (r) (d:Nat),aw t d->bA t->ak r->(eG f t r d).length<=f/\∀c∈eG f t r d,c.length<=4096:=by
 intro f;induction f with
 |zero=>intro t r d _ _ _;exact⟨QU _,fun c h=>by cases h⟩
 |succ f ih=>
  intro t r d e g l;by_cases i:t.isNil=true
  ·simp only[eG,QX i];exact⟨Ri _,fun c h=>by cases h⟩
  ·have o:t.some:=(gn t).1 (by simpa using i);have n:=g.read o;have j:aw (aA t r d).1 (aA t r d).2.2.1/\bA (aA t r d).1/\ak (aA t r d).2.1:=by
    have b:aw (Nd.nil) 0/\bA .nil/\ak []:=⟨lB 0,trivial,fun _ h=>by cases h⟩
    cases t with
    |nil=>exact b
    |unread _=>exact b
    |leaf _ _ _=>exact b
    |ext h q k=>
     simp only[aA];split
     ·exact⟨dY e,g,cS l _⟩
     ·exact b
    |branch h v ks=>
     cases r with
     |nil=>exact b
     |cons c r=>
      have a:=l c (QY ..);exact⟨di e _ a,g _ a,fun y p=>l y (QZ _ p)⟩
   obtain⟨i1,i2⟩:=ih _ _ _ j.1 j.2.1 j.2.2;simp only[eG,QW i];have m:(dZ t d).length<=1/\∀c∈dZ t d,c.length<=4096:=by
    unfold dZ;split
    ·exact⟨QU _,fun c a=>by rw[Q2.1 a];exact(e.aJ.nw n).2⟩
    ·exact⟨Ri _,fun c h=>by cases h⟩
   exact⟨by rw[Q4];omega,fun c a=>(Re.1 a).elim (m.2 c) (i2 c)⟩
theorem yQ{a b}(h:aC a=aC b):a=b:=by
 unfold aC at h;have:=congrArg gi h;rw[sr,sr] at this;exact Go.WideShapes.bytes_inj this
theorem fZ(a b:yB):(a.toList == b.toList)=decide (a=b):=by
 rw[ByteArray.toList_eq,ByteArray.toList_eq];by_cases h:a=b
 ·subst h;simp
 ·rw[Q9 h,RW];exact fun e=>h (Go.WideShapes.bytes_inj e)
def fY:List (yB×yB)->yL->yL
 | [],_=>[]
 |p::m,x=>if aC p.1=x then p.2.data.toList else fY m x
theorem sI:∀(m) (key),fY m (aC key)=(dj m key).data.toList
 | [],key=>rfl
 |p::m,key=>by
  have a:=sI m key
  unfold dj at a⊢
  simp only[fY,ae,fZ]
  by_cases e:p.1=key
  ·rw[QX (by rw[e]),QX (Ra e)];rfl
  ·rw[QW fun h=>e (yQ h),QW (by rw[Q9 e];exact Bool.false_ne_true),a]
theorem vt:∀(a b) (x),(∀p∈a,aC p.1≠x)->fY (a++b) x=fY b x
 | [],b,x,_=>rfl
 |p::a,b,x,h=>by
  show(if aC p.1=x then _ else fY (a++b) x)=_
  rw[QW (h p (QY ..)),vt a b x fun q c=>h q (QZ _ c)]
theorem DN:∀(m) (key) (b) (x),x≠aC key->(∀p∈b,aC p.1≠x)->fY (others m key++b) x=fY m x
 | [],key,b,x,_,hb=>by have:=vt b [] x hb;simpa [others,fY] using this
 |p::m,key,b,x,hx,hb=>by
  have a:=DN m key b x hx hb
  unfold others at a⊢
  by_cases e:p.1=key
  ·have:(!(p.1.toList == key.toList))=false:=by rw[fZ,Ra e];rfl
   rw[List.filter_cons_of_neg (by simp[this]),a]
   simp only[fY]
   rw[QW (by rw[e];exact fun h=>hx h.symm)]
  ·have:(!(p.1.toList == key.toList))=true:=by rw[fZ,Q9 e];rfl
   rw[List.filter_cons_of_pos (by simp[this])]
   simp only[List.cons_append,fY,a]
theorem CQ(m key):∀p∈others m key,p.1≠key:=fun p a e=>by
 unfold others at a
 have:=(List.mem_filter.1 a).2
 rw[fZ,Ra e] at this
 cases this
theorem sH(m key value x):fY (cz m key value) x=if x=aC key then value.data.toList else fY m x:=by
 unfold cz;by_cases e:x=aC key
 ·rw[QX e,vt _ _ _ fun p a h=>CQ m key p a (yQ (h.trans e))];split
  ·next h0=>
   have:value.data.toList=[]:=Rm.1 (by simpa using h0);rw[this];rfl
  ·simp only[fY];rw[QX e.symm]
 ·rw[QW e];refine DN m key _ x e ?_;split
  ·exact fun p h=>by cases h
  ·intro p a;rw[Q2.1 a];exact fun h=>e h.symm
structure gv(m:List (yB×yB))(F:Nd):Prop where
 ok:aw F 0
 loose:bD F
 all:bA F
 find:∀x,ak x->aG F x=fY m x
theorem gv.congr{m b F}(h:gv m F)(c:∀x,ak x->fY m x=fY b x):gv b F:=⟨h.ok,h.loose,h.all,fun x a=>(h.find x a).trans (c x a)⟩
theorem IB:gv [] .nil:=⟨lB 0,trivial,trivial,fun _ _=>rfl⟩
theorem AJ{m F}(h:gv m F)(key value:yB)(g:key.size<=40)(h0:0<value.size)(i:value.size<=160):gv (cz m key value) (bF F (aC key) value.data.toList):=by
 have c:value.data.toList.length=value.size:=by simp
 have d:value.data.toList≠[]:=fun e=>by rw[e] at c;simp at c;omega
 have a:=o8 h.all (ch key);have b:=wK h.ok a (ch key) (by rw[gA];omega) d (by omega);refine⟨b,(wU h.loose a).loose,wL h.all (ch key),fun x f=>?_⟩;rw[FA h.ok.aJ h.ok.bu a (ch key) d b.bu x f,sH,h.find x f]
theorem DQ{F p dep}(d:aw F dep)(e:bD F)(a:bA F)(j:jo F p)(f:ak p)(i:dep+p.length<=80):∃b,aV gR F p dep=.ok b:=by
 have g:pK gR False (fun _=>False):=fun c h=>h.elim
 rcases Cx g F F p dep (Part.refl a) d d e e a (o8 a f) j f i with⟨k,b,h1,_⟩|⟨h,_⟩
 ·exact⟨k,h1⟩
 ·exact h.elim
theorem AL{m F a}(h:gv m F)(key:yB)(g:key.size<=40)(d:jo F (aC key))(b:aV gR F (aC key) 0=.ok a):gv (cz m key ⟨#[]⟩) a:=by
 have f:=o8 h.all (ch key);have c:0+(aC key).length<=80:=by rw[gA];omega
 obtain⟨h1,_⟩:=kD gR F (aC key) 0 a h.ok h.loose f d (ch key) c b;refine⟨h1.ok,h1.tight.loose,np.less_all gR _ _ _ _ h.all b,fun x e=>?_⟩;rw[np gR F (aC key) 0 a h.ok h.loose h.all d (ch key) c b x e,sH,h.find x e]
theorem AK{m F}(h:gv m F)(key)(h0:aG F (aC key)=[]):gv (cz m key ⟨#[]⟩) F:=by
 refine h.congr fun x a=>?_
 rw[sH];by_cases e:x=aC key
 ·rw[QX e,e,<-h.find _ (ch key),h0]
 ·rw[QW e]
theorem IA{G m F}(h:gv m F)(key value:yB)(a:key.size<=40)(h0:0<value.size)(b:value.size<=160):gv (cz m key value) (bC G F key value):=by
 have e:bX G F key value=0:=by unfold bX;rw[QW (by omega),QW (by omega),kX key h.all]
 unfold bC;rw[QX e];unfold jt;rw[kX key h.all];exact AJ h key value a h0 b
theorem DS(G b:yB->Option yB):∀(F) (p) (dep:Nat),bA F->ak p->aV G F p dep=aV b F p dep:=by
 have j:∀(ks:Nat->Nd) (v:yL) (dep:Nat),(∀i,i<16->bA (ks i))->bR G ks v dep=bR b ks v dep:=fun ks v dep a=>by
  unfold bR;by_cases h0:bU ks 16=0
  ·rw[QX h0,QX h0]
  ·obtain⟨g,_⟩:=lC ks 16 (by omega);rw[qp (a _ g),qp (a _ g)]
 intro F;induction F with
 |nil=>intro p dep _ _;rfl
 |unread _=>intro p dep h;exact h.elim
 |leaf _ _ _=>intro p dep _ _;rfl
 |ext h q k ih=>
  intro p dep a d;show iD q (aV G k _ _)=iD q (aV b k _ _);rw[ih _ _ a (cS d _)]
 |branch h v ks ih=>
  intro p dep a d;cases p with
  |nil=>exact j ks [] dep a
  |cons c r=>
   show lU (fun k=>bR G (aD ks c.toNat k) v dep) (aV G (ks c.toNat) r (dep+1))=lU (fun k=>bR b (aD ks c.toNat k) v dep) (aV b (ks c.toNat) r (dep+1));have f:=d c (QY ..);rw[ih c.toNat r (dep+1) (a _ f) fun y l=>d y (QZ _ l)];cases hk:aV b (ks c.toNat) r (dep+1) with
   |error e=>rfl
   |ok k=>exact j _ v dep (tW a (np.less_all b _ _ _ _ (a _ f) hk))
theorem ID{G m F}(h:gv m F)(key:yB)(d:key.size<=40):gv (cz m key ⟨#[]⟩) (aW G F key).1/\(aW G F key).2.2=0/\(aW G F key).2.1=decide ((dj m key).size≠0):=by
 have a:aG F (aC key)=(dj m key).data.toList:=(h.find _ (ch key)).trans (sI m key);have c:(dj m key).data.toList.length=(dj m key).size:=by simp
 unfold aW;rw[QW (by omega),kX key h.all,QW (by simp)];by_cases h0:aG F (aC key)=[]
 ·rw[QX h0];refine⟨AK h key h0,rfl,?_⟩;rw[a] at h0;rw[h0] at c;simp at c;exact(Q9 (by omega)).symm
 ·rw[QW h0];have b:=ov _ _ h0;obtain⟨f,e⟩:=DQ h.ok h.loose h.all b (ch key) (by rw[gA];omega);rw[DS G gR F _ 0 h.all (ch key),e];refine⟨AL h key d b e,rfl,?_⟩;rw[a] at h0;refine(Ra ?_).symm;intro e2;exact h0 (Rm.1 (by omega))
structure kh(m:List (yB×yB)):Prop where
 once:(m.map (·.1)).Nodup
 size:∀p∈m,p.1.size<=40/\0<p.2.size/\p.2.size<=160
theorem DI:kh []:=⟨List.nodup_nil,fun p h=>by cases h⟩
theorem DH{m}(h:kh m)(key value:yB)(g:key.size<=40)(i:value.size<=160):kh (cz m key value):=by
 have d:(others m key).Sublist m:=List.filter_sublist;have h1:((others m key).map (·.1)).Nodup:=(d.map _).nodup h.once;unfold cz;split
 ·rw[Rz];exact⟨h1,fun p c=>h.size p (d.subset c)⟩
 ·next h0=>
  refine⟨?_,fun p c=>?_⟩
  ·rw[R9,List.nodup_append];refine⟨h1,by simp,fun a f b e=>?_⟩;obtain⟨p,c,rfl⟩:=Rt.1 f;simp at e;rw[e];exact CQ m key p c
  ·rcases Re.1 c with c|c
   ·exact h.size p (d.subset c)
   ·rw[Q2.1 c];exact⟨g,Nat.pos_of_ne_zero h0,i⟩
theorem MZ{m}(h:kh m){p}(a:p∈m):fY m (aC p.1)=p.2.data.toList:=by
 have b:=h.once;clear h;induction m with
 |nil=>cases a
 |cons q m ih=>
  simp only[List.map_cons,List.nodup_cons] at b;rcases Rh.1 a with rfl|a
  ·show(if aC p.1=aC p.1 then _ else _)=_;rw[QX rfl]
  ·simp only[fY];rw[QW,ih a b.2];intro e;apply b.1;rw[yQ e];exact Rt.2 ⟨p,a,rfl⟩
theorem DO{m x}(h:∀p∈m,aC p.1≠x):fY m x=[]:=by
 have:=vt m [] x h;rw[Rz] at this;exact this
theorem AQ{m F}(h:gv m F)(key:yB)(a:key.size<=40)(x):gv (cz (cz m key xB) key ⟨#[]⟩) (lT F key)/\fY (cz (cz m key xB) key ⟨#[]⟩) x=if x=aC key then [] else fY m x:=by
 refine⟨(ID (IA h key xB a (by decide) (by decide)) key a).1,?_⟩;rw[sH,sH];split<;>rfl
open Classical in
theorem PT{m}(w:kh m)(a:Int):∀i,i<=m.length->aw (dN m a i) 0/\bD (dN m a i)/\∀x,ak x->aG (dN m a i) x=if(∃k p,k<i/\m[fe m.length a k]? =some p/\aC p.1=x) then fY m x else []:=by
 intro i;induction i with
 |zero=>
  intro _;refine⟨lB 0,trivial,fun x _=>?_⟩;rw[QW (by rintro ⟨k,_,h,_⟩;omega)];rfl
 |succ i ih=>
  intro hi;obtain⟨h1,h2,h3⟩:=ih (by omega);have D:=uU m.length a i (by omega);obtain⟨p,d⟩:∃p,m[fe m.length a i]? =some p:=⟨_,QV D⟩
  have B:m.getD (fe m.length a i) (⟨#[]⟩,⟨#[]⟩)=p:=by rw[Q3,d];rfl
  have y:=Rv d;obtain⟨s1,s2,s3⟩:=w.size p y;have key:∀(F:Nd) (f:yL->yL),aw F 0->bD F->bA F->(∀x,ak x->aG F x=f x)->∀(k v:yB),k.size<=40->0<v.size->v.size<=160->aw (bC bJ F k v) 0/\bD (bC bJ F k v)/\bA (bC bJ F k v)/\∀x,ak x->aG (bC bJ F k v) x=if x=aC k then v.data.toList else f x:=fun F f g1 g2 g3 g4 k v k1 k2 k3=>by
   have u:v.data.toList.length=v.size:=by simp
   have c:v.data.toList≠[]:=fun e=>by rw[e] at u;simp at u;omega
   have e:bX bJ F k v=0:=by unfold bX;rw[QW (by omega),QW (by omega),kX k g3]
   have e2:bC bJ F k v=bF F (aC k) v.data.toList:=by unfold bC;rw[QX e];unfold jt;rw[kX k g3]
   have n:=o8 g3 (ch k);have s:=wK g1 n (ch k) (by rw[gA];omega) c (by omega);rw[e2];refine⟨s,(wU g2 n).loose,wL g3 (ch k),fun x b=>?_⟩;rw[FA g1.aJ g1.bu n (ch k) c s.bu x b,g4 x b]
  have z:∀(F:Nd) (f:yL->yL),aw F 0->bD F->bA F->(∀x,ak x->aG F x=f x)->∀(k:yB),k.size<=40->f (aC k)≠[]->aw (aW bJ F k).1 0/\bD (aW bJ F k).1/\bA (aW bJ F k).1/\∀x,ak x->aG (aW bJ F k).1 x=if x=aC k then [] else f x:=fun F f g1 g2 g3 g4 k k1 t=>by
   have l:=ov F (aC k) (by rw[g4 _ (ch k)];exact t);have j:0+(aC k).length<=80:=by rw[gA];omega
   obtain⟨g,e⟩:=DQ g1 g2 g3 l (ch k) j;have e2:(aW bJ F k).1=g:=by
    unfold aW;rw[QW (by omega),kX k g3,QW (by simp),QW (by rw[g4 _ (ch k)];exact t),DS bJ gR F _ 0 g3 (ch k),e];rfl
   rw[e2];obtain⟨l1,_⟩:=kD gR F (aC k) 0 g g1 g2 (o8 g3 (ch k)) l (ch k) j e;refine⟨l1.ok,l1.tight.loose,np.less_all gR _ _ _ _ g3 e,fun x b=>?_⟩;rw[np gR F (aC k) 0 g g1 g2 g3 l (ch k) j e x b,g4 x b]
  have C:=MZ w y;have o:∀(F:Nd) (f:yL->yL),aw F 0->bD F->bA F->(∀x,ak x->aG F x=f x)->(∀x,ak x->x≠aC p.1->f x=aG (dN m a i) x)->aw (bC bJ F p.1 p.2) 0/\bD (bC bJ F p.1 p.2)/\∀x,ak x->aG (bC bJ F p.1 p.2) x=if(∃k q,k<i+1/\m[fe m.length a k]? =some q/\aC q.1=x) then fY m x else []:=fun F f g1 g2 g3 g4 g5=>by
   obtain⟨a1,a2,_,a4⟩:=key F f g1 g2 g3 g4 p.1 p.2 s1 s2 s3;refine⟨a1,a2,fun x b=>?_⟩;rw[a4 x b];by_cases e:x=aC p.1
   ·rw[QX e,QX ⟨i,p,by omega,d,e.symm⟩,e,C]
   ·rw[QW e,g5 x b e,h3 x b];by_cases e2:∃k q,k<i/\m[fe m.length a k]? =some q/\aC q.1=x
    ·obtain⟨k,q,b1,b2,b3⟩:=e2;rw[QX ⟨k,q,b1,b2,b3⟩,QX ⟨k,q,by omega,b2,b3⟩]
    ·rw[QW e2,QW];rintro ⟨k,q,b1,b2,b3⟩;by_cases A:k=i
     ·subst A;rw[d] at b2;cases b2
      exact e b3.symm
     ·exact e2 ⟨k,q,by omega,b2,b3⟩
  show aw (kN a (dN m a i) (m.getD (fe m.length a i) (⟨#[]⟩,⟨#[]⟩))) 0/\bD (kN a (dN m a i) (m.getD (fe m.length a i) (⟨#[]⟩,⟨#[]⟩)))/\∀x,ak x->aG (kN a (dN m a i) (m.getD (fe m.length a i) (⟨#[]⟩,⟨#[]⟩))) x=_;rw[B];unfold kN;by_cases r:a.tmod 3=0
  ·rw[QX r];unfold lT;obtain⟨a1,a2,a3,a4⟩:=key (dN m a i) _ h1 h2 (q8 m a i) (fun x _=>rfl) p.1 xB s1 (by decide) (by decide);obtain⟨b1,b2,b3,b4⟩:=z _ _ a1 a2 a3 a4 p.1 s1 (by rw[QX rfl];decide);refine o _ _ b1 b2 b3 b4 fun x b c=>?_
   rw[QW c,QW c]
  ·rw[QW r];exact o _ _ h1 h2 (q8 m a i) (fun x _=>rfl) fun x _ _=>rfl
theorem LY(n:Nat)(a:Int)(j:Nat)(h:j<n):∃k,k<n/\fe n a k=j:=by
 unfold fe;split
 ·exact⟨n - 1 - j,by omega,by omega⟩
 ·have b:bO a n<n:=kz a n (by omega);generalize bO a n=r at*;by_cases e:r<=j
  ·exact⟨j - r,by omega,by rw[show j - r+r=j by omega];exact Sz h⟩
  ·exact⟨j+n - r,by omega,by rw[show j+n - r+r=j+n by omega,Nat.add_mod_right];exact Sz h⟩
open Classical in
theorem tq{m}(o:kh m)(a:Int):gv m (aP m a):=by
 obtain⟨h1,h2,h3⟩:=PT o a m.length (QU _);have b:gv m (dN m a m.length):=by
  refine⟨h1,h2,q8 m a _,fun x d=>?_⟩;rw[h3 x d];by_cases e:∃k p,k<m.length/\m[fe m.length a k]? =some p/\aC p.1=x
  ·rw[QX e]
  ·rw[QW e];refine(DO fun p q i=>e ?_).symm;obtain⟨j,c,g⟩:=List.mem_iff_getElem.1 q;obtain⟨k,l,n⟩:=LY m.length a j c;exact⟨k,p,l,by rw[n,QV c,g],i⟩
 unfold aP;split
 ·next h=>
  have f:=(AQ b ik (by decide) []).1;refine f.congr fun x d=>?_
  rw[(AQ b ik (by decide) x).2];by_cases e:x=aC ik
  ·rw[QX e,e,sI];have r:(dj m ik).data.toList.length=(dj m ik).size:=by simp
   exact(Rm.1 (by omega)).symm
  ·rw[QW e]
 ·exact b
theorem gv.one{m F b}(h:gv m F)(a:gv m b)(Q:yL->Prop):Part Q F b:=Iz Q F b 0 h.ok a.ok h.loose a.loose h.all a.all fun x c=>(h.find x c).trans (a.find x c).symm
def aX:yB:=⟨#[128]⟩
def eZ(t:Nd)(m:List (yB×yB))(n:Nat):List yB:=aX::(m.take n).flatMap fun p=>((bj bJ t p.1).take 1).map str
def iC(G:yB->Option yB)(t:Nd)(m:List (yB×yB))(n:Nat):Bool:=(m.take n).any fun p=>(bj bJ t p.1).any fun c=>iB G (str c)
def jA(G:yB->Option yB)(m:List (yB×yB)):Bool:=iC G (aP m 1) m m.length || cQ (eZ (aP m 1) m m.length) (eZ (aP m 1) m m.length).length
theorem EE(t)(m:List (yB×yB))(n:Nat)(p:yB×yB)(h:m[n]? =some p):eZ t m (n+1)=eZ t m n++((bj bJ t p.1).take 1).map str:=by
 unfold eZ;rw[Sx,h,List.flatMap_append,List.cons_append];simp
theorem IK(G:yB->Option yB)(t)(m:List (yB×yB))(n:Nat)(p:yB×yB)(h:m[n]? =some p):iC G t m (n+1)=(iC G t m n || (bj bJ t p.1).any fun c=>iB G (str c)):=by
 unfold iC;rw[Sx,h,List.any_append];simp
theorem IL(G:yB->Option yB)(t m)(a b:Nat)(c:a<=b)(h:iC G t m a=true):iC G t m b=true:=by
 unfold iC at h⊢;rw[List.any_eq_true] at h⊢;obtain⟨y,h1,h2⟩:=h;exact⟨y,(List.take_sublist_take_left c).subset h1,h2⟩
theorem EF(t m):∀n,(eZ t m n).length<=n+1
 | 0=>by unfold eZ;simp
 |n+1=>by
  have a:=EF t m n
  cases h:m[n]? with
  |none=>
   unfold eZ at a⊢
   rw[Sx,h]
   simp only[Option.toList_none,Rz] at a⊢
   omega
  |some p=>
   rw[EE t m n p h,Q4,Rr]
   have:((bj bJ t p.1).take 1).length<=1:=by rw[Rs];omega
   omega
theorem oZ{w:World}{base v}{l:List yB}(h:w.ownsRow base 9 1 v l.length (l.map Value.string)):fD w v l:=by
 obtain⟨a,cap,rfl,_,_,f⟩:=dr h;refine⟨a,cap,rfl,?_⟩;rcases f with⟨_,h0,_⟩|⟨g,rfl⟩
 ·exact .inl (Rm.1 h0)
 ·refine .inr ⟨g,0,rfl,fun i p b=>?_⟩;rw[R5];exact dK h rfl i _ (by rw[Rp,b];rfl)
theorem tZ(l:List yL):jO l=(l.map str).map Value.string:=by unfold jO;rw[List.map_map];rfl
theorem xU{t}(b:aw t 0)(a:bA t)(key):(bj bJ t key).length<=81/\∀c∈bj bJ t key,c.length<=4096:=by
 unfold bj;split
 ·exact⟨Ri _,fun c h=>by cases h⟩
 ·rw[kX key a,QX rfl];exact Ig 81 t (aC key) 0 b a (ch key)
theorem Own.others{K}{w w':World}{sb c t}(h:Own K w sb c t)(e:w.heap.size<=w'.heap.size)(k:∀x,x<w.heap.size->¬K x->w'.heap[x]? =w.heap[x]?):Own (fun x=>K x\/(w.heap.size<=x/\x<w'.heap.size)) w' sb c t:=by
 obtain⟨S,f,⟨⟨u,h1,h2⟩,h3,h4⟩,h5,h6,h7,h8,h9,h10,h11⟩:=h;have g:=h1.lt;exact⟨S,f,⟨⟨u,h1.kept (k c h1.lt h8),h2.kept fun x a d=>k x d (h7 x a).1⟩,h3,fun x a=>by have:=h4 x a;exact⟨this.1,this.2.1,by omega⟩⟩,h5,h6.kept fun x a=>k x (h6.st.dQ x a) (h10 x a),fun x a=>⟨fun b=>by have:=h4 x a;rcases b with b|b;exact(h7 x a).1 b;omega,(h7 x a).2⟩,fun b=>by rcases b with b|b;exact h8 b;omega,h9,fun x a b=>by have:=h6.st.dQ x a;rcases b with b|b;exact h10 x a b;omega,fun x a=>by rcases a with a|a;exact Q6 (h11 x a) e;exact a.2⟩
structure mF(w:World)(sb tb:Nat)(t:Nd)(l:List yB)(v:Value)(wr:World):Prop where
 own:Own (fun x=>x<w.heap.size\/v.ownBlock=some x) wr sb tb t
 row:wr.ownsRow w.heap.size 9 1 v l.length (l.map Value.string)
 below:yW w wr
theorem mF.kept{w wr w' sb a t l v}(h:mF w sb a t l v wr)(d:Own (fun x=>x<w.heap.size\/v.ownBlock=some x) w' sb a t)(c:gx (fun x=>x<w.heap.size\/v.ownBlock=some x) wr w'):mF w sb a t l v w':=
 ⟨d,cK h.row fun g b=>c.at_ g (.inr b) (h.row.lt g b).2,h.below.trans ((c.less fun _ hx=>.inl hx).below h.below.size)⟩
theorem mF.more{w wr w' sb b t l v}(h:mF w sb b t l v wr)(a:yW wr w'):mF w sb b t l v w':=
 ⟨h.own.below a,cK h.row fun g c=>a.block g (h.row.lt g c).2,h.below.trans (a.mono h.below.size)⟩
theorem FE{w wr W w':World}{sb c t}{l l':List yB}{v:Value}{g cap n:Nat}(j:Own (fun x=>x<w.heap.size\/v.ownBlock=some x) wr sb c t)(f:yW w wr)(y:wr.ownsRow w.heap.size 9 1 v l.length (l.map Value.string))(d:yW wr W)
 (b:W.grownBy w' v.ownBlock) (p:v.ownBlock=some g\/g=W.heap.size) (r:g<w'.heap.size) (u:w'.ownsRow w.heap.size 9 1 (lV (qA g) n cap) l'.length (l'.map Value.string)):mF w sb c t l' (lV (qA g) n cap) w':=by
 have m:=j.below d;have i:=f.trans (d.mono f.size);have o:=(m.others (w':=w') b.size fun x a s=>b.block x a fun e=>s (.inr e.symm))
 refine⟨o.less fun x a=>?_,u,i.grown b i.size fun k q=>(y.lt k q).1⟩;rcases a with a|a
 ·exact .inl (.inl a)
 ·have e:g=x:=by simpa [Value.ownBlock] using a
  subst e;rcases p with h|h
  ·exact .inl (.inr h)
  ·exact .inr ⟨by omega,r⟩
theorem Ny{M w Y G}(hG:jJ M w Y G)(hM:∀x,M x->x<w.heap.size)(E2:∀k t,G k=some t->t.size<=maxLen)(v m)(V:dP w v m)(hn:m.length<4200000000000)(A6:kh m)(T:az w):
 Calls yP 43 #[pV Y,v] w fun e w'=>e=rV (bV (jA G m))/\yW w w':=by
 obtain⟨a,cap,rfl⟩:=V.form;have h3:=T.size;have A5:=tq A6 1;have S:=zK m 1;have A7:∀p∈m,p.1.size<=maxLen/\p.2.size<=maxLen:=fun p d=>by have:=A6.size p d;unfold maxLen;omega
 have B0:Hid (Calls yP 44 #[lV a m.length cap,iV .i64 1] w fun e w'=>∃sb b,e=rV (pV (qA b))/\Own (fun x=>x<w.heap.size) w' sb b (aP m 1)/\yW w w'):=yR w _ m 1 V hn ⟨by decide,by decide⟩ A7 T;have HA:Hid (∀k (_:k<m.length),∃p g,m[k]? =some p/\a=some ⟨g,0,none⟩/\(∀W,yW w W->W.cell? ⟨g,k*2,none⟩=some (sV p.1))/\p.1.size<=maxLen):=fun k y=>by
  have d:m[k]? =some m[k]:=QV y;obtain⟨g,e,_,c,_⟩:=V.at_ k _ d;exact⟨_,g,d,e,fun W j=>dC j c,(A7 _ (RV y)).1⟩
 have B9:Hid (∀K sb b W key,Own K W sb b (aP m 1)->yW w W->key.size<=maxLen->Calls yP 45 #[pV (qA b),sV key] W fun e w'=>∃u,e=rV (tV #[u,iV .i64 (cE bJ (aP m 1) key:Int)])/\w'.ownsRow W.heap.size 9 1 u ((bj bJ (aP m 1) key).map str).length (((bj bJ (aP m 1) key).map str).map Value.string)/\Own K w' sb b (aP m 1)/\gx K W w'):=fun K sb b W key hO j y=>
  (hO.prove (T.below j) key y).mono fun e w' ⟨⟨u,e1,e2⟩,e3,e4⟩=>⟨u,e1,by rw[Rr,<-tZ];exact e2,by rw[Ol key S] at e3;exact e3,e4⟩
 have F7:Hid (∀W c,yW w W->c.length<=4096->Calls yP 86 #[pV Y,sV (str c)] W fun e w'=>e=rV (bV (iB G (str c)))/\yW W w'):=fun W c j o=>
  Ec (M:=M) (G:=G) (fun W' h hh y=>hG W' h hh fun x D=>(y x D).trans (j.block x (hM x D))) (fun x D=>Q6 (hM x D) j.size) E2 (str c) (by rw[aH];unfold maxLen;omega) (T.below j)
 have E6:Hid (∀W u l,yW w W->fD W u l->l.length<=4200000000000->(∀p∈l,p.size<=maxLen)->Calls yP 46 #[u] W fun e w'=>e=rV (bV (cQ l l.length))/\yW W w'):=fun W u l j hu hl hs=>oh W u l hu hl hs (T.below j)
 have C0:Hid (∀key,(bj bJ (aP m 1) key).length<=81/\∀c∈bj bJ (aP m 1) key,c.length<=4096):=fun key=>xU A5.ok S key
 have B6:Hid (∀n p,m[n]? =some p->eZ (aP m 1) m (n+1)=eZ (aP m 1) m n++((bj bJ (aP m 1) p.1).take 1).map str):=fun n p h=>EE _ m n p h
 have C4:Hid (∀n p,m[n]? =some p->iC G (aP m 1) m (n+1)=(iC G (aP m 1) m n || (bj bJ (aP m 1) p.1).any fun c=>iB G (str c))):=fun n p h=>IK G _ m n p h
 have F6:Hid (∀n,n<=m.length->iC G (aP m 1) m n=true->jA G m=true):=fun n hn h=>by unfold jA;rw[IL G _ m n _ hn h];rfl
 have F0:Hid (iC G (aP m 1) m m.length=false->jA G m=cQ (eZ (aP m 1) m m.length) (eZ (aP m 1) m m.length).length):=fun h=>by unfold jA;rw[h];rfl
 have B5:Hid (∀n,(eZ (aP m 1) m n).length<=n+1):=fun n=>EF _ m n
 have F2:Hid (∀n,∀p∈eZ (aP m 1) m n,p.size<=maxLen):=fun n p d=>by
  unfold eZ at d;rcases Rh.1 d with rfl|d
  ·decide
  ·obtain⟨q,_,hq⟩:=List.mem_flatMap.1 d;obtain⟨c,o,rfl⟩:=Rt.1 hq;have:=(xU A5.ok S q.1).2 c (List.mem_of_mem_take o);rw[aH];unfold maxLen;omega
 have A8:Hid (eZ (aP m 1) m 0=[aX]/\iC G (aP m 1) m 0=false):=by
  constructor
  ·unfold eZ;simp
  ·unfold iC;simp
 obtain⟨i0,D2,E3,E4,E5⟩:=Sf ng;clear V A6 A5 S A7 T hG hM E2;generalize m.length=N at*;generalize jA G m=R at*;generalize aP m 1=t at*;go_enter func43,ntmps43
 go_wp2_with fail
 refine B0.out.mono ?_;rintro e w1 ⟨sb,b,rfl,C6,A3⟩;have B7:=aa C6;have A9:=aa A3;have hz:=A3.size;clear C6 A3 B0;go_wp2_with (at_builtin;refine RG _ rfl (.tmp 14) (.tmp 15) 63 rfl w.heap.size 9 i0 (sV ⟨#[]⟩) 1 16 underlying63 D2 E3 E4 E5 rfl (by decide) _ 0 [] rfl (RO _ _ _ _) ⟨w1.heap.size,0,none⟩ 1 1 [sV aX] rfl rfl (So _ _ _) ?c2 (by omega) ?c3 ?c4 ?c5 _ rfl ?c6)
 case c2=>intro v O;simp at O;subst O;rfl
 case c3=>decide
 case c4=>omega
 case c5=>simp;omega
 intro g0 F9 w2 D7 D0 C8 D5;have E8:Hid (mF w sb b t (eZ t m 0) (lV (qA g0) 1 F9) w2):=FE (W:=w1.alloc (.cells #[sV aX] 9)) (l:=[]) (v:=lV none 0 0) (B7.out.less fun x D=>D.elim id fun h=>by simp[Value.ownBlock] at h) A9.out (RO _ _ _ _) ((Q1 _ _).alloc (QU _) _) D0 (by simpa using C8) D5 (by rw[A8.out.1];exact D7);clear D7 D0 C8 D5 B7 A9 hz;go_wp2_with fail
 go_loopg [6,7] N (fun g v r wr=>∃i:Nat,g=N - i/\i<=N/\r=iV .i64 i/\Hid (iC G t m i=false)/\Hid (mF w sb b t (eZ t m i) v wr))
 case atStart=>exact⟨0,rfl,by omega,rfl,A8.out.2,E8⟩
 case round=>
  obtain⟨i,J,hi,rfl,HT,z⟩:=hrel;have HG:=aa J;clear J;by_cases G7:i<N
  ·obtain⟨p,g,d,rfl,D9,E0⟩:=HA.out i G7;have c1:=D9 wr z.out.below;have A1:=B9.out _ sb b wr p.1 z.out.own z.out.below E0;have G3:(i:Int)<(N:Int):=by omega
   have Z:=B6.out i p d;have P:iC G t m (i+1)=(bj bJ t p.1).any fun c=>iB G (str c):=by rw[C4.out i p d,HT.out];exact Bool.false_or _
   have C5:Hid ((bj bJ t p.1).any (fun c=>iB G (str c))=true->R=true):=fun h=>F6.out (i+1) (by omega) (by rw[P];exact h)
   obtain⟨G2,A4⟩:=C0.out p.1;obtain⟨key,D4⟩:=yX p.1
   rw[<-D4] at c1 A1 Z P C5 G2 A4;generalize hC:bj bJ t key=C at*;generalize (cE bJ t key:Int)=E at*;have F5:=aa P;have B4:=aa Z;have B8:=aa A1;have E7:=aa A4;clear D9 E0 d D4 hC A1 P Z A4 B9 C0 B6 C4;go_wp2_with fail
   refine B8.out.mono ?_;rintro e w3 ⟨u,rfl,X,C7,D3⟩;obtain⟨a3,G0,rfl,_⟩:=dr X;have B3:=aa (z.out.kept C7 D3);have A2:=aa X;rw[Rr] at X A2;clear X C7 D3 B8 z c1;rw[Rr];generalize wr=WR at*;generalize gk=GK at*;generalize u6=V6 at*;have B2:Hid (∀k (_:k<C.length),∃c g,C[k]? =some c/\a3=some ⟨g,0,none⟩/\(∀W,yW w3 W->W.cell? ⟨g,k,none⟩=some (sV (str c)))/\c.length<=4096):=fun k y=>by
    have d:C[k]? =some C[k]:=QV y;obtain⟨a4,G8,e4,_,_,f⟩:=dr A2.out;cases e4
    rcases f with⟨_,h0,_⟩|⟨g,rfl⟩
    ·omega
    ·exact⟨_,g,d,rfl,fun W j=>dC j (dK A2.out rfl k _ (by rw[Rp,Rp,d];rfl)),E7.out _ (RV y)⟩
   generalize hL:C.length=L at*;go_wp2_with fail
   go_loopg [10] L (fun g r wr=>∃k:Nat,g=L - k/\k<=L/\r=iV .i64 k/\Hid ((C.take k).any (fun c=>iB G (str c))=false)/\Hid (yW w3 wr))
   case atStart=>exact⟨0,rfl,by omega,rfl,by show List.any _ _=false;simp,Q1 _ _⟩
   case round=>
    obtain⟨k,J,y,rfl,C3,B⟩:=hrel;have F1:=aa J;clear J;by_cases G6:k<L
    ·obtain⟨c,g3,o,rfl,I,U⟩:=B2.out k G6;have d1:=I wr B.out;have s:=aa (B3.out.more B.out);have Q:=aa (F7.out wr c s.out.below U);have G5:(k:Int)<(L:Int):=by omega
     have H:Hid ((C.take (k+1)).any (fun c=>iB G (str c))=iB G (str c)):=by
      show List.any _ _=_;rw[Sx,o,List.any_append,C3.out];simp
     have F8:Hid (iB G (str c)=true->R=true):=fun h=>C5.out (List.any_eq_true.2 ⟨c,Rv o,h⟩)
     generalize str c=C' at*;clear I U o;cases htk:iB G C' with
     |true=>
      have F4:=aa (F8.out htk);rw[htk] at Q;go_wp2_with fail
      refine Q.out.mono ?_;rintro e w4 ⟨rfl,A⟩;have F:=aa (s.out.below.trans (A.mono s.out.below.size));clear A;go_wp2_with fail
      go_ret
      exact⟨by rw[F4.out];rfl,F.out⟩
     |false=>
      rw[htk] at Q H;go_wp2_with fail
      refine Q.out.mono ?_;rintro e w4 ⟨rfl,A⟩;have F:=aa (B.out.trans (A.mono B.out.size));clear A;go_wp2_with fail
      go_roundg (L - (k+1))
      case measure=>have:=F1.out;omega
      case rel=>exact⟨k+1,rfl,by omega,by go_num,H,F⟩
    ·obtain rfl:k=L:=by omega
     have G5:¬(k:Int)<(k:Int):=by omega
     have H:Hid (iC G t m (i+1)=false):=by
      rw[F5.out];have:=C3.out;rw[<-hL,SG] at this;exact this
     have s:=aa (B3.out.more B.out);by_cases G4:0<k
     ·obtain⟨c,g3,o,rfl,I,U⟩:=B2.out 0 G4;have d1:=I wr B.out;have G9:(0:Int)<(k:Int):=by omega
      have A0:Hid (eZ t m (i+1)=eZ t m i++[str c]):=by
       rw[B4.out];cases C with
       |nil=>simp at o
       |cons c0 C1=>simp at o;subst o;rfl
      have H0:=B5.out i;have E1:=s.out.row;have H1:=s.out.below.size;generalize str c=C' at*;generalize eZ t m i=HDS at*;clear I U o;go_wp2_with (at_builtin;refine RG _ rfl (.tmp 49) (.tmp 53) 63 rfl w.heap.size 9 i0 (sV ⟨#[]⟩) 1 16 underlying63 D2 E3 E4 E5 rfl (by decide) _ HDS.length (HDS.map Value.string) rfl (E1.alloc _) ⟨wr.heap.size,0,none⟩ 1 1 [sV C'] rfl rfl (So _ _ _) ?f2 (by omega) ?f3 ?f4 ?f5 _ rfl ?f6)
      case f2=>first|rfl| (intro v O;simp at O;subst O;rfl)
      case f3=>unfold maxLen;omega
      case f4=>omega
      case f5=>first|omega| (simp;omega)
      intro g5 G1 w5 D8 D1 C9 D6;have E9:Hid (mF w sb b t (eZ t m (i+1)) (lV (qA g5) (HDS.length+1) G1) w5):=FE (W:=wr.alloc (.cells #[sV C'] 9)) s.out.own s.out.below s.out.row ((Q1 _ _).alloc (QU _) _) D1 (by simpa using C9) D6 (by rw[A0.out,Q4,R9];exact D8);clear D8 D1 C9 D6 E1;go_wp2_with fail
      go_roundg (N - (i+1))
      case measure=>have:=HG.out;omega
      case rel=>exact⟨i+1,rfl,by omega,by go_num,H,E9⟩
     ·obtain rfl:k=0:=by omega
      have A0:Hid (eZ t m (i+1)=eZ t m i):=by
       rw[B4.out,Rm.1 hL];show _=_;simp
      go_wp2_with fail
      go_roundg (N - (i+1))
      case measure=>have:=HG.out;omega
      case rel=>exact⟨i+1,rfl,by omega,by go_num,H,by rw[A0.out];exact s⟩
  ·obtain rfl:i=N:=by omega
   have G3:¬(i:Int)<(i:Int):=by omega
   have C2:=F0.out HT.out;have F3:Hid (Calls yP 46 #[u6] wr fun e w'=>e=rV (bV R)/\yW wr w'):=by
    rw[C2];exact E6.out wr u6 _ z.out.below (oZ z.out.row) (by have:=B5.out i;omega) (F2.out i)
   have B1:=aa z.out.below;clear C2 HA;go_wp2_with fail
   refine F3.out.mono ?_;rintro e w4 ⟨rfl,A⟩;have F:=aa (B1.out.trans (A.mono B1.out.size));clear A;go_wp2_with fail
   go_ret
   exact⟨rfl,F.out⟩
structure Mv(T:Nat->Prop)(l l':Nat->Nat)(w w':World):Prop where
 os:w'.os=w.os
 tape:w'.tape=w.tape
 output:w'.output=w.output
 size:w.heap.size<=w'.heap.size
 aM:∀k,k<w.heap.size->l' k=l k
 ah:∀k,k<w.heap.size->¬T (l k)->w'.heap[k]? =w.heap[k]?
theorem Mv.refl(T l w):Mv T l l w w:=⟨rfl,rfl,rfl,QU _,fun _ _=>rfl,fun _ _ _=>rfl⟩
theorem Mv.mono{T T' l l' w w'}(m:Mv T l l' w w')(h:∀x,T x->T' x):Mv T' l l' w w':=
 ⟨m.os,m.tape,m.output,m.size,m.aM,fun k a b=>m.ah k a fun c=>b (h _ c)⟩
theorem Mv.trans{T l l' d w w' e}(m:Mv T l l' w w')(b:Mv T l' d w' e):Mv T l d w e:=
 ⟨b.os.trans m.os,b.tape.trans m.tape,b.output.trans m.output,Q7 m.size b.size,fun k a=>(b.aM k (Q6 a m.size)).trans (m.aM k a),
  fun k a c=>(b.ah k (Q6 a m.size) (by rw[m.aM k a];exact c)).trans (m.ah k a c)⟩
def fA(l:Nat->Nat)(n:Nat):Nat->Nat:=fun k=>if k<n then l k else 0
theorem j5{l n k}(h:k<n):fA l n k=l k:=by simp[fA,h]
theorem nr{l n k}(h:n<=k):fA l n k=0:=by simp[fA,SE.2 h]
theorem Mv.below{w w':World}(T l)(h:yW w w'):Mv T l (fA l w.heap.size) w w':=
 ⟨h.os,h.tape,h.output,h.size,fun _ a=>j5 a,fun k a _=>h.block k a⟩
theorem Mv.low{T l l' w w' base}(m:Mv T l l' w w')(b:base<=w.heap.size)(h0:∀k,k<base->¬T (l k)):Below base w w':=
 ⟨m.os,m.tape,m.output,m.size,fun k a=>m.ah k (by omega) (h0 k a)⟩
theorem Mv.kept{T l l' w w'}(m:Mv T l l' w w'){k L}(b:k<w.heap.size)(c:l k=L)(a:¬T L):w'.heap[k]? =w.heap[k]? :=m.ah k b (by rw[c];exact a)
theorem newL_ex(l:Nat->Nat)(n:Nat)(S:Nat->Prop)(L:Nat):∃f:Nat->Nat,(∀k,k<n->f k=l k)/\∀k,n<=k->S k->f k=L:=by
 classical
 exact⟨fun k=>if k<n then l k else if S k then L else 0,fun k h=>by simp[h],fun k h hs=>by simp[Nat.not_lt.2 h,hs]⟩
theorem wS{l L w w' b e S g}(c:∀x,S x->l x=L)(o:l b=L)(i:fQ w b e S g w'):
 ∃l' S',Mv (fun x=>x=L) l l' w w'/\dH w' b e S' g/\∀x,S' x->l' x=L:=by
 obtain⟨⟨S',h1,h2⟩,h3⟩:=i;obtain⟨f,f1,f2⟩:=newL_ex l w.heap.size S' L;refine⟨f,S',⟨h3.os,h3.tape,h3.output,h3.size,f1,fun k m a=>h3.block k m fun j=>?_⟩,h1,fun x d=>?_⟩
 ·rcases j with h|h
  ·exact a (c k h)
  ·rw[h] at a;exact a o
 ·by_cases n:x<w.heap.size
  ·rw[f1 _ n];rcases h2 x d with h|h
   ·exact c x h
   ·omega
  ·exact f2 _ (by omega) d
theorem Bi{l L w w' sb d j}(e:∀x,bW sb d x->l x=L)(m:dv 3 w w' sb d j)(s:sb<w.heap.size):
 ∃l' a,Mv (fun x=>x=L) l l' w w'/\fR 3 w' sb a j/\(∀x,bW sb a x->l' x=L)/\∀x,bW sb a x->bW sb d x\/w.heap.size<=x:=by
 obtain⟨a,h1,h2,h3⟩:=m;have i:∀x,bW sb a x->bW sb d x\/w.heap.size<=x:=fun x b=>by
  rcases b with rfl|⟨c,g,n⟩
  ·exact .inl (.inl rfl)
  ·rcases h2 c g x n with h|h
   ·exact .inl (.inr ⟨c,g,h⟩)
   ·exact .inr h
 obtain⟨f,f1,f2⟩:=newL_ex l w.heap.size (bW sb a) L;refine⟨f,a,⟨h3.os,h3.tape,h3.output,h3.size,f1,fun k p r=>h3.block k p fun o=>r (e k o)⟩,h1,fun x b=>?_,i⟩;by_cases q:x<w.heap.size
 ·rw[f1 _ q];rcases i x b with h|h
  ·exact e x h
  ·omega
 ·exact f2 _ (by omega) b
def rE(w:World)(a sb d:Nat)(mv b:Value)(c:Nat):Prop:=w.heap[a]? =some (.cells #[pV (qA sb),pV (qA d),mv,b,pV (qA c)] 47 (0,0))
def Ak(w:World)(a:Nat)(c b:Bool):Prop:=w.heap[a]? =some (.cells #[bV c,bV b] 44 (0,0))
structure jm where
 st:Nat
 hu:Nat
 tr:Nat
 bk:Nat
structure jm.ok(L:jm):Prop where
 a:0<L.st/\0<L.hu/\0<L.tr/\0<L.bk
 b:L.st≠L.hu/\L.st≠L.tr/\L.st≠L.bk/\L.hu≠L.tr/\L.hu≠L.bk/\L.tr≠L.bk
structure dI where
 bb:Nat
 sb:Nat
 tb:Nat
 hb:Nat
 mv:Value
 bv:Value
 t:Nd
 m:List (yB×yB)
 base:List (yB×yB)
structure Bk(l:Nat->Nat)(L:jm)(w:World)(B:dI)(S:Nat->Prop):Prop where
 bk:rE w B.bb B.sb B.tb B.mv B.bv B.hb
 lb:l B.bb=L.bk
 pm:dP w B.mv B.m
 lm:∀g,B.mv.ownBlock=some g->l g=0
 pb:dP w B.bv B.base
 lv:∀g,B.bv.ownBlock=some g->l g=0
 tr:dH w B.tb (qA B.sb) S B.t
 loose:bD B.t
 lS:∀x,S x->l x=L.tr
 lt:l B.tb=L.tr
 om:kh B.m
 ob:kh B.base
 nm:B.m.length<4000000000
 nb:B.base.length<4000000000
structure cG(l:Nat->Nat)(L:jm)(w:World)(sb hb:Nat)(yes ag:Bool)(vs:Nat->Value)(ps:List (yB×yB)):Prop where
 hu:Ak w hb yes ag
 lh:l hb=L.hu
 st:eI w sb vs ps
 ls:∀x,bW sb vs x->l x=L.st
theorem rE.lt{w a sb d c mv b}(h:rE w a sb d mv b c):a<w.heap.size:=(Q0.1 h).1
theorem Ak.lt{w a c b}(h:Ak w a c b):a<w.heap.size:=(Q0.1 h).1
theorem dH.lt{w a b S t}(h:dH w a b S t):a<w.heap.size:=by
 obtain⟨u,h1,_⟩:=h.at_;exact h1.lt
theorem dH.same{w w':World}{a c S t}(h:dH w a c S t)(e:w.heap.size<=w'.heap.size)(k:∀x,x=a\/S x->x<w.heap.size->w'.heap[x]? =w.heap[x]?):dH w' a c S t:=by
 obtain⟨⟨u,h1,h2⟩,h3,h4⟩:=h;exact⟨⟨u,h1.kept (k a (.inl rfl) h1.lt),h2.kept fun x b d=>k x (.inr b) d⟩,h3,fun x b=>by have:=h4 x b;exact⟨this.1,this.2.1,by omega⟩⟩
theorem dP.mv{T l l' w w' v c}(h:dP w v c)(b:∀g,v.ownBlock=some g->l g=0)(m:Mv T l l' w w')(h0:¬T 0):dP w' v c/\∀g,v.ownBlock=some g->l' g=0:=
 ⟨cK h fun g a=>m.kept (h.lt g a).2 (b g a) h0,fun g a=>(m.aM g (h.lt g a).2).trans (b g a)⟩
theorem Bk.move{T l l' L w w' B S}(h:Bk l L w B S)(m:Mv T l l' w w')(h0:¬T 0)(b:¬T L.bk)(d:¬T L.tr):Bk l' L w' B S:=
 {bk:=(m.kept h.bk.lt h.lb b).trans h.bk
  lb:=(m.aM _ h.bk.lt).trans h.lb
  pm:=(h.pm.mv h.lm m h0).1
  lm:=(h.pm.mv h.lm m h0).2
  pb:=(h.pb.mv h.lv m h0).1
  lv:=(h.pb.mv h.lv m h0).2
  tr:=h.tr.same m.size fun x a c=>m.kept c (by rcases a with rfl|a;exact h.lt;exact h.lS x a) d
  loose:=h.loose
  lS:=fun x a=>(m.aM x (h.tr.own x a).2.2).trans (h.lS x a)
  lt:=(m.aM _ h.tr.lt).trans h.lt
  om:=h.om
  ob:=h.ob
  nm:=h.nm
  nb:=h.nb}
theorem cG.move{T l l' L w w' sb b f d e c}(h:cG l L w sb b f d e c)(m:Mv T l l' w w')(i:¬T L.st)(g:¬T L.hu):cG l' L w' sb b f d e c:=
 {hu:=(m.kept h.hu.lt h.lh g).trans h.hu
  lh:=(m.aM _ h.hu.lt).trans h.lh
  st:=h.st.kept fun x a=>m.kept (h.st.st.dQ x a) (h.ls x a) i
  ls:=fun x a=>(m.aM x (h.st.st.dQ x a)).trans (h.ls x a)}
theorem Bk.nI{l l' L w w' B S S' d}(h:Bk l L w B S)(c:L.ok)(m:Mv (fun x=>x=L.tr) l l' w w')(g:dH w' B.tb (qA B.sb) S' d)(f:∀x,S' x->l' x=L.tr)(i:bD d):Bk l' L w' {B with t:=d} S':=
 {bk:=(m.kept h.bk.lt h.lb (fun e=>c.b.2.2.2.2.2 e.symm)).trans h.bk
  lb:=(m.aM _ h.bk.lt).trans h.lb
  pm:=(h.pm.mv h.lm m (fun e=>by have:=c.a.2.2.1;omega)).1
  lm:=(h.pm.mv h.lm m (fun e=>by have:=c.a.2.2.1;omega)).2
  pb:=(h.pb.mv h.lv m (fun e=>by have:=c.a.2.2.1;omega)).1
  lv:=(h.pb.mv h.lv m (fun e=>by have:=c.a.2.2.1;omega)).2
  tr:=g
  loose:=i
  lS:=f
  lt:=(m.aM _ h.tr.lt).trans h.lt
  om:=h.om
  ob:=h.ob
  nm:=h.nm
  nb:=h.nb}
theorem Bk.over{l L w B S j i c e}(h:Bk l L w B S)(f:cG l L w B.sb B.hb j i c e)(d:L.ok)(T:az w):lp (bW B.sb c) w (qA B.sb) (ae e) S/\¬bW B.sb c B.tb:=
 ⟨f.st.over T fun x g a=>d.b.2.1 (by rw[<-f.ls x a,h.lS x g]),fun a=>d.b.2.1 (by rw[<-f.ls _ a,h.lt])⟩
theorem Bk.cells{l L w B S}(h:Bk l L w B S):w.cell? ⟨B.bb,0,none⟩=some (pV (qA B.sb))/\w.cell? ⟨B.bb,1,none⟩=some (pV (qA B.tb))/\w.cell? ⟨B.bb,2,none⟩=some B.mv/\w.cell? ⟨B.bb,3,none⟩=some B.bv/\w.cell? ⟨B.bb,4,none⟩=some (pV (qA B.hb)):=by
 refine⟨?_,?_,?_,?_,?_⟩
 ·rw[Q5 w _ 0 _ _ _ h.bk];rfl
 ·rw[Q5 w _ 1 _ _ _ h.bk];rfl
 ·rw[Q5 w _ 2 _ _ _ h.bk];rfl
 ·rw[Q5 w _ 3 _ _ _ h.bk];rfl
 ·rw[Q5 w _ 4 _ _ _ h.bk];rfl
theorem cG.cells{l L w sb a c b e d}(h:cG l L w sb a c b e d):w.cell? ⟨a,0,none⟩=some (bV c)/\w.cell? ⟨a,1,none⟩=some (bV b):=by
 refine⟨?_,?_⟩
 ·rw[Q5 w _ 0 _ _ _ h.hu];rfl
 ·rw[Q5 w _ 1 _ _ _ h.hu];rfl
def bQ(b a:Bool)(e:Int):Bool:=(decide (e≠0) && b && (decide (e=9) || decide (e=10) || decide (e=11))) || a
theorem qN{w:World}{g f c a}(c4:w.cell? ⟨g,4,none⟩=some (pV (qA f)))(d0:w.cell? ⟨f,0,none⟩=some (bV c))(d1:w.cell? ⟨f,1,none⟩=some (bV a))(e:Int):
 Calls yP 33 #[pV (qA g),iV .i64 e] w fun r w'=>r=rV (bV (bQ c a e))/\w'=w:=by
 by_cases h0:e=0
 ·subst h0;have b:Hid (bQ c a 0=a):=by show _=_;unfold bQ;simp
  generalize bQ c a 0=R at*;go_enter func33,ntmps33
  go_wp2_with fail
  go_ret
  exact⟨by rw[b.out];rfl,rfl⟩
 ·have d:(e != 0)=true:=by simpa using h0
  cases c with
  |false=>
   have b:Hid (bQ false a e=a):=by show _=_;unfold bQ;simp
   generalize bQ false a e=R at*;clear h0;go_enter func33,ntmps33
   go_wp2_with fail
   go_ret
   exact⟨by rw[b.out];rfl,rfl⟩
  |true=>
   by_cases h9:e=9
   ·subst h9;have b:Hid (bQ true a 9=true):=by show _=_;unfold bQ;simp
    generalize bQ true a 9=R at*;clear h0 d;go_enter func33,ntmps33
    go_wp2_with fail
    go_ret
    exact⟨by rw[b.out];rfl,rfl⟩
   ·by_cases h10:e=10
    ·subst h10;have b:Hid (bQ true a 10=true):=by show _=_;unfold bQ;simp
     generalize bQ true a 10=R at*;clear h0 d h9;go_enter func33,ntmps33
     go_wp2_with fail
     go_ret
     exact⟨by rw[b.out];rfl,rfl⟩
    ·by_cases h11:e=11
     ·subst h11;have b:Hid (bQ true a 11=true):=by show _=_;unfold bQ;simp
      generalize bQ true a 11=R at*;clear h0 d h9 h10;go_enter func33,ntmps33
      go_wp2_with fail
      go_ret
      exact⟨by rw[b.out];rfl,rfl⟩
     ·have b:Hid (bQ true a e=a):=by show _=_;unfold bQ;simp[h9,h10,h11]
      have j:(e == 9)=false:=by simpa using h9
      have h:(e == 10)=false:=by simpa using h10
      have i:(e == 11)=false:=by simpa using h11
      generalize bQ true a e=R at*;clear h0 h9 h10 h11;go_enter func33,ntmps33
      go_wp2_with fail
      go_ret
      exact⟨by rw[b.out];rfl,rfl⟩
def e8(l:Nat->Nat)(L:jm)(w:World)(B:dI)(w':World):Prop:=∃l' S',Mv (fun x=>x=L.tr\/x=L.bk) l l' w w'/\Bk l' L w' B S'
theorem jm.ok.apart{L:jm}(h:L.ok):¬(L.st=L.tr\/L.st=L.bk)/\¬(L.hu=L.tr\/L.hu=L.bk)/\¬(0=L.tr\/0=L.bk):=by
 obtain⟨⟨_,_,_,_⟩,_,_,_,_,_,_⟩:=h;exact⟨by omega,by omega,by omega⟩
theorem Bk.wT{l L w w' B S a}(h:Bk l L w B S)(b:L.ok)(c:fQ w B.tb (qA B.sb) S a w')(d:bD a):e8 l L w {B with t:=a} w':=by
 obtain⟨l',S',m,h1,h2⟩:=wS h.lS h.lt c;exact⟨l',S',m.mono fun _ hx=>.inl hx,h.nI b m h1 h2 d⟩
theorem e8.trans{l}{L:jm}{w w1 w2 B l1}(m:Mv (fun x=>x=L.tr\/x=L.bk) l l1 w w1)(h:e8 l1 L w1 B w2):e8 l L w B w2:=by
 obtain⟨l2,a,m2,h2⟩:=h;exact⟨l2,a,m.trans m2,h2⟩
theorem cG.to{l l' L w w' sb b f d e c}(h:cG l L w sb b f d e c)(a:L.ok)(m:Mv (fun x=>x=L.tr\/x=L.bk) l l' w w'):cG l' L w' sb b f d e c:=h.move m a.apart.1 a.apart.2.1
theorem az.mv{T l l' w w'}(h:az w)(m:Mv T l l' w w')(h3:∀k,k<3->¬T (l k)):az w':=by
 have c:=h.size;exact az.mK (T:=fun x=>3<=x) h ⟨m.os,m.tape,m.output,m.size,fun k a b=>m.ah k a (h3 k (by omega))⟩ fun _ hx=>hx
def ja(G:yB->Option yB)(b a:Bool)(t:Nd)(m:List (yB×yB))(key:yB):Bool:=
 if 40<key.size then true
 else if cE G t key≠0 then bQ b a (cE G t key)
 else if iQ G t key=dj m key then true
 else a
theorem Ok{G t key}(h:cE G t key≠0):iQ G t key=⟨#[]⟩:=by
 unfold cE at h;unfold iQ;split
 ·rfl
 ·next h40=>rw[QW h40] at h;rw[QW h]
theorem yK{l L w B S g b P a}(h:Bk l L w B S)(f:cG l L w B.sb B.hb g b P a)(x:L.ok)(T:az w)(key:yB)(J:key.size<=maxLen):
 Calls yP 16 #[pV (qA B.bb),sV key] w fun e w'=>e=rV (bV (ja (ae a) g b B.t B.m key))/\e8 l L w {B with t:=bg (ae a) B.t key} w':=by
 obtain⟨I,_⟩:=h.over f x T;obtain⟨_,c1,_,_,_⟩:=h.cells;have u:Hid (Calls yP 37 #[pV (qA B.tb),sV key] w fun e w'=>e=rV (tV #[sV (iQ (ae a) B.t key),iV .i64 (cE (ae a) B.t key:Int)])/\e8 l L w {B with t:=bg (ae a) B.t key} w'):=
  (Al h.tr I key J).mono fun e w' ⟨h1,h2⟩=>⟨h1,h.wT x h2 (qS h.tr.ok h.loose)⟩
 have A:Hid (∀w1,e8 l L w {B with t:=bg (ae a) B.t key} w1->w1.cell? ⟨B.bb,2,none⟩=some B.mv/\dP w1 B.mv B.m/\w1.cell? ⟨B.bb,4,none⟩=some (pV (qA B.hb))/\w1.cell? ⟨B.hb,0,none⟩=some (bV g)/\w1.cell? ⟨B.hb,1,none⟩=some (bV b)):=fun w1 ⟨l1,S1,m1,h1⟩=>by
  obtain⟨_,_,a2,_,a4⟩:=h1.cells;obtain⟨b0,b1⟩:=(f.to x m1).cells;exact⟨a2,h1.pm,a4,b0,b1⟩
 have o:Hid (∀W,Calls yP 32 #[sV key,sV ⟨#[]⟩] W fun e w'=>e=rV (bV (decide (40<key.size)))/\w'=W):=fun W=>by
  have:=vw key ⟨#[]⟩ J (by decide) W;have e:lg key ⟨#[]⟩=decide (40<key.size):=by
   unfold lg;by_cases h:40<key.size
   ·rw[Ra h,Ra (.inl h)]
   ·rw[Q9 h,Q9];rintro (C|C);exact h C;exact absurd C (by decide)
  rw[e] at this;exact this
 have y:Hid (∀W,dP W B.mv B.m->Calls yP 36 #[B.mv,sV key] W fun e w'=>e=rV (sV (dj B.m key))/\w'=W):=fun W O=>mY W _ B.m key O (by have:=h.nm;omega)
 have G:Hid (∀W c,W.cell? ⟨B.bb,4,none⟩=some (pV (qA B.hb))->W.cell? ⟨B.hb,0,none⟩=some (bV g)->W.cell? ⟨B.hb,1,none⟩=some (bV b)->Calls yP 33 #[pV (qA B.bb),iV .i64 c] W fun r w'=>r=rV (bV (bQ g b c))/\w'=W):=fun W c h1 h2 h3=>qN h1 h2 h3 c
 have v:Hid (ja (ae a) g b B.t B.m key=if 40<key.size then true else if cE (ae a) B.t key≠0 then bQ g b (cE (ae a) B.t key) else if iQ (ae a) B.t key=dj B.m key then true else b):=rfl;have H:Hid (cE (ae a) B.t key≠0->iQ (ae a) B.t key=⟨#[]⟩):=Ok;have M:Hid (40<key.size->cE (ae a) B.t key=1):=fun h=>by unfold cE;rw[QX h]
 have X:=h.pm.form;have N:Hid (bQ g b 0=b):=by show _=_;unfold bQ;simp
 clear h f x T I;generalize ja (ae a) g b B.t B.m key=R at*;generalize iQ (ae a) B.t key=V at*;generalize cE (ae a) B.t key=E at*;generalize dj B.m key=HV at*;by_cases h40:40<key.size
 ·have k:Hid (R=true):=by rw[v.out,QX h40];rfl
  obtain rfl:E=1:=M.out h40;obtain rfl:V=⟨#[]⟩:=H.out (by decide);rw[Ra h40] at o;go_enter func16,ntmps16
  go_wp2_with fail
  refine u.out.mono ?_;rintro e w1 ⟨rfl,d⟩;have j:=aa d;clear d;go_wp2_with fail
  refine(o.out _).mono ?_;rintro e F ⟨rfl,n⟩;subst n;go_wp2_with fail
  go_ret
  exact⟨by rw[k.out];rfl,j.out⟩
 ·rw[Q9 h40] at o;by_cases h0:E=0
  ·subst h0;by_cases q:V=HV
   ·have k:Hid (R=true):=by rw[v.out,QW h40,QW (by simp),QX q];rfl
    subst q;go_enter func16,ntmps16
    go_wp2_with fail
    refine u.out.mono ?_;rintro e w1 ⟨rfl,d⟩;obtain⟨d2,i,d4,e0,e1⟩:=A.out w1 d;have j:=aa d;have p:=aa (y.out w1 i);clear d i;go_wp2_with fail
    refine(o.out _).mono ?_;rintro e F ⟨rfl,n⟩;subst n;go_wp2_with fail
    refine p.out.mono ?_;rintro e K ⟨rfl,s⟩;subst s;go_wp2_with fail
    go_ret
    exact⟨by rw[k.out];rfl,j.out⟩
   ·have k:Hid (R=b):=by rw[v.out,QW h40,QW (by simp),QW q];rfl
    have Y:(V.toList == HV.toList)=false:=by rw[fZ];exact Q9 q
    clear q;go_enter func16,ntmps16
    go_wp2_with fail
    refine u.out.mono ?_;rintro e w1 ⟨rfl,d⟩;obtain⟨d2,i,d4,e0,e1⟩:=A.out w1 d;have j:=aa d;have p:=aa (y.out w1 i);have z:Hid (Calls yP 33 #[pV (qA B.bb),iV .i64 0] w1 fun r w'=>r=rV (bV b)/\w'=w1):=by rw[<-N.out];exact G.out w1 0 d4 e0 e1
    clear d i;go_wp2_with fail
    refine(o.out _).mono ?_;rintro e F ⟨rfl,n⟩;subst n;go_wp2_with fail
    refine p.out.mono ?_;rintro e K ⟨rfl,s⟩;subst s;go_wp2_with fail
    refine z.out.mono ?_;rintro e Q ⟨rfl,D⟩;subst D;go_wp2_with fail
    go_ret
    exact⟨by rw[k.out];rfl,j.out⟩
  ·have k:Hid (R=bQ g b E):=by rw[v.out,QW h40,QX h0];rfl
   obtain rfl:V=⟨#[]⟩:=H.out h0;have U:((E:Int) != 0)=true:=by simp;omega
   clear h0;go_enter func16,ntmps16
   go_wp2_with fail
   refine u.out.mono ?_;rintro e w1 ⟨rfl,d⟩;obtain⟨d2,i,d4,e0,e1⟩:=A.out w1 d;have j:=aa d;have p:=aa (y.out w1 i);have z:=aa (G.out w1 E d4 e0 e1);generalize bQ g b (E:Int)=MK at*;clear d i;go_wp2_with fail
   refine(o.out _).mono ?_;rintro e F ⟨rfl,n⟩;subst n;go_wp2_with fail
   refine p.out.mono ?_;rintro e K ⟨rfl,s⟩;subst s;go_wp2_with fail
   refine z.out.mono ?_;rintro e Q ⟨rfl,D⟩;subst D;cases MK<;>
    (go_wp2_with fail;go_ret;exact⟨by rw[k.out];rfl,j.out⟩)
def tP(l:Nat->Nat)(L:jm)(w:World)(B:dI)(t:Nd)(m:List (yB×yB))(w':World):Prop:=∃mv,e8 l L w {B with t:=t,m:=m,mv:=mv} w'
theorem e8.same{l L w w' B t}(h:e8 l L w {B with t:=t} w'):tP l L w B t B.m w':=⟨B.mv,h⟩
theorem qg{l w b i v}:Mv (fun x=>x=l b) l l w (w.setCell ⟨b,i,none⟩ v):=
 ⟨rfl,rfl,rfl,by simp,fun _ _=>rfl,fun k _ a=>Rc _ _ _ _ (fun e=>a (by rw[e]))⟩
theorem Bk.xG{l L w B S}(h:Bk l L w B S)(e:L.ok)(v m)(k:dP w v m)(d:∀g,v.ownBlock=some g->l g=0)(j:kh m)(f:m.length<4000000000):
 e8 l L w {B with m:=m,mv:=v} (w.setCell ⟨B.bb,2,none⟩ v):=by
 have M:Mv (fun x=>x=L.bk) l l w (w.setCell ⟨B.bb,2,none⟩ v):=by have:=qg (l:=l) (w:=w) (b:=B.bb) (i:=2) (v:=v);rw[h.lb] at this;exact this
 obtain⟨_,_,_,a4⟩:=e.a;have h0:¬(0=L.bk):=by omega
 obtain⟨p1,p2⟩:=h.pb.mv h.lv M h0;obtain⟨q1,q2⟩:=dP.mv k d M h0;have n:=e.b.2.2.2.2.2;have o:=M.size;refine⟨l,S,M.mono fun _ c=>.inr c,?_⟩;exact
  {bk:=by
    show(w.setCell ⟨B.bb,2,none⟩ v).heap[B.bb]? =_;rw[RM w B.bb 2 _ _ (0,0) _ h.bk,R7 w B.bb _ _ _ _ h.bk];rfl
   lb:=h.lb
   pm:=q1
   lm:=q2
   pb:=p1
   lv:=p2
   tr:=h.tr.same o fun x c d=>M.kept d (by rcases c with rfl|c;exact h.lt;exact h.lS x c) n
   loose:=h.loose
   lS:=h.lS
   lt:=h.lt
   om:=j
   ob:=h.ob
   nm:=f
   nb:=h.nb}
theorem Bk.writes{l l1:Nat->Nat}{L:jm}{w w1 w2:World}{B:dI}{e:Nat->Prop}{t1:Nd}(h:L.ok)(m1:Mv (fun x=>x=L.tr\/x=L.bk) l l1 w w1)(h1:Bk l1 L w1 {B with t:=t1} e)(v:Value)(a:List (yB×yB))(c:w2.ownsRow w1.heap.size 91 2 v a.length (eW a))(i:yW w1 w2)(h3:3<=w1.heap.size)(n:kh a)(k:a.length<4000000000):
 ∃l3 b,Mv (fun x=>x=L.tr\/x=L.bk) l l3 w (w2.setCell ⟨B.bb,2,none⟩ v)/\Bk l3 L (w2.setCell ⟨B.bb,2,none⟩ v) {B with t:=t1,m:=a,mv:=v} b:=by
 have d:=Mv.below (fun _=>False) l1 i;have h2:=h1.move d id id id;have m2:=m1.trans (d.mono fun _ hx=>hx.elim);obtain⟨l3,b,m3,f⟩:=h2.xG h v a (l9 c h3) (fun g j=>nr (c.lt g j).1) n k;exact⟨l3,b,m2.trans m3,f⟩
def lx(G:yB->Option yB)(b a:Bool)(t:Nd)(m:List (yB×yB))(key value:yB):Bool:=
 if 40<key.size\/160<value.size then true
 else if value.size=0 then true
 else if bX G t key value≠0 then bQ b a (bX G t key value)
 else ja G b a (bC G t key value) (cz m key value) key
def l7(G:yB->Option yB)(t:Nd)(key value:yB):Nd:=if bX G t key value=0 then bg G (bC G t key value) key else bC G t key value
def l5(G:yB->Option yB)(t:Nd)(m:List (yB×yB))(key value:yB):List (yB×yB):=if bX G t key value=0 then cz m key value else m
theorem tS(m key value):(cz m key value).length<=m.length+1:=by
 have:=nR m key;unfold cz;rw[Q4];split
 ·rw[List.length_nil];omega
 ·rw[Sa];omega
theorem Nh{l L w B S A2 A1 vs ps}(h:Bk l L w B S)(f:cG l L w B.sb B.hb A2 A1 vs ps)(hL:L.ok)(T:az w)(C6:∀k,k<3->l k=0)(key value:yB)(hk:key.size<=maxLen)(hv:value.size<=maxLen)(hn:B.m.length<3999999999):
 Calls yP 14 #[pV (some ⟨B.bb,0,none⟩),sV key,sV value] w fun e w'=>e=rV (bV (lx (ae ps) A2 A1 B.t B.m key value))/\tP l L w B (l7 (ae ps) B.t key value) (l5 (ae ps) B.t B.m key value) w':=by
 obtain⟨hO,_⟩:=h.over f hL T;obtain⟨_,c1,_,_,_⟩:=h.cells;have h3:=T.size;have A5:Hid (Calls yP 31 #[pV (some ⟨B.tb,0,none⟩),sV key,sV value] w fun e w'=>e=rV (iV .i64 (bX (ae ps) B.t key value:Int))/\e8 l L w {B with t:=bC (ae ps) B.t key value} w'):=
  (zY h.tr hO key value hk hv).mono fun e w' ⟨h1,h2⟩=>⟨h1,h.wT hL h2 (xR h.tr.ok h.loose)⟩
 have A7:Hid (∀W,Calls yP 32 #[sV key,sV value] W fun e w'=>e=rV (bV (lg key value))/\w'=W):=fun W=>vw key value hk hv W
 have B1:Hid (lx (ae ps) A2 A1 B.t B.m key value=if 40<key.size\/160<value.size then true else if value.size=0 then true else if bX (ae ps) B.t key value≠0 then bQ A2 A1 (bX (ae ps) B.t key value) else ja (ae ps) A2 A1 (bC (ae ps) B.t key value) (cz B.m key value) key):=rfl;have A9:Hid (l7 (ae ps) B.t key value=if bX (ae ps) B.t key value=0 then bg (ae ps) (bC (ae ps) B.t key value) key else bC (ae ps) B.t key value):=rfl;have B0:Hid (l5 (ae ps) B.t B.m key value=if bX (ae ps) B.t key value=0 then cz B.m key value else B.m):=rfl;have C0:Hid (40<key.size\/160<value.size->bX (ae ps) B.t key value=1):=fun h=>by unfold bX;rw[QX h]
 have C1:Hid (¬(40<key.size\/160<value.size)->value.size=0->bX (ae ps) B.t key value=4):=fun h h'=>by unfold bX;rw[QW h,QX h']
 have C2:Hid (∀w1 c,e8 l L w {B with t:=bC (ae ps) B.t key value} w1->Calls yP 33 #[pV (some ⟨B.bb,0,none⟩),iV .i64 c] w1 fun r w'=>r=rV (bV (bQ A2 A1 c))/\w'=w1):=fun w1 c ⟨l1,S1,m1,h1⟩=>by
  obtain⟨_,_,_,_,a4⟩:=h1.cells;obtain⟨b0,b1⟩:=(f.to hL m1).cells;exact qN a4 b0 b1 c
 have B9:Hid (∀w1,e8 l L w {B with t:=bC (ae ps) B.t key value} w1->w1.cell? ⟨B.bb,2,none⟩=some B.mv/\B.bb<w1.heap.size/\Calls yP 34 #[B.mv,sV key,sV value] w1 fun e w'=>∃v',e=rV v'/\(∃g n c,v'=lV g n c)/\w'.cell? ⟨B.bb,2,none⟩=some B.mv/\w'.frozen? ⟨B.bb,2,none⟩=false/\(key.size<=40->value.size<=160->Hid (∃l3 S3,Mv (fun x=>x=L.tr\/x=L.bk) l l3 w (w'.setCell ⟨B.bb,2,none⟩ v')/\Bk l3 L (w'.setCell ⟨B.bb,2,none⟩ v') {B with t:=bC (ae ps) B.t key value,m:=cz B.m key value,mv:=v'} S3))):=fun w1 ⟨l1,S1,m1,h1⟩=>by
  obtain⟨_,_,a2,_,_⟩:=h1.cells;refine⟨a2,h1.bk.lt,(yI w1 B.mv B.m key value h1.pm (by omega)).mono ?_⟩;rintro e w' ⟨⟨v',rfl,ho⟩,hb⟩;obtain⟨ga,gc,C8,_⟩:=dr ho;have B6:rE w' B.bb B.sb B.tb B.mv B.bv B.hb:=(hb.block _ h1.bk.lt).trans h1.bk;refine⟨v',rfl,⟨ga,_,gc,C8⟩,by rw[Q5 w' _ 2 _ _ _ B6];rfl,Rx w' _ 2 _ _ B6,fun C9 D0=>?_⟩;exact Bk.writes hL m1 h1 v' _ ho hb (by have:=m1.size;omega) (DH h1.om key value C9 D0) (by have:=tS B.m key value;omega)
 have C4:Hid (∀W v',(∃l3 S3,Mv (fun x=>x=L.tr\/x=L.bk) l l3 w W/\Bk l3 L W {B with t:=bC (ae ps) B.t key value,m:=cz B.m key value,mv:=v'} S3)->Calls yP 16 #[pV (some ⟨B.bb,0,none⟩),sV key] W fun e w'=>e=rV (bV (ja (ae ps) A2 A1 (bC (ae ps) B.t key value) (cz B.m key value) key))/\e8 l L w {B with t:=bg (ae ps) (bC (ae ps) B.t key value) key,m:=cz B.m key value,mv:=v'} w'):=fun W v' ⟨l3,S3,m3,h3⟩=>
  (yK h3 (f.to hL m3) hL (T.mv m3 fun k hk hT=>by rw[C6 k hk] at hT;exact hL.apart.2.2 hT) key hk).mono fun e w' ⟨g1,g2⟩=>⟨g1,e8.trans m3 g2⟩
 clear h f hL T hO;generalize lx (ae ps) A2 A1 B.t B.m key value=R at*;generalize l7 (ae ps) B.t key value=FT at*;generalize l5 (ae ps) B.t B.m key value=FM at*;by_cases A4:40<key.size\/160<value.size
 ·have HR:Hid (R=true):=by rw[B1.out,QX A4];rfl
  have e1:=C0.out A4;have HF:Hid (FT=bC (ae ps) B.t key value/\FM=B.m):=by rw[A9.out,B0.out,e1];exact⟨rfl,rfl⟩
  rw[e1] at A5;have B2:lg key value=true:=Ra A4;rw[B2] at A7;go_enter func14,ntmps14
  go_wp2_with fail
  refine A5.out.mono ?_;rintro e w1 ⟨rfl,A0⟩;have A8:=aa A0;clear A0;go_wp2_with fail
  refine(A7.out _).mono ?_;rintro e wx ⟨rfl,A6⟩;subst A6;go_wp2_with fail
  go_ret
  exact⟨by rw[HR.out];rfl,by rw[HF.out.1,HF.out.2];exact A8.out.same⟩
 ·have B2:lg key value=false:=Q9 A4;rw[B2] at A7;by_cases A3:value.size=0
  ·have HR:Hid (R=true):=by rw[B1.out,QW A4,QX A3];rfl
   have e4:=C1.out A4 A3;have HF:Hid (FT=bC (ae ps) B.t key value/\FM=B.m):=by rw[A9.out,B0.out,e4];exact⟨rfl,rfl⟩
   rw[e4] at A5;have C7:value.toList.isEmpty=true:=by rw[gH];exact A3
   clear A3 e4;go_enter func14,ntmps14
   go_wp2_with fail
   refine A5.out.mono ?_;rintro e w1 ⟨rfl,A0⟩;have A8:=aa A0;clear A0;go_wp2_with fail
   refine(A7.out _).mono ?_;rintro e wx ⟨rfl,A6⟩;subst A6;go_wp2_with fail
   go_ret
   exact⟨by rw[HR.out];rfl,by rw[HF.out.1,HF.out.2];exact A8.out.same⟩
  ·have C7:value.toList.isEmpty=false:=by rw[gT];exact A3
   by_cases h0:bX (ae ps) B.t key value=0
   ·have HR:Hid (R=ja (ae ps) A2 A1 (bC (ae ps) B.t key value) (cz B.m key value) key):=by rw[B1.out,QW A4,QW A3,QW (by rw[h0];simp)];rfl
    have HF:Hid (FT=bg (ae ps) (bC (ae ps) B.t key value) key/\FM=cz B.m key value):=by rw[A9.out,B0.out,h0];exact⟨rfl,rfl⟩
    rw[h0] at A5;clear A3 h0;go_enter func14,ntmps14
    go_wp2_with fail
    refine A5.out.mono ?_;rintro e w1 ⟨rfl,A0⟩;obtain⟨d2,D3,hW⟩:=B9.out w1 A0;have HW:=aa hW;clear A0 hW;go_wp2_with fail
    refine(A7.out _).mono ?_;rintro e wx ⟨rfl,A6⟩;subst A6;go_wp2_with fail
    refine HW.out.mono ?_;rintro e w2 ⟨v',rfl,⟨g,n,c,rfl⟩,e2,e3,B7⟩;have B3:=B7 (by omega) (by omega);have B4:=C4.out _ _ B3.out;have C5:Hid (Calls yP 16 #[pV (some ⟨B.bb,0,none⟩),sV key] (w2.setCell ⟨B.bb,2,none⟩ (lV g n c)) fun e w'=>e=rV (bV R)/\tP l L w B FT FM w'):=B4.mono fun e w' ⟨g1,g2⟩=>⟨by rw[HR.out];exact g1,_,by rw[HF.out.1,HF.out.2];exact g2⟩
    clear B7 B4 B3 HW d2;go_wp2_with fail
    refine C5.out.mono ?_;rintro e w3 ⟨rfl,B5⟩;have B8:=aa B5;clear B5;go_wp2_with fail
    go_ret
    exact⟨rfl,B8.out⟩
   ·have HR:Hid (R=bQ A2 A1 (bX (ae ps) B.t key value)):=by rw[B1.out,QW A4,QW A3,QX h0];rfl
    have HF:Hid (FT=bC (ae ps) B.t key value/\FM=B.m):=by rw[A9.out,B0.out,QW h0,QW h0];exact⟨rfl,rfl⟩
    have D2:((bX (ae ps) B.t key value:Int) != 0)=true:=by simp;omega
    clear A3 h0;go_enter func14,ntmps14
    go_wp2_with fail
    refine A5.out.mono ?_;rintro e w1 ⟨rfl,A0⟩;have A8:=aa A0;have C3:Hid (Calls yP 33 #[pV (some ⟨B.bb,0,none⟩),iV .i64 (bX (ae ps) B.t key value:Int)] w1 fun r w'=>r=rV (bV R)/\w'=w1):=by rw[HR.out];exact C2.out w1 _ A0
    generalize (bX (ae ps) B.t key value:Int)=E at*;clear A0;go_wp2_with fail
    refine(A7.out _).mono ?_;rintro e wx ⟨rfl,A6⟩;subst A6;go_wp2_with fail
    refine C3.out.mono ?_;rintro e wy ⟨rfl,D1⟩;subst D1;go_wp2_with fail
    go_ret
    exact⟨rfl,by rw[HF.out.1,HF.out.2];exact A8.out.same⟩
theorem vr:∀(A B) (k),ae (A++B) k=(ae A k).or (ae B k)
 | [],B,k=>rfl
 |p::A,B,k=>by
  show(if(p.1.toList == k.toList)=true then some p.2 else ae (A++B) k)=_
  simp only[ae]
  split
  ·rfl
  ·exact vr A B k
theorem yv:∀(a) (h k),ae (others a h) k=if k=h then none else ae a k
 | [],h,k=>by simp[others,ae]
 |p::a,h,k=>by
  have b:=yv a h k
  unfold others at b⊢
  by_cases e:p.1=h
  ·rw[List.filter_cons_of_neg (by rw[fZ,Ra e];decide),b]
   by_cases e2:k=h
   ·rw[QX e2,QX e2]
   ·rw[QW e2,QW e2]
    simp only[ae,fZ]
    rw[Q9 (by rw[e];exact fun h=>e2 h.symm)];rfl
  ·rw[List.filter_cons_of_pos (by rw[fZ,Q9 e];decide)]
   show(if(p.1.toList == k.toList)=true then some p.2 else ae (List.filter (fun p=>!(p.1.toList == h.toList)) a) k)=if k=h then none else(if(p.1.toList == k.toList)=true then some p.2 else ae a k)
   rw[b,fZ]
   by_cases e2:p.1=k
   ·rw[Ra e2,QX rfl,QX rfl,QW (by rw[<-e2];exact e)]
   ·rw[Q9 e2];simp
theorem vm(a h t k):ae (eO a h t) k=if k=h then some t else ae a k:=by
 unfold eO;have h0:=yv a h k;generalize aZ (others a h) h=n;have b:ae (others a h) k=(ae ((others a h).take n) k).or (ae ((others a h).drop n) k):=by rw[<-vr,Su]
 rw[vr,vr];have h1:ae [(h,t)] k=if k=h then some t else none:=by
  simp only[ae,fZ];by_cases e:k=h
  ·rw[QX e,QX (Ra e.symm)]
  ·rw[QW e,QW (by rw[Q9 fun x=>e x.symm];decide)]
 rw[h1];by_cases e:k=h
 ·rw[QX e,QX e];rw[QX e,b] at h0;cases ha:ae ((others a h).take n) k with
  |none=>rfl
  |some x=>rw[ha] at h0;cases h0
 ·rw[QW e,QW e];rw[QW e,b] at h0;rw[<-h0];cases ae ((others a h).take n) k<;>rfl
theorem vl:∀(l:List yL) (a) (k),(ae (dt a l) k=ae a k/\∀c∈l,ai (str c)≠k)\/∃c∈l,ae (dt a l) k=some (str c)/\ai (str c)=k
 | [],a,k=>.inl ⟨rfl,fun c h=>by cases h⟩
 |c::l,a,k=>by
  rcases vl l (eO a (ai (str c)) (str c)) k with⟨h1,h2⟩|⟨d,h1,h2,h3⟩
  ·rw[vm] at h1
   by_cases e:k=ai (str c)
   ·rw[QX e] at h1
    exact .inr ⟨c,QY ..,h1,e.symm⟩
   ·rw[QW e] at h1
    refine .inl ⟨h1,fun d b=>?_⟩
    rcases Rh.1 b with rfl|b
    ·exact fun h=>e h.symm
    ·exact h2 d b
  ·exact .inr ⟨d,QZ _ h1,h2,h3⟩
def jj(a:List (yB×yB))(c b:Int)(s:yB):List (yB×yB):=
 if a=[] then a
 else if(a.getD (bO b a.length) (⟨#[]⟩,⟨#[]⟩)).1.size≠32 then a
 else if c=6 then others a (a.getD (bO b a.length) (⟨#[]⟩,⟨#[]⟩)).1
 else if 4096<s.size then a
 else eO a (a.getD (bO b a.length) (⟨#[]⟩,⟨#[]⟩)).1 s
theorem MS(a)(c b:Int)(s):(jj a c b s).length<=a.length+1:=by
 unfold jj;split
 ·omega
 ·split
  ·omega
  ·split
   ·have:=nR a (a.getD (bO b a.length) (⟨#[]⟩,⟨#[]⟩)).1;omega
   ·split
    ·omega
    ·exact yF _ _ _
end Go.Proofs.YtiimkkahmpmhdaaGreatDoor
